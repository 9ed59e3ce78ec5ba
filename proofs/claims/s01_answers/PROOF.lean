import PyProof.Rows.All
import Wide.All
import OpenK.AllK
import Wide.FinOn
import PyProof.EqAt
import PyProof.EqKinds
import PyProof.TupleCall
import KE.BitLaws
import KE.KTryMore
import PyProof.ExcAttrAll.Exception
import PyProof.ExcInit
import PyProof.InstStoreFacts
import KE.OsHead
import KE.OsGo
import Open.SpecLaws
import KE.IntBitsLaws
import PyFlat
import PyWqagca
import PySem.Challenge.RW_marblebench_s01_answers
set_option Elab.async false
set_option linter.all false
set_option maxRecDepth 100000
set_option maxHeartbeats 0
set_option bootstrap.genMatcherCode false
set_option genSizeOf false
local macro_rules|`(#[$x,*])=>`(⟨$x,*⟩)
local macro_rules|`(#v[$x,*])=>`(List.toArray [$x,*])
local macro_rules| `(tactic|omega)=> `(tactic|first|lia|omega+splitDisjunctions)
open PySem renaming Addr→B,Shared→M,Obj→ak,wpAny_bind→ap,sizeLine→aq,model→ar,starEach→az,eval→aA,Pos→aU,Stmt→aX,Around→a_,boot_len→bg,Env→bp,wpAny_pure→bO,Scope→cz,backTo→cB,Sem→dM,wpAny_mono→dN,cellsFrom→d5,OsState→em,mainGlobals→en,wpAny_field→eX,compareOp→e8,NameKind→fc,Params→fx,rawInt→fy,FuncData→fA,mem_of_lookup→fB,wpAny_loadPart_at→fE,treeTable→fT,cLine→gm,compEnvC→gp,holding→gP,IsZip→gX,DictEntry→hh,sysModules→hj,binaryOp→hp,Paired→h4,Model→h7,rule→h_,typeLookup→ic,standAt→i3,swapsWith→i6,attributeBase→jd,atKey→jg,excClassObj→jm,importedModules→jV,assignEach→j4,wpAny_standAt→j6,getMethod→ka,wpAny_Call_Name_kw→kf,bindL→kg,bindC→kh,PyData→km,pushCells→ko,Flow→lb,CmpOp→lg,behindInMarks→lh,assign→ll,getItem→lp,wpAny_passesOwn→lr,IntMulOk→lx,backToKw→ly,keywordEach→lz,sliceBounds→lC,notedBy→lK,noteFrame→lL,valueAt→lN,wpAny_isSubtype_exc→lV,GenState→m_,bootBuiltins→ng,wpAny_truthy_bool→nl,Operator→ny,findBy→nH,callWith→nJ,wpAny_seqItems→oi,tupleKind→o4,Drawn→o6,wpAny_execs_nil→pa,wpAny_holding→pb,pyNext→pc,getAttr→pk,Result→pm,BindsTo→pq,codeAny_mono→pu,call_meets→pE,wpAny_typeLookup_exc→pQ,callerA→p8,wpAny_setField_rec→qw,setItem→sg,inplaceOp→sh,letOwnedTupleGo→sj,IsRangeIter→sl,wpAny_pyIter_list→sm,foldedSetIterable→sq,sizeLine_eq→sv,setAttr→sy,bindArgs→sE,subscripted→sH,pushCells_keeps→sU,tupleKind_room_in1→s2,wpAny_pyIter_zip→s_,raiseStmt→tq,wpAny_onRaise→t4,Within→wl,builtinsNs→wn,storeName→wq,wpAny_Name→wr,wpAny_call→w5,Keyword→w8,seqIndex_of→xp,seqIndex_neg→xq,operate→xt,typeIs_str→xu,typeIs_int→xx,compPost→xV,wpAny_setField→yi,checkBuiltinCall→yn,wpAny_handleBy_cons→yq,codeAny_handlers_test→yr,StoreFacts→ys,wpAny_nextOf_list_item→zn,wpAny_letGo→zo,wpAny_loadName_local→Di,wpAny_loadName_cell→Dj,wpAny_isTrue_Compare1→Dr,wpAny_execs_cons→DE,interactive→DF,wpAny_assign_Name→DI,wpAny_pyNext_range_end→DZ,wpAny_pyIter_rangeiter→D0,wpAny_pyIter_range→D4,intBits_le_64→Ef,wpAny_nsSet1→EG,wpAny_lookBehind→EI,pastItsLine_dict→EJ,plainObj_wpAny_Assign_Attribute→EU,recursionLimit→EY,evalPart_none→Fk,slot_list_getitem→Fv,call_list_seq→FP,nums_intItems→F7,newFunctionEnv→Gj,comprehension→Gq,wpAny_newObj_type→Gr,wpAny_getItem_of→GB,wpAny_Dict_empty→GY,wpAny_pyIter_enum→G9,wpAny_letOwnedTupleGo_zip→Hc,codeAny_call_builtin→HD,codeAny_handlers_suite→HG,arm_exec_Raise→H1,wpAny_attempt→Jx,wpAny_callSpecial?_slot→Jy,wpAny_call_entry→Jz
open List renaming length_map→ag,getElem?_eq_some_iff→aC,getD_eq_getElem?_getD→aE,replicate→aP,range→aS,getElem?_eq_getElem→a2,mem_cons_self→a4,getElem?_map→a6,mem_of_getElem?→a7,mem_cons_of_mem→bj,length_append→bq,map_append→br,mem_cons→bw,map_cons→bE,mem_map→bK,length_cons→bV,mem_singleton→cb,length_take→ck,size_toArray→cE,getElem?_append_left→cF,length_replicate→cQ,mem_append→c4,getElem?_append_right→dB,map_map→dG,take_length→dY,getElem?_eq_none→eu,append_nil→eH,length_drop→eK,mem_range→e7,foldl_cons→ff,getElem?_set→fk,length_range→fm,take_of_length_le→fD,getElem?_replicate→fY,range_succ→f6,filter_cons→f7,map_congr_left→gu,getElem?_zipIdx→gv,not_mem_nil→gz,getElem?_zip_eq_some→g7,lookup→ht,find?_cons→hx,sum_cons→hJ,any_eq_true→hT,length_set→ij,map_nil→im,all_eq_true→io,getElem_mem→iv,foldl_append→iA,flatMap_cons→iG,mem_append_right→ja,take_add_one→jJ,length_zip→jL,append_assoc→kl,ext_getElem?→kx,takeWhile_cons_of_pos→kC,any_cons→lD,length_singleton→lF,lookup_cons→lI,getElem?_of_mem→mo,mem_filter→nf,filterMap_cons→ni,getElem?_set_self→nk,mem_of_mem_take→og,length_zipIdx→oh,map_drop→on,map_take→oo,getElem?_range→op,take_succ_cons→oq,drop_drop→ou,filter_append→oD,findSome?_append→oM,getElem?_set_ne→o7,nodup_cons→py,replicate_succ→pC,flatten_cons→pD,replicate_succ'→qo,map_replicate→qq,zipIdx_cons→qx,takeWhile_cons_of_neg→qC,map→qR,length_filter_le→qZ,flatMap_append→rk,find?_append→ro,forIn_nil→sQ,sum_append_nat→tV,getElem?_drop→t2,drop_eq_nil_of_le→ue,flatMap_nil→u7,flatMap→u9,length_reverse→vV,mem_append_left→wo,mem_filterMap→wG,of_mem_zip→xb,length→xh,getElem?_take_of_lt→xi,foldl→xC,forIn_cons→xQ,length_nil→xZ,snd_lt_of_mem_zipIdx→yV,take_append_drop→zj,zipIdx_nil→zm,zipIdx_append→zP,filter_congr→zY,cons_append→z4,findSome?_cons→AD,exists_of_findSome?_eq_some→AS,mem_of_find?_eq_some→A4,map_set→Bf,length_eq_zero_iff→Bi,reverse_cons→BD,any_eq_false→EA,all_cons→FJ,nil_append→F4,toList_toArray→Hk,contains_cons→Hz,fst_mem_of_mem_zipIdx→IR,map_inj_right→I4,sum_nil→Ja,any_map→JU,drop_eq_getElem_cons→JZ,idxOf?_cons→J7,idxOf?_eq_some_iff→J_,getElem?_eq_none_iff→Ka,filter_nil→KC,length_flatten→KR,map_flatMap→LA,mem_flatMap→LC,range_add→LX,map_id→MN,mem_or_eq_of_mem_set→MT,contains_iff_mem→MW
open PySem.W renaming Frag→aj,nsIn→cn,keepIn→ep,findIn→hs,isFn→ib,boot_heap→iZ,emptyDict→jc,topFrame→jU,instObj→jW,fnOf→ki,SharedT→la,topStub→mV,openGood→mZ,hideAll→o5,callWith_K→px,piecesOf→rW,staticsOk→rY,namesBound→rZ,gensDone→r0,laidKept→r1,topRun→r2,topFrom→r4,lookIn→sw,plainGet→sx,codeIn→sF,mg_of→tF,boot_drawn→wc,openSeen→wg,methodObj→wm,hasDictIn→wQ,plainGet_of→wR,takerIn→wS,makesIn→wT,callWith_K0→w6,nsOkIn→ym,hideAll_get→Db,of_hideAll→Dd,hideAll_none→De,handedIn→EC,plainOver→EF,typeIn→EL,methodCall_KW→Fb,cellsFrom_some→Ff,isNs_of_in→Hy,WRecords→H_,length_le_weightAllW→Ig
open Marble renaming Board→an,Bytes→ay,Frac→aQ,Name→bo,read→bQ,Part→bX,Tok→cw,Bench→cy,no→c9,listed→da,Laid→db,w→du,bumpF→dv,WORDS→dF,answer→eb,ascii→eC,step→eU,sends→e0,sendRate→fM,Run→fO,bump→f8,Call→gd,kw→gA,Answer→gG,does→gM,token→hN,says→iM,liftOf→iS,valueOf→jA,spaced→jG,tokens→kE,decimal→kJ,choose→kX,NONE→k7,keptBefore→k9,long→mz,yes→mP,tokensFrom→ot,Stand→qt,Spot→qS,readFrom→qT,isLetter→uf,rowsOf→vd,ofBoard→vg,start→vB,Lifts→vL,fresh→vQ,isDigit→zG,PARTS→zR,MOST→A3,sendOn→JK,ofBalls→Ml,ofNumbers→Mo,ofTwo→MD,ROWS→MF,sum→NB,liftAt→NC,bytes→OI
open Nat renaming le_refl→av,zero_le→aR,gcd→bh,le_trans→bB,mul_assoc→cx,lt_of_lt_of_le→cP,ne_of_lt→cZ,le_of_lt→dc,mul_comm→dh,one_pos→ek,sub_self→ez,mul_pos→fu,lcm→fN,zero_add→f4,lt_irrefl→gi,ne_of_gt→hm,min_eq_left→hL,mod_lt→jj,mod_eq_of_lt→jt,gcd_pos_of_pos_left→kP,Coprime→kQ,dvd_trans→kR,mul_div_cancel_left→kS,le_add_right→lR,toDigits→lT,lt_of_le_of_lt→lU,lt_succ_of_le→l2,add_assoc→l3,pow_pos→mc,pow_succ→md,mul_le_mul_right→mf,gcd_dvd_left→mr,pow_le_pow_right→oc,add_zero→p_,gcd_dvd_right→q8,le_of_eq→sC,succ_mul→sO,le_of_succ_le→sV,div_eq_of_lt→tI,mod_self→tO,mul_succ→tW,mul_zero→ua,add_sub_cancel_left→ug,gcd_le_left→uM,mul_one→uN,div_pos→uO,le_of_dvd→uP,dvd_lcm_left→uZ,dvd_lcm_right→u0,lt_succ_self→w0,add_comm→xJ,lt_succ_of_lt→xR,digitChar→yb,div_add_mod→yc,zero_lt_two→yM,mod_add_mod→yN,mul_add_div→yO,mul_add→y7,mul_le_mul_left→y8,gcd_comm→zw,eq_zero_or_pos→z2,log2_lt→z3,div_le_self→Ac,coprime_div_gcd_div_gcd→Ae,eq_of_mul_eq_mul_left→Af,one_dvd→Ag,pow_le_pow_left→Ah,gcd_pos_of_pos_right→Am,dvd_antisymm→Ao,mul_left_comm→Av,lcm_dvd→Aw,min_self→Bs,le_of_ble_eq_true→Cy,lt_trans→Gz,toDigits_of_lt_base→Hh,strongRecOn→Hj,add_sub_assoc→IF,le_of_not_lt→IN,add_mul→IT,zero_mul→IU,div_self→IZ,one_mul→I0,gcd_zero_right→JP,lt_or_ge→JS,mul_div_cancel'→KZ,mul_dvd_mul_left→K0,pow_mul→K2,pow_lt_pow_right→K3,eq_of_mul_eq_mul_right→Ld,dvd_refl→Lm,add_mul_mod_self_left→Lq,beq→LH,ble→LJ,min_le_left→Nt,not_lt→OA,succ_le_succ→O8
open PySem.Heap renaming lt_size→bc,get?_push_of_some→bn,get?_push_size→dA,size_push→eV,get?_update_other→ii,get?_update_self→lB,SameBut→nj,IsList→zp,get?_update_ne→HI
open PySem.Str renaming ofString→bH,join→x9,length→Fx
open Bool renaming and_eq_true→bJ,false_ne_true→cC,eq_false_iff→dE,noConfusion→eN,eq_iff_iff→fU,or_eq_true→lM,not_eq_true'→n2,or_true→oN,or_false→sI,and_eq_true_iff→tD,true_and→uy,and_false→xG,false_or→xX,false_and→DU,true_or→Gv
open PySem.Value renaming ref→bN,none→gO,type→lc,int→na,builtin→pR,str→r5,bool→r6,isInt→CU,isStrOf→CV,bytes→C7,float→C8
open Option.some renaming inj→b5,injEq→QY
open Ne renaming symm→b8
open PySem.PassesOwn renaming never→cv,leaving→jF
open PySem.F renaming plainAttrs_list→cI,slot_list_append→dU,type_list_append→ea,slot_list_extend→lH,excBase_Exception→n3,type_list_extend→oe,slot_zip_next→t7,slot_list_pop→xI,attr_Exception→yo,slot_int_rmul→F5,slot_dict_getitem→GR,slot_str_join→Hl,type_str_join→Hm,type_list_pop→Jg,entry_zip_next→JA,args_zip_next_1→JB
open Sum renaming inr→cL,inl→eI
open False renaming elim→dz
open Rat renaming natCast_mul→dI,natCast_inj→Al,natCast_add→An
open UInt8 renaming toNat→eA,toNat_inj→ql,ofNat→q0,toNat_ofNat'→KG
open MarbleNeutral renaming long→eE,natural→ge,nats→gH,text→gI,step→jR,asked1→O6,asked→Pp
open Marble.Board renaming isTray→eQ,next→jE,mayLift→jN,entry→ky,names→kH,start→l6,put→mm,come→qj,falls→qr,toksOf→q5,ratesFrom→rg,find→ut,liftsOk→vH,flowFrom→yW,came→y2,apart→AC,compares→AG,go→Bu,fed→MV,runs→N7,fresh→QI,trays→QO,nameAt→QP,text→QQ
open PyProof.Rows renaming envOfC→gU,AllBare→h6,callWith_type1→lu,Call_→nC,Constant_none→r9,boot_range→wE,Subscript_→xm,subscriptTail→xn,IntsAre→xK,boot_sum→AN,isTrue_plain→Ds,floordiv_int→Eg,subscriptTail_builtinR→Fu,boot_str→KI,boot_max→NU,iadd_int→P8,callWith_builtin1→P9,join_list→Qz,join_tuple→QA,boot_ord→QR,boot_min→QW,boot_list→QX,boot_tuple→Q0
open PySem.PyData renaming int→g8,eqv→jf,canLayAll0→LR,depthAll→LS,eqvAll→LU
open PySem.Obj renaming mapFields→hz,mapSeq→nM,data_mapFields→yh,isFreed_of_fields→Hr
open Marble.Frac renaming of→hO,add→Lb
open PyFlat renaming rows→hU,calls→mI,row→A9,told→Pf,atMost→Po
open PyWqagca renaming whole→hZ,shape→jQ,answers→v4,answers_asked→Pl,calls→Pn
open Or renaming inl→iq,inr→jk
open Int renaming toNat_of_nonneg→jK,natAbs_natCast→z1,fdiv_eq_ediv_of_nonneg→Eh,natCast_add→LP,zero_add→N8
open True renaming intro→kc
open Option renaming map_some→kB,map_eq_some_iff→wh,isSome_map→x2,map_map→zM,getD_none→FD,isSome_some→Gk,none→Ho
open Marble.Tok renaming text→kL
open Classical renaming byContradiction→kU,not_forall→QV
open PySem.Txt renaming join→lS
open PySem.SeqAt renaming shaped→nO,EqAt→FI
open PySem.NameKind renaming free→nP,cell→xS
open Eq renaming trans→oJ,symm→vN
open PySem.Calls renaming Name_function_global→o_,loadGlobal_global→r_,callWith_builtin→xA,spliced_nil→E4,spliced_cons→E5,evalArgs_plain→FS
open Array renaming getElem?_eq_some_iff→pN,length_toList→sd,mk→wb,toList→wu,append_assoc→Dg,find?_toList→Ez
open PySem.W.Codec renaming encAll→pV,denoteAll→yD,app→yL
open Nat.Coprime renaming dvd_of_dvd_mul_left→q9,dvd_of_dvd_mul_right→QU
open Prod.mk renaming inj→r3
open PySem.Paired renaming length→r7,snoc→Gw
open PySem.Builtin.List renaming listTooLong→sN,listFitsIndex→Qs
open ForInStep renaming yield→s1
open PySem.W.WData renaming weightAll→tA,int→H9
open PySem.Data renaming seq→tE,dict→Iq
open Marble.Stand renaming set→tY,num→yZ
open PySem.Builtin.SmallTypes renaming nextOf→t5,ownedTupleIsFree→zl,ownedTupleHandOut→Jr
open Sum.inl renaming inj→wi
open Sum.inr renaming inj→wj
open PySem.Builtin.Range renaming rangeSize→wD,small→Qx
open PySem.Around renaming under→w3
open PySem.Code renaming isFrame→w4,frames→E2
open Char renaming toNat→x_
open Marble.Part renaming isTray→ze,isWheel→Mf,tray→QT,renumber→Q1
open PySem.Shared renaming heap→zq
open Marble.Run renaming rests→Bx,like→QZ
open PySem.W.Fast renaming tw14364793385576792824→Cn,tw15667345088766844465→Co,te14364793385576792824→Cr,tw10110043849684766642→CA
open Prod renaming ext→CS
open PySem.SeqAt.EqAt renaming int_str→C4,str_int→C5,same→Qa,none_bool→Qb,none_int→Qc,none_str→Qd,bool_none→Qe,bool_bool→Qg,bool_int→Qh,bool_str→Qi,int_none→Qj,int_bool→Qk,int_int→Ql,str_none→Qm,str_bool→Qn,str_str→Qo
open PySem.CmpOp renaming In→Dl,NotIn→Dm
open PySem.Walks renaming range→DY
open PySem.IsRange renaming new→D5
open PyProof renaming noPylong_small→Ei
open PySem.Within renaming cons→EH
open PySem.Heap.Ns1 renaming of_empty→EM
open PySem.EntryCells renaming newEntry→Hs
open PySem.Builtin.ObjectAttr renaming storeInDict→HJ,newKeyGuard→QB
open PySem.Value.type renaming inj→Il
open PySem.Heap.IsList renaming push→Ju
open Marble.Spot renaming wheelWay→Kj,open_→Kk,wheelEnd→Kl,gateTo→Kn,gateOpen→Ko,gateEnd→Kp,hopEnd→Ks,trayEnd→QJ,gateSize→QK,gateWith→QL,hopTo→QM,begun→QN
open PySem.Builtin.Int renaming intBits→K4
open List.cons renaming injEq→Py
open PySem.EqNone renaming eq_none_none→Pz,eq_none_bool→PB,eq_none_int→PD,eq_none_str→PF,eq_bool_none→PJ,eq_int_none→PL,eq_str_none→PN,ne_none_none→PR,ne_none_bool→PU,ne_none_int→PV,ne_none_str→PX,ne_bool_none→PY,ne_int_none→P0,ne_str_none→P2
open PySem.EqMixed renaming eq_bool_str→PK,eq_int_str→PM,eq_str_bool→PP,eq_str_int→PQ,ne_bool_str→PZ,ne_int_str→P1,ne_str_bool→P4,ne_str_int→P5
open PySem.DictEntry renaming refKey→P6
open PySem.W.Looks renaming here→P7
open PySem.Heap.IsSliceOf renaming new→P_
open PySem.IsL renaming update→Qp
open PySem.AutoSeq1 renaming list_extend_list_list_0→Qq
open PySem.MeetsSeq renaming list_pop_last→Qr
open PySem.AutoListH renaming list___mul___list_int_3→Qt
open PySem.ReadsAll renaming nil→Qu,cons→Qv
open PySem.Heap.DictOf renaming new→Qw
open PySem.W.KIN renaming signs_num→Qy
open PySem.W.ReadsAllW renaming nil→QC,cons→QD
open PySem.W.OpenSpec renaming post_iff→QE
open List.Perm renaming map→QF
open PySem.Heap.SameBut renaming update→QG
open Function renaming comp→QH
open PySem.IntMulOk renaming of_le→QS
namespace L2
open PySem
def cY(a:aX)(b:Nat):aX:=match a with
 | .ClassDef _ _ _ body _ _ _ _ _ _ _=>body.getD b (.Pass #[0,0,0,0])
 |_=>.Pass #[0,0,0,0]
def jS(b:aX):Arguments:=match b with
 | .FunctionDef _ a _ _ _ _ _ _ _ _=>a
 |_=>{posonlyargs:=[],args:=[],vararg:=none,kwonlyargs:=[],kw_defaults:=[],kwarg:=none,defaults:=[]}
def gN(a:aX):List aX:=match a with
 | .FunctionDef _ _ b _ _ _ _ _ _ _=>b
 |_=>[]
def bi(a:aX):cz:=match a with
 | .FunctionDef _ _ _ _ _ _ sc _ _ _=>sc
 |_=>{kind:=.function,names:=[],isGenerator:=false,isCoroutine:=false}
end L2
namespace Mb
open PySem L2
def am(a:Nat):aX:=PySem.Challenge.pw_marblebench_s01_answers.main.body.getD a (.Pass #[0,0,0,0])
abbrev B_:aX:=am 4
abbrev Ca:aX:=am 6
abbrev v5:aX:=am 7
abbrev Cb:aX:=am 21
abbrev Cc:aX:=am 24
abbrev Cd:aX:=am 57
abbrev Ce:aX:=am 61
abbrev Cf:aX:=am 67
abbrev Cg:aX:=am 68
abbrev rT:aX:=am 71
abbrev v6:aX:=am 76
abbrev Ch:aX:=am 95
abbrev v7:aX:=am 96
abbrev Ci:aX:=am 98
abbrev v8:aX:=am 100
abbrev Cj:aX:=am 102
abbrev v9:aX:=am 108
abbrev v_:aX:=am 109
abbrev Ck:aX:=am 115
abbrev wa:aX:=am 139
end Mb
section
namespace Mb
open PySem PySem.W PySem.Spec PyProof.Rows L2
theorem Cm:PySem.Challenge.rw_marblebench_s01_answers.wellSaid=true:=by decide+kernel
noncomputable def hB:List aX:=behindTheImports PySem.Challenge.pw_marblebench_s01_answers
noncomputable def jT:bp:={scope:=PySem.Challenge.pw_marblebench_s01_answers.main.scope,locals:=mainNs,globals:=mainNs,cells:=[],code:=.ref 13,frame:=some 14}
noncomputable def hC:Code:=.body hB jT
noncomputable def mU(w:World)(os:em):M:=#[iZ w.params,wb [],wc,boot_toks,os]
noncomputable def wd:List ak->Nat->BT->BT
 |[],_,a=>a
 |c::d,b,a=>wd d (b+1) (a.ins b c)
noncomputable def rV(a:M):la:=#[wd a.heap.objs.toList 0 .nil,a.heap.objs.size,a.heap.life,a.gens,a.drawn,a.toks,a.os]
abbrev gh:Option Value:=some (.ref 6)
abbrev h0:aU:=#[0,0,0,0]
abbrev D:aU:=#[703,0,717,15]
noncomputable abbrev o2:=Cn
noncomputable abbrev pw:=PySem.Challenge.pw_marblebench_s01_answers
noncomputable def h2(w:World)(os:em):M:=((Co o2 pw w 11 gh 12 (mU w os) (mV pw)).map (·.1)).getD #[#[#v[],default],#v[],wc,0,os]
theorem Cp(w:World)(os:em):Co o2 pw w 11 gh 12 (mU w os) (mV pw)=some (h2 w os,#[Fast.tw11892475500146522536 o2 hC,hC,h0,[jU h0]]):=by kernel_rfl
theorem Cq(w:World)(os:em):topGo fT pw w 11 gh 12 (mU w os) (mV pw)=some (h2 w os,#[denote fT hC,hC,h0,[jU h0]]):=by
 rw[Fast.te15667345088766844465,Cr,Fast.te11892475500146522536];exact Cp w os
theorem Ct(w:World)(os:em):(rV (h2 w os)).abs=h2 w os:=by kernel_rfl
noncomputable def o3:Thread:=#[(Fast.tw12563942051412417395 hB jT).wrap doneF deadEnd id id,hC,h0,[jU h0]]
theorem Cu:rW hB jT hC h0 [jU h0]=o3:=by
 unfold rW o3;rw[Fast.te12563942051412417395]
noncomputable def hq:Program:=view pw [139]
noncomputable def hl:List Str:=pw.boundNames.filter λa=> !(a==("answers":Str))
noncomputable abbrev hX(a:M):Bool:=xlAt hq [] a&&recOk [] a
noncomputable def de(b:fx)(a:Str)(c:Nat)(d:Value):hh:=#[PyData.keyHash b a,.str a c,d]
noncomputable def di(a:Int)(b:Nat)(c:Value):hh:=#[a,.int a b,c]
noncomputable def dd(a:Nat)(b:List hh):ak:=#[.type "dict",none,.dict b.toArray a,#v[]]
noncomputable def tu(a:Nat)(b:List Value):ak:=#[.type "tuple",none,.seq b.toArray a,#v[]]
noncomputable def cl(a:Str)(b c:List Value)(d:B)(e:Array (Option Value)):ak:=#[.type "type",none,.cls {name:=a,bases:=b,mro:=c,ns:=d,qualname:=a},e]
noncomputable def fo(a b:Str)(st:aX)(c:Value)(d:Nat):ak:=#[.type "function",none,.func (fnOf a b (jS st) (gN st) (bi st) .none .none .none c none (.ref d) .none),#v[]]
noncomputable def co(d e:Str)(a:Nat)(b f:Int)(g i j k l:Value)(c:Nat):ak:=#[.type "code",none,.fields #v[.str d a,.str e (a+1),.str "/claim/cut.py" (a+2),.int b 0,.int f 0,.int 0 0,.int 0 0,.int 3 0,g,.bool true,.int 181 0,i,.none,j,k,l,.int c 0,.int b 0,.str "/claim/cut.py" (c+1)],#v[]]
noncomputable def cA:aX->Str
 | .FunctionDef n _ _ _ _ _ _ _ _ _=>n
 |_=> ""
noncomputable def kk(a b:Nat):aX:=cY (am a) b
noncomputable def dr(a:fx)(b:Str)(c d:Nat):hh:=de a b c (.ref d)
noncomputable def dj(a:Int)(b c:Nat):hh:=di a b (.ref c)
noncomputable def cm(d:Str)(st:aX)(c:Nat)(e f:Int)(a b g:Nat):ak:=co (cA st) d c e f (.ref (a-b)) (.ref (a-b+1)) (if b=5 then .ref (a-3) else .none) (if b=5 then .ref (a-2) else .none) (.ref (a-1)) (c+g)
noncomputable def ca(a:Nat):=cm (cA (am a)) (am a)
noncomputable def fa(a:Nat):=fo (cA (am a)) (cA (am a)) (am a)
noncomputable def ti(b c:Int)(a:Nat):ak:=tu 0 [.int b a,.int c (a+1)]
noncomputable def xd(b:fx)(c:Nat)(d:Value)(a:Nat)(e:Int):ak:=dd 3 [de b "__module__" a d,de b "__firstlineno__" (a+4) (.int e (a+3)),dr b "__static_attributes__" (a+5) (c-1),dr b "__weakref__" (a+7) (c+2),de b "__doc__" (a+8) .none]
noncomputable def xc(a:Nat)(b:Str)(c:Nat):ak:=cl b [.type "Exception"] [.ref (a+1),.type "Exception",.type "BaseException",.type "object"] a #v[some (.ref (a-8)),none,some (.str b (c-7)),some (.str b (c+1)),some (.builtin "Exception.__new__"),some (.bool true)]
noncomputable def nd(a:fx)(c:Nat)(f:Value)(d:Nat)(g:Int)(b:Nat)(i:List (Str×Nat×Nat)):ak:=dd 4 (de a "__module__" d f::de a "__firstlineno__" (d+4) (.int g (d+3))::i.map (λe=>dr a e.1 e.2.1 e.2.2)++[dr a "__static_attributes__" b (c-1),dr a "__dict__" (b+2) (c+2),dr a "__weakref__" (b+4) (c+3),de a "__doc__" (b+5) .none])
noncomputable def nc(b:Nat)(a:Str)(c:Nat):ak:=cl a [.type "object"] [.ref (b+1),.type "object"] b #v[none,none,some (.str a (c-7)),some (.str a (c+1)),some (.builtin "object.__new__"),some (.bool true)]
noncomputable def m0:Value:=.str "marblebench.board" 187
noncomputable def m1:Value:=.str "marblebench.scan" 319
noncomputable def m2:Value:=.str "marblebench.reading" 433
noncomputable def m3:Value:=.str "marblebench.refusals" 631
noncomputable def m4:Value:=.str "marblebench.checks" 793
noncomputable def m5:Value:=.str "marblebench.balls" 859
noncomputable def m6:Value:=.str "marblebench.lifts" 936
noncomputable def m7:Value:=.str "marblebench.runs" 962
noncomputable def m8:Value:=.str "marblebench.bench_calls" 1072
noncomputable def m9:Value:=.str "marblebench.bare" 1205
noncomputable def mW:Value:=.str "marblebench.turns" 1219
noncomputable def mX:Value:=.str "marblebench.compare" 1261
noncomputable def eG:Value:=.str "marblebench.calls" 1308
noncomputable def mY:Value:=.str "marblebench.history" 1501
noncomputable def rX:Value:=.str "marblebench.bench" 1556
noncomputable def hK(a:fx):aj:=
 (nat_lit 3,dd 134 (de a "__name__" 165 (.str "marblebench.bench" 1556)::de a "__doc__" 166 .none::de a "__package__" 167 .none::de a "__loader__" 168 (.builtin "__main__.__loader__#opaque")::de a "__spec__" 169 .none::dr a "__annotations__" 170 6::dr a "__builtins__" 171 4::de a "__file__" 173 (.str "/claim/cut.py" 172)::de a "__cached__" 174 .none::dr a "Part" 227 31::dr a "Hopper" 258 52::dr a "Board" 289 73::dr a "parts_of_kind" 295 82::dr a "with_numbers_told" 306 89::dr a "part_tokens" 312 94::dr a "printed" 318 99::dr a "WORDS" 328 100::de a "LETTERS" 330 (.str "abcdefghijklmnopqrstuvwxyz" 329)::de a "MOST_LETTERS" 332 (.int 16 331)::de a "MOST_DIGITS" 334 (.int 3 333)::de a "BLANK" 336 (.int 32 335)::de a "LINE_END" 338 (.int 10 337)::de a "ZERO" 340 (.int 48 339)::de a "NINE" 342 (.int 57 341)::de a "SEMICOLON" 344 (.int 59 343)::de a "LETTER_A" 346 (.int 97 345)::de a "LETTER_Z" 348 (.int 122 347)::dr a "Token" 381 117::dr a "is_letter" 388 128::dr a "is_digit" 395 135::dr a "row_end" 405 142::dr a "letters_token" 411 147::dr a "digits_token" 421 154::dr a "scan" 432 161::de a "MOST_PARTS" 436 (.int 64 435)::de a "MOST_HOPPERS" 438 (.int 8 437)::de a "LEAST_WAYS" 440 (.int 2 439)::de a "MOST_WAYS" 442 (.int 4 441)::de a "LEAST_TOGETHER" 444 (.int 2 443)::de a "MOST_TOGETHER" 446 (.int 100 445)::dr a "Fault" 475 178::dr a "Reader" 622 289::dr a "read_board" 630 300::dr a "OutOfBounds" 652 310::dr a "NoBoard" 672 323::dr a "NotThere" 692 336::dr a "WrongCount" 712 349::dr a "TooMany" 732 362::dr a "NeverSo" 752 375::dr a "NothingLaid" 772 388::dr a "TooLate" 792 401::de a "MOST_BYTES" 796 (.int 16384 795)::dr a "check_most" 804 411::dr a "check_rounds" 812 418::dr a "check_below" 820 425::dr a "check_tray" 828 432::dr a "check_count" 836 439::dr a "board_of" 843 446::dr a "boards_of" 851 453::dr a "counted" 858 460::dr a "first_numbers" 866 465::dr a "let_go" 880 472::dr a "let_all_go" 891 479::dr a "send_on" 904 486::dr a "at_hoppers" 910 491::dr a "came_to" 922 498::dr a "numbers_behind" 935 505::de a "NO_LIFT" 939 (.int 255 938)::dr a "check_lifts" 949 512::dr a "lifted" 955 517::dr a "account" 961 522::dr a "Run" 1002 539::dr a "laid" 1008 548::dr a "put_in" 1017 555::dr a "with_lift" 1027 562::dr a "with_balls" 1038 569::dr a "rests" 1045 576::dr a "round_behind" 1051 581::dr a "rounds_behind" 1060 588::dr a "find_loop" 1071 595::de a "MOST_GO" 1075 (.int 1000 1074)::de a "MOST_LOOP" 1077 (.int 300 1076)::de a "BALLS_BOUND" 1079 (.int 1099511627776 1078)::dr a "lay" 1088 602::dr a "put_lift" 1100 609::dr a "drop" 1112 616::dr a "go" 1123 623::dr a "back" 1132 630::dr a "tell_stands" 1144 637::dr a "tell_account" 1154 644::dr a "tell_loop" 1164 651::dr a "tell_text" 1174 658::dr a "BENCH_CALLS" 1193 659::dr a "answer_on_bench" 1204 666::dr a "ever_come_to" 1212 671::dr a "bare_board" 1218 676::dr a "common_divisor" 1229 683::dr a "common_multiple" 1237 690::dr a "again" 1243 695::dr a "mean" 1254 702::dr a "share" 1260 707::de a "MOST_ROWS" 1264 (.int 3000 1263)::de a "MOST_BALLS" 1266 (.int 2000 1265)::dr a "comparable" 1275 714::dr a "count_rows" 1285 721::dr a "rows_of" 1291 726::dr a "first_apart" 1297 731::dr a "ever_apart" 1307 738::de a "MOST_LET" 1311 (.int 2000 1310)::dr a "tell_fault" 1320 745::dr a "print_board" 1328 752::dr a "tell_sizes" 1334 757::dr a "board_to_let" 1343 764::dr a "tell_let" 1353 771::dr a "tell_falls" 1362 778::dr a "board_for_balls" 1370 785::dr a "tell_many" 1380 792::dr a "tell_came" 1389 799::dr a "tell_again" 1398 806::dr a "tell_until" 1413 813::dr a "tell_share" 1422 820::dr a "tell_apart" 1432 827::dr a "tell_ever" 1441 834::dr a "print_bare" 1449 841::dr a "tell_proof" 1461 848::dr a "CALLS" 1490 849::dr a "answer_call" 1500 856::de a "MOST_BACK" 1504 (.int 32 1503)::dr a "Bench" 1555 894::de a "LAST_WITHOUT_BENCH" 1559 (.int 14 1558)::dr a "SHAPES" 1652 899::dr a "rows_from" 1664 930::dr a "answer_or_refusal" 1674 937::dr a "answers" 1680 942::[]))::
 (nat_lit 27,cm "Part.__init__" (kk 1 0) 201 4 7 27 5 10)::
 (nat_lit 28,fo (cA (kk 1 0)) "Part.__init__" (kk 1 0) m0 27)::
 (nat_lit 30,nd a 30 m0 196 2 220 [("__init__",213,28)])::
 (nat_lit 31,nc 30 "Part" 196)::
 (nat_lit 48,cm "Hopper.__init__" (kk 2 0) 240 13 3 48 5 6)::
 (nat_lit 49,fo (cA (kk 2 0)) "Hopper.__init__" (kk 2 0) m0 48)::
 (nat_lit 51,nd a 51 m0 235 11 251 [("__init__",248,49)])::
 (nat_lit 52,nc 51 "Hopper" 235)::
 (nat_lit 69,cm "Board.__init__" (kk 3 0) 271 18 3 69 5 6)::
 (nat_lit 70,fo (cA (kk 3 0)) "Board.__init__" (kk 3 0) m0 69)::
 (nat_lit 72,nd a 72 m0 266 16 282 [("__init__",279,70)])::
 (nat_lit 73,nc 72 "Board" 266)::
 (nat_lit 81,ca 4 290 21 2 81 3 3)::
 (nat_lit 82,fa 4 m0 81)::
 (nat_lit 88,ca 5 296 23 2 88 5 8)::
 (nat_lit 89,fa 5 m0 88)::
 (nat_lit 93,ca 6 307 31 2 93 3 3)::
 (nat_lit 94,fa 6 m0 93)::
 (nat_lit 98,ca 7 313 44 1 98 3 3)::
 (nat_lit 99,fa 7 m0 98)::
 (nat_lit 100,tu 0 [(.str "at" 321),(.str "board" 322),(.str "gate" 323),(.str "hopper" 324),(.str "tray" 325),(.str "wheel" 326),(.str "with" 327)])::
 (nat_lit 113,cm "Token.__init__" (kk 20 0) 361 66 4 113 5 7)::
 (nat_lit 114,fo (cA (kk 20 0)) "Token.__init__" (kk 20 0) m1 113)::
 (nat_lit 116,nd a 116 m1 356 64 374 [("__init__",370,114)])::
 (nat_lit 117,nc 116 "Token" 356)::
 (nat_lit 127,ca 21 382 70 1 127 5 4)::
 (nat_lit 128,fa 21 m1 127)::
 (nat_lit 134,ca 22 389 72 1 134 5 4)::
 (nat_lit 135,fa 22 m1 134)::
 (nat_lit 141,ca 23 396 74 3 141 5 7)::
 (nat_lit 142,fa 23 m1 141)::
 (nat_lit 146,ca 24 406 79 2 146 3 3)::
 (nat_lit 147,fa 24 m1 146)::
 (nat_lit 153,ca 25 412 86 2 153 5 7)::
 (nat_lit 154,fa 25 m1 153)::
 (nat_lit 160,ca 26 422 93 1 160 5 8)::
 (nat_lit 161,fa 26 m1 160)::
 (nat_lit 174,cm "Fault.__init__" (kk 34 0) 459 121 2 174 5 5)::
 (nat_lit 175,fo (cA (kk 34 0)) "Fault.__init__" (kk 34 0) m2 174)::
 (nat_lit 177,dd 3 (de a "__module__" 454 (.str "marblebench.reading" 433)::de a "__firstlineno__" 458 (.int 119 457)::dr a "__init__" 466 175::dr a "__static_attributes__" 468 176::dr a "__weakref__" 470 179::de a "__doc__" 471 .none::[]))::
 (nat_lit 178,cl "Fault" [(.type "Exception")] [(.ref 178),(.type "Exception"),(.type "BaseException"),(.type "object")] 177 #v[some (.ref 162),none,some (.str "Fault" 447),some (.str "Fault" 455),some (.builtin "Exception.__new__"),some (.bool true)])::
 (nat_lit 194,cm "Reader.__init__" (kk 35 0) 488 125 2 194 5 5)::
 (nat_lit 195,fo (cA (kk 35 0)) "Reader.__init__" (kk 35 0) m2 194)::
 (nat_lit 201,cm "Reader.sees" (kk 35 1) 496 133 2 201 5 5)::
 (nat_lit 202,fo (cA (kk 35 1)) "Reader.sees" (kk 35 1) m2 201)::
 (nat_lit 208,cm "Reader.take" (kk 35 2) 504 136 2 208 5 6)::
 (nat_lit 209,fo (cA (kk 35 2)) "Reader.take" (kk 35 2) m2 208)::
 (nat_lit 215,cm "Reader.take_new_name" (kk 35 3) 513 143 1 215 5 5)::
 (nat_lit 216,fo (cA (kk 35 3)) "Reader.take_new_name" (kk 35 3) m2 215)::
 (nat_lit 222,cm "Reader.take_part" (kk 35 4) 521 150 1 222 5 5)::
 (nat_lit 223,fo (cA (kk 35 4)) "Reader.take_part" (kk 35 4) m2 222)::
 (nat_lit 229,cm "Reader.take_number" (kk 35 5) 529 156 3 229 5 7)::
 (nat_lit 230,fo (cA (kk 35 5)) "Reader.take_number" (kk 35 5) m2 229)::
 (nat_lit 236,cm "Reader.end_part" (kk 35 6) 539 162 2 236 5 5)::
 (nat_lit 237,fo (cA (kk 35 6)) "Reader.end_part" (kk 35 6) m2 236)::
 (nat_lit 243,cm "Reader.read_tray" (kk 35 7) 547 167 1 243 5 4)::
 (nat_lit 244,fo (cA (kk 35 7)) "Reader.read_tray" (kk 35 7) m2 243)::
 (nat_lit 250,cm "Reader.read_wheel" (kk 35 8) 554 171 1 250 5 8)::
 (nat_lit 251,fo (cA (kk 35 8)) "Reader.read_wheel" (kk 35 8) m2 250)::
 (nat_lit 257,cm "Reader.read_gate" (kk 35 9) 565 181 1 257 5 9)::
 (nat_lit 258,fo (cA (kk 35 9)) "Reader.read_gate" (kk 35 9) m2 257)::
 (nat_lit 264,cm "Reader.read_first" (kk 35 10) 577 190 3 264 5 6)::
 (nat_lit 265,fo (cA (kk 35 10)) "Reader.read_first" (kk 35 10) m2 264)::
 (nat_lit 271,cm "Reader.read_hopper" (kk 35 11) 586 196 1 271 5 6)::
 (nat_lit 272,fo (cA (kk 35 11)) "Reader.read_hopper" (kk 35 11) m2 271)::
 (nat_lit 278,cm "Reader.read_parts" (kk 35 12) 595 203 1 278 5 4)::
 (nat_lit 279,fo (cA (kk 35 12)) "Reader.read_parts" (kk 35 12) m2 278)::
 (nat_lit 285,cm "Reader.read_hoppers" (kk 35 13) 602 215 1 285 5 4)::
 (nat_lit 286,fo (cA (kk 35 13)) "Reader.read_hoppers" (kk 35 13) m2 285)::
 (nat_lit 288,nd a 288 m2 483 123 615 [("__init__",495,195),("sees",503,202),("take",512,209),("take_new_name",520,216),("take_part",528,223),("take_number",538,230),("end_part",546,237),("read_tray",553,244),("read_wheel",564,251),("read_gate",576,258),("read_first",585,265),("read_hopper",594,272),("read_parts",601,279),("read_hoppers",608,286)])::
 (nat_lit 289,nc 288 "Reader" 483)::
 (nat_lit 299,ca 36 623 219 1 299 5 5)::
 (nat_lit 300,fa 36 m2 299)::
 (nat_lit 309,xd a 309 m3 640 228)::
 (nat_lit 310,xc 309 "OutOfBounds" 640)::
 (nat_lit 322,xd a 322 m3 660 230)::
 (nat_lit 323,xc 322 "NoBoard" 660)::
 (nat_lit 335,xd a 335 m3 680 232)::
 (nat_lit 336,xc 335 "NotThere" 680)::
 (nat_lit 348,xd a 348 m3 700 234)::
 (nat_lit 349,xc 348 "WrongCount" 700)::
 (nat_lit 361,xd a 361 m3 720 236)::
 (nat_lit 362,xc 361 "TooMany" 720)::
 (nat_lit 374,xd a 374 m3 740 238)::
 (nat_lit 375,xc 374 "NeverSo" 740)::
 (nat_lit 387,xd a 387 m3 760 240)::
 (nat_lit 388,xc 387 "NothingLaid" 760)::
 (nat_lit 400,xd a 400 m3 780 242)::
 (nat_lit 401,xc 400 "TooLate" 780)::
 (nat_lit 410,ca 48 797 246 2 410 5 5)::
 (nat_lit 411,fa 48 m4 410)::
 (nat_lit 417,ca 49 805 249 2 417 5 5)::
 (nat_lit 418,fa 49 m4 417)::
 (nat_lit 424,ca 50 813 252 2 424 5 5)::
 (nat_lit 425,fa 50 m4 424)::
 (nat_lit 431,ca 51 821 255 2 431 5 5)::
 (nat_lit 432,fa 51 m4 431)::
 (nat_lit 438,ca 52 829 259 2 438 5 5)::
 (nat_lit 439,fa 52 m4 438)::
 (nat_lit 445,ca 53 837 262 1 445 5 4)::
 (nat_lit 446,fa 53 m4 445)::
 (nat_lit 452,ca 54 844 268 2 452 5 5)::
 (nat_lit 453,fa 54 m4 452)::
 (nat_lit 459,ca 55 852 271 1 459 5 4)::
 (nat_lit 460,fa 55 m4 459)::
 (nat_lit 464,ca 57 861 274 1 464 3 3)::
 (nat_lit 465,fa 57 m5 464)::
 (nat_lit 471,ca 58 867 276 3 471 5 11)::
 (nat_lit 472,fa 58 m5 471)::
 (nat_lit 478,ca 59 881 294 3 478 5 8)::
 (nat_lit 479,fa 59 m5 478)::
 (nat_lit 485,ca 60 892 299 4 485 5 10)::
 (nat_lit 486,fa 60 m5 485)::
 (nat_lit 490,ca 61 905 308 2 490 3 3)::
 (nat_lit 491,fa 61 m5 490)::
 (nat_lit 497,ca 62 911 313 3 497 5 9)::
 (nat_lit 498,fa 62 m5 497)::
 (nat_lit 504,ca 63 923 320 3 504 5 10)::
 (nat_lit 505,fa 63 m5 504)::
 (nat_lit 511,ca 66 940 330 2 511 5 7)::
 (nat_lit 512,fa 66 m6 511)::
 (nat_lit 516,ca 67 950 336 3 516 3 3)::
 (nat_lit 517,fa 67 m6 516)::
 (nat_lit 521,ca 68 956 342 4 521 3 3)::
 (nat_lit 522,fa 68 m6 521)::
 (nat_lit 535,cm "Run.__init__" (kk 70 0) 976 352 7 535 5 10)::
 (nat_lit 536,fo (cA (kk 70 0)) "Run.__init__" (kk 70 0) m7 535)::
 (nat_lit 538,nd a 538 m7 971 350 995 [("__init__",988,536)])::
 (nat_lit 539,nc 538 "Run" 971)::
 (nat_lit 547,ca 71 1003 359 1 547 3 3)::
 (nat_lit 548,fa 71 m7 547)::
 (nat_lit 554,ca 72 1009 364 3 554 5 6)::
 (nat_lit 555,fa 72 m7 554)::
 (nat_lit 561,ca 73 1018 366 3 561 5 7)::
 (nat_lit 562,fa 73 m7 561)::
 (nat_lit 568,ca 74 1028 369 3 568 5 8)::
 (nat_lit 569,fa 74 m7 568)::
 (nat_lit 575,ca 75 1039 373 1 575 5 4)::
 (nat_lit 576,fa 75 m7 575)::
 (nat_lit 580,ca 76 1046 375 1 580 3 3)::
 (nat_lit 581,fa 76 m7 580)::
 (nat_lit 587,ca 77 1052 382 2 587 5 6)::
 (nat_lit 588,fa 77 m7 587)::
 (nat_lit 594,ca 78 1061 388 2 594 5 8)::
 (nat_lit 595,fa 78 m7 594)::
 (nat_lit 601,ca 83 1080 403 3 601 5 6)::
 (nat_lit 602,fa 83 m8 601)::
 (nat_lit 608,ca 84 1089 406 3 608 5 9)::
 (nat_lit 609,fa 84 m8 608)::
 (nat_lit 615,ca 85 1101 417 3 615 5 9)::
 (nat_lit 616,fa 85 m8 615)::
 (nat_lit 622,ca 86 1113 426 3 622 5 8)::
 (nat_lit 623,fa 86 m8 622)::
 (nat_lit 629,ca 87 1124 432 3 629 5 6)::
 (nat_lit 630,fa 87 m8 629)::
 (nat_lit 636,ca 88 1133 435 3 636 5 9)::
 (nat_lit 637,fa 88 m8 636)::
 (nat_lit 643,ca 89 1145 441 3 643 5 7)::
 (nat_lit 644,fa 89 m8 643)::
 (nat_lit 650,ca 90 1155 445 3 650 5 7)::
 (nat_lit 651,fa 90 m8 650)::
 (nat_lit 657,ca 91 1165 449 3 657 5 7)::
 (nat_lit 658,fa 91 m8 657)::
 (nat_lit 659,dd 9 (dj 15 1175 602::dj 16 1176 609::dj 17 1177 616::dj 18 1178 623::dj 19 1179 630::dj 20 1180 637::dj 21 1181 644::dj 22 1182 651::dj 23 1183 658::[]))::
 (nat_lit 665,ca 93 1194 453 4 665 5 8)::
 (nat_lit 666,fa 93 m8 665)::
 (nat_lit 670,ca 95 1207 457 1 670 3 3)::
 (nat_lit 671,fa 95 m9 670)::
 (nat_lit 675,ca 96 1213 466 1 675 3 3)::
 (nat_lit 676,fa 96 m9 675)::
 (nat_lit 682,ca 98 1221 478 2 682 5 6)::
 (nat_lit 683,fa 98 mW 682)::
 (nat_lit 689,ca 99 1230 484 2 689 5 5)::
 (nat_lit 690,fa 99 mW 689)::
 (nat_lit 694,ca 100 1238 486 2 694 3 3)::
 (nat_lit 695,fa 100 mW 694)::
 (nat_lit 701,ca 101 1244 499 1 701 5 8)::
 (nat_lit 702,fa 101 mW 701)::
 (nat_lit 706,ca 102 1255 508 3 706 3 3)::
 (nat_lit 707,fa 102 mW 706)::
 (nat_lit 713,ca 106 1267 519 2 713 5 6)::
 (nat_lit 714,fa 106 mX 713)::
 (nat_lit 720,ca 107 1276 522 2 720 5 7)::
 (nat_lit 721,fa 107 mX 720)::
 (nat_lit 725,ca 108 1286 527 2 725 3 3)::
 (nat_lit 726,fa 108 mX 725)::
 (nat_lit 730,ca 109 1292 535 3 730 3 3)::
 (nat_lit 731,fa 109 mX 730)::
 (nat_lit 737,ca 110 1298 550 2 737 5 7)::
 (nat_lit 738,fa 110 mX 737)::
 (nat_lit 744,ca 113 1312 560 2 744 5 6)::
 (nat_lit 745,fa 113 eG 744)::
 (nat_lit 751,ca 114 1321 567 2 751 5 5)::
 (nat_lit 752,fa 114 eG 751)::
 (nat_lit 756,ca 115 1329 569 2 756 3 3)::
 (nat_lit 757,fa 115 eG 756)::
 (nat_lit 763,ca 116 1335 573 1 763 5 6)::
 (nat_lit 764,fa 116 eG 763)::
 (nat_lit 770,ca 117 1344 579 2 770 5 7)::
 (nat_lit 771,fa 117 eG 770)::
 (nat_lit 777,ca 118 1354 584 2 777 5 6)::
 (nat_lit 778,fa 118 eG 777)::
 (nat_lit 784,ca 119 1363 587 1 784 5 5)::
 (nat_lit 785,fa 119 eG 784)::
 (nat_lit 791,ca 120 1371 591 2 791 5 7)::
 (nat_lit 792,fa 120 eG 791)::
 (nat_lit 798,ca 121 1381 595 2 798 5 6)::
 (nat_lit 799,fa 121 eG 798)::
 (nat_lit 805,ca 122 1390 598 2 805 5 6)::
 (nat_lit 806,fa 122 eG 805)::
 (nat_lit 812,ca 123 1399 602 2 812 5 12)::
 (nat_lit 813,fa 123 eG 812)::
 (nat_lit 819,ca 124 1414 617 2 819 5 6)::
 (nat_lit 820,fa 124 eG 819)::
 (nat_lit 826,ca 125 1423 622 2 826 5 7)::
 (nat_lit 827,fa 125 eG 826)::
 (nat_lit 833,ca 126 1433 631 2 833 5 6)::
 (nat_lit 834,fa 126 eG 833)::
 (nat_lit 840,ca 127 1442 636 2 840 5 5)::
 (nat_lit 841,fa 127 eG 840)::
 (nat_lit 847,ca 128 1450 638 2 847 5 9)::
 (nat_lit 848,fa 128 eG 847)::
 (nat_lit 849,dd 14 (dj 1 1462 745::dj 2 1463 752::dj 3 1464 757::dj 4 1465 771::dj 5 1466 778::dj 6 1467 792::dj 7 1468 799::dj 8 1469 806::dj 9 1470 813::dj 10 1471 820::dj 11 1472 827::dj 12 1473 834::dj 13 1474 841::dj 14 1475 848::[]))::
 (nat_lit 855,ca 130 1491 648 3 855 5 7)::
 (nat_lit 856,fa 130 eG 855)::
 (nat_lit 869,cm "Bench.__init__" (kk 133 0) 1517 655 1 869 5 4)::
 (nat_lit 870,fo (cA (kk 133 0)) "Bench.__init__" (kk 133 0) mY 869)::
 (nat_lit 876,cm "Bench.laid_run" (kk 133 1) 1524 659 1 876 5 4)::
 (nat_lit 877,fo (cA (kk 133 1)) "Bench.laid_run" (kk 133 1) mY 876)::
 (nat_lit 883,cm "Bench.put" (kk 133 2) 1531 664 2 883 5 5)::
 (nat_lit 884,fo (cA (kk 133 2)) "Bench.put" (kk 133 2) mY 883)::
 (nat_lit 890,cm "Bench.take_back" (kk 133 3) 1539 668 1 890 5 4)::
 (nat_lit 891,fo (cA (kk 133 3)) "Bench.take_back" (kk 133 3) mY 890)::
 (nat_lit 893,nd a 893 mY 1512 653 1548 [("__init__",1523,870),("laid_run",1530,877),("put",1538,884),("take_back",1545,891)])::
 (nat_lit 894,nc 893 "Bench" 1512)::
 (nat_lit 899,dd 23 (dj 1 1560 900::dj 2 1564 901::dj 3 1568 902::dj 4 1572 903::dj 5 1576 904::dj 6 1580 905::dj 7 1584 906::dj 8 1588 907::dj 9 1592 908::dj 10 1596 909::dj 11 1600 910::dj 12 1604 911::dj 13 1608 912::dj 14 1612 913::dj 15 1616 914::dj 16 1620 915::dj 17 1624 916::dj 18 1628 918::dj 19 1631 919::dj 20 1634 920::dj 21 1637 921::dj 22 1640 922::dj 23 1643 923::[]))::
 (nat_lit 900,ti 0 1 1561)::
 (nat_lit 901,ti 0 1 1565)::
 (nat_lit 902,ti 0 1 1569)::
 (nat_lit 903,ti 0 2 1573)::
 (nat_lit 904,ti 0 2 1577)::
 (nat_lit 905,ti 0 2 1581)::
 (nat_lit 906,ti 0 2 1585)::
 (nat_lit 907,ti 1 1 1589)::
 (nat_lit 908,ti 4 1 1593)::
 (nat_lit 909,ti 2 1 1597)::
 (nat_lit 910,ti 1 2 1601)::
 (nat_lit 911,ti 0 2 1605)::
 (nat_lit 912,ti 0 1 1609)::
 (nat_lit 913,ti 0 4 1613)::
 (nat_lit 914,ti 0 1 1617)::
 (nat_lit 915,ti 2 0 1621)::
 (nat_lit 916,ti 2 0 1625)::
 (nat_lit 918,ti 1 0 1629)::
 (nat_lit 919,ti 0 0 1632)::
 (nat_lit 920,ti 0 0 1635)::
 (nat_lit 921,ti 0 1 1638)::
 (nat_lit 922,ti 1 0 1641)::
 (nat_lit 923,ti 0 0 1644)::
 (nat_lit 929,ca 137 1653 675 3 929 5 9)::
 (nat_lit 930,fa 137 rX 929)::
 (nat_lit 936,ca 138 1665 682 4 936 5 7)::
 (nat_lit 937,fa 138 rX 936)::
 (nat_lit 941,ca 139 1675 703 1 941 3 3)::
 (nat_lit 942,fa 139 rX 941)::[]
noncomputable def hA:List B:=(hK {strHash:=λ_=>0,shareClass:=λ_=>0,mergeTok:=id,idOf:=λ_=>0,idOfShared:=λ_ _=>0,followText:=λ_=>true,idOfImm:=λ_=>0}).map (·.1)
theorem Cv(a:fx):hA=(hK a).map (·.1):=by kernel_rfl
noncomputable def gT(a:la)(b:B):Option ak:=match Nat.blt b a.n with
 |true=>(match a.tree.get b with
  |some c=>alive c
  |none=>none)
 |false=>none
theorem Cw{b:la}{c:B}{d:ak}(a:gT b c=some d):b.abs.heap.get? c=some d:=by
 unfold gT at a;split at a
 .rename_i e
  split at a
  .rename_i g f
   exact(abs_get (Cy e) f).trans a
  .cases a
 .cases a
theorem we{c:la}:∀{b:List B}{os:List ak},b.map (gT c)=os.map some->b.map c.abs.heap.get?=os.map some
 |[],[],_=>rfl
 |[],_::_,a=>by cases a
 |_::_,[],a=>by cases a
 |d::b,e::os,a=>by
  rw[bE,bE,Py] at a;rw[bE,bE,Cw a.1,we a.2]
noncomputable def Cz(w:World)(a:la):=(rY (jV pw.main.body) (iZ w.params) a.abs.heap&&rZ pw a.abs.heap&&r0 a.abs&&r1 (iZ w.params) a.abs.heap,
 Fast.tw4187177175401517315 hq hl (jV pw.main.body) hX true a.abs)
noncomputable abbrev hR(w:World)(os:em):=CA o2 pw w 11 gh 1 7457 (rV (h2 w os)) o3
noncomputable abbrev hE(w:World)(os:em):=(hR w os).map (λa=>(a.1,a.2.2.1,a.2.2.2,Cz w a.2.1))
noncomputable abbrev hF(w:World)(os:em):=(hR w os).map (λa=>hA.map (gT a.2.1))
noncomputable abbrev hG(w:World):=((hK w.params).map (·.2)).map some
theorem CB(w:World)(os:em):hE (w.withFollow "special-get-raises" false) os=some (.next,hC,D,true,mZ hq hl):=by kernel_rfl
theorem CC(w:World)(os:em):hE (w.withFollow "special-get-raises" true) os=some (.next,hC,D,true,mZ hq hl):=by kernel_rfl
theorem CD(w:World)(os:em):hF (w.withFollow "special-get-raises" false) os=some (hG (w.withFollow "special-get-raises" false)):=by kernel_rfl
theorem CF(w:World)(os:em):hF (w.withFollow "special-get-raises" true) os=some (hG (w.withFollow "special-get-raises" true)):=by kernel_rfl
theorem CG(w:World)(a:M):segRun fT pw w 11 gh 1 1 a (blockOf hB jT hC h0 [jU h0])=some (.next,a,hC,h0):=by kernel_rfl
theorem CH(w:World)(a:M):r2 fT pw w 11 gh 2 a (restOf [] jT hC D [jU h0])=some a:=by kernel_rfl
theorem CI{w:World}{os:em}{a:la}(d:hR w os=some (.next,a,hC,D)):segRun fT pw w 11 gh 1 7457 (h2 w os) (rW hB jT hC h0 [jU h0])=some (.next,a.abs,hC,D):=by
 have b:CA Cn pw w 11 gh 1 7457 (rV (h2 w os)) o3=some (.next,a,hC,D):=d;rw[<-Fast.te10110043849684766642,<-Cr] at b;have c:=segRun_of b;rw[Ct,<-Cu] at c;exact c
theorem CJ{w:World}{os:em}{a:M}(c:segRun fT pw w 11 gh 1 7457 (h2 w os) (rW hB jT hC h0 [jU h0])=some (.next,a,hC,D)):r2 fT pw w 11 gh (12+(1+(7457+2))) (mU w os) (mV pw)=some a:=by
 have b:=piece_app c (CH w a);rw[eH] at b;exact go_top (Cq w os) (piece_block (CG w (h2 w os)) b)
theorem CK{w:World}{os:em}{c:lb}{b:la}{d:Code}{e:aU}(f:hR w os=some (c,b,d,e))(a:hF w os=some (hG w)):hA.map b.abs.heap.get?=hG w:=by
 unfold hF at a;rw[f] at a;exact we (b5 a)
theorem CL(w:World)(os:em):∃a,r2 fT pw w 11 gh (12+(1+(7457+2))) (mU w os) (mV pw)=some a/\(rY (jV pw.main.body) (iZ w.params) a.heap&&rZ pw a.heap&&r0 a&&r1 (iZ w.params) a.heap)=true/\
  wg hq hl (jV pw.main.body) hX true a=mZ hq hl/\hA.map a.heap.get?=hG w:=by
 have c:=byRow2 "special-get-raises" (P:=λw=>hE w os=some (.next,hC,D,true,mZ hq hl)) (λw=>CB w os) (λw=>CC w os) w;have f:=byRow2 "special-get-raises" (P:=λw=>hF w os=some (hG w)) (λw=>CD w os) (λw=>CF w os) w;unfold hE at c;generalize e:hR w os=d at c;cases d with
 |none=>cases c
 |some d=>
  obtain⟨m,a,n,o⟩:=d;have b:=b5 c;obtain⟨g,b⟩:=r3 b;obtain⟨i,b⟩:=r3 b;obtain⟨j,b⟩:=r3 b;obtain⟨k,l⟩:=r3 b;cases g;cases i;cases j;refine#[a.abs,CJ (CI e),k,?_,CK e f];rw[Fast.te4187177175401517315];exact l
theorem CM:opening pw=plainProg pw.main.scope.names:=by kernel_rfl
theorem CN(a:M):fenceModules? pw a=some a:=by kernel_rfl
theorem CO(w:World):((iZ w.params).isNs en&&(wb []:Array m_).size==0,(iZ w.params).objs.size,(iZ w.params).nsMap en "__annotations__")=(true,11,gh):=by kernel_rfl
theorem CP{c:Program}{w:World}{d e:Nat}{f:Option Value}{a b:M}(g:(a.heap.isNs en&&a.gens.size==0)=true)(i:a.heap.objs.size=e)(j:a.heap.nsMap en "__annotations__"=f)(k:r2 fT c w e f d a (mV c)=some b)
  (l:(rY (jV c.main.body) a.heap b.heap&&rZ c b.heap&&r0 b&&r1 a.heap b.heap)=true):r4 fT c w d a=some b:=by
 unfold r4;rw[g,i,j,k];show(match rY (jV c.main.body) a.heap b.heap&&rZ c b.heap&&r0 b&&r1 a.heap b.heap with|true=>_|false=>_)=_;rw[l]
theorem CQ{a c:Program}{d:List Str}{g:M->Bool}{i:Type}{j:M->i}{k:World->i}{e:Nat}{w:World}{f b:M}(l:fencedOpening fT a w e=some f)(m:r4 fT a w e f=some b)
  (n:wg c d (jV a.main.body) g true b=mZ c d)(o:j b=k w):(openEnds fT a w e).map (λb=>(wg c d (jV a.main.body) g true b,j b))=some (mZ c d,k w):=by
 unfold openEnds;rw[l];show(r4 fT a w e f).map _=_;rw[m];exact congrArg some (CS n o)
theorem CT:LeftO pw hq hl hX (λa=>hA.map a.heap.get?) hG 15038:=λw=>by
 obtain⟨⟨c,d,e,f,os⟩,g,i⟩:=wh.mp (boot_open (p:=pw) (N:=15038) CM rfl CN w);obtain⟨rfl,rfl,rfl,rfl⟩:c=iZ w.params/\d=wb []/\e=wc/\f=boot_toks:=by simpa using i
 obtain⟨j,k,l⟩:_/\_/\_:=by simpa only[Prod.mk.injEq] using CO w
 obtain⟨a,m,n,o,q⟩:=CL w os;have b:=topRun_mono 7566 _ _ _ _ m;rw[show 12+(1+(7457+2))+7566=15038 from rfl] at b;exact CQ g (CP j k l b n) o q
end Mb
end
section
namespace L2
open PySem PySem.Spec PyProof.Rows
abbrev aV:=Sum Int Str
def hi:aV->Value->Bool
 | .inl k,a=>CU k a
 | .inr x,a=>CV x a
def CW(w:World):aV->Int
 | .inl a=>hashInt a
 | .inr b=>hashStr w b
theorem h3:∀{e:aV}{a:Value},hi e a=true->(∃c b,e=eI c/\a=na c b)\/(∃d b,e=cL d/\a=r5 d b)
 | .inl c,a,f=>by
  obtain⟨b,g⟩:=Value.isInt_shape (k:=c) (v:=a) f;exact .inl #[c,b,rfl,g]
 | .inr d,a,f=>by
  obtain⟨b,g⟩:=Value.isStrOf_shape (x:=d) (v:=a) f;exact .inr #[d,b,rfl,g]
theorem CY(a:Int)(b:Tok):hi (.inl a) (.int a b)=true:=by simp[hi,CU]
theorem CZ(a:Str)(b:Tok):hi (.inr a) (.str a b)=true:=by simp[hi,CV]
theorem C0(a b:Int):decide ((eI a:aV)=eI b)=(a==b):=by
 by_cases c:a=b
 .subst c;simp
 .have d:¬(eI a:aV)=eI b:=λe=>c (wi e)
  rw[decide_eq_false d];exact(beq_eq_false_iff_ne.mpr c).symm
theorem C1(a b:Str):decide ((cL a:aV)=cL b)=decide (a=b):=by
 by_cases c:a=b
 .subst c;simp
 .have d:¬(cL a:aV)=cL b:=λe=>c (wj e)
  rw[decide_eq_false d,decide_eq_false c]
theorem C2(a:Int)(b:Str):decide ((eI a:aV)=cL b)=false:=decide_eq_false (λc=>nomatch c)
theorem C3(a:Str)(b:Int):decide ((cL a:aV)=eI b)=false:=decide_eq_false (λc=>nomatch c)
def e5(n:Program)(w:World):PySem.KeyKind n w aV where
 is:=hi
 hash:=CW w
 inj:=λl r s o m=>by
  rcases h3 o with⟨e,d,rfl,rfl⟩|⟨f,d,rfl,rfl⟩
  .rcases h3 m with⟨j,b,rfl,c⟩|⟨g,b,rfl,c⟩
   .injection c with i _;rw[i]
   .exact nomatch c
  .rcases h3 m with⟨j,b,rfl,c⟩|⟨g,b,rfl,c⟩
   .exact nomatch c
   .injection c with i _;rw[i]
 byValue:=λp l a=>by
  rcases h3 a with⟨e,d,rfl,rfl⟩|⟨f,d,rfl,rfl⟩<;>rfl
 pyHash:=λk a=>by
  rcases h3 k with⟨e,d,rfl,rfl⟩|⟨f,d,rfl,rfl⟩
  .exact wpAny_pyHash_int a
  .exact wpAny_pyHash_str a
 eqBool:=λq k a=>by
  rcases h3 q with⟨e,d,rfl,rfl⟩|⟨f,d,rfl,rfl⟩
  .rcases h3 k with⟨j,b,rfl,rfl⟩|⟨g,b,rfl,rfl⟩
   .rw[C0] at a;exact wpAny_eqBool_int a
   .rw[C2] at a;exact C4 e d g b _ _ _ _ a
  .rcases h3 k with⟨j,b,rfl,rfl⟩|⟨g,b,rfl,rfl⟩
   .rw[C3] at a;exact C5 f d j b _ _ _ _ a
   .rw[C1] at a;exact wpAny_eqBool_str a
 «strs»:=λp f d l a=>by
  rcases h3 a with⟨e,b,rfl,c⟩|⟨g,b,rfl,c⟩
  .exact nomatch c
  .injection c with i _
   subst i;cases l<;>rfl
theorem wk(c:Program)(w:World)(a:Int)(b:Tok):(e5 c w).is (.inl a) (.int a b)=true:=CY a b
theorem C6(c:Program)(w:World)(a:Str)(b:Tok):(e5 c w).is (.inr a) (.str a b)=true:=CZ a b
end L2
namespace L2
open PySem PySem.Spec PyProof.Rows
inductive V where
 |non|bl(a:Bool)|int(b:Int)|str(c:Str)|byt(a:Array UInt8)|flt(a:UInt64)|ref(d:B)|ty(e:String)
 deriving DecidableEq
def aN:V->Value->Prop
 | .non,c=>c=gO
 | .bl b,c=>c=r6 b
 | .int i,c=>∃d,c=na i d
 | .str x,c=>∃d,c=r5 x d
 | .byt b,c=>∃d,c=C7 b d
 | .flt b,c=>∃d,c=C8 b d
 | .ref a,c=>c=bN a
 | .ty n,c=>c=lc n
abbrev aB:List V->List Value->Prop:=h4 aN
theorem aB.length{a:List V}{b:List Value}(c:aB a b):a.length=b.length:=r7 c
theorem aB.get:∀{c:List V}{d:List Value}{i:Nat}{x:V},aB c d->c[i]? =some x-> ∃b,d[i]? =some b/\aN x b
 |_,_,_,_,.nil,a=>by simp at a
 |_,_,0,_,.cons e _,a=>by simp at a;subst a;exact#[_,rfl,e]
 |_,_,i+1,x,.cons _ f,a=>by
  obtain⟨b,D,g⟩:=aB.get (i:=i) (x:=x) f (by simpa using a);exact#[b,by simpa using D,g]
theorem aB.set{c:V}{d:Value}(e:aN c d):∀{f:List V}{g:List Value}(a:Nat),aB f g->aB (f.set a c) (g.set a d)
 |_,_,_,.nil=>.nil
 |_,_,0,.cons _ b=>.cons e b
 |_,_,a+1,.cons q b=>.cons q (aB.set e a b)
theorem aB.append:∀{b c:List V}{d e:List Value},aB b d->aB c e->aB (b++c) (d++e)
 |_,_,_,_,.nil,a=>a
 |_,_,_,_,.cons r t,a=>.cons r (aB.append t a)
theorem aB.take:∀{b:List V}{c:List Value}(a:Nat),aB b c->aB (b.take a) (c.take a)
 |_,_,0,_=>.nil
 |_,_,_+1,.nil=>.nil
 |_,_,a+1,.cons r d=>.cons r (aB.take a d)
theorem aB.drop:∀{b:List V}{c:List Value}(a:Nat),aB b c->aB (b.drop a) (c.drop a)
 |_,_,0,d=>d
 |_,_,_+1,.nil=>.nil
 |_,_,a+1,.cons _ e=>aB.drop a e
def eo:Option V->Option Value->Prop
 |some v,some a=>aN v a
 |none,none=>True
 |_,_=>False
def KV{a:Type}:List (a×V)->List (a×Value)->Prop:=h4 λ(b:a×V)(c:a×Value)=>b.1=c.1/\aN b.2 c.2
def kV:aV->V
 | .inl a=>.int a
 | .inr b=>.str b
inductive HO where
 |lst(a:List V)
 |tup(a:List V)
 |dK(b:List (aV×V))|dT(b:List (List aV×V))
 |set(e:Int->Bool)(f:Nat)
 |ins(g i:B)(c:List (Str×V))
 |own(d:B)
 |xd(c:List (Str×V))
 |met(j d:B)
 |rng(lo k:Int)
 |R3(l:ak)(m:HO)
 |tbl(n:Array Value)
 |ext(o:Heap->Prop)
abbrev G:=B->Option HO
def upd(b:G)(c:B)(o:HO):G:=λa=>if a=c then some o else b a
theorem Y{c:G}{a:B}{b:HO}:upd c a b a=some b:=by unfold upd;rw[if_pos rfl]
theorem aa{H:G}{b a:B}{o:HO}(c:a≠b):upd H b o a=H a:=by unfold upd;rw[if_neg c]
theorem dL{a:G}{b c:B}{d e:HO}(g:a b=some d)(f:a c=some e)(i:d≠e):b≠c:=by
 intro j;subst j;rw[g] at f;exact i (b5 f)
theorem aK{a:G}{b c:B}{e:HO}(f:a b=some e)(d:a c=none):b≠c:=by
 intro g;subst g;rw[f] at d;cases d
section
variable(P:Program)(w:World)
def bU(l:G)(b:Heap)(a:B):HO->Prop
 | .lst d=>d.length<=aq/\ ∃(g:List Value)(m:Nat),aB d g/\b.get? a=some {cls:=.type "list",data:=.seq g.toArray m}
 | .tup d=>d.length<=aq/\ ∃g:List Value,aB d g/\IsTup b a g.toArray
 | .dK i=>i.length<=aq/\(a==hj)=false/\ ∃r,KV i r/\b.DictOf (e5 P w) a r
 | .dT i=>i.length<=aq/\(a==hj)=false/\ ∃d:List (List aV×B×Value),
   h4 (λ(n:List aV×V)(o:List aV×B×Value)=>n.1=o.1/\l o.2.1=some (.tup (n.1.map kV))/\aN n.2 o.2.2) i d/\
   ∃c s u,b.get? a=some c/\c.ExactDict/\c.data=.dict s u/\s.toList=d.map (entryOfKey (o4 (e5 P w)))/\(d.map (·.1)).Nodup
 | .set v m=>b.SetOf (intKind P w) a v m
 | .ins C k j=>l k=some (.own a)/\j.length<=1000/\k≠a/\b.get? a=some (jW C k)/\
   ∃f,b.Ns1 k f/\(∀e,eo (j.lookup e) (f e))/\wl f (j.map (·.1))
 | .own _=>∃c,b.get? a=some c
 | .xd j=>∃f,b.Ns1 a f/\ ∀e,eo (j.lookup e) (f e)
 | .rng lo x=>∃y p z,b.get? a=some {cls:=.type "range",data:=.fields #v[.int lo y,.int x p,.int 1 z]}
 | .R3 c p=>b.get? a=some c/\bU l b a p
 | .tbl A=>b.get? a=some {cls:=.none,data:=.fields A}
 | .met e E=>b.get? a=some (wm (.ref e) (.ref E))
 | .ext q=>q b/\(∃c,b.get? a=some c)/\ ∀D t:Heap,q D->(∀c,D.get? a=some c->t.get? a=some c)->q t
def bG(a:G)(d:Heap):Prop:=∀b c,a b=some c->bU P w a d b c
end
section
variable{P:Program}{w:World}{H b:G}{h h':Heap}{a:B}{o:HO}
theorem bU.lt(c:bU P w H h a o):a<h.objs.size:=by
 cases o with
 |lst d=>obtain⟨_,_,_,_,b⟩:=c;exact bc b
 |tup d=>obtain⟨_,_,_,e⟩:=c;exact e.lt
 |dK f=>obtain⟨_,_,_,_,o,_,_,b,_⟩:=c;exact bc b
 |dT f=>obtain⟨_,_,_,_,o,_,_,b,_⟩:=c;exact bc b
 |set j k=>obtain⟨o,_,_,_,b,_⟩:=c;exact bc b
 |ins l m g=>obtain⟨_,_,_,b,_⟩:=c;exact bc b
 |own i=>obtain⟨_,b⟩:=c;exact bc b
 |xd g=>obtain⟨_,⟨_,_,_,b,_⟩,_⟩:=c;exact bc b
 |rng lo n=>obtain⟨_,_,_,b⟩:=c;exact bc b
 |R3 p q=>obtain⟨b,_⟩:=c;exact bc b
 |tbl r=>exact bc (show h.get? a=some _ from c)
 |met s i=>exact bc (show h.get? a=some _ from c)
 |ext t=>obtain⟨_,⟨_,b⟩,_⟩:=c;exact bc b
theorem h4.mapP{b c:Type}{d e:b->c->Prop}:∀{f:List b}{g:List c},h4 d f g->(∀a i,d a i->e a i)->h4 e f g
 |_,_,.nil,_=>.nil
 |_,_,.cons k t,j=>.cons (j _ _ k) (h4.mapP t j)
theorem bU.RX(e:bU P w H h a o)(d:∀j q,(j=a\/H j=some (.own a))->h.get? j=some q->h'.get? j=some q)
  (D:∀j,H j=some (.own a)->b j=some (.own a))(E:∀j p,H j=some (.tup p)->b j=some (.tup p)):bU P w b h' a o:=by
 induction o with
 |lst p=>obtain⟨f,s,x,g,c⟩:=e;exact#[f,s,x,g,d _ _ (.inl rfl) c]
 |tup p=>obtain⟨f,s,g,k,c,i⟩:=e;exact#[f,s,g,k,d _ _ (.inl rfl) c,i]
 |dK F=>obtain⟨f,n,G,g,k,l,m,c,i⟩:=e;exact#[f,n,G,g,k,l,m,d _ _ (.inl rfl) c,i]
 |dT F=>
  obtain⟨f,n,p,g,k,l,m,c,i⟩:=e;exact#[f,n,p,h4.mapP g λy r f=>#[f.1,E _ _ f.2.1,f.2.2],k,l,m,d _ _ (.inl rfl) c,i]
 |set O x=>obtain⟨k,l,m,t,c,i⟩:=e;exact#[k,l,m,t,d _ _ (.inl rfl) c,i]
 |ins Q R I=>
  obtain⟨z,f,J,c,u,⟨v,l,m,K,i⟩,g⟩:=e;exact#[D _ z,f,J,d _ _ (.inl rfl) c,u,#[v,l,m,d _ _ (.inr z) K,i],g]
 |own n=>obtain⟨k,c⟩:=e;exact#[k,d _ _ (.inl rfl) c]
 |xd I=>obtain⟨u,⟨v,l,m,c,i⟩,g⟩:=e;exact#[u,#[v,l,m,d _ _ (.inl rfl) c,i],g]
 |rng lo S=>obtain⟨t,q,L,c⟩:=e;exact#[t,q,L,d _ _ (.inl rfl) c]
 |R3 k q N=>obtain⟨c,r⟩:=e;exact#[d _ _ (.inl rfl) c,N r]
 |tbl A=>
  have c:h.get? a=some {cls:=.none,data:=.fields A}:=e;show h'.get? a=some {cls:=.none,data:=.fields A};exact d a _ (.inl rfl) c
 |met C n=>
  have c:h.get? a=some (wm (.ref C) (.ref n)):=e;show h'.get? a=some (wm (.ref C) (.ref n));exact d a _ (.inl rfl) c
 |ext T=>obtain⟨y,⟨o,c⟩,st⟩:=e;exact#[st _ _ y λo r=>d _ _ (.inl rfl) r,#[o,d _ _ (.inl rfl) c],st]
theorem bG.lt(b:bG P w H h)(c:H a=some o):a<h.objs.size:=(b a o c).lt
theorem bG.fresh(b:bG P w H h)(c:h.objs.size<=a):H a=none:=by
 cases d:H a with
 |none=>rfl
 |some e=>exact absurd (cP (b.lt d) c) (gi _)
theorem bG.kept(e:bG P w H h)(f:∀c d,h.get? c=some d->h'.get? c=some d):bG P w H h':=λa o g=>
 (e a o g).RX (λc d _ b=>f c d b) (λ_ b=>b) λ_ _ b=>b
theorem bG.laid(g:bG P w H h)(k:∀c d,h.get? c=some d->h'.get? c=some d)(l:h.objs.size<=a)(m:bU P w (upd H a o) h' a o):bG P w (upd H a o) h':=λc d e=>by
 have i:=g.fresh l;by_cases j:c=a
 .subst j;rw[Y] at e;cases e;exact m
 .rw[aa j] at e
  exact(g c d e).RX (λf n _ b=>k f n b) (λf b=>by rw[aa (aK b i)];exact b) λf p b=>by rw[aa (aK b i)];exact b
end
def Rd(a:G)(b:B)(c:HO):Prop:=a b=some c\/ ∃d,a b=some (.R3 d c)
theorem Rd.ok{e:Program}{w:World}{c:G}{f:Heap}{b:B}{d:HO}(a:Rd c b d)(g:bG e w c f):bU e w c f b d:=by
 rcases a with a|⟨j,a⟩
 .exact g b d a
 .obtain⟨_,i⟩:=g b _ a
  exact i
def i0:Option HO->Prop
 |some (.lst _)=>True
 |some (.dK _)=>True
 |some (.dT _)=>True
 |some (.set _ _)=>True
 |some (.ins _ _ _)=>True
 |some (.ext _)=>True
 |_=>False
section
variable{P:Program}{w:World}{H:G}{h h':Heap}{x e:B}{a:HO}
theorem bG.write(ok:bG P w H h)(j:i0 (H x))(p:e=x\/H e=some (.own x))(t:∀f g,f≠e->h.get? f=some g->h'.get? f=some g)(u:∃g,h'.get? e=some g)
  (v:bU P w (upd H x a) h' x a):bG P w (upd H x a) h':=λf g i=>by
 have q:∀b r,H b=some (.own r)->b≠x:=λb r d c=>by subst c;rw[d] at j;exact j
 have y:∀b k,H b=some (.tup k)->b≠x:=λb k d c=>by subst c;rw[d] at j;exact j
 by_cases l:f=x
 .subst l;rw[Y] at i;cases i;exact v
 .rw[aa l] at i
  by_cases m:f=e
  .have s:H f=some (.own x):=by
    rcases p with c|c
    .exact absurd (m.trans c) l
    .rw[m];exact c
   rw[i] at s;cases s;obtain⟨o,z⟩:=u;exact#[o,by rw[m];exact z]
  .refine(ok f g i).RX (λb o n d=>t b o ?_ d) (λb d=>by rw[aa (q b f d)];exact d) λb k d=>by rw[aa (y b k d)];exact d
   rcases n with rfl|n
   .exact m
   .rintro rfl
    rcases p with c|c
    .exact q b f n c
    .rw[n] at c;cases c;exact l rfl
end
structure Un(i d:List B)(c e:G)(f g:Heap):Prop where
 keep:∀a b,f.get? a=some b->c a=none->a∉i->a∉d->g.get? a=some b
 slot:∀a b,f.get? a=some b->c a=none->a∈i->a∉d-> ∃m,g.get? a=some {b with slots:=m}
 free:∀a b,f.get? a=some b->c a=none->a∉d->e a=none
 there:∀a b,f.get? a=some b->a∉d-> ∃n,g.get? a=some n
 SN:∀a j,c a=some (.tup j)->e a=some (.tup j)
 Sw:∀a b k,c a=some (.R3 b k)->e a=some (.R3 b k)
 SQ:∀a l,c a=some (.tbl l)-> ∃e6,e a=some (.tbl (l++e6))
section
variable{fs d b f:List B}{H c g:G}{h D i h':Heap}{a x e:B}{o:HO}
theorem Un.any(e:Un fs b H c h D){a:B}{d:ak}(f:h.get? a=some d)(g:H a=none)(i:a∉b):∃k,D.get? a=some {d with slots:=k}:=by
 by_cases j:a∈fs
 .exact e.slot a d f g j i
 .exact#[d.slots,e.keep a d f g j i]
theorem Un.kept(e:∀c f,h.get? c=some f->h'.get? c=some f):Un fs b H H h h':=
 #[λc d a _ _ _=>e c d a,λc d a _ _ _=>#[d.slots,e c d a],λ_ _ _ g _=>g,λc d a _=>#[d,e c d a],λ_ _ a=>a,λ_ _ _ a=>a,λ_ i a=>#[#v[],by rw[a];simp]]
theorem Un.refl:Un fs b H H h h:=Un.kept λ_ _ a=>a
theorem Un.laid(f:∀d e,h.get? d=some e->h'.get? d=some e)(i:h.objs.size<=a)(g:H a=none):Un fs b H (upd H a o) h h' where
 keep:=λd e c _ _ _=>f d e c
 slot:=λd e c _ _ _=>#[e.slots,f d e c]
 free:=λd e c j _=>by rw[aa (cZ (cP (bc c) i))];exact j
 there:=λd e c _=>#[e,f d e c]
 SN:=λd k c=>by rw[aa (aK c g)];exact c
 Sw:=λd e k c=>by rw[aa (aK c g)];exact c
 SQ:=λd l c=>#[#v[],by rw[aa (aK c g),c];simp]
theorem Un.write(i:i0 (H x))(q:e=x\/H e=some (.own x))(k:∀a c,a≠e->h.get? a=some c->h'.get? a=some c)(r:∃c,h'.get? e=some c):Un fs b H (upd H x o) h h':=by
 have m:∀a,H a=none->a≠x:=λa f g=>by subst g;rw[f] at i;exact i
 have n:∀a,H a=none->a≠e:=λa f g=>by
  subst g;rcases q with j|j
  .exact m a f j
  .rw[f] at j;cases j
 have l:∀a c,H a=some c-> ¬i0 (some c)->a≠x:=λa c d nm g=>by subst g;rw[d] at i;exact nm i
 refine#[λa c d f _ _=>k a c (n a f) d,λa c d f _ _=>#[c.slots,k a c (n a f) d],λa c d f _=>by rw[aa (m a f)];exact f,λa c d _=>?_,
  λa s d=>by rw[aa (l a _ d λg=>g)];exact d,λa c s d=>by rw[aa (l a _ d λg=>g)];exact d,λa t d=>#[#v[],by rw[aa (l a _ d λg=>g),d];simp]]
 by_cases p:a=e
 .subst p;exact r
 .exact#[c,k a c p d]
end
def jX(a:Heap)(b:G):List B:=(aS a.objs.size).filter λc=>(b c).isSome
def h5(a:Heap)(b:G):Heap:=o5 a (jX a b)
theorem C9(a:Heap)(b:G):(h5 a b).objs.size=a.objs.size:=PySem.W.hideAll_size _ _
theorem C_{c:Heap}{b:G}{a:B}{d:ak}(f:c.get? a=some d)(g:b a=none):(h5 c b).get? a=some d:=
 Db _ f λi=>by
  have e:(b a).isSome=true:=(nf.mp i).2;rw[g] at e;simp at e
theorem Dc{a:Heap}{b:G}{c:B}{d:ak}(e:(h5 a b).get? c=some d):a.get? c=some d/\b c=none:=by
 have f:a.get? c=some d:=Dd (jX a b) e;refine#[f,?_];cases g:b c with
 |none=>rfl
 |some k=>
  have i:c∈jX a b:=nf.mpr #[e7.mpr (bc f),by simp[g]];have j:(h5 a b).get? c=none:=De (jX a b) i;rw[j] at e;cases e
end L2
namespace L2
open PySem PySem.Spec PyProof.Rows
structure Mod(K:aj)(c:Str->Option Value)(base:Heap):Prop where
 VG:K.In base
 glob:base.Ns en c
 blt:∃b,base.Ns wn b/\ ∀a:Str,a≠ "__name__"->b a=ng a
 nolimit:base.NoLimit
structure Cx where
 prog:Program
 w:World
 K:aj
 mg:Str->Option Value
 base:Heap
 A:a_
 N:List Str
 Sl:M
 U7:G
 env:bp
 outer:List bp
 stack:List bp
 ex:List B
 fn:Str->Bool
 calm:Bool
 pn:List (B×ak)
 xe:Value->M->Prop
def bY(a:List bp):List B:=a.filterMap (·.frame)
abbrev Cx.fs(a:Cx):List B:=bY a.outer
def jY(a:cz)(b:Str):Prop:=a.names.lookup b=some .local\/a.names.lookup b=some .cell\/a.names.lookup b=some .free
def jZ(a:cz)(b:Str):Prop:=a.names.lookup b=some .local\/a.names.lookup b=some .cell
def Df(b:bp)(e:Heap)(f:Str->Option Value)(a:Str)(c:Value):Prop:=
 (b.kindOf a=some .local/\f a=some c)\/((b.kindOf a=some .cell\/b.kindOf a=some .free)/\ ∃d,b.cells.lookup a=some d/\e.IsCell d (some c))
structure Cx.Ok(a:Cx):Prop where
 mod:Mod a.K a.mg a.base
 kind:a.env.scope.kind=.function
 glob:a.env.globals=en
 blt:a.env.builtins=wn
 above:a.Sl.heap.objs.size<=a.env.locals
 inj:∀c f d,a.env.cells.lookup c=some d->a.env.cells.lookup f=some d->c=f
 has:∀c,(a.env.kindOf c=some .cell\/a.env.kindOf c=some .free)-> ∃d,a.env.cells.lookup c=some d
 VE:∀c d,a.fn c=true->a.env.cells.lookup c=some d->a.Sl.heap.objs.size<=d
 hd:a.calm=true->a.A.handled=none
 frames:a.A.frames=some a.stack
 Vt:a.stack=a.outer\/(a.stack=a.env::a.outer/\a.env.frame=some a.env.locals)
 VW:∀b∈a.ex,b≠a.env.locals/\ ∀c d,a.env.cells.lookup c=some d->d≠b
 bs:∀b e,a.base.get? b=some e->a.Sl.heap.get? b=some e/\a.U7 b=none
 U9:a.base.objs.size<=a.Sl.heap.objs.size
 Ur:∀b e,a.base.get? b=some e->b∉a.ex
 Uw:∀b∈a.ex,b∉a.fs
 SM:a.Sl.heap.FunFrames a.base a.outer
 Vj:∀b∈a.fs,a.U7 b=none
structure O(a:Cx)(m:List (B×ak))(i:List (Option V))(f:G)(b:M):Prop where
 ok:a.Ok
 os:b.os=a.Sl.os
 bare:h6 b.gens
 base:Un a.fs a.ex a.U7 f a.Sl.heap b.heap
 loc:∃j,b.heap.Ns a.env.locals j/\ ∀(k:Nat)(c:Str)(d:V),a.N[k]? =some c->i[k]? =some (some d)->jY a.env.scope c-> ∃l,aN d l/\Df a.env b.heap j c l
 cell:∀c g,a.env.cells.lookup c=some g-> ∃d,b.heap.IsCell g d
 free:f a.env.locals=none
 RN:∀c g,a.env.cells.lookup c=some g->f g=none
 pin:∀e∈a.pn++m,b.heap.get? e.1=some e.2/\f e.1=none/\e.1≠a.env.locals/\e.1∉a.fs/\ ∀d,e.2.data≠ .cell d
 Ra:bG a.prog a.w f b.heap
 len:i.length=a.N.length
section
variable{X:Cx}{pins:List (B×ak)}{b:List (Option V)}{H c:G}{s:M}{h':Heap}
theorem Cx.Ok.Wg(ok:X.Ok){a:B}{b:ak}(c:X.base.get? a=some b):a∉X.fs:=λd=>by
 have:=(ok.SM.mem d).1;rw[c] at this;cases this
theorem O.bs(d:O X pins b H s):∀a c,X.base.get? a=some c->s.heap.get? a=some c/\H a=none:=λa c e=>
 #[d.base.keep a c (d.ok.bs a c e).1 (d.ok.bs a c e).2 (d.ok.Wg e) (d.ok.Ur a c e),d.base.free a c (d.ok.bs a c e).1 (d.ok.bs a c e).2 (d.ok.Ur a c e)]
theorem O.bk(d:O X pins b H s):∀a c,X.base.get? a=some c->s.heap.get? a=some c:=λa c e=>(d.bs a c e).1
theorem O.mod(a:O X pins b H s):Mod X.K X.mg X.base:=a.ok.mod
theorem O.Sh(a:O X pins b H s):X.K.In s.heap:=a.ok.mod.VG.keeps a.bk
theorem O.lt(a:O X pins b H s):X.env.locals<s.heap.objs.size:=let⟨_,c,_⟩:=a.loc;c.lt
theorem O.sz(a:O X pins b H s):X.Sl.heap.objs.size<=s.heap.objs.size:=bB a.ok.above (dc a.lt)
theorem O.Wi(a:O X pins b H s){c:B}(d:s.heap.objs.size<=c):c∉X.fs:=λe=>by
 obtain⟨_,g,f,_⟩:=a.ok.SM.mem e;exact absurd (cP (bc f) (bB a.sz d)) (gi _)
theorem O.VH(d:O X pins b H s):∀c a,X.env.cells.lookup c=some a->a≠X.env.locals:=λc a g i=>by
 obtain⟨l,m,e,f⟩:=d.cell c a g;obtain⟨n,⟨o,p,q,j,k,_⟩,_⟩:=d.loc;rw[i,j] at e;cases e;rw[k] at f;cases f
theorem O.SM(d:O X pins b H s):s.heap.FunFrames X.base X.outer:=by
 have k:∀(c:List bp),(∀e∈bY c,e∈X.fs)->X.Sl.heap.FunFrames X.base c->s.heap.FunFrames X.base c:=by
  intro c
  induction c with
  |nil=>intro _ _;trivial
  |cons v w l=>
   intro j hl;obtain⟨m,⟨a,n,f,o,p,q⟩,r⟩:=hl;have g:a∈X.fs:=j a (by unfold bY;rw[ni,f];exact a4);obtain⟨x,t⟩:=d.base.slot a n p (d.ok.Vj a g) g λu=>d.ok.Uw a u g;exact#[m,#[a,_,f,o,t,q],l (λe i=>j e (by unfold bY;rw[ni,f];exact bj _ i)) r]
 exact k X.outer (λ_ i=>i) d.ok.SM
theorem O.stack(a:O X pins b H s):s.heap.FunFrames X.base X.stack:=by
 rcases a.ok.Vt with c|⟨c,d⟩
 .rw[c];exact a.SM
 .rw[c]
  obtain⟨f,e,_⟩:=a.loc;refine .cons (by rw[a.ok.kind];decide) d e ?_ a.SM;exact Heap.get?_none_of_le (bB a.ok.U9 a.ok.above)
theorem O.UM(e:O X pins b H s):∀d∈bY X.stack,d∈X.env.locals::X.fs:=λd a=>by
 rcases e.ok.Vt with c|⟨c,f⟩
 .rw[c] at a;exact bj _ a
 .rw[c] at a
  unfold bY at a;rw[ni,f] at a;exact a
theorem O.TY(a:O X pins b H s):∀c∈bY X.stack,H c=none:=λc d=>by
 rcases bw.mp (a.UM c d) with e|d
 .rw[e];exact a.free
 .obtain⟨_,f,g,_⟩:=a.ok.SM.mem d
  exact a.base.free c f g (a.ok.Vj c d) λi=>a.ok.Uw c i d
theorem O.step{g':Array m_}{R:Nat}{d':o6}{ch:List B}(g:O X pins b H s)
  (u:∀a∈ch,(a∈X.ex\/X.Sl.heap.objs.size<=a)/\a≠X.env.locals/\(∀i f,X.env.cells.lookup i=some f->f≠a)/\ ∀l∈X.pn++pins,l.1≠a)
  (keep:∀a d,a≠X.env.locals->a∉X.fs->a∉ch->s.heap.get? a=some d->H a=none->h'.get? a=some d)
  (I:∀a d,a≠X.env.locals->a∈X.fs->a∉ch->s.heap.get? a=some d->H a=none-> ∃E,h'.get? a=some {d with slots:=E})(z:∀a d,a∉ch->s.heap.get? a=some d->H a=none->c a=none)
  (S:∀a d,a∉ch->s.heap.get? a=some d-> ∃v,h'.get? a=some v)
  (T:∀a p,H a=some (.tup p)->c a=some (.tup p))(U:∀a d A,H a=some (.R3 d A)->c a=some (.R3 d A))(V:∀a C,H a=some (.tbl C)-> ∃e6,c a=some (.tbl (C++e6)))
  (W:∀r,s.heap.Ns X.env.locals r->h'.Ns X.env.locals r)(Y:bG X.prog X.w c h')(Z:h6 g'):
  O X pins b c {s with heap:=h',gens:=g',drawn:=d',toks:=R}:=by
 have J:∀a d,X.Sl.heap.get? a=some d->a≠X.env.locals:=λa d e=>cZ (cP (bc e) g.ok.above);have D:∀a d,X.Sl.heap.get? a=some d->a∉X.ex->a∉ch:=λa d e j q=>by
  rcases(u a q).1 with k|k
  .exact j k
  .exact absurd (cP (bc e) k) (gi _)
 have K:∀i f,X.env.cells.lookup i=some f-> ∀n,s.heap.IsCell f n->h'.IsCell f n:=λi f e n ⟨d,t,F⟩=>by
  have x:f∉ch:=λk=>(u f k).2.2.1 i f e rfl;by_cases L:f∈X.fs
  .obtain⟨E,aa⟩:=I f d (g.VH i f e) L x t (g.RN i f e)
   exact#[_,aa,F]
  .exact#[d,keep f d (g.VH i f e) L x t (g.RN i f e),F]
 refine#[g.ok,g.os,Z,#[λa d e m q j=>?_,λa d e m q j=>?_,λa d e m j=>?_,λa d e j=>?_,λa p e=>T a p (g.base.SN a p e),λa d p e=>U a d p (g.base.Sw a d p e),λa C e=>?_],?_,λi f e=>?_,?_,λi f e=>?_,λl N=>?_,Y,g.len]
 .exact keep a d (J a d e) q (D a d e j) (g.base.keep a d e m q j) (g.base.free a d e m j)
 .obtain⟨E,o⟩:=g.base.slot a d e m q j
  obtain⟨ab,y⟩:=I a _ (J a d e) q (D a d e j) o (g.base.free a d e m j);exact#[ab,y]
 .obtain⟨v,o⟩:=g.base.there a d e j
  exact z a v (D a d e j) o (g.base.free a d e m j)
 .obtain⟨v,o⟩:=g.base.there a d e j
  exact S a v (D a d e j) o
 .obtain⟨m1,o⟩:=g.base.SQ a C e
  obtain⟨m2,y⟩:=V a _ o;exact#[m1++m2,by rw[y,Dg]]
 .obtain⟨r,ad,hl⟩:=g.loc
  refine#[r,W r ad,λae i n o y af=>?_];obtain⟨A,ah,G⟩:=hl ae i n o y af;refine#[A,ah,?_];rcases G with G|⟨ai,f,e,k⟩
  .exact .inl G
  .exact .inr #[ai,f,e,K i f e _ k]
 .obtain⟨n,k⟩:=g.cell i f e
  exact#[n,K i f e n k]
 .obtain⟨r,⟨d,_,_,t,_⟩,_⟩:=g.loc
  exact z _ d (λk=>(u _ k).2.1 rfl) t g.free
 .obtain⟨n,d,t,F⟩:=g.cell i f e
  exact z f d (λk=>(u f k).2.2.1 i f e rfl) t (g.RN i f e)
 .obtain⟨e,m,P,Q,al⟩:=g.pin l N
  have x:l.1∉ch:=λk=>(u l.1 k).2.2.2 l N rfl;exact#[keep l.1 l.2 P Q x e m,z l.1 l.2 x e m,P,Q,al]
theorem O.un{t':Nat}(i:O X pins b H s)(a:Un X.fs [] H c s.heap h')(m:bG X.prog X.w c h'):O X pins b c {s with heap:=h',toks:=t'}:=by
 obtain⟨u,⟨d,v,x,k,y⟩,_⟩:=id i.loc;obtain⟨z,n⟩:=a.any k i.free (by simp);exact i.step (g':=s.gens) (d':=s.drawn) (ch:=[]) (λ_ o=>nomatch o) (λe d _ j _ f g=>a.keep e d f g j (by simp)) (λe d _ j _ f g=>a.slot e d f g j (by simp)) (λe d _ f g=>a.free e d f g (by simp)) (λe d _ f=>a.there e d f (by simp)) a.SN a.Sw a.SQ (λA p=>by
  obtain⟨C,q,r,l,t⟩:=p;rw[k] at l;cases l;exact#[_,q,r,n,t]) m i.bare
theorem O.call{g':Array m_}{t':Nat}{d':o6}{ch:List B}(j:O X pins b H s)(d:Un (bY X.stack) ch H c s.heap h')(q:bG X.prog X.w c h')(r:h6 g')
  (m:∀a∈ch,(a∈X.ex\/X.Sl.heap.objs.size<=a)/\a≠X.env.locals/\(∀t n,X.env.cells.lookup t=some n->n≠a)/\ ∀u∈X.pn++pins,u.1≠a):
  O X pins b c {s with heap:=h',gens:=g',drawn:=d',toks:=t'}:=by
 obtain⟨C,⟨e,D,E,o,F⟩,_⟩:=id j.loc;obtain⟨G,k⟩:=d.any o j.free λl=>(m _ l).2.1 rfl;exact j.step (ch:=ch) m (λa e k v f g i=>d.keep a e g i (λl=>(bw.mp (j.UM a l)).elim k v) f) (λa e _ _ f g i=>d.any g i f) (λa e f g i=>d.free a e g i f) (λa e f g=>d.there a e g f) d.SN d.Sw d.SQ (λI x=>by
  obtain⟨J,y,z,p,A⟩:=x;rw[o] at p;cases p;exact#[_,y,z,k,A]) q r
theorem O.turned{t':Nat}{f:B}(m:O X pins b H s)(i:∀a d,a≠f->s.heap.get? a=some d->h'.get? a=some d)(p:H f=none)(n:f≠X.env.locals)
  (D:f∈X.ex\/X.Sl.heap.objs.size<=f)(q:∀r j,X.env.cells.lookup r=some j->j≠f)(t:∀u∈X.pn++pins,u.1≠f):O X pins b H {s with heap:=h',toks:=t'}:=by
 have o:∀a k,H a=some k->a≠f:=λa k c e=>by rw[e,p] at c;cases c
 refine m.step (g':=s.gens) (d':=s.drawn) (ch:=[f]) (λa v=>?_) (λa d _ _ g c _=>i a d (λe=>g (by simp[e])) c) (λa d _ _ g c _=>#[d.slots,i a d (λe=>g (by simp[e])) c]) (λ_ _ _ _ w=>w)
  (λa d g c=>#[d,i a d (λe=>g (by simp[e])) c]) (λ_ _ c=>c) (λ_ _ _ c=>c) (λa F c=>#[#v[],by rw[c];simp]) (λG x=>?_) (λa k c=>?_) m.bare
 .have c:a=f:=by simpa using v
  subst c;exact#[D,n,q,t]
 .obtain⟨d,y,z,A,C⟩:=x
  exact#[d,y,z,i _ d (b8 n) A,C]
 .refine(m.Ra a k c).RX (λj E g l=>i j E ?_ l) (λ_ l=>l) λ_ _ l=>l
  rcases g with e|e
  .rw[e];exact o a k c
  .exact o j _ e
theorem O.tok(a:O X pins b H s)(c:Nat):O X pins b H {s with toks:=c}:=a.un (h':=s.heap) (t':=c) Un.refl a.Ra
theorem O.kept{t':Nat}(a:O X pins b H s)(c:∀d e,s.heap.get? d=some e->h'.get? d=some e):O X pins b H {s with heap:=h',toks:=t'}:=a.un (Un.kept c) (a.Ra.kept c)
theorem O.laid{a:B}{o:HO}{t':Nat}(c:O X pins b H s)(e:∀f g,s.heap.get? f=some g->h'.get? f=some g)(d:s.heap.objs.size<=a)(i:bU X.prog X.w (upd H a o) h' a o):
  O X pins b (upd H a o) {s with heap:=h',toks:=t'}:=c.un (Un.laid e d (c.Ra.fresh d)) (c.Ra.laid e d i)
theorem O.write{x e:B}{c:HO}{t':Nat}(f:O X pins b H s)(g:i0 (H x))(i:e=x\/H e=some (.own x))(j:∀d a,d≠e->s.heap.get? d=some a->h'.get? d=some a)(k:∃a,h'.get? e=some a)
  (l:bU X.prog X.w (upd H x c) h' x c):O X pins b (upd H x c) {s with heap:=h',toks:=t'}:=f.un (Un.write g i j k) (f.Ra.write g i j k l)
theorem O.weak{e:List (Option V)}(a:O X pins b H s)(hl:e.length=b.length)(w:∀(c:Nat)d,e[c]? =some (some d)->b[c]? =some (some d)):O X pins e H s:=
 #[a.ok,a.os,a.bare,a.base,let⟨f,g,i⟩:=a.loc;#[f,g,λc j d k l m=>i c j d k (w c d l) m],a.cell,a.free,a.RN,a.pin,a.Ra,hl.trans a.len]
theorem O.UV{d:List (B×ak)}(a:O X pins b H s)(e:∀c∈d,s.heap.get? c.1=some c.2/\H c.1=none/\c.1≠X.env.locals/\c.1∉X.fs/\ ∀f,c.2.data≠ .cell f):O X d b H s:=
 #[a.ok,a.os,a.bare,a.base,a.loc,a.cell,a.free,a.RN,λc g=>(c4.mp g).elim (λi=>a.pin c (wo _ i)) (e c),a.Ra,a.len]
theorem r8{a:List Str}(e:a.Nodup){b c:Nat}{d:Str}(f:a[b]? =some d)(g:a[c]? =some d):b=c:=by
 obtain⟨D,i⟩:=aC.mp f;obtain⟨k,j⟩:=aC.mp g;exact(List.getElem_inj e).mp (i.trans j.symm)
theorem wp{aw:h7}{ax:a_}{aB:Value->M->Prop}{z:Nat}{i:Str}{v:V}{E:Value}{ab:Unit->M->Prop}(a:O X pins b H s)(ad:X.N.Nodup)(A:X.N[z]? =some i)(k:jZ X.env.scope i)(ae:aN v E)
  (af:∀K,O X pins (b.set z (some v)) H K->(∃r,nj r s.heap K.heap/\(r=X.env.locals\/X.env.cells.lookup i=some r))->ab () K)(aD:X.fn i=true\/X.env.scope.names.lookup i=some .local:=by first|exact .inl rfl|exact .inr rfl|assumption):wpAny aw ax (wq X.env i E) ab aB s:=by
 obtain⟨aF,L,hl⟩:=id a.loc;have aG:(X.env.scope.kind== .class||(X.env.scope.kind== .module&&X.env.locals !=X.env.globals))=false:=by rw[a.ok.kind];rfl
 have ah:z<b.length:=by rw[a.len];exact(aC.mp A).1
 have P:=a.VH;have ai:∀{r:B}{h':Heap},(∃l,s.heap.get? r=some l/\H r=none)->nj r s.heap h'->bG X.prog X.w H h':=λ{r h'}ha d e ob c=>by
  obtain⟨_,_,al⟩:=ha;refine(a.Ra e ob c).RX (λf F j m=>(d.2 f ?_).trans m) (λ_ m=>m) λ_ _ m=>m;rintro rfl;rcases j with rfl|j
  .rw[al] at c;cases c
  .rw[al] at j;cases j
 rcases k with t|t
 .refine wpAny_storeName_local t L (λh' aH d=>?_) aG
  obtain⟨aI,_,_,aJ,_⟩:=id L;refine af _ #[a.ok,a.os,a.bare,#[λe l c n u k=>?_,λe l c n u k=>?_,a.base.free,λe l c k=>?_,a.base.SN,a.base.Sw,a.base.SQ],#[_,aH,λC o Q g q R=>?_],λo f c=>?_,a.free,a.RN,λy S=>?_,ai #[aI,aJ,a.free] d,by simpa using a.len] #[_,d,.inl rfl]
  .exact(d.2 e (cZ (cP (bc c) a.ok.above))).trans (a.base.keep e l c n u k)
  .obtain⟨T,g⟩:=a.base.slot e l c n u k
   exact#[T,(d.2 e (cZ (cP (bc c) a.ok.above))).trans g]
  .obtain⟨U,g⟩:=a.base.there e l c k
   exact#[U,(d.2 e (cZ (cP (bc c) a.ok.above))).trans g]
  .by_cases x:C=z
   .subst x
    rw[A] at g;cases g;rw[nk ah] at q;cases q;exact#[E,ae,.inl #[t,by simp]]
   .rw[o7 (b8 x)] at q
    obtain⟨W,Y,m⟩:=hl C o Q g q R;refine#[W,Y,?_];rcases m with⟨D,c⟩|⟨D,f,c,p⟩
    .refine .inl #[D,?_]
     have:o≠i:=λc=>x (r8 ad g (c▸A));simp[this,c]
    .exact .inr #[D,f,c,p.sameBut d (P o f c)]
  .obtain⟨F,p⟩:=a.cell o f c
   exact#[F,p.sameBut d (P o f c)]
  .obtain⟨c,n,G,Z,I⟩:=a.pin y S
   exact#[(d.2 y.1 G).trans c,n,G,Z,I]
 .have aa:X.fn i=true:=by
   rcases aD with p|p
   .exact p
   .rw[p] at t;cases t
  obtain⟨f,j⟩:=a.ok.has i (.inl t);obtain⟨F,p⟩:=a.cell i f j;refine wpAny_storeName_cell a.ok.kind t j p (λh' am d=>?_);obtain⟨ao,as,aK⟩:=id p;refine af {s with heap:=h'} #[a.ok,a.os,a.bare,#[λe l c n u k=>?_,λe l c n u k=>?_,a.base.free,λe l c k=>?_,a.base.SN,a.base.Sw,a.base.SQ],#[aF,L.sameBut d (b8 (P i f j)),λC o Q g q R=>?_],λo J c=>?_,a.free,a.RN,λy S=>?_,ai #[ao,as,a.RN i f j] d,by simpa using a.len] #[f,d,.inr j]
  .exact(d.2 e (cZ (cP (bc c) (a.ok.VE i f aa j)))).trans (a.base.keep e l c n u k)
  .obtain⟨T,g⟩:=a.base.slot e l c n u k
   exact#[T,(d.2 e (cZ (cP (bc c) (a.ok.VE i f aa j)))).trans g]
  .obtain⟨U,g⟩:=a.base.there e l c k
   exact#[U,(d.2 e (cZ (cP (bc c) (a.ok.VE i f aa j)))).trans g]
  .by_cases x:C=z
   .subst x
    rw[A] at g;cases g;rw[nk ah] at q;cases q;exact#[E,ae,.inr #[.inl t,f,j,am]]
   .rw[o7 (b8 x)] at q
    obtain⟨W,Y,m⟩:=hl C o Q g q R;refine#[W,Y,?_];rcases m with m|⟨D,J,c,aL⟩
    .exact .inl m
    .refine .inr #[D,J,c,aL.sameBut d ?_]
     rintro rfl;exact x (r8 ad g (a.ok.inj _ _ _ c j▸A))
  .by_cases au:J=f
   .subst au;exact#[_,am]
   .obtain⟨aM,aO⟩:=a.cell o J c
    exact#[aM,aO.sameBut d au]
  .obtain⟨c,n,G,Z,I⟩:=a.pin y S
   refine#[(d.2 y.1 ?_).trans c,n,G,Z,I];intro m;rw[m,as] at c;have aT:ao=y.2:=b5 c;exact I F (by rw[<-aT];exact aK)
theorem o8{g:h7}{i:a_}{j:Value->M->Prop}{d:Nat}{a:Str}{v:V}{e:Value}{f:Unit->M->Prop}(k:O X pins b H s)(l:X.N.Nodup)(m:X.N[d]? =some a)(n:jZ X.env.scope a)(o:aN v e)
  (p:∀c,O X pins (b.set d (some v)) H c->f () c)(q:X.fn a=true\/X.env.scope.names.lookup a=some .local:=by first|exact .inl rfl|exact .inr rfl|assumption):wpAny g i (wq X.env a e) f j s:=
 wp k l m n o (λc r _=>p c r) q
theorem O.VD{a:M}{ch:List B}(f:O X pins b H s)(g:a.os=s.os)(i:Un (bY X.stack) ch H c s.heap a.heap)(j:bG X.prog X.w c a.heap)(k:h6 a.gens)
  (l:∀d∈ch,(d∈X.ex\/X.Sl.heap.objs.size<=d)/\d≠X.env.locals/\(∀m e,X.env.cells.lookup m=some e->e≠d)/\ ∀n∈X.pn++pins,n.1≠d):O X pins b c a:=by
 obtain⟨h',o,p,q,r⟩:=a;have t:r=s.os:=g;subst t;exact f.call (g':=o) (t':=q) (d':=p) i j k l
end
abbrev XK:=Value->Option B->G->Prop
abbrev St:=List (Option V)
abbrev VK:=V->G->Prop
abbrev TE:=St->G->VK->Prop
abbrev TT:=St->G->(Bool->G->Prop)->Prop
abbrev TA:=St->G->(List V->G->Prop)->Prop
structure c5 where
 nx:St->G->Prop
 rt:VK
 bk:St->G->Prop:=λ_ _=>False
 ct:St->G->Prop:=λ_ _=>False
abbrev TS:=c5->St->G->Prop
def EP(c:Cx)(d:List (B×ak))(e:St)(f:VK)(g:Value)(i:M):Prop:=∃a b,O c d e b i/\aN a g/\f a b
def TP(b:Cx)(c:List (B×ak))(d:St)(e:Bool->G->Prop)(f:Bool)(g:M):Prop:=∃a,O b c d a g/\e f a
def AP(c:Cx)(d:List (B×ak))(e:St)(f:List V->G->Prop)(g:List Value)(i:M):Prop:=∃a b,O c d e b i/\aB a g/\f a b
def SP(c:Cx)(d:List (B×ak))(e:c5)(i:lb)(f:M):Prop:=
 match i with
 | .next=>∃b a,O c d b a f/\e.nx b a
 | .brk=>∃b a,O c d b a f/\e.bk b a
 | .cont=>∃b a,O c d b a f/\e.ct b a
 | .ret j=>∃g b a,O c d b a f/\aN g j/\e.rt g a
def PE(a:Cx)(g:Expr)(i:TE):Prop:=
 ∀(c:List (B×ak))(d:M)(b:St)(e:G)(f:VK),O a c b e d->i b e f->wpAny (ar a.prog a.w) a.A (aA g a.env) (EP a c b f) a.xe d
def PT(a:Cx)(c:Expr)(i:TT):Prop:=
 ∀(d:List (B×ak))(e:M)(b:St)(f:G)(g:Bool->G->Prop),O a d b f e->i b f g->wpAny (ar a.prog a.w) a.A (isTrue c a.env (aA c a.env)) (TP a d b g) a.xe e
def PW(a:Cx)(g:Expr)(i:TT):Prop:=
 ∀(j:dM Value)(c:List (B×ak))(d:M)(b:St)(e:G)(f:Bool->G->Prop),O a c b e d->i b e f->wpAny (ar a.prog a.w) a.A (isTrue g a.env j) (TP a c b f) a.xe d
theorem PW.pt{a:Cx}{b:Expr}{c:TT}(d:PW a b c):PT a b c:=d _
def PA(a:Cx)(g:List Expr)(i:TA):Prop:=
 ∀(j:aU)(c:List (B×ak))(d:M)(b:St)(e:G)(f:List V->G->Prop),O a c b e d->i b e f->wpAny (ar a.prog a.w) a.A (spliced (cB j (az g a.env))) (AP a c b f) a.xe d
def PS(a:Cx)(st:aX)(g:TS):Prop:=
 ∀(b:List (B×ak))(c:M)(d:St)(e:G)(f:c5),O a b d e c->g f d e->wpAny (ar a.prog a.w) a.A (exec st a.env) (SP a b f) a.xe c
def d4(a:Cx)(st:List aX)(g:TS):Prop:=
 ∀(b:List (B×ak))(c:M)(d:St)(e:G)(f:c5),O a b d e c->g f d e->wpAny (ar a.prog a.w) a.A (execs st a.env) (SP a b f) a.xe c
theorem au{b:Type}{c:dM b}{d e:b->M->Prop}{f:h7}{g:a_}{i:Value->M->Prop}{a:M}(k:wpAny f g c d i a)(l:∀j a,d j a->e j a):wpAny f g c e i a:=dN k l λ_ _ m=>m
end L2
namespace L2
open PySem PySem.Spec PyProof.Rows
section
variable{X:Cx}
def oS(a:Option (Option V))(b:V->Prop):Prop:=match a with|some (some c)=>b c|_=>False
theorem oS.ex{b:Option (Option V)}{d:V->Prop}(c:oS b d):∃a,b=some (some a)/\d a:=match b,c with|some (some a),c=>#[a,rfl,c]
def oV(a:Option V)(b:V->Prop):Prop:=match a with|some c=>b c|none=>False
theorem oV.ex{b:Option V}{d:V->Prop}(c:oV b d):∃a,b=some a/\d a:=match b,c with|some a,c=>#[a,rfl,c]
def vI(a:V)(b:Int->Prop):Prop:=match a with| .int c=>b c|_=>False
theorem vI.ex{b:V}{d:Int->Prop}(c:vI b d):∃a,b=.int a/\d a:=match b,c with| .int a,c=>#[a,rfl,c]
def vR(a:V)(b:B->Prop):Prop:=match a with| .ref c=>b c|_=>False
theorem vR.ex{b:V}{d:B->Prop}(c:vR b d):∃a,b=.ref a/\d a:=match b,c with| .ref a,c=>#[a,rfl,c]
theorem o9{d e:V}{f:Int->Int->Prop}(c:vI d λa=>vI e λb=>f a b):∃a b,d=.int a/\e=.int b/\f a b:=let⟨a,g,c⟩:=vI.ex c;let⟨b,i,c⟩:=vI.ex c;#[a,b,g,i,c]
def v1(a:List V)(b:V->Prop):Prop:=match a with|[c]=>b c|_=>False
theorem v1.ex{b:List V}{d:V->Prop}(c:v1 b d):∃a,b=[a]/\d a:=match b,c with|[a],c=>#[a,rfl,c]
def b2(a:Nat):TE:=λb c d=>oS b[a]? λe=>d e c
def tC(a:V):TE:=λ_ b c=>c a b
theorem Dh{d:Nat}{b:Str}{l:aU}(m:X.N[d]? =some b)(n:jY X.env.scope b)(e:(b==("__debug__":Str))=false:=by decide)(o:(b==("__classdict__":Str))=false:=by decide):PE X (.Name b l) (b2 d):=by
 intro p q r s t c f;obtain⟨i,u,f⟩:=oS.ex f;obtain⟨A,v,hl⟩:=c.loc;obtain⟨w,x,y⟩:=hl d b i m u n;have g:EP X p r t w q:=#[i,s,c,x,f];rcases y with⟨a,z⟩|⟨a,C,j,k⟩
 .exact wr (Di c.ok.kind a v z g) e
 .rcases a with a|a
  .exact wr (Dj c.ok.kind a j k g) e
  .exact wr (wpAny_loadName_free c.ok.kind a j k g o) e
theorem ai {a b c}:PE X (.Constant (.int a) b c) (tC (.int a)):=λ_ _ _ d _ e f=>wpAny_Constant_int #[.int a,d,e.tok _,#[_,rfl],f]
theorem le {a b c}:PE X (.Constant (.bool a) b c) (tC (.bl a)):=λ_ _ _ d _ e f=>Constant_bool #[.bl a,d,e,rfl,f]
theorem lf {a b}:PE X (.Constant .none a b) (tC .non):=λ_ _ _ c _ d e=>r9 #[.non,c,d,rfl,e]
theorem aT {a b c}:PE X (.Constant (.str a) b c) (tC (.str a)):=λ_ _ _ d _ e f=>Calls.Constant_str #[.str a,d,e.tok _,#[_,rfl],f]
def Gl(X:Cx)(a:Str):Prop:=X.env.kindOf a=some .globalImplicit
theorem j0{f:Value->M->Prop}{g:List (B×ak)}{c:M}{i:St}{j:G}{a:Str}{d:Value}{k:aU}{e:Value->M->Prop}(b:O X g i j c)(l:Gl X a)(m:X.mg a=some d)(n:e d c)
  (o:(a==("__debug__":Str))=false:=by decide):wpAny (ar X.prog X.w) X.A (aA (.Name a k) X.env) e f c:=
 o_ b.ok.kind l (r_ (by rw[b.ok.glob];exact b.mod.glob.keeps b.bk) m n) o
theorem i1{f:Value->M->Prop}{g:List (B×ak)}{c:M}{i:St}{j:G}{a:Str}{d:Value}{k:aU}{e:Value->M->Prop}(b:O X g i j c)(l:Gl X a)(m:X.mg a=none)(n:ng a=some d)(o:e d c)
  (p:a≠ "__name__":=by decide)(q:(a==("__debug__":Str))=false:=by decide):wpAny (ar X.prog X.w) X.A (aA (.Name a k) X.env) e f c:=by
 obtain⟨s,D,r⟩:=b.mod.blt;exact o_ b.ok.kind l (Calls.loadGlobal_builtin (by rw[b.ok.glob];exact b.mod.glob.keeps b.bk) m (by rw[b.ok.blt];exact D.keeps b.bk) ((r a p).trans n) o) q
theorem i2{a:Str}{v:V}{b:Value}{d:aU}(e:Gl X a)(f:X.mg a=some b)(g:aN v b)(i:(a==("__debug__":Str))=false:=by decide):PE X (.Name a d) (tC v):=
 λ_ _ _ j _ c k=>j0 c e f #[v,j,c,g,k] i
variable{a b:Expr}{c f:TE}{d:aU}
def PC(X:Cx)(i:lg)(a b:Expr)(j:TE):Prop:=
 ∀(d:List (B×ak))(e:M)(c:St)(f:G)(g:VK),O X d c f e->j c f g->
  wpAny (ar X.prog X.w) X.A (aA a X.env) (λk l=>wpAny (ar X.prog X.w) X.A (aA b X.env) (λm n=>wpAny (ar X.prog X.w) X.A (e8 i k m) (EP X d c g) X.xe n) X.xe l) X.xe e
theorem Dk(b:Expr){a:lg}(c:a≠ .In)(d:a≠ .NotIn):lh a b=false:=by
 have e:(a==Dl)=false:=by cases a<;>first|rfl|exact absurd rfl c
 have f:(a==Dm)=false:=by cases a<;>first|rfl|exact absurd rfl d
 cases b<;>simp[lh,e,f]
def Dn(c:TE):TE:=λa b d=>c a b λe f=>d (.bl (decide (e=.non))) f
def Do(c:TE):TE:=λa b d=>c a b λe f=>d (.bl (!decide (e=.non))) f
theorem aN.Uy{b:V}{d:Value}(a:aN b d):(d==gO)=decide (b=.non):=by
 cases b with
 |non=>cases a;rfl
 |bl _=>cases a;rfl
 |int _=>obtain⟨c,rfl⟩:=a;rfl
 |str _=>obtain⟨c,rfl⟩:=a;rfl
 |byt _=>obtain⟨c,rfl⟩:=a;rfl
 |flt _=>obtain⟨c,rfl⟩:=a;rfl
 |ref _=>cases a;rfl
 |ty _=>cases a;rfl
theorem wt {b d}(e:PE X a c):PC X .Is a (.Constant .none b d) (Dn c):=by
 intro f g i j q k l;refine au (e f g i j _ k l) λr s ⟨t,m,n,o,p⟩=>?_;exact r9 (is_none_gen #[.bl _,m,n,by rw[o.Uy];rfl,p])
theorem Dq {b d}(e:PE X a c):PC X .IsNot a (.Constant .none b d) (Do c):=by
 intro f g i j q k l;refine au (e f g i j _ k l) λr s ⟨t,m,n,o,p⟩=>?_;exact r9 (isnot_none_gen #[.bl _,m,n,by rw[o.Uy];rfl,p])
inductive IB(g:Bool->G->Prop)(i:V)(j:G):Prop
 |mk (e)(k:i=.bl e)(l:g e j)
def tB(a:TE):TT:=λb c d=>a b c λe f=>IB d e f
theorem lj{c:lg}{e:TE}(f:PC X c a b e)(D:lh c b=false:=by first|exact Dk _ (by decide) (by decide)|rfl):PT X (.Compare a [c] [b] d) (tB e):=by
 intro g i j k t l m;refine Dr (au (f g i j k _ l m) λu v D=>au D λw x n=>au n λy z ⟨A,o,p,q,r⟩=>?_) D;obtain⟨C,rfl,s⟩:=r;cases q;exact nl #[o,p,s]
theorem eJ{a:Expr}{c:TE}(e:PE X a c)(f:∀d,isTrue a X.env d=(do let b<-d;i3 a.pos;gP [b] (truthy b)):=by intro _;rfl):PT X a (tB c):=by
 intro g i j k s l m;refine Ds (au (e g i j k _ l m) λb t ⟨u,n,o,p,q⟩=>?_) (f _);obtain⟨v,rfl,r⟩:=q;cases p;exact nl #[n,o,r]
variable{e h:TT}{g:List Expr}
def Du(d e:TT):TT:=λa f b=>d a f λg c=>if g=true then e a c b else b false c
def Dv(d e:TT):TT:=λa f b=>d a f λg c=>if g=true then b true c else e a c b
def Dx(a:TT):TT:=λb c d=>a b c λe f=>d (!e) f
theorem i4(c:PT X a e):PW X (.BoolOp .And [a] d) e:=by
 intro o f g i j k l m;refine isTrue_and (au (c f g i j k l m) λn p b=>?_);cases n with
 |true=>exact isTrue_and_nil b
 |false=>exact b
theorem j1(c:PT X a e):PW X (.BoolOp .Or [a] d) e:=by
 intro o f g i j k l m;refine isTrue_or (au (c f g i j k l m) λn p b=>?_);cases n with
 |false=>exact isTrue_or_nil b
 |true=>exact b
theorem i5(l:PT X a e)(m:PW X (.BoolOp .And (b::g) d) h):PW X (.BoolOp .And (a::b::g) d) (Du e h):=by
 intro n c o f p q r s;refine isTrue_and (au (l c o f p _ r s) λt u ⟨i,j,k⟩=>?_);cases t with
 |true=>exact m n c u f i q j k
 |false=>exact#[i,j,k]
theorem j2(l:PT X a e)(m:PW X (.BoolOp .Or (b::g) d) h):PW X (.BoolOp .Or (a::b::g) d) (Dv e h):=by
 intro n c o f p q r s;refine isTrue_or (au (l c o f p _ r s) λt u ⟨i,j,k⟩=>?_);cases t with
 |true=>exact#[i,j,k]
 |false=>exact m n c u f i q j k
theorem sb(b:PT X a e):PT X (.UnaryOp .Not a d) (Dx e):=by
 intro c f g i j k l;exact isTrue_not (b c f g i (λm n=>j (!m) n) k l)
def Dy(c f:TE):TE:=λa g b=>c a g λi d=>∃e,i=.bl e/\if e=true then f a d b else b (.bl false) d
theorem Dz {c}{b:TE}(e:PE X a b):PE X (.BoolOp c [a] d) b:=λf g i j k l m=>BoolOp_one (e f g i j k l m)
theorem DA(m:PE X a c)(n:PE X (.BoolOp .And (b::g) d) f):PE X (.BoolOp .And (a::b::g) d) (Dy c f):=by
 intro i o j p q r s;refine BoolOp_and (au (m i o j p _ r s) λw t ⟨x,k,l,u,e⟩=>?_);obtain⟨v,rfl,e⟩:=e;cases u;refine nl ?_;cases v with
 |true=>exact n i t j k q l e
 |false=>exact#[.bl false,k,l,rfl,e]
def DB(e:TT)(c f:TE):TE:=λa g b=>e a g λi d=>if i=true then c a d b else f a d b
theorem nn{j:Expr}(p:PT X j e)(q:PE X a c)(r:PE X b f):PE X (.IfExp j a b d) (DB e c f):=by
 intro g s i t k u v;refine wpAny_IfExp (au (p g s i t _ u v) λw l ⟨m,n,o⟩=>?_);cases w with
 |true=>exact q g l i m k n o
 |false=>exact r g l i m k n o
end
end L2
namespace L2
open PySem PySem.Spec PyProof.Rows
def I(K:aj)(d:G)(c:B)(xs:List V):Prop:=
 Rd d c (.lst xs)\/
  ∃(a:ak)(b:Array Value)(e:Nat),K.lookup c=some a/\a.cls=.type "list"/\a.dict=none/\a.data=.seq b e/\b.size<=aq/\aB xs b.toList
def a8(K:aj)(e:G)(c:B)(d:List V):Prop:=
 Rd e c (.tup d)\/
  ∃(a:ak)(b:Array Value)(f:Nat),K.lookup c=some a/\a.cls=.type "tuple"/\a.data=.seq b f/\b.size<=aq/\aB d b.toList
def DC:Value->Option V
 | .none=>some .non
 | .bool a=>some (.bl a)
 | .int i _=>some (.int i)
 | .str x _=>some (.str x)
 | .bytes a _=>some (.byt a)
 | .float a _=>some (.flt a)
 | .ref b=>some (.ref b)
 | .type c=>some (.ty c)
 |_=>none
theorem aN.abs{b:V}{d:Value}(a:aN b d):DC d=some b:=by
 cases b with
 |non=>cases a;rfl
 |bl _=>cases a;rfl
 |int _=>obtain⟨c,rfl⟩:=a;rfl
 |str _=>obtain⟨c,rfl⟩:=a;rfl
 |byt _=>obtain⟨c,rfl⟩:=a;rfl
 |flt _=>obtain⟨c,rfl⟩:=a;rfl
 |ref _=>cases a;rfl
 |ty _=>cases a;rfl
theorem aN.inj{a b:V}{c:Value}(d:aN a c)(e:aN b c):a=b:=b5 (d.abs.symm.trans e.abs)
theorem aB.inj:∀{a b:List V}{c:List Value},aB a c->aB b c->a=b
 |_,_,_,.nil,.nil=>rfl
 |_,_,_,.cons r t,.cons r' d=>by rw[r.inj r',aB.inj t d]
section
variable{X:Cx}{pins:List (B×ak)}{b:St}{H:G}{s:M}{a:B}{xs c:List V}
theorem I.of{K:aj}(b:H a=some (.lst xs)):I K H a xs:=.inl (.inl b)
theorem a8.of{K:aj}(b:H a=some (.tup xs)):a8 K H a xs:=.inl (.inl b)
theorem O.list(i:O X pins b H s)(e:I X.K H a xs):∃c:List Value,aB xs c/\PlainL s.heap a c.toArray/\xs.length<=aq:=by
 rcases e with e|⟨j,c,f,k,l,m,n,p,d⟩
 .obtain⟨o,c,f,d,g⟩:=e.ok i.Ra
  exact#[c,d,#[_,f,g,rfl,rfl,rfl],o]
 .refine#[c.toList,d,#[j,f,i.Sh a j k,l,m,by simpa using n],?_]
  have g:=d.length;simp only[sd] at g;omega
theorem O.tuple(f:O X pins b H s)(e:a8 X.K H a xs):∃c:List Value,aB xs c/\IsTup s.heap a c.toArray/\xs.length<=aq:=by
 rcases e with e|⟨g,c,i,j,k,l,p,d⟩
 .obtain⟨m,c,d,n⟩:=e.ok f.Ra
  exact#[c,d,n,m]
 .refine#[c.toList,d,#[g,f.Sh a g j,k,i,by simpa using l],?_]
  have o:=d.length;simp only[sd] at o;omega
theorem O.RZ(d:O X pins b H s)(g:I X.K H a xs)(i:I X.K H a c):xs=c:=by
 obtain⟨j,k,⟨q,r,l,_,_,m⟩,_⟩:=d.list g;obtain⟨n,o,⟨t,u,e,_,_,f⟩,_⟩:=d.list i;rw[l] at e;cases e;rw[m] at f;injection f with p _
 have:j=n:=by simpa using congrArg wu p
 subst this;exact k.inj o
theorem O.UZ(d:O X pins b H s)(g:a8 X.K H a xs)(i:a8 X.K H a c):xs=c:=by
 obtain⟨j,k,⟨q,l,_,r,m⟩,_⟩:=d.tuple g;obtain⟨n,o,⟨t,e,_,u,f⟩,_⟩:=d.tuple i;rw[l] at e;cases e;rw[m] at f;injection f with p _
 have:j=n:=by simpa using congrArg wu p
 subst this;exact k.inj o
end
abbrev Cx.Tv(a:Cx)(b:Value->M->Prop):Cx:={a with xe:=b}
abbrev Cx.V2(a:Cx):Cx:=a.Tv λ_ _=>False
theorem Cx.Ok.Tv{a:Cx}(ok:a.Ok)(b:Value->M->Prop):(a.Tv b).Ok:=
 #[ok.mod,ok.kind,ok.glob,ok.blt,ok.above,ok.inj,ok.has,ok.VE,ok.hd,ok.frames,ok.Vt,ok.VW,ok.bs,ok.U9,ok.Ur,ok.Uw,ok.SM,ok.Vj]
theorem Cx.Ok.So{a:Cx}{b:Value->M->Prop}(ok:(a.Tv b).Ok):a.Ok:=
 #[ok.mod,ok.kind,ok.glob,ok.blt,ok.above,ok.inj,ok.has,ok.VE,ok.hd,ok.frames,ok.Vt,ok.VW,ok.bs,ok.U9,ok.Ur,ok.Uw,ok.SM,ok.Vj]
section
variable{X:Cx}{pins:List (B×ak)}{a:St}{H:G}{s:M}{b:Value->M->Prop}
theorem O.Tv(c:O X pins a H s)(b:Value->M->Prop):O (X.Tv b) pins a H s:=#[c.ok.Tv b,c.os,c.bare,c.base,c.loc,c.cell,c.free,c.RN,c.pin,c.Ra,c.len]
theorem O.So(c:O (X.Tv b) pins a H s):O X pins a H s:=#[c.ok.So,c.os,c.bare,c.base,c.loc,c.cell,c.free,c.RN,c.pin,c.Ra,c.len]
theorem SP.So{i:c5}{g:lb}{j:M}(f:SP (X.Tv b) pins i g j):SP X pins i g j:=by
 cases g with
 |next=>obtain⟨a,c,d,e⟩:=f;exact#[a,c,d.So,e]
 |brk=>obtain⟨a,c,d,e⟩:=f;exact#[a,c,d.So,e]
 |cont=>obtain⟨a,c,d,e⟩:=f;exact#[a,c,d.So,e]
 |ret m=>obtain⟨k,a,c,d,l,e⟩:=f;exact#[k,a,c,d.So,l,e]
theorem d4.V2{st:List aX}{b:TS}(c:d4 X.V2 st b):d4 X st b:=λpins s a H d e f=>
 dN (c pins s a H d (e.Tv _) f) (λ_ _ g=>g.So) λ_ _ i=>dz i
end
section
variable{X:Cx}{st:aX}{c:List aX}{t u:TS}{e:Expr}{a:TE}{b:aU}
def DD:TS:=λa b c=>a.nx b c
def j3(t u:TS):TS:=λa b c=>t {a with nx:=u a} b c
theorem bC:d4 X [] DD:=λ_ _ a b _ c d=>pa #[a,b,c,d]
theorem J(D:PS X st t)(e:d4 X c u):d4 X (st::c) (j3 t u):=by
 intro d f g i b j k;refine DE (au (D d f g i {b with nx:=u b} j k) λl m a=>?_);cases l with
 |next=>
  obtain⟨n,o,p,a⟩:=a;exact e d m n o b p a
 |ret q=>exact a
 |brk=>exact a
 |cont=>exact a
theorem ae(D:PS X st t):d4 X [st] t:=by
 intro b c d e f g i;refine DE (au (D b c d e f g i) λj k a=>?_);cases j with
 |next=>exact pa a
 |ret l=>exact a
 |brk=>exact a
 |cont=>exact a
theorem O.quiet{a:List (B×ak)}{b:St}{c:G}{d:M}(e:O X a b c d):DF X.env=false:=by simp[DF,e.ok.kind]
def nq(a:TE):TS:=λc b d=>a b d λ_ e=>c.nx b e
theorem aG(f:PE X e a)(g:i6 e none b.line X.env=pure false:=by rfl):PS X (.Expr e b) (nq a):=by
 intro i j c k p d l;exact wpAny_Expr_any (au (f i j c k _ d l) λq r ⟨s,m,n,t,o⟩=>#[c,m,n,o]) d.quiet g
def se(a:TE):TS:=λb c d=>a c d b.rt
theorem ax(d:PE X e a):PS X (.Return (some e) b) (se a):=by
 intro f g c i q j k;exact wpAny_Return_some (au (d f g c i _ j k) λr s ⟨l,m,n,o,p⟩=>#[l,c,m,n,o,p])
def DG:TS:=λa _ b=>a.rt .non b
theorem wv:PS X (.Return none b) DG:=λ_ _ a c _ d e=>wpAny_Return_none #[.non,a,c,d,rfl,e]
def ww(d:TT)(t u:TS):TS:=λb a e=>d a e λf c=>if f=true then t b a c else u b a c
theorem ba{d:Expr}{e f:List aX}{g:TT}(n:PT X d g)(o:d4 X e t)(p:d4 X f u):PS X (.If d e f b) (ww g t u):=by
 intro a q c r i s v;refine wpAny_If (au (n a q c r _ s v) λw j ⟨k,l,m⟩=>?_);cases w with
 |true=>exact o a j c k i l m
 |false=>exact p a j c k i l m
end
abbrev TG:=V->St->G->(St->G->Prop)->Prop
abbrev hk:=List V->St->G->(St->G->Prop)->Prop
def PG(a:Cx)(l:Expr)(m:TG):Prop:=
 ∀(b:List (B×ak))(c:M)(d:St)(e:G)(f:V)(g:Value)(i:St->G->Prop),O a b d e c->aN f g->m f d e i->
  wpAny (ar a.prog a.w) a.A (ll l a.env g) (λ_ n=>∃j k,O a b j k n/\i j k) a.xe c
def nr(a:Cx)(l:List Expr)(m:hk):Prop:=
 ∀(b:List (B×ak))(c:M)(d:St)(e:G)(f:List V)(g:List Value)(i:St->G->Prop),O a b d e c->aB f g->m f d e i->
  wpAny (ar a.prog a.w) a.A (assignInOrder ((j4 l a.env).map (·.2)) g) (λ_ n=>∃j k,O a b j k n/\i j k) a.xe c
abbrev nt:=V->V->V->G->(G->Prop)->Prop
def sf(a:Cx)(o:nt):Prop:=
 ∀(b:List (B×ak))(c:M)(d:St)(e:G)(f g i:V)(j k l:Value)(m:G->Prop),O a b d e c->aN f j->aN g k->aN i l->o f g i e m->
  wpAny (ar a.prog a.w) a.A (sg j k l) (λ_ p=>∃n,O a b d n p/\m n) a.xe c
abbrev j5:=V->V->G->VK->Prop
def nv(a:Cx)(l:ny)(m:j5):Prop:=
 ∀(b:List (B×ak))(c:M)(d:St)(e:G)(f g:V)(i j:Value)(k:VK),O a b d e c->aN f i->aN g j->m f g e k->
  wpAny (ar a.prog a.w) a.A (sh l i j) (EP a b d k) a.xe c
section
variable{X:Cx}{a:aU}
def gQ(a:Nat):TG:=λb c d e=>e (c.set a (some b)) d
theorem DH{c:Nat}{b:Str}(d:X.N.Nodup)(e:X.N[c]? =some b)(f:jZ X.env.scope b)(g:X.fn b=true\/X.env.scope.names.lookup b=some .local:=by first|exact .inl rfl|exact .inr rfl|assumption):PG X (.Name b a) (gQ c):=by
 intro n o p i q r s j k l;exact DI (o8 j d e f k (λt m=>#[_,i,m,l]) g)
def DJ:hk:=λa b c d=>a=[]/\d b c
inductive DK(d:TG)(e:hk)(f:List V)(g:St)(i:G)(j:St->G->Prop):Prop
 |mk (b c)(m:f=b::c)(n:d b g i λk l=>e c k l j)
def DL(a:TG)(b:hk):hk:=λc d e f=>DK a b c d e f
theorem gj:nr X [] DJ:=by
 intro g i b c j k l d e a;obtain⟨f,a⟩:=a;subst f;cases e;exact assignInOrder_nil #[b,c,d,a]
theorem c0{a:Expr}{b:List Expr}{e:TG}{f:hk}(D:PG X a e)(i:nr X b f)
  (j:(j4 (a::b) X.env).map (·.2)=ll a X.env::(j4 b X.env).map (·.2):=by rfl):nr X (a::b) (DL e f):=by
 intro g k l m w x n o c d;obtain⟨y,z,p,d⟩:=d;subst p;cases c with
 |cons c q=>
  rw[j];refine assignInOrder_cons (au (D g k l m _ _ _ o c d) λ_ r ⟨s,t,u,v⟩=>?_);exact i g r s t _ _ n u q v
inductive DM(K:aj)(e:Nat)(f:hk)(g:V)(i:St)(c:G)(j:St->G->Prop):Prop
 |mk (d b)(k:g=.ref d)(l:a8 K c d b)(m:b.length=e)(n:f b i c j)
def wx(K:aj)(a:Nat)(b:hk):TG:=λc d e f=>DM K a b c d e f
theorem h8{b:List Expr}{n:Nat}{e:hk}{f:Nat}(o:X.calm=true)(p:nr X b e)
  (q:(j4 b X.env).length=f:=by rfl)(r:(j4 b X.env).findIdx? (·.1)=none:=by rfl):PG X (.Tuple b n a) (wx X.K f e):=by
 intro g i j k D E s c t d;obtain⟨F,u,v,hq,hl,d⟩:=d;subst v;cases t;obtain⟨G,l,w,H⟩:=c.tuple hq;refine assign_Tuple_tuple (c.ok.hd o) w (by simp[q,<-hl,l.length]) r λx y=>?_;have z:O X g j k {i with heap:=x}:=c.kept (t':=i.toks) λA C m=>y A C (cZ (bc m)) m;exact p g _ j k u _ s z (by simpa using l) d
def DN(b ti:TE)(c:nt):TG:=λd a e f=>b a e λg i=>ti a i λj k=>c g j d k λl=>f a l
theorem lm{e f:Expr}{j ti:TE}{k:nt}(l:PE X e j)(m:PE X f ti)(n:sf X k)
  (o:∀b,ll (.Subscript e f a) X.env b=(do
   let c<-gP [b] (aA e X.env);let d<-gP [b,c] (aA f X.env)
   i3 a
   gP [b,c,d] (sg c d b)
   release [b,c,d] []):=by intro _;rfl):PG X (.Subscript e f a) (DN j ti k):=by
 intro i p g q b r L s t u;rw[o];refine ap (pb (au (l i p g q _ s u) λc v ⟨w,x,y,z,A⟩=>?_));refine ap (pb (au (m i v g x _ y A) λd C ⟨D,E,F,G,H⟩=>?_));refine ap (j6 (ap (pb (au (n i C g E w D b c d r _ F z G t H) λ_ N ⟨I,J,K⟩=>?_))));exact wpAny_release #[g,I,J,K]
def i7(b:TE)(c:TG):TS:=λd a e=>b a e λf g=>c f a g d.nx
theorem ln{b c:Expr}{d:TE}{e:TG}(i:PE X c d)(j:PG X b e)(k:swapsWithSole [b] c a.line X.env=pure false:=by rfl)(l:swappedStores [b] c X.env=pure none:=by rfl)
  (D:(j4 [b] X.env).map (·.2)=[ll b X.env]:=by rfl):PS X (.Assign [b] c a) (i7 d e):=by
 intro f m g n y o p;refine wpAny_Assign_stores (au (i f m g n _ o p) λq r ⟨s,t,u,v,w⟩=>?_) k l;rw[D];exact au (j f r g t s q _ u v w) λ_ z x=>x
theorem DO{d:Nat}{b:Str}{c:Expr}{e:TE}{f:aU}(g:X.N.Nodup)(i:X.N[d]? =some b)(j:jZ X.env.scope b)(k:PE X c e)(l:i6 c (some (.Name b f)) a.line X.env=pure false:=by rfl)(m:X.fn b=true\/X.env.scope.names.lookup b=some .local:=by first|exact .inl rfl|exact .inr rfl|assumption):
  PS X (.Assign [.Name b f] c a) (i7 e (gQ d)):=by
 intro n o p q y r s;refine wpAny_Assign_Name (au (k n o p q _ r s) λz A ⟨C,t,u,v,w⟩=>?_) l;exact o8 u g i j v (λD x=>#[_,t,x,w]) m
inductive DP(c:Nat)(e:TE)(ti:j5)(f:c5)(b:St)(g:G):Prop
 |mk (d)(m:b[c]? =some (some d))(n:e b g λi j=>ti d i j λk l=>f.nx (b.set c (some k)) l)
def DQ(a:Nat)(b:TE)(ti:j5):TS:=λc d e=>DP a b ti c d e
theorem si{i:Nat}{b:Str}{f:Expr}{n:TE}{g:ny}{ti:j5}{t:aU}(u:X.N.Nodup)(o:X.N[i]? =some b)(j:jZ X.env.scope b)(v:PE X f n)(x:nv X g ti)(y:X.fn b=true\/X.env.scope.names.lookup b=some .local:=by first|exact .inl rfl|exact .inr rfl|assumption):
  PS X (.AugAssign (.Name b t) g f a) (DQ i n ti):=by
 intro k p q z C e l;obtain⟨r,D,l⟩:=l;obtain⟨aa,E,hl⟩:=e.loc;have F:jY X.env.scope b:=by rcases j with d|d;exact .inl d;exact .inr (.inl d)
 obtain⟨s,m,G⟩:=hl i b r o D F;refine wpAny_AugAssign_Name ?_;have go:wpAny (ar X.prog X.w) X.A (aA f X.env) (λw H=>wpAny (ar X.prog X.w) X.A (sh g s w) (λm I=>wpAny (ar X.prog X.w) X.A (wq X.env b m) (λ_=>SP X k C .next) X.xe I) X.xe H) X.xe p:=by
  refine au (v k p q z _ e l) λw J ⟨K,L,O,P,Q⟩=>?_;refine au (x k J q L r K s w _ O m P Q) λab ad ⟨ae,R,S,T,U⟩=>?_;exact o8 S u o j T (λaf V=>#[_,R,V,U]) y
 rcases G with⟨c,W⟩|⟨c,ah,Y,Z⟩
 .exact Di e.ok.kind c E W go
 .rcases c with c|c
  .exact Dj e.ok.kind c Y Z go
  .rcases j with d|d
   .have:X.env.scope.names.lookup b=some .free:=c
    rw[d] at this;cases this
   .have:X.env.scope.names.lookup b=some .free:=c
    rw[d] at this;cases this
def DR(d ti e:TE)(f:V->V->G->VK->Prop)(g:j5)(i:nt):TS:=λj a k=>d a k λb l=>ti a l λc m=>f b c m λn o=>e a o λp q=>g n p q λr s=>i b c r s λt=>j.nx a t
def wy(X:Cx)(k:V->V->G->VK->Prop):Prop:=
 ∀(a:List (B×ak))(b:M)(c:St)(d:G)(e f:V)(g i:Value)(j:VK),O X a c d b->aN e g->aN f i->k e f d j->
  wpAny (ar X.prog X.w) X.A (lp g i) (EP X a c j) X.xe b
theorem nA{i g j:Expr}{k ti l:TE}{m:V->V->G->VK->Prop}{n:j5}{o:nt}{p:ny}{u:aU}(v:PE X i k)(w:PE X g ti)(x:wy X m)(y:PE X j l)(z:nv X p n)(A:sf X o)
  (C:∀b c e,augStore g b c e=(do gP [e,b,c] (sg b c e);release [e,b,c] [];pure .next):=by intros;rfl):PS X (.AugAssign (.Subscript i g u) p j a) (DR k ti l m n o):=by
 intro f D d E aG F H;refine wpAny_AugAssign_SubscriptAny (au (v f D d E _ F H) λb I ⟨q,J,K,r,L⟩=>?_) C;refine au (w f I d J _ K L) λc N ⟨s,O,P,t,Q⟩=>?_;refine au (x f N d O q s b c _ P r t Q) λR S ⟨T,U,W,Y,Z⟩=>?_;refine au (y f S d U _ W Z) λaa ab ⟨ad,ae,af,ah,ai⟩=>?_;refine au (z f ab d ae T ad R aa _ af Y ah ai) λe al ⟨am,ao,as,aw,ax⟩=>?_;exact au (A f al d ao q s am b c e _ as r t aw ax) λ_ aH ⟨aB,aD,aF⟩=>#[d,aB,aD,aF]
def wz(a:Int->Int->Int):j5:=λb c d e=>vI b λf=>vI c λg=>e (.int (a f g)) d
theorem lq:nv X .Add (wz λb c=>b+c):=by
 intro l m n d o p q r s e f g a;obtain⟨b,i,a⟩:=vI.ex a;obtain⟨c,j,k⟩:=vI.ex a;subst i;subst j;obtain⟨t,rfl⟩:=f;obtain⟨u,rfl⟩:=g;exact iadd_int #[.int _,d,e.tok _,#[_,rfl],k]
theorem DS:nv X .Sub (wz λb c=>b-c):=by
 intro l m n d o p q r s e f g a;obtain⟨b,i,a⟩:=vI.ex a;obtain⟨c,j,k⟩:=vI.ex a;subst i;subst j;obtain⟨t,rfl⟩:=f;obtain⟨u,rfl⟩:=g;exact isub_int #[.int _,d,e.tok _,#[_,rfl],k]
end
section
variable{X:Cx}{a:aU}
def DT(l:TT)(m:TS):TS:=λd a b=>∃e:Nat->St->G->Prop,(∃c,e c a b)/\ ∀c a b,e c a b->
 l a b λn g=>if n=true then∃f:St->G->Prop,(∀i j,f i j-> ∃k,k<c/\e k i j)/\m {d with nx:=f,ct:=f,bk:=d.nx} a g else d.nx a g
theorem i8{o:Expr}{p:List aX}{q:TT}{r:TS}(s:PassesOwn (ar X.prog X.w) X.A X.env X.xe)(C:PT X o q)(D:d4 X p r):PS X (.While o p [] a) (DT q r):=by
 intro g T E F U G H;obtain⟨I,⟨m0,J⟩,a5⟩:=H;refine wpAny_While (codeAny_whileLoop (λi K=>∃t u,O X g t u K/\I i t u) ?_ m0 #[E,F,G,J]);rintro i L ⟨d,v,N,P⟩;refine lr s (au (C g L d v _ N (a5 i d v P)) λQ R ⟨x,y,e⟩=>?_);cases Q with
 |true=>
  obtain⟨V,z,e⟩:=e;rw[if_pos rfl];refine lr s (au (D g R d x _ y e) λS W f=>?_);cases S with
  |next=>
   obtain⟨b,c,j,k⟩:=f;obtain⟨l,m,n⟩:=z b c k;exact#[l,m,b,c,j,n]
  |cont=>
   obtain⟨b,c,j,k⟩:=f;obtain⟨l,m,n⟩:=z b c k;exact#[l,m,b,c,j,n]
  |brk=>exact f
  |ret Y=>exact f
 |false=>
  rw[if_neg cC];exact pa #[d,x,y,e]
end
structure It where
 go:Nat->G->Prop
 Ve:Nat->G->V->G->Prop
 stop:Nat->G->Prop
def gk(b:Cx)(d:List (B×ak))(e:G)(a:B):Prop:=
 e a=none/\a≠b.env.locals/\a∉b.fs/\(a∈b.ex\/b.Sl.heap.objs.size<=a)/\(∀f c,b.env.cells.lookup f=some c->c≠a)/\ ∀g∈b.pn++d,g.1≠a
theorem O.Uv{e:Cx}{f:List (B×ak)}{j:St}{k g:G}{i:M}{c:B}(a:O e f j k i)(b:i.heap.objs.size<=c)(l:g c=none):gk e f g c:=by
 refine#[l,hm (cP a.lt b),a.Wi b,.inr (bB a.sz b),λm n o d=>?_,λp q d=>?_]
 .obtain⟨s,r⟩:=a.cell m n o
  exact absurd (cP r.lt (by rw[d];exact b)) (gi _)
 .exact absurd (cP (bc (a.pin p q).1) (by rw[d];exact b)) (gi _)
structure hn(i:Program)(w:World)(K:aj)(z:Expr)(p:It)(j:List B)(k:B)(f:Nat->Heap->Prop):Prop where
 mem:k∈j
 obj:∀b m,f b m-> ∀d∈j,∃n,m.get? d=some n/\ ∀A,n.data≠ .cell A
 keep:∀b m u,f b m->(∀d∈j,∀n,m.get? d=some n->u.get? d=some n)->f b u
 item:∀(a:Cx),a.prog=i->a.w=w->a.K=K->a.calm=true-> ∀(b:Nat)(g:List (B×ak))(c:M)(o:St)(e:G)(l:Value->M->Prop),O a g o e c->(∀d∈j,gk a g e d)->f b c.heap->p.go b e->
  wpAny (ar i w) a.A (pc (.ref k)) (λq r=>∃s,q=some s/\
   wpAny (ar i w) a.A (sj z (.ref k) s) (λ_ v=>∃x t,O a g o t v/\aN x s/\p.Ve b e x t/\f (b+1) v.heap/\ ∀d∈j,t d=none) l r) l c
 done:∀(a:Cx),a.prog=i->a.w=w->a.K=K->a.calm=true-> ∀(b:Nat)(g:List (B×ak))(c:M)(o:St)(e:G)(l:Value->M->Prop),O a g o e c->(∀d∈j,gk a g e d)->f b c.heap->p.stop b e->
  wpAny (ar i w) a.A (pc (.ref k)) (λq r=>q=none/\O a g o e r) l c
 self:∀(C:a_)(b:Nat)(c:M)(y:Value->M->Prop)(l:Value->M->Prop),f b c.heap->y (.ref k) c->wpAny (ar i w) C (pyIter (.ref k)) y l c
abbrev TI:=St->G->(It->G->Prop)->Prop
def sk(a:Cx)(c:List (B×ak))(j:St)(k:Expr)(l:It->G->Prop)(m:Value)(d:M):Prop:=
 ∃(e:B)(f:List B)(g:Nat->Heap->Prop)(i:It)(b:G),m=.ref e/\O a c j b d/\hn a.prog a.w a.K k i f e g/\g 0 d.heap/\(∀n∈f,gk a c b n)/\l i b
def PI(a:Cx)(g i:Expr)(j:TI):Prop:=
 ∀(c:List (B×ak))(d:M)(b:St)(e:G)(f:It->G->Prop),O a c b e d->j b e f->
  wpAny (ar a.prog a.w) a.A (aA i a.env) (λk l=>wpAny (ar a.prog a.w) a.A (pyIter k) (sk a c b g f) a.xe l) a.xe d
theorem nB{d:h7}{e:a_}{f:Value->M->Prop}{s:M}{g:Expr}{i:B}{j:Value}{a:ak}{n:String}{k:Array Value}{b:Unit->M->Prop}(m:s.heap.get? i=some a)(o:a.cls=.type n)(p:a.data=.fields k)
  (q:["enumerate","zip","dict_itemiterator","dict_reverseitemiterator","odict_iterator","itertools.zip_longest","itertools.pairwise"].contains n=false)(c:b () s):wpAny d e (sj g (.ref i) j) b f s:=by
 unfold sj;cases g<;>first
  |exact bO c
  |(cases j<;>first
    |exact bO c
    |(refine ap (wpAny_load m ?_)
      rw[o,p];show wpAny d e (if(["enumerate","zip","dict_itemiterator","dict_reverseitemiterator","odict_iterator","itertools.zip_longest","itertools.pairwise"].contains n&&k[0]? ==some (fy _))=true then _ else _) b f s;rw[if_neg (by intro l;rw[q,DU] at l;cases l)];exact bO c))
def h9(K:aj)(d:B):It:=
 #[λc b=>∃a e,I K b d a/\a[c]? =some e,λc b e f=>f=b/\ ∀a,I K b d a->a[c]? =some e,λc b=>∃a,I K b d a/\a.length<=c]
def ls(K:aj)(d:B):It:=
 #[λc b=>∃a e,a8 K b d a/\a[c]? =some e,λc b e f=>f=b/\ ∀a,a8 K b d a->a[c]? =some e,λc b=>∃a,a8 K b d a/\a.length<=c]
def i9(lo:Int)(b:Nat):It:=#[λa _=>a<b,λa c d e=>e=c/\d=.int (lo+a),λa _=>b<=a]
theorem DV{N:Program}{w:World}{K:aj}{P:Expr}(C b:B):hn N w K P (h9 K C) [b] b (λg i=>i.IsListIter b C g) where
 mem:=by simp
 obj:=λg i st c d=>by
  have a:c=b:=by simpa using d
  subst a;obtain⟨e,a,D,l⟩:=st;exact#[e,a,λae E=>by rw[l] at E;cases E]
 keep:=λg i j st Q=>st.at λe a=>Q b (by simp) e a
 item:=by
  intro F m n hK G g H s I o R f k st p;subst m n hK;obtain⟨S,T,hq,q⟩:=p;obtain⟨U,r,t,V⟩:=f.list hq;obtain⟨J,W,X⟩:=r.get q;obtain⟨u,v,Y,y,z,A⟩:=k b (by simp);refine wpAny_pyNext_list_item st t.isList (x:=J) (by simpa using W) λj L Z=>?_;have aa:O F H I o {s with heap:=j}:=f.turned (t':=s.toks) (λc e d a=>(Z.2 c d).trans a) u v y z A;obtain⟨e,a,D,l⟩:=id L;exact#[J,rfl,nB (s:={s with heap:=j}) a D l (by decide) #[T,o,aa,X,#[rfl,λaf ab=>by rw[f.RZ ab hq];exact q],L,λc d=>(k c d).1]]
 done:=by
  intro F m n hK G g H s I o R f k st p;subst m n hK;obtain⟨S,hq,q⟩:=p;obtain⟨U,r,t,V⟩:=f.list hq;obtain⟨u,v,Y,y,z,A⟩:=k b (by simp);have hl:=r.length;exact wpAny_pyNext_list_end (f.ok.hd G) st t.isList (by simp;omega) λj ad=>#[rfl,f.turned (t':=s.toks) (λc e d a=>ad c e d a) u v y z A]
 self:=λ_ _ _ _ _ st i=>wpAny_pyIter_listiter st i
theorem DW{P:Program}{w:World}{K:aj}{Q:Expr}(j b:B):hn P w K Q (ls K j) [b] b (λg i=>i.IsTupleIter b j g) where
 mem:=by simp
 obj:=λg i st c d=>by
  have a:c=b:=by simpa using d
  subst a;obtain⟨e,a,E,m⟩:=st;exact#[e,a,λae F=>by rw[m] at F;cases F]
 keep:=λg i k st R=>st.at λe a=>R b (by simp) e a
 item:=by
  intro G n o hK H g I s J p S f l st q;subst n o hK;obtain⟨T,U,hq,r⟩:=q;obtain⟨t,u,v,V⟩:=f.tuple hq;obtain⟨L,W,X⟩:=u.get r;obtain⟨y,z,Y,A,C,D⟩:=l b (by simp);refine wpAny_pyNext_tuple_item st (show s.heap.IsTuple j t.toArray from v) (x:=L) (by simpa using W) λk N Z=>?_;have aa:O G I J p {s with heap:=k}:=f.turned (t':=s.toks) (λc e d a=>(Z.2 c d).trans a) y z A C D;obtain⟨e,a,E,m⟩:=id N;exact#[L,rfl,nB (s:={s with heap:=k}) a E m (by decide) #[U,p,aa,X,#[rfl,λaf ab=>by rw[f.UZ ab hq];exact r],N,λc d=>(l c d).1]]
 done:=by
  intro G n o hK H g I s J p S f l st q;subst n o hK;obtain⟨T,hq,r⟩:=q;obtain⟨t,u,v,V⟩:=f.tuple hq;obtain⟨y,z,Y,A,C,D⟩:=l b (by simp);have hl:=u.length;exact wpAny_pyNext_tuple_end (f.ok.hd H) st (show s.heap.IsTuple j t.toArray from v) (by simp;omega) λk ad=>#[rfl,f.turned (t':=s.toks) (λc e d a=>ad c e d a) y z A C D]
 self:=λ_ _ _ _ _ st i=>wpAny_pyIter_tupleiter st i
theorem DX{E:Program}{w:World}{K:aj}{F:Expr}(b:B)(lo:Int)(n:Nat):hn E w K F (i9 lo n) [b] b (λa e=>sl e b (lo+(a:Nat)*1) ((n:Int)-(a:Nat)) 1) where
 mem:=by simp
 obj:=λa e st c d=>by
  have f:c=b:=by simpa using d
  subst f;exact#[_,st,λz G=>by
   have H:Data.fields _=Data.cell z:=G;cases H]
 keep:=λa e i st I=>I b (by simp) _ st
 item:=by
  intro j l m hK o a A s C p J g k st q;subst l m hK;obtain⟨r,t,L,u,v,x⟩:=k b (by simp);have N:=DY (prog:=j.prog) (w:=j.w) (g.ok.hd o) b lo 1 n;refine N.item a s _ _ q st λz i tk P D kk=>?_;obtain⟨Q,rfl⟩:=P;have R:O j A C p {s with heap:=i,toks:=tk}:=g.turned (λc y d f=>kk c y (by simpa using d) f) r t u v x;refine#[_,rfl,nB (s:={s with heap:=i,toks:=tk}) (n:= "range_iterator") D rfl rfl (by decide) #[.int (lo+a),p,R,#[Q,?_],#[rfl,rfl],D,λc d=>(k c d).1]];rw[Int.mul_one]
 done:=by
  intro j l m hK o a A s C p J g k st q;subst l m hK;obtain⟨r,t,L,u,v,x⟩:=k b (by simp);exact DZ (g.ok.hd o) st (by have:n<=a:=q;omega) λi S=>#[rfl,g.turned (t':=s.toks) (λc y d f=>S c y d f) r t u v x]
 self:=λ_ _ _ _ _ st e=>D0 st e
end L2
namespace L2
open PySem PySem.Spec PyProof.Rows
section
variable{X:Cx}{a:Expr}
inductive D1(K:aj)(d:It->G->Prop)(b:B)(c:G):Prop
 |mk {e}(f:I K c b e)(g:d (h9 K b) c)
def wA(K:aj)(tl:TE):TI:=λa b c=>tl a b λd e=>vR d λf=>D1 K c f e
inductive D2(K:aj)(d:It->G->Prop)(e:V)(c:G):Prop
 |mk (b)(g:e=.ref b)(i:(∃f,a8 K c b f))(j:d (ls K b) c)
def D3(K:aj)(tl:TE):TI:=λa b c=>tl a b λd e=>D2 K c d e
theorem b9{e:Expr}{tl:TE}(hl:PE X e tl):PI X a e (wA X.K tl):=by
 intro g i j k u l m;refine au (hl g i j k _ l m) λv c ⟨w,n,d,o,p⟩=>?_;obtain⟨q,b,@⟨x,hq,r⟩⟩:=vR.ex p;subst b;cases o;obtain⟨y,z,s,A⟩:=d.list hq;refine sm s.isList ?_;refine#[c.heap.objs.size,[c.heap.objs.size],_,_,n,rfl,d.kept (t':=c.toks) λf C b=>bn _ b,DV q _,#[_,dA _ rfl,rfl,rfl],λf t=>?_,r];have b:f=c.heap.objs.size:=by simpa using t
 subst b;exact d.Uv (av _) (d.Ra.fresh (av _))
theorem wB{e:Expr}{tl:TE}(hl:PE X e tl):PI X a e (D3 X.K tl):=by
 intro i j k l v m n;refine au (hl i j k l _ m n) λw b ⟨x,o,d,p,q⟩=>?_;obtain⟨f,c,⟨y,hq⟩,r⟩:=q;subst c;cases p;obtain⟨s,z,t,A⟩:=d.tuple hq;refine wpAny_pyIter_tuple (show b.heap.IsTuple f s.toArray from t) ?_;refine#[b.heap.objs.size,[b.heap.objs.size],_,_,o,rfl,d.kept (t':=b.toks) λg C c=>bn _ c,DW f _,#[_,dA _ rfl,rfl,rfl],λg u=>?_,r];have c:g=b.heap.objs.size:=by simpa using u
 subst c;exact d.Uv (av _) (d.Ra.fresh (av _))
theorem wC{j:List (B×ak)}{k:St}{i:G}{c:M}{n:It->G->Prop}{o:Value->M->Prop}{lo b:Int}{d e f:Tok}{tk:Nat}(p:O X j k i c)(D: -(2^62)<=lo)(q:lo<2^62)(r: -(2^62)<=b)(s:b<2^62)
  (t:n (i9 lo (b-lo).toNat) i):wpAny (ar X.prog X.w) X.A (pyIter (.ref c.heap.objs.size)) (sk X j k a n) o {c with heap:=c.heap.push {cls:=.type "range",data:=.fields #v[.int lo d,.int b e,.int 1 f]},toks:=tk}:=by
 refine D4 (D5 ..) (small_one D q r s) ?_;have l:O X j k i {c with heap:=c.heap.push {cls:=.type "range",data:=.fields #v[.int lo d,.int b e,.int 1 f]},toks:=tk}:=p.kept λm u g=>bn _ g;refine#[(c.heap.push {cls:=.type "range",data:=.fields #v[.int lo d,.int b e,.int 1 f]}).objs.size,[(c.heap.push {cls:=.type "range",data:=.fields #v[.int lo d,.int b e,.int 1 f]}).objs.size],_,_,i,rfl,
  l.kept (t':=tk) λm u g=>bn _ g,DX _ lo (b-lo).toNat,?_,λm v=>?_,t]
 .have x:lo+((0:Nat):Int)*1=lo:=by simp
  have y:(((b-lo).toNat:Nat):Int)-((0:Nat):Int)=wD lo b 1:=by rw[rangeSize_one];split<;>omega
  show sl _ _ (lo+((0:Nat):Int)*1) ((((b-lo).toNat:Nat):Int)-((0:Nat):Int)) 1;rw[x,y];exact dA _ rfl
 .have g:m=(c.heap.push {cls:=.type "range",data:=.fields #v[.int lo d,.int b e,.int 1 f]}).objs.size:=by simpa using v
  subst g;exact l.Uv (av _) (l.Ra.fresh (av _))
inductive D6(c:It->G->Prop)(d:List V)(e:G):Prop
 |mk(b:Int)(f:d=[.int b])(g: -(2^62)<=b)(i:b<2^62)(j:c (i9 0 b.toNat) e)
def D7(a:TA):TI:=λb c d=>a b c λe f=>D6 d e f
inductive D8(d:It->G->Prop)(e:List V)(f:G):Prop
 |mk(b c:Int)(g:e=[.int b,.int c])(i:(-(2^62)<=b/\b<2^62/\ -(2^62)<=c/\c<2^62))(j:d (i9 b (c-b).toNat) f)
def D9(a:TA):TI:=λb c d=>a b c λe f=>D8 d e f
theorem j7{b:Expr}{d:TA}{g e:aU}(i:Gl X "range")(j:X.mg "range"=none)(k:PA X [b] d)(l:az [b] X.env=[(false,aA b X.env)]:=by rfl):PI X a (.Call (.Name "range" g) [b] [] e) (D7 d):=by
 intro m n o p y f q;refine nC (i1 f i j wE (lu (au (k e m n o p _ f q) λz A ⟨C,D,r,s,c⟩=>?_) l rfl));obtain⟨E,t,c,u,v⟩:=c;subst t;cases s with
 |cons w x=>
  cases x;obtain⟨F,rfl⟩:=w;exact call_range_1 (wC r (by omega) (by omega) c u (by simpa using v))
theorem D_{c b:Expr}{f:TA}{k g:aU}(l:Gl X "range")(m:X.mg "range"=none)(n:PA X [c,b] f)(o:az [c,b] X.env=[(false,aA c X.env),(false,aA b X.env)]:=by rfl)(i:az [b] X.env=[(false,aA b X.env)]:=by rfl):
  PI X a (.Call (.Name "range" k) [c,b] [] g) (D9 f):=by
 intro p q r s E j t;refine nC (i1 j l m wE (lu (au (n g p q r s _ j t) λF G ⟨H,I,u,v,d⟩=>?_) (by rw[o,i]) (by rw[i];rfl)));obtain⟨J,K,w,⟨d,x,y,z⟩,A⟩:=d;subst w;cases v with
 |cons C e=>
  cases e with
  |cons D e=>
   cases e;obtain⟨L,rfl⟩:=C;obtain⟨N,rfl⟩:=D;exact call_range_2 (wC u d x y z A)
inductive i_(g:It)(o:TG)(p:TS)(i:c5)(b:St)(q:G):Prop
 |mk(j:Nat->Nat->St->G->Prop)(t:(∃f,j 0 f b q))(u:∀c f b d,j c f b d->
 (g.stop c d/\i.nx b d)\/(g.go c d/\ ∃k:St->G->Prop,(∀l e,k l e-> ∃m,m<f/\j (c+1) m l e)/\ ∀n e,g.Ve c d n e->o n b e λr s=>p {i with nx:=k,ct:=k,bk:=i.nx} r s))
def wF(b:TI)(c:TG)(d:TS):TS:=λe a f=>b a f λg i=>i_ g c d e a i
def nD(b:List B)(c:Heap):List (B×ak):=b.filterMap λa=>(c.get? a).map λd=>(a,d)
theorem so{b:List B}{c:Heap}{a:B}{d:ak}(e:a∈b)(f:c.get? a=some d):(a,d)∈nD b c:=wG.mpr #[a,e,by rw[f];rfl]
theorem Ea{e:List B}{c:Heap}{a:B×ak}(g:a∈nD e c):a.1∈e/\c.get? a.1=some a.2:=by
 obtain⟨f,i,b⟩:=wG.mp g;cases d:c.get? f with
 |none=>rw[d] at b;cases b
 |some j=>
  rw[d] at b;have k:(f,j)=a:=b5 b;subst k;exact#[i,d]
theorem O.pinned{b:List (B×ak)}{j:St}{c:G}{a:M}{d:List B}(k:O X b j c a)(o:∀e∈d,gk X b c e)(p:∀e∈d,∃f,a.heap.get? e=some f/\ ∀q,f.data≠ .cell q):O X (b++nD d a.heap) j c a:=
 k.UV λg r=>(c4.mp r).elim (λi=>k.pin g (ja _ i)) λi=>by
  obtain⟨l,m⟩:=Ea i;obtain⟨s,t,u,_⟩:=o g.1 l;obtain⟨f,n,v⟩:=p g.1 l;rw[m] at n;cases n;exact#[m,s,t,u,v]
theorem O.S0{pins e:List (B×ak)}{a:St}{b:G}{c:M}(d:O X (pins++e) a b c):O X pins a b c:=d.UV λf g=>d.pin f (ja _ (wo _ g))
theorem b_{v:Expr}{F:List aX}{H:TI}{I:TG}{J:TS}{aa:aU}(l:PassesOwn (ar X.prog X.w) X.A X.env X.xe)(K:X.calm=true)(ab:PI X a v H)(ad:PG X a I)(c:d4 X F J)
  (ae:∀m,sq v X.env m=pure m:=by intro _;rfl):PS X (.For a v F [] aa) (wF H I J):=by
 intro k af L ah bi ai al;refine wpAny_For (au (ab k af L ah _ ai al) λam bk D=>au D λbl bm ao=>?_) ae;obtain⟨bs,n,N,bt,as,o,aw,p,ax,P,Q,⟨m0,aB⟩,a5⟩:=ao;subst o;have x:∀{g:G},(∀b∈n,g b=none)-> ∀b∈n,gk X k g b:=λaD b c=>#[aD b c,(P b c).2];refine codeAny_forLoop_any (λt R=>∃i q g,O X k q g R/\N i R.heap/\(∀b∈n,g b=none)/\Q i t q g) ?_ m0 #[0,L,as,aw,ax,λb c=>(P b c).1,aB];rintro t S ⟨i,r,u,T,U,V,aF⟩;rcases a5 i t r u aF with⟨stop,aG⟩|⟨go,aH,aI,step⟩
 .refine lr l (au (p.done X rfl rfl rfl K i k S r u X.xe T (x V) U stop) λaJ aK ⟨y,aL⟩=>?_)
  subst y;exact pa #[r,u,aL,aG]
 .refine lr l (au (p.item X rfl rfl rfl K i k S r u X.xe T (x V) U go) λaJ aK ⟨aM,y,aN⟩=>?_)
  subst y;refine lr l (au aN λ_ W ⟨m,Y,aO,aT,aV,z,aW⟩=>?_);have aY:=aO.pinned (x aW) (p.obj _ _ z);refine lr l (au (ad _ W r Y m aM _ aY aT (step m Y aV)) λ_ aZ ⟨a0,a1,a3,a8⟩=>?_);refine lr l (au (c _ aZ a0 a1 _ a3 a8) λa9 C j=>?_);have again:∀{d:St}{e:G},O X (k++nD n W.heap) d e C->aH d e-> ∃Z,Z<t/\ ∃i q g,O X k q g C/\N i C.heap/\(∀b∈n,g b=none)/\Q i Z q g:=λ{d e}f s=>by
   obtain⟨ba,bb,bd⟩:=aI d e s;refine#[ba,bb,i+1,d,e,f.S0,p.keep _ _ _ z λb c E o=>(f.pin (b,E) (ja _ (ja _ (so c o)))).1,λb c=>?_,bd];obtain⟨E,o,bx⟩:=p.obj _ _ z b c;exact(f.pin (b,E) (ja _ (ja _ (so c o)))).2.1
  cases a9 with
  |next=>obtain⟨d,e,f,s⟩:=j;exact again f s
  |cont=>obtain⟨d,e,f,s⟩:=j;exact again f s
  |brk=>obtain⟨d,e,f,j⟩:=j;exact#[d,e,f.S0,j]
  |ret am=>obtain⟨be,d,e,f,bf,j⟩:=j;exact#[be,d,e,f.S0,bf,j]
end
theorem gl{K:aj}{a:B}{xs:List V}{m:TG}{n:TS}{f:c5}{c:St}{d:G}(e:Nat->St->G->Prop)(h0:e 0 c d)(hl:∀b c d,b<=xs.length->e b c d->I K d a xs)
  (q:∀b g c d,xs[b]? =some g->e b c d->m g c d λr s=>n {f with nx:=e (b+1),ct:=e (b+1),bk:=f.nx} r s)(t:∀c d,e xs.length c d->f.nx c d):
  L2.i_ (h9 K a) m n f c d:=by
 refine#[λb o c d=>o=xs.length-b/\b<=xs.length/\e b c d,#[xs.length,by simp,aR _,h0],?_];rintro b o c d ⟨rfl,u,i⟩;have j:=hl b c d u i;by_cases p:b<xs.length
 .refine .inr #[#[xs,xs[b],j,by simp[p]],e (b+1),λx v w=>#[xs.length-(b+1),by omega,rfl,p,w],λg v k=>?_]
  obtain⟨l,k⟩:=k;subst l;exact q b g c _ (k xs j) i
 .have l:b=xs.length:=by omega
  subst l;exact .inl #[#[xs,j,av _],t c d i]
theorem Eb{K:aj}{m:B}{d:List V}{n:TG}{o:TS}{f:c5}{b:St}{c:G}(e:Nat->St->G->Prop)(h0:e 0 b c)(hl:∀a b c,a<=d.length->e a b c->a8 K c m d)
  (r:∀a g b c,d[a]? =some g->e a b c->n g b c λs t=>o {f with nx:=e (a+1),ct:=e (a+1),bk:=f.nx} s t)(u:∀b c,e d.length b c->f.nx b c):
  L2.i_ (ls K m) n o f b c:=by
 refine#[λa p b c=>p=d.length-a/\a<=d.length/\e a b c,#[d.length,by simp,aR _,h0],?_];rintro a p b c ⟨rfl,v,i⟩;have j:=hl a b c v i;by_cases q:a<d.length
 .refine .inr #[#[d,d[a],j,by simp[q]],e (a+1),λy w x=>#[d.length-(a+1),by omega,rfl,q,x],λg w k=>?_]
  obtain⟨l,k⟩:=k;subst l;exact r a g b _ (k d j) i
 .have l:a=d.length:=by omega
  subst l;exact .inl #[#[d,j,av _],u b c i]
theorem j8{lo:Int}{d:Nat}{k:TG}{l:TS}{f:c5}{b:St}{c:G}(e:Nat->St->G->Prop)(h0:e 0 b c)
  (o:∀a b c,a<d->e a b c->k (.int (lo+a)) b c λp q=>l {f with nx:=e (a+1),ct:=e (a+1),bk:=f.nx} p q)(r:∀b c,e d b c->f.nx b c):
  L2.i_ (i9 lo d) k l f b c:=by
 refine#[λa m b c=>m=d-a/\a<=d/\e a b c,#[d,by simp,aR _,h0],?_];rintro a m b c ⟨rfl,u,n⟩;by_cases g:a<d
 .refine .inr #[g,e (a+1),λv s t=>#[d-(a+1),by omega,rfl,g,t],λw s i=>?_]
  obtain⟨j,i⟩:=i;subst j i;exact o a b _ g n
 .have j:a=d:=by omega
  subst j;exact .inl #[av _,r b c n]
end L2
namespace L2
open PySem PySem.Spec PyProof.Rows
abbrev R2:=V->V->G->VK->Prop
def cD(a:Cx)(l:Value->Value->dM Value)(m:R2):Prop:=
 ∀(b:List (B×ak))(c:M)(d:St)(e:G)(f g:V)(i j:Value)(k:VK),O a b d e c->aN f i->aN g j->m f g e k->
  wpAny (ar a.prog a.w) a.A (l i j) (EP a b d k) a.xe c
def sr(a:Cx)(j:Value->dM Value)(k:V->G->VK->Prop):Prop:=
 ∀(b:List (B×ak))(c:M)(d:St)(e:G)(f:V)(g:Value)(i:VK),O a b d e c->aN f g->k f e i->
  wpAny (ar a.prog a.w) a.A (j g) (EP a b d i) a.xe c
def ho(a:Cx)(j:Value)(k:List V->G->VK->Prop):Prop:=
 ∀(b:List (B×ak))(c:M)(d:St)(e:G)(f:List V)(g:List Value)(i:VK),O a b d e c->aB f g->k f e i->
  wpAny (ar a.prog a.w) a.A (call j g) (EP a b d i) a.xe c
def Ec(a:Cx)(j:V->G->(Bool->G->Prop)->Prop):Prop:=
 ∀(b:List (B×ak))(c:M)(d:St)(e:G)(f:V)(g:Value)(i:Bool->G->Prop),O a b d e c->aN f g->j f e i->
  wpAny (ar a.prog a.w) a.A (truthy g) (TP a b d i) a.xe c
def jb(b:R2)(c d:TE):TE:=λa e f=>c a e λg i=>d a i λj k=>b g j k f
def Ed(a:V->G->VK->Prop)(b:TE):TE:=λc d e=>b c d λf g=>a f g e
def rI(c:Int->Int->Prop)(d:Int->Int->V):R2:=λe f g i=>vI e λa=>vI f λb=>c a b/\i (d a b) g
def gR(a:Int->Int->V):R2:=λb c d e=>vI b λf=>vI c λg=>e (a f g) d
def rU(a:Int->V):V->G->VK->Prop:=λb c d=>vI b λe=>d (a e) c
section
variable{X:Cx}{a b c:Expr}{d e g:TE}{f:aU}
theorem ss(t:PE X a d)(u:PE X b e){l:List (B×ak)}{n:M}{c:St}{o:G}{q:V->V->G->Prop}(v:O X l c o n)
  (x:d c o λf p=>e c p λg i=>q f g i){r:Value->M->Prop}{s:Value->Value->dM Value}
  (y:∀j k m f g i,O X l c i m->aN f j->aN g k->q f g i->wpAny (ar X.prog X.w) X.A (s j k) r X.xe m):
  wpAny (ar X.prog X.w) X.A (aA a X.env) (λj z=>wpAny (ar X.prog X.w) X.A (aA b X.env) (λk C=>wpAny (ar X.prog X.w) X.A (s j k) r X.xe C) X.xe z) X.xe n:=by
 refine au (t l n c o _ v x) λj D ⟨f,p,E,F,H⟩=>?_;refine au (u l D c p _ E H) λk m ⟨g,i,I,J,K⟩=>?_;exact y j k m f g i I F J K
theorem aM{c:ny}{g:R2}(i:cD X (hp c) g)(j:PE X a d)(k:PE X b e):PE X (.BinOp a c b f) (jb g d e):=by
 intro l A m C n o p;exact wpAny_BinOp (ss j k o p λq r s t u v w x y z=>i l s m v t u q r n w x y z)
theorem e9{b:UnaryOp}{c:V->G->VK->Prop}(i:sr X (unaryOp b) c)(j:PE X a d):PE X (.UnaryOp b a f) (Ed c d):=by
 intro e k g l m n o;exact UnaryOp_ (au (j e k g l _ n o) λp q ⟨r,s,t,u,v⟩=>i e q g s r p m t u v)
theorem lv{i:Value->Value->dM Value}{j:Int->Int->Prop}{d:Int->Int->Int}
  (h_:∀(a b:Int)(e k:Tok)(c:M)(f:Value->M->Prop)(l:Value->M->Prop),j a b->f (.int (d a b) c.toks) {c with toks:=c.toks+1}->wpAny (ar X.prog X.w) X.A (i (.int a e) (.int b k)) f l c):
  cD X i (rI j λa b=>.int (d a b)):=by
 intro t c u m v x y k f n o p g;replace g:=o9 g;obtain⟨a,b,rfl,rfl,q,r⟩:=g;obtain⟨e,rfl⟩:=o;obtain⟨s,rfl⟩:=p;exact h_ a b e s c _ _ q #[.int (d a b),m,n.tok _,#[_,rfl],r]
theorem wH{i:Value->Value->dM Value}{d:Int->Int->Int}
  (h_:∀(a b:Int)(e j:Tok)(c:M)(f:Value->M->Prop)(k:Value->M->Prop),f (.int (d a b) c.toks) {c with toks:=c.toks+1}->wpAny (ar X.prog X.w) X.A (i (.int a e) (.int b j)) f k c):
  cD X i (gR λa b=>.int (d a b)):=by
 intro r c s l t u v j f m n o g;replace g:=o9 g;obtain⟨a,b,rfl,rfl,p⟩:=g;obtain⟨e,rfl⟩:=n;obtain⟨q,rfl⟩:=o;exact h_ a b e q c _ _ #[.int (d a b),l,m.tok _,#[_,rfl],p]
theorem pd{i:Value->Value->dM Value}{d:Int->Int->Bool}
  (h_:∀(a b:Int)(e j:Tok)(c:M)(f:Value->M->Prop)(k:Value->M->Prop),f (.bool (d a b)) c->wpAny (ar X.prog X.w) X.A (i (.int a e) (.int b j)) f k c):
  cD X i (gR λa b=>.bl (d a b)):=by
 intro r c s l t u v j f m n o g;replace g:=o9 g;obtain⟨a,b,rfl,rfl,p⟩:=g;obtain⟨e,rfl⟩:=n;obtain⟨q,rfl⟩:=o;exact h_ a b e q c _ _ #[.bl (d a b),l,m,rfl,p]
def Ee(b a:Int):Prop:=0<a/\a<1073741824
def lw(a b:Int):Prop:=(-(2^64)<a/\a<2^64)\/(-(2^64)<b/\b<2^64)
theorem lw.ok{b c:Int}(d:lw b c):lx b c:=by
 rcases d with⟨D,a⟩|⟨D,a⟩
 .exact .of_left (Ef D a)
 .exact .of_right (Ef D a)
theorem cg:cD X (hp .Add) (gR λa b=>.int (a+b)):=wH λ_ _ _ _ _ _ _ c=>add_int c
theorem hr:cD X (hp .Sub) (gR λa b=>.int (a-b)):=wH λ_ _ _ _ _ _ _ c=>sub_int c
theorem pe:cD X (hp .Mult) (rI lw λa b=>.int (a*b)):=lv λ_ _ _ _ _ _ _ c d=>mul_int d c.ok
theorem nE:cD X (hp .FloorDiv) (rI Ee λb a=>.int (b/a)):=lv λb a _ _ _ _ _ c d=>by
 have D:(0:Int)<a:=c.1;have e:a<1073741824:=c.2;exact Eg (by omega) (by rw[Eh b (by omega)];exact d) (.inl (Ei (by omega)))
theorem ph:cD X (hp .Mod) (rI (λ_ a=>0<a) λb a=>.int (b % a)):=lv λb a _ _ _ _ _ c d=>by
 have D:(0:Int)<a:=c;exact mod_int' (by omega) (by rw[Int.fmod_eq_emod_of_nonneg b (by omega)];exact d)
theorem Ej:cD X (sh .Mult) (rI lw λa b=>.int (a*b)):=lv λ_ _ _ _ _ _ _ c d=>imul_int d c.ok
theorem Ek{g:Value->dM Value}{c:Int->Int}
  (h_:∀(a:Int)(d:Tok)(b:M)(e:Value->M->Prop)(i:Value->M->Prop),e (.int (c a) b.toks) {b with toks:=b.toks+1}->wpAny (ar X.prog X.w) X.A (g (.int a d)) e i b):
  sr X g (rU λa=>.int (c a)):=by
 intro n b o j p q e k l f;replace f:=vI.ex f;obtain⟨a,rfl,m⟩:=f;obtain⟨d,rfl⟩:=l;exact h_ a d b _ _ #[.int (c a),j,k.tok _,#[_,rfl],m]
theorem e_:sr X (unaryOp .USub) (rU λa=>.int (-a)):=Ek λ_ _ _ _ _ b=>neg_int b
end
def wI:V->V->Bool
 | .non,.non=>true| .non,.int _=>true| .int _,.non=>true| .non,.bl _=>true| .bl _,.non=>true| .non,.str _=>true| .str _,.non=>true
 | .int _,.int _=>true| .bl _,.bl _=>true| .str _,.str _=>true| .byt _,.byt _=>true
 | .int _,.str _=>true| .str _,.int _=>true| .bl _,.str _=>true| .str _,.bl _=>true
 |_,_=>false
def El:R2:=λa b c d=>wI a b=true/\d (.bl (decide (a=b))) c
def Em:R2:=λa b c d=>wI a b=true/\d (.bl (!decide (a=b))) c
theorem pi{a b:Int}:decide (V.int a=V.int b)=(a==b):=by
 rw[fU];simp
theorem wJ{a b:Bool}:decide (V.bl a=V.bl b)=(a==b):=by
 rw[fU];simp
theorem wK{a b:Str}:decide (V.str a=V.str b)=(a==b):=by
 rw[fU];simp
theorem wL{a b:Array UInt8}:decide (V.byt a=V.byt b)=(a.toList==b.toList):=by
 rw[fU];cases a;cases b;simp
section
variable{X:Cx}{a b c:Expr}{d e f:TE}{g:aU}
theorem ci{c:List (B×ak)}{d:St}{a:G}{e:M}{f:VK}{b g:Bool}(i:O X c d a e)(j:f (.bl b) a)(k:b=g):EP X c d f (.bool g) e:=by
 subst k;exact#[.bl b,a,i,rfl,j]
theorem dO:cD X (e8 .Eq) El:=by
 intro n o p q l f r s t a i b m;obtain⟨g,c⟩:=m;cases l with
 |non=>
  cases i;cases f with
  |non=>cases b;exact Pz (ci a c (by simp))
  |bl d=>cases b;exact PB (ci a c (by simp))
  |int d=>obtain⟨e,rfl⟩:=b;exact PD (ci a c (by simp))
  |str d=>obtain⟨e,rfl⟩:=b;exact PF (ci a c (by simp))
  |_=>exact absurd (show false=true from g) cC
 |bl j=>
  cases i;cases f with
  |non=>cases b;exact PJ (ci a c (by simp))
  |bl d=>cases b;exact eq_bool (ci a c wJ)
  |str d=>obtain⟨e,rfl⟩:=b;exact PK (ci a c (by simp))
  |_=>exact absurd (show false=true from g) cC
 |int j=>
  obtain⟨k,rfl⟩:=i;cases f with
  |non=>cases b;exact PL (ci a c (by simp))
  |int d=>obtain⟨e,rfl⟩:=b;exact eq_int (ci a c pi)
  |str d=>obtain⟨e,rfl⟩:=b;exact PM (ci a c (by simp))
  |_=>exact absurd (show false=true from g) cC
 |str j=>
  obtain⟨k,rfl⟩:=i;cases f with
  |non=>cases b;exact PN (ci a c (by simp))
  |bl d=>cases b;exact PP (ci a c (by simp))
  |int d=>obtain⟨e,rfl⟩:=b;exact PQ (ci a c (by simp))
  |str d=>obtain⟨e,rfl⟩:=b;exact eq_str (ci a c wK)
  |_=>exact absurd (show false=true from g) cC
 |byt j=>
  obtain⟨k,rfl⟩:=i;cases f with
  |byt d=>obtain⟨e,rfl⟩:=b;exact PySem.W.eq_bytes (ci a c wL)
  |_=>exact absurd (show false=true from g) cC
 |_=>cases f<;>exact absurd (show false=true from g) cC
theorem fV:cD X (e8 .NotEq) Em:=by
 intro n o p q l f r s t a i b m;obtain⟨g,c⟩:=m;cases l with
 |non=>
  cases i;cases f with
  |non=>cases b;exact PR (ci a c (by simp))
  |bl d=>cases b;exact PU (ci a c (by simp))
  |int d=>obtain⟨e,rfl⟩:=b;exact PV (ci a c (by simp))
  |str d=>obtain⟨e,rfl⟩:=b;exact PX (ci a c (by simp))
  |_=>exact absurd (show false=true from g) cC
 |bl j=>
  cases i;cases f with
  |non=>cases b;exact PY (ci a c (by simp))
  |bl d=>cases b;exact ne_bool (ci a c (congrArg not wJ))
  |str d=>obtain⟨e,rfl⟩:=b;exact PZ (ci a c (by simp))
  |_=>exact absurd (show false=true from g) cC
 |int j=>
  obtain⟨k,rfl⟩:=i;cases f with
  |non=>cases b;exact P0 (ci a c (by simp))
  |int d=>obtain⟨e,rfl⟩:=b;exact ne_int (ci a c (congrArg not pi))
  |str d=>obtain⟨e,rfl⟩:=b;exact P1 (ci a c (by simp))
  |_=>exact absurd (show false=true from g) cC
 |str j=>
  obtain⟨k,rfl⟩:=i;cases f with
  |non=>cases b;exact P2 (ci a c (by simp))
  |bl d=>cases b;exact P4 (ci a c (by simp))
  |int d=>obtain⟨e,rfl⟩:=b;exact P5 (ci a c (by simp))
  |str d=>obtain⟨e,rfl⟩:=b;exact ne_str (ci a c (congrArg not wK))
  |_=>exact absurd (show false=true from g) cC
 |byt j=>
  obtain⟨k,rfl⟩:=i;cases f with
  |byt d=>obtain⟨e,rfl⟩:=b;exact PySem.W.ne_bytes (ci a c (congrArg not wL))
  |_=>exact absurd (show false=true from g) cC
 |_=>cases f<;>exact absurd (show false=true from g) cC
theorem ia:cD X (e8 .Lt) (gR λa b=>.bl (decide (a<b))):=pd λ_ _ _ _ _ _ _ c=>lt_int c
theorem nF:cD X (e8 .LtE) (gR λa b=>.bl (decide (a<=b))):=pd λ_ _ _ _ _ _ _ c=>le_int c
theorem fW:cD X (e8 .Gt) (gR λa b=>.bl (decide (b<a))):=pd λ_ _ _ _ _ _ _ c=>gt_int c
theorem su:cD X (e8 .GtE) (gR λa b=>.bl (decide (b<=a))):=pd λ_ _ _ _ _ _ _ c=>ge_int c
theorem aW(b:Expr){a:lg}(c:a≠ .In:=by decide)(d:a≠ .NotIn:=by decide):lh a b=false:=by
 have e:(a==Dl)=false:=by cases a<;>first|rfl|exact absurd rfl c
 have f:(a==Dm)=false:=by cases a<;>first|rfl|exact absurd rfl d
 cases b<;>simp[lh,e,f]
theorem pj{c:lg}{f:R2}(i:cD X (e8 c) f)(j:PE X a d)(k:PE X b e)(l:lh c b=false):PE X (.Compare a [c] [b] g) (jb f d e):=by
 intro m C n D o p q;exact wpAny_Compare1 (ss j k p q λr s t u v w x y z A=>i m t n w u v r s o x y z A) l
def En(a:TE):TT:=tB a
theorem aZ{f:lg}{k:R2}(l:cD X (e8 f) k)(m:PE X a d)(n:PE X b e)(o:lh f b=false):PT X (.Compare a [f] [b] g) (En (jb k d e)):=by
 intro i p j q O r s;refine Dr (au (m i p j q _ r s) λt u ⟨v,w,x,y,z⟩=>au (n i u j w _ x z) λA C ⟨D,E,F,G,H⟩=>
  au (l i C j E v D t A _ F y G H) λc P ⟨Q,I,J,K,R,L,N⟩=>?_) o
 subst L;cases K;exact nl #[I,J,N]
def Eo(j k:R2)(d e f:TE):TE:=λa l b=>d a l λm n=>e a n λc o=>j m c o λp g=>∃i,p=.bl i/\
 (if i=true then f a g λq r=>k c q r b else b (.bl false) g)
theorem wM{k l:lg}{m n:R2}(u:cD X (e8 k) m)(v:cD X (e8 l) n)(w:PE X a d)(x:PE X b e)(y:PE X c f)
  (z:lastMarks [k,l] [b,c]=false:=by with_unfolding_all rfl):PE X (.Compare a [k,l] [b,c] g) (Eo m n d e f):=by
 intro i A j C D E F;refine Compare_chain (au (w i A j C _ E F) λG H ⟨I,J,K,L,N⟩=>chain_link (au (x i H j J _ K N) λo O ⟨p,P,Q,q,R⟩=>
  au (u i O j P I p G o _ Q L q R) λaf S ⟨ah,r,s,T,U,V,t⟩=>?_)) z
 subst V;cases T;refine nl ?_;cases U with
 |false=>exact ite_ff #[.bl false,r,s,rfl,t]
 |true=>exact ite_tt (chain_last (au (y i S j r _ s t) λW Y ⟨Z,aa,ab,ad,ae⟩=>v i Y j aa p Z o W D ab q ad ae))
def wN(K:aj)(i:V)(e:G)(a:Bool):Prop:=
 match i with
 | .non=>a=false
 | .bl b=>a=b
 | .int j=>a=(j !=0)
 | .str c=>c.length<=aq/\a=((c.length:Int) !=0)
 | .byt c=>c.size<=aq/\a=((c.size:Int) !=0)
 | .ref f=>(∃d,I K e f d/\a= !d.isEmpty)\/(∃d,a8 K e f d/\a= !d.isEmpty)\/ ∃g,e f=some (.dK g)/\a= !g.isEmpty
 |_=>False
theorem Ep{a:Type}{b:List (a×V)}{c:List (a×Value)}(d:KV b c):(!c.isEmpty)= !b.isEmpty:=by
 cases d<;>rfl
theorem wO{a:List V}{b:List Value}(c:aB a b):(!b.toArray.isEmpty)= !a.isEmpty:=by
 cases c<;>simp
theorem j9:(aq:Nat)<2^63:=by rw[sv];decide
theorem Er:Ec X (λq c s=>∃d,wN X.K q c d/\s d c):=by
 intro F x G c q H s e k y;obtain⟨d,i,f⟩:=y;have hl:=j9;have J:aq=16777216:=sv;cases q with
 |non=>
  cases k;have a:d=false:=i;subst a;exact truthy_none #[c,e,f]
 |bl b=>
  cases k;have a:d=b:=i;subst a;exact nl #[c,e,f]
 |int z=>
  obtain⟨t,rfl⟩:=k;have a:d=(z !=0):=i;subst a;exact PySem.P.truthy_int #[c,e,f]
 |str n=>
  obtain⟨t,rfl⟩:=k;obtain⟨A,a⟩:n.length<=aq/\d=((n.length:Int) !=0):=i;subst a;exact PySem.P.truthy_str (by omega) #[c,e.tok _,f]
 |byt n=>
  obtain⟨t,rfl⟩:=k;obtain⟨A,a⟩:n.size<=aq/\d=((n.size:Int) !=0):=i;subst a;exact PySem.W.truthy_bytes (by omega) #[c,e.tok _,f]
 |ref l=>
  cases k;have a:(∃j,I X.K c l j/\d= !j.isEmpty)\/(∃j,a8 X.K c l j/\d= !j.isEmpty)\/ ∃m,c l=some (.dK m)/\d= !m.isEmpty:=i;rcases a with⟨j,o,a⟩|⟨j,o,a⟩|⟨m,o,a⟩
  .subst a
   obtain⟨C,g,r,u⟩:=e.list o;have v:=g.length;exact wpAny_truthy_list r.isList (by simp only[cE];omega) #[c,e.tok _,by rw[wO g];exact f]
  .subst a
   obtain⟨C,g,r,u⟩:=e.tuple o;have v:=g.length;exact truthy_tuple r (by simp only[cE];omega) #[c,e.tok _,by rw[wO g];exact f]
  .subst a
   obtain⟨u,D,p,g,E⟩:m.length<=aq/\(l==hj)=false/\ ∃p,KV m p/\x.heap.DictOf (e5 X.prog X.w) l p:=e.Ra l _ o;have v:m.length=p.length:=r7 g;exact wpAny_truthy_dict D E (by omega) #[c,e.tok _,by rw[Ep g];exact f]
 |_=>exact(show False from i).elim
theorem Es(m:PE X a d)(n:∀i,isTrue a X.env i=(do let b<-i;i3 a.pos;gP [b] (truthy b))):
  PT X a (λc e f=>d c e λg j=>∃k,wN X.K g j k/\f k j):=by
 intro l o c e f p q;exact Ds (au (m l o c e _ p q) λb r ⟨g,s,t,u,v⟩=>Er l r c s g b f t u v) (n _)
theorem Et:cD X (hp .Add) (λd e c f=>∃a b,d=.str a/\e=.str b/\a.length+b.length<=aq/\f (.str (a++b)) c):=by
 intro o p q c d e r s f g i j k;obtain⟨a,b,rfl,rfl,l,m⟩:=k;obtain⟨t,rfl⟩:=i;obtain⟨n,rfl⟩:=j;exact add_str (λn tk=>#[.str (a++b),c,g.tok _,#[_,rfl],m]) l
theorem nG{a:V}{b:List Value}(d:aB [a] b):∃c,b=[c]/\aN a c:=by
 cases d with
 |cons e f=>cases f;exact#[_,rfl,e]
theorem Eu{a b:V}{c:List Value}(f:aB [a,b] c):∃d e,c=[d,e]/\aN a d/\aN b e:=by
 cases f with
 |cons g i=>
  cases i with
  |cons j k=>cases k;exact#[_,_,rfl,g,j]
theorem Ev(i:X.calm=true):ho X (.builtin "min") (λe d f=>∃a b,e=[.int a,.int b]/\f (.int (if b<a then b else a)) d):=by
 intro n o p d e q f g j k;obtain⟨a,b,rfl,l⟩:=k;obtain⟨r,s,rfl,⟨t,rfl⟩,⟨u,rfl⟩⟩:=Eu j;refine min_two_ints (g.ok.hd i) λv tk m=>#[_,d,g.kept m,?_,l];by_cases c:b<a
 .rw[if_pos c,if_pos c];exact#[_,rfl]
 .rw[if_neg c,if_neg c];exact#[_,rfl]
theorem wP:ho X (.type "str") (λc b d=>∃a,c=[.int a]/\a.natAbs.log2<1920/\d (.str (toString a)) b):=by
 intro k l m b c n d e f g;obtain⟨a,rfl,i,j⟩:=g;obtain⟨o,rfl,p,rfl⟩:=nG f;exact PySem.P.str_of_int i #[.str _,b,e.tok _,#[_,rfl],j]
theorem Ew:ho X (.builtin "ord") (λc b d=>∃a,c=[.str a]/\a.length=1/\d (.int (a.cps.getD 0 0:Nat)) b):=by
 intro k l m b c n d e f g;obtain⟨a,rfl,i,j⟩:=g;obtain⟨o,rfl,p,rfl⟩:=nG f;exact ord_of_one i #[.int _,b,e.tok _,#[_,rfl],j]
end
end L2
namespace L2
open PySem PySem.Spec PyProof.Rows
structure j_(b:Heap)(c a d:B)(e:Str->Option Value):Prop where
 obj:b.get? c=some (jW d a)
 ns:b.Ns1 a e
 ne:a≠c
theorem Ey{c:Heap}{d:B}{e:Str->Option Value}(j:c.Ns1 d e):∃f,c.get? d=some f/\ ∀name,sw name f=some (e name):=by
 obtain⟨k,g,t,l,m,n,_,o⟩:=j;refine#[k,l,λname=>?_];have a:=o name;unfold nsFind nH at a;rw[<-Ez] at a;unfold sw;rw[m];dsimp only;split
 .rename_i i b
  rw[b] at a;exact congrArg some a
 .rename_i b
  rw[b] at a;have p:g.toList.any (·.refKey)=false:=by
   rw[EA];intro i q;obtain⟨u,v,r⟩:=n i (Array.mem_toList_iff.mp q);simp[P6,r]
  have s:¬g.toList.any (·.refKey)=true:=by rw[p];exact cC
  rw[if_neg s];exact congrArg some a
theorem j_.look{c:Heap}{d e b:B}{f:Str->Option Value}(g:j_ c d e b f):∃a,PySem.W.InstAt c d (jW b e) b (some a)/\ ∀name,sw name a=some (f name):=
 let⟨a,i,hl⟩:=Ey g.ns
 #[a,#[g.obj,rfl,rfl,i],hl]
section
variable{prog:Program}{w:World}{d:a_}{e:Value->M->Prop}{s:M}{K:aj}{x b C f:B}{c:Str->Option Value}{name:Str}{v:Value}
theorem EB{f:Bool}{a:Value->M->Prop}(g:K.In s.heap)(i:j_ s.heap x b C c)(j:sx K C name=true)(k:wQ K C=true)
  (l:hs K (.ref C) name=some none)(m:c name=some v)(n:EC v=true)(o:a v {s with toks:=s.toks+1}):
  wpAny (ar prog w) d (pk (.ref x) name f) a e s:=by
 obtain⟨q,p,hl⟩:=i.look;exact PySem.W.get_value g p (wR j).1 (PySem.W.findObj_own k l rfl (by rw[hl,m])) n o
theorem ED{i:dM Bool}{a:Value×List Value->M->Prop}(j:K.In s.heap)(k:j_ s.heap x b C c)(g:sx K C name=true)
  (l:hs K (.ref C) name=some (some (.ref f)))(m:ib K (.ref f)=true)(n:c name=none)(o:a (.ref f,[.ref x]) s):
  wpAny (ar prog w) d (ka (.ref x) name i) a e s:=by
 obtain⟨p,q,hl⟩:=k.look;exact PySem.W.method_fn j q (wR g).1 (wR g).2 l (beq_iff_eq.mp m) (by show(sw name p).map (·.isSome)=some false;rw[hl,n];rfl) o
theorem EE{j:List Str}{k:Unit->M->Prop}(i:K.In s.heap)(f:j_ s.heap x b C c)
  (p:hs K (.ref C) "__setattr__"=some (some (.builtin "object.__setattr__")))(q:EF K C=true)(t:wS K C name=some none)(u:wQ K C=true)
  (y:wl c j)(I:j.length<=aq)
  (z:∀g,j_ g x b C (λl=>if l=name then some v else c l)->nj b s.heap g->k () {s with heap:=g,toks:=s.toks+2}):
  wpAny (ar prog w) d (sy (.ref x) name v) k e s:=by
 obtain⟨J,m,hl⟩:=f.look;refine PySem.W.set_plain i m p (PySem.W.osa_open (s:={s with toks:=s.toks+1}) (r:=none) i m q t λL=>?_);obtain⟨N,A,D⟩:=PySem.W.any_some u;have E:s.heap.get? x=some #[.ref C,some b,.plain,#v[]]:=f.obj;refine ap (bO (ap (ap (wpAny_loadPart E (ap (P7 (s:={s with toks:=s.toks+1}) (PySem.W.looks_clsIn i A) ?_))))));rw[D];refine bO (a:=some b) (ap (bO (ap ?_)));refine EG (s:={s with toks:=s.toks+1}) f.ns λg n o=>?_;obtain⟨O,P,Q,F,G,H⟩:=n.count (EH name v y);refine ap (EI F (by rw[G];exact EJ (bB H (by rw[bV];omega))) ?_);exact bO (z _ #[(o.2 _ (b8 f.ne)).trans f.obj,n,f.ne] o)
theorem EK{c:pm->M->Prop}{a:List Value}{kw:List (Str×Value)}(b:K.In s.heap)(e:wT K C=true)
  (g:hs K (.ref C) "__init__"=some (some (.ref f)))(i:EL K (.ref f)=some (.type "function"))
  (j:codeAny (ar prog w) (d.under (.builtin "type.__call__" #[.ref C::a,kw])) (.call (.ref f) #[.ref (s.heap.objs.size+1)::a,kw]) (PySem.W.InitBack (s.heap.objs.size+1) c)
   {s with heap:=(s.heap.push jc).push (jW C s.heap.objs.size)}):
  codeAny (ar prog w) d (.call (.ref C) #[a,kw]) c s:=by
 obtain⟨k,l,m,n,os⟩:=s;exact PySem.W.make_core (PySem.W.makes_of b e) (PySem.W.looks_findIn b g) (λself=>PySem.W.bind_fn b self i) (.inl rfl) j
end
def df(a:Str)(b:V):List (Str×V)->List (Str×V)
 |[]=>[(a,b)]
 |(c,e)::d=>if c=a then(c,b)::d else(c,e)::df a b d
theorem wU(b a:Str)(f:V):∀k:List (Str×V),(df b f k).lookup a=if a=b then some f else k.lookup a
 |[]=>by
  show ht a [(b,f)]=_;by_cases c:a=b
  .have d:(a==b)=true:=beq_iff_eq.mpr c
   simp only[ht,d,if_pos c]
  .have d:(a==b)=false:=beq_eq_false_iff_ne.mpr c
   simp only[ht,d,if_neg c]
 |(e,l)::i=>by
  have m:=wU b a f i;rw[show df b f ((e,l)::i)=(if e=b then(e,f)::i else(e,l)::df b f i) from rfl];by_cases g:e=b
  .rw[if_pos g]
   by_cases c:a=e
   .have d:(a==e)=true:=beq_iff_eq.mpr c
    simp only[ht,d,if_pos (c.trans g)]
   .have d:(a==e)=false:=beq_eq_false_iff_ne.mpr c
    simp only[ht,d,if_neg (λj:a=b=>c (j.trans g.symm))]
  .rw[if_neg g]
   by_cases c:a=e
   .have d:(a==e)=true:=beq_iff_eq.mpr c
    simp only[ht,d,if_neg (λj:a=b=>g (c.symm.trans j))]
   .have d:(a==e)=false:=beq_eq_false_iff_ne.mpr c
    simp only[ht,d];exact m
theorem sA(a:Str)(b:V):∀g:List (Str×V),a∈(df a b g).map (·.1)/\ ∀c,c∈g.map (·.1)->c∈(df a b g).map (·.1)
 |[]=>#[by simp[df],λc d=>by simp at d]
 |(e,k)::f=>by
  obtain⟨l,m⟩:=sA a b f;rw[show df a b ((e,k)::f)=(if e=a then(e,b)::f else(e,k)::df a b f) from rfl];by_cases i:e=a
  .rw[if_pos i]
   subst i;exact#[by simp,λc d=>by simpa using d]
  .rw[if_neg i]
   refine#[?_,λc d=>?_]
   .rw[bE]
    exact bj _ l
   .rw[bE] at d⊢
    rcases bw.mp d with j|j
    .exact bw.mpr (.inl j)
    .exact bj _ (m c j)
theorem wV(a:Str)(b:V):∀e:List (Str×V),(df a b e).length<=e.length+1
 |[]=>by simp[df]
 |(c,f)::d=>by
  have i:=wV a b d;rw[show df a b ((c,f)::d)=(if c=a then(c,b)::d else(c,f)::df a b d) from rfl];by_cases g:c=a
  .rw[if_pos g,bV,bV];omega
  .rw[if_neg g,bV,bV];omega
theorem eo.some_of{v:V}{o:Option Value}(b:eo (some v) o):∃a,o=some a/\aN v a:=by
 cases o with
 |none=>exact(show False from b).elim
 |some a=>exact#[a,rfl,b]
theorem eo.none_of{a:Option Value}(b:eo none a):a=none:=by
 cases a with
 |none=>rfl
 |some c=>exact(show False from b).elim
theorem wW{f:V}{b:Value}(c:aN f b):EC b=true:=by
 cases f with
 |non=>cases(show b=gO from c);rfl
 |bl e=>cases(show b=r6 e from c);rfl
 |int g=>obtain⟨a,d⟩:=(show∃a,b=na g a from c);cases d;rfl
 |str i=>obtain⟨a,d⟩:=(show∃a,b=r5 i a from c);cases d;rfl
 |byt e=>obtain⟨a,d⟩:=(show∃a,b=C7 e a from c);cases d;rfl
 |flt e=>obtain⟨a,d⟩:=(show∃a,b=C8 e a from c);cases d;rfl
 |ref j=>cases(show b=bN j from c);rfl
 |ty k=>cases(show b=lc k from c);rfl
section
variable{P:Program}{w:World}{H c:G}{h h':Heap}{a C b:B}{fs d:List (Str×V)}
theorem sB(e:bG P w H h)(f:H a=some (.ins C b fs)):∃c,j_ h a b C c/\(∀d,eo (fs.lookup d) (c d))/\wl c (fs.map (·.1))/\fs.length<=1000/\H b=some (.own a):=by
 obtain⟨g,i,j,k,c,l,m,n⟩:=(show bU P w H h a (.ins C b fs) from e a _ f);exact#[c,#[k,l,j],m,n,i,g]
end
structure dP(K:aj)(a:B):Prop where
 pg:sx K a Str.empty=true
 hd:wQ K a=true
 po:EF K a=true
 sa:hs K (.ref a) "__setattr__"=some (some (.builtin "object.__setattr__"))
theorem dP.get{K:aj}{a:B}(b:dP K a)(c:Str):sx K a c=true:=b.pg
def bZ(K:aj)(a:B)(b:Str):Prop:=hs K (.ref a) b=some none
theorem bZ.We{K:aj}{a:B}{b:Str}(c:bZ K a b):wS K a b=some none:=by
 unfold wS;rw[show hs K (.ref a) b=some none from c];rfl
structure kb(K:aj)(b:B)(c:Str)(a:B):Prop where
 at_:hs K (.ref b) c=some (some (.ref a))
 fn:ib K (.ref a)=true
 kp:ep K (.ref a)=true
section
variable{X:Cx}{pins:List (B×ak)}{b:St}{H:G}{s:M}{a C c:B}{fs:List (Str×V)}{f:Str}{v:V}{d:a_}{g:Value->M->Prop}
theorem wX{n:Bool}{j:Value->M->Prop}(i:O X pins b H s)(p:H a=some (.ins C c fs))(k:dP X.K C)(q:bZ X.K C f)(r:fs.lookup f=some v)
  (t:∀e l,O X pins b H l->aN v e->j e l):wpAny (ar X.prog X.w) d (pk (.ref a) f n) j g s:=by
 obtain⟨u,x,y,_,_,_⟩:=sB i.Ra p;obtain⟨e,z,m⟩:=eo.some_of (v:=v) (o:=u f) (by rw[<-r];exact y f);exact EB i.Sh x (k.get f) k.hd q z (wW m) (t e _ (i.tok _) m)
theorem wY{e:Str}{f:B}{l:dM Bool}{i:Value×List Value->M->Prop}(j:O X pins b H s)(m:H a=some (.ins C c fs))(n:dP X.K C)(k:kb X.K C e f)(o:fs.lookup e=none)
  (p:i (.ref f,[.ref a]) s):wpAny (ar X.prog X.w) d (ka (.ref a) e l) i g s:=by
 obtain⟨q,r,t,_,_,_⟩:=sB j.Ra m;have u:q e=none:=eo.none_of (by rw[<-o];exact t e);exact ED j.Sh r (n.get e) k.at_ k.fn u p
theorem wZ{k:V}{l:Value}{t:Unit->M->Prop}(m:O X pins b H s)(u:H a=some (.ins C c fs))(n:dP X.K C)(D:bZ X.K C f)(hl:fs.length<1000)(E:aN k l)
  (F:∀v,O X pins b (upd H a (.ins C c (df f k fs))) v->t () v):wpAny (ar X.prog X.w) d (sy (.ref a) f l) t g s:=by
 obtain⟨y,o,G,z,_,A⟩:=sB m.Ra u;have I:(fs.map (·.1)).length<=aq:=by rw[ag,sv];omega
 refine EE m.Sh o n.sa n.po D.We n.hd z I λJ p L=>F _ ?_;have N:∃q,J.get? c=some q:=let⟨q,_,_,P,_⟩:=p.ns;#[q,P];refine m.write (x:=a) (e:=c) (by rw[u];exact kc) (.inr A) (λQ j R r=>(L.2 Q R).trans r) N ?_;refine#[by rw[aa o.ne];exact A,?_,o.ne,p.obj,_,p.ns,λi=>?_,λi S=>?_]
 .have:=wV f k fs;omega
 .show eo ((df f k fs).lookup i) (if i=f then some l else y i)
  rw[wU];by_cases j:i=f
  .rw[if_pos j,if_pos j];exact E
  .rw[if_neg j,if_neg j];exact G i
 .by_cases j:i=f
  .rw[j];exact(sA f k fs).1
  .refine(sA f k fs).2 i (z i λr=>S ?_)
   show(if i=f then some l else y i)=none;rw[if_neg j];exact r
theorem O.made(f:O X pins b H s):O X pins b (upd (upd H s.heap.objs.size (.own (s.heap.objs.size+1))) (s.heap.objs.size+1) (.ins C s.heap.objs.size []))
  {s with heap:=(s.heap.push jc).push (jW C s.heap.objs.size)}:=by
 have d:(s.heap.push jc).get? s.heap.objs.size=some jc:=dA s.heap rfl;have g:((s.heap.push jc).push (jW C s.heap.objs.size)).get? (s.heap.objs.size+1)=some (jW C s.heap.objs.size):=by
  have:=dA (s.heap.push jc) (o:=jW C s.heap.objs.size) rfl;rwa[eV] at this
 have i:(s.heap.push jc).Ns s.heap.objs.size (λ_=>none):=#[jc,#v[],_,d,rfl,(λp j=>absurd j (by simp)),λ_=>rfl];have k:=f.laid (a:=s.heap.objs.size) (o:=.own (s.heap.objs.size+1)) (h':=s.heap.push jc) (t':=s.toks) (λl m c=>bn _ c) (av _) #[_,d];refine k.laid (a:=s.heap.objs.size+1) (o:=.ins C s.heap.objs.size []) (t':=s.toks) (λl m c=>bn _ c) (sC (eV _ _)) ?_;have e:s.heap.objs.size≠s.heap.objs.size+1:=cZ (w0 _);refine#[by rw[aa e,Y],aR _,e,g,λ_=>none,(EM i).at λq c=>bn _ c,λ_=>kc,λr n=>absurd rfl n]
theorem w1{c:Program}{w:World}{a:bp}{b:Expr}{f:Str}{i:aU}{s:M}{e:Value->M->Prop}(j:jd b f a (aA b a)=aA b a)
  (k:wpAny (ar c w) d (aA b a) (λl m=>wpAny (ar c w) d (pk l f true) e g m) g s):wpAny (ar c w) d (aA (.Attribute b f i) a) e g s:=
 Attribute_any_ k (by rw[arm_eval_Attribute,j])
end
inductive EN(K:aj)(b:Str)(e:VK)(f:B)(c:G):Prop
 |mk {a g d}(j:c f=some (.ins a g d))(k:dP K a)(l:bZ K a b)(m:oV (d.lookup b) λi=>e i c)
def pp(K:aj)(a:TE)(b:Str):TE:=λc d e=>a c d λf g=>vR f λi=>EN K b e i g
inductive EO(K:aj)(d:Str)(g:c5)(i:St)(j:V)(k:V)(e:G):Prop
 |mk (b a f c)(l:k=.ref b)(m:e b=some (.ins a f c))(n:dP K a)(o:bZ K a d)(p:c.length<1000)(q:g.nx i (upd e b (.ins a f (df d j c))))
def EQ(K:aj)(b c:TE)(d:Str):TS:=λe a f=>c a f λg i=>b a i λj k=>EO K d e a g j k
def w2(a:Cx)(l:ny)(rd:V->V->G->VK->Prop):Prop:=
 ∀(b:List (B×ak))(c:M)(d:St)(e:G)(f g:V)(i j:Value)(k:VK),O a b d e c->aN f i->aN g j->rd f g e k->wpAny (ar a.prog a.w) a.A (sh l i j) (EP a b d k) a.xe c
inductive ER(f:c5)(g:St)(b:G)(c:B)(d:B)(i:Str)(j:V):Prop
 |mk (e a)(k:b c=some (.ins d e a))(l:a.length<1000)(m:f.nx g (upd b c (.ins d e (df i j a))))
inductive ES(K:aj)(i:TE)(rd:V->V->G->VK->Prop)(b:Str)(j:c5)(d:St)(k:V)(e:G):Prop
 |mk (c a l f g)(q:k=.ref c)(r:e c=some (.ins a l f))(s:dP K a)(t:bZ K a b)(u:f.lookup b=some g)(v:i d e λm n=>rd g m n λo p=>ER j d p c a b o)
def ET(K:aj)(b c:TE)(rd:V->V->G->VK->Prop)(d:Str):TS:=λe a f=>b a f λg i=>ES K c rd d e a g i
section
variable{X:Cx}{o e b:Expr}{f:Str}{c g h:aU}{a d:TE}
theorem fX(d:PE X e a)(g:jd e f X.env (aA e X.env)=aA e X.env):PE X (.Attribute e f c) (pp X.K a f):=by
 intro i j k l A m n;refine w1 g (au (d i j k l _ m n) λo C ⟨D,p,q,r,b⟩=>?_);obtain⟨s,rfl,t,u,v,b⟩:=vR.ex b;obtain⟨w,x,b⟩:=oV.ex b;obtain rfl:o=bN s:=r;exact wX q t u v x λE F y z=>#[w,p,y,z,b]
theorem cj(j:PE X o a)(k:PE X b d)(l:i6 b (some (.Attribute o f g)) c.line X.env=pure false):PS X (.Assign [.Attribute o f g] b c) (EQ X.K a d f):=by
 intro i m e n I p q;refine EU (au (k i m e n _ p q) λJ r ⟨L,s,t,u,v⟩=>au (j i r e s _ t v) λw N ⟨O,P,x,y,z,Q,R,S,A,C,D,E,F,G⟩=>?_) l;subst A;obtain rfl:w=bN z:=y;exact wZ x C D E F u λT H=>#[e,_,H,G]
theorem EV{i:ny}{rd:V->V->G->VK->Prop}(l:PE X o a)(m:PE X b d)(n:w2 X i rd):PS X (.AugAssign (.Attribute o f h) i b c) (ET X.K a d rd f):=by
 intro g p e q aa r s;refine wpAny_AugAssign_AttributeAny (au (l g p e q _ r s) λt ab ⟨ad,u,v,w,x,ae,af,ah,y,z,A,j,k,C,D⟩=>?_);subst z;obtain rfl:t=bN x:=w;refine wX v A j k C λE F H I=>au (m g F e u _ H D) λJ L ⟨N,O,P,Q,R⟩=>au (n g L e O y N E J _ P I Q R) λai al ⟨am,ao,S,T,as,aw,U,W,Y⟩=>?_;exact wZ S U j k W T λax Z=>#[e,_,Z,Y]
def EW:V->V->G->VK->Prop:=gR λa b=>.int (a+b)
theorem EX:w2 X .Add EW:=by
 rintro n o p f q r g i s j k l a;replace a:=o9 a;obtain⟨b,c,rfl,rfl,m⟩:=a;obtain⟨d,rfl⟩:=(show∃d,g=na b d from k);obtain⟨e,rfl⟩:=(show∃e,i=na c e from l);exact P8 #[.int (b+c),f,j.tok _,#[_,rfl],m]
end
section
variable{X:Cx}{pins:List (B×ak)}{a:St}{H:G}{s:M}{d:a_}{e:Value->M->Prop}{Q:Value->M->Prop}{c:Value}{b:Bool}
end
end L2
namespace L2
open PySem PySem.Spec PyProof.Rows
structure bu(b:Nat)(a:a_):Prop where
 hd:a.handled=none
 dp:a.depth+3*b+5<EY
 un:a.units+16*b+200<gm
theorem bu.mono{b c:Nat}{d:a_}(a:bu c d)(e:b<=c):bu b d:=#[a.hd,by have:=a.dp;omega,by have:=a.un;omega]
theorem bu.deeper{a:Nat}{b:a_}(c:bu (a+1) b)(d:bp):bu a (b.deeper d):=
 #[c.hd,by have:=c.dp;show b.depth+1+3*a+5<_;omega,by have:=c.un;show b.units+3+16*a+200<_;omega]
theorem EZ{a:a_}{b:B}{c:List Value}{kw:List (Str×Value)}:(a.under (.builtin "type.__call__" #[.ref b::c,kw])).depth=a.depth+1:=by
 first|rfl|simp[w3,Code.weight,Code.isCreation,Code.isGuard,Code.isCaller,E2,w4,guardIds]
theorem E3{a:a_}{b:B}{c:List Value}{kw:List (Str×Value)}:(a.under (.builtin "type.__call__" #[.ref b::c,kw])).units=a.units+1:=by
 first|rfl|simp[w3,Code.cUnits,E2,w4]
theorem bu.make{b:Nat}{c:a_}(a:bu (b+1) c)(d:B)(e:List Value)(kw:List (Str×Value)):bu b (c.under (.builtin "type.__call__" #[.ref d::e,kw])):=
 #[a.hd,by have:=a.dp;rw[EZ];omega,by have:=a.un;rw[E3];omega]
theorem bu.depth{b:Nat}{a:a_}(c:bu b a):a.depth<EY:=by have:=c.dp;omega
theorem bu.units{b:Nat}{a:a_}(c:bu b a):a.units+64<gm:=by have:=c.un;omega
def c1:TA:=λ_ a b=>b [] a
def bx(b:TE)(c:TA):TA:=λa d e=>b a d λf g=>c a g λi j=>e (f::i) j
section
variable{X:Cx}{e:Expr}{a:List Expr}{c:TE}{t:TA}{b:aU}
theorem er:PA X [] c1:=λ_ _ _ _ a d b c=>E4 #[[],a,b,.nil,c]
theorem dg(i:PE X e c)(j:PA X a t)(k:az (e::a) X.env=(false,aA e X.env)::az a X.env:=by rfl):PA X (e::a) (bx c t):=by
 intro b d f g l A m n;rw[k];show wpAny _ _ (spliced ((false,aA e X.env)::cB b (az a X.env))) _ _ f;refine E5 (au (i d f g l _ m n) λC o ⟨p,q,r,s,u⟩=>?_);exact au (j b d o g q _ r u) λD E ⟨v,w,x,y,z⟩=>#[p::v,w,x,.cons s y,z]
inductive E6(i:VK)(f:List V)(g:G):Prop
 |mk(j:f.length<=aq)(k:∀d,g d=none->i (.ref d) (upd g d (.tup f)))
def E7(t:TA):TE:=λa b c=>t a b λd e=>E6 c d e
inductive sD(i:VK)(f:List V)(g:G):Prop
 |mk(j:f.length<=aq)(k:∀d,g d=none->i (.ref d) (upd g d (.lst f)))
def E8(t:TA):TE:=λa b c=>t a b λd e=>sD c d e
theorem nI {j}(k:PA X a t):PE X (.Tuple a j b) (E7 t):=by
 intro l m n o v p hq;refine wpAny_Tuple_spliced (au (k b l m n o _ p hq) λq c ⟨r,d,f,g,i,s⟩=>#[by rw[<-g.length];exact i,?_]);have u:d c.heap.objs.size=none:=f.Ra.fresh (av _);refine#[.ref c.heap.objs.size,upd d c.heap.objs.size (.tup r),f.laid (t':=c.toks) (λw x e=>bn _ e) (av _) ?_,rfl,s _ u];exact#[i,q,g,#[_,dA _ rfl,rfl,_,rfl]]
theorem a3(j:PA X a t):PE X (.List a b) (E8 t):=by
 intro k l m n u o hq;refine wpAny_List_spliced (au (j b k l m n _ o hq) λp c ⟨q,d,f,g,i,r⟩=>#[by rw[<-g.length];exact i,?_]);have s:d c.heap.objs.size=none:=f.Ra.fresh (av _);refine#[.ref c.heap.objs.size,upd d c.heap.objs.size (.lst q),f.laid (t':=c.toks) (λv w e=>bn _ e) (av _) ?_,rfl,r _ s];exact#[i,p,0,g,dA _ rfl]
end
abbrev Sp:=List V->G->VK->XK->Prop
abbrev fz:=List bp->G->M->XK->Value->M->Prop
structure kd(f:Program)(w:World)(K:aj)(g:Str->Option Value)(base:Heap)(i:a_)(c:List bp)(a:M)(d:G):Prop where
 frames:i.frames=some c
 mod:Mod K g base
 bs:∀b e,base.get? b=some e->a.heap.get? b=some e/\d b=none
 U9:base.objs.size<=a.heap.objs.size
 SM:a.heap.FunFrames base c
 Vj:∀b∈bY c,d b=none
 Ra:bG f w d a.heap
 bare:h6 a.gens
def CE(e:List bp)(f:Program)(w:World)(g:G)(c:M)(i:VK)(j:Value)(a:M):Prop:=
 ∃d b,a.os=c.os/\h6 a.gens/\Un (bY e) [] g b c.heap a.heap/\bG f w b a.heap/\aN d j/\i d b
def CR(e:fz)(a:List bp)(f:Program)(w:World)(b:G)(c:M)(g:VK)(i:XK)(j:pm)(d:M):Prop:=
 match j with
 | .ok (.ret k)=>CE a f w b c g k d
 | .ok _=>False
 | .error l=>e a b c i l d
structure ee(f:Program)(w:World)(K:aj)(m:Str->Option Value)(base:Heap)(n:fz)(o:Nat)(p:B)(q:fA)(i:List Str)(j:Sp):Prop where
 len:∀a b c d,j a b c d->a.length=i.length
 run:∀(g:a_)(k:List bp)(e:M)(b:G)(args:Args)(l:List Value)(a:List V)(c:VK)(d:XK),bu o g->kd f w K m base g k e b->pq e q args (i.zip l)->aB a l->j a b c d->
  codeAny (ar f w) g (.call (.ref p) args) (CR n k f w b e c d) e
theorem ee.mono{a:Program}{w:World}{K:aj}{b:Str->Option Value}{base:Heap}{c:fz}{d e:Nat}{f:B}{g:fA}{i:List Str}{j:Sp}(k:ee a w K b base c d f g i j)(l:d<=e):
  ee a w K b base c e f g i j:=#[k.len,λm n o p args q r s t u=>k.run m n o p args q r s t (u.mono l)]
theorem kd.make{b:Program}{w:World}{K:aj}{c:Str->Option Value}{base:Heap}{d:a_}{e:List bp}{f:M}{g:G}(a:kd b w K c base d e f g)(i:B)(j:List Value)(kw:List (Str×Value)):
  kd b w K c base (d.under (.builtin "type.__call__" #[.ref i::j,kw])) e f g:=#[by first|exact a.frames|(simpa[w3,Code.envs,w4,pushEnvs] using a.frames),a.mod,a.bs,a.U9,a.SM,a.Vj,a.Ra,a.bare]
section
variable{X:Cx}{pins:List (B×ak)}{a:St}{H:G}{s b:M}
theorem O.VU(b:O X pins a H s):kd X.prog X.w X.K X.mg X.base X.A X.stack s H:=
 #[b.ok.frames,b.ok.mod,b.bs,bB b.ok.U9 b.sz,b.stack,b.TY,b.Ra,b.bare]
theorem O.after{c:VK}{d:Value}(e:O X pins a H s)(f:CE X.stack X.prog X.w H s c d b):EP X pins a c d b:=by
 obtain⟨g,i,os,bare,j,k,l,m⟩:=f;obtain⟨n,o,p,q,r⟩:=b;obtain rfl:r=s.os:=os;exact#[g,i,e.call (h':=n) (g':=o) (d':=p) (t':=q) (ch:=[]) j k bare (λu t=>absurd t (by simp)),l,m]
end
def ke(a:Sp)(b:List V)(c:XK)(d:TA):TE:=λe f g=>d e f λi j=>a (i++b) j g c
inductive E9(d:B)(e:Str)(f:Sp)(g:List V)(i:XK)(j:TA)(k:St)(l:VK)(a:B)(b:G):Prop
 |mk {m c}(p:b a=some (.ins d m c))(q:c.lookup e=none)(r:j k b λn o=>f (.ref a::(n++g)) o l i)
def gn(b:B)(c:Str)(d:Sp)(e:List V)(f:XK)(g:TE)(i:TA):TE:=λa j k=>g a j λl m=>vR l λn=>E9 b c d e f i a k n m
def hu(d:B)(e:Sp)(f:List V)(g:XK)(i:TA):TE:=λj k l=>i j k λm c=>∀a b,c a=none->c b=none->b≠a->
 e (.ref a::(m++f)) (upd (upd c b (.own a)) a (.ins d b [])) (λn o=>n=.non/\l (.ref a) o) g
def fb(K:aj)(e:fA)(b:List Str)(c:List Value):Prop:=
 ∀(d:M)(a:List Value),K.In d.heap->(a++c).length=b.length->pq d e #[a,[]] (b.zip (a++c))
theorem fb.all{K:aj}{c:fA}{b:List Str}(d:∀a:List Value,a.length=b.length->sE c #[a,[]]=pure (b.zip a)):fb K c b []:=λe a _ hl=>by
 rw[eH] at hl⊢;exact .of_eq (d a hl)
def dQ(f:fz)(a:Cx)(g:XK):Prop:=∀(i:List (B×ak))(j:St)(b:G)(c:M)(d:Value)(e:M),O a i j b c->f a.stack b c g d e->a.xe d e
section
variable{X:Cx}{CX:fz}{k:Nat}{f C:B}{h:fA}{ps:List Str}{sp:Sp}{c:List V}{a:List Value}{g:XK}{x m:Str}{p b i:aU}{e o:Expr}{d:List Expr}{j:TE}{t:TA}
theorem pr{j:List (B×ak)}{l:St}{d:G}{b:M}{m:VK}{us:List Value}{vs:List V}(o:ee X.prog X.w X.K X.mg X.base CX k f h ps sp)(r:bu k X.A)(s:fb X.K h ps a)(t:aB c a)(u:dQ CX X g)
  (i:O X j l d b)(n:aB vs us)(p:sp (vs++c) d m g):wpAny (ar X.prog X.w) X.A (call (.ref f) us) (EP X j l m) X.xe b:=by
 have q:aB (vs++c) (us++a):=n.append t;have hl:(us++a).length=ps.length:=by rw[<-q.length];exact o.len _ _ _ _ p
 refine w5 (pu (o.run X.A X.stack b d #[us,[]] (us++a) (vs++c) m g r i.VU (s b us i.Sh hl) q p) λn v hq=>?_);cases n with
 |error e=>exact u j l d b e v i hq
 |ok fl=>
  cases fl with
  |ret x=>exact i.after hq
  |next=>exact dz hq
  |brk=>exact dz hq
  |cont=>exact dz hq
theorem E_(l:ee X.prog X.w X.K X.mg X.base CX k f h ps sp)(m:bu k X.A)(n:Gl X x)(o:X.mg x=some (.ref f))(q:ep X.K (.ref f)=true)(r:fb X.K h ps a)(s:aB c a)(u:dQ CX X g)
  (v:PA X (e::d) t)(y:(x==("__debug__":Str))=false:=by decide)(z:az (e::d) X.env=(false,aA e X.env)::az d X.env:=by rfl)(C:(cB b (az d X.env)).any (·.1)=false:=by rfl):
  PE X (.Call (.Name x p) (e::d) [] b) (ke sp c g t):=by
 intro D E F G L i H;refine kf (j0 i n o ?_ y);refine px (h₀:=X.base) i.ok.mod.VG q (au (v b D E F G _ i H) λN O ⟨P,Q,j,I,J⟩=>#[j.Sh,?_]) z C;exact pr l m r s u j I J
theorem Fa{p:dM Bool}(D:PE X o j)(E:dP X.K C)(q:kb X.K C m f)(F:ee X.prog X.w X.K X.mg X.base CX k f h ps sp)(G:bu k X.A)(H:fb X.K h ps a)(I:aB c a)(J:dQ CX X g)(L:PA X (e::d) t)
  (N:az (e::d) X.env=(false,aA e X.env)::az d X.env:=by rfl)(O:(cB b (az d X.env)).any (·.1)=false:=by rfl)
  (P:aA (.Call (.Attribute o m i) (e::d) [] b) X.env=(do
   let r<-aA o X.env
   i3 i.atName
   let(f,first)<-gP [r] (ka r m p)
   nJ b f first (cB b (az (e::d) X.env)) (ly b (lz [] X.env))):=by rfl):
  PE X (.Call (.Attribute o m i) (e::d) [] b) (gn C m sp c g j t):=by
 intro s Q u R ad v S;refine Fb (pl:=p) (au (D s Q u R _ v S) λT U ⟨x,V,y,W,n⟩=>?_) P;obtain⟨l,rfl,@⟨ae,af,Y,Z,n⟩⟩:=vR.ex n;obtain rfl:T=bN l:=W;refine wY y Y E q Z ?_;refine px (first:=[.ref l]) (h₀:=X.base) v.ok.mod.VG q.kp (au (L b s U u V _ y n) λus ah ⟨vs,ai,z,aa,ab⟩=>#[z.Sh,?_]) N O;exact pr (us:=.ref l::us) (vs:=.ref l::vs) F G H I J z (.cons rfl aa) ab
theorem Fc{n:dM Bool}(r:PE X o j)(s:dP X.K C)(p:kb X.K C m f)(t:ee X.prog X.w X.K X.mg X.base CX k f h ps sp)(u:bu k X.A)(v:fb X.K h ps a)(y:aB c a)(z:dQ CX X g)
  (D:aA (.Call (.Attribute o m i) [] [] b) X.env=(do
   let q<-aA o X.env
   i3 i.atName
   let(f,first)<-gP [q] (ka q m n)
   nJ b f first (cB b (az [] X.env)) (ly b (lz [] X.env))):=by rfl):
  PE X (.Call (.Attribute o m i) [] [] b) (gn C m sp c g j c1):=by
 intro E F G H Q I J;refine Fb (pl:=n) (au (r E F G H _ I J) λL R ⟨x,S,e,N,l⟩=>?_) D;obtain⟨d,rfl,@⟨T,U,O,P,l⟩⟩:=vR.ex l;obtain rfl:L=bN d:=N;refine wY e O s p P ?_;exact w6 (first:=[.ref d]) e.Sh p.kp (pr (us:=[.ref d]) (vs:=[.ref d]) t u v y z e (.cons rfl .nil) l)
structure Mk(K:aj)(C f:B):Prop where
 makes:wT K C=true
 init:hs K (.ref C) "__init__"=some (some (.ref f))
 fn:ib K (.ref f)=true
 kp:ep K (.ref C)=true
theorem w7{n:List (B×ak)}{o:St}{i:G}{b:M}{s:VK}{us:List Value}{p:List V}(q:Mk X.K C f)(t:ee X.prog X.w X.K X.mg X.base CX k f h ps sp)(y:bu (k+1) X.A)(z:fb X.K h ps a)(D:aB c a)
  (E:dQ CX X g)(j:O X n o i b)(r:aB p us)
  (F:∀x l,i x=none->i l=none->l≠x->sp (.ref x::(p++c)) (upd (upd i l (.own x)) x (.ins C l [])) (λu H=>u=.non/\s (.ref x) H) g):
  wpAny (ar X.prog X.w) X.A (call (.ref C) us) (EP X n o s) X.xe b:=by
 have hq:=F (b.heap.objs.size+1) b.heap.objs.size (j.Ra.fresh (Nat.le_succ _)) (j.Ra.fresh (av _)) (cZ (w0 _));have m:=O.made (C:=C) j;have v:aB (V.ref (b.heap.objs.size+1)::(p++c)) (bN (b.heap.objs.size+1)::(us++a)):=.cons rfl (r.append D);have hl:(bN (b.heap.objs.size+1)::us++a).length=ps.length:=by
  have e:=v.length;rw[t.len _ _ _ _ hq] at e;exact e.symm
 refine w5 (EK (f:=f) j.Sh q.makes q.init (beq_iff_eq.mp q.fn) (pu (t.run _ X.stack _ _ #[bN (b.heap.objs.size+1)::us,[]] (bN (b.heap.objs.size+1)::(us++a)) _ _ g (y.make C us [])
  (m.VU.make C us []) (z _ (bN (b.heap.objs.size+1)::us) m.Sh hl) v hq) λr I d=>?_))
 cases r with
 |error e=>exact E n o _ _ e I m d
 |ok fl=>
  cases fl with
  |ret R=>
   obtain⟨u,J,L,N,P,Q⟩:=m.after d;subst P;exact#[N,#[V.ref (b.heap.objs.size+1),J,L,rfl,Q]]
  |next=>exact dz d
  |brk=>exact dz d
  |cont=>exact dz d
theorem Fd(j:Mk X.K C f)(m:ee X.prog X.w X.K X.mg X.base CX k f h ps sp)(n:bu (k+1) X.A)(o:Gl X x)(q:X.mg x=some (.ref C))(r:fb X.K h ps a)(s:aB c a)(u:dQ CX X g)
  (v:PA X (e::d) t)(y:(x==("__debug__":Str))=false:=by decide)(z:az (e::d) X.env=(false,aA e X.env)::az d X.env:=by rfl)(D:(cB b (az d X.env)).any (·.1)=false:=by rfl):
  PE X (.Call (.Name x p) (e::d) [] b) (hu C sp c g t):=by
 intro E F G H N i I;refine kf (j0 i o q ?_ y);refine px (h₀:=X.base) i.ok.mod.VG j.kp (au (v b E F G H _ i I) λO P ⟨Q,R,l,J,L⟩=>#[l.Sh,?_]) z D;exact w7 j m n r s u l J L
theorem Fe(e:Mk X.K C f)(i:ee X.prog X.w X.K X.mg X.base CX k f h ps sp)(j:bu (k+1) X.A)(l:Gl X x)(m:X.mg x=some (.ref C))(n:fb X.K h ps a)(o:aB c a)(q:dQ CX X g)
  (r:(x==("__debug__":Str))=false:=by decide):PE X (.Call (.Name x p) [] [] b) (hu C sp c g c1):=by
 intro t u v y z d s;refine kf (j0 d l m ?_ r);exact w6 d.Sh e.kp (w7 (us:=[]) e i j n o q d .nil s)
end
section
variable{X:Cx}{CX:fz}{k:Nat}{f C:B}{a:fA}{ps ks:List Str}{sp:Sp}{b:XK}{x m:Str}{p c d h:aU}{e o:Expr}{i:List Expr}{j:List w8}{l n:TE}{t tk:TA}{nm:Option Str}
variable{g:List Value->List Value->List Value}{e:List V->List V->List V}
end
structure gS(c b:List Str)(a:cz):Prop where
 kind:a.kind=.function
 co:a.isCoroutine=false
 gen:a.isGenerator=false
 nd:c.Nodup
 pre:c.take b.length=b
 Wl:∀d∈b,a.names.lookup d=some .local\/a.names.lookup d=some .cell
 VI:∀e∈a.names,e.2≠ .free
theorem w9{kindOf:Str->Option fc}{a:Str}:∀{d:List (Str×Value)}{b:Str->Option Value},(∀c,(a,c)∉d)->kg kindOf d b a=b a
 |[],_,_=>rfl
 |(f,c)::r,b,e=>by
  unfold kg;rw[w9 λw g=>e w (bj _ g)];split
  .have:a≠f:=by rintro rfl;exact e c a4
   simp[this]
  .rfl
theorem w_{kindOf:Str->Option fc}{a:Str}:∀{d:List (Str×Value)}{b:Str->Option Value},(∀c,(a,c)∉d)->kh kindOf d b a=b a
 |[],_,_=>rfl
 |(f,c)::r,b,e=>by
  unfold kh;rw[w_ λw g=>e w (bj _ g)];split
  .rfl
  .have:a≠f:=by rintro rfl;exact e c a4
   simp[this]
theorem xa{kindOf:Str->Option fc}{d:Str}{g:Value}:∀{a:List Str}{b:List Value}{i:Nat}{c:Str->Option Value},a.Nodup->a[i]? =some d->b[i]? =some g->kindOf d=some .local->
  kg kindOf (a.zip b) c d=some g
 |[],_,_,_,_,j,_,_=>by simp at j
 |_::_,[],_,_,_,_,j,_=>by simp at j
 |e::a,w::b,0,c,nd,D,f,k=>by
  simp at D f;subst D;subst f;show kg kindOf ((e,w)::a.zip b) c e=_;unfold kg;rw[w9 λg l=>(py.mp nd).1 (xb l).1,if_pos k];simp
 |e::a,w::b,i+1,c,nd,D,f,k=>by
  show kg kindOf ((e,w)::a.zip b) c d=_;unfold kg;exact xa (i:=i) (py.mp nd).2 (by simpa using D) (by simpa using f) k
theorem xf{kindOf:Str->Option fc}{d:Str}{g:Value}:∀{a:List Str}{b:List Value}{i:Nat}{c:Str->Option Value},a.Nodup->a[i]? =some d->b[i]? =some g->kindOf d≠some .local->
  kh kindOf (a.zip b) c d=some g
 |[],_,_,_,_,j,_,_=>by simp at j
 |_::_,[],_,_,_,_,j,_=>by simp at j
 |e::a,w::b,0,c,nd,D,f,k=>by
  simp at D f;subst D;subst f;show kh kindOf ((e,w)::a.zip b) c e=_;unfold kh;rw[w_ λg l=>(py.mp nd).1 (xb l).1,if_neg k];simp
 |e::a,w::b,i+1,c,nd,D,f,k=>by
  show kh kindOf ((e,w)::a.zip b) c d=_;unfold kh;exact xf (i:=i) (py.mp nd).2 (by simpa using D) (by simpa using f) k
def start(b:List Str)(a:List V):St:=a.map some++aP (b.length-a.length) none
def fe(j:fz)(k:Program)(w:World)(K:aj)(o:Str->Option Value)(base:Heap)(p:List Str)(b:Str)(c:cz)(d:B)(e:Value)(l:a_)(f:List bp)(a:M)(g:G)(m:XK):Cx where
 prog:=k
 w:=w
 K:=K
 mg:=o
 base:=base
 A:=l.deeper (gU b c a.heap.objs.size d e)
 N:=p
 Sl:=a
 U7:=g
 env:=gU b c a.heap.objs.size d e
 outer:=f
 stack:=gU b c a.heap.objs.size d e::f
 ex:=[]
 calm:=true
 fn:=λ_=>true
 pn:=[]
 xe:=λn q=>wpAny (ar k w) (l.deeper (gU b c a.heap.objs.size d e)) (leaving (gU b c a.heap.objs.size d e) n) (λ_ i=>j f g a m n i) (λr i=>j f g a m r i) q
theorem xg{a:cz}{n:Nat}{b:Str}(c:a.names.lookup b=some .cell):∃d,(d5 n a.names []).lookup b=some d:=by
 have e:=Ff a.names n [] (.inl c);exact Option.isSome_iff_exists.mp e
theorem Fg{L:fz}{E:Program}{w:World}{K:aj}{F:Str->Option Value}{base:Heap}{o i:List Str}{v:Str}{d:cz}{x:B}{y:Value}{z:a_}{H:List bp}{e N:M}{A:G}{P:XK}{I:List Value}{j:List V}
  (k:gS o i d)(U:z.handled=none)(c:kd E w K F base z H e A)(hl:j.length=i.length)(W:aB j I)
  (l:InCallC e e.heap.objs.size (kg (gU v d e.heap.objs.size x y).kindOf (i.zip I) λ_=>none) (d5 (e.heap.objs.size+1) d.names []) (kh (gU v d e.heap.objs.size x y).kindOf (i.zip I) λ_=>none) N):
  O (fe L E w K F base o v d x y z H e A P) [] (start o j) A N:=by
 have ad:i.length<=o.length:=by have:=congrArg xh k.pre;rw[ck] at this;omega
 obtain⟨D,tk,rfl,Q⟩:=l.done;have J:∀f:B,f∉(fe L E w K F base o v d x y z H e A P).ex:=λf p=>absurd (show f∈([]:List B) from p) (by simp);refine#[#[c.mod,k.kind,rfl,rfl,av _,λa p g D b=>?_,λa m=>?_,λa g _ r=>?_,λ_=>U,Around.frames_deeper c.frames,.inr #[rfl,rfl],λf p=>absurd p (J f),c.bs,c.U9,λf _ _=>J f,λf p=>absurd p (J f),c.SM,c.Vj],
  rfl,c.bare,Un.kept Q,#[_,l.toInCall.ns,λs a X D b ae=>?_],λa g r=>#[_,l.cell a g r],c.Ra.fresh (av _),λa g r=>?_,λY t=>absurd (show Y∈([]:List (B×ak)) from t) (by simp),c.Ra.kept Q,?_]
 .exact name_of_addr l.apart (fB D) (fB b)
 .have m:d.names.lookup a=some .cell\/d.names.lookup a=some .free:=m
  rcases m with m|m
  .exact xg m
  .exact absurd rfl (k.VI _ (fB m))
 .exact dc (l.above a g (fB r))
 .have C:s<j.length:=by
   unfold start at b;by_cases C:s<j.length
   .exact C
   .rw[dB (by simpa using C)] at b
    rw[fY] at b;split at b<;>cases b
  have Z:j[s]? =some X:=by
   unfold start at b;rw[cF (by simpa using C),a6] at b;cases u:j[s]? with
   |none=>rw[u] at b;cases b
   |some af=>rw[u] at b;cases b;rfl
  obtain⟨aa,R,ab⟩:=W.get Z;have t:i[s]? =some a:=by
   rw[<-k.pre,xi (by omega)];exact D
  have S:i.Nodup:=by rw[<-k.pre];exact k.nd.sublist (List.take_sublist _ _)
  refine#[aa,ab,?_];rcases k.Wl a (a7 t) with q|q
  .exact .inl #[q,xa S t R q]
  .obtain⟨g,u⟩:=xg (n:=e.heap.objs.size+1) q
   refine .inr #[.inl q,g,u,?_];have T:=l.cell a g u;rw[xf S t R (by show d.names.lookup a≠_;rw[q];decide)] at T;exact T
 .exact c.Ra.fresh (dc (l.above a g (fB r)))
 .unfold start
  show _=o.length;rw[bq,ag,cQ];omega
theorem xj{x:fz}{r:Program}{w:World}{K:aj}{y:Str->Option Value}{base:Heap}{Q:Nat}{n:B}{name k:Str}{R:Arguments}{D:List aX}{c:cz}{S kV T U l X ah:Value}{Y ai:Option B}
  {al:Array (Option Value)}{m z:List Str}{E:Sp}(lk:K.lookup n=some #[ah,ai,.func (ki name k R D c S kV T U Y l X),al])(am:sF K l k=true)(s:gS m z c)
  (Z:∀e b f g,E e b f g->e.length=z.length)
  (ao:∀(o:a_)(p:List bp)(d:M)(b:G)(e:List V)(f:VK)(g:XK),bu Q (o.deeper (gU k c d.heap.objs.size n l))->E e b f g->
   ∃F,d4 (fe x r w K y base m k c n l o p d b g) D F/\F {nx:=λ_ i=>f .non i,rt:=f} (start m e) b):
  ee r w K y base x (Q+1) n (ki name k R D c S kV T U Y l X) z E:=by
 refine#[Z,λo p d b args as e f g H t au aw aa=>?_];have hl:=Z _ _ _ _ aa;have ab:K.In d.heap:=t.mod.VG.keeps λI J A=>(t.bs I J A).1;have ax:d.heap.NoLimit:=t.mod.nolimit.keeps λI J A=>(t.bs I J A).1;have aB:∀L∈z.zip as,c.names.lookup L.1=some .local\/(c.names.lookup L.1=some .cell/\((d5 (d.heap.objs.size+1) c.names []).lookup L.1).isSome=true):=λ⟨aD,v⟩ aF=>by
  rcases s.Wl aD (xb aF).1 with a|a
  .exact .inl a
  .exact .inr #[a,Ff _ _ _ (.inl a)]
 refine codeAny_call_function H.depth (ab _ _ lk) rfl s.co s.gen rfl (PySem.W.codeRec_of ab am) (au _ _ _ _ ?_);refine wpAny_newFunctionEnv_cells s.kind aB λaJ aG ad ae=>?_;subst aG;refine#[ax.keeps ae.toInCall.keep,codeAny_func ?_];obtain⟨F,aH,hq⟩:=ao o p d b e f g (H.deeper _) aa;have aI:O (fe x r w K y base m k c n l o p d b g) [] (start m e) b ad:=Fg s H.hd t hl aw ae;refine dN (aH [] ad (start m e) b _ aI hq) (λfl N q=>?_) λA N q=>q;have af:∀{C:St}{i:G}{v:V}{u:Value},O (fe x r w K y base m k c n l o p d b g) [] C i N->aN v u->f v i->CE p r w b d f u N:=
  λ{C i v u}j P a=>#[v,i,j.os,j.bare,j.base,j.Ra,P,a]
 cases fl with
 |ret u=>
  obtain⟨v,C,i,j,P,a⟩:=q;exact af j P a
 |next=>
  obtain⟨C,i,j,a⟩:=q;exact af (v:=V.non) (u:=gO) j rfl a
 |brk=>
  obtain⟨_,_,_,a⟩:=q;exact dz a
 |cont=>
  obtain⟨_,_,_,a⟩:=q;exact dz a
end L2
namespace L2
open PySem PySem.Spec PyProof.Rows
section
variable{X:Cx}{x:Str}{p b:aU}{e:Expr}{a:List Expr}{t:TA}{id T:String}{r:List V->G->VK->Prop}
def nK(r:List V->G->VK->Prop)(t:TA):TE:=λa b c=>t a b λd e=>r d e c
theorem a1(g:ho X (.builtin id) r)(i:Gl X x)(j:X.mg x=none)(k:ng x=some (.builtin id))(l:PA X (e::a) t)(m:x≠ "__name__":=by decide)(n:(x==("__debug__":Str))=false:=by decide)
  (o:az (e::a) X.env=(false,aA e X.env)::az a X.env:=by rfl)(q:(cB b (az a X.env)).any (·.1)=false:=by rfl):PE X (.Call (.Name x p) (e::a) [] b) (nK r t):=by
 intro c s d u v f w;refine kf (i1 f i j k ?_ m n);exact P9 (au (l b c s d u _ f w) λy z ⟨A,C,D,E,F⟩=>g c z d C A y v D E F) o q
theorem pz(g:ho X (.type T) r)(i:Gl X x)(j:X.mg x=none)(k:ng x=some (.type T))(l:PA X (e::a) t)(m:x≠ "__name__":=by decide)(n:(x==("__debug__":Str))=false:=by decide)
  (o:az (e::a) X.env=(false,aA e X.env)::az a X.env:=by rfl)(q:(cB b (az a X.env)).any (·.1)=false:=by rfl):PE X (.Call (.Name x p) (e::a) [] b) (nK r t):=by
 intro c s d u v f w;refine kf (i1 f i j k ?_ m n);exact lu (au (l b c s d u _ f w) λy z ⟨A,C,D,E,F⟩=>g c z d C A y v D E F) o q
end
end L2
namespace HT
open PySem PyProof.Rows
section
open PySem.SeqAt
open PySem.AutoSeq1 (wpAny_loadPart')
open PySem.MeetsSeq PySem.MeetsSeq2 PySem.MeetsSeq3
end
section
variable{prog:Program}{w:World}{a:a_}{b:Value->M->Prop}{s:M}
def et(b c:Nat):Option Int->Nat
 |none=>c
 |some a=>if a<0 then(a+(b:Int)).toNat else min a.toNat b
theorem xk(b a:Nat):et b a none=a:=rfl
theorem hv(b c a:Nat):et b c (some (a:Int))=min a b:=by
 show(if(a:Int)<0 then((a:Int)+(b:Int)).toNat else min (a:Int).toNat b)=min a b;rw[if_neg (by omega),Int.toNat_natCast]
end
end HT
namespace L2
open PySem PySem.Spec PyProof.Rows
abbrev TO:=St->G->(Option Int->G->Prop)->Prop
def PO(a:Cx)(j:Option Expr)(k:TO):Prop:=
 ∀(c:List (B×ak))(d:M)(b:St)(e:G)(f:Option Int->G->Prop),O a c b e d->k b e f->
  wpAny (ar a.prog a.w) a.A (evalPart j a.env) (λl m=>∃g i,O a c b i m/\IsPart l g/\f g i) a.xe d
def Fh:TO:=λ_ a b=>b none a
inductive Fi(b:Option Int->G->Prop)(c:V)(d:G):Prop
 |mk (a)(e:c=.int a)(f:b (some a) d)
def Fj(a:TE):TO:=λb c d=>a b c λe f=>Fi d e f
section
variable{X:Cx}{e:Expr}{b:TE}{lo a:Option Expr}{tl c:TO}{f d:aU}
theorem nL:PO X none Fh:=by
 intro d e f a g b c;rw[Fk];exact bO #[none,a,b,.none,c]
theorem fZ(c:PE X e b):PO X (some e) (Fj b):=by
 intro d f g i r j k;rw[evalPart_some];refine au (c d f g i _ j k) λs t ⟨u,l,m,n,o⟩=>?_;obtain⟨a,rfl,p⟩:=o;obtain⟨q,rfl⟩:=n;exact#[some a,l,m,.int a q,p]
def xl(X:Cx)(n:V->Option Int->Option Int->G->VK->Prop):Prop:=
 ∀(d:List (B×ak))(b:M)(e:St)(f:G)(g:V)(c i j:Value)(lo a:Option Int)(k:B)(l:VK),O X d e f b->aN g c->b.heap.IsSliceOf k i j .none->IsPart i lo->IsPart j a->n g lo a f l->
  ∃m id,ic (.type m) "__getitem__"=pure (some (.builtin id))/\b.TypeIs c m/\wpAny (ar X.prog X.w) X.A (lp c (.ref k)) (EP X d e l) X.xe b
def Fl(d:V->Option Int->Option Int->G->VK->Prop)(b:TE)(tl c:TO):TE:=λa e f=>b a e λg i=>tl a i λj k=>c a k λl m=>d g j l m f
theorem ie{n:V->Option Int->Option Int->G->VK->Prop}(q:xl X n)(r:PE X e b)(hl:PO X lo tl)(s:PO X a c):PE X (.Subscript e (.Slice lo a none d) f) (Fl n b tl c):=by
 intro i t j u o v x;refine xm (au (r i t j u _ v x) λm y ⟨z,C,D,E,F⟩=>?_);refine wpAny_Slice (au (hl i y j C _ D F) λk H ⟨I,J,K,L,N⟩=>au (s i H j J _ K N) λl g ⟨P,p,Q,R,S⟩=>?_);rw[Fk];refine bO ?_;have T:O X i j p {g with heap:=g.heap.push {cls:=.type "slice",data:=.fields #v[k,l,.none]}}:=Q.kept (t':=g.toks) λaa ab U=>bn _ U;obtain⟨ad,id,W,Y,Z⟩:=q i {g with heap:=g.heap.push {cls:=.type "slice",data:=.fields #v[k,l,.none]}} j p z m k l I P g.heap.objs.size o T E (P_ ..) L R S;show wpAny (ar X.prog X.w) X.A (xn e (.Slice lo a none d) m (.ref g.heap.objs.size)) (EP X i j o) X.xe {g with heap:=g.heap.push {cls:=.type "slice",data:=.fields #v[k,l,.none]}};exact tail_any (ops:=[.ref g.heap.objs.size,m]) Y W Z (by with_unfolding_all rfl)
def cR(b:List V)(lo a:Option Int):List V:=(b.drop (HT.et b.length 0 lo)).take (HT.et b.length b.length a-HT.et b.length 0 lo)
theorem Fm(b:List V)(lo a:Option Int):(cR b lo a).length<=b.length:=by
 unfold cR;rw[ck,eK];omega
end
end L2
namespace L2
open PySem PySem.Spec PyProof.Rows
def ig(b:Nat)(a:Int):Option Nat:=if 0<=a then(if a<b then some a.toNat else none) else if-(b:Int)<=a then some (a+b).toNat else none
def ih{a:Type}(b:List a)(c:Int):Option a:=(ig b.length c).bind λd=>b[d]?
theorem xo{c:Nat}{b:Int}{d:Nat}(a:ig c b=some d):seqIndex? b c=some d/\d<c/\ -(c:Int)<=b/\b<c:=by
 unfold ig at a;by_cases h0:0<=b
 .rw[if_pos h0] at a
  by_cases D:b<c
  .rw[if_pos D] at a
   have e:b.toNat=d:=b5 a;exact#[by rw[xp h0 D,e],by omega,by omega,D]
  .rw[if_neg D] at a;cases a
 .rw[if_neg h0] at a
  by_cases D: -(c:Int)<=b
  .rw[if_pos D] at a
   have e:(b+c).toNat=d:=b5 a;exact#[by rw[xq (by omega) D,e],by omega,D,by omega]
  .rw[if_neg D] at a;cases a
theorem sG{f:Type}{a:List f}{b:Int}{g:f}(c:ih a b=some g):∃d,seqIndex? b a.length=some d/\a[d]? =some g/\d<a.length/\ -(a.length:Int)<=b/\b<a.length:=by
 unfold ih at c;cases e:ig a.length b with
 |none=>rw[e] at c;cases c
 |some d=>
  rw[e] at c;obtain⟨D,i,j,k⟩:=xo e;exact#[d,D,c,i,j,k]
theorem aw{a:Type}{xs:List a}{j:Nat}{v:a}(b:xs[j]? =some v):ih xs (j:Int)=some v:=by
 have d:j<xs.length:=(aC.mp b).1;have c:ig xs.length (j:Int)=some j:=by
  unfold ig;rw[if_pos (by omega),if_pos (by omega)];simp
 unfold ih;rw[c];exact b
def xr(c:Expr):Prop:=∀a b,sH c false a b=xt [a,b] (lp a b)
def pA(a:Cx)(m:R2):Prop:=
 ∀(n d:Expr)(e:List (B×ak))(f:M)(g:St)(i:G)(j k:V)(b c:Value)(l:VK),O a e g i f->aN j b->aN k c->m j k i l->
  sH d false b c=xt [b,c] (lp b c)->wpAny (ar a.prog a.w) a.A (xn n d b c) (EP a e g l) a.xe f
def pB(a:Cx)(id:String)(l:V->List V->G->VK->Prop):Prop:=
 ∀(b:List (B×ak))(c:M)(d:St)(e:G)(f:V)(g:List V)(i:Value)(j:List Value)(k:VK),O a b d e c->aN f i->aB g j->l f g e k->
  wpAny (ar a.prog a.w) a.A (call (.builtin id) (i::j)) (EP a b d k) a.xe c
section
variable{X:Cx}{a b:Expr}{f g:TE}{h:aU}
theorem dR{r:R2}(c:pA X r)(d:PE X a f)(e:PE X b g)(i:xr b):PE X (.Subscript a b h) (jb r f g):=by
 intro j z k A l m n;exact xm (ss d e m n λo p q s t u v w x y=>c a b j q k u s t o p l v w x y (i _ _))
inductive Fn(K:aj)(i:B)(j:Int)(c:G)(k:VK):Prop
 |mk {d e}(l:I K c i d)(m:ih d j=some e)(n:k e c)
def kj(K:aj):R2:=λa b c d=>vR a λe=>vI b λf=>Fn K e f c d
inductive Fo(K:aj)(k:V)(l:V)(c:G)(m:VK):Prop
 |mk (d e i j)(n:k=.ref d)(o:l=.int i)(p:a8 K c d e)(q:ih e i=some j)(r:m j c)
def Fq(K:aj):R2:=λa b c d=>Fo K a b c d
inductive Fs(i:V)(j:V)(k:G)(l:VK):Prop
 |mk (c d e)(m:i=.str c)(n:j=.int d)(o:c.length<=aq)(p:ih c.cps.toList d=some e)(q:l (.str #[#v[e]]) k)
def Ft:R2:=λa b c d=>Fs a b c d
theorem lA:pA X (kj X.K):=by
 intro E F f n g o x G H I Q i p q b j;obtain⟨J,rfl,b⟩:=vR.ex b;obtain⟨c,rfl,@⟨L,r,hq,s,t⟩⟩:=vI.ex b;cases p;obtain⟨N,rfl⟩:=q;obtain⟨u,a,d,O⟩:=i.list hq;obtain⟨k,D,v,P,y,z⟩:=sG s;obtain⟨w,l,A⟩:=a.get v;have hl:=a.length;have R:=j9;have m:EP X f g Q w n:=#[r,o,i,A,t];by_cases h0:0<=c
 .have e:c.toNat=k:=by
   rw[xp h0 z] at D;exact b5 D
  exact item_listR d.isList h0 (by omega) (by rw[e];simpa using l) m j
 .have e:(c+(u.toArray.size:Int)).toNat=k:=by
   rw[xq (by omega) y] at D;rw[cE,<-hl];exact b5 D
  exact Fu (x:=w) d.isList.typeIs Fv.lookup
   (wpAny_getItem_list_neg (Q:=λa C=>a=w/\EP X f g Q a C) d.isList (by omega) (by rw[cE]<;>omega) (by omega) (by rw[e];simpa using l) #[rfl,m]) j
theorem fC:pA X (Fq X.K):=by
 intro v y b f c g z A C E Q d i k l m;obtain⟨F,G,H,n,rfl,rfl,hq,o,p⟩:=l;cases i;obtain⟨I,rfl⟩:=k;obtain⟨J,a,e,L⟩:=d.tuple hq;obtain⟨j,D,q,N,O,P⟩:=sG o;obtain⟨w,r,s⟩:=a.get q;have hl:=a.length;have R:=j9;have t:EP X b c Q w f:=#[n,g,d,s,p];exact Fu (x:=w) e.typeIs slot_tuple_getitem.lookup
  (getItem_tuple (j:=j) (Q:=λa u=>a=w/\EP X b c Q a u) e (by omega) (by omega) (by rw[cE,<-hl];exact D) (by simpa using r) #[rfl,t]) m
theorem Fw:pA X Ft:=by
 intro t u v d w e x y z A C f g i j k;obtain⟨a,b,c,rfl,rfl,E,l,m⟩:=j;obtain⟨n,rfl⟩:=g;obtain⟨F,rfl⟩:=i;obtain⟨G,D,o,H,p,q⟩:=sG l;have hl:a.cps.toList.length=a.length:=by simp[Fx]
 rw[hl] at D p q;have I:=j9;exact tail_any (xu d a n) slot_str_getitem.lookup (getItem_str (c:=c) (by
  have r:decide (b< -(2^63:Int))=false:=decide_eq_false (by omega);have s:decide (b≥2^63)=false:=decide_eq_false (by omega);rw[r,s,sI]) (by rw[D];simpa using o) #[.str #[#v[c]],e,f.tok _,#[_,rfl],m]) k
theorem Fy(a:List Value)(b c:Nat)(d:Value):nM (·.setIfInBounds c d) {cls:=.type "list",data:=.seq a.toArray b}={cls:=.type "list",data:=.seq (a.set c d).toArray b}:=by
 simp[nM]
theorem O.lst{g:List (B×ak)}{i:St}{e:G}{f:M}{b:B}{c:List V}(j:O X g i e f)(k:e b=some (.lst c)):
  ∃(a:List Value)(d:Nat),aB c a/\f.heap.get? b=some {cls:=.type "list",data:=.seq a.toArray d}/\c.length<=aq:=by
 obtain⟨l,a,d,m,n⟩:=j.Ra b _ k;exact#[a,d,m,n,l]
theorem O.VL{k:List (B×ak)}{l:St}{g:G}{c:M}{a:B}{q i:List V}{m d:List Value}{n j:Nat}{f:ak->ak}(r:O X k l g c)(s:g a=some (.lst q))
  (t:c.heap.get? a=some {cls:=.type "list",data:=.seq m.toArray n})(o:f {cls:=.type "list",data:=.seq m.toArray n}={cls:=.type "list",data:=.seq d.toArray j})(u:aB i d)(v:i.length<=aq)(w:Nat):
  O X k l (upd g a (.lst i)) {c with heap:=c.heap.update a f,toks:=w}:=by
 have p:(c.heap.update a f).get? a=some {cls:=.type "list",data:=.seq d.toArray j}:=by
  rw[lB f t (by rw[o]<;>rfl),o]
 refine r.write (x:=a) (e:=a) (by rw[s];trivial) (.inl rfl) (λb A y z=>(ii _ _ (b8 y)).trans z) #[_,p] ?_;exact#[v,d,j,u,p]
inductive Fz(k:V)(l:V)(m:V)(e:G)(n:G->Prop):Prop
 |mk (c d i j)(o:k=.ref c)(p:l=.int i)(q:e c=some (.lst d))(r:ig d.length i=some j)(s:n (upd e c (.lst (d.set j m))))
def FA:V->V->V->G->(G->Prop)->Prop:=λa b c d e=>Fz a b c d e
theorem gV:sf X FA:=by
 intro q b r s E F t G H f I g u v w x;obtain⟨i,y,c,a,rfl,rfl,j,z,k⟩:=x;cases u;obtain⟨J,rfl⟩:=v;obtain⟨l,A,m,d,C⟩:=g.lst j;obtain⟨D,K,n,o⟩:=xo z;have hl:=m.length;have L:=j9;have p:O X q r (upd s i (.lst (y.set a t))) {b with heap:=b.heap.update i (nM (·.setIfInBounds a f))}:=
  g.VL j d (Fy l A a f) (m.set w a) (by rw[ij];exact C) b.toks
 by_cases h0:0<=c
 .have e:c.toNat=a:=by
   rw[xp h0 o] at D;exact b5 D
  exact PySem.W.ki_setAt d h0 (by omega) (by rw[cE,<-hl];exact o) (by rw[e];exact#[_,p,k])
 .have e:(c+(l.toArray.size:Int)).toNat=a:=by
   rw[xq (by omega) n] at D;rw[cE,<-hl];exact b5 D
  exact PySem.W.ki_setBack d (by omega) (by rw[cE,<-hl];exact n) (by omega) (by rw[e];exact#[_,p,k])
theorem FC(lo b:Option Int)(a:Nat):(lC lo b none a).1=((HT.et a 0 lo:Nat):Int)/\(lC lo b none a).2.1=((HT.et a a b:Nat):Int)/\(lC lo b none a).2.2=1:=by
 refine#[?_,?_,rfl]
 .cases lo with
  |none=>simp[lC,HT.et]
  |some d=>
   simp only[lC,HT.et,FD,show(1:Int)>0 by decide,if_true];by_cases c:d<0
   .simp only[c,if_true]<;>omega
   .simp only[c,if_false]<;>omega
 .cases b with
  |none=>simp[lC,HT.et]
  |some d=>
   simp only[lC,HT.et,FD,show(1:Int)>0 by decide,if_true];by_cases c:d<0
   .simp only[c,if_true]<;>omega
   .simp only[c,if_false]<;>omega
theorem FE(a:List Value)(lo b:Option Int):slicePick a.toArray lo b none=((a.drop (HT.et a.length 0 lo)).take (HT.et a.length a.length b-HT.et a.length 0 lo)).toArray:=by
 obtain⟨D,c,d⟩:=FC lo b a.toArray.size;unfold slicePick;rw[D,c,d];simp only[sliceRange_one,pick_run,cE]<;>rfl
inductive FF(K:aj)(i:V)(lo:Option Int)(j:Option Int)(c:G)(k:VK):Prop
 |mk (a e)(l:i=.ref a)(m:I K c a e)(n:∀d,c d=none->k (.ref d) (upd c d (.lst (cR e lo j))))
def FG(K:aj):V->Option Int->Option Int->G->VK->Prop:=λa lo b c d=>FF K a lo b c d
theorem ik:xl X (FG X.K):=by
 intro t g u v w x y z lo d A C e k l m n p;obtain⟨a,c,rfl,q,f⟩:=p;cases k;obtain⟨D,i,j,r⟩:=e.list q;have s:=i.length;refine#["list",_,Fv.lookup,j.isList.typeIs,?_];refine wpAny_getItem_list_slice j.isList l m n .none (by simp) ?_ (by rw[cE]<;>omega);rw[FE,<-s];refine#[.ref g.heap.objs.size,_,e.laid (t':=g.toks) (o:=.lst (cR c lo d)) (λb E f=>bn _ f) (av _) ?_,rfl,f _ (e.Ra.fresh (av _))];exact#[bB (Fm c lo d) r,_,0,(i.drop (HT.et c.length 0 lo)).take (HT.et c.length c.length d-HT.et c.length 0 lo),dA _ rfl]
def je:V->Bool
 | .non=>true
 | .bl _=>true
 | .int _=>true
 | .str _=>true
 |_=>false
def hw:V->V->Bool
 | .non,.non=>true
 | .bl a,.bl b=>a==b
 | .bl a,.int b=>(if a then 1 else 0)==b
 | .int a,.bl b=>a==(if b then 1 else 0)
 | .int a,.int b=>a==b
 | .str a,.str b=>a==b
 |_,_=>false
theorem FH{m:a_}{n:M}{g f:V}{k l:Value}(i:aN g k)(c:aN f l)(o:je g=true)(j:je f=true):FI m n k l (hw g f):=by
 cases g with
 |non=>
  cases i;cases f with
  |non=>cases c;exact Qa _
  |bl b=>cases c;exact Qb b
  |int b=>obtain⟨d,rfl⟩:=c;exact Qc b d
  |str b=>obtain⟨d,rfl⟩:=c;exact Qd b d
  |_=>exact absurd (show false=true from j) cC
 |bl a=>
  cases i;cases f with
  |non=>cases c;exact Qe a
  |bl b=>cases c;exact Qg a b
  |int b=>obtain⟨d,rfl⟩:=c;exact Qh a b d
  |str b=>obtain⟨d,rfl⟩:=c;exact Qi a b d
  |_=>exact absurd (show false=true from j) cC
 |int a=>
  obtain⟨e,rfl⟩:=i;cases f with
  |non=>cases c;exact Qj a e
  |bl b=>cases c;exact Qk a e b
  |int b=>obtain⟨d,rfl⟩:=c;exact Ql a e b d
  |str b=>obtain⟨d,rfl⟩:=c;exact C4 a e b d
  |_=>exact absurd (show false=true from j) cC
 |str a=>
  obtain⟨e,rfl⟩:=i;cases f with
  |non=>cases c;exact Qm a e
  |bl b=>cases c;exact Qn a e b
  |int b=>obtain⟨d,rfl⟩:=c;exact C5 a e b d
  |str b=>obtain⟨d,rfl⟩:=c;exact Qo a e b d
  |_=>exact absurd (show false=true from j) cC
 |_=>exact absurd (show false=true from o) cC
def il(a:V)(c:Value):Bool:=match c with
 | .none=>hw .non a
 | .bool b=>hw (.bl b) a
 | .int i _=>hw (.int i) a
 | .str z _=>hw (.str z) a
 |_=>false
theorem xv{d a:V}{e:Value}(c:aN a e)(f:je a=true):il d e=hw a d:=by
 cases a with
 |non=>cases c;rfl
 |bl b=>cases c;rfl
 |int i=>obtain⟨g,rfl⟩:=c;rfl
 |str j=>obtain⟨g,rfl⟩:=c;rfl
 |_=>exact absurd (show false=true from f) cC
theorem sJ{d:V}:∀{a:List V}{b:List Value},aB a b->a.all je=true->b.any (il d)=a.any λe=>hw e d
 |_,_,.nil,_=>rfl
 |e::a,i::b,.cons f g,c=>by
  rw[FJ,bJ] at c;rw[lD,lD,xv f c.1,sJ g c.2]
theorem sK{k:a_}{l:M}{d:V}{g:Value}(i:aN d g)(j:je d=true):∀{e:List V}{f:List Value},aB e f->e.all je=true-> ∀b∈f,FI k l b g (il d b)
 |_,_,.nil,_=>λb a=>by cases a
 |o::e,b::f,.cons r m,c=>λn a=>by
  rw[FJ,bJ] at c;rcases bw.mp a with rfl|a
  .rw[xv r c.1];exact FH r i c.1 j
  .exact sK i j m c.2 n a
def nN(a:V)(b:List V):Bool:=b.any λc=>hw c a
inductive FK(K:aj)(j:Bool)(d:V)(k:V)(e:G)(l:VK):Prop
 |mk (i c)(m:k=.ref i)(n:(I K e i c\/a8 K e i c))(o:je d=true)(p:c.all je=true)(q:l (.bl (if j then !nN d c else nN d c)) e)
def FL(K:aj)(a:Bool):R2:=λb c d e=>FK K a b c d e
theorem FM:cD X (e8 .In) (FL X.K false):=by
 intro p q r i a s t u v d j m n;obtain⟨x,y,rfl,hq,k,e,l⟩:=n;cases m;rcases hq with hq|hq
 .obtain⟨b,c,f,o⟩:=d.list hq
  refine SeqAt.in_listAt (il a) f.isList (λw g=>sK j k c e w (by simpa using g)) #[.bl _,i,d,rfl,?_];rw[show b.toArray.any (il a)=b.any (il a) by simp,sJ c e];exact l
 .obtain⟨b,c,f,o⟩:=d.tuple hq
  refine SeqAt.in_tupleAt (il a) f (λw g=>sK j k c e w (by simpa using g)) #[.bl _,i,d,rfl,?_];rw[show b.toArray.any (il a)=b.any (il a) by simp,sJ c e];exact l
inductive FN(K:aj)(e:B)(c:G)(i:VK):Prop
 |mk {d}(j:I K c e d\/a8 K c e d)(k:i (.int d.length) c)
def lE(K:aj):List V->G->VK->Prop:=λa b c=>v1 a λd=>vR d λe=>FN K e b c
theorem bd:ho X (.builtin "len") (lE X.K):=by
 intro o f p g q r s a k b;obtain⟨t,rfl,b⟩:=v1.ex b;obtain⟨u,rfl,@⟨i,hq,j⟩⟩:=vR.ex b;obtain⟨v,rfl,l⟩:=nG k;cases l;have w:=j9;rcases hq with hq|hq
 .obtain⟨m,c,d,n⟩:=a.list hq
  have e:=c.length;exact Calls.call_len_list d.isList (by simp only[cE]<;>omega) #[.int i.length,g,a.tok _,#[f.toks+1,by rw[cE,e]],j]
 .obtain⟨m,c,d,n⟩:=a.tuple hq
  have e:=c.length;exact len_tuple d (by simp only[cE]<;>omega) #[.int i.length,g,a.tok _,#[f.toks+1,by rw[cE,e]],j]
theorem FO:ho X (.type "list") (λu j o=>∃g d,u=[.ref g]/\(I X.K j g d\/a8 X.K j g d)/\ ∀p,j p=none->o (.ref p) (upd j p (.lst d))):=by
 intro y i z j u J o n A C;obtain⟨g,d,rfl,hq,D⟩:=C;obtain⟨L,rfl,E⟩:=nG A;cases E;have v:∀(c:List Value),aB d c->d.length<=aq-> ∀(a:Heap)(e:Nat),(∀b x,i.heap.get? b=some x->a.get? b=some x)->
   a.get? i.heap.objs.size=some {cls:=.type "list",dict:=none,data:=.seq c.toArray e,slots:= #v[]}->EP X y z o (.ref i.heap.objs.size) {i with heap:=a}:=λc f k a e l m=>
  #[.ref i.heap.objs.size,_,n.laid (t':=i.toks) l (av _) (show bU X.prog X.w _ a _ (.lst d) from#[k,c,e,f,m]),rfl,D _ (n.Ra.fresh (av _))]
 rcases hq with hq|hq
 .obtain⟨c,f,q,k⟩:=n.list hq
  have F:=f.length;obtain⟨G,r,s,H,t⟩:=q.isList;exact FP g (.inl rfl) r s t (λa e l m=>v c f k a e l m) (by simp only[cE]<;>omega)
 .obtain⟨c,f,q,k⟩:=n.tuple hq
  have F:=f.length;obtain⟨G,r,s,H,t⟩:=q;exact FP g (.inr rfl) r s t (λa e l m=>v c f k a e l m) (by simp only[cE]<;>omega)
theorem FQ:ho X (.type "tuple") (λp a i=>∃c d,p=[.ref c]/\((I X.K a c d/\ ∀j,a j=none->i (.ref j) (upd a j (.tup d)))\/(a8 X.K a c d/\i (.ref c) a))):=by
 intro q e r a p A i f u k;obtain⟨c,d,rfl,k⟩:=k;obtain⟨C,rfl,v⟩:=nG u;cases v;rcases k with⟨hq,l⟩|⟨hq,l⟩
 .obtain⟨m,n,o,s⟩:=f.list hq
  have D:=n.length;refine call_tuple_list o.isList (λg x=>?_) (by simp only[cE]<;>omega);have t:O X q r a {e with heap:=g}:=f.kept (t':=e.toks) x;have y:O X q r (upd a g.objs.size (.tup d)) {e with heap:=g.push {cls:=.type "tuple",data:=.seq m.toArray}}:=
   t.laid (t':=e.toks) (λb E z=>bn _ z) (av _) (show bU X.prog X.w _ _ _ (.tup d) from#[s,m,n,IsTup.new _ _])
  exact#[.ref g.objs.size,_,y,rfl,l _ (t.Ra.fresh (av _))]
 .obtain⟨m,n,o,s⟩:=f.tuple hq
  exact call_tuple_same o #[.ref c,a,f,rfl,l]
def sL(K:aj)(a:String)(f:V)(c:G):Prop:=match f with
 | .str _=>a= "str"
 | .int _=>a= "int"
 | .ref b=>(a= "list"/\ ∃g,I K c b g)\/(a= "tuple"/\ ∃d,K.lookup b=some d/\d.cls=.type "tuple"/\d.dict=none)\/
   (a= "dict"/\((∃e,c b=some (.dK e))\/ ∃e,c b=some (.dT e)))\/(a= "set"/\ ∃i j,c b=some (.set i j))
 |_=>False
theorem xw{u:List (B×ak)}{v:St}{r:G}{f:M}{j:String}{k:V}{l:Value}(g:O X u v r f)(m:aN k l)(ty:sL X.K j k r):
  f.TypeIs l j/\ ∀a,l=.ref a-> ∃s,f.heap.get? a=some s/\s.dict=none:=by
 cases k with
 |str n=>
  obtain⟨o,rfl⟩:=m;cases(show j= "str" from ty);exact#[xu f n o,λ_ b=>nomatch b]
 |int w=>
  obtain⟨o,rfl⟩:=m;cases(show j= "int" from ty);exact#[xx f w o,λ_ b=>nomatch b]
 |ref i=>
  cases m;rcases ty with⟨rfl,A,hq⟩|⟨rfl,c,d,x,p⟩|⟨rfl,d⟩|⟨rfl,C,y,d⟩
  .obtain⟨D,_,t,_⟩:=g.list hq
   refine#[t.isList.typeIs,λa b=>?_];cases b;obtain⟨c,y,b,E,p,_⟩:=t;exact#[c,b,p]
  .refine#[#[c,g.Sh i c d,x],λa b=>?_]
   cases b;exact#[c,g.Sh _ c d,p]
  .have n:∃c,f.heap.get? i=some c/\c.ExactDict:=by
    rcases d with⟨z,d⟩|⟨z,d⟩
    .obtain⟨_,_,_,_,c,_,_,b,e,_⟩:=g.Ra i _ d
     exact#[c,b,e]
    .obtain⟨_,_,_,_,c,_,_,b,e,_⟩:=g.Ra i _ d
     exact#[c,b,e]
   obtain⟨c,b,e⟩:=n;refine#[#[c,b,e.1],λa q=>?_];cases q;exact#[c,b,e.2.1]
  .obtain⟨c,_,_,_,b,e,_⟩:=g.Ra i _ d
   refine#[#[c,b,e.1],λa q=>?_];cases q;exact#[c,b,e.2.1]
 |_=>exact dz ty
def FR(K:aj)(c:String)(d:V->List V->G->VK->Prop)(e:TE):TE:=λf g i=>e f g λa b=>sL K c a b/\d a [] b i
def xy(K:aj)(d:String)(e:V->List V->G->VK->Prop)(f:TE)(g:TA):TE:=λa i j=>f a i λb c=>sL K d b c/\g a c λk l=>e b k l j
variable{o e:Expr}{b:List Expr}{c:TE}{t:TA}{name:Str}{d a:aU}{T id:String}{r:V->List V->G->VK->Prop}
theorem xz(i:PlainAttrs T)(j:Slot T name id)(k:typeOf (.builtin id)=pure (.type "method_descriptor"))(l:pB X id r)(m:PE X o c)
  (n:jd o name X.env (aA o X.env)=aA o X.env:=by rfl)(p:(d.endLine==a.line)=true:=by rfl):PE X (.Call (.Attribute o name d) [] [] a) (FR X.K T r c):=by
 intro b q e s t u v;refine wpAny_Call_method0_late n p (au (m b q e s _ u v) λw x ⟨y,z,f,g,ty,A⟩=>?_);obtain⟨D,C⟩:=xw f g ty;exact#[T,id,i,j,k,D,C,xA rfl (PySem.evalArgs_none (l b x e z y [] w [] t f g .nil A))]
theorem cM(l:PlainAttrs T)(m:Slot T name id)(n:typeOf (.builtin id)=pure (.type "method_descriptor"))(p:pB X id r)(q:PE X o c)(s:PA X (e::b) t)
  (u:jd o name X.env (aA o X.env)=aA o X.env:=by rfl)
  (v:((cB a (az (e::b) X.env)).all (λf=> !f.1)&&(ly a (lz [] X.env)).all (λf=>f.1.isSome)
   &&decide ((e::b).length+([]:List w8).length+(if([]:List w8).isEmpty then 0 else 1)<30))=true:=by rfl)
  (w:(d.endLine==a.line)=true:=by rfl)(x:az (e::b) X.env=(false,aA e X.env)::az b X.env:=by rfl)(y:(cB a (az b X.env)).any (·.1)=false:=by rfl):
  PE X (.Call (.Attribute o name d) (e::b) [] a) (xy X.K T r c t):=by
 intro g z i A C E F;refine wpAny_Call_method_late u v w rfl (au (q g z i A _ E F) λG H ⟨f,I,j,k,ty,J⟩=>?_);obtain⟨D,L⟩:=xw j k ty;refine#[T,id,l,m,n,D,L,?_];have hA:=s a g H i I _ j J;rw[x] at hA⊢;refine xA (by show(false||(cB a (az b X.env)).any (·.1))=false;rw[y]<;>rfl) (FS ?_);exact au hA λN O ⟨P,Q,R,S,U⟩=>p g O i Q f P G N C R k S U
end
end L2
namespace L2
open PySem PySem.Spec PyProof.Rows
def sM(a:Cx)(id:String)(l:V->List V->G->VK->Prop):Prop:=
 ∀(b:List (B×ak))(c:M)(d:St)(e:G)(f:V)(g:List V)(i:Value)(j:List Value)(k:VK),O a b d e c->aN f i->aB g j->l f g e k->
  wpAny (ar a.prog a.w) a.A (call (.builtin id) (i::j)) (EP a b d k) a.xe c
theorem aB.one:∀{a:V}{b:List Value},aB [a] b-> ∃c,b=[c]/\aN a c
 |_,_,.cons d .nil=>#[_,rfl,d]
theorem aB.zero:∀{a:List Value},aB [] a->a=[]
 |_,.nil=>rfl
theorem aB.dropLast{a:List V}{b:List Value}(c:aB a b):aB a.dropLast b.dropLast:=by
 induction c with
 |nil=>exact .nil
 |cons d e f=>
  cases e with
  |nil=>exact .nil
  |cons g i=>exact .cons d f
theorem aB.rep{a:List V}{b:List Value}(c:aB a b):∀k:Nat,aB (aP k a).flatten (aP k b).flatten
 |0=>.nil
 |k+1=>by
  rw[pC,pC,pD,pD];exact aB.append c (aB.rep c k)
theorem FT{e:Type}(b:List e):b.eraseIdx (b.length-1)=b.dropLast:=by
 induction b with
 |nil=>rfl
 |cons d a f=>
  cases a with
  |nil=>rfl
  |cons c a=>
   have g:(d::c::a).length-1=((c::a).length-1)+1:=by
    have D:(d::c::a).length=a.length+2:=rfl;have i:(c::a).length=a.length+1:=rfl;omega
   rw[g,List.eraseIdx_cons_succ,f]
   all_goals rfl
theorem xB(a:List Value):∀(c:Nat)(b:List Value),
  xC (λd e=>d++e) b.toArray (aP c a.toArray)=(b++(aP c a).flatten).toArray
 |0,b=>by simp
 |c+1,b=>by
  have f:b.toArray++a.toArray=(b++a).toArray:=by simp
  have g:(b++a)++(aP c a).flatten=b++(aP (c+1) a).flatten:=by
   rw[pC,pD,kl]
  rw[<-g,<-xB a c (b++a),<-f,pC,ff]
section
variable{X:Cx}{pins:List (B×ak)}{a:St}{H:G}{s:M}{l b:B}{xs c d:List V}
theorem O.V0{f its':List Value}{g:Nat}{b:Array Value->Array Value}{i:Nat}(j:O X pins a H s)(k:H l=some (.lst xs))
  (m:s.heap.get? l=some {cls:=.type "list",data:=.seq f.toArray g})(n:b f.toArray=its'.toArray)(o:aB c its')(p:c.length<=aq):
  O X pins a (upd H l (.lst c)) {s with heap:=s.heap.update l (nM b),toks:=i}:=by
 have d:=Qp m b;rw[n] at d;refine j.write (x:=l) (e:=l) (by rw[k];exact trivial) (.inl rfl) (λt u q r=>(ii s.heap (nM b) (b8 q)).trans r) #[_,d] ?_;exact#[p,its',_,o,d]
theorem O.Wc{b:List Value}{t':Nat}(d:O X pins a H s)(e:aB c b)(f:c.length<=aq):
  O X pins a (upd H s.heap.objs.size (.lst c)) {s with heap:=s.heap.push {cls:=.type "list",data:=.seq b.toArray},toks:=t'}:=
 d.laid (λ_ _ g=>bn _ g) (av _) #[f,b,0,e,dA _ rfl]
theorem O.fresh(b:O X pins a H s):H s.heap.objs.size=none:=b.Ra.fresh (av _)
theorem O.US(e:O X pins a H s)(f:H l=some (.lst xs)):xs.length<=aq/\ ∃(b:List Value)(c:Nat),aB xs b/\xs.length=b.length/\s.heap.get? l=some {cls:=.type "list",data:=.seq b.toArray c}:=by
 obtain⟨g,b,c,d,i⟩:=e.Ra l _ f;exact#[g,b,c,d,d.length,i]
theorem xD{a:Nat}(b:a<=aq):sN a=false:=by
 unfold sN;exact decide_eq_false (by omega)
end
section
variable{X:Cx}
inductive xE(b:B)(d:V)(c:G)(e:VK):Prop
 |mk {a}(f:c b=some (.lst a))(g:a.length<aq)(i:e .non (upd c b (.lst (a++[d]))))
def xF:V->List V->G->VK->Prop:=λa b c d=>vR a λe=>v1 b λf=>xE e f c d
theorem dS:sM X "list.append" xF:=by
 intro o p q r s t u v w c g i a;obtain⟨j,rfl,a⟩:=vR.ex a;obtain⟨x,rfl,@⟨y,d,z,k⟩⟩:=v1.ex a;cases g;obtain⟨e,rfl,l⟩:=i.one;obtain⟨A,f,m,n,hl,b⟩:=c.US d;refine pE dU #[_,b,rfl] F.entry_list_append (F.args_list_append_2 _ _) (PySem.list_append j f.toArray m e (by rw[cE];omega)) #[b,?_];refine#[.non,_,c.V0 (its':=f++[e]) d b (by simp) (n.append (.cons l .nil)) ?_,rfl,k];rw[bq,lF];omega
inductive FU(f:V)(g:List V)(a:G)(i:VK):Prop
 |mk (b e c d)(j:f=.ref b)(k:g=[.ref e])(l:a b=some (.lst c))(m:a e=some (.lst d))(n:c.length+d.length<=aq)(o:i .non (upd a b (.lst (c++d))))
def FV:V->List V->G->VK->Prop:=λa b c d=>FU a b c d
theorem lG:sM X "list.extend" FV:=by
 intro u v w x y z A C D c f g i;obtain⟨j,k,E,G,rfl,rfl,e,hB,H,l⟩:=i;cases f;obtain⟨I,rfl,m⟩:=g.one;cases m;obtain⟨J,a,n,o,hl,d⟩:=c.US e;obtain⟨K,b,p,q,L,r⟩:=c.US hB;have s:a.toArray.size+b.toArray.size<=aq:=by rw[cE,cE];omega
 have t:¬(!a.toArray.isEmpty&&sN (a.toArray.size+b.toArray.size))=true:=by
  rw[xD s,xG];exact cC
 refine pE lH #[_,d,rfl] F.entry_list_extend (F.args_list_extend_2 _ _)
  (Qq j a.toArray n k b.toArray p t (by rw[cE];omega) (by omega)) #[d,r,?_]
 refine#[.non,_,c.V0 (its':=a++b) e d (by simp) (o.append q) ?_,rfl,l];rw[bq];omega
inductive FW(e:V)(f:List V)(c:G)(g:VK):Prop
 |mk (b a d)(i:e=.ref b)(j:f=[])(k:c b=some (.lst a))(l:a[a.length-1]? =some d)(m:g d (upd c b (.lst a.dropLast)))
def FX:V->List V->G->VK->Prop:=λa b c d=>FW a b c d
theorem xH:sM X "list.pop" FX:=by
 intro t u v w x y z A C d g i j;obtain⟨k,D,l,rfl,rfl,e,m,n⟩:=j;cases g;have o:=i.zero;subst o;obtain⟨E,a,p,f,hl,b⟩:=d.US e;obtain⟨c,q,r⟩:=f.get m;have s:a.toArray[a.toArray.size-1]? =some c:=by
  show a.toArray[a.length-1]? =some c;rw[<-Array.getElem?_toList,<-hl];exact q
 refine pE xI #[_,b,rfl] F.entry_list_pop (F.args_list_pop_1 _) (Qr k a.toArray p c s (by rw[cE];omega)) #[b,?_];refine#[l,_,d.V0 (its':=a.dropLast) e b ?_ f.dropLast ?_,r,n]
 .show a.toArray.eraseIdxIfInBounds (a.toArray.size-1)=a.dropLast.toArray
  rw[cE,List.eraseIdxIfInBounds_toArray,FT]
 .rw[List.length_dropLast]
  omega
inductive FY(g:V)(i:V)(a:G)(j:VK):Prop
 |mk (e f b c)(k:g=.ref e)(l:i=.ref f)(m:a e=some (.lst b))(n:a f=some (.lst c))(o:b.length+c.length<=aq)(p:∀d,a d=none->j (.ref d) (upd a d (.lst (b++c))))
def FZ:R2:=λa b c d=>FY a b c d
theorem f0:cD X (hp .Add) FZ:=by
 intro p d q r s t u v w a e f g;obtain⟨x,y,z,A,rfl,rfl,i,hB,C,j⟩:=g;cases e;cases f;obtain⟨D,b,E,k,hl,l⟩:=a.US i;obtain⟨F,c,G,m,H,n⟩:=a.US hB;refine PySem.P.add_list l n ?_ (by rw[cE,cE];omega);have o:b.toArray++c.toArray=(b++c).toArray:=by simp
 rw[o];exact#[.ref _,_,a.Wc (t':=d.toks) (k.append m) (by rw[bq];omega),rfl,j _ a.fresh]
inductive F0(f:V)(g:V)(b:G)(i:VK):Prop
 |mk (e a c)(j:f=.ref e)(k:g=.int a)(l:b e=some (.lst c))(m: -(2^63)<=a)(n:a<2^63)(o:c.length*a.toNat<=aq)(p:∀d,b d=none->i (.ref d) (upd b d (.lst (aP a.toNat c).flatten)))
def F1:R2:=λa b c d=>F0 a b c d
theorem F2{c:Type}(b:List c)(a:Nat):(aP a b).flatten.length=a*b.length:=by
 induction a with
 |zero=>simp
 |succ a d=>rw[pC,pD,bq,d,sO,xJ]
theorem F3:cD X (hp .Mult) F1:=by
 intro C j E G H I J K L f n o p;obtain⟨k,b,N,rfl,rfl,q,D,r,l,s⟩:=p;cases n;obtain⟨d,rfl⟩:=o;obtain⟨O,a,m,t,hl,c⟩:=f.US q;have u:a.toArray.size*b.toNat<=aq:=by rw[cE,<-hl];exact l
 have v:¬a.toArray.size*b.toNat>(2^63-1)/8:=by
  have:(aq:Nat)<=(2^63-1)/8:=by decide
  omega
 have w:¬(!Qs b)=true:=by
  rw[fitsIndex_both D r];exact cC
 have x:¬sN (a.toArray.size*b.toNat)=true:=by
  rw[xD u];exact cC
 have y:xC (λg i=>g++i) #v[] (aP (if a.toArray.isEmpty=true then 0 else b.toNat) a.toArray)=(aP b.toNat a).flatten.toArray:=by
  have z:∀e:Nat,xC (λg i=>g++i) #v[] (aP e a.toArray)=(aP e a).flatten.toArray:=λe=>by
   have:=xB a e [];rw[F4] at this;exact this
  rw[z];cases a with
  |nil=>simp
  |cons P Q=>rw[if_neg (by simp)]
 refine wpAny_binaryOp_repeat_ref (T:= "list") (U:= "int") (by decide) #[_,c,rfl] (λA=>xx A b d) noFill_list_mul F.fills_int_mul F5 repeat_list F.slot_int_index.lookup
  (pE F5 (xx j b d) F.entry_int_rmul (F.args_int_rmul_2 _ _) (int___rmul___int_list b d k a.toArray m)
   #[c,rfl,#[_,c,rfl],pE F.slot_list_mul #[_,c,rfl] F.entry_list_mul (F.args_list_mul_2 _ _) (Qt k a.toArray m b d w v x) #[c,?_]])
 rw[y];exact#[.ref _,_,f.Wc (t':=j.toks) (t.rep b.toNat) (by rw[F2,dh];exact l),rfl,s _ f.fresh]
end
section
variable{prog:Program}{w:World}{a:a_}{b:Value->M->Prop}{s:M}
set_option maxRecDepth 100000 in
end
section
variable{X:Cx}
end
end L2
namespace L2
open PySem PySem.Spec PyProof.Rows
theorem aB.ints:∀{c:List Int}{b:List Value},aB (c.map V.int) b->xK b c
 |[],b,a=>by
  rw[im] at a;cases a;exact IntsAre.nil
 |d::c,b,a=>by
  rw[bE] at a;cases a with
  |cons e f=>
   obtain⟨g,rfl⟩:=e;exact IntsAre.cons d g (aB.ints f)
theorem aB.V4{b:B}{c:List Value}(a:aB [V.ref b] c):c=[bN b]:=by
 cases a with
 |cons a d=>
  cases d;cases a;rfl
section
variable{prog:Program}{w:World}{a:a_}{c:Value->M->Prop}{s:M}{l:B}{b:List Value}{ns:List Int}{Q:Value->M->Prop}
theorem F6(m:a.handled=none)(hl:s.heap.IsList l b.toArray)(f:xK b ns)
  (n:∀d tk e,(∀g i,s.heap.get? g=some i->d.get? g=some i)->Q (.int ns.sum e) {s with heap:=d,toks:=tk}):wpAny (ar prog w) a (call (.builtin "sum") [.ref l]) Q c s:=by
 obtain⟨o,j⟩:=f.allInts.items;have k:numsOf (intItems o).toList=ns:=by rw[<-j];exact f.numsOf
 rw[F7] at k;rw[j] at hl;refine PySem.sum_intListG m hl λd tk e p=>?_;have:=n d tk e p;rw[preSum_eq,fD (by simp),k];exact this
theorem F8(o:a.handled=none)(hl:s.heap.IsList l b.toArray)(i:xK b ns)(p:0<ns.length)
  (q:∀d tk f r,(∀j k,s.heap.get? j=some k->d.get? j=some k)->f∈ns->(∀g,g∈ns->g<=f)->Q (.int f r) {s with heap:=d,toks:=tk}):wpAny (ar prog w) a (call (.builtin "max") [.ref l]) Q c s:=by
 obtain⟨e,m⟩:=i.allInts.items;have n:numsOf (intItems e).toList=ns:=by rw[<-m];exact i.numsOf
 rw[F7] at n;subst n;rw[m] at hl;have t:0<e.size:=by simpa using p
 refine PySem.max_intList o hl t λE d tk u v=>?_;obtain⟨x,rfl⟩:=intItems_at u;obtain⟨D,y⟩:=argBest_gt (numAt e) (e.size-1);refine q d tk _ x v ?_ λg z=>?_
 .rw[numAt_eq];exact PySem.getD_mem (by rw[ag,sd];omega)
 .obtain⟨A,C,rfl⟩:=mem_getD z
  rw[ag,sd] at C;rw[<-numAt_eq];exact y A (by omega)
end
section
variable{X:Cx}
inductive F9(K:aj)(d:List V)(a:G)(e:VK):Prop
 |mk(b:B)(c:List Int)(f:d=[V.ref b])(g:I K a b (c.map V.int))(i:e (.int c.sum) a)
def xL(K:aj):List V->G->VK->Prop:=λa b c=>F9 K a b c
inductive F_(K:aj)(f:List V)(c:G)(g:VK):Prop
 |mk(d:B)(a:List Int)(i:f=[V.ref d])(j:I K c d (a.map V.int))(k:0<a.length)(l:∀b,b∈a->(∀e,e∈a->e<=b)->g (.int b) c)
def Ga(K:aj):List V->G->VK->Prop:=λa b c=>F_ K a b c
theorem sP(b:X.calm=true):ho X (.builtin "sum") (xL X.K):=by
 intro k l m c n o p a d e;obtain⟨q,r,rfl,f,g⟩:=e;obtain⟨s,i,hl,_⟩:=a.list f;rw[aB.V4 d];exact F6 (a.ok.hd b) hl.isList i.ints λt tk u j=>#[.int _,c,a.kept j,#[_,rfl],g]
theorem xM(b:X.calm=true):ho X (.builtin "max") (Ga X.K):=by
 intro n o p c q r s a d e;obtain⟨t,u,rfl,f,g,i⟩:=e;obtain⟨v,j,hl,_⟩:=a.list f;rw[aB.V4 d];exact F8 (a.ok.hd b) hl.isList j.ints g λw tk k x l D m=>#[.int _,c,a.kept l,#[_,rfl],i k D m]
end
section
variable{X:Cx}
end
section
variable{X:Cx}
end
section
variable{X:Cx}
end
mutual
inductive Dp(K:aj)(H:G):V->km->Prop
 |non:Dp K H .non .none
 |bl (b:Bool):Dp K H (.bl b) (.bool b)
 |int (i:Int):Dp K H (.int i) (.int i)
 |str (x:Str):Dp K H (.str x) (.str x)
 |lst {a:B} {xs:List V} {ds:List km}:I K H a xs->kn K H xs ds->Dp K H (.ref a) (.list ds)
 |tup {a:B} {xs:List V} {ds:List km}:a8 K H a xs->kn K H xs ds->Dp K H (.ref a) (.tuple ds)
inductive kn(K:aj)(H:G):List V->List km->Prop
 |nil:kn K H [] []
 |cons {v:V} {vs:List V} {d:km} {ds:List km}:Dp K H v d->kn K H vs ds->kn K H (v::vs) (d::ds)
end
section
variable{X:Cx}{pins:List (B×ak)}{a:St}{H:G}{s:M}
mutual
theorem Dp.reads(e:O X pins a H s):∀(t:km)(u:V)(v:Value),Dp X.K H u t->aN u v-> ∃f,Reads s.heap v t f
 | .none,_,_,c,d=>by
  cases c;cases d;exact#[_,Reads.none]
 | .bool b,_,_,c,d=>by
  cases c;cases d;exact#[_,Reads.bool b]
 | .int i,_,_,c,d=>by
  cases c;obtain⟨g,rfl⟩:=d;exact#[_,Reads.int i g]
 | .str x,_,_,c,d=>by
  cases c;obtain⟨g,rfl⟩:=d;exact#[_,Reads.str x g]
 | .list j,_,_,c,d=>by
  cases c with
  |lst k l=>
   cases d;obtain⟨m,n,⟨w,y,o,p,_,q⟩,_⟩:=e.list k;obtain⟨f,r⟩:=Dp.readsAll e j _ m l n;exact#[_,Reads.list o p q r]
 | .tuple j,_,_,c,d=>by
  cases c with
  |tup k l=>
   cases d;obtain⟨m,n,⟨w,o,p,y,q⟩,_⟩:=e.tuple k;obtain⟨f,r⟩:=Dp.readsAll e j _ m l n;exact#[_,Reads.tuple o p q r]
 | .dict _,_,_,c,_=>by cases c
theorem Dp.readsAll(e:O X pins a H s):∀(b:List km)(f:List V)(g:List Value),kn X.K H f b->aB f g-> ∃i,ReadsAll s.heap g b i
 |[],_,_,c,d=>by
  cases c;cases d;exact#[_,Qu]
 |j::b,_,_,c,d=>by
  cases c with
  |cons D k=>
   cases d with
   |cons l m=>
    obtain⟨i,n⟩:=Dp.reads e j _ _ D l;obtain⟨p,o⟩:=Dp.readsAll e b _ _ k m;exact#[_,Qv n o]
end
end
section
variable{X:Cx}
inductive Gb(K:aj)(d:V)(e:V)(a:G)(f:VK):Prop
 |mk (b c)(g:Dp K a d b)(i:Dp K a e c)(j:nO b=true)(k:nO c=true)(l:f (.bl (jf b c)) a)
def Gc(K:aj):R2:=λa b c d=>Gb K a b c d
inductive Gd(K:aj)(d:V)(e:V)(a:G)(f:VK):Prop
 |mk (b c)(g:Dp K a d b)(i:Dp K a e c)(j:nO b=true)(k:nO c=true)(l:f (.bl (!jf b c)) a)
def Ge(K:aj):R2:=λa b c d=>Gd K a b c d
theorem xN(b:X.A.units+64<gm):cD X (e8 .Eq) (Gc X.K):=by
 intro u v w c d e f g x a i j k;obtain⟨l,m,n,o,p,q,r⟩:=k;obtain⟨y,s⟩:=Dp.reads a l d f n i;obtain⟨z,t⟩:=Dp.reads a m e g o j;exact SeqAt.compareEq_shaped s t p q b #[.bl _,c,a,rfl,r]
theorem Gf(b:X.A.units+64<gm):cD X (e8 .NotEq) (Ge X.K):=by
 intro u v w c d e f g x a i j k;obtain⟨l,m,n,o,p,q,r⟩:=k;obtain⟨y,s⟩:=Dp.reads a l d f n i;obtain⟨z,t⟩:=Dp.reads a m e g o j;exact SeqAt.compareNe_shaped s t p q b #[.bl _,c,a,rfl,r]
end
end L2
namespace L2
open PySem PySem.Spec PyProof.Rows
abbrev xO(a:Heap)(b:B)(c:Option Value):Prop:=a.IsCell b c
def Gg(b c:cz):cz:=
 {b with names:=b.names.map λ(a,d)=>if(d== .free&&c.kind== .function&&c.names.lookup a==some .cell) then(a,.cell) else(a,d)}
def dV(b:List (Str×B)):List (Str×fc)->List (Str×B)->List (Str×B)
 |[],a=>a
 |(c,e)::d,a=>if e== .free then dV b d ((c,(b.lookup c).getD 0)::a) else dV b d a
theorem xP(c:bp)(i:Str×fc->List (Str×B)->dM (ForInStep (List (Str×B))))
  (k:∀b e a,i (b,e) a=if e== .free then(do let o<-cellOf c b;pure (.yield ((b,o)::a))) else pure (.yield a)):
  ∀(j:List (Str×fc))(d:List (Str×B)),(∀g∈j,g.2=.free-> ∃a,c.cells.lookup g.1=some a)->forIn j d i=pure (dV c.cells j d)
 |[],d,_=>by rw[sQ];rfl
 |(b,e)::p,d,l=>by
  rw[xQ,k];have m:=λd=>xP c i k p d λg q=>l g (bj _ q);unfold dV;by_cases f:(e==nP)=true
  .rw[if_pos f,if_pos f]
   obtain⟨a,n⟩:=l (b,e) a4 (by simpa using f);have r:cellOf c b=pure a:=by unfold cellOf;rw[n]
   rw[r];have s:(c.cells.lookup b).getD 0=a:=by rw[n];rfl
   rw[s];exact m _
  .rw[if_neg f,if_neg f]
   exact m _
theorem Gh{a:cz}{b:bp}(e:∀c∈a.names,c.2=.free-> ∃d,b.cells.lookup c.1=some d):closureFor a b=pure (dV b.cells a.names []):=by
 simp only[closureFor];rw[xP b _ (λf g d=>rfl) a.names [] e];rfl
theorem sR{c:Type}:∀{d:List (Str×c)}{a:Str}{e:c},(a,e)∈d-> ∃f,d.lookup a=some f
 |(g,k)::r,a,e,b=>by
  rw[lI];cases i:a==g with
  |true=>exact#[_,rfl]
  |false=>
   rcases bw.mp b with j|b
   .cases j;simp at i
   .exact sR b
theorem pF{g:List (Str×B)}:∀{i:List (Str×fc)}{d:List (Str×B)}{b:Str}{c:B},(b,c)∈dV g i d->(b,c)∈d\/((b,.free)∈i/\c=(g.lookup b).getD 0)
 |[],_,_,_,a=>.inl a
 |(l,j)::r,d,b,c,a=>by
  unfold dV at a;split at a
  .rename_i e
   have e:j=.free:=by simpa using e
   rcases pF a with a|⟨D,f⟩
   .rcases bw.mp a with k|a
    .cases k;exact .inr #[e▸a4,rfl]
    .exact .inl a
   .exact .inr #[bj _ D,f]
  .rcases pF a with a|⟨D,f⟩
   .exact .inl a
   .exact .inr #[bj _ D,f]
theorem sS{d:List (Str×B)}:∀{e:List (Str×fc)}{b:List (Str×B)}{c:Str×B},c∈b->c∈dV d e b
 |[],_,_,a=>a
 |(f,g)::r,b,c,a=>by
  unfold dV;split
  .exact sS (bj _ a)
  .exact sS a
theorem sT{cells:List (Str×B)}:∀{c:List (Str×fc)}{acc:List (Str×B)}{a:Str},(a,.free)∈c->(a,(cells.lookup a).getD 0)∈dV cells c acc
 |(e,f)::r,acc,a,b=>by
  unfold dV;rcases bw.mp b with d|b
  .cases d
   exact sS a4
  .split
   .exact sT b
   .exact sT b
theorem nQ:∀{g:List (Str×fc)}{b:Heap}{i:List (Str×B)}{e:Str}{d:B},(e,d)∈d5 b.objs.size g i->
  (e,d)∈i\/((e,.cell)∈g/\b.objs.size<=d/\xO (ko b g) d none)
 |[],_,_,_,_,b=>.inl b
 |(n,k)::l,b,i,e,d,a=>by
  unfold d5 at a;unfold ko;split at a
  .rename_i c
   rw[if_pos c];have c:k=.cell:=by simpa using c
   rw[<-eV b {cls:=.type "cell",data:=.cell none}] at a;rcases nQ a with a|⟨D,f,j⟩
   .rcases bw.mp a with m|a
    .cases m
     exact .inr #[c▸a4,av _,_,sU l _ _ _ (dA _ rfl),rfl]
    .exact .inl a
   .rw[eV] at f
    exact .inr #[bj _ D,sV f,j]
  .rename_i c
   rw[if_neg c];rcases nQ a with a|⟨D,f,j⟩
   .exact .inl a
   .exact .inr #[bj _ D,f,j]
theorem pG:∀{names:List (Str×fc)}{n:Nat}{b:List (Str×B)}{c:Str×B},c∈b->c∈d5 n names b
 |[],_,_,_,a=>a
 |(d,e)::r,n,b,c,a=>by
  unfold d5;split
  .exact pG (bj _ a)
  .exact pG a
theorem sW:∀{c:List (Str×fc)}{n:Nat}{acc:List (Str×B)}{b:Str},(b,.cell)∈c-> ∃d,(b,d)∈d5 n c acc
 |(f,g)::r,n,acc,b,a=>by
  unfold d5;rcases bw.mp a with e|a
  .cases e
   exact#[n,pG a4]
  .split
   .exact sW a
   .exact sW a
theorem sX:∀{m:List (Str×fc)}{h:Heap}{e:List (Str×B)}{b c:Str}{d:B},(∀j∈e,j.2<h.objs.size)->(∀b c d,(b,d)∈e->(c,d)∈e->b=c)->
  (b,d)∈d5 h.objs.size m e->(c,d)∈d5 h.objs.size m e->b=c
 |[],_,_,_,_,_,_,f,D,a=>f _ _ _ D a
 |(p,q)::r,h,e,b,c,d,hl,f,D,a=>by
  unfold d5 at D a;split at D
  .rename_i k
   rw[if_pos k] at a;rw[<-eV h {cls:=.type "cell",data:=.cell none}] at D a;refine sX (h:=h.push _) (λj l=>?_) (λb c d g i=>?_) D a
   .rw[eV]
    rcases bw.mp l with rfl|l
    .exact w0 _
    .exact xR (hl j l)
   .rcases bw.mp g with n|g<;>rcases bw.mp i with o|i
    .cases n;cases o;rfl
    .cases n;exact absurd (hl _ i) (gi _)
    .cases o;exact absurd (hl _ g) (gi _)
    .exact f _ _ _ g i
  .rename_i k
   rw[if_neg k] at a;exact sX hl f D a
theorem Gi{k:h7}{l:a_}{m:Value->M->Prop}{a:M}{b:cz}{d:B}{c:List (Str×B)}{e:Str}{f:Option B}{code:Value}{g:bp}{i:B}{j:bp->M->Prop}
  (n:j (newEnv b a.heap.objs.size d (d5 (a.heap.objs.size+1) b.names c) e f code (some g) i)
   {a with heap:=ko (a.heap.push {cls:=.type "dict",data:=.dict #v[]}) b.names}):
  wpAny k l (Gj b d c [] e f code (some g) i) j m a:=by
 simp only[Gj,Gk,if_true];refine ap (wpAny_alloc ?_);refine ap (wpAny_layCells _ (λo p q=>rfl) b.names c _ _ ?_);rw[show({a with heap:=a.heap.push {cls:=.type "dict",data:=.dict #v[]}}:M).heap.objs.size=a.heap.objs.size+1 from eV ..];rw[sQ];exact ap (bO (bO n))
theorem sY{c:cz}:∀{l:List (Str×fc)}{f:Str}{d:fc},
  (l.map λ(b,d)=>if(d==nP&&c.kind== .function&&c.names.lookup b==some .cell) then(b,xS) else(b,d)).lookup f=some d->
  ∃j,l.lookup f=some j/\(d=j\/(j=.free/\d=.cell))
 |[],_,_,k=>by simp at k
 |(b,i)::m,f,d,k=>by
  have n:=@sY c m f d;have a:ht f ((if(i==nP&&c.kind== .function&&c.names.lookup b==some .cell)=true then(b,xS) else(b,i))::(m.map _))=some d:=k;cases g:f==b with
  |true=>
   simp only[lI,g];by_cases e:(i==nP&&c.kind== .function&&c.names.lookup b==some .cell)=true
   .rw[if_pos e] at a
    simp only[lI,g] at a;cases a;simp only[bJ,beq_iff_eq] at e;exact#[i,rfl,.inr #[e.1.1,rfl]]
   .rw[if_neg e] at a
    simp only[lI,g] at a;cases a;exact#[_,rfl,.inl rfl]
  |false=>
   simp only[lI,g];by_cases e:(i==nP&&c.kind== .function&&c.names.lookup b==some .cell)=true
   .rw[if_pos e] at a
    simp only[lI,g] at a;exact n a
   .rw[if_neg e] at a
    simp only[lI,g] at a;exact n a
structure nR(c:List Str)(d b:cz)(own:List (Str×Nat)):Prop where
 kind:b.kind=.function
 VT:∀a∈b.names,b.names.lookup a.1=some a.2
 ix:∀e∈own,c[e.2]? =some e.1
 free:∀a∈b.names,a.2=.free->d.names.lookup a.1=some .cell\/d.names.lookup a.1=some .free
 own:∀a∈b.names,a.2=.local\/a.2=.cell->a.1∈own.map (·.1)\/a.1∉c
def aY(a:St):List Nat->St
 |[]=>a
 |b::c=>(aY a c).set b none
theorem sZ(a:St):∀b:List Nat,(aY a b).length=a.length
 |[]=>rfl
 |c::b=>by unfold aY;rw[ij,sZ a b]
theorem s0{d:St}{b:Nat}{f:V}:∀{c:List Nat},(aY d c)[b]? =some (some f)->d[b]? =some (some f)/\b∉c
 |[],a=>#[a,by simp]
 |g::c,a=>by
  unfold aY at a;by_cases e:g=b
  .subst e
   by_cases i:g<(aY d c).length
   .rw[nk i] at a;cases a
   .rw[eu (by simpa using i)] at a;cases a
  .rw[o7 e] at a
   obtain⟨D,j⟩:=s0 a;exact#[D,by simp only[bw,not_or];exact#[λk=>e k.symm,j]]
abbrev Cx.T_(a:Cx)(b:M)(c:G)(d:cz)(e:bp)(f:List B):Cx:={a with Sl:=b,U7:=c,env:=e,outer:=a.stack,ex:=f,fn:=λg=>d.names.lookup g==some .cell,pn:=[],xe:=λ_ _=>False}
section
variable{X:Cx}{pins:List (B×ak)}{a:St}{H:G}{s:M}
theorem Gm{f:cz}{own:List (Str×Nat)}{R:List B}(g:O X pins a H s)(ok:nR X.N X.env.scope f own)(Z:X.N.Nodup)(A:∀j∈R,gk X pins H j/\j<s.heap.objs.size):
  O (X.T_ s H f (gp f (d5 (s.heap.objs.size+1) f.names (dV X.env.cells f.names [])) s.heap.objs.size X.env) R) [] (aY a (own.map (·.2))) H {s with heap:=ko (s.heap.push {cls:=.type "dict",data:=.dict #v[]}) f.names}:=by
 have aa:∀y∈f.names,y.2=.free-> ∃c,X.env.cells.lookup y.1=some c:=λy o b=>by
  rcases ok.free y o b with i|i
  .exact g.ok.has _ (.inl i)
  .exact g.ok.has _ (.inr i)
 generalize G:gp f (d5 (s.heap.objs.size+1) f.names (dV X.env.cells f.names [])) s.heap.objs.size X.env=e;have J:∀j C,s.heap.get? j=some C->(ko (s.heap.push {cls:=.type "dict",data:=.dict #v[]}) f.names).get? j=some C:=λj C b=>sU _ _ _ _ (bn _ b);have K:e.locals=s.heap.objs.size:=by rw[<-G];rfl
 have x:e.cells=d5 (s.heap.objs.size+1) f.names (dV X.env.cells f.names []):=by rw[<-G];rfl
 have S:e.scope=Gg f X.env.scope:=by rw[<-G];rfl
 rw[<-eV s.heap {cls:=.type "dict",data:=.dict #v[]}] at x;have cm:∀{y c},(y,c)∈dV X.env.cells f.names []->X.env.cells.lookup y=some c/\c<s.heap.objs.size:=λ{y c}k=>by
  rcases pF k with k|⟨D,rfl⟩
  .cases k
  .obtain⟨c,V⟩:=aa _ D rfl
   rw[V];obtain⟨w,d⟩:=g.cell _ _ V;exact#[rfl,d.lt]
 have T:∀{y c},e.cells.lookup y=some c->(X.env.cells.lookup y=some c/\c<s.heap.objs.size)\/(s.heap.objs.size+1<=c/\xO (ko (s.heap.push {cls:=.type "dict",data:=.dict #v[]}) f.names) c none):=λ{y c}b=>by
  rw[x] at b;rcases nQ (fB b) with k|⟨_,p,ab⟩
  .exact .inl (cm k)
  .rw[eV] at p;exact .inr #[p,ab]
 have W:∀{y},f.names.lookup y=some .free-> ∃c,e.cells.lookup y=some c/\X.env.cells.lookup y=some c:=λ{y}hl=>by
  have o:(y,nP)∈f.names:=fB hl;obtain⟨L,l⟩:=sR (pG (names:=f.names) (n:=(s.heap.push {cls:=.type "dict",data:=.dict #v[]}).objs.size) (sT (cells:=X.env.cells) (acc:=[]) o));rw[<-x] at l;refine#[L,l,?_];rw[x] at l;rcases nQ (fB l) with k|⟨D,_,_⟩
  .exact(cm k).1
  .have:=ok.VT _ D
   rw[hl] at this;cases this
 have ad:(X.T_ s H f e R).Ok:=by
  refine#[g.ok.mod,by show e.scope.kind=_;rw[S];exact ok.kind,by show e.globals=_;rw[<-G];exact g.ok.glob,by show e.builtins=_;rw[<-G];exact g.ok.blt,by show s.heap.objs.size<=e.locals;rw[K];exact av _,
   λy d c q r=>?_,λy o=>?_,λy c d b=>?_,g.ok.hd,g.ok.frames,.inl rfl,λj t=>#[?_,λy c b d=>?_],g.bs,bB g.ok.U9 g.sz,λj C b t=>?_,λj t d=>?_,g.stack,g.TY]
  .have q:e.cells.lookup y=some c:=q
   have r:e.cells.lookup d=some c:=r;rw[x] at q r;refine sX (λu E=>?_) (λy d c ae j=>g.ok.inj y d c (cm ae).1 (cm j).1) (fB q) (fB r);rw[eV];exact xR (cm (y:=u.1) (c:=u.2) E).2
  .show∃c,e.cells.lookup y=some c
   have F:∀i,e.kindOf y=some i->(i=.cell\/i=.free)-> ∃c,e.cells.lookup y=some c:=λi z U=>by
    unfold Env.kindOf at z;rw[S] at z;obtain⟨v,b,I⟩:=sY z;have:v=.cell\/v=.free:=by
     rcases I with rfl|⟨rfl,_⟩
     .exact U
     .exact .inr rfl
    rcases this with rfl|rfl
    .obtain⟨c,k⟩:=sW (n:=(s.heap.push {cls:=.type "dict",data:=.dict #v[]}).objs.size) (acc:=dV X.env.cells f.names []) (fB b)
     obtain⟨L,l⟩:=sR k;exact#[L,by rw[x];exact l]
    .obtain⟨c,D,_⟩:=W b
     exact#[c,D]
   rcases o with o|o
   .exact F _ o (.inl rfl)
   .exact F _ o (.inr rfl)
  .have d:(f.names.lookup y==some xS)=true:=d
   have d:f.names.lookup y=some .cell:=by simpa using d
   have b:e.cells.lookup y=some c:=b;rw[x] at b;rcases nQ (fB b) with k|⟨_,p,_⟩
   .rcases pF k with k|⟨D,_⟩
    .cases k
    .have P:=ok.VT _ D
     rw[d] at P;cases P
   .rw[eV] at p
    exact sV p
  .show j≠e.locals
   rw[K];exact cZ (A j t).2
  .have b:e.cells.lookup y=some c:=b
   rcases T b with⟨D,_⟩|⟨D,_⟩
   .exact(A j t).1.2.2.2.2.1 y c D d
   .have p:s.heap.objs.size+1<=j:=by rw[<-d];exact D
    exact absurd (cP (A j t).2 (sV p)) (gi _)
  .rcases(A j t).1.2.2.2.1 with d|d
   .exact g.ok.Ur j C b d
   .exact absurd (cP (bc b) (bB g.ok.U9 d)) (gi _)
  .rcases bw.mp (g.UM j d) with d|d
   .exact(A j t).1.2.1 d
   .exact(A j t).1.2.2.1 d
 refine#[ad,rfl,g.bare,Un.kept J,#[λ_=>none,?_,λaf y ah q r m=>?_],λy c b=>?_,?_,λy c b=>?_,λu E=>?_,g.Ra.kept J,by rw[sZ];exact g.len]
 .show Heap.Ns _ e.locals _
  rw[K];exact Heap.Ns.keeps (Heap.Ns.new ..) λj C b=>sU _ _ _ _ b
 .obtain⟨r,ai⟩:=s0 r
  have Q:f.names.lookup y=some .free/\(e.kindOf y=some .cell\/e.kindOf y=some .free):=by
   have F:∀i,e.scope.names.lookup y=some i->i=.local\/i=.cell\/i=.free->f.names.lookup y=some .free/\(e.kindOf y=some .cell\/e.kindOf y=some .free):=λi z U=>by
    have Y:=z;rw[S] at z;obtain⟨v,b,I⟩:=sY z;have no:¬(v=.local\/v=.cell):=λal=>by
     rcases ok.own _ (fB b) al with l|l
     .obtain⟨u,E,am⟩:=bK.mp l
      have m:=ok.ix u E;have:u.1=y:=am;rw[this] at m;exact ai (bK.mpr #[u,E,r8 Z m q])
     .exact l (a7 q)
    rcases I with rfl|⟨rfl,rfl⟩
    .rcases U with rfl|rfl|rfl
     .exact absurd (.inl rfl) no
     .exact absurd (.inr rfl) no
     .exact#[b,.inr Y]
    .exact#[b,.inl Y]
   have m:jY e.scope y:=m;rcases m with m|m|m
   .exact F _ m (.inl rfl)
   .exact F _ m (.inr (.inl rfl))
   .exact F _ m (.inr (.inr rfl))
  obtain⟨as,au,hl⟩:=g.loc;have ao:jY X.env.scope y:=(ok.free _ (fB Q.1) rfl).elim (λi=>.inr (.inl i)) (λi=>.inr (.inr i));obtain⟨w,I,P⟩:=hl af y ah q r ao;refine#[w,I,.inr #[Q.2,?_]];obtain⟨c,D,p⟩:=W Q.1;rcases P with⟨i,_⟩|⟨_,L,l,d⟩
  .have i:X.env.scope.names.lookup y=some .local:=i
   rcases ok.free _ (fB Q.1) rfl with v|v<;>rw[show X.env.scope.names.lookup y=_ from v] at i<;>cases i
  .rw[p] at l;cases l
   exact#[c,D,d.keeps J]
 .have b:e.cells.lookup y=some c:=b
  rcases T b with⟨D,_⟩|⟨_,d⟩
  .obtain⟨w,d⟩:=g.cell y c D
   exact#[w,d.keeps J]
  .exact#[_,d]
 .show H e.locals=none
  rw[K];exact g.Ra.fresh (av _)
 .have b:e.cells.lookup y=some c:=b
  rcases T b with⟨D,_⟩|⟨D,_⟩
  .exact g.RN y c D
  .exact g.Ra.fresh (sV D)
 .exact absurd (show u∈([]:List (B×ak))++[] from E) (by simp)
theorem Gn{m:Value->M->Prop}{b:B}{c:List V}{e:V}{d:Value}{f:Value->M->Prop}(g:O X pins a H s)(i:H b=some (.lst c))(n:c.length<aq)(o:aN e d)
  (p:∀j,O X pins a (upd H b (.lst (c++[e]))) j->f .none j):wpAny (ar X.prog X.w) X.A (call (.builtin "list.append") [.ref b,d]) f m s:=by
 obtain⟨C,q,r,k,t⟩:=g.Ra b _ i;have hl:=k.length;refine append_at (hsz:=by rw[cE];omega) t λu v l=>?_;refine p {s with heap:=u} (g.write (t':=s.toks) (by rw[i];trivial) (.inl rfl) (λx D y z=>(v.2 x y).trans z) #[_,l] #[by rw[bq];exact n,q++[d],r+1,k.append (.cons o .nil),?_]);rw[l];simp
def nS(X:Cx)(e:List Expr)(f:TT):Prop:=
 ∀(pins:List (B×ak))(s:M)(a:St)(H:G)(b:Bool->G->Prop),O X pins a H s->f a H b->
  wpAny (ar X.prog X.w) X.A (forIn e true λc d=>if d=true then do let ok<-isTrue c X.env (aA c X.env);pure (s1 ok) else pure (s1 d)) (TP X pins a b) X.xe s
def xT:TT:=λ_ H a=>a true H
theorem c2:nS X [] xT:=λ_ _ _ H _ a b=>wpAny_tests_nil #[H,a,b]
theorem Go{b:Expr}{c:TT}(d:PT X b c):nS X [b] c:=λpins s a H e f g=>wpAny_tests_one (d pins s a H e f g)
end
theorem lJ{b:Type}{c:dM b}{d e:b->M->Prop}{f:h7}{g:a_}{j:Value->M->Prop}{a:M}(k:wpAny f g c d (λ_ _=>False) a)(l:∀i a,d i a->e i a):wpAny f g c e j a:=dN k l λ_ _ m=>dz m
theorem Gp{b:Program}{w:World}{a:a_}{g:pm->M->Prop}{i:M}{q o x:Expr}{r:List Expr}{y:cz}{z:aU}{p s:Value}{c:bp}(l:Nat->M->Prop)
  (a5:∀j i,l j i->wpAny (ar b w) a (pc p) (λk t=>match k with
   |none=>g (.ok .next) t
   |some u=>wpAny (ar b w) a (sj o p u) (λ_ A=>wpAny (ar b w) a (ll o c u) (λ_ C=>
     wpAny (ar b w) a (forIn r true λD k=>if k=true then do let ok<-isTrue D c (aA D c);pure (s1 ok) else pure (s1 k)) (λok v=>
      if ok=true then wpAny (ar b w) a (aA q c) (λm E=>
       wpAny (ar b w) a (call (.builtin "list.append") [s,m]) (λ_ F=>∃n,n<j/\l n F) (lK (ar b w) a c λd e=>g (.error d) e) E) (lK (ar b w) a c λd e=>g (.error d) e) v
      else∃n,n<j/\l n v) (lK (ar b w) a c λd e=>g (.error d) e) C) (lK (ar b w) a c λd e=>g (.error d) e) A) (lK (ar b w) a c λd e=>g (.error d) e) t) (lK (ar b w) a c λd e=>g (.error d) e) i)
  (j:Nat)(I:l j i):
  codeAny (ar b w) a (.compLoop (.ListComp q [#[o,x,r,0]] y z) 0 p s c) g i:=by
 refine codeAny_loop rfl l (λj i J=>?_) j I;show wpAny _ a ((compTurn (.ListComp q [#[o,x,r,0]] y z) 0 p s c).onRaise (λm=>do lL m c;theTreesLotGoes m)) _ _ i;refine wpAny_noted ?_;rw[compTurn_list];refine ap (j6 (ap (dN (a5 j i J) (λk t G=>?_) λ_ _ f=>f)));cases k with
 |none=>exact bO G
 |some u=>
  refine ap (dN G (λ_ A K=>?_) λ_ _ f=>f);refine ap (dN K (λ_ C L=>ap (dN L (λok v H=>?_) λ_ _ f=>f)) λ_ _ f=>f);cases ok with
  |false=>exact bO #[rfl,H]
  |true=>
   exact ap (ap (dN H (λm E N=>ap (dN N (λ_ F O=>bO (bO #[rfl,O])) λ_ _ f=>f)) λ_ _ f=>f))
section
variable{X:Cx}
inductive fg(b:B)(d:V)(c:G)(e:G->Prop):Prop
 |mk (a)(f:c b=some (.lst a))(g:a.length<aq)(i:e (upd c b (.lst (a++[d]))))
def pH(q:TI)(r:TG)(s:TT)(t:TE)(f:List Nat):TE:=λg a u=>q g a λi m=>∀d,m d=none-> ∃j:Nat->Nat->G->Prop,(∃e,j 0 e (upd m d (.lst [])))/\ ∀b e a,j b e a->
 (i.stop b a/\u (.ref d) a)\/(i.go b a/\ ∃k:G->Prop,(∀c,k c-> ∃n,n<e/\j (b+1) n c)/\ ∀o c,i.Ve b a o c->r o (aY g f) c λl v=>aY l f=aY g f/\s l v λw p=>
  if w=true then t l p λx y=>L2.fg d x y (k) else k p)
theorem xU{u:List (B×ak)}{n:M}{o:St}{p:G}{aD:VK}{K J C:Expr}{L:List Expr}{b:cz}{own:List (Str×Nat)}{ab bm:aU}{aF:TI}{aG:TG}{aH:TT}{aI:TE}{use:Option (Value->dM Unit)}{Qf:Value->M->Prop}
  (aJ:X.calm=true)(bs:X.N.Nodup)(ad:O X u o p n)(bt:PI X J C aF)(ok:nR X.N X.env.scope b own)
  (bx:∀(n:M)(p:G)(q:B)(cl:List (Str×B))(d:List B),PG (X.T_ n p b (gp b cl q X.env) d) J aG)(bz:∀(n:M)(p:G)(q:B)(cl:List (Str×B))(d:List B),nS (X.T_ n p b (gp b cl q X.env) d) L aH)
  (bA:∀(n:M)(p:G)(q:B)(cl:List (Str×B))(d:List B),PE (X.T_ n p b (gp b cl q X.env) d) K aI)(bC:∀v,sq C X.env v=pure v)
  (bD:pH aF aG aH aI (own.map (·.2)) o p aD)
  (bF:∀i q j x g,O X u o g j->aD (.ref i) g->j.heap.Ns q x->gk X u g q->xV (ar X.prog X.w) X.A X.xe use Qf (.ref i) q (.ok .next) j):
  wpAny (ar X.prog X.w) X.A (Gq (.ListComp K [#[J,C,L,0]] b ab) b X.env bm (newList []) false (aA C X.env) use) Qf X.xe n:=by
 have bG:∀D∈b.names,D.2=.free-> ∃ae,X.env.cells.lookup D.1=some ae:=λD af f=>by
  rcases ok.free D af f with ah|ah
  .exact ad.ok.has _ (.inl ah)
  .exact ad.ok.has _ (.inr ah)
 refine wpAny_comprehension_free (use:=use) rfl bC (Gh bG) ok.kind (λD af f=>by rw[ok.VT D af,f])
  (au (bt u n o p _ ad bD) λcD cG bI=>au bI λcH E bL=>?_)
 obtain⟨aK,d,P,cJ,t,f,aL,r,aM,aN,bM⟩:=bL;subst f;refine Gr (Gi ?_) (by show 0<=aq;decide);generalize Q:E.heap.objs.size=i;have bP:t i=none:=aL.Ra.fresh (sC Q);obtain⟨aO,⟨m0,aT⟩,a5⟩:=bM i bP;generalize aV:({E with heap:=E.heap.push {cls:=.type "list",data:=.seq ([]:List Value).toArray}}:M)=c;have R:O X u o (upd t i (.lst [])) c:=by
  rw[<-aV];refine aL.laid (t':=E.toks) (λa k f=>bn _ f) (sC Q) #[aR _,[],0,.nil,?_];rw[<-Q];exact dA _ rfl
 have aW:c.heap=E.heap.push {cls:=.type "list",data:=.seq ([]:List Value).toArray}:=by rw[<-aV]
 have bR:∀a∈d,a<E.heap.objs.size:=λa e=>by
  obtain⟨k,f,_⟩:=r.obj _ _ aM a e;exact bc f
 have y:∀a∈d,gk X u (upd t i (.lst [])) a/\a<c.heap.objs.size:=λa e=>by
  have aZ:=bR a e;refine#[#[?_,(aN a e).2],by rw[aW,eV];exact xR aZ];rw[aa (by rw[<-Q];exact cZ aZ)];exact(aN a e).1
 have bS:P 0 c.heap:=r.keep _ _ _ aM λa _ k f=>by rw[aW];exact bn _ f
 have S:=Gm R ok bs y;have ai:=bx c (upd t i (.lst [])) c.heap.objs.size (d5 (c.heap.objs.size+1) b.names (dV X.env.cells b.names [])) d;have al:=bz c (upd t i (.lst [])) c.heap.objs.size (d5 (c.heap.objs.size+1) b.names (dV X.env.cells b.names [])) d;have am:=bA c (upd t i (.lst [])) c.heap.objs.size (d5 (c.heap.objs.size+1) b.names (dV X.env.cells b.names [])) d;show codeAny _ _ (.compStart (.ListComp K [#[J,C,L,0]] b ab) 0 (.ref aK) (.ref i) (gp b (d5 (c.heap.objs.size+1) b.names (dV X.env.cells b.names [])) c.heap.objs.size X.env)) (xV (ar X.prog X.w) X.A X.xe use Qf (.ref i) c.heap.objs.size) {c with heap:=ko (c.heap.push {cls:=.type "dict",data:=.dict #v[]}) b.names};have a0:∀a∈d,(upd t i (.lst [])) a=none:=λa e=>(y a e).1.1;generalize bT:gp b (d5 (c.heap.objs.size+1) b.names (dV X.env.cells b.names [])) c.heap.objs.size X.env=l at S ai al am⊢;have a1:l.locals=c.heap.objs.size:=by subst bT;rfl
 generalize cK:upd t i (.lst [])=s at R S ai al am aT a0 y;generalize bU:({c with heap:=ko (c.heap.push {cls:=.type "dict",data:=.dict #v[]}) b.names}:M)=a3 at S⊢;have a8:P 0 a3.heap:=r.keep _ _ _ bS λa _ k f=>by rw[<-bU];exact sU _ _ _ _ (bn _ f)
 have ao:∀{a9:St}{g:G}{j:M},O (X.T_ c s b l d) [] a9 g j->(∀a∈d,g a=none)-> ∀a∈d,gk (X.T_ c s b l d) [] g a:=λ{a9 g j}I' F a e=>
  #[F a e,(I'.ok.VW a e).1,I'.ok.Uw a e,.inl e,λv ae f=>(I'.ok.VW a e).2 v ae f,λbW bY=>absurd (show bW∈([]:List (B×ak))++[] from bY) (by simp)]
 have loop:codeAny (ar X.prog X.w) X.A (.compLoop (.ListComp K [#[J,C,L,0]] b ab) 0 (.ref aK) (.ref i) l) (xV (ar X.prog X.w) X.A X.xe use Qf (.ref i) c.heap.objs.size) a3:=by
  refine Gp (λT j=>∃m g,O (X.T_ c s b l d) [] (aY o (own.map (·.2))) g j/\P m j.heap/\(∀a∈d,g a=none)/\aO m T g) ?_ m0 #[0,s,S,a8,a0,aT];rintro T ba ⟨m,z,U,bb,bd,bZ⟩;rcases a5 m T z bZ with⟨stop,b0⟩|⟨go,b1,b2,step⟩
  .have b3:=r.done (X.T_ c s b l d) rfl rfl rfl aJ m [] ba _ z (λ_ _=>False) U (ao U bd) bb stop
   refine lJ b3 λb4 V ⟨as,H⟩=>?_;subst as;have W:O X u o z V:=R.VD (ch:=d) H.os H.base H.Ra H.bare λa e=>#[(y a e).1.2.2.2.1,(y a e).1.2.1,(y a e).1.2.2.2.2.1,(y a e).1.2.2.2.2.2];have b6:z c.heap.objs.size=none:=by
    have I:z l.locals=none:=H.free;rw[a1] at I;exact I
   obtain⟨x,F,_⟩:=H.loc;have F:V.heap.Ns l.locals x:=F;rw[a1] at F;exact bF i c.heap.objs.size V x z W b0 F (R.Uv (av _) b6)
  .have ti:=r.item (X.T_ c s b l d) rfl rfl rfl aJ m [] ba _ z (λ_ _=>False) U (ao U bd) bb go
   refine lJ ti λb4 V ⟨b7,as,b9⟩=>?_;subst as;refine lJ b9 λ_ aw ⟨v,be,W,b_,ca,ax,cc⟩=>?_;have cd:=W.pinned (ao W cc) (r.obj _ _ ax);refine lJ (ai _ aw _ be v b7 _ cd b_ (step v be ca)) λ_ ce ⟨Y,cf,cg,bf,ci⟩=>?_;refine lJ (al _ ce Y cf _ cg ci) λa cj ⟨cm,bi,Z⟩=>?_;have bk:∀{j:M}{g:G},O (X.T_ c s b l d) ([]++nD d aw.heap) Y g j->b1 g-> ∃x,x<T/\ ∃m g,O (X.T_ c s b l d) [] (aY o (own.map (·.2))) g j/\P m j.heap/\(∀a∈d,g a=none)/\aO m x g:=λ{j g}I' aB=>by
    obtain⟨co,cp,cq⟩:=b2 g aB;have bl:∀a∈d,∀k,aw.heap.get? a=some k->j.heap.get? a=some k/\g a=none:=λa e k f=>
     let I:=I'.pin (a,k) (ja _ (ja _ (so e f)))
     #[I.1,I.2.1]
    have hl:(aY o (own.map (·.2))).length=Y.length:=by rw[<-bf,sZ]
    refine#[co,cp,m+1,g,(I'.S0 (pins:=[])).weak hl (λcM cN f=>?_),r.keep _ _ _ ax λa e k f=>(bl a e k f).1,λa e=>?_,cq]
    .rw[<-bf] at f
     exact(s0 f).1
    .obtain⟨k,f,_⟩:=r.obj _ _ ax a e
     exact(bl a e k f).2
   cases a with
   |false=>
    simp only[Bool.false_eq_true,if_false] at Z⊢;exact bk bi Z
   |true=>
    simp only[if_true] at Z⊢;refine lJ (am _ cj Y cm _ bi Z) λI cO ⟨cR,cS,cr,cs,cT,ct,cu,aB⟩=>?_;exact Gn (X:=X.T_ c s b l d) cr ct cu cs λcU cA=>bk cA aB
 exact codeAny_compStart_list loop (r.self X.A 0 _ _ _ a8 loop)
theorem gW{i f g:Expr}{j:List Expr}{a:cz}{own:List (Str×Nat)}{p:aU}{k:TI}{l:TG}{m:TT}{n:TE}(q:X.calm=true)(r:X.N.Nodup)(s:PI X f g k)(ok:nR X.N X.env.scope a own)
  (t:∀(b:M)(c:G)(d:B)(cl:List (Str×B))(e:List B),PG (X.T_ b c a (gp a cl d X.env) e) f l)(u:∀(b:M)(c:G)(d:B)(cl:List (Str×B))(e:List B),nS (X.T_ b c a (gp a cl d X.env) e) j m)
  (v:∀(b:M)(c:G)(d:B)(cl:List (Str×B))(e:List B),PE (X.T_ b c a (gp a cl d X.env) e) i n)(w:∀o,sq g X.env o=pure o:=by intro _;rfl):
  PE X (.ListComp i [#[f,g,j,0]] a p) (pH k l m n (own.map (·.2))):=by
 intro U b V c W x y;rw[eval_ListComp];refine xU q r x s ok t u v w y λz d A C D E F H I=>#[C,H,λY J=>?_];obtain⟨K,L,Z,O,P,Q⟩:=I;exact#[.ref z,D,E.turned (t':=A.toks) (λR aa S T=>(J.2 R S).trans T) K L O P Q,rfl,F]
theorem fh{i:Nat}{b:Str}{l:aU}{m g c:Expr}{j:List Expr}{a:cz}{own:List (Str×Nat)}{n y:aU}{p:TI}{q:TG}{r:TT}{s:TE}(K:X.calm=true)(z:X.N.Nodup)(L:X.N[i]? =some b)(C:X.env.scope.names.lookup b=some .local)
  (O:i6 (.ListComp m [#[g,c,j,0]] a n) (some (.Name b l)) y.line X.env=pure true)(P:PI X g c p)(ok:nR X.N X.env.scope a own)
  (Q:∀(d:M)(e:G)(f:B)(cl:List (Str×B))(k:List B),PG (X.T_ d e a (gp a cl f X.env) k) g q)(R:∀(d:M)(e:G)(f:B)(cl:List (Str×B))(k:List B),nS (X.T_ d e a (gp a cl f X.env) k) j r)
  (S:∀(d:M)(e:G)(f:B)(cl:List (Str×B))(k:List B),PE (X.T_ d e a (gp a cl f X.env) k) m s)(T:∀o,sq c X.env o=pure o:=by intro _;rfl):
  PS X (.Assign [.Name b l] (.ListComp m [#[g,c,j,0]] a n) y) (i7 (pH p q r s (own.map (·.2))) (gQ i)):=by
 intro U d D e E W t;rw[exec_Assign_Name_used _ _ _ _ O];refine ap (j6 (ap ?_));show wpAny _ X.A (do let _<-Gq (.ListComp m [#[g,c,j,0]] a n) a X.env (firstIterPos [#[g,c,j,0]] n) (newList []) false (aA c X.env) (some (ll (.Name b l) X.env))) _ _ d;have t:pH p q r s (own.map (·.2)) D e (λo Y=>gQ i o D Y E.nx):=t;refine ap (au (xU (Qf:=λ_ u=>SP X U E .next u) K z W P ok Q R S T t λF f u Z aa ab ad ae af=>?_) λ_ u hq=>bO (bO hq));show wpAny _ _ (ll (.Name b l) X.env (.ref F)) _ _ _;refine DI (wp (v:=V.ref F) ab z L (.inl C) rfl (λah ai ⟨H,al,am⟩=>?_) (.inr C));obtain⟨ao,I,aG,as,J,aw⟩:=af;have ax:f≠H:=by
  rcases am with w|w
  .rw[w];exact I
  .exact λx=>J b H w x.symm
 refine#[Z,ae.sameBut al ax,λaH aB=>?_];exact#[_,aa,ai.turned (t':=ah.toks) (λaD aI aF x=>(aB.2 aD aF).trans x) ao I as J aw,ad]
theorem fi{g:Expr}{i:List Comprehension}{c:cz}{d e:aU}{b:Str}{j:Nat}{a:bp}(k:a.scope.kind=.function)(l:a.scope.names.lookup b=some .local)(hl:(e.line==d.line)=true)
  (m:(c.names.any λ(n,f)=>n==b&&(f== .local||f== .cell))=false):i6 (.ListComp g i c d) (some (.Name b e)) j a=pure true:=by
 have o:a.kindOf b=some .local:=l;have p:a.blockKind=.function:=by unfold Env.blockKind;rw[k];rfl
 unfold i6;simp only[p,o,m,Expr.pos,hl];rfl
end
theorem Gs{lo:Int}{c:Nat}{v:TG}{w:TT}{x:TE}{j:List Nat}{l:St}{y:G}{m:B}{z:G->Prop}(d:Nat->G->Prop)(h0:d 0 (upd y m (.lst [])))
  (D:∀a b,a<c->d a b->v (.int (lo+a)) (aY l j) b λe n=>aY e j=aY l j/\w e n λo k=>
   if o=true then x e k λf p=>L2.fg m f p (d (a+1)) else d (a+1) k)(E:∀b,d c b->z b):
  ∃q:Nat->Nat->G->Prop,(∃g,q 0 g (upd y m (.lst [])))/\ ∀a g b,q a g b->
   ((i9 lo c).stop a b/\z b)\/((i9 lo c).go a b/\ ∃r:G->Prop,(∀i,r i-> ∃A,A<g/\q (a+1) A i)/\ ∀s i,(i9 lo c).Ve a b s i->v s (aY l j) i λe n=>aY e j=aY l j/\w e n λo k=>
    if o=true then x e k λf p=>L2.fg m f p (r) else r k):=by
 refine#[λa g b=>g=c-a/\a<=c/\d a b,#[c,by simp,aR _,h0],?_];rintro a g b ⟨rfl,H,C⟩;by_cases t:a<c
 .refine .inr #[t,d (a+1),λi F=>#[c-(a+1),by omega,rfl,t,F],λs i f=>?_]
  obtain⟨u,f⟩:=f;subst u f;exact D a _ t C
 .have u:a=c:=by omega
  subst u;exact .inl #[av _,E b C]
theorem eW{K:aj}{a:B}{xs:List V}{w:TG}{x:TT}{y:TE}{k:List Nat}{m:St}{z:G}{n:B}{A:G->Prop}(d:Nat->G->Prop)(h0:d 0 (upd z n (.lst [])))(hl:∀b c,b<=xs.length->d b c->I K c a xs)
  (E:∀b e c,xs[b]? =some e->d b c->w e (aY m k) c λf o=>aY f k=aY m k/\x f o λp l=>
   if p=true then y f l λg q=>L2.fg n g q (d (b+1)) else d (b+1) l)(F:∀c,d xs.length c->A c):
  ∃r:Nat->Nat->G->Prop,(∃i,r 0 i (upd z n (.lst [])))/\ ∀b i c,r b i c->
   ((h9 K a).stop b c/\A c)\/((h9 K a).go b c/\ ∃s:G->Prop,(∀j,s j-> ∃C,C<i/\r (b+1) C j)/\ ∀e j,(h9 K a).Ve b c e j->w e (aY m k) j λf o=>aY f k=aY m k/\x f o λp l=>
    if p=true then y f l λg q=>L2.fg n g q (s) else s l):=by
 refine#[λb i c=>i=xs.length-b/\b<=xs.length/\d b c,#[xs.length,by simp,aR _,h0],?_];rintro b i c ⟨rfl,H,t⟩;have u:=hl b c H t;by_cases D:b<xs.length
 .refine .inr #[#[xs,xs[b],u,by simp[D]],d (b+1),λj J=>#[xs.length-(b+1),by omega,rfl,D,J],λe j g=>?_]
  obtain⟨v,g⟩:=g;subst v;exact E b e _ (g xs u) t
 .have v:b=xs.length:=by omega
  subst v;exact .inl #[#[xs,u,av _],F c t]
theorem Gu{K:aj}{a:B}{xs:List V}{w:TG}{x:TT}{y:TE}{k:List Nat}{m:St}{z:G}{n:B}{A:G->Prop}(d:Nat->G->Prop)(h0:d 0 (upd z n (.lst [])))(hl:∀b c,b<=xs.length->d b c->a8 K c a xs)
  (E:∀b e c,xs[b]? =some e->d b c->w e (aY m k) c λf o=>aY f k=aY m k/\x f o λp l=>
   if p=true then y f l λg q=>L2.fg n g q (d (b+1)) else d (b+1) l)(F:∀c,d xs.length c->A c):
  ∃r:Nat->Nat->G->Prop,(∃i,r 0 i (upd z n (.lst [])))/\ ∀b i c,r b i c->
   ((ls K a).stop b c/\A c)\/((ls K a).go b c/\ ∃s:G->Prop,(∀j,s j-> ∃C,C<i/\r (b+1) C j)/\ ∀e j,(ls K a).Ve b c e j->w e (aY m k) j λf o=>aY f k=aY m k/\x f o λp l=>
    if p=true then y f l λg q=>L2.fg n g q (s) else s l):=by
 refine#[λb i c=>i=xs.length-b/\b<=xs.length/\d b c,#[xs.length,by simp,aR _,h0],?_];rintro b i c ⟨rfl,H,t⟩;have u:=hl b c H t;by_cases D:b<xs.length
 .refine .inr #[#[xs,xs[b],u,by simp[D]],d (b+1),λj I=>#[xs.length-(b+1),by omega,rfl,D,I],λe j g=>?_]
  obtain⟨v,g⟩:=g;subst v;exact E b e _ (g xs u) t
 .have v:b=xs.length:=by omega
  subst v;exact .inl #[#[xs,u,av _],F c t]
def xW(c:List Str)(e b:cz)(own:List (Str×Nat)):Bool:=
 (match b.kind with| .function=>true|_=>false)&&(b.names.all λa=>decide (b.names.lookup a.1=some a.2))&&(own.all λd=>decide (c[d.2]? =some d.1))&&
  (b.names.all λa=>match a.2 with
   | .free=>(match e.names.lookup a.1 with|some .cell=>true|some .free=>true|_=>false)
   | .local=>decide (a.1∈own.map (·.1))||decide (a.1∉c)
   | .cell=>decide (a.1∈own.map (·.1))||decide (a.1∉c)
   |_=>true)
theorem cS{N:List Str}{sc f:cz}{own:List (Str×Nat)}(c:xW N sc f own=true):nR N sc f own:=by
 unfold xW at c;simp only[bJ,io,decide_eq_true_eq] at c;obtain⟨⟨⟨D,i⟩,j⟩,g⟩:=c;refine#[?_,i,j,λd e a=>?_,λd e a=>?_]
 .split at D
  .assumption
  .cases D
 .have b:=g d e
  simp only[a] at b;split at b<;>first|exact .inl (by assumption)|exact .inr (by assumption)|cases b
 .have b:=g d e
  rcases a with a|a<;>(simp only[a,lM,decide_eq_true_eq] at b;exact b)
end L2
namespace L2
open PySem PySem.Spec PyProof.Rows
section
variable{prog:Program}{w:World}{a:a_}{R:pm->M->Prop}{s:M}{b c d e f:Expr}{g h:List Expr}{i:cz}{j:aU}{k acc:Value}{l:bp}
end
section
variable{X:Cx}
end
end L2
namespace L2
open PySem PySem.Spec PyProof.Rows
section
variable{a:Type} [DecidableEq a]
def dC(b:List (a×V))(c:a):Option V:=(b.find? λd=>decide (d.1=c)).map (·.2)
def ev(c:List (a×V))(d:a)(e:V):List (a×V):=
 if(c.any λb=>decide (b.1=d))=true then c.map (λb=>if b.1=d then(b.1,e) else b) else c++[(d,e)]
theorem nT{b:a×V}{d:List (a×V)}{c:a}(e:b.1=c):dC (b::d) c=some b.2:=by simp[dC,hx,e]
theorem nU{c:a×V}{d:List (a×V)}{b:a}(e:¬c.1=b):dC (c::d) b=dC d b:=by simp[dC,hx,e]
theorem pI(b:a):∀d:List (a×V),(d.any λe=>decide (e.1=b))=(dC d b).isSome
 |[]=>rfl
 |f::g=>by
  rw[lD];by_cases c:f.1=b
  .simp only[nT c,decide_eq_true c,Gv,Gk]
  .rw[nU c,decide_eq_false c,xX];exact pI b g
theorem xY(b:List (a×V))(c:a)(d:V):(ev b c d).length<=b.length+1:=by
 unfold ev;split
 .rw[ag];omega
 .rw[bq,bV,xZ];omega
theorem x0{b:List (a×V)}{c:a}(d:V)(e:dC b c=none):ev b c d=b++[(c,d)]:=by
 unfold ev;rw[pI,e];exact if_neg (by decide)
theorem eo.R_{b:Option V}{a:Option Value}(c:eo b a):b.isSome=a.isSome:=by
 cases b with
 |none=>cases a with
  |none=>rfl
  |some _=>exact(show False from c).elim
 |some _=>cases a with
  |none=>exact(show False from c).elim
  |some _=>rfl
theorem KV.val{i:List (a×V)}{j:List (a×Value)}(k:KV i j)(b:a):eo (dC i b) (lN j b):=by
 unfold KV at k
 induction k with
 |nil=>exact kc
 |@cons l c q e m r n=>
  obtain⟨D,o⟩:=m;by_cases d:l.1=b
  .have f:c.1=b:=D.symm.trans d
   have g:lN (c::e) b=some c.2:=by simp[lN,hx,f]
   rw[nT d,g];exact o
  .have f:¬c.1=b:=λp=>d (D.trans p)
   have g:lN (c::e) b=lN e b:=by simp[lN,hx,f]
   rw[nU d,g];exact n
theorem KV.any{c:List (a×V)}{d:List (a×Value)}(e:KV c d)(f:a):(c.any λb=>decide (b.1=f))=d.any λb=>decide (b.1=f):=by
 unfold KV at e
 induction e with
 |nil=>rfl
 |cons g j i=>rw[lD,lD,i,g.1]
theorem KV.VQ{e:List (a×V)}{f:List (a×Value)}(g:KV e f)(d:a){i:V}{j:Value}(k:aN i j):
  KV (e.map λb=>if b.1=d then(b.1,i) else b) (f.map λb=>if b.1=d then(b.1,j) else b):=by
 unfold KV at g⊢
 induction g with
 |nil=>exact .nil
 |@cons l q r s m t n=>
  rw[bE,bE];refine .cons ?_ n;obtain⟨D,o⟩:=m;by_cases c:l.1=d
  .rw[if_pos c,if_pos (D.symm.trans c)];exact#[D,k]
  .rw[if_neg c,if_neg (λp=>c (D.trans p))];exact#[D,o]
theorem KV.put{f:List (a×V)}{d:List (a×Value)}(e:KV f d)(b:a){g:V}{i:Value}(j:aN g i):KV (ev f b g) (stored d b i):=by
 unfold ev stored;rw[e.any b];by_cases c:(d.any λk=>decide (k.1=b))=true
 .rw[if_pos c,if_pos c];exact e.VQ b j
 .rw[if_neg c,if_neg c];exact Gw e #[rfl,j]
theorem KV.length{b:List (a×V)}{c:List (a×Value)}(d:KV b c):b.length=c.length:=r7 d
end
theorem lO{c:Program}{w:World}{d:aV}{b:Value}(f:aN (kV d) b):(e5 c w).is d b=true:=by
 cases d with
 |inl g=>obtain⟨a,e⟩:=(show∃a,b=na g a from f);subst e;exact wk c w g a
 |inr i=>obtain⟨a,e⟩:=(show∃a,b=r5 i a from f);subst e;exact C6 c w i a
theorem x1{d:Program}{w:World}:∀{b:List aV}{c:List Value},aB (b.map kV) c->ItemsAre (e5 d w) b c
 |[],_,a=>by rw[im] at a;cases a;exact .nil
 |g::b,_,a=>by
  rw[bE] at a;cases a with
  |cons e f=>exact .cons (lO e) (x1 f)
abbrev KT(c:G):List (List aV×V)->List (List aV×B×Value)->Prop:=h4 λa b=>a.1=b.1/\c b.2.1=some (.tup (a.1.map kV))/\aN a.2 b.2.2
theorem KT.val{j:G}{g:List (List aV×V)}{i:List (List aV×B×Value)}(k:KT j g i)(a:List aV):eo (dC g a) ((jg i a).map (·.2)):=by
 induction k with
 |nil=>exact kc
 |@cons l b q d m r n=>
  obtain⟨D,_,o⟩:=m;by_cases c:l.1=a
  .have e:b.1=a:=D.symm.trans c
   have f:jg (b::d) a=some b.2:=by simp[jg,hx,e]
   rw[nT c,f];exact o
  .have e:¬b.1=a:=λp=>c (D.trans p)
   have f:jg (b::d) a=jg d a:=by simp[jg,hx,e]
   rw[nU c,f];exact n
theorem KT.VQ{d:G}{e:List (List aV×V)}{f:List (List aV×B×Value)}(k:KT d e f)(b:List aV){g:V}{i:Value}(l:aN g i):
  KT d (e.map λc=>if c.1=b then(c.1,g) else c) (f.map (putAt b i)):=by
 induction k with
 |nil=>exact .nil
 |@cons m r s t n u o=>
  rw[bE,bE];refine .cons ?_ o;obtain⟨D,j,p⟩:=n;unfold putAt;by_cases a:m.1=b
  .rw[if_pos a,if_pos (D.symm.trans a)];exact#[D,j,l]
  .rw[if_neg a,if_neg (λq=>a (D.trans q))];exact#[D,j,p]
theorem KT.put{d:G}{e:List (List aV×V)}{b:List (List aV×B×Value)}(f:KT d e b)(a:List aV){g:B}{i:V}{j:Value}(l:d g=some (.tup (a.map kV)))(k:aN i j):
  KT d (ev e a i) (storedH b a g j):=by
 have m:(e.any λn=>decide (n.1=a))=(jg b a).isSome:=by
  rw[pI,(f.val a).R_,x2]
 unfold ev storedH;rw[m];by_cases c:(jg b a).isSome=true
 .rw[if_pos c,if_pos c];exact f.VQ a k
 .rw[if_neg c,if_neg c];exact Gw f #[rfl,l,k]
theorem KT.keeps{b c:G}{d:List (List aV×V)}{e:List (List aV×B×Value)}(i:KT b d e)(j:∀f g,b f=some (.tup g)->c f=some (.tup g)):KT c d e:=
 h4.mapP i λ_ _ a=>#[a.1,j _ _ a.2.1,a.2.2]
section
variable{P:Program}{w:World}{H:G}{h:Heap}{a:B}
theorem x3{b:HO}(ok:bG P w H h)(c:Rd H a b):bU P w H h a b:=c.ok ok
theorem nV{b:List (aV×V)}(ok:bG P w H h)(d:Rd H a (.dK b)):b.length<=aq/\(a==hj)=false/\ ∃c,KV b c/\h.DictOf (e5 P w) a c:=
 show bU P w H h a (.dK b) from x3 ok d
theorem Gx{b:List (aV×V)}(ok:bG P w H h)(d:H a=some (.dK b)):b.length<=aq/\(a==hj)=false/\ ∃c,KV b c/\h.DictOf (e5 P w) a c:=nV ok (.inl d)
theorem nW{b:List aV}(ok:bG P w H h)(c:H a=some (.tup (b.map kV))):(o4 (e5 P w)).is h b a:=by
 obtain⟨_,d,e,f,D,g,i,j⟩:=(show bU P w H h a (.tup (b.map kV)) from ok a _ c);exact#[f,d.toArray,i,D,g,j,by simpa using x1 e]
theorem nX{d:List (List aV×V)}(ok:bG P w H h)(f:Rd H a (.dT d)):d.length<=aq/\(a==hj)=false/\
  ∃e,KT H d e/\h.DictOfH (o4 (e5 P w)) a e:=by
 obtain⟨l,m,e,i,n,o,p,D,q,r,s,t⟩:=(show bU P w H h a (.dT d) from x3 ok f);refine#[l,m,e,i,n,o,p,D,q,r,s,λb c=>?_,t];have u:∀{j:List (List aV×V)}{g:List (List aV×B×Value)},KT H j g-> ∀b∈g,(o4 (e5 P w)).is h b.1 b.2.1:=by
  intro j g k
  induction k with
  |nil=>intro b c;exact nomatch c
  |@cons x k y z hq A v=>
   intro b c;rcases bw.mp c with f|c
   .subst f
    exact nW ok (by rw[<-hq.1];exact hq.2.1)
   .exact v b c
 exact u i b c
theorem Gy{b:List (List aV×V)}(ok:bG P w H h)(d:H a=some (.dT b)):b.length<=aq/\(a==hj)=false/\
  ∃c,KT H b c/\h.DictOfH (o4 (e5 P w)) a c:=nX ok (.inl d)
end
def ew(b:G)(c:B)(d:V)(e:Option V):Prop:=
 (∃a k,Rd b c (.dK a)/\d=kV k/\e=dC a k)\/ ∃a k f,Rd b c (.dT a)/\d=.ref f/\b f=some (.tup (k.map kV))/\e=dC a k
def hy(b:G)(c:B)(d e:V)(f:G):Prop:=
 (∃a k,b c=some (.dK a)/\d=kV k/\a.length<aq/\f=upd b c (.dK (ev a k e)))\/
 ∃a k g,b c=some (.dT a)/\d=.ref g/\b g=some (.tup (k.map kV))/\a.length<aq/\f=upd b c (.dT (ev a k e))
theorem ew.k{b:G}{c:B}{a:List (aV×V)}{k:aV}(d:b c=some (.dK a)):ew b c (kV k) (dC a k):=.inl #[a,k,.inl d,rfl,rfl]
theorem ew.t{a:G}{e b:B}{c:List (List aV×V)}{d:List aV}(f:a e=some (.dT c))(g:a b=some (.tup (d.map kV))):ew a e (.ref b) (dC c d):=.inr #[c,d,b,.inl f,rfl,g,rfl]
theorem hy.k{b:G}{c:B}{a:List (aV×V)}{k:aV}{d:V}(e:b c=some (.dK a))(hl:a.length<aq):hy b c (kV k) d (upd b c (.dK (ev a k d))):=.inl #[a,k,e,rfl,hl,rfl]
theorem hy.t{a:G}{c d:B}{b:List (List aV×V)}{e:List aV}{f:V}(g:a c=some (.dT b))(i:a d=some (.tup (e.map kV)))(hl:b.length<aq):
  hy a c (.ref d) f (upd a c (.dT (ev b e f))):=.inr #[b,e,d,g,rfl,i,hl,rfl]
section
variable{X:Cx}{pins:List (B×ak)}{b:St}{H:G}{s:M}{a:B}{y v:V}{u r:Value}{o:Option V}{c:a_}{d:Value->M->Prop}
theorem O.Wm(a:O X pins b H s):hj<s.heap.objs.size:=by
 have c:en<s.heap.objs.size:=(a.mod.glob.keeps a.bk).lt;exact Gz (by decide) c
theorem GA{p:Value->M->Prop}(x:c.units+1<gm)(f:O X pins b H s)(z:ew H a y (some v))(q:aN y u)(r:∀e t,O X pins b H t->aN v e->p e t):
  wpAny (ar X.prog X.w) c (lp (.ref a) u) p d s:=by
 rcases z with⟨A,g,i,j,k⟩|⟨A,g,C,i,j,D,k⟩
 .subst j
  obtain⟨E,F,G,l,dd⟩:=nV f.Ra i;obtain⟨e,m,n⟩:=eo.some_of (v:=v) (o:=lN G g) (by rw[k];exact l.val g);exact GB (lO q) dd.mapOf m (r e _ (f.tok _) n)
 .subst j
  cases(show u=bN C from q);obtain⟨E,F,I,l,dd⟩:=nX f.Ra i;obtain⟨e,m,n⟩:=eo.some_of (v:=v) (o:=(jg I g).map (·.2)) (by rw[k];exact l.val g);obtain⟨L,J,K⟩:=wh.mp m;refine wpAny_getItem_heap (s2 x) (nW f.Ra D) dd J ?_;rw[K];exact r e _ (f.tok _) n
theorem GC{m:Value->M->Prop}(t:c.units+1<gm)(e:O X pins b H s)(v:ew H a y o)(n:aN y u)(p:∀q,O X pins b H q->m (.bool o.isSome) q):
  wpAny (ar X.prog X.w) c (e8 .In u (.ref a)) m d s:=by
 rcases v with⟨x,f,g,i,j⟩|⟨x,f,z,g,i,A,j⟩
 .subst i
  obtain⟨C,k,D,l,dd⟩:=nV e.Ra g;refine wpAny_in_of (lO n) k dd.mapOf ?_;rw[<-(l.val f).R_,<-j];exact p _ (e.tok _)
 .subst i
  cases(show u=bN z from n);obtain⟨C,k,E,l,dd⟩:=nX e.Ra g;refine wpAny_in_heap (s2 t) (nW e.Ra A) k dd ?_;have r:=(l.val f).R_;rw[x2] at r;rw[<-r,<-j];exact p _ (e.tok _)
theorem GD{m:Value->M->Prop}(t:c.units+1<gm)(e:O X pins b H s)(v:ew H a y o)(n:aN y u)(p:∀q,O X pins b H q->m (.bool (!o.isSome)) q):
  wpAny (ar X.prog X.w) c (e8 .NotIn u (.ref a)) m d s:=by
 rcases v with⟨x,f,g,i,j⟩|⟨x,f,z,g,i,A,j⟩
 .subst i
  obtain⟨C,k,D,l,dd⟩:=nV e.Ra g;refine wpAny_notIn_of (lO n) k dd.mapOf ?_;rw[<-(l.val f).R_,<-j];exact p _ (e.tok _)
 .subst i
  cases(show u=bN z from n);obtain⟨C,k,E,l,dd⟩:=nX e.Ra g;refine wpAny_notIn_heap (s2 t) (nW e.Ra A) k dd ?_;have r:=(l.val f).R_;rw[x2] at r;rw[<-r,<-j];exact p _ (e.tok _)
theorem x4{c:Heap}{g:Nat}{d:HO}(i:O X pins b H s)(j:i0 (H a))(k:nj a s.heap c)(l:∃f,c.get? a=some f)(m:bU X.prog X.w (upd H a d) c a d):
  O X pins b (upd H a d) {s with heap:=c,toks:=g}:=
 i.write (x:=a) (e:=a) j (.inl rfl) (λn f o p=>(k.2 n o).trans p) l m
theorem GF{d:Program}{w:World}{f:G}{e:Heap}{b:List (aV×V)}{c:List (aV×Value)}(g:b.length<=aq)(i:(a==hj)=false)(j:KV b c)(dd:e.DictOf (e5 d w) a c):
  bU d w f e a (.dK b):=#[g,i,c,j,dd]
theorem GG{x:G}{z:Unit->M->Prop}(K:c.units+1<gm)(i:O X pins b H s)(L:hy H a y v x)(A:aN y u)(C:aN v r)(D:∀E,O X pins b x E->z () E):
  wpAny (ar X.prog X.w) c (sg (.ref a) u r) z d s:=by
 rcases L with⟨j,e,f,n,N,o⟩|⟨j,e,P,f,n,F,N,o⟩
 .subst n o
  obtain⟨k,p,Q,l,dd⟩:=Gx i.Ra f;have q:Q.length<=aq:=by rw[<-l.length];exact k
  have hl:(ev j e v).length<=aq:=by have:=xY j e v;omega
  refine wpAny_setItem_pairs (hsz:=q) (lO A) dd λI m t=>D _ ?_;have R:∃g,I.get? a=some g:=let⟨g,_,_,hq,_⟩:=m;#[g,hq];exact x4 i (by rw[f];exact kc) t R (GF hl p (l.put e C) m)
 .subst n o
  cases(show u=bN P from A);obtain⟨k,p,S,l,dd⟩:=Gy i.Ra f;have q:S.length<=aq:=by rw[<-r7 l];exact k
  have hl:(ev j e v).length<=aq:=by have:=xY j e v;omega
  refine wpAny_setItem_heap (hsz:=q) (s2 K) (nW i.Ra F) dd λI m t=>D _ ?_;obtain⟨g,T,U,hq,V,W,Y,_,Z⟩:=m;refine x4 i (by rw[f];exact kc) t #[g,hq] #[hl,p,_,(l.put e F C).keeps λab ad J=>?_,g,T,U,hq,V,W,Y,Z];rw[aa (dL J f (λk=>nomatch k))];exact J
end
section
variable{X:Cx}{pins:List (B×ak)}{b:St}{H:G}{s:M}{a:B}{c:List (aV×V)}{k:aV}{u:Value}{d:a_}{e:Value->M->Prop}
end
def s3(c:Expr):Prop:=∀a b,sH c false a b=xt [a,b] (lp a b)
theorem x5{a:Program}{w:World}{b:a_}{c:Value->M->Prop}{p:M}{j:bp}{k f:Expr}{u:aU}{q id:String}{l:Value->M->Prop}
  (hl:ic (.type q) "__getitem__"=pure (some (.builtin id)))(v:s3 f)
  (x:wpAny (ar a w) b (aA k j) (λd r=>wpAny (ar a w) b (aA f j) (λg i=>i.TypeIs d q/\wpAny (ar a w) b (lp d g) l c i) c r) c p):
  wpAny (ar a w) b (aA (.Subscript k f u) j) l c p:=by
 refine xm (dN x (λd r y=>dN y (λg i m=>?_) λ_ _ e=>e) λ_ _ e=>e);obtain⟨s,m⟩:=m;unfold xn;refine ap ?_;rw[getitemInPython_of_ne s.not_modules];refine ap (wpAny_specialOf s hl ?_);have n:wpAny (ar a w) b (sH f false d g) (λo t=>wpAny (ar a w) b (letTemporaryGo k d o>>=λ_=>pure o) l c t) c i:=by
  rw[v d g];exact wpAny_operating (dN m (λo t z=>ap (wpAny_letTemporaryGo (bO z))) λ_ _ e=>e)
 first
  |exact bO (ap n)
  |exact ap (bO (ap n))
  |exact ap n
theorem GH{f:Cx}{g:List (B×ak)}{i:St}{b:G}{c:M}{d:B}{j:V}{k:Option V}(e:O f g i b c)(l:ew b d j k):c.TypeIs (.ref d) "dict":=by
 rcases l with⟨m,n,a,_,_⟩|⟨m,n,o,a,_,_,_⟩
 .obtain⟨_,_,p,_,dd⟩:=nV e.Ra a
  exact dd.typeIs
 .obtain⟨_,_,q,_,dd⟩:=nX e.Ra a
  exact dd.typeIs
inductive GI(d:VK)(e:V)(f:V)(a:G):Prop
 |mk (b c)(g:e=.ref b)(i:ew a b f (some c))(j:d c a)
def GJ(b ty:TE):TE:=λa c d=>b a c λe f=>ty a f λg i=>GI d e g i
inductive GK(d:VK)(e:V)(f:V)(a:G):Prop
 |mk (b c)(g:f=.ref b)(i:ew a b e c)(j:d (.bl c.isSome) a)
def GL(ty b:TE):TE:=λa c d=>ty a c λe f=>b a f λg i=>GK d e g i
inductive GN(d:VK)(e:V)(f:V)(a:G):Prop
 |mk (b c)(g:f=.ref b)(i:ew a b e c)(j:d (.bl (!c.isSome)) a)
def GO(ty b:TE):TE:=λa c d=>ty a c λe f=>b a f λg i=>GN d e g i
inductive GP(c:c5)(d:St)(e:V)(f:V)(g:V)(i:G):Prop
 |mk (a b)(j:f=.ref a)(k:hy i a g e b)(l:c.nx d b)
def GQ(b ty c:TE):TS:=λd a e=>c a e λf g=>b a g λi j=>ty a j λk l=>GP d a f i k l
section
variable{X:Cx}{o i e c:Expr}{d f h:aU}{a b g:TE}
theorem pJ(j:X.A.units+1<gm)(k:PE X o a)(l:PE X i b)(m:s3 i):PE X (.Subscript o i d) (GJ a b):=by
 intro c n e p I q r;refine x5 GR.lookup m (au (k c n e p _ q r) λs t ⟨J,u,v,w,x⟩=>au (l c t e u _ v x) λK L ⟨N,y,f,z,C,D,E,g,F⟩=>?_);subst E;obtain rfl:s=bN C:=w;exact#[GH f g,GA j f g z λO P G H=>#[D,y,G,H,F]]
theorem x6(e:X.A.units+1<gm)(f:PE X i b)(g:PE X o a):PC X .In i o (GL b a):=by
 intro c j d k F l m;refine au (f c j d k _ l m) λG n ⟨H,p,q,r,s⟩=>au (g c n d p _ q s) λt I ⟨J,u,v,w,x,y,z,C,D⟩=>?_;subst z;obtain rfl:t=bN x:=w;exact GC e v C r λK E=>#[.bl y.isSome,u,E,rfl,D]
theorem GS(e:X.A.units+1<gm)(f:PE X i b)(g:PE X o a):PC X .NotIn i o (GO b a):=by
 intro c j d k F l m;refine au (f c j d k _ l m) λG n ⟨H,p,q,r,s⟩=>au (g c n d p _ q s) λt I ⟨J,u,v,w,x,y,z,C,D⟩=>?_;subst z;obtain rfl:t=bN x:=w;exact GD e v C r λK E=>#[.bl (!y.isSome),u,E,rfl,D]
theorem pK(k:X.A.units+1<gm)(l:PE X o a)(m:PE X i b)(n:PE X c g)(p:i6 c (some (.Subscript o i f)) d.line X.env=pure false):
  PS X (.Assign [.Subscript o i f] c d) (GQ a b g):=by
 intro j q e r Q s t;refine wpAny_Assign_Subscript (au (n j q e r _ s t) λR u ⟨S,v,w,x,y⟩=>au (l j u e v _ w y) λz C ⟨T,D,E,F,G⟩=>au (m j C e D _ E G) λU V ⟨W,Y,H,I,J,K,L,N,O⟩=>?_) p;subst L;obtain rfl:z=bN J:=F;exact GG k H N I x λZ P=>#[e,K,P,O]
end
theorem GU{b:Program}{w:World}{c:G}(a:Heap)(d:hj<a.objs.size):bU b w c (a.push {cls:=.type "dict",data:=.dict #v[]}) a.objs.size (.dK []):=
 #[aR _,beq_eq_false_iff_ne.mpr (b8 (cZ d)),[],.nil,Qw a]
theorem GV{b:Program}{w:World}{c:G}(a:Heap)(d:hj<a.objs.size):bU b w c (a.push {cls:=.type "dict",data:=.dict #v[]}) a.objs.size (.dT []):=
 #[aR _,beq_eq_false_iff_ne.mpr (b8 (cZ d)),[],.nil,_,#v[],0,dA _ rfl,#[rfl,rfl,rfl],rfl,rfl,List.nodup_nil]
def GW:TE:=λ_ b c=>∀a,b a=none->c (.ref a) (upd b a (.dK []))
def GX:TE:=λ_ b c=>∀a,b a=none->c (.ref a) (upd b a (.dT []))
section
variable{X:Cx}{b:aU}
theorem s4:PE X (.Dict [] [] b) GW:=λg c i j k d e=>
 GY #[.ref c.heap.objs.size,_,d.laid (a:=c.heap.objs.size) (o:=.dK []) (t':=c.toks) (λ_ _ f=>bn _ f) (av _) (GU c.heap d.Wm),rfl,e _ (d.Ra.fresh (av _))]
theorem GZ:PE X (.Dict [] [] b) GX:=λg c i j k d e=>
 GY #[.ref c.heap.objs.size,_,d.laid (a:=c.heap.objs.size) (o:=.dT []) (t':=c.toks) (λ_ _ f=>bn _ f) (av _) (GV c.heap d.Wm),rfl,e _ (d.Ra.fresh (av _))]
end
section
variable{X:Cx}{pins:List (B×ak)}{b:St}{H:G}{s:M}{a:B}{y c:V}{u r:Value}{o:Option V}{d:a_}{e:Value->M->Prop}
end
section
variable{X:Cx}{o e f:Expr}{a b:aU}{c d g:TE}
end
section
variable{X:Cx}{pins:List (B×ak)}{b:St}{H:G}{s:M}{a:B}{c:List (aV×V)}{d:a_}{e:Value->M->Prop}
end
section
variable{X:Cx}{pins:List (B×ak)}{b:St}{H:G}{s:M}{a:B}{y:V}{u:Value}{c:a_}{d:Value->M->Prop}
end
end L2
namespace L2
open PySem PySem.Spec PyProof.Rows
section
variable{prog:Program}{w:World}{a:a_}{b:Value->M->Prop}
end
section
variable{X:Cx}
end
end L2
namespace L2
open PySem PySem.Spec PyProof.Rows
section
variable{X:Cx}{pins:List (B×ak)}{a:St}{H:G}{s:M}{h':Heap}
theorem O.UT{t':Nat}{ch:List B}(m:O X pins a H s)(j:∀b d,b∉ch->s.heap.get? b=some d->h'.get? b=some d)(i:∀b∈ch,gk X pins H b):O X pins a H {s with heap:=h',toks:=t'}:=by
 have n:∀b k,H b=some k->b∉ch:=λb k c e=>by
  have f:=(i b e).1;rw[f] at c;cases c
 refine m.step (g':=s.gens) (d':=s.drawn) (ch:=ch) (λb l=>#[(i b l).2.2.2.1,(i b l).2.1,(i b l).2.2.2.2.1,(i b l).2.2.2.2.2]) (λb d _ _ g c _=>j b d g c) (λb d _ _ g c _=>#[d.slots,j b d g c])
  (λ_ _ _ _ p=>p) (λb d g c=>#[d,j b d g c]) (λ_ _ c=>c) (λ_ _ _ c=>c) (λb x c=>#[#v[],by rw[c];simp]) (λy q=>?_) (λb k c=>?_) m.bare
 .obtain⟨d,r,t,u,v⟩:=q
  exact#[d,r,t,j _ d (λe=>(i _ e).2.1 rfl) u,v]
 .refine(m.Ra b k c).RX (λo w g f=>j o w ?_ f) (λ_ f=>f) λ_ _ f=>f
  rcases g with e|e
  .rw[e];exact n b k c
  .exact n o _ e
theorem O.S3{t':Nat}{ch:List B}{j:B}{q:HO}(o:O X pins a H s)(m:∀b d,b∉ch->s.heap.get? b=some d->h'.get? b=some d)(k:∀b∈ch,gk X pins H b)(r:s.heap.objs.size<=j)
  (u:bU X.prog X.w (upd H j q) h' j q):O X pins a (upd H j q) {s with heap:=h',toks:=t'}:=by
 have n:H j=none:=o.Ra.fresh r;have t:∀b l,H b=some l->b∉ch:=λb l c f=>by
  have e:=(k b f).1;rw[e] at c;cases c
 refine o.step (g':=s.gens) (d':=s.drawn) (ch:=ch) (λb g=>#[(k b g).2.2.2.1,(k b g).2.1,(k b g).2.2.2.2.1,(k b g).2.2.2.2.2]) (λb d _ _ i c _=>m b d i c) (λb d _ _ i c _=>#[d.slots,m b d i c])
  (λb d _ c v=>?_) (λb d i c=>#[d,m b d i c]) (λb x c=>?_) (λb d l c=>?_) (λb F c=>#[#v[],?_]) (λG y=>?_) (λb l c=>?_) o.bare
 .rw[aa (cZ (cP (bc c) r))];exact v
 .rw[aa (aK c n)];exact c
 .rw[aa (aK c n)];exact c
 .rw[aa (aK c n),c];simp
 .obtain⟨d,z,A,C,D⟩:=y
  exact#[d,z,A,m _ d (λf=>(k _ f).2.1 rfl) C,D]
 .by_cases g:b=j
  .subst g
   rw[Y] at c;cases c;exact u
  .rw[aa g] at c
   refine(o.Ra b l c).RX (λp E i e=>m p E ?_ e) (λp e=>by rw[aa (aK e n)];exact e) λp x e=>by rw[aa (aK e n)];exact e
   rcases i with f|f
   .rw[f];exact t b l c
   .exact t p _ f
theorem O.Wj{d:B}{g:HO}(o:O X pins a H s)(k:H d=some g)(l:i0 (some g)):∃f,O X pins a (upd H d (.R3 f g)) s:=by
 have i:=o.Ra d g k;have p:∃f,s.heap.get? d=some f:=by
  cases g with
  |lst q=>obtain⟨_,_,_,_,b⟩:=i;exact#[_,b]
  |dK r=>obtain⟨_,_,_,_,j,_,_,b,_⟩:=i;exact#[j,b]
  |dT r=>obtain⟨_,_,_,_,j,_,_,b,_⟩:=i;exact#[j,b]
  |set v y=>obtain⟨j,_,_,_,b,_⟩:=i;exact#[j,b]
  |ins z A C=>obtain⟨_,_,_,b,_⟩:=i;exact#[_,b]
  |ext D=>obtain⟨_,⟨_,b⟩,_⟩:=i;exact#[_,b]
  |_=>exact dz l
 obtain⟨f,b⟩:=p;have t:bU X.prog X.w (upd H d (.R3 f g)) s.heap d (.R3 f g):=by
  refine#[b,i.RX (λm u _ c=>c) (λm c=>?_) λm q c=>?_]
  .rw[aa (λn=>by rw[n,k] at c;cases c;exact l)];exact c
  .rw[aa (λn=>by rw[n,k] at c;cases c;exact l)];exact c
 exact#[f,o.write (x:=d) (e:=d) (t':=s.toks) (h':=s.heap) (by rw[k];exact l) (.inl rfl) (λm u _ c=>c) #[f,b] t]
theorem O.V6{b:B}{e:HO}(g:O X pins a H s)(i:H b=some e)(j:i0 (some e)):∀c d,X.U7 b≠some (.R3 c d):=λc d k=>by
 have f:=g.base.Sw b c d k;rw[i] at f;cases f;exact j
theorem O.VS{j:B}{v:ak}{t:HO}(e:O X pins a H s)(n:H j=some (.R3 v t))(w:∀o p,X.U7 j≠some (.R3 o p)):O X pins a (upd H j t) s:=by
 have k:∀d i,H d=some i->(∀o p,i≠ .R3 o p)->d≠j:=λd i b x f=>by
  rw[f,n] at b;cases b;exact x _ _ rfl
 have neN:∀d,H d=none->d≠j:=λd b f=>by rw[f,n] at b;cases b
 refine#[e.ok,e.os,e.bare,#[e.base.keep,e.base.slot,λd i b m u=>?_,e.base.there,λd q b=>?_,λd i l b=>?_,λd y b=>?_],e.loc,e.cell,?_,λl g b=>?_,λz A=>?_,λd i b=>?_,e.len]
 .rw[aa (neN d (e.base.free d i b m u))];exact e.base.free d i b m u
 .have c:=e.base.SN d q b
  rw[aa (k d _ c (λ_ _ f=>nomatch f))];exact c
 .have c:=e.base.Sw d i l b
  rw[aa (λf=>by rw[f] at b;exact w _ _ b)];exact c
 .obtain⟨C,c⟩:=e.base.SQ d y b
  exact#[C,by rw[aa (k d _ c (λ_ _ f=>nomatch f))];exact c]
 .rw[aa (neN _ e.free)];exact e.free
 .rw[aa (neN g (e.RN l g b))];exact e.RN l g b
 .obtain⟨b,m,D⟩:=e.pin z A
  exact#[b,by rw[aa (neN _ m)];exact m,D]
 .by_cases r:d=j
  .rw[r,Y] at b
   cases b;rw[r];obtain⟨_,l⟩:=e.Ra j _ n;exact l.RX (λg E _ c=>c) (λg c=>by rw[aa (k g _ c (λ_ _ f=>nomatch f))];exact c) λg q c=>by rw[aa (k g _ c (λ_ _ f=>nomatch f))];exact c
  .rw[aa r] at b
   exact(e.Ra d i b).RX (λg E _ c=>c) (λg c=>by rw[aa (k g _ c (λ_ _ f=>nomatch f))];exact c) λg q c=>by rw[aa (k g _ c (λ_ _ f=>nomatch f))];exact c
end
def G0(f:TE):TE:=λg c i=>∃b a,c b=some a/\i0 (some a)/\ ∀d,f g (upd c b (.R3 d a)) λj e=>e b=some (.R3 d a)/\i j (upd e b a)
section
variable{X:Cx}
theorem G1{b:Expr}{c:TE}(g:PE X b c):PE X b (G0 c):=by
 intro i j k s t d a;obtain⟨u,v,e,f,a⟩:=a;obtain⟨l,m⟩:=d.Wj e f;refine au (g i j k _ _ m (a l)) λw x ⟨n,y,o,p,q,r⟩=>?_;exact#[n,_,o.VS q (d.V6 e f),p,r]
theorem s5{g:Expr}{i:List (B×ak)}{j:St}{b:G}{a:M}{k:It->G->Prop}{c:It}{d:Nat->Heap->Prop}{tk:Nat}(e:O X i j b a)(l:ak)
  (n:hn X.prog X.w X.K g c [a.heap.objs.size] a.heap.objs.size d)(st:d 0 (a.heap.push l))(o:k c b):sk X i j g k (.ref a.heap.objs.size) {a with heap:=a.heap.push l,toks:=tk}:=by
 refine#[a.heap.objs.size,[a.heap.objs.size],d,c,b,rfl,e.kept λm q f=>bn _ f,n,st,λm p=>?_,o];have f:m=a.heap.objs.size:=by simpa using p
 subst f;exact e.Uv (av _) (e.Ra.fresh (av _))
end
def s6(lo c:Int)(b:Nat):It:=#[λa _=>a<b,λa d e f=>f=d/\e=.int (lo+(a:Nat)*c),λa _=>b<=a]
theorem G2{F:Program}{w:World}{K:aj}{G:Expr}(b:B)(lo e:Int)(n:Nat):hn F w K G (s6 lo e n) [b] b (λa f=>sl f b (lo+(a:Nat)*e) ((n:Int)-(a:Nat)) e) where
 mem:=by simp
 obj:=λa f st c d=>by
  have g:c=b:=by simpa using d
  subst g;exact#[_,st,λH I=>nomatch I]
 keep:=λa f j st J=>J b (by simp) _ st
 item:=by
  intro k m o hK p a A s C q D i l st r;subst m o hK;obtain⟨t,u,L,v,x,y⟩:=l b (by simp);have N:=DY (prog:=k.prog) (w:=k.w) (i.ok.hd p) b lo e n;refine N.item a s _ _ r st λH j tk P E kk=>?_;obtain⟨Q,rfl⟩:=P;have R:O k A C q {s with heap:=j,toks:=tk}:=i.turned (λc z d g=>kk c z (by simpa using d) g) t u v x y;exact#[_,rfl,nB (s:={s with heap:=j,toks:=tk}) (n:= "range_iterator") E rfl rfl (by decide) #[.int (lo+(a:Nat)*e),q,R,#[Q,rfl],#[rfl,rfl],E,λc d=>(l c d).1]]
 done:=by
  intro k m o hK p a A s C q D i l st r;subst m o hK;obtain⟨t,u,L,v,x,y⟩:=l b (by simp);exact DZ (i.ok.hd p) st (by have:n<=a:=r;omega) λj S=>#[rfl,i.turned (t':=s.toks) (λc z d g=>S c z d g) t u v x y]
 self:=λT a s U D st f=>D0 st f
def lP(i j a:Int)(b:Nat):Prop:=a≠0/\a.natAbs<1073741824/\Qx i j a=true/\wD i j a=b
theorem lP.neg{i j:Int}(a: -(2^62)<=i)(b:i<2^62)(c: -(2^62)<=j)(d:j<2^62):lP i j (-1) (i-j).toNat:=
 #[by decide,by decide,PySem.W.small_down a b c d,PySem.W.rangeSize_downNat i j]
inductive G3(e:It->G->Prop)(f:List V)(g:G):Prop
 |mk(a c b:Int)(d:Nat)(i:f=[.int a,.int c,.int b])(j:lP a c b d)(k:e (s6 a b d) g)
def G4(a:TA):TI:=λb c d=>a b c λe f=>G3 d e f
section
variable{X:Cx}{a:Expr}
theorem s7{g b e:Expr}{m:TA}{r j:aU}(s:Gl X "range")(t:X.mg "range"=none)(u:PA X [g,b,e] m)
  (v:az [g,b,e] X.env=(false,aA g X.env)::az [b,e] X.env:=by rfl)(w:(cB j (az [b,e] X.env)).any (·.1)=false:=by rfl):
  PI X a (.Call (.Name "range" r) [g,b,e] [] j) (G4 m):=by
 intro n x o y V p z;refine nC (i1 p s t wE (lu (au (u j n x o y _ p z) λW i ⟨Y,A,C,D,E⟩=>?_) v w));obtain⟨c,q,d,k,l,⟨F,G,H,I⟩,J⟩:=E;subst l;cases D with
 |cons K f=>
  cases f with
  |cons L f=>
   cases f with
   |cons N f=>
    cases f;obtain⟨P,rfl⟩:=K;obtain⟨Q,rfl⟩:=L;obtain⟨R,rfl⟩:=N;refine call_range_3 F ?_ (.inl (Ei G));refine D4 (D5 ..) H ?_;have S:O X n o A {i with heap:=i.heap.push {cls:=.type "range",data:=.fields #v[.int c P,.int q Q,.int d R]}}:=C.kept (t':=i.toks) λb Z l=>bn _ l;refine s5 (tk:=i.toks) S _ (G2 _ c d k) ?_ J;have T:c+((0:Nat):Int)*d=c:=by simp
    have U:(k:Int)-((0:Nat):Int)=wD c q d:=by rw[I];simp
    show sl _ _ (c+((0:Nat):Int)*d) ((k:Int)-((0:Nat):Int)) d;rw[T,U];exact dA _ rfl
end
theorem s8{lo k:Int}{d:Nat}{l:TG}{m:TS}{f:c5}{b:St}{c:G}(e:Nat->St->G->Prop)(h0:e 0 b c)
  (p:∀a b c,a<d->e a b c->l (.int (lo+(a:Nat)*k)) b c λq r=>m {f with nx:=e (a+1),ct:=e (a+1),bk:=f.nx} q r)(s:∀b c,e d b c->f.nx b c):
  L2.i_ (s6 lo k d) l m f b c:=by
 refine#[λa n b c=>n=d-a/\a<=d/\e a b c,#[d,by simp,aR _,h0],?_];rintro a n b c ⟨rfl,v,o⟩;by_cases g:a<d
 .refine .inr #[g,e (a+1),λw t u=>#[d-(a+1),by omega,rfl,g,u],λx t i=>?_]
  obtain⟨j,i⟩:=i;subst j i;exact p a b _ g o
 .have j:a=d:=by omega
  subst j;exact .inl #[av _,s b c o]
section
variable{X:Cx}{a:Expr}
end
def nY(b:Str):It:=#[λa _=>a<b.cps.size,λa d e f=>f=d/\ ∃c,b.cps[a]? =some c/\e=.str #[#v[c]],λa _=>b.cps.size<=a]
theorem x7{L:Program}{w:World}{K:aj}{N:Expr}(b:B)(g:Str)(n:Tok)(ty:String)(o:ty= "str_ascii_iterator"\/ty= "str_iterator"):
  hn L w K N (nY g) [b] b (λc i=>i.IsStrIter b ty g n c) where
 mem:=by simp
 obj:=λc i st e f=>by
  have a:e=b:=by simpa using f
  subst a;obtain⟨d,a,x,P⟩:=st;exact#[d,a,λQ E=>by rw[P] at E;cases E]
 keep:=λc i k st R=>let⟨d,S,T⟩:=st;#[d,R b (by simp) d S,T]
 item:=by
  intro l y z hK m c F s G A H j p st C;subst y z hK;obtain⟨q,r,U,t,u,v⟩:=p b (by simp);have V:Walks l.prog l.w l.A b [b] [b] g.cps.size (SignAt g) (λc i=>i.IsStrIter b ty g n c):=by
   rcases o with a|a
   .rw[a];exact Walks.strAscii (j.ok.hd m) b g n
   .rw[a];exact Walks.strWide (j.ok.hd m) b g n
  have W:["enumerate","zip","dict_itemiterator","dict_reverseitemiterator","odict_iterator","itertools.zip_longest","itertools.pairwise"].contains ty=false:=by
   rcases o with a|a
   .rw[a];decide
   .rw[a];decide
  refine V.item c s _ _ C st λQ k tk X I kk=>?_;obtain⟨x,Y,Z,rfl⟩:=X;have aa:O l F G A {s with heap:=k,toks:=tk}:=j.turned (λe d f a=>kk e d (by simpa using f) a) q r t u v;obtain⟨ad,a,ab,dd⟩:=id I;exact#[_,rfl,nB (s:={s with heap:=k,toks:=tk}) a ab dd W #[.str #[#v[x]],A,aa,#[Y,rfl],#[rfl,x,Z,rfl],I,λe f=>(p e f).1]]
 done:=by
  intro l y z hK m c F s G A H j p st C;subst y z hK;obtain⟨q,r,U,t,u,v⟩:=p b (by simp);have J:g.cps[c]? =none:=Array.getElem?_eq_none C;rcases o with a|a
  .rw[a] at st
   exact wpAny_pyNext_ascii_end (j.ok.hd m) st J λk D=>#[rfl,j.turned (t':=s.toks) (λe d f a=>D e d f a) q r t u v]
  .rw[a] at st
   exact wpAny_pyNext_wide_end (j.ok.hd m) st J λk D=>#[rfl,j.turned (t':=s.toks) (λe d f a=>D e d f a) q r t u v]
 self:=λae c s af H st i=>by
  rcases o with a|a
  .rw[a] at st;exact wpAny_pyIter_striter_ascii st i
  .rw[a] at st;exact wpAny_pyIter_striter_wide st i
inductive G5(b:It->G->Prop)(c:V)(d:G):Prop
 |mk (a)(e:c=.str a)(f:b (nY a) d)
def G6(a:TE):TI:=λb c d=>a b c λe f=>G5 d e f
theorem G7{b:Cx}{k c:Expr}{d:TE}(l:PE b c d):PI b k c (G6 d):=by
 intro m n o p u q r;refine au (l m n o p _ q r) λv e ⟨w,x,f,s,a,t,g⟩=>?_;subst t;obtain⟨i,rfl⟩:=s;cases j:a.cps.all (·<128)
 .exact wpAny_pyIter_wide j (s5 (tk:=e.toks) f _ (x7 _ a i "str_iterator" (.inr rfl)) #[_,dA _ rfl,rfl,rfl] g)
 .exact wpAny_pyIter_ascii j (s5 (tk:=e.toks) f _ (x7 _ a i "str_ascii_iterator" (.inl rfl)) #[_,dA _ rfl,rfl,rfl] g)
section
variable{prog:Program}{w:World}{a:a_}{b:Value->M->Prop}{s:M}
end
section
variable{X:Cx}{pins:List (B×ak)}{a:St}{H:G}{s:M}{b:B}{o:ak}
end
section
variable{P:Program}{w:World}{K:aj}{a:Expr}{b:B}{o:ak}{c:Array hh}{d:Nat}
end
section
variable{X:Cx}{a e:Expr}{b:TE}{c d:aU}
end
def lQ(K:aj)(e:B):It:=
 #[λc b=>∃(a:List V)(d:V),I K b e a/\a[c]? =some d,λc b g i=>∃f d,g=.ref f/\b f=none/\i=upd b f (.tup [.int (c:Nat),d])/\ ∀a,I K b e a->a[c]? =some d,λc b=>∃a:List V,I K b e a/\a.length<=c]
theorem G8{S:Program}{w:World}{K:aj}{T:List Expr}{kk:Nat}{U:aU}(J i e:B):
  hn S w K (.Tuple T kk U) (lQ K J) [i,e] i (λa k=>(∃l,IsEnum k i e ((a:Nat):Int) l)/\k.IsListIter e J a/\i≠e) where
 mem:=by simp
 obj:=λa k st d f=>by
  obtain⟨⟨l,g⟩,⟨m,t,u,V⟩,_⟩:=st;have v:d=i\/d=e:=by simpa using f
  rcases v with c|c
  .rw[c];exact#[_,g,λW b=>nomatch b]
  .rw[c];exact#[m,t,λW b=>by rw[V] at b;cases b]
 keep:=λa k y st L=>let⟨⟨l,g⟩,X,n⟩:=st;#[#[l,L i (by simp) _ g],X.at λm b=>L e (by simp) m b,n]
 item:=by
  intro o z A hK u a N s P C Q j p st D;subst z A hK;obtain⟨⟨l,g⟩,q,n⟩:=st;obtain⟨Y,x,hq,E⟩:=D;obtain⟨Z,F,G,ab⟩:=j.list hq;obtain⟨r,ad,ae⟩:=F.get E;have R:i<s.heap.objs.size:=bc g;have af:e<s.heap.objs.size:=by obtain⟨_,b,_⟩:=q;exact bc b
  refine wpAny_pyNext_enum_item g q G.isList (x:=r) (by simpa using ad) n λy t ah ai aL al=>?_;refine#[_,rfl,wpAny_letOwnedTupleGo_enum (s:={s with heap:=y,toks:=s.toks+1}) t λH am I=>?_];have ao:H.get? s.heap.objs.size=some {cls:=.type "tuple",data:=.seq #v[.int a s.toks,r]}:=(I.2 _ (hm R)).trans ai;have as:bU o.prog o.w (upd C s.heap.objs.size (.tup [.int (a:Nat),x])) H s.heap.objs.size (.tup [.int (a:Nat),x]):=
   #[by show 2<=aq;decide,[.int a s.toks,r],.cons #[_,rfl] (.cons ae .nil),#[_,ao,rfl,_,rfl]]
  have au:O o N P (upd C s.heap.objs.size (.tup [.int (a:Nat),x])) {s with heap:=H,toks:=s.toks+1}:=
   j.S3 (ch:=[i,e]) (λd aw f b=>(I.2 d (λc=>f (by simp[c]))).trans (al d aw (λc=>f (by simp[c])) (λc=>f (by simp[c])) b)) p (av _) as
  refine#[.ref s.heap.objs.size,_,au,rfl,#[_,x,rfl,j.Ra.fresh (av _),rfl,λaM ax=>by rw[j.RZ ax hq];exact E],#[#[r,?_],ah.at λm b=>(I.2 e (b8 n)).trans b,n],λd f=>?_]
  .have aB:((a+1:Nat):Int)=(a:Int)+1:=by omega
   rw[aB];exact am
  .have aD:d<s.heap.objs.size:=by
    have v:d=i\/d=e:=by simpa using f
    rcases v with c|c
    .rw[c];exact R
    .rw[c];exact af
   rw[aa (cZ aD)];exact(p d f).1
 done:=by
  intro o z A hK u a N s P C Q j p st D;subst z A hK;obtain⟨⟨l,g⟩,q,n⟩:=st;obtain⟨Y,hq,E⟩:=D;obtain⟨Z,F,G,ab⟩:=j.list hq;obtain⟨aF,aG,aN,aH,aI,aJ⟩:=p e (by simp);have hl:=F.length;exact wpAny_pyNext_enum_end (j.ok.hd u) g q G.isList (by simp;omega) λy aK=>#[rfl,j.turned (t':=s.toks) (λd m f b=>aK d m f b) aF aG aH aI aJ]
 self:=λaO a s aT Q st k=>let⟨⟨_,g⟩,_⟩:=st;G9 g k
inductive G_(K:aj)(c:It->G->Prop)(d:List V)(b:G):Prop
 |mk (a e)(f:d=[.ref a])(g:I K b a e)(i:c (lQ K a) b)
def Ha(K:aj)(a:TA):TI:=λb c d=>a b c λe f=>G_ K d e f
theorem s9{b:Cx}{c:Expr}{g:TA}{p i q:aU}{r:List Expr}{kk:Nat}(s:Gl b "enumerate")(t:b.mg "enumerate"=none)(u:PA b [c] g)(v:az [c] b.env=[(false,aA c b.env)]:=by rfl):
  PI b (.Tuple r kk q) (.Call (.Name "enumerate" p) [c] [] i) (Ha b.K g):=by
 intro j w k x Q l y;refine nC (i1 l s t boot_enumerate (lu (au (u i j w k x _ l y) λR a ⟨S,m,d,z,A⟩=>?_) v rfl));obtain⟨C,T,D,hq,E⟩:=A;subst D;cases z with
 |cons F G=>
  cases G;cases F;obtain⟨U,V,H,W⟩:=d.list hq;refine call_enumerate_list H.isList λI n J X K=>G9 n ?_;have L:O b j k m {a with heap:=I}:=d.kept (t':=a.toks) K;refine#[a.heap.objs.size+1,[a.heap.objs.size+1,a.heap.objs.size],_,_,m,rfl,L,G8 C (a.heap.objs.size+1) a.heap.objs.size,#[#[.none,n],J,Nat.succ_ne_self _],λe N=>?_,E];have P:e=a.heap.objs.size+1\/e=a.heap.objs.size:=by simpa using N
  have o:a.heap.objs.size<=e:=by
   rcases P with f|f
   .rw[f];exact lR _ _
   .rw[f];exact av _
  exact d.Uv o (d.Ra.fresh o)
theorem x8:ng "zip"=some (.type "zip"):=by decide+kernel
def ip(K:aj)(g i:B):It:=
 #[λb a=>∃(c d:List V)(e f:V),I K a g c/\I K a i d/\c[b]? =some e/\d[b]? =some f,
  λb a k l=>∃j e f,k=.ref j/\a j=none/\l=upd a j (.tup [e,f])/\(∀c,I K a g c->c[b]? =some e)/\ ∀d,I K a i d->d[b]? =some f,
  λb a=>∃c d:List V,I K a g c/\I K a i d/\(c.length<=b\/d.length<=b)]
theorem Hb{as:Program}{w:World}{K:aj}{au:List Expr}{kk:Nat}{aw:aU}{I J e TI TO i j:B}(f:ZipApart e TI TO i j I J):
  hn as w K (.Tuple au kk aw) (ip K I J) [e,TI,TO,i,j] e (λk l=>gX l e TI TO .none/\IsPair l TI (.ref i) (.ref j)/\(∃x y,IsPair l TO x y)/\l.IsListIter i I k/\l.IsListIter j J k) where
 mem:=by simp
 obj:=λk l st b u=>by
  obtain⟨o,m,⟨x,y,p⟩,⟨ax,L,_,aB⟩,⟨aD,N,_,aF⟩⟩:=st;have P:b=e\/b=TI\/b=TO\/b=i\/b=j:=by simpa using u
  rcases P with a|a|a|a|a
  .rw[a];exact#[_,o,λv a=>nomatch a]
  .rw[a];exact#[_,m,λv a=>nomatch a]
  .rw[a];exact#[_,p,λv a=>nomatch a]
  .rw[a];exact#[ax,L,λv a=>by rw[aB] at a;cases a]
  .rw[a];exact#[aD,N,λv a=>by rw[aF] at a;cases a]
 keep:=λk l Q st t=>by
  obtain⟨o,m,⟨x,y,p⟩,D,q⟩:=st;exact#[t e (by simp) _ o,t TI (by simp) _ m,#[x,y,t TO (by simp) _ p],D.at λn a=>t i (by simp) n a,q.at λn a=>t j (by simp) n a]
 item:=by
  intro z R S hK u k ab s ad T ae d A st U;subst R S hK;obtain⟨o,m,⟨aG,aH,p⟩,D,q⟩:=st;obtain⟨aI,aJ,x,y,C,E,af,ah⟩:=U;obtain⟨ai,V,W,_⟩:=d.list C;obtain⟨al,X,Y,_⟩:=d.list E;obtain⟨F,aK,aL⟩:=V.get af;obtain⟨G,aM,aN⟩:=X.get ah;have am:e<s.heap.objs.size:=bc o;refine wpAny_pyNext_zip_item f o m p D q W.isList Y.isList (x:=F) (y:=G) (by simpa using aK) (by simpa using aM) λQ aO aT aV aW aY bb H=>?_;refine#[_,rfl,Hc (s:={s with heap:=Q}) aO λZ aZ r=>?_];have a0:Z.get? s.heap.objs.size=some {cls:=.type "tuple",data:=.seq #v[F,G]}:=(r.2 _ (hm am)).trans aY;have a1:bU z.prog z.w (upd T s.heap.objs.size (.tup [x,y])) Z s.heap.objs.size (.tup [x,y]):=
   #[by show 2<=aq;decide,[F,G],.cons aL (.cons aN .nil),#[_,a0,rfl,_,rfl]]
  have a3:O z ab ad (upd T s.heap.objs.size (.tup [x,y])) {s with heap:=Z}:=
   d.S3 (t':=s.toks) (ch:=[e,TI,TO,i,j]) (λb n g a=>(r.2 b (λc=>g (by simp[c]))).trans (H b n (λc=>g (by simp[c])) (λc=>g (by simp[c])) (λc=>g (by simp[c])) (λc=>g (by simp[c])) a)) A (av _) a1
  refine#[.ref s.heap.objs.size,_,a3,rfl,#[_,x,y,rfl,d.Ra.fresh (av _),rfl,λa5 hl=>by rw[d.RZ hl C];exact af,λa5 hl=>by rw[d.RZ hl E];exact ah],#[aZ,?_,#[F,G,?_],?_,?_],λb ao=>?_]
  .exact(r.2 _ f.TIz).trans (H _ _ f.TIz f.TITO f.TIi1 f.TIi2 m)
  .exact(r.2 _ f.TOz).trans aT
  .exact aV.at λn a=>(r.2 _ f.i1z).trans a
  .exact aW.at λn a=>(r.2 _ f.i2z).trans a
  .have a8:b<s.heap.objs.size:=by
    have P:b=e\/b=TI\/b=TO\/b=i\/b=j:=by simpa using ao
    rcases P with a|a|a|a|a
    .rw[a];exact am
    .rw[a];exact bc m
    .rw[a];exact bc p
    .rw[a];obtain⟨_,L,_⟩:=D;exact bc L
    .rw[a];obtain⟨_,N,_⟩:=q;exact bc N
   rw[aa (cZ a8)];exact(A b ao).1
 done:=by
  intro z R S hK u k ab s ad T ae d A st U;subst R S hK;obtain⟨o,m,⟨aG,aH,p⟩,D,q⟩:=st;obtain⟨aI,aJ,C,E,a9⟩:=U;obtain⟨ai,V,W,_⟩:=d.list C;obtain⟨al,X,Y,_⟩:=d.list E;have bd:=V.length;have be:=X.length;have ba:ai.toArray[k]? =none\/al.toArray[k]? =none:=by
   rcases a9 with a|a
   .exact .inl (by simp;omega)
   .exact .inr (by simp;omega)
  exact wpAny_pyNext_zip_end (d.ok.hd u) f o m p D q W.isList Y.isList ba λQ H=>#[rfl,d.UT (t':=s.toks) (ch:=[e,TI,TO,i,j]) (λb n g a=>
   H b n (λc=>g (by simp[c])) (λc=>g (by simp[c])) (λc=>g (by simp[c])) (λc=>g (by simp[c])) a) A]
 self:=λbf k s bi ae st l=>s_ st.1 l
inductive Hd(K:aj)(d:It->G->Prop)(e:List V)(a:G):Prop
 |mk (b c f g)(i:e=[.ref b,.ref c])(j:I K a b f)(k:I K a c g)(l:d (ip K b c) a)
def He(K:aj)(a:TA):TI:=λb c d=>a b c λe f=>Hd K d e f
theorem jh{b:Cx}{g e:Expr}{k:TA}{v i w:aU}{x:List Expr}{kk:Nat}(y:Gl b "zip")(z:b.mg "zip"=none)(A:PA b [g,e] k)
  (C:az [g,e] b.env=(false,aA g b.env)::az [e] b.env:=by rfl)(E:(cB i (az [e] b.env)).any (·.1)=false:=by rfl):
  PI b (.Tuple x kk w) (.Call (.Name "zip" v) [g,e] [] i) (He b.K k):=by
 intro l F m G ae n H;refine nC (i1 n y z x8 (lu (au (A i l F m G _ n H) λaf a ⟨ah,o,f,I,J⟩=>?_) C E));obtain⟨p,q,ai,al,K,L,N,P⟩:=J;subst K;cases I with
 |cons Q j=>
  cases j with
  |cons R j=>
   cases j;cases Q;cases R;obtain⟨am,ao,r,_⟩:=f.list L;obtain⟨as,aw,s,_⟩:=f.list N;have S:p<a.heap.objs.size:=r.lt;have T:q<a.heap.objs.size:=s.lt;refine call_zip_2 r.isList s.isList λU t V X D Y ax Z=>s_ t ?_;have aa:O b l m o {a with heap:=U}:=f.kept (t':=a.toks) Z;refine#[a.heap.objs.size+4,[a.heap.objs.size+4,a.heap.objs.size+2,a.heap.objs.size+3,a.heap.objs.size,a.heap.objs.size+1],_,_,o,rfl,aa,Hb (PySem.W.ktu_apart a.heap.objs.size p q S T),#[t,V,#[_,_,X],D,Y],λd ab=>?_,P];have ad:d=a.heap.objs.size+4\/d=a.heap.objs.size+2\/d=a.heap.objs.size+3\/d=a.heap.objs.size\/d=a.heap.objs.size+1:=by simpa using ab
   have u:a.heap.objs.size<=d:=by
    rcases ad with c|c|c|c|c
    .rw[c];exact lR _ _
    .rw[c];exact lR _ _
    .rw[c];exact lR _ _
    .rw[c];exact av _
    .rw[c];exact lR _ _
   exact f.Uv u (f.Ra.fresh u)
end L2
section
namespace Bits
open PySem PyProof.Rows
end Bits
end
section
namespace TL
open PySem PySem.Builtin PySem.Builtin.Str PySem.StrLaws
abbrev tl(a:Str):List Nat:=a.cps.toList
theorem Hf(a:Str):a.length=(tl a).length:=by simp[tl,Fx]
theorem nZ{a b:Str}(c:tl a=tl b):a=b:=Str.ext' (Array.toList_inj.mp c)
theorem ta(a b:Str):tl (a++b)=tl a++tl b:=by
 show(a++b).cps.toList=_;rw[Str.cps_append,Array.toList_append]
def ji(b:List Nat):List (List Nat)->List Nat
 |[]=>[]
 |[a]=>a
 |a::c::d=>a++(b++ji b (c::d))
theorem pL(a:Str):∀d:List Str,tl (x9 a d)=ji (tl a) (d.map tl)
 |[]=>rfl
 |[_]=>rfl
 |e::b::c=>by
  show tl (e++a++x9 a (b::c))=tl e++(tl a++ji (tl a) ((b::c).map tl));rw[ta,ta,pL a (b::c),kl]
theorem tb(a:Str)(b:List Str):lS a b=x9 a b:=glued_eq_join a b
def gq(a:Nat):List Nat:=(lT 10 a).map x_
theorem Hg(a:Nat):tl (bH (toString ((a:Nat):Int)))=gq a:=Qy a
theorem ya:∀a:Nat,a<10->(yb a).toNat=48+a:=by decide
theorem pM{a:Nat}(b:a<10):gq a=[48+a]:=by
 unfold gq;rw[Hh b];show[(yb a).toNat]=_;rw[ya a b]
theorem tc{a:Nat}(d:10<=a):gq a=gq (a/10)++[48+a % 10]:=by
 have b:a % 10<10:=jj a (by decide);have c:lT 10 (a/10)++lT 10 (a % 10)=lT 10 (10*(a/10)+a % 10):=Nat.toDigits_append_toDigits (by decide) (by omega) b;rw[yc] at c;show(lT 10 a).map x_=_;rw[<-c,br,Hh b];show(lT 10 (a/10)).map x_++[(yb (a % 10)).toNat]=_;rw[ya _ b]<;>rfl
theorem Hi(a:Nat):NumText.AllDigits (gq a):=by
 induction a using Hj with
 |_ a d=>
  by_cases e:a<10
  .rw[pM e]
   intro c b;rw[cb.mp b];omega
  .rw[tc (by omega)]
   intro c b;rcases c4.mp b with b|b
   .exact d (a/10) (by omega) c b
   .have f:a % 10<10:=jj a (by decide)
    rw[cb.mp b];omega
end TL
end
namespace L2
open PySem PySem.Spec PyProof.Rows
theorem td:∀{a:List Str}{b:List Value},aB (a.map V.str) b->StrsAre b a
 |[],_,.nil=>.nil
 |c::a,_,.cons r d=>by
  obtain⟨e,rfl⟩:=r;exact .cons c e (td d)
section
variable{X:Cx}{pins:List (B×ak)}{a:St}{H:G}{s:M}{Q:VK}
end
section
variable{X:Cx}
theorem yd:pB X "str.join" (λm n a o=>∃d e,∃b:List Str,m=.str d/\n=[.ref e]/\(I X.K a e (b.map V.str)\/a8 X.K a e (b.map V.str))/\
  (b.map (·.length)).sum+b.length*d.length<=16777216/\o (.str (lS d b)) a):=by
 intro y z A a m n C D o f q rs g;obtain⟨d,e,b,rfl,rfl,c,p,g⟩:=g;obtain⟨E,rfl⟩:=q;cases rs with
 |cons r rs=>
  cases rs;cases r;rcases c with c|c
  .obtain⟨i,j,⟨s,t,u,v,_,w⟩,_⟩:=f.list c
   exact Qz (items:=i.toArray) #[s,u,v,t,w] (by rw[Hk];exact td j) p λk l=>#[.str _,a,f.tok l,#[k,rfl],g]
  .obtain⟨i,j,x,_⟩:=f.tuple c
   exact QA (items:=i.toArray) x (by rw[Hk];exact td j) p λk l=>#[.str _,a,f.tok l,#[k,rfl],g]
end
section
variable{X:Cx}{o e:Expr}{a b:TE}
def ye(e:V->List V->G->VK->Prop)(a b:TE):TE:=λc f g=>a c f λd i=>(∃j,d=.str j)/\b c i λk l=>e d [k] l g
theorem yf{id:String}{name:Str}{g i:aU}{r:V->List V->G->VK->Prop}(k:Slot "str" name id)(ty:typeOf (.builtin id)=pure (.type "method_descriptor"))(h_:pB X id r)(l:PE X o a)(m:PE X e b)
  (n:az [e] X.env=[(false,aA e X.env)]:=by rfl)(p:jd o name X.env (aA o X.env)=aA o X.env:=by rfl)(q:(g.endLine==i.line)=true:=by rfl):
  PE X (.Call (.Attribute o name g) [e] [] i) (ye r a b):=by
 intro c s d t u v w;refine PySem.Call_method1 p n q (au (l c s d t _ v w) λK x ⟨L,y,z,j,f⟩=>?_);obtain⟨⟨N,rfl⟩,f⟩:=f;obtain⟨O,rfl⟩:=_root_.id j;refine#["str",_,F.plainAttrs_str,k,ty,xu _ _ _,(λ_ e=>nomatch e),xA rfl (FS (E5 ?_))];exact au (m c x d y _ z f) λA C ⟨D,E,H,I,J⟩=>E4 (h_ c C d E _ [D] _ [A] u H j (.cons I .nil) J)
theorem yg{i j:aU}(k:PE X o a)(l:PE X e b)(m:az [e] X.env=[(false,aA e X.env)]:=by rfl)(n:jd o "join" X.env (aA o X.env)=aA o X.env:=by rfl)(p:(i.endLine==j.line)=true:=by rfl):
  PE X (.Call (.Attribute o "join" i) [e] [] j) (ye (λq r d s=>∃f g,∃c:List Str,q=.str f/\r=[.ref g]/\(I X.K d g (c.map V.str)\/a8 X.K d g (c.map V.str))/\
   (c.map (·.length)).sum+c.length*f.length<=16777216/\s (.str (lS f c)) d) a b):=
 yf Hl Hm yd k l m n p
end
end L2
namespace L2
open PySem PySem.Spec PyProof.Rows
section
variable{X:Cx}
end
end L2
namespace Att
open PySem PySem.W PySem.Calls PyProof.Rows
section
variable{prog:Program}{w:World}{a:a_}{b:Value->M->Prop}{s:M}{K:Frag}
end
end Att
namespace L2
open PySem PySem.Spec PyProof.Rows
end L2
namespace L2
open PySem PySem.Spec PyProof.Rows
end L2
namespace L2
open PySem PySem.Spec PyProof.Rows
abbrev E0:XK:=λ_ _ _=>False
structure d6(K:aj)(d a:Str)(st:aX)(b:B)(fd:fA):Prop where
 ex:∃(e:Value)(f:Option B)(kV g i:Value)(j:Option B)(c k:Value)(l:Array (Option Value)),
  fd=ki d a (jS st) (gN st) (bi st) .none kV g i j c k/\K.lookup b=some #[e,f,.func fd,l]/\sF K c a=true
 kp:ep K (.ref b)=true
section
variable{P:Program}{w:World}{K:aj}{a:Str->Option Value}{base:Heap}
theorem d6.binds{i j:Str}{st:aX}{l:B}{k:fA}{a:List Str}(m:d6 K i j st l k)
  (n:∀(kV b c:Value)(d:Option B)(e f:Value)(g:List Value),g.length=a.length->sE (ki i j (jS st) (gN st) (bi st) .none kV b c d e f) #[g,[]]=pure (a.zip g)):fb K k a []:=by
 obtain⟨o,p,kV,b,c,d,e,f,q,rfl,lk,r⟩:=m.ex;exact .all (n kV b c d e f)
theorem Hn{c a:Str}{st:aX}{d:B}{j:Value}{k e:Option B}{l:Array (Option Value)}{kV f g b i:Value}(m:K.lookup d=some #[j,k,.func (ki c a (jS st) (gN st) (bi st) .none kV f g e b i),l])
  (n:sF K b a=true)(o:ep K (.ref d)=true):d6 K c a st d (ki c a (jS st) (gN st) (bi st) .none kV f g e b i):=#[#[j,k,kV,f,g,e,b,i,l,rfl,m,n],o]
end
theorem n0{a:a_}{b:Nat}(c:bu b a):a.units+1<gm:=lU (Nat.add_le_add_left (by decide:1<=64) _) c.units
section
variable{X:Cx}
theorem E(b:Nat){a:Str}{c:aU}(d:X.N[b]? =some a:=by rfl)(e:jY X.env.scope a:=by first|exact iq rfl|exact jk (iq rfl)|exact jk (jk rfl))(f:(a==("__debug__":Str))=false:=by decide)
  (g:(a==("__classdict__":Str))=false:=by decide):PE X (.Name a c) (b2 b):=Dh d e f g
end
theorem dk{b a:Prop}(c:a):if false=true then b else a:=by
 rw[if_neg cC];exact c
theorem dm{a b:Prop}(c:a):if true=true then a else b:=by
 rw[if_pos rfl];exact c
theorem a9{a c d:Prop} [Decidable a](D:a->c)(e:¬a->d):if a then c else d:=by
 by_cases b:a
 .rw[if_pos b]
  exact D b
 .rw[if_neg b]
  exact e b
def Same(b c:G):Prop:=∀a o,b a=some o->c a=some o
theorem Same.refl(a:G):Same a a:=λ_ _ b=>b
theorem Same.trans{a b c:G}(f:Same a b)(g:Same b c):Same a c:=λd e i=>g d e (f d e i)
theorem Same.free{b c:G}(e:Same b c){a:B}(d:c a=Ho):b a=Ho:=by
 cases f:b a with
 |none=>rfl
 |some g=>
  rw[e a g f] at d;cases d
theorem Same.seq{K:aj}{b c:G}{d:B}{e:List V}(f:Same b c)(a:I K b d e):I K c d e:=by
 rcases a with(a|⟨g,a⟩)|a
 .exact .inl (.inl (f _ _ a))
 .exact .inl (.inr #[g,f _ _ a])
 .exact .inr a
section
variable{a:Type} [DecidableEq a]
end
end L2
end
section
namespace Ex
open PySem PySem.Spec PyProof.Rows L2
theorem Hq(a:ak) (b):(a.mapFields b).dict=a.dict:=by
 obtain⟨d,e,c,f⟩:=a;cases c<;>rfl
structure dW(a b:Heap):Prop where
 up:a.UpToSlots b
 there:∀c d,a.get? c=some d-> ∃e,b.get? c=some e
theorem dW.trans{a b c:Heap}(d:dW a b)(e:dW b c):dW a c:=
 #[d.up.trans e.up,λf g i=>let⟨_,j⟩:=d.there f g i;e.there f _ j]
theorem dW.keeps{c d:Heap}(e:∀b a,c.get? b=some a->d.get? b=some a):dW c d:=#[.of_keeps e,λb a f=>#[a,e b a f]]
theorem dW.frames{a b c:Heap}{d:List bp}(e:dW b c)(f:b.FunFrames a d):c.FunFrames a d:=
 f.of_keeps λg i j k=>let⟨m,l⟩:=e.up g i j k;#[_,l,rfl]
def Tr(i:Heap)(d:B)(j:Value)(dd:Option B)(fl:Value)(e:Heap):Prop:=
 ∃a c b f g,e.get? d=some a/\a.cls=j/\a.dict=dd/\a.data=.fields c/\(dd≠none->c[2]? =some .none)/\c[1]? =some (.ref b)/\
  i.get? b=none/\b≠d/\e.get? b=some f/\f.data=.fields g/\g[3]? =some fl
structure dX(a:Heap)(d:List bp)(c:B)(e:Value)(dd:Option B)(fl:Value)(b:Heap):Prop where
 RX:a.StaysIn b
 new:a.get? c=none
 fr:b.FunFrames a d
 tr:Tr a c e dd fl b
theorem dX.less{b:Heap}{g:bp}{c:List bp}{d:B}{e:Value}{dd:Option B}{fl:Value}{f:Heap}(a:dX b (g::c) d e dd fl f):dX b c d e dd fl f:=
 #[a.RX,a.new,a.fr.2.2,a.tr]
section
variable{h:h7}{f:a_}{i:Value->M->Prop}{s:M}{b:Heap}{a:bp}{c l:List bp}{d e:B}{g:Value}{dd:Option B}{fl:Value}{Q:Unit->M->Prop}
theorem te{d:Heap}{b:B}{i:ak}{k:Array Value}(e:Nat)(f:Value)(l:d.get? b=some i)(m:i.data=.fields k):
  (d.update b (hz (·.setIfInBounds e f))).get? b=some (i.mapFields (·.setIfInBounds e f))/\dW d (d.update b (hz (·.setIfInBounds e f))):=by
 have n:=lB (hz (·.setIfInBounds e f)) l (Hr (yh m _));have o:∀a,a≠b->(d.update b (hz (·.setIfInBounds e f))).get? a=d.get? a:=λa c=>ii _ _ (b8 c);refine#[n,λa j c p=>?_,λa j c=>?_]
 .refine#[j.slots,(o a λg=>?_).trans c]
  rw[g,l] at c;cases c;exact p k m
 .by_cases g:a=b
  .exact#[_,by rw[g];exact n]
  .exact#[j,(o a g).trans c]
theorem entry{v:Value}{I:Bool}{l:ak}{o:Array Value}(J:f.frames=some (a::c))(hl:s.heap.FunFrames b (a::c))(K:a.frame=some d)
  (w:s.heap.get? e=some l)(st:b.StaysIn s.heap)(x:b.get? e=none)(p:l.data=.fields o)(y:1<o.size)(L:l.dict≠none->o[2]? =some .none)
  (N:∀t,dX b (a::c) e l.cls l.dict (fy d) t->dW s.heap t->Q () {s with heap:=t}):
  wpAny h f (do let O<-frameOf a;let q<-entryPlaceOf d I;let g<-Hs v O .none (fy d) .none q;setField (.ref e) 1 g) Q i s:=by
 have P:e∉(a::c).filterMap (·.frame):=λu=>by
  obtain⟨_,k,z,R⟩:=hl.mem u;rw[w] at z;cases z;exact R o p
 refine ap (wpAny_frameOf_fun J hl K λD r=>?_);refine ap (wpAny_entryPlaceOf λq S=>?_);unfold Hs newFields;refine ap (Gr ?_ (S.sizeOk5 _ _ _ _ _));have A:D.get? e=some l:=(r.2.1 e P).trans w;generalize C:({cls:=.type "traceback",dict:=none,data:=.fields ([v,.ref d,.none,fy d,.none]++(if q.isEmpty then aP 6 gO else q)).toArray}:ak)=m;have E:(D.push m).get? e=some l:=bn _ A;refine yi E p y ?_;obtain⟨T,U⟩:=te 1 (bN D.objs.size) E p;have F:D.objs.size≠e:=hm (bc A);have V:(D.push m).get? D.objs.size=some m:=dA D (by subst C;rfl);have W:((D.push m).update e (hz (·.setIfInBounds 1 (bN D.objs.size)))).get? D.objs.size=some m:=(ii _ _ (b8 F)).trans V;have G:b.StaysIn D:=λg k n=>(r.2.1 g λu=>by rw[(hl.mem u).1] at n;cases n).trans (st g k n);have X:dW s.heap D:=#[λg k j _=>r.2.2 g k j,λg k j=>let⟨_,Y⟩:=r.2.2 g k j;#[_,Y]];have Z:dW D (D.push m):=.keeps λg k j=>bn _ j;have H:=(X.trans Z).trans U;refine N _ #[λg k n=>(ii _ _ λj=>?_).trans (bn _ (G g k n)),x,H.frames hl,?_] H
 .rw[<-j,x] at n
  cases n
 .refine#[_,_,D.objs.size,m,_,T,Obj.cls_mapFields _ _,Hq _ _,yh p _,λj=>?_,by simp[y],?_,F,W,by subst C;rfl,?_]
  .rw[Array.getElem?_setIfInBounds_ne (by decide)]
   exact L j
  .cases j:b.get? D.objs.size with
   |none=>rfl
   |some k=>exact absurd (bc (G _ _ j)) (gi _)
  .simp
theorem yj{g:ak}{j:Array Value}(o:f.frames=some (a::c))(hl:s.heap.FunFrames b (a::c))(l:a.frame=some d)
  (m:s.heap.get? e=some g)(st:b.StaysIn s.heap)(p:b.get? e=none)(n:g.data=.fields j)(D:j[1]? =some .none)(q:g.dict≠none->j[2]? =some .none)
  (r:∀k,dX b (a::c) e g.cls g.dict (fy d) k->dW s.heap k->Q () {s with heap:=k}):wpAny h f (lL (.ref e) a) Q i s:=by
 unfold lL;simp only[l];refine ap (eX m n D ?_);rw[if_neg (by decide)];exact entry o hl l m st p n (pN.mp D).1 q r
theorem yk(w:f.frames=some (a::c))(o:a.frame=some d)(x:dX b (a::c) e g dd .none s.heap)
  (y:∀k,dX b (a::c) e g dd (fy d) k->dW s.heap k->Q () {s with heap:=k}):wpAny h f (lL (.ref e) a) Q i s:=by
 obtain⟨st,z,hl,J,K,p,L,N,q,rfl,rfl,r,A,D,C,E,m,n,t⟩:=x;unfold lL;simp only[o];refine ap (eX q r D ?_);rw[if_pos (by simp)];refine ap (eX m n t ?_);rw[if_neg (by simp[fy])];refine ap (yi m n (pN.mp t).1 ?_);obtain⟨_,u⟩:=te 3 gO m n;have v:∀j,j≠p->(s.heap.update p (hz (·.setIfInBounds 3 gO))).get? j=s.heap.get? j:=λj l=>ii _ _ (b8 l);exact entry w (u.frames hl) o ((v e (b8 E)).trans q) (λj F l=>(v j λG=>by rw[G,C] at l;cases l).trans (st j F l)) z r (pN.mp D).1 A
  λk H I=>y k H (u.trans I)
theorem Ht(c:a.frame=some d)(j:dX b l e g dd (fy d) s.heap)(k:Q () s):wpAny h f (lL (.ref e) a) Q i s:=by
 obtain⟨st,r,hl,t,u,v,w,x,m,_,_,n,y,D,z,A,o,p,q⟩:=j;unfold lL;simp only[c];refine ap (eX m n D ?_);rw[if_pos (by simp)];refine ap (eX o p q ?_);rw[if_pos (by simp)];exact bO k
theorem jl{j:Option B}(x:dX b l e g dd fl s.heap)(y:∀k,dX b l e g dd (j.elim .none λc=>fy c) k->dW s.heap k->Q () {s with heap:=k}):
  wpAny h f (setFlight (.ref e) j) Q i s:=by
 obtain⟨st,z,hl,A,C,m,K,L,o,E,F,p,G,D,q,r,t,n,u⟩:=x;unfold setFlight;refine ap (eX o p D ?_);rw[if_pos (by simp)];refine yi t n (pN.mp u).1 ?_;obtain⟨H,v⟩:=te 3 (j.elim gO λc=>fy c) t n;have w:∀a,a≠m->(s.heap.update m (hz (·.setIfInBounds 3 (j.elim gO λc=>fy c)))).get? a=s.heap.get? a:=λa d=>ii _ _ (b8 d);refine y _ #[λa I d=>(w a λJ=>by rw[J,q] at d;cases d).trans (st a I d),z,v.frames hl,A,C,m,_,_,(w e (b8 r)).trans o,E,F,p,G,D,q,r,H,yh n _,?_] v;have:=(pN.mp u).1;simp[this]
theorem Hu{g:ak}{k:Array Value}(l:f.frames=some (a::c))(hl:s.heap.FunFrames b (a::c))(m:a.frame=some d)
  (n:s.heap.get? e=some g)(st:b.StaysIn s.heap)(o:b.get? e=none)(p:g.data=.fields k)(D:k[1]? =some .none)(q:g.dict≠none->k[2]? =some .none)
  (r:∀j,dX b c e g.cls g.dict .none j->dW s.heap j->Q () {s with heap:=j}):wpAny h f (leaving a (.ref e)) Q i s:=by
 unfold leaving;exact ap (yj l hl m n st o p D q λj t u=>jl t λv w x=>r v w.less (u.trans x))
theorem Hv(k:f.frames=some (a::c))(l:a.frame=some d)(m:dX b (a::c) e g dd .none s.heap)
  (n:∀j,dX b c e g dd .none j->dW s.heap j->Q () {s with heap:=j}):wpAny h f (leaving a (.ref e)) Q i s:=by
 unfold leaving;exact ap (yk k l m λj o p=>jl o λq r t=>n q r.less (p.trans t))
theorem Hw(l:a.frame=some d)(k:dX b (a::c) e g dd (fy d) s.heap)
  (m:∀j,dX b c e g dd .none j->dW s.heap j->Q () {s with heap:=j}):wpAny h f (leaving a (.ref e)) Q i s:=by
 unfold leaving;exact ap (Ht l k (jl k λn o p=>m n o.less p))
end
theorem pO{f:Program}{w:World}{d:G}{g i:Heap}(m:bG f w d g)(j:∀b k c,d b=some k->g.get? b=some c->i.get? b=some c):bG f w d i:=λn c l=>
 (m n c l).RX (λb k e a=>by
  rcases e with rfl|e
  .exact j _ _ _ l a
  .exact j _ _ _ e a) (λ_ a=>a) λ_ _ a=>a
theorem n1{i:Program}{w:World}{f:G}{g:Heap}(j:bG i w f g){e:B}{d:HO}(k:f e=some d):∃c,g.get? e=some c:=by
 have b:=j e d k;cases d with
 |lst l=>obtain⟨_,_,_,_,a⟩:=b;exact#[_,a]
 |tup l=>obtain⟨_,_,_,c,a,_⟩:=b;exact#[_,a]
 |dK m=>obtain⟨_,_,_,_,c,_,_,a,_⟩:=b;exact#[_,a]
 |dT m=>obtain⟨_,_,_,_,c,_,_,a,_⟩:=b;exact#[_,a]
 |set p q=>obtain⟨c,_,_,_,a,_⟩:=b;exact#[_,a]
 |ins r s n=>obtain⟨_,_,_,a,_⟩:=b;exact#[_,a]
 |own o=>obtain⟨_,a⟩:=b;exact#[_,a]
 |xd n=>obtain⟨_,⟨_,_,_,a,_⟩,_⟩:=b;exact#[_,a]
 |rng lo t=>obtain⟨_,_,_,a⟩:=b;exact#[_,a]
 |R3 u d=>obtain⟨a,_⟩:=b;exact#[_,a]
 |tbl v=>exact#[_,b]
 |met x o=>exact#[_,b]
 |ext y=>obtain⟨_,⟨_,a⟩,_⟩:=b;exact#[_,a]
def eL(k:Program)(w:World)(e:List bp)(i:G)(d:M)(fl:Value)(j:B)(l:Value)(dd:Option B)(f:G)(b:M):Prop:=
 d.heap.get? j=none/\ ∃g:Heap,b.os=d.os/\h6 b.gens/\Un (bY e) [] i f d.heap b.heap/\bG k w f b.heap/\dX g e j l dd fl b.heap/\
  (∀a c,d.heap.get? a=some c->i a=none->a∉bY e->g.get? a=some c)/\ ∀a m c,f a=some m->b.heap.get? a=some c->g.get? a=some c
def cc(d:Program)(w:World):fz:=λe f g i j k=>∃(a:B)(b:Value)(dd:Option B)(c:G),j=.ref a/\eL d w e f g .none a b dd c k/\i b dd c
section
variable{P:Program}{w:World}{c:List bp}{H b:G}{s d:M}{a:B}{e fl f:Value}{dd:Option B}
theorem Un.Wh{f:List B}{k D l:Heap}{n:Heap}(d:Un f [] H b k D)(o:dW D l)(st:n.StaysIn l)(p:∀a c,k.get? a=some c->H a=none->a∉f->n.get? a=some c)
  (q:∀a∈f,∀c,D.get? a=some c-> ∀r,c.data≠ .fields r):Un f [] H b k l:=
 #[λa c e m g i=>st a c (p a c e m g),λa c e m g i=>by
  obtain⟨v,j⟩:=d.slot a c e m g i;obtain⟨s,t⟩:=o.up a _ j (q a g _ j);exact#[s,t],d.free,λa c e i=>by
  obtain⟨u,j⟩:=d.there a c e i;exact o.there a u j,d.SN,d.Sw,d.SQ]
theorem tf{g c:Heap}{d:List bp}(i:c.FunFrames g d):∀e∈bY d,∀a,c.get? e=some a-> ∀b,a.data≠ .fields b:=λe j a k b l=>by
 obtain⟨_,n,f,m⟩:=i.mem j;rw[k] at f;cases f;exact m b l
end
section
variable{P:Program}{w:World}{K:aj}{c:Str->Option Value}{base:Heap}{N:List Str}{d:Str}{e:cz}{f:B}{g:Value}{h:a_}{i:List bp}{b:M}{j:G}{a:XK}
theorem yl{b:Cx}{C:List (B×ak)}{D:L2.St}{l:G}{g:M}{i:B}{m:ak}(s:b.stack=b.env::b.outer)(E:b.env.frame=some b.env.locals)(F:b.ex=[])
  (k:O b C D l g)(H:l i=none)(t:b.Sl.heap.get? i=none)(hE:a m.cls m.dict l):
  ∃o:Heap,g.heap.FunFrames o (b.env::b.outer)/\o.StaysIn g.heap/\o.get? i=none/\
   ∀p,dX o b.outer i m.cls m.dict .none p->dW g.heap p->cc b.prog b.w b.outer b.U7 b.Sl a (.ref i) {g with heap:=p}:=by
 have u:Un (bY b.outer) [] b.U7 l b.Sl.heap g.heap:=by
  have d:=k.base;rw[F] at d;exact d
 have v:g.heap.FunFrames b.base (b.env::b.outer):=by rw[<-s];exact k.stack
 have w:bY (b.env::b.outer)=b.env.locals::bY b.outer:=by
  unfold bY;rw[ni,E]
 have I:∀c∈bY (b.env::b.outer),l c=none:=by rw[<-s];exact k.TY
 refine#[o5 g.heap (i::bY (b.env::b.outer)),PySem.W.funFrames_hide v λJ K c r=>bj _ (wG.mpr #[J,K,r]),λc e f=>Dd _ f,De _ (a4 ..),λp q L=>?_];have x:∀c e,g.heap.get? c=some e->c≠i->c∉bY (b.env::b.outer)->(o5 g.heap (i::bY (b.env::b.outer))).get? c=some e:=
  λc e f N nm=>Db _ f λd=>by
   rcases bw.mp d with d|d
   .exact N d
   .exact nm d
 have y:∀c e,b.Sl.heap.get? c=some e->b.U7 c=none->c∉bY b.outer->(o5 g.heap (i::bY (b.env::b.outer))).get? c=some e:=λc e f P nm=>by
  refine x c e (u.keep c e f P nm (by simp)) (λd=>by rw[d,t] at f;cases f) λd=>?_;rw[w] at d;rcases bw.mp d with d|d
  .rw[d] at f
   exact absurd (cP (bc f) k.ok.above) (gi _)
  .exact nm d
 have jX:∀c n e,l c=some n->g.heap.get? c=some e->(o5 g.heap (i::bY (b.env::b.outer))).get? c=some e:=λc n e j f=>
  x c e f (λd=>by rw[d,H] at j;cases j) λd=>by rw[I c d] at j;cases j
 refine#[i,m.cls,m.dict,l,rfl,#[t,_,k.os,k.bare,Un.Wh u L q.RX y (λc r e f=>tf v c (by rw[w];exact bj _ r) e f),pO k.Ra λc n e j f=>q.RX c e (jX c n e j f),q,y,λc n e j f=>?_],hE];obtain⟨z,Q⟩:=n1 k.Ra j;have d:=jX c n z j Q;have A:=q.RX c z d;rw[f] at A;cases A;exact d
theorem Hx{q:List (B×ak)}{r:L2.St}{m:G}{n:M}{l:B}{k:ak}{o:Array Value}
  (p:O (fe (cc P w) P w K c base N d e f g h i b j a) q r m n)(s:m l=none)(t:b.heap.get? l=none)(u:n.heap.get? l=some k)(v:k.data=.fields o)
  (D:o[1]? =some .none)(x:k.dict≠none->o[2]? =some .none)(hE:a k.cls k.dict m):(fe (cc P w) P w K c base N d e f g h i b j a).xe (.ref l) n:=by
 obtain⟨E,y,z,A,C⟩:=yl rfl rfl rfl p s t hE;exact Hu p.ok.frames y rfl u z A v D x C
theorem eL.up{c:Cx}{A:List (B×ak)}{C:L2.St}{t q:G}{u k:M}{o:B}{v fl:Value}{dd:Option B}{w:bp}(e:O c A C t u)(D:c.stack=w::c.outer)(j:c.ex=[])(hl:w.frame=some c.env.locals)
  (E:eL c.prog c.w c.stack t u fl o v dd q k):c.Sl.heap.get? o=none/\ ∃l:Heap,k.os=c.Sl.os/\h6 k.gens/\Un (bY c.outer) [] c.U7 q c.Sl.heap k.heap/\bG c.prog c.w q k.heap/\dX l c.stack o v dd fl k.heap/\
  (∀a b,c.Sl.heap.get? a=some b->c.U7 a=none->a∉bY c.outer->l.get? a=some b)/\ ∀a F b,q a=some F->k.heap.get? a=some b->l.get? a=some b:=by
 obtain⟨H,l,os,I,m,J,x,K,L⟩:=E;have y:bY c.stack=c.env.locals::bY c.outer:=by
  rw[D];unfold bY;rw[ni,hl]
 have z:∀a b,c.Sl.heap.get? a=some b->c.U7 a=none->a∉bY c.outer->l.get? a=some b:=λa b f g nm=>by
  refine K a b (e.base.keep a b f g nm (by rw[j];simp)) (e.base.free a b f g (by rw[j];simp)) λi=>?_;rw[y] at i;rcases bw.mp i with i|i
  .rw[i] at f
   exact absurd (cP (bc f) e.ok.above) (gi _)
  .exact nm i
 refine#[?_,l,os.trans e.os,I,#[λa b d g r n=>x.RX a b (z a b d g r),λa b d g r n=>?_,λa b d g n=>?_,λa b d n=>?_,λa p d=>m.SN a p (e.base.SN a p d),λa b p d=>m.Sw a b p (e.base.Sw a b p d),λa N d=>?_],J,x,z,L]
 .cases f:c.Sl.heap.get? o with
  |none=>rfl
  |some b=>
   obtain⟨s,i⟩:=e.base.there o b f (by rw[j];simp);rw[H] at i;cases i
 .obtain⟨T,f⟩:=e.base.slot a b d g r (by rw[j];simp)
  obtain⟨P,Q⟩:=m.slot a _ f (e.base.free a b d g (by rw[j];simp)) (by rw[y];exact bj _ r) n;exact#[P,Q]
 .obtain⟨s,f⟩:=e.base.there a b d (by rw[j];simp)
  exact m.free a s f (e.base.free a b d g (by rw[j];simp)) n
 .obtain⟨s,f⟩:=e.base.there a b d (by rw[j];simp)
  exact m.there a s f n
 .obtain⟨m1,R⟩:=e.base.SQ a N d
  obtain⟨m2,S⟩:=m.SQ a _ R;exact#[m1++m2,by rw[S,Dg]]
theorem bv:dQ (cc P w) (fe (cc P w) P w K c base N d e f g h i b j a) a:=by
 intro R S T U l V q z;obtain⟨A,C,dd,D,rfl,E,hE⟩:=z;obtain⟨F,G,os,H,I,r,s,t,u⟩:=eL.up q rfl rfl rfl E;have J:=q.ok.frames;refine Hv J rfl s λW o L=>?_;refine#[A,C,dd,D,rfl,#[F,G,os,H,Un.Wh I L o.RX t (λk O m n=>tf s.fr k (bj _ O) m n),pO r λk p m l n=>o.RX k m (u k p m l n),o,t,λk p m l n=>?_],hE];obtain⟨v,Q⟩:=n1 r l;have x:=u k p v l Q;have y:=o.RX k v x;rw[n] at y;cases y;exact x
end
abbrev ef:List Value:=[.type "Exception",.type "BaseException",.type "object"]
def pP(a b:B)(c:ak):Bool:=match c with
 |⟨.type "type",_,.cls cd,d⟩=>(match cd.mro,d.toList with
  | .ref C'::bm,[_,_,_,_,some (.builtin n),_]=>C'==a&&bm==ef&&n== "Exception.__new__"&& !cd.hasDel&&cd.hasDict&&cd.ns==b
  |_,_=>false)
 |_=>false
structure XC(K:aj)(a b:B):Prop where
 obj:∃c,K.lookup a=some c/\pP a b c=true
 ns:ym K b=true
theorem XC.at_{K:aj}{j b:B}{c:Heap}(o:XC K j b)(p:K.In c):∃nm v k l sub m n dd d e f g i,
  c.get? j=some (jm nm v j b k ef true l sub m n dd d e f g i "Exception.__new__")/\c.Ns b (c.nsMap b):=by
 obtain⟨A,w,a⟩:=o.obj;unfold pP at a;split at a
 .rename_i dd x q
  split at a
  .rename_i C D d e f g E i r s
   simp only[bJ,beq_iff_eq,n2] at a;obtain⟨⟨⟨⟨⟨rfl,rfl⟩,rfl⟩,t⟩,u⟩,rfl⟩:=a;obtain⟨nm,k,F,G,y,H,l,sub,m,n,I⟩:=x;dsimp only at r t u;subst r t u;have z:q= #v[d,e,f,g,some (.builtin "Exception.__new__"),i]:=by
    obtain⟨J⟩:=q;simp only at s;rw[s]
   subst z;exact#[nm,y,k,l,sub,m,n,dd,d,e,f,g,i,p _ _ w,.of_isNs (Hy p o.ns)]
  .cases a
 .cases a
theorem XC.none_{K:aj}{d a:B}{b:Heap}{c:Str}(e:XC K d a)(f:K.In b)(g:cn K a c=some none):b.nsMap a c=none:=PySem.W.nsMap_none_of_in f e.ns g
theorem tg{K:aj}{o:h7}{p:a_}{q:Value->M->Prop}{d:M}{a b r s f:B}{g:ak}{i:Bool->M->Prop}(j:K.In d.heap)(t:XC K a r)(u:XC K b s)(k:d.heap.get? f=some g)(l:g.cls=.ref b)
  (hq:i (decide (b=a)) d):wpAny o p (excMatches (.ref f) (.ref a)) i q d:=by
 obtain⟨nm,v,w,x,sub,y,z,dd,A,C,D,E,F,hC,_⟩:=t.at_ j;obtain⟨G,H,I,J,L,N,O,P,Q,R,S,T,U,m,_⟩:=u.at_ j;obtain⟨V,W,X,Y,os⟩:=d;have n:(bN a::ef).contains (.type "BaseException")=true:=by simp[ef]
 have e:(bN b::ef).contains (.ref a)=decide (b=a):=by
  by_cases c:b=a
  .subst c;simp
  .simp[c,b8 c,ef,Hz]
 have Z:=tc_notTuple;unfold excMatches;by_cases c:b=a
 .rw[decide_eq_true c] at e hq
  repeat (first|(with_reducible refine fE k ?_;rw[l])|with_reducible refine fE hC ?_ |(with_reducible refine lV hC ?_;rw[n])|(with_reducible refine lV m ?_;rw[e])|wp_step)
  exact hq
 .rw[decide_eq_false c] at e hq
  repeat (first|(with_reducible refine fE k ?_;rw[l])|with_reducible refine fE hC ?_ |(with_reducible refine lV hC ?_;rw[n])|(with_reducible refine lV m ?_;rw[e])|wp_step)
  exact hq
section
variable{prog:Program}{w:World}{e:a_}{f:Value->M->Prop}{h:Heap}{g:Array m_}{b:o6}{t:Nat}{os:em}{a C N c:B}{o:ak}{vs:Array Value}{v:Value}
 {nm q:Str}{bs:List Value}{sn:List Str}{sub:List Value}{ab:Bool}{col:Option Bool}{dd:Option B}{k0 k1 k2 k3 k5:Option Value}{mN d:Str->Option Value}{name:Str}
theorem HA{tk:Tok}{i:Fin->M->Prop}(hC:h.get? C=some (jm nm q C N bs ef true sn sub ab col dd k0 k1 k2 k3 k5 "Exception.__new__"))(l:h.Ns N mN)(m:mN name=none)
  (hB:ic (.type "Exception") name=pure none)(j:h.get? a=some o)(k:o.cls=.ref C)(n:o.data=.fields vs)(p:o.dict=some c)(r:h.Ns1 c d)(s:d name=some v)(hq:i (.done (.ret v)) #[h,g,b,t,os]):
  wpAny (ar prog w) e (Builtin.«object.__getattribute__» #[[.ref a,.str name tk],[]]) i f #[h,g,b,t,os]:=by
 unfold Builtin.«object.__getattribute__»
 repeat (first|(with_reducible refine fE j ?_;rw[k])|(with_reducible refine pQ hC l n3.mroIs hB ?_;rw[m])|wp_step)
 rw[n];unfold instanceDict
 repeat (first|(with_reducible refine fE j ?_;rw[k])|with_reducible refine fE hC ?_ |wp_step)
 rw[p]
 repeat (first|(with_reducible refine wpAny_nsGet r.ns ?_;rw[s])|wp_step)
 exact hq
end
section
variable{prog:Program}{w:World}{c:a_}{d:Value->M->Prop}{h:Heap}{g:Array m_}{b:o6}{t:Nat}{os:em}{a C N e:B}{o:ak}{vs:Array Value}{v:Value}
 {nm q:Str}{bs:List Value}{sn:List Str}{sub:List Value}{ab:Bool}{col:Option Bool}{dd:Option B}{k0 k1 k2 k3 k5:Option Value}{mN f:Str->Option Value}{name:Str}
theorem HB{i:h7}{e:Value}{f:Unit->M->Prop}(hC:h.get? C=some (jm nm q C N bs ef true sn sub ab col dd k0 k1 k2 k3 k5 "Exception.__new__"))
  (j:h.get? a=some o)(k:o.cls=.ref C)(hq:f () #[h,g,b,t,os]):wpAny i c (yn "BaseException.__getattribute__" #[[.ref a,e],[]]) f d #[h,g,b,t,os]:=by
 have l:builtinKind "BaseException.__getattribute__"=some .slot:=by decide+kernel
 have m:splitId "BaseException.__getattribute__"=some ("BaseException","__getattribute__"):=by decide+kernel
 have n:(bN C::ef).contains (.type "BaseException")=true:=by simp[ef]
 have p:=F.args_bexc_ga (.ref a) e;simp only[yn,l,m];refine ap ?_;unfold isInstance
 repeat (first|(with_reducible refine fE j ?_;rw[k])|(with_reducible refine lV hC ?_;rw[n])|wp_step)
 exact hq
theorem HC{i:Bool}{m:Value->M->Prop}(hC:h.get? C=some (jm nm q C N bs ef true sn sub ab col dd k0 k1 k2 k3 k5 "Exception.__new__"))(j:h.Ns N mN)(n:mN name=none)(p:mN "__getattribute__"=none)(r:mN "__getattr__"=none)
  (hB:ic (.type "Exception") name=pure none)(k:h.get? a=some o)(l:o.cls=.ref C)(s:o.data=.fields vs)(u:o.dict=some e)(x:h.Ns1 e f)(y:f name=some v)(z:handedOut v=pure v)
  (hq:m v #[h,g,b,t+1,os]):wpAny (ar prog w) c (pk (.ref a) name i) m d #[h,g,b,t,os]:=by
 have D:=yo.ga.bind (.ref a);have E:(i&&onTheHeap (pR "BaseException.__getattribute__"))=false:=by cases i<;>rfl
 have A:(pR "BaseException.__getattribute__"==pR "object.__getattribute__")=false:=by decide+kernel
 have G:(onTheHeap (bN C)&&pR "BaseException.__getattribute__"==pR "object.__getattribute__")=false:=by rw[A];rfl
 unfold pk getAttrBy
 repeat (any_goals (first|assumption|(with_reducible refine fE k ?_;rw[l])|(with_reducible refine pQ hC j n3.mroIs yo.ga.lookup ?_;rw[p])|(with_reducible refine pQ hC j n3.mroIs F.attrBase_Exception.noGetattr ?_;rw[r])|wp_step))
 refine HD yo.ga.plain F.entry_bexc_ga (HB hC k l (HA hC j n hB k l s u x y ?_));show wpAny _ _ (handedOut v) _ _ _;rw[z];exact bO hq
end
def lW(c:Cx)(g:XK):Prop:=∀(i:List (B×ak))(j:L2.St)(d:G)(e:M)(b:B)(a:ak)(f:Array Value),O c i j d e->d b=none->c.Sl.heap.get? b=none->e.heap.get? b=some a->
 a.data=.fields f->f[1]? =some .none->(a.dict≠none->f[2]? =some .none)->g a.cls a.dict d->c.xe (.ref b) e
theorem d7{a:Program}{w:World}{K:aj}{c:Str->Option Value}{base:Heap}{d:List Str}{e:Str}{f:cz}{g:B}{i:Value}{j:a_}{k:List bp}{l:M}{m:G}{b:XK}:
  lW (fe (cc a w) a w K c base d e f g i j k l m b) b:=λu v x y z A C n D o p q r s t=>Hx n D o p q r s t
theorem th{e:Cx}{f:List (B×ak)}{g:L2.St}{a:G}{c:M}{b:B}(i:O e f g a c)(j:c.heap.get? b=none):a b=none:=by
 cases k:a b with
 |none=>rfl
 |some l=>
  obtain⟨m,d⟩:=n1 i.Ra k;rw[j] at d;cases d
theorem pS{a:Cx}{e:List (B×ak)}{f:L2.St}{g:G}{c:M}{b:B}(i:O a e f g c)(j:a.ex=[])(k:c.heap.get? b=none):a.Sl.heap.get? b=none:=by
 cases l:a.Sl.heap.get? b with
 |none=>rfl
 |some m=>
  obtain⟨n,d⟩:=i.base.there b m l (by rw[j];simp);rw[k] at d;cases d
section
variable{X:Cx}{a:XK}{x:Str}{C N:B}{b c d:aU}
theorem eY(j:lW X a)(k:X.calm=true)(l:X.ex=[])(m:Gl X x)(n:X.mg x=some (.ref C))(xc:XC X.K C N)(o:cn X.K N "__init__"=some none)(p:(x==("__debug__":Str))=false:=by decide):
  PS X (.Raise (some (.Call (.Name x b) [] [] c)) none d) (λ_ _ g=>a (.ref C) none g):=by
 intro r i s g O e t;obtain⟨nm,u,v,w,sub,y,z,dd,A,D,E,F,G,hC,H⟩:=xc.at_ e.Sh;refine wpAny_Raise_call_sub (C:=C) (nm:=nm) (q:=u) (N:=N) (bs:=v) (bm:=ef) (hdct:=true) (sn:=w) (sub:=sub) (ab:=y) (col:=z) (dd:=dd) (k0:=A) (k1:=D) (k2:=E) (k3:=F) (k5:=G) n3 (mN:=i.heap.nsMap N)
  (e.ok.hd k) rfl (xc.none_ e.Sh o) (j0 e m n #[rfl,?_] p)
 refine evalArgs_empty #[rfl,aR _,hC,H,λP I f=>?_];obtain⟨Q,J,_,_⟩:=f.there;exact j r s g _ I _ _ (e.kept (t':=i.toks) f.keeps) (th e f.new) (pS e l f.new) J rfl rfl (λL=>absurd rfl L) t
end
def kq(a:Cx)(b:List (B×ak))(c:Value->M->Prop):Cx:={a with xe:=c,pn:=a.pn++b}
def ir(a:Cx)(b:B)(c:Value->M->Prop):Cx:={a with A:=a.A.mark (some (.ref b)),calm:=false,xe:=c}
section
variable{X:Cx}{pins f:List (B×ak)}{c:L2.St}{H b:G}{s e:M}{d:Value->M->Prop}{a:B}
theorem HE(a:O X pins c H s):O (kq X pins d) [] c H s:=
 #[#[a.ok.mod,a.ok.kind,a.ok.glob,a.ok.blt,a.ok.above,a.ok.inj,a.ok.has,a.ok.VE,a.ok.hd,a.ok.frames,a.ok.Vt,a.ok.VW,a.ok.bs,a.ok.U9,a.ok.Ur,a.ok.Uw,a.ok.SM,a.ok.Vj],a.os,a.bare,a.base,a.loc,a.cell,a.free,a.RN,
  λb e=>a.pin b (by simpa[kq] using e),a.Ra,a.len]
theorem n4(a:O (kq X pins d) f c H s):O X pins c H s:=
 #[#[a.ok.mod,a.ok.kind,a.ok.glob,a.ok.blt,a.ok.above,a.ok.inj,a.ok.has,a.ok.VE,a.ok.hd,a.ok.frames,a.ok.Vt,a.ok.VW,a.ok.bs,a.ok.U9,a.ok.Ur,a.ok.Uw,a.ok.SM,a.ok.Vj],a.os,a.bare,a.base,a.loc,a.cell,a.free,a.RN,
  λb e=>a.pin b (wo _ (by simpa[kq] using e)),a.Ra,a.len]
theorem tj(b:O X pins c H s):O (ir X a d) pins c H s:=
 #[#[b.ok.mod,b.ok.kind,b.ok.glob,b.ok.blt,b.ok.above,b.ok.inj,b.ok.has,b.ok.VE,λe=>(by cases(e)),b.ok.frames,b.ok.Vt,b.ok.VW,b.ok.bs,b.ok.U9,b.ok.Ur,b.ok.Uw,b.ok.SM,b.ok.Vj],b.os,b.bare,b.base,b.loc,b.cell,b.free,b.RN,b.pin,b.Ra,b.len]
theorem n5(ok:X.Ok)(b:O (ir X a d) pins c H s):O X pins c H s:=
 #[ok,b.os,b.bare,b.base,b.loc,b.cell,b.free,b.RN,b.pin,b.Ra,b.len]
theorem HF{j:c5}{i:lb}(g:SP (kq X pins d) f j i s):SP X pins j i s:=by
 cases i with
 |next=>obtain⟨a,b,c,e⟩:=g;exact#[a,b,n4 c,e]
 |brk=>obtain⟨a,b,c,e⟩:=g;exact#[a,b,n4 c,e]
 |cont=>obtain⟨a,b,c,e⟩:=g;exact#[a,b,n4 c,e]
 |ret m=>obtain⟨k,a,b,c,l,e⟩:=g;exact#[k,a,b,n4 c,l,e]
theorem yp(ok:X.Ok){j:c5}{i:lb}(g:SP (ir X a d) pins j i s):SP X pins j i s:=by
 cases i with
 |next=>obtain⟨c,b,e,f⟩:=g;exact#[c,b,n5 ok e,f]
 |brk=>obtain⟨c,b,e,f⟩:=g;exact#[c,b,n5 ok e,f]
 |cont=>obtain⟨c,b,e,f⟩:=g;exact#[c,b,n5 ok e,f]
 |ret m=>obtain⟨k,c,b,e,l,f⟩:=g;exact#[k,c,b,n5 ok e,l,f]
theorem eL.inv{d fl:Value}{dd:Option B}(f:O X pins c H s)(g:eL X.prog X.w X.stack H s fl a d dd b e):O X pins c b e:=by
 obtain⟨m,n,os,i,j,k,o,p,q⟩:=g;exact f.VD os j k i λr l=>absurd l (by simp)
theorem eL.free{d:Program}{w:World}{f:List bp}{g fl:Value}{dd:Option B}(i:eL d w f H s fl a g dd b e):b a=none:=by
 obtain⟨p,q,os,r,t,j,k,u,l⟩:=i;cases c:b a with
 |none=>rfl
 |some m=>
  obtain⟨n,o⟩:=n1 j c;have:=l a m n c o;rw[k.new] at this;cases this
end
theorem eL.moved{q:Program}{w:World}{d:List bp}{m i:G}{e c:M}{j:B}{n fl r:Value}{dd:Option B}{o:Heap}{f:Heap}(z:e.heap.get? j=none)(os:c.os=e.os)(A:h6 c.gens)(C:Un (bY d) [] m i e.heap c.heap)(s:bG q w i c.heap)
  (D:dX f d j n dd fl c.heap)(t:∀a b,e.heap.get? a=some b->m a=none->a∉bY d->f.get? a=some b)(u:∀a g b,i a=some g->c.heap.get? a=some b->f.get? a=some b)(k:dX f d j n dd r o)(E:dW c.heap o):
  eL q w d m e r j n dd i {c with heap:=o}:=by
 refine#[z,f,os,A,Un.Wh C E k.RX t (tf D.fr),pO s λa g b l p=>k.RX a b (u a g b l p),k,t,λa g b l p=>?_];obtain⟨v,F⟩:=n1 s l;have x:=u a g v l F;have y:=k.RX a v x;rw[p] at y;cases y;exact x
abbrev lX(a:Cx):L2.St:=aP a.N.length none
theorem tm{a:Cx}{c:List (B×ak)}{g:L2.St}{d:G}{e:M}(f:O a c g d e):O a c (lX a) d e:=
 f.weak (by rw[cQ,f.len]) λi j b=>by rw[fY] at b;split at b<;>cases b
abbrev TH:=Value->Option B->c5->G->Prop
def PH(a:Cx)(k:List ExceptHandler)(l:TH):Prop:=∀(b:List (B×ak))(c:c5)(m:L2.St)(d e:G)(f g:M)(i:B)(j:Value)(dd:Option B),O a b m d f->eL a.prog a.w a.stack d f .none i j dd e g->
 l j dd c e->wpAny (ar a.prog a.w) a.A (handleBy (.ref i) a.env k) (SP a b c) a.xe g
def tn(a:Cx)(b:B):Value->M->Prop:=lK (ar a.prog a.w) (a.A.mark (some (.ref b))) a.env (cameBackBy (ar a.prog a.w) a.A a.env a.xe)
section
variable{X:Cx}{x:Str}{C N:B}{f a:aU}{b:aX}{c:List aX}{d:List ExceptHandler}{tr:TH}{e:TS}
theorem jn(w:Gl X x)(y:X.mg x=some (.ref C))(xc:XC X.K C N)(z:∀i,d4 (ir X i (tn X i)) (b::c) e)(A:PH X d tr)(D:(x==("__debug__":Str))=false:=by decide):
  PH X (.ExceptHandler (some (.Name x f)) none (b::c) a::d) (λq dd j m=>∃k s,q=.ref k/\XC X.K k s/\if k=C then e j (lX X) m else tr q dd j m):=by
 intro t j E m u F G i q dd n o g;obtain⟨k,s,rfl,H,g⟩:=g;have l:=o.inv n;obtain⟨aa,ab,ad,ae,af,I,J,_⟩:Tr _ _ _ _ _ _:=o.2.choose_spec.2.2.2.2.1.tr;refine yq (yr ?_) (by intro L;cases L);refine o_ l.ok.kind w (r_ (by rw[l.ok.glob];exact l.mod.glob.keeps l.bk) y ?_) D;refine tg l.Sh xc H I J ?_;by_cases p:k=C
 .rw[decide_eq_true p]
  rw[if_pos p] at g;refine HG ?_;obtain⟨O,ah,os,P,Q,R,v,S,T⟩:=id o;refine jl v λai U V=>?_;have W:=eL.moved O os P Q R v S T U V;have Y:=tm (W.inv n);refine dN (z i t _ _ u j (tj Y) g) (λal Z r=>yp n.ok r) λam Z r=>r
 .rw[decide_eq_false p]
  rw[if_neg p] at g;exact A t j E m u F G i _ dd n o g
theorem to:PH X [] (λ_ _ _ _=>False):=λ_ _ _ _ _ _ _ _ _ _ _ _ a=>a.elim
theorem tp{h0:ExceptHandler}{k:List ExceptHandler}{l:List aX}{m:c5->TS}{n:TH}{E1:c5->XK}(g:X.stack=X.env::X.outer)(v:X.env.frame=some X.env.locals)
  (x:∀d o b,dQ (cc X.prog X.w) (kq X d o) (E1 b)->d4 (kq X d o) l (m b))(y:PH X (h0::k) n)(hE:∀b e dd c,E1 b e dd c->n e dd b c):
  PS X (.Try l (h0::k) [] [] a) (λb i c=>m b b i c):=by
 intro d z i c b p C;refine wpAny_Try_except ?_;have D:X.A.frames=some (X.env::X.outer):=by rw[<-g];exact p.ok.frames
 refine dN (x d _ b ?_ [] z i c b (HE p) C) (λE F j=>?_) λG F j=>j
 .intro af H I J G q K L
  obtain⟨r,e,dd,N,rfl,O,P⟩:=L;have Q:=n4 K;obtain⟨R,S,os,T,U,V,s,W,Y⟩:=O;have Z:=U;have t:dX S X.stack r e dd .none q.heap:=s;rw[g] at t;refine yk D v t λah aa ab=>?_;refine jl aa λad u ae=>?_;rw[<-g] at u;exact y d b H I N J {q with heap:=ad} r e dd Q (eL.moved R os T Z V s W Y u (ab.trans ae)) (hE _ _ _ _ P)
 .have f:=HF j
  cases E with
  |next=>exact pa f
  |brk=>exact f
  |cont=>exact f
  |ret ai=>exact f
end
section
variable{prog:Program}{w:World}{d:a_}{f:Value->M->Prop}{h:Heap}{g:Array m_}{a:o6}{t:Nat}{os:em}{x C N:B}{o:ak}{vs:Array Value}{v:Value}
 {nm q:Str}{bs:List Value}{sn:List Str}{sub:List Value}{ab:Bool}{col:Option Bool}{dd:Option B}{k0 k1 k2 k3 k5:Option Value}{mN:Str->Option Value}{name:Str}{b c e newId:String}{bm:List Value}
def pT(o:ak)(a:B):ak:={cls:=o.cls,dict:=some a,data:=o.data,slots:=o.slots}
theorem HH{tk:Tok}{n:Fin->M->Prop}(p:ys b bm c e)(hC:h.get? C=some (jm nm q C N bs bm true sn sub ab col dd k0 k1 k2 k3 k5 newId))(D:h.Ns N mN)(E:mN name=none)
  (hB:ic (.type b) name=pure none)(k:h.get? x=some o)(F:o.cls=.ref C)(r:o.data=.fields vs)(G:o.dict=none)
  (hq:∀i H,i.get? x=some (pT o h.objs.size)->i.Ns1 h.objs.size (λI=>if I=name then some v else none)->(∀j l,j≠x->h.get? j=some l->i.get? j=some l)->n (.done (.ret .none)) #[i,g,a,H,os]):
  wpAny (ar prog w) d (Builtin.«object.__setattr__» #[[.ref x,.str name tk,v],[]]) n f #[h,g,a,t,os]:=by
 have J:=p.passes (.ref x);unfold Builtin.«object.__setattr__»
 repeat (first|rw[refuse_eq]|(rw[refuseLoop_ref,J])|(with_reducible refine fE k ?_;rw[F])|with_reducible refine wpAny_mroOf_exc hC ?_ |(with_reducible refine pQ hC D p.mro hB ?_;rw[E])|wp_step)
 rw[G,if_neg (by simp[typeHasDict]),r];have s:(h.push {cls:=.type "dict",data:=.dict #v[]}).get? x=some o:=bn _ k;have u:x≠h.objs.size:=cZ (bc k);refine ap (wpAny_alloc' (ap (wpAny_update' s (bO ?_))));generalize hG:((h.push {cls:=.type "dict",data:=.dict #v[]}).update x λo=>{cls:=o.cls,dict:=some h.objs.size,data:=o.data,slots:=o.slots})=m;have K:m.get? h.objs.size=some {cls:=.type "dict",data:=.dict #v[]}:=by
  rw[<-hG];exact(HI _ _ _ _ u.symm).trans (Heap.get?_push_at rfl rfl)
 have L:m.Ns h.objs.size (λ_=>none):=#[_,#v[],_,K,rfl,λU O=>absurd O (by simp),λ_=>rfl];have P:m.get? x=some (pT o h.objs.size):=by
  rw[<-hG];refine lB _ s ?_;exact Hr r
 show wpAny _ _ (HJ h.objs.size (.str name tk) name v) _ _ _;unfold HJ QB;refine ap (bO (ap (EG (EM L) λi y z=>?_)));obtain⟨V,W,X,Q,R,S⟩:=y.count (EH name v Within.nil);refine ap (EI Q (by rw[R];exact EJ (bB S (by rw[bV,xZ,sv];omega))) ?_)
 wp_walk
 refine hq i _ ((z.2 x u).trans P) ?_ λj l T A=>?_
 .exact y
 .refine(z.2 j (cZ (bc A))).trans ?_
  rw[<-hG];exact(HI _ _ _ _ T).trans (bn _ A)
theorem HK{tk:Tok}{k:pm->M->Prop}(f:ys b bm c e)(hC:h.get? C=some (jm nm q C N bs bm true sn sub ab col dd k0 k1 k2 k3 k5 newId))(p:h.Ns N mN)(r:mN name=none)
  (hB:ic (.type b) name=pure none)(l:h.get? x=some o)(m:o.cls=.ref C)(s:o.data=.fields vs)(u:o.dict=none)
  (hq:∀i y,i.get? x=some (pT o h.objs.size)->i.Ns1 h.objs.size (λz=>if z=name then some v else none)->(∀j n,j≠x->h.get? j=some n->i.get? j=some n)->k (.ok (.ret .none)) #[i,g,a,y,os]):
  codeAny (ar prog w) d (.call (.builtin c) #[[.ref x,.str name tk,v],[]]) k #[h,g,a,t,os]:=
 HD f.slot.plain f.entry (wpAny_check_sa f hC l m (HH f hC p r hB l m s u hq))
theorem HL{m:Unit->M->Prop}(j:ys b bm c e)(hC:h.get? C=some (jm nm q C N bs bm true sn sub ab col dd k0 k1 k2 k3 k5 newId))(n:h.Ns N mN)(u:mN "__setattr__"=none)(y:mN name=none)
  (hB:ic (.type b) name=pure none)(p:h.get? x=some o)(r:o.cls=.ref C)(z:o.data=.fields vs)(A:o.dict=none)
  (hq:∀i k,i.get? x=some (pT o h.objs.size)->i.Ns1 h.objs.size (λD=>if D=name then some v else none)->(∀l s,l≠x->h.get? l=some s->i.get? l=some s)->m () #[i,g,a,k,os]):
  wpAny (ar prog w) d (sy (.ref x) name v) m f #[h,g,a,t,os]:=by
 have H:=j.slot.bind (.ref x);unfold sy callSpecial? specialOf
 repeat (any_goals (first|assumption|(with_reducible refine fE p ?_;rw[r])|(with_reducible refine pQ hC n j.mro j.slot.lookup ?_;rw[u])|wp_step))
 refine HK j hC n y hB p r z A λi k E F G=>?_
 repeat (any_goals (first|assumption|wp_step))
 exact hq i k E F G
end
section
variable{c:h7}{a:a_}{b:Value->M->Prop}{d:bp}
variable{nm q:Str}{C N:B}{bs:List Value}{hdct:Bool}{sn:List Str}{sub:List Value}{ab:Bool}{col:Option Bool}{dd:Option B}{k0 k1 k2 k3 k5:Option Value}{newId:String}
theorem HM{l:M}{f:dM Value}{n:lb->M->Prop}(o:a.handled=none)
  (p:wpAny c a f (λm e=>∃g i j,m=.ref g/\e.heap.get? C=some (jm nm q C N bs ef hdct sn sub ab col dd k0 k1 k2 k3 k5 newId)/\
   e.heap.get? g=some i/\i.cls=.ref C/\i.data=.fields j/\j[1]? =some .none/\b (.ref g) e) b l):
  wpAny c a (tq d (some f) none) n b l:=by
 have r:(bN C::ef).contains (.type "BaseException")=true:=by simp[ef]
 unfold tq;refine ap (dN p (λm e s=>?_) λ_ _ f=>f);obtain⟨g,i,j,rfl,hC,k,t,u,D,hE⟩:=s;obtain⟨v,w,x,tk,os⟩:=e;have y:=k
 repeat (first|(with_reducible refine fE k ?_;rw[t])|with_reducible refine fE hC ?_ |(with_reducible refine lV hC ?_;rw[r])|with_reducible refine eX k u D ?_ |wp_step)
 exact wpAny_raiseNew_none o hE
end
section
variable{prog:Program}{w:World}{a:a_}{b:Value->M->Prop}{c:bp}
variable{nm q:Str}{C N a0:B}{bs:List Value}{hdct:Bool}{sn:List Str}{sub:List Value}{ab:Bool}{col:Option Bool}{dd:Option B}{k0 k1 k2 k3 k5:Option Value}{newId:String}
abbrev yt(C a:B):ak:={cls:=.ref C,data:=.fields #v[.ref a,.none,.none,.none,.bool false,.none]}
theorem HN:entryFor table "proto.unchain"=some Builtin.«proto.unchain»:=entryFor_of_tree (by kernel_rfl)
theorem HP{s:M}{d t:dM Value}{A:lb->M->Prop}(E:a.handled=some (.ref a0))
  (F:wpAny (ar prog w) a d (λj g=>∃e l m o,j=.ref e/\e≠a0/\C≠e/\g.heap.get? C=some (jm nm q C N bs ef hdct sn sub ab col dd k0 k1 k2 k3 k5 newId)/\
   g.heap.get? e=some (yt C l)/\g.heap.get? a0=some m/\m.data=.fields o/\o[2]? =some .none/\wpAny (ar prog w) a t (λj n=>j=.none/\n.heap=g.heap/\
    ∀p:Heap,(∀f i,f≠e->g.heap.get? f=some i->p.get? f=some i)->p.get? e=some {yt C l with data:=.fields #v[.ref l,.none,.ref a0,.none,.bool true,.none]}->b (.ref e) {n with heap:=p}) b g) b s):
  wpAny (ar prog w) a (tq c (some d) (some t)) A b s:=by
 have G:(bN C::ef).contains (.type "BaseException")=true:=by simp[ef]
 unfold tq;refine ap (dN F (λj g H=>?_) λ_ _ d=>d);obtain⟨e,l,m,o,rfl,u,R,hC,v,h0,I,J,K⟩:=H;refine ap (pb (dN K (λj n L=>ap (bO ?_)) λ_ _ d=>d));obtain⟨rfl,x,O⟩:=L;obtain⟨S,T,U,tk,os⟩:=n;dsimp only at x;subst x
 repeat (first|with_reducible refine fE v ?_ |with_reducible refine fE hC ?_ |(with_reducible refine lV hC ?_;rw[G])|wp_step)
 have D:=lB (hz λd=>d.setIfInBounds 3 gO) v rfl;have y:=lB (hz λd=>d.setIfInBounds 4 (r6 true)) D rfl;generalize hG:(g.heap.update e (hz λd=>d.setIfInBounds 3 gO)).update e (hz λd=>d.setIfInBounds 4 (r6 true))=P at y⊢;have z:∀f i,f≠e->g.heap.get? f=some i->P.get? f=some i:=λf i k r=>by
  rw[<-hG,ii _ _ (b8 k),ii _ _ (b8 k)];exact r
 have Q:=z a0 m (b8 u) h0;unfold raiseNew;refine ap (wpAny_handled ?_);rw[E];dsimp only;rw[if_pos (show(bN a0 !=bN e)=true by simp[b8 u])];refine ap (pb (wpAny_runValue (codeAny_builtin HN ?_)));unfold Builtin.«proto.unchain»;refine ap (eX Q I J ?_);rw[if_pos (by decide)]
 repeat wp_step
 exact O _ (λf i k r=>(ii _ _ (b8 k)).trans (z f i k r)) (lB _ y rfl)
end
def XE(b c:B)(dd:Option B)(d:Heap):Prop:=∃a e,d.get? b=some a/\a.cls=.ref c/\a.dict=dd/\a.data=.fields #v[.ref e,.none,.none,.none,.bool false,.none]
def XO(c:B)(d:Value)(dd:Option B)(e:Heap):Prop:=∃a b,e.get? c=some a/\a.cls=d/\a.dict=dd/\a.data=.fields b/\(dd≠none->b[2]? =some .none)
theorem XE.st{a b:B}{dd:Option B}(D c:Heap)(f:XE a b dd D)(g:∀d,D.get? a=some d->c.get? a=some d):XE a b dd c:=
 let⟨e,i,j,k⟩:=f;#[e,i,g e j,k]
theorem XO.st{a:B}{b:Value}{dd:Option B}(D c:Heap)(f:XO a b dd D)(g:∀d,D.get? a=some d->c.get? a=some d):XO a b dd c:=
 let⟨e,i,j,k⟩:=f;#[e,i,g e j,k]
section
variable{X:Cx}{pins:List (B×ak)}{b:L2.St}{H:G}{s:M}{a:B}{u:HO}
theorem ts(c:O X pins b H s)(j:H a=none)(p:X.Sl.heap.get? a=none)(q:a≠X.env.locals)(r:∀k g,X.env.cells.lookup k=some g->g≠a)(t:∀l∈X.pn++pins,l.1≠a)
  (ok:bU X.prog X.w (upd H a u) s.heap a u):O X pins b (upd H a u) s:=by
 refine#[c.ok,c.os,c.bare,#[c.base.keep,c.base.slot,λf n d v x=>?_,c.base.there,λf m d=>?_,λf n m d=>?_,λf y d=>?_],c.loc,c.cell,?_,λk g d=>?_,λl o=>?_,λf z d=>?_,c.len]
 .rw[aa (λe=>by rw[e,p] at d;cases d)]
  exact c.base.free f n d v x
 .have e:=c.base.SN f m d
  rw[aa (aK e j)];exact e
 .have e:=c.base.Sw f n m d
  rw[aa (aK e j)];exact e
 .obtain⟨A,e⟩:=c.base.SQ f y d
  exact#[A,by rw[aa (aK e j)];exact e]
 .rw[aa (b8 q)]
  exact c.free
 .rw[aa (r k g d)]
  exact c.RN k g d
 .obtain⟨C,D,E⟩:=c.pin l o
  exact#[C,by rw[aa (t l o)];exact D,E]
 .by_cases e:f=a
  .subst e
   rw[Y] at d;cases d;exact ok
  .rw[aa e] at d
   exact(c.Ra f z d).RX (λ_ _ _ i=>i) (λg i=>by rw[aa (aK i j)];exact i) λg m i=>by rw[aa (aK i j)];exact i
theorem yu{i:ak}{m:Array Value}(j:O X pins b H s)(k:s.heap.get? a=some i)(l:i.data=.fields m):a≠X.env.locals/\ ∀f e,X.env.cells.lookup f=some e->e≠a:=by
 refine#[λg=>?_,λf e n g=>?_]
 .obtain⟨p,⟨o,q,r,c,d,_⟩,_⟩:=j.loc
  rw[<-g,k] at c;cases c;rw[l] at d;cases d
 .obtain⟨t,o,c,d⟩:=j.cell f e n
  rw[g,k] at c;cases c;rw[l] at d;cases d
def gr(a:B)(H:G):G:=λb=>if b=a then none else H b
theorem HQ{n:Heap->Prop}(e:O X pins b H s)(p:H a=some (.ext n))(C:X.Sl.heap.get? a=none):O X pins b (gr a H) s:=by
 have j:∀c i,H c=some i->(∀n,i≠ .ext n)->gr a H c=some i:=λc i d g=>by
  unfold gr;rw[if_neg (λf=>by rw[f,p] at d;cases d;exact g _ rfl)];exact d
 have l:∀c,H c=none->gr a H c=none:=λc d=>by
  unfold gr;split
  .rfl
  .exact d
 refine#[e.ok,e.os,e.bare,#[e.base.keep,e.base.slot,λc o d q r=>l c (e.base.free c o d q r),e.base.there,λc m d=>j c _ (e.base.SN c m d) (λ_ f=>nomatch f),λc o m d=>j c _ (e.base.Sw c o m d) (λ_ f=>nomatch f),λc t d=>?_],e.loc,e.cell,l _ e.free,λu k d=>l _ (e.RN u k d),λv w=>?_,λc i d=>?_,e.len]
 .obtain⟨x,f⟩:=e.base.SQ c t d
  exact#[x,j c _ f (λ_ f=>nomatch f)]
 .obtain⟨y,z,A⟩:=e.pin v w
  exact#[y,l _ z,A]
 .unfold gr at d
  split at d
  .cases d
  .exact(e.Ra c i d).RX (λ_ _ _ g=>g) (λk g=>j k _ g (λ_ f=>nomatch f)) λk m g=>j k _ g (λ_ f=>nomatch f)
end
section
variable{X:Cx}{o c:Expr}{f:Str}{d e:aU}{a b:TE}{C N:B}
def HR(a b:TE)(C:B)(f:Str):TS:=λi e j=>b e j λk l=>a e l λm g=>∃c,m=.ref c/\g c=some (.ext (XE c C none))/\
 ∀d,g d=none->d≠c->i.nx e (upd (upd g c (.ext (XE c C (some d)))) d (.xd [(f,k)]))
theorem HS(L:PE X o a)(P:PE X c b)(Q:i6 c (some (.Attribute o f e)) d.line X.env=pure false)(xc:XC X.K C N)(R:cn X.K N "__setattr__"=some none)
  (S:cn X.K N f=some none)(hB:ic (.type "Exception") f=pure none):PS X (.Assign [.Attribute o f e] c d) (HR a b C f):=by
 intro l T k U aT V W;refine EU (au (P l T k U _ V W) λn Y ⟨t,Z,ab,ad,p⟩=>au (L l Y k Z _ ab p) λae u ⟨aV,q,g,af,i,ah,v,ai⟩=>?_) Q;subst ah;obtain rfl:ae=bN i:=af;obtain⟨nm,aW,aY,aZ,sub,a0,a1,dd,a3,a5,a8,a9,ba,hC,al⟩:=xc.at_ g.Sh;obtain⟨⟨bb,am,x,y,ao,z⟩,_,_⟩:bU X.prog X.w q u.heap i (.ext (XE i C none)):=g.Ra i _ v;have as:=xc.none_ g.Sh R;have aw:=xc.none_ g.Sh S;obtain⟨m,A,D,bd,E⟩:=u;refine HL F.store_Exception hC al as aw hB x y z ao λG H r ax aB=>?_;have aD:=g.lt;have aF:=hm aD;have I:=bc x;have aG:O X l k (upd q i (.ext (XE i C (some m.objs.size)))) #[G,A,D,H,E]:=by
  refine g.write (by rw[v];exact kc) (.inl rfl) (λaH n aI j=>aB aH n aI j) #[_,r] ?_;exact#[#[_,am,r,y,rfl,z],#[_,r],XE.st]
 have J:=g.Ra.fresh (av _);have aJ:O X l k (upd (upd q i (.ext (XE i C (some m.objs.size)))) m.objs.size (.xd [(f,t)])) #[G,A,D,H,E]:=by
  refine ts aG (by rw[aa (hm I)];exact J) ?_ aF (λj aK aL=>?_) (λaM aN=>?_) #[_,ax,λs=>?_]
  .cases p:X.Sl.heap.get? m.objs.size with
   |none=>rfl
   |some be=>exact absurd (cP (bc p) g.sz) (gi _)
  .obtain⟨bf,bi,aO,_⟩:=g.cell j aK aL
   exact cZ (bc aO)
  .exact cZ (bc (g.pin aM aN).1)
  .show eo (ht s [(f,t)]) (if s=f then some n else none)
   by_cases j:s=f
   .subst j
    rw[if_pos rfl];simp only[ht,beq_self_eq_true];exact ad
   .rw[if_neg j]
    have:=beq_eq_false_iff_ne.mpr j;simp only[ht,this];exact kc
 exact#[k,_,aJ,ai _ J (hm I)]
def HU(a:TE)(C:B)(f:Str):TE:=λi j k=>a i j λl b=>∃c d e g,l=.ref c/\b c=some (.ext (XO c (.ref C) (some d)))/\b d=some (.xd e)/\e.lookup f=some g/\k g b
theorem HV(g:PE X o a)(l:jd o f X.env (aA o X.env)=aA o X.env)(xc:XC X.K C N)(m:cn X.K N "__getattribute__"=some none)(n:cn X.K N "__getattr__"=some none)
  (p:cn X.K N f=some none)(hB:ic (.type "Exception") f=pure none):PE X (.Attribute o f d) (HU a C f):=by
 intro q r s t U u v;refine w1 l (au (g q r s t _ u v) λx c ⟨V,i,b,y,e,j,z,A,E,F,G,H,I⟩=>?_);subst E;obtain rfl:x=bN e:=y;obtain⟨nm,Y,Z,aa,sub,ab,ad,dd,ae,af,ah,ai,al,hC,J⟩:=xc.at_ b.Sh;obtain⟨⟨am,ao,g,L,O,P,_⟩,_,_⟩:bU X.prog X.w i c.heap e (.ext (XO e (.ref C) (some j))):=b.Ra e _ F;obtain⟨as,Q,R⟩:bU X.prog X.w i c.heap j (.xd z):=b.Ra j _ G;obtain⟨aw,S,k⟩:=eo.some_of (by rw[<-H];exact R f);have m1:=xc.none_ b.Sh m;have m2:=xc.none_ b.Sh n;have m3:=xc.none_ b.Sh p;have T:=b.tok (c.toks+1);obtain⟨D,ax,aB,aD,aF⟩:=c;exact HC hC J m3 m1 m2 hB g L P O Q S (PySem.W.handedOut_of (wW k)) #[A,i,T,k,I]
end
section
variable{X:Cx}{pins:List (B×ak)}{b:L2.St}{H c:G}{s d:M}{a:B}
theorem HW{k:Heap}{p:Str->Option Value}{v:Nat}(a:O X pins b H s)(w:k.Ns X.env.locals p)(e:nj X.env.locals s.heap k):O X pins (lX X) H {s with heap:=k,toks:=v}:=by
 refine#[a.ok,a.os,a.bare,#[λd f c g l i=>?_,λd f c g l i=>?_,a.base.free,λd f c i=>?_,a.base.SN,a.base.Sw,a.base.SQ],#[p,w,λE m q j n=>?_],λm r c=>?_,a.free,a.RN,λt x=>?_,pO a.Ra λd F f c y=>?_,by rw[cQ]]
 .exact(e.2 d (cZ (cP (bc c) a.ok.above))).trans (a.base.keep d f c g l i)
 .obtain⟨z,j⟩:=a.base.slot d f c g l i
  exact#[z,(e.2 d (cZ (cP (bc c) a.ok.above))).trans j]
 .obtain⟨A,j⟩:=a.base.there d f c i
  exact#[A,(e.2 d (cZ (cP (bc c) a.ok.above))).trans j]
 .rw[fY] at n
  split at n<;>cases n
 .obtain⟨q,o⟩:=a.cell m r c
  exact#[q,o.sameBut e (a.VH m r c)]
 .obtain⟨c,g,u,C,D⟩:=a.pin t x
  exact#[(e.2 t.1 u).trans c,g,u,C,D]
 .exact(e.2 d (λo=>by rw[o,a.free] at c;cases c)).trans y
theorem eL.VB{k fl:Value}{dd:Option B}(g:O X pins b H s)(o:X.ex=[])(p:X.stack=X.env::X.outer)(q:X.env.frame=some X.env.locals)(i:eL X.prog X.w X.stack H s fl a k dd c d):
  O X pins b (upd c a (.ext (XO a k dd))) d:=by
 have l:=i.inv g;have r:=i.free;obtain⟨t,N,os,P,Q,R,m,u,S⟩:=i;obtain⟨v,x,T,U,V,j,y,z,n,A,_⟩:=m.tr;obtain⟨C,D⟩:=yu l j n;refine ts l r (pS g o t) C D (λf E F=>?_) #[#[v,x,j,y,z,n,A],#[_,j],XO.st];obtain⟨G,I,J,K,_⟩:=g.pin f E;have L:f.1∉bY X.stack:=λe=>by
  rw[p] at e;unfold bY at e;rw[ni,q] at e;rcases bw.mp e with e|e
  .exact J e
  .exact K e
 have:=u f.1 f.2 G I L;rw[F,m.new] at this;cases this
end
section
variable{X:Cx}{x n:Str}{C N:B}{f e:aU}{a:aX}{b:List aX}{c:List ExceptHandler}{tr:TH}{d:B->TS}
theorem HX(v:X.ex=[])(w:X.stack=X.env::X.outer)(y:X.env.frame=some X.env.locals)(z:Gl X x)(A:X.mg x=some (.ref C))(xc:XC X.K C N)(D:∀g,d4 (ir X g (tn X g)) (a::b) (d g))(E:PH X c tr)(F:(x==("__debug__":Str))=false:=by decide):
  PH X (.ExceptHandler (some (.Name x f)) none (a::b) e::c) (λo dd j k=>∃l s,o=.ref l/\XC X.K l s/\if l=C then(∀g,k g=none->d g j (lX X) (upd k g (.ext (XO g o dd)))) else tr o dd j k):=by
 intro t j G k H I J g o dd p m i;obtain⟨l,s,rfl,L,i⟩:=i;have n:=m.inv p;obtain⟨ae,af,ah,ai,al,O,P,_⟩:Tr _ _ _ _ _ _:=m.2.choose_spec.2.2.2.2.1.tr;refine yq (yr ?_) (by intro Q;cases Q);refine o_ n.ok.kind z (r_ (by rw[n.ok.glob];exact n.mod.glob.keeps n.bk) A ?_) F;refine tg n.Sh xc L O P ?_;by_cases q:l=C
 .rw[decide_eq_true q]
  rw[if_pos q] at i;refine HG ?_;obtain⟨R,am,os,S,T,U,u,V,W⟩:=id m;refine jl u λao Y Z=>?_;have aa:=eL.moved R os S T U u V W Y Z;have ab:=tm (aa.VB p v w y);refine dN (D g t _ _ _ j (tj ab) (i g m.free)) (λas ad r=>yp p.ok r) λau ad r=>r
 .rw[decide_eq_false q]
  rw[if_neg q] at i;exact E t j G k H I J g _ dd p m i
theorem HY{i:Nat}(R:X.ex=[])(S:X.stack=X.env::X.outer)(T:X.env.frame=some X.env.locals)(U:X.N.Nodup)(V:X.N[i]? =some n)(L:X.env.kindOf n=some .local)(W:X.fn n=true)(Y:Gl X x)(Z:X.mg x=some (.ref C))(xc:XC X.K C N)
  (aa:∀g ab,d4 (ir X g ab) (a::b) (d g))(ad:PH X c tr)(ae:(x==("__debug__":Str))=false:=by decide):
  PH X (.ExceptHandler (some (.Name x f)) (some n) (a::b) e::c) (λD dd l s=>∃t P,D=.ref t/\XC X.K t P/\if t=C then(∀g,s g=none->d g {nx:=λ_ _=>False,rt:=l.rt} ((lX X).set i (some (.ref g))) (upd s g (.ext (XO g D dd)))) else tr D dd l s):=by
 intro o l af s ah ai al g D dd u y p;obtain⟨t,P,rfl,am,p⟩:=p;have z:=y.inv u;obtain⟨aY,aZ,a0,a1,a3,ao,F,_⟩:Tr _ _ _ _ _ _:=y.2.choose_spec.2.2.2.2.1.tr;refine yq (yr ?_) (by intro j;cases j);refine o_ z.ok.kind Y (r_ (by rw[z.ok.glob];exact z.mod.glob.keeps z.bk) Z ?_) ae;refine tg z.Sh xc am ao F ?_;by_cases E:t=C
 .rw[decide_eq_true E]
  rw[if_pos E] at p;refine codeAny_handlers_suite_as ?_;obtain⟨as,a5,os,au,aw,ax,Q,aB,aD⟩:=id y;refine jl Q λa8 aF aG=>?_;have aH:=eL.moved as os au aw ax Q aB aD aF aG;have aI:=tm (aH.VB u R S T);refine o8 (v:=.ref g) aI U V (.inl L) rfl (λaJ aK=>?_) (.inl W);refine dN (aa g _ o aJ _ _ {nx:=λ_ _=>False,rt:=l.rt} (tj aK) (p g y.free)) (λH I q=>?_) λa9 I q=>q;have F:(X.env.scope.kind== .class||(X.env.scope.kind== .module&&X.env.locals !=X.env.globals))=false:=by rw[u.ok.kind];rfl
  have go:∀{r:L2.St}{k:G},O X o r k I->(∀J,O X o (lX X) k J->SP X o l H J)->wpAny (ar X.prog X.w) X.A (do bindName X.env n .none;unbindBehindTheSuite X.env n e) (λ_ aL=>SP X o l H aL) X.xe I:=λ{r k}m aM=>by
   obtain⟨ba,aN,_⟩:=m.loc;exact wpAny_nameGoes L aN F λbb m5 aO aT=>aM _ (HW m aO aT)
  cases H with
  |ret bd=>
   obtain⟨v,r,k,m,aV,j⟩:=q;exact go (n5 u.ok m) λJ aW=>#[v,_,k,aW,aV,j]
  |next=>obtain⟨r,k,m,j⟩:=q;exact dz j
  |brk=>obtain⟨r,k,m,j⟩:=q;exact dz j
  |cont=>obtain⟨r,k,m,j⟩:=q;exact dz j
 .rw[decide_eq_false E]
  rw[if_neg E] at p;exact ad o l af s ah ai al g _ dd u y p
end
section
variable{P:Program}{w:World}{K:aj}{b:Str->Option Value}{base:Heap}{N:List Str}{c:Str}{d:cz}{f:B}{e:Value}{g:a_}{h:List bp}{i:M}{j:G}{a:XK}
theorem HZ{k:B}:lW (ir (fe (cc P w) P w K b base N c d f e g h i j a) k (tn (fe (cc P w) P w K b base N c d f e g h i j a) k)) a:=by
 intro I J L O Q R S l n o p q D r hE;obtain⟨T,s,t,u,v⟩:=yl rfl rfl rfl l n o hE;refine yj l.ok.frames s rfl p t u q D r λU m x=>?_;obtain⟨V,W,X,Y,Z,y,_,_,z,_,A,_⟩:=id m.tr;unfold cameBackBy;refine ap (eX y z A ?_);rw[if_neg (by simp)];refine jl m λaa C E=>?_;exact Hw rfl C λF G H=>v F G ((x.trans E).trans H)
end
section
variable{X:Cx}{a:XK}{x:Str}{C N:B}{b c d e:aU}{j:Nat}
theorem H0{g:B}{n:Value->M->Prop}(r:lW (ir X g n) a)(s:X.ex=[])(t:Gl X x)(u:X.mg x=some (.ref C))(v:ep X.K (.ref C)=true)(xc:XC X.K C N)(y:cn X.K N "__init__"=some none)(z:(x==("__debug__":Str))=false:=by decide):
  PS (ir X g n) (.Raise (some (.Call (.Name x b) [] [] c)) (some (.Constant .none j d)) e) (λ_ _ l=>(∃A E,l g=some (.ext (XO g A (some E))))/\a (.ref C) none l):=by
 intro F o G l aI k H;obtain⟨⟨I,J,L⟩,hE⟩:=H;obtain⟨⟨O,P,p,_,_,Q,R⟩,_,_⟩:bU X.prog X.w l o.heap g (.ext (XO g I (some J))):=k.Ra g _ L;obtain⟨nm,S,T,U,sub,V,W,dd,Y,Z,aa,ad,ae,hC,af⟩:=xc.at_ k.Sh;have ah:=xc.none_ k.Sh y;rw[H1];refine ap (j6 ?_);refine HP (C:=C) (nm:=nm) (q:=S) (N:=N) (bs:=T) (hdct:=true) (sn:=U) (sub:=sub) (ab:=V) (col:=W) (dd:=dd) (k0:=Y) (k1:=Z) (k2:=aa) (k3:=ad) (k5:=ae) (newId:= "Exception.__new__") (a0:=g) rfl ?_;refine ap (dN (kf (j0 k t u (w6 k.Sh v ?_) z)) (λaJ aK ai=>ap (j6 (bO ai))) λ_ _ f=>f);obtain⟨D,aL,aM,al,aN⟩:=o;refine wpAny_call_exc_sub n3 hC af ah λaO m i=>?_;obtain⟨am,ao,_,_⟩:=i.there;have as:m≠g:=λf=>by have:=i.new;rw[f,p] at this;cases this
 have au:C≠m:=λf=>by have:=i.new;rw[<-f,hC] at this;cases this
 refine#[m,am,O,P,rfl,as,au,i.keeps _ _ hC,ao,i.keeps _ _ p,Q,R (by simp),?_];refine ap (r9 (ap (j6 (bO #[rfl,rfl,λaw ax aB=>?_]))));have aD:=k.kept (h':=aw) (t':=al) λaF aG f=>ax aF aG (λaH=>by have:=i.new;rw[<-aH,f] at this;cases this) (i.keeps _ _ f);exact r F G l _ m _ _ aD (th k i.new) (pS k s i.new) aB rfl rfl (λf=>absurd rfl f) hE
end
theorem H2{K:aj}{b:Heap}{c:B}{d:Str->Option Value}{e:Str}{f:Value}(g:K.In b)(i:b.Ns c d)(a:cn K c e=some (some f)):d e=some f:=by
 obtain⟨p,q,r,j,k,_,l⟩:=i;unfold cn at a;split at a
 .rename_i s t u v w m
  have n:=(g _ _ m).symm.trans j;cases n;cases k;split at a
  .rename_i x o
   cases a;rw[<-l];unfold nsFind nH;rw[<-Ez,o];rfl
  .split at a<;>cases a
 .cases a
section
variable{X:Cx}{f d:XK}{CX:fz}{x:Str}{C N a:B}{g:fA}{ps:List Str}{h:Sp}{k:Nat}{i e j:aU}{c:Expr}{b:List Expr}{t:TA}
theorem H3(aD:lW X f)(aF:X.calm=true)(aG:X.ex=[])(aH:Gl X x)(aI:X.mg x=some (.ref C))(aJ:ep X.K (.ref C)=true)(xc:XC X.K C N)(aK:cn X.K N "__init__"=some (some (.ref a)))(aL:ib X.K (.ref a)=true)
  (U:ee X.prog X.w X.K X.mg X.base CX k a g ps h)(aM:bu (k+1) X.A)(aN:fb X.K g ps [])(aO:dQ CX X d)(aT:PA X (c::b) t)
  (aV:(x==("__debug__":Str))=false:=by decide)(aW:az (c::b) X.env=(false,aA c X.env)::az b X.env:=by rfl)(aY:(cB e (az b X.env)).any (·.1)=false:=by rfl):
  PS X (.Raise (some (.Call (.Name x i) (c::b) [] e)) none j) (λ_ n I=>t n I λu r=>u.length<=aq/\ ∀o,r o=none->h (.ref o::u) (upd r o (.ext (XE o C none))) (λJ v=>J=.non/\ ∃dd,v o=some (.ext (XE o C dd))/\f (.ref C) dd (gr o v)) d):=by
 intro y aZ n I bY z a0;rw[H1];refine ap (j6 ?_);obtain⟨nm,a1,a3,a5,sub,a8,a9,dd,ba,bb,bd,be,bf,W,_⟩:=xc.at_ z.mod.VG;refine HM (C:=C) (nm:=nm) (q:=a1) (N:=N) (bs:=a3) (hdct:=true) (sn:=a5) (sub:=sub) (ab:=a8) (col:=a9) (dd:=dd) (k0:=ba) (k1:=bb) (k2:=bd) (k3:=be) (k5:=bf) (newId:= "Exception.__new__") (z.ok.hd aF) ?_;refine ap (dN (kf (j0 z aH aI (px (h₀:=X.base) z.ok.mod.VG aJ (au (aT e y aZ n I _ z a0) λp s ⟨u,r,m,Y,hl,bi⟩=>#[m.Sh,?_]) aW aY) aV)) (λJ bZ bk=>ap (j6 (bO bk))) λ_ _ E=>E);have hC:s.heap.get? C=_:=m.bk _ _ W;have Z:s.heap.Ns N (s.heap.nsMap N):=.of_isNs (Hy m.Sh xc.ns);have bl:s.heap.nsMap N "__init__"=some (.ref a):=H2 m.Sh Z aK;obtain⟨L,bm,bt⟩:∃L,s.heap.get? a=some L/\L.cls=.type "function":=by
  have E:EL X.K (.ref a)=some (.type "function"):=beq_iff_eq.mp aL;obtain⟨bx,bz,bA⟩:=wh.mp E;exact#[bx,m.Sh _ _ bz,bA]
 obtain⟨D,aa,ad,P,ae⟩:=s;refine wpAny_call_exc_init n3 hC Z bl bm bt (λaf l F=>?_) (by show p.length<=aq;rw[<-Y.length];exact hl);obtain⟨bC,Q,_,_⟩:=F.there;have ah:r l=none:=th m F.new;have R:X.Sl.heap.get? l=none:=pS m aG F.new;have ai:O X y n r #[af,aa,ad,P,ae]:=m.kept (t':=P) F.keeps;obtain⟨bD,bF⟩:=yu ai Q rfl;have H:O X y n (upd r l (.ext (XE l C none))) #[af,aa,ad,P,ae]:=ts ai ah R bD bF (λbG bI E=>by
  have:=(m.pin bG bI).1;rw[E,F.new] at this;cases this) #[#[_,bC,Q,rfl,rfl,rfl],#[_,Q],XE.st]
 have hq:=bi l ah;have al:aB (V.ref l::u) (bN l::p):=.cons rfl Y;have bL:(bN l::p++[]).length=ps.length:=by
  rw[eH,<-al.length];exact U.len _ _ _ _ hq
 refine w5 (pu (U.run _ X.stack _ _ #[bN l::p,[]] (bN l::p++[]) (V.ref l::u) _ d (aM.make C p []) (H.VU.make C p []) (aN _ _ H.Sh bL) (by rw[eH];exact al) hq) λrs S G=>?_);cases rs with
 |error bM=>exact aO y n _ _ bM S H G
 |ok fl=>
  cases fl with
  |ret bP=>
   obtain⟨J,v,T,bR,bS,bT,am,hE⟩:=H.after G;subst bS;obtain rfl:bP=gO:=bR;obtain⟨⟨ao,b0,as,aw,bW,ax⟩,_,_⟩:bU X.prog X.w v S.heap l (.ext (XE l C bT)):=T.Ra l _ am;refine#[rfl,l,ao,_,rfl,T.bk _ _ W,as,aw,ax,rfl,?_];refine aD y n (gr l v) S l ao _ (HQ T am R) (by unfold gr;rw[if_pos rfl]) R as ax rfl (λ_=>rfl) ?_;rw[aw,bW];exact hE
  |next=>exact dz G
  |brk=>exact dz G
  |cont=>exact dz G
end
end Ex
end
section
namespace Mb
open PySem PySem.Spec PyProof.Rows L2 Ex
theorem kr{b:Type}{p:List b->Prop}(d:∀a,p [a]):∀c:List b,c.length=1->p c
 |[a],_=>d a
theorem jo{c:Type}{p:List c->Prop}(e:∀a b,p [a,b]):∀d:List c,d.length=2->p d
 |[a,b],_=>e a b
theorem kt{d:Type}{p:List d->Prop}(f:∀a b c,p [a,b,c]):∀e:List d,e.length=3->p e
 |[a,b,c],_=>f a b c
theorem lY{e:Type}{f:List e->Prop}(i:∀a b c d,f [a,b,c,d]):∀g:List e,g.length=4->f g
 |[a,b,c,d],_=>i a b c d
theorem jp{g:Type}{p:List g->Prop}(j:∀a b c d e f,p [a,b,c,d,e,f]):∀i:List g,i.length=6->p i
 |[a,b,c,d,e,f],_=>j a b c d e f
theorem lZ{i:Type}{j:List i->Prop}(l:∀a b c d e f g,j [a,b,c,d,e,f,g]):∀k:List i,k.length=7->j k
 |[a,b,c,d,e,f,g],_=>l a b c d e f g
abbrev dD:List String:=["at","board","gate","hopper","tray","wheel","with"]
def yv(c b:List Str)(a:cz):Bool:=a.kind== .function&& !a.isCoroutine&& !a.isGenerator&&decide c.Nodup&&decide (c.take b.length=b)&&b.all (λd=>a.names.lookup d==some .local||a.names.lookup d==some .cell)&&a.names.all λe=>e.2 != .free
theorem jq{N a:List Str}{b:cz}(c:yv N a b=true):gS N a b:=by
 simp only[yv,bJ,n2,beq_iff_eq,decide_eq_true_eq,io,lM,bne_iff_ne] at c;obtain⟨⟨⟨⟨⟨⟨d,e⟩,f⟩,g⟩,i⟩,j⟩,k⟩:=c;exact#[d,e,f,g,i,j,k]
structure fF(a:Program)(w:World)(K:aj)(e:Str->Option Value)(base:Heap)(f:Nat)(b:B)(c:List Str)(g:Sp):Prop where
 ex:∃d,ee a w K e base (cc a w) f b d c g/\fb K d c []
 kp:ep K (.ref b)=true
structure aD(K:aj)(mg:Str->Option Value)(a:Str)(st:aX)(b:B):Prop where
 ex:∃c,d6 K a a st b c
 mg:mg a=some (.ref b)
structure eg(K:aj)(c:B)(a d:Str)(st:aX)(b:B):Prop where
 ex:∃e,d6 K a d st b e
 me:kb K c a b
section
variable{P:Program}{w:World}{K:aj}{a:Str->Option Value}{base:Heap}
abbrev jr(c d:Str)(st:aX)(b:List Str):Prop:=∀(kV e f:Value)(g:Option B)(i j:Value)(a:List Value),a.length=b.length->sE (ki c d (jS st) (gN st) (bi st) .none kV e f g i j) #[a,[]]=pure (b.zip a)
theorem tt{q f:Str}{st:aX}{g:B}{t:fA}{m i:List Str}{r:Nat}{n:Sp}(o:d6 K q f st g t)(u:gS m i (bi st))(v:jr q f st i)(x:∀b c d e,n b c d e->b.length=i.length)
  (y:∀(j:Value)(k:a_)(p:List bp)(l:M)(c:G)(b:List V)(d:VK)(e:XK),bu r (k.deeper (gU f (bi st) l.heap.objs.size g j))->n b c d e->
   ∃s,d4 (fe (cc P w) P w K a base m f (bi st) g j k p l c e) (gN st) s/\s {nx:=λ_ z=>d .non z,rt:=d} (start m b) c):fF P w K a base (r+1) g i n:=by
 have hB:=o.binds v;have A:=o.kp;obtain⟨F,H,kV,I,J,L,j,N,O,rfl,lk,C⟩:=o.ex;refine#[#[_,xj lk C u x λk p l c b d e D E=>y j k p l c b d e D E,hB],A]
theorem yw{q f:Str}{st:aX}{g:B}{s:fA}{n i:List Str}{r:Nat}{o:Sp}(t:d6 K q f st g s)(u:gS n i (bi st))(v:jr q f st i)(x:∀b c d e,o b c d e->b.length=i.length)
  (y:∀(j:Value)(k:a_)(p:List bp)(l:M)(c:G)(b:List V)(d:VK)(e:XK),bu r (k.deeper (gU f (bi st) l.heap.objs.size g j))->o b c d e->
   ∃m,d4 (fe (cc P w) P w K a base n f (bi st) g j k p l c e).V2 (gN st) m/\m {nx:=λ_ z=>d .non z,rt:=d} (start n b) c):fF P w K a base (r+1) g i o:=
 tt t u v x λj k p l c b d e A C=>let⟨m,D,E⟩:=y j k p l c b d e A C;#[m,D.V2,E]
theorem fF.mono{b c:Nat}{d:B}{e:List Str}{f:Sp}(g:fF P w K a base b d e f)(i:b<=c):fF P w K a base c d e f:=let⟨j,k,l⟩:=g.ex;#[#[j,k.mono i,l],g.kp]
end
section
variable{X:Cx}{c:XK}
theorem eh:dQ (cc X.prog X.w) X E0:=λ_ _ _ _ _ _ _ ⟨_,_,_,_,_,_,a⟩=>a.elim
variable{k:Nat}{f:B}{ps:List Str}{sp:Sp}{x:Str}{p a d:aU}{e:Expr}{b:List Expr}{t:TA}{o:Expr}{g:TE}{C:B}{m:Str}
theorem tv(d:fF X.prog X.w X.K X.mg X.base k f ps sp)(g:bu k X.A)(i:Gl X x)(j:X.mg x=some (.ref f))(l:dQ (cc X.prog X.w) X c)
  (m:PA X (e::b) t)(n:(x==("__debug__":Str))=false:=by decide)(o:az (e::b) X.env=(false,aA e X.env)::az b X.env:=by rfl)(q:(cB a (az b X.env)).any (·.1)=false:=by rfl):
  PE X (.Call (.Name x p) (e::b) [] a) (ke sp [] c t):=by
 obtain⟨⟨v,r,s⟩,u⟩:=d;exact E_ r g i j u s .nil l m n o q
theorem H4{j:dM Bool}(l:PE X o g)(n:dP X.K C)(p:kb X.K C m f)(q:fF X.prog X.w X.K X.mg X.base k f ps sp)(r:bu k X.A)(s:dQ (cc X.prog X.w) X c)(u:PA X (e::b) t)
  (v:az (e::b) X.env=(false,aA e X.env)::az b X.env:=by rfl)(x:(cB a (az b X.env)).any (·.1)=false:=by rfl)
  (y:aA (.Call (.Attribute o m d) (e::b) [] a) X.env=(do
   let i<-aA o X.env
   i3 d.atName
   let(f,first)<-gP [i] (ka i m j)
   nJ a f first (cB a (az (e::b) X.env)) (ly a (lz [] X.env))):=by rfl):
  PE X (.Call (.Attribute o m d) (e::b) [] a) (gn C m sp [] c g t):=by
 obtain⟨⟨E,z,D⟩,F⟩:=q;exact Fa l n p z r D .nil s u v x y
theorem H5{e:dM Bool}(i:PE X o g)(j:dP X.K C)(l:kb X.K C m f)(n:fF X.prog X.w X.K X.mg X.base k f ps sp)(p:bu k X.A)(q:dQ (cc X.prog X.w) X c)
  (r:aA (.Call (.Attribute o m d) [] [] a) X.env=(do
   let b<-aA o X.env
   i3 d.atName
   let(f,first)<-gP [b] (ka b m e)
   nJ a f first (cB a (az [] X.env)) (ly a (lz [] X.env))):=by rfl):
  PE X (.Call (.Attribute o m d) [] [] a) (gn C m sp [] c g c1):=by
 obtain⟨⟨u,s,t⟩,v⟩:=n;exact Fc i j l s p t .nil q r
theorem tw{l:Nat}{m:Str}(u:PE X (.Name m p) (b2 l))(v:fF X.prog X.w X.K X.mg X.base k f ps sp)(x:bu k X.A)(y:dQ (cc X.prog X.w) X c)
  (z:PA X (e::b) t)(C:az (e::b) X.env=(false,aA e X.env)::az b X.env:=by rfl)(D:(cB a (az b X.env)).any (·.1)=false:=by rfl):
  PE X (.Call (.Name m p) (e::b) [] a) (λd g i=>d[l]? =some (some (.ref f))/\ke sp [] c t d g i):=by
 obtain⟨⟨T,E,F⟩,G⟩:=v;intro n H d g i o q;refine kf (au (u n H d g (λr j=>r=.ref f/\j=g/\ke sp [] c t d g i) o (by show oS _ _;rw[q.1];exact#[rfl,rfl,q.2])) λI J ⟨r,j,L,N,O,P,Q⟩=>?_);subst O P;obtain rfl:I=bN f:=N;refine px o.ok.mod.VG G (au (z a n J d j _ L Q) λU V ⟨W,Y,s,R,S⟩=>#[s.Sh,?_]) C D;exact pr E x F .nil y s R S
def cG(a:Str->Option Value)(x:Str)(b:Int):Prop:=∃t,a x=some (.int b t)
theorem bR{b:Int}(c:Gl X x)(d:cG X.mg x b)(f:(x==("__debug__":Str))=false:=by decide):PE X (.Name x a) (tC (.int b)):=by
 obtain⟨t,e⟩:=d;exact i2 c e #[t,rfl] f
def yx(a:Str->Option Value)(x:Str)(b:Str):Prop:=∃t,a x=some (.str b t)
theorem H6{b:Str}(c:Gl X x)(d:yx X.mg x b)(f:(x==("__debug__":Str))=false:=by decide):PE X (.Name x a) (tC (.str b)):=by
 obtain⟨t,e⟩:=d;exact i2 c e #[t,rfl] f
def H7(K:aj)(b:Str->Option Value)(x:Str)(c:List V):Prop:=∃a,b x=some (.ref a)/\ ∀d,a8 K d a c
end
def ao(c:Program)(w:World)(K:aj)(a:Str->Option Value)(base:Heap)(d:Nat)(e:Str)(f:List Str)(g:Sp):Prop:=∃b,fF c w K a base d b f g/\a e=some (.ref b)
def bW(b:Program)(w:World)(K:aj)(c:Str->Option Value)(base:Heap)(d:Nat)(e:B)(f:Str)(g:List Str)(i:Sp):Prop:=∃a,fF b w K c base d a g i/\kb K e f a
def d8(a:Program)(w:World)(K:aj)(b:Str->Option Value)(base:Heap)(g:Nat)(c:B)(i:Str)(d:List Str)(j:Sp):Prop:=∃e f,ee a w K b base (cc a w) g e f d j/\fb K f d []/\Mk K c e/\b i=some (.ref c)
section
variable{P:Program}{w:World}{K:aj}{a:Str->Option Value}{base:Heap}{x b:Str}{st:aX}{ps:List Str}{k:Nat}{sp:Sp}{C:B}
abbrev pU(P:Program)(w:World)(K:aj)(a:Str->Option Value)(base:Heap)(b:Str)(st:aX)(c:List Str)(k:Nat)(sp:Sp):Prop:=
 ∀{f:B}{g:Value}{i:a_}{o:List bp}{j:M}(d:G)(l:List V)(e:VK)(m:XK),bu k (i.deeper (gU b (bi st) j.heap.objs.size f g))->c.Nodup->sp l d e m->
   ∃n,d4 (fe (cc P w) P w K a base c b (bi st) f g i o j d m) (gN st) n/\n {nx:=λ_ p=>e .non p,rt:=e} (start c l) d
abbrev ku(P:Program)(w:World)(K:aj)(a:Str->Option Value)(base:Heap)(b:Str)(st:aX)(c:List Str)(k:Nat)(sp:Sp):Prop:=
 ∀{f:B}{g:Value}{i:a_}{o:List bp}{j:M}(d:G)(l:List V)(e:VK)(m:XK),bu k (i.deeper (gU b (bi st) j.heap.objs.size f g))->c.Nodup->sp l d e m->
   ∃n,d4 (fe (cc P w) P w K a base c b (bi st) f g i o j d m).V2 (gN st) n/\n {nx:=λ_ p=>e .non p,rt:=e} (start c l) d
theorem ku.up{d:List Str}(c:ku P w K a base b st d k sp):pU P w K a base b st d k sp:=λe f g i j nd l=>let⟨m,c,n⟩:=c e f g i j nd l;#[m,c.V2,n]
theorem bL(c:∃d,aD K a x st d)(i:List Str)(l:pU P w K a base x st i k sp)(m:∀b e f g,sp b e f g->b.length=ps.length:=by intro _ _ _ _ n;cases n;subst_vars;rfl)(j:gS i ps (bi st):=by exact jq (by decide+kernel))(o:jr x x st ps:=by intro _ _ _ _ _ _;first|exact kr λ_=>rfl|exact jo λ_ _=>rfl|exact kt λ_ _ _=>rfl|exact lY λ_ _ _ _=>rfl|exact r λ_ _ _ _ _=>rfl|exact jp λ_ _ _ _ _ _=>rfl|exact lZ λ_ _ _ _ _ _ _=>rfl|exact s rfl):ao P w K a base (k+1) x ps sp:=by
 obtain⟨d,⟨t,c⟩,p⟩:=c;exact#[d,tt c j o m λ_ _ _ _ e b f g q=>l e b f g q j.nd,p]
theorem bS(d:∃e,aD K a x st e)(b:List Str)(f:ku P w K a base x st b k sp)(g:∀c i j l,sp c i j l->c.length=ps.length:=by intro _ _ _ _ m;cases m;subst_vars;rfl)(n:gS b ps (bi st):=by exact jq (by decide+kernel))(o:jr x x st ps:=by intro _ _ _ _ _ _;first|exact kr λ_=>rfl|exact jo λ_ _=>rfl|exact kt λ_ _ _=>rfl|exact lY λ_ _ _ _=>rfl|exact p λ_ _ _ _ _=>rfl|exact jp λ_ _ _ _ _ _=>rfl|exact lZ λ_ _ _ _ _ _ _=>rfl|exact q rfl):ao P w K a base (k+1) x ps sp:=bL d b f.up g n o
theorem fj(d:∃e,eg K C x b st e)(j:List Str)(m:pU P w K a base b st j k sp)(n:∀c f g i,sp c f g i->c.length=ps.length:=by intro _ _ _ _ o;cases o;subst_vars;rfl)(l:gS j ps (bi st):=by exact jq (by decide+kernel))(p:jr x b st ps:=by intro _ _ _ _ _ _;first|exact kr λ_=>rfl|exact jo λ_ _=>rfl|exact kt λ_ _ _=>rfl|exact lY λ_ _ _ _=>rfl|exact s λ_ _ _ _ _=>rfl|exact jp λ_ _ _ _ _ _=>rfl|exact lZ λ_ _ _ _ _ _ _=>rfl|exact t rfl):bW P w K a base (k+1) C x ps sp:=by
 obtain⟨e,⟨u,d⟩,q⟩:=d;exact#[e,tt d l p n λ_ _ _ _ f c g i r=>m f c g i r l.nd,q]
theorem yy(e:∃f,eg K C x b st f)(c:List Str)(g:ku P w K a base b st c k sp)(i:∀d j l m,sp d j l m->d.length=ps.length:=by intro _ _ _ _ n;cases n;subst_vars;rfl)(o:gS c ps (bi st):=by exact jq (by decide+kernel))(p:jr x b st ps:=by intro _ _ _ _ _ _;first|exact kr λ_=>rfl|exact jo λ_ _=>rfl|exact kt λ_ _ _=>rfl|exact lY λ_ _ _ _=>rfl|exact q λ_ _ _ _ _=>rfl|exact jp λ_ _ _ _ _ _=>rfl|exact lZ λ_ _ _ _ _ _ _=>rfl|exact r rfl):bW P w K a base (k+1) C x ps sp:=fj e c g.up i o p
theorem tx{i:B}{d:fA}(j:d6 K x b st i d)(l:List Str)(n:pU P w K a base b st l k sp)(o:∀c e f g,sp c e f g->c.length=ps.length:=by intro _ _ _ _ p;cases p;subst_vars;rfl)(m:gS l ps (bi st):=by exact jq (by decide+kernel))(q:jr x b st ps:=by intro _ _ _ _ _ _;first|exact kr λ_=>rfl|exact jo λ_ _=>rfl|exact kt λ_ _ _=>rfl|exact lY λ_ _ _ _=>rfl|exact u λ_ _ _ _ _=>rfl|exact jp λ_ _ _ _ _ _=>rfl|exact lZ λ_ _ _ _ _ _ _=>rfl|exact v rfl):ee P w K a base (cc P w) (k+1) i d ps sp/\fb K d ps []:=by
 have hB:=j.binds q;obtain⟨y,z,kV,A,C,D,E,F,G,rfl,lk,r⟩:=j.ex;exact#[xj lk r m o λH I J e c f g s t=>n e c f g s m.nd t,hB]
theorem kv{g:Str}(d:∃c e,d6 K x b st c e/\Mk K C c)(j:a g=some (.ref C))(f:List Str)(l:ku P w K a base b st f k sp)(m:∀i n o p,sp i n o p->i.length=ps.length:=by intro _ _ _ _ q;cases q;subst_vars;rfl)(r:gS f ps (bi st):=by exact jq (by decide+kernel))(s:jr x b st ps:=by intro _ _ _ _ _ _;first|exact kr λ_=>rfl|exact jo λ_ _=>rfl|exact kt λ_ _ _=>rfl|exact lY λ_ _ _ _=>rfl|exact y λ_ _ _ _ _=>rfl|exact jp λ_ _ _ _ _ _=>rfl|exact lZ λ_ _ _ _ _ _ _=>rfl|exact z rfl):d8 P w K a base (k+1) C g ps sp:=by
 obtain⟨c,e,d,t⟩:=d;obtain⟨u,v⟩:=tx d f l.up m r s;exact#[c,e,u,v,t,j]
end
section
variable{X:Cx}{f:XK}{k:Nat}{ps:List Str}{sp:Sp}{x:Str}{p b i:aU}{e:Expr}{a:List Expr}{t:TA}{o:Expr}{l:TE}{C:B}{m:Str}
theorem l0(c:ao X.prog X.w X.K X.mg X.base k x ps sp)(d:bu k X.A)(g:Gl X x)(i:dQ (cc X.prog X.w) X f)(j:PA X (e::a) t)(l:(x==("__debug__":Str))=false:=by decide)
  (m:az (e::a) X.env=(false,aA e X.env)::az a X.env:=by rfl)(n:(cB b (az a X.env)).any (·.1)=false:=by rfl):PE X (.Call (.Name x p) (e::a) [] b) (ke sp [] f t):=by
 obtain⟨q,c,o⟩:=c;exact tv c d g o i j l m n
theorem b6{j:dM Bool}(n:PE X o l)(p:dP X.K C)(c:bW X.prog X.w X.K X.mg X.base k C m ps sp)(q:bu k X.A)(r:dQ (cc X.prog X.w) X f)(s:PA X (e::a) t)
  (u:az (e::a) X.env=(false,aA e X.env)::az a X.env:=by rfl)(v:(cB b (az a X.env)).any (·.1)=false:=by rfl)
  (x:aA (.Call (.Attribute o m i) (e::a) [] b) X.env=(do
   let d<-aA o X.env
   i3 i.atName
   let(g,first)<-gP [d] (ka d m j)
   nJ b g first (cB b (az (e::a) X.env)) (ly b (lz [] X.env))):=by rfl):
  PE X (.Call (.Attribute o m i) (e::a) [] b) (gn C m sp [] f l t):=by
 obtain⟨g,c,y⟩:=c;exact H4 n p y c q r s u v x
theorem dn{e:dM Bool}(g:PE X o l)(j:dP X.K C)(a:bW X.prog X.w X.K X.mg X.base k C m ps sp)(n:bu k X.A)(p:dQ (cc X.prog X.w) X f)
  (q:aA (.Call (.Attribute o m i) [] [] b) X.env=(do
   let c<-aA o X.env
   i3 i.atName
   let(d,first)<-gP [c] (ka c m e)
   nJ b d first (cB b (az [] X.env)) (ly b (lz [] X.env))):=by rfl):
  PE X (.Call (.Attribute o m i) [] [] b) (gn C m sp [] f l c1):=by
 obtain⟨d,a,r⟩:=a;exact H5 g j r a n p q
theorem H8(c:d8 X.prog X.w X.K X.mg X.base k C x ps sp)(d:bu (k+1) X.A)(g:Gl X x)(i:dQ (cc X.prog X.w) X f)(j:PA X (e::a) t)(l:(x==("__debug__":Str))=false:=by decide)
  (m:az (e::a) X.env=(false,aA e X.env)::az a X.env:=by rfl)(n:(cB b (az a X.env)).any (·.1)=false:=by rfl):PE X (.Call (.Name x p) (e::a) [] b) (hu C sp [] f t):=by
 obtain⟨u,v,o,q,r,s⟩:=c;exact Fd r o d g s q .nil i j l m n
theorem aH(c:ao X.prog X.w X.K X.mg X.base k x ps sp)(d:PA X (e::a) t)(f:bu k X.A:=by first|assumption|exact bu.mono (by assumption) (by decide))(g:Gl X x:=by rfl)(i:(x==("__debug__":Str))=false:=by decide)(j:az (e::a) X.env=(false,aA e X.env)::az a X.env:=by rfl)(l:(cB b (az a X.env)).any (·.1)=false:=by rfl):PE X (.Call (.Name x p) (e::a) [] b) (ke sp [] E0 t):=l0 c f g eh d i j l
theorem bz(c:ao X.prog X.w X.K X.mg X.base k x ps sp)(d:PA X (e::a) t)(g:bu k X.A:=by first|assumption|exact bu.mono (by assumption) (by decide))(i:dQ (cc X.prog X.w) X f:=by exact bv)(j:Gl X x:=by rfl)(l:(x==("__debug__":Str))=false:=by decide)(m:az (e::a) X.env=(false,aA e X.env)::az a X.env:=by rfl)(n:(cB b (az a X.env)).any (·.1)=false:=by rfl):PE X (.Call (.Name x p) (e::a) [] b) (ke sp [] f t):=l0 c g j i d l m n
theorem dq(c:d8 X.prog X.w X.K X.mg X.base k C x ps sp)(d:PA X (e::a) t)(f:bu (k+1) X.A:=by first|assumption|exact bu.mono (by assumption) (by decide))(g:Gl X x:=by rfl)(i:(x==("__debug__":Str))=false:=by decide)(j:az (e::a) X.env=(false,aA e X.env)::az a X.env:=by rfl)(l:(cB b (az a X.env)).any (·.1)=false:=by rfl):PE X (.Call (.Name x p) (e::a) [] b) (hu C sp [] E0 t):=H8 c f g eh d i j l
theorem al(a:Nat){c:TE}(d:PE X e c)(f:X.N.Nodup:=by assumption)(g:X.N[a]? =some x:=by rfl)(i:jZ X.env.scope x:=by first|exact iq rfl|exact jk rfl)(j:i6 e (some (.Name x p)) b.line X.env=pure false:=by rfl)(k:X.fn x=true\/X.env.scope.names.lookup x=some .local:=by first|exact .inl rfl|exact .inr rfl|assumption):PS X (.Assign [.Name x p] e b) (i7 c (gQ a)):=DO f g i d j k
theorem aO(a:Nat)(c:X.N.Nodup:=by assumption)(d:X.N[a]? =some x:=by rfl)(e:jZ X.env.scope x:=by first|exact iq rfl|exact jk rfl)(f:X.fn x=true\/X.env.scope.names.lookup x=some .local:=by first|exact .inl rfl|exact .inr rfl|assumption):PG X (.Name x b) (gQ a):=DH c d e f
theorem ah(a:Nat)(c:X.N[a]? =some x:=by rfl)(d:jY X.env.scope x:=by first|exact iq rfl|exact jk (iq rfl)|exact jk (jk rfl))(e:(x==("__debug__":Str))=false:=by decide)(f:(x==("__classdict__":Str))=false:=by decide)(g:jd (.Name x p) m X.env (aA (.Name x p) X.env)=aA (.Name x p) X.env:=by rfl):PE X (.Attribute (.Name x p) m b) (pp X.K (b2 a) m):=fX (E a c d e f) g
theorem aI{c a:Expr}{d e:TE}(f:PE X c d)(g:PE X a e)(i:xr a:=by exact λ_ _=>rfl):PE X (.Subscript c a b) (jb (kj X.K) d e):=dR lA f g i
variable{c d g:Expr}{h j k m:TE}
theorem af(a:PE X e h)(b:az [e] X.env=(false,aA e X.env)::az [] X.env:=by rfl):PA X [e] (bx h c1):=dg a er b
theorem aL(a:PE X e h)(b:PE X c j)(d:az [e,c] X.env=(false,aA e X.env)::az [c] X.env:=by rfl)(f:az [c] X.env=(false,aA c X.env)::az [] X.env:=by rfl):PA X [e,c] (bx h (bx j c1)):=dg a (af b f) d
theorem bD(a:PE X e h)(b:PE X c j)(f:PE X d k)(g:az [e,c,d] X.env=(false,aA e X.env)::az [c,d] X.env:=by rfl)(i:az [c,d] X.env=(false,aA c X.env)::az [d] X.env:=by rfl)(l:az [d] X.env=(false,aA d X.env)::az [] X.env:=by rfl):PA X [e,c,d] (bx h (bx j (bx k c1))):=dg a (aL b f i l) g
theorem eZ(a:PE X e h)(b:PE X c j)(f:PE X d k)(i:PE X g m)(l:az [e,c,d,g] X.env=(false,aA e X.env)::az [c,d,g] X.env:=by rfl)(n:az [c,d,g] X.env=(false,aA c X.env)::az [d,g] X.env:=by rfl)(o:az [d,g] X.env=(false,aA d X.env)::az [g] X.env:=by rfl)(p:az [g] X.env=(false,aA g X.env)::az [] X.env:=by rfl):PA X [e,c,d,g] (bx h (bx j (bx k (bx m c1)))):=dg a (bD b f i n o p) l
end
structure Cs where
 Part:B
 RL:B
 Board:B
 Token:B
 RP:B
 RR:B
 Q6:B
 Rb:B
 Ss:B
 Rr:B
 Tn:B
 Rs:B
 S7:B
 Rp:B
 SJ:B
 RQ:B
 Tk:B
 RU:B
 Tt:B
 Rf:B
 Sr:B
 RK:B
 Tq:B
 Run:B
 Bench:B
structure Tx(K:aj)(b:Str->Option Value)(c:Cs):Prop where
 VO:b "Part"=some (.ref c.Part)
 Q7:dP K c.Part
 VZ:∃a d,d6 K "__init__" "Part.__init__" (cY (am 1) 0) a d/\Mk K c.Part a
 Q8:bZ K c.Part "kind"
 Ru:bZ K c.Part "name"
 Re:bZ K c.Part "ways"
 Rg:bZ K c.Part "turn"
 RG:bZ K c.Part "first"
 R4:bZ K c.Part "told"
 Vb:b "Hopper"=some (.ref c.RL)
 RB:dP K c.RL
 Vf:∃a d,d6 K "__init__" "Hopper.__init__" (cY (am 2) 0) a d/\Mk K c.RL a
 R6:bZ K c.RL "name"
 Rm:bZ K c.RL "part"
 VA:b "Board"=some (.ref c.Board)
 Q5:dP K c.Board
 Vw:∃a d,d6 K "__init__" "Board.__init__" (cY (am 3) 0) a d/\Mk K c.Board a
 Q3:bZ K c.Board "parts"
 Q4:bZ K c.Board "hoppers"
 Te:∃a,aD K b "parts_of_kind" (am 4) a
 SG:∃a,aD K b "with_numbers_told" (am 5) a
 TQ:∃a,aD K b "part_tokens" (am 6) a
 U4:∃a,aD K b "printed" (am 7) a
 Vy:H7 K b "WORDS" [.str "at",.str "board",.str "gate",.str "hopper",.str "tray",.str "wheel",.str "with"]
 U1:yx b "LETTERS" "abcdefghijklmnopqrstuvwxyz"
 Tf:cG b "MOST_LETTERS" 16
 TN:cG b "MOST_DIGITS" 3
 Vq:cG b "BLANK" 32
 UN:cG b "LINE_END" 10
 UL:cG b "ZERO" 48
 VY:cG b "NINE" 57
 Uq:cG b "SEMICOLON" 59
 To:cG b "LETTER_A" 97
 UQ:cG b "LETTER_Z" 122
 Vv:b "Token"=some (.ref c.Token)
 Rt:dP K c.Token
 Vz:∃a d,d6 K "__init__" "Token.__init__" (cY (am 20) 0) a d/\Mk K c.Token a
 Se:bZ K c.Token "kind"
 Rj:bZ K c.Token "value"
 RJ:bZ K c.Token "place"
 UB:∃a,aD K b "is_letter" (am 21) a
 UO:∃a,aD K b "is_digit" (am 22) a
 UW:∃a,aD K b "row_end" (am 23) a
 S9:∃a,aD K b "letters_token" (am 24) a
 Th:∃a,aD K b "digits_token" (am 25) a
 VR:∃a,aD K b "scan" (am 26) a
 Uf:cG b "MOST_PARTS" 64
 Tg:cG b "MOST_HOPPERS" 8
 Uc:cG b "LEAST_WAYS" 2
 Um:cG b "MOST_WAYS" 4
 S4:cG b "LEAST_TOGETHER" 2
 S8:cG b "MOST_TOGETHER" 100
 T1:b "Fault"=some (.ref c.RP)
 Sb:XC K c.RP c.RR
 Vp:ep K (.ref c.RP)=true
 Vu:∃a d,d6 K "__init__" "Fault.__init__" (cY (am 34) 0) a d/\cn K c.RR "__init__"=some (some (.ref a))/\ib K (.ref a)=true
 S1:cn K c.RR "__setattr__"=some none
 Sj:cn K c.RR "__getattribute__"=some none
 S2:cn K c.RR "__getattr__"=some none
 Sx:cn K c.RR "place"=some none
 Vi:b "Reader"=some (.ref c.Q6)
 Q2:dP K c.Q6
 Vd:∃a d,d6 K "__init__" "Reader.__init__" (cY (am 35) 0) a d/\Mk K c.Q6 a
 Ta:∃a,eg K c.Q6 "sees" "Reader.sees" (cY (am 35) 1) a
 S_:∃a,eg K c.Q6 "take" "Reader.take" (cY (am 35) 2) a
 R5:∃a,eg K c.Q6 "take_new_name" "Reader.take_new_name" (cY (am 35) 3) a
 Sn:∃a,eg K c.Q6 "take_part" "Reader.take_part" (cY (am 35) 4) a
 Sc:∃a,eg K c.Q6 "take_number" "Reader.take_number" (cY (am 35) 5) a
 SH:∃a,eg K c.Q6 "end_part" "Reader.end_part" (cY (am 35) 6) a
 Sy:∃a,eg K c.Q6 "read_tray" "Reader.read_tray" (cY (am 35) 7) a
 Si:∃a,eg K c.Q6 "read_wheel" "Reader.read_wheel" (cY (am 35) 8) a
 Sz:∃a,eg K c.Q6 "read_gate" "Reader.read_gate" (cY (am 35) 9) a
 Sk:∃a,eg K c.Q6 "read_first" "Reader.read_first" (cY (am 35) 10) a
 Sf:∃a,eg K c.Q6 "read_hopper" "Reader.read_hopper" (cY (am 35) 11) a
 Sm:∃a,eg K c.Q6 "read_parts" "Reader.read_parts" (cY (am 35) 12) a
 R8:∃a,eg K c.Q6 "read_hoppers" "Reader.read_hoppers" (cY (am 35) 13) a
 RY:bZ K c.Q6 "tokens"
 RV:bZ K c.Q6 "spot"
 RC:bZ K c.Q6 "parts"
 RE:bZ K c.Q6 "hoppers"
 R0:bZ K c.Q6 "names"
 RH:bZ K c.Q6 "numbers"
 Ua:∃a,aD K b "read_board" (am 36) a
 R7:b "OutOfBounds"=some (.ref c.Rb)
 RW:XC K c.Rb c.Ss
 k_OutOfBounds:ep K (.ref c.Rb)=true
 Su:cn K c.Ss "__init__"=some none
 TV:b "NoBoard"=some (.ref c.Rr)
 SD:XC K c.Rr c.Tn
 UY:ep K (.ref c.Rr)=true
 UF:cn K c.Tn "__init__"=some none
 RD:b "NotThere"=some (.ref c.Rs)
 Rq:XC K c.Rs c.S7
 k_NotThere:ep K (.ref c.Rs)=true
 RA:cn K c.S7 "__init__"=some none
 SX:b "WrongCount"=some (.ref c.Rp)
 RF:XC K c.Rp c.SJ
 k_WrongCount:ep K (.ref c.Rp)=true
 TM:cn K c.SJ "__init__"=some none
 SA:b "TooMany"=some (.ref c.RQ)
 RI:XC K c.RQ c.Tk
 k_TooMany:ep K (.ref c.RQ)=true
 SK:cn K c.Tk "__init__"=some none
 TW:b "NeverSo"=some (.ref c.RU)
 RM:XC K c.RU c.Tt
 k_NeverSo:ep K (.ref c.RU)=true
 UH:cn K c.Tt "__init__"=some none
 SI:b "NothingLaid"=some (.ref c.Rf)
 Rk:XC K c.Rf c.Sr
 k_NothingLaid:ep K (.ref c.Rf)=true
 Tu:cn K c.Sr "__init__"=some none
 TU:b "TooLate"=some (.ref c.RK)
 Ry:XC K c.RK c.Tq
 k_TooLate:ep K (.ref c.RK)=true
 UK:cn K c.Tq "__init__"=some none
 Sd:cG b "MOST_BYTES" 16384
 Uh:∃a,aD K b "check_most" (am 48) a
 Tl:∃a,aD K b "check_rounds" (am 49) a
 TB:∃a,aD K b "check_below" (am 50) a
 T8:∃a,aD K b "check_tray" (am 51) a
 Tz:∃a,aD K b "check_count" (am 52) a
 UJ:∃a,aD K b "board_of" (am 53) a
 Uu:∃a,aD K b "boards_of" (am 54) a
 U2:∃a,aD K b "counted" (am 55) a
 Tc:∃a,aD K b "first_numbers" (am 57) a
 Vh:∃a,aD K b "let_go" (am 58) a
 Ud:∃a,aD K b "let_all_go" (am 59) a
 U3:∃a,aD K b "send_on" (am 60) a
 Ub:∃a,aD K b "at_hoppers" (am 61) a
 UX:∃a,aD K b "came_to" (am 62) a
 S5:∃a,aD K b "numbers_behind" (am 63) a
 Sa:cG b "NO_LIFT" 255
 TF:∃a,aD K b "check_lifts" (am 66) a
 Va:∃a,aD K b "lifted" (am 67) a
 U0:∃a,aD K b "account" (am 68) a
 V8:b "Run"=some (.ref c.Run)
 Rc:dP K c.Run
 Wd:∃a d,d6 K "__init__" "Run.__init__" (cY (am 70) 0) a d/\Mk K c.Run a
 Rn:bZ K c.Run "board"
 Rw:bZ K c.Run "lifts"
 Rl:bZ K c.Run "numbers"
 Ro:bZ K c.Run "waiting"
 R1:bZ K c.Run "come"
 Ri:bZ K c.Run "dropped"
 V1:∃a,aD K b "laid" (am 71) a
 Vg:∃a,aD K b "put_in" (am 72) a
 Uo:∃a,aD K b "with_lift" (am 73) a
 T6:∃a,aD K b "with_balls" (am 74) a
 Vk:∃a,aD K b "rests" (am 75) a
 Ti:∃a,aD K b "round_behind" (am 76) a
 Td:∃a,aD K b "rounds_behind" (am 77) a
 UC:∃a,aD K b "find_loop" (am 78) a
 U8:cG b "MOST_GO" 1000
 UD:cG b "MOST_LOOP" 300
 TR:cG b "BALLS_BOUND" 1099511627776
 Wb:∃a,aD K b "lay" (am 83) a
 UI:∃a,aD K b "put_lift" (am 84) a
 VJ:∃a,aD K b "drop" (am 85) a
 Wk:∃a,aD K b "go" (am 86) a
 VX:∃a,aD K b "back" (am 87) a
 TC:∃a,aD K b "tell_stands" (am 88) a
 Tj:∃a,aD K b "tell_account" (am 89) a
 Us:∃a,aD K b "tell_loop" (am 90) a
 UE:∃a,aD K b "tell_text" (am 91) a
 SV:∃a,aD K b "answer_on_bench" (am 93) a
 Tp:∃a,aD K b "ever_come_to" (am 95) a
 T4:∃a,aD K b "bare_board" (am 96) a
 S6:∃a,aD K b "common_divisor" (am 98) a
 SU:∃a,aD K b "common_multiple" (am 99) a
 Vr:∃a,aD K b "again" (am 100) a
 VM:∃a,aD K b "mean" (am 101) a
 Vo:∃a,aD K b "share" (am 102) a
 Ux:cG b "MOST_ROWS" 3000
 SW:cG b "MOST_BALLS" 2000
 T2:∃a,aD K b "comparable" (am 106) a
 T9:∃a,aD K b "count_rows" (am 107) a
 U5:∃a,aD K b "rows_of" (am 108) a
 TK:∃a,aD K b "first_apart" (am 109) a
 T7:∃a,aD K b "ever_apart" (am 110) a
 SO:cG b "MOST_LET" 2000
 Ue:∃a,aD K b "tell_fault" (am 113) a
 TD:∃a,aD K b "print_board" (am 114) a
 Ug:∃a,aD K b "tell_sizes" (am 115) a
 Ts:∃a,aD K b "board_to_let" (am 116) a
 UR:∃a,aD K b "tell_let" (am 117) a
 Ui:∃a,aD K b "tell_falls" (am 118) a
 SY:∃a,aD K b "board_for_balls" (am 119) a
 Ul:∃a,aD K b "tell_many" (am 120) a
 UA:∃a,aD K b "tell_came" (am 121) a
 TX:∃a,aD K b "tell_again" (am 122) a
 Uk:∃a,aD K b "tell_until" (am 123) a
 Uj:∃a,aD K b "tell_share" (am 124) a
 T5:∃a,aD K b "tell_apart" (am 125) a
 Ut:∃a,aD K b "tell_ever" (am 126) a
 T3:∃a,aD K b "print_bare" (am 127) a
 TZ:∃a,aD K b "tell_proof" (am 128) a
 TJ:∃a,aD K b "answer_call" (am 130) a
 Uz:cG b "MOST_BACK" 32
 Vs:b "Bench"=some (.ref c.Bench)
 Rh:dP K c.Bench
 Vx:∃a d,d6 K "__init__" "Bench.__init__" (cY (am 133) 0) a d/\Mk K c.Bench a
 SR:∃a,eg K c.Bench "laid_run" "Bench.laid_run" (cY (am 133) 1) a
 Tw:∃a,eg K c.Bench "put" "Bench.put" (cY (am 133) 2) a
 SF:∃a,eg K c.Bench "take_back" "Bench.take_back" (cY (am 133) 3) a
 RO:bZ K c.Bench "run"
 Rx:bZ K c.Bench "earlier"
 Sq:cG b "LAST_WITHOUT_BENCH" 14
 Up:∃a,aD K b "rows_from" (am 137) a
 SE:∃a,aD K b "answer_or_refusal" (am 138) a
 U6:∃a,aD K b "answers" (am 139) a
 Sv:b "enumerate"=none
 Q_:b "len"=none
 VV:b "list"=none
 VF:b "max"=none
 V_:b "min"=none
 Wa:b "ord"=none
 RT:b "range"=none
 VC:b "str"=none
 Vc:b "sum"=none
 Vm:b "tuple"=none
 SS:b "zip"=none
end Mb
end
section
section
namespace L2
open PySem PySem.Spec PyProof.Rows
open PySem.W (WData Codec OpenSpec Well WellAll ReadsW ReadsAllW)
mutual
inductive Dw(K:aj)(H:G):V->WData->Prop
 |non:Dw K H .non .none
 |bl (b:Bool):Dw K H (.bl b) (.bool b)
 |int (i:Int):Dw K H (.int i) (.int i)
 |str (x:Str):Dw K H (.str x) (.str x)
 |byt (b:Array UInt8):Dw K H (.byt b) (.bytes b.toList)
 |lst {a:B} {xs:List V} {ds:List WData}:I K H a xs->gY K H xs ds->Dw K H (.ref a) (.list ds)
 |tup {a:B} {xs:List V} {ds:List WData}:a8 K H a xs->gY K H xs ds->Dw K H (.ref a) (.tuple ds)
inductive gY(K:aj)(H:G):List V->List WData->Prop
 |nil:gY K H [] []
 |cons {v:V} {vs:List V} {d:WData} {ds:List WData}:Dw K H v d->gY K H vs ds->gY K H (v::vs) (d::ds)
end
theorem yz{K:aj}{b:G}:∀a:List Int,gY K b (a.map V.int) (a.map H9)
 |[]=>.nil
 |c::d=>.cons (.int c) (yz d)
theorem yA{K:aj}{d:G}:∀(c:List Int)(a:List V),gY K d a (c.map H9)->a=c.map V.int
 |[],a,b=>by
  cases b;rfl
 |f::r,a,b=>by
  cases b with
  |cons D e=>
   cases D;rw[yA r _ e]<;>rfl
section
variable{P:Program}{w:World}{K:aj}{H:G}{h:Heap}{R:H_}{cl:Str->Option B}
theorem Ia{d:B}{e:List V}(j:bG P w H h)(k:K.In h)(f:I K H d e):∃(a:List Value)(b:ak)(c:Nat),aB e a/\h.get? d=some b/\b.cls=.type "list"/\b.data=.seq a.toArray c:=by
 rcases f with f|⟨b,a,c,g,l,_,m,_,i⟩
 .obtain⟨_,a,c,i,g⟩:=(show bU P w H h d (.lst e) from f.ok j)
  exact#[a,_,c,i,g,rfl,rfl]
 .exact#[a.toList,b,c,i,k _ _ g,l,by simp[m]]
theorem Ib{d:B}{e:List V}(l:bG P w H h)(m:K.In h)(f:a8 K H d e):∃(b:List Value)(a:ak)(c:Nat),aB e b/\h.get? d=some a/\a.cls=.type "tuple"/\a.data=.seq b.toArray c:=by
 rcases f with f|⟨a,b,c,g,i,j,_,k⟩
 .obtain⟨_,b,k,a,g,i,c,j⟩:=(show bU P w H h d (.tup e) from f.ok l)
  exact#[b,a,c,k,g,i,j]
 .exact#[b.toList,a,c,k,m _ _ g,i,by simp[j]]
mutual
theorem Dw.reads(e:bG P w H h)(f:K.In h):∀(t:WData)(u:V)(v:Value),Dw K H u t->aN u v-> ∃g,ReadsW R cl h v t g
 | .none,_,_,a,c=>by
  cases a;cases c;exact#[_,ReadsW.none]
 | .bool b,_,_,a,c=>by
  cases a;cases c;exact#[_,ReadsW.bool b]
 | .int i,_,_,a,c=>by
  cases a;obtain⟨d,rfl⟩:=c;exact#[_,ReadsW.int i d]
 | .str s,_,_,a,c=>by
  cases a;obtain⟨d,rfl⟩:=c;exact#[_,ReadsW.str s d]
 | .bytes b,_,_,a,c=>by
  cases a;obtain⟨d,rfl⟩:=c;exact#[_,ReadsW.bytes _ d]
 | .list j,_,_,a,c=>by
  cases a with
  |lst k l=>
   cases c;obtain⟨m,x,y,n,o,p,q⟩:=Ia e f k;obtain⟨g,r⟩:=Dw.readsAll e f j _ m l n;exact#[_,ReadsW.list o p q r]
 | .tuple j,_,_,a,c=>by
  cases a with
  |tup k l=>
   cases c;obtain⟨m,x,y,n,o,p,q⟩:=Ib e f k;obtain⟨g,r⟩:=Dw.readsAll e f j _ m l n;exact#[_,ReadsW.tuple o p q r]
 | .float _,_,_,a,_=>by cases a
 | .dict _,_,_,a,_=>by cases a
 | .bytearray _,_,_,a,_=>by cases a
 | .set _,_,_,a,_=>by cases a
 | .frozenset _,_,_,a,_=>by cases a
 | .obj _ _,_,_,a,_=>by cases a
theorem Dw.readsAll(d:bG P w H h)(e:K.In h):∀(a:List WData)(f:List V)(g:List Value),gY K H f a->aB f g-> ∃i,ReadsAllW R cl h g a i
 |[],_,_,b,c=>by
  cases b;cases c;exact#[_,QC]
 |j::a,_,_,b,c=>by
  cases b with
  |cons D k=>
   cases c with
   |cons l m=>
    obtain⟨i,n⟩:=Dw.reads d e j _ _ D l;obtain⟨p,o⟩:=Dw.readsAll d e a _ _ k m;exact#[_,QD n o]
end
end
mutual
def fG:WData->Bool
 | .none=>true
 | .bool _=>true
 | .int _=>true
 | .str _=>true
 | .bytes _=>true
 | .list a=>gs a
 | .tuple a=>gs a
 |_=>false
def gs:List WData->Bool
 |[]=>true
 |a::b=>fG a&&gs b
end
theorem yB{b:Type}{a:b->WData}(c:∀f,fG (a f)=true):∀g:List b,gs (g.map a)=true
 |[]=>rfl
 |d::e=>by
  show(fG (a d)&&gs (e.map a))=true;rw[c d,yB c e]<;>rfl
theorem js:∀(b:Codec)(a:b.denote),fG (b.enc a)=true
 | .unit,_=>rfl
 | .bool,_=>rfl
 | .int _ _,_=>rfl
 | .nat _ _,_=>rfl
 | .u8,_=>rfl
 | .bytes _ _,_=>rfl
 | .text _ _ _ _,_=>rfl
 | .list _ _ b,a=>yB (λd=>js b d) a
 | .pair b c,a=>by
  show(fG (b.enc a.1)&&(fG (c.enc a.2)&&true))=true;rw[js b a.1,js c a.2]<;>rfl
 | .triple b c e,a=>by
  show(fG (b.enc a.1)&&(fG (c.enc a.2.1)&&(fG (e.enc a.2.2)&&true)))=true;rw[js b a.1,js c a.2.1,js e a.2.2]<;>rfl
 | .option b,none=>rfl
 | .option b,some d=>js b d
theorem yC:∀(b:List Codec)(a:yD b),gs (pV b a)=true
 |[],_=>rfl
 |c::b,a=>by
  show(fG (c.enc a.1)&&gs (pV b a.2))=true;rw[js c a.1,yC b a.2]<;>rfl
theorem tz:∀{c:List WData}{a:WData},a∈c->a.weight<=tA c
 |[],a,b=>absurd b (by simp)
 |d::r,a,b=>by
  show a.weight<=d.weight+1+tA r;rcases bw.mp b with e|f
  .rw[e]
   omega
  .have g:=tz f
   omega
def eM:Value->V
 | .none=>.non
 | .bool a=>.bl a
 | .int i _=>.int i
 | .str x _=>.str x
 | .bytes a _=>.byt a
 | .ref b=>.ref b
 |_=>.non
def f1(a:List B):Value->Prop
 | .none=>True
 | .bool _=>True
 | .int _ _=>True
 | .str _ _=>True
 | .bytes _ _=>True
 | .ref b=>b∈a
 |_=>False
theorem f1.mono{c d:List B}(g:∀b∈c,b∈d):∀{a:Value},f1 c a->f1 d a:=λ{a}e=>by
 cases a with
 |ref b=>exact g b e
 |none=>trivial
 |bool i=>trivial
 |int j f=>trivial
 |str k f=>trivial
 |bytes i f=>trivial
 |_=>exact dz e
theorem Ic{c:List B}{b:Value}(d:f1 c b):aN (eM b) b:=by
 cases b with
 |ref f=>rfl
 |none=>rfl
 |bool e=>rfl
 |int g a=>exact#[a,rfl]
 |str i a=>exact#[a,rfl]
 |bytes e a=>exact#[a,rfl]
 |_=>exact dz d
theorem l1{d:List B}:∀{a:List Value},(∀b∈a,f1 d b)->aB (a.map eM) a
 |[],_=>.nil
 |b::r,c=>.cons (Ic (c b (a4 ..))) (l1 λe f=>c e (bj _ f))
def gt(b:Heap)(d:List B)(c:B):Prop:=∃a:List Value,a.length<=aq/\(∀e∈a,f1 d e)/\
 (b.get? c=some {cls:=.type "list",data:=.seq a.toArray}\/b.get? c=some {cls:=.type "tuple",data:=.seq a.toArray})
theorem gt.mono{b:Heap}{c d:List B}{a:B}(e:∀a∈c,a∈d)(f:gt b c a):gt b d a:=by
 obtain⟨g,D,i,j⟩:=f;exact#[g,D,λk l=>(i k l).mono e,j]
theorem pW{c:fx}{d:Heap}:∀{a:List Value}{b:List WData},WellAll c d a b->a.length=b.length
 |_,_,.nil=>rfl
 |_,_,.cons _ e=>by
  show _+1=_+1;rw[pW e]
theorem yE{b:fx}{a:Heap}{c:Value}{d:List WData}(g:Well b a c (.list d)):∃(e:B)(f:List Value),c=.ref e/\a.get? e=some {cls:=.type "list",data:=.seq f.toArray}/\WellAll b a f d:=by
 cases g with
 |list i j=>exact#[_,_,rfl,i,j]
theorem yF{b:fx}{a:Heap}{c:Value}{d:List WData}(g:Well b a c (.tuple d)):∃(e:B)(f:List Value),c=.ref e/\a.get? e=some {cls:=.type "tuple",data:=.seq f.toArray}/\WellAll b a f d:=by
 cases g with
 |tuple i j=>exact#[_,_,rfl,i,j]
theorem yG{a:fx}{b:Heap}{c:List Value}{d:WData}{e:List WData}(i:WellAll a b c (d::e)):∃(f:Value)(g:List Value),c=f::g/\Well a b f d/\WellAll a b g e:=by
 cases i with
 |cons j k=>exact#[_,_,rfl,j,k]
theorem yH{a:Nat}(b:a<=1048576):a<=aq:=bB b (by decide)
section
variable{P:fx}{h:Heap}
mutual
theorem Ie:∀(j:WData)(w:Value),Well P h w j->fG j=true->j.weight<=1048576-> ∃e:List B,f1 e w/\ ∀d∈e,gt h e d
 | .none,_,b,_,_=>by
  cases b;exact#[[],trivial,λd c=>absurd c (by simp)]
 | .bool f,_,b,_,_=>by
  cases b;exact#[[],trivial,λd c=>absurd c (by simp)]
 | .int i,_,b,_,_=>by
  cases b;exact#[[],trivial,λd c=>absurd c (by simp)]
 | .str s,_,b,_,_=>by
  cases b;exact#[[],trivial,λd c=>absurd c (by simp)]
 | .bytes f,_,b,_,_=>by
  cases b;exact#[[],trivial,λd c=>absurd c (by simp)]
 | .list ds,_,b,a,n=>by
  obtain⟨d,o,rfl,p,k⟩:=yE b;have l:tA ds<=1048576:=n;obtain⟨e,D,q⟩:=pX ds _ k a λj r=>bB (tz r) l;have m:∀f∈e,f∈d::e:=λf g=>bj _ g;refine#[d::e,a4 ..,λf g=>?_];rcases bw.mp g with t|c
  .rw[t]
   exact#[o,yH (by rw[pW k];exact bB (Ig ds) l),λu v=>(D u v).mono m,.inl p]
  .exact(q f c).mono m
 | .tuple ds,_,b,a,n=>by
  obtain⟨d,o,rfl,p,k⟩:=yF b;have l:tA ds<=1048576:=n;obtain⟨e,D,q⟩:=pX ds _ k a λj r=>bB (tz r) l;have m:∀f∈e,f∈d::e:=λf g=>bj _ g;refine#[d::e,a4 ..,λf g=>?_];rcases bw.mp g with t|c
  .rw[t]
   exact#[o,yH (by rw[pW k];exact bB (Ig ds) l),λu v=>(D u v).mono m,.inr p]
  .exact(q f c).mono m
 | .float _,_,_,a,_=>eN (show false=true from a)
 | .dict _,_,_,a,_=>eN (show false=true from a)
 | .bytearray _,_,_,a,_=>eN (show false=true from a)
 | .set _,_,_,a,_=>eN (show false=true from a)
 | .frozenset _,_,_,a,_=>eN (show false=true from a)
 | .obj _ _,_,_,a,_=>eN (show false=true from a)
theorem pX:∀(d:List WData)(g:List Value),WellAll P h g d->gs d=true->(∀e∈d,e.weight<=1048576)-> ∃b:List B,(∀i∈g,f1 b i)/\ ∀m∈b,gt h b m
 |[],_,k,_,_=>by
  cases k;exact#[[],λi a=>absurd a (by simp),λm a=>absurd a (by simp)]
 |e::d,_,k,r,n=>by
  obtain⟨s,g,rfl,t,u⟩:=yG k;have o:fG e=true/\gs d=true:=tD.mp r;obtain⟨b,v,w⟩:=Ie e s t o.1 (n e (a4 ..));obtain⟨j,x,y⟩:=pX d g u o.2 λl z=>n l (bj _ z);have p:∀c∈b,c∈b++j:=λc f=>c4.mpr (.inl f);have q:∀c∈j,c∈b++j:=λc f=>c4.mpr (.inr f);refine#[b++j,λi A=>?_,λc f=>?_]
  .rcases bw.mp A with l|a
   .rw[l]
    exact v.mono p
   .exact(x i a).mono q
  .rcases c4.mp f with a|a
   .exact(w c a).mono p
   .exact(y c a).mono q
end
end
def pY(a:ak):Option HO:=match a.data with
 | .seq vs _=>if(a.cls==lc "list")=true then some (.R3 a (.lst (vs.toList.map eM))) else some (.R3 a (.tup (vs.toList.map eM)))
 |_=>none
def ei(K:aj)(b:Heap)(c:List B):G:=λa=>if a∈c then(if(K.lookup a).isNone=true then(b.get? a).bind pY else none) else none
def pZ(a:G):Prop:=∀b,a b=none\/ ∃c d,a b=some (.R3 c d)
theorem yI(a:List Value):pY {cls:=.type "list",data:=.seq a.toArray}=some (.R3 {cls:=.type "list",data:=.seq a.toArray} (.lst (a.map eM))):=by
 show(if(lc "list"==lc "list")=true then some (HO.R3 {cls:=.type "list",data:=.seq a.toArray} (.lst (a.toArray.toList.map eM))) else some (HO.R3 {cls:=.type "list",data:=.seq a.toArray} (.tup (a.toArray.toList.map eM))))=_;rw[if_pos (beq_self_eq_true _)]
theorem yJ(a:List Value):pY {cls:=.type "tuple",data:=.seq a.toArray}=some (.R3 {cls:=.type "tuple",data:=.seq a.toArray} (.tup (a.map eM))):=by
 show(if(lc "tuple"==lc "list")=true then some (HO.R3 {cls:=.type "tuple",data:=.seq a.toArray} (.lst (a.toArray.toList.map eM))) else some (HO.R3 {cls:=.type "tuple",data:=.seq a.toArray} (.tup (a.toArray.toList.map eM))))=_;rw[if_neg (by decide)]
section
variable{P:Program}{w:World}{K:aj}{h:Heap}{a:List B}
theorem p0{b:B}{c:ak}(d:b∈a)(e:K.lookup b=none)(f:h.get? b=some c):ei K h a b=pY c:=by
 unfold ei;rw[if_pos d,e,if_pos (show(none:Option ak).isNone=true from rfl),f]<;>rfl
theorem Ih{c:B}{e:HO}(b:ei K h a c=some e):c∈a/\K.lookup c=none:=by
 unfold ei at b;by_cases d:c∈a
 .rw[if_pos d] at b
  cases f:K.lookup c with
  |none=>exact#[d,rfl]
  |some g=>
   rw[f,if_neg (by simp)] at b;cases b
 .rw[if_neg d] at b
  cases b
theorem p5(j:∀k∈a,gt h a k){c:B}{d:HO}(e:ei K h a c=some d):K.lookup c=none/\ ∃b:List Value,b.length<=aq/\(∀d∈b,f1 a d)/\
  ((h.get? c=some {cls:=.type "list",data:=.seq b.toArray}/\d=.R3 {cls:=.type "list",data:=.seq b.toArray} (.lst (b.map eM)))\/
   (h.get? c=some {cls:=.type "tuple",data:=.seq b.toArray}/\d=.R3 {cls:=.type "tuple",data:=.seq b.toArray} (.tup (b.map eM)))):=by
 obtain⟨g,i⟩:=Ih e;obtain⟨b,D,l,m⟩:=j c g;refine#[i,b,D,l,?_];rcases m with f|f
 .rw[p0 g i f,yI] at e
  exact .inl #[f,(b5 e).symm]
 .rw[p0 g i f,yJ] at e
  exact .inr #[f,(b5 e).symm]
theorem Ii(c:∀d∈a,gt h a d):pZ (ei K h a):=λe=>by
 cases f:ei K h a e with
 |none=>exact .inl rfl
 |some g=>
  obtain⟨_,i,_,_,⟨_,b⟩|⟨_,b⟩⟩:=p5 c f
  .exact .inr #[_,_,by rw[b]]
  .exact .inr #[_,_,by rw[b]]
theorem Ij(e:∀f∈a,gt h a f):bG P w (ei K h a) h:=λi j g=>by
 obtain⟨_,c,D,d,⟨b,rfl⟩|⟨b,rfl⟩⟩:=p5 e g
 .exact#[b,by rw[ag];exact D,c,_,l1 d,b]
 .exact#[b,by rw[ag];exact D,c,l1 d,_,b,rfl,_,rfl]
theorem p6{a b:Value}{c d:List Value}(f:(some {cls:=a,data:=.seq c.toArray}:Option ak)=some {cls:=b,data:=.seq d.toArray}):a=b/\c=d:=by
 have e:=b5 f;have g:a=b:=congrArg Obj.cls e;have i:tE c.toArray=tE d.toArray:=congrArg Obj.data e;injection i with j
 refine#[g,?_];have k:=congrArg wu j;simpa using k
theorem Ik(l:K.In h)(m:∀b∈a,gt h a b){b:B}{d:List Value}(g:b∈a)(e:h.get? b=some {cls:=.type "list",data:=.seq d.toArray}):(∀n∈d,f1 a n)/\I K (ei K h a) b (d.map eM):=by
 obtain⟨i,D,j,o⟩:=m b g;have p:i=d:=by
  rcases o with c|c
  .rw[e] at c
   exact(p6 c).2.symm
  .rw[e] at c
   exact absurd (Il (p6 c).1) (by decide)
 subst p;refine#[j,?_];cases f:K.lookup b with
 |none=>exact .inl (.inr #[_,by rw[p0 g f e,yI]])
 |some q=>
  have k:=l b q f;rw[e] at k;obtain rfl:=b5 k;exact .inr #[_,i.toArray,_,f,rfl,rfl,rfl,by rw[cE];exact D,by simpa using l1 j]
theorem Im(l:K.In h)(m:∀b∈a,gt h a b){b:B}{d:List Value}(g:b∈a)(e:h.get? b=some {cls:=.type "tuple",data:=.seq d.toArray}):(∀n∈d,f1 a n)/\a8 K (ei K h a) b (d.map eM):=by
 obtain⟨i,D,j,o⟩:=m b g;have p:i=d:=by
  rcases o with c|c
  .rw[e] at c
   exact absurd (Il (p6 c).1) (by decide)
  .rw[e] at c
   exact(p6 c).2.symm
 subst p;refine#[j,?_];cases f:K.lookup b with
 |none=>exact .inl (.inr #[_,by rw[p0 g f e,yJ]])
 |some q=>
  have k:=l b q f;rw[e] at k;obtain rfl:=b5 k;exact .inr #[_,i.toArray,_,f,rfl,rfl,by rw[cE];exact D,by simpa using l1 j]
mutual
theorem Io{r:fx}(e:K.In h)(f:∀g∈a,gt h a g):∀(j:WData)(k:Value),Well r h k j->fG j=true->f1 a k->Dw K (ei K h a) (eM k) j
 | .none,_,d,_,_=>by
  cases d;exact .non
 | .bool b,_,d,_,_=>by
  cases d;exact .bl b
 | .int i,_,d,_,_=>by
  cases d;exact .int i
 | .str s,_,d,_,_=>by
  cases d;exact .str s
 | .bytes b,_,d,_,_=>by
  cases d;have t:=Dw.byt (K:=K) (H:=ei K h a) b.toArray;exact t
 | .list l,_,d,c,m=>by
  obtain⟨g,u,rfl,n,o⟩:=yE d;obtain⟨p,q⟩:=Ik e f m n;exact .lst q (p7 e f l _ o c p)
 | .tuple l,_,d,c,m=>by
  obtain⟨g,u,rfl,n,o⟩:=yF d;obtain⟨p,q⟩:=Im e f m n;exact .tup q (p7 e f l _ o c p)
 | .float _,_,_,c,_=>eN (show false=true from c)
 | .dict _,_,_,c,_=>eN (show false=true from c)
 | .bytearray _,_,_,c,_=>eN (show false=true from c)
 | .set _,_,_,c,_=>eN (show false=true from c)
 | .frozenset _,_,_,c,_=>eN (show false=true from c)
 | .obj _ _,_,_,c,_=>eN (show false=true from c)
theorem p7{l:fx}(f:K.In h)(g:∀m∈a,gt h a m):∀(b:List WData)(c:List Value),WellAll l h c b->gs b=true->(∀d∈c,f1 a d)->gY K (ei K h a) (c.map eM) b
 |[],_,e,_,_=>by
  cases e;exact .nil
 |i::b,_,e,n,j=>by
  obtain⟨o,c,rfl,p,q⟩:=yG e;have k:fG i=true/\gs b=true:=tD.mp n;exact .cons (Io f g i o p k.1 (j _ (a4 ..))) (p7 f g b c q k.2 λd r=>j d (bj _ r))
end
end
theorem Ip{x:Program}{w:World}{K:aj}{r z:Str->Option Value}{P:fz}{Q:Nat}{fa:B}{S:fA}{s:List Str}{T:Sp}{b:M}{i:List Value}{k:List WData}{R:H_}{cl:Str->Option B}{d0:WData}
  (A:K.In b.heap)(U:b.heap.Ns en r)(C:b.heap.Ns wn z)(as:∀j:Str,j≠ "__name__"->z j=ng j)(au:b.heap.NoLimit)(aw:b.gens= #v[])
  (E:WellAll w.params b.heap i k)(W:gs k=true)(ax:∀l∈k,l.weight<=1048576)(aB:bu Q p8)
  (aD:∀base:Heap,K.In base->base.Ns en r->ee x w K r base P Q fa S s T)(aF:∀(aG:M)(F:List Value),F.length=s.length->pq aG S #[F,[]] (s.zip F))(aH:k.length=s.length)
  (aI:∀(e:G)(X:List V),pZ e->gY K e X k->T X e (λH Y=>Dw K Y H d0) λ_ _ _=>False)
  (aJ:∀e c g,P [] e b (λ_ _ _=>False) c g->False):
  codeAny (ar x w) p8 (.call (.ref fa) #[i,[]]) (λt g=>∃f I,t=.ok (.ret f)/\ReadsW R cl g.heap f d0 I/\OldK b.heap g.heap/\g.os=b.os/\h6 g.gens) b:=by
 obtain⟨o,Z,u⟩:=pX k i E W ax;have J:pZ (ei K b.heap o):=Ii u;have L:bG x w (ei K b.heap o) b.heap:=Ij u;have aa:=p7 A u k i E W Z;have aK:=l1 Z;have hK:∀a f,ei K b.heap o a=some f->K.lookup a=none:=λa f m=>(p5 u m).1;have ab:∀{a:B}{d:ak}{p:Array hh}{q:Nat},b.heap.get? a=some d->d.data=.dict p q->ei K b.heap o a=none:=λ{a d p q}c l=>by
  cases m:ei K b.heap o a with
  |none=>rfl
  |some f=>
   obtain⟨_,ad,_,_,⟨v,_⟩|⟨v,_⟩⟩:=p5 u m
   .rw[v] at c
    cases c;have N:tE ad.toArray _=Iq p q:=l;cases N
   .rw[v] at c
    cases c;have N:tE ad.toArray _=Iq p q:=l;cases N
 generalize ei K b.heap o=e at J L aa hK ab;have ae:∀{a:B}{d:ak},b.heap.get? a=some d->e a=none->(h5 b.heap e).get? a=some d:=λc aL=>C_ c aL;have y:∀{a:B}{O:Str->Option Value},b.heap.Ns a O->(h5 b.heap e).Ns a O:=λ{a O} ⟨d,p,q,c,l,t⟩=>#[d,p,q,ae c (ab c l),l,t];have aM:∀a d,K.lookup a=some d->e a=none:=λa d c=>by
  cases m:e a with
  |none=>rfl
  |some f=>
   rw[hK a f m] at c;cases c
 have af:K.In (h5 b.heap e):=λa d c=>ae (A a d c) (aM a d c);have aN:Mod K r (h5 b.heap e):=#[af,y U,#[z,y C,as],let⟨aO,D,aT⟩:=au;#[aO,y D,aT]];have aV:kd x w K r (h5 b.heap e) p8 [] b e:=#[rfl,aN,λa d c=>Dc c,sC (C9 _ _),trivial,λa C=>absurd (show a∈([]:List B) from C) (by simp),L,.of_eq aw];have hl:i.length=s.length:=by rw[pW E];exact aH
 refine pu ((aD _ af (y U)).run p8 [] b e #[i,[]] i (i.map eM) _ _ aB aV (aF b i hl) aK (aI e _ J aa)) λt g j=>?_;cases t with
 |error c=>exact(aJ e c g j).elim
 |ok fl=>
  cases fl with
  |next=>exact dz j
  |brk=>exact dz j
  |cont=>exact dz j
  |ret f=>
   obtain⟨H,Y,os,bare,ah,ai,aW,m⟩:=j;have al:∀a d,b.heap.get? a=some d->g.heap.get? a=some d:=λa d c=>by
    cases am:e a with
    |none=>exact ah.keep a d c am (by intro n;exact absurd (show a∈([]:List B) from n) (by simp)) (by simp)
    |some a3=>
     rcases J a with n|⟨aY,a5,n⟩
     .rw[am] at n
      cases n
     .have aZ:=ah.Sw a aY _ n
      obtain⟨ao,_⟩:=L a _ n;obtain⟨v,_⟩:=ai a _ aZ;rw[c] at ao;cases ao;exact v
   have a0:K.In g.heap:=λa d c=>al a d (A a d c);obtain⟨I,a1⟩:=Dw.reads (R:=R) (cl:=cl) ai a0 d0 H f m aW;exact#[f,I,rfl,a1,OldK.of_keep al,os,bare]
theorem Ir{b:List WData}(c:WData.layableAll b=true):∀a∈b,a.weight<=1048576:=λa d=>
 (PySem.W.layableW_iff.mp (io.mp c a d)).2.2
theorem yK:∀(a:List Codec)(b:yD a),(pV a b).length=a.length
 |[],_=>rfl
 |c::a,b=>by
  show(pV a b.2).length+1=a.length+1;rw[yK a b.2]
theorem Iu{a:OpenSpec}{q:Nat}{x:Program}{y:List Str}{z:(Str->Option Value)->Heap->Prop}{k:World->Heap->Prop}{l:DefRec}{K:fx->aj}{r:World->fz}{g:List Str}{s:World->Sp}
  (A:a.wellSaid=true)(aw:l.params.defaults=[])(C:a.args.length=g.length)(E:bu q p8)
  (F:∀(w:World)(d:Heap),k w d->(K w.params).In d)
  (H:∀(w:World)(e:Str->Option Value)(fa:B)(d:Heap),k w d->(K w.params).In d->d.Ns en e->e l.name=some (.ref fa)->
   ∃m:fA,(∀(n:M)(o:List Value),o.length=g.length->pq n m #[o,[]] (g.zip o))/\
    ∀base:Heap,(K w.params).In base->base.Ns en e->ee a.prog w (K w.params) e base (r w) q fa m g (s w))
  (I:∀(w:World)(b:G)(i:List V)(c:yD a.args),pZ b->Codec.withinAll a.args c=true->yL a.args a.asked c=true->gY (K w.params) b i (pV a.args c)->
   s w i b (λJ L=>Dw (K w.params) L J (a.ret.enc (yL a.args a.f c))) λ_ _ _=>False)
  (N:∀(w:World)(b:G)(n:M)(p:Value)(j:M),r w [] b n (λ_ _ _=>False) p j->False):
  PySem.W.WalkOS x y z k a l [] (λO P=>PySem.call O P):=by
 intro w Q S e ax f t fa aB aD aF aG aH kV aI aJ aK aL T U args aM aN X Y aO Z aT;obtain⟨c,aa,ab⟩:=PySem.W.os_pre_some X;obtain⟨ad,u⟩:=Codec.encAll_of_decAll a.args args c aa;subst ad;have v:=F w _ t;obtain⟨m,ae,hF⟩:=H w e fa _ t v f.T.g T;refine PySem.W.enter_call (pu (Ip (R:=[]) (cl:=classAt Q.heap) (d0:=a.ret.enc (yL a.args a.f c)) v f.T.g f.T.b f.T.builtins f.T.nolimit U Z (yC _ _) (Ir Y) E hF ae (by rw[yK];exact C)
  (λb i af ah=>I w b i c af u ab ah) λb p j=>N w b S p j) λaV j hq=>?_)
 obtain⟨ai,al,rfl,D,am,ao,as⟩:=hq;exact#[.inl #[ai,_,al,rfl,λ_=>rfl,D,(QE A u _ _).mpr rfl,λau=>eN (show false=true from au)],am,ao,as]
end L2
end
end
section
namespace Mb
open PySem PySem.Spec PyProof.Rows L2 Ex
def n6(K:aj)(d a:Str)(st:aX)(b:B):Prop:=∃(e:Value)(f g:Option B)(i:Array (Option Value))(kV j k c l:Value),
 K.lookup b=some #[e,f,.func (ki d a (jS st) (gN st) (bi st) .none kV j k g c l),i]/\sF K c a=true/\ep K (.ref b)=true
theorem n7{K:aj}{a b:Str}{st:aX}{c:B}(d:n6 K a b st c):∃e,d6 K a b st c e:=by
 obtain⟨j,k,l,m,kV,n,o,p,q,f,g,i⟩:=d;exact#[_,Hn f g i]
theorem Iv{K:aj}{c:Heap}{d:Str->Option Value}{b:Str}{st:aX}{a:B}(e:K.In c)(f:c.Ns en d)(g:cn K en b=some (some (.ref a)))(i:n6 K b b st a):∃a,aD K d b st a:=#[a,n7 i,tF e f g]
def tG(a:B)(b:ak):Option B:=match b with
 |⟨.type "type",_,.cls cd,c⟩=>(match cd.mro,c.toList with
  | .ref d::bm,[_,_,_,_,some (.builtin n),_]=>if(d==a&&bm==ef&&n== "Exception.__new__"&& !cd.hasDel&&cd.hasDict)=true then some cd.ns else none
  |_,_=>none)
 |_=>none
def tH(K:aj)(a:B):Bool:=match K.lookup a with
 |some b=>(match b.data with
  | .dict es _=>es.toList.all λc=>match c.key with| .str _ _=>true|_=>false
  |_=>false)
 |none=>false
theorem Iw{K:aj}{b:B}(a:tH K b=true):ym K b=true:=by
 unfold tH at a;split at a
 .rename_i c d
  split at a
  .rename_i e g f
   obtain⟨i,j,k,l⟩:=c;cases f;unfold ym;rw[d];show e.all _=true;rw[<-Array.all_toList];exact a
  .cases a
 .cases a
def Ix(K:aj)(a b:B):Prop:=∃c,K.lookup a=some c/\tG a c=some b/\tH K b=true
theorem Iy{b c:B}{d:ak}(a:tG b d=some c):pP b c d=true:=by
 unfold tG at a;split at a
 .split at a
  .split at a
   .rename_i e
    cases a;unfold pP;simp_all
   .cases a
  .cases a
 .cases a
theorem Iz{K:aj}{a b:B}(c:Ix K a b):XC K a b:=let⟨d,e,f,g⟩:=c;#[#[d,e,Iy f],Iw g]
def IA(K:aj)(c:B)(d:List V):Prop:=∃(a:ak)(b:Array Value)(e:Nat),K.lookup c=some a/\a.cls=.type "tuple"/\a.data=.seq b e/\b.size<=aq/\aB d b.toList
theorem IC{K:aj}{c a:B}{b d:Str}{st:aX}(f:hs K (.ref c) b=some (some (.ref a)))(g:ib K (.ref a)=true)(e:n6 K b d st a):∃a,eg K c b d st a:=#[a,n7 e,f,g,(n7 e).choose_spec.kp]
theorem ID{K:aj}{b a:B}{d:Str}{st:aX}(e:hs K (.ref b) "__init__"=some (some (.ref a)))(f:ib K (.ref a)=true)(g:n6 K "__init__" d st a)(i:wT K b=true)(j:ep K (.ref b)=true):∃a c,d6 K "__init__" d st a c/\Mk K b a:=let⟨c,k⟩:=n7 g;#[a,c,k,i,e,f,j]
theorem IE{K:aj}{c a:B}{d:Str}{st:aX}(e:cn K c "__init__"=some (some (.ref a)))(f:ib K (.ref a)=true)(g:n6 K "__init__" d st a):∃a b,d6 K "__init__" d st a b/\cn K c "__init__"=some (some (.ref a))/\ib K (.ref a)=true:=let⟨b,i⟩:=n7 g;#[a,b,i,e,f]
end Mb
end
section
namespace Ma
open Marble
theorem p9{a b c:Nat}(d:Nat)(e:2<=a):e0 b a c d=(d+(a-1-(c+a-b)% a))/a:=by
 unfold e0;have f:=jj (c+a-b) (cP yM e);generalize(c+a-b)% a=g at f;rw[IF (bB (by decide) e),IF (Nat.le_sub_one_of_lt f)]
theorem IG:∀a<5,2<=a-> ∀b<a,∀c<a,∀d<a,a-1-(b+a-(c+d)% a)% a=(d+(a-1-(b+a-c)% a))% a:=by decide+kernel
theorem IH:∀a<5,2<=a-> ∀b<a,∀c<a,e0 c a b 1=if b=c then 1 else 0:=by decide+kernel
theorem II:∀a<5,2<=a-> ∀b<a,∀c<a,e0 c a b 0=0:=by decide+kernel
theorem IJ{a b c e f:Nat}(d:2<=a/\a<=4)(i:c<a)(j:b<a):e0 b a c (e+f)=e0 b a c e+e0 ((b+e)% a) a c f:=by
 have h0:=cP yM d.1;rw[p9 _ d.1,p9 _ d.1,p9 _ d.1];have g:=IG a (l2 d.2) d.1 c i b j (e % a) (jj _ h0);rw[Nat.add_mod_mod,yN] at g;rw[g];generalize(a-1-(c+a-b)% a)=k;rw[<-yO h0,Nat.add_left_comm,yc,xJ e f,l3]
theorem IK{a b c:Nat}(d:2<=a/\a<=4)(e:c<a)(f:b<a):e0 b a c 0=0:=II a (l2 d.2) d.1 c e b f
theorem IL{a b c:Nat}(d:2<=a/\a<=4)(e:c<a)(f:b<a):e0 b a c 1=if c=b then 1 else 0:=IH a (l2 d.2) d.1 c e b f
theorem IM{a b c d:Nat}(e:2<=a/\a<=4)(f:c<a)(g:b<a):e0 b a c (a*d)=d:=by
 have h0:=cP yM e.1;rw[p9 _ e.1,yO h0,tI (lU (Nat.sub_le _ _) (Nat.sub_lt h0 Nat.zero_lt_one)),p_]
def cT(a b:List Nat):List Nat:=List.zipWith (·+ ·) a b
theorem l4{a b:List Nat}(c:a.length=b.length):(cT a b).length=a.length:=by unfold cT;simp[c]
theorem hD{c b:List Nat}(f:c.length=b.length)(a:Nat):(cT c b).getD a 0=c.getD a 0+b.getD a 0:=by
 unfold cT;simp only[aE,List.getElem?_zipWith];by_cases d:a<c.length
 .have e:a<b.length:=by omega
  simp[a2 d,a2 e]
 .simp[eu (IN d),eu (show b.length<=a by omega)]
theorem it{b c:List Nat}(g:b.length=c.length)(e:∀a,a<b.length->b.getD a 0=c.getD a 0):b=c:=by
 apply kx;intro a;by_cases d:a<b.length
 .have f:a<c.length:=by omega
  have:=e a d;simp only[aE,a2 d,a2 f,Option.getD_some] at this⊢;rw[this]
 .rw[eu (IN d),eu (by omega)]
theorem c6(a:List Nat)(b c:Nat):(bump a b c).length=a.length:=by unfold bump;simp
theorem eO(b:List Nat)(a e c:Nat):(bump b a e).getD c 0=if c=a/\a<b.length then b.getD a 0+e else b.getD c 0:=by
 unfold bump;simp only[aE,fk];by_cases d:a=c
 .subst d
  by_cases f:a<b.length
  .simp[f]
  .simp[f]
 .have:¬c=a:=λg=>d g.symm
  simp[d,this]
theorem hH(a:List Nat)(b:Nat):bump a b 0=a:=by
 apply it (c6 ..);intro d e;rw[eO];split
 .rename_i c;rw[c.1];omega
 .rfl
theorem tJ{b d:List Nat}(c:b.length=d.length)(a f g:Nat):bump (cT b d) a (f+g)=cT (bump b a f) (bump d a g):=by
 have D:(bump b a f).length=(bump d a g).length:=by rw[c6,c6,c]
 apply it
 .rw[c6,l4 c,l4 D,c6]
 .intro i j
  rw[eO,hD D,eO,eO,hD c,hD c,l4 c];by_cases e:i=a/\a<b.length
  .rw[if_pos e,if_pos e,if_pos (by omega)];omega
  .rw[if_neg e,if_neg e,if_neg (by omega)]
theorem IP(c:List Nat)(b d e f:Nat):bump (bump c b e) d f=bump (bump c d f) b e:=by
 apply it
 .simp[c6]
 .intro g j
  rw[eO,eO,eO,eO,eO,eO,c6,c6];by_cases i:b=d
  .subst i
   by_cases a:g=b/\b<c.length
   .rw[if_pos a,if_pos a,if_pos #[rfl,a.2],if_pos #[rfl,a.2]];omega
   .rw[if_neg a,if_neg a,if_neg a,if_neg a]
  .rw[if_neg (show¬(d=b/\b<c.length) by omega),if_neg (show¬(b=d/\d<c.length) by omega)]
   by_cases a:g=b/\b<c.length
   .rw[if_pos a,if_neg (by omega),if_pos a]
   .rw[if_neg a,if_neg a]
def ways:Part->List Nat
 | .tray _=>[]
 | .wheel _ a _=>a
 | .gate _ _ b _=>[b]
structure ey(i:Nat)(c:Part):Prop where
 below:∀w∈ways c,w<i
 wheel:∀d b e,c=.wheel d b e->2<=b.length/\b.length<=4/\ ∀a,e=some a->a<b.length
 gate:∀d a j f,c=.gate d a j f->2<=a/\a<=100/\ ∀g,f=some g->g<a
structure Wf(a:Board):Prop where
 part:∀b c,a.parts[b]? =some c->ey b c
 Vl:∀d∈a.hoppers,d.2<a.parts.length
 np:1<=a.parts.length/\a.parts.length<=64
 nh:1<=a.hoppers.length/\a.hoppers.length<=8
def Ok(b:Part)(a:Nat):Prop:=match b with
 | .tray _=>True
 | .wheel _ c _=>a<c.length
 | .gate _ d _ _=>a<d
def bT(a:Board)(b:List Nat):Prop:=b.length=a.parts.length/\ ∀c d,a.parts[c]? =some d->Ok d (b.getD c 0)
theorem yP{b:Nat}{a:Part}(w:ey b a)(c d:Nat):Ok a (a.behind c d):=by
 cases a with
 |tray nm=>trivial
 |wheel nm e f=>have:=w.wheel nm e f rfl;exact jj _ (by omega)
 |gate nm g i j=>have:=w.gate nm g i j rfl;exact jj _ (by omega)
theorem yQ{a:Part}{b:Nat}(c:Ok a b):a.behind b 0=b:=by
 cases a with
 |tray nm=>rfl
 |wheel nm d e=>exact jt c
 |gate nm f g i=>exact jt c
theorem yR{d:Part}(a b c:Nat):d.behind a (b+c)=d.behind (d.behind a b) c:=by
 cases d with
 |tray nm=>show a+(b+c)=a+b+c;omega
 |wheel nm e g=>show(a+(b+c))% e.length=((a+b)% e.length+c)% e.length;rw[yN,l3]
 |gate nm f i j=>show(a+(b+c))% f=((a+b)% f+c)% f;rw[yN,l3]
def bI(c:List (Nat×Nat))(a:List Nat):List Nat:=c.foldl (λa b=>bump a b.1 b.2) a
theorem ju(b:List (Nat×Nat)):∀a,(bI b a).length=a.length:=by
 induction b with
 |nil=>intro a;rfl
 |cons c b d=>intro a;show(bI b (bump a c.1 c.2)).length=_;rw[d,c6]
theorem yS{e:Nat}(b:List (Nat×Nat))(f:∀c∈b,c.1<e):∀d a,e<=a->(bI b d).getD a 0=d.getD a 0:=by
 induction b with
 |nil=>intro d a _;rfl
 |cons c b g=>
  intro d a i;show(bI b (bump d c.1 c.2)).getD a 0=_;rw[g (λj k=>f j (bj _ k)) _ _ i,eO,if_neg];have:=f c (a4 ..);omega
theorem IQ{b e:List (Nat×Nat)}(f:b.Perm e):∀a,bI b a=bI e a:=by
 induction f with
 |nil=>intro a;rfl
 |cons c _ g=>intro a;exact g _
 |swap c d b=>intro a;show bI b (bump (bump a d.1 d.2) c.1 c.2)=bI b (bump (bump a c.1 c.2) d.1 d.2);rw[IP]
 |trans _ _ i j=>intro a;rw[i,j]
theorem yT{e f:(Nat×Nat)->Nat}:∀(b:List (Nat×Nat))(c d:List Nat),c.length=d.length->
  bI (b.map λa=>(a.1,e a+f a)) (cT c d)=cT (bI (b.map λa=>(a.1,e a)) c) (bI (b.map λa=>(a.1,f a)) d)
 |[],c,d,g=>rfl
 |a::b,c,d,g=>by
  show bI (b.map _) (bump (cT c d) a.1 (e a+f a))=cT (bI (b.map _) (bump c a.1 (e a))) (bI (b.map _) (bump d a.1 (f a)));rw[tJ g,yT b _ _ (by rw[c6,c6,g])]
def eP(f:Part)(a b:Nat):List (Nat×Nat):=match f with
 | .tray _=>[]
 | .wheel _ c _=>c.zipIdx.map λd=>(d.1,e0 a c.length d.2 b)
 | .gate _ e g _=>[(g,(a+b)/e*e)]
theorem l5(a:Part)(b c:Nat)(d:List Nat):sendOn a b c d=bI (eP a b c) d:=by
 cases a with
 |tray nm=>rfl
 |wheel nm e f=>unfold sendOn eP bI;rw[List.foldl_map]
 |gate nm g i j=>rfl
theorem yU{d:Nat}{a:Part}(w:ey d a)(e f:Nat):∀b∈eP a e f,b.1<d:=by
 intro b c;cases a with
 |tray nm=>cases c
 |wheel nm l m=>
  obtain⟨i,j,rfl⟩:=bK.mp c;exact w.below i.1 (IR j)
 |gate nm g k n=>
  have:b=(k,(e+f)/g*g):=by simpa[eP] using c
  subst this;exact w.below _ (a4 ..)
theorem IS{n:Nat}{d:Part}(w:ey n d){a:Nat}(o:Ok d a)(b e:Nat)(g i:List Nat)(m:g.length=i.length):
  bI (eP d a (b+e)) (cT g i)=cT (bI (eP d a b) g) (bI (eP d (d.behind a b) e) i):=by
 cases d with
 |tray nm=>rfl
 |wheel nm f j=>
  have hl:=w.wheel nm f j rfl;have p:eP (.wheel nm f j) a (b+e)=f.zipIdx.map λk=>(k.1,e0 a f.length k.2 b+e0 ((a+b)% f.length) f.length k.2 e):=by
   refine gu λk q=>?_;rw[IJ #[hl.1,hl.2.1] ?_ o];have:=yV q;simpa using this
  rw[p];exact yT _ _ _ m
 |gate nm c l j=>
  have r:=w.gate nm c l j rfl;show bump (cT g i) l ((a+(b+e))/c*c)=cT (bump g l ((a+b)/c*c)) (bump i l (((a+b)% c+e)/c*c));rw[<-tJ m];congr 1;rw[<-IT,<-l3];congr 1
  conv=>lhs;rw[<-yc (a+b) c]
  rw[l3,yO (by omega)]
theorem tK{l:Nat}{d:Part}(w:ey l d){e:Nat}(j:Ok d e)(a:List Nat):bI (eP d e 0) a=a:=by
 cases d with
 |tray nm=>rfl
 |wheel nm m k=>
  have hl:=w.wheel nm m k rfl;have g:∀(b:List (Nat×Nat)),(∀c∈b,c.2=0)-> ∀a,bI b a=a:=by
   intro b
   induction b with
   |nil=>intro _ a;rfl
   |cons c b n=>
    intro f a;show bI b (bump a c.1 c.2)=a;rw[f c (a4 ..),hH];exact n (λg o=>f g (bj _ o)) a
  refine g _ (λc f=>?_) a;obtain⟨r,p,rfl⟩:=bK.mp f;refine IK #[hl.1,hl.2.1] ?_ j;have:=yV p;simpa using this
 |gate nm i q k=>
  show bump a q ((e+0)/i*i)=a;have:e<i:=j;rw[p_,tI this,IU,hH]
section
variable{b:Board}
theorem qa(d:List Nat):∀(a:Nat)(c:List Nat),(b.flowFrom d a c).length=c.length
 |0,c=>rfl
 |a+1,c=>by
  unfold yW;split
  .rw[qa d a,l5,ju]
  .rw[qa d a]
theorem f2{c:List Nat}{a:Nat}{e:Part}(f:b.parts[a]? =some e)(d:List Nat):b.flowFrom c (a+1) d=b.flowFrom c a (bI (eP e (c.getD a 0) (d.getD a 0)) d):=by
 rw[<-l5]
 conv=>lhs;unfold yW
 rw[f]
theorem iu{c:List Nat}{a:Nat}(e:b.parts[a]? =none)(d:List Nat):b.flowFrom c (a+1) d=b.flowFrom c a d:=by
 conv=>lhs;unfold yW
 rw[e]
theorem tL(e:Wf b)(f:List Nat):∀(a:Nat)(d:List Nat)(c:Nat),a<=c->(b.flowFrom f a d).getD c 0=d.getD c 0
 |0,d,c,_=>rfl
 |a+1,d,c,j=>by
  cases g:b.parts[a]? with
  |none=>rw[iu g,tL e f a d c (by omega)]
  |some i=>rw[f2 g,tL e f a _ c (by omega),yS _ (yU (e.part a i g) _ _) _ _ (by omega)]
theorem qb(k:Wf b){g o:List Nat}(l:bT b g):∀(a:Nat)(f i:List Nat),f.length=i.length->
  (∀d e,d<a->b.parts[d]? =some e->o.getD d 0=e.behind (g.getD d 0) ((b.flowFrom g a f).getD d 0))->b.flowFrom g a (cT f i)=cT (b.flowFrom g a f) (b.flowFrom o a i)
 |0,f,i,j,_=>rfl
 |a+1,f,i,j,m=>by
  cases c:b.parts[a]? with
  |none=>
   rw[iu c,iu c,iu c,qb k l a f i j λd e q n=>?_];have:=m d e (by omega) n;rw[iu c] at this;exact this
  |some e=>
   have w:=k.part a e c;have p:=m a e (by omega) c;rw[f2 c,tL k g a _ a (av _),yS _ (yU w _ _) _ _ (av _)] at p;rw[f2 c,f2 c,f2 c,hD j,IS w (l.2 a e c) _ _ _ _ j,<-p];refine qb k l a _ _ (by rw[ju,ju,j]) λd r q n=>?_;have:=m d r (by omega) n;rw[f2 c] at this;exact this
theorem n8(f:Wf b){j:List Nat}(g:bT b j):∀(a:Nat)(c:List Nat),(∀d,d<a->c.getD d 0=0)->b.flowFrom j a c=c
 |0,c,_=>rfl
 |a+1,c,i=>by
  cases e:b.parts[a]? with
  |none=>rw[iu e];exact n8 f g a c λd l=>i d (by omega)
  |some k=>
   rw[f2 e,i a (by omega),tK (f.part a k e) (g.2 a k e)];exact n8 f g a c λd l=>i d (by omega)
end
section
variable{b:Board}
def after(b:Board)(c d:List Nat):List Nat:=b.parts.zipIdx.map λa=>a.1.behind (c.getD a.2 0) (d.getD a.2 0)
theorem tM(a c:List Nat):b.many a c=after b a (b.came a c):=rfl
theorem f3(a c:List Nat):(after b a c).length=b.parts.length:=by simp[after]
theorem gZ{c d:List Nat}{a:Nat}{e:Part}(f:b.parts[a]? =some e):(after b c d).getD a 0=e.behind (c.getD a 0) (d.getD a 0):=by
 unfold after;simp[aE,gv,f]
theorem qc(e:Wf b)(a c:List Nat):bT b (after b a c):=#[f3 a c,λf g d=>by rw[gZ d];exact yP (e.part f g d) _ _]
theorem gw{a:Nat}(c:a<b.parts.length):∃d,b.parts[a]? =some d:=#[_,a2 c]
theorem yX{e a c:List Nat}(g:a.length=c.length):after b e (cT a c)=after b (after b e a) c:=by
 refine it (by rw[f3,f3]) λi f=>?_;rw[f3] at f;obtain⟨j,d⟩:=gw f;rw[gZ d,gZ d,gZ d,hD g,yR]
theorem qd{a d:List Nat}(e:bT b a)(i:∀c,d.getD c 0=0):after b a d=a:=by
 refine it (by rw[f3,e.1]) λc f=>?_;rw[f3] at f;obtain⟨j,g⟩:=gw f;rw[gZ g,i,yQ (e.2 c j g)]
abbrev cu(b:Board):List Nat:=aP b.parts.length 0
theorem gx(a:Nat):(cu b).getD a 0=0:=by
 simp only[cu,aE,fY];split<;>rfl
theorem jv{a e d:Nat}(f:a<b.parts.length):(bump (cu b) a e).getD d 0=if d=a then e else 0:=by
 rw[eO,gx,gx,cQ];by_cases c:d=a
 .rw[if_pos #[c,f],if_pos c];omega
 .rw[if_neg (λg=>c g.1),if_neg c]
theorem IV{a c d:Nat}:bump (cu b) a (c+d)=cT (bump (cu b) a c) (bump (cu b) a d):=by
 rw[<-tJ rfl];congr 1;refine it (by rw[l4 rfl]) λe f=>?_;rw[hD rfl,gx]
theorem IW{c a e:Nat}(g:c<b.parts.length):bump (bump (cu b) c 1) a e=cT (bump (cu b) c 1) (bump (cu b) a e):=by
 have h0:cT (cu b) (cu b)=cu b:=by
  refine it (by rw[l4 rfl]) λc g=>?_;rw[hD rfl,gx]
 have f:(bump (cu b) c 1).length=(bump (cu b) a e).length:=by rw[c6,c6]
 refine it (by rw[c6,l4 f]) λi j=>?_;rw[hD f,eO,eO (cu b) a,c6,gx,gx,cQ];by_cases d:i=a/\a<b.parts.length
 .rw[if_pos d,if_pos d,d.1];omega
 .rw[if_neg d,if_neg d];omega
theorem qe(e:Wf b){f:List Nat}(g:bT b f){c:Nat}{i:List Nat}(j:∀k,c<=k->i.getD k 0=0):∀a,c<=a->b.flowFrom f a i=b.flowFrom f c i
 |0,m=>by
  have:c=0:=by omega
  rw[this]
 |a+1,m=>by
  by_cases n:c=a+1
  .rw[n]
  .cases d:b.parts[a]? with
   |none=>rw[iu d,qe e g j a (by omega)]
   |some l=>rw[f2 d,j a (by omega),tK (e.part a l d) (g.2 a l d),qe e g j a (by omega)]
abbrev fl(b:Board)(a:List Nat)(c d:Nat):List Nat:=b.flowFrom a b.parts.length (bump (cu b) c d)
theorem hI(a:List Nat)(c d:Nat):(fl b a c d).length=b.parts.length:=by rw[qa,c6,cQ]
theorem tN(f:Wf b){a:List Nat}(g:bT b a)(c d e:Nat):fl b a c (d+e)=cT (fl b a c d) (fl b (after b a (fl b a c d)) c e):=by
 unfold fl;rw[IV,qb f g _ _ _ (by rw[c6,c6])];intro j k l i;rw[gZ i]
theorem qf(c:Wf b){a:List Nat}(d:bT b a)(e:Nat):fl b a e 0=cu b:=by
 unfold fl;rw[hH];exact n8 c d _ _ λf _=>gx f
theorem IX(e:Wf b){c:List Nat}(f:bT b c){a d:Nat}(g:a<b.parts.length):fl b c a d=b.flowFrom c (a+1) (bump (cu b) a d):=by
 refine qe e f (λi j=>?_) _ (by omega);rw[jv g,if_neg (by omega)]
theorem qg(i:Wf b){c:List Nat}(f:bT b c){a:Nat}{e:Part}(j:b.parts[a]? =some e){t n:Nat}(r:∀m,bI (eP e (c.getD a 0) 1) m=bump m t n)(o:n=0\/t<a):
  fl b c a 1=cT (bump (cu b) a 1) (fl b (c.set a (e.behind (c.getD a 0) 1)) t n)/\bT b (c.set a (e.behind (c.getD a 0) 1)):=by
 have g:=(aC.mp j).1;have p:bT b (c.set a (e.behind (c.getD a 0) 1)):=by
  refine#[by rw[ij,f.1],λd k hq=>?_];by_cases q:d=a
  .subst q
   rw[j] at hq;cases hq;have:(c.set d (e.behind (c.getD d 0) 1)).getD d 0=e.behind (c.getD d 0) 1:=by
    simp[aE,fk,f.1,g]
   rw[this];exact yP (i.part d e j) _ _
  .have:(c.set a (e.behind (c.getD a 0) 1)).getD d 0=c.getD d 0:=by
    simp[aE,fk,b8 q]
   rw[this];exact f.2 d k hq
 refine#[?_,p];rw[IX i f g,f2 j,jv g,if_pos rfl,r,IW g];rw[qb i f a _ _ (by rw[c6,c6]) λd k l hq=>?_]
 .rw[n8 i f a _ λd l=>by rw[jv g,if_neg (by omega)]]
  congr 1;refine(qe i p (λd l=>?_) _ (by omega)).symm;rcases o with rfl|o
  .rw[hH,gx]
  .rw[jv (by omega),if_neg (by omega)]
 .rw[n8 i f a _ λd l=>by rw[jv g,if_neg (by omega)],jv g,if_neg (by omega),yQ (f.2 d k hq)]
  simp[aE,fk,show¬a=d by omega]
theorem qh{c d:List Nat}{a:Nat}{f:Part}(k:bT b c)(g:b.parts[a]? =some f)(l:d.length=b.parts.length):
  after b c (cT (bump (cu b) a 1) d)=after b (c.set a (f.behind (c.getD a 0) 1)) d:=by
 have i:=(aC.mp g).1;have m:(bump (cu b) a 1).length=d.length:=by rw[c6,cQ,l]
 refine it (by rw[f3,f3]) λn j=>?_;rw[f3] at j;obtain⟨o,hq⟩:=gw j;rw[gZ hq,gZ hq,hD m,jv i];by_cases e:n=a
 .subst e
  rw[g] at hq;cases hq;rw[if_pos rfl,yR];congr 1;simp[aE,fk,k.1,i]
 .rw[if_neg e,f4]
  congr 1;simp[aE,fk,b8 e]
end
section
variable{b:Board}
theorem IY{a:List Nat}{b:Nat}(hl:2<=a.length/\a.length<=4)(j:b<a.length)(nm:Name)(g:Option Nat)(d:List Nat):bI (eP (.wheel nm a g) b 1) d=bump d (a.getD b 0) 1:=by
 have k:eP (.wheel nm a g) b 1=a.zipIdx.map λe=>(e.1,if e.2=b then 1 else 0):=by
  refine gu λe l=>?_;rw[IL hl ?_ j];have:=yV l;simpa using this
 rw[k];have m:∀(a:List Nat)(c:Nat)(d:List Nat),bI ((a.zipIdx c).map λe=>(e.1,if e.2=b then 1 else 0)) d=if c<=b/\b<c+a.length then bump d (a.getD (b-c) 0) 1 else d:=by
  intro a
  induction a with
  |nil=>intro c d;rw[if_neg (by simp only[xZ];omega)];rfl
  |cons w a n=>
   intro c d;show bI ((a.zipIdx (c+1)).map _) (bump d w (if c=b then 1 else 0))=_;rw[n];by_cases f:c=b
   .rw[if_pos f,if_neg (by omega),if_pos (by simp;omega)]
    congr 1;rw[f,ez];rfl
   .rw[if_neg f,hH]
    by_cases i:c<=b/\b<c+(a.length+1)
    .rw[if_pos (by omega),if_pos (by simpa using i)]
     congr 1;rw[show b-c=(b-(c+1))+1 by omega];rfl
    .rw[if_neg (by omega),if_neg (by simpa using i)]
 have:=m a 0 d;rw[if_pos (by omega)] at this;simpa using this
def cN(b:Board)(c d:Nat):Nat->Stand->Stand
 |0,a=>a
 |e+1,a=>cN b c d e (b.come c d a)
theorem jw(d e:Nat):∀(a:List Nat)(c:Stand),a.foldl (λ(f:Stand)(_:Nat)=>b.come d e f) c=cN b d e a.length c
 |[],c=>rfl
 |g::a,c=>by
  show a.foldl _ (b.come d e c)=cN b d e (a.length+1) c;rw[jw d e a];rfl
theorem yY(f:Wf b){g c:Nat}(i:∀a:Stand,bT b a.nums->(b.come g c a).nums=after b a.nums (fl b a.nums c 1)):∀(d:Nat)(a:Stand),bT b a.nums->(cN b g c d a).nums=after b a.nums (fl b a.nums c d)
 |0,a,e=>by
  rw[qf f e];exact(qd e gx).symm
 |d+1,a,e=>by
  show(cN b g c d (b.come g c a)).nums=_;have j:=i a e;rw[yY f i d _ (by rw[j];exact qc f _ _),j,xJ d 1,tN f e,yX (by rw[hI,hI])]
theorem qi(f:Wf b):∀(m a:Nat)(c:Stand),a<m->a<b.parts.length->bT b c.nums->(b.come m a c).nums=after b c.nums (fl b c.nums a 1)
 |0,a,c,z,_,_=>by omega
 |m+1,a,c,z,A,i=>by
  obtain⟨s,e⟩:=gw A;have w:=f.part a s e;have v:=i.2 a s e;unfold qj;rw[e];cases s with
  |tray nm=>
   obtain⟨k,g⟩:=qg (t:=0) (n:=0) f i e (λl=>by rw[hH];rfl) (.inl rfl);rw[k,qh i e (hI ..),qf f g,qd g gx];rfl
  |wheel nm o x=>
   have hl:=w.wheel nm o x rfl;have q:c.nums.getD a 0<o.length:=v;have u:o.getD (c.nums.getD a 0) 0<a:=w.below _ (by rw[aE,a2 q];exact iv q);obtain⟨k,g⟩:=qg (t:=o.getD (c.nums.getD a 0) 0) (n:=1) f i e (λl=>IY #[hl.1,hl.2.1] q nm x l) (.inr u);rw[k,qh i e (hI ..)];exact qi f m _ (c.set a ((c.num a+1)% o.length)) (by have:=u;unfold yZ at*;omega) (by have:=u;unfold yZ at*;omega) g
  |gate nm d j y=>
   have G:=w.gate nm d j y rfl;have q:c.nums.getD a 0<d:=v;have C:j<a:=w.below j (a4 ..);dsimp only;by_cases r:c.num a+1<d
   .rw[if_pos r]
    have p:c.nums.getD a 0+1<d:=r;obtain⟨k,g⟩:=qg (t:=j) (n:=0) f i e (λl=>by
     show bump l j ((c.nums.getD a 0+1)/d*d)=_;rw[tI p,IU]) (.inl rfl)
    rw[k,qh i e (hI ..),qf f g,qd g gx];show c.nums.set a (c.num a+1)=c.nums.set a ((c.nums.getD a 0+1)% d);rw[jt p];rfl
   .rw[if_neg r]
    have p:c.nums.getD a 0+1=d:=by have:¬c.nums.getD a 0+1<d:=r;omega
    obtain⟨k,g⟩:=qg (t:=j) (n:=d) f i e (λl=>by
     show bump l j ((c.nums.getD a 0+1)/d*d)=_;rw[p,IZ (by omega),I0]) (.inr C)
    rw[k,qh i e (hI ..),jw,fm];have D:(Part.gate nm d j y).behind (c.nums.getD a 0) 1=0:=by
     show(c.nums.getD a 0+1)% d=0;rw[p,tO]
    rw[D] at g⊢;exact yY f (λE F=>qi f m j E (by omega) (by omega) F) d (c.set a 0) g
end
section
variable{b:Board}
theorem ej(d:Wf b){a:Nat}(c:a<b.hoppers.length):b.entry a<b.parts.length:=by
 unfold ky;rw[a2 c];exact d.Vl _ (iv c)
theorem y0{f:Nat}{a:Part}(w:ey f a):Ok a a.first:=by
 cases a with
 |tray nm=>trivial
 |wheel nm c d=>
  have:=w.wheel nm c d rfl;cases d with
  |none=>show 0<c.length;omega
  |some b=>exact this.2.2 b rfl
 |gate nm b g e=>
  have:=w.gate nm b g e rfl;cases e with
  |none=>show 0<b;omega
  |some i=>exact this.2.2 i rfl
theorem e1(e:Wf b):bT b b.start:=by
 refine#[by simp[l6],λa c d=>?_];have:b.start.getD a 0=c.first:=by simp[l6,aE,d]
 rw[this];exact y0 (e.part a c d)
def kz(b:Board)(d:List Nat)(a:List Nat)(e:List Nat):List Nat:=a.foldl (λ(a:List Nat)(c:Nat)=>bump a (b.entry c) (d.getD c 0)) e
theorem tP(d:List Nat):∀(a c:List Nat),kz b d a c=bI (a.map λe=>(b.entry e,d.getD e 0)) c
 |[],c=>rfl
 |e::a,c=>tP d a _
theorem y1(a:List Nat):b.entries a=bI ((aS b.hoppers.length).map λc=>(b.entry c,a.getD c 0)) (cu b):=tP a _ _
theorem tQ(a:List Nat):(b.entries a).length=b.parts.length:=by rw[y1,ju,cQ]
theorem iw(a c:List Nat):(b.came a c).length=b.parts.length:=by unfold y2;rw[qa,tQ]
theorem qk(a:Wf b)(c d:List Nat):bT b (b.many c d):=qc a _ _
abbrev only(b:Board)(a c:Nat):List Nat:=(aP b.hoppers.length 0).set a c
theorem I1(a e c:Nat)(f:a<b.hoppers.length):(only b a e).getD c 0=if c=a then e else 0:=by
 simp only[only,aE,fk,cQ];by_cases d:a=c
 .subst d;simp[f]
 .rw[if_neg d,if_neg (λg=>d g.symm),fY]
  split<;>rfl
theorem y3{a f:Nat}(j:a<b.hoppers.length):b.entries (only b a f)=bump (cu b) (b.entry a) f:=by
 rw[y1];have k:∀(c:List Nat),c.Nodup-> ∀d,bI (c.map λe=>(b.entry e,(only b a f).getD e 0)) d=if a∈c then bump d (b.entry a) f else d:=by
  intro c
  induction c with
  |nil=>intro _ d;simp;rfl
  |cons e c l=>
   intro nd d;obtain⟨m,n⟩:=py.mp nd;show bI (c.map _) (bump d (b.entry e) ((only b a f).getD e 0))=_;rw[l n,I1 _ _ _ j];by_cases i:e=a
   .subst i
    rw[if_neg m,if_pos rfl,if_pos (a4 ..)]
   .rw[if_neg i,hH]
    by_cases g:a∈c
    .rw[if_pos g,if_pos (bj _ g)]
    .rw[if_neg g,if_neg (by simp[g,b8 i])]
 rw[k _ List.nodup_range,if_pos (by simpa using j)]
theorem tR{a:List Nat}{c d:Nat}(e:c<b.hoppers.length):b.many a (only b c d)=after b a (fl b a (b.entry c) d):=by
 rw[tM];unfold y2;rw[y3 e]
theorem I2(a:Wf b){c k:Nat}(d:c<b.hoppers.length){s:Stand}(e:s.nums=b.many b.start (only b c k)):
  (b.come b.parts.length (b.entry c) s).nums=b.many b.start (only b c (k+1)):=by
 have f:=e1 a;rw[tR d] at e;have g:bT b s.nums:=by rw[e];exact qc a _ _
 rw[qi a _ _ _ (ej a d) (ej a d) g,e,tR d,tN a f,yX (by rw[hI,hI])]
theorem I3(a:Wf b){c:Nat}(d:c<b.hoppers.length):b.many b.start (only b c 0)=b.start:=by
 rw[tR d,qf a (e1 a)];exact qd (e1 a) gx
end
end Ma
end
variable{P:PySem.Program}{w:PySem.World}{K:aj}{d:PySem.Str->Option PySem.Value}{base:PySem.Heap}{c:Mb.Cs}
section
namespace Mb
open PySem PySem.Spec PyProof.Rows L2 Ex
theorem cH{f:Str}{b:V}:∀{fs:List (Str×V)}{ks:List Str},fs.map (·.1)=ks->f∉ks->df f b fs=fs++[(f,b)]
 |[],_,_,_=>rfl
 |(d,i)::fs,ks,e,c=>by
  subst e;have D:¬d=f:=λa=>c (by rw[<-a];exact a4 ..);have g:f∉fs.map (·.1):=λa=>c (bj _ a);unfold df;rw[if_neg D,cH rfl g];rfl
inductive cU(g:B)(i:List Str)(m:List V)(j:G)(n:VK)(o:XK):Prop
 |mk(a k:B)(b:List V)(p:m=.ref a::b)(q:b.length=i.length)(r:j a=some (.ins g k []))(s:∀e:G,e a=some (.ins g k (i.zip b))->(∀f l,j f=some l->f≠a->e f=some l)->n .non e)
theorem cU.len{g:B}{b c:List Str}(hl:c.length=b.length+1):∀a d e f,cU g b a d e f->a.length=c.length:=by
 rintro a d e f ⟨j,k,l,rfl,i,_⟩;rw[bV,i,hl]
theorem y4(a:Tx K d c):d8 P w K d base 1 c.RL "Hopper" ["self","name","part"] (cU c.RL ["name","part"]):=by
 refine kv a.Vf a.Vb ["self","name","part"] (λs t u v x nd k=>?_) (cU.len rfl);obtain⟨f,e,g,rfl,hl,l,m⟩:=k;obtain⟨v1,b,rfl⟩:∃v1 b,g=[v1,b]:=jo (p:=λn=>∃v1 b,n=[v1,b]) (λo i=>#[o,i,rfl]) g hl;refine#[_,J (cj (E 0) (E 1) rfl) (ae (cj (E 0) (E 2) rfl)),?_];refine#[f,c.RL,e,_,rfl,l,a.RB,a.R6,(by show 0<1000;decide),?_];refine#[f,c.RL,e,_,rfl,Y,a.RB,a.Rm,(by show 1<1000;decide),?_];refine m _ ?_ (λi y q j=>by rw[aa j,aa j];exact q);rw[Y];refine congrArg (λr=>some (HO.ins c.RL e r)) ?_;rw[cH (fs:=[]) (ks:=[]) rfl (by decide+kernel),cH (ks:=["name"]) rfl (by decide+kernel)];rfl
theorem n9(a:Tx K d c):d8 P w K d base 1 c.Part "Part" ["self","kind","name","ways","turn","first","told"] (cU c.Part ["kind","name","ways","turn","first","told"]):=by
 refine kv a.VZ a.VO ["self","kind","name","ways","turn","first","told"] (λy z A C D nd q=>?_) (cU.len rfl);obtain⟨b,e,n,rfl,hl,r,s⟩:=q;obtain⟨v1,g,i,j,k,l,rfl⟩:∃v1 g i j k l,n=[v1,g,i,j,k,l]:=jp (p:=λt=>∃v1 g i j k l,t=[v1,g,i,j,k,l]) (λu o c v m x=>#[u,o,c,v,m,x,rfl]) n hl;refine#[_,J (cj (E 0) (E 1) rfl) (J (cj (E 0) (E 2) rfl) (J (cj (E 0) (E 3) rfl) (J (cj (E 0) (E 4) rfl) (J (cj (E 0) (E 5) rfl) (ae (cj (E 0) (E 6) rfl)))))),?_];refine#[b,c.Part,e,_,rfl,r,a.Q7,a.Q8,(by show 0<1000;decide),?_];rw[cH rfl (by decide+kernel)];refine#[b,c.Part,e,_,rfl,Y,a.Q7,a.Ru,(by show 1<1000;decide),?_];rw[cH (ks:=["kind"]) rfl (by decide+kernel)];refine#[b,c.Part,e,_,rfl,Y,a.Q7,a.Re,(by show 2<1000;decide),?_];rw[cH (ks:=["kind","name"]) rfl (by decide+kernel)];refine#[b,c.Part,e,_,rfl,Y,a.Q7,a.Rg,(by show 3<1000;decide),?_];rw[cH (ks:=["kind","name","ways"]) rfl (by decide+kernel)];refine#[b,c.Part,e,_,rfl,Y,a.Q7,a.RG,(by show 4<1000;decide),?_];rw[cH (ks:=["kind","name","ways","turn"]) rfl (by decide+kernel)];refine#[b,c.Part,e,_,rfl,Y,a.Q7,a.R4,(by show 5<1000;decide),?_];rw[cH (ks:=["kind","name","ways","turn","first"]) rfl (by decide+kernel)];refine s _ ?_ (λo F m f=>by rw[aa f,aa f,aa f,aa f,aa f,aa f];exact m);rw[Y];rfl
theorem tS(a:Tx K d c):d8 P w K d base 1 c.Board "Board" ["self","parts","hoppers"] (cU c.Board ["parts","hoppers"]):=by
 refine kv a.Vw a.VA ["self","parts","hoppers"] (λs t u v x nd k=>?_) (cU.len rfl);obtain⟨f,e,g,rfl,hl,l,m⟩:=k;obtain⟨v1,b,rfl⟩:∃v1 b,g=[v1,b]:=jo (p:=λn=>∃v1 b,n=[v1,b]) (λo i=>#[o,i,rfl]) g hl;refine#[_,J (cj (E 0) (E 1) rfl) (ae (cj (E 0) (E 2) rfl)),?_];refine#[f,c.Board,e,_,rfl,l,a.Q5,a.Q3,(by show 0<1000;decide),?_];refine#[f,c.Board,e,_,rfl,Y,a.Q5,a.Q4,(by show 1<1000;decide),?_];refine m _ ?_ (λi y q j=>by rw[aa j,aa j];exact q);rw[Y];refine congrArg (λr=>some (HO.ins c.Board e r)) ?_;rw[cH (fs:=[]) (ks:=[]) rfl (by decide+kernel),cH (ks:=["parts"]) rfl (by decide+kernel)];rfl
theorem n_(a:Tx K d c):d8 P w K d base 1 c.Token "Token" ["self","kind","value","place"] (cU c.Token ["kind","value","place"]):=by
 refine kv a.Vz a.Vv ["self","kind","value","place"] (λu v x y z nd m=>?_) (cU.len rfl);obtain⟨i,b,k,rfl,hl,n,o⟩:=m;obtain⟨v1,e,g,rfl⟩:∃v1 e g,k=[v1,e,g]:=kt (p:=λq=>∃v1 e g,q=[v1,e,g]) (λr l c=>#[r,l,c,rfl]) k hl;refine#[_,J (cj (E 0) (E 1) rfl) (J (cj (E 0) (E 2) rfl) (ae (cj (E 0) (E 3) rfl))),?_];refine#[i,c.Token,b,_,rfl,n,a.Rt,a.Se,(by show 0<1000;decide),?_];refine#[i,c.Token,b,_,rfl,Y,a.Rt,a.Rj,(by show 1<1000;decide),?_];refine#[i,c.Token,b,_,rfl,Y,a.Rt,a.RJ,(by show 2<1000;decide),?_];refine o _ ?_ (λl A s j=>by rw[aa j,aa j,aa j];exact s);rw[Y];refine congrArg (λt=>some (HO.ins c.Token b t)) ?_;rw[cH (fs:=[]) (ks:=[]) rfl (by decide+kernel),cH (f:= "value") (ks:=["kind"]) rfl (by decide+kernel),cH (ks:=["kind","value"]) rfl (by decide+kernel)];rfl
def nm(a:bo):Str:=#[(a.map eA).toArray]
theorem tT{a b:bo}(c:nm a=nm b):a=b:=by
 have D:a.map eA=b.map eA:=by
  have:=congrArg (λd:Str=>d.cps.toList) c;simpa[nm] using this
 exact I4 (λf g e=>ql.mp e)|>.mp D
def fp:bX->Str
 | .tray _=> "tray"
 | .wheel _ _ _=> "wheel"
 | .gate _ _ _ _=> "gate"
def eB:bX->Nat
 | .tray _=>0
 | .wheel _ a _=>a.length
 | .gate _ b _ _=>b
def I5:bX->Bool
 | .tray _=>false
 | .wheel _ _ a=>a.isSome
 | .gate _ _ _ b=>b.isSome
abbrev L(a:List Nat):List V:=a.map λ(b:Nat)=>V.int (b:Int)
def pf(a:bX)(b:B):List (Str×V):=[("kind",.str (fp a)),("name",.str (nm a.name)),("ways",.ref b),("turn",.int (eB a)),("first",.int a.first),("told",.bl (I5 a))]
def f5(c:Cs)(a:G)(e:B)(b:bX):Prop:=∃f d,a e=some (.ins c.Part f (pf b d))/\a d=some (.lst (L (Ma.ways b)))
def jx(c:Cs)(b:G)(d:B)(a:bo×Nat):Prop:=∃e,b d=some (.ins c.RL e [("name",.str (nm a.1)),("part",.int a.2)])
structure l7(c:Cs)(b:G)(i:B)(d:List bX)(a:List B):Prop where
 lst:b i=some (.lst (a.map V.ref))
 len:a.length=d.length
 at_:∀(e:Nat)(f:B)(g:bX),a[e]? =some f->d[e]? =some g->f5 c b f g
structure l8(c:Cs)(b:G)(i:B)(d:List (bo×Nat))(a:List B):Prop where
 lst:b i=some (.lst (a.map V.ref))
 len:a.length=d.length
 at_:∀(e:Nat)(f:B)(g:bo×Nat),a[e]? =some f->d[e]? =some g->jx c b f g
def bf(a hl:B):List (Str×V):=[("parts",.ref a),("hoppers",.ref hl)]
structure qm(c:Cs)(a:G)(e:B)(b:an)(f d hl:B)(g i:List B):Prop where
 obj:a e=some (.ins c.Board f (bf d hl))
 parts:l7 c a d b.parts g
 Q9:l8 c a hl b.hoppers i
 wf:Ma.Wf b
def bM(c:Cs)(a:G)(b:B)(d:an):Prop:=∃e f hl g i,qm c a b d e f hl g i
section
variable{c:Cs}{H a:G}
theorem f5.same{b:B}{d:bX}(f:f5 c H b d)(e:Same H a):f5 c a b d:=let⟨g,i,D,j⟩:=f;#[g,i,e _ _ D,e _ _ j]
theorem jx.same{b:B}{d:bo×Nat}(e:jx c H b d)(f:Same H a):jx c a b d:=let⟨g,D⟩:=e;#[g,f _ _ D]
theorem l7.same{d:B}{e:List bX}{f:List B}(b:l7 c H d e f)(g:Same H a):l7 c a d e f:=#[g _ _ b.lst,b.len,λi j k D l=>(b.at_ i j k D l).same g]
theorem l8.same{d:B}{e:List (bo×Nat)}{f:List B}(b:l8 c H d e f)(g:Same H a):l8 c a d e f:=#[g _ _ b.lst,b.len,λi j k D l=>(b.at_ i j k D l).same g]
theorem qm.same{e:B}{f:an}{g i hl:B}{j k:List B}(b:qm c H e f g i hl j k)(d:Same H a):qm c a e f g i hl j k:=#[d _ _ b.obj,b.parts.same d,b.Q9.same d,b.wf]
theorem bM.same{b:B}{d:an}(e:bM c H b d)(f:Same H a):bM c a b d:=let⟨g,i,hl,j,k,l⟩:=e;#[g,i,hl,j,k,l.same f]
theorem _root_.L2.Same.upd{a:B}{o:HO}(c:H a=none):Same H (L2.upd H a o):=λd o b=>by rw[aa (aK b c)];exact b
theorem _root_.L2.Same.put{b:G}{c:B}{a:HO}(e:Same H b)(f:H c=none):Same H (L2.upd b c a):=λg a d=>by rw[aa (aK d f)];exact e g a d
theorem l7.get{j:B}{d:List bX}{a:List B}(x:l7 c H j d a){i:Nat}{b:bX}(e:d[i]? =some b):∃f,a[i]? =some f/\f5 c H f b:=by
 have g:i<a.length:=by rw[x.len];exact(aC.mp e).1
 exact#[a[i],a2 g,x.at_ i _ b (a2 g) e]
theorem l8.get{j:B}{d:List (bo×Nat)}{a:List B}(x:l8 c H j d a){i:Nat}{b:bo×Nat}(e:d[i]? =some b):∃f,a[i]? =some f/\jx c H f b:=by
 have g:i<a.length:=by rw[x.len];exact(aC.mp e).1
 exact#[a[i],a2 g,x.at_ i _ b (a2 g) e]
end
theorem cp{c:Type}:∀{l:List c}{i:Nat}{x:c},l[i]? =some x->l.take (i+1)=l.take i++[x]
 |[],i,x,a=>by simp at a
 |b::l,0,x,a=>by
  have d:=b5 a;subst d;rfl
 |b::l,i+1,x,a=>by
  have e:=cp (l:=l) (i:=i) (x:=x) a;show b::l.take (i+1)=b::l.take i++[x];rw[e];rfl
theorem bt{e f:Type}{c:List e}{g:e->f}{d:Nat}{i:f}(a:(c.map g)[d]? =some i):∃b,c[d]? =some b/\i=g b:=by
 rw[a6] at a;cases j:c[d]? with
 |none=>rw[j] at a;cases a
 |some b=>rw[j] at a;exact#[b,rfl,(b5 a).symm]
theorem small{a:Nat}(b:a<=100000):a<aq:=lU b (by decide)
theorem c7{c e:Type}{d:List c}{a:List e}(f:d.length=a.length){b:Nat}{g:c}(i:d[b]? =some g):∃j,a[b]? =some j:=by
 have k:b<a.length:=by rw[<-f];exact(aC.mp i).1
 exact#[a[b],a2 k]
theorem l9{a:Cx}{b:Expr}{d:TE}{c:Str}{e:aU}(K:aj)(hK:a.K=K)(f:PE a b d)(g:jd b c a.env (aA b a.env)=aA b a.env):PE a (.Attribute b c e) (pp K d c):=by
 subst hK;exact fX f g
theorem c3{e:L2.St}{a:G}{b c:G->Prop}(f:b a):xT e a λg d=>if g=true then b d else c d:=by
 show if true=true then b a else c a
 exact dm f
inductive tU(c:Cs)(i:List V)(a:G)(j:VK)(k:XK):Prop
 |mk(f:B)(g:an)(l:i=[.ref f])(m:bM c a f g)(n:∀(b:G)(e:B),Same a b->a e=none->b e=some (.lst (L g.start))->j (.ref e) b)
theorem kA(f:Tx K d c):ao P w K d base 1 "first_numbers" ["board"] (tU c):=by
 refine bS f.Tc ["board","part"] λp y z A C nd q=>?_;obtain⟨F,g,rfl,⟨G,H,hl,r,J,a⟩,s⟩:=q;refine#[_,ae (ax (gW (own:=[("part",1)]) rfl nd (b9 (ah 0)) (cS (N:=["board","part"]) (sc:=bi Cd) (by decide+kernel)) (λ_ _ _ _ _=>aO 1) (λ_ _ _ _ _=>c2) (λ_ _ _ _ _=>l9 K rfl (E 1) rfl))),?_];refine#[a.obj,f.Q5,f.Q3,I.of a.parts.lst,λl k=>?_];refine eW (λi b=>Same p b/\b l=some (.lst (L (g.start.take i)))) #[.upd k,Y] (λi b _ ⟨e,_⟩=>I.of (e _ _ a.parts.lst)) ?_ ?_
 .rintro i O b t ⟨e,j⟩
  obtain⟨u,m,rfl⟩:=bt t;obtain⟨n,o⟩:=c7 a.parts.len m;obtain⟨Q,R,D,S⟩:=a.parts.at_ i u n m o;have v:g.start[i]? =some n.first:=by simp[l6,o]
  refine#[rfl,c3 ?_];refine#[e _ _ D,f.Q7,f.RG,_,j,?_,?_]
  .rw[ag,ck]
   exact small (by have:=a.wf.np;have:g.start.length=g.parts.length:=(by simp[l6]);omega)
  .refine#[e.put k,?_]
   rw[Y,cp v,L,L,br];rfl
 .rintro b ⟨e,j⟩
  have x:(r.map V.ref).length=g.start.length:=by simp[l6,a.parts.len]
  rw[x,dY] at j;exact s b l e k j
end Mb
end
section
namespace Ma
open Marble
section
variable{b:Board}
theorem qn(j:Wf b):∀(e f a:Nat)(c:Stand),a<e->a<f->b.come e a c=b.come f a c
 |0,_,_,_,k,_=>by omega
 |_+1,0,_,_,_,k=>by omega
 |e+1,f+1,a,c,k,s=>by
  unfold qj;cases m:b.parts[a]? with
  |none=>rfl
  |some l=>
   have w:=j.part a l m;cases l with
   |tray d=>rfl
   |wheel d i n=>
    have hl:=w.wheel d i n rfl;have t:i.getD (c.num a) 0<a:=by
     rw[aE];cases o:i[c.num a]? with
     |none=>
      have:i[0]'(by omega)<a:=w.below (i[0]'(by omega)) (iv _);show 0<a;omega
     |some p=>exact w.below _ (a7 o)
    exact qn j e f _ _ (by omega) (by omega)
   |gate d u g p=>
    have v:g<a:=w.below g (a4 ..);dsimp only;split
    .rfl
    .rw[jw,jw]
     have q:∀(d:Nat)(c:Stand),cN b e g d c=cN b f g d c:=by
      intro d
      induction d with
      |zero=>intro c;rfl
      |succ d r=>intro c;show cN b e g d _=cN b f g d _;rw[qn j e f g c (by omega) (by omega),r]
     exact q _ _
theorem l_:∀(a d:Nat)(e f:List Nat),b.come a d #[e,f]=#[(b.come a d #[e,[]]).nums,(b.come a d #[e,[]]).log++f]
 |0,d,e,f=>rfl
 |a+1,d,e,f=>by
  unfold qj;cases s:b.parts[d]? with
  |none=>rfl
  |some o=>
   cases o with
   |tray l=>rfl
   |wheel l t u=>
    show b.come a _ #[_,d::f]=_;rw[l_ a _ _ (d::f)];show _=(#[(b.come a _ #[_,[d]]).nums,(b.come a _ #[_,[d]]).log++f]:Stand);rw[l_ a _ _ [d]];simp[yZ]
   |gate l j g v=>
    have m:∀(c:Nat)(e f:List Nat),cN b a g c #[e,f]=#[(cN b a g c #[e,[]]).nums,(cN b a g c #[e,[]]).log++f]:=by
     intro c
     induction c with
     |zero=>intro e f;rfl
     |succ c n=>
      intro e f;show cN b a g c (b.come a g #[e,f])=_;rw[l_ a g e f,n];show _=(#[(cN b a g c (b.come a g #[e,[]])).nums,(cN b a g c (b.come a g #[e,[]])).log++f]:Stand);generalize b.come a g #[e,[]]=p;obtain⟨q,r⟩:=p;rw[n q r];simp
    dsimp only;by_cases i:(#[e,f]:Stand).num d+1<j
    .have k:(#[e,[]]:Stand).num d+1<j:=i
     rw[if_pos i,if_pos k];rfl
    .have k:¬(#[e,[]]:Stand).num d+1<j:=i
     rw[if_neg i,if_neg k,jw,jw];show cN b a g _ #[_,d::f]=(#[(cN b a g _ #[_,[d]]).nums,(cN b a g _ #[_,[d]]).log++f]:Stand);rw[m _ _ (d::f),m _ _ [d]];simp
theorem ma{c:List Nat}(f:bT b c){e d:Nat}{g:Part}(i:b.parts[e]? =some g)(k:Ok g d):bT b (c.set e d):=by
 refine#[by rw[ij,f.1],λa l hq=>?_];have m:=(aC.mp i).1;by_cases j:a=e
 .subst j
  rw[i] at hq;cases hq;have:(c.set a d).getD a 0=d:=by simp[aE,fk,f.1,m]
  rw[this];exact k
 .have:(c.set e d).getD a 0=c.getD a 0:=by simp[aE,fk,b8 j]
  rw[this];exact f.2 a l hq
def pile(b:Board)(a:List Nat)(c:Stand):Stand:=a.reverse.foldl (λ(d:Stand)(e:Nat)=>b.come b.parts.length e d) c
theorem mb(a:List Nat)(c:Nat)(d:Stand):pile b (a++[c]) d=pile b a (b.come b.parts.length c d):=by
 unfold pile;rw[List.reverse_append];rfl
theorem y5(d:List Nat)(e:Nat):∀(a:Nat)(c:Stand),pile b (d++aP a e) c=pile b d (cN b b.parts.length e a c)
 |0,c=>by rw[List.replicate_zero,eH];rfl
 |a+1,c=>by
  rw[qo,<-kl,mb,y5 d e a];rfl
theorem qp{a:Nat}{d:Part}(e:b.parts[a]? =some d)(c:Stand):b.come b.parts.length a c=match d with
  | .tray _=>c.set a (c.num a+1)
  | .wheel _ f _=>b.come (b.parts.length-1) (f.getD (c.num a) 0) (c.set a ((c.num a+1)% f.length))
  | .gate _ g j _=>if c.num a+1<g then c.set a (c.num a+1) else(aS g).foldl (λk(_:Nat)=>b.come (b.parts.length-1) j k) (c.set a 0):=by
 have m:=(aC.mp e).1;obtain⟨i,l⟩:∃i,b.parts.length=i+1:=#[b.parts.length-1,by omega];rw[l];cases d<;>(conv=>lhs;unfold qj)<;>simp only[e]<;>rfl
theorem I6{d:List Nat}{a:Nat}{e:Name}(f:b.parts[a]? =some (.tray e))(c:Stand):pile b (d++[a]) c=pile b d (c.set a (c.num a+1)):=by
 rw[mb,qp f]
theorem I7(f:Wf b){g c:List Nat}{a:Nat}{i:Name}{j:Option Nat}(e:b.parts[a]? =some (.wheel i c j))(d:Stand):pile b (g++[a]) d=pile b (g++[c.getD (d.num a) 0]) (d.set a ((d.num a+1)% c.length)):=by
 rw[mb,qp e,mb];have l:=(aC.mp e).1;have w:=f.part a _ e;have hl:=w.wheel i c j rfl;have m:c.getD (d.num a) 0<a:=by
  rw[aE];cases k:c[d.num a]? with
  |none=>
   have:=w.below (c[0]'(by omega)) (iv _);show 0<a;omega
  |some n=>exact w.below _ (a7 k)
 dsimp only;rw[qn f (b.parts.length-1) b.parts.length _ _ (by omega) (by omega)]
theorem I8{d:List Nat}{a e f:Nat}{g:Name}{i:Option Nat}(j:b.parts[a]? =some (.gate g e f i))(c:Stand)(k:c.num a+1<e):pile b (d++[a]) c=pile b d (c.set a (c.num a+1)):=by
 rw[mb,qp j];dsimp only;rw[if_pos k]
theorem I9(i:Wf b){j:List Nat}{e f d:Nat}{a:Name}{k:Option Nat}(g:b.parts[e]? =some (.gate a f d k))(c:Stand)(l:¬c.num e+1<f):pile b (j++[e]) c=pile b (j++aP f d) (c.set e 0):=by
 rw[mb,qp g];dsimp only;rw[if_neg l,y5,jw,fm];have o:=(aC.mp g).1;have p:=(i.part e _ g).below d (a4 ..);have m:∀(a:Nat)(c:Stand),cN b (b.parts.length-1) d a c=cN b b.parts.length d a c:=by
  intro a
  induction a with
  |zero=>intro c;rfl
  |succ a n=>intro c;show cN b _ d a _=cN b _ d a _;rw[qn i (b.parts.length-1) b.parts.length d c (by omega) (by omega),n]
 rw[m]
def weight(a:List Nat):Nat:=(a.map λb=>101^b).sum
theorem oa(a:List Nat)(b:Nat):weight (a++[b])=weight a+101^b:=by simp[weight]
theorem I_(a:List Nat)(b c:Nat):weight (a++aP b c)=weight a+b*101^c:=by
 unfold weight;rw[br,tV,qq,List.sum_replicate_nat]
theorem y6{a b k:Nat}(c:a<b)(d:k<=100):k*101^a<101^b:=by
 have D:101^(a+1)<=101^b:=oc (by omega) c;have e:0<101^a:=mc (by omega);rw[md] at D;have f:k*101^a<=100*101^a:=mf _ d;omega
def iy(b:Nat)(d:List Nat):Prop:=∀c a,d[c]? =some a->a<b/\c+1<=100*(b-a)
theorem iy.init{a:Nat}{b:List Nat}{c:Nat}(d:iy a (b++[c])):iy a b/\c<a/\b.length+1<=100*(a-c):=by
 refine#[λf g e=>d f g ?_,?_]
 .rw[cF (aC.mp e).1]
  exact e
 .exact d b.length c (by simp)
theorem iy.rep{b:Nat}{e:List Nat}{c d k:Nat}(g:iy b (e++[c]))(l:d<c)(m:k<=100):iy b (e++aP k d):=by
 obtain⟨D,n,o⟩:=g.init;intro f i a;by_cases j:f<e.length
 .rw[cF j] at a
  exact D f i a
 .rw[dB (by omega),fY] at a
  split at a
  .cases a
   refine#[by omega,?_];have:b-d=b-c+(c-d):=by omega
   rw[this,y7];omega
  .cases a
theorem iy.size{b:Nat}{a:List Nat}(d:iy b a):a.length<=100*b:=by
 cases e:a.length with
 |zero=>omega
 |succ c=>
  obtain⟨D,f⟩:=d c a[c] (a2 (by omega));have:100*(b-a[c])<=100*b:=y8 _ (by omega);omega
end
theorem y9{f g:Nat->Nat}{i:Nat}(c:∀b,b≠i->f b=g b):∀a,i<a->((aS a).map f).sum+g i=((aS a).map g).sum+f i
 |0,e=>by omega
 |a+1,e=>by
  rw[f6,br,br,tV,tV];simp only[bE,im,hJ,Ja];by_cases d:i=a
  .subst d
   have j:(aS i).map f=(aS i).map g:=gu λb k=>c b (by have:=e7.mp k;omega);rw[j];omega
  .have m:=y9 c a (by omega)
   have:=c a (λl=>d l.symm);omega
theorem y_{b:Nat->Nat}{c:Nat}(d:∀e,b e<=c):∀a,((aS a).map b).sum<=c*a
 |0=>by simp
 |a+1=>by
  rw[f6,br,tV];simp only[bE,im,hJ,Ja];have:=y_ d a;have:=d a;rw[tW];omega
section
variable{b:Board}
def od(a:Option Part)(b:Nat):Nat:=match a with
 |some (.gate _ _ _ _)=>b
 |_=>0
def ce(b:Board)(c:List Nat):Nat:=((aS b.parts.length).map λa=>od b.parts[a]? (c.getD a 0)).sum
theorem Jb{s:List Nat}{a v:Nat}(e:s.length=b.parts.length)(d:a<b.parts.length):ce b (s.set a v)+od b.parts[a]? (s.getD a 0)=ce b s+od b.parts[a]? v:=by
 have j:(s.set a v).getD a 0=v:=by simp[aE,fk,e,d]
 have:=y9 (f:=λc=>od b.parts[c]? ((s.set a v).getD c 0)) (g:=λc=>od b.parts[c]? (s.getD c 0)) (i:=a) (λc k=>by
  have:(s.set a v).getD c 0=s.getD c 0:=by simp[aE,fk,b8 k]
  rw[this]) _ d
 rw[j] at this;exact this
theorem za(e:Wf b){a:List Nat}(j:bT b a):ce b a<=6400:=by
 have:ce b a<=100*b.parts.length:=y_ (λc=>by
  cases f:b.parts[c]? with
  |none=>exact aR _
  |some k=>
   cases k with
   |gate d g l i=>
    have D:=(e.part c _ f).gate d g l i rfl;have m:a.getD c 0<g:=j.2 c _ f;show a.getD c 0<=100;omega
   |tray d=>exact aR _
   |wheel d n i=>exact aR _) _
 have:=e.np;omega
def dt(b:Board)(a:Stand):Nat:=(a.log.filter b.isTray).length
theorem zb(a:Stand):(b.falls a).length=dt b a:=by simp[qr,dt]
theorem tX(a:Stand)(c d:Nat):dt b (a.set c d)=dt b a+if b.isTray c=true then 1 else 0:=by
 unfold dt tY;rw[f7];split<;>simp
theorem Jc{a:Nat}{c:Part}(d:b.parts[a]? =some c):b.isTray a=c.isTray:=by simp[eQ,d]
theorem tZ(e:Wf b){c a:Nat}{d:Stand}(f:a<c)(g:a<b.parts.length)(i:bT b d.nums):bT b (b.come c a d).nums:=by
 rw[qi e c a d f g i];exact qc e _ _
theorem qs(n:Wf b):∀(e d:Nat)(a:Stand),d<e->d<b.parts.length->bT b a.nums->dt b (b.come e d a)+ce b (b.come e d a).nums=dt b a+ce b a.nums+1
 |0,d,a,C,_,_=>by omega
 |e+1,d,a,C,y,o=>by
  obtain⟨p,k⟩:=gw y;have w:=n.part d p k;have q:=o.2 d p k;have r:=Jc k;have m:=λt=>Jb (s:=a.nums) (v:=t) o.1 y;rw[k] at m;unfold qj;rw[k];cases p with
  |tray nm=>
   have D:=m (a.num d+1);have l:=tX (b:=b) a d (a.num d+1);rw[r,if_pos (by rfl)] at l;show dt b (a.set d (a.num d+1))+ce b (a.nums.set d (a.num d+1))=_;change ce b (a.nums.set d (a.num d+1))+0=ce b a.nums+0 at D;omega
  |wheel nm f E=>
   have hl:=w.wheel nm f E rfl;have u:a.nums.getD d 0<f.length:=q;have I:f.getD (a.num d) 0<d:=w.below _ (by
    show f.getD (a.nums.getD d 0) 0∈f;rw[aE,a2 u];exact iv u)
   have D:=m ((a.num d+1)% f.length);change ce b (a.nums.set d ((a.num d+1)% f.length))+0=ce b a.nums+0 at D;have l:=tX (b:=b) a d ((a.num d+1)% f.length);rw[r,if_neg (by show¬false=true;decide)] at l;have:=qs n e (f.getD (a.num d) 0) (a.set d ((a.num d+1)% f.length)) (by omega) (by omega) (ma o k (jj _ (by omega)));change _=_+ce b (a.nums.set d ((a.num d+1)% f.length))+1 at this;dsimp only;omega
  |gate nm j g F=>
   have J:=w.gate nm j g F rfl;have u:a.nums.getD d 0<j:=q;have K:g<d:=w.below g (a4 ..);have l:=λt=>tX (b:=b) a d t;rw[r] at l;dsimp only;by_cases z:a.num d+1<j
   .rw[if_pos z]
    have D:=m (a.num d+1);change ce b (a.nums.set d (a.num d+1))+a.num d=ce b a.nums+(a.num d+1) at D;have x:=l (a.num d+1);rw[if_neg (by show¬false=true;decide)] at x;show dt b (a.set d (a.num d+1))+ce b (a.nums.set d (a.num d+1))=_;omega
   .rw[if_neg z,jw,fm]
    have L:a.num d+1=j:=by have:a.num d<j:=q;omega
    have D:=m 0;change ce b (a.nums.set d 0)+a.num d=ce b a.nums+0 at D;have x:=l 0;rw[if_neg (by show¬false=true;decide)] at x;have G:∀(c:Nat)(i:Stand),bT b i.nums->dt b (cN b e g c i)+ce b (cN b e g c i).nums=dt b i+ce b i.nums+c:=by
     intro c
     induction c with
     |zero=>intro i _;rfl
     |succ c H=>
      intro i A;show dt b (cN b e g c (b.come e g i))+ce b (cN b e g c (b.come e g i)).nums=_;rw[H _ (tZ n (by omega) (by omega) A),qs n e g i (by omega) (by omega) A];omega
    rw[G j (a.set d 0) (ma o k (by show 0<j;omega))];change dt b (a.set d 0)+ce b (a.nums.set d 0)+j=_;omega
theorem Jd(c d:Nat)(a:Stand):dt b a<=dt b (b.come c d a):=by
 obtain⟨e,f⟩:=a;rw[l_];simp[dt]
theorem Je(c:List Nat):∀(a:Stand),dt b a<=dt b (pile b c a):=by
 unfold pile
 induction c.reverse with
 |nil=>intro a;exact av _
 |cons e f d=>intro a;exact bB (Jd _ _ _) (d _)
theorem Jf(e:Wf b){c:Nat}{a:List Nat}(f:c<b.parts.length)(g:bT b a){i:List Nat}{d:Stand}(j:pile b i d=b.come b.parts.length c #[a,[]]):(b.falls d).length<=6401:=by
 rw[zb];have D:=Je (b:=b) i d;rw[j] at D;have k:=qs e b.parts.length c #[a,[]] f f g;have l:=za e g;have m:dt b #[a,[]]=0:=rfl;dsimp only at k;omega
end
end Ma
end
section
namespace Mb
open PySem PySem.Spec PyProof.Rows L2 Ex
theorem g0{b a:Nat}(c:a<b):ig b (a:Int)=some a:=by
 unfold ig;rw[if_pos (by omega),if_pos (by omega)];rfl
theorem dZ{a:List Nat}{b c:Nat}(d:a[b]? =some c):(L a)[b]? =some (.int c):=by rw[L,a6,d];rfl
theorem mh(a:List Nat)(b c:Nat):(L a).set b (.int c)=L (a.set b c):=by simp[L]
theorem d9(a:List Nat)(b:Nat):L a++[.int b]=L (a++[b]):=by simp[L]
theorem aF(a:List Nat):(L a).length=a.length:=by simp[L]
theorem d_{a:List Nat}{b:Nat}(c:b<a.length):a[b]? =some (a.getD b 0):=by rw[aE,a2 c];rfl
def b7(c:B)(d e:G):Prop:=∀a b,d a=some b->a≠c->e a=some b
theorem b7.same{b:B}{a c d:G}(i:b7 b c d)(j:Same a c)(k:a b=none):Same a d:=λe f g=>i e f (j e f g) (aK g k)
theorem b7.upd{b c:B}{a d:G}{o:HO}(f:b7 b a d)(g:a c=none):b7 b a (L2.upd d c o):=λi j e k=>by rw[aa (aK e g)];exact f i j e k
theorem b7.own{a:B}{b c:G}{o:HO}(e:b7 a b c):b7 a b (L2.upd c a o):=λf g i d=>by rw[aa d];exact e f g i d
theorem b7.refl(b:B)(a:G):b7 b a a:=λ_ _ c _=>c
theorem iz{a:Str}{b c:Prop}(d:b):if decide (V.str a=V.str a)=true then b else c:=by
 rw[decide_eq_true rfl];exact dm d
theorem fH{a b:Str}{d c:Prop}(e:¬a=b)(f:c):if decide (V.str a=V.str b)=true then d else c:=by
 rw[decide_eq_false (λg=>e (V.str.inj g))];exact dk f
inductive zc(c:Cs)(m:List V)(e:G)(n:VK)(o:XK):Prop
 |mk(l b:B)(a:an)(f:List Nat)(g:Nat)(j:G)(p:m=[.ref l,.ref b,.int g])(q:Same j e)(r:j b=none)(s:bM c j l a)(t:e b=some (.lst (L f)))(u:g<a.hoppers.length)(v:Ma.bT a f)(x:∀(i:G)(k:B),b7 b e i->e k=none->i b=some (.lst (L (a.come a.parts.length (a.entry g) #[f,[]]).nums))->i k=some (.lst (L (a.falls (a.come a.parts.length (a.entry g) #[f,[]]))))->n (.ref k) i)
structure LG(f a:G)(d fl cm:B)(b:an)(c:qt)(e:List Nat):Prop where
 kept:b7 d f a
 nums:a d=some (.lst (L c.nums))
 V7:a fl=some (.lst (L (b.falls c)))
 pile:a cm=some (.lst (L e))
 st:Ma.bT b c.nums
 low:Ma.iy b.parts.length e
theorem zd(e:Tx K d c):ao P w K d base 1 "let_go" ["board","numbers","hopper"] (zc c):=by
 refine bS e.Vh ["board","numbers","hopper","fallen","comings","place","part","number"] λu cs ct cu cA nd r=>?_;obtain⟨bW,i,g,aJ,r,aL,rfl,be,aN,⟨cD,cG,hl,cH,cJ,G⟩,aO,bf,bi,bY⟩:=r;have H:=G.wf;refine#[_,J (al 3 (a3 er))
  (J (al 4 (a3 (af (fX (aI (ah 0) (E 2)) rfl))))
  (J (i8 cv (Es (E 4) (λ_=>rfl))
   (J (al 5 (xz cI xI Jg xH (E 4)))
   (J (al 6 (aI (ah 0) (E 5)))
   (J (al 7 (aI (E 1) (E 5)))
   (ae (ba (aZ dO (ah 6) aT (aW _))
    (J (ln (aM cg (E 7) ai) (lm (E 1) (E 5) gV))
    (ae (aG (cM cI dU ea dS (E 3) (af (E 5))))))
    (ae (ba (aZ dO (ah 6) aT (aW _))
     (J (ln (aM ph (aM cg (E 7) ai) (ah 6)) (lm (E 1) (E 5) gV))
     (ae (aG (cM cI dU ea dS (E 4) (af (aI (ah 6) (E 7)))))))
     (J (ln (aM ph (aM cg (E 7) ai) (ah 6)) (lm (E 1) (E 5) gV))
     (ae (ba (aZ dO (aM cg (E 7) ai) (ah 6) (aW _))
      (ae (aG (cM cI lH oe lG (E 4) (af (aM F3 (ah 6) (ah 6))))))
      bC)))))))))))
  (ae (ax (E 3))))),?_]
 refine#[aR _,λfl R=>?_];have aV:Same u (upd u fl (.lst [])):=.upd R;have bk:g.entry r<g.parts.length:=Ma.ej H bf;obtain⟨l,bl⟩:∃l,g.hoppers[r]? =some l:=#[_,a2 bf];obtain⟨bZ,b0,cK,b1⟩:=G.Q9.get bl;have b2:g.entry r=l.2:=by simp[ky,bl]
 have aY:=be.trans aV;refine#[aY _ _ G.obj,e.Q5,e.Q4,I.of (aY _ _ G.Q9.lst),aw (j:=r) (v:=V.ref bZ) (by rw[a6,b0];rfl),aY _ _ b1,e.RB,e.Rm,(by show 1<=aq;decide),λcm a0=>?_];have N:i≠fl:=aK aO R;have C:i≠cm:=aK (aV _ _ aO) a0;have S:fl≠cm:=aK Y a0;have as:u cm=none:=aV.free a0;refine#[λbm bs x=>∃bt p bx bz bA,bs=[some (.ref bW),some (.ref i),some (.int r),some (.ref fl),some (.ref cm),bx,bz,bA]/\LG u x i fl cm g bt p/\Ma.pile g p bt=g.come g.parts.length (g.entry r) #[aJ,[]]/\bm=Ma.weight p,
  #[_,#[aJ,[]],[g.entry r],none,none,none,rfl,#[((b7.refl i u).upd R).upd as,?_,?_,?_,bi,?_],rfl,rfl],?_]
 .rw[aa C,aa N];exact aO
 .rw[aa S,Y];rfl
 .rw[Y,b2];rfl
 .intro j b3 D
  match j,D with
  |0,D=>cases D;exact#[bk,by omega]
  |j+1,D=>simp at D
 rintro bm bs x ⟨st,p,bx,bz,bA,rfl,m,O,rfl⟩;refine#[!p.isEmpty,?_,a9 (λau=>#[_,λ_ _ y=>y,?_]) (λau=>?_)]
 .exact .inl #[_,I.of m.pile,by cases p<;>rfl]
 .obtain⟨f,a,rfl⟩:∃f a,p=f++[a]:=by
   have:p≠[]:=by intro y;rw[y] at au;simp at au
   exact#[p.dropLast,p.getLast this,(List.dropLast_concat_getLast this).symm]
  obtain⟨a1,b4,cN⟩:=m.low.init;obtain⟨a5,l⟩:=Ma.gw b4;obtain⟨b6,b9,cO,b_,z,bD⟩:=G.parts.get l;have aB:=H.part a a5 l;have bF:=m.st.2 a a5 l;have cR:=m.st.1;have ca:(L (f++[a])).dropLast=L f:=by rw[<-d9];simp
  have cc:(L (f++[a]))[(L (f++[a])).length-1]? =some (.int a):=by rw[<-d9];simp
  have cd:st.nums[a]? =some (st.num a):=d_ (by omega);have cS:f.length+100<100000:=by
   have:=a1.size;have:=H.np;omega
  have cT:(g.falls st).length<100000:=by
   have:=Ma.Jf H bk bi O;omega
  refine#[.inl #[rfl,_,I.of m.pile],cm,_,_,rfl,rfl,m.pile,cc,?_];rw[ca];have T:b7 i u (upd x cm (.lst (L f))):=m.kept.upd as;have s:Same aL (upd x cm (.lst (L f))):=T.same be aN;have U:upd x cm (.lst (L f)) i=some (.lst (L st.nums)):=by rw[aa C];exact m.nums
  have W:upd x cm (.lst (L f)) fl=some (.lst (L (g.falls st))):=by rw[aa S];exact m.V7
  have X:upd x cm (.lst (L f)) cm=some (.lst (L f)):=Y;generalize upd x cm (.lst (L f))=Q at T s U W X;refine#[s _ _ G.obj,e.Q5,e.Q3,I.of (s _ _ G.parts.lst),aw (j:=a) (v:=V.ref b6) (by rw[a6,b9];rfl),?_];refine#[I.of U,aw (j:=a) (v:=V.int (st.num a)) (dZ cd),?_];refine#[s _ _ z,e.Q7,e.Q8,rfl,_,rfl,?_];have a8:a<(L st.nums).length:=by rw[aF];omega
  cases a5 with
  |tray nm=>
   refine iz ?_;refine#[i,_,_,a,rfl,rfl,U,g0 a8,?_];have Z:(L st.nums).set a (V.int (((st.num a:Nat):Int)+1))=L (st.set a (st.num a+1)).nums:=mh _ _ (st.num a+1);rw[Z];refine#[.inl #[rfl,_,I.of ((aa N.symm).trans W)],(aa N.symm).trans W,(by rw[aF];exact small (by omega)),?_];have A:L (g.falls st)++[V.int (a:Nat)]=L (g.falls (st.set a (st.num a+1))):=by
    rw[d9];congr 1;have:g.isTray a=true:=by simp[eQ,l,ze]
    simp[qr,tY,f7,this]
   rw[A];refine#[Ma.weight f,by rw[Ma.oa];have:0<101^a:=mc (by omega);omega,_,f,_,_,_,rfl,#[(T.own).upd R,?_,Y,?_,Ma.ma m.st l trivial,a1],?_,rfl]
   .rw[aa N,Y]
   .rw[aa S.symm,aa C.symm];exact X
   .rw[<-O,Ma.I6 l]
  |wheel nm n bG=>
   have cU:=aB.wheel nm n bG rfl;have bI:st.num a<n.length:=bF;refine fH (show¬("wheel":Str)= "tray" by decide+kernel) ?_;refine#[s _ _ z,e.Q7,e.Q8,rfl,_,rfl,?_];refine iz ?_;refine#[s _ _ z,e.Q7,e.Rg,(by show(0:Int)<n.length;omega),i,_,_,a,rfl,rfl,U,g0 a8,?_];have Z:(L st.nums).set a (V.int ((((st.num a:Nat):Int)+1)%((eB (.wheel nm n bG):Nat):Int)))=L (st.set a ((st.num a+1)% n.length)).nums:=mh _ _ ((st.num a+1)% n.length);rw[Z];have F:Same aL (upd Q i (.lst (L (st.set a ((st.num a+1)% n.length)).nums))):=s.put aN;have bL:n[st.num a]? =some (n.getD (st.num a) 0):=d_ bI;have bM:n.getD (st.num a) 0<a:=aB.below _ (a7 bL);refine#[.inl #[rfl,_,I.of ((aa C.symm).trans X)],F _ _ z,e.Q7,e.Re,I.of (F _ _ bD),aw (j:=st.num a) (v:=V.int (n.getD (st.num a) 0:Nat)) (dZ bL),
    (aa C.symm).trans X,(by rw[aF];exact small (by omega)),?_]
   rw[d9];refine#[_,?_,st.set a ((st.num a+1)% n.length),f++[n.getD (st.num a) 0],_,_,_,rfl,#[(T.own).upd as,?_,?_,Y,Ma.ma m.st l (jj _ (by omega)),?_],?_,rfl]
   .rw[Ma.oa,Ma.oa]
    have:=Ma.y6 (k:=1) bM (by omega);omega
   .rw[aa C,Y]
   .rw[aa S,aa N.symm,W]
    have:g.isTray a=false:=by simp[eQ,l,ze]
    simp[qr,tY,f7,this]
   .exact m.low.rep (k:=1) bM (by omega)
   .rw[<-O,Ma.I7 H l]
  |gate nm b q ce=>
   have bP:=aB.gate nm b q ce rfl;have bI:st.num a<b:=bF;have bR:q<a:=aB.below q (a4 ..);have cf:g.isTray a=false:=by simp[eQ,l,ze]
   refine fH (show¬("gate":Str)= "tray" by decide+kernel) ?_;refine#[s _ _ z,e.Q7,e.Q8,rfl,_,rfl,?_];refine fH (show¬("gate":Str)= "wheel" by decide+kernel) ?_;refine#[s _ _ z,e.Q7,e.Rg,(by show(0:Int)<b;omega),i,_,_,a,rfl,rfl,U,g0 a8,?_];have Z:(L st.nums).set a (V.int ((((st.num a:Nat):Int)+1)%((eB (.gate nm b q ce):Nat):Int)))=L (st.set a ((st.num a+1)% b)).nums:=mh _ _ ((st.num a+1)% b);rw[Z];have F:Same aL (upd Q i (.lst (L (st.set a ((st.num a+1)% b)).nums))):=s.put aN;have aD:upd Q i (.lst (L (st.set a ((st.num a+1)% b)).nums)) i=some (.lst (L (st.set a ((st.num a+1)% b)).nums)):=Y;have aH:upd Q i (.lst (L (st.set a ((st.num a+1)% b)).nums)) fl=some (.lst (L (g.falls (st.set a ((st.num a+1)% b))))):=by
    rw[aa N.symm,W];simp[qr,tY,f7,cf]
   have ab:upd Q i (.lst (L (st.set a ((st.num a+1)% b)).nums)) cm=some (.lst (L f)):=by rw[aa C.symm];exact X
   have kk:=T.own (o:=.lst (L (st.set a ((st.num a+1)% b)).nums));generalize upd Q i (.lst (L (st.set a ((st.num a+1)% b)).nums))=cV at F aD aH ab kk;refine#[F _ _ z,e.Q7,e.Rg,rfl,_,rfl,?_];refine a9 (λy=>?_) (λy=>?_)
   .have ad:st.num a+1=b:=by
     have bb:V.int ((st.num a:Int)+1)=V.int (b:Nat):=of_decide_eq_true y;injection bb with ch
     omega
    have A:(st.num a+1)% b=0:=by rw[ad];exact tO b
    refine#[.inl #[rfl,_,I.of ab],F _ _ z,e.Q7,e.Re,F _ _ z,e.Q7,e.Rg,b_,_,_,rfl,rfl,F _ _ bD,(by show _<=(b:Int);omega),(by show(b:Int)<_;omega),?_,λt am=>?_]
    .show 1*(b:Int).toNat<=aq
     exact dc (small (by omega))
    have ci:(aP ((eB (.gate nm b q ce):Nat):Int).toNat (L (Ma.ways (.gate nm b q ce)))).flatten=L (aP b q):=by
     show(aP b [V.int (q:Nat)]).flatten=_;rw[List.flatten_replicate_singleton];simp[L]
    rw[ci];have cj:cm≠t:=aK ab am;refine#[cm,t,_,_,rfl,rfl,(aa cj).trans ab,Y,?_,?_]
    .rw[aF,aF,cQ]
     exact dc (small (by omega))
    have cl:L f++L (aP b q)=L (f++aP b q):=by simp[L]
    rw[cl];have bT:i≠t:=aK aD am;have co:fl≠t:=aK aH am;have cp:t=i\/u t=none:=by
     by_cases D:t=i
     .exact .inl D
     .right
      cases y:u t with
      |none=>rfl
      |some cq=>rw[kk t cq y D] at am;cases am
    have cr:u t=none:=cp.resolve_left (b8 bT);refine#[_,?_,st.set a ((st.num a+1)% b),f++aP b q,_,_,_,rfl,#[(kk.upd cr).upd as,?_,?_,Y,Ma.ma m.st l (by rw[A];show 0<b;omega),m.low.rep bR bP.2.1],?_,rfl]
    .rw[Ma.oa,Ma.I_]
     have:=Ma.y6 bR bP.2.1;omega
    .rw[aa C,aa bT];exact aD
    .rw[aa S,aa co];exact aH
    .rw[<-O,Ma.I9 H l st (by omega),A]
   .have ad:st.num a+1<b:=by
     have bb:¬V.int ((st.num a:Int)+1)=V.int (b:Nat):=λbd=>y (decide_eq_true bd);have ch:¬st.num a+1=b:=λbd=>bb (by rw[<-bd];rfl);omega
    have A:(st.num a+1)% b=st.num a+1:=jt ad;refine#[Ma.weight f,by rw[Ma.oa];have:0<101^a:=mc (by omega);omega,st.set a ((st.num a+1)% b),f,_,_,_,rfl,#[kk,aD,aH,ab,Ma.ma m.st l (by rw[A];exact ad),a1],?_,rfl];rw[<-O,Ma.I8 l st ad,A]
 .have:p=[]:=by
   cases p with
   |nil=>rfl
   |cons b3 cW=>simp at au
  subst this;have A:st=g.come g.parts.length (g.entry r) #[aJ,[]]:=O;have bU:=m.nums;have L2:=m.V7;rw[A] at bU L2;exact bY x fl m.kept R bU L2
end Mb
end
section
namespace Ma
open Marble
section
variable{b:Board}
theorem t0(a:Stand)(c:List Nat)(d:Nat):b.letGo a (c++[d])=b.come b.parts.length (b.entry d) (b.letGo a c):=by
 unfold Board.letGo;rw[iA];rfl
theorem qu(a:Wf b):∀(c:List Nat)(d:Stand),(∀e∈c,e<b.hoppers.length)->bT b d.nums->bT b (b.letGo d c).nums
 |[],d,_,f=>f
 |e::c,d,hl,f=>qu a c _ (λg i=>hl g (bj _ i)) (tZ a (ej a (hl e (a4 ..))) (ej a (hl e (a4 ..))) f)
theorem zf(e:Wf b):∀(c:List Nat)(a:Stand),(∀d∈c,d<b.hoppers.length)->bT b a.nums->dt b (b.letGo a c)+ce b (b.letGo a c).nums=dt b a+ce b a.nums+c.length
 |[],a,_,g=>rfl
 |d::c,a,hl,g=>by
  have f:=ej e (hl d (a4 ..));have D:=zf e c _ (λi j=>hl i (bj _ j)) (tZ e f f g);have k:=qs e b.parts.length _ a f f g;rw[bV];change dt b (b.letGo (b.come b.parts.length (b.entry d) a) c)+ce b (b.letGo (b.come b.parts.length (b.entry d) a) c).nums=_;omega
theorem Jh(c d:Nat)(a:Stand):(b.come c d a).nums=(b.come c d #[a.nums,[]]).nums:=by
 obtain⟨e,f⟩:=a;rw[l_]
theorem Ji(c d:Nat)(a:Stand):b.falls (b.come c d a)=b.falls a++b.falls (b.come c d #[a.nums,[]]):=by
 obtain⟨e,f⟩:=a;rw[l_];simp[qr]
theorem t1(a:Wf b){l:List Nat}{s:List Nat}(hl:∀d∈l,d<b.hoppers.length)(c:bT b s):(b.falls (b.letGo #[s,[]] l)).length<=l.length+6400:=by
 have D:=zf a l #[s,[]] hl c;have e:=za a c;have f:dt b #[s,[]]=0:=rfl;rw[zb];dsimp only at D;omega
end
end Ma
end
section
namespace Mb
open PySem PySem.Spec PyProof.Rows L2 Ex
theorem b7.trans{a:B}{b d e:G}(i:b7 a b d)(j:b7 a d e):b7 a b e:=λc f k g=>j c f (i c f k g) g
inductive Jj(c:Cs)(m:List V)(f:G)(n:VK)(p:XK):Prop
 |mk(k b l:B)(a:an)(g e:List Nat)(i:G)(q:m=[.ref k,.ref b,.ref l])(r:Same i f)(s:i b=none)(t:bM c i k a)(u:i l=some (.lst (L e)))(v:f b=some (.lst (L g)))(x:(∀o∈e,o<a.hoppers.length))(y:e.length<=2000)(z:Ma.bT a g)(A:∀(j:G)(fl:B),b7 b f j->f fl=none->j b=some (.lst (L (a.letGo #[g,[]] e).nums))->j fl=some (.lst (L (a.falls (a.letGo #[g,[]] e))))->n (.ref fl) j)
theorem zg(C:Tx K d c):ao P w K d base 2 "let_all_go" ["board","numbers","hoppers"] (Jj c):=by
 refine bS C.Ud ["board","numbers","hoppers","fallen","hopper"] λu aB aD aI aJ nd m=>?_;obtain⟨D,n,U,a,o,f,F,rfl,p,v,G,H,N,hl,aL,O,V⟩:=m;have Q:=let⟨_,_,_,_,_,W⟩:=G;W.wf;refine#[_,J (al 3 (a3 er))
  (J (b_ cv rfl (b9 (E 2)) (aO 4)
   (ae (aG (cM cI lH oe lG (E 3) (af (aH (zd C) (bD (E 0) (E 1) (E 4))))))))
  (ae (ax (E 3)))),?_]
 refine#[aR _,λfl i=>?_];have x:=aK N i;have X:Same F (upd u fl (.lst [])):=p.put (p.free i);have aM:=p.free i;refine#[I.of (X _ _ H),gl (λe r g=>∃y,r=[some (.ref D),some (.ref n),some (.ref U),some (.ref fl),y]/\b7 n u g/\
   g n=some (.lst (L (a.letGo #[o,[]] (f.take e)).nums))/\g fl=some (.lst (L (a.falls (a.letGo #[o,[]] (f.take e)))))) #[none,rfl,(b7.refl n u).upd i,by rw[aa x];exact N,Y] (λe r g _ ⟨_,_,j,_⟩=>I.of (j.same p v _ _ H)) ?_ ?_]
 .rintro e aN r g Z ⟨y,rfl,j,t,k⟩
  obtain⟨m,R,rfl⟩:=bt Z;have ab:=a7 R;have ad:=hl m ab;have ah:∀q∈f.take e,q<a.hoppers.length:=λq z=>hl q (og z);have St:=Ma.qu Q (f.take e) #[o,[]] ah O;refine#[.inl #[rfl,_,I.of k],D,n,a,_,m,F,rfl,j.same p v,v,G,t,ad,St,λaT ai S am as au=>?_];have aV:=aK k am;have aw:=S _ _ k x.symm;have A:=cp R;have T:=Ma.Ji (b:=a) a.parts.length (a.entry m) (a.letGo #[o,[]] (f.take e));refine#[fl,ai,_,_,rfl,rfl,aw,au,?_,?_]
  .rw[aF,aF,<-bq,<-T,<-Ma.t0,<-A]
   have:=Ma.t1 Q (l:=f.take (e+1)) (s:=o) (λq z=>hl q (og z)) O;have aW:(f.take (e+1)).length<=f.length:=by rw[ck];omega
   exact dc (small (by omega))
  .refine#[_,rfl,(j.trans S).upd i,?_,?_]
   .rw[aa x,as,A,Ma.t0,<-Ma.Jh]
   .rw[Y,A,Ma.t0,T]
    simp[L]
 .rintro r g ⟨y,rfl,j,t,k⟩
  rw[aF,dY] at t k;exact V g fl j i t k
end Mb
end
section
namespace Ma
open Marble
theorem Jk(b:List (Nat×Nat))(a:Nat×Nat)(c:List Nat):bI (b++[a]) c=bump (bI b c) a.1 a.2:=by
 unfold bI;rw[iA];rfl
def e2(a:List Nat)(b:Nat):List Nat:=a.drop b++a.take b
theorem qv{a:List Nat}{b:Nat}:(e2 a b).length=a.length:=by simp[e2];omega
theorem Jl{b:List Nat}{c w:Nat}(a:w∈e2 b c):w∈b:=by
 rcases c4.mp a with a|a
 .exact List.mem_of_mem_drop a
 .exact og a
def jy(a:List Nat)(c d:Nat):List (Nat×Nat):=(e2 a c).zipIdx.map λb=>(b.1,(d+a.length-1-b.2)/a.length)
theorem zh{a:List Nat}{b c:Nat}:(jy a b c).length=a.length:=by simp[jy,qv]
theorem zi{a:List Nat}{c d b w:Nat}(e:(e2 a c)[b]? =some w):(jy a c d)[b]? =some (w,(d+a.length-1-b)/a.length):=by
 simp[jy,gv,e]
theorem Jm{a:List Nat}{b f:Nat}(hl:2<=a.length/\a.length<=4)(l:b<a.length)(nm:Name)(j:Option Nat)(c:List Nat):bI (eP (.wheel nm a j) b f) c=bI (jy a b f) c:=by
 have k:jy a b f=(a.zipIdx.drop b++a.zipIdx.take b).map λi=>(i.1,e0 b a.length i.2 f):=by
  apply kx;intro d;by_cases g:d<a.length
  .obtain⟨w,e⟩:∃w,(e2 a b)[d]? =some w:=#[_,a2 (by rw[qv];exact g)]
   rw[zi e,a6];unfold e2 at e;by_cases D:d<a.length-b
   .rw[cF (by simpa using D),t2] at e
    rw[cF (by simpa using D),t2,gv,e];simp only[kB,f4];congr 2;unfold e0;congr 2;rw[show b+d+a.length-b=d+a.length by omega,Nat.add_mod_right,jt g]
   .rw[dB (by simp;omega),eK,xi (by omega)] at e
    rw[dB (by simp;omega),eK,oh,xi (by omega),gv,e];simp only[kB,f4];congr 2;unfold e0;congr 2;rw[show d-(a.length-b)+a.length-b=d by omega,jt g]
  .rw[eu (by rw[zh];omega),eu (by simp;omega)]
 rw[k];unfold eP;refine IQ (QF _ ?_) c;have:(a.zipIdx.take b++a.zipIdx.drop b).Perm (a.zipIdx.drop b++a.zipIdx.take b):=List.perm_append_comm;rw[zj] at this;exact this
end Ma
end
section
namespace Mb
open PySem PySem.Spec PyProof.Rows L2 Ex
theorem Jn(a b c:Value):checkTypeCall "zip" #[[a,b,c],[]]=pure ():=by kernel_rfl
theorem Jo(a b c:Value):yn "zip.__new__" #[[.type "zip",a,b,c],[]]=pure ():=by kernel_rfl
theorem Jp(a b c d:Value):argsOk "object.__init__" #[[a,b,c,d],[]]:=by
 unfold argsOk;rw[signature?_of (id:= "object.__init__") (n:= "__tini__".toList) (o:= "tcejbo".toList) (by kernel_rfl) F.owner_object]
 kernel_rfl
abbrev eR(a:Heap)(b:B)(d e c:Value):Prop:=a.get? b=some {cls:=.type "tuple",data:=.seq #v[d,e,c]}
structure zk(a ti b c d e m1 m2 m3:B):Prop where
 p1:ti≠a/\b≠a/\c≠a/\d≠a/\e≠a
 p2:ti≠b/\ti≠c/\ti≠d/\ti≠e
 p3:b≠c/\b≠d/\b≠e
 p4:c≠d/\c≠e/\d≠e
 q1:m1≠a/\m1≠b/\m1≠c/\m1≠d/\m1≠e
 q2:m2≠a/\m2≠b/\m2≠c/\m2≠d/\m2≠e
 q3:m3≠a/\m3≠b/\m3≠c/\m3≠d/\m3≠e
section
variable{prog:Program}{w:World}{a:a_}{b:Value->M->Prop}{s:M}
theorem t3{d:B}{f g c i:Value}{j:Nat}{k:Unit->M->Prop}(l:eR s.heap d f g c)
  (m:∀e,e.get? d=some {cls:=.type "tuple",data:=.seq ((#v[f,g,c]:Array Value).setIfInBounds j i)}->nj d s.heap e->k () {s with heap:=e}):
  wpAny (ar prog w) a (updateSeq d (·.setIfInBounds j i)) k b s:=by
 refine wpAny_updateSeq l rfl (m _ ?_ (QG ..));exact(lB _ l rfl).trans (by simp[nM])
theorem Jq{g ti e n o p m1 m2 m3:B}{j:Nat}{ad ae af:Array Value}{x q l ah I c:Value}{R:Value->M->Prop}(v:zk g ti e n o p m1 m2 m3)
  (E:gX s.heap g ti e .none)(aJ:eR s.heap ti (.ref n) (.ref o) (.ref p))(aK:eR s.heap e ah I c)(D:s.heap.IsListIter n m1 j)(aL:s.heap.IsListIter o m2 j)(aM:s.heap.IsListIter p m3 j)
  (aN:s.heap.IsList m1 ad)(aO:s.heap.IsList m2 ae)(aT:s.heap.IsList m3 af)(aV:ad[j]? =some x)(aW:ae[j]? =some q)(aY:af[j]? =some l)
  (aZ:∀r,gX r g ti e (fy s.heap.objs.size)->eR r e x q l->r.IsListIter n m1 (j+1)->r.IsListIter o m2 (j+1)->r.IsListIter p m3 (j+1)->eR r s.heap.objs.size x q l->
   (∀d f,d≠g->d≠e->d≠n->d≠o->d≠p->s.heap.get? d=some f->r.get? d=some f)->R (.ref s.heap.objs.size) {s with heap:=r}):
  wpAny (ar prog w) a (Builtin.«zip.__next__» #[[.ref g],[]]) (λa0 a1=>∃l,a0=.done (.ret l)/\R l a1) b s:=by
 obtain⟨bI,F,S,T,U⟩:=v.p1;obtain⟨bL,bM,bP,bR⟩:=v.p2;obtain⟨J,K,L⟩:=v.p3;obtain⟨ai,al,am⟩:=v.p4;obtain⟨a3,bS,bT,bU,bW⟩:=v.q1;obtain⟨a5,a8,a9,bY,bZ⟩:=v.q2;obtain⟨ba,ao,bb,bd,b0⟩:=v.q3;show wpAny _ _ (field (.ref g) 2>>=_) _ _ _;refine ap (eX E rfl (x:=.bool false) rfl ?_);show wpAny _ _ (field (.ref g) 3>>=_) _ _ _;refine ap (eX E rfl (x:=.ref ti) rfl (ap (oi aJ rfl ?_)));show wpAny _ _ (zl (.ref g)>>=_) _ _ _;refine ap ?_;unfold zl;refine ap (eX E rfl (x:=.none) rfl (bO ?_));simp only[if_true];refine ap (wpAny_rule (ap (eX E rfl (x:=.ref e) rfl (ap (qw E (by simp) λbe V m=>?_)))));replace V:gX be g ti e .ellipsis:=V;refine ap ?_;simp only[qx,zm,xQ,sQ];refine ap (ap (t4 ?_));show wpAny _ _ (t5 (.ref n)>>=_) _ _ _;refine ap (zn (D.extBut m.extBut S) (aN.extBut m.extBut a3) aV λbf bi t=>bO ?_);have as:eR bf e ah I c:=t.extBut _ _ J (m.extBut _ _ F aK);refine ap (oi as rfl (ap (t3 as λbk W u=>?_)));replace W:eR bk e x I c:=W;refine ap (zo (bO ?_));refine ap (ap (t4 ?_));show wpAny _ _ (t5 (.ref o)>>=_) _ _ _;refine ap (zn (((aL.extBut m.extBut T).extBut t.extBut ai.symm).extBut u.extBut K.symm) (((aO.extBut m.extBut a5).extBut t.extBut a9).extBut u.extBut a8) aW λbl bm y=>bO ?_);have au:eR bl e x I c:=y.extBut _ _ K W;refine ap (oi au rfl (ap (t3 au λbs X z=>?_)));replace X:eR bs e x q c:=X;refine ap (zo (bO ?_));refine ap (ap (t4 ?_));show wpAny _ _ (t5 (.ref p)>>=_) _ _ _;refine ap (zn (((((aM.extBut m.extBut U).extBut t.extBut al.symm).extBut u.extBut L.symm).extBut y.extBut am.symm).extBut z.extBut L.symm)
  (((((aT.extBut m.extBut ba).extBut t.extBut bb).extBut u.extBut ao).extBut y.extBut bd).extBut z.extBut ao) aY λbt bx A=>bO ?_)
 have aw:eR bt e x q c:=A.extBut _ _ L X;refine ap (oi aw rfl (ap (t3 aw λi N C=>?_)));replace N:eR i e x q l:=N;refine ap (zo (bO (bO (ap (oi N rfl (ap (wpAny_newTuple ?_)))))));have ax:i.objs.size=s.heap.objs.size:=by rw[C.1,A.1,z.1,y.1,u.1,t.1,m.1]
 have aB:gX i g ti e .ellipsis:=C.extBut _ _ F.symm (A.extBut _ _ U.symm (z.extBut _ _ F.symm (y.extBut _ _ T.symm (u.extBut _ _ F.symm (t.extBut _ _ S.symm V)))));have bz:∀d f,d≠g->d≠e->d≠n->d≠o->d≠p->s.heap.get? d=some f->i.get? d=some f:=λd f O G Y Z aa k=>
  C.extBut _ _ G (A.extBut _ _ aa (z.extBut _ _ G (y.extBut _ _ Z (u.extBut _ _ G (t.extBut _ _ Y (m.extBut _ _ O k))))))
 have bA:i.IsListIter n m1 (j+1):=((((bi.extBut u.extBut J.symm).extBut y.extBut ai).extBut z.extBut J.symm).extBut A.extBut al).extBut C.extBut J.symm;have bC:i.IsListIter o m2 (j+1):=((bm.extBut z.extBut K.symm).extBut A.extBut am).extBut C.extBut K.symm;have bD:i.IsListIter p m3 (j+1):=bx.extBut C.extBut L.symm;have aD:g<i.objs.size:=bc aB;show wpAny _ _ (Jr (.ref g) (.ref i.objs.size)>>=_) _ _ _;refine ap ?_;unfold Jr;have bF:gX (i.push {cls:=.type "tuple",data:=.seq #v[x,q,l]}) g ti e .ellipsis:=bn _ aB;refine ap (qw bF (by simp) λbG ab aF=>?_);replace ab:gX bG g ti e (fy i.objs.size):=ab;refine qw ab (by simp) λP Q aG=>?_;replace Q:gX P g ti e (fy i.objs.size):=Q;have H:∀d f,d≠g->i.get? d=some f->P.get? d=some f:=λd f aH k=>aG.extBut _ _ aH (aF.extBut _ _ aH (bn _ k));have aI:eR P i.objs.size x q l:=aG.extBut _ _ (hm aD) (aF.extBut _ _ (hm aD) (dA _ rfl));rw[ax] at Q aI;refine bO #[_,rfl,?_];show R (.ref i.objs.size) _;rw[ax];exact aZ P Q (H _ _ F N) (bA.at λf k=>H _ f S k) (bC.at λf k=>H _ f T k) (bD.at λf k=>H _ f U k) aI λd f O G Y Z aa k=>H d f O (bz d f O G Y Z aa k)
theorem Js{c ti n e z A m1:B}{o:Nat}{p:Array Value}{C:Fin->M->Prop}(E:a.handled=none)(q:e≠c)(F:m1≠c)
  (f:gX s.heap c ti n .none)(G:eR s.heap ti (.ref e) (.ref z) (.ref A))(D:s.heap.IsListIter e m1 o)(H:s.heap.IsList m1 p)(I:p[o]? =none)
  (hE:∀j g,(∀i d,i≠c->i≠e->s.heap.get? i=some d->j.get? i=some d)->(∃d,j.get? g=some d/\d.cls=.type "StopIteration")->b (.ref g) {s with heap:=j}):
  wpAny (ar prog w) a (Builtin.«zip.__next__» #[[.ref c],[]]) C b s:=by
 show wpAny _ _ (field (.ref c) 2>>=_) _ _ _;refine ap (eX f rfl (x:=.bool false) rfl ?_);refine ap (eX f rfl rfl (ap (oi G rfl ?_)));refine ap ?_;unfold zl;refine ap (eX f rfl rfl (bO ?_));simp only[if_true];refine ap (wpAny_rule (ap (eX f rfl rfl (ap (qw f (by simp) λJ k l=>?_)))));replace k:gX J c ti n .ellipsis:=k;refine ap ?_;simp only[qx,zm,xQ,sQ];refine ap (ap (t4 ?_));show wpAny _ _ (t5 (.ref e)>>=_) _ _ _;refine ap (wpAny_nextOf_list_end E (D.extBut l.extBut q) (H.extBut l.extBut F) I λS g r K=>?_);obtain⟨L,m,t⟩:=K;have u:=r _ _ q.symm k;have N:g≠c:=λO=>by subst O;rw[u] at m;cases m;simp at t
 exact qw u (by simp) λP _ v=>hE P g (λi d y Q R=>v.extBut _ _ y (r _ _ Q (l.extBut _ _ y R))) #[L,v.extBut _ _ N m,t]
abbrev zA(a:Heap)(b:B):Heap:=a.push {cls:=.type "list_iterator",data:=.fields #v[.ref b,.int 0 0]}
abbrev zB(a:Heap)(b c d:B):Heap:=(zA (zA (zA a b) c) d).push {cls:=.type "tuple",data:=.seq #v[.ref a.objs.size,.ref (zA a b).objs.size,.ref (zA (zA a b) c).objs.size]}
abbrev zC(a:Heap)(b c d:B):Heap:=(zB a b c d).push {cls:=.type "tuple",data:=.seq #v[.none,.none,.none]}
abbrev zD(a:Heap)(b c d:B):Heap:=(zC a b c d).push {cls:=.type "zip",data:=.fields #v[.none,.bool false,.bool false,.ref (zA (zA (zA a b) c) d).objs.size,.ref (zB a b c d).objs.size]}
theorem Jt(b c d:B)(j k l:Array Value):Meets (Builtin.«zip.__new__» #[[.type "zip",.ref b,.ref c,.ref d],[]]) (λ_ m s=>s.heap.IsList b j/\s.heap.IsList c k/\s.heap.IsList d l/\
   m (.ok (.ret (.ref (zC s.heap b c d).objs.size))) {s with heap:=zD s.heap b c d}):=
 .of_wp λprog w a m s e=>by
  obtain⟨f,g,i,tk,os⟩:=s;obtain⟨n,o,p,e⟩:=e;have t:=sub_zip;have q:zp (zq #[f,g,i,tk,os]) b j:=n;have L2:zp (zq #[f.push {cls:=.type "list_iterator",data:=.fields #v[.ref b,.int 0 0]},g,i,tk,os]) c k:=Ju o _;have r:zp (zq #[(f.push {cls:=.type "list_iterator",data:=.fields #v[.ref b,.int 0 0]}).push {cls:=.type "list_iterator",data:=.fields #v[.ref c,.int 0 0]},g,i,tk,os]) d l:=(Ju p _).push _
  wp_walk using sm q,sm L2,sm r
  exact#[_,rfl,e]
theorem Jv{c d e:B}{o p q:Array Value}{r:Value->M->Prop}(z:s.heap.IsList c o)(A:s.heap.IsList d p)(C:s.heap.IsList e q)
  (D:∀f,gX f (s.heap.objs.size+5) (s.heap.objs.size+3) (s.heap.objs.size+4) .none->eR f (s.heap.objs.size+3) (.ref s.heap.objs.size) (.ref (s.heap.objs.size+1)) (.ref (s.heap.objs.size+2))->
   eR f (s.heap.objs.size+4) .none .none .none->f.IsListIter s.heap.objs.size c 0->f.IsListIter (s.heap.objs.size+1) d 0->f.IsListIter (s.heap.objs.size+2) e 0->
   (∀g i,s.heap.get? g=some i->f.get? g=some i)->r (.ref (s.heap.objs.size+5)) {s with heap:=f}):wpAny (ar prog w) a (call (.type "zip") [.ref c,.ref d,.ref e]) r b s:=by
 refine callType_new F.called_zip (by decide) (Jn _ _ _) (Jo _ _ _) (λE=>Jp E _ _ _) F.entry_zip_new (Jt c d e o p q) #[z,A,C,?_];have j:(zA s.heap c).objs.size=s.heap.objs.size+1:=eV ..;have k:(zA (zA s.heap c) d).objs.size=s.heap.objs.size+2:=by rw[eV,j]
 have l:(zA (zA (zA s.heap c) d) e).objs.size=s.heap.objs.size+3:=by rw[eV,k]
 have m:(zB s.heap c d e).objs.size=s.heap.objs.size+4:=by rw[eV,l]
 have t:(zC s.heap c d e).objs.size=s.heap.objs.size+5:=by rw[eV,m]
 have n:(zD s.heap c d e).get? (zC s.heap c d e).objs.size=some _:=dA _ rfl;have u:(zD s.heap c d e).get? (zB s.heap c d e).objs.size=some _:=bn _ (dA _ rfl);have v:(zD s.heap c d e).get? (zA (zA (zA s.heap c) d) e).objs.size=some _:=bn _ (bn _ (dA _ rfl));have x:(zD s.heap c d e).get? (zA (zA s.heap c) d).objs.size=some _:=bn _ (bn _ (bn _ (dA _ rfl)));have y:(zD s.heap c d e).get? (zA s.heap c).objs.size=some _:=bn _ (bn _ (bn _ (bn _ (dA _ rfl))));have G:(zD s.heap c d e).get? s.heap.objs.size=some _:=bn _ (bn _ (bn _ (bn _ (bn _ (dA _ rfl)))));show _/\_;rw[l,m,t] at n;rw[j,k,l] at v;rw[m] at u;rw[j] at y;rw[k] at x;rw[t];exact#[#[_,n,rfl],D _ n v u #[_,G,rfl,rfl] #[_,y,rfl,rfl] #[_,x,rfl,rfl] λg i H=>
  bn _ (bn _ (bn _ (bn _ (bn _ (bn _ H)))))]
end
def t6(K:aj)(j k c:B):It:=
 #[λb a=>∃(d e f:List V)(g i l:V),I K a j d/\I K a k e/\I K a c f/\d[b]? =some g/\e[b]? =some i/\f[b]? =some l,
  λb a l o=>∃m g i n,l=.ref m/\a m=none/\o=upd a m (.tup [g,i,n])/\(∀d,I K a j d->d[b]? =some g)/\(∀e,I K a k e->e[b]? =some i)/\ ∀f,I K a c f->f[b]? =some n,
  λb a=>∃d:List V,I K a j d/\d.length<=b/\(∃e,I K a k e)/\ ∃f,I K a c f]
theorem Jw{P:Program}{w:World}{K:aj}{aF:List Expr}{kk:Nat}{aG:aU}{a b c o ti t u v x:B}(E:zk o ti t u v x a b c):
  hn P w K (.Tuple aF kk aG) (t6 K a b c) [o,ti,t,u,v,x] o (λs l=>gX l o ti t .none/\eR l ti (.ref u) (.ref v) (.ref x)/\(∃p f j,eR l t p f j)/\l.IsListIter u a s/\l.IsListIter v b s/\l.IsListIter x c s) where
 mem:=by simp
 obj:=λs l st e I=>by
  obtain⟨m,q,⟨p,f,j,y⟩,⟨aH,z,_,aI⟩,⟨aJ,aK,_,aL⟩,⟨aM,aN,_,aO⟩⟩:=st;have R:e=o\/e=ti\/e=t\/e=u\/e=v\/e=x:=by simpa using I
  rcases R with d|d|d|d|d|d
  .subst d;exact#[_,m,λ_ f=>nomatch f]
  .subst d;exact#[_,q,λ_ f=>nomatch f]
  .subst d;exact#[_,y,λ_ f=>nomatch f]
  .exact#[aH,by rw[d];exact z,λj d=>by rw[aI] at d;cases d]
  .exact#[aJ,by rw[d];exact aK,λj d=>by rw[aL] at d;cases d]
  .exact#[aM,by rw[d];exact aN,λj d=>by rw[aO] at d;cases d]
 keep:=λs l Y st C=>by
  obtain⟨m,q,⟨p,f,j,y⟩,D,F,G⟩:=st;exact#[C o (by simp) _ m,C ti (by simp) _ q,#[p,f,j,C t (by simp) _ y],D.at λi d=>C u (by simp) i d,F.at λi d=>C v (by simp) i d,G.at λi d=>C x (by simp) i d]
 item:=by
  intro J S T hK Z s ab n ad U ae k L st V;subst S T hK;obtain⟨m,q,⟨aT,aV,aW,y⟩,D,F,G⟩:=st;obtain⟨aY,bY,bZ,p,f,j,N,af,ah,ai,al,am⟩:=V;obtain⟨aZ,W,X,_⟩:=k.list N;obtain⟨b0,a0,a1,_⟩:=k.list af;obtain⟨b1,a3,a5,_⟩:=k.list ah;obtain⟨ao,a8,a9⟩:=W.get ai;obtain⟨as,ba,bb⟩:=a0.get al;obtain⟨au,bd,be⟩:=a3.get am;have aw:=bc m;have H:n.TypeIs (.ref o) "zip":=#[_,m,rfl];obtain⟨ax,bf,bi,bk,bl⟩:=E.p1;obtain⟨bm,bs,bt,bx⟩:=E.p2;unfold pc;refine ap (Jx (Jy H t7 (Jz t7 H JA
   (Jq E m q y D F G X.isList a1.isList a5.isList (by simpa using a8) (by simpa using ba) (by simpa using bd) λY bz bA bC bD bF bG Q=>bO ?_) (JB _))))
  refine#[_,rfl,Hc bz λaB bI A=>?_];have bL:=(A.2 _ (hm aw)).trans bG;have bM:bU J.prog J.w (upd U n.heap.objs.size (.tup [p,f,j])) aB n.heap.objs.size (.tup [p,f,j]):=#[by show 3<=aq;decide,[ao,as,au],.cons a9 (.cons bb (.cons be .nil)),#[_,bL,rfl,_,rfl]];have bP:O J ab ad (upd U n.heap.objs.size (.tup [p,f,j])) {n with heap:=aB}:=
   k.S3 (λe i r d=>(A.2 e (λg=>r (by simp[g]))).trans (Q e i (λg=>r (by simp[g])) (λg=>r (by simp[g])) (λg=>r (by simp[g])) (λg=>r (by simp[g])) (λg=>r (by simp[g])) d)) L (av _) bM
  refine#[.ref n.heap.objs.size,_,bP,rfl,#[_,p,f,j,rfl,k.Ra.fresh (av _),rfl,λaD hl=>by rw[k.RZ hl N];exact ai,λaD hl=>by rw[k.RZ hl af];exact al,λaD hl=>by rw[k.RZ hl ah];exact am],#[bI,?_,#[ao,as,au,?_],?_,?_,?_],λe I=>?_]
  .exact(A.2 _ ax).trans (Q _ _ ax bm bs bt bx q)
  .exact(A.2 _ bf).trans bA
  .exact bC.at λi d=>(A.2 _ bi).trans d
  .exact bD.at λi d=>(A.2 _ bk).trans d
  .exact bF.at λi d=>(A.2 _ bl).trans d
  .have bR:e<n.heap.objs.size:=by
    have R:e=o\/e=ti\/e=t\/e=u\/e=v\/e=x:=by simpa using I
    rcases R with d|d|d|d|d|d<;>rw[d]
    .exact aw
    .exact bc q
    .exact bc y
    .obtain⟨_,z,_⟩:=D;exact bc z
    .obtain⟨_,z,_⟩:=F;exact bc z
    .obtain⟨_,z,_⟩:=G;exact bc z
   rw[aa (cZ bR)];exact(L e I).1
 done:=by
  intro J S T hK Z s ab n ad U ae k L st V;subst S T hK;obtain⟨m,q,⟨aT,aV,aW,y⟩,D,F,G⟩:=st;obtain⟨aY,N,b2,_,_⟩:=V;obtain⟨aZ,W,X,_⟩:=k.list N;have b3:=W.length;have H:n.TypeIs (.ref o) "zip":=#[_,m,rfl];unfold pc;refine ap (Jx (Jy H t7 (Jz t7 H JA
   (Js (k.ok.hd Z) E.p1.2.2.1 E.q1.1 m q D X.isList (by simp;omega) λY b4 Q bS=>?_) (JB _))))
  obtain⟨i,bT,bW⟩:=bS;refine ap (wpAny_isInstance #[i,bT,bW] isSubtype_stop (bO #[rfl,?_]));exact k.UT (λe i r d=>Q e i (λg=>r (by simp[g])) (λg=>r (by simp[g])) d) L
 self:=λb6 s n b7 ae st l=>s_ st.1 l
def JC(K:aj)(e:TA):TI:=λf g i=>e f g λj a=>∃b d c k l m,j=[.ref b,.ref d,.ref c]/\I K a b k/\I K a d l/\I K a c m/\i (t6 K b d c) a
theorem JD{f:Cx}{n k l:Expr}{p:TA}{z o A:aU}{C:List Expr}{kk:Nat}(E:Gl f "zip")(F:f.mg "zip"=none)(G:PA f [n,k,l] p)
  (H:az [n,k,l] f.env=(false,aA n f.env)::az [k,l] f.env:=by rfl)(I:(cB o (az [k,l] f.env)).any (·.1)=false:=by rfl):PI f (.Tuple C kk A) (.Call (.Name "zip" z) [n,k,l] [] o) (JC f.K p):=by
 intro q J r K ao s L;refine nC (i1 s E F x8 (lu (au (G o q J r K _ s L) λN g ⟨as,t,j,P,Q⟩=>?_) H I));obtain⟨a,b,c,aw,ax,aB,R,S,T,U,V⟩:=Q;subst R;obtain⟨rfl⟩:N=[bN a,.ref b,.ref c]:=by
  cases P with
  |cons W m=>cases m with
   |cons X m=>cases m with
    |cons Y m=>cases m;cases W;cases X;cases Y;rfl
 obtain⟨aD,_,u,_⟩:=j.list S;obtain⟨aF,_,v,_⟩:=j.list T;obtain⟨aG,_,w,_⟩:=j.list U;have aH:a<g.heap.objs.size:=u.lt;have aI:b<g.heap.objs.size:=v.lt;have aJ:c<g.heap.objs.size:=w.lt;refine Jv u.isList v.isList w.isList λZ x aa ab D ad ae af=>s_ x ?_;have ah:O f q r t {g with heap:=Z}:=j.kept (t':=g.toks) af;generalize ai:g.heap.objs.size=d at*;refine#[d+5,[d+5,d+3,d+4,d,d+1,d+2],_,_,t,rfl,ah,Jw (a:=a) (b:=b) (c:=c) #[?_,?_,?_,?_,?_,?_,?_],#[x,aa,#[_,_,_,ab],D,ad,ae],λi al=>?_,V]
 .refine#[?_,?_,?_,?_,?_]<;>(intro e;simp only[B] at*;omega)
 .refine#[?_,?_,?_,?_]<;>(intro e;simp only[B] at*;omega)
 .refine#[?_,?_,?_]<;>(intro e;simp only[B] at*;omega)
 .refine#[?_,?_,?_]<;>(intro e;simp only[B] at*;omega)
 .refine#[?_,?_,?_,?_,?_]<;>(intro e;simp only[B] at*;omega)
 .refine#[?_,?_,?_,?_,?_]<;>(intro e;simp only[B] at*;omega)
 .refine#[?_,?_,?_,?_,?_]<;>(intro e;simp only[B] at*;omega)
 .have am:i=d+5\/i=d+3\/i=d+4\/i=d\/i=d+1\/i=d+2:=by simpa using al
  have y:g.heap.objs.size<=i:=by rw[ai];rcases am with e|e|e|e|e|e<;>(simp only[B] at*;omega)
  exact j.Uv y (j.Ra.fresh y)
section
variable{X:Cx}
def JE(K:aj):V->V->G->VK->Prop:=λf g a i=>∃b c,∃d:Nat,∃e,f=.ref b/\g=.int d/\I K a b c/\c[d]? =some e/\i e a
theorem oj:wy X (JE X.K):=by
 intro n o p c q r s t u a d e f;obtain⟨v,x,y,g,rfl,rfl,hq,b,i⟩:=f;cases d;obtain⟨z,rfl⟩:=e;obtain⟨A,j,k,C⟩:=a.list hq;obtain⟨w,l,m⟩:=j.get b;have D:=(aC.mp b).1;have E:=j9;exact wpAny_getItem_list k.isList (by omega) (by omega) (by simpa using l) #[g,c,a,m,i]
theorem JF:nv X .Mult (rI lw λa b=>.int (a*b)):=λc d e f g i j k l m n o p=>Ej c d e f g i j k l m n o p
end
section
variable{K:aj}{a b c:B}{xs f i:List V}{g:TG}{j:TS}{h:c5}{e:L2.St}{H:G}
theorem ol(d:Nat->L2.St->G->Prop)(D:xs.length=f.length)(h0:d 0 e H)(hl:∀c e H,c<=xs.length->d c e H->I K H a xs/\I K H b f)
  (r:∀c k l i e H,xs[c]? =some k->f[c]? =some l->H i=none->d c e H->g (.ref i) e (upd H i (.tup [k,l])) λs t=>j {h with nx:=d (c+1),ct:=d (c+1),bk:=h.nx} s t)(u:∀e H,d xs.length e H->h.nx e H):
  L2.i_ (ip K a b) g j h e H:=by
 refine#[λc p e H=>p=xs.length-c/\c<=xs.length/\d c e H,#[xs.length,by simp,aR _,h0],?_];rintro c p e H ⟨rfl,v,m⟩;obtain⟨n,o⟩:=hl c e H v m;by_cases q:c<xs.length
 .refine .inr #[#[xs,f,xs[c],f[c],n,o,by simp[q],by simp],d (c+1),λE w x=>#[xs.length-(c+1),by omega,rfl,q,x],?_]
  rintro F w ⟨i,k,l,rfl,y,rfl,z,A⟩;exact r c k l i e H (z xs n) (A f o) y m
 .have C:c=xs.length:=by omega
  subst C;exact .inl #[#[xs,f,n,o,.inl (av _)],u e H m]
theorem JG(k:Nat->L2.St->G->Prop)(N:xs.length=f.length)(O:xs.length=i.length)(h0:k 0 e H)(hl:∀d e H,d<=xs.length->k d e H->I K H a xs/\I K H b f/\I K H c i)
  (v:∀d m n o l e H,xs[d]? =some m->f[d]? =some n->i[d]? =some o->H l=none->k d e H->g (.ref l) e (upd H l (.tup [m,n,o])) λw x=>j {h with nx:=k (d+1),ct:=k (d+1),bk:=h.nx} w x)(y:∀e H,k xs.length e H->h.nx e H):
  L2.i_ (t6 K a b c) g j h e H:=by
 refine#[λd t e H=>t=xs.length-d/\d<=xs.length/\k d e H,#[xs.length,by simp,aR _,h0],?_];rintro d t e H ⟨rfl,z,p⟩;obtain⟨q,r,s⟩:=hl d e H z p;by_cases u:d<xs.length
 .refine .inr #[#[xs,f,i,xs[d],f[d],i[d],q,r,s,by simp[u],by simp,by simp],k (d+1),λP A C=>#[xs.length-(d+1),by omega,rfl,u,C],?_]
  rintro Q A ⟨l,m,n,o,rfl,D,rfl,E,F,J⟩;exact v d m n o l e H (E xs q) (F f r) (J i s) D p
 .have L:d=xs.length:=by omega
  subst L;exact .inl #[#[xs,q,av _,#[f,r],#[i,s]],y e H p]
theorem zr(c:Nat->L2.St->G->Prop)(h0:c 0 e H)(hl:∀b e H,b<=xs.length->c b e H->I K H a xs)
  (n:∀b f d e H,xs[b]? =some f->H d=none->c b e H->g (.ref d) e (upd H d (.tup [.int (b:Nat),f])) λo p=>j {h with nx:=c (b+1),ct:=c (b+1),bk:=h.nx} o p)(q:∀e H,c xs.length e H->h.nx e H):
  L2.i_ (lQ K a) g j h e H:=by
 refine#[λb l e H=>l=xs.length-b/\b<=xs.length/\c b e H,#[xs.length,by simp,aR _,h0],?_];rintro b l e H ⟨rfl,r,i⟩;have k:=hl b e H r i;by_cases m:b<xs.length
 .refine .inr #[#[xs,xs[b],k,by simp[m]],c (b+1),λx s t=>#[xs.length-(b+1),by omega,rfl,m,t],?_]
  rintro y s ⟨d,f,rfl,u,rfl,v⟩;exact n b f d e H (v xs k) u i
 .have w:b=xs.length:=by omega
  subst w;exact .inl #[#[xs,k,av _],q e H i]
end
theorem om{a:List Nat}{b n:Nat}(c:b<a.length):(L a).set b (.int ((a.getD b 0:Nat)+(n:Nat)))=L (f8 a b n):=mh a b (a.getD b 0+n)
theorem JH{a:List Nat}{b:Nat}(c:b<=a.length):cR (L a) (some (b:Int)) none=L (a.drop b):=by
 unfold cR;rw[HT.hv,HT.xk,aF,hL c,<-on,fD (by simp)]
theorem JI{a:List Nat}{b:Nat}(c:b<=a.length):cR (L a) none (some (b:Int))=L (a.take b):=by
 unfold cR;rw[HT.hv,HT.xk,aF,hL c,List.drop_zero,Nat.sub_zero,<-oo]
inductive JJ(c:Cs)(m:List V)(b:G)(n:VK)(o:XK):Prop
 |mk(j cm:B)(a:bX)(e k l:Nat)(f:List Nat)(g:G)(p:m=[.ref j,.int e,.int k,.ref cm])(q:Same g b)(r:g cm=none)(s:f5 c g j a)(t:Ma.ey l a)(u:Ma.Ok a e)(v:a.isTray=false)(x:l<=f.length)(y:b cm=some (.lst (L f)))(z:∀i:G,b7 cm b i->i cm=some (.lst (L (JK a e k f)))->n .non i)
theorem zs(g:Tx K d c):ao P w K d base 1 "send_on" ["part","number","count","came"] (JJ c):=by
 refine bS g.U3 ["part","number","count","came","turn","left","way"] λf a1 a3 a5 a8 nd au=>?_;obtain⟨T,cm,ax,e,n,i,s,a9,rfl,l,bb,⟨bd,U,x,H⟩,C,ok,aB,be,t,W⟩:=au;refine#[_,J (al 4 (ah 0))
  (J (ba (aZ dO (ah 0) aT (aW _))
   (J (nA (E 3) (aI (ah 0) ai) oj (aM pe (aM nE (aM cg (E 1) (E 2)) (E 4)) (E 4)) lq gV) (ae wv)) bC)
  (J (al 5 (aM hr (aM cg (E 2) (E 4)) ai))
  (ae (b_ cv rfl (b9 (aM f0 (ie ik (ah 0) (fZ (E 1)) nL) (ie ik (ah 0) nL (fZ (E 1))))) (aO 6)
   (J (nA (E 3) (E 6) oj (aM nE (E 5) (E 4)) lq gV)
   (ae (si (i:=5) nd rfl (iq rfl) ai DS))))))),?_]
 refine#[l _ _ x,g.Q7,g.Rg,?_];refine#[l _ _ x,g.Q7,g.Q8,rfl,_,rfl,?_];cases ax with
 |tray nm=>cases aB
 |gate nm m o ce=>
  have bf:=C.gate nm m o ce rfl;have bi:o<i:=C.below o (a4 ..);refine iz ?_;refine#[l _ _ x,g.Q7,g.Re,I.of (l _ _ H),aw (j:=0) (v:=V.int (o:Nat)) rfl,cm,_,o,_,rfl,rfl,I.of t,dZ (d_ (by omega)),?_];refine#[#[by show(0:Int)<m;omega,by show(m:Int)<1073741824;omega],.inr #[by show _<(m:Int);omega,by show(m:Int)<_;omega],cm,_,_,o,rfl,rfl,t,g0 (by rw[aF];omega),?_];refine W _ (b7.own (.refl cm f)) ?_;rw[Y];exact congrArg (λN=>some (HO.lst N)) (om (n:=(e+n)/m*m) (show o<s.length by omega))
 |wheel nm b y=>
  have X:=C.wheel nm b y rfl;have O:e<b.length:=ok;refine fH (show¬("wheel":Str)= "gate" by decide+kernel) ?_;refine#[l _ _ x,g.Q7,g.Re,_,rfl,U,_,rfl,I.of (l _ _ H),λp D=>?_];have z:Same f (upd f p (.lst (cR (L (Ma.ways (.wheel nm b y))) (some (e:Int)) none))):=.upd D;refine#[z _ _ (l _ _ x),g.Q7,g.Re,_,rfl,U,_,rfl,I.of (z _ _ (l _ _ H)),λq F=>?_];have aD:cR (L (Ma.ways (.wheel nm b y))) (some (e:Int)) none=L (b.drop e):=JH (dc O);have aG:cR (L (Ma.ways (.wheel nm b y))) none (some (e:Int))=L (b.take e):=JI (dc O);rw[aD] at z F⊢;rw[aG];have aH:p≠q:=aK Y F;refine#[p,q,_,_,rfl,rfl,(aa aH).trans Y,Y,?_,λk aJ=>?_]
  .rw[aF,aF,eK,ck]
   exact dc (small (by omega))
  have aL:L (b.drop e)++L (b.take e)=L (Ma.e2 b e):=by simp[L,Ma.e2]
  rw[aL];have Z:f q=none:=z.free F;have ab:f k=none:=(z.trans (.upd F)).free aJ;have ad:cm≠k:=aK t ab;have af:b7 cm f (upd (upd (upd f p (.lst (L (b.drop e)))) q (.lst (L (b.take e)))) k (.lst (L (Ma.e2 b e)))):=(((b7.refl cm f).upd D).upd Z).upd ab;have am:upd (upd (upd f p (.lst (L (b.drop e)))) q (.lst (L (b.take e)))) k (.lst (L (Ma.e2 b e))) cm=some (.lst (L s)):=by
   rw[aa ad,aa (aK t Z),aa (aK t D)];exact t
  have Q:upd (upd (upd f p (.lst (L (b.drop e)))) q (.lst (L (b.take e)))) k (.lst (L (Ma.e2 b e))) k=some (.lst (L (Ma.e2 b e))):=Y;generalize upd (upd (upd f p (.lst (L (b.drop e)))) q (.lst (L (b.take e)))) k (.lst (L (Ma.e2 b e)))=bk at af am Q;refine#[I.of Q,gl (K:=K) (a:=k) (xs:=L (Ma.e2 b e)) (λj G r=>∃v,G=[some (.ref T),some (.int e),some (.int n),some (.ref cm),some (.int (b.length:Nat)),some (.int ((n:Int)+(b.length:Nat)-1-(j:Nat))),v]/\b7 cm f r/\
    r cm=some (.lst (L (Ma.bI ((Ma.jy b e n).take j) s)))/\r k=some (.lst (L (Ma.e2 b e)))) #[none,?_,af,am,Q] (λj G r _ ⟨_,_,_,_,aN⟩=>I.of aN) ?_ ?_]
  .show _=_
   simp only[Int.natCast_zero,Int.sub_zero];rfl
  .rintro j bl G r aV ⟨v,rfl,R,A,as⟩
   obtain⟨u,S,rfl⟩:=bt aV;have bm:j<b.length:=by have:=(aC.mp S).1;rw[Ma.qv] at this;exact this
   have bs:u<s.length:=by have:=C.below u (Ma.Jl (a7 S));omega
   have bx:(Ma.bI ((Ma.jy b e n).take j) s).length=s.length:=Ma.ju _ _;refine#[cm,_,u,_,rfl,rfl,I.of A,dZ (d_ (by omega)),?_];refine#[#[by show(0:Int)<b.length;omega,by show(b.length:Int)<1073741824;omega],cm,_,_,u,rfl,rfl,A,g0 (by rw[aF];omega),?_];have aY:(n:Int)+(b.length:Nat)-1-(j:Nat)=((n+b.length-1-j:Nat):Int):=by omega
   refine#[_,rfl,some (V.int u),?_,R.own,?_,?_]
   .show _=[some (V.ref T),some (V.int e),some (V.int n),some (V.ref cm),some (V.int (b.length:Nat)),some (V.int ((n:Int)+(b.length:Nat)-1-((j+1:Nat):Int))),some (V.int u)]
    have a0:(n:Int)+(b.length:Nat)-1-((j+1:Nat):Int)=(n:Int)+(b.length:Nat)-1-(j:Nat)-1:=by omega
    rw[a0];rfl
   .rw[Y,aY,cp (Ma.zi S),Ma.Jk]
    exact congrArg (λN=>some (HO.lst N)) (om (n:=(n+b.length-1-j)/b.length) (by omega))
   .rw[aa ad.symm];exact as
  .rintro G r ⟨v,rfl,R,A,as⟩
   rw[aF,Ma.qv,fD (by rw[Ma.zh];exact av _),<-Ma.Jm #[X.1,X.2.1] O nm y,<-Ma.l5] at A;exact W r R A
theorem mi{a b:Str}{c d:Prop}(e:¬a=b)(f:c):if(!decide (V.str a=V.str b))=true then c else d:=by
 rw[decide_eq_false (λg=>e (V.str.inj g))];exact dm f
theorem qy{a:Str}{c b:Prop}(d:b):if(!decide (V.str a=V.str a))=true then c else b:=by
 rw[decide_eq_true rfl];exact dk d
theorem b7.all{b:B}{a c:G}(e:b7 b a c)(f:a b=none):Same a c:=λg i d=>e g i d (aK d f)
inductive JL(c:Cs)(j:List V)(a:G)(k:VK)(l:XK):Prop
 |mk(i bl:B)(b:an)(e:List Nat)(m:j=[.ref i,.ref bl])(n:bM c a i b)(o:a bl=some (.lst (L e)))(p:e.length=b.hoppers.length)(q:∀(f:G)(g:B),Same a f->a g=none->f g=some (.lst (L (b.entries e)))->k (.ref g) f)
theorem zt(f:Tx K d c):ao P w K d base 1 "at_hoppers" ["board","balls"] (JL c):=by
 refine bS f.Ub ["board","balls","came","part","hopper","count"] λr aD aG aH aI nd R=>?_;obtain⟨S,bl,a,j,rfl,⟨aJ,aM,hl,T,aN,b⟩,C,U,V⟩:=R;have D:=b.wf;have W:=b.parts.len;refine#[_,J (fh (i:=2) (own:=[("part",3)]) rfl nd rfl rfl (fi rfl rfl rfl rfl) (b9 (ah 0)) (cS (N:=["board","balls","came","part","hopper","count"]) (sc:=bi Ce) (by decide+kernel)) (λ_ _ _ _ _=>aO 3) (λ_ _ _ _ _=>c2) (λ_ _ _ _ _=>ai))
  (J (b_ cv rfl (jh rfl f.SS (aL (ah 0) (E 1))) (h8 rfl (c0 (aO 4) (c0 (aO 5) gj)))
   (ae (nA (E 2) (ah 4) oj (E 5) lq gV)))
  (ae (ax (E 2)))),?_]
 refine#[b.obj,f.Q5,f.Q3,I.of b.parts.lst,λg n=>?_];refine eW (λi e=>Same r e/\e g=some (.lst (L (aP i 0)))) #[.upd n,Y] (λi e _ ⟨k,_⟩=>I.of (k _ _ b.parts.lst)) ?_ ?_
 .rintro i X e s ⟨k,Z⟩
  have aT:i<T.length:=by have:=(aC.mp s).1;rw[ag] at this;exact this
  refine#[rfl,c3 #[_,Z,?_,k.put n,?_]]
  .rw[aF,cQ]
   exact small (by have:=D.np;omega)
  .rw[Y,qo,<-d9]
   rfl
 rintro aV ⟨o,F⟩;rw[ag,W] at F;refine#[o _ _ b.obj,f.Q5,f.Q4,hl,bl,_,_,rfl,I.of (o _ _ b.Q9.lst),I.of (o _ _ C),?_];refine ol (λi p e=>∃t u v,p=[some (.ref S),some (.ref bl),some (.ref g),v,t,u]/\Same r e/\e g=some (.lst (L (Ma.kz a j (aS i) (Ma.cu a))))) ?_ #[none,none,none,rfl,o,F] (λi p e _ ⟨_,_,_,_,k,_⟩=>#[I.of (k _ _ b.Q9.lst),I.of (k _ _ C)]) ?_ ?_
 .rw[ag,aF,b.Q9.len,U]
 .rintro i aW X x p e ab ad G ⟨t,u,v,rfl,q,l⟩
  obtain⟨y,H,rfl⟩:=bt ab;obtain⟨z,af,rfl⟩:=bt ad;obtain⟨m,A⟩:=c7 b.Q9.len H;obtain⟨aY,al⟩:=b.Q9.at_ i y m H A;have s:=(aC.mp A).1;have aZ:=Ma.ej D s;have am:a.entry i=m.2:=by simp[ky,A]
  have O:Same r (upd e x (.tup [.ref y,.int z])):=q.put (q.free G);have as:=aK l G;have a0:(Ma.kz a j (aS i) (Ma.cu a)).length=a.parts.length:=by rw[Ma.tP,Ma.ju,cQ]
  refine#[x,_,rfl,a8.of Y,rfl,_,_,rfl,_,_,rfl,rfl,?_];have Q:upd e x (.tup [.ref y,.int z]) g=some (.lst (L (Ma.kz a j (aS i) (Ma.cu a)))):=by rw[aa as];exact l
  refine#[O _ _ al,f.RB,f.Rm,g,_,m.2,_,rfl,rfl,I.of Q,dZ (d_ (by omega)),g,_,_,m.2,rfl,rfl,Q,g0 (by rw[aF];omega),?_];refine#[_,_,_,rfl,O.put n,?_];rw[Y];have au:Ma.kz a j (aS (i+1)) (Ma.cu a)=f8 (Ma.kz a j (aS i) (Ma.cu a)) m.2 z:=by
   unfold Ma.kz;rw[f6,iA];show f8 _ (a.entry i) (j.getD i 0)=_;rw[am,aE,af];rfl
  rw[au];exact congrArg (λaw=>some (HO.lst aw)) (om (by omega))
 rintro p aB ⟨t,u,v,rfl,q,l⟩;rw[ag,b.Q9.len] at l;exact V aB g q n l
inductive zu(c:Cs)(l:List V)(a:G)(m:VK)(n:XK):Prop
 |mk(j k bl:B)(b:an)(e f:List Nat)(o:l=[.ref j,.ref k,.ref bl])(p:bM c a j b)(q:a k=some (.lst (L e)))(r:a bl=some (.lst (L f)))(s:f.length=b.hoppers.length)(t:Ma.bT b e)(u:∀(g:G)(i:B),Same a g->a i=none->g i=some (.lst (L (b.came e f)))->m (.ref i) g)
theorem qz(f:Tx K d c):ao P w K d base 2 "came_to" ["board","numbers","balls"] (zu c):=by
 refine bS f.UX ["board","numbers","balls","came","place","part"] λO bf bi bk bm nd Y=>?_;obtain⟨Q,Z,bl,b,q,u,rfl,R,aa,ab,ad,v,am⟩:=Y;obtain⟨bs,bt,hl,x,bx,n⟩:=id R;have y:=n.wf;have z:=n.parts.len;refine#[_,J (al 3 (aH (zt f) (aL (E 0) (E 2))))
  (J (b_ cv rfl (s7 rfl f.RT (bD (aM hr (a1 bd rfl f.Q_ bg (af (ah 0))) ai) (e9 e_ ai) (e9 e_ ai))) (aO 4)
   (J (al 5 (aI (ah 0) (E 4)))
   (ae (ba (PW.pt (i5 (aZ fV (ah 5) aT (aW _)) (i4 (aZ fW (aI (E 3) (E 4)) ai (aW _)))))
    (ae (aG (aH (zs f) (eZ (E 5) (aI (E 1) (E 4)) (aI (E 3) (E 4)) (E 3)))))
    bC))))
  (ae (ax (E 3)))),?_]
 refine#[Q,bl,b,u,rfl,R,ab,ad,λbz r A C as=>?_];have bA:=y.np;refine#[A _ _ n.obj,f.Q5,f.Q3,.inl (I.of (A _ _ n.parts.lst)),_,_,_,b.parts.length,rfl,?_,?_]
 .have s:((((x.map V.ref).length:Nat):Int)-1-(-1)).toNat=b.parts.length:=by rw[ag,z];omega
  have:=lP.neg (i:=(((x.map V.ref).length:Nat):Int)-1) (j:=-1) (by omega) (by rw[ag,z];omega) (by decide) (by decide);rw[s] at this;exact this
 refine s8 (λo D F=>∃e G S,D=[some (.ref Q),some (.ref Z),some (.ref bl),some (.ref r),G,S]/\Same O F/\F r=some (.lst (L e))/\e.length=b.parts.length/\b.flowFrom q (b.parts.length-o) e=b.came q u)
  #[_,_,_,rfl,A,as,Ma.tQ _,rfl] ?_ ?_
 .rintro o D F bF ⟨e,G,S,rfl,g,l,t,m⟩
  obtain⟨a,au⟩:∃a,b.parts.length-o=a+1:=#[b.parts.length-o-1,by omega];have aB:(((x.map V.ref).length:Nat):Int)-1+(o:Nat)*(-1)=(a:Int):=by rw[ag,z];omega
  rw[aB];have aD:a<b.parts.length:=by omega
  obtain⟨k,p⟩:=Ma.gw aD;obtain⟨aF,aJ,T⟩:=n.parts.get p;obtain⟨bG,bI,aN,bL⟩:=id T;have bM:=v.1;rw[au,Ma.f2 p] at m;have H:b.parts.length-(o+1)=a:=by omega
  refine#[g _ _ n.obj,f.Q5,f.Q3,I.of (g _ _ n.parts.lst),aw (by rw[a6,aJ];rfl),?_];refine#[g _ _ aN,f.Q7,f.Q8,rfl,_,rfl,?_];by_cases N:k.isTray=true
  .cases k with
   |tray nm=>exact qy (dk #[e,_,_,rfl,g,l,t,by rw[H];exact m])
   |wheel _ _ _=>cases N
   |gate _ _ _ _=>cases N
  have U:=dE.mpr N;have aV:¬fp k= "tray":=by
   cases k with
   |tray nm=>cases U
   |wheel _ _ _=>exact show¬("wheel":Str)= "tray" by decide+kernel
   |gate _ _ _ _=>exact show¬("gate":Str)= "tray" by decide+kernel
  refine mi aV ?_;refine#[I.of l,aw (dZ (d_ (by omega))),_,rfl,?_];refine a9 (λbP=>?_) (λaY=>?_)
  .refine#[I.of (g _ _ aa),aw (dZ (d_ (by omega))),I.of l,aw (dZ (d_ (by omega))),aF,r,k,q.getD a 0,e.getD a 0,a,e,O,rfl,g,C,T,y.part a k p,v.2 a k p,U,by omega,l,λbR a0 a3=>?_]
   refine#[_,_,_,rfl,λW X s=>a0 W X (g W X s) (aK s C),a3,?_,?_]
   .rw[Ma.l5,Ma.ju,t]
   .rw[H,Ma.l5];exact m
  .have a5:e.getD a 0=0:=by
    have:¬(0:Int)<(e.getD a 0:Nat):=λa8=>aY (decide_eq_true a8);omega
   rw[a5,Ma.tK (y.part a k p) (v.2 a k p)] at m;exact#[e,_,_,rfl,g,l,t,by rw[H];exact m]
 rintro D bb ⟨e,G,bT,rfl,g,l,t,m⟩;rw[ez] at m;have be:e=b.came q u:=m;rw[be] at l;exact am bb r g C l
inductive JM(c:Cs)(l:List V)(a:G)(m:VK)(n:XK):Prop
 |mk(j k cm:B)(b:an)(e f:List Nat)(o:l=[.ref j,.ref k,.ref cm])(p:bM c a j b)(q:a k=some (.lst (L e)))(r:a cm=some (.lst (L f)))(s:e.length=b.parts.length)(t:f.length=b.parts.length)(u:∀(g:G)(i:B),Same a g->a i=none->g i=some (.lst (L (Ma.after b e f)))->m (.ref i) g)
theorem zv(b:Tx K d c):ao P w K d base 1 "numbers_behind" ["board","numbers","came"] (JM c):=by
 refine bS b.S5 ["board","numbers","came","behind","part","number","count"] λp a1 a5 a9 bb nd am=>?_;obtain⟨O,y,cm,l,g,i,rfl,⟨bd,as,hl,be,bf,m⟩,X,Z,au,aw,aB⟩:=am;have Q:=m.wf;have bi:=Q.np;have z:=m.parts.len;refine#[_,J (al 3 (a3 er))
  (J (b_ cv rfl (JD rfl b.SS (bD (ah 0) (E 1) (E 2))) (h8 rfl (c0 (aO 4) (c0 (aO 5) (c0 (aO 6) gj))))
   (ae (ba (aZ dO (ah 4) aT (aW _))
    (ae (aG (cM cI dU ea dS (E 3) (af (aM cg (E 5) (E 6))))))
    (ae (aG (cM cI dU ea dS (E 3) (af (aM ph (aM cg (E 5) (E 6)) (ah 4)))))))))
  (ae (ax (E 3)))),?_]
 refine#[aR _,λe R=>?_];have q:Same p (upd p e (.lst [])):=.upd R;refine#[q _ _ m.obj,b.Q5,b.Q3,as,y,cm,_,_,_,rfl,I.of (q _ _ m.parts.lst),I.of (q _ _ X),I.of (q _ _ Z),?_];refine JG (λa A f=>∃r s t,A=[some (.ref O),some (.ref y),some (.ref cm),some (.ref e),r,s,t]/\Same p f/\f e=some (.lst (L ((Ma.after l g i).take a)))) ?_ ?_ #[none,none,none,rfl,q,Y]
  (λa A f _ ⟨_,_,_,_,S,_⟩=>#[I.of (S _ _ m.parts.lst),I.of (S _ _ X),I.of (S _ _ Z)]) ?_ ?_
 .rw[ag,aF,z,au]
 .rw[ag,aF,z,aw]
 .rintro a C bk bl u A f aD aH aI ab ⟨r,s,t,rfl,F,v⟩
  obtain⟨n,ad,rfl⟩:=bt aD;obtain⟨j,aJ,rfl⟩:=bt aH;obtain⟨k,aL,rfl⟩:=bt aI;obtain⟨G,x⟩:=c7 z ad;obtain⟨bm,bs,T,bx⟩:=m.parts.at_ a n G ad x;have H:Same p (upd f u (.tup [.ref n,.int j,.int k])):=F.put (F.free ab);have aN:=aK v ab;have o:upd f u (.tup [.ref n,.int j,.int k]) e=some (.lst (L ((Ma.after l g i).take a))):=by rw[aa aN];exact v
  have aV:(Ma.after l g i)[a]? =some (G.behind j k):=by
   have D:g.getD a 0=j:=by rw[aE,aJ];rfl
   have aY:i.getD a 0=k:=by rw[aE,aL];rfl
   rw[d_ (by rw[Ma.f3];exact(aC.mp x).1),Ma.gZ x,D,aY]
  have U:(L ((Ma.after l g i).take a)).length<aq:=by
   rw[aF,ck,Ma.f3];exact small (by omega)
  refine#[u,_,rfl,a8.of Y,rfl,_,_,rfl,_,_,rfl,_,_,rfl,rfl,?_];refine#[H _ _ T,b.Q7,b.Q8,rfl,_,rfl,?_];have W:∀N:V,N=.int (G.behind j k:Nat)->(∃r s t,[some (V.ref O),some (.ref y),some (.ref cm),some (.ref e),some (.ref n),some (.int j),some (.int k)]=[some (V.ref O),some (.ref y),some (.ref cm),some (.ref e),r,s,t]/\
    Same p (upd (upd f u (.tup [.ref n,.int j,.int k])) e (.lst (L ((Ma.after l g i).take a)++[N])))/\(upd (upd f u (.tup [.ref n,.int j,.int k])) e (.lst (L ((Ma.after l g i).take a)++[N]))) e=some (.lst (L ((Ma.after l g i).take (a+1))))):=by
   rintro N rfl;refine#[_,_,_,rfl,H.put R,?_];rw[Y,d9,cp aV]
  cases G with
  |tray nm=>
   refine iz ?_;exact#[.inl #[rfl,_,I.of o],o,U,W _ rfl]
  |wheel nm ai C=>
   have:=(Q.part a _ x).wheel nm ai C rfl;refine fH (show¬("wheel":Str)= "tray" by decide+kernel) ?_;exact#[.inl #[rfl,_,I.of o],H _ _ T,b.Q7,b.Rg,(by show(0:Int)<ai.length;omega),o,U,W _ rfl]
  |gate nm kk a0 C=>
   have:=(Q.part a _ x).gate nm kk a0 C rfl;refine fH (show¬("gate":Str)= "tray" by decide+kernel) ?_;exact#[.inl #[rfl,_,I.of o],H _ _ T,b.Q7,b.Rg,(by show(0:Int)<kk;omega),o,U,W _ rfl]
 .rintro A f ⟨r,s,t,rfl,F,v⟩
  rw[ag,z,fD (by rw[Ma.f3];exact av _)] at v;exact aB f e F R v
section
variable{P:Program}{w:World}{K:aj}{a:Str->Option Value}{base:Heap}{f:B}
inductive qA(lo d:Int)(e:List V)(g:G)(i:VK)(j:XK):Prop
 |mk(b:Int)(k:e=[.int b])(l:i (.bl (decide (lo<=b)&&decide (b<=d))) g)
theorem JN(d:aD K a "is_letter" Cb f)(e:cG a "LETTER_A" 97)(g:cG a "LETTER_Z" 122):fF P w K a base 1 f ["byte"] (qA 97 122):=by
 obtain⟨p,i⟩:=d.ex;refine yw i (jq (N:=["byte"]) (by decide+kernel)) (λ_ _ _ _ _ _ j hl=>match j,hl with|[_],_=>rfl) (λk l m n b=>?_) (λq r s t l k m n u b=>?_)
 .obtain⟨o,rfl,_⟩:=b
  rfl
 .obtain⟨o,rfl,c⟩:=b
  refine#[_,ae (ax (wM nF nF (bR rfl e) (E 0) (bR rfl g))),?_];refine#[_,rfl,?_];refine a9 (λb=>?_) (λb=>?_)
  .refine ?_
   rw[b] at c;exact c
  .rw[dE.mpr b] at c
   exact c
inductive qB(e:List V)(g:G)(i:VK)(j:XK):Prop
 |mk(b d:Nat)(k:e=[.int b,.int d])(l:i (.int (bh b d:Nat)) g)
theorem JO(s:aD K a "common_divisor" Ci f):fF P w K a base 1 f ["one","other"] qB:=by
 obtain⟨A,t⟩:=s.ex;have nd:(["one","other","rest"]:List Str).Nodup:=by decide
 refine yw t (jq (N:=["one","other","rest"]) (by decide+kernel)) (λ_ _ _ _ _ _ u hl=>match u,hl with|[_,_],_=>rfl) (λv m x y e=>?_) (λC D F G m v x y H e=>?_)
 .obtain⟨g,i,rfl,_⟩:=e
  rfl
 .obtain⟨g,i,rfl,n⟩:=e
  refine#[_,J (i8 cv (aZ fW (E 1) ai (aW _))
    (J (al 2 (aM ph (E 0) (E 1)))
    (J (al 0 (E 1))
    (ae (al 1 (E 2))))))
   (ae (ax (E 0))),?_]
  refine#[λb o p=>∃(c d:Nat)(q:Option V),o=[some (.int c),some (.int d),q]/\p=m/\bh c d=bh g i/\b=d,#[_,g,i,none,rfl,rfl,rfl,rfl],?_];rintro b o p ⟨c,d,q,rfl,rfl,r,rfl⟩;refine#[_,rfl,a9 (λj=>#[_,λ_ _ k=>k,?_]) (λj=>?_)]
  .have z:=of_decide_eq_true j
   have l:0<b:=by omega
   refine#[z,b % b+c % b,?_,b,c % b,_,rfl,rfl,?_,?_]
   .rw[tO,f4];exact jj _ l
   .rw[<-r,zw c b,Nat.gcd_rec b c,zw]
   .rw[tO,f4]
  .have l:b=0:=by have:¬(0:Int)<b:=λk=>j (decide_eq_true k);omega
   subst l;rw[<-r,JP] at n;exact n
end
theorem zx{e:Type}{c:e->Bool}:∀{l:List e}{a:Nat},a<(l.takeWhile c).length-> ∃f,l[a]? =some f/\c f=true
 |[],a,b=>by simp at b
 |g::l,a,b=>by
  by_cases d:c g=true
  .rw[kC d] at b
   cases a with
   |zero=>exact#[g,rfl,d]
   |succ a=>exact zx (l:=l) (by simpa using b)
  .rw[qC d] at b
   simp at b
theorem zy{c:Type}{d:c->Bool}:∀{e:List c}{b:c},e[(e.takeWhile d).length]? =some b->d b=false
 |[],b,a=>by simp at a
 |g::e,b,a=>by
  by_cases f:d g=true
  .rw[kC f] at a
   exact zy (by simpa using a)
  .rw[qC f] at a
   have:g=b:=by simpa using a
   rw[<-this];exact dE.mpr f
theorem qD{a:Type}{q:a->Bool}:∀{l:List a},(l.takeWhile q).length<=l.length
 |[]=>by simp
 |c::l=>by
  by_cases b:q c=true
  .rw[kC b]
   have:=qD (q:=q) (l:=l);simpa using this
  .rw[qC b]
   simp
abbrev nb(a:ay):List Nat:=a.map eA
theorem JQ(a:Tx K d c):ao P w K d base 1 "is_letter" ["byte"] (qA 97 122):=by
 obtain⟨e,b⟩:=a.UB;exact#[e,JN b a.To a.UQ,b.mg]
theorem JR(e:Tx K d c):ao P w K d base 1 "is_digit" ["byte"] (qA 48 57):=by
 refine bS e.UO ["byte"] λf g i j k nd a=>?_;obtain⟨l,rfl,b⟩:=a;refine#[_,ae (ax (wM nF nF (bR rfl e.UL) (E 0) (bR rfl e.VY))),?_];refine#[_,rfl,?_];refine a9 (λa=>?_) (λa=>?_)
 .refine ?_
  rw[a] at b;exact b
 .rw[dE.mpr a] at b
  exact b
def bA(lo b:Nat)(a:UInt8):Bool:=decide (lo<=a.toNat)&&decide (a.toNat<=b)
inductive t8(g:B)(lo i:Nat)(j:List V)(e:G)(k:VK)(l:XK):Prop
 |mk(f:B)(a:ay)(b:Nat)(m:j=[.ref f,.int b,.ref g])(n:e f=some (.lst (L (nb a))))(o:b<=a.length)(p:a.length<=100000)(q:k (.int (b+((a.drop b).takeWhile (bA lo i)).length:Nat)) e)
theorem zz(p:Tx K d c){m:B}{lo f:Nat}(z:fF P w K d base 1 m ["byte"] (qA lo f)):ao P w K d base 2 "row_end" ["text","begin","belongs"] (t8 m lo f):=by
 refine bS p.UW ["text","begin","belongs","place"] λA S T U C nd F=>?_;obtain⟨G,a,b,rfl,r,V,W,s⟩:=F;refine#[_,J (al 3 (E 1))
  (J (i8 cv (PW.pt (i5 (aZ ia (E 3) (a1 bd rfl p.Q_ bg (af (E 0))) (aW _)) (i4 (eJ (tw (E 2) z C eh (af (aI (E 0) (E 3))))))))
   (ae (si (i:=3) nd rfl (iq rfl) ai lq)))
  (ae (ax (E 3)))),?_]
 have X:b+((a.drop b).takeWhile (bA lo f)).length<=a.length:=by
  have:=qD (q:=bA lo f) (l:=a.drop b);rw[eK] at this;omega
 refine#[λt u v=>∃e:Nat,u=[some (.ref G),some (.int b),some (.ref m),some (.int (b+e:Nat))]/\v=A/\e<=((a.drop b).takeWhile (bA lo f)).length/\t=((a.drop b).takeWhile (bA lo f)).length-e,#[_,0,rfl,rfl,aR _,rfl],?_];rintro t u v ⟨e,rfl,rfl,Y,rfl⟩;refine#[.inl (I.of r),_,rfl,?_];have H:((L (nb a)).length:Int)=(a.length:Nat):=by simp
 rw[H];refine a9 (λD=>?_) (λD=>?_)
 .have N:b+e<a.length:=by have:=of_decide_eq_true D;omega
  obtain⟨j,x⟩:∃j,a[b+e]? =some j:=#[_,a2 N];have n:(a.drop b)[e]? =some j:=by rw[t2];exact x
  have O:(L (nb a))[b+e]? =some (.int (j.toNat:Nat)):=dZ (by rw[a6,x];rfl);refine#[rfl,I.of r,aw O,_,rfl,_,rfl,?_];refine a9 (λo=>#[_,λ_ _ g=>g,?_]) (λo=>?_)
  .have hq:bA lo f j=true:=by
    have:=o;simp only[bJ,decide_eq_true_eq] at this;simp only[bA,bJ,decide_eq_true_eq];omega
   have k:e<((a.drop b).takeWhile (bA lo f)).length:=by
    rcases JS e ((a.drop b).takeWhile (bA lo f)).length with g|g
    .exact g
    .have Q:e=((a.drop b).takeWhile (bA lo f)).length:=by omega
     rw[Q] at n;rw[zy n] at hq;cases hq
   exact#[_,rfl,_,by omega,e+1,rfl,rfl,k,rfl]
  .have k:e=((a.drop b).takeWhile (bA lo f)).length:=by
    rcases JS e ((a.drop b).takeWhile (bA lo f)).length with g|g
    .obtain⟨Z,y,R⟩:=zx g
     rw[n] at y;cases y;exfalso;apply o;simp only[bA,bJ,decide_eq_true_eq] at R;simp only[bJ,decide_eq_true_eq];omega
    .omega
   rw[k];exact s
 .have k:e=((a.drop b).takeWhile (bA lo f)).length:=by
   have:¬(((b+e:Nat):Int)<(a.length:Nat)):=λg=>D (decide_eq_true g);omega
  refine dk ?_;rw[k];exact s
open PySem PySem.Spec PyProof.Rows L2 Ex TL
theorem zE{c:Type}{d e:c->Bool}:∀{a:List c},(∀b∈a,d b=e b)->a.any d=a.any e
 |[],_=>rfl
 |g::a,f=>by rw[lD,lD,f g (a4 ..),zE λb i=>f b (bj _ i)]
theorem fI{b g:G}{c f j:B}(i:b c=none)(nd:b f=none)(k:∀a d,(upd (upd b f (.own c)) c (.ins j f [])) a=some d->a≠c->g a=some d):Same b g:=λa d e=>
 k a d (by rw[aa (aK e i),aa (aK e nd)];exact e) (aK e i)
def fJ(c:Cs)(a:G)(b:B)(d:Str)(e:V)(f:Nat):Prop:=∃g,a b=some (.ins c.Token g [("kind",.str d),("value",e),("place",.int f)])
theorem fJ.same{c:Cs}{a b:G}{d:B}{e:Str}{f:V}{g:Nat}(i:fJ c a d e f g)(j:Same a b):fJ c b d e f g:=let⟨k,l⟩:=i;#[k,j _ _ l]
def f9:cw->Str
 | .word a=>if dF.contains a=true then nm a else "name"
 | .num _=> "number"
 | .semi=> ";"
 | .bad=> "none"
def qE:cw->V
 | .word a=>.str (nm a)
 | .num b=>.int b
 | .semi=>.str ";"
 | .bad=>.non
def t9:List V:=[.str "at",.str "board",.str "gate",.str "hopper",.str "tray",.str "wheel",.str "with"]
theorem jz:∀a∈dD,nm (eC a)=bH a:=by decide+kernel
theorem JT(w:ay):nN (.str (nm w)) t9=dF.contains w:=by
 have d:∀a,a∈dD->hw (.str (bH a)) (.str (nm w))=(eC a==w):=λa b=>by
  show(bH a==nm w)=_;rw[<-jz a b];by_cases c:eC a=w
  .rw[c];simp
  .rw[beq_eq_false_iff_ne.mpr (λe=>c (tT e)),beq_eq_false_iff_ne.mpr c]
 show(dD.map λa=>V.str (bH a)).any (λf=>hw f (.str (nm w)))=(dD.map eC).contains w;rw[JU,List.contains_eq_any_beq,JU];refine zE λa b=>?_;simp only[QH];rw[d a b];exact BEq.comm
theorem t_:∀a:List (List Nat),ji [] a=a.flatten
 |[]=>rfl
 |[b]=>by simp[ji]
 |b::c::d=>by
  show b++([]++ji [] (c::d))=_;rw[t_ (c::d)];simp
theorem JV{a:UInt8}(b:bA 97 122 a=true):ih (bH "abcdefghijklmnopqrstuvwxyz").cps.toList ((a.toNat:Nat)-97:Int)=some a.toNat:=by
 simp only[bA,bJ,decide_eq_true_eq] at b;have c:(bH "abcdefghijklmnopqrstuvwxyz").cps.toList=(aS 26).map (·+97):=by decide+kernel
 have d:((a.toNat:Nat)-97:Int)=((a.toNat-97:Nat):Int):=by omega
 rw[c,d];refine aw ?_;rw[a6,op (by omega)];show some (a.toNat-97+97)=_;congr 1;omega
def kD(w:ay):cw:=if w.length<=16 then .word w else .bad
inductive qF(c:Cs)(ok:ay->Prop)(b:ay->cw)(i:List V)(e:G)(j:VK)(k:XK):Prop
 |mk(rw:B)(w:ay)(f:Nat)(l:i=[.ref rw,.int f])(m:e rw=some (.lst (L (nb w))))(n:ok w)(o:w.length<=100000)(p:∀(a:G)(g:B),Same e a->fJ c a g (f9 (b w)) (qE (b w)) f->j (.ref g) a)
theorem JW(f:Tx K d c):ao P w K d base 3 "letters_token" ["row","place"] (qF c (λw=>∀a∈w,bA 97 122 a=true) kD):=by
 refine bS f.S9 ["row","place","letters","byte"] λQ ai am as au nd R=>?_;obtain⟨aw,w,x,rfl,n,y,S,g⟩:=R;obtain⟨z,T,U⟩:=f.Vy;refine#[_,J (ba (aZ fW (a1 bd rfl f.Q_ bg (af (E 0))) (bR rfl f.Tf) (aW _)) (ae (ax (dq (n_ f) (bD aT lf (E 1))))) bC)
  (J (al 2 (yg aT (gW (own:=[("byte",3)]) rfl nd (b9 (E 0)) (cS (N:=["row","place","letters","byte"]) (sc:=bi Cc) (by decide+kernel)) (λ_ _ _ _ _=>aO 3) (λ_ _ _ _ _=>c2)
   (λ_ _ _ _ _=>dR Fw (H6 rfl f.U1) (aM hr (E 3) (bR rfl f.To)) (λ_ _=>rfl)))))
  (J (ba (aZ FM (E 2) (i2 (v:=.ref z) rfl T rfl) (by with_unfolding_all rfl)) (ae (ax (dq (n_ f) (bD (E 2) (E 2) (E 1))))) bC)
  (ae (ax (dq (n_ f) (bD aT (E 2) (E 1))))))),?_]
 refine#[.inl (I.of n),_,rfl,a9 (λD=>?_) (λD=>?_)]
 .have b:¬w.length<=16:=by
   have:=of_decide_eq_true D;rw[aF,ag] at this;omega
  have o:kD w=.bad:=by unfold kD;rw[if_neg b]
  rw[o] at g;refine(λa e j k A=>?_);exact#[a,e,_,rfl,rfl,Y,λl b m=>#[rfl,g l a (fI j k m) #[e,b]]]
 .have b:w.length<=16:=by
   have:¬(16:Int)<((L (nb w)).length:Nat):=λW=>D (decide_eq_true W);rw[aF,ag] at this;omega
  have o:kD w=.word w:=by unfold kD;rw[if_pos b]
  rw[o] at g;refine#[#[_,rfl],I.of n,λC F=>?_];refine eW (λs p=>Same Q p/\p C=some (.lst (((w.take s).map λa=>V.str #[#v[a.toNat]])))) #[.upd F,Y] (λs p _ ⟨X,_⟩=>I.of (X _ _ n)) ?_ ?_
  .rintro s aB p Z ⟨q,i⟩
   obtain⟨aD,aa,rfl⟩:=bt Z;obtain⟨a,G,rfl⟩:=bt aa;refine#[rfl,c3 #[_,_,a.toNat,rfl,rfl,(by decide+kernel),JV (y a (a7 G)),_,i,?_,q.put F,?_]]
   .rw[ag,ck]
    exact small (by omega)
   .rw[Y,cp G,br]
    rfl
  rintro aG ⟨q,i⟩;rw[aF,ag,dY] at i;have H:(w.map λa=>V.str #[#v[a.toNat]])=(w.map λa=>(#[#v[a.toNat]]:Str)).map V.str:=by rw[dG];rfl
  rw[H] at i;have ab:lS (bH "") (w.map λa=>(#[#v[a.toNat]]:Str))=nm w:=by
   rw[tb];refine nZ ?_;rw[pL,show tl (bH "")=[] by decide+kernel,t_,dG];clear i H g y S D b o n
   induction w with
   |nil=>rfl
   |cons a O t=>rw[bE,pD,t];rfl
  refine#[bH "",C,_,rfl,rfl,.inl (I.of i),?_,?_]
  .have ad:(bH "").length=0:=by decide+kernel
   rw[ad,ua,p_];have:∀r:List UInt8,((r.map λa=>(#[#v[a.toNat]]:Str)).map (·.length)).sum=r.length:=by
    intro r
    induction r with
    |nil=>rfl
    |cons a O t=>rw[bE,bE,hJ,t,bV];show 1+O.length=_;omega
   rw[this];omega
  rw[ab];refine#[z,_,rfl,.inr (U _),rfl,rfl,_,rfl,?_];have ah:=JT w;show if(if false=true then !nN (.str (nm w)) t9 else nN (.str (nm w)) t9)=true then _ else _
  rw[if_neg cC,ah];refine a9 (λu=>?_) (λu=>?_)
  .refine(λa e j k A=>?_)
   refine#[a,e,_,rfl,rfl,Y,λl b m=>#[rfl,g l a (q.trans (fI j k m)) #[e,?_]]];rw[b];show _=some (HO.ins c.Token e [("kind",.str (if dF.contains w=true then nm w else "name")),("value",.str (nm w)),("place",.int x)]);rw[if_pos u];rfl
  .refine(λa e j k A=>?_)
   refine#[a,e,_,rfl,rfl,Y,λl b m=>#[rfl,g l a (q.trans (fI j k m)) #[e,?_]]];rw[b];show _=some (HO.ins c.Token e [("kind",.str (if dF.contains w=true then nm w else "name")),("value",.str (nm w)),("place",.int x)]);rw[if_neg u];rfl
def hM(a:ay):cw:=if a.length<=3/\(a.length=1\/a.headD 0≠48) then .num (jA a) else .bad
theorem JX(i:Tx K d c):ao P w K d base 3 "digits_token" ["row","place"] (qF c (λw=>w≠[]/\ ∀b∈w,bA 48 57 b=true) hM):=by
 have G:d8 P w K d base 1 c.Token "Token" ["self","kind","value","place"] (cU c.Token ["kind","value","place"]):=n_ i;refine bS i.Th ["row","place","number","byte"] λu as p au aB nd R=>?_;obtain⟨m,w,q,rfl,n,⟨S,T⟩,aD,r⟩:=R;obtain⟨k,H,s⟩:∃k H,w=k::H:=by cases w with|nil=>exact absurd rfl S|cons a U=>exact#[a,U,rfl]
 refine#[_,J (ba (PW.pt (j2 (aZ fW (a1 bd rfl i.Q_ bg (af (E 0))) (bR rfl i.TN) (aW _))
    (j1 (PW.pt (i5 (aZ fW (a1 bd rfl i.Q_ bg (af (E 0))) ai (aW _)) (i4 (aZ dO (aI (E 0) ai) (bR rfl i.UL) (aW _))))))))
   (ae (ax (dq G (bD aT lf (E 1))))) bC)
  (J (al 2 ai)
  (J (b_ cv rfl (b9 (E 0)) (aO 3) (ae (al 2 (aM hr (aM cg (aM pe (E 2) ai) (E 3)) (bR rfl i.UL)))))
  (ae (ax (dq G (bD aT (E 2) (E 1))))))),?_]
 have hl:((L (nb w)).length:Int)=(w.length:Nat):=by simp
 have bad:hM w=.bad->se (hu c.Token (cU c.Token ["kind","value","place"]) [] E0 (bx (tC (.str "none")) (bx (tC .non) (bx (b2 1) c1)))) {nx:=λ_ g=>p .non g,rt:=p} [some (.ref m),some (.int q),none,none] u:=λx=>by
  rw[x] at r;refine(λb o y z W=>?_);exact#[b,o,_,rfl,rfl,Y,λA l C=>#[rfl,r A b (fI y z C) #[o,l]]]
 have N:hM w=.num (jA w)->j3 (i7 (tC (.int 0)) (gQ 2)) (j3 (wF (wA K (b2 0)) (gQ 3) (i7 (jb (gR λf j=>.int (f-j)) (jb (gR λf j=>.int (f+j)) (jb (rI lw λf j=>.int (f*j)) (b2 2) (tC (.int 10))) (b2 3)) (tC (.int 48))) (gQ 2)))
   (se (hu c.Token (cU c.Token ["kind","value","place"]) [] E0 (bx (tC (.str "number")) (bx (b2 2) (bx (b2 1) c1)))))) {nx:=λ_ g=>p .non g,rt:=p} [some (.ref m),some (.int q),none,none] u:=λx=>by
  rw[x] at r;refine#[I.of n,gl (K:=K) (a:=m) (xs:=L (nb w)) (λf t g=>∃v,t=[some (.ref m),some (.int q),some (.int (jA (w.take f):Nat)),v]/\g=u) #[none,rfl,rfl] (λf t g _ ⟨_,_,e⟩=>by rw[e];exact I.of n) ?_ ?_]
  .rintro f aG t g X ⟨v,rfl,rfl⟩
   obtain⟨aH,Z,rfl⟩:=bt X;obtain⟨b,O,rfl⟩:=bt Z;have aa:=T b (a7 O);simp only[bA,bJ,decide_eq_true_eq] at aa;refine#[.inr #[by decide,by decide],some (V.int (b.toNat:Nat)),?_,rfl]
   .have ab:jA (w.take (f+1))=10*jA (w.take f)+(b.toNat-48):=by
     rw[cp O];unfold jA;rw[iA];rfl
    rw[ab];have ad:((jA (w.take f):Nat):Int)*10+(b.toNat:Nat)-48=((10*jA (w.take f)+(b.toNat-48):Nat):Int):=by omega
    show[some (V.ref m),some (V.int q),some (V.int (((jA (w.take f):Nat):Int)*10+(b.toNat:Nat)-48)),some (V.int (b.toNat:Nat))]=_;rw[ad]
  .rintro t g ⟨v,rfl,rfl⟩
   rw[aF,ag,dY];refine(λb o y z W=>?_);exact#[b,o,_,rfl,rfl,Y,λA l C=>#[rfl,r A b (fI y z C) #[o,l]]]
 refine#[.inl (I.of n),_,rfl,?_];rw[hl];refine a9 (λD=>?_) (λD=>?_)
 .refine dm (bad ?_)
  unfold hM;rw[if_neg];intro e;have:=of_decide_eq_true D;omega
 .have Q:w.length<=3:=by have:¬(3:Int)<(w.length:Nat):=λe=>D (decide_eq_true e);omega
  refine#[.inl (I.of n),_,rfl,?_];rw[hl];refine a9 (λl=>?_) (λl=>?_)
  .have aJ:1<w.length:=by have:=of_decide_eq_true l;omega
   refine#[I.of n,aw (j:=0) (v:=V.int (k.toNat:Nat)) (by rw[s];rfl),rfl,_,rfl,?_];refine a9 (λF=>bad ?_) (λF=>N ?_)
   .have ah:k=48:=by
     have e:V.int (k.toNat:Nat)=V.int 48:=of_decide_eq_true F;injection e with e
     exact ql.mp (by show k.toNat=48;omega)
    unfold hM;rw[if_neg];rintro⟨_,e|e⟩
    .omega
    .rw[s,ah] at e;exact e rfl
   .unfold hM
    rw[if_pos];refine#[Q,.inr ?_];rw[s];intro e;have am:k=48:=e;apply F;rw[am];rfl
  .refine dk (N ?_)
   unfold hM;rw[if_pos];refine#[Q,.inl ?_];have:¬(1:Int)<(w.length:Nat):=λe=>l (decide_eq_true e);have:0<w.length:=by rw[s];simp
   omega
theorem ub{c:Type}{b:c->Bool}:∀{a:List c},a.take (a.takeWhile b).length=a.takeWhile b
 |[]=>rfl
 |e::a=>by
  by_cases d:b e=true
  .rw[kC d,bV,oq,ub]
  .rw[qC d];rfl
theorem uc{c:Type}{d:c->Bool}:∀{f:List c}{b:c},b∈f.takeWhile d->d b=true
 |[],b,a=>by simp at a
 |g::f,b,a=>by
  by_cases e:d g=true
  .rw[kC e] at a
   rcases bw.mp a with a|a
   .rw[a];exact e
   .exact uc a
  .rw[qC e] at a
   simp at a
theorem qG(b:UInt8)(c:ay):0<(hN b c).2:=by
 unfold hN;split
 .rename_i a
  rw[kC a];simp
 .split
  .rename_i a
   rw[kC a];simp
  .split<;>exact ek
theorem ud:∀(a b e:Nat)(g:ay),g.length<=a->g.length<=b->ot a e g=ot b e g
 |0,0,_,_,_,_=>rfl
 |0,b+1,e,[],_,_=>rfl
 |a+1,0,e,[],_,_=>rfl
 |a+1,b+1,e,[],_,_=>rfl
 |0,b+1,e,c::d,f,_=>by simp at f
 |a+1,0,e,c::d,_,f=>by simp at f
 |a+1,b+1,e,c::d,f,j=>by
  have D:d.length<=a:=by simpa using f
  have i:d.length<=b:=by simpa using j
  unfold ot;split
  .exact ud a b _ d D i
  .have k:=qG c d
   dsimp only;congr 1;have hl:((c::d).drop (hN c d).2).length<=d.length:=by rw[eK,bV];omega
   exact ud a b _ _ (bB hl D) (bB hl i)
def tk(b:ay)(a:Nat):List (cw×Nat):=ot (b.length-a) a (b.drop a)
theorem JY{a:ay}{b:Nat}(c:a.length<=b):tk a b=[]:=by
 unfold tk;rw[ue c,show a.length-b=0 by omega];rfl
theorem mj{c:Type}{a:List c}{b:Nat}{d:c}(e:a[b]? =some d):a.drop b=d::a.drop (b+1):=by
 obtain⟨D,f⟩:=aC.mp e;rw[JZ D,f]
theorem J0{a:ay}{b:Nat}{c:UInt8}(d:a[b]? =some c)(e:c=32\/c=10):tk a b=tk a (b+1):=by
 have f:=(aC.mp d).1;unfold tk;rw[mj d,show a.length-b=(a.length-(b+1))+1 by omega]
 conv=>lhs;unfold ot
 rw[if_pos e]
theorem qH{b:ay}{a:Nat}{c:UInt8}(d:b[a]? =some c)(e:¬(c=32\/c=10)):tk b a=((hN c (b.drop (a+1))).1,a)::tk b (a+(hN c (b.drop (a+1))).2):=by
 have f:=(aC.mp d).1;have g:=qG c (b.drop (a+1));unfold tk;rw[mj d,show b.length-a=(b.length-(a+1))+1 by omega]
 conv=>lhs;unfold ot
 rw[if_neg e];dsimp only;congr 1;rw[<-mj d,ou];exact ud _ _ _ _ (by rw[eK];omega) (by rw[eK];omega)
def jB(a:cw×Nat):Str×V×Nat:=(f9 a.1,qE a.1,a.2)
structure ov(c:Cs)(d:G)(i:B)(e:List (Str×V×Nat))(b:List B):Prop where
 lst:d i=some (.lst (b.map V.ref))
 len:b.length=e.length
 at_:∀(f:Nat)(g:B)(a:Str×V×Nat),b[f]? =some g->e[f]? =some a->fJ c d g a.1 a.2.1 a.2.2
theorem ov.same{c:Cs}{b d:G}{e:B}{f:List (Str×V×Nat)}{g:List B}(a:ov c b e f g)(i:Same b d):ov c d e f g:=#[i _ _ a.lst,a.len,λj k l D m=>(a.at_ j k l D m).same i]
def jC(c:Cs)(H:G)(b:List (Str×V×Nat))(d:List B):Prop:=d.length=b.length/\ ∀(e:Nat)(a:B)(t:Str×V×Nat),d[e]? =some a->b[e]? =some t->fJ c H a t.1 t.2.1 t.2.2
theorem jC.snoc{c:Cs}{H i:G}{k:List (Str×V×Nat)}{d:List B}{a:B}{t:Str×V×Nat}(b:jC c H k d)(e:∀f e l m,fJ c H f e l m->fJ c i f e l m)(o:fJ c i a t.1 t.2.1 t.2.2):jC c i (k++[t]) (d++[a]):=by
 refine#[by simp[b.1],λj f p D g=>?_];by_cases n:j<d.length
 .rw[cF n] at D
  rw[cF (by rw[<-b.1];exact n)] at g;exact e _ _ _ _ (b.2 j f p D g)
 .have q:j=d.length:=by
   have:=(aC.mp D).1;simp at this;omega
  subst q;rw[dB (av _),ez] at D;rw[dB (by rw[b.1];exact av _),b.1,ez] at g;cases D;cases g;exact o
theorem zF{ws:List Nat}{a b:Nat}(d:a<=b)(c:b<=ws.length):cR (L ws) (some (a:Int)) (some (b:Int))=L ((ws.drop a).take (b-a)):=by
 unfold cR;rw[HT.hv,HT.hv,aF,hL c,hL (bB d c),<-on,<-oo]
inductive J1(c:Cs)(i:List V)(b:G)(j:VK)(l:XK):Prop
 |mk(g:B)(a:ay)(m:i=[.ref g])(n:b g=some (.lst (L (nb a))))(o:a.length<=90000)(p:∀(e:G)(f:B)(k:List B),Same b e->b f=none->ov c e f ((kE a).map jB++[(("end":Str),V.non,a.length)]) k->j (.ref f) e)
theorem J2(p:Tx K d c):ao P w K d base 4 "scan" ["text"] (J1 c):=by
 have bx:d8 P w K d base 1 c.Token "Token" ["self","kind","value","place"] (cU c.Token ["kind","value","place"]):=n_ p;obtain⟨fl,b6,b7⟩:=JQ (P:=P) (w:=w) (base:=base) p;obtain⟨b9,b_,ca⟩:=JR (P:=P) (w:=w) (base:=base) p;have cl:ao P w K d base 2 "row_end" ["text","begin","belongs"] (t8 fl 97 122):=zz p b6;have cm:ao P w K d base 2 "row_end" ["text","begin","belongs"] (t8 b9 48 57):=zz p b_;have TL:ao P w K d base 3 "letters_token" ["row","place"] (qF c (λw=>∀f∈w,bA 97 122 f=true) kD):=JW p;have co:ao P w K d base 3 "digits_token" ["row","place"] (qF c (λw=>w≠[]/\ ∀f∈w,bA 48 57 f=true) hM):=JX p;refine bS p.VR ["text","tokens","place","byte","behind"] λas cG cH cJ cc nd W=>?_;obtain⟨C,b,rfl,Q,cK,cp⟩:=W;refine#[_,J (al 1 (a3 er))
  (J (al 2 ai)
  (J (i8 cv (aZ ia (E 2) (a1 bd rfl p.Q_ bg (af (E 0))) (aW _))
   (J (al 3 (aI (E 0) (E 2)))
   (J (al 4 (aM cg (E 2) ai))
   (J (ba (eJ (tv b6 (cc.mono (by decide)) rfl b7 eh (af (E 3))))
    (J (al 4 (aH cl (bD (E 0) (E 2) (i2 (v:=.ref fl) rfl b7 rfl))))
    (ae (aG (cM cI dU ea dS (E 1) (af (aH TL (aL (ie ik (E 0) (fZ (E 2)) (fZ (E 4))) (E 2))))))))
    (ae (ba (eJ (tv b_ (cc.mono (by decide)) rfl ca eh (af (E 3))))
     (J (al 4 (aH cm (bD (E 0) (E 2) (i2 (v:=.ref b9) rfl ca rfl))))
     (ae (aG (cM cI dU ea dS (E 1) (af (aH co (aL (ie ik (E 0) (fZ (E 2)) (fZ (E 4))) (E 2))))))))
     (ae (ba (aZ dO (E 3) (bR rfl p.Uq) (aW _))
      (ae (aG (cM cI dU ea dS (E 1) (af (dq bx (bD aT aT (E 2)))))))
      (ae (ba (PW.pt (i5 (aZ fV (E 3) (bR rfl p.Vq) (aW _)) (i4 (aZ fV (E 3) (bR rfl p.UN) (aW _)))))
       (ae (aG (cM cI dU ea dS (E 1) (af (dq bx (bD aT lf (E 2)))))))
       bC)))))))
   (ae (al 2 (E 4)))))))
  (J (aG (cM cI dU ea dS (E 1) (af (dq bx (bD aT lf (a1 bd rfl p.Q_ bg (af (E 0))))))))
  (ae (ax (E 1)))))),?_]
 refine#[aR _,λi au=>?_];have cN:C≠i:=aK Q au;have hl:((L (nb b)).length:Int)=(b.length:Nat):=by simp
 refine#[λcd ce r=>∃(e:Nat)(S:List (cw×Nat))(o:List B)(X cf:Option V),ce=[some (.ref C),some (.ref i),some (.int e),X,cf]/\Same as r/\r i=some (.lst (o.map V.ref))/\jC c r (S.map jB) o/\S++tk b e=kE b/\e<=b.length/\S.length<=e/\cd=b.length-e,
  #[_,0,[],[],none,none,rfl,.upd au,Y,#[rfl,λbb be bf W=>by simp at W],rfl,aR _,av _,rfl],?_]
 rintro cd ce r ⟨e,S,o,X,cf,rfl,F,u,Z,bi,ch,cO,rfl⟩;refine#[.inl (I.of (F _ _ Q)),_,rfl,?_];rw[hl];have bk:∀{m n:G},Same as m->(∀k N,m k=some N->k≠i->n k=some N)->m i=some (.lst (o.map V.ref))-> ∀k bm v bz,fJ c m k bm v bz->fJ c n k bm v bz:=λ_ bm aB k kk v bz ⟨x,W⟩=>#[x,bm _ _ W (dL W aB (by intro g;cases g))];have bs:∀{m:G}{f:B}{tok:cw}{R:Nat}{X:Option V},Same r m->fJ c m f (f9 tok) (qE tok) e->tk b e=(tok,e)::tk b (e+R)->0<R->e+R<=b.length->
   ∃aD,aD<b.length-e/\ ∃(y:Nat)(T:List (cw×Nat))(aF:List B)(bF bG:Option V),[some (V.ref C),some (.ref i),some (.int (e+R:Nat)),X,some (.int (e+R:Nat))]=[some (.ref C),some (.ref i),some (.int y),bF,bG]/\
    Same as (upd m i (.lst (o.map V.ref++[.ref f])))/\upd m i (.lst (o.map V.ref++[.ref f])) i=some (.lst (aF.map V.ref))/\jC c (upd m i (.lst (o.map V.ref++[.ref f]))) (T.map jB) aF/\T++tk b y=kE b/\y<=b.length/\T.length<=y/\aD=b.length-y:=by
  intro m f tok R X z cq cr cR cs;have j:Same as m:=F.trans z;have ab:m i=some (.lst (o.map V.ref)):=z _ _ u;have aJ:∀k N,m k=some N->k≠i->upd m i (.lst (o.map V.ref++[.ref f])) k=some N:=λk N bI ad=>by rw[aa ad];exact bI
  refine#[_,?_,e+R,S++[(tok,e)],o++[f],X,_,rfl,j.put au,?_,?_,?_,cs,?_,rfl]
  .omega
  .rw[Y];simp
  .rw[br]
   exact jC.snoc (H:=m) (a:=f) (t:=jB (tok,e)) #[Z.1,λbb be bf D O=>(Z.2 bb be bf D O).same z] (bk j aJ ab) (bk j aJ ab _ _ _ _ cq)
  .rw[kl,<-bi,cr];rfl
  .rw[bq];show S.length+1<=e+R;omega
 have aN:(o.map V.ref).length<aq:=by
  rw[ag,Z.1,ag];exact small (by omega)
 refine a9 (λD=>#[_,λ_ _ g=>g,?_]) (λD=>?_)
 .have ah:e<b.length:=by have:=of_decide_eq_true D;omega
  obtain⟨f,U⟩:∃f,b[e]? =some f:=#[_,a2 ah];have ct:(L (nb b))[e]? =some (.int (f.toNat:Nat)):=dZ (by rw[a6,U];rfl);have bL:=mj U;refine#[I.of (F _ _ Q),aw ct,?_];refine#[_,rfl,_,rfl,?_];have cu:(decide ((97:Int)<=(f.toNat:Nat))&&decide (((f.toNat:Nat):Int)<=122))=bA 97 122 f:=by
   unfold bA;congr 1<;>(rw[decide_eq_decide];omega)
  have cA:(decide ((48:Int)<=(f.toNat:Nat))&&decide (((f.toNat:Nat):Int)<=57))=bA 48 57 f:=by
   unfold bA;congr 1<;>(rw[decide_eq_decide];omega)
  rw[cu];refine a9 (λam=>?_) (λam=>?_)
  .
   have bM:¬(f=32\/f=10):=by
    rintro(g|g)<;>(rw[g] at am;revert am;decide)
   have bP:(f::b.drop (e+1)).takeWhile uf=(b.drop e).takeWhile (bA 97 122):=by rw[<-bL];rfl
   have bT:hN f (b.drop (e+1))=(kD ((b.drop e).takeWhile (bA 97 122)),((b.drop e).takeWhile (bA 97 122)).length):=by
    unfold hN;rw[if_pos (show uf f=true from am)];dsimp only;rw[bP];rfl
   have aO:e+((b.drop e).takeWhile (bA 97 122)).length<=b.length:=by
    have:=qD (q:=bA 97 122) (l:=b.drop e);rw[eK] at this;omega
   have aV:=qG f (b.drop (e+1));have s:=qH U bM;rw[bT] at s aV;refine#[C,b,e,rfl,F _ _ Q,ch,by omega,?_];refine#[.inl #[rfl,_,I.of u],_,rfl,_,rfl,C,_,rfl,I.of (F _ _ Q),λbU bW=>?_];rw[zF (ws:=nb b) (lR _ _) (by rw[ag];exact aO),ug];have bY:((nb b).drop e).take ((b.drop e).takeWhile (bA 97 122)).length=nb ((b.drop e).takeWhile (bA 97 122)):=by
    rw[<-on,<-oo,ub]
   rw[bY];refine#[bU,(b.drop e).takeWhile (bA 97 122),e,rfl,Y,λcD bZ=>uc bZ,by omega,λn A z aY=>?_];have j:Same r n:=(Same.upd bW).trans z;refine#[j _ _ u,aN,?_];exact bs j aY s aV aO
  refine#[_,rfl,_,rfl,?_];rw[cA];refine a9 (λhG=>?_) (λhG=>?_)
  .
   have bM:¬(f=32\/f=10):=by
    rintro(g|g)<;>(rw[g] at hG;revert hG;decide)
   have bP:(f::b.drop (e+1)).takeWhile zG=(b.drop e).takeWhile (bA 48 57):=by rw[<-bL];rfl
   have ci:(b.drop e).takeWhile (bA 48 57)=f::(b.drop (e+1)).takeWhile (bA 48 57):=by rw[bL,kC hG]
   have bT:hN f (b.drop (e+1))=(hM ((b.drop e).takeWhile (bA 48 57)),((b.drop e).takeWhile (bA 48 57)).length):=by
    unfold hN;rw[if_neg (show¬uf f=true from am),if_pos (show zG f=true from hG)];dsimp only;rw[bP];unfold hM;have:((b.drop e).takeWhile (bA 48 57)).headD 0=f:=by rw[ci];rfl
    rw[this]
   have aO:e+((b.drop e).takeWhile (bA 48 57)).length<=b.length:=by
    have:=qD (q:=bA 48 57) (l:=b.drop e);rw[eK] at this;omega
   have aV:=qG f (b.drop (e+1));have s:=qH U bM;rw[bT] at s aV;refine#[C,b,e,rfl,F _ _ Q,ch,by omega,?_];refine#[.inl #[rfl,_,I.of u],_,rfl,_,rfl,C,_,rfl,I.of (F _ _ Q),λbU bW=>?_];rw[zF (ws:=nb b) (lR _ _) (by rw[ag];exact aO),ug];have bY:((nb b).drop e).take ((b.drop e).takeWhile (bA 48 57)).length=nb ((b.drop e).takeWhile (bA 48 57)):=by
    rw[<-on,<-oo,ub]
   rw[bY];refine#[bU,(b.drop e).takeWhile (bA 48 57),e,rfl,Y,#[by rw[ci];simp,λcD bZ=>uc bZ],by omega,λn A z aY=>?_];have j:Same r n:=(Same.upd bW).trans z;refine#[j _ _ u,aN,?_];exact bs j aY s aV aO
  have cj:hN f (b.drop (e+1))=if f=59 then(.semi,1) else(.bad,1):=by
   unfold hN;rw[if_neg (show¬uf f=true from am),if_neg (show¬zG f=true from hG)]
  refine#[rfl,_,rfl,?_];refine a9 (λb0=>?_) (λb0=>?_)
  .have bt:f=59:=by
    have g:V.int (f.toNat:Nat)=V.int 59:=of_decide_eq_true b0;injection g with g
    exact ql.mp (by show f.toNat=59;omega)
   have s:=qH U (by rw[bt];decide);rw[cj,if_pos bt] at s;refine#[.inl #[rfl,_,I.of u],λA x a0 a5 ad=>?_];refine#[A,x,_,rfl,rfl,Y,λn O a8=>#[rfl,?_]];have j:Same r n:=fI a0 a5 a8;refine#[j _ _ u,aN,?_];exact bs (tok:=.semi) j #[x,O] s ek (show e+1<=b.length from ah)
  .have bt:¬f=59:=λg=>b0 (by rw[g];rfl)
   refine#[rfl,_,rfl,?_];have bl:(f=32\/f=10)-> ∃aD,aD<b.length-e/\ ∃(y:Nat)(T:List (cw×Nat))(aF:List B)(bF bG:Option V),[some (V.ref C),some (.ref i),some (.int (e+1:Nat)),some (V.int (f.toNat:Nat)),some (.int (e+1:Nat))]=[some (.ref C),some (.ref i),some (.int y),bF,bG]/\
     Same as r/\r i=some (.lst (aF.map V.ref))/\jC c r (T.map jB) aF/\T++tk b y=kE b/\y<=b.length/\T.length<=y/\aD=b.length-y:=λg=>by
    have s:=J0 U g;exact#[_,by omega,e+1,S,o,_,_,rfl,F,u,Z,by rw[<-s];exact bi,ah,by omega,rfl]
   by_cases b1:f=32
   .have aB:decide (V.int (f.toNat:Nat)=V.int 32)=true:=by rw[b1];exact decide_eq_true rfl
    rw[aB];refine dk (dk ?_);exact bl (.inl b1)
   .have aB:decide (V.int (f.toNat:Nat)=V.int 32)=false:=decide_eq_false λg=>by
     injection g with g
     exact b1 (ql.mp (by show f.toNat=32;omega))
    rw[aB];refine dm ?_;refine#[rfl,_,rfl,?_];by_cases b2:f=10
    .have b3:decide (V.int (f.toNat:Nat)=V.int 10)=true:=by rw[b2];exact decide_eq_true rfl
     rw[b3];refine dk ?_;exact bl (.inr b2)
    .have b3:decide (V.int (f.toNat:Nat)=V.int 10)=false:=decide_eq_false λg=>by
      injection g with g
      exact b2 (ql.mp (by show f.toNat=10;omega))
     rw[b3];refine dm ?_;have s:=qH U (by rintro(g|g)<;>contradiction);rw[cj,if_neg bt] at s;refine#[.inl #[rfl,_,I.of u],λA x a0 a5 ad=>?_];refine#[A,x,_,rfl,rfl,Y,λn O a8=>#[rfl,?_]];have j:Same r n:=fI a0 a5 a8;refine#[j _ _ u,aN,?_];exact bs (tok:=.bad) j #[x,O] s ek (show e+1<=b.length from ah)
 .have ah:e=b.length:=by
   have:¬(((e:Nat):Int)<(b.length:Nat)):=λg=>D (decide_eq_true g);omega
  rw[ah,JY (av _),eH] at bi;refine#[.inl #[rfl,_,I.of u],.inl (I.of (F _ _ Q)),λA x a0 a5 ad=>?_];refine#[A,x,_,rfl,rfl,Y,λn O a8=>#[rfl,?_]];have z:Same r n:=fI a0 a5 a8;have j:=F.trans z;have ab:=z _ _ u;refine#[ab,aN,?_];have aJ:∀k N,n k=some N->k≠i->upd n i (.lst (o.map V.ref++[.ref A])) k=some N:=λk N bI ad=>by rw[aa ad];exact bI
  have aY:fJ c n A "end" .non b.length:=#[x,by rw[O];show some (HO.ins c.Token x [("kind",.str "end"),("value",.non),("place",.int ((L (nb b)).length:Nat))])=_;rw[hl]];have b4:=jC.snoc (H:=n) (a:=A) (t:=(("end":Str),V.non,b.length)) #[Z.1,λbb be bf D O=>(Z.2 bb be bf D O).same z] (bk j aJ ab) (bk j aJ ab _ _ _ _ aY);rw[bi] at b4;exact cp _ i (o++[A]) (j.put au) au #[by rw[Y];simp,b4.1,b4.2]
theorem zH:ic (.type "Exception") "place"=pure none:=by rw[typeLookup_type,builtinLookup_eq_fast];kernel_rfl
inductive uh(c:Cs)(g:List V)(e:G)(i:VK)(j:XK):Prop
 |mk(a:B)(f:V)(k:g=[.ref a,f])(l:e a=some (.ext (XE a c.RP none)))(m:∀b,e b=none->b≠a->i .non (upd (upd e a (.ext (XE a c.RP (some b)))) b (.xd [("place",f)])))
theorem J3(b:Tx K d c):∃a e,ee P w K d base (cc P w) 1 a e ["self","place"] (uh c)/\fb K e ["self","place"] []/\cn K c.RR "__init__"=some (some (.ref a))/\ib K (.ref a)=true:=by
 obtain⟨a,e,f,g,i⟩:=b.Vu;obtain⟨j,l⟩:=tx (P:=P) (w:=w) (base:=base) (k:=0) (sp:=uh c) (ps:=["self","place"]) f ["self","place"] (λt u v x y nd m=>by
  obtain⟨n,z,rfl,o,p⟩:=m;refine#[_,ae (HS (E 0) (E 1) rfl b.Sb b.S1 b.Sx zH),?_];exact#[n,rfl,o,λq r s=>p q r s])
 exact#[a,e,j,l,g,i]
section
variable{X:Cx}{a:XK}{c:Cs}{f g h:aU}{e:Expr}{b:TE}
def zI(c:Cs)(a:XK)(d:V)(e:G):Prop:=[d].length<=aq/\ ∀b,e b=none->uh c [.ref b,d] (upd e b (.ext (XE b c.RP none))) (λg f=>g=.non/\ ∃dd,f b=some (.ext (XE b c.RP dd))/\a (.ref c.RP) dd (gr b f)) E0
def zJ(c:Cs)(a:XK)(b:TE):TS:=λ_ d e=>b d e λf g=>zI c a f g
theorem qI(d:Tx X.K X.mg c)(j:lW X a)(k:X.calm=true)(l:X.ex=[])(m:Gl X "Fault")(n:bu 2 X.A)(o:PE X e b)(i:az [e] X.env=(false,aA e X.env)::az [] X.env:=by rfl):
  PS X (.Raise (some (.Call (.Name "Fault" f) [e] [] g)) none h) (zJ c a b):=by
 obtain⟨t,u,p,q,r,s⟩:=J3 d;exact H3 j k l m d.T1 d.Vp d.Sb r s p n q (eh) (af o i) (by decide) i rfl
theorem qJ{d:V}{g:G}(k:∀(f:G)(b:B),Same g f->f b=some (.xd [("place",d)])->a (.ref c.RP) (some b) f):zI c a d g:=by
 refine#[by show 1<=aq;decide,λl m=>#[l,d,rfl,Y,λb i j=>#[rfl,some b,by rw[aa j.symm,Y],k _ b (λn p e=>?_) ?_]]]
 .have nb:=aK e m
  have nd:n≠b:=by
   intro o;rw[o] at e nb;rw[aa nb,e] at i;cases i
  unfold gr;rw[if_neg nb,aa nd,aa nb,aa nb];exact e
 .unfold gr
  rw[if_neg j,Y]
end
def bb(c:List B)(d e:G):Prop:=∀a b,d a=some b->a∉c->e a=some b
theorem bb.refl(b:List B)(a:G):bb b a a:=λ_ _ c _=>c
theorem bb.trans{a:List B}{b d e:G}(i:bb a b d)(j:bb a d e):bb a b e:=λc f k g=>j c f (i c f k g) g
theorem bb.of{c:List B}{a b:G}(d:Same a b):bb c a b:=λe f g _=>d e f g
theorem bb.put{a:List B}{b c:G}{d:B}{f:HO}(g:bb a b c)(i:d∈a):bb a b (L2.upd c d f):=λj k l e=>by
 rw[aa (λm=>e (by rw[m];exact i))];exact g j k l e
def less(b:G)(c:List B):G:=λa=>if a∈c then none else b a
theorem ow{c:G}{d:List B}{b:B}{e:HO}(a:less c d b=some e):c b=some e/\b∉d:=by
 unfold less at a;split at a
 .cases a
 .rename_i f
  exact#[a,f]
theorem cJ{b:G}{c:List B}{a:B}{d:HO}(e:b a=some d)(f:a∉c):less b c a=some d:=by
 unfold less;rw[if_neg f];exact e
theorem bb.less{a:List B}{b c:G}(e:bb a b c):Same (less b a) (less c a):=λf g i=>let⟨D,d⟩:=ow i;cJ (e f g D d) d
theorem f_(a:G)(b:List B):Same (less a b) a:=λd e c=>(ow c).1
def qK(c:Cs)(g:G)(a:List bX)(b:List B):Prop:=b.length=a.length/\ ∀(d:Nat)(e:B)(f:bX),b[d]? =some e->a[d]? =some f->f5 c g e f
def qL(c:Cs)(g:G)(a:List (bo×Nat))(b:List B):Prop:=b.length=a.length/\ ∀(d:Nat)(e:B)(f:bo×Nat),b[d]? =some e->a[d]? =some f->jx c g e f
theorem qK.same{c:Cs}{a b:G}{d:List bX}{e:List B}(f:qK c a d e)(g:Same a b):qK c b d e:=#[f.1,λi j k D l=>(f.2 i j k D l).same g]
theorem qL.same{c:Cs}{a b:G}{d:List (bo×Nat)}{e:List B}(f:qL c a d e)(g:Same a b):qL c b d e:=#[f.1,λi j k D l=>(f.2 i j k D l).same g]
structure Md where
 dx:B
 tl:B
 pl:B
 hl:B
 nd:B
 nu:B
def rf(a:Md)(b:Nat):List (Str×V):=[("tokens",.ref a.tl),("spot",.int b),("parts",.ref a.pl),("hoppers",.ref a.hl),("names",.ref a.nd),("numbers",.ref a.nu)]
def aJ(b:B)(a:Md):List B:=[b,a.pl,a.hl,a.nd,a.nu]
abbrev cf:=List (cw×Nat)
def ui(a:cf)(b:Nat):List (Str×V×Nat):=a.map jB++[(("end":Str),V.non,b)]
def bF(a:cf)(b c:Nat):Str×V×Nat:=match a[c]? with
 |some d=>jB d
 |none=>("end",.non,b)
theorem ox{a:cf}{c b:Nat}(e:b<=a.length):(ui a c)[b]? =some (bF a c b):=by
 unfold ui bF;by_cases d:b<a.length
 .rw[cF (by simpa using d),a6,a2 d]
  rfl
 .have:b=a.length:=by omega
  subst this;simp
structure Fp where
 as:List B
 Rz:List B
 has:List B
structure RS(c:Cs)(e:G)(g:B)(a:Md)(n:cf)(o p:Nat)(b:an)(i:List bo)(f:Fp):Prop where
 obj:e g=some (.ins c.Q6 a.dx (rf a p))
 toks:ov c (less e (aJ g a)) a.tl (ui n o) f.as
 parts:e a.pl=some (.lst (f.Rz.map V.ref))
 partsOf:qK c (less e (aJ g a)) b.parts f.Rz
 Q9:e a.hl=some (.lst (f.has.map V.ref))
 Sg:qL c (less e (aJ g a)) b.hoppers f.has
 names:∃k:List bo,e a.nd=some (.dK (k.map λd=>(cL (nm d),V.bl true)))/\(∀d,d∈k↔d∈b.names\/d∈b.hoppers.map (λj=>j.1)\/d∈i)/\k.length=b.parts.length+b.hoppers.length+i.length
 nums:e a.nu=some (.dK (b.names.zipIdx.map λj=>(cL (nm j.1),V.int (j.2:Nat))))
 ne1:a.pl≠a.hl
 ne2:a.nd≠a.nu
 wf:∀l m,b.parts[l]? =some m->Ma.ey l m
 Vn:∀q∈b.hoppers,q.2<b.parts.length
 nw:∀d∈b.names,dF.contains d=false
 pw:∀d∈i,dF.contains d=false/\d∉b.names
 np:b.parts.length<=64
 nh:b.hoppers.length<=8
 pn:i.length<=1
theorem RS.keep{c:Cs}{f g:G}{d:B}{e:Md}{j:cf}{k l:Nat}{m:an}{n:List bo}{o:Fp}(a:RS c f d e j k l m n o)(b:Same f g):RS c g d e j k l m n o:=by
 have i:Same (less f (aJ d e)) (less g (aJ d e)):=(bb.of b).less;obtain⟨p,q,r⟩:=a.names;exact#[b _ _ a.obj,a.toks.same i,b _ _ a.parts,a.partsOf.same i,b _ _ a.Q9,a.Sg.same i,#[p,b _ _ q,r],b _ _ a.nums,a.ne1,a.ne2,a.wf,a.Vn,a.nw,a.pw,a.np,a.nh,a.pn]
theorem RS.apart{c:Cs}{k:G}{d:B}{b:Md}{l:cf}{m n:Nat}{o:an}{p:List bo}{q:Fp}(e:RS c k d b l m n o p q):d≠b.pl/\d≠b.hl/\d≠b.nd/\d≠b.nu/\b.pl≠b.nd/\b.pl≠b.nu/\b.hl≠b.nd/\b.hl≠b.nu:=by
 have f:=e.parts;have g:=e.Q9;obtain⟨r,i,s⟩:=e.names;have j:=e.nums;have h0:=e.obj;exact#[dL h0 f (by intro a;cases a),dL h0 g (by intro a;cases a),dL h0 i (by intro a;cases a),dL h0 j (by intro a;cases a),dL f i (by intro a;cases a),dL f j (by intro a;cases a),dL g i (by intro a;cases a),dL g j (by intro a;cases a)]
theorem RS.move{c:Cs}{e:G}{d:B}{b:Md}{i:cf}{j n f:Nat}{k:an}{l:List bo}{m:Fp}(a:RS c e d b i j n k l m):RS c (upd e d (.ins c.Q6 b.dx (rf b f))) d b i j f k l m:=by
 obtain⟨o,p,q,r,_⟩:=a.apart;have g:Same (less e (aJ d b)) (less (upd e d (.ins c.Q6 b.dx (rf b f))) (aJ d b)):=((bb.refl _ e).put (by simp[aJ])).less;obtain⟨s,t,u⟩:=a.names;exact#[Y,a.toks.same g,by rw[aa o.symm];exact a.parts,a.partsOf.same g,by rw[aa p.symm];exact a.Q9,a.Sg.same g,#[s,by rw[aa q.symm];exact t,u],by rw[aa r.symm];exact a.nums,a.ne1,a.ne2,a.wf,a.Vn,a.nw,a.pw,a.np,a.nh,a.pn]
inductive qM(c:Cs)(j:List V)(e:G)(k:VK)(p:XK):Prop
 |mk(f:B)(g:Str)(l:Md)(a:cf)(i b:Nat)(m:an)(n:List bo)(o:Fp)(q:j=[.ref f,.str g])(r:RS c e f l a i b m n o)(s:b<=a.length)(t:k (.bl (decide ((bF a i b).1=g))) e)
theorem uj{b c:Str}:decide (V.str b=V.str c)=decide (b=c):=by
 rw[decide_eq_decide];exact#[λa=>V.str.inj a,λa=>by rw[a]]
theorem kF(a:Tx K d c):bW P w K d base 1 c.Q6 "sees" ["self","kind"] (qM c):=by
 refine yy a.Ta ["self","kind"] λn o p q r nd k=>?_;obtain⟨s,t,u,x,y,l,z,A,C,rfl,b,g,m⟩:=k;have e:=b.toks;have lst:=(f_ _ _) _ _ e.lst;obtain⟨i,j⟩:=c7 e.len.symm (ox g);obtain⟨D,f⟩:=e.at_ l i _ j (ox g);have f:=(f_ _ _) _ _ f;refine#[_,ae (ax (pj dO (fX (aI (ah 0) (ah 0)) rfl) (E 1) (aW _))),?_];refine#[b.obj,a.Q2,a.RY,b.obj,a.Q2,a.RV,I.of lst,aw (v:=V.ref i) (by rw[a6,j];rfl),
  f,a.Rt,a.Se,rfl,?_]
 rw[uj];exact m
def fK(c:Cs)(d:XK)(e:List B)(f:G)(g:Nat):Prop:=∀(a:G)(b:B),bb e f a->a b=some (.xd [("place",.int g)])->d (.ref c.RP) (some b) a
inductive qN(c:Cs)(p:List V)(k:G)(q:VK)(r:XK):Prop
 |mk(f:B)(g:Str)(i:Md)(a:cf)(e b:Nat)(l:an)(m:List bo)(n:Fp)(s:p=[.ref f,.str g])(t:RS c k f i a e b l m n)(u:b<=a.length)(v:((bF a e b).1=g-> ∀(j:G)(o:B),bb (aJ f i) k j->RS c j f i a e (b+1) l m n->fJ c j o g (bF a e b).2.1 (bF a e b).2.2->q (.ref o) j))(x:(¬(bF a e b).1=g->fK c r (aJ f i) k (bF a e b).2.2))
theorem gy(a:Tx K d c):bW P w K d base 3 c.Q6 "take" ["self","kind"] (qN c):=by
 refine fj a.S_ ["self","kind","token"] λH L N O p nd l=>?_;obtain⟨o,q,f,r,s,b,Q,R,S,rfl,e,m,t,u⟩:=l;have j:=e.toks;have lst:=(f_ _ _) _ _ j.lst;obtain⟨k,n⟩:=c7 j.len.symm (ox m);obtain⟨v,g⟩:=j.at_ b k _ n (ox m);have g:=(f_ _ _) _ _ g;refine#[_,J (al 2 (aI (ah 0) (ah 0)))
  (J (ba (aZ fV (ah 2) (E 1) (aW _)) (ae (qI a d7 rfl rfl rfl p (ah 2))) bC)
  (J (EV (E 0) ai EX)
  (ae (ax (E 2))))),?_]
 refine#[e.obj,a.Q2,a.RY,e.obj,a.Q2,a.RV,I.of lst,aw (by rw[a6,n];rfl),?_];refine#[g,a.Rt,a.Se,rfl,_,rfl,?_];rw[uj];by_cases i:(bF r s b).1=q
 .rw[decide_eq_true i]
  refine dk ?_;refine#[o,_,f.dx,_,_,rfl,e.obj,a.Q2,a.RV,rfl,f.dx,rf f b,e.obj,(by show 6<1000;decide),?_];have x:df "spot" (V.int ((b:Nat)+1)) (rf f b)=rf f (b+1):=rfl;rw[x];refine t i _ k ((bb.refl _ _).put (by simp[aJ])) e.move #[v,?_];have y:k≠o:=by
   intro z;have D:=(j.at_ b k _ n (ox m));obtain⟨_,A⟩:=D;exact(ow A).2 (by rw[z];simp[aJ])
  rw[aa y,<-i];exact g
 .rw[decide_eq_false i]
  refine dm ?_;exact#[g,a.Rt,a.RJ,qJ λC F G l=>u i C F (.of G) l]
theorem oy{a:bo}(c:dF.contains a=true):∃b∈dD,a=eC b:=by
 have D:a∈dF:=by simpa using c
 unfold dF at D;obtain⟨b,d,e⟩:=bK.mp D;exact#[b,d,e.symm]
theorem zK{a:String}(b:a∈dD):dF.contains (eC a)=true:=by
 have:eC a∈dF:=by unfold dF;exact bK.mpr #[a,b,rfl]
 simpa using this
theorem oz:∀a∈dD,¬bH a= "name"/\ ¬bH a= "number"/\ ¬bH a= ";"/\ ¬bH a= "none"/\ ¬bH a= "end":=by decide+kernel
theorem J4:∀a∈dD,∀b∈dD,bH a=bH b->a=b:=by decide+kernel
theorem iB{n:bo}:(dF.contains n=true/\f9 (.word n)=nm n)\/(dF.contains n=false/\f9 (.word n)= "name"):=by
 by_cases a:dF.contains n=true
 .refine .inl #[a,?_]
  show(if dF.contains n=true then nm n else("name":Str))=_;rw[if_pos a]
 .refine .inr #[dE.mpr a,?_]
  show(if dF.contains n=true then nm n else("name":Str))=_;rw[if_neg a]
theorem zL{c:cw}(a:f9 c= "name"):∃b,c=.word b/\dF.contains b=false:=by
 cases c with
 |word b=>
  rcases iB with⟨D,f⟩|⟨D,_⟩
  .rw[f] at a
   obtain⟨d,e,rfl⟩:=oy D;rw[jz d e] at a;exact absurd a (oz d e).1
  .exact#[b,rfl,D]
 |num b=>exact absurd a (show¬("number":Str)= "name" by decide+kernel)
 |semi=>exact absurd a (by decide+kernel)
 |bad=>exact absurd a (by decide+kernel)
theorem J5{c:cw}(a:f9 c= "number"):∃b,c=.num b:=by
 cases c with
 |word b=>
  rcases iB with⟨D,d⟩|⟨_,d⟩
  .rw[d] at a
   obtain⟨e,f,rfl⟩:=oy D;rw[jz e f] at a;exact absurd a (oz e f).2.1
  .rw[d] at a
   exact absurd a (by decide+kernel)
 |num b=>exact#[b,rfl]
 |semi=>exact absurd a (by decide+kernel)
 |bad=>exact absurd a (by decide+kernel)
theorem uk{b:cw}(a:f9 b= ";"):b=.semi:=by
 cases b with
 |word f=>
  rcases iB with⟨D,c⟩|⟨_,c⟩
  .rw[c] at a
   obtain⟨d,e,rfl⟩:=oy D;rw[jz d e] at a;exact absurd a (oz d e).2.2.1
  .rw[c] at a
   exact absurd a (by decide+kernel)
 |num f=>exact absurd a (show¬("number":Str)= ";" by decide+kernel)
 |semi=>rfl
 |bad=>exact absurd a (by decide+kernel)
theorem iC{b:String}(e:b∈dD){c:cw}(a:f9 c=bH b):c=.word (eC b):=by
 obtain⟨i,j,k,l,n⟩:=oz b e;cases c with
 |word m=>
  rcases iB with⟨D,d⟩|⟨_,d⟩
  .rw[d] at a
   obtain⟨f,g,rfl⟩:=oy D;rw[jz f g] at a;rw[J4 f g b e a]
  .rw[d] at a
   exact absurd a.symm i
 |num m=>exact absurd a.symm j
 |semi=>exact absurd a.symm k
 |bad=>exact absurd a.symm l
theorem kG{s:String}(a:s∈dD):f9 (.word (eC s))=bH s:=by
 rcases iB with⟨_,b⟩|⟨D,_⟩
 .rw[b,jz s a]
 .rw[zK a] at D
  cases D
theorem J6{c:cw}:¬f9 c= "end":=by
 intro a;cases c with
 |word f=>
  rcases iB with⟨D,b⟩|⟨_,b⟩
  .rw[b] at a
   obtain⟨d,e,rfl⟩:=oy D;rw[jz d e] at a;exact absurd a (oz d e).2.2.2.2
  .rw[b] at a
   exact absurd a (by decide+kernel)
 |num f=>exact absurd a (show¬("number":Str)= "end" by decide+kernel)
 |semi=>exact absurd a (by decide+kernel)
 |bad=>exact absurd a (by decide+kernel)
theorem eD{a:cf}{d b:Nat}{c:cw×Nat}(e:a[b]? =some c):bF a d b=jB c:=by unfold bF;rw[e]
theorem ul{a:cf}{b c:Nat}(d:a[c]? =none):bF a b c=(("end":Str),V.non,b):=by unfold bF;rw[d]
theorem e3{b:cf}{f c:Nat}{d:Str}(a:(bF b f c).1=d)(k:¬d= "end"):∃e g,b[c]? =some (e,g)/\f9 e=d/\bF b f c=(d,qE e,g):=by
 cases i:b[c]? with
 |none=>rw[ul i] at a;exact absurd a.symm k
 |some j=>
  rw[eD i] at a⊢;exact#[j.1,j.2,rfl,a,by rw[<-a];rfl]
theorem um(a:bo):∀d:List bo,dC (d.map λa=>((cL (nm a):aV),V.bl true)) (cL (nm a))=if a∈d then some (.bl true) else none
 |[]=>rfl
 |f::e=>by
  rw[bE];by_cases b:f=a
  .rw[nT (by rw[b]),if_pos (by rw[b];exact a4 ..)]
  .rw[nU (λg=>b (tT (wj g))),um a e]
   by_cases c:a∈e
   .rw[if_pos c,if_pos (bj _ c)]
   .rw[if_neg c,if_neg (by simp[c,b8 b])]
theorem uo(c:bo):∀(d:List bo)(a:Nat),dC ((d.zipIdx a).map λf=>((cL (nm f.1):aV),V.int (f.2:Nat))) (cL (nm c))=(d.idxOf? c).map λb=>V.int ((a+b:Nat):Int)
 |[],a=>rfl
 |g::d,a=>by
  rw[qx,bE];by_cases e:g=c
  .rw[nT (by rw[e]),J7,if_pos (by simpa using e)]
   rfl
  .rw[nU (λi=>e (tT (wj i))),uo c d (a+1),J7,if_neg (by simpa using e),zM]
   congr 1;funext b;show V.int ((a+1+b:Nat):Int)=V.int ((a+(b+1):Nat):Int);rw[show a+1+b=a+(b+1) by omega]
theorem qO{b:an}{a:bo}:b.fresh a=true↔dF.contains a=false/\a∉b.names/\a∉b.hoppers.map (λc=>c.1):=by
 unfold QI;rw[bJ,bJ,n2,n2,n2];simp
inductive qP(c:Cs)(o:List V)(j:G)(p:VK)(q:XK):Prop
 |mk(f:B)(g:Md)(b:cf)(k e:Nat)(i:an)(n:Fp)(r:o=[.ref f])(s:RS c j f g b k e i [] n)(t:e<=b.length)(u:(∀a l,b[e]? =some (.word a,l)->i.fresh a=true-> ∀m:G,bb (aJ f g) j m->RS c m f g b k (e+1) i [a] n->p (.str (nm a)) m))(v:((∀a l,b[e]? =some (.word a,l)->i.fresh a=false)->fK c q (aJ f g) j (bF b k e).2.2))
theorem fK.mono{c:Cs}{b:XK}{a:List B}{d e:G}{f:Nat}(g:fK c b a d f)(i:bb a d e):fK c b a e f:=λj k l m=>g j k (i.trans l) m
theorem qQ(e:Tx K d c):bW P w K d base 4 c.Q6 "take_new_name" ["self"] (qP c):=by
 refine fj e.R5 ["self","token"] λaI aK aL aM p nd q=>?_;obtain⟨r,g,R,S,T,l,U,rfl,z,W,X,A⟩:=q;have C:=n0 p;refine#[_,J (al 1 (b6 (E 0) e.Q2 (gy e) p bv (af aT)))
  (J (ba (lj (x6 C (ah 1) (ah 0))) (ae (qI e d7 rfl rfl rfl (p.mono (by decide)) (ah 1))) bC)
  (J (pK C (ah 0) (ah 1) le rfl)
  (ae (ax (ah 1))))),?_]
 refine#[z.obj,rfl,r,"name",g,R,S,T,l,[],U,rfl,z,W,λs t aN F a G=>?_,λs=>A λb H Z=>?_]
 .obtain⟨aO,H,I,ab,L⟩:=e3 s (by decide+kernel)
  obtain⟨b,rfl,N⟩:=zL ab;rw[L] at G;obtain⟨aW,j⟩:=G;obtain⟨m,u,n,O⟩:=a.names;refine#[j,e.Rt,e.Rj,a.obj,e.Q2,e.R0,g.nd,_,rfl,ew.k (k:=cL (nm b)) u,_,rfl,?_];rw[um];by_cases i:b∈m
  .rw[if_pos i]
   refine dm ?_;refine#[j,e.Rt,e.RJ,qJ λad ai am q=>?_];have o:l.fresh b=false:=by
    cases v:l.fresh b with
    |false=>rfl
    |true=>
     obtain⟨_,ao,as⟩:=qO.mp v;rcases(n b).mp i with f|f|f
     .exact absurd f ao
     .exact absurd f as
     .simp at f
   have:=A (λaY aZ Q=>by rw[I] at Q;cases Q;exact o) ad ai (F.trans (.of am));rw[L] at this;exact this q
  .rw[if_neg i]
   refine dk ?_;have o:=qO.mpr #[N,λf=>i ((n b).mpr (.inl f)),λf=>i ((n b).mpr (.inr (.inl f)))];have au:(m.map λb=>((cL (nm b):aV),V.bl true)).length<aq:=by
    rw[ag,O];have:=a.np;have:=a.nh;exact small (by simp;omega)
   refine#[a.obj,e.Q2,e.R0,j,e.Rt,e.Rj,g.nd,_,rfl,hy.k (k:=cL (nm b)) u au,?_];rw[x0 _ (by rw[um,if_neg i])];have aw:=dL j u (by intro f;cases f);refine#[(aa aw).trans j,e.Rt,e.Rj,X b H I o _ (F.put (by simp[aJ])) ?_];obtain⟨a0,a1,aB,a3,aD,a5,aF,a8⟩:=a.apart;have x:Same (less t (aJ r g)) (less (upd t g.nd (.dK ((m.map λb=>((cL (nm b):aV),V.bl true))++[(cL (nm b),V.bl true)]))) (aJ r g)):=((bb.refl _ t).put (by simp[aJ])).less;refine#[by rw[aa aB];exact a.obj,a.toks.same x,by rw[aa aD];exact a.parts,a.partsOf.same x,by rw[aa aF];exact a.Q9,a.Sg.same x,#[m++[b],by rw[Y];simp,λy=>?_,by rw[bq,O];rfl],by rw[aa a.ne2.symm];exact a.nums,a.ne1,a.ne2,a.wf,a.Vn,a.nw,?_,a.np,a.nh,by simp]
   .rw[c4,n y]
    simp[or_assoc]
   .intro y aG
    have:y=b:=by simpa using aG
    rw[this];exact#[N,(qO.mp o).2.1]
 .cases v:l.fresh b with
  |false=>rfl
  |true=>
   exfalso;apply s;rw[eD Z];rcases iB with⟨D,_⟩|⟨_,aH⟩
   .rw[(qO.mp v).1] at D;cases D
   .exact aH
theorem J8:¬("name":Str)= "end":=by decide+kernel
theorem J9:¬("number":Str)= "end":=by decide+kernel
theorem uq:¬(";":Str)= "end":=by decide+kernel
inductive oA(c:Cs)(q:List V)(j:G)(r:VK)(s:XK):Prop
 |mk(f:B)(g:Md)(a:cf)(k b:Nat)(i:an)(n:List bo)(o:Fp)(t:q=[.ref f])(u:RS c j f g a k b i n o)(v:b<=a.length)(x:(∀e l p,a[b]? =some (.word e,l)->dF.contains e=false->i.find e=some p-> ∀m:G,bb (aJ f g) j m->RS c m f g a k (b+1) i n o->r (.int p) m))(y:((∀e l,a[b]? =some (.word e,l)->i.find e=none)->fK c s (aJ f g) j (bF a k b).2.2))
theorem ur{a:an}{b:bo}{d:Nat}(c:a.find b=some d):b∈a.names:=by
 unfold ut at c;rcases J_.mp c with⟨D,e,_⟩
 exact e▸iv D
theorem uu(a:Tx K d c):bW P w K d base 4 c.Q6 "take_part" ["self"] (oA c):=by
 refine fj a.Sn ["self","token"] λY Z aa ab l nd m=>?_;obtain⟨C,n,F,G,H,f,I,L,rfl,e,N,O,q⟩:=m;have r:=n0 l;refine#[_,J (al 1 (b6 (E 0) a.Q2 (gy a) l bv (af aT)))
  (J (ba (lj (GS r (ah 1) (ah 0))) (ae (qI a d7 rfl rfl rfl (l.mono (by decide)) (ah 1))) bC)
  (ae (ax (pJ r (ah 0) (ah 1) (λ_ _=>rfl))))),?_]
 refine#[e.obj,rfl,C,"name",n,F,G,H,f,I,L,rfl,e,N,λo ad ai s j t=>?_,λo=>q λb u Q=>?_]
 .obtain⟨am,u,v,R,x⟩:=e3 o J8
  obtain⟨b,rfl,S⟩:=zL R;rw[x] at t;obtain⟨ao,p⟩:=t;have y:=j.nums;have z:dC (f.names.zipIdx.map λe=>((cL (nm e.1):aV),V.int (e.2:Nat))) (cL (nm b))=(f.find b).map λg=>V.int (g:Nat):=by
   rw[uo];unfold ut;congr 1;funext g;rw[f4]
  refine#[p,a.Rt,a.Rj,j.obj,a.Q2,a.RH,n.nu,_,rfl,ew.k (k:=cL (nm b)) y,_,rfl,?_];rw[z];cases i:f.find b with
  |none=>
   refine dm ?_;refine#[p,a.Rt,a.RJ,qJ λT U W m=>?_];have:=q (λas au A=>by rw[v] at A;cases A;exact i) T U (s.trans (.of W));rw[x] at this;exact this m
  |some g=>
   refine dk ?_;refine#[j.obj,a.Q2,a.RH,p,a.Rt,a.Rj,n.nu,_,rfl,?_,O b u g v S i _ s j];have:=ew.k (k:=cL (nm b)) y;rw[z,i] at this;exact this
 .cases i:f.find b with
  |none=>rfl
  |some g=>
   exfalso;apply o;rw[eD Q];rcases iB with⟨D,_⟩|⟨_,X⟩
   .rw[e.nw b (ur i)] at D;cases D
   .exact X
inductive zN(c:Cs)(q:List V)(i:G)(r:VK)(s:XK):Prop
 |mk(f:B)(lo j:Int)(g:Md)(b:cf)(k e:Nat)(n:an)(o:List bo)(p:Fp)(t:q=[.ref f,.int lo,.int j])(u:RS c i f g b k e n o p)(v:e<=b.length)(x:(∀a l,b[e]? =some (.num a,l)->lo<=a->(a:Int)<=j-> ∀m:G,bb (aJ f g) i m->RS c m f g b k (e+1) n o p->r (.int a) m))(y:((∀a l,b[e]? =some (.num a,l)-> ¬(lo<=a/\(a:Int)<=j))->fK c s (aJ f g) i (bF b k e).2.2))
theorem zO(a:Tx K d c):bW P w K d base 4 c.Q6 "take_number" ["self","least","most"] (zN c):=by
 refine fj a.Sc ["self","least","most","token"] λY Z m y n nd i=>?_;obtain⟨o,lo,f,z,A,C,F,G,H,I,rfl,p,L,N,q⟩:=i;refine#[_,J (al 3 (b6 (E 0) a.Q2 (gy a) n bv (af aT)))
  (J (ba (PW.pt (j2 (aZ ia (ah 3) (E 1) (aW _)) (j1 (aZ fW (ah 3) (E 2) (aW _))))) (ae (qI a d7 rfl rfl rfl (n.mono (by decide)) (ah 3))) bC)
  (ae (ax (ah 3)))),?_]
 refine#[p.obj,rfl,o,"number",z,A,C,F,G,H,I,rfl,p,L,λj O Q r R s=>?_,λj=>q λb t S=>?_]
 .obtain⟨aa,t,u,T,v⟩:=e3 j J9
  obtain⟨b,rfl⟩:=J5 T;rw[v] at s;obtain⟨ab,g⟩:=s;have bad:¬(lo<=b/\(b:Int)<=f)->zJ c y (pp K (b2 3) "place") {nx:=λ_ k=>m .non k,rt:=m} [some (.ref o),some (.int lo),some (.int f),some (.ref Q)] O:=λe=>by
   refine#[g,a.Rt,a.RJ,qJ λk U V i=>?_];have:=q (λad ai x=>by rw[u] at x;cases x;exact e) k U (r.trans (.of V));rw[v] at this;exact this i
  refine#[g,a.Rt,a.Rj,_,rfl,a9 (λD=>dm ?_) (λD=>?_)]
  .exact bad λe=>by have:=of_decide_eq_true D;omega
  refine#[g,a.Rt,a.Rj,_,rfl,a9 (λl=>?_) (λl=>?_)]
  .exact bad λe=>by have:=of_decide_eq_true l;omega
  have W:lo<=(b:Int):=by have:¬(b:Int)<lo:=λe=>D (decide_eq_true e);omega
  have X:(b:Int)<=f:=by have:¬f<(b:Int):=λe=>l (decide_eq_true e);omega
  exact#[g,a.Rt,a.Rj,N b t u W X _ r R]
 .exfalso
  apply j;rw[eD S];rfl
inductive ml(c:Cs)(p:List V)(g:G)(q:VK)(r:XK):Prop
 |mk(a k:B)(f:Md)(b:cf)(l e:Nat)(i:an)(j:bX)(m:Fp)(s:p=[.ref a,.ref k])(t:RS c g a f b l e i [j.name] m)(u:e<=b.length)(v:f5 c (less g (aJ a f)) k j)(x:Ma.ey i.parts.length j)(y:i.parts.length<64)(z:(∀n,b[e]? =some (.semi,n)-> ∀o:G,bb (aJ a f) g o->RS c o a f b l (e+1) (i.put j) [] {m with Rz:=m.Rz++[k]}->q .non o))(A:((∀n,¬b[e]? =some (.semi,n))->fK c r (aJ a f) g (bF b l e).2.2))
theorem uv(f:Tx K d c):bW P w K d base 4 c.Q6 "end_part" ["self","part"] (ml c):=by
 refine fj f.SH ["self","part"] λa5 a8 a9 ba H nd v=>?_;obtain⟨L,T,o,U,W,X,a,e,m,rfl,i,Z,ab,ad,be,ai,al⟩:=v;have am:=n0 H;refine#[_,J (aG (b6 (E 0) f.Q2 (gy f) H bv (af aT)))
  (J (pK am (ah 0) (ah 1) (a1 bd rfl f.Q_ bg (af (ah 0))) rfl)
  (ae (aG (cM cI dU ea dS (ah 0) (af (E 1)))))),?_]
 refine#[i.obj,rfl,L,";",o,U,W,X,a,_,m,rfl,i,Z,λx y bf N b bi=>?_,λx=>al λO z=>?_]
 .obtain⟨bk,O,ao,as,bl⟩:=e3 x uq
  obtain rfl:=uk as;have Q:=ab.same N.less;obtain⟨bm,bs,au,bt⟩:=id Q;have aw:=f_ _ _ _ _ au;have A:=b.parts;have p:=b.partsOf;have ax:=(b.pw e.name (by simp)).2;have aB:(a.names.zipIdx.map λi=>((cL (nm i.1):aV),V.int (i.2:Nat))).length<aq:=by
   rw[ag,oh];show(a.parts.map _).length<_;rw[ag];exact small (by omega)
  refine#[b.obj,f.Q2,f.RC,.inl (I.of A),b.obj,f.Q2,f.RH,aw,f.Q7,f.Ru,o.nu,_,rfl,hy.k (k:=cL (nm e.name)) b.nums aB,?_];have aD:dC (a.names.zipIdx.map λi=>((cL (nm i.1):aV),V.int (i.2:Nat))) (cL (nm e.name))=none:=by
   rw[uo];have:a.names.idxOf? e.name=none:=by
    cases z:a.names.idxOf? e.name with
    |none=>rfl
    |some g=>exact absurd (ur z) ax
   rw[this];rfl
  rw[x0 _ aD];obtain⟨aF,bx,bz,R,aH,C,bA,aI⟩:=b.apart;have S:(qR V.ref m.Rz).length=a.parts.length:=by rw[ag,p.1]
  rw[S];refine#[(aa R).trans b.obj,f.Q2,f.RC,.inl #[rfl,_,I.of ((aa C).trans A)],(aa C).trans A,(by rw[S];exact small (by omega)),?_];refine ai O ao _ ((N.put (by simp[aJ])).put (by simp[aJ])) ?_;have s:bb (aJ L o) y (upd (upd y o.nu (.dK ((a.names.zipIdx.map λi=>((cL (nm i.1):aV),V.int (i.2:Nat)))++[(cL (nm e.name),V.int (a.parts.length:Nat))]))) o.pl (.lst (qR V.ref m.Rz++[V.ref T]))):=((bb.refl _ y).put (by simp[aJ])).put (by simp[aJ]);have aK:=b.Q9;have aL:=b.Sg;obtain⟨aM,aN,aO,aW⟩:=b.names;have D:(a.put e).names=a.names++[e.name]:=by simp[mm,kH]
  have q:(a.put e).parts.length=a.parts.length+1:=by simp[mm]
  have aY:a.names.length=a.parts.length:=by simp[kH]
  refine#[?_,b.toks.same s.less,?_,?_,?_,aL.same s.less,#[aM,?_,λt=>?_,?_],?_,b.ne1,b.ne2,λg F l=>?_,λv aZ=>?_,λt n=>?_,by simp,by rw[q];omega,b.nh,by simp]
  .rw[aa aF,aa R];exact b.obj
  .rw[Y];simp
  .refine#[by rw[bq,p.1,q];rfl,λg a0 F r u=>?_]
   by_cases l:g<m.Rz.length
   .rw[cF l] at r
    have:(a.put e).parts[g]? =a.parts[g]? :=by simp[mm,cF (by rw[<-p.1];exact l)]
    rw[this] at u;exact(p.2 g a0 F r u).same s.less
   .have G:g=m.Rz.length:=by
     have:=(aC.mp r).1;simp at this;omega
    subst G;rw[dB (av _),ez] at r;have:(a.put e).parts[m.Rz.length]? =some e:=by
     rw[p.1];simp[mm]
    rw[this] at u;cases r;cases u;exact Q.same s.less
  .rw[aa b.ne1.symm,aa aI];exact aK
  .rw[aa aH.symm,aa b.ne2];exact aN
  .rw[aO t,D,c4]
   simp only[bw,gz,or_false];constructor
   .rintro(j|j|j)
    .exact .inl (.inl j)
    .exact .inr j
    .exact .inl (.inr j)
   .rintro((j|j)|j)
    .exact .inl j
    .exact .inr (.inr j)
    .exact .inr (.inl j)
  .rw[aW,q]
   show _=_+a.hoppers.length+0;simp;omega
  .rw[aa C.symm,Y,D,zP,br]
   simp[aY]
  .by_cases G:g<a.parts.length
   .have:(a.put e).parts[g]? =a.parts[g]? :=by simp[mm,cF G]
    rw[this] at l;exact b.wf g F l
   .have a3:g=a.parts.length:=by
     have:=(aC.mp l).1;rw[q] at this;omega
    subst a3;have:(a.put e).parts[a.parts.length]? =some e:=by simp[mm]
    rw[this] at l;cases l;exact ad
  .rw[q]
   have:=b.Vn v aZ;omega
  .rw[D,c4] at n
   rcases n with n|n
   .exact b.nw t n
   .have:t=e.name:=by simpa using n
    rw[this];exact(b.pw e.name (by simp)).1
 .apply x
  rw[eD z];rfl
abbrev rd(a:cf)(b:Nat)(c:qS)(d:an)(e:Nat):Except Nat an:=qT b c d (a.drop e)
theorem cV{a:cf}{c b:Nat}{d e:qS}{f g:an}{i:cw}{j:Nat}(k:a[b]? =some (i,j))(l:f.next d i=some (e,g)):rd a c d f b=rd a c e g (b+1):=by
 unfold rd;rw[mj k]
 conv=>lhs;unfold qT
 rw[l]
theorem d1{b:cf}{f c:Nat}{d:qS}{e:an}(j:∀g k,b[c]? =some (g,k)->e.next d g=none)(l:b[c]? =none-> ¬(d=.open_/\e.hoppers≠[])):rd b f d e c=.error (bF b f c).2.2:=by
 cases a:b[c]? with
 |none=>
  rw[ul a];unfold rd;rw[ue (Ka.mp a)];unfold qT;rw[if_neg (l a)]
 |some i=>
  rw[eD a];unfold rd;rw[mj a]
  conv=>lhs;unfold qT
  rw[j i.1 i.2 a];rfl
theorem iD{a:String}{b:bo}:gA a b=true↔b=eC a:=by unfold gA;exact beq_iff_eq
theorem jD(a:String):gA a (eC a)=true:=iD.mpr rfl
theorem RS.fresh{c:Cs}{e:G}{f:B}{g:Md}{j:cf}{k l:Nat}{m:an}{n:List bo}{o:Fp}(d:RS c e f g j k l m n o){i:B}(a:e i=none):i∉aJ f g:=by
 have p:=d.parts;have q:=d.Q9;obtain⟨s,r,_⟩:=d.names;intro b;simp only[aJ,bw,gz,or_false] at b;rcases b with b|b|b|b|b<;>rw[b] at a
 .rw[d.obj] at a;cases a
 .rw[p] at a;cases a
 .rw[q] at a;cases a
 .rw[r] at a;cases a
 .rw[d.nums] at a;cases a
inductive qU(c:Cs)(r:List V)(j:G)(n:VK)(s:XK):Prop
 |mk(g:B)(i:Str)(a5:Nat)(k:Md)(a:cf)(e b:Nat)(o:an)(p:List bo)(q:Fp)(t:r=[.ref g,.str i,.int a5])(u:RS c j g k a e b o p q)(v:b<=a.length)(x:¬i= "end")(y:(¬(bF a e b).1=i->n (.int 0) j))(z:(∀f l,(bF a e b).1=i->a[b+1]? =some (.num f,l)->f<a5-> ∀m:G,bb (aJ g k) j m->RS c m g k a e (b+2) o p q->n (.int f) m))(A:((bF a e b).1=i->(∀f l,a[b+1]? =some (.num f,l)-> ¬f<a5)->fK c s (aJ g k) j (bF a e (b+1)).2.2))
theorem Kb{a:cf}{d b:Nat}{c:Str}(e:(bF a d b).1=c)(f:¬c= "end"):b<a.length:=by
 obtain⟨i,j,g,_⟩:=e3 e f;exact(aC.mp g).1
theorem zQ(a:Tx K d c):bW P w K d base 5 c.Q6 "read_first" ["self","word","turn"] (qU c):=by
 refine fj a.Sk ["self","word","turn"] λO Q R S j nd k=>?_;obtain⟨l,m,a5,n,e,f,g,o,p,q,rfl,i,t,y,z,A,C⟩:=k;refine#[_,J (ba (sb (eJ (b6 (E 0) a.Q2 (kF a) (j.mono (by decide)) eh (af (E 1))))) (ae (ax ai)) bC)
  (J (aG (b6 (E 0) a.Q2 (gy a) (j.mono (by decide)) bv (af (E 1))))
  (ae (ax (b6 (E 0) a.Q2 (zO a) j bv (aL ai (aM hr (E 2) ai)))))),?_]
 refine#[i.obj,rfl,l,m,n,e,f,g,o,p,q,rfl,i,t,_,rfl,?_];by_cases b:(bF e f g).1=m
 .rw[decide_eq_true b]
  refine dk ?_;have F:=Kb b y;refine#[i.obj,rfl,l,m,n,e,f,g,o,p,q,rfl,i,t,λ_ T U u v V=>?_,λx=>absurd b x];refine#[v.obj,rfl,l,0,(a5:Int)-1,n,e,f,g+1,o,p,q,rfl,v,F,λG r s D W H I L=>?_,λk=>?_]
  .exact A G r b s (by omega) H (u.trans I) L
  .exact(C b λN r s x=>k N r s #[by omega,by omega]).mono u
 .rw[decide_eq_false b]
  exact dm (z b)
inductive uw(c:Cs)(ok:cf->Nat->Nat->an->Prop)(p:List V)(k:G)(q:VK)(r:XK):Prop
 |mk(g:B)(i:Md)(a:cf)(e f:Nat)(b:an)(l:Fp)(s:p=[.ref g])(t:RS c k g i a e f b [] l)(u:f<=a.length)(v:b.hoppers=[])(x:b.parts.length<64)(y:ok a e f b)(z:(∀(m:G)(j:Nat)(n:bX)(l:Fp),bb (aJ g i) k m->RS c m g i a e j (b.put n) [] l->j<=a.length->f<j->rd a e .open_ b f=rd a e .open_ (b.put n) j->q .non m))(A:(∀o,rd a e .open_ b f=.error o->fK c r (aJ g i) k o))
theorem ux{a:an}(b:a.hoppers=[])(c:a.parts.length<64):(a.hoppers.isEmpty&&decide (a.parts.length<zR))=true:=by
 rw[b];show(true&&decide (a.parts.length<64))=true;rw[uy];exact decide_eq_true c
theorem Kc{a:an}(b:a.hoppers=[])(c:a.parts.length<64):a.next .open_ (.word (eC "tray"))=some (.trayName,a):=by
 unfold jE;dsimp only;rw[ux b c,if_pos #[jD _,rfl]]
theorem Kd{d:an}(b:d.parts=[]){c:cw}(e:¬c=.word (eC "tray")):d.next .open_ c=none:=by
 cases c with
 |word f=>
  unfold jE;dsimp only;rw[if_neg (λa=>e (by rw[iD.mp a.1])),if_neg (λa=>a.2.2 b),if_neg (λa=>a.2.2 b),if_neg (λa=>a.2.1 b)]
 |num f=>rfl
 |semi=>rfl
 |bad=>rfl
theorem qV{c:an}{f S':qS}{g:bo->qS}(l:∀a,c.next f (.word a)=if c.fresh a=true then some (g a,c) else none)(i:∀b,(∀a,¬b=.word a)->c.next f b=none){j:cf}{k:Nat}(m:∀a d,j[k]? =some (.word a,d)->c.fresh a=false):∀b d,j[k]? =some (b,d)->c.next f b=none:=by
 intro b d n;cases b with
 |word a=>rw[l,m a d n];exact if_neg cC
 |num a=>exact i _ (λa e=>nomatch e)
 |semi=>exact i _ (λa e=>nomatch e)
 |bad=>exact i _ (λa e=>nomatch e)
theorem zS(j:Tx K d c):bW P w K d base 5 c.Q6 "read_tray" ["self"] (uw c λj f e a=>(bF j f e).1= "tray"\/a.parts=[]):=by
 refine fj j.Sy ["self"] λaW aY aZ a0 r nd l=>?_;obtain⟨n,o,k,f,e,a,s,rfl,F,X,G,H,Z,aa,t⟩:=l;refine#[_,J (aG (b6 (E 0) j.Q2 (gy j) (r.mono (by decide)) bv (af aT)))
  (ae (aG (b6 (E 0) j.Q2 (uv j) r bv (af (dq (n9 j) (dg aT (dg (dn (E 0) j.Q2 (qQ j) r bv) (eZ (a3 er) ai ai le)))))))),?_]
 have ab:¬("tray":Str)= "end":=by decide+kernel
 have I: "tray"∈dD:=by decide
 refine#[F.obj,rfl,n,"tray",o,k,f,e,a,[],s,rfl,F,X,λp a1 a5 L u a8=>?_,λp=>?_]
 .obtain⟨m,v,q,ad,_⟩:=e3 p ab
  obtain rfl:=iC I ad;have ah:=(aC.mp q).1;have x:rd k f .open_ a e=rd k f .trayName a (e+1):=cV q (Kc G H);refine#[u.obj,rfl,u.obj,rfl,n,o,k,f,e+1,a,s,rfl,u,ah,λb a9 N al O am y=>?_,λl=>?_]
  .have ao:=(aC.mp N).1
   have Q:rd k f .trayName a (e+1)=rd k f (.trayEnd b) a (e+2):=cV N (by show(if a.fresh b=true then some (QJ b,a) else none)=_;rw[if_pos al]);refine#[aR _,λR S=>?_];intro z T U as ba;refine#[z,T,_,rfl,rfl,Y,λau aw ax=>#[rfl,?_]];have A:Same O (upd O R (.lst [])):=.upd S;have C:=fI U as ax;have aB:=y.keep (A.trans C);have aD:=y.fresh S;have aF:=(y.keep A).fresh U;have aH:f5 c (less au (aJ n o)) z (.tray b):=#[T,R,cJ aw aF,cJ (C _ _ Y) aD];have V:=(L.trans am).trans (.of (A.trans C));refine#[n,z,o,k,f,e+2,a,.tray b,s,rfl,aB,ao,aH,#[(λ_ aI=>by cases aI),(λ_ _ _ i=>by cases i),(λ_ _ _ _ i=>by cases i)],H,λbb W aK aL aM=>?_,λl=>?_]
   .have aN:rd k f (.trayEnd b) a (e+2)=rd k f .open_ (a.put (.tray b)) (e+3):=cV W rfl
    exact aa aK (e+3) (.tray b) _ (V.trans aL) aM (aC.mp W).1 (by omega) (x.trans (Q.trans aN))
   .refine(t _ (x.trans (Q.trans (d1 (λm v D=>?_) (λ_ i=>nomatch i.1))))).mono V
    cases m with
    |semi=>exact absurd D (l v)
    |word _=>rfl
    |num _=>rfl
    |bad=>rfl
  .refine(t _ (x.trans (d1 (qV (S':=.open_) (g:=λb=>.trayEnd b) (λb=>rfl) (λm aO=>?_) l) (λ_ i=>nomatch i.1)))).mono L
   cases m with
   |word b=>exact absurd rfl (aO b)
   |num _=>rfl
   |semi=>rfl
   |bad=>rfl
 .rcases Z with i|i
  .exact absurd i p
  .refine t _ (d1 (λm v D=>Kd i λq=>p ?_) (λ_ aV=>aV.2 G))
   rw[eD D,q];exact kG I
theorem uz:¬("at":Str)= "end":=by decide+kernel
theorem bb.new{b:List B}{a c:G}{d:B}{f:HO}(g:bb b a c)(i:a d=none):bb b a (L2.upd c d f):=λj k e l=>by
 rw[aa (aK e i)];exact g j k e l
theorem bb.free{c:List B}{b d:G}{a:B}(f:bb c b d)(e:d a=none)(g:a∉c):b a=none:=by
 cases i:b a with
 |none=>rfl
 |some j=>rw[f a j i g] at e;cases e
theorem RS.own{c:Cs}{g i:G}{d e:B}{b:Md}{j:cf}{k q t:Nat}{l:an}{r u:List bo}{m:Fp}{o:HO}(a:RS c g d b j k q l r m)(n:RS c i d b j k t l u m)(v:bb (aJ d b) i g)(w:i e=none)(x:e∉aJ d b):RS c (L2.upd g e o) d b j k q l r m:=by
 have p:Same (less i (aJ d b)) (less (L2.upd g e o) (aJ d b)):=(v.new w).less;have f:∀s∈aJ d b,s≠e:=λs y z=>x (by rw[<-z];exact y);obtain⟨A,C,D⟩:=a.names;exact#[by rw[aa (f d (by simp[aJ]))];exact a.obj,n.toks.same p,by rw[aa (f b.pl (by simp[aJ]))];exact a.parts,n.partsOf.same p,by rw[aa (f b.hl (by simp[aJ]))];exact a.Q9,n.Sg.same p,#[A,by rw[aa (f b.nd (by simp[aJ]))];exact C,D],by rw[aa (f b.nu (by simp[aJ]))];exact a.nums,a.ne1,a.ne2,a.wf,a.Vn,a.nw,a.pw,a.np,a.nh,a.pn]
theorem oB{a:an}{d:bo}{b:Nat}(c:a.find d=some b):b<a.parts.length:=by
 unfold ut at c;rcases J_.mp c with⟨D,_,_⟩
 simpa[kH] using D
theorem Ke{a:bo}(c:dF.contains a=false){b:String}(d:b∈dD):gA b a=false:=by
 cases e:gA b a with
 |false=>rfl
 |true=>
  rw[iD.mp e,zK d] at c;cases c
theorem Kf{a:an}(b:a.hoppers=[])(c:a.parts.length<64)(d:a.parts≠[]):a.next .open_ (.word (eC "wheel"))=some (.wheelName,a):=by
 unfold jE;dsimp only;rw[ux b c,if_neg (λe=>by have:=e.1;revert this;decide+kernel),if_pos #[jD _,rfl,d]]
theorem Kg{a:an}(c:a.hoppers=[])(d:a.parts.length<64)(e:a.parts≠[]):a.next .open_ (.word (eC "gate"))=some (.gateName,a):=by
 unfold jE;dsimp only;rw[ux c d,if_neg (λb=>by have:=b.1;revert this;decide+kernel),if_neg (λb=>by have:=b.1;revert this;decide+kernel),if_pos #[jD _,rfl,e]]
theorem oC{b:an}{c w:bo}{a:List Nat}:b.next (.wheelWay c a) (.word w)=if gA "at" w=true then(if 2<=a.length then some (.wheelAt c a,b) else none) else if 4<=a.length then none else(b.find w).map λ(d:Nat)=>(.wheelWay c (a++[d]),b):=rfl
theorem Kh{e:G}{f:B}{g:Md}{i:cf}{j k:Nat}{b:an}{l:List bo}{m:Fp}(n:RS c e f g i j k b l m){a:bo}(d:dF.contains a=true):b.find a=none:=by
 cases o:b.find a with
 |none=>rfl
 |some p=>rw[n.nw a (ur o)] at d;cases d
theorem Ki(k:Tx K d c):bW P w K d base 6 c.Q6 "read_wheel" ["self"] (uw c λk i o e=>(bF k i o).1= "wheel"/\e.parts≠[]):=by
 have a0:bW P w K d base 1 c.Q6 "sees" ["self","kind"] (qM c):=kF k;have b9:bW P w K d base 3 c.Q6 "take" ["self","kind"] (qN c):=gy k;have b_:bW P w K d base 4 c.Q6 "take_new_name" ["self"] (qP c):=qQ k;have ca:bW P w K d base 4 c.Q6 "end_part" ["self","part"] (ml c):=uv k;have cc:bW P w K d base 4 c.Q6 "take_part" ["self"] (oA c):=uu k;have cd:bW P w K d base 5 c.Q6 "read_first" ["self","word","turn"] (qU c):=zQ k;have ce:d8 P w K d base 1 c.Part "Part" ["self","kind","name","ways","turn","first","told"] (cU c.Part ["kind","name","ways","turn","first","told"]):=n9 k;refine fj k.Si ["self","name","ways","told","first"] λaB c_ S ab F nd p=>?_;obtain⟨l,m,b,i,o,e,y,rfl,aD,cf,cg,a8,⟨ch,ci⟩,cj,ad⟩:=p;refine#[_,J (aG (b6 (E 0) k.Q2 b9 (F.mono (by decide)) bv (af aT)))
  (J (al 1 (dn (E 0) k.Q2 b_ (F.mono (by decide)) bv))
  (J (al 2 (a3 er))
  (J (i8 jF (PW.pt (j2 (aZ ia (a1 bd rfl k.Q_ bg (af (E 2))) (bR rfl k.Uc) (aW _)) (j1 (PW.pt (i5 (aZ ia (a1 bd rfl k.Q_ bg (af (E 2))) (bR rfl k.Um) (aW _)) (i4 (eJ (b6 (E 0) k.Q2 a0 (F.mono (by decide)) eh (af aT)))))))))
   (ae (aG (cM cI dU ea dS (E 2) (af (dn (E 0) k.Q2 cc (F.mono (by decide)) bv))))))
  (J (al 3 (b6 (E 0) k.Q2 a0 (F.mono (by decide)) eh (af aT)))
  (J (al 4 (b6 (E 0) k.Q2 cd F bv (aL aT (a1 bd rfl k.Q_ bg (af (E 2))))))
  (ae (aG (b6 (E 0) k.Q2 ca (F.mono (by decide)) bv (af (dq ce (dg aT (dg (E 1) (eZ (E 2) (a1 bd rfl k.Q_ bg (af (E 2))) (E 4) (E 3)))))))))))))),?_]
 have cl:¬("wheel":Str)= "end":=by decide+kernel
 have cm: "wheel"∈dD:=by decide
 have T: "at"∈dD:=by decide
 refine#[aD.obj,rfl,l,"wheel",m,b,i,o,e,[],y,rfl,aD,cf,λaH dd de aI ba df=>?_,λaH=>absurd ch aH];obtain⟨r,s,be,co,_⟩:=e3 aH cl;obtain rfl:=iC cm co;have cp:o+1<=b.length:=(aC.mp be).1;have bf:rd b i .open_ e o=rd b i .wheelName e (o+1):=cV be (Kf cg a8 ci);refine#[ba.obj,rfl,l,m,b,i,o+1,e,y,rfl,ba,cp,λn di bi cq dj bk bm=>?_,λp=>?_]
 rotate_left
 .refine(ad _ (bf.trans (d1 (qV (S':=.open_) (g:=λn=>.wheelWay n []) (λn=>rfl) (λr cr=>?_) p) (λ_ f=>nomatch f.1)))).mono aI
  cases r with
  |word n=>exact absurd rfl (cr n)
  |num _=>rfl
  |semi=>rfl
  |bad=>rfl
 have cs:o+2<=b.length:=(aC.mp bi).1;have ct:rd b i .open_ e o=rd b i (.wheelWay n []) e (o+2):=bf.trans (cV bi (by show(if e.fresh n=true then some (Kj n [],e) else none)=_;rw[if_pos cq]));refine#[aR _,λz ah=>?_];have U:z∉aJ l m:=bm.fresh ah;have bs:aB z=none:=(aI.trans bk).free ah U;refine#[λbt bz u=>∃(a:List Nat)(j:Nat),bz=[some (.ref l),some (.str (nm n)),some (.ref z),none,none]/\bb (aJ l m) aB u/\RS c u l m b i j e [n] y/\u z=some (.lst (L a))/\j<=b.length/\o<j/\rd b i .open_ e o=rd b i (.wheelWay n a) e j/\a.length<=4/\(∀w∈a,w<e.parts.length)/\bt=4-a.length,
  #[_,[],o+2,rfl,(aI.trans bk).trans (.of (.upd ah)),bm.keep (.upd ah),Y,cs,by omega,ct,aR _,(λ_ p=>by cases p),rfl],?_]
 rintro bt bz ai ⟨a,j,rfl,O,A,Q,V,dl,W,cu,bA,rfl⟩;have a5:(a.length<2\/(bF b i j).1= "name")->a.length<4->nq (xy K "list" xF (b2 2) (bx (gn c.Q6 "take_part" (oA c) [] ab (b2 0) c1) c1)) {nx:=λcA u=>∃bC,bC<4-a.length/\ ∃(a:List Nat)(j:Nat),cA=[some (.ref l),some (.str (nm n)),some (.ref z),none,none]/\bb (aJ l m) aB u/\RS c u l m b i j e [n] y/\u z=some (.lst (L a))/\j<=b.length/\o<j/\rd b i .open_ e o=rd b i (.wheelWay n a) e j/\a.length<=4/\(∀w∈a,w<e.parts.length)/\bC=4-a.length,rt:=S} [some (.ref l),some (.str (nm n)),some (.ref z),none,none] ai:=by
  intro bD dp;refine#[.inl #[rfl,_,I.of Q],A.obj,rfl,l,m,b,i,j,e,[n],y,rfl,A,V,λw pw kk bG cD bI dr aK cG=>?_,λp=>?_]
  .have cH:=aK _ _ Q U
   have cK:j+1<=b.length:=(aC.mp bG).1;have cN:rd b i (.wheelWay n a) e j=rd b i (.wheelWay n (a++[kk])) e (j+1):=cV bG (by rw[oC,if_neg (by rw[Ke cD T];exact cC),if_neg (by omega),bI];rfl);refine#[cH,(by rw[aF];exact small (by omega)),_,?_,a++[kk],j+1,rfl,(O.trans aK).new bs,?_,?_,cK,by omega,W.trans cN,?_,?_,rfl]
   .rw[bq];show 4-(a.length+1)<_;omega
   .exact cG.own aD (O.trans aK) bs U
   .rw[Y,d9]
   .rw[bq];show a.length+1<=4;omega
   .intro v X
    rcases c4.mp X with f|f
    .exact bA v f
    .have:v=kk:=by simpa using f
     rw[this];exact oB bI
  .refine(ad _ (W.trans (d1 (λr s q=>?_) (λ_ f=>nomatch f.1)))).mono O
   cases r with
   |num _=>rfl
   |bad=>rfl
   |semi=>
    show(if 2<=a.length then some (Kk,e.put (.wheel n a none)) else none)=none;rw[if_neg];intro f;rcases bD with x|x
    .omega
    .rw[eD q] at x
     exact absurd x (show¬(";":Str)= "name" by decide+kernel)
   |word v=>
    rw[oC,p v s q];by_cases f:gA "at" v=true
    .rw[if_pos f,if_neg]
     intro ds;rcases bD with x|x
     .omega
     .rw[eD q,iD.mp f] at x
      have bL:f9 (.word (eC "at"))= "name":=x;rw[kG T] at bL;exact absurd bL (show¬("at":Str)= "name" by decide+kernel)
    .rw[if_neg f]
     split<;>rfl
 have hl:((L a).length:Int)=(a.length:Nat):=by simp
 have bM:2<=a.length->(a.length<4-> ¬(bF b i j).1= "name")->j3 (i7 (gn c.Q6 "sees" (qM c) [] E0 (b2 0) (bx (tC (.str "at")) c1)) (gQ 3)) (j3 (i7 (gn c.Q6 "read_first" (qU c) [] ab (b2 0) (bx (tC (.str "at")) (bx (nK (lE K) (bx (b2 2) c1)) c1))) (gQ 4))
   (nq (gn c.Q6 "end_part" (ml c) [] ab (b2 0) (bx (hu c.Part (cU c.Part ["kind","name","ways","turn","first","told"]) [] E0 (bx (tC (.str "wheel")) (bx (b2 1) (bx (b2 2) (bx (nK (lE K) (bx (b2 2) c1)) (bx (b2 4) (bx (b2 3) c1))))))) c1)))) {nx:=λ_ u=>S .non u,rt:=S} [some (.ref l),some (.str (nm n)),some (.ref z),none,none] ai:=by
  intro am cO;have bP:∀(H:Option Nat)(C:Nat)(N:G),bb (aJ l m) ai N->RS c N l m b i C e [n] y->j<=C->C<=b.length->(∀t,H=some t->t<a.length)->
    (∀s,b[C]? =some (.semi,s)->rd b i (.wheelWay n a) e j=rd b i .open_ (e.put (.wheel n a H)) (C+1))->((∀s,¬b[C]? =some (.semi,s))->rd b i (.wheelWay n a) e j=.error (bF b i C).2.2)->
    nq (gn c.Q6 "end_part" (ml c) [] ab (b2 0) (bx (hu c.Part (cU c.Part ["kind","name","ways","turn","first","told"]) [] E0 (bx (tC (.str "wheel")) (bx (b2 1) (bx (b2 2) (bx (nK (lE K) (bx (b2 2) c1)) (bx (b2 4) (bx (b2 3) c1))))))) c1)) {nx:=λ_ u=>S .non u,rt:=S} [some (.ref l),some (.str (nm n)),some (.ref z),some (.bl H.isSome),some (.int (H.getD 0:Nat))] N:=by
   intro H C N Z aa dt cR cS rs cT;have bS:=Z _ _ Q U;refine#[aa.obj,rfl,.inl (I.of bS),?_];intro ao bT bU cW dw;refine#[ao,bT,_,rfl,rfl,Y,λbY bZ cX=>#[rfl,?_]];have as:Same N bY:=fI bU cW cX;have cY:=aa.keep as;have c0:ao∉aJ l m:=aa.fresh bU;rw[hl] at bZ;have c2:f5 c (less bY (aJ l m)) ao (.wheel n a H):=#[bT,z,cJ bZ c0,cJ (as _ _ bS) U];refine#[l,ao,m,b,i,C,e,.wheel n a H,y,rfl,cY,cR,c2,#[λv X=>bA v X,λdx dy dC q=>?_,(λ_ _ _ _ f=>by cases f)],a8,λaM R c3 c5 c6=>?_,λp=>?_]
   .cases q
    exact#[am,cu,cS]
   .exact cj c3 (C+1) _ _ (((O.trans Z).trans (.of as)).trans c5) c6 (aC.mp R).1 (by omega) (W.trans (rs aM R))
   .exact(ad _ (W.trans (cT p))).mono ((O.trans Z).trans (.of as))
  refine#[A.obj,rfl,l,"at",m,b,i,j,e,[n],y,rfl,A,V,?_];refine#[A.obj,rfl,.inl (I.of Q),l,"at",a.length,m,b,i,j,e,[n],y,(by rw[hl];rfl),A,V,uz,λb0=>?_,λt dH au b1 b3 N Z aa=>?_,λau p=>?_]
  .rw[decide_eq_false b0]
   refine bP none j ai (.refl _ _) A (av _) V (λt f=>by cases f) (λaM R=>cV R ?_) (λp=>d1 (λr s q=>?_) (λ_ f=>nomatch f.1))
   .show(if 2<=a.length then some (Kk,e.put (.wheel n a none)) else none)=_
    rw[if_pos am]
   .cases r with
    |num _=>rfl
    |bad=>rfl
    |semi=>exact absurd q (p s)
    |word v=>
     rw[oC];have f:¬gA "at" v=true:=λf=>b0 (by rw[eD q,iD.mp f];exact kG T);rw[if_neg f];by_cases b4:4<=a.length
     .rw[if_pos b4]
     .rw[if_neg b4]
      have X:dF.contains v=true:=by
       rcases iB (n:=v) with⟨x,_⟩|⟨_,x⟩
       .exact x
       .exact absurd (by rw[eD q];exact x) (cO (by omega))
      rw[Kh A X];rfl
  .obtain⟨r,c7,aN,aO,_⟩:=e3 au uz
   obtain rfl:=iC T aO;have aw:rd b i (.wheelWay n a) e j=rd b i (.wheelAt n a) e (j+1):=cV aN (by rw[oC,if_pos (jD _),if_pos am]);have b7:rd b i (.wheelAt n a) e (j+1)=rd b i (.wheelEnd n a t) e (j+2):=cV b1 (by show(if t<a.length then some (Kl n a t,e) else none)=_;rw[if_pos b3]);rw[decide_eq_true au];refine bP (some t) (j+2) N Z aa (by omega) (aC.mp b1).1 (λdJ f=>by cases f;exact b3) (λaM R=>aw.trans (b7.trans (cV R rfl))) (λp=>aw.trans (b7.trans (d1 (λr s q=>?_) (λ_ f=>nomatch f.1))));cases r with
   |semi=>exact absurd q (p s)
   |word _=>rfl
   |num _=>rfl
   |bad=>rfl
  .obtain⟨r,c7,aN,aO,_⟩:=e3 au uz
   obtain rfl:=iC T aO;have aw:rd b i (.wheelWay n a) e j=rd b i (.wheelAt n a) e (j+1):=cV aN (by rw[oC,if_pos (jD _),if_pos am]);refine(ad _ (W.trans (aw.trans (d1 (λr s q=>?_) (λ_ f=>nomatch f.1))))).mono O;cases r with
   |num t=>
    show(if t<a.length then some (Kl n a t,e) else none)=none;rw[if_neg (p t s q)]
   |word _=>rfl
   |semi=>rfl
   |bad=>rfl
 refine#[.inl (I.of Q),_,rfl,?_];rw[hl];refine a9 (λD=>dm #[_,λ_ _ f=>f,?_]) (λD=>?_)
 .have ax:a.length<2:=by have:=of_decide_eq_true D;omega
  exact a5 (.inl ax) (by omega)
 have ax:2<=a.length:=by have:¬((a.length:Nat):Int)<2:=λf=>D (decide_eq_true f);omega
 refine#[.inl (I.of Q),_,rfl,?_];rw[hl];refine a9 (λaV=>?_) (λaV=>?_)
 .have c8:a.length<4:=by have:=of_decide_eq_true aV;omega
  refine#[A.obj,rfl,l,"name",m,b,i,j,e,[n],y,rfl,A,V,_,rfl,?_];refine a9 (λaY=>#[_,λ_ _ f=>f,?_]) (λaY=>?_)
  .exact a5 (.inr (of_decide_eq_true aY)) c8
  .exact bM ax (λ_ f=>aY (decide_eq_true f))
 .refine dk (bM ax λf=>?_)
  exact absurd (decide_eq_true (show((a.length:Nat):Int)<4 by omega)) aV
theorem uA:¬("with":Str)= "end":=by decide+kernel
theorem zT{a:an}{b:bo}{c d:Nat}:a.next (.gateOpen b c d) (.word (eC "with"))=some (.gateWith b c d,a):=by
 have e:∀w,a.next (.gateOpen b c d) (.word w)=if gA "with" w=true then some (.gateWith b c d,a) else none:=λ_=>rfl
 rw[e,if_pos (jD _)]
theorem Km(m:Tx K d c):bW P w K d base 6 c.Q6 "read_gate" ["self"] (uw c λm j i a=>(bF m j i).1= "gate"/\a.parts≠[]):=by
 have bs:bW P w K d base 1 c.Q6 "sees" ["self","kind"] (qM c):=kF m;have bt:bW P w K d base 3 c.Q6 "take" ["self","kind"] (qN c):=gy m;have bz:bW P w K d base 4 c.Q6 "take_new_name" ["self"] (qP c):=qQ m;have bA:bW P w K d base 4 c.Q6 "end_part" ["self","part"] (ml c):=uv m;have bC:bW P w K d base 4 c.Q6 "take_part" ["self"] (oA c):=uu m;have bD:bW P w K d base 5 c.Q6 "read_first" ["self","word","turn"] (qU c):=zQ m;have bG:bW P w K d base 4 c.Q6 "take_number" ["self","least","most"] (zN c):=zO m;have bI:d8 P w K d base 1 c.Part "Part" ["self","kind","name","ways","turn","first","told"] (cU c.Part ["kind","name","ways","turn","first","told"]):=n9 m;refine fj m.Sz ["self","name","together","ways","told","first"] λas cA au bL x nd l=>?_;obtain⟨o,p,e,j,i,a,u,rfl,aw,bM,bP,ax,⟨bS,bT⟩,bU,H⟩:=l;refine#[_,J (aG (b6 (E 0) m.Q2 bt (x.mono (by decide)) bv (af aT)))
  (J (al 1 (dn (E 0) m.Q2 bz (x.mono (by decide)) bv))
  (J (al 2 (b6 (E 0) m.Q2 bG (x.mono (by decide)) bv (aL (bR rfl m.S4) (bR rfl m.S8))))
  (J (al 3 (a3 (af (dn (E 0) m.Q2 bC (x.mono (by decide)) bv))))
  (J (al 4 (b6 (E 0) m.Q2 bs (x.mono (by decide)) eh (af aT)))
  (J (al 5 (b6 (E 0) m.Q2 bD x bv (aL aT (E 2))))
  (ae (aG (b6 (E 0) m.Q2 bA (x.mono (by decide)) bv (af (dq bI (dg aT (dg (E 1) (eZ (E 3) (E 2) (E 5) (E 4)))))))))))))),?_]
 have bY:¬("gate":Str)= "end":=by decide+kernel
 have bZ: "gate"∈dD:=by decide
 have X: "with"∈dD:=by decide
 refine#[aw.obj,rfl,o,"gate",p,e,j,i,a,[],u,rfl,aw,bM,λZ cD cG O aB cH=>?_,λZ=>absurd bS Z];obtain⟨q,r,aD,b0,_⟩:=e3 Z bY;obtain rfl:=iC bZ b0;have b1:i+1<=e.length:=(aC.mp aD).1;have aF:rd e j .open_ a i=rd e j .gateName a (i+1):=cV aD (Kg bP ax bT);refine#[aB.obj,rfl,o,p,e,j,i+1,a,u,rfl,aB,b1,λb cK aH b3 cM aa aI=>?_,λl=>?_]
 rotate_left
 .refine(H _ (aF.trans (d1 (qV (S':=.open_) (g:=λb=>.gateSize b) (λb=>rfl) (λq b4=>?_) l) (λ_ n=>nomatch n.1)))).mono O
  cases q with
  |word b=>exact absurd rfl (b4 b)
  |num _=>rfl
  |semi=>rfl
  |bad=>rfl
 have b7:i+2<=e.length:=(aC.mp aH).1;have aK:rd e j .open_ a i=rd e j (.gateSize b) a (i+2):=aF.trans (cV aH (by show(if a.fresh b=true then some (QK b,a) else none)=_;rw[if_pos b3]));refine#[aI.obj,rfl,o,2,100,p,e,j,i+2,a,[b],u,rfl,aI,b7,λf cN aM cO cR cS aN aO=>?_,λl=>?_]
 rotate_left
 .refine(H _ (aK.trans (d1 (λq r s=>?_) (λ_ n=>nomatch n.1)))).mono (O.trans aa)
  cases q with
  |num f=>
   show(if 2<=f/\f<=100 then some (Kn b f,a) else none)=none;rw[if_neg];intro n;exact l f r s #[by omega,by omega]
  |word _=>rfl
  |semi=>rfl
  |bad=>rfl
 have b9:i+3<=e.length:=(aC.mp aM).1;have aV:rd e j .open_ a i=rd e j (.gateTo b f) a (i+3):=aK.trans (cV aM (by show(if 2<=f/\f<=100 then some (Kn b f,a) else none)=_;rw[if_pos #[by omega,by omega]]));refine#[aO.obj,rfl,o,p,e,j,i+3,a,[b],u,rfl,aO,b9,λA pw k aW cT aY C b_ aZ=>?_,λl=>?_]
 rotate_left
 .refine(H _ (aV.trans (d1 (λq r s=>?_) (λ_ n=>nomatch n.1)))).mono ((O.trans aa).trans aN)
  cases q with
  |word A=>
   show((a.find A).map λ(k:Nat)=>(Ko b f k,a))=none;rw[l A r s];rfl
  |num _=>rfl
  |semi=>rfl
  |bad=>rfl
 have ab:i+4<=e.length:=(aC.mp aW).1;have ad:rd e j .open_ a i=rd e j (.gateOpen b f k) a (i+4):=aV.trans (cV aW (by show((a.find A).map λ(k:Nat)=>(Ko b f k,a))=_;rw[aY];rfl));refine#[(by show 1<=aq;decide),λv a0=>?_];have a1:v∉aJ o p:=aZ.fresh a0;have ca:bb (aJ o p) as C:=((O.trans aa).trans aN).trans b_;have ah:Same C (upd C v (.lst [V.int k])):=.upd a0;have D:=aZ.keep ah;have a5:upd C v (.lst [V.int k]) v=some (.lst (L [k])):=Y;have Q:bb (aJ o p) as (upd C v (.lst [V.int k])):=ca.trans (.of ah);generalize upd C v (.lst [V.int k])=a8 at ah D a5 Q;have a9:∀(y:Option Nat)(t:Nat)(z:G),bb (aJ o p) a8 z->RS c z o p e j t a [b] u->i<t->t<=e.length->(∀l,y=some l->l<f)->
   (∀r,e[t]? =some (.semi,r)->rd e j (.gateOpen b f k) a (i+4)=rd e j .open_ (a.put (.gate b f k y)) (t+1))->((∀r,¬e[t]? =some (.semi,r))->rd e j (.gateOpen b f k) a (i+4)=.error (bF e j t).2.2)->
   nq (gn c.Q6 "end_part" (ml c) [] bL (b2 0) (bx (hu c.Part (cU c.Part ["kind","name","ways","turn","first","told"]) [] E0 (bx (tC (.str "gate")) (bx (b2 1) (bx (b2 3) (bx (b2 2) (bx (b2 5) (bx (b2 4) c1))))))) c1)) {nx:=λ_ cc=>au .non cc,rt:=au} [some (.ref o),some (.str (nm b)),some (.int f),some (.ref v),some (.bl y.isSome),some (.int (y.getD 0:Nat))] z:=by
  intro y t z I N cW cd ce rs cf;have cg:=I _ _ a5 a1;refine#[N.obj,rfl,?_];intro R ba bd ch cX;refine#[R,ba,_,rfl,rfl,Y,λbe ci cj=>#[rfl,?_]];have S:Same z be:=fI bd ch cj;have cl:R∉aJ o p:=N.fresh bd;have cm:f5 c (less be (aJ o p)) R (.gate b f k y):=#[ba,v,cJ ci cl,cJ (S _ _ cg) a1];refine#[o,R,p,e,j,t,a,.gate b f k y,u,rfl,N.keep S,cd,cm,#[λco cp=>?_,(λ_ _ _ n=>by cases n),λcY cq c0 T s=>?_],ax,λai F cr cs ct=>?_,λl=>?_]
  .have:co=k:=by simpa[Ma.ways] using cp
   rw[this];exact oB aY
  .cases s
   exact#[by omega,by omega,ce]
  .exact bU cr (t+1) _ _ (((Q.trans I).trans (.of S)).trans cs) ct (aC.mp F).1 (by omega) (ad.trans (rs ai F))
  .exact(H _ (ad.trans (cf l))).mono ((Q.trans I).trans (.of S))
 refine#[D.obj,rfl,o,"with",p,e,j,i+4,a,[b],u,rfl,D,ab,?_];refine#[D.obj,rfl,o,"with",f,p,e,j,i+4,a,[b],u,rfl,D,ab,uA,λbf=>?_,λl c2 U bi bk z I N=>?_,λU l=>?_]
 .rw[decide_eq_false bf]
  refine a9 none (i+4) a8 (.refl _ _) D (by omega) ab (λf n=>by cases n) (λai F=>cV F rfl) (λl=>d1 (λq r s=>?_) (λ_ n=>nomatch n.1));cases q with
  |num _=>rfl
  |bad=>rfl
  |semi=>exact absurd s (l r)
  |word A=>
   show(if gA "with" A=true then some (QL b f k,a) else none)=none;rw[if_neg];intro n;exact bf (by rw[eD s,iD.mp n];exact kG X)
 .obtain⟨q,cu,am,ao,_⟩:=e3 U uA
  obtain rfl:=iC X ao;have W:rd e j (.gateOpen b f k) a (i+4)=rd e j (.gateWith b f k) a (i+5):=cV am zT;have bm:rd e j (.gateWith b f k) a (i+5)=rd e j (.gateEnd b f k l) a (i+6):=cV bi (by show(if l<f then some (Kp b f k l,a) else none)=_;rw[if_pos bk]);rw[decide_eq_true U];refine a9 (some l) (i+6) z I N (by omega) (aC.mp bi).1 (λcq n=>by cases n;exact bk) (λai F=>W.trans (bm.trans (cV F rfl))) (λl=>W.trans (bm.trans (d1 (λq r s=>?_) (λ_ n=>nomatch n.1))));cases q with
  |semi=>exact absurd s (l r)
  |word _=>rfl
  |num _=>rfl
  |bad=>rfl
 .obtain⟨q,cu,am,ao,_⟩:=e3 U uA
  obtain rfl:=iC X ao;have W:rd e j (.gateOpen b f k) a (i+4)=rd e j (.gateWith b f k) a (i+5):=cV am zT;refine(H _ (ad.trans (W.trans (d1 (λq r s=>?_) (λ_ n=>nomatch n.1))))).mono Q;cases q with
  |num T=>
   show(if T<f then some (Kp b f k T,a) else none)=none;rw[if_neg (l T r s)]
  |word _=>rfl
  |semi=>rfl
  |bad=>rfl
def kI(a:an)(b:bo×Nat):an:={a with hoppers:=a.hoppers++[b]}
inductive Kq(c:Cs)(p:List V)(k:G)(q:VK)(r:XK):Prop
 |mk(g:B)(i:Md)(a:cf)(b e:Nat)(f:an)(l:Fp)(s:p=[.ref g])(t:RS c k g i a b e f [] l)(u:e<=a.length)(v:f.parts≠[])(x:f.hoppers.length<8)(y:((bF a b e).1= "hopper"\/(f.hoppers=[]/\(f.parts.length<64-> ¬(bF a b e).1= "tray"/\ ¬(bF a b e).1= "wheel"/\ ¬(bF a b e).1= "gate"))))(z:(∀(m:G)(j:Nat)(n:bo×Nat)(l:Fp),bb (aJ g i) k m->RS c m g i a b j (kI f n) [] l->j<=a.length->e<j->rd a b .open_ f e=rd a b .open_ (kI f n) j->q .non m))(A:(∀o,rd a b .open_ f e=.error o->fK c r (aJ g i) k o))
theorem Kr{b:an}(c:b.parts≠[])(d:b.hoppers.length<8):b.next .open_ (.word (eC "hopper"))=some (.hopName,b):=by
 unfold jE;dsimp only;rw[if_neg (λa=>by have:=a.1;revert this;decide+kernel),if_neg (λa=>by have:=a.1;revert this;decide+kernel),if_neg (λa=>by have:=a.1;revert this;decide+kernel),if_pos #[jD _,c,d]]
theorem zU(n:Tx K d c):bW P w K d base 5 c.Q6 "read_hopper" ["self"] (Kq c):=by
 have ab:bW P w K d base 3 c.Q6 "take" ["self","kind"] (qN c):=gy n;have aY:bW P w K d base 4 c.Q6 "take_new_name" ["self"] (qP c):=qQ n;have aZ:bW P w K d base 4 c.Q6 "take_part" ["self"] (oA c):=uu n;have a0:d8 P w K d base 1 c.RL "Hopper" ["self","name","part"] (cU c.RL ["name","part"]):=y4 n;refine fj n.Sf ["self","name","part"] λa1 b9 b_ ca D nd s=>?_;obtain⟨t,p,i,k,f,a,m,rfl,F,a3,a5,a8,a9,ba,G⟩:=s;refine#[_,J (aG (b6 (E 0) n.Q2 ab (D.mono (by decide)) bv (af aT)))
  (J (al 1 (dn (E 0) n.Q2 aY D bv))
  (J (al 2 (dn (E 0) n.Q2 aZ D bv))
  (J (aG (b6 (E 0) n.Q2 ab (D.mono (by decide)) bv (af aT)))
  (ae (aG (cM cI dU ea dS (ah 0) (af (dq a0 (aL (E 1) (E 2)))))))))),?_]
 have bd:¬("hopper":Str)= "end":=by decide+kernel
 have be: "hopper"∈dD:=by decide
 refine#[F.obj,rfl,t,"hopper",p,i,k,f,a,[],m,rfl,F,a3,λH cc cd L ad ce=>?_,λH=>?_]
 rotate_left
 .rcases a9 with l|⟨l,U⟩
  .exact absurd l H
  refine G _ (d1 (λr N x=>?_) (λ_ e=>e.2 l));cases r with
  |num _=>rfl
  |semi=>rfl
  |bad=>rfl
  |word b=>
   unfold jE;dsimp only;have O:∀Q,Q∈dD->gA Q b=true->(bF i k f).1=bH Q:=λQ bf e=>by rw[eD x,iD.mp e];exact kG bf
   have e6:∀{q:Bool},(a.hoppers.isEmpty&&decide (a.parts.length<zR))=true->a.parts.length<64:=λ{q}e=>by
    rw[bJ] at e;exact of_decide_eq_true e.2
   rw[if_neg (λe=>(U (e6 (q:=true) e.2)).1 (O "tray" (by decide) e.1)),if_neg (λe=>(U (e6 (q:=true) e.2.1)).2.1 (O "wheel" (by decide) e.1)),if_neg (λe=>(U (e6 (q:=true) e.2.1)).2.2 (O "gate" (by decide) e.1)),if_neg (λe=>H (O "hopper" (by decide) e.1))]
 obtain⟨r,N,ai,bi,_⟩:=e3 H bd;obtain rfl:=iC be bi;have bk:f+1<=i.length:=(aC.mp ai).1;have am:rd i k .open_ a f=rd i k .hopName a (f+1):=cV ai (Kr a5 a8);refine#[ad.obj,rfl,t,p,i,k,f+1,a,m,rfl,ad,bk,λb cf ao bl cg W as=>?_,λs=>?_]
 rotate_left
 .refine(G _ (am.trans (d1 (qV (S':=.open_) (g:=λb=>.hopTo b) (λb=>rfl) (λr bm=>?_) s) (λ_ l=>nomatch l.1)))).mono L
  cases r with
  |word b=>exact absurd rfl (bm b)
  |num _=>rfl
  |semi=>rfl
  |bad=>rfl
 have bs:f+2<=i.length:=(aC.mp ao).1;have au:rd i k .open_ a f=rd i k (.hopTo b) a (f+2):=am.trans (cV ao (by show(if a.fresh b=true then some (QM b,a) else none)=_;rw[if_pos bl]));refine#[as.obj,rfl,t,p,i,k,f+2,a,[b],m,rfl,as,bs,λR pw o aw ch ax ci aB aD=>?_,λs=>?_]
 rotate_left
 .refine(G _ (au.trans (d1 (λr N x=>?_) (λ_ l=>nomatch l.1)))).mono (L.trans W)
  cases r with
  |word R=>
   show((a.find R).map λ(X:Nat)=>(Ks b X,a))=none;rw[s R N x];rfl
  |num _=>rfl
  |semi=>rfl
  |bad=>rfl
 have bt:f+3<=i.length:=(aC.mp aw).1;have aF:rd i k .open_ a f=rd i k (.hopEnd b o) a (f+3):=au.trans (cV aw (by show((a.find R).map λ(X:Nat)=>(Ks b X,a))=_;rw[ax];rfl));refine#[aD.obj,rfl,t,";",p,i,k,f+3,a,[b],m,rfl,aD,bt,λZ aH cj bx S cl=>?_,λZ=>?_]
 rotate_left
 .refine(G _ (aF.trans (d1 (λr N x=>?_) (λ_ l=>nomatch l.1)))).mono ((L.trans W).trans aB)
  cases r with
  |semi=>exact absurd (by rw[eD x];rfl) Z
  |word _=>rfl
  |num _=>rfl
  |bad=>rfl
 obtain⟨r,cm,aI,bz,_⟩:=e3 Z uq;obtain rfl:=uk bz;have bA:f+4<=i.length:=(aC.mp aI).1;have bC:rd i k .open_ a f=rd i k .open_ (kI a (b,o)) (f+4):=aF.trans (cV aI rfl);have bD:bb (aJ t p) a1 aH:=((L.trans W).trans aB).trans bx;refine#[S.obj,n.Q2,n.RE,.inl #[rfl,_,I.of S.Q9],?_];intro u aK aM bG co;refine#[u,aK,_,rfl,rfl,Y,λy bI bL=>#[rfl,?_]];have aN:Same aH y:=fI aM bG bL;have j:=S.keep aN;have bM:u∉aJ t p:=S.fresh aM;have bP:jx c (less y (aJ t p)) u (b,o):=#[aK,cJ bI bM];have v:=j.Sg;have bR:(m.has.map V.ref).length<aq:=by rw[ag,v.1];exact small (by omega)
 refine#[j.Q9,bR,?_];obtain⟨cp,bS,cq,cr,cs,ct,bT,bU⟩:=j.apart;have z:bb (aJ t p) y (upd y p.hl (.lst (m.has.map V.ref++[V.ref u]))):=(bb.refl _ y).put (by simp[aJ]);obtain⟨bY,bZ,b0,b1⟩:=j.names;refine ba _ (f+4) (b,o) {m with has:=m.has++[u]} ((bD.trans (.of aN)).trans z) ?_ bA (by omega) bC;refine#[by rw[aa bS];exact j.obj,j.toks.same z.less,by rw[aa j.ne1];exact j.parts,j.partsOf.same z.less,by rw[Y];simp,#[?_,λA aO aV b2 b3=>?_],#[bY,by rw[aa bT.symm];exact bZ,λe=>?_,?_],by rw[aa bU.symm];exact j.nums,j.ne1,j.ne2,j.wf,λs b4=>?_,j.nw,by simp,j.np,?_,by simp]
 .show(m.has++[u]).length=(a.hoppers++[(b,o)]).length
  rw[bq,bq,v.1];rfl
 .have T:(a.hoppers++[(b,o)])[A]? =some aV:=b3
  have C:(m.has++[u])[A]? =some aO:=b2;by_cases aW:A<m.has.length
  .rw[cF aW] at C
   rw[cF (by rw[<-v.1];exact aW)] at T;exact(v.2 A aO aV C T).same z.less
  .have b7:A=m.has.length:=by
    have:=(aC.mp C).1;simp at this;omega
   subst b7;rw[dB (av _),ez] at C;rw[dB (by rw[v.1];exact av _),v.1,ez] at T;cases C;cases T;exact bP.same z.less
 .rw[b0 e]
  show _↔e∈a.names\/e∈(a.hoppers++[(b,o)]).map (λF=>F.1)\/e∈[];rw[br,c4];simp only[bE,im,bw,gz,or_false]
 .show _=a.parts.length+(a.hoppers++[(b,o)]).length+0
  rw[b1,bq];simp;omega
 .rcases c4.mp b4 with l|l
  .exact j.Vn s l
  .have:s=(b,o):=by simpa using l
   rw[this];exact oB ax
 .show(a.hoppers++[(b,o)]).length<=8
  rw[bq];show a.hoppers.length+1<=8;omega
def zV(a:cf)(b c:Nat):Prop:=¬(bF a b c).1= "tray"/\ ¬(bF a b c).1= "wheel"/\ ¬(bF a b c).1= "gate"
inductive Kt(c:Cs)(p:List V)(l:G)(q:VK)(r:XK):Prop
 |mk(e:B)(i:Md)(a:cf)(b j:Nat)(f:an)(m:Fp)(s:p=[.ref e])(t:RS c l e i a b j f [] m)(u:j<=a.length)(v:f.parts=[])(x:f.hoppers=[])(y:(∀(n:G)(k:Nat)(g:an)(m:Fp),bb (aJ e i) l n->RS c n e i a b k g [] m->k<=a.length->g.parts≠[]->g.hoppers=[]->rd a b .open_ f j=rd a b .open_ g k->(g.parts.length<64->zV a b k)->q .non n))(z:(∀o,rd a b .open_ f j=.error o->fK c r (aJ e i) l o))
theorem Ku(b:Tx K d c):bW P w K d base 7 c.Q6 "read_parts" ["self"] (Kt c):=by
 refine fj b.Sm ["self"] λW aL aM aN r nd n=>?_;obtain⟨f,j,a,g,N,s,z,rfl,X,ao,Y,Z,aa,C⟩:=n;refine#[_,J (aG (dn (E 0) b.Q2 (zS b) (r.mono (by decide)) bv))
  (ae (i8 jF (aZ ia (a1 bd rfl b.Q_ bg (af (ah 0))) (bR rfl b.Uf) (aW _))
   (ae (ba (eJ (b6 (E 0) b.Q2 (kF b) (r.mono (by decide)) eh (af aT)))
    (ae (aG (dn (E 0) b.Q2 (zS b) (r.mono (by decide)) bv)))
    (ae (ba (eJ (b6 (E 0) b.Q2 (kF b) (r.mono (by decide)) eh (af aT)))
     (ae (aG (dn (E 0) b.Q2 (Ki b) r bv)))
     (ae (ba (eJ (b6 (E 0) b.Q2 (kF b) (r.mono (by decide)) eh (af aT)))
      (ae (aG (dn (E 0) b.Q2 (Km b) r bv)))
      (ae wv))))))))),?_]
 have ab:∀(s:an)(F:bX),(s.put F).parts≠[]:=λs F m=>by simp[mm] at m
 refine#[X.obj,rfl,f,j,a,g,N,s,z,rfl,X,ao,Z,(by rw[Y];decide),.inr Y,λaO k F as au aw ax aV aB=>?_,λt n=>C t n];refine#[λad ai al=>∃(o:an)(k:Nat)(z:Fp),ai=[some (.ref f)]/\bb (aJ f j) W al/\RS c al f j a g k o [] z/\k<=a.length/\o.parts≠[]/\o.hoppers=[]/\rd a g .open_ s N=rd a g .open_ o k/\ad=a.length-k,
  #[_,s.put F,k,as,rfl,au,aw,ax,ab _ _,Z,aB,rfl],?_]
 rintro ad ai O ⟨i,l,p,rfl,u,e,q,H,v,x,rfl⟩;have aD:((qR V.ref p.Rz).length:Int)=(i.parts.length:Nat):=by rw[ag,e.partsOf.1]
 refine#[e.obj,b.Q2,b.RC,.inl (I.of e.parts),_,rfl,?_];rw[aD];refine a9 (λD=>#[_,λ_ _ m=>m,?_]) (λD=>?_)
 .have Q:i.parts.length<64:=by have:=of_decide_eq_true D;omega
  have e6:∀(A:G)(y:Nat)(L:bX)(R:Fp),bb (aJ f j) O A->RS c A f j a g y (i.put L) [] R->y<=a.length->l<y->rd a g .open_ i l=rd a g .open_ (i.put L) y->
    ∃am,am<a.length-l/\ ∃(o:an)(k:Nat)(z:Fp),[some (V.ref f)]=[some (.ref f)]/\bb (aJ f j) W A/\RS c A f j a g k o [] z/\k<=a.length/\o.parts≠[]/\o.hoppers=[]/\rd a g .open_ s N=rd a g .open_ o k/\am=a.length-k:=λA y L R aF aH aI aY aK=>
   #[_,by omega,i.put L,y,R,rfl,u.trans aF,aH,aI,ab _ _,v,x.trans aK,rfl]
  refine#[e.obj,rfl,f,"tray",j,a,g,l,i,[],p,rfl,e,q,_,rfl,a9 (λS=>?_) (λS=>?_)]
  .exact#[e.obj,rfl,f,j,a,g,l,i,p,rfl,e,q,v,Q,.inl (of_decide_eq_true S),e6,λt n=>(C t (x.trans n)).mono u]
  refine#[e.obj,rfl,f,"wheel",j,a,g,l,i,[],p,rfl,e,q,_,rfl,a9 (λT=>?_) (λT=>?_)]
  .exact#[e.obj,rfl,f,j,a,g,l,i,p,rfl,e,q,v,Q,#[of_decide_eq_true T,H],e6,λt n=>(C t (x.trans n)).mono u]
  refine#[e.obj,rfl,f,"gate",j,a,g,l,i,[],p,rfl,e,q,_,rfl,a9 (λU=>?_) (λU=>?_)]
  .exact#[e.obj,rfl,f,j,a,g,l,i,p,rfl,e,q,v,Q,#[of_decide_eq_true U,H],e6,λt n=>(C t (x.trans n)).mono u]
  .exact aa O l i p u e q H v x λ_=>#[λm=>S (decide_eq_true m),λm=>T (decide_eq_true m),λm=>U (decide_eq_true m)]
 .refine aa O l i p u e q H v x λm=>?_
  exact absurd (decide_eq_true (by omega)) D
inductive Kv(c:Cs)(p:List V)(l:G)(q:VK)(r:XK):Prop
 |mk(f:B)(j:Md)(a:cf)(b g:Nat)(e:an)(m:Fp)(s:p=[.ref f])(t:RS c l f j a b g e [] m)(u:g<=a.length)(v:e.parts≠[])(x:e.hoppers=[])(y:(e.parts.length<64->zV a b g))(z:(∀(n:G)(k:Nat)(i:an)(m:Fp),bb (aJ f j) l n->RS c n f j a b k i [] m->k<=a.length->i.parts≠[]->i.hoppers≠[]->rd a b .open_ e g=rd a b .open_ i k->(i.hoppers.length<8-> ¬(bF a b k).1= "hopper")->q .non n))(A:(∀o,rd a b .open_ e g=.error o->fK c r (aJ f j) l o))
theorem Kw(a:Tx K d c):bW P w K d base 6 c.Q6 "read_hoppers" ["self"] (Kv c):=by
 refine fj a.R8 ["self"] λW aF aH aI x nd m=>?_;obtain⟨g,n,e,i,C,j,y,rfl,F,X,G,H,Y,L,N⟩:=m;refine#[_,J (aG (dn (E 0) a.Q2 (zU a) x bv))
  (ae (i8 jF (PW.pt (i5 (aZ ia (a1 bd rfl a.Q_ bg (af (ah 0))) (bR rfl a.Tg) (aW _)) (i4 (eJ (b6 (E 0) a.Q2 (kF a) (x.mono (by decide)) eh (af aT))))))
   (ae (aG (dn (E 0) a.Q2 (zU a) x bv))))),?_]
 have O:∀(j:an)(p:bo×Nat),(kI j p).hoppers≠[]:=λj p k=>by simp[kI] at k
 refine#[F.obj,rfl,g,n,e,i,C,j,y,rfl,F,X,G,(by rw[H];decide),.inr #[H,Y],λaK l p Z aa ab ad aL ai=>?_,λz m=>N z m];refine#[λQ R S=>∃(q:an)(l:Nat)(y:Fp),R=[some (.ref g)]/\bb (aJ g n) W S/\RS c S g n e i l q [] y/\l<=e.length/\q.parts≠[]/\q.hoppers≠[]/\rd e i .open_ j C=rd e i .open_ q l/\Q=e.length-l,
  #[_,kI j p,l,Z,rfl,aa,ab,ad,G,O _ _,ai,rfl],?_]
 rintro Q R T ⟨f,r,o,rfl,s,b,t,u,U,v,rfl⟩;have al:((qR V.ref o.has).length:Int)=(f.hoppers.length:Nat):=by rw[ag,b.Sg.1]
 refine#[b.obj,a.Q2,a.RE,.inl (I.of b.Q9),_,rfl,?_];rw[al];refine a9 (λD=>?_) (λD=>?_)
 .have am:f.hoppers.length<8:=by have:=of_decide_eq_true D;omega
  refine#[b.obj,rfl,g,"hopper",n,e,i,r,f,[],o,rfl,b,t,_,rfl,a9 (λA=>#[_,λ_ _ k=>k,?_]) (λA=>?_)]
  .exact#[b.obj,rfl,g,n,e,i,r,f,o,rfl,b,t,u,am,.inl (of_decide_eq_true A),λaM ao as au aw ax aB aN aD=>#[_,by omega,kI f as,ao,au,rfl,s.trans aw,ax,aB,u,O _ _,v.trans aD,rfl],λz m=>(N z (v.trans m)).mono s]
  .exact L T r f o s b t u U v λ_ k=>A (decide_eq_true k)
 .refine dk (L T r f o s b t u U v λk=>?_)
  exact absurd (decide_eq_true (by omega)) D
def gB:an:=#[[],[]]
inductive Kx(c:Cs)(l:List V)(b:G)(m:VK)(q:XK):Prop
 |mk(e n j:B)(f:ay)(r:l=[.ref e,.ref j])(s:b e=some (.ins c.Q6 n []))(t:b j=some (.lst (L (nb f))))(u:f.length<=90000)(v:∀(g:G)(a:Md)(o:Fp),(∀i k,b i=some k->i≠e->g i=some k)->(∀p∈[a.pl,a.hl,a.nd,a.nu],b p=none)->RS c g e a (kE f) f.length 0 gB [] o->m .non g)
theorem Ky(j:Tx K d c):d8 P w K d base 5 c.Q6 "Reader" ["self","text"] (Kx c):=by
 refine kv j.Vd j.Vi ["self","text"] λba bb bd be bf nd m=>?_;obtain⟨g,p,aF,aG,rfl,aI,aL,aM,aN⟩:=m;refine#[_,J (cj (E 0) (aH (J2 j) (af (E 1))) rfl) (J (cj (E 0) ai rfl) (J (cj (E 0) (a3 er) rfl) (J (cj (E 0) (a3 er) rfl) (J (cj (E 0) s4 rfl) (ae (cj (E 0) s4 rfl)))))),?_];refine#[aF,aG,rfl,aL,aM,λA tl aO s bi t=>?_];have C:=s _ _ aI;refine#[g,c.Q6,p,_,rfl,C,j.Q2,j.RY,(by show 0<1000;decide),?_];refine#[g,c.Q6,p,_,rfl,Y,j.Q2,j.RV,(by show 1<1000;decide),?_];refine#[aR _,λF Q=>?_];have u:=aK Y Q;refine#[g,c.Q6,p,_,rfl,(aa u).trans Y,j.Q2,j.RC,(by show 2<1000;decide),?_];refine#[aR _,λhl R=>?_];have z:=aK Y R;refine#[g,c.Q6,p,_,rfl,(aa z).trans Y,j.Q2,j.RE,(by show 3<1000;decide),?_];intro nd S;have H:=aK Y S;refine#[g,c.Q6,p,_,rfl,(aa H).trans Y,j.Q2,j.R0,(by show 4<1000;decide),?_];intro I T;have U:=aK Y T;refine#[g,c.Q6,p,_,rfl,(aa U).trans Y,j.Q2,j.RH,(by show 5<1000;decide),?_];have bk:∀{r:G}{k:HO}{a:B},upd r g k a=none->r a=none/\a≠g:=λ{r k a}m=>by
  by_cases b:a=g
  .rw[b,Y] at m;cases m
  .rw[aa b] at m;exact#[m,b]
 have e:∀{r:G}{k:HO}{q a:B},upd r q k a=none->r a=none/\a≠q:=λ{r k q a}m=>by
  by_cases b:a=q
  .rw[b,Y] at m;cases m
  .rw[aa b] at m;exact#[m,b]
 obtain⟨v,_⟩:=e Q;obtain⟨v,_⟩:=e v;obtain⟨D,_⟩:=e R;obtain⟨D,V⟩:=e D;obtain⟨D,_⟩:=e D;obtain⟨D,_⟩:=e D;obtain⟨l,_⟩:=e S;obtain⟨l,aT⟩:=e l;obtain⟨l,_⟩:=e l;obtain⟨l,aV⟩:=e l;obtain⟨l,_⟩:=e l;obtain⟨l,_⟩:=e l;obtain⟨i,_⟩:=e T;obtain⟨i,W⟩:=e i;obtain⟨i,_⟩:=e i;obtain⟨i,aW⟩:=e i;obtain⟨i,_⟩:=e i;obtain⟨i,aY⟩:=e i;obtain⟨i,_⟩:=e i;obtain⟨i,_⟩:=e i;have keep:∀n k,A n=some k->n≠g-> ∀(X Z ab ad ah al am ao as au:HO),upd (upd (upd (upd (upd (upd (upd (upd (upd (upd A g X) g Z) F ab) g ad) hl ah) g al) nd am) g ao) I as) g au n=some k:=λn k b o X Z ab ad ah al am ao as au=>by
  rw[aa o,aa (aK b i),aa o,aa (aK b l),aa o,aa (aK b D),aa o,aa (aK b v),aa o,aa o];exact b
 refine aN _ #[p,tl,F,hl,nd,I] #[aO,[],[]] (λn k b o=>keep n k (s _ _ b) o _ _ _ _ _ _ _ _ _ _) (λa aw=>?_) ?_
 .simp only[bw,gz,or_false] at aw
  rcases aw with a|a|a|a<;>rw[a]
  .exact s.free v
  .exact s.free D
  .exact s.free l
  .exact s.free i
 have ax:∀n k,A n=some k->n≠g->n∉aJ g #[p,tl,F,hl,nd,I]:=λn k b o a=>by
  simp only[aJ,bw,gz,or_false] at a;rcases a with a|a|a|a|a
  .exact o a
  .rw[a,v] at b;cases b
  .rw[a,D] at b;cases b
  .rw[a,l] at b;cases b
  .rw[a,i] at b;cases b
 refine#[?_,#[?_,t.len,λL q aZ x a0=>?_],?_,#[rfl,λL q aB x=>by simp at x],?_,#[rfl,λL q aB x=>by simp at x],#[[],?_,λaD=>by simp[gB,kH],rfl],?_,V.symm,W.symm,λbl aB a1=>by simp[gB] at a1,λm a5=>by simp[gB] at a5,λaD N=>by simp[gB,kH] at N,λaD N=>by simp at N,aR _,aR _,aR _]
 .rw[Y]
  refine congrArg (λa=>some (HO.ins c.Q6 p a)) ?_;rw[cH (f:= "tokens") (fs:=[]) (ks:=[]) rfl (by decide+kernel),cH (f:= "spot") (ks:=["tokens"]) rfl (by decide+kernel),cH (f:= "parts") (ks:=["tokens","spot"]) rfl (by decide+kernel),cH (f:= "hoppers") (ks:=["tokens","spot","parts"]) rfl (by decide+kernel),cH (f:= "names") (ks:=["tokens","spot","parts","hoppers"]) rfl (by decide+kernel),cH (f:= "numbers") (ks:=["tokens","spot","parts","hoppers","names"]) rfl (by decide+kernel)];rfl
 .have y:=dL t.lst C (by intro a;cases a)
  exact cJ (keep _ _ t.lst y _ _ _ _ _ _ _ _ _ _) (ax _ _ t.lst y)
 .obtain⟨a8,O⟩:=t.at_ L q aZ x a0
  have y:=dL O C (by intro a;injection a with bm bs a9;cases a9);exact#[a8,cJ (keep _ _ O y _ _ _ _ _ _ _ _ _ _) (ax _ _ O y)]
 .rw[aa u.symm,aa aY.symm,aa u.symm,aa aV.symm,aa u.symm,aa V.symm,aa u.symm,Y];rfl
 .rw[aa z.symm,aa aW.symm,aa z.symm,aa aT.symm,aa z.symm,Y];rfl
 .rw[aa H.symm,aa W.symm,aa H.symm,Y];rfl
 .rw[aa U.symm,Y];rfl
inductive Kz(c:Cs)(l:List V)(e:G)(m:VK)(n:XK):Prop
 |mk(f:B)(b:ay)(o:l=[.ref f])(p:e f=some (.lst (L (nb b))))(q:b.length<=90000)(r:(∀g,bQ b=.ok g-> ∀(a:G)(i:B),Same e a->bM c a i g->m (.ref i) a))(s:(∀j,bQ b=.error j-> ∀(a:G)(k:B),Same e a->a k=some (.xd [("place",.int j)])->n (.ref c.RP) (some k) a))
theorem zW(b:Tx K d c):ao P w K d base 8 "read_board" ["text"] (Kz c):=by
 refine bL b.Ua ["text","reader"] λu cj cl a9 t nd i=>?_;obtain⟨Z,f,rfl,z,ba,bd,be⟩:=i;refine#[_,J (al 1 (dq (Ky b) (af (E 0))))
  (J (aG (b6 (E 1) b.Q2 (gy b) (t.mono (by decide)) bv (af aT)))
  (J (aG (b6 (E 1) b.Q2 (gy b) (t.mono (by decide)) bv (af aT)))
  (J (aG (dn (E 1) b.Q2 (Ku b) t bv))
  (J (aG (dn (E 1) b.Q2 (Kw b) (t.mono (by decide)) bv))
  (J (aG (b6 (E 1) b.Q2 (gy b) (t.mono (by decide)) bv (af aT)))
  (ae (ax (dq (tS b) (aL (ah 1) (ah 1)))))))))),?_]
 refine(λg v A ab cm=>?_);have bf:upd (upd u v (.own g)) g (.ins c.Q6 v []) Z=some (.lst (L (nb f))):=by rw[aa (aK z A),aa (aK z ab)];exact z
 refine#[g,v,Z,f,rfl,Y,bf,ba,λC e F bi bk ad=>#[rfl,?_]];have bl:=fI A ab bi;have bm:∀m o,u m=some o->m∉aJ g e:=λm o a j=>by
  have h0:∀j∈[e.pl,e.hl,e.nd,e.nu],u j=none:=λn bs=>by
   have D:=bk n bs;by_cases ai:n=g
   .rw[ai,Y] at D;cases D
   .rw[aa ai] at D
    by_cases am:n=v
    .rw[am,Y] at D;cases D
    .rw[aa am] at D;exact D
  rcases bw.mp j with j|j
  .rw[j,A] at a;cases a
  .rw[h0 m j] at a;cases a
 have same:∀{p:G},bb (aJ g e) C p->Same u p:=λH m o a=>H m o (bl m o a) (bm m o a);have flt:∀(k:Nat)(p:G),bQ f=.error k->bb (aJ g e) C p->fK c a9 (aJ g e) p k:=λk p i H bt bx bz bA=>be k i bt bx (same (H.trans bz)) bA;have as: "board"∈dD:=by decide
 have bne:¬("board":Str)= "end":=by decide+kernel
 have au:bQ f=rd (kE f) f.length .begin_ gB 0:=rfl;refine#[ad.obj,rfl,g,"board",e,_,f.length,0,gB,[],F,rfl,ad,aR _,λI p co aw aB _=>?_,λI=>?_]
 rotate_left
 .refine flt _ C (au.trans (d1 (λr N a=>?_) (λ_ j=>nomatch j.1))) (.refl _ _)
  cases r with
  |word aD=>
   show(if gA "board" aD=true then some (QN,gB) else none)=none;rw[if_neg];intro j;exact I (by rw[eD a,iD.mp j];exact kG as)
  |num _=>rfl
  |semi=>rfl
  |bad=>rfl
 obtain⟨r,N,aF,bC,_⟩:=e3 I bne;obtain rfl:=iC as bC;have aH:=au.trans (cV aF (by
  have a:∀w,gB.next .begin_ (.word w)=if gA "board" w=true then some (.begun,gB) else none:=λ_=>rfl
  rw[a,if_pos (jD _)]))
 refine#[aB.obj,rfl,g,";",e,_,f.length,1,gB,[],F,rfl,aB,(aC.mp aF).1,λO bD cp bF aI _=>?_,λO=>?_]
 rotate_left
 .refine flt _ p (aH.trans (d1 (λr N a=>?_) (λ_ j=>nomatch j.1))) aw
  cases r with
  |semi=>exact absurd (by rw[eD a];rfl) O
  |word _=>rfl
  |num _=>rfl
  |bad=>rfl
 obtain⟨r,cq,aM,bG,_⟩:=e3 O uq;obtain rfl:=uk bG;have Q:=aH.trans (cV aM rfl);have aN:=aw.trans bF;refine#[aI.obj,rfl,g,e,_,f.length,2,gB,F,rfl,aI,(aC.mp aM).1,rfl,rfl,λbI bM bP bR bS aO bT bU bW aV bY=>?_,λk i=>flt k bD (Q.trans i) aN];have aW:=aN.trans bS;refine#[aO.obj,rfl,g,e,_,f.length,bM,bP,bR,rfl,aO,bT,bU,bW,bY,λbZ R q S b0 aY b1 b2 T b3 b4=>?_,λk i=>flt k bI (Q.trans (aV.trans i)) aW];have aZ:=aW.trans b0;have a0:=Q.trans (aV.trans b3);refine#[aY.obj,rfl,g,"end",e,_,f.length,R,q,[],S,rfl,aY,b1,λx b7 cr b9 l _=>?_,λx=>?_]
 rotate_left
 .refine flt _ bZ (a0.trans (d1 (λr N a=>?_) (λa=>absurd (by rw[ul a]) x))) aZ
  cases r with
  |num _=>rfl
  |semi=>rfl
  |bad=>rfl
  |word aD=>
   unfold jE;dsimp only;have no:(q.hoppers.isEmpty&&decide (q.parts.length<zR))=false:=by
    cases i:q.hoppers with
    |nil=>exact absurd i T
    |cons _ _=>rfl
   rw[no,if_neg (λn=>nomatch n.2),if_neg (λn=>nomatch n.2.1),if_neg (λn=>nomatch n.2.1),if_neg];rintro⟨b_,cs,ca⟩;exact b4 ca (by rw[eD a,iD.mp b_];exact kG (s:= "hopper") (by decide))
 have cc:(kE f)[R]? =none:=by
  cases a:(kE f)[R]? with
  |none=>rfl
  |some n=>rw[eD a] at x;exact absurd x J6
 have cd:bQ f=.ok q:=a0.trans (by
  unfold rd;rw[ue (Ka.mp cc)];unfold qT;rw[if_pos #[rfl,T]])
 have ce:=aZ.trans b9;refine#[l.obj,b.Q2,b.RC,l.obj,b.Q2,b.RE,λa1 a3 cf cg ct=>?_];refine#[a1,a3,_,rfl,rfl,Y,λa5 ch ci=>#[rfl,?_]];have y:=fI cf cg ci;have a8:Same (less b7 (aJ g e)) a5:=λm o a=>y m o (f_ _ _ m o a);refine bd q cd a5 a1 ((same ce).trans y) #[a3,e.pl,e.hl,S.Rz,S.has,ch,#[y _ _ l.parts,l.partsOf.1,λU V k W X=>(l.partsOf.2 U V k W X).same a8],#[y _ _ l.Q9,l.Sg.1,λU V k W X=>(l.Sg.2 U V k W X).same a8],#[l.wf,l.Vn,#[?_,l.np],#[?_,l.nh]]]
 .cases i:q.parts with
  |nil=>exact absurd i b2
  |cons _ _=>simp
 .cases i:q.hoppers with
  |nil=>exact absurd i T
  |cons _ _=>simp
theorem qW{a:Cx}{b:List Expr}{d:Nat}{c:hk}{n:Nat}{e:aU}(K:aj)(hK:a.K=K)(f:a.calm=true)(g:nr a b c)(i:(j4 b a.env).length=n:=by rfl)(j:(j4 b a.env).findIdx? (·.1)=none:=by rfl):PG a (.Tuple b d e) (wx K n c):=by
 subst hK;exact h8 f g i j
theorem KA{K:aj}{m:B}{c:List V}{x:TG}{y:TT}{z:TE}{j:List Nat}{n:L2.St}{A:G}{o:B}{C:G->Prop}(d:Nat->G->Prop)(h0:d 0 (upd A o (.lst [])))(hl:∀a b,a<=c.length->d a b->I K b m c)
  (F:∀a e k b,c[a]? =some e->b k=none->d a b->x (.ref k) (aY n j) (upd b k (.tup [.int (a:Nat),e])) λf p=>aY f j=aY n j/\y f p λq l=>
   if q=true then z f l λr s=>L2.fg o r s (d (a+1)) else d (a+1) l)(H:∀b,d c.length b->C b):
  ∃t:Nat->Nat->G->Prop,(∃g,t 0 g (upd A o (.lst [])))/\ ∀a g b,t a g b->
   ((lQ K m).stop a b/\C b)\/((lQ K m).go a b/\ ∃u:G->Prop,(∀i,u i-> ∃D,D<g/\t (a+1) D i)/\ ∀e i,(lQ K m).Ve a b e i->x e (aY n j) i λf p=>aY f j=aY n j/\y f p λq l=>
    if q=true then z f l λr s=>L2.fg o r s (u) else u l):=by
 refine#[λa g b=>g=c.length-a/\a<=c.length/\d a b,#[c.length,by simp,aR _,h0],?_];rintro a g b ⟨rfl,J,v⟩;have w:=hl a b J v;by_cases E:a<c.length
 .refine .inr #[#[c,c[a],w,by simp[E]],d (a+1),λi L=>#[c.length-(a+1),by omega,rfl,E,L],?_]
  rintro Q i ⟨k,e,rfl,N,rfl,O⟩;exact F a e k b (O c w) N v
 .have P:a=c.length:=by omega
  subst P;exact .inl #[#[c,w,av _],H b v]
def gC(a:an)(b:Str)(c:Nat):List Nat:=(aS c).filter λd=>decide ((a.parts[d]?).map fp=some b)
theorem zX(b:an)(c:Str)(a:Nat):gC b c (a+1)=gC b c a++if(b.parts[a]?).map fp=some c then[a] else[]:=by
 unfold gC;rw[f6,oD];congr 1;by_cases d:(b.parts[a]?).map fp=some c
 .rw[if_pos d,f7,if_pos (decide_eq_true d),KC]
 .rw[if_neg d,f7,if_neg (by simpa using d),KC]
theorem qX(a:an):gC a "tray" a.parts.length=a.trays:=by
 unfold gC QO;refine zY λc f=>?_;unfold eQ;cases d:a.parts[c]? with
 |none=>rfl
 |some e=>
  cases e with
  |tray b=>exact decide_eq_true rfl
  |wheel b g i=>exact decide_eq_false (by show¬some ("wheel":Str)=some "tray";decide+kernel)
  |gate b j k d=>exact decide_eq_false (by show¬some ("gate":Str)=some "tray";decide+kernel)
inductive uB(c:Cs)(j:List V)(a:G)(k:VK)(l:XK):Prop
 |mk(g:B)(i:Str)(b:an)(m:j=[.ref g,.str i])(n:bM c a g b)(o:∀(e:G)(f:B),Same a e->a f=none->e f=some (.lst (L (gC b i b.parts.length)))->k (.ref f) e)
theorem qY(e:Tx K d c):ao P w K d base 1 "parts_of_kind" ["board","kind"] (uB c):=by
 refine bS e.Te ["board","kind","number","part"] λt R S T U nd F=>?_;obtain⟨V,i,l,rfl,⟨W,G,hl,X,Z,f⟩,H⟩:=F;have u:=f.parts.len;have ab:=f.wf.np;refine#[_,ae (ax (gW (own:=[("number",2),("part",3)]) rfl nd (s9 rfl e.Sv (af (ah 0))) (cS (N:=["board","kind","number","part"]) (sc:=bi B_) (by decide+kernel))
  (λ_ _ _ _ _=>qW (n:=2) K rfl rfl (c0 (aO 2) (c0 (aO 3) gj))) (λ_ _ _ _ _=>Go (aZ dO (l9 K rfl (E 3) rfl) (E 1) (aW _))) (λ_ _ _ _ _=>E 2))),?_]
 refine#[f.obj,e.Q5,e.Q3,G,_,rfl,I.of f.parts.lst,λv m=>?_];refine KA (λa b=>Same t b/\b v=some (.lst (L (gC l i a)))) #[.upd m,Y] (λa b _ ⟨J,_⟩=>I.of (J _ _ f.parts.lst)) ?_ ?_
 .rintro a ad x b O y ⟨k,g⟩
  obtain⟨z,A,rfl⟩:=bt O;obtain⟨o,p⟩:=c7 u A;obtain⟨ai,al,Q,am⟩:=f.parts.at_ a z o A p;have as:=(aC.mp p).1;have q:Same t (upd b x (.tup [.int (a:Nat),.ref z])):=k.put (k.free y);have C:=aK g y;refine#[x,_,rfl,a8.of Y,rfl,_,_,rfl,_,_,rfl,rfl,rfl,?_];refine#[q _ _ Q,e.Q7,e.Q8,rfl,_,rfl,?_];rw[uj];have j:=zX l i a;rw[p] at j;refine a9 (λD=>?_) (λD=>?_)
  .have r:=of_decide_eq_true D
   rw[if_pos (by rw[<-r];rfl)] at j;refine#[_,(aa C).trans g,?_,q.put m,?_]
   .rw[aF]
    have:(gC l i a).length<=(aS a).length:=qZ ..;rw[fm] at this;exact small (by omega)
   .rw[Y,j,<-d9]
  .have r:¬fp o=i:=λs=>D (decide_eq_true s)
   rw[if_neg (show¬(some o).map fp=some i from λs=>r (b5 s)),eH] at j;exact#[q,by rw[aa C,j];exact g]
 .rintro b ⟨k,g⟩
  rw[ag,u] at g;exact H b v k m g
theorem KD{a:Nat}:∀c∈lT 10 a,c.toNat<256:=by
 intro c b;have D:c.toNat∈gq a:=by unfold gq;exact bK.mpr #[c,b,rfl]
 have:=Hi a c.toNat D;omega
theorem uC(a:Nat):bH (toString ((a:Nat):Int))=nm (kJ a):=by
 refine nZ ?_;rw[Hg];show gq a=(kJ a).map eA;unfold gq kJ;rw[dG];refine gu λc b=>?_;have:=KD c b;show c.toNat=(q0 c.toNat).toNat;rw[KG];omega
def dH(a:cw):V:=.str (nm a.text)
theorem zZ{a:an}{b:Nat}{c:bX}(d:a.parts[b]? =some c):a.nameAt b=.word c.name:=by
 unfold QP kH;rw[aE,a6,d];rfl
inductive z0(c:Cs)(k:List V)(a:G)(l:VK)(n:XK):Prop
 |mk(i j:B)(b:an)(e:bX)(m:Nat)(o:k=[.ref i,.ref j])(p:bM c a i b)(q:f5 c a j e)(r:b.parts[m]? =some e)(s:∀(f:G)(g:B),Same a f->a g=none->f g=some (.lst ((b.toksOf e).map dH))->l (.ref g) f)
theorem uD{a:Nat}(c:a<=1000):((a:Nat):Int).natAbs.log2<1920:=by
 rw[z1];rcases z2 a with b|b
 .rw[b];decide
 .have:a.log2<10:=(z3 (by omega)).mpr (by omega)
  omega
theorem kK(a:String)(b:a∈dD):dH (du a)=.str (bH a):=by
 show V.str (nm (eC a))=_;rw[jz a b]
theorem KH(e:Tx K d c):ao P w K d base 1 "part_tokens" ["board","part"] (z0 c):=by
 refine bS e.TQ ["board","part","names","way","tokens","word"] λA a0 a1 a5 a8 nd C=>?_;obtain⟨a9,bb,m,z,i,rfl,⟨bd,be,hl,bf,bk,D⟩,⟨bl,aB,n,Z⟩,ab,F⟩:=C;have R:=D.wf.part i z ab;have bm:i<m.parts.length:=(aC.mp ab).1;have bs:=D.wf.np;refine#[_,J (fh (i:=2) (own:=[("way",3)]) rfl nd rfl rfl (fi rfl rfl rfl rfl) (b9 (ah 1)) (cS (N:=["board","part","names","way","tokens","word"]) (sc:=bi Ca) (by decide+kernel)) (λ_ _ _ _ _=>aO 3) (λ_ _ _ _ _=>c2) (λ_ _ _ _ _=>l9 K rfl (dR (r:=kj K) lA (l9 K rfl (E 0) rfl) (E 3) (λ_ _=>rfl)) rfl))
  (J (ba (aZ dO (ah 1) aT (aW _)) (ae (ax (a3 (aL aT (ah 1))))) bC)
  (J (ba (aZ dO (ah 1) aT (aW _))
   (J (al 4 (aM f0 (a3 (aL aT (ah 1))) (E 2))) (ae (al 5 aT)))
   (J (al 4 (aM f0 (a3 (bD aT (ah 1) (pz wP rfl e.VC KI (af (ah 1))))) (E 2))) (ae (al 5 aT))))
  (J (ba (eJ (ah 1)) (ae (aG (cM cI lH oe lG (E 4) (af (a3 (aL (E 5) (pz wP rfl e.VC KI (af (ah 1))))))))) bC)
  (ae (ax (E 4)))))),?_]
 have bx:(Ma.ways z).length<=4:=by
  cases z with
  |tray f=>exact aR _
  |wheel f g aD=>exact(R.wheel f g aD rfl).2.1
  |gate f k t C=>exact(by decide:1<=4)
 refine#[n,e.Q7,e.Re,I.of Z,λG ad=>?_];refine eW (K:=K) (a:=aB) (xs:=L (Ma.ways z)) (λk S=>Same A S/\S G=some (.lst (((Ma.ways z).take k).map λi=>dH (m.nameAt i)))) #[.upd ad,Y] (λk S _ ⟨aH,_⟩=>I.of (aH _ _ Z)) ?_ ?_
 .rintro k bz S ai ⟨l,u⟩
  obtain⟨H,am,rfl⟩:=bt ai;have bA:H<i:=R.below H (a7 am);obtain⟨pw,as⟩:=Ma.gw (b:=m) (show H<m.parts.length by omega);obtain⟨aI,aJ,bF,bG,aN,bI⟩:=D.parts.get as;refine#[rfl,c3 #[l _ _ D.obj,e.Q5,e.Q3,I.of (l _ _ D.parts.lst),aw (j:=H) (v:=V.ref aI) (by rw[a6,aJ];rfl),l _ _ aN,e.Q7,e.Ru,_,u,?_,l.put ad,?_]]
  .rw[ag,ck]
   exact small (by omega)
  .rw[Y,cp am,br]
   show _=some (HO.lst (_++[dH (m.nameAt H)]));rw[zZ as];rfl
 rintro T ⟨l,u⟩;rw[aF,dY] at u;refine#[l _ _ n,e.Q7,e.Q8,rfl,_,rfl,?_];cases z with
 |tray f=>
  refine iz ?_;refine#[l _ _ n,e.Q7,e.Ru,(by show 2<=aq;decide),λg hl=>?_];refine F _ g (l.trans (.upd hl)) (l.free hl) ?_;rw[Y];show _=some (HO.lst [dH (du "tray"),dH (.word f)]);rw[kK "tray" (by decide)];rfl
 |wheel f o au=>
  have aV:=R.wheel f o au rfl;refine fH (show¬("wheel":Str)= "tray" by decide+kernel) ?_;refine#[l _ _ n,e.Q7,e.Q8,rfl,_,rfl,iz ?_];refine#[l _ _ n,e.Q7,e.Ru,(by show 2<=aq;decide),λp x=>?_];have W:G≠p:=aK u x;refine#[p,G,_,_,rfl,rfl,Y,(aa W).trans u,?_,λg hl=>?_]
  .rw[ag]
   exact dc (small (by show 2+o.length<=100000;omega))
  have q:Same A (upd (upd T p (.lst [V.str "wheel",V.str (nm f)])) g (.lst ([V.str "wheel",V.str (nm f)]++(o.map λi=>dH (m.nameAt i))))):=(l.trans (.upd x)).trans (.upd hl);have y:A g=none:=(l.trans (.upd x)).free hl;have s:upd (upd T p (.lst [V.str "wheel",V.str (nm f)])) g (.lst ([V.str "wheel",V.str (nm f)]++(o.map λi=>dH (m.nameAt i)))) g=some (.lst ((du "wheel":: .word f::o.map m.nameAt).map dH)):=by
   rw[Y,bE,bE,dG,kK "wheel" (by decide)];rfl
  refine#[q _ _ n,e.Q7,e.R4,_,rfl,?_];cases au with
  |none=>
   refine dk (F _ g q y (s.trans ?_));show _=some (HO.lst ((du "wheel":: .word f::(o.map m.nameAt++[])).map dH));rw[eH]
  |some k=>
   have ai:=aV.2.2 k rfl;refine dm ?_;refine#[.inl #[rfl,_,I.of s],q _ _ n,e.Q7,e.RG,_,rfl,uD (by show k<=1000;omega),(by show 2<=aq;decide),λO Q=>?_];have X:g≠O:=aK s Q;refine#[g,O,_,_,rfl,rfl,(aa X).trans s,Y,?_,(F _ g ((q.trans (.upd Q)).put y) y ?_)]
   .rw[ag,bV,bV,ag]
    exact dc (small (by show o.length+1+1+2<=100000;omega))
   .rw[Y]
    show some (HO.lst ((du "wheel":: .word f::o.map m.nameAt).map dH++[V.str "at",V.str (bH (toString ((k:Nat):Int)))]))=some (HO.lst ((du "wheel":: .word f::(o.map m.nameAt++[du "at",.num k])).map dH));rw[uC];simp only[bE,br,im,z4];rw[kK "at" (by decide)];rfl
 |gate f k t C=>
  have aY:=R.gate f k t C rfl;refine fH (show¬("gate":Str)= "tray" by decide+kernel) ?_;refine#[l _ _ n,e.Q7,e.Q8,rfl,_,rfl,fH (show¬("gate":Str)= "wheel" by decide+kernel) ?_];refine#[l _ _ n,e.Q7,e.Ru,l _ _ n,e.Q7,e.Rg,_,rfl,uD (by show k<=1000;omega),(by show 3<=aq;decide),λp x=>?_];have W:G≠p:=aK u x;refine#[p,G,_,_,rfl,rfl,Y,(aa W).trans u,(by show 3+1<=aq;decide),λg hl=>?_];have q:Same A (upd (upd T p (.lst [V.str "gate",V.str (nm f),V.str (bH (toString ((k:Nat):Int)))])) g (.lst ([V.str "gate",V.str (nm f),V.str (bH (toString ((k:Nat):Int)))]++[dH (m.nameAt t)]))):=(l.trans (.upd x)).trans (.upd hl);have y:A g=none:=(l.trans (.upd x)).free hl;have s:upd (upd T p (.lst [V.str "gate",V.str (nm f),V.str (bH (toString ((k:Nat):Int)))])) g (.lst ([V.str "gate",V.str (nm f),V.str (bH (toString ((k:Nat):Int)))]++[dH (m.nameAt t)])) g=some (.lst ([du "gate",.word f,.num k,m.nameAt t].map dH)):=by
   rw[Y,uC];simp only[bE,im,z4,F4];rw[kK "gate" (by decide)];rfl
  refine#[q _ _ n,e.Q7,e.R4,_,rfl,?_];cases C with
  |none=>exact dk (F _ g q y s)
  |some U=>
   have bL:=aY.2.2 U rfl;refine dm ?_;refine#[.inl #[rfl,_,I.of s],q _ _ n,e.Q7,e.RG,_,rfl,uD (by show U<=1000;omega),(by show 2<=aq;decide),λO Q=>?_];have X:g≠O:=aK s Q;refine#[g,O,_,_,rfl,rfl,(aa X).trans s,Y,(by show 4+2<=aq;decide),(F _ g ((q.trans (.upd Q)).put y) y ?_)];rw[Y];show some (HO.lst ([du "gate",.word f,.num k,m.nameAt t].map dH++[V.str "with",V.str (bH (toString ((U:Nat):Int)))]))=some (HO.lst (([du "gate",.word f,.num k,m.nameAt t]++[du "with",.num U]).map dH));rw[uC,br];simp only[bE,im];rw[kK "with" (by decide)];rfl
def Nm(a:an):Prop:=(∀b∈a.parts,b.name.length<=16)/\ ∀c∈a.hoppers,c.1.length<=16
def fq(a:List cw):ay:=jG (a.map kL)++[59,10]
theorem uE(a:an):a.text=(a.lines.map fq).flatten:=by
 unfold QQ;rw[List.flatMap_def];rfl
theorem z5:∀d:List ay,(jG d).map eA=ji [32] (d.map λa=>a.map eA)
 |[]=>rfl
 |[a]=>rfl
 |a::b::c=>by
  show(a++32::jG (b::c)).map eA=a.map eA++([32]++ji [32] ((b::c).map λa=>a.map eA));rw[br,bE,z5 (b::c)];rfl
theorem z6(a:List ay):lS (bH " ") (a.map nm)=nm (jG a):=by
 rw[tb];refine nZ ?_;rw[pL,show tl (bH " ")=[32] by decide+kernel,dG];exact(z5 a).symm
theorem KJ(a:List ay):lS (bH "") (a.map nm)=nm a.flatten:=by
 rw[tb];refine nZ ?_;rw[pL,show tl (bH "")=[] by decide+kernel,t_,dG];show(a.map λb=>b.map eA).flatten=a.flatten.map eA;rw[List.map_flatten]
theorem KL(a:List cw):nm (jG (a.map kL))++bH ";\n"=nm (fq a):=by
 refine nZ ?_;rw[ta,show tl (bH ";\n")=[59,10] by decide+kernel];show(jG _).map eA++[59,10]=(fq a).map eA;unfold fq;rw[br];rfl
theorem q4(a:ay):(nm a).length=a.length:=by
 rw[Hf];show(a.map eA).length=_;rw[ag]
theorem z7:∀{d:List ay}{b:Nat},(∀a∈d,a.length<=b)->(jG d).length<=d.length*(b+1)
 |[],b,_=>aR _
 |[a],b,c=>by
  show a.length<=1*(b+1);have:=c a (a4 ..);omega
 |a::e::r,b,c=>by
  show(a++32::jG (e::r)).length<=_;rw[bq,bV];have D:=c a (a4 ..);have i:=z7 λf g=>c f (bj _ g);rw[bV,sO];omega
theorem uF{l:List Nat}{k:Nat}(b:∀a∈l,a<=k):l.sum<=l.length*k:=by
 induction l with
 |nil=>exact aR _
 |cons c l d=>
  rw[hJ,bV,sO];have:=b c (a4 ..);have:=d λa e=>b a (bj _ e);omega
theorem uG{n:Nat}(b:n<1000):(kJ n).length<=3:=by
 have h0:∀a,a<1000->(gq a).length<=3:=λa d=>by
  by_cases D:a<10
  .rw[pM D];simp
  .rw[tc (by omega),bq]
   by_cases c:a/10<10
   .rw[pM c];simp
   .rw[tc (by omega),bq,pM (by omega)];simp
 have:=h0 n b;unfold gq at this;unfold kJ;rw[ag] at this⊢;exact this
def oE(a:List cw):Prop:=a.length<=8/\ ∀b∈a,b.text.length<=16
theorem oE.line{a:List cw}(b:oE a):(fq a).length<=138:=by
 unfold fq;have D:=z7 λf c=>by
  obtain⟨d,e,rfl⟩:=bK.mp c;exact b.2 d e
 rw[ag] at D;rw[bq];have:=b.1;show _+2<=138;omega
theorem kM:∀a∈dD,(du a).text.length<=16:=by decide+kernel
theorem uH{a:an}(c:Nm a)(b:Nat):(a.nameAt b).text.length<=16:=by
 show(a.names.getD b []).length<=16;rw[aE];unfold kH;rw[a6];cases d:a.parts[b]? with
 |none=>exact aR _
 |some e=>exact c.1 e (a7 d)
theorem KN{i:an}(k:Nm i){q:Nat}{g:bX}(r:i.parts[q]? =some g)(w:Ma.ey q g):oE (i.toksOf g):=by
 have l:=k.1 g (a7 r);cases g with
 |tray f=>
  refine#[by show 2<=8;decide,λc a=>?_];have e:c=du "tray"\/c=.word f:=by simpa[q5] using a
  rcases e with b|b<;>rw[b]
  .exact kM "tray" (by decide)
  .exact l
 |wheel f s m=>
  have t:=w.wheel f s m rfl;refine#[?_,λc a=>?_]
  .unfold q5
   cases m<;>simp<;>omega
  .unfold q5 at a
   rcases bw.mp a with b|a
   .rw[b];exact kM "wheel" (by decide)
   rcases bw.mp a with b|a
   .rw[b];exact l
   rcases c4.mp a with a|a
   .obtain⟨u,_,rfl⟩:=bK.mp a
    exact uH k u
   .cases m with
    |none=>simp at a
    |some d=>
     have x:=t.2.2 d rfl;have e:c=du "at"\/c=.num d:=by simpa using a
     rcases e with b|b<;>rw[b]
     .exact kM "at" (by decide)
     .have:=uG (n:=d) (by omega)
      show(kJ d).length<=16;omega
 |gate f d o p=>
  have v:=w.gate f d o p rfl;refine#[?_,λc a=>?_]
  .unfold q5
   cases p<;>simp
  .unfold q5 at a
   rcases c4.mp a with a|a
   .have e:c=du "gate"\/c=.word f\/c=.num d\/c=i.nameAt o:=by simpa using a
    rcases e with b|b|b|b<;>rw[b]
    .exact kM "gate" (by decide)
    .exact l
    .have:=uG (n:=d) (by omega)
     show(kJ d).length<=16;omega
    .exact uH k o
   .cases p with
    |none=>simp at a
    |some j=>
     have y:=v.2.2 j rfl;have e:c=du "with"\/c=.num j:=by simpa using a
     rcases e with b|b<;>rw[b]
     .exact kM "with" (by decide)
     .have:=uG (n:=j) (by omega)
      show(kJ j).length<=16;omega
def mn(b:an)(a:bo×Nat):List cw:=[du "hopper",.word a.1,b.nameAt a.2]
theorem KO{b:an}(e:Nm b){a:bo×Nat}(f:a∈b.hoppers):oE (mn b a):=by
 refine#[by show 3<=8;decide,λc g=>?_];have i:c=du "hopper"\/c=.word a.1\/c=b.nameAt a.2:=by simpa[mn] using g
 rcases i with d|d|d<;>rw[d]
 .exact kM "hopper" (by decide)
 .exact e.2 a f
 .exact uH e a.2
theorem z8(a:an):a.lines=[du "board"]::(a.parts.map a.toksOf++a.hoppers.map (mn a)):=rfl
theorem z9{a:an}(b:Nm a)(e:Ma.Wf a):∀c∈a.lines,oE c:=by
 intro c hl;rw[z8] at hl;rcases bw.mp hl with f|hl
 .rw[f]
  refine#[by show 1<=8;decide,λg i=>?_];have:g=du "board":=by simpa using i
  rw[this];exact kM "board" (by decide)
 rcases c4.mp hl with hl|hl
 .obtain⟨j,k,rfl⟩:=bK.mp hl
  obtain⟨l,d⟩:=mo k;exact KN b d (e.part l j d)
 .obtain⟨n,m,rfl⟩:=bK.mp hl
  exact KO b m
theorem z_(a:an):a.lines.length=1+a.parts.length+a.hoppers.length:=by
 rw[z8,bV,bq,ag,ag];omega
def kN(f:G)(a:List B)(b:List (List cw)):Prop:=a.length=b.length/\ ∀(c:Nat)(d:B)(e:List cw),a[c]? =some d->b[c]? =some e->f d=some (.lst (e.map dH))
theorem kN.snoc{H e:G}{c:List B}{g:List (List cw)}{a:B}{i:List cw}(b:kN H c g)(k:Same H e)(l:e a=some (.lst (i.map dH))):kN e (c++[a]) (g++[i]):=by
 refine#[by simp[b.1],λf m n D d=>?_];by_cases j:f<c.length
 .rw[cF j] at D
  rw[cF (by rw[<-b.1];exact j)] at d;exact k _ _ (b.2 f m n D d)
 .have o:f=c.length:=by
   have:=(aC.mp D).1;simp at this;omega
  subst o;rw[dB (av _),ez] at D;rw[dB (by rw[b.1];exact av _),b.1,ez] at d;cases D;cases d;exact l
theorem KP{x:Str}{s:TG}{t:TT}{u:TE}{i:List Nat}{l:L2.St}{v:G}{m:B}{w:G->Prop}(d:Nat->G->Prop)(h0:d 0 (upd v m (.lst [])))
  (C:∀a c b,x.cps[a]? =some c->d a b->s (.str #[#v[c]]) (aY l i) b λe n=>aY e i=aY l i/\t e n λo k=>
   if o=true then u e k λj p=>L2.fg m j p (d (a+1)) else d (a+1) k)(D:∀b,d x.cps.size b->w b):
  ∃q:Nat->Nat->G->Prop,(∃f,q 0 f (upd v m (.lst [])))/\ ∀a f b,q a f b->
   ((nY x).stop a b/\w b)\/((nY x).go a b/\ ∃r:G->Prop,(∀g,r g-> ∃y,y<f/\q (a+1) y g)/\ ∀j g,(nY x).Ve a b j g->s j (aY l i) g λe n=>aY e i=aY l i/\t e n λo k=>
    if o=true then u e k λj p=>L2.fg m j p (r) else r k):=by
 refine#[λa f b=>f=x.cps.size-a/\a<=x.cps.size/\d a b,#[x.cps.size,by simp,aR _,h0],?_];rintro a f b ⟨rfl,I,z⟩;by_cases A:a<x.cps.size
 .refine .inr #[A,d (a+1),λg E=>#[x.cps.size-(a+1),by omega,rfl,A,E],?_]
  rintro J g ⟨rfl,c,F,rfl⟩;exact C a c _ F z
 .have H:a=x.cps.size:=by omega
  subst H;exact .inl #[av _,D b z]
inductive KQ(c:Cs)(i:List V)(a:G)(j:VK)(k:XK):Prop
 |mk(g:B)(b:an)(l:i=[.ref g])(m:bM c a g b)(n:Nm b)(o:∀(e:G)(f:B),Same a e->a f=none->e f=some (.lst (L (nb b.text)))->j (.ref f) e)
theorem uI(o:Tx K d c):ao P w K d base 2 "printed" ["board"] (KQ c):=by
 have b3:ao P w K d base 1 "part_tokens" ["board","part"] (z0 c):=KH o;refine bS o.U4 ["board","rows","part","hopper","lines","row","sign"] λp cU bs cV cW nd b4=>?_;obtain⟨aB,e,rfl,bx,N,b6⟩:=b4;obtain⟨cX,ca,hl,cc,cd,n⟩:=id bx;have ad:=n.wf;have cY:=ad.np;have c0:=ad.nh;refine#[_,J (al 1 (a3 (af (a3 (af aT)))))
  (J (b_ cv rfl (b9 (ah 0)) (aO 2) (ae (aG (cM cI dU ea dS (E 1) (af (aH b3 (aL (E 0) (E 2))))))))
  (J (b_ cv rfl (b9 (ah 0)) (aO 3) (ae (aG (cM cI dU ea dS (E 1) (af (a3 (bD aT (ah 3) (fX (aI (ah 0) (ah 3)) rfl))))))))
  (J (fh (i:=4) (own:=[("row",5)]) rfl nd rfl rfl (fi rfl rfl rfl rfl) (b9 (E 1)) (cS (N:=["board","rows","part","hopper","lines","row","sign"]) (sc:=bi v5) (by decide+kernel)) (λ_ _ _ _ _=>aO 5) (λ_ _ _ _ _=>c2)
   (λ_ _ _ _ _=>aM Et (yf (r:=λx xs p bs=>∃a Q,∃R:List Str,x=.str a/\xs=[.ref Q]/\(I K p Q (R.map V.str)\/a8 K p Q (R.map V.str))/\(R.map (·.length)).sum+R.length*a.length<=16777216/\bs (.str (lS a R)) p) Hl Hm yd aT (E 5)) aT))
  (ae (ax (gW (own:=[("sign",6)]) rfl nd (G7 (yg aT (E 4))) (cS (N:=["board","rows","part","hopper","lines","row","sign"]) (sc:=bi v5) (by decide+kernel)) (λ_ _ _ _ _=>aO 6) (λ_ _ _ _ _=>c2) (λ_ _ _ _ _=>a1 Ew rfl o.Wa QR (af (E 6))))))))),?_]
 refine#[(by show 1<=aq;decide),λS ai=>#[(by show 1<=aq;decide),λg bz=>?_]];have aD:p g=none:=(Same.upd ai).free bz;have ce:S≠g:=aK Y bz;have aJ:∀{C:G}{bA:HO},less (upd C g bA) [g]=less C [g]:=λ{C bA}=>by
  funext e;unfold less;by_cases F:e=g
  .rw[if_pos (by simp[F]),if_pos (by simp[F])]
  .rw[if_neg (by simp[F]),if_neg (by simp[F]),aa F]
 have cf:[V.str (bH "board")]=[du "board"].map dH:=by
  rw[bE,kK "board" (by decide)];rfl
 have cg:kN (less (upd (upd p S (.lst [V.str "board"])) g (.lst [V.ref S])) [g]) [S] [[du "board"]]:=by
  refine#[rfl,λi a f D T=>?_]
  match i,D,T with
  |0,D,T=>
   cases D;cases T;rw[aJ];refine cJ ?_ (by simp[ce]);rw[Y];exact congrArg (λy=>some (HO.lst y)) cf
  |i+1,D,T=>simp at D
 have aN:∀{C:G},b7 g p C->Same p C:=λch=>ch.all aD;refine#[(aN (((b7.refl g p).upd ai).own)) _ _ n.obj,o.Q5,o.Q3,I.of ((aN (((b7.refl g p).upd ai).own)) _ _ n.parts.lst),?_];refine gl (K:=K) (a:=ca) (xs:=cc.map V.ref) (λi z m=>∃v t,z=[some (.ref aB),some (.ref g),v,none,none,none,none]/\Same p m/\m g=some (.lst (t.map V.ref))/\kN (less m [g]) t ([du "board"]::(e.parts.take i).map e.toksOf))
  #[none,[S],rfl,aN (((b7.refl g p).upd ai).own),Y,cg] (λi z m _ ⟨_,_,_,H,_⟩=>I.of (H _ _ n.parts.lst)) ?_ ?_
 .rintro i bC z m U ⟨v,t,rfl,O,W,X⟩
  obtain⟨bF,bG,rfl⟩:=bt U;obtain⟨Q,u⟩:=c7 n.parts.len bG;have ci:=n.parts.at_ i bF Q bG u;have cj:i<e.parts.length:=(aC.mp u).1;refine#[.inl #[rfl,_,I.of W],aB,bF,e,Q,i,rfl,bx.same O,ci.same O,u,λaV f s q A=>?_];have aW:f≠g:=λy=>by rw[y,W] at q;cases q
  have aY:(t.map V.ref).length<aq:=by
   rw[ag,X.1,bV,ag,ck];exact small (by omega)
  refine#[s _ _ W,aY,_,t++[f],rfl,(O.trans s).put aD,?_,?_]
  .rw[Y];simp
  .rw[aJ,cp u,br,<-z4]
   exact X.snoc (bb.of s).less (cJ A (by simp[aW]))
 rintro z C ⟨cl,cm,rfl,O,W,X⟩;rw[ag,n.parts.len,dY] at X;refine#[O _ _ n.obj,o.Q5,o.Q4,I.of (O _ _ n.Q9.lst),?_];refine gl (K:=K) (a:=hl) (xs:=cd.map V.ref) (λi z m=>∃v t,z=[some (.ref aB),some (.ref g),cl,v,none,none,none]/\Same p m/\m g=some (.lst (t.map V.ref))/\kN (less m [g]) t (([du "board"]::e.parts.map e.toksOf)++(e.hoppers.take i).map (mn e)))
  #[none,cm,rfl,O,W,by simpa using X] (λi z m _ ⟨_,_,_,H,_⟩=>I.of (H _ _ n.Q9.lst)) ?_ ?_
 .rintro i bC z m U ⟨v,t,rfl,s,A,Z⟩
  obtain⟨co,bI,rfl⟩:=bt U;obtain⟨u,am⟩:=c7 n.Q9.len bI;obtain⟨c1,bL⟩:=n.Q9.at_ i co u bI am;have cj:i<e.hoppers.length:=(aC.mp am).1;obtain⟨cq,bM⟩:=Ma.gw (b:=e) (ad.Vl u (a7 am));obtain⟨cr,cs,c5,c6,ct,c8⟩:=n.parts.get bM;refine#[.inl #[rfl,_,I.of A],s _ _ bL,o.RB,o.R6,s _ _ n.obj,o.Q5,o.Q3,s _ _ bL,o.RB,o.Rm,I.of (s _ _ n.parts.lst),aw (j:=u.2) (v:=V.ref cr) (by rw[a6,cs];rfl),s _ _ ct,o.Q7,o.Ru,(by show 3<=aq;decide),λf q=>?_];have aW:f≠g:=λy=>by rw[y,A] at q;cases q
  have aY:(t.map V.ref).length<aq:=by
   rw[ag,Z.1,bq,bV,ag,ag,ck];exact small (by omega)
  have cu:[V.str (bH "hopper"),V.str (nm u.1),V.str (nm cq.name)]=(mn e u).map dH:=by
   unfold mn;rw[zZ bM,bE,kK "hopper" (by decide)];rfl
  refine#[(Same.upd q) _ _ A,aY,_,t++[f],rfl,(s.trans (.upd q)).put aD,?_,?_]
  .rw[Y];simp
  .rw[aJ,cp am,br,<-kl]
   refine Z.snoc (bb.of (.upd q)).less (cJ ?_ (by simp[aW]));rw[Y];exact congrArg (λy=>some (HO.lst y)) cu
 rintro z aV ⟨c_,bP,rfl,s,A,Z⟩;rw[ag,n.Q9.len,dY] at Z;have aZ:kN (less aV [g]) bP e.lines:=Z;have bR:=z9 N ad;have dd:=z_ e;refine#[I.of A,λa0 a5=>?_];have de:p a0=none:=s.free a5;refine eW (K:=K) (a:=g) (xs:=bP.map V.ref) (λi m=>Same aV m/\m a0=some (.lst ((e.lines.take i).map λf=>V.str (nm (fq f))))) #[.upd a5,Y] (λi m _ ⟨H,_⟩=>I.of (H _ _ A)) ?_ ?_
 .rintro i bC m U ⟨as,ab⟩
  obtain⟨bT,bU,rfl⟩:=bt U;obtain⟨f,q⟩:=c7 aZ.1 bU;have bW:=as _ _ (ow (aZ.2 i bT f bU q)).1;have a9:=bR f (a7 q);have cA:i<e.lines.length:=(aC.mp q).1;have ba:f.map dH=((f.map kL).map nm).map V.str:=by rw[dG,dG];rfl
  rw[ba] at bW;have cD:(bH " ").length=1:=by decide+kernel
  have bd:(((f.map kL).map nm).map (·.length)).sum<=((f.map kL).map nm).length*16:=by
   have:=uF (l:=((f.map kL).map nm).map (·.length)) (k:=16) λy be=>by
    obtain⟨H,bf,rfl⟩:=bK.mp be;obtain⟨x,bk,rfl⟩:=bK.mp bf;obtain⟨cG,cH,rfl⟩:=bK.mp bk;rw[q4];exact a9.2 cG cH
   rw[ag] at this;exact this
  have bY:((f.map kL).map nm).length=f.length:=by rw[ag,ag]
  have df:=a9.1;have dg:=a9.line;refine#[rfl,c3 #[#[_,rfl],bH " ",bT,_,rfl,rfl,.inl (I.of bW),?_,_,_,rfl,rfl,?_,_,ab,?_,as.put a5,?_]]
  .rw[cD,bY]
   rw[bY] at bd;omega
  .rw[z6,q4,show(bH ";\n").length=2 by decide+kernel]
   have:(fq f).length=(jG (f.map kL)).length+2:=by unfold fq;rw[bq];rfl
   exact dc (small (by omega))
  .rw[ag,ck]
   exact small (by omega)
  .rw[Y,cp q,br,z6,KL]
   rfl
 rintro bZ ⟨as,ab⟩;rw[ag,aZ.1,dY] at ab;have ba:(e.lines.map λf=>V.str (nm (fq f)))=((e.lines.map fq).map nm).map V.str:=by rw[dG,dG];rfl
 rw[ba] at ab;have cK:(bH "").length=0:=by decide+kernel
 have bd:(((e.lines.map fq).map nm).map (·.length)).sum<=73*138:=by
  have:=uF (l:=((e.lines.map fq).map nm).map (·.length)) (k:=138) λy be=>by
   obtain⟨H,bf,rfl⟩:=bK.mp be;obtain⟨x,bk,rfl⟩:=bK.mp bf;obtain⟨f,q,rfl⟩:=bK.mp bk;rw[q4];exact(bR f q).line
  rw[ag,ag,ag] at this;have T:e.lines.length*138<=73*138:=mf _ (by omega);omega
 have di:e.text.length<=73*138:=by
  rw[uE,KR];have F:((e.lines.map fq).map nm).map (·.length)=(e.lines.map fq).map xh:=by
   rw[dG];exact gu λx _=>q4 x
  rw[<-F];exact bd
 refine#[#[_,rfl],bH "",a0,_,rfl,rfl,.inl (I.of ab),(by rw[cK,ua];omega),_,rfl,λb0 bl=>?_];rw[KJ,<-uE];have b1:Same p bZ:=s.trans as;refine KP (x:=nm e.text) (λi m=>Same bZ m/\m b0=some (.lst (L ((nb e.text).take i)))) #[.upd bl,Y] ?_ ?_
 .rintro i cN m cO ⟨bm,au⟩
  have b2:(nb e.text)[i]? =some cN:=by
   have:(nm e.text).cps[i]? =(nb e.text)[i]? :=by unfold nm;simp
   rw[<-this];exact cO
  have cA:i<e.text.length:=by have:=(aC.mp b2).1;rw[ag] at this;exact this
  refine#[rfl,c3 #[_,rfl,rfl,_,au,?_,bm.put bl,?_]]
  .rw[aF,ck,ag]
   exact small (by omega)
  .rw[Y,cp b2,<-d9]
   rfl
 .rintro cR ⟨bm,au⟩
  have cT:(nm e.text).cps.size=(nb e.text).length:=by unfold nm;simp
  rw[cT,dY] at au;exact b6 cR b0 (b1.trans bm) (b1.free bl) au
end Mb
end
section
namespace Ma
open Marble
def a5:Part->Nat
 | .tray _=>0
 | .wheel _ a _=>a.length
 | .gate _ b _ _=>b
def q6(a:Part)(c:Nat)(b:List Nat):List Nat:=(ways a).foldl (λd w=>bump d w (b.getD c 0/(ways a).length)) b
def gb(a:Part)(c:Nat)(b:Nat×List Nat):Nat×List Nat:=
 if a.isTray=true\/b.2.getD c 0=0 then b else(b.1*(a5 a/bh (a5 a) (b.2.getD c 0)),q6 a c (b.2.map (·*(a5 a/bh (a5 a) (b.2.getD c 0)))))
def ft(c:Board):Nat->Nat×List Nat->Nat×List Nat
 |0,a=>a
 |b+1,a=>match c.parts[b]? with
  |some d=>ft c b (gb d b a)
  |none=>ft c b a
def iE(a:Board)(b:Nat):Nat×List Nat:=(1,(aP a.parts.length 0).set (a.entry b) 1)
def kO(a:Board)(b:Nat):Nat:=(ft a a.parts.length (iE a b)).1
theorem Aa{b:Board}{a:Nat}{c:Part}(e:b.parts[a]? =some c)(d:Nat×List Nat):ft b (a+1) d=ft b a (gb c a d):=by
 conv=>lhs;unfold ft
 rw[e]
theorem uJ(c:Nat):∀(b:List Nat)(a:List Nat),(b.foldl (λd w=>bump d w c) a).length=a.length
 |[],a=>rfl
 |w::b,a=>by rw[ff,uJ c b,c6]
theorem Ab{i:Nat}(c:Nat):∀(a:List Nat)(b:List Nat),(∀w∈a,w<i)->(a.foldl (λe w=>bump e w c) b).getD i 0=b.getD i 0
 |[],b,_=>rfl
 |w::a,b,d=>by
  rw[ff,Ab c a _ λf g=>d f (bj _ g),eO,if_neg];have:=d w (a4 ..);omega
end Ma
end
section
namespace Mb
open PySem PySem.Spec PyProof.Rows L2 Ex TL
theorem KS(a:bX):Ma.a5 a=eB a:=by cases a<;>rfl
theorem uK(b:Tx K d c):ao P w K d base 1 "common_divisor" ["one","other"] qB:=by
 obtain⟨e,a⟩:=b.S6;exact#[e,JO a,a.mg]
inductive KU(c:Cs)(i:List V)(e:G)(j:VK)(k:XK):Prop
 |mk(f:B)(a:an)(b:Nat)(l:i=[.ref f,.int b])(m:bM c e f a)(n:b<a.hoppers.length)(o:∀g:G,Same e g->j (.int (Ma.kO a b:Nat)) g)
theorem uL(e:Tx K d c):ao P w K d base 2 "again" ["board","hopper"] (KU c):=by
 have Q:ao P w K d base 1 "common_divisor" ["one","other"] qB:=uK e;refine bS e.Vr ["board","hopper","flow","part","balls","place","rounds","count","way"] λD cD cG cH cJ nd l=>?_;obtain⟨bm,g,l,rfl,⟨cK,bY,hl,R,cM,m⟩,bs,bZ⟩:=l;have aD:=m.wf;have ab:=m.parts.len;have cN:=aD.np;refine#[_,J (fh (i:=2) (own:=[("part",3)]) rfl nd rfl rfl (fi rfl rfl rfl rfl) (b9 (ah 0)) (cS (N:=["board","hopper","flow","part","balls","place","rounds","count","way"]) (sc:=bi v8) (by decide+kernel)) (λ_ _ _ _ _=>aO 3) (λ_ _ _ _ _=>c2) (λ_ _ _ _ _=>ai))
  (J (ln ai (lm (E 2) (fX (aI (ah 0) (E 1)) rfl) gV))
  (J (al 4 ai)
  (J (b_ cv rfl (s7 rfl e.RT (bD (aM hr (a1 bd rfl e.Q_ bg (af (ah 0))) ai) (e9 e_ ai) (e9 e_ ai))) (aO 5)
   (J (al 3 (aI (ah 0) (E 5)))
   (ae (ba (PW.pt (i5 (aZ fV (ah 3) aT (aW _)) (i4 (aZ fW (aI (E 2) (E 5)) ai (aW _)))))
    (J (al 6 (aM nE (ah 3) (aH Q (aL (ah 3) (aI (E 2) (E 5))))))
    (J (si (i:=4) nd rfl (iq rfl) (E 6) JF)
    (J (fh (i:=2) (own:=[("count",7)]) rfl nd rfl rfl (fi rfl rfl rfl rfl) (b9 (E 2)) (cS (N:=["board","hopper","flow","part","balls","place","rounds","count","way"]) (sc:=bi v8) (by decide+kernel)) (λ_ _ _ _ _=>aO 7) (λ_ _ _ _ _=>c2) (λ_ _ _ _ _=>aM pe (E 7) (E 6)))
    (ae (b_ cv rfl (b9 (ah 3)) (aO 8)
     (ae (nA (E 2) (E 8) oj (aM nE (aI (E 2) (E 5)) (a1 bd rfl e.Q_ bg (af (ah 3)))) lq gV)))))))
    bC))))
  (ae (ax (E 4)))))),?_]
 refine#[m.obj,e.Q5,e.Q3,I.of m.parts.lst,λF ad=>?_];refine eW (K:=K) (a:=bY) (xs:=R.map V.ref) (λi r=>Same D r/\r F=some (.lst (L (aP i 0)))) #[.upd ad,Y] (λi r _ ⟨y,_⟩=>I.of (y _ _ m.parts.lst)) ?_ ?_
 .rintro i bx r aG ⟨y,b0⟩
  have cO:i<R.length:=by have:=(aC.mp aG).1;rw[ag] at this;exact this
  refine#[rfl,c3 #[_,b0,?_,y.put ad,?_]]
  .rw[aF,cQ]
   exact small (by omega)
  .rw[Y,qo,<-d9]
   rfl
 rintro bz ⟨am,bA⟩;rw[ag,ab] at bA;have cR:g.entry l<g.parts.length:=Ma.ej aD bs;obtain⟨G,bF⟩:∃G,g.hoppers[l]? =some G:=#[_,a2 bs];obtain⟨b1,b2,cT,b3⟩:=m.Q9.get bF;have b4:g.entry l=G.2:=by simp[ky,bF]
 refine#[am _ _ m.obj,e.Q5,e.Q4,I.of (am _ _ m.Q9.lst),aw (j:=l) (v:=V.ref b1) (by rw[a6,b2];rfl),am _ _ b3,e.RB,e.Rm,F,_,_,G.2,rfl,rfl,bA,g0 (by rw[aF,cQ];omega),?_];have b6:upd bz F (.lst ((L (aP g.parts.length 0)).set G.2 (V.int 1))) F=some (.lst (L (Ma.iE g l).2)):=by
  rw[Y];show _=some (HO.lst (L ((aP g.parts.length 0).set (g.entry l) 1)));rw[<-mh,b4];rfl
 have aJ:Same D (upd bz F (.lst ((L (aP g.parts.length 0)).set G.2 (V.int 1)))):=am.put ad;refine#[aJ _ _ m.obj,e.Q5,e.Q3,.inl (I.of (aJ _ _ m.parts.lst)),_,_,_,g.parts.length,rfl,?_,?_]
 .have b7:((((R.map V.ref).length:Nat):Int)-1-(-1)).toNat=g.parts.length:=by rw[ag,ab];omega
  have:=lP.neg (i:=(((R.map V.ref).length:Nat):Int)-1) (j:=-1) (by omega) (by rw[ag,ab];omega) (by decide) (by decide);rw[b7] at this;exact this
 refine s8 (λs u r=>∃(t:Nat)(f:List Nat)(x:B)(aK aN aV as H:Option V),u=[some (.ref bm),some (.int l),some (.ref x),aK,some (.int t),aN,aV,as,H]/\Same D r/\D x=none/\r x=some (.lst (L f))/\f.length=g.parts.length/\(Ma.ft g (g.parts.length-s) (t,f)).1=Ma.kO g l)
  #[1,_,F,_,_,_,_,_,rfl,aJ,ad,b6,by simp[Ma.iE],rfl] ?_ ?_
 .rintro s u r cU ⟨t,f,x,aK,aN,aV,as,H,rfl,o,aY,z,au,k⟩
  obtain⟨i,aG⟩:∃i,g.parts.length-s=i+1:=#[g.parts.length-s-1,by omega];have ca:(((R.map V.ref).length:Nat):Int)-1+(s:Nat)*(-1)=(i:Int):=by rw[ag,ab];omega
  rw[ca];have cc:i<g.parts.length:=by omega
  obtain⟨b,a0⟩:=Ma.gw cc;obtain⟨bG,cd,cV,ce,S,a3⟩:=m.parts.get a0;have T:=aD.part i b a0;rw[aG,Ma.Aa a0] at k;have a5:g.parts.length-(s+1)=i:=by omega
  have bI:f[i]? =some (f.getD i 0):=d_ (by omega);refine#[o _ _ m.obj,e.Q5,e.Q3,I.of (o _ _ m.parts.lst),aw (j:=i) (v:=V.ref bG) (by rw[a6,cd];rfl),?_];refine#[o _ _ S,e.Q7,e.Q8,rfl,_,rfl,?_];by_cases aB:b.isTray=true
  .cases b with
   |tray nm=>
    refine qy (dk #[t,f,x,_,_,_,_,_,rfl,o,aY,z,au,?_]);rw[a5];unfold Ma.gb at k;rw[if_pos (.inl rfl)] at k;exact k
   |wheel _ _ _=>cases aB
   |gate _ _ _ _=>cases aB
  have a8:b.isTray=false:=dE.mpr aB;have cf:¬fp b= "tray":=by
   cases b with
   |tray nm=>cases a8
   |wheel _ _ _=>exact show¬("wheel":Str)= "tray" by decide+kernel
   |gate _ _ _ _=>exact show¬("gate":Str)= "tray" by decide+kernel
  refine mi cf ?_;refine#[I.of z,aw (j:=i) (v:=V.int (f.getD i 0:Nat)) (dZ bI),_,rfl,?_];refine a9 (λcg=>?_) (λch=>?_)
  rotate_left
  .have ci:f.getD i 0=0:=by
    have:¬(0:Int)<(f.getD i 0:Nat):=λA=>ch (decide_eq_true A);omega
   unfold Ma.gb at k;rw[if_pos (.inr ci)] at k;exact#[t,f,x,_,_,_,_,_,rfl,o,aY,z,au,by rw[a5];exact k]
  have cj:0<f.getD i 0:=by have:=of_decide_eq_true cg;omega
  have cl:2<=eB b/\eB b<=100:=by
   cases b with
   |tray nm=>cases a8
   |wheel n O a=>have:=T.wheel n O a rfl;exact#[this.1,by show O.length<=100;omega]
   |gate n s bL l=>have:=T.gate n s bL l rfl;exact#[this.1,this.2.1]
  have cW:1<=(Ma.ways b).length/\(Ma.ways b).length<=4:=by
   cases b with
   |tray nm=>cases a8
   |wheel n O a=>have:=T.wheel n O a rfl;exact#[by show 1<=O.length;omega,by show O.length<=4;omega]
   |gate n s bL l=>exact#[by show 1<=1;decide,by show 1<=4;decide]
  have cX:0<bh (eB b) (f.getD i 0):=kP _ (by omega);have cY:bh (eB b) (f.getD i 0)<=eB b:=uM _ (by omega);unfold Ma.gb at k;rw[if_neg (by rintro(A|A);exact aB A;exact absurd A (hm cj)),KS] at k;dsimp only at k;generalize bM:eB b/bh (eB b) (f.getD i 0)=p at k;have c0:p<=100:=by rw[<-bM];exact bB (Ac _ _) cl.2
  refine#[o _ _ S,e.Q7,e.Rg,o _ _ S,e.Q7,e.Rg,I.of z,aw (j:=i) (v:=V.int (f.getD i 0:Nat)) (dZ bI),eB b,f.getD i 0,rfl,#[by omega,by omega],?_];have cm:V.int (((eB b:Nat):Int)/((bh (eB b) (f.getD i 0):Nat):Int))=V.int (p:Nat):=by rw[<-bM];rfl
  dsimp only;rw[cm];refine#[_,rfl,.inr #[by omega,by omega],?_];refine#[I.of z,λL2 bb=>?_];have bP:D L2=none:=o.free bb;refine eW (K:=K) (a:=x) (xs:=L f) (λj U=>Same r U/\U L2=some (.lst (L ((f.map (·*p)).take j)))) #[.upd bb,Y] (λj U _ ⟨y,_⟩=>I.of (y _ _ z)) ?_ ?_
  .rintro j bx U be ⟨bf,W⟩
   obtain⟨n,bR,rfl⟩:=bt be;have c1:j<f.length:=(aC.mp bR).1;refine#[rfl,c3 #[.inr #[by omega,by omega],_,W,?_,bf.put bb,?_]]
   .rw[aF,ck,ag]
    exact small (by omega)
   .have:(f.map (·*p))[j]? =some (n*p):=by rw[a6,bR];rfl
    rw[Y,cp this,<-d9];rfl
  rintro U ⟨bf,W⟩;rw[aF,fD (by rw[ag];exact av _)] at W;have bk:=o.trans bf;have bT:(f.map (·*p)).length=g.parts.length:=by rw[ag,au]
  generalize c5:f.map (·*p)=q at k W bT;refine#[bk _ _ S,e.Q7,e.Re,I.of (bk _ _ a3),?_];refine gl (K:=K) (a:=ce) (xs:=L (Ma.ways b)) (λj u X=>∃H,u=[some (.ref bm),some (.int l),some (.ref L2),some (.ref bG),some (.int ((t*p:Nat):Int)),some (.int (i:Nat)),some (.int (p:Nat)),as,H]/\Same D X/\X L2=some (.lst (L (((Ma.ways b).take j).foldl (λQ w=>f8 Q w (q.getD i 0/(Ma.ways b).length)) q))))
   #[H,rfl,bk,W] (λj u X _ ⟨_,_,y,_⟩=>I.of (y _ _ a3)) ?_ ?_
  .rintro j bx u X be ⟨co,rfl,Z,C⟩
   obtain⟨aa,bU,rfl⟩:=bt be;have c6:aa<i:=T.below aa (a7 bU);have cq:=Ma.uJ (q.getD i 0/(Ma.ways b).length) ((Ma.ways b).take j) q;have bW:=Ma.Ab (i:=i) (q.getD i 0/(Ma.ways b).length) ((Ma.ways b).take j) q λcr cs=>T.below cr (og cs);generalize hG:((Ma.ways b).take j).foldl (λQ w=>f8 Q w (q.getD i 0/(Ma.ways b).length)) q=ct at C cq bW;have bl:((L (Ma.ways b)).length:Int)=((Ma.ways b).length:Nat):=by simp
   refine#[L2,_,aa,_,rfl,rfl,I.of C,dZ (d_ (by omega)),I.of C,aw (j:=i) (v:=V.int (q.getD i 0:Nat)) (by rw[<-bW];exact dZ (d_ (by omega))),Z _ _ S,e.Q7,e.Re,.inl (I.of (Z _ _ a3)),#[by rw[bl];omega,by rw[bl];omega],L2,_,_,aa,rfl,rfl,C,g0 (by rw[aF];omega),?_];refine#[_,rfl,Z.put bP,?_];rw[Y,cp bU,iA,hG,bl];exact congrArg (λA=>some (HO.lst A)) (om (n:=q.getD i 0/(Ma.ways b).length) (show aa<ct.length by omega))
  rintro u X ⟨co,rfl,Z,C⟩;rw[aF,dY] at C;refine#[t*p,_,L2,_,_,_,_,_,rfl,Z,bP,C,by rw[Ma.uJ];exact bT,?_];rw[a5];exact k
 rintro u cu ⟨t,f,x,aK,aN,aV,as,H,rfl,o,aY,z,au,k⟩;rw[ez] at k;have cA:t=Ma.kO g l:=k;rw[cA];exact bZ cu o
end Mb
end
section
namespace Ma
open Marble
def g1(a b:Nat×Nat):Nat×Nat:=(a.1*b.2+b.1*a.2,a.2*b.2)
def be(a:List (Nat×Nat)):Nat×Nat:=a.foldl g1 (0,1)
def g2(a:List (Nat×Nat)):Nat×Nat:=((be a).1/bh ((be a).2*a.length) (be a).1,(be a).2*a.length/bh ((be a).2*a.length) (be a).1)
def g3(b c:Nat)(a:Part)(d:List (Nat×Nat)):Nat×Nat:=if a.isTray=true then(if c=b then 1 else 0,1) else g2 ((ways a).map λw=>d.getD w (0,1))
def bP(b:Board)(c:Nat):Nat->List (Nat×Nat)
 |0=>[]
 |a+1=>match b.parts[a]? with
  |some d=>bP b c a++[g3 c a d (bP b c a)]
  |none=>bP b c a
theorem oF{b:Board}{c a:Nat}{d:Part}(e:b.parts[a]? =some d):bP b c (a+1)=bP b c a++[g3 c a d (bP b c a)]:=by
 conv=>lhs;unfold bP
 rw[e]
theorem jH{b:Board}{tr:Nat}:∀a,a<=b.parts.length->(bP b tr a).length=a
 |0,_=>rfl
 |a+1,d=>by
  have c:a<b.parts.length:=by omega
  rw[oF (a2 c),bq,jH a (by omega)];rfl
def mq(a:Nat×Nat):Prop:=0<a.2/\a.1<=a.2/\kQ a.1 a.2
theorem q7{a:List (Nat×Nat)}(e:∀c∈a,0<c.2):∀b:Nat×Nat,0<b.2->0<(a.foldl g1 b).2:=by
 induction a with
 |nil=>intro b d;exact d
 |cons c a f=>intro b d;exact f (λg i=>e g (bj _ i)) _ (fu d (e c (a4 ..)))
theorem KW{d:List (Nat×Nat)}(f:∀b∈d,b.1<=b.2):∀(a:Nat×Nat)(c:Nat),a.1<=a.2*c->(d.foldl g1 a).1<=(d.foldl g1 a).2*(c+d.length):=by
 induction d with
 |nil=>intro a c e;exact e
 |cons b d g=>
  intro a c e;rw[ff,bV,show c+(d.length+1)=(c+1)+d.length by omega];refine g (λi j=>f i (bj _ j)) _ (c+1) ?_;show a.1*b.2+b.1*a.2<=a.2*b.2*(c+1);have D:a.1*b.2<=a.2*c*b.2:=mf _ e;have k:b.1*a.2<=b.2*a.2:=mf _ (f b (a4 ..));rw[y7,uN];have l:a.2*c*b.2=a.2*b.2*c:=by rw[cx,dh c,<-cx]
  have m:b.2*a.2=a.2*b.2:=dh _ _;omega
theorem KX{e:List (Nat×Nat)}{d:Nat}(i:∀a∈e,a.2∣d):∀(b:Nat×Nat)(c:Nat),b.1*d=b.2*c-> ∃j,(e.foldl g1 b).1*d=(e.foldl g1 b).2*j:=by
 induction e with
 |nil=>intro b c f;exact#[c,f]
 |cons a e k=>
  intro b c f;obtain⟨g,hq⟩:=i a (a4 ..);refine k (λl m=>i l (bj _ m)) _ (c+a.1*g) ?_;show(b.1*a.2+a.1*b.2)*d=b.2*a.2*(c+a.1*g);have n:b.1*a.2*d=b.2*a.2*c:=by
   rw[cx,dh a.2 d,<-cx,f,cx,dh c,<-cx]
  have o:a.1*b.2*d=b.2*a.2*(a.1*g):=by
   rw[hq,dh a.1 b.2,cx,cx];congr 1;rw[<-cx,dh a.1 a.2,cx]
  rw[IT,n,o,<-y7]
theorem Ad{a:List (Nat×Nat)}(i:a≠[])(d:∀b∈a,mq b):mq (g2 a):=by
 have hl:0<a.length:=by cases a with|nil=>exact absurd rfl i|cons _ _=>simp
 have D:=q7 (λb c=>(d b c).1) (0,1) ek;have e:=fu D hl;have f:0<bh ((be a).2*a.length) (be a).1:=kP _ e;have g:=KW (λb c=>(d b c).2.1) (0,1) 0 (aR _);refine#[uO (uP e (mr _ _)) f,Nat.div_le_div_right (by rw[f4] at g;exact g),?_];exact(Ae f).symm
theorem KY{a:List (Nat×Nat)}{b:Nat}(e:a≠[])(f:∀c∈a,mq c)(g:∀c∈a,c.2∣b):(g2 a).2∣b*a.length:=by
 have i:=Ad e f;obtain⟨d,j⟩:=KX g (0,1) 0 (by simp);have k:(be a).1*b=(be a).2*d:=j;have hl:0<a.length:=by cases a with|nil=>exact absurd rfl e|cons _ _=>simp
 have l:0<(be a).2*a.length:=fu (q7 (λc m=>(f c m).1) (0,1) ek) hl;have n:0<bh ((be a).2*a.length) (be a).1:=kP _ l;have o:(be a).1*(b*a.length)=(be a).2*a.length*d:=by
  rw[<-cx,k,cx,dh d,<-cx]
 have p:(g2 a).1*(b*a.length)=(g2 a).2*d:=by
  have q:bh ((be a).2*a.length) (be a).1*(g2 a).1=(be a).1:=KZ (q8 _ _);have r:bh ((be a).2*a.length) (be a).1*(g2 a).2=(be a).2*a.length:=KZ (mr _ _);refine Af n ?_;rw[<-cx,q,o]
  conv=>rhs;rw[<-cx,r]
 exact q9 i.2.2.symm #[d,p]
theorem uQ{e:Nat}{a:Part}(w:ey e a)(f:a.isTray=false):(ways a).length∣12/\ways a≠[]/\(ways a).length<=4:=by
 cases a with
 |tray d=>cases f
 |gate d k l b=>exact#[#[12,rfl],by simp[ways],by show 1<=4;decide]
 |wheel d c g=>
  have hl:=w.wheel d c g rfl;have b:c.length=2\/c.length=3\/c.length=4:=by omega
  refine#[?_,λi=>?_,hl.2.1]
  .show c.length∣12
   rcases b with b|b|b<;>rw[b]<;>decide
  .have j:c=[]:=i
   rw[j] at hl;simp at hl
theorem oG{d:Board}(i:Wf d)(e:Nat):∀a,a<=d.parts.length-> ∀b∈bP d e a,mq b/\b.2∣12^a
 |0,_=>λb c=>by cases c
 |a+1,u=>by
  have j:a<d.parts.length:=by omega
  have k:=oG i e a (by omega);rw[oF (a2 j)];intro b c;rcases c4.mp c with c|c
  .obtain⟨m,n⟩:=k b c
   exact#[m,kR n #[12,md ..]]
  .have o:b=g3 e a d.parts[a] (bP d e a):=by simpa using c
   have w:=i.part a _ (a2 j);rw[o];unfold g3;by_cases f:d.parts[a].isTray=true
   .rw[if_pos f]
    refine#[#[ek,?_,Nat.coprime_one_right _],Ag _];split<;>omega
   .rw[if_neg f]
    obtain⟨p,q,_⟩:=uQ w (dE.mpr f);have g:∀b∈(ways d.parts[a]).map (λw=>(bP d e a).getD w (0,1)),mq b/\b.2∣12^a:=λb c=>by
     obtain⟨r,s,rfl⟩:=bK.mp c;have t:=w.below r s;rw[aE,a2 (by rw[jH a (by omega)];exact t)];exact k _ (iv _)
    have l:(ways d.parts[a]).map (λw=>(bP d e a).getD w (0,1))≠[]:=by simpa using q
    refine#[Ad l λb c=>(g b c).1,?_];have:=KY l (λb c=>(g b c).1) λb c=>(g b c).2;rw[ag] at this;exact kR this (by rw[md];exact K0 _ p)
theorem K1{b:Board}(c:Wf b){tr i:Nat}(d:i<=b.parts.length):∀a∈bP b tr i,a.1<2^257/\a.2<2^257:=by
 intro a e;obtain⟨f,g⟩:=oG c tr i d a e;have D:=uP (mc (by omega)) g;have j:12^i<=12^64:=oc (by omega) (by have:=c.np;omega);have k:=Ah (by omega) 64;have l:(16:Nat)^64=2^256:=by rw[show(16:Nat)=2^4 by rfl,<-K2]
 have m:(2:Nat)^256<2^257:=K3 (by omega) (by omega);have:=f.2.1;omega
end Ma
end
section
namespace Mb
open PySem PySem.Spec PyProof.Rows L2 Ex TL
theorem Ai{a c:Nat}(d:a<2^c):K4 (a:Int)<=c:=by
 unfold K4;by_cases b:a=0
 .subst b;exact aR _
 .rw[if_neg (by simpa using b),z1]
  exact(z3 b).mpr d
theorem oH{a b c d:Nat}(e:a<2^c)(f:b<2^d)(g:c+d<=100000):lx (a:Int) (b:Int):=QS (Ai e) (Ai f) (by omega)
section
variable{X:Cx}
theorem oI:cD X (hp .Mult) (rI lx λa b=>.int (a*b)):=lv λ_ _ _ _ _ _ _ c d=>mul_int d c
def Aj(b a:Int):Prop:=0<a/\a.natAbs.log2<9000
theorem uR:cD X (hp .FloorDiv) (rI Aj λa b=>.int (a/b)):=lv λa b _ _ _ _ _ c d=>by
 have D:=c.1;exact Eg (by omega) (by rw[Eh a (by omega)];exact d) (.inl (PyProof.noPylong_of_log2 c.2))
end
theorem uS{a b:Nat}(h0:0<a)(c:a<2^b)(e:b<=9000)(d:Int):Aj d (a:Int):=by
 refine#[by omega,?_];rw[z1];have:=(z3 (by omega)).mpr c;omega
def iF(b:G)(c:B)(a:Nat×Nat):Prop:=b c=some (.tup [.int a.1,.int a.2])
def gD(f:G)(a:List B)(b:List (Nat×Nat)):Prop:=a.length=b.length/\ ∀(c:Nat)(d:B)(e:Nat×Nat),a[c]? =some d->b[c]? =some e->iF f d e
theorem gD.same{a b:G}{c:List B}{d:List (Nat×Nat)}(e:gD a c d)(f:Same a b):gD b c d:=#[e.1,λg i j D k=>f _ _ (e.2 g i j D k)]
theorem gD.snoc{H:G}{c:List B}{f:List (Nat×Nat)}{a:B}{g:Nat×Nat}(b:gD H c f)(j:iF H a g):gD H (c++[a]) (f++[g]):=by
 refine#[by simp[b.1],λe k l D d=>?_];by_cases i:e<c.length
 .rw[cF i] at D
  rw[cF (by rw[<-b.1];exact i)] at d;exact b.2 e k l D d
 .have m:e=c.length:=by
   have:=(aC.mp D).1;simp at this;omega
  subst m;rw[dB (av _),ez] at D;rw[dB (by rw[b.1];exact av _),b.1,ez] at d;cases D;cases d;exact j
theorem q_{c a d e:Nat}(f:c<2^d)(g:a<2^e):c*a<2^(d+e):=by
 rw[Nat.pow_add];rcases z2 a with b|b
 .rw[b,ua];exact fu (mc (by omega)) (mc (by omega))
 .exact cP (Nat.mul_lt_mul_of_pos_right f b) (y8 _ (dc g))
theorem K5{fs:List (Nat×Nat)}{m:Nat}(f:∀c∈fs,c.1<2^m/\c.2<2^m):∀(b:Nat×Nat)(a:Nat),b.1<2^(m*a+a+1)->b.2<2^(m*a+1)->(fs.foldl Ma.g1 b).1<2^(m*(a+fs.length)+(a+fs.length)+1)/\(fs.foldl Ma.g1 b).2<2^(m*(a+fs.length)+1):=by
 induction fs with
 |nil=>intro b a D d;exact#[D,d]
 |cons c fs j=>
  intro b a D d;obtain⟨k,g⟩:=f c (a4 ..);rw[ff,bV,show a+(fs.length+1)=(a+1)+fs.length by omega];refine j (λl n=>f l (bj _ n)) _ (a+1) ?_ ?_
  .show b.1*c.2+c.1*b.2<_
   have e:=q_ D g;have o:=q_ k d;have p:2^(m*a+a+1+m)<=2^(m*(a+1)+a+1):=oc (by omega) (by rw[tW];omega);have q:2^(m+(m*a+1))<=2^(m*(a+1)+a+1):=oc (by omega) (by rw[tW];omega);have i:2^(m*(a+1)+(a+1)+1)=2^(m*(a+1)+a+1)*2:=by rw[<-md];rfl
   omega
  .show b.2*c.2<_
   have e:=q_ d g;have i:m*a+1+m=m*(a+1)+1:=by rw[tW];omega
   rw[i] at e;exact e
inductive K6(k:List V)(b:G)(l:VK)(m:XK):Prop
 |mk(g:B)(i:List B)(a:List (Nat×Nat))(n:k=[.ref g])(o:b g=some (.lst (i.map V.ref)))(p:gD b i a)(q:a≠[])(r:a.length<=4)(s:(∀e∈a,0<e.2/\e.1<2^257/\e.2<2^257))(t:∀(f:G)(j:B),Same b f->iF f j (Ma.g2 a)->l (.ref j) f)
theorem K7(o:Tx K d c):ao P w K d base 2 "mean" ["fractions"] K6:=by
 have N:ao P w K d base 1 "common_divisor" ["one","other"] qB:=uK o;refine bS o.VM ["fractions","top","bottom","fraction","divisor"] λO Z aa ab ad nd Q=>?_;obtain⟨z,p,b,rfl,hl,hF,R,ah,q,S⟩:=Q;refine#[_,J (al 1 ai) (J (al 2 ai)
  (J (b_ cv rfl (b9 (E 0)) (aO 3)
   (J (al 1 (aM cg (aM oI (E 1) (dR fC (E 3) ai (λ_ _=>rfl))) (aM oI (dR fC (E 3) ai (λ_ _=>rfl)) (E 2))))
   (ae (al 2 (aM oI (E 2) (dR fC (E 3) ai (λ_ _=>rfl)))))))
  (J (al 2 (aM oI (E 2) (a1 bd rfl o.Q_ bg (af (E 0)))))
  (J (al 4 (aH N (aL (E 2) (E 1))))
  (ae (ax (nI (aL (aM uR (E 1) (E 4)) (aM uR (E 2) (E 4)))))))))),?_]
 have A:∀e,e<=b.length->(Ma.be (b.take e)).1<2^(257*e+e+1)/\(Ma.be (b.take e)).2<2^(257*e+1):=λe r=>by
  have:=K5 (fs:=b.take e) (m:=257) (λs g=>(q s (og g)).2) (0,1) 0 (by show 0<2^_;exact mc (by omega)) (by show 1<2^1;omega);rw[ck,hL r,f4] at this;exact this
 refine#[I.of hl,gl (K:=K) (a:=z) (xs:=p.map V.ref) (λe l k=>∃t,l=[some (.ref z),some (.int (Ma.be (b.take e)).1),some (.int (Ma.be (b.take e)).2),t,none]/\k=O) #[none,rfl,rfl] (λe l k _ ⟨_,_,u⟩=>by rw[u];exact I.of hl) ?_ ?_]
 .rintro e am l k r ⟨t,rfl,rfl⟩
  obtain⟨a,n,rfl⟩:=bt r;obtain⟨f,g⟩:=c7 hF.1 n;have x:iF k a f:=hF.2 e a f n g;have as:e<b.length:=(aC.mp g).1;obtain⟨au,T,C⟩:=q f (a7 g);obtain⟨y,i⟩:=A e (by omega);have m1:lx ((Ma.be (b.take e)).1:Int) (f.2:Int):=oH y C (by omega);have m2:lx (f.1:Int) ((Ma.be (b.take e)).2:Int):=oH T i (by omega);have m3:lx ((Ma.be (b.take e)).2:Int) (f.2:Int):=oH i C (by omega);refine#[a,_,_,_,rfl,rfl,a8.of x,aw (j:=1) (v:=V.int f.2) rfl,m1,a,_,_,_,rfl,rfl,a8.of x,aw (j:=0) (v:=V.int f.1) rfl,m2,?_];refine#[a,_,_,_,rfl,rfl,a8.of x,aw (j:=1) (v:=V.int f.2) rfl,m3,some (.ref a),?_,rfl];have u:Ma.be (b.take (e+1))=Ma.g1 (Ma.be (b.take e)) f:=by
   unfold Ma.be;rw[cp g,iA];rfl
  rw[u];rfl
 rintro l k ⟨t,rfl,rfl⟩;rw[ag,hF.1,dY];obtain⟨y,i⟩:=A b.length (av _);rw[dY] at y i;have D:((p.map V.ref).length:Int)=(b.length:Nat):=by rw[ag,hF.1]
 have F:b.length<2^3:=by omega
 have m4:lx ((Ma.be b).2:Int) (b.length:Int):=oH i F (by omega);refine#[.inl (I.of hl),(by rw[D];exact m4),?_];have U:V.int (((Ma.be b).2:Int)*((p.map V.ref).length:Int))=V.int (((Ma.be b).2*b.length:Nat):Int):=by rw[D];rfl
 dsimp only;rw[U];have W:0<b.length:=by cases b with|nil=>exact absurd rfl R|cons _ _=>simp
 have G:0<(Ma.be b).2*b.length:=fu (Ma.q7 (λs g=>(q s g).1) (0,1) ek) W;have H:0<bh ((Ma.be b).2*b.length) (Ma.be b).1:=kP _ G;have X:(Ma.be b).2*b.length<2^(257*b.length+1+3):=q_ i F;have L:bh ((Ma.be b).2*b.length) (Ma.be b).1<2^(257*b.length+1+3):=lU (uM _ G) X;refine#[(Ma.be b).2*b.length,(Ma.be b).1,rfl,?_];refine#[uS H L (by omega) _,uS H L (by omega) _,(by show 2<=aq;decide),λa n=>?_];exact S _ a (.upd n) (by unfold iF;rw[Y];rfl)
inductive K8(c:Cs)(l:List V)(f:G)(m:VK)(n:XK):Prop
 |mk(g:B)(a:an)(b i:Nat)(j:Nat×Nat)(o:l=[.ref g,.int b,.int i])(p:bM c f g a)(q:b<a.hoppers.length)(r:(Ma.bP a i a.parts.length)[a.entry b]? =some j)(s:∀(e:G)(k:B),Same f e->iF e k j->m (.ref k) e)
theorem K9(k:Tx K d c):ao P w K d base 3 "share" ["board","hopper","tray"] (K8 c):=by
 refine bS k.Vo ["board","hopper","tray","shares","place","part","way"] λT cG cH cJ cK nd o=>?_;obtain⟨U,l,o,e,cN,rfl,⟨cO,bU,hl,cR,cT,s⟩,bW,aV,bY⟩:=o;have ad:=s.wf;have bk:=s.parts.len;have cU:=ad.np;refine#[_,J (al 3 (a3 er))
  (J (b_ cv rfl (s9 rfl k.Sv (af (ah 0))) (h8 rfl (c0 (aO 4) (c0 (aO 5) gj)))
   (ae (ba (aZ dO (ah 5) aT (aW _))
    (ae (aG (cM cI dU ea dS (E 3) (af (nI (aL (nn (aZ dO (E 4) (E 2) (aW _)) ai ai) ai))))))
    (ae (aG (cM cI dU ea dS (E 3) (af (aH (K7 k) (af (gW (own:=[("way",6)]) rfl nd (b9 (ah 5)) (cS (N:=["board","hopper","tray","shares","place","part","way"]) (sc:=bi Cj) (by decide+kernel)) (λ_ _ _ _ _=>aO 6) (λ_ _ _ _ _=>c2) (λ_ _ _ _ _=>dR (r:=kj K) lA (E 3) (E 6) (λ_ _=>rfl))))))))))))
  (ae (ax (aI (E 3) (fX (aI (ah 0) (E 1)) rfl))))),?_]
 refine#[aR _,λj bl=>?_];have aY:Same T (upd T j (.lst [])):=.upd bl;refine#[aY _ _ s.obj,k.Q5,k.Q3,bU,_,rfl,I.of (aY _ _ s.parts.lst),?_];have bZ:∀{a0:G}{b0:HO}{f:List B}{bm:List (Nat×Nat)}{b1:List V},a0 j=some (.lst b1)->gD a0 f bm->gD (upd a0 j b0) f bm:=λb2 g=>#[g.1,λa am C D as=>by
  unfold iF;rw[aa (dL (g.2 a am C D as) b2 (by intro O;cases O))];exact g.2 a am C D as]
 refine zr (λa au m=>∃F H W f,au=[some (.ref U),some (.int o),some (.int e),some (.ref j),F,H,W]/\Same T m/\m j=some (.lst (f.map V.ref))/\gD m f (Ma.bP l e a)) #[none,none,none,[],rfl,aY,Y,rfl,λa am C o=>by simp at o]
  (λa au m _ ⟨_,_,_,_,_,a1,_⟩=>I.of (a1 _ _ s.parts.lst)) ?_ ?_
 .rintro a b3 X au m b4 b6 ⟨F,H,W,f,rfl,b7,ca,cc⟩
  obtain⟨L,bs,rfl⟩:=bt b4;obtain⟨q,x⟩:=c7 bk bs;obtain⟨cV,cW,bx,bz⟩:=s.parts.at_ a L q bs x;have cX:=(aC.mp x).1;have aB:=ad.part a q x;have aD:Same m (upd m X (.tup [.int (a:Nat),.ref L])):=.upd b6;have p:=b7.trans aD;have t:=aD _ _ ca;have y:=cc.same aD;have bA:upd m X (.tup [.int (a:Nat),.ref L]) X=some (.tup [.int (a:Nat),.ref L]):=Y;generalize upd m X (.tup [.int (a:Nat),.ref L])=Q at aD p t y bA⊢;refine#[X,_,rfl,a8.of bA,rfl,_,_,rfl,_,_,rfl,rfl,?_];have a5:=Ma.jH (b:=l) (tr:=e) a (by omega);have cd:f.length=a:=by rw[y.1,a5]
  have bC:(f.map V.ref).length<aq:=by rw[ag,cd];exact small (by omega)
  have bD:∀{n:G}{fa:B},Same Q n->iF n fa (Ma.g3 e a q (Ma.bP l e a))-> ∃F H bb Z,[some (V.ref U),some (.int o),some (.int e),some (.ref j),some (.int (a:Nat)),some (.ref L),W]=[some (.ref U),some (.int o),some (.int e),some (.ref j),F,H,bb]/\Same T (upd n j (.lst (f.map V.ref++[.ref fa])))/\
    upd n j (.lst (f.map V.ref++[.ref fa])) j=some (.lst (Z.map V.ref))/\gD (upd n j (.lst (f.map V.ref++[.ref fa]))) Z (Ma.bP l e (a+1)):=λ{n fa}u ab=>by
   refine#[_,_,_,f++[fa],rfl,(p.trans u).put bl,by rw[Y];simp,?_];rw[Ma.oF x];exact bZ (u _ _ t) ((y.same u).snoc ab)
  refine#[p _ _ bx,k.Q7,k.Q8,rfl,_,rfl,?_];by_cases aJ:q.isTray=true
  .cases q with
   |wheel _ _ _=>cases aJ
   |gate _ _ _ _=>cases aJ
   |tray ce=>
    refine iz ?_;have tup:∀z:Nat,z=(if a=e then 1 else 0)-> ∀A:B,Q A=none->xE j (.ref A) (upd Q A (.tup [.int (z:Nat),.int 1])) (λ_ m=>∃F H bb Z,[some (V.ref U),some (.int o),some (.int e),some (.ref j),some (.int (a:Nat)),some (.ref L),W]=[some (.ref U),some (.int o),some (.int e),some (.ref j),F,H,bb]/\Same T m/\
      m j=some (.lst (Z.map V.ref))/\gD m Z (Ma.bP l e (a+1))):=λz bd A R=>by
     refine#[(Same.upd R) _ _ t,bC,bD (.upd R) ?_];unfold iF Ma.g3;rw[Y,if_pos (show(QT ce).isTray=true from rfl),bd];rfl
    refine#[.inl #[rfl,_,I.of t],rfl,_,rfl,a9 (λD=>?_) (λD=>?_)]
    .have be:a=e:=by
      have O:=of_decide_eq_true D;injection O with O
      omega
     exact#[(by show 2<=aq;decide),λA R=>tup 1 (by rw[if_pos be]) A R]
    .have be:¬a=e:=λO=>D (by rw[O];exact decide_eq_true rfl)
     exact#[(by show 2<=aq;decide),λA R=>tup 0 (by rw[if_neg be]) A R]
  have bF:=dE.mpr aJ;have cf:¬fp q= "tray":=by
   cases q with
   |tray nm=>cases bF
   |wheel _ _ _=>exact show¬("wheel":Str)= "tray" by decide+kernel
   |gate _ _ _ _=>exact show¬("gate":Str)= "tray" by decide+kernel
  obtain⟨_,cg,ch⟩:=Ma.uQ aB bF;refine fH cf ?_;refine#[.inl #[rfl,_,I.of t],p _ _ bx,k.Q7,k.Re,I.of (p _ _ bz),λbG bI=>?_];refine eW (λz n=>Same Q n/\n bG=some (.lst ((((Ma.ways q).take z).map λw=>f.getD w 0).map V.ref))) #[.upd bI,Y] (λz n _ ⟨a1,_⟩=>I.of (a1 _ _ (p _ _ bz))) ?_ ?_
  .rintro z b3 n bd ⟨u,aK⟩
   obtain⟨bf,bL,rfl⟩:=bt bd;have aM:=aB.below bf (a7 bL);have ci:f[bf]? =some (f.getD bf 0):=by rw[aE,a2 (by omega)];rfl
   refine#[rfl,c3 #[I.of (u _ _ t),aw (by rw[a6,ci];rfl),_,aK,?_,u.put bI,?_]]
   .rw[ag,ag,ck]
    exact small (by omega)
   .rw[Y,cp bL,br,br]
    rfl
  rintro n ⟨u,aK⟩;rw[aF,dY] at aK;have cj:∀C∈Ma.bP l e a,Ma.mq C:=λC ab=>(Ma.oG ad e a (by omega) C ab).1;have cl:=Ma.K1 ad (tr:=e) (i:=a) (by omega);have cm:∀g∈Ma.ways q,(Ma.bP l e a).getD g (0,1)∈Ma.bP l e a:=λg S=>by
   have aM:=aB.below g S;rw[aE,a2 (by rw[a5];exact aM)];exact iv _
  refine#[bG,_,(Ma.ways q).map λw=>(Ma.bP l e a).getD w (0,1),rfl,aK,#[by rw[ag,ag],λz am co D as=>?_],by simpa using cg,by rw[ag];exact ch,λco ab=>?_,λcY fa cq aN=>?_]
  .obtain⟨g,S,rfl⟩:=bt D
   obtain⟨c1,bM,rfl⟩:=bt as;rw[S] at bM;cases bM;have aM:=aB.below g (a7 S);have cr:f[g]? =some (f.getD g 0):=by rw[aE,a2 (by omega)];rfl
   have cs:(Ma.bP l e a)[g]? =some ((Ma.bP l e a).getD g (0,1)):=by rw[aE,a2 (by rw[a5];exact aM)];rfl
   exact u _ _ (y.2 g _ _ cr cs)
  .obtain⟨g,S,rfl⟩:=bK.mp ab
   have:=cm g S;exact#[(cj _ this).1,cl _ this]
  .have bR:=u.trans cq
   refine#[bR _ _ t,bC,bD bR ?_];unfold Ma.g3;rw[if_neg aJ];exact aN
 rintro au Q ⟨F,H,W,f,rfl,p,t,y⟩;rw[ag,bk] at y;obtain⟨x,bT⟩:∃x,l.hoppers[o]? =some x:=#[_,a2 bW];obtain⟨ct,cu,c5,cA⟩:=s.Q9.get bT;have cD:l.entry o=x.2:=by simp[ky,bT]
 rw[cD] at aV;obtain⟨fa,aN⟩:=c7 y.1.symm aV;refine#[p _ _ s.obj,k.Q5,k.Q4,I.of (p _ _ s.Q9.lst),aw (v:=V.ref ct) (by rw[a6,cu];rfl),p _ _ cA,k.RB,k.Rm,I.of t,aw (by rw[a6,aN];rfl),bY Q fa p (y.2 _ _ _ aN aV)]
end Mb
end
section
namespace Ma
open Marble
def fL(a:Board):Prop:=(∀b∈a.parts,b.name.length<=16)/\ ∀c∈a.hoppers,c.1.length<=16
def uT:Spot->Prop
 | .trayEnd a=>a.length<=16
 | .wheelWay a _=>a.length<=16
 | .wheelAt a _=>a.length<=16
 | .wheelEnd a _ _=>a.length<=16
 | .gateSize a=>a.length<=16
 | .gateTo a _=>a.length<=16
 | .gateOpen a _ _=>a.length<=16
 | .gateWith a _ _=>a.length<=16
 | .gateEnd a _ _ _=>a.length<=16
 | .hopTo a=>a.length<=16
 | .hopEnd a _=>a.length<=16
 |_=>True
def ra:Tok->Prop
 | .word a=>a.length<=16
 |_=>True
theorem fL.put{c:Board}(d:fL c){a:Part}(f:a.name.length<=16):fL (c.put a):=by
 refine#[λe hq=>?_,d.2];rcases c4.mp hq with b|b
 .exact d.1 e b
 .have:e=a:=by simpa using b
  rw[this];exact f
theorem g4{f:Type}{c:Prop} [Decidable c]{b d:f}(a:(if c then some b else none)=some d):b=d:=by
 by_cases e:c
 .rw[if_pos e] at a;exact b5 a
 .rw[if_neg e] at a;cases a
theorem map_some{b c:Type}{d:Option b}{e:b->c}{f:c}(g:d.map e=some f):∃a,e a=f:=by
 cases d with
 |none=>cases g
 |some a=>exact#[a,b5 g]
theorem K_{i o:Board}{p q:Spot}{c:Tok}(b:fL i)(e:uT p)(k:ra c)(a:i.next p c=some (q,o)):fL o/\uT q:=by
 cases p with
 |begin_=>cases c with
  |word d=>cases g4 (a);exact#[b,trivial]
  |num _=>cases a
  |semi=>cases a
  |bad=>cases a
 |begun=>cases c with
  |semi=>cases a;exact#[b,trivial]
  |word _=>cases a
  |num _=>cases a
  |bad=>cases a
 |open_=>cases c with
  |word d=>
   unfold jE at a;dsimp only at a;split at a
   .cases a;exact#[b,trivial]
   split at a
   .cases a;exact#[b,trivial]
   split at a
   .cases a;exact#[b,trivial]
   split at a
   .cases a;exact#[b,trivial]
   .cases a
  |num _=>cases a
  |semi=>cases a
  |bad=>cases a
 |trayName=>cases c with
  |word d=>cases g4 (a);exact#[b,k]
  |num _=>cases a
  |semi=>cases a
  |bad=>cases a
 |trayEnd d=>cases c with
  |semi=>cases a;exact#[b.put e,trivial]
  |word _=>cases a
  |num _=>cases a
  |bad=>cases a
 |wheelName=>cases c with
  |word d=>cases g4 (a);exact#[b,k]
  |num _=>cases a
  |semi=>cases a
  |bad=>cases a
 |wheelWay d g=>cases c with
  |word w=>
   have j:(if kw "at" w=true then(if 2<=g.length then some (Spot.wheelAt d g,i) else none) else if 4<=g.length then none else(i.find w).map λ(l:Nat)=>(Kj d (g++[l]),i))=some (q,o):=a;split at j
   .cases g4 j;exact#[b,e]
   .split at j
    .cases j
    .obtain⟨l,f⟩:=map_some j
     cases f;exact#[b,e]
  |semi=>cases g4 (a);exact#[b.put e,trivial]
  |num _=>cases a
  |bad=>cases a
 |wheelAt d g=>cases c with
  |num s=>cases g4 (a);exact#[b,e]
  |word _=>cases a
  |semi=>cases a
  |bad=>cases a
 |wheelEnd d g s=>cases c with
  |semi=>cases a;exact#[b.put e,trivial]
  |word _=>cases a
  |num _=>cases a
  |bad=>cases a
 |gateName=>cases c with
  |word d=>cases g4 (a);exact#[b,k]
  |num _=>cases a
  |semi=>cases a
  |bad=>cases a
 |gateSize d=>cases c with
  |num m=>cases g4 (a);exact#[b,e]
  |word _=>cases a
  |semi=>cases a
  |bad=>cases a
 |gateTo d m=>cases c with
  |word w=>
   obtain⟨l,f⟩:=map_some (a);cases f;exact#[b,e]
  |num _=>cases a
  |semi=>cases a
  |bad=>cases a
 |gateOpen d m r=>cases c with
  |word w=>cases g4 (a);exact#[b,e]
  |semi=>cases a;exact#[b.put e,trivial]
  |num _=>cases a
  |bad=>cases a
 |gateWith d m r=>cases c with
  |num n=>cases g4 (a);exact#[b,e]
  |word _=>cases a
  |semi=>cases a
  |bad=>cases a
 |gateEnd d m r n=>cases c with
  |semi=>cases a;exact#[b.put e,trivial]
  |word _=>cases a
  |num _=>cases a
  |bad=>cases a
 |hopName=>cases c with
  |word d=>cases g4 (a);exact#[b,k]
  |num _=>cases a
  |semi=>cases a
  |bad=>cases a
 |hopTo d=>cases c with
  |word w=>
   obtain⟨l,f⟩:=map_some (a);cases f;exact#[b,e]
  |num _=>cases a
  |semi=>cases a
  |bad=>cases a
 |hopEnd d t=>cases c with
  |semi=>
   cases a;refine#[#[b.1,λn u=>?_],trivial];rcases c4.mp u with f|f
   .exact b.2 n f
   .have:n=(d,t):=by simpa using f
    rw[this];exact e
  |word _=>cases a
  |num _=>cases a
  |bad=>cases a
theorem Ak{i:Nat}:∀{d:List (Tok×Nat)}{S:Spot}{b c:Board},(∀e∈d,ra e.1)->fL b->uT S->readFrom i S b d=.ok c->fL c
 |[],S,b,c,_,f,_,a=>by
  unfold readFrom at a;split at a
  .cases a;exact f
  .cases a
 |e::d,S,b,c,g,f,j,a=>by
  unfold readFrom at a;split at a
  .rename_i o k
   obtain⟨D,l⟩:=K_ f j (g e (a4 ..)) (k);exact Ak (λm n=>g m (bj _ n)) D l a
  .cases a
theorem La(c:UInt8)(a:Bytes):ra (token c a).1:=by
 unfold token;split
 .dsimp only
  split
  .rename_i b;exact b
  .trivial
 .split
  .dsimp only
   split<;>trivial
  .split<;>trivial
theorem uU:∀(d f:Nat)(g:Bytes),∀b∈tokensFrom d f g,ra b.1
 |0,_,_,b,a=>by simp[tokensFrom] at a
 |d+1,_,[],b,a=>by simp[tokensFrom] at a
 |d+1,f,c::i,b,a=>by
  unfold tokensFrom at a;split at a
  .exact uU d _ _ b a
  .rcases bw.mp a with e|e
   .rw[e];exact La c i
   .exact uU d _ _ b e
theorem ms{d:Bytes}{c:Board}(a:read d=.ok c):fL c:=Ak (S:=.begin_) (b:=#[[],[]]) (uU _ _ _) #[(λ_ a=>by cases a),(λ_ a=>by cases a)] trivial a
def val(a:Nat×Nat):Rat:=(a.1:Rat)/(a.2:Rat)
abbrev vF(a:aQ):Rat:=val (a.num,a.den)
theorem eS{n:Nat}(b:0<n):((n:Nat):Rat)≠0:=by
 intro a;have:((n:Nat):Rat)=((0:Nat):Rat):=a;have:=Al.mp this;omega
theorem uV{b a:Nat}(l:0<a):vF (hO b a)=(b:Rat)/(a:Rat)/\0<(hO b a).den/\kQ (hO b a).num (hO b a).den:=by
 have c:0<bh b a:=Am _ l;obtain⟨g,i⟩:=mr b a;obtain⟨d,e⟩:=q8 b a;have m:b/bh b a=g:=by
  conv=>lhs;arg 1;rw[i]
  exact kS _ c
 have j:a/bh b a=d:=by
  conv=>lhs;arg 1;rw[e]
  exact kS _ c
 have k:0<d:=by
  rcases z2 d with f|f
  .rw[f,ua] at e;omega
  .exact f
 refine#[?_,?_,?_]
 .show((b/bh b a:Nat):Rat)/((a/bh b a:Nat):Rat)=_
  rw[m,j];have D:(b:Rat)=((bh b a:Nat):Rat)*(g:Rat):=by rw[<-dI,<-i]
  have n:(a:Rat)=((bh b a:Nat):Rat)*(d:Rat):=by rw[<-dI,<-e]
  have o:=eS c;have p:=eS k;rw[D,n]
  grind
 .show 0<a/bh b a
  rw[j];exact k
 .exact Ae c
def fv(a:aQ):Prop:=0<a.den/\kQ a.num a.den
theorem uW{a b:aQ}(c:fv a)(d:fv b):vF (a.add b)=vF a+vF b/\fv (a.add b):=by
 unfold Lb;obtain⟨D,e,f⟩:=uV (fu c.1 d.1);refine#[?_,e,f];rw[D];have g:=eS c.1;have i:=eS d.1;rw[An,dI,dI,dI];show _=(a.num:Rat)/(a.den:Rat)+(b.num:Rat)/(b.den:Rat)
 grind
theorem rb{a:aQ}{k:Nat}(b:fv a)(c:0<k):vF (a.over k)=vF a/(k:Rat)/\fv (a.over k):=by
 unfold Frac.over;obtain⟨D,d,e⟩:=uV (fu b.1 c);refine#[?_,d,e];rw[D];have f:=eS b.1;have g:=eS c;rw[dI];show _=(a.num:Rat)/(a.den:Rat)/(k:Rat)
 grind
theorem Lc{a b:Nat×Nat}(D:0<a.2)(d:0<b.2)(g:kQ a.1 a.2)(i:kQ b.1 b.2)(j:val a=val b):a=b:=by
 have n:=eS D;have o:=eS d;have e:(a.1:Rat)*(b.2:Rat)=(b.1:Rat)*(a.2:Rat):=by
  have p:(a.1:Rat)/(a.2:Rat)=(b.1:Rat)/(b.2:Rat):=j
  grind
 rw[<-dI,<-dI] at e;have c:=Al.mp e;have k:=q9 g.symm #[b.1,by rw[c,dh]];have l:=q9 i.symm #[a.1,by rw[<-c,dh]];have f:=Ao k l;have m:a.1=b.1:=by
  rw[f] at c;exact Ld d c
 exact CS m f
def rs(a:Nat->Rat):Nat->Rat
 |0=>0
 |b+1=>rs a b+a b
theorem uX{c d:Nat->Rat}:∀{a:Nat},(∀b,b<a->c b=d b)->rs c a=rs d a
 |0,_=>rfl
 |a+1,e=>by
  show rs c a+c a=rs d a+d a;rw[uX λb f=>e b (by omega),e a (by omega)]
theorem rc{b g:Nat->Rat}{k:Nat}(d:∀c,c≠k->b c=g c):∀{a:Nat},k<a->rs b a=rs g a+(b k-g k)
 |0,f=>by omega
 |a+1,f=>by
  show rs b a+b a=rs g a+g a+(b k-g k);by_cases e:k=a
  .subst e
   rw[uX λc j=>d c (by omega)]
   grind
  .rw[rc d (by omega),d a (λi=>e i.symm)]
   grind
theorem Le{a:Nat}:rs (λ_=>0) a=0:=by
 induction a with
 |zero=>rfl
 |succ a b=>show rs (λ_=>0) a+0=0;rw[b];grind
theorem Ap{a:Nat->Rat}{b c:Nat}(e:b<c)(f:∀d,d≠b->a d=0):rs a c=a b:=by
 rw[rc f e,Le]
 grind
def g5(a:Nat->Rat):List Nat->Rat
 |[]=>0
 |w::b=>a w+g5 a b
section
variable{b:Board}{S:Nat->Rat}
def el(b:Board)(S:Nat->Rat)(d:Nat)(c:List aQ):Rat:=rs (λa=>if a<d\/b.isTray a=true then vF (c.getD a #[0,1])*S a else 0) b.parts.length
theorem mu(c:List aQ)(a:Nat)(b:aQ):(dv c a b).length=c.length:=by simp[dv]
theorem jI(c:List aQ)(a b:Nat)(e:aQ)(f:a<c.length):(c.set a e).getD b #[0,1]=if b=a then e else c.getD b #[0,1]:=by
 simp only[aE,fk];by_cases d:a=b
 .subst d;simp[f]
 .rw[if_neg d,if_neg (λg=>d g.symm)]
theorem Aq{d w:Nat}{c:List aQ}{e:aQ}(n:c.length=b.parts.length)(f:w<d)(i:w<b.parts.length)(j:fv (c.getD w #[0,1]))(l:fv e):el b S d (dv c w e)=el b S d c+vF e*S w:=by
 unfold el;rw[rc (k:=w) (g:=λa=>if a<d\/b.isTray a=true then vF (c.getD a #[0,1])*S a else 0) (λa m=>?_) i]
 .rw[if_pos (.inl f),if_pos (.inl f)]
  unfold dv;rw[jI _ _ _ _ (by omega),if_pos rfl,(uW j l).1]
  grind
 .unfold dv
  rw[jI _ _ _ _ (by omega),if_neg m]
def g6(c:List aQ):Prop:=∀a,fv (c.getD a #[0,1])
theorem g6.bump{c:List aQ}(a:g6 c){w:Nat}{b:aQ}(d:fv b)(e:w<c.length):g6 (dv c w b):=by
 intro f;unfold dv;rw[jI _ _ _ _ e];split
 .exact(uW (a w) d).2
 .exact a f
theorem Ar{i:Nat}{a:aQ}(g:fv a):∀(d:List Nat)(c:List aQ),c.length=b.parts.length->g6 c->(∀w∈d,w<i)->i<=b.parts.length->
  el b S i (d.foldl (λc w=>dv c w a) c)=el b S i c+vF a*g5 S d/\g6 (d.foldl (λc w=>dv c w a) c)/\(d.foldl (λc w=>dv c w a) c).length=b.parts.length
 |[],c,e,f,_,_=>#[by show _=_+vF a*0;rw[List.foldl_nil];grind,f,e]
 |w::d,c,e,f,hl,j=>by
  have k:=hl w (a4 ..);obtain⟨D,l,m⟩:=Ar g d (dv c w a) (by rw[mu,e]) (f.bump g (by omega)) (λn o=>hl n (bj _ o)) j;rw[ff];refine#[?_,l,m];rw[D,Aq e k (by omega) (f w) g];show _=_+vF a*(S w+g5 S d)
  grind
structure re(b:Board)(S:Nat->Rat)(d:Nat):Prop where
 tray:∀c a,b.parts[c]? =some a->a.isTray=true->S c=if c=d then 1 else 0
 other:∀c a,b.parts[c]? =some a->a.isTray=false->S c=g5 S (ways a)/((ways a).length:Rat)
theorem Lf(v:Wf b){x a:Nat}(t:re b S x){f:Part}(o:b.parts[a]? =some f){c:List aQ}(q:c.length=b.parts.length)(l:g6 c):
  el b S (a+1) c=el b S a (fM f (c.getD a #[0,1]) c)/\g6 (fM f (c.getD a #[0,1]) c)/\(fM f (c.getD a #[0,1]) c).length=b.parts.length:=by
 have y:a<b.parts.length:=(aC.mp o).1;have w:=v.part a f o;have drop:f.isTray=false->el b S (a+1) c=el b S a c+vF (c.getD a #[0,1])*S a:=λr=>by
  have z:¬b.isTray a=true:=by unfold eQ;rw[o];show¬f.isTray=true;rw[r];exact cC
  unfold el;rw[rc (k:=a) (g:=λe=>if e<a\/b.isTray e=true then vF (c.getD e #[0,1])*S e else 0) (λe A=>?_) y]
  .rw[if_pos (.inl (by omega)),if_neg (by rintro(d|d);omega;exact z d)]
   grind
  .by_cases d:e<a\/b.isTray e=true
   .rw[if_pos d,if_pos (by rcases d with d|d;exact .inl (by omega);exact .inr d)]
   .rw[if_neg d,if_neg (by rintro(m|m);exact d (.inl (by omega));exact d (.inr m))]
 cases f with
 |tray s=>
  refine#[?_,l,q];unfold el fM;refine uX λe A=>?_;have C:b.isTray a=true:=by unfold eQ;rw[o];rfl
  by_cases d:e<a\/b.isTray e=true
  .rw[if_pos d,if_pos (by rcases d with d|d;exact .inl (by omega);exact .inr d)]
  .rw[if_neg d,if_neg (by
    rintro(m|m)
    .by_cases E:e=a
     .exact d (.inr (by rw[E];exact C))
     .exact d (.inl (by omega))
    .exact d (.inr m))]
 |wheel s j F=>
  have hl:=w.wheel s j F rfl;have u:=rb (k:=j.length) (l a) (by omega);obtain⟨D,G,H⟩:=Ar (S:=S) (i:=a) u.2 j c q l (λm I=>w.below m I) (by omega);refine#[?_,G,H];show _=el b S a (j.foldl (λJ w=>dv J w ((c.getD a #[0,1]).over j.length)) c);rw[D,drop rfl,t.other a _ o rfl,u.1];show _+vF (c.getD a #[0,1])*(g5 S j/(j.length:Rat))=_;have:=eS (n:=j.length) (by omega)
  grind
 |gate s K p L=>
  have r:p<a:=w.below p (a4 ..);refine#[?_,l.bump (l a) (by omega),by show(dv c p _).length=_;rw[mu,q]];show _=el b S a (dv c p (c.getD a #[0,1]));rw[Aq q r (by omega) (l p) (l a),drop rfl,t.other a _ o rfl];show _+vF (c.getD a #[0,1])*((S p+0)/((1:Nat):Rat))=_;have:((1:Nat):Rat)=1:=rfl;rw[this]
  grind
theorem uY(f:Wf b){tr:Nat}(g:re b S tr):∀(a:Nat)(c:List aQ),a<=b.parts.length->c.length=b.parts.length->g6 c->
  el b S a c=el b S 0 (b.ratesFrom a c)/\g6 (b.ratesFrom a c)/\(b.ratesFrom a c).length=b.parts.length
 |0,c,_,d,e=>#[rfl,e,d]
 |a+1,c,o,d,e=>by
  have i:b.parts[a]? =some (b.parts[a]'(by omega)):=a2 (by omega);obtain⟨D,j,k⟩:=Lf f g i d e;obtain⟨l,m,n⟩:=uY f g a _ (by omega) k j;unfold rg;rw[i];exact#[D.trans l,m,n]
theorem Lg(p:Wf b){c a:Nat}(j:re b S c)(t:a<b.hoppers.length)(e:b.isTray c=true):vF (b.share a c)=S (b.entry a)/\fv (b.share a c):=by
 have k:=ej p t;have q:c<b.parts.length:=by
  unfold eQ at e;cases f:b.parts[c]? with
  |none=>rw[f] at e;cases e
  |some l=>exact(aC.mp f).1
 have u:((aP b.parts.length (#[0,1]:aQ)).set (b.entry a) #[1,1]).length=b.parts.length:=by simp
 have m:∀d,((aP b.parts.length (#[0,1]:aQ)).set (b.entry a) #[1,1]).getD d #[0,1]=if d=b.entry a then#[1,1] else#[0,1]:=λd=>by
  rw[jI _ _ _ _ (by simpa using k)];split
  .rfl
  .rw[aE,fY]
   split<;>rfl
 have v:g6 ((aP b.parts.length (#[0,1]:aQ)).set (b.entry a) #[1,1]):=λd=>by
  rw[m];split
  .exact#[ek,rfl]
  .exact#[ek,rfl]
 obtain⟨D,r,y⟩:=uY p j b.parts.length _ (av _) u v;have hR:b.ratesFrom b.parts.length ((aP b.parts.length (#[0,1]:aQ)).set (b.entry a) #[1,1])=b.rates a:=rfl;rw[hR] at D r;refine#[?_,r c];have w:el b S b.parts.length ((aP b.parts.length (#[0,1]:aQ)).set (b.entry a) #[1,1])=S (b.entry a):=by
  unfold el;rw[Ap k λd n=>?_]
  .rw[if_pos (.inl k),m,if_pos rfl]
   show((1:Nat):Rat)/((1:Nat):Rat)*_=_;have:((1:Nat):Rat)=1:=rfl;rw[this]
   grind
  .rw[m,if_neg n]
   split
   .show((0:Nat):Rat)/((1:Nat):Rat)*_=_
    have:((0:Nat):Rat)=0:=rfl;rw[this]
    grind
   .rfl
 have x:el b S 0 (b.rates a)=vF (b.share a c):=by
  unfold el;rw[Ap q λd n=>?_]
  .rw[if_pos (.inr e)]
   have s:=a2 q;have o:(b.parts[c]).isTray=true:=by unfold eQ at e;rw[s] at e;exact e
   rw[j.tray c _ s o,if_pos rfl];show vF (b.share a c)*1=_
   grind
  .split
   .rename_i i
    have g:b.isTray d=true:=by rcases i with i|i;omega;exact i
    cases f:b.parts[d]? with
    |none=>unfold eQ at g;rw[f] at g;cases g
    |some l=>
     have o:l.isTray=true:=by unfold eQ at g;rw[f] at g;exact g
     rw[j.tray d l f o,if_neg n]
     grind
   .rfl
 rw[<-x,<-D,w]
def kT:List (Nat×Nat)->Rat
 |[]=>0
 |a::b=>val a+kT b
theorem As:∀(c:List (Nat×Nat))(a:Nat×Nat),(∀b∈c,0<b.2)->0<a.2->val (c.foldl g1 a)=val a+kT c
 |[],a,_,_=>by show val a=val a+0;grind
 |b::c,a,d,e=>by
  have f:=d b (a4 ..);rw[ff,As c _ (λg i=>d g (bj _ i)) (fu e f)];have j:val (g1 a b)=val a+val b:=by
   show((a.1*b.2+b.1*a.2:Nat):Rat)/((a.2*b.2:Nat):Rat)=(a.1:Rat)/(a.2:Rat)+(b.1:Rat)/(b.2:Rat);have k:=eS e;have l:=eS f;rw[An,dI,dI,dI]
   grind
  rw[j];show _=val a+(val b+kT c)
  grind
theorem At(a:Nat->Nat×Nat):∀b:List Nat,kT (b.map a)=g5 (λw=>val (a w)) b
 |[]=>rfl
 |w::b=>by
  show val (a w)+kT (b.map a)=val (a w)+g5 (λw=>val (a w)) b;rw[At a b]
theorem Lh{a:List (Nat×Nat)}(c:a≠[])(b:∀d∈a,0<d.2):val (g2 a)=kT a/(a.length:Rat):=by
 have hl:0<a.length:=by cases a with|nil=>exact absurd rfl c|cons _ _=>simp
 have D:0<(be a).2:=q7 b (0,1) ek;have e:g2 a=((hO (be a).1 ((be a).2*a.length)).num,(hO (be a).1 ((be a).2*a.length)).den):=by
  unfold g2 hO;rw[zw]
 rw[e];show vF (hO (be a).1 ((be a).2*a.length))=_;rw[(uV (fu D hl)).1,dI];have i:=eS D;have j:=eS hl;have f:val (be a)=val (0,1)+kT a:=As a (0,1) b ek;have g:val (0,1)=0:=by
  show((0:Nat):Rat)/((1:Nat):Rat)=0;have:((0:Nat):Rat)=0:=rfl;rw[this]
  grind
 have k:val (be a)=((be a).1:Rat)/((be a).2:Rat):=rfl;rw[g] at f
 grind
theorem rh{d c:Nat}:∀a,c<a->a<=b.parts.length->(bP b d a)[c]? =(bP b d (c+1))[c]?
 |0,e,_=>by omega
 |a+1,e,i=>by
  by_cases f:c=a
  .rw[f]
  .have g:a<b.parts.length:=by omega
   rw[oF (a2 g),cF (by rw[jH a (by omega)];omega)];exact rh a (by omega) (by omega)
theorem Au{c a:Nat}{d:Part}(e:b.parts[a]? =some d):(bP b c b.parts.length)[a]? =some (g3 c a d (bP b c a)):=by
 have f:=(aC.mp e).1;rw[rh _ f (av _),oF e,dB (by rw[jH a (by omega)];exact av _),jH a (by omega),ez];rfl
theorem Li{c a w:Nat}(d:w<a)(e:a<=b.parts.length):(bP b c a).getD w (0,1)=(bP b c b.parts.length).getD w (0,1):=by
 rw[aE,aE,rh a d e,rh b.parts.length (by omega) (av _)]
theorem Lj(l:Wf b)(c:Nat):re b (λa=>val ((bP b c b.parts.length).getD a (0,1))) c:=by
 refine#[λa j f g=>?_,λa j f g=>?_]
 .show val ((bP b c b.parts.length).getD a (0,1))=_
  rw[aE,Au f];unfold g3;rw[if_pos g];by_cases i:a=c
  .rw[if_pos i,if_pos i]
   show((1:Nat):Rat)/((1:Nat):Rat)=1;have:((1:Nat):Rat)=1:=rfl;rw[this]
   grind
  .rw[if_neg i,if_neg i]
   show((0:Nat):Rat)/((1:Nat):Rat)=0;have:((0:Nat):Rat)=0:=rfl;rw[this]
   grind
 .have u:=(aC.mp f).1
  have w:=l.part a j f;obtain⟨_,n,_⟩:=uQ w g;rw[aE,Au f];show val (g3 c a j (bP b c a))=_;unfold g3;rw[if_neg (by rw[g];exact cC),Lh (by simpa using n) (λv o=>?_),At,ag]
  .congr 1
   have p:∀e:List Nat,(∀d∈e,d<a)->g5 (λw=>val ((bP b c a).getD w (0,1))) e=g5 (λw=>val ((bP b c b.parts.length).getD w (0,1))) e:=by
    intro e
    induction e with
    |nil=>intro _;rfl
    |cons d e q=>
     intro m;show val ((bP b c a).getD d (0,1))+_=val ((bP b c b.parts.length).getD d (0,1))+_;rw[Li (m d (a4 ..)) (by omega),q λr s=>m r (bj _ s)]
   exact p _ λd k=>w.below d k
  .obtain⟨d,k,rfl⟩:=bK.mp o
   have t:=w.below d k;rw[aE,a2 (by rw[jH a (by omega)];exact t)];exact(oG l c a (by omega) _ (iv _)).1.1
theorem Lk(d:Wf b){a c:Nat}(e:c<b.hoppers.length)(i:b.isTray a=true):(bP b a b.parts.length)[b.entry c]? =some ((b.share c a).num,(b.share c a).den):=by
 have j:=ej d e;obtain⟨D,f⟩:=Lg d (Lj d a) e i;have hl:b.entry c<(bP b a b.parts.length).length:=by rw[jH _ (av _)];exact j
 have g:=(oG d a b.parts.length (av _) _ (iv hl)).1;rw[a2 hl];congr 1;refine Lc g.1 f.1 g.2.2 f.2 ?_;refine oJ ?_ D.symm;rw[aE,a2 hl];rfl
end
theorem Ll{a b c e f:Nat}(hB:0<a)(q:0<e)(r:0<b)(s:kQ c b)(t:f*b=a*c*e):fN a b=a*(e/bh e f):=by
 have k:0<bh e f:=kP _ q;obtain⟨d,l⟩:=mr e f;obtain⟨g,m⟩:=q8 e f;have n:e/bh e f=d:=by
  conv=>lhs;arg 1;rw[l]
  exact kS _ k
 have u:f/bh e f=g:=by
  conv=>lhs;arg 1;rw[m]
  exact kS _ k
 have v:kQ d g:=by
  have:=Ae k;rw[n,u] at this;exact this
 rw[n];have o:g*b=a*c*d:=by
  refine Af k ?_;rw[<-cx,<-m,t]
  conv=>lhs;rw[l]
  rw[Av]
 have w:b∣a*d:=by
  refine q9 s.symm #[g,?_];rw[dh b g,o,dh a c,cx]
 refine Ao (Aw #[d,rfl] w) ?_;obtain⟨j,p⟩:=uZ a b;obtain⟨i,x⟩:=u0 a b;rw[p];refine K0 a (q9 v #[i*c,?_]);have y:a*j=b*i:=by rw[<-p,<-x]
 refine Af r ?_
 calc b*(g*j)=g*b*j:=by rw[<-cx,dh b g]
  _=a*c*d*j:=by rw[o]
  _=c*d*(a*j):=by rw[dh a c,cx c a d,dh a d,<-cx c d a,cx]
  _=c*d*(b*i):=by rw[y]
  _=b*(d*(i*c)):=by rw[Av,dh c d,cx d c i,dh c i]
theorem u1{k:Type}(c:k->Nat):∀(d:List k)(b:Nat),b∣d.foldl (λf a=>fN f (c a)) b/\(∀a∈d,c a∣d.foldl (λf a=>fN f (c a)) b)/\ ∀e,b∣e->(∀a∈d,c a∣e)->d.foldl (λf a=>fN f (c a)) b∣e
 |[],b=>#[Lm _,(λa g=>by cases g),λe g _=>g]
 |l::d,b=>by
  obtain⟨D,n,o⟩:=u1 c d (fN b (c l));rw[ff];refine#[kR (uZ _ _) D,λa i=>?_,λe p m=>o e (Aw p (m l (a4 ..))) λa i=>m a (bj _ i)];rcases bw.mp i with j|j
  .rw[j];exact kR (u0 _ _) D
  .exact n a j
section
variable{b:Board}
structure d2(b:Board)(a:Nat)(d:List Nat)(c:List aQ):Prop where
 pos:0<a
 VN:d.length=b.parts.length
 Tb:c.length=b.parts.length
 U_:g6 c
 eq:∀e,((d.getD e 0:Nat):Rat)=(a:Rat)*vF (c.getD e #[0,1])
theorem Ax:((0:Nat):Rat)=0:=rfl
theorem d2.V9{g a:Nat}{d:List Nat}{c:List aQ}(e:d2 b g d c)(i:0<a):d2 b (g*a) (d.map (·*a)) c:=by
 refine#[fu e.pos i,by rw[ag,e.VN],e.Tb,e.U_,λf=>?_];have j:(d.map (·*a)).getD f 0=d.getD f 0*a:=by
  rw[aE,aE,a6];cases d[f]? with
  |none=>simp
  |some k=>rfl
 rw[j,dI,dI,e.eq]
 grind
theorem d2.bump{e:Nat}{i:List Nat}{c:List aQ}(a:d2 b e i c){w j:Nat}{f:aQ}(g:w<b.parts.length)(k:fv f)(l:(j:Rat)=(e:Rat)*vF f):d2 b e (f8 i w j) (dv c w f):=by
 refine#[a.pos,by rw[c6,a.VN],by rw[mu,a.Tb],a.U_.bump k (by rw[a.Tb];exact g),λm=>?_];rw[eO];unfold dv;rw[jI _ _ _ _ (by rw[a.Tb];exact g)];by_cases d:m=w
 .rw[if_pos #[d,by rw[a.VN];exact g],if_pos d,(uW (a.U_ w) k).1,An,a.eq,l]
  grind
 .rw[if_neg (λn=>d n.1),if_neg d,a.eq]
theorem d2.fold{e:Nat}{i:Nat}{f:aQ}(j:fv f)(k:(i:Rat)=(e:Rat)*vF f):∀(a:List Nat)(d:List Nat)(c:List aQ),d2 b e d c->(∀w∈a,w<b.parts.length)->d2 b e (a.foldl (λm w=>f8 m w i) d) (a.foldl (λc w=>dv c w f) c)
 |[],d,c,g,_=>g
 |w::a,d,c,g,l=>by
  rw[ff,ff];exact d2.fold j k a _ _ (g.bump (l w (a4 ..)) j k) λn o=>l n (bj _ o)
def mv(a:Part)(b:aQ):Nat:=(b.over a.period).den
theorem u2{b c k:Nat}{a:aQ}(f:fv a)(d:0<k)(i:(c:Rat)=(b:Rat)*vF a):c*(a.over k).den=b*(a.over k).num*k/\0<(a.over k).den/\kQ (a.over k).num (a.over k).den:=by
 obtain⟨D,e,g⟩:=rb f d;refine#[?_,e,g];have j:=eS e;have l:=eS d;have m:((a.over k).num:Rat)/((a.over k).den:Rat)=vF a/(k:Rat):=D;have:(c:Rat)*((a.over k).den:Rat)=(b:Rat)*((a.over k).num:Rat)*(k:Rat):=by grind
 rw[<-dI,<-dI,<-dI] at this;exact Al.mp this
theorem ri{d:Nat}{a:Part}(w:ey d a)(e:a.isTray=false):a5 a=a.period/\2<=a5 a/\a5 a<=100:=by
 cases a with
 |tray b=>cases e
 |wheel b c f=>have:=w.wheel b c f rfl;exact#[rfl,this.1,by show c.length<=100;omega]
 |gate b g i j=>have:=w.gate b g i j rfl;exact#[rfl,this.1,this.2.1]
theorem Ln{c:Nat}{a:Part}(w:ey c a)(i:a.isTray=false)(b:Nat×List Nat):gb a c b=(b.1*(a5 a/bh (a5 a) (b.2.getD c 0)),q6 a c (b.2.map (·*(a5 a/bh (a5 a) (b.2.getD c 0))))):=by
 obtain⟨_,n,_⟩:=ri w i;unfold gb;by_cases d:b.2.getD c 0=0
 .rw[if_pos (.inr d),d,JP,IZ (by omega),uN]
  have j:b.2.map (·*1)=b.2:=by simp
  rw[j];unfold q6;rw[d,Nat.zero_div];have k:∀(e:List Nat)(f:List Nat),e.foldl (λl w=>bump l w 0) f=f:=by
   intro e
   induction e with
   |nil=>intro f;rfl
   |cons o e m=>intro f;rw[ff,hH,m]
  rw[k]
 .rw[if_neg (by rintro(g|g);rw[i] at g;cases g;exact d g)]
theorem u3{b:Nat}{i:Part}(w:ey b i)(k:aQ)(c:List aQ)(f:b<c.length){d:Nat}(s:b<=d):(fM i k c).getD d #[0,1]=c.getD d #[0,1]:=by
 have l:∀(a:List Nat)(m:aQ)(c:List aQ),b<c.length->(∀w∈a,w<b)->(a.foldl (λc w=>dv c w m) c).getD d #[0,1]=c.getD d #[0,1]:=by
  intro a m
  induction a with
  |nil=>intro c _ _;rfl
  |cons e a o=>
   intro c f j;have g:=j e (a4 ..);rw[ff,o _ (by rw[mu];exact f) λp q=>j p (bj _ q)];unfold dv;rw[jI _ _ _ _ (by omega),if_neg (by omega)]
 cases i with
 |tray n=>rfl
 |wheel n a t=>exact l a _ c f λe g=>w.below e g
 |gate n u r j=>exact l [r] k c f λe g=>w.below e g
theorem u4(g:Wf b):∀(a:Nat)(c:List aQ)(d:Nat),a<=b.parts.length->c.length=b.parts.length->a<=d->(b.ratesFrom a c).getD d #[0,1]=c.getD d #[0,1]
 |0,c,d,_,_,_=>rfl
 |a+1,c,d,p,f,q=>by
  have i:b.parts[a]? =some (b.parts[a]'(by omega)):=a2 (by omega);have m:(fM (b.parts[a]'(by omega)) (c.getD a #[0,1]) c).length=b.parts.length:=by
   have j:∀(e:List Nat)(k:aQ)(c:List aQ),(e.foldl (λc w=>dv c w k) c).length=c.length:=by
    intro e k
    induction e with
    |nil=>intro c;rfl
    |cons r e n=>intro c;rw[ff,n,mu]
   cases b.parts[a]'(by omega) with
   |tray l=>exact f
   |wheel l e s=>exact(j e _ c).trans f
   |gate l t o u=>exact(j [o] _ c).trans f
  unfold rg;rw[i];rw[u4 g a _ d (by omega) m (by omega),u3 (g.part a _ i) _ _ (by omega) (by omega)]
theorem Lo(z:Wf b){a:Nat}{d:Part}(p:b.parts[a]? =some d)(o:d.isTray=false){l:Nat}{e:List Nat}{c:List aQ}(i:d2 b l e c):
  d2 b (gb d a (l,e)).1 (gb d a (l,e)).2 (fM d (c.getD a #[0,1]) c)/\(gb d a (l,e)).1=fN l (mv d (c.getD a #[0,1]))/\(gb d a (l,e)).1<=l*100:=by
 have w:=z.part a d p;have R:a<b.parts.length:=(aC.mp p).1;obtain⟨A,S,C⟩:=ri w o;rw[Ln w o];dsimp only;have q:0<bh (a5 d) (e.getD a 0):=kP _ (by omega);have D:bh (a5 d) (e.getD a 0)<=a5 d:=uM _ (by omega);have E:0<a5 d/bh (a5 d) (e.getD a 0):=uO D q;have F:a5 d/bh (a5 d) (e.getD a 0)<=100:=bB (Ac _ _) C;obtain⟨G,H,I⟩:=u2 (k:=a5 d) (i.U_ a) (by omega) (i.eq a);have r:=i.V9 E;have J:a5 d∣e.getD a 0*(a5 d/bh (a5 d) (e.getD a 0)):=by
  obtain⟨s,m⟩:=mr (a5 d) (e.getD a 0);obtain⟨t,K⟩:=q8 (a5 d) (e.getD a 0);have L:a5 d/bh (a5 d) (e.getD a 0)=s:=by
   conv=>lhs;arg 1;rw[m]
   exact kS _ q
  rw[L];refine#[t,?_]
  conv=>lhs;arg 1;rw[K]
  conv=>rhs;arg 1;rw[m]
  rw[cx,cx,dh t s]
 have N:(e.map (·*(a5 d/bh (a5 d) (e.getD a 0)))).getD a 0=e.getD a 0*(a5 d/bh (a5 d) (e.getD a 0)):=by
  rw[aE,aE,a6];cases e[a]? with
  |none=>simp
  |some T=>rfl
 refine#[?_,?_,y8 _ F]
 .unfold q6
  rw[N];cases d with
  |tray g=>cases o
  |wheel g f j=>
   have u:=rb (k:=f.length) (i.U_ a) (by show 0<a5 (.wheel g f j);omega);refine d2.fold u.2 ?_ f _ _ r λO P=>by have:=w.below O P;omega
   have m:f.length∣e.getD a 0*(a5 (.wheel g f j)/bh (a5 (.wheel g f j)) (e.getD a 0)):=J;obtain⟨Q,hq⟩:=m;show((e.getD a 0*(a5 (.wheel g f j)/bh (a5 (.wheel g f j)) (e.getD a 0))/f.length:Nat):Rat)=_;have v:0<f.length:=by show 0<a5 (.wheel g f j);omega
   rw[hq,kS _ v,u.1,dI];have U:((e.getD a 0:Nat):Rat)*((a5 (.wheel g f j)/bh (a5 (.wheel g f j)) (e.getD a 0):Nat):Rat)=(f.length:Rat)*(Q:Rat):=by rw[<-dI,hq,dI]
   have V:=i.eq a;have W:=eS v
   grind
  |gate g x n y=>
   have X:n<a:=w.below n (a4 ..);refine r.bump (by omega) (i.U_ a) ?_;show((e.getD a 0*(a5 (.gate g x n y)/bh (a5 (.gate g x n y)) (e.getD a 0))/1:Nat):Rat)=_;rw[Nat.div_one,dI,dI,i.eq a]
   grind
 .unfold mv
  rw[<-A];exact(Ll i.pos (by omega) H I G).symm
theorem u5(m:Wf b):∀(a:Nat)(f:Nat)(g:List Nat)(c:List aQ),a<=b.parts.length->d2 b f g c->
  d2 b (ft b a (f,g)).1 (ft b a (f,g)).2 (b.ratesFrom a c)/\f∣(ft b a (f,g)).1/\
  (∀d e,d<a->b.parts[d]? =some e->e.isTray=false->mv e ((b.ratesFrom a c).getD d #[0,1])∣(ft b a (f,g)).1)/\
  (∀j,f∣j->(∀d e,d<a->b.parts[d]? =some e->e.isTray=false->mv e ((b.ratesFrom a c).getD d #[0,1])∣j)->(ft b a (f,g)).1∣j)/\(ft b a (f,g)).1<=f*100^a
 |0,f,g,c,_,n=>#[n,Lm _,λd e x=>by omega,λj x _=>x,by rw[Nat.pow_zero,uN];exact av _]
 |a+1,f,g,c,H,n=>by
  have k:b.parts[a]? =some (b.parts[a]'(by omega)):=a2 (by omega);have C:b.ratesFrom (a+1) c=b.ratesFrom a (fM (b.parts[a]'(by omega)) (c.getD a #[0,1]) c):=by
   conv=>lhs;unfold rg
   rw[k]
  rw[Aa k,C];generalize I:b.parts[a]'(by omega)=e at k;by_cases o:e.isTray=true
  .have E:gb e a (f,g)=(f,g):=by unfold gb;rw[if_pos (.inl o)]
   have F:fM e (c.getD a #[0,1]) c=c:=by
    cases e with
    |tray J=>rfl
    |wheel _ _ _=>cases o
    |gate _ _ _ _=>cases o
   rw[E,F];obtain⟨D,p,r,s,t⟩:=u5 m a f g c (by omega) n;refine#[D,p,λd l u hq i=>?_,λj hB q=>s j hB λd l u hq i=>q d l (by omega) hq i,?_]
   .by_cases v:d=a
    .subst v;rw[k] at hq;cases hq;rw[o] at i;cases i
    .exact r d l (by omega) hq i
   .rw[md,<-cx]
    exact bB t (Nat.le_mul_of_pos_right _ (by omega))
  .have y:=dE.mpr o
   obtain⟨z,w,G⟩:=Lo m k y n;obtain⟨D,p,r,s,t⟩:=u5 m a _ _ _ (by omega) z;have A:(b.ratesFrom a (fM e (c.getD a #[0,1]) c)).getD a #[0,1]=c.getD a #[0,1]:=by
    rw[u4 m a _ a (by omega) z.Tb (av _),u3 (m.part a e k) _ _ (by rw[n.Tb];omega) (av _)]
   refine#[D,kR (by rw[w];exact uZ _ _) p,λd l u hq i=>?_,λj hB q=>s j ?_ λd l u hq i=>q d l (by omega) hq i,?_]
   .by_cases v:d=a
    .subst v
     rw[k] at hq;cases hq;rw[A];exact kR (by rw[w];exact u0 _ _) p
    .exact r d l (by omega) hq i
   .rw[w]
    refine Aw hB ?_;have:=q a e (by omega) k y;rw[A] at this;exact this
   .rw[md,dh (100^a) 100,<-cx]
    exact bB t (mf _ G)
theorem u6(l:Wf b){h:Nat}(w:h<b.hoppers.length):kO b h=b.again h/\0<kO b h/\kO b h<=100^64:=by
 have r:=ej l w;have x:d2 b 1 (iE b h).2 ((aP b.parts.length (#[0,1]:aQ)).set (b.entry h) #[1,1]):=by
  have s:∀a,((aP b.parts.length (#[0,1]:aQ)).set (b.entry h) #[1,1]).getD a #[0,1]=if a=b.entry h then#[1,1] else#[0,1]:=λa=>by
   rw[jI _ _ _ _ (by simpa using r)];split
   .rfl
   .rw[aE,fY]
    split<;>rfl
  refine#[ek,by simp[iE],by simp,λa=>?_,λa=>?_]
  .rw[s]
   split
   .exact#[ek,rfl]
   .exact#[ek,rfl]
  .rw[s]
   have t:((1:Nat):Rat)=1:=rfl;have g:(iE b h).2.getD a 0=if a=b.entry h then 1 else 0:=by
    unfold iE;simp only[aE,fk,cQ];by_cases m:b.entry h=a
    .subst m;simp[r]
    .rw[if_neg m,if_neg (λy=>m y.symm),fY]
     split<;>rfl
   rw[g];split
   .show((1:Nat):Rat)=((1:Nat):Rat)*(((1:Nat):Rat)/((1:Nat):Rat))
    rw[t];grind
   .show((0:Nat):Rat)=((1:Nat):Rat)*(((0:Nat):Rat)/((1:Nat):Rat))
    rw[t,Ax];grind
 obtain⟨D,z,n,o,p⟩:=u5 l b.parts.length 1 _ _ (av _) x;have hR:b.ratesFrom b.parts.length ((aP b.parts.length (#[0,1]:aQ)).set (b.entry h) #[1,1])=b.rates h:=rfl;rw[hR] at D n o;have A:(ft b b.parts.length (1,(iE b h).2)).1=kO b h:=rfl;rw[A] at D z n o p;have hl:(b.rates h).length=b.parts.length:=D.Tb;obtain⟨K,C,E⟩:=u1 (λc:Part×aQ=>(c.2.over c.1.period).den) (b.parts.zip (b.rates h)) 1;have F:∀c∈b.parts.zip (b.rates h),∃a,b.parts[a]? =some c.1/\(b.rates h).getD a #[0,1]=c.2:=λc q=>by
  obtain⟨a,d⟩:=mo q;rw[g7] at d;exact#[a,d.1,by rw[aE,d.2];rfl]
 have G:∀a f,b.parts[a]? =some f->(f,(b.rates h).getD a #[0,1])∈b.parts.zip (b.rates h):=λa f j=>by
  have d:a<b.parts.length:=(aC.mp j).1;refine a7 (i:=a) ?_;rw[g7];exact#[j,by rw[aE,a2 (by omega)];rfl]
 refine#[Ao (o _ (Ag _) λa f d j e=>C _ (G a f j)) (E _ (Ag _) λc q=>?_),D.pos,?_]
 .obtain⟨a,d,g⟩:=F c q
  have H:a<b.parts.length:=(aC.mp d).1;by_cases e:c.1.isTray=true
  .obtain⟨u,L,I⟩:=u2 (k:=1) (D.U_ a) ek (D.eq a)
   have J:c.1.period=1:=by
    cases v:c.1 with
    |tray N=>rfl
    |wheel _ _ _=>rw[v] at e;cases e
    |gate _ _ _ _=>rw[v] at e;cases e
   show(c.2.over c.1.period).den∣_;rw[J,<-g];refine QU I.symm #[(ft b b.parts.length (1,(iE b h).2)).2.getD a 0,?_];rw[uN] at u;rw[<-u,dh]
  .have:=n a c.1 H d (dE.mpr e)
   rw[g] at this;exact this
 .rw[I0] at p
  exact bB p (oc (by omega) l.np.2)
end
section
variable{b:Board}
theorem Ay{P c:Nat}{a:Part}{b:aQ}(e:fv b)(f:0<a.period)(g:(c:Rat)=(P:Rat)*vF b)(i:mv a b∣P):a.period∣c:=by
 obtain⟨j,k,m⟩:=u2 e f g;obtain⟨d,hq⟩:=i;have l:P=(b.over a.period).den*d:=hq;refine#[d*(b.over a.period).num,?_];refine Ld k ?_;rw[j,l];rw[cx,cx,dh _ a.period,dh];simp only[cx,dh,Av]
theorem Az{a e f:Nat}(g:2<=a/\a<=4)(i:e<a):∀(b:List Nat)(d:Nat)(c:List Nat),d+b.length<=a->bI ((b.zipIdx d).map λj=>(j.1,e0 e a j.2 (a*f))) c=b.foldl (λk w=>bump k w f) c
 |[],d,c,_=>rfl
 |w::b,d,c,l=>by
  rw[bV] at l;rw[qx,bE,ff];rw[IM g (by omega) i];exact Az g i b (d+1) _ (by omega)
theorem AA(t:Wf b){l:List Nat}(z:bT b l){P:Nat}:∀(a:Nat)(c:List Nat)(d:List aQ),a<=b.parts.length->d2 b P c d->
  (∀m e,m<a->b.parts[m]? =some e->e.isTray=false->mv e ((b.ratesFrom a d).getD m #[0,1])∣P)->d2 b P (b.flowFrom l a c) (b.ratesFrom a d)
 |0,c,d,_,f,_=>f
 |a+1,c,d,V,f,p=>by
  have j:b.parts[a]? =some (b.parts[a]'(by omega)):=a2 (by omega);have H:b.ratesFrom (a+1) d=b.ratesFrom a (fM (b.parts[a]'(by omega)) (d.getD a #[0,1]) d):=by
   conv=>lhs;unfold rg
   rw[j]
  rw[H] at p⊢;rw[f2 j];generalize W:b.parts[a]'(by omega)=e at j p;have w:=t.part a e j;have A:=z.2 a e j;have next:d2 b P (bI (eP e (l.getD a 0) (c.getD a 0)) c) (fM e (d.getD a #[0,1]) d):=by
   by_cases u:e.isTray=true
   .cases e with
    |tray i=>exact f
    |wheel _ _ _=>cases u
    |gate _ _ _ _=>cases u
   have v:=dE.mpr u;obtain⟨X,Y,_⟩:=ri w v;have I:(fM e (d.getD a #[0,1]) d).length=b.parts.length:=by
    have C:∀(g:List Nat)(q:aQ)(c:List aQ),(g.foldl (λc w=>dv c w q) c).length=c.length:=by
     intro g q
     induction g with
     |nil=>intro c;rfl
     |cons Z g J=>intro c;rw[ff,J,mu]
    cases e with
    |tray i=>exact f.Tb
    |wheel i g x=>exact(C g _ d).trans f.Tb
    |gate i o r D=>exact(C [r] _ d).trans f.Tb
   have K:(b.ratesFrom a (fM e (d.getD a #[0,1]) d)).getD a #[0,1]=d.getD a #[0,1]:=by
    rw[u4 t a _ a (by omega) I (av _),u3 w _ _ (by rw[f.Tb];omega) (av _)]
   have E:=p a e (by omega) j v;rw[K] at E;obtain⟨y,F⟩:=Ay (f.U_ a) (by omega) (f.eq a) E;cases e with
   |tray i=>cases v
   |wheel i g x=>
    have hl:=w.wheel i g x rfl;have G:=rb (k:=g.length) (f.U_ a) (by omega);have s:c.getD a 0=g.length*y:=F;have L:bI (eP (.wheel i g x) (l.getD a 0) (c.getD a 0)) c=g.foldl (λN w=>bump N w y) c:=by
     rw[s];exact Az #[hl.1,hl.2.1] A g 0 c (by omega)
    rw[L];refine d2.fold G.2 ?_ g _ _ f λq O=>by have:=w.below q O;omega
    have Q:=f.eq a;rw[s,dI] at Q;have aa:=eS (n:=g.length) (by omega);rw[G.1]
    grind
   |gate i o r D=>
    have ab:=w.gate i o r D rfl;have ad:=w.below r (a4 ..);have R:=A;have s:c.getD a 0=o*y:=F;refine f.bump (by omega) (f.U_ a) ?_;have S:(l.getD a 0+c.getD a 0)/o*o=c.getD a 0:=by
     rw[s,Nat.add_mul_div_left _ _ (by omega),tI R,f4,dh]
    rw[S];exact f.eq a
  exact AA t z a _ _ (by omega) next λm T ae hq U=>p m T (by omega) hq U
theorem Lp(f:Wf b){m:List Nat}(S:bT b m){c P:Nat}(s:c<b.hoppers.length)(t:0<P)(n:b.again c∣P):∀a d,b.parts[a]? =some d->d.isTray=false->d.period∣(fl b m (b.entry c) P).getD a 0:=by
 have o:=ej f s;have p:∀a,((aP b.parts.length (#[0,1]:aQ)).set (b.entry c) #[1,1]).getD a #[0,1]=if a=b.entry c then#[1,1] else#[0,1]:=λa=>by
  rw[jI _ _ _ _ (by simpa using o)];split
  .rfl
  .rw[aE,fY]
   split<;>rfl
 have j:d2 b P (bump (cu b) (b.entry c) P) ((aP b.parts.length (#[0,1]:aQ)).set (b.entry c) #[1,1]):=by
  refine#[t,by rw[c6,cQ],by simp,λa=>?_,λa=>?_]
  .rw[p]
   split
   .exact#[ek,rfl]
   .exact#[ek,rfl]
  .rw[p,jv o]
   have q:((1:Nat):Rat)=1:=rfl;split
   .show(P:Rat)=(P:Rat)*(((1:Nat):Rat)/((1:Nat):Rat))
    rw[q];grind
   .show((0:Nat):Rat)=(P:Rat)*(((0:Nat):Rat)/((1:Nat):Rat))
    rw[q,Ax];grind
 have hR:b.ratesFrom b.parts.length ((aP b.parts.length (#[0,1]:aQ)).set (b.entry c) #[1,1])=b.rates c:=rfl;obtain⟨x,r,y⟩:=u1 (λk:Part×aQ=>(k.2.over k.1.period).den) (b.parts.zip (b.rates c)) 1;have hl:(b.rates c).length=b.parts.length:=by
  have:=(uY (S:=λ_=>0) (tr:=b.parts.length) f #[λa d e g=>?_,λa d e g=>?_] b.parts.length _ (av _) j.Tb j.U_).2.2
  .exact this
  .rw[if_neg]
   have:=(aC.mp e).1;omega
  .have:g5 (λ_=>(0:Rat)) (ways d)=0:=by
    induction ways d with
    |nil=>rfl
    |cons k u v=>show(0:Rat)+g5 (λ_=>0) u=0;rw[v];grind
   rw[this]
   grind
 have l:=AA f S b.parts.length _ _ (av _) j λa d w e g=>by
  rw[hR];refine kR (r (d,(b.rates c).getD a #[0,1]) ?_) n;refine a7 (i:=a) ?_;rw[g7];exact#[e,by rw[aE,a2 (by omega)];rfl]
 rw[hR] at l;intro a d e g;have w:a<b.parts.length:=(aC.mp e).1;obtain⟨z,A,_⟩:=ri (f.part a d e) g;refine Ay (l.U_ a) (by omega) (l.eq a) (kR (r (d,(b.rates c).getD a #[0,1]) ?_) n);refine a7 (i:=a) ?_;rw[g7];exact#[e,by rw[aE,a2 (by omega)];rfl]
theorem rj{j k:List Nat}(f:∀g d,b.parts[g]? =some d->d.isTray=false->j.getD g 0=k.getD g 0):∀(a:Nat)(c:List Nat),b.flowFrom j a c=b.flowFrom k a c
 |0,c=>rfl
 |a+1,c=>by
  cases e:b.parts[a]? with
  |none=>rw[iu e,iu e];exact rj f a c
  |some d=>
   rw[f2 e,f2 e];by_cases i:d.isTray=true
   .cases d with
    |tray l=>exact rj f a _
    |wheel _ _ _=>cases i
    |gate _ _ _ _=>cases i
   .rw[f a d e (dE.mpr i)]
    exact rj f a _
theorem oK(i:Wf b)(c:List Nat):b.tells c=b.trays.map λd=>(b.came b.start c).getD d 0:=by
 unfold Board.tells;refine gu λd f=>?_;have a:=(nf.mp f).2;unfold eQ at a;cases e:b.parts[d]? with
 |none=>rw[e] at a;cases a
 |some g=>
  rw[e] at a;cases g with
  |tray j=>
   rw[tM,gZ e];have:b.start.getD d 0=0:=by unfold l6;rw[aE,a6,e];rfl
   rw[this];show 0+_=_;omega
  |wheel _ _ _=>cases a
  |gate _ _ _ _=>cases a
theorem AB(d:Wf b){P c:Nat}(D:b.hoppers.length=1)(n:0<P)(o:b.again 0∣P):b.tells [P+c]=cT (b.tells [P]) (b.tells [c]):=by
 have j:0<b.hoppers.length:=by omega
 have f:=e1 d;have p:∀a,[a]=only b 0 a:=λa=>by
  unfold only;rw[D];rfl
 have cm:∀a,b.came b.start [a]=fl b b.start (b.entry 0) a:=λa=>by
  rw[p a];unfold y2;rw[y3 j]
 have q:fl b b.start (b.entry 0) (P+c)=cT (fl b b.start (b.entry 0) P) (fl b b.start (b.entry 0) c):=by
  rw[tN d f];congr 1;unfold fl;refine rj (λe g i k=>?_) _ _;rw[gZ i];obtain⟨l,hq⟩:=Lp d f j n o e g i k;have ok:=f.2 e g i;rw[hq];cases g with
  |tray c=>cases k
  |wheel c m s=>
   show(b.start.getD e 0+m.length*l)% m.length=_;rw[Lq];exact jt ok
  |gate c a t u=>
   show(b.start.getD e 0+a*l)% a=_;rw[Lq];exact jt ok
 rw[oK d,oK d,oK d,cm,cm,cm,q];unfold cT;rw[List.zipWith_map_left,List.zipWith_map_right,List.zipWith_self];refine gu λr _=>?_;exact hD (by rw[hI,hI]) r
theorem Lr{c:Board}(f:Wf c)(g:Wf b){P:Nat}(i:c.hoppers.length=1)(j:b.hoppers.length=1)(d:0<P)(k:c.again 0∣P)(l:b.again 0∣P)(e:∀a,a<=P->c.tells [a]=b.tells [a]):∀a,c.tells [a]=b.tells [a]:=by
 intro a
 induction a using Hj with
 |_ a m=>
  by_cases n:a<=P
  .exact e a n
  .have o:a=P+(a-P):=by omega
   rw[o,AB f i d k,AB g j d l,e P (av _),m (a-P) (by omega)]
theorem oL{c:Board}(f:c.hoppers.length=1)(e:Nat):c.apart b e=(aS (e+1)).findSome? λa=>if c.tells [a]≠b.tells [a] then some [a] else none:=by
 unfold AC;congr 1;funext a;rw[f];show([[a]]:List (List Nat)).find? _=_;rw[hx];by_cases d:c.tells [a]=b.tells [a]
 .rw[if_neg (λg=>g d)]
  simp[d]
 .rw[if_pos d,show(c.tells [a] !=b.tells [a])=true by simpa using d]
theorem Ls{g:Type}{e:Nat->Option g}{a c:Nat}(i:a<=c)(f:∀d,a<=d->d<c->e d=none):(aS c).findSome? e=(aS a).findSome? e:=by
 obtain⟨b,rfl⟩:∃b,c=a+b:=#[c-a,by omega];clear i
 induction b with
 |zero=>rfl
 |succ b j=>
  rw[show a+(b+1)=a+b+1 by omega,f6,oM,j λd D k=>f d D (by omega)];rw[AD,f (a+b) (by omega) (by omega)];simp
theorem Lu{c:Board}(l:Wf c)(m:Wf b)(f:c.hoppers.length=1)(n:b.hoppers.length=1){P:Nat}(o:0<P)(p:c.again 0∣P)(q:b.again 0∣P){i:Nat}(r:P<=i):c.apart b i=c.apart b P:=by
 by_cases j:∀a,a<=P->c.tells [a]=b.tells [a]
 .have s:=Lr l m f n o p q j
  rw[oL f,oL f];exact Ls (by omega) λa _ _=>by rw[if_neg (λg=>g (s a))]
 .rw[oL f,oL f]
  obtain⟨e,k⟩:∃e,¬(e<=P->c.tells [e]=b.tells [e]):=QV.mp j;have x:=kU λg=>k λt=>absurd t g;have u:c.tells [e]≠b.tells [e]:=λg=>k λ_=>g;obtain⟨d,rfl⟩:∃d,i=P+d:=#[i-P,by omega];clear r
  induction d with
  |zero=>rfl
  |succ d v=>
   rw[<-v,show P+(d+1)+1=(P+d+1)+1 by omega,f6,oM];have:((aS (P+d+1)).findSome? λa=>if c.tells [a]≠b.tells [a] then some [a] else none).isSome=true:=by
    rw[List.findSome?_isSome_iff];exact#[e,e7.mpr (by omega),by rw[if_pos u];rfl]
   cases w:(aS (P+d+1)).findSome? λa=>if c.tells [a]≠b.tells [a] then some [a] else none with
   |none=>rw[w] at this;cases this
   |some y=>rfl
end
end Ma
end
section
namespace Mb
open PySem PySem.Spec PyProof.Rows L2 Ex TL
theorem Lv{a b:Nat}(e:0<a):a/bh a b*b=fN a b:=by
 have c:0<bh a b:=kP _ e;obtain⟨f,d⟩:=mr a b;have g:a/bh a b=f:=by
  conv=>lhs;arg 1;rw[d]
  exact kS _ c
 unfold fN;rw[g]
 conv=>rhs;arg 1;arg 1;rw[d]
 rw[cx,kS _ c]
theorem AE{a:Nat}(b:a<=100^64):a<2^449:=by
 have D:=Ah (by omega) 64;have c:(128:Nat)^64=2^(7*64):=by rw[K2]
 have d:(2:Nat)^(7*64)<2^449:=K3 (by omega) (by omega);omega
inductive Lw(e:List V)(f:G)(g:VK)(i:XK):Prop
 |mk(a b:Nat)(j:e=[.int a,.int b])(k:0<a)(l:0<b)(m:a<2^449)(n:b<2^449)(o:g (.int (fN a b:Nat)) f)
theorem Lx(f:Tx K d c):ao P w K d base 2 "common_multiple" ["one","other"] Lw:=by
 refine bS f.SU ["one","other"] λo p q r s nd i=>?_;obtain⟨a,b,rfl,e,t,g,j,k⟩:=i;have l:0<bh a b:=kP _ e;have m:bh a b<2^449:=lU (uM _ e) g;have hq:a/bh a b<2^449:=lU (Ac _ _) g;refine#[_,ae (ax (aM oI (aM uR (E 0) (aH (uK f) (aL (E 0) (E 1)))) (E 1))),?_];refine#[a,b,rfl,uS l m (by omega) _,oH hq j (by omega),?_];have n:V.int (((a:Nat):Int)/((bh a b:Nat):Int)*(b:Nat))=V.int (fN a b:Nat):=by rw[<-Lv e];rfl
 dsimp only;rw[n];exact k
inductive Ly(c:Cs)(j:List V)(a:G)(k:VK)(l:XK):Prop
 |mk(b e:B)(f g:an)(m:j=[.ref b,.ref e])(n:bM c a b f)(o:bM c a e g)(p:∀i:G,Same a i->k (.bl (f.compares g)) i)
theorem AF(a:Tx K d c):ao P w K d base 2 "comparable" ["one","other"] (Ly c):=by
 refine bS a.T2 ["one","other","same_trays"] λz A C F G nd n=>?_;obtain⟨o,p,b,e,rfl,l,m,q⟩:=n;refine#[_,J (al 2 (pj dO (a1 bd rfl a.Q_ bg (af (aH (qY a) (aL (E 0) aT)))) (a1 bd rfl a.Q_ bg (af (aH (qY a) (aL (E 1) aT)))) (aW _)))
  (ae (ax (DA (E 2) (Dz (pj dO (a1 bd rfl a.Q_ bg (af (ah 0))) (a1 bd rfl a.Q_ bg (af (ah 1))) (aW _)))))),?_]
 refine#[o,"tray",b,rfl,l,λH N g _ r=>?_];refine#[.inl (I.of r),p,"tray",e,rfl,m.same g,λs O i _ t=>?_];refine#[.inl (I.of t),rfl,?_];obtain⟨Q,R,hl,S,u,j⟩:=l.same (g.trans i);obtain⟨T,U,W,X,v,k⟩:=m.same (g.trans i);have x:decide (V.int ((L (gC b "tray" b.parts.length)).length:Nat)=V.int ((L (gC e "tray" e.parts.length)).length:Nat))=(b.trays.length==e.trays.length):=by
  rw[aF,aF,qX,qX,pi];rw[fU,beq_iff_eq,beq_iff_eq];omega
 have y:decide (V.int ((u.map V.ref).length:Nat)=V.int ((v.map V.ref).length:Nat))=(b.hoppers.length==e.hoppers.length):=by
  rw[ag,ag,j.Q9.len,k.Q9.len,pi];rw[fU,beq_iff_eq,beq_iff_eq];omega
 refine#[_,rfl,?_];rw[x];have f:=q s (g.trans i);unfold AG at f;refine a9 (λD=>?_) (λD=>?_)
 .rw[D,Bool.and_true] at f
  refine#[j.obj,a.Q5,a.Q4,.inl (I.of j.Q9.lst),k.obj,a.Q5,a.Q4,.inl (I.of k.Q9.lst),rfl,?_];rw[y];exact f
 .rw[dE.mpr D,xG] at f
  exact f
end Mb
end
section
namespace Ma
open Marble
def ext(b:Nat)(c:List (List Nat)):List (List Nat):=c.flatMap λa=>(aS (b-a.sum+1)).map λd=>a++[d]
def b3(b:Nat):Nat->List (List Nat)->List (List Nat)
 |0,a=>a
 |c+1,a=>b3 b c (ext b a)
def gc(b:Nat)(c:List (List Nat)):List (List Nat):=c.map λa=>a++[b-a.sum]
theorem Lz(b:Nat):∀(a:Nat)(c:List Nat)(d:Nat->List Nat),b3 b a (c.map d)=c.flatMap λi=>b3 b a [d i]
 |0,c,d=>by
  show c.map d=c.flatMap λi=>[d i]
  induction c with
  |nil=>rfl
  |cons e c f=>rw[bE,iG,f];rfl
 |a+1,c,d=>by
  show b3 b a (ext b (c.map d))=c.flatMap λi=>b3 b a (ext b [d i]);have j:∀(a:Nat)(e g:List (List Nat)),b3 b a (e++g)=b3 b a e++b3 b a g:=by
   intro a
   induction a with
   |zero=>intro e g;rfl
   |succ a f=>
    intro e g;show b3 b a (ext b (e++g))=b3 b a (ext b e)++b3 b a (ext b g);rw[<-f];congr 1;exact rk
  induction c with
  |nil=>
   show b3 b a []=[];have:∀a,b3 b a []=[]:=by
    intro a
    induction a with
    |zero=>rfl
    |succ a f=>exact f
   exact this a
  |cons e c f=>
   rw[iG,<-f,<-j];congr 1;show ext b (d e::c.map d)=ext b [d e]++ext b (c.map d);unfold ext;rw[iG,iG,u7,eH]
theorem AH(b:Nat):∀(e:Nat)(a:List Nat),a.sum<=b->gc b (b3 b e [a])=(rowsOf (e+1) (b-a.sum)).map λd=>a++d
 |0,a,_=>rfl
 |e+1,a,o=>by
  show gc b (b3 b e (ext b [a]))=_;have j:ext b [a]=(aS (b-a.sum+1)).map λc=>a++[c]:=by
   unfold ext;rw[iG,u7,eH]
  rw[j,Lz];show gc b (u9 (λc=>b3 b e [a++[c]]) (aS (b-a.sum+1)))=((aS (b-a.sum+1)).flatMap λ(c:Nat)=>(rowsOf (e+1) (b-a.sum-c)).map λ(d:List Nat)=>c::d).map λd=>a++d;unfold gc;rw[LA,LA];have k:∀(f:List Nat),(∀c∈f,c<=b-a.sum)->u9 (λc=>(b3 b e [a++[c]]).map λd=>d++[b-d.sum]) f=u9 (λc=>((rowsOf (e+1) (b-a.sum-c)).map λd=>c::d).map λd=>a++d) f:=by
   intro f
   induction f with
   |nil=>intro _;rfl
   |cons c f l=>
    intro g;have p:=g c (a4 ..);rw[iG,iG,l λm n=>g m (bj _ n)];congr 1;have i:(a++[c]).sum=a.sum+c:=by simp
    have:=AH b e (a++[c]) (by rw[i];omega);unfold gc at this;rw[this,i,dG,Nat.sub_add_eq];refine gu λd _=>?_;simp
  exact k _ λc g=>by have:=e7.mp g;omega
theorem AI(b a:Nat):gc a (b3 a b [[]])=rowsOf (b+1) a:=by
 have:=AH a b [] (aR _);rw[this];simp
theorem LB{b:Nat}{d:List (List Nat)}(e:∀a∈d,a.sum<=b):∀a∈ext b d,a.sum<=b:=by
 intro a c;obtain⟨f,hq,c⟩:=LC.mp c;obtain⟨i,g,rfl⟩:=bK.mp c;have:=e f hq;have:=e7.mp g;simp;omega
theorem mw(a:Nat):∀(c:Nat)(b:List (List Nat)),b3 a (c+1) b=ext a (b3 a c b)
 |0,b=>rfl
 |c+1,b=>mw a c (ext a b)
theorem LD{b:Nat}{a:List (List Nat)}:(ext b a).length<=a.length*(b+1):=by
 unfold ext;rw[List.length_flatMap]
 induction a with
 |nil=>exact aR _
 |cons c d e=>
  rw[bE,hJ,bV,sO,ag,fm];omega
theorem u_(b:Nat):∀a,(b3 b a [[]]).length<=(b+1)^a
 |0=>av _
 |a+1=>by
  rw[mw,md];exact bB LD (mf _ (u_ b a))
def hP(b:Nat):Nat->Nat
 |0=>1
 |a+1=>hP b a*(b+(a+1))/(a+1)
def hQ(a:Nat->Bool):Nat->Bool
 |0=>true
 |b+1=>a b&&hQ a b
theorem va{p:Nat->Bool}:∀{a b:Nat},hQ p a=true->b<a->p b=true
 |0,b,_,d=>by omega
 |a+1,b,d,f=>by
  have c:(p a&&hQ p a)=true:=d;rw[bJ] at c;by_cases e:b=a
  .rw[e];exact c.1
  .exact va c.2 (by omega)
set_option maxRecDepth 100000 in
theorem LF:hQ (λa=>hQ (λb=>LH (hP b a) (choose (b+a) a)) 2001) 9=true:=by decide+kernel
set_option maxRecDepth 100000 in
theorem LI:hQ (λa=>hQ (λb=> !(LJ (choose (b+a) a) 3000)||LJ ((b+1)^(a-1)) 1000000) 2001) 9=true:=by decide+kernel
theorem AJ{p:Nat->Nat->Bool}{a b c d:Nat}(e:hQ (λc=>hQ (p c) b) a=true)(f:c<a)(g:d<b):p c d=true:=va (p:=p c) (va (p:=λc=>hQ (p c) b) e f) g
theorem LK{c d:Nat}(f:c<=8)(g:d<=2000):hP d c=choose (d+c) c:=
 Nat.eq_of_beq_eq_true (AJ (p:=λc e=>LH (hP e c) (choose (e+c) c)) (a:=9) (b:=2001) LF (l2 f) (l2 g))
theorem LL{a b:Nat}(c:a<=8)(d:b<=2000)(e:choose (b+a) a<=3000):(b+1)^(a-1)<=1000000:=by
 have:=AJ LI (l2 c) (l2 d);rw[Nat.ble_eq_true_of_le e] at this;exact Cy this
end Ma
end
section
namespace Mb
open PySem PySem.Spec PyProof.Rows L2 Ex TL
theorem iH{a:Nat}(b:a<=10000000):a<aq:=lU b (by decide)
def c8(e:G)(a:List B)(rs:List (List Nat)):Prop:=a.length=rs.length/\ ∀(b:Nat)(c:B)(d:List Nat),a[b]? =some c->rs[b]? =some d->e c=some (.lst (L d))
theorem c8.same{a b:G}{c:List B}{rs:List (List Nat)}(d:c8 a c rs)(e:Same a b):c8 b c rs:=#[d.1,λf g i D j=>e _ _ (d.2 f g i D j)]
theorem c8.app{c:G}{d e:List B}{rs f:List (List Nat)}(a:c8 c d rs)(g:c8 c e f):c8 c (d++e) (rs++f):=by
 refine#[by simp[a.1,g.1],λi j k D b=>?_];by_cases l:i<d.length
 .rw[cF l] at D
  rw[cF (by rw[<-a.1];exact l)] at b;exact a.2 i j k D b
 .rw[dB (by omega)] at D
  rw[dB (by rw[<-a.1];omega),<-a.1] at b;exact g.2 _ j k D b
theorem c8.one{b:G}{c:B}{d:List Nat}(f:b c=some (.lst (L d))):c8 b [c] [d]:=by
 refine#[rfl,λe g i D a=>?_]
 match e,D,a with
 |0,D,a=>cases D;cases a;exact f
 |e+1,D,a=>simp at D
theorem vb(a:List Nat):L a=(a.map λb=>((b:Nat):Int)).map V.int:=by rw[L,dG];rfl
theorem rl(a:List Nat):(a.map λb=>((b:Nat):Int)).sum=((a.sum:Nat):Int):=by
 induction a with
 |nil=>rfl
 |cons d e c=>rw[bE,hJ,hJ,c];omega
theorem vc(a:Nat):∀b,∀c∈Ma.b3 a b [[]],c.sum<=a
 |0=>λc d=>by rw[cb.mp d];exact aR _
 |b+1=>by rw[Ma.mw];exact Ma.LB (vc a b)
theorem rm(d:Nat):∀a,∀b∈Ma.b3 d a [[]],b.length=a
 |0=>λb c=>by rw[cb.mp c];rfl
 |a+1=>by
  rw[Ma.mw];intro b c;obtain⟨e,h0,D⟩:=LC.mp c;obtain⟨f,_,rfl⟩:=bK.mp D;rw[bq,rm d a e h0];rfl
theorem AK{a:Nat}{b:List (List Nat)}{c:Nat}{d:List Nat}(e:b[c]? =some d):Ma.ext a (b.take (c+1))=Ma.ext a (b.take c)++(aS (a-d.sum+1)).map λf=>d++[f]:=by
 unfold Ma.ext;rw[jJ,e,rk];simp
theorem LM{b:Nat}{a:List (List Nat)}(c:Nat):(Ma.ext b (a.take c)).length<=(Ma.ext b a).length:=by
 conv=>rhs;rw[<-zj c a]
 unfold Ma.ext;rw[rk,bq];omega
theorem c8.get{c:G}{d:List B}{rs:List (List Nat)}(x:c8 c d rs){i:Nat}{b:B}(e:d[i]? =some b):∃a,rs[i]? =some a/\c b=some (.lst (L a)):=by
 obtain⟨a,f⟩:=c7 x.1 e;exact#[a,f,x.2 i b a e f]
theorem c8.nil(a:G):c8 a [] []:=#[rfl,λb c d D e=>by simp at D]
theorem eT{c:G}{b:List B}{d:B}{e:HO}(f:d∈b):less (upd c d e) b=less c b:=by
 funext g;unfold less;by_cases a:g∈b
 .rw[if_pos a,if_pos a]
 .rw[if_neg a,if_neg a,aa (λi=>a (by rw[i];exact f))]
theorem LN{a:G}{b c:List B}(d:∀e∈c,e∈b):Same (less a b) (less a c):=λf k g=>let⟨D,i⟩:=ow g;cJ D (λj=>i (d f j))
theorem gE{a b:G}{l:List B}(c:Same a b):Same (less a l) (less b l):=(bb.of c).less
inductive AL(e:List V)(f:G)(g:VK)(i:XK):Prop
 |mk(a b:Nat)(j:e=[.int a,.int b])(k:a<=8)(l:b<=2000)(m:g (.int (Ma.hP b a:Nat)) f)
theorem LO(j:Tx K d c):ao P w K d base 1 "count_rows" ["hoppers","most"] AL:=by
 refine bS j.T9 ["hoppers","most","rows","hopper"] λk p q r s nd l=>?_;obtain⟨e,b,rfl,t,u,m⟩:=l;refine#[_,J (al 2 ai)
  (J (b_ cv rfl (D_ rfl j.RT (aL ai (aM cg (E 0) ai))) (aO 3)
   (ae (al 2 (aM nE (aM pe (E 2) (aM cg (E 1) (E 3))) (E 3)))))
  (ae (ax (E 2)))),?_]
 refine#[_,_,rfl,#[by decide,by decide,by omega,by omega],?_];have n:((e:Nat)+1-1:Int).toNat=e:=by omega
 rw[n];refine j8 (λa f g=>∃i,f=[some (.int e),some (.int b),some (.int (Ma.hP b a:Nat)),i]/\g=k) #[none,rfl,rfl] ?_ ?_
 .rintro a f g v ⟨i,rfl,rfl⟩
  refine#[.inr #[by omega,by omega],#[by omega,by omega],some (V.int (1+(a:Nat))),?_,rfl];have o:((Ma.hP b a:Nat):Int)*((b:Nat)+(1+(a:Nat)))/(1+(a:Nat))=((Ma.hP b (a+1):Nat):Int):=by
   show _=((Ma.hP b a*(b+(a+1))/(a+1):Nat):Int);rw[Int.natCast_ediv,Int.natCast_mul,LP,LP];have:(1:Int)+(a:Nat)=(a:Nat)+((1:Nat):Int):=by omega
   rw[this]
  show[some (V.int e),some (V.int b),some (V.int (((Ma.hP b a:Nat):Int)*((b:Nat)+(1+(a:Nat)))/(1+(a:Nat)))),some (V.int (1+(a:Nat)))]=_;rw[o]
 .rintro f g ⟨i,rfl,rfl⟩
  exact m
inductive AM(j:List V)(g:G)(k:VK)(l:XK):Prop
 |mk(a b:Nat)(m:j=[.int (a+1:Nat),.int b])(n:(b+1)^a<=1000000)(o:a+1<=8)(p:b<=2000)(q:∀(e:G)(f:B)(i:List B),Same g e->g f=none->e f=some (.lst (i.map V.ref))->c8 e i (vd (a+1) b)->k (.ref f) e)
theorem LQ(F:Tx K d c):ao P w K d base 1 "rows_of" ["hoppers","together"] AM:=by
 refine bS F.U5 ["hoppers","together","rows","hopper","longer","row","count"] λa9 bx bz bA p nd ba=>?_;obtain⟨f,b,rfl,aY,bC,bD,bb⟩:=ba;refine#[_,J (al 2 (a3 (af (a3 er))))
  (J (b_ cv rfl (j7 rfl F.RT (af (aM hr (E 0) ai))) (aO 3)
   (J (al 4 (a3 er))
   (J (b_ cv rfl (b9 (E 2)) (aO 5)
    (ae (aG (cM cI lH oe lG (E 4) (af (gW (own:=[("count",6)]) rfl nd (j7 rfl F.RT (af (aM cg (aM hr (E 1) (a1 (sP rfl) rfl F.Vc AN (af (E 5)))) ai))) (cS (N:=["hoppers","together","rows","hopper","longer","row","count"]) (sc:=bi v9) (by decide+kernel)) (λ_ _ _ _ _=>aO 6) (λ_ _ _ _ _=>c2) (λ_ _ _ _ _=>aM f0 (E 5) (a3 (af (E 6))))))))))
   (ae (al 2 (E 4))))))
  (ae (ax (gW (own:=[("row",5)]) rfl nd (b9 (E 2)) (cS (N:=["hoppers","together","rows","hopper","longer","row","count"]) (sc:=bi v9) (by decide+kernel)) (λ_ _ _ _ _=>aO 5) (λ_ _ _ _ _=>c2) (λ_ _ _ _ _=>aM f0 (E 5) (a3 (af (aM hr (E 1) (a1 (r:=xL K) (sP rfl) rfl F.Vc AN (af (E 5))))))))))),?_]
 refine#[aR _,λW aZ=>#[(show 1<=aq by decide),λa0 a5=>?_]];refine#[_,rfl,by omega,by omega,?_];have bd:(((f+1:Nat):Int)-1).toNat=f:=by omega
 rw[bd];have be:W≠a0:=aK Y a5;refine j8 (λm q ah=>∃s t am as X Z,q=[some (.int (f+1:Nat)),some (.int b),some (.ref s),am,as,X,Z]/\Same a9 ah/\ah s=some (.lst (t.map V.ref))/\c8 ah t (Ma.b3 b m [[]])) #[a0,[W],none,none,none,none,rfl,(Same.upd aZ).put (Same.free (.upd aZ) a5),Y,c8.one ((aa be).trans Y)] ?_ ?_
 .rintro m q au bF ⟨s,t,am,as,X,Z,rfl,ab,hR,G⟩
  refine#[aR _,λv aw=>?_];have bf:s≠v:=aK hR aw;refine#[I.of (xs:=t.map V.ref) ((aa bf).trans hR),?_];refine gl (K:=K) (a:=s) (xs:=t.map V.ref) (λH q x=>∃A aB aD,q=[some (.int (f+1:Nat)),some (.int b),some (.ref s),some (.int (0+(m:Nat))),some (.ref v),aB,aD]/\Same au x/\x v=some (.lst (A.map V.ref))/\c8 (less x [v]) A (Ma.ext b ((Ma.b3 b m [[]]).take H))) #[[],X,Z,rfl,.upd aw,Y,c8.nil _] (λH q x _ ⟨_,_,_,_,aH,_⟩=>I.of (aH _ _ hR)) ?_ ?_
  .rintro H aI q x aJ ⟨A,aB,aD,rfl,O,Q,R⟩
   obtain⟨a,aL,rfl⟩:=bt aJ;obtain⟨r,p,S⟩:=G.get aL;have T:=a7 p;have bk:r.sum<=b:=vc b m r T;have aN:r.length=m:=rm b m r T;have a8:(Ma.ext b ((Ma.b3 b m [[]]).take (H+1))).length<=1000000:=by
    refine bB (LM (H+1)) ?_;rw[<-Ma.mw];exact bB (Ma.u_ b (m+1)) (bB (oc (by omega) (by omega)) aY)
   rw[AK p,bq,ag,fm] at a8;have bl:(((b:Nat):Int)-(r.map λb=>((b:Nat):Int)).sum+1).toNat=b-r.sum+1:=by rw[rl];omega
   refine#[.inl #[rfl,_,I.of Q],a,_,rfl,I.of (by rw[<-vb];exact O _ _ S),_,rfl,by rw[rl];omega,by rw[rl];omega,λy C=>?_];rw[bl];refine Gs (λi e=>∃g,Same x e/\e y=some (.lst (g.map V.ref))/\c8 (less e [y,v]) g ((aS i).map λaI=>r++[aI])) #[[],.upd C,Y,c8.nil _] ?_ ?_
   .rintro i e bG ⟨g,j,n,l⟩
    have ad:g.length=i:=by rw[l.1,ag,fm]
    refine#[rfl,c3 #[(show 1<=aq by decide),λU aT=>?_]];have u:Same e (upd e U (.lst [.int (0+(i:Nat))])):=.upd aT;refine#[a,U,_,_,rfl,rfl,u _ _ (j _ _ (O _ _ S)),Y,?_,λaV D=>?_]
    .rw[aF,aN]
     exact dc (iH (by show m+1<=_;omega))
    have z:=u.trans (Same.upd (o:=.lst (L r++[.int (0+(i:Nat))])) D);refine#[_,z _ _ n,?_,g++[aV],(j.trans z).put C,?_,?_]
    .rw[ag,ad]
     exact iH (by omega)
    .rw[Y,br]
     rfl
    .rw[f6,br,eT (a4)]
     refine(l.same (gE z)).app (c8.one (cJ ?_ ?_))
     .rw[Y]
      have W:(0:Int)+(i:Nat)=(i:Nat):=by omega
      rw[W];exact congrArg (λk=>some (HO.lst k)) (d9 _ _)
     .intro k
      rcases bw.mp k with k|k
      .exact aK (u _ _ n) D k.symm
      .exact aK (u _ _ (j _ _ Q)) D (cb.mp k).symm
   .rintro e ⟨g,j,n,l⟩
    have ad:g.length=b-r.sum+1:=by rw[l.1,ag,fm]
    refine#[v,y,_,_,rfl,rfl,j _ _ Q,n,?_,A++g,_,_,rfl,?_,?_,?_]
    .rw[ag,ag,R.1,ad]
     exact dc (iH (by omega))
    .exact(O.trans j).put aw
    .rw[Y,br]
    .rw[AK p,eT a4]
     exact(R.same (gE j)).app (l.same (LN λk bm=>bj _ bm))
  .rintro q x ⟨A,aB,aD,rfl,O,Q,R⟩
   rw[ag,G.1,dY,<-Ma.mw] at R;exact#[v,A,_,_,_,_,rfl,ab.trans O,Q,R.same (f_ _ _)]
 .rintro q au ⟨s,t,am,as,X,Z,rfl,ab,hR,G⟩
  have a8:(Ma.b3 b f [[]]).length<=1000000:=bB (Ma.u_ b f) aY;refine#[I.of hR,λy C=>?_];refine eW (K:=K) (a:=s) (xs:=t.map V.ref) (λi e=>∃g,Same au e/\e y=some (.lst (g.map V.ref))/\c8 (less e [y]) g ((Ma.gc b (Ma.b3 b f [[]])).take i)) #[[],.upd C,Y,c8.nil _] (λi e _ ⟨_,aH,_⟩=>I.of (aH _ _ hR)) ?_ ?_
  .rintro i aI e aJ ⟨g,j,n,l⟩
   obtain⟨a,aL,rfl⟩:=bt aJ;obtain⟨r,p,S⟩:=G.get aL;have T:=a7 p;have bk:r.sum<=b:=vc b f r T;have aN:r.length=f:=rm b f r T;have bI:i<(Ma.b3 b f [[]]).length:=(aC.mp p).1;have ad:g.length<=i:=by rw[l.1];exact List.length_take_le _ _
   have bs:((b:Nat):Int)-(r.map λb=>((b:Nat):Int)).sum=((b-r.sum:Nat):Int):=by rw[rl];omega
   refine#[rfl,c3 #[a,_,rfl,I.of (by rw[<-vb];exact j _ _ S),(show 1<=aq by decide),λU aT=>?_]]
   try dsimp only
   rw[bs];have u:Same e (upd e U (.lst [.int (b-r.sum:Nat)])):=.upd aT;refine#[a,U,_,_,rfl,rfl,u _ _ (j _ _ S),Y,?_,λaV D=>?_]
   .rw[aF,aN]
    exact dc (iH (by show f+1<=_;omega))
   have z:=u.trans (Same.upd (o:=.lst (L r++[.int (b-r.sum:Nat)])) D);refine#[_,z _ _ n,?_,g++[aV],(j.trans z).put C,?_,?_]
   .rw[ag]
    exact iH (by omega)
   .rw[Y,br]
    rfl
   .have aW:(Ma.gc b (Ma.b3 b f [[]])).take (i+1)=(Ma.gc b (Ma.b3 b f [[]])).take i++[r++[b-r.sum]]:=by
     rw[jJ];unfold Ma.gc;rw[a6,p];rfl
    rw[aW,eT (a4)];refine(l.same (gE z)).app (c8.one (cJ ?_ ?_))
    .rw[Y]
     exact congrArg (λk=>some (HO.lst k)) (d9 _ _)
    .intro k
     exact aK (u _ _ n) D (cb.mp k).symm
  .rintro e ⟨g,j,n,l⟩
   have aW:(Ma.gc b (Ma.b3 b f [[]])).take (t.map V.ref).length=Ma.gc b (Ma.b3 b f [[]]):=by
    rw[ag,G.1];exact fD (by unfold Ma.gc;rw[ag];omega)
   rw[aW,Ma.AI] at l;exact bb e y g (ab.trans j) (ab.free C) n (l.same (f_ _ _))
theorem kW{K:aj}{c:G}:∀a:List Nat,kn K c (L a) (a.map λ(b:Nat)=>g8 (b:Nat))
 |[]=>.nil
 |b::a=>.cons (.int _) (kW a)
theorem mx(d:List Nat):nO (.list (d.map λ(b:Nat)=>g8 (b:Nat)))=true:=by
 unfold nO;have e:∀a:List Nat,LR (a.map λb=>g8 (b:Nat))=true:=λa=>by
  induction a with
  |nil=>rfl
  |cons b a c=>rw[bE,LR,c];rfl
 have f:∀a:List Nat,LS (a.map λb=>g8 (b:Nat))=0:=λa=>by
  induction a with
  |nil=>rfl
  |cons b a c=>rw[bE,LS,c];rfl
 rw[PyData.canLay0,PyData.depth,e,f];rfl
theorem rn:∀a b:List Nat,LU (a.map λ(c:Nat)=>g8 (c:Nat)) (b.map λ(c:Nat)=>g8 (c:Nat))=(a==b)
 |[],[]=>rfl
 |[],_::_=>rfl
 |_::_,[]=>rfl
 |c::a,d::b=>by
  rw[bE,bE,LU,rn a b,jf,List.cons_beq_cons];congr 1;rw[fU,beq_iff_eq,beq_iff_eq];omega
theorem LV{b:Type}{c:b->Bool}{a:List b}{d:Nat}{e:b}(f:(a.take d).find? c=none)(g:a[d]? =some e)(i:c e=true):a.find? c=some e:=by
 conv=>lhs;rw[<-zj (d+1) a]
 rw[ro,jJ,g,ro,f];simp[i]
theorem LW{a:Type}{b:a->Bool}{c:List a}{d:Nat}{e:a}(f:(c.take d).find? b=none)(g:c[d]? =some e)(i:b e=false):(c.take (d+1)).find? b=none:=by
 rw[jJ,g,ro,f];simp[i]
def iI(a b:an)(d:Nat):Option (List Nat):=(vd a.hoppers.length d).find? λ(c:List Nat)=>a.tells c !=b.tells c
theorem apart_at{c d:an}{a b:Nat}{e:List Nat}(g:(aS a).findSome? (iI c d)=none)(k:a<b+1)(i:iI c d a=some e):c.apart d b=some e:=by
 show(aS (b+1)).findSome? (iI c d)=some e;obtain⟨f,j⟩:∃f,b+1=(a+1)+f:=#[b-a,by omega];rw[j,LX,oM,f6,oM,g];simp[i]
theorem LY{a b:an}{c:Nat}(d:(aS c).findSome? (iI a b)=none)(e:iI a b c=none):(aS (c+1)).findSome? (iI a b)=none:=by
 rw[f6,oM,d];simp[e]
theorem ve:∀(a b:Nat)(c:List Nat),c∈vd (a+1) b->c.length=a+1:=λa b c d=>by
 rw[<-Ma.AI] at d;obtain⟨e,hq,rfl⟩:=bK.mp d;rw[bq,rm b a e hq];rfl
theorem AO{a:an}{b:Nat}(c:b∈a.trays):b<a.parts.length:=e7.mp (nf.mp c).1
theorem AQ(a:an):a.trays.length<=a.parts.length:=bB (qZ _ _) (by rw[fm];exact av _)
inductive LZ(c:Cs)(n:List V)(f:G)(i:VK)(o:XK):Prop
 |mk(j k:B)(a g:an)(e:Nat)(p:n=[.ref j,.ref k,.int e])(q:bM c f j a)(r:bM c f k g)(s:a.hoppers.length=g.hoppers.length)(t:e<=2000)(u:(3000<kX (e+a.hoppers.length) a.hoppers.length-> ∀b:G,Same f b->o (.ref c.RQ) none b))(v:(kX (e+a.hoppers.length) a.hoppers.length<=3000-> ∀b:G,Same f b->(∀(l:List Nat)(m:B),a.apart g e=some l->b m=some (.lst (L l))->i (.ref m) b)/\(a.apart g e=none->i .non b)))
theorem AR(g:Tx K d c):ao P w K d base 3 "first_apart" ["one","other","most"] (LZ c):=by
 have ca:ao P w K d base 1 "count_rows" ["hoppers","most"] AL:=LO g;have bs:ao P w K d base 1 "first_numbers" ["board"] (tU c):=kA g;have bx:ao P w K d base 1 "parts_of_kind" ["board","kind"] (uB c):=qY g;have cc:ao P w K d base 1 "rows_of" ["hoppers","together"] AM:=LQ g;have bz:ao P w K d base 2 "came_to" ["board","numbers","balls"] (zu c):=qz g;refine bL g.TK ["one","other","most","hoppers","numbers","other_numbers","trays","other_trays","together","row","came","other_came","tray"] λcd c5 c6 c7 y nd l=>?_;obtain⟨z,A,a,b,n,rfl,R,S,ce,aa,hE,ab⟩:=l;refine#[_,J (al 3 (a1 bd rfl g.Q_ bg (af (ah 0))))
  (J (ba (aZ fW (aH ca (aL (E 3) (E 2))) (bR rfl g.Ux) (aW _)) (ae (eY d7 rfl rfl rfl g.SA g.RI g.SK)) bC)
  (J (al 4 (aH bs (af (E 0))))
  (J (al 5 (aH bs (af (E 1))))
  (J (al 6 (aH bx (aL (E 0) aT)))
  (J (al 7 (aH bx (aL (E 1) aT)))
  (J (b_ jF rfl (j7 rfl g.RT (af (aM cg (E 2) ai))) (aO 8)
   (ae (b_ jF rfl (b9 (aH cc (aL (E 3) (E 8)))) (aO 9)
    (J (al 10 (aH bz (bD (E 0) (E 4) (E 9))))
    (J (al 11 (aH bz (bD (E 1) (E 5) (E 9))))
    (ae (ba (aZ (Gf y.units)
      (gW (own:=[("tray",12)]) rfl nd (b9 (E 6)) (cS (N:=["one","other","most","hoppers","numbers","other_numbers","trays","other_trays","together","row","came","other_came","tray"]) (sc:=bi v_) (by decide+kernel)) (λ_ _ _ _ _=>aO 12) (λ_ _ _ _ _=>c2) (λ_ _ _ _ _=>dR (r:=kj K) lA (E 10) (E 12) (λ_ _=>rfl)))
      (gW (own:=[("tray",12)]) rfl nd (b9 (E 7)) (cS (N:=["one","other","most","hoppers","numbers","other_numbers","trays","other_trays","together","row","came","other_came","tray"]) (sc:=bi v_) (by decide+kernel)) (λ_ _ _ _ _=>aO 12) (λ_ _ _ _ _=>c2) (λ_ _ _ _ _=>dR (r:=kj K) lA (E 11) (E 12) (λ_ _=>rfl))) (aW _))
     (ae (ax (E 9))) bC)))))))
  (ae (ax lf)))))))),?_]
 obtain⟨c8,c_,hl,dd,bA,T⟩:=id R;obtain⟨de,df,dg,di,dj,cf⟩:=id S;have C:=T.wf;have ad:=cf.wf;have ch:bA.length=a.hoppers.length:=T.Q9.len;obtain⟨e,x⟩:∃e,a.hoppers.length=e+1:=#[a.hoppers.length-1,by have:=C.nh;omega];have U:e+1<=8:=by have:=C.nh;omega
 rw[x] at hE ab;have ci:V.int ((bA.map V.ref).length:Nat)=V.int (e+1:Nat):=by rw[ag,ch,x]
 refine#[T.obj,g.Q5,g.Q4,.inl (I.of T.Q9.lst),?_];rw[ci];refine#[e+1,n,rfl,U,aa,_,rfl,?_];rw[Ma.LK U aa];refine a9 (λl=>?_) (λl=>?_)
 .have cj:=of_decide_eq_true l
  exact hE (by omega) cd (Same.refl _)
 have am:kX (n+(e+1)) (e+1)<=3000:=by
  have cj:¬((3000:Int)<_):=λbF=>l (decide_eq_true bF);omega
 have cl:(n+1)^e<=1000000:=Ma.LL U aa am;refine#[z,a,rfl,R,λdk as bG _ bI=>?_];refine#[A,b,rfl,S.same bG,λdl au bM _ bP=>?_];have bS:=bG.trans bM;refine#[z,"tray",a,rfl,R.same bS,λdm aB aD _ bT=>?_];have bU:=bS.trans aD;refine#[A,"tray",b,rfl,S.same bU,λcm aG W _ aI=>?_];have aJ:=bU.trans W;have co:=(bM.trans (aD.trans W)) _ _ bI;have cq:=(aD.trans W) _ _ bP;have aK:=W _ _ bT;rw[qX] at aI aK;clear bI bP bT;refine#[_,rfl,by omega,by omega,?_];have cr:(((n:Nat):Int)+1).toNat=n+1:=by omega
 rw[cr];refine j8 (λk m i=>∃aN o p q s,m=[some (.ref z),some (.ref A),some (.int n),some (.int (e+1:Nat)),some (.ref as),some (.ref au),some (.ref aB),some (.ref aG),aN,o,p,q,s]/\Same cm i/\(aS k).findSome? (iI a b)=none) #[none,none,none,none,none,rfl,Same.refl _,rfl] ?_ ?_
 .rintro k m bW cs ⟨aN,o,p,q,s,rfl,aV,X⟩
  have ct:(0:Int)+(k:Nat)=(k:Nat):=by omega
  rw[ct];refine#[e,k,rfl,bB (Ah (by omega) e) cl,U,by omega,λcu cA cD cG _ hR bY=>?_];refine#[I.of hR,?_];have bZ:=aV.trans cG;refine gl (K:=K) (a:=cA) (xs:=cD.map V.ref) (λj m i=>∃o p q s,m=[some (.ref z),some (.ref A),some (.int n),some (.int (e+1:Nat)),some (.ref as),some (.ref au),some (.ref aB),some (.ref aG),some (.int (k:Nat)),o,p,q,s]/\Same cu i/\((vd (e+1) k).take j).find? (λ(c:List Nat)=>a.tells c !=b.tells c)=none) #[_,_,_,_,rfl,Same.refl _,rfl] (λj m i _ ⟨_,_,_,_,_,D,_⟩=>I.of (D _ _ hR)) ?_ ?_
  .rintro j bF m cH cJ ⟨o,p,q,s,rfl,t,F⟩
   obtain⟨aY,cK,rfl⟩:=bt cJ;obtain⟨f,y,a0⟩:=bY.get cK;have b0:f.length=e+1:=ve e k f (a7 y);have Z:=bZ.trans t;have b1:=aJ.trans Z;refine#[z,as,aY,a,a.start,f,rfl,R.same b1,Z _ _ co,t _ _ a0,by rw[b0,x],Ma.e1 C,λdn m1 G _ cM=>?_];refine#[A,au,aY,b,b.start,f,rfl,S.same (b1.trans G),G _ _ (Z _ _ cq),G _ _ (t _ _ a0),by rw[b0,<-ce,x],Ma.e1 ad,λcN m2 a3 _ cO=>?_];have a5:=Z.trans (G.trans a3);have cR:=a3 _ _ cM;refine#[I.of (a5 _ _ aK),λcT b2=>?_];refine eW (K:=K) (a:=aB) (xs:=L a.trays) (λu i=>Same cN i/\i cT=some (.lst (L ((a.trays.take u).map λk=>(a.came a.start f).getD k 0)))) #[.upd b2,Y] (λu i _ ⟨D,_⟩=>I.of (D _ _ (a5 _ _ aK))) ?_ ?_
   .rintro u cU i a8 ⟨H,bb⟩
    obtain⟨O,Q,rfl⟩:=bt a8;have be:=AO (a7 Q);refine#[rfl,c3 #[I.of (H _ _ cR),aw (j:=O) (v:=V.int ((a.came a.start f).getD O 0:Nat)) (dZ (d_ (by rw[Ma.iw];exact be))),_,bb,?_,H.put b2,?_]]
    .rw[aF,ag,ck]
     exact small (by have:=AQ a;have:=C.np;omega)
    .rw[Y,cp Q,br,d9]
     rfl
   rintro cV ⟨bf,b3⟩;rw[aF,dY,<-Ma.oK C] at b3;have bk:=a5.trans bf;have cW:=bf _ _ cO;refine#[I.of (bk _ _ aI),λcX b4=>?_];refine eW (K:=K) (a:=aG) (xs:=L b.trays) (λu i=>Same cV i/\i cX=some (.lst (L ((b.trays.take u).map λk=>(b.came b.start f).getD k 0)))) #[.upd b4,Y] (λu i _ ⟨D,_⟩=>I.of (D _ _ (bk _ _ aI))) ?_ ?_
   .rintro u cU i a8 ⟨H,bb⟩
    obtain⟨O,Q,rfl⟩:=bt a8;have be:=AO (a7 Q);refine#[rfl,c3 #[I.of (H _ _ cW),aw (j:=O) (v:=V.int ((b.came b.start f).getD O 0:Nat)) (dZ (d_ (by rw[Ma.iw];exact be))),_,bb,?_,H.put b4,?_]]
    .rw[aF,ag,ck]
     exact small (by have:=AQ b;have:=ad.np;omega)
    .rw[Y,cp Q,br,d9]
     rfl
   rintro cY ⟨bl,b6⟩;rw[aF,dY,<-Ma.oK ad] at b6;have c0:=bk.trans bl;have b7:=(G.trans a3).trans (bf.trans bl);refine#[_,_,.lst (I.of (bl _ _ b3)) (kW (a.tells f)),.lst (I.of b6) (kW (b.tells f)),mx _,mx _,_,rfl,?_];have c1:(!jf (.list ((a.tells f).map λ(bm:Nat)=>g8 (bm:Nat))) (.list ((b.tells f).map λ(bm:Nat)=>g8 (bm:Nat))))=(a.tells f !=b.tells f):=by rw[jf,rn];rfl
   rw[c1];refine a9 (λl=>?_) (λl=>?_)
   .refine ?_
    refine(ab am cY (aJ.trans c0)).1 f aY (apart_at X cs ?_) (b7 _ _ (t _ _ a0));unfold iI;rw[x];exact LV F y l
   .exact#[_,_,_,_,rfl,t.trans b7,LW F y (dE.mpr l)]
  .rintro m cH ⟨o,p,q,s,rfl,t,F⟩
   rw[ag,bY.1,dY] at F;refine#[_,_,_,_,_,rfl,bZ.trans t,LY X ?_];unfold iI;rw[x];exact F
 .rintro m bW ⟨aN,o,p,q,s,rfl,aV,X⟩
  exact(ab am bW (aJ.trans aV)).2 X
theorem L0(a:Nat):kX (a+1) 1=a+1:=by simp[kX,f6]
theorem L1{c f:an}(g:c.hoppers.length=1){i:Nat}{d:List Nat}(e:c.apart f i=some d):∃a,d=[a]:=by
 rw[Ma.oL g] at e;obtain⟨a,_,b⟩:=AS e;split at b
 .exact#[a,(b5 b).symm]
 .cases b
inductive L3(c:Cs)(l:List V)(f:G)(g:VK)(m:XK):Prop
 |mk(i j:B)(a b:an)(n:l=[.ref i,.ref j])(o:bM c f i a)(p:bM c f j b)(q:a.hoppers.length=1)(r:b.hoppers.length=1)(s:∀e:G,Same f e->
 (∀k:Nat,a.apart b 2000=some [k]->g (.int k) e)/\(a.apart b 2000=none->fN (a.again 0) (b.again 0)<=2000->g (.int 0) e)/\(a.apart b 2000=none->2000<fN (a.again 0) (b.again 0)->m (.ref c.RQ) none e))
theorem L4(a:Tx K d c):ao P w K d base 4 "ever_apart" ["one","other"] (L3 c):=by
 refine bL a.T7 ["one","other","whole","row"] λX Y Z aa ab nd e=>?_;obtain⟨v,x,b,f,rfl,n,o,l,y,m⟩:=e;refine#[_,J (al 2 (aH (Lx a) (aL (aH (uL a) (aL (E 0) ai)) (aH (uL a) (aL (E 1) ai)))))
  (J (al 3 (bz (AR a) (bD (E 0) (E 1) (a1 (Ev rfl) rfl a.V_ QW (aL (E 2) (bR rfl a.SW))))))
  (J (ba (lj (Dq (E 3))) (ae (ax (aI (E 3) ai))) bC)
  (J (ba (aZ fW (E 2) (bR rfl a.SW) (aW _)) (ae (eY d7 rfl rfl rfl a.SA a.RI a.SK)) bC)
  (ae (ax ai))))),?_]
 have z:Ma.Wf b:=by obtain⟨_,_,_,_,_,p⟩:=n;exact p.wf
 have A:Ma.Wf f:=by obtain⟨_,_,_,_,_,p⟩:=o;exact p.wf
 obtain⟨C,q,D⟩:=Ma.u6 z (h:=0) (by omega);obtain⟨F,r,G⟩:=Ma.u6 A (h:=0) (by omega);rw[C] at q D;rw[F] at r G;have H:=Nat.lcm_pos q r;refine#[v,b,0,rfl,n,by omega,λad L=>?_];refine#[x,f,0,rfl,o.same L,by omega,λaf O=>?_];have i:=L.trans O;rw[C,F];refine#[b.again 0,f.again 0,rfl,q,r,AE D,AE G,?_];generalize N:fN (b.again 0) (f.again 0)=j at H m;have Q:=N▸uZ _ _;have R:=N▸u0 _ _;obtain⟨g,S,T,s⟩:∃g:Nat,(if(2000:Int)<(j:Nat) then 2000 else((j:Nat):Int))=(g:Nat)/\g<=2000/\b.apart f 2000=b.apart f g:=by
  by_cases e:2000<j
  .exact#[2000,by rw[if_pos (by omega)];rfl,by omega,rfl]
  .exact#[j,by rw[if_neg (by omega)],by omega,Ma.Lu z A l y H Q R (by omega)]
 refine#[_,_,rfl,?_];rw[S];have ah:kX (g+b.hoppers.length) b.hoppers.length<=3000:=by rw[l,L0];omega
 refine#[v,x,b,f,g,rfl,n.same i,o.same i,by rw[l,y],T,λe=>absurd e (by omega),λ_ t u=>#[λam as k hl=>?_,λk=>?_]]
 .obtain⟨U,rfl⟩:=L1 l k
  refine#[_,rfl,?_];refine dm #[I.of hl,aw rfl,?_];exact(m t (i.trans u)).1 U (by rw[s,k])
 .refine#[_,rfl,dk #[_,rfl,a9 (λe=>?_) (λe=>?_)]]
  .have V:=of_decide_eq_true e
   exact(m t (i.trans u)).2.2 (by rw[s,k]) (by omega)
  .have V:¬((2000:Int)<(j:Nat)):=λW=>e (decide_eq_true W)
   exact(m t (i.trans u)).2.1 (by rw[s,k]) (by omega)
def cq(b:B)(c:XK)(d:G):Prop:=∀a:G,Same d a->c (.ref b) none a
theorem iJ(a:ay):(nb a).length=a.length:=by unfold nb;rw[ag]
theorem cq.same{a:B}{b:XK}{c d:G}(e:cq a b c)(f:Same c d):cq a b d:=λg i=>e g (f.trans i)
inductive AT(c:Cs)(f:List V)(e:G)(g:VK)(i:XK):Prop
 |mk(a b:Nat)(j:f=[.int a,.int b])(k:(a<=b->g .non e))(l:(b<a->i (.ref c.Rb) none e))
theorem my(b:Tx K d c):ao P w K d base 1 "check_most" ["number","most"] (AT c):=by
 refine bL b.Uh ["number","most"] λl m n o p nd a=>?_;obtain⟨e,f,rfl,g,i⟩:=a;refine#[_,ae (ba (aZ fW (E 0) (E 1) (aW _)) (ae (eY d7 rfl rfl rfl b.R7 b.RW b.Su)) bC),?_];refine#[_,rfl,a9 (λa=>?_) (λa=>?_)]
 .have j:=of_decide_eq_true a
  exact i (by omega)
 .have j:¬(((f:Nat):Int)<(e:Nat)):=λk=>a (decide_eq_true k)
  exact g (by omega)
inductive AU(c:Cs)(f:List V)(e:G)(g:VK)(i:XK):Prop
 |mk(a b:Nat)(j:f=[.int a,.int b])(k:(a<b->g .non e))(l:(b<=a->i (.ref c.Rs) none e))
theorem kY(b:Tx K d c):ao P w K d base 1 "check_below" ["number","bound"] (AU c):=by
 refine bL b.TB ["number","bound"] λl m n o p nd a=>?_;obtain⟨e,f,rfl,g,i⟩:=a;refine#[_,ae (ba (aZ su (E 0) (E 1) (aW _)) (ae (eY d7 rfl rfl rfl b.RD b.Rq b.RA)) bC),?_];refine#[_,rfl,a9 (λa=>?_) (λa=>?_)]
 .have j:=of_decide_eq_true a
  exact i (by omega)
 .have j:¬(((f:Nat):Int)<=(e:Nat)):=λk=>a (decide_eq_true k)
  exact g (by omega)
inductive L5(c:Cs)(f:List V)(e:G)(g:VK)(i:XK):Prop
 |mk(a b:Nat)(j:f=[.int a,.int b])(k:(¬(a<1\/b<a)->g .non e))(l:((a<1\/b<a)->i (.ref c.Rb) none e))
theorem AV(b:Tx K d c):ao P w K d base 1 "check_rounds" ["number","most"] (L5 c):=by
 refine bL b.Tl ["number","most"] λl m n o p nd a=>?_;obtain⟨f,j,rfl,k,g⟩:=a;refine#[_,ae (ba (PW.pt (j2 (aZ ia (E 0) ai (aW _)) (j1 (aZ fW (E 0) (E 1) (aW _))))) (ae (eY d7 rfl rfl rfl b.R7 b.RW b.Su)) bC),?_];refine#[_,rfl,a9 (λa=>?_) (λa=>?_)]
 .have i:=of_decide_eq_true a
  exact dm (g (.inl (by omega)))
 .have D:¬(((f:Nat):Int)<1):=λe=>a (decide_eq_true e)
  refine#[_,rfl,a9 (λa=>?_) (λa=>?_)]
  .have i:=of_decide_eq_true a
   exact g (.inr (by omega))
  .have i:¬(((j:Nat):Int)<(f:Nat)):=λe=>a (decide_eq_true e)
   exact k (by omega)
theorem AW{c d:Nat}:(!decide (V.int (c:Nat)=V.int (d:Nat)))=decide (¬c=d):=by
 rw[fU,n2,decide_eq_false_iff_not,decide_eq_true_eq];exact#[λb a=>b (by rw[a]),λb a=>b (by injection a with a;omega)]
inductive L6(c:Cs)(g:List V)(a:G)(i:VK)(j:XK):Prop
 |mk(f:B)(b:List Nat)(e:Nat)(k:g=[.ref f,.int e])(l:a f=some (.lst (L b)))(m:(b.length=e->i .non a))(n:(¬b.length=e->j (.ref c.Rp) none a))
theorem rp(a:Tx K d c):ao P w K d base 1 "check_count" ["row","count"] (L6 c):=by
 refine bL a.Tz ["row","count"] λi j k l m nd b=>?_;obtain⟨n,o,p,rfl,hl,e,f⟩:=b;refine#[_,ae (ba (aZ fV (a1 bd rfl a.Q_ bg (af (E 0))) (E 1) (aW _)) (ae (eY d7 rfl rfl rfl a.SX a.RF a.TM)) bC),?_];refine#[.inl (I.of hl),rfl,_,rfl,?_];rw[aF,AW];exact a9 (λb=>f (of_decide_eq_true b)) (λb=>e (kU λg=>b (decide_eq_true g)))
inductive L7(c:Cs)(g:List V)(a:G)(i:VK)(j:XK):Prop
 |mk(f:B)(b:an)(e:Nat)(k:g=[.ref f,.int e])(l:bM c a f b)(m:(b.isTray e=true->i .non a))(n:(b.isTray e=false->j (.ref c.Rs) none a))
theorem AX(a:Tx K d c):ao P w K d base 2 "check_tray" ["board","part"] (L7 c):=by
 refine bL a.T8 ["board","part"] λs t u x y nd g=>?_;obtain⟨z,i,j,rfl,⟨A,C,D,F,G,b⟩,k,f⟩:=g;refine#[_,J (aG (bz (kY a) (aL (E 1) (a1 bd rfl a.Q_ bg (af (ah 0))))))
  (ae (ba (aZ fV (fX (aI (ah 0) (E 1)) rfl) aT (aW _)) (ae (eY d7 rfl rfl rfl a.RD a.Rq a.RA)) bC)),?_]
 refine#[b.obj,a.Q5,a.Q3,.inl (I.of b.parts.lst),j,i.parts.length,?_,λl=>?_,λm=>f ?_]
 .rw[ag,b.parts.len]
  rfl
 .obtain⟨n,e⟩:=Ma.gw l
  obtain⟨o,p,q⟩:=b.parts.get e;obtain⟨H,L,r,N⟩:=id q;refine#[b.obj,a.Q5,a.Q3,I.of b.parts.lst,aw (v:=V.ref o) (by rw[a6,p];rfl),r,a.Q7,a.Q8,rfl,_,rfl,?_];cases n with
  |tray nm=>exact qy (k (by unfold eQ;rw[e];rfl))
  |wheel _ _ _=>exact mi (show¬("wheel":Str)= "tray" by decide+kernel) (f (by unfold eQ;rw[e];rfl))
  |gate _ _ _ _=>exact mi (show¬("gate":Str)= "tray" by decide+kernel) (f (by unfold eQ;rw[e];rfl))
 .unfold eQ
  rw[eu m];rfl
inductive L8(i:List V)(b:G)(j:VK)(k:XK):Prop
 |mk(g:B)(a:List Nat)(l:i=[.ref g])(m:b g=some (.lst (L a)))(n:a.length<=1000000)(o:∀(e:G)(f:B),Same b e->b f=none->e f=some (.lst (L (a.length::a)))->j (.ref f) e)
theorem iK(b:Tx K d c):ao P w K d base 1 "counted" ["row"] L8:=by
 refine bS b.U2 ["row"] λe o p q r nd i=>?_;obtain⟨j,k,rfl,hl,s,l⟩:=i;refine#[_,ae (ax (aM f0 (a3 (af (a1 bd rfl b.Q_ bg (af (E 0))))) (E 0))),?_];refine#[.inl (I.of hl),(show 1<=aq by decide),λf m=>?_];have a:Same e (upd e f (.lst [.int ((L k).length:Nat)])):=.upd m;refine#[f,j,_,_,rfl,rfl,Y,a _ _ hl,?_,λn g=>?_]
 .rw[aF]
  exact dc (iH (by show 1+_<=_;omega))
 .refine l _ n (a.trans (.upd g)) (a.free g) ?_
  rw[Y,aF];rfl
inductive vf(c:Cs)(k:List V)(b:G)(l:VK)(f:XK):Prop
 |mk(g:B)(a:ay)(n:k=[.ref g])(o:b g=some (.lst (L (nb a))))(p:(16384<a.length->cq c.Rb f b))(q:(a.length<=16384->(∀i,bQ a=.ok i-> ∀(e:G)(j:B),Same b e->bM c e j i->l (.ref j) e)/\(∀m,bQ a=.error m->cq c.Rr f b)))
theorem gF(a:Tx K d c):ao P w K d base 9 "board_of" ["text"] (vf c):=by
 refine bL a.UJ ["text"] λg z A q r nd b=>?_;obtain⟨s,l,rfl,m,t,n⟩:=b;refine#[_,J (aG (bz (my a) (aL (a1 bd rfl a.Q_ bg (af (E 0))) (bR rfl a.Sd))))
  (ae (tp (E1:=λ_ o dd g=>∃f,o=.ref c.RP/\dd=some f/\ ∀e,g e=none->q (.ref c.Rr) none (upd g e (.ext (XO e (.ref c.RP) (some f))))) rfl rfl
   (λC D u i=>ae (ax (l0 (zW a) r rfl i (af (E 0)))))
   (HX rfl rfl rfl rfl a.T1 a.Sb (λe=>ae (H0 HZ rfl rfl a.TV a.UY a.SD a.UF)) to)
   (λu o dd g b=>by
    obtain⟨f,rfl,rfl,hE⟩:=b;refine#[c.RP,c.RR,rfl,a.Sb,?_];rw[if_pos rfl];exact λe j=>#[#[_,f,Y],hE e j]))),?_]
 refine#[.inl (I.of m),(nb l).length,16384,?_,λb=>?_,λb=>?_]
 .rw[aF]
  rfl
 .rw[iJ] at b
  refine#[s,l,rfl,m,by omega,λv x p e k hB=>(n b).1 v x p e k hB,λy i p f k F=>#[f,rfl,rfl,λe j=>?_]];exact(n b).2 y i _ (k.trans (.upd j))
 .rw[iJ] at b
  exact t b g (Same.refl _)
abbrev b0:=Except Nat (List Nat)
def kZ(c:Cs):Nat->B
 |1=>c.Rb
 |2=>c.Rr
 |4=>c.Rs
 |5=>c.Rp
 |6=>c.RQ
 |8=>c.Rf
 |9=>c.RK
 |_=>c.RU
def b1(c:Cs)(e:VK)(f:XK)(a:G):b0->Prop
 | .ok g=>∀(b:G)(d:B),Same a b->a d=none->b d=some (.lst (L g))->e (.ref d) b
 | .error i=>cq (kZ c i) f a
theorem b1.same{c:Cs}{d:VK}{e:XK}{f g:G}{a:b0}(i:b1 c d e f a)(b:Same f g):b1 c d e g a:=by
 cases a with
 |ok o=>exact λj k l m n=>i j k (b.trans l) (b.free m) n
 |error p=>exact cq.same i b
def cW:b0->gG
 | .ok a=>Marble.ints a
 | .error b=>c9 b
def cO(a:ay)(bad:Bool)(b:an->b0):b0:=if 16384<a.length\/bad=true then .error 1 else match bQ a with
 | .error _=>.error 2
 | .ok c=>b c
theorem hS{a:ay}{bad:Bool}{d:an->b0}{g:an->gG}(e:∀b,bQ a=.ok b->cW (d b)=g b):cW (cO a bad d)=vg a bad g:=by
 unfold cO vg mz;by_cases c:16384<a.length\/bad=true
 .rw[if_pos c,if_pos (by rw[lM,decide_eq_true_eq];exact c)]
  rfl
 .rw[if_neg c,if_neg (by rw[lM,decide_eq_true_eq];exact c)]
  cases f:bQ a with
  |error i=>rfl
  |ok b=>exact e b f
def iL(a:ay):b0:=if 16384<a.length then .error 1 else match bQ a with
 | .error b=>.ok [1,b]
 | .ok _=>.ok [0]
theorem L9(a:ay):eb (.board a)=some (cW (iL a)):=by
 show some (if mz a=true then c9 1 else match bQ a with
  | .error c=>Marble.ints [1,c]
  | .ok _=>iM 0)=_
 unfold iL mz Marble.TEXT;by_cases b:16384<a.length
 .rw[if_pos b,if_pos (decide_eq_true (b))]
  rfl
 .rw[if_neg b,if_neg (λd=>b (of_decide_eq_true d))]
  cases e:bQ a with
  |error c=>rfl
  |ok f=>rfl
inductive iN(c:Cs)(f:ay->b0)(g:List V)(a:G)(i:VK)(j:XK):Prop
 |mk(nm rs b:B)(e:ay)(k:g=[.ref nm,.ref rs])(l:a rs=some (.lst [.ref b]))(m:a b=some (.lst (L (nb e))))(n:b1 c i j a (f e))
theorem L_(b:Tx K d c):ao P w K d base 9 "tell_fault" ["numbers","rows"] (iN c iL):=by
 refine bL b.Ue ["numbers","rows","fault"] λf H L N z nd k=>?_;obtain⟨nm,rs,A,t,rfl,u,v,g⟩:=k;refine#[_,J (aG (bz (my b) (aL (a1 bd rfl b.Q_ bg (af (aI (E 1) ai))) (bR rfl b.Sd))))
  (J (tp (E1:=λp x dd f=>∃(e:B)(l:Nat),x=.ref c.RP/\dd=some e/\f e=some (.xd [("place",.int l)])/\ ∀a j,f a=none->upd f a (.ext (XO a (.ref c.RP) (some e))) j=none->p.rt (.ref j) (upd (upd f a (.ext (XO a (.ref c.RP) (some e)))) j (.lst [.int 1,.int l]))) rfl rfl
   (λO C p q=>ae (aG (l0 (zW b) z rfl q (af (dR (r:=kj K) lA (E 1) ai (λ_ _=>rfl))))))
   (HY (i:=2) rfl rfl rfl nd rfl rfl rfl rfl b.T1 b.Sb (λa C=>ae (ax (a3 (aL ai (HV (E 2) rfl b.Sb b.Sj b.S2 b.Sx zH))))) to)
   (λp x dd f k=>by
    obtain⟨e,l,rfl,rfl,s,hE⟩:=k;refine#[c.RP,c.RR,rfl,b.Sb,?_];rw[if_pos rfl];intro a m;have D:Same f (upd f a (.ext (XO a (.ref c.RP) (some e)))):=.upd m;exact#[a,e,_,_,rfl,Y,D _ _ s,rfl,(show 2<=aq by decide),λj hl=>hE a j m hl]))
  (ae (ax (a3 (af ai))))),?_]
 refine#[I.of u,aw rfl,.inl (I.of v),(nb t).length,16384,?_,λk=>?_,λk=>?_]
 .rw[aF]
  rfl
 .rw[iJ] at k
  refine#[I.of u,aw rfl,A,t,rfl,v,by omega,λQ F G a n hB=>?_,λl q G e n s=>#[e,l,rfl,rfl,s,λa j m hl=>?_]]
  .unfold iL at g
   rw[if_neg (by omega),F] at g;exact#[(by decide),λj hl=>g _ j (n.trans (.upd hl)) (n.free hl) Y]
  .unfold iL at g
   rw[if_neg (by omega),q] at g;have y:=n.trans (Same.upd (o:=.ext (XO a (.ref c.RP) (some e))) m);exact g _ j (y.trans (.upd hl)) (y.free hl) Y
 .rw[iJ] at k
  unfold iL at g;rw[if_pos k] at g;exact g f (Same.refl _)
theorem rq{a:an}(b:Ma.Wf a)(c:Nm a):a.text.length<=10074:=by
 rw[uE,KR];have d:=uF λi e=>by
  obtain⟨j,f,rfl⟩:=bK.mp e;obtain⟨g,hl,rfl⟩:=bK.mp f;exact(z9 c b g hl).line
 rw[ag,ag,z_] at d;have D:=b.np;have k:=b.nh;have l:(1+a.parts.length+a.hoppers.length)*138<=73*138:=mf _ (by omega);omega
theorem b1.board{c:Cs}{i:VK}{e:XK}{f:G}{d:ay}{j:an->b0}(b:b1 c i e f (cO d false j)):
  (16384<d.length->cq c.Rb e f)/\(d.length<=16384->(∀k,bQ d=.error k->cq c.Rr e f)/\ ∀g,bQ d=.ok g->b1 c i e f (j g)):=by
 unfold cO at b;refine#[λl=>?_,λl=>#[λk m=>?_,λg n=>?_]]
 .rw[if_pos (.inl l)] at b
  exact b
 .rw[if_neg (by intro a;rcases a with a|a;omega;cases a),m] at b
  exact b
 .rw[if_neg (by intro a;rcases a with a|a;omega;cases a),n] at b
  exact b
def mA(b:ay):b0:=cO b false λa=>.ok ((nb a.text).length::nb a.text)
theorem Mc(a:ay):eb (.print a)=some (cW (mA a)):=by
 unfold mA;rw[hS λb _=>rfl];rfl
def vh:List Str:=["tray","wheel","gate"]
def c_(a:an)(b:Str):Nat:=(gC a b a.parts.length).length
def mB(b:ay):b0:=cO b false λa=>.ok [a.parts.length,c_ a "tray",c_ a "wheel",c_ a "gate",a.hoppers.length]
theorem vi(b:an)(c:Str):∀a,a<=b.parts.length->(gC b c a).length=((b.parts.take a).filter λe=>decide (fp e=c)).length
 |0,_=>by rw[List.take_zero];rfl
 |a+1,i=>by
  have f:b.parts[a]? =some (b.parts[a]'(by omega)):=a2 (by omega);rw[zX,bq,vi b c a (by omega),jJ,f,oD,bq];congr 1;by_cases d:fp (b.parts[a]'(by omega))=c
  .rw[if_pos (by rw[kB,d])]
   simp[d]
  .rw[if_neg (by rw[kB];intro g;exact d (b5 g))]
   simp[d]
theorem Me(a:an):c_ a "wheel"=(a.parts.filter Mf).length:=by
 unfold c_;rw[vi a _ _ (av _),dY];congr 1;refine zY λc _=>?_;cases c with
 |tray b=>exact decide_eq_false (show¬("tray":Str)= "wheel" by decide+kernel)
 |wheel b d e=>exact decide_eq_true rfl
 |gate b f g i=>exact decide_eq_false (show¬("gate":Str)= "wheel" by decide+kernel)
theorem Mg(b:an):c_ b "gate"=(b.parts.filter λ(a:bX)=> !a.isTray&& !a.isWheel).length:=by
 unfold c_;rw[vi b _ _ (av _),dY];congr 1;refine zY λa _=>?_;cases a with
 |tray c=>exact decide_eq_false (show¬("tray":Str)= "gate" by decide+kernel)
 |wheel c d e=>exact decide_eq_false (show¬("wheel":Str)= "gate" by decide+kernel)
 |gate c f g i=>exact decide_eq_true rfl
theorem Mh(b:ay):eb (.sizes b)=some (cW (mB b)):=by
 unfold mB;rw[hS (g:=λa=>Marble.ints [a.parts.length,a.trays.length,(a.parts.filter Mf).length,(a.parts.filter λ(c:bX)=> !c.isTray&& !c.isWheel).length,a.hoppers.length]) λa _=>by rw[Me,Mg];unfold c_;rw[qX];rfl];rfl
theorem Mi(a:Tx K d c):ao P w K d base 10 "print_board" ["numbers","rows"] (iN c mA):=by
 refine bL a.TD ["numbers","rows"] λD F G H J nd b=>?_;obtain⟨nm,rs,l,m,rfl,n,o,p⟩:=b;obtain⟨q,f⟩:=p.board;refine#[_,ae (ax (aH (iK a) (af (aH (uI a) (af (bz (gF a) (af (aI (E 1) ai)))))))),?_];refine#[I.of n,aw rfl,l,m,rfl,o,q,λb=>#[λe g L r i hB=>?_,(f b).1]];have s:Ma.Wf e:=by obtain⟨_,_,_,_,_,t⟩:=hB;exact t.wf
 have j:=Ma.ms g;refine#[r,e,rfl,hB,j,λN u k _ hl=>#[u,nb e.text,rfl,hl,by rw[iJ];exact bB (rq s j) (by decide),λv x y z A=>?_]];have C:=(i.trans k).trans y;exact(f b).2 e g v x C ((i.trans k).free z) A
theorem Mj(e:Tx K d c):ao P w K d base 10 "tell_sizes" ["numbers","rows"] (iN c mB):=by
 have ab:ao P w K d base 9 "board_of" ["text"] (vf c):=gF e;have ad:ao P w K d base 1 "parts_of_kind" ["board","kind"] (uB c):=qY e;refine bL e.Ug ["numbers","rows","board","kinds","kind"] λbm bs bx bA bC nd m=>?_;obtain⟨nm,rs,G,am,rfl,as,au,H⟩:=m;obtain⟨O,y⟩:=H.board;refine#[_,J (al 2 (bz ab (af (aI (E 1) ai))))
  (J (fh (i:=3) (own:=[("kind",4)]) rfl nd rfl rfl (fi rfl rfl rfl rfl) (wB (nI (bD aT aT aT))) (cS (N:=["numbers","rows","board","kinds","kind"]) (sc:=bi Ck) (by decide+kernel)) (λ_ _ _ _ _=>aO 4) (λ_ _ _ _ _=>c2)
   (λ_ _ _ _ _=>a1 (r:=lE K) bd rfl e.Q_ bg (af (aH ad (aL (E 2) (E 4))))))
  (ae (ax (aM f0 (aM f0 (a3 (af (a1 bd rfl e.Q_ bg (af (ah 2))))) (E 3)) (a3 (af (a1 bd rfl e.Q_ bg (af (ah 2))))))))),?_]
 refine#[I.of as,aw (j:=0) (v:=V.ref G) rfl,G,am,rfl,au,O,λm=>#[λb aB n a aD hB=>?_,(y m).1]];have aG:=((y m).2 b aB).same aD;clear H O y;obtain⟨bF,bG,hl,f,Q,g⟩:=id hB;refine#[(show 3<=aq by decide),λk aJ=>?_];have z:Same n (upd n k (.tup [.str "tray",.str "wheel",.str "gate"])):=.upd aJ;have A:upd n k (.tup [.str "tray",.str "wheel",.str "gate"]) k=some (.tup (vh.map V.str)):=Y;generalize upd n k (.tup [.str "tray",.str "wheel",.str "gate"])=aK at z A⊢;refine#[k,rfl,#[_,a8.of A],λC R=>?_];refine Gu (K:=K) (a:=k) (xs:=vh.map V.str) (λp q=>Same aK q/\q C=some (.lst (L ((vh.take p).map (c_ b))))) #[.upd R,Y] (λp q _ ⟨aN,_⟩=>a8.of (aN _ _ A)) ?_ ?_
 .rintro p bI q aV ⟨S,aW⟩
  obtain⟨aY,aZ,rfl⟩:=bt aV;refine#[rfl,c3 #[a,aY,b,rfl,hB.same (z.trans S),λl bM s _ a0=>#[.inl (I.of a0),_,s _ _ aW,?_,(S.trans s).put R,?_]]]
  .rw[aF,ag,ck]
   exact small (by show min p 3<=_;omega)
  .rw[Y,cp aZ,br,aF]
   exact congrArg (λa5=>some (HO.lst a5)) (d9 _ _)
 rintro l ⟨s,a9⟩;have ba:l C=some (.lst (L [c_ b "tray",c_ b "wheel",c_ b "gate"])):=a9;have D:=z.trans s;refine#[D _ _ g.obj,e.Q5,e.Q3,.inl (I.of (D _ _ g.parts.lst)),(show 1<=aq by decide),λt bb=>?_];have T:Same l (upd l t (.lst [.int ((f.map V.ref).length:Nat)])):=.upd bb;refine#[t,C,_,_,rfl,rfl,Y,T _ _ ba,(show 4<=aq by decide),λu be=>?_];have U:=T.trans (Same.upd (o:=.lst ([.int ((f.map V.ref).length:Nat)]++L [c_ b "tray",c_ b "wheel",c_ b "gate"])) be);have W:upd (upd l t (.lst [.int ((f.map V.ref).length:Nat)])) u (.lst ([.int ((f.map V.ref).length:Nat)]++L [c_ b "tray",c_ b "wheel",c_ b "gate"])) u=_:=Y;generalize upd (upd l t (.lst [.int ((f.map V.ref).length:Nat)])) u (.lst ([.int ((f.map V.ref).length:Nat)]++L [c_ b "tray",c_ b "wheel",c_ b "gate"]))=X at U W⊢;have x:=D.trans U;refine#[x _ _ g.obj,e.Q5,e.Q4,.inl (I.of (x _ _ g.Q9.lst)),(show 1<=aq by decide),λZ bf=>?_];have F:Same X (upd X Z (.lst [.int ((Q.map V.ref).length:Nat)])):=.upd bf;refine#[u,Z,_,_,rfl,rfl,F _ _ W,Y,(show 5<=aq by decide),λbk aa=>?_];have bl:=F.trans (Same.upd (o:=.lst ([.int ((f.map V.ref).length:Nat)]++L [c_ b "tray",c_ b "wheel",c_ b "gate"]++[.int ((Q.map V.ref).length:Nat)])) aa);refine aG _ bk (x.trans bl) ((x.trans F).free aa) ?_;rw[Y,ag,ag,g.parts.len,g.Q9.len];rfl
theorem b1.UG{c:Cs}{i:VK}{e:XK}{f:G}{d:ay}{bad:Bool}{j:an->b0}(b:b1 c i e f (cO d bad j)):
  (16384<d.length\/bad=true->cq c.Rb e f)/\(d.length<=16384->bad=false->(∀k,bQ d=.error k->cq c.Rr e f)/\ ∀g,bQ d=.ok g->b1 c i e f (j g)):=by
 unfold cO at b;refine#[λl=>?_,λl m=>#[λk n=>?_,λg o=>?_]]
 .rw[if_pos l] at b
  exact b
 .rw[if_neg (by intro a;rcases a with a|a;omega;rw[m] at a;cases a),n] at b
  exact b
 .rw[if_neg (by intro a;rcases a with a|a;omega;rw[m] at a;cases a),o] at b
  exact b
def g9(d:ay)(b:List Nat)(c:an->qt->List Nat):b0:=cO d (decide (2000<b.length)) λa=>if(b.any λ(e:Nat)=>decide (a.hoppers.length<=e))=true then .error 4 else .ok ((c a (a.letGo #[a.start,[]] b)).length::c a (a.letGo #[a.start,[]] b))
theorem AY(a:ay)(b:List Nat)(c:an->qt->List Nat):cW (g9 a b c)=Ml a b λd e=>da (c d e):=by
 unfold g9 Ml;exact hS λd _=>by split<;>rfl
theorem Mm(a:ay)(b:List Nat):eb (.let_ a b)=some (cW (g9 a b λ_ c=>c.nums)):=by rw[AY];rfl
theorem Mn(a:ay)(b:List Nat):eb (.falls a b)=some (cW (g9 a b λc d=>c.falls d)):=by rw[AY];rfl
def g_(c:ay)(d:List Nat)(b:an->List Nat):b0:=cO c false λa=>if d.length=a.hoppers.length then .ok ((b a).length::b a) else .error 5
theorem AZ(a:ay)(b:List Nat)(c:an->List Nat):cW (g_ a b c)=Mo a b λd=>da (c d):=by
 unfold g_ Mo;exact hS λd _=>by split<;>rfl
theorem Mp(b:ay)(a:List Nat):eb (.many b a)=some (cW (g_ b a λc=>c.many c.start a)):=by rw[AZ];rfl
theorem Mq(b:ay)(a:List Nat):eb (.came b a)=some (cW (g_ b a λc=>c.came c.start a)):=by rw[AZ];rfl
inductive iO(c:Cs)(i:ay->List Nat->b0)(j:List V)(a:G)(k:VK)(l:XK):Prop
 |mk(nm rs b e:B)(f:ay)(g:List Nat)(m:j=[.ref nm,.ref rs])(n:a rs=some (.lst [.ref b,.ref e]))(o:a b=some (.lst (L (nb f))))(p:a e=some (.lst (L g)))(q:b1 c k l a (i f g))
inductive Mr(c:Cs)(n:List V)(a:G)(o:VK)(g:XK):Prop
 |mk(rs k l:B)(b:ay)(e:List Nat)(q:n=[.ref rs])(r:a rs=some (.lst [.ref k,.ref l]))(s:a k=some (.lst (L (nb b))))(t:a l=some (.lst (L e)))(u:(16384<b.length\/2000<e.length->cq c.Rb g a))(v:(b.length<=16384->e.length<=2000->(∀p,bQ b=.error p->cq c.Rr g a)/\ ∀f,bQ b=.ok f->((∃i∈e,f.hoppers.length<=i)->cq c.Rs g a)/\
  ((∀i∈e,i<f.hoppers.length)-> ∀(j:G)(m:B),Same a j->bM c j m f->o (.ref m) j)))
theorem A0(b:Tx K d c):ao P w K d base 10 "board_to_let" ["rows"] (Mr c):=by
 refine bL b.Ts ["rows","board","hopper"] λx R S T U nd a=>?_;obtain⟨rs,y,z,A,p,rfl,k,C,l,q,r⟩:=a;refine#[_,J (aG (bz (my b) (aL (a1 bd rfl b.Q_ bg (af (aI (E 0) ai))) (bR rfl b.SO))))
  (J (al 1 (bz (gF b) (af (aI (E 0) ai))))
  (J (b_ jF rfl (b9 (aI (E 0) ai)) (aO 2)
   (ae (aG (bz (kY b) (aL (E 2) (a1 bd rfl b.Q_ bg (af (ah 1))))))))
  (ae (ax (E 1))))),?_]
 refine#[I.of k,aw rfl,.inl (I.of l),p.length,2000,?_,λhl=>?_,λhl=>?_]
 .rw[aF]
  rfl
 .refine#[I.of k,aw rfl,y,A,rfl,C,λa=>q (.inl a),λa=>#[λm D F s f hB=>?_,(r a hl).1]]
  obtain⟨G,H⟩:=(r a hl).2 m D;obtain⟨W,X,Y,Z,aa,n⟩:=id hB;refine#[I.of (f _ _ k),aw (v:=V.ref z) rfl,I.of (f _ _ l),?_];refine gl (λo g i=>∃v,g=[some (.ref rs),some (.ref s),v]/\i=F/\ ∀a∈p.take o,a<m.hoppers.length) #[none,rfl,rfl,λa e=>by simp at e] (λo g i _ ⟨_,_,L,_⟩=>by rw[L];exact I.of (f _ _ l)) ?_ ?_
  .rintro o ab g i N ⟨v,rfl,rfl,j⟩
   obtain⟨t,u,rfl⟩:=bt N;refine#[n.obj,b.Q5,b.Q4,.inl (I.of n.Q9.lst),t,m.hoppers.length,?_,λO=>?_,λQ=>?_]
   .rw[ag,n.Q9.len]
    rfl
   .refine#[_,rfl,rfl,λa e=>?_]
    rw[cp u] at e;rcases c4.mp e with e|e
    .exact j a e
    .rw[cb.mp e];exact O
   .exact G #[t,a7 u,Q] _ f
  .rintro g i ⟨v,rfl,rfl,j⟩
   rw[aF,dY] at j;exact H j _ s f hB
 .exact q (.inr hl) x (Same.refl _)
theorem b1.Rv{n:VK}{e:XK}{f:G}{g:ay}{d:List Nat}{j:an->qt->List Nat}(q:b1 c n e f (g9 g d j)):
  (16384<g.length\/2000<d.length->cq c.Rb e f)/\(g.length<=16384->d.length<=2000->(∀r,bQ g=.error r->cq c.Rr e f)/\ ∀a,bQ g=.ok a->((∃b∈d,a.hoppers.length<=b)->cq c.Rs e f)/\
   ((∀b∈d,b<a.hoppers.length)->b1 c n e f (.ok ((j a (a.letGo #[a.start,[]] d)).length::j a (a.letGo #[a.start,[]] d))))):=by
 obtain⟨s,t⟩:=q.UG;refine#[λb=>s (b.imp id (λk=>decide_eq_true k)),λD u=>?_];obtain⟨v,o⟩:=t D (decide_eq_false (by omega));refine#[v,λa p=>#[λ⟨b,l,m⟩=>?_,λw=>?_]]
 .have i:=o a p
  rw[if_pos (hT.mpr #[b,l,decide_eq_true m])] at i;exact i
 .have i:=o a p
  rw[if_neg (λk=>by obtain⟨b,l,m⟩:=hT.mp k;have D:=of_decide_eq_true m;have u:=w b l;omega)] at i;exact i
theorem Ms(b:Tx K d c):ao P w K d base 11 "tell_let" ["numbers","rows"] (iO c λi e=>g9 i e λ_ v=>v.nums):=by
 refine bL b.UR ["numbers","rows","board","standing"] λW X Y Z aa nd x=>?_;obtain⟨nm,rs,y,n,i,e,rfl,o,z,p,A⟩:=x;obtain⟨C,j⟩:=A.Rv;refine#[_,J (al 2 (bz (A0 b) (af (E 1))))
  (J (al 3 (aH (kA b) (af (E 2))))
  (J (aG (aH (zg b) (bD (E 2) (E 3) (aI (E 1) ai))))
  (ae (ax (aH (iK b) (af (E 3))))))),?_]
 refine#[rs,y,n,i,e,rfl,o,z,p,C,λD f=>#[(j D f).1,λa q=>#[((j D f).2 a q).1,λk F r l hB=>?_]]];have G:=((j D f).2 a q).2 k;have g:=let⟨_,_,_,_,_,H⟩:=hB;H.wf;refine#[r,a,rfl,hB,λab s m t L=>?_];have N:=l.trans m;refine#[I.of (N _ _ o),aw rfl,r,s,n,a,a.start,e,F,rfl,m,t,hB,l _ _ p,L,k,f,Ma.e1 g,λad fl O _ Q _=>?_];have u:=l.trans (O.same m t);have St:=Ma.qu g e #[a.start,[]] k (Ma.e1 g);refine#[s,_,rfl,Q,by rw[St.1];have:=g.np;omega,λR S T U V=>G R S (u.trans T) (u.free U) V]
theorem Mt(b:Tx K d c):ao P w K d base 11 "tell_falls" ["numbers","rows"] (iO c λg e=>g9 g e λa u=>a.falls u):=by
 refine bL b.Ui ["numbers","rows","board"] λW X Y Z aa nd v=>?_;obtain⟨nm,rs,x,n,g,e,rfl,o,y,p,z⟩:=v;obtain⟨A,i⟩:=z.Rv;refine#[_,J (al 2 (bz (A0 b) (af (E 1))))
  (ae (ax (aH (iK b) (af (aH (zg b) (bD (E 2) (aH (kA b) (af (E 2))) (aI (E 1) ai))))))),?_]
 refine#[rs,x,n,g,e,rfl,o,y,p,A,λD f=>#[(i D f).1,λa q=>#[((i D f).2 a q).1,λj C r k hB=>?_]]];have F:=((i D f).2 a q).2 j;have l:=let⟨_,_,_,_,_,G⟩:=hB;G.wf;refine#[r,a,rfl,hB,λab H m s L=>?_];have N:=k.trans m;refine#[I.of (N _ _ o),aw rfl,r,H,n,a,a.start,e,C,rfl,m,s,hB,k _ _ p,L,j,f,Ma.e1 l,λad fl O _ _ Q=>?_];have t:=k.trans (O.same m s);refine#[fl,_,rfl,Q,by have:=Ma.t1 l j (Ma.e1 l);omega,λR S T U V=>F R S (t.trans T) (t.free U) V]
def mC(c:ay)(a:Nat):b0:=cO c false λb=>if b.hoppers.length<=a then .error 4 else .ok [b.again a]
theorem Mu(c:ay)(a:Nat):eb (.again c a)=some (cW (mC c a)):=by
 unfold mC;rw[hS (g:=λb=>if b.hoppers.length<=a then c9 4 else iM (b.again a)) λb _=>by split<;>rfl];rfl
def mD(e:ay)(b c f d:Nat):b0:=cO e (decide (2000<d)) λa=>if a.hoppers.length<=b\/a.parts.length<=c then .error 4 else match a.until_ b c f (d+1) 0 with
 |some g=>.ok [g]
 |none=>.error 7
theorem Mv(f:ay)(a b d e:Nat):eb (.until_ f a b d e)=some (cW (mD f a b d e)):=by
 unfold mD;rw[hS (g:=λc=>if c.hoppers.length<=a\/c.parts.length<=b then c9 4 else match c.until_ a b d (e+1) 0 with
  |some i=>iM i
  |none=>c9 7) λc _=>by
   split
   .rfl
   .split<;>rfl]
 rfl
def mE(d:ay)(b c:Nat):b0:=cO d false λa=>if a.hoppers.length<=b\/a.isTray c=false then .error 4 else .ok [(a.share b c).num,(a.share b c).den]
theorem Mw(d:ay)(a b:Nat):eb (.share d a b)=some (cW (mE d a b)):=by
 unfold mE;rw[hS (g:=λc=>if c.hoppers.length<=a\/c.isTray b=false then c9 4 else Marble.ints [(c.share a b).num,(c.share a b).den]) λc _=>by split<;>rfl];rfl
inductive Mx(c:Cs)(m:List V)(a:G)(n:VK)(f:XK):Prop
 |mk(rs j k:B)(b:ay)(g:List Nat)(p:m=[.ref rs])(q:a rs=some (.lst [.ref j,.ref k]))(r:a j=some (.lst (L (nb b))))(s:a k=some (.lst (L g)))(t:(16384<b.length->cq c.Rb f a))(u:(b.length<=16384->(∀o,bQ b=.error o->cq c.Rr f a)/\ ∀e,bQ b=.ok e->(¬g.length=e.hoppers.length->cq c.Rp f a)/\
  (g.length=e.hoppers.length-> ∀(i:G)(l:B),Same a i->bM c i l e->n (.ref l) i)))
theorem A1(b:Tx K d c):ao P w K d base 10 "board_for_balls" ["rows"] (Mx c):=by
 refine bL b.SY ["rows","board"] λv x y z A nd a=>?_;obtain⟨rs,k,l,m,n,rfl,g,o,p,q,i⟩:=a;refine#[_,J (al 1 (bz (gF b) (af (aI (E 0) ai))))
  (J (aG (bz (rp b) (aL (aI (E 0) ai) (a1 bd rfl b.Q_ bg (af (ah 1))))))
  (ae (ax (E 1)))),?_]
 refine#[I.of g,aw rfl,k,m,rfl,o,q,λa=>#[λj r C s e hB=>?_,(i a).1]];obtain⟨t,u⟩:=(i a).2 j r;obtain⟨D,F,G,H,L,f⟩:=id hB;refine#[I.of (e _ _ g),aw rfl,f.obj,b.Q5,b.Q4,.inl (I.of f.Q9.lst),l,n,j.hoppers.length,by rw[ag,f.Q9.len];rfl,e _ _ p,λa=>?_,λa=>t a _ e];exact u a _ s e hB
theorem b1.UU{l:VK}{b:XK}{d:G}{e:ay}{g:List Nat}{i:an->List Nat}(n:b1 c l b d (g_ e g i)):
  (16384<e.length->cq c.Rb b d)/\(e.length<=16384->(∀o,bQ e=.error o->cq c.Rr b d)/\ ∀a,bQ e=.ok a->(¬g.length=a.hoppers.length->cq c.Rp b d)/\
   (g.length=a.hoppers.length->b1 c l b d (.ok ((i a).length::i a)))):=by
 obtain⟨p,j⟩:=n.board;refine#[p,λD=>#[(j D).1,λa m=>#[λk=>?_,λk=>?_]]]
 .have f:=(j D).2 a m
  rw[if_neg k] at f;exact f
 .have f:=(j D).2 a m
  rw[if_pos k] at f;exact f
theorem My(b:Tx K d c):ao P w K d base 11 "tell_came" ["numbers","rows"] (iO c λg e=>g_ g e λa=>a.came a.start e):=by
 refine bL b.UA ["numbers","rows","board"] λR S T U V nd f=>?_;obtain⟨nm,rs,s,k,g,e,rfl,l,t,m,u⟩:=f;obtain⟨v,i⟩:=u.UU;refine#[_,J (al 2 (bz (A1 b) (af (E 1))))
  (ae (ax (aH (iK b) (af (aH (qz b) (bD (E 2) (aH (kA b) (af (E 2))) (aI (E 1) ai))))))),?_]
 refine#[rs,s,k,g,e,rfl,l,t,m,v,λf=>#[(i f).1,λa n=>#[((i f).2 a n).1,λhl W o x hB=>?_]]];have y:=((i f).2 a n).2 hl;have p:=let⟨_,_,_,_,_,z⟩:=hB;z.wf;refine#[o,a,rfl,hB,λX A q Y C=>?_];have j:=x.trans q;refine#[I.of (j _ _ l),aw rfl,o,A,k,a,a.start,e,rfl,hB.same q,C,j _ _ m,hl,Ma.e1 p,λZ D F _ G=>?_];have r:=j.trans F;exact#[D,_,rfl,G,by rw[Ma.iw];have:=p.np;omega,λH L N O Q=>y H L (r.trans N) (r.free O) Q]
theorem Mz(b:Tx K d c):ao P w K d base 11 "tell_many" ["numbers","rows"] (iO c λg e=>g_ g e λa=>a.many a.start e):=by
 refine bL b.Ul ["numbers","rows","board","standing"] λV W X Y Z nd f=>?_;obtain⟨nm,rs,v,o,g,e,rfl,p,x,q,y⟩:=f;obtain⟨z,i⟩:=y.UU;refine#[_,J (al 2 (bz (A1 b) (af (E 1))))
  (J (al 3 (aH (kA b) (af (E 2))))
  (ae (ax (aH (iK b) (af (aH (zv b) (bD (E 2) (E 3) (aH (qz b) (bD (E 2) (E 3) (aI (E 1) ai)))))))))),?_]
 refine#[rs,v,o,g,e,rfl,p,x,q,z,λf=>#[(i f).1,λa r=>#[((i f).2 a r).1,λhl aa j A hB=>?_]]];have C:=((i f).2 a r).2 hl;have k:=let⟨_,_,_,_,_,D⟩:=hB;D.wf;refine#[j,a,rfl,hB,λab s l ad t=>?_];have m:=A.trans l;refine#[I.of (m _ _ p),aw rfl,j,s,o,a,a.start,e,rfl,hB.same l,t,m _ _ q,hl,Ma.e1 k,λah F n _ G=>?_];have H:=m.trans n;refine#[j,s,F,a,a.start,a.came a.start e,rfl,hB.same (l.trans n),n _ _ t,G,(Ma.e1 k).1,Ma.iw _ _,λam L N _ O=>?_];have u:=H.trans N;exact#[L,_,rfl,O,by rw[Ma.f3];have:=k.np;omega,λQ R S T U=>C Q R (u.trans S) (u.free T) U]
inductive k4(c:Cs)(ok:List Nat->Prop)(g:List Nat->ay->b0)(i:List V)(a:G)(j:VK)(k:XK):Prop
 |mk(nm rs e:B)(b:List Nat)(f:ay)(l:i=[.ref nm,.ref rs])(m:a nm=some (.lst (L b)))(n:a rs=some (.lst [.ref e]))(o:a e=some (.lst (L (nb f))))(p:ok b)(q:b1 c j k a (g b f))
theorem MA(b:Tx K d c):ao P w K d base 10 "tell_again" ["numbers","rows"] (k4 c (λe=>e.length=1) λe m=>mC m (e.getD 0 0)):=by
 refine bL b.TX ["numbers","rows","board"] λr L s t N nd i=>?_;obtain⟨nm,rs,u,e,m,rfl,n,x,y,z,A⟩:=i;obtain⟨a,rfl⟩:∃a,e=[a]:=by
  match e,z with
  |[a],_=>exact#[a,rfl]
 obtain⟨C,o⟩:=A.board;refine#[_,J (al 2 (bz (gF b) (af (aI (E 1) ai))))
  (J (aG (bz (kY b) (aL (aI (E 0) ai) (a1 bd rfl b.Q_ bg (af (ah 2))))))
  (ae (ax (a3 (af (aH (uL b) (aL (E 2) (aI (E 0) ai)))))))),?_]
 refine#[I.of x,aw rfl,u,m,rfl,y,C,λi=>#[λf D O F g hB=>?_,(o i).1]];have k:b1 c s t r (if f.hoppers.length<=a then .error 4 else .ok [f.again a]):=(o i).2 f D;obtain⟨Q,R,S,T,U,l⟩:=id hB;refine#[I.of (g _ _ n),aw (j:=0) (v:=V.int a) rfl,l.obj,b.Q5,b.Q4,.inl (I.of l.Q9.lst),a,f.hoppers.length,?_,λp=>?_,λG=>?_]
 .rw[ag,l.Q9.len]
  rfl
 .rw[if_neg (by omega)] at k
  refine#[I.of (g _ _ n),aw rfl,F,f,a,rfl,hB,p,λW q=>?_];rw[(Ma.u6 l.wf p).1];exact#[(show 1<=aq by decide),λH hl=>k _ H ((g.trans q).trans (.upd hl)) ((g.trans q).free hl) Y]
 .rw[if_pos G] at k
  exact k _ g
theorem MB(e:Tx K d c):ao P w K d base 10 "tell_share" ["numbers","rows"] (k4 c (λi=>i.length=2) λi q=>mE q (i.getD 0 0) (i.getD 1 0)):=by
 refine bL e.Uj ["numbers","rows","board"] λx R y z S nd l=>?_;obtain⟨nm,rs,A,i,q,rfl,m,C,D,F,G⟩:=l;obtain⟨a,b,rfl⟩:∃a b,i=[a,b]:=by
  match i,F with
  |[a,b],_=>exact#[a,b,rfl]
 obtain⟨H,r⟩:=G.board;refine#[_,J (al 2 (bz (gF e) (af (aI (E 1) ai))))
  (J (aG (bz (kY e) (aL (aI (E 0) ai) (a1 bd rfl e.Q_ bg (af (ah 2))))))
  (J (aG (bz (AX e) (aL (E 2) (aI (E 0) ai))))
  (ae (ax (pz FO rfl e.VV QX (af (aH (K9 e) (bD (E 2) (aI (E 0) ai) (aI (E 0) ai))))))))),?_]
 refine#[I.of C,aw rfl,A,q,rfl,D,H,λl=>#[λf L T s g hB=>?_,(r l).1]];have k:b1 c y z x (if f.hoppers.length<=a\/f.isTray b=false then .error 4 else .ok [(f.share a b).num,(f.share a b).den]):=(r l).2 f L;obtain⟨U,W,X,Z,aa,n⟩:=id hB;refine#[I.of (g _ _ m),aw (j:=0) (v:=V.int a) rfl,n.obj,e.Q5,e.Q4,.inl (I.of n.Q9.lst),a,f.hoppers.length,?_,λt=>?_,λN=>?_]
 .rw[ag,n.Q9.len]
  rfl
 .refine#[I.of (g _ _ m),aw (j:=1) (v:=V.int b) rfl,s,f,b,rfl,hB,λo=>?_,λo=>?_]
  .rw[if_neg (by rw[o];intro p;rcases p with p|p;omega;cases p)] at k
   refine#[I.of (g _ _ m),aw rfl,I.of (g _ _ m),aw rfl,s,f,a,b,_,rfl,hB,t,Ma.Lk n.wf t o,λab fa u O=>?_];refine#[fa,_,rfl,.inr (a8.of O),λQ hl=>?_];exact k _ Q ((g.trans u).trans (.upd hl)) ((g.trans u).free hl) Y
  .rw[if_pos (.inr o)] at k
   exact k _ g
 .rw[if_pos (.inl N)] at k
  exact k _ g
theorem MC(g:Tx K d c):ao P w K d base 10 "tell_until" ["numbers","rows"] (k4 c (λm=>m.length=4) λm A=>mD A (m.getD 0 0) (m.getD 1 0) (m.getD 2 0) (m.getD 3 0)):=by
 have au:ao P w K d base 9 "board_of" ["text"] (vf c):=gF g;have T:ao P w K d base 1 "check_below" ["number","bound"] (AU c):=kY g;have aB:ao P w K d base 1 "check_most" ["number","most"] (AT c):=my g;have aD:ao P w K d base 1 "first_numbers" ["board"] (tU c):=kA g;have aF:ao P w K d base 1 "let_go" ["board","numbers","hopper"] (zc c):=zd g;refine bL g.Uk ["numbers","rows","hopper","part","wanted","most","board","standing","balls"] λU bs aJ aK bt nd q=>?_;obtain⟨nm,rs,W,m,A,rfl,u,aN,aT,aV,aY⟩:=q;obtain⟨b,e,i,l,rfl⟩:∃b e i l,m=[b,e,i,l]:=by
  match m,aV with
  |[b,e,i,l],_=>exact#[b,e,i,l,rfl]
 obtain⟨X,Z⟩:=aY.UG;refine#[_,J (al 2 (aI (E 0) ai))
  (J (al 3 (aI (E 0) ai))
  (J (al 4 (aI (E 0) ai))
  (J (al 5 (aI (E 0) ai))
  (J (aG (bz aB (aL (E 5) (bR rfl g.SO))))
  (J (al 6 (bz au (af (aI (E 1) ai))))
  (J (aG (bz T (aL (E 2) (a1 bd rfl g.Q_ bg (af (ah 6))))))
  (J (aG (bz T (aL (E 3) (a1 bd rfl g.Q_ bg (af (ah 6))))))
  (J (al 7 (aH aD (af (E 6))))
  (J (b_ jF rfl (j7 rfl g.RT (af (aM cg (E 5) ai))) (aO 8)
   (J (ba (aZ dO (aI (E 7) (E 3)) (E 4) (aW _)) (ae (ax (a3 (af (E 8))))) bC)
   (ae (aG (aH aF (bD (E 6) (E 7) (E 2)))))))
  (ae (eY d7 rfl rfl rfl g.TW g.RM g.UH))))))))))),?_]
 refine#[I.of u,aw (j:=0) (v:=V.int b) rfl,I.of u,aw (j:=1) (v:=V.int e) rfl,I.of u,aw (j:=2) (v:=V.int i) rfl,I.of u,aw (j:=3) (v:=V.int l) rfl,l,2000,rfl,λaa=>?_,λaa=>?_]
 .have ab:decide (2000<l)=false:=decide_eq_false (by omega)
  refine#[I.of aN,aw (j:=0) (v:=V.ref W) rfl,W,A,rfl,aT,λq=>X (.inl q),λq=>#[λa a0 ad C t hB=>?_,(Z q ab).1]];have n:b1 c aJ aK U (if a.hoppers.length<=b\/a.parts.length<=e then .error 4 else match a.until_ b e i (l+1) 0 with
   |some b=>.ok [b]
   |none=>.error 7):=(Z q ab).2 a a0
  obtain⟨bx,bA,bF,bG,bI,p⟩:=id hB;have D:=p.wf;refine#[p.obj,g.Q5,g.Q4,.inl (I.of p.Q9.lst),b,a.hoppers.length,?_,λF=>?_,λG=>?_]
  .rw[ag,p.Q9.len]
   rfl
  .refine#[p.obj,g.Q5,g.Q3,.inl (I.of p.parts.lst),e,a.parts.length,?_,λa5=>?_,λG=>?_]
   .rw[ag,p.parts.len]
    rfl
   .rw[if_neg (by omega)] at n
    refine#[C,a,rfl,hB,λbM H a8 am as=>?_];rw[<-Ma.I3 D F] at as;refine#[_,rfl,by omega,by omega,?_];have bb:(((l:Nat):Int)+1).toNat=l+1:=by omega
    rw[bb];refine j8 (λf N x=>∃O,N=[some (.ref nm),some (.ref rs),some (.int b),some (.int e),some (.int i),some (.int l),some (.ref C),some (.ref H),O]/\Same ad x/\x H=some (.lst (L (a.many a.start (Ma.only a b f))))/\a.until_ b e i (l+1) 0=a.until_ b e i (l+1-f) f) #[none,rfl,a8,as,rfl] ?_ ?_
    .rintro f N x bP ⟨O,rfl,r,Q,o⟩
     have be:(0:Int)+(f:Nat)=(f:Nat):=by omega
     rw[be];have St:=Ma.qk D a.start (Ma.only a b f);refine#[I.of Q,aw (j:=e) (v:=V.int ((a.many a.start (Ma.only a b f)).getD e 0:Nat)) (dZ (d_ (by rw[St.1];exact a5))),rfl,_,rfl,?_];obtain⟨y,bf⟩:∃y,l+1-f=y+1:=#[l-f,by omega];rw[bf] at o;have bi:a.until_ b e i (y+1) f=if(a.many a.start (Ma.only a b f)).getD e 0=i then some f else a.until_ b e i y (f+1):=rfl
     rw[bi] at o;refine a9 (λR=>?_) (λR=>?_)
     .have S:(a.many a.start (Ma.only a b f)).getD e 0=i:=by
       have z:V.int ((a.many a.start (Ma.only a b f)).getD e 0:Nat)=V.int (i:Nat):=of_decide_eq_true R;injection z with z
       omega
      rw[if_pos S] at o;rw[o] at n;exact#[(show 1<=aq by decide),λbk hl=>n _ bk ((t.trans r).trans (.upd hl)) ((t.trans r).free hl) Y]
     .have S:¬(a.many a.start (Ma.only a b f)).getD e 0=i:=λz=>R (by rw[z];exact decide_eq_true rfl)
      rw[if_neg S] at o;refine#[C,H,a,_,b,ad,rfl,r,am,hB,Q,F,St,λbS fl bl _ bm _=>?_];refine#[_,rfl,bl.same r am,?_,?_]
      .rw[bm,Ma.I2 (k:=f) D F (s:=#[a.many a.start (Ma.only a b f),[]]) rfl]
      .rw[o]
       congr 1;omega
    .rintro N x ⟨O,rfl,r,Q,o⟩
     rw[ez] at o;rw[o] at n;exact n _ (t.trans r)
   .rw[if_pos (.inr G)] at n
    exact n _ t
  .rw[if_pos (.inl G)] at n
   exact n _ t
 .exact X (.inr (decide_eq_true aa)) U (Same.refl _)
def k6(b a:ay)(bad:Bool)(c:an->an->b0):b0:=cO b (decide (16384<a.length)||bad) λd=>match bQ a with
 | .error _=>.error 2
 | .ok e=>c d e
theorem A2{d c:ay}{bad:Bool}{e:an->an->b0}{g:an->an->gG}(f:∀a b,bQ d=.ok a->bQ c=.ok b->cW (e a b)=g a b):cW (k6 d c bad e)=MD d c bad g:=by
 unfold k6 MD;refine hS λa i=>?_;cases j:bQ c with
 |error k=>rfl
 |ok b=>exact f a b i j
def mG(e f:ay)(b:Nat):b0:=k6 e f (decide (2000<b)) λa d=>if a.compares d=false then .error 4 else if 3000<kX (b+a.hoppers.length) a.hoppers.length then .error 6 else match a.apart d b with
 |some c=>.ok (1::c.length::c)
 |none=>.ok [0]
theorem ME(e f:ay)(b:Nat):eb (.apart e f b)=some (cW (mG e f b)):=by
 unfold mG;rw[A2 (g:=λa d=>if a.compares d=false then c9 4 else if MF<kX (b+a.hoppers.length) a.hoppers.length then c9 6 else match a.apart d b with
  |some c=>(1:Int)::da c
  |none=>iM 0) λa d _ _=>by
   unfold MF;split
   .rfl
   .split
    .rfl
    .split<;>rfl]
 rfl
def mH(d e:ay):b0:=k6 d e false λa b=>if(a.compares b&&a.hoppers.length==1)=false then .error 4 else match a.apart b 2000 with
 |some c=>.ok c
 |none=>if fN (a.again 0) (b.again 0)<=2000 then .ok [0] else .error 6
theorem MG(d e:ay):eb (.ever d e)=some (cW (mH d e)):=by
 unfold mH;rw[A2 (g:=λa b=>if(a.compares b&&a.hoppers.length==1)=false then c9 4 else match a.apart b A3 with
  |some c=>Marble.ints c
  |none=>if fN (a.again 0) (b.again 0)<=A3 then iM 0 else c9 6) λa b _ _=>by
   unfold A3;split
   .rfl
   .split
    .rfl
    .split<;>rfl]
 rfl
theorem b1.two{c:Cs}{l:VK}{b:XK}{d:G}{e f:ay}{bad:Bool}{m:an->an->b0}(p:b1 c l b d (k6 e f bad m)):
  (16384<e.length\/16384<f.length\/bad=true->cq c.Rb b d)/\(e.length<=16384->f.length<=16384->bad=false->(∀j,bQ e=.error j->cq c.Rr b d)/\ ∀g,bQ e=.ok g->(∀j,bQ f=.error j->cq c.Rr b d)/\ ∀k,bQ f=.ok k->b1 c l b d (m g k)):=by
 obtain⟨q,r⟩:=p.UG;refine#[λa=>q ?_,λD w s=>?_]
 .rcases a with a|a|a
  .exact .inl a
  .exact .inr (by rw[decide_eq_true a];rfl)
  .exact .inr (by rw[a,oN])
 .obtain⟨t,n⟩:=r D (by rw[s,decide_eq_false (by omega)];rfl)
  refine#[t,λg o=>#[λj u=>?_,λk v=>?_]]
  .have i:=n g o
   rw[u] at i;exact i
  .have i:=n g o
   rw[v] at i;exact i
theorem MH{c f:an}{g a:Nat}{b:List Nat}(i:c.hoppers.length=a+1)(d:c.apart f g=some b):b.length=a+1:=by
 unfold AC at d;obtain⟨j,_,e⟩:=AS d;rw[i] at e;exact ve a j b (A4 e)
inductive MI(c:Cs)(q:List V)(a:G)(r:VK)(g:XK):Prop
 |mk(j k:B)(b e:ay)(s:q=[.ref j,.ref k])(t:a j=some (.lst (L (nb b))))(u:a k=some (.lst (L (nb e))))(v:(16384<b.length\/16384<e.length->cq c.Rb g a))(x:(b.length<=16384->e.length<=16384->(∀i,bQ b=.error i->cq c.Rr g a)/\ ∀l,bQ b=.ok l->(∀i,bQ e=.error i->cq c.Rr g a)/\
  ∀m,bQ e=.ok m-> ∀(f:G)(n o p:B),Same a f->f n=some (.tup [.ref o,.ref p])->bM c f o l->bM c f p m->r (.ref n) f))
theorem A5(a:Tx K d c):ao P w K d base 10 "boards_of" ["text","other"] (MI c):=by
 refine bL a.Uu ["text","other"] λo L N O Q nd e=>?_;obtain⟨p,q,r,i,rfl,s,j,k,l⟩:=e;refine#[_,J (aG (bz (my a) (aL (a1 bd rfl a.Q_ bg (af (E 1))) (bR rfl a.Sd))))
  (ae (ax (nI (aL (bz (gF a) (af (E 0))) (bz (gF a) (af (E 1))))))),?_]
 refine#[.inl (I.of j),(nb i).length,16384,?_,λb=>?_,λb=>?_]
 .rw[aF]
  rfl
 .rw[iJ] at b
  refine#[p,r,rfl,s,λe=>k (.inl e),λm=>#[λt u R v f hB=>?_,(l m b).1]];obtain⟨x,y⟩:=(l m b).2 t u;refine#[q,i,rfl,f _ _ j,λe=>absurd e (by omega),λ_=>#[λz A S C n D=>?_,λF G=>(x F G).same f]];refine#[(show 2<=aq by decide),λH g=>?_];exact y z A _ H v C ((f.trans n).trans (.upd g)) Y (hB.same (n.trans (.upd g))) (D.same (.upd g))
 .rw[iJ] at b
  exact k (.inr b) o (Same.refl _)
inductive A6(c:Cs)(i:ay->ay->b0)(j:List V)(a:G)(k:VK)(l:XK):Prop
 |mk(nm rs b e:B)(f g:ay)(m:j=[.ref nm,.ref rs])(n:a rs=some (.lst [.ref b,.ref e]))(o:a b=some (.lst (L (nb f))))(p:a e=some (.lst (L (nb g))))(q:b1 c k l a (i f g))
inductive A7(c:Cs)(j:Nat->ay->ay->b0)(k:List V)(a:G)(l:VK)(m:XK):Prop
 |mk(nm rs b e:B)(f:Nat)(g i:ay)(n:k=[.ref nm,.ref rs])(o:a nm=some (.lst (L [f])))(p:a rs=some (.lst [.ref b,.ref e]))(q:a b=some (.lst (L (nb g))))(r:a e=some (.lst (L (nb i))))(s:b1 c l m a (j f g i))
theorem MJ(a:Tx K d c):ao P w K d base 11 "tell_apart" ["numbers","rows"] (A7 c λi s t=>mG s t i):=by
 refine bL a.T5 ["numbers","rows","boards","row"] λam a1 a5 bb bd nd u=>?_;obtain⟨nm,rs,as,au,i,s,t,rfl,L,N,aB,aD,O⟩:=u;obtain⟨v,m⟩:=O.two;refine#[_,J (aG (bz (my a) (aL (aI (E 0) ai) (bR rfl a.SO))))
  (J (al 2 (bz (A5 a) (aL (aI (E 1) ai) (aI (E 1) ai))))
  (J (ba (sb (eJ (aH (AF a) (aL (dR fC (E 2) ai (λ_ _=>rfl)) (dR fC (E 2) ai (λ_ _=>rfl)))))) (ae (eY d7 rfl rfl rfl a.RD a.Rq a.RA)) bC)
  (J (al 3 (bz (AR a) (bD (dR fC (E 2) ai (λ_ _=>rfl)) (dR fC (E 2) ai (λ_ _=>rfl)) (aI (E 0) ai))))
  (J (ba (lj (wt (E 3))) (ae (ax (a3 (af ai)))) bC)
  (ae (ax (aM f0 (a3 (af ai)) (aH (iK a) (af (E 3)))))))))),?_]
 refine#[I.of L,aw rfl,i,2000,rfl,λx=>?_,λx=>?_]
 .have y:decide (2000<i)=false:=decide_eq_false (by omega)
  refine#[I.of N,aw rfl,I.of N,aw rfl,as,au,s,t,rfl,aB,aD,λu=>v (u.imp id .inl),λz A=>#[(m z A y).1,λb Q=>#[((m z A y).2 b Q).1,λf aJ be n R S aK C D T=>?_]]];have e:=((m z A y).2 b Q).2 f aJ;clear O v m;refine#[n,_,_,_,rfl,rfl,a8.of C,aw rfl,n,_,_,_,rfl,rfl,a8.of C,aw rfl,R,S,b,f,rfl,D,T,λbf o=>#[_,rfl,?_]];have j:=aK.trans o;refine a9 (λF=>?_) (λF=>?_)
  .have g:b.compares f=false:=by simpa using F
   rw[if_pos g] at e;exact e _ j
  .have g:b.compares f=true:=by simpa using F
   rw[if_neg (by rw[g];exact λaN=>by cases aN)] at e;have aO:b.hoppers.length=f.hoppers.length:=by
    unfold AG at g;rw[bJ,beq_iff_eq] at g;exact g.1
   have U:=let⟨_,_,_,_,_,aT⟩:=D;aT.wf;obtain⟨V,aV⟩:∃V,b.hoppers.length=V+1:=#[b.hoppers.length-1,by have:=U.nh;omega];have W:=o _ _ C;refine#[n,_,_,_,rfl,rfl,a8.of W,aw rfl,n,_,_,_,rfl,rfl,a8.of W,aw rfl,I.of (j _ _ L),aw rfl,R,S,b,f,i,rfl,D.same o,T.same o,aO,x,λX=>?_,λX k p=>#[λZ G q hl=>?_,λq=>?_]]
   .rw[if_pos X] at e
    exact λk p=>e _ (j.trans p)
   .rw[if_neg (by omega),q] at e
    have r:=j.trans p;refine#[_,rfl,dk #[(by decide),λl aW=>?_]];have H:Same k (upd k l (.lst [.int 1])):=.upd aW;have aa:upd k l (.lst [.int 1]) l=some (.lst [.int 1]):=Y;generalize upd k l (.lst [.int 1])=bi at H aa⊢;have bk:=MH aV q;have bl:=U.nh;refine#[G,Z,rfl,H _ _ hl,by omega,λbm aY ab _ aZ=>?_];refine#[l,aY,_,_,rfl,rfl,ab _ _ aa,aZ,?_,λa0 ad=>?_]
    .rw[aF]
     exact dc (iH (by show 1+(Z.length+1)<=_;omega))
    .have ah:=r.trans (H.trans ab)
     refine e _ a0 (ah.trans (.upd ad)) (ah.free ad) ?_;rw[Y];rfl
   .rw[if_neg (by omega),q] at e
    have r:=j.trans p;exact#[_,rfl,dm #[(by decide),λG hl=>e _ G (r.trans (.upd hl)) (r.free hl) Y]]
 .exact v (.inr (.inr (decide_eq_true x))) am (Same.refl _)
theorem MK(b:Tx K d c):ao P w K d base 11 "tell_ever" ["numbers","rows"] (A6 c mH):=by
 refine bL b.Ut ["numbers","rows","boards"] λam as au aB aD nd p=>?_;obtain⟨nm,rs,R,S,T,U,rfl,A,W,X,C⟩:=p;obtain⟨F,m⟩:=C.two;refine#[_,J (al 2 (bz (A5 b) (aL (aI (E 1) ai) (aI (E 1) ai))))
  (J (ba (PW.pt (j2 (sb (eJ (aH (AF b) (aL (dR fC (E 2) ai (λ_ _=>rfl)) (dR fC (E 2) ai (λ_ _=>rfl)))))) (j1 (aZ fW (a1 bd rfl b.Q_ bg (af (fX (dR fC (E 2) ai (λ_ _=>rfl)) rfl))) ai (aW _))))) (ae (eY d7 rfl rfl rfl b.RD b.Rq b.RA)) bC)
  (ae (ax (a3 (af (bz (L4 b) (aL (dR fC (E 2) ai (λ_ _=>rfl)) (dR fC (E 2) ai (λ_ _=>rfl))))))))),?_]
 refine#[I.of A,aw rfl,I.of A,aw rfl,R,S,T,U,rfl,W,X,λp=>F (p.imp id .inl),λq r=>#[(m q r rfl).1,λe G=>#[((m q r rfl).2 e G).1,λf Z aF j s H aa t L N=>?_]]];have a:=((m q r rfl).2 e G).2 f Z;clear C F m;refine#[j,_,_,_,rfl,rfl,a8.of t,aw rfl,j,_,_,_,rfl,rfl,a8.of t,aw rfl,s,H,e,f,rfl,L,N,λaG n=>#[_,rfl,?_]];have u:=aa.trans n;have x:=n _ _ t;have O:=L.same n;have ab:=N.same n;obtain⟨aJ,aK,hl,aM,aN,o⟩:=id O;have aO:=o.wf.nh;refine a9 (λg=>?_) (λg=>?_)
 .have i:e.compares f=false:=by simpa using g
  rw[if_pos (by rw[i];rfl)] at a;exact dm (a _ u)
 .have i:e.compares f=true:=by simpa using g
  have aT:e.hoppers.length=f.hoppers.length:=by
   unfold AG at i;rw[bJ,beq_iff_eq] at i;exact i.1
  refine#[j,_,_,_,rfl,rfl,a8.of x,aw (v:=V.ref s) rfl,o.obj,b.Q5,b.Q4,.inl (I.of o.Q9.lst),_,rfl,?_];rw[ag,o.Q9.len];refine a9 (λg=>?_) (λg=>?_)
  .have D:=of_decide_eq_true g
   rw[if_pos (by rw[i,uy];exact beq_eq_false_iff_ne.mpr (by omega))] at a;exact a _ u
  .have D:¬((1:Int)<(e.hoppers.length:Nat)):=λy=>g (decide_eq_true y)
   have Q:e.hoppers.length=1:=by omega
   rw[if_neg (by rw[i,Q];exact λy=>by cases y)] at a;refine#[j,_,_,_,rfl,rfl,a8.of x,aw rfl,j,_,_,_,rfl,rfl,a8.of x,aw rfl,s,H,e,f,rfl,O,ab,Q,by omega,λaV ad=>?_];have k:=u.trans ad;refine#[λaY l=>?_,λl ah=>?_,λl a0=>?_]
   .rw[l] at a
    exact#[(show 1<=aq by decide),λz hl=>a _ z (k.trans (.upd hl)) (k.free hl) Y]
   .rw[l] at a
    simp only[if_pos ah] at a;exact#[(by decide),λz hl=>a _ z (k.trans (.upd hl)) (k.free hl) Y]
   .rw[l] at a
    simp only[if_neg (show¬(e.again 0).lcm (f.again 0)<=2000 from by omega)] at a;exact a _ k
def ec(e:G)(a:List B)(rs:List (List Int)):Prop:=a.length=rs.length/\ ∀(b:Nat)(c:B)(d:List Int),a[b]? =some c->rs[b]? =some d->e c=some (.lst (d.map V.int))
theorem ec.same{a b:G}{c:List B}{rs:List (List Int)}(d:ec a c rs)(e:Same a b):ec b c rs:=#[d.1,λf g i D j=>e _ _ (d.2 f g i D j)]
theorem ec.snoc{H:G}{d:List B}{rs:List (List Int)}{a:B}{f:List Int}(c:ec H d rs)(i:H a=some (.lst (f.map V.int))):ec H (d++[a]) (rs++[f]):=by
 refine#[by simp[c.1],λe j k D b=>?_];by_cases g:e<d.length
 .rw[cF g] at D
  rw[cF (by rw[<-c.1];exact g)] at b;exact c.2 e j k D b
 .rw[dB (by omega)] at D
  rw[dB (by rw[<-c.1];omega),<-c.1] at b
  match e-d.length,D,b with
  |0,D,b=>cases D;cases b;exact i
  |l+1,D,b=>simp at D
theorem ec.nil(a:G):ec a [] []:=#[rfl,λb c d D e=>by simp at D]
theorem A8{j:Nat}{f:List Int}{l:List (List Int)}{m:List Int}(b:hU (j+1) f=some (l,m)):∃(a:Nat)(d:List Int)(g:List (List Int)),f=(a:Int)::d/\a<=d.length/\l=d.take a::g/\hU j (d.drop a)=some (g,m):=by
 unfold hU at b;cases c:A9 f with
 |none=>rw[c] at b;cases b
 |some n=>
  obtain⟨p,d⟩:=n;rw[c] at b;cases hq:hU j d with
  |none=>simp only[hq] at b;cases b
  |some o=>
   obtain⟨g,q⟩:=o;simp only[hq] at b;cases b;cases f with
   |nil=>cases c
   |cons a e=>
    by_cases i:0<=a/\a.toNat<=e.length
    .have k:A9 (a::e)=some (e.take a.toNat,e.drop a.toNat):=if_pos i
     rw[k] at c;cases c;exact#[a.toNat,e,g,by rw[jK i.1],i.2,rfl,hq]
    .have k:A9 (a::e)=none:=if_neg i
     rw[k] at c;cases c
inductive A_(K:aj)(l:List V)(a:G)(m:VK)(p:XK):Prop
 |mk(cl:B)(b:List Int)(f g:Nat)(k:List (List Int))(n:List Int)(q:l=[.ref cl,.int f,.int g])(r:I K a cl (b.map V.int))(s:f<=b.length)(t:b.length<=100000)(u:g<=4)(v:hU g (b.drop f)=some (k,n))(x:∀(e:G)(i:B)(j:List B),Same a e->a i=none->e i=some (.lst (j.map V.ref))->ec e j k->(∀o∈j,a o=none)->m (.ref i) e)
theorem ML(Q:Tx K d c):ao P w K d base 1 "rows_from" ["calls","place","count"] (A_ K):=by
 refine bS Q.Up ["calls","place","count","rows","number","begin"] λR aZ a0 a1 a5 nd u=>?_;obtain⟨cl,e,ab,g,S,ad,rfl,ah,am,hl,a8,as,T⟩:=u;refine#[_,J (al 3 (a3 er))
  (J (b_ cv rfl (j7 rfl Q.RT (af (E 2))) (aO 4)
   (J (al 5 (aM cg (E 1) ai))
   (J (al 1 (aM cg (E 5) (aI (E 0) (E 1))))
   (ae (aG (cM cI dU ea dS (E 3) (af (ie ik (E 0) (fZ (E 5)) (fZ (E 1))))))))))
  (ae (ax (E 3)))),?_]
 refine#[aR _,λq hR=>?_];refine#[_,rfl,by omega,by omega,?_];have au:(((g:Nat):Int)).toNat=g:=by omega
 rw[au];refine j8 (λi v x=>∃(a:Nat)(f:List B)(j m:List (List Int))(y z:Option V),v=[some (.ref cl),some (.int a),some (.int g),some (.ref q),y,z]/\Same R x/\x q=some (.lst (f.map V.ref))/\ec (less x [q]) f j/\(∀A∈f,R A=none)/\a<=e.length/\S=j++m/\j.length=i/\hU (g-i) (e.drop a)=some (m,ad)) #[ab,[],[],S,none,none,rfl,.upd hR,Y,ec.nil _,(λ_ u=>by cases u),am,rfl,rfl,as] ?_ ?_
 .rintro i v r a9 ⟨a,f,j,m,y,z,rfl,n,o,s,C,aB,t,F,k⟩
  obtain⟨G,aD⟩:∃G,g-i=G+1:=#[g-i-1,by omega];rw[aD] at k;obtain⟨b,l,aF,U,ba,H,aH⟩:=A8 k;have W:e[a]? =some (b:Int):=by
   have:(e.drop a)[0]? =some (b:Int):=by rw[U];rfl
   rw[t2] at this;exact this
  have L:l=e.drop (a+1):=by
   have:(e.drop a).drop 1=l:=by rw[U];rfl
   rw[ou] at this;exact this.symm
  have X:a+1+b<=e.length:=by
   have D:l.length=e.length-(a+1):=by rw[L,eK]
   have bb:=(aC.mp W).1;omega
  have Z:=n.seq ah;refine#[Z,aw (by rw[a6,W];rfl),?_];refine#[.inl #[rfl,_,I.of o],_,rfl,_,rfl,cl,_,rfl,Z,λaa N=>?_];have aJ:cR (e.map V.int) (some (((a:Nat):Int)+1)) (some (((a:Nat):Int)+1+(b:Nat)))=(l.take b).map V.int:=by
   have aL:((a:Nat):Int)+1=((a+1:Nat):Int):=rfl;have aN:((a:Nat):Int)+1+(b:Nat)=((a+1+b:Nat):Int):=rfl;rw[aN,aL];unfold cR;rw[HT.hv,HT.hv,ag,hL X,hL (by omega),<-on,<-oo,<-L,ug]
  rw[aJ];have aT:=aK o N;have O:Same r (upd r aa (.lst ((l.take b).map V.int))):=.upd N;have aV:f.length=i:=by rw[s.1,F]
  refine#[O _ _ o,?_,a+1+b,f++[aa],j++[l.take b],aF,_,_,rfl,(n.trans O).put hR,?_,?_,?_,X,?_,?_,?_]
  .rw[ag,aV]
   exact small (by omega)
  .rw[Y,br]
   rfl
  .rw[eT a4]
   exact(s.same (gE O)).snoc (cJ Y λp=>aT (cb.mp p).symm)
  .intro A aW
   rcases c4.mp aW with p|p
   .exact C A p
   .rw[cb.mp p];exact n.free N
  .rw[t,H]
   simp
  .rw[bq,F]
   rfl
  .have aY:g-(i+1)=G:=by omega
   rw[aY,<-aH,L,ou]
 .rintro v r ⟨a,f,j,m,y,z,rfl,n,o,s,C,aB,t,F,k⟩
  rw[ez] at k;have H:m=[]:=by
   unfold hU at k;cases k;rfl
  rw[H,eH] at t;rw[t] at T;exact T r q f n hR o (s.same (f_ _ _)) C
theorem Ba{c:List Int}{d:Nat}{lo e:Int}(a:eE c d lo e=true):c.length<=d/\ ∀b∈c,lo<=b/\b<=e:=by
 unfold eE at a;rw[bJ,decide_eq_true_eq,io] at a;refine#[a.1,λb f=>?_];have:=a.2 b f;rw[bJ,decide_eq_true_eq,decide_eq_true_eq] at this;exact this
theorem Bb{b:List Int}(c:∀a∈b,0<=a):L (gH b)=b.map V.int:=by
 unfold L gH;rw[dG];refine gu λa d=>?_;show V.int ((a.toNat:Nat):Int)=V.int a;rw[jK (c a d)]
theorem MM{b:List Int}(e:∀a∈b,0<=a/\a<=255):L (nb (gI b))=b.map V.int:=by
 unfold gI;show L (((gH b).map q0).map eA)=_;rw[dG];have f:(gH b).map (eA∘q0)=gH b:=by
  have:∀c∈gH b,(eA∘q0) c=id c:=λc g=>by
   obtain⟨a,d,rfl⟩:=bK.mp g;have:=e a d;show(q0 a.toNat).toNat=a.toNat;rw[KG];exact jt (by omega)
  rw[gu this,MN]
 rw[f];exact Bb λa d=>(e a d).1
theorem MO{d:Int->Option (Nat×Nat)}{e:Nat}{i:Int}{c:List Int}{n:List (List (List Int))}(a:mI d e (i::c)=some n):
  ∃(b f:Nat)(j:List (List Int))(g:List Int)(k:List (List (List Int)))(q:Nat),d i=some (b,f)/\b<=c.length/\hU f (c.drop b)=some (j,g)/\mI d q g=some k/\n=((i::c.take b)::j)::k:=by
 cases e with
 |zero=>cases a
 |succ e=>
  unfold mI at a;unfold PyFlat.call at a;cases o:d i with
  |none=>simp only[o] at a;cases a
  |some r=>
   obtain⟨b,f⟩:=r;simp only[o] at a;by_cases p:c.length<b
   .simp only[if_pos p] at a;cases a
   .simp only[if_neg p] at a
    cases l:hU f (c.drop b) with
    |none=>simp only[l] at a;cases a
    |some s=>
     obtain⟨j,g⟩:=s;simp only[l] at a;cases m:mI d e g with
     |none=>simp only[m] at a;cases a
     |some k=>
      simp only[m] at a;cases a;exact#[b,f,j,g,k,e,rfl,by omega,l,m,rfl]
theorem Bc:∀{g:Nat}{c:List Int}{b:List (List Int)}{d:List Int},hU g c=some (b,d)->b.length=g/\(b.map λa=>1+a.length).sum<=c.length/\d=c.drop (b.map λa=>1+a.length).sum
 |0,c,b,d,e=>by
  unfold hU at e;cases e;exact#[rfl,aR _,rfl]
 |g+1,c,b,d,e=>by
  obtain⟨f,j,i,rfl,n,rfl,k⟩:=A8 e;obtain⟨D,l,m⟩:=Bc k;have hl:(j.take f).length=f:=by rw[ck];omega
  rw[eK] at l;refine#[by rw[bV,D],?_,?_]
  .rw[bE,hJ,hl,bV]
   omega
  .rw[bE,hJ,hl,m,ou]
   have:1+f+(i.map λa=>1+a.length).sum=(f+(i.map λa=>1+a.length).sum)+1:=by omega
   rw[this,List.drop_succ_cons]
end Mb
end
section
namespace Ma
open Marble
def nz(a:aQ):Bool:=a.num !=0
def ed(c:List Bool)(a:List Nat):List Bool:=a.foldl (λc w=>c.set w true) c
def gJ(b:Board):Nat->List Bool->List Bool
 |0,c=>c
 |a+1,c=>match b.parts[a]? with
  |some d=>gJ b a (if c.getD a false=true then ed c (ways d) else c)
  |none=>gJ b a c
theorem Bd{a b:Nat}(d:0<b):nz (hO a b)=(a !=0):=by
 unfold nz hO;have e:0<bh a b:=Am _ d;show(a/bh a b !=0)=_;by_cases c:a=0
 .subst c;simp
 .have:0<a/bh a b:=uO (uP (by omega) (mr _ _)) e
  rw[bne_iff_ne.mpr (by omega),bne_iff_ne.mpr c]
theorem Be{c a:Nat}(b:0<a):0<(hO c a).den:=uO (uP b (q8 _ _)) (Am _ b)
theorem MP{a b:aQ}(d:0<a.den)(e:0<b.den):nz (a.add b)=(nz a||nz b):=by
 unfold Lb;rw[Bd (fu d e)];unfold nz;rw[fU,lM,bne_iff_ne,bne_iff_ne,bne_iff_ne];constructor
 .intro c
  by_cases f:a.num=0
  .right
   intro g;rw[f,g] at c;simp at c
  .exact .inl f
 .rintro(c|c) z
  .have:0<a.num*b.den:=fu (by omega) e
   omega
  .have:0<b.num*a.den:=fu (by omega) d
   omega
theorem MQ{a b:aQ}(c:0<a.den)(d:0<b.den):0<(a.add b).den:=Be (fu c d)
theorem MR{a:aQ}{b:Nat}(c:0<a.den)(d:0<b):nz (a.over b)=nz a:=Bd (fu c d)
theorem MS{a:aQ}{k:Nat}(b:0<a.den)(c:0<k):0<(a.over k).den:=Be (fu b c)
structure Mk(a:List aQ)(c:List Bool):Prop where
 eq:a.map nz=c
 den:∀b∈a,0<b.den
theorem vj{a:List aQ}(d:∀b∈a,0<b.den)(c:Nat):0<(a.getD c #[0,1]).den:=by
 rw[aE];cases e:a[c]? with
 |none=>exact ek
 |some b=>exact d b (a7 e)
theorem vk(a:List aQ)(b:Nat):nz (a.getD b #[0,1])=(a.map nz).getD b false:=by
 rw[aE,aE,a6];cases a[b]? <;>rfl
theorem Mk.bump{f:List aQ}{c:List Bool}(d:Mk f c){e:aQ}(g:0<e.den)(b:Nat):Mk (dv f b e) (if nz e=true then c.set b true else c):=by
 unfold dv;refine#[?_,λj k=>?_]
 .rw[<-d.eq,Bf,MP (vj d.den b) g]
  by_cases a:nz e=true
  .rw[if_pos a,a,oN]
  .rw[if_neg a,dE.mpr a,sI,vk]
   refine kx λl=>?_;rw[fk];by_cases i:b=l
   .subst i
    rw[if_pos rfl,aE];split
    .rename_i hl
     rw[a2 hl];rfl
    .rename_i hl
     rw[eu (by omega)]
   .rw[if_neg i]
 .rcases MT k with a|a
  .exact d.den j a
  .rw[a];exact MQ (vj d.den b) g
theorem Mk.ways{a:aQ}(f:0<a.den):∀(b:List Nat){d:List aQ}{c:List Bool},Mk d c->Mk (b.foldl (λc i=>dv c i a) d) (if nz a=true then ed c b else c)
 |[],d,c,e=>by
  have:(if nz a=true then ed c [] else c)=c:=by split<;>rfl
  rw[this];exact e
 |w::b,d,c,e=>by
  have g:=Mk.ways f b (e.bump f w);rw[ff];have j:(if nz a=true then ed (if nz a=true then c.set w true else c) b else(if nz a=true then c.set w true else c))=if nz a=true then ed c (w::b) else c:=by
   split<;>rfl
  rw[j] at g;exact g
theorem Mk.send{m:Board}(o:Wf m){a:Nat}{e:Part}(p:m.parts[a]? =some e){f:List aQ}{c:List Bool}(b:Mk f c):Mk (fM e (f.getD a #[0,1]) f) (if c.getD a false=true then ed c (Ma.ways e) else c):=by
 have i:=vj b.den a;have j:=vk f a;rw[b.eq] at j;cases e with
 |tray g=>
  have:(if c.getD a false=true then ed c (Ma.ways (.tray g)) else c)=c:=by split<;>rfl
  rw[this];exact b
 |wheel g l n=>
  have r:=(o.part a _ p).wheel g l n rfl;have d:=Mk.ways (MS (k:=l.length) i (by omega)) l b;rw[MR i (by omega),j] at d;exact d
 |gate g k q n=>
  have d:=b.bump i q;rw[j] at d;exact d
theorem vl{b:Board}(f:Wf b):∀(a:Nat){d:List aQ}{c:List Bool},Mk d c->Mk (b.ratesFrom a d) (gJ b a c)
 |0,d,c,e=>e
 |a+1,d,c,e=>by
  unfold rg gJ;cases g:b.parts[a]? with
  |none=>exact vl f a e
  |some i=>exact vl f a (e.send f g)
def mF(c:Board):Nat->(Nat->Bool)->Nat->Bool
 |0,a=>a
 |b+1,a=>match c.parts[b]? with
  |some e=>mF c b (λd=>a d||(a b&&(ways e).contains d))
  |none=>mF c b a
theorem vm(e:Board):∀(b:Nat)(c d:Nat->Bool),mF e b (λa=>c a||d a)=λa=>mF e b c a||mF e b d a
 |0,c,d=>rfl
 |b+1,c,d=>by
  unfold mF;cases g:e.parts[b]? with
  |none=>exact vm e b c d
  |some f=>
   show mF e b (λa=>(c a||d a)||((c b||d b)&&(ways f).contains a))=_;rw[<-vm e b];congr 1;funext a;cases c a<;>cases d a<;>cases c b<;>cases d b<;>cases(ways f).contains a<;>rfl
theorem vn(b:Board):∀(a:Nat),mF b a (λ_=>false)=λ_=>false
 |0=>rfl
 |a+1=>by
  unfold mF;cases c:b.parts[a]? with
  |none=>exact vn b a
  |some d=>exact vn b a
theorem Bg(c:Board)(d:Nat)(e:Nat->Nat):∀(f:List Nat),mF c d (λa=>f.any λb=>a==e b)=λa=>f.any λb=>mF c d (λa=>a==e b) a
 |[]=>vn c d
 |b::f=>by
  show mF c d (λa=>(a==e b)||f.any λb=>a==e b)=_;rw[vm,Bg c d e f];rfl
theorem vo:∀(b:List Nat)(c:List Bool)(a:Nat),(∀w∈b,w<c.length)->(ed c b).length=c.length/\(ed c b).getD a false=(c.getD a false||b.contains a)
 |[],c,a,d=>by simp[ed]
 |w::b,c,a,d=>by
  have g:=d w (a4 ..);have f:=vo b (c.set w true) a λi j=>by rw[ij];exact d i (bj _ j)
  have k:ed c (w::b)=ed (c.set w true) b:=rfl;rw[k];refine#[by rw[f.1,ij],?_];rw[f.2,Hz];by_cases e:a=w
  .subst e
   have:(c.set a true).getD a false=true:=by rw[aE,nk g];rfl
   rw[this];simp
  .have:(c.set w true).getD a false=c.getD a false:=by rw[aE,o7 (b8 e),<-aE]
   rw[this];have l:=beq_eq_false_iff_ne.mpr e;rw[l,xX]
theorem oO{d:Board}(g:Wf d):∀(a:Nat)(c:List Bool)(b:Nat),a<=c.length->(gJ d a c).length=c.length/\(gJ d a c).getD b false=mF d a (λi=>c.getD i false) b
 |0,c,b,_=>#[rfl,rfl]
 |a+1,c,b,n=>by
  unfold gJ mF;cases l:d.parts[a]? with
  |none=>exact oO g a c b (by omega)
  |some e=>
   have k:∀w∈ways e,w<c.length:=λw m=>by have:=(g.part a e l).below w m;omega
   by_cases j:c.getD a false=true
   .have hl:=(vo (ways e) c 0 k).1
    have f:=oO g a (ed c (ways e)) b (by rw[hl];omega);simp only[if_pos j];refine#[by rw[f.1,hl],?_];rw[f.2];congr 1;funext i;rw[(vo (ways e) c i k).2,j,uy]
   .have f:=oO g a c b (by omega)
    simp only[if_neg j];refine#[f.1,?_];rw[f.2];congr 1;funext i;rw[dE.mpr j,DU,sI]
theorem MU{a:Board}(f:Wf a):a.fed=(aS a.parts.length).map (mF a a.parts.length λg=>(aS a.hoppers.length).any λb=>g==a.entry b):=by
 unfold MV;refine gu λc s=>?_;rw[Bg];have k:∀b,b<a.hoppers.length->(((a.rates b).getD c #[0,1]).num !=0)=mF a a.parts.length (λg=>g==a.entry b) c:=λb d=>by
  have m:=ej f d;have n:Mk ((aP a.parts.length (#[0,1]:aQ)).set (a.entry b) #[1,1]) ((aP a.parts.length false).set (a.entry b) true):=by
   refine#[by rw[Bf,qq];rfl,λt o=>?_];rcases MT o with i|i
   .rw[(List.mem_replicate.mp i).2];exact ek
   .rw[i];exact ek
  have p:=vl f a.parts.length n;have l:=vk (a.rates b) c;have q:(a.rates b).map nz=gJ a a.parts.length ((aP a.parts.length false).set (a.entry b) true):=p.eq;rw[q,(oO f a.parts.length _ c (by rw[ij,cQ];exact av _)).2] at l;show nz ((a.rates b).getD c #[0,1])=_;rw[l];congr 1;funext r;by_cases j:r=a.entry b
  .subst j
   rw[aE,nk (by rw[cQ];exact m)];simp
  .rw[aE,o7 (b8 j),fY,beq_eq_false_iff_ne.mpr j]
   split<;>rfl
 rw[fU,hT,hT];constructor
 .rintro⟨b,e,d⟩
  exact#[b,e,by rw[<-k b (e7.mp e)];exact d]
 .rintro⟨b,e,d⟩
  exact#[b,e,by rw[k b (e7.mp e)];exact d]
theorem rr(d:Board):∀(b:Nat)(c:Nat->Bool)(a:Nat),c a=true->mF d b c a=true
 |0,c,a,e=>e
 |b+1,c,a,e=>by
  unfold mF;cases f:d.parts[b]? with
  |none=>exact rr d b c a e
  |some g=>exact rr d b _ a (by rw[e,Gv])
theorem vp{d:Board}(e:Wf d):∀(b:Nat)(c:Nat->Bool)(a:Nat),b<=a+1->mF d b c a=c a
 |0,c,a,_=>rfl
 |b+1,c,a,j=>by
  unfold mF;cases g:d.parts[b]? with
  |none=>exact vp e b c a (by omega)
  |some f=>
   show mF d b _ a=_;rw[vp e b _ a (by omega)];have:(ways f).contains a=false:=by
    rw[dE];intro i;have:=(e.part b f g).below a (MW.mp i);omega
   rw[this,xG,sI]
theorem vq{d:Board}(f:Wf d){a w:Nat}{k:Part}(g:d.parts[a]? =some k)(i:w∈ways k):∀(c:Nat)(e:Nat->Bool),a<c->mF d c e a=true->mF d c e w=true
 |c+1,e,m,b=>by
  unfold mF at b⊢;by_cases l:a=c
  .subst l
   simp only[g] at b⊢;rw[vp f a _ a (by omega)] at b;have j:e a=true:=by
    cases j:e a with
    |true=>rfl
    |false=>rw[j] at b;simp at b
   exact rr d a _ w (by rw[j,uy,MW.mpr i,oN])
  .cases hq:d.parts[c]? with
   |none=>
    rw[hq] at b;exact vq f g i c e (by omega) b
   |some n=>
    simp only[hq] at b⊢;exact vq f g i c _ (by omega) b
theorem Bh{f:Type}:∀{b:List (f×Bool)}{d:Nat}{c:f},b[d]? =some (c,true)->(b.filter λa=>a.2)[((b.take d).filter λa=>a.2).length]? =some (c,true)
 |a::b,0,c,e=>by
  cases e;rfl
 |a::b,d+1,c,e=>by
  have g:=Bh (by simpa using e);rw[oq,f7,f7];cases i:a.2 with
  |true=>simpa using g
  |false=>simpa using g
theorem oP{j:Type}:∀{f:List (j×Bool)}{b:Nat}{g:j×Bool},(f.filter λd=>d.2)[b]? =some g-> ∃c,f[c]? =some (g.1,true)/\b=((f.take c).filter λd=>d.2).length
 |[],b,g,a=>by simp at a
 |d::f,b,g,a=>by
  rw[f7] at a;cases e:d.2 with
  |true=>
   rw[e,if_pos rfl] at a;cases b with
   |zero=>
    cases a;exact#[0,by simp[<-e],rfl]
   |succ b=>
    obtain⟨c,D,i⟩:=oP (by simpa using a);exact#[c+1,by simpa using D,by rw[oq,f7,e,if_pos rfl,bV,i]]
  |false=>
   rw[e,if_neg (by simp)] at a;obtain⟨c,D,i⟩:=oP a;exact#[c+1,by simpa using D,by rw[oq,f7,e,if_neg (by simp),i]]
theorem ru{i:Type}:∀(b:List i)(a:List Bool)(c:Nat),b.length=a.length->(((b.zip a).take c).filter λe=>e.2).length=keptBefore a c
 |[],a,c,d=>by
  have:=Bi.mp d.symm;subst this;simp[keptBefore]
 |g::b,[],c,d=>by cases d
 |g::b,e::a,0,d=>by simp[keptBefore]
 |g::b,e::a,c+1,d=>by
  have f:=ru b a c (by simpa using d);unfold keptBefore at f⊢;rw[List.zip_cons_cons,oq,oq,f7,f7];cases e with
  |true=>simpa using f
  |false=>simpa using f
theorem MX{c:List Bool}{a b:Nat}(f:a<b)(e:c[a]? =some true):keptBefore c a<keptBefore c b:=by
 obtain⟨d,rfl⟩:∃d,b=(a+1)+d:=#[b-(a+1),by omega];unfold keptBefore;rw[List.take_add,oD,bq,jJ,e,oD,bq];simp;omega
def keep(a:Board):List Bool:=(a.parts.zip a.fed).map λ(b:Part×Bool)=>b.1.isTray||b.2
theorem mJ(a:Board):a.fed.length=a.parts.length:=by simp[MV]
theorem rv(a:Board):(keep a).length=a.parts.length:=by simp[keep,mJ]
theorem rx{a:Board}{b:Nat}{c:Part}(d:a.parts[b]? =some c):(keep a)[b]? =some (c.isTray||a.fed.getD b false):=by
 have e:=(aC.mp d).1;have f:a.fed[b]? =some (a.fed.getD b false):=by rw[aE,a2 (by rw[mJ];exact e)];rfl
 unfold keep;have g:(a.parts.zip a.fed)[b]? =some (c,a.fed.getD b false):=g7.mpr #[d,f];rw[a6,g];rfl
theorem ry{a:Board}(c:Wf a){b:Nat}(d:b<a.parts.length):a.fed.getD b false=mF a a.parts.length (λe=>(aS a.hoppers.length).any λf=>e==a.entry f) b:=by
 rw[MU c,aE,a6,op d];rfl
theorem MY{a:Board}(c:Wf a){b:Nat}(d:b<a.hoppers.length):a.fed.getD (a.entry b) false=true:=by
 rw[ry c (ej c d)];exact rr a _ _ _ (hT.mpr #[b,e7.mpr d,beq_iff_eq.mpr rfl])
theorem MZ{a:Board}(b:Wf a){c w:Nat}{d:Part}(e:a.parts[c]? =some d)(f:w∈ways d)(g:a.fed.getD c false=true):a.fed.getD w false=true:=by
 have i:=(aC.mp e).1;have j:=(b.part c d e).below w f;rw[ry b i] at g;rw[ry b (by omega)];exact vq b e f _ _ i g
theorem vr(a:Board):a.bare.parts=((a.parts.zip (keep a)).filter λb=>b.2).map λb=>b.1.renumber (keptBefore (keep a)):=rfl
theorem Bj{a:Board}{d:Nat}{f:Part}(b:a.bare.parts[d]? =some f):∃c g,a.parts[c]? =some g/\(keep a)[c]? =some true/\d=keptBefore (keep a) c/\f=g.renumber (keptBefore (keep a)):=by
 rw[vr,a6] at b;cases e:((a.parts.zip (keep a)).filter λi=>i.2)[d]? with
 |none=>rw[e] at b;cases b
 |some j=>
  rw[e] at b;obtain⟨c,D,k⟩:=oP e;obtain⟨l,m⟩:=g7.mp D;exact#[c,j.1,l,m,by rw[k,ru _ _ _ (rv a).symm],(b5 b).symm]
theorem M0{a:Board}{b:Nat}{c:Part}(e:a.parts[b]? =some c)(f:(keep a)[b]? =some true):a.bare.parts[keptBefore (keep a) b]? =some (c.renumber (keptBefore (keep a))):=by
 have d:=Bh (g7.mpr #[e,f]:(a.parts.zip (keep a))[b]? =some (c,true));rw[ru _ _ _ (rv a).symm] at d;rw[vr,a6,d];rfl
theorem Bk(b:Nat->Nat)(a:Part):ways (a.renumber b)=(ways a).map b:=by cases a<;>rfl
theorem Bl{a:Board}(g:Wf a){d w:Nat}{b:Part}(c:a.parts[d]? =some b)(e:(keep a)[d]? =some true)(f:w∈ways b):(keep a)[w]? =some true:=by
 have l:=(g.part d b c).below w f;have m:=(aC.mp c).1;have j:a.parts[w]? =some (a.parts[w]'(by omega)):=a2 (by omega);rw[rx c] at e;have k:b.isTray=false:=by
  cases b with
  |tray i=>cases f
  |wheel i n o=>rfl
  |gate i p q r=>rfl
 rw[k,xX] at e;rw[rx j,MZ g c f (b5 e),oN]
theorem Bm{a:Board}(b:Wf a){c:Nat}(d:c<a.hoppers.length):(keep a)[a.entry c]? =some true:=by
 have e:=ej b d;rw[rx (a2 e),MY b d,oN]
theorem Bn{a:Board}(b:Wf a){h:Nat}(c:h<a.hoppers.length):keptBefore (keep a) (a.entry h)<a.bare.parts.length:=by
 have d:=ej b c;exact(aC.mp (M0 (a2 d) (Bm b c))).1
theorem vt{c:Board}(b:Wf c):Wf c.bare:=by
 refine#[λs t e=>?_,λu l=>?_,#[?_,?_],?_]
 .obtain⟨m,f,i,n,rfl,rfl⟩:=Bj e
  have w:=b.part m f i;refine#[λv j=>?_,λo x p a=>?_,λo y z p a=>?_]
  .rw[Bk] at j
   obtain⟨g,d,rfl⟩:=bK.mp j;exact MX (w.below g d) (Bl b i n d)
  .cases f with
   |tray _=>cases a
   |gate _ _ _ _=>cases a
   |wheel q A r=>
    cases a;have:=w.wheel _ _ _ rfl;rw[ag];exact this
  .cases f with
   |tray _=>cases a
   |wheel _ _ _=>cases a
   |gate q C D r=>
    cases a;exact w.gate _ _ _ _ rfl
 .obtain⟨g,d,rfl⟩:=bK.mp (l)
  obtain⟨e,k⟩:=mo d;have hl:=(aC.mp k).1;have a:c.entry e=g.2:=by simp[ky,k]
  have:=Bn b hl;rw[a] at this;exact this
 .have:=Bn b (h:=0) (by have:=b.nh;omega)
  omega
 .rw[vr,ag]
  refine bB (qZ _ _) ?_;rw[jL];have:=b.np;omega
 .have a:c.bare.hoppers.length=c.hoppers.length:=ag ..
  rw[a];exact b.nh
theorem Bo{a:Board}(b:fL a):fL a.bare:=by
 refine#[λj d=>?_,λk e=>?_]
 .obtain⟨l,f⟩:=mo d
  obtain⟨m,c,hq,_,_,rfl⟩:=Bj f;have:=b.1 c (a7 hq);cases c<;>exact this
 .obtain⟨g,i,rfl⟩:=bK.mp (e)
  exact b.2 g i
theorem vu:∀(b:List Nat)(a:Nat),b.foldl (λ(a d:Nat)=>a+d) a=a+sum b
 |[],a=>rfl
 |c::b,a=>by
  show b.foldl _ (a+c)=a+b.foldl _ (0+c);rw[vu b (a+c),vu b (0+c)];omega
theorem sum_cons(a:Nat)(b:List Nat):sum (a::b)=a+sum b:=by
 show b.foldl _ (0+a)=_;rw[vu];omega
def iP(b:List (Nat×Nat))(c:List Nat):List Nat:=b.foldl (λc a=>if a.1=255 then c else bump c a.1 a.2) c
theorem vv:∀(d:List (Nat×Nat))(c:List Nat),(iP d c).length=c.length/\ ∀b,b<c.length->b≠255->(iP d c).getD b 0=c.getD b 0+sum (d.map λa=>if a.1=b then a.2 else 0)
 |[],c=>#[rfl,λb _ _=>rfl]
 |a::d,c=>by
  have f:=vv d (if a.1=255 then c else bump c a.1 a.2);have g:(if a.1=255 then c else bump c a.1 a.2).length=c.length:=by split<;>simp[bump]
  refine#[by rw[<-g];exact f.1,λb j k=>?_];have:=f.2 b (by rw[g];exact j) k;rw[bE,sum_cons,<-l3];refine oJ this (congrArg (·+_) ?_);by_cases i:a.1=255
  .rw[if_pos i,if_neg (by omega)];rfl
  .rw[if_neg i,eO]
   by_cases e:a.1=b
   .rw[if_pos #[e.symm,by omega],if_pos e,e]
   .rw[if_neg (λl=>e l.1.symm),if_neg e];rfl
def b4(a:Lifts):List Nat:=a.map λ(b:Option Nat)=>b.getD NONE
structure jM(a:Board)(b:Lifts):Prop where
 len:b.length=a.parts.length
 at_:∀c d,liftAt b c=some d->a.isTray c=true/\d<a.hoppers.length
theorem vw{f:Board}(i:Wf f){b:Lifts}(j:jM f b){c:Nat}(k:c<b.length):∃a,b[c]? =some a/\liftAt b c=a/\(b4 b)[c]? =some (a.getD 255)/\(a.getD 255=255↔a=none)/\ ∀d,d≠255->(a.getD 255=d↔a=some d):=by
 obtain⟨a,e⟩:∃a,b[c]? =some a:=#[b[c],a2 k];have g:liftAt b c=a:=by unfold liftAt;rw[e];rfl
 refine#[a,e,g,by unfold b4;rw[a6,e];rfl,?_,λd l=>?_]
 .cases a with
  |none=>simp
  |some d=>have:=(j.at_ c d g).2;have:=i.nh;simp;omega
 .cases a with
  |none=>simp;omega
  |some m=>simp
theorem M1{a:Board}(i:Wf a){d:Lifts}(j:jM a d){b:List Nat}(t:b.length=a.parts.length):
  iP ((b4 d).zip b) (aP a.hoppers.length 0)=(aS a.hoppers.length).map λe=>sum ((aS a.parts.length).map λc=>if liftAt d c=some e then b.getD c 0 else 0):=by
 have f:=vv ((b4 d).zip b) (aP a.hoppers.length 0);rw[cQ] at f;refine kx λe=>?_;by_cases g:e<a.hoppers.length
 .rw[a6,op g,a2 (by rw[f.1];exact g)]
  have k:=f.2 e g (by have:=i.nh;omega);rw[aE,a2 (by rw[f.1];exact g)] at k;have m:(aP a.hoppers.length 0).getD e 0=0:=by rw[aE,fY];split<;>rfl
  rw[m,f4] at k;refine congrArg some (oJ k (congrArg sum ?_));refine kx λc=>?_;have hl:(b4 d).length=a.parts.length:=by unfold b4;rw[ag,j.len]
  by_cases l:c<a.parts.length
  .obtain⟨n,D,o,p,u,q⟩:=vw i j (by rw[j.len];exact l)
   have r:b[c]? =some (b.getD c 0):=by rw[aE,a2 (by omega)];rfl
   have s:((b4 d).zip b)[c]? =some (n.getD 255,b.getD c 0):=g7.mpr #[p,r];rw[a6,s,a6,op l,kB,kB];have:=q e (by have:=i.nh;omega);simp only[o,this]
  .rw[eu (by rw[ag,jL];omega),eu (by rw[ag,fm];omega)]
 .rw[eu (by rw[f.1];omega),eu (by rw[ag,fm];omega)]
def oQ(b:Lifts)(c:Run):Prop:=∀a d,liftAt b a=some d->c.nums.getD a 0=0
theorem M2{b:Board}{d c:List Nat}{a:Nat}{e:Part}(f:b.parts[a]? =some e):(b.many d c).getD a 0=e.behind (d.getD a 0) ((b.came d c).getD a 0):=by
 show((b.parts.zipIdx).map _).getD a 0=_;rw[aE,a6,gv,f];simp
theorem vx{b:Board}{c:Nat}(a:b.isTray c=true):∃d,b.parts[c]? =some (.tray d):=by
 unfold eQ at a;cases e:b.parts[c]? with
 |none=>rw[e] at a;cases a
 |some f=>
  rw[e] at a;cases f with
  |tray d=>exact#[d,rfl]
  |wheel _ _ _=>cases a
  |gate _ _ _ _=>cases a
theorem Bp{c:Board}{e:Lifts}(g:jM c e){a:Run}(i:oQ e a):c.round e a=
  #[(c.many a.nums a.waiting).zipIdx.map λf=>if(liftAt e f.2).isSome=true then 0 else f.1,
   (aS c.hoppers.length).map λd=>sum ((aS c.parts.length).map λb=>if liftAt e b=some d then(c.came a.nums a.waiting).getD b 0 else 0),
   (a.came.zip (c.came a.nums a.waiting)).map λf=>f.1+f.2]:=by
 unfold Board.round;have:(λd=>sum ((aS c.parts.length).map λb=>if liftAt e b=some d then(c.many a.nums a.waiting).getD b 0 else 0))=λd=>sum ((aS c.parts.length).map λb=>if liftAt e b=some d then(c.came a.nums a.waiting).getD b 0 else 0):=by
  funext d;refine congrArg sum (gu λb _=>?_);by_cases hl:liftAt e b=some d
  .rw[if_pos hl,if_pos hl]
   obtain⟨k,j⟩:=vx (g.at_ b d hl).1;rw[M2 j,i b d hl];exact f4 _
  .rw[if_neg hl,if_neg hl]
 simp only[this]
theorem M3{b:Board}(f:Wf b){d:Lifts}{a:Run}{c:Nat}:(b.round d a).nums.getD c 0=if(liftAt d c).isSome=true then 0 else(b.many a.nums a.waiting).getD c 0:=by
 show(((b.many a.nums a.waiting).zipIdx).map λ(e:Nat×Nat)=>if(liftAt d e.2).isSome=true then 0 else e.1).getD c 0=_;rw[aE,a6,gv,aE];cases(b.many a.nums a.waiting)[c]? with
 |none=>split<;>rfl
 |some g=>simp
theorem Bq{a:Board}(c:Wf a){b:Lifts}{d:Run}:oQ b (a.round b d):=λf g e=>by
 rw[M3 c,e];rfl
theorem M4{c:Board}(i:Wf c){d:Lifts}(f:jM c d){b:List Nat}(o:b.length=c.parts.length):
  (b.zipIdx.map λa=>if(liftAt d a.2).isSome=true then 0 else a.1)=(b.zip (b4 d)).map λa=>if a.2=255 then a.1 else 0:=by
 refine kx λe=>?_;have hl:(b4 d).length=c.parts.length:=by unfold b4;rw[ag,f.len]
 by_cases j:e<c.parts.length
 .obtain⟨a,D,k,l,m,p⟩:=vw i f (by rw[f.len];exact j)
  have g:b[e]? =some (b.getD e 0):=by rw[aE,a2 (by omega)];rfl
  have n:(b.zip (b4 d))[e]? =some (b.getD e 0,a.getD 255):=g7.mpr #[g,l];rw[a6,gv,a6,n,g];simp only[kB,f4,k,m];cases a<;>simp
 .rw[eu (by rw[ag,oh];omega),eu (by rw[ag,jL];omega)]
structure oR(a:Board)(b:Run):Prop where
 nums:bT a b.nums
 wait:b.waiting.length=a.hoppers.length
 came:b.came.length=a.parts.length
theorem M5{e:Nat}{b:Part}(w:ey e b):Ok b 0:=by
 cases b with
 |tray a=>trivial
 |wheel a c f=>have:=w.wheel a c f rfl;show 0<c.length;omega
 |gate a d g i=>have:=w.gate a d g i rfl;show 0<d;omega
theorem Br{b:Board}(g:Wf b)(d:Lifts){a:Run}(k:oR b a):oR b (b.round d a):=by
 have e:=qk g a.nums a.waiting;refine#[#[?_,λc i f=>?_],?_,?_]
 .show(((b.many a.nums a.waiting).zipIdx).map _).length=_
  rw[ag,oh,e.1]
 .have l:=(aC.mp f).1
  have m:(b.many a.nums a.waiting)[c]? =some ((b.many a.nums a.waiting).getD c 0):=by rw[aE,a2 (by rw[e.1];exact l)];rfl
  have n:(b.round d a).nums.getD c 0=if(liftAt d c).isSome=true then 0 else(b.many a.nums a.waiting).getD c 0:=by
   show(((b.many a.nums a.waiting).zipIdx).map λ(j:Nat×Nat)=>if(liftAt d j.2).isSome=true then 0 else j.1).getD c 0=_;rw[aE,a6,gv,m];simp
  rw[n];split
  .exact M5 (g.part c i f)
  .exact e.2 c i f
 .show((aS b.hoppers.length).map _).length=_
  rw[ag,fm]
 .show((a.came.zip (b.came a.nums a.waiting)).map _).length=_
  rw[ag,jL,k.came,iw,Bs]
theorem Bt{a:Board}(f:Wf a)(d:Lifts):∀(e:Nat){b:Run},oR a b->oR a (a.go d e b)
 |0,b,c=>c
 |e+1,b,c=>by
  unfold Bu;split
  .exact c
  .exact Bt f d e (Br f d c)
structure fw(a:Laid):Prop where
 wf:Wf a.board
 nm:fL a.board
 lifts:jM a.board a.lifts
 empty:oQ a.lifts a.run
 UP:(∀b∈a.all,b=0)->a.run.nums=a.board.start/\ ∀b∈a.run.waiting,b=0
 all:a.all.length=a.board.hoppers.length
 run:oR a.board a.run
theorem Bv{b c d:Nat}(a:liftAt (aP b none) c=some d):False:=by
 unfold liftAt at a;rw[fY] at a;split at a<;>cases a
theorem Bw{a:Board}(c:Wf a)(d:fL a):fw (fresh a):=
 #[c,d,#[cQ,λ_ _ b=>(Bv b).elim],λ_ _ b=>(Bv b).elim,λ_=>#[rfl,λf e=>(List.eq_of_mem_replicate e)],cQ,e1 c,cQ,cQ]
theorem vy{d:Run}:d.rests=true↔∀a∈d.waiting,a=0:=by
 unfold Bx;rw[io];exact#[λb a c=>by simpa using b a c,λb a c=>by simpa using b a c]
theorem By{e:Board}(f:Wf e){b:Lifts}:∀(c:Nat){a:Run},oQ b a->oQ b (e.go b c a)
 |0,a,d=>d
 |c+1,a,d=>by
  unfold Bu;split
  .exact d
  .exact By f c (Bq f)
theorem M6{d:Board}{e:Lifts}:∀(b:Nat){a:Run},a.rests=true->d.go e b a=a
 |0,a,c=>rfl
 |b+1,a,c=>by
  unfold Bu;rw[if_pos c]
theorem Bz{d:Lifts}{a b:Nat}{e:Option Nat}(g:a<d.length):liftAt (d.set a e) b=if b=a then e else liftAt d b:=by
 unfold liftAt;rw[fk];by_cases c:b=a
 .rw[if_pos c.symm,if_pos c,if_pos (by omega)];rfl
 .rw[if_neg (λf=>c f.symm),if_neg c]
theorem M7{b:List Nat}{d c:Nat}(g:d<b.length)(e:∀a∈bump b d c,a=0):(∀a∈b,a=0)/\c=0:=by
 have j:=e _ (a7 (by unfold bump;rw[nk g]));have f:c=0:=by omega
 refine#[λa i=>e a ?_,f];rw[f,hH];exact i
theorem M8(a:Part)(b:Nat):(a.told b).name=a.name:=by cases a<;>rfl
theorem BA{a:Laid}(k:fw a){c:Nat}{f:Part}(b:a.told.parts[c]? =some f):∃g,a.board.parts[c]? =some g/\f=g.told (a.run.nums.getD c 0):=by
 have i:a.told.parts=(a.board.parts.zip a.run.nums).map λd=>d.1.told d.2:=rfl;rw[i,a6] at b;cases e:(a.board.parts.zip a.run.nums)[c]? with
 |none=>rw[e] at b;cases b
 |some d=>
  rw[e] at b;obtain⟨D,j⟩:=g7.mp e;exact#[d.1,D,by rw[<-b5 b,aE,j];rfl]
theorem vz{a:Laid}(c:fw a):a.told.parts.length=a.board.parts.length:=by
 have d:a.told.parts=(a.board.parts.zip a.run.nums).map λb=>b.1.told b.2:=rfl;rw[d,ag,jL,c.run.nums.1,Bs]
theorem vA{i:Laid}(a:fw i):Wf i.told:=by
 refine#[λj s l=>?_,λm n=>?_,?_,a.wf.nh]
 .obtain⟨d,hq,rfl⟩:=BA a l
  have w:=a.wf.part j d hq;have k:=a.run.nums.2 j d hq;cases d with
  |tray c=>exact w
  |wheel c o e=>
   refine#[w.below,λp t q b=>?_,(λ_ _ _ _ b=>by cases b)];cases b;have:=w.wheel c o e rfl;exact#[this.1,this.2.1,λf g=>by cases g;exact k]
  |gate c f r e=>
   refine#[w.below,(λ_ _ _ b=>by cases b),λp u v q b=>?_];cases b;have:=w.gate c f r e rfl;exact#[this.1,this.2.1,λf g=>by cases g;exact k]
 .rw[vz a]
  exact a.wf.Vl m n
 .rw[vz a]
  exact a.wf.np
theorem BB{b:Laid}(a:fw b):fL b.told:=by
 refine#[λf c=>?_,a.nm.2];obtain⟨g,d⟩:=mo c;obtain⟨e,hq,rfl⟩:=BA a d;rw[M8];exact a.nm.1 e (a7 hq)
structure e4(b:Bench):Prop where
 now:∀a,b.now=some a->fw a
 past:∀a,some a∈b.past->fw a
theorem M9:e4 vB:=#[λb a=>(by cases a),λb a=>(by cases a)]
theorem rz{d:Bench}(e:e4 d){f:Laid}(g:fw f):e4 (d.done_ f):=by
 refine#[λa b=>by cases b;exact g,λa b=>?_];have:=og b;rcases bw.mp this with c|c
 .exact e.now a c.symm
 .exact e.past a c
theorem BC(a:List Nat)(b c:Nat):(bump a b c).length=a.length:=by simp[bump]
theorem vC{m:Bench}(e:e4 m){b:Laid}(hl:m.now=some b)(c:Call):e4 (does m b c).1:=by
 have a:=e.now b hl;unfold does;cases c with
 |lift i j=>
  dsimp only;split
  .exact e
  .split
   .exact e
   .rename_i D t
    have p:b.board.isTray i=true:=by cases d:b.board.isTray i with|true=>rfl|false=>exact absurd (iq d) D
    have hq:b.board.mayLift i j=true:=by cases d:b.board.mayLift i j with|true=>rfl|false=>exact absurd (jk d) D
    obtain⟨nm,q⟩:=vx p;have r:i<b.lifts.length:=by rw[a.lifts.len];exact(aC.mp q).1
    have g:∀f∈b.all,f=0:=λf u=>kU λd=>t (hT.mpr #[f,u,by simpa using d]);refine rz e #[a.wf,a.nm,#[by rw[ij];exact a.lifts.len,λk l d=>?_],λk l d=>?_,a.UP,a.all,a.run]
    .rw[Bz r] at d
     split at d
     .rename_i n
      refine#[by rw[n];exact p,?_];unfold liftOf at d;split at d
      .cases d
      .rename_i v
       unfold jN at hq;rw[lM,bJ,beq_iff_eq,decide_eq_true_eq] at hq;cases d;rcases hq with hq|hq
       .exact absurd hq v
       .exact hq.2
     .exact a.lifts.at_ k l d
    .rw[Bz r] at d
     split at d
     .rename_i n
      show b.run.nums.getD k 0=0;rw[(a.UP g).1,n];unfold l6;rw[aE,a6,q];rfl
     .exact a.empty k l d
 |drop j l=>
  dsimp only;split
  .exact e
  .split
   .exact e
   .rename_i D _
    refine rz e #[a.wf,a.nm,a.lifts,a.empty,λg=>?_,by rw[BC];exact a.all,a.run.nums,by rw[BC];exact a.run.wait,a.run.came];obtain⟨s,rfl⟩:=M7 (by rw[a.all];omega) g;refine#[(a.UP s).1,?_];show∀f∈bump b.run.waiting j 0,f=0;rw[hH];exact(a.UP s).2
 |go o=>
  dsimp only;split
  .exact e
  .refine rz e #[a.wf,a.nm,a.lifts,By a.wf _ a.empty,λg=>?_,a.all,Bt a.wf _ _ a.run]
   show(b.board.go b.lifts o b.run).nums=_/\ ∀f∈(b.board.go b.lifts o b.run).waiting,f=0;rw[M6 o (vy.mpr (a.UP g).2)];exact a.UP g
 |_=>exact e
theorem M_{d:Bench}(e:e4 d){b:Option Laid}{f:List (Option Laid)}(g:d.past=b::f):e4 #[b,f]:=
 #[λa c=>e.past a (by rw[g,<-show b=some a from c];exact a4 ..),λa c=>e.past a (by rw[g];exact bj _ c)]
theorem oT{c:Type}{p q:c->Bool}:∀{a:List c},(∀b∈a,p b=q b)->a.find? p=a.find? q
 |[],_=>rfl
 |b::a,d=>by
  rw[hx,hx,d b (a4 ..),oT λe f=>d e (bj _ f)]
def first(pre:List Run)(a:Run):Option Nat:=(pre.zipIdx.find? λb=>a.like b.1).map (·.2)
theorem Na{c:Type}{P:List c->Prop}(h0:P [])(D:∀a d,P a->P (a++[d]))(a:List c):P a:=by
 have e:∀b:List c,P b.reverse:=λb=>by
  induction b with
  |nil=>exact h0
  |cons d b f=>rw[BD];exact D _ _ f
 have:=e a.reverse;rwa[List.reverse_reverse] at this
theorem Nb{e:Type}(b:e->Bool)(a:List e):(aS a.length).find? (λc=>((a[c]?).map b).getD false)=(a.zipIdx.find? λd=>b d.1).map (·.2):=by
 refine Na (P:=λa=>(aS a.length).find? (λc=>((a[c]?).map b).getD false)=(a.zipIdx.find? λd=>b d.1).map (·.2)) rfl (λa d f=>?_) a;rw[bq,lF,f6,zP,ro,ro];have g:(aS a.length).find? (λc=>(((a++[d])[c]?).map b).getD false)=(aS a.length).find? (λc=>((a[c]?).map b).getD false):=
  oT λc i=>by rw[cF (e7.mp i)]
 rw[g,f];have j:[a.length].find? (λc=>(((a++[d])[c]?).map b).getD false)=((List.zipIdx [d] (0+a.length)).find? λk=>b k.1).map (·.2):=by
  rw[qx,zm,hx,hx];simp;cases b d<;>rfl
 rw[j];cases a.zipIdx.find? λd=>b d.1<;>rfl
def hV(c:List Run)(a:Nat):Option (Nat×Nat):=match c[a]? with
 |some d=>if d.rests=true then none else((aS a).find? λb=>match c[b]? with
  |some e=>d.like e
  |none=>false).map λb=>(a,b)
 |none=>none
theorem BE{a d:List Run}{b:Nat}(c:b<a.length):hV (a++d) b=hV a b:=by
 unfold hV;rw[cF c];cases a[b]? with
 |none=>rfl
 |some g=>
  dsimp only;rw[oT λe f=>by rw[cF (show e<a.length from Gz (e7.mp f) c)]]
theorem vD{a d:List Run}{b:Run}:hV (a++b::d) a.length=if b.rests=true then none else(first a b).map λc=>(a.length,c):=by
 unfold hV;rw[dB (av _),ez];show(if b.rests=true then none else _)=_;split
 .rfl
 .rw[oT (q:=λc=>((a[c]?).map b.like).getD false) λc e=>by rw[cF (e7.mp e)];cases a[c]? <;>rfl,Nb]
  rfl
structure hb(a:List Run):Prop where
 no:∀b,b<a.length->hV a b=none
 up:∀c∈a,c.rests=false
theorem hb.nil:hb []:=#[λ_ a=>(by cases a),λ_ a=>(by cases a)]
theorem hb.snoc{b:List Run}(e:hb b){c:Run}(f:c.rests=false)(g:first b c=none):hb (b++[c]):=by
 refine#[λd i=>?_,λj k=>?_]
 .by_cases a:d<b.length
  .rw[BE a];exact e.no d a
  .rw[bq,lF] at i
   obtain rfl:d=b.length:=by omega
   rw[vD,f,g];rfl
 .rcases c4.mp k with a|a
  .exact e.up j a
  .rw[cb.mp a];exact f
def he(a:List Run):Answer:=match loopIn a with
 |some b=>Marble.ints [1,b.1,b.2]
 |none=>if(a.any Bx)=true then says 2 else says 0
theorem Nc(a:List Run):loopIn a=(aS a.length).findSome? (hV a):=rfl
theorem vE{a m:List Run}(d:hb a):loopIn (a++m)=(aS m.length).findSome? λb=>hV (a++m) (a.length+b):=by
 rw[Nc,bq,LX,oM,List.findSome?_map];have:(aS a.length).findSome? (hV (a++m))=none:=List.findSome?_eq_none_iff.mpr λb c=>by
  rw[BE (e7.mp c)];exact d.no b (e7.mp c)
 rw[this];rfl
theorem Nd{a d:List Run}(e:hb a){b:Run}(f:b.rests=false){c:Nat}(g:first a b=some c):he (a++b::d)=Marble.ints [1,a.length,c]:=by
 unfold he;rw[vE e,bV,List.range_succ_eq_map,AD,p_,vD,f,g];rfl
theorem Nf{b:List Run}(d:hb b){a:Run}(c:a.rests=true):he (b++[a])=says 2:=by
 unfold he;rw[vE d];have:(aS [a].length).findSome? (λe=>hV (b++[a]) (b.length+e))=none:=by
  rw[show aS [a].length=[0] from rfl,AD,p_,vD,c];rfl
 rw[this];rw[if_pos (hT.mpr #[a,ja _ (cb.mpr rfl),c])]
theorem Ng{a:List Run}(b:hb a):he a=says 0:=by
 unfold he;have c:=vE b (m:=[]);rw[eH] at c;rw[c];show(if(a.any Bx)=true then says 2 else says 0)=_;rw[if_neg];intro e;obtain⟨f,g,d⟩:=hT.mp e;rw[b.up f g] at d;cases d
def iQ(c:Board)(d:List Nat)(e:Nat)(a:List Nat):List Nat:=(c.parts.zipIdx.take e).foldl (λ(a:List Nat)(b:Part×Nat)=>sendOn b.1 b.1.first (d.getD b.2 0) a) a
theorem vG{b:Board}{d e:List Nat}{a:Nat}{c:Part}(f:b.parts[a]? =some c):iQ b d (a+1) e=sendOn c c.first (d.getD a 0) (iQ b d a e):=by
 unfold iQ;have g:b.parts.zipIdx[a]? =some (c,a):=by rw[gv,f];simp
 rw[jJ,g,iA];rfl
theorem Nh{b:Board}{f c:List Nat}:∀(a:Nat),(iQ b f a c).length=c.length:=by
 intro a
 induction a with
 |zero=>rfl
 |succ a d=>
  cases e:b.parts[a]? with
  |some i=>rw[vG e,l5,ju,d]
  |none=>
   have g:b.parts.zipIdx[a]? =none:=by rw[gv,e];rfl
   unfold iQ;rw[jJ,g];simpa[iQ] using d
theorem Ni(a:Board)(d:Lifts)(c b:List Nat):a.accounts d c b=iQ a b a.parts.length (a.entries ((aS a.hoppers.length).map λ(e:Nat)=>c.getD e 0+sum ((aS a.parts.length).map λ(f:Nat)=>if liftAt d f=some e then b.getD f 0 else 0))):=by
 unfold Board.accounts iQ;rw[fD (by rw[oh];exact av _)]
theorem Nj(a:List Nat):b4 (a.map liftOf)=a:=by
 unfold b4;rw[dG];refine oJ (gu λb _=>?_) (MN a);show(liftOf b).getD 255=b;unfold liftOf;split
 .rename_i c;exact c.symm
 .rfl
theorem Nk{g:Board}{d:List Nat}(b:g.liftsOk d=true):jM g (d.map liftOf):=by
 unfold vH at b;rw[bJ,beq_iff_eq,io] at b;refine#[by rw[ag,b.1],λi j a=>?_];unfold liftAt at a;rw[a6] at a;cases e:d[i]? with
 |none=>rw[e] at a;cases a
 |some k=>
  rw[e] at a;have c:liftOf k=some j:=a;unfold liftOf at c;split at c
  .cases c
  .rename_i l
   cases c;have:=b.2 (j,i) (a7 (by rw[gv,e];simp));unfold jN at this;rw[lM,bJ,beq_iff_eq,decide_eq_true_eq] at this;rcases this with f|f
   .exact absurd f l
   .exact f
def iR(a:Board)(b:Nat):List Bool:=(aS b).foldl (λc d=>c.set (a.entry d) true) (aP a.parts.length false)
theorem vJ(a:Board)(b:Nat):iR a (b+1)=(iR a b).set (a.entry b) true:=by
 unfold iR;rw[f6,iA];rfl
theorem rA{a:Board}(e:Wf a):∀(b:Nat),b<=a.hoppers.length->(iR a b).length=a.parts.length/\ ∀c,(iR a b).getD c false=(aS b).any λf=>c==a.entry f
 |0,_=>#[cQ,λc=>by
   show(aP _ false).getD c false=false;rw[aE,fY];split<;>rfl]
 |b+1,f=>by
  obtain⟨D,g⟩:=rA e b (by omega);have i:=ej e (show b<a.hoppers.length by omega);refine#[by rw[vJ,ij,D],λc=>?_];rw[vJ,f6,List.any_append,<-g c,aE,fk];by_cases d:a.entry b=c
  .rw[if_pos d,if_pos (by rw[D];exact i)]
   simp[d]
  .rw[if_neg d,<-aE]
   have:(c==a.entry b)=false:=by rw[beq_eq_false_iff_ne];exact λj=>d j.symm
   simp[this]
theorem Nl{a:Board}(d:Wf a):gJ a a.parts.length (iR a a.hoppers.length)=a.fed:=by
 obtain⟨D,g⟩:=rA d a.hoppers.length (av _);refine kx λe=>?_;have c:=oO d a.parts.length (iR a a.hoppers.length) e (by rw[D];exact av _);by_cases b:e<a.parts.length
 .rw[a2 (by rw[c.1,D];exact b),a2 (by rw[mJ];exact b)]
  have f:=ry d b;have m2:=c.2;rw[aE,a2 (by rw[c.1,D];exact b)] at m2;rw[aE,a2 (by rw[mJ];exact b)] at f;refine congrArg some (oJ m2 (oJ ?_ f.symm));congr 1;funext i;exact g i
 .rw[eu (by rw[c.1,D];omega),eu (by rw[mJ];omega)]
theorem Nn{b:Board}{a:Nat}{d:Part}(e:b.parts[a]? =some d)(c:List Bool):gJ b (a+1) c=gJ b a (if c.getD a false=true then ed c (ways d) else c):=by
 show(match b.parts[a]? with|some d=>_|none=>_)=_;rw[e]
theorem BF(a:List Nat):∀(c:List Bool),(ed c a).length=c.length:=by
 induction a with
 |nil=>intro c;rfl
 |cons w a b=>intro c;show(ed (c.set w true) a).length=_;rw[b,ij]
theorem No(c:List Bool)(a:List Nat)(w:Nat):ed c (a++[w])=(ed c a).set w true:=by
 unfold ed;rw[iA];rfl
def hf(a:Board)(c:Nat):List Part:=(((a.parts.zip (keep a)).take c).filter λb=>b.2).map λb=>b.1.renumber (keptBefore (keep a))
theorem Np(a:Board)(b:Nat):(hf a b).length=keptBefore (keep a) b:=by
 unfold hf;rw[ag,ru _ _ _ (rv a).symm]
theorem BG{a:Board}{b:Nat}{d:Part}{c:Bool}(e:a.parts[b]? =some d)(f:(keep a)[b]? =some c):hf a (b+1)=hf a b++if c=true then[d.renumber (keptBefore (keep a))] else[]:=by
 have g:(a.parts.zip (keep a))[b]? =some (d,c):=g7.mpr #[e,f];unfold hf;rw[jJ,g,oD,br];cases c<;>rfl
theorem Nq(a:Board):hf a a.parts.length=a.bare.parts:=by
 unfold hf;rw[fD (by rw[jL,rv,Bs];exact av _)];rfl
theorem Nr(b:Board)(a:Nat):(hf b a).length<=a:=by
 unfold hf;rw[ag];exact bB (qZ _ _) (by rw[ck];exact Nt _ _)
def hW(b:Board)(c:Nat):List (Nat×Nat):=((aS c).filter λa=>(keep b).getD a false).map λa=>(a,keptBefore (keep b) a)
theorem BH(b:Board)(a:Nat):hW b (a+1)=hW b a++if(keep b).getD a false=true then[(a,keptBefore (keep b) a)] else[]:=by
 unfold hW;rw[f6,oD,br];have c:[a].filter (λd=>(keep b).getD d false)=if(keep b).getD a false=true then[a] else[]:=f7
 rw[c];split<;>rfl
theorem BI{b:Board}{i j n:Nat}(a:(j,n)∈hW b i):j<i/\n=keptBefore (keep b) j:=by
 unfold hW at a;obtain⟨e,c,d⟩:=bK.mp a;cases d;exact#[e7.mp (nf.mp c).1,rfl]
theorem Nu{b:Board}{c a:Nat}(d:a<c)(e:(keep b)[a]? =some true):(a,keptBefore (keep b) a)∈hW b c:=by
 unfold hW;exact bK.mpr #[a,nf.mpr #[e7.mpr d,by rw[aE,e];rfl],rfl]
theorem Nv(b:Board)(a:Nat):(hW b a).length<=a:=by
 unfold hW;rw[ag];exact bB (qZ _ _) (by rw[fm];exact av _)
theorem Nw{c:Nat}{a:Part}(w:ey c a):(ways a).length<=4:=by
 cases a with
 |tray b=>exact aR _
 |wheel b d e=>exact(w.wheel b d e rfl).2.1
 |gate b f g i=>exact(by decide:1<=4)
end Ma
end
section
namespace Mb
open PySem PySem.Spec PyProof.Rows L2 Ex TL
theorem Nx{K:aj}{p d:B}{c g:List V}{z:TG}{A:TT}{C:TE}{m:List Nat}{q:L2.St}{D:G}{r:B}{E:G->Prop}(e:Nat->G->Prop)(T:c.length=g.length)(h0:e 0 (upd D r (.lst [])))(hl:∀a b,a<=c.length->e a b->I K b p c/\I K b d g)
  (J:∀a i f n b,c[a]? =some i->g[a]? =some f->b n=none->e a b->z (.ref n) (aY q m) (upd b n (.tup [i,f])) λj s=>aY j m=aY q m/\A j s λd o=>
   if d=true then C j o λf t=>L2.fg r f t (e (a+1)) else e (a+1) o)(L:∀b,e c.length b->E b):
  ∃u:Nat->Nat->G->Prop,(∃k,u 0 k (upd D r (.lst [])))/\ ∀a k b,u a k b->
   ((ip K p d).stop a b/\E b)\/((ip K p d).go a b/\ ∃v:G->Prop,(∀l,v l-> ∃F,F<k/\u (a+1) F l)/\ ∀i l,(ip K p d).Ve a b i l->z i (aY q m) l λj s=>aY j m=aY q m/\A j s λd o=>
    if d=true then C j o λf t=>L2.fg r f t (v) else v o):=by
 refine#[λa k b=>k=c.length-a/\a<=c.length/\e a b,#[c.length,by simp,aR _,h0],?_];rintro a k b ⟨rfl,N,w⟩;obtain⟨x,y⟩:=hl a b N w;by_cases H:a<c.length
 .refine .inr #[#[c,g,c[a],g[a],x,y,by simp[H],by simp],e (a+1),λl O=>#[c.length-(a+1),by omega,rfl,H,O],?_]
  rintro U l ⟨n,i,f,rfl,P,rfl,Q,R⟩;exact J a i f n b (Q c x) (R g y) P w
 .have S:a=c.length:=by omega
  subst S;exact .inl #[#[c,g,x,y,.inl (av _)],L b w]
theorem rB{a b:Nat}{d e:Prop}(D:¬a=b->d)(f:a=b->e):if(!decide (V.int (a:Nat)=V.int (b:Nat)))=true then d else e:=by
 rw[AW];exact a9 (λc=>D (of_decide_eq_true c)) (λc=>f (kU λg=>c (decide_eq_true g)))
theorem BJ{a b:Nat}{d e:Prop}(D:a=b->d)(f:¬a=b->e):if decide (V.int (a:Nat)=V.int (b:Nat))=true then d else e:=by
 refine a9 (λc=>D ?_) (λc=>f λg=>c (decide_eq_true (by rw[g])));have:=of_decide_eq_true c;injection this with this
 omega
theorem rC{b c:Type}{d:List b}{e:List c}{a:Nat}{f:b}{g:c}(D:d[a]? =some f)(i:e[a]? =some g):(d.zip e)[a]? =some (f,g):=g7.mpr #[D,i]
theorem vK{a:an}{b:Nat}{c:bX}(d:a.parts[b]? =some c):a.isTray b=c.isTray:=by unfold eQ;rw[d];rfl
theorem BK{a:bX}{b c:Prop}(D:a.isTray=false->b)(d:a.isTray=true->c):if(!decide (V.str (fp a)=V.str "tray"))=true then b else c:=by
 cases a with
 |tray nm=>exact qy (d rfl)
 |wheel _ _ _=>exact mi (show¬("wheel":Str)= "tray" by decide+kernel) (D rfl)
 |gate _ _ _ _=>exact mi (show¬("gate":Str)= "tray" by decide+kernel) (D rfl)
theorem Ny{a:bX}{b c:Prop}(D:a.isTray=true->b)(d:a.isTray=false->c):if decide (V.str (fp a)=V.str "tray")=true then b else c:=by
 cases a with
 |tray nm=>exact iz (D rfl)
 |wheel _ _ _=>exact fH (show¬("wheel":Str)= "tray" by decide+kernel) (d rfl)
 |gate _ _ _ _=>exact fH (show¬("gate":Str)= "tray" by decide+kernel) (d rfl)
theorem Nz{a:bX}(b:a.isTray=true)(d e:Nat)(c:List Nat):JK a d e c=c:=by
 cases a with
 |tray nm=>rfl
 |wheel _ _ _=>cases b
 |gate _ _ _ _=>cases b
inductive NA(c:Cs)(m:List V)(a:G)(n:VK)(p:XK):Prop
 |mk(j k cm:B)(b:an)(e:vL)(f:List Nat)(q:m=[.ref j,.ref k,.ref cm])(r:bM c a j b)(s:a k=some (.lst (L (Ma.b4 e))))(t:a cm=some (.lst (L f)))(u:Ma.jM b e)(v:f.length=b.parts.length)(x:∀(g:G)(i:B),Same a g->a i=none->g i=some (.lst (L ((aS b.hoppers.length).map λ(o:Nat)=>NB ((aS b.parts.length).map λ(l:Nat)=>if NC e l=some o then f.getD l 0 else 0))))->n (.ref i) g)
theorem BL(m:Tx K d c):ao P w K d base 1 "lifted" ["board","lifts","came"] (NA c):=by
 refine bS m.Va ["board","lifts","came","brought","hopper","lift","count"] λu aV aY a0 a1 nd Z=>?_;obtain⟨ab,O,cm,e,f,j,rfl,⟨a3,a5,hl,a9,ad,k⟩,Q,R,n,S,af⟩:=Z;have v:=k.wf;have T:(Ma.b4 f).length=e.parts.length:=by unfold Ma.b4;rw[ag,n.len]
 refine#[_,J (fh (i:=3) (own:=[("hopper",4)]) rfl nd rfl rfl (fi rfl rfl rfl rfl) (b9 (ah 0)) (cS (N:=["board","lifts","came","brought","hopper","lift","count"]) (sc:=bi Cf) (by decide+kernel)) (λ_ _ _ _ _=>aO 4) (λ_ _ _ _ _=>c2) (λ_ _ _ _ _=>ai))
  (J (b_ cv rfl (jh rfl m.SS (aL (E 1) (E 2))) (h8 rfl (c0 (aO 5) (c0 (aO 6) gj)))
   (ae (ba (aZ fV (E 5) (bR rfl m.Sa) (aW _)) (ae (nA (E 3) (E 5) oj (E 6) lq gV)) bC)))
  (ae (ax (E 3)))),?_]
 refine#[k.obj,m.Q5,m.Q4,I.of k.Q9.lst,λg p=>?_];refine eW (λi a=>Same u a/\a g=some (.lst (L (aP i 0)))) #[.upd p,Y] (λi a _ ⟨l,_⟩=>I.of (l _ _ k.Q9.lst)) ?_ ?_
 .rintro i al a am ⟨l,as⟩
  have bb:i<ad.length:=by have:=(aC.mp am).1;rw[ag] at this;exact this
  refine#[rfl,c3 #[_,as,?_,l.put p,?_]]
  .rw[aF,cQ]
   exact small (by have:=v.nh;have:=k.Q9.len;omega)
  .rw[Y,qo,<-d9]
   rfl
 rintro bd ⟨x,U⟩;rw[ag,k.Q9.len] at U;refine#[O,cm,_,_,rfl,I.of (x _ _ Q),I.of (x _ _ R),?_];refine ol (λi q a=>∃y z A,q=[some (.ref ab),some (.ref O),some (.ref cm),some (.ref g),y,z,A]/\Same u a/\a g=some (.lst (L (Ma.iP (((Ma.b4 f).zip j).take i) (aP e.hoppers.length 0))))) ?_ #[none,none,none,rfl,x,U] (λi q a _ ⟨_,_,_,_,l,_⟩=>#[I.of (l _ _ Q),I.of (l _ _ R)]) ?_ ?_
 .rw[aF,aF,T,S]
 .rintro i au al C q a aw aB V ⟨y,z,A,rfl,r,o⟩
  obtain⟨b,F,rfl⟩:=bt aw;obtain⟨G,aD,rfl⟩:=bt aB;have W:Same u (upd a C (.tup [.int b,.int G])):=r.put (r.free V);have aG:=aK o V;have H:upd a C (.tup [.int b,.int G]) g=some (.lst (L (Ma.iP (((Ma.b4 f).zip j).take i) (aP e.hoppers.length 0)))):=by rw[aa aG];exact o
  have aH:=rC F aD;have X:Ma.iP (((Ma.b4 f).zip j).take (i+1)) (aP e.hoppers.length 0)=if b=255 then Ma.iP (((Ma.b4 f).zip j).take i) (aP e.hoppers.length 0) else f8 (Ma.iP (((Ma.b4 f).zip j).take i) (aP e.hoppers.length 0)) b G:=by
   rw[cp aH];unfold Ma.iP;rw[iA];rfl
  refine#[C,_,rfl,a8.of Y,rfl,_,_,rfl,_,_,rfl,rfl,?_];refine#[rfl,_,rfl,?_];refine rB (λs=>?_) (λs=>?_)
  .have be:b<e.hoppers.length:=by
    obtain⟨au,D,aI,t,bf,aJ⟩:=Ma.vw v n (by have:=(aC.mp F).1;rw[T] at this;rw[n.len];exact this);rw[F] at t;have t:=b5 t;exact(n.at_ i b (by rw[aI];exact(aJ b s).mp t.symm)).2
   have aM:=(Ma.vv (((Ma.b4 f).zip j).take i) (aP e.hoppers.length 0)).1;rw[cQ] at aM;refine#[g,_,b,_,rfl,rfl,I.of H,dZ (d_ (by omega)),g,_,_,b,rfl,rfl,H,g0 (by rw[aF];omega),?_];refine#[_,_,_,rfl,W.put p,?_];rw[Y,X,if_neg s];exact congrArg (λaN=>some (HO.lst aN)) (om (by omega))
  .refine#[_,_,_,rfl,W,?_]
   rw[X,if_pos s];exact H
 rintro q aT ⟨y,z,A,rfl,r,o⟩;rw[aF,fD (by rw[jL];omega),Ma.M1 v n S] at o;exact af aT g r p o
theorem vM{K:aj}{q d:B}{i l:List Nat}{y:TG}{z:TT}{A:TE}{j:List Nat}{r:L2.St}{b u:G}{m:B}{C:G->Prop}(n:Nat->Nat->Nat)(Q:i.length=l.length)(ah:i.length<=1000)(D:Same b u)(R:b q=some (.lst (L i)))(S:b d=some (.lst (L l)))(T:u m=none)
  (U:∀(k o:Nat)(s:B)(a:G)(E:V->G->Prop)(W:G->Prop),a s=some (.tup [.int k,.int o])->E (.int (n k o:Nat)) a->y (.ref s) (aY r j) a λf v=>aY f j=aY r j/\z f v λd p=>if d=true then A f p E else W p)
  (X:∀a,Same b a->a m=some (.lst (L ((i.zip l).map λe=>n e.1 e.2)))->C a):
  ∃w:Nat->Nat->G->Prop,(∃t,w 0 t (upd u m (.lst [])))/\ ∀c t b,w c t b->
   ((ip K q d).stop c b/\C b)\/((ip K q d).go c b/\ ∃x:G->Prop,(∀a,x a-> ∃F,F<t/\w (c+1) F a)/\ ∀k a,(ip K q d).Ve c b k a->y k (aY r j) a λf v=>aY f j=aY r j/\z f v λd p=>
    if d=true then A f p λo Z=>L2.fg m o Z (x) else x p):=by
 have H:=D.free T;refine Nx (λc a=>Same b a/\a m=some (.lst (L (((i.zip l).map λe=>n e.1 e.2).take c)))) (by rw[aF,aF,Q]) #[D.put H,Y] (λc a _ ⟨g,_⟩=>#[I.of (g _ _ R),I.of (g _ _ S)]) ?_ ?_
 .rintro c k o s a ab ad J ⟨g,hl⟩
  obtain⟨N,O,rfl⟩:=bt ab;obtain⟨P,ae,rfl⟩:=bt ad;have af:((i.zip l).map λe=>n e.1 e.2)[c]? =some (n N P):=by rw[a6,rC O ae];rfl
  refine U N P s _ _ _ Y #[_,by rw[aa (aK hl J)];exact hl,?_,(g.put (g.free J)).put H,?_]
  .rw[aF,ck]
   have:=(aC.mp O).1;exact small (by omega)
  .rw[Y,d9,cp af]
 .rintro a ⟨g,hl⟩
  rw[fD (by rw[ag,jL,aF];omega)] at hl;exact X a g hl
theorem ND{d:List Nat}{b:Nat}(g:d.length=b)(c:Nat->Nat):((d.zip ((aS b).map c)).map λe=>e.1+e.2)=(aS b).map λa=>d.getD a 0+c a:=by
 refine kx λa=>?_;by_cases f:a<b
 .have D:((aS b).map c)[a]? =some (c a):=by rw[a6,op f];rfl
  rw[a6,rC (d_ (by omega)) D,a6,op f];rfl
 .rw[eu (by rw[ag,jL];omega),eu (by rw[ag,fm];omega)]
inductive NE(c:Cs)(m:List V)(a:G)(n:VK)(o:XK):Prop
 |mk(k l bl cm:B)(b:an)(e:vL)(f g:List Nat)(p:m=[.ref k,.ref l,.ref bl,.ref cm])(q:bM c a k b)(r:a l=some (.lst (L (Ma.b4 e))))(s:a bl=some (.lst (L f)))(t:a cm=some (.lst (L g)))(u:Ma.jM b e)(v:f.length=b.hoppers.length)(x:g.length=b.parts.length)(y:∀(i:G)(j:B),Same a i->a j=none->i j=some (.lst (L (b.accounts e f g)))->n (.ref j) i)
theorem BM(a:Tx K d c):ao P w K d base 2 "account" ["board","lifts","balls","came"] (NE c):=by
 refine bS a.U0 ["board","lifts","balls","came","brought","coming","first","more","part","count"] λz bL bM bP bR nd p=>?_;obtain⟨A,ad,bl,cm,f,af,a1,q,rfl,C,a3,ai,D,a5,am,as,a9⟩:=p;obtain⟨bT,bb,hl,bU,bW,g⟩:=id C;have F:=g.wf;have G:=g.parts.len;refine#[_,J (al 4 (aH (BL a) (bD (E 0) (E 1) (E 3))))
  (J (al 5 (aH (zt a) (aL (E 0) (gW (own:=[("first",6),("more",7)]) rfl nd (jh rfl a.SS (aL (E 2) (E 4))) (cS (N:=["board","lifts","balls","came","brought","coming","first","more","part","count"]) (sc:=bi Cg) (by decide+kernel))
   (λ_ _ _ _ _=>qW (n:=2) K rfl rfl (c0 (aO 6) (c0 (aO 7) gj))) (λ_ _ _ _ _=>c2) (λ_ _ _ _ _=>aM cg (E 6) (E 7))))))
  (J (b_ cv rfl (jh rfl a.SS (aL (ah 0) (E 3))) (h8 rfl (c0 (aO 8) (c0 (aO 9) gj)))
   (ae (ba (aZ fV (ah 8) aT (aW _)) (ae (aG (aH (zs a) (eZ (E 8) (ah 8) (E 9) (E 5))))) bC)))
  (ae (ax (E 5))))),?_]
 refine#[A,ad,cm,f,af,q,rfl,C,a3,D,a5,as,λbY bd j bZ au=>?_];refine#[bl,bd,_,_,rfl,I.of (j _ _ ai),I.of au,λbe bf=>?_];refine vM (λO Q=>O+Q) (by rw[am,ag,fm]) (by have:=F.nh;omega) (Same.refl _) (j _ _ ai) au bf (λO Q a e b0 N r bk=>#[a,_,rfl,a8.of r,rfl,_,_,rfl,_,_,rfl,rfl,rfl,c3 bk]) (λb1 R aw=>?_);rw[ND am] at aw;refine#[A,be,f,_,rfl,(C.same j).same R,aw,by rw[ag,fm],λb2 s bm hC bs=>?_];have t:=(j.trans R).trans bm;have S:=(j.trans R).free hC;refine#[t _ _ g.obj,a.Q5,a.Q3,bb,cm,_,_,rfl,I.of (t _ _ g.parts.lst),I.of (t _ _ D),?_];refine ol (λb u e=>∃T U V W X,u=[some (.ref A),some (.ref ad),some (.ref bl),some (.ref cm),T,some (.ref s),U,V,W,X]/\Same z e/\e s=some (.lst (L (Ma.iQ f q b (f.entries ((aS f.hoppers.length).map λp=>a1.getD p 0+NB ((aS f.parts.length).map λb=>if NC af b=some p then q.getD b 0 else 0))))))) ?_ #[_,_,_,_,_,rfl,t,bs] (λb u e _ ⟨_,_,_,_,_,_,aB,_⟩=>#[I.of (aB _ _ g.parts.lst),I.of (aB _ _ D)]) ?_ ?_
 .rw[ag,aF,G,as]
 .rintro b O Q aD u e bx bz r ⟨T,U,V,W,X,rfl,v,k⟩
  obtain⟨x,aI,rfl⟩:=bt bx;obtain⟨y,bA,rfl⟩:=bt bz;obtain⟨l,i⟩:=c7 G aI;have aJ:=g.parts.at_ b x l aI i;obtain⟨b3,b4,aN,b6⟩:=id aJ;have m:Same z (upd e aD (.tup [.ref x,.int y])):=v.put (v.free r);have Z:=k;rw[<-aa (H:=e) (o:=HO.tup [.ref x,.int y]) (aK k r)] at Z;have bF:q.getD b 0=y:=by rw[aE,bA];rfl
  refine#[aD,_,rfl,a8.of Y,rfl,_,_,rfl,_,_,rfl,rfl,?_];refine#[m _ _ aN,a.Q7,a.Q8,rfl,_,rfl,?_];have b7:=(aC.mp i).1;refine BK (λab=>?_) (λab=>#[_,_,_,_,_,rfl,m,by rw[Ma.vG i,Nz ab];exact Z]);exact#[m _ _ aN,a.Q7,a.RG,x,s,l,l.first,y,b,_,z,rfl,m,S,aJ,F.part b l i,Ma.y0 (F.part b l i),ab,by rw[Ma.Nh,Ma.tQ];omega,Z,λb9 bG bI=>#[_,_,_,_,_,rfl,λaV aY a0=>bG aV aY (m aV aY a0) (aK a0 S),by rw[bI,Ma.vG i,bF]]]
 .rintro u e ⟨T,U,V,W,X,rfl,v,k⟩
  rw[ag,G,<-Ma.Ni] at k;exact a9 e s v S k
inductive NF(c:Cs)(j:List V)(a:G)(k:VK)(l:XK):Prop
 |mk(f g:B)(b:an)(e:List Nat)(m:j=[.ref f,.ref g])(n:bM c a f b)(o:a g=some (.lst (L e)))(p:(b.liftsOk e=true-> ∀i,Same a i->k .non i))(q:(b.liftsOk e=false->cq c.Rs l a))
theorem NG(a:Tx K d c):ao P w K d base 1 "check_lifts" ["board","lifts"] (NF c):=by
 refine bL a.TF ["board","lifts","part","lift"] λA as au aw ax nd f=>?_;obtain⟨X,Q,j,q,rfl,⟨aB,Z,hl,aD,aG,i⟩,C,aa,D⟩:=f;have s:=i.parts.len;refine#[_,J (ba (aZ fV (a1 bd rfl a.Q_ bg (af (E 1))) (a1 bd rfl a.Q_ bg (af (ah 0))) (aW _)) (ae (eY d7 rfl rfl rfl a.RD a.Rq a.RA)) bC)
  (ae (b_ jF rfl (jh rfl a.SS (aL (ah 0) (E 1))) (h8 rfl (c0 (aO 2) (c0 (aO 3) gj)))
   (ae (ba (PW.pt (i5 (aZ fV (E 3) (bR rfl a.Sa) (aW _)) (i4 (PW.pt (j2 (aZ fV (ah 2) aT (aW _)) (j1 (aZ su (E 3) (a1 bd rfl a.Q_ bg (af (ah 0))) (aW _)))))))) (ae (eY d7 rfl rfl rfl a.RD a.Rq a.RA)) bC)))),?_]
 refine#[.inl (I.of C),i.obj,a.Q5,a.Q3,.inl (I.of i.parts.lst),rfl,_,rfl,?_];rw[aF,ag,s];have no:∀b m e,j.parts[b]? =some m->q[b]? =some e->j.mayLift b e=false->j.liftsOk q=false:=λb m e k n t=>by
  refine dE.mpr λr=>?_;unfold vH at r;rw[bJ,io] at r;have:=r.2 (e,b) (a7 (by rw[gv,n];simp));rw[show j.mayLift b e=true from this] at t;cases t
 refine rB (λf=>?_) (λR=>?_)
 .refine D ?_ A (Same.refl _)
  unfold vH;rw[beq_eq_false_iff_ne.mpr f];rfl
 refine#[i.obj,a.Q5,a.Q3,Z,Q,_,_,rfl,I.of i.parts.lst,I.of C,?_];refine ol (λb u o=>∃F G,u=[some (.ref X),some (.ref Q),F,G]/\Same A o/\ ∀g e,g<b->q[g]? =some e->j.mayLift g e=true) ?_ #[none,none,rfl,Same.refl _,λ_ _ f=>by cases f] (λb u o _ ⟨_,_,_,S,_⟩=>#[I.of (S _ _ i.parts.lst),I.of (S _ _ C)]) ?_ ?_
 .rw[ag,aF,s,R]
 .rintro b ab aH T u o H ad ai ⟨F,G,rfl,v,L⟩
  obtain⟨U,V,rfl⟩:=bt H;obtain⟨e,N,rfl⟩:=bt ad;obtain⟨m,k⟩:=c7 s V;obtain⟨aI,aJ,al,aK⟩:=i.parts.at_ b U m V k;have l:Same A (upd o T (.tup [.ref U,.int e])):=v.put (v.free ai);have W:j.mayLift b e=true-> ∀g x,g<b+1->q[g]? =some x->j.mayLift g x=true:=λt g x aM O=>by
   by_cases f:g<b
   .exact L g x f O
   .obtain rfl:g=b:=by omega
    rw[N] at O;rw[<-b5 O];exact t
  refine#[T,_,rfl,a8.of Y,rfl,_,_,rfl,_,_,rfl,rfl,?_];refine#[rfl,_,rfl,?_];refine rB (λy=>?_) (λy=>?_)
  .refine#[l _ _ al,a.Q7,a.Q8,rfl,_,rfl,?_]
   refine BK (λz=>?_) (λz=>?_)
   .exact dm (D (no b m e k N (by unfold jN k7;rw[vK k,z,beq_eq_false_iff_ne.mpr y];rfl)) _ l)
   .refine#[l _ _ i.obj,a.Q5,a.Q4,.inl (I.of (l _ _ i.Q9.lst)),_,rfl,?_]
    rw[ag,i.Q9.len];refine a9 (λf=>?_) (λf=>?_)
    .have am:=of_decide_eq_true f
     exact D (no b m e k N (by unfold jN k7;rw[vK k,z,beq_eq_false_iff_ne.mpr y,decide_eq_false (by omega)];rfl)) _ l
    .have am:¬((j.hoppers.length:Nat):Int)<=(e:Nat):=λr=>f (decide_eq_true r)
     exact#[_,_,rfl,l,W (by unfold jN;rw[vK k,z,decide_eq_true (by omega)];simp)]
  .exact dk #[_,_,rfl,l,W (by unfold jN k7;rw[y];rfl)]
 .rintro u o ⟨F,G,rfl,v,L⟩
  refine aa ?_ o v;unfold vH;rw[bJ,beq_iff_eq,io];refine#[R,λab H=>?_];obtain⟨b,p⟩:=mo H;rw[gv] at p;cases n:q[b]? with
  |none=>rw[n] at p;cases p
  |some e=>
   rw[n] at p;simp only[kB,f4,QY] at p;subst p;have:=(aC.mp n).1;exact L b e (by rw[ag,s];omega) n
def mK(e:ay)(b c d:List Nat):b0:=cO e false λa=>if a.liftsOk b=false then .error 4 else if c.length≠a.hoppers.length\/d.length≠a.parts.length then .error 5 else .ok [(a.proof (b.map iS) c d).toNat]
theorem NH(a:ay)(b c d:List Nat):eb (.proof a b c d)=some (cW (mK a b c d)):=by
 unfold mK;rw[hS λe _=>?_]
 .rfl
 .split
  .rfl
  .split<;>rfl
inductive BN(c:Cs)(k:ay->List Nat->List Nat->List Nat->b0)(l:List V)(a:G)(m:VK)(n:XK):Prop
 |mk(nm rs b e ca fa:B)(f:ay)(g i j:List Nat)(o:l=[.ref nm,.ref rs])(p:a rs=some (.lst [.ref b,.ref e,.ref ca,.ref fa]))(q:a b=some (.lst (L (nb f))))(r:a e=some (.lst (L g)))(s:a ca=some (.lst (L i)))(t:a fa=some (.lst (L j)))(u:b1 c m n a (k f g i j))
theorem NI(a:Tx K d c):ao P w K d base 10 "tell_proof" ["numbers","rows"] (BN c mK):=by
 refine bL a.TZ ["numbers","rows","board","lifts","balls","came"] λaB aD N aF O nd m=>?_;obtain⟨nm,rs,Q,u,ca,fa,R,n,j,b,rfl,v,S,x,y,q,T⟩:=m;obtain⟨U,z⟩:=T.board;refine#[_,J (al 2 (bz (gF a) (af (aI (E 1) ai))))
  (J (al 3 (aI (E 1) ai))
  (J (al 4 (aI (E 1) ai))
  (J (al 5 (aI (E 1) ai))
  (J (aG (bz (NG a) (aL (E 2) (E 3))))
  (J (aG (bz (rp a) (aL (E 4) (a1 bd rfl a.Q_ bg (af (ah 2))))))
  (J (aG (bz (rp a) (aL (E 5) (a1 bd rfl a.Q_ bg (af (ah 2))))))
  (ae (ax (a3 (af (nn (aZ (xN O.units) (aH (BM a) (eZ (E 2) (E 3) (E 4) (E 5))) (E 5) (aW _)) ai ai)))))))))))
  ,?_]
 refine#[I.of v,aw rfl,Q,R,rfl,S,U,λm=>#[λe V aJ A o hB=>?_,(z m).1]];have f:=(z m).2 e V;have r:=I.of (K:=K) (o _ _ v);refine#[r,aw rfl,r,aw rfl,r,aw rfl,A,u,e,n,rfl,hB,o _ _ x,λC aK F=>?_,λW aM X=>?_]
 .rw[if_neg (by rw[C];exact eN)] at f
  have g:=o.trans F;have G:=hB.same F;obtain⟨aN,aO,aT,aV,aY,k⟩:=id G;refine#[k.obj,a.Q5,a.Q4,.inl (I.of k.Q9.lst),ca,j,e.hoppers.length,by rw[ag,k.Q9.len];rfl,g _ _ y,λD=>?_,λD=>?_]
  .refine#[k.obj,a.Q5,a.Q3,.inl (I.of k.parts.lst),fa,b,e.parts.length,by rw[ag,k.parts.len];rfl,g _ _ q,λp=>?_,λp=>?_]
   .rw[if_neg (by intro l;rcases l with l|l;exact l D;exact l p)] at f
    have Z:=Ma.Nk C;refine#[A,u,ca,fa,e,_,j,b,rfl,G,by rw[Ma.Nj];exact g _ _ x,g _ _ y,g _ _ q,Z,D,p,λaa a0 ab a5 ad=>?_];have s:=g.trans ab;refine#[_,_,.lst (I.of ad) (kW _),.lst (I.of (s _ _ q)) (kW b),mx _,mx _,_,rfl,?_];have am:jf (.list ((e.accounts (n.map iS) j b).map λi=>g8 (i:Nat))) (.list (b.map λi=>g8 (i:Nat)))=e.proof (n.map iS) j b:=by
     rw[jf,rn];show _=(b==e.accounts _ j b);rw[fU,beq_iff_eq,beq_iff_eq];exact#[vN,vN]
    rw[am];have H:∀i:Nat,i=(e.proof (n.map iS) j b).toNat->sD N [.int (i:Nat)] aa:=λi as=>#[(show 1<=aq by decide),λau L=>f _ au (s.trans (.upd L)) (s.free L) (by rw[Y,as];rfl)];refine a9 (λt=>?_) (λt=>?_)
    .exact H 1 (by rw[t];rfl)
    .exact H 0 (by rw[dE.mpr t];rfl)
   .rw[if_pos (.inr p)] at f
    exact f _ g
  .rw[if_pos (.inl D)] at f
   exact f _ g
 .rw[if_pos W] at f
  exact f _ (o.trans X)
theorem made{C a b:B}{g:List Str}{d:List V}{e:G}{i:G->Prop}{k:XK}(hl:d.length=g.length)(j:e a=none)(l:e b=none)
  (m:∀c,Same e c->c a=some (.ins C b (g.zip d))->i c):cU C g (.ref a::(d++[])) (upd (upd e b (.own a)) a (.ins C b [])) (λn c=>n=.non/\i c) k:=by
 rw[eH];exact#[a,b,d,rfl,hl,Y,λo D p=>#[rfl,m o (λq r f=>p q r (by rw[aa (aK f j),aa (aK f l)];exact f) (aK f j)) D]]
theorem rD{K:aj}{k:B}{n:List V}{t:TG}{u:TT}{v:TE}{e:List Nat}{l:L2.St}{b:G}{g:B}{w:G->Prop}(o:V)(L:n.length<=1000)(A:b k=some (.lst n))(x:b g=none)
  (C:∀(f:V)(a:G)(y:V->G->Prop)(D:G->Prop),y o a->t f (aY l e) a λd p=>aY d e=aY l e/\u d p λq i=>if q=true then v d i y else D i)
  (E:∀a,Same b a->a g=some (.lst (aP n.length o))->w a):
  ∃r:Nat->Nat->G->Prop,(∃m,r 0 m (upd b g (.lst [])))/\ ∀c m b,r c m b->
   ((h9 K k).stop c b/\w b)\/((h9 K k).go c b/\ ∃s:G->Prop,(∀a,s a-> ∃z,z<m/\r (c+1) z a)/\ ∀f a,(h9 K k).Ve c b f a->t f (aY l e) a λd p=>aY d e=aY l e/\u d p λq i=>
    if q=true then v d i λF H=>L2.fg g F H (s) else s i):=by
 refine eW (λc a=>Same b a/\a g=some (.lst (aP c o))) #[.upd x,Y] (λc a _ ⟨j,_⟩=>I.of (j _ _ A)) ?_ (λa ⟨j,hl⟩=>E a j hl);rintro c f a J ⟨j,hl⟩;have:=(aC.mp J).1;refine C f _ _ _ #[_,hl,?_,j.put x,?_]
 .rw[cQ]
  exact small (by omega)
 .rw[Y,qo]
theorem vO(a b:Nat):L (aP a b)=aP a (V.int b):=qq
def vP(a b c d cm dr:B):List (Str×V):=[("board",.ref a),("lifts",.ref b),("numbers",.ref c),("waiting",.ref d),("come",.ref cm),("dropped",.ref dr)]
structure rE(c:Cs)(a:G)(i:B)(b:db)(j d e f g cm dr:B):Prop where
 obj:a i=some (.ins c.Run j (vP d e f g cm dr))
 board:bM c a d b.board
 lifts:a e=some (.lst (L (Ma.b4 b.lifts)))
 nums:a f=some (.lst (L b.run.nums))
 wait:a g=some (.lst (L b.run.waiting))
 come:a cm=some (.lst (L b.run.came))
 drop:a dr=some (.lst (L b.all))
 ok:Ma.fw b
def d3(c:Cs)(a:G)(b:B)(d:db):Prop:=∃e f g i j cm dr,rE c a b d e f g i j cm dr
theorem rE.same{c:Cs}{d e:G}{f:B}{g:db}{i j k l m cm dr:B}(a:rE c d f g i j k l m cm dr)(b:Same d e):rE c e f g i j k l m cm dr:=
 #[b _ _ a.obj,a.board.same b,b _ _ a.lifts,b _ _ a.nums,b _ _ a.wait,b _ _ a.come,b _ _ a.drop,a.ok]
theorem d3.same{c:Cs}{a b:G}{d:B}{e:db}(f:d3 c a d e)(g:Same a b):d3 c b d e:=let⟨i,j,k,l,m,cm,dr,n⟩:=f;#[i,j,k,l,m,cm,dr,n.same g]
theorem NJ(a:Nat):Ma.b4 (aP a none)=aP a 255:=by unfold Ma.b4;rw[qq];rfl
theorem rF(a:Tx K d c):d8 P w K d base 1 c.Run "Run" ["self","board","lifts","numbers","waiting","come","dropped"] (cU c.Run ["board","lifts","numbers","waiting","come","dropped"]):=by
 refine kv a.Wd a.V8 ["self","board","lifts","numbers","waiting","come","dropped"] (λy z A C D nd q=>?_) (cU.len rfl);obtain⟨b,e,n,rfl,hl,r,s⟩:=q;obtain⟨v1,g,i,j,k,l,rfl⟩:∃v1 g i j k l,n=[v1,g,i,j,k,l]:=jp (p:=λt=>∃v1 g i j k l,t=[v1,g,i,j,k,l]) (λu o c v m x=>#[u,o,c,v,m,x,rfl]) n hl;refine#[_,J (cj (E 0) (E 1) rfl) (J (cj (E 0) (E 2) rfl) (J (cj (E 0) (E 3) rfl) (J (cj (E 0) (E 4) rfl) (J (cj (E 0) (E 5) rfl) (ae (cj (E 0) (E 6) rfl)))))),?_];refine#[b,c.Run,e,_,rfl,r,a.Rc,a.Rn,(by show 0<1000;decide),?_];rw[cH rfl (by decide+kernel)];refine#[b,c.Run,e,_,rfl,Y,a.Rc,a.Rw,(by show 1<1000;decide),?_];rw[cH (ks:=["board"]) rfl (by decide+kernel)];refine#[b,c.Run,e,_,rfl,Y,a.Rc,a.Rl,(by show 2<1000;decide),?_];rw[cH (ks:=["board","lifts"]) rfl (by decide+kernel)];refine#[b,c.Run,e,_,rfl,Y,a.Rc,a.Ro,(by show 3<1000;decide),?_];rw[cH (ks:=["board","lifts","numbers"]) rfl (by decide+kernel)];refine#[b,c.Run,e,_,rfl,Y,a.Rc,a.R1,(by show 4<1000;decide),?_];rw[cH (ks:=["board","lifts","numbers","waiting"]) rfl (by decide+kernel)];refine#[b,c.Run,e,_,rfl,Y,a.Rc,a.Ri,(by show 5<1000;decide),?_];rw[cH (ks:=["board","lifts","numbers","waiting","come"]) rfl (by decide+kernel)];refine s _ ?_ (λo F m f=>by rw[aa f,aa f,aa f,aa f,aa f,aa f];exact m);rw[Y];rfl
def oU(c:Cs)(d:VK)(e:G)(f:db):Prop:=∀(a:G)(b:B),Same e a->d3 c a b f->d (.ref b) a
inductive NK(c:Cs)(f:List V)(b:G)(g:VK)(i:XK):Prop
 |mk(e:B)(a:an)(j:f=[.ref e])(k:bM c b e a)(l:Ma.fL a)(m:oU c g b (vQ a))
theorem NL(b:Tx K d c):ao P w K d base 3 "laid" ["board"] (NK c):=by
 refine bS b.V1 ["board","none_come","part","none_let_go","hopper","no_lifts"] λab ad al am as nd H=>?_;obtain⟨s,e,rfl,n,N,O⟩:=H;obtain⟨au,aw,hl,aB,aD,a⟩:=id n;have g:=a.wf;have o:=a.parts.len;refine#[_,J (fh (i:=1) (own:=[("part",2)]) rfl nd rfl rfl (fi rfl rfl rfl rfl) (b9 (ah 0)) (cS (N:=["board","none_come","part","none_let_go","hopper","no_lifts"]) (sc:=bi rT) (by decide+kernel)) (λ_ _ _ _ _=>aO 2) (λ_ _ _ _ _=>c2) (λ_ _ _ _ _=>ai))
  (J (fh (i:=3) (own:=[("hopper",4)]) rfl nd rfl rfl (fi rfl rfl rfl rfl) (b9 (ah 0)) (cS (N:=["board","none_come","part","none_let_go","hopper","no_lifts"]) (sc:=bi rT) (by decide+kernel)) (λ_ _ _ _ _=>aO 4) (λ_ _ _ _ _=>c2) (λ_ _ _ _ _=>ai))
  (J (fh (i:=5) (own:=[("part",2)]) rfl nd rfl rfl (fi rfl rfl rfl rfl) (b9 (ah 0)) (cS (N:=["board","none_come","part","none_let_go","hopper","no_lifts"]) (sc:=bi rT) (by decide+kernel)) (λ_ _ _ _ _=>aO 2) (λ_ _ _ _ _=>c2) (λ_ _ _ _ _=>bR rfl b.Sa))
  (ae (ax (dq (rF b) (dg (E 0) (dg (E 5) (eZ (aH (kA b) (af (E 0))) (E 3) (E 1) (E 3)))))))))
  ,?_]
 refine#[a.obj,b.Q5,b.Q3,I.of a.parts.lst,λQ R=>?_];refine rD (.int 0) (by rw[ag,o];have:=g.np;omega) a.parts.lst R (λj t u N f=>#[rfl,c3 f]) (λaF k v=>?_);refine#[k _ _ a.obj,b.Q5,b.Q4,I.of (k _ _ a.Q9.lst),λp S=>?_];refine rD (.int 0) (by rw[ag,a.Q9.len];have:=g.nh;omega) (k _ _ a.Q9.lst) S (λj t u N f=>#[rfl,c3 f]) (λaG x y=>?_);have l:=k.trans x;refine#[l _ _ a.obj,b.Q5,b.Q3,I.of (l _ _ a.parts.lst),λT U=>?_];refine rD (.int 255) (by rw[ag,o];have:=g.np;omega) (l _ _ a.parts.lst) U (λj t u N f=>#[rfl,c3 f]) (λaI q z=>?_);have A:=l.trans q;rw[ag,o] at v z;rw[ag,a.Q9.len] at y;refine#[s,e,rfl,n.same A,λaJ V C aK W=>?_];refine(λj X Y Z aL=>?_);have D:=A.trans C;refine made rfl Y Z (λF m aa=>?_);have r:=C.trans m;have G:F p=some (.lst (L (aP e.hoppers.length 0))):=by rw[vO];exact(q.trans r) _ _ y
 exact O F j (D.trans m) #[X,s,T,V,p,Q,p,aa,n.same (D.trans m),by rw[show(vQ e).lifts=aP e.parts.length none from rfl,NJ,vO];exact r _ _ z,m _ _ W,G,by rw[show(vQ e).run.came=aP e.parts.length 0 from rfl,vO];exact(x.trans (q.trans r)) _ _ v,G,Ma.Bw g N]
theorem NM{a:List V}{b:Nat}(c:b<=a.length):cR a none (some (b:Nat))=a.take b:=by
 unfold cR;rw[HT.hv,hL c];rfl
theorem oP{a:List V}{b:Nat}(c:b<=a.length):cR a (some (b:Nat)) none=a.drop b:=by
 unfold cR;rw[HT.hv,hL c];rw[fD (by rw[eK];exact av _)]
theorem NN(a:vL)(b c:Nat):Ma.b4 (a.set b (iS c))=(Ma.b4 a).set b c:=by
 unfold Ma.b4;rw[Bf];congr 1;unfold iS;split
 .rename_i d;rw[d];rfl
 .rfl
theorem vS(a:vL):(Ma.b4 a).length=a.length:=by unfold Ma.b4;rw[ag]
inductive NO(k:List V)(b:G)(l:VK)(m:XK):Prop
 |mk(i:B)(a:List Nat)(e j:Nat)(n:k=[.ref i,.int e,.int j])(o:b i=some (.lst (L a)))(p:e<a.length)(q:a.length<=1000)(r:∀(f:G)(g:B),Same b f->b g=none->f g=some (.lst (L (a.set e j)))->l (.ref g) f)
theorem vT(q:Tx K d c):ao P w K d base 1 "put_in" ["row","place","value"] NO:=by
 refine bS q.Vg ["row","place","value"] λb G H J N nd r=>?_;obtain⟨j,e,a,k,rfl,l,s,hl,t⟩:=r;refine#[_,ae (ax (aM f0 (aM f0 (ie ik (E 0) nL (fZ (E 1))) (a3 (af (E 2)))) (ie ik (E 0) (fZ (aM cg (E 1) ai)) nL))),?_];refine#[_,rfl,j,_,rfl,I.of l,λf u=>?_];rw[NM (by rw[aF];omega)];refine#[(show 1<=aq by decide),λm v=>?_];have x:Same b (upd b f (.lst ((L e).take a))):=.upd u;have n:Same (upd b f (.lst ((L e).take a))) (upd (upd b f (.lst ((L e).take a))) m (.lst [.int k])):=.upd v;refine#[f,m,_,_,rfl,rfl,n _ _ Y,Y,?_,λy z=>?_]
 .rw[ck,aF]
  exact dc (small (by show _+1<=_;omega))
 have g:=x.trans (n.trans (.upd (o:=HO.lst ((L e).take a++[V.int k])) z));refine#[_,rfl,j,_,rfl,I.of (g _ _ l),λA i=>?_];have C:((a:Nat):Int)+1=((a+1:Nat):Int):=rfl;rw[C,oP (by rw[aF];omega)];refine#[y,A,_,_,rfl,rfl,(Same.upd i) _ _ Y,Y,?_,λD p=>?_]
 .rw[bq,ck,eK,aF]
  exact dc (small (by show _+1+_<=_;omega))
 refine t _ D ((g.trans (.upd i)).trans (.upd p)) ((g.trans (.upd i)).free p) ?_;rw[Y];refine congrArg (λF=>some (HO.lst F)) ?_;rw[<-mh,kl];exact(List.set_eq_take_append_cons_drop).symm▸(by rw[if_pos (by rw[aF];exact s)];rfl)
inductive NP(c:Cs)(i:List V)(f:G)(j:VK)(k:XK):Prop
 |mk(g:B)(a:db)(b e:Nat)(l:i=[.ref g,.int b,.int e])(m:d3 c f g a)(n:b<a.lifts.length)(o:Ma.fw {a with lifts:=a.lifts.set b (iS e)})(p:oU c j f {a with lifts:=a.lifts.set b (iS e)})
theorem NQ(a:Tx K d c):ao P w K d base 3 "with_lift" ["run","tray","lift"] (NP c):=by
 refine bS a.Uo ["run","tray","lift","lifts"] λz A C D F nd f=>?_;obtain⟨G,g,j,f,rfl,⟨H,n,o,p,q,cm,dr,e⟩,I,ok,r⟩:=f;refine#[_,J (al 3 (aH (vT a) (bD (ah 0) (E 1) (E 2))))
  (ae (ax (dq (rF a) (dg (ah 0) (dg (E 3) (eZ (ah 0) (ah 0) (ah 0) (ah 0))))))),?_]
 have N:=vS g.lifts;have:=ok.wf.np;have O:=e.ok.lifts.len;refine#[e.obj,a.Rc,a.Rw,o,_,j,f,rfl,e.lifts,by omega,by have:g.board.parts.length<=64:=e.ok.wf.np.2;omega,λQ k l R s=>?_];have b:=e.same l;refine#[b.obj,a.Rc,a.Rn,b.obj,a.Rc,a.Rl,b.obj,a.Rc,a.Ro,b.obj,a.Rc,a.R1,b.obj,a.Rc,a.Ri,λt u v x S=>?_];refine made rfl v x (λm i y=>?_);have R2:=b.same i;exact r m t (l.trans i) #[u,n,k,p,q,cm,dr,y,R2.board,by show m k=some (.lst (L (Ma.b4 (g.lifts.set j (iS f)))));rw[NN];exact i _ _ s,R2.nums,R2.wait,R2.come,R2.drop,ok]
inductive NR(c:Cs)(i:List V)(f:G)(j:VK)(k:XK):Prop
 |mk(g:B)(a:db)(b e:Nat)(l:i=[.ref g,.int b,.int e])(m:d3 c f g a)(n:b<a.board.hoppers.length)(o:Ma.fw {a with all:=f8 a.all b e,run:={a.run with waiting:=f8 a.run.waiting b e}})(p:oU c j f {a with all:=f8 a.all b e,run:={a.run with waiting:=f8 a.run.waiting b e}})
theorem NS(a:Tx K d c):ao P w K d base 3 "with_balls" ["run","hopper","count"] (NR c):=by
 refine bS a.T6 ["run","hopper","count","waiting","dropped"] λF G H L N nd e=>?_;obtain⟨O,k,e,l,rfl,⟨Q,n,o,p,q,cm,dr,b⟩,R,ok,r⟩:=e;refine#[_,J (al 3 (aH (vT a) (bD (ah 0) (E 1) (aM cg (aI (ah 0) (E 1)) (E 2)))))
  (J (al 4 (aH (vT a) (bD (ah 0) (E 1) (aM cg (aI (ah 0) (E 1)) (E 2)))))
  (ae (ax (dq (rF a) (dg (ah 0) (dg (ah 0) (eZ (ah 0) (E 3) (ah 0) (E 4)))))))),?_]
 have S:=b.ok.wf.nh;have T:=b.ok.run.wait;have U:=b.ok.all;refine#[b.obj,a.Rc,a.Ro,b.obj,a.Rc,a.Ro,I.of b.wait,aw (dZ (d_ (by omega))),q,_,e,k.run.waiting.getD e 0+l,rfl,b.wait,by omega,by omega,λV s m W t=>?_];have f:=b.same m;refine#[f.obj,a.Rc,a.Ri,f.obj,a.Rc,a.Ri,I.of f.drop,aw (dZ (d_ (by omega))),dr,_,e,k.all.getD e 0+l,rfl,f.drop,by omega,by omega,λX u j Y v=>?_];have R2:=f.same j;refine#[R2.obj,a.Rc,a.Rn,R2.obj,a.Rc,a.Rw,R2.obj,a.Rc,a.Rl,R2.obj,a.Rc,a.R1,λx y z A Z=>?_];refine made rfl z A (λC g D=>?_);have i:=R2.same g;exact r C x ((m.trans j).trans g) #[y,n,o,p,s,cm,u,D,i.board,i.lifts,i.nums,(j.trans g) _ _ t,i.come,g _ _ v,ok]
inductive NT(c:Cs)(f:List V)(a:G)(g:VK)(i:XK):Prop
 |mk(b:B)(e:db)(j:f=[.ref b])(k:d3 c a b e)(l:g (.bl e.run.rests) a)
theorem vU(a:Tx K d c):ao P w K d base 1 "rests" ["run"] (NT c):=by
 refine bS a.Vk ["run"] λs t u v x nd j=>?_;obtain⟨y,g,rfl,⟨z,A,C,D,k,cm,dr,b⟩,l⟩:=j;refine#[_,ae (ax (pj dO (a1 (xM rfl) rfl a.VF NU (af (ah 0))) ai (aW _))),?_];have m:L g.run.waiting=(g.run.waiting.map λ(e:Nat)=>(e:Int)).map V.int:=by unfold L;rw[dG];rfl
 have E:=b.ok.wf.nh;refine#[b.obj,a.Rc,a.Ro,k,_,rfl,by rw[<-m];exact I.of b.wait,by rw[ag,b.ok.run.wait];omega,λF n o=>?_];obtain⟨e,p,rfl⟩:=bK.mp n;have q:decide (V.int (e:Nat)=V.int 0)=g.run.rests:=by
  rw[fU,decide_eq_true_eq,Ma.vy];constructor
  .intro f i r
   injection f with f
   have:=o i (bK.mpr #[i,r,rfl]);omega
  .intro f
   rw[f e p];rfl
 refine#[rfl,?_];rw[q];exact l
theorem NV{b:db}(a:Ma.fw b)(c:b.run.rests=false):Ma.fw {b with run:=b.board.round b.lifts b.run}:=
 #[a.wf,a.nm,a.lifts,Ma.Bq a.wf,λd=>absurd (Ma.vy.mpr (a.UP d).2) (by rw[c];exact eN),a.all,Ma.Br a.wf _ a.run]
inductive NW(c:Cs)(f:List V)(b:G)(g:VK)(i:XK):Prop
 |mk(e:B)(a:db)(j:f=[.ref e])(k:d3 c b e a)(l:a.run.rests=false)(m:oU c g b {a with run:=a.board.round a.lifts a.run})
theorem BO(a:Tx K d c):ao P w K d base 3 "round_behind" ["run"] (NW c):=by
 refine bS a.Ti ["run","board","came","numbers","kept","number","lift","come","before","more"] λaN aT aV aY a0 nd U=>?_;obtain⟨a1,e,rfl,⟨a3,k,t,G,V,cm,dr,b⟩,W,X⟩:=U;have u:=b.ok.wf;have g:=b.ok.lifts;have a5:=u.np;have H:=b.ok.run.nums;refine#[_,J (al 1 (ah 0))
  (J (al 2 (aH (qz a) (bD (E 1) (ah 0) (ah 0))))
  (J (al 3 (aH (zv a) (bD (E 1) (ah 0) (E 2))))
  (J (fh (i:=4) (own:=[("number",5),("lift",6)]) rfl nd rfl rfl (fi rfl rfl rfl rfl) (jh rfl a.SS (aL (E 3) (ah 0))) (cS (N:=["run","board","came","numbers","kept","number","lift","come","before","more"]) (sc:=bi v6) (by decide+kernel))
   (λ_ _ _ _ _=>qW (n:=2) K rfl rfl (c0 (aO 5) (c0 (aO 6) gj))) (λ_ _ _ _ _=>c2) (λ_ _ _ _ _=>nn (aZ dO (E 6) (bR rfl a.Sa) (aW _)) (E 5) ai))
  (J (fh (i:=7) (own:=[("before",8),("more",9)]) rfl nd rfl rfl (fi rfl rfl rfl rfl) (jh rfl a.SS (aL (ah 0) (E 2))) (cS (N:=["run","board","came","numbers","kept","number","lift","come","before","more"]) (sc:=bi v6) (by decide+kernel))
   (λ_ _ _ _ _=>qW (n:=2) K rfl rfl (c0 (aO 8) (c0 (aO 9) gj))) (λ_ _ _ _ _=>c2) (λ_ _ _ _ _=>aM cg (E 8) (E 9)))
  (ae (ax (dq (rF a) (dg (E 1) (dg (ah 0) (eZ (E 4) (aH (BL a) (bD (E 1) (ah 0) (E 2))) (E 7) (ah 0)))))))))))
  ,?_]
 refine#[b.obj,a.Rc,a.Rn,?_];refine#[b.obj,a.Rc,a.Rl,b.obj,a.Rc,a.Ro,k,G,V,_,_,_,rfl,b.board,b.nums,b.wait,b.ok.run.wait,H,λa9 v L hC l=>?_];have m:=b.same L;refine#[m.obj,a.Rc,a.Rl,k,G,v,_,_,_,rfl,m.board,m.nums,l,H.1,Ma.iw _ _,λba Y o bb x=>?_];have R2:=m.same o;have Z:(e.board.many e.run.nums e.run.waiting).length=e.board.parts.length:=(Ma.qk u _ _).1;have bd:=vS e.lifts;have be:=g.len;rw[<-Ma.tM] at x;refine#[R2.obj,a.Rc,a.Rw,Y,t,_,_,rfl,I.of x,I.of R2.lifts,λaa ab=>?_];refine vM (λO Q=>if Q=255 then O else 0) (by omega) (by omega) (Same.refl _) x R2.lifts ab (λO Q y ad af N z f=>#[y,_,rfl,a8.of z,rfl,_,_,rfl,_,_,rfl,rfl,rfl,c3 #[rfl,_,rfl,BJ (λA=>(by rw[if_pos A] at f;exact f)) (λA=>by rw[if_neg A] at f;exact f)]]) (λbf p am=>?_);have q:=R2.same p;refine#[q.obj,a.Rc,a.R1,cm,v,_,_,rfl,I.of q.come,I.of ((o.trans p) _ _ l),λas au=>?_];refine vM (λe r=>e+r) (by rw[b.ok.run.came,Ma.iw]) (by rw[b.ok.run.came];omega) (Same.refl _) q.come ((o.trans p) _ _ l) au (λe r y ad af N z f=>#[y,_,rfl,a8.of z,rfl,_,_,rfl,_,_,rfl,rfl,rfl,c3 f]) (λbk C aw=>?_);have j:=q.same C;have R:=(o.trans p).trans C;refine#[j.obj,a.Rc,a.Rw,j.obj,a.Rc,a.Rw,k,t,v,e.board,e.lifts,_,rfl,j.board,j.lifts,R _ _ l,g,Ma.iw _ _,λbl aB D bm aD=>?_];have S:=j.same D;refine#[S.obj,a.Rc,a.Ri,λr aF aG aI bs=>?_];refine made rfl aG aI (λaJ s aK=>?_);have F:=S.same s;have T:=D.trans s;refine X aJ r (((L.trans R).trans D).trans s) #[aF,k,t,aa,aB,as,dr,aK,F.board,F.lifts,?_,?_,?_,F.drop,NV b.ok W]
 .rw[Ma.Bp g b.ok.empty]
  rw[Ma.M4 u g Z];exact(C.trans T) _ _ am
 .rw[Ma.Bp g b.ok.empty]
  exact s _ _ aD
 .exact T _ _ aw
inductive NX(c:Cs)(g:List V)(e:G)(i:VK)(j:XK):Prop
 |mk(f:B)(a:db)(b:Nat)(k:g=[.ref f,.int b])(l:d3 c e f a)(m:b<=1000)(n:oU c i e {a with run:=a.board.go a.lifts b a.run})
theorem NY(m:Tx K d c):ao P w K d base 4 "rounds_behind" ["run","most"] (NX c):=by
 refine bS m.Td ["run","most","done"] λt D F G H nd j=>?_;obtain⟨u,a,e,rfl,hR,I,r⟩:=j;refine#[_,J (b_ cv rfl (j7 rfl m.RT (af (E 1))) (aO 2)
   (J (ba (eJ (aH (vU m) (af (E 0)))) (ae (ax (E 0))) bC)
   (ae (al 0 (aH (BO m) (af (E 0)))))))
  (ae (ax (E 0))),?_]
 refine#[_,rfl,by omega,by omega,?_];have v:(((e:Nat):Int)).toNat=e:=by omega
 rw[v];refine j8 (λk o s=>∃(g:B)(f:fO)(p:Option V),o=[some (.ref g),some (.int e),p]/\Same t s/\d3 c s g {a with run:=f}/\a.board.go a.lifts (e-k) f=a.board.go a.lifts e a.run) #[u,a.run,none,rfl,Same.refl _,hR,rfl] ?_ ?_
 .rintro k o q L ⟨g,f,p,rfl,n,i,b⟩
  obtain⟨l,x⟩:∃l,e-k=l+1:=#[e-k-1,by omega];rw[x] at b;have y:a.board.go a.lifts (l+1) f=if f.rests=true then f else a.board.go a.lifts l (a.board.round a.lifts f):=rfl
  rw[y] at b;refine#[g,_,rfl,i,_,rfl,a9 (λj=>?_) (λj=>?_)]
  .rw[if_pos j] at b
   rw[b] at i;exact r q g n i
  .rw[if_neg j] at b
   refine#[g,_,rfl,i,dE.mpr j,λN z A C=>#[z,_,_,rfl,n.trans A,C,?_]];rw[show e-(k+1)=l by omega];exact b
 .rintro o q ⟨g,f,p,rfl,n,i,b⟩
  rw[ez] at b;have b:f=a.board.go a.lifts e a.run:=b;rw[b] at i;exact r q g n i
def gK(a:V)(b:B):List (Str×V):=[("run",a),("earlier",.ref b)]
def oW(c:G):HO->Prop
 | .ins _ _ d=>∃e f,d=gK e f
 | .lst (a::_)=>a=.non\/ ∃b g i j k l m cm dr,a=.ref b/\c b=some (.ins g i (vP j k l m cm dr))
 | .dT _=>True
 | .R3 _ _=>True
 |_=>False
def k8(b d:G):Prop:=∀c a,b c=some a-> ¬oW b a->d c=some a
theorem NZ{c:G}{a:List Int}:¬oW c (.lst (a.map V.int)):=by
 cases a with
 |nil=>exact id
 |cons d a=>
  rintro(b|⟨e,f,g,i,j,k,l,cm,dr,b,_⟩)
  .cases b
  .cases b
theorem mL{c:G}{a:List Nat}:¬oW c (.lst (L a)):=by
 cases a with
 |nil=>exact id
 |cons d a=>
  rintro(b|⟨e,f,g,i,j,k,l,cm,dr,b,_⟩)
  .cases b
  .cases b
theorem rG{c:G}{d e:B}{b:Str}{f:V}{g:List (Str×V)}(i:¬b= "run"):¬oW c (.ins d e ((b,f)::g)):=by
 rintro⟨j,k,a⟩;injection a with a
 injection a with a
 exact i a
theorem BP{f:G}{c:List B}(b:∀d,c[0]? =some d-> ∃g i e j k,f d=some (.ins g i ((e,j)::k))/\ ¬e= "board"):¬oW f (.lst (c.map V.ref)):=by
 cases c with
 |nil=>exact id
 |cons d c=>
  obtain⟨g,i,e,j,k,l,m⟩:=b d rfl;rintro(b|⟨n,o,p,q,r,s,t,cm,dr,b,a⟩)
  .cases b
  .cases b
   rw[l] at a;injection a with a
   injection a with _ _ a
   injection a with a
   injection a with a
   exact m a
theorem bM.R9{c:Cs}{m n:G}{b:B}{o:an}(r:bM c m b o)(f:k8 m n):bM c n b o:=by
 obtain⟨s,t,hl,u,v,a⟩:=r;refine#[s,t,hl,u,v,f _ _ a.obj (rG (by decide+kernel)),#[f _ _ a.parts.lst (BP λb g=>?_),a.parts.len,λj b d D k=>?_],#[f _ _ a.Q9.lst (BP λb g=>?_),a.Q9.len,λj b d D k=>?_],a.wf]
 .obtain⟨d,l⟩:=c7 a.parts.len g
  obtain⟨i,p,e,q⟩:=a.parts.at_ 0 b d g l;exact#[_,_,_,_,_,e,by decide+kernel]
 .obtain⟨i,p,e,q⟩:=a.parts.at_ j b d D k
  exact#[i,p,f _ _ e (rG (by decide+kernel)),f _ _ q mL]
 .obtain⟨d,l⟩:=c7 a.Q9.len g
  obtain⟨i,e⟩:=a.Q9.at_ 0 b d g l;exact#[_,_,_,_,_,e,by decide+kernel]
 .obtain⟨i,e⟩:=a.Q9.at_ j b d D k
  exact#[i,f _ _ e (rG (by decide+kernel))]
theorem d3.R9{c:Cs}{d e:G}{f:B}{g:db}(i:d3 c d f g)(b:k8 d e):d3 c e f g:=
 let⟨j,k,l,m,n,cm,dr,a⟩:=i
 #[j,k,l,m,n,cm,dr,b _ _ a.obj (rG (by decide+kernel)),a.board.R9 b,b _ _ a.lifts mL,b _ _ a.nums mL,b _ _ a.wait mL,b _ _ a.come mL,b _ _ a.drop mL,a.ok]
def gL(a:fO):List aV:=(a.nums++a.waiting).map λ(b:Nat)=>eI (b:Int)
theorem N0(a:fO):(gL a).map kV=L a.nums++L a.waiting:=by
 unfold gL L;rw[dG,<-br];rfl
theorem N1{a b:fO}(e:b.nums.length=a.nums.length):decide (gL b=gL a)=a.like b:=by
 rw[fU,decide_eq_true_eq];unfold QZ gL;rw[bJ,beq_iff_eq,beq_iff_eq];constructor
 .intro f
  have g:=I4 (λi j d=>by injection d with d;omega)|>.mp f
  obtain⟨D,c⟩:=List.append_inj g e;exact#[D.symm,c.symm]
 .rintro⟨D,c⟩
  rw[D,c]
def hg(pre:List fO):List (List aV×V):=pre.zipIdx.map λa=>(gL a.1,V.int (a.2:Nat))
theorem N2(pre:List fO):(hg pre).length=pre.length:=by unfold hg;rw[ag,oh]
theorem N3{pre:List fO}{a:fO}(d:∀e∈pre,e.nums.length=a.nums.length):dC (hg pre) (gL a)=(Ma.first pre a).map λ(f:Nat)=>V.int (f:Nat):=by
 unfold dC hg Ma.first;rw[List.find?_map,zM,zM];rw[Ma.oT (p:=(λg:List aV×V=>decide (g.1=gL a))∘λc:fO×Nat=>(gL c.1,V.int (c.2:Nat))) (q:=λb=>a.like b.1) λb i=>N1 (d b.1 (IR i))];rfl
theorem N4{pre:List fO}{a:fO}(b:dC (hg pre) (gL a)=none):ev (hg pre) (gL a) (V.int (pre.length:Nat))=hg (pre++[a]):=by
 unfold ev;rw[pI,b];unfold hg;rw[zP,br,f4];rfl
inductive N5(c:Cs)(j:List V)(b:G)(k:VK)(l:XK):Prop
 |mk(i:B)(a:db)(e:Nat)(m:j=[.ref i,.int e])(n:d3 c b i a)(o:e<=300)(p:∀(f:G)(g:B),Same b f->b g=none->f g=some (.lst ((Ma.he (a.board.runs a.lifts e a.run)).map V.int))->k (.ref g) f)
theorem N6(j:Tx K d c):ao P w K d base 4 "find_loop" ["run","most"] (N5 c):=by
 refine bS j.UC ["run","most","seen","rounds","standing"] λau bd be bf aw nd e=>?_;obtain⟨aB,b,f,rfl,hR,Z,H⟩:=e;have N:=n0 aw;refine#[_,J (al 2 GZ)
  (J (b_ cv rfl (j7 rfl j.RT (af (aM cg (E 1) ai))) (aO 3)
   (J (ba (eJ (aH (vU j) (af (E 0)))) (ae (ax (a3 (af ai)))) bC)
   (J (al 4 (pz FQ rfl j.Vm Q0 (af (aM f0 (ah 0) (ah 0)))))
   (J (ba (lj (x6 N (E 4) (E 2))) (ae (ax (a3 (bD ai (E 3) (pJ N (E 2) (E 4) (λ_ _=>rfl)))))) bC)
   (J (pK N (E 2) (E 4) (E 3) rfl)
   (ae (al 0 (aH (BO j) (af (E 0))))))))))
  (ae (ax (a3 (af ai))))),?_]
 intro r O;refine#[_,rfl,by omega,by omega,?_];have Q:(((f:Nat):Int)+1).toNat=f+1:=by omega
 rw[Q];have aD:∀{t:G}{k:B}{a:fO},d3 c t k {b with run:=a}->a.nums.length=b.board.parts.length/\a.waiting.length=b.board.hoppers.length:=λ⟨_,_,_,_,_,_,_,l⟩=>#[l.ok.run.nums.1,l.ok.run.wait];refine j8 (λg R t=>∃(k:B)(a:fO)(pre:List fO)(S T:Option V),R=[some (.ref k),some (.int f),some (.ref r),S,T]/\Same au t/\d3 c t k {b with run:=a}/\t r=some (.dT (hg pre))/\Ma.hb pre/\pre.length=g/\(∀U∈pre,U.nums.length=b.board.parts.length)/\
   (g<=f->b.board.runs b.lifts f b.run=pre++b.board.runs b.lifts (f-g) a)/\(g=f+1->b.board.runs b.lifts f b.run=pre))
  #[aB,b.run,[],none,none,rfl,.upd O,hR.same (.upd O),Y,Ma.hb.nil,rfl,(λ_ e=>by cases e),λ_=>rfl,(λe=>by omega)] ?_ ?_
 .rintro g R u bi ⟨k,a,pre,S,T,rfl,n,v,x,y,A,W,i,_⟩
  have i:=i (by omega);obtain⟨ab,bk⟩:=aD v;obtain⟨bl,bm,bs,aG,aI,cm,dr,l⟩:=id v;have aJ:=l.ok.wf.np;have aK:=l.ok.wf.nh;refine#[k,_,rfl,v,_,rfl,a9 (λe=>?_) (λe=>?_)]
  .have e:=e
   have p:b.board.runs b.lifts (f-g) a=[a]:=by
    cases f-g with
    |zero=>rfl
    |succ q=>unfold N7;rw[if_pos e]
   rw[p] at i;refine#[(by decide:1<=aq),λz hl=>H _ z (n.trans (.upd hl)) (n.free hl) ?_];rw[Y,i,Ma.Nf y e];rfl
  have e:=dE.mpr e;refine#[l.obj,j.Rc,j.Rl,l.obj,j.Rc,j.Ro,aG,aI,_,_,rfl,rfl,l.nums,l.wait,?_,λC aL=>?_]
  .rw[aF,aF]
   exact dc (small (by show a.nums.length+a.waiting.length<=_;have:b.board.parts.length<=64:=aJ.2;have:b.board.hoppers.length<=8:=aK.2;omega))
  refine#[C,_,rfl,.inl #[I.of Y,λD aN=>?_]];have o:Same u (upd (upd u C (.lst (L a.nums++L a.waiting))) D (.tup (L a.nums++L a.waiting))):=(Same.upd aL).trans (.upd aN);have X:(upd (upd u C (.lst (L a.nums++L a.waiting))) D (.tup (L a.nums++L a.waiting))) D=some (.tup ((gL a).map kV)):=by rw[Y,N0]
  have s:=N3 (λU aT=>by rw[W U aT,ab]);refine#[r,_,rfl,ew.t (o _ _ x) X,_,rfl,?_];cases F:Ma.first pre a with
  |some bt=>
   rw[F] at s;rw[s];refine dm #[r,_,rfl,(by have:=ew.t (o _ _ x) X;rw[s] at this;exact this),(by decide:3<=aq),λz hl=>H _ z ((n.trans o).trans (.upd hl)) ((n.trans o).free hl) ?_];have p:∃ad,b.board.runs b.lifts (f-g) a=a::ad:=by
    cases f-g with
    |zero=>exact#[[],rfl]
    |succ q=>unfold N7;rw[if_neg (by rw[e];exact eN)];exact#[_,rfl]
   obtain⟨ad,p⟩:=p;rw[Y,i,p,Ma.Nd y e F,A,N8];rfl
  |none=>
   rw[F] at s;rw[s];have aV:(hg pre).length<aq:=by rw[N2];exact small (by omega)
   refine dk #[r,_,rfl,hy.t (o _ _ x) X aV,?_];have aW:V.int (0+((g:Nat):Int))=V.int (pre.length:Nat):=by rw[A,N8]
   rw[aW,N4 s];generalize bx:upd (upd u C (.lst (L a.nums++L a.waiting))) D (.tup (L a.nums++L a.waiting))=aY at*;have aZ:=o _ _ x;have a0:d3 c (upd aY r (.dT (hg (pre++[a])))) k {b with run:=a}:=(v.same o).R9 λam bz m Z=>by
    rw[aa (λQ=>by rw[Q,aZ] at m;cases m;exact Z trivial)];exact m
   refine#[k,_,rfl,a0,e,λbA a1 as a5=>#[a1,_,pre++[a],_,_,rfl,((n.trans o).put O).trans as,a5,as _ _ Y,y.snoc e F,by rw[bq,A];rfl,λam m=>?_,λa8=>?_,λa8=>?_]]
   .rcases c4.mp m with m|m
    .exact W am m
    .rw[cb.mp m,ab]
   .obtain⟨q,bb⟩:∃q,f-g=q+1:=#[f-g-1,by omega]
    rw[i,bb,show f-(g+1)=q by omega,kl];have p:b.board.runs b.lifts (q+1) a=if a.rests=true then[a] else a::b.board.runs b.lifts q (b.board.round b.lifts a):=rfl
    rw[p,if_neg (by rw[e];exact eN)];rfl
   .rw[i,show f-g=0 by omega]
    rfl
 .rintro R u ⟨k,a,pre,S,T,rfl,n,v,x,y,A,W,_,i⟩
  have i:=i rfl;refine#[(by decide:1<=aq),λz hl=>H _ z (n.trans (.upd hl)) (n.free hl) ?_];rw[Y,i,Ma.Ng y];rfl
abbrev iT(a:List Bool):List V:=a.map V.bl
theorem BQ(a:List Bool)(b:Nat)(c:Bool):(iT a).set b (.bl c)=iT (a.set b c):=by simp[iT]
theorem BR{a:List Bool}{b:Nat}(c:b<a.length):(iT a)[b]? =some (.bl (a.getD b false)):=by rw[a6,aE,a2 c];rfl
inductive BS(c:Cs)(i:List V)(a:G)(j:VK)(k:XK):Prop
 |mk(f:B)(g:an)(l:i=[.ref f])(m:bM c a f g)(n:∀(b:G)(e:B),Same a b->a e=none->b e=some (.lst (iT g.fed))->j (.ref e) b)
theorem N9(b:Tx K d c):ao P w K d base 1 "ever_come_to" ["board"] (BS c):=by
 refine bS b.Tp ["board","come_to","part","hopper","place","way"] λD be bf bk bm nd aB=>?_;obtain⟨F,e,rfl,⟨bs,bx,hl,G,bz,a⟩,aD⟩:=aB;have s:=a.wf;have y:=a.parts.len;have bA:=s.np;refine#[_,J (fh (i:=1) (own:=[("part",2)]) rfl nd rfl rfl (fi rfl rfl rfl rfl) (b9 (ah 0)) (cS (N:=["board","come_to","part","hopper","place","way"]) (sc:=bi Ch) (by decide+kernel)) (λ_ _ _ _ _=>aO 2) (λ_ _ _ _ _=>c2) (λ_ _ _ _ _=>le))
  (J (b_ cv rfl (b9 (ah 0)) (aO 3)
   (ae (ln le (lm (E 1) (ah 3) gV))))
  (J (b_ cv rfl (s7 rfl b.RT (bD (aM hr (a1 bd rfl b.Q_ bg (af (ah 0))) ai) (e9 e_ ai) (e9 e_ ai))) (aO 4)
   (ae (ba (eJ (aI (E 1) (E 4)))
    (ae (b_ cv rfl (b9 (fX (aI (ah 0) (E 4)) rfl)) (aO 5)
     (ae (ln le (lm (E 1) (E 5) gV))))) bC)))
  (ae (ax (E 1))))),?_]
 refine#[a.obj,b.Q5,b.Q3,I.of a.parts.lst,λk z=>?_];refine rD (.bl false) (by rw[ag,y];omega) a.parts.lst z (λZ f bF N aG=>#[rfl,c3 aG]) (λaH H aa=>?_);rw[ag,y] at aa;have aJ:aH k=some (.lst (iT (Ma.iR e 0))):=by rw[aa];exact congrArg (λaK=>some (HO.lst aK)) qq.symm
 refine#[H _ _ a.obj,b.Q5,b.Q4,I.of (H _ _ a.Q9.lst),?_];refine gl (λi g f=>∃l m,g=[some (.ref F),some (.ref k),l,m,none,none]/\Same D f/\f k=some (.lst (iT (Ma.iR e i)))) #[_,_,rfl,H,aJ] (λi g f _ ⟨_,_,_,L,_⟩=>I.of (L _ _ a.Q9.lst)) ?_ ?_
 .rintro i Z g f O ⟨l,m,rfl,t,A⟩
  obtain⟨aL,ab,rfl⟩:=bt O;obtain⟨p,Q⟩:=c7 a.Q9.len ab;obtain⟨bG,aN⟩:=a.Q9.at_ i aL p ab Q;have R:=(aC.mp Q).1;have bI:=Ma.ej s R;have aT:e.entry i=p.2:=by simp[ky,Q]
  have bL:=(Ma.rA s i (by omega)).1;refine#[t _ _ aN,b.RB,b.Rm,k,_,_,p.2,rfl,rfl,A,g0 (by rw[ag];omega),_,_,rfl,t.put z,?_];rw[Y,BQ,Ma.vJ,aT]
 rintro g bM ⟨l,m,rfl,t,A⟩;rw[ag,a.Q9.len] at A;refine#[t _ _ a.obj,b.Q5,b.Q3,.inl (I.of (t _ _ a.parts.lst)),_,_,_,e.parts.length,rfl,?_,?_]
 .have aV:((((G.map V.ref).length:Nat):Int)-1-(-1)).toNat=e.parts.length:=by rw[ag,y];omega
  have:=lP.neg (i:=(((G.map V.ref).length:Nat):Int)-1) (j:=-1) (by omega) (by rw[ag,y];omega) (by decide) (by decide);rw[aV] at this;exact this
 refine s8 (λu g f=>∃q l m S r,g=[some (.ref F),some (.ref k),l,m,S,r]/\Same D f/\f k=some (.lst (iT q))/\q.length=e.parts.length/\Ma.gJ e (e.parts.length-u) q=e.fed)
  #[_,_,_,_,_,rfl,t,A,(Ma.rA s _ (av _)).1,Ma.Nl s] ?_ ?_
 .rintro u g f bP ⟨q,l,m,S,r,rfl,n,x,T,o⟩
  obtain⟨i,R⟩:∃i,e.parts.length-u=i+1:=#[e.parts.length-u-1,by omega];have aW:(((G.map V.ref).length:Nat):Int)-1+(u:Nat)*(-1)=(i:Int):=by rw[ag,y];omega
  rw[aW];have aY:i<e.parts.length:=by omega
  obtain⟨ad,p⟩:=Ma.gw aY;obtain⟨aZ,a0,bR,bT,a3,al⟩:=a.parts.get p;rw[R,Ma.Nn p] at o;have am:e.parts.length-(u+1)=i:=by omega
  refine#[I.of x,aw (BR (by omega)),_,rfl,?_];refine a9 (λU=>?_) (λU=>?_)
  .rw[if_pos U] at o
   refine#[n _ _ a.obj,b.Q5,b.Q3,I.of (n _ _ a.parts.lst),aw (v:=V.ref aZ) (by rw[a6,a0];rfl),n _ _ a3,b.Q7,b.Re,I.of (n _ _ al),?_];refine gl (λW g f=>∃r,g=[some (.ref F),some (.ref k),l,m,some (.int (i:Nat)),r]/\Same D f/\f k=some (.lst (iT (Ma.ed q ((Ma.ways ad).take W))))) #[_,rfl,n,x] (λW g f _ ⟨_,_,L,_⟩=>I.of (L _ _ al)) ?_ ?_
   .rintro W Z g a5 O ⟨r,rfl,X,C⟩
    obtain⟨as,au,rfl⟩:=bt O;have bU:=(s.part i ad p).below as (a7 au);refine#[k,_,_,as,rfl,rfl,C,g0 (by rw[ag,Ma.BF];omega),_,rfl,X.put z,?_];rw[Y,BQ,cp au,Ma.No]
   .rintro g a5 ⟨r,rfl,X,C⟩
    rw[aF,dY] at C;exact#[_,_,_,_,_,rfl,X,C,by rw[Ma.BF];exact T,by rw[am];exact o]
  .rw[if_neg U] at o
   exact#[_,_,_,_,_,rfl,n,x,T,by rw[am];exact o]
 rintro g a8 ⟨q,l,m,S,r,rfl,n,x,T,o⟩;rw[ez] at o;have bb:q=e.fed:=o;rw[bb] at x;exact aD a8 k n z x
theorem N_(b:bX)(c:Nat->Nat)(d:B):pf (b.renumber c) d=pf b d:=by
 cases b with
 |tray a=>rfl
 |wheel a e f=>
  have g:eB (Q1 c (.wheel a e f))=eB (.wheel a e f):=ag ..;unfold pf;rw[g];rfl
 |gate a i j k=>rfl
def eF(b:an)(c:Nat):List (aV×V):=(Ma.hW b c).map λa=>(eI (a.1:Int),V.int (a.2:Nat))
theorem Oa(b:an)(a:Nat):(eF b a).length<=a:=by unfold eF;rw[ag];exact Ma.Nv b a
theorem BU{c:an}{e a:Nat}(g:a<e)(k:(Ma.keep c)[a]? =some true):dC (eF c e) (eI (a:Int))=some (V.int (k9 (Ma.keep c) a:Nat)):=by
 unfold dC;cases f:(eF c e).find? λl=>decide (l.1=eI (a:Int)) with
 |none=>
  have:=List.find?_eq_none.mp f _ (bK.mpr #[_,Ma.Nu g k,rfl]);exact absurd (decide_eq_true rfl) this
 |some m=>
  have o:m.1=eI (a:Int):=of_decide_eq_true (by have:=List.find?_some f;exact this);obtain⟨d,p,rfl⟩:=bK.mp (A4 f);have r:((d.1:Nat):Int)=(a:Nat):=wi o;have q:d.1=a:=by omega
  have:=(Ma.BI (b:=c) (i:=e) (j:=d.1) (n:=d.2) p).2;show some (V.int (d.2:Nat))=_;rw[this,q]
theorem Ob{b:an}{a:Nat}(c:(Ma.keep b)[a]? =some true):ev (eF b a) (eI (a:Int)) (V.int (k9 (Ma.keep b) a:Nat))=eF b (a+1):=by
 have d:((eF b a).any λe=>decide (e.1=eI (a:Int)))=false:=by
  rw[EA];intro j f;obtain⟨k,g,rfl⟩:=bK.mp f;have:=(Ma.BI g).1;intro i;have l:=wi (of_decide_eq_true i);omega
 unfold ev;rw[d];unfold eF;rw[Ma.BH,aE,c,br];rfl
theorem Oc{a:an}{b:Nat}(c:(Ma.keep a)[b]? =some false):eF a (b+1)=eF a b:=by
 unfold eF;rw[Ma.BH,aE,c];show qR _ (_++[])=_;rw[eH]
def mM(c:Cs)(g:G)(a:List B)(b:List bX):Prop:=a.length=b.length/\ ∀(d:Nat)(e:B)(f:bX),a[d]? =some e->b[d]? =some f->f5 c g e f
def rH(c:Cs)(g:G)(a:List B)(b:List (bo×Nat)):Prop:=a.length=b.length/\ ∀(d:Nat)(e:B)(f:bo×Nat),a[d]? =some e->b[d]? =some f->jx c g e f
theorem rJ{f g:Type}{l:f->g->Prop}{c:List f}{i:List g}{d:f}{e:g}(hl:c.length=i.length)(m:∀(a:Nat)(d:f)(e:g),c[a]? =some d->i[a]? =some e->l d e)(n:l d e):
  (c++[d]).length=(i++[e]).length/\ ∀(a:Nat)(j:f)(k:g),(c++[d])[a]? =some j->(i++[e])[a]? =some k->l j k:=by
 refine#[by simp[hl],λa j k D b=>?_];by_cases o:a<c.length
 .rw[cF o] at D
  rw[cF (by omega)] at b;exact m a j k D b
 .rw[dB (by omega)] at D
  rw[dB (by omega),<-hl] at b
  match a-c.length,D,b with
  |0,D,b=>cases D;cases b;exact n
  |p+1,D,b=>simp at D
theorem mM.same{c:Cs}{a b:G}{d:List B}{e:List bX}(f:mM c a d e)(g:Same a b):mM c b d e:=#[f.1,λi j k D l=>(f.2 i j k D l).same g]
theorem rH.same{c:Cs}{a b:G}{d:List B}{e:List (bo×Nat)}(f:rH c a d e)(g:Same a b):rH c b d e:=#[f.1,λi j k D l=>(f.2 i j k D l).same g]
theorem Od{a:bX}{fed:Bool}{b c d:Prop}(hR:(if fed=true then b else c)->d)(D:(a.isTray||fed)=true->b)(g:(a.isTray||fed)=false->c):if decide (V.str (fp a)=V.str "tray")=true then(if true=true then b else c) else d:=by
 have e:a.isTray=false->d:=λf=>hR (by
  cases fed with
  |true=>exact dm (D (by rw[f];rfl))
  |false=>exact dk (g (by rw[f];rfl)))
 cases a with
 |tray nm=>exact iz (dm (D rfl))
 |wheel _ _ _=>exact fH (show¬("wheel":Str)= "tray" by decide+kernel) (e rfl)
 |gate _ _ _ _=>exact fH (show¬("gate":Str)= "tray" by decide+kernel) (e rfl)
inductive Oe(c:Cs)(i:List V)(b:G)(j:VK)(k:XK):Prop
 |mk(e:B)(f:an)(l:i=[.ref e])(m:bM c b e f)(n:∀(a:G)(g:B),Same b a->bM c a g f.bare->j (.ref g) a)
theorem Of(b:Tx K d c):ao P w K d base 3 "bare_board" ["board"] (Oe c):=by
 have cm:ao P w K d base 1 "ever_come_to" ["board"] (BS c):=N9 b;have co:d8 P w K d base 1 c.Part "Part" ["self","kind","name","ways","turn","first","told"] (cU c.Part ["kind","name","ways","turn","first","told"]):=n9 b;have cq:d8 P w K d base 1 c.RL "Hopper" ["self","name","part"] (cU c.RL ["name","part"]):=y4 b;have cr:d8 P w K d base 1 c.Board "Board" ["self","parts","hoppers"] (cU c.Board ["parts","hoppers"]):=tS b;refine bS b.T4 ["board","come_to","parts","renumbered","place","part","ways","way","hoppers","hopper"] λdd de df di cs nd G=>?_;obtain⟨bM,e,rfl,bP,ct⟩:=G;obtain⟨dj,bR,hl,cu,cA,T⟩:=id bP;have x:=T.wf;have bT:=T.parts.len;have dk:=x.np;have a0:=n0 cs;refine#[_,J (al 1 (aH cm (af (E 0))))
  (J (al 2 (a3 er))
  (J (al 3 s4)
  (J (b_ cv rfl (s9 rfl b.Sv (af (ah 0))) (h8 rfl (c0 (aO 4) (c0 (aO 5) gj)))
   (ae (ba (PW.pt (j2 (aZ dO (ah 5) aT (aW _)) (j1 (eJ (aI (E 1) (E 4))))))
    (J (pK a0 (E 3) (E 4) (a1 bd rfl b.Q_ bg (af (E 2))) rfl)
    (J (fh (i:=6) (own:=[("way",7)]) rfl nd rfl rfl (fi rfl rfl rfl rfl) (b9 (ah 5)) (cS (N:=["board","come_to","parts","renumbered","place","part","ways","way","hoppers","hopper"]) (sc:=bi v7) (by decide+kernel)) (λ_ _ _ _ _=>aO 7) (λ_ _ _ _ _=>c2) (λ_ _ _ _ _=>pJ a0 (E 3) (E 7) (λ_ _=>rfl)))
    (ae (aG (cM cI dU ea dS (E 2) (af (dq co (dg (ah 5) (dg (ah 5) (eZ (E 6) (ah 5) (ah 5) (ah 5))))))))))) bC)))
  (J (fh (i:=8) (own:=[("hopper",9)]) rfl nd rfl rfl (fi rfl rfl rfl rfl) (b9 (ah 0)) (cS (N:=["board","come_to","parts","renumbered","place","part","ways","way","hoppers","hopper"]) (sc:=bi v7) (by decide+kernel)) (λ_ _ _ _ _=>aO 9) (λ_ _ _ _ _=>c2)
   (λ_ _ _ _ _=>dq cq (aL (l9 K rfl (E 9) rfl) (pJ a0 (E 3) (l9 K rfl (E 9) rfl) (λ_ _=>rfl)))))
  (ae (ax (dq cr (aL (E 2) (E 8)))))))))
  ,?_]
 refine#[bM,e,rfl,bP,λz Cl bU dl cD=>?_];refine#[aR _,λq bW=>?_];intro Rd as;have bY:Same z (upd z q (.lst [])):=.upd bW;have cG:z Rd=none:=bY.free as;have a5:q≠Rd:=λs=>by rw[s,Y] at as;cases as
 have y:=T.same bU;have a9:Same z (upd (upd z q (.lst [])) Rd (.dK [])):=bY.trans (.upd as);refine#[a9 _ _ y.obj,b.Q5,b.Q3,bR,_,rfl,I.of (a9 _ _ y.parts.lst),?_];refine zr (K:=K) (a:=bR) (xs:=cu.map V.ref) (λi au o=>∃(r:List B)(bb be bf bk:Option V),au=[some (.ref bM),some (.ref Cl),some (.ref q),some (.ref Rd),bb,be,bf,bk,none,none]/\Same z o/\o q=some (.lst (r.map V.ref))/\o Rd=some (.dK (eF e i))/\mM c (less o [q,Rd]) r (Ma.hf e i))
  #[[],_,_,_,_,rfl,a9,by rw[aa a5,Y];rfl,Y,rfl,λi a t D _=>by simp at D] (λi au o _ ⟨_,_,_,_,_,_,cH,_⟩=>I.of (cH _ _ y.parts.lst)) ?_ ?_
 .rintro i bZ aB au o U cK ⟨r,bb,be,bf,bk,rfl,A,bm,aD,PA⟩
  obtain⟨aJ,b0,rfl⟩:=bt U;obtain⟨t,f⟩:=c7 bT b0;obtain⟨dm,cN,C,b1⟩:=y.parts.at_ i aJ t b0 f;have aK:=(aC.mp f).1;have aM:Same o (upd o aB (.tup [.int (i:Nat),.ref aJ])):=.upd cK;generalize H:upd o aB (.tup [.int (i:Nat),.ref aJ])=g at*;have cO:g aB=some (.tup [.int (i:Nat),.ref aJ]):=by rw[<-H,Y]
  have m:=A.trans aM;have bs:=aM _ _ bm;have b2:=aM _ _ aD;have b3:=PA.same (gE (l:=[q,Rd]) aM);have F:=Ma.rx f;have cR:=PA.1;have cT:=Ma.Np e i;have dn:=Ma.Nr e i;refine#[aB,_,rfl,a8.of cO,rfl,_,_,rfl,_,_,rfl,rfl,?_];refine#[m _ _ C,b.Q7,b.Q8,rfl,_,rfl,Od (fed:=e.fed.getD i false) (λG=>#[I.of (m _ _ cD),aw (j:=i) (v:=V.bl (e.fed.getD i false)) (BR (by rw[Ma.mJ];exact aK)),_,rfl,G]) (λbx=>?_) (λbx=>?_)]
  .rw[bx] at F
   have cV:(r.map V.ref).length=k9 (Ma.keep e) i:=by rw[ag,cR,cT]
   have dp:=Oa e i;refine#[.inl (I.of bs),Rd,_,rfl,hy.k (k:=eI (i:Int)) b2 (small (by omega)),?_];rw[cV,Ob F];have n:Same z (upd g Rd (.dK (eF e (i+1)))):=m.put cG;have b4:upd g Rd (.dK (eF e (i+1))) q=some (.lst (r.map V.ref)):=by rw[aa a5];exact bs
   have bz:upd g Rd (.dK (eF e (i+1))) Rd=some (.dK (eF e (i+1))):=Y;have W:mM c (less (upd g Rd (.dK (eF e (i+1)))) [q,Rd]) r (Ma.hf e i):=by rw[eT (by simp)];exact b3
   generalize upd g Rd (.dK (eF e (i+1)))=aN at*;refine#[n _ _ C,b.Q7,b.Re,I.of (n _ _ b1),λb6 O=>?_];have dr:(Ma.ways t).length<=4:=Ma.Nw (x.part i t f);refine eW (K:=K) (a:=cN) (xs:=L (Ma.ways t)) (λj X=>Same aN X/\X b6=some (.lst (L (((Ma.ways t).map (k9 (Ma.keep e))).take j)))) #[.upd O,Y] (λj X _ ⟨u,_⟩=>I.of (u _ _ (n _ _ b1))) ?_ ?_
   .rintro j bZ X U ⟨u,aV⟩
    obtain⟨bA,b7,rfl⟩:=bt U;have ca:=a7 b7;have ds:=(x.part i t f).below bA ca;have Z:=ew.k (k:=eI ((bA:Nat):Int)) (u _ _ bz);rw[BU (by omega) (Ma.Bl x f F ca)] at Z;have bD:((Ma.ways t).map (k9 (Ma.keep e)))[j]? =some (k9 (Ma.keep e) bA):=by rw[a6,b7];rfl
    refine#[rfl,c3 #[Rd,_,rfl,Z,_,aV,?_,u.put O,?_]]
    .rw[aF,ck,ag]
     exact small (by omega)
    .rw[Y,d9,cp bD]
   rintro X ⟨u,aV⟩;rw[aF,fD (by rw[ag];exact av _),<-Ma.Bk] at aV;have Q:=n.trans u;have bF:=u _ _ b4;refine#[.inl #[rfl,_,I.of bF],Q _ _ C,b.Q7,b.Q8,Q _ _ C,b.Q7,b.Ru,Q _ _ C,b.Q7,b.Rg,Q _ _ C,b.Q7,b.RG,Q _ _ C,b.Q7,b.R4,λab ad p ai cc=>?_];refine made rfl p ai (λdt am cW=>?_);have cX:=am _ _ bF;have cd:=u _ _ bz;refine#[cX,?_,r++[ab],_,_,_,_,rfl,(Q.trans am).put bW,?_,?_,?_]
   .rw[ag]
    exact small (by omega)
   .rw[Y,br]
    rfl
   .rw[aa a5.symm]
    exact am _ _ cd
   .rw[eT (by simp),Ma.BG f F,if_pos rfl]
    refine rJ W.1 (W.same (gE (u.trans am))).2 #[ad,b6,cJ ?_ ?_,cJ (am _ _ aV) ?_]
    .rw[cW,N_]
     rfl
    .simp only[bw,gz,or_false,not_or]
     exact#[(λs=>by rw[s,bF] at p;cases p),(λs=>by rw[s,cd] at p;cases p)]
    .simp only[bw,gz,or_false,not_or]
     exact#[(λs=>by rw[s,b4] at O;cases O),(λs=>by rw[s,bz] at O;cases O)]
  .rw[bx] at F
   exact#[r,_,_,_,_,rfl,m,bs,by rw[Oc F];exact b2,by rw[Ma.BG f F,if_neg (by exact eN),eH];exact b3]
 .rintro au o ⟨r,bb,be,bf,bk,rfl,A,bm,aD,PA⟩
  rw[ag,bT] at aD PA;rw[Ma.Nq] at PA;have cY:=PA.same (f_ _ _);have dw:=x.nh;refine#[A _ _ y.obj,b.Q5,b.Q4,I.of (A _ _ y.Q9.lst),λbG ce=>?_];refine eW (K:=K) (a:=hl) (xs:=cA.map V.ref) (λi g=>Same o g/\ ∃R,g bG=some (.lst (R.map V.ref))/\rH c (less g [bG]) R (e.bare.hoppers.take i)) #[.upd ce,[],Y,rfl,λi a t D _=>by simp at D] (λi g _ ⟨m,_⟩=>I.of (m _ _ (A _ _ y.Q9.lst))) ?_ ?_
  .rintro i bZ g U ⟨m,R,H,S⟩
   obtain⟨c1,cf,rfl⟩:=bt U;obtain⟨f,aY⟩:=c7 T.Q9.len cf;obtain⟨dx,cg⟩:=y.Q9.at_ i c1 f cf aY;have aK:i<e.hoppers.length:=(aC.mp aY).1;have c5:e.entry i=f.2:=by simp[ky,aY]
   have ch:=Ma.ej x aK;have ci:=Ma.Bm x aK;rw[c5] at ch ci;have cj:=A.trans m;have Z:=ew.k (k:=eI ((f.2:Nat):Int)) (m _ _ aD);rw[BU ch ci] at Z;have bD:e.bare.hoppers[i]? =some (f.1,k9 (Ma.keep e) f.2):=by
    show(e.hoppers.map λ(G:bo×Nat)=>(G.1,k9 (Ma.keep e) G.2))[i]? =_;rw[a6,aY];rfl
   have c6:=S.1;rw[ck] at c6;refine#[rfl,c3 #[cj _ _ cg,b.RB,b.R6,cj _ _ cg,b.RB,b.Rm,Rd,_,rfl,Z,λab ad p ai cc=>?_]];refine made rfl p ai (λaN n bI=>#[_,n _ _ H,?_,(m.trans n).put ce,R++[ab],?_,?_])
   .rw[ag]
    exact small (by omega)
   .rw[Y,br]
    rfl
   .rw[eT (by simp),cp bD]
    refine rJ S.1 (S.same (gE n)).2 #[ad,cJ (by rw[bI];rfl) λc8=>?_];rw[cb.mp c8,H] at p;cases p
  rintro g ⟨m,R,H,S⟩;rw[ag,T.Q9.len,fD (by show(e.hoppers.map _).length<=_;rw[ag];exact av _)] at S;have c_:=S.same (f_ _ _);refine(λab ad p ai cc=>?_);refine made rfl p ai (λaN n bI=>?_);have bL:=m.trans n;have W:=cY.same bL;have cl:=c_.same n;exact ct aN ab ((bU.trans A).trans bL) #[ad,q,bG,r,R,bI,#[bL _ _ bm,W.1,W.2],#[n _ _ H,cl.1,cl.2],Ma.vt x]
def mO(b:ay):b0:=cO b false λa=>.ok ((nb a.bare.text).length::nb a.bare.text)
theorem Og(a:ay):eb (.bare a)=some (cW (mO a)):=by
 unfold mO;rw[hS λb _=>rfl];rfl
theorem Oh{a:bX}{b:Nat}(e:a.isTray=false)(c:B):pf (a.told b) c=([("kind",.str (fp a)),("name",.str (nm a.name)),("ways",.ref c),("turn",.int (eB a)),("first",.int b),("told",.bl true)]:List (Str×V)):=by
 cases a with
 |tray d=>cases e
 |wheel d g f=>rfl
 |gate d i j f=>rfl
theorem Oi(a:bX)(b:Nat):Ma.ways (a.told b)=Ma.ways a:=by cases a<;>rfl
theorem Oj(a:Tx K d c):ao P w K d base 10 "print_bare" ["numbers","rows"] (iN c mO):=by
 refine bL a.T3 ["numbers","rows"] λH J L N O nd e=>?_;obtain⟨nm,rs,k,l,rfl,m,n,o⟩:=e;obtain⟨p,f⟩:=o.board;refine#[_,ae (ax (aH (iK a) (af (aH (uI a) (af (aH (Of a) (af (bz (gF a) (af (aI (E 1) ai)))))))))),?_];refine#[I.of m,aw rfl,k,l,rfl,n,p,λe=>#[λb g Q q r hB=>?_,(f e).1]];have s:Ma.Wf b:=by obtain⟨_,_,_,_,_,t⟩:=hB;exact t.wf
 have i:=Ma.Bo (Ma.ms g);refine#[q,b,rfl,hB,λR u v x=>#[u,b.bare,rfl,x,i,λS y z _ hl=>#[y,nb b.bare.text,rfl,hl,by rw[iJ];exact bB (rq (Ma.vt s) i) (by decide),λA C D F G=>?_]]];have j:=(r.trans v).trans z;exact(f e).2 b g A C (j.trans D) (j.free F) G
inductive Ol(c:Cs)(j:List V)(b:G)(k:VK)(l:XK):Prop
 |mk(f g:B)(a:db)(m:j=[.ref f,.ref g])(n:bM c b f a.board)(o:b g=some (.lst (L a.run.nums)))(p:Ma.fw a)(q:∀(e:G)(i:B),Same b e->bM c e i a.told->k (.ref i) e)
theorem Om(a:Tx K d c):ao P w K d base 3 "with_numbers_told" ["board","numbers"] (Ol c):=by
 refine bS a.SG ["board","numbers","parts","part","number"] λt bx bz bA bC nd aB=>?_;obtain⟨aD,Z,u,rfl,⟨bD,aH,hl,bF,aI,e⟩,aa,G,aJ⟩:=aB;have aK:=e.wf;have H:=e.parts.len;have bG:=aK.np;have aM:=G.run.nums.1;refine#[_,J (al 2 (a3 er))
  (J (b_ cv rfl (jh rfl a.SS (aL (ah 0) (E 1))) (h8 rfl (c0 (aO 3) (c0 (aO 4) gj)))
   (ae (ba (aZ dO (ah 3) aT (aW _))
    (ae (aG (cM cI dU ea dS (E 2) (af (E 3)))))
    (ae (aG (cM cI dU ea dS (E 2) (af (dq (n9 a) (dg (ah 3) (dg (ah 3) (eZ (ah 3) (ah 3) (E 4) le)))))))))))
  (ae (ax (dq (tS a) (aL (E 2) (ah 0)))))),?_]
 refine#[aR _,λl v=>?_];have x:Same t (upd t l (.lst [])):=.upd v;refine#[x _ _ e.obj,a.Q5,a.Q3,aH,Z,_,_,rfl,I.of (x _ _ e.parts.lst),I.of (x _ _ aa),?_];refine ol (λi y b=>∃(f:List B)(L N:Option V),y=[some (.ref aD),some (.ref Z),some (.ref l),L,N]/\Same t b/\b l=some (.lst (f.map V.ref))/\mM c (less b [l]) f (u.told.parts.take i)) ?_
  #[[],none,none,rfl,x,Y,rfl,λi bI m D _=>by simp at D] (λi y b _ ⟨_,_,_,_,ab,_⟩=>#[I.of (ab _ _ e.parts.lst),I.of (ab _ _ aa)]) ?_ ?_
 .rw[ag,aF,H,aM]
 .rintro i j z p y b aN k aV ⟨f,L,N,rfl,A,O,PA⟩
  obtain⟨n,ad,rfl⟩:=bt aN;obtain⟨o,aY,rfl⟩:=bt k;obtain⟨m,Q⟩:=c7 H ad;have ai:=e.parts.at_ i n m ad Q;obtain⟨bL,a0,q,a1⟩:=id ai;have bM:=(aC.mp Q).1;have R:u.told.parts[i]? =some (m.told o):=by
   show((u.board.parts.zip u.run.nums).map λ(j:bX×Nat)=>j.1.told j.2)[i]? =_;rw[a6,rC Q aY];rfl
  have S:Same b (upd b p (.tup [.ref n,.int o])):=.upd aV;have a5:upd b p (.tup [.ref n,.int o]) p=some (.tup [.ref n,.int o]):=Y;generalize upd b p (.tup [.ref n,.int o])=a9 at*;have g:=A.trans S;have r:=S _ _ O;have C:=PA.same (gE S);have bb:=PA.1;rw[ck] at bb;have am:(f.map V.ref).length<aq:=by rw[ag];exact small (by omega)
  refine#[p,_,rfl,a8.of a5,rfl,_,_,rfl,_,_,rfl,rfl,?_];refine#[g _ _ q,a.Q7,a.Q8,rfl,_,rfl,?_];have as:Same t (less a9 [l]):=λbd be s=>cJ (g bd be s) λz=>by rw[cb.mp z,v] at s;cases s
  refine Ny (λT=>?_) (λT=>?_)
  .have s:m.told o=m:=by cases m<;>first|rfl|cases T
   rw[s] at R;refine#[.inl #[rfl,_,I.of r],r,am,f++[n],_,_,rfl,g.put v,by rw[Y,br];rfl,?_];rw[eT (by simp),cp R];exact rJ C.1 C.2 (ai.same as)
  .refine#[.inl #[rfl,_,I.of r],g _ _ q,a.Q7,a.Q8,g _ _ q,a.Q7,a.Ru,g _ _ q,a.Q7,a.Re,g _ _ q,a.Q7,a.Rg,λj U k W bf=>?_]
   refine made rfl k W (λbP F bi=>#[F _ _ r,am,f++[j],_,_,rfl,(g.trans F).put v,by rw[Y,br];rfl,?_]);rw[eT (by simp),cp R];refine rJ C.1 (C.same (gE F)).2 #[U,a0,cJ (by rw[bi,Oh T];rfl) λz=>?_,?_]
   .rw[cb.mp z,r] at k
    cases k
   .rw[Oi]
    exact gE F _ _ (as _ _ a1)
 .rintro y b ⟨f,L,N,rfl,A,O,PA⟩
  rw[ag,H,<-Ma.vz G,dY] at PA;have bk:=PA.same (f_ _ _);refine#[A _ _ e.obj,a.Q5,a.Q4,λj U k W bf=>?_];refine made rfl k W (λbl X bm=>?_);have au:=A.trans X;have aw:=bk.same X;have bs:=e.same au;exact aJ bl j au #[U,l,hl,f,aI,bm,#[X _ _ O,aw.1,aw.2],bs.Q9,Ma.vA G]
def iU(c:Cs)(d:G):V->Option db->Prop
 |a,none=>a=.non
 |a,some e=>∃b,a=.ref b/\d3 c d b e
theorem iU.same{c:Cs}{a b:G}{d:V}:∀{e:Option db},iU c a d e->Same a b->iU c b d e
 |none,f,_=>f
 |some _,⟨g,i,j⟩,k=>#[g,i,j.same k]
theorem iU.R9{c:Cs}{a b:G}{d:V}:∀{e:Option db},iU c a d e->k8 a b->iU c b d e
 |none,f,_=>f
 |some _,⟨g,i,j⟩,k=>#[g,i,j.R9 k]
def oX(c:Cs)(g:G)(a:List V)(b:List (Option db)):Prop:=a.length=b.length/\ ∀(d:Nat)(e:V)(f:Option db),a[d]? =some e->b[d]? =some f->iU c g e f
structure rK(c:Cs)(a:G)(g i d:B)(e:V)(f:List V)(b:cy):Prop where
 obj:a g=some (.ins c.Bench i (gK e d))
 lst:a d=some (.lst f.reverse)
 now:iU c a e b.now
 past:oX c a f b.past
 most:b.past.length<=32
def cX(c:Cs)(a:G)(b:B)(d:cy):Prop:=∃e f g i,rK c a b e f g i d
theorem rK.same{c:Cs}{e f:G}{g i j:B}{b:V}{k:List V}{l:cy}(a:rK c e g i j b k l)(d:Same e f):rK c f g i j b k l:=
 #[d _ _ a.obj,d _ _ a.lst,a.now.same d,#[a.past.1,λm b n D o=>(a.past.2 m b n D o).same d],a.most]
theorem cX.same{c:Cs}{a b:G}{d:B}{e:cy}(f:cX c a d e)(g:Same a b):cX c b d e:=let⟨i,j,k,l,m⟩:=f;#[i,j,k,l,m.same g]
structure dw(b c:G):Prop where
 li:∀a(d:List Int),b a=some (.lst (d.map V.int))->c a=some (.lst (d.map V.int))
 R3:∀a e f,b a=some (.R3 e f)->c a=some (.R3 e f)
theorem dw.of{b c:G}(d:Same b c):dw b c:=#[λe f a=>d _ _ a,λe g i a=>d _ _ a]
theorem dw.Wn{a b:G}(f:k8 a b)(g:∀c d e,a c=some (.R3 d e)->b c=some (.R3 d e)):dw a b:=#[λc j i=>f _ _ i NZ,g]
theorem dw.trans{c d e:G}(f:dw c d)(g:dw d e):dw c e:=#[λa i b=>g.li a i (f.li a i b),λa j k b=>g.R3 a j k (f.R3 a j k b)]
theorem On{a:List V}:cR a (some (-32)) none=a.drop (a.length-32):=by
 unfold cR;have b:HT.et a.length 0 (some (-32))=a.length-32:=by
  show(if(-32:Int)<0 then((-32:Int)+(a.length:Int)).toNat else min (-32:Int).toNat a.length)=_;rw[if_pos (by decide)];omega
 rw[b];rw[fD (by rw[eK];exact av _)]
theorem Oo{a:V}{b:List V}:(b.reverse++[a]).drop ((b.reverse++[a]).length-32)=((a::b).take 32).reverse:=by
 rw[<-BD,vV,List.reverse_take]
theorem oX.cons{c:Cs}{b:G}{e:V}{f:List V}{g:Option db}{i:List (Option db)}(l:iU c b e g)(j:oX c b f i)(k:Nat):oX c b ((e::f).take k) ((g::i).take k):=by
 refine#[by rw[ck,ck,bV,bV,j.1],λd m n D a=>?_];rw[List.getElem?_take] at D a;split at D
 .rename_i o
  rw[if_pos o] at a;cases d with
  |zero=>cases D;cases a;exact l
  |succ d=>exact j.2 d m n D a
 .cases D
inductive BV(c:Cs)(k:List V)(f:G)(l:VK)(m:XK):Prop
 |mk(a g:B)(n:k=[.ref a])(o:f a=some (.ins c.Bench g []))(p:∀(b:G)(i:B),b a=some (.ins c.Bench g (gK .non i))->b i=some (.lst [])->(∀e j,f e=some j->e≠a->b e=some j)->l .non b)
theorem Op(a:Tx K d c):d8 P w K d base 1 c.Bench "Bench" ["self"] (BV c):=by
 refine kv a.Vx a.Vs ["self"] λm s t u v nd n=>?_;obtain⟨b,e,rfl,o,p⟩:=n;refine#[_,J (cj (E 0) lf rfl) (ae (cj (E 0) (a3 er) rfl)),?_];refine#[b,c.Bench,e,_,rfl,o,a.Rh,a.RO,(by show 0<1000;decide),?_];rw[cH rfl (by decide+kernel)];refine#[aR _,λi f=>?_];have j:b≠i:=λg=>by rw[<-g,Y] at f;cases f
 refine#[b,c.Bench,e,_,rfl,by rw[aa j,Y],a.Rh,a.Rx,(by show 1<1000;decide),?_];rw[cH rfl (by decide+kernel)];refine p _ i (by rw[Y];rfl) (by rw[aa j.symm,Y]) (λq r g k=>?_);have l:upd m b (.ins c.Bench e (([]:List (Str×V))++[(("run":Str),V.non)])) q=some r:=by rw[aa k];exact g
 rw[aa k,aa (aK l f)];exact l
inductive Oq(c:Cs)(i:List V)(a:G)(j:VK)(k:XK):Prop
 |mk(e:B)(b:cy)(l:i=[.ref e])(m:cX c a e b)(n:(∀f g,b.now=some f->d3 c a g f->j (.ref g) a))(o:(b.now=none->k (.ref c.Rf) none a))
theorem k_(a:Tx K d c):bW P w K d base 1 c.Bench "laid_run" ["self"] (Oq c):=by
 refine fj a.SR ["self"] λp g q r s nd i=>?_;obtain⟨t,j,rfl,⟨u,v,x,g,f⟩,k,l⟩:=i;refine#[_,J (ba (lj (wt (ah 0))) (ae (eY d7 rfl rfl rfl a.SI a.Rk a.Tu)) bC) (ae (ax (ah 0))),?_];have b:=f.now;refine#[f.obj,a.Rh,a.RO,_,rfl,?_];cases e:j.now with
 |none=>
  rw[e] at b;have m:=b;rw[m];exact dm (l e)
 |some n=>
  rw[e] at b;obtain⟨o,rfl,hR⟩:=b;exact dk #[f.obj,a.Rh,a.RO,k n o e hR]
inductive Ot(c:Cs)(j:List V)(b:G)(k:VK)(l:XK):Prop
 |mk(e f:B)(i:cy)(g:db)(m:j=[.ref e,.ref f])(n:cX c b e i)(o:d3 c b f g)(p:∀a:G,dw b a->d3 c a f g->cX c a e (i.done_ g)->k .non a)
theorem rL(b:Tx K d c):bW P w K d base 1 c.Bench "put" ["self","run"] (Ot c):=by
 refine yy b.Tw ["self","run"] λq f X Z ab nd j=>?_;obtain⟨k,l,x,ad,rfl,⟨m,y,a,f,g⟩,hR,G⟩:=j;refine#[_,J (cj (E 0) (ie ik (aM f0 (ah 0) (a3 (af (ah 0)))) (fZ (e9 e_ (bR rfl b.Uz))) nL) rfl) (ae (cj (E 0) (E 1) rfl)),?_];have ai:=g.past.1;have al:=g.most;refine#[g.obj,b.Rh,b.Rx,g.obj,b.Rh,b.RO,(show 1<=aq by decide),λr H=>?_];have z:Same q (upd q r (.lst [a])):=.upd H;refine#[y,r,_,_,rfl,rfl,z _ _ g.lst,Y,?_,λs L=>?_]
 .rw[vV]
  exact dc (small (by show _+1<=_;omega))
 have A:=z.trans (.upd (o:=HO.lst (f.reverse++[a])) L);refine#[_,rfl,s,_,rfl,I.of Y,λe C=>?_];have i:=A.trans (.upd (o:=HO.lst (cR (f.reverse++[a]) (some (-32)) none)) C);have N:(upd (upd (upd q r (.lst [a])) s (.lst (f.reverse++[a]))) e (.lst (cR (f.reverse++[a]) (some (-32)) none))) e=some (.lst ((a::f).take 32).reverse):=by rw[Y,On,Oo]
 have O:=A.free C;generalize upd (upd (upd q r (.lst [a])) s (.lst (f.reverse++[a]))) e (.lst (cR (f.reverse++[a]) (some (-32)) none))=F at*;have nb:=aK g.obj O;refine#[k,c.Bench,m,_,rfl,i _ _ g.obj,b.Rh,b.Rx,(by show 2<1000;decide),?_];have Q:df "earlier" (V.ref e) (gK a y)=gK a e:=rfl;rw[Q];refine#[k,c.Bench,m,_,rfl,Y,b.Rh,b.RO,(by show 2<1000;decide),?_];have R:df "run" (V.ref l) (gK a e)=gK (.ref l) e:=rfl;rw[R];have t:=i _ _ g.obj;have n:k8 F (upd (upd F k (.ins c.Bench m (gK a e))) k (.ins c.Bench m (gK (.ref l) e))):=λp o u S=>by
  have nz:p≠k:=λT=>by rw[T,t] at u;cases u;exact S #[_,_,rfl]
  rw[aa nz,aa nz];exact u
 have v:=g.same i;refine G _ ((dw.of i).trans (dw.Wn n λam o ao j=>by rw[aa (dL j t (by intro p;cases p)),aa (dL j t (by intro p;cases p))];exact j)) ((hR.same i).R9 n) #[m,e,.ref l,(a::f).take 32,Y,?_,#[l,rfl,(hR.same i).R9 n],oX.cons (v.now.R9 n) #[v.past.1,λU a o D W=>(v.past.2 U a o D W).R9 n] 32,?_]
 .rw[aa nb.symm,aa nb.symm]
  exact N
 .show((x.now::x.past).take 32).length<=32
  rw[ck];exact Nt _ _
inductive Ou(c:Cs)(j:List V)(a:G)(k:VK)(l:XK):Prop
 |mk(b:B)(e:cy)(m:j=[.ref b])(n:cX c a b e)(o:(∀g i,e.past=g::i-> ∀f:G,dw a f->cX c f b #[g,i]->k .non f))(p:(e.past=[]->l (.ref c.Rs) none a))
theorem Ov(e:Tx K d c):bW P w K d base 1 c.Bench "take_back" ["self"] (Ou c):=by
 refine fj e.SF ["self"] λu v ax aB aD nd f=>?_;obtain⟨x,L,rfl,⟨l,m,U,v,a⟩,W,X⟩:=f;refine#[_,J (ba (aZ dO (a1 bd rfl e.Q_ bg (af (ah 0))) ai (aW _)) (ae (eY d7 rfl rfl rfl e.RD e.Rq e.RA)) bC)
  (ae (cj (E 0) (xz cI xI Jg xH (ah 0)) rfl)),?_]
 have p:=a.past.1;refine#[a.obj,e.Rh,e.Rx,.inl (I.of a.lst),rfl,_,rfl,?_];refine BJ (λf=>?_) (λf=>?_)
 .rw[vV,p] at f
  exact X (Bi.mp f)
 .rw[vV] at f
  obtain⟨b,g,rfl⟩:∃b g,v=b::g:=by
   cases v with
   |nil=>exact absurd rfl f
   |cons b g=>exact#[b,g,rfl]
  obtain⟨q,i,n⟩:∃q i,L.past=q::i:=by
   cases n:L.past with
   |nil=>rw[n] at p;cases p
   |cons q i=>exact#[q,i,rfl]
  have Z:=a.past.2 0 b q rfl (by rw[n];rfl);have N:(b::g).reverse=g.reverse++[b]:=BD ..;refine#[a.obj,e.Rh,e.Rx,.inl #[rfl,_,I.of a.lst],m,_,b,rfl,rfl,a.lst,?_,?_]
  .rw[N,bq,lF,Nat.add_sub_cancel,dB (av _),ez]
   rfl
  rw[N,List.dropLast_concat];have O:=dL a.obj a.lst (by intro k;cases k);have Q:=a.lst;have y:k8 u (upd (upd u m (.lst g.reverse)) x (.ins c.Bench l (gK b m))):=λk r s z=>by
   have nz:k≠x:=λt=>by rw[t,a.obj] at s;cases s;exact z #[_,_,rfl]
   have ab:k≠m:=λt=>by
    rw[t,Q] at s;cases s;have ad:∀o j,(b::g)[o]? =some j->j=V.non\/ ∃i al l A C F G cm dr,j=V.ref i/\u i=some (.ins al l (vP A C F G cm dr)):=λo j R=>by
     obtain⟨r,am⟩:=c7 p R;have:=a.past.2 o j r R am;cases r with
     |none=>exact .inl this
     |some aF=>
      obtain⟨S,t,l,A,C,F,G,cm,dr,ao⟩:=this;exact .inr #[S,_,l,A,C,F,G,cm,dr,t,ao.obj]
    cases H:(b::g).reverse with
    |nil=>simp at H
    |cons j aG=>
     rw[H] at z;have:=List.mem_reverse.mp (by rw[H];exact a4 ..);obtain⟨o,as⟩:=mo this;exact z (ad o j as)
   rw[aa nz,aa ab];exact s
  refine#[x,c.Bench,l,_,rfl,by rw[aa O];exact a.obj,e.Rh,e.RO,(by show 2<1000;decide),?_];have au:df "run" b (gK U m)=gK b m:=rfl;rw[au];have T:=a.most;rw[n] at T;refine W q i n _ (dw.Wn y λS r b f=>by rw[aa (dL f a.obj (by intro k;cases k)),aa (dL f Q (by intro k;cases k))];exact f) #[l,m,b,g,Y,?_,Z.R9 y,#[?_,λo j r D aw=>?_],?_]
  .rw[aa O.symm,Y]
  .rw[n] at p
   simpa using p
  .exact(a.past.2 (o+1) j r D (by rw[n];exact aw)).R9 y
  .show i.length<=32
   rw[bV] at T;omega
def dy:List Nat:=[1,2,4,5,6,7,8,9]
def rM(a:G)(b:B):Prop:=∀c:List Int,a b≠some (.lst (c.map V.int))
theorem rM.of{b c:G}{a:B}(e:dw b c)(d:c a=none):rM b a:=λf g=>by rw[e.li a f g] at d;cases d
structure fP(c:Cs)(f:B)(i:VK)(j:XK)(d:G)(b:cy×gG):Prop where
 no:∀g∈dy,b.2=c9 g-> ∀a,dw d a->cX c a f b.1->j (.ref (kZ c g)) none a
 yes:∀(a:G)(e:B),dw d a->rM d e->cX c a f b.1->a e=some (.lst (b.2.map V.int))->i (.ref e) a
def Ow(b:G)(rs:B)(a:List B)(c:List (List Nat)):Prop:=b rs=some (.lst (a.map V.ref))/\a.length=c.length/\ ∀(d:Nat)(e:B)(f:List Nat),a[d]? =some e->c[d]? =some f->b e=some (.lst (L f))
inductive cr(c:Cs)(ok:List Nat->List (List Nat)->gd->Prop)(i:List V)(a:G)(j:VK)(k:XK):Prop
 |mk(b nm rs:B)(e:cy)(f:List Nat)(l:List B)(g:List (List Nat))(cl:gd)(m:i=[.ref b,.ref nm,.ref rs])(n:cX c a b e)(o:Ma.e4 e)(p:a nm=some (.lst (L f)))(q:Ow a rs l g)(r:ok f g cl)(s:fP c b j k a (eU e cl))
theorem cr.len{c:Cs}{ok:List Nat->List (List Nat)->gd->Prop}:∀a b d e,cr c ok a b d e->a.length=3:=by
 rintro a b d e ⟨f,nm,rs,g,i,j,k,cl,rfl,_⟩;rfl
theorem fP.one{c:Cs}{e:B}{f:VK}{k:XK}{g a:G}{b:cy×gG}{i:Int}(l:fP c e f k g b)(m:b.2=[i])(j:dw g a)(n:cX c a e b.1):sD f [.int i] a:=
 #[(show 1<=aq by decide),λo d=>l.yes _ o (j.trans (.of (.upd d))) (.of j d) (n.same (.upd d)) (by rw[Y,m];rfl)]
theorem Ox{a:cy}{b:ay}:eU a (.lay b)=if mz b=true then(a,c9 1) else(match bQ b with
   | .error _=>(a,c9 2)
   | .ok c=>(a.done_ (vQ c),iM 0)):=rfl
theorem Oy{t a:TS}{b:c5}{c:L2.St}{d:G}(e:Prop)(f:e->a b c d)(D:(e->a b c d)->j3 t a b c d):j3 t a b c d:=D f
theorem Oz(g:Tx K d c):ao P w K d base 10 "lay" ["bench","numbers","rows"] (cr c λ_ m cl=>∃a,m=[nb a]/\cl=.lay a):=by
 refine bL g.Wb ["bench","numbers","rows"] (λG r H L s nd e=>?_) cr.len;obtain⟨t,nm,rs,u,N,n,m,cl,rfl,hB,O,Q,j,⟨a,rfl,rfl⟩,b⟩:=e;obtain⟨f,rfl⟩:∃f,n=[f]:=by
  match n,j.2.1 with
  |[f],_=>exact#[f,rfl]
 have v:=j.2.2 0 f (nb a) rfl rfl;refine#[_,J (aG (b6 (E 0) g.Rh (rL g) (s.mono (by decide)) eh (af (aH (NL g) (af (bz (gF g) (af (aI (E 2) ai))))))))
  (ae (ax (a3 (af ai)))),?_]
 obtain⟨R,S,T,r,x⟩:=id hB;rw[Ox] at b;refine#[x.obj,rfl,I.of j.1,aw rfl,f,a,rfl,v,λe k i=>?_,λe=>#[λy o U z p hA=>?_,λV A k i=>?_]]
 .rw[if_pos (show mz a=true from decide_eq_true e)] at b
  exact b.no 1 (by decide) rfl k (.of i) (hB.same i)
 .rw[if_neg (show¬mz a=true from λl=>absurd (of_decide_eq_true l) (OA.mpr e)),o] at b
  refine#[z,y,rfl,hA,Ma.ms o,λW C q hR=>?_];refine#[t,C,u,_,rfl,hB.same (p.trans q),hR,λX D _ F=>?_];exact b.one rfl ((dw.of (p.trans q)).trans D) F
 .rw[if_neg (show¬mz a=true from λl=>absurd (of_decide_eq_true l) (OA.mpr e)),A] at b
  exact b.no 2 (by decide) rfl k (.of i) (hB.same i)
theorem OB(e:Tx K d c):ao P w K d base 2 "back" ["bench","numbers","rows"] (cr c λ_ _ cl=>cl=.back):=by
 refine bL e.VX ["bench","numbers","rows"] (λj k s t l nd m=>?_) cr.len;obtain⟨n,nm,rs,b,u,v,x,cl,rfl,hB,y,z,A,rfl,a⟩:=m;refine#[_,J (aG (dn (E 0) e.Rh (Ov e) l bv)) (ae (ax (a3 (af ai)))),?_];obtain⟨C,D,F,k,o⟩:=id hB;have p:eU b .back=match b.past with
   |g::i=>(#[g,i],iM 0)
   |[]=>(b,c9 4):=rfl
 rw[p] at a;refine#[o.obj,rfl,n,b,rfl,hB,λg i f G q r=>?_,λf=>?_]
 .rw[f] at a
  exact a.one rfl q r
 .rw[f] at a
  exact a.no 4 (by decide) rfl j (.of (Same.refl _)) hB
theorem fQ{a:cy}{cl:gd}{e:B}{j:VK}{f:XK}{b:G}(k:eU a cl=match a.now with|some l=>gM a l cl|none=>(a,c9 8))(hB:cX c b e a)(d:fP c e j f b (eU a cl)):(∀g,a.now=some g->fP c e j f b (gM a g cl))/\(a.now=none->f (.ref c.Rf) none b):=by
 rw[k] at d;refine#[λg i=>?_,λi=>?_]
 .rw[i] at d
  exact d
 .rw[i] at d
  exact d.no 8 (by decide) rfl b (.of (Same.refl _)) hB
theorem BW{d:List Nat}:(d.any λ(a:Nat)=>a !=0)=true↔¬ ∀a∈d,a=0:=by
 rw[hT];constructor
 .rintro⟨a,b,e⟩ c
  rw[c a b] at e;cases e
 .intro c
  refine kU λf=>c λa b=>kU λw=>f #[a,b,?_];simpa using w
theorem OC(a:Tx K d c):ao P w K d base 4 "put_lift" ["bench","numbers","rows"] (cr c λr _ cl=>∃f g,r=[f,g]/\cl=.lift f g):=by
 refine bL a.UI ["bench","numbers","rows","run","tray","lift"] (λo D au F s nd g=>?_) cr.len;obtain⟨u,nm,rs,k,r,aB,aD,cl,rfl,hB,G,v,aF,⟨f,g,rfl,rfl⟩,i⟩:=g;refine#[_,J (al 3 (dn (E 0) a.Rh (k_ a) (s.mono (by decide)) bv))
  (J (al 4 (aI (E 1) ai))
  (J (al 5 (aI (E 1) ai))
  (J (aG (bz (AX a) (aL (ah 3) (E 4))))
  (J (ba (aZ fV (E 5) (bR rfl a.Sa) (aW _)) (ae (aG (bz (kY a) (aL (E 5) (a1 bd rfl a.Q_ bg (af (fX (ah 3) rfl))))))) bC)
  (J (ba (aZ fW (a1 (xM rfl) rfl a.VF NU (af (ah 3))) ai (aW _)) (ae (eY d7 rfl rfl rfl a.TU a.Ry a.UK)) bC)
  (J (aG (b6 (E 0) a.Rh (rL a) (s.mono (by decide)) eh (af (aH (NQ a) (bD (E 3) (E 4) (E 5))))))
  (ae (ax (a3 (af ai)))))))))),?_]
 obtain⟨aJ,aK,aM,D,x⟩:=id hB;refine#[x.obj,rfl,u,k,rfl,hB,λb H y hR=>?_,(fQ rfl hB i).2];replace i:=(fQ rfl hB i).1 b y;obtain⟨dr,N,aN,aO,aT,cm,dd,j⟩:=id hR;obtain⟨aV,aY,hl,a0,a5,p⟩:=id j.board;have ok:=Ma.vC G y (.lift f g);have O:gM k b (.lift f g)=if b.board.isTray f=false\/b.board.mayLift f g=false then(k,c9 4) else if(b.all.any λl=>l !=0)=true then(k,c9 9) else(k.done_ {b with lifts:=b.lifts.set f (iS g)},iM 0):=rfl
 rw[O] at i ok;have z:b.board.isTray f=false\/b.board.mayLift f g=false->F (.ref c.Rs) none o:=λe=>by
  rw[if_pos e] at i;exact i.no 4 (by decide) rfl o (.of (Same.refl _)) hB
 refine#[I.of v,aw rfl,I.of v,aw rfl,?_];refine#[j.obj,a.Rc,a.Rn,N,b.board,f,rfl,j.board,λm=>?_,λm=>z (.inl m)];have a8:=j.ok.wf.nh;dsimp only;refine Oy (t:=ww _ _ _) (b.board.mayLift f g=true) (λQ=>?_) (λA=>?_)
 .have R:L b.all=(b.all.map λ(l:Nat)=>(l:Int)).map V.int:=by unfold L;rw[dG];rfl
  rw[if_neg (by intro e;rcases e with e|e;rw[m] at e;cases e;rw[Q] at e;cases e)] at i ok;refine#[j.obj,a.Rc,a.Ri,dd,_,rfl,by rw[<-R];exact I.of j.drop,by rw[ag,j.ok.all];omega,λbb S T=>?_];obtain⟨l,U,rfl⟩:=bK.mp S;refine#[_,rfl,a9 (λh0=>?_) (λh0=>?_)]
  .have h0:=of_decide_eq_true h0
   rw[if_pos (BW.mpr λe=>by have:=e l U;omega)] at i;exact i.no 9 (by decide) rfl o (.of (Same.refl _)) hB
  .have h0:¬(0:Int)<(l:Nat):=λe=>h0 (decide_eq_true e)
   have W:∀n∈b.all,n=0:=λn X=>by
    have:=T n (bK.mpr #[n,X,rfl]);omega
   rw[if_neg (λe=>BW.mp e W)] at i ok;obtain⟨be,Y⟩:=Ma.vx m;have Z:=(aC.mp Y).1;refine#[x.obj,rfl,H,b,f,g,rfl,hR,by rw[j.ok.lifts.len];exact Z,ok.now _ rfl,λbf aa C ab=>?_];exact#[u,aa,k,_,rfl,hB.same C,ab,λbi ad _ am=>i.one rfl ((dw.of C).trans ad) am]
 .refine#[rfl,_,rfl,?_]
  refine rB (λq=>?_) (λq=>A (by unfold jN k7;rw[q];rfl));refine#[j.obj,a.Rc,a.Rn,p.obj,a.Q5,a.Q4,.inl (I.of p.Q9.lst),g,b.board.hoppers.length,by rw[ag,p.Q9.len];rfl,λas=>A ?_,λbk=>z (.inr ?_)]
  .unfold jN
   rw[m,decide_eq_true as];simp
  .unfold jN k7
   rw[beq_eq_false_iff_ne.mpr q,decide_eq_false (by omega)];simp
theorem OD(a:Tx K d c):ao P w K d base 4 "drop" ["bench","numbers","rows"] (cr c λl _ cl=>∃b g,l=[b,g]/\cl=.drop b g):=by
 refine bL a.VJ ["bench","numbers","rows","run","hopper","count"] (λm t H L n nd b=>?_) cr.len;obtain⟨o,nm,rs,i,l,N,O,cl,rfl,hB,u,p,Q,⟨b,g,rfl,rfl⟩,e⟩:=b;refine#[_,J (al 3 (dn (E 0) a.Rh (k_ a) (n.mono (by decide)) bv))
  (J (al 4 (aI (E 1) ai))
  (J (al 5 (aI (E 1) ai))
  (J (aG (bz (kY a) (aL (E 4) (a1 bd rfl a.Q_ bg (af (fX (ah 3) rfl))))))
  (J (ba (aZ su (aM cg (aI (ah 3) (E 4)) (E 5)) (bR rfl a.TR) (aW _)) (ae (eY d7 rfl rfl rfl a.SA a.RI a.SK)) bC)
  (J (aG (b6 (E 0) a.Rh (rL a) (n.mono (by decide)) eh (af (aH (NS a) (bD (E 3) (E 4) (E 5))))))
  (ae (ax (a3 (af ai))))))))),?_]
 obtain⟨R,S,T,t,q⟩:=id hB;refine#[q.obj,rfl,o,i,rfl,hB,λf v r hR=>?_,(fQ rfl hB e).2];replace e:=(fQ rfl hB e).1 f r;obtain⟨dr,U,V,W,X,cm,dd,j⟩:=id hR;obtain⟨Y,Z,hl,aa,ab,k⟩:=id j.board;have ok:=Ma.vC u r (.drop b g);have x:gM i f (.drop b g)=if f.board.hoppers.length<=b then(i,c9 4) else if 1099511627776<=f.all.getD b 0+g then(i,c9 6) else(i.done_ {f with all:=f8 f.all b g,run:={f.run with waiting:=f8 f.run.waiting b g}},iM 0):=rfl
 rw[x] at e ok;have ad:=j.ok.all;refine#[I.of p,aw rfl,I.of p,aw rfl,?_];refine#[j.obj,a.Rc,a.Rn,k.obj,a.Q5,a.Q4,.inl (I.of k.Q9.lst),b,f.board.hoppers.length,by rw[ag,k.Q9.len];rfl,λy=>?_,λz=>?_]
 .rw[if_neg (by omega)] at e ok
  refine#[j.obj,a.Rc,a.Ri,I.of j.drop,aw (dZ (d_ (by omega))),_,rfl,a9 (λh0=>?_) (λh0=>?_)]
  .have h0:=of_decide_eq_true h0
   rw[if_pos (by omega)] at e;exact e.no 6 (by decide) rfl m (.of (Same.refl _)) hB
  .have h0:¬(1099511627776:Int)<=((f.all.getD b 0:Nat):Int)+(g:Nat):=λA=>h0 (decide_eq_true A)
   rw[if_neg (by omega)] at e ok;refine#[q.obj,rfl,v,f,b,g,rfl,hR,y,ok.now _ rfl,λam C s D=>?_];exact#[o,C,i,_,rfl,hB.same s,D,λas F _ G=>e.one rfl ((dw.of s).trans F) G]
 .rw[if_pos z] at e
  exact e.no 4 (by decide) rfl m (.of (Same.refl _)) hB
theorem OE(e:Tx K d c):ao P w K d base 5 "go" ["bench","numbers","rows"] (cr c λl _ cl=>∃b,l=[b]/\cl=.go b):=by
 refine bL e.Wk ["bench","numbers","rows","run","behind"] (λs t F G m nd u=>?_) cr.len;obtain⟨n,nm,rs,g,l,H,L,cl,rfl,hB,N,o,O,⟨b,rfl,rfl⟩,f⟩:=u;refine#[_,J (al 3 (dn (E 0) e.Rh (k_ e) (m.mono (by decide)) bv))
  (J (aG (bz (AV e) (aL (aI (E 1) ai) (bR rfl e.U8))))
  (J (al 4 (aH (NY e) (aL (E 3) (aI (E 1) ai))))
  (J (aG (b6 (E 0) e.Rh (rL e) (m.mono (by decide)) eh (af (E 4))))
  (ae (ax (a3 (af (nn (eJ (aH (vU e) (af (E 4)))) ai ai)))))))),?_]
 obtain⟨Q,R,S,t,p⟩:=id hB;refine#[p.obj,rfl,n,g,rfl,hB,λa v x hR=>?_,(fQ rfl hB f).2];replace f:=(fQ rfl hB f).1 a x;have y:gM g a (.go b)=if b<1\/1000<b then(g,c9 1) else(g.done_ {a with run:=a.board.go a.lifts b a.run},mP (a.board.go a.lifts b a.run).rests):=rfl
 rw[y] at f;refine#[I.of o,aw rfl,b,1000,rfl,λi=>?_,λi=>?_]
 .rw[if_neg i] at f
  refine#[I.of o,aw rfl,v,a,b,rfl,hR,by omega,λT q j z=>?_];have A:=p.same j;refine#[A.obj,rfl,n,q,g,_,rfl,hB.same j,z,λU C D r=>?_];have kk:=(dw.of j).trans C;refine#[q,_,rfl,D,_,rfl,a9 (λk=>?_) (λk=>?_)]
  .exact f.one (by show mP (a.board.go a.lifts b a.run).rests=_;rw[show(a.board.go a.lifts b a.run).rests=true from k];rfl) kk r
  .exact f.one (by show mP (a.board.go a.lifts b a.run).rests=_;rw[show(a.board.go a.lifts b a.run).rests=false from dE.mpr k];rfl) kk r
 .rw[if_pos i] at f
  exact f.no 1 (by decide) rfl s (.of (Same.refl _)) hB
theorem OF(b:Tx K d c):ao P w K d base 3 "tell_account" ["bench","numbers","rows"] (cr c λ_ q cl=>∃r,q=[r]/\cl=.account r):=by
 refine bL b.Tj ["bench","numbers","rows","run"] (λu x N O s nd y=>?_) cr.len;obtain⟨z,nm,rs,l,Q,t,q,cl,rfl,hB,R,S,k,⟨e,rfl,rfl⟩,g⟩:=y;obtain⟨fa,rfl⟩:∃fa,t=[fa]:=by
  match t,k.2.1 with
  |[fa],_=>exact#[fa,rfl]
 have m:=k.2.2 0 fa e rfl rfl;refine#[_,J (al 3 (dn (E 0) b.Rh (k_ b) (s.mono (by decide)) bv))
  (J (aG (bz (rp b) (aL (aI (E 2) ai) (a1 bd rfl b.Q_ bg (af (fX (ah 3) rfl))))))
  (ae (ax (a3 (af (nn (aZ (xN s.units) (aH (BM b) (eZ (ah 3) (ah 3) (ah 3) (aI (E 2) ai))) (aI (E 2) ai) (aW _)) ai ai)))))),?_]
 obtain⟨T,U,v,x,A⟩:=id hB;refine#[A.obj,rfl,z,l,rfl,hB,λa W C hR=>?_,(fQ rfl hB g).2];replace g:=(fQ rfl hB g).1 a C;obtain⟨dr,D,F,X,Y,cm,dd,f⟩:=id hR;obtain⟨Z,aa,hl,ab,ad,n⟩:=id f.board;have G:gM l a (.account e)=(l,if e.length=a.board.parts.length then mP (a.board.proof a.lifts a.all e) else c9 5):=rfl;rw[G] at g;have am:ih _ _=some (V.ref fa):=aw (xs:=[V.ref fa]) (j:=0) (v:=V.ref fa) rfl;refine#[I.of k.1,aw rfl,f.obj,b.Rc,b.Rn,n.obj,b.Q5,b.Q3,.inl (I.of n.parts.lst),fa,e,a.board.parts.length,by rw[ag,n.parts.len];rfl,m,λhl=>?_,λhl=>?_]
 .rw[if_pos hl] at g
  refine#[f.obj,b.Rc,b.Rn,f.obj,b.Rc,b.Rw,f.obj,b.Rc,b.Ri,I.of k.1,aw rfl,D,F,dd,fa,a.board,a.lifts,a.all,e,rfl,f.board,f.lifts,f.drop,m,f.ok.lifts,f.ok.all,hl,λas au i aB H=>?_];refine#[I.of (i _ _ k.1),aw rfl,_,_,.lst (I.of H) (kW _),.lst (I.of (i _ _ m)) (kW e),mx _,mx _,_,rfl,?_];have L:jf (.list ((a.board.accounts a.lifts a.all e).map λo=>g8 (o:Nat))) (.list (e.map λo=>g8 (o:Nat)))=a.board.proof a.lifts a.all e:=by
   rw[jf,rn];show _=(e==a.board.accounts _ _ e);rw[fU,beq_iff_eq,beq_iff_eq];exact#[vN,vN]
  rw[L];refine a9 (λp=>?_) (λp=>?_)
  .exact g.one (by show mP _=_;rw[p];rfl) (.of i) (hB.same i)
  .exact g.one (by show mP _=_;rw[dE.mpr p];rfl) (.of i) (hB.same i)
 .rw[if_neg hl] at g
  exact g.no 5 (by decide) rfl u (.of (Same.refl _)) hB
theorem OG(e:Tx K d c):ao P w K d base 5 "tell_loop" ["bench","numbers","rows"] (cr c λj _ cl=>∃a,j=[a]/\cl=.loop a):=by
 refine bL e.Us ["bench","numbers","rows","run"] (λm n A C o nd p=>?_) cr.len;obtain⟨q,nm,rs,g,j,D,F,cl,rfl,hB,G,k,H,⟨a,rfl,rfl⟩,b⟩:=p;refine#[_,J (al 3 (dn (E 0) e.Rh (k_ e) (o.mono (by decide)) bv))
  (J (aG (bz (AV e) (aL (aI (E 1) ai) (bR rfl e.UD))))
  (ae (ax (aH (N6 e) (aL (E 3) (aI (E 1) ai)))))),?_]
 obtain⟨L,N,O,n,r⟩:=id hB;refine#[r.obj,rfl,q,g,rfl,hB,λf s t hR=>?_,(fQ rfl hB b).2];replace b:=(fQ rfl hB b).1 f t;have u:gM g f (.loop a)=(g,if a<1\/300<a then c9 1 else Ma.he (f.board.runs f.lifts a f.run)):=rfl;rw[u] at b;refine#[I.of k,aw rfl,a,300,rfl,λi=>?_,λi=>?_]
 .rw[if_neg i] at b
  exact#[I.of k,aw rfl,s,f,a,rfl,hR,by omega,λv x l y z=>b.yes v x (.of l) (.of (.of (Same.refl _)) y) (hB.same l) z]
 .rw[if_pos i] at b
  exact b.no 1 (by decide) rfl m (.of (Same.refl _)) hB
theorem OH(a:Tx K d c):ao P w K d base 4 "tell_text" ["bench","numbers","rows"] (cr c λ_ _ cl=>cl=.text):=by
 refine bL a.UE ["bench","numbers","rows","run"] (λI m N O n nd o=>?_) cr.len;obtain⟨p,nm,rs,g,Q,R,S,cl,rfl,hB,T,U,W,rfl,f⟩:=o;refine#[_,J (al 3 (dn (E 0) a.Rh (k_ a) (n.mono (by decide)) bv))
  (ae (ax (aH (iK a) (af (aH (uI a) (af (aH (Om a) (aL (ah 3) (ah 3))))))))),?_]
 obtain⟨X,Y,Z,m,q⟩:=id hB;refine#[q.obj,rfl,p,g,rfl,hB,λb aa r hR=>?_,(fQ rfl hB f).2];replace f:=(fQ rfl hB f).1 b r;obtain⟨dr,s,ab,t,ad,cm,dd,e⟩:=id hR;have u:gM g b .text=(g,OI b.told.text):=rfl;rw[u] at f;have v:=Ma.vA e.ok;have i:=Ma.BB e.ok;refine#[e.obj,a.Rc,a.Rn,e.obj,a.Rc,a.Rl,s,t,b,rfl,e.board,e.nums,e.ok,λai x j y=>?_];refine#[x,b.told,rfl,y,i,λam z k _ hl=>#[z,nb b.told.text,rfl,hl,by rw[iJ];exact bB (rq v i) (by decide),λA C D F G=>?_]];have l:=(j.trans k).trans D;refine f.yes A C (.of l) (.of (.of (j.trans k)) F) (hB.same l) ?_;rw[G];refine congrArg (λH=>some (HO.lst H)) ?_;show L _=(da (b.told.text.map eA)).map V.int;unfold da Marble.ints L nb;rw[dG];rfl
def oY(a:db):List (List Nat):=[a.run.nums,a.run.waiting,a.run.came,a.all,Ma.b4 a.lifts]
def mQ(b:List (List Nat)):List Nat:=b.flatMap λa=>a.length::a
theorem OJ(a:db):(mQ (oY a)).map (λ(d:Nat)=>V.int (d:Nat))=(da a.run.nums++da a.run.waiting++da a.run.came++da a.all++da (a.lifts.map λ(e:Option Nat)=>e.getD k7)).map V.int:=by
 have b:∀c:List Nat,(da c).map V.int=(c.length::c).map λd=>V.int (d:Nat):=λc=>by
  unfold da Marble.ints;rw[dG];rfl
 rw[br,br,br,br,b,b,b,b,b,<-br,<-br,<-br,<-br];congr 1;unfold mQ oY;simp only[iG,u7,eH,kl];rfl
theorem OK(b:Tx K d c):ao P w K d base 2 "tell_stands" ["bench","numbers","rows"] (cr c λ_ _ cl=>cl=.stands):=by
 refine bL b.TC ["bench","numbers","rows","run","told","row"] (λl S aw aB T nd u=>?_) cr.len;obtain⟨H,nm,rs,v,aD,aI,aJ,cl,rfl,hB,aK,aL,aM,rfl,m⟩:=u;refine#[_,J (al 3 (dn (E 0) b.Rh (k_ b) T bv))
  (J (al 4 (a3 er))
  (J (b_ jF rfl (wB (nI (dg (ah 3) (eZ (ah 3) (ah 3) (ah 3) (ah 3))))) (aO 5)
   (ae (aG (cM cI lH oe lG (E 4) (af (aH (iK b) (af (E 5))))))))
  (ae (ax (E 4))))),?_]
 obtain⟨aN,aT,aV,S,U⟩:=id hB;refine#[U.obj,rfl,H,v,rfl,hB,λf W X hR=>?_,(fQ rfl hB m).2];replace m:=(fQ rfl hB m).1 f X;obtain⟨dr,aW,x,y,z,cm,dd,e⟩:=id hR;have Z:gM v f .stands=(v,da f.run.nums++da f.run.waiting++da f.run.came++da f.all++da (f.lifts.map λab=>ab.getD k7)):=rfl;rw[Z] at m;refine#[aR _,λj A=>?_];have N:Same l (upd l j (.lst [])):=.upd A;have n:=e.same N;refine#[n.obj,b.Rc,b.Rl,n.obj,b.Rc,b.Ro,n.obj,b.Rc,b.R1,n.obj,b.Rc,b.Ri,n.obj,b.Rc,b.Rw,(show 5<=aq by decide),λC ad=>?_];have O:Same (upd l j (.lst [])) (upd (upd l j (.lst [])) C (.tup [.ref y,.ref z,.ref cm,.ref dd,.ref x])):=.upd ad;refine#[C,rfl,#[_,a8.of Y],?_];have ai:∀(g:Nat)(o:V),([V.ref y,.ref z,.ref cm,.ref dd,.ref x]:List V)[g]? =some o-> ∃(i:B)(p:List Nat),o=V.ref i/\(oY f)[g]? =some p/\l i=some (.lst (L p))/\p.length<=64:=λg o a=>by
  have D:=e.ok.wf.np;have aY:=e.ok.wf.nh;have aZ:=e.ok.run.nums.1;have a0:=e.ok.run.wait;have a1:=e.ok.run.came;have a5:=e.ok.all;have a9:=e.ok.lifts.len;have ba:=vS f.lifts
  match g,a with
  |0,a=>cases a;exact#[_,_,rfl,rfl,e.nums,by omega]
  |1,a=>cases a;exact#[_,_,rfl,rfl,e.wait,by omega]
  |2,a=>cases a;exact#[_,_,rfl,rfl,e.come,by omega]
  |3,a=>cases a;exact#[_,_,rfl,rfl,e.drop,by omega]
  |4,a=>cases a;exact#[_,_,rfl,rfl,e.lifts,by omega]
  |bb+5,a=>cases a
 refine Eb (λg t k=>∃F,t=[some (.ref H),some (.ref nm),some (.ref rs),some (.ref W),some (.ref j),F]/\Same l k/\k C=some (.tup [.ref y,.ref z,.ref cm,.ref dd,.ref x])/\k j=some (.lst (L (mQ ((oY f).take g))))/\(mQ ((oY f).take g)).length<=65*g)
  #[none,rfl,N.trans O,Y,O _ _ Y,aR _] (λg t k _ ⟨_,_,_,u,_⟩=>a8.of u) ?_ ?_
 .rintro g o t k a ⟨F,rfl,q,G,r,Q⟩
  obtain⟨i,p,rfl,R,am,bd⟩:=ai g o a;have be:g<5:=(aC.mp a).1;refine#[.inl #[rfl,_,I.of r],i,p,rfl,q _ _ am,by omega,λbf as s bi au=>?_];refine#[j,as,_,_,rfl,rfl,s _ _ r,au,?_,_,rfl,(q.trans s).put A,?_,?_,?_]
  .rw[aF,aF,bV]
   exact dc (small (by omega))
  .rw[aa (dL (s _ _ G) (s _ _ r) (by intro i;cases i))]
   exact s _ _ G
  .rw[Y,cp R]
   unfold mQ;rw[rk,<-br];congr 3;simp
  .rw[cp R]
   unfold mQ at Q⊢;rw[rk,bq];simp only[iG,u7,eH,bV];omega
 .rintro t k ⟨F,rfl,q,G,r,Q⟩
  refine(m.yes k j (.of q) (.of (.of (Same.refl _)) A) (hB.same q) ?_);rw[r];exact congrArg (λi=>some (HO.lst i)) (OJ f)
def BX(a:hh):Bool:=match a.key with
 | .int i _=>a.hash==hashInt i
 |_=>false
def rN(b:ak):Option (Array hh):=match b with
 |⟨.type "dict",none,.dict a _,c⟩=>if(c.size==0&&a.toList.all BX)=true then some a else none
 |_=>none
def rO(K:aj)(c:B)(d:Int)(e:Value):Prop:=∃a b,K.lookup c=some a/\rN a=some b/\nH hi b (.inl d)=some e
theorem OL{K:aj}{P:Program}{w:World}{f:Heap}{d:B}{b:Int}{g:Value}(l:rO K d b g)(m:K.In f):∃i,f.MapOf (e5 P w) d i/\i (.inl b)=some g:=by
 obtain⟨n,j,lk,a,o⟩:=l;have p:=m d n lk;unfold rN at a;split at a
 .rename_i v q x
  split at a
  .rename_i e
   rw[bJ] at e;cases b5 a;refine#[λb=>nH hi j b,#[_,j,q,p,#[rfl,rfl,?_],rfl,λr s=>?_,λ_=>rfl],o]
   .exact Array.eq_empty_of_size_eq_zero (by simpa using e.1)
   .have c:=io.mp e.2 r (by simpa using s)
    unfold BX at c;split at c
    .rename_i k t u
     exact#[.inl k,by rw[u];exact wk P w k t,(by have:=beq_iff_eq.mp c;exact this)]
    .cases c
  .cases a
 .cases a
def OM(K:aj)(f ty:TE):TE:=λa g i=>f a g λj k=>ty a k λl m=>∃b c d e,j=.ref b/\l=.int c/\rO K b c d/\aN e d/\i e m
theorem vW{a:Cx}{c b:Expr}{j:aU}{d ty:TE}(l:PE a c d)(m:PE a b ty)(n:s3 b):PE a (.Subscript c b j) (OM a.K d ty):=by
 intro e o f p J q r;refine x5 GR.lookup n (au (l e o f p _ q r) λs t ⟨K,u,v,w,x⟩=>au (m e t f u _ v x) λL N ⟨O,y,g,z,A,k,P,C,D,E,F,G,H⟩=>?_);subst D E;obtain rfl:s=bN A:=w;obtain⟨Q,i,I⟩:=OL F g.Sh;exact#[i.typeIs,GB (k:=eI k) (lO z) i I #[C,y,g.tok _,G,H]]
theorem jO{a b c:Prop} [Decidable a](d:a)(e:b):if a then b else c:=by rw[if_pos d];exact e
theorem cK{a c b:Prop} [Decidable a](d:¬a)(hq:b):if a then c else b:=by rw[if_neg d];exact hq
structure Xn(c:Cs):Prop where
 inj:∀a∈dy,∀b∈dy,kZ c a=kZ c b->a=b
structure Dt(K:aj)(d:Str->Option Value)(e:Str)(f:List (Nat×Str)):Prop where
 at_:∃a,d e=some (.ref a)/\ ∀b∈f,∃c,d b.2=some (.ref c)/\rO K a (b.1:Nat) (.ref c)
theorem b1.V3{c:Cs}{f:B}{g:VK}{i:XK}{d:G}{j:cy}{b:b0}(hB:cX c d f j)(n:∀k,b=.error k->k∈dy)(l:fP c f g i d (j,cW b)):b1 c g i d b:=by
 cases b with
 |ok s=>exact λe o a p q=>l.yes e o (.of a) (.of (.of (Same.refl _)) p) (hB.same a) (by rw[q];exact congrArg (λr=>some (HO.lst r)) (by rw[vb];rfl))
 |error m=>exact λe a=>l.no m (n m rfl) rfl e (.of a) (hB.same a)
inductive BY(g:List (Nat×Str×Sp))(i:List V)(j:G)(k:VK)(l:XK):Prop
 |mk(a:Nat)(b e:V)(nm:Str)(f:Sp)(m:i=[.int a,b,e])(n:(a,nm,f)∈g)(o:f [b,e] j k l)
theorem ON(g:Tx K d c){b:List (Nat×Str×Sp)}(i:Dt K d "CALLS" (b.map λa=>(a.1,a.2.1)))(j:∀a∈b,ao P w K d base 11 a.2.1 ["numbers","rows"] a.2.2):ao P w K d base 12 "answer_call" ["call","numbers","rows"] (BY b):=by
 refine bL g.TJ ["call","numbers","rows","tell"] λu x y z k nd l=>?_;obtain⟨m,a,A,nm,C,rfl,e,n⟩:=l;obtain⟨f,o,p⟩:=i.at_;obtain⟨fa,q,r⟩:=p (m,nm) (bK.mpr #[_,e,rfl]);obtain⟨D,s,t⟩:=j _ e;cases t.symm.trans q;refine#[_,J (al 3 (vW (i2 (v:=.ref f) rfl o rfl) (E 0) (λ_ _=>rfl)))
  (ae (ax (tw (E 3) s k bv (aL (E 1) (E 2))))),?_]
 refine#[f,_,_,V.ref fa,rfl,rfl,r,rfl,rfl,?_];exact n
inductive BZ(i:List (Nat×Str×Sp))(j:List V)(k:G)(l:VK)(m:XK):Prop
 |mk(a:Nat)(b e f:V)(nm:Str)(g:Sp)(n:j=[b,.int a,e,f])(o:(a,nm,g)∈i)(p:g [b,e,f] k l m)
theorem OO(g:Tx K d c){b:List (Nat×Str×Sp)}(i:Dt K d "BENCH_CALLS" (b.map λa=>(a.1,a.2.1)))(j:∀a∈b,ao P w K d base 11 a.2.1 ["bench","numbers","rows"] a.2.2):ao P w K d base 12 "answer_on_bench" ["bench","call","numbers","rows"] (BZ b):=by
 refine bL g.SV ["bench","call","numbers","rows","tell"] λu x y z k nd l=>?_;obtain⟨m,A,a,C,nm,D,rfl,e,n⟩:=l;obtain⟨f,o,p⟩:=i.at_;obtain⟨fa,q,r⟩:=p (m,nm) (bK.mpr #[_,e,rfl]);obtain⟨F,s,t⟩:=j _ e;cases t.symm.trans q;refine#[_,J (al 4 (vW (i2 (v:=.ref f) rfl o rfl) (E 1) (λ_ _=>rfl)))
  (ae (ax (tw (E 4) s k bv (bD (E 0) (E 2) (E 3))))),?_]
 refine#[f,_,_,V.ref fa,rfl,rfl,r,rfl,rfl,?_];exact n
def B0(c:Cs)(e:c5):XK:=λf dd d=>∃a:Nat,a∈dy/\f=.ref (kZ c a)/\ ∀b,d b=none->e.rt (.ref b) (upd d b (.lst [.int (-(a:Nat))]))
inductive B1(c:Cs)(o p:List (Nat×Str×Sp))(q:List V)(a:G)(r:VK)(s:XK):Prop
 |mk(b:B)(e:Nat)(l m:V)(j:cy×gG)(t:q=[.ref b,.int e,l,m])(u:((e<=14/\ ∃nm f,(e,nm,f)∈o/\ ∀g i,fP c b g i a j->f [l,m] a g i)\/(¬e<=14/\ ∃nm f,(e,nm,f)∈p/\ ∀g i,fP c b g i a j->f [.ref b,l,m] a g i)))(v:∀(k:G)(n:B),dw a k->rM a n->cX c k b j.1->k n=some (.lst (j.2.map V.int))->r (.ref n) k)
theorem OP(a:Tx K d c)(I:Xn c){n o:List (Nat×Str×Sp)}(L:Dt K d "CALLS" (n.map λe=>(e.1,e.2.1)))(N:Dt K d "BENCH_CALLS" (o.map λe=>(e.1,e.2.1)))
  (O:∀e∈n,ao P w K d base 11 e.2.1 ["numbers","rows"] e.2.2)(Q:∀e∈o,ao P w K d base 11 e.2.1 ["bench","numbers","rows"] e.2.2):ao P w K d base 13 "answer_or_refusal" ["bench","call","numbers","rows"] (B1 c n o):=by
 have R:ao P w K d base 12 "answer_call" ["call","numbers","rows"] (BY n):=ON a L O;have S:ao P w K d base 12 "answer_on_bench" ["bench","call","numbers","rows"] (BZ o):=OO a N Q;refine bL a.SE ["bench","call","numbers","rows"] λv ad q ah x nd f=>?_;obtain⟨y,p,e,z,T,rfl,A,C⟩:=f;refine#[_,ae (tp (E1:=B0 c) rfl rfl
   (λal am U D=>J (ba (aZ nF (E 1) (bR rfl a.Sq) (aW _)) (ae (ax (l0 R x rfl D (bD (E 1) (E 2) (E 3))))) bC)
    (ae (ax (l0 S x rfl D (eZ (E 0) (E 1) (E 2) (E 3))))))
   (jn rfl a.R7 a.RW (λk=>ae (ax (a3 (af (e9 e_ ai)))))
   (jn rfl a.TV a.SD (λk=>ae (ax (a3 (af (e9 e_ ai)))))
   (jn rfl a.RD a.Rq (λk=>ae (ax (a3 (af (e9 e_ ai)))))
   (jn rfl a.SX a.RF (λk=>ae (ax (a3 (af (e9 e_ ai)))))
   (jn rfl a.SA a.RI (λk=>ae (ax (a3 (af (e9 e_ ai)))))
   (jn rfl a.TW a.RM (λk=>ae (ax (a3 (af (e9 e_ ai)))))
   (jn rfl a.SI a.Rk (λk=>ae (ax (a3 (af (e9 e_ ai)))))
   (jn rfl a.TU a.Ry (λk=>ae (ax (a3 (af (e9 e_ ai))))) to))))))))
   (λU as dd v f=>by
    obtain⟨g,l,rfl,i⟩:=f;have j:(1:Nat)<=aq:=by decide
    have b:∀m g,m∈dy->g∈dy-> ¬m=g-> ¬kZ c m=kZ c g:=λm g V l W r=>W (I.inj m V g l r);simp only[dy,bw,gz,or_false] at l;rcases l with rfl|rfl|rfl|rfl|rfl|rfl|rfl|rfl
    .exact#[c.Rb,_,rfl,a.RW,jO rfl #[j,i]]
    .exact#[c.Rr,_,rfl,a.SD,cK (b 2 1 (by decide) (by decide) (by decide)) #[c.Rr,_,rfl,a.SD,jO rfl #[j,i]]]
    .exact#[c.Rs,_,rfl,a.Rq,cK (b 4 1 (by decide) (by decide) (by decide)) #[c.Rs,_,rfl,a.Rq,cK (b 4 2 (by decide) (by decide) (by decide)) #[c.Rs,_,rfl,a.Rq,jO rfl #[j,i]]]]
    .exact#[c.Rp,_,rfl,a.RF,cK (b 5 1 (by decide) (by decide) (by decide)) #[c.Rp,_,rfl,a.RF,cK (b 5 2 (by decide) (by decide) (by decide)) #[c.Rp,_,rfl,a.RF,cK (b 5 4 (by decide) (by decide) (by decide)) #[c.Rp,_,rfl,a.RF,jO rfl #[j,i]]]]]
    .exact#[c.RQ,_,rfl,a.RI,cK (b 6 1 (by decide) (by decide) (by decide)) #[c.RQ,_,rfl,a.RI,cK (b 6 2 (by decide) (by decide) (by decide)) #[c.RQ,_,rfl,a.RI,cK (b 6 4 (by decide) (by decide) (by decide)) #[c.RQ,_,rfl,a.RI,cK (b 6 5 (by decide) (by decide) (by decide)) #[c.RQ,_,rfl,a.RI,jO rfl #[j,i]]]]]]
    .exact#[c.RU,_,rfl,a.RM,cK (b 7 1 (by decide) (by decide) (by decide)) #[c.RU,_,rfl,a.RM,cK (b 7 2 (by decide) (by decide) (by decide)) #[c.RU,_,rfl,a.RM,cK (b 7 4 (by decide) (by decide) (by decide)) #[c.RU,_,rfl,a.RM,cK (b 7 5 (by decide) (by decide) (by decide)) #[c.RU,_,rfl,a.RM,cK (b 7 6 (by decide) (by decide) (by decide)) #[c.RU,_,rfl,a.RM,jO rfl #[j,i]]]]]]]
    .exact#[c.Rf,_,rfl,a.Rk,cK (b 8 1 (by decide) (by decide) (by decide)) #[c.Rf,_,rfl,a.Rk,cK (b 8 2 (by decide) (by decide) (by decide)) #[c.Rf,_,rfl,a.Rk,cK (b 8 4 (by decide) (by decide) (by decide)) #[c.Rf,_,rfl,a.Rk,cK (b 8 5 (by decide) (by decide) (by decide)) #[c.Rf,_,rfl,a.Rk,cK (b 8 6 (by decide) (by decide) (by decide)) #[c.Rf,_,rfl,a.Rk,cK (b 8 7 (by decide) (by decide) (by decide)) #[c.Rf,_,rfl,a.Rk,jO rfl #[j,i]]]]]]]]
    .exact#[c.RK,_,rfl,a.Ry,cK (b 9 1 (by decide) (by decide) (by decide)) #[c.RK,_,rfl,a.Ry,cK (b 9 2 (by decide) (by decide) (by decide)) #[c.RK,_,rfl,a.Ry,cK (b 9 4 (by decide) (by decide) (by decide)) #[c.RK,_,rfl,a.Ry,cK (b 9 5 (by decide) (by decide) (by decide)) #[c.RK,_,rfl,a.Ry,cK (b 9 6 (by decide) (by decide) (by decide)) #[c.RK,_,rfl,a.Ry,cK (b 9 7 (by decide) (by decide) (by decide)) #[c.RK,_,rfl,a.Ry,cK (b 9 8 (by decide) (by decide) (by decide)) #[c.RK,_,rfl,a.Ry,jO rfl #[j,i]]]]]]]]])
   ),?_]
 have F:fP c y q (B0 c {nx:=λ_ G=>q .non G,rt:=q}) v T:=#[λg l r G H X=>#[g,l,rfl,λZ hl=>C _ Z (H.trans (.of (.upd hl))) (.of H hl) (X.same (.upd hl)) (by rw[Y,r];rfl)],C];refine#[_,rfl,a9 (λf=>?_) (λf=>?_)]
 .have f:((p:Nat):Int)<=14:=of_decide_eq_true f
  rcases A with⟨_,nm,s,t,u⟩|⟨aa,_⟩
  .exact#[p,e,z,nm,s,rfl,t,u _ _ F]
  .omega
 .have f:¬((p:Nat):Int)<=14:=λab=>f (decide_eq_true ab)
  rcases A with⟨aa,_⟩|⟨_,nm,s,t,u⟩
  .omega
  .exact#[p,.ref y,e,z,nm,s,rfl,t,u _ _ F]
section
variable{X:Cx}{a:XK}{k:Nat}{ps:List Str}{sp:Sp}{x:Str}{p b:aU}{C:B}
theorem OQ(c:d8 X.prog X.w X.K X.mg X.base k C x ps sp)(d:bu (k+1) X.A)(e:Gl X x)(f:dQ (cc X.prog X.w) X a)(g:(x==("__debug__":Str))=false:=by decide):PE X (.Call (.Name x p) [] [] b) (hu C sp [] a c1):=by
 obtain⟨n,o,i,j,l,m⟩:=c;exact Fe l i d e m j .nil f g
end
def hY(c:Cs):List (Nat×Str×Sp):=[(1,"tell_fault",iN c iL),(2,"print_board",iN c mA),(3,"tell_sizes",iN c mB),(4,"tell_let",iO c λa d=>g9 a d λ_ f=>f.nums),(5,"tell_falls",iO c λa d=>g9 a d λe f=>e.falls f),
 (6,"tell_many",iO c λa d=>g_ a d λe=>e.many e.start d),(7,"tell_came",iO c λa d=>g_ a d λe=>e.came e.start d),(8,"tell_again",k4 c (λb=>b.length=1) λb a=>mC a (b.getD 0 0)),
 (9,"tell_until",k4 c (λb=>b.length=4) λb a=>mD a (b.getD 0 0) (b.getD 1 0) (b.getD 2 0) (b.getD 3 0)),(10,"tell_share",k4 c (λb=>b.length=2) λb a=>mE a (b.getD 0 0) (b.getD 1 0)),(11,"tell_apart",A7 c λg a i=>mG a i g),
 (12,"tell_ever",A6 c mH),(13,"print_bare",iN c mO),(14,"tell_proof",BN c mK)]
def jP(c:Cs):List (Nat×Str×Sp):=[(15,"lay",cr c λ_ e cl=>∃f,e=[nb f]/\cl=.lay f),(16,"put_lift",cr c λa _ cl=>∃g b,a=[g,b]/\cl=.lift g b),(17,"drop",cr c λa _ cl=>∃b i,a=[b,i]/\cl=.drop b i),
 (18,"go",cr c λa _ cl=>∃d,a=[d]/\cl=.go d),(19,"back",cr c λ_ _ cl=>cl=.back),(20,"tell_stands",cr c λ_ _ cl=>cl=.stands),(21,"tell_account",cr c λ_ e cl=>∃j,e=[j]/\cl=.account j),(22,"tell_loop",cr c λa _ cl=>∃d,a=[d]/\cl=.loop d),(23,"tell_text",cr c λ_ _ cl=>cl=.text)]
theorem ao.mono{P:Program}{w:World}{K:aj}{d:Str->Option Value}{base:Heap}{a b:Nat}{c:Str}{e:List Str}{f:Sp}(g:ao P w K d base a c e f)(i:a<=b):ao P w K d base b c e f:=let⟨j,k,l⟩:=g;#[j,k.mono i,l]
theorem OR(a:Tx K d c):∀b∈hY c,ao P w K d base 11 b.2.1 ["numbers","rows"] b.2.2:=by
 intro b e;simp only[hY,bw,gz,or_false] at e;rcases e with rfl|rfl|rfl|rfl|rfl|rfl|rfl|rfl|rfl|rfl|rfl|rfl|rfl|rfl
 .exact(L_ a).mono (by decide)
 .exact(Mi a).mono (by decide)
 .exact(Mj a).mono (by decide)
 .exact Ms a
 .exact Mt a
 .exact Mz a
 .exact My a
 .exact(MA a).mono (by decide)
 .exact(MC a).mono (by decide)
 .exact(MB a).mono (by decide)
 .exact MJ a
 .exact MK a
 .exact(Oj a).mono (by decide)
 .exact(NI a).mono (by decide)
theorem OS(a:Tx K d c):∀b∈jP c,ao P w K d base 11 b.2.1 ["bench","numbers","rows"] b.2.2:=by
 intro b e;simp only[jP,bw,gz,or_false] at e;rcases e with rfl|rfl|rfl|rfl|rfl|rfl|rfl|rfl|rfl
 .exact(Oz a).mono (by decide)
 .exact(OC a).mono (by decide)
 .exact(OD a).mono (by decide)
 .exact(OE a).mono (by decide)
 .exact(OB a).mono (by decide)
 .exact(OK a).mono (by decide)
 .exact(OF a).mono (by decide)
 .exact(OG a).mono (by decide)
 .exact(OH a).mono (by decide)
def oZ(c:Cs)(g:B)(e:G)(i:cy×gG)(f:Nat)(j k:V):Prop:=(f<=14/\ ∃nm a,(f,nm,a)∈hY c/\ ∀b d,fP c g b d e i->a [j,k] e b d)\/(¬f<=14/\ ∃nm a,(f,nm,a)∈jP c/\ ∀b d,fP c g b d e i->a [.ref g,j,k] e b d)
theorem mR{a:cy}{cl:gd}{b:b0}(c:eb cl=some (cW b)):eU a cl=(a,cW b):=by
 unfold eU;rw[c]
theorem fR{b:Int}{c:Nat}(a:ge b c=true):0<=b:=by
 unfold ge at a;rw[bJ,decide_eq_true_eq] at a;exact a.1
theorem iV{a:List Int}{b:Nat}(c:eE a b 0 255=true):L (nb (gI a))=a.map V.int:=MM (Ba c).2
theorem o0{a:List Int}{b:Nat}{c:Int}(d:eE a b 0 c=true):L (gH a)=a.map V.int:=Bb λe f=>((Ba d).2 e f).1
theorem B2{e:G}{c:List B}{d:List Int}(b:ec e c [d]):∃a,c=[a]/\e a=some (.lst (d.map V.int)):=by
 match c,b.1,b with
 |[a],_,b=>exact#[a,rfl,b.2 0 a d rfl rfl]
theorem vX{d:G}{e:List B}{f g:List Int}(a:ec d e [f,g]):∃b c,e=[b,c]/\d b=some (.lst (f.map V.int))/\d c=some (.lst (g.map V.int)):=by
 match e,a.1,a with
 |[b,c],_,a=>exact#[b,c,rfl,a.2 0 b f rfl rfl,a.2 1 c g rfl rfl]
theorem OT{b:G}{g:List B}{i j k l:List Int}(a:ec b g [i,j,k,l]):∃c d e f,g=[c,d,e,f]/\b c=some (.lst (i.map V.int))/\b d=some (.lst (j.map V.int))/\b e=some (.lst (k.map V.int))/\b f=some (.lst (l.map V.int)):=by
 match g,a.1,a with
 |[c,d,e,f],_,a=>exact#[c,d,e,f,rfl,a.2 0 c i rfl rfl,a.2 1 d j rfl rfl,a.2 2 e k rfl rfl,a.2 3 f l rfl rfl]
theorem dJ{b:Type}{a:List b}(c:a.length=0):a=[]:=Bi.mp c
theorem gf{c:Type}{a:List c}(d:a.length=1):∃b,a=[b]:=by match a,d with|[b],_=>exact#[b,rfl]
theorem iW{d:Type}{a:List d}(e:a.length=2):∃b c,a=[b,c]:=by match a,e with|[b,c],_=>exact#[b,c,rfl]
theorem B3{f:Type}{a:List f}(g:a.length=4):∃b c d e,a=[b,c,d,e]:=by match a,g with|[b,c,d,e],_=>exact#[b,c,d,e,rfl]
theorem rP{a:Int}(b:0<=a):L [a.toNat]=[a].map V.int:=by
 show[V.int ((a.toNat:Nat):Int)]=[V.int a];rw[jK b]
theorem vY{a b:Int}(c:0<=a)(d:0<=b):L [a.toNat,b.toNat]=[a,b].map V.int:=by
 show[V.int ((a.toNat:Nat):Int),V.int ((b.toNat:Nat):Int)]=[V.int a,V.int b];rw[jK c,jK d]
theorem OU{a b c d:Int}(e:0<=a)(f:0<=b)(g:0<=c)(i:0<=d):L [a.toNat,b.toNat,c.toNat,d.toNat]=[a,b,c,d].map V.int:=by
 show[V.int ((a.toNat:Nat):Int),V.int ((b.toNat:Nat):Int),V.int ((c.toNat:Nat):Int),V.int ((d.toNat:Nat):Int)]=[V.int a,V.int b,V.int c,V.int d];rw[jK e,jK f,jK g,jK i]
section
variable{c:Cs}{e b a:B}{H:G}{S:cy}{f:List B}
theorem rQ{g:Nat}{nm:Str}{i:ay->b0}{cl:ay->gd}{j:List Int}{k:cy×gG}(n:(g,nm,iN c i)∈hY c)(o:g<=14)(hR:k=eU S (cl (gI j)))(p:∀d,eb (cl d)=some (cW (i d)))(q:∀d l,i d=.error l->l∈dy)
  (hB:cX c H e S)(r:H a=some (.lst (f.map V.ref)))(s:ec H f [j])(hl:eE j 65536 0 255=true):oZ c e H k g (.ref b) (.ref a):=by
 obtain⟨t,rfl,u⟩:=B2 s;refine .inl #[o,nm,_,n,λv w m=>?_];rw[hR,mR (p _)] at m;exact#[b,a,t,_,rfl,r,by rw[iV hl];exact u,b1.V3 hB (q _) m]
theorem rR{i:Nat}{nm:Str}{j:ay->List Nat->b0}{cl:ay->List Nat->gd}{k l:List Int}{p:Nat}{q:Int}{m:cy×gG}(r:(i,nm,iO c j)∈hY c)(s:i<=14)(hR:m=eU S (cl (gI k) (gH l)))(t:∀d g,eb (cl d g)=some (cW (j d g)))(u:∀d g n,j d g=.error n->n∈dy)
  (hB:cX c H e S)(v:H a=some (.lst (f.map V.ref)))(w:ec H f [k,l])(hl:(eE k 65536 0 255&&eE l p 0 q)=true):oZ c e H m i (.ref b) (.ref a):=by
 rw[bJ] at hl;obtain⟨x,y,rfl,z,A⟩:=vX w;refine .inl #[s,nm,_,r,λC D o=>?_];rw[hR,mR (t _ _)] at o;exact#[b,a,x,y,_,_,rfl,v,by rw[iV hl.1];exact z,by rw[o0 hl.2];exact A,b1.V3 hB (u _ _) o]
theorem vZ{g:Nat}{nm:Str}{ok:List Nat->Prop}{i:List Nat->ay->b0}{cl:List Nat->ay->gd}{j:List Int}{k:List Int}{ns:List Nat}{l:cy×gG}(p:(g,nm,k4 c ok i)∈hY c)(q:g<=14)(hR:l=eU S (cl ns (gI j)))(r:∀ns d,ok ns->eb (cl ns d)=some (cW (i ns d)))(s:∀ns d m,i ns d=.error m->m∈dy)
  (n:ok ns)(t:L ns=k.map V.int)(u:H b=some (.lst (k.map V.int)))(hB:cX c H e S)(v:H a=some (.lst (f.map V.ref)))(w:ec H f [j])(hl:eE j 65536 0 255=true):oZ c e H l g (.ref b) (.ref a):=by
 obtain⟨x,rfl,y⟩:=B2 w;refine .inl #[q,nm,_,p,λz A o=>?_];rw[hR,mR (r _ _ n)] at o;exact#[b,a,x,ns,_,rfl,by rw[t];exact u,v,by rw[iV hl];exact y,n,b1.V3 hB (s _ _) o]
theorem iX{i:Nat}{nm:Str}{ok:List Nat->List (List Nat)->gd->Prop}{cl:gd}{d:List (List Int)}{k:List Int}{ns:List Nat}{rws:List (List Nat)}{l:cy×gG}(r:(i,nm,cr c ok)∈jP c)(s:¬i<=14)(hR:l=eU S cl)(t:ok ns rws cl)
  (u:L ns=k.map V.int)(v:H b=some (.lst (k.map V.int)))(hB:cX c H e S)(w:Ma.e4 S)(x:H a=some (.lst (f.map V.ref)))(m:ec H f d)(n:rws.map L=d.map λg=>g.map V.int):oZ c e H l i (.ref b) (.ref a):=by
 have o:rws.length=d.length:=by have:=congrArg xh n;simpa using this
 refine .inr #[s,nm,_,r,λC E y=>#[e,b,a,S,ns,f,rws,cl,rfl,hB,w,by rw[u];exact v,#[x,by rw[m.1,o],λj z g D p=>?_],t,by rw[<-hR];exact y]];obtain⟨A,hq⟩:=c7 o p;have q:(rws.map L)[j]? =(d.map λg=>g.map V.int)[j]? :=by rw[n]
 rw[a6,a6,p,hq] at q;rw[b5 q];exact m.2 j z A D hq
end
theorem OV(c:ay)(b:Nat)(a:iL c=.error b):b∈dy:=by
 unfold iL at a
 repeat' (first|(cases a;done)|(cases a;decide)|dsimp only at a|split at a)
theorem OW(c:ay)(b:Nat)(a:mA c=.error b):b∈dy:=by
 unfold mA cO at a
 repeat' (first|(cases a;done)|(cases a;decide)|dsimp only at a|split at a)
theorem OX(c:ay)(b:Nat)(a:mB c=.error b):b∈dy:=by
 unfold mB cO at a
 repeat' (first|(cases a;done)|(cases a;decide)|dsimp only at a|split at a)
theorem OY(c:ay)(b:Nat)(a:mO c=.error b):b∈dy:=by
 unfold mO cO at a
 repeat' (first|(cases a;done)|(cases a;decide)|dsimp only at a|split at a)
theorem B4(c:ay)(d:List Nat)(e:an->qt->List Nat)(b:Nat)(a:g9 c d e=.error b):b∈dy:=by
 unfold g9 cO at a
 repeat' (first|(cases a;done)|(cases a;decide)|dsimp only at a|split at a)
theorem B5(c:ay)(d:List Nat)(e:an->List Nat)(b:Nat)(a:g_ c d e=.error b):b∈dy:=by
 unfold g_ cO at a
 repeat' (first|(cases a;done)|(cases a;decide)|dsimp only at a|split at a)
theorem OZ(c:ay)(d:Nat)(b:Nat)(a:mC c d=.error b):b∈dy:=by
 unfold mC cO at a
 repeat' (first|(cases a;done)|(cases a;decide)|dsimp only at a|split at a)
theorem O0(c:ay)(d e f g:Nat)(b:Nat)(a:mD c d e f g=.error b):b∈dy:=by
 unfold mD cO at a
 repeat' (first|(cases a;done)|(cases a;decide)|dsimp only at a|split at a)
theorem O1(c:ay)(d e:Nat)(b:Nat)(a:mE c d e=.error b):b∈dy:=by
 unfold mE cO at a
 repeat' (first|(cases a;done)|(cases a;decide)|dsimp only at a|split at a)
theorem O2(c d:ay)(e:Nat)(b:Nat)(a:mG c d e=.error b):b∈dy:=by
 unfold mG k6 cO at a
 repeat' (first|(cases a;done)|(cases a;decide)|dsimp only at a|split at a)
theorem O3(c d:ay)(b:Nat)(a:mH c d=.error b):b∈dy:=by
 unfold mH k6 cO at a
 repeat' (first|(cases a;done)|(cases a;decide)|dsimp only at a|split at a)
theorem O4(c:ay)(d e f:List Nat)(b:Nat)(a:mK c d e f=.error b):b∈dy:=by
 unfold mK cO at a
 repeat' (first|(cases a;done)|(cases a;decide)|dsimp only at a|split at a)
theorem O5{c:Cs}{z A C:B}{v:G}{x:cy}{Q:List B}{d:Int}{g j:Nat}{J:List Int}{K:List (List Int)}(e:jQ d=some (g,j))(l:J.length=g)(m:K.length=j)(a:O6 (hZ ((d::J)::K))=true)
  (hB:cX c v z x)(u:Ma.e4 x)(q:v A=some (.lst (J.map V.int)))(n:v C=some (.lst (Q.map V.ref)))(o:ec v Q K):∃kk:Nat,d=(kk:Int)/\oZ c z v (jR x (hZ ((d::J)::K))) kk (.ref A) (.ref C):=by
 by_cases D:d=1
 .subst D
  cases(show some (0,1)=some (g,j) from e);obtain rfl:=dJ l;obtain⟨b,rfl⟩:=gf m;exact#[1,rfl,rQ (cl:=.board) (a7 (i:=0) rfl) (by decide) rfl L9 (OV) hB n o a]
 by_cases t:d=2
 .subst t
  cases(show some (0,1)=some (g,j) from e);obtain rfl:=dJ l;obtain⟨b,rfl⟩:=gf m;exact#[2,rfl,rQ (cl:=.print) (a7 (i:=1) rfl) (by decide) rfl Mc (OW) hB n o a]
 by_cases y:d=3
 .subst y
  cases(show some (0,1)=some (g,j) from e);obtain rfl:=dJ l;obtain⟨b,rfl⟩:=gf m;exact#[3,rfl,rQ (cl:=.sizes) (a7 (i:=2) rfl) (by decide) rfl Mh (OX) hB n o a]
 by_cases N:d=4
 .subst N
  cases(show some (0,2)=some (g,j) from e);obtain rfl:=dJ l;obtain⟨b,s,rfl⟩:=iW m;exact#[4,rfl,rR (cl:=.let_) (a7 (i:=3) rfl) (by decide) rfl Mm (λk w=>B4 k w _) hB n o a]
 by_cases R:d=5
 .subst R
  cases(show some (0,2)=some (g,j) from e);obtain rfl:=dJ l;obtain⟨b,s,rfl⟩:=iW m;exact#[5,rfl,rR (cl:=.falls) (a7 (i:=4) rfl) (by decide) rfl Mn (λk w=>B4 k w _) hB n o a]
 by_cases S:d=6
 .subst S
  cases(show some (0,2)=some (g,j) from e);obtain rfl:=dJ l;obtain⟨b,s,rfl⟩:=iW m;exact#[6,rfl,rR (cl:=.many) (a7 (i:=5) rfl) (by decide) rfl Mp (λk w=>B5 k w _) hB n o a]
 by_cases T:d=7
 .subst T
  cases(show some (0,2)=some (g,j) from e);obtain rfl:=dJ l;obtain⟨b,s,rfl⟩:=iW m;exact#[7,rfl,rR (cl:=.came) (a7 (i:=6) rfl) (by decide) rfl Mq (λk w=>B5 k w _) hB n o a]
 by_cases U:d=8
 .subst U
  cases(show some (1,1)=some (g,j) from e);obtain⟨f,rfl⟩:=gf l;obtain⟨b,rfl⟩:=gf m;have a:(eE b 65536 0 255&&ge f 1024)=true:=a;rw[bJ] at a;exact#[8,rfl,vZ (ns:=[f.toNat]) (cl:=λns k=>.again k (ns.getD 0 0)) (a7 (i:=7) rfl) (by decide) rfl (λns k _=>Mu k _) (λns k=>OZ k _) rfl (rP (fR a.2)) q hB n o a.1]
 by_cases W:d=9
 .subst W
  cases(show some (4,1)=some (g,j) from e);obtain⟨f,r,X,Y,rfl⟩:=B3 l;obtain⟨b,rfl⟩:=gf m;have a:(eE b 65536 0 255&&(ge f 1024&&(ge r 1024&&(ge X 1024&&ge Y 1024))))=true:=a;simp only[bJ] at a;obtain⟨h0,D,t,y,N⟩:=a;exact#[9,rfl,vZ (ns:=[f.toNat,r.toNat,X.toNat,Y.toNat]) (cl:=λns k=>.until_ k (ns.getD 0 0) (ns.getD 1 0) (ns.getD 2 0) (ns.getD 3 0)) (a7 (i:=8) rfl) (by decide) rfl (λns k _=>Mv k _ _ _ _) (λns k=>O0 k _ _ _ _) rfl (OU (fR D) (fR t) (fR y) (fR N)) q hB n o h0]
 by_cases Z:d=10
 .subst Z
  cases(show some (2,1)=some (g,j) from e);obtain⟨f,r,rfl⟩:=iW l;obtain⟨b,rfl⟩:=gf m;have a:(eE b 65536 0 255&&(ge f 1024&&ge r 1024))=true:=a;simp only[bJ] at a;obtain⟨h0,D,t⟩:=a;exact#[10,rfl,vZ (ns:=[f.toNat,r.toNat]) (cl:=λns k=>.share k (ns.getD 0 0) (ns.getD 1 0)) (a7 (i:=9) rfl) (by decide) rfl (λns k _=>Mw k _ _) (λns k=>O1 k _ _) rfl (vY (fR D) (fR t)) q hB n o h0]
 by_cases aa:d=11
 .subst aa
  cases(show some (1,2)=some (g,j) from e);obtain⟨f,rfl⟩:=gf l;obtain⟨b,s,rfl⟩:=iW m;have a:(eE b 65536 0 255&&(eE s 65536 0 255&&ge f 1024))=true:=a;simp only[bJ] at a;obtain⟨h0,D,t⟩:=a;obtain⟨E,O,rfl,F,P⟩:=vX o;refine#[11,rfl,.inl #[by decide,"tell_apart",_,a7 (i:=10) rfl,λH I p=>?_]];have p:fP c z H I v (eU x (.apart (gI b) (gI s) f.toNat)):=p;rw[mR (ME _ _ _)] at p;exact#[A,C,E,O,f.toNat,_,_,rfl,by rw[rP (fR t)];exact q,n,by rw[iV h0];exact F,by rw[iV D];exact P,b1.V3 hB (O2 _ _ _) p]
 by_cases ab:d=12
 .subst ab
  cases(show some (0,2)=some (g,j) from e);obtain rfl:=dJ l;obtain⟨b,s,rfl⟩:=iW m;have a:(eE b 65536 0 255&&eE s 65536 0 255)=true:=a;rw[bJ] at a;obtain⟨E,O,rfl,F,P⟩:=vX o;refine#[12,rfl,.inl #[by decide,"tell_ever",_,a7 (i:=11) rfl,λH I p=>?_]];have p:fP c z H I v (eU x (.ever (gI b) (gI s))):=p;rw[mR (MG _ _)] at p;exact#[A,C,E,O,_,_,rfl,n,by rw[iV a.1];exact F,by rw[iV a.2];exact P,b1.V3 hB (O3 _ _) p]
 by_cases ad:d=13
 .subst ad
  cases(show some (0,1)=some (g,j) from e);obtain rfl:=dJ l;obtain⟨b,rfl⟩:=gf m;exact#[13,rfl,rQ (cl:=.bare) (a7 (i:=12) rfl) (by decide) rfl Og (OY) hB n o a]
 by_cases ae:d=14
 .subst ae
  cases(show some (0,4)=some (g,j) from e);obtain rfl:=dJ l;obtain⟨b,s,af,ah,rfl⟩:=B3 m;have a:(eE b 65536 0 255&&(eE s 65536 0 (2^1024-1)&&(eE af 65536 0 (2^1024-1)&&eE ah 65536 0 (2^1024-1))))=true:=a;simp only[bJ] at a;obtain⟨h0,D,t,y⟩:=a;obtain⟨E,aD,ca,fa,rfl,F,aF,aG,aH⟩:=OT o;refine#[14,rfl,.inl #[by decide,"tell_proof",_,a7 (i:=13) rfl,λH I p=>?_]];have p:fP c z H I v (eU x (.proof (gI b) (gH s) (gH af) (gH ah))):=p;rw[mR (NH _ _ _ _)] at p;exact#[A,C,E,aD,ca,fa,_,_,_,_,rfl,n,by rw[iV h0];exact F,by rw[o0 D];exact aF,by rw[o0 t];exact aG,by rw[o0 y];exact aH,b1.V3 hB (O4 _ _ _ _) p]
 by_cases ai:d=15
 .subst ai
  cases(show some (0,1)=some (g,j) from e);obtain rfl:=dJ l;obtain⟨b,rfl⟩:=gf m;exact#[15,rfl,iX (cl:=.lay (gI b)) (ns:=[]) (rws:=[nb (gI b)]) (a7 (i:=0) rfl) (by decide) rfl #[_,rfl,rfl] rfl q hB u n o (by show[L _]=[_];rw[iV a])]
 by_cases al:d=16
 .subst al
  cases(show some (2,0)=some (g,j) from e);obtain⟨f,r,rfl⟩:=iW l;obtain rfl:=dJ m;have a:(ge f 1024&&ge r 1024)=true:=a;rw[bJ] at a;exact#[16,rfl,iX (cl:=.lift f.toNat r.toNat) (ns:=[f.toNat,r.toNat]) (rws:=[]) (a7 (i:=1) rfl) (by decide) rfl #[_,_,rfl,rfl] (vY (fR a.1) (fR a.2)) q hB u n o rfl]
 by_cases am:d=17
 .subst am
  cases(show some (2,0)=some (g,j) from e);obtain⟨f,r,rfl⟩:=iW l;obtain rfl:=dJ m;have a:(ge f 1024&&ge r 1024)=true:=a;rw[bJ] at a;exact#[17,rfl,iX (cl:=.drop f.toNat r.toNat) (ns:=[f.toNat,r.toNat]) (rws:=[]) (a7 (i:=2) rfl) (by decide) rfl #[_,_,rfl,rfl] (vY (fR a.1) (fR a.2)) q hB u n o rfl]
 by_cases ao:d=18
 .subst ao
  cases(show some (1,0)=some (g,j) from e);obtain⟨f,rfl⟩:=gf l;obtain rfl:=dJ m;exact#[18,rfl,iX (cl:=.go f.toNat) (ns:=[f.toNat]) (rws:=[]) (a7 (i:=3) rfl) (by decide) rfl #[_,rfl,rfl] (rP (fR a)) q hB u n o rfl]
 by_cases as:d=19
 .subst as
  cases(show some (0,0)=some (g,j) from e);obtain rfl:=dJ l;obtain rfl:=dJ m;exact#[19,rfl,iX (cl:=.back) (ns:=[]) (rws:=[]) (a7 (i:=4) rfl) (by decide) rfl rfl rfl q hB u n o rfl]
 by_cases au:d=20
 .subst au
  cases(show some (0,0)=some (g,j) from e);obtain rfl:=dJ l;obtain rfl:=dJ m;exact#[20,rfl,iX (cl:=.stands) (ns:=[]) (rws:=[]) (a7 (i:=5) rfl) (by decide) rfl rfl rfl q hB u n o rfl]
 by_cases aw:d=21
 .subst aw
  cases(show some (0,1)=some (g,j) from e);obtain rfl:=dJ l;obtain⟨b,rfl⟩:=gf m;exact#[21,rfl,iX (cl:=.account (gH b)) (ns:=[]) (rws:=[gH b]) (a7 (i:=6) rfl) (by decide) rfl #[_,rfl,rfl] rfl q hB u n o (by show[L _]=[_];rw[o0 a])]
 by_cases ax:d=22
 .subst ax
  cases(show some (1,0)=some (g,j) from e);obtain⟨f,rfl⟩:=gf l;obtain rfl:=dJ m;exact#[22,rfl,iX (cl:=.loop f.toNat) (ns:=[f.toNat]) (rws:=[]) (a7 (i:=7) rfl) (by decide) rfl #[_,rfl,rfl] (rP (fR a)) q hB u n o rfl]
 by_cases aB:d=23
 .subst aB
  cases(show some (0,0)=some (g,j) from e);obtain rfl:=dJ l;obtain rfl:=dJ m;exact#[23,rfl,iX (cl:=.text) (ns:=[]) (rws:=[]) (a7 (i:=8) rfl) (by decide) rfl rfl rfl q hB u n o rfl]
 unfold jQ at e;rw[if_neg D,if_neg t,if_neg y,if_neg N,if_neg R,if_neg S,if_neg T,if_neg U,if_neg W,if_neg Z,if_neg aa,if_neg ab,if_neg ad,if_neg ae,if_neg ai,if_neg al,if_neg am,if_neg ao,if_neg as,if_neg au,if_neg aw,if_neg ax,if_neg aB] at e;cases e
end Mb
end
section
namespace Ma
open Marble
structure WB(a:Board):Prop where
 part:∀b c,a.parts[b]? =some c->ey b c
 Vl:∀d∈a.hoppers,d.2<a.parts.length
 np:a.parts.length<=64
 nh:a.hoppers.length<=8
def WS(a:Board):Spot->Prop
 | .trayName| .trayEnd _| .wheelName| .gateName| .gateSize _=>a.hoppers=[]/\a.parts.length<64
 | .wheelWay _ b=>(a.hoppers=[]/\a.parts.length<64)/\(∀w∈b,w<a.parts.length)/\b.length<=4
 | .wheelAt _ b=>(a.hoppers=[]/\a.parts.length<64)/\(∀w∈b,w<a.parts.length)/\b.length<=4/\2<=b.length
 | .wheelEnd _ b e=>(a.hoppers=[]/\a.parts.length<64)/\(∀w∈b,w<a.parts.length)/\b.length<=4/\2<=b.length/\e<b.length
 | .gateTo _ c=>(a.hoppers=[]/\a.parts.length<64)/\2<=c/\c<=100
 | .gateOpen _ c d| .gateWith _ c d=>(a.hoppers=[]/\a.parts.length<64)/\2<=c/\c<=100/\d<a.parts.length
 | .gateEnd _ c d f=>(a.hoppers=[]/\a.parts.length<64)/\2<=c/\c<=100/\d<a.parts.length/\f<c
 | .hopName| .hopTo _=>a.hoppers.length<8
 | .hopEnd _ g=>a.hoppers.length<8/\g<a.parts.length
 |_=>True
theorem WB.put{a:Board}(e:WB a)(g:a.hoppers=[])(hl:a.parts.length<64){c:Part}(w:ey a.parts.length c):WB (a.put c):=by
 refine#[λb f hq=>?_,λi d=>?_,?_,e.nh]
 .have hq:(a.parts++[c])[b]? =some f:=hq
  by_cases j:b<a.parts.length
  .rw[cF j] at hq
   exact e.part b f hq
  .rw[dB (by omega)] at hq
   match k:b-a.parts.length,hq with
   |0,hq=>cases hq;rw[show b=a.parts.length by omega];exact w
   |l+1,hq=>simp at hq
 .have d:i∈a.hoppers:=d
  rw[g] at d;cases d
 .show(a.parts++[c]).length<=64
  rw[bq];exact hl
theorem oB{a:Board}{d:Name}{b:Nat}(c:a.find d=some b):b<a.parts.length:=by
 unfold ut at c;have:=List.findIdx?_eq_some_iff_getElem.mp c;obtain⟨D,_⟩:=this;unfold kH at D;rw[ag] at D;exact D
theorem v0{c:Board}{e:Name}{f:Nat->Spot×Board}{g:Spot×Board}(a:(c.find e).map f=some g):∃b,b<c.parts.length/\f b=g:=by
 cases d:c.find e with
 |none=>rw[d] at a;cases a
 |some b=>rw[d] at a;exact#[b,oB d,b5 a]
theorem e6{a:Board}(b:(a.hoppers.isEmpty&&decide (a.parts.length<PARTS))=true):a.hoppers=[]/\a.parts.length<64:=by
 rw[bJ,List.isEmpty_iff,decide_eq_true_eq] at b;exact b
theorem WB.wheel{a:Board}(g:WB a){i:Name}{b:List Nat}{d:Option Nat}(e:a.hoppers=[]/\a.parts.length<64)(hl:∀w∈b,w<a.parts.length)(j:b.length<=4)(k:2<=b.length)(l:∀f,d=some f->f<b.length):WB (a.put (.wheel i b d)):=
 g.put e.1 e.2 #[hl,(λ_ _ _ c=>by cases c;exact#[k,j,l]),(λ_ _ _ _ c=>by cases c)]
theorem WB.gate{a:Board}(i:WB a){j:Name}{b d:Nat}{e:Option Nat}(f:a.hoppers=[]/\a.parts.length<64)(k:2<=b)(D:b<=100)(l:d<a.parts.length)(m:∀g,e=some g->g<b):WB (a.put (.gate j b d e)):=
 i.put f.1 f.2 #[λw n=>by rw[cb.mp n];exact l,(λ_ _ _ c=>by cases c),(λ_ _ _ _ c=>by cases c;exact#[k,D,m])]
theorem O7{i j:Board}{k l:Spot}{m:Tok}(c:WB i)(a:WS i k)(b:i.next k m=some (l,j)):WB j/\WS j l:=by
 cases k<;>cases m<;>unfold jE at b<;>dsimp only at b<;>(try (cases b;done))
 all_goals (try (split at b;all_goals (try (cases b;done))))
 all_goals (try (split at b;all_goals (try (cases b;done))))
 all_goals (try (split at b;all_goals (try (cases b;done))))
 all_goals (try (split at b;all_goals (try (cases b;done))))
 all_goals (try cases b)
 .exact#[c,trivial]
 .exact#[c,trivial]
 .rename_i d;exact#[c,e6 d.2]
 .rename_i d;exact#[c,e6 d.2.1]
 .rename_i d;exact#[c,e6 d.2.1]
 .rename_i d;exact#[c,d.2.2]
 .exact#[c,a]
 .exact#[c.put a.1 a.2 #[λw f=>(by cases f),λ_ _ _ b=>(by cases b),λ_ _ _ _ b=>(by cases b)],trivial]
 .exact#[c,a,λw f=>(by cases f),aR _]
 .rename_i d;exact#[c,a.1,a.2.1,a.2.2,d]
 .rename_i d
  obtain⟨n,g,b⟩:=v0 b;cases b;refine#[c,a.1,λw f=>?_,?_]
  .rcases c4.mp f with e|e
   .exact a.2.1 w e
   .rw[cb.mp e];exact g
  .rw[bq,lF]
   omega
 .rename_i d;exact#[c.wheel a.1 a.2.1 a.2.2 d (λ_ b=>by cases b),trivial]
 .rename_i d;exact#[c,a.1,a.2.1,a.2.2.1,a.2.2.2,d]
 .exact#[c.wheel a.1 a.2.1 a.2.2.1 a.2.2.2.1 (λ_ b=>by cases b;exact a.2.2.2.2),trivial]
 .exact#[c,a]
 .rename_i d;exact#[c,a,d]
 .obtain⟨n,g,b⟩:=v0 b
  cases b;exact#[c,a.1,a.2.1,a.2.2,g]
 .exact#[c,a]
 .exact#[c.gate a.1 a.2.1 a.2.2.1 a.2.2.2 (λ_ b=>by cases b),trivial]
 .rename_i d;exact#[c,a.1,a.2.1,a.2.2.1,a.2.2.2,d]
 .exact#[c.gate a.1 a.2.1 a.2.2.1 a.2.2.2.1 (λ_ b=>by cases b;exact a.2.2.2.2),trivial]
 .exact#[c,a]
 .obtain⟨n,g,b⟩:=v0 b
  cases b;exact#[c,a,g]
 .refine#[#[c.part,λd o=>?_,c.np,?_],trivial]
  .rcases c4.mp o with e|e
   .exact c.Vl d e
   .rw[cb.mp e];exact a.2
  .show(i.hoppers++[_]).length<=8
   rw[bq];exact a.1
theorem B6{l:Nat}:∀{i:List (Tok×Nat)}{S:Spot}{b e:Board},WB b->WS b S->readFrom l S b i=.ok e->Wf e
 |[],S,b,e,c,j,a=>by
  unfold readFrom at a;split at a
  .rename_i m
   cases a;obtain⟨d,f,k⟩:∃d f,b.hoppers=d::f:=by
    cases n:b.hoppers with
    |nil=>exact absurd n m.2
    |cons d f=>exact#[d,f,rfl]
   have:=c.Vl d (by rw[k];exact a4 ..);exact#[c.part,c.Vl,#[by omega,c.np],#[by rw[k];exact O8 (aR _),c.nh]]
  .cases a
 |d::i,S,b,e,c,j,a=>by
  unfold readFrom at a;cases g:b.next S d.1 with
  |none=>rw[g] at a;cases a
  |some p=>
   rw[g] at a;obtain⟨D,o⟩:=O7 c j (g);exact B6 D o a
theorem iY{d:Bytes}{c:Board}(a:read d=.ok c):Wf c:=B6 (S:=.begin_) (b:=#[[],[]]) #[λ_ _ a=>(by simp at a),λ_ a=>(by cases a),aR _,aR _] trivial a
end Ma
end
section
namespace Mb
open PySem PySem.Spec PyProof.Rows L2 Ex TL
theorem cs(a:Nat):(c9 a).length<=20000:=(by decide:1<=20000)
theorem fS(a:Nat):(iM a).length<=20000:=(by decide:1<=20000)
theorem mS{a:List Nat}(b:a.length<=10100):(da a).length<=10101:=by
 unfold da Marble.ints;rw[ag,bV];omega
theorem v2{a:an}(b:Ma.Wf a)(c:Nm a):(OI a.text).length<=20000:=by
 have:=rq b c;exact bB (mS (by rw[ag];omega)) (by decide)
theorem gg{b:ay}{bad:Bool}{c:an->gG}(d:bad=false-> ∀a,bQ b=.ok a->(c a).length<=20000):(vg b bad c).length<=20000:=by
 unfold vg;split
 .exact cs 1
 .rename_i e
  split
  .exact cs 2
  .rename_i a f
   exact d (by cases bad;rfl;exact absurd (oN _) e) a f
theorem B7{a f:an}{g:Nat}{c:List Nat}(i:Ma.Wf a)(b:a.apart f g=some c):c.length<=8:=by
 unfold AC at b;obtain⟨j,_,b⟩:=AS b;have e:=A4 b;have l:=i.nh;obtain⟨d,k⟩:∃d,a.hoppers.length=d+1:=#[a.hoppers.length-1,by omega];rw[k] at e;have:=ve d j c e;omega
theorem O9(cl:gd){j:gG}(a:eb cl=some j):j.length<=20000:=by
 cases cl with
 |board d=>
  cases a;split
  .exact cs 1
  .split
   .exact(by decide:2<=20000)
   .exact fS 0
 |print d=>cases a;exact gg λ_ e b=>v2 (Ma.iY b) (Ma.ms b)
 |sizes d=>cases a;exact gg λ_ e b=>(by decide:5<=20000)
 |let_ d i=>
  cases a;refine gg λg e b=>?_;split
  .exact cs 4
  .rename_i hl
   have hl:∀a∈i,a<e.hoppers.length:=λa k=>kU λm=>hl (hT.mpr #[a,k,decide_eq_true (by omega)]);have f:=Ma.iY b;have:=(Ma.qu f i #[e.start,[]] hl (Ma.e1 f)).1;exact bB (mS (by rw[this];have:=f.np;omega)) (by decide)
 |falls d i=>
  cases a;refine gg λg e b=>?_;split
  .exact cs 4
  .rename_i hl
   have hl:∀a∈i,a<e.hoppers.length:=λa k=>kU λm=>hl (hT.mpr #[a,k,decide_eq_true (by omega)]);have f:=Ma.iY b;have D:=Ma.t1 f hl (Ma.e1 f);have s:¬2000<i.length:=of_decide_eq_false g;exact bB (mS (by omega)) (by decide)
 |many d c=>
  cases a;refine gg λg e b=>?_;split
  .have f:=Ma.iY b
   exact bB (mS (by rw[(Ma.qk f _ _).1];have:=f.np;omega)) (by decide)
  .exact cs 5
 |came d c=>
  cases a;refine gg λg e b=>?_;split
  .have f:=Ma.iY b
   exact bB (mS (by rw[Ma.iw];have:=f.np;omega)) (by decide)
  .exact cs 5
 |again d n=>
  cases a;refine gg λg e b=>?_;split
  .exact cs 4
  .exact fS _
 |until_ d n o m p=>
  cases a;refine gg λg e b=>?_;split
  .exact cs 4
  .split
   .exact fS _
   .exact cs 7
 |share d n o=>
  cases a;refine gg λg e b=>?_;split
  .exact cs 4
  .exact(by decide:2<=20000)
 |apart d q p=>
  cases a;refine gg λg j b=>?_;split
  .exact cs 2
  .dsimp only
   split
   .exact cs 4
   .split
    .exact cs 6
    .split
     .rename_i r l
      have:=B7 (Ma.iY b) l;rw[bV];exact bB (O8 (mS (by omega))) (by decide)
     .exact fS 0
 |ever d q=>
  cases a;refine gg λg j b=>?_;split
  .exact cs 2
  .dsimp only
   split
   .exact cs 4
   .split
    .rename_i r l
     have:=B7 (Ma.iY b) l;unfold Marble.ints;rw[ag];omega
    .split
     .exact fS 0
     .exact cs 6
 |bare d=>cases a;exact gg λ_ e b=>v2 (Ma.vt (Ma.iY b)) (Ma.Bo (Ma.ms b))
 |proof d i c t=>
  cases a;refine gg λg e b=>?_;split
  .exact cs 4
  .split
   .exact cs 5
   .exact fS _
 |_=>cases a
theorem O_(a:List fO):(Ma.he a).length<=20000:=by
 unfold Ma.he;split
 .exact(by decide:3<=20000)
 .split
  .exact fS 2
  .exact fS 0
theorem Pa{e:cy}{a:db}(b:Ma.fw a)(cl:gd):(gM e a cl).2.length<=20000:=by
 cases cl with
 |lift i f=>
  unfold gM;dsimp only;split
  .exact cs 4
  .split
   .exact cs 9
   .exact fS 0
 |drop f j=>
  unfold gM;dsimp only;split
  .exact cs 4
  .split
   .exact cs 6
   .exact fS 0
 |go c=>
  unfold gM;dsimp only;split
  .exact cs 1
  .exact fS _
 |stands=>
  have D:=b.wf.np;have k:=b.wf.nh;have l:=b.run.nums.1;have m:=b.run.wait;have n:=b.run.came;have o:=b.all;have p:=b.lifts.len;show(da a.run.nums++da a.run.waiting++da a.run.came++da a.all++da (a.lifts.map λ(g:Option Nat)=>g.getD k7)).length<=20000;unfold da Marble.ints;simp only[bq,ag,bV];omega
 |account d=>
  show(if d.length=a.board.parts.length then mP (a.board.proof a.lifts a.all d) else c9 5).length<=20000;split
  .exact fS _
  .exact cs 5
 |loop c=>
  show(if c<1\/Marble.LOOP<c then c9 1 else Ma.he (a.board.runs a.lifts c a.run)).length<=20000;split
  .exact cs 1
  .exact O_ _
 |text=>exact v2 (Ma.vA b) (Ma.BB b)
 |_=>exact aR _
theorem Pb{a:cy}(b:Ma.e4 a)(cl:gd):(eU a cl).2.length<=20000:=by
 unfold eU;cases c:eb cl with
 |some e=>exact O9 cl c
 |none=>
  dsimp only;split
  .split
   .exact cs 1
   .split
    .exact cs 2
    .exact fS 0
  .split
   .exact fS 0
   .exact cs 4
  .split
   .rename_i d hl
    exact Pa (b.now d hl) _
   .exact cs 8
theorem Pc{b:cy}(a:Ma.e4 b)(cl:gd):Ma.e4 (eU b cl).1:=by
 unfold eU;cases f:eb cl with
 |some g=>exact a
 |none=>
  dsimp only;split
  .split
   .exact a
   .split
    .exact a
    .rename_i i c
     exact Ma.rz a (Ma.Bw (Ma.iY c) (Ma.ms c))
  .split
   .rename_i d j e
    exact Ma.M_ a e
   .exact a
  .split
   .rename_i d hl
    exact Ma.vC a hl _
   .exact a
theorem Pd{a:cy}(b:Ma.e4 a)(cl:List (List Int)):Ma.e4 (jR a cl).1/\(jR a cl).2.length<=20000:=by
 unfold jR;split
 .exact#[Pc b _,Pb b _]
 .exact#[b,aR _]
structure v3(K:aj)(d:Str->Option Value):Prop where
 at_:∃a,d "SHAPES"=some (.ref a)/\ ∀b c e,jQ b=some (c,e)-> ∃f,rO K a b (.ref f)/\ ∀g,a8 K g f [.int (c:Nat),.int (e:Nat)]
theorem Pe{b:Int}{c d:Nat}(a:jQ b=some (c,d)):c<=4/\d<=4:=by
 by_cases D:b=1
 .subst D;cases(a);decide
 by_cases e:b=2
 .subst e;cases(a);decide
 by_cases f:b=3
 .subst f;cases(a);decide
 by_cases g:b=4
 .subst g;cases(a);decide
 by_cases i:b=5
 .subst i;cases(a);decide
 by_cases j:b=6
 .subst j;cases(a);decide
 by_cases k:b=7
 .subst k;cases(a);decide
 by_cases l:b=8
 .subst l;cases(a);decide
 by_cases m:b=9
 .subst m;cases(a);decide
 by_cases n:b=10
 .subst n;cases(a);decide
 by_cases o:b=11
 .subst o;cases(a);decide
 by_cases p:b=12
 .subst p;cases(a);decide
 by_cases q:b=13
 .subst q;cases(a);decide
 by_cases r:b=14
 .subst r;cases(a);decide
 by_cases s:b=15
 .subst s;cases(a);decide
 by_cases t:b=16
 .subst t;cases(a);decide
 by_cases u:b=17
 .subst u;cases(a);decide
 by_cases v:b=18
 .subst v;cases(a);decide
 by_cases w:b=19
 .subst w;cases(a);decide
 by_cases x:b=20
 .subst x;cases(a);decide
 by_cases y:b=21
 .subst y;cases(a);decide
 by_cases z:b=22
 .subst z;cases(a);decide
 by_cases A:b=23
 .subst A;cases(a);decide
 unfold jQ at a;rw[if_neg D,if_neg e,if_neg f,if_neg g,if_neg i,if_neg j,if_neg k,if_neg l,if_neg m,if_neg n,if_neg o,if_neg p,if_neg q,if_neg r,if_neg s,if_neg t,if_neg u,if_neg v,if_neg w,if_neg x,if_neg y,if_neg z,if_neg A] at a;cases a
def mT(a:cy)(b:List (List (List Int))):List Int:=Pf (PyFlat.played jR a (b.map hZ))
theorem Pg(a:cy)(c:List (List Int))(b:List (List (List Int))):mT a (c::b)=((jR a (hZ c)).2.length:Int)::((jR a (hZ c)).2++mT (jR a (hZ c)).1 b):=by
 unfold mT Pf;rw[bE];show u9 _ (_::_)=_;rw[iG];rfl
theorem cX.V5{c:Cs}{f g:G}{k:B}{l:cy}(q:cX c f k l)(i:∀e a,f e=some a->(∀m n,a≠ .R3 m n)->g e=some a):cX c g k l:=by
 obtain⟨r,s,j,t,b⟩:=q;have o:k8 f g:=λe a u p=>i e a u λm n d=>by rw[d] at p;exact p trivial
 exact#[r,s,j,t,i _ _ b.obj (λ_ _ d=>by cases d),i _ _ b.lst (λ_ _ d=>by cases d),b.now.R9 o,#[b.past.1,λv j a D w=>(b.past.2 v j a D w).R9 o],b.most]
theorem B8:∀a:List Nat,(a.map λ(b:Nat)=>(b:Int)).sum=((a.sum:Nat):Int)
 |[]=>rfl
 |b::a=>by rw[bE,hJ,hJ,B8 a];omega
theorem Ph(a:List Nat):L a=(a.map λ(b:Nat)=>(b:Int)).map V.int:=by
 unfold L;rw[dG];rfl
theorem Pj{K:aj}{f j:G}{e c:B}{n:HO}{g:List Int}(a:I K (less f [e]) c (g.map V.int))(k:dw (upd f e n) j):I K (less j [e]) c (g.map V.int):=by
 have l:∀i,less f [e] c=some i->c∉[e]/\f c=some i:=λi b=>by
  unfold less at b;split at b
  .cases b
  .rename_i d;exact#[d,b]
 rcases a with(a|⟨m,a⟩)|a
 .obtain⟨d,a⟩:=l _ a
  exact .inl (.inl (cJ (k.li c g ((aa (λb=>d (cb.mpr b))).trans a)) d))
 .obtain⟨d,a⟩:=l _ a
  exact .inl (.inr #[m,cJ (k.R3 c m _ ((aa (λb=>d (cb.mpr b))).trans a)) d])
 .exact .inr a
theorem Pk{b:G}{c:B}{d:HO}:Same (less b [c]) (upd b c d):=λf g a=>by
 unfold less at a;split at a
 .cases a
 .rename_i e
  rw[aa (λw=>e (cb.mpr w))];exact a
inductive rS(K:aj)(f:List V)(g:G)(i:VK)(j:XK):Prop
 |mk(cl:B)(a:List Int)(k:f=[.ref cl])(l:I K g cl (a.map V.int))(m:a.length<=17000)(n:Pl a=true)(o:∀(b:G)(e:B),b e=some (.lst ((v4 a).map V.int))->i (.ref e) b)
theorem Pm(m:Tx K d c)(b_:Xn c)(ca:Dt K d "CALLS" ((hY c).map λk=>(k.1,k.2.1)))(cc:Dt K d "BENCH_CALLS" ((jP c).map λk=>(k.1,k.2.1)))(cd:v3 K d):ku P w K d base "answers" wa ["calls","bench","told","place","call","shape","behind","numbers","rows","row","answer"] 13 (rS K):=by
 have ce:ao P w K d base 1 "rows_from" ["calls","place","count"] (A_ K):=ML m;have cf:ao P w K d base 13 "answer_or_refusal" ["bench","call","numbers","rows"] (B1 c (hY c) (jP c)):=OP m b_ ca cc (OR m) (OS m);have ch:d8 P w K d base 1 c.Bench "Bench" ["self"] (BV c):=Op m;intro d1 d2 d3 d4 ba ci d6 d7 d_ cj nd ad;obtain⟨cl,e,rfl,cm,hl,n,co⟩:=ad;obtain⟨bb,cq,cr⟩:=cd.at_;refine#[_,(J (al 1 (OQ ch (cj.mono (by decide)) rfl eh))
  (J (al 2 (a3 er))
  (J (al 3 ai)
  (J (i8 cv (aZ ia (E 3) (a1 bd rfl m.Q_ bg (af (E 0))) (aW _))
   (J (al 4 (aI (E 0) (E 3)))
   (J (al 5 (vW (i2 (v:=.ref bb) rfl cq rfl) (E 4) (λ_ _=>rfl)))
   (J (al 6 (aM cg (aM cg (E 3) ai) (dR fC (E 5) ai (λ_ _=>rfl))))
   (J (al 7 (ie ik (E 0) (fZ (aM cg (E 3) ai)) (fZ (E 6))))
   (J (al 8 (aH ce (bD (E 0) (E 6) (dR fC (E 5) ai (λ_ _=>rfl)))))
   (J (al 3 (aM cg (E 6) (a1 (sP rfl) rfl m.Vc AN (af (gW (own:=[("row",9)]) rfl nd (b9 (E 8)) (cS (N:=["calls","bench","told","place","call","shape","behind","numbers","rows","row","answer"]) (sc:=bi wa) (by decide+kernel)) (λ_ _ _ _ _=>aO 9) (λ_ _ _ _ _=>c2)
     (λ_ _ _ _ _=>aM cg ai (a1 (r:=lE K) bd rfl m.Q_ bg (af (E 9)))))))))
   (J (al 10 (G1 (aH cf (eZ (E 1) (E 4) (E 7) (E 8)))))
   (J (aG (cM cI dU ea dS (E 2) (af (a1 bd rfl m.Q_ bg (af (E 10))))))
   (ae (aG (cM cI lH oe lG (E 2) (af (E 10))))))))))))))
  (ae (ax (E 2))))))),?_]
 intro A be bf cs ed;refine#[A,be,rfl,Y,λC ct bk bl cu=>#[rfl,?_]];have cA:Same ci C:=λcD s i=>cu cD s (by rw[aa (aK i bf),aa (aK i cs)];exact i) (aK i bf);refine#[aR _,λf hR=>?_];have cG:cX c (less (upd C f (.lst [])) [f]) A vB:=by
  rw[eT (cb.mpr rfl)];have bm:∀l s,C l=some s->l∉[f]:=λl s i w=>by rw[cb.mp w,hR] at i;cases i
  exact#[be,ct,.non,[],cJ bk (bm _ _ bk),cJ bl (bm _ _ bl),rfl,#[rfl,λo v s ad=>by simp at ad],aR _]
 have cH:I K (less (upd C f (.lst [])) [f]) cl (e.map V.int):=by
  rw[eT (cb.mpr rfl)];exact(show Same C (less C [f]) from λl s i=>cJ i λw=>by rw[cb.mp w,hR] at i;cases i).seq (cA.seq cm)
 unfold Pl Pn at n;cases F:mI jQ e.length e with
 |none=>rw[F] at n;cases n
 |some T=>
 rw[F] at n;have n:(Po 400 (T.map hZ)&&Pp (T.map hZ))=true:=n;unfold Po Pp at n;simp only[bJ,decide_eq_true_eq,io,ag] at n;obtain⟨cK,cN,_⟩:=n;have cO:v4 e=mT vB T:=by
  unfold v4 Pn;rw[F];rfl
 refine#[λbs bx p=>∃(b:Nat)(t:cy)(tl:List Int)(u:List (List (List Int)))(ah:Nat)(bz bA bC bF bG bI bL:Option V),bx=[some (.ref cl),some (.ref A),some (.ref f),some (.int b),bz,bA,bC,bF,bG,bI,bL]/\bs=e.length-b/\b<=e.length/\I K (less p [f]) cl (e.map V.int)/\cX c (less p [f]) A t/\Ma.e4 t/\p f=some (.lst (tl.map V.int))/\
   mI jQ ah (e.drop b)=some u/\(∀k∈u,O6 (hZ k)=true)/\v4 e=tl++mT t u/\u.length<=400/\tl.length<=20001*(400-u.length),#[_,0,vB,[],T,e.length,_,_,_,_,_,_,_,rfl,rfl,aR _,cH,cG,Ma.M9,Y,F,λk G=>cN _ (bK.mpr #[k,G,rfl]),cO,cK,aR _],?_]
 rintro bs bx x ⟨b,t,tl,u,ah,bz,bA,bC,bF,bG,bI,bL,rfl,rfl,ee,bM,cT,bP,U,Q,bR,R,cU,cV⟩;have W:I K x cl (e.map V.int):=(f_ _ _).seq bM;refine#[.inl W,_,rfl,a9 (λy=>#[_,λ_ _ l=>l,?_]) (λam=>?_)]
 .have y:((b:Nat):Int)<((e.map V.int).length:Nat):=of_decide_eq_true y
  rw[ag] at y;have y:b<e.length:=by omega
  obtain⟨k,G⟩:∃k,e[b]? =some k:=#[e[b],a2 y];have cW:e.drop b=k::e.drop (b+1):=by
   rw[JZ y];congr 1;exact b5 ((a2 y).symm.trans G)
  rw[cW] at Q;obtain⟨g,as,xs,cY,c0,c1,au,c5,aB,aD,rfl⟩:=MO Q;obtain⟨c6,aJ,bS⟩:=Bc aB;rw[eK] at c5;rw[ou] at aB aJ bS;rw[eK] at aJ;obtain⟨ef,c8⟩:=Pe au;obtain⟨aL,c_,bT⟩:=cr k g as au;refine#[W,aw (j:=b) (v:=V.int k) (by rw[a6,G];rfl),?_];refine#[bb,_,_,V.ref aL,rfl,rfl,c_,rfl,?_];refine#[aL,_,_,_,rfl,rfl,bT _,aw (j:=0) (v:=V.int (g:Nat)) rfl,?_];refine#[_,rfl,_,rfl,cl,_,rfl,W,λz bU=>?_];have dd:cR (e.map V.int) (some (((b:Nat):Int)+1)) (some (((b:Nat):Int)+1+(g:Nat)))=((e.drop (b+1)).take g).map V.int:=by
   have de:((b:Nat):Int)+1=((b+1:Nat):Int):=rfl;have df:((b:Nat):Int)+1+(g:Nat)=((b+1+g:Nat):Int):=rfl;rw[df,de];unfold cR;rw[HT.hv,HT.hv,ag,hL (by omega),hL (by omega),<-on,<-oo,ug]
  dsimp only;rw[dd];have aN:Same x (upd x z (.lst (((e.drop (b+1)).take g).map V.int))):=.upd bU;have dg:upd x z (.lst (((e.drop (b+1)).take g).map V.int)) z=some (.lst (((e.drop (b+1)).take g).map V.int)):=Y;generalize upd x z (.lst (((e.drop (b+1)).take g).map V.int))=di at*;have dj:f≠z:=aK U bU;have bW:=aN _ _ U;have dk:((e.drop (b+1)).take g).length=g:=by rw[ck,eK];omega
  refine#[aL,_,_,_,rfl,rfl,bT _,aw (j:=1) (v:=V.int (as:Nat)) rfl,cl,e,b+1+g,as,xs,cY,rfl,aN.seq W,by omega,by omega,c8,aB,λdl X aT dm dn aV S dp=>?_];refine#[I.of aV,λbY bZ=>?_];refine eW (K:=K) (a:=X) (xs:=aT.map V.ref) (λo p=>Same dl p/\p bY=some (.lst (L ((xs.map λr=>1+r.length).take o)))) #[.upd bZ,Y] (λo p _ ⟨ba,_⟩=>I.of (ba _ _ aV)) ?_ ?_
  .rintro o eg p dq ⟨H,Z⟩
   obtain⟨dr,b0,rfl⟩:=bt dq;obtain⟨b1,aY⟩:=c7 S.1 b0;have ds:=S.2 o dr b1 b0 aY;have ei:=(aC.mp aY).1;have dt:(xs.map λr=>1+r.length)[o]? =some (1+b1.length):=by rw[a6,aY];rfl
   refine#[rfl,c3 #[.inl (I.of (H _ _ ds)),_,Z,?_,H.put bZ,?_]]
   .rw[aF,ck]
    exact small (by omega)
   .rw[Y,cp dt,<-d9,ag]
    rfl
  rintro q ⟨H,Z⟩;rw[ag,S.1,fD (by rw[ag];exact av _)] at Z;have dw:L (xs.map λr=>1+r.length)=((xs.map λr=>1+r.length).map λ(g:Nat)=>(g:Int)).map V.int:=Ph _;refine#[bY,_,rfl,by rw[<-dw];exact I.of Z,?_];rw[B8];have b2:Same di q:=dm.trans H;have a0:Same x q:=aN.trans b2;refine#[f,_,a0 _ _ U,trivial,λO=>?_];have dx:cX c (upd q f (.R3 O (.lst (tl.map V.int)))) A t:=(cT.same (gE a0)).same Pk;have dy:I K (less q [f]) cl (e.map V.int):=(gE a0).seq bM;have dC:f≠X:=aK bW dn;have dD:upd q f (.R3 O (.lst (tl.map V.int))) z=some (.lst (((e.drop (b+1)).take g).map V.int)):=by rw[aa dj.symm];exact b2 _ _ dg
  have dH:upd q f (.R3 O (.lst (tl.map V.int))) X=some (.lst (aT.map V.ref)):=by rw[aa dC.symm];exact H _ _ aV
  have dJ:ec (upd q f (.R3 O (.lst (tl.map V.int)))) aT xs:=#[S.1,λo a r D dK=>by
   rw[aa (λi=>aK bW (dp a (a7 D)) i.symm)];exact H _ _ (S.2 o a r D dK)]
  have dO:upd q f (.R3 O (.lst (tl.map V.int))) f=some (.R3 O (.lst (tl.map V.int))):=Y;obtain⟨kk,dP,dQ⟩:=O5 au dk c6 (bR _ (a4 ..)) dx bP dD dH dJ;subst dP;refine#[A,kk,.ref z,.ref X,_,rfl,dQ,λdT a b3 ej dV b4=>?_];have a5:=b3.R3 f _ _ dO;refine#[a5,?_];have a8:a≠f:=dL b4 a5 (by intro l;cases l);obtain⟨dW,b6⟩:=Pd bP (hZ (((kk:Int)::(e.drop (b+1)).take g)::xs));rw[Pg] at R;generalize jR t (hZ (((kk:Int)::(e.drop (b+1)).take g)::xs))=r at*;obtain⟨dX,ab⟩:=r;have b7:dT a=some (.lst (ab.map V.int)):=b4;have b6:ab.length<=20000:=b6;rw[bV] at cU cV;refine#[.inl #[rfl,_,I.of Y],.inl (I.of ((aa a8).trans b7)),Y,?_,?_]
  .rw[ag]
   exact iH (by omega)
  refine#[.inl #[rfl,_,I.of Y],f,a,_,_,rfl,rfl,Y,by rw[aa a8,aa a8];exact b7,?_,?_]
  .rw[bq,ag,ag,lF]
   exact dc (iH (by omega))
  have el:(xs.map λr=>1+r.length).sum<=e.length-(b+1+g):=aJ;refine#[e.length-(b+1+g+(xs.map λr=>1+r.length).sum),by omega,b+1+g+(xs.map λr=>1+r.length).sum,dX,tl++[(ab.length:Int)]++ab,c0,c1,_,_,_,_,_,_,_,rfl,rfl,by omega,?_,?_,dW,?_,?_,λk G=>bR k (bj _ G),?_,by omega,?_]
  .rw[eT (cb.mpr rfl),eT (cb.mpr rfl),eT (cb.mpr rfl)]
   exact Pj dy b3
  .rw[eT (cb.mpr rfl),eT (cb.mpr rfl),eT (cb.mpr rfl)]
   exact dV.V5 λl s i dZ=>cJ i λw=>by rw[cb.mp w,a5] at i;cases i;exact dZ _ _ rfl
  .rw[Y,br,br,ag]
   rfl
  .rw[bS] at aD
   rw[ou,<-l3 (b+1) g] at aD;exact aD
  .rw[R]
   simp
  .rw[bq,bq,lF]
   omega
 .have am:¬((b:Nat):Int)<((e.map V.int).length:Nat):=λl=>am (decide_eq_true l)
  rw[ag] at am;have i:e.drop b=[]:=ue (by omega);rw[i] at Q;have F:u=[]:=by
   cases ah<;>(unfold mI at Q;cases Q;rfl)
  rw[F] at R;have d0:mT t []=[]:=rfl;rw[d0,eH] at R;refine(co x f ?_);rw[U,R]
theorem Pq:∀a b c d,rS K a b c d->a.length=["calls"].length:=by
 rintro a b c d ⟨cl,e,rfl,_⟩;rfl
end Mb
end
section
namespace L2
open PySem PySem.W PySem.Spec PySem.Calls PyProof.Rows
def Pr{r:OpenSpec}{k:Nat}{a:Program}{b:List Str}{c:(Str->Option Value)->Heap->Prop}{d:World->Heap->Prop}{e:DefRec}{K:fx->aj}{CX:World->fz}{ps:List Str}(f:aj->Sp):=
 @Iu r k a b c d e K CX ps (λw=>f (K w.params))
end L2
namespace Mb
open PySem PySem.Spec PyProof.Rows L2 Ex TL
theorem B9{K:aj}{g:Heap}{d:Str->Option Value}{i:Str}(j:K.In g)(k:g.Ns en d){c:B}{e:ak}{f:Array hh}(m:cn K en i=some (some (.ref c)))(n:K.lookup c=some e)(o:rN e=some f){l:List (Nat×Str)}
  (p:∀a∈l,∃b,cn K en a.2=some (some (.ref b))/\nH hi f (.inl (a.1:Nat))=some (.ref b)):Dt K d i l:=
 #[c,tF j k m,λa q=>let⟨b,D,r⟩:=p a q;#[b,tF j k D,e,f,n,o,r]]
abbrev o1:List (Int×Nat×Nat):=[(1,0,1),(2,0,1),(3,0,1),(4,0,2),(5,0,2),(6,0,2),(7,0,2),(8,1,1),(9,4,1),(10,2,1),(11,1,2),(12,0,2),(13,0,1),(14,0,4),(15,0,1),(16,2,0),(17,2,0),(18,1,0),(19,0,0),(20,0,0),(21,0,1),(22,1,0),(23,0,0)]
theorem Ps{a e:Int}{f g:Nat}{i:Option (Nat×Nat)}{b c:Nat}(k:(e,f,g)∈o1)(d:(if a=e then some (f,g) else i)=some (b,c))(l:i=some (b,c)->(a,b,c)∈o1):(a,b,c)∈o1:=by
 by_cases j:a=e
 .subst j
  rw[if_pos rfl] at d;cases d;exact k
 .rw[if_neg j] at d
  exact l d
theorem Pt{b:Int}{c d:Nat}(a:jQ b=some (c,d)):(b,c,d)∈o1:=by
 unfold jQ at a
 iterate 23 (refine Ps ?_ a ?_;(exact of_decide_eq_true (Eq.refl true));intro a)
 cases a
theorem Pu{K:aj}{g:Heap}{d:Str->Option Value}(i:K.In g)(j:g.Ns en d){b:B}{c:ak}{e:Array hh}(k:cn K en "SHAPES"=some (some (.ref b)))(l:K.lookup b=some c)(m:rN c=some e)
  (n:∀f∈o1,∃a,nH hi e (.inl f.1)=some (.ref a)/\IA K a [.int (f.2.1:Nat),.int (f.2.2:Nat)]):v3 K d:=by
 refine#[b,tF i j k,λq r s o=>?_];obtain⟨a,D,p⟩:=n _ (Pt o);exact#[a,#[c,e,l,m,D],λt=>.inr p]
theorem Pw{P:Program}{w:World}{K:aj}{h:Heap}{d:Str->Option Value}{c:Cs}{fa:B}(j:d "answers"=some (.ref fa))(f:Tx K d c)(k:Xn c)(l:Dt K d "CALLS" ((hY c).map λb=>(b.1,b.2.1)))(m:Dt K d "BENCH_CALLS" ((jP c).map λb=>(b.1,b.2.1)))(n:v3 K d):
  ∃e:fA,(∀(g:M)(a:List Value),a.length=(["calls"]:List Str).length->pq g e #[a,[]] ((["calls"]:List Str).zip a))/\ ∀base:Heap,K.In base->base.Ns en d->ee P w K d base (cc P w) 14 fa e ["calls"] (rS K):=by
 obtain⟨r,⟨e,i⟩,o⟩:=f.U6;cases o.symm.trans j;refine#[e,?_,λbase _ _=>(tx i _ (ku.up (Pm f k l m n)) Pq).1];obtain⟨s,t,kV,u,v,x,y,z,A,rfl,lk,C⟩:=i.ex;exact λg a q=>.of_eq (kr (p:=λa=>sE _ #[a,[]]=pure ((_:List Str).zip a)) (λ_=>rfl) a q)
theorem Px{P:Program}{w:World}{a:G}{b:M}{c:Value}{d:M}(e:cc P w [] a b (λ_ _ _=>False) c d):False:=by
 obtain⟨_,_,_,_,_,_,f⟩:=e;exact f
end Mb
end
open PySem PySem.W PySem.Spec PyProof.Rows L2 Ex TL Mb
set_option maxRecDepth 100000 in
set_option maxHeartbeats 0 in
theorem PySem.Challenge.cw_marblebench_s01_answers_holds : PySem.Challenge.rw_marblebench_s01_answers.Holds := by
 refine holds_os (r:=PySem.Challenge.rw_marblebench_s01_answers) (q:=hq) (loose:=hl) (Xt:=hX) (XP:=XL hq []) (Yf:=λg=>hA.map g.heap.get?) (Ya:=hG) (YP:=InK hK) (N:=15038) CT (λw g f=>InK.of Cv w g (f.trans dG)) InK.keeps (λg f=>xl_of g (tD.mp f).1) XL.keeps (by rfl) (by rfl) (by rfl) (λg f=>recFacts_of (tD.mp f).2) os_shapes Cm (by decide+kernel) #[rfl,rfl,rfl,rfl,rfl,by decide+kernel] #[[.list [.int 1,.int 0]],by decide+kernel,by decide+kernel] ?hc
 k_fillS
 refine L2.Pr (r:=PySem.Challenge.rw_marblebench_s01_answers) (k:=14) (CX:=λw=>Ex.cc PySem.Challenge.rw_marblebench_s01_answers.prog w) (ps:=["calls"]) Mb.rS (by decide+kernel) rfl rfl #[rfl,by decide,by decide] (λw j l=>l) ?F ?S (λ_ _ _ _ _ o=>Mb.Px o)
 case F=>
  intro w d fa j l b e p;refine' Mb.Pw (h:=j) (c:=#[31,52,73,117,178,177,289,310,309,323,322,336,335,349,348,362,361,375,374,388,387,401,400,539,894]) p ?qqT ?qqN ?qqD1 ?qqD2 ?qqD3
  case qqT=>
   constructor
   all_goals first
    |k_is
    |(unfold bZ;k_is)
    |exact Iv b e (by k_is) #[_,_,_,_,_,_,_,_,_,by k_is,by k_is,by k_is]
    |exact mg_of b e (by k_is)
    |exact#[_,mg_of b e (by k_is)]
    |exact#[by k_is,by k_is,by k_is,by k_is]
    |exact mg_none_of b e (by k_is)
    |exact Iz #[_,by k_is,rfl,by first|k_is|rfl|kernel_rfl]
    |exact IC (by k_is) (by k_is) #[_,_,_,_,_,_,_,_,_,by k_is,by k_is,by k_is]
    |exact ID (by k_is) (by k_is) #[_,_,_,_,_,_,_,_,_,by k_is,by k_is,by k_is] (by k_is) (by k_is)
    |exact IE (by k_is) (by k_is) #[_,_,_,_,_,_,_,_,_,by k_is,by k_is,by k_is]
    |exact#[_,mg_of b e (by k_is),λs=>.inr #[_,_,_,by k_is,rfl,rfl,by decide,by repeat (first|exact .nil|refine .cons #[_,rfl] ?_)]]
  case qqN=>exact#[by decide+kernel]
  case qqD1=>
   refine B9 b e (by k_is) (by k_is) (by first|rfl|kernel_rfl) ?_;intro m a;simp only[hY,bE,im,bw,gz,or_false] at a;rcases a with rfl|rfl|rfl|rfl|rfl|rfl|rfl|rfl|rfl|rfl|rfl|rfl|rfl|rfl<;>exact#[_,by k_is,by first|rfl|kernel_rfl]
  case qqD2=>
   refine B9 b e (by k_is) (by k_is) (by first|rfl|kernel_rfl) ?_;intro m a;simp only[jP,bE,im,bw,gz,or_false] at a;rcases a with rfl|rfl|rfl|rfl|rfl|rfl|rfl|rfl|rfl<;>exact#[_,by k_is,by first|rfl|kernel_rfl]
  case qqD3=>
   refine Pu b e (by k_is) (by k_is) (by first|rfl|kernel_rfl) ?_;intro m a;simp only[bw,gz,or_false] at a;rcases a with rfl|rfl|rfl|rfl|rfl|rfl|rfl|rfl|rfl|rfl|rfl|rfl|rfl|rfl|rfl|rfl|rfl|rfl|rfl|rfl|rfl|rfl|rfl<;>exact#[_,by first|rfl|kernel_rfl,_,_,_,by k_is,rfl,rfl,by decide,by repeat (first|exact .nil|refine .cons #[_,rfl] ?_)]
 case S=>
  intro w s A i C t u a;cases a with
  |cons D v=>
   cases v;cases D with
   |lst x y=>
    have f:=L2.yA i.1 _ y;subst f;have n:((Codec.inLen 0 17000 i.1&&i.1.all (Codec.inInt 0 1152921504606846975))&&true)=true:=t;rw[bJ,bJ] at n;exact#[_,i.1,rfl,x,(Codec.inNat_iff.mp n.1.1).2,u,λE G z=>.lst (L2.I.of z) (L2.yz _)]
