import PyProof.Rows.All
import Wide.All
import OpenK.AllK
import Wide.FinOn
import Lean
import KE.RegKTryMore
import PySem.Challenge.RW_wagebook_k07_whole_told_in_any_order
import KE.LcSums
import KE.KDictSum
import KE.KDictLaws
import KE.KPairComp
import PyProof.EqAt
import PyProof.EqKinds
import PyProof.TupleCall
import PyProof.NeKinds
import PyProof.ZipIter
import PyProof.Rows.SetFrom
import PyProof.Rows.SortShell
import PyProof.LongRange
import PyProof.CollectWalk
import PyProof.Rows.StrMul
import PyProof.Rows.SortStr
import KE.KTryMore
import PyProof.DictItems
import PyProof.DictWalks
import KE.KRevSl
import PyProof.Rows.StrJoinRep
open PySem renaming wpAny_bind->A0,Value->A3,wpAny_pure->A8,Shared->A9,Spec->Ay,sizeLine->AK,wpAny->AV,FuncData->Aa,Program->Ab,SetTable->Ac,model->Af,Builtin->Am,World->At,mainGlobals->AB,Around->AH,starEach->AR,wpAny_newObj_type->B7,bootBuiltins->Bw,NameKind->Bx,wpAny_call_entry->Bz,wpAny_callSpecial?_slot->Bj,Paired->BV,wpAny_setField_rec->Bb,PassesOwn->Bc,wpAny_truthy_bool->Bf,mem_of_lookup->Bl,compareOp->Bs,sizeLine_eq->Bu,binaryOp->C0,wpAny_field->C6,wpAny_typeNameOfWhole_keyiter->Cj,wpAny_seqItems->Ck,rawInt->Cb,wpAny_passesOwn->Cs,wpAny_setState_of->Ct,wpAny_holding->CD,wpAny_attempt->CF,behindInMarks->CG,IsPair->CM,wpAny_setEntries_of->CU,wpAny_Call_Name_kw->D6,codeAny_mono->D7,codeAny_builtin->Dz,attributeBase->Dv,pyNext->Dy,wpAny_pyIter_list->DZ,intKind->DJ,Scope->DV,wpAny_mono->Db,firstArgMember->Dc,wpAny_isInstance->Dh,codeAny->DD,tupleKind_room_in1->DE,backTo->DF,sliceBounds->DP,cLine->DR,foldedSetIterable->E5,wpAny_execs_cons->Ey,plainId_quiet->EJ,wpAny_execs_nil->Eb,letOwnedTupleGo->Ec,call_meetsIn->Em,treeTable->Er,wpAny_pyIter_range->Et,isSubtype_stop->EA,assignEach->EB,wpAny_pyIter_slot->ES,wpAny_dictEntries->ET,wpAny_Return_some->EU,subscripted->F0,slot_list_getitem->Fq,setNext->Fw,IsZip->Fk,wpAny_getItem_list_slice->Fy,rangeSize_one->FW,wpAny_askSetting->FY,tupleKind->Fa,swapsWith->Fb,pickOrder->Fc,noFill_tuple_add->Fd,wpAny_rule->Ft,wpAny_pyIter_longrange->Fu,getItem->FD,Within->FE,wpAny_updateSeq->G4,wpAny_ite_split->G5,wpAny_dictEpoch->G6,importedModules->G7,Walks->G8,wpAny_isTrue_Compare1->GQ,wpAny_isOneOf_keyiter->GW,codeAny_handlers_test->GX,builtinLookup_eq_fast->GZ,wpAny_updateSeq_pair->Gg,wpAny_setField->Gh,wpAny_pyIter_keyiter->Gi,wpAny_of_eq->Gm,relayAll->Go,pyIter->Gp,keywordEach->Gr,isSubtype_type->Gu,IsRangeIter->GF,CmpOp->GH,valueAt->GL,scanBound->GM,callerA->GN,DictEntry->GR,wpAny_handleBy_cons->GS,wpAny_onRaise->Hj,wpAny_handled->Hk,seq_tuple_add->Hv,evalPart_none->HQ,wpAny_pyIter_tuple->HV,wpAny_load->HY,wpAny_call->Hg,setEntries->Hh,intKind_is->Hi,IsPart->Hu,wpAny_typeOf->HD,wpAny_storeSet_of->HE,wpAny_setEpoch_of->HF,wpAny_pyIter_dict->HG,wpAny_Call_method->HH,fits_of_scanBound->HL,concat_meets->HM,ZipApart->HN,BindsTo->Kj,wpAny_pyIter_zip->Kk,wpAny_Dict_empty->Kv,getMethod->Ky,Result->KQ,Params->KY,wpAny_throw->Kf,wpAny_letGo->Kg,atKey->Kh,Drawn->Kn,Keyword->Ku,wpAny_Name->KB,builtinsNs->KD,bindL->KF,bindC->KG,backToKw->KH,call->KM,IsLongIter->M4,GenState->M7,collect->M9,cellsFrom->MW,relabel->MX,OsState->MJ,IsRange->MV,field->MY,Model->Ma
open List renaming getElem?_eq_getElem->A1,length_map->A2,mem_singleton->A5,getElem?_eq_some_iff->A7,mem_cons->Aq,getElem?_map->Ax,mem_cons_self->Az,length_append->AQ,size_toArray->AX,map_append->AJ,mem_cons_of_mem->AY,mem_append->Ae,mem_map->Ag,mem_append_right->Ah,map_cons->Al,length_take->Ao,take_add_one->Ap,mem_of_getElem?->Au,take_of_length_le->AC,not_mem_nil->AG,nodup_cons->AL,length_cons->AN,range->AT,getElem?_append_left->AU,map_map->B2,take_length->B3,mem_map_of_mem->B4,mem_filter->B5,getElem_mem->B8,any_eq_true->B9,filter_append->Bv,nodup_nil->BZ,getElem?_append_right->BJ,length_filter_le->BK,mem_append_left->Ba,append_nil->Be,all_eq_true->Bi,map_congr_left->Bm,length->Bn,pairwise_cons->BA,find?_cons->BD,length_singleton->BG,any_cons->BM,nodup_iff_pairwise_ne->C4,append_assoc->C5,getElem?_eq_none->C8,lookup_cons->Cq,filter_cons->Cw,sum_cons->Cz,eq_nil_of_length_eq_zero->CQ,nodup_append->CK,length_nil->CY,Pairwise->Ch,length_drop->Ci,take_append_drop->Co,length_range->Cu,foldl_append->CA,filterMap_cons->D0,lookup->D5,drop_eq_nil_of_le->D8,eq_nil_or_concat->DW,concat_eq_append->DX,perm_ext_iff_of_nodup->Dd,mem_range->De,map_nil->Dn,ext_getElem->Do,length_reverse->Du,map_take->DC,pairwise_singleton->DU,length_eq_zero_iff->E2,filter_cons_of_pos->E3,filter_cons_of_neg->E4,take_sublist->Ex,pairwise_lt_range->Ez,mem_of_mem_take->EY,getElem?_of_mem->Ea,dropLast_concat_getLast->Ef,mergeSort_perm->Eh,length_pos_iff->Ei,mem_filterMap->EF,length_eraseIdx_of_lt->EG,getElem?_zip_eq_some->EL,drop_eq_getElem_cons->EM,getElem?_take_of_lt->FZ,pairwise_mergeSort->Fm,drop_length->Fo,cons_append->Fp,range_succ_eq_map->FP,getElem?_set_self->FR,sum_append->Gz,range_succ->Gj,of_mem_zip->Gk,forIn_cons->Gv,filter_nil->Gy,getElem?_reverse->Ge,map->GC,getElem?_set_ne->GD,Perm->GP,take_nil->HZ,getElem?_drop->Ht,sum_nil->K5,reverse_cons->K6,pairwise_map->K7,any_map->K8,any_eq_false->K9,zipIdx_cons->Kb,isEmpty_iff->Kc,cons_ne_nil->Kd,cons->Ke,zipIdx_nil->Ks,any_append->Kt,take_zero->KS,replicate->KU,forIn_nil->M0,drop_zero->M1,map_drop->Mj,all_cons->Mv
open PySem.Heap renaming get?_push_of_some->A4,get?_push_size->Aw,lt_size->AZ,size_push->By,SameBut->Br,get?_update_self->C9,get?_update_other->Dq,ExtBut->Km,UpToSlots->M5,IsSliceOf->M6
open Nat renaming le_refl->A6,ne_of_lt->Ar,zero_le->AA,lt_of_lt_of_le->AF,le_trans->B0,le_succ_of_le->B1,lt_succ_of_lt->Bp,lt_of_le_of_lt->BR,lt_succ_self->BU,ne_of_gt->Ce,le_of_lt->Cf,lt_irrefl->CL,le_add_right->D2,le_succ->D4,not_lt->DM,succ_le_succ->EX,sub_self->FN,le_of_ble_eq_true->Gd,add_le_add_left->Hq,eq_zero_or_pos->Hr,add_sub_cancel->Hs,lt_trans->K3,le_of_eq->K4,min_eq_right->Ka,min_eq_left->Kr,succ->KR
open Sum renaming inl->Aj,inr->Av
open Option renaming map_eq_some_iff->Ak,some->AM,isSome_iff_exists->BH,getD_some->Dm,map_some->Ee,getD_none->Fl,isSome_map->K0
open Bool renaming false_ne_true->AW,and_eq_true->As,false_and->CJ,and_eq_true_iff->CC,eq_iff_iff->Dk,false_eq_true->DN,and_false->Ek,or_eq_true_iff->El,true_and->FK,or_false->FV,false_or->HK,not_eq_true'->Kx,eq_false_iff->Kz,and_assoc->M8
open Option.some renaming inj->Ai
open PySem.PassesOwn renaming never->AD
open PySem.SeqAt renaming EqAt->AE,RcNeAt->DG,RcAt->EW
open PySem.W renaming mg_none_of->AS,nsIn->BY,findIn->Bh,mg_of->BB,kia_one->BC,emptyDict->BF,kia_tup->C7,keepIn->Cv,exmOne->Cy,instObj->CV,plainGet->Di,fnOf->Dl,boot_heap->DS,kitx_list->E6,kitx_dict->E7,hasDictIn->E8,plainGet_of->Eg,isFn->Eo,lookIn->EC,kitOne->ED,callWith_K->EE,plainOver->Fx,methodObj->Fz,behindTheImports->Fe,cellsFrom_some->FF,takerIn->G9,makesIn->Gq,hideAll->Gw,OpenLaw->Gx,methodCall_KW->GJ,kdl_hint_dict->GK,codeIn->GB,hideAll_get->GT,callWith_K0->GU,excIn->HW,Looks->HX,of_hideAll->Hm,kitx_tuple->Hn,kitx_none->HS,kitx_bool->HU,kitx_str->KW,kitx_int->KZ,handedIn->KJ,kitMeta->Ko,exm_one->Kp,topFrame->KC,kitAny->KN,WalkO->Mq,LeftO->Mw,WShape->MZ,OpenLaw->MK
open PySem.F renaming plainAttrs_list->B6,type_list_append->BQ,slot_list_append->BW,slot_dict_keyiterator_next->Bg,called_set->BP,plainAttrs_dict->D1,slot_zip_next->DQ,args_dict_keyiterator_next_1->Dp,entry_dict_keyiterator_next->DA,args_tuple_add_2->DB,entry_tuple_add->DT,slot_tuple_iterator_next->E9,slot_tuple_add->Ew,slot_dict_get->Ev,slot_dict_setdefault->Ed,plain_extend_loop->EH,slot_dict_values->FX,slot_dict_items->Ff,plain_list_iadd->Fg,args_zip_next_1->Fh,args_dict_get_3->Fi,slot_dict_iter->FG,entry_zip_next->FH,entry_dict_get->FM,type_list_pop->GV,slot_set_iter->GY,slot_list_pop->Ga,plain_set_new->Gb
open Int renaming emod_lt_of_pos->Bq,emod_nonneg->BX,mul_le_mul_of_nonneg_left->CW,le_refl->CZ,zero_add->Cg,lt_of_le_of_lt->D9,toNat_natCast->Ej,mul_comm->FS,le_ediv_iff_mul_le->FT,mul_nonneg->GG,le_trans->Kq,mul_one->Kl,lt_irrefl->MQ
open Array renaming length_toList->Bo,getElem?_eq_getElem->BE,getElem?_toList->Cp,toList_push->Da,getElem?_eq_none->FU,getD->G0,toList_append->Hz,append_assoc->HC
open PyProof.Rows renaming IntsAre->Bt,callWith_type1->Cd,envOfC->Cm,slot_tuple_getitem->CS,IntsAre->EV,AllBare->Ep,step_dedup->Eu,subscriptTail->FQ,subscriptTail_builtinR->FA,sortedS->FC,firstMet->GA,Constant_none->HJ,Subscript_->Hl,StrsAre->HP,IsTup->M3
open PySem.Txt renaming mul->BN
open False renaming elim->BS
open PyProof.Rows.F renaming plain_set_update_loop->Ca,entry_set_update_loop->Dr
open PySem.Str renaming ofString->Cc
open PySem.Obj renaming mk->Cr,mapSeq->DH,data_mapFields->DL,isFreed_of_fields->Gc,cls_mapFields->K1,putSet->KP,mapFields->Mx
open Prod.mk renaming inj->D3
open PySem.Calls renaming spliced_cons->Dw,callWith_builtin->Dx,evalArgs_plain->Df,Name_function_global->Dg,call_function_entry->ER,spliced_nil->Fv,loadGlobal_global->Fs,Constant_str->HB
open ForInStep renaming yield->Dj
open PyProof.Rows.IntsAre renaming int_at->DY
open Or renaming inl->Ds,inr->Ho
open PySem.SeqAt.RcAt renaming lists_lengths->EQ
open Classical renaming choose->EZ,choose_spec->Gf
open Ne renaming symm->EK
open Decidable renaming byContradiction->EN
open Prod renaming mk->Fj
open List.cons renaming inj->FJ
open List.Perm renaming refl->GE
open PySem.Heap.UpToSlots renaming refl->Hw
open PySem.Heap.IsSliceOf renaming new->HA
open String renaming splitOnAux->HR,splitOn->KL
open Nat.succ renaming inj->K2
open PySem.Code renaming isFrame->Kw
open PySem.IsRange renaming new->Ki
open Iff renaming rfl->KA
open PySem.Moved renaming eq_with->Mz
open PyProof.Rows.LSm renaming kept_iter->My
noncomputable section
set_option Elab.async false
set_option linter.all false
set_option maxRecDepth 100000
set_option maxHeartbeats 4000000
namespace L2
open PySem PySem.Spec PyProof.Rows
abbrev WF:=PySem.W.Frag
abbrev PL:=List (Addr×Obj)
abbrev VS:=A3->A9->Prop
abbrev II:=List (Int×Int)
abbrev MO:=Str->Option A3
noncomputable def YC(s:Stmt)(j:Nat):Stmt:=match s with
 | .ClassDef _ _ _ body _ _ _ _ _ _ _=>body.getD j (.Pass ⟨0,0,0,0⟩)
 | _=>.Pass ⟨0,0,0,0⟩
noncomputable def JfY(s:Stmt):Arguments:=match s with
 | .FunctionDef _ a _ _ _ _ _ _ _ _=>a
 | _=>{ posonlyargs:=[],args:=[],vararg:=none,kwonlyargs:=[],kw_defaults:=[],kwarg:=none,defaults:=[] }
def YO(s:Stmt):List Stmt:=match s with
 | .FunctionDef _ _ b _ _ _ _ _ _ _=>b
 | _=>[]
noncomputable def Ji(s:Stmt):DV:=match s with
 | .FunctionDef _ _ _ _ _ _ sc _ _ _=>sc
 | _=>{ kind:=.function,names:=[],isGenerator:=false,isCoroutine:=false }
end L2
namespace Wb
open PySem PySem.W PySem.Calls PyProof.Rows
abbrev lfT(o:Obj):BT:=.node o .nil .nil
noncomputable def JtR(P:KY):BT:=
 .node (boot_o_0 P)
  (.node (boot_o_1 P) (.node (boot_o_3 P) (lfT (boot_o_7 P)) (lfT (Cr (.type "tuple") none (.seq #[] 0) #[])))
   (.node (boot_o_5 P) (lfT (boot_o_9 P)) (lfT (Cr (.type "code") none (.fields #[.str "<module>" 182,.str "<module>" 183,.str "/claim/cut.py" 184,.int 1 0,.int 0 0,.int 0 0,.int 0 0,.int 0 0,.ref 11,.bool false,.int 181 0,.ref 12,.none,.none,.none,.none,.int 185 0,.int 1 0,.str "/claim/cut.py" 186]) #[]))))
  (.node (boot_o_2 P) (.node (boot_o_4 P) (lfT (boot_o_8 P)) (lfT (Cr .none none (.fields #[]) #[])))
   (.node (boot_o_6 P) (lfT (boot_o_10 P)) (lfT (Cr (.type "frame") none .plain #[some (.ref 13),some (.ref 3),some (.ref 3),none,some (.str "__main__" 164),none,some (.ref 0)]))))
noncomputable abbrev S0(w:At)(os:MJ):SharedT:=⟨JtR w.params,15,⟨[],[],[],0,[],[],false,#[],[],0,false,false,false,0,[2000,10,10],false,0,true,[],[],0,false⟩,#[],⟨0,0,0,0⟩,187,os⟩
noncomputable abbrev env0(p:Ab):Env:={ scope:=p.main.scope,locals:=mainNs,globals:=mainNs,cells:=[],code:=.ref 13,frame:=some 14 }
abbrev cd0(p:Ab):Code:=.body (Fe p) (env0 p)
abbrev ps0:Pos:=⟨0,0,0,0⟩
theorem Jjn{p q:Ab}{loose:List Str}{Xt:A9->Bool}{α:Type}{Yf:A9->α}{Ya:At->α}{N n1:Nat}{ann:Option A3}{pos2:Pos}
  (e:opening p=plainProg p.main.scope.names) (hN:Nat.ble 600 N=true) (f:∀s,fenceModules? p s=some s)
  (size:∀w:At,((DS w.params).isNs AB,(DS w.params).objs.size,(DS w.params).nsMap AB "__annotations__")=(true,11,ann))
  (pre:∀(w:At)(os:MJ),topGo Er p w 11 ann 12 ⟨DS w.params,Array.mk [],boot_drawn,boot_toks,os⟩ (topStub p)=some ((S0 w os).abs,⟨denote Er (cd0 p),cd0 p,ps0,[KC ps0]⟩))
  (block:∀(w:At)(os:MJ),segRun Er p w 11 ann 1 1 (S0 w os).abs (blockOf (Fe p) (env0 p) (cd0 p) ps0 [KC ps0])=some (.next,(S0 w os).abs,cd0 p,ps0))
  (main:∀(w:At)(os:MJ),(segRunT Er p w 11 ann 1 n1 (S0 w os) (piecesOf (Fe p) (env0 p) (cd0 p) ps0 [KC ps0])).map (fun r=>(r.1,r.2.2,(topRun Er p w 11 ann 2 r.2.1.abs (restOf [] (env0 p) (cd0 p) pos2 [KC ps0])).map fun s=>
   (staticsOk (G7 p.main.body) (DS w.params) s.heap&&namesBound p s.heap&&gensDone s&&laidKept (DS w.params) s.heap,openSeen q loose (G7 p.main.body) Xt true s,Yf s)))=some (.next,(cd0 p,pos2),some (true,openGood q loose,Ya w)))
  (le:12+(1+(n1+2))<=N):LeftO p q loose Xt Yf Ya N:=fun w=>by
 obtain⟨⟨h,gs,d,k,os⟩,eo,e'⟩:=Ak.mp (boot_open e hN f w);obtain⟨rfl,e2⟩:=D3 e';obtain⟨rfl,e3⟩:=D3 e2;obtain⟨rfl,rfl⟩:=D3 e3;obtain⟨z1,e4⟩:=D3 (size w);obtain⟨z2,z3⟩:=D3 e4;obtain⟨⟨fl,s',c',p'⟩,hr,hF⟩:=Ak.mp (main w os);obtain⟨f1,f2⟩:=D3 hF;obtain⟨f3,f4⟩:=D3 f2;obtain⟨f5,f6⟩:=D3 f3;obtain⟨s1,h1,h2⟩:=Ak.mp f4;obtain⟨l1,h3⟩:=D3 h2;have a:=segRun_of hr;dsimp only at f1 f5 f6;rw[f1,f5,f6]at a;have b:=piece_app (rest:=[]) a h1;rw[Be]at b;have t:=go_top (pre w os) (piece_block (block w os) b);have r:=topRun_mono (N-(12+(1+(n1+2)))) _ _ _ _ t;rw[show 12+(1+(n1+2))+(N-(12+(1+(n1+2))))=N by omega]at r
 have t:topFrom Er p w N ⟨DS w.params,Array.mk [],boot_drawn,boot_toks,os⟩=some s1:=by
  unfold topFrom;dsimp only;rw[z1,z2,z3,r];show(match staticsOk (G7 p.main.body) (DS w.params) s1.heap&&namesBound p s1.heap&&gensDone s1&&laidKept (DS w.params) s1.heap with|true=>_|false=>_)=_
  rw[l1]
 unfold openEnds;rw[eo];show(topFrom Er p w N _).map _=_;rw[t];exact congrArg some h3
end Wb
namespace TLA
open PySem PySem.Spec PyProof.Rows L2 Wb
noncomputable def Jax(i:Nat):Stmt:=PySem.Challenge.pw_wagebook_k07_whole_told_in_any_order.main.body.getD i (.Pass ⟨0,0,0,0⟩)
abbrev Jdf:Stmt:=Jax 5
abbrev JeP:Stmt:=Jax 6
abbrev Jcf:Stmt:=Jax 7
abbrev Jfg:Stmt:=Jax 8
abbrev Jb1:Stmt:=Jax 11
abbrev JaB:Stmt:=Jax 12
abbrev Ja2:Stmt:=Jax 13
abbrev Jeh:Stmt:=Jax 17
abbrev Jc9:Stmt:=Jax 18
abbrev JdX:Stmt:=Jax 20
abbrev JdV:Stmt:=Jax 21
abbrev JaH:Stmt:=Jax 22
abbrev Jbq:Stmt:=YC (Jax 23) 0
abbrev Y5:Stmt:=YC (Jax 23) 1
abbrev Yp:Stmt:=YC (Jax 23) 2
abbrev Jae:Stmt:=YC (Jax 23) 3
abbrev Yq:Stmt:=YC (Jax 23) 4
abbrev Yt:Stmt:=YC (Jax 23) 5
abbrev YG:Stmt:=YC (Jax 23) 6
abbrev Yk:Stmt:=YC (Jax 23) 7
abbrev Jcm:Stmt:=YC (Jax 26) 0
abbrev Jau:Stmt:=YC (Jax 26) 1
abbrev Jac:Stmt:=YC (Jax 26) 2
abbrev Jas:Stmt:=YC (Jax 26) 3
abbrev Jaw:Stmt:=YC (Jax 26) 4
abbrev YB:Stmt:=YC (Jax 26) 5
abbrev Jbn:Stmt:=YC (Jax 26) 6
abbrev Ja8:Stmt:=YC (Jax 26) 7
abbrev JdY:Stmt:=YC (Jax 26) 8
abbrev JaK:Stmt:=YC (Jax 26) 9
abbrev Ja7:Stmt:=YC (Jax 26) 10
abbrev JcO:Stmt:=YC (Jax 26) 11
abbrev JaD:Stmt:=YC (Jax 26) 12
abbrev Jno:Stmt:=Jax 28
abbrev Jkr:Stmt:=Jax 29
abbrev Jfs:Stmt:=Jax 30
abbrev Jdh:Stmt:=Jax 31
abbrev JbL:Stmt:=Jax 33
abbrev Jfr:Stmt:=Jax 34
abbrev Jd8:Stmt:=Jax 35
abbrev Jky:Stmt:=Jax 36
abbrev JdU:Stmt:=Jax 37
abbrev Jbs:Stmt:=Jax 38
abbrev Jc8:Stmt:=Jax 39
abbrev Jc5:Stmt:=Jax 40
abbrev Jda:Stmt:=Jax 41
abbrev JaF:Stmt:=Jax 42
abbrev Jdg:Stmt:=Jax 43
abbrev Ja5:Stmt:=Jax 44
abbrev JdO:Stmt:=Jax 45
abbrev Jfi:Stmt:=Jax 46
abbrev Jbu:Stmt:=Jax 47
abbrev JdR:Stmt:=Jax 48
abbrev Jec:Stmt:=Jax 49
abbrev JdN:Stmt:=Jax 50
abbrev Jh0:Stmt:=Jax 51
abbrev Jaz:Stmt:=Jax 52
abbrev Jcr:Stmt:=Jax 53
abbrev JgH:Stmt:=Jax 54
abbrev Jfu:Stmt:=Jax 55
abbrev Jcs:Stmt:=Jax 56
abbrev Jbp:Stmt:=Jax 57
abbrev JiN:Stmt:=Jax 58
noncomputable abbrev fO(x q:Str)(s:Stmt)(pm cd:A3):Obj:=⟨.type "function",none,.func (Dl x q (JfY s) (YO s) (Ji s) .none .none .none pm none cd .none),#[]⟩
noncomputable abbrev cO(n q:Str)(t l a f A B:Nat)(C D:A3)(E y:Nat):Obj:=⟨.type "code",none,.fields #[.str n t,.str q (t+1),.str "/claim/cut.py" (t+2),.int l 0,.int a 0,.int 0 0,.int 0 0,.int f 0,.ref A,.bool true,.int 181 0,.ref B,.none,C,D,.ref E,.int y 0,.int l 0,.str "/claim/cut.py" (y+1)],#[]⟩
abbrev eN(P:KY)(x:Str)(t:Nat)(v:A3):GR:=⟨PyData.keyHash P x,.str x t,v⟩
noncomputable def myK(P:Params):PySem.W.Frag:=
 (nat_lit 2,Cr .none none (.dict #[] 0) #[])::(nat_lit 3,Cr (.type "dict") none (.dict #[(eN P "__name__" 165 (.str "law_wagebook_k07_whole_told_in_any_order" 636)),(eN P "__doc__" 166 .none),(eN P "__package__" 167 .none),(eN P "__loader__" 168 (.builtin "__main__.__loader__#opaque")),(eN P "__spec__" 169 .none),(eN P "__annotations__" 170 (.ref 6)),(eN P "__builtins__" 171 (.ref 4)),(eN P "__file__" 173 (.str "/claim/cut.py" 172)),(eN P "__cached__" 174 .none),(eN P "NoHours" 206 (.ref 24)),(eN P "NoTable" 224 (.ref 37)),(eN P "TooEarly" 242 (.ref 50)),(eN P "parts_of" 258 (.ref 60)),(eN P "worth" 264 (.ref 65)),(eN P "relief_of" 273 (.ref 72)),(eN P "due_of" 282 (.ref 79)),(eN P "GREATEST_EACH_OF_DUES" 286 (.int 100 285)),(eN P "holding" 292 (.ref 84)),(eN P "good_bands" 298 (.ref 89)),(eN P "good_dues" 304 (.ref 94)),(eN P "DAYS_OF_WEEK" 308 (.int 7 307)),(eN P "WEEKS_OF_MONTH" 310 (.int 4 309)),(eN P "week_of" 317 (.ref 101)),(eN P "month_of" 324 (.ref 108)),(eN P "pay_for" 336 (.ref 115)),(eN P "net_for" 346 (.ref 122)),(eN P "lines_between" 357 (.ref 129)),(eN P "Person" 462 (.ref 193)),(eN P "HOURS_OF_DAY" 466 (.int 24 465)),(eN P "Book" 600 (.ref 296)),(eN P "asked" 612 (.ref 307)),(eN P "done" 621 (.ref 314)),(eN P "answer" 629 (.ref 321)),(eN P "rights" 635 (.ref 326)),(eN P "_law_unturned" 649 (.ref 333)),(eN P "_law_room" 658 (.ref 340)),(eN P "_law_whole" 665 (.ref 347)),(eN P "_law_at" 673 (.ref 354)),(eN P "_law_alike" 685 (.ref 361)),(eN P "_law_banded" 691 (.ref 366)),(eN P "_law_spoilt" 700 (.ref 373)),(eN P "_law_people" 709 (.ref 380)),(eN P "_law_so_far" 716 (.ref 387)),(eN P "_law_first_month" 724 (.ref 394)),(eN P "_law_penned" 743 (.ref 401)),(eN P "_law_written" 749 (.ref 406)),(eN P "_law_value" 762 (.ref 413)),(eN P "_law_owed" 771 (.ref 420)),(eN P "_law_can_be" 777 (.ref 425)),(eN P "_law_begun" 786 (.ref 432)),(eN P "_law_holds" 796 (.ref 439)),(eN P "_law_wages" 808 (.ref 446)),(eN P "_law_net" 821 (.ref 453)),(eN P "_law_all_nets" 827 (.ref 458)),(eN P "_law_refused" 838 (.ref 465)),(eN P "_law_paying" 853 (.ref 472)),(eN P "_law_done" 864 (.ref 479)),(eN P "_law_wrongly" 871 (.ref 486)),(eN P "_law_other_way" 886 (.ref 493)),(eN P "law" 892 (.ref 498))] 60) #[])::(nat_lit 23,Cr (.type "dict") none (.dict #[(eN P "__module__" 196 (.str "wagebook.errors" 187)),(eN P "__firstlineno__" 200 (.int 2 199)),(eN P "__static_attributes__" 201 (.ref 22)),(eN P "__weakref__" 203 (.ref 25)),(eN P "__doc__" 204 .none)] 3) #[])::(nat_lit 24,Cr (.type "type") none (.cls (.mk "NoHours" [(.type "ValueError")] [(.ref 24),(.type "ValueError"),(.type "Exception"),(.type "BaseException"),(.type "object")] 23 "NoHours" true [] [] false none false)) #[(some (.ref 15)),none,(some (.str "NoHours" 189)),(some (.str "NoHours" 197)),(some (.builtin "ValueError.__new__")),(some (.bool true))])::(nat_lit 25,Cr (.type "getset_descriptor") none (.fields #[(.str "__weakref__" 202),(.ref 24),(.builtin "ExceptionGroup.__weakref__"),.none]) #[])::(nat_lit 36,Cr (.type "dict") none (.dict #[(eN P "__module__" 214 (.str "wagebook.errors" 187)),(eN P "__firstlineno__" 218 (.int 4 217)),(eN P "__static_attributes__" 219 (.ref 35)),(eN P "__weakref__" 221 (.ref 38)),(eN P "__doc__" 222 .none)] 3) #[])::(nat_lit 37,Cr (.type "type") none (.cls (.mk "NoTable" [(.type "ValueError")] [(.ref 37),(.type "ValueError"),(.type "Exception"),(.type "BaseException"),(.type "object")] 36 "NoTable" true [] [] false none false)) #[(some (.ref 28)),none,(some (.str "NoTable" 207)),(some (.str "NoTable" 215)),(some (.builtin "ValueError.__new__")),(some (.bool true))])::(nat_lit 38,Cr (.type "getset_descriptor") none (.fields #[(.str "__weakref__" 220),(.ref 37),(.builtin "ExceptionGroup.__weakref__"),.none]) #[])::(nat_lit 49,Cr (.type "dict") none (.dict #[(eN P "__module__" 232 (.str "wagebook.errors" 187)),(eN P "__firstlineno__" 236 (.int 6 235)),(eN P "__static_attributes__" 237 (.ref 48)),(eN P "__weakref__" 239 (.ref 51)),(eN P "__doc__" 240 .none)] 3) #[])::(nat_lit 50,Cr (.type "type") none (.cls (.mk "TooEarly" [(.type "ValueError")] [(.ref 50),(.type "ValueError"),(.type "Exception"),(.type "BaseException"),(.type "object")] 49 "TooEarly" true [] [] false none false)) #[(some (.ref 41)),none,(some (.str "TooEarly" 225)),(some (.str "TooEarly" 233)),(some (.builtin "ValueError.__new__")),(some (.bool true))])::(nat_lit 51,Cr (.type "getset_descriptor") none (.fields #[(.str "__weakref__" 238),(.ref 50),(.builtin "ExceptionGroup.__weakref__"),.none]) #[])::(nat_lit 59,cO "parts_of" "parts_of" 245 9 2 3 54 55 (.ref 56) (.ref 57) 58 256)::(nat_lit 60,fO "parts_of" "parts_of" Jdf (.str "wagebook.bands" 243) (.ref 59))::(nat_lit 64,cO "worth" "worth" 259 23 2 3 61 62 .none .none 63 262)::(nat_lit 65,fO "worth" "worth" JeP (.str "wagebook.bands" 243) (.ref 64))::(nat_lit 71,cO "relief_of" "relief_of" 265 25 3 3 66 67 (.ref 68) (.ref 69) 70 271)::(nat_lit 72,fO "relief_of" "relief_of" Jcf (.str "wagebook.bands" 243) (.ref 71))::(nat_lit 78,cO "due_of" "due_of" 274 27 2 3 73 74 (.ref 75) (.ref 76) 77 280)::(nat_lit 79,fO "due_of" "due_of" Jfg (.str "wagebook.bands" 243) (.ref 78))::(nat_lit 83,cO "holding" "holding" 287 32 2 3 80 81 .none .none 82 290)::(nat_lit 84,fO "holding" "holding" Jb1 (.str "wagebook.tables" 283) (.ref 83))::(nat_lit 88,cO "good_bands" "good_bands" 293 37 1 3 85 86 .none .none 87 296)::(nat_lit 89,fO "good_bands" "good_bands" JaB (.str "wagebook.tables" 283) (.ref 88))::(nat_lit 93,cO "good_dues" "good_dues" 299 47 1 3 90 91 .none .none 92 302)::(nat_lit 94,fO "good_dues" "good_dues" Ja2 (.str "wagebook.tables" 283) (.ref 93))::(nat_lit 100,cO "week_of" "week_of" 311 57 1 3 95 96 (.ref 97) (.ref 98) 99 315)::(nat_lit 101,fO "week_of" "week_of" Jeh (.str "wagebook.weeks" 305) (.ref 100))::(nat_lit 107,cO "month_of" "month_of" 318 59 1 3 102 103 (.ref 104) (.ref 105) 106 322)::(nat_lit 108,fO "month_of" "month_of" Jc9 (.str "wagebook.weeks" 305) (.ref 107))::(nat_lit 114,cO "pay_for" "pay_for" 327 62 3 3 109 110 (.ref 111) (.ref 112) 113 334)::(nat_lit 115,fO "pay_for" "pay_for" JdX (.str "wagebook.person" 325) (.ref 114))::(nat_lit 121,cO "net_for" "net_for" 337 67 3 3 116 117 (.ref 118) (.ref 119) 120 344)::(nat_lit 122,fO "net_for" "net_for" JdV (.str "wagebook.person" 325) (.ref 121))::(nat_lit 128,cO "lines_between" "lines_between" 347 72 2 3 123 124 (.ref 125) (.ref 126) 127 355)::(nat_lit 129,fO "lines_between" "lines_between" JaH (.str "wagebook.person" 325) (.ref 128))::(nat_lit 142,cO "__init__" "Person.__init__" 370 81 1 3 137 138 (.ref 139) (.ref 140) 141 374)::(nat_lit 143,fO "__init__" "Person.__init__" Jbq (.str "wagebook.person" 325) (.ref 142))::(nat_lit 149,cO "set_hours" "Person.set_hours" 377 87 3 3 144 145 (.ref 146) (.ref 147) 148 383)::(nat_lit 150,fO "set_hours" "Person.set_hours" Y5 (.str "wagebook.person" 325) (.ref 149))::(nat_lit 156,cO "hours_by_week" "Person.hours_by_week" 386 90 1 3 151 152 (.ref 153) (.ref 154) 155 394)::(nat_lit 157,fO "hours_by_week" "Person.hours_by_week" Yp (.str "wagebook.person" 325) (.ref 156))::(nat_lit 163,cO "week_pay" "Person.week_pay" 397 97 3 3 158 159 (.ref 160) (.ref 161) 162 403)::(nat_lit 164,fO "week_pay" "Person.week_pay" Jae (.str "wagebook.person" 325) (.ref 163))::(nat_lit 170,cO "pays_by_month" "Person.pays_by_month" 406 100 3 3 165 166 (.ref 167) (.ref 168) 169 416)::(nat_lit 171,fO "pays_by_month" "Person.pays_by_month" Yq (.str "wagebook.person" 325) (.ref 170))::(nat_lit 177,cO "nets_by_month" "Person.nets_by_month" 419 108 4 3 172 173 (.ref 174) (.ref 175) 176 429)::(nat_lit 178,fO "nets_by_month" "Person.nets_by_month" Yt (.str "wagebook.person" 325) (.ref 177))::(nat_lit 184,cO "hold_payday" "Person.hold_payday" 432 114 4 3 179 180 (.ref 181) (.ref 182) 183 442)::(nat_lit 185,fO "hold_payday" "Person.hold_payday" YG (.str "wagebook.person" 325) (.ref 184))::(nat_lit 189,cO "has_part" "Person.has_part" 445 125 1 3 186 187 .none .none 188 448)::(nat_lit 190,fO "has_part" "Person.has_part" Yk (.str "wagebook.person" 325) (.ref 189))::(nat_lit 192,Cr (.type "dict") none (.dict #[(eN P "__module__" 365 (.str "wagebook.person" 325)),(eN P "__firstlineno__" 369 (.int 79 368)),(eN P "__init__" 376 (.ref 143)),(eN P "set_hours" 385 (.ref 150)),(eN P "hours_by_week" 396 (.ref 157)),(eN P "week_pay" 405 (.ref 164)),(eN P "pays_by_month" 418 (.ref 171)),(eN P "nets_by_month" 431 (.ref 178)),(eN P "hold_payday" 444 (.ref 185)),(eN P "has_part" 450 (.ref 190)),(eN P "__static_attributes__" 455 (.ref 191)),(eN P "__dict__" 457 (.ref 194)),(eN P "__weakref__" 459 (.ref 195)),(eN P "__doc__" 460 .none)] 4) #[])::(nat_lit 193,Cr (.type "type") none (.cls (.mk "Person" [(.type "object")] [(.ref 193),(.type "object")] 192 "Person" true [] [] false none false)) #[none,none,(some (.str "Person" 358)),(some (.str "Person" 366)),(some (.builtin "object.__new__")),(some (.bool true))])::(nat_lit 194,Cr (.type "getset_descriptor") none (.fields #[(.str "__dict__" 456),(.ref 193),(.builtin "function.__dict__"),(.builtin "function.__dict__#set")]) #[])::(nat_lit 195,Cr (.type "getset_descriptor") none (.fields #[(.str "__weakref__" 458),(.ref 193),(.builtin "ExceptionGroup.__weakref__"),.none]) #[])::(nat_lit 210,cO "__init__" "Book.__init__" 479 131 1 3 205 206 (.ref 207) (.ref 208) 209 483)::(nat_lit 211,fO "__init__" "Book.__init__" Jcm (.str "wagebook.book" 463) (.ref 210))::(nat_lit 217,cO "person_of" "Book.person_of" 486 136 2 3 212 213 (.ref 214) (.ref 215) 216 491)::(nat_lit 218,fO "person_of" "Book.person_of" Jau (.str "wagebook.book" 463) (.ref 217))::(nat_lit 224,cO "tell_hours" "Book.tell_hours" 494 139 4 3 219 220 (.ref 221) (.ref 222) 223 501)::(nat_lit 225,fO "tell_hours" "Book.tell_hours" Jac (.str "wagebook.book" 463) (.ref 224))::(nat_lit 231,cO "tell_rate" "Book.tell_rate" 504 145 3 3 226 227 (.ref 228) (.ref 229) 230 510)::(nat_lit 232,fO "tell_rate" "Book.tell_rate" Jas (.str "wagebook.book" 463) (.ref 231))::(nat_lit 238,cO "tell_dues" "Book.tell_dues" 513 150 3 3 233 234 (.ref 235) (.ref 236) 237 519)::(nat_lit 239,fO "tell_dues" "Book.tell_dues" Jaw (.str "wagebook.book" 463) (.ref 238))::(nat_lit 245,cO "hold_payday_of" "Book.hold_payday_of" 522 155 3 3 240 241 (.ref 242) (.ref 243) 244 528)::(nat_lit 246,fO "hold_payday_of" "Book.hold_payday_of" YB (.str "wagebook.book" 463) (.ref 245))::(nat_lit 252,cO "pay_of" "Book.pay_of" 531 158 3 3 247 248 (.ref 249) (.ref 250) 251 537)::(nat_lit 253,fO "pay_of" "Book.pay_of" Jbn (.str "wagebook.book" 463) (.ref 252))::(nat_lit 259,cO "nets_of" "Book.nets_of" 540 161 3 3 254 255 (.ref 256) (.ref 257) 258 546)::(nat_lit 260,fO "nets_of" "Book.nets_of" Ja8 (.str "wagebook.book" 463) (.ref 259))::(nat_lit 266,cO "net_of" "Book.net_of" 549 164 3 3 261 262 (.ref 263) (.ref 264) 265 555)::(nat_lit 267,fO "net_of" "Book.net_of" JdY (.str "wagebook.book" 463) (.ref 266))::(nat_lit 273,cO "right_of" "Book.right_of" 558 167 3 3 268 269 (.ref 270) (.ref 271) 272 564)::(nat_lit 274,fO "right_of" "Book.right_of" JaK (.str "wagebook.book" 463) (.ref 273))::(nat_lit 280,cO "paid_to" "Book.paid_to" 567 170 2 3 275 276 (.ref 277) (.ref 278) 279 572)::(nat_lit 281,fO "paid_to" "Book.paid_to" Ja7 (.str "wagebook.book" 463) (.ref 280))::(nat_lit 287,cO "owing_to" "Book.owing_to" 575 173 3 3 282 283 (.ref 284) (.ref 285) 286 581)::(nat_lit 288,fO "owing_to" "Book.owing_to" JcO (.str "wagebook.book" 463) (.ref 287))::(nat_lit 292,cO "names" "Book.names" 584 176 1 3 289 290 .none .none 291 587)::(nat_lit 293,fO "names" "Book.names" JaD (.str "wagebook.book" 463) (.ref 292))::(nat_lit 295,Cr (.type "dict") none (.dict #[(eN P "__module__" 474 (.str "wagebook.book" 463)),(eN P "__firstlineno__" 478 (.int 129 477)),(eN P "__init__" 485 (.ref 211)),(eN P "person_of" 493 (.ref 218)),(eN P "tell_hours" 503 (.ref 225)),(eN P "tell_rate" 512 (.ref 232)),(eN P "tell_dues" 521 (.ref 239)),(eN P "hold_payday_of" 530 (.ref 246)),(eN P "pay_of" 539 (.ref 253)),(eN P "nets_of" 548 (.ref 260)),(eN P "net_of" 557 (.ref 267)),(eN P "right_of" 566 (.ref 274)),(eN P "paid_to" 574 (.ref 281)),(eN P "owing_to" 583 (.ref 288)),(eN P "names" 589 (.ref 293)),(eN P "__static_attributes__" 593 (.ref 294)),(eN P "__dict__" 595 (.ref 297)),(eN P "__weakref__" 597 (.ref 298)),(eN P "__doc__" 598 .none)] 4) #[])::(nat_lit 296,Cr (.type "type") none (.cls (.mk "Book" [(.type "object")] [(.ref 296),(.type "object")] 295 "Book" true [] [] false none false)) #[none,none,(some (.str "Book" 467)),(some (.str "Book" 475)),(some (.builtin "object.__new__")),(some (.bool true))])::(nat_lit 297,Cr (.type "getset_descriptor") none (.fields #[(.str "__dict__" 594),(.ref 296),(.builtin "function.__dict__"),(.builtin "function.__dict__#set")]) #[])::(nat_lit 298,Cr (.type "getset_descriptor") none (.fields #[(.str "__weakref__" 596),(.ref 296),(.builtin "ExceptionGroup.__weakref__"),.none]) #[])::(nat_lit 306,cO "asked" "asked" 603 179 4 3 301 302 (.ref 303) (.ref 304) 305 610)::(nat_lit 307,fO "asked" "asked" Jno (.str "wagebook.day" 601) (.ref 306))::(nat_lit 313,cO "done" "done" 613 187 2 3 308 309 (.ref 310) (.ref 311) 312 619)::(nat_lit 314,fO "done" "done" Jkr (.str "wagebook.day" 601) (.ref 313))::(nat_lit 320,cO "answer" "answer" 622 202 2 3 315 316 (.ref 317) (.ref 318) 319 627)::(nat_lit 321,fO "answer" "answer" Jfs (.str "wagebook.day" 601) (.ref 320))::(nat_lit 325,cO "rights" "rights" 630 211 2 3 322 323 .none .none 324 633)::(nat_lit 326,fO "rights" "rights" Jdh (.str "wagebook.day" 601) (.ref 325))::(nat_lit 332,cO "_law_unturned" "_law_unturned" 638 217 2 3 327 328 (.ref 329) (.ref 330) 331 647)::(nat_lit 333,fO "_law_unturned" "_law_unturned" JbL (.str "law_wagebook_k07_whole_told_in_any_order" 636) (.ref 332))::(nat_lit 339,cO "_law_room" "_law_room" 650 238 3 3 334 335 (.ref 336) (.ref 337) 338 656)::(nat_lit 340,fO "_law_room" "_law_room" Jfr (.str "law_wagebook_k07_whole_told_in_any_order" 636) (.ref 339))::(nat_lit 346,cO "_law_whole" "_law_whole" 659 242 1 3 341 342 (.ref 343) (.ref 344) 345 663)::(nat_lit 347,fO "_law_whole" "_law_whole" Jd8 (.str "law_wagebook_k07_whole_told_in_any_order" 636) (.ref 346))::(nat_lit 353,cO "_law_at" "_law_at" 666 244 2 3 348 349 (.ref 350) (.ref 351) 352 671)::(nat_lit 354,fO "_law_at" "_law_at" Jky (.str "law_wagebook_k07_whole_told_in_any_order" 636) (.ref 353))::(nat_lit 360,cO "_law_alike" "_law_alike" 674 248 2 3 355 356 (.ref 357) (.ref 358) 359 683)::(nat_lit 361,fO "_law_alike" "_law_alike" JdU (.str "law_wagebook_k07_whole_told_in_any_order" 636) (.ref 360))::(nat_lit 365,cO "_law_banded" "_law_banded" 686 270 3 3 362 363 .none .none 364 689)::(nat_lit 366,fO "_law_banded" "_law_banded" Jbs (.str "law_wagebook_k07_whole_told_in_any_order" 636) (.ref 365))::(nat_lit 372,cO "_law_spoilt" "_law_spoilt" 692 284 2 3 367 368 (.ref 369) (.ref 370) 371 698)::(nat_lit 373,fO "_law_spoilt" "_law_spoilt" Jc8 (.str "law_wagebook_k07_whole_told_in_any_order" 636) (.ref 372))::(nat_lit 379,cO "_law_people" "_law_people" 701 290 1 3 374 375 (.ref 376) (.ref 377) 378 707)::(nat_lit 380,fO "_law_people" "_law_people" Jc5 (.str "law_wagebook_k07_whole_told_in_any_order" 636) (.ref 379))::(nat_lit 386,cO "_law_so_far" "_law_so_far" 710 295 1 3 381 382 (.ref 383) (.ref 384) 385 714)::(nat_lit 387,fO "_law_so_far" "_law_so_far" Jda (.str "law_wagebook_k07_whole_told_in_any_order" 636) (.ref 386))::(nat_lit 393,cO "_law_first_month" "_law_first_month" 717 297 1 3 388 389 (.ref 390) (.ref 391) 392 722)::(nat_lit 394,fO "_law_first_month" "_law_first_month" JaF (.str "law_wagebook_k07_whole_told_in_any_order" 636) (.ref 393))::(nat_lit 400,cO "_law_penned" "_law_penned" 725 300 2 3 395 396 (.ref 397) (.ref 398) 399 741)::(nat_lit 401,fO "_law_penned" "_law_penned" Jdg (.str "law_wagebook_k07_whole_told_in_any_order" 636) (.ref 400))::(nat_lit 405,cO "_law_written" "_law_written" 744 333 1 3 402 403 .none .none 404 747)::(nat_lit 406,fO "_law_written" "_law_written" Ja5 (.str "law_wagebook_k07_whole_told_in_any_order" 636) (.ref 405))::(nat_lit 412,cO "_law_value" "_law_value" 750 335 2 3 407 408 (.ref 409) (.ref 410) 411 760)::(nat_lit 413,fO "_law_value" "_law_value" JdO (.str "law_wagebook_k07_whole_told_in_any_order" 636) (.ref 412))::(nat_lit 419,cO "_law_owed" "_law_owed" 763 345 2 3 414 415 (.ref 416) (.ref 417) 418 769)::(nat_lit 420,fO "_law_owed" "_law_owed" Jfi (.str "law_wagebook_k07_whole_told_in_any_order" 636) (.ref 419))::(nat_lit 424,cO "_law_can_be" "_law_can_be" 772 348 2 3 421 422 .none .none 423 775)::(nat_lit 425,fO "_law_can_be" "_law_can_be" Jbu (.str "law_wagebook_k07_whole_told_in_any_order" 636) (.ref 424))::(nat_lit 431,cO "_law_begun" "_law_begun" 778 358 1 3 426 427 (.ref 428) (.ref 429) 430 784)::(nat_lit 432,fO "_law_begun" "_law_begun" JdR (.str "law_wagebook_k07_whole_told_in_any_order" 636) (.ref 431))::(nat_lit 438,cO "_law_holds" "_law_holds" 787 366 2 3 433 434 (.ref 435) (.ref 436) 437 794)::(nat_lit 439,fO "_law_holds" "_law_holds" Jec (.str "law_wagebook_k07_whole_told_in_any_order" 636) (.ref 438))::(nat_lit 445,cO "_law_wages" "_law_wages" 797 374 3 3 440 441 (.ref 442) (.ref 443) 444 806)::(nat_lit 446,fO "_law_wages" "_law_wages" JdN (.str "law_wagebook_k07_whole_told_in_any_order" 636) (.ref 445))::(nat_lit 452,cO "_law_net" "_law_net" 809 382 4 3 447 448 (.ref 449) (.ref 450) 451 819)::(nat_lit 453,fO "_law_net" "_law_net" Jh0 (.str "law_wagebook_k07_whole_told_in_any_order" 636) (.ref 452))::(nat_lit 457,cO "_law_all_nets" "_law_all_nets" 822 391 3 3 454 455 .none .none 456 825)::(nat_lit 458,fO "_law_all_nets" "_law_all_nets" Jaz (.str "law_wagebook_k07_whole_told_in_any_order" 636) (.ref 457))::(nat_lit 464,cO "_law_refused" "_law_refused" 828 393 2 3 459 460 (.ref 461) (.ref 462) 463 836)::(nat_lit 465,fO "_law_refused" "_law_refused" Jcr (.str "law_wagebook_k07_whole_told_in_any_order" 636) (.ref 464))::(nat_lit 471,cO "_law_paying" "_law_paying" 839 405 3 3 466 467 (.ref 468) (.ref 469) 470 851)::(nat_lit 472,fO "_law_paying" "_law_paying" JgH (.str "law_wagebook_k07_whole_told_in_any_order" 636) (.ref 471))::(nat_lit 478,cO "_law_done" "_law_done" 854 418 2 3 473 474 (.ref 475) (.ref 476) 477 862)::(nat_lit 479,fO "_law_done" "_law_done" Jfu (.str "law_wagebook_k07_whole_told_in_any_order" 636) (.ref 478))::(nat_lit 485,cO "_law_wrongly" "_law_wrongly" 865 439 1 3 480 481 (.ref 482) (.ref 483) 484 869)::(nat_lit 486,fO "_law_wrongly" "_law_wrongly" Jcs (.str "law_wagebook_k07_whole_told_in_any_order" 636) (.ref 485))::(nat_lit 492,cO "_law_other_way" "_law_other_way" 872 445 4 3 487 488 (.ref 489) (.ref 490) 491 884)::(nat_lit 493,fO "_law_other_way" "_law_other_way" Jbp (.str "law_wagebook_k07_whole_told_in_any_order" 636) (.ref 492))::(nat_lit 497,cO "law" "law" 887 458 1 3 494 495 .none .none 496 890)::(nat_lit 498,fO "law" "law" JiN (.str "law_wagebook_k07_whole_told_in_any_order" 636) (.ref 497))::[]
noncomputable def Jur:List Addr:=[2,3,23,24,25,36,37,38,49,50,51,59,60,64,65,71,72,78,79,83,84,88,89,93,94,100,101,107,108,114,115,121,122,128,129,142,143,149,150,156,157,163,164,170,171,177,178,184,185,189,190,192,193,194,195,210,211,217,218,224,225,231,232,238,239,245,246,252,253,259,260,266,267,273,274,280,281,287,288,292,293,295,296,297,298,306,307,313,314,320,321,325,326,332,333,339,340,346,347,353,354,360,361,365,366,372,373,379,380,386,387,393,394,400,401,405,406,412,413,419,420,424,425,431,432,438,439,445,446,452,453,457,458,464,465,471,472,478,479,485,486,492,493,497,498]
abbrev hk:PySem.W.Hook:=PySem.W.kHook myK Jur fun _=>by kernel_rfl
noncomputable abbrev vw:Ab:=PySem.W.view PySem.Challenge.pw_wagebook_k07_whole_told_in_any_order [1,2,3,5,6,7,8,10,11,12,13,15,16,17,18,20,21,22,23,25,26,28,29,30,31,33,34,35,36,37,38,39,40,41,42,43,44,45,46,47,48,49,50,51,52,53,54,55,56,57,58]
noncomputable abbrev Jt1(s:A9):Bool:=PySem.W.xlAt vw [] s&&PySem.W.recOk PySem.Challenge.rw_wagebook_k07_whole_told_in_any_order.row.toRowW.records s
theorem left:Mw PySem.Challenge.pw_wagebook_k07_whole_told_in_any_order vw [] Jt1 hk.obs hk.val 3236:=by
 refine Jjn (n1:=3136) (pos2:=⟨458,0,495,15⟩) (ann:=some (.ref 6)) ?e ?n ?f ?s ?p ?b ?m ?l
 case e=>kernel_rfl
 case n=>rfl
 case f=>intro s;kernel_rfl
 case s=>intro w;kernel_rfl
 case p=>intro w os;kernel_rfl
 case b=>intro w os;kernel_rfl
 case m=>intro w os;kernel_rfl
 case l=>decide
end TLA
namespace L2
open PySem PySem.Spec PyProof.Rows
abbrev Key:=Sum Int Str
def JiM:Key->A3->Bool
 | .inl k,v=>A3.isInt k v
 | .inr x,v=>A3.isStrOf x v
def Jut(w:At):Key->Int
 | .inl k=>hashInt k
 | .inr x=>hashStr w x
theorem YD:∀{k:Key}{v:A3},JiM k v=true->(∃i t,k=Aj i/\v=A3.int i t)\/(∃x t,k=Av x/\v=A3.str x t)
 | .inl i,v,h=>by
  obtain⟨t,e⟩:=A3.isInt_shape (k:=i) (v:=v) h;exact .inl ⟨i,t,rfl,e⟩
 | .inr x,v,h=>by
  obtain⟨t,e⟩:=A3.isStrOf_shape (x:=x) (v:=v) h;exact .inr ⟨x,t,rfl,e⟩
theorem Jnd(i:Int)(t:Tok):JiM (.inl i) (.int i t)=true:=by simp[JiM,A3.isInt]
theorem Jmg(x:Str)(t:Tok):JiM (.inr x) (.str x t)=true:=by simp[JiM,A3.isStrOf]
theorem JrE(a b:Int):decide ((Aj a:Key)=Aj b)=(a==b):=by
 by_cases e:a=b
 .subst e;simp
 .have h:¬(Aj a:Key)=Aj b:=fun q=>e (Aj.inj q);rw[decide_eq_false h];exact(beq_eq_false_iff_ne.mpr e).symm
theorem Jrv(a b:Str):decide ((Av a:Key)=Av b)=decide (a=b):=by
 by_cases e:a=b
 .subst e;simp
 .have h:¬(Av a:Key)=Av b:=fun q=>e (Av.inj q);rw[decide_eq_false h,decide_eq_false e]
theorem JsT(a:Int)(b:Str):decide ((Aj a:Key)=Av b)=false:=decide_eq_false (fun q=>nomatch q)
theorem Jrw(a:Str)(b:Int):decide ((Av a:Key)=Aj b)=false:=decide_eq_false (fun q=>nomatch q)
noncomputable def J9(prog:Ab)(w:At):PySem.KeyKind prog w Key where
 is:=JiM
 hash:=Jut w
 inj:=fun v a b ha hb=>by
  rcases YD ha with⟨i,t,rfl,rfl⟩|⟨x,t,rfl,rfl⟩
  .rcases YD hb with⟨j,u,rfl,e⟩|⟨y,u,rfl,e⟩
   .injection e with e1 _;rw[e1]
   .exact nomatch e
  .rcases YD hb with⟨j,u,rfl,e⟩|⟨y,u,rfl,e⟩
   .exact nomatch e
   .injection e with e1 _;rw[e1]
 byValue:=fun k v h=>by
  rcases YD h with⟨i,t,rfl,rfl⟩|⟨x,t,rfl,rfl⟩<;>rfl
 pyHash:=fun hv h=>by
  rcases YD hv with⟨i,t,rfl,rfl⟩|⟨x,t,rfl,rfl⟩
  .exact wpAny_pyHash_int h
  .exact wpAny_pyHash_str h
 eqBool:=fun hu hv h=>by
  rcases YD hu with⟨i,t,rfl,rfl⟩|⟨x,t,rfl,rfl⟩
  .rcases YD hv with⟨j,u,rfl,rfl⟩|⟨y,u,rfl,rfl⟩
   .rw[JrE]at h;exact wpAny_eqBool_int h
   .rw[JsT]at h;exact AE.int_str i t y u _ _ _ _ h
  .rcases YD hv with⟨j,u,rfl,rfl⟩|⟨y,u,rfl,rfl⟩
   .rw[Jrw]at h;exact AE.str_int x t j u _ _ _ _ h
   .rw[Jrv]at h;exact wpAny_eqBool_str h
 «strs»:=fun k x t v h=>by
  rcases YD h with⟨i,u,rfl,e⟩|⟨y,u,rfl,e⟩
  .exact nomatch e
  .injection e with e1 _
   subst e1;cases v<;>rfl
theorem Jka(prog:Ab)(w:At)(i:Int)(t:Tok):(J9 prog w).is (.inl i) (.int i t)=true:=Jnd i t
theorem Jke(prog:Ab)(w:At)(x:Str)(t:Tok):(J9 prog w).is (.inr x) (.str x t)=true:=Jmg x t
inductive V where
 | non | bl (b:Bool) | int (i:Int) | str (x:Str) | byt (b:Array UInt8) | flt (b:UInt64) | ref (a:Addr) | ty (n:String)
 deriving DecidableEq
noncomputable def Jaa:V->A3->Prop
 | .non,u=>u=A3.none
 | .bl b,u=>u=A3.bool b
 | .int i,u=>∃t,u=A3.int i t
 | .str x,u=>∃t,u=A3.str x t
 | .byt b,u=>∃t,u=A3.bytes b t
 | .flt b,u=>∃t,u=A3.float b t
 | .ref a,u=>u=A3.ref a
 | .ty n,u=>u=A3.type n
abbrev Y2:List V->List A3->Prop:=BV Jaa
theorem Y2.length{xs:List V}{us:List A3}(r:Y2 xs us):xs.length=us.length:=BV.length r
theorem Y2.get:∀{xs:List V}{us:List A3}{i:Nat}{x:V},Y2 xs us->xs[i]?=some x->∃u,us[i]?=some u/\Jaa x u
 | _,_,_,_,.nil,e=>by simp at e
 | _,_,0,_,.cons r _,e=>by simp at e;subst e;exact⟨_,rfl,r⟩
 | _,_,i+1,x,.cons _ t,e=>by
  obtain⟨u,h1,h2⟩:=Y2.get (i:=i) (x:=x) t (by simpa using e);exact⟨u,by simpa using h1,h2⟩
theorem Y2.append:∀{xs ys:List V}{us ws:List A3},Y2 xs us->Y2 ys ws->Y2 (xs++ys) (us++ws)
 | _,_,_,_,.nil,s=>s
 | _,_,_,_,.cons r t,s=>.cons r (Y2.append t s)
theorem Y2.take:∀{xs:List V}{us:List A3}(n:Nat),Y2 xs us->Y2 (xs.take n) (us.take n)
 | _,_,0,_=>.nil
 | _,_,_+1,.nil=>.nil
 | _,_,n+1,.cons r t=>.cons r (Y2.take n t)
theorem Y2.drop:∀{xs:List V}{us:List A3}(n:Nat),Y2 xs us->Y2 (xs.drop n) (us.drop n)
 | _,_,0,r=>r
 | _,_,_+1,.nil=>.nil
 | _,_,n+1,.cons _ t=>Y2.drop n t
noncomputable def Jh8:Option V->Option A3->Prop
 | some v,some u=>Jaa v u
 | none,none=>True
 | _,_=>False
def KV{κ:Type}:List (κ×V)->List (κ×A3)->Prop:=BV fun(p:κ×V)(q:κ×A3)=>p.1=q.1/\Jaa p.2 q.2
def kV:Key->V
 | .inl i=>.int i
 | .inr x=>.str x
inductive HO where
 | lst (xs:List V)
 | tup (xs:List V)
 | dK (kvs:List (Key×V)) | dT (kvs:List (List Key×V))
 | set (S:Int->Bool) (n:Nat)
 | ins (C dx:Addr) (fs:List (Str×V))
 | own (x:Addr)
 | xd (fs:List (Str×V))
 | met (f x:Addr)
 | rng (lo hi:Int)
 | frz (o:Obj) (u:HO)
 | tbl (ps:Array A3)
 | ext (φ:Heap->Prop)
abbrev Hp:=Addr->Option HO
def upd(H:Hp)(a:Addr)(o:HO):Hp:=fun b=>if b=a then some o else H b
theorem Ja{H:Hp}{a:Addr}{o:HO}:upd H a o a=some o:=by unfold upd;rw[if_pos rfl]
theorem Jg{H:Hp}{a b:Addr}{o:HO}(h:b≠a):upd H a o b=H b:=by unfold upd;rw[if_neg h]
theorem Jdw{H:Hp}{a:Addr}{o u:HO}:upd (upd H a o) a u=upd H a u:=by
 funext b;unfold upd;split<;>rfl
theorem Y1{H:Hp}{a b:Addr}{o u:HO}(h:H a=some o)(h':H b=some u)(d:o≠u):a≠b:=by
 intro e;subst e;rw[h]at h';exact d (Ai h')
theorem Jh{H:Hp}{a b:Addr}{o:HO}(h:H a=some o)(h':H b=none):a≠b:=by
 intro e;subst e;rw[h]at h';cases h'
section
variable (P:Ab) (w:At)
noncomputable def J4(H:Hp)(h:Heap)(a:Addr):HO->Prop
 | .lst xs=>xs.length<=AK/\∃(its:List A3)(n:Nat),Y2 xs its/\h.get? a=some { cls:=.type "list",data:=.seq its.toArray n }
 | .tup xs=>xs.length<=AK/\∃its:List A3,Y2 xs its/\M3 h a its.toArray
 | .dK kvs=>kvs.length<=AK/\(a==sysModules)=false/\∃vs,KV kvs vs/\h.DictOf (J9 P w) a vs
 | .dT kvs=>kvs.length<=AK/\(a==sysModules)=false/\∃xs:List (List Key×Addr×A3),
   BV (fun(p:List Key×V)(q:List Key×Addr×A3)=>p.1=q.1/\H q.2.1=some (.tup (p.1.map kV))/\Jaa p.2 q.2.2) kvs xs/\
   ∃o es ep,h.get? a=some o/\o.ExactDict/\o.data=.dict es ep/\es.toList=xs.map (entryOfKey (Fa (J9 P w)))/\(xs.map (·.1)).Nodup
 | .set S n=>h.SetOf (DJ P w) a S n
 | .ins C dx fs=>H dx=some (.own a)/\fs.length<=1000/\dx≠a/\h.get? a=some (CV C dx)/\
   ∃mA,h.Ns1 dx mA/\(∀f,Jh8 (fs.lookup f) (mA f))/\FE mA (fs.map (·.1))
 | .own _=>∃o,h.get? a=some o
 | .xd fs=>∃mA,h.Ns1 a mA/\∀f,Jh8 (fs.lookup f) (mA f)
 | .rng lo hi=>∃t u v,h.get? a=some { cls:=.type "range",data:=.fields #[.int lo t,.int hi u,.int 1 v] }
 | .frz o u=>h.get? a=some o/\J4 H h a u
 | .tbl ps=>h.get? a=some { cls:=.none,data:=.fields ps }
 | .met f x=>h.get? a=some (Fz (.ref f) (.ref x))
 | .ext φ=>φ h/\(∃o,h.get? a=some o)/\∀h1 h2:Heap,φ h1->(∀o,h1.get? a=some o->h2.get? a=some o)->φ h2
def HOk(H:Hp)(h:Heap):Prop:=∀a o,H a=some o->J4 P w H h a o
end
section
variable {P:Ab} {w:At} {H H':Hp} {h h':Heap} {a:Addr} {o:HO}
theorem J4.lt(x:J4 P w H h a o):a<h.objs.size:=by
 cases o with
 | lst xs=>obtain⟨_,_,_,_,e⟩:=x;exact AZ e
 | tup xs=>obtain⟨_,_,_,p⟩:=x;exact p.lt
 | dK kvs=>obtain⟨_,_,_,_,o,_,_,e,_⟩:=x;exact AZ e
 | dT kvs=>obtain⟨_,_,_,_,o,_,_,e,_⟩:=x;exact AZ e
 | set S n=>obtain⟨o,_,_,_,e,_⟩:=x;exact AZ e
 | ins C dx fs=>obtain⟨_,_,_,e,_⟩:=x;exact AZ e
 | own y=>obtain⟨_,e⟩:=x;exact AZ e
 | xd fs=>obtain⟨_,⟨_,_,_,e,_⟩,_⟩:=x;exact AZ e
 | rng lo hi=>obtain⟨_,_,_,e⟩:=x;exact AZ e
 | frz ob u=>obtain⟨e,_⟩:=x;exact AZ e
 | tbl ps=>exact AZ (show h.get? a=some _ from x)
 | met f y=>exact AZ (show h.get? a=some _ from x)
 | ext φ=>obtain⟨_,⟨_,e⟩,_⟩:=x;exact AZ e
theorem Paired.mapP{α β:Type}{F G:α->β->Prop}:∀{l₁:List α}{l₂:List β},BV F l₁ l₂->(∀a b,F a b->G a b)->BV G l₁ l₂
 | _,_,.nil,_=>.nil
 | _,_,.cons r t,f=>.cons (f _ _ r) (Paired.mapP t f)
theorem J4.stay(x:J4 P w H h a o)(k:∀b u,(b=a\/H b=some (.own a))->h.get? b=some u->h'.get? b=some u)
  (ho:∀b,H b=some (.own a)->H' b=some (.own a)) (ht:∀b xs,H b=some (.tup xs)->H' b=some (.tup xs)):J4 P w H' h' a o:=by
 induction o with
 | lst xs=>obtain⟨z,its,n,r,e⟩:=x;exact⟨z,its,n,r,k _ _ (.inl rfl) e⟩
 | tup xs=>obtain⟨z,its,r,ob,e,c⟩:=x;exact⟨z,its,r,ob,k _ _ (.inl rfl) e,c⟩
 | dK kvs=>obtain⟨z,y,vs,r,ob,es,ep,e,c⟩:=x;exact⟨z,y,vs,r,ob,es,ep,k _ _ (.inl rfl) e,c⟩
 | dT kvs=>
  obtain⟨z,y,xs,r,ob,es,ep,e,c⟩:=x;exact⟨z,y,xs,Paired.mapP r fun p q z=>⟨z.1,ht _ _ z.2.1,z.2.2⟩,ob,es,ep,k _ _ (.inl rfl) e,c⟩
 | set S n=>obtain⟨ob,es,ep,t,e,c⟩:=x;exact⟨ob,es,ep,t,k _ _ (.inl rfl) e,c⟩
 | ins C dx fs=>
  obtain⟨d,z,ne,e,mA,⟨od,es,ep,e2,c⟩,r⟩:=x;exact⟨ho _ d,z,ne,k _ _ (.inl rfl) e,mA,⟨od,es,ep,k _ _ (.inr d) e2,c⟩,r⟩
 | own y=>obtain⟨ob,e⟩:=x;exact⟨ob,k _ _ (.inl rfl) e⟩
 | xd fs=>obtain⟨mA,⟨od,es,ep,e,c⟩,r⟩:=x;exact⟨mA,⟨od,es,ep,k _ _ (.inl rfl) e,c⟩,r⟩
 | rng lo hi=>obtain⟨t,u,v,e⟩:=x;exact⟨t,u,v,k _ _ (.inl rfl) e⟩
 | frz ob u ih=>obtain⟨e,q⟩:=x;exact⟨k _ _ (.inl rfl) e,ih q⟩
 | tbl ps=>
  have e:h.get? a=some { cls:=.none,data:=.fields ps }:=x;show h'.get? a=some { cls:=.none,data:=.fields ps };exact k a _ (.inl rfl) e
 | met f y=>
  have e:h.get? a=some (Fz (.ref f) (.ref y)):=x;show h'.get? a=some (Fz (.ref f) (.ref y));exact k a _ (.inl rfl) e
 | ext φ=>obtain⟨p,⟨o,e⟩,st⟩:=x;exact⟨st _ _ p fun o q=>k _ _ (.inl rfl) q,⟨o,k _ _ (.inl rfl) e⟩,st⟩
theorem HOk.lt(x:HOk P w H h)(e:H a=some o):a<h.objs.size:=(x a o e).lt
theorem HOk.fresh(x:HOk P w H h)(e:h.objs.size<=a):H a=none:=by
 cases q:H a with
 | none=>rfl
 | some u=>exact absurd (AF (x.lt q) e) (CL _)
theorem HOk.kept(x:HOk P w H h)(k:∀b u,h.get? b=some u->h'.get? b=some u):HOk P w H h':=fun a o e=>
 (x a o e).stay (fun b u _ q=>k b u q) (fun _ q=>q) fun _ _ q=>q
theorem HOk.laid(x:HOk P w H h)(k:∀b u,h.get? b=some u->h'.get? b=some u)(hp:h.objs.size<=a)(new:J4 P w (upd H a o) h' a o):HOk P w (upd H a o) h':=fun b u e=>by
 have hn:=x.fresh hp
 by_cases hb:b=a
 .subst hb;rw[Ja]at e;cases e;exact new
 .rw[Jg hb]at e
  exact(x b u e).stay (fun c v _ q=>k c v q) (fun c q=>by rw[Jg (Jh q hn)];exact q) fun c xs q=>by rw[Jg (Jh q hn)];exact q
end
def Rd(H:Hp)(a:Addr)(u:HO):Prop:=H a=some u\/∃o,H a=some (.frz o u)
theorem Rd.ok{P:Ab}{w:At}{H:Hp}{h:Heap}{a:Addr}{u:HO}(r:Rd H a u)(x:HOk P w H h):J4 P w H h a u:=by
 rcases r with r|⟨o,r⟩
 .exact x a u r
 .obtain⟨_,q⟩:=x a _ r;exact q
noncomputable def Mut:Option HO->Prop
 | some (.lst _)=>True
 | some (.dK _)=>True
 | some (.dT _)=>True
 | some (.set _ _)=>True
 | some (.ins _ _ _)=>True
 | some (.ext _)=>True
 | _=>False
section
variable {P:Ab} {w:At} {H:Hp} {h h':Heap} {x e:Addr} {o':HO}
theorem HOk.write(ok:HOk P w H h)(mu:Mut (H x))(he:e=x\/H e=some (.own x))(k:∀b u,b≠e->h.get? b=some u->h'.get? b=some u)(heo:∃u,h'.get? e=some u)
  (new:J4 P w (upd H x o') h' x o'):HOk P w (upd H x o') h':=fun b u q=>by
 have nown:∀c y,H c=some (.own y)->c≠x:=fun c y r z=>by subst z;rw[r]at mu;exact mu
 have ntup:∀c xs,H c=some (.tup xs)->c≠x:=fun c xs r z=>by subst z;rw[r]at mu;exact mu
 by_cases hb:b=x
 .subst hb;rw[Ja]at q;cases q;exact new
 .rw[Jg hb]at q
  by_cases hbe:b=e
  .have q':H b=some (.own x):=by
    rcases he with z|z
    .exact absurd (hbe.trans z) hb
    .rw[hbe];exact z
   rw[q]at q';cases q';obtain⟨v,hv⟩:=heo;exact⟨v,by rw[hbe];exact hv⟩
  .refine(ok b u q).stay (fun c v hc r=>k c v ?_ r) (fun c r=>by rw[Jg (nown c b r)];exact r) fun c xs r=>by rw[Jg (ntup c xs r)];exact r
   rcases hc with rfl|hc
   .exact hbe
   .rintro rfl
    rcases he with z|z
    .exact nown c b hc z
    .rw[hc]at z;cases z;exact hb rfl
end
structure Un(fs ex:List Addr)(H H':Hp)(h h':Heap):Prop where
 keep:∀b o,h.get? b=some o->H b=none->b∉fs->b∉ex->h'.get? b=some o
 slot:∀b o,h.get? b=some o->H b=none->b∈fs->b∉ex->∃sl,h'.get? b=some { o with slots:=sl }
 free:∀b o,h.get? b=some o->H b=none->b∉ex->H' b=none
 there:∀b o,h.get? b=some o->b∉ex->∃o',h'.get? b=some o'
 tups:∀b xs,H b=some (.tup xs)->H' b=some (.tup xs)
 frzs:∀b o u,H b=some (.frz o u)->H' b=some (.frz o u)
 tbls:∀b ps,H b=some (.tbl ps)->∃more,H' b=some (.tbl (ps++more))
section
variable {fs fs' ex ex':List Addr} {H H1 H2:Hp} {h h1 h2 h':Heap} {a x e:Addr} {o:HO}
theorem Un.any(u:Un fs ex H H1 h h1){b:Addr}{ob:Obj}(q:h.get? b=some ob)(n:H b=none)(hx:b∉ex):∃sl,h1.get? b=some { ob with slots:=sl }:=by
 by_cases hb:b∈fs
 .exact u.slot b ob q n hb hx
 .exact⟨ob.slots,u.keep b ob q n hb hx⟩
theorem Un.kept(k:∀b u,h.get? b=some u->h'.get? b=some u):Un fs ex H H h h':=
 ⟨fun b ob q _ _ _=>k b ob q,fun b ob q _ _ _=>⟨ob.slots,k b ob q⟩,fun _ _ _ n _=>n,fun b ob q _=>⟨ob,k b ob q⟩,fun _ _ q=>q,fun _ _ _ q=>q,fun _ ps q=>⟨#[],by rw[q];simp⟩⟩
theorem Un.refl:Un fs ex H H h h:=Un.kept fun _ _ q=>q
theorem Un.laid(k:∀b u,h.get? b=some u->h'.get? b=some u)(hp:h.objs.size<=a)(hn:H a=none):Un fs ex H (upd H a o) h h' where
 keep:=fun b u q _ _ _=>k b u q
 slot:=fun b u q _ _ _=>⟨u.slots,k b u q⟩
 free:=fun b u q n _=>by rw[Jg (Ar (AF (AZ q) hp))];exact n
 there:=fun b u q _=>⟨u,k b u q⟩
 tups:=fun b xs q=>by rw[Jg (Jh q hn)];exact q
 frzs:=fun b u xs q=>by rw[Jg (Jh q hn)];exact q
 tbls:=fun b ps q=>⟨#[],by rw[Jg (Jh q hn),q];simp⟩
theorem Un.write(mu:Mut (H x))(he:e=x\/H e=some (.own x))(k:∀b u,b≠e->h.get? b=some u->h'.get? b=some u)(heo:∃u,h'.get? e=some u):Un fs ex H (upd H x o) h h':=by
 have hx:∀b,H b=none->b≠x:=fun b n z=>by subst z;rw[n]at mu;exact mu
 have hb:∀b,H b=none->b≠e:=fun b n z=>by
  subst z
  rcases he with r|r
  .exact hx b n r
  .rw[n]at r;cases r
 have hm:∀b u,H b=some u->¬Mut (some u)->b≠x:=fun b u q nm z=>by subst z;rw[q]at mu;exact nm mu
 refine⟨fun b u q n _ _=>k b u (hb b n) q,fun b u q n _ _=>⟨u.slots,k b u (hb b n) q⟩,fun b u q n _=>by rw[Jg (hx b n)];exact n,fun b u q _=>?_,
  fun b xs q=>by rw[Jg (hm b _ q fun z=>z)];exact q,fun b u xs q=>by rw[Jg (hm b _ q fun z=>z)];exact q,fun b ps q=>⟨#[],by rw[Jg (hm b _ q fun z=>z),q];simp⟩⟩
 by_cases hbe:b=e
 .subst hbe;exact heo
 .exact⟨u,k b u hbe q⟩
end
def trk(h:Heap)(H:Hp):List Addr:=(AT h.objs.size).filter fun a=>(H a).isSome
def Jow(h:Heap)(H:Hp):Heap:=Gw h (trk h H)
theorem JnA(h:Heap)(H:Hp):(Jow h H).objs.size=h.objs.size:=PySem.W.hideAll_size _ _
theorem JoY{h:Heap}{H:Hp}{b:Addr}{o:Obj}(e:h.get? b=some o)(n:H b=none):(Jow h H).get? b=some o:=
 GT _ e fun hm=>by
  have q:(H b).isSome=true:=(B5.mp hm).2;rw[n]at q;simp at q
theorem Jqs{h:Heap}{H:Hp}{b:Addr}{o:Obj}(e:(Jow h H).get? b=some o):h.get? b=some o/\H b=none:=by
 have e':h.get? b=some o:=Hm (trk h H) e;refine⟨e',?_⟩
 cases q:H b with
 | none=>rfl
 | some x=>
  have hm:b∈trk h H:=B5.mpr ⟨De.mpr (AZ e'),by simp[q]⟩;have z:(Jow h H).get? b=none:=PySem.W.hideAll_none (trk h H) hm;rw[z]at e;cases e
noncomputable def Jrl(g h:Heap)(L:Addr):PL:=(AT h.objs.size).filterMap fun a=>if a=L\/(g.get? a).isSome=true then none else(h.get? a).map fun o=>(a,o)
def rest(g h:Heap)(L d:Addr):PL:=(Jrl g h L).filter fun p=>decide (p.1≠d)
structure Mod(K:WF)(mg:MO)(base:Heap):Prop where
 kin:K.In base
 glob:base.Ns AB mg
 blt:∃mb,base.Ns KD mb/\∀x:Str,x≠"__name__"->mb x=Bw x
 nolimit:base.NoLimit
structure Cx where
 prog:Ab
 w:At
 K:WF
 mg:MO
 base:Heap
 A:AH
 N:List Str
 s₀:A9
 H₀:Hp
 env:Env
 outer:List Env
 stack:List Env
 ex:List Addr
 fn:Str->Bool
 calm:Bool
 pn:PL
 xe:VS
def frs(l:List Env):List Addr:=l.filterMap (·.frame)
abbrev Cx.fs(X:Cx):List Addr:=frs X.outer
def Vis(sc:DV)(x:Str):Prop:=sc.names.lookup x=some .local\/sc.names.lookup x=some .cell\/sc.names.lookup x=some .free
def Loc(sc:DV)(x:Str):Prop:=sc.names.lookup x=some .local\/sc.names.lookup x=some .cell
def Jug(env:Env)(h:Heap)(m:MO)(x:Str)(u:A3):Prop:=
 (env.kindOf x=some .local/\m x=some u)\/((env.kindOf x=some .cell\/env.kindOf x=some .free)/\∃c,env.cells.lookup x=some c/\h.IsCell c (some u))
structure Cx.Ok(X:Cx):Prop where
 mod:Mod X.K X.mg X.base
 kind:X.env.scope.kind=.function
 glob:X.env.globals=AB
 blt:X.env.builtins=KD
 above:X.s₀.heap.objs.size<=X.env.locals
 inj:∀x y c,X.env.cells.lookup x=some c->X.env.cells.lookup y=some c->x=y
 has:∀x,(X.env.kindOf x=some .cell\/X.env.kindOf x=some .free)->∃c,X.env.cells.lookup x=some c
 cab:∀x c,X.fn x=true->X.env.cells.lookup x=some c->X.s₀.heap.objs.size<=c
 hd:X.calm=true->X.A.handled=none
 frames:X.A.frames=some X.stack
 stk:X.stack=X.outer\/(X.stack=X.env::X.outer/\X.env.frame=some X.env.locals)
 exf:∀b∈X.ex,b≠X.env.locals/\∀x c,X.env.cells.lookup x=some c->c≠b
 bs:∀b o,X.base.get? b=some o->X.s₀.heap.get? b=some o/\X.H₀ b=none
 bsz:X.base.objs.size<=X.s₀.heap.objs.size
 noex:∀b o,X.base.get? b=some o->b∉X.ex
 exfs:∀b∈X.ex,b∉X.fs
 funs:X.s₀.heap.FunFrames X.base X.outer
 frf:∀b∈X.fs,X.H₀ b=none
structure Inv(X:Cx)(pins:PL)(σ:List (Option V))(H:Hp)(s:A9):Prop where
 ok:X.Ok
 os:s.os=X.s₀.os
 bare:Ep s.gens
 base:Un X.fs X.ex X.H₀ H X.s₀.heap s.heap
 loc:∃m,s.heap.Ns X.env.locals m/\∀(i:Nat)(x:Str)(v:V),X.N[i]?=some x->σ[i]?=some (some v)->Vis X.env.scope x->∃u,Jaa v u/\Jug X.env s.heap m x u
 cell:∀x c,X.env.cells.lookup x=some c->∃v,s.heap.IsCell c v
 free:H X.env.locals=none
 freeC:∀x c,X.env.cells.lookup x=some c->H c=none
 pin:∀p∈X.pn++pins,s.heap.get? p.1=some p.2/\H p.1=none/\p.1≠X.env.locals/\p.1∉X.fs/\∀v,p.2.data≠.cell v
 hok:HOk X.prog X.w H s.heap
 len:σ.length=X.N.length
section
variable {X:Cx} {pins:PL} {σ:List (Option V)} {H H':Hp} {s:A9} {h':Heap}
theorem Cx.Ok.nofr(ok:X.Ok){b:Addr}{o:Obj}(e:X.base.get? b=some o):b∉X.fs:=fun hb=>by
 have:=(ok.funs.mem hb).1;rw[e]at this;cases this
theorem Inv.bs(I:Inv X pins σ H s):∀b o,X.base.get? b=some o->s.heap.get? b=some o/\H b=none:=fun b o e=>
 ⟨I.base.keep b o (I.ok.bs b o e).1 (I.ok.bs b o e).2 (I.ok.nofr e) (I.ok.noex b o e),I.base.free b o (I.ok.bs b o e).1 (I.ok.bs b o e).2 (I.ok.noex b o e)⟩
theorem Inv.bk(I:Inv X pins σ H s):∀b o,X.base.get? b=some o->s.heap.get? b=some o:=fun b o e=>(I.bs b o e).1
theorem Inv.mod(I:Inv X pins σ H s):Mod X.K X.mg X.base:=I.ok.mod
theorem Inv.kIn(I:Inv X pins σ H s):X.K.In s.heap:=I.ok.mod.kin.keeps I.bk
theorem Inv.lt(I:Inv X pins σ H s):X.env.locals<s.heap.objs.size:=let ⟨_,hn,_⟩:=I.loc;hn.lt
theorem Inv.sz(I:Inv X pins σ H s):X.s₀.heap.objs.size<=s.heap.objs.size:=B0 I.ok.above (Cf I.lt)
theorem Inv.nofs(I:Inv X pins σ H s){a:Addr}(h:s.heap.objs.size<=a):a∉X.fs:=fun hb=>by
 obtain⟨_,o,ho,_⟩:=I.ok.funs.mem hb;exact absurd (AF (AZ ho) (B0 I.sz h)) (CL _)
theorem Inv.cne(I:Inv X pins σ H s):∀x c,X.env.cells.lookup x=some c->c≠X.env.locals:=fun x c e z=>by
 obtain⟨v,o,ho,hd⟩:=I.cell x c e;obtain⟨m,⟨o',es,ep,ho',hd',_⟩,_⟩:=I.loc;rw[z,ho']at ho;cases ho;rw[hd']at hd;cases hd
theorem Inv.funs(I:Inv X pins σ H s):s.heap.FunFrames X.base X.outer:=by
 have all:∀(l:List Env),(∀b∈frs l,b∈X.fs)->X.s₀.heap.FunFrames X.base l->s.heap.FunFrames X.base l:=by
  intro l
  induction l with
  | nil=>intro _ _;trivial
  | cons env r ih=>
   intro hs hl;obtain⟨hk,⟨L,o,hf,hn,ho,hd⟩,hr⟩:=hl;have hL:L∈X.fs:=hs L (by unfold frs;rw[D0,hf];exact Az);obtain⟨sl,e⟩:=I.base.slot L o ho (I.ok.frf L hL) hL fun z=>I.ok.exfs L z hL;exact⟨hk,⟨L,_,hf,hn,e,hd⟩,ih (fun b hb=>hs b (by unfold frs;rw[D0,hf];exact AY _ hb)) hr⟩
 exact all X.outer (fun _ hb=>hb) I.ok.funs
theorem Inv.stack(I:Inv X pins σ H s):s.heap.FunFrames X.base X.stack:=by
 rcases I.ok.stk with e|⟨e,hf⟩
 .rw[e];exact I.funs
 .rw[e];obtain⟨m,hn,_⟩:=I.loc;refine .cons (by rw[I.ok.kind];decide) hf hn ?_ I.funs;exact Heap.get?_none_of_le (B0 I.ok.bsz I.ok.above)
theorem Inv.stkSub(I:Inv X pins σ H s):∀b∈frs X.stack,b∈X.env.locals::X.fs:=fun b hb=>by
 rcases I.ok.stk with e|⟨e,hf⟩
 .rw[e]at hb;exact AY _ hb
 .rw[e]at hb;unfold frs at hb;rw[D0,hf]at hb;exact hb
theorem Inv.stkFree(I:Inv X pins σ H s):∀b∈frs X.stack,H b=none:=fun b hb=>by
 rcases Aq.mp (I.stkSub b hb)with e|hb
 .rw[e];exact I.free
 .obtain⟨_,o,ho,_⟩:=I.ok.funs.mem hb;exact I.base.free b o ho (I.ok.frf b hb) fun z=>I.ok.exfs b z hb
theorem Inv.step{g':Array M7}{t':Nat}{d':Kn}{ch:List Addr}(I:Inv X pins σ H s)
  (hch:∀b∈ch,(b∈X.ex\/X.s₀.heap.objs.size<=b)/\b≠X.env.locals/\(∀x c,X.env.cells.lookup x=some c->c≠b)/\∀p∈X.pn++pins,p.1≠b)
  (keep:∀b o,b≠X.env.locals->b∉X.fs->b∉ch->s.heap.get? b=some o->H b=none->h'.get? b=some o)
  (slot:∀b o,b≠X.env.locals->b∈X.fs->b∉ch->s.heap.get? b=some o->H b=none->∃sl,h'.get? b=some { o with slots:=sl }) (free:∀b o,b∉ch->s.heap.get? b=some o->H b=none->H' b=none)
  (there:∀b o,b∉ch->s.heap.get? b=some o->∃o',h'.get? b=some o')
  (tups:∀b xs,H b=some (.tup xs)->H' b=some (.tup xs)) (frzs:∀b o u,H b=some (.frz o u)->H' b=some (.frz o u)) (tbls:∀b ps,H b=some (.tbl ps)->∃more,H' b=some (.tbl (ps++more)))
  (ns:∀m,s.heap.Ns X.env.locals m->h'.Ns X.env.locals m) (hok:HOk X.prog X.w H' h') (hg:Ep g') :
  Inv X pins σ H' { s with heap:=h',gens:=g',drawn:=d',toks:=t' }:=by
 have neL:∀b o,X.s₀.heap.get? b=some o->b≠X.env.locals:=fun b o e=>Ar (AF (AZ e) I.ok.above)
 have neC:∀b o,X.s₀.heap.get? b=some o->b∉X.ex->b∉ch:=fun b o e hx hb=>by
  rcases(hch b hb).1 with z|z
  .exact hx z
  .exact absurd (AF (AZ e) z) (CL _)
 have cellK:∀x c,X.env.cells.lookup x=some c->∀v,s.heap.IsCell c v->h'.IsCell c v:=fun x c e v ⟨o,ho,hd⟩ =>by
  have nch:c∉ch:=fun z=>(hch c z).2.2.1 x c e rfl
  by_cases hc:c∈X.fs
  .obtain⟨sl,q⟩:=slot c o (I.cne x c e) hc nch ho (I.freeC x c e);exact⟨_,q,hd⟩
  .exact⟨o,keep c o (I.cne x c e) hc nch ho (I.freeC x c e),hd⟩
 refine⟨I.ok,I.os,hg,⟨fun b o e n hb hx=>?_,fun b o e n hb hx=>?_,fun b o e n hx=>?_,fun b o e hx=>?_,fun b xs e=>tups b xs (I.base.tups b xs e),fun b o xs e=>frzs b o xs (I.base.frzs b o xs e),fun b ps e=>?_⟩,?_,fun x c e=>?_,?_,fun x c e=>?_,fun p hp=>?_,hok,I.len⟩
 .exact keep b o (neL b o e) hb (neC b o e hx) (I.base.keep b o e n hb hx) (I.base.free b o e n hx)
 .obtain⟨sl,e1⟩:=I.base.slot b o e n hb hx;obtain⟨sl',e2⟩:=slot b _ (neL b o e) hb (neC b o e hx) e1 (I.base.free b o e n hx);exact⟨sl',e2⟩
 .obtain⟨o',e1⟩:=I.base.there b o e hx;exact free b o' (neC b o e hx) e1 (I.base.free b o e n hx)
 .obtain⟨o',e1⟩:=I.base.there b o e hx;exact there b o' (neC b o e hx) e1
 .obtain⟨m1,e1⟩:=I.base.tbls b ps e;obtain⟨m2,e2⟩:=tbls b _ e1;exact⟨m1++m2,by rw[e2,HC]⟩
 .obtain⟨m,hn,hl⟩:=I.loc;refine⟨m,ns m hn,fun i x v e1 e2 e3=>?_⟩;obtain⟨u,r,l⟩:=hl i x v e1 e2 e3;refine⟨u,r,?_⟩
  rcases l with l|⟨k,c,e,z⟩
  .exact .inl l
  .exact .inr ⟨k,c,e,cellK x c e _ z⟩
 .obtain⟨v,z⟩:=I.cell x c e;exact⟨v,cellK x c e v z⟩
 .obtain⟨m,⟨o,_,_,ho,_⟩,_⟩:=I.loc;exact free _ o (fun z=>(hch _ z).2.1 rfl) ho I.free
 .obtain⟨v,o,ho,hd⟩:=I.cell x c e;exact free c o (fun z=>(hch c z).2.2.1 x c e rfl) ho (I.freeC x c e)
 .obtain⟨e,n,ne,nf,d⟩:=I.pin p hp;have nch:p.1∉ch:=fun z=>(hch p.1 z).2.2.2 p hp rfl;exact⟨keep p.1 p.2 ne nf nch e n,free p.1 p.2 nch e n,ne,nf,d⟩
theorem Inv.un{t':Nat}(I:Inv X pins σ H s)(u:Un X.fs [] H H' s.heap h')(hok:HOk X.prog X.w H' h'):Inv X pins σ H' { s with heap:=h',toks:=t' }:=by
 obtain⟨m,⟨o,es,ep,ho,r⟩,_⟩:=id I.loc;obtain⟨sl,hL⟩:=u.any ho I.free (by simp)
 exact I.step (g':=s.gens) (d':=s.drawn) (ch:=[]) (fun _ z=>nomatch z) (fun b o _ hb _ e n=>u.keep b o e n hb (by simp)) (fun b o _ hb _ e n=>u.slot b o e n hb (by simp)) (fun b o _ e n=>u.free b o e n (by simp)) (fun b o _ e=>u.there b o e (by simp)) u.tups u.frzs u.tbls (fun m' hm=>by
  obtain⟨o',es',ep',ho',r'⟩:=hm;rw[ho]at ho';cases ho'
  exact⟨_,es',ep',hL,r'⟩) hok I.bare
theorem Inv.call{g':Array M7}{t':Nat}{d':Kn}{ch:List Addr}(I:Inv X pins σ H s)(u:Un (frs X.stack) ch H H' s.heap h')(hok:HOk X.prog X.w H' h')(hg:Ep g')
  (hch:∀b∈ch,(b∈X.ex\/X.s₀.heap.objs.size<=b)/\b≠X.env.locals/\(∀x c,X.env.cells.lookup x=some c->c≠b)/\∀p∈X.pn++pins,p.1≠b) :
  Inv X pins σ H' { s with heap:=h',gens:=g',drawn:=d',toks:=t' }:=by
 obtain⟨m,⟨o,es,ep,ho,r⟩,_⟩:=id I.loc;obtain⟨sl,hL⟩:=u.any ho I.free fun z=>(hch _ z).2.1 rfl
 exact I.step (ch:=ch) hch (fun b o hL hb hc e n=>u.keep b o e n (fun z=>(Aq.mp (I.stkSub b z)).elim hL hb) hc) (fun b o _ _ hc e n=>u.any e n hc) (fun b o hc e n=>u.free b o e n hc) (fun b o hc e=>u.there b o e hc) u.tups u.frzs u.tbls (fun m' hm=>by
  obtain⟨o',es',ep',ho',r'⟩:=hm;rw[ho]at ho';cases ho'
  exact⟨_,es',ep',hL,r'⟩) hok hg
theorem Inv.turned{t':Nat}{it:Addr}(I:Inv X pins σ H s)(k:∀b o,b≠it->s.heap.get? b=some o->h'.get? b=some o)(hn:H it=none)(hL:it≠X.env.locals)
  (h1:it∈X.ex\/X.s₀.heap.objs.size<=it) (h2:∀x c,X.env.cells.lookup x=some c->c≠it) (h3:∀p∈X.pn++pins,p.1≠it):Inv X pins σ H { s with heap:=h',toks:=t' }:=by
 have nit:∀b u,H b=some u->b≠it:=fun b u e z=>by rw[z,hn]at e;cases e
 refine I.step (g':=s.gens) (d':=s.drawn) (ch:=[it]) (fun b hb=>?_) (fun b o _ _ hc e _=>k b o (fun z=>hc (by simp[z])) e) (fun b o _ _ hc e _=>⟨o.slots,k b o (fun z=>hc (by simp[z])) e⟩) (fun _ _ _ _ n=>n)
  (fun b o hc e=>⟨o,k b o (fun z=>hc (by simp[z])) e⟩) (fun _ _ e=>e) (fun _ _ _ e=>e) (fun b ps e=>⟨#[],by rw[e];simp⟩) (fun m hm=>?_) (fun b u e=>?_) I.bare
 .have e:b=it:=by simpa using hb
  subst e;exact⟨h1,hL,h2,h3⟩
 .obtain⟨o,es,ep,ho,r⟩:=hm;exact⟨o,es,ep,k _ o (EK hL) ho,r⟩
 .refine(I.hok b u e).stay (fun c v hc q=>k c v ?_ q) (fun _ q=>q) fun _ _ q=>q
  rcases hc with z|z
  .rw[z];exact nit b u e
  .exact nit c _ z
theorem Inv.tok(I:Inv X pins σ H s)(t:Nat):Inv X pins σ H { s with toks:=t }:=I.un (h':=s.heap) (t':=t) Un.refl I.hok
theorem Inv.kept{t':Nat}(I:Inv X pins σ H s)(k:∀b u,s.heap.get? b=some u->h'.get? b=some u):Inv X pins σ H { s with heap:=h',toks:=t' }:=I.un (Un.kept k) (I.hok.kept k)
theorem Inv.laid{a:Addr}{o:HO}{t':Nat}(I:Inv X pins σ H s)(k:∀b u,s.heap.get? b=some u->h'.get? b=some u)(hp:s.heap.objs.size<=a)(new:J4 X.prog X.w (upd H a o) h' a o) :
  Inv X pins σ (upd H a o) { s with heap:=h',toks:=t' }:=I.un (Un.laid k hp (I.hok.fresh hp)) (I.hok.laid k hp new)
theorem Inv.write{x e:Addr}{o:HO}{t':Nat}(I:Inv X pins σ H s)(mu:Mut (H x))(he:e=x\/H e=some (.own x))(k:∀b u,b≠e->s.heap.get? b=some u->h'.get? b=some u)(heo:∃u,h'.get? e=some u)
  (new:J4 X.prog X.w (upd H x o) h' x o):Inv X pins σ (upd H x o) { s with heap:=h',toks:=t' }:=I.un (Un.write mu he k heo) (I.hok.write mu he k heo new)
theorem Inv.pins_of{pins':PL}(I:Inv X pins σ H s)(h:∀p∈pins',s.heap.get? p.1=some p.2/\H p.1=none/\p.1≠X.env.locals/\p.1∉X.fs/\∀v,p.2.data≠.cell v):Inv X pins' σ H s:=
 ⟨I.ok,I.os,I.bare,I.base,I.loc,I.cell,I.free,I.freeC,fun p hp=>(Ae.mp hp).elim (fun z=>I.pin p (Ba _ z)) (h p),I.hok,I.len⟩
theorem Jla{N:List Str}(hN:N.Nodup){i j:Nat}{x:Str}(a:N[i]?=some x)(b:N[j]?=some x):i=j:=by
 obtain⟨h1,e1⟩:=A7.mp a;obtain⟨h2,e2⟩:=A7.mp b;exact(List.getElem_inj hN).mp (e1.trans e2.symm)
theorem Jmh{M:Ma}{A:AH}{E:VS}{i:Nat}{x:Str}{v:V}{u:A3}{Q:Unit->A9->Prop}(I:Inv X pins σ H s)(hN:X.N.Nodup)(hi:X.N[i]?=some x)(hx:Loc X.env.scope x)(r:Jaa v u)
  (h:∀s',Inv X pins (σ.set i (some v)) H s'->(∃a,Br a s.heap s'.heap/\(a=X.env.locals\/X.env.cells.lookup x=some a))->Q () s') (hf:X.fn x=true\/X.env.scope.names.lookup x=some .local:=by first|exact .inl rfl|exact .inr rfl|assumption):AV M A (storeName X.env x u) Q E s:=by
 obtain⟨m,hn,hl⟩:=id I.loc
 have hcls:(X.env.scope.kind==.class||(X.env.scope.kind==.module&&X.env.locals != X.env.globals))=false:=by rw[I.ok.kind];rfl
 have hiσ:i<σ.length:=by rw[I.len];exact(A7.mp hi).1
 have cne:=I.cne
 have tracked:∀{a:Addr}{h':Heap},(∃o,s.heap.get? a=some o/\H a=none)->Br a s.heap h'->HOk X.prog X.w H h':=fun{a h'} ha hs b ob e=>by
  obtain⟨_,_,hfree⟩:=ha;refine(I.hok b ob e).stay (fun c w' hc q=>(hs.2 c ?_).trans q) (fun _ q=>q) fun _ _ q=>q;rintro rfl
  rcases hc with rfl|hc
  .rw[hfree]at e;cases e
  .rw[hfree]at hc;cases hc
 rcases hx with hk|hk
 .refine wpAny_storeName_local hk hn (fun h' hn' hs=>?_) hcls;obtain⟨oL,_,_,hoL,_⟩:=id hn;refine h _ ⟨I.ok,I.os,I.bare,⟨fun b o e n hb hx=>?_,fun b o e n hb hx=>?_,I.base.free,fun b o e hx=>?_,I.base.tups,I.base.frzs,I.base.tbls⟩,⟨_,hn',fun j y v' e1 e2 e3=>?_⟩,fun y c e=>?_,I.free,I.freeC,fun p hp=>?_,tracked ⟨oL,hoL,I.free⟩ hs,by simpa using I.len⟩ ⟨_,hs,.inl rfl⟩
  .exact(hs.2 b (Ar (AF (AZ e) I.ok.above))).trans (I.base.keep b o e n hb hx)
  .obtain⟨sl,e1⟩:=I.base.slot b o e n hb hx;exact⟨sl,(hs.2 b (Ar (AF (AZ e) I.ok.above))).trans e1⟩
  .obtain⟨o',e1⟩:=I.base.there b o e hx;exact⟨o',(hs.2 b (Ar (AF (AZ e) I.ok.above))).trans e1⟩
  .by_cases hj:j=i
   .subst hj;rw[hi]at e1;cases e1;rw[FR hiσ]at e2;cases e2;exact⟨u,r,.inl ⟨hk,by simp⟩⟩
   .rw[GD (EK hj)]at e2;obtain⟨u',r',q⟩:=hl j y v' e1 e2 e3;refine⟨u',r',?_⟩
    rcases q with⟨k,e⟩|⟨k,c,e,z⟩
    .refine .inl ⟨k,?_⟩;have:y≠x:=fun e=>hj (Jla hN e1 (e ▸ hi));simp[this,e]
    .exact .inr ⟨k,c,e,z.sameBut hs (cne y c e)⟩
  .obtain⟨w',z⟩:=I.cell y c e;exact⟨w',z.sameBut hs (cne y c e)⟩
  .obtain⟨e,n,ne,nf,d⟩:=I.pin p hp;exact⟨(hs.2 p.1 ne).trans e,n,ne,nf,d⟩
 .have hfn:X.fn x=true:=by
   rcases hf with z|z
   .exact z
   .rw[z]at hk;cases hk
  obtain⟨c,hc⟩:=I.ok.has x (.inl hk);obtain⟨w',z⟩:=I.cell x c hc;refine wpAny_storeName_cell I.ok.kind hk hc z (fun h' hc' hs=>?_);obtain⟨oc,hoc,hocd⟩:=id z;refine h { s with heap:=h' } ⟨I.ok,I.os,I.bare,⟨fun b o e n hb hx=>?_,fun b o e n hb hx=>?_,I.base.free,fun b o e hx=>?_,I.base.tups,I.base.frzs,I.base.tbls⟩,⟨m,hn.sameBut hs (EK (cne x c hc)),fun j y v' e1 e2 e3=>?_⟩,fun y c' e=>?_,I.free,I.freeC,fun p hp=>?_,tracked ⟨oc,hoc,I.freeC x c hc⟩ hs,by simpa using I.len⟩ ⟨c,hs,.inr hc⟩
  .exact(hs.2 b (Ar (AF (AZ e) (I.ok.cab x c hfn hc)))).trans (I.base.keep b o e n hb hx)
  .obtain⟨sl,e1⟩:=I.base.slot b o e n hb hx;exact⟨sl,(hs.2 b (Ar (AF (AZ e) (I.ok.cab x c hfn hc)))).trans e1⟩
  .obtain⟨o',e1⟩:=I.base.there b o e hx;exact⟨o',(hs.2 b (Ar (AF (AZ e) (I.ok.cab x c hfn hc)))).trans e1⟩
  .by_cases hj:j=i
   .subst hj;rw[hi]at e1;cases e1;rw[FR hiσ]at e2;cases e2;exact⟨u,r,.inr ⟨.inl hk,c,hc,hc'⟩⟩
   .rw[GD (EK hj)]at e2;obtain⟨u',r',q⟩:=hl j y v' e1 e2 e3;refine⟨u',r',?_⟩
    rcases q with q|⟨k,c',e,z'⟩
    .exact .inl q
    .refine .inr ⟨k,c',e,z'.sameBut hs ?_⟩;rintro rfl;exact hj (Jla hN e1 (I.ok.inj _ _ _ e hc ▸ hi))
  .by_cases hcc:c'=c
   .subst hcc;exact⟨_,hc'⟩
   .obtain⟨w2,z2⟩:=I.cell y c' e;exact⟨w2,z2.sameBut hs hcc⟩
  .obtain⟨e,n,ne,nf,d⟩:=I.pin p hp;refine⟨(hs.2 p.1 ?_).trans e,n,ne,nf,d⟩;intro q;rw[q,hoc]at e;have q':oc=p.2:=Ai e;exact d w' (by rw[<- q'];exact hocd)
theorem Jkt{M:Ma}{A:AH}{E:VS}{i:Nat}{x:Str}{v:V}{u:A3}{Q:Unit->A9->Prop}(I:Inv X pins σ H s)(hN:X.N.Nodup)(hi:X.N[i]?=some x)(hx:Loc X.env.scope x)(r:Jaa v u)
  (h:∀s',Inv X pins (σ.set i (some v)) H s'->Q () s') (hf:X.fn x=true\/X.env.scope.names.lookup x=some .local:=by first|exact .inl rfl|exact .inr rfl|assumption):AV M A (storeName X.env x u) Q E s:=
 Jmh I hN hi hx r (fun s' I' _=>h s' I') hf
theorem Inv.call'{s':A9}{ch:List Addr}(I:Inv X pins σ H s)(ho:s'.os=s.os)(u:Un (frs X.stack) ch H H' s.heap s'.heap)(hok:HOk X.prog X.w H' s'.heap)(hg:Ep s'.gens)
  (hch:∀b∈ch,(b∈X.ex\/X.s₀.heap.objs.size<=b)/\b≠X.env.locals/\(∀x c,X.env.cells.lookup x=some c->c≠b)/\∀p∈X.pn++pins,p.1≠b):Inv X pins σ H' s':=by
 obtain⟨h',g',d',t',o'⟩:=s';have e:o'=s.os:=ho;subst e;exact I.call (g':=g') (t':=t') (d':=d') u hok hg hch
end
abbrev XK:=A3->Option Addr->Hp->Prop
abbrev St:=List (Option V)
abbrev VK:=V->Hp->Prop
abbrev TE:=St->Hp->VK->Prop
abbrev TT:=St->Hp->(Bool->Hp->Prop)->Prop
abbrev TA:=St->Hp->(List V->Hp->Prop)->Prop
structure Jos where
 nx:St->Hp->Prop
 rt:VK
 bk:St->Hp->Prop:=fun _ _=>False
 ct:St->Hp->Prop:=fun _ _=>False
abbrev TS:=Jos->St->Hp->Prop
def EP(X:Cx)(pins:PL)(σ:St)(Q:VK)(u:A3)(s':A9):Prop:=∃v H',Inv X pins σ H' s'/\Jaa v u/\Q v H'
def TP(X:Cx)(pins:PL)(σ:St)(Q:Bool->Hp->Prop)(b:Bool)(s':A9):Prop:=∃H',Inv X pins σ H' s'/\Q b H'
def AP(X:Cx)(pins:PL)(σ:St)(Q:List V->Hp->Prop)(us:List A3)(s':A9):Prop:=∃vs H',Inv X pins σ H' s'/\Y2 vs us/\Q vs H'
def SP(X:Cx)(pins:PL)(D:Jos)(f:Flow)(s':A9):Prop:=
 match f with
 | .next=>∃σ' H',Inv X pins σ' H' s'/\D.nx σ' H'
 | .brk=>∃σ' H',Inv X pins σ' H' s'/\D.bk σ' H'
 | .cont=>∃σ' H',Inv X pins σ' H' s'/\D.ct σ' H'
 | .ret u=>∃v σ' H',Inv X pins σ' H' s'/\Jaa v u/\D.rt v H'
def PE(X:Cx)(e:Expr)(t:TE):Prop:=
 ∀(pins:PL) (s:A9) (σ:St) (H:Hp) (Q:VK),Inv X pins σ H s->t σ H Q->AV (Af X.prog X.w) X.A (eval e X.env) (EP X pins σ Q) X.xe s
def PT(X:Cx)(e:Expr)(t:TT):Prop:=
 ∀(pins:PL) (s:A9) (σ:St) (H:Hp) (Q:Bool->Hp->Prop),Inv X pins σ H s->t σ H Q->AV (Af X.prog X.w) X.A (isTrue e X.env (eval e X.env)) (TP X pins σ Q) X.xe s
def PW(X:Cx)(e:Expr)(t:TT):Prop:=
 ∀(whole:Sem A3) (pins:PL) (s:A9) (σ:St) (H:Hp) (Q:Bool->Hp->Prop),Inv X pins σ H s->t σ H Q->AV (Af X.prog X.w) X.A (isTrue e X.env whole) (TP X pins σ Q) X.xe s
theorem PW.pt{X:Cx}{e:Expr}{t:TT}(h:PW X e t):PT X e t:=h _
def PA(X:Cx)(es:List Expr)(t:TA):Prop:=
 ∀(pos:Pos) (pins:PL) (s:A9) (σ:St) (H:Hp) (Q:List V->Hp->Prop),Inv X pins σ H s->t σ H Q->AV (Af X.prog X.w) X.A (spliced (DF pos (AR es X.env))) (AP X pins σ Q) X.xe s
def PS(X:Cx)(st:Stmt)(t:TS):Prop:=
 ∀(pins:PL) (s:A9) (σ:St) (H:Hp) (D:Jos),Inv X pins σ H s->t D σ H->AV (Af X.prog X.w) X.A (exec st X.env) (SP X pins D) X.xe s
def PSs(X:Cx)(st:List Stmt)(t:TS):Prop:=
 ∀(pins:PL) (s:A9) (σ:St) (H:Hp) (D:Jos),Inv X pins σ H s->t D σ H->AV (Af X.prog X.w) X.A (execs st X.env) (SP X pins D) X.xe s
theorem thn{α:Type}{t:Sem α}{Q Q':α->A9->Prop}{M:Ma}{A:AH}{E:VS}{s:A9}(h:AV M A t Q E s)(hQ:∀a s,Q a s->Q' a s):AV M A t Q' E s:=Db h hQ fun _ _ x=>x
section
variable {X:Cx}
def Jtp(i:Nat):TE:=fun σ H Q=>∃v,σ[i]?=some (some v)/\Q v H
def tC(v:V):TE:=fun _ H Q=>Q v H
theorem Jr4{i:Nat}{x:Str}{pos:Pos}(hN:X.N[i]?=some x)(hv:Vis X.env.scope x)(hd:(x==("__debug__" : Str))=false:=by decide)(hcd:(x==("__classdict__" : Str))=false:=by decide):PE X (.Name x pos) (Jtp i):=by
 intro pins s σ H Q I h;obtain⟨v,e,h⟩:=h;obtain⟨m,hn,hl⟩:=I.loc;obtain⟨u,r,l⟩:=hl i x v hN e hv;have fin:EP X pins σ Q u s:=⟨v,H,I,r,h⟩
 rcases l with⟨hk,hm⟩|⟨hk,c,hc,hcell⟩
 .exact KB (wpAny_loadName_local I.ok.kind hk hn hm fin) hd
 .rcases hk with hk|hk
  .exact KB (wpAny_loadName_cell I.ok.kind hk hc hcell fin) hd
  .exact KB (wpAny_loadName_free I.ok.kind hk hc hcell fin hcd) hd
theorem Jc{i j pos}:PE X (.Constant (.int i) j pos) (tC (.int i)):=fun _ _ _ H _ I h=>wpAny_Constant_int ⟨.int i,H,I.tok _,⟨_,rfl⟩,h⟩
theorem JaE{b j pos}:PE X (.Constant (.bool b) j pos) (tC (.bl b)):=fun _ _ _ H _ I h=>Constant_bool ⟨.bl b,H,I,rfl,h⟩
theorem JcK{j pos}:PE X (.Constant .none j pos) (tC .non):=fun _ _ _ H _ I h=>HJ ⟨.non,H,I,rfl,h⟩
theorem Jx{x j pos}:PE X (.Constant (.str x) j pos) (tC (.str x)):=fun _ _ _ H _ I h=>HB ⟨.str x,H,I.tok _,⟨_,rfl⟩,h⟩
def Gl(X:Cx)(x:Str):Prop:=X.env.kindOf x=some .globalImplicit
theorem JfR{E:VS}{pins:PL}{s:A9}{σ:St}{H:Hp}{x:Str}{u:A3}{pos:Pos}{Q:VS}(I:Inv X pins σ H s)(hg:Gl X x)(hm:X.mg x=some u)(h:Q u s)
  (hd:(x==("__debug__" : Str))=false:=by decide):AV (Af X.prog X.w) X.A (eval (.Name x pos) X.env) Q E s:=
 Dg I.ok.kind hg (Fs (by rw[I.ok.glob];exact I.mod.glob.keeps I.bk) hm h) hd
theorem JgL{E:VS}{pins:PL}{s:A9}{σ:St}{H:Hp}{x:Str}{u:A3}{pos:Pos}{Q:VS}(I:Inv X pins σ H s)(hg:Gl X x)(hm:X.mg x=none)(hv:Bw x=some u)(h:Q u s)
  (hn:x≠"__name__":=by decide) (hd:(x==("__debug__" : Str))=false:=by decide):AV (Af X.prog X.w) X.A (eval (.Name x pos) X.env) Q E s:=by
 obtain⟨mb,h1,h2⟩:=I.mod.blt;exact Dg I.ok.kind hg (Calls.loadGlobal_builtin (by rw[I.ok.glob];exact I.mod.glob.keeps I.bk) hm (by rw[I.ok.blt];exact h1.keeps I.bk) ((h2 x hn).trans hv) h) hd
theorem JqA{x:Str}{v:V}{u:A3}{pos:Pos}(hg:Gl X x)(hm:X.mg x=some u)(r:Jaa v u)(hd:(x==("__debug__" : Str))=false:=by decide):PE X (.Name x pos) (tC v):=
 fun _ _ _ H _ I h=>JfR I hg hm ⟨v,H,I,r,h⟩ hd
theorem Yi{x:Str}{v:V}{u:A3}{pos:Pos}(hg:Gl X x)(hm:X.mg x=none)(hv:Bw x=some u)(r:Jaa v u)(hn:x≠"__name__":=by decide)(hd:(x==("__debug__" : Str))=false:=by decide):PE X (.Name x pos) (tC v):=
 fun _ _ _ H _ I h=>JgL I hg hm hv ⟨v,H,I,r,h⟩ hn hd
variable {a b:Expr} {ta tb:TE} {pos:Pos}
def PC(X:Cx)(op:GH)(a b:Expr)(t:TE):Prop:=
 ∀(pins:PL) (s:A9) (σ:St) (H:Hp) (Q:VK),Inv X pins σ H s->t σ H Q->
  AV (Af X.prog X.w) X.A (eval a X.env) (fun v s₁=>AV (Af X.prog X.w) X.A (eval b X.env) (fun u s₂=>AV (Af X.prog X.w) X.A (Bs op v u) (EP X pins σ Q) X.xe s₂) X.xe s₁) X.xe s
theorem Jku(b:Expr){op:GH}(h:op≠.In)(h2:op≠.NotIn):CG op b=false:=by
 have e1:(op==GH.In)=false:=by cases op<;>first|rfl|exact absurd rfl h
 have e2:(op==GH.NotIn)=false:=by cases op<;>first|rfl|exact absurd rfl h2
 cases b<;>simp[CG,e1,e2]
def JuG(ta:TE):TE:=fun σ H Q=>ta σ H fun x H1=>Q (.bl (decide (x=.non))) H1
def Jtz(ta:TE):TE:=fun σ H Q=>ta σ H fun x H1=>Q (.bl (!decide (x=.non))) H1
theorem Jaa.none_iff{x:V}{v:A3}(r:Jaa x v):(v==A3.none)=decide (x=.non):=by
 cases x with
 | non=>cases r;rfl
 | bl _=>cases r;rfl
 | int _=>obtain⟨t,rfl⟩:=r;rfl
 | str _=>obtain⟨t,rfl⟩:=r;rfl
 | byt _=>obtain⟨t,rfl⟩:=r;rfl
 | flt _=>obtain⟨t,rfl⟩:=r;rfl
 | ref _=>cases r;rfl
 | ty _=>cases r;rfl
theorem Jcw{j pos'}(ha:PE X a ta):PC X .Is a (.Constant .none j pos') (JuG ta):=by
 intro pins s σ H Q I h;refine thn (ha pins s σ H _ I h) fun v s1 hzz=>?_;obtain⟨x,H1,I1,r1,q1⟩:=hzz;exact HJ (is_none_gen ⟨.bl _,H1,I1,by rw[r1.none_iff];rfl,q1⟩)
theorem JbQ{j pos'}(ha:PE X a ta):PC X .IsNot a (.Constant .none j pos') (Jtz ta):=by
 intro pins s σ H Q I h;refine thn (ha pins s σ H _ I h) fun v s1 hzz=>?_;obtain⟨x,H1,I1,r1,q1⟩:=hzz;exact HJ (isnot_none_gen ⟨.bl _,H1,I1,by rw[r1.none_iff];rfl,q1⟩)
inductive BlI(x:V)(H:Hp)(Q:Bool->Hp->Prop):Prop
 | mk (c:Bool) (e:x=.bl c) (q:Q c H):BlI x H Q
def tB(t:TE):TT:=fun σ H Q=>t σ H fun x H1=>BlI x H1 Q
theorem JsO{op:GH}{t:TE}(h:PC X op a b t)(h1:CG op b=false:=by first|exact Jku _ (by decide) (by decide)|rfl):PE X (.Compare a [op] [b] pos) t:=fun pins s σ H Q I hw=>wpAny_Compare1 (h pins s σ H Q I hw) h1
theorem Jai{op:GH}{t:TE}(h:PC X op a b t)(h1:CG op b=false:=by first|exact Jku _ (by decide) (by decide)|rfl):PT X (.Compare a [op] [b] pos) (tB t):=by
 intro pins s σ H Q I hw;refine GQ (thn (h pins s σ H _ I hw) fun v s1 h1=>thn h1 fun u s2 h2=>thn h2 fun c s3 hzz=>?_) h1;obtain⟨x,H1,I1,r1,q1⟩:=hzz;obtain⟨d,rfl,q⟩:=q1;cases r1;exact Bf ⟨H1,I1,q⟩
theorem JaP{e:Expr}{t:TE}(h:PE X e t)(he:∀whole,isTrue e X.env whole=(do let v <- whole;standAt e.pos;holding [v] (truthy v)):=by intro _;rfl):PT X e (tB t):=by
 intro pins s σ H Q I hw;refine isTrue_plain (thn (h pins s σ H _ I hw) fun v s1 hzz=>?_) (he _);obtain⟨x,H1,I1,r1,q1⟩:=hzz;obtain⟨d,rfl,q⟩:=q1;cases r1;exact Bf ⟨H1,I1,q⟩
variable {tA tB':TT} {rest:List Expr}
def Jun(t u:TT):TT:=fun σ H Q=>t σ H fun c H1=>if c=true then u σ H1 Q else Q false H1
def tOr(t u:TT):TT:=fun σ H Q=>t σ H fun c H1=>if c=true then Q true H1 else u σ H1 Q
def Juk(t:TT):TT:=fun σ H Q=>t σ H fun c H1=>Q (!c) H1
theorem JbB(ha:PT X a tA):PW X (.BoolOp .And [a] pos) tA:=by
 intro wh pins s σ H Q I h;refine isTrue_and (thn (ha pins s σ H Q I h) fun c s1 e=>?_)
 cases c with
 | true=>exact isTrue_and_nil e
 | false=>exact e
theorem JaW(ha:PT X a tA):PW X (.BoolOp .Or [a] pos) tA:=by
 intro wh pins s σ H Q I h;refine isTrue_or (thn (ha pins s σ H Q I h) fun c s1 e=>?_)
 cases c with
 | false=>exact isTrue_or_nil e
 | true=>exact e
theorem JcN(ha:PT X a tA)(hb:PW X (.BoolOp .And (b::rest) pos) tB'):PW X (.BoolOp .And (a::b::rest) pos) (Jun tA tB'):=by
 intro wh pins s σ H Q I h;refine isTrue_and (thn (ha pins s σ H _ I h) fun c s1 hzz=>?_);obtain⟨H1,I1,q1⟩:=hzz
 cases c with
 | true=>exact hb wh pins s1 σ H1 Q I1 q1
 | false=>exact⟨H1,I1,q1⟩
theorem JbO(ha:PT X a tA)(hb:PW X (.BoolOp .Or (b::rest) pos) tB'):PW X (.BoolOp .Or (a::b::rest) pos) (tOr tA tB'):=by
 intro wh pins s σ H Q I h;refine isTrue_or (thn (ha pins s σ H _ I h) fun c s1 hzz=>?_);obtain⟨H1,I1,q1⟩:=hzz
 cases c with
 | true=>exact⟨H1,I1,q1⟩
 | false=>exact hb wh pins s1 σ H1 Q I1 q1
theorem Jbe(ha:PT X a tA):PT X (.UnaryOp .Not a pos) (Juk tA):=by
 intro pins s σ H Q I h;exact isTrue_not (ha pins s σ H (fun c H1=>Q (!c) H1) I h)
def Js7(ta tb:TE):TE:=fun σ H Q=>ta σ H fun x H1=>∃c,x=.bl c/\if c=true then tb σ H1 Q else Q (.bl false) H1
def JuJ(ta tb:TE):TE:=fun σ H Q=>ta σ H fun x H1=>∃c,x=.bl c/\if c=true then Q (.bl true) H1 else tb σ H1 Q
def JtL(ta:TE):TE:=fun σ H Q=>ta σ H fun x H1=>∃c,x=.bl c/\Q (.bl (!c)) H1
theorem Joe{op}{t:TE}(h:PE X a t):PE X (.BoolOp op [a] pos) t:=fun pins s σ H Q I hw=>BoolOp_one (h pins s σ H Q I hw)
theorem Jp6(ha:PE X a ta)(hb:PE X (.BoolOp .And (b::rest) pos) tb):PE X (.BoolOp .And (a::b::rest) pos) (Js7 ta tb):=by
 intro pins s σ H Q I h;refine BoolOp_and (thn (ha pins s σ H _ I h) fun v s1 hzz=>?_);obtain⟨x,H1,I1,r1,q1⟩:=hzz;obtain⟨c,rfl,q1⟩:=q1;cases r1;refine Bf ?_
 cases c with
 | true=>exact hb pins s1 σ H1 Q I1 q1
 | false=>exact⟨.bl false,H1,I1,rfl,q1⟩
theorem Jti(ha:PE X a ta)(hb:PE X (.BoolOp .Or (b::rest) pos) tb):PE X (.BoolOp .Or (a::b::rest) pos) (JuJ ta tb):=by
 intro pins s σ H Q I h;refine BoolOp_or (thn (ha pins s σ H _ I h) fun v s1 hzz=>?_);obtain⟨x,H1,I1,r1,q1⟩:=hzz;obtain⟨c,rfl,q1⟩:=q1;cases r1;refine Bf ?_
 cases c with
 | false=>exact hb pins s1 σ H1 Q I1 q1
 | true=>exact⟨.bl true,H1,I1,rfl,q1⟩
theorem JrO(ha:PE X a ta):PE X (.UnaryOp .Not a pos) (JtL ta):=by
 intro pins s σ H Q I h;refine UnaryOp_ (thn (ha pins s σ H _ I h) fun v s1 hzz=>?_);obtain⟨x,H1,I1,r1,q1⟩:=hzz;obtain⟨c,rfl,q1⟩:=q1;cases r1;exact not_of (Bf ⟨.bl (!c),H1,I1,rfl,q1⟩)
end
def SqL(K:WF)(H:Hp)(a:Addr)(xs:List V):Prop:=
 Rd H a (.lst xs)\/
  ∃(o:Obj)(its:Array A3)(n:Nat),K.lookup a=some o/\o.cls=.type "list"/\o.dict=none/\o.data=.seq its n/\its.size<=AK/\Y2 xs its.toList
def SqT(K:WF)(H:Hp)(a:Addr)(xs:List V):Prop:=
 Rd H a (.tup xs)\/
  ∃(o:Obj)(its:Array A3)(n:Nat),K.lookup a=some o/\o.cls=.type "tuple"/\o.data=.seq its n/\its.size<=AK/\Y2 xs its.toList
noncomputable def Juo:A3->Option V
 | .none=>some .non
 | .bool b=>some (.bl b)
 | .int i _=>some (.int i)
 | .str x _=>some (.str x)
 | .bytes b _=>some (.byt b)
 | .float b _=>some (.flt b)
 | .ref a=>some (.ref a)
 | .type n=>some (.ty n)
 | _=>none
theorem Jaa.abs{x:V}{u:A3}(r:Jaa x u):Juo u=some x:=by
 cases x with
 | non=>cases r;rfl
 | bl _=>cases r;rfl
 | int _=>obtain⟨t,rfl⟩:=r;rfl
 | str _=>obtain⟨t,rfl⟩:=r;rfl
 | byt _=>obtain⟨t,rfl⟩:=r;rfl
 | flt _=>obtain⟨t,rfl⟩:=r;rfl
 | ref _=>cases r;rfl
 | ty _=>cases r;rfl
theorem Jaa.inj{x y:V}{u:A3}(r:Jaa x u)(q:Jaa y u):x=y:=Ai (r.abs.symm.trans q.abs)
theorem Y2.inj:∀{xs ys:List V}{us:List A3},Y2 xs us->Y2 ys us->xs=ys
 | _,_,_,.nil,.nil=>rfl
 | _,_,_,.cons r t,.cons r' t'=>by rw[r.inj r',Y2.inj t t']
section
variable {X:Cx} {pins:PL} {σ:St} {H:Hp} {s:A9} {a:Addr} {xs ys:List V}
theorem SqL.of{K:WF}(h:H a=some (.lst xs)):SqL K H a xs:=.inl (.inl h)
theorem SqT.of{K:WF}(h:H a=some (.tup xs)):SqT K H a xs:=.inl (.inl h)
theorem Inv.list(I:Inv X pins σ H s)(h:SqL X.K H a xs):∃its:List A3,Y2 xs its/\PlainL s.heap a its.toArray/\xs.length<=AK:=by
 rcases h with h|⟨o,its,n,hk,hc,hd,hs,hz,r⟩
 .obtain⟨z,its,n,r,e⟩:=h.ok I.hok;exact⟨its,r,⟨_,n,e,rfl,rfl,rfl⟩,z⟩
 .refine⟨its.toList,r,⟨o,n,I.kIn a o hk,hc,hd,by simpa using hs⟩,?_⟩;have e:=r.length;simp only[Bo]at e;omega
theorem Inv.tuple(I:Inv X pins σ H s)(h:SqT X.K H a xs):∃its:List A3,Y2 xs its/\M3 s.heap a its.toArray/\xs.length<=AK:=by
 rcases h with h|⟨o,its,n,hk,hc,hs,hz,r⟩
 .obtain⟨z,its,r,p⟩:=h.ok I.hok;exact⟨its,r,p,z⟩
 .refine⟨its.toList,r,⟨o,I.kIn a o hk,hc,n,by simpa using hs⟩,?_⟩;have e:=r.length;simp only[Bo]at e;omega
theorem Inv.list_inj(I:Inv X pins σ H s)(h:SqL X.K H a xs)(h':SqL X.K H a ys):xs=ys:=by
 obtain⟨its,r,⟨o,n,e,_,_,d⟩,_⟩:=I.list h;obtain⟨its',r',⟨o',n',e',_,_,d'⟩,_⟩:=I.list h';rw[e]at e';cases e';rw[d]at d'
 injection d' with d1 _
 have:its=its':=by simpa using congrArg Array.toList d1
 subst this;exact r.inj r'
theorem Inv.tuple_inj(I:Inv X pins σ H s)(h:SqT X.K H a xs)(h':SqT X.K H a ys):xs=ys:=by
 obtain⟨its,r,⟨o,e,_,n,d⟩,_⟩:=I.tuple h;obtain⟨its',r',⟨o',e',_,n',d'⟩,_⟩:=I.tuple h';rw[e]at e';cases e';rw[d]at d'
 injection d' with d1 _
 have:its=its':=by simpa using congrArg Array.toList d1
 subst this;exact r.inj r'
end
abbrev Cx.wish(X:Cx)(E:VS):Cx:={ X with xe:=E }
abbrev Cx.nox(X:Cx):Cx:=X.wish fun _ _=>False
theorem Cx.Ok.wish{X:Cx}(ok:X.Ok)(E:VS):(X.wish E).Ok:=
 ⟨ok.mod,ok.kind,ok.glob,ok.blt,ok.above,ok.inj,ok.has,ok.cab,ok.hd,ok.frames,ok.stk,ok.exf,ok.bs,ok.bsz,ok.noex,ok.exfs,ok.funs,ok.frf⟩
theorem Cx.Ok.unwish{X:Cx}{E:VS}(ok:(X.wish E).Ok):X.Ok:=
 ⟨ok.mod,ok.kind,ok.glob,ok.blt,ok.above,ok.inj,ok.has,ok.cab,ok.hd,ok.frames,ok.stk,ok.exf,ok.bs,ok.bsz,ok.noex,ok.exfs,ok.funs,ok.frf⟩
section
variable {X:Cx} {pins:PL} {σ:St} {H:Hp} {s:A9} {E:A3→A9→Prop}
theorem Inv.wish(I:Inv X pins σ H s)(E:VS):Inv (X.wish E) pins σ H s:=⟨I.ok.wish E,I.os,I.bare,I.base,I.loc,I.cell,I.free,I.freeC,I.pin,I.hok,I.len⟩
theorem Inv.unwish(I:Inv (X.wish E) pins σ H s):Inv X pins σ H s:=⟨I.ok.unwish,I.os,I.bare,I.base,I.loc,I.cell,I.free,I.freeC,I.pin,I.hok,I.len⟩
theorem SP.unwish{D:Jos}{f:Flow}{s':A9}(h:SP (X.wish E) pins D f s'):SP X pins D f s':=by
 cases f with
 | next=>obtain⟨σ',H',I,q⟩:=h;exact⟨σ',H',I.unwish,q⟩
 | brk=>obtain⟨σ',H',I,q⟩:=h;exact⟨σ',H',I.unwish,q⟩
 | cont=>obtain⟨σ',H',I,q⟩:=h;exact⟨σ',H',I.unwish,q⟩
 | ret u=>obtain⟨v,σ',H',I,r,q⟩:=h;exact⟨v,σ',H',I.unwish,r,q⟩
theorem PSs.nox{st:List Stmt}{t:TS}(h:PSs X.nox st t):PSs X st t:=fun pins s σ H D I hw=>
 Db (h pins s σ H D (I.wish _) hw) (fun _ _ q=>q.unwish) fun _ _ z=>BS z
end
section
variable {X:Cx} {st:Stmt} {rest:List Stmt} {t u:TS} {e:Expr} {te:TE} {pos:Pos}
def Jte:TS:=fun D σ H=>D.nx σ H
def JuE(t u:TS):TS:=fun D σ H=>t { D with nx:=u D } σ H
theorem Jr:PSs X [] Jte:=fun _ _ σ H _ I h=>Eb ⟨σ,H,I,h⟩
theorem Jk0(h1:PS X st t)(h2:PSs X rest u):PSs X (st::rest) (JuE t u):=by
 intro pins s σ H D I h;refine Ey (thn (h1 pins s σ H { D with nx:=u D } I h) fun f s1 q=>?_)
 cases f with
 | next=>
  obtain⟨σ',H',I',q⟩:=q;exact h2 pins s1 σ' H' D I' q
 | ret v=>exact q
 | brk=>exact q
 | cont=>exact q
theorem Jf(h1:PS X st t):PSs X [st] t:=by
 intro pins s σ H D I h;refine Ey (thn (h1 pins s σ H D I h) fun f s1 q=>?_)
 cases f with
 | next=>exact Eb q
 | ret v=>exact q
 | brk=>exact q
 | cont=>exact q
theorem Inv.quiet{pins:PL}{σ:St}{H:Hp}{s:A9}(I:Inv X pins σ H s):interactive X.env=false:=by simp[interactive,I.ok.kind]
def Jto(te:TE):TS:=fun D σ H=>te σ H fun _ H1=>D.nx σ H1
theorem JaL(he:PE X e te)(hs:Fb e none pos.line X.env=pure false:=by rfl):PS X (.Expr e pos) (Jto te):=by
 intro pins s σ H D I h;refine wpAny_Expr_any (thn (he pins s σ H _ I h) fun v s1 hzz=>?_) I.quiet hs;obtain⟨x,H1,I1,r1,q1⟩:=hzz;exact⟨σ,H1,I1,q1⟩
def Juz(te:TE):TS:=fun D σ H=>te σ H D.rt
theorem Jp(he:PE X e te):PS X (.Return (some e) pos) (Juz te):=by
 intro pins s σ H D I h;refine EU (thn (he pins s σ H _ I h) fun v s1 hzz=>?_);obtain⟨x,H1,I1,r1,q1⟩:=hzz;exact⟨x,σ,H1,I1,r1,q1⟩
def JuH(c:TT)(t u:TS):TS:=fun D σ H=>c σ H fun b H1=>if b=true then t D σ H1 else u D σ H1
theorem JL{c:Expr}{a b:List Stmt}{tc:TT}(hc:PT X c tc)(ha:PSs X a t)(hb:PSs X b u):PS X (.If c a b pos) (JuH tc t u):=by
 intro pins s σ H D I h;refine wpAny_If (thn (hc pins s σ H _ I h) fun d s1 hzz=>?_);obtain⟨H1,I1,q1⟩:=hzz
 cases d with
 | true=>exact ha pins s1 σ H1 D I1 q1
 | false=>exact hb pins s1 σ H1 D I1 q1
def Jr3:TS:=fun _ _ _=>False
theorem Jid{sts:List Stmt}:PSs X sts Jr3:=fun _ _ _ _ _ _ h=>h.elim
end
abbrev TG:=V->St->Hp->(St->Hp->Prop)->Prop
abbrev TGs:=List V->St->Hp->(St->Hp->Prop)->Prop
def PG(X:Cx)(target:Expr)(t:TG):Prop:=
 ∀(pins:PL) (s:A9) (σ:St) (H:Hp) (v:V) (u:A3) (Q:St->Hp->Prop),Inv X pins σ H s->Jaa v u->t v σ H Q->
  AV (Af X.prog X.w) X.A (assign target X.env u) (fun _ s'=>∃σ' H',Inv X pins σ' H' s'/\Q σ' H') X.xe s
def PGs(X:Cx)(ts:List Expr)(t:TGs):Prop:=
 ∀(pins:PL) (s:A9) (σ:St) (H:Hp) (vs:List V) (us:List A3) (Q:St->Hp->Prop),Inv X pins σ H s->Y2 vs us->t vs σ H Q->
  AV (Af X.prog X.w) X.A (assignInOrder ((EB ts X.env).map (·.2)) us) (fun _ s'=>∃σ' H',Inv X pins σ' H' s'/\Q σ' H') X.xe s
section
variable {X:Cx} {pos:Pos}
def Jcz(i:Nat):TG:=fun v σ H Q=>Q (σ.set i (some v)) H
theorem Jom{i:Nat}{x:Str}(hN:X.N.Nodup)(hi:X.N[i]?=some x)(hx:Loc X.env.scope x)(hf:X.fn x=true\/X.env.scope.names.lookup x=some .local:=by first|exact .inl rfl|exact .inr rfl|assumption):PG X (.Name x pos) (Jcz i):=by
 intro pins s σ H v u Q I r h;exact wpAny_assign_Name (Jkt I hN hi hx r (fun s' I'=>⟨_,H,I',h⟩) hf)
def Jt9:TGs:=fun vs σ H Q=>vs=[]/\Q σ H
inductive GCI(t:TG)(u:TGs)(vs:List V)(σ:St)(H:Hp)(Q:St->Hp->Prop):Prop
 | mk (v:V) (r:List V) (e:vs=v::r) (q:t v σ H fun σ' H'=>u r σ' H' Q):GCI t u vs σ H Q
def Jqu(t:TG)(u:TGs):TGs:=fun vs σ H Q=>GCI t u vs σ H Q
theorem JcW:PGs X [] Jt9:=by
 intro pins s σ H vs us Q I r h;obtain⟨e,h⟩:=h;subst e;cases r;exact assignInOrder_nil ⟨σ,H,I,h⟩
theorem Yx{e:Expr}{es:List Expr}{t:TG}{u:TGs}(h1:PG X e t)(h2:PGs X es u)
  (hs:(EB (e::es) X.env).map (·.2)=assign e X.env::(EB es X.env).map (·.2):=by rfl):PGs X (e::es) (Jqu t u):=by
 intro pins s σ H vs us Q I r h;obtain⟨v,vr,e1,h⟩:=h;subst e1
 cases r with
 | cons r rr=>
  rw[hs];refine assignInOrder_cons (thn (h1 pins s σ H _ _ _ I r h) fun _ s1 hzz=>?_);obtain⟨σ1,H1,I1,q1⟩:=hzz;exact h2 pins s1 σ1 H1 _ _ Q I1 rr q1
inductive GTI(K:WF)(n:Nat)(t:TGs)(v:V)(σ:St)(H:Hp)(Q:St->Hp->Prop):Prop
 | mk (a:Addr) (xs:List V) (e:v=.ref a) (h:SqT K H a xs) (l:xs.length=n) (q:t xs σ H Q):GTI K n t v σ H Q
def Jt3(K:WF)(n:Nat)(t:TGs):TG:=fun v σ H Q=>GTI K n t v σ H Q
theorem Je1{es:List Expr}{k:Nat}{t:TGs}{n:Nat}(hc:X.calm=true)(h:PGs X es t)
  (hn:(EB es X.env).length=n:=by rfl) (hst:(EB es X.env).findIdx? (·.1)=none:=by rfl):PG X (.Tuple es k pos) (Jt3 X.K n t):=by
 intro pins s σ H v u Q I r hw;obtain⟨a,xs,e1,hq,hl,hw⟩:=hw;subst e1;cases r;obtain⟨its,rv,ht,hz⟩:=I.tuple hq;refine assign_Tuple_tuple (I.ok.hd hc) ht (by simp[hn,<- hl,rv.length]) hst fun h' hx=>?_;have I1:Inv X pins σ H { s with heap:=h' }:=I.kept (t':=s.toks) fun b o e=>hx b o (Ar (AZ e)) e;exact h pins _ σ H xs _ Q I1 (by simpa using rv) hw
def JtP(te:TE)(g:TG):TS:=fun D σ H=>te σ H fun x H1=>g x σ H1 D.nx
theorem JnZ{tg e:Expr}{te:TE}{g:TG}(he:PE X e te)(hg:PG X tg g)(hs:swapsWithSole [tg] e pos.line X.env=pure false:=by rfl)(hw:swappedStores [tg] e X.env=pure none:=by rfl)
  (h1:(EB [tg] X.env).map (·.2)=[assign tg X.env]:=by rfl):PS X (.Assign [tg] e pos) (JtP te g):=by
 intro pins s σ H D I h;refine wpAny_Assign_stores (thn (he pins s σ H _ I h) fun v s1 hzz=>?_) hs hw;obtain⟨x,H1,I1,r1,q1⟩:=hzz;rw[h1];exact thn (hg pins s1 σ H1 x v _ I1 r1 q1) fun _ s2 q=>q
theorem JfJ{i:Nat}{x:Str}{e:Expr}{te:TE}{pos':Pos}(hN:X.N.Nodup)(hi:X.N[i]?=some x)(hx:Loc X.env.scope x)(he:PE X e te)(hs:Fb e (some (.Name x pos')) pos.line X.env=pure false:=by rfl)(hf:X.fn x=true\/X.env.scope.names.lookup x=some .local:=by first|exact .inl rfl|exact .inr rfl|assumption) :
  PS X (.Assign [.Name x pos'] e pos) (JtP te (Jcz i)):=by
 intro pins s σ H D I h;refine wpAny_Assign_Name (thn (he pins s σ H _ I h) fun v s1 hzz=>?_) hs;obtain⟨y,H1,I1,r1,q1⟩:=hzz;exact Jkt I1 hN hi hx r1 (fun s2 I2=>⟨_,H1,I2,q1⟩) hf
end
section
variable {X:Cx} {pos:Pos}
def Jr6(c:TT)(tb:TS):TS:=fun D σ H=>∃W:Nat->St->Hp->Prop,(∃m,W m σ H)/\∀m σ H,W m σ H->
 c σ H fun b H1=>if b=true then∃N:St->Hp->Prop,(∀σ' H',N σ' H'->∃m',m'<m/\W m' σ' H')/\tb { D with nx:=N,ct:=N,bk:=D.nx } σ H1 else D.nx σ H1
theorem JkM{c:Expr}{body:List Stmt}{tc:TT}{tb:TS}(hp:Bc (Af X.prog X.w) X.A X.env X.xe)(hc:PT X c tc)(hb:PSs X body tb):PS X (.While c body [] pos) (Jr6 tc tb):=by
 intro pins s σ H D I h;obtain⟨W,⟨m0,w0⟩,turn⟩:=h;refine wpAny_While (codeAny_whileLoop (fun n s'=>∃σ' H',Inv X pins σ' H' s'/\W n σ' H') ?_ m0 ⟨σ,H,I,w0⟩);rintro n s1 ⟨σ1,H1,I1,w1⟩;refine Cs hp (thn (hc pins s1 σ1 H1 _ I1 (turn n σ1 H1 w1)) fun b s2 hzz=>?_);obtain⟨H2,I2,q2⟩:=hzz
 cases b with
 | true=>
  obtain⟨N,hN,q2⟩:=q2;rw[if_pos rfl];refine Cs hp (thn (hb pins s2 σ1 H2 _ I2 q2) fun f s3 q3=>?_)
  cases f with
  | next=>
   obtain⟨σ3,H3,I3,n3⟩:=q3;obtain⟨m',hm,w3⟩:=hN σ3 H3 n3;exact⟨m',hm,σ3,H3,I3,w3⟩
  | cont=>
   obtain⟨σ3,H3,I3,n3⟩:=q3;obtain⟨m',hm,w3⟩:=hN σ3 H3 n3;exact⟨m',hm,σ3,H3,I3,w3⟩
  | brk=>exact q3
  | ret v=>exact q3
 | false=>
  rw[if_neg AW];exact Eb ⟨σ1,H2,I2,q2⟩
end
structure It where
 go:Nat->Hp->Prop
 yld:Nat->Hp->V->Hp->Prop
 stop:Nat->Hp->Prop
def Jl3(X:Cx)(pins:PL)(H:Hp)(b:Addr):Prop:=
 H b=none/\b≠X.env.locals/\b∉X.fs/\(b∈X.ex\/X.s₀.heap.objs.size<=b)/\(∀x c,X.env.cells.lookup x=some c->c≠b)/\∀p∈X.pn++pins,p.1≠b
theorem Inv.fpOk{X:Cx}{pins:PL}{σ:St}{H H':Hp}{s:A9}{b:Addr}(I:Inv X pins σ H s)(hb:s.heap.objs.size<=b)(hn:H' b=none):Jl3 X pins H' b:=by
 refine⟨hn,Ce (AF I.lt hb),I.nofs hb,.inr (B0 I.sz hb),fun x c e z=>?_,fun p hp z=>?_⟩
 .obtain⟨v,q⟩:=I.cell x c e;exact absurd (AF q.lt (by rw[z];exact hb)) (CL _)
 .exact absurd (AF (AZ (I.pin p hp).1) (by rw[z];exact hb)) (CL _)
structure Jor(P:Ab)(w:At)(K:WF)(tg:Expr)(J:It)(fp:List Addr)(it:Addr)(tn:Nat->Heap->Prop):Prop where
 mem:it∈fp
 obj:∀i h,tn i h->∀b∈fp,∃o,h.get? b=some o/\∀v,o.data≠.cell v
 keep:∀i h h',tn i h->(∀b∈fp,∀o,h.get? b=some o->h'.get? b=some o)->tn i h'
 item:∀(X:Cx),X.prog=P->X.w=w->X.K=K->X.calm=true->∀(i:Nat) (pins:PL) (s:A9) (σ:St) (H:Hp) (E:VS),Inv X pins σ H s->(∀b∈fp,Jl3 X pins H b)->tn i s.heap->J.go i H->
  AV (Af P w) X.A (Dy (.ref it)) (fun r s1=>∃u,r=some u/\
   AV (Af P w) X.A (Ec tg (.ref it) u) (fun _ s2=>∃x H',Inv X pins σ H' s2/\Jaa x u/\J.yld i H x H'/\tn (i+1) s2.heap/\∀b∈fp,H' b=none) E s1) E s
 done:∀(X:Cx),X.prog=P->X.w=w->X.K=K->X.calm=true->∀(i:Nat) (pins:PL) (s:A9) (σ:St) (H:Hp) (E:VS),Inv X pins σ H s->(∀b∈fp,Jl3 X pins H b)->tn i s.heap->J.stop i H->
  AV (Af P w) X.A (Dy (.ref it)) (fun r s1=>r=none/\Inv X pins σ H s1) E s
 self:∀(A:AH)(i:Nat)(s:A9)(Q:VS)(E:VS),tn i s.heap->Q (.ref it) s->AV (Af P w) A (Gp (.ref it)) Q E s
abbrev TI:=St->Hp->(It->Hp->Prop)->Prop
def PIE(X:Cx)(pins:PL)(σ:St)(tg:Expr)(R:It->Hp->Prop)(itv:A3)(s2:A9):Prop:=
 ∃(it:Addr)(fp:List Addr)(tn:Nat->Heap->Prop)(J:It)(H':Hp),itv=.ref it/\Inv X pins σ H' s2/\Jor X.prog X.w X.K tg J fp it tn/\tn 0 s2.heap/\(∀b∈fp,Jl3 X pins H' b)/\R J H'
def PI(X:Cx)(tg iter:Expr)(wi:TI):Prop:=
 ∀(pins:PL) (s:A9) (σ:St) (H:Hp) (R:It->Hp->Prop),Inv X pins σ H s->wi σ H R->
  AV (Af X.prog X.w) X.A (eval iter X.env) (fun v s1=>AV (Af X.prog X.w) X.A (Gp v) (PIE X pins σ tg R) X.xe s1) X.xe s
theorem Jlr{M:Ma}{A:AH}{E:VS}{s:A9}{tg:Expr}{it:Addr}{u:A3}{o:Obj}{n:String}{vs:Array A3}{Q:Unit->A9->Prop}(ho:s.heap.get? it=some o)(hc:o.cls=.type n)(hd:o.data=.fields vs)
  (hn:["enumerate", "zip", "dict_itemiterator", "dict_reverseitemiterator", "odict_iterator", "itertools.zip_longest", "itertools.pairwise"].contains n=false) (hQ:Q () s):AV M A (Ec tg (.ref it) u) Q E s:=by
 unfold Ec
 cases tg<;>first
  | exact A8 hQ
  | (cases u<;>first
    | exact A8 hQ
    | (refine A0 (HY ho ?_);rw[hc,hd];show AV M A (if(["enumerate", "zip", "dict_itemiterator", "dict_reverseitemiterator", "odict_iterator", "itertools.zip_longest", "itertools.pairwise"].contains n&&vs[0]?==some (Cb _))=true then _ else _) Q E s;rw[if_neg (by intro h;rw[hn,CJ]at h;cases h)];exact A8 hQ))
noncomputable def Itl(K:WF)(a:Addr):It:=
 ⟨fun i H=>∃xs x,SqL K H a xs/\xs[i]?=some x,fun i H x H'=>H'=H/\∀xs,SqL K H a xs->xs[i]?=some x,fun i H=>∃xs,SqL K H a xs/\xs.length<=i⟩
noncomputable def Itt(K:WF)(a:Addr):It:=
 ⟨fun i H=>∃xs x,SqT K H a xs/\xs[i]?=some x,fun i H x H'=>H'=H/\∀xs,SqT K H a xs->xs[i]?=some x,fun i H=>∃xs,SqT K H a xs/\xs.length<=i⟩
def Itr(lo:Int)(n:Nat):It:=⟨fun i _=>i<n,fun i H x H'=>H'=H/\x=.int (lo+i),fun i _=>n<=i⟩
theorem Jm1{P:Ab}{w:At}{K:WF}{tg:Expr}(a it:Addr):Jor P w K tg (Itl K a) [it] it (fun i h=>h.IsListIter it a i) where
 mem:=by simp
 obj:=fun i h st b hb=>by
  have e:b=it:=by simpa using hb
  subst e;obtain⟨o,e,c,d⟩:=st;exact⟨o,e,fun v z=>by rw[d]at z;cases z⟩
 keep:=fun i h h' st k=>st.at fun o e=>k it (by simp) o e
 item:=by
  intro X hP hw hK hc i pins s σ H E I hf st hg;subst hP hw hK;obtain⟨xs,x,hq,hx⟩:=hg;obtain⟨its,rv,p,hz⟩:=I.list hq;obtain⟨u,hu,ru⟩:=rv.get hx;obtain⟨f0,f1,f2,f3,f4,f5⟩:=hf it (by simp);refine wpAny_pyNext_list_item st p.isList (x:=u) (by simpa using hu) fun h' st' sb=>?_;have I1:Inv X pins σ H { s with heap:=h' }:=I.turned (t':=s.toks) (fun b o hb e=>(sb.2 b hb).trans e) f0 f1 f3 f4 f5;obtain⟨o,e,c,d⟩:=id st';exact⟨u,rfl,Jlr (s:={ s with heap:=h' }) e c d (by decide) ⟨x,H,I1,ru,⟨rfl,fun ys hy=>by rw[I.list_inj hy hq];exact hx⟩,st',fun b hb=>(hf b hb).1⟩⟩
 done:=by
  intro X hP hw hK hc i pins s σ H E I hf st hg;subst hP hw hK;obtain⟨xs,hq,hx⟩:=hg;obtain⟨its,rv,p,hz⟩:=I.list hq;obtain⟨f0,f1,f2,f3,f4,f5⟩:=hf it (by simp);have hl:=rv.length;exact wpAny_pyNext_list_end (I.ok.hd hc) st p.isList (by simp;omega) fun h' eb=>⟨rfl,I.turned (t':=s.toks) (fun b o hb e=>eb b o hb e) f0 f1 f3 f4 f5⟩
 self:=fun _ _ _ _ _ st h=>wpAny_pyIter_listiter st h
theorem JlI{P:Ab}{w:At}{K:WF}{tg:Expr}(a it:Addr):Jor P w K tg (Itt K a) [it] it (fun i h=>h.IsTupleIter it a i) where
 mem:=by simp
 obj:=fun i h st b hb=>by
  have e:b=it:=by simpa using hb
  subst e;obtain⟨o,e,c,d⟩:=st;exact⟨o,e,fun v z=>by rw[d]at z;cases z⟩
 keep:=fun i h h' st k=>st.at fun o e=>k it (by simp) o e
 item:=by
  intro X hP hw hK hc i pins s σ H E I hf st hg;subst hP hw hK;obtain⟨xs,x,hq,hx⟩:=hg;obtain⟨its,rv,p,hz⟩:=I.tuple hq;obtain⟨u,hu,ru⟩:=rv.get hx;obtain⟨f0,f1,f2,f3,f4,f5⟩:=hf it (by simp);refine wpAny_pyNext_tuple_item st (show s.heap.IsTuple a its.toArray from p) (x:=u) (by simpa using hu) fun h' st' sb=>?_;have I1:Inv X pins σ H { s with heap:=h' }:=I.turned (t':=s.toks) (fun b o hb e=>(sb.2 b hb).trans e) f0 f1 f3 f4 f5;obtain⟨o,e,c,d⟩:=id st';exact⟨u,rfl,Jlr (s:={ s with heap:=h' }) e c d (by decide) ⟨x,H,I1,ru,⟨rfl,fun ys hy=>by rw[I.tuple_inj hy hq];exact hx⟩,st',fun b hb=>(hf b hb).1⟩⟩
 done:=by
  intro X hP hw hK hc i pins s σ H E I hf st hg;subst hP hw hK;obtain⟨xs,hq,hx⟩:=hg;obtain⟨its,rv,p,hz⟩:=I.tuple hq;obtain⟨f0,f1,f2,f3,f4,f5⟩:=hf it (by simp);have hl:=rv.length;exact wpAny_pyNext_tuple_end (I.ok.hd hc) st (show s.heap.IsTuple a its.toArray from p) (by simp;omega) fun h' eb=>⟨rfl,I.turned (t':=s.toks) (fun b o hb e=>eb b o hb e) f0 f1 f3 f4 f5⟩
 self:=fun _ _ _ _ _ st h=>wpAny_pyIter_tupleiter st h
theorem JgV{P:Ab}{w:At}{K:WF}{tg:Expr}(it:Addr)(lo:Int)(n:Nat):Jor P w K tg (Itr lo n) [it] it (fun i h=>GF h it (lo+(i:Nat)*1) ((n:Int)-(i:Nat)) 1) where
 mem:=by simp
 obj:=fun i h st b hb=>by
  have e:b=it:=by simpa using hb
  subst e
  exact⟨_,st,fun v z=>by
   have z':Data.fields _=Data.cell v:=z
   cases z'⟩
 keep:=fun i h h' st k=>k it (by simp) _ st
 item:=by
  intro X hP hw hK hc i pins s σ H E I hf st hg;subst hP hw hK;obtain⟨f0,f1,f2,f3,f4,f5⟩:=hf it (by simp);have W:=G8.range (prog:=X.prog) (w:=X.w) (I.ok.hd hc) it lo 1 n;refine W.item i s _ _ hg st fun v h' tk hv st' kk=>?_;obtain⟨t,rfl⟩:=hv;have I1:Inv X pins σ H { s with heap:=h',toks:=tk }:=I.turned (fun b o hb e=>kk b o (by simpa using hb) e) f0 f1 f3 f4 f5;refine⟨_,rfl,Jlr (s:={ s with heap:=h',toks:=tk }) (n:="range_iterator") st' rfl rfl (by decide) ⟨.int (lo+i),H,I1,⟨t,?_⟩,⟨rfl,rfl⟩,st',fun b hb=>(hf b hb).1⟩⟩;rw[Kl]
 done:=by
  intro X hP hw hK hc i pins s σ H E I hf st hg;subst hP hw hK;obtain⟨f0,f1,f2,f3,f4,f5⟩:=hf it (by simp);exact wpAny_pyNext_range_end (I.ok.hd hc) st (by have:n<=i:=hg;omega) fun h' eb=>⟨rfl,I.turned (t':=s.toks) (fun b o hb e=>eb b o hb e) f0 f1 f3 f4 f5⟩
 self:=fun _ _ _ _ _ st h=>wpAny_pyIter_rangeiter st h
section
variable {X:Cx} {tg:Expr}
inductive JpS(K:WF)(x:V)(H:Hp)(R:It->Hp->Prop):Prop
 | mk (a:Addr) (e:x=.ref a) (h:∃xs,SqL K H a xs) (q:R (Itl K a) H):JpS K x H R
def Jtl(K:WF)(tl:TE):TI:=fun σ H R=>tl σ H fun x H1=>JpS K x H1 R
inductive Jsj(K:WF)(x:V)(H:Hp)(R:It->Hp->Prop):Prop
 | mk (a:Addr) (e:x=.ref a) (h:∃xs,SqT K H a xs) (q:R (Itt K a) H):Jsj K x H R
def Jud(K:WF)(tl:TE):TI:=fun σ H R=>tl σ H fun x H1=>Jsj K x H1 R
theorem Ja0{l:Expr}{tl:TE}(hl:PE X l tl):PI X tg l (Jtl X.K tl):=by
 intro pins s σ H R I h;refine thn (hl pins s σ H _ I h) fun v s1 hzz=>?_;obtain⟨x,H1,I1,r1,q1⟩:=hzz;obtain⟨a,e,⟨xs,hq⟩,q⟩:=q1;subst e;cases r1;obtain⟨its,rv,p,hz⟩:=I1.list hq;refine DZ p.isList ?_;refine⟨s1.heap.objs.size,[s1.heap.objs.size],_,_,H1,rfl,I1.kept (t':=s1.toks) fun b o e=>A4 _ e,Jm1 a _,⟨_,Aw _ rfl,rfl,rfl⟩,fun b hb=>?_,q⟩
 have e:b=s1.heap.objs.size:=by simpa using hb
 subst e;exact I1.fpOk (A6 _) (I1.hok.fresh (A6 _))
theorem JfS{l:Expr}{tl:TE}(hl:PE X l tl):PI X tg l (Jud X.K tl):=by
 intro pins s σ H R I h;refine thn (hl pins s σ H _ I h) fun v s1 hzz=>?_;obtain⟨x,H1,I1,r1,q1⟩:=hzz;obtain⟨a,e,⟨xs,hq⟩,q⟩:=q1;subst e;cases r1;obtain⟨its,rv,p,hz⟩:=I1.tuple hq;refine HV (show s1.heap.IsTuple a its.toArray from p) ?_;refine⟨s1.heap.objs.size,[s1.heap.objs.size],_,_,H1,rfl,I1.kept (t':=s1.toks) fun b o e=>A4 _ e,JlI a _,⟨_,Aw _ rfl,rfl,rfl⟩,fun b hb=>?_,q⟩
 have e:b=s1.heap.objs.size:=by simpa using hb
 subst e;exact I1.fpOk (A6 _) (I1.hok.fresh (A6 _))
theorem Jpq{pins:PL}{σ:St}{H:Hp}{s:A9}{R:It->Hp->Prop}{E:VS}{lo hi:Int}{t u v:Tok}{tk:Nat}(I:Inv X pins σ H s)(h1 : -(2^62)<=lo)(h2:lo<2^62)(h3 : -(2^62)<=hi)(h4:hi<2^62)
  (q:R (Itr lo (hi-lo).toNat) H):AV (Af X.prog X.w) X.A (Gp (.ref s.heap.objs.size)) (PIE X pins σ tg R) E { s with heap:=s.heap.push { cls:=.type "range",data:=.fields #[.int lo t,.int hi u,.int 1 v] },toks:=tk }:=by
 refine Et (Ki ..) (small_one h1 h2 h3 h4) ?_;have I1:Inv X pins σ H { s with heap:=s.heap.push { cls:=.type "range",data:=.fields #[.int lo t,.int hi u,.int 1 v] },toks:=tk }:=I.kept fun b o e=>A4 _ e
 refine⟨(s.heap.push { cls:=.type "range",data:=.fields #[.int lo t,.int hi u,.int 1 v] }).objs.size,[(s.heap.push { cls:=.type "range",data:=.fields #[.int lo t,.int hi u,.int 1 v] }).objs.size],_,_,H,rfl,
  I1.kept (t':=tk) fun b o e=>A4 _ e,JgV _ lo (hi-lo).toNat,?_,fun b hb=>?_,q⟩
 .have e1:lo+((0:Nat):Int)*1=lo:=by simp
  have e2:(((hi-lo).toNat:Nat):Int)-((0:Nat):Int)=Am.Range.rangeSize lo hi 1:=by rw[FW];split<;>omega
  show GF _ _ (lo+((0:Nat):Int)*1) ((((hi-lo).toNat:Nat):Int)-((0:Nat):Int)) 1;rw[e1,e2];exact Aw _ rfl
 .have e:b=(s.heap.push { cls:=.type "range",data:=.fields #[.int lo t,.int hi u,.int 1 v] }).objs.size:=by simpa using hb
  subst e;exact I1.fpOk (A6 _) (I1.hok.fresh (A6 _))
def JtS(ta:TA):TI:=fun σ H R=>ta σ H fun vs H1=>∃j:Int,vs=[.int j]/\-(2^62)<=j/\j<2^62/\R (Itr 0 j.toNat) H1
theorem JbU{a:Expr}{ta:TA}{p pos:Pos}(hg:Gl X "range")(hm:X.mg "range" = none)(ha:PA X [a] ta)(hs:AR [a] X.env=[(false,eval a X.env)]:=by rfl):PI X tg (.Call (.Name "range" p) [a] [] pos) (JtS ta):=by
 intro pins s σ H R I h;refine Call_ (JgL I hg hm boot_range (Cd (thn (ha pos pins s σ H _ I h) fun us s1 hzz=>?_) hs rfl));obtain⟨vs,H1,I1,r1,q1⟩:=hzz;obtain⟨j,e,q1,q2,q⟩:=q1;subst e
 cases r1 with
 | cons r rr=>
  cases rr;obtain⟨t,rfl⟩:=r;exact call_range_1 (Jpq I1 (by omega) (by omega) q1 q2 (by simpa using q))
def Jua(wi:TI)(g:TG)(tb:TS):TS:=fun D σ H=>wi σ H fun J H1=>∃W:Nat->Nat->St->Hp->Prop,(∃m,W 0 m σ H1)/\∀i m σ H,W i m σ H->
 (J.stop i H/\D.nx σ H)\/(J.go i H/\∃N:St->Hp->Prop,(∀σ' H',N σ' H'->∃m',m'<m/\W (i+1) m' σ' H')/\∀x H',J.yld i H x H'->g x σ H' fun σ2 H2=>tb { D with nx:=N,ct:=N,bk:=D.nx } σ2 H2)
noncomputable def Ji1(fp:List Addr)(h:Heap):PL:=fp.filterMap fun b=>(h.get? b).map fun o=>(b,o)
theorem Jde{fp:List Addr}{h:Heap}{b:Addr}{o:Obj}(hb:b∈fp)(e:h.get? b=some o):(b,o)∈Ji1 fp h:=EF.mpr ⟨b,hb,by rw[e];rfl⟩
theorem Jnt{fp:List Addr}{h:Heap}{p:Addr×Obj}(hp:p∈Ji1 fp h):p.1∈fp/\h.get? p.1=some p.2:=by
 obtain⟨b,hb,e⟩:=EF.mp hp
 cases q:h.get? b with
 | none=>rw[q]at e;cases e
 | some o=>
  rw[q]at e;have e':(b,o)=p:=Ai e;subst e';exact⟨hb,q⟩
theorem Inv.pinned{pins:PL}{σ:St}{H:Hp}{s:A9}{fp:List Addr}(I:Inv X pins σ H s)(hf:∀b∈fp,Jl3 X pins H b)(ho:∀b∈fp,∃o,s.heap.get? b=some o/\∀v,o.data≠.cell v):Inv X (pins++Ji1 fp s.heap) σ H s:=
 I.pins_of fun p hp=>(Ae.mp hp).elim (fun z=>I.pin p (Ah _ z)) fun z=>by
  obtain⟨hb,e⟩:=Jnt z;obtain⟨f0,f1,f2,_⟩:=hf p.1 hb;obtain⟨o,e',d⟩:=ho p.1 hb;rw[e]at e';cases e';exact⟨e,f0,f1,f2,d⟩
theorem Inv.unpinned{pins pl:PL}{σ:St}{H:Hp}{s:A9}(I:Inv X (pins++pl) σ H s):Inv X pins σ H s:=I.pins_of fun p hp=>I.pin p (Ah _ (Ba _ hp))
theorem Jan{iter:Expr}{body:List Stmt}{wi:TI}{g:TG}{tb:TS}{pos:Pos}(hp:Bc (Af X.prog X.w) X.A X.env X.xe)(hc:X.calm=true)(hi:PI X tg iter wi)(hg:PG X tg g)(hb:PSs X body tb)
  (hs:∀x,E5 iter X.env x=pure x:=by intro _;rfl):PS X (.For tg iter body [] pos) (Jua wi g tb):=by
 intro pins s σ H D I h;refine wpAny_For (thn (hi pins s σ H _ I h) fun v s1 h1=>thn h1 fun itv s2 h2=>?_) hs;obtain⟨it,fp,tn,J,H2,e,I2,T,st2,f2,W,⟨m0,w0⟩,turn⟩:=h2;subst e;have stat:∀{H':Hp},(∀b∈fp,H' b=none)->∀b∈fp,Jl3 X pins H' b:=fun hn b hb=>⟨hn b hb,(f2 b hb).2⟩;refine codeAny_forLoop_any (fun n s'=>∃i σ' H',Inv X pins σ' H' s'/\tn i s'.heap/\(∀b∈fp,H' b=none)/\W i n σ' H') ?_ m0 ⟨0,σ,H2,I2,st2,fun b hb=>(f2 b hb).1,w0⟩;rintro n s3 ⟨i,σ3,H3,I3,st3,fr3,w3⟩
 rcases turn i n σ3 H3 w3 with⟨stop,qn⟩|⟨go,N,hN,step⟩
 .refine Cs hp (thn (T.done X rfl rfl rfl hc i pins s3 σ3 H3 X.xe I3 (stat fr3) st3 stop) fun r s4 hzz=>?_);obtain⟨hr,I4⟩:=hzz;subst hr;exact Eb ⟨σ3,H3,I4,qn⟩
 .refine Cs hp (thn (T.item X rfl rfl rfl hc i pins s3 σ3 H3 X.xe I3 (stat fr3) st3 go) fun r s4 hzz=>?_);obtain⟨u,hr,h4⟩:=hzz;subst hr;refine Cs hp (thn h4 fun _ s5 hzz=>?_);obtain⟨x,H5,I5,r5,y5,st5,fr5⟩:=hzz;have I5':=I5.pinned (stat fr5) (T.obj _ _ st5);refine Cs hp (thn (hg _ s5 σ3 H5 x u _ I5' r5 (step x H5 y5)) fun _ s6 hzz=>?_);obtain⟨σ6,H6,I6,q6⟩:=hzz;refine Cs hp (thn (hb _ s6 σ6 H6 _ I6 q6) fun f s7 q7=>?_)
  have again:∀{σ7:St}{H7:Hp},Inv X (pins++Ji1 fp s5.heap) σ7 H7 s7->N σ7 H7->∃m,m<n/\∃i σ' H',Inv X pins σ' H' s7/\tn i s7.heap/\(∀b∈fp,H' b=none)/\W i m σ' H':=fun{σ7 H7} I7 n7=>by
   obtain⟨m',hm,w7⟩:=hN σ7 H7 n7;refine⟨m',hm,i+1,σ7,H7,I7.unpinned,T.keep _ _ _ st5 fun b hb o e=>(I7.pin (b,o) (Ah _ (Ah _ (Jde hb e)))).1,fun b hb=>?_,w7⟩;obtain⟨o,e,d⟩:=T.obj _ _ st5 b hb;exact(I7.pin (b,o) (Ah _ (Ah _ (Jde hb e)))).2.1
  cases f with
  | next=>obtain⟨σ7,H7,I7,n7⟩:=q7;exact again I7 n7
  | cont=>obtain⟨σ7,H7,I7,n7⟩:=q7;exact again I7 n7
  | brk=>obtain⟨σ7,H7,I7,q7⟩:=q7;exact⟨σ7,H7,I7.unpinned,q7⟩
  | ret v=>obtain⟨x7,σ7,H7,I7,r7,q7⟩:=q7;exact⟨x7,σ7,H7,I7.unpinned,r7,q7⟩
end
theorem JbM{K:WF}{a:Addr}{xs:List V}{g:TG}{tb:TS}{D:Jos}{σ:St}{H:Hp}(Pv:Nat->St->Hp->Prop)(h0:Pv 0 σ H)(hl:∀i σ H,i<=xs.length->Pv i σ H->SqL K H a xs)
  (hs:∀i x σ H,xs[i]?=some x->Pv i σ H->g x σ H fun σ2 H2=>tb { D with nx:=Pv (i+1),ct:=Pv (i+1),bk:=D.nx } σ2 H2) (hd:∀σ H,Pv xs.length σ H->D.nx σ H) :
  ∃W:Nat->Nat->St->Hp->Prop,(∃m,W 0 m σ H)/\∀i m σ H,W i m σ H->
   ((Itl K a).stop i H/\D.nx σ H)\/((Itl K a).go i H/\∃N:St->Hp->Prop,(∀σ' H',N σ' H'->∃m',m'<m/\W (i+1) m' σ' H')/\∀x H',(Itl K a).yld i H x H'->g x σ H' fun σ2 H2=>tb { D with nx:=N,ct:=N,bk:=D.nx } σ2 H2):=by
 refine⟨fun i m σ H=>m=xs.length-i/\i<=xs.length/\Pv i σ H,⟨xs.length,by simp,AA _,h0⟩,?_⟩;rintro i m σ H ⟨rfl,hi,p⟩;have q:=hl i σ H hi p
 by_cases hlt:i<xs.length
 .refine .inr ⟨⟨xs,xs[i],q,by simp[hlt]⟩,Pv (i+1),fun σ' H' p'=>⟨xs.length-(i+1),by omega,rfl,hlt,p'⟩,fun x H' y=>?_⟩;obtain⟨e,y⟩:=y;subst e;exact hs i x σ _ (y xs q) p
 .have e:i=xs.length:=by omega
  subst e;exact .inl ⟨⟨xs,q,A6 _⟩,hd σ H p⟩
theorem JfI{K:WF}{a:Addr}{xs:List V}{g:TG}{tb:TS}{D:Jos}{σ:St}{H:Hp}(Pv:Nat->St->Hp->Prop)(h0:Pv 0 σ H)(hl:∀i σ H,i<=xs.length->Pv i σ H->SqT K H a xs)
  (hs:∀i x σ H,xs[i]?=some x->Pv i σ H->g x σ H fun σ2 H2=>tb { D with nx:=Pv (i+1),ct:=Pv (i+1),bk:=D.nx } σ2 H2) (hd:∀σ H,Pv xs.length σ H->D.nx σ H) :
  ∃W:Nat->Nat->St->Hp->Prop,(∃m,W 0 m σ H)/\∀i m σ H,W i m σ H->
   ((Itt K a).stop i H/\D.nx σ H)\/((Itt K a).go i H/\∃N:St->Hp->Prop,(∀σ' H',N σ' H'->∃m',m'<m/\W (i+1) m' σ' H')/\∀x H',(Itt K a).yld i H x H'->g x σ H' fun σ2 H2=>tb { D with nx:=N,ct:=N,bk:=D.nx } σ2 H2):=by
 refine⟨fun i m σ H=>m=xs.length-i/\i<=xs.length/\Pv i σ H,⟨xs.length,by simp,AA _,h0⟩,?_⟩;rintro i m σ H ⟨rfl,hi,p⟩;have q:=hl i σ H hi p
 by_cases hlt:i<xs.length
 .refine .inr ⟨⟨xs,xs[i],q,by simp[hlt]⟩,Pv (i+1),fun σ' H' p'=>⟨xs.length-(i+1),by omega,rfl,hlt,p'⟩,fun x H' y=>?_⟩;obtain⟨e,y⟩:=y;subst e;exact hs i x σ _ (y xs q) p
 .have e:i=xs.length:=by omega
  subst e;exact .inl ⟨⟨xs,q,A6 _⟩,hd σ H p⟩
theorem JbV{lo:Int}{n:Nat}{g:TG}{tb:TS}{D:Jos}{σ:St}{H:Hp}(Pv:Nat->St->Hp->Prop)(h0:Pv 0 σ H)
  (hs:∀i σ H,i<n->Pv i σ H->g (.int (lo+i)) σ H fun σ2 H2=>tb { D with nx:=Pv (i+1),ct:=Pv (i+1),bk:=D.nx } σ2 H2) (hd:∀σ H,Pv n σ H->D.nx σ H) :
  ∃W:Nat->Nat->St->Hp->Prop,(∃m,W 0 m σ H)/\∀i m σ H,W i m σ H->
   ((Itr lo n).stop i H/\D.nx σ H)\/((Itr lo n).go i H/\∃N:St->Hp->Prop,(∀σ' H',N σ' H'->∃m',m'<m/\W (i+1) m' σ' H')/\∀x H',(Itr lo n).yld i H x H'->g x σ H' fun σ2 H2=>tb { D with nx:=N,ct:=N,bk:=D.nx } σ2 H2):=by
 refine⟨fun i m σ H=>m=n-i/\i<=n/\Pv i σ H,⟨n,by simp,AA _,h0⟩,?_⟩;rintro i m σ H ⟨rfl,hi,p⟩
 by_cases hlt:i<n
 .refine .inr ⟨hlt,Pv (i+1),fun σ' H' p'=>⟨n-(i+1),by omega,rfl,hlt,p'⟩,fun x H' y=>?_⟩;obtain⟨e,y⟩:=y;subst e y;exact hs i σ _ hlt p
 .have e:i=n:=by omega
  subst e;exact .inl ⟨A6 _,hd σ H p⟩
abbrev R2:=V->V->Hp->VK->Prop
def OpR(X:Cx)(f:A3->A3->Sem A3)(r:R2):Prop:=
 ∀(pins:PL) (s:A9) (σ:St) (H:Hp) (x y:V) (v u:A3) (Q:VK),Inv X pins σ H s->Jaa x v->Jaa y u->r x y H Q->
  AV (Af X.prog X.w) X.A (f v u) (EP X pins σ Q) X.xe s
def UnR(X:Cx)(f:A3->Sem A3)(r:V->Hp->VK->Prop):Prop:=
 ∀(pins:PL) (s:A9) (σ:St) (H:Hp) (x:V) (v:A3) (Q:VK),Inv X pins σ H s->Jaa x v->r x H Q->
  AV (Af X.prog X.w) X.A (f v) (EP X pins σ Q) X.xe s
def Jbg(X:Cx)(f:A3)(r:List V->Hp->VK->Prop):Prop:=
 ∀(pins:PL) (s:A9) (σ:St) (H:Hp) (xs:List V) (us:List A3) (Q:VK),Inv X pins σ H s->Y2 xs us->r xs H Q->
  AV (Af X.prog X.w) X.A (call f us) (EP X pins σ Q) X.xe s
def Jue(X:Cx)(r:V->Hp->(Bool->Hp->Prop)->Prop):Prop:=
 ∀(pins:PL) (s:A9) (σ:St) (H:Hp) (x:V) (v:A3) (Q:Bool->Hp->Prop),Inv X pins σ H s->Jaa x v->r x H Q->
  AV (Af X.prog X.w) X.A (truthy v) (TP X pins σ Q) X.xe s
def tOp(r:R2)(ta tb:TE):TE:=fun σ H Q=>ta σ H fun x H1=>tb σ H1 fun y H2=>r x y H2 Q
def tUn(r:V->Hp->VK->Prop)(ta:TE):TE:=fun σ H Q=>ta σ H fun x H1=>r x H1 Q
def rI(C:Int->Int->Prop)(g:Int->Int->V):R2:=fun x y H Q=>∃i j,x=.int i/\y=.int j/\C i j/\Q (g i j) H
def rI0(g:Int->Int->V):R2:=fun x y H Q=>∃i j,x=.int i/\y=.int j/\Q (g i j) H
def rU(g:Int->V):V->Hp->VK->Prop:=fun x H Q=>∃i,x=.int i/\Q (g i) H
section
variable {X:Cx} {a b c:Expr} {ta tb tc:TE} {pos:Pos}
theorem Jtq(ha:PE X a ta)(hb:PE X b tb){pins:PL}{s:A9}{σ:St}{H:Hp}{R:V->V->Hp->Prop}(I:Inv X pins σ H s)
  (h:ta σ H fun x H1=>tb σ H1 fun y H2=>R x y H2) {Q:VS} {f:A3->A3->Sem A3}
  (hf:∀v u s2 x y H2,Inv X pins σ H2 s2->Jaa x v->Jaa y u->R x y H2->AV (Af X.prog X.w) X.A (f v u) Q X.xe s2) :
  AV (Af X.prog X.w) X.A (eval a X.env) (fun v s₁=>AV (Af X.prog X.w) X.A (eval b X.env) (fun u s₂=>AV (Af X.prog X.w) X.A (f v u) Q X.xe s₂) X.xe s₁) X.xe s:=by
 refine thn (ha pins s σ H _ I h) fun v s1 hzz=>?_;obtain⟨x,H1,I1,r1,q1⟩:=hzz;refine thn (hb pins s1 σ H1 _ I1 q1) fun u s2 hzz=>?_;obtain⟨y,H2,I2,r2,q2⟩:=hzz;exact hf v u s2 x y H2 I2 r1 r2 q2
theorem Jj{op:Operator}{r:R2}(ho:OpR X (C0 op) r)(ha:PE X a ta)(hb:PE X b tb):PE X (.BinOp a op b pos) (tOp r ta tb):=by
 intro pins s σ H Q I h;exact wpAny_BinOp (Jtq ha hb I h fun v u s2 x y H2 I2 rx ry q=>ho pins s2 σ H2 x y v u Q I2 rx ry q)
theorem JcU{op:UnaryOp}{r:V->Hp->VK->Prop}(ho:UnR X (unaryOp op) r)(ha:PE X a ta):PE X (.UnaryOp op a pos) (tUn r ta):=by
 intro pins s σ H Q I h;refine UnaryOp_ (thn (ha pins s σ H _ I h) fun v s1 hzz=>?_);obtain⟨x,H1,I1,r1,q1⟩:=hzz;exact ho pins s1 σ H1 x v Q I1 r1 q1
theorem opI{f:A3->A3->Sem A3}{C:Int->Int->Prop}{g:Int->Int->Int}
  (rule:∀(i j:Int)(t u:Tok)(s:A9)(Q:VS)(E:VS),C i j->Q (.int (g i j) s.toks) { s with toks:=s.toks+1 }->AV (Af X.prog X.w) X.A (f (.int i t) (.int j u)) Q E s) :
  OpR X f (rI C fun i j=>.int (g i j)):=by
 intro pins s σ H x y v u Q I rx ry h;obtain⟨i,j,rfl,rfl,hc,q⟩:=h;obtain⟨t,rfl⟩:=rx;obtain⟨t',rfl⟩:=ry;exact rule i j t t' s _ _ hc ⟨.int (g i j),H,I.tok _,⟨_,rfl⟩,q⟩
theorem JtV{f:A3->A3->Sem A3}{g:Int->Int->Int}
  (rule:∀(i j:Int)(t u:Tok)(s:A9)(Q:VS)(E:VS),Q (.int (g i j) s.toks) { s with toks:=s.toks+1 }->AV (Af X.prog X.w) X.A (f (.int i t) (.int j u)) Q E s) :
  OpR X f (rI0 fun i j=>.int (g i j)):=by
 intro pins s σ H x y v u Q I rx ry h;obtain⟨i,j,rfl,rfl,q⟩:=h;obtain⟨t,rfl⟩:=rx;obtain⟨t',rfl⟩:=ry;exact rule i j t t' s _ _ ⟨.int (g i j),H,I.tok _,⟨_,rfl⟩,q⟩
theorem Js0{f:A3->A3->Sem A3}{g:Int->Int->Bool}
  (rule:∀(i j:Int)(t u:Tok)(s:A9)(Q:VS)(E:VS),Q (.bool (g i j)) s->AV (Af X.prog X.w) X.A (f (.int i t) (.int j u)) Q E s) :
  OpR X f (rI0 fun i j=>.bl (g i j)):=by
 intro pins s σ H x y v u Q I rx ry h;obtain⟨i,j,rfl,rfl,q⟩:=h;obtain⟨t,rfl⟩:=rx;obtain⟨t',rfl⟩:=ry;exact rule i j t t' s _ _ ⟨.bl (g i j),H,I,rfl,q⟩
def Jt4(i j:Int):Prop:=0<=j/\j<=1000000/\i.natAbs<2^64
def Jta(i j:Int):Prop:=(-(2^64)<i/\i<2^64)\/(-(2^64)<j/\j<2^64)
theorem Jta.ok{i j:Int}(h:Jta i j):IntMulOk i j:=by
 rcases h with⟨h1,h2⟩|⟨h1,h2⟩
 .exact .of_left (intBits_le_64 h1 h2)
 .exact .of_right (intBits_le_64 h1 h2)
theorem JrD:OpR X (C0 .Add) (rI0 fun i j=>.int (i+j)):=JtV fun _ _ _ _ _ _ _ q=>add_int q
theorem Jsq:OpR X (C0 .Sub) (rI0 fun i j=>.int (i-j)):=JtV fun _ _ _ _ _ _ _ q=>sub_int q
theorem Jr8:OpR X (C0 .Mod) (rI (fun _ j=>0<j) fun i j=>.int (i%j)):=opI fun i j _ _ _ _ _ hc q=>by
 have h1:(0:Int)<j:=hc;exact mod_int' (by omega) (by rw[Int.fmod_eq_emod_of_nonneg i (by omega)];exact q)
theorem Jr1:OpR X (C0 .Pow) (rI Jt4 fun i j=>.int (i^j.toNat)):=opI fun _ _ _ _ _ _ _ hc q=>pow_int_small hc.1 hc.2.1 hc.2.2 q
theorem unI{f:A3->Sem A3}{g:Int->Int}
  (rule:∀(i:Int)(t:Tok)(s:A9)(Q:VS)(E:VS),Q (.int (g i) s.toks) { s with toks:=s.toks+1 }->AV (Af X.prog X.w) X.A (f (.int i t)) Q E s) :
  UnR X f (rU fun i=>.int (g i)):=by
 intro pins s σ H x v Q I rx h;obtain⟨i,rfl,q⟩:=h;obtain⟨t,rfl⟩:=rx;exact rule i t s _ _ ⟨.int (g i),H,I.tok _,⟨_,rfl⟩,q⟩
theorem JpZ:UnR X (unaryOp .USub) (rU fun i=>.int (-i)):=unI fun _ _ _ _ _ q=>neg_int q
end
noncomputable def JtC:V->V->Bool
 | .non,.non=>true | .non,.int _=>true | .int _,.non=>true | .non,.bl _=>true | .bl _,.non=>true | .non,.str _=>true | .str _,.non=>true
 | .int _,.int _=>true | .bl _,.bl _=>true | .str _,.str _=>true | .byt _,.byt _=>true
 | .int _,.str _=>true | .str _,.int _=>true | .bl _,.str _=>true | .str _,.bl _=>true
 | _,_=>false
def rEq:R2:=fun x y H Q=>JtC x y=true/\Q (.bl (decide (x=y))) H
def rNe:R2:=fun x y H Q=>JtC x y=true/\Q (.bl (!decide (x=y))) H
theorem Jnj{i j:Int}:decide (V.int i=V.int j)=(i==j):=by
 rw[Dk];simp
theorem JpM{i j:Bool}:decide (V.bl i=V.bl j)=(i==j):=by
 rw[Dk];simp
theorem Jn8{i j:Str}:decide (V.str i=V.str j)=(i==j):=by
 rw[Dk];simp
theorem Jm8{i j:Array UInt8}:decide (V.byt i=V.byt j)=(i.toList==j.toList):=by
 rw[Dk];cases i;cases j;simp
section
variable {X:Cx} {a b c:Expr} {ta tb tc:TE} {pos:Pos}
theorem Yu{pins:PL}{σ:St}{H:Hp}{s:A9}{Q:VK}{k k':Bool}(I:Inv X pins σ H s)(q:Q (.bl k) H)(e:k=k'):EP X pins σ Q (.bool k') s:=by
 subst e;exact⟨.bl k,H,I,rfl,q⟩
theorem JaQ:OpR X (Bs .Eq) rEq:=by
 intro pins s σ H x y v u Q I rx ry h;obtain⟨hs,q⟩:=h
 cases x with
 | non=>
  cases rx
  cases y with
  | non=>cases ry;exact PySem.EqNone.eq_none_none (Yu I q (by simp))
  | bl j=>cases ry;exact PySem.EqNone.eq_none_bool (Yu I q (by simp))
  | int j=>obtain⟨t',rfl⟩:=ry;exact PySem.EqNone.eq_none_int (Yu I q (by simp))
  | str j=>obtain⟨t',rfl⟩:=ry;exact PySem.EqNone.eq_none_str (Yu I q (by simp))
  | _=>exact absurd (show false=true from hs) AW
 | bl i=>
  cases rx
  cases y with
  | non=>cases ry;exact PySem.EqNone.eq_bool_none (Yu I q (by simp))
  | bl j=>cases ry;exact eq_bool (Yu I q JpM)
  | str j=>obtain⟨t',rfl⟩:=ry;exact PySem.EqMixed.eq_bool_str (Yu I q (by simp))
  | _=>exact absurd (show false=true from hs) AW
 | int i=>
  obtain⟨t,rfl⟩:=rx
  cases y with
  | non=>cases ry;exact PySem.EqNone.eq_int_none (Yu I q (by simp))
  | int j=>obtain⟨t',rfl⟩:=ry;exact eq_int (Yu I q Jnj)
  | str j=>obtain⟨t',rfl⟩:=ry;exact PySem.EqMixed.eq_int_str (Yu I q (by simp))
  | _=>exact absurd (show false=true from hs) AW
 | str i=>
  obtain⟨t,rfl⟩:=rx
  cases y with
  | non=>cases ry;exact PySem.EqNone.eq_str_none (Yu I q (by simp))
  | bl j=>cases ry;exact PySem.EqMixed.eq_str_bool (Yu I q (by simp))
  | int j=>obtain⟨t',rfl⟩:=ry;exact PySem.EqMixed.eq_str_int (Yu I q (by simp))
  | str j=>obtain⟨t',rfl⟩:=ry;exact eq_str (Yu I q Jn8)
  | _=>exact absurd (show false=true from hs) AW
 | byt i=>
  obtain⟨t,rfl⟩:=rx
  cases y with
  | byt j=>obtain⟨t',rfl⟩:=ry;exact PySem.W.eq_bytes (Yu I q Jm8)
  | _=>exact absurd (show false=true from hs) AW
 | _=>cases y<;>exact absurd (show false=true from hs) AW
theorem Jdx:OpR X (Bs .NotEq) rNe:=by
 intro pins s σ H x y v u Q I rx ry h;obtain⟨hs,q⟩:=h
 cases x with
 | non=>
  cases rx
  cases y with
  | non=>cases ry;exact PySem.EqNone.ne_none_none (Yu I q (by simp))
  | bl j=>cases ry;exact PySem.EqNone.ne_none_bool (Yu I q (by simp))
  | int j=>obtain⟨t',rfl⟩:=ry;exact PySem.EqNone.ne_none_int (Yu I q (by simp))
  | str j=>obtain⟨t',rfl⟩:=ry;exact PySem.EqNone.ne_none_str (Yu I q (by simp))
  | _=>exact absurd (show false=true from hs) AW
 | bl i=>
  cases rx
  cases y with
  | non=>cases ry;exact PySem.EqNone.ne_bool_none (Yu I q (by simp))
  | bl j=>cases ry;exact ne_bool (Yu I q (congrArg not JpM))
  | str j=>obtain⟨t',rfl⟩:=ry;exact PySem.EqMixed.ne_bool_str (Yu I q (by simp))
  | _=>exact absurd (show false=true from hs) AW
 | int i=>
  obtain⟨t,rfl⟩:=rx
  cases y with
  | non=>cases ry;exact PySem.EqNone.ne_int_none (Yu I q (by simp))
  | int j=>obtain⟨t',rfl⟩:=ry;exact ne_int (Yu I q (congrArg not Jnj))
  | str j=>obtain⟨t',rfl⟩:=ry;exact PySem.EqMixed.ne_int_str (Yu I q (by simp))
  | _=>exact absurd (show false=true from hs) AW
 | str i=>
  obtain⟨t,rfl⟩:=rx
  cases y with
  | non=>cases ry;exact PySem.EqNone.ne_str_none (Yu I q (by simp))
  | bl j=>cases ry;exact PySem.EqMixed.ne_str_bool (Yu I q (by simp))
  | int j=>obtain⟨t',rfl⟩:=ry;exact PySem.EqMixed.ne_str_int (Yu I q (by simp))
  | str j=>obtain⟨t',rfl⟩:=ry;exact ne_str (Yu I q (congrArg not Jn8))
  | _=>exact absurd (show false=true from hs) AW
 | byt i=>
  obtain⟨t,rfl⟩:=rx
  cases y with
  | byt j=>obtain⟨t',rfl⟩:=ry;exact PySem.W.ne_bytes (Yu I q (congrArg not Jm8))
  | _=>exact absurd (show false=true from hs) AW
 | _=>cases y<;>exact absurd (show false=true from hs) AW
theorem Jtc:OpR X (Bs .Lt) (rI0 fun i j=>.bl (decide (i<j))):=Js0 fun _ _ _ _ _ _ _ q=>lt_int q
theorem Js9:OpR X (Bs .LtE) (rI0 fun i j=>.bl (decide (i<=j))):=Js0 fun _ _ _ _ _ _ _ q=>le_int q
theorem Jtj:OpR X (Bs .Gt) (rI0 fun i j=>.bl (decide (j<i))):=Js0 fun _ _ _ _ _ _ _ q=>gt_int q
theorem JtJ:OpR X (Bs .GtE) (rI0 fun i j=>.bl (decide (j<=i))):=Js0 fun _ _ _ _ _ _ _ q=>ge_int q
theorem Jv(b:Expr){op:GH}(h:op≠.In:=by decide)(h2:op≠.NotIn:=by decide):CG op b=false:=by
 have e1:(op==GH.In)=false:=by cases op<;>first|rfl|exact absurd rfl h
 have e2:(op==GH.NotIn)=false:=by cases op<;>first|rfl|exact absurd rfl h2
 cases b<;>simp[CG,e1,e2]
theorem JcZ{op:GH}{r:R2}(ho:OpR X (Bs op) r)(ha:PE X a ta)(hb:PE X b tb)(hm:CG op b=false):PE X (.Compare a [op] [b] pos) (tOp r ta tb):=by
 intro pins s σ H Q I h;exact wpAny_Compare1 (Jtq ha hb I h fun v u s2 x y H2 I2 rx ry q=>ho pins s2 σ H2 x y v u Q I2 rx ry q) hm
def JrP(t:TE):TT:=fun σ H Q=>t σ H fun x H'=>BlI x H' Q
theorem Jq{op:GH}{r:R2}(ho:OpR X (Bs op) r)(ha:PE X a ta)(hb:PE X b tb)(hm:CG op b=false):PT X (.Compare a [op] [b] pos) (JrP (tOp r ta tb)):=by
 intro pins s σ H Q I h;refine GQ (thn (ha pins s σ H _ I h) fun v s1 hzz=>?_) hm;obtain⟨x,H1,I1,r1,q1⟩:=hzz;refine thn (hb pins s1 σ H1 _ I1 q1) fun u s2 hzz=>?_;obtain⟨y,H2,I2,r2,q2⟩:=hzz;refine thn (ho pins s2 σ H2 x y v u _ I2 r1 r2 q2) fun c s3 hzz=>?_;obtain⟨z,H3,I3,r3,k,e,q3⟩:=hzz;subst e;cases r3;exact Bf ⟨H3,I3,q3⟩
def JsS(r r':R2)(ta tb tc:TE):TE:=fun σ H Q=>ta σ H fun x H1=>tb σ H1 fun y H2=>r x y H2 fun z H3=>∃k,z=.bl k/\
 (if k=true then tc σ H3 fun w' H4=>r' y w' H4 Q else Q (.bl false) H3)
theorem Joy{op op':GH}{r r':R2}(ho:OpR X (Bs op) r)(ho':OpR X (Bs op') r')(ha:PE X a ta)(hb:PE X b tb)(hc:PE X c tc)
  (hm:lastMarks [op,op'] [b,c]=false:=by with_unfolding_all rfl):PT X (.Compare a [op,op'] [b,c] pos) (JrP (JsS r r' ta tb tc)):=by
 intro pins s σ H Q I h;refine isTrue_chain (thn (ha pins s σ H _ I h) fun v s1 hzz=>?_) hm;obtain⟨x,H1,I1,r1,q1⟩:=hzz;refine test_link (thn (hb pins s1 σ H1 _ I1 q1) fun u s2 hzz=>?_);obtain⟨y,H2,I2,r2,q2⟩:=hzz;refine thn (ho pins s2 σ H2 x y v u _ I2 r1 r2 q2) fun d s3 hzz=>?_;obtain⟨z,H3,I3,r3,k,e,q3⟩:=hzz;subst e;cases r3;refine Bf ?_
 cases k with
 | false=>
  obtain⟨k',e',q'⟩:=q3;cases e';exact ite_ff ⟨H3,I3,q'⟩
 | true=>
  refine ite_tt (test_last (thn (hc pins s3 σ H3 _ I3 q3) fun w' s4 hzz=>?_));obtain⟨z',H4,I4,r4,q4⟩:=hzz;refine thn (ho' pins s4 σ H4 y z' u w' _ I4 r2 r4 q4) fun d' s5 hzz=>?_;obtain⟨z2,H5,I5,r5,k2,e2,q5⟩:=hzz;subst e2;cases r5;exact Bf ⟨H5,I5,q5⟩
def Jt0(K:WF)(x:V)(H:Hp)(k:Bool):Prop:=
 match x with
 | .non=>k=false
 | .bl b=>k=b
 | .int i=>k=(i != 0)
 | .str y=>y.length<=AK/\k=((y.length:Int) != 0)
 | .byt y=>y.size<=AK/\k=((y.size:Int) != 0)
 | .ref p=>(∃xs,SqL K H p xs/\k=!xs.isEmpty)\/(∃xs,SqT K H p xs/\k=!xs.isEmpty)\/∃kvs,H p=some (.dK kvs)/\k=!kvs.isEmpty
 | _=>False
theorem JlR{κ:Type}{kvs:List (κ×V)}{vs:List (κ×A3)}(r:KV kvs vs):(!vs.isEmpty)=!kvs.isEmpty:=by
 cases r<;>rfl
theorem Jg6{xs:List V}{its:List A3}(r:Y2 xs its):(!its.toArray.isEmpty)=!xs.isEmpty:=by
 cases r<;>simp
theorem JiI:(AK:Nat)<2^63:=by rw[Bu];decide
theorem JsA:Jue X (fun x H Q=>∃k,Jt0 X.K x H k/\Q k H):=by
 intro pins s σ H x v Q I rx h;obtain⟨k,e,q⟩:=h;have hl:=JiI;have hs:AK=16777216:=Bu
 cases x with
 | non=>
  cases rx;have e':k=false:=e;subst e';exact truthy_none ⟨H,I,q⟩
 | bl b=>
  cases rx;have e':k=b:=e;subst e';exact Bf ⟨H,I,q⟩
 | int i=>
  obtain⟨t,rfl⟩:=rx;have e':k=(i != 0):=e;subst e';exact PySem.P.truthy_int ⟨H,I,q⟩
 | str y=>
  obtain⟨t,rfl⟩:=rx;obtain⟨hy,e'⟩:y.length<=AK/\k=((y.length:Int) != 0):=e;subst e';exact PySem.P.truthy_str (by omega) ⟨H,I.tok _,q⟩
 | byt y=>
  obtain⟨t,rfl⟩:=rx;obtain⟨hy,e'⟩:y.size<=AK/\k=((y.size:Int) != 0):=e;subst e';exact PySem.W.truthy_bytes (by omega) ⟨H,I.tok _,q⟩
 | ref p=>
  cases rx;have e':(∃xs,SqL X.K H p xs/\k=!xs.isEmpty)\/(∃xs,SqT X.K H p xs/\k=!xs.isEmpty)\/∃kvs,H p=some (.dK kvs)/\k=!kvs.isEmpty:=e
  rcases e' with⟨xs,hx,e'⟩|⟨xs,hx,e'⟩|⟨kvs,hx,e'⟩
  .subst e';obtain⟨its,r,pl,hz⟩:=I.list hx;have hlen:=r.length;exact wpAny_truthy_list pl.isList (by simp only[AX];omega) ⟨H,I.tok _,by rw[Jg6 r];exact q⟩
  .subst e';obtain⟨its,r,pl,hz⟩:=I.tuple hx;have hlen:=r.length;exact truthy_tuple pl (by simp only[AX];omega) ⟨H,I.tok _,by rw[Jg6 r];exact q⟩
  .subst e';obtain⟨hz,hS,vs,r,m⟩:kvs.length<=AK/\(p==sysModules)=false/\∃vs,KV kvs vs/\s.heap.DictOf (J9 X.prog X.w) p vs:=I.hok p _ hx;have hlen:kvs.length=vs.length:=BV.length r;exact wpAny_truthy_dict hS m (by omega) ⟨H,I.tok _,by rw[JlR r];exact q⟩
 | _=>exact(show False from e).elim
theorem JkE(ha:PE X a ta)(he:∀whole,isTrue a X.env whole=(do let v <- whole;standAt a.pos;holding [v] (truthy v))) :
  PT X a (fun σ H Q=>ta σ H fun x H'=>∃k,Jt0 X.K x H' k/\Q k H'):=by
 intro pins s σ H Q I h;refine isTrue_plain (thn (ha pins s σ H _ I h) fun v s1 hzz=>?_) (he _);obtain⟨x,H1,I1,r1,q1⟩:=hzz;exact JsA pins s1 σ H1 x v Q I1 r1 q1
theorem JgG:OpR X (C0 .Add) (fun x y H Q=>∃i j,x=.str i/\y=.str j/\i.length+j.length<=AK/\Q (.str (i++j)) H):=by
 intro pins s σ H x y v u Q I rx ry h;obtain⟨i,j,rfl,rfl,hz,q⟩:=h;obtain⟨t,rfl⟩:=rx;obtain⟨t',rfl⟩:=ry;exact add_str (fun t' tk=>⟨.str (i++j),H,I.tok _,⟨_,rfl⟩,q⟩) hz
theorem Jcq{x:V}{us:List A3}(r:Y2 [x] us):∃u,us=[u]/\Jaa x u:=by
 cases r with
 | cons r1 r2=>cases r2;exact⟨_,rfl,r1⟩
theorem JjZ{x y:V}{us:List A3}(r:Y2 [x,y] us):∃u w',us=[u,w']/\Jaa x u/\Jaa y w':=by
 cases r with
 | cons r1 r2=>
  cases r2 with
  | cons r3 r4=>cases r4;exact⟨_,_,rfl,r1,r3⟩
theorem JbC(hc:X.calm=true):Jbg X (.builtin "max") (fun xs H Q=>∃i j,xs=[.int i,.int j]/\Q (.int (if j>i then j else i)) H):=by
 intro pins s σ H xs us Q I r h;obtain⟨i,j,rfl,q⟩:=h;obtain⟨u,w',rfl,⟨t,rfl⟩,⟨t',rfl⟩⟩:=JjZ r;refine max_two_ints (I.ok.hd hc) fun h' tk k=>⟨_,H,I.kept k,?_,q⟩
 by_cases hj:j>i
 .rw[if_pos hj,if_pos hj];exact⟨_,rfl⟩
 .rw[if_neg hj,if_neg hj];exact⟨_,rfl⟩
theorem Jd1(hc:X.calm=true):Jbg X (.builtin "min") (fun xs H Q=>∃i j,xs=[.int i,.int j]/\Q (.int (if j<i then j else i)) H):=by
 intro pins s σ H xs us Q I r h;obtain⟨i,j,rfl,q⟩:=h;obtain⟨u,w',rfl,⟨t,rfl⟩,⟨t',rfl⟩⟩:=JjZ r;refine min_two_ints (I.ok.hd hc) fun h' tk k=>⟨_,H,I.kept k,?_,q⟩
 by_cases hj:j<i
 .rw[if_pos hj,if_pos hj];exact⟨_,rfl⟩
 .rw[if_neg hj,if_neg hj];exact⟨_,rfl⟩
theorem JfH:Jbg X (.type "int") (fun xs H Q=>(∃i,xs=[.int i]/\Q (.int i) H)\/∃k,xs=[.bl k]/\Q (.int (if k then 1 else 0)) H):=by
 intro pins s σ H xs us Q I r h
 rcases h with⟨i,rfl,q⟩|⟨k,rfl,q⟩
 .obtain⟨u,rfl,t,rfl⟩:=Jcq r;exact call_int_int ⟨.int i,H,I,⟨_,rfl⟩,q⟩
 .obtain⟨u,rfl,r1⟩:=Jcq r;cases r1;exact call_int_bool ⟨.int (if k then 1 else 0),H,I.tok _,⟨_,rfl⟩,q⟩
end
structure Jrp(h:Heap)(x dx C:Addr)(mA:MO):Prop where
 obj:h.get? x=some (CV C dx)
 ns:h.Ns1 dx mA
 ne:dx≠x
theorem JnM{h:Heap}{dx:Addr}{mA:MO}(n:h.Ns1 dx mA):∃od,h.get? dx=some od/\∀name,EC name od=some (mA name):=by
 obtain⟨o,es,ep,ho,hd,hk,_,hm⟩:=n;refine⟨o,ho,fun name=>?_⟩;have e:=hm name;unfold nsFind findBy at e;rw[<- Array.find?_toList]at e;unfold EC;rw[hd];dsimp only;split
 .rename_i y q;rw[q]at e;exact congrArg some e
 .rename_i q;rw[q]at e
  have a:es.toList.any (·.refKey)=false:=by
   rw[K9];intro y hy;obtain⟨z,t,hkey⟩:=hk y (Array.mem_toList_iff.mp hy);simp[GR.refKey,hkey]
  have a':¬es.toList.any (·.refKey)=true:=by rw[a];exact AW
  rw[if_neg a'];exact congrArg some e
theorem Jrp.look{h:Heap}{x dx C:Addr}{mA:MO}(I:Jrp h x dx C mA):∃od,PySem.W.InstAt h x (CV C dx) C (some od)/\∀name,EC name od=some (mA name):=
 let ⟨od,ho,hl⟩:=JnM I.ns
 ⟨od,⟨I.obj,rfl,rfl,ho⟩,hl⟩
section
variable {prog:Ab} {w:At} {A:AH} {E:A3→A9→Prop} {s:A9} {K:WF} {x dx C f:Addr} {mA:Str→Option A3} {name:Str} {v:A3}
theorem Jq6{expr:Bool}{Q:VS}(X:K.In s.heap)(I:Jrp s.heap x dx C mA)(hg:Di K C name=true)(hh:E8 K C=true)
  (ha:Bh K (.ref C) name=some none) (hv:mA name=some v) (hv':KJ v=true) (h:Q v { s with toks:=s.toks+1 }) :
  AV (Af prog w) A (getAttr (.ref x) name expr) Q E s:=by
 obtain⟨od,J,hl⟩:=I.look;exact PySem.W.get_value X J (Eg hg).1 (PySem.W.findObj_own hh ha rfl (by rw[hl,hv])) hv' h
theorem Jpy{pl:Sem Bool}{Q:A3×List A3->A9->Prop}(X:K.In s.heap)(I:Jrp s.heap x dx C mA)(hg:Di K C name=true)
  (hf:Bh K (.ref C) name=some (some (.ref f))) (ht:Eo K (.ref f)=true) (hv:mA name=none) (h:Q (.ref f,[.ref x]) s) :
  AV (Af prog w) A (Ky (.ref x) name pl) Q E s:=by
 obtain⟨od,J,hl⟩:=I.look;exact PySem.W.method_fn X J (Eg hg).1 (Eg hg).2 hf (beq_iff_eq.mp ht) (by show(EC name od).map (·.isSome)=some false;rw[hl,hv];rfl) h
theorem Jqy{ns:List Str}{Q:Unit->A9->Prop}(X:K.In s.heap)(I:Jrp s.heap x dx C mA)
  (hs:Bh K (.ref C) "__setattr__" = some (some (.builtin "object.__setattr__"))) (hp:Fx K C=true) (ht:G9 K C name=some none) (hh:E8 K C=true)
  (hw:FE mA ns) (hsz:ns.length<=AK)
  (h:∀h',Jrp h' x dx C (fun y=>if y=name then some v else mA y)->Br dx s.heap h'->Q () { s with heap:=h',toks:=s.toks+2 }) :
  AV (Af prog w) A (setAttr (.ref x) name v) Q E s:=by
 obtain⟨od,J,hl⟩:=I.look;refine PySem.W.set_plain X J hs (PySem.W.osa_open (s:={ s with toks:=s.toks+1 }) (r:=none) X J hp ht fun b=>?_);obtain⟨cd,hc,hd'⟩:=PySem.W.any_some hh;have hx:s.heap.get? x=some ⟨.ref C,some dx,.plain,#[]⟩:=I.obj;refine A0 (A8 (A0 (A0 (wpAny_loadPart hx (A0 (HX.here (s:={ s with toks:=s.toks+1 }) (PySem.W.looks_clsIn X hc) ?_))))));rw[hd'];refine A8 (a:=some dx) (A0 (A8 (A0 ?_)));refine wpAny_nsSet1 (s:={ s with toks:=s.toks+1 }) I.ns fun h' hn2 hs2=>?_;obtain⟨oD,esD,epD,hoD,hdD,hcD⟩:=hn2.count (FE.cons name v hw);refine A0 (wpAny_lookBehind hoD (by rw[hdD];exact pastItsLine_dict (B0 hcD (by rw[AN];omega))) ?_);exact A8 (h _ ⟨(hs2.2 _ (EK I.ne)).trans I.obj,hn2,I.ne⟩ hs2)
theorem JpF{R:KQ->A9->Prop}{vs:List A3}{kw:List (Str×A3)}(X:K.In s.heap)(hm:Gq K C=true)
  (hi:Bh K (.ref C) "__init__" = some (some (.ref f))) (hf:PySem.W.typeIn K (.ref f)=some (.type "function"))
  (h:DD (Af prog w) (A.under (.builtin "type.__call__" ⟨.ref C::vs,kw⟩)) (.call (.ref f) ⟨.ref (s.heap.objs.size+1)::vs,kw⟩) (PySem.W.InitBack (s.heap.objs.size+1) R)
   { s with heap:=(s.heap.push BF).push (CV C s.heap.objs.size) }) :
  DD (Af prog w) A (.call (.ref C) ⟨vs,kw⟩) R s:=by
 obtain⟨hh,g,d,t,os⟩:=s;exact PySem.W.make_core (PySem.W.makes_of X hm) (PySem.W.looks_findIn X hi) (fun self=>PySem.W.bind_fn X self hf) (.inl rfl) h
end
noncomputable def Jdi(f:Str)(v:V):List (Str×V)->List (Str×V)
 | []=>[(f,v)]
 | (g,x)::r=>if g=f then(g,v)::r else(g,x)::Jdi f v r
theorem Yn(f g:Str)(v:V):∀fs:List (Str×V),(Jdi f v fs).lookup g=if g=f then some v else fs.lookup g
 | []=>by
  show D5 g [(f,v)]=_
  by_cases h:g=f
  .have hb:(g==f)=true:=beq_iff_eq.mpr h;simp only[D5,hb,if_pos h]
  .have hb:(g==f)=false:=beq_eq_false_iff_ne.mpr h;simp only[D5,hb,if_neg h]
 | (k,x)::r=>by
  have ih:=Yn f g v r;rw[show Jdi f v ((k,x)::r)=(if k=f then(k,v)::r else(k,x)::Jdi f v r) from rfl]
  by_cases hk:k=f
  .rw[if_pos hk]
   by_cases h:g=k
   .have hb:(g==k)=true:=beq_iff_eq.mpr h;simp only[D5,hb,if_pos (h.trans hk)]
   .have hb:(g==k)=false:=beq_eq_false_iff_ne.mpr h;simp only[D5,hb,if_neg (fun e:g=f=>h (e.trans hk.symm))]
  .rw[if_neg hk]
   by_cases h:g=k
   .have hb:(g==k)=true:=beq_iff_eq.mpr h;simp only[D5,hb,if_neg (fun e:g=f=>hk (h.symm.trans e))]
   .have hb:(g==k)=false:=beq_eq_false_iff_ne.mpr h;simp only[D5,hb];exact ih
theorem Jfx(f:Str)(v:V):∀fs:List (Str×V),f∈(Jdi f v fs).map (·.1)/\∀g,g∈fs.map (·.1)->g∈(Jdi f v fs).map (·.1)
 | []=>⟨by simp[Jdi],fun g h=>by simp at h⟩
 | (k,x)::r=>by
  obtain⟨i1,i2⟩:=Jfx f v r;rw[show Jdi f v ((k,x)::r)=(if k=f then(k,v)::r else(k,x)::Jdi f v r) from rfl]
  by_cases hk:k=f
  .rw[if_pos hk];subst hk;exact⟨by simp,fun g h=>by simpa using h⟩
  .rw[if_neg hk];refine⟨?_,fun g h=>?_⟩
   .rw[Al];exact AY _ i1
   .rw[Al]at h ⊢
    rcases Aq.mp h with e|e
    .exact Aq.mpr (.inl e)
    .exact AY _ (i2 g e)
theorem JfO(f:Str)(v:V):∀fs:List (Str×V),(Jdi f v fs).length<=fs.length+1
 | []=>by simp[Jdi]
 | (k,x)::r=>by
  have ih:=JfO f v r;rw[show Jdi f v ((k,x)::r)=(if k=f then(k,v)::r else(k,x)::Jdi f v r) from rfl]
  by_cases hk:k=f
  .rw[if_pos hk,AN,AN];omega
  .rw[if_neg hk,AN,AN];omega
theorem Jh8.some_of{v:V}{o:Option A3}(r:Jh8 (some v) o):∃u,o=some u/\Jaa v u:=by
 cases o with
 | none=>exact(show False from r).elim
 | some u=>exact⟨u,rfl,r⟩
theorem Jh8.none_of{o:Option A3}(r:Jh8 none o):o=none:=by
 cases o with
 | none=>rfl
 | some u=>exact(show False from r).elim
theorem Jnx{v:V}{u:A3}(r:Jaa v u):KJ u=true:=by
 cases v with
 | non=>cases(show u=A3.none from r);rfl
 | bl b=>cases(show u=A3.bool b from r);rfl
 | int i=>obtain⟨t,e⟩:=(show∃t,u=A3.int i t from r);cases e;rfl
 | str x=>obtain⟨t,e⟩:=(show∃t,u=A3.str x t from r);cases e;rfl
 | byt b=>obtain⟨t,e⟩:=(show∃t,u=A3.bytes b t from r);cases e;rfl
 | flt b=>obtain⟨t,e⟩:=(show∃t,u=A3.float b t from r);cases e;rfl
 | ref a=>cases(show u=A3.ref a from r);rfl
 | ty n=>cases(show u=A3.type n from r);rfl
section
variable {P:Ab} {w:At} {H H':Hp} {h h':Heap} {a C dx:Addr} {fs fs':List (Str×V)}
theorem Jhx(hok:HOk P w H h)(e:H a=some (.ins C dx fs)):∃mA,Jrp h a dx C mA/\(∀f,Jh8 (fs.lookup f) (mA f))/\FE mA (fs.map (·.1))/\fs.length<=1000/\H dx=some (.own a):=by
 obtain⟨d,z,ne,ob,mA,n,r,q⟩:=(show J4 P w H h a (.ins C dx fs) from hok a _ e);exact⟨mA,⟨ob,n,ne⟩,r,q,z,d⟩
end
structure Cls(K:WF)(C:Addr):Prop where
 pg:Di K C Str.empty=true
 hd:E8 K C=true
 po:Fx K C=true
 sa:Bh K (.ref C) "__setattr__" = some (some (.builtin "object.__setattr__"))
theorem Cls.get{K:WF}{C:Addr}(c:Cls K C)(f:Str):Di K C f=true:=c.pg
def Jar(K:WF)(C:Addr)(f:Str):Prop:=Bh K (.ref C) f=some none
theorem Jar.taker{K:WF}{C:Addr}{f:Str}(n:Jar K C f):G9 K C f=some none:=by
 unfold G9;rw[show Bh K (.ref C) f=some none from n];rfl
structure Js1(K:WF)(C:Addr)(m:Str)(f:Addr):Prop where
 at_:Bh K (.ref C) m=some (some (.ref f))
 fn:Eo K (.ref f)=true
 kp:Cv K (.ref f)=true
section
variable {X:Cx} {pins:PL} {σ:St} {H:Hp} {s:A9} {a C dx:Addr} {fs:List (Str×V)} {f:Str} {v:V} {A:AH} {E:A3→A9→Prop}
theorem JlO{b:Bool}{Q:VS}(I:Inv X pins σ H s)(e:H a=some (.ins C dx fs))(c:Cls X.K C)(n:Jar X.K C f)(l:fs.lookup f=some v)
  (h:∀u s',Inv X pins σ H s'->Jaa v u->Q u s'):AV (Af X.prog X.w) A (getAttr (.ref a) f b) Q E s:=by
 obtain⟨mA,O,r,_,_,_⟩:=Jhx I.hok e;obtain⟨u,hu,ru⟩:=Jh8.some_of (v:=v) (o:=mA f) (by rw[<- l];exact r f);exact Jq6 I.kIn O (c.get f) c.hd n hu (Jnx ru) (h u _ (I.tok _) ru)
theorem JgP{m:Str}{g:Addr}{pl:Sem Bool}{Q:A3×List A3->A9->Prop}(I:Inv X pins σ H s)(e:H a=some (.ins C dx fs))(c:Cls X.K C)(k:Js1 X.K C m g)(l:fs.lookup m=none)
  (h:Q (.ref g,[.ref a]) s):AV (Af X.prog X.w) A (Ky (.ref a) m pl) Q E s:=by
 obtain⟨mA,O,r,_,_,_⟩:=Jhx I.hok e;have hn:mA m=none:=Jh8.none_of (by rw[<- l];exact r m);exact Jpy I.kIn O (c.get m) k.at_ k.fn hn h
theorem JlX{y:V}{u:A3}{Q:Unit->A9->Prop}(I:Inv X pins σ H s)(e:H a=some (.ins C dx fs))(c:Cls X.K C)(n:Jar X.K C f)(hl:fs.length<1000)(ry:Jaa y u)
  (h:∀s',Inv X pins σ (upd H a (.ins C dx (Jdi f y fs))) s'->Q () s'):AV (Af X.prog X.w) A (setAttr (.ref a) f u) Q E s:=by
 obtain⟨mA,O,r,wi,_,ho⟩:=Jhx I.hok e
 have hz:(fs.map (·.1)).length<=AK:=by rw[A2,Bu];omega
 refine Jqy I.kIn O c.sa c.po n.taker c.hd wi hz fun h' O' sb=>h _ ?_
 have hd:∃o,h'.get? dx=some o:=let ⟨o,_,_,e',_⟩:=O'.ns;⟨o,e'⟩
 refine I.write (x:=a) (e:=dx) (by rw[e];exact True.intro) (.inr ho) (fun b q hb z=>(sb.2 b hb).trans z) hd ?_;refine⟨by rw[Jg O.ne];exact ho,?_,O.ne,O'.obj,_,O'.ns,fun g=>?_,fun g hg=>?_⟩
 .have:=JfO f y fs;omega
 .show Jh8 ((Jdi f y fs).lookup g) (if g=f then some u else mA g);rw[Yn]
  by_cases q:g=f
  .rw[if_pos q,if_pos q];exact ry
  .rw[if_neg q,if_neg q];exact r g
 .by_cases q:g=f
  .rw[q];exact(Jfx f y fs).1
  .refine(Jfx f y fs).2 g (wi g fun z=>hg ?_);show(if g=f then some u else mA g)=none;rw[if_neg q];exact z
theorem Inv.made(I:Inv X pins σ H s):Inv X pins σ (upd (upd H s.heap.objs.size (.own (s.heap.objs.size+1))) (s.heap.objs.size+1) (.ins C s.heap.objs.size []))
  { s with heap:=(s.heap.push BF).push (CV C s.heap.objs.size) }:=by
 have e1:(s.heap.push BF).get? s.heap.objs.size=some BF:=Aw s.heap rfl
 have e2:((s.heap.push BF).push (CV C s.heap.objs.size)).get? (s.heap.objs.size+1)=some (CV C s.heap.objs.size):=by
  have:=Aw (s.heap.push BF) (o:=CV C s.heap.objs.size) rfl
  rwa [By]at this
 have e3:(s.heap.push BF).Ns s.heap.objs.size (fun _=>none):=⟨BF,#[],_,e1,rfl,(fun e he=>absurd he (by simp)),fun _=>rfl⟩;have I1:=I.laid (a:=s.heap.objs.size) (o:=.own (s.heap.objs.size+1)) (h':=s.heap.push BF) (t':=s.toks) (fun b u q=>A4 _ q) (A6 _) ⟨_,e1⟩;refine I1.laid (a:=s.heap.objs.size+1) (o:=.ins C s.heap.objs.size []) (t':=s.toks) (fun b u q=>A4 _ q) (K4 (By _ _)) ?_;have ne:s.heap.objs.size≠s.heap.objs.size+1:=Ar (BU _);refine⟨by rw[Jg ne,Ja],AA _,ne,e2,fun _=>none,(Heap.Ns1.of_empty e3).at fun o q=>A4 _ q,fun _=>True.intro,fun y hy=>absurd rfl hy⟩
theorem Jrk{prog:Ab}{w:At}{env:Env}{e:Expr}{f:Str}{pos:Pos}{s:A9}{Q:VS}(hb:Dv e f env (eval e env)=eval e env)
  (h:AV (Af prog w) A (eval e env) (fun o s₁=>AV (Af prog w) A (getAttr o f true) Q E s₁) E s):AV (Af prog w) A (eval (.Attribute e f pos) env) Q E s:=
 Attribute_any_ h (by rw[arm_eval_Attribute,hb])
end
inductive FlI(K:WF)(f:Str)(x:V)(H:Hp)(Q:VK):Prop
 | mk (a C dx:Addr) (fs:List (Str×V)) (v:V) (e:x=.ref a) (h:H a=some (.ins C dx fs)) (c:Cls K C) (n:Jar K C f) (l:fs.lookup f=some v) (q:Q v H):FlI K f x H Q
def JtZ(K:WF)(ta:TE)(f:Str):TE:=fun σ H Q=>ta σ H fun x H1=>FlI K f x H1 Q
inductive FsI(K:WF)(f:Str)(x y:V)(H:Hp)(Q:Hp->Prop):Prop
 | mk (a C dx:Addr) (fs:List (Str×V)) (e:x=.ref a) (h:H a=some (.ins C dx fs)) (c:Cls K C) (n:Jar K C f) (l:fs.length<1000) (q:Q (upd H a (.ins C dx (Jdi f y fs)))):FsI K f x y H Q
def JuA(K:WF)(ta tv:TE)(f:Str):TS:=fun D σ H=>tv σ H fun y H1=>ta σ H1 fun x H2=>FsI K f x y H2 (D.nx σ)
section
variable {X:Cx} {o e value:Expr} {f:Str} {pos pos' tpos:Pos} {ta tv:TE}
theorem JaA(he:PE X e ta)(hb:Dv e f X.env (eval e X.env)=eval e X.env):PE X (.Attribute e f pos) (JtZ X.K ta f):=by
 intro pins s σ H Q I h;refine Jrk hb (thn (he pins s σ H _ I h) fun u s1 hzz=>?_);obtain⟨x,H1,I1,rx,a,C,dx,fs,v,ex,ea,c,n,l,q⟩:=hzz;subst ex;obtain rfl:u=A3.ref a:=rx;exact JlO I1 ea c n l fun u' s2 I2 ru=>⟨v,H1,I2,ru,q⟩
theorem Jdr(ha:PE X o ta)(hv:PE X value tv)(hs:Fb value (some (.Attribute o f pos')) pos.line X.env=pure false):PS X (.Assign [.Attribute o f pos'] value pos) (JuA X.K ta tv f):=by
 intro pins s σ H D I h;refine plainObj_wpAny_Assign_Attribute (thn (hv pins s σ H _ I h) fun u s1 hzz=>?_) hs;obtain⟨y,H1,I1,ry,q⟩:=hzz;refine thn (ha pins s1 σ H1 _ I1 q) fun ov s2 hzz=>?_;obtain⟨x,H2,I2,rx,a,C,dx,fs,ex,ea,c,n,l,q2⟩:=hzz;subst ex;obtain rfl:ov=A3.ref a:=rx;exact JlX I2 ea c n l ry fun s3 I3=>⟨σ,_,I3,q2⟩
end
section
variable {X:Cx} {pins:PL} {σ:St} {H:Hp} {s:A9} {A:AH} {E:A3→A9→Prop} {Q:A3→A9→Prop} {c:A3} {b:Bool}
inductive Jkh(K:WF)(H:Hp):V->A3->Prop where
 | non:Jkh K H .non (.type "NoneType")
 | bl (x:Bool):Jkh K H (.bl x) (.type "bool")
 | int (i:Int):Jkh K H (.int i) (.type "int")
 | str (x:Str):Jkh K H (.str x) (.type "str")
 | flt (x:UInt64):Jkh K H (.flt x) (.type "float")
 | lst {a:Addr} {xs:List V} (e:H a=some (.lst xs)):Jkh K H (.ref a) (.type "list")
 | frz {a:Addr} {o:Obj} {xs:List V} (e:H a=some (.frz o (.lst xs))):Jkh K H (.ref a) (.type "list")
 | tup {a:Addr} {xs:List V} (e:H a=some (.tup xs)):Jkh K H (.ref a) (.type "tuple")
 | dK {a:Addr} {kvs:List (Key×V)} (e:H a=some (.dK kvs)):Jkh K H (.ref a) (.type "dict")
 | dT {a:Addr} {kvs:List (List Key×V)} (e:H a=some (.dT kvs)):Jkh K H (.ref a) (.type "dict")
 | ins {a C dx:Addr} {fs:List (Str×V)} (e:H a=some (.ins C dx fs)) (cl:Cls K C) (ha:Bh K (.ref C) "__class__" = some (some (.builtin "object.__class__")))
   (hn:PySem.W.specialIn K (.builtin "object.__class__") "__get__" = some (some (.builtin "getset_descriptor.__get__"))) (htk:PySem.W.takesIn K (.builtin "object.__class__")=some true)
   (hm:PySem.W.mroIn K C (.type "object")=some true):Jkh K H (.ref a) (.ref C)
theorem JmS{x:V}{u t:A3}(I:Inv X pins σ H s)(rx:Jaa x u)(ty:Jkh X.K H x t)(e:ED X.K t c=some b)(h:∀tk,Q (.bool b) { s with toks:=tk }) :
  AV (Af X.prog X.w) A (call (.builtin "isinstance") [u,c]) Q E s:=by
 cases ty with
 | non=>cases(show u=A3.none from rx);exact BC HS I.kIn True.intro e (fun z=>nomatch z) h
 | bl y=>cases(show u=A3.bool y from rx);exact BC HU I.kIn True.intro e (fun z=>nomatch z) h
 | int i=>obtain⟨t,q⟩:=(show∃t,u=A3.int i t from rx);cases q;exact BC KZ I.kIn True.intro e (fun z=>nomatch z) h
 | str y=>obtain⟨t,q⟩:=(show∃t,u=A3.str y t from rx);cases q;exact BC KW I.kIn True.intro e (fun z=>nomatch z) h
 | flt y=>obtain⟨t,q⟩:=(show∃t,u=A3.float y t from rx);cases q;exact BC PySem.W.kitx_float I.kIn True.intro e (fun z=>nomatch z) h
 | @lst a xs ea=>
  cases(show u=A3.ref a from rx);obtain⟨_,_,n,_,h1⟩:=(show J4 X.prog X.w H s.heap a (.lst xs) from I.hok a _ ea);exact BC E6 I.kIn ⟨_,h1,rfl⟩ e (fun z=>nomatch z) h
 | @frz a ob xs ea=>
  cases(show u=A3.ref a from rx);obtain⟨_,_,_,n,_,h1⟩:=(show J4 X.prog X.w H s.heap a (.frz ob (.lst xs)) from I.hok a _ ea);exact BC E6 I.kIn ⟨_,h1,rfl⟩ e (fun z=>nomatch z) h
 | @tup a xs ea=>
  cases(show u=A3.ref a from rx);obtain⟨_,_,_,p⟩:=(show J4 X.prog X.w H s.heap a (.tup xs) from I.hok a _ ea);obtain⟨o,h1,h2,_⟩:=p;exact BC Hn I.kIn ⟨o,h1,h2⟩ e (fun z=>nomatch z) h
 | @dK a kvs ea=>
  cases(show u=A3.ref a from rx);obtain⟨_,_,vs,_,p⟩:=(show J4 X.prog X.w H s.heap a (.dK kvs) from I.hok a _ ea);obtain⟨o,es,ep,h1,h2,_⟩:=p;exact BC E7 I.kIn ⟨o,h1,h2.1⟩ e (fun z=>nomatch z) h
 | @dT a kvs ea=>
  cases(show u=A3.ref a from rx);obtain⟨_,_,xs,_,o,es,ep,h1,h2,_⟩:=(show J4 X.prog X.w H s.heap a (.dT kvs) from I.hok a _ ea);exact BC E7 I.kIn ⟨o,h1,h2.1⟩ e (fun z=>nomatch z) h
 | @ins a C dx fs ea cl ha hn htk hm=>
  cases(show u=A3.ref a from rx);obtain⟨mA,O,_⟩:=Jhx I.hok ea;obtain⟨od,J,_⟩:=O.look;exact BC (PySem.W.kitx_own (cl.get _) cl.hd ha hn htk hm) I.kIn J e (fun z=>nomatch z) h
end
structure JdG(k:Nat)(A:AH):Prop where
 hd:A.handled=none
 dp:A.depth+3*k+5<recursionLimit
 un:A.units+16*k+200<DR
theorem JdG.mono{j k:Nat}{A:AH}(r:JdG k A)(h:j<=k):JdG j A:=⟨r.hd,by have:=r.dp;omega,by have:=r.un;omega⟩
theorem JdG.deeper{k:Nat}{A:AH}(r:JdG (k+1) A)(env:Env):JdG k (A.deeper env):=
 ⟨r.hd,by have:=r.dp;show A.depth+1+3*k+5<_;omega,by have:=r.un;show A.units+3+16*k+200<_;omega⟩
theorem Jl0{A:AH}{C:Addr}{us:List A3}{kw:List (Str×A3)}:(A.under (.builtin "type.__call__" ⟨.ref C::us,kw⟩)).depth=A.depth+1:=by
 first|rfl|simp[AH.under,Code.weight,Code.isCreation,Code.isGuard,Code.isCaller,Code.frames,Kw,guardIds]
theorem JlU{A:AH}{C:Addr}{us:List A3}{kw:List (Str×A3)}:(A.under (.builtin "type.__call__" ⟨.ref C::us,kw⟩)).units=A.units+1:=by
 first|rfl|simp[AH.under,Code.cUnits,Code.frames,Kw]
theorem JdG.make{k:Nat}{A:AH}(r:JdG (k+1) A)(C:Addr)(us:List A3)(kw:List (Str×A3)):JdG k (A.under (.builtin "type.__call__" ⟨.ref C::us,kw⟩)):=
 ⟨r.hd,by have:=r.dp;rw[Jl0];omega,by have:=r.un;rw[JlU];omega⟩
theorem JdG.depth{k:Nat}{A:AH}(r:JdG k A):A.depth<recursionLimit:=by have:=r.dp;omega
theorem JdG.units{k:Nat}{A:AH}(r:JdG k A):A.units+64<DR:=by have:=r.un;omega
def Js3:TA:=fun _ H Q=>Q [] H
def Jsk(ta:TE)(tr:TA):TA:=fun σ H Q=>ta σ H fun x H1=>tr σ H1 fun xs H2=>Q (x::xs) H2
section
variable {X:Cx} {e:Expr} {es:List Expr} {te:TE} {t:TA} {pos:Pos}
theorem JR:PA X [] Js3:=fun _ _ _ _ H Q I h=>Fv ⟨[],H,I,.nil,h⟩
theorem Jb(ha:PE X e te)(hr:PA X es t)(hs:AR (e::es) X.env=(false,eval e X.env)::AR es X.env:=by rfl):PA X (e::es) (Jsk te t):=by
 intro pos pins s σ H Q I h;rw[hs];show AV _ _ (spliced ((false,eval e X.env)::DF pos (AR es X.env))) _ _ s;refine Dw (thn (ha pins s σ H _ I h) fun u s1 hzz=>?_);obtain⟨x,H1,I1,r1,q1⟩:=hzz;refine thn (hr pos pins s1 σ H1 _ I1 q1) fun us s2 hzz=>?_;obtain⟨xs,H2,I2,r2,q2⟩:=hzz;exact⟨x::xs,H2,I2,.cons r1 r2,q2⟩
def Jup(t:TA):TE:=fun σ H Q=>t σ H fun xs H1=>xs.length<=AK/\∀p,H1 p=none->Q (.ref p) (upd H1 p (.tup xs))
def Jum(t:TA):TE:=fun σ H Q=>t σ H fun xs H1=>xs.length<=AK/\∀p,H1 p=none->Q (.ref p) (upd H1 p (.lst xs))
theorem JZ{x1}(h:PA X es t):PE X (.Tuple es x1 pos) (Jup t):=by
 intro pins s σ H Q I hq;refine wpAny_Tuple_spliced (thn (h pos pins s σ H _ I hq) fun us s1 ⟨xs,H1,I1,r,z,q⟩ =>⟨by rw[<- r.length];exact z,?_⟩);have hf:H1 s1.heap.objs.size=none:=I1.hok.fresh (A6 _);refine⟨.ref s1.heap.objs.size,upd H1 s1.heap.objs.size (.tup xs),I1.laid (t':=s1.toks) (fun b u e=>A4 _ e) (A6 _) ?_,rfl,q _ hf⟩;exact⟨z,us,r,⟨_,Aw _ rfl,rfl,_,rfl⟩⟩
theorem J3(h:PA X es t):PE X (.List es pos) (Jum t):=by
 intro pins s σ H Q I hq;refine wpAny_List_spliced (thn (h pos pins s σ H _ I hq) fun us s1 ⟨xs,H1,I1,r,z,q⟩ =>⟨by rw[<- r.length];exact z,?_⟩);have hf:H1 s1.heap.objs.size=none:=I1.hok.fresh (A6 _);refine⟨.ref s1.heap.objs.size,upd H1 s1.heap.objs.size (.lst xs),I1.laid (t':=s1.toks) (fun b u e=>A4 _ e) (A6 _) ?_,rfl,q _ hf⟩;exact⟨z,us,0,r,Aw _ rfl⟩
end
abbrev Sp:=List V->Hp->VK->XK->Prop
abbrev CXT:=List Env->Hp->A9->XK->A3->A9->Prop
structure JqI(P:Ab)(w:At)(K:WF)(mg:MO)(base:Heap)(A:AH)(outer:List Env)(s:A9)(H:Hp):Prop where
 frames:A.frames=some outer
 mod:Mod K mg base
 bs:∀b o,base.get? b=some o->s.heap.get? b=some o/\H b=none
 bsz:base.objs.size<=s.heap.objs.size
 funs:s.heap.FunFrames base outer
 frf:∀b∈frs outer,H b=none
 hok:HOk P w H s.heap
 bare:Ep s.gens
def CE(outer:List Env)(P:Ab)(w:At)(H:Hp)(s:A9)(Q:VK)(u:A3)(s':A9):Prop:=
 ∃v H',s'.os=s.os/\Ep s'.gens/\Un (frs outer) [] H H' s.heap s'.heap/\HOk P w H' s'.heap/\Jaa v u/\Q v H'
def CR(CX:CXT)(outer:List Env)(P:Ab)(w:At)(H:Hp)(s:A9)(Q:VK)(E:XK)(r:KQ)(s':A9):Prop:=
 match r with
 | .ok (.ret u)=>CE outer P w H s Q u s'
 | .ok _=>False
 | .error e=>CX outer H s E e s'
structure YU(P:Ab)(w:At)(K:WF)(mg:MO)(base:Heap)(CX:CXT)(k:Nat)(f:Addr)(fd:Aa)(ps:List Str)(sp:Sp):Prop where
 len:∀vs H Q E,sp vs H Q E->vs.length=ps.length
 run:∀(A:AH)(outer:List Env)(s:A9)(H:Hp)(args:Args)(us:List A3)(vs:List V)(Q:VK)(E:XK),JdG k A->JqI P w K mg base A outer s H->Kj s fd args (ps.zip us)->Y2 vs us->sp vs H Q E->
  DD (Af P w) A (.call (.ref f) args) (CR CX outer P w H s Q E) s
theorem JqI.make{P:Ab}{w:At}{K:WF}{mg:MO}{base:Heap}{A:AH}{outer:List Env}{s:A9}{H:Hp}(e:JqI P w K mg base A outer s H)(C:Addr)(us:List A3)(kw:List (Str×A3)) :
  JqI P w K mg base (A.under (.builtin "type.__call__" ⟨.ref C::us,kw⟩)) outer s H:=⟨by first|exact e.frames|(simpa[AH.under,Code.envs,Kw,pushEnvs]using e.frames),e.mod,e.bs,e.bsz,e.funs,e.frf,e.hok,e.bare⟩
section
variable {X:Cx} {pins:PL} {σ:St} {H:Hp} {s s':A9}
theorem Inv.env0(I:Inv X pins σ H s):JqI X.prog X.w X.K X.mg X.base X.A X.stack s H:=
 ⟨I.ok.frames,I.ok.mod,I.bs,B0 I.ok.bsz I.sz,I.stack,I.stkFree,I.hok,I.bare⟩
theorem Inv.after{Q:VK}{u:A3}(I:Inv X pins σ H s)(h:CE X.stack X.prog X.w H s Q u s'):EP X pins σ Q u s':=by
 obtain⟨v,H',os,bare,un,hok,r,q⟩:=h;obtain⟨hh,g,d,t,os'⟩:=s';obtain rfl:os'=s.os:=os;exact⟨v,H',I.call (h':=hh) (g':=g) (d':=d) (t':=t) (ch:=[]) un hok bare (fun b z=>absurd z (by simp)),r,q⟩
end
def Jqw(sp:Sp)(dvs:List V)(E:XK)(t:TA):TE:=fun σ H Q=>t σ H fun vs H1=>sp (vs++dvs) H1 Q E
inductive MtI(C:Addr)(m:Str)(x:V)(H:Hp)(Q:Prop):Prop
 | mk (a dx:Addr) (fs:List (Str×V)) (e:x=.ref a) (h:H a=some (.ins C dx fs)) (l:fs.lookup m=none) (q:Q):MtI C m x H Q
def Jsa(C:Addr)(m:Str)(sp:Sp)(dvs:List V)(E:XK)(ta:TE)(t:TA):TE:=fun σ H Q=>ta σ H fun x H1=>MtI C m x H1 (t σ H1 fun vs H2=>sp (x::(vs++dvs)) H2 Q E)
def JtI(C:Addr)(sp:Sp)(dvs:List V)(E:XK)(t:TA):TE:=fun σ H Q=>t σ H fun vs H1=>∀x dx,H1 x=none->H1 dx=none->dx≠x->
 sp (.ref x::(vs++dvs)) (upd (upd H1 dx (.own x)) x (.ins C dx [])) (fun v H2=>v=.non/\Q (.ref x) H2) E
def Jdj(K:WF)(fd:Aa)(ps:List Str)(ds:List A3):Prop:=
 ∀(s:A9)(us:List A3),K.In s.heap->(us++ds).length=ps.length->Kj s fd ⟨us,[]⟩ (ps.zip (us++ds))
theorem Jdj.all{K:WF}{fd:Aa}{ps:List Str}(h:∀us:List A3,us.length=ps.length->bindArgs fd ⟨us,[]⟩=pure (ps.zip us)):Jdj K fd ps []:=fun s us _ hl=>by
 rw[Be]at hl ⊢;exact .of_eq (h us hl)
def JeV(CX:CXT)(X:Cx)(E:XK):Prop:=∀(pins:PL) (σ:St) (H:Hp) (s:A9) (e:A3) (s':A9),Inv X pins σ H s->CX X.stack H s E e s'->X.xe e s'
section
variable {X:Cx} {CX:CXT} {k:Nat} {f C:Addr} {fd:Aa} {ps:List Str} {sp:Sp} {dvs:List V} {ds:List A3} {E:XK} {x m:Str} {p pos apos:Pos} {e o:Expr} {es:List Expr} {ta:TE} {t:TA}
theorem JnD{pins:PL}{σ:St}{H:Hp}{s:A9}{Q:VK}{us:List A3}{vs:List V}(F:YU X.prog X.w X.K X.mg X.base CX k f fd ps sp)(hr:JdG k X.A)(hb:Jdj X.K fd ps ds)(hd:Y2 dvs ds)(hx:JeV CX X E)
  (I:Inv X pins σ H s) (r:Y2 vs us) (h:sp (vs++dvs) H Q E):AV (Af X.prog X.w) X.A (call (.ref f) us) (EP X pins σ Q) X.xe s:=by
 have r2:Y2 (vs++dvs) (us++ds):=r.append hd
 have hl:(us++ds).length=ps.length:=by rw[<- r2.length];exact F.len _ _ _ _ h
 refine Hg (D7 (F.run X.A X.stack s H ⟨us,[]⟩ (us++ds) (vs++dvs) Q E hr I.env0 (hb s us I.kIn hl) r2 h) fun r s' hq=>?_)
 cases r with
 | error e=>exact hx pins σ H s e s' I hq
 | ok fl=>
  cases fl with
  | ret u=>exact I.after hq
  | next=>exact BS hq
  | brk=>exact BS hq
  | cont=>exact BS hq
theorem Jkd(F:YU X.prog X.w X.K X.mg X.base CX k f fd ps sp)(hr:JdG k X.A)(hg:Gl X x)(hm:X.mg x=some (.ref f))(hk:Cv X.K (.ref f)=true)(hb:Jdj X.K fd ps ds)(hd:Y2 dvs ds)(hx:JeV CX X E)
  (ha:PA X (e::es) t) (hdb:(x==("__debug__" : Str))=false:=by decide) (he:AR (e::es) X.env=(false,eval e X.env)::AR es X.env:=by rfl) (hpl:(DF pos (AR es X.env)).any (·.1)=false:=by rfl) :
  PE X (.Call (.Name x p) (e::es) [] pos) (Jqw sp dvs E t):=by
 intro pins s σ H Q I h;refine D6 (JfR I hg hm ?_ hdb);refine EE (h₀:=X.base) I.ok.mod.kin hk (thn (ha pos pins s σ H _ I h) fun us s1 hzz=>?_) he hpl;obtain⟨vs,H1,I1,r,q⟩:=hzz;refine⟨I1.kIn,?_⟩;exact JnD F hr hb hd hx I1 r q
theorem YS{pl:Sem Bool}(he:PE X o ta)(c:Cls X.K C)(hm:Js1 X.K C m f)(F:YU X.prog X.w X.K X.mg X.base CX k f fd ps sp)(hr:JdG k X.A)(hb:Jdj X.K fd ps ds)(hd:Y2 dvs ds)(hx:JeV CX X E)(ha:PA X (e::es) t)
  (hst:AR (e::es) X.env=(false,eval e X.env)::AR es X.env:=by rfl) (hpl:(DF pos (AR es X.env)).any (·.1)=false:=by rfl)
  (ht:eval (.Call (.Attribute o m apos) (e::es) [] pos) X.env=(do
   let ov <- eval o X.env
   standAt apos.atName
   let (f,first) <- holding [ov] (Ky ov m pl)
   callWith pos f first (DF pos (AR (e::es) X.env)) (KH pos (Gr [] X.env))):=by rfl) :
  PE X (.Call (.Attribute o m apos) (e::es) [] pos) (Jsa C m sp dvs E ta t):=by
 intro pins s σ H Q I h;refine GJ (pl:=pl) (thn (he pins s σ H _ I h) fun u s1 hzz=>?_) ht;obtain⟨x,H1,I1,rx,a,dx,fs,ex,ea,l,q⟩:=hzz;subst ex;obtain rfl:u=A3.ref a:=rx;refine JgP I1 ea c hm l ?_;refine EE (first:=[.ref a]) (h₀:=X.base) I.ok.mod.kin hm.kp (thn (ha pos pins s1 σ H1 _ I1 q) fun us s2 hzz=>?_) hst hpl;obtain⟨vs,H2,I2,r,q2⟩:=hzz;refine⟨I2.kIn,?_⟩;exact JnD (us:=.ref a::us) (vs:=.ref a::vs) F hr hb hd hx I2 (.cons rfl r) q2
theorem Jfn{pl:Sem Bool}(he:PE X o ta)(c:Cls X.K C)(hm:Js1 X.K C m f)(F:YU X.prog X.w X.K X.mg X.base CX k f fd ps sp)(hr:JdG k X.A)(hb:Jdj X.K fd ps ds)(hd:Y2 dvs ds)(hx:JeV CX X E)
  (ht:eval (.Call (.Attribute o m apos) [] [] pos) X.env=(do
   let ov <- eval o X.env
   standAt apos.atName
   let (f,first) <- holding [ov] (Ky ov m pl)
   callWith pos f first (DF pos (AR [] X.env)) (KH pos (Gr [] X.env))):=by rfl) :
  PE X (.Call (.Attribute o m apos) [] [] pos) (Jsa C m sp dvs E ta Js3):=by
 intro pins s σ H Q I h;refine GJ (pl:=pl) (thn (he pins s σ H _ I h) fun u s1 hzz=>?_) ht;obtain⟨x,H1,I1,rx,a,dx,fs,ex,ea,l,q⟩:=hzz;subst ex;obtain rfl:u=A3.ref a:=rx;refine JgP I1 ea c hm l ?_;exact GU (first:=[.ref a]) I1.kIn hm.kp (JnD (us:=[.ref a]) (vs:=[.ref a]) F hr hb hd hx I1 (.cons rfl .nil) q)
structure Mk(K:WF)(C f:Addr):Prop where
 makes:Gq K C=true
 init:Bh K (.ref C) "__init__" = some (some (.ref f))
 fn:Eo K (.ref f)=true
 kp:Cv K (.ref C)=true
theorem JoT{pins:PL}{σ:St}{H:Hp}{s:A9}{Q:VK}{us:List A3}{vs:List V}(M:Mk X.K C f)(F:YU X.prog X.w X.K X.mg X.base CX k f fd ps sp)(hr:JdG (k+1) X.A)(hb:Jdj X.K fd ps ds)(hd:Y2 dvs ds)
  (hx:JeV CX X E) (I:Inv X pins σ H s) (r:Y2 vs us)
  (h:∀x dx,H x=none->H dx=none->dx≠x->sp (.ref x::(vs++dvs)) (upd (upd H dx (.own x)) x (.ins C dx [])) (fun v H2=>v=.non/\Q (.ref x) H2) E) :
  AV (Af X.prog X.w) X.A (call (.ref C) us) (EP X pins σ Q) X.xe s:=by
 have hq:=h (s.heap.objs.size+1) s.heap.objs.size (I.hok.fresh (D4 _)) (I.hok.fresh (A6 _)) (Ar (BU _));have I2:=Inv.made (C:=C) I;have r2:Y2 (V.ref (s.heap.objs.size+1)::(vs++dvs)) (A3.ref (s.heap.objs.size+1)::(us++ds)):=.cons rfl (r.append hd)
 have hl:(A3.ref (s.heap.objs.size+1)::us++ds).length=ps.length:=by
  have e:=r2.length;rw[F.len _ _ _ _ hq]at e;exact e.symm
 refine Hg (JpF (f:=f) I.kIn M.makes M.init (beq_iff_eq.mp M.fn) (D7 (F.run _ X.stack _ _ ⟨A3.ref (s.heap.objs.size+1)::us,[]⟩ (A3.ref (s.heap.objs.size+1)::(us++ds)) _ _ E (hr.make C us [])
  (I2.env0.make C us []) (hb _ (A3.ref (s.heap.objs.size+1)::us) I2.kIn hl) r2 hq) fun r s' hq'=>?_))
 cases r with
 | error e=>exact hx pins σ _ _ e s' I2 hq'
 | ok fl=>
  cases fl with
  | ret u=>
   obtain⟨v,H',I3,rv,ev,q3⟩:=I2.after hq';subst ev;exact⟨rv,⟨V.ref (s.heap.objs.size+1),H',I3,rfl,q3⟩⟩
  | next=>exact BS hq'
  | brk=>exact BS hq'
  | cont=>exact BS hq'
theorem Jk8(M:Mk X.K C f)(F:YU X.prog X.w X.K X.mg X.base CX k f fd ps sp)(hr:JdG (k+1) X.A)(hg:Gl X x)(hm:X.mg x=some (.ref C))(hb:Jdj X.K fd ps ds)(hd:Y2 dvs ds)(hx:JeV CX X E)
  (hdb:(x==("__debug__" : Str))=false:=by decide):PE X (.Call (.Name x p) [] [] pos) (JtI C sp dvs E Js3):=by
 intro pins s σ H Q I h;refine D6 (JfR I hg hm ?_ hdb);exact GU I.kIn M.kp (JoT (us:=[]) M F hr hb hd hx I .nil h)
end
structure Ju(N P:List Str)(sc:DV):Prop where
 kind:sc.kind=.function
 co:sc.isCoroutine=false
 gen:sc.isGenerator=false
 nd:N.Nodup
 pre:N.take P.length=P
 par:∀x∈P,sc.names.lookup x=some .local\/sc.names.lookup x=some .cell
 nofree:∀y∈sc.names,y.2≠.free
theorem JiX{kindOf:Str->Option Bx}{x:Str}:∀{binds:List (Str×A3)} {m:MO},(∀v,(x,v)∉binds)->KF kindOf binds m x=m x
 | [],_,_=>rfl
 | (n,v)::r,m,h=>by
  unfold KF;rw[JiX fun w hw=>h w (AY _ hw)];split
  .have:x≠n:=by rintro rfl;exact h v Az
   simp[this]
  .rfl
theorem Jjc{kindOf:Str->Option Bx}{x:Str}:∀{binds:List (Str×A3)} {m:MO},(∀v,(x,v)∉binds)->KG kindOf binds m x=m x
 | [],_,_=>rfl
 | (n,v)::r,m,h=>by
  unfold KG;rw[Jjc fun w hw=>h w (AY _ hw)];split
  .rfl
  .have:x≠n:=by rintro rfl;exact h v Az
   simp[this]
theorem Jh9{kindOf:Str->Option Bx}{x:Str}{v:A3}:∀{P:List Str}{vs:List A3}{i:Nat}{m:MO},P.Nodup->P[i]?=some x->vs[i]?=some v->kindOf x=some .local->
  KF kindOf (P.zip vs) m x=some v
 | [],_,_,_,_,h,_,_=>by simp at h
 | _::_,[],_,_,_,_,h,_=>by simp at h
 | p::P,w::vs,0,m,nd,h1,h2,hk=>by
  simp at h1 h2;subst h1;subst h2;show KF kindOf ((p,w)::P.zip vs) m p=_;unfold KF;rw[JiX fun v hv=>(AL.mp nd).1 (Gk hv).1,if_pos hk];simp
 | p::P,w::vs,i+1,m,nd,h1,h2,hk=>by
  show KF kindOf ((p,w)::P.zip vs) m x=_;unfold KF;exact Jh9 (i:=i) (AL.mp nd).2 (by simpa using h1) (by simpa using h2) hk
theorem Jiz{kindOf:Str->Option Bx}{x:Str}{v:A3}:∀{P:List Str}{vs:List A3}{i:Nat}{m:MO},P.Nodup->P[i]?=some x->vs[i]?=some v->kindOf x≠some .local->
  KG kindOf (P.zip vs) m x=some v
 | [],_,_,_,_,h,_,_=>by simp at h
 | _::_,[],_,_,_,_,h,_=>by simp at h
 | p::P,w::vs,0,m,nd,h1,h2,hk=>by
  simp at h1 h2;subst h1;subst h2;show KG kindOf ((p,w)::P.zip vs) m p=_;unfold KG;rw[Jjc fun v hv=>(AL.mp nd).1 (Gk hv).1,if_neg hk];simp
 | p::P,w::vs,i+1,m,nd,h1,h2,hk=>by
  show KG kindOf ((p,w)::P.zip vs) m x=_;unfold KG;exact Jiz (i:=i) (AL.mp nd).2 (by simpa using h1) (by simpa using h2) hk
def JhZ(N:List Str)(vs:List V):St:=vs.map some++KU (N.length-vs.length) none
noncomputable def Jg1(CX:CXT)(P:Ab)(w:At)(K:WF)(mg:MO)(base:Heap)(N:List Str)(qual:Str)(scope:DV)(f:Addr)(cd:A3)(A:AH)(outer:List Env)(s:A9)(H:Hp)(E:XK):Cx where
 prog:=P
 w:=w
 K:=K
 mg:=mg
 base:=base
 A:=A.deeper (Cm qual scope s.heap.objs.size f cd)
 N:=N
 s₀:=s
 H₀:=H
 env:=Cm qual scope s.heap.objs.size f cd
 outer:=outer
 stack:=Cm qual scope s.heap.objs.size f cd::outer
 ex:=[]
 calm:=true
 fn:=fun _=>true
 pn:=[]
 xe:=fun e s'=>AV (Af P w) (A.deeper (Cm qual scope s.heap.objs.size f cd)) (leaving (Cm qual scope s.heap.objs.size f cd) e) (fun _ s''=>CX outer H s E e s'') (fun e' s''=>CX outer H s E e' s'') s'
theorem Jks{sc:DV}{n:Nat}{x:Str}(h:sc.names.lookup x=some .cell):∃c,(MW n sc.names []).lookup x=some c:=by
 have q:=FF sc.names n [] (.inl h);exact BH.mp q
theorem Jm0{CX:CXT}{P:Ab}{w:At}{K:WF}{mg:MO}{base:Heap}{N ps:List Str}{qual:Str}{scope:DV}{f:Addr}{cd:A3}{A:AH}{outer:List Env}{s s1:A9}{H:Hp}{E:XK}{us:List A3}{vs:List V}
  (S:Ju N ps scope) (hd:A.handled=none) (e0:JqI P w K mg base A outer s H) (hl:vs.length=ps.length) (r:Y2 vs us)
  (x:InCallC s s.heap.objs.size (KF (Cm qual scope s.heap.objs.size f cd).kindOf (ps.zip us) fun _=>none) (MW (s.heap.objs.size+1) scope.names []) (KG (Cm qual scope s.heap.objs.size f cd).kindOf (ps.zip us) fun _=>none) s1) :
  Inv (Jg1 CX P w K mg base N qual scope f cd A outer s H E) [] (JhZ N vs) H s1:=by
 have hpl:ps.length<=N.length:=by have:=congrArg Bn S.pre;rw[Ao]at this;omega
 obtain⟨h1,tk,rfl,hk⟩:=x.done;have noA:∀b:Addr,b∉(Jg1 CX P w K mg base N qual scope f cd A outer s H E).ex:=fun b z=>absurd (show b∈([]:List Addr) from z) (by simp)
 refine⟨⟨e0.mod,S.kind,rfl,rfl,A6 _,fun y z c h1 h2=>?_,fun y hy=>?_,fun y c _ h=>?_,fun _=>hd,AH.frames_deeper e0.frames,.inr ⟨rfl,rfl⟩,fun b z=>absurd z (noA b),e0.bs,e0.bsz,fun b _ _=>noA b,fun b z=>absurd z (noA b),e0.funs,e0.frf⟩,
  rfl,e0.bare,Un.kept hk,⟨_,x.toInCall.ns,fun i y v h1 h2 h3=>?_⟩,fun y c h=>⟨_,x.cell y c h⟩,e0.hok.fresh (A6 _),fun y c h=>?_,fun p hp=>absurd (show p∈([]:PL) from hp) (by simp),e0.hok.kept hk,?_⟩
 .exact name_of_addr x.apart (Bl h1) (Bl h2)
 .have hy:scope.names.lookup y=some .cell\/scope.names.lookup y=some .free:=hy
  rcases hy with hy|hy
  .exact Jks hy
  .exact absurd rfl (S.nofree _ (Bl hy))
 .exact Cf (x.above y c (Bl h))
 .have hi:i<vs.length:=by
   unfold JhZ at h2
   by_cases hi:i<vs.length
   .exact hi
   .rw[BJ (by simpa using hi)]at h2;rw[List.getElem?_replicate]at h2;split at h2<;>cases h2
  have ha:vs[i]?=some v:=by
   unfold JhZ at h2;rw[AU (by simpa using hi),Ax]at h2
   cases e:vs[i]? with
   | none=>rw[e]at h2;cases h2
   | some a=>rw[e]at h2;cases h2;rfl
  obtain⟨u,hu,rv⟩:=r.get ha
  have hp:ps[i]?=some y:=by
   rw[<- S.pre,FZ (by omega)];exact h1
  have ndP:ps.Nodup:=by rw[<- S.pre];exact S.nd.sublist (Ex _ _)
  refine⟨u,rv,?_⟩
  rcases S.par y (Au hp)with k|k
  .exact .inl ⟨k,Jh9 ndP hp hu k⟩
  .obtain⟨c,e⟩:=Jks (n:=s.heap.objs.size+1) k;refine .inr ⟨.inl k,c,e,?_⟩;have q:=x.cell y c e;rw[Jiz ndP hp hu (by show scope.names.lookup y≠_;rw[k];decide)]at q;exact q
 .exact e0.hok.fresh (Cf (x.above y c (Bl h)))
 .unfold JhZ;show _=N.length;rw[AQ,A2,List.length_replicate];omega
theorem JsX{CX:CXT}{P:Ab}{w:At}{K:WF}{mg:MO}{base:Heap}{k:Nat}{f:Addr}{name qual:Str}{params:Arguments}{body:List Stmt}{scope:DV}{dV kV doc pm cdv ct oc:A3}{an od:Option Addr}
  {osl:Array (Option A3)} {N ps:List Str} {sp:Sp} (lk:K.lookup f=some ⟨oc,od,.func (Dl name qual params body scope dV kV doc pm an cdv ct),osl⟩) (hcd:GB K cdv qual=true) (S:Ju N ps scope)
  (len:∀vs H Q E,sp vs H Q E->vs.length=ps.length)
  (hbody:∀(A:AH)(outer:List Env)(s:A9)(H:Hp)(vs:List V)(Q:VK)(E:XK),JdG k (A.deeper (Cm qual scope s.heap.objs.size f cdv))->sp vs H Q E->
   ∃t,PSs (Jg1 CX P w K mg base N qual scope f cdv A outer s H E) body t/\t { nx:=fun _ H'=>Q .non H',rt:=Q } (JhZ N vs) H) :
  YU P w K mg base CX (k+1) f (Dl name qual params body scope dV kV doc pm an cdv ct) ps sp:=by
 refine⟨len,fun A outer s H args us vs Q E hr e0 hb r hsp=>?_⟩;have hl:=len _ _ _ _ hsp;have KX:K.In s.heap:=e0.mod.kin.keeps fun b o e=>(e0.bs b o e).1;have lim:s.heap.NoLimit:=e0.mod.nolimit.keeps fun b o e=>(e0.bs b o e).1
 have hkind:∀y∈ps.zip us,scope.names.lookup y.1=some .local\/(scope.names.lookup y.1=some .cell/\((MW (s.heap.objs.size+1) scope.names []).lookup y.1).isSome=true):=fun⟨n,v⟩ hy=>by
  rcases S.par n (Gk hy).1 with q|q
  .exact .inl q
  .exact .inr ⟨q,FF _ _ _ (.inl q)⟩
 refine codeAny_call_function hr.depth (KX _ _ lk) rfl S.co S.gen rfl (PySem.W.codeRec_of KX hcd) (hb _ _ _ _ ?_);refine wpAny_newFunctionEnv_cells S.kind hkind fun env he s1 x=>?_;subst he;refine⟨lim.keeps x.toInCall.keep,codeAny_func ?_⟩;obtain⟨t,ht,hq⟩:=hbody A outer s H vs Q E (hr.deeper _) hsp;have I:Inv (Jg1 CX P w K mg base N qual scope f cdv A outer s H E) [] (JhZ N vs) H s1:=Jm0 S hr.hd e0 hl r x;refine Db (ht [] s1 (JhZ N vs) H _ I hq) (fun fl s' hs=>?_) fun e s' hs=>hs
 have fin:∀{σ':St}{H':Hp}{v:V}{u:A3},Inv (Jg1 CX P w K mg base N qual scope f cdv A outer s H E) [] σ' H' s'->Jaa v u->Q v H'->CE outer P w H s Q u s':=
  fun{σ' H' v u} J rv q=>⟨v,H',J.os,J.bare,J.base,J.hok,rv,q⟩
 cases fl with
 | ret u=>
  obtain⟨v,σ',H',J,rv,q⟩:=hs;exact fin J rv q
 | next=>
  obtain⟨σ',H',J,q⟩:=hs;exact fin (v:=V.non) (u:=A3.none) J rfl q
 | brk=>
  obtain⟨_,_,_,q⟩:=hs;exact BS q
 | cont=>
  obtain⟨_,_,_,q⟩:=hs;exact BS q
section
variable {X:Cx} {x:Str} {p pos:Pos} {e:Expr} {es:List Expr} {t:TA} {id T:String} {r:List V→Hp→VK→Prop}
def tCB(r:List V->Hp->VK->Prop)(t:TA):TE:=fun σ H Q=>t σ H fun vs H1=>r vs H1 Q
theorem Jn(hc:Jbg X (.builtin id) r)(hg:Gl X x)(hm:X.mg x=none)(hv:Bw x=some (.builtin id))(ha:PA X (e::es) t)(hn:x≠"__name__":=by decide)(hdb:(x==("__debug__" : Str))=false:=by decide)
  (he:AR (e::es) X.env=(false,eval e X.env)::AR es X.env:=by rfl) (hpl:(DF pos (AR es X.env)).any (·.1)=false:=by rfl):PE X (.Call (.Name x p) (e::es) [] pos) (tCB r t):=by
 intro pins s σ H Q I h;refine D6 (JgL I hg hm hv ?_ hn hdb);refine PyProof.Rows.callWith_builtin1 (thn (ha pos pins s σ H _ I h) fun us s1 hzz=>?_) he hpl;obtain⟨vs,H1,I1,r1,q1⟩:=hzz;exact hc pins s1 σ H1 vs us Q I1 r1 q1
theorem YN(hc:Jbg X (.type T) r)(hg:Gl X x)(hm:X.mg x=none)(hv:Bw x=some (.type T))(ha:PA X (e::es) t)(hn:x≠"__name__":=by decide)(hdb:(x==("__debug__" : Str))=false:=by decide)
  (he:AR (e::es) X.env=(false,eval e X.env)::AR es X.env:=by rfl) (hpl:(DF pos (AR es X.env)).any (·.1)=false:=by rfl):PE X (.Call (.Name x p) (e::es) [] pos) (tCB r t):=by
 intro pins s σ H Q I h;refine D6 (JgL I hg hm hv ?_ hn hdb);refine Cd (thn (ha pos pins s σ H _ I h) fun us s1 hzz=>?_) he hpl;obtain⟨vs,H1,I1,r1,q1⟩:=hzz;exact hc pins s1 σ H1 vs us Q I1 r1 q1
end
section
variable {κ:Type} [DecidableEq κ]
def Jak(kvs:List (κ×V))(k:κ):Option V:=(kvs.find? fun kv=>decide (kv.1=k)).map (·.2)
noncomputable def Jag(kvs:List (κ×V))(k:κ)(v:V):List (κ×V):=
 if(kvs.any fun kv=>decide (kv.1=k))=true then kvs.map (fun kv=>if kv.1=k then(kv.1,v)else kv)else kvs++[(k,v)]
theorem Jo1{k:κ}:Jak ([]:List (κ×V)) k=none:=rfl
theorem YW{p:κ×V}{r:List (κ×V)}{k:κ}(e:p.1=k):Jak (p::r) k=some p.2:=by simp[Jak,BD,e]
theorem YV{p:κ×V}{r:List (κ×V)}{k:κ}(e:¬p.1=k):Jak (p::r) k=Jak r k:=by simp[Jak,BD,e]
theorem Jbm(k:κ):∀kvs:List (κ×V),(kvs.any fun kv=>decide (kv.1=k))=(Jak kvs k).isSome
 | []=>rfl
 | p::r=>by
  rw[BM]
  by_cases e:p.1=k
  .simp only[YW e,decide_eq_true e,Bool.true_or,Option.isSome_some]
  .rw[YV e,decide_eq_false e,HK];exact Jbm k r
theorem JkD(k j:κ)(y:V):∀kvs:List (κ×V),Jak (kvs.map fun kv=>if kv.1=k then(kv.1,y)else kv) j=(Jak kvs j).map fun x=>if j=k then y else x
 | []=>rfl
 | p::r=>by
  have ih:=JkD k j y r;rw[Al]
  by_cases h:p.1=k
  .rw[if_pos h]
   by_cases e:p.1=j
   .rw[YW (p:=(p.1,y)) e,YW e,Ee,if_pos (e.symm.trans h)]
   .rw[YV (p:=(p.1,y)) e,YV e,ih]
  .rw[if_neg h]
   by_cases e:p.1=j
   .rw[YW (p:=p) e,YW e,Ee,if_neg (fun z=>h (e.trans z))]
   .rw[YV (p:=p) e,YV e,ih]
theorem Jit(k j:κ)(y:V):∀kvs:List (κ×V),Jak kvs k=none->Jak (kvs++[(k,y)]) j=if j=k then some y else Jak kvs j
 | [],_=>by
  by_cases e:k=j
  .rw[if_pos e.symm];exact YW (p:=(k,y)) e
  .rw[if_neg (fun z=>e z.symm)];exact YV (p:=(k,y)) e
 | p::r,hn=>by
  rw[Fp]
  have hk:¬p.1=k:=fun z=>by rw[YW z]at hn;cases hn
  rw[YV hk]at hn;have ih:=Jit k j y r hn
  by_cases e:p.1=j
  .rw[YW e,YW e,if_neg (fun z=>hk (e.trans z))]
  .rw[YV e,YV e,ih]
theorem JoL(kvs:List (κ×V))(k j:κ)(y:V):Jak (Jag kvs k y) j=if j=k then some y else Jak kvs j:=by
 unfold Jag
 by_cases a:(kvs.any fun kv=>decide (kv.1=k))=true
 .rw[if_pos a,JkD];rw[Jbm]at a
  by_cases e:j=k
  .obtain⟨x,hx⟩:=BH.mp a;rw[if_pos e,e,hx,Ee,if_pos rfl]
  .rw[if_neg e]
   cases Jak kvs j with
   | none=>rfl
   | some x=>rw[Ee,if_neg e]
 .rw[if_neg a];refine Jit k j y kvs ?_;rw[Jbm]at a
  cases q:Jak kvs k with
  | none=>rfl
  | some x=>rw[q]at a;exact(a rfl).elim
theorem JbD(kvs:List (κ×V))(k:κ)(v:V):(Jag kvs k v).length<=kvs.length+1:=by
 unfold Jag;split
 .rw[A2];omega
 .rw[AQ,AN,CY];omega
theorem JoS{kvs:List (κ×V)}{k:κ}(v:V)(h:Jak kvs k=none):Jag kvs k v=kvs++[(k,v)]:=by
 unfold Jag;rw[Jbm,h];exact if_neg (by decide)
theorem Jh8.isSome_eq{o:Option V}{u:Option A3}(r:Jh8 o u):o.isSome=u.isSome:=by
 cases o with
 | none=>cases u with
  | none=>rfl
  | some _=>exact(show False from r).elim
 | some _=>cases u with
  | none=>exact(show False from r).elim
  | some _=>rfl
theorem Jh8.getD{o:Option V}{u:Option A3}{d:V}{d':A3}(r:Jh8 o u)(rd:Jaa d d'):Jaa (o.getD d) (u.getD d'):=by
 cases o with
 | none=>cases u with
  | none=>exact rd
  | some _=>exact(show False from r).elim
 | some _=>cases u with
  | none=>exact(show False from r).elim
  | some _=>exact r
theorem KV.val{kvs:List (κ×V)}{vs:List (κ×A3)}(r:KV kvs vs)(k:κ):Jh8 (Jak kvs k) (GL vs k):=by
 unfold KV at r
 induction r with
 | nil=>exact True.intro
 | @cons p q ps qs h t ih=>
  obtain⟨h1,h2⟩:=h
  by_cases e:p.1=k
  .have e':q.1=k:=h1.symm.trans e
   have b:GL (q::qs) k=some q.2:=by simp[GL,BD,e']
   rw[YW e,b];exact h2
  .have e':¬q.1=k:=fun z=>e (h1.trans z)
   have b:GL (q::qs) k=GL qs k:=by simp[GL,BD,e']
   rw[YV e,b];exact ih
theorem KV.any{kvs:List (κ×V)}{vs:List (κ×A3)}(r:KV kvs vs)(k:κ):(kvs.any fun kv=>decide (kv.1=k))=vs.any fun kv=>decide (kv.1=k):=by
 unfold KV at r
 induction r with
 | nil=>rfl
 | cons h t ih=>rw[BM,BM,ih,h.1]
theorem KV.repl{kvs:List (κ×V)}{vs:List (κ×A3)}(r:KV kvs vs)(k:κ){y:V}{u:A3}(ry:Jaa y u) :
  KV (kvs.map fun kv=>if kv.1=k then(kv.1,y)else kv) (vs.map fun kv=>if kv.1=k then(kv.1,u)else kv):=by
 unfold KV at r ⊢
 induction r with
 | nil=>exact .nil
 | @cons p q ps qs h t ih=>
  rw[Al,Al];refine .cons ?_ ih;obtain⟨h1,h2⟩:=h
  by_cases e:p.1=k
  .rw[if_pos e,if_pos (h1.symm.trans e)];exact⟨h1,ry⟩
  .rw[if_neg e,if_neg (fun z=>e (h1.trans z))];exact⟨h1,h2⟩
theorem KV.put{kvs:List (κ×V)}{vs:List (κ×A3)}(r:KV kvs vs)(k:κ){y:V}{u:A3}(ry:Jaa y u):KV (Jag kvs k y) (stored vs k u):=by
 unfold Jag stored;rw[r.any k]
 by_cases e:(vs.any fun kv=>decide (kv.1=k))=true
 .rw[if_pos e,if_pos e];exact r.repl k ry
 .rw[if_neg e,if_neg e];exact BV.snoc r ⟨rfl,ry⟩
theorem KV.length{kvs:List (κ×V)}{vs:List (κ×A3)}(r:KV kvs vs):kvs.length=vs.length:=BV.length r
end
theorem Jjw{P:Ab}{w:At}{k:Key}{u:A3}(r:Jaa (kV k) u):(J9 P w).is k u=true:=by
 cases k with
 | inl i=>obtain⟨t,e⟩:=(show∃t,u=A3.int i t from r);subst e;exact Jka P w i t
 | inr x=>obtain⟨t,e⟩:=(show∃t,u=A3.str x t from r);subst e;exact Jke P w x t
theorem JiB{P:Ab}{w:At}:∀{ks:List Key}{us:List A3},Y2 (ks.map kV) us->ItemsAre (J9 P w) ks us
 | [],_,r=>by rw[Dn]at r;cases r;exact .nil
 | k::ks,_,r=>by
  rw[Al]at r
  cases r with
  | cons h t=>exact .cons (Jjw h) (JiB t)
abbrev KT(H:Hp):List (List Key×V)->List (List Key×Addr×A3)->Prop:=BV fun p q=>p.1=q.1/\H q.2.1=some (.tup (p.1.map kV))/\Jaa p.2 q.2.2
theorem KT.val{H:Hp}{kvs:List (List Key×V)}{xs:List (List Key×Addr×A3)}(r:KT H kvs xs)(k:List Key):Jh8 (Jak kvs k) ((Kh xs k).map (·.2)):=by
 induction r with
 | nil=>exact True.intro
 | @cons p q ps qs h t ih=>
  obtain⟨h1,_,h2⟩:=h
  by_cases e:p.1=k
  .have e':q.1=k:=h1.symm.trans e
   have b:Kh (q::qs) k=some q.2:=by simp[Kh,BD,e']
   rw[YW e,b];exact h2
  .have e':¬q.1=k:=fun z=>e (h1.trans z)
   have b:Kh (q::qs) k=Kh qs k:=by simp[Kh,BD,e']
   rw[YV e,b];exact ih
theorem KT.repl{H:Hp}{kvs:List (List Key×V)}{xs:List (List Key×Addr×A3)}(r:KT H kvs xs)(k:List Key){y:V}{u:A3}(ry:Jaa y u) :
  KT H (kvs.map fun kv=>if kv.1=k then(kv.1,y)else kv) (xs.map (putAt k u)):=by
 induction r with
 | nil=>exact .nil
 | @cons p q ps qs h t ih=>
  rw[Al,Al];refine .cons ?_ ih;obtain⟨h1,h2,h3⟩:=h;unfold putAt
  by_cases e:p.1=k
  .rw[if_pos e,if_pos (h1.symm.trans e)];exact⟨h1,h2,ry⟩
  .rw[if_neg e,if_neg (fun z=>e (h1.trans z))];exact⟨h1,h2,h3⟩
theorem KT.put{H:Hp}{kvs:List (List Key×V)}{xs:List (List Key×Addr×A3)}(r:KT H kvs xs)(k:List Key){b:Addr}{y:V}{u:A3}(hb:H b=some (.tup (k.map kV)))(ry:Jaa y u) :
  KT H (Jag kvs k y) (storedH xs k b u):=by
 have e:(kvs.any fun kv=>decide (kv.1=k))=(Kh xs k).isSome:=by
  rw[Jbm,(r.val k).isSome_eq,K0]
 unfold Jag storedH;rw[e]
 by_cases q:(Kh xs k).isSome=true
 .rw[if_pos q,if_pos q];exact r.repl k ry
 .rw[if_neg q,if_neg q];exact BV.snoc r ⟨rfl,hb,ry⟩
theorem KT.keeps{H H':Hp}{kvs:List (List Key×V)}{xs:List (List Key×Addr×A3)}(r:KT H kvs xs)(ht:∀b ys,H b=some (.tup ys)->H' b=some (.tup ys)):KT H' kvs xs:=
 Paired.mapP r fun _ _ z=>⟨z.1,ht _ _ z.2.1,z.2.2⟩
section
variable {P:Ab} {w:At} {H:Hp} {h:Heap} {a:Addr}
theorem Jso{u:HO}(ok:HOk P w H h)(e:Rd H a u):J4 P w H h a u:=e.ok ok
theorem Jii{kvs:List (Key×V)}(ok:HOk P w H h)(e:Rd H a (.dK kvs)):kvs.length<=AK/\(a==sysModules)=false/\∃vs,KV kvs vs/\h.DictOf (J9 P w) a vs:=
 show J4 P w H h a (.dK kvs) from Jso ok e
theorem JiP{kvs:List (Key×V)}(ok:HOk P w H h)(e:H a=some (.dK kvs)):kvs.length<=AK/\(a==sysModules)=false/\∃vs,KV kvs vs/\h.DictOf (J9 P w) a vs:=Jii ok (.inl e)
theorem Jjm{ks:List Key}(ok:HOk P w H h)(e:H a=some (.tup (ks.map kV))):(Fa (J9 P w)).is h ks a:=by
 obtain⟨_,its,r,o,h1,h2,n,h3⟩:=(show J4 P w H h a (.tup (ks.map kV)) from ok a _ e);exact⟨o,its.toArray,n,h1,h2,h3,by simpa using JiB r⟩
theorem Jlt{kvs:List (List Key×V)}(ok:HOk P w H h)(e:Rd H a (.dT kvs)):kvs.length<=AK/\(a==sysModules)=false/\
  ∃xs,KT H kvs xs/\h.DictOfH (Fa (J9 P w)) a xs:=by
 obtain⟨z,y,xs,r,o,es,ep,h1,h2,h3,h4,h5⟩:=(show J4 P w H h a (.dT kvs) from Jso ok e);refine⟨z,y,xs,r,o,es,ep,h1,h2,h3,h4,fun x hx=>?_,h5⟩
 have all:∀{l:List (List Key×V)} {m:List (List Key×Addr×A3)},KT H l m->∀x∈m,(Fa (J9 P w)).is h x.1 x.2.1:=by
  intro l m q
  induction q with
  | nil=>intro x hx;exact nomatch hx
  | @cons p q ps qs hq t ih=>
   intro x hx
   rcases Aq.mp hx with e|hx
   .subst e;exact Jjm ok (by rw[<- hq.1];exact hq.2.1)
   .exact ih x hx
 exact all r x hx
theorem JtE{kvs:List (List Key×V)}(ok:HOk P w H h)(e:H a=some (.dT kvs)):kvs.length<=AK/\(a==sysModules)=false/\
  ∃xs,KT H kvs xs/\h.DictOfH (Fa (J9 P w)) a xs:=Jlt ok (.inl e)
end
def JcC(H:Hp)(a:Addr)(y:V)(r:Option V):Prop:=
 (∃kvs k,Rd H a (.dK kvs)/\y=kV k/\r=Jak kvs k)\/∃kvs k b,Rd H a (.dT kvs)/\y=.ref b/\H b=some (.tup (k.map kV))/\r=Jak kvs k
def Jgy(H:Hp)(a:Addr)(y v:V)(H':Hp):Prop:=
 (∃kvs k,H a=some (.dK kvs)/\y=kV k/\kvs.length<AK/\H'=upd H a (.dK (Jag kvs k v)))\/
 ∃kvs k b,H a=some (.dT kvs)/\y=.ref b/\H b=some (.tup (k.map kV))/\kvs.length<AK/\H'=upd H a (.dT (Jag kvs k v))
theorem JcC.k{H:Hp}{a:Addr}{kvs:List (Key×V)}{k:Key}(e:H a=some (.dK kvs)):JcC H a (kV k) (Jak kvs k):=.inl ⟨kvs,k,.inl e,rfl,rfl⟩
theorem JcC.t{H:Hp}{a b:Addr}{kvs:List (List Key×V)}{k:List Key}(e:H a=some (.dT kvs))(eb:H b=some (.tup (k.map kV))):JcC H a (.ref b) (Jak kvs k):=.inr ⟨kvs,k,b,.inl e,rfl,eb,rfl⟩
theorem Jgy.k{H:Hp}{a:Addr}{kvs:List (Key×V)}{k:Key}{v:V}(e:H a=some (.dK kvs))(hl:kvs.length<AK):Jgy H a (kV k) v (upd H a (.dK (Jag kvs k v))):=.inl ⟨kvs,k,e,rfl,hl,rfl⟩
theorem Jgy.t{H:Hp}{a b:Addr}{kvs:List (List Key×V)}{k:List Key}{v:V}(e:H a=some (.dT kvs))(eb:H b=some (.tup (k.map kV)))(hl:kvs.length<AK) :
  Jgy H a (.ref b) v (upd H a (.dT (Jag kvs k v))):=.inr ⟨kvs,k,b,e,rfl,eb,hl,rfl⟩
section
variable {X:Cx} {pins:PL} {σ:St} {H:Hp} {s:A9} {a:Addr} {y v:V} {u r:A3} {o:Option V} {A:AH} {E:A3→A9→Prop}
theorem Inv.big(I:Inv X pins σ H s):sysModules<s.heap.objs.size:=by
 have h:AB<s.heap.objs.size:=(I.mod.glob.keeps I.bk).lt;exact K3 (by decide) h
theorem Jmm{Q:VS}(hu:A.units+1<DR)(I:Inv X pins σ H s)(g:JcC H a y (some v))(ry:Jaa y u)(h:∀w' s',Inv X pins σ H s'->Jaa v w'->Q w' s') :
  AV (Af X.prog X.w) A (FD (.ref a) u) Q E s:=by
 rcases g with⟨kvs,k,e,ey,l⟩|⟨kvs,k,b,e,ey,eb,l⟩
 .subst ey;obtain⟨z,hd,vs,rel,dd⟩:=Jii I.hok e;obtain⟨w',hw,rw'⟩:=Jh8.some_of (v:=v) (o:=GL vs k) (by rw[l];exact rel.val k);exact wpAny_getItem_of (Jjw ry) dd.mapOf hw (h w' _ (I.tok _) rw')
 .subst ey;cases(show u=A3.ref b from ry);obtain⟨z,hd,xs,rel,dd⟩:=Jlt I.hok e;obtain⟨w',hw,rw'⟩:=Jh8.some_of (v:=v) (o:=(Kh xs k).map (·.2)) (by rw[l];exact rel.val k);obtain⟨p,hp,hp2⟩:=Ak.mp hw;refine wpAny_getItem_heap (DE hu) (Jjm I.hok eb) dd hp ?_;rw[hp2];exact h w' _ (I.tok _) rw'
theorem Juu{Q:VS}(hu:A.units+1<DR)(I:Inv X pins σ H s)(g:JcC H a y o)(ry:Jaa y u)(h:∀s',Inv X pins σ H s'->Q (.bool o.isSome) s') :
  AV (Af X.prog X.w) A (Bs .In u (.ref a)) Q E s:=by
 rcases g with⟨kvs,k,e,ey,l⟩|⟨kvs,k,b,e,ey,eb,l⟩
 .subst ey;obtain⟨z,hd,vs,rel,dd⟩:=Jii I.hok e;refine wpAny_in_of (Jjw ry) hd dd.mapOf ?_;rw[<- (rel.val k).isSome_eq,<- l];exact h _ (I.tok _)
 .subst ey;cases(show u=A3.ref b from ry);obtain⟨z,hd,xs,rel,dd⟩:=Jlt I.hok e;refine wpAny_in_heap (DE hu) (Jjm I.hok eb) hd dd ?_;have q:=(rel.val k).isSome_eq;rw[K0]at q;rw[<- q,<- l];exact h _ (I.tok _)
theorem Jhe{h':Heap}{t':Nat}{ob:HO}(I:Inv X pins σ H s)(mu:Mut (H a))(hs:Br a s.heap h')(he:∃q,h'.get? a=some q)(new:J4 X.prog X.w (upd H a ob) h' a ob) :
  Inv X pins σ (upd H a ob) { s with heap:=h',toks:=t' }:=
 I.write (x:=a) (e:=a) mu (.inl rfl) (fun b q hb z=>(hs.2 b hb).trans z) he new
theorem Jmi{P:Ab}{w:At}{H':Hp}{h':Heap}{kvs:List (Key×V)}{vs:List (Key×A3)}(z:kvs.length<=AK)(hd:(a==sysModules)=false)(rel:KV kvs vs)(dd:h'.DictOf (J9 P w) a vs) :
  J4 P w H' h' a (.dK kvs):=⟨z,hd,vs,rel,dd⟩
theorem Jl7{H':Hp}{Q:Unit->A9->Prop}(hu:A.units+1<DR)(I:Inv X pins σ H s)(g:Jgy H a y v H')(ry:Jaa y u)(rv:Jaa v r)(h:∀s',Inv X pins σ H' s'->Q () s') :
  AV (Af X.prog X.w) A (setItem (.ref a) u r) Q E s:=by
 rcases g with⟨kvs,k,e,ey,l,eH⟩|⟨kvs,k,b,e,ey,eb,l,eH⟩
 .subst ey eH;obtain⟨z,hd,vs,rel,dd⟩:=JiP I.hok e
  have hz:vs.length<=AK:=by rw[<- rel.length];exact z
  have hl:(Jag kvs k v).length<=AK:=by have:=JbD kvs k v;omega
  refine wpAny_setItem_pairs (hsz:=hz) (Jjw ry) dd fun h' dd' hs=>h _ ?_
  have he:∃q,h'.get? a=some q:=let ⟨q,_,_,hq,_⟩:=dd';⟨q,hq⟩
  exact Jhe I (by rw[e];exact True.intro) hs he (Jmi hl hd (rel.put k rv) dd')
 .subst ey eH;cases(show u=A3.ref b from ry);obtain⟨z,hd,xs,rel,dd⟩:=JtE I.hok e
  have hz:xs.length<=AK:=by rw[<- BV.length rel];exact z
  have hl:(Jag kvs k v).length<=AK:=by have:=JbD kvs k v;omega
  refine wpAny_setItem_heap (hsz:=hz) (DE hu) (Jjm I.hok eb) dd fun h' dd' hs=>h _ ?_;obtain⟨q,es,ep,hq,h2,h3,h4,_,h5⟩:=dd';refine Jhe I (by rw[e];exact True.intro) hs ⟨q,hq⟩ ⟨hl,hd,_,(rel.put k eb rv).keeps fun c ys ec=>?_,q,es,ep,hq,h2,h3,h4,h5⟩;rw[Jg (Y1 ec e (fun z=>nomatch z))];exact ec
end
section
variable {X:Cx} {pins:PL} {σ:St} {H:Hp} {s:A9} {a:Addr} {kvs:List (Key×V)} {k:Key} {u:A3} {A:AH} {E:A3→A9→Prop}
theorem Jtx{Q:VS}(I:Inv X pins σ H s)(e:Rd H a (.dK kvs))(h:∀t s',Inv X pins σ H s'->Q (.int kvs.length t) s'):AV (Af X.prog X.w) A (call (.builtin "len") [.ref a]) Q E s:=by
 obtain⟨z,hd,vs,rel,dd⟩:=Jii I.hok e;refine call_len_dict hd dd (by rw[<- rel.length];rw[Bu]at z;omega) ?_;rw[<- rel.length];exact h _ _ (I.tok _)
end
def JtO(i:Expr):Prop:=∀ov iv,F0 i false ov iv=operate [ov,iv] (FD ov iv)
theorem Jqt{prog:Ab}{w:At}{A:AH}{E:VS}{s:A9}{env:Env}{value slice:Expr}{pos:Pos}{T id:String}{Q:VS}
  (hl:typeLookup (.type T) "__getitem__" = pure (some (.builtin id))) (hs:JtO slice)
  (h:AV (Af prog w) A (eval value env) (fun o s₁=>AV (Af prog w) A (eval slice env) (fun i s₂=>s₂.TypeIs o T/\AV (Af prog w) A (FD o i) Q E s₂) E s₁) E s) :
  AV (Af prog w) A (eval (.Subscript value slice pos) env) Q E s:=by
 refine Hl (Db h (fun o s₁ h₁=>Db h₁ (fun i s₂ h₂=>?_) fun _ _ x=>x) fun _ _ x=>x);obtain⟨hT,h₂⟩:=h₂;unfold FQ;refine A0 ?_;rw[getitemInPython_of_ne hT.not_modules];refine A0 (wpAny_specialOf hT hl ?_)
 have fin:AV (Af prog w) A (F0 slice false o i) (fun r s₃=>AV (Af prog w) A (letTemporaryGo value o r >>= fun _=>pure r) Q E s₃) E s₂:=by
  rw[hs o i];exact wpAny_operating (Db h₂ (fun r s₃ h₃=>A0 (wpAny_letTemporaryGo (A8 h₃))) fun _ _ x=>x)
 first
  | exact A8 (A0 fin)
  | exact A0 (A8 (A0 fin))
  | exact A0 fin
theorem JjO{X:Cx}{pins:PL}{σ:St}{H:Hp}{s:A9}{a:Addr}{y:V}{o:Option V}(I:Inv X pins σ H s)(g:JcC H a y o):s.TypeIs (.ref a) "dict":=by
 rcases g with⟨kvs,k,e,_,_⟩|⟨kvs,k,b,e,_,_,_⟩
 .obtain⟨_,_,vs,_,dd⟩:=Jii I.hok e;exact dd.typeIs
 .obtain⟨_,_,xs,_,dd⟩:=Jlt I.hok e;exact dd.typeIs
inductive DgI(x y:V)(H:Hp)(Q:VK):Prop
 | mk (a:Addr) (v:V) (e:x=.ref a) (h:JcC H a y (some v)) (q:Q v H):DgI x y H Q
def JsK(td ty:TE):TE:=fun σ H Q=>td σ H fun x H1=>ty σ H1 fun y H2=>DgI x y H2 Q
inductive JrX(x y:V)(H:Hp)(Q:VK):Prop
 | mk (a:Addr) (o:Option V) (e:x=.ref a) (h:JcC H a y o) (q:Q (.bl o.isSome) H):JrX x y H Q
def Juj(ty td:TE):TE:=fun σ H Q=>ty σ H fun y H1=>td σ H1 fun x H2=>JrX x y H2 Q
inductive DpI(x y v:V)(H:Hp)(Q:Hp->Prop):Prop
 | mk (a:Addr) (H4:Hp) (e:x=.ref a) (h:Jgy H a y v H4) (q:Q H4):DpI x y v H Q
def JtT(td ty tv:TE):TS:=fun D σ H=>tv σ H fun v H1=>td σ H1 fun x H2=>ty σ H2 fun y H3=>DpI x y v H3 (D.nx σ)
section
variable {X:Cx} {o i e value:Expr} {pos pos' tpos:Pos} {td ty tv:TE}
theorem JqN(hu:X.A.units+1<DR)(ho:PE X o td)(hi:PE X i ty)(hs:JtO i):PE X (.Subscript o i pos) (JsK td ty):=by
 intro pins s σ H Q I h;refine Jqt PySem.F.slot_dict_getitem.lookup hs (thn (ho pins s σ H _ I h) fun u s1 hzz=>?_);obtain⟨x,H1,I1,rx,q1⟩:=hzz;refine thn (hi pins s1 σ H1 _ I1 q1) fun iv s2 hzz=>?_;obtain⟨y,H2,I2,ry,a,v,ex,g,q2⟩:=hzz;subst ex;obtain rfl:u=A3.ref a:=rx;exact⟨JjO I2 g,Jmm hu I2 g ry fun w' s3 I3 rw'=>⟨v,H2,I3,rw',q2⟩⟩
theorem Jsu(hu:X.A.units+1<DR)(hi:PE X i ty)(ho:PE X o td):PC X .In i o (Juj ty td):=by
 intro pins s σ H Q I h;refine thn (hi pins s σ H _ I h) fun iv s1 hzz=>?_;obtain⟨y,H1,I1,ry,q1⟩:=hzz;refine thn (ho pins s1 σ H1 _ I1 q1) fun u s2 hzz=>?_;obtain⟨x,H2,I2,rx,a,ov,ex,g,q2⟩:=hzz;subst ex;obtain rfl:u=A3.ref a:=rx;exact Juu hu I2 g ry fun s3 I3=>⟨.bl ov.isSome,H2,I3,rfl,q2⟩
theorem JaG(hu:X.A.units+1<DR)(ho:PE X o td)(hi:PE X i ty)(hv:PE X value tv)(hs:Fb value (some (.Subscript o i pos')) pos.line X.env=pure false) :
  PS X (.Assign [.Subscript o i pos'] value pos) (JtT td ty tv):=by
 intro pins s σ H D I h;refine wpAny_Assign_Subscript (thn (hv pins s σ H _ I h) fun r s1 hzz=>?_) hs;obtain⟨v,H1,I1,rv,q1⟩:=hzz;refine thn (ho pins s1 σ H1 _ I1 q1) fun u s2 hzz=>?_;obtain⟨x,H2,I2,rx,q2⟩:=hzz;refine thn (hi pins s2 σ H2 _ I2 q2) fun iv s3 hzz=>?_;obtain⟨y,H3,I3,ry,a,H4,ex,g,q3⟩:=hzz;subst ex;obtain rfl:u=A3.ref a:=rx;exact Jl7 hu I3 g ry rv fun s4 I4=>⟨σ,H4,I4,q3⟩
end
theorem Jlb{P:Ab}{w:At}{H:Hp}(h:Heap)(hb:sysModules<h.objs.size):J4 P w H (h.push { cls:=.type "dict",data:=.dict #[] }) h.objs.size (.dK []):=
 ⟨AA _,beq_eq_false_iff_ne.mpr (EK (Ar hb)),[],.nil,Heap.DictOf.new h⟩
theorem Jpk{P:Ab}{w:At}{H:Hp}(h:Heap)(hb:sysModules<h.objs.size):J4 P w H (h.push { cls:=.type "dict",data:=.dict #[] }) h.objs.size (.dT []):=
 ⟨AA _,beq_eq_false_iff_ne.mpr (EK (Ar hb)),[],.nil,_,#[],0,Aw _ rfl,⟨rfl,rfl,rfl⟩,rfl,rfl,BZ⟩
def JrM:TE:=fun _ H Q=>∀p,H p=none->Q (.ref p) (upd H p (.dK []))
def Jst:TE:=fun _ H Q=>∀p,H p=none->Q (.ref p) (upd H p (.dT []))
section
variable {X:Cx} {pos:Pos}
theorem Y4:PE X (.Dict [] [] pos) JrM:=fun pins s σ H Q I h=>
 Kv ⟨.ref s.heap.objs.size,_,I.laid (a:=s.heap.objs.size) (o:=.dK []) (t':=s.toks) (fun _ _ q=>A4 _ q) (A6 _) (Jlb s.heap I.big),rfl,h _ (I.hok.fresh (A6 _))⟩
theorem Jkx:PE X (.Dict [] [] pos) Jst:=fun pins s σ H Q I h=>
 Kv ⟨.ref s.heap.objs.size,_,I.laid (a:=s.heap.objs.size) (o:=.dT []) (t':=s.toks) (fun _ _ q=>A4 _ q) (A6 _) (Jpk s.heap I.big),rfl,h _ (I.hok.fresh (A6 _))⟩
end
noncomputable def JnT:List (TE×TE)->St->Hp->(List (V×V)->Hp->Prop)->Prop
 | [],_,H,Q=>Q [] H
 | (tk,tv)::r,σ,H,Q=>tk σ H fun x H1=>tv σ H1 fun y H2=>JnT r σ H2 fun ps H3=>Q ((x,y)::ps) H3
abbrev VV:List (V×V)->List (A3×A3)->Prop:=BV fun p q=>Jaa p.1 q.1/\Jaa p.2 q.2
def PPs(X:Cx)(pos:Pos)(keys:List (Option Expr))(values:List Expr)(trs:List (TE×TE)):Prop:=
 ∀(pins:PL) (s:A9) (σ:St) (H:Hp) (Q:List (V×V)->Hp->Prop),Inv X pins σ H s->JnT trs σ H Q->
  AV (Af X.prog X.w) X.A (evalPairs (pairTrees keys values X.env pos)) (fun vs s'=>∃ps H',Inv X pins σ H' s'/\VV ps vs/\Q ps H') X.xe s
theorem JqH{X:Cx}{pos:Pos}:PPs X pos [] [] []:=fun pins s σ H Q I h=>pairTrees_nil_walk ⟨[],H,I,.nil,h⟩
theorem Jdd{X:Cx}{pos:Pos}{k v:Expr}{ks:List (Option Expr)}{vs:List Expr}{tk tv:TE}{trs:List (TE×TE)}(hk:PE X k tk)(hv:PE X v tv)(hr:PPs X pos ks vs trs) :
  PPs X pos (some k::ks) (v::vs) ((tk,tv)::trs):=fun pins s σ H Q I h=>
 pairTrees_cons_walk (thn (hk pins s σ H _ I h) fun u s1 ⟨x,H1,I1,rx,q1⟩ =>thn (hv pins s1 σ H1 _ I1 q1) fun w2 s2 ⟨y,H2,I2,ry,q2⟩ =>
  thn (hr pins s2 σ H2 _ I2 q2) fun ws s3 ⟨ps,H3,I3,rel,q3⟩ =>⟨(x,y)::ps,H3,I3,.cons ⟨rx,ry⟩ rel,q3⟩)
noncomputable def JgM(kvs more:List (Key×V)):List (Key×V):=more.foldl (fun acc kv=>Jag acc kv.1 kv.2) kvs
theorem KV.merge:∀{more:List (Key×V)} {rs:List (Key×A3)} {kvs:List (Key×V)} {vs:List (Key×A3)},KV more rs->KV kvs vs->KV (JgM kvs more) (merged vs rs):=by
 intro more rs kvs vs r;unfold KV at r
 induction r generalizing kvs vs with
 | nil=>intro q;exact q
 | @cons p q ps qs h t ih=>
  intro r0
  have e:KV (Jag kvs p.1 p.2) (stored vs q.1 q.2):=by
   have:=r0.put p.1 h.2;rw[<- h.1];exact this
  exact ih e
theorem JdL:∀(more kvs:List (Key×V)),(JgM kvs more).length<=kvs.length+more.length
 | [],kvs=>by show kvs.length<=kvs.length+0;omega
 | p::r,kvs=>by
  have h1:=JdL r (Jag kvs p.1 p.2);have h2:=JbD kvs p.1 p.2;show(JgM (Jag kvs p.1 p.2) r).length<=_;rw[AN];omega
theorem JgS{P:Ab}{w:At}:∀{kvs:List (Key×V)} {ws:List (A3×A3)},VV (kvs.map fun kv=>(kV kv.1,kv.2)) ws->∃rs,Carries (J9 P w) ws rs/\KV kvs rs
 | [],_,r=>by rw[Dn]at r;cases r;exact⟨[],True.intro,.nil⟩
 | p::kvs,_,r=>by
  rw[Al]at r
  cases r with
  | @cons a b as bs h t=>
   obtain⟨rs,c,q⟩:=JgS (P:=P) (w:=w) t;obtain⟨b1,b2⟩:=b;exact⟨(p.1,b2)::rs,⟨Jjw h.1,rfl,c⟩,.cons ⟨rfl,h.2⟩ q⟩
def JrK(trs:List (TE×TE)):TE:=fun σ H Q=>∀p,H p=none->JnT trs σ (upd H p (.dK [])) fun ps H2=>H2 p=some (.dK [])/\∃kvs:List (Key×V),ps=kvs.map (fun kv=>(kV kv.1,kv.2))/\kvs.length<=15/\Q (.ref p) (upd H2 p (.dK (JgM [] kvs)))
theorem Jrq{X:Cx}{pos:Pos}{keys:List (Option Expr)}{values:List Expr}{trs:List (TE×TE)}(h:PPs X pos keys values trs)(hall:keys.all (·.isSome)=true)(hl:keys.length=values.length)(h0:keys≠[])
  (h15:keys.length<=15):PE X (.Dict keys values pos) (JrK trs):=by
 intro pins s σ H Q I q;have hn:=I.hok.fresh (A6 s.heap.objs.size);have I1:=I.laid (a:=s.heap.objs.size) (o:=.dK []) (h':=s.heap.push { cls:=.type "dict",data:=.dict #[] }) (t':=s.toks) (fun _ _ q=>A4 _ q) (A6 _) (Jlb s.heap I.big);refine wpAny_Dict_walk (knd:=J9 X.prog X.w) hall hl h0 h15 (thn (h pins _ σ _ _ I1 (q _ hn)) fun ws s2 hzz=>?_);obtain⟨ps,H2,I2,rel,e,kvs,ep,lk,q2⟩:=hzz;subst ep;obtain⟨rs,c,rk⟩:=JgS (P:=X.prog) (w:=X.w) rel;obtain⟨z,hd,vs0,r0,dd⟩:=JiP I2.hok e;cases r0;refine⟨rs,c,dd,fun h' dd' hs=>⟨.ref s.heap.objs.size,_,?_,rfl,q2⟩⟩
 have hz:(JgM [] kvs).length<=AK:=by
  have h1:=JdL kvs [];rw[CY]at h1;rw[Bu];omega
 have he:∃q,h'.get? s.heap.objs.size=some q:=let ⟨q,_,_,hq,_⟩:=dd';⟨q,hq⟩
 exact Jhe I2 (by rw[e];exact True.intro) hs he (Jmi hz hd (rk.merge .nil) dd')
structure M2(X:Cx)(o:Expr)(m:Str)(apos:Pos)(e f:Expr)(cpos:Pos):Prop where
 base:Dv o m X.env (eval o X.env)=eval o X.env
 few:((DF cpos (AR [e,f] X.env)).all (fun x=>!x.1)&&(KH cpos (Gr [] X.env)).all (fun x=>x.1.isSome)
 &&decide (([e,f]:List Expr).length+([]:List Ku).length+(if([]:List Ku).isEmpty then 0 else 1)<30))=true
 line:(apos.endLine==cpos.line)=true
 trees:DF cpos (AR [e,f] X.env)=[(false,eval e X.env),(false,eval f X.env)]
def IsD(H:Hp)(a:Addr):Prop:=(∃kvs,Rd H a (.dK kvs))\/∃kvs,Rd H a (.dT kvs)
theorem JpP{X:Cx}{pins:PL}{σ:St}{H:Hp}{s:A9}{a:Addr}(I:Inv X pins σ H s)(d:IsD H a) :
  s.TypeIs (.ref a) "dict"/\(∀b,A3.ref a=.ref b->∃ob,s.heap.get? b=some ob/\ob.dict=none)/\(a==sysModules)=false:=by
 rcases d with⟨kvs,e⟩|⟨kvs,e⟩
 .obtain⟨_,hd,vs,_,dd⟩:=Jii I.hok e;refine⟨dd.typeIs,fun b q=>?_,hd⟩;cases q;obtain⟨ob,_,_,h1,h2,_⟩:=dd;exact⟨ob,h1,h2.2.1⟩
 .obtain⟨_,hd,xs,_,dd⟩:=Jlt I.hok e;refine⟨dd.typeIs,fun b q=>?_,hd⟩;cases q;obtain⟨ob,_,_,h1,h2,_⟩:=dd;exact⟨ob,h1,h2.2.1⟩
section
variable {X:Cx} {pins:PL} {σ:St} {H:Hp} {s:A9} {a:Addr} {y d:V} {u r:A3} {o:Option V} {A:AH} {E:A3→A9→Prop}
theorem Jsz{Q:VS}(hu:A.units+1<DR)(I:Inv X pins σ H s)(g:JcC H a y o)(ry:Jaa y u)(rd:Jaa d r)(h:∀w' s',Inv X pins σ H s'->Jaa (o.getD d) w'->Q w' s') :
  AV (Af X.prog X.w) A (call (.builtin "dict.get") [.ref a,u,r]) Q E s:=by
 rcases g with⟨kvs,k,e,ey,l⟩|⟨kvs,k,b,e,ey,eb,l⟩
 .subst ey;obtain⟨z,hd,vs,rel,dd⟩:=Jii I.hok e;refine Em Ev dd.typeIs FM (Fi _ _ _) (meets_dict_get_default (J9 X.prog X.w) a (Jjw ry) hd r) ⟨_,dd.mapOf,h _ _ (I.tok _) ?_⟩;rw[l];exact(rel.val k).getD rd
 .subst ey;cases(show u=A3.ref b from ry);obtain⟨z,hd,xs,rel,dd⟩:=Jlt I.hok e;refine Em Ev dd.typeIs FM (Fi _ _ _) (meetsH_dict_get_default (Fa (J9 X.prog X.w)) a b hd r) ⟨DE hu,k,xs,Jjm I.hok eb,dd,h _ _ (I.tok _) ?_⟩;rw[l];exact(rel.val k).getD rd
end
inductive DaI(x:V)(H:Hp)(Q:Addr->Prop):Prop
 | mk (a:Addr) (e:x=.ref a) (h:IsD H a) (q:Q a):DaI x H Q
inductive DoI(a:Addr)(y z:V)(H:Hp)(Q:VK):Prop
 | mk (o:Option V) (h:JcC H a y o) (q:Q (o.getD z) H):DoI a y z H Q
def Jr5(td ty tx:TE):TE:=fun σ H Q=>td σ H fun x H1=>DaI x H1 fun a=>ty σ H1 fun y H2=>tx σ H2 fun z H3=>DoI a y z H3 Q
section
variable {X:Cx} {o e f:Expr} {apos cpos:Pos} {td ty tx:TE}
theorem Jc3(hu:X.A.units+1<DR)(ho:PE X o td)(he:PE X e ty)(hf:PE X f tx)(m:M2 X o "get" apos e f cpos):PE X (.Call (.Attribute o "get" apos) [e,f] [] cpos) (Jr5 td ty tx):=by
 intro pins s σ H Q I h;refine HH m.base m.few m.line D1 Ev PySem.F.type_dict_get (thn (ho pins s σ H _ I h) fun u s1 hzz=>?_);obtain⟨x,H1,I1,rx,a,ex,d,q1⟩:=hzz;subst ex;obtain rfl:u=A3.ref a:=rx;obtain⟨t1,t2,_⟩:=JpP I1 d;refine⟨t1,t2,?_⟩;rw[m.trees];refine Dx rfl (Df (Dw (thn (he pins s1 σ H1 _ I1 q1) fun iv s2 hzz=>?_)));obtain⟨y,H2,I2,ry,q2⟩:=hzz;refine Dw (thn (hf pins s2 σ H2 _ I2 q2) fun fv s3 hzz=>?_);obtain⟨z,H3,I3,rz,ov,g,q3⟩:=hzz;refine Fv ?_;exact Jsz hu I3 g ry rz fun w' s4 I4 rw'=>⟨_,H3,I4,rw',q3⟩
end
end L2
namespace HT
open PySem PyProof.Rows
section
variable {prog:Ab} {w:At} {A:AH} {E:A3→A9→Prop} {s:A9}
theorem Jra{t b:Addr}{vs ws:List A3}{Q:A3->A9->Prop}(ht:M3 s.heap t vs.toArray)(hb:M3 s.heap b ws.toArray)(hv:vs≠[])
  (h1:ws=[]->Q (.ref t) s) (h2:ws≠[]->Q (.ref s.heap.objs.size) { s with heap:=s.heap.push { cls:=.type "tuple",data:=.seq (vs++ws).toArray } })
  (hsz:vs.length+ws.length<=AK):AV (Af prog w) A (C0 .Add (.ref t) (.ref b)) Q E s:=by
 obtain⟨⟨cls,dd,data,sl⟩,ho,hc,n,hd⟩:=id ht;obtain⟨⟨cls2,dd2,data2,sl2⟩,ho2,hc2,n2,hd2⟩:=id hb;simp only at hc hd hc2 hd2;subst hc hd hc2 hd2
 have e:vs.toArray++ws.toArray=(vs++ws).toArray:=by simp
 by_cases hw:ws=[]
 .exact HM ⟨_,ho,rfl⟩ ⟨_,ho2,rfl⟩ Fd Hv Ew DT (DB _ _)
   (tuple_addW1 t b vs.toArray ws.toArray n n2 dd dd2 sl sl2 (by simpa using hv) (by simp[hw])) ⟨ho,ho2,h1 hw⟩
 .refine HM ⟨_,ho,rfl⟩ ⟨_,ho2,rfl⟩ Fd Hv Ew DT (DB _ _)
   (tuple_addW2 t b vs.toArray ws.toArray n n2 dd dd2 sl sl2 (by simpa using hv) (by simpa using hw) (by rw[AX,AX];exact hsz)) ⟨ho,ho2,?_⟩
  rw[e];exact h2 hw
noncomputable def sIx(n d:Nat):Option Int->Nat
 | none=>d
 | some v=>if v<0 then(v+(n:Int)).toNat else min v.toNat n
theorem JkC(n d:Nat):sIx n d none=d:=rfl
theorem Jfv(n d k:Nat):sIx n d (some (k:Int))=min k n:=by
 show(if(k:Int)<0 then((k:Int)+(n:Int)).toNat else min (k:Int).toNat n)=min k n;rw[if_neg (by omega),Ej]
theorem JrS(n d:Nat)(hd:d<=n)(o:Option Int):sIx n d o<=n:=by
 cases o with
 | none=>exact hd
 | some v=>
  show(if v<0 then(v+(n:Int)).toNat else min v.toNat n)<=n
  by_cases hv:v<0
  .rw[if_pos hv];omega
  .rw[if_neg hv];exact Nat.min_le_right _ _
theorem Jn9(v:Int)(n d:Nat):(if v<0 then max (v+(n:Int)) 0 else min v (n:Int))=((sIx n d (some v):Nat):Int):=by
 show(if v<0 then max (v+(n:Int)) 0 else min v (n:Int))=(((if v<0 then(v+(n:Int)).toNat else min v.toNat n):Nat):Int)
 by_cases hv:v<0
 .simp only[if_pos hv];omega
 .simp only[if_neg hv];omega
theorem Jln(lo hi:Option Int)(n:Nat):Am.Slice.sliceAdjust lo hi 1 (n:Int)=(((sIx n 0 lo:Nat):Int),((sIx n n hi:Nat):Int)):=by
 have h1:¬((1:Int)<0):=by omega
 unfold Am.Slice.sliceAdjust;simp only[h1,if_false];refine Prod.ext ?_ ?_
 .cases lo with
  | none=>rfl
  | some v=>exact Jn9 v n 0
 .cases hi with
  | none=>rfl
  | some v=>exact Jn9 v n n
theorem JlE(i j:Nat):Am.Slice.slicePlaces (i:Int) (j:Int) 1=j-i:=by
 unfold Am.Slice.slicePlaces
 have h1:(1:Int)>0:=by omega
 simp only[h1,if_true,Int.ediv_one];split<;>omega
theorem JgW{v:A3}{o:Option Int}{Q:Option Int->A9->Prop}(p:Hu v o)(h:Q o s):AV (Af prog w) A (Am.Slice.slicePartIndex v) Q E s:=by
 cases p with
 | none=>exact slicePart_none h
 | int i t=>exact slicePart_int h
theorem Je5{sl:Addr}{vl vu:A3}{lo hi:Option Int}{n:Nat}{Q:Int×Int×Nat->A9->Prop}(hs:s.heap.IsSliceOf sl vl vu .none)(pl:Hu vl lo)(pu:Hu vu hi)
  (h:Q (((sIx n 0 lo:Nat):Int),1,sIx n n hi-sIx n 0 lo) s):AV (Af prog w) A (Am.Slice.sliceApplied (.ref sl) (pure (n:Int))) Q E s:=by
 obtain⟨os,hos,hcs,hds⟩:=id hs;unfold Am.Slice.sliceApplied Am.Slice.sliceFields;refine A0 (A0 (C6 hos hds (x:=vl) rfl (A0 (C6 hos hds (x:=vu) rfl (A0 (C6 hos hds (x:=.none) rfl (A8 ?_)))))));refine A0 (slicePart_none ?_);show AV _ _ (if((1:Int)==0)=true then _ else _) _ _ s;rw[if_neg (by decide)];refine A0 (JgW pl (A0 (JgW pu (A0 (A8 ?_)))));show AV _ _ (match Am.Slice.sliceAdjust lo hi 1 (n:Int)with|(lo,hi)=>pure (lo,(1:Int),Am.Slice.slicePlaces lo hi 1)) _ _ s
 rw[Jln lo hi n];show AV _ _ (pure (((sIx n 0 lo:Nat):Int),(1:Int),Am.Slice.slicePlaces ((sIx n 0 lo:Nat):Int) ((sIx n n hi:Nat):Int) 1)) _ _ s;rw[JlE];exact A8 h
theorem JpE(xs:Array A3)(i k:Nat):((AT k).filterMap fun(m:Nat)=>xs[((i:Int)+(m:Int)*1).toNat]?).toArray=((xs.toList.drop i).take k).toArray:=by
 have e:(fun(m:Nat)=>xs[((i:Int)+(m:Int)*1).toNat]?)=fun m=>xs[i+m]?:=by
  funext m
  have:((i:Int)+(m:Int)*1).toNat=i+m:=by omega
  rw[this]
 rw[e];have:=pick_run xs i k;rw[List.filterMap_map]at this;have e2:((fun x=>xs[x]?) ∘ fun x=>i+x)=fun m=>xs[i+m]?:=rfl;rw[e2]at this;rw[this]
theorem JeD{t sl:Addr}{items:Array A3}{vl vu:A3}{lo hi:Option Int}{Q:A3->A9->Prop}(ht:M3 s.heap t items)(hs:s.heap.IsSliceOf sl vl vu .none)(pl:Hu vl lo)(pu:Hu vu hi)
  (hw:¬(sIx items.size 0 lo=0/\sIx items.size items.size hi=items.size))
  (h:Q (.ref s.heap.objs.size) { s with heap:=s.heap.push { cls:=.type "tuple",data:=.seq ((items.toList.drop (sIx items.size 0 lo)).take (sIx items.size items.size hi-sIx items.size 0 lo)).toArray } })
  (hsz:items.size<=AK):AV (Af prog w) A (FD (.ref t) (.ref sl)) Q E s:=by
 have htake:sizeOk (.seq ((items.toList.drop (sIx items.size 0 lo)).take (sIx items.size items.size hi-sIx items.size 0 lo)).toArray):=by
  show((items.toList.drop (sIx items.size 0 lo)).take (sIx items.size items.size hi-sIx items.size 0 lo)).toArray.size<=AK;rw[AX,Ao,Ci,Bo];omega
 have hj:sIx items.size items.size hi<=items.size:=JrS _ _ (A6 _) hi;obtain⟨os,hos,hcs,hds⟩:=id hs;have hTs:s.TypeIs (.ref sl) "slice":=⟨os,hos,hcs⟩;unfold FD
 try with_reducible refine CD ?_
 first|refine A0 (A8 ?_)|skip
 refine A0 (wpAny_sequenceKey ht.typeIs (by decide) ?_)
 refine A0 (Bj (name:=Cc "__getitem__") ht.typeIs CS
  (Bz CS ht.typeIs entry_tuple_getitem ?_ (args_tuple_getitem _ _)))
 show AV _ _ (Am.Tuple.tupleItemsOf (.ref t) >>= _) _ _ s;refine A0 (tupleItemsOf_ ht ?_);refine A0 (HD hTs ?_);rw[if_pos (by decide)];refine A0 (Je5 hs pl pu ?_)
 have hno:¬((((sIx items.size 0 lo:Nat):Int)==0&&(1:Int)==1&&(sIx items.size items.size hi-sIx items.size 0 lo)==items.size)=true):=by
  intro q;rw[As,As]at q;have q1:((sIx items.size 0 lo:Nat):Int)=0:=eq_of_beq q.1.1;have q2:sIx items.size items.size hi-sIx items.size 0 lo=items.size:=eq_of_beq q.2;exact hw ⟨by omega,by omega⟩
 show AV _ _ (if(((sIx items.size 0 lo:Nat):Int)==0&&(1:Int)==1&&(sIx items.size items.size hi-sIx items.size 0 lo)==items.size)=true then _ else _) _ _ s;rw[if_neg hno,JpE]
 first
  | exact A0 (m:=Am.Tuple.tupleExact _) (B7 (A8 ⟨_,rfl,A8 h⟩) htake)
  | exact A0 (m:=Am.Tuple.tupleExact _) (B7 (A0 (A8 (A8 ⟨_,rfl,A8 h⟩))) htake)
  | exact A0 (A0 (m:=Am.Tuple.tupleExact _) (B7 (A8 (A8 ⟨_,rfl,A8 h⟩)) htake))
  | exact A0 (A0 (m:=Am.Tuple.tupleExact _) (B7 (A8 ⟨_,rfl,A8 h⟩) htake))
end
end HT
namespace L2
open PySem PySem.Spec PyProof.Rows
abbrev TO:=St->Hp->(Option Int->Hp->Prop)->Prop
def PO(X:Cx)(e:Option Expr)(t:TO):Prop:=
 ∀(pins:PL) (s:A9) (σ:St) (H:Hp) (Q:Option Int->Hp->Prop),Inv X pins σ H s->t σ H Q->
  AV (Af X.prog X.w) X.A (evalPart e X.env) (fun u s'=>∃o H',Inv X pins σ H' s'/\Hu u o/\Q o H') X.xe s
def JqW:TO:=fun _ H Q=>Q none H
def JrH(t:TE):TO:=fun σ H Q=>t σ H fun x H1=>∃i,x=.int i/\Q (some i) H1
theorem Jc7{ns:List Int}:∀{us:List A3},Y2 (ns.map V.int) us->Bt us ns:=by
 induction ns with
 | nil=>intro us r;rw[Dn]at r;cases r;exact .nil
 | cons n ns ih=>
  intro us r;rw[Al]at r
  cases r with
  | cons r1 r2=>
   obtain⟨t,e⟩:=r1;subst e;exact .cons n t (ih r2)
section
variable {X:Cx} {e:Expr} {te:TE} {lo hi:Option Expr} {tl th:TO} {pos p2:Pos}
theorem YL:PO X none JqW:=by
 intro pins s σ H Q I h;rw[HQ];exact A8 ⟨none,H,I,.none,h⟩
theorem Jrf(h:PE X e te):PO X (some e) (JrH te):=by
 intro pins s σ H Q I hw;rw[evalPart_some];refine thn (h pins s σ H _ I hw) fun u s1 hzz=>?_;obtain⟨x,H1,I1,r1,q1⟩:=hzz;obtain⟨i,rfl,q⟩:=q1;obtain⟨t,rfl⟩:=r1;exact⟨some i,H1,I1,.int i t,q⟩
def SlR(X:Cx)(r:V->Option Int->Option Int->Hp->VK->Prop):Prop:=
 ∀(pins:PL) (s:A9) (σ:St) (H:Hp) (x:V) (v vl vu:A3) (lo hi:Option Int) (sl:Addr) (Q:VK),Inv X pins σ H s->Jaa x v->s.heap.IsSliceOf sl vl vu .none->Hu vl lo->Hu vu hi->r x lo hi H Q->
  ∃T id,typeLookup (.type T) "__getitem__" = pure (some (.builtin id))/\s.TypeIs v T/\AV (Af X.prog X.w) X.A (FD v (.ref sl)) (EP X pins σ Q) X.xe s
def tSl(r:V->Option Int->Option Int->Hp->VK->Prop)(te:TE)(tl th:TO):TE:=fun σ H Q=>te σ H fun x H1=>tl σ H1 fun l H2=>th σ H2 fun u H3=>r x l u H3 Q
theorem J8{r:V->Option Int->Option Int->Hp->VK->Prop}(hr:SlR X r)(he:PE X e te)(hl:PO X lo tl)(hu:PO X hi th):PE X (.Subscript e (.Slice lo hi none p2) pos) (tSl r te tl th):=by
 intro pins s σ H Q I h;refine Hl (thn (he pins s σ H _ I h) fun v s1 hzz=>?_);obtain⟨x,H1,I1,r1,q1⟩:=hzz;refine wpAny_Slice (thn (hl pins s1 σ H1 _ I1 q1) fun vl s2 hzz=>?_);obtain⟨l,H2,I2,pl,q2⟩:=hzz;refine thn (hu pins s2 σ H2 _ I2 q2) fun vu s3 hzz=>?_;obtain⟨u,H3,I3,pu,q3⟩:=hzz;rw[HQ];refine A8 ?_;have I4:Inv X pins σ H3 { s3 with heap:=s3.heap.push { cls:=.type "slice",data:=.fields #[vl,vu,.none] } }:=I3.kept (t':=s3.toks) fun b ob q=>A4 _ q;obtain⟨T,id,hT,ht,hg⟩:=hr pins { s3 with heap:=s3.heap.push { cls:=.type "slice",data:=.fields #[vl,vu,.none] } } σ H3 x v vl vu l u s3.heap.objs.size Q I4 r1 (HA ..) pl pu q3;show AV (Af X.prog X.w) X.A (FQ e (.Slice lo hi none p2) v (.ref s3.heap.objs.size)) (EP X pins σ Q) X.xe { s3 with heap:=s3.heap.push { cls:=.type "slice",data:=.fields #[vl,vu,.none] } };exact tail_any (ops:=[.ref s3.heap.objs.size,v]) ht hT hg (by with_unfolding_all rfl)
noncomputable def Je9(xs:List V)(lo hi:Option Int):List V:=(xs.drop (HT.sIx xs.length 0 lo)).take (HT.sIx xs.length xs.length hi-HT.sIx xs.length 0 lo)
theorem Jf9(xs:List V)(lo hi:Option Int):(Je9 xs lo hi).length<=xs.length:=by
 unfold Je9;rw[Ao,Ci];omega
inductive StI(K:WF)(x:V)(lo hi:Option Int)(H:Hp)(Q:VK):Prop
 | mk (a:Addr) (xs:List V) (e:x=.ref a) (h:SqT K H a xs) (n:¬(HT.sIx xs.length 0 lo=0/\HT.sIx xs.length xs.length hi=xs.length)) (q:∀p,H p=none->Q (.ref p) (upd H p (.tup (Je9 xs lo hi)))):StI K x lo hi H Q
def Juh(K:WF):V->Option Int->Option Int->Hp->VK->Prop:=fun x lo hi H Q=>StI K x lo hi H Q
theorem Jdk:SlR X (Juh X.K):=by
 intro pins s σ H x v vl vu lo hi sl Q I rx hs pl pu h;obtain⟨a,xs,rfl,hx,hw,q⟩:=h;cases rx;obtain⟨its,r,ht,hz⟩:=I.tuple hx
 have hlen:its.toArray.size=xs.length:=by rw[AX];exact r.length.symm
 refine⟨"tuple",_,CS.lookup,ht.typeIs,?_⟩;refine HT.JeD ht hs pl pu (by rw[hlen];exact hw) ?_ (by rw[hlen];exact hz);rw[hlen];refine⟨.ref s.heap.objs.size,_,I.laid (t':=s.toks) (o:=.tup (Je9 xs lo hi)) (fun b ob q=>A4 _ q) (A6 _) ?_,rfl,q _ (I.hok.fresh (A6 _))⟩;exact⟨B0 (Jf9 xs lo hi) hz,_,(r.drop (HT.sIx xs.length 0 lo)).take (HT.sIx xs.length xs.length hi-HT.sIx xs.length 0 lo),M3.new _ _⟩
def Jth(K:WF):R2:=fun x y H Q=>∃a b xs ys,x=.ref a/\y=.ref b/\SqT K H a xs/\SqT K H b ys/\xs≠[]/\xs.length+ys.length<=AK/\
 (ys=[]->Q (.ref a) H)/\(ys≠[]->∀p,H p=none->Q (.ref p) (upd H p (.tup (xs++ys))))
theorem Y2.nil_iff{xs:List V}{us:List A3}(r:Y2 xs us):us=[]↔xs=[]:=by
 cases r with
 | nil=>simp
 | cons _ _=>simp
theorem Jrn:OpR X (C0 .Add) (Jth X.K):=by
 intro pins s σ H x y v u Q I rx ry h;obtain⟨a,b,xs,ys,rfl,rfl,ha,hb,hx,hz,q1,q2⟩:=h;cases rx;cases ry;obtain⟨its,r1,p1,_⟩:=I.tuple ha;obtain⟨its2,r2,p2,_⟩:=I.tuple hb;refine HT.Jra p1 p2 (fun z=>hx (r1.nil_iff.mp z)) (fun z=>⟨.ref a,H,I,rfl,q1 (r2.nil_iff.mp z)⟩) (fun z=>?_) (by rw[<- r1.length,<- r2.length];exact hz);refine⟨.ref s.heap.objs.size,_,I.laid (t':=s.toks) (o:=.tup (xs++ys)) (fun b ob q=>A4 _ q) (A6 _) ?_,rfl,q2 (fun w=>z (r2.nil_iff.mpr w)) _ (I.hok.fresh (A6 _))⟩;exact⟨by rw[AQ];exact hz,_,r1.append r2,M3.new _ _⟩
end
noncomputable def ixN(n:Nat)(i:Int):Option Nat:=if 0<=i then(if i<n then some i.toNat else none)else if -(n:Int)<=i then some (i+n).toNat else none
def atI{α:Type}(xs:List α)(i:Int):Option α:=(ixN xs.length i).bind fun j=>xs[j]?
theorem Jq1{n:Nat}{i:Int}{j:Nat}(h:ixN n i=some j):seqIndex? i n=some j/\j<n/\-(n:Int)<=i/\i<n:=by
 unfold ixN at h
 by_cases h0:0<=i
 .rw[if_pos h0]at h
  by_cases h1:i<n
  .rw[if_pos h1]at h;have e:i.toNat=j:=Ai h;exact⟨by rw[seqIndex_of h0 h1,e],by omega,by omega,h1⟩
  .rw[if_neg h1]at h;cases h
 .rw[if_neg h0]at h
  by_cases h1 : -(n:Int)<=i
  .rw[if_pos h1]at h;have e:(i+n).toNat=j:=Ai h;exact⟨by rw[seqIndex_neg (by omega) h1,e],by omega,h1,by omega⟩
  .rw[if_neg h1]at h;cases h
theorem JjR{α:Type}{xs:List α}{i:Int}{v:α}(h:atI xs i=some v):∃j,seqIndex? i xs.length=some j/\xs[j]?=some v/\j<xs.length/\-(xs.length:Int)<=i/\i<xs.length:=by
 unfold atI at h
 cases e:ixN xs.length i with
 | none=>rw[e]at h;cases h
 | some j=>
  rw[e]at h;obtain⟨h1,h2,h3,h4⟩:=Jq1 e;exact⟨j,h1,h,h2,h3,h4⟩
theorem Jl{α:Type}{xs:List α}{j:Nat}{v:α}(h:xs[j]?=some v):atI xs (j:Int)=some v:=by
 have hj:j<xs.length:=(A7.mp h).1
 have e:ixN xs.length (j:Int)=some j:=by
  unfold ixN;rw[if_pos (by omega),if_pos (by omega)];simp
 unfold atI;rw[e];exact h
theorem JoI{α:Type}(xs:List α)(v:α):atI (xs++[v]) (-1)=some v:=by
 have hl:(xs++[v]).length=xs.length+1:=by simp
 have e:ixN (xs++[v]).length (-1)=some xs.length:=by
  unfold ixN;rw[hl,if_neg (by decide),if_pos (by omega)];congr 1;omega
 unfold atI;rw[e];show(xs++[v])[xs.length]?=some v;simp
def Jnq(b:Expr):Prop:=∀o i,F0 b false o i=operate [o,i] (FD o i)
def IxR(X:Cx)(r:R2):Prop:=
 ∀(value slice:Expr) (pins:PL) (s:A9) (σ:St) (H:Hp) (x y:V) (v u:A3) (Q:VK),Inv X pins σ H s->Jaa x v->Jaa y u->r x y H Q->
  F0 slice false v u=operate [v,u] (FD v u)->AV (Af X.prog X.w) X.A (FQ value slice v u) (EP X pins σ Q) X.xe s
def MtR(X:Cx)(id:String)(r:V->List V->Hp->VK->Prop):Prop:=
 ∀(pins:PL) (s:A9) (σ:St) (H:Hp) (x:V) (xs:List V) (v:A3) (us:List A3) (Q:VK),Inv X pins σ H s->Jaa x v->Y2 xs us->r x xs H Q->
  AV (Af X.prog X.w) X.A (call (.builtin id) (v::us)) (EP X pins σ Q) X.xe s
section
variable {X:Cx} {a b:Expr} {ta tb:TE} {pos:Pos}
theorem IxR.or{r r':R2}(h:IxR X r)(h':IxR X r'):IxR X (fun x y H Q=>r x y H Q\/r' x y H Q):=by
 intro value slice pins s σ H x y v u Q I rx ry q hs
 rcases q with q|q
 .exact h value slice pins s σ H x y v u Q I rx ry q hs
 .exact h' value slice pins s σ H x y v u Q I rx ry q hs
theorem JsU{r:R2}(hr:IxR X r)(ha:PE X a ta)(hb:PE X b tb)(hs:Jnq b):PE X (.Subscript a b pos) (tOp r ta tb):=by
 intro pins s σ H Q I h;exact Hl (Jtq ha hb I h fun v u s2 x y H2 I2 rx ry q=>hr a b pins s2 σ H2 x y v u Q I2 rx ry q (hs _ _))
inductive JrY(K:WF)(x y:V)(H:Hp)(Q:VK):Prop
 | mk (p:Addr) (xs:List V) (i:Int) (v:V) (e:x=.ref p) (d:y=.int i) (h:SqL K H p xs) (l:atI xs i=some v) (q:Q v H):JrY K x y H Q
def JtW(K:WF):R2:=fun x y H Q=>JrY K x y H Q
inductive Jsm(K:WF)(x y:V)(H:Hp)(Q:VK):Prop
 | mk (p:Addr) (xs:List V) (i:Int) (v:V) (e:x=.ref p) (d:y=.int i) (h:SqT K H p xs) (l:atI xs i=some v) (q:Q v H):Jsm K x y H Q
def JqD(K:WF):R2:=fun x y H Q=>Jsm K x y H Q
def Jt2:R2:=fun x y H Q=>∃z i c,x=.str z/\y=.int i/\z.length<=AK/\atI z.cps.toList i=some c/\Q (.str ⟨#[c]⟩) H
theorem JI:IxR X (JtW X.K):=by
 intro value slice pins s σ H x y v u Q I rx ry h hs;obtain⟨p,xs,i,z,rfl,rfl,hq,he,q⟩:=h;cases rx;obtain⟨t,rfl⟩:=ry;obtain⟨its,r,pl,hz⟩:=I.list hq;obtain⟨j,h1,h2,h3,h4,h5⟩:=JjR he;obtain⟨w,ew,rw'⟩:=r.get h2;have hl:=r.length;have hn:=JiI;have fin:EP X pins σ Q w s:=⟨z,H,I,rw',q⟩
 by_cases h0:0<=i
 .have hj:i.toNat=j:=by
   rw[seqIndex_of h0 h5]at h1;exact Ai h1
  exact item_listR pl.isList h0 (by omega) (by rw[hj];simpa using ew) fin hs
 .have hj:(i+(its.toArray.size:Int)).toNat=j:=by
   rw[seqIndex_neg (by omega) h4]at h1;rw[AX,<- hl];exact Ai h1
  exact FA (x:=w) pl.isList.typeIs Fq.lookup
   (wpAny_getItem_list_neg (Q:=fun r s'=>r=w/\EP X pins σ Q r s') pl.isList (by omega) (by rw[AX]<;>omega) (by omega) (by rw[hj];simpa using ew) ⟨rfl,fin⟩) hs
theorem JE:IxR X (JqD X.K):=by
 intro value slice pins s σ H x y v u Q I rx ry h hs;obtain⟨p,xs,i,z,rfl,rfl,hq,he,q⟩:=h;cases rx;obtain⟨t,rfl⟩:=ry;obtain⟨its,r,pl,hz⟩:=I.tuple hq;obtain⟨j,h1,h2,h3,h4,h5⟩:=JjR he;obtain⟨w,ew,rw'⟩:=r.get h2;have hl:=r.length;have hn:=JiI;have fin:EP X pins σ Q w s:=⟨z,H,I,rw',q⟩
 exact FA (x:=w) pl.typeIs slot_tuple_getitem.lookup
  (getItem_tuple (j:=j) (Q:=fun r s'=>r=w/\EP X pins σ Q r s') pl (by omega) (by omega) (by rw[AX,<- hl];exact h1) (by simpa using ew) ⟨rfl,fin⟩) hs
theorem JrI:IxR X Jt2:=by
 intro value slice pins s σ H x y v u Q I rx ry h hs;obtain⟨z,i,c,rfl,rfl,hz,he,q⟩:=h;obtain⟨t,rfl⟩:=rx;obtain⟨t',rfl⟩:=ry;obtain⟨j,h1,h2,h3,h4,h5⟩:=JjR he
 have hl:z.cps.toList.length=z.length:=by simp[Str.length]
 rw[hl]at h1 h4 h5;have hn:=JiI
 exact tail_any (typeIs_str s z t) slot_str_getitem.lookup (getItem_str (c:=c) (by
  have e1:decide (i < -(2^63:Int))=false:=decide_eq_false (by omega);have e2:decide (i ≥ 2^63)=false:=decide_eq_false (by omega)
  rw[e1,e2,FV]) (by rw[h1];simpa using h2) ⟨.str ⟨#[c]⟩,H,I.tok _,⟨_,rfl⟩,q⟩) hs
def rIx(K:WF):R2:=fun x y H Q=>JtW K x y H Q\/JqD K x y H Q\/Jt2 x y H Q
theorem JkH:IxR X (rIx X.K):=JI.or (JE.or JrI)
theorem Jix(lo hi:Option Int)(n:Nat):(DP lo hi none n).1=((HT.sIx n 0 lo:Nat):Int)/\(DP lo hi none n).2.1=((HT.sIx n n hi:Nat):Int)/\(DP lo hi none n).2.2=1:=by
 refine⟨?_,?_,rfl⟩
 .cases lo with
  | none=>simp[DP,HT.sIx]
  | some i=>
   simp only[DP,HT.sIx,Fl,show(1:Int)>0 by decide,if_true]
   by_cases h:i<0
   .simp only[h,if_true]<;>omega
   .simp only[h,if_false]<;>omega
 .cases hi with
  | none=>simp[DP,HT.sIx]
  | some i=>
   simp only[DP,HT.sIx,Fl,show(1:Int)>0 by decide,if_true]
   by_cases h:i<0
   .simp only[h,if_true]<;>omega
   .simp only[h,if_false]<;>omega
theorem Jhg(its:List A3)(lo hi:Option Int):slicePick its.toArray lo hi none=((its.drop (HT.sIx its.length 0 lo)).take (HT.sIx its.length its.length hi-HT.sIx its.length 0 lo)).toArray:=by
 obtain⟨h1,h2,h3⟩:=Jix lo hi its.toArray.size;unfold slicePick;rw[h1,h2,h3];simp only[sliceRange_one,pick_run,AX]<;>rfl
inductive SlI(K:WF)(x:V)(lo hi:Option Int)(H:Hp)(Q:VK):Prop
 | mk (a:Addr) (xs:List V) (e:x=.ref a) (h:SqL K H a xs) (q:∀p,H p=none->Q (.ref p) (upd H p (.lst (Je9 xs lo hi)))):SlI K x lo hi H Q
def Jui(K:WF):V->Option Int->Option Int->Hp->VK->Prop:=fun x lo hi H Q=>SlI K x lo hi H Q
theorem JbA:SlR X (Jui X.K):=by
 intro pins s σ H x v vl vu lo hi sl Q I rx hs pl pu h;obtain⟨a,xs,rfl,hx,q⟩:=h;cases rx;obtain⟨its,r,ht,hz⟩:=I.list hx;have hlen:=r.length;refine⟨"list",_,Fq.lookup,ht.isList.typeIs,?_⟩;refine Fy ht.isList hs pl pu .none (by simp) ?_ (by rw[AX]<;>omega)
 rw[Jhg,<- hlen];refine⟨.ref s.heap.objs.size,_,I.laid (t':=s.toks) (o:=.lst (Je9 xs lo hi)) (fun b ob q=>A4 _ q) (A6 _) ?_,rfl,q _ (I.hok.fresh (A6 _))⟩;exact⟨B0 (Jf9 xs lo hi) hz,_,0,(r.drop (HT.sIx xs.length 0 lo)).take (HT.sIx xs.length xs.length hi-HT.sIx xs.length 0 lo),Aw _ rfl⟩
def Je6:V->Bool
 | .non=>true
 | .bl _=>true
 | .int _=>true
 | .str _=>true
 | _=>false
noncomputable def eqV:V->V->Bool
 | .non,.non=>true
 | .bl a,.bl b=>a==b
 | .bl a,.int b=>(if a then 1 else 0)==b
 | .int a,.bl b=>a==(if b then 1 else 0)
 | .int a,.int b=>a==b
 | .str a,.str b=>a==b
 | _,_=>false
theorem Jp1{A:AH}{s:A9}{y x:V}{u v:A3}(ry:Jaa y u)(rx:Jaa x v)(fy:Je6 y=true)(fx:Je6 x=true):AE A s u v (eqV y x):=by
 cases y with
 | non=>
  cases ry
  cases x with
  | non=>cases rx;exact AE.same _
  | bl b=>cases rx;exact AE.none_bool b
  | int b=>obtain⟨t,rfl⟩:=rx;exact AE.none_int b t
  | str b=>obtain⟨t,rfl⟩:=rx;exact AE.none_str b t
  | _=>exact absurd (show false=true from fx) AW
 | bl a=>
  cases ry
  cases x with
  | non=>cases rx;exact AE.bool_none a
  | bl b=>cases rx;exact AE.bool_bool a b
  | int b=>obtain⟨t,rfl⟩:=rx;exact AE.bool_int a b t
  | str b=>obtain⟨t,rfl⟩:=rx;exact AE.bool_str a b t
  | _=>exact absurd (show false=true from fx) AW
 | int a=>
  obtain⟨t',rfl⟩:=ry
  cases x with
  | non=>cases rx;exact AE.int_none a t'
  | bl b=>cases rx;exact AE.int_bool a t' b
  | int b=>obtain⟨t,rfl⟩:=rx;exact AE.int_int a t' b t
  | str b=>obtain⟨t,rfl⟩:=rx;exact AE.int_str a t' b t
  | _=>exact absurd (show false=true from fx) AW
 | str a=>
  obtain⟨t',rfl⟩:=ry
  cases x with
  | non=>cases rx;exact AE.str_none a t'
  | bl b=>cases rx;exact AE.str_bool a t' b
  | int b=>obtain⟨t,rfl⟩:=rx;exact AE.str_int a t' b t
  | str b=>obtain⟨t,rfl⟩:=rx;exact AE.str_str a t' b t
  | _=>exact absurd (show false=true from fx) AW
 | _=>exact absurd (show false=true from fy) AW
noncomputable def eqU(x:V)(u:A3):Bool:=match u with
 | .none=>eqV .non x
 | .bool b=>eqV (.bl b) x
 | .int i _=>eqV (.int i) x
 | .str z _=>eqV (.str z) x
 | _=>false
theorem JpL{x y:V}{u:A3}(r:Jaa y u)(f:Je6 y=true):eqU x u=eqV y x:=by
 cases y with
 | non=>cases r;rfl
 | bl b=>cases r;rfl
 | int i=>obtain⟨t,rfl⟩:=r;rfl
 | str z=>obtain⟨t,rfl⟩:=r;rfl
 | _=>exact absurd (show false=true from f) AW
theorem JjU{x:V}:∀{xs:List V}{us:List A3},Y2 xs us->xs.all Je6=true->us.any (eqU x)=xs.any fun y=>eqV y x
 | _,_,.nil,_=>rfl
 | y::xs,u::us,.cons r t,f=>by
  rw[Mv,As]at f;rw[BM,BM,JpL r f.1,JjU t f.2]
theorem JhO{A:AH}{s:A9}{x:V}{v:A3}(rx:Jaa x v)(fx:Je6 x=true):∀{xs:List V}{us:List A3},Y2 xs us->xs.all Je6=true->∀u∈us,AE A s u v (eqU x u)
 | _,_,.nil,_=>fun u hu=>by cases hu
 | y::xs,u::us,.cons r t,f=>fun u' hu=>by
  rw[Mv,As]at f
  rcases Aq.mp hu with rfl|hu
  .rw[JpL r f.1];exact Jp1 r rx f.1 fx
  .exact JhO rx fx t f.2 u' hu
def inV(x:V)(xs:List V):Bool:=xs.any fun y=>eqV y x
def rIn(K:WF)(neg:Bool):R2:=fun x y H Q=>∃p xs,y=.ref p/\(SqL K H p xs\/SqT K H p xs)/\Je6 x=true/\xs.all Je6=true/\Q (.bl (if neg then !inV x xs else inV x xs)) H
theorem JfF:OpR X (Bs .In) (rIn X.K false):=by
 intro pins s σ H x y v u Q I rx ry h;obtain⟨p,xs,rfl,hq,fx,fs,q⟩:=h;cases ry
 rcases hq with hq|hq
 .obtain⟨its,r,pl,hz⟩:=I.list hq;refine SeqAt.in_listAt (eqU x) pl.isList (fun w hw=>JhO rx fx r fs w (by simpa using hw)) ⟨.bl _,H,I,rfl,?_⟩;rw[show its.toArray.any (eqU x)=its.any (eqU x) by simp,JjU r fs];exact q
 .obtain⟨its,r,pl,hz⟩:=I.tuple hq;refine SeqAt.in_tupleAt (eqU x) pl (fun w hw=>JhO rx fx r fs w (by simpa using hw)) ⟨.bl _,H,I,rfl,?_⟩;rw[show its.toArray.any (eqU x)=its.any (eqU x) by simp,JjU r fs];exact q
theorem JM:Jbg X (.builtin "len") (fun xs H Q=>∃p ys,xs=[.ref p]/\(SqL X.K H p ys\/SqT X.K H p ys)/\Q (.int ys.length) H):=by
 intro pins s σ H xs us Q I r h;obtain⟨p,ys,rfl,hq,q⟩:=h;obtain⟨u,rfl,rx⟩:=Jcq r;cases rx;have hn:=JiI
 rcases hq with hq|hq
 .obtain⟨its,r',pl,hz⟩:=I.list hq;have hlen:=r'.length;exact Calls.call_len_list pl.isList (by simp only[AX]<;>omega) ⟨.int ys.length,H,I.tok _,⟨s.toks+1,by rw[AX,hlen]⟩,q⟩
 .obtain⟨its,r',pl,hz⟩:=I.tuple hq;have hlen:=r'.length;exact len_tuple pl (by simp only[AX]<;>omega) ⟨.int ys.length,H,I.tok _,⟨s.toks+1,by rw[AX,hlen]⟩,q⟩
theorem Ji5:Jbg X (.type "list") (fun xs H Q=>∃p ys,xs=[.ref p]/\(SqL X.K H p ys\/SqT X.K H p ys)/\∀l,H l=none->Q (.ref l) (upd H l (.lst ys))):=by
 intro pins s σ H xs us Q I r h;obtain⟨p,ys,rfl,hq,q⟩:=h;obtain⟨u,rfl,rx⟩:=Jcq r;cases rx
 have fin:∀(its:List A3),Y2 ys its->ys.length<=AK->∀(h':Heap)(c':Nat),(∀b o',s.heap.get? b=some o'->h'.get? b=some o')->
   h'.get? s.heap.objs.size=some { cls:=.type "list",dict:=none,data:=.seq its.toArray c',slots:=#[] }->EP X pins σ Q (.ref s.heap.objs.size) { s with heap:=h' }:=fun its r' hz h' c' kp e=>
  ⟨.ref s.heap.objs.size,_,I.laid (t':=s.toks) kp (A6 _) (show J4 X.prog X.w _ h' _ (.lst ys) from⟨hz,its,c',r',e⟩),rfl,q _ (I.hok.fresh (A6 _))⟩
 rcases hq with hq|hq
 .obtain⟨its,r',pl,hz⟩:=I.list hq;have hlen:=r'.length;obtain⟨o,ho,hc,n,hd⟩:=pl.isList;exact call_list_seq p (.inl rfl) ho hc hd (fun h' c' kp e=>fin its r' hz h' c' kp e) (by simp only[AX]<;>omega)
 .obtain⟨its,r',pl,hz⟩:=I.tuple hq;have hlen:=r'.length;obtain⟨o,ho,hc,n,hd⟩:=pl;exact call_list_seq p (.inr rfl) ho hc hd (fun h' c' kp e=>fin its r' hz h' c' kp e) (by simp only[AX]<;>omega)
theorem Jhy:Jbg X (.type "tuple") (fun xs H Q=>∃p ys,xs=[.ref p]/\((SqL X.K H p ys/\∀l,H l=none->Q (.ref l) (upd H l (.tup ys)))\/(SqT X.K H p ys/\Q (.ref p) H))):=by
 intro pins s σ H xs us Q I r h;obtain⟨p,ys,rfl,h⟩:=h;obtain⟨u,rfl,rx⟩:=Jcq r;cases rx
 rcases h with⟨hq,q⟩|⟨hq,q⟩
 .obtain⟨its,r',pl,hz⟩:=I.list hq;have hlen:=r'.length;refine call_tuple_list pl.isList (fun h' kp=>?_) (by simp only[AX]<;>omega)
  have I1:Inv X pins σ H { s with heap:=h' }:=I.kept (t':=s.toks) kp
  have I2:Inv X pins σ (upd H h'.objs.size (.tup ys)) { s with heap:=h'.push { cls:=.type "tuple",data:=.seq its.toArray } }:=
   I1.laid (t':=s.toks) (fun b o e=>A4 _ e) (A6 _) (show J4 X.prog X.w _ _ _ (.tup ys) from⟨hz,its,r',M3.new _ _⟩)
  exact⟨.ref h'.objs.size,_,I2,rfl,q _ (I1.hok.fresh (A6 _))⟩
 .obtain⟨its,r',pl,hz⟩:=I.tuple hq;exact call_tuple_same pl ⟨.ref p,H,I,rfl,q⟩
def tyV(K:WF)(T:String)(x:V)(H:Hp):Prop:=match x with
 | .str _=>T = "str"
 | .int _=>T = "int"
 | .ref p=>(T = "list"/\∃xs,SqL K H p xs)\/(T = "tuple"/\∃o,K.lookup p=some o/\o.cls=.type "tuple"/\o.dict=none)\/
   (T = "dict"/\((∃kvs,H p=some (.dK kvs))\/∃kvs,H p=some (.dT kvs)))\/(T = "set"/\∃S n,H p=some (.set S n))
 | _=>False
theorem Jp8{pins:PL}{σ:St}{H:Hp}{s:A9}{T:String}{x:V}{v:A3}(I:Inv X pins σ H s)(r:Jaa x v)(ty:tyV X.K T x H) :
  s.TypeIs v T/\∀a,v=.ref a->∃ob,s.heap.get? a=some ob/\ob.dict=none:=by
 cases x with
 | str z=>
  obtain⟨t,rfl⟩:=r;cases(show T = "str" from ty);exact⟨typeIs_str s z t,fun _ e=>nomatch e⟩
 | int i=>
  obtain⟨t,rfl⟩:=r;cases(show T = "int" from ty);exact⟨typeIs_int s i t,fun _ e=>nomatch e⟩
 | ref p=>
  cases r
  rcases ty with⟨rfl,xs,hq⟩|⟨rfl,o,hk,hc,hd⟩|⟨rfl,hk⟩|⟨rfl,S,n,hk⟩
  .obtain⟨its,_,pl,_⟩:=I.list hq;refine⟨pl.isList.typeIs,fun a e=>?_⟩;cases e;obtain⟨o,n,e,c,hd,_⟩:=pl;exact⟨o,e,hd⟩
  .refine⟨⟨o,I.kIn p o hk,hc⟩,fun a e=>?_⟩;cases e;exact⟨o,I.kIn _ o hk,hd⟩
  .have z:∃o,s.heap.get? p=some o/\o.ExactDict:=by
    rcases hk with⟨kvs,hk⟩|⟨kvs,hk⟩
    .obtain⟨_,_,_,_,o,_,_,e,ex,_⟩:=I.hok p _ hk;exact⟨o,e,ex⟩
    .obtain⟨_,_,_,_,o,_,_,e,ex,_⟩:=I.hok p _ hk;exact⟨o,e,ex⟩
   obtain⟨o,e,ex⟩:=z;refine⟨⟨o,e,ex.1⟩,fun a e2=>?_⟩;cases e2;exact⟨o,e,ex.2.1⟩
  .obtain⟨o,_,_,_,e,ex,_⟩:=I.hok p _ hk;refine⟨⟨o,e,ex.1⟩,fun a e2=>?_⟩;cases e2;exact⟨o,e,ex.2.1⟩
 | _=>exact BS ty
def Jts(K:WF)(T:String)(r:V->List V->Hp->VK->Prop)(to:TE):TE:=fun σ H Q=>to σ H fun x H1=>tyV K T x H1/\r x [] H1 Q
def tBM(K:WF)(T:String)(r:V->List V->Hp->VK->Prop)(to:TE)(t:TA):TE:=fun σ H Q=>to σ H fun x H1=>tyV K T x H1/\t σ H1 fun xs H2=>r x xs H2 Q
variable {o e:Expr} {es:List Expr} {to:TE} {t:TA} {name:Str} {apos cpos:Pos} {T id:String} {r:V→List V→Hp→VK→Prop}
theorem Jli(pa:PlainAttrs T)(slot:Slot T name id)(hty:typeOf (.builtin id)=pure (.type "method_descriptor"))(hm:MtR X id r)(ho:PE X o to)
  (hbase:Dv o name X.env (eval o X.env)=eval o X.env:=by rfl) (hline:(apos.endLine==cpos.line)=true:=by rfl):PE X (.Call (.Attribute o name apos) [] [] cpos) (Jts X.K T r to):=by
 intro pins s σ H Q I h;refine wpAny_Call_method0_late hbase hline (thn (ho pins s σ H _ I h) fun v s1 hzz=>?_);obtain⟨x,H1,I1,r1,ty,q1⟩:=hzz;obtain⟨h1,h2⟩:=Jp8 I1 r1 ty;exact⟨T,id,pa,slot,hty,h1,h2,Dx rfl (PySem.evalArgs_none (hm pins s1 σ H1 x [] v [] Q I1 r1 .nil q1))⟩
theorem Jho(pa:PlainAttrs T)(slot:Slot T name id)(hty:typeOf (.builtin id)=pure (.type "method_descriptor"))(hm:MtR X id r)(ho:PE X o to)(ha:PA X (e::es) t)
  (hbase:Dv o name X.env (eval o X.env)=eval o X.env:=by rfl)
  (hfew:((DF cpos (AR (e::es) X.env)).all (fun x=>!x.1)&&(KH cpos (Gr [] X.env)).all (fun x=>x.1.isSome)
  &&decide ((e::es).length+([]:List Ku).length+(if([]:List Ku).isEmpty then 0 else 1)<30))=true:=by rfl)
  (hline:(apos.endLine==cpos.line)=true:=by rfl) (hs:AR (e::es) X.env=(false,eval e X.env)::AR es X.env:=by rfl) (hplain:(DF cpos (AR es X.env)).any (·.1)=false:=by rfl) :
  PE X (.Call (.Attribute o name apos) (e::es) [] cpos) (tBM X.K T r to t):=by
 intro pins s σ H Q I h;refine wpAny_Call_method_late hbase hfew hline rfl (thn (ho pins s σ H _ I h) fun v s1 hzz=>?_);obtain⟨x,H1,I1,r1,ty,q1⟩:=hzz;obtain⟨h1,h2⟩:=Jp8 I1 r1 ty;refine⟨T,id,pa,slot,hty,h1,h2,?_⟩;have hA:=ha cpos pins s1 σ H1 _ I1 q1;rw[hs]at hA ⊢;refine Dx (by show(false||(DF cpos (AR es X.env)).any (·.1))=false;rw[hplain]<;>rfl) (Df ?_)
 refine thn hA fun us s2 hzz=>?_;obtain⟨vs,H2,I2,r2,q2⟩:=hzz;exact hm pins s2 σ H2 x vs v us Q I2 r1 r2 q2
end
def MtM(X:Cx)(id:String)(r:V->List V->Hp->VK->Prop):Prop:=
 ∀(pins:PL) (s:A9) (σ:St) (H:Hp) (x:V) (xs:List V) (v:A3) (us:List A3) (Q:VK),Inv X pins σ H s->Jaa x v->Y2 xs us->r x xs H Q->
  AV (Af X.prog X.w) X.A (call (.builtin id) (v::us)) (EP X pins σ Q) X.xe s
theorem Y2.one:∀{x:V}{us:List A3},Y2 [x] us->∃u,us=[u]/\Jaa x u
 | _,_,.cons r .nil=>⟨_,rfl,r⟩
theorem Y2.zero:∀{us:List A3},Y2 [] us->us=[]
 | _,.nil=>rfl
theorem Y2.dropLast{xs:List V}{us:List A3}(h:Y2 xs us):Y2 xs.dropLast us.dropLast:=by
 induction h with
 | nil=>exact .nil
 | cons r t ih=>
  cases t with
  | nil=>exact .nil
  | cons q t'=>exact .cons r ih
theorem JlK{α:Type}(l:List α):l.eraseIdx (l.length-1)=l.dropLast:=by
 induction l with
 | nil=>rfl
 | cons a r ih=>
  cases r with
  | nil=>rfl
  | cons b r=>
   have e:(a::b::r).length-1=((b::r).length-1)+1:=by
    have h1:(a::b::r).length=r.length+2:=rfl;have h2:(b::r).length=r.length+1:=rfl;omega
   rw[e,List.eraseIdx_cons_succ,ih]
   all_goals rfl
section
variable {X:Cx} {pins:PL} {σ:St} {H:Hp} {s:A9} {l b:Addr} {xs ys zs:List V}
theorem Inv.lset{its its':List A3}{n:Nat}{f:Array A3->Array A3}{t':Nat}(I:Inv X pins σ H s)(hH:H l=some (.lst xs))
  (e:s.heap.get? l=some { cls:=.type "list",data:=.seq its.toArray n }) (hf:f its.toArray=its'.toArray) (hv:Y2 ys its') (hz:ys.length<=AK) :
  Inv X pins σ (upd H l (.lst ys)) { s with heap:=s.heap.update l (DH f),toks:=t' }:=by
 have q:=PySem.IsL.update e f;rw[hf]at q;refine I.write (x:=l) (e:=l) (by rw[hH];exact trivial) (.inl rfl) (fun b' u hb hu=>(Dq s.heap (DH f) (EK hb)).trans hu) ⟨_,q⟩ ?_;exact⟨hz,its',_,hv,q⟩
theorem Inv.lnew{its:List A3}{t':Nat}(I:Inv X pins σ H s)(hv:Y2 ys its)(hz:ys.length<=AK) :
  Inv X pins σ (upd H s.heap.objs.size (.lst ys)) { s with heap:=s.heap.push { cls:=.type "list",data:=.seq its.toArray },toks:=t' }:=
 I.laid (fun _ _ q=>A4 _ q) (A6 _) ⟨hz,its,0,hv,Aw _ rfl⟩
theorem Inv.fresh(I:Inv X pins σ H s):H s.heap.objs.size=none:=I.hok.fresh (A6 _)
theorem Inv.lstM(I:Inv X pins σ H s)(hH:H l=some (.lst xs)):xs.length<=AK/\∃(its:List A3)(n:Nat),Y2 xs its/\xs.length=its.length/\s.heap.get? l=some { cls:=.type "list",data:=.seq its.toArray n }:=by
 obtain⟨z,its,n,r,e⟩:=I.hok l _ hH;exact⟨z,its,n,r,r.length,e⟩
end
section
variable {X:Cx}
inductive ApI(x:V)(vs:List V)(H:Hp)(Q:VK):Prop
 | mk (l:Addr) (xs:List V) (y:V) (e:x=.ref l) (d:vs=[y]) (h:H l=some (.lst xs)) (z:xs.length<AK) (q:Q .non (upd H l (.lst (xs++[y])))):ApI x vs H Q
def Jq7:V->List V->Hp->VK->Prop:=fun x vs H Q=>ApI x vs H Q
theorem Jaq:MtM X "list.append" Jq7:=by
 intro pins s σ H x vs v us Q I rx rv h;obtain⟨l,xs,y,rfl,rfl,hH,hz,q⟩:=h;cases rx;obtain⟨u,rfl,ru⟩:=rv.one;obtain⟨z,its,n,r,hl,e⟩:=I.lstM hH;refine call_meets F.slot_list_append ⟨_,e,rfl⟩ F.entry_list_append (F.args_list_append_2 _ _) (PySem.list_append l its.toArray n u (by rw[AX];omega)) ⟨e,?_⟩;refine⟨.non,_,I.lset (its':=its++[u]) hH e (by simp) (r.append (.cons ru .nil)) ?_,rfl,q⟩;rw[AQ,BG];omega
def JuF:V->List V->Hp->VK->Prop:=fun x vs H Q=>∃l xs y,x=.ref l/\vs=[]/\H l=some (.lst xs)/\xs[xs.length-1]?=some y/\Q y (upd H l (.lst xs.dropLast))
theorem Jql:MtM X "list.pop" JuF:=by
 intro pins s σ H x vs v us Q I rx rv h;obtain⟨l,xs,y,rfl,rfl,hH,hy,q⟩:=h;cases rx;have hus:=rv.zero;subst hus;obtain⟨z,its,n,r,hl,e⟩:=I.lstM hH;obtain⟨u,hu,ru⟩:=r.get hy
 have hy':its.toArray[its.toArray.size-1]?=some u:=by
  show its.toArray[its.length-1]?=some u;rw[<- Cp,<- hl];exact hu
 refine call_meets F.slot_list_pop ⟨_,e,rfl⟩ F.entry_list_pop (F.args_list_pop_1 _) (MeetsSeq.list_pop_last l its.toArray n u hy' (by rw[AX];omega)) ⟨e,?_⟩;refine⟨y,_,I.lset (its':=its.dropLast) hH e ?_ r.dropLast ?_,ru,q⟩
 .show its.toArray.eraseIdxIfInBounds (its.toArray.size-1)=its.dropLast.toArray;rw[AX,List.eraseIdxIfInBounds_toArray,JlK]
 .rw[List.length_dropLast];omega
inductive CaI(x y:V)(H:Hp)(Q:VK):Prop
 | mk (l b:Addr) (xs zs:List V) (e:x=.ref l) (d:y=.ref b) (h:H l=some (.lst xs)) (j:H b=some (.lst zs)) (z:xs.length+zs.length<=AK) (q:∀p,H p=none->Q (.ref p) (upd H p (.lst (xs++zs)))):CaI x y H Q
def Jus:R2:=fun x y H Q=>CaI x y H Q
theorem JgX:OpR X (C0 .Add) Jus:=by
 intro pins s σ H x y v u Q I rx ry h;obtain⟨l,b,xs,zs,rfl,rfl,hH,hB,hz,q⟩:=h;cases rx;cases ry;obtain⟨z,its,n,r,hl,e⟩:=I.lstM hH;obtain⟨z2,its2,n2,r2,hl2,e2⟩:=I.lstM hB;refine PySem.P.add_list e e2 ?_ (by rw[AX,AX];omega)
 have ea:its.toArray++its2.toArray=(its++its2).toArray:=by simp
 rw[ea];exact⟨.ref _,_,I.lnew (t':=s.toks) (r.append r2) (by rw[AQ];omega),rfl,q _ I.fresh⟩
end
end L2
namespace Att
open PySem PySem.W PySem.Calls PyProof.Rows
theorem Jgh{P:KY}{h:Heap}:∀(ns:List Int)(vs:List A3),WellAll P h vs (ns.map WData.int)->Bt vs ns:=by
 intro ns
 induction ns with
 | nil=>
  intro vs w;rw[Dn]at w;cases w;exact .nil
 | cons n ns ih=>
  intro vs w;rw[Al]at w
  cases w with
  | cons a b=>
   cases a;exact .cons _ _ (ih _ b)
theorem Jnz{l:MK}{n:Nat}(hn:l.most=some n){P:KY}{h:Heap}{args:List WData}{vals:List A3}
  (hpre:l.row.toRowW.claim.pre args=true) (hwl:WellAll P h vals args) :
  ∃a vs ns,vals=[A3.ref a]/\args=[WData.list (ns.map WData.int)]/\h.get? a=some { cls:=.type "list",data:=.seq vs.toArray }/\Bt vs ns/\ns.length<=n:=by
 have hsh:MZ.hasAll [] args [.list .int]=true:=(pre_splitW hpre).1;have hc:l.pre.holds [] { args:=args }=true:=(pre_splitW hpre).2;obtain⟨d,r,rfl,h1,h2⟩:=hasAllW_cons hsh;obtain rfl:=hasAllW_nil h2;obtain⟨xs,rfl,h3⟩:=hasW_list h1;obtain⟨ns,rfl⟩:=items_int h3
 have hlen:ns.length<=n:=by
  unfold MK.pre at hc
  have h4:(WTm.not (.lt (.lit (.int (n:Int))) (.len (.arg 0)))).holds [] { args:=[.list (ns.map .int)] }=true:=by
   have h4:=(holds_andW hc).1;rw[hn]at h4;exact h4
  have h5:=condW_of h4 (w_not (w_lt w_lit (w_len_list (w_arg rfl))));rw[A2]at h5;refine Nat.le_of_not_lt fun q=>?_
  have q':(n:Int)<((ns.length:Nat):Int):=by omega
  first
   | (rw[decide_eq_true q']at h5;exact absurd h5 (by decide))
   | (simp at h5;omega)
 cases hwl with
 | cons w1 w2=>
  cases w2
  cases w1 with
  | list ho hall=>exact⟨_,_,ns,rfl,rfl,ho,Jgh ns _ hall,hlen⟩
theorem Jmd(l:MK)(args:List WData):l.row.toRowW.claim.post args (.bool true) args=true:=
 postW_of (r:=l.row.toRowW) (X:=(true==true))
  (show MZ.has [] (.bool true) .bool=true by first|rfl|decide|simp[MZ.has,MZ.arms,MZ.armsAll])
  (show(WTm.eq .res (.lit (.bool true))).value [] { args:=args,res:=some (.bool true),after:=args }=some (.bool (true==true)) from w_eq_bool (w_res rfl) w_lit) rfl
theorem attach_call{l:MK}{n:Nat}{q:Ab}{loose:List Str}{XP:(Str->Option A3)->Heap->Prop}{YP:At->Heap->Prop}{d:DefRec}
  (hn:l.most=some n) (hdf:d.params.defaults=[])
  (call:∀(w:At)(s₀ s₁:A9)(mg mb:Str->Option A3)(fa:Addr)(o:Obj)(pm cd doc:A3)(a:Addr)(vs:List A3)(ns:List Int),
   Ground q loose [] XP w s₀ mg mb s₁.heap->YP w s₁.heap->
   s₁.heap.get? fa=some o->o.data=.func (docDef d.name d.params d.body d.scope pm cd doc)->s₁.heap.CodeRec cd d.name->mg d.name=some (.ref fa)->
   s₁.heap.get? a=some { cls:=.type "list",data:=.seq vs.toArray }->Bt vs ns->ns.length<=n->s₁.gens=#[]->
   DD (Af l.prog w) GN (.call (.ref fa) ⟨[.ref a],[]⟩) (fun r s'=>r=.ok (.ret (.bool true))/\OldK s₁.heap s'.heap/\s'.os=s₁.os/\Ep s'.gens) s₁) :
  WalkO q loose XP YP l.row.toRowW d [] (fun f vs=>KM f vs):=by
 intro w s₀ s₁ mg mb G Y fa o pm cd doc dV kV ho hd hcd hD hmg hg args vals as hpre hlay hrd hwl hlo;obtain rfl:dV=.none:=Dflts.none hD hdf;obtain rfl:kV=.none:=Dflts.noKw hD;obtain⟨a,vs,ns,rfl,rfl,hobj,hints,hlen⟩:=Jnz hn hpre hwl;refine enter_call (D7 (call w s₀ s₁ mg mb fa o pm cd doc a vs ns G Y ho (fd_plain hd) hcd hmg hobj hints hlen hg) fun r s' hq=>?_);obtain⟨rfl,h2,h3,h4⟩:=hq;exact⟨.inl ⟨.bool true,.bool true,[],rfl,fun _=>rfl,.bool true,Jmd l _,fun _=>⟨Ch.nil,fun _ hm=>(nomatch hm)⟩⟩,h2,h3,h4⟩
section
variable {prog:Ab} {w:At} {A:AH} {E:A3→A9→Prop} {s:A9} {K:Frag}
noncomputable def Jt7(h:Heap)(L d:Addr):List (Addr×Obj):=(AT h.objs.size).filterMap fun a=>if a=L\/a=d then none else(h.get? a).map fun o=>(a,o)
end
end Att
namespace L2
open PySem PySem.Spec PyProof.Rows
theorem Jjq:∀{vs:List A3}{ns:List Int},Bt vs ns->Y2 (ns.map V.int) vs
 | _,_,.nil=>.nil
 | _,_,.cons n t h=>.cons ⟨t,rfl⟩ (Jjq h)
def Jtm(H:Hp):Prop:=∀b,H b=none\/∃o xs,H b=some (.frz o (.lst xs))
theorem Jo3{P:Ab}{w:At}{K:WF}{mg mb:MO}{CX:CXT}{k:Nat}{fa a:Addr}{fd:Aa}{x:Str}{sp:Sp}{s₁:A9}{vs:List A3}{ns:List Int}
  (KX:K.In s₁.heap) (hns:s₁.heap.Ns AB mg) (hb:s₁.heap.Ns KD mb) (hbb:∀x:Str,x≠"__name__"->mb x=Bw x) (hlim:s₁.heap.NoLimit) (hg:s₁.gens=#[])
  (ha:s₁.heap.get? a=some { cls:=.type "list",data:=.seq vs.toArray }) (hi:Bt vs ns) (hl:ns.length<=AK) (hr:JdG k GN)
  (F:∀base:Heap,K.In base->base.Ns AB mg->YU P w K mg base CX k fa fd [x] sp) (hbind:∀(s:A9)(u:A3),Kj s fd ⟨[u],[]⟩ [(x,u)])
  (hsp:∀H:Hp,Jtm H->SqL K H a (ns.map V.int)->sp [.ref a] H (fun v _=>v=.bl true) fun _ _ _=>False)
  (hCX:∀H e s',CX [] H s₁ (fun _ _ _=>False) e s'->False) :
  DD (Af P w) GN (.call (.ref fa) ⟨[.ref a],[]⟩) (fun r s'=>r=.ok (.ret (.bool true))/\OldK s₁.heap s'.heap/\s'.os=s₁.os/\Ep s'.gens) s₁:=by
 have rv:=Jjq hi;have lenV:=hi.length
 have core:∀H:Hp,Jtm H->SqL K H a (ns.map V.int)->HOk P w H s₁.heap->(∀b,H b≠none->b=a)->(H a≠none->K.lookup a=none)->
   DD (Af P w) GN (.call (.ref fa) ⟨[.ref a],[]⟩) (fun r s'=>r=.ok (.ret (.bool true))/\OldK s₁.heap s'.heap/\s'.os=s₁.os/\Ep s'.gens) s₁:=by
  intro H hO hS hok hA hK;have base_of:∀{b:Addr}{o:Obj},s₁.heap.get? b=some o->H b=none->(Jow s₁.heap H).get? b=some o:=fun e n=>JoY e n
  have noA:∀{b:Addr}{o:Obj}{es:Array GR}{ep:Nat},s₁.heap.get? b=some o->o.data=.dict es ep->H b=none:=fun{b o es ep} e d=>by
   cases q:H b with
   | none=>rfl
   | some u=>
    have e':b=a:=hA b (by rw[q];simp);subst e';rw[ha]at e;cases e;have d':Data.seq vs.toArray _=Data.dict es ep:=d;cases d'
  have nsK:∀{b:Addr}{m:MO},s₁.heap.Ns b m->(Jow s₁.heap H).Ns b m:=fun{b m} ⟨o,es,ep,e,d,r⟩ =>⟨o,es,ep,base_of e (noA e d),d,r⟩
  have hKb:K.In (Jow s₁.heap H):=fun b o e=>base_of (KX b o e) (by
   cases q:H b with
   | none=>rfl
   | some u=>
    have e':b=a:=hA b (by rw[q];simp);subst e'
    rw[hK (by rw[q];simp)]at e;cases e)
  have hM:Mod K mg (Jow s₁.heap H):=⟨hKb,nsK hns,⟨mb,nsK hb,hbb⟩,let ⟨mc,h1,h2⟩:=hlim;⟨mc,nsK h1,h2⟩⟩;have e0:JqI P w K mg (Jow s₁.heap H) GN [] s₁ H:=⟨rfl,hM,fun b o e=>Jqs e,K4 (JnA _ _),trivial,fun b hb=>absurd (show b∈([]:List Addr) from hb) (by simp),hok,.of_eq hg⟩;refine D7 ((F _ hKb (nsK hns)).run GN [] s₁ H ⟨[.ref a],[]⟩ [.ref a] [.ref a] _ _ hr e0 (hbind s₁ (.ref a)) (.cons rfl .nil) (hsp H hO hS)) fun r s' h=>?_
  cases r with
  | error e=>exact(hCX H e s' h).elim
  | ok fl=>
   cases fl with
   | next=>exact BS h
   | brk=>exact BS h
   | cont=>exact BS h
   | ret u=>
    obtain⟨v,H',os,bare,un,hok',r',q⟩:=h;have q':v=.bl true:=q;subst q';obtain rfl:u=A3.bool true:=r';refine⟨rfl,OldK.of_keep fun b o e=>?_,os,bare⟩
    cases q:H b with
    | none=>exact un.keep b o e q (by intro z;exact absurd (show b∈([]:List Addr) from z) (by simp)) (by simp)
    | some u=>
     rcases hO b with z|⟨ob,xs,z⟩
     .rw[q]at z;cases z
     .have z2:=un.frzs b ob _ z;obtain⟨e1,_⟩:=hok b _ z;obtain⟨e2,_⟩:=hok' b _ z2;rw[e]at e1;cases e1;exact e2
 cases hk:K.lookup a with
 | some o=>
  have e:=KX a o hk;rw[ha]at e;cases e;refine core (fun _=>none) (fun _=>.inl rfl) (.inr ⟨_,vs.toArray,_,hk,rfl,rfl,rfl,by rw[AX,lenV];exact hl,by simpa using rv⟩) (fun b u z=>by have z':(none:Option HO)=some u:=z;cases z') (fun b z=>absurd rfl z) fun z=>absurd rfl z
 | none=>
  refine core (fun b=>if b=a then some (.frz { cls:=.type "list",data:=.seq vs.toArray } (.lst (ns.map V.int)))else none) (fun b=>?_) (.inl (.inr ⟨{ cls:=.type "list",data:=.seq vs.toArray },if_pos rfl⟩)) (fun b u z=>?_) (fun b z=>?_) fun _=>hk
  .by_cases hb:b=a
   .exact .inr ⟨_,_,if_pos hb⟩
   .exact .inl (if_neg hb)
  .by_cases hb:b=a
   .have z':=(if_pos hb).symm.trans z;cases z';subst hb;exact⟨ha,by rw[A2];exact hl,vs,_,rv,ha⟩
   .have z':=(if_neg hb).symm.trans z;cases z'
  .by_cases hb:b=a
   .exact hb
   .exact absurd (if_neg hb) z
abbrev KOf{K:WF}{h:Heap}(_:K.In h):WF:=K
theorem Jqp{l:Gx}{n k:Nat}{q:Ab}{loose:List Str}{XP:(MO)->Heap->Prop}{YP:At->Heap->Prop}{d:DefRec}{K:KY->WF}{CX:At->CXT}{sp:At->Sp}{x:Str}
  (hn:l.most=some n) (hn2:n<=AK) (hdf:d.params.defaults=[]) (hr:JdG k GN)
  (hY:∀(w:At)(h:Heap),YP w h->(K w.params).In h)
  (F:∀(w:At)(mg:MO)(fa:Addr)(h:Heap),(K w.params).In h->h.Ns AB mg->mg d.name=some (.ref fa)->
   ∃fd:Aa,(∀(s:A9)(u:A3),Kj s fd ⟨[u],[]⟩ [(x,u)])/\
    ∀base:Heap,(K w.params).In base->base.Ns AB mg->YU l.prog w (K w.params) mg base (CX w) k fa fd [x] (sp w))
  (hsp:∀(w:At)(H:Hp)(a:Addr)(ns:List Int),ns.length<=n->Jtm H->SqL (K w.params) H a (ns.map V.int)->sp w [.ref a] H (fun v _=>v=.bl true) fun _ _ _=>False)
  (hCX:∀(w:At)(H:Hp)(s:A9)(e:A3)(s':A9),CX w [] H s (fun _ _ _=>False) e s'->False) :
  Mq q loose XP YP l.row.toRowW d [] (fun f vs=>KM f vs):=by
 refine Att.attach_call hn hdf fun w s₀ s₁ mg mb fa o pm cd doc a vs ns G Y ho hd hcd hmg hobj hints hlen hg=>?_;have KX:=hY w _ Y;obtain⟨fd,hb,hF⟩:=F w mg fa _ KX G.T.g hmg;exact Jo3 KX G.T.g G.T.b G.T.builtins G.T.nolimit hg hobj hints (B0 hlen hn2) hr hF hb (fun H hO hS=>hsp w H a ns hlen hO hS) fun H e s'=>hCX w H s₁ e s'
abbrev CX0:CXT:=fun _ _ _ _ _ _=>False
abbrev E0:XK:=fun _ _ _=>False
theorem Jbw{X:Cx}:JeV CX0 X E0:=fun _ _ _ _ _ _ _ h=>h.elim
structure Fun(K:WF)(x qual:Str)(st:Stmt)(f:Addr)(fd:Aa):Prop where
 ex:∃(oc:A3)(od:Option Addr)(kV doc pm:A3)(an:Option Addr)(cdv ct:A3) (osl:Array (Option A3)),
  fd=Dl x qual (JfY st) (YO st) (Ji st) .none kV doc pm an cdv ct/\K.lookup f=some ⟨oc,od,.func fd,osl⟩ /\GB K cdv qual=true
 kp:Cv K (.ref f)=true
section
variable {P:Ab} {w:At} {K:WF} {mg:Str→Option A3} {base:Heap}
theorem Fun.ok{x qual:Str}{st:Stmt}{f:Addr}{fd:Aa}{N ps:List Str}{k:Nat}{sp:Sp}(F:Fun K x qual st f fd)(S:Ju N ps (Ji st))(len:∀vs H Q E,sp vs H Q E->vs.length=ps.length)
  (hbody:∀(cdv:A3)(A:AH)(outer:List Env)(s:A9)(H:Hp)(vs:List V)(Q:VK)(E:XK),JdG k (A.deeper (Cm qual (Ji st) s.heap.objs.size f cdv))->sp vs H Q E->
   ∃t,PSs (Jg1 CX0 P w K mg base N qual (Ji st) f cdv A outer s H E).nox (YO st) t/\t { nx:=fun _ H'=>Q .non H',rt:=Q } (JhZ N vs) H):YU P w K mg base CX0 (k+1) f fd ps sp:=by
 obtain⟨oc,od,kV,doc,pm,an,cdv,ct,osl,rfl,lk,hcd⟩:=F.ex;refine JsX lk hcd S len fun A outer s H vs Q E hr hsp=>?_;obtain⟨t,h,q⟩:=hbody cdv A outer s H vs Q E hr hsp;exact⟨t,h.nox,q⟩
theorem Fun.binds{x qual:Str}{st:Stmt}{f:Addr}{fd:Aa}{ps:List Str}(F:Fun K x qual st f fd)
  (h:∀(kV doc pm:A3)(an:Option Addr)(cdv ct:A3)(us:List A3),us.length=ps.length->bindArgs (Dl x qual (JfY st) (YO st) (Ji st) .none kV doc pm an cdv ct) ⟨us,[]⟩=pure (ps.zip us)):Jdj K fd ps []:=by
 obtain⟨oc,od,kV,doc,pm,an,cdv,ct,osl,rfl,lk,hcd⟩:=F.ex;exact .all (h kV doc pm an cdv ct)
theorem Jp4{x qual:Str}{st:Stmt}{f:Addr}{oc:A3}{od an:Option Addr}{osl:Array (Option A3)}{kV doc pm cdv ct:A3}(l:K.lookup f=some ⟨oc,od,.func (Dl x qual (JfY st) (YO st) (Ji st) .none kV doc pm an cdv ct),osl⟩)
  (c:GB K cdv qual=true) (k:Cv K (.ref f)=true):Fun K x qual st f (Dl x qual (JfY st) (YO st) (Ji st) .none kV doc pm an cdv ct):=⟨⟨oc,od,kV,doc,pm,an,cdv,ct,osl,rfl,l,c⟩,k⟩
end
theorem JbH{A:AH}{k:Nat}(hr:JdG k A):A.units+1<DR:=BR (Hq (by decide:1<=64) _) hr.units
theorem Jz{n:Nat}(h:n<=1000):n<AK:=BR h (by decide)
section
variable {X:Cx}
theorem pv(i:Nat){x:Str}{pos:Pos}(hN:X.N[i]?=some x:=by rfl)(hv:Vis X.env.scope x:=by first|exact Ds rfl|exact Ho (Ds rfl)|exact Ho (Ho rfl))(hd:(x==("__debug__" : Str))=false:=by decide)
  (hcd:(x==("__classdict__" : Str))=false:=by decide):PE X (.Name x pos) (Jtp i):=Jr4 hN hv hd hcd
theorem JnR:Jbg X (.builtin "len") (fun xs H Q=>∃a kvs,xs=[V.ref a]/\H a=some (.dK kvs)/\Q (.int kvs.length) H):=by
 intro pins s σ H xs us Q I r h;obtain⟨a,kvs,rfl,ha,q⟩:=h;obtain⟨u,rfl,ru⟩:=Jcq r;cases ru;exact Jtx I (.inl ha) fun t s' I'=>⟨.int kvs.length,H,I',⟨t,rfl⟩,q⟩
end
theorem Jdv{A B:Prop}(h:B):if false=true then A else B:=by
 rw[if_neg AW];exact h
theorem Jfa{A B:Prop}(h:A):if true=true then A else B:=by
 rw[if_pos rfl];exact h
theorem JY{c A B:Prop}[Decidable c](h1:c->A)(h2:¬c->B):if c then A else B:=by
 by_cases h:c
 .rw[if_pos h];exact h1 h
 .rw[if_neg h];exact h2 h
theorem Jfd{c A B:Prop}[Decidable c](hc:c)(h:B):if(!decide c)=true then A else B:=by
 rw[decide_eq_true hc];exact Jdv h
def JV(H H':Hp):Prop:=∀b o,H b=some o->H' b=some o
theorem JV.refl(H:Hp):JV H H:=fun _ _ h=>h
theorem JV.trans{H H1 H2:Hp}(a:JV H H1)(b:JV H1 H2):JV H H2:=fun c o h=>b c o (a c o h)
theorem JV.free{H H':Hp}(e:JV H H'){l:Addr}(h:H' l=Option.none):H l=Option.none:=by
 cases q:H l with
 | none=>rfl
 | some o=>
  rw[e l o q]at h;cases h
theorem JV.seq{K:WF}{H H':Hp}{a:Addr}{xs:List V}(e:JV H H')(h:SqL K H a xs):SqL K H' a xs:=by
 rcases h with(h|⟨o,h⟩)|h
 .exact .inl (.inl (e _ _ h))
 .exact .inl (.inr ⟨o,e _ _ h⟩)
 .exact .inr h
section
variable {κ:Type} [DecidableEq κ]
theorem Jkv{kvs:List (κ×V)}{k:κ}(h:Jak kvs k=none):¬k∈kvs.map (·.1):=by
 intro m;obtain⟨p,hp,e⟩:=Ag.mp m;have q:(kvs.any fun kv=>decide (kv.1=k))=true:=B9.mpr ⟨p,hp,decide_eq_true e⟩;rw[Jbm,h]at q;exact absurd q (by simp)
theorem JmU{kvs:List (κ×V)}{k:κ}{v:V}(h:Jak kvs k=some v):k∈kvs.map (·.1):=by
 have q:(kvs.any fun kv=>decide (kv.1=k))=true:=by
  rw[Jbm,h]
  all_goals rfl
 obtain⟨p,hp,e⟩:=B9.mp q;exact Ag.mpr ⟨p,hp,of_decide_eq_true e⟩
end
section
variable {prog:Ab} {w:At} {A:AH} {R:KQ→A9→Prop} {s:A9}
theorem Jj6{elt target iter:Expr}{ifs:List Expr}{scope:DV}{pos:Pos}{it acc:A3}{env:Env}(I:Nat->A9->Prop)
  (turn:∀n s,I n s->AV (Af prog w) A (Dy it) (fun r s₁=>match r with
   | none=>R (.ok .next) s₁
   | some v=>AV (Af prog w) A (Ec target it v) (fun _ s1'=>AV (Af prog w) A (assign target env v) (fun _ s₂=>
     AV (Af prog w) A (forIn ifs true fun c r=>if r=true then do let ok <- isTrue c env (eval c env);pure (Dj ok)else pure (Dj r)) (fun ok s₃=>
      if ok=true then AV (Af prog w) A (eval elt env) (fun x s₄=>
       AV (Af prog w) A (call (.builtin "list.append") [acc,x]) (fun _ s₅=>∃m,m<n/\I m s₅) (fun _ _=>False) s₄) (fun _ _=>False) s₃
      else∃m,m<n/\I m s₃) (fun _ _=>False) s₂) (fun _ _=>False) s1') (fun _ _=>False) s₁) (fun _ _=>False) s)
  (n:Nat) (h:I n s) :
  DD (Af prog w) A (.compLoop (.ListComp elt [⟨target,iter,ifs,0⟩] scope pos) 0 it acc env) R s:=by
 refine codeAny_loop rfl I (fun n s hI=>?_) n h;show AV _ A ((compTurn (.ListComp elt [⟨target,iter,ifs,0⟩] scope pos) 0 it acc env).onRaise (fun x=>do noteFrame x env;theTreesLotGoes x)) _ _ s;refine wpAny_noted (wpAny_noRaise ?_);rw[compTurn_list];refine A0 (wpAny_standAt (A0 (thn (turn n s hI) fun r s₁ h₁=>?_)))
 cases r with
 | none=>exact A8 h₁
 | some v=>
  refine A0 (thn h₁ fun _ s1' h1'=>?_);refine A0 (thn h1' fun _ s₂ h₂=>A0 (thn h₂ fun ok s₃ h₃=>?_))
  cases ok with
  | false=>exact A8 ⟨rfl,h₃⟩
  | true=>exact A0 (A0 (thn h₃ fun x s₄ h₄=>A0 (thn h₄ fun _ s₅ h₅=>A8 (A8 ⟨rfl,h₅⟩))))
end
noncomputable def Jkc(env:Env):List (Str×Bx)->List (Str×Addr)->List (Str×Addr)
 | [],acc=>acc
 | (n,k)::r,acc=>if(k==Bx.free)=true then Jkc env r ((n,(env.cells.lookup n).getD 0)::acc)else Jkc env r acc
theorem JcR{env:Env}:∀(l:List (Str×Bx)) (acc:List (Str×Addr)),(∀y∈l,y.2=.free->∃c,env.cells.lookup y.1=some c)->
  (forIn l acc (fun(x:Str×Bx) (cs:List (Str×Addr))=>(if(x.2==Bx.free)=true then(cellOf env x.1 >>= fun a=>pure (Dj ((x.1,a)::cs)))else pure (Dj cs):Sem (ForInStep (List (Str×Addr))))):Sem (List (Str×Addr)))=pure (Jkc env l acc)
 | [],acc,_=>rfl
 | (n,k)::r,acc,h=>by
  rw[Gv];have hr:∀y∈r,y.2=.free->∃c,env.cells.lookup y.1=some c:=fun y hy=>h y (AY _ hy)
  by_cases hk:(k==Bx.free)=true
  .obtain⟨c,hc⟩:=h (n,k) Az (by simpa using hk)
   have hc':cellOf env n=pure c:=by
    unfold cellOf;rw[hc]
   simp only[hk,if_true,hc',pure_bind,Jkc,hc,Dm];exact JcR r _ hr
  .simp only[hk,if_false,pure_bind,Jkc,DN];exact JcR r _ hr
theorem JiJ{env:Env}{scope:DV}(h:∀y∈scope.names,y.2=.free->∃c,env.cells.lookup y.1=some c):closureFor scope env=pure (Jkc env scope.names []):=by
 have q:=JcR (env:=env) scope.names [] h;rw[<- q];unfold closureFor;rw[<- bind_pure (forIn scope.names ([]:List (Str×Addr)) _)]
theorem Jhb{env:Env}:∀(l:List (Str×Bx)) (acc:List (Str×Addr)),(∀y∈l,y.2=.free->∃c,env.cells.lookup y.1=some c)->(∀x c,acc.lookup x=some c->env.cells.lookup x=some c)->
  ∀x c,(Jkc env l acc).lookup x=some c->env.cells.lookup x=some c
 | [],acc,_,ha=>ha
 | (n,k)::r,acc,h,ha=>by
  have hr:∀y∈r,y.2=.free->∃c,env.cells.lookup y.1=some c:=fun y hy=>h y (AY _ hy);unfold Jkc
  by_cases hk:(k==Bx.free)=true
  .rw[if_pos hk];obtain⟨c',hc⟩:=h (n,k) Az (by simpa using hk);refine Jhb r _ hr fun x c e=>?_;rw[Cq]at e
   cases hx:(x==n)with
   | true=>
    rw[hx]at e
    have hxn:x=n:=by simpa using hx
    subst hxn;have hc:env.cells.lookup x=some c':=hc;rw[hc]at e ⊢;simpa using e
   | false=>
    rw[hx]at e;exact ha x c e
  .rw[if_neg hk];exact Jhb r acc hr ha
theorem Jft{env:Env}:∀(l:List (Str×Bx)) (acc:List (Str×Addr)) (x:Str),((x,Bx.free)∈l\/(acc.lookup x).isSome=true)->((Jkc env l acc).lookup x).isSome=true
 | [],acc,x,h=>h.elim (fun z=>nomatch z) id
 | (n,k)::r,acc,x,h=>by
  unfold Jkc
  by_cases hk:(k==Bx.free)=true
  .rw[if_pos hk];refine Jft r _ x ?_
   rcases h with h|h
   .rcases Aq.mp h with e|h
    .right
     cases e;simp
    .exact .inl h
   .right
    rw[Cq];split
    .rfl
    .exact h
  .rw[if_neg hk];refine Jft r acc x ?_
   rcases h with h|h
   .rcases Aq.mp h with e|h
    .cases e;exact absurd rfl hk
    .exact .inl h
   .exact .inr h
theorem Jil{scope:DV}{env:Env}(hcell:∀y∈scope.names,y.2≠.cell){x:Str}(h:(MX scope env).names.lookup x=some .cell\/(MX scope env).names.lookup x=some .free):(x,Bx.free)∈scope.names:=by
 have aux:∀k,(k=Bx.cell\/k=Bx.free)->(x,k)∈(MX scope env).names->(x,Bx.free)∈scope.names:=by
  intro k hk hm;unfold MX at hm;obtain⟨⟨n,k'⟩,hy,e⟩:=Ag.mp hm
  by_cases hc:(k'==Bx.free&&env.scope.kind==.function&&env.kindOf n==some .cell)=true
  .have e:(if(k'==Bx.free&&env.scope.kind==.function&&env.kindOf n==some .cell)=true then(n,Bx.cell)else(n,k'))=(x,k):=e;rw[if_pos hc]at e;have hn:n=x:=congrArg Prod.fst e;subst hn;simp only[As]at hc
   have:k'=.free:=by simpa using hc.1.1
   subst this;exact hy
  .have e:(if(k'==Bx.free&&env.scope.kind==.function&&env.kindOf n==some .cell)=true then(n,Bx.cell)else(n,k'))=(x,k):=e;rw[if_neg hc]at e;cases e
   rcases hk with hk|hk
   .exact absurd hk (hcell _ hy)
   .subst hk;exact hy
 rcases h with h|h
 .exact aux _ (.inl rfl) (Bl h)
 .exact aux _ (.inr rfl) (Bl h)
theorem Jby{env:Env}:∀{names:List (Str×Bx)} {x:Str},names.lookup x=some .free->
  (names.map fun(n,k)=>if(k==Bx.free&&env.scope.kind==.function&&env.kindOf n==some .cell)then(n,Bx.cell)else(n,k)).lookup x=some .cell\/
  (names.map fun(n,k)=>if(k==Bx.free&&env.scope.kind==.function&&env.kindOf n==some .cell)then(n,Bx.cell)else(n,k)).lookup x=some .free
 | [],_,h=>by simp at h
 | (n,k)::r,x,h=>by
  have ih:=@Jby env r x;show D5 x ((if(k==Bx.free&&env.scope.kind==.function&&env.kindOf n==some .cell)=true then(n,Bx.cell)else(n,k))::_)=_\/D5 x ((if(k==Bx.free&&env.scope.kind==.function&&env.kindOf n==some .cell)=true then(n,Bx.cell)else(n,k))::_)=_
  cases hx:x==n with
  | true=>
   simp only[Cq,hx]at h;cases h
   by_cases hc:(Bx.free==Bx.free&&env.scope.kind==.function&&env.kindOf n==some .cell)=true
   .left;rw[if_pos hc];simp[Cq,hx]
   .right;rw[if_neg hc];simp[Cq,hx]
  | false=>
   simp only[Cq,hx]at h
   by_cases hc:(k==Bx.free&&env.scope.kind==.function&&env.kindOf n==some .cell)=true
   .rw[if_pos hc];simp only[Cq,hx];exact ih h
   .rw[if_neg hc];simp only[Cq,hx];exact ih h
noncomputable def Cx.blk(X:Cx)(N':List Str)(scope:DV)(C:Addr)(s₀:A9)(H₀:Hp)(fp:List Addr):Cx:=
 { X with N:=N',s₀:=s₀,H₀:=H₀,env:=compEnvC scope (Jkc X.env scope.names []) C X.env,outer:=X.stack,stack:=X.stack,ex:=fp,fn:=fun _=>false,pn:=[],xe:=fun _ _=>False }
def Jrt(src:List (Option Nat))(σ:St):St:=src.map fun o=>o.bind fun j=>(σ[j]?).join
structure JbI(N:List Str)(sc:DV)(N':List Str)(scope:DV)(src:List (Option Nat)):Prop where
 kind:scope.kind=.function
 cell:∀y∈scope.names,y.2≠.cell
 free:∀y∈scope.names,y.2=.free->sc.names.lookup y.1=some .cell\/sc.names.lookup y.1=some .free
 names:∀y∈scope.names,y.2=.local->scope.names.lookup y.1=some .local
 nd:N'.Nodup
 len:src.length=N'.length
 src:∀p∈N'.zip src,∀j∈p.2.toList,N[j]?=some p.1/\scope.names.lookup p.1=some .free
section
variable {X:Cx} {N':List Str} {scope:DV} {src:List (Option Nat)} {pins:PL} {σ:St} {H:Hp} {s:A9} {fp:List Addr} {C:Addr}
theorem Inv.cells(I:Inv X pins σ H s)(B:JbI X.N X.env.scope N' scope src):∀y∈scope.names,y.2=.free->∃c,X.env.cells.lookup y.1=some c:=fun y hy e=>I.ok.has y.1 (B.free y hy e)
theorem Inv.clSub(I:Inv X pins σ H s)(B:JbI X.N X.env.scope N' scope src){x:Str}{c:Addr}(e:(Jkc X.env scope.names []).lookup x=some c):X.env.cells.lookup x=some c:=
 Jhb scope.names [] (I.cells B) (fun x c e=>by simp at e) x c e
theorem Inv.blkOk(I:Inv X pins σ H s)(B:JbI X.N X.env.scope N' scope src)(hC:s.heap.objs.size<=C)(hf:∀b∈fp,Jl3 X pins H b)(hlt:∀b∈fp,b<s.heap.objs.size):(X.blk N' scope C s H fp).Ok where
 mod:=I.ok.mod
 kind:=B.kind
 glob:=I.ok.glob
 blt:=I.ok.blt
 above:=hC
 inj:=fun x y c h1 h2=>I.ok.inj x y c (I.clSub B h1) (I.clSub B h2)
 has:=fun x hx=>BH.mp (Jft scope.names [] x (.inl (Jil B.cell hx)))
 cab:=fun x c h _=>Bool.noConfusion h
 hd:=I.ok.hd
 frames:=I.ok.frames
 stk:=.inl rfl
 exf:=fun b hb=>⟨Ar (AF (hlt b hb) hC),fun x c e=>(hf b hb).2.2.2.2.1 x c (I.clSub B e)⟩
 bs:=I.bs
 bsz:=I.env0.bsz
 noex:=fun b o e hb=>by
  rcases(hf b hb).2.2.2.1 with z|z
  .exact I.ok.noex b o e z
  .exact absurd (AF (AZ e) I.ok.bsz) (DM.mpr z)
 exfs:=fun b hb z=>(Aq.mp (I.stkSub b z)).elim (hf b hb).2.1 (hf b hb).2.2.1
 funs:=I.env0.funs
 frf:=I.env0.frf
theorem Inv.blk(I:Inv X pins σ H s)(B:JbI X.N X.env.scope N' scope src)(hC:s.heap.objs.size<=C)(hf:∀b∈fp,Jl3 X pins H b)(hlt:∀b∈fp,b<s.heap.objs.size)
  {h1:Heap} {t1:Nat} {m:MO} (hn:h1.Ns C m) (hk:∀b o,s.heap.get? b=some o->h1.get? b=some o):Inv (X.blk N' scope C s H fp) [] (Jrt src σ) H { s with heap:=h1,toks:=t1 }:=by
 obtain⟨mp,hmp,hl⟩:=id I.loc;refine⟨I.blkOk B hC hf hlt,rfl,I.bare,Un.kept hk,⟨m,hn,fun i x v e1 e2 e3=>?_⟩,fun x c e=>?_,I.hok.fresh hC,fun x c e=>I.freeC x c (I.clSub B e),fun p hp=>absurd (show p∈([]:PL) from hp) (by simp),I.hok.kept hk,?_⟩
 .have e1:N'[i]?=some x:=e1;unfold Jrt at e2;rw[Ax]at e2
  cases es:src[i]? with
  | none=>rw[es]at e2;cases e2
  | some o=>
   rw[es]at e2
   cases o with
   | none=>cases e2
   | some j=>
    have e2:(σ[j]?).join=some v:=Ai e2
    have e2:σ[j]?=some (some v):=by
     cases q:σ[j]? with
     | none=>rw[q]at e2;cases e2
     | some r=>rw[q]at e2;exact congrArg some e2
    have hz:(x,some j)∈N'.zip src:=by
     refine Au (i:=i) ?_;rw[EL];exact⟨e1,es⟩
    obtain⟨hN,hfr⟩:=B.src _ hz j Az;have hkx:=B.free (x,.free) (Bl hfr) rfl;obtain⟨u,r,q⟩:=hl j x v hN e2 (hkx.elim (fun z=>.inr (.inl z)) fun z=>.inr (.inr z));refine⟨u,r,?_⟩
    rcases q with⟨k,_⟩|⟨_,c,hc,hcell⟩
    .have k:X.env.scope.names.lookup x=some .local:=k
     rcases hkx with z|z
     .have z:X.env.scope.names.lookup x=some .cell:=z;rw[k]at z;cases z
     .have z:X.env.scope.names.lookup x=some .free:=z;rw[k]at z;cases z
    .refine .inr ⟨Jby hfr,c,?_,hcell.keeps hk⟩;obtain⟨c',hc'⟩:=BH.mp (Jft (env:=X.env) scope.names [] x (.inl (Bl hfr)));have:=I.clSub B hc';rw[hc]at this;cases this;exact hc'
 .obtain⟨v,z⟩:=I.cell x c (I.clSub B e);exact⟨v,z.keeps hk⟩
 .unfold Jrt;rw[A2];exact B.len
end
def PF(X:Cx)(ifs:List Expr)(t:TT):Prop:=
 ∀(pins:PL) (s:A9) (σ:St) (H:Hp) (Q:Bool->Hp->Prop),Inv X pins σ H s->t σ H Q->
  AV (Af X.prog X.w) X.A (forIn ifs true fun c r=>if r=true then do let ok <- isTrue c X.env (eval c X.env);pure (Dj ok)else pure (Dj r)) (TP X pins σ Q) X.xe s
def JfX:TT:=fun _ H Q=>Q true H
theorem Jdp{X:Cx}:PF X [] JfX:=fun _ _ _ H _ I h=>wpAny_tests_nil ⟨H,I,h⟩
theorem Jl6{X:Cx}{c:Expr}{t:TT}(h:PT X c t):PF X [c] t:=fun pins s σ H Q I q=>wpAny_tests_one (h pins s σ H Q I q)
def JhI(J:It)(acc:Addr)(g:TG)(tc:TT)(te:TE)(Q:VK)(σ:St)(H:Hp):Prop:=
 ∃W:Nat->Nat->List V->St->Hp->Prop,(∃m,W 0 m [] σ H)/\∀i m ys σ' H',W i m ys σ' H'->
  (J.stop i H'/\Q (.ref acc) H')\/(J.go i H'/\ys.length<AK/\∃N:List V->St->Hp->Prop,(∀zs σ2 H2,N zs σ2 H2->∃m',m'<m/\W (i+1) m' zs σ2 H2)/\∀x H2,J.yld i H' x H2->g x σ' H2 fun σ3 H3=>tc σ3 H3 fun b H4=>
   if b=true then te σ3 H4 fun y H5=>H5 acc=some (.lst ys)/\N (ys++[y]) σ3 (upd H5 acc (.lst (ys++[y])))else N ys σ3 H4)
def Jrc(wi:TI)(src:List (Option Nat))(g:TG)(tc:TT)(te:TE):TE:=fun σ H Q=>wi σ H fun J H1=>∀acc,H1 acc=none->JhI J acc g tc te Q (Jrt src σ) (upd H1 acc (.lst []))
section
variable {X:Cx} {elt target iter:Expr} {ifs:List Expr} {scope:DV} {pos:Pos} {wi:TI} {g:TG} {tc:TT} {te:TE} {N':List Str} {src:List (Option Nat)}
structure Off(X:Cx)(pins:PL)(C:Addr):Prop where
 young:X.s₀.heap.objs.size<=C
 loc:C≠X.env.locals
 cells:∀x c,X.env.cells.lookup x=some c->c≠C
 pins:∀p∈X.pn++pins,p.1≠C
theorem Jrd{RR:KQ->A9->Prop}{Q:VK}{pins:PL}{σ:St}{s3:A9}{H3:Hp}{acc it C:Addr}{fp:List Addr}{tn:Nat->Heap->Prop}{J:It}{h4:Heap}{t4:Nat}{m4:MO}
  (hc:X.calm=true) (B:JbI X.N X.env.scope N' scope src)
  (hg:∀C s₀ H₀ fp,PG (X.blk N' scope C s₀ H₀ fp) target g) (ht:∀C s₀ H₀ fp,PF (X.blk N' scope C s₀ H₀ fp) ifs tc) (he:∀C s₀ H₀ fp,PE (X.blk N' scope C s₀ H₀ fp) elt te)
  (I3:Inv X pins σ H3 s3) (T:Jor X.prog X.w X.K target J fp it tn) (st3:tn 0 s3.heap) (f3:∀b∈fp,Jl3 X pins H3 b) (hC:C=s3.heap.objs.size) (hn4:h4.Ns C m4)
  (old4:∀b o,s3.heap.get? b=some o->h4.get? b=some o)
  (hW:JhI J acc g tc te Q (Jrt src σ) H3)
  (fin:∀(oC:Obj)(H':Hp)(s':A9),Inv X (pins++[(C,oC)]) σ H' s'->Off X pins C->(∃m,∀h':Heap,h'.get? C=some oC->h'.Ns C m)->Q (.ref acc) H'->RR (.ok .next) s') :
  DD (Af X.prog X.w) X.A (.compStart (.ListComp elt [⟨target,iter,ifs,0⟩] scope pos) 0 (.ref it) (.ref acc) (compEnvC scope (Jkc X.env scope.names []) C X.env)) RR { s3 with heap:=h4,toks:=t4 }:=by
 obtain⟨W,⟨m0,w0⟩,turn⟩:=hW
 have hlt3:∀b∈fp,b<s3.heap.objs.size:=fun b hb=>let ⟨_,e,_⟩:=T.obj 0 _ st3 b hb;AZ e
 have hC':s3.heap.objs.size<=C:=K4 hC.symm;have I4:Inv (X.blk N' scope C s3 H3 fp) [] (Jrt src σ) H3 { s3 with heap:=h4,toks:=t4 }:=I3.blk B hC' f3 hlt3 hn4 old4;have ok4:=I4.ok
 have stat:∀{H':Hp},(∀b∈fp,H' b=none)->∀b∈fp,Jl3 (X.blk N' scope C s3 H3 fp) [] H' b:=fun hn b hb=>
  ⟨hn b hb,(ok4.exf b hb).1,ok4.exfs b hb,.inl hb,(ok4.exf b hb).2,fun p hp=>absurd (show p∈([]:PL) from hp) (by simp)⟩
 have st4:tn 0 h4:=T.keep _ _ _ st3 fun b _ o e=>old4 b o e
 have off:Off X pins C:=by
  have hl:=I3.lt;refine⟨B0 I3.ok.above (B0 (Cf hl) hC'),fun e=>?_,fun x c e q=>?_,fun p hp q=>?_⟩
  .rw[e]at hC';exact absurd hl (DM.mpr hC')
  .obtain⟨v,o,ho,_⟩:=I3.cell x c e;have:=AZ ho;rw[q]at this;exact absurd this (DM.mpr hC')
  .have:=AZ (I3.pin p hp).1;rw[q]at this;exact absurd this (DM.mpr hC')
 have nfs:C∉X.fs:=fun z=>by
  obtain⟨o,ho⟩:=(I3.ok.funs.mem z).2;exact absurd (AF (AZ ho.1) (B0 I3.ok.above (Cf I3.lt))) (DM.mpr hC')
 have loop:DD (Af X.prog X.w) X.A (.compLoop (.ListComp elt [⟨target,iter,ifs,0⟩] scope pos) 0 (.ref it) (.ref acc) (compEnvC scope (Jkc X.env scope.names []) C X.env)) RR { s3 with heap:=h4,toks:=t4 }:=by
  refine Jj6 (fun n s'=>∃i ys σ' H',Inv (X.blk N' scope C s3 H3 fp) [] σ' H' s'/\tn i s'.heap/\(∀b∈fp,H' b=none)/\W i n ys σ' H') ?_ m0 ⟨0,[],_,_,I4,st4,fun b hb=>(f3 b hb).1,w0⟩;rintro n s5 ⟨i,ys,σ5,H5,I5,st5,fr5,w5⟩
  rcases turn i n ys σ5 H5 w5 with⟨stop,qn⟩|⟨go,hsz,N,hN,step⟩
  .refine thn (T.done (X.blk N' scope C s3 H3 fp) rfl rfl rfl hc i [] s5 σ5 H5 (fun _ _=>False) I5 (stat fr5) st5 stop) fun r s6 hzz=>?_;obtain⟨hr,I6⟩:=hzz;subst hr;obtain⟨mC,⟨oC,es,ep,hoC,hdC,rC⟩,_⟩:=id I6.loc;have Ip:Inv X pins σ H5 s6:=I3.call' (ch:=fp) I6.os I6.base I6.hok I6.bare fun b hb=>⟨(f3 b hb).2.2.2.1,(f3 b hb).2.1,(f3 b hb).2.2.2.2.1,(f3 b hb).2.2.2.2.2⟩;refine fin oC H5 s6 (Ip.pins_of fun p hp=>?_) off ⟨mC,fun h' e=>⟨oC,es,ep,e,hdC,rC⟩⟩ qn
   rcases Ae.mp hp with z|z
   .exact Ip.pin p (Ah _ z)
   .have e:p=(C,oC):=by simpa using z
    subst e;exact⟨hoC,I6.free,off.loc,nfs,fun v q=>by have q:oC.data=.cell v:=q;rw[hdC]at q;cases q⟩
  .refine thn (T.item (X.blk N' scope C s3 H3 fp) rfl rfl rfl hc i [] s5 σ5 H5 (fun _ _=>False) I5 (stat fr5) st5 go) fun r s6 hzz=>?_;obtain⟨u,hr,h6⟩:=hzz;subst hr;refine thn h6 fun _ s7 hzz=>?_;obtain⟨x,H7,I7,r7,y7,st7,fr7⟩:=hzz;have I7':=I7.pinned (stat fr7) (T.obj _ _ st7);refine thn (hg C s3 H3 fp _ s7 σ5 H7 x u _ I7' r7 (step x H7 y7)) fun _ s8 hzz=>?_;obtain⟨σ8,H8,I8,q8⟩:=hzz;refine thn (ht C s3 H3 fp _ s8 σ8 H8 _ I8 q8) fun ok s9 hzz=>?_;obtain⟨H9,I9,q9⟩:=hzz
   have back:∀{σ':St}{H':Hp}{s':A9},Inv (X.blk N' scope C s3 H3 fp) ([]++Ji1 fp s7.heap) σ' H' s'->Inv (X.blk N' scope C s3 H3 fp) [] σ' H' s'/\tn (i+1) s'.heap/\∀b∈fp,H' b=none:=fun{σ' H' s'} I'=>
    ⟨I'.unpinned,T.keep _ _ _ st7 fun b hb o e=>(I'.pin (b,o) (Ah _ (Ah _ (Jde hb e)))).1,fun b hb=>by
     obtain⟨o,e,d⟩:=T.obj _ _ st7 b hb
     exact(I'.pin (b,o) (Ah _ (Ah _ (Jde hb e)))).2.1⟩
   cases ok with
   | false=>
    rw[if_neg (by simp)]at q9 ⊢;obtain⟨m',hm,w9⟩:=hN _ _ _ q9;obtain⟨b1,b2,b3⟩:=back I9;exact⟨m',hm,i+1,ys,σ8,H9,b1,b2,b3,w9⟩
   | true=>
    rw[if_pos rfl]at q9 ⊢;refine thn (he C s3 H3 fp _ s9 σ8 H9 _ I9 q9) fun y s10 hzz=>?_;obtain⟨v10,H10,I10,r10,hacc10,n10⟩:=hzz;refine thn (Jaq (X:=X.blk N' scope C s3 H3 fp) _ s10 σ8 H10 (.ref acc) [v10] (.ref acc) [y] (fun _ H11=>H11=upd H10 acc (.lst (ys++[v10]))) I10 rfl (.cons r10 .nil) ⟨acc,ys,v10,rfl,rfl,hacc10,hsz,rfl⟩) fun _ s11 hzz=>?_;obtain⟨_,H11,I11,_,e11⟩:=hzz;subst e11;obtain⟨b1,b2,b3⟩:=back I11;obtain⟨m',hm,w10⟩:=hN _ _ _ n10;exact⟨m',hm,i+1,ys++[v10],σ8,_,b1,b2,b3,w10⟩
 exact codeAny_compStart_list loop (T.self X.A 0 _ _ _ st4 loop)
theorem Jir{use:Option (A3->Sem Unit)}{Qv:VS}{Q:VK}{pins:PL}{s:A9}{σ:St}{H:Hp}
  (hc:X.calm=true) (B:JbI X.N X.env.scope N' scope src) (hi:PI X target iter wi)
  (hg:∀C s₀ H₀ fp,PG (X.blk N' scope C s₀ H₀ fp) target g) (ht:∀C s₀ H₀ fp,PF (X.blk N' scope C s₀ H₀ fp) ifs tc) (he:∀C s₀ H₀ fp,PE (X.blk N' scope C s₀ H₀ fp) elt te)
  (hs:∀x,E5 iter X.env x=pure x) (I:Inv X pins σ H s) (h:Jrc wi src g tc te σ H Q)
  (fin:∀(acc C:Addr)(oC:Obj)(H':Hp)(s':A9),Inv X (pins++[(C,oC)]) σ H' s'->Off X pins C->(∃m,∀h':Heap,h'.get? C=some oC->h'.Ns C m)->Q (.ref acc) H'->
   compPost (Af X.prog X.w) X.A X.xe use Qv (.ref acc) C (.ok .next) s') :
  AV (Af X.prog X.w) X.A (comprehension (.ListComp elt [⟨target,iter,ifs,0⟩] scope pos) scope X.env (firstIterPos [⟨target,iter,ifs,0⟩] pos) (newList []) false (eval iter X.env) use) Qv X.xe s:=by
 refine wpAny_comprehension_free (cl:=Jkc X.env scope.names []) rfl hs (JiJ (I.cells B)) B.kind B.names ?_;refine thn (hi pins s σ H _ I h) fun v s1 h1=>thn h1 fun itv s2 h2=>?_;obtain⟨it,fp,tn,J,H2,e,I2,T,st2,f2,hW⟩:=h2;subst e
 have hlt2:∀b∈fp,b<s2.heap.objs.size:=fun b hb=>let ⟨_,e,_⟩:=T.obj 0 _ st2 b hb;AZ e
 refine B7 ?_;refine wpAny_newFunctionEnv B.cell (by intro y hy;simp at hy) (fun h4 hns4 hsb4=>?_) B.kind
 refine Jrd (s3:={ s2 with heap:=s2.heap.push { cls:=.type "list",data:=.seq ([]:List A3).toArray } }) (H3:=upd H2 s2.heap.objs.size (.lst [])) hc B hg ht he
  (I2.lnew (its:=[]) (t':=s2.toks) .nil (AA _)) T (T.keep _ _ _ st2 fun b _ o e=>A4 _ e)
  (fun b hb=>⟨by rw[Jg (Ar (hlt2 b hb))];exact(f2 b hb).1,(f2 b hb).2⟩) rfl hns4
  (fun b o e=>hsb4.extBut b o (Ar (AZ e)) (A4 _ e)) (hW _ I2.fresh)
  fun oC H' s' Ic off hm q=>fin _ _ oC H' s' Ic off hm q
theorem JcQ(N':List Str)(src:List (Option Nat))(hc:X.calm=true)(B:JbI X.N X.env.scope N' scope src)(hi:PI X target iter wi)
  (hg:∀C s₀ H₀ fp,PG (X.blk N' scope C s₀ H₀ fp) target g) (ht:∀C s₀ H₀ fp,PF (X.blk N' scope C s₀ H₀ fp) ifs tc) (he:∀C s₀ H₀ fp,PE (X.blk N' scope C s₀ H₀ fp) elt te)
  (hs:∀x,E5 iter X.env x=pure x:=by intro _;rfl):PE X (.ListComp elt [⟨target,iter,ifs,0⟩] scope pos) (Jrc wi src g tc te):=by
 intro pins s σ H Q I h;rw[eval_ListComp];refine Jir (use:=none) hc B hi hg ht he hs I h fun acc C oC H' s' Ic off ⟨m,hm⟩ q=>?_;have pc:=Ic.pin (C,oC) (Ah _ (Ah _ Az));exact⟨m,hm _ pc.1,fun h' hs'=>⟨.ref acc,H',Ic.unpinned.turned (t':=s'.toks) (fun b o hb e=>hs'.extBut b o hb e) pc.2.1 off.loc (.inr off.young) off.cells off.pins,rfl,q⟩⟩
theorem JbX{i:Nat}{y:Str}{py spos:Pos}(N':List Str)(src:List (Option Nat))(hN:X.N.Nodup)(hy:X.N[i]?=some y)(hx:Loc X.env.scope y)(hc:X.calm=true)(B:JbI X.N X.env.scope N' scope src)(hi:PI X target iter wi)
  (hg:∀C s₀ H₀ fp,PG (X.blk N' scope C s₀ H₀ fp) target g) (ht:∀C s₀ H₀ fp,PF (X.blk N' scope C s₀ H₀ fp) ifs tc) (he:∀C s₀ H₀ fp,PE (X.blk N' scope C s₀ H₀ fp) elt te)
  (hsw:Fb (.ListComp elt [⟨target,iter,ifs,0⟩] scope pos) (some (.Name y py)) spos.line X.env=pure true:=by rfl)
  (hs:∀x,E5 iter X.env x=pure x:=by intro _;rfl) (hf:X.fn y=true\/X.env.scope.names.lookup y=some .local:=by first|exact .inl rfl|exact .inr rfl|assumption) :
  PS X (.Assign [.Name y py] (.ListComp elt [⟨target,iter,ifs,0⟩] scope pos) spos) (fun D σ H=>Jrc wi src g tc te σ H fun v H1=>D.nx (σ.set i (some v)) H1):=by
 intro pins s σ H D I h;rw[exec_Assign_Name_used _ _ _ _ hsw];refine A0 (wpAny_standAt (A0 ?_));show AV _ X.A (do let _ <- comprehension (.ListComp elt [⟨target,iter,ifs,0⟩] scope pos) scope X.env _ (newList []) false (eval iter X.env) (some (assign (.Name y py) X.env))) _ _ s;refine A0 (thn (Jir (use:=some (assign (.Name y py) X.env)) (Qv:=fun _ s'=>SP X pins D .next s') hc B hi hg ht he hs I h fun acc C oC H' s' Ic off ⟨m,hm⟩ q=>?_) fun _ s' hq=>A8 (A8 hq));refine thn (Jom (X:=X) (i:=i) (pos:=py) hN hy hx hf _ s' σ H' (.ref acc) (.ref acc) (fun σ2 H2=>D.nx σ2 H2) Ic rfl q) fun _ s'' hzz=>?_;obtain⟨σ2,H2,I2,q2⟩:=hzz;have pc:=I2.pin (C,oC) (Ah _ (Ah _ Az));exact⟨m,hm _ pc.1,fun h' hs'=>⟨σ2,H2,I2.unpinned.turned (t':=s''.toks) (fun b o hb e=>hs'.extBut b o hb e) pc.2.1 off.loc (.inr off.young) off.cells off.pins,q2⟩⟩
end
theorem JeN{J:It}{n:Nat}{acc:Addr}{g:TG}{tc:TT}{te:TE}{Q:VK}{σ:St}{H:Hp}(Pv:Nat->List V->St->Hp->Prop)(h0:Pv 0 [] σ H)
  (hs:∀i ys σ H,i<n->Pv i ys σ H->J.go i H/\ys.length<AK/\∀x H2,J.yld i H x H2->g x σ H2 fun σ3 H3=>tc σ3 H3 fun b H4=>
   if b=true then te σ3 H4 fun y H5=>H5 acc=some (.lst ys)/\Pv (i+1) (ys++[y]) σ3 (upd H5 acc (.lst (ys++[y])))else Pv (i+1) ys σ3 H4)
  (hd:∀ys σ H,Pv n ys σ H->J.stop n H/\Q (.ref acc) H):JhI J acc g tc te Q σ H:=by
 refine⟨fun i m ys σ H=>m=n-i/\i<=n/\Pv i ys σ H,⟨n,by simp,AA _,h0⟩,?_⟩;rintro i m ys σ H ⟨rfl,hi,p⟩
 by_cases hlt:i<n
 .obtain⟨a,b,c⟩:=hs i ys σ H hlt p;exact .inr ⟨a,b,Pv (i+1),fun zs σ2 H2 p'=>⟨n-(i+1),by omega,rfl,hlt,p'⟩,c⟩
 .have e:i=n:=by omega
  subst e;exact .inl (hd ys σ H p)
theorem JgN{lo:Int}{n:Nat}{acc:Addr}{g:TG}{tc:TT}{te:TE}{Q:VK}{σ:St}{H:Hp}(Pv:Nat->List V->St->Hp->Prop)(h0:Pv 0 [] σ H)
  (hs:∀i ys σ H,i<n->Pv i ys σ H->ys.length<AK/\g (.int (lo+i)) σ H fun σ3 H3=>tc σ3 H3 fun b H4=>
   if b=true then te σ3 H4 fun y H5=>H5 acc=some (.lst ys)/\Pv (i+1) (ys++[y]) σ3 (upd H5 acc (.lst (ys++[y])))else Pv (i+1) ys σ3 H4)
  (hd:∀ys σ H,Pv n ys σ H->Q (.ref acc) H):JhI (Itr lo n) acc g tc te Q σ H:=
 JeN Pv h0 (fun i ys σ H hi p=>⟨hi,(hs i ys σ H hi p).1,fun x H2 ⟨e1,e2⟩ =>by subst e1 e2;exact(hs i ys σ _ hi p).2⟩) fun ys σ H p=>⟨A6 _,hd ys σ H p⟩
theorem JcI{K:WF}{a:Addr}{xs:List V}{acc:Addr}{g:TG}{tc:TT}{te:TE}{Q:VK}{σ:St}{H:Hp}(Pv:Nat->List V->St->Hp->Prop)(h0:Pv 0 [] σ H)
  (hl:∀i ys σ H,Pv i ys σ H->SqL K H a xs)
  (hs:∀i x ys σ H,xs[i]?=some x->Pv i ys σ H->ys.length<AK/\g x σ H fun σ3 H3=>tc σ3 H3 fun b H4=>
   if b=true then te σ3 H4 fun y H5=>H5 acc=some (.lst ys)/\Pv (i+1) (ys++[y]) σ3 (upd H5 acc (.lst (ys++[y])))else Pv (i+1) ys σ3 H4)
  (hd:∀ys σ H,Pv xs.length ys σ H->Q (.ref acc) H):JhI (Itl K a) acc g tc te Q σ H:=
 JeN (n:=xs.length) Pv h0
  (fun i ys σ H hi p=>⟨⟨xs,xs[i],hl i ys σ H p,A1 hi⟩,(hs i xs[i] ys σ H (A1 hi) p).1,fun x H2 ⟨e1,e2⟩ =>by subst e1;exact(hs i x ys σ _ (e2 xs (hl i ys σ _ p)) p).2⟩)
  fun ys σ H p=>⟨⟨xs,hl _ ys σ H p,A6 _⟩,hd ys σ H p⟩
theorem Jhr{K:WF}{a:Addr}{xs:List V}{acc:Addr}{g:TG}{tc:TT}{te:TE}{Q:VK}{σ:St}{H:Hp}(Pv:Nat->List V->St->Hp->Prop)(h0:Pv 0 [] σ H)
  (hl:∀i ys σ H,Pv i ys σ H->SqT K H a xs)
  (hs:∀i x ys σ H,xs[i]?=some x->Pv i ys σ H->ys.length<AK/\g x σ H fun σ3 H3=>tc σ3 H3 fun b H4=>
   if b=true then te σ3 H4 fun y H5=>H5 acc=some (.lst ys)/\Pv (i+1) (ys++[y]) σ3 (upd H5 acc (.lst (ys++[y])))else Pv (i+1) ys σ3 H4)
  (hd:∀ys σ H,Pv xs.length ys σ H->Q (.ref acc) H):JhI (Itt K a) acc g tc te Q σ H:=
 JeN (n:=xs.length) Pv h0
  (fun i ys σ H hi p=>⟨⟨xs,xs[i],hl i ys σ H p,A1 hi⟩,(hs i xs[i] ys σ H (A1 hi) p).1,fun x H2 ⟨e1,e2⟩ =>by subst e1;exact(hs i x ys σ _ (e2 xs (hl i ys σ _ p)) p).2⟩)
  fun ys σ H p=>⟨⟨xs,hl _ ys σ H p,A6 _⟩,hd ys σ H p⟩
def Jnp(i j:Int):Prop:=Jta i j\/(i.natAbs<2^4096/\j.natAbs<2^4096)
theorem Jg3{k:Int}(h:k.natAbs<2^4096):Am.Int.intBits k<=2^20:=by
 unfold Am.Int.intBits;split
 .exact AA _
 .have:k.natAbs.log2<4096:=by
   rcases Hr k.natAbs with h0|hp
   .rw[h0];decide
   .exact(Nat.log2_lt (Ce hp)).mpr h
  have e:(2:Nat)^20=1048576:=by decide
  omega
theorem Jnp.ok{i j:Int}(h:Jnp i j):IntMulOk i j:=by
 rcases h with h|⟨h1,h2⟩
 .exact h.ok
 .exact .of_bits (Jg3 h1) (Jg3 h2)
def JsW(_ j:Int):Prop:=0<j/\j.natAbs<2^4096
section
variable {X:Cx}
theorem Jro:OpR X (C0 .Mult) (rI Jnp fun i j=>.int (i*j)):=opI fun _ _ _ _ _ _ _ hc q=>mul_int q hc.ok
theorem Jpp:OpR X (C0 .FloorDiv) (rI JsW fun i j=>.int (i/j)):=opI fun i j _ _ _ _ _ hc q=>by
 have h1:(0:Int)<j:=hc.1
 have hl:j.natAbs.log2<9000:=by
  rcases Hr j.natAbs with h0|hp
  .rw[h0];decide
  .exact K3 ((Nat.log2_lt (Ce hp)).mpr hc.2) (by decide)
 refine floordiv_int (by omega) ?_ (.inl (PyProof.noPylong_of_log2 hl));rw[Int.fdiv_eq_ediv_of_nonneg _ (Int.le_of_lt h1)];exact q
end
def Jgp(T U:String):Bool:=decide (T=U)||(decide (T = "bool")&&decide (U = "int"))
noncomputable def JuK(T:String):Bool:=["int", "bool", "str", "list", "tuple", "dict", "NoneType"].contains T
theorem Jpw:(["int", "bool", "str", "list", "tuple", "dict", "NoneType"].all fun T=>["int", "bool", "str", "list", "tuple", "dict"].all fun U=>
  Ko U&&decide (((fastBuiltinMro T).map (·.contains (A3.type U)))=some (Jgp T U)))=true:=by decide +kernel
theorem JpR{K:WF}{T U:String}(hT:T∈["int", "bool", "str", "list", "tuple", "dict", "NoneType"])(hU:U∈["int", "bool", "str", "list", "tuple", "dict"]):ED K (.type T) (.type U)=some (Jgp T U):=by
 have h:=Bi.mp (Bi.mp Jpw T hT) U hU;rw[As]at h;have h2:=of_decide_eq_true h.2;unfold ED
 by_cases e:(A3.type T==A3.type U)=true
 .rw[if_pos e]
  have e':T=U:=by
   have:=beq_iff_eq.mp e;injection this
  subst e';simp[Jgp]
 .rw[if_neg e];show(if Ko U=true then PySem.W.subIn K (.type T) (.type U)else none)=_;rw[if_pos h.1];exact h2
abbrev tyL:List String:=["int", "bool", "str", "list", "tuple", "dict", "NoneType"]
abbrev tyU:List String:=["int", "bool", "str", "list", "tuple", "dict"]
section
variable {X:Cx}
theorem YF:Jbg X (.builtin "isinstance") (fun xs H Q=>∃x T U,xs=[x,.ty U]/\Jkh X.K H x (.type T)/\T∈tyL/\U∈tyU/\Q (.bl (Jgp T U)) H):=by
 intro pins s σ H xs us Q I r h;obtain⟨x,T,U,rfl,ty,hT,hU,q⟩:=h;obtain⟨u,c,rfl,ru,rc⟩:=JjZ r;cases(show c=A3.type U from rc);exact JmS I ru ty (JpR hT hU) fun tk=>⟨.bl (Jgp T U),H,I.tok tk,rfl,q⟩
theorem JbN{K:WF}{T:String}(hT:T∈tyL):∀(Us:List String),(∀U∈Us,U∈tyU)->KN K (.type T) (Us.map A3.type)=some (Us.any (Jgp T))
 | [],_=>rfl
 | U::r,h=>by
  show(match ED K (.type T) (.type U)with|some true=>some true|some false=>KN K (.type T) (r.map A3.type)|none=>none)=_
  rw[JpR hT (h U Az),JbN hT r fun V hV=>h V (AY _ hV),BM];cases Jgp T U<;>rfl
theorem Jms:∀{Us:List String}{its:List A3},Y2 (Us.map V.ty) its->its=Us.map A3.type
 | [],_,.nil=>rfl
 | U::r,_,.cons a t=>by
  cases(show _=A3.type U from a);rw[Jms t];rfl
theorem JdT:Jbg X (.builtin "isinstance") (fun xs H Q=>∃(x:V)(T:String)(tp:Addr)(Us:List String),xs=[x,.ref tp]/\H tp=some (.tup (Us.map V.ty))/\Jkh X.K H x (.type T)/\T∈tyL/\(∀U∈Us,U∈tyU)/\Q (.bl (Us.any (Jgp T))) H):=by
 intro pins s σ H xs us Q I r h;obtain⟨x,T,tp,Us,rfl,ht,ty,hT,hU,q⟩:=h;obtain⟨u,c,rfl,ru,rc⟩:=JjZ r;cases(show c=A3.ref tp from rc);obtain⟨_,its,rv,o,ho,hc,n,hd⟩:=(show J4 X.prog X.w H s.heap tp (.tup (Us.map V.ty)) from I.hok tp _ ht);have e:=Jms rv;subst e;obtain⟨oc,od,odt,osl⟩:=o;have hc:oc=.type "tuple":=hc;have hd:odt=.seq (Us.map A3.type).toArray n:=hd;subst hc hd;have fin:∀tk,EP X pins σ Q (.bool (Us.any (Jgp T))) { s with toks:=tk }:=fun tk=>⟨.bl (Us.any (Jgp T)),H,I.tok tk,rfl,q⟩
 cases ty with
 | non=>cases(show u=A3.none from ru);exact C7 HS I.kIn True.intro ho (JbN hT Us hU) (fun z=>nomatch z) fin
 | bl y=>cases(show u=A3.bool y from ru);exact C7 HU I.kIn True.intro ho (JbN hT Us hU) (fun z=>nomatch z) fin
 | int i=>obtain⟨t,z⟩:=(show∃t,u=A3.int i t from ru);cases z;exact C7 KZ I.kIn True.intro ho (JbN hT Us hU) (fun z=>nomatch z) fin
 | str y=>obtain⟨t,z⟩:=(show∃t,u=A3.str y t from ru);cases z;exact C7 KW I.kIn True.intro ho (JbN hT Us hU) (fun z=>nomatch z) fin
 | flt y=>simp[tyL]at hT
 | @lst a xs ea=>
  cases(show u=A3.ref a from ru);obtain⟨_,_,n,_,h1⟩:=(show J4 X.prog X.w H s.heap a (.lst xs) from I.hok a _ ea);exact C7 E6 I.kIn ⟨_,h1,rfl⟩ ho (JbN hT Us hU) (fun z=>nomatch z) fin
 | @frz a ob xs ea=>
  cases(show u=A3.ref a from ru);obtain⟨_,_,_,n,_,h1⟩:=(show J4 X.prog X.w H s.heap a (.frz ob (.lst xs)) from I.hok a _ ea);exact C7 E6 I.kIn ⟨_,h1,rfl⟩ ho (JbN hT Us hU) (fun z=>nomatch z) fin
 | @tup a xs ea=>
  cases(show u=A3.ref a from ru);obtain⟨_,_,_,p⟩:=(show J4 X.prog X.w H s.heap a (.tup xs) from I.hok a _ ea);obtain⟨o,h1,h2,_⟩:=p;exact C7 Hn I.kIn ⟨o,h1,h2⟩ ho (JbN hT Us hU) (fun z=>nomatch z) fin
 | @dK a kvs ea=>
  cases(show u=A3.ref a from ru);obtain⟨_,_,vs,_,p⟩:=(show J4 X.prog X.w H s.heap a (.dK kvs) from I.hok a _ ea);obtain⟨o,es,ep,h1,h2,_⟩:=p;exact C7 E7 I.kIn ⟨o,h1,h2.1⟩ ho (JbN hT Us hU) (fun z=>nomatch z) fin
 | @dT a kvs ea=>
  cases(show u=A3.ref a from ru);obtain⟨_,_,xs,_,o,es,ep,h1,h2,_⟩:=(show J4 X.prog X.w H s.heap a (.dT kvs) from I.hok a _ ea);exact C7 E7 I.kIn ⟨o,h1,h2.1⟩ ho (JbN hT Us hU) (fun z=>nomatch z) fin
theorem JgD{its:List A3}{ns:List Int}(rv:Y2 (ns.map V.int) its):∃xs:Array (Int×Tok),its.toArray=intItems xs/\ns=xs.toList.map (·.1):=by
 have hi:=Jc7 rv;obtain⟨xs,e⟩:=hi.allInts.items;exact⟨xs,e,by rw[<- hi.numsOf,<- nums_intItems,<- e]⟩
theorem Jog(hc:X.calm=true):Jbg X (.builtin "max") (fun xs H Q=>∃(a:Addr)(ns:List Int),xs=[.ref a]/\SqL X.K H a (ns.map V.int)/\ns≠[]/\∀M,M∈ns->(∀b∈ns,b<=M)->Q (.int M) H):=by
 intro pins s σ H xs us Q I r h;obtain⟨a,ns,rfl,hq,hne,q⟩:=h;obtain⟨u,rfl,ru⟩:=Jcq r;cases ru;obtain⟨its,rv,pl,hz⟩:=I.list hq;obtain⟨ys,e,rfl⟩:=JgD rv;have hl:=pl.isList;rw[e]at hl
 have hsz:0<ys.size:=by
  cases z:ys.toList with
  | nil=>rw[z]at hne;exact absurd rfl hne
  | cons y t=>rw[<- Bo,z];exact Nat.succ_pos _
 refine max_intList (I.ok.hd hc) hl hsz fun v h' tk hv hk=>?_;obtain⟨t,rfl⟩:=intItems_at hv;obtain⟨h1,h2⟩:=argBest_gt (numAt ys) (ys.size-1);refine⟨.int _,H,I.kept (t':=tk) hk,⟨t,rfl⟩,q _ ?_ fun b hb=>?_⟩
 .rw[numAt_eq];refine getD_mem ?_;rw[A2,Bo];omega
 .obtain⟨j,hj,rfl⟩:=mem_getD hb;rw[A2,Bo]at hj;rw[<- numAt_eq];exact h2 j (by omega)
theorem Jca(hc:X.calm=true):Jbg X (.builtin "sum") (fun xs H Q=>∃(a:Addr)(ns:List Int),xs=[.ref a]/\SqL X.K H a (ns.map V.int)/\Q (.int ns.sum) H):=by
 intro pins s σ H xs us Q I r h;obtain⟨a,ns,rfl,hq,q⟩:=h;obtain⟨u,rfl,ru⟩:=Jcq r;cases ru;obtain⟨its,rv,pl,hz⟩:=I.list hq;obtain⟨ys,e,rfl⟩:=JgD rv;have hl:=pl.isList;rw[e]at hl;refine sum_intListG (I.ok.hd hc) hl fun h' tk t' hk=>?_;refine⟨.int _,H,I.kept (t':=tk) hk,⟨t',rfl⟩,?_⟩;rw[preSum_eq,AC (by simp)];exact q
end
theorem Jfy{α β:Type}{F:α->β->Prop}:∀{l₁:List α}{l₂:List β},l₁.length=l₂.length->(∀(j:Nat) a b,l₁[j]?=some a->l₂[j]?=some b->F a b)->BV F l₁ l₂
 | [],[],_,_=>.nil
 | [],_::_,h,_=>by simp at h
 | _::_,[],h,_=>by simp at h
 | a::r,b::t,h,g=>.cons (g 0 a b rfl rfl) (Jfy (by simpa using h) fun j x y e1 e2=>g (j+1) x y (by simpa using e1) (by simpa using e2))
theorem JX{α β:Type}{F:α->β->Prop}:∀{l₁:List α}{l₂:List β},BV F l₁ l₂->∀(j:Nat) a b,l₁[j]?=some a->l₂[j]?=some b->F a b
 | _,_,.nil,j,a,b,e,_=>by simp at e
 | _,_,.cons q _,0,a,b,e1,e2=>by
  cases e1;cases e2;exact q
 | _,_,.cons _ t,j+1,a,b,e1,e2=>JX t j a b (by simpa using e1) (by simpa using e2)
theorem JfA{k:Key}{v:A3}(h:JiM k v=true):Jaa (kV k) v:=by
 rcases YD h with⟨i,t,rfl,rfl⟩|⟨x,t,rfl,rfl⟩
 .exact⟨t,rfl⟩
 .exact⟨t,rfl⟩
section
variable {X:Cx}
theorem JlH(hc:X.calm=true):Jbg X (.type "list") (fun xs H Q=>∃(a:Addr) (kvs:List (Key×V)),xs=[.ref a]/\Rd H a (.dK kvs)/\∀l,H l=none->Q (.ref l) (upd H l (.lst (kvs.map fun p=>kV p.1)))):=by
 intro pins s σ H xs us Q I r h;obtain⟨a,kvs,rfl,hd,q⟩:=h;obtain⟨u,rfl,ru⟩:=Jcq r;cases ru;obtain⟨z,hs,vs,rel,dd⟩:=Jii I.hok hd;obtain⟨ep,hat⟩:=dd.dictAt;have hlen:=rel.length;refine PySem.W.kdl_call (PySem.W.kdl_dict hs) (I.ok.hd hc) hat (by rw[<- hlen];exact z) fun h' tk acc c hk hD hacc=>?_;refine⟨.ref s.heap.objs.size,_,I.laid (t':=tk) hk (A6 _) (show J4 X.prog X.w _ h' _ (.lst (kvs.map fun p=>kV p.1)) from⟨by rw[A2];exact z,acc.toList,c,?_,by rw[hD]⟩),rfl,q _ (I.hok.fresh (A6 _))⟩;refine Jfy (by rw[A2,hlen,<- hacc.1];simp) fun j x y e1 e2=>?_;rw[Ax]at e1;obtain⟨p,ep,rfl⟩:=Ak.mp e1;obtain⟨k,v,ek,hkey⟩:=hacc.2 j y (by rw[<- Cp];exact e2);have hp:=(JX rel j p (k,v) ep ek).1;have hp:p.1=k:=hp;rw[hp];exact JfA hkey
def Jsy(K:WF):R2:=fun x y H Q=>∃(a b:Addr)(xs:List V),x=.ref a/\y=.ref b/\SqL K H a xs/\SqL K H b []/\Q (.bl (!xs.isEmpty)) H
theorem Jf5(hu:X.A.units+1<DR):OpR X (Bs .NotEq) (Jsy X.K):=by
 intro pins s σ H x y v u Q I rx ry h;obtain⟨a,b,xs,rfl,rfl,ha,hb,q⟩:=h;cases rx;cases ry;obtain⟨its,rv,pl,_⟩:=I.list ha;obtain⟨its2,rv2,pl2,_⟩:=I.list hb
 have e2:its2=[]:=by
  cases rv2;rfl
 subst e2
 have hu':X.A.units<DR:=by omega
 have hlen:=rv.length
 cases xs with
 | nil=>
  have e1:its=[]:=by
   cases rv;rfl
  subst e1;exact DG.lists (e:=fun _=>true) pl.isList pl2.isList rfl hu' (fun j h1 _=>by simp at h1) X.prog X.w _ _ ⟨.bl false,H,I,rfl,q⟩
 | cons x r=>
  refine DG.lists_lengths pl.isList pl2.isList ?_ hu' X.prog X.w _ _ ⟨.bl true,H,I,rfl,q⟩
  have:its.toArray.size=(x::r).length:=by rw[AX,<- hlen]
  rw[this];rfl
end
section
variable {X:Cx} {pins:PL} {σ:St} {H:Hp} {s:A9} {a:Addr}
def Jf2(H₀:Hp)(a:Addr):Prop:=∀o u,H₀ a≠some (.frz o u)
theorem Inv.told{u o':HO}(I:Inv X pins σ H s)(e:H a=some u)(nt:∀xs,u≠.tup xs)(nb:∀ps,u≠.tbl ps)(no:∀x,u≠.own x)(nf:Jf2 X.H₀ a)(new:J4 X.prog X.w (upd H a o') s.heap a o'):Inv X pins σ (upd H a o') s:=by
 have ne:∀b,H b=none->b≠a:=fun b hb z=>by rw[z,e]at hb;cases hb
 refine⟨I.ok,I.os,I.bare,⟨I.base.keep,I.base.slot,fun b o h1 h2 h3=>?_,I.base.there,fun b xs h=>?_,fun b o v h=>?_,fun b ps h=>?_⟩,I.loc,I.cell,?_,fun x c h=>?_,fun p hp=>?_,fun b ob hb=>?_,I.len⟩
 .have:=I.base.free b o h1 h2 h3;rw[Jg (ne b this)];exact this
 .have q:=I.base.tups b xs h
  by_cases z:b=a
  .rw[z,e]at q;exact absurd (Ai q) (nt xs)
  .rw[Jg z];exact q
 .by_cases z:b=a
  .rw[z]at h;exact absurd h (nf o v)
  .rw[Jg z];exact I.base.frzs b o v h
 .obtain⟨more,q⟩:=I.base.tbls b ps h
  by_cases z:b=a
  .rw[z,e]at q;exact absurd (Ai q) (nb _)
  .exact⟨more,by rw[Jg z];exact q⟩
 .rw[Jg (ne _ I.free)];exact I.free
 .rw[Jg (ne _ (I.freeC x c h))];exact I.freeC x c h
 .obtain⟨p1,p2,p3⟩:=I.pin p hp;exact⟨p1,by rw[Jg (ne _ p2)];exact p2,p3⟩
 .by_cases z:b=a
  .subst z;rw[Ja]at hb;cases hb;exact new
  .rw[Jg z]at hb;refine(I.hok b ob hb).stay (fun _ _ _ q=>q) (fun c q=>?_) fun c xs q=>?_
   .have:c≠a:=fun w=>by rw[w,e]at q;exact absurd (Ai q) (no b)
    rw[Jg this];exact q
   .have:c≠a:=fun w=>by rw[w,e]at q;exact absurd (Ai q) (nt xs)
    rw[Jg this];exact q
theorem Inv.notFrz{u:HO}(I:Inv X pins σ H s)(e:H a=some u)(n:∀o v,u≠.frz o v):Jf2 X.H₀ a:=fun o v h=>by
 have:=I.base.frzs a o v h;rw[e]at this;exact n o v (Ai this)
theorem Inv.freeze{kvs:List (Key×V)}(I:Inv X pins σ H s)(e:H a=some (.dK kvs)):∃o,Inv X pins σ (upd H a (.frz o (.dK kvs))) s:=by
 have x:=I.hok a _ e;obtain⟨_,_,vs,_,o,es,ep,ho,_⟩:=id (show J4 X.prog X.w H s.heap a (.dK kvs) from x);exact⟨o,I.told e (fun _ z=>nomatch z) (fun _ z=>nomatch z) (fun _ z=>nomatch z) (I.notFrz e fun _ _ z=>nomatch z) ⟨ho,x⟩⟩
theorem Inv.thaw{o:Obj}{kvs:List (Key×V)}(I:Inv X pins σ H s)(e:H a=some (.frz o (.dK kvs)))(nf:Jf2 X.H₀ a):Inv X pins σ (upd H a (.dK kvs)) s:=by
 have x:=(show J4 X.prog X.w H s.heap a (.frz o (.dK kvs)) from I.hok a _ e).2;exact I.told e (fun _ z=>nomatch z) (fun _ z=>nomatch z) (fun _ z=>nomatch z) nf x
end
noncomputable def Itd(a:Addr)(o:Obj)(kvs:List (Key×V)):It:=
 ⟨fun i H=>H a=some (.frz o (.dK kvs))/\i<kvs.length,fun i H x H'=>H'=H/\∃k v,kvs[i]?=some (k,v)/\x=kV k,fun i H=>H a=some (.frz o (.dK kvs))/\kvs.length<=i⟩
def Jr2(o:Obj):Nat:=match o.data with
 | .dict _ ep=>ep
 | _=>0
theorem Jd3{X:Cx}{pins:PL}{σ:St}{H:Hp}{s:A9}{a:Addr}{o:Obj}{kvs:List (Key×V)}(I:Inv X pins σ H s)(e:H a=some (.frz o (.dK kvs))) :
  (a==sysModules)=false/\∃vs,KV kvs vs/\s.heap.DictAt (J9 X.prog X.w) a vs (Jr2 o):=by
 obtain⟨h1,_,h3,vs,rel,o',es,ep,h4,h5,h6,r⟩:=(show J4 X.prog X.w H s.heap a (.frz o (.dK kvs)) from I.hok a _ e);rw[h1]at h4;cases h4;refine⟨h3,vs,rel,o,es,h1,h5,?_,r⟩;unfold Jr2;rw[h6]
theorem Jmj{P:Ab}{w:At}{K:WF}{tg:Expr}(a it:Addr)(o:Obj)(kvs:List (Key×V)):Jor P w K tg (Itd a o kvs) [it] it (fun i h=>h.IsKeyIter it a i kvs.length (Jr2 o)) where
 mem:=Az
 obj:=fun i h hi b hb=>by
  have e:b=it:=by simpa using hb
  subst e;obtain⟨ob,h1,_,h3⟩:=hi;exact⟨ob,h1,fun v z=>by rw[h3]at z;cases z⟩
 keep:=fun i h h' hi k=>hi.at fun ob e=>k it Az ob e
 item:=fun X hP hw hK hc i pins s σ H E I f hi go=>by
  subst hP hw hK;obtain⟨e,hlt⟩:=go;obtain⟨_,vs,rel,hat⟩:=Jd3 I e;have hlen:=rel.length;obtain⟨f0,f1,f2,f3,f4,f5⟩:=f it Az
  have hv:i<vs.length:=by omega
  refine wpAny_pyNext_dict_item (k:=(vs[i]).1) (v:=(vs[i]).2) (by rw[<- hlen];exact hi) hat (A1 hv) fun key h' hkey hit' hs=>⟨key,rfl,?_⟩;obtain⟨ob,o1,o2,o3⟩:=id hit';refine Jlr o1 o2 o3 (by decide) ⟨kV (vs[i]).1,H,I.turned (t':=s.toks) (fun b q hb eq=>hs.extBut b q hb eq) f0 f1 f3 f4 f5,JfA hkey,⟨rfl,(kvs[i]).1,(kvs[i]).2,A1 hlt,?_⟩,by rw[hlen];exact hit',fun b hb=>by rw[A5.mp hb];exact f0⟩;have:=(JX rel i kvs[i] vs[i] (A1 hlt) (A1 hv)).1;rw[this]
 done:=fun X hP hw hK hc i pins s σ H E I f hi stop=>by
  subst hP hw hK;obtain⟨e,hle⟩:=stop;obtain⟨_,vs,rel,hat⟩:=Jd3 I e;have hlen:=rel.length;obtain⟨f0,f1,f2,f3,f4,f5⟩:=f it Az;exact wpAny_pyNext_dict_end (I.ok.hd hc) (by rw[<- hlen];exact hi) hat (C8 (by omega)) fun h' hx=>⟨rfl,I.turned (t':=s.toks) (fun b q hb eq=>hx b q hb eq) f0 f1 f3 f4 f5⟩
 self:=fun A i s Q E hi q=>Gi hi q
def JtF(H₀:Hp)(td:TE):TI:=fun σ H R=>td σ H fun x H1=>∃(a:Addr) (kvs:List (Key×V)),x=.ref a/\H1 a=some (.dK kvs)/\∀o,Jf2 H₀ a->R (Itd a o kvs) (upd H1 a (.frz o (.dK kvs)))
theorem JqB{X:Cx}{tg l:Expr}{tl:TE}(hl:PE X l tl):PI X tg l (JtF X.H₀ tl):=by
 intro pins s σ H R I h;refine thn (hl pins s σ H _ I h) fun v s1 hzz=>?_;obtain⟨x,H1,I1,r1,q1⟩:=hzz;obtain⟨a,kvs,e,hd,q⟩:=q1;subst e;cases r1
 have nf:=I1.notFrz hd fun _ _ z=>nomatch z
 obtain⟨o,I2⟩:=I1.freeze hd;obtain⟨hs,vs,rel,hat⟩:=Jd3 I2 Ja;have hlen:=rel.length;refine HG hs hat ?_;refine⟨s1.heap.objs.size,[s1.heap.objs.size],_,_,_,rfl,I2.kept (t':=s1.toks) fun b ob e=>A4 _ e,Jmj a _ o kvs,⟨_,Aw _ rfl,rfl,by rw[hlen];rfl⟩,fun b hb=>?_,q o nf⟩
 have e:b=s1.heap.objs.size:=by simpa using hb
 subst e;exact I2.fpOk (A6 _) (I2.hok.fresh (A6 _))
def thawQ(H₀:Hp)(Q:Hp->Prop):Hp->Prop:=fun H=>Q H\/∃(a:Addr)(o:Obj) (kvs:List (Key×V)),H a=some (.frz o (.dK kvs))/\Jf2 H₀ a/\Q (upd H a (.dK kvs))
theorem Inv.thawQ{X:Cx}{pins:PL}{σ:St}{H:Hp}{s:A9}{Q:Hp->Prop}(I:Inv X pins σ H s)(h:L2.thawQ X.H₀ Q H):∃H',Inv X pins σ H' s/\Q H':=by
 rcases h with h|⟨a,o,kvs,e,nf,h⟩
 .exact⟨H,I,h⟩
 .exact⟨_,I.thaw e nf,h⟩
def JtG(H₀:Hp)(t:TE):TE:=fun σ H Q=>t σ H fun v=>thawQ H₀ (Q v)
theorem Jrb{X:Cx}{e:Expr}{t:TE}(h:PE X e t):PE X e (JtG X.H₀ t):=fun pins s σ H Q I q=>
 thn (h pins s σ H _ I q) fun u s' ⟨v,H1,I1,r,q1⟩ =>let ⟨H2,I2,q2⟩:=I1.thawQ q1;⟨v,H2,I2,r,q2⟩
def Jty(H₀:Hp)(t:TS):TS:=fun D σ H=>t { nx:=fun σ=>thawQ H₀ (D.nx σ),rt:=fun v=>thawQ H₀ (D.rt v),bk:=fun σ=>thawQ H₀ (D.bk σ),ct:=fun σ=>thawQ H₀ (D.ct σ) } σ H
theorem Jhv{X:Cx}{st:Stmt}{t:TS}(h:PS X st t):PS X st (Jty X.H₀ t):=fun pins s σ H D I q=>
 thn (h pins s σ H _ I q) fun f s' z=>by
  cases f with
  | next=>obtain⟨σ',H',I',q'⟩:=z;obtain⟨H2,I2,q2⟩:=I'.thawQ q';exact⟨σ',H2,I2,q2⟩
  | brk=>obtain⟨σ',H',I',q'⟩:=z;obtain⟨H2,I2,q2⟩:=I'.thawQ q';exact⟨σ',H2,I2,q2⟩
  | cont=>obtain⟨σ',H',I',q'⟩:=z;obtain⟨H2,I2,q2⟩:=I'.thawQ q';exact⟨σ',H2,I2,q2⟩
  | ret u=>obtain⟨v,σ',H',I',r,q'⟩:=z;obtain⟨H2,I2,q2⟩:=I'.thawQ q';exact⟨v,σ',H2,I2,r,q2⟩
theorem Jni{a:Addr}{o:Obj}{kvs:List (Key×V)}{acc:Addr}{g:TG}{tc:TT}{te:TE}{Q:VK}{σ:St}{H:Hp}(Pv:Nat->List V->St->Hp->Prop)(h0:Pv 0 [] σ H)
  (hl:∀i ys σ H,Pv i ys σ H->H a=some (.frz o (.dK kvs)))
  (hs:∀i k v ys σ H,kvs[i]?=some (k,v)->Pv i ys σ H->ys.length<AK/\g (kV k) σ H fun σ3 H3=>tc σ3 H3 fun b H4=>
   if b=true then te σ3 H4 fun y H5=>H5 acc=some (.lst ys)/\Pv (i+1) (ys++[y]) σ3 (upd H5 acc (.lst (ys++[y])))else Pv (i+1) ys σ3 H4)
  (hd:∀ys σ H,Pv kvs.length ys σ H->Q (.ref acc) H):JhI (Itd a o kvs) acc g tc te Q σ H:=
 JeN (n:=kvs.length) Pv h0
  (fun i ys σ H hi p=>⟨⟨hl i ys σ H p,hi⟩,(hs i kvs[i].1 kvs[i].2 ys σ H (A1 hi) p).1,fun x H2 ⟨e1,k,v,e2,e3⟩ =>by subst e1 e3;exact(hs i k v ys σ _ e2 p).2⟩)
  fun ys σ H p=>⟨⟨hl _ ys σ H p,A6 _⟩,hd ys σ H p⟩
section
variable {prog:Ab} {w:At} {A:AH} {E:A3→A9→Prop} {s:A9}
theorem Jss{j t:Addr}{i:Nat}{its:Array A3}{x:A3}{Q:VS}(b1:s.heap.IsTupleIter j t i)(b2:s.heap.IsTuple t its)(b3:its[i]?=some x)
  (k:∀g,g.IsTupleIter j t (i+1)->Br j s.heap g->Q x { s with heap:=g }):AV (Af prog w) A (Am.SmallTypes.nextOf (.ref j)) Q E s:=by
 obtain⟨oj,ej,cj,dj⟩:=id b1;obtain⟨ot,et,_,nt,dt⟩:=b2;unfold Am.SmallTypes.nextOf;refine A0 (Bj (name:=Cc "__next__") b1.typeIs E9 (Bz E9 b1.typeIs PySem.F.entry_tuple_iterator_next ?_ (PySem.F.args_tuple_iterator_next_1 _)));show AV _ _ (MY (.ref j) 0 >>= _) _ _ s;refine A0 (C6 ej dj (x:=.ref t) rfl ?_);show AV _ _ (if(A3.ref t==.none)=true then _ else _) _ _ s;rw[if_neg (show¬((A3.ref t==.none)=true) from AW)];show AV _ _ (MY (.ref j) 1 >>= _) _ _ s;refine A0 (C6 ej dj (x:=.int i 0) rfl ?_);show AV (Af prog w) _ (seqItems? (.ref t) >>= _) _ _ s;refine A0 (Ck et dt ?_);simp only[Ej,b3];refine A0 (Gh ej dj (by simp) (A8 ⟨x,rfl,A8 (k _ ?_ (Br.update ..))⟩));refine⟨_,C9 _ ej (Gc (DL dj _)),(K1 ..).trans cj,?_⟩;rw[DL dj];simp[Cb]
theorem Jjz{z T1 T2 j1 j2 l1 l2:Addr}{n1 n2:Nat}{xs ys:Array A3}{x y p q:A3}{Q:VS}(D:HN z T1 T2 j1 j2 l1 l2)
  (cz:Fk s.heap z T1 T2 .none) (c1:CM s.heap T1 (.ref j1) (.ref j2)) (c2:CM s.heap T2 p q)
  (k1:s.heap.IsListIter j1 l1 n1) (k2:s.heap.IsTupleIter j2 l2 n2) (m1:s.heap.IsList l1 xs) (m2:s.heap.IsTuple l2 ys) (ex:xs[n1]?=some x) (ey:ys[n2]?=some y)
  (fin:∀g,Fk g z T1 T2 (Cb s.heap.objs.size)->CM g T2 x y->g.IsListIter j1 l1 (n1+1)->g.IsTupleIter j2 l2 (n2+1)->CM g s.heap.objs.size x y->g.objs.size=s.heap.objs.size+1->
   (∀c o,c≠z->c≠T2->c≠j1->c≠j2->s.heap.get? c=some o->g.get? c=some o)->Q (.ref s.heap.objs.size) { s with heap:=g }) :
  AV (Af prog w) A (Am.«zip.__next__» ⟨[.ref z],[]⟩) (fun r s'=>∃v,r=.done (.ret v)/\Q v s') E s:=by
 have tat:∀{g g':Heap}{j t n:Nat},g.IsTupleIter j t n->(∀o,g.get? j=some o->g'.get? j=some o)->g'.IsTupleIter j t n:=fun h e=>let ⟨o,ho,r⟩:=h;⟨o,e o ho,r⟩
 have tup:∀{g g':Heap}{t:Nat}{vs:Array A3},g.IsTuple t vs->(∀o,g.get? t=some o->g'.get? t=some o)->g'.IsTuple t vs:=fun h e=>let ⟨o,ho,r⟩:=h;⟨o,e o ho,r⟩
 show AV (Af prog w) _ (MY (.ref z) 2 >>= _) _ _ _;refine A0 (C6 cz rfl (x:=.bool false) rfl ?_);show AV (Af prog w) _ (MY (.ref z) 3 >>= _) _ _ _;refine A0 (C6 cz rfl (x:=.ref T1) rfl ?_);refine A0 (Ck c1 rfl ?_);show AV (Af prog w) _ (Am.SmallTypes.ownedTupleIsFree (.ref z) >>= _) _ _ _;refine A0 ?_;unfold Am.SmallTypes.ownedTupleIsFree;refine A0 (C6 cz rfl (x:=.none) rfl (A8 ?_));simp only[if_true];refine A0 (Ft ?_);refine A0 (C6 cz rfl (x:=.ref T2) rfl ?_);refine A0 (Bb cz (by simp) fun g1 z1 e1=>?_);have z1:Fk g1 z T1 T2 .ellipsis:=z1;refine A0 ?_;simp only[Kb,Ks,Gv,M0];refine A0 (A0 (Hj ?_));show AV (Af prog w) _ (Am.SmallTypes.nextOf (.ref j1) >>= _) _ _ _;refine A0 (wpAny_nextOf_list_item (k1.extBut e1.extBut D.i1z) (m1.extBut e1.extBut D.l1z) ex fun g2 f2 e2=>A8 ?_);have t2:CM g2 T2 p q:=e2.extBut _ _ D.TOi1 (e1.extBut _ _ D.TOz c2);refine A0 (Ck t2 rfl ?_);refine A0 (Gg t2 fun g3 t3 e3=>?_);have t3:CM g3 T2 x q:=t3;refine A0 (Kg (A8 ?_));refine A0 (A0 (Hj ?_));show AV (Af prog w) _ (Am.SmallTypes.nextOf (.ref j2) >>= _) _ _ _;refine A0 (Jss (tat k2 fun o h=>e3.extBut _ _ D.TOi2.symm (e2.extBut _ _ D.i12.symm (e1.extBut _ _ D.i2z h))) (tup m2 fun o h=>e3.extBut _ _ D.l2TO (e2.extBut _ _ D.l2i1 (e1.extBut _ _ D.l2z h))) ey fun g4 f4 e4=>A8 ?_);have t4:CM g4 T2 x q:=e4.extBut _ _ D.TOi2 t3;refine A0 (Ck t4 rfl ?_);refine A0 (Gg t4 fun g5 t5 e5=>?_);have t5:CM g5 T2 x y:=t5;refine A0 (Kg (A8 (A8 ?_)));refine A0 (Ck t5 rfl ?_);refine A0 (wpAny_newTuple ?_)
 have sz:g5.objs.size=s.heap.objs.size:=by rw[e5.1,e4.1,e3.1,e2.1,e1.1]
 have z5:Fk g5 z T1 T2 .ellipsis:=e5.extBut _ _ D.TOz.symm (e4.extBut _ _ D.i2z.symm (e3.extBut _ _ D.TOz.symm (e2.extBut _ _ D.i1z.symm z1)));have keep:∀c o,c≠z->c≠T2->c≠j1->c≠j2->s.heap.get? c=some o->g5.get? c=some o:=fun c o n1 n2 n3 n4 h=>e5.extBut _ _ n2 (e4.extBut _ _ n4 (e3.extBut _ _ n2 (e2.extBut _ _ n3 (e1.extBut _ _ n1 h))));have f15:g5.IsListIter j1 l1 (n1+1):=((f2.extBut e3.extBut D.TOi1.symm).extBut e4.extBut D.i12).extBut e5.extBut D.TOi1.symm;have f25:g5.IsTupleIter j2 l2 (n2+1):=tat f4 fun o h=>e5.extBut _ _ D.TOi2.symm h;have zlt:z<g5.objs.size:=AZ z5;show AV (Af prog w) _ (Am.SmallTypes.ownedTupleHandOut (.ref z) (.ref g5.objs.size) >>= _) _ _ _;refine A0 ?_;unfold Am.SmallTypes.ownedTupleHandOut;have z6:Fk (g5.push { cls:=.type "tuple",data:=.seq #[x,y] }) z T1 T2 .ellipsis:=A4 _ z5;refine A0 (Bb z6 (by simp) fun g7 z7 e7=>?_);have z7:Fk g7 z T1 T2 (Cb g5.objs.size):=z7;refine Bb z7 (by simp) fun g8 z8 e8=>?_;have z8:Fk g8 z T1 T2 (Cb g5.objs.size):=z8;have up:∀c o,c≠z->g5.get? c=some o->g8.get? c=some o:=fun c o n1 h=>e8.extBut _ _ n1 (e7.extBut _ _ n1 (A4 _ h));have t8:CM g8 g5.objs.size x y:=e8.extBut _ _ (Ce zlt) (e7.extBut _ _ (Ce zlt) (Aw _ rfl))
 have s8:g8.objs.size=g5.objs.size+1:=by rw[e8.1,e7.1,By]
 rw[sz]at z8 t8 s8;refine A8 ⟨_,rfl,?_⟩;show Q (.ref g5.objs.size) _;rw[sz];exact fin g8 z8 (up _ _ D.TOz t5) (f15.at fun o h=>up _ o D.i1z h) (tat f25 fun o h=>up _ o D.i2z h) t8 s8 fun c o n1 n2 n3 n4 h=>up c o n1 (keep c o n1 n2 n3 n4 h)
theorem Jlv{z T1 T2 j1 j2 l1 l2:Addr}{n1:Nat}{xs:Array A3}{p q:A3}{Q:Fin->A9->Prop}(hh:A.handled=none)(D:HN z T1 T2 j1 j2 l1 l2)
  (cz:Fk s.heap z T1 T2 .none) (c1:CM s.heap T1 (.ref j1) (.ref j2)) (c2:CM s.heap T2 p q) (k1:s.heap.IsListIter j1 l1 n1) (m1:s.heap.IsList l1 xs) (ex:xs[n1]?=none)
  (fin:∀g e,(∀c o,c≠z->c≠T2->c≠j1->c≠j2->s.heap.get? c=some o->g.get? c=some o)->(∃o,g.get? e=some o/\o.cls=.type "StopIteration")->E (.ref e) { s with heap:=g }) :
  AV (Af prog w) A (Am.«zip.__next__» ⟨[.ref z],[]⟩) Q E s:=by
 show AV (Af prog w) _ (MY (.ref z) 2 >>= _) _ _ _;refine A0 (C6 cz rfl (x:=.bool false) rfl ?_);show AV (Af prog w) _ (MY (.ref z) 3 >>= _) _ _ _;refine A0 (C6 cz rfl (x:=.ref T1) rfl ?_);refine A0 (Ck c1 rfl ?_);show AV (Af prog w) _ (Am.SmallTypes.ownedTupleIsFree (.ref z) >>= _) _ _ _;refine A0 ?_;unfold Am.SmallTypes.ownedTupleIsFree;refine A0 (C6 cz rfl (x:=.none) rfl (A8 ?_));simp only[if_true];refine A0 (Ft ?_);refine A0 (C6 cz rfl (x:=.ref T2) rfl ?_);refine A0 (Bb cz (by simp) fun g1 z1 e1=>?_);have z1:Fk g1 z T1 T2 .ellipsis:=z1;refine A0 ?_;simp only[Kb,Ks,Gv,M0];refine A0 (A0 (Hj ?_));show AV (Af prog w) _ (Am.SmallTypes.nextOf (.ref j1) >>= _) _ _ _;refine A0 (wpAny_nextOf_list_end hh (k1.extBut e1.extBut D.i1z) (m1.extBut e1.extBut D.l1z) ex fun g2 e e2 hzz=>?_);obtain⟨oe,he,ce⟩:=hzz;have z2:Fk g2 z T1 T2 .ellipsis:=e2 _ _ D.i1z.symm z1
 have ne:e≠z:=fun h=>by
  subst h;rw[z2]at he;cases he;simp at ce
 exact Bb z2 (by simp) fun g3 _ e3=>fin g3 e (fun c o n1 _ n3 _ h=>e3.extBut _ _ n1 (e2 _ _ n3 (e1.extBut _ _ n1 h))) ⟨oe,e3.extBut _ _ ne he,ce⟩
theorem Jj5{z T1 T2 j1 j2 l1 l2:Addr}{n1 n2:Nat}{xs ys:Array A3}{x y p q:A3}{Q:Option A3->A9->Prop}(D:HN z T1 T2 j1 j2 l1 l2)
  (cz:Fk s.heap z T1 T2 .none) (c1:CM s.heap T1 (.ref j1) (.ref j2)) (c2:CM s.heap T2 p q)
  (k1:s.heap.IsListIter j1 l1 n1) (k2:s.heap.IsTupleIter j2 l2 n2) (m1:s.heap.IsList l1 xs) (m2:s.heap.IsTuple l2 ys) (ex:xs[n1]?=some x) (ey:ys[n2]?=some y)
  (fin:∀g,Fk g z T1 T2 (Cb s.heap.objs.size)->CM g T2 x y->g.IsListIter j1 l1 (n1+1)->g.IsTupleIter j2 l2 (n2+1)->CM g s.heap.objs.size x y->g.objs.size=s.heap.objs.size+1->
   (∀c o,c≠z->c≠T2->c≠j1->c≠j2->s.heap.get? c=some o->g.get? c=some o)->Q (some (.ref s.heap.objs.size)) { s with heap:=g }):AV (Af prog w) A (Dy (.ref z)) Q E s:=by
 have ty:s.TypeIs (.ref z) "zip":=⟨_,cz,rfl⟩;unfold Dy
 exact A0 (CF (Bj (name:=Cc "__next__") ty DQ (Bz DQ ty FH
  (Jjz D cz c1 c2 k1 k2 m1 m2 ex ey fun g a1 a2 a3 a4 a5 a6 a7=>A8 (fin g a1 a2 a3 a4 a5 a6 a7)) (Fh _))))
theorem Jj1{z T1 T2 j1 j2 l1 l2:Addr}{n1:Nat}{xs:Array A3}{p q:A3}{Q:Option A3->A9->Prop}(hh:A.handled=none)(D:HN z T1 T2 j1 j2 l1 l2)
  (cz:Fk s.heap z T1 T2 .none) (c1:CM s.heap T1 (.ref j1) (.ref j2)) (c2:CM s.heap T2 p q) (k1:s.heap.IsListIter j1 l1 n1) (m1:s.heap.IsList l1 xs) (ex:xs[n1]?=none)
  (fin:∀g,(∀c o,c≠z->c≠T2->c≠j1->c≠j2->s.heap.get? c=some o->g.get? c=some o)->Q none { s with heap:=g }):AV (Af prog w) A (Dy (.ref z)) Q E s:=by
 have ty:s.TypeIs (.ref z) "zip":=⟨_,cz,rfl⟩;unfold Dy
 refine A0 (CF (Bj (name:=Cc "__next__") ty DQ (Bz DQ ty FH
  (Jlv hh D cz c1 c2 k1 m1 ex fun g e hk ⟨o,ho,hc⟩ =>?_) (Fh _))))
 exact A0 (Dh (T:="StopIteration") (b:=true) ⟨o,ho,hc⟩ EA (A8 (fin _ hk)))
theorem Jlz(l1 l2:Addr)(xs ys:Array A3):Meets (Am.«zip.__new__» ⟨[.type "zip",.ref l1,.ref l2],[]⟩) (fun _ R s=>s.heap.IsList l1 xs/\s.heap.IsTuple l2 ys/\
   R (.ok (.ret (.ref (s.heap.objs.size+4)))) { s with heap:=((((s.heap.push { cls:=.type "list_iterator",data:=.fields #[.ref l1,.int 0 0] }).push { cls:=.type "tuple_iterator",data:=.fields #[.ref l2,.int 0 0] }).push
    { cls:=.type "tuple",data:=.seq #[.ref s.heap.objs.size,.ref (s.heap.objs.size+1)] }).push { cls:=.type "tuple",data:=.seq #[.none,.none] }).push { cls:=.type "zip",data:=.fields #[.none,.bool false,.bool false,.ref (s.heap.objs.size+2),.ref (s.heap.objs.size+3)] } }):=
 .of_wp fun prog w A R s h=>by
  obtain⟨hp,g,d,tk,os⟩:=s;obtain⟨m1,m2,h⟩:=h;have hsub:=sub_zip;have q1:Heap.IsList (A9.heap ⟨hp,g,d,tk,os⟩) l1 xs:=m1
  have q2:Heap.IsTuple (A9.heap ⟨hp.push { cls:=.type "list_iterator",data:=.fields #[.ref l1,.int 0 0] },g,d,tk,os⟩) l2 ys:=let ⟨o,ho,r⟩:=m2;⟨o,A4 _ ho,r⟩
  wp_walk using DZ q1,HV q2
  refine⟨_,rfl,?_⟩;simp only[By]at h ⊢;exact h
end
section
variable {prog:Ab} {w:At} {A:AH} {E:A3→A9→Prop} {s:A9}
theorem JjG{l1 l2:Addr}{xs ys:Array A3}{Q:VS}(m1:s.heap.IsList l1 xs)(m2:s.heap.IsTuple l2 ys)
  (k:∀g,Fk g (s.heap.objs.size+4) (s.heap.objs.size+2) (s.heap.objs.size+3) .none->CM g (s.heap.objs.size+2) (.ref s.heap.objs.size) (.ref (s.heap.objs.size+1))->CM g (s.heap.objs.size+3) .none .none->
   g.IsListIter s.heap.objs.size l1 0->g.IsTupleIter (s.heap.objs.size+1) l2 0->(∀c o,s.heap.get? c=some o->g.get? c=some o)->Q (.ref (s.heap.objs.size+4)) { s with heap:=g }) :
  AV (Af prog w) A (call (.type "zip") [.ref l1,.ref l2]) Q E s:=by
 refine callType_new PySem.F.called_zip (by decide) (PySem.F.typeCall_zip_2 _ _) (PySem.F.newCall_zip_2 _ _) (fun obj=>PySem.F.args_object_init_3 obj _ _) PySem.F.entry_zip_new (Jlz l1 l2 xs ys) ⟨m1,m2,?_⟩;generalize hA:s.heap.push { cls:=.type "list_iterator",data:=.fields #[.ref l1,.int 0 0] }=a1
 have sa:a1.objs.size=s.heap.objs.size+1:=by rw[<- hA,By]
 have oa:a1.get? s.heap.objs.size=some { cls:=.type "list_iterator",data:=.fields #[.ref l1,.int 0 0] }:=by rw[<- hA];exact Aw _ rfl
 have ka:∀c o,s.heap.get? c=some o->a1.get? c=some o:=fun c o h=>by rw[<- hA];exact A4 _ h
 clear hA;generalize hB:a1.push { cls:=.type "tuple_iterator",data:=.fields #[.ref l2,.int 0 0] }=a2
 have sb:a2.objs.size=s.heap.objs.size+2:=by rw[<- hB,By,sa]
 have ob:a2.get? (s.heap.objs.size+1)=some { cls:=.type "tuple_iterator",data:=.fields #[.ref l2,.int 0 0] }:=by rw[<- hB,<- sa];exact Aw _ rfl
 have kb:∀c o,a1.get? c=some o->a2.get? c=some o:=fun c o h=>by rw[<- hB];exact A4 _ h
 clear hB;generalize hC:a2.push { cls:=.type "tuple",data:=.seq #[.ref s.heap.objs.size,.ref (s.heap.objs.size+1)] }=a3
 have sc:a3.objs.size=s.heap.objs.size+3:=by rw[<- hC,By,sb]
 have oc:a3.get? (s.heap.objs.size+2)=some { cls:=.type "tuple",data:=.seq #[.ref s.heap.objs.size,.ref (s.heap.objs.size+1)] }:=by rw[<- hC,<- sb];exact Aw _ rfl
 have kc:∀c o,a2.get? c=some o->a3.get? c=some o:=fun c o h=>by rw[<- hC];exact A4 _ h
 clear hC;generalize hD:a3.push { cls:=.type "tuple",data:=.seq #[.none,.none] }=a4
 have sd:a4.objs.size=s.heap.objs.size+4:=by rw[<- hD,By,sc]
 have od:a4.get? (s.heap.objs.size+3)=some { cls:=.type "tuple",data:=.seq #[.none,.none] }:=by rw[<- hD,<- sc];exact Aw _ rfl
 have kd:∀c o,a3.get? c=some o->a4.get? c=some o:=fun c o h=>by rw[<- hD];exact A4 _ h
 clear hD
 have oe:(a4.push { cls:=.type "zip",data:=.fields #[.none,.bool false,.bool false,.ref (s.heap.objs.size+2),.ref (s.heap.objs.size+3)] }).get? (s.heap.objs.size+4)=some { cls:=.type "zip",data:=.fields #[.none,.bool false,.bool false,.ref (s.heap.objs.size+2),.ref (s.heap.objs.size+3)] }:=by
  rw[<- sd];exact Aw _ rfl
 have ke:∀c o,a4.get? c=some o->(a4.push { cls:=.type "zip",data:=.fields #[.none,.bool false,.bool false,.ref (s.heap.objs.size+2),.ref (s.heap.objs.size+3)] }).get? c=some o:=fun c o h=>A4 _ h;exact⟨⟨_,oe,rfl⟩,k _ oe (ke _ _ (kd _ _ oc)) (ke _ _ od) ⟨_,ke _ _ (kd _ _ (kc _ _ (kb _ _ oa))),rfl,rfl⟩ ⟨_,ke _ _ (kd _ _ (kc _ _ ob)),rfl,rfl⟩ fun c o h=>ke _ _ (kd _ _ (kc _ _ (kb _ _ (ka _ _ h))))⟩
end
theorem Inv.turnedT{X:Cx}{pins:PL}{σ:St}{H:Hp}{s:A9}{h':Heap}{ch:List Addr}{x y:V}{u v:A3}(I:Inv X pins σ H s)
  (k:∀c o,c∉ch->s.heap.get? c=some o->h'.get? c=some o) (hf:∀b∈ch,Jl3 X pins H b) (hlive:∀b∈ch,∃o,h'.get? b=some o) (rx:Jaa x u) (ry:Jaa y v) (ht:CM h' s.heap.objs.size u v) :
  Inv X pins σ (upd H s.heap.objs.size (.tup [x,y])) { s with heap:=h' }:=by
 have hn:H s.heap.objs.size=none:=I.hok.fresh (A6 _)
 have nch:∀b o,H b=some o->b∉ch:=fun b o e hb=>by rw[(hf b hb).1]at e;cases e
 refine I.call (g':=s.gens) (t':=s.toks) (d':=s.drawn) (ch:=ch) ⟨fun b o e n hb hc=>k b o hc e,fun b o e n hb hc=>⟨o.slots,k b o hc e⟩,fun b o e n hc=>?_,fun b o e hc=>⟨o,k b o hc e⟩,fun b xs e=>?_,fun b o z e=>?_,fun b ps e=>⟨#[],?_⟩⟩ (fun b o e=>?_) I.bare
  fun b hb=>⟨(hf b hb).2.2.2.1,(hf b hb).2.1,(hf b hb).2.2.2.2.1,(hf b hb).2.2.2.2.2⟩
 .rw[Jg (Ar (AZ e))];exact n
 .rw[Jg (Jh e hn)];exact e
 .rw[Jg (Jh e hn)];exact e
 .rw[Jg (Jh e hn),e];simp
 .by_cases hb:b=s.heap.objs.size
  .subst hb;rw[Ja]at e;cases e;exact⟨by show 2<=AK;decide,[u,v],.cons rx (.cons ry .nil),_,ht,rfl,0,rfl⟩
  .rw[Jg hb]at e;refine(I.hok b o e).stay (fun c q hc hq=>k c q ?_ hq) (fun c q=>?_) fun c xs q=>?_
   .rcases hc with rfl|hc
    .exact nch _ _ e
    .exact nch _ _ hc
   .rw[Jg (Jh q hn)];exact q
   .rw[Jg (Jh q hn)];exact q
noncomputable def Itz(K:WF)(a b:Addr):It:=
 ⟨fun i H=>∃xs ys x y,SqL K H a xs/\SqT K H b ys/\xs[i]?=some x/\ys[i]?=some y,
  fun i H v H'=>∃t x y,v=.ref t/\H t=none/\H'=upd H t (.tup [x,y])/\(∀xs,SqL K H a xs->xs[i]?=some x)/\∀ys,SqT K H b ys->ys[i]?=some y,
  fun i H=>∃xs,SqL K H a xs/\xs.length<=i⟩
def JrC(a b z T1 T2 j1 j2:Addr)(i:Nat)(h:Heap):Prop:=
 Fk h z T1 T2 .none/\CM h T1 (.ref j1) (.ref j2)/\(∃p q,CM h T2 p q)/\h.IsListIter j1 a i/\h.IsTupleIter j2 b i
theorem Jpa{P:Ab}{w:At}{K:WF}{es:List Expr}{kk:Nat}{tp:Pos}{a b z T1 T2 j1 j2:Addr}(D:HN z T1 T2 j1 j2 a b):Jor P w K (.Tuple es kk tp) (Itz K a b) [z,T1,T2,j1,j2] z (JrC a b z T1 T2 j1 j2) where
 mem:=Az
 obj:=fun i h ⟨h1,h2,⟨p,q,h3⟩,⟨o4,e4,_,d4⟩,⟨o5,e5,_,d5⟩⟩ c hc=>by
  simp only[Aq,AG,or_false]at hc
  rcases hc with rfl|rfl|rfl|rfl|rfl
  .exact⟨_,h1,fun v e=>nomatch e⟩
  .exact⟨_,h2,fun v e=>nomatch e⟩
  .exact⟨_,h3,fun v e=>nomatch e⟩
  .exact⟨_,e4,fun v e=>by rw[d4]at e;cases e⟩
  .exact⟨_,e5,fun v e=>by rw[d5]at e;cases e⟩
 keep:=fun i h h' ⟨h1,h2,⟨p,q,h3⟩,h4,h5⟩ k=>⟨k z (by simp) _ h1,k T1 (by simp) _ h2,⟨p,q,k T2 (by simp) _ h3⟩,h4.at fun o e=>k j1 (by simp) o e,h5.at fun o e=>k j2 (by simp) o e⟩
 item:=by
  intro X hP hw hK hc i pins s σ H E I hf st hg;subst hP hw hK;obtain⟨xs,ys,x,y,hq1,hq2,hx,hy⟩:=hg;obtain⟨h1,h2,⟨p,q,h3⟩,h4,h5⟩:=st;obtain⟨its,rv,pl,_⟩:=I.list hq1;obtain⟨its2,rv2,pl2,_⟩:=I.tuple hq2;obtain⟨u,hu,ru⟩:=rv.get hx;obtain⟨v,hv,rv'⟩:=rv2.get hy;refine Jj5 D h1 h2 h3 h4 h5 pl.isList (show s.heap.IsTuple b its2.toArray from pl2) (x:=u) (y:=v) (by simpa using hu) (by simpa using hv) fun g a1 a2 a3 a4 a5 a6 a7=>⟨_,rfl,?_⟩;refine wpAny_letOwnedTupleGo_zip a1 fun g' z' e'=>?_;have lt:∀{c o},s.heap.get? c=some o->s.heap.objs.size≠c:=fun e=>Ce (AZ e)
  have kz:∀c o,c∉[z,T1,T2,j1,j2]->s.heap.get? c=some o->g'.get? c=some o:=fun c o hc e=>by
   simp only[Aq,AG,or_false,not_or]at hc;exact e'.extBut _ _ hc.1 (a7 c o hc.1 hc.2.2.1 hc.2.2.2.1 hc.2.2.2.2 e)
  have tn':JrC a b z T1 T2 j1 j2 (i+1) g':=⟨z',e'.extBut _ _ D.TIz (a7 _ _ D.TIz D.TITO D.TIi1 D.TIi2 h2),⟨_,_,e'.extBut _ _ D.TOz a2⟩,a3.at fun o e=>e'.extBut _ _ D.i1z e,a4.at fun o e=>e'.extBut _ _ D.i2z e⟩
  have fresh:∀c∈[z,T1,T2,j1,j2],c≠s.heap.objs.size:=fun c hc=>by
   simp only[Aq,AG,or_false]at hc
   rcases hc with rfl|rfl|rfl|rfl|rfl
   .exact(lt h1).symm
   .exact(lt h2).symm
   .exact(lt h3).symm
   .obtain⟨o,e,_⟩:=h4;exact(lt e).symm
   .obtain⟨o,e,_⟩:=h5;exact(lt e).symm
  have Iz:=I.turnedT (h':=g') (ch:=[z,T1,T2,j1,j2]) kz hf (fun c hc=>?_) ru rv' (e'.extBut _ _ (lt h1) a5)
  .refine⟨.ref s.heap.objs.size,_,Iz,rfl,⟨_,x,y,rfl,I.hok.fresh (A6 _),rfl,fun zs hz=>by rw[I.list_inj hz hq1];exact hx,fun zs hz=>by rw[I.tuple_inj hz hq2];exact hy⟩,tn',fun c hc=>?_⟩;rw[Jg (fresh c hc)];exact(hf c hc).1
  .obtain⟨n1,n2,⟨p',q',n3⟩,⟨o4,e4,_⟩,⟨o5,e5,_⟩⟩:=tn';simp only[Aq,AG,or_false]at hc
   rcases hc with rfl|rfl|rfl|rfl|rfl
   .exact⟨_,n1⟩
   .exact⟨_,n2⟩
   .exact⟨_,n3⟩
   .exact⟨_,e4⟩
   .exact⟨_,e5⟩
 done:=by
  intro X hP hw hK hc i pins s σ H E I hf st hg;subst hP hw hK;obtain⟨xs,hq1,hx⟩:=hg;obtain⟨h1,h2,⟨p,q,h3⟩,h4,h5⟩:=st;obtain⟨its,rv,pl,_⟩:=I.list hq1;have hl:=rv.length;refine Jj1 (I.ok.hd hc) D h1 h2 h3 h4 pl.isList (by simp;omega) fun g hk=>⟨rfl,?_⟩
  refine I.call (g':=s.gens) (t':=s.toks) (d':=s.drawn) (ch:=[z,T2,j1,j2]) ⟨fun c o e n hb hc=>hk c o (fun w=>hc (by simp[w])) (fun w=>hc (by simp[w])) (fun w=>hc (by simp[w])) (fun w=>hc (by simp[w])) e,
   fun c o e n hb hc=>⟨o.slots,hk c o (fun w=>hc (by simp[w])) (fun w=>hc (by simp[w])) (fun w=>hc (by simp[w])) (fun w=>hc (by simp[w])) e⟩,fun c o e n hc=>n,fun c o e hc=>⟨o,hk c o (fun w=>hc (by simp[w])) (fun w=>hc (by simp[w])) (fun w=>hc (by simp[w])) (fun w=>hc (by simp[w])) e⟩,
   fun c zs e=>e,fun c o v e=>e,fun c ps e=>⟨#[],by rw[e];simp⟩⟩ (fun c o e=>?_) I.bare fun c hc=>?_
  .have nch:∀{c':Addr}{o':HO},H c'=some o'->c'≠z/\c'≠T2/\c'≠j1/\c'≠j2:=fun{c' o'} e'=>
    ⟨fun w=>(by rw[w,(hf z (by simp)).1]at e';cases e'),fun w=>(by rw[w,(hf T2 (by simp)).1]at e';cases e'),fun w=>(by rw[w,(hf j1 (by simp)).1]at e';cases e'),fun w=>(by rw[w,(hf j2 (by simp)).1]at e';cases e')⟩
   refine(I.hok c o e).stay (fun c' q' hc' hq'=>?_) (fun _ q'=>q') fun _ _ q'=>q'
   rcases hc' with rfl|hc'
   .exact hk _ _ (nch e).1 (nch e).2.1 (nch e).2.2.1 (nch e).2.2.2 hq'
   .exact hk _ _ (nch hc').1 (nch hc').2.1 (nch hc').2.2.1 (nch hc').2.2.2 hq'
  .have hc':c∈[z,T1,T2,j1,j2]:=by
    simp only[Aq,AG,or_false]at hc ⊢
    rcases hc with h|h|h|h
    .exact .inl h
    .exact .inr (.inr (.inl h))
    .exact .inr (.inr (.inr (.inl h)))
    .exact .inr (.inr (.inr (.inr h)))
   exact⟨(hf c hc').2.2.2.1,(hf c hc').2.1,(hf c hc').2.2.2.2.1,(hf c hc').2.2.2.2.2⟩
 self:=fun _ _ _ _ _ st h=>Kk st.1 h
def JuD(K:WF)(ta:TA):TI:=fun σ H R=>ta σ H fun vs H1=>∃a b,vs=[.ref a,.ref b]/\(∃xs,SqL K H1 a xs)/\(∃ys,SqT K H1 b ys)/\R (Itz K a b) H1
theorem JsL{X:Cx}{es:List Expr}{kk:Nat}{tp:Pos}{e1 e2:Expr}{ta:TA}{p pos:Pos}(hg:Gl X "zip")(hm:X.mg "zip" = none)(ha:PA X [e1,e2] ta)(hs:AR [e1,e2] X.env=[(false,eval e1 X.env),(false,eval e2 X.env)]:=by rfl)
  (hs2:AR [e2] X.env=[(false,eval e2 X.env)]:=by rfl):PI X (.Tuple es kk tp) (.Call (.Name "zip" p) [e1,e2] [] pos) (JuD X.K ta):=by
 intro pins s σ H R I h
 have hv:Bw "zip" = some (.type "zip"):=by decide +kernel
 refine Call_ (JgL I hg hm hv (Cd (thn (ha pos pins s σ H _ I h) fun us s1 ⟨vs,H1,I1,r1,q1⟩ =>?_) (by rw[hs,hs2]) (by rw[hs2];rfl)));obtain⟨a,b,e,⟨xs,hq1⟩,⟨ys,hq2⟩,q⟩:=q1;subst e;obtain⟨u,v,rfl,ru,rv⟩:=JjZ r1;cases(show u=A3.ref a from ru);cases(show v=A3.ref b from rv);obtain⟨its,rv1,pl,_⟩:=I1.list hq1;obtain⟨its2,rv2,pl2,_⟩:=I1.tuple hq2
 have la:a<s1.heap.objs.size:=by obtain⟨o,e,_⟩:=pl.isList;exact AZ e
 have lb:b<s1.heap.objs.size:=pl2.lt;refine JjG pl.isList (show s1.heap.IsTuple b its2.toArray from pl2) fun g g1 g2 g3 g4 g5 gk=>?_;refine Kk g1 ?_;refine⟨s1.heap.objs.size+4,[s1.heap.objs.size+4,s1.heap.objs.size+2,s1.heap.objs.size+3,s1.heap.objs.size,s1.heap.objs.size+1],_,_,H1,rfl,I1.kept (t':=s1.toks) gk,Jpa (a:=a) (b:=b) (z:=s1.heap.objs.size+4) (T1:=s1.heap.objs.size+2) (T2:=s1.heap.objs.size+3) (j1:=s1.heap.objs.size) (j2:=s1.heap.objs.size+1) ?_,⟨g1,g2,⟨_,_,g3⟩,g4,g5⟩,fun c hc=>?_,q⟩
 .constructor<;>(intro h;have h:@Eq Nat _ _:=h;have la:@LT.lt Nat _ a s1.heap.objs.size:=la;have lb:@LT.lt Nat _ b s1.heap.objs.size:=lb;omega)
 .simp only[Aq,AG,or_false]at hc
  have hc':s1.heap.objs.size<=c:=by
   rcases hc with rfl|rfl|rfl|rfl|rfl
   .exact D2 _ _
   .exact D2 _ _
   .exact D2 _ _
   .exact A6 _
   .exact D2 _ _
  exact I1.fpOk hc' (I1.hok.fresh hc')
theorem Jpn{K:WF}{a b:Addr}{xs ys:List V}{acc:Addr}{g:TG}{tc:TT}{te:TE}{Q:VK}{σ:St}{H:Hp}(hlen:xs.length=ys.length)(Pv:Nat->List V->St->Hp->Prop)(h0:Pv 0 [] σ H)
  (hl:∀i zs σ H,Pv i zs σ H->SqL K H a xs/\SqT K H b ys)
  (hs:∀i x y t zs σ H,xs[i]?=some x->ys[i]?=some y->Pv i zs σ H->H t=none->zs.length<AK/\g (.ref t) σ (upd H t (.tup [x,y])) fun σ3 H3=>tc σ3 H3 fun c H4=>
   if c=true then te σ3 H4 fun z H5=>H5 acc=some (.lst zs)/\Pv (i+1) (zs++[z]) σ3 (upd H5 acc (.lst (zs++[z])))else Pv (i+1) zs σ3 H4)
  (hz:∀i zs σ H,Pv i zs σ H->zs.length<AK)
  (hd:∀zs σ H,Pv xs.length zs σ H->Q (.ref acc) H):JhI (Itz K a b) acc g tc te Q σ H:=
 JeN (n:=xs.length) Pv h0
  (fun i zs σ H hi p=>⟨⟨xs,ys,xs[i],ys[i]'(by omega),(hl i zs σ H p).1,(hl i zs σ H p).2,A1 hi,A1 (by omega)⟩,hz i zs σ H p,
   fun v H2 ⟨t,x,y,e1,e2,e3,e4,e5⟩ =>by subst e1 e3;exact(hs i x y t zs σ H (e4 xs (hl i zs σ H p).1) (e5 ys (hl i zs σ H p).2) p e2).2⟩)
  fun zs σ H p=>⟨⟨xs,(hl _ zs σ H p).1,A6 _⟩,hd zs σ H p⟩
end L2
namespace HT
open PySem PyProof.Rows PySem.MeetsSeq PySem.MeetsSeq2 PySem.MeetsSeq3
theorem Jul{prog:Ab}{w:At}{A:AH}{E:A3->A9->Prop}{s:A9}{Q:A3->A9->Prop}(t b:Addr)(ws:List A3)(n n2:Nat)(dd dd2:Option Addr)(sl sl2:Array (Option A3))
  (ho:s.heap.get? t=some { cls:=.type "tuple",dict:=dd,data:=.seq ([]:List A3).toArray n,slots:=sl }) (ho2:s.heap.get? b=some { cls:=.type "tuple",dict:=dd2,data:=.seq ws.toArray n2,slots:=sl2 }) (q:Q (.ref b) s) :
  AV (Af prog w) A (C0 .Add (.ref t) (.ref b)) Q E s:=
 HM ⟨_,ho,rfl⟩ ⟨_,ho2,rfl⟩ Fd Hv Ew DT (DB _ _) (tuple_addW0 t b ([]:List A3).toArray ws.toArray n n2 dd dd2 sl sl2 rfl) ⟨ho,ho2,q⟩
end HT
namespace Wb
open PySem PySem.Spec PyProof.Rows L2
theorem JaY:Bw "len" = some (.builtin "len"):=by decide +kernel
theorem Jlj:Bw "min" = some (.builtin "min"):=by decide +kernel
theorem JeX:Bw "max" = some (.builtin "max"):=by decide +kernel
theorem JeS:Bw "sum" = some (.builtin "sum"):=by decide +kernel
theorem JA:Bw "isinstance" = some (.builtin "isinstance"):=by decide +kernel
theorem Jje:Bw "int" = some (.type "int"):=by decide +kernel
theorem Jj0:Bw "bool" = some (.type "bool"):=by decide +kernel
theorem Jji:Bw "str" = some (.type "str"):=by decide +kernel
theorem JaN:Bw "list" = some (.type "list"):=by decide +kernel
theorem Jci:Bw "tuple" = some (.type "tuple"):=by decide +kernel
def noE:Expr:=.Constant .none 0 ⟨0,0,0,0⟩
noncomputable def JrF(e:Expr)(i:Nat):Expr:=match e with
 | .BoolOp _ vs _=>vs.getD i noE
 | .BinOp l _ r _=>[l,r].getD i noE
 | .UnaryOp _ o _=>o
 | .IfExp a b c _=>[a,b,c].getD i noE
 | .Compare l _ cs _=>(l::cs).getD i noE
 | .Call f as _ _=>(f::as).getD i noE
 | .Attribute v _ _=>v
 | .Subscript v s _=>[v,s].getD i noE
 | .List es _=>es.getD i noE
 | .Tuple es _ _=>es.getD i noE
 | .ListComp e gs _ _=>(e::gs.map (·.iter)).getD i noE
 | _=>noE
noncomputable def JlF(s:Stmt):Expr:=match s with
 | .Assign _ v _=>v
 | .Return (some v) _=>v
 | .Expr v _=>v
 | .If t _ _ _=>t
 | .For _ it _ _ _=>it
 | .While t _ _ _=>t
 | _=>noE
noncomputable def JtU(s:Stmt)(i:Nat):List Stmt:=match s with
 | .If _ a b _=>[a,b].getD i []
 | .For _ _ b _ _=>b
 | .While _ b _ _=>b
 | _=>[]
def Jjx(l:List Stmt)(i:Nat):Stmt:=l.getD i (.Pass ⟨0,0,0,0⟩)
noncomputable def lcS(e:Expr):DV:=match e with
 | .ListComp _ _ s _=>s
 | _=>{ kind:=.function,names:=[],isGenerator:=false,isCoroutine:=false }
structure JK(P:Ab)(w:At)(K:WF)(mg:MO)(base:Heap)(x:Str)(ps:List Str)(sp:Sp)(k:Nat)(f:Addr)(fd:Aa):Prop where
 ok:YU P w K mg base CX0 k f fd ps sp
 mg:mg x=some (.ref f)
 kp:Cv K (.ref f)=true
 b:Jdj K fd ps []
def Jtu(t u:TS):TS:=fun D σ H=>∀Nthen:L2.St->Hp->Prop,(∀{σ' H'},u D σ' H'->Nthen σ' H')->t { D with nx:=Nthen } σ H
theorem Jd{X:Cx}{st:Stmt}{rest:List Stmt}{t u:TS}(h1:PS X st t)(h2:PSs X rest u):PSs X (st::rest) (Jtu t u):=fun pins s σ H D I h=>Jk0 h1 h2 pins s σ H D I (h _ fun z=>z)
def JuB(t u:TS):TS:=fun D σ H=>∃P:L2.St->Hp->Prop,t { D with nx:=P } σ H/\∀σ' H',P σ' H'->u D σ' H'
theorem Jay{X:Cx}{st:Stmt}{rest:List Stmt}{t u:TS}(h1:PS X st t)(h2:PSs X rest u):PSs X (st::rest) (JuB t u):=by
 rintro pins s σ H D I ⟨P,ht,hu⟩
 have h2':PSs X rest (fun D' σ' H'=>D'=D/\P σ' H'):=fun pins s σ H D' I ⟨e,hp⟩ =>by
  subst e;exact h2 pins s σ H D' I (hu σ H hp)
 refine Jk0 h1 h2' pins s σ H D I ?_;show t { D with nx:=fun σ' H'=>D=D/\P σ' H' } σ H
 have e:(fun σ' H'=>D=D/\P σ' H')=P:=by
  funext a b;exact propext ⟨And.right,fun h=>⟨rfl,h⟩⟩
 rw[e];exact ht
abbrev Bd:=Option Int×Int
def oV:Option Int->V
 | none=>.non
 | some i=>.int i
def JG(H:Hp)(a:Addr)(bs:List Bd):Prop:=
 ∃ps:List Addr,H a=some (.tup (ps.map V.ref))/\ps.length=bs.length/\∀(i:Nat)(p:Addr)(b:Bd),ps[i]?=some p->bs[i]?=some b->H p=some (.tup [oV b.1,.int b.2])
theorem JG.same{H H':Hp}{a:Addr}{bs:List Bd}(h:JG H a bs)(s:JV H H'):JG H' a bs:=by
 obtain⟨ps,h1,h2,h3⟩:=h;exact⟨ps,s _ _ h1,h2,fun i p b e1 e2=>s _ _ (h3 i p b e1 e2)⟩
theorem Je{H:Hp}{l:Addr}{o:HO}(h:H l=none):JV H (upd H l o):=fun b u e=>by
 rw[Jg (Jh e h)];exact e
theorem JQ{H H':Hp}{l:Addr}{o:HO}(s:JV H H')(h:H l=none):JV H (upd H' l o):=fun b u e=>by
 rw[Jg (Jh e h)];exact s b u e
noncomputable def pgo(left floor:Int):List Bd->List Int
 | []=>[]
 | (none,_)::r=>left::pgo left floor r
 | (some u,_)::r=>(if u-floor<left then u-floor else left)::pgo (left-(if u-floor<left then u-floor else left)) u r
theorem Jf4:∀(bs:List Bd)(l f:Int),(pgo l f bs).length=bs.length
 | [],_,_=>rfl
 | (none,_)::r,l,f=>by simp only[pgo,AN,Jf4 r]
 | (some u,_)::r,l,f=>by simp only[pgo,AN,Jf4 r]
noncomputable def Wf:Int->List Bd->Prop
 | _,[]=>False
 | _,(none,_)::r=>r=[]
 | lo,(some u,_)::r=>lo<u/\Wf u r
theorem Wf.ne{lo:Int}:∀{bs:List Bd},Wf lo bs->bs≠[]
 | _::_,_=>Kd _ _
theorem JcV{α:Type}{l:List α}{i:Nat}{x:α}(h:l[i]?=some x):l.drop i=x::l.drop (i+1):=by
 obtain⟨h1,h2⟩:=A7.mp h;rw[EM h1,h2]
structure Js5(m:V)(bs:List Bd):Prop where
 wf:Wf 0 bs
 len:bs.length<=13
 each:∀b∈bs,0<=b.2/\b.2<10^52/\(m≠.non->b.2<=100)
 upto:∀b∈bs,∀u∈b.1.toList,u<10^10
theorem at2{a b:Int}(k:Bool):atI ([.int a,.int b]:List V) (if k=true then 1 else 0)=some (.int (if k=true then b else a)):=by cases k<;>rfl
theorem Wf.app:∀(n:Nat)(lo c:Int)(g:Nat->Int)(e:Int),lo<c->Wf lo ((AT n).map (fun j:Nat=>(some (c+3*(j:Int)),g j))++[(none,e)])
 | 0,lo,c,g,e,_=>by simp[Wf]
 | n+1,lo,c,g,e,h=>by
  rw[FP,Al,Fp,B2];refine⟨by simpa using h,?_⟩;have q:=Wf.app n (c+3*((0:Nat):Int)) (c+3) (fun j=>g (j+1)) e (by simp;omega)
  have e1:(AT n).map ((fun j:Nat=>(some (c+3*(j:Int)),g j)) ∘ KR)=(AT n).map (fun j:Nat=>(some (c+3+3*(j:Int)),g (j+1))):=by
   refine Bm fun j _=>?_;show(some (c+3*((j+1:Nat):Int)),g (j+1))=(some (c+3+3*(j:Int)),g (j+1))
   have:c+3*((j+1:Nat):Int)=c+3+3*(j:Int):=by omega
   rw[this]
  rw[e1];exact q
theorem JeE{H:Hp}{a:Addr}{ps:List Addr}{bs:List Bd}(h:H a=some (.tup (ps.map V.ref)))(r:BV (fun(p:Addr)(b:Bd)=>H p=some (.tup [oV b.1,.int b.2])) ps bs):JG H a bs:=by
 refine⟨ps,h,r.length,?_⟩;clear h
 induction r with
 | nil=>intro i p b e;simp at e
 | cons q _ ih=>
  intro i p b e1 e2
  cases i with
  | zero=>
   cases e1;cases e2;exact q
  | succ i=>exact ih i p b (by simpa using e1) (by simpa using e2)
theorem Wf.good{m:V}{bs:List Bd}(h:Wf 0 bs)(hl:bs.length<=13)(h1:∀b∈bs,0<=b.2/\b.2<10^52/\(m≠.non->b.2<=100))(h2:∀b∈bs,∀u∈b.1.toList,u<10^10):Js5 m bs:=⟨h,hl,h1,h2⟩
theorem Jt5{α:Type}{p:α->Prop}{a b c:α}(ha:p a)(hb:p b)(hc:p c):∀x∈[a,b,c],p x:=fun x hx=>by
 rcases Aq.mp hx with rfl|hx
 .exact ha
 .rcases Aq.mp hx with rfl|hx
  .exact hb
  .rw[A5.mp hx];exact hc
theorem JtX{α:Type}{p:α->Prop}{b c:α}(hb:p b)(hc:p c):∀x∈[b,c],p x:=fun x hx=>by
 rcases Aq.mp hx with rfl|hx
 .exact hb
 .rw[A5.mp hx];exact hc
theorem JtD{α:Type}{p:α->Prop}{c:α}(hc:p c):∀x∈[c],p x:=fun x hx=>by
 rw[A5.mp hx];exact hc
theorem upS{u m:Int}(h:u<m):∀v∈(some u).toList,v<m:=JtD h
theorem upN{m:Int}:∀v∈(none:Option Int).toList,v<m:=fun _ h=>nomatch h
theorem JqS{ns:List Int}{i:Int}(h0:0<=i)(h1:i<(ns.length:Int)):∃x,atI (ns.map V.int) i=some (.int x):=by
 obtain⟨j,rfl⟩:=Int.eq_ofNat_of_zero_le h0
 have hj:j<ns.length:=by omega
 exact⟨ns[j],Jl (by rw[Ax,A1 hj];rfl)⟩
theorem Jp0{α:Type}{xs:List α}{i:Nat}{v:α}(h:xs[i]?=some v):atI xs (0+(i:Int))=some v:=by
 rw[Cg];exact Jl h
theorem Jpg(xs:List V):Je9 xs none (some (-1))=xs.take (xs.length-1):=by
 unfold Je9
 have e:HT.sIx xs.length xs.length (some (-1))=xs.length-1:=by
  show(if(-1:Int)<0 then(-1+(xs.length:Int)).toNat else min (-1:Int).toNat xs.length)=_;rw[if_pos (by decide)];omega
 rw[e,HT.JkC];simp
theorem Jkm(u:Int):(!decide (oV (some u)=V.non))=true:=by
 rw[decide_eq_false (show¬oV (some u)=V.non from fun z=>nomatch z)];rfl
inductive Dt where
 | non
 | bl (b:Bool)
 | int (i:Int)
 | str (x:Str)
 | tup (l:List Dt)
 | lst (l:List Dt)
mutual
noncomputable def Rep(H:Hp):Dt->V->Prop
 | .non,v=>v=.non
 | .bl b,v=>v=.bl b
 | .int i,v=>v=.int i
 | .str x,v=>v=.str x
 | .tup l,v=>∃a vs,v=.ref a/\H a=some (.tup vs)/\Yv H l vs
 | .lst l,v=>∃a vs,v=.ref a/\H a=some (.lst vs)/\Yv H l vs
noncomputable def Yv(H:Hp):List Dt->List V->Prop
 | [],vs=>vs=[]
 | d::r,vs=>∃v t,vs=v::t/\Rep H d v/\Yv H r t
end
mutual
noncomputable def dsz:Dt->Nat
 | .non=>1
 | .bl _=>1
 | .int _=>1
 | .str _=>1
 | .tup l=>1+JbP l
 | .lst l=>1+JbP l
noncomputable def JbP:List Dt->Nat
 | []=>0
 | d::r=>dsz d+JbP r
end
theorem JjT(d:Dt):1<=dsz d:=by cases d<;>simp only[dsz]<;>omega
theorem Jbl:∀(a b:List Dt),JbP (a++b)=JbP a+JbP b
 | [],b=>by simp[JbP]
 | d::r,b=>by
  show dsz d+JbP (r++b)=dsz d+JbP r+JbP b;rw[Jbl r b];omega
theorem Jeb:∀(a:List Dt),a.length<=JbP a
 | []=>AA _
 | d::r=>by
  have:=Jeb r;have:=JjT d;simp only[JbP,AN];omega
mutual
theorem Rep.same{H H':Hp}(s:JV H H'):∀{d:Dt}{v:V},Rep H d v->Rep H' d v
 | .non,_,h=>h
 | .bl _,_,h=>h
 | .int _,_,h=>h
 | .str _,_,h=>h
 | .tup l,_,⟨a,vs,e,h,r⟩ =>⟨a,vs,e,s _ _ h,Yv.same s r⟩
 | .lst l,_,⟨a,vs,e,h,r⟩ =>⟨a,vs,e,s _ _ h,Yv.same s r⟩
theorem Yv.same{H H':Hp}(s:JV H H'):∀{l:List Dt}{vs:List V},Yv H l vs->Yv H' l vs
 | [],_,h=>h
 | _::_,_,⟨v,t,e,h,r⟩ =>⟨v,t,e,Rep.same s h,Yv.same s r⟩
end
theorem Yv.length{H:Hp}:∀{l:List Dt}{vs:List V},Yv H l vs->vs.length=l.length
 | [],_,h=>by rw[show _=[] from h];rfl
 | _::_,_,⟨v,t,e,_,r⟩ =>by rw[e,AN,AN,Yv.length r]
theorem Yv.get{H:Hp}:∀{l:List Dt}{vs:List V},Yv H l vs->∀(i:Nat) v d,vs[i]?=some v->l[i]?=some d->Rep H d v
 | [],_,h,i,v,d,e1,e2=>by simp at e2
 | _::_,_,⟨v',t,e,h,r⟩,0,v,d,e1,e2=>by
  subst e;cases e1;cases e2;exact h
 | _::_,_,⟨v',t,e,h,r⟩,i+1,v,d,e1,e2=>by
  subst e;exact Yv.get r i v d (by simpa using e1) (by simpa using e2)
theorem Yv.of{H:Hp}:∀{l:List Dt}{vs:List V},vs.length=l.length->(∀(i:Nat) v d,vs[i]?=some v->l[i]?=some d->Rep H d v)->Yv H l vs
 | [],[],_,_=>rfl
 | [],_::_,h,_=>by simp at h
 | _::_,[],h,_=>by simp at h
 | d::r,v::t,h,g=>⟨v,t,rfl,g 0 v d rfl rfl,Yv.of (by simpa using h) fun i x y e1 e2=>g (i+1) x y (by simpa using e1) (by simpa using e2)⟩
noncomputable def dty:Dt->String
 | .non=>"NoneType"
 | .bl _=>"bool"
 | .int _=>"int"
 | .str _=>"str"
 | .tup _=>"tuple"
 | .lst _=>"list"
theorem Rep.ty{K:WF}{H:Hp}:∀{d:Dt}{v:V},Rep H d v->Jkh K H v (.type (dty d))
 | .non,_,h=>by cases(show _=V.non from h);exact .non
 | .bl b,_,h=>by cases(show _=V.bl b from h);exact .bl _
 | .int i,_,h=>by cases(show _=V.int i from h);exact .int _
 | .str x,_,h=>by cases(show _=V.str x from h);exact .str _
 | .tup l,_,⟨a,vs,e,h,_⟩ =>by subst e;exact .tup h
 | .lst l,_,⟨a,vs,e,h,_⟩ =>by subst e;exact .lst h
theorem JaT(d:Dt):dty d∈tyL:=by cases d<;>simp[dty]
def Jah(H H':Hp):Prop:=(∀b xs,H b=some (.tup xs)->H' b=some (.tup xs))/\∀b xs,H b=some (.lst xs)->H' b=some (.lst xs)
theorem Jah.of{H H':Hp}(s:JV H H'):Jah H H':=⟨fun b xs h=>s b _ h,fun b xs h=>s b _ h⟩
theorem Jah.trans{H H1 H2:Hp}(a:Jah H H1)(b:Jah H1 H2):Jah H H2:=⟨fun c xs h=>b.1 c xs (a.1 c xs h),fun c xs h=>b.2 c xs (a.2 c xs h)⟩
theorem Jah.dict{H:Hp}{d:Addr}{kvs:List (Key×V)}{o:HO}(e:H d=some (.dK kvs)):Jah H (upd H d o):=
 ⟨fun b xs h=>by rw[Jg (Y1 h e (by intro z;cases z))];exact h,fun b xs h=>by rw[Jg (Y1 h e (by intro z;cases z))];exact h⟩
mutual
theorem Rep.sameS{H H':Hp}(s:Jah H H'):∀{d:Dt}{v:V},Rep H d v->Rep H' d v
 | .non,_,h=>h
 | .bl _,_,h=>h
 | .int _,_,h=>h
 | .str _,_,h=>h
 | .tup l,_,⟨a,vs,e,h,r⟩ =>⟨a,vs,e,s.1 _ _ h,Yv.sameS s r⟩
 | .lst l,_,⟨a,vs,e,h,r⟩ =>⟨a,vs,e,s.2 _ _ h,Yv.sameS s r⟩
theorem Yv.sameS{H H':Hp}(s:Jah H H'):∀{l:List Dt}{vs:List V},Yv H l vs->Yv H' l vs
 | [],_,h=>h
 | _::_,_,⟨v,t,e,h,r⟩ =>⟨v,t,e,Rep.sameS s h,Yv.sameS s r⟩
end
structure JjX(H:Hp)(l:Addr)(ps:List Addr)(ds:List Dt)(Hc:Hp):Prop where
 same:JV H Hc
 lst:Hc l=some (.lst (ps.map V.ref))
 len:ps.length=ds.length
 prs:∀(i:Nat) p d,ps[i]?=some p->ds[i]?=some d->∃u v,Hc p=some (.tup [u,v])/\Rep H d u/\Rep H d v
theorem JjX.new{H:Hp}{l:Addr}{ps:List Addr}{ds:List Dt}{Hc:Hp}(W:JjX H l ps ds Hc){t:Addr}{o:HO}(h:Hc t=none):JjX H l ps ds (upd Hc t o):=
 ⟨JQ W.same (W.same.free h),Je h _ _ W.lst,W.len,fun i p d e1 e2=>let ⟨u,v,q,r⟩:=W.prs i p d e1 e2;⟨u,v,Je h _ _ q,r⟩⟩
theorem JjX.pop{H:Hp}{l:Addr}{ps:List Addr}{p:Addr}{ds:List Dt}{d:Dt}{Hc:Hp}(hl:H l=none)(W:JjX H l (ps++[p]) (ds++[d]) Hc):JjX H l ps ds (upd Hc l (.lst (ps.map V.ref)))/\∃u v,Hc p=some (.tup [u,v])/\upd Hc l (.lst (ps.map V.ref)) p=some (.tup [u,v])/\Rep H d u/\Rep H d v:=by
 have hlen:ps.length=ds.length:=by have:=W.len;simpa using this
 refine⟨⟨JQ W.same hl,Ja,hlen,fun i q e e1 e2=>?_⟩,?_⟩
 .have i1:=(A7.mp e1).1;have i2:=(A7.mp e2).1;obtain⟨u,v,h,r⟩:=W.prs i q e (by rw[AU i1];exact e1) (by rw[AU i2];exact e2);exact⟨u,v,by rw[Jg (Y1 h W.lst (by intro z;cases z))];exact h,r⟩
 .obtain⟨u,v,h,r⟩:=W.prs ps.length p d (by simp) (by rw[hlen];simp);exact⟨u,v,h,by rw[Jg (Y1 h W.lst (by intro z;cases z))];exact h,r⟩
theorem JjX.push{H:Hp}{l t:Addr}{ps:List Addr}{ds:List Dt}{d:Dt}{u v:V}{Hc:Hp}(hl:H l=none)(W:JjX H l ps ds Hc)(ht:Hc t=none)(hu:Rep H d u)(hv:Rep H d v) :
  JjX H l (ps++[t]) (ds++[d]) (upd (upd Hc t (.tup [u,v])) l (.lst (ps.map V.ref++[V.ref t]))):=by
 have hne:t≠l:=(Jh W.lst ht).symm;refine⟨JQ (JQ W.same (W.same.free ht)) hl,by rw[Ja,AJ];rfl,by rw[AQ,AQ,W.len];rfl,fun i q e e1 e2=>?_⟩
 by_cases hi:i<ps.length
 .rw[AU hi]at e1;rw[AU (by rw[<- W.len];exact hi)]at e2;obtain⟨u,v,h,r⟩:=W.prs i q e e1 e2;exact⟨u,v,by rw[Jg (Y1 h W.lst (by intro z;cases z)),Jg (Jh h ht)];exact h,r⟩
 .have:i=ps.length:=by
   have:=(A7.mp e1).1;rw[AQ,BG]at this;omega
  subst this;rw[BJ (A6 _),FN]at e1;rw[W.len,BJ (A6 _),FN]at e2;cases e1;cases e2;exact⟨u,v,by rw[Jg hne,Ja],hu,hv⟩
theorem Jfh{K:WF}{H Hc:Hp}{dl:List Dt}{d:Dt}{v:V}(hd:d=.tup dl\/d=.lst dl)(h:Rep H d v)(s:JV H Hc){i:Nat}{e:Dt}(he:dl[i]?=some e) :
  ∃x,Rep H e x/\∀Q:VK,Q x Hc->rIx K v (.int (0+(i:Int))) Hc Q:=by
 rcases hd with rfl|rfl
 .obtain⟨a,vs,rfl,ha,r⟩:=h
  have hi:i<vs.length:=by rw[r.length];exact(A7.mp he).1
  exact⟨vs[i],r.get i _ _ (A1 hi) he,fun Q q=>.inr (.inl ⟨a,vs,_,vs[i],rfl,rfl,SqT.of (s _ _ ha),Jp0 (A1 hi),q⟩)⟩
 .obtain⟨a,vs,rfl,ha,r⟩:=h
  have hi:i<vs.length:=by rw[r.length];exact(A7.mp he).1
  exact⟨vs[i],r.get i _ _ (A1 hi) he,fun Q q=>.inl ⟨a,vs,_,vs[i],rfl,rfl,SqL.of (s _ _ ha),Jp0 (A1 hi),q⟩⟩
theorem JhP{K:WF}{H Hc:Hp}{dl:List Dt}{d:Dt}{v:V}(hd:d=.tup dl\/d=.lst dl)(h:Rep H d v)(s:JV H Hc) :
  ∃a ys,v=.ref a/\(SqL K Hc a ys\/SqT K Hc a ys)/\ys.length=dl.length:=by
 rcases hd with rfl|rfl
 .obtain⟨a,vs,rfl,ha,r⟩:=h;exact⟨a,vs,rfl,.inr (SqT.of (s _ _ ha)),r.length⟩
 .obtain⟨a,vs,rfl,ha,r⟩:=h;exact⟨a,vs,rfl,.inl (SqL.of (s _ _ ha)),r.length⟩
theorem Jl8{d:Dt}{dl:List Dt}(h:d=.tup dl\/d=.lst dl):(["list", "tuple"].any (Jgp (dty d)))=true:=by
 have h1:(["list", "tuple"].any (Jgp "tuple"))=true:=by decide
 have h2:(["list", "tuple"].any (Jgp "list"))=true:=by decide
 rcases h with rfl|rfl
 .exact h1
 .exact h2
structure JtB(d:Dt)(z:V):Prop where
 nn:z≠.non
 sc:JtC z z=true
 no:¬(["list", "tuple"].any (Jgp (dty d)))=true
 si:(["str", "int"].any (Jgp (dty d)))=true
theorem JnY{H:Hp}{d:Dt}{u v:V}(hn:∀dl,d≠.tup dl/\d≠.lst dl)(hu:Rep H d u)(hv:Rep H d v):(d=.non/\u=.non/\v=.non)\/(u=v/\JtB d v):=by
 have b1:¬(["list", "tuple"].any (Jgp "bool"))=true:=by decide
 have b2:(["str", "int"].any (Jgp "bool"))=true:=by decide
 have i1:¬(["list", "tuple"].any (Jgp "int"))=true:=by decide
 have i2:(["str", "int"].any (Jgp "int"))=true:=by decide
 have s1:¬(["list", "tuple"].any (Jgp "str"))=true:=by decide
 have s2:(["str", "int"].any (Jgp "str"))=true:=by decide
 cases d with
 | non=>exact .inl ⟨rfl,hu,hv⟩
 | bl b=>
  cases(show u=V.bl b from hu);cases(show v=V.bl b from hv);exact .inr ⟨rfl,⟨(fun z=>by cases z),rfl,b1,b2⟩⟩
 | int i=>
  cases(show u=V.int i from hu);cases(show v=V.int i from hv);exact .inr ⟨rfl,⟨(fun z=>by cases z),rfl,i1,i2⟩⟩
 | str x=>
  cases(show u=V.str x from hu);cases(show v=V.str x from hv);exact .inr ⟨rfl,⟨(fun z=>by cases z),rfl,s1,s2⟩⟩
 | tup dl=>exact absurd rfl (hn dl).1
 | lst dl=>exact absurd rfl (hn dl).2
noncomputable def wgo(left floor:Int)(bs:List Bd):List Int:=((pgo left floor bs).zip bs).map fun q=>q.1*q.2.2
def mx(i j:Int):Int:=if j>i then j else i
def mn(i j:Int):Int:=if j<i then j else i
noncomputable def lv(a low:Int):List Bd->Int
 | []=>0
 | (none,e)::r=>mx 0 (a-low)*e+lv a low r
 | (some u,e)::r=>mn (mx 0 (a-low)) (u-low)*e+lv a u r
noncomputable def nx(a:Int):List Bd->Int
 | []=>0
 | (none,e)::_=>e
 | (some u,e)::r=>if a<u then e else nx a r
theorem Jqd:∀(bs:List Bd)(a f:Int),Wf f bs->(wgo (mx 0 (a-f)) f bs).sum=lv a f bs
 | [],_,_,h=>h.elim
 | (none,e)::r,a,f,h=>by
  have:r=[]:=h;subst this;simp[wgo,pgo,lv]
 | (some u,e)::r,a,f,h=>by
  have hw:=Jqd r a u h.2;have hu:f<u:=h.1
  have e1:mx 0 (a-f)-mn (mx 0 (a-f)) (u-f)=mx 0 (a-u):=by
   unfold mn mx;split<;>split<;>split<;>omega
  have e2:wgo (mx 0 (a-f)) f ((some u,e)::r)=mn (mx 0 (a-f)) (u-f)*e::wgo (mx 0 (a-f)-mn (mx 0 (a-f)) (u-f)) u r:=rfl;rw[e2,Cz,e1,hw];rfl
theorem Jsb{a:Int}{bs:List Bd}(ha:0<=a)(h:Wf 0 bs):(wgo a 0 bs).sum=lv a 0 bs:=by
 have e:mx 0 (a-0)=a:=by unfold mx;split<;>omega
 have:=Jqd bs a 0 h;rw[e]at this;exact this
theorem JnL:∀(bs:List Bd)(a f:Int),Wf f bs->a<=f->lv a f bs=0
 | [],_,_,h,_=>h.elim
 | (none,e)::r,a,f,h,ha=>by
  have:r=[]:=h;subst this
  have e1:mx 0 (a-f)=0:=by unfold mx;split<;>omega
  simp[lv,e1]
 | (some u,e)::r,a,f,h,ha=>by
  have hu:f<u:=h.1
  have e1:mn (mx 0 (a-f)) (u-f)=0:=by unfold mn mx;split<;>split<;>omega
  simp only[lv,e1,Int.zero_mul,Cg];exact JnL r a u h.2 (by omega)
def Jm9(pay top per:Int):Int:=mx 0 (top-pay/per)
def due(pay:Int)(bs:List Bd)(top per:Int):Int:=mx 0 (lv pay 0 bs/100-Jm9 pay top per)
theorem Jio:∀(bs:List Bd)(l f:Int),Wf f bs->0<=l->∀p∈pgo l f bs,0<=p/\p<=l
 | [],_,_,h,_,_,_=>h.elim
 | (none,e)::r,l,f,h,hl,p,hp=>by
  have:r=[]:=h;subst this
  rcases Aq.mp hp with rfl|hp
  .exact⟨hl,CZ _⟩
  .simp[pgo]at hp
 | (some u,e)::r,l,f,h,hl,p,hp=>by
  have hu:f<u:=h.1;have hp:p∈(if u-f<l then u-f else l)::pgo (l-(if u-f<l then u-f else l)) u r:=hp
  rcases Aq.mp hp with rfl|hp
  .split<;>omega
  .have hl':0<=l-(if u-f<l then u-f else l):=by split<;>omega
   have:=Jio r _ u h.2 hl' p hp
   have hle:l-(if u-f<l then u-f else l)<=l:=by split<;>omega
   omega
theorem Jg5{p:Int}(h0:0<=p)(h1:p<10^103):p.natAbs<2^4096:=by
 have h2:p.natAbs<10^103:=by omega
 exact AF h2 (by decide +kernel)
end Wb
namespace L2
open PySem PySem.Spec PyProof.Rows
abbrev Up(l:List Nat):Prop:=l.Pairwise (·<·)
theorem JkQ{l:List Nat}(h:Up l){i j:Nat}{x y:Nat}(hij:i<j)(hx:l[i]?=some x)(hy:l[j]?=some y):x<y:=by
 obtain⟨h1,e1⟩:=A7.mp hx;obtain⟨h2,e2⟩:=A7.mp hy;rw[<- e1,<- e2];exact List.pairwise_iff_getElem.mp h i j h1 h2 hij
theorem Jhf{xs:Array Nat}{j:Nat}(h:Up xs.toList):∀(fuel lo hi:Nat),hi-lo<fuel+1->lo<=hi->hi<=xs.size->
  (∀i x,i<lo->xs[i]?=some x->x<j)->(∀i x,hi<=i->xs[i]?=some x->j<=x)->
  Ac.below.go xs j fuel lo hi<=xs.size/\(∀i x,i<Ac.below.go xs j fuel lo hi->xs[i]?=some x->x<j)/\∀i x,Ac.below.go xs j fuel lo hi<=i->xs[i]?=some x->j<=x
 | 0,lo,hi,hf,hl,hs,h1,h2=>by
  have:lo=hi:=by omega
  subst this;exact⟨hs,h1,h2⟩
 | fuel+1,lo,hi,hf,hl,hs,h1,h2=>by
  unfold Ac.below.go
  by_cases c:lo<hi
  .rw[if_pos c]
   have hm1:lo<=(lo+hi)/2:=by omega
   have hm2:(lo+hi)/2<hi:=by omega
   have hms:(lo+hi)/2<xs.size:=by omega
   have hg:xs[(lo+hi)/2]?=some (xs.getD ((lo+hi)/2) j):=by
    rw[BE hms];simp[G0,hms]
   dsimp only;generalize(lo+hi)/2=mid at hm1 hm2 hms hg ⊢
   by_cases d:xs.getD mid j<j
   .rw[if_pos d];refine Jhf h fuel (mid+1) hi (by omega) (by omega) hs (fun i x hi' hx=>?_) h2
    by_cases e:i=mid
    .rw[e,hg]at hx;rw[<- Ai hx];exact d
    .exact K3 (JkQ h (show i<mid by omega) (by rw[<- hx];simp) (by rw[<- hg];simp)) d
   .rw[if_neg d];refine Jhf h fuel lo mid (by omega) hm1 (by omega) h1 (fun i x hi' hx=>?_)
    by_cases e:i=mid
    .rw[e,hg]at hx;rw[<- Ai hx];omega
    .have:=JkQ h (show mid<i by omega) (by rw[<- hg];simp) (y:=x) (by rw[<- hx];simp);omega
  .rw[if_neg c]
   have:lo=hi:=by omega
   subst this;exact⟨hs,h1,h2⟩
theorem JgK{xs:Array Nat}(h:Up xs.toList)(j:Nat) :
  Ac.below xs j<=xs.size/\(∀i x,i<Ac.below xs j->xs[i]?=some x->x<j)/\∀i x,Ac.below xs j<=i->xs[i]?=some x->j<=x:=by
 unfold Ac.below
 exact Jhf h xs.size 0 xs.size (by omega) (AA _) (A6 _) (fun i x hi=>by omega) (fun i x hi hx=>by
  have:=(Array.getElem?_eq_some_iff.mp hx).1
  omega)
theorem JhX{α:Type}(xs:Array α)(p:Nat)(x:α)(hp:p<=xs.size):(Ac.insertAt xs p x).toList=xs.toList.take p++x::xs.toList.drop p:=by
 unfold Ac.insertAt;simp[Array.toList_extract,List.extract_eq_drop_take];rw[AC (by simp)]
theorem Jsh{xs:Array Nat}(h:Up xs.toList){j:Nat}(hj:xs[Ac.below xs j]?≠some j):Up (Ac.insertAt xs (Ac.below xs j) j).toList:=by
 obtain⟨b0,b1,b2⟩:=JgK h j;rw[JhX _ _ _ b0];refine List.pairwise_append.mpr ⟨h.sublist (Ex _ _),BA.mpr ⟨fun y hy=>?_,h.sublist (List.drop_sublist _ _)⟩,fun a ha y hy=>?_⟩
 .obtain⟨i,hi⟩:=Ea hy;rw[Ht]at hi;have h2:=b2 _ y (D2 _ i) (by rw[<- hi];simp)
  by_cases e:i=0
  .subst e;have hne:j≠y:=fun z=>hj (by rw[z];rw[z]at hi;rw[<- hi];simp);omega
  .have hsz:Ac.below xs j<xs.size:=by
    have:=(A7.mp hi).1;simp at this;omega
   have hb:xs[Ac.below xs j]?=some xs[Ac.below xs j]:=BE hsz;have h3:=b2 _ _ (A6 _) hb;have h4:=JkQ h (show Ac.below xs j<Ac.below xs j+i by omega) (x:=xs[Ac.below xs j]) (by rw[<- hb];simp) hi;omega
 .obtain⟨i,hi⟩:=Ea ha
  have hil:i<Ac.below xs j:=by
   have:=(A7.mp hi).1;rw[Ao]at this;omega
  rw[FZ hil]at hi;have h1:=b1 i a hil (by rw[<- hi];simp)
  rcases Aq.mp hy with rfl|hy
  .exact h1
  .obtain⟨k,hk⟩:=Ea hy;rw[Ht]at hk;have:=b2 _ y (D2 _ k) (by rw[<- hk];simp);omega
structure Jcy(t:Ac)(led:Bool):Prop where
 led:t.led=led
 dum:t.dummies=#[]
 up:t.plain=true->Up t.place.toList
theorem JnV(led:Bool):Jcy (.fresh 0 0 led) led:=⟨rfl,rfl,fun _=>Ch.nil⟩
theorem Jcy.standIn{t:Ac}{led:Bool}(h:Jcy t led)(n:Nat):Jcy (t.standIn n) led:=⟨h.led,rfl,fun z=>by cases z⟩
theorem Jcy.orStandIn{t:Ac}{led:Bool}(h:Jcy t led)(n:Nat):Jcy (t.orStandIn n) led:=by
 unfold Ac.orStandIn;split
 .exact h
 .exact h.standIn n
theorem Jko{t:Ac}(hd:t.dummies=#[])(f:Nat->Int)(h:Int):∀(fuel:Nat)(p:Ac.Probe),p.dummy=none->∀j d,Ac.probe.go t f h fuel p=some (.empty j d)->d=none/\t.slot j=.empty
 | 0,p,_,j,d,e=>by simp[Ac.probe.go]at e
 | fuel+1,p,hp,j,d,e=>by
  unfold Ac.probe.go at e
  have adv:∀q:Ac.Probe,q.dummy=none->(t.advance q).dummy=none:=fun q hq=>by
   unfold Ac.advance;split
   .exact hq
   .exact hq
  cases hs:t.slot p.j with
  | empty=>
   rw[hs]at e;have e:=Ai e
   injection e with e1 e2
   subst e1;exact⟨by rw[<- e2];exact hp,hs⟩
  | dummy=>
   exfalso
   unfold Ac.slot at hs;dsimp only at hs;rw[hd]at hs;split at hs
   .cases hs
   .have:Ac.has #[] p.j=false:=by simp[Ac.has]
    rw[this]at hs;simp at hs
  | live i=>
   rw[hs]at e;dsimp only at e;split at e
   .cases e
   .exact Jko hd f h fuel _ (adv p hp) j d e
theorem Jl2{t:Ac}(hd:t.dummies=#[]){h:Int}{j:Nat}{b:Bool}(e:t.freeSlot h=some (j,b)):t.slot j=.empty:=by
 unfold Ac.freeSlot Ac.probe at e
 cases hg:Ac.probe.go t (fun _=>h+1) h (10*Ac.turns t.mask) (t.probeStart h)with
 | none=>rw[hg]at e;cases e
 | some m=>
  rw[hg]at e
  cases m with
  | candidate a b c=>cases e
  | empty j' d=>
   obtain⟨rfl,hs⟩:=Jko hd _ h _ _ rfl j' d hg;have e:=Ai e
   injection e with e1 e2
   subst e1;exact hs
theorem Jlx{t:Ac}{j:Nat}(h:t.slot j=.empty):t.place[Ac.below t.place j]?≠some j:=fun z=>by
 unfold Ac.slot at h;dsimp only at h;rw[z]at h;simp at h
theorem Jcy.put{t:Ac}{led:Bool}(h:Jcy t led){j:Nat}(hj:t.slot j=.empty):Jcy (t.put j).1 led:=by
 refine⟨h.led,?_,fun hp=>Jsh (h.up hp) (Jlx hj)⟩;show(if Ac.has t.dummies j=true then Ac.eraseAt t.dummies (Ac.below t.dummies j)else t.dummies)=#[];rw[h.dum]
 have:Ac.has #[] j=false:=by simp[Ac.has]
 rw[this];rfl
theorem Jcy.layNew{t:Ac}{led:Bool}(h:Jcy t led)(es:Array (Int×A3))(x:Int)(v:A3):Jcy (PySem.layNew t es x v).2.1 led:=by
 unfold PySem.layNew
 cases e:t.freeSlot x with
 | none=>exact h.standIn _
 | some p=>
  obtain⟨j,b⟩:=p;exact(h.put (Jl2 h.dum e)).orStandIn _
theorem Jf8{β:Type}(f:Nat->Option β):∀l:List Nat,(l.filterMap fun j=>(f j).map (j,·)).map (·.1)=l.filter fun j=>(f j).isSome
 | []=>rfl
 | j::r=>by
  rw[D0,Cw]
  cases e:f j with
  | none=>simpa using Jf8 f r
  | some b=>simpa using Jf8 f r
theorem Jcy.relay{t:Ac}{led:Bool}(h:Jcy t led)(es:Array (Int×A3))(n:Nat):Jcy (Go t es n).2.1 led:=by
 unfold Go
 cases e:t.relaid (es.map (·.1)) n with
 | none=>exact h.standIn _
 | some p=>
  obtain⟨t',order⟩:=p;dsimp only;split
  .unfold Ac.relaid Ac.laid at e
   cases ho:Ac.layClean (Ac.sizeAbove n-1) (es.map (·.1))with
   | none=>rw[ho]at e;cases e
   | some ow=>
    rw[ho]at e;have e:=Ai e
    injection e with e1 e2
    subst e1;refine⟨h.led,rfl,fun _=>?_⟩;dsimp only;have hr:(AT (Ac.sizeAbove n-1+1)).Pairwise (·<·):=Ez;have hm:((AT (Ac.sizeAbove n-1+1)).filterMap fun j=>(ow.getD j none).map (j,·)).map (·.1)=(AT (Ac.sizeAbove n-1+1)).filter fun j=>(ow.getD j none).isSome:=Jf8 _ _;show Up _;rw[hm];exact hr.sublist List.filter_sublist
  .exact h.standIn _
section
variable (prog:Ab) (w:At)
structure Jqn(es:Array (Int×A3))(ms:List Int):Prop where
 el:ElemsOf (DJ prog w) es.toList
 ia:Bt (es.toList.map (·.2)) ms
structure JlP(h:Heap)(a:Addr)(led:Bool)(ns:List Int):Prop where
 ex:∃es ep t ms,h.get? a=some { cls:=.type "set",dict:=none,data:=.set es ep t,slots:=#[] }/\Jqn prog w es ms/\ms.Perm ns/\t.fits es.size=true/\Jcy t led
 nd:ns.Nodup
end
section
variable {prog:Ab} {w:At} {A:AH} {E:A3→A9→Prop} {s:A9}
theorem IntsAre.app{us vs:List A3}{ms ns:List Int}(h:Bt us ms)(g:Bt vs ns):Bt (us++vs) (ms++ns):=by
 induction h with
 | nil=>exact g
 | cons n t hr ih=>exact .cons n t ih
theorem Jjs{us vs:List A3}(p:us.Perm vs):∀{ms:List Int},Bt us ms->∃ns,Bt vs ns/\ms.Perm ns:=by
 induction p with
 | nil=>intro ms h;exact⟨ms,h,.refl _⟩
 | cons x _ ih=>
  intro ms h
  cases h with
  | cons n t hr=>
   obtain⟨ns,g,q⟩:=ih hr;exact⟨n::ns,.cons n t g,q.cons n⟩
 | swap x y l=>
  intro ms h
  cases h with
  | cons n t hr=>
   cases hr with
   | cons n' t' hr'=>exact⟨n'::n::_,.cons n' t' (.cons n t hr'),.swap ..⟩
 | trans _ _ ih1 ih2=>
  intro ms h;obtain⟨ns,g,q⟩:=ih1 h;obtain⟨ks,g2,q2⟩:=ih2 g;exact⟨ks,g2,q.trans q2⟩
theorem Jo6{us:List A3}{ms:List Int}(h:Bt us ms)(k:Int):k∈ms↔∃v∈us,(DJ prog w).is k v=true:=by
 induction h with
 | nil=>simp
 | cons n t hr ih=>
  rw[Aq,ih];constructor
  .rintro(rfl|⟨v,hv,q⟩)
   .exact⟨_,Az,Hi _ _ _ _⟩
   .exact⟨v,AY _ hv,q⟩
  .rintro⟨v,hv,q⟩
   rcases Aq.mp hv with rfl|hv
   .exact .inl ((DJ prog w).inj _ k n q (Hi _ _ _ _))
   .exact .inr ⟨v,hv,q⟩
theorem Jqn.perm{es es':Array (Int×A3)}{ms:List Int}(h:Jqn prog w es ms)(p:es'.toList.Perm es.toList):∃ns,Jqn prog w es' ns/\ms.Perm ns:=by
 obtain⟨ns,g,q⟩:=Jjs (p.symm.map (·.2)) h.ia;exact⟨ns,⟨h.el.perm p,g⟩,q⟩
theorem Jqn.size{es:Array (Int×A3)}{ms:List Int}(h:Jqn prog w es ms):es.size=ms.length:=by
 rw[<- Bt.length h.ia];simp
theorem Jnf{a:Addr}{es es':Array (Int×A3)}{ep:Nat}{t t':Ac}{h:Heap}(g:h.get? a=some { cls:=.type "set",dict:=none,data:=.set es ep t,slots:=#[] }) :
  (h.update a (KP es' t')).get? a=some { cls:=.type "set",dict:=none,data:=.set es' (ep+1) t',slots:=#[] }:=by
 have q:=C9 (KP es' t') g (by rw[putSet_of es' t' rfl];rfl);rw[putSet_of es' t' rfl]at q;exact q
theorem JqJ{a:Addr}{led:Bool}{ns:List Int}{k:Int}{tk:Tok}{Q:Bool->A9->Prop}(G:JlP prog w s.heap a led ns)(hr:ns.length+1<GM)
  (q:∀b h',Br a s.heap h'->JlP prog w h' a led (Eu ns k)->Q b { s with heap:=h' }):AV (Af prog w) A (setAddHashed a (.int k tk) ((DJ prog w).hash k)) Q E s:=by
 obtain⟨⟨es,ep,t,ms,g0,en,pm,ft,tb⟩,nd⟩:=G;have ik:(DJ prog w).is k (.int k tk)=true:=Hi _ _ _ _
 have hm:k∈ns↔∃e∈es.toList,(DJ prog w).is k e.2=true:=by
  rw[<- pm.mem_iff,Jo6 (prog:=prog) (w:=w) en.ia];constructor
  .rintro⟨v,hv,z⟩;obtain⟨e,he,rfl⟩:=Ag.mp hv;exact⟨e,he,z⟩
  .rintro⟨e,he,z⟩;exact⟨e.2,Ag.mpr ⟨e,he,rfl⟩,z⟩
 have sz:es.size=ns.length:=en.size.trans pm.length_eq;have bs:byScan (.int k tk) es=true:=byScan_of rfl (by omega) en.el;unfold setAddHashed setAddHashedIn;refine CD (A0 (Ct g0 rfl ft ?_));dsimp only;rw[bs,if_pos rfl];unfold setAddByScan;refine A0 (A0 (Ft (A0 (wpAny_setScan_of ik g0 rfl ft en.el ?_))))
 cases hf:List.findIdx? (fun e=>(DJ prog w).is k e.2) es.toList with
 | some j=>
  obtain⟨j1,j2,_⟩:=List.findIdx?_eq_some_iff_getElem.mp hf;have hk:k∈ns:=hm.mpr ⟨es.toList[j],B8 j1,j2⟩
  have e1:Eu ns k=ns:=by
   unfold Eu;rw[if_pos (by simpa using hk)]
  dsimp only;have:=q false s.heap (Br.refl a s.heap) (by rw[e1];exact⟨⟨es,ep,t,ms,g0,en,pm,ft,tb⟩,nd⟩);exact A8 (A8 this)
 | none=>
  have hk:k∉ns:=fun z=>by
   obtain⟨e,he,hp⟩:=hm.mp z;have:=List.findIdx?_eq_none_iff.mp hf e he;rw[hp]at this;cases this
  have e1:Eu ns k=ns++[k]:=by
   unfold Eu;rw[if_neg (by simpa using hk)]
  rw[e1]at q;have nd1:(ns++[k]).Nodup:=CK.mpr ⟨nd,by simp,fun a ha b hb=>by rw[A5.mp hb];exact fun z=>hk (z ▸ ha)⟩
  have gw:∀(b:Bool){s₁:A9}{Q':Unit->A9->Prop},Q' () s₁->AV (Af prog w) A (match b with|true=>rule "set.scan.the-table-gave-way" | false=>pure ()) Q' E s₁:=fun b s₁ Q' z=>by
   cases b
   .exact A8 z
   .exact Ft z
  have p1:=layNew_perm t es ((DJ prog w).hash k) (.int k tk);have f1:=layNew_fits t es ((DJ prog w).hash k) (.int k tk);have t1:=tb.layNew es ((DJ prog w).hash k) (.int k tk);dsimp only;generalize hL:layNew t es ((DJ prog w).hash k) (.int k tk)=L at p1 f1 t1 ⊢;obtain⟨es1,u1,wd,gv⟩:=L;dsimp only at p1 f1 t1 ⊢;rw[Da]at p1
  have en0:Jqn prog w (es.push ((DJ prog w).hash k,.int k tk)) (ms++[k]):=by
   refine⟨?_,?_⟩
   .rw[Da];exact en.el.push ik rfl
   .rw[Da,AJ];exact IntsAre.app en.ia (.cons k tk .nil)
  obtain⟨ms1,en1,pm1⟩:=en0.perm (es':=es1) (by rw[Da];exact p1);have pm1':ms1.Perm (ns++[k]):=pm1.symm.trans (pm.append_right _)
  have sz1:es1.size=ns.length+1:=by
   rw[en1.size,pm1'.length_eq,AQ];rfl
  refine A0 (gw _ ?_);have hv:hashByValue 8 (.int k tk)=pure true:=rfl
  have tail:AV (Af prog w) A (do
    storeSet a es1 u1
    if(!wd&&u1.tooFull)=true then do
      (match(Go u1 es1 (Ac.grown es1.size)).2.2 with|true=>rule "set.scan.the-table-gave-way" | false=>pure ())
      storeSet a (Go u1 es1 (Ac.grown es1.size)).1 (Go u1 es1 (Ac.grown es1.size)).2.1
      pure (some true)
     else pure (some true)) (fun r s'=>AV (Af prog w) A (match r with|some added=>pure added|none=>setAddHashedIn a (.int k tk) ((DJ prog w).hash k) 99999) Q E s') E s:=by
   refine A0 (HE g0 rfl ?_ (HL (by omega)));have g1:=Jnf (es':=es1) (t':=u1) g0;have sb1:=Br.update s.heap a (KP es1 u1);split
   .have p2:=relayAll_perm u1 es1 (Ac.grown es1.size);have f2:=relayAll_fits u1 es1 (Ac.grown es1.size);have t2:=t1.relay es1 (Ac.grown es1.size);generalize Go u1 es1 (Ac.grown es1.size)=L2 at p2 f2 t2 ⊢;obtain⟨es2,u2,gv2⟩:=L2;dsimp only at p2 f2 t2 ⊢;obtain⟨ms2,en2,pm2⟩:=en1.perm (es':=es2) p2
    have sz2:es2.size=es1.size:=by rw[en2.size,<- pm2.length_eq,<- en1.size]
    refine A0 (gw _ (A0 (HE g1 rfl ?_ (HL (by omega)))));exact A8 (A8 (q true _ (sb1.trans (Br.update _ a _)) ⟨⟨es2,_,u2,ms2,Jnf g1,en2,pm2.symm.trans pm1',f2,t2⟩,nd1⟩))
   .exact A8 (A8 (q true _ sb1 ⟨⟨es1,_,u1,ms1,g1,en1,pm1',f1,t1⟩,nd1⟩))
  split
  .refine A0 ?_;rw[hv];refine A8 ?_;rw[if_pos rfl];exact tail
  .refine A0 (A8 ?_);rw[if_pos rfl];exact tail
end
def byT(w:At):Bool:=w.params.followText "set-order"
section
variable {prog:Ab} {w:At} {A:AH} {R:KQ→A9→Prop} {I:Addr} {fp wr:List Addr} {Gn:Array M7→Array M7→Prop} {n:Nat} {P:Nat→A3→Prop} {St:Nat→A9→Prop}
theorem JlP.at{h h':Heap}{a:Addr}{led:Bool}{ns:List Int}(G:JlP prog w h a led ns)(k:∀o,h.get? a=some o->h'.get? a=some o):JlP prog w h' a led ns:=by
 obtain⟨⟨es,ep,t,ms,g0,r⟩,nd⟩:=G;exact⟨⟨es,ep,t,ms,k _ g0,r⟩,nd⟩
theorem JoB(W:WalksS prog w A.in1 I fp wr Gn n P St)(S:Addr)(hS:S∉fp)(led:Bool)(val:Nat->Int)(hv:∀i v,P i v->∃t,v=.int (val i) t)(hb:n+1<GM) :
  ∀(k i:Nat)(s:A9),n-i=k->i<=n->St i s->JlP prog w s.heap S led (GA val i)->
   (∀s',Moved (S::wr) Gn s s'->JlP prog w s'.heap S led (GA val n)->R (.ok (.ret .none)) s')->DD (Af prog w) A (.builtin "set.update.loop" ⟨[.ref S,.ref I],[]⟩) R s:=by
 have hw:S∉wr:=fun z=>hS (W.sub _ z);have hs:∀b∈wr,b∈S::wr:=fun b z=>AY _ z;intro k
 induction k with
 | zero=>
  intro i s e hi st G q
  obtain rfl:i=n:=by omega
  refine Dz Dr ?_;rw[AH.under_plainId Ca _];refine A0 (W.done s _ _ st fun s' m=>?_);exact A8 (q s' (m.mono hs) (G.at fun o z=>m.heap S _ hw z))
 | succ k ih=>
  intro i s e hi st G q
  have hl:i<n:=by omega
  refine Dz Dr ?_;rw[AH.under_plainId Ca _];refine A0 (W.item i s _ _ hl st fun v s' hp st' m=>?_);obtain⟨t,rfl⟩:=hv i v hp;have G1:=G.at (h':=s'.heap) fun o z=>m.heap S _ hw z;show AV _ A.in1 (holding [A3.int (val i) t] (setAdd S (.int (val i) t)) >>= _) _ _ s';refine A0 (CD ?_);unfold setAdd;refine CD (A0 ((DJ prog w).pyHash (k:=val i) (Hi _ _ _ _) ?_));have hl2:=firstMet_length_le val i;refine JqJ (s:={ s' with toks:=s'.toks+1 }) G1 (by omega) fun b h' sb G2=>?_;rw[<- firstMet_succ]at G2;refine A8 ⟨EJ Ca _,ih (i+1) _ (by omega) hl (W.frame _ s' _ _ st' (D4 _) fun c hc o z=>?_) G2 fun s'' m'' G3=>?_⟩
  .rw[sb.2 c (fun y:c=S=>hS (by rw[<- y];exact hc))];exact z
  .refine q s'' (Moved.trans W.gtrans ((m.mono hs).then_heap (D4 _) fun c o hc z=>?_) m'') G3;rw[sb.2 c (fun y:c=S=>hc (by rw[y];exact Az))];exact z
end
section
variable {prog:Ab} {w:At} {A:AH} {E:A3→A9→Prop} {s:A9}
noncomputable abbrev Ja9(led:Bool):Obj:={ cls:=.type "set",dict:=none,data:=.set #[] 0 (.fresh 0 0 led) }
theorem JjI(a:A3){Q₁:VS}(h:Q₁ (.ref s.heap.objs.size) { s with heap:=s.heap.push (Ja9 (!byT w)) }) :
  DD (Af prog w) A (.call (.builtin "set.__new__") ⟨[.type "set",a],[]⟩) (wants Q₁ E) s:=by
 refine codeAny_of_tree ?_;show AV _ A.in1 (do checkBuiltinCall "set.__new__" ⟨[.type "set",a],[]⟩;again (.builtin "set.__new__" ⟨[.type "set",a],[]⟩)) _ _ s;refine A0 (Gm (PySem.F.newCall_set_1 a) (A8 ⟨EJ Gb _,Dz PySem.F.entry_set_new ?_⟩));rw[AH.under_plainId Gb _];unfold Am.«set.__new__» Am.Frozenset.newClass;have hsub:=sub_set_self;obtain⟨hp,g,d,tk,os⟩:=s;dsimp only
 wp_walk
 refine FY (A8 ?_);dsimp only;simp only[newObj];exact A0 (wpAny_alloc (A8 (A8 h)))
theorem JmY{l:Addr}{vs:Array A3}{ns:List Int}{Q:VS}(hh:A.handled=none)(hl:s.heap.IsList l vs)(hi:Bt vs.toList ns)(hb:vs.size+1<GM)
  (q:∀(h':Heap)(tk:Nat),JlP prog w h' s.heap.objs.size (!byT w) (GA (fun i=>ns.getD i 0) vs.size)->(∀b o,b<s.heap.objs.size->s.heap.get? b=some o->h'.get? b=some o)->Q (.ref s.heap.objs.size) { s with heap:=h',toks:=tk }) :
  AV (Af prog w) A (call (.type "set") [.ref l]) Q E s:=by
 obtain⟨c,tl,hmro⟩:=BP.mro;have hmade:=BP.made;have hsub:=BP.sub;refine Hg (codeAny_of_tree ?_);show AV _ _ (callAny (.type "set") _) _ _ _;refine A8 ⟨Code.quiet_builtin _ (by decide +kernel),Dz PySem.F.entry_type_call ?_⟩;rw[AH.under_plain (weight_type_call_type "set" [.ref l] []) rfl];have n1:=BP.notType;have n2:=BP.canCreate;have n3:=PySem.F.typeCall_set_1 (.ref l)
 repeat (any_goals (first|assumption|wp_step))
 refine D7 (JjI (.ref l) (E:=E) (Q₁:=fun ob s₁=>ob=.ref s.heap.objs.size/\s₁={ s with heap:=s.heap.push (Ja9 (!byT w)) }) ⟨rfl,rfl⟩) fun r s₁ hr=>?_
 cases r with
 | error e=>exact hr
 | ok fl=>
  cases fl with
  | ret ob=>
   obtain⟨rfl,rfl⟩:=hr;have g0:(s.heap.push (Ja9 (!byT w))).get? s.heap.objs.size=some (Ja9 (!byT w)):=Aw _ rfl;have hT:A9.TypeIs { s with heap:=s.heap.push (Ja9 (!byT w)) } (.ref s.heap.objs.size) "set":=⟨_,g0,rfl⟩;have m1:=BP.init.lookup;have m2:=BP.init.bind (.ref s.heap.objs.size)
   repeat (any_goals (first|assumption|wp_step))
   refine D7 (codeAny_call_builtin (R:=wants (fun r s₂=>r=.none/\∃h' tk,s₂={ s with heap:=h',toks:=tk }/\JlP prog w h' s.heap.objs.size (!byT w) (GA (fun i=>ns.getD i 0) vs.size)/\
     (∀b o,b<s.heap.objs.size->s.heap.get? b=some o->h'.get? b=some o)) E) BP.init.plain PySem.F.entry_set_init (check_set_init_1 hT ?_)) fun r₂ s₂ hr2=>?_
   .obtain⟨ol,hol,hcl,nl,hdl⟩:=hl;obtain⟨ocls,odict,odata,oslots⟩:=ol;simp only at hcl hdl;subst hcl hdl;have hol':(s.heap.push (Ja9 (!byT w))).get? l=some { cls:=.type "list",dict:=odict,data:=.seq vs nl,slots:=oslots }:=A4 _ hol;have k1:=PySem.F.sub_list_set;have k2:=PySem.F.sub_list_frozenset
    have k3:(A3.type "list"==A3.type "dict")=false:=by decide
    have hl1:(s.heap.push (Ja9 (!byT w))).IsList l vs:=⟨_,hol',rfl,nl,rfl⟩;unfold Am.«set.__init__» noKeywords Am.Frozenset.updateFrom;generalize hPI:Gp=PI
    wp_walk
    subst hPI;refine DZ hl1 (A0 (wpAny_runValue ?_));have lt:l<s.heap.objs.size:=AZ hol
    have hh3:A.in1.in1.in1.handled=none:=by simp[hh]
    have ne:l≠(s.heap.push (Ja9 (!byT w))).objs.size:=by
     rw[By];exact Ar (Bp lt)
    have nm:s.heap.objs.size∉[(s.heap.push (Ja9 (!byT w))).objs.size,l]:=by
     rw[By];simp only[Aq,A5,AG,or_false,not_or];exact⟨Ar (BU _),Ce lt⟩
    have hval:∀(i:Nat)(v:A3),vs[i]?=some v->∃t,v=.int ((fun i=>ns.getD i 0) i) t:=fun i v z=>DY hi i v (by rw[Cp];exact z);refine JoB ((G8.list hh3 _ l ne vs).toS) s.heap.objs.size nm (!byT w) (fun i=>ns.getD i 0) hval hb (vs.size-0) 0 _ (by omega) (AA _) ⟨⟨_,Aw _ rfl,rfl,rfl⟩,(hl1.push _)⟩ ?_ ?_
    .refine⟨⟨#[],0,.fresh 0 0 (!byT w),[],A4 _ g0,⟨fun e he=>by simp at he,.nil⟩,.refl _,by rfl,JnV _⟩,BZ⟩
    .intro s' hm G';obtain⟨h',g',d',tk',os'⟩:=s';obtain rfl:g'=s.gens:=hm.gens;obtain rfl:d'=s.drawn:=hm.drawn;obtain rfl:os'=s.os:=hm.os;refine A8 (A8 ⟨rfl,h',tk',rfl,G',fun b o hb e=>?_⟩);have b1:b≠s.heap.objs.size:=Ar hb
     have b2:b≠(s.heap.push (Ja9 (!byT w))).objs.size:=by
      rw[By];exact Ar (Bp hb)
     exact hm.heap b o (by simp only[Aq,A5,AG,or_false,not_or];exact⟨b1,b2⟩) (A4 _ (A4 _ e))
   .cases r₂ with
    | error e=>exact hr2
    | ok fl2=>
     cases fl2 with
     | ret r=>
      obtain⟨rfl,h',tk,rfl,G',hk'⟩:=hr2
      repeat (any_goals (first|assumption|wp_step))
      exact q _ _ G' hk'
     | _=>exact hr2.elim
  | _=>exact hr.elim
end
theorem Jin:Manifest.owners.lookup (String.ofList "rotareti_tes".toList.reverse)=some Manifest.sig_set_iterator:=by kernel_rfl
theorem JT:Slot "set_iterator" "__next__" "set_iterator.__next__":=
 .of (owner:="set_iterator") (n:="__next__") (by rw[typeLookup_type,GZ];kernel_rfl) (by decide +kernel) (by decide +kernel) (by decide +kernel) (by first|exact .inl (by decide +kernel)|exact .inr (by decide +kernel)) (by rw[Gu];kernel_rfl)
theorem Jat:entryFor table "set_iterator.__next__" = some Am.«set_iterator.__next__»:=entryFor_of_tree (by kernel_rfl)
theorem JaV(a:A3):argsOk "set_iterator.__next__" ⟨[a],[]⟩:=by
 unfold argsOk;rw[signature?_of (id:="set_iterator.__next__") (n:="__txen__".toList) (o:="rotareti_tes".toList) (by kernel_rfl) Jin]
 kernel_rfl
theorem JcX:Slot "set_iterator" "__iter__" "set_iterator.__iter__":=
 .of (owner:="set_iterator") (n:="__iter__") (by rw[typeLookup_type,GZ];kernel_rfl) (by decide +kernel) (by decide +kernel) (by decide +kernel) (by first|exact .inl (by decide +kernel)|exact .inr (by decide +kernel)) (by rw[Gu];kernel_rfl)
theorem JfK(a:A3):argsOk "set_iterator.__iter__" ⟨[a],[]⟩:=by
 unfold argsOk;rw[signature?_of (id:="set_iterator.__iter__") (n:="__reti__".toList) (o:="rotareti_tes".toList) (by kernel_rfl) Jin]
 kernel_rfl
theorem Je3:entryFor table "set_iterator.__iter__" = some Am.«dict_keyiterator.__iter__»:=
 entryFor_alias (id':="dict_keyiterator.__iter__") (by kernel_rfl) (by first|rfl|decide +kernel|(unfold KL;simp +decide [HR])) (by decide +kernel) (by kernel_rfl)
theorem Jgx:entryFor table "set.__iter__" = some Am.«frozenset.__iter__»:=
 entryFor_alias (id':="frozenset.__iter__") (by kernel_rfl) (by first|rfl|decide +kernel|(unfold KL;simp +decide [HR])) (by decide +kernel) (by kernel_rfl)
noncomputable abbrev itO(first:A3)(i:Int)(a:Addr)(n ep:Nat):Obj:={ cls:=.type "set_iterator",dict:=none,data:=.fields #[first,Cb i,.ref a,Cb n,Cb ep],slots:=#[] }
noncomputable abbrev Jot(es:Array (Int×A3))(ep:Nat)(t:Ac):Obj:={ cls:=.type "set",dict:=none,data:=.set es ep t,slots:=#[] }
section
variable {prog:Ab} {w:At} {A:AH} {E:A3→A9→Prop} {s:A9}
theorem JgF{I a:Addr}{first:A3}{i:Int}{n ep:Nat}{Q:VS}(g:s.heap.get? I=some (itO first i a n ep))(h:Q (.ref I) s):AV (Af prog w) A (Gp (.ref I)) Q E s:=by
 have hT:s.TypeIs (.ref I) "set_iterator":=⟨_,g,rfl⟩;refine ES hT JcX (Bz JcX hT Je3 ?_ (JfK _));show AV _ _ (ret (.ref I)) _ _ s;exact A8 ⟨_,rfl, "set_iterator",_,hT,JT.lookup,h⟩
def Je0(xs:Array Nat):Nat->Nat
 | 0=>0
 | i+1=>xs.getD i 0+1
theorem JlD{xs:Array Nat}(h:Up xs.toList){i:Nat}(hi:i<=xs.size):Ac.below xs (Je0 xs i)=i:=by
 obtain⟨b0,b1,b2⟩:=JgK h (Je0 xs i)
 have gt:∀j,j<xs.size->xs[j]?=some (xs.getD j 0):=fun j hj=>by
  rw[BE hj];simp[G0,hj]
 rcases Nat.lt_trichotomy (Ac.below xs (Je0 xs i)) i with c|c|c
 .exfalso
  cases i with
  | zero=>omega
  | succ j=>
   have h1:=b2 j _ (by omega) (gt j (by omega));have:Je0 xs (j+1)=xs.getD j 0+1:=rfl;omega
 .exact c
 .exfalso
  have h1:=b1 i _ c (gt i (by omega))
  cases i with
  | zero=>simp[Je0]at h1
  | succ j=>
   have h2:=JkQ h (BU j) (x:=xs.getD j 0) (y:=xs.getD (j+1) 0) (by rw[<- gt j (by omega)];simp) (by rw[<- gt (j+1) (by omega)];simp);have:Je0 xs (j+1)=xs.getD j 0+1:=rfl;omega
end
section
variable {prog:Ab} {w:At} {A:AH} {E:A3→A9→Prop} {s:A9}
theorem JbK{M:Ma}{I a:Addr}{first:A3}{i:Int}{n ep:Nat}{Q:Array A3->A9->Prop}(g:s.heap.get? I=some (itO first i a n ep))(h:Q #[first,Cb i,.ref a,Cb n,Cb ep] s) :
  AV M A (fieldsOf (.ref I)) Q E s:=by
 unfold fieldsOf;exact A0 (HY g (A8 h))
theorem JlA{I a:Addr}{slot i nxt n ep:Nat}{es:Array (Int×A3)}{t:Ac}{x:A3}{Q:Option A3->A9->Prop}(g:s.heap.get? I=some (itO (Cb slot) i a n ep))(gs:s.heap.get? a=some (Jot es ep t))
  (ft:t.fits es.size=true) (hn:es.size=n) (hs:∀(E':VS) (Q':Option (A3×Nat)->A9->Prop),Q' (some (x,nxt)) s->AV (Af prog w) A.in1 (Fw a slot i ep) Q' E' s)
  (q:∀h',h'.get? I=some (itO (Cb nxt) ((i+1:Nat):Int) a n ep)->Br I s.heap h'->Q (some x) { s with heap:=h' }):AV (Af prog w) A (Dy (.ref I)) Q E s:=by
 have hT:s.TypeIs (.ref I) "set_iterator":=⟨_,g,rfl⟩;unfold Dy;refine A0 (CF (Bj (name:=Cc "__next__") hT JT (Bz JT hT Jat ?_ (JaV _))));unfold Am.«set_iterator.__next__»;refine A0 (A8 ?_);refine A0 (JbK g ?_);show AV _ A.in1 (Hh a >>= _) _ _ s;refine A0 (CU gs rfl ft ?_);dsimp only;rw[if_neg (by rw[hn];simp)];show AV _ A.in1 (Fw a slot i ep >>= _) _ _ s;refine A0 (hs _ _ ?_);dsimp only;refine A0 (Bb g (by simp) fun h1 e1 b1=>?_);refine A0 (Bb e1 (by simp) fun h2 e2 b2=>?_);exact A8 ⟨_,rfl,A8 (q h2 e2 (b1.trans b2))⟩
theorem Jm5{I a:Addr}{slot i n ep:Nat}{es:Array (Int×A3)}{t:Ac}{Q:Option A3->A9->Prop}(hh:A.handled=none)(g:s.heap.get? I=some (itO (Cb slot) i a n ep))(gs:s.heap.get? a=some (Jot es ep t))
  (ft:t.fits es.size=true) (hn:es.size=n) (hs:∀(E':VS) (Q':Option (A3×Nat)->A9->Prop),Q' none s->AV (Af prog w) A.in1 (Fw a slot i ep) Q' E' s)
  (q:∀h',Km I s.heap h'->Q none { s with heap:=h' }):AV (Af prog w) A (Dy (.ref I)) Q E s:=by
 have hT:s.TypeIs (.ref I) "set_iterator":=⟨_,g,rfl⟩;unfold Dy;refine A0 (CF (Bj (name:=Cc "__next__") hT JT (Bz JT hT Jat ?_ (JaV _))));unfold Am.«set_iterator.__next__»;refine A0 (A8 ?_);refine A0 (JbK g ?_);show AV _ A.in1 (Hh a >>= _) _ _ s;refine A0 (CU gs rfl ft ?_);dsimp only;rw[if_neg (by rw[hn];simp)];show AV _ A.in1 (Fw a slot i ep >>= _) _ _ s;refine A0 (hs _ _ ?_);dsimp only;refine A0 (Bb g (by simp) fun h1 e1 b1=>?_);refine A0 ?_;simp only[newExc,newTuple];refine A0 (B7 ?_ (by size_fits));refine A0 (m:=Dc _ _) (Gm (a:=A3.none) (by first|rfl|(simp only[Dc];rfl)) ?_)
 refine B7 ?_ (by size_fits);simp only[raiseNew];refine A0 (Hk ?_);rw[show A.in1.handled=none from hh];refine A0 (A8 (Kf ?_));refine A0 (Dh (T:="StopIteration") (b:=true) ⟨_,Aw _ rfl,rfl⟩ EA ?_);exact A8 (q _ ((b1.extBut.push _).push _))
end
theorem Jg4{α:Type}{l:List α}{k:Nat}{x:α}(h:l[k]?=some x):(x::l.eraseIdx k).Perm l:=by
 obtain⟨h1,h2⟩:=A7.mp h;rw[List.eraseIdx_eq_take_drop_succ,<- h2]
 have e:l.take k++l[k]::l.drop (k+1)=l:=by rw[<- EM h1,Co]
 exact(List.perm_middle.symm).trans (by rw[e])
theorem Jiu{α:Type}(next:Nat->Nat):∀(fuel k:Nat)(left:List α)(out:Array α),left.length=fuel->(Fc.go next fuel k left out).toList.Perm (out.toList++left)
 | 0,k,left,out,h=>by
  have:left=[]:=E2.mp h;subst this;simp[Fc.go]
 | fuel+1,k,left,out,h=>by
  unfold Fc.go;have hl:next k%left.length<left.length:=Nat.mod_lt _ (by omega);rw[A1 hl];dsimp only;have e:=A1 hl;refine(Jiu next fuel (k+1) _ _ (by rw[EG hl];omega)).trans ?_;rw[Da,C5];exact GP.append_left _ (Jg4 e)
theorem Jgo{α:Type}(next:Nat->Nat)(xs:Array α):(Fc next xs).toList.Perm xs.toList:=by
 unfold Fc;have:=Jiu next xs.size 0 xs.toList #[] (by simp);simpa using this
section
variable {prog:Ab} {w:At} {A:AH} {E:A3→A9→Prop} {s:A9} {a:Addr} {es:Array (Int×A3)} {ep:Nat} {t:Ac}
theorem Jc4{Q:Bool->A9->Prop}(h:Q (byT w) s):AV (Af prog w) A setsByText Q E s:=by
 unfold setsByText;exact A0 (FY (A8 h))
noncomputable def Js4(w:At)(a:Addr)(ep:Nat)(es:Array (Int×A3)):Array (Int×A3):=Fc (w.params.setOrder a ep) es
theorem Ji2(gs:s.heap.get? a=some (Jot es ep t))(ft:t.fits es.size=true)(hb:byT w=true){slot i:Nat}{Q:Option (A3×Nat)->A9->Prop}(q:Q (((Js4 w a ep es)[i]?).map fun e=>(e.2,slot)) s) :
  AV (Af prog w) A (Fw a slot i ep) Q E s:=by
 unfold Fw;refine A0 (Ct gs rfl ft ?_);dsimp only;refine A0 (Jc4 ?_);rw[hb,if_pos rfl,if_neg (by simp)];unfold setWalk;refine A0 ?_;refine A0 (Ct gs rfl ft ?_);dsimp only;refine A0 (Jc4 ?_);rw[hb,if_pos rfl];refine A0 (FY (A8 ?_));exact A8 q
def dr(es:Array (Int×A3))(t:Ac):Bool:=!t.plain&&decide (es.size>1)
theorem Jjk(gs:s.heap.get? a=some (Jot es ep t))(ft:t.fits es.size=true)(hb:byT w=false)(hd:dr es t=false)(hl:t.led=true){slot i:Nat}{Q:Option (A3×Nat)->A9->Prop}
  (q:Q (match es[Ac.below t.place slot]?,t.place[Ac.below t.place slot]? with|some (_,x),some j=>some (x,j+1)|_,_=>none) s):AV (Af prog w) A (Fw a slot i ep) Q E s:=by
 unfold Fw;refine A0 (Ct gs rfl ft ?_);dsimp only;refine A0 (Jc4 ?_);rw[hb,if_neg (by simp)];show AV _ _ (if dr es t=true then _ else _) _ _ s;rw[hd,if_neg (by simp)];refine A0 ?_;show AV _ _ (if(!t.led&&!es.isEmpty)=true then _ else _) _ _ s;rw[hl,if_neg (by simp)];exact A8 (A8 q)
end
section
variable {prog:Ab} {w:At} {A:AH} {E:A3→A9→Prop} {s:A9} {a:Addr} {es:Array (Int×A3)} {ep:Nat} {t:Ac}
theorem JjV{I T:Addr}{i n pl:Nat}{x:A3}{h0:Int}{ps:Array A3}{tn:Nat}{Q:Option A3->A9->Prop}(g:s.heap.get? I=some (itO (.ref T) i a n ep))(gs:s.heap.get? a=some (Jot es ep t))
  (gt:s.heap.get? T=some { cls:=.type "tuple",data:=.seq ps tn }) (ft:t.fits es.size=true) (hn:es.size=n) (hp:ps[i]?=some (Cb pl)) (he:es[pl]?=some (h0,x))
  (q:∀h',h'.get? I=some (itO (.ref T) ((i+1:Nat):Int) a n ep)->Br I s.heap h'->Q (some x) { s with heap:=h' }):AV (Af prog w) A (Dy (.ref I)) Q E s:=by
 have hT:s.TypeIs (.ref I) "set_iterator":=⟨_,g,rfl⟩;unfold Dy;refine A0 (CF (Bj (name:=Cc "__next__") hT JT (Bz JT hT Jat ?_ (JaV _))));unfold Am.«set_iterator.__next__»;refine A0 (A8 ?_);refine A0 (JbK g ?_);show AV _ A.in1 (Hh a >>= _) _ _ s;refine A0 (CU gs rfl ft ?_);dsimp only;rw[if_neg (by rw[hn];simp)];refine A0 (Ck gt rfl ?_);dsimp only;rw[show(i:Int).toNat=i from rfl,hp];refine A0 ?_;show AV _ A.in1 (setNextDrawn a pl ep) _ _ s;unfold setNextDrawn;refine A0 (Ct gs rfl ft ?_);dsimp only;rw[if_neg (by simp),he];refine A8 ?_;refine A0 (Bb g (by simp) fun h1 e1 b1=>?_);exact A8 ⟨_,rfl,A8 (q h1 e1 b1)⟩
theorem JlM{I T:Addr}{i n:Nat}{ps:Array A3}{tn:Nat}{Q:Option A3->A9->Prop}(hh:A.handled=none)(g:s.heap.get? I=some (itO (.ref T) i a n ep))(gs:s.heap.get? a=some (Jot es ep t))
  (gt:s.heap.get? T=some { cls:=.type "tuple",data:=.seq ps tn }) (ft:t.fits es.size=true) (hn:es.size=n) (hp:ps[i]?=none)
  (q:∀h',Km I s.heap h'->Q none { s with heap:=h' }):AV (Af prog w) A (Dy (.ref I)) Q E s:=by
 have hT:s.TypeIs (.ref I) "set_iterator":=⟨_,g,rfl⟩;unfold Dy;refine A0 (CF (Bj (name:=Cc "__next__") hT JT (Bz JT hT Jat ?_ (JaV _))));unfold Am.«set_iterator.__next__»;refine A0 (A8 ?_);refine A0 (JbK g ?_);show AV _ A.in1 (Hh a >>= _) _ _ s;refine A0 (CU gs rfl ft ?_);dsimp only;rw[if_neg (by rw[hn];simp)];refine A0 (Ck gt rfl ?_);dsimp only;rw[show(i:Int).toNat=i from rfl,hp];dsimp only;refine A0 (Bb g (by simp) fun h0 e0 b0=>?_);refine A0 (Bb e0 (by simp) fun h1 e1 b1=>?_);refine A0 ?_;simp only[newExc,newTuple];refine A0 (B7 ?_ (by size_fits));refine A0 (m:=Dc _ _) (Gm (a:=A3.none) (by first|rfl|(simp only[Dc];rfl)) ?_)
 refine B7 ?_ (by size_fits);simp only[raiseNew];refine A0 (Hk ?_);rw[show A.in1.handled=none from hh];refine A0 (A8 (Kf ?_));refine A0 (Dh (T:="StopIteration") (b:=true) ⟨_,Aw _ rfl,rfl⟩ EA ?_);exact A8 (q _ (((b0.trans b1).extBut.push _).push _))
theorem Jmn{α:Type}:∀(n:Nat)(xs:List α)(s:A9)(Q:List α->A9->Prop),xs.length=n->(∀ys d,ys.Perm xs->Q ys { s with drawn:=d })->AV (Af prog w) A (drawOrder n xs) Q E s:=by
 intro n
 induction n with
 | zero=>
  intro xs s Q h q;have:xs=[]:=E2.mp h;subst this;exact A8 (q [] s.drawn (.refl _))
 | succ n ih=>
  intro xs s Q h q
  cases xs with
  | nil=>cases h
  | cons x r=>
   unfold drawOrder;refine A0 ?_;intro Γ p hΓ;unfold choose;rw[Sem.wp_choose];refine⟨by simp,?_⟩;refine(show AV (Af prog w) A (Sem.pure _) _ E _ from A8 ?_) Γ p hΓ;generalize hk:(Af prog w).w.draws Source.order (s.drawn.get Source.order)%(x::r).length=k
   have hl:k<(x::r).length:=by
    rw[<- hk];exact Nat.mod_lt _ (by simp)
   rw[A1 hl];dsimp only;refine A0 (ih _ _ _ (by rw[EG hl];simp at h ⊢;omega) fun ys d p=>?_);refine A8 ?_;have:=q ((x::r)[k]::ys) d ((p.cons _).trans (Jg4 (A1 hl)));exact this
end
section
variable {prog:Ab} {w:At} {A:AH} {E:A3→A9→Prop} {s:A9} {a:Addr} {es:Array (Int×A3)} {ep:Nat} {t:Ac}
theorem JfZ(hh:A.handled=none){I:Addr}(ne:a≠I)(ft:t.fits es.size=true)(sl:Nat->Nat)(ord:List A3)(hl:ord.length=es.size)
  (nx:∀(s:A9)(i:Nat)(E':VS) (Q':Option (A3×Nat)->A9->Prop),s.heap.get? a=some (Jot es ep t)->i<=es.size->Q' ((ord[i]?).map fun x=>(x,sl (i+1))) s->AV (Af prog w) A.in1 (Fw a (sl i) i ep) Q' E' s) :
  G8 prog w A I [I,a] [I] ord.length (fun i v=>ord[i]?=some v) (fun i h=>h.get? I=some (itO (Cb (sl i)) (i:Nat) a es.size ep)/\h.get? a=some (Jot es ep t)) where
 sub:=fun b hb=>by
  simp at hb;simp[hb]
 frame:=fun _ _ _ st k=>⟨k I (by simp) _ st.1,k a (by simp) _ st.2⟩
 item:=fun i s Q E hi st q=>by
  obtain⟨x,hx⟩:∃x,ord[i]?=some x:=⟨ord[i],A1 hi⟩;refine JlA (x:=x) (nxt:=sl (i+1)) st.1 st.2 ft rfl (fun E' Q' z=>nx s i E' Q' st.2 (by omega) (by rw[hx];exact z)) fun h' e' b'=>?_;exact q x h' s.toks hx ⟨e',(b'.2 a ne).trans st.2⟩ fun b o hb z=>(b'.2 b (fun y=>hb (by simp[y]))).trans z
 done:=fun s Q E st q=>Jm5 hh st.1 st.2 ft rfl (fun E' Q' z=>nx s _ E' Q' st.2 (by omega) (by rw[C8 (A6 _)];exact z)) fun h' e'=>q h' s.toks fun b o hb z=>e' b o (fun y=>hb (by simp[y])) z
 self:=fun _ _ _ _ st q=>JgF st.1 q
theorem JjS(hh:A.handled=none){I T:Addr}(ne:a≠I)(nt:T≠I)(ft:t.fits es.size=true)(pl:List Nat)(tn:Nat)(hl:pl.length=es.size)(hp:∀k∈pl,k<es.size) :
  G8 prog w A I [I,a,T] [I] (pl.map fun k=>(es.getD k (0,.none)).2).length (fun i v=>(pl.map fun k=>(es.getD k (0,.none)).2)[i]?=some v) (fun i h=>h.get? I=some (itO (.ref T) (i:Nat) a es.size ep)/\h.get? a=some (Jot es ep t)/\h.get? T=some { cls:=.type "tuple",data:=.seq (pl.map fun(k:Nat)=>Cb (k:Int)).toArray tn }) where
 sub:=fun b hb=>by
  simp at hb;simp[hb]
 frame:=fun _ _ _ st k=>⟨k I (by simp) _ st.1,k a (by simp) _ st.2.1,k T (by simp) _ st.2.2⟩
 item:=fun i s Q E hi st q=>by
  have hi':i<pl.length:=by simpa using hi
  have hk:pl[i]<es.size:=hp _ (B8 hi');refine JjV (pl:=pl[i]) (x:=(es.getD pl[i] (0,.none)).2) (h0:=(es.getD pl[i] (0,.none)).1) st.1 st.2.1 st.2.2 ft rfl (by simp[hi']) (by simp[G0,hk]) fun h' e' b'=>?_;exact q _ h' s.toks (by simp[hi']) ⟨e',(b'.2 a ne).trans st.2.1,(b'.2 T nt).trans st.2.2⟩ fun b o hb z=>(b'.2 b (fun y=>hb (by simp[y]))).trans z
 done:=fun s Q E st q=>JlM hh st.1 st.2.1 st.2.2 ft rfl (by simp) fun h' e'=>q h' s.toks fun b o hb z=>e' b o (fun y=>hb (by simp[y])) z
 self:=fun _ _ _ _ st q=>JgF st.1 q
theorem Joz(hh:A.handled=none)(gs:s.heap.get? a=some (Jot es ep t))(ft:t.fits es.size=true)(tb:Jcy t (!byT w))(hz:es.size<=AK){Q:VS}
  (q:∀(h':Heap)(d:Kn)(I:Addr)(fp:List Addr)(ord:List A3)(St:Nat->Heap->Prop),(∀b o,s.heap.get? b=some o->h'.get? b=some o)->s.heap.objs.size<=I->(∀b∈fp,b=a\/s.heap.objs.size<=b)->(∀b∈fp,b<h'.objs.size)->
   ord.Perm (es.toList.map (·.2))->G8 prog w A I fp [I] ord.length (fun i v=>ord[i]?=some v) St->St 0 h'->Q (.ref I) { s with heap:=h',drawn:=d }):AV (Af prog w) A (Gp (.ref a)) Q E s:=by
 have hT:s.TypeIs (.ref a) "set":=⟨_,gs,rfl⟩;have la:a<s.heap.objs.size:=AZ gs;refine ES hT GY (Bz GY hT Jgx ?_ (PySem.F.args_set_iter_1 _));unfold Am.«frozenset.__iter__» Am.Frozenset.slot0;refine A0 (A0 (A8 (A8 ?_)));refine A0 ?_;unfold Am.Frozenset.sizeOf;refine A0 (CU gs rfl ft (A8 ?_));refine A0 ?_;unfold setDrawn;refine A0 (Ct gs rfl ft ?_);dsimp only;refine A0 (Jc4 ?_);show AV _ _ (pure (!byT w&&dr es t)) _ _ s;refine A8 ?_
 by_cases hd:(!byT w&&dr es t)=true
 .rw[if_pos hd];refine A0 (Jmn es.size (AT es.size) s _ Cu fun ys d p=>?_);refine A0 ?_;refine wpAny_newTuple ?_ (by rw[A2,p.length_eq,Cu];exact hz);have gs1:=A4 { cls:=.type "tuple",data:=.seq (ys.map fun(k:Nat)=>Cb (k:Int)).toArray } gs;refine A0 (HF gs1 rfl ft ?_);refine A0 (B7 ?_ (by size_fits));refine A8 ⟨_,rfl, "set_iterator",_,⟨_,Aw _ rfl,rfl⟩,JT.lookup,?_⟩;have e1:(s.heap.push { cls:=.type "tuple",data:=.seq (ys.map fun(k:Nat)=>Cb (k:Int)).toArray }).objs.size=s.heap.objs.size+1:=By _ _;have hpl:∀k∈ys,k<es.size:=fun k hk=>De.mp (p.mem_iff.mp hk)
  have hyl:ys.length=es.size:=by rw[p.length_eq,Cu]
  have W:=JjS (prog:=prog) (w:=w) (A:=A) (I:=s.heap.objs.size+1) (T:=s.heap.objs.size) (ep:=ep) (t:=t) hh (Ar (Bp la)) (Ar (BU _)) ft ys 0 hyl hpl
  have e0:∀P:Addr->Prop,P (s.heap.objs.size+1)->P (s.heap.push { cls:=.type "tuple",data:=.seq (ys.map fun(k:Nat)=>Cb (k:Int)).toArray }).objs.size:=fun P z=>by
   rw[e1];exact z
  refine e0 (fun I=>Q (.ref I) _) ?_;refine q _ d (s.heap.objs.size+1) _ _ _ (fun b o z=>A4 _ (A4 _ z)) (by omega) (fun b hb=>?_) (fun b hb=>?_) ?_ W ⟨?_,A4 _ gs1,A4 _ (Aw _ rfl)⟩
  .rcases Aq.mp hb with rfl|hb
   .exact .inr (D4 _)
   .rcases Aq.mp hb with rfl|hb
    .exact .inl rfl
    .rw[A5.mp hb];exact .inr (A6 _)
  .rw[By,e1]
   rcases Aq.mp hb with rfl|hb
   .exact BU _
   .rcases Aq.mp hb with rfl|hb
    .exact Bp (Bp la)
    .rw[A5.mp hb];exact Bp (BU _)
  .have r:(ys.map fun k=>(es.getD k (0,.none)).2).Perm ((AT es.size).map fun k=>(es.getD k (0,.none)).2):=p.map _;refine r.trans (GP.of_eq ?_);refine Do (by simp) fun i h1 h2=>?_
   have:i<es.size:=by simpa using h1
   simp[G0,this]
  .rw[<- e1];exact Aw _ rfl
 .rw[if_neg hd];refine A0 (A8 ?_);refine A0 (HF gs rfl ft ?_);refine A0 (B7 ?_ (by size_fits));refine A8 ⟨_,rfl, "set_iterator",_,⟨_,Aw _ rfl,rfl⟩,JT.lookup,?_⟩;have ne:a≠s.heap.objs.size:=Ar la
  have lt2:∀(o:Obj),∀b∈[s.heap.objs.size,a],b<(s.heap.push o).objs.size:=fun o b hb=>by
   rw[By]
   rcases Aq.mp hb with rfl|hb
   .exact BU _
   .rw[A5.mp hb];exact Bp la
  have fpo:∀b∈[s.heap.objs.size,a],b=a\/s.heap.objs.size<=b:=fun b hb=>by
   rcases Aq.mp hb with rfl|hb
   .exact .inr (A6 _)
   .exact .inl (A5.mp hb)
  cases hb:byT w with
  | true=>
   have pm:=(Jgo (w.params.setOrder a ep) es).map (·.2)
   have W:=JfZ (prog:=prog) (w:=w) (A:=A) (I:=s.heap.objs.size) (ep:=ep) (t:=t) hh ne ft (fun _=>0) ((Js4 w a ep es).toList.map (·.2)) (by rw[show((Js4 w a ep es).toList.map (·.2)).length=_ from pm.length_eq];simp) fun s' i E' Q' g' _ z=>Ji2 g' ft hb (by
    rw[Ax]at z;rw[<- Cp]
    cases h:(Js4 w a ep es).toList[i]? with
    | none=>rw[h]at z;exact z
    | some e=>rw[h]at z;exact z)
   exact q _ s.drawn s.heap.objs.size _ _ _ (fun b o z=>A4 _ z) (A6 _) fpo (lt2 _) pm W ⟨Aw _ rfl,A4 _ gs⟩
  | false=>
   have hd':dr es t=false:=by
    rw[hb]at hd;simpa using hd
   have hfs:t.place.size=es.size:=by
    simp only[Ac.fits,As,beq_iff_eq]at ft;exact ft.1
   have hup:Up t.place.toList:=by
    unfold dr at hd'
    cases hp:t.plain with
    | true=>exact tb.up hp
    | false=>
     rw[hp]at hd'
     have h1:es.size<=1:=by simpa using hd'
     have h2:t.place.toList.length<=1:=by simpa[hfs]using h1
     cases hl:t.place.toList with
     | nil=>exact Ch.nil
     | cons x r=>
      rw[hl]at h2;have:r=[]:=E2.mp (by simpa using h2);rw[this];exact DU _ _
   have hled:t.led=true:=by rw[tb.led,hb];rfl
   have W:=JfZ (prog:=prog) (w:=w) (A:=A) (I:=s.heap.objs.size) (ep:=ep) (t:=t) hh ne ft (Je0 t.place) (es.toList.map (·.2)) (by simp) fun s' i E' Q' g' hi z=>Jjk g' ft hb hd' hled (by
    rw[JlD hup (by omega)]
    by_cases c:i<es.size
    .have e1:es[i]?=some es[i]:=BE c;have e2:t.place[i]?=some t.place[i]:=BE (by omega)
     have e3:(es.toList.map (·.2))[i]?=some es[i].2:=by simp[c]
     have e4:Je0 t.place (i+1)=t.place[i]+1:=by
      show t.place.getD i 0+1=_;simp[G0,show i<t.place.size by omega]
     rw[e3]at z;rw[e1,e2];rw[e4]at z;exact z
    .have e1:es[i]?=none:=FU (by omega)
     have e3:(es.toList.map (·.2))[i]?=none:=by simp;omega
     rw[e3]at z;rw[e1]
     exact z)
   exact q _ s.drawn s.heap.objs.size _ _ _ (fun b o z=>A4 _ z) (A6 _) fpo (lt2 _) (.refl _) W ⟨Aw _ rfl,A4 _ gs⟩
end
structure Src(prog:Ab)(w:At)(T:String)(r:Addr)(P:List A3->Prop)(OK:Heap->Prop):Prop where
 ty:∀s:A9,OK s.heap->s.TypeIs (.ref r) T
 lt:∀h:Heap,OK h->r<h.objs.size
 stay:∀h h':Heap,OK h->(∀o,h.get? r=some o->h'.get? r=some o)->OK h'
 nl:(A3.type T==A3.type "list")=false
 nt:(A3.type T==A3.type "tuple")=false
 hint:∀(A:AH)(E:VS)(s:A9)(Q:Bool->A9->Prop),OK s.heap->(∀k tk,s.toks<=tk->Q k { s with toks:=tk })->AV (Af prog w) A (Am.List.listLengthHint (.ref r)) Q E s
 iter:∀(A:AH)(E:VS)(s:A9)(Q:VS),A.handled=none->OK s.heap->
  (∀(h':Heap)(d:Kn)(I:Addr)(fp:List Addr)(n:Nat)(P':Nat->A3->Prop)(St:Nat->Heap->Prop),(∀b o,s.heap.get? b=some o->h'.get? b=some o)->s.heap.objs.size<=I->(∀b∈fp,b=r\/s.heap.objs.size<=b)->
   n<=AK->(∀vs:List A3,vs.length=n->(∀j v,vs[j]?=some v->P' j v)->P vs)->G8 prog w A I fp [I] n P' St->St 0 h'->Q (.ref I) { s with heap:=h',drawn:=d })->AV (Af prog w) A (Gp (.ref r)) Q E s
section
variable {prog:Ab} {w:At} {A:AH} {E:A3→A9→Prop} {s:A9} {T:String} {r:Addr} {P:List A3→Prop} {OK:Heap→Prop}
noncomputable abbrev JlQ(xs:Array A3)(c:Nat):Obj:={ cls:=.type "list",dict:=none,data:=.seq xs c,slots:=#[] }
theorem Src.extend{R:KQ->A9->Prop}(K:Src prog w T r P OK)(hh:A.handled=none)(ok:OK s.heap)(S:Addr)(ne:S≠r)(res:A3)(c0:Nat)(gS:s.heap.get? S=some (JlQ #[] c0))
  (q:∀h' tk d acc c',(∀b o,b≠S->s.heap.get? b=some o->h'.get? b=some o)->h'.get? S=some (JlQ acc c')->P acc.toList->R (.ok (.ret res)) { s with heap:=h',toks:=tk,drawn:=d }) :
  AV (Af prog w) A.in1 (Am.List.listExtendWith (.ref S) (.ref r) res) (fun fin s'=>match fin with|.done f=>R (.ok f) s'|.again c'=>c'.quiet=true/\DD (Af prog w) A c' R s') (fun e s'=>R (.error e) s') s:=by
 unfold Am.List.listExtendWith;refine A0 (HD (T:=T) (K.ty s ok) ?_)
 have h1:Am.List.listSameRef (.ref S) (.ref r)=false:=by simp[Am.List.listSameRef,ne]
 simp only[h1,K.nl,K.nt,FV,DN,if_false];have lS:S<s.heap.objs.size:=AZ gS;refine A0 (K.iter A.in1 _ s _ hh ok fun h' d I fp n P' St kp lI hfp hn hP W st=>?_)
 have nf:S∉fp:=fun z=>by
  rcases hfp S z with y|y
  .exact ne y
  .exact absurd lS (DM.mpr y)
 have nI:S≠I:=fun z=>absurd lS (DM.mpr (by rw[z];exact lI));have gS1:=kp _ _ gS
 have fin:∀(h2:Heap)(c1 tk:Nat),St 0 h2->(∀b o,b≠S->s.heap.get? b=some o->h2.get? b=some o)->h2.get? S=some (JlQ #[] c1)->DD (Af prog w) A (.builtin "list.extend.loop" ⟨[.ref S,.ref I,res],[]⟩) R { s with heap:=h2,toks:=tk,drawn:=d }:=by
  intro h2 c1 tk st2 k2 g2;refine codeAny_extend_loopS W.toS hn S nf res n 0 _ #[] c1 rfl (AA _) st2 g2 (ItemsOf.nil _) fun s' acc c' m g' ia=>?_;rw[Mz m];refine q s'.heap s'.toks d acc c' (fun b o hb z=>m.heap b o (fun y=>?_) (k2 b o hb z)) g' (hP acc.toList (by rw[Bo];exact ia.1) fun j v e=>ia.2 j v (by rw[<- Cp];exact e))
  rcases Aq.mp y with y|y
  .exact hb y
  .rw[A5.mp y]at z;exact absurd (AZ z) (DM.mpr lI)
 refine A0 (CD (K.hint _ _ _ _ (K.stay _ _ ok fun o z=>kp _ _ z) fun k tk _=>?_));refine G5 (fun _=>?_) (fun _=>A8 ⟨EJ EH _,fin _ c0 tk st (fun b o _ z=>kp b o z) gS1⟩);refine A0 (Ft (A0 ?_));show AV _ _ (updateSeq S (·.push .none) >>= fun _=>updateSeq S (·.pop)) _ _ _;refine A0 (G4 gS1 rfl ?_);have gS2:=C9 (DH (·.push A3.none)) gS1 rfl;refine G4 (hz:=by seq_fits) gS2 rfl ?_;have gS3:=C9 (DH (·.pop)) gS2 rfl
 have oth:∀b,b≠S->((h'.update S (DH (·.push A3.none))).update S (DH (·.pop))).get? b=h'.get? b:=fun b hb=>
  (Dq _ _ (EK hb)).trans (Dq _ _ (EK hb))
 refine A8 ⟨EJ EH _,fin _ _ tk ?_ (fun b o hb z=>(oth b hb).trans (kp b o z)) gS3⟩;exact W.frame 0 _ _ st fun b hb o z=>(oth b (fun y=>nf (y ▸ hb))).trans z
theorem Src.collect{R:List A3->A9->Prop}(K:Src prog w T r P OK)(hh:A.handled=none)(ok:OK s.heap)
  (q:∀(h':Heap)(tk:Nat)(d:Kn)(vs:List A3),(∀b o,s.heap.get? b=some o->h'.get? b=some o)->s.heap.objs.size<h'.objs.size->P vs->R vs { s with heap:=h',toks:=tk,drawn:=d }):AV (Af prog w) A (M9 (.ref r)) R E s:=by
 have lr:=K.lt _ ok;unfold M9;refine A0 (wpAny_runValue (Dz entry_proto_collect' ?_));rw[AH.under_plainId PySem.F.plain_proto_collect _];show AV _ A.in1 (newList [] >>= fun l=>again (.builtin "list.__iadd__" ⟨[l,.ref r],[]⟩)) _ _ s;refine A0 (B7 (A8 ⟨EJ Fg _,Dz entry_list_iadd' ?_⟩));rw[AH.under_plainId Fg _];have gS:(s.heap.push { cls:=.type "list",data:=.seq ([]:List A3).toArray }).get? s.heap.objs.size=some (JlQ #[] 0):=Aw _ rfl
 have go:=Src.extend (A:=A) (s:={ s with heap:=s.heap.push { cls:=.type "list",data:=.seq ([]:List A3).toArray } })
  (R:=fun(z:KQ)(s':A9)=>∃(h':Heap)(tk:Nat)(d:Kn)(acc:Array A3)(c':Nat),z=.ok (.ret (.ref s.heap.objs.size))/\s'={ s with heap:=h',toks:=tk,drawn:=d }/\(∀b o,s.heap.get? b=some o->h'.get? b=some o)/\h'.get? s.heap.objs.size=some (JlQ acc c')/\P acc.toList)
  K hh (K.stay _ _ ok fun o z=>A4 _ z) s.heap.objs.size (Ce lr) (.ref s.heap.objs.size) 0 gS
  (fun h' tk d acc c' k g p=>⟨h',tk,d,acc,c',rfl,rfl,fun b o z=>k b o (Ar (AZ z)) (A4 _ z),g,p⟩)
 refine Db go (fun fin s' x=>?_) fun e s' x=>?_
 .cases fin with
  | done f=>
   obtain⟨h',tk,d,acc,c',e,rfl,k,g,p⟩:=x;cases e;exact A0 (HY g (A8 (q h' tk d acc.toList k (AZ g) p)))
  | again c1=>
   refine⟨x.1,D7 x.2 fun z s2 y=>?_⟩;obtain⟨h',tk,d,acc,c',rfl,rfl,k,g,p⟩:=y;exact A0 (HY g (A8 (q h' tk d acc.toList k (AZ g) p)))
 .obtain⟨_,_,_,_,_,e',_⟩:=x;cases e'
theorem Src.sorted{Q:VS}(K:Src prog w T r P OK)(hh:A.handled=none)(ok:OK s.heap)(ns:List Int)(hp:∀vs,P vs->∃ms,Bt vs ms/\ms.Perm ns)(h64:ns.length<64)
  (q:∀(h':Heap)(tk:Nat)(d:Kn)(D:Addr)(out:Array A3)(c:Nat)(rs:List Int),(∀b o,s.heap.get? b=some o->h'.get? b=some o)->s.heap.objs.size<=D->h'.get? D=some (JlQ out c)->Bt out.toList rs->rs.Perm ns->rs.Pairwise (·<=·)->
   Q (.ref D) { s with heap:=h',toks:=tk,drawn:=d }):AV (Af prog w) A (call (.builtin "sorted") [.ref r]) Q E s:=by
 refine ER kind_sorted plain_sorted entry_sorted (args_sorted1 _) ?_;unfold Am.«sorted»;refine A0 (m:=checkCount "sorted" 1 1 _) (A8 ?_);refine A0 (K.collect (A:=A.in1) hh ok fun h' tk d vs k ls p=>?_);obtain⟨ms,hi,pm⟩:=hp vs p
 have hl:vs.length<64:=by rw[Bt.length hi,pm.length_eq];exact h64
 refine A0 (wpAny_newList ?_ (by rw[Bu];omega));have gL:(h'.push { cls:=.type "list",data:=.seq vs.toArray }).get? h'.objs.size=some (seqObj "list" vs.toArray 0):=Aw _ rfl;refine A0 (CD (Bz slot_list_sort ⟨_,gL,rfl⟩ entry_list_sort (list_sort_tree gL hi hl fun out rs a1 a2 a3=>⟨_,rfl,?_⟩) (args_list_sort _)));obtain⟨e,he⟩:∃e,(sortedHeap (h'.push { cls:=.type "list",data:=.seq vs.toArray }) h'.objs.size vs out).get? h'.objs.size=some (seqObj "list" out e):=sortedHeap_at gL;refine A8 ⟨_,rfl,q _ tk d h'.objs.size out e rs (fun b o z=>?_) ?_ he a1 (a2.trans pm) a3⟩
 .have lb:b<h'.objs.size:=AZ (k b o z);rw[sortedHeap_old (Ar lb) (by rw[By];exact Bp lb)];exact A4 _ (k b o z)
 .exact Cf ls
theorem Src.list{Q:VS}(K:Src prog w T r P OK)(hh:A.handled=none)(ok:OK s.heap)
  (q:∀h' tk d acc c,(∀b o,s.heap.get? b=some o->h'.get? b=some o)->h'.get? s.heap.objs.size=some (JlQ acc c)->P acc.toList->Q (.ref s.heap.objs.size) { s with heap:=h',toks:=tk,drawn:=d }) :
  AV (Af prog w) A (call (.type "list") [.ref r]) Q E s:=by
 have lr:=K.lt _ ok;refine callType_codes (Q₁:=fun obj s₁=>obj=.ref s.heap.objs.size/\s₁={ s with heap:=s.heap.push (JlQ #[] 0) }) PySem.F.called_list (PySem.F.typeCall_list_1 _) PySem.F.entry_list_init (code_list_new _ ⟨rfl,rfl⟩) fun ob s₁ e=>?_;obtain⟨rfl,rfl⟩:=e;have gS:(s.heap.push (JlQ #[] 0)).get? s.heap.objs.size=some (JlQ #[] 0):=Aw _ rfl;refine⟨⟨_,gS,rfl⟩,PySem.F.args_list_init_2 _ _,?_⟩;show AV _ _ (do let old <- Am.List.listItems (.ref s.heap.objs.size);Am.List.listUpdate (.ref s.heap.objs.size) (fun _=>#[]);letGo old.toList.reverse;Am.List.listExtendWith (.ref s.heap.objs.size) (.ref r) .none) _ _ _;refine A0 ?_;unfold Am.List.listItems;refine A0 (Ck gS rfl (A8 ?_));refine A0 (G4 gS rfl ?_);have gS2:=C9 (DH (fun _=>(#[]:Array A3))) gS rfl;have oth:∀b o,b≠s.heap.objs.size->(s.heap.push (JlQ #[] 0)).get? b=some o->((s.heap.push (JlQ #[] 0)).update s.heap.objs.size (DH (fun _=>(#[]:Array A3)))).get? b=some o:=fun b o hb z=>(Dq _ _ (EK hb)).trans z;refine A0 (Kg ?_);refine Src.extend (A:=A.in1) K hh (K.stay _ _ ok fun o z=>oth r o (Ar lr) (A4 _ z)) s.heap.objs.size (Ce lr) .none _ gS2 fun h' tk d acc c' k g p=>?_;exact⟨rfl,q h' tk d acc c' (fun b o z=>k b o (Ar (AZ z)) (oth b o (Ar (AZ z)) (A4 _ z))) g p⟩
theorem JoG{Q:Bool->A9->Prop}{a:Addr}(hT:s.TypeIs (.ref a) "set")(q:Q false s):AV (Af prog w) A (Am.List.listLengthHint (.ref a)) Q E s:=by
 unfold Am.List.listLengthHint;refine A0 (wpAny_specialOf hT PySem.F.slot_set_len.lookup ?_);generalize hid:("set.__len__" : String)=id0
 wp_delta
 rw[show splitId id0=some ("set", "__len__") from by subst hid;decide +kernel];subst hid;refine A0 (Dh (T:="set") (b:=true) hT (by rw[Gu];kernel_rfl) ?_);refine G5 (fun z=>absurd z (by decide)) (fun _=>?_);refine G5 (fun _=>?_) (fun z=>absurd (by decide +kernel) z);exact A0 (HD hT (A8 q))
theorem JqT{a:Addr}{ns:List Int}(hz:ns.length<=AK):Src prog w "set" a (fun vs=>∃ms,Bt vs ms/\ms.Perm ns) (fun h=>JlP prog w h a (!byT w) ns) where
 ty:=fun s G=>let ⟨_,_,_,_,g,_⟩:=G.ex;⟨_,g,rfl⟩
 lt:=fun h G=>let ⟨_,_,_,_,g,_⟩:=G.ex;AZ g
 stay:=fun h h' G k=>G.at k
 nl:=by decide
 nt:=by decide
 hint:=fun A E s Q G q=>by
  obtain⟨es,ep,t,ms,g,_⟩:=G.ex;exact JoG ⟨_,g,rfl⟩ (q false s.toks (A6 _))
 iter:=fun A E s Q hh G q=>by
  obtain⟨es,ep,t,ms,g,en,pm,ft,tb⟩:=G.ex;have e1:es.size=ns.length:=en.size.trans pm.length_eq;refine Joz hh g ft tb (by omega) fun h' d I fp ord St k lI hf _ po W st=>?_;refine q h' d I fp ord.length _ St k lI hf (by rw[po.length_eq,A2,Bo];omega) (fun vs hl hv=>?_) W st
  have e2:vs=ord:=List.ext_getElem? fun i=>by
   by_cases c:i<vs.length
   .have:=hv i vs[i] (A1 c);rw[this,A1 c]
   .rw[C8 (by omega),C8 (by omega)]
  subst e2;obtain⟨ks,hk,pk⟩:=Jjs po.symm en.ia;exact⟨ks,hk,pk.symm.trans pm⟩
theorem JnW{r:Addr}{lo hi:Int}{t u v:Tok}(hz:(hi-lo).toNat<=2^24):Src prog w "range" r (fun vs=>Bt vs ((AT (hi-lo).toNat).map fun(j:Nat)=>lo+(j:Int))) (fun h=>MV h r lo hi 1 t u v) where
 ty:=fun s G=>⟨_,G,rfl⟩
 lt:=fun h G=>AZ G
 stay:=fun h h' G k=>k _ G
 nl:=by decide
 nt:=by decide
 hint:=fun A E s Q G q=>by
  have e:Am.Range.rangeSize lo hi 1=((hi-lo).toNat:Nat):=by
   rw[FW];split<;>omega
  exact wpAny_hint_range (n:=(hi-lo).toNat) G e hz (q _ _ (by omega))
 iter:=fun A E s Q hh G q=>by
  have e:Am.Range.rangeSize lo hi 1=((hi-lo).toNat:Nat):=by
   rw[FW];split<;>omega
  have hP:∀vs:List A3,vs.length=(hi-lo).toNat->(∀(j:Nat)(x:A3),vs[j]?=some x->∃t,x=.int (lo+j*1) t)->Bt vs ((AT (hi-lo).toNat).map fun(j:Nat)=>lo+(j:Int)):=by
   intro vs hl hv
   have gen:∀(vs:List A3)(f:Nat->Int),(∀(j:Nat)(x:A3),vs[j]?=some x->∃t,x=.int (f j) t)->Bt vs ((AT vs.length).map f):=by
    intro vs
    induction vs with
    | nil=>intro f _;exact .nil
    | cons x l ih=>
     intro f h;obtain⟨t,rfl⟩:=h 0 x rfl;rw[AN,FP,Al,B2];exact .cons _ t (ih (fun j=>f (j+1)) fun j y hy=>h (j+1) y (by simpa using hy))
   have:=gen vs (fun j=>lo+(j:Int)) fun j x hx=>by
    obtain⟨t,e⟩:=hv j x hx;exact⟨t,by rw[e,Kl]⟩
   rw[hl]at this;exact this
  have hn:(hi-lo).toNat<=AK:=by rw[Bu];omega
  cases hsm:Am.Range.small lo hi 1 with
  | true=>
   refine Et G hsm ?_;refine q _ s.drawn s.heap.objs.size [s.heap.objs.size] (hi-lo).toNat _ _ (fun b o z=>A4 _ z) (A6 _) (fun b hb=>.inr (by rw[A5.mp hb];exact A6 _)) hn hP (G8.range hh _ lo 1 _) ?_;show GF _ _ _ _ _;rw[e];simpa using Aw _ rfl
  | false=>
   refine Fu G hsm ?_;refine q _ s.drawn s.heap.objs.size [s.heap.objs.size] (hi-lo).toNat _ _ (fun b o z=>A4 _ z) (A6 _) (fun b hb=>.inr (by rw[A5.mp hb];exact A6 _)) hn hP (G8.longrange hh _ lo 1 _) ?_;show M4 _ _ _ _ _;rw[e];simpa using Aw _ rfl
end
section
variable {X:Cx}
theorem Inv.draw{pins:PL}{σ:St}{H:Hp}{s:A9}(I:Inv X pins σ H s)(d:Kn):Inv X pins σ H { s with drawn:=d }:=⟨I.ok,I.os,I.bare,I.base,I.loc,I.cell,I.free,I.freeC,I.pin,I.hok,I.len⟩
theorem Jee:∀{us:List A3}{ns:List Int},Bt us ns->Y2 (ns.map V.int) us
 | _,_,.nil=>.nil
 | _,_,.cons n t r=>.cons ⟨t,rfl⟩ (Jee r)
def JrA(P:Ab)(w:At)(a:Addr)(ms:List Int):HO:=.ext fun h=>JlP P w h a (!byT w) ms
theorem JoQ{P:Ab}{w:At}{H:Hp}{h:Heap}{a:Addr}{ms:List Int}(G:JlP P w h a (!byT w) ms):J4 P w H h a (JrA P w a ms):=
 ⟨G,let ⟨_,_,_,_,g,_⟩:=G.ex;⟨_,g⟩,fun _ _ G1 k=>G1.at k⟩
def Jr0(P:Ab)(w:At)(a:Addr)(ms:List Int)(o:HO):Prop:=o=JrA P w a ms
theorem JbR(val:Nat->Int):∀i,(GA val i).Nodup
 | 0=>BZ
 | i+1=>by
  rw[firstMet_succ];unfold Eu;split
  .exact JbR val i
  .rename_i h;refine CK.mpr ⟨JbR val i,by simp,fun a ha b hb=>?_⟩;rw[A5.mp hb];rintro rfl;exact h (B9.mpr ⟨_,ha,by simp⟩)
theorem Jg7(ns:List Int):(AT ns.length).map (fun i=>ns.getD i 0)=ns:=by
 refine Do (by simp) fun i h1 h2=>?_;simp[h2]
theorem Jja(ns:List Int)(k:Int):k∈GA (fun i=>ns.getD i 0) ns.length↔k∈ns:=by
 have:=firstMet_any (fun i=>ns.getD i 0) ns.length k;rw[Jg7]at this
 have e:∀l:List Int,(l.any (·==k)=true)↔k∈l:=fun l=>by simp
 rw[<- e,<- e,this]
theorem Jmt(hc:X.calm=true):Jbg X (.type "set") (fun xs H Q=>∃(p:Addr)(ns:List Int),xs=[.ref p]/\SqL X.K H p (ns.map V.int)/\ns.length+1<GM/\
  ∀(l:Addr)(ms:List Int)(o:HO),H l=none->Jr0 X.prog X.w l ms o->ms.Nodup->(∀k,k∈ms↔k∈ns)->Q (.ref l) (upd H l o)):=by
 intro pins s σ H xs us Q I r h;obtain⟨p,ns,rfl,hq,hl,q⟩:=h;obtain⟨u,rfl,ru⟩:=Jcq r;cases ru;obtain⟨its,rv,pl,hz⟩:=I.list hq;have hi:=Jc7 rv
 have hlen:its.toArray.size=ns.length:=by rw[AX];exact Bt.length hi
 refine JmY (ns:=ns) (I.ok.hd hc) pl.isList (by simpa using hi) (by omega) fun h' tk G k=>?_;rw[hlen]at G;refine⟨.ref s.heap.objs.size,_,I.laid (t':=tk) (fun b o e=>k b o (AZ e) e) (A6 _) (JoQ G),rfl,q _ _ _ (I.hok.fresh (A6 _)) rfl (JbR _ _) (Jja ns)⟩
theorem Jjt(hc:X.calm=true):Jbg X (.builtin "sorted") (fun xs H Q=>∃(p:Addr)(ms:List Int)(o:HO),xs=[.ref p]/\H p=some o/\Jr0 X.prog X.w p ms o/\ms.length<64/\
  ∀(l:Addr)(rs:List Int),H l=none->rs.Perm ms->rs.Pairwise (·<=·)->Q (.ref l) (upd H l (.lst (rs.map V.int)))):=by
 intro pins s σ H xs us Q I r h;obtain⟨p,ms,o,rfl,hp,rfl,hl,q⟩:=h;obtain⟨u,rfl,ru⟩:=Jcq r;cases ru;have G:JlP X.prog X.w s.heap p (!byT X.w) ms:=(I.hok p _ hp).1;refine Src.sorted (JqT (by rw[Bu];omega)) (I.ok.hd hc) G ms (fun vs z=>z) hl fun h' tk d D out c rs k lD gD ia pm so=>?_;refine⟨.ref D,_,(I.laid (t':=tk) k lD (show J4 X.prog X.w _ h' D (.lst (rs.map V.int)) from⟨?_,out.toList,c,Jee ia,gD⟩)).draw d,rfl,q D rs (I.hok.fresh lD) pm so⟩;rw[A2,pm.length_eq,Bu];omega
theorem Jn2:∀{ss:List Str}{us:List A3},Y2 (ss.map V.str) us->HP us ss
 | [],_,.nil=>.nil
 | x::r,_,.cons a t=>by
  obtain⟨tk,e⟩:=a;subst e;exact .cons x tk (Jn2 t)
theorem Jf1:∀{us:List A3}{ss:List Str},HP us ss->Y2 (ss.map V.str) us
 | _,_,.nil=>.nil
 | _,_,.cons n t r=>.cons ⟨t,rfl⟩ (Jf1 r)
theorem JiL:Jbg X (.builtin "sorted") (fun xs H Q=>∃(p:Addr)(ss:List Str),xs=[.ref p]/\SqL X.K H p (ss.map V.str)/\ss.length<64/\
  ∀(l:Addr)(rs:List Str),H l=none->rs.Perm ss->FC rs=true->Q (.ref l) (upd H l (.lst (rs.map V.str)))):=by
 intro pins s σ H xs us Q I r h;obtain⟨p,ss,rfl,hq,hl,q⟩:=h;obtain⟨u,rfl,ru⟩:=Jcq r;cases ru;obtain⟨its,rv,pl,hz⟩:=I.list hq;have hlen:=rv.length;rw[A2]at hlen;refine sorted_strs pl.isList (Jn2 rv) (by omega) fun out rs ia pm so=>?_;obtain⟨e,he⟩:=sortedAll_at s.heap its out;have ld:s.heap.objs.size<=s.heap.objs.size+1:=D4 _;refine⟨.ref (s.heap.objs.size+1),_,I.laid (t':=s.toks) (fun b o z=>sortedAll_old z) ld (show J4 X.prog X.w _ _ _ (.lst (rs.map V.str)) from⟨?_,out.toList,e,Jf1 ia,he⟩),rfl,q _ rs (I.hok.fresh ld) pm so⟩;rw[A2,pm.length_eq,Bu];omega
theorem Jfw:Jbg X (.type "range") (fun xs H Q=>∃i j:Int,xs=[.int i,.int j]/\∀p,H p=none->Q (.ref p) (upd H p (.rng i j))):=by
 intro pins s σ H xs us Q I r h;obtain⟨i,j,rfl,q⟩:=h;obtain⟨u,c,rfl,⟨t,rfl⟩,⟨t',rfl⟩⟩:=JjZ r;exact call_range_2 ⟨.ref s.heap.objs.size,_,I.laid (fun b o e=>A4 _ e) (A6 _) (show J4 X.prog X.w _ _ _ (.rng i j) from⟨_,_,_,Aw _ rfl⟩),rfl,q _ (I.hok.fresh (A6 _))⟩
def JcE(lo hi:Int):List Int:=(AT (hi-lo).toNat).map fun(j:Nat)=>lo+(j:Int)
theorem JgZ(hc:X.calm=true):Jbg X (.type "list") (fun xs H Q=>∃(p:Addr)(lo hi:Int),xs=[.ref p]/\H p=some (.rng lo hi)/\(hi-lo).toNat<=2^24/\∀l,H l=none->Q (.ref l) (upd H l (.lst ((JcE lo hi).map V.int)))):=by
 intro pins s σ H xs us Q I r h;obtain⟨p,lo,hi,rfl,hp,hz,q⟩:=h;obtain⟨u,rfl,ru⟩:=Jcq r;cases ru;obtain⟨t,u,v,g⟩:=(show J4 X.prog X.w H s.heap p (.rng lo hi) from I.hok p _ hp);refine Src.list (JnW (lo:=lo) (hi:=hi) hz) (I.ok.hd hc) g fun h' tk d acc c k gD ia=>?_;refine⟨.ref s.heap.objs.size,_,(I.laid (t':=tk) k (A6 _) (show J4 X.prog X.w _ h' _ (.lst ((JcE lo hi).map V.int)) from⟨?_,acc.toList,c,Jee ia,gD⟩)).draw d,rfl,q _ (I.hok.fresh (A6 _))⟩;rw[A2,JcE,A2,Cu,Bu];omega
theorem Jet:OpR X (C0 .Mult) (fun x y H Q=>∃z n,x=.str z/\y=.int n/\MulOk z n/\Q (.str (BN z n)) H):=by
 intro pins s σ H x y v u Q I rx ry h;obtain⟨z,n,rfl,rfl,ok,q⟩:=h;obtain⟨t,rfl⟩:=rx;obtain⟨t',rfl⟩:=ry;exact SB.mul ok fun t' k=>⟨.str _,H,I.tok k,⟨t',rfl⟩,q⟩
def Juc(K:WF):R2:=fun x y H Q=>∃(a b:Addr)(ms ns:List Int),x=.ref a/\y=.ref b/\SqL K H a (ms.map V.int)/\SqL K H b (ns.map V.int)/\Q (.bl (!decide (ms=ns))) H
theorem Jqv:∀{ms ns:List Int},ms.length=ns.length->((AT ms.length).all fun j=>ms.getD j 0==ns.getD j 0)=decide (ms=ns):=by
 intro ms ns hl;rw[Dk,Bi,decide_eq_true_eq];constructor
 .intro h;refine Do hl fun i h1 h2=>?_;have:=h i (De.mpr h1);simpa[h1,h2]using this
 .rintro rfl j _;simp
theorem JrZ(hu:X.A.units+1<DR):OpR X (Bs .NotEq) (Juc X.K):=by
 intro pins s σ H x y v u Q I rx ry h;obtain⟨a,b,ms,ns,rfl,rfl,ha,hb,q⟩:=h;cases rx;cases ry;obtain⟨its,rv,pl,_⟩:=I.list ha;obtain⟨its2,rv2,pl2,_⟩:=I.list hb;have i1:=Jc7 rv;have i2:=Jc7 rv2;have l1:=Bt.length i1;have l2:=Bt.length i2
 have hu':X.A.units<DR:=by omega
 by_cases c:ms.length=ns.length
 .refine DG.lists (e:=fun j=>ms.getD j 0==ns.getD j 0) pl.isList pl2.isList (by rw[AX,AX,l1,l2,c]) hu' (fun j h1 h2=>?_) X.prog X.w _ _ ⟨.bl _,H,I,rfl,?_⟩
  .obtain⟨t1,e1⟩:=DY i1 j its.toArray[j] (by simp);obtain⟨t2,e2⟩:=DY i2 j its2.toArray[j] (by simp);rw[e1,e2];exact AE.int_int _ _ _ _
  .rw[AX,l1,Jqv c];exact q
 .refine DG.lists_lengths pl.isList pl2.isList (by rw[AX,AX,l1,l2];simpa using c) hu' X.prog X.w _ _ ⟨.bl true,H,I,rfl,?_⟩
  have e:(!decide (ms=ns))=true:=by rw[decide_eq_false (fun z=>c (by rw[z]))];rfl
  rw[e]at q;exact q
def JrV(K:WF):R2:=fun x y H Q=>∃(a b:Addr)(xs:List V),x=.ref a/\y=.ref b/\SqL K H a xs/\SqL K H b []/\Q (.bl xs.isEmpty) H
theorem JmO(hu:X.A.units+1<DR):OpR X (Bs .Eq) (JrV X.K):=by
 intro pins s σ H x y v u Q I rx ry h;obtain⟨a,b,xs,rfl,rfl,ha,hb,q⟩:=h;cases rx;cases ry;obtain⟨its,rv,pl,_⟩:=I.list ha;obtain⟨its2,rv2,pl2,_⟩:=I.list hb
 obtain rfl:its2=[]:=by
  cases rv2;rfl
 have hu':X.A.units<DR:=by omega
 have hlen:=rv.length
 cases xs with
 | nil=>
  obtain rfl:its=[]:=by
   cases rv;rfl
  exact EW.lists (e:=fun _=>true) pl.isList pl2.isList rfl hu' (fun j h1 _=>by simp at h1) X.prog X.w _ _ ⟨.bl true,H,I,rfl,q⟩
 | cons x r=>
  refine EQ pl.isList pl2.isList ?_ hu' X.prog X.w _ _ ⟨.bl false,H,I,rfl,q⟩;rw[show its.toArray.size=(x::r).length by rw[AX,<- hlen]];rfl
end
theorem Jmo{P:Ab}{w:At}{K:WF}{tg:Expr}(it:Addr)(lo:Int)(n:Nat):Jor P w K tg (Itr lo n) [it] it (fun i h=>M4 h it (lo+(i:Nat)*1) ((n:Int)-(i:Nat)) 1) where
 mem:=by simp
 obj:=fun i h st b hb=>by
  obtain rfl:b=it:=by simpa using hb
  exact⟨_,st,fun v z=>by
   have z':Data.fields _=Data.cell v:=z
   cases z'⟩
 keep:=fun i h h' st k=>k it (by simp) _ st
 item:=by
  intro X hP hw hK hc i pins s σ H E I hf st hg;subst hP hw hK;obtain⟨f0,f1,f2,f3,f4,f5⟩:=hf it (by simp);refine(G8.longrange (prog:=X.prog) (w:=X.w) (I.ok.hd hc) it lo 1 n).item i s _ _ hg st fun v h' tk hv st' kk=>?_;obtain⟨t,rfl⟩:=hv;have J:Inv X pins σ H { s with heap:=h',toks:=tk }:=I.turned (fun b o hb e=>kk b o (by simpa using hb) e) f0 f1 f3 f4 f5;refine⟨_,rfl,Jlr (s:={ s with heap:=h',toks:=tk }) (n:="longrange_iterator") st' rfl rfl (by decide) ⟨.int (lo+i),H,J,⟨t,?_⟩,⟨rfl,rfl⟩,st',fun b hb=>(hf b hb).1⟩⟩;rw[Kl]
 done:=by
  intro X hP hw hK hc i pins s σ H E I hf st hg;subst hP hw hK;obtain⟨f0,f1,f2,f3,f4,f5⟩:=hf it (by simp);exact wpAny_pyNext_long_end (I.ok.hd hc) st (by have:n<=i:=hg;omega) fun h' eb=>⟨rfl,I.turned (t':=s.toks) (fun b o hb e=>eb b o hb e) f0 f1 f3 f4 f5⟩
 self:=fun _ _ _ _ _ st h=>wpAny_pyIter_longiter st h
section
variable {X:Cx} {tg:Expr}
theorem Jnr{pins:PL}{σ:St}{H:Hp}{s:A9}{R:It->Hp->Prop}{E:VS}{lo hi:Int}{t u v:Tok}{tk:Nat}(I:Inv X pins σ H s)(q:R (Itr lo (hi-lo).toNat) H) :
  AV (Af X.prog X.w) X.A (Gp (.ref s.heap.objs.size)) (PIE X pins σ tg R) E { s with heap:=s.heap.push { cls:=.type "range",data:=.fields #[.int lo t,.int hi u,.int 1 v] },toks:=tk }:=by
 have I1:Inv X pins σ H { s with heap:=s.heap.push { cls:=.type "range",data:=.fields #[.int lo t,.int hi u,.int 1 v] },toks:=tk }:=I.kept fun b o e=>A4 _ e
 have e1:lo+((0:Nat):Int)*1=lo:=by simp
 have e2:(((hi-lo).toNat:Nat):Int)-((0:Nat):Int)=Am.Range.rangeSize lo hi 1:=by
  rw[FW];split<;>omega
 have ff:∀b∈[(s.heap.push { cls:=.type "range",data:=.fields #[.int lo t,.int hi u,.int 1 v] }).objs.size],Jl3 X pins H b:=fun b hb=>by
  rw[A5.mp hb];exact I1.fpOk (A6 _) (I1.hok.fresh (A6 _))
 cases hs:Am.Range.small lo hi 1 with
 | true=>
  refine Et (Ki ..) hs ⟨_,_,_,_,H,rfl,I1.kept (t':=tk) fun b o e=>A4 _ e,JgV _ lo (hi-lo).toNat,?_,ff,q⟩;show GF _ _ (lo+((0:Nat):Int)*1) ((((hi-lo).toNat:Nat):Int)-((0:Nat):Int)) 1;rw[e1,e2];exact Aw _ rfl
 | false=>
  refine Fu (Ki ..) hs ⟨_,_,_,_,H,rfl,I1.kept (t':=tk) fun b o e=>A4 _ e,Jmo _ lo (hi-lo).toNat,?_,ff,q⟩;show M4 _ _ (lo+((0:Nat):Int)*1) ((((hi-lo).toNat:Nat):Int)-((0:Nat):Int)) 1;rw[e1,e2];exact Aw _ rfl
def Jtd(ta:TA):TI:=fun σ H R=>ta σ H fun vs H1=>∃i j:Int,vs=[.int i,.int j]/\R (Itr i (j-i).toNat) H1
theorem Jic{a b:Expr}{ta:TA}{p pos:Pos}(hg:Gl X "range")(hm:X.mg "range" = none)(ha:PA X [a,b] ta)(hs:AR [a,b] X.env=[(false,eval a X.env),(false,eval b X.env)]:=by rfl)(hs2:AR [b] X.env=[(false,eval b X.env)]:=by rfl) :
  PI X tg (.Call (.Name "range" p) [a,b] [] pos) (Jtd ta):=by
 intro pins s σ H R I h;refine Call_ (JgL I hg hm boot_range (Cd (thn (ha pos pins s σ H _ I h) fun us s1 ⟨vs,H1,I1,r1,q1⟩ =>?_) (by rw[hs,hs2]) (by rw[hs2];rfl)));obtain⟨i,j,rfl,q⟩:=q1;obtain⟨u,c,rfl,⟨t,rfl⟩,⟨t',rfl⟩⟩:=JjZ r1;exact call_range_2 (Jnr I1 q)
end
end L2
namespace Wb
open PySem PySem.Spec PyProof.Rows L2
theorem Jd4:Bw "sorted" = some (.builtin "sorted"):=by decide +kernel
theorem Jsw:Bw "set" = some (.type "set"):=by decide +kernel
theorem Jkl:Bw "range" = some (.type "range"):=by decide +kernel
noncomputable def Yc(w:Int):Option Int->List Int->Option Int
 | b,[]=>b
 | none,p::r=>Yc w (if p<=w then some p else none) r
 | some c,p::r=>Yc w (if p<=w/\c<p then some p else some c) r
section
variable {α:Type}
noncomputable def Y7(ts:List (Int×α))(k:Int)(x:α):List (Int×α):=
 if(ts.any fun p=>decide (p.1=k))=true then ts.map (fun p=>if p.1=k then(p.1,x)else p)else ts++[(k,x)]
def Yl(ts:List (Int×α))(k:Int):Option α:=(ts.find? fun p=>decide (p.1=k)).map (·.2)
def Jdm(ts:List (Int×α))(w:Int):Option α:=(Yc w none (ts.map (·.1))).bind (Yl ts)
end
abbrev Tab:=List Bd×Int×Int
inductive JU where
 | hours (who:Str) (day many:Int)
 | rate (week:Int) (bs:List Bd)
 | dues (month:Int) (t:Tab)
 | payday (who:Str) (week:Int)
 | pay (who:Str) (week:Int)
 | net (who:Str) (week:Int)
 | right (who:Str) (week:Int)
 | owing (who:Str) (week:Int)
 | paid (who:Str)
def oD:Option Int->Dt
 | none=>.non
 | some i=>.int i
def Jb4(bs:List Bd):Dt:=.tup (bs.map fun b=>.tup [oD b.1,.int b.2])
def JtA(t:Tab):Dt:=.tup [Jb4 t.1,.int t.2.1,.int t.2.2]
noncomputable def YR:JU->Dt
 | .hours who day many=>.tup [.str "hours",.str who,.int day,.int many]
 | .rate week bs=>.tup [.str "rate",.int week,Jb4 bs]
 | .dues month t=>.tup [.str "dues",.int month,JtA t]
 | .payday who week=>.tup [.str "payday",.str who,.int week]
 | .pay who week=>.tup [.str "pay",.str who,.int week]
 | .net who week=>.tup [.str "net",.str who,.int week]
 | .right who week=>.tup [.str "right",.str who,.int week]
 | .owing who week=>.tup [.str "owing",.str who,.int week]
 | .paid who=>.tup [.str "paid",.str who]
noncomputable def wfb:Int->List Bd->Bool
 | _,[]=>false
 | _,(none,_)::r=>r.isEmpty
 | lo,(some u,_)::r=>decide (lo<u)&&wfb u r
theorem Jon:∀{bs:List Bd}{lo:Int},wfb lo bs=true↔Wf lo bs
 | [],lo=>⟨(fun h=>nomatch h),(fun h=>h.elim)⟩
 | (none,e)::r,lo=>by
  show r.isEmpty=true↔r=[];exact Kc
 | (some u,e)::r,lo=>by
  show(decide (lo<u)&&wfb u r)=true↔lo<u/\Wf u r;rw[As,decide_eq_true_eq,Jon]
noncomputable def JaX(m:Option Int)(bs:List Bd):Bool:=wfb 0 bs&&bs.all fun b=>decide (0<=b.2)&&(match m with|none=>true|some k=>decide (b.2<=k))
def Jcx(t:Tab):Bool:=JaX (some 100) t.1&&decide (0<=t.2.1)&&decide (1<=t.2.2)
structure Bk where
 hrs:Str->Int->Int
 rates:List (Int×List Bd)
 dues:List (Int×Tab)
 paid:Str->Int
 last:Str->Option Int
 nets:Str->Int->Int
def Bk.new:Bk:=⟨fun _ _=>0,[],[],fun _=>0,fun _=>none,fun _ _=>0⟩
def Jht(h:Int->Int)(week:Int):Int:=((AT 7).map fun j:Nat=>h (7*week+j)).sum
noncomputable def wages(B:Bk)(who:Str)(week:Int):Int:=match Jdm B.rates week with
 | none=>0
 | some bs=>lv (Jht (B.hrs who) week) 0 bs
noncomputable def monthP(B:Bk)(who:Str)(month last:Int):Int:=((AT 4).map fun j:Nat=>if 4*month+(j:Int)<=last then wages B who (4*month+j)else 0).sum
def Jd6(pay:Int):Option Tab->Int
 | none=>pay
 | some t=>pay-due pay t.1 t.2.1 t.2.2
noncomputable def netS(B:Bk)(who:Str)(month last:Int):Int:=Jd6 (monthP B who month last) (Jdm B.dues month)
noncomputable def rightS(ms:List Int)(B:Bk)(who:Str)(last:Int):Int:=(ms.map fun m=>netS B who m last).sum
noncomputable def JiR(ms:List Int)(B:Bk)(who:Str)(last:Int):II:=(ms.map fun m=>(m,netS B who m last-B.nets who m)).filter fun p=>decide (p.2≠0)
def JrU(f:Str->Int)(who:Str)(x:Int):Str->Int:=fun y=>if y=who then x else f y
noncomputable def Jcl(B:Bk)(who:Str)(week:Int):Bool:=match B.last who with
 | none=>false
 | some l=>decide (week<l)
noncomputable def step(ms:List Int)(B:Bk):JU->Dt×Bk
 | .hours who day many=>
  if 0<=many/\many<=24 then
   let B':={ B with hrs:=fun y d=>if y=who/\d=day then many else B.hrs y d }
   (.int (wages B' who (day/7)),B')
  else(.str "no hours",B)
 | .rate week bs=>if JaX none bs=true then(.str "told",{ B with rates:=Y7 B.rates week bs })else(.str "no table",B)
 | .dues month t=>if Jcx t=true then(.str "told",{ B with dues:=Y7 B.dues month t })else(.str "no table",B)
 | .payday who week=>
  if Jcl B who week=true then(.str "too early",B)
  else
   let left:=rightS ms B who week-B.paid who
   (.tup [.int (mx 0 left),.int (mn 0 left),.lst ((JiR ms B who week).map fun p=>.tup [.int p.1,.int p.2])],
    { B with paid:=JrU B.paid who (B.paid who+mx 0 left),last:=fun y=>if y=who then some week else B.last y,nets:=fun y m=>if y=who then netS B who m week else B.nets y m })
 | .pay who week=>(.int (wages B who week),B)
 | .net who week=>(.int (netS B who (week/4) week),B)
 | .right who week=>(.int (rightS ms B who week),B)
 | .owing who week=>(.int (rightS ms B who week-B.paid who),B)
 | .paid who=>(.int (B.paid who),B)
structure Jbd(bs:List Bd):Prop where
 len:bs.length<=14
 each:∀b∈bs,b.2.natAbs<10^62
structure Jrr(t:Tab):Prop where
 bands:Jbd t.1
 per:t.2.2.natAbs<10^62
structure JrN(B:Bk):Prop where
 hrs:∀who d,0<=B.hrs who d/\B.hrs who d<=24
 rates:∀p∈B.rates,JaX none p.2=true/\Jbd p.2
 dues:∀p∈B.dues,Jcx p.2=true/\Jrr p.2
structure Jtk(H:Hp)(n:Int)(a:Addr)(bs:List Bd):Prop where
 at_:JG H a bs
 wf:Wf 0 bs
 len:bs.length<=1000
 each:∀b∈bs,0<=b.2/\b.2<10^62
 n0:0<=n
 n1:n<10^102
structure Jt6(H:Hp)(t:Addr)(pay:Int)(bs:List Bd)(top per:Int):Prop where
 ex:∃a,H t=some (.tup [.ref a,.int top,.int per])/\Jtk H pay a bs
 p0:0<per
 p1:per<10^102
def Jbv(ns:List Int):Int:=(ns.take 1).sum
def Yh(ns:List Int):Int:=if Jbv ns/105%3=2 then 7 else 1
noncomputable def JD(ns:List Int):Int:=if Jbv ns/21%5=2 then 1000 else if Jbv ns/21%5=3 then -10^9 else if Jbv ns/21%5=4 then Jbv ns%10^40 else 0
noncomputable def JJ(ns:List Int):List Str:=if Jbv ns/7%3=0 then["ann", "", "bo"]else if Jbv ns/7%3=1 then["ann", "ann lee", "Ann ~"]else
 ["ann",BN "x" 40,BN "x" (Jbv ns/21%40)++"y"++BN "x" (39-Jbv ns/21%40)]
theorem Jov{H:Hp}{α:Type}{f:α->Dt}:∀{l:List α}{vs:List V},vs.length=l.length->(∀(i:Nat) v x,vs[i]?=some v->l[i]?=some x->Rep H (f x) v)->Yv H (l.map f) vs:=fun{l vs} hl h=>
 Yv.of (by rw[A2];exact hl) fun i v d e1 e2=>by
  rw[Ax]at e2;obtain⟨x,hx,rfl⟩:=Ak.mp e2;exact h i v x e1 hx
theorem JpV{H:Hp}{o:Option Int}{v:V}:Rep H (oD o) v↔v=oV o:=by cases o<;>exact KA
theorem Jy{H:Hp}{a:Addr}{bs:List Bd}:JG H a bs↔Rep H (Jb4 bs) (.ref a):=by
 constructor
 .rintro⟨ps,h1,h2,h3⟩;refine⟨a,_,rfl,h1,Jov (by rw[A2];exact h2) fun i v x e1 e2=>?_⟩;rw[Ax]at e1;obtain⟨p,hp,rfl⟩:=Ak.mp e1;exact⟨p,_,rfl,h3 i p x hp e2,_,_,rfl,JpV.mpr rfl,_,_,rfl,rfl,rfl⟩
 .rintro⟨a',vs,e,h1,r⟩;cases e
  have hl:vs.length=bs.length:=by rw[r.length,A2]
  have key:∀(i:Nat) v b,vs[i]?=some v->bs[i]?=some b->∃p,v=.ref p/\H p=some (.tup [oV b.1,.int b.2]):=fun i v b e1 e2=>by
   obtain⟨p,ws,e,hp,u,t,rfl,hu,u2,t2,rfl,hu2,ht⟩:=r.get i v _ e1 (by rw[Ax,e2];rfl);have ht:t2=[]:=ht;have hu2:u2=.int b.2:=hu2;subst ht hu2;rw[JpV.mp hu]at hp;exact⟨p,e,hp⟩
  refine⟨vs.map fun v=>match v with|.ref p=>p|_=>0,?_,by rw[A2];exact hl,fun i p b e1 e2=>?_⟩
  .rw[h1,B2];congr 2;refine Do (by simp) fun i g1 g2=>?_;obtain⟨p,e,_⟩:=key i vs[i] (bs[i]'(by omega)) (A1 g1) (A1 _);rw[List.getElem_map,e];rfl
  .rw[Ax]at e1;obtain⟨v,hv,rfl⟩:=Ak.mp e1;obtain⟨p,e,hp⟩:=key i v b hv e2;subst e;exact hp
structure LSt where
 (hours rates dues paid weeks nets months:Addr)
 out:Addr->Prop
structure Jo5(H:Hp)(st:Addr)(A:LSt)(b:Int)(ms:List Int):Prop where
 kvs:∃kvs:List (Key×V),H st=some (.dK kvs)/\Jak kvs (Av "hours")=some (.ref A.hours)/\Jak kvs (Av "rates")=some (.ref A.rates)/\Jak kvs (Av "dues")=some (.ref A.dues)/\
  Jak kvs (Av "paid")=some (.ref A.paid)/\Jak kvs (Av "weeks")=some (.ref A.weeks)/\Jak kvs (Av "nets")=some (.ref A.nets)/\Jak kvs (Av "base")=some (.int b)/\Jak kvs (Av "months")=some (.ref A.months)
 months:H A.months=some (.lst (ms.map V.int))
def Jam{α:Type}(R:α->V->Prop)(H:Hp)(d:Addr)(ts:List (Int×α)):Prop:=
 ∃kvs:List (Key×V),H d=some (.dK kvs)/\BV (fun(p:Key×V)(q:Int×α)=>p.1=Aj q.1/\R q.2 p.2) kvs ts
def YT(H:Hp)(bs:List Bd)(v:V):Prop:=∃a,v=.ref a/\JG H a bs
def JbG(H:Hp)(t:Tab)(v:V):Prop:=∃a b,v=.ref a/\H a=some (.tup [.ref b,.int t.2.1,.int t.2.2])/\JG H b t.1
structure JpN(H:Hp)(A:LSt)(ms:List Int)(B:Bk):Prop where
 hours:∃kvs:List (List Key×V),H A.hours=some (.dT kvs)/\(∀who day,(Jak kvs [Av who,Aj day]).getD (.int 0)=.int (B.hrs who day))/\∀p∈kvs,∃who day n,p=([Av who,Aj day],V.int n)
 rates:Jam (YT H) H A.rates B.rates
 dues:Jam (JbG H) H A.dues B.dues
 paid:∃kvs:List (Key×V),H A.paid=some (.dK kvs)/\∀who,(Jak kvs (Av who)).getD (.int 0)=.int (B.paid who)
 weeks:∃kvs:List (Key×V),H A.weeks=some (.dK kvs)/\∀who,Jak kvs (Av who)=(B.last who).map V.int
 nets:∃kvs:List (Key×V),H A.nets=some (.dK kvs)/\∀who,(∃a,Jak kvs (Av who)=some (.ref a)/\H a=some (.lst (ms.map fun m=>.int (B.nets who m))))\/(Jak kvs (Av who)=none/\∀m∈ms,B.nets who m=0)
theorem JN{α β:Type}{F G:α->β->Prop}(f:∀a b,F a b->G a b):∀{l:List α}{m:List β},BV F l m->BV G l m
 | _,_,.nil=>.nil
 | _,_,.cons q t=>.cons (f _ _ q) (JN f t)
theorem Jo5.same{H H':Hp}{st:Addr}{A:LSt}{b:Int}{ms:List Int}(h:Jo5 H st A b ms)(s:JV H H'):Jo5 H' st A b ms:=by
 obtain⟨⟨kvs,e,r⟩,m⟩:=h;exact⟨⟨kvs,s _ _ e,r⟩,s _ _ m⟩
theorem JpN.same{H H':Hp}{A:LSt}{ms:List Int}{B:Bk}(h:JpN H A ms B)(s:JV H H'):JpN H' A ms B:=by
 obtain⟨⟨k1,e1,r1⟩,⟨k2,e2,r2⟩,⟨k3,e3,r3⟩,⟨k4,e4,r4⟩,⟨k5,e5,r5⟩,⟨k6,e6,r6⟩⟩:=h;have g2:∀(p:Key×V)(q:Int×List Bd),(p.1=Aj q.1/\YT H q.2 p.2)->(p.1=Aj q.1/\YT H' q.2 p.2):=fun p q ⟨z,a,e,b⟩ =>⟨z,a,e,b.same s⟩;have g3:∀(p:Key×V)(q:Int×Tab),(p.1=Aj q.1/\JbG H q.2 p.2)->(p.1=Aj q.1/\JbG H' q.2 p.2):=fun p q ⟨z,a,c,e,t,b⟩ =>⟨z,a,c,e,s _ _ t,b.same s⟩;refine⟨⟨k1,s _ _ e1,r1⟩,⟨k2,s _ _ e2,JN g2 r2⟩,⟨k3,s _ _ e3,JN g3 r3⟩,⟨k4,s _ _ e4,r4⟩,⟨k5,s _ _ e5,r5⟩,⟨k6,s _ _ e6,fun who=>?_⟩⟩
 rcases r6 who with⟨a,e,g⟩|z
 .exact .inl ⟨a,e,s _ _ g⟩
 .exact .inr z
theorem Jbx{α:Type}{R:α->V->Prop}:∀{kvs:List (Key×V)} {ts:List (Int×α)},BV (fun(p:Key×V)(q:Int×α)=>p.1=Aj q.1/\R q.2 p.2) kvs ts->kvs.map (·.1)=(ts.map (·.1)).map Aj
 | _,_,.nil=>rfl
 | _,_,.cons q t=>by rw[Al,Al,Al,Jbx t,q.1]
theorem Jef{α:Type}{R:α->V->Prop}:∀{kvs:List (Key×V)} {ts:List (Int×α)},BV (fun(p:Key×V)(q:Int×α)=>p.1=Aj q.1/\R q.2 p.2) kvs ts->∀{k:Int}{v:V},Jak kvs (Aj k)=some v->∃x,Yl ts k=some x/\R x v/\(k,x)∈ts
 | _,_,.nil,k,v,h=>by cases h
 | p::kvs,q::ts,.cons z t,k,v,h=>by
  obtain⟨z1,z2⟩:=z
  by_cases c:q.1=k
  .have e:p.1=(Aj k:Key):=by rw[z1,c]
   rw[YW e]at h;have h:=Ai h;refine⟨q.2,by simp[Yl,BD,c],by rw[<- h];exact z2,?_⟩;rw[<- c];exact Az
  .have e:¬p.1=(Aj k:Key):=by
    rw[z1];intro y;exact c (Aj.inj y)
   rw[YV e]at h;obtain⟨x,g,r,m⟩:=Jef t h;refine⟨x,?_,r,AY _ m⟩;simp only[Yl,BD,decide_eq_false c];exact g
theorem Jea{α:Type}{ts:List (Int×α)}{w:Int}(h:Yc w none (ts.map (·.1))=none):Jdm ts w=none:=by
 unfold Jdm;rw[h];rfl
theorem Jej{α:Type}{ts:List (Int×α)}{w k:Int}{x:α}(h:Yc w none (ts.map (·.1))=some k)(g:Yl ts k=some x):Jdm ts w=some x:=by
 unfold Jdm;rw[h];exact g
theorem Jrm(M:Int)(hM:0<=M):∀(bs:List Bd)(a f:Int),Wf f bs->(∀b∈bs,0<=b.2/\b.2<=M)->0<=lv a f bs/\lv a f bs<=M*mx 0 (a-f)
 | [],_,_,h,_=>h.elim
 | (none,e)::r,a,f,h,hb=>by
  have:r=[]:=h;subst this;obtain⟨b1,b2⟩:0<=e/\e<=M:=hb (none,e) Az
  have hm:0<=mx 0 (a-f):=by unfold mx;split<;>omega
  have q1:=GG hm b1;have q2:=CW b2 hm;simp only[lv];rw[FS M];omega
 | (some u,e)::r,a,f,h,hb=>by
  have hu:f<u:=h.1;obtain⟨b1,b2⟩:0<=e/\e<=M:=hb (some u,e) Az;obtain⟨c1,c2⟩:=Jrm M hM r a u h.2 fun b hx=>hb b (AY _ hx)
  have hm:0<=mn (mx 0 (a-f)) (u-f):=by unfold mn mx;split<;>split<;>omega
  have q1:=GG hm b1;have q2:=CW b2 hm
  have e1:mx 0 (a-f)=mn (mx 0 (a-f)) (u-f)+mx 0 (a-u):=by
   unfold mn mx;split<;>split<;>split<;>omega
  simp only[lv];rw[e1,Int.mul_add,FS M (mn _ _)]
  have e2:mn (mn (mx 0 (a-f)) (u-f)+mx 0 (a-u)) (u-f)=mn (mx 0 (a-f)) (u-f):=by rw[<- e1]
  rw[e2];omega
theorem JfW{h:Int->Int}(hh:∀d,0<=h d/\h d<=24)(w:Int):0<=Jht h w/\Jht h w<=168:=by
 unfold Jht;have g:=fun j:Nat=>hh (7*w+j);simp only[AT,AT.loop,Al,Dn,Cz,K5];have g0:=g 0;have g1:=g 1;have g2:=g 2;have g3:=g 3;have g4:=g 4;have g5:=g 5;have g6:=g 6;omega
theorem Jck{m:Option Int}{bs:List Bd}(h:JaX m bs=true):Wf 0 bs/\∀b∈bs,0<=b.2:=by
 unfold JaX at h;rw[As,Bi]at h;refine⟨Jon.mp h.1,fun b hb=>?_⟩;have:=h.2 b hb;rw[As]at this;exact of_decide_eq_true this.1
theorem Jjd:∀{bs:List Bd}{lo:Int}{us:List Int},bs.map (·.1)=us.map some++[none]->(wfb lo bs=true↔(lo::us).Pairwise (·<·))
 | [],lo,us,h=>by
  have:=congrArg Bn h;simp at this
 | (none,e)::r,lo,us,h=>by
  cases us with
  | nil=>
   have h:none::r.map (·.1)=[none]:=h;have:r=[]:=List.map_eq_nil_iff.mp (FJ h).2;subst this;exact⟨fun _=>DU _ _,fun _=>rfl⟩
  | cons u us=>
   have h:none::r.map (·.1)=some u::(us.map some++[none]):=h;cases(FJ h).1
 | (some v,e)::r,lo,us,h=>by
  cases us with
  | nil=>
   have h:some v::r.map (·.1)=[none]:=h;cases(FJ h).1
  | cons u us=>
   have h:some v::r.map (·.1)=some u::(us.map some++[none]):=h;obtain⟨h1,h2⟩:=FJ h;have h1:=Ai h1;subst h1;show(decide (lo<v)&&wfb v r)=true↔_;rw[As,decide_eq_true_eq,Jjd (lo:=v) h2];constructor
   .rintro⟨a,b⟩;refine BA.mpr ⟨fun y hy=>?_,b⟩
    rcases Aq.mp hy with rfl|hy
    .exact a
    .exact Int.lt_trans a ((BA.mp b).1 y hy)
   .intro b;exact⟨(BA.mp b).1 v Az,(BA.mp b).2⟩
theorem JhA:∀{bs:List Bd}{lo:Int},wfb lo bs=true->∃us:List Int,bs.map (·.1)=us.map some++[none]
 | (none,e)::r,lo,h=>by
  have:r=[]:=Kc.mp h;subst this;exact⟨[],rfl⟩
 | (some v,e)::r,lo,h=>by
  have h:(decide (lo<v)&&wfb v r)=true:=h;rw[As]at h;obtain⟨us,e⟩:=JhA h.2;exact⟨v::us,by rw[Al,e];rfl⟩
theorem JjP{us ms rs:List Int}(pm:rs.Perm ms)(nd:ms.Nodup)(hm:∀k,k∈ms↔k∈us)(so:rs.Pairwise (·<=·)):us=rs↔us.Pairwise (·<·):=by
 have ndr:rs.Nodup:=pm.nodup_iff.mpr nd
 have up:rs.Pairwise (·<·):=by
  have:rs.Pairwise (fun a b=>a<=b/\a≠b):=Ch.and so ndr
  exact this.imp fun⟨a,b⟩ =>by omega
 constructor
 .rintro rfl;exact up
 .intro h
  have ndu:us.Nodup:=h.imp fun z=>by omega
  have p:us.Perm rs:=(Dd ndu ndr).mpr fun k=>by rw[pm.mem_iff,hm]
  exact p.eq_of_pairwise (le:=fun a b=>a<b) (fun a b _ _ h1 h2=>by omega) h up
theorem JnU{us:List Int}:(0::us).Pairwise (·<·)↔us.Pairwise (·<·)/\∀u∈us[0]?,1<=u:=by
 rw[BA];constructor
 .rintro⟨a,b⟩;refine⟨b,fun u hu=>?_⟩;have:=a u (Au hu);omega
 .rintro⟨a,b⟩;refine⟨fun y hy=>?_,a⟩
  cases us with
  | nil=>cases hy
  | cons u r=>
   have h1:1<=u:=b u rfl
   rcases Aq.mp hy with rfl|hy
   .omega
   .have:=(BA.mp a).1 y hy;omega
end Wb
namespace L2
open PySem PySem.Spec PyProof.Rows
structure Fly(P:Ab)(w:At)(l:List Env)(H:Hp)(s:A9)(a:Addr)(cls:A3)(H1:Hp)(B:Heap)(a0:A3)(s':A9):Prop where
 os:s'.os=s.os
 bare:Ep s'.gens
 un:Un (frs l) [] H H1 s.heap s'.heap
 hok:HOk P w H1 s'.heap
 fly:Heap.FlyingW B l a cls a0 s'.heap
 all:∀b o o',s.heap.get? b=some o->b∉frs l->s'.heap.get? b=some o'->B.get? b=some o'
 trk:∀b u o,H1 b=some u->s'.heap.get? b=some o->B.get? b=some o
noncomputable def CXr(P:Ab)(w:At):CXT:=fun l H s E e s'=>∃(a:Addr)(cls:A3)(H1:Hp)(B:Heap)(a0:A3),e=.ref a/\E cls none H1/\Fly P w l H s a cls H1 B a0 s'
section
variable {P:Ab} {w:At} {l:List Env} {H H1:Hp} {s s':A9} {a:Addr} {cls a0:A3} {B:Heap} {h2:Heap}
theorem Fly.on(F:Fly P w l H s a cls H1 B a0 s')(st:B.StaysIn h2)(up:s'.heap.UpToSlots h2):Un (frs l) [] H H1 s.heap h2/\HOk P w H1 h2:=by
 have fr:∀b,b∈frs l->∃o,s'.heap.get? b=some o/\∀vs,o.data≠.fields vs:=fun b hb=>(F.fly.2.2.1.mem hb).2;refine⟨⟨fun b o e n hb hx=>st b o (F.all b o o e hb (F.un.keep b o e n hb hx)),fun b o e n hb hx=>?_,F.un.free,fun b o e hx=>?_,F.un.tups,F.un.frzs,F.un.tbls⟩,fun b u e=>?_⟩
 .obtain⟨sl,e1⟩:=F.un.slot b o e n hb hx;obtain⟨o',e2,d⟩:=fr b hb;rw[e1]at e2;cases e2;obtain⟨sl',e3⟩:=up b _ e1 d;exact⟨sl',e3⟩
 .obtain⟨o',e1⟩:=F.un.there b o e hx
  by_cases hb:b∈frs l
  .obtain⟨o2,e2,d⟩:=fr b hb;obtain⟨sl',e3⟩:=up b _ e2 d;exact⟨_,e3⟩
  .exact⟨o',st b o' (F.all b o o' e hb e1)⟩
 .exact(F.hok b u e).stay (fun c v hc q=>by
   rcases hc with rfl|hc
   .exact st _ _ (F.trk _ _ _ e q)
   .exact st _ _ (F.trk _ _ _ hc q)) (fun _ q=>q) fun _ _ q=>q
end
theorem J4.here{P:Ab}{w:At}{H:Hp}{h:Heap}{b:Addr}{u:HO}(x:J4 P w H h b u):h.get? b≠none:=by
 have no:∀ob:Obj,h.get? b=some ob->h.get? b≠none:=fun ob e z=>by rw[e]at z;cases z
 cases u with
 | lst xs=>obtain⟨_,_,_,_,q⟩:=x;exact no _ q
 | tup xs=>obtain⟨_,_,_,_,q,_⟩:=x;exact no _ q
 | dK kvs=>obtain⟨_,_,_,_,_,_,_,q,_⟩:=x;exact no _ q
 | dT kvs=>obtain⟨_,_,_,_,_,_,_,q,_⟩:=x;exact no _ q
 | set S n=>obtain⟨_,_,_,_,q,_⟩:=x;exact no _ q
 | ins C dx fs=>obtain⟨_,_,_,q,_⟩:=x;exact no _ q
 | own y=>obtain⟨_,q⟩:=x;exact no _ q
 | xd fs=>obtain⟨_,⟨_,_,_,q,_⟩,_⟩:=x;exact no _ q
 | rng lo hi=>obtain⟨_,_,_,q⟩:=x;exact no _ q
 | frz ob v=>obtain⟨q,_⟩:=x;exact no _ q
 | tbl ps=>exact no _ (show h.get? b=some _ from x)
 | met f y=>exact no _ (show h.get? b=some _ from x)
 | ext φ=>obtain⟨_,⟨_,q⟩,_⟩:=x;exact no _ q
structure Exc(K:WF)(mg:MO)(base:Heap)(x:Str)(C:Addr):Prop where
 own:OwnCls x C [.type "ValueError",.type "Exception",.type "BaseException",.type "object"] "ValueError.__new__" mg base
theorem Exc.mk'{K:WF}{mg:MO}{base:Heap}{x:Str}{C:Addr}(X:K.In base)(G:base.Ns AB mg)(e:BY K AB x=some (some (.ref C)))
  (q:HW K C [.type "ValueError",.type "Exception",.type "BaseException",.type "object"] "ValueError.__new__" = true):Exc K mg base x C:=by
 refine⟨⟨BB X G e,?_⟩⟩;unfold HW at q;split at q
 .next d1 c1 sl1 look=>
  split at q
  .next C1 bm1 y0 y1 y2 y3 n1 y5 emro esl=>
   simp only[As,beq_iff_eq,Kx]at q;obtain⟨⟨⟨⟨⟨z1,z2⟩,z3⟩,z4⟩,z5⟩,z6⟩:=q;subst z1;obtain⟨nm,bs,mro,ns,qn,hd,sn,sub,ab,col,del⟩:=c1;dsimp only at emro z3 z5 z6;subst emro z3
   have es:sl1=#[y0,y1,y2,y3,some (.builtin "ValueError.__new__"),y5]:=by
    obtain⟨lst⟩:=sl1;simp only at esl;rw[esl,z2]
   subst es;exact⟨bm1,ns,nm,qn,bs,hd,sn,sub,ab,col,d1,y0,y1,y2,y3,y5,_,X _ _ look,.of_isNs (PySem.W.isNs_of_in X z5),PySem.W.nsMap_none_of_in X z5 z6,PySem.W.tail_of_in X z4⟩
  .cases q
 .cases q
section
variable {P:Ab} {w:At} {K:WF} {mg:Str→Option A3} {base:Heap} {N:List Str} {qual:Str} {scope:DV} {f:Addr} {cd:A3} {A:AH} {outer:List Env} {s:A9} {H:Hp} {E:XK}
noncomputable abbrev cxR(P:Ab)(w:At)(K:WF)(mg:MO)(base:Heap)(N:List Str)(qual:Str)(scope:DV)(f:Addr)(cd:A3)(A:AH)(outer:List Env)(s:A9)(H:Hp)(E:XK):Cx:=
 Jg1 (CXr P w) P w K mg base N qual scope f cd A outer s H E
def JsC(C:Addr)(E:XK)(te:TE):TS:=fun _ σ H=>te σ H fun v H2=>([v]:List V).length<=AK/\E (.ref C) none H2
theorem Jfp{x:Str}{C:Addr}{e:Expr}{te:TE}{np cpos pos:Pos}(O:Exc K mg base x C)(hg:Gl (cxR P w K mg base N qual scope f cd A outer s H E) x)(he:PE (cxR P w K mg base N qual scope f cd A outer s H E) e te)
  (hs:AR [e] (cxR P w K mg base N qual scope f cd A outer s H E).env=[(false,eval e (cxR P w K mg base N qual scope f cd A outer s H E).env)]:=by rfl) (hdb:(x==("__debug__" : Str))=false:=by decide) :
  PS (cxR P w K mg base N qual scope f cd A outer s H E) (.Raise (some (.Call (.Name x np) [e] [] cpos)) none pos) (JsC C E te):=by
 intro pins s1 σ H1 D I h;obtain⟨tl,ns,nm,q,bs,hdct,sn,sub,ab,col,dd,k0,k1,k2,k3,k5,mN,hC,hN,hni,T⟩:=O.own.obj;have FB:=PySem.F.excBase_ValueError
 refine wpAny_Raise_call_subT (C:=C) (nm:=nm) (q:=q) (N:=ns) (bs:=bs) (bm:=tl) (hdct:=hdct) (sn:=sn) (sub:=sub) (ab:=ab) (col:=col) (dd:=dd) (k0:=k0) (k1:=k1) (k2:=k2) (k3:=k3) (k5:=k5)
  FB (mN:=mN) (T.hasType FB.hasBase) (I.ok.hd rfl) (by rw[hs];rfl) hni (JfR I hg O.own.bound ⟨rfl,?_⟩ hdb)
 have ha:=Jb he JR hs cpos pins s1 σ H1 (fun vs H2=>vs.length<=AK/\E (.ref C) none H2) I h;rw[hs]at ha ⊢;refine Df (Db ha (fun vs s2 hzz=>?_) fun _ _ y=>y);obtain⟨xs,H2,I2,r,q1,q2⟩:=hzz;refine⟨rfl,by rw[<- r.length];exact q1,I2.bk _ _ hC,hN.keeps I2.bk,T.keeps I2.bk,fun h' ea hm=>?_⟩;show AV _ (A.deeper (Cm qual scope s.heap.objs.size f cd)) (leaving (Cm qual scope s.heap.objs.size f cd) (.ref ea)) _ _ _;have fstk:∀b,b∈frs (Cm qual scope s.heap.objs.size f cd::outer)->b=s.heap.objs.size\/b∈frs outer:=fun b hb=>Aq.mp (I2.stkSub b hb);have stk:=I2.stack
 refine wpAny_leaves_madeW (base:=Gw s2.heap (frs (Cm qual scope s.heap.objs.size f cd::outer))) (h:=s2.heap) (outer:=outer) I2.ok.frames rfl (fun b o z=>Hm _ z)
  (PySem.W.funFrames_hide I2.stack fun env hen b hb=>EF.mpr ⟨env,hen,hb⟩) hm fun h2 tp fl tup nt up=>?_
 have hid:∀b o,s2.heap.get? b=some o->b∉frs (Cm qual scope s.heap.objs.size f cd::outer)->(Gw s2.heap (frs (Cm qual scope s.heap.objs.size f cd::outer))).get? b=some o:=fun b o z n=>GT _ z n;have old:∀b o,s.heap.get? b=some o->b∉frs outer->b∉frs (Cm qual scope s.heap.objs.size f cd::outer):=fun b o z n y=>(fstk b y).elim (fun y=>absurd (AZ z) (by rw[y];exact CL _)) n
 have trk:∀b u,H2 b=some u->b∉frs (Cm qual scope s.heap.objs.size f cd::outer):=fun b u z y=>by rw[I2.stkFree b y]at z;cases z
 refine⟨ea,.ref C,H2,_,.ref tp,rfl,q2,I2.os,I2.bare,⟨fun b o z n hb hx=>?_,fun b o z n hb hx=>?_,fun b o z n hx=>?_,fun b o z hx=>?_,I2.base.tups,I2.base.frzs,I2.base.tbls⟩,fun b u z=>?_,fl,fun b o o' z hb z'=>?_,fun b u o z z'=>?_⟩
 .exact fl.1 b o (hid b o (I2.base.keep b o z n hb (by simp[Jg1])) (old b o z hb))
 .obtain⟨sl,z1⟩:=I2.base.slot b o z n hb (by simp[Jg1]);obtain⟨_,o2,z2,d2⟩:=I2.ok.funs.mem hb;have z2:s.heap.get? b=some o2:=z2;rw[z]at z2;cases z2;obtain⟨sl2,z3⟩:=up b _ (hm.keeps _ _ z1) d2;exact⟨sl2,z3⟩
 .exact I2.base.free b o z n (by simp[Jg1])
 .obtain⟨o',z1⟩:=I2.base.there b o z (by simp[Jg1])
  by_cases hb:b∈frs (Cm qual scope s.heap.objs.size f cd::outer)
  .obtain⟨_,o2,z2,d2⟩:=stk.mem hb;obtain⟨sl2,z3⟩:=up b _ (hm.keeps _ _ z2) d2;exact⟨_,z3⟩
  .exact⟨o',fl.1 b o' (hid b o' z1 hb)⟩
 .refine(I2.hok b u z).stay (fun c v hc y=>?_) (fun _ y=>y) fun _ _ y=>y
  rcases hc with rfl|hc
  .exact fl.1 _ _ (hid _ _ y (trk _ _ z))
  .exact fl.1 _ _ (hid _ _ y (trk _ _ hc))
 .obtain⟨o2,z1⟩:=I2.base.there b o z (by simp[Jg1]);have y:=hid b o2 z1 (old b o z hb);have z':h2.get? b=some o':=z';rw[fl.1 b o2 y]at z';cases z';exact y
 .have hlt:=I2.hok.lt z;have z':h2.get? b=some o:=z'
  cases y:s2.heap.get? b with
  | some o2=>
   have y':=hid b o2 y (trk b u z);rw[fl.1 b o2 y']at z';cases z';exact y'
  | none=>exact absurd y ((I2.hok b u z).here)
theorem JmI:JeV (CXr P w) (cxR P w K mg base N qual scope f cd A outer s H E) E:=by
 intro pins σ H1 s1 e s' I h;obtain⟨a,cls,H2,B,a0,rfl,hE,F⟩:=h;show AV _ (A.deeper (Cm qual scope s.heap.objs.size f cd)) (leaving (Cm qual scope s.heap.objs.size f cd) (.ref a)) _ _ _;have fstk:∀b,b∈frs (Cm qual scope s.heap.objs.size f cd::outer)->b=s.heap.objs.size\/b∈frs outer:=fun b hb=>Aq.mp (I.stkSub b hb);have old:∀b o,s.heap.get? b=some o->b∉frs outer->b∉frs (Cm qual scope s.heap.objs.size f cd::outer):=fun b o z n y=>(fstk b y).elim (fun y=>absurd (AZ z) (by rw[y];exact CL _)) n
 have inS:∀b,b∈frs outer->b∈frs (Cm qual scope s.heap.objs.size f cd::outer):=fun b hb=>by
  unfold frs;rw[D0];exact AY _ hb
 refine wpAny_leaves_onW (outer:=outer) I.ok.frames rfl F.fly fun h2 fl up=>?_;obtain⟨un2,hok2⟩:=F.on fl.1 up;refine⟨a,cls,H2,B,a0,rfl,hE,F.os.trans I.os,F.bare,⟨fun b o z n hb hx=>?_,fun b o z n hb hx=>?_,fun b o z n hx=>?_,fun b o z hx=>?_,fun b xs z=>un2.tups b xs (I.base.tups b xs z),fun b o u z=>un2.frzs b o u (I.base.frzs b o u z),fun b ps z=>?_⟩,hok2,fl,fun b o o' z hb z'=>?_,fun b u o z z'=>?_⟩
 .exact un2.keep b o (I.base.keep b o z n hb (by simp[Jg1])) (I.base.free b o z n (by simp[Jg1])) (old b o z hb) hx
 .obtain⟨sl,z1⟩:=I.base.slot b o z n hb (by simp[Jg1]);obtain⟨sl2,z2⟩:=un2.slot b _ z1 (I.base.free b o z n (by simp[Jg1])) (inS b hb) hx;exact⟨sl2,z2⟩
 .obtain⟨o',z1⟩:=I.base.there b o z (by simp[Jg1]);exact un2.free b o' z1 (I.base.free b o z n (by simp[Jg1])) hx
 .obtain⟨o',z1⟩:=I.base.there b o z (by simp[Jg1]);exact un2.there b o' z1 hx
 .obtain⟨m1,z1⟩:=I.base.tbls b ps z;obtain⟨m2,z2⟩:=un2.tbls b _ z1;exact⟨m1++m2,by rw[z2,HC]⟩
 .obtain⟨o1,z1⟩:=I.base.there b o z (by simp[Jg1]);obtain⟨o2,z2⟩:=F.un.there b o1 z1 (by simp);have y:=F.all b o1 o2 z1 (old b o z hb) z2;have z':h2.get? b=some o':=z';rw[fl.1 b o2 y]at z';cases z';exact y
 .cases y:s'.heap.get? b with
  | some o2=>
   have y':=F.trk b u o2 z y;have z':h2.get? b=some o:=z';rw[fl.1 b o2 y']at z';cases z';exact y'
  | none=>exact absurd y ((F.hok b u z).here)
end
section
variable {X:Cx} {pins:PL} {σ:St} {H1 H2:Hp} {s1 s':A9} {a:Addr} {cls a0:A3} {B:Heap}
theorem Fly.inv{h2:Heap}(F:Fly X.prog X.w X.stack H1 s1 a cls H2 B a0 s')(I:Inv X pins σ H1 s1)(st:B.StaysIn h2)(up:s'.heap.UpToSlots h2):Inv X pins σ H2 { s' with heap:=h2 }:=by
 obtain⟨un2,hok2⟩:=F.on st up;exact I.call' (s':={ s' with heap:=h2 }) (ch:=[]) F.os un2 hok2 F.bare fun b z=>absurd z (by simp)
theorem Fly.to{h2:Heap}(F:Fly X.prog X.w X.stack H1 s1 a cls H2 B a0 s')(fl:Heap.FlyingW B X.stack a cls a0 h2)(up:s'.heap.UpToSlots h2):Fly X.prog X.w X.stack H1 s1 a cls H2 B a0 { s' with heap:=h2 }:=by
 obtain⟨un2,hok2⟩:=F.on fl.1 up;refine⟨F.os,F.bare,un2,hok2,fl,fun b o o' z hb z'=>?_,fun b u o z z'=>?_⟩
 .obtain⟨o2,z2⟩:=F.un.there b o z (by simp);have y:=F.all b o o2 z hb z2;have z':h2.get? b=some o':=z';rw[fl.1 b o2 y]at z';cases z';exact y
 .cases y:s'.heap.get? b with
  | some o2=>
   have y':=F.trk b u o2 z y;have z':h2.get? b=some o:=z';rw[fl.1 b o2 y']at z';cases z';exact y'
  | none=>exact absurd y ((F.hok b u z).here)
theorem Fly.ty{M:Ma}(F:Fly X.prog X.w X.stack H1 s1 a cls H2 B a0 s'):HX M s'.heap (typeOf (.ref a)) cls:=by
 obtain⟨ob,hob,hc⟩:=F.fly.there;subst hc;exact(HX.ld hob).andThen .now
variable {x:Str} {C:Addr} {np pos:Pos} {nm:Option Str} {b₀:Stmt} {suite:List Stmt} {rest:List ExceptHandler} {Q:Flow→A9→Prop} {E:A3→A9→Prop}
theorem Jnk{A:AH}{I0:Inv X pins σ H1 s1}(hg:Gl X x)(hm:X.mg x=some (.ref C)){R:VS}{E':VS}(h:R (.ref C) s1)(hd:(x==("__debug__" : Str))=false):AV (Af X.prog X.w) A (eval (.Name x np) X.env) R E' s1:=
 Dg I0.ok.kind hg (Fs (by rw[I0.ok.glob];exact I0.mod.glob.keeps I0.bk) hm h) hd
theorem Jdt(F:Fly X.prog X.w X.stack H1 s1 a cls H2 B a0 s')(I:Inv X pins σ H1 s1)(hg:Gl X x)(hm:X.mg x=some (.ref C))(he:Cy X.K cls (.ref C)=some false)(hd:(x==("__debug__" : Str))=false)
  (k:AV (Af X.prog X.w) X.A (handleBy (.ref a) X.env rest) Q E s') :
  AV (Af X.prog X.w) X.A (handleBy (.ref a) X.env (.ExceptHandler (some (.Name x np)) nm (b₀::suite) pos::rest)) Q E s':=by
 have I2:Inv X pins σ H2 s':=F.inv (h2:=s'.heap) I F.fly.1 (Hw _);refine GS (GX (Jnk (I0:=I2) hg hm ?_ hd)) (by intro q;cases q);exact(Kp I2.kIn F.ty he).here k
theorem JeC{tx:Str}{j:Nat}{q1 q2:Pos}{D:Jos}(F:Fly X.prog X.w X.stack H1 s1 a cls H2 B a0 s')(I:Inv X pins σ H1 s1)(hg:Gl X x)(hm:X.mg x=some (.ref C))(he:Cy X.K cls (.ref C)=some true)
  (hd:(x==("__debug__" : Str))=false) (k:D.rt (.str tx) H2) :
  AV (Af X.prog X.w) X.A (handleBy (.ref a) X.env (.ExceptHandler (some (.Name x np)) none [.Return (some (.Constant (.str tx) j q1)) q2] pos::rest)) (SP X pins D) E s':=by
 have I2:Inv X pins σ H2 s':=F.inv (h2:=s'.heap) I F.fly.1 (Hw _);refine GS (GX (Jnk (I0:=I2) hg hm ?_ hd)) (by intro q;cases q);refine(Kp I2.kIn F.ty he).here ?_;refine codeAny_handlers_suite ?_;refine lands_againW F.fly fun h6 fl6 up6=>?_;have I6:Inv X pins σ H2 { s' with heap:=h6 }:=F.inv I fl6.1 up6;refine Ey (EU (HB ?_));exact⟨.str tx,σ,H2,I6.tok _,⟨_,rfl⟩,k⟩
end
structure Jmk(X:Cx)(x:Str)(C:Addr)(o1 o2:Addr):Prop where
 gl:Gl X x
 mg:X.mg x=some (.ref C)
 me:Cy X.K (.ref C) (.ref C)=some true
 n1:Cy X.K (.ref o1) (.ref C)=some false
 n2:Cy X.K (.ref o2) (.ref C)=some false
def JtH(sp:Sp)(C1 C2 C3:Addr)(t1 t2 t3:Str)(t:TA):TS:=fun D σ H=>t σ H fun vs H1=>sp (vs++[]) H1 D.rt fun cls _ H2=>
 (cls=.ref C1/\D.rt (.str t1) H2)\/(cls=.ref C2/\D.rt (.str t2) H2)\/(cls=.ref C3/\D.rt (.str t3) H2)
theorem Jrg{X:Cx}{k:Nat}{f:Addr}{fd:Aa}{ps:List Str}{sp:Sp}{x x1 x2 x3:Str}{C1 C2 C3:Addr}{t1 t2 t3:Str}{e:Expr}{es:List Expr}{t:TA}{p cpos rpos pos p1 p2 p3 h1 h2 h3 q1 q2 q3 r1 r2 r3:Pos}{j1 j2 j3:Nat}
  (F:YU X.prog X.w X.K X.mg X.base (CXr X.prog X.w) k f fd ps sp) (hr:JdG k X.A) (hg:Gl X x) (hm:X.mg x=some (.ref f)) (hk:Cv X.K (.ref f)=true) (hb:Jdj X.K fd ps []) (ha:PA X.nox (e::es) t)
  (c1:Jmk X x1 C1 C2 C3) (c2:Jmk X x2 C2 C1 C3) (c3:Jmk X x3 C3 C1 C2) (hst:X.stack=X.env::X.outer) (hf:X.env.frame=some X.env.locals)
  (hdb:(x==("__debug__" : Str))=false:=by decide) (d1:(x1==("__debug__" : Str))=false:=by decide) (d2:(x2==("__debug__" : Str))=false:=by decide) (d3:(x3==("__debug__" : Str))=false:=by decide)
  (he:AR (e::es) X.env=(false,eval e X.env)::AR es X.env:=by rfl) (hpl:(DF cpos (AR es X.env)).any (·.1)=false:=by rfl) :
  PS X (.Try [.Return (some (.Call (.Name x p) (e::es) [] cpos)) rpos]
   [.ExceptHandler (some (.Name x1 p1)) none [.Return (some (.Constant (.str t1) j1 q1)) r1] h1,.ExceptHandler (some (.Name x2 p2)) none [.Return (some (.Constant (.str t2) j2 q2)) r2] h2,
    .ExceptHandler (some (.Name x3 p3)) none [.Return (some (.Constant (.str t3) j3 q3)) r3] h3] [] [] pos) (JtH sp C1 C2 C3 t1 t2 t3 t):=by
 intro pins s σ H D I h;refine wpAny_Try_except (Ey (EU ?_));refine D6 (JfR I hg hm ?_ hdb);refine EE (h₀:=X.base) I.ok.mod.kin hk (Db (ha cpos pins s σ H _ (I.wish _) h) (fun us s1 hzz=>?_) fun e' s2 (z:False)=>z.elim) he hpl;obtain⟨vs,H1,I1',r,q⟩:=hzz;have I1:Inv X pins σ H1 s1:=I1'.unwish;refine⟨I1.kIn,?_⟩;have r2:Y2 (vs++[]) (us++[]):=r.append .nil
 have hl:(us++[]).length=ps.length:=by rw[<- r2.length];exact F.len _ _ _ _ q
 refine Hg (D7 (F.run X.A X.stack s1 H1 ⟨us,[]⟩ (us++[]) (vs++[]) _ _ hr I1.env0 (hb s1 us I1.kIn hl) r2 q) fun r s' hq=>?_)
 cases r with
 | ok fl=>
  cases fl with
  | ret u=>
   obtain⟨v,H2,I2,rv,qv⟩:=I1.after hq;exact⟨v,σ,H2,I2,rv,qv⟩
  | next=>exact BS hq
  | brk=>exact BS hq
  | cont=>exact BS hq
 | error er=>
  obtain⟨a,cls,H2,B,a0,rfl,hE,FL⟩:=hq;have hfl:=FL.fly;have hfr:=I1.ok.frames;rw[hst]at hfr;refine wpAny_looks_onW (base:=B) (cls:=cls) (a0:=a0) (outer:=X.outer) hfr hf (by rw[<- hst];exact hfl) fun h4 held4 up4=>?_;refine wpAny_landsW held4 fun h5 fl5 up5=>?_;rw[<- hst]at fl5;have FL5:=FL.to fl5 (up4.trans up5)
  rcases hE with⟨rfl,k⟩|⟨rfl,k⟩|⟨rfl,k⟩
  .exact JeC FL5 I1 c1.gl c1.mg c1.me d1 k
  .exact Jdt FL5 I1 c1.gl c1.mg c1.n1 d1 (JeC FL5 I1 c2.gl c2.mg c2.me d2 k)
  .exact Jdt FL5 I1 c1.gl c1.mg c1.n2 d1 (Jdt FL5 I1 c2.gl c2.mg c2.n2 d2 (JeC FL5 I1 c3.gl c3.mg c3.me d3 k))
theorem JsD:Bw "all" = some (.builtin "all"):=by decide +kernel
theorem Jqe:Bw "any" = some (.builtin "any"):=by decide +kernel
section
variable {X:Cx}
def JcY(p a:Addr):HO:=.ext fun h=>h.IsValuesView p a
theorem Jny{P:Ab}{w:At}{H:Hp}{h:Heap}{p a:Addr}(v:h.IsValuesView p a):J4 P w H h p (JcY p a):=
 ⟨v,let ⟨o,e,_⟩:=v;⟨o,e⟩,fun h1 h2 y k=>let ⟨o,e,x⟩:=y;⟨o,k o e,x⟩⟩
def Jsi:V->List V->Hp->VK->Prop:=fun x xs H Q=>∃(a:Addr) (kvs:List (Key×V)),x=.ref a/\xs=[]/\H a=some (.dK kvs)/\∀p,H p=none->Q (.ref p) (upd H p (JcY p a))
theorem Jn6:MtR X "dict.values" Jsi:=by
 intro pins s σ H x xs v us Q I rx rs h;obtain⟨a,kvs,rfl,rfl,e,q⟩:=h;cases rx;cases rs;obtain⟨z,hd,vs,rel,dd⟩:=JiP I.hok e;refine Em FX dd.typeIs PySem.F.entry_dict_values (PySem.F.args_dict_values_1 _) (meets_dict_values (J9 X.prog X.w) a hd) ⟨⟨vs,dd⟩,?_⟩;exact⟨.ref s.heap.objs.size,_,I.laid (t':=s.toks) (fun b o y=>A4 _ y) (A6 _) (Jny ⟨_,Aw _ rfl,rfl,rfl⟩),rfl,q _ (I.hok.fresh (A6 _))⟩
theorem Jhm{o:Expr}{to:TE}{apos cpos:Pos}(ho:PE X o to)(hbase:Dv o "values" X.env (eval o X.env)=eval o X.env:=by rfl)(hline:(apos.endLine==cpos.line)=true:=by rfl) :
  PE X (.Call (.Attribute o "values" apos) [] [] cpos) (Jts X.K "dict" Jsi to):=Jli D1 FX PySem.F.type_dict_values Jn6 ho hbase hline
theorem JjF:∀(ns:List Int),preSum (fun i=>ns.getD i 0) ns.length=ns.sum:=by
 have gen:∀(f:Nat->Int)(n:Nat),preSum f n=((AT n).map f).sum:=by
  intro f n
  induction n with
  | zero=>rfl
  | succ n ih=>
   rw[Gj,AJ,Gz,<- ih];simp[preSum]
 intro ns;rw[gen,Jg7]
theorem Jip(hc:X.calm=true):Jbg X (.builtin "sum") (fun xs H Q=>∃(p a:Addr) (kvs:List (Key×V)) (ns:List Int),xs=[.ref p]/\H p=some (JcY p a)/\H a=some (.dK kvs)/\kvs.map (·.2)=ns.map V.int/\Q (.int ns.sum) H):=by
 intro pins s σ H xs us Q I r h;obtain⟨p,a,kvs,ns,rfl,hp,ha,hn,q⟩:=h;obtain⟨u,rfl,ru⟩:=Jcq r;cases ru;have hv:s.heap.IsValuesView p a:=(I.hok p _ hp).1;obtain⟨z,hd,vs,rel,dd⟩:=JiP I.hok ha;obtain⟨ep,hat⟩:=dd.dictAt;have hlen:=rel.length
 have hnl:ns.length=vs.length:=by
  have:=congrArg Bn hn;rw[A2,A2]at this;omega
 have ok:s.heap.IsValuesView p a/\s.heap.DictAt (J9 X.prog X.w) a vs ep:=⟨hv,hat⟩;have K:=PySem.W.kdl_values (prog:=X.prog) (w:=X.w) (knd:=J9 X.prog X.w) (d:=a) (r:=p) (kvs:=vs) (ep:=ep);refine call_sum_walkAnyS ?_;obtain⟨oI,St,hit,W,st⟩:=K.iter X.A.in1 s (I.ok.hd hc) ok;refine hit _ _ ⟨s.heap.objs.size,_,_,_,vs.length,_,_,fun i=>ns.getD i 0,rfl,W.toS,st,fun b hb=>?_,fun i v hP=>?_,fun s' t' hm=>?_⟩
 .show b<(s.heap.push oI).objs.size;rw[By]
  rcases Aq.mp hb with e|hb
  .rw[e];exact BU _
  .rw[A5.mp hb];exact Bp (K.there _ ok).2
 .obtain⟨k,e⟩:=hP;have hi:i<vs.length:=(A7.mp e).1;have rv:=(JX rel i kvs[i] (k,v) (A1 (by omega)) e).2
  have en:(kvs.map (·.2))[i]?=some (V.int (ns.getD i 0)):=by
   rw[hn,Ax];have:ns[i]?=some ns[i]:=A1 (by omega);rw[this];simp[List.getD,this]
  rw[Ax,A1 (by omega)]at en;have en:kvs[i].2=V.int (ns.getD i 0):=Ai en;rw[en]at rv;exact rv
 .have hk:∀b o,s.heap.get? b=some o->s'.heap.get? b=some o:=fun b o e=>
   hm.heap b o (fun hI=>absurd (AZ e) (by rw[A5.mp hI];exact CL _)) (A4 _ e)
  rw[Mz hm];refine⟨.int ns.sum,H,I.kept (h':=s'.heap) (t':=s'.toks) hk,⟨t',?_⟩,q⟩;rw[<- hnl,JjF]
theorem Jh3:∀{bs:List Bool}{us:List A3},Y2 (bs.map V.bl) us->LSm.BoolsAre us bs
 | [],_,.nil=>.nil
 | x::r,_,.cons a t=>by
  cases(show _=A3.bool x from a);exact .cons x (Jh3 t)
theorem JmM(hc:X.calm=true):Jbg X (.builtin "all") (fun xs H Q=>∃(p:Addr)(bs:List Bool),xs=[.ref p]/\SqL X.K H p (bs.map V.bl)/\Q (.bl (bs.all id)) H):=by
 intro pins s σ H xs us Q I r h;obtain⟨p,bs,rfl,hq,q⟩:=h;obtain⟨u,rfl,ru⟩:=Jcq r;cases ru;obtain⟨its,rv,pl,hz⟩:=I.list hq;have bo:=Jh3 rv
 have lp:p<s.heap.objs.size:=let ⟨_,_,e,_⟩:=pl;AZ e
 refine call_all_walk (DZ pl.isList ?_)
 refine⟨s.heap.objs.size,[s.heap.objs.size,p],[s.heap.objs.size],its.toArray.size,_,_,fun j=>(bs[j]?).getD true,rfl,G8.list (A:=X.A.in1) (I.ok.hd hc) _ p (Ar lp) its.toArray,
  ⟨⟨_,Aw _ rfl,rfl,rfl⟩,pl.isList.push _⟩,fun j v s1 Q1 E1 hj k1=>?_,fun h1 t1 k1=>?_⟩
 .obtain⟨b,e,rfl⟩:=bo.get j v (by simpa using hj);simp only[e,Dm]at k1;exact Bf k1
 .have e:((AT its.toArray.size).all fun j=>(bs[j]?).getD true)=bs.all id:=by
   rw[AX,bo.length];exact LSm.range_all bs
  rw[e];exact⟨.bl (bs.all id),H,I.kept (h':=h1) (t':=t1) (My k1),rfl,q⟩
theorem Jiq(hc:X.calm=true):Jbg X (.builtin "any") (fun xs H Q=>∃(p:Addr)(bs:List Bool),xs=[.ref p]/\SqL X.K H p (bs.map V.bl)/\Q (.bl (bs.any id)) H):=by
 intro pins s σ H xs us Q I r h;obtain⟨p,bs,rfl,hq,q⟩:=h;obtain⟨u,rfl,ru⟩:=Jcq r;cases ru;obtain⟨its,rv,pl,hz⟩:=I.list hq;have bo:=Jh3 rv
 have lp:p<s.heap.objs.size:=let ⟨_,_,e,_⟩:=pl;AZ e
 refine call_any_walk (DZ pl.isList ?_)
 refine⟨s.heap.objs.size,[s.heap.objs.size,p],[s.heap.objs.size],its.toArray.size,_,_,fun j=>(bs[j]?).getD false,rfl,G8.list (A:=X.A.in1) (I.ok.hd hc) _ p (Ar lp) its.toArray,
  ⟨⟨_,Aw _ rfl,rfl,rfl⟩,pl.isList.push _⟩,fun j v s1 Q1 E1 hj k1=>?_,fun h1 t1 k1=>?_⟩
 .obtain⟨b,e,rfl⟩:=bo.get j v (by simpa using hj);simp only[e,Dm]at k1;exact Bf k1
 .have e:((AT its.toArray.size).any fun j=>(bs[j]?).getD false)=bs.any id:=by
   rw[AX,bo.length];exact LSm.range_any bs
  rw[e];exact⟨.bl (bs.any id),H,I.kept (h':=h1) (t':=t1) (My k1),rfl,q⟩
theorem Jkn{P:Ab}{w:At}{a:Addr}{vs:List (Key×A3)}{ep:Nat}(hd:(a==sysModules)=false)(hz:vs.length<=AK) :
  Src P w "dict" a (fun us=>us.length=vs.length/\∀(j:Nat) u,us[j]?=some u->∃k x,vs[j]?=some (k,x)/\JiM k u=true) (fun h=>h.DictAt (J9 P w) a vs ep) where
 ty:=fun s G=>G.dictOf.typeIs
 lt:=fun h G=>G.lt_size
 stay:=fun h h' G k=>G.at' k
 nl:=by decide
 nt:=by decide
 hint:=fun A E s Q G q=>GK G.dictOf.typeIs (q false s.toks (A6 _))
 iter:=fun A E s Q hh G q=>by
  refine HG hd G ?_;refine q _ s.drawn s.heap.objs.size [s.heap.objs.size,a] vs.length _ _ (fun b o z=>A4 _ z) (A6 _) (fun b hb=>?_) hz ?_ (G8.dictKeys (knd:=J9 P w) hh _ a (Ar G.lt_size) vs ep) ⟨⟨_,Aw _ rfl,rfl,rfl⟩,G.push _⟩
  .rcases Aq.mp hb with e|hb
   .exact .inr (by rw[e];exact A6 _)
   .exact .inl (A5.mp hb)
  .exact fun us hl hv=>⟨hl,hv⟩
theorem Jjb(hc:X.calm=true):Jbg X (.builtin "sorted") (fun xs H Q=>∃(p:Addr) (kvs:List (Key×V)) (ns:List Int),xs=[.ref p]/\H p=some (.dK kvs)/\kvs.map (·.1)=ns.map Aj/\ns.length<64/\
  ∀(l:Addr)(rs:List Int),H l=none->rs.Perm ns->rs.Pairwise (·<=·)->Q (.ref l) (upd H l (.lst (rs.map V.int)))):=by
 intro pins s σ H xs us Q I r h;obtain⟨p,kvs,ns,rfl,hp,hn,hl,q⟩:=h;obtain⟨u,rfl,ru⟩:=Jcq r;cases ru;obtain⟨z,hd,vs,rel,dd⟩:=JiP I.hok hp;obtain⟨ep,hat⟩:=dd.dictAt;have hlen:=rel.length
 have hnl:ns.length=kvs.length:=by
  have:=congrArg Bn hn;rw[A2,A2]at this;omega
 refine Src.sorted (Jkn hd (by rw[<- hlen];exact z)) (I.ok.hd hc) hat ns (fun us ⟨h1,h2⟩ =>⟨ns,?_,GE _⟩) hl fun h' tk d D out c rs k lD gD ia pm so=>?_
 .have gen:∀(us:List A3)(ns:List Int),us.length=ns.length->(∀(j:Nat) u n,us[j]?=some u->ns[j]?=some n->∃t,u=.int n t)->Bt us ns:=by
   intro us
   induction us with
   | nil=>
    intro ns hl _
    cases ns with
    | nil=>exact .nil
    | cons n r=>cases hl
   | cons u us ih=>
    intro ns hl hv
    cases ns with
    | nil=>cases hl
    | cons n r=>
     obtain⟨t,rfl⟩:=hv 0 u n rfl rfl;exact .cons _ t (ih r (by simpa using hl) fun j x y hx hy=>hv (j+1) x y (by simpa using hx) (by simpa using hy))
  refine gen us ns (by omega) fun j u n hu hn'=>?_;obtain⟨k,x,e1,e2⟩:=h2 j u hu
  have hj:j<kvs.length:=by
   have:=(A7.mp hn').1;omega
  have e3:=(JX rel j kvs[j] (k,x) (A1 hj) e1).1
  have e4:(kvs.map (·.1))[j]?=some (Aj n:Key):=by rw[hn,Ax,hn'];rfl
  rw[Ax,A1 hj]at e4;have e4:kvs[j].1=(Aj n:Key):=Ai e4;have e3:kvs[j].1=k:=e3;rw[<- e3,e4]at e2;exact JfA e2
 .refine⟨.ref D,_,(I.laid (t':=tk) k lD (show J4 X.prog X.w _ h' D (.lst (rs.map V.int)) from⟨?_,out.toList,c,Jee ia,gD⟩)).draw d,rfl,q D rs (I.hok.fresh lD) pm so⟩;rw[A2,pm.length_eq,Bu];omega
def Jtn(td ty tx:TE):TE:=fun σ H Q=>td σ H fun x H1=>∃a,x=.ref a/\IsD H1 a/\ty σ H1 fun y H2=>tx σ H2 fun z H3=>∃kvs k,H3 a=some (.dK kvs)/\y=kV k/\kvs.length<AK/\
 (∀v,Jak kvs k=some v->Q v H3)/\(Jak kvs k=none->Q z (upd H3 a (.dK (Jag kvs k z))))
theorem JpH{o e f:Expr}{apos cpos:Pos}{td ty tx:TE}(ho:PE X o td)(he:PE X e ty)(hf:PE X f tx)(m:M2 X o "setdefault" apos e f cpos):PE X (.Call (.Attribute o "setdefault" apos) [e,f] [] cpos) (Jtn td ty tx):=by
 intro pins s σ H Q I h;refine HH m.base m.few m.line D1 Ed PySem.F.type_dict_setdefault (thn (ho pins s σ H _ I h) fun u s1 hzz=>?_);obtain⟨x,H1,I1,rx,a,ex,d,q1⟩:=hzz;subst ex;obtain rfl:u=A3.ref a:=rx;obtain⟨t1,t2,_⟩:=JpP I1 d;refine⟨t1,t2,?_⟩;rw[m.trees];refine Dx rfl (Df (Dw (thn (he pins s1 σ H1 _ I1 q1) fun iv s2 hzz=>?_)));obtain⟨y,H2,I2,ry,q2⟩:=hzz;refine Dw (thn (hf pins s2 σ H2 _ I2 q2) fun fv s3 hzz=>?_);obtain⟨z,H3,I3,rz,kvs,k,e3,ey,hl,g1,g2⟩:=hzz;refine Fv ?_;subst ey;obtain⟨hz,hd,vs,rel,dd⟩:=JiP I3.hok e3;have hlen:=rel.length;refine Em Ed dd.typeIs PySem.F.entry_dict_setdefault (PySem.F.args_dict_setdefault_3 _ _ _) (kt_meets_setdefault (J9 X.prog X.w) a (Jjw ry) hd fv) ⟨vs,dd,by rw[<- hlen];exact hz,fun v hv=>?_,fun hn h' dd' hs=>?_⟩
 .have rk:=rel.val k
  cases e:Jak kvs k with
  | none=>
   rw[e]at rk;rw[rk.none_of]at hv;cases hv
  | some v'=>
   rw[e]at rk;obtain⟨u',e1,rv⟩:=rk.some_of;rw[hv]at e1;cases e1;exact⟨v',H3,I3.tok _,rv,g1 v' e⟩
 .have e:Jak kvs k=none:=by
   have rk:=rel.val k
   cases e:Jak kvs k with
   | none=>rfl
   | some v'=>
    rw[e]at rk;obtain⟨u',e1,rv⟩:=rk.some_of;rw[hn]at e1;cases e1
  have he':∃q,h'.get? a=some q:=let ⟨q,_,_,hq,_⟩:=dd';⟨q,hq⟩
  have hl':(Jag kvs k z).length<=AK:=by have:=JbD kvs k z;omega
  exact⟨z,_,Jhe I3 (by rw[e3];exact True.intro) hs he' (Jmi hl' hd (rel.put k rz) dd'),rz,g2 e⟩
def Jch(p a:Addr):HO:=.ext fun h=>h.IsItemsView p a
theorem Jlw{P:Ab}{w:At}{H:Hp}{h:Heap}{p a:Addr}(v:h.IsItemsView p a):J4 P w H h p (Jch p a):=
 ⟨v,let ⟨o,e,_⟩:=v;⟨o,e⟩,fun h1 h2 y k=>let ⟨o,e,x⟩:=y;⟨o,k o e,x⟩⟩
def Jqk:V->List V->Hp->VK->Prop:=fun x xs H Q=>∃(a:Addr) (kvs:List (Key×V)),x=.ref a/\xs=[]/\H a=some (.dK kvs)/\∀p,H p=none->Q (.ref p) (upd H p (Jch p a))
theorem Jpc:MtR X "dict.items" Jqk:=by
 intro pins s σ H x xs v us Q I rx rs h;obtain⟨a,kvs,rfl,rfl,e,q⟩:=h;cases rx;cases rs;obtain⟨z,hd,vs,rel,dd⟩:=JiP I.hok e;refine Em Ff dd.typeIs PySem.F.entry_dict_items (PySem.F.args_dict_items_1 _) (meets_dict_items (J9 X.prog X.w) a hd) ⟨⟨vs,dd⟩,?_⟩;exact⟨.ref s.heap.objs.size,_,I.laid (t':=s.toks) (fun b o y=>A4 _ y) (A6 _) (Jlw ⟨_,Aw _ rfl,rfl,rfl⟩),rfl,q _ (I.hok.fresh (A6 _))⟩
theorem JfC{o:Expr}{to:TE}{apos cpos:Pos}(ho:PE X o to)(hbase:Dv o "items" X.env (eval o X.env)=eval o X.env:=by rfl)(hline:(apos.endLine==cpos.line)=true:=by rfl) :
  PE X (.Call (.Attribute o "items" apos) [] [] cpos) (Jts X.K "dict" Jqk to):=Jli D1 Ff PySem.F.type_dict_items Jpc ho hbase hline
end
noncomputable def Iti(a:Addr)(o:Obj)(kvs:List (Key×V)):It:=
 ⟨fun i H=>H a=some (.frz o (.dK kvs))/\i<kvs.length,fun i H x H'=>∃t k v,kvs[i]?=some (k,v)/\H t=none/\x=.ref t/\H'=upd H t (.tup [kV k,v]),fun i H=>H a=some (.frz o (.dK kvs))/\kvs.length<=i⟩
theorem JlW{P:Ab}{w:At}{K:WF}{es:List Expr}{kk:Nat}{tp:Pos}(a it:Addr)(o:Obj)(kvs:List (Key×V)) :
  Jor P w K (.Tuple es kk tp) (Iti a o kvs) [it] it (fun i h=>∃ok ov,IsItemIter h it a i kvs.length (Jr2 o) ok ov) where
 mem:=Az
 obj:=fun i h hi b hb=>by
  have e:b=it:=by simpa using hb
  subst e;obtain⟨ok,ov,h1⟩:=hi;exact⟨_,h1,fun v z=>nomatch z⟩
 keep:=fun i h h' ⟨ok,ov,h1⟩ k=>⟨ok,ov,k it Az _ h1⟩
 item:=fun X hP hw hK hc i pins s σ H E I f hi go=>by
  subst hP hw hK;obtain⟨e,hlt⟩:=go;obtain⟨_,vs,rel,hat⟩:=Jd3 I e;have hlen:=rel.length;obtain⟨ok,ov,hi⟩:=hi
  have hv:i<vs.length:=by omega
  have hit:s.heap.get? it≠none:=by rw[hi];exact fun z=>nomatch z
  refine wpAny_pyNext_items_item (k:=(vs[i]).1) (v:=(vs[i]).2) (by rw[<- hlen];exact hi) hat (A1 hv) fun key h' hkey ho hT hsz hk=>⟨_,rfl,?_⟩;refine wpAny_letOwnedTupleGo_items ho fun h2 he2 hs2=>?_;have lt:s.heap.objs.size≠it:=Ce (AZ hi);have pr:=JX rel i kvs[i] vs[i] (A1 hlt) (A1 hv);have e1:(kvs[i]).1=(vs[i]).1:=pr.1;have Iz:=I.turnedT (h':=h2) (ch:=[it]) (x:=kV (kvs[i]).1) (y:=(kvs[i]).2) (u:=key) (v:=(vs[i]).2) (fun c q hcn hq=>?_) f (fun c hcn=>?_) (by rw[e1];exact JfA hkey) pr.2 (hs2.extBut _ _ lt hT)
  .refine⟨.ref s.heap.objs.size,_,Iz,rfl,⟨_,(kvs[i]).1,(kvs[i]).2,A1 hlt,I.hok.fresh (A6 _),rfl,rfl⟩,⟨_,_,by rw[hlen];exact he2⟩,fun c hcn=>?_⟩;rw[A5.mp hcn,Jg lt.symm];exact(f it Az).1
  .have hcn:c≠it:=fun z=>hcn (by simp[z]);exact hs2.extBut _ _ hcn (hk c q hcn hq)
  .rw[A5.mp hcn];exact⟨_,he2⟩
 done:=fun X hP hw hK hc i pins s σ H E I f hi stop=>by
  subst hP hw hK;obtain⟨e,hle⟩:=stop;obtain⟨_,vs,rel,hat⟩:=Jd3 I e;have hlen:=rel.length;obtain⟨ok,ov,hi⟩:=hi;obtain⟨f0,f1,f2,f3,f4,f5⟩:=f it Az;exact wpAny_pyNext_items_end (I.ok.hd hc) (by rw[<- hlen];exact hi) hat (C8 (by omega)) fun h' hx=>⟨rfl,I.turned (t':=s.toks) (fun b q hb eq=>hx b q hb eq) f0 f1 f3 f4 f5⟩
 self:=fun A i s Q E hi q=>by
  obtain⟨ok,ov,hi⟩:=hi;exact PySem.W.kcp_self hi q
def Jr9(H₀:Hp)(td:TE):TI:=fun σ H R=>td σ H fun x H1=>∃(p a:Addr) (kvs:List (Key×V)),x=.ref p/\H1 p=some (Jch p a)/\H1 a=some (.dK kvs)/\∀o,Jf2 H₀ a->R (Iti a o kvs) (upd H1 a (.frz o (.dK kvs)))
theorem Jhu{X:Cx}{es:List Expr}{kk:Nat}{tp:Pos}{l:Expr}{tl:TE}(hl:PE X l tl):PI X (.Tuple es kk tp) l (Jr9 X.H₀ tl):=by
 intro pins s σ H R I h;refine thn (hl pins s σ H _ I h) fun v s1 hzz=>?_;obtain⟨x,H1,I1,r1,q1⟩:=hzz;obtain⟨p,a,kvs,e,hp,hd,q⟩:=q1;subst e;cases r1
 have nf:=I1.notFrz hd fun _ _ z=>nomatch z
 have hv:s1.heap.IsItemsView p a:=(I1.hok p _ hp).1;obtain⟨o,I2⟩:=I1.freeze hd;obtain⟨hs,vs,rel,hat⟩:=Jd3 I2 Ja;have hlen:=rel.length;refine wpAny_pyIter_items hv hat ?_;refine⟨s1.heap.objs.size,[s1.heap.objs.size],_,_,_,rfl,I2.kept (t':=s1.toks) fun b ob e=>A4 _ e,JlW a _ o kvs,⟨.none,.none,by rw[hlen];exact Aw _ rfl⟩,fun b hb=>?_,q o nf⟩
 have e:b=s1.heap.objs.size:=by simpa using hb
 subst e;exact I2.fpOk (A6 _) (I2.hok.fresh (A6 _))
theorem Jf7{a:Addr}{o:Obj}{kvs:List (Key×V)}{g:TG}{tb:TS}{D:Jos}{σ:St}{H:Hp}(Pv:Nat->St->Hp->Prop)(h0:Pv 0 σ H)(hl:∀i σ H,i<=kvs.length->Pv i σ H->H a=some (.frz o (.dK kvs)))
  (hs:∀i k v t σ H,kvs[i]?=some (k,v)->Pv i σ H->H t=none->g (.ref t) σ (upd H t (.tup [kV k,v])) fun σ2 H2=>tb { D with nx:=Pv (i+1),ct:=Pv (i+1),bk:=D.nx } σ2 H2) (hd:∀σ H,Pv kvs.length σ H->D.nx σ H) :
  ∃W:Nat->Nat->St->Hp->Prop,(∃m,W 0 m σ H)/\∀i m σ H,W i m σ H->
   ((Iti a o kvs).stop i H/\D.nx σ H)\/((Iti a o kvs).go i H/\∃N:St->Hp->Prop,(∀σ' H',N σ' H'->∃m',m'<m/\W (i+1) m' σ' H')/\∀x H',(Iti a o kvs).yld i H x H'->g x σ H' fun σ2 H2=>tb { D with nx:=N,ct:=N,bk:=D.nx } σ2 H2):=by
 refine⟨fun i m σ H=>m=kvs.length-i/\i<=kvs.length/\Pv i σ H,⟨kvs.length,by simp,AA _,h0⟩,?_⟩;rintro i m σ H ⟨rfl,hi,p⟩;have q:=hl i σ H hi p
 by_cases hlt:i<kvs.length
 .refine .inr ⟨⟨q,hlt⟩,Pv (i+1),fun σ' H' p'=>⟨kvs.length-(i+1),by omega,rfl,hlt,p'⟩,fun x H' y=>?_⟩;obtain⟨t,k,v,e1,e2,e3,e4⟩:=y;subst e3 e4;exact hs i k v t σ _ e1 p e2
 .have e:i=kvs.length:=by omega
  subst e;exact .inl ⟨⟨q,A6 _⟩,hd σ H p⟩
theorem Fun.okR{P:Ab}{w:At}{K:WF}{mg:MO}{base:Heap}{x qual:Str}{st:Stmt}{f:Addr}{fd:Aa}{N ps:List Str}{k:Nat}{sp:Sp}(F:Fun K x qual st f fd)(S:Ju N ps (Ji st))
  (len:∀vs H Q E,sp vs H Q E->vs.length=ps.length)
  (hbody:∀(cdv:A3)(A:AH)(outer:List Env)(s:A9)(H:Hp)(vs:List V)(Q:VK)(E:XK),JdG k (A.deeper (Cm qual (Ji st) s.heap.objs.size f cdv))->sp vs H Q E->
   ∃t,PSs (cxR P w K mg base N qual (Ji st) f cdv A outer s H E) (YO st) t/\t { nx:=fun _ H'=>Q .non H',rt:=Q } (JhZ N vs) H):YU P w K mg base (CXr P w) (k+1) f fd ps sp:=by
 obtain⟨oc,od,kV,doc,pm,an,cdv,ct,osl,rfl,lk,hcd⟩:=F.ex;exact JsX lk hcd S len fun A outer s H vs Q E hr hsp=>hbody cdv A outer s H vs Q E hr hsp
theorem JhU{X:Cx}{x:Str}{n:Int}{pos:Pos}(hg:Gl X x)(h:∃t,X.mg x=some (.int n t))(hd:(x==("__debug__" : Str))=false:=by decide):PE X (.Name x pos) (tC (.int n)):=by
 obtain⟨t,e⟩:=h;exact JqA hg e ⟨t,rfl⟩ hd
end L2
namespace Wb
open PySem PySem.Spec PyProof.Rows L2
structure Jbf(P:Ab)(w:At)(K:WF)(mg:MO)(base:Heap)(CX:CXT)(C:Addr)(m:Str)(ps:List Str)(sp:Sp)(k:Nat)(f:Addr)(fd:Aa):Prop where
 ok:YU P w K mg base CX k f fd ps sp
 meth:Js1 K C m f
 b:Jdj K fd ps []
structure Jmp(P:Ab)(w:At)(K:WF)(mg:MO)(base:Heap)(x:Str)(ps:List Str)(sp:Sp)(k:Nat)(f:Addr)(fd:Aa):Prop where
 ok:YU P w K mg base (CXr P w) k f fd ps sp
 mg:mg x=some (.ref f)
 kp:Cv K (.ref f)=true
 b:Jdj K fd ps []
def ivs(ts:II):List (Key×V):=ts.map fun p=>(Aj p.1,V.int p.2)
theorem JeK(k:Int):∀ts:II,Jak (ivs ts) (Aj k:Key)=(Yl ts k).map V.int
 | []=>rfl
 | p::r=>by
  by_cases c:p.1=k
  .rw[show ivs (p::r)=(Aj p.1,V.int p.2)::ivs r from rfl,YW (p:=((Aj p.1:Key),V.int p.2)) (congrArg Aj c)];simp[Yl,BD,c]
  .rw[show ivs (p::r)=(Aj p.1,V.int p.2)::ivs r from rfl,YV (p:=((Aj p.1:Key),V.int p.2)) (fun z=>c (Aj.inj z)),JeK k r];simp[Yl,BD,c]
theorem Jqo(k:Int)(ts:II):((ivs ts).any fun kv=>decide (kv.1=(Aj k:Key)))=ts.any fun p=>decide (p.1=k):=by
 unfold ivs;rw[K8];congr 1;funext p;simp
theorem Jhh(ts:II)(k x:Int):Jag (ivs ts) (Aj k:Key) (V.int x)=ivs (Y7 ts k x):=by
 unfold Jag Y7;rw[Jqo];split
 .unfold ivs;rw[B2,B2];refine Bm fun p _=>?_
  by_cases c:p.1=k
  .simp[c]
  .simp[c]
 .unfold ivs;rw[AJ];rfl
theorem Jpz(ts:II):(ivs ts).map (·.1)=(ts.map (·.1)).map Aj:=by
 unfold ivs;rw[B2,B2];rfl
theorem Jh2(ts:II):(ivs ts).map (·.2)=(ts.map (·.2)).map V.int:=by
 unfold ivs;rw[B2,B2];rfl
theorem Jc0(ts:II):(ivs ts).length=ts.length:=A2 _
theorem Jdc{α:Type}(ts:List (Int×α))(k:Int)(x:α):(Y7 ts k x).length<=ts.length+1:=by
 unfold Y7;split
 .rw[A2];omega
 .rw[AQ];simp
def Jgj(ts:II)(k x:Int):II:=Y7 ts k ((Yl ts k).getD 0+x)
noncomputable def hbw(days:II):II:=days.foldl (fun acc p=>Jgj acc (p.1/7) p.2) []
noncomputable def JaU(h w:Int)(rates:List (Int×List Bd)):Int:=match Jdm rates w with
 | none=>0
 | some bs=>lv h 0 bs
noncomputable def pbm(hb:II)(last:Int)(rates:List (Int×List Bd)):II:=
 hb.foldl (fun acc p=>if p.1<=last then Jgj acc (p.1/4) (JaU p.2 p.1 rates)else acc) []
noncomputable def nbm(pb:II)(dues:List (Int×Tab)):II:=pb.foldl (fun acc p=>Y7 acc p.1 (Jd6 p.2 (Jdm dues p.1))) []
def srt(ks:List Int):List Int:=ks.mergeSort (fun a b=>decide (a<=b))
noncomputable def JeW(old new:II):II:=((srt (new.map (·.1))).map fun m=>(m,(Yl new m).getD 0-(Yl old m).getD 0)).filter fun p=>decide (p.2≠0)
theorem Jnv{ks rs:List Int}(p:rs.Perm ks)(s:rs.Pairwise (·<=·)):rs=srt ks:=by
 have h1:(srt ks).Perm ks:=Eh ks _;have h2:(srt ks).Pairwise (fun a b=>decide (a<=b)=true):=Fm (fun a b c h1 h2=>by simp at *;omega) (fun a b=>by simp;omega) ks;have h3:(srt ks).Pairwise (·<=·):=h2.imp fun z=>of_decide_eq_true z;exact(p.trans h1.symm).eq_of_pairwise (le:=fun a b=>a<=b) (fun a b _ _ h1 h2=>by omega) s h3
structure Pn where
 days:II
 paid:Int
 last:Option Int
 nets:II
def Pn.nw:Pn:=⟨[],0,none,[]⟩
structure PB where
 keys:List Str
 pn:Str->Pn
 rates:List (Int×List Bd)
 dues:List (Int×Tab)
def PB.new:PB:=⟨[],fun _=>Pn.nw,[],[]⟩
def PB.touch(M:PB)(who:Str):PB:=if who∈M.keys then M else{ M with keys:=M.keys++[who] }
def PB.set(M:PB)(who:Str)(p:Pn):PB:={ M with pn:=fun y=>if y=who then p else M.pn y }
noncomputable def Jbb(M:PB)(who:Str)(last:Int):II:=nbm (pbm (hbw (M.pn who).days) last M.rates) M.dues
def JaZ(M:PB)(who:Str)(last:Int):Int:=((Jbb M who last).map (·.2)).sum
noncomputable def Jpf(M:PB)(who:Str)(week:Int):Int:=JaU ((Yl (hbw (M.pn who).days) week).getD 0) week M.rates
noncomputable def Jdq(M:PB)(who:Str)(week:Int):Bool:=match(M.pn who).last with
 | none=>false
 | some l=>decide (week<l)
noncomputable def Y6(M:PB):JU->Dt×PB
 | .hours who day many=>
  if 0<=many/\many<=24 then
   let M':=(M.touch who).set who { (M.pn who)with days:=Y7 (M.pn who).days day many }
   (.int (Jpf M' who (day/7)),M')
  else(.str "no hours",M)
 | .rate week bs=>if JaX none bs=true then(.str "told",{ M with rates:=Y7 M.rates week bs })else(.str "no table",M)
 | .dues month t=>if Jcx t=true then(.str "told",{ M with dues:=Y7 M.dues month t })else(.str "no table",M)
 | .payday who week=>
  if Jdq M who week=true then(.str "too early",M.touch who)
  else
   let left:=JaZ M who week-(M.pn who).paid
   (.tup [.int (mx 0 left),.int (mn 0 left),.lst ((JeW (M.pn who).nets (Jbb M who week)).map fun p=>.tup [.int p.1,.int p.2])],
    (M.touch who).set who { (M.pn who)with paid:=(M.pn who).paid+mx 0 left,last:=some week,nets:=Jbb M who week })
 | .pay who week=>(.int (Jpf M who week),M.touch who)
 | .net who week=>(.int ((Yl (Jbb M who week) (week/4)).getD 0),M.touch who)
 | .right who week=>(.int (JaZ M who week),M.touch who)
 | .owing who week=>(.int (JaZ M who week-(M.pn who).paid),M.touch who)
 | .paid who=>(.int (M.pn who).paid,M.touch who)
theorem nDP:¬(("days" : Str) = "paid"):=by decide +kernel
theorem nDW:¬(("days" : Str) = "last_week"):=by decide +kernel
theorem nDN:¬(("days" : Str) = "last_nets"):=by decide +kernel
theorem nPW:¬(("paid" : Str) = "last_week"):=by decide +kernel
theorem nPN:¬(("paid" : Str) = "last_nets"):=by decide +kernel
theorem nWN:¬(("last_week" : Str) = "last_nets"):=by decide +kernel
theorem nQR:¬(("people" : Str) = "rates"):=by decide +kernel
theorem nQU:¬(("people" : Str) = "dues"):=by decide +kernel
theorem nRU:¬(("rates" : Str) = "dues"):=by decide +kernel
noncomputable def fP(dd:Addr)(paid:Int)(last:Option Int)(nn:Addr):List (Str×V):=[("days",.ref dd),("paid",.int paid),("last_week",oV last),("last_nets",.ref nn)]
noncomputable def fB(pd rd ud:Addr):List (Str×V):=[("people",.ref pd),("rates",.ref rd),("dues",.ref ud)]
theorem Jc2(dd:Addr)(paid:Int)(last:Option Int)(nn:Addr):Jdi "last_nets" (.ref nn) (Jdi "last_week" (oV last) (Jdi "paid" (.int paid) (Jdi "days" (.ref dd) [])))=fP dd paid last nn:=by
 simp only[Jdi,nDP,nDW,nDN,nPW,nPN,nWN,if_false,fP]
theorem JdK(pd rd ud:Addr):Jdi "dues" (.ref ud) (Jdi "rates" (.ref rd) (Jdi "people" (.ref pd) []))=fB pd rd ud:=by
 simp only[Jdi,nQR,nQU,nRU,if_false,fB]
theorem JjM(dd:Addr)(paid:Int)(last:Option Int)(nn:Addr):(fP dd paid last nn).lookup ("days" : Str)=some (.ref dd):=by rw[<- Jc2];simp only[Yn,nDP,nDW,nDN,if_false,if_true]
theorem Jgc(dd:Addr)(paid:Int)(last:Option Int)(nn:Addr):(fP dd paid last nn).lookup ("paid" : Str)=some (.int paid):=by rw[<- Jc2];simp only[Yn,nPW,nPN,if_false,if_true]
theorem Jjy(dd:Addr)(paid:Int)(last:Option Int)(nn:Addr):(fP dd paid last nn).lookup ("last_week" : Str)=some (oV last):=by rw[<- Jc2];simp only[Yn,nWN,if_false,if_true]
theorem Jnn(dd:Addr)(paid:Int)(last:Option Int)(nn:Addr):(fP dd paid last nn).lookup ("last_nets" : Str)=some (.ref nn):=by rw[<- Jc2];simp only[Yn,if_true]
theorem Jgm(dd:Addr)(paid:Int)(last:Option Int)(nn:Addr){m:Str}(h1:¬m = "days")(h2:¬m = "paid")(h3:¬m = "last_week")(h4:¬m = "last_nets"):(fP dd paid last nn).lookup m=none:=by
 rw[<- Jc2];simp only[Yn,h1,h2,h3,h4,if_false];rfl
theorem Jgd(dd:Addr)(paid x:Int)(last:Option Int)(nn:Addr):Jdi "paid" (.int x) (fP dd paid last nn)=fP dd x last nn:=by simp only[fP,Jdi,nDP,if_false,if_true]
theorem JfE(dd:Addr)(paid x:Int)(last:Option Int)(nn:Addr):Jdi "last_week" (.int x) (fP dd paid last nn)=fP dd paid (some x) nn:=by simp only[fP,Jdi,nDW,nPW,if_false,if_true,oV]
theorem JfN(dd:Addr)(paid:Int)(last:Option Int)(nn x:Addr):Jdi "last_nets" (.ref x) (fP dd paid last nn)=fP dd paid last x:=by simp only[fP,Jdi,nDN,nPN,nWN,if_false,if_true]
theorem Jgk(pd rd ud:Addr):(fB pd rd ud).lookup ("people" : Str)=some (.ref pd):=by rw[<- JdK];simp only[Yn,nQR,nQU,if_false,if_true]
theorem Jfk(pd rd ud:Addr):(fB pd rd ud).lookup ("rates" : Str)=some (.ref rd):=by rw[<- JdK];simp only[Yn,nRU,if_false,if_true]
theorem JjA(pd rd ud:Addr):(fB pd rd ud).lookup ("dues" : Str)=some (.ref ud):=by rw[<- JdK];simp only[Yn,if_true]
theorem Jhw(pd rd ud:Addr){m:Str}(h1:¬m = "people")(h2:¬m = "rates")(h3:¬m = "dues"):(fB pd rd ud).lookup m=none:=by
 rw[<- JdK];simp only[Yn,h1,h2,h3,if_false];rfl
structure YA(CP:Addr)(H:Hp)(p dd nn:Addr)(q:Pn):Prop where
 ob:∃dx,H p=some (.ins CP dx (fP dd q.paid q.last nn))
 days:H dd=some (.dK (ivs q.days))
 nets:H nn=some (.dK (ivs q.nets))
theorem YA.same{CP:Addr}{H H':Hp}{p dd nn:Addr}{q:Pn}(h:YA CP H p dd nn q)(s:JV H H'):YA CP H' p dd nn q:=
 ⟨let ⟨dx,e⟩:=h.ob;⟨dx,s _ _ e⟩,s _ _ h.days,s _ _ h.nets⟩
structure Ad where
 (p dd nn:Addr)
structure BL where
 (b pd rd ud:Addr)
 ad:Str->Ad
def Mu(L:BL)(M:PB)(c:Addr):Prop:=c=L.pd\/c=L.rd\/c=L.ud\/∃w∈M.keys,c=(L.ad w).p\/c=(L.ad w).dd
structure Yd(CB CP:Addr)(H:Hp)(L:BL)(M:PB):Prop where
 ob:∃dx,H L.b=some (.ins CB dx (fB L.pd L.rd L.ud))
 people:H L.pd=some (.dK (M.keys.map fun w=>(Av w,.ref (L.ad w).p)))
 nd:M.keys.Nodup
 rates:Jam (YT H) H L.rd M.rates
 dues:Jam (JbG H) H L.ud M.dues
 per:∀w∈M.keys,YA CP H (L.ad w).p (L.ad w).dd (L.ad w).nn (M.pn w)
 non:∀w,w∉M.keys->M.pn w=Pn.nw
 app:∀v∈M.keys,∀w∈M.keys,v≠w->(L.ad v).p≠(L.ad w).p
 apd:∀v∈M.keys,∀w∈M.keys,v≠w->(L.ad v).dd≠(L.ad w).dd
 apn:∀v∈M.keys,∀w∈M.keys,(L.ad v).dd≠(L.ad w).nn
 pr:L.pd≠L.rd
 pu:L.pd≠L.ud
 ru:L.rd≠L.ud
 dp:∀w∈M.keys,(L.ad w).dd≠L.pd/\(L.ad w).dd≠L.rd/\(L.ad w).dd≠L.ud
 np:∀w∈M.keys,(L.ad w).nn≠L.pd/\(L.ad w).nn≠L.rd/\(L.ad w).nn≠L.ud
theorem Jam.mono{α:Type}{R R':α->V->Prop}{H H':Hp}{d:Addr}{ts:List (Int×α)}(h:Jam R H d ts)(e:H' d=H d)(f:∀x v,R x v->R' x v):Jam R' H' d ts:=by
 obtain⟨kvs,e1,pr⟩:=h;exact⟨kvs,by rw[e];exact e1,JN (fun p q z=>⟨z.1,f _ _ z.2⟩) pr⟩
theorem Yd.same{CB CP:Addr}{H H':Hp}{L:BL}{M:PB}(h:Yd CB CP H L M)(s:JV H H'):Yd CB CP H' L M:=by
 obtain⟨kr,e2,r2⟩:=h.rates;obtain⟨ku,e3,r3⟩:=h.dues;have g2:∀(p:Key×V)(q:Int×List Bd),(p.1=Aj q.1/\YT H q.2 p.2)->(p.1=Aj q.1/\YT H' q.2 p.2):=fun p q ⟨z,a,e,b⟩ =>⟨z,a,e,b.same s⟩;have g3:∀(p:Key×V)(q:Int×Tab),(p.1=Aj q.1/\JbG H q.2 p.2)->(p.1=Aj q.1/\JbG H' q.2 p.2):=fun p q ⟨z,a,c,e,t,b⟩ =>⟨z,a,c,e,s _ _ t,b.same s⟩;exact⟨let ⟨dx,e⟩:=h.ob;⟨dx,s _ _ e⟩,s _ _ h.people,h.nd,⟨kr,s _ _ e2,JN g2 r2⟩,⟨ku,s _ _ e3,JN g3 r3⟩,fun w hw=>(h.per w hw).same s,h.non,h.app,h.apd,h.apn,h.pr,h.pu,h.ru,h.dp,h.np⟩
structure Je7(L:BL)(M M':PB)(L':BL)(H H':Hp):Prop where
 keep:∀c o,H c=some o->¬Mu L M c->H' c=some o
 grow:∀c,Mu L' M' c->Mu L M c\/H c=none
theorem Je7.of_same{L:BL}{M:PB}{H H':Hp}(s:JV H H'):Je7 L M M L H H':=⟨fun c o e _=>s c o e,fun c h=>.inl h⟩
theorem Je7.trans{L L' L'':BL}{M M' M'':PB}{H H' H'':Hp}(a:Je7 L M M' L' H H')(b:Je7 L' M' M'' L'' H' H''):Je7 L M M'' L'' H H'':=by
 refine⟨fun c o e n=>?_,fun c h=>?_⟩
 .refine b.keep c o (a.keep c o e n) fun z=>?_
  rcases a.grow c z with y|y
  .exact n y
  .rw[e]at y;cases y
 .rcases b.grow c h with y|y
  .exact a.grow c y
  .cases e:H c with
   | none=>exact .inr rfl
   | some o=>
    by_cases n:Mu L M c
    .exact .inl n
    .rw[a.keep c o e n]at y;cases y
theorem Yd.mu{CB CP:Addr}{H:Hp}{L:BL}{M:PB}(h:Yd CB CP H L M){c:Addr}(m:Mu L M c):(∃kvs,H c=some (.dK kvs))\/∃dx fs,H c=some (.ins CP dx fs):=by
 rcases m with rfl|rfl|rfl|⟨w,hw,rfl|rfl⟩
 .exact .inl ⟨_,h.people⟩
 .obtain⟨k,e,_⟩:=h.rates;exact .inl ⟨k,e⟩
 .obtain⟨k,e,_⟩:=h.dues;exact .inl ⟨k,e⟩
 .obtain⟨dx,e⟩:=(h.per w hw).ob;exact .inr ⟨dx,_,e⟩
 .exact .inl ⟨_,(h.per w hw).days⟩
theorem JbZ(w:Int):∀(ks:List Int)(b:Option Int),(∀c,b=some c->c<=w)->
  (Yc w b ks=none/\b=none/\∀n∈ks,¬n<=w)\/∃k,Yc w b ks=some k/\k<=w/\(∀c,b=some c->c<=k)/\∀n∈ks,n<=w->n<=k
 | [],none,_=>.inl ⟨rfl,rfl,fun _ h=>nomatch h⟩
 | [],some c,h=>.inr ⟨c,rfl,h c rfl,fun d e=>by cases e;exact CZ _,fun _ h=>nomatch h⟩
 | p::r,none,_=>by
  show(Yc w (if p<=w then some p else none) r=none/\_)\/∃k,Yc w (if p<=w then some p else none) r=some k/\_
  by_cases c:p<=w
  .rw[if_pos c]
   rcases JbZ w r (some p) (fun d e=>by cases e;exact c)with⟨_,e,_⟩|⟨k,h1,h2,h3,h4⟩
   .cases e
   .exact .inr ⟨k,h1,h2,(fun _ e=>nomatch e),fun n hn hw=>by
     rcases Aq.mp hn with rfl|hn
     .exact h3 _ rfl
     .exact h4 n hn hw⟩
  .rw[if_neg c]
   rcases JbZ w r none (fun _ e=>nomatch e)with⟨h1,_,h3⟩|⟨k,h1,h2,_,h4⟩
   .exact .inl ⟨h1,rfl,fun n hn=>by
     rcases Aq.mp hn with rfl|hn
     .exact c
     .exact h3 n hn⟩
   .exact .inr ⟨k,h1,h2,(fun _ e=>nomatch e),fun n hn hw=>by
     rcases Aq.mp hn with rfl|hn
     .exact absurd hw c
     .exact h4 n hn hw⟩
 | p::r,some d,hb=>by
  show(Yc w (if p<=w/\d<p then some p else some d) r=none/\_)\/∃k,Yc w (if p<=w/\d<p then some p else some d) r=some k/\_;have hd:=hb d rfl
  by_cases c:p<=w/\d<p
  .rw[if_pos c]
   rcases JbZ w r (some p) (fun z e=>by cases e;exact c.1)with⟨_,e,_⟩|⟨k,h1,h2,h3,h4⟩
   .cases e
   .have hp:=h3 p rfl
    exact .inr ⟨k,h1,h2,(fun z e=>by cases e;omega),fun n hn hw=>by
     rcases Aq.mp hn with rfl|hn
     .exact hp
     .exact h4 n hn hw⟩
  .rw[if_neg c]
   rcases JbZ w r (some d) (fun z e=>by cases e;exact hd)with⟨_,e,_⟩|⟨k,h1,h2,h3,h4⟩
   .cases e
   .have hp:=h3 d rfl
    exact .inr ⟨k,h1,h2,(fun z e=>by cases e;exact hp),fun n hn hw=>by
     rcases Aq.mp hn with rfl|hn
     .omega
     .exact h4 n hn hw⟩
theorem JqQ{w M:Int}{ks:List Int}(h1:M∈ks)(h2:M<=w)(h3:∀n∈ks,n<=w->n<=M)(mem:∀k,Yc w none ks=some k->k∈ks):Yc w none ks=some M:=by
 rcases JbZ w ks none (fun _ e=>nomatch e)with⟨_,_,h⟩|⟨k,e,hk,_,h⟩
 .exact absurd h2 (h M h1)
 .have a:=h M h1 h2;have b:=h3 k (mem k e) hk;rw[e,show k=M by omega]
theorem JqX{w:Int}{ks:List Int}(h:∀n∈ks,¬n<=w)(mem:∀k,Yc w none ks=some k->k∈ks):Yc w none ks=none:=by
 rcases JbZ w ks none (fun _ e=>nomatch e)with⟨e,_⟩|⟨k,e,hk,_⟩
 .exact e
 .exact absurd hk (h k (mem k e))
theorem Jlc{e u:Int}:∀{bs:List Bd}{lo:Int},wfb lo (bs++[(some u,e)])=false
 | [],lo=>by
  show(decide (lo<u)&&wfb u [])=false;simp[wfb]
 | (none,_)::r,lo=>by
  show(r++[(some u,e)]).isEmpty=false;cases r<;>rfl
 | (some v,_)::r,lo=>by
  show(decide (lo<v)&&wfb v (r++[(some u,e)]))=false;rw[Jlc,Ek]
theorem JcD(bs:List Bd):JaX none bs=(wfb 0 bs&&(bs.map fun b=>decide (0<=b.2)).all id):=by
 unfold JaX;rw[List.all_map];congr 2;funext b;simp
theorem JiA(bs:List Bd)(k:Int):JaX (some k) bs=(JaX none bs&&!(bs.map fun b=>decide (k<b.2)).any id):=by
 rw[JcD];unfold JaX;rw[M8];congr 1;rw[Dk,As,Bi,Bi,Kx,K9];constructor
 .intro h;refine⟨fun x hx=>?_,fun x hx=>?_⟩
  .obtain⟨b,hb,rfl⟩:=Ag.mp hx;have:=h b hb;rw[As]at this;exact this.1
  .obtain⟨b,hb,rfl⟩:=Ag.mp hx;have:=h b hb;rw[As]at this;have:=of_decide_eq_true this.2;simp only[id,decide_eq_true_eq];omega
 .rintro⟨h1,h2⟩ b hb;have a1:=h1 _ (Ag.mpr ⟨b,hb,rfl⟩);have a2:=h2 _ (Ag.mpr ⟨b,hb,rfl⟩);simp only[id,decide_eq_true_eq]at a1 a2;rw[As];exact⟨decide_eq_true a1,decide_eq_true (by omega)⟩
structure JcJ(rates:List (Int×List Bd)):Prop where
 all:∀p∈rates,JaX none p.2=true/\Jbd p.2
 len:rates.length<=1000
structure Jk7(dues:List (Int×Tab)):Prop where
 all:∀p∈dues,Jcx p.2=true/\Jrr p.2
 len:dues.length<=1000
def Je8(p:Int×Int):Dt:=.tup [.int p.1,.int p.2]
theorem Yv.snoc{H:Hp}{d:Dt}{v:V}:∀{l:List Dt}{vs:List V},Yv H l vs->Rep H d v->Yv H (l++[d]) (vs++[v])
 | [],vs,h,r=>by
  have h:vs=[]:=h;subst h;exact⟨v,[],rfl,r,rfl⟩
 | x::l,vs,h,r=>by
  obtain⟨u,t,e,a,b⟩:=h;subst e;exact⟨u,t++[v],rfl,a,Yv.snoc b r⟩
theorem JeI{H H':Hp}(h:∀b xs,H b=some (.tup xs)->H' b=some (.tup xs)):∀{l:II} {vs:List V},Yv H (l.map Je8) vs->Yv H' (l.map Je8) vs
 | [],vs,r=>r
 | p::l,vs,r=>by
  obtain⟨u,t,e,⟨a,ws,ea,ha,u1,t1,e1,h1,u2,t2,e2,h2,h3⟩,b⟩:=r;subst e e1 e2;have h3:t2=[]:=h3;subst h3;exact⟨u,t,rfl,⟨a,_,ea,h _ _ ha,u1,_,rfl,h1,u2,_,rfl,h2,rfl⟩,JeI h b⟩
def era(H:Hp)(b:Addr):Hp:=fun c=>if c=b then none else H c
theorem JeT{H:Hp}{b c:Addr}(h:c≠b):era H b c=H c:=if_neg h
theorem Jlf{H:Hp}{b:Addr}:era H b b=none:=if_pos rfl
theorem Jah.era{H H':Hp}(s:Jah H H')(b:Addr):Jah (era H b) (era H' b):=by
 refine⟨fun c xs e=>?_,fun c xs e=>?_⟩<;>
 .by_cases h:c=b
  .rw[h,Jlf]at e;cases e
  .rw[JeT h]at e ⊢
   first|exact s.1 _ _ e|exact s.2 _ _ e
def JgT(H H':Hp)(d:Dt)(v:V):Prop:=Rep H' d v/\∀b xs,H b=some (.lst xs)->Rep (era H' b) d v
theorem JgT.int{H H':Hp}{i:Int}:JgT H H' (.int i) (.int i):=⟨rfl,fun _ _ _=>rfl⟩
theorem JgT.str{H H':Hp}{x:Str}:JgT H H' (.str x) (.str x):=⟨rfl,fun _ _ _=>rfl⟩
theorem JgT.from{H H1 H':Hp}{d:Dt}{v:V}(h:JgT H1 H' d v)(s:Jah H H1):JgT H H' d v:=⟨h.1,fun b xs e=>h.2 b xs (s.2 b xs e)⟩
theorem JdS{H:Hp}{l:II}{a b:Addr}{xs:List V}(h:Rep H (.lst (l.map Je8)) (.ref a))(n:b≠a)(e:H b=some (.lst xs)):Rep (era H b) (.lst (l.map Je8)) (.ref a):=by
 obtain⟨a',vs,e1,h1,r⟩:=h;cases e1;refine⟨a,vs,rfl,by rw[JeT n.symm];exact h1,JeI (fun c ys z=>?_) r⟩;rw[JeT (Y1 z e (fun y=>nomatch y))];exact z
theorem JeH{CB CP:Addr}{H H':Hp}{L L':BL}{M M':PB}(h:Yd CB CP H L M)(k:Je7 L M M' L' H H'):Jah H H':=by
 refine⟨fun b xs e=>k.keep b _ e fun m=>?_,fun b xs e=>k.keep b _ e fun m=>?_⟩<;>
 .rcases h.mu m with⟨_,z⟩|⟨_,_,z⟩<;>(rw[e]at z;cases z)
section
variable {α:Type}
theorem JhK(k:Int):Yl ([]:List (Int×α)) k=none:=rfl
theorem Y9(p:Int×α)(r:List (Int×α))(k:Int):Yl (p::r) k=if p.1=k then some p.2 else Yl r k:=by
 unfold Yl;rw[BD]
 by_cases c:p.1=k<;>simp[c]
theorem JcF{k:Int}:∀{ts:List (Int×α)},Yl ts k=none↔k∉ts.map (·.1)
 | []=>by simp[JhK]
 | p::r=>by
  rw[Y9,Al,Aq]
  by_cases c:p.1=k
  .simp[c]
  .rw[if_neg c,JcF];constructor
   .rintro h (e|e)
    .exact c e.symm
    .exact h e
   .intro h e;exact h (.inr e)
theorem Jcj{k:Int}{x:α}:∀{ts:List (Int×α)},Yl ts k=some x->(k,x)∈ts
 | [],h=>by cases h
 | p::r,h=>by
  rw[Y9]at h
  by_cases c:p.1=k
  .rw[if_pos c]at h
   have:p=(k,x):=by
    obtain⟨a,b⟩:=p;have c:a=k:=c;have h:b=x:=Ai h;rw[c,h]
   rw[this];exact Az
  .rw[if_neg c]at h;exact AY _ (Jcj h)
theorem JfG{k:Int}{x:α}:∀{ts:List (Int×α)},(ts.map (·.1)).Nodup->(k,x)∈ts->Yl ts k=some x
 | p::r,nd,h=>by
  rw[Al,AL]at nd;rw[Y9]
  rcases Aq.mp h with e|h
  .rw[<- e,if_pos rfl]
  .rw[if_neg (fun c=>nd.1 (by rw[c];exact Ag.mpr ⟨_,h,rfl⟩))];exact JfG nd.2 h
theorem Jga(ts:List (Int×α))(k:Int)(x:α):(Y7 ts k x).map (·.1)=if k∈ts.map (·.1)then ts.map (·.1)else ts.map (·.1)++[k]:=by
 unfold Y7
 have e:((ts.any fun p=>decide (p.1=k))=true)↔k∈ts.map (·.1):=by
  rw[B9,Ag];constructor
  .rintro⟨p,h,e⟩;exact⟨p,h,of_decide_eq_true e⟩
  .rintro⟨p,h,e⟩;exact⟨p,h,decide_eq_true e⟩
 by_cases c:k∈ts.map (·.1)
 .rw[if_pos c,if_pos (e.mpr c),B2];refine Bm fun p _=>?_;show(if p.1=k then(p.1,x)else p).1=p.1;split<;>rfl
 .rw[if_neg c,if_neg (fun z=>c (e.mp z)),AJ];rfl
theorem JjN{ts:List (Int×α)}(nd:(ts.map (·.1)).Nodup)(k:Int)(x:α):((Y7 ts k x).map (·.1)).Nodup:=by
 rw[Jga];split
 .exact nd
 .rename_i c;refine CK.mpr ⟨nd,by simp,fun a ha b hb=>?_⟩;rw[A5.mp hb];rintro rfl;exact c ha
theorem Jem(ts:List (Int×α))(k j:Int)(x:α):Yl (Y7 ts k x) j=if j=k then some x else Yl ts j:=by
 unfold Y7
 by_cases c:(ts.any fun p=>decide (p.1=k))=true
 .rw[if_pos c]
  have gen:∀l:List (Int×α),Yl (l.map fun p=>if p.1=k then(p.1,x)else p) j=if j=k then(if(l.any fun p=>decide (p.1=k))=true then some x else none)else Yl l j:=by
   intro l
   induction l with
   | nil=>simp[JhK]
   | cons p r ih=>
    rw[Al,Y9,ih,Y9,BM]
    by_cases c1:p.1=k
    .by_cases c2:j=k
     .simp[c1,c2]
     .have:¬k=j:=fun z=>c2 z.symm;simp[c1,c2,this]
    .by_cases c2:j=k
     .rw[if_neg c1,c2,if_neg c1,if_pos rfl,if_pos rfl,decide_eq_false c1,HK]
     .rw[if_neg c1,if_neg c2,if_neg c2]
  rw[gen,if_pos c]
 .rw[if_neg c]
  have gen:∀l:List (Int×α),Yl (l++[(k,x)]) j=match Yl l j with|some y=>some y|none=>if j=k then some x else none:=by
   intro l
   induction l with
   | nil=>
    show Yl [(k,x)] j=_;rw[Y9,JhK]
    by_cases c2:k=j
    .simp[c2]
    .have c3:¬j=k:=fun z=>c2 z.symm;simp[c2,c3]
   | cons p r ih=>
    rw[Fp,Y9,ih,Y9]
    by_cases c1:p.1=j
    .simp[c1]
    .simp[c1]
  rw[gen]
  by_cases c2:j=k
  .have:Yl ts j=none:=JcF.mpr fun h=>c (B9.mpr (by
    obtain⟨p,hp,e⟩:=Ag.mp h
    exact⟨p,hp,decide_eq_true (e.trans c2)⟩))
   rw[this]
  .rw[if_neg c2];cases Yl ts j<;>simp[c2]
end
theorem Jcn{α:Type}{ts:List (Int×α)}{k:Int}{x:α}{p:Int×α}(h:p∈Y7 ts k x):p=(k,x)\/p∈ts:=by
 unfold Y7 at h;split at h
 .obtain⟨q,hq,e⟩:=Ag.mp h;split at e
  .rename_i c;exact .inl (by rw[<- e,c])
  .exact .inr (by rw[<- e];exact hq)
 .rcases Ae.mp h with h|h
  .exact .inr h
  .exact .inl (A5.mp h)
noncomputable def Jcv(g f:Int×Int->Int)(l:II)(acc:II):II:=l.foldl (fun acc p=>Jgj acc (g p) (f p)) acc
section
variable {g f:Int×Int→Int}
theorem Jbz(p:Int×Int)(l acc:II):Jcv g f (p::l) acc=Jcv g f l (Jgj acc (g p) (f p)):=rfl
theorem JcH:∀(l:II) {acc:II},(acc.map (·.1)).Nodup->((Jcv g f l acc).map (·.1)).Nodup
 | [],_,h=>h
 | p::l,_,h=>by rw[Jbz];exact JcH l (JjN h _ _)
theorem Jex(k:Int):∀(l acc:II),(Yl (Jcv g f l acc) k).getD 0=(Yl acc k).getD 0+((l.filter fun p=>decide (g p=k)).map f).sum
 | [],acc=>by simp[Jcv]
 | p::l,acc=>by
  rw[Jbz,Jex k l,Jgj,Jem,Cw]
  by_cases c:g p=k
  .rw[if_pos c.symm,decide_eq_true c,if_pos rfl,Al,Cz,c,Dm];omega
  .rw[if_neg (fun z=>c z.symm),decide_eq_false c,if_neg (by decide)]
theorem Jct(k:Int):∀(l acc:II),k∈(Jcv g f l acc).map (·.1)↔k∈acc.map (·.1)\/∃p∈l,g p=k
 | [],acc=>by simp[Jcv]
 | p::l,acc=>by
  rw[Jbz,Jct k l,Jgj,Jga];constructor
  .rintro(h|⟨q,hq,e⟩)
   .split at h
    .exact .inl h
    .rcases Ae.mp h with h|h
     .exact .inl h
     .exact .inr ⟨p,Az,(A5.mp h).symm⟩
   .exact .inr ⟨q,AY _ hq,e⟩
  .rintro(h|⟨q,hq,e⟩)
   .left
    split
    .exact h
    .exact Ba _ h
   .rcases Aq.mp hq with rfl|hq
    .left
     split
     .rename_i c;rw[<- e];exact c
     .rw[e];exact Ah _ Az
    .exact .inr ⟨q,hq,e⟩
theorem Jb5:∀(l acc:II),(Jcv g f l acc).length<=acc.length+l.length
 | [],acc=>A6 _
 | p::l,acc=>by
  rw[Jbz];have a:=Jb5 l (Jgj acc (g p) (f p));have b:=Jdc acc (g p) ((Yl acc (g p)).getD 0+f p);unfold Jgj at a;rw[AN];unfold Jgj;omega
theorem JcL(C:Int)(hC:0<=C):∀(l:II) (acc:II) (B:Int),0<=B->(∀p∈acc,0<=p.2/\p.2<=B)->(∀p∈l,0<=f p/\f p<=C)->∀p∈Jcv g f l acc,0<=p.2/\p.2<=B+l.length*C
 | [],acc,B,hB,ha,_=>fun p hp=>by
  have:=ha p hp;simp only[CY];omega
 | q::l,acc,B,hB,ha,hl=>fun p hp=>by
  rw[Jbz]at hp;have hq:=hl q Az
  have:=JcL C hC l (Jgj acc (g q) (f q)) (B+C) (by omega) (fun z hz=>by
   rcases Jcn hz with e|hz
   .rw[e]
    cases e2:Yl acc (g q)with
    | none=>simp only[Fl];omega
    | some x=>
     have:=ha _ (Jcj e2);simp only[Dm];omega
   .have:=ha z hz
    omega) (fun z hz=>hl z (AY _ hz)) p hp
  have e:((q::l).length:Int)*C=C+l.length*C:=by
   rw[AN,Int.natCast_add,Int.add_mul];omega
  rw[e];omega
end
theorem JgU(days:II):hbw days=Jcv (fun p=>p.1/7) (·.2) days []:=rfl
theorem JiV(hb:II)(last:Int)(rates:List (Int×List Bd)):pbm hb last rates=Jcv (fun p=>p.1/4) (fun p=>JaU p.2 p.1 rates) (hb.filter fun p=>decide (p.1<=last)) []:=by
 unfold pbm Jcv;rw[List.foldl_filter];congr 1;funext acc p;simp
structure Jqb(q:Pn):Prop where
 nd:(q.days.map (·.1)).Nodup
 val:∀p∈q.days,0<=p.2/\p.2<=24
 len:q.days.length<=300
theorem JmA{q:Pn}(h:Jqb q):((hbw q.days).map (·.1)).Nodup/\(∀p∈hbw q.days,0<=p.2/\p.2<=7200)/\(hbw q.days).length<=q.days.length:=by
 rw[JgU];refine⟨JcH _ BZ,fun p hp=>?_,?_⟩
 .have a:=JcL 24 (by decide) q.days [] 0 (by decide) (fun _ z=>nomatch z) h.val p hp;have b:=h.len;omega
 .have:=Jb5 (g:=fun p=>p.1/7) (f:=fun p=>p.2) q.days [];simpa using this
theorem JqP{q:Pn}(h:Jqb q)(w:Int):0<=(Yl (hbw q.days) w).getD 0/\(Yl (hbw q.days) w).getD 0<=7200:=by
 cases e:Yl (hbw q.days) w with
 | none=>simp
 | some x=>exact(JmA h).2.1 _ (Jcj e)
theorem Jh4{α:Type}{ts:List (Int×α)}{w:Int}{x:α}(h:Jdm ts w=some x):∃k,(k,x)∈ts:=by
 unfold Jdm at h
 cases e:Yc w none (ts.map (·.1))with
 | none=>rw[e]at h;cases h
 | some k=>rw[e]at h;exact⟨k,Jcj h⟩
theorem Jod{rates:List (Int×List Bd)}(ok:JcJ rates){h:Int}(h0:0<=h)(h1:h<=7200)(w:Int):0<=JaU h w rates/\JaU h w rates<=10^66:=by
 unfold JaU
 cases e:Jdm rates w with
 | none=>exact⟨CZ _,(by decide:(0:Int)<=10^66)⟩
 | some bs=>
  obtain⟨k,hm⟩:=Jh4 e;obtain⟨c1,c2⟩:=ok.all _ hm;have hw:=Jck c1;have a:=Jrm (10^62) (by decide) bs h 0 hw.1 fun b hb=>⟨hw.2 b hb,by have:=c2.each b hb;have:=hw.2 b hb;omega⟩;refine⟨a.1,Kq a.2 ?_⟩
  have:mx 0 (h-0)<=7200:=by unfold mx;split<;>omega
  exact Kq (CW this (by decide)) (show(10:Int)^62*7200<=10^66 by decide)
theorem Jn4{q:Pn}(h:Jqb q){rates:List (Int×List Bd)}(ok:JcJ rates)(last:Int) :
  ((pbm (hbw q.days) last rates).map (·.1)).Nodup/\(∀p∈pbm (hbw q.days) last rates,0<=p.2/\p.2<10^102)/\(pbm (hbw q.days) last rates).length<=q.days.length:=by
 obtain⟨b1,b2,b3⟩:=JmA h;rw[JiV];have hl:((hbw q.days).filter fun p=>decide (p.1<=last)).length<=q.days.length:=B0 (BK _ _) b3;refine⟨JcH _ BZ,fun p hp=>?_,?_⟩
 .have a:=JcL (10^66) (by decide) ((hbw q.days).filter fun p=>decide (p.1<=last)) [] 0 (by decide) (fun _ z=>nomatch z) (fun z hz=>by
   have:=b2 z (B5.mp hz).1
   exact Jod ok this.1 this.2 _) p hp
  have c:=h.len;refine⟨a.1,D9 a.2 ?_⟩
  have d:(((hbw q.days).filter fun p=>decide (p.1<=last)).length:Int)<=300:=by omega
  refine D9 (b:=0+300*10^66) ?_ (by decide);have:=Int.mul_le_mul_of_nonneg_right d (by decide:(0:Int)<=10^66);omega
 .have:=Jb5 (g:=fun p=>p.1/4) (f:=fun p=>JaU p.2 p.1 rates) ((hbw q.days).filter fun p=>decide (p.1<=last)) [];simp only[CY,Nat.zero_add]at this;omega
theorem Jm2(dues:List (Int×Tab)):∀(pb acc:II),(pb.map (·.1)).Nodup->(∀k∈pb.map (·.1),k∉acc.map (·.1))->
  pb.foldl (fun acc p=>Y7 acc p.1 (Jd6 p.2 (Jdm dues p.1))) acc=acc++pb.map fun p=>(p.1,Jd6 p.2 (Jdm dues p.1))
 | [],acc,_,_=>by simp
 | p::l,acc,nd,h=>by
  rw[Al,AL]at nd
  have e:Y7 acc p.1 (Jd6 p.2 (Jdm dues p.1))=acc++[(p.1,Jd6 p.2 (Jdm dues p.1))]:=by
   unfold Y7;refine if_neg fun z=>?_;obtain⟨q,hq,e⟩:=B9.mp z;exact h p.1 Az (Ag.mpr ⟨q,hq,of_decide_eq_true e⟩)
  rw[List.foldl_cons,e,Jm2 dues l _ nd.2 (fun k hk=>?_),C5]
  .rfl
  .rw[AJ,Ae];rintro(z|z)
   .exact h k (AY _ hk) z
   .have z:k=p.1:=by simpa using z
    rw[z]at hk;exact nd.1 hk
theorem JgI{pb:II}(dues:List (Int×Tab))(nd:(pb.map (·.1)).Nodup):nbm pb dues=pb.map fun p=>(p.1,Jd6 p.2 (Jdm dues p.1)):=by
 unfold nbm;rw[Jm2 dues pb [] nd fun _ _ z=>nomatch z];rfl
theorem Jfl{α:Type}{R:α->V->Prop}{kvs:List (Key×V)}{ts:List (Int×α)}(pr:BV (fun(p:Key×V)(q:Int×α)=>p.1=Aj q.1/\R q.2 p.2) kvs ts){k:Int}{v:V}{x:α}(r:R x v) :
  BV (fun(p:Key×V)(q:Int×α)=>p.1=Aj q.1/\R q.2 p.2) (Jag kvs (Aj k:Key) v) (Y7 ts k x):=by
 unfold Jag Y7
 have any:∀{kvs:List (Key×V)} {ts:List (Int×α)},BV (fun(p:Key×V)(q:Int×α)=>p.1=Aj q.1/\R q.2 p.2) kvs ts->(kvs.any fun kv=>decide (kv.1=(Aj k:Key)))=ts.any fun p=>decide (p.1=k):=by
  intro kvs ts pr
  induction pr with
  | nil=>rfl
  | cons q t ih=>
   rw[BM,BM,ih,q.1];congr 1;simp
 have app:∀{kvs:List (Key×V)} {ts:List (Int×α)},BV (fun(p:Key×V)(q:Int×α)=>p.1=Aj q.1/\R q.2 p.2) kvs ts->BV (fun(p:Key×V)(q:Int×α)=>p.1=Aj q.1/\R q.2 p.2) (kvs++[((Aj k:Key),v)]) (ts++[(k,x)]):=by
  intro kvs ts pr
  induction pr with
  | nil=>exact .cons ⟨rfl,r⟩ .nil
  | cons q t ih=>exact .cons q ih
 have mp:∀{kvs:List (Key×V)} {ts:List (Int×α)},BV (fun(p:Key×V)(q:Int×α)=>p.1=Aj q.1/\R q.2 p.2) kvs ts->
   BV (fun(p:Key×V)(q:Int×α)=>p.1=Aj q.1/\R q.2 p.2) (kvs.map fun kv=>if kv.1=(Aj k:Key)then(kv.1,v)else kv) (ts.map fun p=>if p.1=k then(p.1,x)else p):=by
  intro kvs ts pr
  induction pr with
  | nil=>exact .nil
  | @cons p q ps qs h t ih=>
   rw[Al,Al];refine .cons ?_ ih
   by_cases c:q.1=k
   .rw[if_pos c,if_pos (by rw[h.1,c])];exact⟨h.1,r⟩
   .rw[if_neg c,if_neg (by rw[h.1];exact fun z=>c (Aj.inj z))];exact h
 rw[any pr];split
 .exact mp pr
 .exact app pr
structure JbS(n:Nat)(M:PB):Prop where
 nd:∀w,((M.pn w).days.map (·.1)).Nodup
 val:∀w,∀p∈(M.pn w).days,0<=p.2/\p.2<=24
 dl:∀w,(M.pn w).days.length<=n
 ra:∀p∈M.rates,JaX none p.2=true/\Jbd p.2
 rl:M.rates.length<=n
 du:∀p∈M.dues,Jcx p.2=true/\Jrr p.2
 ul:M.dues.length<=n
 kl:M.keys.length<=n
section
variable {n:Nat} {M:PB}
theorem JbS.pn(h:JbS n M)(hn:n<=300)(w:Str):Jqb (M.pn w):=⟨h.nd w,h.val w,B0 (h.dl w) hn⟩
theorem JbS.rates(h:JbS n M)(hn:n<=300):JcJ M.rates:=⟨h.ra,by have:=h.rl;omega⟩
theorem JbS.dues(h:JbS n M)(hn:n<=300):Jk7 M.dues:=⟨h.du,by have:=h.ul;omega⟩
theorem JbS.new:JbS 0 PB.new:=⟨fun _=>BZ,(fun _ _ h=>nomatch h),fun _=>A6 _,(fun _ h=>nomatch h),A6 _,(fun _ h=>nomatch h),A6 _,A6 _⟩
theorem JbS.le{m:Nat}(h:JbS n M)(hm:n<=m):JbS m M:=⟨h.nd,h.val,fun w=>B0 (h.dl w) hm,h.ra,B0 h.rl hm,h.du,B0 h.ul hm,B0 h.kl hm⟩
theorem JbT(M:PB)(who:Str):who∈(M.touch who).keys:=by
 unfold PB.touch;split
 .assumption
 .exact Ah _ Az
theorem Jg9{who:Str}(h:who∈M.keys):M.touch who=M:=by
 unfold PB.touch;rw[if_pos h]
theorem Yr(M:PB)(who:Str):(M.touch who).pn=M.pn:=by
 unfold PB.touch;split<;>rfl
theorem Ja3(M:PB)(who:Str):(M.touch who).rates=M.rates:=by
 unfold PB.touch;split<;>rfl
theorem Jbr(M:PB)(who:Str):(M.touch who).dues=M.dues:=by
 unfold PB.touch;split<;>rfl
theorem JmK(M:PB)(who:Str):(M.touch who).keys.length<=M.keys.length+1:=by
 unfold PB.touch;split
 .omega
 .simp
theorem JbS.touch(h:JbS n M)(who:Str):JbS (n+1) (M.touch who):=by
 refine⟨fun w=>?_,fun w=>?_,fun w=>?_,?_,?_,?_,?_,?_⟩
 .rw[Yr];exact h.nd w
 .rw[Yr];exact h.val w
 .rw[Yr];exact B1 (h.dl w)
 .rw[Ja3];exact h.ra
 .rw[Ja3];exact B1 h.rl
 .rw[Jbr];exact h.du
 .rw[Jbr];exact B1 h.ul
 .have:=JmK M who;have:=h.kl;omega
end
def Jal:JU->Prop
 | .rate _ bs=>Jbd bs
 | .dues _ t=>Jrr t
 | _=>True
theorem JdI{q:Pn}{day many:Int}(h0:0<=many/\many<=24)(hv:∀p∈q.days,0<=p.2/\p.2<=24):∀p∈Y7 q.days day many,0<=p.2/\p.2<=24:=fun p hp=>by
 rcases Jcn hp with e|hp
 .rw[e];exact h0
 .exact hv p hp
theorem JbS.set{n:Nat}{M:PB}(h:JbS n M){who:Str}{q:Pn}(h1:(q.days.map (·.1)).Nodup)(h2:∀p∈q.days,0<=p.2/\p.2<=24)(h3:q.days.length<=n):JbS n (M.set who q):=by
 refine⟨fun w=>?_,fun w=>?_,fun w=>?_,h.ra,h.rl,h.du,h.ul,h.kl⟩
 .show(((if w=who then q else M.pn w)).days.map (·.1)).Nodup;split
  .exact h1
  .exact h.nd w
 .show∀p∈(if w=who then q else M.pn w).days,_;split
  .exact h2
  .exact h.val w
 .show(if w=who then q else M.pn w).days.length<=n;split
  .exact h3
  .exact h.dl w
section
variable {M:PB} {who:Str} {day many week month:Int} {bs:List Bd} {t:Tab}
theorem Jd5(c:0<=many/\many<=24):Y6 M (.hours who day many)=(.int (Jpf ((M.touch who).set who { (M.pn who)with days:=Y7 (M.pn who).days day many }) who (day/7)),(M.touch who).set who { (M.pn who)with days:=Y7 (M.pn who).days day many }):=if_pos c
theorem JdH(c:¬(0<=many/\many<=24)):Y6 M (.hours who day many)=(.str "no hours",M):=if_neg c
theorem Jhk(c:JaX none bs=true):Y6 M (.rate week bs)=(.str "told",{ M with rates:=Y7 M.rates week bs }):=if_pos c
theorem Jfe(c:JaX none bs=false):Y6 M (.rate week bs)=(.str "no table",M):=if_neg (by rw[c];decide)
theorem Jhj(c:Jcx t=true):Y6 M (.dues month t)=(.str "told",{ M with dues:=Y7 M.dues month t }):=if_pos c
theorem Jfq(c:Jcx t=false):Y6 M (.dues month t)=(.str "no table",M):=if_neg (by rw[c];decide)
theorem Jfm(c:Jdq M who week=true):Y6 M (.payday who week)=(.str "too early",M.touch who):=if_pos c
theorem JdW(c:Jdq M who week=false):Y6 M (.payday who week) =
  (.tup [.int (mx 0 (JaZ M who week-(M.pn who).paid)),.int (mn 0 (JaZ M who week-(M.pn who).paid)),.lst ((JeW (M.pn who).nets (Jbb M who week)).map Je8)],
   (M.touch who).set who { (M.pn who)with paid:=(M.pn who).paid+mx 0 (JaZ M who week-(M.pn who).paid),last:=some week,nets:=Jbb M who week }):=if_neg (by rw[c];decide)
end
theorem JhL{n:Nat}{M:PB}(h:JbS n M){d:JU}(hd:Jal d):JbS (n+1) (Y6 M d).2:=by
 cases d with
 | hours who day many=>
  by_cases c:0<=many/\many<=24
  .rw[Jd5 c];refine(h.touch who).set (JjN (h.nd who) _ _) (JdI c (h.val who)) ?_;have:=Jdc (M.pn who).days day many;have:=h.dl who;show(Y7 (M.pn who).days day many).length<=n+1;omega
  .rw[JdH c];exact h.le (D4 n)
 | rate week bs=>
  cases c:JaX none bs with
  | true=>
   rw[Jhk c];refine⟨h.nd,h.val,fun w=>B1 (h.dl w),fun p hp=>?_,?_,h.du,B1 h.ul,B1 h.kl⟩
   .rcases Jcn hp with e|hp
    .rw[e];exact⟨c,hd⟩
    .exact h.ra p hp
   .have:=Jdc M.rates week bs;have:=h.rl;show(Y7 M.rates week bs).length<=n+1;omega
  | false=>
   rw[Jfe c];exact h.le (D4 n)
 | dues month t=>
  cases c:Jcx t with
  | true=>
   rw[Jhj c];refine⟨h.nd,h.val,fun w=>B1 (h.dl w),h.ra,B1 h.rl,fun p hp=>?_,?_,B1 h.kl⟩
   .rcases Jcn hp with e|hp
    .rw[e];exact⟨c,hd⟩
    .exact h.du p hp
   .have:=Jdc M.dues month t;have:=h.ul;show(Y7 M.dues month t).length<=n+1;omega
  | false=>
   rw[Jfq c];exact h.le (D4 n)
 | payday who week=>
  cases c:Jdq M who week with
  | true=>
   rw[Jfm c];exact h.touch who
  | false=>
   rw[JdW c];exact(h.touch who).set (h.nd who) (h.val who) (B1 (h.dl who))
 | pay who week=>exact h.touch who
 | net who week=>exact h.touch who
 | right who week=>exact h.touch who
 | owing who week=>exact h.touch who
 | paid who=>exact h.touch who
theorem Jlh{CB CP:Addr}{H H':Hp}{L:BL}{M:PB}{who:Str}{nn:Addr}{q:Pn}(h:Yd CB CP H L M)(hw:who∈M.keys)(kp:∀b o,H b=some o->b≠(L.ad who).p->b≠(L.ad who).dd->H' b=some o)
  (hp:YA CP H' (L.ad who).p (L.ad who).dd nn q) (hn:nn=(L.ad who).nn\/H nn=none) :
  ∃L':BL,L'.b=L.b/\Yd CB CP H' L' (M.set who q)/\Je7 L M (M.set who q) L' H H':=by
 let L':BL:={ L with ad:=fun y=>if y=who then⟨(L.ad who).p,(L.ad who).dd,nn⟩else L.ad y }
 have adw:L'.ad who=⟨(L.ad who).p,(L.ad who).dd,nn⟩:=if_pos rfl;have ado:∀v,v≠who->L'.ad v=L.ad v:=fun v hv=>if_neg hv
 have ap:∀v,(L'.ad v).p=(L.ad v).p:=fun v=>by
  by_cases c:v=who
  .rw[c,adw]
  .rw[ado v c]
 have add:∀v,(L'.ad v).dd=(L.ad v).dd:=fun v=>by
  by_cases c:v=who
  .rw[c,adw]
  .rw[ado v c]
 obtain⟨⟨dw,e1⟩,e2,e3⟩:=h.per who hw;obtain⟨kr,er,rr⟩:=h.rates;obtain⟨ku,eu,ru⟩:=h.dues;obtain⟨dxb,eb⟩:=h.ob;have tup:∀b xs,H b=some (.tup xs)->H' b=some (.tup xs):=fun b xs e=>kp b _ e (Y1 e e1 fun z=>nomatch z) (Y1 e e2 fun z=>nomatch z);have bsame:∀a bs,JG H a bs->JG H' a bs:=fun a bs ⟨ps,h1,h2,h3⟩ =>⟨ps,tup _ _ h1,h2,fun i p b a1 a2=>tup _ _ (h3 i p b a1 a2)⟩
 have nnd:∀v∈M.keys,(L.ad v).dd≠nn:=fun v hv=>by
  rcases hn with e|e
  .rw[e];exact h.apn v hv who hw
  .exact Jh (h.per v hv).days e
 have nnp:nn≠L.pd/\nn≠L.rd/\nn≠L.ud:=by
  rcases hn with e|e
  .rw[e];exact h.np who hw
  .exact⟨(Jh h.people e).symm,(Jh er e).symm,(Jh eu e).symm⟩
 have dq:=h.dp who hw
 refine⟨L',rfl,⟨⟨dxb,?_⟩,?_,h.nd,⟨kr,?_,JN (fun p q ⟨z,a,e,b⟩ =>⟨z,a,e,bsame _ _ b⟩) rr⟩,⟨ku,?_,JN (fun p q ⟨z,a,c,e,t,b⟩ =>⟨z,a,c,e,tup _ _ t,bsame _ _ b⟩) ru⟩,fun v hv=>?_,fun v hv=>?_,
  fun v hv u hu n=>by rw[ap,ap];exact h.app v hv u hu n,fun v hv u hu n=>by rw[add,add];exact h.apd v hv u hu n,fun v hv u hu=>?_,h.pr,h.pu,h.ru,fun v hv=>by rw[add];exact h.dp v hv,fun v hv=>?_⟩,?_⟩
 .exact kp _ _ eb (Y1 eb e1 fun z=>by injection z with _ _ z;exact absurd (congrArg Bn z) (by simp[fB,fP])) (Y1 eb e2 fun z=>nomatch z)
 .have:=kp _ _ h.people (Y1 h.people e1 fun z=>nomatch z) dq.1.symm;show H' L.pd=some (.dK (M.keys.map fun w=>(Av w,.ref (L'.ad w).p)));rw[this];congr 2
  exact Bm fun v _=>by rw[ap]
 .exact kp _ _ er (Y1 er e1 fun z=>nomatch z) dq.2.1.symm
 .exact kp _ _ eu (Y1 eu e1 fun z=>nomatch z) dq.2.2.symm
 .show YA CP H' (L'.ad v).p (L'.ad v).dd (L'.ad v).nn (if v=who then q else M.pn v)
  by_cases c:v=who
  .rw[if_pos c,c,adw];exact hp
  .rw[if_neg c,ado v c];obtain⟨⟨dv,a1⟩,a2,a3⟩:=h.per v hv;have b1:=h.app v hv who hw c;have b2:=h.apd v hv who hw c;exact⟨⟨dv,kp _ _ a1 b1 (Y1 a1 e2 fun z=>nomatch z)⟩,kp _ _ a2 (Y1 a2 e1 fun z=>nomatch z) b2,kp _ _ a3 (Y1 a3 e1 fun z=>nomatch z) (h.apn who hw v hv).symm⟩
 .show(if v=who then q else M.pn v)=Pn.nw;rw[if_neg fun z=>hv (by rw[z];exact hw)];exact h.non v hv
 .rw[add]
  by_cases c:u=who
  .rw[c,adw];exact nnd v hv
  .rw[ado u c];exact h.apn v hv u hu
 .by_cases c:v=who
  .rw[c,adw];exact nnp
  .rw[ado v c];exact h.np v hv
 .refine⟨fun c o e n=>kp c o e (fun z=>n (.inr (.inr (.inr ⟨who,hw,.inl z⟩)))) (fun z=>n (.inr (.inr (.inr ⟨who,hw,.inr z⟩)))),fun c z=>.inl ?_⟩
  rcases z with z|z|z|⟨v,hv,z⟩
  .exact .inl z
  .exact .inr (.inl z)
  .exact .inr (.inr (.inl z))
  .rw[ap,add]at z;exact .inr (.inr (.inr ⟨v,hv,z⟩))
def JcB(M:PB)(ds:List JU):PB:=ds.foldl (fun M d=>(Y6 M d).2) M
def outs:PB->List JU->List Dt
 | _,[]=>[]
 | M,d::r=>(Y6 M d).1::outs (Y6 M d).2 r
theorem Jn3(M:PB)(ds:List JU)(d:JU):JcB M (ds++[d])=(Y6 (JcB M ds) d).2:=by
 unfold JcB;rw[CA];rfl
theorem Jhn:∀{ds:List JU}{n:Nat}{M:PB},JbS n M->(∀d∈ds,Jal d)->JbS (n+ds.length) (JcB M ds)
 | [],n,M,h,_=>h
 | d::r,n,M,h,hd=>by
  have:=Jhn (ds:=r) (JhL h (hd d Az)) fun e he=>hd e (AY _ he);rw[AN,show n+(r.length+1)=n+1+r.length by omega];exact this
theorem Ji3{CB CP:Addr}{H:Hp}{L:BL}{M:PB}{a:Addr}{xs:List V}{o:HO}(h:Yd CB CP H L M)(e:H a=some (.lst xs)):Yd CB CP (upd H a o) L M:=by
 have up:∀b u,H b=some u->(∀ys,u≠.lst ys)->upd H a o b=some u:=fun b u z n=>by
  rw[Jg (Y1 z e (n xs))];exact z
 have bsame:∀a' bs,JG H a' bs->JG (upd H a o) a' bs:=fun a' bs ⟨ps,h1,h2,h3⟩ =>⟨ps,up _ _ h1 (fun _ z=>nomatch z),h2,fun i p b a1 a2=>up _ _ (h3 i p b a1 a2) (fun _ z=>nomatch z)⟩;obtain⟨kr,er,rr⟩:=h.rates;obtain⟨ku,eu,ru⟩:=h.dues;obtain⟨dx,eb⟩:=h.ob
 refine⟨⟨dx,up _ _ eb (fun _ z=>nomatch z)⟩,up _ _ h.people (fun _ z=>nomatch z),h.nd,⟨kr,up _ _ er (fun _ z=>nomatch z),JN (fun p q ⟨z,a,e,b⟩ =>⟨z,a,e,bsame _ _ b⟩) rr⟩,
  ⟨ku,up _ _ eu (fun _ z=>nomatch z),JN (fun p q ⟨z,a,c,e,t,b⟩ =>⟨z,a,c,e,up _ _ t (fun _ z=>nomatch z),bsame _ _ b⟩) ru⟩,fun w hw=>?_,h.non,h.app,h.apd,h.apn,h.pr,h.pu,h.ru,h.dp,h.np⟩
 obtain⟨⟨dv,a1⟩,a2,a3⟩:=h.per w hw;exact⟨⟨dv,up _ _ a1 (fun _ z=>nomatch z)⟩,up _ _ a2 (fun _ z=>nomatch z),up _ _ a3 (fun _ z=>nomatch z)⟩
theorem Jq2{H:Hp}{a:Addr}{o:HO}:era (upd H a o) a=era H a:=by
 funext c
 by_cases h:c=a
 .rw[h,Jlf,Jlf]
 .rw[JeT h,JeT h,Jg h]
theorem Jry{H:Hp}{a:Addr}:Jah (era H a) H:=by
 refine⟨fun c xs e=>?_,fun c xs e=>?_⟩<;>
 .by_cases h:c=a
  .rw[h,Jlf]at e;cases e
  .rw[JeT h]at e;exact e
def isH:JU->Bool
 | .hours _ _ _=>true
 | _=>false
theorem Jo0{M:PB}{d:JU}(w:Str):((Y6 M d).2.pn w).days.length<=(M.pn w).days.length+(if isH d=true then 1 else 0):=by
 have tp:∀who,((M.touch who).pn w).days.length<=(M.pn w).days.length:=fun who=>by rw[Yr];exact A6 _
 cases d with
 | hours who day many=>
  by_cases c:0<=many/\many<=24
  .rw[Jd5 c];show(if w=who then _ else(M.touch who).pn w).days.length<=(M.pn w).days.length+1
   by_cases e:w=who
   .rw[if_pos e,e];exact Jdc _ _ _
   .rw[if_neg e];exact B1 (tp who)
  .rw[JdH c];exact D4 _
 | rate week bs=>
  cases c:JaX none bs with
  | true=>rw[Jhk c];exact A6 _
  | false=>rw[Jfe c];exact A6 _
 | dues month t=>
  cases c:Jcx t with
  | true=>rw[Jhj c];exact A6 _
  | false=>rw[Jfq c];exact A6 _
 | payday who week=>
  cases c:Jdq M who week with
  | true=>rw[Jfm c];exact tp who
  | false=>
   rw[JdW c];show(if w=who then _ else(M.touch who).pn w).days.length<=(M.pn w).days.length+0
   by_cases e:w=who
   .rw[if_pos e,e];exact A6 _
   .rw[if_neg e];exact tp who
 | pay who week=>exact tp who
 | net who week=>exact tp who
 | right who week=>exact tp who
 | owing who week=>exact tp who
 | paid who=>exact tp who
theorem JfQ(w:Str):∀(ds:List JU)(M:PB),((JcB M ds).pn w).days.length<=(M.pn w).days.length+(ds.filter isH).length
 | [],M=>A6 _
 | d::r,M=>by
  have a:=JfQ w r (Y6 M d).2;have b:=Jo0 (M:=M) (d:=d) w;show((JcB (Y6 M d).2 r).pn w).days.length<=_;rw[Cw]
  cases c:isH d with
  | true=>
   rw[c,if_pos rfl]at b;rw[if_pos rfl,AN];omega
  | false=>
   rw[c,if_neg (by decide)]at b;rw[if_neg (by decide)];omega
end Wb
namespace L2
open PySem PySem.Spec PyProof.Rows Wb
def Jtb(H:Hp)(v:V):Prop:=∀a,v=.ref a->H a=none
def Jsf(d:Dt):TE:=fun _ H Q=>∀v H',JV H H'->Rep H' d v->Jtb H v->Q v H'
def JoR(ds:List Dt):TA:=fun _ H Q=>∀vs H',JV H H'->Yv H' ds vs->Q vs H'
section
variable {X:Cx} {pos:Pos}
theorem YM{i:Int}{j:Nat}:PE X (.Constant (.int i) j pos) (Jsf (.int i)):=fun pins s σ H Q I h=>Jc pins s σ H Q I (h (.int i) H (JV.refl H) rfl fun _ z=>nomatch z)
theorem Jds{j:Nat}:PE X (.Constant .none j pos) (Jsf .non):=fun pins s σ H Q I h=>JcK pins s σ H Q I (h .non H (JV.refl H) rfl fun _ z=>nomatch z)
theorem JpX{i:Int}{j:Nat}{p2:Pos}:PE X (.UnaryOp .USub (.Constant (.int i) j p2) pos) (Jsf (.int (-i))):=fun pins s σ H Q I h=>JcU (op:=.USub) JpZ Jc pins s σ H Q I ⟨i,rfl,h (.int (-i)) H (JV.refl H) rfl fun _ z=>nomatch z⟩
theorem JW:PA X [] (JoR []):=fun p pins s σ H Q I h=>JR p pins s σ H Q I (h [] H (JV.refl H) rfl)
theorem Jt{e:Expr}{es:List Expr}{d:Dt}{ds:List Dt}(he:PE X e (Jsf d))(hr:PA X es (JoR ds))(hs:AR (e::es) X.env=(false,eval e X.env)::AR es X.env:=by rfl):PA X (e::es) (JoR (d::ds)):=fun p pins s σ H Q I h=>
 Jb he hr hs p pins s σ H Q I fun v H1 s1 r1 _ vs H2 s2 r2=>h (v::vs) H2 (s1.trans s2) ⟨v,vs,rfl,r1.same s2,r2⟩
theorem Ym{es:List Expr}{ds:List Dt}{k:Nat}(h:PA X es (JoR ds))(hl:ds.length<=1000):PE X (.Tuple es k pos) (Jsf (.tup ds)):=fun pins s σ H Q I q=>
 JZ h pins s σ H Q I fun vs H1 s1 r1=>⟨by rw[r1.length];exact Cf (Jz hl),fun p hp=>q (.ref p) _ (s1.trans (Je hp)) ⟨p,vs,rfl,Ja,r1.same (Je hp)⟩ fun a z=>by cases z;exact s1.free hp⟩
def Jrz:R2:=fun x y H Q=>∃(a b:Addr)(xs ys:List V),x=.ref a/\y=.ref b/\H a=some (.tup xs)/\H b=some (.tup ys)/\xs.length+ys.length<=AK/\∀r H',JV H H'->H' r=some (.tup (xs++ys))->Q (.ref r) H'
theorem Jd9:OpR X (C0 .Add) Jrz:=by
 intro pins s σ H x y v u Q I rx ry h;obtain⟨a,b,xs,ys,rfl,rfl,ha,hb,hz,q⟩:=h
 by_cases hx:xs=[]
 .subst hx;cases rx;cases ry;obtain⟨its,r1,⟨o1,e1,c1,n1,d1⟩,_⟩:=I.tuple (SqT.of ha);obtain⟨its2,r2,⟨o2,e2,c2,n2,d2⟩,_⟩:=I.tuple (SqT.of hb);have hi:its=[]:=r1.nil_iff.mpr rfl;subst hi;obtain⟨cl1,dd1,dt1,sl1⟩:=o1;obtain⟨cl2,dd2,dt2,sl2⟩:=o2;simp only at c1 d1 c2 d2;subst c1 d1 c2 d2;exact HT.Jul a b its2 n1 n2 dd1 dd2 sl1 sl2 e1 e2 ⟨.ref b,H,I,rfl,q b H (JV.refl H) hb⟩
 .refine Jrn (X:=X) pins s σ H (.ref a) (.ref b) v u Q I rx ry ⟨a,b,xs,ys,rfl,rfl,SqT.of ha,SqT.of hb,hx,hz,fun e=>?_,fun _ p hp=>?_⟩
  .subst e;exact q a H (JV.refl H) (by rw[Be];exact ha)
  .exact q p _ (Je hp) Ja
end
end L2
namespace Wb
open PySem PySem.Spec PyProof.Rows L2
theorem JpC{H:Hp}{bs:List Bd}{v:V}(h:Rep H (Jb4 bs) v):∃a,v=.ref a/\JG H a bs:=by
 obtain⟨a,vs,e,_⟩:=id h;subst e;exact⟨a,rfl,Jy.mpr h⟩
theorem Ji7{H:Hp}{a:Addr}{bs cs:List Bd}{xs ys:List V}(ha:Yv H (bs.map fun b=>.tup [oD b.1,.int b.2]) xs)(hb:Yv H (cs.map fun b=>.tup [oD b.1,.int b.2]) ys)(h:H a=some (.tup (xs++ys))):JG H a (bs++cs):=by
 refine Jy.mpr ⟨a,_,rfl,h,?_⟩;rw[AJ];refine Yv.of (by rw[AQ,AQ,ha.length,hb.length]) fun i v d e1 e2=>?_
 by_cases c:i<xs.length
 .rw[AU c]at e1;rw[AU (by rw[<- ha.length];exact c)]at e2;exact ha.get i v d e1 e2
 .rw[BJ (by omega)]at e1;rw[BJ (by rw[<- ha.length];omega),<- ha.length]at e2;exact hb.get _ v d e1 e2
theorem Jme{H:Hp}{a:Addr}{bs:List Bd}(h:JG H a bs):∃xs,H a=some (.tup xs)/\Yv H (bs.map fun b=>.tup [oD b.1,.int b.2]) xs:=by
 obtain⟨a',xs,e,h1,h2⟩:=Jy.mp h;cases e;exact⟨xs,h1,h2⟩
theorem JdZ{H:Hp}{ds:List Dt}{vs:List V}(n:Nat)(h:Yv H ds vs):Yv H (ds.take n) (vs.take n):=by
 refine Yv.of (by rw[Ao,Ao,h.length]) fun i v d e1 e2=>?_;rw[List.getElem?_take]at e1 e2;split at e1
 .rename_i c;rw[if_pos c]at e2;exact h.get i v d e1 e2
 .cases e1
theorem Jiv{xs:List V}(h:xs≠[]):Je9 xs none (some (-1))=xs.take (xs.length-1):=by
 unfold Je9;have hl:0<xs.length:=Ei.mpr h
 have e2:HT.sIx xs.length xs.length (some (-1))=xs.length-1:=by
  simp only[HT.sIx];rw[if_pos (by decide)];omega
 rw[e2];rfl
theorem Jbd.take{bs:List Bd}(h:Jbd bs)(n:Nat):Jbd (bs.take n):=⟨by rw[Ao];have:=h.len;omega,fun b hb=>h.each b (EY hb)⟩
theorem Js5.b{m:V}{bs:List Bd}(h:Js5 m bs):Jbd bs:=⟨B1 h.len,fun b hb=>by have:=h.each b hb;omega⟩
end Wb
namespace L2
open PySem
theorem Jcg{n:Nat}(h:n<=1000):n<=AK:=Cf (Jz h)
end L2
namespace Wb
open PySem PySem.Spec PyProof.Rows L2
mutual
noncomputable def noL:Dt->Bool
 | .lst _=>false
 | .tup l=>Jl4 l
 | _=>true
noncomputable def Jl4:List Dt->Bool
 | []=>true
 | d::r=>noL d&&Jl4 r
end
def YY(H H':Hp):Prop:=∀b xs,H b=some (.tup xs)->H' b=some (.tup xs)
theorem YY.trans{H H1 H2:Hp}(a:YY H H1)(b:YY H1 H2):YY H H2:=fun c xs e=>b c xs (a c xs e)
theorem YY.of{H H':Hp}(s:JV H H'):YY H H':=fun c xs e=>s c _ e
theorem YY.lst{H:Hp}{l:Addr}{xs:List V}{o:HO}(e:H l=some (.lst xs)):YY H (upd H l o):=fun b ys z=>by
 rw[Jg (Y1 z e fun y=>nomatch y)];exact z
mutual
theorem Rep.sameT{H H':Hp}(s:YY H H'):∀{d:Dt}{v:V},noL d=true->Rep H d v->Rep H' d v
 | .non,_,_,h=>h
 | .bl _,_,_,h=>h
 | .int _,_,_,h=>h
 | .str _,_,_,h=>h
 | .tup l,_,n,⟨a,vs,e,h,r⟩ =>⟨a,vs,e,s _ _ h,Yv.sameT s (show Jl4 l=true from n) r⟩
 | .lst l,_,n,_=>absurd (show false=true from n) (by decide)
theorem Yv.sameT{H H':Hp}(s:YY H H'):∀{l:List Dt}{vs:List V},Jl4 l=true->Yv H l vs->Yv H' l vs
 | [],_,_,h=>h
 | d::r,_,n,⟨v,t,e,h,q⟩ =>by
  have n:(noL d&&Jl4 r)=true:=n;rw[As]at n;exact⟨v,t,e,Rep.sameT s n.1 h,Yv.sameT s n.2 q⟩
end
theorem Jba{α:Type}{f:α->Dt}(h:∀x,noL (f x)=true):∀l:List α,Jl4 (l.map f)=true
 | []=>rfl
 | x::r=>by
  show(noL (f x)&&Jl4 (r.map f))=true;rw[h x,Jba h r];rfl
theorem Jgg(bs:List Bd):noL (Jb4 bs)=true:=Jba (fun b=>by obtain⟨o,e⟩:=b;cases o<;>rfl) bs
theorem Jaf(d:JU):noL (YR d)=true:=by
 cases d with
 | rate week bs=>
  show(true&&(true&&(noL (Jb4 bs)&&true)))=true;rw[Jgg];rfl
 | dues month t=>
  show(true&&(true&&((noL (Jb4 t.1)&&(true&&(true&&true)))&&true)))=true;rw[Jgg];rfl
 | _=>rfl
theorem JG.sameT{H H':Hp}{a:Addr}{bs:List Bd}(h:JG H a bs)(s:YY H H'):JG H' a bs:=Jy.mpr (Rep.sameT s (Jgg bs) (Jy.mp h))
def Jh7(H:Hp)(v:V):Prop:=∃(a:Addr)(bs:List Bd),v=.ref a/\JG H a bs/\Jbd bs
theorem Jh7.sameT{H H':Hp}{v:V}(h:Jh7 H v)(s:YY H H'):Jh7 H' v:=let ⟨a,bs,e,b,c⟩:=h;⟨a,bs,e,JG.sameT b s,c⟩
theorem Jh7.same{H H':Hp}{v:V}(h:Jh7 H v)(s:JV H H'):Jh7 H' v:=h.sameT (YY.of s)
def Js2(H:Hp)(v:V):Prop:=∃(a b:Addr)(t:Tab),v=.ref a/\H a=some (.tup [.ref b,.int t.2.1,.int t.2.2])/\JG H b t.1/\Jrr t
theorem JpB{H:Hp}{t a:Addr}{wk:Int}{bs:List Bd}(h:H t=some (.tup [.str "rate",.int wk,.ref a]))(b:JG H a bs):Rep H (YR (.rate wk bs)) (.ref t):=⟨t,_,rfl,h,_,_,rfl,rfl,_,_,rfl,rfl,_,_,rfl,Jy.mp b,rfl⟩
theorem Jq0{H:Hp}{t a:Addr}{T:Tab}(h:H t=some (.tup [.ref a,.int T.2.1,.int T.2.2]))(b:JG H a T.1):Rep H (JtA T) (.ref t):=⟨t,_,rfl,h,_,_,rfl,Jy.mp b,_,_,rfl,rfl,_,_,rfl,rfl,rfl⟩
theorem Jo4{H:Hp}{t u:Addr}{m:Int}{T:Tab}(h:H t=some (.tup [.str "dues",.int m,.ref u]))(r:Rep H (JtA T) (.ref u)):Rep H (YR (.dues m T)) (.ref t):=⟨t,_,rfl,h,_,_,rfl,rfl,_,_,rfl,rfl,_,_,rfl,r,rfl⟩
theorem JmB{H:Hp}{t:Addr}{who:Str}{d m:Int}(h:H t=some (.tup [.str "hours",.str who,.int d,.int m])):Rep H (YR (.hours who d m)) (.ref t):=⟨t,_,rfl,h,_,_,rfl,rfl,_,_,rfl,rfl,_,_,rfl,rfl,_,_,rfl,rfl,rfl⟩
theorem Jqm(U:Tab):Jcx U=(JaX (some 100) U.1&&(decide (0<=U.2.1)&&decide (0<U.2.2))):=by
 unfold Jcx;rw[M8];congr 2
def Jh6:Dt->Prop
 | .bl _=>False
 | .tup l=>∀d∈l,Jh6 d
 | .lst l=>∀d∈l,Jh6 d
 | _=>True
theorem JoX(i:Int):Jh6 (.int i):=by unfold Jh6;exact True.intro
theorem JoF(x:Str):Jh6 (.str x):=by unfold Jh6;exact True.intro
theorem JoV{l:List Dt}(h:∀d∈l,Jh6 d):Jh6 (.tup l):=by unfold Jh6;exact h
noncomputable def vAt(f:Int×Int->Int)(l:II)(k:Int):Int:=match Yl l k with
 | none=>0
 | some x=>f (k,x)
theorem JoP{f:Int×Int->Int}{p:Int×Int}{r:II}(h:p.1∉r.map (·.1))(k:Int):vAt f (p::r) k=(if p.1=k then f p else 0)+vAt f r k:=by
 unfold vAt;rw[Y9]
 by_cases c:p.1=k
 .rw[if_pos c,if_pos c];have:Yl r k=none:=JcF.mpr (c ▸ h);rw[this];show f (k,p.2)=f p+0;rw[<- c];simp
 .rw[if_neg c,if_neg c];simp
theorem JmP{α:Type}(f g:α->Int):∀l:List α,(l.map fun x=>f x+g x).sum=(l.map f).sum+(l.map g).sum
 | []=>rfl
 | x::r=>by
  simp only[Al,Cz,JmP f g r];omega
theorem JkK{α:Type}(f:α->Int):∀l:List α,(∀x∈l,f x=0)->(l.map f).sum=0
 | [],_=>rfl
 | x::r,h=>by
  simp only[Al,Cz,JkK f r fun y hy=>h y (AY _ hy),h x Az];rfl
theorem Jqq{ms:List Int}(nd:ms.Nodup)(k x:Int):(ms.map fun m=>if k=m then x else 0).sum=if k∈ms then x else 0:=by
 induction ms with
 | nil=>rfl
 | cons m r ih=>
  obtain⟨n1,n2⟩:=AL.mp nd;simp only[Al,Cz,ih n2,Aq]
  by_cases c:k=m
  .subst c;simp[n1]
  .simp[c]
theorem JjB{ms:List Int}(nd:ms.Nodup)(f:Int×Int->Int):∀{l:II},(l.map (·.1)).Nodup->(ms.map fun m=>vAt f l m).sum=((l.filter fun p=>decide (p.1∈ms)).map f).sum
 | [],_=>JkK _ _ fun _ _=>rfl
 | p::r,h=>by
  rw[Al]at h;obtain⟨h1,h2⟩:=AL.mp h;have e:(fun m=>vAt f (p::r) m)=fun m=>(if p.1=m then f p else 0)+vAt f r m:=funext fun m=>JoP h1 m;rw[e,JmP,Jqq nd,JjB nd f h2,Cw]
  by_cases c:p.1∈ms
  .simp[c]
  .simp[c]
def Jiy(a:Int)(n:Nat):List Int:=(AT n).map fun j:Nat=>a+(j:Int)
theorem Jq3(a:Int)(n:Nat):(Jiy a n).Nodup:=by
 unfold Jiy;rw[C4,K7];refine Ch.imp_of_mem ?_ (Ez (n:=n));intro x y _ _ h;omega
theorem JhH{a k:Int}{n:Nat}:k∈Jiy a n↔a<=k/\k<a+n:=by
 unfold Jiy;rw[Ag];constructor
 .rintro⟨j,hj,rfl⟩;have:=De.mp hj;omega
 .rintro⟨h1,h2⟩;exact⟨(k-a).toNat,De.mpr (by omega),by omega⟩
theorem JqV(a:Int)(n:Nat):(Jiy a n).Pairwise (·<·):=by
 unfold Jiy;rw[K7];refine Ch.imp_of_mem ?_ (Ez (n:=n));intro x y _ _ h;omega
theorem JkX(f:Int×Int->Int){l:II}(h:(l.map (·.1)).Nodup)(n:Nat)(hn:0<n)(w:Int):((AT n).map fun j:Nat=>vAt f l (n*w+j)).sum=((l.filter fun p=>decide (p.1/n=w)).map f).sum:=by
 have e:((AT n).map fun j:Nat=>vAt f l (n*w+j))=(Jiy (n*w) n).map fun m=>vAt f l m:=by
  unfold Jiy;rw[B2];rfl
 rw[e,JjB (Jq3 _ _) f h];congr 2;refine List.filter_congr fun p _=>?_
 have hn':(0:Int)<n:=by omega
 rw[decide_eq_decide,JhH];constructor
 .rintro⟨h1,h2⟩;have a1:w<=p.1/n:=(FT hn').mpr (by rw[FS];exact h1);have a2:p.1/n<w+1:=(Int.ediv_lt_iff_lt_mul hn').mpr (by rw[Int.add_mul,Int.one_mul,FS];exact h2);omega
 .rintro rfl;have a1:=Int.mul_ediv_add_emod p.1 n;have a2:=BX p.1 (b:=(n:Int)) (by omega);have a3:=Bq p.1 hn';omega
theorem Jpl{days:II}(nd:(days.map (·.1)).Nodup)(w:Int):Jht (fun d=>(Yl days d).getD 0) w=(Yl (hbw days) w).getD 0:=by
 rw[JgU,Jex];unfold Jht
 have e:(fun j:Nat=>(Yl days (7*w+(j:Int))).getD 0)=fun j:Nat=>vAt (·.2) days (((7:Nat):Int)*w+(j:Int)):=funext fun j=>by
  unfold vAt
  show _=match Yl days (7*w+(j:Int))with|none=>0|some x=>x
  cases Yl days (7*w+(j:Int))<;>rfl
 rw[e,JkX _ nd 7 (by decide)];show _=(0:Int)+_;rw[Cg];rfl
theorem lv0{bs:List Bd}{m:Option Int}(h:JaX m bs=true):lv 0 0 bs=0:=JnL bs 0 0 (Jck h).1 (CZ 0)
theorem Jsv{o:Option Tab}(h:∀t,o=some t->Jcx t=true):Jd6 0 o=0:=by
 cases o with
 | none=>rfl
 | some t=>
  have c:=h t rfl;unfold Jcx at c;rw[As,As]at c;show 0-due 0 t.1 t.2.1 t.2.2=0;unfold due Jm9 mx;rw[lv0 c.1.1];split<;>split<;>omega
theorem JqM{rates:List (Int×List Bd)}(h:∀p∈rates,JaX none p.2=true/\Jbd p.2)(w:Int):JaU 0 w rates=0:=by
 unfold JaU
 cases e:Jdm rates w with
 | none=>rfl
 | some bs=>
  obtain⟨k,hk⟩:=Jh4 e;exact lv0 (h _ hk).1
theorem Jll{α β:Type}(g:Int->α->β)(m:Int):∀l:List (Int×α),Yl (l.map fun p=>(p.1,g p.1 p.2)) m=(Yl l m).map (g m)
 | []=>rfl
 | p::r=>by
  rw[Al,Y9,Y9,Jll g m r]
  by_cases c:p.1=m
  .rw[if_pos c,if_pos c,c];rfl
  .rw[if_neg c,if_neg c]
structure Lk(ms:List Int)(cov:Str->Prop)(M:PB)(B:Bk):Prop where
 hrs:∀who d,B.hrs who d=(Yl (M.pn who).days d).getD 0
 rates:B.rates=M.rates
 dues:B.dues=M.dues
 paid:∀who,B.paid who=(M.pn who).paid
 last:∀who,B.last who=(M.pn who).last
 nets:∀who m,B.nets who m=(Yl (M.pn who).nets m).getD 0
 cov:∀who,cov who->∀p∈(M.pn who).days,p.1/28∈ms
 old:∀who m,m∈(M.pn who).nets.map (·.1)->∃l,(M.pn who).last=some l/\∃p∈(M.pn who).days,p.1/7<=l/\p.1/28=m
theorem Lk.new(ms:List Int)(cov:Str->Prop):Lk ms cov PB.new Bk.new:=⟨fun _ _=>rfl,rfl,rfl,fun _=>rfl,fun _=>rfl,fun _ _=>rfl,(fun _ _ _ h=>nomatch h),(fun _ _ h=>nomatch h)⟩
section
variable {ms:List Int} {cov:Str→Prop} {M:PB} {B:Bk} {n:Nat}
theorem Lk.wages(h:Lk ms cov M B)(ok:JbS n M)(who:Str)(week:Int):wages B who week=Jpf M who week:=by
 have e:B.hrs who=fun d=>(Yl (M.pn who).days d).getD 0:=funext (h.hrs who);unfold Wb.wages Jpf JaU;rw[h.rates,e,Jpl (ok.nd who)]
 all_goals (cases Jdm M.rates week<;>rfl)
theorem JrJ{days:II}:((hbw days).map (·.1)).Nodup:=by
 rw[JgU];exact JcH _ BZ
theorem JkO(hb:II)(last:Int)(rates:List (Int×List Bd)):((pbm hb last rates).map (·.1)).Nodup:=by
 rw[JiV];exact JcH _ BZ
theorem Lk.monthP(h:Lk ms cov M B)(ok:JbS n M)(who:Str)(m last:Int):monthP B who m last=(Yl (pbm (hbw (M.pn who).days) last M.rates) m).getD 0:=by
 rw[JiV,Jex];unfold Wb.monthP
 have e:(fun j:Nat=>if 4*m+(j:Int)<=last then Wb.wages B who (4*m+j)else 0)=fun j:Nat=>vAt (fun p=>if p.1<=last then JaU p.2 p.1 M.rates else 0) (hbw (M.pn who).days) (((4:Nat):Int)*m+(j:Int)):=funext fun j=>by
  rw[h.wages ok];unfold Jpf vAt
  show _=match Yl (hbw (M.pn who).days) (4*m+(j:Int))with|none=>0|some x=>if 4*m+(j:Int)<=last then JaU x (4*m+(j:Int)) M.rates else 0
  cases Yl (hbw (M.pn who).days) (4*m+(j:Int))with
  | none=>
   show(if _ then JaU 0 _ _ else 0)=0;rw[JqM ok.ra];split<;>rfl
  | some x=>rfl
 rw[e,JkX _ JrJ 4 (by decide)];show _=(0:Int)+_;rw[Cg,List.filter_filter];generalize hbw (M.pn who).days=l
 induction l with
 | nil=>rfl
 | cons p r ih=>
  rw[Cw,Cw]
  by_cases c:p.1/4=m
  .rw[if_pos (by show decide (p.1/((4:Nat):Int)=m)=true;exact decide_eq_true c),Al,Cz,ih]
   by_cases d:p.1<=last
   .have q:(decide (p.1/4=m)&&decide (p.1<=last))=true:=by simp[c,d]
    rw[if_pos d,if_pos q,Al,Cz]
   .have q:¬(decide (p.1/4=m)&&decide (p.1<=last))=true:=by simp[c,d]
    rw[if_neg d,if_neg q,Cg]
  .rw[if_neg (by show¬decide (p.1/((4:Nat):Int)=m)=true;simpa using c),if_neg (by simp[c]),ih]
theorem JoZ{t:Tab}(ok:JbS n M){m:Int}(h:Jdm M.dues m=some t):Jcx t=true:=by
 obtain⟨k,hk⟩:=Jh4 h;exact(ok.du _ hk).1
theorem Lk.netS(h:Lk ms cov M B)(ok:JbS n M)(who:Str)(m last:Int):netS B who m last=(Yl (Jbb M who last) m).getD 0:=by
 unfold Wb.netS Jbb;rw[h.monthP ok,h.dues,JgI _ (JkO _ _ _),Jll (fun k x=>Jd6 x (Jdm M.dues k))]
 cases Yl (pbm (hbw (M.pn who).days) last M.rates) m with
 | none=>exact Jsv fun t e=>JoZ ok e
 | some x=>rfl
theorem Jer(M:PB)(who:Str)(last m:Int):m∈(Jbb M who last).map (·.1)↔∃p∈(M.pn who).days,p.1/7<=last/\p.1/28=m:=by
 unfold Jbb;rw[JgI _ (JkO _ _ _),B2,show((fun p:Int×Int=>p.1) ∘ fun p:Int×Int=>(p.1,Jd6 p.2 (Jdm M.dues p.1)))=fun p=>p.1 from rfl,JiV,Jct];constructor
 .rintro(h|⟨p,hp,e⟩)
  .nomatch h
  obtain⟨h1,h2⟩:=B5.mp hp;have h2:=of_decide_eq_true h2;have h3:p.1∈(hbw (M.pn who).days).map (·.1):=B4 h1;rw[JgU,Jct]at h3
  rcases h3 with h3|⟨q,hq,e2⟩
  .nomatch h3
  refine⟨q,hq,by omega,?_⟩;have e2:q.1/7=p.1:=e2;have e:p.1/4=m:=e;omega
 .rintro⟨p,hp,h1,h2⟩
  have h3:p.1/7∈(hbw (M.pn who).days).map (·.1):=by
   rw[JgU,Jct];exact .inr ⟨p,hp,rfl⟩
  obtain⟨q,hq,e⟩:=Ag.mp h3;refine .inr ⟨q,B5.mpr ⟨hq,decide_eq_true (by omega)⟩,?_⟩;show q.1/4=m;omega
theorem JkJ(M:PB)(who:Str)(last:Int):((Jbb M who last).map (·.1)).Nodup:=by
 unfold Jbb;rw[JgI _ (JkO _ _ _),B2,show((fun p:Int×Int=>p.1) ∘ fun p:Int×Int=>(p.1,Jd6 p.2 (Jdm M.dues p.1)))=fun p=>p.1 from rfl];exact JkO _ _ _
theorem Lk.keys_in(h:Lk ms cov M B){who:Str}(c:cov who){last m:Int}(hm:m∈(Jbb M who last).map (·.1)):m∈ms:=by
 obtain⟨p,hp,_,e⟩:=(Jer M who last m).mp hm;rw[<- e];exact h.cov who c p hp
theorem Lk.rightS(h:Lk ms cov M B)(ok:JbS n M)(nd:ms.Nodup){who:Str}(c:cov who)(last:Int):rightS ms B who last=JaZ M who last:=by
 unfold Wb.rightS JaZ
 have e:(fun m=>Wb.netS B who m last)=fun m=>vAt (·.2) (Jbb M who last) m:=funext fun m=>by
  rw[h.netS ok];unfold vAt;cases Yl (Jbb M who last) m<;>rfl
 rw[e,JjB nd _ (JkJ M who last),List.filter_eq_self.mpr];rintro p hp;exact decide_eq_true (h.keys_in c (B4 hp))
theorem JoN{xs ys:List Int}(nx:xs.Pairwise (·<·))(ny:ys.Pairwise (·<·))(h:∀m,m∈xs↔m∈ys):xs=ys:=by
 have dx:xs.Nodup:=C4.mpr (nx.imp fun h=>by omega);have dy:ys.Nodup:=C4.mpr (ny.imp fun h=>by omega);have p:=(Dd dx dy).mpr h;rw[Jnv p (nx.imp fun h=>by omega),<- Jnv (GE ys) (ny.imp fun h=>by omega)]
theorem Jr7{ks:List Int}(nd:ks.Nodup):(srt ks).Pairwise (·<·):=by
 have p:(srt ks).Perm ks:=Eh ks _;have s:(srt ks).Pairwise fun a b=>decide (a<=b)=true:=Fm (by intro a b c;simp;omega) (by intro a b;simp;omega) ks;have d:(srt ks).Pairwise (·≠·):=C4.mp (p.nodup_iff.mpr nd);refine(s.and d).imp ?_;rintro a b ⟨h1,h2⟩;have:=of_decide_eq_true h1;omega
theorem Jc1(f:Int->Int)(l:List Int):((l.map fun m=>(m,f m)).filter fun p=>decide (p.2≠0))=(l.filter fun m=>decide (f m≠0)).map fun m=>(m,f m):=by
 rw[List.filter_map];rfl
theorem Lk.lines(h:Lk ms cov M B)(ok:JbS n M)(up:ms.Pairwise (·<·)){who:Str}(c:cov who){week:Int}(e:Jcl B who week=false):JiR ms B who week=JeW (M.pn who).nets (Jbb M who week):=by
 unfold JiR JeW
 have ef:(fun m=>(m,Wb.netS B who m week-B.nets who m))=fun m=>(m,(Yl (Jbb M who week) m).getD 0-(Yl (M.pn who).nets m).getD 0):=funext fun m=>by rw[h.netS ok,h.nets]
 rw[ef,Jc1,Jc1];congr 1;have kp:(srt ((Jbb M who week).map (·.1))).Perm _:=Eh _ _;refine JoN (up.filter _) ((Jr7 (JkJ M who week)).filter _) fun m=>?_;rw[B5,B5,kp.mem_iff];constructor
 .rintro⟨hm,hz⟩;refine⟨?_,hz⟩;have hz:=of_decide_eq_true hz
  cases hn:Yl (Jbb M who week) m with
  | some x=>exact B4 (Jcj hn)
  | none=>
   cases ho:Yl (M.pn who).nets m with
   | none=>
    rw[hn,ho]at hz;exact absurd rfl hz
   | some x=>
    obtain⟨l,hl,p,hp,h1,h2⟩:=h.old who m (B4 (Jcj ho));unfold Jcl at e;rw[h.last,hl]at e;have e:=of_decide_eq_false e;exact(Jer M who week m).mpr ⟨p,hp,by omega,h2⟩
 .rintro⟨hm,hz⟩;exact⟨h.keys_in c hm,hz⟩
end
noncomputable def Jrs(ms:List Int)(cov:Str->Prop):JU->Prop
 | .hours who day _=>cov who->day/28∈ms
 | .payday who _=>cov who
 | .right who _=>cov who
 | .owing who _=>cov who
 | _=>True
theorem Lk.touch{ms:List Int}{cov:Str->Prop}{M:PB}{B:Bk}(h:Lk ms cov M B)(who:Str):Lk ms cov (M.touch who) B:=by
 refine⟨?_,?_,?_,?_,?_,?_,?_,?_⟩<;>simp only[Yr,Ja3,Jbr]
 .exact h.hrs
 .exact h.rates
 .exact h.dues
 .exact h.paid
 .exact h.last
 .exact h.nets
 .exact h.cov
 .exact h.old
theorem Lk.step{ms:List Int}{cov:Str->Prop}{M:PB}{B:Bk}{n:Nat}(h:Lk ms cov M B)(ok:JbS n M)(up:ms.Pairwise (·<·)){d:JU}(dk:Jal d)(ft:Jrs ms cov d) :
  (step ms B d).1=(Y6 M d).1/\Lk ms cov (Y6 M d).2 (step ms B d).2:=by
 have nd:ms.Nodup:=C4.mpr (up.imp fun h=>by omega)
 cases d with
 | hours who day many=>
  by_cases c:0<=many/\many<=24
  .have hL:Lk ms cov ((M.touch who).set who { (M.pn who)with days:=Y7 (M.pn who).days day many }) { B with hrs:=fun y d=>if y=who/\d=day then many else B.hrs y d }:=by
    refine⟨fun y d=>?_,?_,?_,fun y=>?_,fun y=>?_,fun y m=>?_,fun y cy p hp=>?_,fun y m hm=>?_⟩
    .show(if y=who/\d=day then many else B.hrs y d)=(Yl (if y=who then _ else(M.touch who).pn y:Pn).days d).getD 0
     by_cases c1:y=who
     .rw[if_pos c1];show _=(Yl (Y7 (M.pn who).days day many) d).getD 0;rw[Jem]
      by_cases c2:d=day
      .rw[if_pos ⟨c1,c2⟩,if_pos c2];rfl
      .rw[if_neg (fun z=>c2 z.2),if_neg c2,h.hrs,c1]
     .rw[if_neg (fun z=>c1 z.1),if_neg c1,h.hrs,Yr]
    .show B.rates=(M.touch who).rates;rw[Ja3,h.rates]
    .show B.dues=(M.touch who).dues;rw[Jbr,h.dues]
    .show B.paid y=(if y=who then _ else(M.touch who).pn y:Pn).paid
     by_cases c1:y=who
     .rw[if_pos c1,h.paid,c1]
     .rw[if_neg c1,h.paid,Yr]
    .show B.last y=(if y=who then _ else(M.touch who).pn y:Pn).last
     by_cases c1:y=who
     .rw[if_pos c1,h.last,c1]
     .rw[if_neg c1,h.last,Yr]
    .show B.nets y m=(Yl (if y=who then _ else(M.touch who).pn y:Pn).nets m).getD 0
     by_cases c1:y=who
     .rw[if_pos c1,h.nets,c1]
     .rw[if_neg c1,h.nets,Yr]
    .have hp:p∈(if y=who then{ (M.pn who)with days:=Y7 (M.pn who).days day many }else(M.touch who).pn y:Pn).days:=hp
     by_cases c1:y=who
     .rw[if_pos c1]at hp
      rcases Jcn hp with e|hp
      .rw[e];exact ft (c1 ▸ cy)
      .exact h.cov who (c1 ▸ cy) p hp
     .rw[if_neg c1,Yr]at hp;exact h.cov y cy p hp
    .have hm:m∈(if y=who then{ (M.pn who)with days:=Y7 (M.pn who).days day many }else(M.touch who).pn y:Pn).nets.map (·.1):=hm;show∃l,(if y=who then{ (M.pn who)with days:=Y7 (M.pn who).days day many }else(M.touch who).pn y:Pn).last=some l/\∃p∈(if y=who then{ (M.pn who)with days:=Y7 (M.pn who).days day many }else(M.touch who).pn y:Pn).days,_
     by_cases c1:y=who
     .rw[if_pos c1]at hm ⊢;obtain⟨l,hl,p,hp,h1,h2⟩:=h.old who m hm;refine⟨l,hl,?_⟩
      have:p.1∈(Y7 (M.pn who).days day many).map (·.1):=by
       rw[Jga];split
       .exact B4 hp
       .exact Ba _ (B4 hp)
      obtain⟨q,hq,e⟩:=Ag.mp this;have e:q.1=p.1:=e;exact⟨q,hq,by omega,by omega⟩
     .rw[if_neg c1,Yr]at hm ⊢;exact h.old y m hm
   rw[Jd5 c];have e:Wb.step ms B (.hours who day many)=(.int (Wb.wages { B with hrs:=fun y d=>if y=who/\d=day then many else B.hrs y d } who (day/7)),{ B with hrs:=fun y d=>if y=who/\d=day then many else B.hrs y d }):=if_pos c;rw[e];have ok':=JhL ok (d:=.hours who day many) dk;rw[Jd5 c]at ok';exact⟨congrArg Dt.int (hL.wages ok' who _),hL⟩
  .rw[JdH c];have e:Wb.step ms B (.hours who day many)=(.str "no hours",B):=if_neg c;rw[e];exact⟨rfl,h⟩
 | rate week bs=>
  cases c:JaX none bs with
  | true=>
   rw[Jhk c];have e:Wb.step ms B (.rate week bs)=(.str "told",{ B with rates:=Y7 B.rates week bs }):=if_pos c;rw[e];exact⟨rfl,h.hrs,by show Y7 B.rates week bs=Y7 M.rates week bs;rw[h.rates],h.dues,h.paid,h.last,h.nets,h.cov,h.old⟩
  | false=>
   rw[Jfe c];have e:Wb.step ms B (.rate week bs)=(.str "no table",B):=if_neg (by rw[c];decide);rw[e];exact⟨rfl,h⟩
 | dues month t=>
  cases c:Jcx t with
  | true=>
   rw[Jhj c];have e:Wb.step ms B (.dues month t)=(.str "told",{ B with dues:=Y7 B.dues month t }):=if_pos c;rw[e];exact⟨rfl,h.hrs,h.rates,by show Y7 B.dues month t=Y7 M.dues month t;rw[h.dues],h.paid,h.last,h.nets,h.cov,h.old⟩
  | false=>
   rw[Jfq c];have e:Wb.step ms B (.dues month t)=(.str "no table",B):=if_neg (by rw[c];decide);rw[e];exact⟨rfl,h⟩
 | payday who week=>
  have ee:Jcl B who week=Jdq M who week:=by
   unfold Jcl Jdq;rw[h.last]
   all_goals (cases(M.pn who).last<;>rfl)
  cases c:Jdq M who week with
  | true=>
   rw[Jfm c];have e:Wb.step ms B (.payday who week)=(.str "too early",B):=if_pos (ee.trans c);rw[e];exact⟨rfl,h.touch who⟩
  | false=>
   have cv:cov who:=ft;have hr:=h.rightS ok nd cv week;have hl:=h.lines ok up cv (ee.trans c)
   have e:Wb.step ms B (.payday who week)=(.tup [.int (mx 0 (Wb.rightS ms B who week-B.paid who)),.int (mn 0 (Wb.rightS ms B who week-B.paid who)),.lst ((JiR ms B who week).map fun p=>.tup [.int p.1,.int p.2])],
    { B with paid:=JrU B.paid who (B.paid who+mx 0 (Wb.rightS ms B who week-B.paid who)),last:=fun y=>if y=who then some week else B.last y,nets:=fun y m=>if y=who then Wb.netS B who m week else B.nets y m }):=if_neg (by rw[ee,c];decide)
   rw[JdW c,e,hr,hl,h.paid];refine⟨rfl,?_⟩;refine⟨fun y d=>?_,?_,?_,fun y=>?_,fun y=>?_,fun y m=>?_,fun y cy p hp=>?_,fun y m hm=>?_⟩
   .show B.hrs y d=(Yl (if y=who then _ else(M.touch who).pn y:Pn).days d).getD 0
    by_cases c1:y=who
    .rw[if_pos c1,h.hrs,c1]
    .rw[if_neg c1,h.hrs,Yr]
   .show B.rates=(M.touch who).rates;rw[Ja3,h.rates]
   .show B.dues=(M.touch who).dues;rw[Jbr,h.dues]
   .show JrU B.paid who _ y=(if y=who then _ else(M.touch who).pn y:Pn).paid;unfold JrU
    by_cases c1:y=who
    .rw[if_pos c1,if_pos c1]
    .rw[if_neg c1,if_neg c1,h.paid,Yr]
   .show(if y=who then some week else B.last y)=(if y=who then _ else(M.touch who).pn y:Pn).last
    by_cases c1:y=who
    .rw[if_pos c1,if_pos c1]
    .rw[if_neg c1,if_neg c1,h.last,Yr]
   .show(if y=who then Wb.netS B who m week else B.nets y m)=(Yl (if y=who then _ else(M.touch who).pn y:Pn).nets m).getD 0
    by_cases c1:y=who
    .rw[if_pos c1,if_pos c1,h.netS ok]
    .rw[if_neg c1,if_neg c1,h.nets,Yr]
   .have hp:p∈(if y=who then{ (M.pn who)with paid:=(M.pn who).paid+mx 0 (JaZ M who week-(M.pn who).paid),last:=some week,nets:=Jbb M who week }else(M.touch who).pn y:Pn).days:=hp
    by_cases c1:y=who
    .rw[if_pos c1]at hp;exact h.cov who (c1 ▸ cy) p hp
    .rw[if_neg c1,Yr]at hp;exact h.cov y cy p hp
   .have hm:m∈(if y=who then{ (M.pn who)with paid:=(M.pn who).paid+mx 0 (JaZ M who week-(M.pn who).paid),last:=some week,nets:=Jbb M who week }else(M.touch who).pn y:Pn).nets.map (·.1):=hm
    show∃l,(if y=who then{ (M.pn who)with paid:=(M.pn who).paid+mx 0 (JaZ M who week-(M.pn who).paid),last:=some week,nets:=Jbb M who week }else(M.touch who).pn y:Pn).last=some l/\
     ∃p∈(if y=who then{ (M.pn who)with paid:=(M.pn who).paid+mx 0 (JaZ M who week-(M.pn who).paid),last:=some week,nets:=Jbb M who week }else(M.touch who).pn y:Pn).days,_
    by_cases c1:y=who
    .rw[if_pos c1]at hm ⊢;obtain⟨p,hp,h1,h2⟩:=(Jer M who week m).mp hm;exact⟨week,rfl,p,hp,h1,h2⟩
    .rw[if_neg c1,Yr]at hm ⊢;exact h.old y m hm
 | pay who week=>exact⟨congrArg Dt.int (h.wages ok who week),h.touch who⟩
 | net who week=>exact⟨congrArg Dt.int (h.netS ok who _ week),h.touch who⟩
 | right who week=>exact⟨congrArg Dt.int (h.rightS ok nd ft week),h.touch who⟩
 | owing who week=>exact⟨congrArg Dt.int (by rw[h.rightS ok nd ft week,h.paid]),h.touch who⟩
 | paid who=>exact⟨congrArg Dt.int (h.paid who),h.touch who⟩
def JiG(ms:List Int)(B:Bk)(ds:List JU):Bk:=ds.foldl (fun B d=>(step ms B d).2) B
noncomputable def JqG(ms:List Int):Bk->List JU->List Dt
 | _,[]=>[]
 | B,d::r=>(step ms B d).1::JqG ms (step ms B d).2 r
theorem Lk.outs{ms:List Int}{cov:Str->Prop}(up:ms.Pairwise (·<·)):∀{ds:List JU}{M:PB}{B:Bk}{n:Nat},Lk ms cov M B->JbS n M->(∀d∈ds,Jal d/\Jrs ms cov d)->JqG ms B ds=outs M ds/\Lk ms cov (JcB M ds) (JiG ms B ds)
 | [],_,_,_,h,_,_=>⟨rfl,h⟩
 | d::r,M,B,n,h,ok,hd=>by
  obtain⟨d1,d2⟩:=hd d Az;obtain⟨a1,a2⟩:=h.step ok up d1 d2;obtain⟨b1,b2⟩:=Lk.outs up a2 (JhL ok d1) fun x hx=>hd x (AY _ hx);refine⟨?_,b2⟩;show(Wb.step ms B d).1::JqG ms (Wb.step ms B d).2 r=(Y6 M d).1::Wb.outs (Y6 M d).2 r;rw[a1,b1]
noncomputable def nmD:JU->Str
 | .hours ..=>"hours"
 | .rate ..=>"rate"
 | .dues ..=>"dues"
 | .payday ..=>"payday"
 | .pay ..=>"pay"
 | .net ..=>"net"
 | .right ..=>"right"
 | .owing ..=>"owing"
 | .paid ..=>"paid"
theorem Jh5{H:Hp}{d:JU}{v:V}(h:Rep H (YR d) v):∃a r,v=.ref a/\H a=some (.tup (.str (nmD d)::r)):=by
 cases d<;>obtain⟨a,vs,rfl,ht,_,_,rfl,rfl,_⟩:=h<;>exact⟨a,_,rfl,ht⟩
noncomputable def Jfo(B:Bk):JU->Str
 | .hours _ _ many=>if 0<=many/\many<=24 then "" else "no hours"
 | .rate _ bs=>if JaX none bs=true then "" else "no table"
 | .dues _ t=>if Jcx t=true then "" else "no table"
 | .payday who wk=>if Jcl B who wk=true then "too early" else ""
 | _=>""
theorem JkA{d:JU}(h:nmD d = "hours"):∃who day many,d=.hours who day many:=by
 cases d<;>first|exact⟨_,_,_,rfl⟩|exact absurd h (by simp only[nmD];decide +kernel)
theorem Jnu{d:JU}(h:nmD d = "rate"):∃week bs,d=.rate week bs:=by
 cases d<;>first|exact⟨_,_,rfl⟩|exact absurd h (by simp only[nmD];decide +kernel)
theorem JmG{d:JU}(h:nmD d = "dues"):∃month t,d=.dues month t:=by
 cases d<;>first|exact⟨_,_,rfl⟩|exact absurd h (by simp only[nmD];decide +kernel)
theorem JiK{d:JU}(h:nmD d = "payday"):∃who week,d=.payday who week:=by
 cases d<;>first|exact⟨_,_,rfl⟩|exact absurd h (by simp only[nmD];decide +kernel)
theorem JsM{x:Str}:decide (V.str x=V.str x)=true:=decide_eq_true rfl
theorem JfT{x y:Str}(h:¬decide (V.str x=V.str y)=true):x≠y:=fun z=>h (decide_eq_true (by rw[z]))
theorem Jei{x y:Str}(h:decide (V.str x=V.str y)=true):x=y:=V.str.inj (of_decide_eq_true h)
def LSt.all(A:LSt):List Addr:=[A.hours,A.rates,A.dues,A.paid,A.weeks,A.nets]
structure Law(H:Hp)(st:Addr)(A:LSt)(b:Int)(ms:List Int)(B:Bk)(n:Nat):Prop where
 sta:Jo5 H st A b ms
 bk:JpN H A ms B
 ok:JrN B
 nd:(st::A.all).Nodup
 hl:∀kvs,H A.hours=some (.dT kvs)->kvs.length<=n
 kl:∀c∈[A.rates,A.dues,A.paid,A.weeks,A.nets],∀kvs,H c=some (.dK kvs)->kvs.length<=n
 few:ms.length<=100
 av:∀x,A.out x->∃xs,H x=some (.lst xs)
 nn:∀kvs,H A.nets=some (.dK kvs)->∀who l,Jak kvs (Av who)=some (.ref l)->¬A.out l
 mm:¬A.out A.months
theorem Law.same{H H':Hp}{st:Addr}{A:LSt}{b:Int}{ms:List Int}{B:Bk}{n:Nat}(h:Law H st A b ms B n)(s:JV H H'):Law H' st A b ms B n:=by
 refine⟨h.sta.same s,h.bk.same s,h.ok,h.nd,fun kvs e=>?_,fun c hc kvs e=>?_,h.few,fun x hx=>let ⟨xs,e⟩:=h.av x hx;⟨xs,s _ _ e⟩,fun kvs e=>h.nn kvs (by obtain⟨k0,e0,_⟩:=h.bk.nets;rw[s _ _ e0]at e;cases e;exact e0),h.mm⟩
 .obtain⟨k0,e0,_⟩:=h.bk.hours;rw[s _ _ e0]at e;cases e;exact h.hl _ e0
 .have hd:∃k0,H c=some (.dK k0):=by
   simp only[Aq,AG,or_false]at hc
   rcases hc with rfl|rfl|rfl|rfl|rfl
   .exact let ⟨k0,e0,_⟩:=h.bk.rates;⟨k0,e0⟩
   .exact let ⟨k0,e0,_⟩:=h.bk.dues;⟨k0,e0⟩
   .exact let ⟨k0,e0,_⟩:=h.bk.paid;⟨k0,e0⟩
   .exact let ⟨k0,e0,_⟩:=h.bk.weeks;⟨k0,e0⟩
   .exact let ⟨k0,e0,_⟩:=h.bk.nets;⟨k0,e0⟩
  obtain⟨k0,e0⟩:=hd;rw[s _ _ e0]at e;cases e;exact h.kl c hc _ e0
noncomputable def JO(ns:List Int):List Int:=if Yh ns=7 then JcE (JD ns-3) (JD ns+15)else JcE (JD ns-1) (JD ns+4)
noncomputable def Jju(h r d p w n:Addr):List (Key×V):=[(Av "hours",.ref h),(Av "rates",.ref r),(Av "dues",.ref d),(Av "paid",.ref p),(Av "weeks",.ref w),(Av "nets",.ref n)]
theorem JmV(h r d p w n:Addr):JgM [] (Jju h r d p w n)=Jju h r d p w n:=by rfl
theorem Jqz(h r d p w n l:Addr)(b:Int):Jag (Jag (Jju h r d p w n) (Av "base") (.int b)) (Av "months") (.ref l)=Jju h r d p w n++[((Av "base" : Key),V.int b),(Av "months",.ref l)]:=by rfl
theorem Jpi(h r d p w n l l2:Addr)(b:Int):Jag (Jju h r d p w n++[((Av "base" : Key),V.int b),(Av "months",.ref l)]) (Av "months") (.ref l2)=Jju h r d p w n++[((Av "base" : Key),V.int b),(Av "months",.ref l2)]:=by rfl
theorem Jnl{κ:Type}[DecidableEq κ](kvs:List (κ×V))(k:κ)(v:V):(Jag kvs k v).length<=kvs.length+1:=by
 unfold Jag;split
 .rw[A2];omega
 .rw[AQ];exact A6 _
def Jbh(A:LSt)(H H':Hp):Prop:=∀c o,H c=some o->c∉A.all->H' c=some o
theorem Jbh.of{A:LSt}{H H':Hp}(s:JV H H'):Jbh A H H':=fun c o e _=>s c o e
theorem Jbh.trans{A:LSt}{H H1 H2:Hp}(a:Jbh A H H1)(b:Jbh A H1 H2):Jbh A H H2:=fun c o e n=>b c o (a c o e n) n
theorem Jbh.put{A:LSt}{H:Hp}{x:Addr}{o:HO}(m:x∈A.all):Jbh A H (upd H x o):=fun c p e n=>by
 have z:c≠x:=fun z=>n (by rw[z];exact m);rw[Jg z];exact e
theorem Law.isD{H:Hp}{st:Addr}{A:LSt}{b:Int}{ms:List Int}{B:Bk}{n:Nat}(h:Law H st A b ms B n){c:Addr}(hc:c∈A.all):(∃kvs,H c=some (.dK kvs))\/∃kvs,H c=some (.dT kvs):=by
 simp only[LSt.all,Aq,AG,or_false]at hc
 rcases hc with rfl|rfl|rfl|rfl|rfl|rfl
 .exact .inr (let ⟨k0,e0,_⟩:=h.bk.hours;⟨k0,e0⟩)
 .exact .inl (let ⟨k0,e0,_⟩:=h.bk.rates;⟨k0,e0⟩)
 .exact .inl (let ⟨k0,e0,_⟩:=h.bk.dues;⟨k0,e0⟩)
 .exact .inl (let ⟨k0,e0,_⟩:=h.bk.paid;⟨k0,e0⟩)
 .exact .inl (let ⟨k0,e0,_⟩:=h.bk.weeks;⟨k0,e0⟩)
 .exact .inl (let ⟨k0,e0,_⟩:=h.bk.nets;⟨k0,e0⟩)
theorem Law.sameS{H H':Hp}{st:Addr}{A:LSt}{b:Int}{ms:List Int}{B:Bk}{n:Nat}(h:Law H st A b ms B n)(k:Jbh A H H'):Jah H H':=by
 constructor<;>intro c xs e<;>refine k c _ e fun m=>?_<;>rcases h.isD m with⟨k0,e0⟩|⟨k0,e0⟩<;>rw[e0]at e<;>cases e
structure Jgz(H Hx:Hp)(st:Addr)(A:LSt)(kv:List (Key×V)):Prop where
 s:Hx st=some (.dK kv)
 h:Hx A.hours=some (.dT [])
 c:∀c∈[A.rates,A.dues,A.paid,A.weeks,A.nets],Hx c=some (.dK [])
 keep:JV H Hx
 fr:∀c∈st::A.all,H c=none
 nd:(st::A.all).Nodup
theorem Jgz.same{H Hx Hy:Hp}{st:Addr}{A:LSt}{kv:List (Key×V)}(b:Jgz H Hx st A kv)(s:JV Hx Hy):Jgz H Hy st A kv:=
 ⟨s _ _ b.s,s _ _ b.h,fun c hc=>s _ _ (b.c c hc),b.keep.trans s,b.fr,b.nd⟩
theorem Jgz.put{H Hx:Hp}{st:Addr}{A:LSt}{kv kv':List (Key×V)}(b:Jgz H Hx st A kv):Jgz H (upd Hx st (.dK kv')) st A kv':=by
 obtain⟨n1,n2⟩:=AL.mp b.nd;have ne:∀c∈A.all,c≠st:=fun c hc e=>n1 (e ▸ hc);refine⟨Ja,?_,fun c hc=>?_,fun c o e=>?_,b.fr,b.nd⟩
 .rw[Jg (ne _ (by simp[LSt.all]))];exact b.h
 .rw[Jg (ne _ (by simp only[LSt.all];exact AY _ hc))];exact b.c c hc
 .rw[Jg]
  .exact b.keep c o e
  .intro z;rw[z,b.fr st Az]at e;cases e
theorem Jgz.law{H Hx:Hp}{st l:Addr}{A:LSt}{b:Int}{ms:List Int}(g:Jgz H Hx st A (Jju A.hours A.rates A.dues A.paid A.weeks A.nets++[((Av "base" : Key),V.int b),(Av "months",.ref l)]))(hl:Hx l=some (.lst (ms.map V.int)))(hm:ms.length<=100)(ho:∀x,¬A.out x) :
  Law Hx st { A with months:=l } b ms Bk.new 0:=by
 have c:=fun x hx=>g.c x hx;refine⟨⟨⟨_,g.s,rfl,rfl,rfl,rfl,rfl,rfl,rfl,rfl⟩,hl⟩,⟨⟨[],g.h,(fun _ _=>rfl),fun _ h=>nomatch h⟩,⟨[],g.c _ (by simp),.nil⟩,⟨[],g.c _ (by simp),.nil⟩,⟨[],g.c _ (by simp),fun _=>rfl⟩,⟨[],g.c _ (by simp),fun _=>rfl⟩,⟨[],g.c _ (by simp),fun _=>.inr ⟨rfl,fun _ _=>rfl⟩⟩⟩,⟨fun _ _=>⟨CZ 0,by show(0:Int)<=24;decide⟩,(fun _ h=>nomatch h),(fun _ h=>nomatch h)⟩,g.nd,fun kvs e=>?_,fun x hx kvs e=>?_,hm,fun x z=>absurd z (ho x),fun _ _ _ x _=>ho x,ho _⟩
 .have e:Hx A.hours=some (.dT kvs):=e;rw[g.h]at e;cases e;exact A6 _
 .rw[g.c x hx]at e;cases e;exact A6 _
theorem YT.sameS{H H':Hp}{bs:List Bd}{v:V}(s:Jah H H')(h:YT H bs v):YT H' bs v:=let ⟨a,e,b⟩:=h;⟨a,e,Jy.mpr (Rep.sameS s (Jy.mp b))⟩
theorem JbG.sameS{H H':Hp}{t:Tab}{v:V}(s:Jah H H')(h:JbG H t v):JbG H' t v:=let ⟨a,c,e,t,b⟩:=h;⟨a,c,e,s.1 _ _ t,Jy.mpr (Rep.sameS s (Jy.mp b))⟩
section
variable {H H':Hp} {st:Addr} {A:LSt} {b:Int} {ms:List Int} {B:Bk} {n:Nat}
theorem Law.le{m:Nat}(h:Law H st A b ms B n)(hm:n<=m):Law H st A b ms B m:=⟨h.sta,h.bk,h.ok,h.nd,fun k e=>B0 (h.hl k e) hm,fun c hc k e=>B0 (h.kl c hc k e) hm,h.few,h.av,h.nn,h.mm⟩
theorem Law.ne_st(h:Law H st A b ms B n){x:Addr}(hx:x∈A.all):st≠x:=fun e=>(AL.mp h.nd).1 (by rw[e];exact hx)
theorem Law.staPut(h:Law H st A b ms B n){x:Addr}(hx:x∈A.all){o:HO}:Jo5 (upd H x o) st A b ms:=by
 obtain⟨kvs,e,r⟩:=h.sta.kvs;refine⟨⟨kvs,?_,r⟩,(h.sameS (Jbh.put hx)).2 _ _ h.sta.months⟩;rw[Jg (h.ne_st hx)];exact e
structure Nds(A:LSt):Prop where
 hr:A.hours≠A.rates
 hd:A.hours≠A.dues
 hp:A.hours≠A.paid
 hw:A.hours≠A.weeks
 hn:A.hours≠A.nets
 rd:A.rates≠A.dues
 rp:A.rates≠A.paid
 rw:A.rates≠A.weeks
 rn:A.rates≠A.nets
 dp:A.dues≠A.paid
 dw:A.dues≠A.weeks
 dn:A.dues≠A.nets
 pw:A.paid≠A.weeks
 pn:A.paid≠A.nets
 wn:A.weeks≠A.nets
theorem Law.nds(h:Law H st A b ms B n):Nds A:=by
 have d:=(AL.mp h.nd).2;simp only[LSt.all,AL,Aq,AG,or_false,not_or,not_false_eq_true,BZ,and_true]at d;obtain⟨⟨a1,a2,a3,a4,a5⟩,⟨b1,b2,b3,b4⟩,⟨c1,c2,c3⟩,⟨d1,d2⟩,e1⟩:=d;exact⟨a1,a2,a3,a4,a5,b1,b2,b3,b4,c1,c2,c3,d1,d2,e1⟩
theorem Law.lens(h:Law H st A b ms B n){x:Addr}{kvs:List (Key×V)}{k:Key}{v:V}(hx:x∈[A.rates,A.dues,A.paid,A.weeks,A.nets])(e:H x=some (.dK kvs)) :
  (∀ks,upd H x (.dK (Jag kvs k v)) A.hours=some (.dT ks)->ks.length<=n+1)/\∀c∈[A.rates,A.dues,A.paid,A.weeks,A.nets],∀ks,upd H x (.dK (Jag kvs k v)) c=some (.dK ks)->ks.length<=n+1:=by
 have l:=h.kl x hx kvs e;have p:=Jnl kvs k v;constructor
 .intro ks e1
  by_cases c:A.hours=x
  .rw[c,Ja]at e1;cases e1
  .rw[Jg c]at e1;exact B1 (h.hl ks e1)
 .intro c hc ks e1
  by_cases z:c=x
  .rw[z,Ja]at e1;cases e1;omega
  .rw[Jg z]at e1;exact B1 (h.kl c hc ks e1)
theorem Law.netsT(h:Law H st A b ms B n)(s:Jah H H')(e:H' A.nets=H A.nets):∃kvs:List (Key×V),H' A.nets=some (.dK kvs)/\∀who,(∃a,Jak kvs (Av who)=some (.ref a)/\H' a=some (.lst (ms.map fun m=>.int (B.nets who m))))\/(Jak kvs (Av who)=none/\∀m∈ms,B.nets who m=0):=by
 obtain⟨kvs,e0,r⟩:=h.bk.nets;refine⟨kvs,e.trans e0,fun who=>?_⟩
 rcases r who with⟨a,q,g⟩|z
 .exact .inl ⟨a,q,s.2 _ _ g⟩
 .exact .inr z
theorem Law.avT(h:Law H st A b ms B n)(s:Jah H H'):∀x,A.out x->∃xs,H' x=some (.lst xs):=fun x hx=>let ⟨xs,e⟩:=h.av x hx;⟨xs,s.2 _ _ e⟩
theorem Law.nnT(h:Law H st A b ms B n)(e:H' A.nets=H A.nets):∀kvs,H' A.nets=some (.dK kvs)->∀who l,Jak kvs (Av who)=some (.ref l)->¬A.out l:=fun kvs z=>h.nn kvs (e.symm.trans z)
theorem Law.putRate(h:Law H st A b ms B n){kvs:List (Key×V)}(e:H A.rates=some (.dK kvs))(week:Int){bs:List Bd}{v:V}(hv:YT H bs v)(hc:JaX none bs=true)(hb:Jbd bs) :
  Law (upd H A.rates (.dK (Jag kvs (Aj week) v))) st A b ms { B with rates:=Y7 B.rates week bs } (n+1):=by
 have N:=h.nds
 have m:A.rates∈A.all:=by simp[LSt.all]
 have s:=h.sameS (Jbh.put (o:=HO.dK (Jag kvs (Aj week) v)) m);obtain⟨l1,l2⟩:=h.lens (k:=Aj week) (v:=v) (x:=A.rates) (by simp) e;refine⟨h.staPut m,⟨?_,?_,h.bk.dues.mono (Jg N.rd.symm) fun _ _ z=>z.sameS s,?_,?_,h.netsT s (Jg N.rn.symm)⟩,⟨h.ok.hrs,fun p hp=>?_,h.ok.dues⟩,h.nd,l1,l2,h.few,h.avT s,h.nnT (Jg N.rn.symm),h.mm⟩
 .obtain⟨k1,e1,r1⟩:=h.bk.hours;exact⟨k1,(Jg N.hr).trans e1,r1⟩
 .obtain⟨k1,e1,r1⟩:=h.bk.rates;rw[e]at e1;cases e1;exact⟨_,Ja,Jfl (JN (fun _ _ z=>⟨z.1,z.2.sameS s⟩) r1) (hv.sameS s)⟩
 .obtain⟨k1,e1,r1⟩:=h.bk.paid;exact⟨k1,(Jg N.rp.symm).trans e1,r1⟩
 .obtain⟨k1,e1,r1⟩:=h.bk.weeks;exact⟨k1,(Jg N.rw.symm).trans e1,r1⟩
 .rcases Jcn hp with q|hp
  .rw[q];exact⟨hc,hb⟩
  .exact h.ok.rates p hp
theorem Law.putDues(h:Law H st A b ms B n){kvs:List (Key×V)}(e:H A.dues=some (.dK kvs))(month:Int){t:Tab}{v:V}(hv:JbG H t v)(hc:Jcx t=true)(hb:Jrr t) :
  Law (upd H A.dues (.dK (Jag kvs (Aj month) v))) st A b ms { B with dues:=Y7 B.dues month t } (n+1):=by
 have N:=h.nds
 have m:A.dues∈A.all:=by simp[LSt.all]
 have s:=h.sameS (Jbh.put (o:=HO.dK (Jag kvs (Aj month) v)) m);obtain⟨l1,l2⟩:=h.lens (k:=Aj month) (v:=v) (x:=A.dues) (by simp) e;refine⟨h.staPut m,⟨?_,h.bk.rates.mono (Jg N.rd) fun _ _ z=>z.sameS s,?_,?_,?_,h.netsT s (Jg N.dn.symm)⟩,⟨h.ok.hrs,h.ok.rates,fun p hp=>?_⟩,h.nd,l1,l2,h.few,h.avT s,h.nnT (Jg N.dn.symm),h.mm⟩
 .obtain⟨k1,e1,r1⟩:=h.bk.hours;exact⟨k1,(Jg N.hd).trans e1,r1⟩
 .obtain⟨k1,e1,r1⟩:=h.bk.dues;rw[e]at e1;cases e1;exact⟨_,Ja,Jfl (JN (fun _ _ z=>⟨z.1,z.2.sameS s⟩) r1) (hv.sameS s)⟩
 .obtain⟨k1,e1,r1⟩:=h.bk.paid;exact⟨k1,(Jg N.dp.symm).trans e1,r1⟩
 .obtain⟨k1,e1,r1⟩:=h.bk.weeks;exact⟨k1,(Jg N.dw.symm).trans e1,r1⟩
 .rcases Jcn hp with q|hp
  .rw[q];exact⟨hc,hb⟩
  .exact h.ok.dues p hp
theorem JoU{κ:Type}[DecidableEq κ]{k:κ}{v:V}{p:κ×V}{kvs:List (κ×V)}(h:p∈Jag kvs k v):p=(k,v)\/p∈kvs:=by
 unfold Jag at h;split at h
 .obtain⟨q,hq,e⟩:=Ag.mp h
  by_cases c:q.1=k
  .rw[if_pos c,c]at e;exact .inl e.symm
  .rw[if_neg c]at e;exact .inr (e ▸ hq)
 .rcases Ae.mp h with h|h
  .exact .inr h
  .exact .inl (A5.mp h)
theorem Law.putHours(h:Law H st A b ms B n){kvs:List (List Key×V)}(e:H A.hours=some (.dT kvs))(who:Str)(day many:Int)(hm:0<=many/\many<=24) :
  Law (upd H A.hours (.dT (Jag kvs [Av who,Aj day] (.int many)))) st A b ms { B with hrs:=fun y d=>if y=who/\d=day then many else B.hrs y d } (n+1):=by
 have N:=h.nds
 have m:A.hours∈A.all:=by simp[LSt.all]
 have s:=h.sameS (Jbh.put (o:=HO.dT (Jag kvs [Av who,Aj day] (.int many))) m);have hl:=h.hl kvs e;have pl:=Jnl kvs [Av who,Aj day] (V.int many);refine⟨h.staPut m,⟨⟨_,Ja,fun y d=>?_,fun p hp=>?_⟩,h.bk.rates.mono (Jg N.hr.symm) fun _ _ z=>z.sameS s,h.bk.dues.mono (Jg N.hd.symm) fun _ _ z=>z.sameS s,?_,?_,h.netsT s (Jg N.hn.symm)⟩,⟨fun y d=>?_,h.ok.rates,h.ok.dues⟩,h.nd,fun ks e1=>?_,fun c hc ks e1=>?_,h.few,h.avT s,h.nnT (Jg N.hn.symm),h.mm⟩
 .obtain⟨k1,e1,r1⟩:=h.bk.hours;rw[e]at e1;cases e1;rw[JoL];show _=V.int (if y=who/\d=day then many else B.hrs y d)
  by_cases c:y=who/\d=day
  .rw[if_pos c,if_pos (by rw[c.1,c.2])];rfl
  .rw[if_neg c,if_neg]
   .exact r1.1 y d
   .intro z
    injection z with z1 z2
    injection z2 with z3 z4
    exact c ⟨Av.inj z1,Aj.inj z3⟩
 .obtain⟨k1,e1,r1⟩:=h.bk.hours;rw[e]at e1;cases e1
  rcases JoU hp with z|z
  .exact⟨who,day,many,z⟩
  .exact r1.2 p z
 .obtain⟨k1,e1,r1⟩:=h.bk.paid;exact⟨k1,(Jg N.hp.symm).trans e1,r1⟩
 .obtain⟨k1,e1,r1⟩:=h.bk.weeks;exact⟨k1,(Jg N.hw.symm).trans e1,r1⟩
 .show 0<=(if y=who/\d=day then many else B.hrs y d)/\(if y=who/\d=day then many else B.hrs y d)<=24;split
  .exact hm
  .exact h.ok.hrs y d
 .rw[Ja]at e1;cases e1;omega
 .have z:c≠A.hours:=by
   simp only[Aq,AG,or_false]at hc
   rcases hc with rfl|rfl|rfl|rfl|rfl
   .exact N.hr.symm
   .exact N.hd.symm
   .exact N.hp.symm
   .exact N.hw.symm
   .exact N.hn.symm
  rw[Jg z]at e1;exact B1 (h.kl c hc ks e1)
end
noncomputable def Jnc(ns:List Int):JU->Prop
 | .hours who day _=>who∈JJ ns/\day/28∈JO ns
 | .payday who week=>who∈JJ ns/\week<=4*JD ns+9*Yh ns
 | .pay who _=>who∈JJ ns
 | .net who _=>who∈JJ ns
 | .right who _=>who∈JJ ns
 | .owing who _=>who∈JJ ns
 | .paid who=>who∈JJ ns
 | _=>True
theorem JhD(ns:List Int):Yh ns=7\/Yh ns=1:=by unfold Yh;split<;>simp
theorem JmJ{ns:List Int}{i:Int}(h0:0<=i)(h1:i<ns.length):∃x,atI (ns.map V.int) i=some (.int x):=by
 have hj:i.toNat<ns.length:=by omega
 have e:=Jl (xs:=ns.map V.int) (j:=i.toNat) (v:=.int ns[i.toNat]) (by rw[Ax,A1 hj];rfl);rw[show((i.toNat:Nat):Int)=i by omega]at e;exact⟨_,e⟩
theorem JkL{ns:List Int}(hp:0<ns.length)(i:Int):∃x,atI (ns.map V.int) (i%((ns.map V.int).length:Nat))=some (.int x):=by
 rw[A2];exact JmJ (BX _ (by omega)) (Bq _ (by omega))
theorem Jjo(ns:List Int):(JJ ns).length=3:=by
 unfold JJ;split
 .rfl
 .split<;>rfl
theorem Jsc(ns:List Int)(i:Int):∃who,atI ((JJ ns).map V.str) (i%3)=some (.str who)/\who∈JJ ns:=by
 have h3:=Jjo ns
 have hj:(i%3).toNat<(JJ ns).length:=by omega
 have e:=Jl (xs:=(JJ ns).map V.str) (j:=(i%3).toNat) (v:=.str (JJ ns)[(i%3).toNat]) (by rw[Ax,A1 hj];rfl);rw[show(((i%3).toNat:Nat):Int)=i%3 by omega]at e;exact⟨_,e,B8 hj⟩
theorem Jps{ns:List Int}{x:Int}(h0:0<=x)(h1:x<70):((x-12)*Yh ns+28*JD ns)/28∈JO ns:=by
 unfold JO;split
 .rename_i h;rw[h];refine JhH.mpr ?_;omega
 .rename_i h;rw[(JhD ns).resolve_left h];refine JhH.mpr ?_;omega
theorem Jtr(x:Int):(0-x%10^60).natAbs<10^62:=by
 have h0:0<=x%10^60:=BX _ (by decide);have h1:x%10^60<10^60:=Bq _ (by decide);generalize x%10^60=y at h0 h1;omega
theorem JtK(x:Int):(1+x%10^60).natAbs<10^62:=by
 have h0:0<=x%10^60:=BX _ (by decide);have h1:x%10^60<10^60:=Bq _ (by decide);generalize x%10^60=y at h0 h1;omega
theorem Juy(x:Int):∃per,atI [V.int 0,V.int 1,V.int (0-x%10^(60:Int).toNat)] (x%3)=some (.int per)/\per.natAbs<10^62:=by
 have m3:x%3=0\/x%3=1\/x%3=2:=by omega
 rcases m3 with h|h|h<;>rw[h]
 .exact⟨0,rfl,by decide⟩
 .exact⟨1,rfl,by decide⟩
 .exact⟨_,rfl,Jtr x⟩
theorem Jux(x:Int):∃per,atI [V.int (1+x%10^(60:Int).toNat),V.int 7] (x%2)=some (.int per)/\per.natAbs<10^62:=by
 have m2:x%2=0\/x%2=1:=by omega
 rcases m2 with h|h<;>rw[h]
 .exact⟨_,rfl,JtK x⟩
 .exact⟨7,rfl,by decide⟩
theorem Yo{x y:Int}(h0 : -1000<=x)(h1:x<=1000):Jnp x y:=.inl (.inl ⟨by omega,by omega⟩)
theorem JsB{ns:List Int}{who:Str}(hm:who∈JJ ns)(week:Int){pick:Int}(h0:¬decide (pick<12)=true)(h1:pick<16):∃(nm:Str)(d:JU),atI [V.str "pay",V.str "net",V.str "right",V.str "owing"] (pick-12)=some (.str nm)/\
  (∀{H:Hp}{t:Addr},H t=some (.tup [.str nm,.str who,.int week])->Rep H (YR d) (.ref t))/\Jal d/\Jnc ns d:=by
 have h0:¬pick<12:=fun z=>h0 (decide_eq_true z)
 have m4:pick=12\/pick=13\/pick=14\/pick=15:=by omega
 rcases m4 with rfl|rfl|rfl|rfl
 .exact⟨"pay",.pay who week,rfl,fun h=>⟨_,_,rfl,h,_,_,rfl,rfl,_,_,rfl,rfl,_,_,rfl,rfl,rfl⟩,trivial,hm⟩
 .exact⟨"net",.net who week,rfl,fun h=>⟨_,_,rfl,h,_,_,rfl,rfl,_,_,rfl,rfl,_,_,rfl,rfl,rfl⟩,trivial,hm⟩
 .exact⟨"right",.right who week,rfl,fun h=>⟨_,_,rfl,h,_,_,rfl,rfl,_,_,rfl,rfl,_,_,rfl,rfl,rfl⟩,trivial,hm⟩
 .exact⟨"owing",.owing who week,rfl,fun h=>⟨_,_,rfl,h,_,_,rfl,rfl,_,_,rfl,rfl,_,_,rfl,rfl,rfl⟩,trivial,hm⟩
theorem Jtt{b:Bool}{x y:V}:atI [x,y] (if b=true then 1 else 0)=some (if b=true then y else x):=by cases b<;>rfl
theorem Jnc.fits{ns:List Int}:∀{d:JU},Jnc ns d->Jrs (JO ns) (·∈JJ ns) d
 | .hours ..,h=>fun _=>h.2
 | .payday ..,h=>h.1
 | .right ..,h=>h
 | .owing ..,h=>h
 | .pay ..,_=>trivial
 | .net ..,_=>trivial
 | .paid ..,_=>trivial
 | .rate ..,_=>trivial
 | .dues ..,_=>trivial
theorem Jjp(ns:List Int):(JO ns).Pairwise (·<·):=by
 unfold JO;split<;>exact JqV _ _
theorem JjE{c:Nat}:∀{l:List Dt},(∀d∈l,dsz d<=c)->JbP l<=c*l.length
 | [],_=>AA _
 | d::r,h=>by
  have a:=h d (.head _);have b:=JjE fun e he=>h e (.tail _ he);show dsz d+JbP r<=c*(r.length+1);rw[Nat.mul_add];omega
theorem JmT{ms:List Int}(B:Bk)(ds:List JU)(d:JU):JiG ms B (ds++[d])=(step ms (JiG ms B ds) d).2:=by
 unfold JiG;rw[CA];rfl
theorem Jig{bs:List Bd}(h:Jbd bs):dsz (Jb4 bs)<=43:=by
 show 1+JbP (bs.map fun b=>.tup [oD b.1,.int b.2])<=43
 have a:=JjE (c:=3) (l:=bs.map fun b=>.tup [oD b.1,.int b.2]) fun e he=>by
  obtain⟨⟨o,x⟩,_,rfl⟩:=Ag.mp he;cases o<;>exact A6 3
 have:=h.len;rw[A2]at a;omega
theorem Jpo:∀{d:JU},Jal d->dsz (YR d)<=100
 | .rate _ bs,h=>by
  have:=Jig h;show 1+(1+(1+(dsz (Jb4 bs)+0)))<=100;omega
 | .dues _ t,h=>by
  have:=Jig h.bands;show 1+(1+(1+((1+(dsz (Jb4 t.1)+(1+(1+0))))+0)))<=100;omega
 | .hours ..,_=>by show 5<=100;decide
 | .payday ..,_=>by show 4<=100;decide
 | .pay ..,_=>by show 4<=100;decide
 | .net ..,_=>by show 4<=100;decide
 | .right ..,_=>by show 4<=100;decide
 | .owing ..,_=>by show 4<=100;decide
 | .paid ..,_=>by show 3<=100;decide
theorem Jlp{ds:List JU}(h:∀d∈ds,Jal d):JbP (ds.map YR)<=100*ds.length:=by
 have a:=JjE (c:=100) (l:=ds.map YR) fun e he=>by
  obtain⟨d,hd,rfl⟩:=Ag.mp he;exact Jpo (h d hd)
 rwa [A2]at a
end Wb
namespace L2
open PySem PySem.Spec PyProof.Rows
theorem JoJ{X:Cx}{pos:Pos}{k1 v1 k2 v2 k3 v3 k4 v4 k5 v5 k6 v6:Expr}{t1 u1 t2 u2 t3 u3 t4 u4 t5 u5 t6 u6:TE}(a1:PE X k1 t1)(b1:PE X v1 u1)(a2:PE X k2 t2)(b2:PE X v2 u2)(a3:PE X k3 t3)(b3:PE X v3 u3)
  (a4:PE X k4 t4) (b4:PE X v4 u4) (a5:PE X k5 t5) (b5:PE X v5 u5) (a6:PE X k6 t6) (b6:PE X v6 u6):PE X (.Dict [some k1,some k2,some k3,some k4,some k5,some k6] [v1,v2,v3,v4,v5,v6] pos) (JrK [(t1,u1),(t2,u2),(t3,u3),(t4,u4),(t5,u5),(t6,u6)]):=by
 have h6:=Jdd a6 b6 (JqH (X:=X) (pos:=pos));have h5:=Jdd a5 b5 h6;have h4:=Jdd a4 b4 h5;have h3:=Jdd a3 b3 h4;have h2:=Jdd a2 b2 h3;have h1:=Jdd a1 b1 h2;exact Jrq h1 rfl rfl (Kd _ _) (Gd rfl)
noncomputable def fnB(N P:List Str)(sc:DV):Bool:=decide (sc.kind=.function/\sc.isCoroutine=false/\sc.isGenerator=false/\N.Nodup/\N.take P.length=P/\(∀x∈P,sc.names.lookup x=some .local\/sc.names.lookup x=some .cell)/\∀y∈sc.names,y.2≠.free)
theorem JH{N P:List Str}{sc:DV}(h:fnB N P sc=true):Ju N P sc:=by
 obtain⟨a,b,c,d,e,f,g⟩:=of_decide_eq_true h;exact⟨a,b,c,d,e,f,g⟩
noncomputable def Juw(N:List Str)(sc:DV)(N':List Str)(scope:DV)(src:List (Option Nat)):Bool:=decide (scope.kind=.function/\(∀y∈scope.names,y.2≠.cell)/\(∀y∈scope.names,y.2=.free->sc.names.lookup y.1=some .cell\/sc.names.lookup y.1=some .free)/\(∀y∈scope.names,y.2=.local->scope.names.lookup y.1=some .local)/\N'.Nodup/\src.length=N'.length/\
 ∀p∈N'.zip src,∀j∈p.2.toList,N[j]?=some p.1/\scope.names.lookup p.1=some .free)
theorem Ja4{N:List Str}{sc:DV}{N':List Str}{scope:DV}{src:List (Option Nat)}(h:Juw N sc N' scope src=true):JbI N sc N' scope src:=by
 obtain⟨a,b,c,d,e,f,g⟩:=of_decide_eq_true h;exact⟨a,b,c,d,e,f,g⟩
theorem Jk{X:Cx}{pos:Pos}(i:Nat){x:Str}{e:Expr}{te:TE}{pos':Pos}(hN:X.N.Nodup)(he:PE X e te)(hi:X.N[i]?=some x:=by rfl)(hx:Loc X.env.scope x:=by first|exact Ds rfl|exact Ho rfl)(hs:Fb e (some (.Name x pos')) pos.line X.env=pure false:=by rfl)
  (hf:X.fn x=true\/X.env.scope.names.lookup x=some .local:=by first|exact .inl rfl|exact .inr rfl|assumption):PS X (.Assign [.Name x pos'] e pos) (JtP te (Jcz i)):=JfJ hN hi hx he hs hf
theorem pa1{X:Cx}{e:Expr}{te:TE}(ha:PE X e te)(hs:AR [e] X.env=(false,eval e X.env)::AR [] X.env:=by rfl):PA X [e] (Jsk te Js3):=Jb ha JR hs
end L2
namespace Wb
open PySem PySem.Spec PyProof.Rows L2
theorem Jpm{X:Cx}{x:Str}{ps:List Str}{sp:Sp}{k:Nat}{f:Addr}{fd:Aa}{p pos:Pos}{e:Expr}{es:List Expr}{t:TA}(C:JK X.prog X.w X.K X.mg X.base x ps sp k f fd)(hr:JdG k X.A)(ha:PA X (e::es) t)(hg:Gl X x:=by rfl)(hdb:(x==("__debug__" : Str))=false:=by decide)
  (he:AR (e::es) X.env=(false,eval e X.env)::AR es X.env:=by rfl) (hpl:(DF pos (AR es X.env)).any (·.1)=false:=by rfl):PE X (.Call (.Name x p) (e::es) [] pos) (Jqw sp [] E0 t):=Jkd C.ok hr hg C.mg C.kp C.b .nil Jbw ha hdb he hpl
theorem Jik{α:Type}{us:List α}(h:us.length=1):∃a,us=[a]:=List.length_eq_one_iff.mp h
theorem Jgl{α:Type}{us:List α}(h:us.length=2):∃a b,us=[a,b]:=by
 cases us with
 | nil=>cases h
 | cons a r=>
  obtain⟨b,rfl⟩:=Jik (K2 h);exact⟨a,b,rfl⟩
theorem Ji0{α:Type}{us:List α}(h:us.length=3):∃a b c,us=[a,b,c]:=by
 cases us with
 | nil=>cases h
 | cons a r=>
  obtain⟨b,c,rfl⟩:=Jgl (K2 h);exact⟨a,b,c,rfl⟩
theorem JsQ{α:Type}{us:List α}(h:us.length=4):∃a b c d,us=[a,b,c,d]:=by
 cases us with
 | nil=>cases h
 | cons a r=>
  obtain⟨b,c,d,rfl⟩:=Ji0 (K2 h);exact⟨a,b,c,d,rfl⟩
theorem zs0:0<=AK:=by decide
theorem zs1:1<=AK:=by decide
theorem zs2:2<=AK:=by decide
theorem zs3:3<=AK:=by decide
theorem zs4:4<=AK:=by decide
theorem Jgu{H:Hp}{p:Addr}{o:HO}(h:H p=none):JV H (upd H p o)/\upd H p o p=some o:=⟨Je h,Ja⟩
end Wb
namespace L2
open PySem PySem.Spec PyProof.Rows
def rdV(o:Option (Option V))(H:Hp)(Q:VK):Prop:=match o with
 | some (some v)=>Q v H
 | _=>False
def Jtf(i:Nat):TE:=fun σ H Q=>rdV σ[i]? H Q
theorem JqL{i:Nat}:Jtf i=Jtp i:=by
 funext σ H Q;show rdV σ[i]? H Q=∃v,σ[i]?=some (some v)/\Q v H;generalize σ[i]?=o;refine propext ⟨fun h=>?_,fun h=>?_⟩
 .match o,h with
  | some (some v),h=>exact⟨v,rfl,h⟩
 .obtain⟨v,e,h⟩:=h;rw[e];exact h
def rJ0(g:Int->Int->V):R2:=fun x y H Q=>match x,y with
 | .int i,.int j=>Q (g i j) H
 | _,_=>False
theorem JgQ{g:Int->Int->V}:rJ0 g=rI0 g:=by
 funext x y H Q;refine propext ⟨fun h=>?_,fun h=>?_⟩
 .match x,y,h with
  | .int i,.int j,h=>exact⟨i,j,rfl,rfl,h⟩
 .obtain⟨i,j,e,e',h⟩:=h;rw[e,e'];exact h
def rJ(C:Int->Int->Prop)(g:Int->Int->V):R2:=fun x y H Q=>match x,y with
 | .int i,.int j=>C i j/\Q (g i j) H
 | _,_=>False
theorem JoO{C:Int->Int->Prop}{g:Int->Int->V}:rJ C g=rI C g:=by
 funext x y H Q;refine propext ⟨fun h=>?_,fun h=>?_⟩
 .match x,y,h with
  | .int i,.int j,h=>exact⟨i,j,rfl,rfl,h⟩
 .obtain⟨i,j,e,e',h⟩:=h;rw[e,e'];exact h
def rUJ(g:Int->V):V->Hp->VK->Prop:=fun x H Q=>match x with
 | .int i=>Q (g i) H
 | _=>False
theorem Jsg{g:Int->V}:rUJ g=rU g:=by
 funext x H Q;refine propext ⟨fun h=>?_,fun h=>?_⟩
 .match x,h with
  | .int i,h=>exact⟨i,rfl,h⟩
 .obtain⟨i,e,h⟩:=h;rw[e];exact h
def rdI(x:V)(H:Hp)(Q:Option Int->Hp->Prop):Prop:=match x with
 | .int i=>Q (some i) H
 | _=>False
def Jqc(t:TE):TO:=fun σ H Q=>t σ H fun x H1=>rdI x H1 Q
theorem Jml{t:TE}:Jqc t=JrH t:=by
 funext σ H Q;refine congrArg (t σ H) (funext fun x=>funext fun H1=>propext ⟨fun h=>?_,fun h=>?_⟩)
 .match x,h with
  | .int c,h=>exact⟨c,rfl,h⟩
 .obtain⟨v,e,h⟩:=h;rw[e];exact h
section
variable {X:Cx} {a b:Expr} {ta tb:TE} {pos:Pos}
theorem pw(i:Nat){x:Str}{pos:Pos}(hN:X.N[i]?=some x:=by rfl)(hv:Vis X.env.scope x:=by first|exact Ds rfl|exact Ho (Ds rfl)|exact Ho (Ho rfl))(hd:(x==("__debug__" : Str))=false:=by decide)
  (hcd:(x==("__classdict__" : Str))=false:=by decide):PE X (.Name x pos) (Jtf i):=JqL ▸ pv i hN hv hd hcd
theorem JF:OpR X (C0 .Add) (rJ0 fun i j=>.int (i+j)):=JgQ ▸ JrD
theorem J6:OpR X (C0 .Sub) (rJ0 fun i j=>.int (i-j)):=JgQ ▸ Jsq
theorem JbW:OpR X (Bs .Lt) (rJ0 fun i j=>.bl (decide (i<j))):=JgQ ▸ Jtc
theorem JfL:OpR X (Bs .LtE) (rJ0 fun i j=>.bl (decide (i<=j))):=JgQ ▸ Js9
theorem JeZ:OpR X (Bs .Gt) (rJ0 fun i j=>.bl (decide (j<i))):=JgQ ▸ Jtj
theorem JmL:OpR X (Bs .GtE) (rJ0 fun i j=>.bl (decide (j<=i))):=JgQ ▸ JtJ
theorem Jw:OpR X (C0 .Mod) (rJ (fun _ j=>0<j) fun i j=>.int (i%j)):=JoO ▸ Jr8
theorem JaR:OpR X (C0 .Pow) (rJ Jt4 fun i j=>.int (i^j.toNat)):=JoO ▸ Jr1
theorem Ye:OpR X (C0 .Mult) (rJ Jnp fun i j=>.int (i*j)):=JoO ▸ Jro
theorem Y3:OpR X (C0 .FloorDiv) (rJ JsW fun i j=>.int (i/j)):=JoO ▸ Jpp
theorem Jaj:UnR X (unaryOp .USub) (rUJ fun i=>.int (-i)):=Jsg ▸ JpZ
theorem J2{e:Expr}{te:TE}(h:PE X e te):PO X (some e) (Jqc te):=(Jml (t:=te)) ▸ Jrf h
end
theorem Jo{X:Cx}{a b:Expr}{ta tb:TE}{pos:Pos}{r:R2}(hr:IxR X r)(ha:PE X a ta)(hb:PE X b tb)(hs:Jnq b:=by exact fun _ _=>rfl):PE X (.Subscript a b pos) (tOp r ta tb):=JsU hr ha hb hs
theorem YH{X:Cx}{o i:Expr}{td ty:TE}{pos:Pos}(hu:X.A.units+1<DR)(ho:PE X o td)(hi:PE X i ty)(hs:JtO i:=by exact fun _ _=>rfl):PE X (.Subscript o i pos) (JsK td ty):=JqN hu ho hi hs
theorem pgn{X:Cx}{pos:Pos}(i:Nat){x:Str}(hN:X.N.Nodup)(hi:X.N[i]?=some x:=by rfl)(hx:Loc X.env.scope x:=by first|exact Ds rfl|exact Ho rfl)(hf:X.fn x=true\/X.env.scope.names.lookup x=some .local:=by first|exact .inl rfl|exact .inr rfl|assumption):PG X (.Name x pos) (Jcz i):=Jom hN hi hx hf
end L2
namespace Wb
open PySem PySem.Spec PyProof.Rows L2
theorem Js{X:Cx}{x:Str}{ps:List Str}{sp:Sp}{k n:Nat}{f:Addr}{fd:Aa}{p pos:Pos}{e:Expr}{es:List Expr}{t:TA}(C:JK X.prog X.w X.K X.mg X.base x ps sp k f fd)(hr:JdG n X.A)(ha:PA X (e::es) t)(hk:k<=n:=by decide)(hg:Gl X x:=by rfl)(hdb:(x==("__debug__" : Str))=false:=by decide)
  (he:AR (e::es) X.env=(false,eval e X.env)::AR es X.env:=by rfl) (hpl:(DF pos (AR es X.env)).any (·.1)=false:=by rfl):PE X (.Call (.Name x p) (e::es) [] pos) (Jqw sp [] E0 t):=Jpm C (hr.mono hk) ha hg hdb he hpl
noncomputable def JsZ(B:Bk)(who:Str)(day many:Int):Bk:={ B with hrs:=fun y d=>if y=who/\d=day then many else B.hrs y d }
noncomputable def JuI(ms:List Int)(B:Bk)(who:Str)(week:Int):Bk:=
 { B with paid:=JrU B.paid who (B.paid who+mx 0 (rightS ms B who week-B.paid who)),last:=fun y=>if y=who then some week else B.last y,nets:=fun y m=>if y=who then netS B who m week else B.nets y m }
theorem JhG{ms:List Int}{B:Bk}{who:Str}{week:Int}(e:Jcl B who week=false):step ms B (.payday who week)=(.tup [.int (mx 0 (rightS ms B who week-B.paid who)),.int (mn 0 (rightS ms B who week-B.paid who)),.lst ((JiR ms B who week).map fun p=>.tup [.int p.1,.int p.2])],JuI ms B who week):=by
 show(if Jcl B who week=true then _ else _)=_;rw[if_neg (by rw[e];exact AW)];rfl
noncomputable def Jub:JU->Bool
 | .hours ..=>true
 | .rate ..=>true
 | .dues ..=>true
 | .payday ..=>true
 | _=>false
theorem JuM(ns:List Int)(a b:Nat):Je9 (ns.map V.int) (some (a:Int)) (some ((a+b:Nat):Int))=((ns.drop a).take b).map V.int:=by
 unfold Je9;rw[HT.Jfv,HT.Jfv,A2,DC,Mj]
 by_cases h:ns.length<=a
 .rw[D8 (i:=a) (by rw[A2];exact h),D8 (i:=min a ns.length) (by rw[A2];omega),HZ,HZ]
 .rw[show min a ns.length=a by omega]
  by_cases g:ns.length<=a+b
  .rw[AC (by rw[Ci,A2];omega),AC (by rw[Ci,A2];omega)]
  .rw[show min (a+b) ns.length-a=b by omega]
theorem Jel{H:Hp}:∀{l:List Dt}{vs:List V}(n:Nat),Yv H l vs->Yv H (l.drop n) (vs.drop n)
 | l,vs,0,h=>h
 | [],vs,n+1,h=>by
  have h:vs=[]:=h;subst h;exact rfl
 | d::l,vs,n+1,h=>by
  obtain⟨v,t,e,_,q⟩:=h;rw[e];exact Jel n q
noncomputable def JuO(week:Int)(names:List Str):List JU:=names.flatMap fun who=>[.paid who,.right who week,.owing who week]
theorem Law.mono{H H':Hp}{st:Addr}{A:LSt}{b:Int}{ms:List Int}{B:Bk}{n:Nat}(h:Law H st A b ms B n)(s:Jah H H')(e:∀c∈st::A.all,H' c=H c):Law H' st A b ms B n:=by
 have ea:∀c∈A.all,H' c=H c:=fun c hc=>e c (.tail _ hc)
 refine⟨⟨let ⟨k,e0,r⟩:=h.sta.kvs;⟨k,(e st (.head _)).trans e0,r⟩,s.2 _ _ h.sta.months⟩,⟨let ⟨k,e0,r⟩:=h.bk.hours;⟨k,(ea _ (by simp[LSt.all])).trans e0,r⟩,h.bk.rates.mono (ea _ (by simp[LSt.all])) fun _ _ z=>z.sameS s,h.bk.dues.mono (ea _ (by simp[LSt.all])) fun _ _ z=>z.sameS s,
  let ⟨k,e0,r⟩:=h.bk.paid;⟨k,(ea _ (by simp[LSt.all])).trans e0,r⟩,let ⟨k,e0,r⟩:=h.bk.weeks;⟨k,(ea _ (by simp[LSt.all])).trans e0,r⟩,h.netsT s (ea _ (by simp[LSt.all]))⟩,h.ok,h.nd,fun k z=>h.hl k ((ea _ (by simp[LSt.all])).symm.trans z),fun c hc k z=>h.kl c hc k ((ea c (AY _ hc)).symm.trans z),h.few,h.avT s,h.nnT (ea _ (by simp[LSt.all])),h.mm⟩
theorem Law.there{H:Hp}{st:Addr}{A:LSt}{b:Int}{ms:List Int}{B:Bk}{n:Nat}(h:Law H st A b ms B n){c:Addr}(hc:c∈st::A.all):H c≠none:=by
 intro z
 rcases Aq.mp hc with rfl|hc
 .obtain⟨k,e,_⟩:=h.sta.kvs;rw[z]at e;cases e
 .rcases h.isD hc with⟨k,e⟩|⟨k,e⟩<;>rw[z]at e<;>cases e
theorem mx0(x:Int):0<=mx 0 x:=by unfold mx;split<;>omega
theorem Jd0{H:Hp}:∀{l m:List Dt}{xs ys:List V},Yv H l xs->Yv H m ys->Yv H (l++m) (xs++ys)
 | [],m,xs,ys,h,g=>by
  have h:xs=[]:=h;subst h;exact g
 | d::l,m,xs,ys,h,g=>by
  obtain⟨v,t,rfl,hv,ht⟩:=h;exact⟨v,t++ys,rfl,hv,Jd0 ht g⟩
end Wb
namespace L2
open PySem PySem.Spec PyProof.Rows
noncomputable def Itw(a:Addr)(o:Obj)(kvs:List (Key×V)):It:=
 ⟨fun i H=>H a=some (.frz o (.dK kvs))/\i<kvs.length,fun i H x H'=>H'=H/\∃k,kvs[i]?=some (k,x),fun i H=>H a=some (.frz o (.dK kvs))/\kvs.length<=i⟩
theorem JnS{P:Ab}{w:At}{K:WF}{tg:Expr}(a it:Addr)(o:Obj)(kvs:List (Key×V)):Jor P w K tg (Itw a o kvs) [it] it (fun i h=>h.IsValIter it a i kvs.length (Jr2 o)) where
 mem:=Az
 obj:=fun i h hi b hb=>by
  have e:b=it:=by simpa using hb
  subst e;obtain⟨ob,h1,_,h3⟩:=hi;exact⟨ob,h1,fun v z=>by rw[h3]at z;cases z⟩
 keep:=fun i h h' hi k=>hi.at fun ob e=>k it Az ob e
 item:=fun X hP hw hK hc i pins s σ H E I f hi go=>by
  subst hP hw hK;obtain⟨e,hlt⟩:=go;obtain⟨_,vs,rel,hat⟩:=Jd3 I e;have hlen:=rel.length;obtain⟨f0,f1,f2,f3,f4,f5⟩:=f it Az
  have hv:i<vs.length:=by omega
  have pr:=(JX rel i kvs[i] vs[i] (A1 hlt) (A1 hv)).2;refine wpAny_pyNext_values_item (k:=(vs[i]).1) (v:=(vs[i]).2) (by rw[<- hlen];exact hi) hat (A1 hv) fun h' hit' hs=>⟨(vs[i]).2,rfl,?_⟩;obtain⟨ob,o1,o2,o3⟩:=id hit';exact Jlr o1 o2 o3 (by decide) ⟨(kvs[i]).2,H,I.turned (t':=s.toks) (fun b q hb eq=>hs.extBut b q hb eq) f0 f1 f3 f4 f5,pr,⟨rfl,(kvs[i]).1,A1 hlt⟩,by rw[hlen];exact hit',fun b hb=>by rw[A5.mp hb];exact f0⟩
 done:=fun X hP hw hK hc i pins s σ H E I f hi stop=>by
  subst hP hw hK;obtain⟨e,hle⟩:=stop;obtain⟨_,vs,rel,hat⟩:=Jd3 I e;have hlen:=rel.length;obtain⟨f0,f1,f2,f3,f4,f5⟩:=f it Az;exact wpAny_pyNext_values_end (I.ok.hd hc) (by rw[<- hlen];exact hi) hat (C8 (by omega)) fun h' hx=>⟨rfl,I.turned (t':=s.toks) (fun b q hb eq=>hx b q hb eq) f0 f1 f3 f4 f5⟩
 self:=fun A i s Q E hi q=>wpAny_pyIter_valiter hi q
def Jtw(H₀:Hp)(td:TE):TI:=fun σ H R=>td σ H fun x H1=>∃(p a:Addr) (kvs:List (Key×V)),x=.ref p/\H1 p=some (JcY p a)/\H1 a=some (.dK kvs)/\∀o,Jf2 H₀ a->R (Itw a o kvs) (upd H1 a (.frz o (.dK kvs)))
theorem JqY{X:Cx}{tg l:Expr}{tl:TE}(hl:PE X l tl):PI X tg l (Jtw X.H₀ tl):=by
 intro pins s σ H R I h;refine thn (hl pins s σ H _ I h) fun v s1 hzz=>?_;obtain⟨x,H1,I1,r1,p,a,kvs,e,hp,hd,q⟩:=hzz;subst e;cases r1
 have nf:=I1.notFrz hd fun _ _ z=>nomatch z
 have hv:s1.heap.IsValuesView p a:=(I1.hok p _ hp).1;obtain⟨o,I2⟩:=I1.freeze hd;obtain⟨hs,vs,rel,hat⟩:=Jd3 I2 Ja;have hlen:=rel.length;refine wpAny_pyIter_values hv hat ?_;refine⟨s1.heap.objs.size,[s1.heap.objs.size],_,_,_,rfl,I2.kept (t':=s1.toks) fun b ob e=>A4 _ e,JnS a _ o kvs,⟨_,Aw _ rfl,rfl,by rw[hlen];rfl⟩,fun b hb=>?_,q o nf⟩
 have e:b=s1.heap.objs.size:=by simpa using hb
 subst e;exact I2.fpOk (A6 _) (I2.hok.fresh (A6 _))
theorem JnE{a:Addr}{o:Obj}{kvs:List (Key×V)}{acc:Addr}{g:TG}{tc:TT}{te:TE}{Q:VK}{σ:St}{H:Hp}(Pv:Nat->List V->St->Hp->Prop)(h0:Pv 0 [] σ H)
  (hl:∀i ys σ H,Pv i ys σ H->H a=some (.frz o (.dK kvs)))
  (hs:∀i k v ys σ H,kvs[i]?=some (k,v)->Pv i ys σ H->ys.length<AK/\g v σ H fun σ3 H3=>tc σ3 H3 fun b H4=>
   if b=true then te σ3 H4 fun y H5=>H5 acc=some (.lst ys)/\Pv (i+1) (ys++[y]) σ3 (upd H5 acc (.lst (ys++[y])))else Pv (i+1) ys σ3 H4)
  (hd:∀ys σ H,Pv kvs.length ys σ H->Q (.ref acc) H):JhI (Itw a o kvs) acc g tc te Q σ H:=by
 refine JeN (n:=kvs.length) Pv h0 (fun i ys σ H hi p=>⟨⟨hl i ys σ H p,hi⟩,(hs i kvs[i].1 kvs[i].2 ys σ H (A1 hi) p).1,fun x H2 y=>?_⟩) fun ys σ H p=>⟨⟨hl _ ys σ H p,A6 _⟩,hd ys σ H p⟩;obtain⟨e1,k,e2⟩:=y;subst e1;exact(hs i k x ys σ _ e2 p).2
section
variable {prog:Ab} {w:At} {A:AH} {E:A3→A9→Prop} {s:A9} {T:String} {r:Addr} {P:List A3→Prop} {OK:Heap→Prop}
theorem Src.sortedT{Q:VS}(K:Src prog w T r P OK)(hh:A.handled=none)(ok:OK s.heap)(ns:List Str)(hp:∀vs,P vs->∃ms,HP vs ms/\ms.Perm ns)(h64:ns.length<64)
  (q:∀(h':Heap)(tk:Nat)(d:Kn)(D:Addr)(out:Array A3)(c:Nat)(rs:List Str),(∀b o,s.heap.get? b=some o->h'.get? b=some o)->s.heap.objs.size<=D->h'.get? D=some (JlQ out c)->HP out.toList rs->rs.Perm ns->FC rs=true->
   Q (.ref D) { s with heap:=h',toks:=tk,drawn:=d }):AV (Af prog w) A (call (.builtin "sorted") [.ref r]) Q E s:=by
 refine ER kind_sorted plain_sorted entry_sorted (args_sorted1 _) ?_;unfold Am.«sorted»;refine A0 (m:=checkCount "sorted" 1 1 _) (A8 ?_);refine A0 (K.collect (A:=A.in1) hh ok fun h' tk d vs k ls p=>?_);obtain⟨ms,hi,pm⟩:=hp vs p
 have hlen:∀{vs:List A3}{ms:List Str},HP vs ms->vs.length=ms.length:=fun h=>by rw[<- h.strs,A2]
 have hl:vs.length<64:=by rw[hlen hi,pm.length_eq];exact h64
 refine A0 (wpAny_newList ?_ (by rw[Bu];omega));have gL:(h'.push { cls:=.type "list",data:=.seq vs.toArray }).get? h'.objs.size=some (seqObj "list" vs.toArray 0):=Aw _ rfl;refine A0 (CD (Bz slot_list_sort ⟨_,gL,rfl⟩ entry_list_sort (list_sort_treeK strKind_oneLt gL hi.keysOf (fun v₁ v₂ rest e=>keyKind_strs (by rw[<- e];exact hi)) hl fun st' hp' hs'=>⟨_,rfl,?_⟩) (args_list_sort _)));obtain⟨rs,a1,a2,a3⟩:=sorted_out_str hi hp' hs';obtain⟨e,he⟩:∃e,(sortedHeap (h'.push { cls:=.type "list",data:=.seq vs.toArray }) h'.objs.size vs ((arrOf st').map (·.2))).get? h'.objs.size=some (seqObj "list" ((arrOf st').map (·.2)) e):=sortedHeap_at gL;refine A8 ⟨_,rfl,q _ tk d h'.objs.size _ e rs (fun b o z=>?_) ?_ he a1 (a2.trans pm) a3⟩
 .have lb:b<h'.objs.size:=AZ (k b o z);rw[sortedHeap_old (Ar lb) (by rw[By];exact Bp lb)];exact A4 _ (k b o z)
 .exact Cf ls
end
section
variable {X:Cx}
theorem JgO:∀(us:List A3)(ns:List Str),us.length=ns.length->(∀(j:Nat) u n,us[j]?=some u->ns[j]?=some n->∃t,u=.str n t)->HP us ns
 | [],[],_,_=>.nil
 | [],_::_,h,_=>by cases h
 | _::_,[],h,_=>by cases h
 | u::us,n::r,hl,hv=>by
  obtain⟨t,rfl⟩:=hv 0 u n rfl rfl;exact .cons _ t (JgO us r (by simpa using hl) fun j x y hx hy=>hv (j+1) x y (by simpa using hx) (by simpa using hy))
theorem JhB(hc:X.calm=true):Jbg X (.builtin "sorted") (fun xs H Q=>∃(p:Addr) (kvs:List (Key×V)) (ns:List Str),xs=[.ref p]/\H p=some (.dK kvs)/\kvs.map (·.1)=ns.map Av/\ns.length<64/\
  ∀(l:Addr)(rs:List Str),H l=none->rs.Perm ns->FC rs=true->Q (.ref l) (upd H l (.lst (rs.map V.str)))):=by
 intro pins s σ H xs us Q I r h;obtain⟨p,kvs,ns,rfl,hp,hn,hl,q⟩:=h;obtain⟨u,rfl,ru⟩:=Jcq r;cases ru;obtain⟨z,hd,vs,rel,dd⟩:=JiP I.hok hp;obtain⟨ep,hat⟩:=dd.dictAt;have hlen:=rel.length
 have hnl:ns.length=kvs.length:=by
  have:=congrArg Bn hn;rw[A2,A2]at this;omega
 refine Src.sortedT (Jkn hd (by rw[<- hlen];exact z)) (I.ok.hd hc) hat ns (fun us hz=>⟨ns,?_,GE _⟩) hl fun h' tk d D out c rs k lD gD ia pm so=>?_
 .obtain⟨h1,h2⟩:=hz;refine JgO us ns (by omega) fun j u n hu hn'=>?_;obtain⟨k,x,e1,e2⟩:=h2 j u hu
  have hj:j<kvs.length:=by
   have:=(A7.mp hn').1;omega
  have e3:=(JX rel j kvs[j] (k,x) (A1 hj) e1).1
  have e4:(kvs.map (·.1))[j]?=some (Av n:Key):=by rw[hn,Ax,hn'];rfl
  rw[Ax,A1 hj]at e4;have e4:kvs[j].1=(Av n:Key):=Ai e4;have e3:kvs[j].1=k:=e3;rw[<- e3,e4]at e2;exact JfA e2
 .refine⟨.ref D,_,(I.laid (t':=tk) k lD (show J4 X.prog X.w _ h' D (.lst (rs.map V.str)) from⟨?_,out.toList,c,Jf1 ia,gD⟩)).draw d,rfl,q D rs (I.hok.fresh lD) pm so⟩;rw[A2,pm.length_eq,Bu];omega
end
def Jgt(h:Heap)(a:Addr)(es:Array GR)(ep:Nat):Prop:=∃o,h.get? a=some o/\o.ExactDict/\o.data=.dict es ep
section
variable {prog:Ab} {w:At} {A:AH} {E:A3→A9→Prop} {s:A9} {a:Addr} {es:Array GR} {ep:Nat}
theorem Jgt.ty(x:Jgt s.heap a es ep):s.TypeIs (.ref a) "dict":=by
 obtain⟨o,e,c,_⟩:=x;exact⟨o,e,c.1⟩
theorem Jgt.stay{h h':Heap}(x:Jgt h a es ep)(k:∀o,h.get? a=some o->h'.get? a=some o):Jgt h' a es ep:=by
 obtain⟨o,e,c⟩:=x;exact⟨o,k o e,c⟩
theorem Jox{Q:VS}(hd:(a==sysModules)=false)(x:Jgt s.heap a es ep)
  (q:Q (.ref s.heap.objs.size) { s with heap:=s.heap.push { cls:=.type "dict_keyiterator",data:=.fields #[.ref a,.int 0 0,.int es.size 0,.int ep 0] } }):AV (Af prog w) A (Gp (.ref a)) Q E s:=by
 have hT:=x.ty;obtain⟨o,e,c,dt⟩:=x;refine ES hT FG (Bz FG hT PySem.F.entry_dict_iter ?_ (PySem.F.args_dict_iter_1 _));unfold Am.«dict.__iter__» Am.Dict.dictSlotNone;refine A0 (A0 (wpAny_notOrdered_dict hT (A8 ?_)));show AV _ A.in1 (Am.Dict.showsAll a >>= _) _ _ s;unfold Am.Dict.showsAll;rw[if_neg (by rw[hd];decide)];refine A0 (A8 (A0 (ET e dt (A0 (G6 e dt ?_)))));exact A0 (B7 (A8 ⟨_,rfl, "dict_keyiterator",_,⟨_,Aw _ rfl,rfl⟩,Bg.lookup,q⟩))
theorem Jou{it:Addr}{i:Nat}{Q:Option A3->A9->Prop}(x:s.heap.IsKeyIter it a i es.size ep)(y:Jgt s.heap a es ep)(hi:i<es.size)
  (q:∀h',h'.IsKeyIter it a (i+1) es.size ep->Br it s.heap h'->Q (some es[i].key) { s with heap:=h' }):AV (Af prog w) A (Dy (.ref it)) Q E s:=by
 have hT:=x.typeIs;obtain⟨o,e,c,dt⟩:=id x;obtain⟨od,ed,_,dd⟩:=y;have own:Am.Dict_items.ownsTuple "dict_keyiterator" = false:=rfl
 have nn:¬((A3.ref a==A3.none)=true):=fun z=>nomatch z
 have hit:(s.heap.update it (Mx (·.setIfInBounds 1 (Cb ((i:Int)+1))))).IsKeyIter it a (i+1) es.size ep:=
  ⟨_,C9 _ e (Gc (DL dt _)),by rw[K1];exact c,by rw[DL dt];simp[Cb]⟩
 unfold Dy;refine A0 (CF (Bj (name:=Cc "__next__") hT Bg (Bz Bg hT DA ?_ (Dp _))));refine A0 (A8 (A0 (A0 (A0 (Cj hT (A8 (A0 (wpAny_fieldsOf e dt ?_))))))));simp only[own,DN,if_false];show AV _ A.in1 (if(A3.ref a==A3.none)=true then _ else _) _ _ s;rw[if_neg nn];refine A0 (A8 (A0 (ET ed dd ?_)));rw[if_neg (by simp)];refine A0 (A8 (A0 (G6 ed dd ?_)));rw[if_neg (by simp)];refine A8 ?_;simp only[show¬((i:Int)<0) from by omega,if_false,Ej,BE hi];refine A0 (A0 (Cj hT (A8 (A0 (GW hT ?_)))));show AV _ A.in1 (setField (.ref it) 1 (Cb ((i:Int)+1)) >>= _) _ _ s;refine A0 (Gh e dt (by simp) (A0 (CD ?_)));refine A0 (GW (s:={ s with heap:=s.heap.update it (Mx (·.setIfInBounds 1 (Cb ((i:Int)+1)))) }) hit.typeIs ?_);show AV _ _ (pure es[i].key) _ _ _;exact A8 (A8 ⟨_,rfl,A8 (q _ hit (Br.update ..))⟩)
theorem Jqr{it:Addr}{i:Nat}{Q:Option A3->A9->Prop}(hh:A.handled=none)(x:s.heap.IsKeyIter it a i es.size ep)(y:Jgt s.heap a es ep)(hi:es.size<=i)
  (q:∀h',Km it s.heap h'->Q none { s with heap:=h' }):AV (Af prog w) A (Dy (.ref it)) Q E s:=by
 have hT:=x.typeIs;obtain⟨o,e,c,dt⟩:=id x;obtain⟨od,ed,_,dd⟩:=y;have own:Am.Dict_items.ownsTuple "dict_keyiterator" = false:=rfl
 have nn:¬((A3.ref a==A3.none)=true):=fun z=>nomatch z
 unfold Dy;refine A0 (CF (Bj (name:=Cc "__next__") hT Bg (Bz Bg hT DA ?_ (Dp _))));refine A0 (A8 (A0 (A0 (A0 (Cj hT (A8 (A0 (wpAny_fieldsOf e dt ?_))))))));simp only[own,DN,if_false];show AV _ A.in1 (if(A3.ref a==A3.none)=true then _ else _) _ _ s;rw[if_neg nn];refine A0 (A8 (A0 (ET ed dd ?_)));rw[if_neg (by simp)];refine A0 (A8 (A0 (G6 ed dd ?_)));rw[if_neg (by simp)];refine A8 ?_;simp only[show¬((i:Int)<0) from by omega,if_false,Ej,FU hi];refine A0 (A0 (Cj hT (A8 ?_)));show AV _ A.in1 (setField (.ref it) 0 .none >>= _) _ _ s;refine A0 (Gh e dt (by simp) ?_);show AV _ A.in1 (newExc (.type "StopIteration") [] >>= _) _ _ _;simp only[newExc,newTuple];refine A0 (A0 (B7 (A0 (m:=Dc _ _) (Gm (a:=A3.none) (by first|rfl|(simp only[Dc];rfl)) (B7 ?_ (by size_fits)))) (by size_fits)))
 simp only[raiseNew];refine A0 (Hk ?_);rw[show A.in1.handled=none from hh];refine A0 (A8 (Kf ?_));refine A0 (Dh (T:="StopIteration") (b:=true) ⟨_,Aw _ rfl,rfl⟩ EA (A8 ?_));exact q _ (((Br.update ..).extBut.push _).push _)
theorem JmE(hh:A.handled=none)(I:Addr)(ne:a≠I):G8 prog w A I [I,a] [I] es.size (fun i v=>∃h:i<es.size,v=es[i].key) (fun i h=>h.IsKeyIter I a i es.size ep/\Jgt h a es ep) where
 sub:=fun b hb=>by rw[A5.mp hb];exact Az
 frame:=fun _ _ _ st k=>⟨st.1.at fun o e=>k I Az o e,st.2.stay fun o e=>k a (by simp) o e⟩
 item:=fun i s Q E hi st q=>Jou st.1 st.2 hi fun h' x' hs=>q _ h' s.toks ⟨hi,rfl⟩ ⟨x',st.2.stay fun o e=>hs.extBut a o ne e⟩ fun b o hb e=>hs.extBut b o (fun z=>hb (by simp[z])) e
 done:=fun s Q E st q=>Jqr hh st.1 st.2 (A6 _) fun h' he=>q h' s.toks fun b o hb e=>he b o (fun z=>hb (by simp[z])) e
 self:=fun _ _ _ _ st q=>Gi st.1 q
theorem JqU(hd:(a==sysModules)=false)(hz:es.size<=AK):Src prog w "dict" a (fun us=>us=es.toList.map (·.key)) (fun h=>Jgt h a es ep) where
 ty:=fun s G=>G.ty
 lt:=fun h G=>by obtain⟨o,e,_⟩:=G;exact AZ e
 stay:=fun h h' G k=>G.stay k
 nl:=by decide
 nt:=by decide
 hint:=fun A E s Q G q=>GK G.ty (q false s.toks (A6 _))
 iter:=fun A E s Q hh G q=>by
  have lt:a<s.heap.objs.size:=by obtain⟨o,e,_⟩:=id G;exact AZ e
  refine Jox hd G ?_;refine q _ s.drawn s.heap.objs.size [s.heap.objs.size,a] es.size _ _ (fun b o z=>A4 _ z) (A6 _) (fun b hb=>?_) hz ?_ (JmE hh _ (Ar lt)) ⟨⟨_,Aw _ rfl,rfl,rfl⟩,G.stay fun o e=>A4 _ e⟩
  .rcases Aq.mp hb with e|hb
   .exact .inr (by rw[e];exact A6 _)
   .exact .inl (A5.mp hb)
  .intro us hl hv;refine Do (by simp[hl]) fun j h1 h2=>?_;obtain⟨h3,e⟩:=hv j us[j] (A1 h1);rw[e];simp
end
theorem Jfz{X:Cx}(hc:X.calm=true):Jbg X (.type "list") (fun xs H Q=>∃(a:Addr) (kvs:List (List Key×V)),xs=[.ref a]/\H a=some (.dT kvs)/\
  ∀l (ts:List Addr),H l=none->BV (fun(p:List Key×V)(t:Addr)=>H t=some (.tup (p.1.map kV))) kvs ts->Q (.ref l) (upd H l (.lst (ts.map V.ref)))):=by
 intro pins s σ H xs us Q I r h;obtain⟨a,kvs,rfl,hd,q⟩:=h;obtain⟨u,rfl,ru⟩:=Jcq r;cases ru;obtain⟨z,hs,xs,rel,o,es,ep,g,ex,dt,he,nd⟩:=(show J4 X.prog X.w H s.heap a (.dT kvs) from I.hok a _ hd);have hlen:=rel.length
 have hes:es.size=xs.length:=by rw[<- Bo,he,A2]
 refine Src.list (JqU (es:=es) (ep:=ep) hs (by omega)) (I.ok.hd hc) ⟨o,g,ex,dt⟩ fun h' tk d acc c k gD ia=>?_;refine⟨.ref s.heap.objs.size,_,(I.laid (t':=tk) k (A6 _) (show J4 X.prog X.w _ h' _ (.lst ((xs.map (·.2.1)).map V.ref)) from⟨?_,acc.toList,c,?_,gD⟩)).draw d,rfl,q _ _ (I.hok.fresh (A6 _)) ?_⟩
 .rw[A2,A2];omega
 .rw[ia,he,B2,B2];clear he hes rel hlen ia nd
  induction xs with
  | nil=>exact .nil
  | cons x r ih=>exact .cons rfl ih
 .clear he hes hlen ia z hd nd q
  induction rel with
  | nil=>exact .nil
  | cons h _ ih=>exact .cons h.2.1 ih
def JuC(K:WF)(te:TE)(tk:TO):TE:=fun σ H Q=>te σ H fun x H1=>tk σ H1 fun k H2=>∃(a:Addr)(xs:List V),k=some (-1)/\x=.ref a/\SqL K H2 a xs/\∀l,H2 l=none->Q (.ref l) (upd H2 l (.lst xs.reverse))
theorem JiE:∀{xs:List V}{us:List A3},Y2 xs us->Y2 xs.reverse us.reverse:=by
 intro xs us r;refine Jfy (by rw[Du,Du];exact r.length) fun j a b h1 h2=>?_
 have l1:j<xs.length:=by have:=(A7.mp h1).1;rwa [Du]at this
 have hl:xs.length=us.length:=r.length;rw[Ge l1]at h1;rw[Ge (hl ▸ l1),<- hl]at h2;exact JX r _ a b h1 h2
theorem JsP{X:Cx}{e st:Expr}{te:TE}{tk:TO}{p2 pos:Pos}(he:PE X e te)(hk:PO X (some st) tk):PE X (.Subscript e (.Slice none none (some st) p2) pos) (JuC X.K te tk):=by
 intro pins s σ H Q I h;refine Hl (thn (he pins s σ H _ I h) fun v s1 hzz=>?_);obtain⟨x,H1,I1,r1,q1⟩:=hzz;refine wpAny_Slice ?_;rw[HQ];refine A8 (A8 ?_);refine thn (hk pins s1 σ H1 _ I1 q1) fun vk s2 hzz=>?_;obtain⟨k,H2,I2,pk,a,xs,ek,ex,hx,q⟩:=hzz;subst ek ex;cases r1;have I3:Inv X pins σ H2 { s2 with heap:=s2.heap.push { cls:=.type "slice",data:=.fields #[.none,.none,vk] } }:=I2.kept (t':=s2.toks) fun b ob q=>A4 _ q;obtain⟨its,r,ht,hz⟩:=I3.list hx;have hlen:=r.length;show AV (Af X.prog X.w) X.A (FQ e (.Slice none none (some st) p2) (.ref a) (.ref s2.heap.objs.size)) (EP X pins σ Q) X.xe { s2 with heap:=s2.heap.push { cls:=.type "slice",data:=.fields #[.none,.none,vk] } };refine tail_any (ops:=[.ref a,.ref s2.heap.objs.size]) ht.isList.typeIs Fq.lookup ?_ (by first|(with_unfolding_all rfl)|(cases st<;>rfl)|simp[F0])
 refine Fy ht.isList (HA ..) .none .none pk (by decide) ?_ (by rw[AX]<;>omega)
 rw[PySem.W.krv_pick];refine⟨.ref _,_,I3.laid (t':=s2.toks) (o:=.lst xs.reverse) (fun b ob q=>A4 _ q) (A6 _) ?_,rfl,q _ (I3.hok.fresh (A6 _))⟩;exact⟨by rw[Du];exact hz,_,0,JiE r,Aw _ rfl⟩
end L2
namespace Wb
open PySem PySem.Spec PyProof.Rows L2
inductive DK where
 | h (who:Str) (day:Int)
 | r (week:Int)
 | d (month:Int)
deriving DecidableEq
noncomputable def J7:JU->Option DK
 | .hours who day _=>some (.h who day)
 | .rate week _=>some (.r week)
 | .dues month _=>some (.d month)
 | _=>none
noncomputable def JiS:JU->Prop
 | .hours _ _ many=>0<=many/\many<=24
 | .rate _ bs=>JaX none bs=true
 | .dues _ t=>Jcx t=true
 | _=>True
abbrev Jlm:=DK->Option JU
noncomputable def Jbi:Jlm->List JU->Jlm
 | f,[]=>f
 | f,d::r=>Jbi (fun k=>if J7 d=some k then some d else f k) r
def hV:Option JU->Int
 | some (.hours _ _ m)=>m
 | _=>0
def rV:Option JU->Option (List Bd)
 | some (.rate _ bs)=>some bs
 | _=>none
def dV:Option JU->Option Tab
 | some (.dues _ t)=>some t
 | _=>none
structure Holds(B:Bk)(f:Jlm):Prop where
 hrs:∀who day,B.hrs who day=hV (f (.h who day))
 rates:∀w,Yl B.rates w=rV (f (.r w))
 dues:∀m,Yl B.dues m=dV (f (.d m))
theorem Holds.new:Holds Bk.new fun _=>none:=⟨fun _ _=>rfl,fun _=>rfl,fun _=>rfl⟩
theorem Holds.step{ms:List Int}{B:Bk}{f:Jlm}(h:Holds B f){d:JU}(g:JiS d):Holds (step ms B d).2 (fun k=>if J7 d=some k then some d else f k):=by
 cases d with
 | hours who day many=>
  rw[show Wb.step ms B (.hours who day many)=(.int (wages (JsZ B who day many) who (day/7)),JsZ B who day many) from if_pos g];refine⟨fun y e=>?_,fun w=>?_,fun m=>?_⟩
  .show(if y=who/\e=day then many else B.hrs y e)=hV (if some (DK.h who day)=some (DK.h y e)then some (.hours who day many)else f (.h y e))
   by_cases c:y=who/\e=day
   .rw[if_pos c,if_pos (by rw[c.1,c.2])];rfl
   .rw[if_neg c,if_neg fun z=>c (by injection z with z;injection z with a b;exact⟨a.symm,b.symm⟩)];exact h.hrs y e
  .show Yl B.rates w=rV (if some (DK.h who day)=some (DK.r w)then _ else f (.r w));rw[if_neg fun z=>by injection z with z;cases z];exact h.rates w
  .show Yl B.dues m=dV (if some (DK.h who day)=some (DK.d m)then _ else f (.d m));rw[if_neg fun z=>by injection z with z;cases z];exact h.dues m
 | rate week bs=>
  rw[show Wb.step ms B (.rate week bs)=(.str "told",{ B with rates:=Y7 B.rates week bs }) from if_pos g];refine⟨fun y e=>?_,fun w=>?_,fun m=>?_⟩
  .show B.hrs y e=hV (if some (DK.r week)=some (DK.h y e)then _ else f (.h y e));rw[if_neg fun z=>by injection z with z;cases z];exact h.hrs y e
  .show Yl (Y7 B.rates week bs) w=rV (if some (DK.r week)=some (DK.r w)then some (.rate week bs)else f (.r w));rw[Jem]
   by_cases c:w=week
   .rw[if_pos c,if_pos (by rw[c])];rfl
   .rw[if_neg c,if_neg fun z=>c (by injection z with z;injection z with a;exact a.symm)];exact h.rates w
  .show Yl B.dues m=dV (if some (DK.r week)=some (DK.d m)then _ else f (.d m));rw[if_neg fun z=>by injection z with z;cases z];exact h.dues m
 | dues month t=>
  rw[show Wb.step ms B (.dues month t)=(.str "told",{ B with dues:=Y7 B.dues month t }) from if_pos g];refine⟨fun y e=>?_,fun w=>?_,fun m=>?_⟩
  .show B.hrs y e=hV (if some (DK.d month)=some (DK.h y e)then _ else f (.h y e));rw[if_neg fun z=>by injection z with z;cases z];exact h.hrs y e
  .show Yl B.rates w=rV (if some (DK.d month)=some (DK.r w)then _ else f (.r w));rw[if_neg fun z=>by injection z with z;cases z];exact h.rates w
  .show Yl (Y7 B.dues month t) m=dV (if some (DK.d month)=some (DK.d m)then some (.dues month t)else f (.d m));rw[Jem]
   by_cases c:m=month
   .rw[if_pos c,if_pos (by rw[c])];rfl
   .rw[if_neg c,if_neg fun z=>c (by injection z with z;injection z with a;exact a.symm)];exact h.dues m
 | payday who week=>
  have e:(Wb.step ms B (.payday who week)).2.hrs=B.hrs/\(Wb.step ms B (.payday who week)).2.rates=B.rates/\(Wb.step ms B (.payday who week)).2.dues=B.dues:=by
   by_cases c:Jcl B who week=true
   .rw[show Wb.step ms B (.payday who week)=(.str "too early",B) from if_pos c];exact⟨rfl,rfl,rfl⟩
   .have c:Jcl B who week=false:=by simpa using c
    rw[JhG c];exact⟨rfl,rfl,rfl⟩
  refine⟨fun y d=>?_,fun w=>?_,fun m=>?_⟩
  .rw[e.1];exact h.hrs y d
  .rw[e.2.1];exact h.rates w
  .rw[e.2.2];exact h.dues m
 | _=>exact⟨h.hrs,h.rates,h.dues⟩
theorem Holds.all{ms:List Int}:∀{E:List JU}{B:Bk}{f:Jlm},Holds B f->(∀d∈E,JiS d)->Holds (JiG ms B E) (Jbi f E)
 | [],_,_,h,_=>h
 | d::r,B,f,h,g=>Holds.all (E:=r) (h.step (ms:=ms) (g d (.head _))) fun e he=>g e (.tail _ he)
noncomputable def Jdo:JU->JU
 | .hours who day _=>.hours who day 24
 | .rate w _=>.rate w [(none,1)]
 | .dues m _=>.dues m ([(none,0)],0,1)
 | d=>d
theorem JgE(d:JU):J7 (Jdo d)=J7 d:=by cases d<;>rfl
def Jgv(q:Pn):Bool:=q.last.isSome||q.days.any fun p=>decide (0<p.2)
theorem Jev{w:Int}:∀{ks:List Int}{c k:Int},Yc w (some c) ks=some k->(k=c\/(k∈ks/\k<=w))/\c<=k/\∀j∈ks,j<=w->j<=k
 | [],c,k,h=>by cases h;exact⟨.inl rfl,CZ _,fun _ z=>nomatch z⟩
 | p::r,c,k,h=>by
  have h:Yc w (if p<=w/\c<p then some p else some c) r=some k:=h
  by_cases q:p<=w/\c<p
  .rw[if_pos q]at h;obtain⟨a,b,d⟩:=Jev h;refine⟨?_,by omega,fun j hj hw=>?_⟩
   .rcases a with rfl|a
    .exact .inr ⟨.head _,q.1⟩
    .exact .inr ⟨.tail _ a.1,a.2⟩
   .rcases Aq.mp hj with rfl|hj
    .exact b
    .exact d j hj hw
  .rw[if_neg q]at h;obtain⟨a,b,d⟩:=Jev h;refine⟨a.imp id fun z=>⟨.tail _ z.1,z.2⟩,b,fun j hj hw=>?_⟩
   rcases Aq.mp hj with rfl|hj
   .omega
   .exact d j hj hw
theorem Jge{w:Int}:∀{ks:List Int}{c:Int},∃k,Yc w (some c) ks=some k
 | [],c=>⟨c,rfl⟩
 | p::r,c=>by
  show∃k,Yc w (if p<=w/\c<p then some p else some c) r=some k;split<;>exact Jge
theorem JeF{w:Int}:∀{ks:List Int},Yc w none ks=none->∀j∈ks,¬j<=w
 | [],_,_,h=>nomatch h
 | p::r,e,j,hj=>by
  have e:Yc w (if p<=w then some p else none) r=none:=e
  by_cases q:p<=w
  .rw[if_pos q]at e;obtain⟨k,hk⟩:=Jge (w:=w) (ks:=r) (c:=p);rw[hk]at e;cases e
  .rw[if_neg q]at e
   rcases Aq.mp hj with rfl|hj
   .exact q
   .exact JeF e j hj
theorem JdP{w:Int}:∀{ks:List Int}{k:Int},Yc w none ks=some k->k∈ks/\k<=w/\∀j∈ks,j<=w->j<=k
 | [],_,h=>nomatch h
 | p::r,k,e=>by
  have e:Yc w (if p<=w then some p else none) r=some k:=e
  by_cases q:p<=w
  .rw[if_pos q]at e;obtain⟨a,b,d⟩:=Jev e;refine⟨?_,?_,fun j hj hw=>?_⟩
   .rcases a with rfl|a
    .exact .head _
    .exact .tail _ a.1
   .rcases a with rfl|a
    .exact q
    .exact a.2
   .rcases Aq.mp hj with rfl|hj
    .exact b
    .exact d j hj hw
  .rw[if_neg q]at e;obtain⟨a,b,d⟩:=JdP e;refine⟨.tail _ a,b,fun j hj hw=>?_⟩
   rcases Aq.mp hj with rfl|hj
   .exact absurd hw q
   .exact d j hj hw
theorem Jld{α:Type}{ts us:List (Int×α)}(e:∀k,Yl ts k=Yl us k)(w:Int):Jdm ts w=Jdm us w:=by
 have mem:∀k,k∈ts.map (·.1)↔k∈us.map (·.1):=fun k=>by
  have a:=JcF (k:=k) (ts:=ts);have b:=JcF (k:=k) (ts:=us);rw[e k]at a;exact⟨fun z=>EN fun n=>(a.mp (b.mpr n)) z,fun z=>EN fun n=>(b.mp (a.mpr n)) z⟩
 have bk:Yc w none (ts.map (·.1))=Yc w none (us.map (·.1)):=by
  cases a:Yc w none (ts.map (·.1))with
  | none=>
   cases b:Yc w none (us.map (·.1))with
   | none=>rfl
   | some k=>
    obtain⟨m,l,_⟩:=JdP b;exact absurd l (JeF a k ((mem k).mpr m))
  | some j=>
   obtain⟨m,l,x⟩:=JdP a
   cases b:Yc w none (us.map (·.1))with
   | none=>exact absurd l (JeF b j ((mem j).mp m))
   | some k=>
    obtain⟨m',l',x'⟩:=JdP b;have p:=x k ((mem k).mpr m') l';have q:=x' j ((mem j).mp m) l;rw[show j=k by omega]
 unfold Jdm;rw[bk]
 cases Yc w none (us.map (·.1))with
 | none=>rfl
 | some k=>exact e k
theorem Jrh{B C:Bk}{f:Jlm}(h:Holds B f)(g:Holds C f)(who:Str)(m last:Int):netS B who m last=netS C who m last:=by
 have a:B.hrs=C.hrs:=by
  funext y d;rw[h.hrs,g.hrs]
 have b:∀w,Jdm B.rates w=Jdm C.rates w:=Jld fun k=>by rw[h.rates,g.rates]
 have c:∀w,Jdm B.dues w=Jdm C.dues w:=Jld fun k=>by rw[h.dues,g.dues]
 have d:∀w,wages B who w=wages C who w:=fun w=>by
  unfold wages;rw[a,b]
 unfold netS monthP;rw[c];simp only[d]
theorem Joh{B C:Bk}{f:Jlm}(h:Holds B f)(g:Holds C f)(ms:List Int)(who:Str)(last:Int):rightS ms B who last=rightS ms C who last:=by
 unfold rightS;rw[Bm fun m _=>Jrh h g who m last]
theorem Jjl:∀(a b:List JU)(f:Jlm),Jbi f (a++b)=Jbi (Jbi f a) b
 | [],_,_=>rfl
 | d::r,b,f=>Jjl r b _
theorem Ja6{k:DK}:∀{E:List JU}{f:Jlm},(∀d∈E,J7 d≠some k)->Jbi f E k=f k
 | [],_,_=>rfl
 | d::r,f,h=>by
  show Jbi (fun j=>if J7 d=some j then some d else f j) r k=f k;rw[Ja6 fun e he=>h e (.tail _ he),if_neg (h d (.head _))]
theorem Jb3{k:DK}{d:JU}:∀{E:List JU}{f:Jlm},(E.map J7).Nodup->d∈E->J7 d=some k->Jbi f E k=some d
 | [],_,_,h,_=>nomatch h
 | e::r,f,nd,hd,hk=>by
  obtain⟨n1,n2⟩:=AL.mp nd;show Jbi (fun j=>if J7 e=some j then some e else f j) r k=some d
  rcases Aq.mp hd with rfl|hd
  .rw[Ja6 fun x hx z=>n1 (by rw[hk,<- z];exact B4 hx),if_pos hk]
  .exact Jb3 n2 hd hk
noncomputable def JdE(L:List JU)(d:JU):List JU:=if(L.any fun e=>decide (J7 e=J7 d))=true then L.map (fun e=>if J7 e=J7 d then d else e)else L++[d]
theorem JnC(L:List JU)(d:JU):(JdE L d).map J7=if J7 d∈L.map J7 then L.map J7 else L.map J7++[J7 d]:=by
 unfold JdE
 by_cases c:J7 d∈L.map J7
 .have a:(L.any fun e=>decide (J7 e=J7 d))=true:=by
   obtain⟨e,he,q⟩:=Ag.mp c;exact B9.mpr ⟨e,he,decide_eq_true q⟩
  rw[if_pos a,if_pos c,B2];refine Bm fun e _=>?_;show J7 (if J7 e=J7 d then d else e)=J7 e;split
  .rename_i q;exact q.symm
  .rfl
 .have a:¬(L.any fun e=>decide (J7 e=J7 d))=true:=fun z=>by
   obtain⟨e,he,q⟩:=B9.mp z;exact c (of_decide_eq_true q ▸ B4 he)
  rw[if_neg a,if_neg c,AJ];rfl
theorem Jki{L:List JU}(nd:(L.map J7).Nodup)(d:JU):((JdE L d).map J7).Nodup:=by
 rw[JnC];split
 .exact nd
 .rename_i c;exact CK.mpr ⟨nd,by simp,fun a ha b hb q=>c (by rw[<- A5.mp hb,<- q];exact ha)⟩
theorem Jhd{L:List JU}{d e:JU}(h:e∈JdE L d):e=d\/(e∈L/\J7 e≠J7 d):=by
 unfold JdE at h;split at h
 .obtain⟨x,hx,rfl⟩:=Ag.mp h
  by_cases c:J7 x=J7 d
  .rw[if_pos c];exact .inl rfl
  .rw[if_neg c];exact .inr ⟨hx,c⟩
 .rename_i a
  rcases Ae.mp h with h|h
  .exact .inr ⟨h,fun q=>a (B9.mpr ⟨e,h,decide_eq_true q⟩)⟩
  .exact .inl (A5.mp h)
theorem JqZ(L:List JU)(d:JU):d∈JdE L d:=by
 unfold JdE;split
 .rename_i a;obtain⟨e,he,q⟩:=B9.mp a;exact Ag.mpr ⟨e,he,if_pos (of_decide_eq_true q)⟩
 .exact Ah _ (.head _)
theorem JoH{L:List JU}{d e:JU}(h:e∈L)(n:J7 e≠J7 d):e∈JdE L d:=by
 unfold JdE;split
 .exact Ag.mpr ⟨e,h,if_neg n⟩
 .exact Ba _ h
theorem Jmb{L:List JU}(nd:(L.map J7).Nodup)(d:JU)(hd:J7 d≠none)(f:Jlm):Jbi f (JdE L d)=fun k=>if J7 d=some k then some d else Jbi f L k:=by
 funext k
 by_cases c:J7 d=some k
 .rw[if_pos c];exact Jb3 (Jki nd d) (JqZ L d) c
 .rw[if_neg c]
  by_cases e:∃x∈L,J7 x=some k
  .obtain⟨x,hx,q⟩:=e;rw[Jb3 nd hx q];exact Jb3 (Jki nd d) (JoH hx fun z=>c (by rw[<- z];exact q)) q
  .have no:∀x∈L,J7 x≠some k:=fun x hx q=>e ⟨x,hx,q⟩;rw[Ja6 no,Ja6 fun x hx q=>?_]
   rcases Jhd hx with rfl|⟨hx,_⟩
   .exact c q
   .exact no x hx q
theorem JgA{f:Jlm}:∀{D L:List JU},(L.map J7).Nodup->(∀d∈D,J7 d≠none)->((D.foldl JdE L).map J7).Nodup/\Jbi f (D.foldl JdE L)=Jbi (Jbi f L) D
 | [],_,nd,_=>⟨nd,rfl⟩
 | d::r,L,nd,h=>by
  obtain⟨a,b⟩:=JgA (f:=f) (D:=r) (Jki nd d) fun e he=>h e (.tail _ he);refine⟨a,b.trans ?_⟩;rw[Jmb nd d (h d (.head _))];rfl
theorem Jj7{L rows ahead:List JU}(nd:(L.map J7).Nodup)(pm:rows.Perm L)(ha:∀e∈ahead,J7 e=none\/∃d∈rows,J7 e=J7 d):Jbi (fun _=>none) (ahead++rows)=Jbi (fun _=>none) L:=by
 have nr:(rows.map J7).Nodup:=(pm.map J7).nodup_iff.mpr nd;funext k;rw[Jjl]
 by_cases e:∃x∈L,J7 x=some k
 .obtain⟨x,hx,q⟩:=e;rw[Jb3 nd hx q,Jb3 nr (pm.mem_iff.mpr hx) q]
 .have no:∀x∈L,J7 x≠some k:=fun x hx q=>e ⟨x,hx,q⟩;rw[Ja6 no,Ja6 fun x hx=>no x (pm.mem_iff.mp hx),Ja6 fun x hx q=>?_]
  rcases ha x hx with z|⟨d,hd,z⟩
  .rw[z]at q;cases q
  .exact no d (pm.mem_iff.mp hd) (z ▸ q)
mutual
noncomputable def dep:Dt->Nat
 | .tup l=>JpW l+1
 | _=>0
noncomputable def JpW:List Dt->Nat
 | []=>0
 | d::r=>max (dep d) (JpW r)
end
theorem Jhi:∀{l:List Dt}{d:Dt},d∈l->dep d<=JpW l
 | _::_,_,.head _=>Nat.le_max_left _ _
 | _::_,_,.tail _ h=>B0 (Jhi h) (Nat.le_max_right _ _)
theorem Jed:∀{l:List Dt}{d:Dt},Jl4 l=true->d∈l->noL d=true
 | x::r,_,n,.head _=>by
  have n:(noL x&&Jl4 r)=true:=n;exact(CC.mp n).1
 | x::r,_,n,.tail _ h=>by
  have n:(noL x&&Jl4 r)=true:=n;exact Jed (CC.mp n).2 h
theorem JhV{H:Hp}{d:Dt}{x:V}(r:Rep H d x)(n:noL d=true)(t:∀l,d≠.tup l):Je6 x=true:=by
 cases d with
 | non=>rw[show x=.non from r];rfl
 | bl b=>rw[show x=.bl b from r];rfl
 | int i=>rw[show x=.int i from r];rfl
 | str z=>rw[show x=.str z from r];rfl
 | tup l=>exact absurd rfl (t l)
 | lst l=>exact absurd n AW
theorem JsR{P:Ab}{w:At}{H:Hp}{s:A9}(ok:HOk P w H s.heap):∀(n:Nat){A:AH}{d e:Dt}{x y:V}{u v:A3},dep d<=n->A.units+n<DR->noL d=true->noL e=true->Rep H d x->Rep H e y->Jaa x u->Jaa y v->∃b,AE A s u v b:=by
 intro n
 induction n with
 | zero=>
  intro A d e x y u v hd hu nd ne rd re ru rv
  have fd:Je6 x=true:=JhV rd nd fun l z=>by subst z;exact absurd (show JpW l+1<=0 from hd) (by omega)
  by_cases te:∃l,e=.tup l
  .obtain⟨l,rfl⟩:=te;obtain⟨b,vs,rfl,hb,_⟩:=re;cases rv;obtain⟨_,its,_,it⟩:=(show J4 P w H s.heap b (.tup vs) from ok b _ hb)
   cases x with
   | non=>cases ru;exact⟨_,AE.none_tuple it (by omega)⟩
   | bl c=>cases ru;exact⟨_,AE.bool_tuple c it (by omega)⟩
   | int i=>obtain⟨t,rfl⟩:=ru;exact⟨_,AE.int_tuple i t it (by omega)⟩
   | str z=>obtain⟨t,rfl⟩:=ru;exact⟨_,AE.str_tuple z t it (by omega)⟩
   | _=>exact absurd fd AW
  .exact⟨_,Jp1 ru rv fd (JhV re ne fun l z=>te ⟨l,z⟩)⟩
 | succ n ih=>
  intro A d e x y u v hd hu nd ne rd re ru rv
  by_cases td:∃l,d=.tup l
  .obtain⟨l,rfl⟩:=td;obtain⟨a,us,rfl,ha,ral⟩:=rd;cases ru;obtain⟨_,its,rvs,it⟩:=(show J4 P w H s.heap a (.tup us) from ok a _ ha)
   by_cases te:∃m,e=.tup m
   .obtain⟨m,rfl⟩:=te;obtain⟨b,ws,rfl,hb,rbl⟩:=re;cases rv;obtain⟨_,its2,rvs2,it2⟩:=(show J4 P w H s.heap b (.tup ws) from ok b _ hb)
    by_cases hab:a=b
    .subst hab;exact⟨true,AE.same _⟩
    .have key:∀j (h1:j<its.toArray.size) (h2:j<its2.toArray.size),∃c,AE A.in1 s its.toArray[j] its2.toArray[j] c:=by
      intro j h1 h2;have l1:its.length=us.length:=rvs.length.symm;have l2:its2.length=ws.length:=rvs2.length.symm;have m1:us.length=l.length:=ral.length;have m2:ws.length=m.length:=rbl.length
      have j1:j<its.length:=by simpa using h1
      have j2:j<its2.length:=by simpa using h2
      have e1:us[j]?=some us[j]:=A1 (by omega);have e2:ws[j]?=some ws[j]:=A1 (by omega);have d1:l[j]?=some l[j]:=A1 (by omega);have d2:m[j]?=some m[j]:=A1 (by omega);refine ih (A:=A.in1) (d:=l[j]) (e:=m[j]) ?_ (by rw[AH.in1_units];omega) (Jed nd (B8 _)) (Jed ne (B8 _)) (ral.get j _ _ e1 d1) (rbl.get j _ _ e2 d2) ?_ ?_
      .have:=Jhi (l:=l) (B8 (show j<l.length by omega));have hd:JpW l+1<=n+1:=hd;omega
      .exact JX rvs j _ _ e1 (by simp[j1])
      .exact JX rvs2 j _ _ e2 (by simp[j2])
     refine⟨_,AE.of_refs hab (SeqAt.RcAt.tuples (e:=fun j=>if h:∃(h1:j<its.toArray.size)(h2:j<its2.toArray.size),True then EZ (key j h.1 h.2.1)else true) it it2 (by omega) fun j h1 h2=>?_)⟩;have hx:∃(h1:j<its.toArray.size)(h2:j<its2.toArray.size),True:=⟨h1,h2,trivial⟩;show AE A.in1 s _ _ (if h:∃(h1:j<its.toArray.size)(h2:j<its2.toArray.size),True then EZ (key j h.1 h.2.1)else true);rw[dif_pos hx];exact Gf (key j h1 h2)
   .have fe:Je6 y=true:=JhV re ne fun l z=>te ⟨l,z⟩
    cases y with
    | non=>cases rv;exact⟨_,AE.tuple_none it (by omega)⟩
    | bl c=>cases rv;exact⟨_,AE.tuple_bool c it (by omega)⟩
    | int i=>obtain⟨t,rfl⟩:=rv;exact⟨_,AE.tuple_int i t it (by omega)⟩
    | str z=>obtain⟨t,rfl⟩:=rv;exact⟨_,AE.tuple_str z t it (by omega)⟩
    | _=>exact absurd fe AW
  .have hd0:dep d<=n:=by
    cases d with
    | tup l=>exact absurd ⟨l,rfl⟩ td
    | _=>exact AA _
   exact ih hd0 (by omega) nd ne rd re ru rv
def Juf(K:WF):R2:=fun x y H Q=>∃(a b:Addr)(us vs:List V)(ds es:List Dt),x=.ref a/\y=.ref b/\SqL K H a us/\SqL K H b vs/\Yv H ds us/\Yv H es vs/\Jl4 ds=true/\Jl4 es=true/\JpW ds<=4/\∀c:Bool,(c=true->us.length=vs.length)->Q (.bl c) H
theorem JrL{X:Cx}(hu:X.A.units+6<DR):OpR X (Bs .Eq) (Juf X.K):=by
 intro pins s σ H x y v u Q I rx ry h;obtain⟨a,b,us,vs,ds,es,rfl,rfl,ha,hb,rd,re,nd,ne,dd,q⟩:=h;cases rx;cases ry;obtain⟨its,rv,pl,_⟩:=I.list ha;obtain⟨its2,rv2,pl2,_⟩:=I.list hb;have l1:=rv.length;have l2:=rv2.length
 have hu':X.A.units<DR:=by omega
 by_cases c:us.length=vs.length
 .have key:∀j (h1:j<its.toArray.size) (h2:j<its2.toArray.size),∃c,AE X.A.in1 s its.toArray[j] its2.toArray[j] c:=by
   intro j h1 h2;have m1:us.length=ds.length:=rd.length;have m2:vs.length=es.length:=re.length
   have j1:j<its.length:=by simpa using h1
   have j2:j<its2.length:=by simpa using h2
   have e1:us[j]?=some us[j]:=A1 (by omega);have e2:vs[j]?=some vs[j]:=A1 (by omega);have d1:ds[j]?=some ds[j]:=A1 (by omega);have d2:es[j]?=some es[j]:=A1 (by omega);refine JsR I.hok 4 (A:=X.A.in1) (d:=ds[j]) (e:=es[j]) (B0 (Jhi (B8 _)) dd) (by rw[AH.in1_units];omega) (Jed nd (B8 _)) (Jed ne (B8 _)) (rd.get j _ _ e1 d1) (re.get j _ _ e2 d2) ?_ ?_
   .exact JX rv j _ _ e1 (by simp[j1])
   .exact JX rv2 j _ _ e2 (by simp[j2])
  refine EW.lists (e:=fun j=>if h:∃(h1:j<its.toArray.size)(h2:j<its2.toArray.size),True then EZ (key j h.1 h.2.1)else true) pl.isList pl2.isList (by rw[AX,AX];omega) hu' (fun j h1 h2=>?_) X.prog X.w _ _ ⟨.bl _,H,I,rfl,q _ fun _=>c⟩;have hx:∃(h1:j<its.toArray.size)(h2:j<its2.toArray.size),True:=⟨h1,h2,trivial⟩;show AE X.A.in1 s _ _ (if h:∃(h1:j<its.toArray.size)(h2:j<its2.toArray.size),True then EZ (key j h.1 h.2.1)else true);rw[dif_pos hx];exact Gf (key j h1 h2)
 .exact EQ pl.isList pl2.isList (by rw[AX,AX,<- l1,<- l2];simpa using c) hu' X.prog X.w _ _ ⟨.bl false,H,I,rfl,q _ fun z=>nomatch z⟩
noncomputable def tg:JU->Bool
 | .hours _ _ m=>decide (0<=m/\m<=24)
 | .rate _ bs=>JaX none bs
 | .dues _ t=>Jcx t
 | _=>false
theorem JfD{d:JU}(h:tg d=true):JiS d/\J7 d≠none:=by
 cases d with
 | hours who day m=>exact⟨show 0<=m/\m<=24 from of_decide_eq_true h,fun z=>nomatch z⟩
 | rate w bs=>exact⟨h,fun z=>nomatch z⟩
 | dues m t=>exact⟨h,fun z=>nomatch z⟩
 | _=>exact absurd h AW
theorem Jp9{B:Bk}{d:JU}(k:J7 d≠none):Jfo B d = ""↔tg d=true:=by
 cases d with
 | hours who day m=>
  show(if 0<=m/\m<=24 then("" : Str)else "no hours") = ""↔decide (0<=m/\m<=24)=true
  by_cases c:0<=m/\m<=24
  .rw[if_pos c,decide_eq_true c];exact⟨fun _=>rfl,fun _=>rfl⟩
  .rw[if_neg c,decide_eq_false c];exact⟨fun z=>absurd z (by decide +kernel),fun z=>absurd z AW⟩
 | rate w bs=>
  show(if JaX none bs=true then("" : Str)else "no table") = ""↔JaX none bs=true
  by_cases c:JaX none bs=true
  .rw[if_pos c];exact⟨fun _=>c,fun _=>rfl⟩
  .rw[if_neg c];exact⟨fun z=>absurd z (by decide +kernel),fun z=>absurd z c⟩
 | dues m t=>
  show(if Jcx t=true then("" : Str)else "no table") = ""↔Jcx t=true
  by_cases c:Jcx t=true
  .rw[if_pos c];exact⟨fun _=>c,fun _=>rfl⟩
  .rw[if_neg c];exact⟨fun z=>absurd z (by decide +kernel),fun z=>absurd z c⟩
 | _=>exact absurd rfl k
noncomputable def Jg8:JU->List Key
 | .hours who day _=>[Av "hours",Av who,Aj day]
 | .rate w _=>[Av "rate",Aj w]
 | .dues m _=>[Av "dues",Aj m]
 | _=>[]
theorem Jff{d e:JU}(hd:J7 d≠none)(he:J7 e≠none):Jg8 d=Jg8 e↔J7 d=J7 e:=by
 have n1:("rate" : Str)≠"dues":=by decide +kernel
 have n2:("dues" : Str)≠"rate":=by decide +kernel
 cases d<;>cases e<;>first|exact absurd rfl hd|exact absurd rfl he|skip
 .constructor
  .intro z
   injection z with _ z
   injection z with z1 z
   injection z with z2 _
   show some (DK.h _ _)=some (DK.h _ _);rw[Av.inj z1,Aj.inj z2]
  .intro z
   injection z with z
   injection z with z1 z2
   show[_,_,_]=[_,_,_];rw[z1,z2]
 .constructor
  .intro z
   injection z with _ z
   injection z with z1 z
   cases z
  .intro z
   injection z with z
   cases z
 .constructor
  .intro z
   injection z with _ z
   injection z with z1 z
   cases z
  .intro z
   injection z with z
   cases z
 .constructor
  .intro z
   injection z with _ z
   injection z with z1 z
   cases z
  .intro z
   injection z with z
   cases z
 .constructor
  .intro z
   injection z with _ z
   injection z with z1 z
   show some (DK.r _)=some (DK.r _);rw[Aj.inj z1]
  .intro z
   injection z with z
   injection z with z1
   show[_,_]=[_,_];rw[z1]
 .constructor
  .intro z
   injection z with z1 z
   exact absurd (Av.inj z1) n1
  .intro z
   injection z with z
   cases z
 .constructor
  .intro z
   injection z with _ z
   injection z with z1 z
   cases z
  .intro z
   injection z with z
   cases z
 .constructor
  .intro z
   injection z with z1 z
   exact absurd (Av.inj z1) n2
  .intro z
   injection z with z
   cases z
 .constructor
  .intro z
   injection z with _ z
   injection z with z1 z
   show some (DK.d _)=some (DK.d _);rw[Aj.inj z1]
  .intro z
   injection z with z
   injection z with z1
   show[_,_]=[_,_];rw[z1]
def Jbj(H:Hp)(p:List Key×V)(d:JU):Prop:=p.1=Jg8 d/\Rep H (YR d) p.2
theorem Jg2{H:Hp}{d:JU}(hd:J7 d≠none):∀{kvs:List (List Key×V)} {L:List JU},BV (Jbj H) kvs L->(∀e∈L,J7 e≠none)->(kvs.any fun kv=>decide (kv.1=Jg8 d))=L.any fun e=>decide (J7 e=J7 d)
 | _,_,.nil,_=>rfl
 | _,_,.cons (a:=p) (b:=e) r t,h=>by
  rw[BM,BM,Jg2 hd t fun x hx=>h x (.tail _ hx)]
  have:decide (p.1=Jg8 d)=decide (J7 e=J7 d):=by
   rw[r.1];exact decide_eq_decide.mpr (Jff (h e (.head _)) hd)
  rw[this]
theorem Jf3{α β:Type}{F:α->β->Prop}{a:α}{b:β}:∀{l:List α}{m:List β},BV F l m->F a b->BV F (l++[a]) (m++[b])
 | _,_,.nil,h=>.cons h .nil
 | _,_,.cons r t,h=>.cons r (Jf3 t h)
theorem JfP{H:Hp}{d:JU}{v:V}(hd:J7 d≠none)(hv:Rep H (YR d) v):∀{kvs:List (List Key×V)} {L:List JU},BV (Jbj H) kvs L->(∀e∈L,J7 e≠none)->
  BV (Jbj H) (kvs.map fun kv=>if kv.1=Jg8 d then(kv.1,v)else kv) (L.map fun e=>if J7 e=J7 d then d else e)
 | _,_,.nil,_=>.nil
 | _,_,.cons (a:=p) (b:=e) r t,h=>by
  refine .cons ?_ (JfP hd hv t fun x hx=>h x (.tail _ hx))
  by_cases c:J7 e=J7 d
  .have c':p.1=Jg8 d:=r.1.trans ((Jff (h e (.head _)) hd).mpr c);show Jbj H (if p.1=Jg8 d then(p.1,v)else p) (if J7 e=J7 d then d else e);rw[if_pos c,if_pos c'];exact⟨c',hv⟩
  .have c':¬p.1=Jg8 d:=fun z=>c ((Jff (h e (.head _)) hd).mp (r.1.symm.trans z));show Jbj H (if p.1=Jg8 d then(p.1,v)else p) (if J7 e=J7 d then d else e);rw[if_neg c,if_neg c'];exact r
theorem JpD{H:Hp}{kvs:List (List Key×V)}{L:List JU}(h:BV (Jbj H) kvs L)(hL:∀e∈L,J7 e≠none){d:JU}{v:V}(hd:J7 d≠none)(hv:Rep H (YR d) v):BV (Jbj H) (Jag kvs (Jg8 d) v) (JdE L d):=by
 unfold Jag JdE;have e:=Jg2 hd h hL
 by_cases c:(L.any fun e=>decide (J7 e=J7 d))=true
 .rw[if_pos c,if_pos (e.trans c)];exact JfP hd hv h hL
 .rw[if_neg c,if_neg fun z=>c (e.symm.trans z)];exact Jf3 h ⟨rfl,hv⟩
theorem JlJ{L:List JU}(h:∀e∈L,J7 e≠none){d:JU}(hd:J7 d≠none):∀e∈JdE L d,J7 e≠none:=fun e he=>by
 rcases Jhd he with rfl|⟨z,_⟩
 .exact hd
 .exact h e z
def Jgw(who:Str):JU->Bool
 | .payday y _=>decide (y=who)
 | _=>false
def Js8(W:Int)(d:JU):Prop:=J7 d≠none\/∃who,d=.payday who W
theorem Jgb{ms:List Int}{B:Bk}{d:JU}(k:J7 d≠none):(step ms B d).2.last=B.last/\(step ms B d).2.paid=B.paid:=by
 cases d with
 | hours who day many=>
  by_cases c:0<=many/\many<=24
  .rw[show step ms B (.hours who day many)=(.int (wages (JsZ B who day many) who (day/7)),JsZ B who day many) from if_pos c];exact⟨rfl,rfl⟩
  .rw[show step ms B (.hours who day many)=(.str "no hours",B) from if_neg c];exact⟨rfl,rfl⟩
 | rate week bs=>
  by_cases c:JaX none bs=true
  .rw[show step ms B (.rate week bs)=(.str "told",{ B with rates:=Y7 B.rates week bs }) from if_pos c];exact⟨rfl,rfl⟩
  .rw[show step ms B (.rate week bs)=(.str "no table",B) from if_neg c];exact⟨rfl,rfl⟩
 | dues month t=>
  by_cases c:Jcx t=true
  .rw[show step ms B (.dues month t)=(.str "told",{ B with dues:=Y7 B.dues month t }) from if_pos c];exact⟨rfl,rfl⟩
  .rw[show step ms B (.dues month t)=(.str "no table",B) from if_neg c];exact⟨rfl,rfl⟩
 | _=>exact absurd rfl k
theorem Jhq{ms:List Int}{W:Int}{who:Str}:∀{E:List JU}{B:Bk},(∀d∈E,Js8 W d)->(∀y,B.last y=none\/B.last y=some W)->(∀y,(JiG ms B E).last y=none\/(JiG ms B E).last y=some W)/\(JiG ms B E).last who=if E.any (Jgw who)=true then some W else B.last who
 | [],B,_,h=>⟨h,rfl⟩
 | d::r,B,hE,h=>by
  have hd:=hE d (.head _)
  have step1:(∀y,(step ms B d).2.last y=none\/(step ms B d).2.last y=some W)/\(step ms B d).2.last who=if Jgw who d=true then some W else B.last who:=by
   rcases hd with k|⟨y,rfl⟩
   .rw[(Jgb k).1];refine⟨h,?_⟩
    have:Jgw who d=false:=by cases d<;>first|rfl|exact absurd rfl k
    rw[this];rfl
   .have e:Jcl B y W=false:=by
     unfold Jcl
     rcases h y with z|z<;>rw[z]
     exact decide_eq_false (MQ W)
    rw[JhG e];constructor
    .intro z;show(if z=y then some W else B.last z)=none\/(if z=y then some W else B.last z)=some W;split
     .exact .inr rfl
     .exact h z
    .show(if who=y then some W else B.last who)=if decide (y=who)=true then some W else B.last who
     by_cases c:who=y
     .rw[if_pos c,if_pos (decide_eq_true c.symm)]
     .rw[if_neg c,if_neg fun z=>c (of_decide_eq_true z).symm]
  obtain⟨a,b⟩:=Jhq (ms:=ms) (who:=who) (E:=r) (fun x hx=>hE x (.tail _ hx)) step1.1;refine⟨a,b.trans ?_⟩;rw[step1.2,BM]
  cases Jgw who d with
  | true=>
   rw[Bool.true_or,if_pos rfl];split<;>rfl
  | false=>rw[HK,if_neg AW]
theorem Jhp{ms:List Int}{W:Int}{who:Str}:∀{E:List JU}{B:Bk},(∀d∈E,Js8 W d)->(∀y,B.last y=none\/B.last y=some W)->0<=B.paid who->0<=(JiG ms B E).paid who/\((∀d∈E,J7 d≠none)->(JiG ms B E).paid who=B.paid who)
 | [],B,_,_,h=>⟨h,fun _=>rfl⟩
 | d::r,B,hE,hl,h=>by
  have hd:=hE d (.head _);have hl1:=(Jhq (ms:=ms) (who:=who) (E:=[d]) (B:=B) (fun x hx=>by rw[A5.mp hx];exact hd) hl).1
  rcases hd with k|⟨y,rfl⟩
  .obtain⟨a,b⟩:=Jhp (ms:=ms) (who:=who) (E:=r) (B:=(step ms B d).2) (fun x hx=>hE x (.tail _ hx)) hl1 (by rw[(Jgb k).2];exact h);exact⟨a,fun z=>(b fun x hx=>z x (.tail _ hx)).trans (by rw[(Jgb k).2])⟩
  .have e:Jcl B y W=false:=by
    unfold Jcl
    rcases hl y with z|z<;>rw[z]
    exact decide_eq_false (MQ W)
   have p:0<=(step ms B (.payday y W)).2.paid who:=by
    rw[JhG e]
    show 0<=if who=y then _ else B.paid who
    split
    .rename_i c;subst c;have:=mx0 (rightS ms B who W-B.paid who);omega
    .exact h
   obtain⟨a,b⟩:=Jhp (ms:=ms) (who:=who) (E:=r) (B:=(step ms B (.payday y W)).2) (fun x hx=>hE x (.tail _ hx)) hl1 p;exact⟨a,fun z=>absurd rfl (z _ (.head _))⟩
theorem Jrj{ms:List Int}{cov:Str->Prop}{M:PB}{B:Bk}{n:Nat}(h:Lk ms cov M B)(ok:JbS n M)(who:Str):Jgv (M.pn who)=true↔B.last who≠none\/∃day,0<B.hrs who day:=by
 unfold Jgv;rw[El,<- h.last who];refine or_congr ?_ ?_
 .cases B.last who with
  | none=>exact⟨(fun z=>nomatch z),fun z=>absurd rfl z⟩
  | some x=>exact⟨(fun _ z=>nomatch z),fun _=>rfl⟩
 .rw[B9];constructor
  .rintro⟨⟨day,many⟩,hp,c⟩;refine⟨day,?_⟩;rw[h.hrs,JfG (ok.nd who) hp];exact of_decide_eq_true c
  .rintro⟨day,c⟩;rw[h.hrs]at c
   cases g:Yl (M.pn who).days day with
   | none=>rw[g]at c;exact absurd c (by decide)
   | some m=>
    rw[g]at c;exact⟨(day,m),Jcj g,decide_eq_true c⟩
def ltS(a b:Str):Prop:=a.cps.toList<b.cps.toList
theorem Jew(a:Str):¬ltS a a:=List.lt_irrefl _
theorem Jjr{a b c:Str}(h:ltS a b)(g:ltS b c):ltS a c:=List.lt_trans h g
theorem Jqx{a b:Str}(h:a.cps.toList=b.cps.toList):a=b:=by
 cases a;cases b;congr 1;exact Array.toList_inj.mp h
theorem Jru{a b:Str}(h:ltCps b.cps.toList a.cps.toList=false)(n:a≠b):ltS a b:=by
 rw[ltCps_eq]at h;have h:=of_decide_eq_false h
 rcases Std.le_iff_lt_or_eq.mp (List.not_lt.mp h)with z|z
 .exact z
 .exact absurd (Jqx z) n
theorem Jia:∀{l:List Str}{p:Str},risingS p l=true->(p::l).Nodup->(p::l).Pairwise ltS
 | [],_,_,_=>DU _ _
 | x::r,p,h,nd=>by
  have h:(!ltCps x.cps.toList p.cps.toList&&risingS x r)=true:=h;obtain⟨h1,h2⟩:=CC.mp h;obtain⟨n1,n2⟩:=AL.mp nd;have up:=Jia h2 n2;have px:ltS p x:=Jru (by simpa using h1) fun z=>n1 (by rw[z];exact .head _);refine BA.mpr ⟨fun y hy=>?_,up⟩
  rcases Aq.mp hy with rfl|hy
  .exact px
  .exact Jjr px ((BA.mp up).1 y hy)
theorem JiU{l:List Str}(h:FC l=true)(nd:l.Nodup):l.Pairwise ltS:=by
 cases l with
 | nil=>exact .nil
 | cons p r=>exact Jia h nd
theorem Jtv{l m:List Str}(a:l.Pairwise ltS)(b:m.Pairwise ltS)(h:∀x,x∈l↔x∈m):l=m:=by
 have nl:l.Nodup:=Ch.imp (fun{x y}(z:ltS x y)(e:x=y)=>Jew y (e ▸ z)) a;have nm:m.Nodup:=Ch.imp (fun{x y}(z:ltS x y)(e:x=y)=>Jew y (e ▸ z)) b;have p:l.Perm m:=(Dd nl nm).mpr h;exact p.eq_of_pairwise (le:=ltS) (fun x y _ _ h1 h2=>absurd (Jjr h1 h2) (Jew x)) a b
theorem JiT(cs:List Int):(JJ cs).Nodup:=by
 unfold JJ;split
 .decide +kernel
 .split
  .decide +kernel
  .generalize Jbv cs/21%40=a;have x1:("x" : Str)=⟨#[120]⟩:=rfl
   have m:∀n:Int,(BN "x" n).cps.toList=KU n.toNat 120:=fun n=>by
    rw[x1];exact mul_one_list 120 n
   have y:121∈(BN "x" a++"y"++BN "x" (39-a)).cps.toList:=by
    show 121∈((BN "x" a).cps++("y" : Str).cps++(BN "x" (39-a)).cps).toList;rw[Hz,Hz];exact Ba _ (Ah _ (by decide +kernel))
   have n1:("ann" : Str)≠BN "x" 40:=by decide +kernel
   have n2:("ann" : Str)≠BN "x" a++"y"++BN "x" (39-a):=fun z=>by
    rw[<- z]at y;exact absurd y (by decide +kernel)
   have n3:BN "x" 40≠BN "x" a++"y"++BN "x" (39-a):=fun z=>by
    rw[<- z,m]at y;exact absurd (List.eq_of_mem_replicate y) (by decide)
   refine AL.mpr ⟨fun z=>?_,AL.mpr ⟨fun z=>n3 (A5.mp z),by simp⟩⟩
   rcases Aq.mp z with z|z
   .exact n1 z
   .exact n2 (A5.mp z)
theorem Jle{M:PB}(h:M.keys.Nodup)(who:Str):(M.touch who).keys.Nodup:=by
 unfold PB.touch;split
 .exact h
 .rename_i c;exact CK.mpr ⟨h,by simp,fun a ha b hb z=>c (by rw[<- A5.mp hb,<- z];exact ha)⟩
theorem Jif{M:PB}{S:Str->Prop}(h:∀w∈M.keys,S w){who:Str}(hw:S who):∀w∈(M.touch who).keys,S w:=by
 unfold PB.touch;split
 .exact h
 .intro w m
  rcases Ae.mp m with m|m
  .exact h w m
  .rw[A5.mp m];exact hw
noncomputable def Of(S:Str->Prop):JU->Prop
 | .hours who _ _=>S who
 | .payday who _=>S who
 | .rate _ _=>True
 | .dues _ _=>True
 | _=>False
theorem JnG{M:PB}{S:Str->Prop}(nd:M.keys.Nodup)(h:∀w∈M.keys,S w){d:JU}(hd:Of S d):(Y6 M d).2.keys.Nodup/\∀w∈(Y6 M d).2.keys,S w:=by
 cases d with
 | hours who day many=>
  by_cases c:0<=many/\many<=24
  .rw[show(Y6 M (.hours who day many)).2=(M.touch who).set who { (M.pn who)with days:=Y7 (M.pn who).days day many } by show(if _ then _ else _:Dt×PB).2=_;rw[if_pos c]];exact⟨Jle nd who,Jif h hd⟩
  .rw[show Y6 M (.hours who day many)=(.str "no hours",M) from if_neg c];exact⟨nd,h⟩
 | rate week bs=>
  by_cases c:JaX none bs=true
  .rw[show Y6 M (.rate week bs)=(.str "told",{ M with rates:=Y7 M.rates week bs }) from if_pos c];exact⟨nd,h⟩
  .rw[show Y6 M (.rate week bs)=(.str "no table",M) from if_neg c];exact⟨nd,h⟩
 | dues month t=>
  by_cases c:Jcx t=true
  .rw[show Y6 M (.dues month t)=(.str "told",{ M with dues:=Y7 M.dues month t }) from if_pos c];exact⟨nd,h⟩
  .rw[show Y6 M (.dues month t)=(.str "no table",M) from if_neg c];exact⟨nd,h⟩
 | payday who week=>
  have e:(Y6 M (.payday who week)).2.keys=(M.touch who).keys:=by
   show(if _ then _ else _:Dt×PB).2.keys=_;split<;>rfl
  rw[e];exact⟨Jle nd who,Jif h hd⟩
 | _=>exact hd.elim
theorem JhN{S:Str->Prop}:∀{E:List JU}{M:PB},M.keys.Nodup->(∀w∈M.keys,S w)->(∀d∈E,Of S d)->(JcB M E).keys.Nodup/\∀w∈(JcB M E).keys,S w
 | [],_,nd,h,_=>⟨nd,h⟩
 | d::r,M,nd,h,hE=>by
  obtain⟨a,b⟩:=JnG nd h (hE d (.head _));exact JhN (E:=r) a b fun x hx=>hE x (.tail _ hx)
theorem JdF{α:Type}[DecidableEq α]:∀{l m:List α},l.Nodup->(∀x∈l,x∈m)->l.length<=m.length
 | [],_,_,_=>AA _
 | a::l,m,nd,h=>by
  obtain⟨n1,n2⟩:=AL.mp nd;have ha:=h a (.head _);have:=JdF (l:=l) (m:=m.erase a) n2 fun x hx=>(List.mem_erase_of_ne (show x≠a from fun z=>n1 (z ▸ hx))).mpr (h x (.tail _ hx));rw[List.length_erase_of_mem ha]at this;have pos:=List.length_pos_of_mem ha;rw[AN];omega
theorem Jo8{ks people nks rs rs':List Str}{has:Str->Bool}(pn:people.Nodup)(kn:ks.Nodup)(pm:rs.Perm people)(so:FC rs=true)(pm':rs'.Perm ks)(so':FC rs'=true)
  (hk:∀w,has w=true->w∈ks) (hp:∀w∈nks,w∈people) (hh:∀w,has w=true↔w∈nks):rs'.filter has=rs.filter (fun w=>decide (w∈nks)):=by
 refine Jtv ((JiU so' (pm'.nodup_iff.mpr kn)).filter _) ((JiU so (pm.nodup_iff.mpr pn)).filter _) fun w=>?_;rw[B5,B5,pm'.mem_iff,pm.mem_iff];constructor
 .rintro⟨_,b⟩;have:=(hh w).mp b;exact⟨hp w this,decide_eq_true this⟩
 .rintro⟨_,b⟩;have:=(hh w).mpr (of_decide_eq_true b);exact⟨hk w this,this⟩
theorem Joo{people nks rs:List Str}(pn:people.Nodup)(nn:nks.Nodup)(pm:rs.Perm people)(hp:∀w∈nks,w∈people):(rs.filter fun w=>decide (w∈nks)).length=nks.length:=by
 have nr:rs.Nodup:=pm.nodup_iff.mpr pn;refine Nat.le_antisymm (JdF (nr.filter _) fun x hx=>of_decide_eq_true (B5.mp hx).2) (JdF nn fun x hx=>B5.mpr ⟨pm.mem_iff.mpr (hp x hx),decide_eq_true hx⟩)
structure Jp2(ms:List Int)(S:Str->Prop)(E:List JU)(B:Bk):Prop where
 has:∀who,Jgv ((JcB PB.new E).pn who)=true↔E.any (Jgw who)=true\/∃day,0<B.hrs who day
 right:∀who,S who->∀wk,JaZ (JcB PB.new E) who wk=rightS ms B who wk
 paid:∀who,0<=((JcB PB.new E).pn who).paid/\((∀d∈E,J7 d≠none)->((JcB PB.new E).pn who).paid=0)
 nd:(JcB PB.new E).keys.Nodup
 sub:∀w∈(JcB PB.new E).keys,S w
theorem Jp3{ms:List Int}{S:Str->Prop}{E:List JU}{B:Bk}{f:Jlm}{W:Int}(up:ms.Pairwise (·<·))(hB:Holds B f)(hf:Jbi (fun _=>none) E=f)(hall:∀d∈E,Jal d/\Jrs ms S d)(hg:∀d∈E,JiS d)(ho:∀d∈E,Js8 W d)(hS:∀d∈E,Of S d):Jp2 ms S E B:=by
 have lk:=(Lk.outs up (Lk.new ms S) JbS.new hall).2;have ok:=Jhn JbS.new fun d hd=>(hall d hd).1;have h':Holds (JiG ms Bk.new E) f:=hf ▸ Holds.all (ms:=ms) Holds.new hg;have nd:ms.Nodup:=Ch.imp (fun{x y}(z:x<y)(e:x=y)=>by omega) up;have hl0:∀y,Bk.new.last y=none\/Bk.new.last y=some W:=fun _=>.inl rfl
 have hrs:(JiG ms Bk.new E).hrs=B.hrs:=by
  funext y d;rw[h'.hrs,hB.hrs]
 refine⟨fun who=>?_,fun who c wk=>?_,fun who=>?_,(JhN (S:=S) (M:=PB.new) BZ (fun w (z:w∈([]:List Str))=>nomatch z) hS).1,(JhN (S:=S) (M:=PB.new) BZ (fun w (z:w∈([]:List Str))=>nomatch z) hS).2⟩
 .rw[Jrj lk ok who,hrs,(Jhq (who:=who) ho hl0).2];refine or_congr ?_ KA
  by_cases c:E.any (Jgw who)=true
  .rw[if_pos c];exact⟨fun _=>c,fun _ z=>nomatch z⟩
  .rw[if_neg c];exact⟨fun z=>absurd rfl z,fun z=>absurd z c⟩
 .rw[<- lk.rightS ok nd c wk];exact Joh h' hB ms who wk
 .rw[<- lk.paid who];have:=Jhp (ms:=ms) (who:=who) ho hl0 (CZ 0);exact⟨this.1,this.2⟩
theorem Jly{d:JU}(h:J7 d≠none):JiS (Jdo d):=by
 cases d with
 | hours who day m=>exact⟨by decide,by decide⟩
 | rate w bs=>show JaX none [(none,1)]=true;decide
 | dues m t=>show Jcx ([(none,0)],0,1)=true;decide
 | _=>exact absurd rfl h
end Wb
namespace TLA
open PySem PySem.Spec PyProof.Rows L2 Wb
theorem YQ:Ju ["amount", "bands", "parts", "left", "floor", "pair", "upto", "part"] ["amount", "bands"] (Ji Jdf):=JH (by decide +kernel)
theorem JoM:Ju ["amount", "bands"] ["amount", "bands"] (Ji JeP):=JH (by decide +kernel)
theorem Jey:JbI ["amount", "bands"] (Ji JeP) ["part", "pair"] (lcS (JrF (JlF (Jjx (YO JeP) 0)) 1)) [none,none]:=Ja4 (by decide +kernel)
theorem Jis:Ju ["pay", "top", "per"] ["pay", "top", "per"] (Ji Jcf):=JH (by decide +kernel)
theorem Jih:Ju ["pay", "table", "hundreds"] ["pay", "table"] (Ji Jfg):=JH (by decide +kernel)
theorem JgJ:Ju ["tables", "when", "begun"] ["tables", "when"] (Ji Jb1):=JH (by decide +kernel)
theorem JeU:JbI ["tables", "when", "begun"] (Ji Jb1) ["key", "when"] (lcS (JlF (Jjx (YO Jb1) 0))) [none,some 1]:=Ja4 (by decide +kernel)
theorem JaO:Ju ["bands", "floor", "pair", "upto"] ["bands"] (Ji JaB):=JH (by decide +kernel)
theorem JcG:JbI ["bands", "floor", "pair", "upto"] (Ji JaB) ["pair"] (lcS (JrF (JlF (Jjx (YO JaB) 3)) 1)) [none]:=Ja4 (by decide +kernel)
theorem JeY:Ju ["table", "bands"] ["table"] (Ji Ja2):=JH (by decide +kernel)
theorem Jdn:JbI ["table", "bands"] (Ji Ja2) ["pair"] (lcS (JrF (JlF (Jjx (YO Ja2) 2)) 1)) [none]:=Ja4 (by decide +kernel)
theorem Jlu:Ju ["day"] ["day"] (Ji Jeh):=JH (by decide +kernel)
theorem JjQ:Ju ["week"] ["week"] (Ji Jc9):=JH (by decide +kernel)
theorem JgR:Ju ["hours", "week", "rates", "bands"] ["hours", "week", "rates"] (Ji JdX):=JH (by decide +kernel)
theorem Jg0:Ju ["pay", "month", "dues", "table"] ["pay", "month", "dues"] (Ji JdV):=JH (by decide +kernel)
theorem Jav:Ju ["old_nets", "new_nets", "lines", "month", "change"] ["old_nets", "new_nets"] (Ji JaH):=JH (by decide +kernel)
theorem Jgr:Ju ["self"] ["self"] (Ji Jbq):=JH (by decide +kernel)
theorem Jdz:Ju ["self", "day", "many"] ["self", "day", "many"] (Ji Y5):=JH (by decide +kernel)
theorem J0:Ju ["self", "hours", "day", "many", "week"] ["self"] (Ji Yp):=JH (by decide +kernel)
theorem Jek:Ju ["self", "week", "rates"] ["self", "week", "rates"] (Ji Jae):=JH (by decide +kernel)
theorem J1:Ju ["self", "last", "rates", "pays", "week", "hours", "month"] ["self", "last", "rates"] (Ji Yq):=JH (by decide +kernel)
theorem Yj:Ju ["self", "last", "rates", "dues", "nets", "month", "pay"] ["self", "last", "rates", "dues"] (Ji Yt):=JH (by decide +kernel)
theorem Yz:Ju ["self", "week", "rates", "dues", "nets", "left", "lines"] ["self", "week", "rates", "dues"] (Ji YG):=JH (by decide +kernel)
theorem JdQ:Ju ["self"] ["self"] (Ji Yk):=JH (by decide +kernel)
theorem Jbk:JbI ["self"] (Ji Yk) ["many"] (lcS (JrF (JrF (JlF (Jjx (YO Yk) 0)) 1) 1)) [none]:=Ja4 (by decide +kernel)
theorem JiZ:Ju ["self"] ["self"] (Ji Jcm):=JH (by decide +kernel)
theorem Jez:Ju ["self", "who"] ["self", "who"] (Ji Jau):=JH (by decide +kernel)
theorem JdJ:Ju ["self", "who", "day", "many"] ["self", "who", "day", "many"] (Ji Jac):=JH (by decide +kernel)
theorem JeQ:Ju ["self", "week", "bands"] ["self", "week", "bands"] (Ji Jas):=JH (by decide +kernel)
theorem Jes:Ju ["self", "month", "table"] ["self", "month", "table"] (Ji Jaw):=JH (by decide +kernel)
theorem JcA:Ju ["self", "who", "week"] ["self", "who", "week"] (Ji YB):=JH (by decide +kernel)
theorem Jgq:Ju ["self", "who", "week"] ["self", "who", "week"] (Ji Jbn):=JH (by decide +kernel)
theorem Jf6:Ju ["self", "who", "week"] ["self", "who", "week"] (Ji Ja8):=JH (by decide +kernel)
theorem Jfc:Ju ["self", "who", "week"] ["self", "who", "week"] (Ji JaK):=JH (by decide +kernel)
theorem JfM:Ju ["self", "who"] ["self", "who"] (Ji Ja7):=JH (by decide +kernel)
theorem Jhz:Ju ["self"] ["self"] (Ji JaD):=JH (by decide +kernel)
theorem JcT:JbI ["self"] (Ji JaD) ["who", "self"] (lcS (JlF (Jjx (YO JaD) 0))) [none,some 0]:=Ja4 (by decide +kernel)
theorem Jn1:Ju ["book", "deed", "name"] ["book", "deed"] (Ji Jkr):=JH (by decide +kernel)
theorem Jng:Ju ["book", "deed"] ["book", "deed"] (Ji Jfs):=JH (by decide +kernel)
theorem Jgi:Ju ["deeds", "week", "book", "deed"] ["deeds", "week"] (Ji Jdh):=JH (by decide +kernel)
theorem Jf0:JbI ["deeds", "week", "book", "deed"] (Ji Jdh) ["who", "week", "book"] (lcS (JlF (Jjx (YO Jdh) 2))) [none,some 1,some 2]:=Ja4 (by decide +kernel)
theorem JaJ:Ju ["_law_found", "_law_due", "_law_todo", "_law_left", "_law_right", "_law_k"] ["_law_found", "_law_due"] (Ji JbL):=JH (by decide +kernel)
theorem Jof:Ju ["_law_script", "_law_most", "_law_bound"] ["_law_script", "_law_most", "_law_bound"] (Ji Jfr):=JH (by decide +kernel)
theorem JlL:Ju ["_law_found"] ["_law_found"] (Ji Jd8):=JH (by decide +kernel)
theorem JqF:Ju ["_law_script", "_law_k"] ["_law_script", "_law_k"] (Ji Jky):=JH (by decide +kernel)
theorem Jcd:Ju ["_law_found", "_law_due", "_law_todo", "_law_one", "_law_other", "_law_k"] ["_law_found", "_law_due"] (Ji JdU):=JH (by decide +kernel)
theorem YX:Ju ["_law_first", "_law_second", "_law_most", "_law_scale", "_law_low", "_law_high", "_law_each", "_law_made", "_law_ends"] ["_law_first", "_law_second", "_law_most"] (Ji Jbs):=JH (by decide +kernel)
theorem Jen:JbI ["_law_first", "_law_second", "_law_most", "_law_scale", "_law_low", "_law_high", "_law_each", "_law_made", "_law_ends"] (Ji Jbs) ["_law_j", "_law_low", "_law_first", "_law_second"] (lcS (JlF (Jjx (JtU (Jjx (YO Jbs) 7) 0) 0))) [none,some 4,some 0,some 1]:=Ja4 (by decide +kernel)
theorem JbF:Ju ["_law_bands", "_law_seed", "_law_menu"] ["_law_bands", "_law_seed"] (Ji Jc8):=JH (by decide +kernel)
theorem JdD:Ju ["_law_cells", "_law_spot", "_law_made"] ["_law_cells"] (Ji Jc5):=JH (by decide +kernel)
theorem Jkg:Ju ["_law_cells"] ["_law_cells"] (Ji Jda):=JH (by decide +kernel)
theorem Jcu:Ju ["_law_cells", "_law_seed"] ["_law_cells"] (Ji JaF):=JH (by decide +kernel)
theorem JS:Ju ["_law_cells", "_law_k", "_law_near", "_law_far", "_law_who", "_law_base", "_law_apart", "_law_pick", "_law_many", "_law_bands", "_law_table", "_law_top", "_law_week"] ["_law_cells", "_law_k"] (Ji Jdg):=JH (by decide +kernel)
theorem Jjj:Ju ["_law_cells"] ["_law_cells"] (Ji Ja5):=JH (by decide +kernel)
theorem Jdl:JbI ["_law_cells"] (Ji Ja5) ["_law_k", "_law_cells"] (lcS (JlF (Jjx (YO Ja5) 0))) [none,some 0]:=Ja4 (by decide +kernel)
theorem Jab:Ju ["_law_amount", "_law_bands", "_law_total", "_law_low", "_law_upto", "_law_each", "_law_part"] ["_law_amount", "_law_bands"] (Ji JdO):=JH (by decide +kernel)
theorem Jjh:Ju ["_law_pay", "_law_table", "_law_relief"] ["_law_pay", "_law_table"] (Ji Jfi):=JH (by decide +kernel)
theorem Jdy:Ju ["_law_bands", "_law_most", "_law_ends", "_law_pair"] ["_law_bands", "_law_most"] (Ji Jbu):=JH (by decide +kernel)
theorem Jd2:JbI ["_law_bands", "_law_most", "_law_ends", "_law_pair"] (Ji Jbu) ["_law_pair"] (lcS (JlF (Jjx (YO Jbu) 0))) [none]:=Ja4 (by decide +kernel)
theorem JeR:Ju ["_law_cells", "_law_made", "_law_first"] ["_law_cells"] (Ji JdR):=JH (by decide +kernel)
theorem Jdb:Ju ["_law_tables", "_law_when", "_law_best", "_law_start"] ["_law_tables", "_law_when"] (Ji Jec):=JH (by decide +kernel)
theorem Jb8:Ju ["_law_state", "_law_who", "_law_week", "_law_many", "_law_day", "_law_bands"] ["_law_state", "_law_who", "_law_week"] (Ji JdN):=JH (by decide +kernel)
theorem JdM:Ju ["_law_state", "_law_who", "_law_month", "_law_last", "_law_pay", "_law_week", "_law_table"] ["_law_state", "_law_who", "_law_month", "_law_last"] (Ji Jh0):=JH (by decide +kernel)
theorem JhY:Ju ["_law_state", "_law_who", "_law_last"] ["_law_state", "_law_who", "_law_last"] (Ji Jaz):=JH (by decide +kernel)
theorem JcP:JbI ["_law_state", "_law_who", "_law_last"] (Ji Jaz) ["_law_month", "_law_state", "_law_who", "_law_last"] (lcS (JlF (Jjx (YO Jaz) 0))) [none,some 0,some 1,some 2]:=Ja4 (by decide +kernel)
theorem JbJ:Ju ["_law_state", "_law_deed", "_law_bands", "_law_top", "_law_per"] ["_law_state", "_law_deed"] (Ji Jcr):=JH (by decide +kernel)
theorem JiQ:Ju ["_law_state", "_law_deed", "_law_text", "_law_paid", "_law_right"] ["_law_state", "_law_deed"] (Ji Jfu):=JH (by decide +kernel)
theorem Jiw:Ju ["_law_deed"] ["_law_deed"] (Ji Jcs):=JH (by decide +kernel)
theorem YE:Ju ["_law_deeds", "_law_seed", "_law_other", "_law_cells", "_law_turn", "_law_rows", "_law_ahead", "_law_k", "_law_who"] ["_law_deeds", "_law_seed", "_law_other", "_law_cells"] (Ji Jbp):=JH (by decide +kernel)
theorem JaI:Ju ["_law_script", "_law_cells", "_law_state", "_law_last", "_law_deed", "_law_deeds", "_law_week", "_law_due", "_law_who", "_law_other", "_law_rows", "_law_names", "_law_key", "_law_handed", "_law_found", "_law_wanted", "_law_k"] ["_law_script"] (Ji JiN):=JH (by decide +kernel)
theorem Jkj:JbI ["_law_script", "_law_cells", "_law_state", "_law_last", "_law_deed", "_law_deeds", "_law_week", "_law_due", "_law_who", "_law_other", "_law_rows", "_law_names", "_law_key", "_law_handed", "_law_found", "_law_wanted", "_law_k"] (Ji JiN) ["_law_row", "_law_names"] (lcS (JlF (Jjx (JtU (Jjx (YO JiN) 10) 0) 7))) [none,some 11]:=Ja4 (by decide +kernel)
theorem Jk6:JbI ["_law_script", "_law_cells", "_law_state", "_law_last", "_law_deed", "_law_deeds", "_law_week", "_law_due", "_law_who", "_law_other", "_law_rows", "_law_names", "_law_key", "_law_handed", "_law_found", "_law_wanted", "_law_k"] (Ji JiN) ["_law_key", "_law_last"] (lcS (JlF (Jjx (YO JiN) 4))) [none,some 3]:=Ja4 (by decide +kernel)
structure Zs(mg:MO):Prop where
 z_len:mg "len" = none
 z_isinstance:mg "isinstance" = none
 z_int:mg "int" = none
 z_bool:mg "bool" = none
 z_list:mg "list" = none
 z_tuple:mg "tuple" = none
 z_range:mg "range" = none
 z_str:mg "str" = none
 z_sum:mg "sum" = none
 z_min:mg "min" = none
 z_max:mg "max" = none
 z_sorted:mg "sorted" = none
 z_set:mg "set" = none
 z_zip:mg "zip" = none
 z_all:mg "all" = none
 z_any:mg "any" = none
structure Gs(mg:MO):Prop where
 g_GREATEST_EACH_OF_DUES:∃t,mg "GREATEST_EACH_OF_DUES" = some (.int 100 t)
 g_DAYS_OF_WEEK:∃t,mg "DAYS_OF_WEEK" = some (.int 7 t)
 g_WEEKS_OF_MONTH:∃t,mg "WEEKS_OF_MONTH" = some (.int 4 t)
 g_HOURS_OF_DAY:∃t,mg "HOURS_OF_DAY" = some (.int 24 t)
structure Txt(K:WF)(mg:MO)(CB CP fBI fPI:Addr):Prop where
 clPerson:Cls K CP
 clBook:Cls K CB
 mkPerson:Mk K CP fPI
 mkBook:Mk K CB fBI
 mgPerson:mg "Person" = some (.ref CP)
 mgBook:mg "Book" = some (.ref CB)
 n_days:Jar K CP "days"
 n_paid:Jar K CP "paid"
 n_last_week:Jar K CP "last_week"
 n_last_nets:Jar K CP "last_nets"
 n_people:Jar K CB "people"
 n_rates:Jar K CB "rates"
 n_dues:Jar K CB "dues"
section
variable {P:Ab} {w:At} {K:WF} {mg:Str→Option A3} {base:Heap} {CB CP fBI fPI CH CN CT:Addr}
inductive JnJ(vs:List V)(H:Hp)(Q:VK):Prop
 | mk (i:Int) (h1:vs=[.int i]) (h2:Q (.bl true) H):JnJ vs H Q
def JjH:Sp:=fun vs H Q _=>JnJ vs H Q
theorem Jpd{f:Addr}{fd:Aa}(F:Fun K "_law_whole" "_law_whole" Jd8 f fd)(Z:Zs mg):YU P w K mg base CX0 1 f fd ["_law_found"] JjH:=by
 refine F.ok JlL (fun vs H Q E h=>?_) (fun cdv A outer s H vs Q E hr h=>?_)
 .obtain⟨i,rfl,_⟩:=h;rfl
 .obtain⟨i,rfl,k⟩:=h;refine⟨_,(Jf (Jp (Jp6 (Jn YF (by rfl) Z.z_isinstance JA (Jb (pw 0) (Jb (Yi (v:=.ty "int") rfl Z.z_int Jje rfl) JR))) (Joe (JrO (Jn YF (by rfl) Z.z_isinstance JA (Jb (pw 0) (Jb (Yi (v:=.ty "bool") rfl Z.z_bool Jj0 rfl) JR)))))))),?_⟩;refine⟨_, "int", "int",rfl,.int _,by decide,by decide,_,rfl,?_⟩;refine Jfa ?_;exact⟨_, "int", "bool",rfl,.int _,by decide,by decide,_,rfl,k⟩
inductive Jt8(K:WF)(vs:List V)(H:Hp)(Q:VK):Prop
 | mk (a:Addr) (ns:List Int) (k:Int) (h1:vs=[.ref a,.int k]) (h2:SqL K H a (ns.map V.int)) (h3:0<=k) (h4:∀x,Q (.int x) H):Jt8 K vs H Q
def JtY(K:WF):Sp:=fun vs H Q _=>Jt8 K vs H Q
theorem JtN{f:Addr}{fd:Aa}(F:Fun K "_law_at" "_law_at" Jky f fd)(Z:Zs mg):YU P w K mg base CX0 1 f fd ["_law_script", "_law_k"] (JtY K):=by
 refine F.ok JqF (fun vs H Q E h=>?_) (fun cdv A outer s0 H vs Q E hr h=>?_)
 .obtain⟨a,ns,k,rfl,_⟩:=h;rfl
 .obtain⟨a,ns,i,rfl,hS,h0,k⟩:=h
  refine⟨_,(Jd (JL (Jq JbW (pw 1) (Jn JM (by rfl) Z.z_len JaY (pa1 (pw 0))) (Jv _)) (Jf (Jp (Jo JI (pw 0) (pw 1)))) Jr)
   (Jf (Jp Jc))),fun _ nz=>?_⟩
  refine⟨a,_,rfl,.inl hS,_,rfl,?_⟩;refine JY (fun h=>?_) (fun _=>nz ?_)
  .have h:=of_decide_eq_true h;rw[A2]at h;obtain⟨x,hx⟩:=JqS h0 h;exact⟨a,_,_,.int x,rfl,rfl,hS,hx,k x⟩
  .exact k 0
inductive JmC(vs:List V)(H:Hp)(Q:VK):Prop
 | mk (x y:V) (d:Dt) (h1:vs=[x,y]) (h2:Rep H d x) (h3:Rep H d y) (h4:Jh6 d) (h5:dsz d<=100000) (h6:∀H',JV H H'->Q (.bl true) H'):JmC vs H Q
def Jmz:Sp:=fun vs H Q _=>JmC vs H Q
theorem JoA{f f1:Addr}{fd fd1:Aa}(F:Fun K "_law_alike" "_law_alike" JdU f fd)(Z:Zs mg)(JbY:JK P w K mg base "_law_whole" ["_law_found"] JjH 1 f1 fd1):YU P w K mg base CX0 2 f fd ["_law_found", "_law_due"] Jmz:=by
 refine F.ok Jcd (fun vs H Q E h=>?_) (fun cdv A outer s0 H vs Q E hr h=>?_)
 .obtain⟨x,y,d,rfl,_⟩:=h;rfl
 .obtain⟨x,y,d0,rfl,hx,hy,hnb,hsz,k⟩:=h;have hu:=JbH hr
  refine⟨_,(Jd (Jk 2 Jcd.nd (J3 (pa1 (JZ (Jb (pw 0) (pa1 (pw 1)))))))
   (Jd (JkM AD (Jq (Jf5 hu) (pw 2) (J3 JR) (Jv _)) (Jd (JnZ (Jli B6 Ga GV Jql (pw 2)) (Je1 rfl (Yx (pgn 3 Jcd.nd) (Yx (pgn 4 Jcd.nd) JcW))))
   (Jf (JL (JaP (Jn JdT (by rfl) Z.z_isinstance JA (Jb (pw 4) (Jb (JZ (Jb (Yi (v:=.ty "list") rfl Z.z_list JaN rfl) (Jb (Yi (v:=.ty "tuple") rfl Z.z_tuple Jci rfl) JR))) JR)))) (Jd (JL (Jq Jdx (Jn YF (by rfl) Z.z_isinstance JA (Jb (pw 3) (Jb (Yi (v:=.ty "list") rfl Z.z_list JaN rfl) JR))) (Jn YF (by rfl) Z.z_isinstance JA (Jb (pw 4) (Jb (Yi (v:=.ty "list") rfl Z.z_list JaN rfl) JR))) (Jv _)) (Jf (Jp JaE)) Jr)
   (Jd (JL (Jq Jdx (Jn YF (by rfl) Z.z_isinstance JA (Jb (pw 3) (Jb (Yi (v:=.ty "tuple") rfl Z.z_tuple Jci rfl) JR))) (Jn YF (by rfl) Z.z_isinstance JA (Jb (pw 4) (Jb (Yi (v:=.ty "tuple") rfl Z.z_tuple Jci rfl) JR))) (Jv _)) (Jf (Jp JaE)) Jr)
   (Jd (JL (Jq Jdx (Jn JM (by rfl) Z.z_len JaY (pa1 (pw 3))) (Jn JM (by rfl) Z.z_len JaY (pa1 (pw 4))) (Jv _)) (Jf (Jp JaE)) Jr)
   (Jf (Jan AD rfl (JbU rfl Z.z_range (pa1 (Jn JM (by rfl) Z.z_len JaY (pa1 (pw 4))))) (pgn 5 Jcd.nd) (Jf (JaL (Jho B6 BW BQ Jaq (pw 2) (pa1 (JZ (Jb (Jo JkH (pw 3) (pw 5)) (pa1 (Jo JkH (pw 4) (pw 5)))))))))))))) (Jf (JL (Jai (Jcw (pw 4))) (Jf (JL (Jai (JbQ (pw 3))) (Jf (Jp JaE)) Jr)) (Jf (JL (JaP (Jn YF (by rfl) Z.z_isinstance JA (Jb (pw 4) (Jb (Yi (v:=.ty "str") rfl Z.z_str Jji rfl) JR)))) (Jf (JL (PW.pt (JbO (Jbe (JaP (Jn YF (by rfl) Z.z_isinstance JA (Jb (pw 3) (Jb (Yi (v:=.ty "str") rfl Z.z_str Jji rfl) JR))))) (JaW (Jq Jdx (pw 3) (pw 4) (Jv _))))) (Jf (Jp JaE)) Jr)) (Jf (JL (PW.pt (JbO (Jbe (JaP (Js JbY hr (pa1 (pw 3))))) (JaW (Jq Jdx (pw 3) (pw 4) (Jv _))))) (Jf (Jp JaE)) Jr))))))))))
   (Jf (Jp JaE)))),fun _ nz=>?_⟩
  refine⟨zs2,fun t0 ht0=>⟨zs1,fun l hl=>?_⟩⟩;have hl0:H l=none:=(Je ht0).free hl
  refine nz fun _ nz=>⟨fun m σ Hc=>∃(ps:List Addr)(ds:List Dt)(v3 v4 v5:Option V),σ=[some x,some y,some (.ref l),v3,v4,v5]/\JjX H l ps ds Hc/\m=JbP ds/\JbP ds<=100000/\∀d∈ds,Jh6 d,
   ⟨_,[t0],[d0],none,none,none,rfl,⟨JQ (Je ht0) hl0,Ja,rfl,?_⟩,rfl,by simp only[JbP];omega,fun d hd=>by rw[A5.mp hd];exact hnb⟩,?_⟩
  .intro i p d e1 e2
   cases i with
   | succ i=>simp at e1
   | zero=>
    cases e1;cases e2;exact⟨x,y,Je hl _ _ Ja,hx,hy⟩
  rintro m σ Hc ⟨ps,ds,v3,v4,v5,rfl,W,rfl,hms,hnb⟩;refine⟨AA _,fun le hle=>?_⟩;have W1:=W.new (o:=HO.lst []) hle;refine⟨l,le,_,rfl,rfl,SqL.of W1.lst,SqL.of Ja,_,rfl,?_⟩
  rcases DW ps with rfl|⟨ps,p,rfl⟩
  .refine JY (fun h=>absurd h (by decide)) (fun _=>?_);exact nz (k _ W1.same)
  .rw[DX]at W W1 ⊢
   rcases DW ds with rfl|⟨ds,d,rfl⟩
   .have:=W.len;simp at this
   rw[DX]at W W1 hms hnb ⊢;have hnd:Jh6 d:=hnb d (Ah _ Az);have hns:∀e∈ds,Jh6 e:=fun e he=>hnb e (Ba _ he);refine JY (fun _=>?_) (fun h=>absurd (by simp) h)
   refine⟨fun σ' H'=>∃(ps':List Addr)(ds':List Dt)(v3 v4 v5:Option V),σ'=[some x,some y,some (.ref l),v3,v4,v5]/\JjX H l ps' ds' H'/\JbP ds'<JbP (ds++[d])/\∀d∈ds',Jh6 d,
    fun σ' H' ⟨ps',ds',v3,v4,v5,e,W',hlt,hb'⟩ =>⟨_,hlt,ps',ds',v3,v4,v5,e,W',rfl,by omega,hb'⟩,fun _ ny=>?_⟩
   obtain⟨W2,u,v,hp,hp2,hu',hv'⟩:=W1.pop hl0
   have hlast:(GC V.ref (ps++[p]))[(GC V.ref (ps++[p])).length-1]?=some (V.ref p):=by simp
   have hdl:(GC V.ref (ps++[p])).dropLast=ps.map V.ref:=by simp
   refine⟨.inl ⟨rfl,_,SqL.of W1.lst⟩,l,_,_,rfl,rfl,W1.lst,hlast,?_⟩;rw[hdl];refine⟨p,_,rfl,SqT.of hp2,rfl,u,_,rfl,v,_,rfl,rfl,?_⟩;generalize upd (upd Hc le (HO.lst [])) l (HO.lst (ps.map V.ref))=H2 at W2 hp2 ⊢
   have hd1:JbP (ds++[d])=JbP ds+dsz d:=by rw[Jbl];simp only[JbP];omega
   have hdp:=JjT d;refine ny ⟨zs2,fun tp htp=>?_⟩;have W3:=W2.new (o:=HO.tup [V.ty "list",V.ty "tuple"]) htp;refine⟨_,dty d,tp,["list", "tuple"],rfl,Ja,(hv'.same W3.same).ty,JaT d,by decide,_,rfl,?_⟩
   by_cases hseq:∃dl,d=.tup dl\/d=.lst dl
   .obtain⟨dl,hdl'⟩:=hseq;have hany:=Jl8 hdl'
    have hnl:∀e∈dl,Jh6 e:=by
     rcases hdl' with rfl|rfl
     .unfold Jh6 at hnd;exact hnd
     .unfold Jh6 at hnd;exact hnd
    refine JY (fun _=>fun _ nq=>?_) (fun h=>absurd hany h)
    have hdz:dsz d=1+JbP dl:=by rcases hdl' with rfl|rfl<;>rfl
    refine⟨_,dty d, "list",rfl,(hu'.same W3.same).ty,JaT d,by decide,_,dty d, "list",rfl,(hv'.same W3.same).ty,JaT d,by decide,rfl,_,rfl,?_⟩;refine Jfd rfl (nq fun _ nq=>?_);refine⟨_,dty d, "tuple",rfl,(hu'.same W3.same).ty,JaT d,by decide,_,dty d, "tuple",rfl,(hv'.same W3.same).ty,JaT d,by decide,rfl,_,rfl,?_⟩;refine Jfd rfl (nq fun _ nq=>?_);obtain⟨a1,ys1,e1,q1,n1⟩:=JhP (K:=K) hdl' hu' W3.same;obtain⟨a2,ys2,e2,q2,n2⟩:=JhP (K:=K) hdl' hv' W3.same;refine⟨a1,ys1,by rw[e1],q1,a2,ys2,by rw[e2],q2,rfl,_,rfl,?_⟩;refine Jfd (by rw[n1,n2]) (nq ?_);have hdl3:=Jeb dl;refine⟨a2,ys2,by rw[e2],q2,_,rfl,(by rw[n2];omega),(by rw[n2];omega),?_⟩
    refine JbV (lo:=0) (fun i σ H5=>∃(qs:List Addr)(v5:Option V),σ=[some x,some y,some (.ref l),some u,some v,v5]/\JjX H l (ps++qs) (ds++dl.take i) H5)
     ⟨[],_,rfl,by rw[Be,KS,Be];exact W3⟩ ?_ ?_
    .rintro i σ H5 hi ⟨qs,w5,rfl,W5⟩
     have hi:i<dl.length:=by rw[n2]at hi;omega
     have he:dl[i]?=some dl[i]:=A1 hi;obtain⟨x1,r1,i1⟩:=Jfh (K:=K) hdl' hu' W5.same he;obtain⟨x2,r2,i2⟩:=Jfh (K:=K) hdl' hv' W5.same he;refine⟨.inl ⟨rfl,_,SqL.of W5.lst⟩,i1 _ (i2 _ ⟨zs2,fun t ht=>?_⟩)⟩;have W6:=W5.push hl0 ht r1 r2;have hw5:=Jeb (ds++dl.take i);have hlen5:=W5.len
     have htk:JbP (ds++dl.take i)<=100000:=by
      have h1:JbP (dl.take i)<=JbP dl:=by
       have:=Jbl (dl.take i) (dl.drop i);rw[Co]at this;omega
      rw[Jbl];omega
     refine⟨l,_,_,rfl,rfl,Je ht _ _ W5.lst,BR (show _<=100000 by rw[A2];omega) (by decide),?_⟩;refine⟨qs++[t],_,rfl,?_⟩;rw[Ap,he,<- C5,<- C5];exact W6
    .rintro σ H5 ⟨qs,w5,rfl,W5⟩
     have hn:dl.take (ys2.length:Int).toNat=dl:=by rw[n2];exact AC (by omega)
     rw[hn]at W5;refine⟨ps++qs,_,_,_,_,rfl,W5,?_,fun e he=>(Ae.mp he).elim (hns e) (hnl e)⟩;rw[Jbl,hd1,hdz];omega
   .have hlt:JbP ds<JbP (ds++[d]):=by omega
    rcases JnY (fun dl=>⟨fun e=>hseq ⟨dl,.inl e⟩,fun e=>hseq ⟨dl,.inr e⟩⟩) hu' hv' with⟨rfl,rfl,rfl⟩|⟨rfl,hF⟩
    .refine JY (fun h=>absurd h (by decide)) (fun _=>?_);refine⟨_,rfl,?_⟩;refine JY (fun _=>?_) (fun h=>absurd (decide_eq_true rfl) h);refine⟨_,rfl,?_⟩;refine JY (fun h=>absurd h (by decide)) (fun _=>?_);exact⟨ps,ds,_,_,_,rfl,W3,hlt,hns⟩
    .refine JY (fun h=>absurd h hF.no) (fun _=>?_);refine⟨_,rfl,?_⟩;refine JY (fun h=>absurd (of_decide_eq_true h) hF.nn) (fun _=>?_)
     cases d with
     | non=>exact absurd (show u=V.non from hu') hF.nn
     | bl b=>
      unfold Jh6 at hnd;exact hnd.elim
     | tup dl=>exact absurd ⟨dl,.inl rfl⟩ hseq
     | lst dl=>exact absurd ⟨dl,.inr rfl⟩ hseq
     | str z=>
      cases(show u=V.str z from hu');refine⟨_, "str", "str",rfl,.str _,by decide,by decide,_,rfl,?_⟩;refine Jfa ?_;refine⟨_, "str", "str",rfl,.str _,by decide,by decide,_,rfl,?_⟩;refine Jdv ?_;refine⟨hF.sc,_,rfl,?_⟩;refine Jfd rfl ?_;exact⟨ps,ds,_,_,_,rfl,W3,hlt,hns⟩
     | int z=>
      cases(show u=V.int z from hu');refine⟨_, "int", "str",rfl,.int _,by decide,by decide,_,rfl,?_⟩;refine Jdv ?_;refine⟨z,rfl,_,rfl,?_⟩;refine Jdv ?_;refine⟨hF.sc,_,rfl,?_⟩;refine Jfd rfl ?_;exact⟨ps,ds,_,_,_,rfl,W3,hlt,hns⟩
inductive JkR(vs:List V)(H:Hp)(Q:VK):Prop
 | mk (f s:Int) (m:V) (h1:vs=[.int f,.int s,m]) (h2:∀a bs H',JV H H'->JG H' a bs->Js5 m bs->Q (.ref a) H'):JkR vs H Q
def Jk9:Sp:=fun vs H Q _=>JkR vs H Q
theorem Joi{f:Addr}{fd:Aa}(F:Fun K "_law_banded" "_law_banded" Jbs f fd)(Z:Zs mg):YU P w K mg base CX0 1 f fd ["_law_first", "_law_second", "_law_most"] Jk9:=by
 refine F.ok YX (fun vs H Q E h=>?_) (fun cdv A outer s0 H vs Q E hr h=>?_)
 .obtain⟨f,s,m,rfl,_⟩:=h;rfl
 .obtain⟨f,s,m,rfl,k⟩:=h
  refine⟨_,(Jd (Jk 3 YX.nd Jc)
   (Jay (JL (PW.pt (JcN (Jai (Jcw (pw 2))) (JbB (Jq JaQ (Jj Jw (pw 1) Jc) Jc (Jv _))))) (Jf (Jk 3 YX.nd (Jj JaR Jc Jc))) Jr)
   (Jd (Jk 4 YX.nd (Jj JF Jc (Jj Jw (pw 0) Jc)))
   (Jd (Jk 5 YX.nd (Jj JF (Jj JF (pw 4) Jc) (Jo JI (J3 (Jb (Jj Jw (pw 1) Jc) (pa1 (Jj Jw (pw 1) (Jj JaR Jc Jc))))) (YN JfH (by rfl) Z.z_int Jje (pa1 (JcZ JaQ (Jj Jw (pw 0) Jc) Jc (Jv _)))))))
   (Jd (Jk 6 YX.nd (J3 (Jb (Jj Ye (Jj Jw (pw 0) Jc) (pw 3)) (Jb (Jj Jw (pw 1) Jc) (pa1 (Jj Jw (Jj JF (pw 0) (pw 1)) Jc))))))
   (Jay (JL (Jai (JbQ (pw 2))) (Jf (Jk 6 YX.nd (J3 (Jb (Jj Jw (pw 1) Jc) (Jb (Jj JF Jc (Jj Jw (pw 0) Jc)) (pa1 (Jo JI (J3 (Jb Jc (Jb Jc (pa1 Jc)))) (Jj Jw (pw 1) Jc)))))))) Jr)
   (Jd (Jk 7 YX.nd (JZ (Jb (JZ (Jb (pw 4) (pa1 (Jo JI (pw 6) Jc)))) (Jb (JZ (Jb (pw 5) (pa1 (Jo JI (pw 6) Jc)))) (pa1 (JZ (Jb JcK (pa1 (Jo JI (pw 6) Jc)))))))))
   (Jd (JL (Jq JaQ (Jj Jw (pw 0) Jc) Jc (Jv _)) (Jd (JbX (i:=8) ["_law_j", "_law_low", "_law_first", "_law_second"] [none,some 4,some 0,some 1] YX.nd rfl (Ds rfl) rfl Jen (JbU rfl Z.z_range (pa1 Jc)) (fun _ _ _ _=>(pgn 0 Jen.nd)) (fun _ _ _ _=>Jdp) (fun _ _ _ _=>(JZ (Jb (Jj JF (pw 1) (Jj Ye Jc (pw 0))) (pa1 (Jj Jw (Jj JF (pw 2) (Jj Ye (pw 0) (pw 3))) Jc))))))
   (Jf (Jp (YN Jhy (by rfl) Z.z_tuple Jci (pa1 (Jj JgX (pw 8) (J3 (pa1 (JZ (Jb JcK (pa1 (Jo JI (pw 6) Jc)))))))))))) Jr)
   (Jf (Jp (Jo JI (J3 (Jb (pw 7) (Jb (J8 Jdk (pw 7) (J2 Jc) YL) (Jb (J8 Jdk (pw 7) (J2 Jc) YL) (pa1 (pw 7)))))) (Jj Jw (Jj JF (pw 0) (pw 1)) Jc)))))))))))),fun _ nz=>nz ?_⟩
  refine⟨fun σ' H'=>∃sc:Int,σ'=[some (.int f),some (.int s),some m,some (.int sc),none,none,none,none,none]/\H=H'/\(sc=1\/sc=10^50),?_,?_⟩
  .refine⟨_,rfl,?_⟩;refine JY (fun _=>?_) (fun _=>?_)
   .refine⟨(by show(0:Int)<23;decide),rfl,_,rfl,?_⟩;refine JY (fun _=>?_) (fun _=>?_)
    .refine⟨⟨by decide,by decide,by decide⟩,?_⟩;exact⟨10^50,rfl,rfl,.inr rfl⟩
    .exact⟨1,rfl,rfl,.inl rfl⟩
   .refine Jdv ?_;exact⟨1,rfl,rfl,.inl rfl⟩
  rintro σ' H' ⟨sc,rfl,rfl,hsc⟩;refine fun _ ny=>⟨(by show(0:Int)<40;decide),?_⟩;refine ny fun _ ny=>⟨(by show(0:Int)<30;decide),⟨by decide,by decide,by decide⟩,(by show(0:Int)<10^(9:Int).toNat;decide),zs2,fun l1 hl1=>?_⟩;refine⟨(by show(0:Int)<11;decide),rfl,.inr ⟨_,rfl,l1,_,_,_,rfl,rfl,SqL.of Ja,at2 _,?_⟩⟩;have m7:=BX f (show(7:Int)≠0 by decide);have m7':=Bq f (show(0:Int)<7 by decide);refine ny fun _ ny=>⟨(by show(0:Int)<7;decide),.inl (.inl ⟨by omega,by omega⟩),(by show(0:Int)<11;decide),(by show(0:Int)<13;decide),zs3,fun l2 hl2=>?_⟩;have s2:=JQ (o:=HO.lst [V.int (f%7*sc),V.int (s%11),V.int ((f+s)%13)]) (Je (o:=HO.lst [V.int (s%30),V.int (s%10^(9:Int).toNat)]) hl1) ((Je hl1).free hl2)
  have m7s:0<=f%7*sc/\f%7*sc<10^52:=by
   rcases hsc with rfl|rfl
   .omega
   .constructor
    .exact GG m7 (by decide)
    .omega
  have m11:=BX s (show(11:Int)≠0 by decide);have m11':=Bq s (show(0:Int)<11 by decide);have m13:=BX (f+s) (show(13:Int)≠0 by decide);have m13':=Bq (f+s) (show(0:Int)<13 by decide)
  refine ny ⟨fun σ' H'=>∃(l:Addr)(e0 e1 e2:Int),σ'=[some (.int f),some (.int s),some m,some (.int sc),some (.int (1+f%40)),some (.int (1+f%40+1+if decide (V.int (f%11)=V.int 6)=true then s%10^(9:Int).toNat else s%30)),some (.ref l),none,none]/\JV H H'/\
   H' l=some (.lst [.int e0,.int e1,.int e2])/\(0<=e0/\e0<10^52/\(m≠.non->e0<=100))/\(0<=e1/\e1<10^52/\(m≠.non->e1<=100))/\(0<=e2/\e2<10^52/\(m≠.non->e2<=100)),?_,?_⟩
  .refine⟨_,rfl,?_⟩;refine JY (fun _=>?_) (fun hm=>?_)
   .have m20:=BX s (show(20:Int)≠0 by decide);have m20':=Bq s (show(0:Int)<20 by decide);have m50:=BX f (show(50:Int)≠0 by decide);have m50':=Bq f (show(0:Int)<50 by decide)
    obtain⟨e2,he2,e20,e21⟩:∃e:Int,atI ([.int 0,.int 100,.int 35]:List V) (s%3)=some (.int e)/\0<=e/\e<=100:=by
     have m3:s%3=0\/s%3=1\/s%3=2:=by omega
     rcases m3 with h|h|h<;>rw[h]<;>exact⟨_,rfl,by decide,by decide⟩
    refine⟨(by show(0:Int)<20;decide),(by show(0:Int)<50;decide),zs3,fun l3 hl3=>?_⟩;refine⟨(by show(0:Int)<3;decide),l3,_,_,_,rfl,rfl,SqL.of Ja,he2,zs3,fun l4 hl4=>?_⟩;refine⟨l4,_,_,_,rfl,?_,Ja,⟨m20,by omega,fun _=>by omega⟩,⟨by omega,by omega,fun _=>by omega⟩,e20,by omega,fun _=>e21⟩;exact(s2.trans (Je hl3)).trans (Je hl4)
   .have hm:m=.non:=by
     by_cases e:m=.non
     .exact e
     .exact absurd (by rw[decide_eq_false e];rfl) hm
    exact⟨l2,_,_,_,rfl,s2,Ja,⟨m7s.1,m7s.2,fun z=>absurd hm z⟩,⟨m11,by omega,fun z=>absurd hm z⟩,m13,by omega,fun z=>absurd hm z⟩
  clear s2 m7s m11 m11' m13 m13' m7 m7' hl2 hl1;rintro σ' H3 ⟨l,e0,e1,e2,rfl,s3,hl,b0,b1,b2⟩;refine fun _ nq=>?_;have m40:=BX f (show(40:Int)≠0 by decide);have m40':=Bq f (show(0:Int)<40 by decide)
  obtain⟨hi,ehi,hi1,hi2⟩:∃hi:Int,(1+f%40+1+if decide (V.int (f%11)=V.int 6)=true then s%10^(9:Int).toNat else s%30)=hi/\1+f%40<hi/\hi<10^10:=by
   refine⟨_,rfl,?_,?_⟩
   .split
    .have:0<=s%10^(9:Int).toNat:=BX s (by decide);omega
    .omega
   .split
    .have:s%10^(9:Int).toNat<10^(9:Int).toNat:=Bq s (by decide)
     have e:(10:Int)^(9:Int).toNat=1000000000:=by decide
     omega
    .omega
  rw[ehi];obtain⟨lo,elo,lo1,lo2⟩:∃lo:Int,1+f%40=lo/\0<lo/\lo<100:=⟨_,rfl,by omega,by omega⟩;rw[elo]at hi1 ⊢;refine⟨l,_,0,.int e0,rfl,rfl,SqL.of hl,Jl (j:=0) rfl,zs2,fun t1 ht1=>?_⟩;have h31:=Je (o:=HO.tup [V.int lo,V.int e0]) ht1;refine⟨l,_,1,.int e1,rfl,rfl,SqL.of (h31 _ _ hl),Jl (j:=1) rfl,zs2,fun t2 ht2=>?_⟩;have h32:=Je (o:=HO.tup [V.int hi,V.int e1]) ht2;refine⟨l,_,2,.int e2,rfl,rfl,SqL.of (h32 _ _ (h31 _ _ hl)),Jl (j:=2) rfl,zs2,fun t3 ht3=>?_⟩;have h33:=Je (o:=HO.tup [V.non,V.int e2]) ht3;refine⟨zs3,fun t0 ht0=>?_⟩;have h34:=Je (o:=HO.tup [V.ref t1,V.ref t2,V.ref t3]) ht0;have q1:=h34 _ _ (h33 _ _ (h32 _ _ (Ja (H:=H3) (a:=t1) (o:=HO.tup [V.int lo,V.int e0]))));have q2:=h34 _ _ (h33 _ _ (Ja (H:=upd H3 t1 (HO.tup [V.int lo,V.int e0])) (a:=t2) (o:=HO.tup [V.int hi,V.int e1])));have q3:=h34 _ _ (Ja (H:=upd (upd H3 t1 (HO.tup [V.int lo,V.int e0])) t2 (HO.tup [V.int hi,V.int e1])) (a:=t3) (o:=HO.tup [V.non,V.int e2]));have s4:=(((s3.trans h31).trans h32).trans h33).trans h34;have hl':=h34 _ _ (h33 _ _ (h32 _ _ (h31 _ _ hl)));have q0:_=some (HO.tup [V.ref t1,V.ref t2,V.ref t3]):=Ja (H:=upd (upd (upd H3 t1 (HO.tup [V.int lo,V.int e0])) t2 (HO.tup [V.int hi,V.int e1])) t3 (HO.tup [V.non,V.int e2])) (a:=t0);clear h31 h32 h33 h34;generalize upd (upd (upd (upd H3 t1 (HO.tup [V.int lo,V.int e0])) t2 (HO.tup [V.int hi,V.int e1])) t3 (HO.tup [V.non,V.int e2])) t0 (HO.tup [V.ref t1,V.ref t2,V.ref t3])=H4 at q0 q1 q2 q3 s4 hl' ⊢;refine nq fun _ nq=>⟨(by show(0:Int)<13;decide),rfl,_,rfl,?_⟩;refine JY (fun _=>fun _ nv=>?_) (fun _=>nq ?_)
  .-- thirteen bands
   refine⟨12,rfl,by decide,by decide,fun acc hacc=>?_⟩
   refine JgN (fun i ys σ' H'=>∃(v0:Option V)(ps:List Addr),σ'=[v0,some (.int lo),some (.int f),some (.int s)]/\JV H4 H'/\H' acc=some (.lst ys)/\ys=ps.map V.ref/\ps.length=i/\
    ∀(j:Nat)(p:Addr),ps[j]?=some p->H' p=some (.tup [.int (lo+3*(j:Int)),.int ((f+(j:Int)*s)%30)]))
    ⟨none,[],rfl,Je hacc,Ja,rfl,rfl,fun j p e=>by simp at e⟩ ?_ ?_
   .rintro i ys σ' H' hi ⟨v0,ps,rfl,s5,ha,rfl,hlp,hp⟩;have hi:i<12:=hi;refine⟨Jz (by rw[A2];omega),?_⟩;dsimp only[Jcz,JfX];rw[if_pos rfl];refine⟨.inl (.inl ⟨by decide,by decide⟩),.inl (.inl ⟨by omega,by omega⟩),(by show(0:Int)<30;decide),zs2,fun p hpn=>?_⟩;have hpa:acc≠p:=Jh ha hpn;refine⟨by rw[Jg hpa];exact ha,_,ps++[p],rfl,JQ (s5.trans (Je hpn)) hacc,Ja,by rw[AJ];rfl,by rw[AQ,hlp];rfl,fun j q e=>?_⟩
    by_cases hj:j<ps.length
    .rw[AU hj]at e;have hq:=hp j q e;rw[Jg (Y1 hq ha (by intro z;cases z)),Jg (Jh hq hpn)];exact hq
    .have hj':j=ps.length:=by
      have:=(A7.mp e).1;rw[AQ,BG]at this;omega
     subst hj';rw[BJ (A6 _),FN]at e;cases e;rw[Jg hpa.symm,Ja,hlp];show some (HO.tup [V.int (lo+3*(0+(i:Int))),V.int ((f+(0+(i:Int))*s)%30)])=_;rw[Cg]
   .rintro ys σ' H5 ⟨v0,ps,rfl,s5,ha,rfl,hlp,hp⟩;have hlp:ps.length=12:=hlp;refine nv ⟨l,_,1,.int e1,rfl,rfl,SqL.of (s5 _ _ hl'),Jl (j:=1) rfl,zs2,fun t5 ht5=>?_⟩;refine⟨zs1,fun l6 hl6=>?_⟩;have u5:=Je (o:=HO.tup [V.non,V.int e1]) ht5;have u6:=Je (o:=HO.lst [V.ref t5]) hl6;refine⟨acc,l6,_,_,rfl,rfl,u6 _ _ (u5 _ _ ha),Ja,Cf (Jz (by rw[A2,hlp,BG];omega)),fun l7 hl7=>?_⟩;have u7:=Je (o:=HO.lst (ps.map V.ref++[V.ref t5])) hl7;refine⟨l7,_,rfl,.inl ⟨SqL.of Ja,fun a ha'=>?_⟩⟩;have u8:=Je (o:=HO.tup (ps.map V.ref++[V.ref t5])) ha';refine k a ((AT 12).map (fun j:Nat=>(some (lo+3*(j:Int)),(f+(j:Int)*s)%30))++[(none,e1)]) _ (((((s4.trans s5).trans u5).trans u6).trans u7).trans u8) ?_ ?_
    .refine⟨ps++[t5],by rw[Ja,AJ];rfl,by rw[AQ,AQ,hlp];rfl,fun j p b e1 e2=>?_⟩
     by_cases hj:j<ps.length
     .rw[AU hj]at e1;rw[AU (by rw[A2,Cu,<- hlp];exact hj),Ax,List.getElem?_range (by rw[<- hlp];exact hj)]at e2;cases e2;exact u8 _ _ (u7 _ _ (u6 _ _ (u5 _ _ (hp j p e1))))
     .have hj':j=ps.length:=by
       have:=(A7.mp e1).1;rw[AQ,BG]at this;omega
      subst hj';rw[BJ (A6 _),FN]at e1;cases e1;rw[hlp]at e2;cases e2;exact u8 _ _ (u7 _ _ (u6 _ _ Ja))
    .refine(Wf.app 12 0 lo (fun j:Nat=>(f+(j:Int)*s)%30) e1 lo1).good (by rw[AQ,A2,Cu,BG];omega) (fun b hb=>?_) fun b hb=>?_
     .rcases Ae.mp hb with hb|hb
      .obtain⟨j,_,rfl⟩:=Ag.mp hb;have z1:=BX (f+(j:Int)*s) (show(30:Int)≠0 by decide);have z2:=Bq (f+(j:Int)*s) (show(0:Int)<30 by decide);exact⟨z1,by show(f+(j:Int)*s)%30<_;omega,fun _=>by show(f+(j:Int)*s)%30<=_;omega⟩
      .rw[A5.mp hb];exact b1
     .rcases Ae.mp hb with hb|hb
      .obtain⟨j,hj,rfl⟩:=Ag.mp hb;have:=De.mp hj;exact upS (by omega)
      .rw[A5.mp hb];exact upN
  .refine⟨t0,_,rfl,SqT.of q0,fun h=>absurd (show HT.sIx 3 0 (some 1)=0 from h.1) (by decide),fun p1 hp1=>?_⟩;have u1:=Je (o:=HO.tup (Je9 [V.ref t1,V.ref t2,V.ref t3] (some 1) none)) hp1;refine⟨t0,_,rfl,SqT.of (u1 _ _ q0),fun h=>absurd (show HT.sIx 3 0 (some 2)=0 from h.1) (by decide),fun p2 hp2=>?_⟩;have u2:=Je (o:=HO.tup (Je9 [V.ref t1,V.ref t2,V.ref t3] (some 2) none)) hp2;refine⟨zs4,fun l5 hl5=>?_⟩;have u3:=Je (o:=HO.lst [V.ref t0,V.ref p1,V.ref p2,V.ref t0]) hl5
   obtain⟨v,hv,hvc⟩:∃v:Addr,atI [V.ref t0,V.ref p1,V.ref p2,V.ref t0] ((f+s)%4)=some (V.ref v)/\(v=t0\/v=p1\/v=p2):=by
    have m4:(f+s)%4=0\/(f+s)%4=1\/(f+s)%4=2\/(f+s)%4=3:=by omega
    rcases m4 with h|h|h|h<;>rw[h]
    .exact⟨t0,rfl,.inl rfl⟩
    .exact⟨p1,rfl,.inr (.inl rfl)⟩
    .exact⟨p2,rfl,.inr (.inr rfl)⟩
    .exact⟨t0,rfl,.inl rfl⟩
   refine⟨(by show(0:Int)<4;decide),l5,_,_,.ref v,rfl,rfl,SqL.of Ja,hv,?_⟩;have s5:=((s4.trans u1).trans u2).trans u3;have u:=(u1.trans u2).trans u3
   rcases hvc with rfl|rfl|rfl
   .exact k v [(some lo,e0),(some hi,e1),(none,e2)] _ s5 (JeE (ps:=[t1,t2,t3]) (u _ _ q0) (.cons (u _ _ q1) (.cons (u _ _ q2) (.cons (u _ _ q3) .nil))))
     (Wf.good ⟨lo1,hi1,rfl⟩ (by show 3<=13;decide) (Jt5 b0 b1 b2) (Jt5 (upS (by omega)) (upS hi2) upN))
   .exact k v [(some hi,e1),(none,e2)] _ s5 (JeE (ps:=[t2,t3]) (u3 _ _ (u2 _ _ Ja)) (.cons (u _ _ q2) (.cons (u _ _ q3) .nil)))
     (Wf.good ⟨by omega,rfl⟩ (by show 2<=13;decide) (JtX b1 b2) (JtX (upS hi2) upN))
   .exact k v [(none,e2)] _ s5 (JeE (ps:=[t3]) (u3 _ _ Ja) (.cons (u _ _ q3) .nil))
     (Wf.good rfl (by show 1<=13;decide) (JtD b2) (JtD upN))
theorem Jd7{H:Hp}{bs:List Bd}{v:V}(h:Rep H (Jb4 bs) v)(b:Jbd bs):Jh7 H v:=let ⟨a,e,z⟩:=JpC h;⟨a,bs,e,z,b⟩
theorem JhT{H H':Hp}{xs ys:List V}(s:JV H H')(h:∀v∈xs,Jh7 H v)(g:∀v∈ys,Jh7 H' v):∀v∈xs++ys,Jh7 H' v:=fun v hv=>(Ae.mp hv).elim (fun z=>(h v z).same s) (g v)
theorem JpO{H:Hp}{p:Addr}{u1 u2 u3:V}{a1 b1 a2 b2 b3:Int}(h1:Rep H (.tup [.int a1,.int b1]) u1)(h2:Rep H (.tup [.int a2,.int b2]) u2)(h3:Rep H (.tup [.non,.int b3]) u3)(h:H p=some (.tup [u1,u2,u3])):JG H p [(some a1,b1),(some a2,b2),(none,b3)]:=
 Jy.mpr ⟨p,_,rfl,h,_,_,rfl,h1,_,_,rfl,h2,_,_,rfl,h3,rfl⟩
inductive JkW(vs:List V)(H:Hp)(Q:VK):Prop
 | mk (a:Addr) (bs:List Bd) (seed:Int) (h1:vs=[.ref a,.int seed]) (h2:JG H a bs) (h3:Jbd bs) (h4:bs≠[]) (h5:bs.length<=13) (h6:∀v H',JV H H'->Jh7 H' v->Q v H'):JkW vs H Q
def Jlk:Sp:=fun vs H Q _=>JkW vs H Q
theorem JnK{f:Addr}{fd:Aa}(F:Fun K "_law_spoilt" "_law_spoilt" Jc8 f fd):YU P w K mg base CX0 1 f fd ["_law_bands", "_law_seed"] Jlk:=by
 refine F.ok JbF (fun vs H Q E h=>?_) (fun cdv A outer s0 H vs Q E hr h=>?_)
 .obtain⟨_,_,_,rfl,_⟩:=h;rfl
 .obtain⟨a,bs,seed,rfl,hb,bb,hne,h13,k⟩:=h;obtain⟨xs,ha,rx⟩:=Jme hb
  have hxl:xs.length=bs.length:=by rw[rx.length,A2]
  have hxn:xs≠[]:=fun z=>hne (CQ (by rw[<- hxl,z];rfl));have hpos:0<xs.length:=Ei.mpr hxn
  have notw:¬(HT.sIx xs.length 0 none=0/\HT.sIx xs.length xs.length (some (-1))=xs.length):=fun z=>by
   have:=z.2;simp only[HT.sIx]at this;rw[if_pos (by decide)]at this;omega
  have rt:∀H',JV H H'->Yv H' ((bs.take (xs.length-1)).map fun b=>.tup [oD b.1,.int b.2]) (xs.take (xs.length-1)):=fun H' s=>by
   rw[DC];exact JdZ _ (rx.same s)
  have m0:0<=seed%10^60/\seed%10^60<10^60:=⟨BX _ (by decide),Bq _ (by decide)⟩;refine⟨_,(@Jd _ _ _ _ _ (@JfJ _ _ 2 _ _ _ _ (by exact JbF.nd) (by rfl) (by exact Ds rfl) (@J3 _ _ _ _ (@Jb _ _ _ _ _ (@Ym _ _ _ _ _ JW (by decide)) (@Jb _ _ _ _ _ (J8 Jdk (pw 0) YL (J2 (JcU (op:=.USub) Jaj Jc))) (@Jb _ _ _ _ _ (@Jj _ _ _ _ _ _ _ _ Jd9 (@Ym _ _ _ _ _ (@Jt _ _ _ _ _ (@Ym _ _ _ _ _ (@Jt _ _ _ _ _ Jds (@Jt _ _ _ _ _ YM JW (by rfl)) (by rfl)) (by decide)) JW (by rfl)) (by decide)) (pw 0)) (@Jb _ _ _ _ _ (@Ym _ _ _ _ _ (@Jt _ _ _ _ _ (@Ym _ _ _ _ _ (@Jt _ _ _ _ _ YM (@Jt _ _ _ _ _ YM JW (by rfl)) (by rfl)) (by decide)) (@Jt _ _ _ _ _ (@Ym _ _ _ _ _ (@Jt _ _ _ _ _ YM (@Jt _ _ _ _ _ YM JW (by rfl)) (by rfl)) (by decide)) (@Jt _ _ _ _ _ (@Ym _ _ _ _ _ (@Jt _ _ _ _ _ Jds (@Jt _ _ _ _ _ YM JW (by rfl)) (by rfl)) (by decide)) JW (by rfl)) (by rfl)) (by rfl)) (by decide)) JR (by rfl)) (by rfl)) (by rfl)) (by rfl))) (by rfl) (by first|exact .inl rfl|exact .inr rfl|assumption)) (@Jd _ _ _ _ _ (@JfJ _ _ 2 _ _ _ _ (by exact JbF.nd) (by rfl) (by exact Ds rfl) (@Jj _ _ _ _ _ _ _ _ JgX (pw 2) (@J3 _ _ _ _ (@Jb _ _ _ _ _ (@Ym _ _ _ _ _ (@Jt _ _ _ _ _ (@Ym _ _ _ _ _ (@Jt _ _ _ _ _ YM (@Jt _ _ _ _ _ YM JW (by rfl)) (by rfl)) (by decide)) (@Jt _ _ _ _ _ (@Ym _ _ _ _ _ (@Jt _ _ _ _ _ Jds (@Jt _ _ _ _ _ YM JW (by rfl)) (by rfl)) (by decide)) JW (by rfl)) (by rfl)) (by decide)) (@Jb _ _ _ _ _ (@Ym _ _ _ _ _ (@Jt _ _ _ _ _ (@Ym _ _ _ _ _ (@Jt _ _ _ _ _ YM (@Jt _ _ _ _ _ JpX JW (by rfl)) (by rfl)) (by decide)) (@Jt _ _ _ _ _ (@Ym _ _ _ _ _ (@Jt _ _ _ _ _ Jds (@Jt _ _ _ _ _ YM JW (by rfl)) (by rfl)) (by decide)) JW (by rfl)) (by rfl)) (by decide)) (@Jb _ _ _ _ _ (@Jj _ _ _ _ _ _ _ _ Jd9 (J8 Jdk (pw 0) YL (J2 (JcU (op:=.USub) Jaj Jc))) (@Ym _ _ _ _ _ (@Jt _ _ _ _ _ (@Ym _ _ _ _ _ (@Jt _ _ _ _ _ Jds (@Jt _ _ _ _ _ JpX JW (by rfl)) (by rfl)) (by decide)) JW (by rfl)) (by decide))) JR (by rfl)) (by rfl)) (by rfl)))) (by rfl) (by first|exact .inl rfl|exact .inr rfl|assumption)) (@Jd _ _ _ _ _ (@JfJ _ _ 2 _ _ _ _ (by exact JbF.nd) (by rfl) (by exact Ds rfl) (@Jj _ _ _ _ _ _ _ _ JgX (pw 2) (@J3 _ _ _ _ (@Jb _ _ _ _ _ (@Ym _ _ _ _ _ (@Jt _ _ _ _ _ (@Ym _ _ _ _ _ (@Jt _ _ _ _ _ YM (@Jt _ _ _ _ _ YM JW (by rfl)) (by rfl)) (by decide)) (@Jt _ _ _ _ _ (@Ym _ _ _ _ _ (@Jt _ _ _ _ _ YM (@Jt _ _ _ _ _ YM JW (by rfl)) (by rfl)) (by decide)) (@Jt _ _ _ _ _ (@Ym _ _ _ _ _ (@Jt _ _ _ _ _ Jds (@Jt _ _ _ _ _ YM JW (by rfl)) (by rfl)) (by decide)) JW (by rfl)) (by rfl)) (by rfl)) (by decide)) (@Jb _ _ _ _ _ (@JZ _ _ _ _ _ (@Jb _ _ _ _ _ (@Ym _ _ _ _ _ (@Jt _ _ _ _ _ YM (@Jt _ _ _ _ _ YM JW (by rfl)) (by rfl)) (by decide)) (@Jb _ _ _ _ _ (@JZ _ _ _ _ _ (@Jb _ _ _ _ _ Jc (@Jb _ _ _ _ _ (@Jj _ _ _ _ _ _ _ _ JF Jc (@Jj _ _ _ _ _ _ _ _ Jw (pw 1) (@Jj _ _ _ _ _ _ _ _ JaR Jc Jc))) JR (by rfl)) (by rfl))) (@Jb _ _ _ _ _ (@Ym _ _ _ _ _ (@Jt _ _ _ _ _ Jds (@Jt _ _ _ _ _ YM JW (by rfl)) (by rfl)) (by decide)) JR (by rfl)) (by rfl)) (by rfl))) JR (by rfl)) (by rfl)))) (by rfl) (by first|exact .inl rfl|exact .inr rfl|assumption)) (@Jd _ _ _ _ _ (@JfJ _ _ 2 _ _ _ _ (by exact JbF.nd) (by rfl) (by exact Ds rfl) (@Jj _ _ _ _ _ _ _ _ JgX (pw 2) (@J3 _ _ _ _ (@Jb _ _ _ _ _ (@JZ _ _ _ _ _ (@Jb _ _ _ _ _ (@Ym _ _ _ _ _ (@Jt _ _ _ _ _ YM (@Jt _ _ _ _ _ YM JW (by rfl)) (by rfl)) (by decide)) (@Jb _ _ _ _ _ (@JZ _ _ _ _ _ (@Jb _ _ _ _ _ Jc (@Jb _ _ _ _ _ (@Jj _ _ _ _ _ _ _ _ J6 (JcU (op:=.USub) Jaj Jc) (@Jj _ _ _ _ _ _ _ _ Jw (pw 1) (@Jj _ _ _ _ _ _ _ _ JaR Jc Jc))) JR (by rfl)) (by rfl))) (@Jb _ _ _ _ _ (@Ym _ _ _ _ _ (@Jt _ _ _ _ _ Jds (@Jt _ _ _ _ _ YM JW (by rfl)) (by rfl)) (by decide)) JR (by rfl)) (by rfl)) (by rfl))) JR (by rfl)))) (by rfl) (by first|exact .inl rfl|exact .inr rfl|assumption)) (@Jf _ _ _ (@Jp _ _ _ _ (JsU JI (pw 2) (@Jj _ _ _ _ _ _ _ _ Jw (pw 1) Jc) (fun _ _=>rfl)))))))),fun _ nz=>?_⟩;intro v1 H1 s1 r1 _;refine⟨a,_,rfl,SqT.of (s1 _ _ ha),notw,fun c hc=>?_⟩;rw[Jiv hxn];have sc:=Je (o:=HO.tup (xs.take (xs.length-1))) hc;have hc2:upd H1 c (HO.tup (xs.take (xs.length-1))) c=some (.tup (xs.take (xs.length-1))):=Ja;generalize upd H1 c (HO.tup (xs.take (xs.length-1)))=H2 at sc hc2 ⊢;have s2:=s1.trans sc;intro v3 H3 s3' r3 _;have s3:=s2.trans s3';obtain⟨t3,ys3,e3,h3,q3⟩:=r3;subst e3;refine⟨t3,a,ys3,xs,rfl,rfl,h3,s3 _ _ ha,Jcg (by rw[q3.length,hxl];show 1+bs.length<=1000;omega),fun t4 H4 s4' h4=>?_⟩;have s4:=s3.trans s4';have b4:JG H4 t4 ([(none,1)]++bs):=Ji7 (bs:=[(none,1)]) (q3.same s4') (rx.same s4) h4;intro v5 H5 s5' r5 _;have s5:=s4.trans s5';refine⟨zs4,fun l1 hl1=>?_⟩;have s6':=Je (o:=HO.lst [v1,V.ref c,V.ref t4,v5]) hl1;have hl6:upd H5 l1 (HO.lst [v1,V.ref c,V.ref t4,v5]) l1=some (.lst [v1,V.ref c,V.ref t4,v5]):=Ja
  have all6:∀v∈[v1,V.ref c,V.ref t4,v5],Jh7 (upd H5 l1 (HO.lst [v1,V.ref c,V.ref t4,v5])) v:=by
   intro v hv;simp only[Aq,AG,or_false]at hv
   rcases hv with rfl|rfl|rfl|rfl
   .exact(Jd7 (bs:=[]) (r1.same (((sc.trans s3').trans s4').trans s5')) ⟨by decide,by decide⟩).same s6'
   .exact⟨c,_,rfl,Jy.mpr ⟨c,_,rfl,s6' _ _ (s5' _ _ (s4' _ _ (s3' _ _ hc2))),rt _ (s5.trans s6')⟩,bb.take _⟩
   .exact⟨t4,_,rfl,(b4.same s5').same s6',⟨by show bs.length+1<=14;omega,fun b hb=>(Ae.mp hb).elim (fun z=>by rw[A5.mp z];decide) (bb.each b)⟩⟩
   .exact(Jd7 (bs:=[(some 5,1),(some 5,2),(none,1)]) r5 ⟨by decide,by decide⟩).same s6'
  generalize upd H5 l1 (HO.lst [v1,V.ref c,V.ref t4,v5])=H6 at s6' hl6 all6 ⊢;generalize hvs1:[v1,V.ref c,V.ref t4,v5]=vs1 at hl6 all6 ⊢
  have hn1:vs1.length=4:=by rw[<- hvs1];rfl
  have s6:=s5.trans s6';clear s1 r1 hc sc hc2 s2 s3' s3 h3 q3 s4' h4 s4 b4 s5' r5 s5 hl1 s6' hvs1;refine nz fun _ nz=>?_;intro v7 H7 s7' r7 _;intro v8 H8 s8' r8 _;have s8:=(s6.trans s7').trans s8';refine⟨a,_,rfl,SqT.of (s8 _ _ ha),notw,fun c9 hc9=>?_⟩;rw[Jiv hxn];have s9':=Je (o:=HO.tup (xs.take (xs.length-1))) hc9;have hc9b:upd H8 c9 (HO.tup (xs.take (xs.length-1))) c9=some (.tup (xs.take (xs.length-1))):=Ja;generalize upd H8 c9 (HO.tup (xs.take (xs.length-1)))=H9 at s9' hc9b ⊢;have s9:=s8.trans s9';intro v10 H10 s10' r10 _;have s10:=s9.trans s10';obtain⟨t10,ys10,e10,h10,q10⟩:=r10;subst e10;refine⟨c9,t10,_,ys10,rfl,rfl,s10' _ _ hc9b,h10,Jcg (by rw[q10.length,Ao];show _+1<=1000;omega),fun t11 H11 s11' h11=>?_⟩;have s11:=s10.trans s11';have b11:JG H11 t11 (bs.take (xs.length-1)++[(none,-1)]):=Ji7 (cs:=[(none,-1)]) (rt _ s11) (q10.same s11') h11;refine⟨zs3,fun l2 hl2=>?_⟩;have s12':=Je (o:=HO.lst [v7,v8,V.ref t11]) hl2;have hl12:upd H11 l2 (HO.lst [v7,v8,V.ref t11]) l2=some (.lst [v7,v8,V.ref t11]):=Ja
  have all12:∀v∈[v7,v8,V.ref t11],Jh7 (upd H11 l2 (HO.lst [v7,v8,V.ref t11])) v:=by
   intro v hv;simp only[Aq,AG,or_false]at hv;have z:=(s9'.trans s10').trans s11'
   rcases hv with rfl|rfl|rfl
   .exact((Jd7 (bs:=[(some 0,1),(none,1)]) r7 ⟨by decide,by decide⟩).same (s8'.trans z)).same s12'
   .exact((Jd7 (bs:=[(some 5,-1),(none,1)]) r8 ⟨by decide,by decide⟩).same z).same s12'
   .refine⟨t11,_,rfl,b11.same s12',⟨by rw[AQ,Ao];show _+1<=14;omega,fun b hb=>(Ae.mp hb).elim (fun z=>bb.each b (EY z)) fun z=>by rw[A5.mp z];decide⟩⟩
  generalize upd H11 l2 (HO.lst [v7,v8,V.ref t11])=H12 at s12' hl12 all12 ⊢;generalize hvs2:[v7,v8,V.ref t11]=vs2 at hl12 all12 ⊢
  have hn2:vs2.length=3:=by rw[<- hvs2];rfl
  have s6x:JV H6 H12:=(((((s7'.trans s8').trans s9').trans s10').trans s11').trans s12');have s12:=s11.trans s12';refine⟨l1,l2,vs1,vs2,rfl,rfl,s6x _ _ hl6,hl12,Jcg (by omega),fun l3 hl3=>?_⟩;have s13':=Je (o:=HO.lst (vs1++vs2)) hl3;have hl13:upd H12 l3 (HO.lst (vs1++vs2)) l3=some (.lst (vs1++vs2)):=Ja;generalize upd H12 l3 (HO.lst (vs1++vs2))=H13 at s13' hl13 ⊢;have all13:∀v∈vs1++vs2,Jh7 H13 v:=JhT (s6x.trans s13') all6 fun v hv=>(all12 v hv).same s13';have s13:=s12.trans s13';clear s6x s12 s13' hl3 all12 hl12 hvs2 s12' hl2 b11 s11 h11 s11' q10 h10 s10 s10' s9 hc9b s9' hc9 s8 r8 s8' r7 s7' s6 all6 hl6;refine nz fun _ nz=>?_;intro v14 H14 s14' r14 _;intro v15 H15 s15' r15 _;refine⟨⟨by decide,by decide,by decide⟩,(by show(0:Int)<10^(60:Int).toNat;decide),zs2,fun t16 ht16=>?_⟩;have s16':=Je (o:=HO.tup [V.int 9,V.int (101+seed%10^(60:Int).toNat)]) ht16;have h16:upd H15 t16 (HO.tup [V.int 9,V.int (101+seed%10^(60:Int).toNat)]) t16=some (.tup [V.int 9,V.int (101+seed%10^60)]):=Ja;generalize upd H15 t16 (HO.tup [V.int 9,V.int (101+seed%10^(60:Int).toNat)])=H16 at s16' h16 ⊢;intro v17 H17 s17' r17 _;refine⟨zs3,fun t18 ht18=>?_⟩;have s18':=Je (o:=HO.tup [v15,V.ref t16,v17]) ht18;have h18:upd H17 t18 (HO.tup [v15,V.ref t16,v17]) t18=some (.tup [v15,V.ref t16,v17]):=Ja;generalize upd H17 t18 (HO.tup [v15,V.ref t16,v17])=H18 at s18' h18 ⊢;have b18:JG H18 t18 [(some 5,1),(some 9,101+seed%10^60),(none,2)]:=JpO (((r15.same s16').same s17').same s18') ⟨t16,_,rfl,s18' _ _ (s17' _ _ h16),_,_,rfl,rfl,_,_,rfl,rfl,rfl⟩ (r17.same s18') h18;refine⟨zs2,fun l4 hl4=>?_⟩;have s19':=Je (o:=HO.lst [v14,V.ref t18]) hl4;have hl19:upd H18 l4 (HO.lst [v14,V.ref t18]) l4=some (.lst [v14,V.ref t18]):=Ja;generalize upd H18 l4 (HO.lst [v14,V.ref t18])=H19 at s19' hl19 ⊢
  have all19:∀v∈[v14,V.ref t18],Jh7 H19 v:=by
   intro v hv;simp only[Aq,AG,or_false]at hv
   rcases hv with rfl|rfl
   .exact(Jd7 (bs:=[(some 9,1),(some 5,2),(none,1)]) r14 ⟨by decide,by decide⟩).same ((((s15'.trans s16').trans s17').trans s18').trans s19')
   .refine⟨t18,_,rfl,b18.same s19',⟨by show 3<=14;decide,fun b hb=>?_⟩⟩;simp only[Aq,AG,or_false]at hb
    rcases hb with rfl|rfl|rfl
    .decide
    .show(101+seed%10^60).natAbs<10^62;omega
    .decide
  have s13x:JV H13 H19:=((((s14'.trans s15').trans s16').trans s17').trans s18').trans s19';refine⟨l3,l4,_,_,rfl,rfl,s13x _ _ hl13,hl19,Jcg (by rw[AQ];show _+_+2<=1000;omega),fun l5 hl5=>?_⟩;have s20':=Je (o:=HO.lst (vs1++vs2++[v14,V.ref t18])) hl5;have hl20:upd H19 l5 (HO.lst (vs1++vs2++[v14,V.ref t18])) l5=some (.lst (vs1++vs2++[v14,V.ref t18])):=Ja;generalize upd H19 l5 (HO.lst (vs1++vs2++[v14,V.ref t18]))=H20 at s20' hl20 ⊢;have all20:∀v∈vs1++vs2++[v14,V.ref t18],Jh7 H20 v:=JhT (s13x.trans s20') all13 fun v hv=>(all19 v hv).same s20';have s20:=s13.trans (s13x.trans s20');clear s13x s19' hl4 hl19 all19 b18 s18' ht18 h18 r17 s17' h16 s16' ht16 r15 s15' r14 s14' all13 hl13 s13;refine nz fun _ nz=>?_;intro v21 H21 s21' r21 _;refine⟨⟨by decide,by decide,by decide⟩,(by show(0:Int)<10^(60:Int).toNat;decide),zs2,fun t22 ht22=>?_⟩;have s22':=Je (o:=HO.tup [V.int 9,V.int (-1-seed%10^(60:Int).toNat)]) ht22;have h22:upd H21 t22 (HO.tup [V.int 9,V.int (-1-seed%10^(60:Int).toNat)]) t22=some (.tup [V.int 9,V.int (-1-seed%10^60)]):=Ja;generalize upd H21 t22 (HO.tup [V.int 9,V.int (-1-seed%10^(60:Int).toNat)])=H22 at s22' h22 ⊢;intro v23 H23 s23' r23 _;refine⟨zs3,fun t24 ht24=>?_⟩;have s24':=Je (o:=HO.tup [v21,V.ref t22,v23]) ht24;have h24:upd H23 t24 (HO.tup [v21,V.ref t22,v23]) t24=some (.tup [v21,V.ref t22,v23]):=Ja;generalize upd H23 t24 (HO.tup [v21,V.ref t22,v23])=H24 at s24' h24 ⊢;have b24:JG H24 t24 [(some 5,1),(some 9,-1-seed%10^60),(none,2)]:=JpO (((r21.same s22').same s23').same s24') ⟨t22,_,rfl,s24' _ _ (s23' _ _ h22),_,_,rfl,rfl,_,_,rfl,rfl,rfl⟩ (r23.same s24') h24;refine⟨zs1,fun l6 hl6=>?_⟩;have s25':=Je (o:=HO.lst [V.ref t24]) hl6;have hl25:upd H24 l6 (HO.lst [V.ref t24]) l6=some (.lst [V.ref t24]):=Ja;generalize upd H24 l6 (HO.lst [V.ref t24])=H25 at s25' hl25 ⊢;have s20x:JV H20 H25:=((s21'.trans s22').trans s23').trans (s24'.trans s25');refine⟨l5,l6,_,_,rfl,rfl,s20x _ _ hl20,hl25,Jcg (by rw[AQ,AQ];show _+_+2+1<=1000;omega),fun l7 hl7=>?_⟩;have s26':=Je (o:=HO.lst (vs1++vs2++[v14,V.ref t18]++[V.ref t24])) hl7;have hl26:upd H25 l7 (HO.lst (vs1++vs2++[v14,V.ref t18]++[V.ref t24])) l7=some (.lst (vs1++vs2++[v14,V.ref t18]++[V.ref t24])):=Ja;generalize upd H25 l7 (HO.lst (vs1++vs2++[v14,V.ref t18]++[V.ref t24]))=H26 at s26' hl26 ⊢
  have all26:∀v∈vs1++vs2++[v14,V.ref t18]++[V.ref t24],Jh7 H26 v:=JhT (s20x.trans s26') all20 fun v hv=>by
   rw[A5.mp hv];refine⟨t24,_,rfl,(b24.same s25').same s26',⟨by show 3<=14;decide,fun b hb=>?_⟩⟩;simp only[Aq,AG,or_false]at hb
   rcases hb with rfl|rfl|rfl
   .decide
   .show(-1-seed%10^60).natAbs<10^62;omega
   .decide
  have s26:=s20.trans (s20x.trans s26')
  have hl10:(vs1++vs2++[v14,V.ref t18]++[V.ref t24]).length=10:=by simp[hn1,hn2]
  generalize vs1++vs2++[v14,V.ref t18]++[V.ref t24]=vz at hl26 all26 hl10
  have hm:0<=seed%10/\seed%10<10:=by omega
  have hj:(seed%10).toNat<vz.length:=by omega
  refine nz ⟨(by show(0:Int)<10;decide),l7,_,_,vz[(seed%10).toNat],rfl,rfl,SqL.of hl26,?_,k _ H26 s26 (all26 _ (B8 hj))⟩;have e:=Jl (A1 hj);rw[show(((seed%10).toNat:Nat):Int)=seed%10 by omega]at e;exact e
inductive Jqa(vs:List V)(H:Hp)(Q:VK):Prop
 | mk (a:Addr) (xs:List V) (m b:Int) (h1:vs=[.ref a,.int m,.int b]) (h2:SqL K H a xs) (h3:xs.length<=63) (h4:Q (.int m) H):Jqa vs H Q
def JpT:Sp:=fun vs H Q _=>Jqa (K:=K) vs H Q
theorem Jq5{f:Addr}{fd:Aa}(F:Fun K "_law_room" "_law_room" Jfr f fd)(Z:Zs mg):YU P w K mg base CX0 1 f fd ["_law_script", "_law_most", "_law_bound"] (JpT (K:=K)):=by
 refine F.ok Jof (fun vs H Q E h=>?_) (fun cdv A outer s0 H vs Q E hr h=>?_)
 .obtain⟨_,_,_,_,rfl,_⟩:=h;rfl
 .obtain⟨a,xs,m,b,rfl,ha,hl,k⟩:=h
  refine⟨_,(Jd (JL (Jq JeZ (Jn JM (by rfl) Z.z_len JaY (pa1 (pw 0))) Jc (Jv _)) (Jf (Jp (pw 2))) Jr)
   (Jf (Jp (pw 1)))),fun _ nz=>?_⟩
  refine⟨a,xs,rfl,.inl ha,_,rfl,?_⟩;refine JY (fun h=>?_) (fun _=>nz k);have:=of_decide_eq_true h;omega
theorem Js6(ns:List Int):Je9 (ns.map V.int) none (some 1)=(ns.take 1).map V.int:=by
 unfold Je9;rw[HT.JkC,show(some (1:Int))=some ((1:Nat):Int) from rfl,HT.Jfv];simp
inductive Jn5(vs:List V)(H:Hp)(Q:VK):Prop
 | mk (a:Addr) (ns:List Int) (h1:vs=[.ref a]) (h2:SqL K H a (ns.map V.int)) (h3:∀H',JV H H'->Q (.int (Yh ns)) H'):Jn5 vs H Q
def JhJ:Sp:=fun vs H Q _=>Jn5 (K:=K) vs H Q
theorem JoC{f:Addr}{fd:Aa}(F:Fun K "_law_so_far" "_law_so_far" Jda f fd)(Z:Zs mg):YU P w K mg base CX0 1 f fd ["_law_cells"] (JhJ (K:=K)):=by
 refine F.ok Jkg (fun vs H Q E h=>?_) (fun cdv A outer s0 H vs Q E hr h=>?_)
 .obtain⟨_,_,rfl,_⟩:=h;rfl
 .obtain⟨a,ns,rfl,ha,k⟩:=h;refine⟨_,(Jf (Jp (Jo JI (J3 (Jb Jc (Jb Jc (pa1 Jc)))) (Jj Jw (Jj Y3 (Jn (Jca rfl) (by rfl) Z.z_sum JeS (pa1 (J8 JbA (pw 0) YL (J2 Jc)))) Jc) Jc)))),?_⟩;refine⟨zs3,fun l hl=>?_⟩;have s1:=Je (o:=HO.lst [V.int 1,V.int 1,V.int 7]) hl;refine⟨a,_,rfl,s1.seq ha,fun p hp=>?_⟩;rw[Js6];have s2:=Je (o:=HO.lst ((ns.take 1).map V.int)) hp;refine⟨p,ns.take 1,rfl,SqL.of Ja,⟨by decide,by decide⟩,(by show(0:Int)<3;decide),l,_,_,.int (Yh ns),rfl,rfl,SqL.of (s2 _ _ Ja),?_,k _ (s1.trans s2)⟩;unfold Yh Jbv;generalize(ns.take 1).sum/105=z
  have m3:z%3=0\/z%3=1\/z%3=2:=by omega
  rcases m3 with h|h|h<;>rw[h]<;>rfl
inductive JnF(vs:List V)(H:Hp)(Q:VK):Prop
 | mk (a:Addr) (ns:List Int) (h1:vs=[.ref a]) (h2:SqL K H a (ns.map V.int)) (h3:∀H',JV H H'->Q (.int (JD ns)) H'):JnF vs H Q
def JhE:Sp:=fun vs H Q _=>JnF (K:=K) vs H Q
theorem Jpu{f:Addr}{fd:Aa}(F:Fun K "_law_first_month" "_law_first_month" JaF f fd)(Z:Zs mg):YU P w K mg base CX0 1 f fd ["_law_cells"] (JhE (K:=K)):=by
 refine F.ok Jcu (fun vs H Q E h=>?_) (fun cdv A outer s0 H vs Q E hr h=>?_)
 .obtain⟨_,_,rfl,_⟩:=h;rfl
 .obtain⟨a,ns,rfl,ha,k⟩:=h
  refine⟨_,(Jd (Jk 1 Jcu.nd (Jn (Jca rfl) (by rfl) Z.z_sum JeS (pa1 (J8 JbA (pw 0) YL (J2 Jc)))))
   (Jf (Jp (Jo JI (J3 (Jb Jc (Jb Jc (Jb Jc (Jb (JcU (op:=.USub) Jaj (Jj JaR Jc Jc)) (pa1 (Jj Jw (pw 1) (Jj JaR Jc Jc)))))))) (Jj Jw (Jj Y3 (pw 1) Jc) Jc))))),fun _ nz=>?_⟩
  refine⟨a,_,rfl,ha,fun p hp=>?_⟩;rw[Js6];have s1:=Je (o:=HO.lst ((ns.take 1).map V.int)) hp;refine⟨p,ns.take 1,rfl,SqL.of Ja,?_⟩;refine nz ⟨⟨by decide,by decide,by decide⟩,⟨by decide,by decide,by decide⟩,(by show(0:Int)<10^(40:Int).toNat;decide),(by show 5<=AK;decide),fun l hl=>?_⟩;have s2:=Je (o:=HO.lst [V.int 0,V.int 0,V.int 1000,V.int (-10^(9:Int).toNat),V.int ((ns.take 1).sum%10^(40:Int).toNat)]) hl;refine⟨⟨by decide,by decide⟩,(by show(0:Int)<5;decide),l,_,_,.int (JD ns),rfl,rfl,SqL.of Ja,?_,k _ (s1.trans s2)⟩;unfold JD Jbv;generalize(ns.take 1).sum/21=z
  have m5:z%5=0\/z%5=1\/z%5=2\/z%5=3\/z%5=4:=by omega
  rcases m5 with h|h|h|h|h<;>rw[h]<;>rfl
theorem Jj2{n:Int}(h0:0<=n)(h1:n<=40):MulOk "x" n:=by
 refine⟨?_,fun _ _=>?_,fun _ _=>?_⟩
 .rw[decide_eq_false (by omega),decide_eq_false (by omega)];rfl
 .show¬((1:Int)>(2^63-1)/n);intro h
  have hn:0<n:=by
   rcases Int.lt_or_eq_of_le h0 with c|c
   .exact c
   .rw[<- c]at h;simp at h;omega
  have:(40:Int)*n<=2^63-1:=by omega
  have:=(FT hn).mpr this;omega
 .show Am.Str.tooLong (1*n.toNat)=false;unfold Am.Str.tooLong;exact decide_eq_false (by rw[Bu];omega)
theorem JtQ{n:Int}(h0:0<=n):((BN "x" n).length:Int)=n:=by
 rw[len_mul,if_neg (by simpa using h0)];show(1:Int)*n=n;omega
inductive Jk5(vs:List V)(H:Hp)(Q:VK):Prop
 | mk (a:Addr) (ns:List Int) (h1:vs=[.ref a]) (h2:SqL K H a (ns.map V.int)) (h3:∀l H',JV H H'->H l=none->H' l=some (.lst ((JJ ns).map V.str))->Q (.ref l) H'):Jk5 vs H Q
def Jfj:Sp:=fun vs H Q _=>Jk5 (K:=K) vs H Q
theorem Jmq{f:Addr}{fd:Aa}(F:Fun K "_law_people" "_law_people" Jc5 f fd)(Z:Zs mg):YU P w K mg base CX0 1 f fd ["_law_cells"] (Jfj (K:=K)):=by
 refine F.ok JdD (fun vs H Q E h=>?_) (fun cdv A outer s0 H vs Q E hr h=>?_)
 .obtain⟨_,_,rfl,_⟩:=h;rfl
 .obtain⟨a,ns,rfl,ha,k⟩:=h
  refine⟨_,(Jd (Jk 1 JdD.nd (Jj Jw (Jj Y3 (Jn (Jca rfl) (by rfl) Z.z_sum JeS (pa1 (J8 JbA (pw 0) YL (J2 Jc)))) Jc) Jc))
   (Jd (Jk 2 JdD.nd (J3 (Jb (J3 (Jb Jx (Jb Jx (pa1 Jx)))) (pa1 (J3 (Jb Jx (Jb Jx (pa1 Jx))))))))
   (Jd (JaL (Jho B6 BW BQ Jaq (pw 2) (pa1 (J3 (Jb Jx (Jb (Jj Jet Jx Jc) (pa1 (Jj JgG (Jj JgG (Jj Jet Jx (pw 1)) Jx) (Jj Jet Jx (Jj J6 Jc (pw 1)))))))))))
   (Jf (Jp (Jo JI (pw 2) (Jj Jw (Jj Y3 (Jn (Jca rfl) (by rfl) Z.z_sum JeS (pa1 (J8 JbA (pw 0) YL (J2 Jc)))) Jc) Jc))))))),fun _ nz=>?_⟩
  refine⟨a,_,rfl,ha,fun p hp=>?_⟩;rw[Js6];have s1:=Je (o:=HO.lst ((ns.take 1).map V.int)) hp;refine⟨p,ns.take 1,rfl,SqL.of Ja,⟨by decide,by decide⟩,(by show(0:Int)<40;decide),?_⟩;have p0:0<=(ns.take 1).sum/21%40:=BX _ (by decide);have p1:(ns.take 1).sum/21%40<40:=Bq _ (by decide);refine nz fun _ nz=>⟨zs3,fun l1 hl1=>?_⟩;have s2:=Je (o:=HO.lst [V.str "ann",V.str "",V.str "bo"]) hl1;refine⟨zs3,fun l2 hl2=>?_⟩;have s3:=Je (o:=HO.lst [V.str "ann",V.str "ann lee",V.str "Ann ~"]) hl2;refine⟨zs2,fun lm hlm=>?_⟩;have s4:=Je (o:=HO.lst [V.ref l1,V.ref l2]) hlm;have e1:=s4 _ _ (s3 _ _ (Ja (H:=upd H p (HO.lst ((ns.take 1).map V.int))) (a:=l1) (o:=HO.lst [V.str "ann",V.str "",V.str "bo"])));have e2:=s4 _ _ (Ja (H:=upd (upd H p (HO.lst ((ns.take 1).map V.int))) l1 (HO.lst [V.str "ann",V.str "",V.str "bo"])) (a:=l2) (o:=HO.lst [V.str "ann",V.str "ann lee",V.str "Ann ~"]));have em:_=some (HO.lst [V.ref l1,V.ref l2]):=Ja (H:=upd (upd (upd H p (HO.lst ((ns.take 1).map V.int))) l1 (HO.lst [V.str "ann",V.str "",V.str "bo"])) l2 (HO.lst [V.str "ann",V.str "ann lee",V.str "Ann ~"])) (a:=lm);have n1:=s1.free hl1;have n2:=(s1.trans s2).free hl2;have nm:=((s1.trans s2).trans s3).free hlm;have s5:=((s1.trans s2).trans s3).trans s4;clear s1 s2 s3 s4 hl1 hl2 hlm hp;generalize upd (upd (upd (upd H p (HO.lst ((ns.take 1).map V.int))) l1 (HO.lst [V.str "ann",V.str "",V.str "bo"])) l2 (HO.lst [V.str "ann",V.str "ann lee",V.str "Ann ~"])) lm (HO.lst [V.ref l1,V.ref l2])=H1 at e1 e2 em s5 ⊢
  have lx:∀n:Int,0<=n->n<=40->(BN "x" n).length<=40:=fun n h0 h1=>by
   have:=JtQ h0;omega
  have lsz:(41:Nat)+40<=AK:=by rw[Bu];omega
  refine nz fun _ nz=>⟨.inl ⟨rfl,_,SqL.of em⟩,_,_,rfl,rfl,Jj2 (by decide) (by decide),?_⟩;refine⟨_,_,rfl,rfl,Jj2 p0 (by omega),_,_,rfl,rfl,?_,_,_,rfl,rfl,Jj2 (by omega) (by omega),_,_,rfl,rfl,?_,zs3,fun l3 hl3=>?_⟩
  .have:=lx _ p0 (by omega);show(BN "x" ((ns.take 1).sum/21%40)).length+1<=AK;omega
  .have:=lx _ p0 (by omega);have:=lx (39-(ns.take 1).sum/21%40) (by omega) (by omega);rw[Str.length_append];show(BN "x" ((ns.take 1).sum/21%40)).length+1+(BN "x" (39-(ns.take 1).sum/21%40)).length<=AK;omega
  have s6:=Je (o:=HO.lst [V.str "ann",V.str (BN "x" 40),V.str (BN "x" ((ns.take 1).sum/21%40)++"y"++BN "x" (39-(ns.take 1).sum/21%40))]) hl3;have n3:=s5.free hl3;refine⟨lm,_,_,rfl,rfl,s6 _ _ em,(by show 2<AK;decide),?_⟩;have s7:=JQ (o:=HO.lst ([V.ref l1,V.ref l2]++[V.ref l3])) (s5.trans s6) nm;have ne1:l1≠lm:=Y1 e1 em (by intro z;cases z);have ne2:l2≠lm:=Y1 e2 em (by intro z;cases z);have ne3:l3≠lm:=(Jh em hl3).symm;refine nz ⟨a,_,rfl,s7.seq ha,fun p2 hp2=>?_⟩;rw[Js6];have s8:=Je (o:=HO.lst ((ns.take 1).map V.int)) hp2;have hm:=s8 _ _ (Ja (H:=upd H1 l3 (HO.lst [V.str "ann",V.str (BN "x" 40),V.str (BN "x" ((ns.take 1).sum/21%40)++"y"++BN "x" (39-(ns.take 1).sum/21%40))])) (a:=lm) (o:=HO.lst ([V.ref l1,V.ref l2]++[V.ref l3])));have q1:=s8 _ _ ((Jg (o:=HO.lst ([V.ref l1,V.ref l2]++[V.ref l3])) ne1).trans (s6 _ _ e1));have q2:=s8 _ _ ((Jg (o:=HO.lst ([V.ref l1,V.ref l2]++[V.ref l3])) ne2).trans (s6 _ _ e2));have q3:=s8 _ _ ((Jg (o:=HO.lst ([V.ref l1,V.ref l2]++[V.ref l3])) ne3).trans Ja);refine⟨p2,ns.take 1,rfl,SqL.of Ja,⟨by decide,by decide⟩,(by show(0:Int)<3;decide),?_⟩
  have m3:(ns.take 1).sum/7%3=0\/(ns.take 1).sum/7%3=1\/(ns.take 1).sum/7%3=2:=by omega
  have s9:=s7.trans s8
  rcases m3 with h|h|h
  .refine⟨lm,_,_,.ref l1,rfl,rfl,SqL.of hm,by rw[h];rfl,k l1 _ s9 n1 ?_⟩;unfold JJ Jbv;rw[if_pos h];exact q1
  .refine⟨lm,_,_,.ref l2,rfl,rfl,SqL.of hm,by rw[h];rfl,k l2 _ s9 n2 ?_⟩;unfold JJ Jbv;rw[if_neg (by omega),if_pos h];exact q2
  .refine⟨lm,_,_,.ref l3,rfl,rfl,SqL.of hm,by rw[h];rfl,k l3 _ s9 n3 ?_⟩;unfold JJ Jbv;rw[if_neg (by omega),if_neg (by omega)];exact q3
inductive Jok(vs:List V)(H:Hp)(Q:VK):Prop
 | mk (n:Int) (a:Addr) (bs:List Bd) (h1:vs=[.int n,.ref a]) (h2:Jtk H n a bs) (h3:Q (.int (lv n 0 bs)) H):Jok vs H Q
def Jj8:Sp:=fun vs H Q _=>Jok vs H Q
theorem Jpj{f:Addr}{fd:Aa}(F:Fun K "_law_value" "_law_value" JdO f fd)(Z:Zs mg):YU P w K mg base CX0 1 f fd ["_law_amount", "_law_bands"] Jj8:=by
 refine F.ok Jab (fun vs H Q E h=>?_) (fun cdv A outer s0 H vs Q E hr h=>?_)
 .obtain⟨n,a,bs,rfl,_⟩:=h;rfl
 .obtain⟨n,a,bs,rfl,c,k⟩:=h
  refine⟨_,(Jd (Jk 2 Jab.nd Jc)
   (Jd (Jk 3 Jab.nd Jc)
   (Jd (Jan AD rfl (JfS (pw 1)) (Je1 rfl (Yx (pgn 4 Jab.nd) (Yx (pgn 5 Jab.nd) JcW))) (Jd (Jk 6 Jab.nd (Jn (JbC rfl) (by rfl) Z.z_max JeX (Jb Jc (pa1 (Jj J6 (pw 0) (pw 3))))))
   (Jay (JL (Jai (JbQ (pw 4))) (Jd (Jk 6 Jab.nd (Jn (Jd1 rfl) (by rfl) Z.z_min Jlj (Jb (pw 6) (pa1 (Jj J6 (pw 4) (pw 3))))))
   (Jf (Jk 3 Jab.nd (pw 4)))) Jr)
   (Jf (Jk 2 Jab.nd (Jj JF (pw 2) (Jj Ye (pw 6) (pw 5))))))))
   (Jf (Jp (pw 2)))))),fun _ nz=>nz fun _ nz=>nz fun _ nz=>?_⟩
  obtain⟨ps,ha,hpl,hp⟩:=c.at_;have hc1:=c.n1;have hc0:=c.n0;refine⟨a,rfl,⟨_,SqT.of ha⟩,?_⟩
  refine JfI (K:=K) (xs:=ps.map V.ref) (fun i σ H2=>∃(tot low:Int)(v4 v5 v6:Option V),σ=[some (.int n),some (.ref a),some (.int tot),some (.int low),v4,v5,v6]/\H=H2/\0<=low/\(i=bs.length\/Wf low (bs.drop i))/\tot+lv n low (bs.drop i)=lv n 0 bs)
   ⟨0,0,none,none,none,rfl,rfl,CZ 0,.inr c.wf,by rw[Cg];rfl⟩ (fun _ _ _ _ ⟨_,_,_,_,_,_,e,_⟩ =>by rw[<- e];exact SqT.of ha) ?_ ?_
  .rintro i y σ H2 hi ⟨tot,low,v4,v5,v6,rfl,rfl,hlow,hwf,htot⟩;rw[Ax]at hi;obtain⟨p,hpp,rfl⟩:=Ak.mp hi;have hil:i<bs.length:=hpl ▸ (A7.mp hpp).1;obtain⟨b,hb⟩:∃b,bs[i]?=some b:=⟨bs[i],A1 hil⟩;have hpt:=hp i p b hpp hb;obtain⟨e0,e1⟩:=c.each b (Au hb)
   have hw:Wf low (bs.drop i):=by
    rcases hwf with h|h
    .omega
    .exact h
   rw[JcV hb]at hw htot;obtain⟨bu,be⟩:=b;have e0:0<=be:=e0;have e1:be<10^62:=e1;refine⟨p,_,rfl,SqT.of hpt,rfl,_,_,rfl,_,_,rfl,rfl,fun _ ny=>?_⟩;refine⟨0,_,rfl,?_⟩
   have hm:0<=mx 0 (n-low)/\mx 0 (n-low)<=n:=by unfold mx;split<;>omega
   refine ny ⟨fun σ' H'=>∃(pt low':Int),σ'=[some (.int n),some (.ref a),some (.int tot),some (.int low'),some (oV bu),some (.int be),some (.int pt)]/\H=H'/\0<=low'/\(i+1=bs.length\/Wf low' (bs.drop (i+1)))/\0<=pt/\pt<=n/\tot+(pt*be+lv n low' (bs.drop (i+1)))=lv n 0 bs,?_,?_⟩
   .refine⟨_,rfl,?_⟩
    cases bu with
    | none=>
     refine JY (fun h=>absurd h (show¬(!decide (V.non=V.non))=true by decide)) (fun _=>?_);refine⟨mx 0 (n-low),low,rfl,rfl,hlow,.inl ?_,hm.1,hm.2,htot⟩;have hr:bs.drop (i+1)=[]:=hw;have:=congrArg Bn hr;rw[Ci,CY]at this;omega
    | some u=>
     have hu:low<u:=hw.1;refine JY (fun _=>fun _ nq=>?_) (fun h=>absurd (Jkm u) h);refine⟨mx 0 (n-low),u-low,rfl,nq ?_⟩;refine⟨mn (mx 0 (n-low)) (u-low),u,rfl,rfl,by omega,.inr hw.2,?_,?_,htot⟩
     .unfold mn;split<;>omega
     .unfold mn;split<;>omega
   .rintro σ' H' ⟨pt,low',rfl,rfl,hlow',hwf',q0,q1,htot'⟩;refine⟨.inr ⟨Jg5 q0 (by omega),Jg5 e0 (by omega)⟩,?_⟩;exact⟨tot+pt*be,low',_,_,_,rfl,rfl,hlow',hwf',by omega⟩
  .rintro σ H2 ⟨tot,low,v4,v5,v6,rfl,rfl,hlow,hwf,htot⟩;rw[A2,hpl,Fo]at htot
   have e:tot=lv n 0 bs:=by simpa[lv]using htot
   refine nz ?_;rw[e];exact k
inductive Jqh(vs:List V)(H:Hp)(Q:VK):Prop
 | mk (pay:Int) (t:Addr) (bs:List Bd) (top per:Int) (h1:vs=[.int pay,.ref t]) (h2:Jt6 H t pay bs top per) (h3:Q (.int (due pay bs top per)) H):Jqh vs H Q
def Jqi:Sp:=fun vs H Q _=>Jqh vs H Q
theorem JqC{f f1:Addr}{fd fd1:Aa}(F:Fun K "_law_owed" "_law_owed" Jfi f fd)(Z:Zs mg)(Jb2:JK P w K mg base "_law_value" ["_law_amount", "_law_bands"] Jj8 1 f1 fd1):YU P w K mg base CX0 2 f fd ["_law_pay", "_law_table"] Jqi:=by
 refine F.ok Jjh (fun vs H Q E h=>?_) (fun cdv A outer s0 H vs Q E hr h=>?_)
 .obtain⟨a,b,c,d,e,rfl,_⟩:=h;rfl
 .obtain⟨pay,t,bs,top,per,rfl,⟨⟨a,ht,c⟩,p0,p1⟩,k⟩:=h
  refine⟨_,(Jd (Jk 2 Jjh.nd (Jn (JbC rfl) (by rfl) Z.z_max JeX (Jb Jc (pa1 (Jj J6 (Jo JE (pw 1) Jc) (Jj Y3 (pw 0) (Jo JE (pw 1) Jc)))))))
   (Jf (Jp (Jn (JbC rfl) (by rfl) Z.z_max JeX (Jb Jc (pa1 (Jj J6 (Jj Y3 (Js Jb2 hr (Jb (pw 0) (pa1 (Jo JE (pw 1) Jc)))) Jc) (pw 2)))))))),fun _ nz=>?_⟩
  refine⟨t,_,1,.int top,rfl,rfl,SqT.of ht,Jl (j:=1) rfl,t,_,2,.int per,rfl,rfl,SqT.of ht,Jl (j:=2) rfl,⟨p0,Jg5 (by omega) (by omega)⟩,0,_,rfl,?_⟩;exact nz ⟨t,_,0,.ref a,rfl,rfl,SqT.of ht,Jl (j:=0) rfl,pay,a,bs,rfl,c,⟨by decide,by decide⟩,0,_,rfl,k⟩
inductive Jmv(vs:List V)(H:Hp)(Q:VK):Prop
 | mk (d:Addr) (w:Int) (kvs:List (Key×V)) (ks:List Int) (h1:vs=[.ref d,.int w]) (h2:H d=some (.dK kvs)) (h3:kvs.map (·.1)=ks.map Aj) (h4:∀H',JV H H'->(Yc w none ks=none->Q .non H')/\∀k v,Yc w none ks=some k->Jak kvs (Aj k)=some v->Q v H'):Jmv vs H Q
def Jkb:Sp:=fun vs H Q _=>Jmv vs H Q
theorem JrQ{kvs:List (Key×V)}{ks:List Int}(hk:kvs.map (·.1)=ks.map Aj){n:Int}(h:n∈ks):∃v,Jak kvs (Aj n:Key)=some v:=by
 have m:(Aj n:Key)∈kvs.map (·.1):=by rw[hk];exact Ag.mpr ⟨n,h,rfl⟩
 obtain⟨p,hp,e⟩:=Ag.mp m;have q:(kvs.any fun kv=>decide (kv.1=(Aj n:Key)))=true:=B9.mpr ⟨p,hp,decide_eq_true e⟩;rw[Jbm]at q;exact BH.mp q
theorem Jha{w:Int}:∀{ks:List Int}{b:Option Int}{k:Int},Yc w b ks=some k->b=some k\/k∈ks
 | [],b,k,h=>by
  cases b<;>exact .inl h
 | p::r,none,k,h=>by
  have h:Yc w (if p<=w then some p else none) r=some k:=h
  rcases Jha h with e|e
  .split at e
   .exact .inr (by rw[Ai e];exact Az)
   .cases e
  .exact .inr (AY _ e)
 | p::r,some c,k,h=>by
  have h:Yc w (if p<=w/\c<p then some p else some c) r=some k:=h
  rcases Jha h with e|e
  .split at e
   .exact .inr (by rw[Ai e];exact Az)
   .exact .inl e
  .exact .inr (AY _ e)
theorem Jo9{f:Addr}{fd:Aa}(F:Fun K "_law_holds" "_law_holds" Jec f fd)(Z:Zs mg):YU P w K mg base CX0 1 f fd ["_law_tables", "_law_when"] Jkb:=by
 refine F.ok Jdb (fun vs H Q E h=>?_) (fun cdv A outer s0 H vs Q E hr h=>?_)
 .obtain⟨_,_,_,_,rfl,_⟩:=h;rfl
 .obtain⟨d,w,kvs,ks,rfl,hd,hk,q⟩:=h;have hu:=JbH hr
  refine⟨_,(Jd (Jk 2 Jdb.nd JcK)
   (Jd (Jan AD rfl (Ja0 (YN (JlH rfl) (by rfl) Z.z_list JaN (pa1 (pw 0)))) (pgn 3 Jdb.nd) (Jf (JL (PW.pt (JcN (Jq JfL (pw 3) (pw 1) (Jv _)) (JbB (PW.pt (JbO (Jai (Jcw (pw 2))) (JaW (Jq JeZ (pw 3) (pw 2) (Jv _)))))))) (Jf (Jk 2 Jdb.nd (pw 3))) Jr)))
   (Jd (JL (Jai (Jcw (pw 2))) (Jf (Jp JcK)) Jr)
   (Jf (Jp (YH hu (pw 0) (pw 2))))))),fun _ nz=>nz fun _ nz=>?_⟩
  refine⟨d,kvs,rfl,.inl hd,fun l hl=>?_⟩;have s1:=Je (o:=HO.lst (kvs.map fun p=>kV p.1)) hl
  have hm:(kvs.map fun p=>kV p.1)=ks.map V.int:=by
   rw[show(kvs.map fun p=>kV p.1)=(kvs.map (·.1)).map kV by rw[B2];rfl,hk,B2];rfl
  have hl1:upd H l (HO.lst (kvs.map fun p=>kV p.1)) l=some (.lst (ks.map V.int)):=by rw[Ja,hm]
  have hd1:=s1 _ _ hd;generalize upd H l (HO.lst (kvs.map fun p=>kV p.1))=H1 at s1 hl1 hd1 ⊢;refine⟨l,rfl,⟨_,SqL.of hl1⟩,?_⟩
  refine JbM (K:=K) (xs:=ks.map V.int) (fun i σ H2=>∃(b:Option Int)(v3:Option V),σ=[some (.ref d),some (.int w),some (oV b),v3]/\H1=H2/\Yc w b (ks.drop i)=Yc w none ks)
   ⟨none,none,rfl,rfl,rfl⟩ (fun _ _ _ _ ⟨_,_,_,e,_⟩ =>by rw[<- e];exact SqL.of hl1) ?_ ?_
  .rintro i y σ H2 hi ⟨b,v3,rfl,rfl,hb⟩;rw[Ax]at hi;obtain⟨n,hn,rfl⟩:=Ak.mp hi;rw[JcV hn]at hb;refine⟨_,rfl,?_⟩;refine JY (fun h1=>?_) (fun h1=>?_)
   .have h1:=of_decide_eq_true h1;refine⟨_,rfl,?_⟩
    cases b with
    | none=>
     refine JY (fun _=>?_) (fun h=>absurd (decide_eq_true rfl) h);refine Jfa ?_;refine⟨some n,_,rfl,rfl,?_⟩;have hb:Yc w (if n<=w then some n else none) (ks.drop (i+1))=Yc w none ks:=hb;rw[if_pos h1]at hb;exact hb
    | some c=>
     have hb:Yc w (if n<=w/\c<n then some n else some c) (ks.drop (i+1))=Yc w none ks:=hb;refine JY (fun h=>absurd (of_decide_eq_true h) (fun z=>nomatch z)) (fun _=>?_);refine⟨_,rfl,?_⟩;refine JY (fun h2=>?_) (fun h2=>?_)
     .have h2:=of_decide_eq_true h2;rw[if_pos ⟨h1,h2⟩]at hb;exact⟨some n,_,rfl,rfl,hb⟩
     .rw[if_neg (fun z=>h2 (decide_eq_true z.2))]at hb;exact⟨some c,_,rfl,rfl,hb⟩
   .refine Jdv ?_;refine⟨b,_,rfl,rfl,?_⟩;have h1:¬n<=w:=fun z=>h1 (decide_eq_true z)
    cases b with
    | none=>
     have hb:Yc w (if n<=w then some n else none) (ks.drop (i+1))=Yc w none ks:=hb;rw[if_neg h1]at hb;exact hb
    | some c=>
     have hb:Yc w (if n<=w/\c<n then some n else some c) (ks.drop (i+1))=Yc w none ks:=hb;rw[if_neg (fun z=>h1 z.1)]at hb;exact hb
  .rintro σ H2 ⟨b,v3,rfl,rfl,hb⟩;rw[A2,Fo]at hb;obtain⟨q1,q2⟩:=q H1 s1;refine nz fun _ nz=>⟨_,rfl,?_⟩
   cases b with
   | none=>
    refine JY (fun _=>?_) (fun h=>absurd (decide_eq_true rfl) h);exact q1 hb.symm
   | some c=>
    refine JY (fun h=>absurd (of_decide_eq_true h) (fun z=>nomatch z)) (fun _=>nz ?_);have hb:Yc w none ks=some c:=hb.symm
    have hc:c∈ks:=by
     rcases Jha hb with e|e
     .cases e
     .exact e
    obtain⟨v,hv⟩:=JrQ hk hc;exact⟨d,v,rfl,by rw[<- hv];exact JcC.k (k:=Aj c) hd1,q2 c v hb hv⟩
inductive Joa(vs:List V)(H:Hp)(Q:VK):Prop
 | mk (st:Addr) (A:LSt) (b:Int) (ms:List Int) (B:Bk) (who:Str) (week:Int) (h1:vs=[.ref st,.str who,.int week]) (h2:Jo5 H st A b ms) (h3:JpN H A ms B) (h4:JrN B) (h5:∀H',JV H H'->Q (.int (wages B who week)) H'):Joa vs H Q
def JjC:Sp:=fun vs H Q _=>Joa vs H Q
theorem Jj3{bs:List Bd}{m:Option Int}(h:JaX m bs=true)(g:Jbd bs):∀b∈bs,0<=b.2/\b.2<10^62:=fun b hb=>by
 have h0:=(Jck h).2 b hb;have h1:=g.each b hb;constructor
 .exact h0
 .omega
theorem Jo7{f f1 f2:Addr}{fd fd1 fd2:Aa}(F:Fun K "_law_wages" "_law_wages" JdN f fd)(Z:Zs mg)(Jcc:JK P w K mg base "_law_holds" ["_law_tables", "_law_when"] Jkb 1 f1 fd1)
  (Jb2:JK P w K mg base "_law_value" ["_law_amount", "_law_bands"] Jj8 1 f2 fd2):YU P w K mg base CX0 2 f fd ["_law_state", "_law_who", "_law_week"] JjC:=by
 refine F.ok Jb8 (fun vs H Q E h=>?_) (fun cdv A outer s0 H vs Q E hr h=>?_)
 .obtain⟨_,_,_,_,_,_,_,rfl,_⟩:=h;rfl
 .obtain⟨st,L,b,ms,B,who,week,rfl,hst,hbk,hok,k⟩:=h;have hu:=JbH hr
  refine⟨_,(Jd (Jk 3 Jb8.nd Jc)
   (Jd (Jan AD rfl (Jic rfl Z.z_range (Jb (Jj Ye Jc (pw 2)) (pa1 (Jj JF (Jj Ye Jc (pw 2)) Jc)))) (pgn 4 Jb8.nd) (Jf (Jk 3 Jb8.nd (Jj JF (pw 3) (Jc3 hu (YH hu (pw 0) Jx) (JZ (Jb (pw 1) (pa1 (pw 4)))) Jc (by constructor<;>rfl))))))
   (Jd (Jk 5 Jb8.nd (Js Jcc hr (Jb (YH hu (pw 0) Jx) (pa1 (pw 2)))))
   (Jd (JL (Jai (Jcw (pw 5))) (Jf (Jp Jc)) Jr)
   (Jf (Jp (Js Jb2 hr (Jb (pw 3) (pa1 (pw 5)))))))))),fun _ nz=>nz fun _ nz=>?_⟩
  refine⟨.inl (.inl ⟨by decide,by decide⟩),.inl (.inl ⟨by decide,by decide⟩),7*week,7*week+7,rfl,?_⟩;rw[show(7*week+7-7*week).toNat=7 by omega]
  refine JbV (n:=7) (fun i σ H2=>∃v4:Option V,σ=[some (.ref st),some (.str who),some (.int week),some (.int (((AT i).map fun j:Nat=>B.hrs who (7*week+j)).sum)),v4,none]/\JV H H2)
   ⟨none,rfl,fun _ _ e=>e⟩ ?_ ?_
  .rintro i σ H2 hi ⟨v4,rfl,s1⟩;obtain⟨kvs,e0,eh,_⟩:=(hst.same s1).kvs;obtain⟨hvs,e1,rh⟩:=(hbk.same s1).hours;refine⟨st,.ref L.hours,rfl,by rw[<- eh];exact JcC.k (k:=Av "hours") e0,L.hours,rfl,.inr ⟨hvs,.inl e1⟩,zs2,fun t ht=>?_⟩;have s2:=Je (o:=HO.tup [V.str who,V.int (7*week+(i:Int))]) ht;refine⟨_,JcC.t (k:=[Av who,Aj (7*week+(i:Int))]) (s2 _ _ e1) Ja,?_⟩;rw[rh.1];refine⟨some (.int (7*week+(i:Int))),?_,s1.trans s2⟩;rw[Gj,AJ,Gz];simp only[Al,Dn,Cz,K5,Int.add_zero];rfl
  .rintro σ H2 ⟨v4,rfl,s1⟩;obtain⟨kvs,e0,_,er,_⟩:=(hst.same s1).kvs;obtain⟨rvs,e1,rr⟩:=(hbk.same s1).rates;refine nz fun _ nz=>⟨st,.ref L.rates,rfl,by rw[<- er];exact JcC.k (k:=Av "rates") e0,L.rates,week,rvs,B.rates.map (·.1),rfl,e1,Jbx rr,fun H3 s2=>⟨fun hn=>?_,fun kk v hk hv=>?_⟩⟩
   .refine nz fun _ nz=>⟨_,rfl,?_⟩;refine JY (fun _=>?_) (fun h=>absurd (decide_eq_true rfl) h);have:=k H3 (s1.trans s2);unfold wages at this;rw[Jea hn]at this;exact this
   .obtain⟨bs,g,⟨a,rfl,hb⟩,hm⟩:=Jef rr hv;obtain⟨c1,c2⟩:=hok.rates _ hm;refine nz fun _ nz=>⟨_,rfl,?_⟩;refine JY (fun h=>absurd (of_decide_eq_true h) (fun z=>nomatch z)) (fun _=>nz ?_);have hw:=JfW (hok.hrs who) week;have hl:bs.length<=14:=c2.len;refine⟨_,a,bs,rfl,⟨hb.same s2,(Jck c1).1,by omega,Jj3 c1 c2,hw.1,D9 hw.2 (by decide)⟩,?_⟩;have:=k H3 (s1.trans s2);unfold wages at this;rw[Jej hk g]at this;exact this
theorem JjD{B:Bk}(hok:JrN B)(who:Str)(week:Int):0<=wages B who week/\wages B who week<=10^62*168:=by
 unfold wages
 cases h:Jdm B.rates week with
 | none=>exact⟨CZ _,show(0:Int)<=10^62*168 by decide⟩
 | some bs=>
  have hm:∃kk,(kk,bs)∈B.rates:=by
   unfold Jdm at h;obtain⟨kk,_,g⟩:=Option.bind_eq_some_iff.mp h;unfold Yl at g;obtain⟨p,hp,rfl⟩:=Ak.mp g;exact⟨p.1,List.mem_of_find?_eq_some hp⟩
  obtain⟨kk,hm⟩:=hm;obtain⟨c1,c2⟩:=hok.rates _ hm;have hw:=JfW (hok.hrs who) week
  obtain⟨q1,q2⟩:=Jrm (10^62) (by decide) bs (Jht (B.hrs who) week) 0 (Jck c1).1 fun b hb=>let ⟨z1,z2⟩:=Jj3 c1 c2 b hb;⟨z1,Int.le_of_lt z2⟩
  have e:mx 0 (Jht (B.hrs who) week-0)=Jht (B.hrs who) week:=by unfold mx;split<;>omega
  rw[e]at q2;exact⟨q1,Kq q2 (CW hw.2 (by decide))⟩
inductive JsV(vs:List V)(H:Hp)(Q:VK):Prop
 | mk (st:Addr) (A:LSt) (b:Int) (ms:List Int) (B:Bk) (who:Str) (month last:Int) (h1:vs=[.ref st,.str who,.int month,.int last]) (h2:Jo5 H st A b ms) (h3:JpN H A ms B) (h4:JrN B) (h5:∀H',JV H H'->Q (.int (netS B who month last)) H'):JsV vs H Q
def Jsd:Sp:=fun vs H Q _=>JsV vs H Q
theorem Jsl{f f1 f2 f3:Addr}{fd fd1 fd2 fd3:Aa}(F:Fun K "_law_net" "_law_net" Jh0 f fd)(Z:Zs mg)(Jcc:JK P w K mg base "_law_holds" ["_law_tables", "_law_when"] Jkb 1 f1 fd1)
  (Jb7:JK P w K mg base "_law_wages" ["_law_state", "_law_who", "_law_week"] JjC 2 f2 fd2) (JhS:JK P w K mg base "_law_owed" ["_law_pay", "_law_table"] Jqi 2 f3 fd3):YU P w K mg base CX0 3 f fd ["_law_state", "_law_who", "_law_month", "_law_last"] Jsd:=by
 refine F.ok JdM (fun vs H Q E h=>?_) (fun cdv A outer s0 H vs Q E hr h=>?_)
 .obtain⟨_,_,_,_,_,_,_,_,rfl,_⟩:=h;rfl
 .obtain⟨st,L,b,ms,B,who,month,last,rfl,hst,hbk,hok,k⟩:=h;have hu:=JbH hr
  refine⟨_,(Jd (Jk 4 JdM.nd Jc)
   (Jd (Jan AD rfl (Jic rfl Z.z_range (Jb (Jj Ye Jc (pw 2)) (pa1 (Jj JF (Jj Ye Jc (pw 2)) Jc)))) (pgn 5 JdM.nd) (Jf (JL (Jq JfL (pw 5) (pw 3) (Jv _)) (Jf (Jk 4 JdM.nd (Jj JF (pw 4) (Js Jb7 hr (Jb (pw 0) (Jb (pw 1) (pa1 (pw 5)))))))) Jr)))
   (Jd (Jk 6 JdM.nd (Js Jcc hr (Jb (YH hu (pw 0) Jx) (pa1 (pw 2)))))
   (Jd (JL (Jai (Jcw (pw 6))) (Jf (Jp (pw 4))) Jr)
   (Jf (Jp (Jj J6 (pw 4) (Js JhS hr (Jb (pw 4) (pa1 (pw 6))))))))))),fun _ nz=>nz fun _ nz=>?_⟩
  refine⟨.inl (.inl ⟨by decide,by decide⟩),.inl (.inl ⟨by decide,by decide⟩),4*month,4*month+4,rfl,?_⟩;rw[show(4*month+4-4*month).toNat=4 by omega]
  refine JbV (n:=4) (fun i σ H2=>∃(pay:Int)(v5:Option V),σ=[some (.ref st),some (.str who),some (.int month),some (.int last),some (.int pay),v5,none]/\JV H H2/\
    pay=(((AT i).map fun j:Nat=>if 4*month+(j:Int)<=last then wages B who (4*month+j)else 0).sum)/\0<=pay/\pay<=10^62*168*i)
   ⟨0,none,rfl,fun _ _ e=>e,rfl,CZ _,by simp⟩ ?_ ?_
  .rintro i σ H2 hi ⟨pay,v5,rfl,s1,hp,p0,p1⟩;obtain⟨w0,w1⟩:=JjD hok who (4*month+(i:Int))
   have nx:∀z:Int,z=(if 4*month+(i:Int)<=last then wages B who (4*month+i)else 0)->pay+z=(((AT (i+1)).map fun j:Nat=>if 4*month+(j:Int)<=last then wages B who (4*month+j)else 0).sum):=fun z hz=>by
    rw[Gj,AJ,Gz,<- hp,hz];simp only[Al,Dn,Cz,K5,Int.add_zero]
   refine⟨_,rfl,?_⟩;refine JY (fun h1=>?_) (fun h1=>?_)
   .have h1:4*month+(i:Int)<=last:=of_decide_eq_true h1;refine⟨st,L,b,ms,B,who,_,rfl,hst.same s1,hbk.same s1,hok,fun H3 s2=>?_⟩;refine⟨pay+wages B who (4*month+i),_,rfl,s1.trans s2,nx _ (by rw[if_pos h1]),by omega,?_⟩;push_cast;omega
   .have h1:¬4*month+(i:Int)<=last:=fun z=>h1 (decide_eq_true z);refine⟨pay,_,rfl,s1,?_,p0,?_⟩
    .have:=nx 0 (by rw[if_neg h1]);rw[<- this];omega
    .push_cast;omega
  .rintro σ H2 ⟨pay,v5,rfl,s1,hp,p0,p1⟩;have hp:pay=monthP B who month last:=hp;obtain⟨kvs,e0,_,_,ed,_⟩:=(hst.same s1).kvs;obtain⟨dvs,e1,rr⟩:=(hbk.same s1).dues;refine nz fun _ nz=>⟨st,.ref L.dues,rfl,by rw[<- ed];exact JcC.k (k:=Av "dues") e0,L.dues,month,dvs,B.dues.map (·.1),rfl,e1,Jbx rr,fun H3 s2=>⟨fun hn=>?_,fun kk v hk hv=>?_⟩⟩
   .refine nz fun _ nz=>⟨_,rfl,?_⟩;refine JY (fun _=>?_) (fun h=>absurd (decide_eq_true rfl) h);have:=k H3 (s1.trans s2);unfold netS Jd6 at this;rw[Jea hn,<- hp]at this;exact this
   .obtain⟨t,g,⟨a,c,rfl,ht,hb⟩,hm⟩:=Jef rr hv;obtain⟨c1,c2⟩:=hok.dues _ hm;obtain⟨bs,top,per⟩:=t;have c1:(JaX (some 100) bs&&decide (0<=top)&&decide (1<=per))=true:=c1;rw[As,As]at c1;have hper:=of_decide_eq_true c1.2;have hpb:per.natAbs<10^62:=c2.per;have hl:bs.length<=14:=c2.bands.len;refine nz fun _ nz=>⟨_,rfl,?_⟩;refine JY (fun h=>absurd (of_decide_eq_true h) (fun z=>nomatch z)) (fun _=>nz ?_);refine⟨pay,a,bs,top,per,rfl,⟨⟨c,s2 _ _ ht,hb.same s2,(Jck c1.1.1).1,by omega,Jj3 c1.1.1 c2.bands,p0,by omega⟩,by omega,by omega⟩,?_⟩;have:=k H3 (s1.trans s2);unfold netS Jd6 at this;rw[Jej hk g,<- hp]at this;exact this
inductive Jij(vs:List V)(H:Hp)(Q:VK):Prop
 | mk (st:Addr) (A:LSt) (b:Int) (ms:List Int) (B:Bk) (who:Str) (last:Int) (h1:vs=[.ref st,.str who,.int last]) (h2:Jo5 H st A b ms) (h3:JpN H A ms B) (h4:JrN B) (h5:ms.length<=100) (h6:∀l H',JV H H'->H l=none->H' l=some (.lst (ms.map fun m=>V.int (netS B who m last)))->Q (.ref l) H'):Jij vs H Q
def JiD:Sp:=fun vs H Q _=>Jij vs H Q
theorem Jlo{f f1:Addr}{fd fd1:Aa}(F:Fun K "_law_all_nets" "_law_all_nets" Jaz f fd)(Z:Zs mg)(Jkf:JK P w K mg base "_law_net" ["_law_state", "_law_who", "_law_month", "_law_last"] Jsd 3 f1 fd1) :
  YU P w K mg base CX0 4 f fd ["_law_state", "_law_who", "_law_last"] JiD:=by
 refine F.ok JhY (fun vs H Q E h=>?_) (fun cdv A outer s0 H vs Q E hr h=>?_)
 .obtain⟨_,_,_,_,_,_,_,rfl,_⟩:=h;rfl
 .obtain⟨st,L,b,ms,B,who,last,rfl,hst,hbk,hok,hms,k⟩:=h;have hu:=JbH hr;refine⟨_,(Jf (Jp (JcQ ["_law_month", "_law_state", "_law_who", "_law_last"] [none,some 0,some 1,some 2] rfl JcP (Ja0 (YH hu (pw 0) Jx)) (fun _ _ _ _=>(pgn 0 JcP.nd)) (fun _ _ _ _=>Jdp) (fun _ _ _ _=>(Js Jkf hr (Jb (pw 1) (Jb (pw 2) (Jb (pw 0) (pa1 (pw 3)))))))))),?_⟩;obtain⟨kvs,e0,_,_,_,_,_,_,_,em⟩:=hst.kvs;refine⟨st,.ref L.months,rfl,by rw[<- em];exact JcC.k (k:=Av "months") e0,L.months,rfl,⟨_,SqL.of hst.months⟩,fun acc hacc=>?_⟩
  refine JcI (K:=K) (xs:=ms.map V.int) (fun i ys σ' H'=>∃v0:Option V,σ'=[v0,some (.ref st),some (.str who),some (.int last)]/\JV H H'/\H' acc=some (.lst ys)/\ys=(ms.take i).map fun m=>V.int (netS B who m last))
   ⟨none,rfl,Je hacc,Ja,by simp⟩ (fun _ _ _ _ ⟨_,_,s1,_⟩ =>SqL.of (s1 _ _ hst.months)) ?_ ?_
  .rintro i x ys σ' H' hx ⟨v0,rfl,s1,ha,rfl⟩;rw[Ax]at hx;obtain⟨m,hm,rfl⟩:=Ak.mp hx;refine⟨Jz (by rw[A2,Ao];omega),?_⟩;dsimp only[Jcz,JfX];rw[if_pos rfl];refine⟨st,L,b,ms,B,who,m,last,rfl,hst.same s1,hbk.same s1,hok,fun H3 s2=>⟨s2 _ _ ha,?_⟩⟩;refine⟨_,rfl,JQ (s1.trans s2) hacc,Ja,?_⟩;rw[Ap,hm,AJ];rfl
  .rintro ys σ' H' ⟨v0,rfl,s1,ha,rfl⟩;refine k acc H' s1 hacc ?_;rw[ha,A2,AC (A6 _)]
inductive JmX(vs:List V)(H:Hp)(Q:VK):Prop
 | mk (a:Addr) (bs:List Bd) (mo:Option Int) (h1:vs=[.ref a,oV mo]) (h2:JG H a bs) (h3:bs.length<=14) (h4:∀H',JV H H'->Q (.bl (JaX mo bs)) H'):JmX vs H Q
def JmD:Sp:=fun vs H Q _=>JmX vs H Q
theorem Jl9(l:List Bd):(l.map fun b=>oV b.1).all Je6=true:=by
 rw[List.all_map,Bi];rintro⟨o,e⟩ _;cases o<;>rfl
theorem JqO(l:List Bd):inV V.non (l.map fun b=>oV b.1)=l.any fun b=>b.1.isNone:=by
 unfold inV;rw[K8];congr 1;funext b;obtain⟨o,e⟩:=b;cases o<;>rfl
noncomputable def JaS(mo:Option Int)(b:Bd):Bool:=decide (0<=b.2)&&(match mo with|none=>true|some k=>decide (b.2<=k))
theorem Jeg{mo:Option Int}{bs:List Bd}:JaX mo bs=(wfb 0 bs&&bs.all (JaS mo)):=rfl
theorem JoK{f:Addr}{fd:Aa}(F:Fun K "_law_can_be" "_law_can_be" Jbu f fd)(Z:Zs mg):YU P w K mg base CX0 1 f fd ["_law_bands", "_law_most"] JmD:=by
 refine F.ok Jdy (fun vs H Q E h=>?_) (fun cdv A outer s0 H vs Q E hr h=>?_)
 .obtain⟨_,_,_,rfl,_⟩:=h;rfl
 .obtain⟨a,bs,mo,rfl,hb,hlen,k⟩:=h;have hu:=JbH hr
  refine⟨_,(Jd (JbX (i:=2) ["_law_pair"] [none] Jdy.nd rfl (Ds rfl) rfl Jd2 (JfS (pw 0)) (fun _ _ _ _=>(pgn 0 Jd2.nd)) (fun _ _ _ _=>Jdp) (fun _ _ _ _=>(Jo (show IxR _ (JqD K) from JE) (pw 0) Jc)))
   (Jd (JL (PW.pt (JbO (Jq (JmO hu) (pw 2) (J3 JR) (Jv _)) (JbO (Jai (JbQ (Jo JI (pw 2) (JcU (op:=.USub) Jaj Jc)))) (JaW (Jq JfF JcK (J8 JbA (pw 2) YL (J2 (JcU (op:=.USub) Jaj Jc))) (by with_unfolding_all rfl)))))) (Jf (Jp JaE)) Jr)
   (Jd (JL (PW.pt (JbO (Jq (JrZ hu) (J8 JbA (pw 2) YL (J2 (JcU (op:=.USub) Jaj Jc))) (Jn (Jjt rfl) (by rfl) Z.z_sorted Jd4 (pa1 (YN (Jmt rfl) (by rfl) Z.z_set Jsw (pa1 (J8 JbA (pw 2) YL (J2 (JcU (op:=.USub) Jaj Jc))))))) (Jv _)) (JaW (PW.pt (JcN (Jq (Jf5 hu) (J8 JbA (pw 2) YL (J2 (JcU (op:=.USub) Jaj Jc))) (J3 JR) (Jv _)) (JbB (Jq JbW (Jo JI (pw 2) Jc) Jc (Jv _)))))))) (Jf (Jp JaE)) Jr)
   (Jd (Jan AD rfl (JfS (pw 0)) (pgn 3 Jdy.nd) (Jf (JL (PW.pt (JbO (Jq JbW (Jo JE (pw 3) Jc) Jc (Jv _)) (JaW (PW.pt (JcN (Jai (JbQ (pw 1))) (JbB (Jq JeZ (Jo JE (pw 3) Jc) (pw 1) (Jv _)))))))) (Jf (Jp JaE)) Jr)))
   (Jf (Jp JaE)))))),fun _ nz=>?_⟩
  obtain⟨ps,ha,hpl,hp⟩:=hb;refine⟨a,rfl,⟨_,SqT.of ha⟩,fun acc hacc=>?_⟩
  refine Jhr (K:=K) (xs:=ps.map V.ref) (fun i ys σ' H'=>∃v0:Option V,σ'=[v0]/\JV H H'/\H' acc=some (.lst ys)/\ys=(bs.take i).map fun b=>oV b.1)
   ⟨none,rfl,Je hacc,Ja,by simp⟩ (fun _ _ _ _ ⟨_,_,s1,_⟩ =>SqT.of (s1 _ _ ha)) ?_ ?_
  .rintro i x ys σ' H' hx ⟨v0,rfl,s1,hac,rfl⟩;rw[Ax]at hx;obtain⟨p,hpp,rfl⟩:=Ak.mp hx;have hil:i<bs.length:=hpl ▸ (A7.mp hpp).1;obtain⟨b,hb⟩:∃b,bs[i]?=some b:=⟨bs[i],A1 hil⟩;refine⟨Jz (by rw[A2,Ao];omega),?_⟩;dsimp only[Jcz,JfX];rw[if_pos rfl];refine⟨p,_,0,oV b.1,rfl,rfl,SqT.of (s1 _ _ (hp i p b hpp hb)),Jl (j:=0) rfl,hac,?_⟩;refine⟨_,rfl,JQ s1 hacc,Ja,?_⟩;rw[Ap,hb,AJ];rfl
  .rintro ys σ' H1 ⟨v0,rfl,s1,hac,rfl⟩;rw[A2,hpl,AC (A6 _)]at hac;refine nz fun _ nz=>⟨(by show 0<=AK;exact AA _),fun l0 hl0=>?_⟩;have u0:=Je (o:=HO.lst ([]:List V)) hl0;have s2:=s1.trans u0;have hac2:=u0 _ _ hac;refine⟨acc,l0,_,rfl,rfl,SqL.of hac2,SqL.of Ja,_,rfl,?_⟩;generalize upd H1 l0 (HO.lst ([]:List V))=H2 at s2 hac2 ⊢;clear hac s1 u0 hl0
   have no:∀(e:JaX mo bs=false){H':Hp},JV H H'->Q (.bl false) H':=fun e H' s=>by
    have:=k H' s;rw[e]at this;exact this
   have nowf:wfb 0 bs=false->JaX mo bs=false:=fun e=>by
    unfold JaX;rw[e];rfl
   refine JY (fun h0=>?_) (fun h0=>?_)
   .refine Jfa ?_;refine no (nowf ?_) s2
    have:bs=[]:=by simpa using h0
    rw[this];rfl
   have hne:bs≠[]:=fun z=>h0 (by rw[z];rfl);have hpos:0<bs.length:=Ei.mpr hne;obtain⟨bl,hbl⟩:∃b,bs[bs.length-1]?=some b:=⟨bs[bs.length-1],A1 (by omega)⟩
   have hat:atI (bs.map fun b=>oV b.1) (-1)=some (oV bl.1):=by
    have e:ixN (bs.map fun b=>oV b.1).length (-1)=some (bs.length-1):=by
     rw[A2];unfold ixN;rw[if_neg (by decide),if_pos (by omega)];congr 1;omega
    unfold atI;rw[e];show(bs.map fun b=>oV b.1)[bs.length-1]?=_;rw[Ax,hbl];rfl
   refine⟨acc,_,_,oV bl.1,rfl,rfl,SqL.of hac2,hat,_,rfl,?_⟩
   have lastN:wfb 0 bs=true->bl.1=none:=fun z=>by
    obtain⟨us,e⟩:=JhA z
    have h1:(bs.map (·.1))[bs.length-1]?=some bl.1:=by rw[Ax,hbl];rfl
    have h2:bs.length=us.length+1:=by
     have:=congrArg Bn e;simpa using this
    rw[e,h2,Hs,BJ (by simp)]at h1;simp at h1;exact h1.symm
   refine JY (fun h1=>?_) (fun h1=>?_)
   .refine Jfa ?_;refine no (nowf ?_) s2
    cases hw:wfb 0 bs with
    | false=>rfl
    | true=>
     rw[lastN hw]at h1;exact absurd h1 (show¬(!decide (V.non=V.non))=true by decide)
   have hl:bl.1=none:=by
    cases e:bl.1 with
    | none=>rfl
    | some u=>
     rw[e]at h1;exact absurd (Jkm u) h1
   have cutE:Je9 (bs.map fun b=>oV b.1) none (some (-1))=(bs.take (bs.length-1)).map fun b=>oV b.1:=by rw[Jpg,A2,DC]
   refine⟨acc,_,rfl,SqL.of hac2,fun p1 hp1=>?_⟩;rw[cutE];have u1:=Je (o:=HO.lst ((bs.take (bs.length-1)).map fun b=>oV b.1)) hp1;refine⟨p1,_,rfl,.inl (SqL.of Ja),rfl,Jl9 _,_,rfl,?_⟩;have s3:=s2.trans u1;have hac3:=u1 _ _ hac2;generalize upd H2 p1 (HO.lst ((bs.take (bs.length-1)).map fun b=>oV b.1))=H3 at s3 hac3 ⊢;clear u1 hp1 hac2 s2;rw[JqO];refine JY (fun h2=>?_) (fun h2=>nz fun _ nz=>?_)
   .refine no (nowf ?_) s3
    cases hw:wfb 0 bs with
    | false=>rfl
    | true=>
     exfalso
     obtain⟨us,e⟩:=JhA hw
     have h2:((bs.take (bs.length-1)).any fun b=>b.1.isNone)=true:=by simpa using h2
     obtain⟨b,hb,hn⟩:=B9.mp h2
     have h3:b.1∈(bs.map (·.1)).take (bs.length-1):=by
      rw[<- DC];exact Ag.mpr ⟨b,hb,rfl⟩
     have h4:bs.length=us.length+1:=by
      have:=congrArg Bn e;simpa using this
     rw[e,h4,Hs,List.take_left' (by simp)]at h3;obtain⟨u,_,hu⟩:=Ag.mp h3;rw[<- hu]at hn;cases hn
   obtain⟨us,hus⟩:∃us:List Int,(bs.take (bs.length-1)).map (·.1)=us.map some:=by
    have h2:∀b∈bs.take (bs.length-1),b.1.isNone=false:=fun b hb=>by
     cases e:b.1.isNone with
     | false=>rfl
     | true=>exact absurd (B9.mpr ⟨b,hb,e⟩) (fun z=>h2 (by rw[if_neg (by decide)];exact z))
    refine⟨(bs.take (bs.length-1)).map fun b=>b.1.getD 0,?_⟩;rw[B2];refine Bm fun b hb=>?_;have:=h2 b hb
    cases e:b.1 with
    | none=>rw[e]at this;cases this
    | some u=>simp[e]
   have hends:bs.map (·.1)=us.map some++[none]:=by
    have e1:bs=bs.take (bs.length-1)++[bl]:=by
     have:=Co (bs.length-1) bs;rw[JcV hbl,List.drop_of_length_le (by omega)]at this;exact this.symm
    rw[e1,AJ,hus];show _++[bl.1]=_;rw[hl]
   have hint:((bs.take (bs.length-1)).map fun b=>oV b.1)=us.map V.int:=by
    have:((bs.take (bs.length-1)).map fun b=>oV b.1)=((bs.take (bs.length-1)).map (·.1)).map oV:=by rw[B2];rfl
    rw[this,hus,B2];rfl
   have hul:us.length<=14:=by
    have:=congrArg Bn hends;simp at this;omega
   rw[hint]at cutE;clear h1 h2 lastN;refine⟨acc,_,rfl,SqL.of hac3,fun p2 hp2=>?_⟩;rw[cutE];have u2:=Je (o:=HO.lst (us.map V.int)) hp2;refine⟨acc,_,rfl,SqL.of (u2 _ _ hac3),fun p3 hp3=>?_⟩;rw[cutE];have u3:=Je (o:=HO.lst (us.map V.int)) hp3;refine⟨p3,us,rfl,SqL.of Ja,(by unfold GM;omega),fun l4 ms so4 hl4 hs4 nd hm=>?_⟩;have u4:=Je (o:=so4) hl4
   have hml:ms.length<64:=by
    have:=nd.length_le_of_subset (l₂:=us) fun z hz=>(hm z).mp hz;omega
   refine⟨l4,ms,so4,rfl,Ja,hs4,hml,fun l5 rs hl5 pm so=>?_⟩;have u5:=Je (o:=HO.lst (rs.map V.int)) hl5;refine⟨p2,l5,us,rs,rfl,rfl,SqL.of (u5 _ _ (u4 _ _ (u3 _ _ Ja))),SqL.of Ja,_,rfl,?_⟩;have s4:=(((s3.trans u2).trans u3).trans u4).trans u5;have hac4:=u5 _ _ (u4 _ _ (u3 _ _ (u2 _ _ hac3)));generalize upd (upd (upd (upd H3 p2 (HO.lst (us.map V.int))) p3 (HO.lst (us.map V.int))) l4 so4) l5 (HO.lst (rs.map V.int))=H4 at s4 hac4 ⊢;clear u2 u3 u4 u5 hp2 hp3 hl4 hl5 hac3 s3;have hsame:=JjP pm nd hm so;have hwf:=Jjd (lo:=0) hends;rw[JnU,<- hsame]at hwf;refine JY (fun h3=>?_) (fun h3=>?_)
   .refine Jfa ?_;refine no (nowf ?_) s4
    cases hw:wfb 0 bs with
    | false=>rfl
    | true=>
     have:=(hwf.mp hw).1;rw[decide_eq_true this]at h3;exact absurd h3 (by decide)
   have h3:us=rs:=by
    by_cases e:us=rs
    .exact e
    .exact absurd (by rw[decide_eq_false e];rfl) h3
   refine⟨acc,_,rfl,SqL.of hac4,fun p6 hp6=>?_⟩;rw[cutE];have u6:=Je (o:=HO.lst (us.map V.int)) hp6;refine⟨(by show 0<=AK;exact AA _),fun l7 hl7=>?_⟩;have u7:=Je (o:=HO.lst ([]:List V)) hl7;refine⟨p6,l7,_,rfl,rfl,SqL.of (u7 _ _ Ja),SqL.of Ja,_,rfl,?_⟩;have s5:=(s4.trans u6).trans u7;have hac5:=u7 _ _ (u6 _ _ hac4);generalize upd (upd H4 p6 (HO.lst (us.map V.int))) l7 (HO.lst ([]:List V))=H5 at s5 hac5 ⊢;clear u6 u7 hp6 hl7 hac4 s4;refine JY (fun h4=>?_) (fun h4=>?_)
   .obtain⟨u,r,hur⟩:∃u r,us=u::r:=by
     cases us with
     | nil=>exact absurd h4 (by decide)
     | cons u r=>exact⟨u,r,rfl⟩
    have hat0:atI (bs.map fun b=>oV b.1) 0=some (V.int u):=by
     refine Jl (j:=0) ?_
     have:(bs.map (·.1))[0]?=some (some u):=by rw[hends,hur];rfl
     rw[Ax]at this ⊢;obtain⟨b,hb,e⟩:=Ak.mp this;rw[hb];show some (oV b.1)=_;rw[e];rfl
    refine⟨acc,_,_,.int u,rfl,rfl,SqL.of hac5,hat0,_,rfl,?_⟩;refine JY (fun h5=>?_) (fun h5=>nz fun _ nz=>?_)
    .refine no (nowf ?_) s5
     cases hw:wfb 0 bs with
     | false=>rfl
     | true=>
      have h6:=(hwf.mp hw).2 u (by rw[hur];rfl);have h5:u<1:=of_decide_eq_true h5;omega
    have hw0:wfb 0 bs=true:=hwf.mpr ⟨h3,fun z hz=>by
     rw[hur]at hz;have hz:u=z:=Ai hz;have h5:¬u<1:=fun y=>h5 (decide_eq_true y)
     omega⟩
    refine⟨a,rfl,⟨_,SqT.of (s5 _ _ ha)⟩,?_⟩
    refine JfI (K:=K) (xs:=ps.map V.ref) (fun i σ H6=>∃v3:Option V,σ=[some (.ref a),some (oV mo),some (.ref acc),v3]/\H5=H6/\∀b∈bs.take i,JaS mo b=true)
     ⟨none,rfl,rfl,by simp⟩ (fun _ _ _ _ ⟨_,_,e,_⟩ =>by rw[<- e];exact SqT.of (s5 _ _ ha)) ?_ ?_
    .rintro i y σ H6 hi ⟨v3,rfl,rfl,hev⟩;rw[Ax]at hi;obtain⟨p,hpp,rfl⟩:=Ak.mp hi;have hil:i<bs.length:=hpl ▸ (A7.mp hpp).1;obtain⟨b,hb⟩:∃b,bs[i]?=some b:=⟨bs[i],A1 hil⟩;have hpt:=s5 _ _ (hp i p b hpp hb)
     have bad:JaS mo b=false->JaX mo bs=false:=fun z=>by
      rw[Jeg]
      cases e:bs.all (JaS mo)with
      | false=>exact Ek _
      | true=>
       rw[Bi.mp e b (Au hb)]at z;cases z
     have next:JaS mo b=true->∀c∈bs.take (i+1),JaS mo c=true:=fun z c hc=>by
      rw[Ap,hb]at hc
      rcases Ae.mp hc with hc|hc
      .exact hev c hc
      .rw[A5.mp hc];exact z
     refine⟨p,_,1,.int b.2,rfl,rfl,SqT.of hpt,Jl (j:=1) rfl,_,rfl,?_⟩;refine JY (fun g1=>?_) (fun g1=>?_)
     .refine Jfa ?_;refine no (bad ?_) s5;have g1:b.2<0:=of_decide_eq_true g1;unfold JaS;rw[decide_eq_false (by omega)];rfl
     .have g1:¬b.2<0:=fun z=>g1 (decide_eq_true z)
      have g1:0<=b.2:=by omega
      refine⟨_,rfl,?_⟩
      cases mo with
      | none=>
       refine JY (fun h=>absurd h (show¬(!decide (V.non=V.non))=true by decide)) (fun _=>?_);refine Jdv ?_;refine⟨_,rfl,rfl,next ?_⟩;unfold JaS;rw[decide_eq_true g1];rfl
      | some m=>
       refine JY (fun _=>?_) (fun h=>absurd (Jkm m) h);refine⟨p,_,1,.int b.2,rfl,rfl,SqT.of hpt,Jl (j:=1) rfl,_,rfl,?_⟩;refine JY (fun g2=>?_) (fun g2=>?_)
       .refine no (bad ?_) s5;have g2:m<b.2:=of_decide_eq_true g2;unfold JaS;dsimp only;rw[decide_eq_false (show¬b.2<=m by omega),Ek]
       .have g2:¬m<b.2:=fun z=>g2 (decide_eq_true z);refine⟨_,rfl,rfl,next ?_⟩;unfold JaS;dsimp only;rw[decide_eq_true g1,decide_eq_true (show b.2<=m by omega)];rfl
    .rintro σ H6 ⟨v3,rfl,rfl,hev⟩;rw[A2,hpl,AC (A6 _)]at hev;have:=k H5 s5;rw[Jeg,hw0,Bi.mpr hev]at this;exact nz this
   .have hnil:us=[]:=by
     cases us with
     | nil=>rfl
     | cons u r=>exact absurd rfl h4
    refine Jdv ?_;refine nz fun _ nz=>?_;have hw0:wfb 0 bs=true:=hwf.mpr ⟨h3,fun z hz=>by rw[hnil]at hz;cases hz⟩;refine⟨a,rfl,⟨_,SqT.of (s5 _ _ ha)⟩,?_⟩
    refine JfI (K:=K) (xs:=ps.map V.ref) (fun i σ H6=>∃v3:Option V,σ=[some (.ref a),some (oV mo),some (.ref acc),v3]/\H5=H6/\∀b∈bs.take i,JaS mo b=true)
     ⟨none,rfl,rfl,by simp⟩ (fun _ _ _ _ ⟨_,_,e,_⟩ =>by rw[<- e];exact SqT.of (s5 _ _ ha)) ?_ ?_
    .rintro i y σ H6 hi ⟨v3,rfl,rfl,hev⟩;rw[Ax]at hi;obtain⟨p,hpp,rfl⟩:=Ak.mp hi;have hil:i<bs.length:=hpl ▸ (A7.mp hpp).1;obtain⟨b,hb⟩:∃b,bs[i]?=some b:=⟨bs[i],A1 hil⟩;have hpt:=s5 _ _ (hp i p b hpp hb)
     have bad:JaS mo b=false->JaX mo bs=false:=fun z=>by
      rw[Jeg]
      cases e:bs.all (JaS mo)with
      | false=>exact Ek _
      | true=>
       rw[Bi.mp e b (Au hb)]at z;cases z
     have next:JaS mo b=true->∀c∈bs.take (i+1),JaS mo c=true:=fun z c hc=>by
      rw[Ap,hb]at hc
      rcases Ae.mp hc with hc|hc
      .exact hev c hc
      .rw[A5.mp hc];exact z
     refine⟨p,_,1,.int b.2,rfl,rfl,SqT.of hpt,Jl (j:=1) rfl,_,rfl,?_⟩;refine JY (fun g1=>?_) (fun g1=>?_)
     .refine Jfa ?_;refine no (bad ?_) s5;have g1:b.2<0:=of_decide_eq_true g1;unfold JaS;rw[decide_eq_false (by omega)];rfl
     .have g1:¬b.2<0:=fun z=>g1 (decide_eq_true z)
      have g1:0<=b.2:=by omega
      refine⟨_,rfl,?_⟩
      cases mo with
      | none=>
       refine JY (fun h=>absurd h (show¬(!decide (V.non=V.non))=true by decide)) (fun _=>?_);refine Jdv ?_;refine⟨_,rfl,rfl,next ?_⟩;unfold JaS;rw[decide_eq_true g1];rfl
      | some m=>
       refine JY (fun _=>?_) (fun h=>absurd (Jkm m) h);refine⟨p,_,1,.int b.2,rfl,rfl,SqT.of hpt,Jl (j:=1) rfl,_,rfl,?_⟩;refine JY (fun g2=>?_) (fun g2=>?_)
       .refine no (bad ?_) s5;have g2:m<b.2:=of_decide_eq_true g2;unfold JaS;dsimp only;rw[decide_eq_false (show¬b.2<=m by omega),Ek]
       .have g2:¬m<b.2:=fun z=>g2 (decide_eq_true z);refine⟨_,rfl,rfl,next ?_⟩;unfold JaS;dsimp only;rw[decide_eq_true g1,decide_eq_true (show b.2<=m by omega)];rfl
    .rintro σ H6 ⟨v3,rfl,rfl,hev⟩;rw[A2,hpl,AC (A6 _)]at hev;have:=k H5 s5;rw[Jeg,hw0,Bi.mpr hev]at this;exact nz this
end
section
variable {P:Ab} {w:At} {K:WF} {mg:Str→Option A3} {base:Heap} {CB CP fBI fPI CH CN CT:Addr}
inductive JiH(vs:List V)(H:Hp)(Q:VK):Prop
 | mk (st:Addr) (A:LSt) (b:Int) (ms:List Int) (B:Bk) (d:JU) (v:V) (h1:vs=[.ref st,v]) (h2:Jo5 H st A b ms) (h3:JpN H A ms B) (h4:Rep H (YR d) v) (h5:Jal d) (h6:∀H',JV H H'->Q (.str (Jfo B d)) H'):JiH vs H Q
def Jgf:Sp:=fun vs H Q _=>JiH vs H Q
theorem JlB{f f1:Addr}{fd fd1:Aa}(F:Fun K "_law_refused" "_law_refused" Jcr f fd)(Jc6:JK P w K mg base "_law_can_be" ["_law_bands", "_law_most"] JmD 1 f1 fd1):YU P w K mg base CX0 2 f fd ["_law_state", "_law_deed"] Jgf:=by
 refine F.ok JbJ (fun vs H Q E h=>?_) (fun cdv A outer s0 H vs Q E hr h=>?_)
 .obtain⟨_,_,_,_,_,_,_,rfl,_⟩:=h;rfl
 .obtain⟨st,L,b,ms,B,d,v,rfl,hst,hbk,hrep,dok,k⟩:=h;have hu:=JbH hr;obtain⟨a,r,rfl,ht⟩:=Jh5 hrep;have ht0:=ht;have hrep0:=hrep
  refine⟨_,(Jay (JL (PW.pt (JcN (Jq JaQ (Jo JE (pw 1) Jc) Jx (Jv _)) (JbB (Jbe (Joy JfL JfL Jc (Jo JE (pw 1) Jc) Jc))))) (Jf (Jp Jx)) Jr)
   (Jay (JL (PW.pt (JcN (Jq JaQ (Jo JE (pw 1) Jc) Jx (Jv _)) (JbB (Jbe (JaP (Js Jc6 hr (Jb (Jo JE (pw 1) Jc) (pa1 JcK)))))))) (Jf (Jp Jx)) Jr)
   (Jay (JL (Jq JaQ (Jo JE (pw 1) Jc) Jx (Jv _)) (Jd (JnZ (Jo JE (pw 1) Jc) (Je1 rfl (Yx (pgn 2 JbJ.nd) (Yx (pgn 3 JbJ.nd) (Yx (pgn 4 JbJ.nd) JcW)))))
   (Jf (JL (PW.pt (JbO (Jbe (JaP (Js Jc6 hr (Jb (pw 2) (pa1 Jc))))) (JbO (Jq JbW (pw 3) Jc (Jv _)) (JaW (Jq JbW (pw 4) Jc (Jv _)))))) (Jf (Jp Jx)) Jr))) Jr)
   (Jay (JL (PW.pt (JcN (Jq JaQ (Jo JE (pw 1) Jc) Jx (Jv _)) (JbB (Jq JbW (Jo JE (pw 1) Jc) (Jc3 hu (YH hu (pw 0) Jx) (Jo JE (pw 1) Jc) (Jo JE (pw 1) Jc) (by constructor<;>rfl)) (Jv _))))) (Jf (Jp Jx)) Jr)
   (Jf (Jp Jx)))))),?_⟩
  refine⟨fun σ' H'=>σ'=[some (.ref st),some (.ref a),none,none,none]/\H=H'/\(nmD d = "hours"->Jfo B d = ""),?_,?_⟩
  .refine⟨a,_,0,_,rfl,rfl,SqT.of ht,Jl (j:=0) rfl,rfl,_,rfl,?_⟩;refine JY (fun h=>?_) (fun h=>?_)
   .obtain⟨who,day,many,rfl⟩:=JkA (Jei h)
    next=>
     obtain⟨_,vs,e,ht,_,_,rfl,rfl,_,_,rfl,rfl,_,_,rfl,rfl,_,_,rfl,rfl,rfl⟩:=hrep;cases e;refine⟨a,_,3,.int many,rfl,rfl,SqT.of ht,Jl (j:=3) rfl,_,rfl,?_⟩;refine JY (fun h1=>?_) (fun h1=>?_)
     .refine⟨_,rfl,?_⟩;dsimp only
      cases h2:decide (many<=24)with
      | true=>
       refine Jdv ?_;exact⟨rfl,rfl,fun _=>if_pos ⟨of_decide_eq_true h1,of_decide_eq_true h2⟩⟩
      | false=>
       refine Jfa ?_;have:=k H fun _ _ z=>z;rw[show Jfo B (.hours who day many) = "no hours" from if_neg fun z=>of_decide_eq_false h2 z.2]at this;exact this
     .refine⟨_,rfl,?_⟩;refine Jfa ?_;have:=k H fun _ _ z=>z;rw[show Jfo B (.hours who day many) = "no hours" from if_neg fun z=>h1 (decide_eq_true z.1)]at this;exact this
   .refine Jdv ?_;exact⟨rfl,rfl,fun e=>absurd e (JfT h)⟩
  rintro σ1 _ ⟨rfl,rfl,q1⟩;refine⟨fun σ' H'=>σ'=[some (.ref st),some (.ref a),none,none,none]/\JV H H'/\(nmD d = "rate"->Jfo B d = ""),?_,?_⟩
  .refine⟨a,_,0,_,rfl,rfl,SqT.of ht,Jl (j:=0) rfl,rfl,_,rfl,?_⟩;refine JY (fun h=>?_) (fun h=>?_)
   .obtain⟨week,bs,rfl⟩:=Jnu (Jei h)
    next=>
     obtain⟨_,vs,e,ht,_,_,rfl,rfl,_,_,rfl,rfl,u,_,rfl,hu2,rfl⟩:=hrep;cases e
     obtain⟨a2,rfl⟩:∃a2,u=.ref a2:=let ⟨a2,_,e,_⟩:=hu2;⟨a2,e⟩
     refine⟨a,_,2,.ref a2,rfl,rfl,SqT.of ht,Jl (j:=2) rfl,a2,bs,none,rfl,Jy.mpr hu2,dok.len,fun H1 s1=>⟨_,rfl,?_⟩⟩;dsimp only
     cases h2:JaX none bs with
     | true=>
      refine Jdv ?_;exact⟨rfl,s1,fun _=>if_pos h2⟩
     | false=>
      refine Jfa ?_;have:=k H1 s1;rw[show Jfo B (.rate week bs) = "no table" from if_neg (by rw[h2];decide)]at this;exact this
   .refine Jdv ?_;exact⟨rfl,fun _ _ z=>z,fun e=>absurd e (JfT h)⟩
  rintro σ1 H1 ⟨rfl,s1,q2⟩;have ht:=s1 _ _ ht;have hrep:=Rep.same s1 hrep;refine⟨fun σ' H'=>∃v2 v3 v4:Option V,σ'=[some (.ref st),some (.ref a),v2,v3,v4]/\JV H H'/\(nmD d = "dues"->Jfo B d = ""),?_,?_⟩
  .refine⟨a,_,0,_,rfl,rfl,SqT.of ht,Jl (j:=0) rfl,rfl,_,rfl,?_⟩;refine JY (fun h=>fun _ nz=>?_) (fun h=>?_)
   .obtain⟨month,t,rfl⟩:=JmG (Jei h)
    next=>
     obtain⟨_,vs,e,ht,_,_,rfl,rfl,_,_,rfl,rfl,u,_,rfl,hu2,rfl⟩:=hrep;cases e;obtain⟨bs,top,per⟩:=t;obtain⟨a2,vs2,rfl,ht2,u2,_,rfl,hu2,_,_,rfl,rfl,_,_,rfl,rfl,rfl⟩:=hu2
     obtain⟨a3,rfl⟩:∃a3,u2=.ref a3:=let ⟨a3,_,e,_⟩:=hu2;⟨a3,e⟩
     have dl:bs.length<=14:=dok.bands.len;refine⟨a,_,2,.ref a2,rfl,rfl,SqT.of ht,Jl (j:=2) rfl,a2,_,rfl,SqT.of ht2,rfl,_,_,rfl,_,_,rfl,_,_,rfl,rfl,?_⟩;refine nz ⟨a3,bs,some 100,rfl,Jy.mpr hu2,dl,fun H2 s2=>⟨_,rfl,?_⟩⟩
     have no:Jcx (bs,top,per)=false->Q (.str "no table") H2:=fun e=>by
      have:=k H2 (s1.trans s2);rw[show Jfo B (.dues month (bs,top,per)) = "no table" from if_neg (by rw[e];decide)]at this;exact this
     dsimp only
     cases h2:JaX (some 100) bs with
     | false=>
      refine Jfa ?_;refine Jfa ?_;exact no (by rw[Jqm];show(JaX (some 100) bs&&_)=false;rw[h2];rfl)
     | true=>
      refine Jdv ?_;refine⟨_,rfl,?_⟩;refine JY (fun h3=>?_) (fun h3=>?_)
      .refine Jfa ?_
       exact no (by
        have h3:=of_decide_eq_true h3;unfold Jcx;rw[show decide (0<=(bs,top,per).2.1)=false from decide_eq_false (by show¬0<=top;have h3:top<0:=h3;omega)]
        simp)
      .refine⟨_,rfl,?_⟩;refine JY (fun h4=>?_) (fun h4=>?_)
       .exact no (by
         have h4:=of_decide_eq_true h4;unfold Jcx;rw[show decide (1<=(bs,top,per).2.2)=false from decide_eq_false (by show¬1<=per;have h4:per<1:=h4;omega)]
         simp)
       .refine⟨_,_,_,rfl,s1.trans s2,fun _=>if_pos ?_⟩;unfold Jcx;have h3:¬top<0:=fun z=>h3 (decide_eq_true z);have h4:¬per<1:=fun z=>h4 (decide_eq_true z);rw[show JaX (some 100) (bs,top,per).1=true from h2,show decide (0<=(bs,top,per).2.1)=true from decide_eq_true (by show 0<=top;omega),show decide (1<=(bs,top,per).2.2)=true from decide_eq_true (by show 1<=per;omega)];rfl
   .exact⟨_,_,_,rfl,s1,fun e=>absurd e (JfT h)⟩
  rintro σ1 H2 ⟨v2,v3,v4,rfl,s2,q3⟩;have ht:=s2 _ _ ht0;have hrep:=Rep.same s2 hrep0;refine⟨fun σ' H'=>H2=H'/\(nmD d = "payday"->Jfo B d = ""),?_,?_⟩
  .refine⟨a,_,0,_,rfl,rfl,SqT.of ht,Jl (j:=0) rfl,rfl,_,rfl,?_⟩;refine JY (fun h=>?_) (fun h=>?_)
   .obtain⟨who,week,rfl⟩:=JiK (Jei h)
    next=>
     obtain⟨_,vs,e,ht,_,_,rfl,rfl,_,_,rfl,rfl,_,_,rfl,rfl,rfl⟩:=hrep;cases e;obtain⟨kvs,e0,_,_,_,_,ew,_⟩:=(hst.same s2).kvs;obtain⟨wvs,e1,rw1⟩:=(hbk.same s2).weeks;refine⟨a,_,2,.int week,rfl,rfl,SqT.of ht,Jl (j:=2) rfl,st,.ref L.weeks,rfl,by rw[<- ew];exact JcC.k (k:=Av "weeks") e0,L.weeks,rfl,.inl ⟨wvs,.inl e1⟩,a,_,1,.str who,rfl,rfl,SqT.of ht,Jl (j:=1) rfl,a,_,2,.int week,rfl,rfl,SqT.of ht,Jl (j:=2) rfl,_,JcC.k (k:=Av who) e1,?_⟩;rw[rw1]
     have el:Jfo B (.payday who week)=if Jcl B who week=true then("too early" : Str)else("" : Str):=rfl
     cases hl:B.last who with
     | none=>
      refine⟨_,rfl,?_⟩;refine JY (fun h=>absurd (of_decide_eq_true h) (by omega)) (fun _=>?_);exact⟨rfl,fun _=>if_neg (by unfold Jcl;rw[hl];exact AW)⟩
     | some l=>
      refine⟨_,rfl,?_⟩;refine JY (fun h=>?_) (fun h=>?_)
      .have:=k H2 s2;rw[el,if_pos (by unfold Jcl;rw[hl];exact h)]at this;exact this
      .exact⟨rfl,fun _=>if_neg (by unfold Jcl;rw[hl];exact h)⟩
   .refine Jdv ?_;exact⟨rfl,fun e=>absurd e (JfT h)⟩
  rintro σ1 _ ⟨rfl,q4⟩
  have e:Jfo B d = "":=by
   cases d with
   | hours who day many=>exact q1 rfl
   | rate week bs=>exact q2 rfl
   | dues month t=>exact q3 rfl
   | payday who week=>exact q4 rfl
   | _=>rfl
  have:=k H2 s2;rw[e]at this;exact this
end
section
variable {P:Ab} {w:At} {K:WF} {mg:Str→Option A3} {base:Heap} {CB CP fBI fPI CH CN CT:Addr}
inductive Job(K:WF)(vs:List V)(H:Hp)(Q:VK):Prop
 | mk (a:Addr) (ns:List Int) (h1:vs=[.ref a]) (h2:SqL K H a (ns.map V.int)) (h3:∀st A H',JV H H'->(∀c∈st::A.all,H c=none)->Law H' st A (JD ns) (JO ns) Bk.new 0->Q (.ref st) H'):Job K vs H Q
def Jol(K:WF):Sp:=fun vs H Q _=>Job K vs H Q
theorem Jpt{f f1 f2:Addr}{fd fd1 fd2:Aa}(F:Fun K "_law_begun" "_law_begun" JdR f fd)(Z:Zs mg)(JP:JK P w K mg base "_law_first_month" ["_law_cells"] (JhE (K:=K)) 1 f1 fd1)
  (Yw:JK P w K mg base "_law_so_far" ["_law_cells"] (JhJ (K:=K)) 1 f2 fd2):YU P w K mg base CX0 2 f fd ["_law_cells"] (Jol K):=by
 refine F.ok JeR (fun vs H Q E h=>?_) (fun cdv A outer s0 H vs Q E hr h=>?_)
 .obtain⟨_,_,rfl,_⟩:=h;rfl
 .obtain⟨a,ns,rfl,hS,k⟩:=h;have hu:=JbH hr;refine⟨_,(@Jd _ _ _ _ _ (@JfJ _ _ 1 _ _ _ _ (by exact JeR.nd) (by rfl) (by exact Ds rfl) (@JoJ _ _ _ _ _ _ _ _ _ _ _ _ _ _ _ _ _ _ _ _ _ _ _ _ _ _ Jx Jkx Jx Y4 Jx Y4 Jx Y4 Jx Y4 Jx Y4) (by rfl) (by first|exact .inl rfl|exact .inr rfl|assumption)) (@Jd _ _ _ _ _ (@JfJ _ _ 2 _ _ _ _ (by exact JeR.nd) (by rfl) (by exact Ds rfl) (Jkd JP.ok (hr.mono (by decide)) (by rfl) JP.mg JP.kp JP.b .nil Jbw (@Jb _ _ _ _ _ (pw 0) JR (by rfl))) (by rfl) (by first|exact .inl rfl|exact .inr rfl|assumption)) (@Jd _ _ _ _ _ (@JaG _ _ _ _ _ _ _ _ _ hu (pw 1) Jx (pw 2) (by rfl)) (@Jd _ _ _ _ _ (@JaG _ _ _ _ _ _ _ _ _ hu (pw 1) Jx (YN (JgZ (by rfl)) (by rfl) Z.z_list JaN (@Jb _ _ _ _ _ (YN Jfw (by rfl) Z.z_range Jkl (@Jb _ _ _ _ _ (@Jj _ _ _ _ _ _ _ _ J6 (pw 2) Jc) (@Jb _ _ _ _ _ (@Jj _ _ _ _ _ _ _ _ JF (pw 2) Jc) JR (by rfl)) (by rfl))) JR (by rfl))) (by rfl)) (@Jay _ _ _ _ _ (@JL _ _ _ _ _ _ _ _ (Jq JeZ (Jkd Yw.ok (hr.mono (by decide)) (by rfl) Yw.mg Yw.kp Yw.b .nil Jbw (@Jb _ _ _ _ _ (pw 0) JR (by rfl))) Jc (Jv _)) (@Jf _ _ _ (@JaG _ _ _ _ _ _ _ _ _ hu (pw 1) Jx (YN (JgZ (by rfl)) (by rfl) Z.z_list JaN (@Jb _ _ _ _ _ (YN Jfw (by rfl) Z.z_range Jkl (@Jb _ _ _ _ _ (@Jj _ _ _ _ _ _ _ _ J6 (pw 2) Jc) (@Jb _ _ _ _ _ (@Jj _ _ _ _ _ _ _ _ JF (pw 2) Jc) JR (by rfl)) (by rfl))) JR (by rfl))) (by rfl))) Jr) (@Jf _ _ _ (@Jp _ _ _ _ (pw 1)))))))),fun _ nz=>?_⟩;refine fun st n0=>?_;refine fun c1 n1=>?_;refine fun c2 n2=>?_;refine fun c3 n3=>?_;refine fun c4 n4=>?_;refine fun c5 n5=>?_;refine fun c6 n6=>?_;have w0:=Je (o:=HO.dK []) n0;have w1:=Je (o:=HO.dT []) n1;have w2:=Je (o:=HO.dK []) n2;have w3:=Je (o:=HO.dK []) n3;have w4:=Je (o:=HO.dK []) n4;have w5:=Je (o:=HO.dK []) n5;have w6:=Je (o:=HO.dK []) n6;have p0:upd H st (.dK []) st=some (.dK []):=Ja;generalize upd H st (.dK [])=H0 at n1 w0 w1 p0 n2 w2 n3 w3 n4 w4 n5 w5 n6 w6 ⊢;have p1:upd H0 c1 (.dT []) c1=some (.dT []):=Ja;generalize upd H0 c1 (.dT [])=H1 at w1 p1 n2 w2 n3 w3 n4 w4 n5 w5 n6 w6 ⊢;have p2:upd H1 c2 (.dK []) c2=some (.dK []):=Ja;generalize upd H1 c2 (.dK [])=H2 at w2 p2 n3 w3 n4 w4 n5 w5 n6 w6 ⊢;have p3:upd H2 c3 (.dK []) c3=some (.dK []):=Ja;generalize upd H2 c3 (.dK [])=H3 at w3 p3 n4 w4 n5 w5 n6 w6 ⊢;have p4:upd H3 c4 (.dK []) c4=some (.dK []):=Ja;generalize upd H3 c4 (.dK [])=H4 at w4 p4 n5 w5 n6 w6 ⊢;have p5:upd H4 c5 (.dK []) c5=some (.dK []):=Ja;generalize upd H4 c5 (.dK [])=H5 at w5 p5 n6 w6 ⊢;have p6:upd H5 c6 (.dK []) c6=some (.dK []):=Ja;generalize upd H5 c6 (.dK [])=H6 at w6 p6 ⊢;have s5:=w6;have s4:=w5.trans s5;have s3:=w4.trans s4;have s2:=w3.trans s3;have s1:=w2.trans s2;have s0:=w1.trans s1
  have g0:Jgz H H6 st ⟨c1,c2,c3,c4,c5,c6,0,fun _=>False⟩ []:=by
   refine⟨s0 _ _ p0,s1 _ _ p1,fun c hc=>?_,w0.trans s0,fun c hc=>?_,?_⟩
   .simp only[Aq,AG,or_false]at hc
    rcases hc with rfl|rfl|rfl|rfl|rfl
    .exact s2 _ _ p2
    .exact s3 _ _ p3
    .exact s4 _ _ p4
    .exact s5 _ _ p5
    .exact p6
   .have f1:=w0.free n1;have f2:=w0.free (w1.free n2);have f3:=w0.free (w1.free (w2.free n3));have f4:=w0.free (w1.free (w2.free (w3.free n4)));have f5:=w0.free (w1.free (w2.free (w3.free (w4.free n5))));have f6:=w0.free (w1.free (w2.free (w3.free (w4.free (w5.free n6)))));simp only[LSt.all,Aq,AG,or_false]at hc
    rcases hc with rfl|rfl|rfl|rfl|rfl|rfl|rfl<;>assumption
   .have d:∀{G:Hp}{x y:Addr}{o:HO},G x=some o->G y=none->x≠y:=fun e n=>Jh e n;have l1:=w1 _ _ p0;have l2:=w2 _ _ l1;have l3:=w3 _ _ l2;have l4:=w4 _ _ l3;have l5:=w5 _ _ l4;have m2:=w2 _ _ p1;have m3:=w3 _ _ m2;have m4:=w4 _ _ m3;have m5:=w5 _ _ m4;have k3:=w3 _ _ p2;have k4:=w4 _ _ k3;have k5:=w5 _ _ k4;have j4:=w4 _ _ p3;have j5:=w5 _ _ j4;have i5:=w5 _ _ p4;simp only[LSt.all,AL,Aq,AG,or_false,not_or,not_false_eq_true,BZ,and_true];exact⟨⟨d p0 n1,d l1 n2,d l2 n3,d l3 n4,d l4 n5,d l5 n6⟩,⟨d p1 n2,d m2 n3,d m3 n4,d m4 n5,d m5 n6⟩,⟨d p2 n3,d k3 n4,d k4 n5,d k5 n6⟩,⟨d p3 n4,d j4 n5,d j5 n6⟩,⟨d p4 n5,d i5 n6⟩,d p5 n6⟩
  refine⟨g0.s,Jju c1 c2 c3 c4 c5 c6,rfl,(by show 6<=15;decide),?_⟩;rw[JmV];have g1:=g0.put (kv':=Jju c1 c2 c3 c4 c5 c6);generalize upd H6 st (.dK (Jju c1 c2 c3 c4 c5 c6))=H7 at g1 ⊢;refine nz fun _ nz=>⟨a,ns,rfl,g1.keep.seq hS,fun H8 s8=>?_⟩;have g2:=g1.same s8;refine nz fun _ nz=>⟨st,_,rfl,Jgy.k (k:=Av "base") g2.s (by show 6<AK;decide),?_⟩;have g3:=g2.put (kv':=Jag (Jju c1 c2 c3 c4 c5 c6) (Av "base") (.int (JD ns)));generalize upd H8 st (.dK (Jag (Jju c1 c2 c3 c4 c5 c6) (Av "base") (.int (JD ns))))=H9 at g3 ⊢;refine nz fun _ nz=>⟨_,_,rfl,fun p np=>?_⟩;have r1:=Jgu (o:=HO.rng (JD ns-1) (JD ns+4)) np;generalize upd H9 p (.rng (JD ns-1) (JD ns+4))=Ha at r1 ⊢;obtain⟨v1,r1⟩:=r1;refine⟨p,_,_,rfl,r1,by omega,fun l nl=>?_⟩;have r2:=Jgu (o:=HO.lst ((JcE (JD ns-1) (JD ns+4)).map V.int)) nl;generalize upd Ha l (.lst ((JcE (JD ns-1) (JD ns+4)).map V.int))=Hb at r2 ⊢;obtain⟨v2,r2⟩:=r2;have g4:=g3.same (v1.trans v2);refine⟨st,_,rfl,Jgy.k (k:=Av "months") g4.s (by show 7<AK;decide),?_⟩;have nls:l≠st:=(Jh (v1 _ _ g3.s) nl).symm;have g5:=g4.put (kv':=Jag (Jag (Jju c1 c2 c3 c4 c5 c6) (Av "base") (.int (JD ns))) (Av "months") (.ref l))
  have r3:upd Hb st (.dK (Jag (Jag (Jju c1 c2 c3 c4 c5 c6) (Av "base") (.int (JD ns))) (Av "months") (.ref l))) l=some (.lst ((JcE (JD ns-1) (JD ns+4)).map V.int)):=by rw[Jg nls];exact r2
  generalize upd Hb st (.dK (Jag (Jag (Jju c1 c2 c3 c4 c5 c6) (Av "base") (.int (JD ns))) (Av "months") (.ref l)))=Hc at g5 r3 ⊢;rw[Jqz]at g5;clear g4 g3 g2 g1 g0 r2 v2 r1 v1 s8;refine nz ⟨fun σ' H'=>∃l',σ'=[some (.ref a),some (.ref st),some (.int (JD ns))]/\Jgz H H' st ⟨c1,c2,c3,c4,c5,c6,0,fun _=>False⟩ (Jju c1 c2 c3 c4 c5 c6++[((Av "base" : Key),V.int (JD ns)),(Av "months",.ref l')])/\H' l'=some (.lst ((JO ns).map V.int)),?_,?_⟩
  .refine⟨a,ns,rfl,g5.keep.seq hS,fun Hd sd=>⟨_,rfl,?_⟩⟩;have g6:=g5.same sd;have r4:=sd _ _ r3;refine JY (fun h=>?_) (fun h=>?_)
   .have ha:Yh ns=7:=by
     have h:1<Yh ns:=of_decide_eq_true h;unfold Yh at h ⊢;split at h
     .rename_i c;rw[if_pos c]
     .omega
    refine⟨_,_,rfl,fun p np=>?_⟩;have r1:=Jgu (o:=HO.rng (JD ns-3) (JD ns+15)) np;generalize upd Hd p (.rng (JD ns-3) (JD ns+15))=He at r1 ⊢;obtain⟨v1,r1⟩:=r1;refine⟨p,_,_,rfl,r1,by omega,fun l2 nl2=>?_⟩;have r2:=Jgu (o:=HO.lst ((JcE (JD ns-3) (JD ns+15)).map V.int)) nl2;generalize upd He l2 (.lst ((JcE (JD ns-3) (JD ns+15)).map V.int))=Hf at r2 ⊢;obtain⟨v2,r2⟩:=r2;have g7:=g6.same (v1.trans v2);refine⟨st,_,rfl,Jgy.k (k:=Av "months") g7.s (by show 8<AK;decide),?_⟩;have nls:l2≠st:=(Jh (v1 _ _ g6.s) nl2).symm;refine⟨l2,rfl,?_,?_⟩
    .rw[Jpi];exact g7.put
    .rw[Jg nls,r2];unfold JO;rw[if_pos ha]
   .have ha:¬Yh ns=7:=fun z=>h (decide_eq_true (by rw[z];decide));refine⟨l,rfl,g6,?_⟩;rw[r4];unfold JO;rw[if_neg ha]
  .rintro σ' H' ⟨l',rfl,g,e⟩;refine k st ⟨c1,c2,c3,c4,c5,c6,l',fun _=>False⟩ H' g.keep g.fr (g.law e ?_ fun _ z=>z);unfold JO;split<;>simp[JcE]<;>omega
end
section
variable {P:Ab} {w:At} {K:WF} {mg:Str→Option A3} {base:Heap} {CB CP fBI fPI CH CN CT:Addr}
theorem Jsn{ms:List Int}{B:Bk}{d:JU}(h:Jfo B d≠""):step ms B d=(.str (Jfo B d),B):=by
 cases d with
 | hours who day many=>
  by_cases c:0<=many/\many<=24
  .exact absurd (if_pos c) h
  .rw[show step ms B (.hours who day many)=(.str "no hours",B) from if_neg c,show Jfo B (.hours who day many) = "no hours" from if_neg c]
 | rate week bs=>
  by_cases c:JaX none bs=true
  .exact absurd (if_pos c) h
  .rw[show step ms B (.rate week bs)=(.str "no table",B) from if_neg c,show Jfo B (.rate week bs) = "no table" from if_neg c]
 | dues month t=>
  by_cases c:Jcx t=true
  .exact absurd (if_pos c) h
  .rw[show step ms B (.dues month t)=(.str "no table",B) from if_neg c,show Jfo B (.dues month t) = "no table" from if_neg c]
 | payday who week=>
  by_cases c:Jcl B who week=true
  .rw[show step ms B (.payday who week)=(.str "too early",B) from if_pos c,show Jfo B (.payday who week) = "too early" from if_pos c]
  .exact absurd (if_neg c) h
 | _=>exact absurd rfl h
inductive Jnm(vs:List V)(H:Hp)(Q:VK):Prop
 | mk (st:Addr) (A:LSt) (b:Int) (ms:List Int) (B:Bk) (n:Nat) (d:JU) (v:V) (h1:vs=[.ref st,v]) (h2:Law H st A b ms B n) (h3:n<=900) (h4:Rep H (YR d) v) (h5:Jal d) (hk:J7 d≠none) (h6:∀r H',Jbh A H H'->Law H' st A b ms (step ms B d).2 (n+3)->JgT H H' (step ms B d).1 r->Q r H'):Jnm vs H Q
def Jmx:Sp:=fun vs H Q _=>Jnm vs H Q
theorem Jpx{f f1 f2:Addr}{fd fd1 fd2:Aa}(F:Fun K "_law_done" "_law_done" Jfu f fd)(Z:Zs mg)
  (Ja1:JK P w K mg base "_law_refused" ["_law_state", "_law_deed"] Jgf 2 f1 fd1)
  (Jb7:JK P w K mg base "_law_wages" ["_law_state", "_law_who", "_law_week"] JjC 2 f2 fd2):YU P w K mg base CX0 6 f fd ["_law_state", "_law_deed"] Jmx:=by
 refine F.ok JiQ (fun vs H Q E h=>?_) (fun cdv A outer s0 H vs Q E hr h=>?_)
 .obtain⟨_,_,_,_,_,_,_,_,rfl,_⟩:=h;rfl
 .obtain⟨st,L,b,ms,B,n,d,v,rfl,hL0,hn,hrep0,dok,hkd,k⟩:=h;have hu:=JbH hr;obtain⟨a,r,rfl,ht0⟩:=Jh5 hrep0
  refine⟨_,(Jd (Jk 2 JiQ.nd (Js Ja1 hr (Jb (pw 0) (pa1 (pw 1)))))
   (Jd (JL (Jq Jdx (pw 2) Jx (Jv _)) (Jf (Jp (pw 2))) Jr)
   (Jd (JL (Jq JaQ (Jo JE (pw 1) Jc) Jx (Jv _)) (Jd (JaG hu (YH hu (pw 0) Jx) (JZ (Jb (Jo JE (pw 1) Jc) (pa1 (Jo JE (pw 1) Jc)))) (Jo JE (pw 1) Jc) rfl)
   (Jf (Jp (Js Jb7 hr (Jb (pw 0) (Jb (Jo JE (pw 1) Jc) (pa1 (Jj Y3 (Jo JE (pw 1) Jc) Jc)))))))) Jr)
   (Jd (JL (PW.pt (JbO (Jq JaQ (Jo JE (pw 1) Jc) Jx (Jv _)) (JaW (Jq JaQ (Jo JE (pw 1) Jc) Jx (Jv _))))) (Jd (JaG hu (YH hu (pw 0) (Jo JI (J3 (Jb Jx (pa1 Jx))) (YN JfH (by rfl) Z.z_int Jje (pa1 (JcZ JaQ (Jo JE (pw 1) Jc) Jx (Jv _)))))) (Jo JE (pw 1) Jc) (Jo JE (pw 1) Jc) rfl)
   (Jf (Jp Jx))) Jr)
   Jid)))),fun _ nz=>?_⟩
  refine⟨st,L,b,ms,B,d,_,rfl,hL0.sta,hL0.bk,hrep0,dok,fun H1 s1=>?_⟩;refine nz fun _ nz=>⟨rfl,_,rfl,?_⟩;refine JY (fun h=>?_) (fun h=>nz fun _ nz=>?_)
  .have hne:Jfo B d≠"":=fun z=>by
    rw[z]at h;simp at h
   have e:=Jsn (ms:=ms) hne;refine k _ H1 (Jbh.of s1) ?_ ?_
   .rw[e];exact(hL0.same s1).le (by omega)
   .rw[e];exact JgT.str
  have hno:Jfo B d = "":=by
   by_cases c:Jfo B d = ""
   .exact c
   .exact absurd (by rw[decide_eq_false (fun y=>c (V.str.inj y))];rfl) h
  have hL:=hL0.same s1;have ht:=s1 _ _ ht0;have hrep:=Rep.same s1 hrep0;refine⟨a,_,0,_,rfl,rfl,SqT.of ht,Jl (j:=0) rfl,rfl,_,rfl,?_⟩;refine JY (fun h=>fun _ ny=>?_) (fun h1=>nz fun _ nz=>?_)
  .obtain⟨who,day,many,rfl⟩:=JkA (Jei h)
   next=>
    obtain⟨_,vs,e,ht,_,_,rfl,rfl,_,_,rfl,rfl,_,_,rfl,rfl,_,_,rfl,rfl,rfl⟩:=hrep;cases e
    have c:0<=many/\many<=24:=by
     by_cases c:0<=many/\many<=24
     .exact c
     .rw[show Jfo B (.hours who day many) = "no hours" from if_neg c]at hno;exact absurd hno (by decide +kernel)
    have es:step ms B (.hours who day many)=(.int (wages { B with hrs:=fun y d=>if y=who/\d=day then many else B.hrs y d } who (day/7)),{ B with hrs:=fun y d=>if y=who/\d=day then many else B.hrs y d }):=if_pos c;obtain⟨kvs,e0,eh,_⟩:=hL.sta.kvs;obtain⟨hvs,e1,_⟩:=hL.bk.hours;have hl:=hL.hl _ e1;refine⟨a,_,3,.int many,rfl,rfl,SqT.of ht,Jl (j:=3) rfl,st,.ref L.hours,rfl,by rw[<- eh];exact JcC.k (k:=Av "hours") e0,?_⟩;refine⟨a,_,1,.str who,rfl,rfl,SqT.of ht,Jl (j:=1) rfl,a,_,2,.int day,rfl,rfl,SqT.of ht,Jl (j:=2) rfl,zs2,fun t nt=>?_⟩;have q1:=Jgu (o:=HO.tup [V.str who,V.int day]) nt;generalize upd H1 t (.tup [V.str who,V.int day])=H2 at q1 ⊢;obtain⟨w1,q1⟩:=q1;have e2:=w1 _ _ e1;refine⟨L.hours,_,rfl,Jgy.t (k:=[Av who,Aj day]) e2 q1 (Jz (by omega)),?_⟩;have L3:=(hL.same w1).putHours e2 who day many c;have k3:Jbh L H2 (upd H2 L.hours (.dT (Jag hvs [Av who,Aj day] (.int many)))):=Jbh.put (by simp[LSt.all]);have ht3:=((hL.same w1).sameS k3).1 _ _ (w1 _ _ ht);generalize upd H2 L.hours (.dT (Jag hvs [Av who,Aj day] (.int many)))=H3 at L3 k3 ht3 ⊢;refine ny ⟨a,_,1,.str who,rfl,rfl,SqT.of ht3,Jl (j:=1) rfl,a,_,2,.int day,rfl,rfl,SqT.of ht3,Jl (j:=2) rfl,?_⟩;refine⟨⟨by decide,by decide⟩,st,L,b,ms,_,who,day/7,rfl,L3.sta,L3.bk,L3.ok,fun H4 s4=>?_⟩;refine k _ H4 ((Jbh.of (s1.trans w1)).trans (k3.trans (Jbh.of s4))) ?_ ?_
    .rw[es];exact(L3.same s4).le (by omega)
    .rw[es];exact JgT.int
  have n1:=JfT h1;refine⟨a,_,0,_,rfl,rfl,SqT.of ht,Jl (j:=0) rfl,rfl,_,rfl,?_⟩;refine JY (fun h=>?_) (fun h2=>?_)
  .refine Jfa ?_;obtain⟨week,bs,rfl⟩:=Jnu (Jei h)
   next=>
    obtain⟨_,vs,e,ht,_,_,rfl,rfl,_,_,rfl,rfl,u,_,rfl,hu2,rfl⟩:=hrep;cases e
    obtain⟨a2,rfl⟩:∃a2,u=.ref a2:=let ⟨a2,_,e,_⟩:=hu2;⟨a2,e⟩
    refine fun _ ny=>?_
    have c:JaX none bs=true:=by
     by_cases c:JaX none bs=true
     .exact c
     .rw[show Jfo B (.rate week bs) = "no table" from if_neg c]at hno;exact absurd hno (by decide +kernel)
    have es:step ms B (.rate week bs)=(.str "told",{ B with rates:=Y7 B.rates week bs }):=if_pos c;obtain⟨kvs,e0,_,er,_⟩:=hL.sta.kvs;obtain⟨rvs,e1,_⟩:=hL.bk.rates;have hl:=hL.kl L.rates (by simp) _ e1;refine⟨a,_,2,.ref a2,rfl,rfl,SqT.of ht,Jl (j:=2) rfl,zs2,fun l nl=>?_⟩;have q1:=Jgu (o:=HO.lst [V.str "dues",V.str "rates"]) nl;generalize upd H1 l (.lst [V.str "dues",V.str "rates"])=H2 at q1 ⊢;obtain⟨w1,q1⟩:=q1;have ht2:=w1 _ _ ht;have e2:=w1 _ _ e1;refine⟨a,_,0,.str "rate",rfl,rfl,SqT.of ht2,Jl (j:=0) rfl,rfl,.inr ⟨_,rfl,l,_,1,.str "rates",rfl,?_,SqL.of q1,Jl (j:=1) rfl,st,.ref L.rates,rfl,by rw[<- er];exact JcC.k (k:=Av "rates") (w1 _ _ e0),a,_,1,.int week,rfl,rfl,SqT.of ht2,Jl (j:=1) rfl,L.rates,_,rfl,Jgy.k (k:=Aj week) e2 (Jz (by omega)),?_⟩⟩
    .rw[JsM];rfl
    have k3:Jbh L H2 (upd H2 L.rates (.dK (Jag rvs (Aj week) (.ref a2)))):=Jbh.put (by simp[LSt.all]);have L3:=(hL.same w1).putRate e2 week ⟨a2,rfl,(Jy.mpr hu2).same w1⟩ c dok;refine ny ?_;refine k _ _ ((Jbh.of (s1.trans w1)).trans k3) ?_ ?_
    .rw[es];exact L3.le (by omega)
    .rw[es];exact JgT.str
  have n2:=JfT h2;refine⟨a,_,0,_,rfl,rfl,SqT.of ht,Jl (j:=0) rfl,rfl,_,rfl,?_⟩;refine JY (fun h=>fun _ ny=>?_) (fun h3=>nz ?_)
  .obtain⟨month,t,rfl⟩:=JmG (Jei h)
   next=>
    obtain⟨_,vs,e,ht,_,_,rfl,rfl,_,_,rfl,rfl,u,_,rfl,hu2,rfl⟩:=hrep;cases e;obtain⟨a2,vs2,rfl,ht3,u2,_,rfl,hu3,_,_,rfl,rfl,_,_,rfl,rfl,rfl⟩:=hu2
    obtain⟨a3,rfl⟩:∃a3,u2=.ref a3:=let ⟨a3,_,e,_⟩:=hu3;⟨a3,e⟩
    have c:Jcx t=true:=by
     by_cases c:Jcx t=true
     .exact c
     .rw[show Jfo B (.dues month t) = "no table" from if_neg c]at hno;exact absurd hno (by decide +kernel)
    have es:step ms B (.dues month t)=(.str "told",{ B with dues:=Y7 B.dues month t }):=if_pos c;obtain⟨kvs,e0,_,_,er,_⟩:=hL.sta.kvs;obtain⟨rvs,e1,_⟩:=hL.bk.dues;have hl:=hL.kl L.dues (by simp) _ e1;refine⟨a,_,2,.ref a2,rfl,rfl,SqT.of ht,Jl (j:=2) rfl,zs2,fun l nl=>?_⟩;have q1:=Jgu (o:=HO.lst [V.str "dues",V.str "rates"]) nl;generalize upd H1 l (.lst [V.str "dues",V.str "rates"])=H2 at q1 ⊢;obtain⟨w1,q1⟩:=q1;have ht2:=w1 _ _ ht;have e2:=w1 _ _ e1;refine⟨a,_,0,.str "dues",rfl,rfl,SqT.of ht2,Jl (j:=0) rfl,rfl,.inr ⟨_,rfl,l,_,0,.str "dues",rfl,?_,SqL.of q1,Jl (j:=0) rfl,st,.ref L.dues,rfl,by rw[<- er];exact JcC.k (k:=Av "dues") (w1 _ _ e0),a,_,1,.int month,rfl,rfl,SqT.of ht2,Jl (j:=1) rfl,L.dues,_,rfl,Jgy.k (k:=Aj month) e2 (Jz (by omega)),?_⟩⟩
    .rw[decide_eq_false (fun z=>absurd (V.str.inj z) (by decide +kernel))];rfl
    have k3:Jbh L H2 (upd H2 L.dues (.dK (Jag rvs (Aj month) (.ref a2)))):=Jbh.put (by simp[LSt.all]);have L3:=(hL.same w1).putDues e2 month ⟨a2,a3,rfl,w1 _ _ ht3,(Jy.mpr hu3).same w1⟩ c dok;refine ny ?_;refine k _ _ ((Jbh.of (s1.trans w1)).trans k3) ?_ ?_
    .rw[es];exact L3.le (by omega)
    .rw[es];exact JgT.str
  have n3:=JfT h3
  cases d with
  | hours=>exact absurd rfl n1
  | rate=>exact absurd rfl n2
  | dues=>exact absurd rfl n3
  | _=>exact absurd rfl hkd
end
section
variable {P:Ab} {w:At} {K:WF} {mg:Str→Option A3} {base:Heap} {CB CP fBI fPI CH CN CT:Addr}
inductive JkI(vs:List V)(H:Hp)(Q:VK):Prop
 | mk (a:Addr) (ns:List Int) (kk:Int) (h1:vs=[.ref a,.int kk]) (h2:SqL K H a (ns.map V.int)) (h3:0<=kk) (h4:kk<ns.length) (h5:∀d v H',JV H H'->Rep H' (YR d) v->Jal d->Jnc ns d->Q v H'):JkI vs H Q
def JkZ:Sp:=fun vs H Q _=>JkI (K:=K) vs H Q
theorem JnI{f f1 f2 f3 f4 f5:Addr}{fd fd1 fd2 fd3 fd4 fd5:Aa}(F:Fun K "_law_penned" "_law_penned" Jdg f fd)(Z:Zs mg)
  (JeA:JK P w K mg base "_law_spoilt" ["_law_bands", "_law_seed"] Jlk 1 f1 fd1)
  (JeO:JK P w K mg base "_law_banded" ["_law_first", "_law_second", "_law_most"] Jk9 1 f2 fd2)
  (Yw:JK P w K mg base "_law_so_far" ["_law_cells"] (JhJ (K:=K)) 1 f3 fd3)
  (JP:JK P w K mg base "_law_first_month" ["_law_cells"] (JhE (K:=K)) 1 f4 fd4)
  (Jad:JK P w K mg base "_law_people" ["_law_cells"] (Jfj (K:=K)) 1 f5 fd5) :
  YU P w K mg base CX0 2 f fd ["_law_cells", "_law_k"] (JkZ (K:=K)):=by
 refine F.ok JS (fun vs H Q E h=>?_) (fun cdv A outer s0 H vs Q E hr h=>?_)
 .obtain⟨_,_,_,rfl,_⟩:=h;rfl
 .obtain⟨a,ns,kk,rfl,ha,h0,h1,k⟩:=h
  refine⟨_,(Jd (Jk 2 JS.nd (Jo JI (pw 0) (Jj Jw (Jj JF (pw 1) Jc) (Jn JM (by rfl) Z.z_len JaY (pa1 (pw 0))))))
   (Jd (Jk 3 JS.nd (Jo JI (pw 0) (Jj Jw (Jj JF (pw 1) Jc) (Jn JM (by rfl) Z.z_len JaY (pa1 (pw 0))))))
   (Jd (Jk 4 JS.nd (Jo JI (Js Jad hr (pa1 (pw 0))) (Jj Jw (Jj JF (pw 2) (pw 1)) Jc)))
   (Jd (Jk 5 JS.nd (Js JP hr (pa1 (pw 0))))
   (Jd (Jk 6 JS.nd (Js Yw hr (pa1 (pw 0))))
   (Jd (Jk 7 JS.nd (Jj Jw (Jj JF (Jo JI (pw 0) (pw 1)) (Jj Ye Jc (pw 1))) Jc))
   (Jd (JL (Jq JbW (pw 7) Jc (Jv _)) (Jd (Jk 8 JS.nd (Jj Jw (Jj JF (Jj Y3 (Jo JI (pw 0) (pw 1)) Jc) (Jj Ye Jc (pw 1))) Jc))
   (Jay (JL (Jq JaQ (Jj Jw (Jo JI (pw 0) (pw 1)) Jc) Jc (Jv _)) (Jf (Jk 8 JS.nd (Jo JI (J3 (Jb Jc (Jb (JcU (op:=.USub) Jaj Jc) (Jb (Jj JaR Jc Jc) (Jb (Jj JF Jc (Jj Jw (pw 2) (Jj JaR Jc Jc))) (pa1 (Jj J6 (JcU (op:=.USub) Jaj Jc) (Jj Jw (pw 2) (Jj JaR Jc Jc))))))))) (Jj Jw (pw 2) Jc)))) Jr)
   (Jf (Jp (JZ (Jb Jx (Jb (pw 4) (Jb (Jj JF (Jj Ye (Jj J6 (Jj Jw (Jj JF (pw 3) (Jj Ye Jc (pw 1))) Jc) Jc) (pw 6)) (Jj Ye Jc (pw 5))) (pa1 (pw 8)))))))))) Jr)
   (Jd (Jk 9 JS.nd (Js JeO hr (Jb (pw 2) (Jb (pw 3) (pa1 (Jo JI (J3 (Jb JcK (pa1 Jc))) (YN JfH (by rfl) Z.z_int Jje (pa1 (JcZ JfF (pw 7) (J3 (Jb Jc (pa1 Jc))) (by with_unfolding_all rfl))))))))))
   (Jay (JL (Jq JaQ (Jj Jw (Jo JI (pw 0) (pw 1)) Jc) Jc (Jv _)) (Jf (Jk 9 JS.nd (Js JeA hr (Jb (pw 9) (pa1 (Jj JF (pw 2) (pw 3))))))) Jr)
   (Jd (JL (Jq JbW (pw 7) Jc (Jv _)) (Jf (Jp (JZ (Jb Jx (Jb (Jj JF (Jj Ye (Jj J6 (Jj Jw (Jj JF (pw 3) (pw 1)) Jc) Jc) (pw 6)) (Jj Ye Jc (pw 5))) (pa1 (pw 9))))))) Jr)
   (Jd (JL (Jq JbW (pw 7) Jc (Jv _)) (Jd (Jk 10 JS.nd (JZ (Jb (pw 9) (Jb (Jj Jw (pw 2) Jc) (pa1 (Jj JF Jc (Jj Jw (pw 3) Jc)))))))
   (Jay (JL (Jq JaQ (Jj Jw (Jo JI (pw 0) (pw 1)) Jc) Jc (Jv _)) (Jf (Jk 10 JS.nd (JZ (Jb (pw 9) (Jb (Jo JI (J3 (Jb (JcU (op:=.USub) Jaj Jc) (Jb Jc (pa1 (Jj J6 Jc (Jj Jw (pw 2) (Jj JaR Jc Jc))))))) (Jj Jw (pw 2) Jc)) (pa1 (Jo JI (J3 (Jb Jc (Jb Jc (pa1 (Jj J6 Jc (Jj Jw (pw 3) (Jj JaR Jc Jc))))))) (Jj Jw (pw 3) Jc)))))))) Jr)
   (Jay (JL (Jq JaQ (Jj Jw (Jo JI (pw 0) (pw 1)) Jc) Jc (Jv _)) (Jf (Jk 10 JS.nd (JZ (Jb (JZ (Jb (JZ (Jb Jc (pa1 Jc))) (pa1 (JZ (Jb JcK (pa1 Jc)))))) (Jb Jc (pa1 Jc)))))) Jr)
   (Jay (JL (Jq JaQ (Jj Jw (Jo JI (pw 0) (pw 1)) Jc) Jc (Jv _)) (Jd (Jk 11 JS.nd (Jo JI (J3 (Jb Jc (pa1 (Jj Jw (pw 2) (Jj J6 (Jj Ye (Jj JaR Jc Jc) (Jj JaR Jc Jc)) Jc))))) (Jj Jw (pw 2) Jc)))
   (Jf (Jk 10 JS.nd (JZ (Jb (pw 9) (Jb (pw 11) (pa1 (Jo JI (J3 (Jb (Jj JF Jc (Jj Jw (pw 3) (Jj JaR Jc Jc))) (pa1 Jc))) (Jj Jw (pw 3) Jc))))))))) Jr)
   (Jf (Jp (JZ (Jb Jx (Jb (Jj JF (Jj Ye (Jj J6 (Jj Jw (Jj JF (pw 3) (pw 1)) Jc) Jc) (pw 6)) (pw 5)) (pa1 (pw 10))))))))))) Jr)
   (Jd (Jk 12 JS.nd (Jj JF (Jj Ye (Jj J6 (Jj Jw (Jj JF (pw 2) (Jj Y3 (pw 1) Jc)) Jc) Jc) (pw 6)) (Jj Ye Jc (pw 5))))
   (Jd (JL (Jq JbW (pw 7) Jc (Jv _)) (Jf (Jp (JZ (Jb Jx (Jb (pw 4) (pa1 (Jj JF (Jj Ye (Jj J6 (Jj JF (Jn (Jd1 rfl) (by rfl) Z.z_min Jlj (Jb Jc (pa1 (Jj Y3 (pw 1) Jc)))) (Jj Jw (pw 3) Jc)) Jc) (pw 6)) (Jj Ye Jc (pw 5))))))))) Jr)
   (Jd (JL (PW.pt (JcN (Jq JaQ (pw 7) Jc (Jv _)) (JbB (Jq JaQ (Jj Jw (pw 3) Jc) Jc (Jv _))))) (Jf (Jp (JZ (Jb Jx (pa1 (pw 4)))))) Jr)
   (Jf (Jp (JZ (Jb (Jo JI (J3 (Jb Jx (Jb Jx (Jb Jx (pa1 Jx))))) (Jj J6 (pw 7) Jc)) (Jb (pw 4) (pa1 (pw 12))))))))))))))))))))),fun _ nz=>?_⟩
  have hpos:0<ns.length:=by omega
  obtain⟨near,hnear⟩:=JkL hpos (kk+1);obtain⟨far,hfar⟩:=JkL hpos (kk+2);obtain⟨c,hc⟩:=JmJ h0 h1;obtain⟨who,hwho,hmem⟩:=Jsc ns (near+kk)
  have lpos:(0:Int)<((ns.map V.int).length:Nat):=by rw[A2];omega
  refine⟨a,_,rfl,.inl ha,lpos,a,_,_,.int near,rfl,rfl,ha,hnear,?_⟩;refine nz fun _ nz=>⟨a,_,rfl,.inl ha,lpos,a,_,_,.int far,rfl,rfl,ha,hfar,?_⟩;refine nz fun _ nz=>⟨a,ns,rfl,ha,fun l H1 s1 _ hl=>⟨(by show(0:Int)<3;decide),l,_,_,.str who,rfl,rfl,SqL.of hl,hwho,?_⟩⟩;have ha1:=s1.seq ha;refine nz fun _ nz=>⟨a,ns,rfl,ha1,fun H2 s2=>?_⟩;refine nz fun _ nz=>⟨a,ns,rfl,s2.seq ha1,fun H3 s3=>?_⟩;have s:=(s1.trans s2).trans s3;have ha3:=s.seq ha;clear s1 s2 s3 ha1 hl;refine nz fun _ nz=>⟨a,_,_,.int c,rfl,rfl,ha3,hc,Yo (by decide) (by decide),(by show(0:Int)<16;decide),?_⟩
  have hp0:0<=(c+5*kk)%16/\(c+5*kk)%16<16:=by omega
  refine nz fun _ nz=>⟨_,rfl,?_⟩;refine JY (fun _=>fun _ ny=>?_) (fun _=>nz fun _ nz=>?_)
  .-- hours
   refine⟨a,_,_,.int c,rfl,rfl,ha3,hc,⟨by decide,by decide⟩,Yo (by decide) (by decide),(by show(0:Int)<25;decide),?_⟩;refine ny ⟨fun σ' H'=>∃many:Int,σ'=[some (.ref a),some (.int kk),some (.int near),some (.int far),some (.str who),some (.int (JD ns)),some (.int (Yh ns)),some (.int ((c+5*kk)%16)),some (.int many),none,none,none,none]/\JV H H',?_,?_⟩
   .refine⟨a,_,_,.int c,rfl,rfl,ha3,hc,(by show(0:Int)<29;decide),rfl,_,rfl,?_⟩;refine JY (fun _=>?_) (fun _=>⟨_,rfl,s⟩);refine⟨⟨by decide,by decide,by decide⟩,⟨by decide,by decide,by decide⟩,(by show(0:Int)<10^(60:Int).toNat;decide),⟨by decide,by decide,by decide⟩,(by show(0:Int)<10^(60:Int).toNat;decide),(by show 5<=AK;decide),fun l hl=>?_⟩
    obtain⟨m,hm⟩:∃m,atI [V.int 25,V.int (-1),V.int (10^(12:Int).toNat),V.int (25+near%10^(60:Int).toNat),V.int (-1-near%10^(60:Int).toNat)] (near%5)=some (.int m):=by
     have m5:near%5=0\/near%5=1\/near%5=2\/near%5=3\/near%5=4:=by omega
     rcases m5 with h|h|h|h|h<;>rw[h]<;>exact⟨_,rfl⟩
    exact⟨(by show(0:Int)<5;decide),l,_,_,.int m,rfl,rfl,SqL.of Ja,hm,m,rfl,s.trans (Je hl)⟩
   .rintro σ' H4 ⟨many,rfl,s4⟩
    have m70:0<=(far+11*kk)%70/\(far+11*kk)%70<70:=by omega
    refine⟨Yo (by decide) (by decide),(by show(0:Int)<70;decide),Yo (by omega) (by omega),Yo (by decide) (by decide),zs4,fun t ht=>?_⟩;exact k (.hours who (((far+11*kk)%70-12)*Yh ns+28*JD ns) many) _ _ (s4.trans (Je ht)) (JmB Ja) trivial ⟨hmem,Jps m70.1 m70.2⟩
  refine⟨zs2,fun l1 hl1=>⟨zs2,fun l2 hl2=>?_⟩⟩;refine⟨l2,_,rfl,.inl (SqL.of Ja),rfl,rfl,.inr ⟨_,rfl,l1,_,_,_,rfl,rfl,SqL.of (Je hl2 _ _ Ja),Jtt,near,far,_,rfl,fun ba bs H4 s4 hb good=>?_⟩⟩;have s5:JV H H4:=((s.trans (Je hl1)).trans (Je hl2)).trans s4;clear s4 hl1 hl2;refine nz ⟨fun σ' H'=>∃v,σ'=[some (.ref a),some (.int kk),some (.int near),some (.int far),some (.str who),some (.int (JD ns)),some (.int (Yh ns)),some (.int ((c+5*kk)%16)),none,some v,none,none,none]/\JV H H'/\Jh7 H' v,?_,?_⟩
  .refine⟨a,_,_,.int c,rfl,rfl,s5.seq ha,hc,(by show(0:Int)<19;decide),rfl,_,rfl,?_⟩;refine JY (fun _=>?_) (fun _=>⟨_,rfl,s5,ba,bs,rfl,hb,good.b⟩);exact⟨ba,bs,_,rfl,hb,good.b,good.wf.ne,good.len,fun v H5 s6 av=>⟨v,rfl,s5.trans s6,av⟩⟩
  rintro σ' H5 ⟨v,rfl,s6,ba2,bs2,rfl,hb2,bb2⟩;clear s5 hb good s;generalize(c+5*kk)%16=pick at hp0 ⊢;refine fun _ ny=>⟨_,rfl,?_⟩;refine JY (fun _=>?_) (fun _=>ny fun _ ny=>?_)
  .have m10:0<=(far+kk)%10/\(far+kk)%10<10:=by omega
   refine⟨(by show(0:Int)<10;decide),Yo (by omega) (by omega),Yo (by decide) (by decide),zs3,fun t ht=>?_⟩;exact k (.rate (((far+kk)%10-3)*Yh ns+4*JD ns) bs2) _ _ (s6.trans (Je ht)) (JpB Ja (hb2.same (Je ht))) bb2 trivial
  refine⟨_,rfl,?_⟩;refine JY (fun _=>fun _ nq=>?_) (fun _=>ny fun _ ny=>?_)
  .have tb:∀{H':Hp}{t:Addr}{top per:Int},JV H5 H'->H' t=some (.tup [.ref ba2,.int top,.int per])->per.natAbs<10^62->Js2 H' (.ref t):=fun s h p=>⟨_,ba2,(bs2,_,_),rfl,h,hb2.same s,bb2,p⟩
   have m40:0<=far%40/\far%40<40:=by omega
   refine⟨(by show(0:Int)<60;decide),(by show(0:Int)<40;decide),zs3,fun t1 ht1=>?_⟩;refine nq ⟨fun σ' H'=>∃v10,σ'=[some (.ref a),some (.int kk),some (.int near),some (.int far),some (.str who),some (.int (JD ns)),some (.int (Yh ns)),some (.int pick),none,some (.ref ba2),some v10,none,none]/\JV H5 H'/\Js2 H' v10,?_,?_⟩
   .refine⟨a,_,_,.int c,rfl,rfl,(s6.trans (Je ht1)).seq ha,hc,(by show(0:Int)<23;decide),rfl,_,rfl,?_⟩;refine JY (fun _=>?_) (fun _=>⟨_,rfl,Je ht1,tb (Je ht1) Ja (by omega)⟩)
    obtain⟨top,htop⟩:∃top,atI [V.int (-1),V.int 0,V.int (0-near%10^(60:Int).toNat)] (near%3)=some (.int top):=by
     have m3:near%3=0\/near%3=1\/near%3=2:=by omega
     rcases m3 with h|h|h<;>rw[h]<;>exact⟨_,rfl⟩
    obtain⟨per,hper,hpb⟩:=Juy far;refine⟨⟨by decide,by decide,by decide⟩,(by show(0:Int)<10^(60:Int).toNat;decide),zs3,fun l1 hl1=>⟨(by show(0:Int)<3;decide),l1,_,_,.int top,rfl,rfl,SqL.of Ja,htop,⟨by decide,by decide,by decide⟩,(by show(0:Int)<10^(60:Int).toNat;decide),zs3,fun l2 hl2=>⟨(by show(0:Int)<3;decide),l2,_,_,.int per,rfl,rfl,SqL.of Ja,hper,zs3,fun t2 ht2=>?_⟩⟩⟩;have sx:=(((Je ht1).trans (Je hl1)).trans (Je hl2)).trans (Je (o:=HO.tup [V.ref ba2,V.int top,V.int per]) ht2);exact⟨_,rfl,sx,tb sx Ja hpb⟩
   rintro σ' H6 ⟨v10,rfl,s7,av⟩;clear ht1;refine⟨fun σ' H'=>∃v10,σ'=[some (.ref a),some (.int kk),some (.int near),some (.int far),some (.str who),some (.int (JD ns)),some (.int (Yh ns)),some (.int pick),none,some (.ref ba2),some v10,none,none]/\JV H5 H'/\Js2 H' v10,?_,?_⟩
   .refine⟨a,_,_,.int c,rfl,rfl,(s6.trans s7).seq ha,hc,(by show(0:Int)<23;decide),rfl,_,rfl,?_⟩;refine JY (fun _=>?_) (fun _=>⟨_,rfl,s7,av⟩);refine⟨zs2,fun p1 hp1=>⟨zs2,fun p2 hp2=>⟨zs2,fun p3 hp3=>⟨zs3,fun p4 hp4=>?_⟩⟩⟩⟩;have u2:=Je (o:=HO.tup [V.non,V.int 3]) hp2;have u3:=Je (o:=HO.tup [V.ref p1,V.ref p2]) hp3;have u4:=Je (o:=HO.tup [V.ref p3,V.int 1,V.int 1]) hp4;exact⟨_,rfl,s7.trans ((((Je (o:=HO.tup [V.int 9,V.int 101]) hp1).trans u2).trans u3).trans u4),p4,p3,([(some 9,101),(none,3)],1,1),rfl,Ja,Jy.mpr ⟨p3,_,rfl,u4 _ _ Ja,_,_,rfl,⟨p1,_,rfl,u4 _ _ (u3 _ _ (u2 _ _ Ja)),_,_,rfl,rfl,_,_,rfl,rfl,rfl⟩,_,_,rfl,⟨p2,_,rfl,u4 _ _ (u3 _ _ Ja),_,_,rfl,rfl,_,_,rfl,rfl,rfl⟩,rfl⟩,⟨⟨by decide,by decide⟩,by decide⟩⟩
   rintro σ' H7 ⟨v10,rfl,s8,av⟩;clear s7;refine⟨fun σ' H'=>∃v10 v11,σ'=[some (.ref a),some (.int kk),some (.int near),some (.int far),some (.str who),some (.int (JD ns)),some (.int (Yh ns)),some (.int pick),none,some (.ref ba2),some v10,v11,none]/\JV H5 H'/\Js2 H' v10,?_,?_⟩
   .refine⟨a,_,_,.int c,rfl,rfl,(s6.trans s8).seq ha,hc,(by show(0:Int)<23;decide),rfl,_,rfl,?_⟩;refine JY (fun _=>fun _ nv=>?_) (fun _=>⟨_,_,rfl,s8,av⟩)
    obtain⟨top,htop⟩:∃top,atI [V.int 9,V.int (near%(10^(50:Int).toNat*10^(50:Int).toNat-1))] (near%2)=some (.int top):=by
     have m2:near%2=0\/near%2=1:=by omega
     rcases m2 with h|h<;>rw[h]<;>exact⟨_,rfl⟩
    obtain⟨per,hper,hpb⟩:=Jux far;refine⟨⟨by decide,by decide,by decide⟩,⟨by decide,by decide,by decide⟩,.inr ⟨by decide +kernel,by decide +kernel⟩,(by show(0:Int)<10^(50:Int).toNat*10^(50:Int).toNat-1;decide +kernel),zs2,fun l1 hl1=>⟨(by show(0:Int)<2;decide),l1,_,_,.int top,rfl,rfl,SqL.of Ja,htop,?_⟩⟩;refine nv ⟨⟨by decide,by decide,by decide⟩,(by show(0:Int)<10^(60:Int).toNat;decide),zs2,fun l2 hl2=>⟨(by show(0:Int)<2;decide),l2,_,_,.int per,rfl,rfl,SqL.of Ja,hper,zs3,fun t3 ht3=>?_⟩⟩;have sx:=((s8.trans (Je hl1)).trans (Je hl2)).trans (Je (o:=HO.tup [V.ref ba2,V.int top,V.int per]) ht3);exact⟨_,_,rfl,sx,tb sx Ja hpb⟩
   rintro σ' H8 ⟨v10,v11,rfl,s9,ta,tc,T,rfl,hT,hTb,hTB⟩
   have m4:0<=(far+kk)%4/\(far+kk)%4<4:=by omega
   refine⟨(by show(0:Int)<4;decide),Yo (by omega) (by omega),zs3,fun t ht=>?_⟩;exact k (.dues (((far+kk)%4-1)*Yh ns+JD ns) T) _ _ ((s6.trans s9).trans (Je ht)) (Jo4 Ja (Jq0 (Je ht _ _ hT) (hTb.same (Je ht)))) hTB trivial
  have m9:0<=(near+kk/2)%9/\(near+kk/2)%9<9:=by omega
  refine⟨⟨by decide,by decide⟩,(by show(0:Int)<9;decide),Yo (by omega) (by omega),Yo (by decide) (by decide),?_⟩;refine ny fun _ ny=>⟨_,rfl,?_⟩;refine JY (fun _=>?_) (fun h12=>ny fun _ ny=>?_)
  .have hap:=JhD ns;obtain⟨q,hq,hq0,hq1⟩:∃q:Int,(if kk/4<8 then kk/4 else 8)=q/\0<=q/\q<=8:=⟨_,rfl,by split<;>omega,by split<;>omega⟩
   refine⟨⟨by decide,by decide⟩,_,_,rfl,(by show(0:Int)<4;decide),Yo (by show -1000<=(if kk/4<8 then kk/4 else 8)+far%4-2;omega) (by show(if kk/4<8 then kk/4 else 8)+far%4-2<=1000;omega),Yo (by decide) (by decide),zs3,fun t ht=>?_⟩;refine k (.payday who (((if kk/4<8 then kk/4 else 8)+far%4-2)*Yh ns+4*JD ns)) _ _ (s6.trans (Je ht)) ⟨t,_,rfl,Ja,_,_,rfl,rfl,_,_,rfl,rfl,_,_,rfl,rfl,rfl⟩ trivial ⟨hmem,?_⟩;rw[hq]
   rcases hap with e|e<;>rw[e]<;>omega
  obtain⟨nm,d,hat,hrep,dok,fine⟩:=JsB hmem (((near+kk/2)%9-2)*Yh ns+4*JD ns) h12 hp0.2;refine⟨rfl,_,rfl,?_⟩;refine JY (fun h15=>?_) (fun h15=>?_)
  .refine⟨(by show(0:Int)<2;decide),rfl,_,rfl,?_⟩;refine JY (fun _=>?_) (fun _=>ny ?_)
   .refine⟨zs2,fun t ht=>?_⟩;exact k (.paid who) _ _ (s6.trans (Je ht)) ⟨t,_,rfl,Ja,_,_,rfl,rfl,_,_,rfl,rfl,rfl⟩ trivial hmem
   .refine⟨zs4,fun l hl=>⟨l,_,_,.str nm,rfl,rfl,SqL.of Ja,hat,zs3,fun t ht=>?_⟩⟩;exact k d _ _ ((s6.trans (Je hl)).trans (Je ht)) (hrep Ja) dok fine
  .refine Jdv ?_;refine ny ⟨zs4,fun l hl=>⟨l,_,_,.str nm,rfl,rfl,SqL.of Ja,hat,zs3,fun t ht=>?_⟩⟩;exact k d _ _ ((s6.trans (Je hl)).trans (Je ht)) (hrep Ja) dok fine
end
section
variable {P:Ab} {w:At} {K:WF} {mg:Str→Option A3} {base:Heap} {CB CP fBI fPI CH CN CT:Addr}
structure Jtg(H:Hp)(l:Addr)(ns:List Int)(vs:List V)(ds:List JU):Prop where
 at_:H l=some (.lst vs)
 rep:Yv H (ds.map YR) vs
 len:ds.length=ns.length
 ok:∀d∈ds,Jal d/\Jnc ns d
inductive Ji6(vs:List V)(H:Hp)(Q:VK):Prop
 | mk (a:Addr) (ns:List Int) (h1:vs=[.ref a]) (h2:SqL K H a (ns.map V.int)) (h3:ns.length<=63) (h4:∀l us ds H',JV H H'->H l=none->Jtg H' l ns us ds->Q (.ref l) H'):Ji6 vs H Q
def Ji8:Sp:=fun vs H Q _=>Ji6 (K:=K) vs H Q
theorem JlN{f f1:Addr}{fd fd1:Aa}(F:Fun K "_law_written" "_law_written" Ja5 f fd)(Z:Zs mg)
  (Jep:JK P w K mg base "_law_penned" ["_law_cells", "_law_k"] (JkZ (K:=K)) 2 f1 fd1):YU P w K mg base CX0 3 f fd ["_law_cells"] (Ji8 (K:=K)):=by
 refine F.ok Jjj (fun vs H Q E h=>?_) (fun cdv A outer s0 H vs Q E hr h=>?_)
 .obtain⟨_,_,rfl,_⟩:=h;rfl
 .obtain⟨a,ns,rfl,ha,hlen,k⟩:=h;refine⟨_,(Jf (Jp (JcQ ["_law_k", "_law_cells"] [none,some 0] rfl Jdl (JbU rfl Z.z_range (pa1 (Jn JM (by rfl) Z.z_len JaY (pa1 (pw 0))))) (fun _ _ _ _=>(pgn 0 Jdl.nd)) (fun _ _ _ _=>Jdp) (fun _ _ _ _=>(Js Jep hr (Jb (pw 1) (pa1 (pw 0)))))))),?_⟩;refine⟨a,_,rfl,.inl ha,(ns.length:Int),by rw[A2],by omega,by omega,fun ml hml=>?_⟩
  refine JgN (fun i ys σ' H'=>∃(v0:Option V)(ds:List JU),σ'=[v0,some (.ref a)]/\JV H H'/\H' ml=some (.lst ys)/\ds.length=i/\Yv H' (ds.map YR) ys/\∀d∈ds,Jal d/\Jnc ns d)
   ⟨none,[],rfl,Je hml,Ja,rfl,rfl,fun _ h=>nomatch h⟩ ?_ ?_
  .rintro i ys σ' H2 hi ⟨v0,ds,rfl,s2,hac,hdl,rp,hok⟩
   have hi:i<ns.length:=by have:i<(ns.length:Int).toNat:=hi;omega
   have hyl:ys.length=i:=by rw[rp.length,A2,hdl]
   refine⟨Jz (by omega),?_⟩;dsimp only[Jcz,JfX];rw[if_pos rfl];refine⟨a,ns,_,rfl,s2.seq ha,(by show(0:Int)<=0+(i:Int);omega),(by show(0:Int)+(i:Int)<_;omega),fun d v H5 s5 r dok fine=>⟨s5 _ _ hac,_,ds++[d],rfl,JQ (s2.trans s5) hml,Ja,by rw[AQ,hdl];rfl,?_,fun e he=>?_⟩⟩
   .have sx:YY H5 (upd H5 ml (.lst (ys++[v]))):=YY.lst (s5 _ _ hac);rw[AJ];exact Yv.snoc (Yv.sameT sx (Jba Jaf ds) (rp.same s5)) (Rep.sameT sx (Jaf d) r)
   .rcases Ae.mp he with he|he
    .exact hok e he
    .rw[A5.mp he];exact⟨dok,fine⟩
  .rintro ys σ' H2 ⟨v0,ds,rfl,s2,hac,hdl,rp,hok⟩;exact k ml ys ds H2 s2 hml ⟨hac,rp,by have:ds.length=(ns.length:Int).toNat:=hdl;omega,hok⟩
end
section
variable {P:Ab} {w:At} {K:WF} {mg:Str→Option A3} {base:Heap} {CB CP fBI fPI CH CN CT:Addr}
inductive JmN(vs:List V)(H:Hp)(Q:VK):Prop
 | mk (n:Int) (a:Addr) (bs:List Bd) (h1:vs=[.int n,.ref a]) (h2:JG H a bs) (h3:bs.length<=1000) (h4:∀l H',H l=none->JV H H'->H' l=some (.lst ((pgo n 0 bs).map V.int))->Q (.ref l) H'):JmN vs H Q
def Jmc:Sp:=fun vs H Q _=>JmN vs H Q
theorem JpI{f:Addr}{fd:Aa}(F:Fun K "parts_of" "parts_of" Jdf f fd)(Z:Zs mg):YU P w K mg base CX0 1 f fd ["amount", "bands"] Jmc:=by
 refine F.ok YQ (fun vs H Q E h=>?_) (fun cdv A outer s H vs Q E hr h=>?_)
 .obtain⟨n,a,bs,rfl,_⟩:=h;rfl
 .obtain⟨n,a,bs,rfl,⟨ps,ha,hpl,hp⟩,hlen,k⟩:=h
  refine⟨_,(Jd (Jk 2 YQ.nd (J3 JR))
   (Jd (Jk 3 YQ.nd (pw 0))
   (Jd (Jk 4 YQ.nd Jc)
   (Jd (Jan AD rfl (JfS (pw 1)) (pgn 5 YQ.nd) (Jd (Jk 6 YQ.nd (Jo JE (pw 5) Jc))
   (Jf (JL (Jai (Jcw (pw 6))) (Jf (JaL (Jho B6 BW BQ Jaq (pw 2) (pa1 (pw 3))))) (Jd (Jk 7 YQ.nd (Jn (Jd1 rfl) (by rfl) Z.z_min Jlj (Jb (pw 3) (pa1 (Jj J6 (pw 6) (pw 4))))))
   (Jd (JaL (Jho B6 BW BQ Jaq (pw 2) (pa1 (pw 7))))
   (Jd (Jk 3 YQ.nd (Jj J6 (pw 3) (pw 7)))
   (Jf (Jk 4 YQ.nd (pw 6))))))))))
   (Jf (Jp (pw 2))))))),fun _ nz=>?_⟩
  refine⟨(AA _:([]:List V).length<=AK),fun l hl=>?_⟩
  refine nz fun _ nz=>nz fun _ nz=>nz fun _ nz=>⟨a,rfl,⟨_,SqT.of (Je hl _ _ ha)⟩,JfI (K:=K) (a:=a) (xs:=ps.map V.ref) (fun i σ H2=>∃(left floor:Int)(done:List Int)(v5 v6 v7:Option V),
   σ=[some (.int n),some (.ref a),some (.ref l),some (.int left),some (.int floor),v5,v6,v7]/\JV H H2/\H2 l=some (.lst (done.map V.int))/\done.length=i/\done++pgo left floor (bs.drop i)=pgo n 0 bs)
   ⟨n,0,[],none,none,none,rfl,Je hl,Ja,rfl,rfl⟩ (fun i σ H2 _ ⟨_,_,_,_,_,_,_,s2,_⟩ =>SqT.of (s2 _ _ ha)) ?_ ?_⟩
  .rintro i y σ H2 hi ⟨left,floor,done,v5,v6,v7,rfl,s2,h2,hd,he⟩;rw[Ax]at hi;obtain⟨p,hp',rfl⟩:=Ak.mp hi;have hil:i<bs.length:=hpl ▸ (A7.mp hp').1;obtain⟨b,hb⟩:∃b,bs[i]?=some b:=⟨bs[i],A1 hil⟩;have hpt:=s2 _ _ (hp i p b hp' hb);have hsz:(done.map V.int).length<AK:=Jz (by rw[A2];omega);refine fun _ ny=>⟨p,_,0,oV b.1,rfl,rfl,SqT.of hpt,Jl (j:=0) rfl,?_⟩;refine ny ⟨_,rfl,?_⟩;obtain⟨bu,be⟩:=b;have hdr:=JcV hb;rw[hdr]at he
   cases bu with
   | none=>
    refine JY (fun _=>?_) (fun h=>absurd (decide_eq_true rfl) h);refine⟨.inl ⟨rfl,_,SqL.of h2⟩,l,_,_,rfl,rfl,h2,hsz,?_⟩;exact⟨left,floor,done++[left],_,_,_,rfl,JQ s2 hl,by rw[Ja,AJ];rfl,by rw[AQ,hd];rfl,by rw[C5];exact he⟩
   | some u=>
    refine JY (fun h=>absurd (of_decide_eq_true h) (fun z=>nomatch z)) (fun _=>fun _ nq=>?_);refine⟨left,u-floor,rfl,?_⟩;refine nq fun _ nq=>⟨.inl ⟨rfl,_,SqL.of h2⟩,l,_,_,rfl,rfl,h2,hsz,?_⟩;refine nq fun _ nq=>nq ?_;exact⟨_,_,done++[if u-floor<left then u-floor else left],_,_,_,rfl,JQ s2 hl,by rw[Ja,AJ];rfl,by rw[AQ,hd];rfl,by rw[C5];exact he⟩
  .rintro σ H2 ⟨left,floor,done,v5,v6,v7,rfl,s2,h2,hd,he⟩;refine nz (k l H2 hl s2 ?_);rw[A2,hpl,Fo]at he;rw[h2,<- he];simp[pgo]
inductive Joq(vs:List V)(H:Hp)(Q:VK):Prop
 | mk (n:Int) (a:Addr) (bs:List Bd) (h1:vs=[.int n,.ref a]) (h2:Jtk H n a bs) (h3:∀H',JV H H'->Q (.int (lv n 0 bs)) H'):Joq vs H Q
def Jj4:Sp:=fun vs H Q _=>Joq vs H Q
theorem Jpe{f f1:Addr}{fd fd1:Aa}(F:Fun K "worth" "worth" JeP f fd)(Z:Zs mg)(JeM:JK P w K mg base "parts_of" ["amount", "bands"] Jmc 1 f1 fd1):YU P w K mg base CX0 2 f fd ["amount", "bands"] Jj4:=by
 refine F.ok JoM (fun vs H Q E h=>?_) (fun cdv A outer s0 H vs Q E hr h=>?_)
 .obtain⟨n,a,bs,rfl,_⟩:=h;rfl
 .obtain⟨n,a,bs,rfl,c,k⟩:=h;refine⟨_,(Jf (Jp (Jn (Jca rfl) (by rfl) Z.z_sum JeS (pa1 (JcQ ["part", "pair"] [none,none] rfl Jey (JsL rfl Z.z_zip (Jb (Js JeM hr (Jb (pw 0) (pa1 (pw 1)))) (pa1 (pw 1)))) (fun _ _ _ _=>(show PG _ _ (Jt3 K 2 (Jqu (Jcz 0) (Jqu (Jcz 1) Jt9))) from Je1 rfl (Yx (pgn 0 Jey.nd) (Yx (pgn 1 Jey.nd) JcW)))) (fun _ _ _ _=>Jdp) (fun _ _ _ _=>(Jj Ye (pw 0) (Jo (show IxR _ (JqD K) from JE) (pw 1) Jc)))))))),?_⟩;refine⟨n,a,bs,rfl,c.at_,c.len,fun lp H1 hlp s1 hf=>?_⟩;obtain⟨ps,ha,hpl,hp⟩:=c.at_.same s1;refine⟨lp,a,rfl,⟨_,SqL.of hf⟩,⟨_,SqT.of ha⟩,fun acc hacc=>?_⟩
  have hl1:((pgo n 0 bs).map V.int).length=(ps.map V.ref).length:=by rw[A2,A2,Jf4,hpl]
  refine Jpn (K:=K) (xs:=(pgo n 0 bs).map V.int) (ys:=ps.map V.ref) hl1
   (fun i zs σ' H'=>∃(v0 v1:Option V),σ'=[v0,v1]/\JV H1 H'/\H' acc=some (.lst zs)/\i<=bs.length/\zs=((wgo n 0 bs).take i).map V.int)
   ⟨_,_,rfl,Je hacc,Ja,AA _,rfl⟩ (fun _ _ _ _ ⟨_,_,_,s2,_⟩ =>⟨SqL.of (s2 _ _ hf),SqT.of (s2 _ _ ha)⟩) ?_ (fun i zs σ' H' ⟨_,_,_,_,_,hi,e⟩ =>?_) ?_
  .rintro i x y t zs σ' H' hx hy ⟨v0,v1,rfl,s2,hac,hib,rfl⟩ ht;rw[Ax]at hx hy;obtain⟨pt,hpt,rfl⟩:=Ak.mp hx;obtain⟨p,hpp,rfl⟩:=Ak.mp hy;have hil:i<bs.length:=hpl ▸ (A7.mp hpp).1;obtain⟨b,hb⟩:∃b,bs[i]?=some b:=⟨bs[i],A1 hil⟩;have u2:=Je (o:=HO.tup [V.int pt,V.ref p]) ht;have hpt2:=u2 _ _ (s2 _ _ (hp i p b hpp hb));obtain⟨e0,e1⟩:=c.each b (Au hb);obtain⟨p0,p1⟩:=Jio bs n 0 c.wf c.n0 pt (Au hpt);have hc1:=c.n1
   have hw:(wgo n 0 bs)[i]?=some (pt*b.2):=by
    unfold wgo;rw[Ax,(EL (z:=(pt,b))).mpr ⟨hpt,hb⟩];rfl
   refine⟨Jz (by rw[A2,Ao];have:=c.len;omega),?_⟩;refine⟨t,_,rfl,SqT.of Ja,rfl,_,_,rfl,_,_,rfl,rfl,?_⟩;dsimp only[JfX];rw[if_pos rfl];refine⟨p,_,1,.int b.2,rfl,rfl,SqT.of hpt2,Jl (j:=1) rfl,.inr ⟨Jg5 p0 (by omega),Jg5 e0 (by omega)⟩,u2 _ _ hac,?_⟩;refine⟨_,_,rfl,JQ (s2.trans u2) hacc,Ja,hil,?_⟩;rw[Ap,hw,AJ];rfl
  .subst e;exact Jz (by rw[A2,Ao];have:=c.len;omega)
  .rintro zs σ' H' ⟨v0,v1,rfl,s2,hac,_,rfl⟩
   have hwl:(wgo n 0 bs).length=bs.length:=by
    unfold wgo;rw[A2,List.length_zip,Jf4,Nat.min_self]
   have e:(wgo n 0 bs).take ((pgo n 0 bs).map V.int).length=wgo n 0 bs:=AC (by rw[A2,Jf4,hwl];exact A6 _);rw[e]at hac;refine⟨acc,wgo n 0 bs,rfl,SqL.of hac,?_⟩;rw[Jsb c.n0 c.wf];exact k H' (s1.trans s2)
inductive Jk2(vs:List V)(H:Hp)(Q:VK):Prop
 | mk (pay top per:Int) (h1:vs=[.int pay,.int top,.int per]) (h2:0<per) (h3:per<10^102) (h4:Q (.int (Jm9 pay top per)) H):Jk2 vs H Q
def Jkq:Sp:=fun vs H Q _=>Jk2 vs H Q
theorem Jnh{f:Addr}{fd:Aa}(F:Fun K "relief_of" "relief_of" Jcf f fd)(Z:Zs mg):YU P w K mg base CX0 1 f fd ["pay", "top", "per"] Jkq:=by
 refine F.ok Jis (fun vs H Q E h=>?_) (fun cdv A outer s0 H vs Q E hr h=>?_)
 .obtain⟨a,b,c,rfl,_⟩:=h;rfl
 .obtain⟨pay,top,per,rfl,h0,h1,k⟩:=h;refine⟨_,(Jf (Jp (Jn (JbC rfl) (by rfl) Z.z_max JeX (Jb Jc (pa1 (Jj J6 (pw 1) (Jj Y3 (pw 0) (pw 2)))))))),?_⟩;exact⟨⟨h0,Jg5 (by omega) (by omega)⟩,0,_,rfl,k⟩
inductive JpQ(vs:List V)(H:Hp)(Q:VK):Prop
 | mk (pay:Int) (t:Addr) (bs:List Bd) (top per:Int) (h1:vs=[.int pay,.ref t]) (h2:Jt6 H t pay bs top per) (h3:∀H',JV H H'->Q (.int (due pay bs top per)) H'):JpQ vs H Q
def JpU:Sp:=fun vs H Q _=>JpQ vs H Q
theorem JsF{f f1 f2:Addr}{fd fd1 fd2:Aa}(F:Fun K "due_of" "due_of" Jfg f fd)(Z:Zs mg)(JeG:JK P w K mg base "worth" ["amount", "bands"] Jj4 2 f1 fd1)
  (JdA:JK P w K mg base "relief_of" ["pay", "top", "per"] Jkq 1 f2 fd2):YU P w K mg base CX0 3 f fd ["pay", "table"] JpU:=by
 refine F.ok Jih (fun vs H Q E h=>?_) (fun cdv A outer s0 H vs Q E hr h=>?_)
 .obtain⟨a,b,c,d,e,rfl,_⟩:=h;rfl
 .obtain⟨pay,t,bs,top,per,rfl,⟨⟨a,ht,c⟩,p0,p1⟩,k⟩:=h
  refine⟨_,(Jd (Jk 2 Jih.nd (Jj Y3 (Js JeG hr (Jb (pw 0) (pa1 (Jo JE (pw 1) Jc)))) Jc))
   (Jf (Jp (Jn (JbC rfl) (by rfl) Z.z_max JeX (Jb Jc (pa1 (Jj J6 (pw 2) (Js JdA hr (Jb (pw 0) (Jb (Jo JE (pw 1) Jc) (pa1 (Jo JE (pw 1) Jc)))))))))))),fun _ nz=>?_⟩
  refine⟨t,_,0,.ref a,rfl,rfl,SqT.of ht,Jl (j:=0) rfl,pay,a,bs,rfl,c,fun H1 s1=>?_⟩;have ht1:=s1 _ _ ht;refine⟨⟨by decide,by decide⟩,?_⟩;refine nz ⟨t,_,1,.int top,rfl,rfl,SqT.of ht1,Jl (j:=1) rfl,t,_,2,.int per,rfl,rfl,SqT.of ht1,Jl (j:=2) rfl,pay,top,per,rfl,p0,p1,0,_,rfl,k H1 s1⟩
inductive Jqg(vs:List V)(H:Hp)(Q:VK):Prop
 | mk (d:Addr) (w:Int) (kvs:List (Key×V)) (ks:List Int) (h1:vs=[.ref d,.int w]) (h2:H d=some (.dK kvs)) (h3:kvs.map (·.1)=ks.map Aj) (h4:ks.length<=1000) (h5:∀H',JV H H'->(Yc w none ks=none->Q .non H')/\∀k v,Yc w none ks=some k->Jak kvs (Aj k)=some v->Q v H'):Jqg vs H Q
def Jns:Sp:=fun vs H Q _=>Jqg vs H Q
theorem Jsp{kvs:List (Key×V)}{ks:List Int}(hk:kvs.map (·.1)=ks.map Aj){i:Nat}{k:Key}{v:V}(h:kvs[i]?=some (k,v)):∃n,ks[i]?=some n/\k=Aj n:=by
 have e:(kvs.map (·.1))[i]?=some k:=by rw[Ax,h];rfl
 rw[hk,Ax]at e;obtain⟨n,h1,h2⟩:=Ak.mp e;exact⟨n,h1,h2.symm⟩
theorem JqK{kvs:List (Key×V)}{ks:List Int}(hk:kvs.map (·.1)=ks.map Aj){n:Int}(h:n∈ks):∃v,Jak kvs (Aj n:Key)=some v:=by
 have m:(Aj n:Key)∈kvs.map (·.1):=by rw[hk];exact Ag.mpr ⟨n,h,rfl⟩
 obtain⟨p,hp,e⟩:=Ag.mp m;have q:(kvs.any fun kv=>decide (kv.1=(Aj n:Key)))=true:=B9.mpr ⟨p,hp,decide_eq_true e⟩;rw[Jbm]at q;exact BH.mp q
theorem JjY{w:Int}:∀{ks:List Int}{b:Option Int}{k:Int},Yc w b ks=some k->b=some k\/k∈ks
 | [],b,k,h=>by
  cases b<;>exact .inl h
 | p::r,none,k,h=>by
  have h:Yc w (if p<=w then some p else none) r=some k:=h
  rcases JjY h with e|e
  .split at e
   .exact .inr (by rw[Ai e];exact Az)
   .cases e
  .exact .inr (AY _ e)
 | p::r,some c,k,h=>by
  have h:Yc w (if p<=w/\c<p then some p else some c) r=some k:=h
  rcases JjY h with e|e
  .split at e
   .exact .inr (by rw[Ai e];exact Az)
   .exact .inl e
  .exact .inr (AY _ e)
theorem Jlg{w:Int}{ks:List Int}:∀k,Yc w none ks=some k->k∈ks:=fun k h=>(JjY h).elim (fun z=>nomatch z) id
theorem Jls{f:Addr}{fd:Aa}(F:Fun K "holding" "holding" Jb1 f fd)(Z:Zs mg):YU P w K mg base CX0 1 f fd ["tables", "when"] Jns:=by
 refine F.ok JgJ (fun vs H Q E h=>?_) (fun cdv A outer s0 H vs Q E hr h=>?_)
 .obtain⟨d,w,kvs,ks,rfl,_⟩:=h;rfl
 .obtain⟨d,w,kvs,ks,rfl,hd,hk,hks,k⟩:=h;have hu:=JbH hr
  refine⟨_,(Jd (Jhv (JbX (i:=2) ["key", "when"] [none,some 1] JgJ.nd rfl (Ds rfl) rfl JeU (JqB (pw 0)) (fun _ _ _ _=>(pgn 0 JeU.nd)) (fun _ _ _ _=>(Jl6 (Jq JfL (pw 0) (pw 1) (Jv _)))) (fun _ _ _ _=>(pw 0))))
   (Jd (JL (Jbe (JkE (pw 2) (fun _=>rfl))) (Jf (Jp JcK)) Jr)
   (Jf (Jp (YH hu (pw 0) (Jn (Jog rfl) (by rfl) Z.z_max JeX (pa1 (pw 2)))))))),fun _ nz=>?_⟩
  refine⟨d,kvs,rfl,hd,fun o nf acc hacc=>?_⟩
  have hne:d≠acc:=fun e=>by
   rw[<- e,Ja]at hacc;cases hacc
  have hacc0:H acc=none:=by
   rw[Jg hne.symm]at hacc;exact hacc
  have hkl:ks.length=kvs.length:=by
   have:=congrArg Bn hk;simpa using this.symm
  refine Jni (fun i ys σ' H'=>∃(v0:Option V)(ms:List Int),σ'=[v0,some (.int w)]/\H'=upd (upd H d (.frz o (.dK kvs))) acc (.lst ys)/\ys=ms.map V.int/\ms=(ks.take i).filter (fun n=>decide (n<=w)))
   ⟨none,[],rfl,rfl,rfl,rfl⟩ ?_ ?_ ?_
  .rintro i ys σ' H' ⟨v0,ms,rfl,rfl,_⟩;rw[Jg hne,Ja]
  .rintro i k v ys σ' H' hkv ⟨v0,ms,rfl,rfl,rfl,rfl⟩;obtain⟨n,hn,rfl⟩:=Jsp hk hkv
   have ht:ks.take (i+1)=ks.take i++[n]:=by rw[Ap,hn];rfl
   refine⟨Jz ?_,?_⟩
   .rw[A2];refine B0 (BK _ _) ?_;rw[Ao];omega
   .dsimp only[Jcz];refine⟨_,rfl,?_⟩;refine JY (fun h=>?_) (fun h=>?_)
    .refine⟨Ja,_,(ks.take i).filter (fun n=>decide (n<=w))++[n],rfl,Jdw,by rw[AJ];rfl,?_⟩;rw[ht,Bv,Cw,if_pos h];rfl
    .refine⟨_,_,rfl,rfl,rfl,?_⟩;rw[ht,Bv,Cw,if_neg h,Gy,Be]
  .rintro ys σ' H' ⟨v0,ms,rfl,rfl,rfl,hms⟩;rw[<- hkl,B3]at hms
   have hd':upd (upd H d (.frz o (.dK kvs))) acc (.lst (ms.map V.int)) d=some (.frz o (.dK kvs)):=by rw[Jg hne,Ja]
   refine .inr ⟨d,o,kvs,hd',nf,?_⟩
   have hs:JV H (upd (upd (upd H d (.frz o (.dK kvs))) acc (.lst (ms.map V.int))) d (.dK kvs)):=fun b ob e=>by
    by_cases hb:b=d
    .rw[hb,Ja,<- hd,<- hb];exact e
    .rw[Jg hb,Jg (Jh e hacc0),Jg hb];exact e
   have ha:upd (upd (upd H d (.frz o (.dK kvs))) acc (.lst (ms.map V.int))) d (.dK kvs) acc=some (.lst (ms.map V.int)):=by rw[Jg hne.symm,Ja]
   have hdd:upd (upd (upd H d (.frz o (.dK kvs))) acc (.lst (ms.map V.int))) d (.dK kvs) d=some (.dK kvs):=Ja;refine nz fun _ nz=>⟨_,.inl ⟨_,SqL.of ha,rfl⟩,?_⟩
   have hmem:∀n,n∈ms↔n∈ks/\n<=w:=fun n=>by rw[hms,B5,decide_eq_true_eq]
   obtain⟨k1,k2⟩:=k _ hs
   by_cases he:ms=[]
   .refine JY (fun _=>?_) (fun h=>absurd (by rw[he];rfl) h);exact k1 (JqX (fun n h1 h2=>by have:=(hmem n).mpr ⟨h1,h2⟩;rw[he]at this;cases this) Jlg)
   .refine JY (fun h=>absurd h (by cases ms with|nil=>exact absurd rfl he|cons _ _=>simp)) (fun _=>nz ?_)
    refine⟨acc,ms,rfl,SqL.of ha,he,fun M hM hmax=>?_⟩;obtain⟨hM1,hM2⟩:=(hmem M).mp hM;obtain⟨v,hv⟩:=JqK hk hM1;refine⟨d,v,rfl,by rw[<- hv];exact JcC.k (k:=Aj M) hdd,k2 M v (JqQ hM1 hM2 (fun n h1 h2=>hmax n ((hmem n).mpr ⟨h1,h2⟩)) Jlg) hv⟩
inductive Jmu(vs:List V)(H:Hp)(Q:VK):Prop
 | mk (a:Addr) (bs:List Bd) (h1:vs=[.ref a]) (h2:JG H a bs) (h3:bs.length<=1000) (h4:∀H',JV H H'->Q (.bl (JaX none bs)) H'):Jmu vs H Q
def JjL:Sp:=fun vs H Q _=>Jmu vs H Q
theorem JhR{f:Addr}{fd:Aa}(F:Fun K "good_bands" "good_bands" JaB f fd)(Z:Zs mg):YU P w K mg base CX0 1 f fd ["bands"] JjL:=by
 refine F.ok JaO (fun vs H Q E h=>?_) (fun cdv A outer s0 H vs Q E hr h=>?_)
 .obtain⟨a,bs,rfl,_⟩:=h;rfl
 .obtain⟨a,bs,rfl,hb,hlen,k⟩:=h;obtain⟨ps,ha,hpl,hp⟩:=hb
  refine⟨_,(Jd (JL (PW.pt (JbO (Jbe (JkE (pw 0) (fun _=>rfl))) (JaW (Jai (JbQ (Jo JE (Jo JE (pw 0) (JcU (op:=.USub) Jaj Jc)) Jc)))))) (Jf (Jp JaE)) Jr)
   (Jd (Jk 1 JaO.nd Jc)
   (Jd (Jan AD rfl (JfS (J8 Jdk (pw 0) YL (J2 (JcU (op:=.USub) Jaj Jc)))) (pgn 2 JaO.nd) (Jd (Jk 3 JaO.nd (Jo JE (pw 2) Jc))
   (Jd (JL (PW.pt (JbO (Jai (Jcw (pw 3))) (JaW (Jq JfL (pw 3) (pw 1) (Jv _))))) (Jf (Jp JaE)) Jr)
   (Jf (Jk 1 JaO.nd (pw 3))))))
   (Jf (Jp (Jn (JmM rfl) (by rfl) Z.z_all JsD (pa1 (JcQ ["pair"] [none] rfl JcG (JfS (pw 0)) (fun _ _ _ _=>(pgn 0 JcG.nd)) (fun _ _ _ _=>Jdp) (fun _ _ _ _=>(JcZ JmL (Jo (show IxR _ (JqD K) from JE) (pw 0) Jc) Jc (Jv _))))))))))),fun _ nz=>?_⟩
  refine⟨_,.inr (.inl ⟨_,SqT.of ha,rfl⟩),?_⟩
  have no:JaX none bs=false->Q (.bl false) H:=fun e=>by
   have:=k H fun _ _ z=>z;rw[e]at this;exact this
  by_cases he:bs=[]
  .subst he;have hps:ps=[]:=CQ hpl;subst hps;refine Jfa ?_;exact no rfl
  .have hne:ps≠[]:=fun z=>he (CQ (by rw[<- hpl,z];rfl))
   have hemp:(ps.map V.ref).isEmpty=false:=by
    cases ps with
    | nil=>exact absurd rfl hne
    | cons _ _=>rfl
   rw[hemp];refine Jdv ?_;obtain⟨bi,⟨bu,be⟩,hbi⟩:∃(bi:List Bd)(b:Bd),bs=bi++[b]:=⟨bs.dropLast,bs.getLast he,(Ef he).symm⟩;obtain⟨pi,pl,hpi⟩:∃(pi:List Addr)(pl:Addr),ps=pi++[pl]:=⟨ps.dropLast,ps.getLast hne,(Ef hne).symm⟩;subst hbi hpi
   have hil:pi.length=bi.length:=by simpa using hpl
   have hlast:=hp bi.length pl (bu,be) (by rw[<- hil];simp) (by simp);refine⟨a,_,_,.ref pl,rfl,rfl,SqT.of ha,by rw[AJ];exact JoI _ _,pl,_,0,oV bu,rfl,rfl,SqT.of hlast,Jl (j:=0) rfl,_,rfl,?_⟩
   cases bu with
   | some u=>
    refine JY (fun _=>?_) (fun h=>absurd (show(!decide (oV (some u)=V.non))=true by simp[oV]) h);refine no ?_;rw[JcD,Jlc,CJ]
   | none=>
    refine JY (fun h=>absurd h (show¬(!decide (oV none=V.non))=true by simp[oV])) (fun _=>nz fun _ nz=>nz fun _ nz=>?_)
    have hlen':(pi++[pl]).length=pi.length+1:=by simp
    refine⟨a,_,rfl,SqT.of ha,?_,fun c hc=>?_⟩
    .rw[A2,hlen'];intro z;have:=z.2;simp only[HT.sIx]at this;rw[if_pos (by decide)]at this;omega
    have ecut:Je9 ((pi++[pl]).map V.ref) none (some (-1))=pi.map V.ref:=by
     unfold Je9;rw[A2,hlen'];have e1:HT.sIx (pi.length+1) 0 none=0:=rfl
     have e2:HT.sIx (pi.length+1) (pi.length+1) (some (-1))=pi.length:=by
      simp only[HT.sIx];rw[if_pos (by decide)];omega
     rw[e1,e2,M1,AJ,Nat.sub_zero,List.take_append_of_le_length (by simp),AC (by simp)]
    rw[ecut];have s1:=Je (o:=HO.tup (pi.map V.ref)) hc;have hc1:upd H c (HO.tup (pi.map V.ref)) c=some (.tup (pi.map V.ref)):=Ja;generalize upd H c (HO.tup (pi.map V.ref))=H1 at s1 hc1 ⊢
    have no1:JaX none (bi++[(none,be)])=false->Q (.bl false) H1:=fun e=>by
     have:=k H1 s1;rw[e]at this;exact this
    refine⟨c,rfl,⟨_,SqT.of hc1⟩,?_⟩
    refine JfI (K:=K) (xs:=pi.map V.ref) (fun i σ H2=>∃(fl:Int)(v2 v3:Option V),σ=[some (.ref a),some (.int fl),v2,v3]/\H1=H2/\wfb fl ((bi++[(none,be)]).drop i)=wfb 0 (bi++[(none,be)]))
     ⟨0,none,none,rfl,rfl,rfl⟩ (fun _ _ _ _ ⟨_,_,_,_,e,_⟩ =>by rw[<- e];exact SqT.of hc1) ?_ ?_
    .rintro i y σ H2 hi ⟨fl,v2,v3,rfl,rfl,hw⟩;rw[Ax]at hi;obtain⟨p,hpp,rfl⟩:=Ak.mp hi;have hlt:i<bi.length:=hil ▸ (A7.mp hpp).1;obtain⟨⟨u,e⟩,hbb⟩:∃b,(bi++[(none,be)])[i]?=some b:=⟨_,A1 (by simp;omega)⟩;have hpt:=s1 _ _ (hp i p (u,e) (by rw[AU (A7.mp hpp).1];exact hpp) hbb);rw[JcV hbb]at hw;refine fun _ ny=>⟨p,_,0,oV u,rfl,rfl,SqT.of hpt,Jl (j:=0) rfl,?_⟩;refine ny fun _ ny=>⟨_,rfl,?_⟩
     cases u with
     | none=>
      refine Jfa ?_;refine Jfa ?_;refine no1 ?_;have hw:((bi++[(none,be)]).drop (i+1)).isEmpty=wfb 0 (bi++[(none,be)]):=hw;rw[JcD,<- hw]
      have:((bi++[((none:Option Int),be)]).drop (i+1)).isEmpty=false:=by
       rw[List.isEmpty_eq_false_iff];intro z;have:=congrArg Bn z;simp at this;omega
      rw[this,CJ]
     | some u=>
      have hw:(decide (fl<u)&&wfb u ((bi++[(none,be)]).drop (i+1)))=wfb 0 (bi++[(none,be)]):=hw;refine Jdv ?_;refine⟨_,rfl,?_⟩;refine JY (fun h=>?_) (fun h=>ny ?_)
      .have h:=of_decide_eq_true h;refine no1 ?_;rw[JcD,<- hw,decide_eq_false (by omega),CJ,CJ]
      .have h:¬u<=fl:=fun z=>h (decide_eq_true z);refine⟨u,_,_,rfl,rfl,?_⟩;rw[<- hw,decide_eq_true (by omega),FK]
    .rintro σ H2 ⟨fl,v2,v3,rfl,rfl,hw⟩
     have hwt:wfb 0 (bi++[(none,be)])=true:=by
      rw[<- hw,A2,hil];simp[wfb]
     have ha1:=s1 _ _ ha;refine nz ⟨a,rfl,⟨_,SqT.of ha1⟩,fun acc hacc=>?_⟩
     refine Jhr (K:=K) (xs:=(pi++[pl]).map V.ref) (fun i zs σ' H'=>∃(v0:Option V),σ'=[v0]/\JV H1 H'/\H' acc=some (.lst zs)/\zs=(((bi++[((none:Option Int),be)]).take i).map fun b:Bd=>decide (0<=b.2)).map V.bl)
      ⟨_,rfl,Je hacc,Ja,rfl⟩ (fun _ _ _ _ ⟨_,_,s2,_⟩ =>SqT.of (s2 _ _ ha1)) ?_ ?_
     .rintro i x zs σ' H' hx ⟨v0,rfl,s2,hac,rfl⟩;rw[Ax]at hx;obtain⟨p,hpp,rfl⟩:=Ak.mp hx;have hlt:i<(bi++[((none:Option Int),be)]).length:=hpl ▸ (A7.mp hpp).1;obtain⟨b,hbb⟩:∃b,(bi++[((none:Option Int),be)])[i]?=some b:=⟨_,A1 hlt⟩;have hpt:=s2 _ _ (s1 _ _ (hp i p b hpp hbb));refine⟨Jz (by rw[A2,A2,Ao];omega),?_⟩;dsimp only[Jcz,JfX];rw[if_pos rfl];refine⟨p,_,1,.int b.2,rfl,rfl,SqT.of hpt,Jl (j:=1) rfl,hac,?_⟩;refine⟨_,rfl,JQ s2 hacc,Ja,?_⟩;rw[Ap,hbb,AJ,AJ];rfl
     .rintro zs σ' H' ⟨v0,rfl,s2,hac,rfl⟩;refine⟨acc,_,rfl,SqL.of hac,?_⟩;rw[A2,hpl,B3];have:=k H' (s1.trans s2);rw[JcD,hwt,FK]at this;exact this
inductive Jnb(vs:List V)(H:Hp)(Q:VK):Prop
 | mk (a:Addr) (t:Tab) (h1:vs=[.ref a]) (h2:JbG H t (.ref a)) (h3:t.1.length<=1000) (h4:∀H',JV H H'->Q (.bl (Jcx t)) H'):Jnb vs H Q
def Jl5:Sp:=fun vs H Q _=>Jnb vs H Q
theorem Jjg{f f1:Addr}{fd fd1:Aa}(F:Fun K "good_dues" "good_dues" Ja2 f fd)(Z:Zs mg)(G:Gs mg)(JaC:JK P w K mg base "good_bands" ["bands"] JjL 1 f1 fd1):YU P w K mg base CX0 2 f fd ["table"] Jl5:=by
 refine F.ok JeY (fun vs H Q E h=>?_) (fun cdv A outer s0 H vs Q E hr h=>?_)
 .obtain⟨a,t,rfl,_⟩:=h;rfl
 .obtain⟨a,⟨bs,top,per⟩,rfl,⟨a',b,ea,ht,hb⟩,hlen,k⟩:=h;cases ea;have ht:H a=some (.tup [.ref b,.int top,.int per]):=ht;have hb:JG H b bs:=hb;have hlen:bs.length<=1000:=hlen
  refine⟨_,(Jd (Jk 1 JeY.nd (Jo JE (pw 0) Jc))
   (Jd (JL (Jbe (JaP (Js JaC hr (pa1 (pw 1))))) (Jf (Jp JaE)) Jr)
   (Jd (JL (JaP (Jn (Jiq rfl) (by rfl) Z.z_any Jqe (pa1 (JcQ ["pair"] [none] rfl Jdn (JfS (pw 1)) (fun _ _ _ _=>(pgn 0 Jdn.nd)) (fun _ _ _ _=>Jdp) (fun _ _ _ _=>(JcZ JeZ (Jo (show IxR _ (JqD K) from JE) (pw 0) Jc) (JhU rfl G.g_GREATEST_EACH_OF_DUES) (Jv _))))))) (Jf (Jp JaE)) Jr)
   (Jf (Jp (Jp6 (JcZ JmL (Jo JE (pw 0) Jc) Jc (Jv _)) (Joe (JcZ JmL (Jo JE (pw 0) Jc) Jc (Jv _))))))))),fun _ nz=>?_⟩
  refine⟨a,_,0,.ref b,rfl,rfl,SqT.of ht,Jl (j:=0) rfl,?_⟩;refine nz fun _ nz=>⟨b,bs,rfl,hb,hlen,fun H1 s1=>⟨_,rfl,?_⟩⟩;have k1:=fun H' (s:JV H1 H')=>k H' (s1.trans s);have cT:Jcx (bs,top,per)=(JaX (some 100) bs&&decide (0<=top)&&decide (1<=per)):=rfl
  cases hc:JaX none bs with
  | false=>
   refine Jfa ?_;have:=k1 H1 fun _ _ z=>z;rw[cT,JiA,hc,CJ,CJ,CJ]at this;exact this
  | true=>
   refine Jdv ?_;obtain⟨ps,ha,hpl,hp⟩:=hb.same s1;refine nz fun _ nz=>⟨b,rfl,⟨_,SqT.of ha⟩,fun acc hacc=>?_⟩
   refine Jhr (K:=K) (xs:=ps.map V.ref) (fun i zs σ' H'=>∃(v0:Option V),σ'=[v0]/\JV H1 H'/\H' acc=some (.lst zs)/\zs=((bs.take i).map fun b=>decide (100<b.2)).map V.bl)
    ⟨_,rfl,Je hacc,Ja,rfl⟩ (fun _ _ _ _ ⟨_,_,s2,_⟩ =>SqT.of (s2 _ _ ha)) ?_ ?_
   .rintro i x zs σ' H' hx ⟨v0,rfl,s2,hac,rfl⟩;rw[Ax]at hx;obtain⟨p,hpp,rfl⟩:=Ak.mp hx;have hlt:i<bs.length:=hpl ▸ (A7.mp hpp).1;obtain⟨b,hbb⟩:∃b,bs[i]?=some b:=⟨_,A1 hlt⟩;have hpt:=s2 _ _ (hp i p b hpp hbb);refine⟨Jz (by rw[A2,A2,Ao];omega),?_⟩;dsimp only[Jcz,JfX];rw[if_pos rfl];refine⟨p,_,1,.int b.2,rfl,rfl,SqT.of hpt,Jl (j:=1) rfl,hac,?_⟩;refine⟨_,rfl,JQ s2 hacc,Ja,?_⟩;rw[Ap,hbb,AJ,AJ];rfl
   .rintro zs σ' H' ⟨v0,rfl,s2,hac,rfl⟩;refine⟨acc,_,rfl,SqL.of hac,_,rfl,?_⟩;rw[A2,hpl,B3];have k2:=k1 H' s2;rw[cT,JiA,hc,FK]at k2;have ht2:=s2 _ _ (s1 _ _ ht)
    cases hany:((bs.map fun b=>decide (100<b.2)).any id)with
    | true=>
     refine Jfa ?_;rw[hany]at k2;exact k2
    | false=>
     refine Jdv ?_;rw[hany]at k2;refine nz ⟨a,_,1,.int top,rfl,rfl,SqT.of ht2,Jl (j:=1) rfl,_,rfl,?_⟩;have k2:Q (.bl (decide (0<=top)&&decide (1<=per))) H':=k2;refine JY (fun h=>?_) (fun h=>?_)
     .refine⟨a,_,2,.int per,rfl,rfl,SqT.of ht2,Jl (j:=2) rfl,?_⟩;rw[h,FK]at k2;exact k2
     .rw[Kz.mpr h,CJ]at k2;exact k2
inductive Jp5(vs:List V)(H:Hp)(Q:VK):Prop
 | mk (d:Int) (h1:vs=[.int d]) (h2:Q (.int (d/7)) H):Jp5 vs H Q
def Jmy:Sp:=fun vs H Q _=>Jp5 vs H Q
inductive Jma(vs:List V)(H:Hp)(Q:VK):Prop
 | mk (d:Int) (h1:vs=[.int d]) (h2:Q (.int (d/4)) H):Jma vs H Q
def JnO:Sp:=fun vs H Q _=>Jma vs H Q
theorem JlY{f:Addr}{fd:Aa}(F:Fun K "week_of" "week_of" Jeh f fd)(G:Gs mg):YU P w K mg base CX0 1 f fd ["day"] Jmy:=by
 refine F.ok Jlu (fun vs H Q E h=>?_) (fun cdv A outer s0 H vs Q E hr h=>?_)
 .obtain⟨d,rfl,_⟩:=h;rfl
 .obtain⟨d,rfl,k⟩:=h;refine⟨_,(Jf (Jp (Jj Y3 (pw 0) (JhU rfl G.g_DAYS_OF_WEEK)))),?_⟩;exact⟨⟨by decide,by decide⟩,k⟩
theorem JjW{f:Addr}{fd:Aa}(F:Fun K "month_of" "month_of" Jc9 f fd)(G:Gs mg):YU P w K mg base CX0 1 f fd ["week"] JnO:=by
 refine F.ok JjQ (fun vs H Q E h=>?_) (fun cdv A outer s0 H vs Q E hr h=>?_)
 .obtain⟨d,rfl,_⟩:=h;rfl
 .obtain⟨d,rfl,k⟩:=h;refine⟨_,(Jf (Jp (Jj Y3 (pw 0) (JhU rfl G.g_WEEKS_OF_MONTH)))),?_⟩;exact⟨⟨by decide,by decide⟩,k⟩
inductive JkU(vs:List V)(H:Hp)(Q:VK):Prop
 | mk (h wk:Int) (rd:Addr) (rates:List (Int×List Bd)) (h1:vs=[.int h,.int wk,.ref rd]) (h2:Jam (YT H) H rd rates) (h3:JcJ rates) (h4:0<=h) (h5:h<10^102) (h6:∀H',JV H H'->Q (.int (JaU h wk rates)) H'):JkU vs H Q
def Jhs:Sp:=fun vs H Q _=>JkU vs H Q
theorem JsI{bs:List Bd}{m:Option Int}(h:JaX m bs=true)(g:Jbd bs):∀b∈bs,0<=b.2/\b.2<10^62:=fun b hb=>by
 have h0:=(Jck h).2 b hb;have h1:=g.each b hb;constructor
 .exact h0
 .omega
theorem JlG{f f1 f2:Addr}{fd fd1 fd2:Aa}(F:Fun K "pay_for" "pay_for" JdX f fd)(Jce:JK P w K mg base "holding" ["tables", "when"] Jns 1 f1 fd1)
  (JeG:JK P w K mg base "worth" ["amount", "bands"] Jj4 2 f2 fd2):YU P w K mg base CX0 3 f fd ["hours", "week", "rates"] Jhs:=by
 refine F.ok JgR (fun vs H Q E h=>?_) (fun cdv A outer s0 H vs Q E hr h=>?_)
 .obtain⟨_,_,_,_,rfl,_⟩:=h;rfl
 .obtain⟨h,wk,rd,rates,rfl,⟨kvs,hd,pr⟩,ok,h0,h1,k⟩:=h
  refine⟨_,(Jd (Jk 3 JgR.nd (Js Jce hr (Jb (pw 2) (pa1 (pw 1)))))
   (Jd (JL (Jai (Jcw (pw 3))) (Jf (Jp Jc)) Jr)
   (Jf (Jp (Js JeG hr (Jb (pw 0) (pa1 (pw 3)))))))),fun _ nz=>?_⟩
  refine⟨rd,wk,kvs,rates.map (·.1),rfl,hd,Jbx pr,by rw[A2];exact ok.len,fun H1 s1=>⟨fun hn=>?_,fun kk v hk hv=>?_⟩⟩
  .refine nz fun _ nz=>⟨_,rfl,?_⟩;refine JY (fun _=>?_) (fun h=>absurd (decide_eq_true rfl) h);have:=k H1 s1;unfold JaU at this;rw[Jea hn]at this;exact this
  .obtain⟨bs,g,⟨a,rfl,hb⟩,hm⟩:=Jef pr hv;obtain⟨c1,c2⟩:=ok.all _ hm;refine nz fun _ nz=>⟨_,rfl,?_⟩;refine JY (fun h=>absurd (of_decide_eq_true h) (fun z=>nomatch z)) (fun _=>nz ?_);have hl:bs.length<=14:=c2.len;refine⟨_,a,bs,rfl,⟨hb.same s1,(Jck c1).1,by omega,JsI c1 c2,h0,h1⟩,fun H2 s2=>?_⟩;have:=k H2 (s1.trans s2);unfold JaU at this;rw[Jej hk g]at this;exact this
inductive Jkk(vs:List V)(H:Hp)(Q:VK):Prop
 | mk (pay m:Int) (ud:Addr) (dues:List (Int×Tab)) (h1:vs=[.int pay,.int m,.ref ud]) (h2:Jam (JbG H) H ud dues) (h3:Jk7 dues) (h4:0<=pay) (h5:pay<10^102) (h6:∀H',JV H H'->Q (.int (Jd6 pay (Jdm dues m))) H'):Jkk vs H Q
def Jk1:Sp:=fun vs H Q _=>Jkk vs H Q
theorem JlV{f f1 f2:Addr}{fd fd1 fd2:Aa}(F:Fun K "net_for" "net_for" JdV f fd)(Jce:JK P w K mg base "holding" ["tables", "when"] Jns 1 f1 fd1)
  (Jhl:JK P w K mg base "due_of" ["pay", "table"] JpU 3 f2 fd2):YU P w K mg base CX0 4 f fd ["pay", "month", "dues"] Jk1:=by
 refine F.ok Jg0 (fun vs H Q E h=>?_) (fun cdv A outer s0 H vs Q E hr h=>?_)
 .obtain⟨_,_,_,_,rfl,_⟩:=h;rfl
 .obtain⟨pay,m,ud,dues,rfl,⟨kvs,hd,pr⟩,ok,h0,h1,k⟩:=h
  refine⟨_,(Jd (Jk 3 Jg0.nd (Js Jce hr (Jb (pw 2) (pa1 (pw 1)))))
   (Jd (JL (Jai (Jcw (pw 3))) (Jf (Jp (pw 0))) Jr)
   (Jf (Jp (Jj J6 (pw 0) (Js Jhl hr (Jb (pw 0) (pa1 (pw 3))))))))),fun _ nz=>?_⟩
  refine⟨ud,m,kvs,dues.map (·.1),rfl,hd,Jbx pr,by rw[A2];exact ok.len,fun H1 s1=>⟨fun hn=>?_,fun kk v hk hv=>?_⟩⟩
  .refine nz fun _ nz=>⟨_,rfl,?_⟩;refine JY (fun _=>?_) (fun h=>absurd (decide_eq_true rfl) h);have:=k H1 s1;rw[Jea hn]at this;exact this
  .obtain⟨⟨bs,top,per⟩,g,⟨a,b,rfl,ht,hb⟩,hm⟩:=Jef pr hv;obtain⟨c1,c2⟩:=ok.all _ hm;have c1:(JaX (some 100) bs&&decide (0<=top)&&decide (1<=per))=true:=c1;rw[As,As]at c1;have hper:1<=per:=of_decide_eq_true c1.2;have hper2:per.natAbs<10^62:=c2.per;refine nz fun _ nz=>⟨_,rfl,?_⟩;refine JY (fun h=>absurd (of_decide_eq_true h) (fun z=>nomatch z)) (fun _=>nz ?_);have hl:bs.length<=14:=c2.bands.len;refine⟨pay,a,bs,top,per,rfl,⟨⟨b,s1 _ _ ht,⟨JG.same hb s1,(Jck c1.1.1).1,by omega,JsI c1.1.1 c2.bands,h0,h1⟩⟩,by omega,by omega⟩,fun H2 s2=>?_⟩;have:=k H2 (s1.trans s2);rw[Jej hk g]at this;exact this
inductive Jn7(vs:List V)(H:Hp)(Q:VK):Prop
 | mk (oa na:Addr) (old new:II) (h1:vs=[.ref oa,.ref na]) (h2:H oa=some (.dK (ivs old))) (h3:H na=some (.dK (ivs new))) (h4:new.length<64) (h5:∀l H',H l=none->JV H H'->Rep H' (.lst ((JeW old new).map Je8)) (.ref l)->Q (.ref l) H'):Jn7 vs H Q
def Jn0:Sp:=fun vs H Q _=>Jn7 vs H Q
theorem JoD{f:Addr}{fd:Aa}(F:Fun K "lines_between" "lines_between" JaH f fd)(Z:Zs mg):YU P w K mg base CX0 1 f fd ["old_nets", "new_nets"] Jn0:=by
 refine F.ok Jav (fun vs H Q E h=>?_) (fun cdv A outer s0 H vs Q E hr h=>?_)
 .obtain⟨_,_,_,_,rfl,_⟩:=h;rfl
 .obtain⟨oa,na,old,new,rfl,ho,hn,hl,k⟩:=h;have hu:=JbH hr
  refine⟨_,(Jd (Jk 2 Jav.nd (J3 JR))
   (Jd (Jan AD rfl (Ja0 (Jn (Jjb rfl) (by rfl) Z.z_sorted Jd4 (pa1 (pw 1)))) (pgn 3 Jav.nd) (Jd (Jk 4 Jav.nd (Jj J6 (YH hu (pw 1) (pw 3)) (Jc3 hu (pw 0) (pw 3) Jc (by constructor<;>rfl))))
   (Jf (JL (Jq Jdx (pw 4) Jc (Jv _)) (Jf (JaL (Jho B6 BW BQ Jaq (pw 2) (pa1 (JZ (Jb (pw 3) (pa1 (pw 4)))))))) Jr))))
   (Jf (Jp (pw 2))))),fun _ nz=>?_⟩
  refine⟨(AA _:([]:List V).length<=AK),fun ll hll=>?_⟩;have s1:=Je (o:=HO.lst []) hll;have hl1:upd H ll (HO.lst []) ll=some (.lst []):=Ja;generalize upd H ll (HO.lst [])=H1 at s1 hl1 ⊢;refine nz fun _ nz=>⟨na,_,new.map (·.1),rfl,s1 _ _ hn,Jpz new,by rw[A2];exact hl,fun sl rs hsl pm so=>?_⟩;have hrs:=Jnv pm so;have s2:=Je (o:=HO.lst (rs.map V.int)) hsl;have hs2:upd H1 sl (HO.lst (rs.map V.int)) sl=some (.lst (rs.map V.int)):=Ja;have hl2:=s2 _ _ hl1;have ne:ll≠sl:=Jh hl1 hsl;generalize upd H1 sl (HO.lst (rs.map V.int))=H2 at s2 hs2 hl2 ⊢
  have hrl:rs.length<64:=by rw[pm.length_eq,A2];exact hl
  refine⟨sl,rfl,⟨_,SqL.of hs2⟩,?_⟩
  refine JbM (K:=K) (xs:=rs.map V.int) (fun i σ H3=>∃(zs:List V)(v3 v4:Option V),σ=[some (.ref oa),some (.ref na),some (.ref ll),v3,v4]/\(∀b o,H2 b=some o->b≠ll->H3 b=some o)/\H3 ll=some (.lst zs)/\zs.length<=i/\
    Yv H3 ((((rs.take i).map fun m:Int=>(m,(Yl new m).getD 0-(Yl old m).getD 0)).filter fun p:Int×Int=>decide (p.2≠0)).map Je8) zs)
   ⟨[],none,none,rfl,fun b o e _=>e,hl2,A6 _,rfl⟩ (fun _ _ _ _ ⟨_,_,_,_,kp,_⟩ =>SqL.of (kp _ _ hs2 ne.symm)) ?_ ?_
  .rintro i y σ H3 hi ⟨zs,v3,v4,rfl,kp,hz,hzl,rp⟩;rw[Ax]at hi;obtain⟨m,hm,rfl⟩:=Ak.mp hi;have hir:i<rs.length:=(A7.mp hm).1;have hna:=kp _ _ (s2 _ _ (s1 _ _ hn)) (Jh hn hll);have hoa:=kp _ _ (s2 _ _ (s1 _ _ ho)) (Jh ho hll)
   obtain⟨x,hx⟩:∃x,Yl new m=some x:=by
    have:m∈new.map (·.1):=pm.mem_iff.mp (Au hm);obtain⟨p,hp,e⟩:=Ag.mp this;unfold Yl
    cases q:new.find? fun p=>decide (p.1=m)with
    | none=>exact absurd (decide_eq_true e) (List.find?_eq_none.mp q p hp)
    | some z=>exact⟨_,rfl⟩
   have hv:Jak (ivs new) (Aj m:Key)=some (.int x):=by rw[JeK,hx];rfl
   have ho2:∃o,Jak (ivs old) (Aj m:Key)=o/\o.getD (.int 0)=.int ((Yl old m).getD 0):=⟨_,rfl,by rw[JeK];cases Yl old m<;>rfl⟩
   obtain⟨oo,eo,eo2⟩:=ho2
   have htk:rs.take (i+1)=rs.take i++[m]:=by rw[Ap,hm];rfl
   refine fun _ ny=>⟨na,.int x,rfl,by rw[<- hv];exact JcC.k (k:=Aj m) hna,oa,rfl,.inl ⟨_,.inl hoa⟩,_,JcC.k (k:=Aj m) hoa,?_⟩;rw[eo,eo2];refine ny ⟨rfl,_,rfl,?_⟩;refine JY (fun h=>?_) (fun h=>?_)
   .refine⟨.inl ⟨rfl,_,SqL.of hz⟩,zs2,fun t ht=>?_⟩;have s4:=Je (o:=HO.tup [V.int m,V.int (x-(Yl old m).getD 0)]) ht;refine⟨ll,_,_,rfl,rfl,s4 _ _ hz,Jz (by omega),?_⟩;have ntl:t≠ll:=(Jh hz ht).symm;refine⟨zs++[.ref t],_,_,rfl,fun b o e hb=>by rw[Jg hb];exact s4 _ _ (kp b o e hb),Ja,by rw[AQ];simp;omega,?_⟩
    have hne:x-(Yl old m).getD 0≠0:=by simpa using h
    rw[htk,AJ,Bv,AJ]
    have e1:((([m].map fun m:Int=>(m,(Yl new m).getD 0-(Yl old m).getD 0)).filter fun p:Int×Int=>decide (p.2≠0)).map Je8)=[Je8 (m,x-(Yl old m).getD 0)]:=by
     simp[hx,hne]
    rw[e1];refine Yv.snoc (JeI (fun b xs e=>?_) rp) ⟨t,_,rfl,by rw[Jg ntl];exact Ja,⟨_,_,rfl,rfl,_,_,rfl,rfl,rfl⟩⟩;have nb:b≠ll:=Y1 e hz (fun z=>nomatch z);rw[Jg nb];exact s4 _ _ e
   .have he:x-(Yl old m).getD 0=0:=by simpa using h
    refine⟨zs,_,_,rfl,kp,hz,B1 hzl,?_⟩;rw[htk,AJ,Bv,AJ]
    have e1:((([m].map fun m:Int=>(m,(Yl new m).getD 0-(Yl old m).getD 0)).filter fun p:Int×Int=>decide (p.2≠0)).map Je8)=[]:=by
     simp[hx,he]
    rw[e1,Be];exact rp
  .rintro σ H3 ⟨zs,v3,v4,rfl,kp,hz,hzl,rp⟩;refine nz (k ll H3 hll (fun b o e=>kp b o (s2 _ _ (s1 _ _ e)) (Jh e hll)) ⟨ll,zs,rfl,hz,?_⟩);unfold JeW;rw[<- hrs];rw[A2,B3]at rp;exact rp
inductive Jm7(CP:Addr)(vs:List V)(H:Hp)(Q:VK):Prop
 | mk (p dx:Addr) (h1:vs=[.ref p]) (h2:H p=some (.ins CP dx [])) (h3:∀dd nn H',H dd=none->H nn=none->dd≠nn->YA CP H' p dd nn Pn.nw->(∀b o,H b=some o->b≠p->H' b=some o)->Q .non H'):Jm7 CP vs H Q
def JnX(CP:Addr):Sp:=fun vs H Q _=>Jm7 CP vs H Q
theorem Jgs{f:Addr}{fd:Aa}(F:Fun K "__init__" "Person.__init__" Jbq f fd)(T:Txt K mg CB CP fBI fPI):YU P w K mg base CX0 1 f fd ["self"] (JnX CP):=by
 refine F.ok Jgr (fun vs H Q E h=>?_) (fun cdv A outer s0 H vs Q E hr h=>?_)
 .obtain⟨_,_,rfl,_⟩:=h;rfl
 .obtain⟨p,dx,rfl,hp,k⟩:=h
  refine⟨_,(Jd (Jdr (pw 0) Y4 rfl)
   (Jd (Jdr (pw 0) Jc rfl)
   (Jd (Jdr (pw 0) JcK rfl)
   (Jf (Jdr (pw 0) Y4 rfl))))),fun _ nz=>?_⟩
  intro dd hdd;have n1:p≠dd:=Jh hp hdd;refine⟨p,CP,dx,[],rfl,(by rw[Jg n1];exact hp),T.clPerson,T.n_days,(by show 0<1000;decide),?_⟩;refine nz fun _ nz=>⟨p,CP,dx,_,rfl,Ja,T.clPerson,T.n_paid,(by show 1<1000;decide),?_⟩;rw[Jdw];refine nz fun _ nz=>⟨p,CP,dx,_,rfl,Ja,T.clPerson,T.n_last_week,(by simp only[Jdi,nDP,if_false];show 2<1000;decide),?_⟩;rw[Jdw];refine nz ?_;intro nn hnn
  have n2:nn≠p:=fun z=>by rw[z,Ja]at hnn;cases hnn
  rw[Jg n2]at hnn
  have n3:nn≠dd:=fun z=>by rw[z,Ja]at hnn;cases hnn
  rw[Jg n3]at hnn;refine⟨p,CP,dx,_,rfl,(by rw[Jg n2.symm];exact Ja),T.clPerson,T.n_last_nets,(by simp only[Jdi,nDP,nDW,nPW,if_false];show 3<1000;decide),?_⟩;refine k dd nn _ hdd hnn n3.symm ⟨⟨dx,?_⟩,?_,?_⟩ fun b o e hb=>?_
  .rw[Ja];exact congrArg (fun l=>some (HO.ins CP dx l)) (Jc2 dd 0 none nn)
  .rw[Jg n1.symm,Jg n3.symm,Jg n1.symm,Ja];rfl
  .rw[Jg n2,Ja];rfl
  .rw[Jg hb,Jg (Jh e hnn),Jg hb,Jg (Jh e hdd)];exact e
inductive Jp7(CP:Addr)(vs:List V)(H:Hp)(Q:VK):Prop
 | mk (p dd nn:Addr) (q:Pn) (day many:Int) (h1:vs=[.ref p,.int day,.int many]) (h2:YA CP H p dd nn q) (h3:q.days.length<900) (h4:Q .non (upd H dd (.dK (ivs (Y7 q.days day many))))):Jp7 CP vs H Q
def Jqj(CP:Addr):Sp:=fun vs H Q _=>Jp7 CP vs H Q
theorem JiF{f:Addr}{fd:Aa}(F:Fun K "set_hours" "Person.set_hours" Y5 f fd)(T:Txt K mg CB CP fBI fPI):YU P w K mg base CX0 1 f fd ["self", "day", "many"] (Jqj CP):=by
 refine F.ok Jdz (fun vs H Q E h=>?_) (fun cdv A outer s0 H vs Q E hr h=>?_)
 .obtain⟨_,_,_,_,_,_,rfl,_⟩:=h;rfl
 .obtain⟨p,dd,nn,q,day,many,rfl,⟨⟨dx,hp⟩,hd,hn⟩,hl,k⟩:=h;have hu:=JbH hr;refine⟨_,(Jf (JaG hu (JaA (pw 0) rfl) (pw 1) (pw 2) rfl)),?_⟩;refine⟨p,CP,dx,_,_,rfl,hp,T.clPerson,T.n_days,JjM _ _ _ _,dd,_,rfl,Jgy.k (k:=Aj day) hd (Jz (by rw[Jc0];omega)),?_⟩;rw[Jhh];exact k
inductive JsH(CP:Addr)(vs:List V)(H:Hp)(Q:VK):Prop
 | mk (p dd nn:Addr) (q:Pn) (h1:vs=[.ref p]) (h2:YA CP H p dd nn q) (h3:q.days.length<=900) (h4:∀d H',H d=none->JV H H'->H' d=some (.dK (ivs (hbw q.days)))->Q (.ref d) H'):JsH CP vs H Q
def JqE(CP:Addr):Sp:=fun vs H Q _=>JsH CP vs H Q
theorem Je4{f f1:Addr}{fd fd1:Aa}(F:Fun K "hours_by_week" "Person.hours_by_week" Yp f fd)(T:Txt K mg CB CP fBI fPI)(Jcb:JK P w K mg base "week_of" ["day"] Jmy 1 f1 fd1) :
  YU P w K mg base CX0 2 f fd ["self"] (JqE CP):=by
 refine F.ok J0 (fun vs H Q E h=>?_) (fun cdv A outer s0 H vs Q E hr h=>?_)
 .obtain⟨_,_,_,_,rfl,_⟩:=h;rfl
 .obtain⟨p,dd,nn,q,rfl,⟨⟨dx,hp⟩,hd,hn⟩,hl,k⟩:=h;have hu:=JbH hr
  refine⟨_,(Jd (Jk 1 J0.nd Y4)
   (Jd (Jhv (Jan AD rfl (Jhu (JfC (JaA (pw 0) rfl))) (Je1 rfl (Yx (pgn 2 J0.nd) (Yx (pgn 3 J0.nd) JcW))) (Jd (Jk 4 J0.nd (Js Jcb hr (pa1 (pw 2))))
   (Jf (JaG hu (pw 1) (pw 4) (Jj JF (Jc3 hu (pw 1) (pw 4) Jc (by constructor<;>rfl)) (pw 3)) rfl)))))
   (Jf (Jp (pw 1))))),fun _ nz=>?_⟩
  intro hh hhh;have s1:=Je (o:=HO.dK []) hhh;have hh1:upd H hh (HO.dK []) hh=some (.dK []):=Ja;generalize upd H hh (HO.dK [])=H1 at s1 hh1 ⊢;have hd1:=s1 _ _ hd;refine nz fun _ nz=>⟨p,CP,dx,_,_,rfl,s1 _ _ hp,T.clPerson,T.n_days,JjM _ _ _ _,.inr (.inr (.inl ⟨rfl,.inl ⟨_,hd1⟩⟩)),dd,_,rfl,rfl,hd1,fun vw hvw=>?_⟩;have s2:=Je (o:=Jch vw dd) hvw;have hd2:=s2 _ _ hd1;have hh2:=s2 _ _ hh1;refine⟨vw,dd,_,rfl,Ja,hd2,fun o nf=>?_⟩;generalize upd H1 vw (Jch vw dd)=H2 at s2 hd2 hh2 ⊢;have nhd:hh≠dd:=(Jh hd hhh).symm
  refine Jf7 (kvs:=ivs q.days) (fun i σ H3=>∃(v2 v3 v4:Option V),σ=[some (.ref p),some (.ref hh),v2,v3,v4]/\(∀b u,H2 b=some u->b≠hh->b≠dd->H3 b=some u)/\H3 dd=some (.frz o (.dK (ivs q.days)))/\H3 hh=some (.dK (ivs (hbw (q.days.take i)))))
   ⟨none,none,none,rfl,fun b u e _ n=>by rw[Jg n];exact e,Ja,by rw[Jg nhd];exact hh2⟩ (fun _ _ _ _ ⟨_,_,_,_,_,e,_⟩ =>e) ?_ ?_
  .rintro i kk v t σ H3 hi ⟨v2,v3,v4,rfl,kp,hf,hb⟩ ht;have hi':(ivs q.days)[i]?=some (kk,v):=hi;unfold ivs at hi';rw[Ax]at hi';obtain⟨⟨day,many⟩,hq,e⟩:=Ak.mp hi';cases e;have hlt:i<q.days.length:=(A7.mp hq).1;have s3:=Je (o:=HO.tup [kV (Aj day),V.int many]) ht;have ht3:upd H3 t (HO.tup [kV (Aj day),V.int many]) t=some (.tup [.int day,.int many]):=Ja;have hb3:=s3 _ _ hb;have hf3:=s3 _ _ hf;generalize upd H3 t (HO.tup [kV (Aj day),V.int many])=H4 at s3 ht3 hb3 hf3 ⊢;refine⟨t,_,rfl,SqT.of ht3,rfl,_,_,rfl,_,_,rfl,rfl,fun _ ny=>?_⟩;refine⟨day,rfl,?_⟩;obtain⟨oo,eo,eo2⟩:∃z,Jak (ivs (hbw (q.days.take i))) (Aj (day/7):Key)=z/\z.getD (.int 0)=.int ((Yl (hbw (q.days.take i)) (day/7)).getD 0):=⟨_,rfl,by rw[JeK];cases Yl (hbw (q.days.take i)) (day/7)<;>rfl⟩
   refine ny ⟨hh,rfl,.inl ⟨_,.inl hb3⟩,_,JcC.k (k:=Aj (day/7)) hb3,?_⟩;rw[eo,eo2]
   have hbl:(hbw (q.days.take i)).length<=900:=by
    rw[JgU];have:=Jb5 (g:=fun p=>p.1/7) (f:=fun p=>p.2) (q.days.take i) [];simp only[CY,Ao]at this;omega
   refine⟨hh,_,rfl,Jgy.k (k:=Aj (day/7)) hb3 (Jz (by rw[Jc0];omega)),?_⟩;refine⟨_,_,_,rfl,fun b u e n1 n2=>by rw[Jg n1];exact s3 _ _ (kp b u e n1 n2),by rw[Jg nhd.symm];exact hf3,?_⟩;rw[Ja,Jhh,Ap,hq];show _=some (HO.dK (ivs (hbw (q.days.take i++[(day,many)]))));unfold hbw;rw[CA];rfl
  .rintro σ H3 ⟨v2,v3,v4,rfl,kp,hf,hb⟩;rw[Jc0,B3]at hb;refine .inr ⟨dd,o,_,hf,nf,?_⟩;refine nz (k hh _ hhh (fun b u e=>?_) (by rw[Jg nhd];exact hb))
   by_cases c:b=dd
   .rw[c,Ja,<- hd,<- c];exact e
   .rw[Jg c];exact kp b u (s2 _ _ (s1 _ _ e)) (Jh e hhh) c
inductive JiC(CP:Addr)(vs:List V)(H:Hp)(Q:VK):Prop
 | mk (p dd nn rd:Addr) (q:Pn) (wk:Int) (rates:List (Int×List Bd)) (h1:vs=[.ref p,.int wk,.ref rd]) (h2:YA CP H p dd nn q) (h3:Jqb q) (h4:Jam (YT H) H rd rates) (h5:JcJ rates) (h6:∀H',JV H H'->Q (.int (JaU ((Yl (hbw q.days) wk).getD 0) wk rates)) H'):JiC CP vs H Q
def JiW(CP:Addr):Sp:=fun vs H Q _=>JiC CP vs H Q
theorem Jeo{H H':Hp}{d:Addr}{ts:List (Int×List Bd)}(h:Jam (YT H) H d ts)(s:JV H H'):Jam (YT H') H' d ts:=by
 obtain⟨k,e,r⟩:=h;refine⟨k,s _ _ e,JN (fun p q hzz=>?_) r⟩;obtain⟨z,a,e,b⟩:=hzz;exact⟨z,a,e,b.same s⟩
theorem JlZ{H H':Hp}{d:Addr}{ts:List (Int×Tab)}(h:Jam (JbG H) H d ts)(s:JV H H'):Jam (JbG H') H' d ts:=by
 obtain⟨k,e,r⟩:=h;refine⟨k,s _ _ e,JN (fun p q hzz=>?_) r⟩;obtain⟨z,a,c,e,t,b⟩:=hzz;exact⟨z,a,c,e,s _ _ t,b.same s⟩
theorem Jjv{f f1 f2:Addr}{fd fd1 fd2:Aa}(F:Fun K "week_pay" "Person.week_pay" Jae f fd)(T:Txt K mg CB CP fBI fPI)(JB:Jbf P w K mg base CX0 CP "hours_by_week" ["self"] (JqE CP) 2 f1 fd1)
  (Jb9:JK P w K mg base "pay_for" ["hours", "week", "rates"] Jhs 3 f2 fd2):YU P w K mg base CX0 4 f fd ["self", "week", "rates"] (JiW CP):=by
 refine F.ok Jek (fun vs H Q E h=>?_) (fun cdv A outer s0 H vs Q E hr h=>?_)
 .obtain⟨_,_,_,_,_,_,_,rfl,_⟩:=h;rfl
 .obtain⟨p,dd,nn,rd,q,wk,rates,rfl,hP,ok,hT,rok,k⟩:=h;have hu:=JbH hr;obtain⟨dx,hp⟩:=hP.ob;refine⟨_,(Jf (Jp (Js Jb9 hr (Jb (Jc3 hu (Jfn (pw 0) T.clPerson JB.meth JB.ok (hr.mono (by decide)) JB.b .nil Jbw) (pw 1) Jc (by constructor<;>rfl)) (Jb (pw 1) (pa1 (pw 2))))))),?_⟩
  have hl:=ok.len;refine⟨p,dx,_,rfl,hp,Jgm _ _ _ _ (by decide +kernel) (by decide +kernel) (by decide +kernel) (by decide +kernel),p,dd,nn,q,rfl,hP,by omega,fun d H1 hd s1 hd1=>?_⟩;obtain⟨oo,eo,eo2⟩:∃z,Jak (ivs (hbw q.days)) (Aj wk:Key)=z/\z.getD (.int 0)=.int ((Yl (hbw q.days) wk).getD 0):=⟨_,rfl,by rw[JeK];cases Yl (hbw q.days) wk<;>rfl⟩
  refine⟨d,rfl,.inl ⟨_,.inl hd1⟩,_,JcC.k (k:=Aj wk) hd1,?_⟩;rw[eo,eo2];obtain⟨b0,b1⟩:=JqP ok wk;exact⟨_,wk,rd,rates,rfl,Jeo hT s1,rok,b0,D9 b1 (by decide),fun H2 s2=>k H2 (s1.trans s2)⟩
inductive Jsx(CP:Addr)(vs:List V)(H:Hp)(Q:VK):Prop
 | mk (p dd nn rd:Addr) (q:Pn) (last:Int) (rates:List (Int×List Bd)) (h1:vs=[.ref p,.int last,.ref rd]) (h2:YA CP H p dd nn q) (h3:Jqb q) (h4:Jam (YT H) H rd rates) (h5:JcJ rates) (h6:∀d H',H d=none->JV H H'->H' d=some (.dK (ivs (pbm (hbw q.days) last rates)))->Q (.ref d) H'):Jsx CP vs H Q
def JsY(CP:Addr):Sp:=fun vs H Q _=>Jsx CP vs H Q
theorem Jfb{f f1 f2 f3:Addr}{fd fd1 fd2 fd3:Aa}(F:Fun K "pays_by_month" "Person.pays_by_month" Yq f fd)(T:Txt K mg CB CP fBI fPI)
  (JB:Jbf P w K mg base CX0 CP "hours_by_week" ["self"] (JqE CP) 2 f1 fd1)
  (Jb9:JK P w K mg base "pay_for" ["hours", "week", "rates"] Jhs 3 f2 fd2) (Jeu:JK P w K mg base "month_of" ["week"] JnO 1 f3 fd3):YU P w K mg base CX0 4 f fd ["self", "last", "rates"] (JsY CP):=by
 refine F.ok J1 (fun vs H Q E h=>?_) (fun cdv A outer s0 H vs Q E hr h=>?_)
 .obtain⟨_,_,_,_,_,_,_,rfl,_⟩:=h;rfl
 .obtain⟨p,dd,nn,rd,q,last,rates,rfl,hP,ok,hT,rok,k⟩:=h;have hu:=JbH hr;obtain⟨dx,hp⟩:=hP.ob
  refine⟨_,(Jd (Jk 3 J1.nd Y4)
   (Jd (Jhv (Jan AD rfl (Jhu (JfC (Jfn (pw 0) T.clPerson JB.meth JB.ok (hr.mono (by decide)) JB.b .nil Jbw))) (Je1 rfl (Yx (pgn 4 J1.nd) (Yx (pgn 5 J1.nd) JcW))) (Jf (JL (Jq JfL (pw 4) (pw 1) (Jv _)) (Jd (Jk 6 J1.nd (Js Jeu hr (pa1 (pw 4))))
   (Jf (JaG hu (pw 3) (pw 6) (Jj JF (Jc3 hu (pw 3) (pw 6) Jc (by constructor<;>rfl)) (Js Jb9 hr (Jb (pw 5) (Jb (pw 4) (pa1 (pw 2)))))) rfl))) Jr))))
   (Jf (Jp (pw 3))))),fun _ nz=>?_⟩
  have hl:=ok.len;obtain⟨bb1,bb2,bb3⟩:=JmA ok;intro pp hpp;have s1:=Je (o:=HO.dK []) hpp;have hp1:upd H pp (HO.dK []) pp=some (.dK []):=Ja;generalize upd H pp (HO.dK [])=H1 at s1 hp1 ⊢;refine nz fun _ nz=>⟨p,dx,_,rfl,s1 _ _ hp,Jgm _ _ _ _ (by decide +kernel) (by decide +kernel) (by decide +kernel) (by decide +kernel),p,dd,nn,q,rfl,hP.same s1,by omega,fun d H2 hd s2 hd2=>?_⟩;have hp2:=s2 _ _ hp1;refine⟨.inr (.inr (.inl ⟨rfl,.inl ⟨_,hd2⟩⟩)),d,_,rfl,rfl,hd2,fun vw hvw=>?_⟩;have s3:=Je (o:=Jch vw d) hvw;have hd3:=s3 _ _ hd2;have hp3:=s3 _ _ hp2;refine⟨vw,d,_,rfl,Ja,hd3,fun o nf=>?_⟩;generalize upd H2 vw (Jch vw d)=H3 at s3 hd3 hp3 ⊢;have npd:pp≠d:=Jh hp1 hd;have hd0:H d=none:=s1.free hd
  refine Jf7 (kvs:=ivs (hbw q.days)) (fun i σ H4=>∃(v4 v5 v6:Option V),σ=[some (.ref p),some (.int last),some (.ref rd),some (.ref pp),v4,v5,v6]/\(∀b u,H3 b=some u->b≠pp->b≠d->H4 b=some u)/\H4 d=some (.frz o (.dK (ivs (hbw q.days))))/\
    H4 pp=some (.dK (ivs (pbm ((hbw q.days).take i) last rates))))
   ⟨none,none,none,rfl,fun b u e _ n=>by rw[Jg n];exact e,Ja,by rw[Jg npd];exact hp3⟩ (fun _ _ _ _ ⟨_,_,_,_,_,e,_⟩ =>e) ?_ ?_
  .rintro i kk v t σ H4 hi ⟨v4,v5,v6,rfl,kp,hf,hb⟩ ht;have hi':(ivs (hbw q.days))[i]?=some (kk,v):=hi;unfold ivs at hi';rw[Ax]at hi';obtain⟨⟨wk,hrs⟩,hq,e⟩:=Ak.mp hi';cases e;obtain⟨x0,x1⟩:=bb2 _ (Au hq);have x0:0<=hrs:=x0;have x1:hrs<=7200:=x1;have hlt:i<(hbw q.days).length:=(A7.mp hq).1;have s4:=Je (o:=HO.tup [kV (Aj wk),V.int hrs]) ht;have ht4:upd H4 t (HO.tup [kV (Aj wk),V.int hrs]) t=some (.tup [.int wk,.int hrs]):=Ja;have hb4:=s4 _ _ hb;have hf4:=s4 _ _ hf;generalize upd H4 t (HO.tup [kV (Aj wk),V.int hrs])=H5 at s4 ht4 hb4 hf4 ⊢;have kp5:∀b u,H b=some u->H5 b=some u:=fun b u e=>s4 _ _ (kp b u (s3 _ _ (s2 _ _ (s1 _ _ e))) (Jh e hpp) (Jh e hd0));refine⟨t,_,rfl,SqT.of ht4,rfl,_,_,rfl,_,_,rfl,rfl,?_⟩;refine⟨_,rfl,?_⟩
   have htk:(hbw q.days).take (i+1)=(hbw q.days).take i++[(wk,hrs)]:=by rw[Ap,hq];rfl
   have hfold:pbm ((hbw q.days).take (i+1)) last rates=if wk<=last then Jgj (pbm ((hbw q.days).take i) last rates) (wk/4) (JaU hrs wk rates)else pbm ((hbw q.days).take i) last rates:=by
    rw[htk];unfold pbm;rw[CA];rfl
   refine JY (fun h=>fun _ ny=>?_) (fun h=>?_)
   .have h:=of_decide_eq_true h;refine⟨wk,rfl,?_⟩;obtain⟨oo,eo,eo2⟩:∃z,Jak (ivs (pbm ((hbw q.days).take i) last rates)) (Aj (wk/4):Key)=z/\z.getD (.int 0)=.int ((Yl (pbm ((hbw q.days).take i) last rates) (wk/4)).getD 0):=⟨_,rfl,by rw[JeK];cases Yl (pbm ((hbw q.days).take i) last rates) (wk/4)<;>rfl⟩
    refine ny ⟨pp,rfl,.inl ⟨_,.inl hb4⟩,_,JcC.k (k:=Aj (wk/4)) hb4,?_⟩;rw[eo,eo2]
    have hbl:(pbm ((hbw q.days).take i) last rates).length<=900:=by
     rw[JiV];have:=Jb5 (g:=fun p=>p.1/4) (f:=fun p=>JaU p.2 p.1 rates) (((hbw q.days).take i).filter fun p=>decide (p.1<=last)) [];have b:=BK (fun p:Int×Int=>decide (p.1<=last)) ((hbw q.days).take i);simp only[CY,Ao]at this b;omega
    refine⟨hrs,wk,rd,rates,rfl,Jeo hT kp5,rok,x0,D9 x1 (by decide),fun H6 s6=>?_⟩;refine⟨pp,_,rfl,Jgy.k (k:=Aj (wk/4)) (s6 _ _ hb4) (Jz (by rw[Jc0];omega)),?_⟩;refine⟨_,_,_,rfl,fun b u e n1 n2=>by rw[Jg n1];exact s6 _ _ (s4 _ _ (kp b u e n1 n2)),by rw[Jg npd.symm];exact s6 _ _ hf4,?_⟩;rw[Ja,Jhh,hfold,if_pos h];rfl
   .have h:¬wk<=last:=fun z=>h (decide_eq_true z);refine⟨_,_,_,rfl,fun b u e n1 n2=>s4 _ _ (kp b u e n1 n2),hf4,?_⟩;rw[hfold,if_neg h];exact hb4
  .rintro σ H4 ⟨v4,v5,v6,rfl,kp,hf,hb⟩;rw[Jc0,B3]at hb;refine .inr ⟨d,o,_,hf,nf,?_⟩;refine nz (k pp _ hpp (fun b u e=>?_) (by rw[Jg npd];exact hb));have c:b≠d:=Jh e hd0;rw[Jg c];exact kp b u (s3 _ _ (s2 _ _ (s1 _ _ e))) (Jh e hpp) c
inductive Jsr(CP:Addr)(vs:List V)(H:Hp)(Q:VK):Prop
 | mk (p dd nn rd ud:Addr) (q:Pn) (last:Int) (rates:List (Int×List Bd)) (dues:List (Int×Tab)) (h1:vs=[.ref p,.int last,.ref rd,.ref ud]) (h2:YA CP H p dd nn q) (h3:Jqb q) (h4:Jam (YT H) H rd rates) (h5:JcJ rates) (h6:Jam (JbG H) H ud dues) (h7:Jk7 dues) (h8:∀d H',H d=none->JV H H'->H' d=some (.dK (ivs (nbm (pbm (hbw q.days) last rates) dues)))->Q (.ref d) H'):Jsr CP vs H Q
def Jre(CP:Addr):Sp:=fun vs H Q _=>Jsr CP vs H Q
theorem Je2{f f1 f2:Addr}{fd fd1 fd2:Aa}(F:Fun K "nets_by_month" "Person.nets_by_month" Yt f fd)(T:Txt K mg CB CP fBI fPI)
  (J5:Jbf P w K mg base CX0 CP "pays_by_month" ["self", "last", "rates"] (JsY CP) 4 f1 fd1)
  (JfV:JK P w K mg base "net_for" ["pay", "month", "dues"] Jk1 4 f2 fd2):YU P w K mg base CX0 5 f fd ["self", "last", "rates", "dues"] (Jre CP):=by
 refine F.ok Yj (fun vs H Q E h=>?_) (fun cdv A outer s0 H vs Q E hr h=>?_)
 .obtain⟨_,_,_,_,_,_,_,_,_,rfl,_⟩:=h;rfl
 .obtain⟨p,dd,nn,rd,ud,q,last,rates,dues,rfl,hP,ok,hT,rok,hU,uok,k⟩:=h;have hu:=JbH hr;obtain⟨dx,hp⟩:=hP.ob
  refine⟨_,(Jd (Jk 4 Yj.nd Y4)
   (Jd (Jhv (Jan AD rfl (Jhu (JfC (YS (pw 0) T.clPerson J5.meth J5.ok (hr.mono (by decide)) J5.b .nil Jbw (Jb (pw 1) (pa1 (pw 2)))))) (Je1 rfl (Yx (pgn 5 Yj.nd) (Yx (pgn 6 Yj.nd) JcW))) (Jf (JaG hu (pw 4) (pw 5) (Js JfV hr (Jb (pw 6) (Jb (pw 5) (pa1 (pw 3))))) rfl))))
   (Jf (Jp (pw 4))))),fun _ nz=>?_⟩
  have hl:=ok.len;obtain⟨bb1,bb2,bb3⟩:=Jn4 ok rok last;intro pp hpp;have s1:=Je (o:=HO.dK []) hpp;have hp1:upd H pp (HO.dK []) pp=some (.dK []):=Ja;generalize upd H pp (HO.dK [])=H1 at s1 hp1 ⊢;refine nz fun _ nz=>⟨p,dx,_,rfl,s1 _ _ hp,Jgm _ _ _ _ (by decide +kernel) (by decide +kernel) (by decide +kernel) (by decide +kernel),p,dd,nn,rd,q,last,rates,rfl,hP.same s1,ok,Jeo hT s1,rok,fun d H2 hd s2 hd2=>?_⟩;have hp2:=s2 _ _ hp1;refine⟨.inr (.inr (.inl ⟨rfl,.inl ⟨_,hd2⟩⟩)),d,_,rfl,rfl,hd2,fun vw hvw=>?_⟩;have s3:=Je (o:=Jch vw d) hvw;have hd3:=s3 _ _ hd2;have hp3:=s3 _ _ hp2;refine⟨vw,d,_,rfl,Ja,hd3,fun o nf=>?_⟩;generalize upd H2 vw (Jch vw d)=H3 at s3 hd3 hp3 ⊢;have npd:pp≠d:=Jh hp1 hd;have hd0:H d=none:=s1.free hd;generalize pbm (hbw q.days) last rates=pb at *
  refine Jf7 (kvs:=ivs pb) (fun i σ H4=>∃(v5 v6:Option V),σ=[some (.ref p),some (.int last),some (.ref rd),some (.ref ud),some (.ref pp),v5,v6]/\(∀b u,H3 b=some u->b≠pp->b≠d->H4 b=some u)/\H4 d=some (.frz o (.dK (ivs pb)))/\
    H4 pp=some (.dK (ivs (nbm (pb.take i) dues))))
   ⟨none,none,rfl,fun b u e _ n=>by rw[Jg n];exact e,Ja,by rw[Jg npd];exact hp3⟩ (fun _ _ _ _ ⟨_,_,_,_,e,_⟩ =>e) ?_ ?_
  .rintro i kk v t σ H4 hi ⟨v5,v6,rfl,kp,hf,hb⟩ ht;have hi':(ivs pb)[i]?=some (kk,v):=hi;unfold ivs at hi';rw[Ax]at hi';obtain⟨⟨m,pay⟩,hq,e⟩:=Ak.mp hi';cases e;obtain⟨x0,x1⟩:=bb2 _ (Au hq);have x0:0<=pay:=x0;have x1:pay<10^102:=x1;have hlt:i<pb.length:=(A7.mp hq).1;have s4:=Je (o:=HO.tup [kV (Aj m),V.int pay]) ht;have ht4:upd H4 t (HO.tup [kV (Aj m),V.int pay]) t=some (.tup [.int m,.int pay]):=Ja;have hb4:=s4 _ _ hb;have hf4:=s4 _ _ hf;generalize upd H4 t (HO.tup [kV (Aj m),V.int pay])=H5 at s4 ht4 hb4 hf4 ⊢;have kp5:∀b u,H b=some u->H5 b=some u:=fun b u e=>s4 _ _ (kp b u (s3 _ _ (s2 _ _ (s1 _ _ e))) (Jh e hpp) (Jh e hd0))
   have hbl:(nbm (pb.take i) dues).length<=900:=by
    have nd:((pb.take i).map (·.1)).Nodup:=by rw[DC];exact bb1.sublist (Ex _ _)
    rw[JgI dues nd,A2,Ao];omega
   refine⟨t,_,rfl,SqT.of ht4,rfl,_,_,rfl,_,_,rfl,rfl,?_⟩;refine⟨pay,m,ud,dues,rfl,JlZ hU kp5,uok,x0,x1,fun H6 s6=>?_⟩;refine⟨pp,_,rfl,Jgy.k (k:=Aj m) (s6 _ _ hb4) (Jz (by rw[Jc0];omega)),?_⟩;refine⟨_,_,rfl,fun b u e n1 n2=>by rw[Jg n1];exact s6 _ _ (s4 _ _ (kp b u e n1 n2)),by rw[Jg npd.symm];exact s6 _ _ hf4,?_⟩;rw[Ja,Jhh,Ap,hq];show _=some (HO.dK (ivs (nbm (pb.take i++[(m,pay)]) dues)));unfold nbm;rw[CA];rfl
  .rintro σ H4 ⟨v5,v6,rfl,kp,hf,hb⟩;rw[Jc0,B3]at hb;refine .inr ⟨d,o,_,hf,nf,?_⟩;refine nz (k pp _ hpp (fun b u e=>?_) (by rw[Jg npd];exact hb));have c:b≠d:=Jh e hd0;rw[Jg c];exact kp b u (s3 _ _ (s2 _ _ (s1 _ _ e))) (Jh e hpp) c
def JpY(q:Pn)(wk:Int):Bool:=match q.last with
 | none=>false
 | some l=>decide (wk<l)
inductive Jrx(CP CT:Addr)(vs:List V)(H:Hp)(Q:VK)(E:XK):Prop
 | mk (p dd nn rd ud:Addr) (q:Pn) (wk:Int) (rates:List (Int×List Bd)) (dues:List (Int×Tab)) (h1:vs=[.ref p,.int wk,.ref rd,.ref ud]) (h2:YA CP H p dd nn q) (h3:Jqb q) (h4:Jam (YT H) H rd rates) (h5:JcJ rates) (h6:Jam (JbG H) H ud dues) (h7:Jk7 dues) (h8:(JpY q wk=true->E (.ref CT) none H)) (h9:(JpY q wk=false->q.days.length<64/\∀(nets:II) (left:Int) (t nn':Addr) (H':Hp),nets=nbm (pbm (hbw q.days) wk rates) dues->left=(nets.map (·.2)).sum-q.paid->H nn'=none->
  YA CP H' p dd nn' ⟨q.days,q.paid+mx 0 left,some wk,nets⟩ ->(∀b o,H b=some o->b≠p->H' b=some o)->JgT H H' (.tup [.int (mx 0 left),.int (mn 0 left),.lst ((JeW q.nets nets).map Je8)]) (.ref t)->Q (.ref t) H')):Jrx CP CT vs H Q E
def JrR(CP CT:Addr):Sp:=fun vs H Q E=>Jrx CP CT vs H Q E
theorem Ji9{H:Hp}{p C dx:Addr}{fs:List (Str×V)}{o:HO}(e:H p=some (.ins C dx fs)):Jah H (upd H p o):=
 ⟨fun b xs h=>by rw[Jg (Y1 h e (fun z=>nomatch z))];exact h,fun b xs h=>by rw[Jg (Y1 h e (fun z=>nomatch z))];exact h⟩
theorem Jgn{f f1 f2:Addr}{fd fd1 fd2:Aa}(F:Fun K "hold_payday" "Person.hold_payday" YG f fd)(Z:Zs mg)(T:Txt K mg CB CP fBI fPI)(X_TooEarly:Exc K mg base "TooEarly" CT)
  (JC:Jbf P w K mg base CX0 CP "nets_by_month" ["self", "last", "rates", "dues"] (Jre CP) 5 f1 fd1)
  (JbE:JK P w K mg base "lines_between" ["old_nets", "new_nets"] Jn0 1 f2 fd2):YU P w K mg base (CXr P w) 6 f fd ["self", "week", "rates", "dues"] (JrR CP CT):=by
 refine F.okR Yz (fun vs H Q E h=>?_) (fun cdv A outer s0 H vs Q E hr h=>?_)
 .obtain⟨_,_,_,_,_,_,_,_,_,rfl,_⟩:=h;rfl
 .obtain⟨p,dd,nn,rd,ud,⟨days,paid,last,nets0⟩,wk,rates,dues,rfl,hP,ok,hT,rok,hU,uok,hE,k⟩:=h;have hu:=JbH hr;obtain⟨dx,hp⟩:=hP.ob;have hp:H p=some (.ins CP dx (fP dd paid last nn)):=hp
  refine⟨_,(Jd (JL (PW.pt (JcN (Jai (JbQ (JaA (pw 0) rfl))) (JbB (Jq JbW (pw 1) (JaA (pw 0) rfl) (Jv _))))) (Jf (Jfp X_TooEarly rfl Jx)) Jr)
   (Jd (Jk 4 Yz.nd (YS (pw 0) T.clPerson JC.meth JC.ok (hr.mono (by decide)) JC.b .nil Jbw (Jb (pw 1) (Jb (pw 2) (pa1 (pw 3))))))
   (Jd (Jk 5 Yz.nd (Jj J6 (Jn (Jip rfl) (by rfl) Z.z_sum JeS (pa1 (Jhm (pw 4)))) (JaA (pw 0) rfl)))
   (Jd (Jk 6 Yz.nd (Js JbE hr (Jb (JaA (pw 0) rfl) (pa1 (pw 4)))))
   (Jd (Jdr (pw 0) (Jj JF (JaA (pw 0) rfl) (Jn (JbC rfl) (by rfl) Z.z_max JeX (Jb Jc (pa1 (pw 5))))) rfl)
   (Jd (Jdr (pw 0) (pw 1) rfl)
   (Jd (Jdr (pw 0) (pw 4) rfl)
   (Jf (Jp (JZ (Jb (Jn (JbC rfl) (by rfl) Z.z_max JeX (Jb Jc (pa1 (pw 5)))) (Jb (Jn (Jd1 rfl) (by rfl) Z.z_min Jlj (Jb Jc (pa1 (pw 5)))) (pa1 (pw 6)))))))))))))),fun _ nz=>?_⟩
  refine⟨p,CP,dx,_,_,rfl,hp,T.clPerson,T.n_last_week,Jjy _ _ _ _,_,rfl,?_⟩
  cases last with
  | none=>
   refine JY (fun h=>absurd h (show¬(!decide (oV none=V.non))=true by simp[oV])) (fun _=>?_);refine Jdv ?_;obtain⟨hlen,k⟩:=k rfl;refine nz fun _ nz=>?_;have hlen:days.length<64:=hlen;refine⟨p,dx,_,rfl,hp,Jgm _ _ _ _ (by decide +kernel) (by decide +kernel) (by decide +kernel) (by decide +kernel),p,dd,nn,rd,ud,_,wk,rates,dues,rfl,hP,ok,hT,rok,hU,uok,fun d H1 hd s1 hd1=>?_⟩;have hd1:H1 d=some (.dK (ivs (nbm (pbm (hbw days) wk rates) dues))):=hd1
   have hnl:(nbm (pbm (hbw days) wk rates) dues).length<64:=by
    obtain⟨b1,b2,b3⟩:=Jn4 ok rok wk;have b3:(pbm (hbw days) wk rates).length<=days.length:=b3;rw[JgI dues b1,A2];omega
   have k:=fun t nn1 H1=>k (nbm (pbm (hbw days) wk rates) dues) _ t nn1 H1 rfl rfl;generalize nbm (pbm (hbw days) wk rates) dues=nets at hd1 hnl k ⊢;have np:p≠d:=Jh hp hd;refine nz fun _ nz=>⟨.inr (.inr (.inl ⟨rfl,.inl ⟨_,hd1⟩⟩)),d,_,rfl,rfl,hd1,fun vw hvw=>?_⟩;have hv2:=Jgu (o:=JcY vw d) hvw;generalize upd H1 vw (JcY vw d)=H2 at hv2 ⊢;obtain⟨s2,hv2⟩:=hv2;have s12:=s1.trans s2;have hp2:=s12 _ _ hp;refine⟨vw,d,_,_,rfl,hv2,s2 _ _ hd1,Jh2 nets,?_⟩;refine⟨p,CP,dx,_,_,rfl,hp2,T.clPerson,T.n_paid,Jgc _ _ _ _,?_⟩;refine nz fun _ nz=>⟨p,CP,dx,_,_,rfl,hp2,T.clPerson,T.n_last_nets,Jnn _ _ _ _,nn,d,_,nets,rfl,s12 _ _ hP.nets,s2 _ _ hd1,hnl,fun l H3 hl s3 rp=>?_⟩;have s13:=s12.trans s3;have hp3:=s13 _ _ hp;have hd3:=s3 _ _ (s2 _ _ hd1);refine nz fun _ nz=>⟨p,CP,dx,_,_,rfl,hp3,T.clPerson,T.n_paid,Jgc _ _ _ _,0,_,rfl,p,CP,dx,_,rfl,hp3,T.clPerson,T.n_paid,(by show 4<1000;decide),?_⟩;rw[Jgd];refine nz fun _ nz=>⟨p,CP,dx,_,rfl,Ja,T.clPerson,T.n_last_week,(by show 4<1000;decide),?_⟩;rw[Jdw,JfE];refine nz fun _ nz=>⟨p,CP,dx,_,rfl,Ja,T.clPerson,T.n_last_nets,(by show 4<1000;decide),?_⟩;rw[Jdw,JfN];refine nz ⟨0,_,rfl,0,_,rfl,zs3,fun t ht=>?_⟩;have ndd:dd≠p:=(Y1 hp hP.days (fun z=>nomatch z)).symm
   have ntp:t≠p:=fun z=>by rw[z,Ja]at ht;cases ht
   rw[Jg ntp]at ht
   have hf:∀b o,H3 b=some o->b≠p->upd (upd H3 p (HO.ins CP dx (fP dd (paid+mx 0 ((nets.map (·.2)).sum-paid)) (some wk) d))) t (HO.tup [V.int (mx 0 ((nets.map (·.2)).sum-paid)),V.int (mn 0 ((nets.map (·.2)).sum-paid)),V.ref l]) b=some o:=fun b o e n=>by
    rw[Jg (Jh e ht),Jg n];exact e
   refine k t d _ (show H d=none from hd) ⟨⟨dx,?_⟩,?_,?_⟩ (fun b o e n=>hf b o (s13 _ _ e) n) ?_
   .rw[Jg ntp.symm,Ja];rfl
   .exact hf _ _ (s13 _ _ hP.days) ndd
   .exact hf _ _ hd3 np.symm
   .have sS:Jah H3 (upd (upd H3 p (HO.ins CP dx (fP dd (paid+mx 0 ((nets.map (·.2)).sum-paid)) (some wk) d))) t (HO.tup [V.int (mx 0 ((nets.map (·.2)).sum-paid)),V.int (mn 0 ((nets.map (·.2)).sum-paid)),V.ref l])):=(Ji9 hp3).trans (Jah.of (Je (by rw[Jg ntp];exact ht)));refine⟨⟨t,_,rfl,Ja,_,_,rfl,rfl,_,_,rfl,rfl,_,_,rfl,Rep.sameS sS rp,rfl⟩,fun b xs eb=>?_⟩;have ntb:t≠b:=(Jh (s13 _ _ eb) ht).symm;exact⟨t,_,rfl,by rw[JeT ntb];exact Ja,_,_,rfl,rfl,_,_,rfl,rfl,_,_,rfl,Rep.sameS (sS.era b) (JdS rp (Jh (s12 _ _ eb) hl) (s13 _ _ eb)),rfl⟩
  | some l=>
   refine JY (fun _=>?_) (fun h=>absurd (show(!decide (oV (some l)=V.non))=true by simp[oV]) h);refine⟨p,CP,dx,_,_,rfl,hp,T.clPerson,T.n_last_week,Jjy _ _ _ _,_,rfl,?_⟩;refine JY (fun h=>?_) (fun h=>nz fun _ nz=>?_)
   .exact⟨zs1,hE h⟩
   .obtain⟨hlen,k⟩:=k (Kz.mpr h);have hlen:days.length<64:=hlen;refine⟨p,dx,_,rfl,hp,Jgm _ _ _ _ (by decide +kernel) (by decide +kernel) (by decide +kernel) (by decide +kernel),p,dd,nn,rd,ud,_,wk,rates,dues,rfl,hP,ok,hT,rok,hU,uok,fun d H1 hd s1 hd1=>?_⟩;have hd1:H1 d=some (.dK (ivs (nbm (pbm (hbw days) wk rates) dues))):=hd1
    have hnl:(nbm (pbm (hbw days) wk rates) dues).length<64:=by
     obtain⟨b1,b2,b3⟩:=Jn4 ok rok wk;have b3:(pbm (hbw days) wk rates).length<=days.length:=b3;rw[JgI dues b1,A2];omega
    have k:=fun t nn1 H1=>k (nbm (pbm (hbw days) wk rates) dues) _ t nn1 H1 rfl rfl;generalize nbm (pbm (hbw days) wk rates) dues=nets at hd1 hnl k ⊢;have np:p≠d:=Jh hp hd;refine nz fun _ nz=>⟨.inr (.inr (.inl ⟨rfl,.inl ⟨_,hd1⟩⟩)),d,_,rfl,rfl,hd1,fun vw hvw=>?_⟩;have hv2:=Jgu (o:=JcY vw d) hvw;generalize upd H1 vw (JcY vw d)=H2 at hv2 ⊢;obtain⟨s2,hv2⟩:=hv2;have s12:=s1.trans s2;have hp2:=s12 _ _ hp;refine⟨vw,d,_,_,rfl,hv2,s2 _ _ hd1,Jh2 nets,?_⟩;refine⟨p,CP,dx,_,_,rfl,hp2,T.clPerson,T.n_paid,Jgc _ _ _ _,?_⟩;refine nz fun _ nz=>⟨p,CP,dx,_,_,rfl,hp2,T.clPerson,T.n_last_nets,Jnn _ _ _ _,nn,d,_,nets,rfl,s12 _ _ hP.nets,s2 _ _ hd1,hnl,fun l H3 hl s3 rp=>?_⟩;have s13:=s12.trans s3;have hp3:=s13 _ _ hp;have hd3:=s3 _ _ (s2 _ _ hd1);refine nz fun _ nz=>⟨p,CP,dx,_,_,rfl,hp3,T.clPerson,T.n_paid,Jgc _ _ _ _,0,_,rfl,p,CP,dx,_,rfl,hp3,T.clPerson,T.n_paid,(by show 4<1000;decide),?_⟩;rw[Jgd];refine nz fun _ nz=>⟨p,CP,dx,_,rfl,Ja,T.clPerson,T.n_last_week,(by show 4<1000;decide),?_⟩;rw[Jdw,JfE];refine nz fun _ nz=>⟨p,CP,dx,_,rfl,Ja,T.clPerson,T.n_last_nets,(by show 4<1000;decide),?_⟩;rw[Jdw,JfN];refine nz ⟨0,_,rfl,0,_,rfl,zs3,fun t ht=>?_⟩;have ndd:dd≠p:=(Y1 hp hP.days (fun z=>nomatch z)).symm
    have ntp:t≠p:=fun z=>by rw[z,Ja]at ht;cases ht
    rw[Jg ntp]at ht
    have hf:∀b o,H3 b=some o->b≠p->upd (upd H3 p (HO.ins CP dx (fP dd (paid+mx 0 ((nets.map (·.2)).sum-paid)) (some wk) d))) t (HO.tup [V.int (mx 0 ((nets.map (·.2)).sum-paid)),V.int (mn 0 ((nets.map (·.2)).sum-paid)),V.ref l]) b=some o:=fun b o e n=>by
     rw[Jg (Jh e ht),Jg n];exact e
    refine k t d _ (show H d=none from hd) ⟨⟨dx,?_⟩,?_,?_⟩ (fun b o e n=>hf b o (s13 _ _ e) n) ?_
    .rw[Jg ntp.symm,Ja];rfl
    .exact hf _ _ (s13 _ _ hP.days) ndd
    .exact hf _ _ hd3 np.symm
    .have sS:Jah H3 (upd (upd H3 p (HO.ins CP dx (fP dd (paid+mx 0 ((nets.map (·.2)).sum-paid)) (some wk) d))) t (HO.tup [V.int (mx 0 ((nets.map (·.2)).sum-paid)),V.int (mn 0 ((nets.map (·.2)).sum-paid)),V.ref l])):=(Ji9 hp3).trans (Jah.of (Je (by rw[Jg ntp];exact ht)));refine⟨⟨t,_,rfl,Ja,_,_,rfl,rfl,_,_,rfl,rfl,_,_,rfl,Rep.sameS sS rp,rfl⟩,fun b xs eb=>?_⟩;have ntb:t≠b:=(Jh (s13 _ _ eb) ht).symm;exact⟨t,_,rfl,by rw[JeT ntb];exact Ja,_,_,rfl,rfl,_,_,rfl,rfl,_,_,rfl,Rep.sameS (sS.era b) (JdS rp (Jh (s12 _ _ eb) hl) (s13 _ _ eb)),rfl⟩
inductive Jna(CB CP:Addr)(vs:List V)(H:Hp)(Q:VK):Prop
 | mk (b dx:Addr) (h1:vs=[.ref b]) (h2:H b=some (.ins CB dx [])) (h3:∀L H',L.b=b->Yd CB CP H' L PB.new->(∀c,Mu L PB.new c->H c=none)->(∀c o,H c=some o->c≠b->H' c=some o)->Q .non H'):Jna CB CP vs H Q
def Jm3(CB CP:Addr):Sp:=fun vs H Q _=>Jna CB CP vs H Q
theorem Jib{f:Addr}{fd:Aa}(F:Fun K "__init__" "Book.__init__" Jcm f fd)(T:Txt K mg CB CP fBI fPI):YU P w K mg base CX0 1 f fd ["self"] (Jm3 CB CP):=by
 refine F.ok JiZ (fun vs H Q E h=>?_) (fun cdv A outer s0 H vs Q E hr h=>?_)
 .obtain⟨_,_,rfl,_⟩:=h;rfl
 .obtain⟨b,dx,rfl,hb,k⟩:=h
  refine⟨_,(Jd (Jdr (pw 0) Y4 rfl)
   (Jd (Jdr (pw 0) Y4 rfl)
   (Jf (Jdr (pw 0) Y4 rfl)))),fun _ nz=>?_⟩
  intro pd hpd;have n1:b≠pd:=Jh hb hpd;refine⟨b,CB,dx,[],rfl,(by rw[Jg n1];exact hb),T.clBook,T.n_people,(by show 0<1000;decide),?_⟩;refine nz fun _ nz=>?_;intro rd hrd
  have n2:rd≠b:=fun z=>by rw[z,Ja]at hrd;cases hrd
  rw[Jg n2]at hrd
  have n3:rd≠pd:=fun z=>by rw[z,Ja]at hrd;cases hrd
  rw[Jg n3]at hrd;refine⟨b,CB,dx,_,rfl,(by rw[Jg n2.symm];exact Ja),T.clBook,T.n_rates,(by show 1<1000;decide),?_⟩;refine nz ?_;intro ud hud
  have n4:ud≠b:=fun z=>by rw[z,Ja]at hud;cases hud
  rw[Jg n4]at hud
  have n5:ud≠rd:=fun z=>by rw[z,Ja]at hud;cases hud
  rw[Jg n5,Jg n4]at hud
  have n6:ud≠pd:=fun z=>by rw[z,Ja]at hud;cases hud
  rw[Jg n6]at hud;refine⟨b,CB,dx,_,rfl,(by rw[Jg n4.symm];exact Ja),T.clBook,T.n_dues,(by simp only[Jdi,nQR,if_false];show 2<1000;decide),?_⟩;refine k ⟨b,pd,rd,ud,fun _=>⟨0,0,0⟩⟩ _ rfl ⟨⟨dx,?_⟩,?_,BZ,⟨[],?_,.nil⟩,⟨[],?_,.nil⟩,(fun _ h=>nomatch h),(fun _ _=>rfl),(fun _ h=>nomatch h),(fun _ h=>nomatch h),(fun _ h=>nomatch h),n3.symm,n6.symm,n5.symm,(fun _ h=>nomatch h),(fun _ h=>nomatch h)⟩ ?_ ?_
  .show upd _ b _ b=_;rw[Ja];exact congrArg (fun l=>some (HO.ins CB dx l)) (JdK pd rd ud)
  .show upd _ b _ pd=_;rw[Jg n1.symm,Jg n6.symm,Jg n1.symm,Jg n3.symm,Jg n1.symm,Ja];rfl
  .show upd _ b _ rd=_;rw[Jg n2,Jg n5.symm,Jg n2,Ja]
  .show upd _ b _ ud=_;rw[Jg n4,Ja]
  .rintro c (rfl|rfl|rfl|⟨_,h,_⟩)
   .exact hpd
   .exact hrd
   .exact hud
   .exact nomatch h
  .intro c o e n;rw[Jg n,Jg (Jh e hud),Jg n,Jg (Jh e hrd),Jg n,Jg (Jh e hpd)];exact e
theorem Jb0(L:BL)(who:Str):∀ks:List Str,Jak (ks.map fun w=>((Av w:Key),V.ref (L.ad w).p)) (Av who)=if who∈ks then some (.ref (L.ad who).p)else none
 | []=>by simp[Jo1]
 | x::r=>by
  rw[Al]
  by_cases c:x=who
  .rw[YW (p:=((Av x:Key),V.ref (L.ad x).p)) (congrArg Av c),if_pos (by rw[c];exact Az),c]
  .rw[YV (p:=((Av x:Key),V.ref (L.ad x).p)) (fun z=>c (Av.inj z)),Jb0 L who r]
   by_cases m:who∈r
   .rw[if_pos m,if_pos (AY _ m)]
   .rw[if_neg m,if_neg (fun z=>(Aq.mp z).elim (fun z=>c z.symm) m)]
structure JuN(L L':BL)(M:PB):Prop where
 b:L'.b=L.b
 pd:L'.pd=L.pd
 rd:L'.rd=L.rd
 ud:L'.ud=L.ud
 ad:∀w∈M.keys,L'.ad w=L.ad w
inductive JgC(CB CP:Addr)(vs:List V)(H:Hp)(Q:VK):Prop
 | mk (L:BL) (M:PB) (who:Str) (h1:vs=[.ref L.b,.str who]) (h2:Yd CB CP H L M) (h3:M.keys.length<=900) (h4:∀L' H',Yd CB CP H' L' (M.touch who)->Je7 L M (M.touch who) L' H H'->L'.b=L.b->Q (.ref (L'.ad who).p) H'):JgC CB CP vs H Q
def Jbt(CB CP:Addr):Sp:=fun vs H Q _=>JgC CB CP vs H Q
theorem Ji4{f:Addr}{fd fd1:Aa}(F:Fun K "person_of" "Book.person_of" Jau f fd)(T:Txt K mg CB CP fBI fPI)(Jbo:Jbf P w K mg base CX0 CP "__init__" ["self"] (JnX CP) 1 fPI fd1) :
  YU P w K mg base CX0 3 f fd ["self", "who"] (Jbt CB CP):=by
 refine F.ok Jez (fun vs H Q E h=>?_) (fun cdv A outer s0 H vs Q E hr h=>?_)
 .obtain⟨_,_,_,rfl,_⟩:=h;rfl
 .obtain⟨L,M,who,rfl,hB,hkl,k⟩:=h;obtain⟨dx,hb⟩:=hB.ob;refine⟨_,(Jf (Jp (JpH (JaA (pw 0) rfl) (pw 1) (Jk8 T.mkPerson Jbo.ok (hr.mono (by decide)) rfl T.mgPerson Jbo.b .nil Jbw) (by constructor<;>rfl)))),?_⟩
  refine⟨L.b,CB,dx,_,_,rfl,hb,T.clBook,T.n_people,Jgk _ _ _,L.pd,rfl,.inl ⟨_,.inl hB.people⟩,fun x dx' nx ndx nex=>?_⟩;refine⟨x,dx',rfl,Ja,fun dd nn H1 hdd hnn ndn hP kp=>⟨rfl,?_⟩⟩
  have s0':JV H (upd (upd H dx' (.own x)) x (.ins CP dx' [])):=fun b o e=>by
   rw[Jg (Jh e nx),Jg (Jh e ndx)];exact e
  have s1:JV H H1:=fun b o e=>kp b o (s0' b o e) (Jh e nx);have hdd0:H dd=none:=s0'.free hdd;have hnn0:H nn=none:=s0'.free hnn;have hB1:=hB.same s1;refine⟨_,Av who,hB1.people,rfl,Jz (by rw[A2];omega),fun v hv=>?_,fun hv=>?_⟩
  .rw[Jb0]at hv
   by_cases m:who∈M.keys
   .rw[if_pos m]at hv;cases hv;have e:=Jg9 m;exact k L H1 (by rw[e];exact hB1) (by rw[e];exact Je7.of_same s1) rfl
   .rw[if_neg m]at hv;cases hv
  .rw[Jb0]at hv
   have m:who∉M.keys:=fun m=>by rw[if_pos m]at hv;cases hv
   have et:M.touch who={ M with keys:=M.keys++[who] }:=by unfold PB.touch;rw[if_neg m]
   have hw:∀v∈M.keys,v≠who:=fun v hv z=>m (z ▸ hv)
   let L':BL:={ L with ad:=fun y=>if y=who then⟨x,dd,nn⟩else L.ad y }
   have adw:L'.ad who=⟨x,dd,nn⟩:=if_pos rfl;have ado:∀v∈M.keys,L'.ad v=L.ad v:=fun v hv=>if_neg (hw v hv);have npd:∀o,H1 L.pd=some o->True:=fun _ _=>trivial;obtain⟨dxp,hobp⟩:=hP.ob;have hPd:=hP.days;have hPn:=hP.nets;have nxpd:x≠L.pd:=(Jh hB.people nx).symm;have ndpd:dd≠L.pd:=(Jh hB.people hdd0).symm;have nnpd:nn≠L.pd:=(Jh hB.people hnn0).symm;obtain⟨kr,er,rr⟩:=hB.rates;obtain⟨ku,eu,ru⟩:=hB.dues;have nxb:L.b≠L.pd:=Y1 hb hB.people (fun z=>nomatch z)
   have hput:Jag (M.keys.map fun w=>((Av w:Key),V.ref (L.ad w).p)) (Av who) (V.ref x)=(M.keys++[who]).map fun w=>((Av w:Key),V.ref (L'.ad w).p):=by
    rw[JoS _ (by rw[Jb0,if_neg m]),AJ];congr 1
    .exact Bm fun v hv=>by rw[ado v hv]
    .show[((Av who:Key),V.ref x)]=[((Av who:Key),V.ref (L'.ad who).p)];rw[adw]
   rw[hput]
   have up:∀b o,H1 b=some o->b≠L.pd->upd H1 L.pd (.dK ((M.keys++[who]).map fun w=>((Av w:Key),V.ref (L'.ad w).p))) b=some o:=fun b o e n=>by rw[Jg n];exact e
   have hdict:∀b kvs,H1 b=some (.dK kvs)->b≠L.pd->True:=fun _ _ _ _=>trivial;have sS:Jah H1 (upd H1 L.pd (.dK ((M.keys++[who]).map fun w=>((Av w:Key),V.ref (L'.ad w).p)))):=Jah.dict hB1.people;have bsame:∀a bs,JG H1 a bs->JG (upd H1 L.pd (.dK ((M.keys++[who]).map fun w=>((Av w:Key),V.ref (L'.ad w).p)))) a bs:=fun a bs h=>Jy.mpr (Rep.sameS sS (Jy.mp h))
   have hper:∀v∈M.keys,YA CP (upd H1 L.pd (.dK ((M.keys++[who]).map fun w=>((Av w:Key),V.ref (L'.ad w).p)))) (L.ad v).p (L.ad v).dd (L.ad v).nn (M.pn v):=fun v hv=>by
    obtain⟨⟨dv,e1⟩,e2,e3⟩:=hB1.per v hv;exact⟨⟨dv,up _ _ e1 (Y1 e1 hB1.people (fun z=>nomatch z))⟩,up _ _ e2 (hB.dp v hv).1,up _ _ e3 (hB.np v hv).1⟩
   have old:∀v∈M.keys,(L.ad v).p≠x/\(L.ad v).dd≠dd/\(L.ad v).dd≠nn/\(L.ad v).nn≠dd:=fun v hv=>by
    obtain⟨⟨dv,e1⟩,e2,e3⟩:=hB.per v hv;exact⟨Jh e1 nx,Jh e2 hdd0,Jh e2 hnn0,Jh e3 hdd0⟩
   refine(congrArg (fun z=>Q (V.ref z.p) _) adw).mp ?_ |> id
   refine k L' _ ?_ ?_ rfl
   .rw[et];refine⟨⟨dx,up _ _ (s1 _ _ hb) nxb⟩,Ja,?_,?_,?_,?_,?_,?_,?_,?_,hB.pr,hB.pu,hB.ru,?_,?_⟩
    .exact CK.mpr ⟨hB.nd,by simp,fun a ha b hb=>by rw[A5.mp hb];exact hw a ha⟩
    .refine⟨kr,up _ _ (s1 _ _ er) hB.pr.symm,JN (fun p q hzz=>?_) rr⟩;obtain⟨z,a,e,h⟩:=hzz;exact⟨z,a,e,bsame _ _ (JG.same h s1)⟩
    .refine⟨ku,up _ _ (s1 _ _ eu) hB.pu.symm,JN (fun p q hzz=>?_) ru⟩;obtain⟨z,a,c,e,t,h⟩:=hzz;exact⟨z,a,c,e,sS.1 _ _ (s1 _ _ t),bsame _ _ (JG.same h s1)⟩
    .intro v hv
     rcases Ae.mp hv with hv|hv
     .rw[ado v hv];exact hper v hv
     .rw[A5.mp hv,adw];have:M.pn who=Pn.nw:=hB.non who m;rw[this];exact⟨⟨dxp,up _ _ hobp nxpd⟩,up _ _ hPd ndpd,up _ _ hPn nnpd⟩
    .intro v hv;exact hB.non v fun z=>hv (Ba _ z)
    .intro v hv u hu n
     rcases Ae.mp hv with hv|hv<;>rcases Ae.mp hu with hu|hu
     .rw[ado v hv,ado u hu];exact hB.app v hv u hu n
     .rw[ado v hv,A5.mp hu,adw];exact(old v hv).1
     .rw[ado u hu,A5.mp hv,adw];exact(old u hu).1.symm
     .exact absurd ((A5.mp hv).trans (A5.mp hu).symm) n
    .intro v hv u hu n
     rcases Ae.mp hv with hv|hv<;>rcases Ae.mp hu with hu|hu
     .rw[ado v hv,ado u hu];exact hB.apd v hv u hu n
     .rw[ado v hv,A5.mp hu,adw];exact(old v hv).2.1
     .rw[ado u hu,A5.mp hv,adw];exact(old u hu).2.1.symm
     .exact absurd ((A5.mp hv).trans (A5.mp hu).symm) n
    .intro v hv u hu
     rcases Ae.mp hv with hv|hv<;>rcases Ae.mp hu with hu|hu
     .rw[ado v hv,ado u hu];exact hB.apn v hv u hu
     .rw[ado v hv,A5.mp hu,adw];exact(old v hv).2.2.1
     .rw[ado u hu,A5.mp hv,adw];exact(old u hu).2.2.2.symm
     .rw[A5.mp hv,A5.mp hu,adw];exact ndn
    .intro v hv
     rcases Ae.mp hv with hv|hv
     .rw[ado v hv];exact hB.dp v hv
     .rw[A5.mp hv,adw];exact⟨ndpd,(Jh er hdd0).symm,(Jh eu hdd0).symm⟩
    .intro v hv
     rcases Ae.mp hv with hv|hv
     .rw[ado v hv];exact hB.np v hv
     .rw[A5.mp hv,adw];exact⟨nnpd,(Jh er hnn0).symm,(Jh eu hnn0).symm⟩
   .rw[et];refine⟨fun c o e n=>up _ _ (s1 _ _ e) fun z=>n (.inl z),fun c h=>?_⟩
    rcases h with h|h|h|⟨v,hv,h⟩
    .exact .inl (.inl h)
    .exact .inl (.inr (.inl h))
    .exact .inl (.inr (.inr (.inl h)))
    .rcases Ae.mp hv with hv|hv
     .rw[ado v hv]at h;exact .inl (.inr (.inr (.inr ⟨v,hv,h⟩)))
     .rw[A5.mp hv,adw]at h
      rcases h with h|h
      .rw[h];exact .inr nx
      .rw[h];exact .inr hdd0
def Jb6(CB CP:Addr)(H:Hp)(L:BL)(M:PB)(who:Str)(L':BL)(H':Hp):Prop:=Yd CB CP H' L' (M.touch who)/\Je7 L M (M.touch who) L' H H'/\L'.b=L.b
inductive JsG(CB CP:Addr)(val:PB->Str->Int->Int)(vs:List V)(H:Hp)(Q:VK):Prop
 | mk (L:BL) (M:PB) (n:Nat) (who:Str) (wk:Int) (h1:vs=[.ref L.b,.str who,.int wk]) (h2:Yd CB CP H L M) (h3:JbS n M) (h4:n<=290) (h5:∀L' H',Jb6 CB CP H L M who L' H'->Q (.int (val M who wk)) H'):JsG CB CP val vs H Q
def JpA(CB CP:Addr)(val:PB->Str->Int->Int):Sp:=fun vs H Q _=>JsG CB CP val vs H Q
theorem Jb6.same{H:Hp}{L:BL}{M:PB}{who:Str}{L':BL}{H' H'':Hp}(h:Jb6 CB CP H L M who L' H')(s:JV H' H''):Jb6 CB CP H L M who L' H'':=⟨h.1.same s,h.2.1.trans (Je7.of_same s),h.2.2⟩
theorem Jb6.per{H:Hp}{L:BL}{M:PB}{who:Str}{L':BL}{H':Hp}(h:Jb6 CB CP H L M who L' H'):YA CP H' (L'.ad who).p (L'.ad who).dd (L'.ad who).nn (M.pn who):=by
 have:=h.1.per who (JbT M who);rw[Yr]at this;exact this
theorem Jb6.obj{H:Hp}{L:BL}{M:PB}{who:Str}{L':BL}{H':Hp}(h:Jb6 CB CP H L M who L' H'):∃dx,H' L.b=some (.ins CB dx (fB L'.pd L'.rd L'.ud)):=by
 obtain⟨dx,e⟩:=h.1.ob;rw[h.2.2]at e;exact⟨dx,e⟩
theorem Jb6.rates{H:Hp}{L:BL}{M:PB}{who:Str}{L':BL}{H':Hp}(h:Jb6 CB CP H L M who L' H'):Jam (YT H') H' L'.rd M.rates:=by
 have:=h.1.rates;rw[Ja3]at this;exact this
theorem Jb6.dues{H:Hp}{L:BL}{M:PB}{who:Str}{L':BL}{H':Hp}(h:Jb6 CB CP H L M who L' H'):Jam (JbG H') H' L'.ud M.dues:=by
 have:=h.1.dues;rw[Jbr]at this;exact this
theorem JmQ{f f1 f2:Addr}{fd fd1 fd2:Aa}(F:Fun K "pay_of" "Book.pay_of" Jbn f fd)(T:Txt K mg CB CP fBI fPI)(Jm:Jbf P w K mg base CX0 CB "person_of" ["self", "who"] (Jbt CB CP) 3 f1 fd1)
  (YJ:Jbf P w K mg base CX0 CP "week_pay" ["self", "week", "rates"] (JiW CP) 4 f2 fd2):YU P w K mg base CX0 5 f fd ["self", "who", "week"] (JpA CB CP Jpf):=by
 refine F.ok Jgq (fun vs H Q E h=>?_) (fun cdv A outer s0 H vs Q E hr h=>?_)
 .obtain⟨_,_,_,_,_,rfl,_⟩:=h;rfl
 .obtain⟨L,M,n,who,wk,rfl,hB,ok,hn,k⟩:=h;obtain⟨dx,hb⟩:=hB.ob;have kl:=ok.kl;refine⟨_,(Jf (Jp (YS (YS (pw 0) T.clBook Jm.meth Jm.ok (hr.mono (by decide)) Jm.b .nil Jbw (pa1 (pw 1))) T.clPerson YJ.meth YJ.ok (hr.mono (by decide)) YJ.b .nil Jbw (Jb (pw 2) (pa1 (JaA (pw 0) rfl)))))),?_⟩;refine⟨L.b,dx,_,rfl,hb,Jhw _ _ _ (by decide +kernel) (by decide +kernel) (by decide +kernel),L,M,who,rfl,hB,by omega,fun L1 H1 hB1 kp1 eb=>?_⟩;have a1:Jb6 CB CP H L M who L1 H1:=⟨hB1,kp1,eb⟩;obtain⟨dp,hp⟩:=a1.per.ob;obtain⟨db,hb1⟩:=a1.obj;refine⟨_,dp,_,rfl,hp,Jgm _ _ _ _ (by decide +kernel) (by decide +kernel) (by decide +kernel) (by decide +kernel),L.b,CB,db,_,_,rfl,hb1,T.clBook,T.n_rates,Jfk _ _ _,?_⟩;exact⟨_,_,_,_,_,wk,M.rates,rfl,a1.per,ok.pn (by omega) who,a1.rates,ok.rates (by omega),fun H2 s2=>k L1 H2 (a1.same s2)⟩
inductive JkN(CB CP:Addr)(vs:List V)(H:Hp)(Q:VK):Prop
 | mk (L:BL) (M:PB) (n:Nat) (who:Str) (wk:Int) (h1:vs=[.ref L.b,.str who,.int wk]) (h2:Yd CB CP H L M) (h3:JbS n M) (h4:n<=290) (h5:∀L' H' d,Jb6 CB CP H L M who L' H'->H' d=some (.dK (ivs (Jbb M who wk)))->Q (.ref d) H'):JkN CB CP vs H Q
def JkT(CB CP:Addr):Sp:=fun vs H Q _=>JkN CB CP vs H Q
theorem Jl1{f f1 f2:Addr}{fd fd1 fd2:Aa}(F:Fun K "nets_of" "Book.nets_of" Ja8 f fd)(T:Txt K mg CB CP fBI fPI)(Jm:Jbf P w K mg base CX0 CB "person_of" ["self", "who"] (Jbt CB CP) 3 f1 fd1)
  (JC:Jbf P w K mg base CX0 CP "nets_by_month" ["self", "last", "rates", "dues"] (Jre CP) 5 f2 fd2):YU P w K mg base CX0 6 f fd ["self", "who", "week"] (JkT CB CP):=by
 refine F.ok Jf6 (fun vs H Q E h=>?_) (fun cdv A outer s0 H vs Q E hr h=>?_)
 .obtain⟨_,_,_,_,_,rfl,_⟩:=h;rfl
 .obtain⟨L,M,n,who,wk,rfl,hB,ok,hn,k⟩:=h;obtain⟨dx,hb⟩:=hB.ob;have kl:=ok.kl;refine⟨_,(Jf (Jp (YS (YS (pw 0) T.clBook Jm.meth Jm.ok (hr.mono (by decide)) Jm.b .nil Jbw (pa1 (pw 1))) T.clPerson JC.meth JC.ok (hr.mono (by decide)) JC.b .nil Jbw (Jb (pw 2) (Jb (JaA (pw 0) rfl) (pa1 (JaA (pw 0) rfl))))))),?_⟩;refine⟨L.b,dx,_,rfl,hb,Jhw _ _ _ (by decide +kernel) (by decide +kernel) (by decide +kernel),L,M,who,rfl,hB,by omega,fun L1 H1 hB1 kp1 eb=>?_⟩;have a1:Jb6 CB CP H L M who L1 H1:=⟨hB1,kp1,eb⟩;obtain⟨dp,hp⟩:=a1.per.ob;obtain⟨db,hb1⟩:=a1.obj;refine⟨_,dp,_,rfl,hp,Jgm _ _ _ _ (by decide +kernel) (by decide +kernel) (by decide +kernel) (by decide +kernel),L.b,CB,db,_,_,rfl,hb1,T.clBook,T.n_rates,Jfk _ _ _,L.b,CB,db,_,_,rfl,hb1,T.clBook,T.n_dues,JjA _ _ _,?_⟩;refine⟨_,_,_,_,_,_,wk,M.rates,M.dues,rfl,a1.per,ok.pn (by omega) who,a1.rates,ok.rates (by omega),a1.dues,ok.dues (by omega),fun d H2 hd s2 hd2=>k L1 H2 d (a1.same s2) hd2⟩
theorem JjK{f f1:Addr}{fd fd1:Aa}(F:Fun K "right_of" "Book.right_of" JaK f fd)(Z:Zs mg)(T:Txt K mg CB CP fBI fPI)(Jao:Jbf P w K mg base CX0 CB "nets_of" ["self", "who", "week"] (JkT CB CP) 6 f1 fd1) :
  YU P w K mg base CX0 7 f fd ["self", "who", "week"] (JpA CB CP JaZ):=by
 refine F.ok Jfc (fun vs H Q E h=>?_) (fun cdv A outer s0 H vs Q E hr h=>?_)
 .obtain⟨_,_,_,_,_,rfl,_⟩:=h;rfl
 .obtain⟨L,M,n,who,wk,rfl,hB,ok,hn,k⟩:=h;obtain⟨dx,hb⟩:=hB.ob;refine⟨_,(Jf (Jp (Jn (Jip rfl) (by rfl) Z.z_sum JeS (pa1 (Jhm (YS (pw 0) T.clBook Jao.meth Jao.ok (hr.mono (by decide)) Jao.b .nil Jbw (Jb (pw 1) (pa1 (pw 2))))))))),?_⟩;refine⟨L.b,dx,_,rfl,hb,Jhw _ _ _ (by decide +kernel) (by decide +kernel) (by decide +kernel),L,M,n,who,wk,rfl,hB,ok,hn,fun L1 H1 d a1 hd1=>?_⟩;refine⟨.inr (.inr (.inl ⟨rfl,.inl ⟨_,hd1⟩⟩)),d,_,rfl,rfl,hd1,fun vw hvw=>?_⟩;have s2:=Je (o:=JcY vw d) hvw;exact⟨vw,d,_,_,rfl,Ja,s2 _ _ hd1,Jh2 _,k L1 _ (a1.same s2)⟩
inductive JkP(CB CP:Addr)(vs:List V)(H:Hp)(Q:VK):Prop
 | mk (L:BL) (M:PB) (who:Str) (h1:vs=[.ref L.b,.str who]) (h2:Yd CB CP H L M) (h3:M.keys.length<=900) (h4:∀L' H',Jb6 CB CP H L M who L' H'->Q (.int (M.pn who).paid) H'):JkP CB CP vs H Q
def Jkw(CB CP:Addr):Sp:=fun vs H Q _=>JkP CB CP vs H Q
theorem JlS{f f1:Addr}{fd fd1:Aa}(F:Fun K "paid_to" "Book.paid_to" Ja7 f fd)(T:Txt K mg CB CP fBI fPI)(Jm:Jbf P w K mg base CX0 CB "person_of" ["self", "who"] (Jbt CB CP) 3 f1 fd1) :
  YU P w K mg base CX0 4 f fd ["self", "who"] (Jkw CB CP):=by
 refine F.ok JfM (fun vs H Q E h=>?_) (fun cdv A outer s0 H vs Q E hr h=>?_)
 .obtain⟨_,_,_,rfl,_⟩:=h;rfl
 .obtain⟨L,M,who,rfl,hB,kl,k⟩:=h;obtain⟨dx,hb⟩:=hB.ob;refine⟨_,(Jf (Jp (JaA (YS (pw 0) T.clBook Jm.meth Jm.ok (hr.mono (by decide)) Jm.b .nil Jbw (pa1 (pw 1))) rfl))),?_⟩;refine⟨L.b,dx,_,rfl,hb,Jhw _ _ _ (by decide +kernel) (by decide +kernel) (by decide +kernel),L,M,who,rfl,hB,kl,fun L1 H1 hB1 kp1 eb=>?_⟩;have a1:Jb6 CB CP H L M who L1 H1:=⟨hB1,kp1,eb⟩;obtain⟨dp,hp⟩:=a1.per.ob;exact⟨_,CP,dp,_,_,rfl,hp,T.clPerson,T.n_paid,Jgc _ _ _ _,k L1 H1 a1⟩
inductive Jnw(CB CP CH:Addr)(vs:List V)(H:Hp)(Q:VK)(E:XK):Prop
 | mk (L:BL) (M:PB) (n:Nat) (who:Str) (day many:Int) (h1:vs=[.ref L.b,.str who,.int day,.int many]) (h2:Yd CB CP H L M) (h3:JbS n M) (h4:n<=280) (h5:(¬(0<=many/\many<=24)->E (.ref CH) none H)) (h6:(0<=many/\many<=24->∀M' L' H',M'=(M.touch who).set who { (M.pn who)with days:=Y7 (M.pn who).days day many }->Yd CB CP H' L' M'->Je7 L M M' L' H H'->L'.b=L.b->Q (.int (Jpf M' who (day/7))) H')):Jnw CB CP CH vs H Q E
def JnH(CB CP CH:Addr):Sp:=fun vs H Q E=>Jnw CB CP CH vs H Q E
theorem Jhc{f f1 f2 f3 f4:Addr}{fd fd1 fd2 fd3 fd4:Aa}(F:Fun K "tell_hours" "Book.tell_hours" Jac f fd)(G:Gs mg)(T:Txt K mg CB CP fBI fPI)(X_NoHours:Exc K mg base "NoHours" CH)
  (Jm:Jbf P w K mg base CX0 CB "person_of" ["self", "who"] (Jbt CB CP) 3 f1 fd1) (Yy:Jbf P w K mg base CX0 CP "set_hours" ["self", "day", "many"] (Jqj CP) 1 f2 fd2)
  (JaM:Jbf P w K mg base CX0 CB "pay_of" ["self", "who", "week"] (JpA CB CP Jpf) 5 f3 fd3) (Jcb:JK P w K mg base "week_of" ["day"] Jmy 1 f4 fd4) :
  YU P w K mg base (CXr P w) 6 f fd ["self", "who", "day", "many"] (JnH CB CP CH):=by
 refine F.okR JdJ (fun vs H Q E h=>?_) (fun cdv A outer s0 H vs Q E hr h=>?_)
 .obtain⟨_,_,_,_,_,_,rfl,_⟩:=h;rfl
 .obtain⟨L,M,n,who,day,many,rfl,hB,ok,hn,hE,k⟩:=h;obtain⟨dx,hb⟩:=hB.ob;have kl:=ok.kl
  refine⟨_,(Jd (JL (PW.pt (JbO (Jq JbW (pw 3) Jc (Jv _)) (JaW (Jq JeZ (pw 3) (JhU rfl G.g_HOURS_OF_DAY) (Jv _))))) (Jf (Jfp X_NoHours rfl Jx)) Jr)
   (Jd (JaL (YS (YS (pw 0) T.clBook Jm.meth Jm.ok (hr.mono (by decide)) Jm.b .nil Jbw (pa1 (pw 1))) T.clPerson Yy.meth Yy.ok (hr.mono (by decide)) Yy.b .nil Jbw (Jb (pw 2) (pa1 (pw 3)))))
   (Jf (Jp (YS (pw 0) T.clBook JaM.meth JaM.ok (hr.mono (by decide)) JaM.b .nil Jbw (Jb (pw 1) (pa1 (Js Jcb hr (pa1 (pw 2)))))))))),fun _ nz=>?_⟩
  refine⟨_,rfl,?_⟩;refine JY (fun h=>?_) (fun h=>?_)
  .have h:=of_decide_eq_true h;refine Jfa ?_;exact⟨zs1,hE (by omega)⟩
  .have h:¬many<0:=fun z=>h (decide_eq_true z);refine⟨_,rfl,?_⟩;refine JY (fun g=>?_) (fun g=>nz fun _ nz=>?_)
   .have g:=of_decide_eq_true g;exact⟨zs1,hE (by omega)⟩
   .have g:¬24<many:=fun z=>g (decide_eq_true z)
    have hm:0<=many/\many<=24:=by omega
    refine⟨L.b,dx,_,rfl,hb,Jhw _ _ _ (by decide +kernel) (by decide +kernel) (by decide +kernel),L,M,who,rfl,hB,by omega,fun L1 H1 hB1 kp1 eb=>?_⟩;have a1:Jb6 CB CP H L M who L1 H1:=⟨hB1,kp1,eb⟩;obtain⟨dp,hp⟩:=a1.per.ob;have dl:=ok.dl who;refine⟨_,dp,_,rfl,hp,Jgm _ _ _ _ (by decide +kernel) (by decide +kernel) (by decide +kernel) (by decide +kernel),_,_,_,M.pn who,day,many,rfl,a1.per,by omega,?_⟩;obtain⟨hob,hdd,hnn⟩:=a1.per;have n1:(L1.ad who).p≠(L1.ad who).dd:=Y1 hp hdd (fun z=>nomatch z);have n2:(L1.ad who).nn≠(L1.ad who).dd:=(hB1.apn who (JbT M who) who (JbT M who)).symm
    obtain⟨L2,eb2,hB2,kp2⟩:=Jlh (H':=upd H1 (L1.ad who).dd (.dK (ivs (Y7 (M.pn who).days day many)))) (q:={ (M.pn who)with days:=Y7 (M.pn who).days day many }) (nn:=(L1.ad who).nn) hB1 (JbT M who)
     (fun b o e _ n=>by rw[Jg n];exact e) ⟨⟨dp,by rw[Jg n1];exact hp⟩,Ja,by rw[Jg n2];exact hnn⟩ (.inl rfl)
    have ok2:JbS (n+1) ((M.touch who).set who { (M.pn who)with days:=Y7 (M.pn who).days day many }):=by
     refine(ok.touch who).set (JjN (ok.nd who) _ _) (JdI hm (ok.val who)) ?_;have:=Jdc (M.pn who).days day many;show(Y7 (M.pn who).days day many).length<=n+1;omega
    have hw2:who∈((M.touch who).set who { (M.pn who)with days:=Y7 (M.pn who).days day many }).keys:=JbT M who;obtain⟨dx2,hb2⟩:=hB2.ob;have eb3:L2.b=L.b:=eb2.trans eb;rw[eb3]at hb2;refine nz ⟨L.b,dx2,_,rfl,hb2,Jhw _ _ _ (by decide +kernel) (by decide +kernel) (by decide +kernel),day,rfl,L2,_,n+1,who,day/7,by rw[eb3];rfl,hB2,ok2,by omega,fun L3 H3 a3=>?_⟩;obtain⟨z1,z2,z3⟩:=a3;rw[Jg9 hw2]at z1 z2;exact k hm _ L3 H3 rfl z1 ((kp1.trans kp2).trans z2) (z3.trans eb3)
theorem Jq4{CB CP:Addr}{H:Hp}{L:BL}{M:PB}{wk:Int}{a:Addr}{bs:List Bd}{kvs:List (Key×V)}(hB:Yd CB CP H L M)(hb:JG H a bs)(e:H L.rd=some (.dK kvs))(pr:BV (fun(p:Key×V)(q:Int×List Bd)=>p.1=Aj q.1/\YT H q.2 p.2) kvs M.rates) :
  Yd CB CP (upd H L.rd (.dK (Jag kvs (Aj wk) (.ref a)))) L { M with rates:=Y7 M.rates wk bs }/\Je7 L M { M with rates:=Y7 M.rates wk bs } L H (upd H L.rd (.dK (Jag kvs (Aj wk) (.ref a)))):=by
 have sS:Jah H (upd H L.rd (.dK (Jag kvs (Aj wk) (.ref a)))):=Jah.dict e;have bsame:∀a' bs,JG H a' bs->JG (upd H L.rd (.dK (Jag kvs (Aj wk) (.ref a)))) a' bs:=fun a' bs h=>Jy.mpr (Rep.sameS sS (Jy.mp h))
 have up:∀b o,H b=some o->b≠L.rd->upd H L.rd (.dK (Jag kvs (Aj wk) (.ref a))) b=some o:=fun b o e n=>by rw[Jg n];exact e
 obtain⟨dx,ho⟩:=hB.ob;obtain⟨ku,eu,ru⟩:=hB.dues
 refine⟨⟨⟨dx,up _ _ ho (Y1 ho e fun z=>nomatch z)⟩,up _ _ hB.people hB.pr,hB.nd,⟨_,Ja,JN (fun p q ⟨z,c,e,h⟩ =>⟨z,c,e,bsame _ _ h⟩) (Jfl pr ⟨a,rfl,hb⟩)⟩,⟨ku,up _ _ eu hB.ru.symm,JN (fun p q ⟨z,a,c,e,t,h⟩ =>⟨z,a,c,e,sS.1 _ _ t,bsame _ _ h⟩) ru⟩,
  fun v hv=>?_,hB.non,hB.app,hB.apd,hB.apn,hB.pr,hB.pu,hB.ru,hB.dp,hB.np⟩,⟨fun c o z n=>up c o z fun y=>n (.inr (.inl y)),fun c z=>.inl z⟩⟩
 obtain⟨⟨dv,a1⟩,a2,a3⟩:=hB.per v hv;exact⟨⟨dv,up _ _ a1 (Y1 a1 e fun z=>nomatch z)⟩,up _ _ a2 (hB.dp v hv).2.1,up _ _ a3 (hB.np v hv).2.1⟩
theorem Jq8{CB CP:Addr}{H:Hp}{L:BL}{M:PB}{m:Int}{v:V}{t:Tab}{kvs:List (Key×V)}(hB:Yd CB CP H L M)(ht:JbG H t v)(e:H L.ud=some (.dK kvs))(pr:BV (fun(p:Key×V)(q:Int×Tab)=>p.1=Aj q.1/\JbG H q.2 p.2) kvs M.dues) :
  Yd CB CP (upd H L.ud (.dK (Jag kvs (Aj m) v))) L { M with dues:=Y7 M.dues m t }/\Je7 L M { M with dues:=Y7 M.dues m t } L H (upd H L.ud (.dK (Jag kvs (Aj m) v))):=by
 have sS:Jah H (upd H L.ud (.dK (Jag kvs (Aj m) v))):=Jah.dict e;have bsame:∀a' bs,JG H a' bs->JG (upd H L.ud (.dK (Jag kvs (Aj m) v))) a' bs:=fun a' bs h=>Jy.mpr (Rep.sameS sS (Jy.mp h))
 have up:∀b o,H b=some o->b≠L.ud->upd H L.ud (.dK (Jag kvs (Aj m) v)) b=some o:=fun b o e n=>by rw[Jg n];exact e
 obtain⟨dx,ho⟩:=hB.ob;obtain⟨kr,er,rr⟩:=hB.rates
 refine⟨⟨⟨dx,up _ _ ho (Y1 ho e fun z=>nomatch z)⟩,up _ _ hB.people hB.pu,hB.nd,⟨kr,up _ _ er hB.ru,JN (fun p q ⟨z,c,e,h⟩ =>⟨z,c,e,bsame _ _ h⟩) rr⟩,⟨_,Ja,JN (fun p q ⟨z,a,c,e,t,h⟩ =>⟨z,a,c,e,sS.1 _ _ t,bsame _ _ h⟩) (Jfl pr ht)⟩,
  fun w hw=>?_,hB.non,hB.app,hB.apd,hB.apn,hB.pr,hB.pu,hB.ru,hB.dp,hB.np⟩,⟨fun c o z n=>up c o z fun y=>n (.inr (.inr (.inl y))),fun c z=>.inl z⟩⟩
 obtain⟨⟨dv,a1⟩,a2,a3⟩:=hB.per w hw;exact⟨⟨dv,up _ _ a1 (Y1 a1 e fun z=>nomatch z)⟩,up _ _ a2 (hB.dp w hw).2.2,up _ _ a3 (hB.np w hw).2.2⟩
inductive Jmr(CB CP CN:Addr)(vs:List V)(H:Hp)(Q:VK)(E:XK):Prop
 | mk (L:BL) (M:PB) (wk:Int) (a:Addr) (bs:List Bd) (h1:vs=[.ref L.b,.int wk,.ref a]) (h2:Yd CB CP H L M) (h3:M.rates.length<=900) (h4:JG H a bs) (h5:bs.length<=1000) (h6:(JaX none bs=false->∀H',JV H H'->E (.ref CN) none H')) (h7:(JaX none bs=true->∀H',Yd CB CP H' L { M with rates:=Y7 M.rates wk bs }->Je7 L M { M with rates:=Y7 M.rates wk bs } L H H'->Q .non H')):Jmr CB CP CN vs H Q E
def JnN(CB CP CN:Addr):Sp:=fun vs H Q E=>Jmr CB CP CN vs H Q E
theorem JiO{f f1:Addr}{fd fd1:Aa}(F:Fun K "tell_rate" "Book.tell_rate" Jas f fd)(T:Txt K mg CB CP fBI fPI)(X_NoTable:Exc K mg base "NoTable" CN)(JaC:JK P w K mg base "good_bands" ["bands"] JjL 1 f1 fd1) :
  YU P w K mg base (CXr P w) 2 f fd ["self", "week", "bands"] (JnN CB CP CN):=by
 refine F.okR JeQ (fun vs H Q E h=>?_) (fun cdv A outer s0 H vs Q E hr h=>?_)
 .obtain⟨_,_,_,_,_,rfl,_⟩:=h;rfl
 .obtain⟨L,M,wk,a,bs,rfl,hB,hrl,hb,hl,hE,k⟩:=h;have hu:=JbH hr
  refine⟨_,(Jd (JL (Jbe (JaP (Js JaC hr (pa1 (pw 2))))) (Jf (Jfp X_NoTable rfl Jx)) Jr)
   (Jf (JaG hu (JaA (pw 0) rfl) (pw 1) (pw 2) rfl))),fun _ nz=>?_⟩
  refine⟨a,bs,rfl,hb,hl,fun H1 s1=>⟨_,rfl,?_⟩⟩
  cases hc:JaX none bs with
  | false=>
   refine Jfa ?_;exact⟨zs1,hE hc H1 s1⟩
  | true=>
   refine Jdv ?_;refine nz ?_;have hB1:=hB.same s1;obtain⟨dx,ho⟩:=hB1.ob;obtain⟨kvs,e,pr⟩:=hB1.rates
   have hkl:kvs.length=M.rates.length:=by
    have:=congrArg Bn (Jbx pr);simpa using this
   refine⟨L.b,CB,dx,_,_,rfl,ho,T.clBook,T.n_rates,Jfk _ _ _,L.rd,_,rfl,Jgy.k (k:=Aj wk) e (Jz (by omega)),?_⟩;obtain⟨z1,z2⟩:=Jq4 (wk:=wk) hB1 (hb.same s1) e pr;exact k hc _ z1 ((Je7.of_same s1).trans z2)
inductive Jop(CB CP CN:Addr)(vs:List V)(H:Hp)(Q:VK)(E:XK):Prop
 | mk (L:BL) (M:PB) (m:Int) (a:Addr) (t:Tab) (h1:vs=[.ref L.b,.int m,.ref a]) (h2:Yd CB CP H L M) (h3:M.dues.length<=900) (h4:JbG H t (.ref a)) (h5:t.1.length<=1000) (h6:(Jcx t=false->∀H',JV H H'->E (.ref CN) none H')) (h7:(Jcx t=true->∀H',Yd CB CP H' L { M with dues:=Y7 M.dues m t }->Je7 L M { M with dues:=Y7 M.dues m t } L H H'->Q .non H')):Jop CB CP CN vs H Q E
def JnP(CB CP CN:Addr):Sp:=fun vs H Q E=>Jop CB CP CN vs H Q E
theorem JiY{f f1:Addr}{fd fd1:Aa}(F:Fun K "tell_dues" "Book.tell_dues" Jaw f fd)(T:Txt K mg CB CP fBI fPI)(X_NoTable:Exc K mg base "NoTable" CN)(JdB:JK P w K mg base "good_dues" ["table"] Jl5 2 f1 fd1) :
  YU P w K mg base (CXr P w) 3 f fd ["self", "month", "table"] (JnP CB CP CN):=by
 refine F.okR Jes (fun vs H Q E h=>?_) (fun cdv A outer s0 H vs Q E hr h=>?_)
 .obtain⟨_,_,_,_,_,rfl,_⟩:=h;rfl
 .obtain⟨L,M,m,a,t,rfl,hB,hrl,ht,hl,hE,k⟩:=h;have hu:=JbH hr
  refine⟨_,(Jd (JL (Jbe (JaP (Js JdB hr (pa1 (pw 2))))) (Jf (Jfp X_NoTable rfl Jx)) Jr)
   (Jf (JaG hu (JaA (pw 0) rfl) (pw 1) (pw 2) rfl))),fun _ nz=>?_⟩
  refine⟨a,t,rfl,ht,hl,fun H1 s1=>⟨_,rfl,?_⟩⟩
  cases hc:Jcx t with
  | false=>
   refine Jfa ?_;exact⟨zs1,hE hc H1 s1⟩
  | true=>
   refine Jdv ?_;refine nz ?_;have hB1:=hB.same s1;obtain⟨dx,ho⟩:=hB1.ob;obtain⟨kvs,e,pr⟩:=hB1.dues
   have hkl:kvs.length=M.dues.length:=by
    have:=congrArg Bn (Jbx pr);simpa using this
   refine⟨L.b,CB,dx,_,_,rfl,ho,T.clBook,T.n_dues,JjA _ _ _,L.ud,_,rfl,Jgy.k (k:=Aj m) e (Jz (by omega)),?_⟩
   have ht1:JbG H1 t (.ref a):=by
    obtain⟨a',b,e,h1,h2⟩:=ht;exact⟨a',b,e,s1 _ _ h1,h2.same s1⟩
   obtain⟨z1,z2⟩:=Jq8 (m:=m) hB1 ht1 e pr;exact k hc _ z1 ((Je7.of_same s1).trans z2)
inductive JmF(CB CP CT:Addr)(vs:List V)(H:Hp)(Q:VK)(E:XK):Prop
 | mk (L:BL) (M:PB) (n:Nat) (who:Str) (wk:Int) (h1:vs=[.ref L.b,.str who,.int wk]) (h2:Yd CB CP H L M) (h3:JbS n M) (h4:n<=290) (h5:(Jdq M who wk=true->∀L' H',Jb6 CB CP H L M who L' H'->E (.ref CT) none H')) (h6:(Jdq M who wk=false->(M.pn who).days.length<64/\∀(left:Int) M' L' H' r,left=JaZ M who wk-(M.pn who).paid->M'=(M.touch who).set who { (M.pn who)with paid:=(M.pn who).paid+mx 0 left,last:=some wk,nets:=Jbb M who wk }->
  Yd CB CP H' L' M'->Je7 L M M' L' H H'->L'.b=L.b->JgT H H' (.tup [.int (mx 0 left),.int (mn 0 left),.lst ((JeW (M.pn who).nets (Jbb M who wk)).map Je8)]) r->Q r H')):JmF CB CP CT vs H Q E
def Jmw(CB CP CT:Addr):Sp:=fun vs H Q E=>JmF CB CP CT vs H Q E
theorem JeB{f f1 f2:Addr}{fd fd1 fd2:Aa}(F:Fun K "hold_payday_of" "Book.hold_payday_of" YB f fd)(T:Txt K mg CB CP fBI fPI)(Jm:Jbf P w K mg base CX0 CB "person_of" ["self", "who"] (Jbt CB CP) 3 f1 fd1)
  (Yg:Jbf P w K mg base (CXr P w) CP "hold_payday" ["self", "week", "rates", "dues"] (JrR CP CT) 6 f2 fd2):YU P w K mg base (CXr P w) 7 f fd ["self", "who", "week"] (Jmw CB CP CT):=by
 refine F.okR JcA (fun vs H Q E h=>?_) (fun cdv A outer s0 H vs Q E hr h=>?_)
 .obtain⟨_,_,_,_,_,rfl,_⟩:=h;rfl
 .obtain⟨L,M,n,who,wk,rfl,hB,ok,hn,hE,k⟩:=h;obtain⟨dx,hb⟩:=hB.ob;have kl:=ok.kl;refine⟨_,(Jf (Jp (YS (YS (pw 0) T.clBook Jm.meth Jm.ok (hr.mono (by decide)) Jm.b .nil Jbw (pa1 (pw 1))) T.clPerson Yg.meth Yg.ok (hr.mono (by decide)) Yg.b .nil JmI (Jb (pw 2) (Jb (JaA (pw 0) rfl) (pa1 (JaA (pw 0) rfl))))))),?_⟩;refine⟨L.b,dx,_,rfl,hb,Jhw _ _ _ (by decide +kernel) (by decide +kernel) (by decide +kernel),L,M,who,rfl,hB,by omega,fun L1 H1 hB1 kp1 eb=>?_⟩;have a1:Jb6 CB CP H L M who L1 H1:=⟨hB1,kp1,eb⟩;obtain⟨dp,hp⟩:=a1.per.ob;obtain⟨db,hb1⟩:=a1.obj;refine⟨_,dp,_,rfl,hp,Jgm _ _ _ _ (by decide +kernel) (by decide +kernel) (by decide +kernel) (by decide +kernel),L.b,CB,db,_,_,rfl,hb1,T.clBook,T.n_rates,Jfk _ _ _,L.b,CB,db,_,_,rfl,hb1,T.clBook,T.n_dues,JjA _ _ _,?_⟩;refine⟨_,_,_,_,_,M.pn who,wk,M.rates,M.dues,rfl,a1.per,ok.pn (by omega) who,a1.rates,ok.rates (by omega),a1.dues,ok.dues (by omega),fun h=>hE h L1 H1 a1,fun h=>?_⟩;obtain⟨hl,k⟩:=k h;refine⟨hl,fun nets left t nn H2 en el hnn hP kp2 rp=>?_⟩;subst en;obtain⟨L2,eb2,hB2,kp3⟩:=Jlh (H':=H2) hB1 (JbT M who) (fun b o e n _=>kp2 b o e n) hP (.inr hnn);exact k left _ L2 H2 _ el rfl hB2 (kp1.trans kp3) (eb2.trans eb) (rp.from (JeH hB kp1))
theorem Jjf{x:Str}:decide (V.str x=V.str x)=true:=decide_eq_true rfl
theorem JhM{x y:Str}(h:x≠y):¬decide (V.str x=V.str y)=true:=fun z=>h (V.str.inj (of_decide_eq_true z))
def Jri(CB CP:Addr)(H:Hp)(L:BL)(M:PB)(d:JU)(L':BL)(H':Hp):Prop:=Yd CB CP H' L' (Y6 M d).2/\Je7 L M (Y6 M d).2 L' H H'/\L'.b=L.b
structure JsE(CB CP:Addr)(H:Hp)(L:BL)(M:PB)(n:Nat)(d:JU)(v:V):Prop where
 at_:Yd CB CP H L M
 ok:JbS n M
 le:n<=280
 rep:Rep H (YR d) v
 dok:Jal d
 few:∀who,(M.pn who).days.length<64
 pd:Of (fun _=>True) d
inductive Jqf(CB CP CH CN CT:Addr)(vs:List V)(H:Hp)(Q:VK)(E:XK):Prop
 | mk (L:BL) (M:PB) (n:Nat) (d:JU) (v:V) (h1:vs=[.ref L.b,v]) (h2:JsE CB CP H L M n d v) (h3:(∀L' H' r,Jri CB CP H L M d L' H'->JgT H H' (Y6 M d).1 r->Q r H')) (h4:(∀L' H',Jri CB CP H L M d L' H'->((Y6 M d).1=.str "no hours"->E (.ref CH) none H')/\((Y6 M d).1=.str "no table"->E (.ref CN) none H')/\((Y6 M d).1=.str "too early"->E (.ref CT) none H'))):Jqf CB CP CH CN CT vs H Q E
def JpJ(CB CP CH CN CT:Addr):Sp:=fun vs H Q E=>Jqf CB CP CH CN CT vs H Q E
theorem Jq9{f f1 f2 f3 f4:Addr}{fd fd1 fd2 fd3 fd4:Aa}(F:Fun K "done" "done" Jkr f fd)(T:Txt K mg CB CP fBI fPI)
  (YK:Jbf P w K mg base (CXr P w) CB "tell_hours" ["self", "who", "day", "many"] (JnH CB CP CH) 6 f1 fd1)
  (YZ:Jbf P w K mg base (CXr P w) CB "tell_rate" ["self", "week", "bands"] (JnN CB CP CN) 2 f2 fd2)
  (Y0:Jbf P w K mg base (CXr P w) CB "tell_dues" ["self", "month", "table"] (JnP CB CP CN) 3 f3 fd3)
  (Yb:Jbf P w K mg base (CXr P w) CB "hold_payday_of" ["self", "who", "week"] (Jmw CB CP CT) 7 f4 fd4):YU P w K mg base (CXr P w) 10 f fd ["book", "deed"] (JpJ CB CP CH CN CT):=by
 refine F.okR Jn1 (fun vs H Q E h=>?_) (fun cdv A outer s0 H vs Q E hr h=>?_)
 .obtain⟨_,_,_,_,_,rfl,_⟩:=h;rfl
 .obtain⟨L,M,n,d,v,rfl,⟨hB,ok,hn,hrep,dok,few,pd⟩,k,kE⟩:=h;obtain⟨dx,hb⟩:=hB.ob;have noB:∀{m:Str},¬m = "people"->¬m = "rates"->¬m = "dues"->(fB L.pd L.rd L.ud).lookup m=none:=fun h1 h2 h3=>Jhw _ _ _ h1 h2 h3;have rl:=ok.rl;have ul:=ok.ul;have kl:=ok.kl
  refine⟨_,(Jd (Jk 2 Jn1.nd (Jo JE (pw 1) Jc))
   (Jd (JL (Jq JaQ (pw 2) Jx (Jv _)) (Jf (Jp (YS (pw 0) T.clBook YK.meth YK.ok (hr.mono (by decide)) YK.b .nil JmI (Jb (Jo JE (pw 1) Jc) (Jb (Jo JE (pw 1) Jc) (pa1 (Jo JE (pw 1) Jc))))))) Jr)
   (Jd (JL (Jq JaQ (pw 2) Jx (Jv _)) (Jd (JaL (YS (pw 0) T.clBook YZ.meth YZ.ok (hr.mono (by decide)) YZ.b .nil JmI (Jb (Jo JE (pw 1) Jc) (pa1 (Jo JE (pw 1) Jc)))))
   (Jf (Jp Jx))) Jr)
   (Jd (JL (Jq JaQ (pw 2) Jx (Jv _)) (Jd (JaL (YS (pw 0) T.clBook Y0.meth Y0.ok (hr.mono (by decide)) Y0.b .nil JmI (Jb (Jo JE (pw 1) Jc) (pa1 (Jo JE (pw 1) Jc)))))
   (Jf (Jp Jx))) Jr)
   (Jd (JL (Jq JaQ (pw 2) Jx (Jv _)) (Jf (Jp (YS (pw 0) T.clBook Yb.meth Yb.ok (hr.mono (by decide)) Yb.b .nil JmI (Jb (Jo JE (pw 1) Jc) (pa1 (Jo JE (pw 1) Jc)))))) Jr)
   Jid))))),fun _ nz=>?_⟩
  cases d with
  | hours who day many=>
   obtain⟨a,vs,rfl,ht,_,_,rfl,rfl,_,_,rfl,rfl,_,_,rfl,rfl,_,_,rfl,rfl,rfl⟩:=hrep;refine⟨a,_,0,.str "hours",rfl,rfl,SqT.of ht,Jl (j:=0) rfl,?_⟩;refine nz fun _ nz=>⟨rfl,_,rfl,?_⟩;refine JY (fun _=>?_) (fun h=>absurd Jjf h);refine⟨L.b,dx,_,rfl,hb,noB (by decide +kernel) (by decide +kernel) (by decide +kernel),a,_,1,.str who,rfl,rfl,SqT.of ht,Jl (j:=1) rfl,a,_,2,.int day,rfl,rfl,SqT.of ht,Jl (j:=2) rfl,a,_,3,.int many,rfl,rfl,SqT.of ht,Jl (j:=3) rfl,?_⟩;refine⟨L,M,n,who,day,many,rfl,hB,ok,hn,fun c=>?_,fun c M' L' H' e b1 b2 b3=>?_⟩
   .have e:=JdH (M:=M) (who:=who) (day:=day) c;exact(kE L H ⟨by rw[e];exact hB,by rw[e];exact Je7.of_same fun _ _ z=>z,rfl⟩).1 (by rw[e])
   .subst e;have e:=Jd5 (M:=M) (who:=who) (day:=day) c;refine k L' H' _ ⟨by rw[e];exact b1,by rw[e];exact b2,b3⟩ ?_;rw[e];exact JgT.int
  | rate week bs=>
   obtain⟨a,vs,rfl,ht,_,_,rfl,rfl,_,_,rfl,rfl,u,_,rfl,hu,rfl⟩:=hrep
   obtain⟨a2,rfl⟩:∃a2,u=.ref a2:=let ⟨a2,_,e,_⟩:=hu;⟨a2,e⟩
   have hbs:=Jy.mpr hu;have bl:bs.length<=14:=dok.len;refine⟨a,_,0,.str "rate",rfl,rfl,SqT.of ht,Jl (j:=0) rfl,?_⟩;refine nz fun _ nz=>⟨rfl,_,rfl,?_⟩;refine JY (fun h=>absurd h (JhM (by decide +kernel))) (fun _=>nz fun _ nz=>?_);refine⟨rfl,_,rfl,?_⟩;refine JY (fun _=>fun _ ny=>?_) (fun h=>absurd Jjf h);refine⟨L.b,dx,_,rfl,hb,noB (by decide +kernel) (by decide +kernel) (by decide +kernel),a,_,1,.int week,rfl,rfl,SqT.of ht,Jl (j:=1) rfl,a,_,2,.ref a2,rfl,rfl,SqT.of ht,Jl (j:=2) rfl,?_⟩;refine⟨L,M,week,a2,bs,rfl,hB,by omega,hbs,by omega,fun c H' s=>?_,fun c H' b1 b2=>?_⟩
   .have e:=Jfe (M:=M) (week:=week) c;exact(kE L H' ⟨by rw[e];exact hB.same s,by rw[e];exact Je7.of_same s,rfl⟩).2.1 (by rw[e])
   .have e:=Jhk (M:=M) (week:=week) c;refine ny ?_;refine k L H' _ ⟨by rw[e];exact b1,by rw[e];exact b2,rfl⟩ ?_;rw[e];exact JgT.str
  | dues month t=>
   obtain⟨a,vs,rfl,ht,_,_,rfl,rfl,_,_,rfl,rfl,u,_,rfl,hu,rfl⟩:=hrep;obtain⟨bs,top,per⟩:=t;obtain⟨a2,vs2,rfl,ht2,u2,_,rfl,hu2,_,_,rfl,rfl,_,_,rfl,rfl,rfl⟩:=hu
   obtain⟨a3,rfl⟩:∃a3,u2=.ref a3:=let ⟨a3,_,e,_⟩:=hu2;⟨a3,e⟩
   have bl:bs.length<=14:=dok.bands.len;have htab:JbG H (bs,top,per) (.ref a2):=⟨a2,a3,rfl,ht2,Jy.mpr hu2⟩;refine⟨a,_,0,.str "dues",rfl,rfl,SqT.of ht,Jl (j:=0) rfl,?_⟩;refine nz fun _ nz=>⟨rfl,_,rfl,?_⟩;refine JY (fun h=>absurd h (JhM (by decide +kernel))) (fun _=>nz fun _ nz=>?_);refine⟨rfl,_,rfl,?_⟩;refine JY (fun h=>absurd h (JhM (by decide +kernel))) (fun _=>nz fun _ nz=>?_);refine⟨rfl,_,rfl,?_⟩;refine JY (fun _=>fun _ ny=>?_) (fun h=>absurd Jjf h);refine⟨L.b,dx,_,rfl,hb,noB (by decide +kernel) (by decide +kernel) (by decide +kernel),a,_,1,.int month,rfl,rfl,SqT.of ht,Jl (j:=1) rfl,a,_,2,.ref a2,rfl,rfl,SqT.of ht,Jl (j:=2) rfl,?_⟩;refine⟨L,M,month,a2,(bs,top,per),rfl,hB,by omega,htab,by show bs.length<=1000;omega,fun c H' s=>?_,fun c H' b1 b2=>?_⟩
   .have e:=Jfq (M:=M) (month:=month) c;exact(kE L H' ⟨by rw[e];exact hB.same s,by rw[e];exact Je7.of_same s,rfl⟩).2.1 (by rw[e])
   .have e:=Jhj (M:=M) (month:=month) c;refine ny ?_;refine k L H' _ ⟨by rw[e];exact b1,by rw[e];exact b2,rfl⟩ ?_;rw[e];exact JgT.str
  | payday who week=>
   obtain⟨a,vs,rfl,ht,_,_,rfl,rfl,_,_,rfl,rfl,_,_,rfl,rfl,rfl⟩:=hrep;refine⟨a,_,0,.str "payday",rfl,rfl,SqT.of ht,Jl (j:=0) rfl,?_⟩;refine nz fun _ nz=>⟨rfl,_,rfl,?_⟩;refine JY (fun h=>absurd h (JhM (by decide +kernel))) (fun _=>nz fun _ nz=>?_);refine⟨rfl,_,rfl,?_⟩;refine JY (fun h=>absurd h (JhM (by decide +kernel))) (fun _=>nz fun _ nz=>?_);refine⟨rfl,_,rfl,?_⟩;refine JY (fun h=>absurd h (JhM (by decide +kernel))) (fun _=>nz fun _ nz=>?_);refine⟨rfl,_,rfl,?_⟩;refine JY (fun _=>?_) (fun h=>absurd Jjf h);refine⟨L.b,dx,_,rfl,hb,noB (by decide +kernel) (by decide +kernel) (by decide +kernel),a,_,1,.str who,rfl,rfl,SqT.of ht,Jl (j:=1) rfl,a,_,2,.int week,rfl,rfl,SqT.of ht,Jl (j:=2) rfl,?_⟩;refine⟨L,M,n,who,week,rfl,hB,ok,by omega,fun c L' H' q=>?_,fun c=>⟨few who,fun left M' L' H' r el e b1 b2 b3 rp=>?_⟩⟩
   .have e:=Jfm (M:=M) (who:=who) (week:=week) c;exact(kE L' H' ⟨by rw[e];exact q.1,by rw[e];exact q.2.1,q.2.2⟩).2.2 (by rw[e])
   .subst e el;have e:=JdW (M:=M) (who:=who) (week:=week) c;refine k L' H' _ ⟨by rw[e];exact b1,by rw[e];exact b2,b3⟩ ?_;rw[e];exact rp
  | _=>exact pd.elim
inductive JkG(CB CP:Addr)(vs:List V)(H:Hp)(Q:VK):Prop
 | mk (L:BL) (M:PB) (n:Nat) (d:JU) (v:V) (h1:vs=[.ref L.b,v]) (h2:JsE CB CP H L M n d v) (h3:∀L' H' r,Jri CB CP H L M d L' H'->JgT H H' (Y6 M d).1 r->Q r H'):JkG CB CP vs H Q
def JkS(CB CP:Addr):Sp:=fun vs H Q _=>JkG CB CP vs H Q
structure Ys(K:WF)(mg:MO)(x:Str)(C o1 o2:Addr):Prop where
 mg:mg x=some (.ref C)
 me:Cy K (.ref C) (.ref C)=some true
 n1:Cy K (.ref o1) (.ref C)=some false
 n2:Cy K (.ref o2) (.ref C)=some false
theorem JnQ{f f1:Addr}{fd fd1:Aa}(F:Fun K "answer" "answer" Jfs f fd)(Y_NoHours:Ys K mg "NoHours" CH CN CT)(Y_NoTable:Ys K mg "NoTable" CN CH CT)(Y_TooEarly:Ys K mg "TooEarly" CT CH CN)
  (JgB:Jmp P w K mg base "done" ["book", "deed"] (JpJ CB CP CH CN CT) 10 f1 fd1):YU P w K mg base CX0 11 f fd ["book", "deed"] (JkS CB CP):=by
 refine F.ok Jng (fun vs H Q E h=>?_) (fun cdv A outer s0 H vs Q E hr h=>?_)
 .obtain⟨_,_,_,_,_,rfl,_⟩:=h;rfl
 .obtain⟨L,M,n,d,v,rfl,hD,k⟩:=h;refine⟨_,(Jf (Jrg JgB.ok (hr.mono (by decide)) rfl JgB.mg JgB.kp JgB.b (Jb (pw 0) (pa1 (pw 1))) ⟨rfl,Y_NoHours.mg,Y_NoHours.me,Y_NoHours.n1,Y_NoHours.n2⟩ ⟨rfl,Y_NoTable.mg,Y_NoTable.me,Y_NoTable.n1,Y_NoTable.n2⟩ ⟨rfl,Y_TooEarly.mg,Y_TooEarly.me,Y_TooEarly.n1,Y_TooEarly.n2⟩ rfl rfl)),?_⟩;refine⟨L,M,n,d,v,rfl,hD,k,fun L' H' q=>⟨fun e=>.inl ⟨rfl,?_⟩,fun e=>.inr (.inl ⟨rfl,?_⟩),fun e=>.inr (.inr ⟨rfl,?_⟩)⟩⟩<;>
  .exact k L' H' _ q (by rw[e];exact JgT.str)
structure Juv(H:Hp)(dl:Addr)(ds:List JU):Prop where
 rep:Rep H (.lst (ds.map YR)) (.ref dl)
 len:ds.length<=270
 dok:∀d∈ds,Jal d
 few:(ds.filter isH).length<64
 pd:∀d∈ds,Of (fun _=>True) d
inductive JrB(CP:Addr)(vs:List V)(H:Hp)(Q:VK):Prop
 | mk (p dd nn:Addr) (q:Pn) (h1:vs=[.ref p]) (h2:YA CP H p dd nn q) (h3:q.days.length<=900) (h4:∀H',JV H H'->Q (.bl (Jgv q)) H'):JrB CP vs H Q
def JrG(CP:Addr):Sp:=fun vs H Q _=>JrB CP vs H Q
theorem Jj9{f:Addr}{fd:Aa}(F:Fun K "has_part" "Person.has_part" Yk f fd)(Z:Zs mg)(T:Txt K mg CB CP fBI fPI):YU P w K mg base CX0 1 f fd ["self"] (JrG CP):=by
 refine F.ok JdQ (fun vs H Q E h=>?_) (fun cdv A outer s0 H vs Q E hr h=>?_)
 .obtain⟨_,_,_,_,rfl,_⟩:=h;rfl
 .obtain⟨p,dd,nn,q,rfl,⟨⟨dx,hp⟩,hd,hn⟩,hl,k⟩:=h;refine⟨_,(Jf (Jp (Jti (JsO (JbQ (JaA (pw 0) rfl))) (Joe (Jn (Jiq rfl) (by rfl) Z.z_any Jqe (pa1 (Jrb (JcQ ["many"] [none] rfl Jbk (JqY (Jhm (JaA (pw 0) rfl))) (fun _ _ _ _=>(pgn 0 Jbk.nd)) (fun _ _ _ _=>Jdp) (fun _ _ _ _=>(JcZ JeZ (pw 0) Jc (Jv _))))))))))),?_⟩;refine⟨p,CP,dx,_,_,rfl,hp,T.clPerson,T.n_last_week,Jjy _ _ _ _,_,rfl,?_⟩;refine JY (fun c=>?_) (fun c=>?_)
  .have e:Jgv q=true:=by
    unfold Jgv
    cases z:q.last with
    | none=>rw[z]at c;exact absurd c (by decide)
    | some x=>rfl
   have:=k H fun _ _ z=>z;rw[e]at this;exact this
  .have e:q.last=none:=by
    cases z:q.last with
    | none=>rfl
    | some x=>rw[z]at c;exact absurd (by show(!decide (V.int x=V.non))=true;rw[decide_eq_false (fun z=>nomatch z)];rfl) c
   refine⟨p,CP,dx,_,_,rfl,hp,T.clPerson,T.n_days,JjM _ _ _ _,.inr (.inr (.inl ⟨rfl,.inl ⟨_,hd⟩⟩)),dd,_,rfl,rfl,hd,fun vw hvw=>?_⟩;have s2:=Je (o:=JcY vw dd) hvw;have hd2:=s2 _ _ hd;refine⟨vw,dd,_,rfl,Ja,hd2,fun o nf acc hacc=>?_⟩;generalize upd H vw (JcY vw dd)=H2 at s2 hd2 hacc ⊢
   have nad:acc≠dd:=fun z=>by rw[z,Ja]at hacc;cases hacc
   refine JnE (kvs:=ivs q.days) (fun i zs σ' H3=>∃(v0:Option V),σ'=[v0]/\(∀b u,H2 b=some u->b≠acc->b≠dd->H3 b=some u)/\H3 dd=some (.frz o (.dK (ivs q.days)))/\H3 acc=some (.lst zs)/\zs=((q.days.take i).map fun b=>decide (0<b.2)).map V.bl)
    ⟨_,rfl,fun b u e n1 n2=>by rw[Jg n1,Jg n2];exact e,by rw[Jg nad.symm];exact Ja,Ja,rfl⟩ (fun _ _ _ _ hz=>by obtain⟨_,_,_,e,_⟩:=hz;exact e) ?_ ?_
   .rintro i kk v zs σ' H3 hi ⟨v0,rfl,kp,hf,hac,rfl⟩;have hi':(ivs q.days)[i]?=some (kk,v):=hi;unfold ivs at hi';rw[Ax]at hi';obtain⟨⟨day,many⟩,hq,e⟩:=Ak.mp hi';cases e;have hlt:i<q.days.length:=(A7.mp hq).1;refine⟨Jz (by rw[A2,A2,Ao];omega),?_⟩;dsimp only[Jcz,JfX];rw[if_pos rfl];refine⟨hac,?_⟩;refine⟨_,rfl,fun b u e n1 n2=>by rw[Jg n1];exact kp b u e n1 n2,by rw[Jg nad.symm];exact hf,Ja,?_⟩;rw[Ap,hq,AJ,AJ];rfl
   .rintro zs σ' H3 ⟨v0,rfl,kp,hf,hac,rfl⟩;refine .inr ⟨dd,o,_,hf,nf,acc,_,rfl,SqL.of (by rw[Jg nad];exact hac),?_⟩
    have hac0:H2 acc=none:=by rw[Jg nad]at hacc;exact hacc
    have:=k (upd H3 dd (.dK (ivs q.days))) fun b u e=>by
     by_cases z:b=dd
     .rw[z,Ja];rw[z,hd]at e;exact e
     .rw[Jg z];exact kp b u (s2 _ _ e) (Jh (s2 _ _ e) hac0) z
    have e2:Jgv q=((q.days.take (ivs q.days).length).map fun b=>decide (0<b.2)).any id:=by
     unfold Jgv;rw[e,Jc0,B3,K8];rfl
    rw[e2]at this;exact this
inductive JmH(CB CP:Addr)(vs:List V)(H:Hp)(Q:VK):Prop
 | mk (L:BL) (M:PB) (h1:vs=[.ref L.b]) (h2:Yd CB CP H L M) (h3:M.keys.length<64) (h4:(∀who,(M.pn who).days.length<=900)) (h5:∀l H' rs,H l=none->JV H H'->rs.Perm M.keys->FC rs=true->H' l=some (.lst ((rs.filter fun who=>Jgv (M.pn who)).map V.str))->Q (.ref l) H'):JmH CB CP vs H Q
def JmZ(CB CP:Addr):Sp:=fun vs H Q _=>JmH CB CP vs H Q
theorem Jph{f f1:Addr}{fd fd1:Aa}(F:Fun K "names" "Book.names" JaD f fd)(Z:Zs mg)(T:Txt K mg CB CP fBI fPI)(YI:Jbf P w K mg base CX0 CP "has_part" ["self"] (JrG CP) 1 f1 fd1) :
  YU P w K mg base CX0 2 f fd ["self"] (JmZ CB CP):=by
 refine F.ok Jhz (fun vs H Q E h=>?_) (fun cdv A outer s0 H vs Q E hr h=>?_)
 .obtain⟨_,_,rfl,_⟩:=h;rfl
 .obtain⟨L,M,rfl,hB,hkl,hdl,k⟩:=h;obtain⟨dx,hb⟩:=hB.ob;have hu:=JbH hr;refine⟨_,(Jf (Jp (JcQ ["who", "self"] [none,some 0] rfl JcT (Ja0 (Jn (JhB rfl) (by rfl) Z.z_sorted Jd4 (pa1 (JaA (pw 0) rfl)))) (fun _ _ _ _=>(pgn 0 JcT.nd)) (fun _ _ _ _=>(Jl6 (JaP (Jfn (YH hu (show PE _ _ (JtZ K (Jtf 1) "people") from JaA (pw 1) rfl) (pw 0)) T.clPerson YI.meth YI.ok (hr.mono (by decide)) YI.b .nil Jbw)))) (fun _ _ _ _=>(pw 0))))),?_⟩;refine⟨L.b,CB,dx,_,_,rfl,hb,T.clBook,T.n_people,Jgk _ _ _,L.pd,_,M.keys,rfl,hB.people,by rw[B2];rfl,hkl,fun sl rs hsl pm so=>?_⟩;have s1:=Je (o:=HO.lst (rs.map V.str)) hsl;have q1:upd H sl (HO.lst (rs.map V.str)) sl=some (.lst (rs.map V.str)):=Ja;generalize upd H sl (HO.lst (rs.map V.str))=H1 at s1 q1 ⊢;refine⟨sl,rfl,⟨_,SqL.of q1⟩,fun acc hacc=>?_⟩
  refine JcI (K:=K) (xs:=rs.map V.str) (fun i ys σ' H'=>∃(v0:Option V),σ'=[v0,some (.ref L.b)]/\JV H1 H'/\H' acc=some (.lst ys)/\ys=((rs.take i).filter fun who=>Jgv (M.pn who)).map V.str)
   ⟨_,rfl,Je hacc,Ja,rfl⟩ (fun _ _ _ _ hz=>by obtain⟨_,_,s2,_⟩:=hz;exact SqL.of (s2 _ _ q1)) ?_ ?_
  .rintro i x ys σ' H' hx ⟨v0,rfl,s2,hac,rfl⟩;rw[Ax]at hx;obtain⟨who,hw,rfl⟩:=Ak.mp hx;have hlt:i<rs.length:=(A7.mp hw).1;have hm:who∈M.keys:=pm.mem_iff.mp (Au hw);have hB2:=hB.same (s1.trans s2);obtain⟨dx2,hb2⟩:=hB2.ob;obtain⟨⟨dxp,hpp⟩,_,_⟩:=id (hB2.per who hm);have hlen:=pm.length_eq
   have htk:rs.take (i+1)=rs.take i++[who]:=by rw[Ap,hw];rfl
   refine⟨Jz (by have:=BK (fun who=>Jgv (M.pn who)) (rs.take i);rw[Ao]at this;rw[A2];omega),?_⟩;dsimp only[Jcz];have hnv:(fP (L.ad who).dd (M.pn who).paid (M.pn who).last (L.ad who).nn).lookup ("has_part" : Str)=none:=Jgm _ _ _ _ (by decide +kernel) (by decide +kernel) (by decide +kernel) (by decide +kernel);refine⟨L.b,CB,dx2,_,_,rfl,hb2,T.clBook,T.n_people,Jgk _ _ _,L.pd,V.ref (L.ad who).p,rfl,by have:=JcC.k (k:=Av who) hB2.people;rw[Jb0,if_pos hm]at this;exact this,(L.ad who).p,dxp,_,rfl,hpp,hnv,?_⟩;refine⟨_,_,_,M.pn who,rfl,hB2.per who hm,hdl who,fun H3 s3=>⟨_,rfl,?_⟩⟩;have hac3:=s3 _ _ hac;have s13:=s2.trans s3
   by_cases c:Jgv (M.pn who)=true
   .rw[if_pos c];refine⟨hac3,_,rfl,JQ s13 hacc,Ja,?_⟩;rw[htk,Bv,AJ,show[who].filter (fun who=>Jgv (M.pn who))=[who] from E3 (p:=fun who=>Jgv (M.pn who)) c];rfl
   .rw[if_neg c];refine⟨_,rfl,s13,?_,?_⟩
    .exact hac3
    .rw[htk,Bv,show[who].filter (fun who=>Jgv (M.pn who))=[] from E4 (p:=fun who=>Jgv (M.pn who)) c,Be]
  .rintro ys σ' H' ⟨v0,rfl,s2,hac,rfl⟩;rw[A2,B3]at hac;exact k acc H' rs (s1.free hacc) (s1.trans s2) pm so hac
noncomputable def JtM(M:PB)(wk:Int)(who:Str):Dt:=.tup [.str who,.int (JaZ M who wk),.int (M.pn who).paid]
noncomputable def Jpb(M:PB)(wk:Int)(rs:List Str):List Dt:=(rs.filter fun who=>Jgv (M.pn who)).map (JtM M wk)
inductive JkV(vs:List V)(H:Hp)(Q:VK):Prop
 | mk (dl:Addr) (ds:List JU) (wk:Int) (h1:vs=[.ref dl,.int wk]) (h2:Juv H dl ds) (h3:(JcB PB.new ds).keys.length<64) (h4:∀l H' rs,H l=none->JV H H'->rs.Perm (JcB PB.new ds).keys->FC rs=true->(∀w,w∉(JcB PB.new ds).keys->(JcB PB.new ds).pn w=Pn.nw)->Rep H' (.lst (Jpb (JcB PB.new ds) wk rs)) (.ref l)->Q (.ref l) H'):JkV vs H Q
def Jk3:Sp:=fun vs H Q _=>JkV vs H Q
theorem JnB{f f1 f3 f4 f5:Addr}{fd fd1 fd2 fd3 fd4 fd5:Aa}(F:Fun K "rights" "rights" Jdh f fd)(T:Txt K mg CB CP fBI fPI)(JhF:JK P w K mg base "answer" ["book", "deed"] (JkS CB CP) 11 f1 fd1)
  (Jcp:Jbf P w K mg base CX0 CB "__init__" ["self"] (Jm3 CB CP) 1 fBI fd2) (Y8:Jbf P w K mg base CX0 CB "right_of" ["self", "who", "week"] (JpA CB CP JaZ) 7 f3 fd3)
  (Jap:Jbf P w K mg base CX0 CB "paid_to" ["self", "who"] (Jkw CB CP) 4 f4 fd4) (Jbc:Jbf P w K mg base CX0 CB "names" ["self"] (JmZ CB CP) 2 f5 fd5):YU P w K mg base CX0 12 f fd ["deeds", "week"] Jk3:=by
 refine F.ok Jgi (fun vs H Q E h=>?_) (fun cdv A outer s0 H vs Q E hr h=>?_)
 .obtain⟨_,_,_,rfl,_⟩:=h;rfl
 .obtain⟨dl,ds,wk,rfl,⟨hrep,hlen,hdok,hfew,hpd⟩,hkl,k⟩:=h;obtain⟨dl',vs,e,hl,rl⟩:=hrep;cases e
  have hvl:vs.length=ds.length:=by rw[rl.length,A2]
  refine⟨_,(Jd (Jk 2 Jgi.nd (Jk8 T.mkBook Jcp.ok (hr.mono (by decide)) rfl T.mgBook Jcp.b .nil Jbw))
   (Jd (Jan AD rfl (Ja0 (pw 0)) (pgn 3 Jgi.nd) (Jf (JaL (Js JhF hr (Jb (pw 2) (pa1 (pw 3)))))))
   (Jf (Jp (JcQ ["who", "week", "book"] [none,some 1,some 2] rfl Jf0 (Ja0 (Jfn (pw 2) T.clBook Jbc.meth Jbc.ok (hr.mono (by decide)) Jbc.b .nil Jbw)) (fun _ _ _ _=>(pgn 0 Jf0.nd)) (fun _ _ _ _=>Jdp) (fun _ _ _ _=>(JZ (Jb (pw 0) (Jb (YS (pw 2) T.clBook Y8.meth Y8.ok (hr.mono (by decide)) Y8.b .nil Jbw (Jb (pw 0) (pa1 (pw 1)))) (pa1 (YS (pw 2) T.clBook Jap.meth Jap.ok (hr.mono (by decide)) Jap.b .nil Jbw (pa1 (pw 0))))))))))))),fun _ nz=>?_⟩
  intro x dx nx ndx nex;refine⟨x,dx,rfl,Ja,fun L0 H1 eb0 hB0 hfr0 kp0=>⟨rfl,nz fun _ nz=>?_⟩⟩
  have s0':JV H (upd (upd H dx (.own x)) x (.ins CB dx [])):=fun b o e=>by
   rw[Jg (Jh e nx),Jg (Jh e ndx)];exact e
  have s1:JV H H1:=fun b o e=>kp0 b o (s0' b o e) (Jh e nx);have noB:∀{L:BL}{m:Str},¬m = "people"->¬m = "rates"->¬m = "dues"->(fB L.pd L.rd L.ud).lookup m=none:=fun h1 h2 h3=>Jhw _ _ _ h1 h2 h3;refine⟨dl,rfl,⟨_,SqL.of (s1 _ _ hl)⟩,?_⟩
  refine JbM (K:=K) (xs:=vs) (fun i σ' H'=>∃(v0:Option V)(L:BL),σ'=[some (.ref dl),some (.int wk),some (.ref x),v0]/\L.b=x/\Yd CB CP H' L (JcB PB.new (ds.take i))/\(∀c,Mu L (JcB PB.new (ds.take i)) c->H c=none)/\JV H H'/\i<=ds.length)
   ⟨_,L0,rfl,eb0,hB0,fun c m=>s0'.free (hfr0 c m),s1,AA _⟩ (fun _ _ _ _ hz=>by obtain⟨_,_,_,_,_,_,s2,_⟩:=hz;exact SqL.of (s2 _ _ hl)) ?_ ?_
  .rintro i v σ' H2 hv ⟨v0,L,rfl,eb,hB,hfr,s2,hil⟩;have hlt:i<ds.length:=hvl ▸ (A7.mp hv).1;obtain⟨d,hd⟩:∃d,ds[i]?=some d:=⟨ds[i],A1 hlt⟩
   have htk:ds.take (i+1)=ds.take i++[d]:=by rw[Ap,hd];rfl
   have hdr:Rep H (YR d) v:=rl.get i v _ hv (by rw[Ax,hd];rfl);have ok:JbS (0+(ds.take i).length) (JcB PB.new (ds.take i)):=Jhn JbS.new fun e he=>hdok e (EY he)
   have hle:0+(ds.take i).length<=280:=by rw[Ao];omega
   refine⟨L,_,_,d,v,by rw[eb];rfl,⟨hB,ok,hle,Rep.same s2 hdr,hdok d (Au hd),fun who=>?_,hpd d (Au hd)⟩,fun L' H5 r q rpx=>?_⟩
   .have a:=JfQ who (ds.take i) PB.new;have b:((ds.take i).filter isH).length<=(ds.filter isH).length:=((Ex i ds).filter _).length_le;have c:(PB.new.pn who).days.length=0:=rfl;omega
   .obtain⟨q1,q2,q3⟩:=q;rw[<- Jn3,<- htk]at q1 q2;refine⟨_,L',rfl,q3.trans eb,q1,fun c m=>?_,fun b o e=>q2.keep b o (s2 _ _ e) fun m=>(by have:=hfr b m;rw[e]at this;cases this),hlt⟩
    rcases q2.grow c m with z|z
    .exact hfr c z
    .exact s2.free z
  .rintro σ' H2 ⟨v0,L,rfl,eb,hB,hfr,s2,hil⟩;rw[hvl,B3]at hB hfr;have ok:JbS (0+ds.length) (JcB PB.new ds):=Jhn JbS.new hdok
   have hdl:∀who,((JcB PB.new ds).pn who).days.length<=900:=fun who=>by
    have a:=JfQ who ds PB.new;have c:(PB.new.pn who).days.length=0:=rfl;omega
   generalize JcB PB.new ds=M at hB hfr ok hdl hkl k;obtain⟨dxb,hb⟩:=hB.ob;refine nz ⟨x,dxb,_,rfl,eb ▸ hb,noB (by decide +kernel) (by decide +kernel) (by decide +kernel),?_⟩;refine⟨L,M,by rw[eb];rfl,hB,hkl,hdl,fun sl H3 rs nsl s3 pm so hsl=>?_⟩;refine⟨sl,rfl,⟨_,SqL.of hsl⟩,fun acc hacc=>?_⟩;have hacc0:H acc=none:=(s2.trans s3).free hacc;generalize hks:(rs.filter fun who=>Jgv (M.pn who))=ks at hsl;have hkin:∀w∈ks,w∈M.keys:=fun w hw=>pm.mem_iff.mp (B5.mp (hks ▸ hw)).1
   have hkl2:ks.length<64:=by
    rw[<- hks];exact BR (BK _ _) (by rw[pm.length_eq];exact hkl)
   have sla:sl≠acc:=Jh hsl hacc
   refine JcI (K:=K) (xs:=ks.map V.str) (fun i ys σ' H'=>∃(v0:Option V)(L:BL),σ'=[v0,some (.int wk),some (.ref x)]/\L.b=x/\Yd CB CP H' L M/\(∀c,Mu L M c->H c=none)/\JV H H'/\H' sl=some (.lst (ks.map V.str))/\H' acc=some (.lst ys)/\ys.length=i/\i<=ks.length/\
     Yv (era H' acc) ((ks.take i).map (JtM M wk)) ys)
    ⟨_,L,rfl,eb,(hB.same s3).same (Je hacc),hfr,(s2.trans s3).trans (Je hacc),by rw[Jg sla];exact hsl,Ja,rfl,AA _,rfl⟩ (fun _ _ _ _ hz=>by obtain⟨_,_,_,_,_,_,_,e,_⟩:=hz;exact SqL.of e) ?_ ?_
   .rintro i v ys σ' H4 hv ⟨v0,L2,rfl,eb2,hB2,hfr2,s4,hsl4,hac,hyl,hil,rp⟩;rw[Ax]at hv;obtain⟨who,hw,rfl⟩:=Ak.mp hv;have hlt:i<ks.length:=(A7.mp hw).1;have hm:=hkin who (Au hw);have et:=Jg9 hm
    have htk:ks.take (i+1)=ks.take i++[who]:=by rw[Ap,hw];rfl
    obtain⟨dx4,hb4⟩:=hB2.ob;refine⟨Jz (by omega),?_⟩;dsimp only[Jcz,JfX];rw[if_pos rfl];refine⟨x,dx4,_,rfl,eb2 ▸ hb4,noB (by decide +kernel) (by decide +kernel) (by decide +kernel),L2,M,_,who,wk,by rw[eb2];rfl,hB2,ok,by omega,fun L5 H5 a5=>?_⟩;obtain⟨b1,b2,b3⟩:=a5;rw[et]at b1 b2;obtain⟨dx5,hb5⟩:=b1.ob;have eb5:=b3.trans eb2;refine⟨x,dx5,_,rfl,eb5 ▸ hb5,noB (by decide +kernel) (by decide +kernel) (by decide +kernel),L5,M,who,by rw[eb5];rfl,b1,by omega,fun L6 H6 a6=>?_⟩;obtain⟨c1,c2,c3⟩:=a6;rw[et]at c1 c2;refine⟨zs3,fun t ht=>?_⟩;have sS:=(JeH hB2 b2).trans (JeH b1 c2);have hac6:=sS.2 _ _ hac;have hsl6:=sS.2 _ _ hsl4;have nta:acc≠t:=Jh hac6 ht;have s46:=Je7.trans b2 c2;have stt:=Je (o:=HO.tup [V.str who,V.int (JaZ M who wk),V.int (M.pn who).paid]) ht;refine⟨by rw[Jg nta];exact hac6,_,L6,rfl,c3.trans eb5,Ji3 (c1.same stt) (by rw[Jg nta];exact hac6),fun c m=>?_,fun b o e=>?_,?_,Ja,by rw[AQ,hyl];rfl,hlt,?_⟩
    .rcases s46.grow c m with z|z
     .exact hfr2 c z
     .exact s4.free z
    .rw[Jg (Jh e hacc0)];exact stt _ _ (s46.keep b o (s4 _ _ e) fun m=>by have:=hfr2 b m;rw[e]at this;cases this)
    .rw[Jg sla];exact stt _ _ hsl6
    .rw[Jq2,htk,AJ];refine Yv.snoc (Yv.sameS ((sS.trans (Jah.of stt)).era acc) rp) ⟨t,_,rfl,?_,_,_,rfl,rfl,_,_,rfl,rfl,_,_,rfl,rfl,rfl⟩;show era _ acc t=_;unfold era;rw[if_neg nta.symm,Ja]
   .rintro ys σ' H4 ⟨v0,L2,rfl,eb2,hB2,hfr2,s4,hsl4,hac,hyl,hil,rp⟩;rw[A2,B3]at rp;refine k acc H4 rs hacc0 s4 pm so hB2.non ⟨acc,ys,rfl,hac,?_⟩;unfold Jpb;rw[hks];exact Yv.sameS Jry rp
end
section
variable {P:Ab} {w:At} {K:WF} {mg:Str→Option A3} {base:Heap} {CB CP fBI fPI CH CN CT:Addr}
inductive Jmf(vs:List V)(H:Hp)(Q:VK):Prop
 | mk (d:JU) (v:V) (h1:vs=[v]) (h2:Rep H (YR d) v) (h3:J7 d≠none) (h4:∀r H',JV H H'->Rep H' (YR (Jdo d)) r->Q r H'):Jmf vs H Q
def Jm6:Sp:=fun vs H Q _=>Jmf vs H Q
theorem JlC{f:Addr}{fd:Aa}(F:Fun K "_law_wrongly" "_law_wrongly" Jcs f fd):YU P w K mg base CX0 1 f fd ["_law_deed"] Jm6:=by
 refine F.ok Jiw (fun vs H Q E h=>?_) (fun cdv A outer s0 H vs Q E hr h=>?_)
 .obtain⟨_,_,rfl,_⟩:=h;rfl
 .obtain⟨d,v,rfl,hrep,hk,k⟩:=h
  refine⟨_,(Jd (JL (Jq JaQ (Jo JE (pw 0) Jc) Jx (Jv _)) (Jf (Jp (Jj Jd9 (J8 Jdk (pw 0) YL (J2 Jc)) (Ym (Jt YM JW) (by decide))))) Jr)
   (Jd (JL (Jq JaQ (Jo JE (pw 0) Jc) Jx (Jv _)) (Jf (Jp (Jj Jd9 (J8 Jdk (pw 0) YL (J2 Jc)) (Ym (Jt (Ym (Jt (Ym (Jt Jds (Jt YM JW)) (by decide)) JW) (by decide)) JW) (by decide))))) Jr)
   (Jf (Jp (Jj Jd9 (J8 Jdk (pw 0) YL (J2 Jc)) (Ym (Jt (Ym (Jt (Ym (Jt (Ym (Jt Jds (Jt YM JW)) (by decide)) JW) (by decide)) (Jt YM (Jt YM JW))) (by decide)) JW) (by decide))))))),fun _ nz=>?_⟩
  cases d with
  | hours who day many=>
   obtain⟨a,vs,rfl,ht,_,_,rfl,rfl,_,_,rfl,rfl,_,_,rfl,rfl,_,_,rfl,rfl,rfl⟩:=hrep;refine⟨a,_,0,.str "hours",rfl,rfl,SqT.of ht,Jl (j:=0) rfl,rfl,_,rfl,?_⟩;refine JY (fun _=>?_) (fun h=>absurd Jjf h);refine⟨a,_,rfl,SqT.of ht,fun h=>absurd (show HT.sIx 4 4 (some 3)=4 from h.2) (by decide),fun p hp v2 H2 s2 r2 _=>?_⟩;obtain⟨b,ws,rfl,hb2,_,_,rfl,rfl,rfl⟩:=r2;refine⟨p,b,_,_,rfl,rfl,s2 _ _ Ja,hb2,(by show 3+1<=AK;decide),fun r H3 s3 h3=>?_⟩;exact k (.ref r) H3 (((Je hp).trans s2).trans s3) ⟨r,[.str "hours",.str who,.int day,.int 24],rfl,h3,_,_,rfl,rfl,_,_,rfl,rfl,_,_,rfl,rfl,_,_,rfl,rfl,rfl⟩
  | rate week bs=>
   obtain⟨a,vs,rfl,ht,_,_,rfl,rfl,_,_,rfl,rfl,u,_,rfl,hu,rfl⟩:=hrep;refine⟨a,_,0,.str "rate",rfl,rfl,SqT.of ht,Jl (j:=0) rfl,rfl,_,rfl,?_⟩;refine JY (fun h=>absurd h (JhM (by decide +kernel))) (fun _=>nz fun _ nz=>?_);refine⟨a,_,0,.str "rate",rfl,rfl,SqT.of ht,Jl (j:=0) rfl,rfl,_,rfl,?_⟩;refine JY (fun _=>?_) (fun h=>absurd Jjf h);refine⟨a,_,rfl,SqT.of ht,fun h=>absurd (show HT.sIx 3 3 (some 2)=3 from h.2) (by decide),fun p hp v2 H2 s2 r2 _=>?_⟩;obtain⟨b,ws,rfl,hb2,u2,_,rfl,hu2,rfl⟩:=r2;refine⟨p,b,_,_,rfl,rfl,s2 _ _ Ja,hb2,(by show 2+1<=AK;decide),fun r H3 s3 h3=>?_⟩;exact k (.ref r) H3 (((Je hp).trans s2).trans s3) ⟨r,[.str "rate",.int week,u2],rfl,h3,_,_,rfl,rfl,_,_,rfl,rfl,u2,_,rfl,Rep.same s3 hu2,rfl⟩
  | dues month t=>
   obtain⟨bs,top,per⟩:=t;obtain⟨a,vs,rfl,ht,_,_,rfl,rfl,_,_,rfl,rfl,u,_,rfl,hu,rfl⟩:=hrep;refine⟨a,_,0,.str "dues",rfl,rfl,SqT.of ht,Jl (j:=0) rfl,rfl,_,rfl,?_⟩;refine JY (fun h=>absurd h (JhM (by decide +kernel))) (fun _=>nz fun _ nz=>?_);refine⟨a,_,0,.str "dues",rfl,rfl,SqT.of ht,Jl (j:=0) rfl,rfl,_,rfl,?_⟩;refine JY (fun h=>absurd h (JhM (by decide +kernel))) (fun _=>nz ?_);refine⟨a,_,rfl,SqT.of ht,fun h=>absurd (show HT.sIx 3 3 (some 2)=3 from h.2) (by decide),fun p hp v2 H2 s2 r2 _=>?_⟩;obtain⟨b,ws,rfl,hb2,u2,_,rfl,hu2,rfl⟩:=r2;refine⟨p,b,_,_,rfl,rfl,s2 _ _ Ja,hb2,(by show 2+1<=AK;decide),fun r H3 s3 h3=>?_⟩;exact k (.ref r) H3 (((Je hp).trans s2).trans s3) ⟨r,[.str "dues",.int month,u2],rfl,h3,_,_,rfl,rfl,_,_,rfl,rfl,u2,_,rfl,Rep.same s3 hu2,rfl⟩
  | _=>exact absurd rfl hk
theorem Jpv(us:List V)(n:Nat):Je9 us (some (n:Int)) none=us.drop n:=by
 unfold Je9;rw[HT.Jfv,show HT.sIx us.length us.length none=us.length from rfl]
 by_cases h:n<=us.length
 .rw[Kr h,AC (by rw[Ci];exact A6 _)]
 .rw[Ka (by omega),D8 (A6 _),D8 (by omega),HZ]
theorem JsN(us:List V)(n:Nat):Je9 us none (some (n:Int))=us.take n:=by
 unfold Je9;rw[HT.Jfv,show HT.sIx us.length 0 none=0 from rfl,M1,Nat.sub_zero]
 by_cases h:n<=us.length
 .rw[Kr h]
 .rw[Ka (by omega),AC (A6 _),AC (by omega)]
theorem Jd0{H:Hp}:∀{l m:List Dt}{vs ws:List V},Yv H l vs->Yv H m ws->Yv H (l++m) (vs++ws)
 | [],_,vs,_,h,g=>by
  have h:vs=[]:=h;subst h;exact g
 | _::_,_,_,_,⟨v,t,e,r,h⟩,g=>by
  subst e;exact⟨v,_,rfl,r,Jd0 h g⟩
theorem JdZ{H:Hp}:∀(n:Nat){l:List Dt}{vs:List V},Yv H l vs->Yv H (l.take n) (vs.take n)
 | 0,_,_,_=>rfl
 | _+1,[],vs,h=>by
  have h:vs=[]:=h;subst h;exact rfl
 | n+1,_::_,_,⟨v,t,e,r,h⟩ =>by
  subst e;exact⟨v,_,rfl,r,JdZ n h⟩
theorem Jel{H:Hp}:∀(n:Nat){l:List Dt}{vs:List V},Yv H l vs->Yv H (l.drop n) (vs.drop n)
 | 0,_,_,h=>h
 | _+1,[],vs,h=>by
  have h:vs=[]:=h;subst h;exact rfl
 | n+1,_::_,_,⟨v,t,e,r,h⟩ =>by
  subst e;exact Jel n h
theorem JkB{H:Hp}:∀{l:List Dt}{vs:List V},Yv H l vs->Yv H l.reverse vs.reverse
 | [],vs,h=>by
  have h:vs=[]:=h;subst h;exact rfl
 | _::_,_,⟨v,t,e,r,h⟩ =>by
  subst e;rw[K6,K6];exact Yv.snoc (JkB h) r
theorem JhC(cs:List Int):∃a b c,JJ cs=[a,b,c]:=by
 unfold JJ;split
 .exact⟨_,_,_,rfl⟩
 .split<;>exact⟨_,_,_,rfl⟩
def JpK(cs:List Int):Int:=4*JD cs+3
def JpG(cs:List Int)(rows ah:List JU):Prop:=∀d∈ah,(∃e∈rows,d=Jdo e)\/∃who∈JJ cs,d=.payday who (JpK cs)
inductive JmR(K:WF)(vs:List V)(H:Hp)(Q:VK):Prop
 | mk (l c:Addr) (us:List V) (ds:List JU) (s o:Int) (cs:List Int) (h1:vs=[.ref l,.int s,.int o,.ref c]) (h2:H l=some (.lst us)) (h3:Yv H (ds.map YR) us) (h4:∀d∈ds,J7 d≠none) (h5:ds.length<=30) (h6:SqL K H c (cs.map V.int))
  (h7:∀r vs ah rows H',JV H H'->H r=none->H' r=some (.lst vs)->Yv H' ((ah++rows).map YR) vs->rows.Perm ds->JpG cs rows ah->ah.length<=2*ds.length->(ah.filter isH).length<=ds.length->Q (.ref r) H'):JmR K vs H Q
def Joc(K:WF):Sp:=fun vs H Q _=>JmR K vs H Q
theorem JoE{f f1 f2 f3:Addr}{fd fd1 fd2 fd3:Aa}(F:Fun K "_law_other_way" "_law_other_way" Jbp f fd)(Z:Zs mg)
  (JdC:JK P w K mg base "_law_wrongly" ["_law_deed"] Jm6 1 f1 fd1)
  (Jad:JK P w K mg base "_law_people" ["_law_cells"] (Jfj (K:=K)) 1 f2 fd2)
  (JP:JK P w K mg base "_law_first_month" ["_law_cells"] (JhE (K:=K)) 1 f3 fd3):YU P w K mg base CX0 2 f fd ["_law_deeds", "_law_seed", "_law_other", "_law_cells"] (Joc K):=by
 refine F.ok YE (fun vs H Q E h=>?_) (fun cdv A outer s0 H vs Q E hr h=>?_)
 .obtain⟨_,_,_,_,_,_,_,rfl,_⟩:=h;rfl
 .obtain⟨l,c,us,ds,s,o,cs,rfl,hl,hrep,hkd,hdl,hc,k⟩:=h
  have hul:us.length=ds.length:=by rw[hrep.length,A2]
  refine⟨_,(Jd (Jk 4 YE.nd (Jj Jw (pw 1) (Jj JF (Jn JM (by rfl) Z.z_len JaY (pa1 (pw 0))) Jc)))
   (Jd (Jk 5 YE.nd (Jj JgX (J8 JbA (pw 0) (J2 (pw 4)) YL) (J8 JbA (pw 0) YL (J2 (pw 4)))))
   (Jay (JL (Jq JaQ (Jj Jw (pw 2) Jc) Jc (Jv _)) (Jf (Jk 5 YE.nd (JsP (pw 5) (J2 (JcU (op:=.USub) Jaj Jc))))) Jr)
   (Jd (Jk 6 YE.nd (J3 JR))
   (Jd (Jan AD rfl (JbU rfl Z.z_range (pa1 (Jn JM (by rfl) Z.z_len JaY (pa1 (pw 5))))) (pgn 7 YE.nd) (Jay (JL (Jq JaQ (Jj Jw (Jj JF (pw 7) (pw 1)) Jc) Jc (Jv _)) (Jf (JaL (Jho B6 BW BQ Jaq (pw 6) (pa1 (Js JdC hr (pa1 (Jo JI (pw 5) (pw 7)))))))) Jr)
   (Jf (JL (Jq JaQ (Jj Jw (Jj JF (pw 7) (pw 2)) Jc) Jc (Jv _)) (Jd (Jk 8 YE.nd (Jo JI (Js Jad hr (pa1 (pw 3))) (Jj Jw (pw 7) Jc)))
   (Jf (JaL (Jho B6 BW BQ Jaq (pw 6) (pa1 (JZ (Jb Jx (Jb (pw 8) (pa1 (Jj JF (Jj Ye Jc (Js JP hr (pa1 (pw 3)))) Jc)))))))))) Jr))))
   (Jf (Jp (Jj JgX (pw 6) (pw 5))))))))),fun _ nz=>?_⟩
  refine⟨l,us,rfl,.inl (SqL.of hl),(by show(0:Int)<(us.length:Nat)+1;omega),nz fun _ nz=>?_⟩
  obtain⟨tn,etn⟩:∃tn:Nat,s%((us.length:Nat)+1)=(tn:Int):=⟨(s%((us.length:Nat)+1)).toNat,by
   have:=BX s (show((us.length:Nat)+1:Int)≠0 by omega)
   omega⟩
  dsimp only[rJ,rJ0];rw[etn];refine⟨l,us,rfl,SqL.of hl,fun p1 hp1=>?_⟩;rw[Jpv];have q1:=Jgu (o:=HO.lst (us.drop tn)) hp1;generalize upd H p1 (.lst (us.drop tn))=H1 at q1 ⊢;obtain⟨w1,q1⟩:=q1;refine⟨l,us,rfl,SqL.of (w1 _ _ hl),fun p2 hp2=>?_⟩;rw[JsN];have q2:=Jgu (o:=HO.lst (us.take tn)) hp2;generalize upd H1 p2 (.lst (us.take tn))=H2 at q2 ⊢;obtain⟨w2,q2⟩:=q2;refine⟨p1,p2,_,_,rfl,rfl,w2 _ _ q1,q2,Jcg (by rw[Ci,Ao];omega),fun p3 hp3=>nz ?_⟩;have q3:=Jgu (o:=HO.lst (us.drop tn++us.take tn)) hp3;generalize upd H2 p3 (.lst (us.drop tn++us.take tn))=H3 at q3 ⊢;obtain⟨w3,q3⟩:=q3;have s3:=(w1.trans w2).trans w3
  have r3:Yv H3 ((ds.drop tn++ds.take tn).map YR) (us.drop tn++us.take tn):=by
   have r:=hrep.same s3;rw[AJ,Mj,DC];exact Jd0 (Jel tn r) (JdZ tn r)
  have pm3:(ds.drop tn++ds.take tn).Perm ds:=by
   have:=List.perm_append_comm (l₁:=ds.drop tn) (l₂:=ds.take tn)
   rwa [Co]at this
  clear w1 w2 w3 q1 q2 hp1 hp2;refine⟨fun σ' H'=>∃(rl:Addr)(vs:List V)(rows:List JU),σ'=[some (.ref l),some (.int s),some (.int o),some (.ref c),some (.int tn),some (.ref rl),none,none,none]/\JV H H'/\H' rl=some (.lst vs)/\Yv H' (rows.map YR) vs/\rows.Perm ds,?_,?_⟩
  .refine⟨(by show(0:Int)<2;decide),rfl,_,rfl,?_⟩;refine JY (fun _=>?_) (fun _=>⟨p3,_,_,rfl,s3,q3,r3,pm3⟩);refine⟨p3,_,rfl,rfl,SqL.of q3,fun p4 hp4=>?_⟩;have w4:=Je (o:=HO.lst (us.drop tn++us.take tn).reverse) hp4;refine⟨p4,_,(ds.drop tn++ds.take tn).reverse,rfl,s3.trans w4,Ja,?_,(List.reverse_perm _).trans pm3⟩;rw[List.map_reverse];exact JkB (r3.same w4)
  clear q3 r3 pm3 s3 hp3;rintro σ' H4 ⟨rl,vs,rows,rfl,s4,hrl,rp,pm⟩;have hrn:rows.length=ds.length:=pm.length_eq
  have hvl:vs.length=rows.length:=by rw[rp.length,A2]
  refine fun _ nz=>⟨AA _,fun al hal=>nz fun _ nz=>?_⟩;have q5:=Jgu (o:=HO.lst []) hal;generalize upd H4 al (.lst [])=H5 at q5 ⊢;obtain⟨w5,q5⟩:=q5;have s5:=s4.trans w5;have hrl5:=w5 _ _ hrl;have rp5:=rp.same w5;have hal0:H al=none:=s4.free hal;have nra:rl≠al:=Jh hrl hal;refine⟨rl,vs,rfl,.inl (SqL.of hrl5),_,rfl,(by omega),(by omega),?_⟩
  refine JbV (lo:=0) (fun i σ H'=>∃(ys:List V)(ah:List JU)(v7 v8:Option V),σ=[some (.ref l),some (.int s),some (.int o),some (.ref c),some (.int tn),some (.ref rl),some (.ref al),v7,v8]/\JV H H'/\YY H5 H'/\H' rl=some (.lst vs)/\H' al=some (.lst ys)/\Yv H' (ah.map YR) ys/\JpG cs rows ah/\ah.length<=2*i/\(ah.filter isH).length<=i)
   ⟨[],[],_,_,rfl,s5,fun _ _ z=>z,hrl5,q5,rfl,(fun _ h=>nomatch h),A6 _,A6 _⟩ ?_ ?_
  .rintro i σ H6 hi ⟨ys,ah,v7,v8,rfl,s6,t6,hr6,ha6,ra,hah,hal6,hhl⟩
   have hi:i<vs.length:=by simpa using hi
   have hil:i<rows.length:=hvl ▸ hi;obtain⟨v,hv⟩:∃v,vs[i]?=some v:=⟨vs[i],A1 hi⟩;have hd:rows[i]?=some rows[i]:=A1 hil;have hdm:rows[i]∈rows:=B8 hil;have hdr5:Rep H5 (YR rows[i]) v:=rp5.get i v _ hv (by rw[Ax,hd];rfl)
   have hyl:ys.length=ah.length:=by rw[ra.length,A2]
   refine⟨fun σ' H'=>∃(ys:List V)(ah:List JU),σ'=[some (.ref l),some (.int s),some (.int o),some (.ref c),some (.int tn),some (.ref rl),some (.ref al),some (.int (0+(i:Int))),v8]/\JV H H'/\YY H5 H'/\H' rl=some (.lst vs)/\H' al=some (.lst ys)/\Yv H' (ah.map YR) ys/\JpG cs rows ah/\ah.length<=2*i+1/\(ah.filter isH).length<=i+1,?_,?_⟩
   .refine⟨(by show(0:Int)<2;decide),rfl,_,rfl,?_⟩;refine JY (fun _=>?_) (fun _=>⟨ys,ah,rfl,s6,t6,hr6,ha6,ra,hah,by omega,by omega⟩);refine⟨.inl ⟨rfl,_,SqL.of ha6⟩,rl,vs,_,v,rfl,rfl,SqL.of hr6,(by rw[Cg];exact Jl hv),?_⟩;refine⟨rows[i],v,rfl,Rep.sameT t6 (Jaf _) hdr5,hkd _ (pm.mem_iff.mp hdm),fun r H7 u7 r7=>?_⟩;have ha7:=u7 _ _ ha6;refine⟨al,ys,r,rfl,rfl,ha7,Jz (by omega),?_⟩;have sx:YY H7 (upd H7 al (.lst (ys++[r]))):=YY.lst ha7;refine⟨ys++[r],ah++[Jdo rows[i]],rfl,JQ (s6.trans u7) hal0,(t6.trans (YY.of u7)).trans sx,by rw[Jg nra];exact u7 _ _ hr6,Ja,?_,?_,by rw[AQ];show ah.length+1<=_;omega,?_⟩
    .rw[AJ];exact Yv.snoc (Yv.sameT sx (Jba Jaf ah) (ra.same u7)) (Rep.sameT sx (Jaf _) r7)
    .intro e he
     rcases Ae.mp he with he|he
     .exact hah e he
     .rw[A5.mp he];exact .inl ⟨_,hdm,rfl⟩
    .rw[Bv,AQ];have:=BK isH [Jdo rows[i]];simp only[BG]at this;omega
   .rintro σ' H7 ⟨ys,ah,rfl,s7,t7,hr7,ha7,ra,hah,hal7,hhl⟩
    have hyl:ys.length=ah.length:=by rw[ra.length,A2]
    refine⟨(by show(0:Int)<5;decide),rfl,_,rfl,?_⟩;refine JY (fun _=>fun _ nz=>?_) (fun _=>⟨ys,ah,_,_,rfl,s7,t7,hr7,ha7,ra,hah,by omega,by omega⟩);refine⟨c,cs,rfl,s7.seq hc,fun pl H8 u8 npl hpl=>?_⟩;obtain⟨a,b,e,e3⟩:=JhC cs
    obtain⟨who,hw,ew⟩:∃who∈JJ cs,atI ((JJ cs).map V.str) ((0+(i:Int))%3)=some (.str who):=by
     rw[e3]
     have m3:(0+(i:Int))%3=0\/(0+(i:Int))%3=1\/(0+(i:Int))%3=2:=by omega
     rcases m3 with h|h|h<;>rw[h]
     .exact⟨a,.head _,rfl⟩
     .exact⟨b,.tail _ (.head _),rfl⟩
     .exact⟨e,.tail _ (.tail _ (.head _)),rfl⟩
    refine⟨(by show(0:Int)<3;decide),pl,_,_,.str who,rfl,rfl,SqL.of hpl,ew,nz ?_⟩;have ha8:=u8 _ _ ha7;have s8:=s7.trans u8;refine⟨.inl ⟨rfl,_,SqL.of ha8⟩,c,cs,rfl,s8.seq hc,fun H9 u9=>?_⟩;refine⟨Yo (by decide) (by decide),zs3,fun t ht=>?_⟩;have w9:=Je (o:=HO.tup [V.str "payday",V.str who,V.int (JpK cs)]) ht;have q9:upd H9 t (.tup [V.str "payday",V.str who,V.int (JpK cs)]) t=some (.tup [V.str "payday",V.str who,V.int (JpK cs)]):=Ja;have ha9:=w9 _ _ (u9 _ _ ha8);refine⟨al,ys,.ref t,rfl,rfl,ha9,Jz (by omega),?_⟩;have sx:=YY.lst (o:=HO.lst (ys++[.ref t])) ha9;have s9:=(s8.trans u9).trans w9;have u79:=(u8.trans u9).trans w9;refine⟨ys++[.ref t],ah++[.payday who (JpK cs)],_,_,rfl,JQ s9 hal0,(t7.trans (YY.of u79)).trans sx,?_,Ja,?_,?_,by rw[AQ];show ah.length+1<=_;omega,?_⟩
    .rw[Jg nra];exact u79 _ _ hr7
    .rw[AJ];exact Yv.snoc (Yv.sameT sx (Jba Jaf ah) (ra.same u79)) (Rep.sameT sx (Jaf _) ⟨t,_,rfl,q9,_,_,rfl,rfl,_,_,rfl,rfl,_,_,rfl,rfl,rfl⟩)
    .intro z he
     rcases Ae.mp he with he|he
     .exact hah z he
     .rw[A5.mp he];exact .inr ⟨who,hw,rfl⟩
    .rw[Bv,show[JU.payday who (JpK cs)].filter isH=[] from rfl,Be];exact hhl
  .rintro σ' H6 ⟨ys,ah,v7,v8,rfl,s6,t6,hr6,ha6,ra,hah,hal6,hhl⟩
   have hyl:ys.length=ah.length:=by rw[ra.length,A2]
   have hn:((vs.length:Nat):Int).toNat=ds.length:=by omega
   refine nz ⟨al,rl,ys,vs,rfl,rfl,ha6,hr6,Jcg (by omega),fun r hr'=>?_⟩;have w7:=Je (o:=HO.lst (ys++vs)) hr';refine k r (ys++vs) ah rows _ (s6.trans w7) (s6.free hr') Ja ?_ pm hah (by omega) (by omega);rw[AJ];exact Jd0 (ra.same w7) (Yv.sameT (t6.trans (YY.of w7)) (Jba Jaf rows) rp5)
inductive JrW(vs:List V)(H:Hp)(Q:VK):Prop
 | mk (x y:V) (d:Dt) (h1:vs=[x,y]) (h2:Rep H d x) (h3:Rep H d y) (h4:dsz d<=100000) (h5:∀H',JV H H'->Q (.bl true) H'):JrW vs H Q
def Jse:Sp:=fun vs H Q _=>JrW vs H Q
theorem JjJ{f:Addr}{fd:Aa}(F:Fun K "_law_unturned" "_law_unturned" JbL f fd)(Z:Zs mg):YU P w K mg base CX0 1 f fd ["_law_found", "_law_due"] Jse:=by
 refine F.ok JaJ (fun vs H Q E h=>?_) (fun cdv A outer s0 H vs Q E hr h=>?_)
 .obtain⟨x,y,d,rfl,_⟩:=h;rfl
 .obtain⟨x,y,d0,rfl,hx,hy,hsz,k⟩:=h;have hu:=JbH hr
  refine⟨_,(Jd (Jk 2 JaJ.nd (J3 (pa1 (JZ (Jb (pw 0) (pa1 (pw 1)))))))
   (Jd (JkM AD (Jq (Jf5 hu) (pw 2) (J3 JR) (Jv _)) (Jd (JnZ (Jli B6 Ga GV Jql (pw 2)) (Je1 rfl (Yx (pgn 3 JaJ.nd) (Yx (pgn 4 JaJ.nd) JcW))))
   (Jf (JL (JaP (Jn JdT (by rfl) Z.z_isinstance JA (Jb (pw 4) (Jb (JZ (Jb (Yi (v:=.ty "list") rfl Z.z_list JaN rfl) (Jb (Yi (v:=.ty "tuple") rfl Z.z_tuple Jci rfl) JR))) JR)))) (Jd (JL (Jq Jdx (Jn YF (by rfl) Z.z_isinstance JA (Jb (pw 3) (Jb (Yi (v:=.ty "list") rfl Z.z_list JaN rfl) JR))) (Jn YF (by rfl) Z.z_isinstance JA (Jb (pw 4) (Jb (Yi (v:=.ty "list") rfl Z.z_list JaN rfl) JR))) (Jv _)) (Jf (Jp JaE)) Jr)
   (Jd (JL (PW.pt (JbO (Jbe (JaP (Jn JdT (by rfl) Z.z_isinstance JA (Jb (pw 3) (Jb (JZ (Jb (Yi (v:=.ty "list") rfl Z.z_list JaN rfl) (Jb (Yi (v:=.ty "tuple") rfl Z.z_tuple Jci rfl) JR))) JR))))) (JaW (Jq Jdx (Jn JM (by rfl) Z.z_len JaY (pa1 (pw 3))) (Jn JM (by rfl) Z.z_len JaY (pa1 (pw 4))) (Jv _))))) (Jf (Jp JaE)) Jr)
   (Jf (Jan AD rfl (JbU rfl Z.z_range (pa1 (Jn JM (by rfl) Z.z_len JaY (pa1 (pw 4))))) (pgn 5 JaJ.nd) (Jf (JaL (Jho B6 BW BQ Jaq (pw 2) (pa1 (JZ (Jb (Jo JkH (pw 3) (pw 5)) (pa1 (Jo JkH (pw 4) (pw 5))))))))))))) (Jf (JL (PW.pt (JbO (Jai (Jcw (pw 3))) (JaW (Jai (Jcw (pw 4)))))) (Jf (JL (PW.pt (JbO (Jai (JbQ (pw 3))) (JaW (Jai (JbQ (pw 4)))))) (Jf (Jp JaE)) Jr)) (Jf (JL (Jq Jdx (Jn YF (by rfl) Z.z_isinstance JA (Jb (pw 3) (Jb (Yi (v:=.ty "bool") rfl Z.z_bool Jj0 rfl) JR))) (Jn YF (by rfl) Z.z_isinstance JA (Jb (pw 4) (Jb (Yi (v:=.ty "bool") rfl Z.z_bool Jj0 rfl) JR))) (Jv _)) (Jf (Jp JaE)) (Jf (JL (Jq Jdx (Jn YF (by rfl) Z.z_isinstance JA (Jb (pw 3) (Jb (Yi (v:=.ty "str") rfl Z.z_str Jji rfl) JR))) (Jn YF (by rfl) Z.z_isinstance JA (Jb (pw 4) (Jb (Yi (v:=.ty "str") rfl Z.z_str Jji rfl) JR))) (Jv _)) (Jf (Jp JaE)) (Jf (JL (PW.pt (JbO (Jbe (JaP (Jn JdT (by rfl) Z.z_isinstance JA (Jb (pw 3) (Jb (JZ (Jb (Yi (v:=.ty "str") rfl Z.z_str Jji rfl) (Jb (Yi (v:=.ty "int") rfl Z.z_int Jje rfl) JR))) JR))))) (JaW (Jq Jdx (pw 3) (pw 4) (Jv _))))) (Jf (Jp JaE)) Jr))))))))))))
   (Jf (Jp JaE)))),fun _ nz=>?_⟩
  refine⟨zs2,fun t0 ht0=>⟨zs1,fun l hl=>?_⟩⟩;have hl0:H l=none:=(Je ht0).free hl
  refine nz fun _ nz=>⟨fun m σ Hc=>∃(ps:List Addr)(ds:List Dt)(v3 v4 v5:Option V),σ=[some x,some y,some (.ref l),v3,v4,v5]/\JjX H l ps ds Hc/\m=JbP ds/\JbP ds<=100000,
   ⟨_,[t0],[d0],none,none,none,rfl,⟨JQ (Je ht0) hl0,Ja,rfl,?_⟩,rfl,by simp only[JbP];omega⟩,?_⟩
  .intro i p d e1 e2
   cases i with
   | succ i=>simp at e1
   | zero=>
    cases e1;cases e2;exact⟨x,y,Je hl _ _ Ja,hx,hy⟩
  rintro m σ Hc ⟨ps,ds,v3,v4,v5,rfl,W,rfl,hms⟩;refine⟨AA _,fun le hle=>?_⟩;have W1:=W.new (o:=HO.lst []) hle;refine⟨l,le,_,rfl,rfl,SqL.of W1.lst,SqL.of Ja,_,rfl,?_⟩
  rcases DW ps with rfl|⟨ps,p,rfl⟩
  .refine JY (fun h=>absurd h (by decide)) (fun _=>nz ?_);exact k _ W1.same
  .rw[DX]at W W1 ⊢
   rcases DW ds with rfl|⟨ds,d,rfl⟩
   .have:=W.len;simp at this
   rw[DX]at W W1 hms ⊢;refine JY (fun _=>?_) (fun h=>absurd (by simp) h)
   refine⟨fun σ' H'=>∃(ps':List Addr)(ds':List Dt)(v3 v4 v5:Option V),σ'=[some x,some y,some (.ref l),v3,v4,v5]/\JjX H l ps' ds' H'/\JbP ds'<JbP (ds++[d]),
    fun σ' H' ⟨ps',ds',v3,v4,v5,e,W',hlt⟩ =>⟨_,hlt,ps',ds',v3,v4,v5,e,W',rfl,by omega⟩,fun _ ny=>?_⟩
   obtain⟨W2,u,v,hp,hp2,hu',hv'⟩:=W1.pop hl0
   have hlast:(GC V.ref (ps++[p]))[(GC V.ref (ps++[p])).length-1]?=some (V.ref p):=by simp
   have hdl:(GC V.ref (ps++[p])).dropLast=ps.map V.ref:=by simp
   refine⟨.inl ⟨rfl,_,SqL.of W1.lst⟩,l,_,_,rfl,rfl,W1.lst,hlast,?_⟩;rw[hdl];refine⟨p,_,rfl,SqT.of hp2,rfl,u,_,rfl,v,_,rfl,rfl,ny ?_⟩;generalize upd (upd Hc le (HO.lst [])) l (HO.lst (ps.map V.ref))=H2 at W2 hp2 ⊢
   have hd1:JbP (ds++[d])=JbP ds+dsz d:=by rw[Jbl];simp only[JbP];omega
   have hdp:=JjT d;refine⟨zs2,fun tp htp=>?_⟩;have W3:=W2.new (o:=HO.tup [V.ty "list",V.ty "tuple"]) htp;refine⟨_,dty d,tp,["list", "tuple"],rfl,Ja,(hv'.same W3.same).ty,JaT d,by decide,_,rfl,?_⟩
   by_cases hseq:∃dl,d=.tup dl\/d=.lst dl
   .obtain⟨dl,hdl'⟩:=hseq;have hany:=Jl8 hdl';refine JY (fun _=>fun _ nq=>?_) (fun h=>absurd hany h)
    have hdz:dsz d=1+JbP dl:=by rcases hdl' with rfl|rfl<;>rfl
    refine⟨_,dty d, "list",rfl,(hu'.same W3.same).ty,JaT d,by decide,_,dty d, "list",rfl,(hv'.same W3.same).ty,JaT d,by decide,rfl,_,rfl,?_⟩;refine Jfd rfl (nq fun _ nq=>?_);refine⟨zs2,fun tq htq=>?_⟩;have W4:=W3.new (o:=HO.tup [V.ty "list",V.ty "tuple"]) htq;refine⟨_,dty d,tq,["list", "tuple"],rfl,Ja,(hu'.same W4.same).ty,JaT d,by decide,_,rfl,?_⟩;refine JY (fun h=>absurd h (by rw[hany];decide)) (fun _=>?_);obtain⟨a1,ys1,e1,q1,n1⟩:=JhP (K:=K) hdl' hu' W4.same;obtain⟨a2,ys2,e2,q2,n2⟩:=JhP (K:=K) hdl' hv' W4.same;refine⟨a1,ys1,by rw[e1],q1,a2,ys2,by rw[e2],q2,rfl,_,rfl,?_⟩;refine Jfd (by rw[n1,n2]) (nq ?_);have hdl3:=Jeb dl;refine⟨a2,ys2,by rw[e2],q2,_,rfl,(by rw[n2];omega),(by rw[n2];omega),?_⟩
    refine JbV (lo:=0) (fun i σ H5=>∃(qs:List Addr)(v5:Option V),σ=[some x,some y,some (.ref l),some u,some v,v5]/\JjX H l (ps++qs) (ds++dl.take i) H5)
     ⟨[],_,rfl,by rw[Be,KS,Be];exact W4⟩ ?_ ?_
    .rintro i σ H5 hi ⟨qs,w5,rfl,W5⟩
     have hi:i<dl.length:=by rw[n2]at hi;omega
     have he:dl[i]?=some dl[i]:=A1 hi;obtain⟨x1,r1,i1⟩:=Jfh (K:=K) hdl' hu' W5.same he;obtain⟨x2,r2,i2⟩:=Jfh (K:=K) hdl' hv' W5.same he;refine⟨.inl ⟨rfl,_,SqL.of W5.lst⟩,i1 _ (i2 _ ⟨zs2,fun t ht=>?_⟩)⟩;have W6:=W5.push hl0 ht r1 r2;have hw5:=Jeb (ds++dl.take i);have hlen5:=W5.len
     have htk:JbP (ds++dl.take i)<=100000:=by
      have h1:JbP (dl.take i)<=JbP dl:=by
       have:=Jbl (dl.take i) (dl.drop i);rw[Co]at this;omega
      rw[Jbl];omega
     refine⟨l,_,_,rfl,rfl,Je ht _ _ W5.lst,BR (show _<=100000 by rw[A2];omega) (by decide),?_⟩;refine⟨qs++[t],_,rfl,?_⟩;rw[Ap,he,<- C5,<- C5];exact W6
    .rintro σ H5 ⟨qs,w5,rfl,W5⟩;refine⟨ps++qs,_,_,_,_,rfl,W5,?_⟩
     have e:(0-0+(ys2.length:Int)).toNat=dl.length:=by omega
     have hn:dl.take (ys2.length:Int).toNat=dl:=by rw[n2];exact AC (by omega)
     rw[hn,Jbl,hd1,hdz];omega
   .rcases JnY (fun dl=>⟨fun e=>hseq ⟨dl,.inl e⟩,fun e=>hseq ⟨dl,.inr e⟩⟩) hu' hv' with⟨rfl,rfl,rfl⟩|⟨rfl,hF⟩
    .refine JY (fun h=>absurd h (by decide)) (fun _=>?_);refine⟨_,rfl,?_⟩;refine JY (fun _=>?_) (fun h=>absurd (decide_eq_true rfl) h);refine Jfa ?_;refine⟨_,rfl,?_⟩;refine JY (fun h=>absurd h (by decide)) (fun _=>?_);refine⟨_,rfl,?_⟩;refine JY (fun h=>absurd h (by decide)) (fun _=>?_);exact⟨ps,ds,_,_,_,rfl,W3,by omega⟩
    .refine JY (fun h=>absurd h hF.no) (fun _=>?_);refine⟨_,rfl,?_⟩;refine JY (fun h=>absurd (of_decide_eq_true h) hF.nn) (fun _=>?_);refine⟨_,rfl,?_⟩;refine JY (fun h=>absurd (of_decide_eq_true h) hF.nn) (fun _=>?_);refine⟨_,dty d, "bool",rfl,(hu'.same W3.same).ty,JaT d,by decide,_,dty d, "bool",rfl,(hu'.same W3.same).ty,JaT d,by decide,rfl,_,rfl,?_⟩;refine Jfd rfl ?_;refine⟨_,dty d, "str",rfl,(hu'.same W3.same).ty,JaT d,by decide,_,dty d, "str",rfl,(hu'.same W3.same).ty,JaT d,by decide,rfl,_,rfl,?_⟩;refine Jfd rfl ?_;refine⟨zs2,fun tq htq=>?_⟩;have W4:=W3.new (o:=HO.tup [V.ty "str",V.ty "int"]) htq;refine⟨_,dty d,tq,["str", "int"],rfl,Ja,(hu'.same W4.same).ty,JaT d,by decide,_,rfl,?_⟩;refine JY (fun h=>absurd h (by rw[hF.si];decide)) (fun _=>?_);refine⟨hF.sc,_,rfl,?_⟩;refine Jfd rfl ?_;exact⟨ps,ds,_,_,_,rfl,W4,by omega⟩
structure Way(cs:List Int)(B:Bk)(D E:List JU):Prop where
 found:Jp2 (JO cs) (·∈JJ cs) E B
 dok:∀d∈E,Jal d
 len:E.length<=90
 few:(E.filter isH).length<64
 same:E.length=D.length->∀d∈E,J7 d≠none
 of:∀d∈E,Of (fun _=>True) d
theorem Jm4{S:Str->Prop}{d:JU}(h:Of S d):Of (fun _=>True) d:=by cases d<;>first|trivial|exact h.elim
theorem JeL{cs:List Int}{d:JU}(k:J7 d≠none)(h:Jnc cs d):Of (·∈JJ cs) d:=by
 cases d with
 | hours who day m=>exact h.1
 | rate w bs=>trivial
 | dues m t=>trivial
 | _=>exact absurd rfl k
theorem JkF(d:JU)(k:J7 d≠none):Jal (Jdo d):=by
 cases d with
 | hours who day m=>trivial
 | rate w bs=>exact⟨by decide,fun b hb=>by rw[A5.mp hb];decide⟩
 | dues m t=>exact⟨⟨by decide,fun b hb=>by rw[A5.mp hb];decide⟩,by decide⟩
 | _=>exact absurd rfl k
theorem Jlq{ms:List Int}{S:Str->Prop}{d:JU}(k:J7 d≠none)(h:Jrs ms S d):Jrs ms S (Jdo d):=by
 cases d with
 | hours who day m=>exact h
 | rate w bs=>trivial
 | dues m t=>trivial
 | _=>exact absurd rfl k
theorem Jkz{S:Str->Prop}{d:JU}(k:J7 d≠none)(h:Of S d):Of S (Jdo d):=by
 cases d with
 | hours who day m=>exact h
 | rate w bs=>trivial
 | dues m t=>trivial
 | _=>exact absurd rfl k
theorem JoW{cs:List Int}{B:Bk}{D:List JU}(hB:Holds B (Jbi (fun _=>none) D))(hDt:∀e∈D,J7 e≠none)(hDo:∀e∈D,Jal e/\Jnc cs e/\JiS e)(hDl:D.length<=30):Way cs B D D:=
 ⟨Jp3 (W:=0) (Jjp cs) hB rfl (fun d hd=>⟨(hDo d hd).1,(hDo d hd).2.1.fits⟩) (fun d hd=>(hDo d hd).2.2) (fun d hd=>.inl (hDt d hd)) (fun d hd=>JeL (hDt d hd) (hDo d hd).2.1),fun d hd=>(hDo d hd).1,by omega,BR (BK _ _) (by omega),fun _=>hDt,fun d hd=>Jm4 (JeL (hDt d hd) (hDo d hd).2.1)⟩
theorem Joj{cs:List Int}{B:Bk}{D ah rows:List JU}(hB:Holds B (Jbi (fun _=>none) D))(hDt:∀e∈D,J7 e≠none)(hDo:∀e∈D,Jal e/\Jnc cs e/\JiS e)(hDl:D.length<=30)(hnd:(D.map J7).Nodup)
  (pm:rows.Perm D) (hah:JpG cs rows ah) (h1:ah.length<=2*D.length) (h2:(ah.filter isH).length<=D.length):Way cs B D (ah++rows):=by
 have hr:∀d∈rows,d∈D:=fun d hd=>pm.mem_iff.mp hd;have hrl:rows.length=D.length:=pm.length_eq
 have all:∀(R:JU->Prop),(∀d∈D,R d)->(∀d∈D,R (Jdo d))->(∀who∈JJ cs,R (.payday who (JpK cs)))->∀d∈ah++rows,R d:=fun R a b c d hd=>by
  rcases Ae.mp hd with hd|hd
  .rcases hah d hd with⟨e,he,rfl⟩|⟨who,hw,rfl⟩
   .exact b e (hr e he)
   .exact c who hw
  .exact a d (hr d hd)
 have hf:Jbi (fun _=>none) (ah++rows)=Jbi (fun _=>none) D:=Jj7 hnd pm fun e he=>by
  rcases hah e he with⟨x,hx,rfl⟩|⟨who,_,rfl⟩
  .exact .inr ⟨x,hx,JgE x⟩
  .exact .inl rfl
 refine⟨Jp3 (W:=JpK cs) (Jjp cs) hB hf ?_ ?_ ?_ ?_,?_,?_,?_,fun e d hd=>?_,?_⟩
 .exact all _ (fun d hd=>⟨(hDo d hd).1,(hDo d hd).2.1.fits⟩) (fun d hd=>⟨JkF d (hDt d hd),Jlq (hDt d hd) (hDo d hd).2.1.fits⟩) fun who hw=>⟨trivial,hw⟩
 .exact all _ (fun d hd=>(hDo d hd).2.2) (fun d hd=>Jly (hDt d hd)) fun _ _=>trivial
 .exact all _ (fun d hd=>.inl (hDt d hd)) (fun d hd=>.inl (by rw[JgE];exact hDt d hd)) fun who _=>.inr ⟨who,rfl⟩
 .exact all _ (fun d hd=>JeL (hDt d hd) (hDo d hd).2.1) (fun d hd=>Jkz (hDt d hd) (JeL (hDt d hd) (hDo d hd).2.1)) fun _ hw=>hw
 .exact all _ (fun d hd=>(hDo d hd).1) (fun d hd=>JkF d (hDt d hd)) fun _ _=>trivial
 .rw[AQ];omega
 .rw[Bv,AQ];have:=BK isH rows;omega
 .rw[AQ]at e;have:ah=[]:=CQ (by omega);subst this;exact hDt d (hr d hd)
 .exact all _ (fun d hd=>Jm4 (JeL (hDt d hd) (hDo d hd).2.1)) (fun d hd=>Jm4 (Jkz (hDt d hd) (JeL (hDt d hd) (hDo d hd).2.1))) fun _ _=>trivial
theorem Jim{kvs:List (Key×V)}{nks:List Str}(e:kvs.map (·.1)=nks.map Av)(nd:nks.Nodup)(who:Str)(v:V):∃nks':List Str,(Jag kvs (Av who) v).map (·.1)=nks'.map Av/\nks'.Nodup/\(∀w,w∈nks'↔w∈nks\/w=who)/\nks'.length<=nks.length+1:=by
 have key:(kvs.any fun kv=>decide (kv.1=(Av who:Key)))=true↔who∈nks:=by
  rw[B9];constructor
  .rintro⟨p,hp,c⟩;have m:p.1∈kvs.map (·.1):=B4 (f:=(·.1)) hp;rw[e,of_decide_eq_true c]at m;obtain⟨w,hw,z⟩:=Ag.mp m;exact Av.inj z ▸ hw
  .intro h
   have m:(Av who:Key)∈kvs.map (·.1):=by rw[e];exact B4 h
   obtain⟨p,hp,z⟩:=Ag.mp m;exact⟨p,hp,decide_eq_true z⟩
 unfold Jag
 by_cases c:who∈nks
 .rw[if_pos (key.mpr c)];refine⟨nks,?_,nd,fun w=>⟨.inl,fun h=>h.elim id fun z=>z ▸ c⟩,by omega⟩;rw[B2,<- e];refine Bm fun p _=>?_;show(if p.1=_ then(p.1,v)else p).1=p.1;split<;>rfl
 .rw[if_neg fun z=>c (key.mp z)];refine⟨nks++[who],by rw[AJ,AJ,e];rfl,CK.mpr ⟨nd,by simp,fun x hx y hy z=>c (by rw[<- A5.mp hy,<- z];exact hx)⟩,fun w=>by rw[Ae,A5],by rw[AQ];exact A6 _⟩
theorem Jeq{n:Nat}:∀{l:List Dt},(∀d∈l,dep d<=n)->JpW l<=n
 | [],_=>AA _
 | d::r,h=>Nat.max_le.mpr ⟨h d (.head _),Jeq fun x hx=>h x (.tail _ hx)⟩
theorem Jie(bs:List Bd):dep (Jb4 bs)<=2:=by
 unfold Jb4;refine EX (Jeq fun d hd=>?_);obtain⟨b,_,rfl⟩:=Ag.mp hd;obtain⟨u,e⟩:=b;cases u<;>exact A6 1
theorem JlT(E:List JU):JpW (E.map YR)<=4:=by
 refine Jeq fun x hx=>?_;obtain⟨d,_,rfl⟩:=Ag.mp hx
 cases d with
 | rate w bs=>
  have:=Jie bs;refine B0 (EX (Jeq (n:=2) fun y hy=>?_)) (by decide:3<=4)
  rcases Aq.mp hy with rfl|hy
  .exact AA _
  .rcases Aq.mp hy with rfl|hy
   .exact AA _
   .rw[A5.mp hy];exact this
 | dues m t=>
  obtain⟨bs,top,per⟩:=t;have:=Jie bs;refine EX (Jeq (n:=3) fun y hy=>?_)
  rcases Aq.mp hy with rfl|hy
  .exact AA _
  .rcases Aq.mp hy with rfl|hy
   .exact AA _
   .rw[A5.mp hy];refine EX (Jeq (n:=2) fun z hz=>?_)
    rcases Aq.mp hz with rfl|hz
    .exact this
    .rcases Aq.mp hz with rfl|hz
     .exact AA _
     .rw[A5.mp hz];exact AA _
 | _=>exact Gd rfl
theorem JeJ:∀{D L:List JU},(∀d∈D,J7 d≠none)->(∀e∈L,J7 e≠none)->∀e∈D.foldl JdE L,J7 e≠none
 | [],_,_,h=>h
 | d::r,L,hD,h=>JeJ (D:=r) (fun x hx=>hD x (.tail _ hx)) (JlJ h (hD d (.head _)))
theorem JkY{e:JU}:∀{D L:List JU},e∈D.foldl JdE L->e∈D\/e∈L
 | [],_,h=>.inr h
 | d::r,L,h=>by
  rcases JkY (D:=r) h with h|h
  .exact .inl (.tail _ h)
  .rcases Jhd h with rfl|⟨h,_⟩
   .exact .inl (.head _)
   .exact .inr h
theorem Jk4:∀{D L:List JU},(D.foldl JdE L).length<=L.length+D.length
 | [],_=>A6 _
 | d::r,L=>by
  have a:=Jk4 (D:=r) (L:=JdE L d)
  have b:(JdE L d).length<=L.length+1:=by
   unfold JdE;split
   .rw[A2];omega
   .rw[AQ];exact A6 _
  show((r.foldl JdE (JdE L d))).length<=_;rw[AN];omega
theorem Jne{κ:Type}[DecidableEq κ]{k:κ}{v:V}:∀{kvs:List (κ×V)},(kvs.map (·.1)).Nodup->(k,v)∈kvs->Jak kvs k=some v
 | p::r,nd,h=>by
  obtain⟨n1,n2⟩:=AL.mp nd
  rcases Aq.mp h with h|h
  .rw[<- h];exact YW rfl
  .rw[YV (p:=p) fun z=>n1 (by show p.1∈_;rw[z];exact B4 (f:=(·.1)) h)];exact Jne n2 h
theorem JmW{H:Hp}:∀{kvs:List (List Key×V)} {L:List JU},BV (Jbj H) kvs L->(∀e∈L,J7 e≠none)->(L.map J7).Nodup->(kvs.map (·.1)).Nodup
 | _,_,.nil,_,_=>BZ
 | _,_,.cons (a:=p) (b:=e) (l₁:=kr) (l₂:=lr) r t,h,nd=>by
  obtain⟨n1,n2⟩:=AL.mp nd;refine AL.mpr ⟨fun m=>?_,JmW t (fun x hx=>h x (.tail _ hx)) n2⟩;obtain⟨q,hq,eq⟩:=Ag.mp m;obtain⟨j,hj,ej⟩:=List.mem_iff_getElem.mp hq;have hl:=t.length
  have hj2:j<lr.length:=by omega
  have:=JX t j q lr[j] (by rw[A1 hj,ej]) (A1 hj2)
  have k1:Jg8 lr[j]=Jg8 e:=by rw[<- this.1,<- r.1];exact eq
  refine n1 ?_;rw[<- (Jff (h lr[j] (.tail _ (B8 hj2))) (h e (.head _))).mp k1];exact B4 (B8 hj2)
theorem Jkp{H:Hp}:∀{kvs:List (List Key×V)} {L:List JU},BV (Jbj H) kvs L->Yv H (L.map YR) (kvs.map (·.2))
 | _,_,.nil=>rfl
 | _,_,.cons (a:=p) r t=>⟨p.2,_,rfl,r.2,Jkp t⟩
theorem Jo2(d:JU):inV (.str (nmD d)) [V.str "hours",V.str "rate",V.str "dues"]=(J7 d).isSome:=by
 cases d<;>(simp only[nmD,J7,Option.isSome];decide +kernel)
theorem JuL{H:Hp}{st:Addr}{A:LSt}{b:Int}{ms:List Int}{B:Bk}{n:Nat}(h:Law H st A b ms B n){p:Addr}{kvs:List (List Key×V)}{o:HO}(e:H p=some (.dT kvs))(hn:p∉st::A.all):Law (upd H p o) st A b ms B n:=
 h.mono ⟨fun b xs z=>(Jg (Y1 z e fun y=>nomatch y)).trans z,fun b xs z=>(Jg (Y1 z e fun y=>nomatch y)).trans z⟩ fun c hc=>Jg fun z=>hn (z ▸ hc)
theorem JqR{d:JU}{a:Addr}{H:Hp}(k:J7 d≠none)(h:Rep H (YR d) (.ref a)):∃xs,H a=some (.tup xs)/\Je9 xs none (some (-1))=(Jg8 d).map kV/\¬(HT.sIx xs.length 0 none=0/\HT.sIx xs.length xs.length (some (-1))=xs.length):=by
 cases d with
 | hours who day many=>
  obtain⟨_,vs,e,ht,_,_,rfl,rfl,_,_,rfl,rfl,_,_,rfl,rfl,_,_,rfl,rfl,rfl⟩:=h;cases e;exact⟨_,ht,rfl,fun h=>absurd (show HT.sIx 4 4 (some (-1))=4 from h.2) (by decide)⟩
 | rate week bs=>
  obtain⟨_,vs,e,ht,_,_,rfl,rfl,_,_,rfl,rfl,u,_,rfl,hu,rfl⟩:=h;cases e;exact⟨_,ht,rfl,fun h=>absurd (show HT.sIx 3 3 (some (-1))=3 from h.2) (by decide)⟩
 | dues month t=>
  obtain⟨_,vs,e,ht,_,_,rfl,rfl,_,_,rfl,rfl,u,_,rfl,hu,rfl⟩:=h;cases e;exact⟨_,ht,rfl,fun h=>absurd (show HT.sIx 3 3 (some (-1))=3 from h.2) (by decide)⟩
 | _=>exact absurd rfl k
theorem Jbj.sameT{H H':Hp}(s:YY H H'){p:List Key×V}{d:JU}(h:Jbj H p d):Jbj H' p d:=⟨h.1,Rep.sameT s (Jaf d) h.2⟩
inductive JrT(K:WF)(vs:List V)(H:Hp)(Q:VK):Prop
 | mk (a:Addr) (ns:List Int) (h1:vs=[.ref a]) (h2:SqL K H a (ns.map V.int)) (h3:ns.length<=63) (h4:∀H',Q (.bl true) H'):JrT K vs H Q
def Jpr(K:WF):Sp:=fun vs H Q _=>JrT K vs H Q
theorem JsJ{f f1 f2 f3 f4 f5 f6 f7 f8 f9 fA fB fC fD fE:Addr}{fd fd1 fd2 fd3 fd4 fd5 fd6 fd7 fd8 fd9 fdA fdB fdC fdD fdE:Aa}(F:Fun K "law" "law" JiN f fd)(Z:Zs mg)
  (JhW:JK P w K mg base "_law_room" ["_law_script", "_law_most", "_law_bound"] (JpT (K:=K)) 1 f1 fd1)
  (Jdu:JK P w K mg base "_law_written" ["_law_cells"] (Ji8 (K:=K)) 3 f2 fd2)
  (JfU:JK P w K mg base "_law_begun" ["_law_cells"] (Jol K) 2 f3 fd3)
  (Jh1:JK P w K mg base "_law_done" ["_law_state", "_law_deed"] Jmx 6 f4 fd4)
  (JfB:JK P w K mg base "_law_alike" ["_law_found", "_law_due"] Jmz 2 f5 fd5)
  (JhQ:JK P w K mg base "rights" ["deeds", "week"] Jk3 12 f6 fd6)
  (JgY:JK P w K mg base "_law_at" ["_law_script", "_law_k"] (JtY K) 1 f7 fd7)
  (Yw:JK P w K mg base "_law_so_far" ["_law_cells"] (JhJ (K:=K)) 1 f8 fd8)
  (JcS:JK P w K mg base "_law_all_nets" ["_law_state", "_law_who", "_law_last"] JiD 4 f9 fd9)
  (Jad:JK P w K mg base "_law_people" ["_law_cells"] (Jfj (K:=K)) 1 fA fdA)
  (Ja1:JK P w K mg base "_law_refused" ["_law_state", "_law_deed"] Jgf 2 fB fdB)
  (Jco:JK P w K mg base "_law_other_way" ["_law_deeds", "_law_seed", "_law_other", "_law_cells"] (Joc K) 2 fC fdC)
  (JcM:JK P w K mg base "_law_unturned" ["_law_found", "_law_due"] Jse 1 fD fdD)
  (JbY:JK P w K mg base "_law_whole" ["_law_found"] JjH 1 fE fdE):YU P w K mg base CX0 13 f fd ["_law_script"] (Jpr K):=by
 refine F.ok JaI (fun vs H Q E h=>?_) (fun cdv A outer s0 H vs Q E hr h=>?_)
 .obtain⟨_,_,rfl,_⟩:=h;rfl
 .obtain⟨a,ns,rfl,hS,hlen,k⟩:=h;have hu:=JbH hr;have hu6:=BR (Hq (by decide:6<=64) _) hr.units
  refine⟨_,(Jd (Jk 1 JaI.nd (J8 JbA (pw 0) (J2 Jc) (J2 (Jj JF Jc (Js JhW hr (Jb (pw 0) (Jb Jc (pa1 Jc))))))))
   (Jd (Jk 2 JaI.nd (Js JfU hr (pa1 (pw 1))))
   (Jd (Jk 3 JaI.nd Jkx)
   (Jd (Jan AD rfl (Ja0 (Js Jdu hr (pa1 (pw 1)))) (pgn 4 JaI.nd) (Jf (JL (PW.pt (JcN (Jq JfF (Jo JE (pw 4) Jc) (J3 (Jb Jx (Jb Jx (pa1 Jx)))) (by with_unfolding_all rfl)) (JbB (Jq JaQ (Js Ja1 hr (Jb (pw 2) (pa1 (pw 4)))) Jx (Jv _))))) (Jd (JaL (Js Jh1 hr (Jb (pw 2) (pa1 (pw 4)))))
   (Jf (JaG hu (pw 3) (J8 Jdk (pw 4) YL (J2 (JcU (op:=.USub) Jaj Jc))) (pw 4) rfl))) Jr)))
   (Jd (JbX (i:=5) ["_law_key", "_law_last"] [none,some 3] JaI.nd rfl (Ds rfl) rfl Jk6 (Ja0 (YN (Jfz rfl) (by rfl) Z.z_list JaN (pa1 (pw 3)))) (fun _ _ _ _=>(pgn 0 Jk6.nd)) (fun _ _ _ _=>Jdp) (fun _ _ _ _=>(YH hu (pw 1) (pw 0))))
   (Jd (Jk 6 JaI.nd (Jo JI (J3 (Jb Jc (pa1 (Jj J6 (Jj Jw (Jj JF (Js JgY hr (Jb (pw 0) (pa1 Jc))) (Js JgY hr (Jb (pw 0) (pa1 Jc)))) Jc) Jc)))) (Jj Jw (Jn JM (by rfl) Z.z_len JaY (pa1 (pw 0))) Jc)))
   (Jd (Jk 6 JaI.nd (Jj JF (Jj Ye (pw 6) (Js Yw hr (pa1 (pw 1)))) (Jj Ye Jc (YH hu (pw 2) Jx))))
   (Jd (Jk 7 JaI.nd (J3 JR))
   (Jd (Jan AD rfl (Ja0 (Jn JiL (by rfl) Z.z_sorted Jd4 (pa1 (Js Jad hr (pa1 (pw 1)))))) (pgn 8 JaI.nd) (Jf (JaL (Jho B6 BW BQ Jaq (pw 7) (pa1 (JZ (Jb (pw 8) (pa1 (Jn (Jca rfl) (by rfl) Z.z_sum JeS (pa1 (Js JcS hr (Jb (pw 2) (Jb (pw 8) (pa1 (pw 6)))))))))))))))
   (Jd (Jk 9 JaI.nd (Js Jco hr (Jb (pw 5) (Jb (Js JgY hr (Jb (pw 0) (pa1 Jc))) (Jb (Js JgY hr (Jb (pw 0) (pa1 Jc))) (pa1 (pw 1)))))))
   (Jd (Jan AD rfl (Ja0 (J3 (Jb (pw 5) (pa1 (pw 9))))) (pgn 10 JaI.nd) (Jd (Jk 11 JaI.nd Y4)
   (Jd (Jan AD rfl (Ja0 (pw 10)) (pgn 4 JaI.nd) (Jf (JL (Jq JaQ (Jo JE (pw 4) Jc) Jx (Jv _)) (Jf (JaG hu (pw 11) (Jo JE (pw 4) Jc) JaE rfl)) Jr)))
   (Jd (Jan AD rfl (Ja0 (YN (Jfz rfl) (by rfl) Z.z_list JaN (pa1 (YH hu (pw 2) Jx)))) (pgn 12 JaI.nd) (Jf (JL (Jq JeZ (YH hu (YH hu (pw 2) Jx) (pw 12)) Jc (Jv _)) (Jf (JaG hu (pw 11) (Jo JE (pw 12) Jc) JaE rfl)) Jr)))
   (Jd (Jk 13 JaI.nd (YN Ji5 (by rfl) Z.z_list JaN (pa1 (pw 10))))
   (Jd (Jk 14 JaI.nd (Js JhQ hr (Jb (pw 13) (pa1 (pw 6)))))
   (Jd (JL (Jbe (JaP (Js JcM hr (Jb (pw 13) (pa1 (pw 10)))))) (Jf (Jp JaE)) Jr)
   (Jd (JL (PW.pt (JbO (Jbe (JaP (Jn YF (by rfl) Z.z_isinstance JA (Jb (pw 14) (Jb (Yi (v:=.ty "list") rfl Z.z_list JaN rfl) JR))))) (JaW (Jq Jdx (Jn JM (by rfl) Z.z_len JaY (pa1 (pw 14))) (Jn JnR (by rfl) Z.z_len JaY (pa1 (pw 11))) (Jv _))))) (Jf (Jp JaE)) Jr)
   (Jd (JbX (i:=15) ["_law_row", "_law_names"] [none,some 11] JaI.nd rfl (Ds rfl) rfl Jkj (Ja0 (pw 7)) (fun _ _ _ _=>(pgn 0 Jkj.nd)) (fun _ _ _ _=>(Jl6 (Jai (Jsu hu (Jo (show IxR _ (JqD K) from JE) (pw 0) Jc) (pw 1))))) (fun _ _ _ _=>(pw 0)))
   (Jf (Jan AD rfl (JbU rfl Z.z_range (pa1 (Jn JM (by rfl) Z.z_len JaY (pa1 (pw 15))))) (pgn 16 JaI.nd) (Jd (JL (PW.pt (JbO (Jbe (JaP (Jn YF (by rfl) Z.z_isinstance JA (Jb (Jo JI (pw 14) (pw 16)) (Jb (Yi (v:=.ty "tuple") rfl Z.z_tuple Jci rfl) JR))))) (JaW (Jq Jdx (Jn JM (by rfl) Z.z_len JaY (pa1 (Jo JI (pw 14) (pw 16)))) Jc (Jv _))))) (Jf (Jp JaE)) Jr)
   (Jd (JL (PW.pt (JbO (Jbe (JaP (Js JfB hr (Jb (J8 Jdk (Jo JI (pw 14) (pw 16)) YL (J2 Jc)) (pa1 (Jo JI (pw 15) (pw 16))))))) (JaW (Jbe (JaP (Js JbY hr (pa1 (Jo JE (Jo JI (pw 14) (pw 16)) Jc)))))))) (Jf (Jp JaE)) Jr)
   (Jf (JL (PW.pt (JbO (Jq JbW (Jo JE (Jo JI (pw 14) (pw 16)) Jc) Jc (Jv _)) (JaW (PW.pt (JcN (Jq (JrL hu6) (pw 10) (pw 5) (Jv _)) (JbB (Jq Jdx (Jo JE (Jo JI (pw 14) (pw 16)) Jc) Jc (Jv _)))))))) (Jf (Jp JaE)) Jr)))))))))))))))
   (Jf (Jp JaE))))))))))))),fun _ nz=>?_⟩
  refine⟨a,_,30,100,rfl,hS,by rw[A2];exact hlen,a,_,rfl,hS,fun p hp=>?_⟩;rw[show Je9 (ns.map V.int) (some 2) (some (2+30))=((ns.drop 2).take 30).map V.int from JuM ns 2 30];generalize hcs:(ns.drop 2).take 30=cs
  have hcl:cs.length<=30:=by rw[<- hcs,Ao];omega
  have q1:=Jgu (o:=HO.lst (cs.map V.int)) hp;generalize upd H p (HO.lst (cs.map V.int))=H1 at q1 ⊢;obtain⟨u1,q1⟩:=q1;refine nz fun _ nz=>⟨p,cs,rfl,SqL.of q1,fun st L H2 u2 fr law0=>?_⟩;refine nz fun _ nz=>fun ld hld=>?_;have u3:=Je (o:=HO.dT []) hld;have q3:upd H2 ld (.dT []) ld=some (.dT []):=Ja;have nld:ld∉st::L.all:=fun m=>law0.there m hld;have law3:=law0.same u3;generalize upd H2 ld (.dT [])=H3 at u3 q3 law3 ⊢;have qp3:=u3 _ _ (u2 _ _ q1);refine nz fun _ nz=>⟨p,cs,rfl,SqL.of qp3,by omega,fun wl us ds H4 u4 nwl W=>?_⟩
  have hul:us.length=ds.length:=by rw[W.rep.length,A2]
  have hdn:ds.length<=30:=by rw[W.len];exact hcl
  have hwl:=W.at_;have hrp:=W.rep;have hdok:∀d∈ds,Jal d/\Jnc cs d:=W.ok;clear W;have law4:=law3.same u4;have q4:=u4 _ _ q3;have s4:JV H H4:=((u1.trans u2).trans u3).trans u4
  have nwA:wl∉L.all:=fun m=>by
   have:=law3.there (.tail _ m);exact this nwl
  have nwd:wl≠ld:=fun z=>by rw[z,q3]at nwl;cases nwl
  refine⟨wl,rfl,⟨_,SqL.of hwl⟩,?_⟩
  refine JbM (K:=K) (xs:=us) (fun i σ H'=>∃(kvs:List (List Key×V)) (v4:Option V),σ=[some (.ref a),some (.ref p),some (.ref st),some (.ref ld),v4,none,none,none,none,none,none,none,none,none,none,none,none]/\
    (∀c o,H4 c=some o->c∉L.all->c≠ld->H' c=some o)/\YY H4 H'/\Law H' st L (JD cs) (JO cs) (JiG (JO cs) Bk.new ((ds.take i).filter tg)) (3*i)/\H' ld=some (.dT kvs)/\kvs.length<=i/\BV (Jbj H') kvs (((ds.take i).filter tg).foldl JdE []))
   ⟨[],none,rfl,fun _ _ z _ _=>z,fun _ _ z=>z,law4,q4,A6 _,.nil⟩ (fun _ _ _ _ hz=>by obtain⟨_,_,_,kp,_⟩:=hz;exact SqL.of (kp _ _ hwl nwA nwd)) ?_ ?_
  .rintro i v σ H' hv ⟨kvs,v4,rfl,kp,sT,hL,hk,hkl,pr⟩;have hi:i<ds.length:=hul ▸ (A7.mp hv).1;obtain⟨d,hd⟩:∃d,ds[i]?=some d:=⟨ds[i],A1 hi⟩
   have htk:ds.take (i+1)=ds.take i++[d]:=by rw[Ap,hd];rfl
   have hdr:Rep H' (YR d) v:=Rep.sameT sT (Jaf d) (hrp.get i v _ hv (by rw[Ax,hd];rfl));have dok:=(hdok d (Au hd)).1;obtain⟨b,r,rfl,ht⟩:=Jh5 hdr
   have hskip:∀H2,JV H' H2->tg d=false->∃(kvs:List (List Key×V)) (v4:Option V),[some (V.ref a),some (.ref p),some (.ref st),some (.ref ld),some (.ref b),none,none,none,none,none,none,none,none,none,none,none,none]=[some (V.ref a),some (.ref p),some (.ref st),some (.ref ld),v4,none,none,none,none,none,none,none,none,none,none,none,none]/\
    (∀c o,H4 c=some o->c∉L.all->c≠ld->H2 c=some o)/\YY H4 H2/\Law H2 st L (JD cs) (JO cs) (JiG (JO cs) Bk.new ((ds.take (i+1)).filter tg)) (3*(i+1))/\H2 ld=some (.dT kvs)/\kvs.length<=i+1/\BV (Jbj H2) kvs (((ds.take (i+1)).filter tg).foldl JdE []):=fun H2 w2 c=>by
    have e:(ds.take (i+1)).filter tg=(ds.take i).filter tg:=by
     rw[htk,Bv,E4 (by rw[c];exact AW),Gy,Be]
    rw[e];exact⟨kvs,_,rfl,fun c o z n1 n2=>w2 _ _ (kp c o z n1 n2),sT.trans (YY.of w2),(hL.same w2).le (by omega),w2 _ _ hk,by omega,JN (fun _ _ z=>Jbj.sameT (YY.of w2) z) pr⟩
   refine⟨b,_,0,_,rfl,rfl,SqT.of ht,Jl (j:=0) rfl,zs3,fun ql hql=>?_⟩;have w4:=Je (o:=HO.lst [V.str "hours",V.str "rate",V.str "dues"]) hql;have q5:upd H' ql (.lst [V.str "hours",V.str "rate",V.str "dues"]) ql=some (.lst [V.str "hours",V.str "rate",V.str "dues"]):=Ja
   try dsimp only[rJ0,rJ]
   generalize upd H' ql (.lst [V.str "hours",V.str "rate",V.str "dues"])=H5 at w4 q5 ⊢;refine⟨ql,_,rfl,.inl (SqL.of q5),rfl,rfl,_,rfl,?_⟩;rw[if_neg AW,Jo2];refine JY (fun h=>?_) (fun h=>?_)
   .have hkd:J7 d≠none:=fun z=>by rw[z]at h;exact absurd h AW
    have hL5:=hL.same w4;refine⟨st,L,_,_,_,d,_,rfl,hL5.sta,hL5.bk,Rep.same w4 hdr,dok,fun H6 w6=>?_⟩;refine⟨rfl,_,rfl,?_⟩;refine JY (fun h2=>fun _ ny=>?_) (fun h2=>?_)
    .have ct:tg d=true:=(Jp9 hkd).mp (Jei h2);have hL6:=hL5.same w6;have hld:ld∉L.all:=fun m=>nld (.tail _ m);have hdr6:=Rep.same w6 (Rep.same w4 hdr);refine⟨st,L,_,_,_,_,d,_,rfl,hL6,by omega,hdr6,dok,hkd,fun r7 H7 kp7 L7 rx=>ny ?_⟩;have S7:=hL6.sameS kp7;have hdr7:=Rep.sameS S7 hdr6;obtain⟨xs,hx,ecut,ncut⟩:=JqR hkd hdr7;refine⟨b,xs,rfl,SqT.of hx,ncut,fun t ht7=>?_⟩;rw[ecut];have q8:=Jgu (o:=HO.tup ((Jg8 d).map kV)) ht7;generalize upd H7 t (.tup ((Jg8 d).map kV))=H8 at q8 ⊢;obtain⟨w8,q8⟩:=q8;have hk8:=w8 _ _ (kp7 ld _ (w6 _ _ (w4 _ _ hk)) hld);refine⟨ld,_,rfl,Jgy.t (k:=Jg8 d) hk8 q8 (Jz (by omega)),?_⟩
     have e:(ds.take (i+1)).filter tg=(ds.take i).filter tg++[d]:=by
      rw[htk,Bv,E3 ct,Gy]
     have sx:YY H8 (upd H8 ld (.dT (Jag kvs (Jg8 d) (.ref b)))):=fun c xs z=>(Jg (Y1 z hk8 fun y=>nomatch y)).trans z;have s48:YY H' H8:=((YY.of w4).trans (YY.of w6)).trans (YY.trans S7.1 (YY.of w8));have pl:=JbD kvs (Jg8 d) (V.ref b);rw[e,CA,JmT];refine⟨_,_,rfl,fun c o z n1 n2=>?_,(sT.trans s48).trans sx,(JuL (L7.same w8) hk8 nld).le (by omega),Ja,by omega,?_⟩
     .rw[Jg n2];exact w8 _ _ (kp7 c o (w6 _ _ (w4 _ _ (kp c o z n1 n2))) n1)
     .exact JpD (JN (fun _ _ z=>Jbj.sameT (s48.trans sx) z) pr) (JeJ (fun x hx=>(JfD (B5.mp hx).2).2) fun _ z=>nomatch z) hkd (Rep.sameT sx (Jaf d) (Rep.same w8 hdr7))
    .refine hskip H6 (w4.trans w6) ?_
     cases ct:tg d with
     | false=>rfl
     | true=>exact absurd (by rw[(Jp9 (B:=JiG (JO cs) Bk.new ((ds.take i).filter tg)) hkd).mpr ct];exact Jjf) h2
   .refine hskip H5 w4 ?_
    cases ct:tg d with
    | false=>rfl
    | true=>
     have:=(JfD ct).2
     cases kd:J7 d with
     | none=>exact absurd kd this
     | some x=>rw[kd]at h;exact absurd rfl h
  rintro σ H5 ⟨kvs,v4,rfl,kp,sT,hL,hk,hkl,pr⟩;rw[hul,B3]at hL pr;have htel:∀d∈ds.filter tg,J7 d≠none:=fun d hd=>(JfD (B5.mp hd).2).2;obtain⟨hnd,hlf⟩:=JgA (f:=fun _=>none) (D:=ds.filter tg) (L:=[]) BZ htel;have hholds:Holds (JiG (JO cs) Bk.new (ds.filter tg)) (Jbi (fun _=>none) (ds.filter tg)):=Holds.all (ms:=JO cs) Holds.new fun d hd=>(JfD (B5.mp hd).2).1
  have hDt:∀e∈(ds.filter tg).foldl JdE [],J7 e≠none:=JeJ htel fun _ z=>nomatch z
  have hDo:∀e∈(ds.filter tg).foldl JdE [],Jal e/\Jnc cs e/\JiS e:=fun e he=>by
   rcases JkY he with he|he
   .obtain⟨h1,h2⟩:=B5.mp he;exact⟨(hdok e h1).1,(hdok e h1).2,(JfD h2).1⟩
   .cases he
  have hDl:((ds.filter tg).foldl JdE []).length<=30:=by
   have a:=Jk4 (D:=ds.filter tg) (L:=[]);have b:=BK tg ds;simp only[CY]at a;omega
  have hkn:=JmW pr hDt hnd;have hrd:=Jkp pr;have hlen5:kvs.length=((ds.filter tg).foldl JdE []).length:=pr.length;rw[show Jbi (Jbi (fun _=>none) []) (ds.filter tg)=Jbi (fun _=>none) (ds.filter tg) from rfl]at hlf;rw[<- hlf]at hholds;generalize JiG (JO cs) Bk.new (ds.filter tg)=B at hL hholds;generalize(ds.filter tg).foldl JdE []=D at hDt hDo hDl hnd hlf pr hrd hlen5 hholds
  have npA:p∉L.all:=fun m=>by have:=fr p (.tail _ m);rw[q1]at this;cases this
  have npd:p≠ld:=fun z=>by rw[z,q3]at qp3;cases qp3
  have q5:H5 p=some (.lst (cs.map V.int)):=kp _ _ (u4 _ _ qp3) npA npd
  have hS5:SqL K H5 a (ns.map V.int):=by
   have keep:∀o,H a=some o->H5 a=some o:=fun o e=>kp a o (s4 _ _ e) (fun m=>by have:=fr a (.tail _ m);rw[u1 _ _ e]at this;cases this) (fun z=>by have:=u2 _ _ (u1 _ _ e);rw[z,hld]at this;cases this)
   rcases hS with(h|⟨o,h⟩)|h
   .exact .inl (.inl (keep _ h))
   .exact .inl (.inr ⟨o,keep _ h⟩)
   .exact .inr h
  clear kp sT hdok hrp hwl law4 q4 law3 q3 hld u4 nwl nwA nwd;refine nz fun _ nz=>⟨ld,kvs,rfl,hk,fun kl ts nkl pts=>?_⟩;have q6:=Jgu (o:=HO.lst (ts.map V.ref)) nkl;generalize upd H5 kl (.lst (ts.map V.ref))=H6 at q6 ⊢;obtain⟨w6,q6⟩:=q6;have htl:=pts.length;refine⟨kl,rfl,⟨_,SqL.of q6⟩,fun acc hacc=>?_⟩
  refine JcI (K:=K) (xs:=ts.map V.ref) (fun i ys σ' H'=>∃(v0:Option V),σ'=[v0,some (.ref ld)]/\JV H6 H'/\H' acc=some (.lst ys)/\ys=(kvs.take i).map (·.2))
   ⟨_,rfl,Je hacc,Ja,rfl⟩ (fun _ _ _ _ hz=>by obtain⟨_,_,s,_⟩:=hz;exact SqL.of (s _ _ q6)) ?_ ?_
  .rintro i x ys σ' H' hx ⟨v0,rfl,s7,hac,rfl⟩;rw[Ax]at hx;obtain⟨t,ht,rfl⟩:=Ak.mp hx
   have hlt:i<kvs.length:=by have:=(A7.mp ht).1;omega
   have hki:kvs[i]?=some kvs[i]:=A1 hlt;have htt:=(w6.trans s7) _ _ (JX pts i _ _ hki ht);have hv:Jak kvs kvs[i].1=some kvs[i].2:=Jne hkn (B8 hlt);refine⟨Jz (by rw[A2,Ao];omega),?_⟩;dsimp only[Jcz,JfX];rw[if_pos rfl];refine⟨ld,kvs[i].2,rfl,by rw[<- hv];exact JcC.t ((w6.trans s7) _ _ hk) htt,hac,_,rfl,JQ s7 hacc,Ja,?_⟩;rw[Ap,hki,AJ];rfl
  rintro ys σ' H7 ⟨v0,rfl,s7,hac,rfl⟩;rw[A2,<- htl,B3]at hac;have s57:=w6.trans s7;have hrd7:=hrd.same s57;have hL7:=hL.same s57;have q7:=s57 _ _ q5;have hS7:=s57.seq hS5
  have hvl:(kvs.map (·.2)).length=D.length:=by rw[A2];exact hlen5
  generalize kvs.map (·.2)=dvs at hac hrd7 hvl;clear s57 w6 q6 hk hkn pts htl pr hrd hkl hlen5 nkl hL q5 hS5 s7 hacc;refine nz fun _ nz=>⟨a,ns,0,rfl,hS7,CZ 0,fun x0=>⟨a,ns,1,rfl,hS7,by decide,fun x1=>⟨(by show(0:Int)<16;decide),zs2,fun wl2 hwl2=>?_⟩⟩⟩;have w8:=Je (o:=HO.lst [V.int 12,V.int ((x0+x1)%16-3)]) hwl2;have q8:upd H7 wl2 (.lst [V.int 12,V.int ((x0+x1)%16-3)]) wl2=some (.lst [V.int 12,V.int ((x0+x1)%16-3)]):=Ja
  try dsimp only[rJ0,rJ]
  generalize upd H7 wl2 (.lst [V.int 12,V.int ((x0+x1)%16-3)])=H8 at w8 q8 ⊢
  obtain⟨wk0,hat,hb1,hb2⟩:∃wk0:Int,atI [V.int 12,V.int ((x0+x1)%16-3)] (((ns.map V.int).length:Int)%2)=some (.int wk0)/\-3<=wk0/\wk0<=12:=by
   have m2:((ns.map V.int).length:Int)%2=0\/((ns.map V.int).length:Int)%2=1:=by omega
   rcases m2 with h|h<;>rw[h]
   .exact⟨12,rfl,by decide,by decide⟩
   .exact⟨_,rfl,by omega,by omega⟩
  refine⟨a,_,rfl,.inl (w8.seq hS7),(by show(0:Int)<2;decide),wl2,_,_,.int wk0,rfl,rfl,SqL.of q8,hat,?_⟩;have hap:=JhD cs;refine nz fun _ nz=>⟨p,cs,rfl,SqL.of (w8 _ _ q7),fun H9 u9=>?_⟩;have s79:=w8.trans u9;have hL9:=hL7.same s79;have q9:=s79 _ _ q7;have hS9:=s79.seq hS7;have hac9:=s79 _ _ hac;have hrd9:=hrd7.same s79;obtain⟨kv0,e0,_,_,_,_,_,_,eb,_⟩:=hL9.sta.kvs;refine⟨Yo (by omega) (by omega),st,.int (JD cs),rfl,by rw[<- eb];exact JcC.k (k:=Av "base") e0,Yo (by decide) (by decide),?_⟩
  try dsimp only[rJ0,rJ]
  generalize wk0*Yh cs+4*JD cs=wk;clear s79 hat hb1 hb2 q8 w8 hwl2 u9 hL7 q7 hS7 hac hrd7 e0 eb;refine nz fun _ nz=>⟨AA _,fun du hdu=>?_⟩;have q10:=Jgu (o:=HO.lst []) hdu;generalize upd H9 du (.lst [])=H10 at q10 ⊢;obtain⟨w10,q10⟩:=q10;refine nz fun _ nz=>⟨p,cs,rfl,SqL.of (w10 _ _ q9),fun pl H11 u11 npl hpl=>⟨pl,JJ cs,rfl,SqL.of hpl,by obtain⟨_,_,_,e⟩:=JhC cs;rw[e];show 3<64;decide,fun sl rs hsl pm so=>?_⟩⟩;have q12:=Jgu (o:=HO.lst (rs.map V.str)) hsl;generalize upd H11 sl (.lst (rs.map V.str))=H12 at q12 ⊢;obtain⟨w12,q12⟩:=q12;have hd12:=w12 _ _ (u11 _ _ q10);have s12:=(w10.trans u11).trans w12
  have nsd:sl≠du:=fun z=>by rw[z,u11 _ _ q10]at hsl;cases hsl
  have hrl:rs.length=3:=by rw[pm.length_eq];obtain⟨_,_,_,e⟩:=JhC cs;rw[e];rfl
  refine⟨sl,rfl,⟨_,SqL.of q12⟩,?_⟩
  refine JbM (K:=K) (xs:=rs.map V.str) (fun i σ H'=>∃(ys:List V)(v8:Option V),σ=[some (.ref a),some (.ref p),some (.ref st),some (.ref ld),v4,some (.ref acc),some (.int wk),some (.ref du),v8,none,none,none,none,none,none,none,none]/\JV H9 H'/\H' sl=some (.lst (rs.map V.str))/\H' du=some (.lst ys)/\
    Yv H' ((rs.take i).map fun who=>Dt.tup [.str who,.int (rightS (JO cs) B who wk)]) ys)
   ⟨[],_,rfl,s12,q12,hd12,rfl⟩ (fun _ _ _ _ hz=>by obtain⟨_,_,_,_,e,_⟩:=hz;exact SqL.of e) ?_ ?_
  .rintro i x σ H' hx ⟨ys,v8,rfl,s13,hsl13,hdu13,rp13⟩;rw[Ax]at hx;obtain⟨who,hw,rfl⟩:=Ak.mp hx;have hi:i<rs.length:=(A7.mp hw).1
   have hyl:ys.length<=3:=by rw[rp13.length,A2,Ao];omega
   have hL13:=hL9.same s13;refine⟨.inl ⟨rfl,_,SqL.of hdu13⟩,st,L,_,_,B,who,wk,rfl,hL13.sta,hL13.bk,hL13.ok,hL13.few,fun nl H14 u14 nnl hnl=>?_⟩;refine⟨nl,(JO cs).map fun m=>netS B who m wk,rfl,SqL.of (by rw[B2];exact hnl),zs2,fun t ht=>?_⟩;have w15:=Je (o:=HO.tup [V.str who,V.int (rightS (JO cs) B who wk)]) ht;have q15:upd H14 t (.tup [V.str who,V.int (rightS (JO cs) B who wk)]) t=some (.tup [V.str who,V.int (rightS (JO cs) B who wk)]):=Ja;have u15:=u14.trans w15;have hdu15:=u15 _ _ hdu13;refine⟨du,ys,_,rfl,rfl,hdu15,Jz (by omega),?_⟩;have sx:YY (upd H14 t (.tup [V.str who,V.int (rightS (JO cs) B who wk)])) (upd (upd H14 t (.tup [V.str who,V.int (rightS (JO cs) B who wk)])) du (.lst (ys++[.ref t]))):=YY.lst hdu15;refine⟨ys++[.ref t],_,rfl,JQ (s13.trans u15) hdu,by rw[Jg nsd];exact u15 _ _ hsl13,Ja,?_⟩;rw[Ap,hw,AJ];exact Yv.snoc (Yv.sameT sx (Jba (fun _=>rfl) _) (rp13.same u15)) (Rep.sameT sx rfl ⟨t,_,rfl,q15,_,_,rfl,rfl,_,_,rfl,rfl,rfl⟩)
  rintro σ H13 ⟨dus,v8,rfl,s13,-,hdu13,rp13⟩;rw[A2,B3]at rp13;have hL13:=hL9.same s13;have q13:=s13 _ _ q9;have hS13:=s13.seq hS9;have hac13:=s13 _ _ hac9;have hrd13:=hrd9.same s13;clear hL9 q9 hS9 hac9 hrd9 w10 q10 u11 npl hpl hsl w12 q12 hd12 s12 nsd s13;refine nz fun _ nz=>⟨a,ns,0,rfl,hS13,CZ 0,fun y0=>⟨a,ns,1,rfl,hS13,by decide,fun y1=>⟨acc,p,dvs,D,y0,y1,cs,rfl,hac13,hrd13,hDt,hDl,SqL.of q13,fun ol ovs ah rows H14 u14 nol hol rpo pmo hah hahl hahh=>?_⟩⟩⟩;have way1:=JoW hholds hDt hDo hDl;have way2:=Joj hholds hDt hDo hDl hnd pmo hah hahl hahh;have hL14:=hL13.same u14;have hac14:=u14 _ _ hac13;have hrd14:=hrd13.same u14;have hdu14:=u14 _ _ hdu13;have rp14:=rp13.same u14;generalize ah++rows=OE at rpo way2;clear hL13 hac13 hrd13 hdu13 rp13 q13 hS13 u14 nol hah hahl hahh pmo hholds hnd hlf;refine nz fun _ nz=>⟨zs2,fun bl hbl=>?_⟩;have q15:=Jgu (o:=HO.lst [V.ref acc,V.ref ol]) hbl;generalize upd H14 bl (.lst [V.ref acc,V.ref ol])=H15 at q15 ⊢;obtain⟨w15,q15⟩:=q15;have hL15:=hL14.same w15;have hac15:=w15 _ _ hac14;have hrd15:=hrd14.same w15;have hdu15:=w15 _ _ hdu14;have rp15:=rp14.same w15;have hol15:=w15 _ _ hol;have rpo15:=rpo.same w15;clear hL14 hac14 hrd14 hdu14 rp14 hol rpo w15 hbl;refine⟨bl,rfl,⟨_,SqL.of q15⟩,?_⟩
  refine JbM (K:=K) (xs:=[V.ref acc,V.ref ol]) (fun i σ H'=>∃v4 v8 v10 v11 v12 v13 v14 v15 v16:Option V,σ=[some (.ref a),some (.ref p),some (.ref st),some (.ref ld),v4,some (.ref acc),some (.int wk),some (.ref du),v8,some (.ref ol),v10,v11,v12,v13,v14,v15,v16]/\JV H15 H')
   ⟨_,_,_,_,_,_,_,_,_,rfl,fun _ _ z=>z⟩ (fun _ _ _ _ hz=>by obtain⟨_,_,_,_,_,_,_,_,_,_,s⟩:=hz;exact SqL.of (s _ _ q15)) ?_ ?_
  .rintro i x σ H16 hx ⟨v4,v8,v10,v11,v12,v13,v14,v15,v16,rfl,s16⟩
   obtain⟨el,evs,Es,rfl,hel,hre,way⟩:∃(el:Addr)(evs:List V)(Es:List JU),x=.ref el/\H15 el=some (.lst evs)/\Yv H15 (Es.map YR) evs/\Way cs B D Es:=by
    have m:=Au hx
    rcases Aq.mp m with z|m
    .exact⟨acc,dvs,D,z,hac15,hrd15,way1⟩
    .exact⟨ol,ovs,OE,A5.mp m,hol15,rpo15,way2⟩
   have hevl:evs.length=Es.length:=by rw[hre.length,A2]
   refine fun _ ny=>fun nd hnd'=>?_;have w17:=Je (o:=HO.dK []) hnd';have q17:upd H16 nd (.dK []) nd=some (.dK []):=Ja;generalize upd H16 nd (.dK [])=H17 at w17 q17 ⊢;have s17:=s16.trans w17;refine ny fun _ ny=>⟨el,rfl,⟨_,SqL.of (s17 _ _ hel)⟩,?_⟩
   refine JbM (K:=K) (xs:=evs) (fun j σ H'=>∃(nkv:List (Key×V)) (nks:List Str) (v4:Option V),σ=[some (.ref a),some (.ref p),some (.ref st),some (.ref ld),v4,some (.ref acc),some (.int wk),some (.ref du),v8,some (.ref ol),some (.ref el),some (.ref nd),v12,v13,v14,v15,v16]/\JV H16 H'/\
     H' nd=some (.dK nkv)/\nkv.map (·.1)=nks.map Av/\nks.Nodup/\nks.length<=j/\∀w,w∈nks↔(Es.take j).any (Jgw w)=true)
    ⟨[],[],_,rfl,w17,q17,rfl,BZ,A6 _,fun w=>⟨(fun z=>nomatch z),fun z=>absurd z AW⟩⟩ (fun _ _ _ _ hz=>by obtain⟨_,_,_,_,s,_⟩:=hz;exact SqL.of ((s16.trans s) _ _ hel)) ?_ ?_
   .rintro j y σ H18 hy ⟨nkv,nks,v4,rfl,s18,hn18,ek,nn,nl,hm⟩;have hj:j<Es.length:=hevl ▸ (A7.mp hy).1;have hjl:=way.len
    have hkl2:nkv.length=nks.length:=by have:=congrArg Bn ek;rwa [A2,A2]at this
    obtain⟨d,hd⟩:∃d,Es[j]?=some d:=⟨Es[j],A1 hj⟩
    have htk:Es.take (j+1)=Es.take j++[d]:=by rw[Ap,hd];rfl
    have hdr:Rep H18 (YR d) y:=Rep.same (s16.trans s18) (hre.get j y _ hy (by rw[Ax,hd];rfl));obtain⟨b,r,rfl,ht⟩:=Jh5 hdr;refine⟨b,_,0,_,rfl,rfl,SqT.of ht,Jl (j:=0) rfl,rfl,_,rfl,?_⟩;refine JY (fun h=>?_) (fun h=>?_)
    .obtain⟨who,week,rfl⟩:=JiK (Jei h)
     next=>
      obtain⟨_,vs,e,ht2,_,_,rfl,rfl,_,_,rfl,rfl,_,_,rfl,rfl,rfl⟩:=hdr;cases e;refine⟨b,_,1,.str who,rfl,rfl,SqT.of ht2,Jl (j:=1) rfl,nd,_,rfl,Jgy.k (k:=Av who) hn18 (Jz (by omega)),?_⟩;obtain⟨nks',e1,n1,m1,l1⟩:=Jim ek nn who (.bl true);refine⟨_,nks',_,rfl,JQ s18 hnd',Ja,e1,n1,by omega,fun w=>?_⟩;rw[m1,hm,htk,Kt,El];refine or_congr KA ?_;show w=who↔(decide (who=w)||false)=true
      rw[FV,decide_eq_true_iff];exact⟨Eq.symm,Eq.symm⟩
    .refine⟨nkv,nks,_,rfl,s18,hn18,ek,nn,by omega,fun w=>?_⟩;rw[hm,htk,Kt,El];refine⟨.inl,fun z=>z.elim id fun z=>?_⟩;have z:(Jgw w d||false)=true:=z
     rw[FV]at z
     cases d with
     | payday who week=>exact absurd Jjf h
     | _=>exact absurd z AW
   rintro σ H18 ⟨nkv,nks,v4,rfl,s18,hn18,ek,nn,nl,hm⟩;rw[hevl,B3]at hm;have hL18:=hL15.same (s16.trans s18);obtain⟨kv0,e0,eh,_⟩:=hL18.sta.kvs;obtain⟨hvs,e1,hr1,hform⟩:=hL18.bk.hours;have hvn:=hL18.hl hvs e1
   have dgh:∀{Hx:Hp},JV H18 Hx->JcC Hx st (V.str "hours") (some (.ref L.hours)):=fun{Hx} s=>by rw[<- eh];exact JcC.k (k:=Av "hours") (s _ _ e0)
   have hread:∀w day,[(Av w:Key),Aj day]∈hvs.map (·.1)->Jak hvs [Av w,Aj day]=some (.int (B.hrs w day)):=fun w day m=>by
    cases v:Jak hvs [(Av w:Key),Aj day]with
    | none=>exact absurd m (Jkv v)
    | some x=>
     have:=hr1 w day;rw[v]at this;exact congrArg some this
   refine ny fun _ ny=>⟨st,.ref L.hours,rfl,dgh fun _ _ z=>z,L.hours,hvs,rfl,e1,fun kl2 ts2 nkl2 pts2=>?_⟩;have q19:=Jgu (o:=HO.lst (ts2.map V.ref)) nkl2;generalize upd H18 kl2 (.lst (ts2.map V.ref))=H19 at q19 ⊢;obtain⟨w19,q19⟩:=q19;have ht2l:=pts2.length
   have nkn:kl2≠nd:=fun z=>by rw[z,hn18]at nkl2;cases nkl2
   refine⟨kl2,rfl,⟨_,SqL.of q19⟩,?_⟩
   refine JbM (K:=K) (xs:=ts2.map V.ref) (fun j σ H'=>∃(nkv:List (Key×V)) (nks:List Str) (v12:Option V),σ=[some (.ref a),some (.ref p),some (.ref st),some (.ref ld),v4,some (.ref acc),some (.int wk),some (.ref du),v8,some (.ref ol),some (.ref el),some (.ref nd),v12,v13,v14,v15,v16]/\(∀c o,H19 c=some o->c≠nd->H' c=some o)/\JV H16 H'/\
     H' nd=some (.dK nkv)/\nkv.map (·.1)=nks.map Av/\nks.Nodup/\nks.length<=90+j/\∀w,w∈nks↔Es.any (Jgw w)=true\/∃day n,([Av w,Aj day],V.int n)∈hvs.take j/\0<B.hrs w day)
    ⟨nkv,nks,_,rfl,fun _ _ z _=>z,s18.trans w19,w19 _ _ hn18,ek,nn,by have:=way.len;omega,fun w=>(hm w).trans ⟨.inl,fun z=>z.elim id fun⟨_,_,z,_⟩ =>nomatch z⟩⟩ (fun _ _ _ _ hz=>by obtain⟨_,_,_,_,kp,_⟩:=hz;exact SqL.of (kp _ _ q19 nkn)) ?_ ?_
   .rintro j y σ H20 hy ⟨nkv,nks,v12,rfl,kp,s20,hn20,ek,nn,nl,hm⟩;rw[Ax]at hy;obtain⟨t,ht,rfl⟩:=Ak.mp hy
    have hj:j<hvs.length:=by have:=(A7.mp ht).1;omega
    have hkl2:nkv.length=nks.length:=by have:=congrArg Bn ek;rwa [A2,A2]at this
    obtain⟨w,day,n,ep⟩:=hform hvs[j] (B8 hj)
    have hpj:hvs[j]?=some ([Av w,Aj day],V.int n):=by rw[A1 hj,ep]
    have htk:hvs.take (j+1)=hvs.take j++[([Av w,Aj day],V.int n)]:=by rw[Ap,hpj];rfl
    have ntn:t≠nd:=fun z=>by have:=JX pts2 j _ _ hpj ht;rw[z,hn18]at this;cases this
    have htt:H20 t=some (.tup [V.str w,V.int day]):=kp _ _ (w19 _ _ (JX pts2 j _ _ hpj ht)) ntn
    have hmk:[(Av w:Key),Aj day]∈hvs.map (·.1):=by
     have:=B4 (f:=(·.1)) (B8 hj)
     rwa [ep]at this
    have nstn:st≠nd:=fun z=>by rw[z,hn18]at e0;exact(hL15.same s16).there (.head _) (z ▸ hnd')
    have nhn:L.hours≠nd:=fun z=>by rw[z,hn18]at e1;cases e1
    have e20:H20 L.hours=some (.dT hvs):=kp _ _ (w19 _ _ e1) nhn;refine⟨st,.ref L.hours,rfl,by rw[<- eh];exact JcC.k (k:=Av "hours") (kp _ _ (w19 _ _ e0) nstn),L.hours,.int (B.hrs w day),rfl,by rw[<- hread w day hmk];exact JcC.t e20 htt,_,rfl,?_⟩;refine JY (fun h=>?_) (fun h=>?_)
    .have h:0<B.hrs w day:=of_decide_eq_true h;refine⟨t,_,0,.str w,rfl,rfl,SqT.of htt,Jl (j:=0) rfl,nd,_,rfl,Jgy.k (k:=Av w) hn20 (Jz (by omega)),?_⟩;obtain⟨nks',e2,n2,m2,l2⟩:=Jim ek nn w (.bl true);refine⟨_,nks',_,rfl,fun c o z n=>by rw[Jg n];exact kp c o z n,JQ s20 hnd',Ja,e2,n2,by omega,fun x=>?_⟩;rw[m2,hm,htk];constructor
     .rintro((z|⟨d,m,z,z2⟩)|rfl)
      .exact .inl z
      .exact .inr ⟨d,m,Ba _ z,z2⟩
      .exact .inr ⟨day,n,Ah _ (.head _),h⟩
     .rintro(z|⟨d,m,z,z2⟩)
      .exact .inl (.inl z)
      .rcases Ae.mp z with z|z
       .exact .inl (.inr ⟨d,m,z,z2⟩)
       .have z:=A5.mp z
        injection z with z1 z3
        injection z1 with z4 z5
        exact .inr (Av.inj z4)
    .have h:¬0<B.hrs w day:=fun z=>h (decide_eq_true z);refine⟨nkv,nks,_,rfl,kp,s20,hn20,ek,nn,by omega,fun x=>(hm x).trans ?_⟩;rw[htk];refine or_congr KA ⟨fun⟨d,m,z,z2⟩ =>⟨d,m,Ba _ z,z2⟩,fun⟨d,m,z,z2⟩ =>?_⟩
     rcases Ae.mp z with z|z
     .exact⟨d,m,z,z2⟩
     .have z:=A5.mp z
      injection z with z1 z3
      injection z1 with z4 z5
      injection z5 with z6 z7
      rw[Av.inj z4,Aj.inj z6]at z2;exact absurd z2 h
   rintro σ H20 ⟨nkv,nks,v12,rfl,kp,s20,hn20,ek,nn,nl,hm⟩;rw[A2,<- ht2l,B3]at hm
   have hm:∀w,w∈nks↔Es.any (Jgw w)=true\/∃day,0<B.hrs w day:=fun w=>(hm w).trans (or_congr KA ⟨fun⟨d,_,_,z⟩ =>⟨d,z⟩,fun⟨d,z⟩ =>by
    have hne:[(Av w:Key),Aj d]∈hvs.map (·.1):=by
     cases v:Jak hvs [(Av w:Key),Aj d]with
     | none=>
      have:=hr1 w d;rw[v]at this
      injection this with this
      rw[<- this]at z;exact absurd z (by decide)
     | some x=>exact JmU v
    obtain⟨q,hq,eq⟩:=Ag.mp hne;obtain⟨w',d',n,ep⟩:=hform q hq;subst ep
    injection eq with z4 z5
    injection z5 with z6 z7
    rw[Av.inj z4,Aj.inj z6]at hq
    exact⟨d,n,hq,z⟩⟩)
   have s1620:JV H15 H20:=s16.trans s20;clear kp hform hr1 hread dgh pts2 ht2l q19 w19 nkl2 e0 e1 eh hvn hL18 nkn s18 hn18
   have hnl2:nkv.length=nks.length:=by have:=congrArg Bn ek;rwa [A2,A2]at this
   refine ny fun _ ny=>⟨el,evs,rfl,.inl (SqL.of (s1620 _ _ hel)),fun hl hhl=>?_⟩;have q21:=Jgu (o:=HO.lst evs) hhl;generalize upd H20 hl (.lst evs)=H21 at q21 ⊢;obtain⟨w21,q21⟩:=q21;have s21:=s1620.trans w21;have rp21:=hre.same s21
   have hk64:(JcB PB.new Es).keys.length<64:=by
    have:=JdF way.found.nd (m:=JJ cs) way.found.sub;obtain⟨_,_,_,e⟩:=JhC cs;rw[e]at this;exact BR this (by show 3<64;decide)
   refine ny fun _ ny=>⟨hl,Es,wk,rfl,⟨⟨hl,evs,rfl,q21,rp21⟩,by have:=way.len;omega,way.dok,way.few,way.of⟩,hk64,fun fl H22 rs' nfl u22 pm' so' non rf=>?_⟩;obtain⟨_,fs,e,hfl,rfs⟩:=rf;cases e;have s22:=s21.trans u22;have hdz:=Jlp way.dok;refine ny fun _ ny=>⟨.ref hl,.ref el,.lst (Es.map YR),rfl,⟨hl,evs,rfl,u22 _ _ q21,rp21.same u22⟩,⟨el,evs,rfl,s22 _ _ hel,hre.same s22⟩,by show 1+JbP (Es.map YR)<=100000;have:=way.len;omega,fun H23 u23=>⟨_,rfl,?_⟩⟩;refine Jdv ?_;have s23:=s22.trans u23;have hfl23:=u23 _ _ hfl;have rfs23:=rfs.same u23;have hn23:=u23 _ _ (u22 _ _ (w21 _ _ hn20));have hdu23:=s23 _ _ hdu15;have rp23:=rp15.same s23;have hel23:=s23 _ _ hel;have hre23:=hre.same s23;have hac23:=s23 _ _ hac15;have hrd23:=hrd15.same s23;have hhas:∀w,Jgv ((JcB PB.new Es).pn w)=true↔w∈nks:=fun w=>(way.found.has w).trans (hm w).symm
   have hkeys:∀w,Jgv ((JcB PB.new Es).pn w)=true->w∈(JcB PB.new Es).keys:=fun w h=>by
    by_cases c:w∈(JcB PB.new Es).keys
    .exact c
    .rw[non w c]at h;exact absurd h (by decide)
   have hnp:∀w∈nks,w∈JJ cs:=fun w hw=>way.found.sub w (hkeys w ((hhas w).mpr hw));have heq:=Jo8 (has:=fun w=>Jgv ((JcB PB.new Es).pn w)) (JiT cs) way.found.nd pm so pm' so' hkeys hnp hhas;have hlw:=Joo (JiT cs) nn pm hnp
   have hrows:Jpb (JcB PB.new Es) wk rs'=(rs.filter fun w=>decide (w∈nks)).map (JtM (JcB PB.new Es) wk):=by
    unfold Jpb;rw[heq]
   rw[hrows]at rfs23
   have hfsl:fs.length=nkv.length:=by rw[rfs23.length,A2,hlw,hnl2]
   refine ny fun _ ny=>⟨.ref fl, "list", "list",rfl,.lst hfl23,by decide,by decide,_,rfl,?_⟩;refine Jdv ?_;refine⟨fl,_,rfl,.inl (SqL.of hfl23),nd,nkv,rfl,hn23,rfl,_,rfl,?_⟩;refine Jfd (by rw[hfsl]) (ny fun _ ny=>?_);refine⟨du,rfl,⟨_,SqL.of hdu23⟩,fun acc2 hacc2=>?_⟩
   have hdul:dus.length=rs.length:=by rw[rp23.length,A2]
   refine JcI (K:=K) (xs:=dus) (fun i ys σ' H'=>∃(v0:Option V),σ'=[v0,some (.ref nd)]/\JV H23 H'/\H' acc2=some (.lst ys)/\ys.length<=i/\Yv H' (((rs.take i).filter fun w=>decide (w∈nks)).map fun who=>Dt.tup [.str who,.int (rightS (JO cs) B who wk)]) ys)
    ⟨_,rfl,Je hacc2,Ja,A6 _,rfl⟩ (fun _ _ _ _ hz=>by obtain⟨_,_,s,_⟩:=hz;exact SqL.of (s _ _ hdu23)) ?_ ?_
   .rintro i x ys σ' H24 hx ⟨v0,rfl,s24,hac24,hyl,rp24⟩;have hi:i<rs.length:=hdul ▸ (A7.mp hx).1;obtain⟨who,hw⟩:∃who,rs[i]?=some who:=⟨rs[i],A1 hi⟩;obtain⟨t,_,rfl,ht,_,_,rfl,rfl,_,_,rfl,rfl,rfl⟩:=Rep.same s24 (rp23.get i x _ hx (by rw[Ax,hw];rfl))
    have htk:rs.take (i+1)=rs.take i++[who]:=by rw[Ap,hw];rfl
    have hval:(Jak nkv (Av who)).isSome=decide (who∈nks):=by
     cases v:Jak nkv (Av who:Key)with
     | none=>
      have:=Jkv v;rw[ek]at this;exact(decide_eq_false fun z=>this (B4 z)).symm
     | some y=>
      have:=JmU v;rw[ek]at this;obtain⟨z,hz,e⟩:=Ag.mp this;exact(decide_eq_true (Av.inj e ▸ hz)).symm
    refine⟨Jz (by omega),?_⟩;dsimp only[Jcz];refine⟨t,_,0,.str who,rfl,rfl,SqT.of ht,Jl (j:=0) rfl,nd,_,rfl,JcC.k (k:=Av who) (s24 _ _ hn23),_,rfl,?_⟩;rw[hval]
    by_cases c:who∈nks
    .rw[if_pos (decide_eq_true c)];have sx:YY H24 (upd H24 acc2 (.lst (ys++[.ref t]))):=YY.lst hac24;refine⟨hac24,_,rfl,JQ s24 hacc2,Ja,by rw[AQ];show ys.length+1<=_;omega,?_⟩;rw[htk,Bv,AJ,show[who].filter (fun w=>decide (w∈nks))=[who] from E3 (p:=fun w=>decide (w∈nks)) (decide_eq_true c)];exact Yv.snoc (Yv.sameT sx (Jba (fun _=>rfl) _) rp24) ⟨t,_,rfl,sx _ _ ht,_,_,rfl,rfl,_,_,rfl,rfl,rfl⟩
    .rw[if_neg (by rw[decide_eq_false c];exact AW)];refine⟨_,rfl,s24,hac24,by omega,?_⟩;rw[htk,Bv,show[who].filter (fun w=>decide (w∈nks))=[] from E4 (p:=fun w=>decide (w∈nks)) (by rw[decide_eq_false c];exact AW),Be];exact rp24
   rintro wvs σ' H24 ⟨v0,rfl,s24,hac24,hyl,rp24⟩;rw[hdul,B3]at rp24;generalize hks:(rs.filter fun w=>decide (w∈nks))=ks at rp24 rfs23 hlw
   have hkp:∀w∈ks,w∈JJ cs:=fun w hw=>by
    rw[<- hks]at hw;exact pm.mem_iff.mp (B5.mp hw).1
   have hwl2:wvs.length=ks.length:=by rw[rp24.length,A2]
   have hfl2:fs.length=ks.length:=by rw[rfs23.length,A2]
   have hks3:ks.length<=3:=by rw[<- hks,<- hrl];exact BK _ _
   refine ny ⟨acc2,wvs,rfl,.inl (SqL.of hac24),_,rfl,(by omega),(by omega),?_⟩;refine JbV (lo:=0) (fun i σ H'=>∃v16:Option V,σ=[some (.ref a),some (.ref p),some (.ref st),some (.ref ld),v4,some (.ref acc),some (.int wk),some (.ref du),v8,some (.ref ol),some (.ref el),some (.ref nd),v12,some (.ref hl),some (.ref fl),some (.ref acc2),v16]/\JV H24 H') ⟨_,rfl,fun _ _ z=>z⟩ ?_ ?_
   .rintro i σ H25 hi ⟨v16',rfl,s25⟩
    have hi:i<ks.length:=by omega
    obtain⟨who,hw⟩:∃who,ks[i]?=some who:=⟨ks[i],A1 hi⟩;have hwho:=hkp who (Au hw);have s235:=s24.trans s25;obtain⟨fv,hfv⟩:∃v,fs[i]?=some v:=⟨fs[i],A1 (by omega)⟩;obtain⟨wv,hwv⟩:∃v,wvs[i]?=some v:=⟨wvs[i],A1 (by omega)⟩;obtain⟨t,_,rfl,ht,_,_,rfl,rfl,_,_,rfl,rfl,_,_,rfl,rfl,rfl⟩:=Rep.same s235 (rfs23.get i fv _ hfv (by rw[Ax,hw];rfl));have rw25:=Rep.same s25 (rp24.get i wv _ hwv (by rw[Ax,hw];rfl));have hfl25:=s235 _ _ hfl23;have hac25:=s25 _ _ hac24
    have hat:atI fs (0+(i:Int))=some (.ref t):=by rw[Cg];exact Jl hfv
    have hatw:atI wvs (0+(i:Int))=some wv:=by rw[Cg];exact Jl hwv
    have hright:=way.found.right who hwho wk;have hpaid:=way.found.paid who;refine fun _ nq=>⟨fl,fs,_,.ref t,rfl,rfl,SqL.of hfl25,hat,.ref t, "tuple", "tuple",rfl,.tup ht,by decide,by decide,_,rfl,?_⟩;refine Jdv ?_;refine⟨fl,fs,_,.ref t,rfl,rfl,SqL.of hfl25,hat,t,_,rfl,.inr (SqT.of ht),rfl,_,rfl,?_⟩;refine Jdv (nq fun _ nq=>?_);refine⟨fl,fs,_,.ref t,rfl,rfl,SqL.of hfl25,hat,t,_,rfl,SqT.of ht,fun h=>absurd (show HT.sIx 3 3 (some 2)=3 from h.2) (by decide),fun sp hsp=>?_⟩;rw[hright]at ht ⊢;have w26:=Je (o:=HO.tup [V.str who,V.int (rightS (JO cs) B who wk)]) hsp;refine⟨acc2,wvs,_,wv,rfl,rfl,SqL.of (w26 _ _ hac25),hatw,.ref sp,wv,.tup [.str who,.int (rightS (JO cs) B who wk)],rfl,⟨sp,[V.str who,V.int (rightS (JO cs) B who wk)],rfl,Ja,_,_,rfl,rfl,_,_,rfl,rfl,rfl⟩,Rep.same w26 rw25,JoV fun d hd=>?_,by show 1+(1+(1+0))<=100000;decide,fun H27 u27=>⟨_,rfl,?_⟩⟩
    .rcases Aq.mp hd with rfl|hd
     .exact JoF _
     .rw[A5.mp hd];exact JoX _
    refine Jdv ?_;have s257:=JV.trans w26 u27;have ht27:=s257 _ _ ht;have hfl27:=s257 _ _ hfl25;refine⟨fl,fs,_,.ref t,rfl,rfl,SqL.of hfl27,hat,t,_,2,.int ((JcB PB.new Es).pn who).paid,rfl,rfl,SqT.of ht27,Jl (j:=2) rfl,_,rfl,_,rfl,?_⟩;refine Jdv (nq ?_);refine⟨fl,fs,_,.ref t,rfl,rfl,SqL.of hfl27,hat,t,_,2,.int ((JcB PB.new Es).pn who).paid,rfl,rfl,SqT.of ht27,Jl (j:=2) rfl,_,rfl,?_⟩;refine JY (fun h=>absurd (of_decide_eq_true h) (by have:=hpaid.1;omega)) (fun _=>?_);have s2327:=s235.trans s257;refine⟨el,acc,evs,dvs,Es.map YR,D.map YR,rfl,rfl,SqL.of (s2327 _ _ hel23),SqL.of (s2327 _ _ hac23),hre23.same s2327,hrd23.same s2327,Jba Jaf Es,Jba Jaf D,JlT Es,fun c hc=>⟨_,rfl,?_⟩⟩
    cases c with
    | false=>
     refine Jdv ?_;exact Jdv ⟨_,rfl,s25.trans s257⟩
    | true=>
     refine Jfa ?_;have e0:=hpaid.2 (way.same (by have:=hc rfl;omega));refine⟨fl,fs,_,.ref t,rfl,rfl,SqL.of hfl27,hat,t,_,2,.int ((JcB PB.new Es).pn who).paid,rfl,rfl,SqT.of ht27,Jl (j:=2) rfl,rfl,_,rfl,?_⟩;exact Jfd (by rw[e0]) ⟨_,rfl,s25.trans s257⟩
   rintro σ H25 ⟨v16',rfl,s25⟩;exact⟨_,_,_,_,_,_,_,_,_,rfl,(s23.trans s24).trans s25⟩
  rintro σ H16 ⟨v4,v8,v10,v11,v12,v13,v14,v15,v16,rfl,s16⟩;exact nz (k H16)
end
abbrev An(K:WF)(x:Str)(v:A3):Prop:=BY K AB x=some (some v)
abbrev Fn(K:WF)(x:Str)(st:Stmt)(f:Addr):Prop:=An K x (.ref f)/\∃fd,Fun K x x st f fd
abbrev Mn(K:WF)(C:Addr)(x q:Str)(st:Stmt)(f:Addr):Prop:=(Bh K (.ref C) x=some (some (.ref f))/\Eo K (.ref f)=true)/\∃fd,Fun K x q st f fd
abbrev Xn(K:WF)(x:Str)(C:Addr):Prop:=An K x (.ref C)/\HW K C [.type "ValueError",.type "Exception",.type "BaseException",.type "object"] "ValueError.__new__" = true
abbrev Cn(K:WF)(x:Str)(C:Addr):Prop:=An K x (.ref C)/\(Di K C Str.empty=true/\E8 K C=true/\Fx K C=true/\Bh K (.ref C) "__setattr__" = some (some (.builtin "object.__setattr__")))/\Gq K C=true/\Cv K (.ref C)=true
abbrev En(K:WF)(C D:Addr)(b:Bool):Prop:=Cy K (.ref C) (.ref D)=some b
theorem cal{P:Ab}{w:At}{K:WF}{mg:MO}{h base:Heap}{k:Nat}{f:Addr}{fd:Aa}{ps:List Str}{sp:Sp}{x q:Str}{st:Stmt}(X:K.In h)(G:h.Ns AB mg)(a:An K x (.ref f))(F:Fun K x q st f fd)(o:YU P w K mg base CX0 k f fd ps sp)(b:Jdj K fd ps []):JK P w K mg base x ps sp k f fd:=⟨o,BB X G a,F.kp,b⟩
theorem Juq{P:Ab}{w:At}{K:WF}{mg:MO}{h base:Heap}{k:Nat}{f:Addr}{fd:Aa}{ps:List Str}{sp:Sp}{x q:Str}{st:Stmt}(X:K.In h)(G:h.Ns AB mg)(a:An K x (.ref f))(F:Fun K x q st f fd)(o:YU P w K mg base (CXr P w) k f fd ps sp)(b:Jdj K fd ps []):Jmp P w K mg base x ps sp k f fd:=⟨o,BB X G a,F.kp,b⟩
theorem met{P:Ab}{w:At}{K:WF}{mg:MO}{base:Heap}{CX:CXT}{C:Addr}{k:Nat}{f:Addr}{fd:Aa}{ps:List Str}{sp:Sp}{x q:Str}{st:Stmt}(a:Bh K (.ref C) x=some (some (.ref f))/\Eo K (.ref f)=true)(F:Fun K x q st f fd)(o:YU P w K mg base CX k f fd ps sp)(b:Jdj K fd ps []):Jbf P w K mg base CX C x ps sp k f fd:=⟨o,⟨a.1,a.2,F.kp⟩,b⟩
theorem all_mk{l:Gx}{w:At}{K:WF}{h:Heap}{mg:MO}{fa f1 f2 f3 f4 f5 f6 f7 f8 f9 f10 f11 f12 f13 f14 f15 f16 f17 f18 f19 f20 f21 f22 f23 f24 f25 f26 f27 f28 f29 f30 f31 f32 f33 f34 f35 f36 f37 f38 f39 f40 f41 f42 f43 f44 f45 f46 f47 f48 f49 f50 f51 f52 f53 f54 f55 f56 f57 f58 f59 f60 f61 f62 f63 CP CB CH CN CT:Addr}{gt0 gt1 gt2 gt3:Tok}(X:K.In h)(G:h.Ns AB mg)(hfa:mg "law" = some (.ref fa))
  (aCP:Cn K "Person" CP)
  (aCB:Cn K "Book" CB)
  (aCH:Xn K "NoHours" CH)
  (aCN:Xn K "NoTable" CN)
  (aCT:Xn K "TooEarly" CT)
  (eCHCH:En K CH CH true) (eCNCH:En K CN CH false) (eCTCH:En K CT CH false) (eCHCN:En K CH CN false) (eCNCN:En K CN CN true) (eCTCN:En K CT CN false) (eCHCT:En K CH CT false) (eCNCT:En K CN CT false) (eCTCT:En K CT CT true)
  (a1:Fn K "parts_of" Jdf f1)
  (a2:Fn K "worth" JeP f2)
  (a3:Fn K "relief_of" Jcf f3)
  (a4:Fn K "due_of" Jfg f4)
  (a5:Fn K "holding" Jb1 f5)
  (a6:Fn K "good_bands" JaB f6)
  (a7:Fn K "good_dues" Ja2 f7)
  (a8:Fn K "week_of" Jeh f8)
  (a9:Fn K "month_of" Jc9 f9)
  (a10:Fn K "pay_for" JdX f10)
  (a11:Fn K "net_for" JdV f11)
  (a12:Fn K "lines_between" JaH f12)
  (a13:Mn K CP "__init__" "Person.__init__" Jbq f13)
  (a14:Mn K CP "set_hours" "Person.set_hours" Y5 f14)
  (a15:Mn K CP "hours_by_week" "Person.hours_by_week" Yp f15)
  (a16:Mn K CP "week_pay" "Person.week_pay" Jae f16)
  (a17:Mn K CP "pays_by_month" "Person.pays_by_month" Yq f17)
  (a18:Mn K CP "nets_by_month" "Person.nets_by_month" Yt f18)
  (a19:Mn K CP "hold_payday" "Person.hold_payday" YG f19)
  (a20:Mn K CP "has_part" "Person.has_part" Yk f20)
  (a21:Mn K CB "__init__" "Book.__init__" Jcm f21)
  (a22:Mn K CB "person_of" "Book.person_of" Jau f22)
  (a23:Mn K CB "tell_hours" "Book.tell_hours" Jac f23)
  (a24:Mn K CB "tell_rate" "Book.tell_rate" Jas f24)
  (a25:Mn K CB "tell_dues" "Book.tell_dues" Jaw f25)
  (a26:Mn K CB "hold_payday_of" "Book.hold_payday_of" YB f26)
  (a27:Mn K CB "pay_of" "Book.pay_of" Jbn f27)
  (a28:Mn K CB "nets_of" "Book.nets_of" Ja8 f28)
  (a29:Mn K CB "net_of" "Book.net_of" JdY f29)
  (a30:Mn K CB "right_of" "Book.right_of" JaK f30)
  (a31:Mn K CB "paid_to" "Book.paid_to" Ja7 f31)
  (a32:Mn K CB "owing_to" "Book.owing_to" JcO f32)
  (a33:Mn K CB "names" "Book.names" JaD f33)
  (a34:Fn K "asked" Jno f34)
  (a35:Fn K "done" Jkr f35)
  (a36:Fn K "answer" Jfs f36)
  (a37:Fn K "rights" Jdh f37)
  (a38:Fn K "_law_unturned" JbL f38)
  (a39:Fn K "_law_room" Jfr f39)
  (a40:Fn K "_law_whole" Jd8 f40)
  (a41:Fn K "_law_at" Jky f41)
  (a42:Fn K "_law_alike" JdU f42)
  (a43:Fn K "_law_banded" Jbs f43)
  (a44:Fn K "_law_spoilt" Jc8 f44)
  (a45:Fn K "_law_people" Jc5 f45)
  (a46:Fn K "_law_so_far" Jda f46)
  (a47:Fn K "_law_first_month" JaF f47)
  (a48:Fn K "_law_penned" Jdg f48)
  (a49:Fn K "_law_written" Ja5 f49)
  (a50:Fn K "_law_value" JdO f50)
  (a51:Fn K "_law_owed" Jfi f51)
  (a52:Fn K "_law_can_be" Jbu f52)
  (a53:Fn K "_law_begun" JdR f53)
  (a54:Fn K "_law_holds" Jec f54)
  (a55:Fn K "_law_wages" JdN f55)
  (a56:Fn K "_law_net" Jh0 f56)
  (a57:Fn K "_law_all_nets" Jaz f57)
  (a58:Fn K "_law_refused" Jcr f58)
  (a59:Fn K "_law_paying" JgH f59)
  (a60:Fn K "_law_done" Jfu f60)
  (a61:Fn K "_law_wrongly" Jcs f61)
  (a62:Fn K "_law_other_way" Jbp f62)
  (a63:Fn K "law" JiN f63)
  (nCP0:Jar K CP "days") (nCP1:Jar K CP "paid") (nCP2:Jar K CP "last_week") (nCP3:Jar K CP "last_nets")
  (nCB0:Jar K CB "people") (nCB1:Jar K CB "rates") (nCB2:Jar K CB "dues")
  (gi0:An K "GREATEST_EACH_OF_DUES" (.int 100 gt0)) (gi1:An K "DAYS_OF_WEEK" (.int 7 gt1)) (gi2:An K "WEEKS_OF_MONTH" (.int 4 gt2)) (gi3:An K "HOURS_OF_DAY" (.int 24 gt3))
  (z1:BY K AB "len" = some none) (z2:BY K AB "isinstance" = some none) (z3:BY K AB "int" = some none) (z4:BY K AB "bool" = some none) (z5:BY K AB "list" = some none) (z6:BY K AB "tuple" = some none) (z7:BY K AB "range" = some none) (z8:BY K AB "str" = some none) (z9:BY K AB "sum" = some none) (z10:BY K AB "min" = some none) (z11:BY K AB "max" = some none) (z12:BY K AB "sorted" = some none) (z13:BY K AB "set" = some none) (z14:BY K AB "zip" = some none) (z15:BY K AB "all" = some none) (z16:BY K AB "any" = some none) :
  ∃fd:Aa,(∀(s:A9)(v:A3),Kj s fd ⟨[v],[]⟩ [("_law_script",v)])/\∀base:Heap,K.In base->base.Ns AB mg->YU l.prog w K mg base CX0 13 fa fd ["_law_script"] (Jpr K):=by
 obtain⟨a1,d1,F1⟩:=a1;obtain⟨a2,d2,F2⟩:=a2;obtain⟨a3,d3,F3⟩:=a3;obtain⟨a4,d4,F4⟩:=a4;obtain⟨a5,d5,F5⟩:=a5;obtain⟨a6,d6,F6⟩:=a6;obtain⟨a7,d7,F7⟩:=a7;obtain⟨a8,d8,F8⟩:=a8;obtain⟨a9,d9,F9⟩:=a9;obtain⟨a10,d10,F10⟩:=a10;obtain⟨a11,d11,F11⟩:=a11;obtain⟨a12,d12,F12⟩:=a12;obtain⟨a13,d13,F13⟩:=a13;obtain⟨a14,d14,F14⟩:=a14;obtain⟨a15,d15,F15⟩:=a15;obtain⟨a16,d16,F16⟩:=a16;obtain⟨a17,d17,F17⟩:=a17;obtain⟨a18,d18,F18⟩:=a18;obtain⟨a19,d19,F19⟩:=a19;obtain⟨a20,d20,F20⟩:=a20;obtain⟨a21,d21,F21⟩:=a21;obtain⟨a22,d22,F22⟩:=a22;obtain⟨a23,d23,F23⟩:=a23;obtain⟨a24,d24,F24⟩:=a24;obtain⟨a25,d25,F25⟩:=a25;obtain⟨a26,d26,F26⟩:=a26;obtain⟨a27,d27,F27⟩:=a27;obtain⟨a28,d28,F28⟩:=a28;obtain⟨a29,d29,F29⟩:=a29;obtain⟨a30,d30,F30⟩:=a30;obtain⟨a31,d31,F31⟩:=a31;obtain⟨a32,d32,F32⟩:=a32;obtain⟨a33,d33,F33⟩:=a33;obtain⟨a34,d34,F34⟩:=a34;obtain⟨a35,d35,F35⟩:=a35;obtain⟨a36,d36,F36⟩:=a36;obtain⟨a37,d37,F37⟩:=a37;obtain⟨a38,d38,F38⟩:=a38;obtain⟨a39,d39,F39⟩:=a39;obtain⟨a40,d40,F40⟩:=a40;obtain⟨a41,d41,F41⟩:=a41;obtain⟨a42,d42,F42⟩:=a42;obtain⟨a43,d43,F43⟩:=a43;obtain⟨a44,d44,F44⟩:=a44;obtain⟨a45,d45,F45⟩:=a45;obtain⟨a46,d46,F46⟩:=a46;obtain⟨a47,d47,F47⟩:=a47;obtain⟨a48,d48,F48⟩:=a48;obtain⟨a49,d49,F49⟩:=a49;obtain⟨a50,d50,F50⟩:=a50;obtain⟨a51,d51,F51⟩:=a51;obtain⟨a52,d52,F52⟩:=a52;obtain⟨a53,d53,F53⟩:=a53;obtain⟨a54,d54,F54⟩:=a54;obtain⟨a55,d55,F55⟩:=a55;obtain⟨a56,d56,F56⟩:=a56;obtain⟨a57,d57,F57⟩:=a57;obtain⟨a58,d58,F58⟩:=a58;obtain⟨a59,d59,F59⟩:=a59;obtain⟨a60,d60,F60⟩:=a60;obtain⟨a61,d61,F61⟩:=a61;obtain⟨a62,d62,F62⟩:=a62;obtain⟨a63,d63,F63⟩:=a63;have e:=hfa.symm.trans (BB X G a63);cases e;have Z:Zs mg:=⟨AS X G z1,AS X G z2,AS X G z3,AS X G z4,AS X G z5,AS X G z6,AS X G z7,AS X G z8,AS X G z9,AS X G z10,AS X G z11,AS X G z12,AS X G z13,AS X G z14,AS X G z15,AS X G z16⟩;have GI:Gs mg:=⟨⟨_,BB X G gi0⟩,⟨_,BB X G gi1⟩,⟨_,BB X G gi2⟩,⟨_,BB X G gi3⟩⟩;have T:Txt K mg CB CP f21 f13:=⟨⟨aCP.2.1.1,aCP.2.1.2.1,aCP.2.1.2.2.1,aCP.2.1.2.2.2⟩,⟨aCB.2.1.1,aCB.2.1.2.1,aCB.2.1.2.2.1,aCB.2.1.2.2.2⟩,⟨aCP.2.2.1,a13.1,a13.2,aCP.2.2.2⟩,⟨aCB.2.2.1,a21.1,a21.2,aCB.2.2.2⟩,BB X G aCP.1,BB X G aCB.1,nCP0,nCP1,nCP2,nCP3,nCB0,nCB1,nCB2⟩;refine⟨d63,?_,fun base bX bG=>?_⟩
 .obtain⟨_,_,_,_,_,_,_,_,_,rfl,_⟩:=F63.ex;exact fun s v=>.of_eq rfl
 have X_NoHours:=Exc.mk' (mg:=mg) bX bG aCH.1 aCH.2;have X_NoTable:=Exc.mk' (mg:=mg) bX bG aCN.1 aCN.2;have X_TooEarly:=Exc.mk' (mg:=mg) bX bG aCT.1 aCT.2;have Y_NoHours:Ys K mg "NoHours" CH CN CT:=⟨BB X G aCH.1,eCHCH,eCNCH,eCTCH⟩;have Y_NoTable:Ys K mg "NoTable" CN CH CT:=⟨BB X G aCN.1,eCNCN,eCHCN,eCTCN⟩;have Y_TooEarly:Ys K mg "TooEarly" CT CH CN:=⟨BB X G aCT.1,eCTCT,eCHCT,eCNCT⟩;have Jbo:=met (P:=l.prog) (w:=w) (mg:=mg) (base:=base) a13 F13 (Jgs F13 T) (F13.binds fun _ _ _ _ _ _ us hl=>by obtain⟨_,rfl⟩:=Jik hl;rfl);have Jm:=met (P:=l.prog) (w:=w) (mg:=mg) (base:=base) a22 F22 (Ji4 F22 T Jbo) (F22.binds fun _ _ _ _ _ _ us hl=>by obtain⟨_,_,rfl⟩:=Jgl hl;rfl);have Yy:=met (P:=l.prog) (w:=w) (mg:=mg) (base:=base) a14 F14 (JiF F14 T) (F14.binds fun _ _ _ _ _ _ us hl=>by obtain⟨_,_,_,rfl⟩:=Ji0 hl;rfl);have Jcb:=cal (P:=l.prog) (w:=w) (base:=base) X G a8 F8 (JlY F8 GI) (F8.binds fun _ _ _ _ _ _ us hl=>by obtain⟨_,rfl⟩:=Jik hl;rfl);have JB:=met (P:=l.prog) (w:=w) (mg:=mg) (base:=base) a15 F15 (Je4 F15 T Jcb) (F15.binds fun _ _ _ _ _ _ us hl=>by obtain⟨_,rfl⟩:=Jik hl;rfl);have Jce:=cal (P:=l.prog) (w:=w) (base:=base) X G a5 F5 (Jls F5 Z) (F5.binds fun _ _ _ _ _ _ us hl=>by obtain⟨_,_,rfl⟩:=Jgl hl;rfl);have JeM:=cal (P:=l.prog) (w:=w) (base:=base) X G a1 F1 (JpI F1 Z) (F1.binds fun _ _ _ _ _ _ us hl=>by obtain⟨_,_,rfl⟩:=Jgl hl;rfl);have JeG:=cal (P:=l.prog) (w:=w) (base:=base) X G a2 F2 (Jpe F2 Z JeM) (F2.binds fun _ _ _ _ _ _ us hl=>by obtain⟨_,_,rfl⟩:=Jgl hl;rfl);have Jb9:=cal (P:=l.prog) (w:=w) (base:=base) X G a10 F10 (JlG F10 Jce JeG) (F10.binds fun _ _ _ _ _ _ us hl=>by obtain⟨_,_,_,rfl⟩:=Ji0 hl;rfl);have YJ:=met (P:=l.prog) (w:=w) (mg:=mg) (base:=base) a16 F16 (Jjv F16 T JB Jb9) (F16.binds fun _ _ _ _ _ _ us hl=>by obtain⟨_,_,_,rfl⟩:=Ji0 hl;rfl);have JaM:=met (P:=l.prog) (w:=w) (mg:=mg) (base:=base) a27 F27 (JmQ F27 T Jm YJ) (F27.binds fun _ _ _ _ _ _ us hl=>by obtain⟨_,_,_,rfl⟩:=Ji0 hl;rfl);have YK:=met (P:=l.prog) (w:=w) (mg:=mg) (base:=base) a23 F23 (Jhc F23 GI T X_NoHours Jm Yy JaM Jcb) (F23.binds fun _ _ _ _ _ _ us hl=>by obtain⟨_,_,_,_,rfl⟩:=JsQ hl;rfl);have JaC:=cal (P:=l.prog) (w:=w) (base:=base) X G a6 F6 (JhR F6 Z) (F6.binds fun _ _ _ _ _ _ us hl=>by obtain⟨_,rfl⟩:=Jik hl;rfl);have YZ:=met (P:=l.prog) (w:=w) (mg:=mg) (base:=base) a24 F24 (JiO F24 T X_NoTable JaC) (F24.binds fun _ _ _ _ _ _ us hl=>by obtain⟨_,_,_,rfl⟩:=Ji0 hl;rfl);have JdB:=cal (P:=l.prog) (w:=w) (base:=base) X G a7 F7 (Jjg F7 Z GI JaC) (F7.binds fun _ _ _ _ _ _ us hl=>by obtain⟨_,rfl⟩:=Jik hl;rfl);have Y0:=met (P:=l.prog) (w:=w) (mg:=mg) (base:=base) a25 F25 (JiY F25 T X_NoTable JdB) (F25.binds fun _ _ _ _ _ _ us hl=>by obtain⟨_,_,_,rfl⟩:=Ji0 hl;rfl);have Jeu:=cal (P:=l.prog) (w:=w) (base:=base) X G a9 F9 (JjW F9 GI) (F9.binds fun _ _ _ _ _ _ us hl=>by obtain⟨_,rfl⟩:=Jik hl;rfl);have J5:=met (P:=l.prog) (w:=w) (mg:=mg) (base:=base) a17 F17 (Jfb F17 T JB Jb9 Jeu) (F17.binds fun _ _ _ _ _ _ us hl=>by obtain⟨_,_,_,rfl⟩:=Ji0 hl;rfl);have JdA:=cal (P:=l.prog) (w:=w) (base:=base) X G a3 F3 (Jnh F3 Z) (F3.binds fun _ _ _ _ _ _ us hl=>by obtain⟨_,_,_,rfl⟩:=Ji0 hl;rfl);have Jhl:=cal (P:=l.prog) (w:=w) (base:=base) X G a4 F4 (JsF F4 Z JeG JdA) (F4.binds fun _ _ _ _ _ _ us hl=>by obtain⟨_,_,rfl⟩:=Jgl hl;rfl);have JfV:=cal (P:=l.prog) (w:=w) (base:=base) X G a11 F11 (JlV F11 Jce Jhl) (F11.binds fun _ _ _ _ _ _ us hl=>by obtain⟨_,_,_,rfl⟩:=Ji0 hl;rfl);have JC:=met (P:=l.prog) (w:=w) (mg:=mg) (base:=base) a18 F18 (Je2 F18 T J5 JfV) (F18.binds fun _ _ _ _ _ _ us hl=>by obtain⟨_,_,_,_,rfl⟩:=JsQ hl;rfl);have JbE:=cal (P:=l.prog) (w:=w) (base:=base) X G a12 F12 (JoD F12 Z) (F12.binds fun _ _ _ _ _ _ us hl=>by obtain⟨_,_,rfl⟩:=Jgl hl;rfl);have Yg:=met (P:=l.prog) (w:=w) (mg:=mg) (base:=base) a19 F19 (Jgn F19 Z T X_TooEarly JC JbE) (F19.binds fun _ _ _ _ _ _ us hl=>by obtain⟨_,_,_,_,rfl⟩:=JsQ hl;rfl);have Yb:=met (P:=l.prog) (w:=w) (mg:=mg) (base:=base) a26 F26 (JeB F26 T Jm Yg) (F26.binds fun _ _ _ _ _ _ us hl=>by obtain⟨_,_,_,rfl⟩:=Ji0 hl;rfl);have JgB:=Juq (P:=l.prog) (w:=w) (base:=base) X G a35 F35 (Jq9 F35 T YK YZ Y0 Yb) (F35.binds fun _ _ _ _ _ _ us hl=>by obtain⟨_,_,rfl⟩:=Jgl hl;rfl);have JhF:=cal (P:=l.prog) (w:=w) (base:=base) X G a36 F36 (JnQ F36 Y_NoHours Y_NoTable Y_TooEarly JgB) (F36.binds fun _ _ _ _ _ _ us hl=>by obtain⟨_,_,rfl⟩:=Jgl hl;rfl);have Jcp:=met (P:=l.prog) (w:=w) (mg:=mg) (base:=base) a21 F21 (Jib F21 T) (F21.binds fun _ _ _ _ _ _ us hl=>by obtain⟨_,rfl⟩:=Jik hl;rfl);have Jao:=met (P:=l.prog) (w:=w) (mg:=mg) (base:=base) a28 F28 (Jl1 F28 T Jm JC) (F28.binds fun _ _ _ _ _ _ us hl=>by obtain⟨_,_,_,rfl⟩:=Ji0 hl;rfl);have Y8:=met (P:=l.prog) (w:=w) (mg:=mg) (base:=base) a30 F30 (JjK F30 Z T Jao) (F30.binds fun _ _ _ _ _ _ us hl=>by obtain⟨_,_,_,rfl⟩:=Ji0 hl;rfl);have Jap:=met (P:=l.prog) (w:=w) (mg:=mg) (base:=base) a31 F31 (JlS F31 T Jm) (F31.binds fun _ _ _ _ _ _ us hl=>by obtain⟨_,_,rfl⟩:=Jgl hl;rfl);have YI:=met (P:=l.prog) (w:=w) (mg:=mg) (base:=base) a20 F20 (Jj9 F20 Z T) (F20.binds fun _ _ _ _ _ _ us hl=>by obtain⟨_,rfl⟩:=Jik hl;rfl);have Jbc:=met (P:=l.prog) (w:=w) (mg:=mg) (base:=base) a33 F33 (Jph F33 Z T YI) (F33.binds fun _ _ _ _ _ _ us hl=>by obtain⟨_,rfl⟩:=Jik hl;rfl);have JhQ:=cal (P:=l.prog) (w:=w) (base:=base) X G a37 F37 (JnB F37 T JhF Jcp Y8 Jap Jbc) (F37.binds fun _ _ _ _ _ _ us hl=>by obtain⟨_,_,rfl⟩:=Jgl hl;rfl);have JhW:=cal (P:=l.prog) (w:=w) (base:=base) X G a39 F39 (Jq5 F39 Z) (F39.binds fun _ _ _ _ _ _ us hl=>by obtain⟨_,_,_,rfl⟩:=Ji0 hl;rfl);have JbY:=cal (P:=l.prog) (w:=w) (base:=base) X G a40 F40 (Jpd F40 Z) (F40.binds fun _ _ _ _ _ _ us hl=>by obtain⟨_,rfl⟩:=Jik hl;rfl);have JfB:=cal (P:=l.prog) (w:=w) (base:=base) X G a42 F42 (JoA F42 Z JbY) (F42.binds fun _ _ _ _ _ _ us hl=>by obtain⟨_,_,rfl⟩:=Jgl hl;rfl);have JeO:=cal (P:=l.prog) (w:=w) (base:=base) X G a43 F43 (Joi F43 Z) (F43.binds fun _ _ _ _ _ _ us hl=>by obtain⟨_,_,_,rfl⟩:=Ji0 hl;rfl);have JeA:=cal (P:=l.prog) (w:=w) (base:=base) X G a44 F44 (JnK F44) (F44.binds fun _ _ _ _ _ _ us hl=>by obtain⟨_,_,rfl⟩:=Jgl hl;rfl);have Jad:=cal (P:=l.prog) (w:=w) (base:=base) X G a45 F45 (Jmq F45 Z) (F45.binds fun _ _ _ _ _ _ us hl=>by obtain⟨_,rfl⟩:=Jik hl;rfl);have Yw:=cal (P:=l.prog) (w:=w) (base:=base) X G a46 F46 (JoC F46 Z) (F46.binds fun _ _ _ _ _ _ us hl=>by obtain⟨_,rfl⟩:=Jik hl;rfl);have JP:=cal (P:=l.prog) (w:=w) (base:=base) X G a47 F47 (Jpu F47 Z) (F47.binds fun _ _ _ _ _ _ us hl=>by obtain⟨_,rfl⟩:=Jik hl;rfl);have Jep:=cal (P:=l.prog) (w:=w) (base:=base) X G a48 F48 (JnI F48 Z JeA JeO Yw JP Jad) (F48.binds fun _ _ _ _ _ _ us hl=>by obtain⟨_,_,rfl⟩:=Jgl hl;rfl);have Jdu:=cal (P:=l.prog) (w:=w) (base:=base) X G a49 F49 (JlN F49 Z Jep) (F49.binds fun _ _ _ _ _ _ us hl=>by obtain⟨_,rfl⟩:=Jik hl;rfl);have Jb2:=cal (P:=l.prog) (w:=w) (base:=base) X G a50 F50 (Jpj F50 Z) (F50.binds fun _ _ _ _ _ _ us hl=>by obtain⟨_,_,rfl⟩:=Jgl hl;rfl);have JhS:=cal (P:=l.prog) (w:=w) (base:=base) X G a51 F51 (JqC F51 Z Jb2) (F51.binds fun _ _ _ _ _ _ us hl=>by obtain⟨_,_,rfl⟩:=Jgl hl;rfl);have Jc6:=cal (P:=l.prog) (w:=w) (base:=base) X G a52 F52 (JoK F52 Z) (F52.binds fun _ _ _ _ _ _ us hl=>by obtain⟨_,_,rfl⟩:=Jgl hl;rfl);have JfU:=cal (P:=l.prog) (w:=w) (base:=base) X G a53 F53 (Jpt F53 Z JP Yw) (F53.binds fun _ _ _ _ _ _ us hl=>by obtain⟨_,rfl⟩:=Jik hl;rfl);have Jcc:=cal (P:=l.prog) (w:=w) (base:=base) X G a54 F54 (Jo9 F54 Z) (F54.binds fun _ _ _ _ _ _ us hl=>by obtain⟨_,_,rfl⟩:=Jgl hl;rfl);have Jb7:=cal (P:=l.prog) (w:=w) (base:=base) X G a55 F55 (Jo7 F55 Z Jcc Jb2) (F55.binds fun _ _ _ _ _ _ us hl=>by obtain⟨_,_,_,rfl⟩:=Ji0 hl;rfl);have Jkf:=cal (P:=l.prog) (w:=w) (base:=base) X G a56 F56 (Jsl F56 Z Jcc Jb7 JhS) (F56.binds fun _ _ _ _ _ _ us hl=>by obtain⟨_,_,_,_,rfl⟩:=JsQ hl;rfl);have JcS:=cal (P:=l.prog) (w:=w) (base:=base) X G a57 F57 (Jlo F57 Z Jkf) (F57.binds fun _ _ _ _ _ _ us hl=>by obtain⟨_,_,_,rfl⟩:=Ji0 hl;rfl);have Ja1:=cal (P:=l.prog) (w:=w) (base:=base) X G a58 F58 (JlB F58 Jc6) (F58.binds fun _ _ _ _ _ _ us hl=>by obtain⟨_,_,rfl⟩:=Jgl hl;rfl);have Jh1:=cal (P:=l.prog) (w:=w) (base:=base) X G a60 F60 (Jpx F60 Z Ja1 Jb7) (F60.binds fun _ _ _ _ _ _ us hl=>by obtain⟨_,_,rfl⟩:=Jgl hl;rfl);have JcM:=cal (P:=l.prog) (w:=w) (base:=base) X G a38 F38 (JjJ F38 Z) (F38.binds fun _ _ _ _ _ _ us hl=>by obtain⟨_,_,rfl⟩:=Jgl hl;rfl);have JgY:=cal (P:=l.prog) (w:=w) (base:=base) X G a41 F41 (JtN F41 Z) (F41.binds fun _ _ _ _ _ _ us hl=>by obtain⟨_,_,rfl⟩:=Jgl hl;rfl);have JdC:=cal (P:=l.prog) (w:=w) (base:=base) X G a61 F61 (JlC F61) (F61.binds fun _ _ _ _ _ _ us hl=>by obtain⟨_,rfl⟩:=Jik hl;rfl);have Jco:=cal (P:=l.prog) (w:=w) (base:=base) X G a62 F62 (JoE F62 Z JdC Jad JP) (F62.binds fun _ _ _ _ _ _ us hl=>by obtain⟨_,_,_,_,rfl⟩:=JsQ hl;rfl);exact JsJ F63 Z JhW Jdu JfU Jh1 JfB JhQ JgY Yw JcS Jad Ja1 Jco JcM JbY
theorem walk{l:Gx}{q:Ab}{loose:List Str}{XP:(MO)->Heap->Prop}{YP:At->Heap->Prop}{d:DefRec}{K:KY->WF}(hn:l.most=some 63)(hdf:d.params.defaults=[])
  (hY:∀(w:At)(h:Heap),YP w h->(K w.params).In h)
  (F:∀(w:At)(mg:MO)(fa:Addr)(h:Heap),(K w.params).In h->h.Ns AB mg->mg d.name=some (.ref fa)->
   ∃fd:Aa,(∀(s:A9)(u:A3),Kj s fd ⟨[u],[]⟩ [("_law_script",u)])/\∀base:Heap,(K w.params).In base->base.Ns AB mg->YU l.prog w (K w.params) mg base CX0 13 fa fd ["_law_script"] (Jpr (K w.params))) :
  Mq q loose XP YP l.row.toRowW d [] (fun f vs=>KM f vs):=
 L2.Jqp (n:=63) (k:=13) (x:="_law_script") (CX:=fun _=>CX0) (sp:=fun w=>Jpr (K w.params)) hn (by decide) hdf ⟨rfl,by decide,by decide⟩ hY F (fun _ _ a ns hl _ hS=>⟨a,ns,rfl,hS,hl,fun _=>rfl⟩) fun _ _ _ _ _ z=>z
end TLA
open PySem PySem.W PyProof.Rows
set_option maxRecDepth 100000 in
set_option maxHeartbeats 0 in
theorem PySem.Challenge.cw_wagebook_k07_whole_told_in_any_order_holds : PySem.Challenge.rw_wagebook_k07_whole_told_in_any_order.Holds := by
 w_on;o_law
 have lf:Mw PySem.Challenge.rw_wagebook_k07_whole_told_in_any_order.row.prog TLA.vw [] TLA.Jt1 TLA.hk.obs TLA.hk.val 3236:=TLA.left
 refine holds_open (XP:=XL TLA.vw []) (YP:=PySem.W.InK TLA.myK) lf TLA.hk.of TLA.hk.keeps (fun s e=>xl_of s (CC.mp e).1) XL.keeps
  rfl rfl rfl (fun s e=>recFacts_of (CC.mp e).2) rfl ?k1 ?ok ⟨rfl,rfl,rfl,rfl,rfl,?b⟩ ?hw ?hc
 case k1=>first|assumption|decide +kernel
 case ok=>decide +kernel
 case b=>decide +kernel
 case hw=>w_witness2
 k_fill
 refine TLA.walk (l:=PySem.Challenge.rw_wagebook_k07_whole_told_in_any_order) rfl rfl (fun w h Y=>Y) ?F
 case F=>
  intro w mg fa h KX G hmg;refine' TLA.all_mk KX G hmg ?aCP ?aCB ?aCH ?aCN ?aCT ?eCHCH ?eCNCH ?eCTCH ?eCHCN ?eCNCN ?eCTCN ?eCHCT ?eCNCT ?eCTCT ?a1 ?a2 ?a3 ?a4 ?a5 ?a6 ?a7 ?a8 ?a9 ?a10 ?a11 ?a12 ?a13 ?a14 ?a15 ?a16 ?a17 ?a18 ?a19 ?a20 ?a21 ?a22 ?a23 ?a24 ?a25 ?a26 ?a27 ?a28 ?a29 ?a30 ?a31 ?a32 ?a33 ?a34 ?a35 ?a36 ?a37 ?a38 ?a39 ?a40 ?a41 ?a42 ?a43 ?a44 ?a45 ?a46 ?a47 ?a48 ?a49 ?a50 ?a51 ?a52 ?a53 ?a54 ?a55 ?a56 ?a57 ?a58 ?a59 ?a60 ?a61 ?a62 ?a63 ?nCP0 ?nCP1 ?nCP2 ?nCP3 ?nCB0 ?nCB1 ?nCB2 ?gi0 ?gi1 ?gi2 ?gi3 ?z1 ?z2 ?z3 ?z4 ?z5 ?z6 ?z7 ?z8 ?z9 ?z10 ?z11 ?z12 ?z13 ?z14 ?z15 ?z16
  case aCP|aCB=>refine'⟨?a,⟨?pg,?hd,?po,?sa⟩,?mk,?kc⟩;(case a=>show _=_;k_is);(case pg=>show _=_;k_is);(case hd=>show _=_;k_is);(case po=>show _=_;k_is);(case sa=>show _=_;k_is);(case mk=>show _=_;k_is);(case kc=>show _=_;k_is)
  case aCH|aCN|aCT=>refine'⟨?a,?e⟩;(case a=>show _=_;k_is);(case e=>k_exc)
  case eCHCH|eCNCH|eCTCH|eCHCN|eCNCN|eCTCN|eCHCT|eCNCT|eCTCT=>show _=_;kts_exm
  case a1|a2|a3|a4|a5|a6|a7|a8|a9|a10|a11|a12|a34|a35|a36|a37|a38|a39|a40|a41|a42|a43|a44|a45|a46|a47|a48|a49|a50|a51|a52|a53|a54|a55|a56|a57|a58|a59|a60|a61|a62|a63=>refine'⟨?a,_,L2.Jp4 ?l ?c ?k⟩;(case a=>show _=_;k_is);(case l=>show _=_;k_is);(case c=>show _=_;k_is);(case k=>show _=_;k_is)
  case a13|a14|a15|a16|a17|a18|a19|a20|a21|a22|a23|a24|a25|a26|a27|a28|a29|a30|a31|a32|a33=>refine'⟨⟨?a,?i⟩,_,L2.Jp4 ?l ?c ?k⟩;(case a=>show _=_;k_is);(case i=>show _=_;k_is);(case l=>show _=_;k_is);(case c=>show _=_;k_is);(case k=>show _=_;k_is)
  case nCP0|nCP1|nCP2|nCP3|nCB0|nCB1|nCB2=>unfold L2.Jar;show _=_;k_is
  case gi0|gi1|gi2|gi3|z1|z2|z3|z4|z5|z6|z7|z8|z9|z10|z11|z12|z13|z14|z15|z16=>show _=_;k_is
