import PyProof.Rows.All
import Wide.All
import OpenK.AllK
import Wide.FinOn
import PySem.Challenge.RW_twotrees_s01_answers
import PyProof.EqAt
import PyProof.EqKinds
import PyProof.TupleCall
import KE.BitLaws
import KE.KLam
import KE.KMinKey
import KE.KSortKeyAny
import VaglrcSpec
import VaglrdSpec
import PyProof.Rows.TupDisplay
import PyProof.Rows.SetFrom
import PyProof.CollectWalk
import PyProof.Rows.SortShellAny
import KE.KDictList
import KE.KDictLaws
import KE.KDictSum
import KE.KSortTupG
import PyProof.AutoSeq1
import VaglrhSpec
import VaglrbSpec
import PyVaglrh
import Open.SpecLaws
import KE.OsHead
import KE.OsGo
set_option Elab.async false
set_option linter.all false
set_option maxRecDepth 100000
set_option maxHeartbeats 3200000
theorem Z0k:PySem.Challenge.rw_twotrees_s01_answers.wellSaid=true:=by decide+kernel
def Z0f (_:Nat->Int) (h:False):False:=h
@[reducible] def Z0w {P:Sort u} (p:P) (_:∀q:Prop,False->q):P:=p
namespace PySem.W.Fast
def tw12146533120894643186:=0
def tw2462667158332311104:=0
def tw14555844807316805264:=0
def tw17807311734545381573:=0
def tw17524135305603940759:=0
def tw4441214624662291724:=0
def tw5965081155129472842:=0
def tw17860096908713053106:=0
def tw6195186595849866740:=0
def tw17891714189821440238:=0
def tw9891632100883817343:=0
def tw13979703655397381368:=0
def tw3367741725917312101:=0
def tw1172577125600680314:=0
def tw1723405766966222039:=0
def tw2808122016084602700:=0
def tw16847792902698278190:=0
def tw12431073442643560149:=0
def tw18119868086904147923:=0
def tw12507273343829768910:=0
def tw8797103648860258346:=0
def tw257798091508162469:=0
def tw1653103975575169573:=0
def tw12658176119475932741:=0
def tw9824312526120465386:=0
def tw10112557863076591211:=0
def tw3908718974303983235:=0
def tw16213949261032939706:=0
def tw15950203239114705992:=0
def tw13609466365823050005:=0
def tw11645601862770366002:=0
def tw15244367848333106773:=0
def tw15520132734580430703:=0
def tw8625674320392868846:=0
def tw12634197447379956025:=0
def tw16811142772807603609:=0
def tw15719868777319171425:=0
def tw9118999558178374804:=0
def tw14520173418565171212:=0
def tw12642440872272172217:=0
def tw5308053783437224890:=0
def tw4024852689745831995:=0
def tw1715683420351515874:=0
def tw7775397720797711169:=0
def tw3351617977229118647:=0
def tw2016391983475128953:=0
def tw6656543683345854093:=0
def tw5308854504732747266:=0
def tw3840702550804782762:=0
def tw8616337551400545239:=0
def tw11603285539076893537:=0
def tw2649301763948181278:=0
def tw18176741422640575552:=0
def tw4013048403990522410:=0
def tw5681386492497597373:=0
def tw18150953579099614328:=0
def tw13186288770834021755:=0
def tw4834292334763102327:=0
def tw4866659686022328072:=0
def tw4122855867372717761:=0
def tw2571815873453496061:=0
def tw7993704225022896676:=0
def tw17777314805034596055:=0
def tw13013008568589747242:=0
def tw10927781238903945855:=0
def tw11495152717004363404:=0
def tw6661706629100786881:=0
def tw4200535597365898995:=0
def tw6236637274026435791:=0
def tw5003435267335361694:=0
def tw18183583010155460928:=0
def tw16769516590014385255:=0
def tw9729109883650654624:=0
def tw13291086346237309074:=0
def tw17024520797428511997:=0
def tw11063373930988059070:=0
def tw7922168729784274415:=0
def tw11211030522628029458:=0
def tw12992919005055348443:=0
def tw1488561827759135930:=0
def tw14293771391741639249:=0
def tw14820437311907802839:=0
def tw14167043822737578922:=0
def tw6419455299832912366:=0
def tw8355781435224432139:=0
def tw12745045355725008483:=0
def tw10202783731037259855:=0
def tw3838877192214195337:=0
def tw3254524283723202381:=0
def tw10288734569088438101:=0
def tw3169898686716744106:=0
def tw15897476599367843176:=0
end PySem.W.Fast
open And renaming left->Uk
open Array renaming getElem?_eq_getElem->nM,length_toList->zq,getElem?_toList->Dm,forIn_toList->S0,getElem?_eq_none->T8,append_assoc->amx,getElem?_eq_some_iff->anj,toList_append->aoa
open Bool renaming and_eq_true->eG,false_ne_true->fQ,eq_iff_iff->gx,and_eq_false_iff->mD,or_eq_true->rR,false_eq_true->wg,eq_false_iff->wV,not_eq_false'->zK,not_eq_true'->zP,or_eq_false_iff->Dt,not_true->S3,and_true->aop,toNat_true->aoq,true_and->aov
open Classical renaming byContradiction->dW,not_not->ph,not_forall->T_,not_imp->Ua
open False renaming elim->rL
open ForInStep renaming yield->IY
open Int renaming toNat_of_nonneg->i9,toNat_natCast->rP,ofNat_lt->uv,toNat->zX,ofNat_inj->DA
open List renaming length_map->aj,range->aq,mem_map->aH,getElem?_eq_some_iff->aK,map_map->a_,mem_of_getElem?->bb,map_append->bo,map_cons->bx,getElem?_map->bG,replicate->bL,getElem?_eq_getElem->cf,mem_cons->cw,mem_append->cx,getD_eq_getElem?_getD->cK,foldl_cons->cW,mem_filter->cZ,mem_range->c4,mem_singleton->dj,map_congr_left->dG,mem_flatMap->dP,length_cons->dS,take_succ_eq_append_getElem->dX,length_take->dZ,length_append->ez,take_length->eP,append_nil->eS,append_assoc->eZ,perm_append_comm->fX,mem_cons_of_mem->gR,mem_append_right->gT,pairwise_cons->hV,getElem?_eq_none->iB,mem_filterMap->jS,nodup_append->jU,getElem?_of_mem->jW,foldl_append->kM,getElem?_append_left->kO,nodup_cons->lF,range_succ->lH,any_eq_true->lJ,flatMap_cons->lK,length_filter_le->lM,length_range->mE,zip_cons_cons->nB,take_of_length_le->nL,getElem?_range->o6,pairwise_map->o9,mem_of_mem_take->o_,nil_append->pd,mem_append_left->qd,map_take->qo,ext_getElem?->qr,length_filterMap_le->qu,any_map->rO,nodup_range->rS,length_eq_zero_iff->rV,length_range'->rW,cons_append->rX,sum_cons->ui,map_drop->uk,length_zip->uu,perm_middle->uw,of_mem_zip->wF,all_eq_true->wJ,take_append_drop->wN,getElem_mem->wU,map_id->wY,filter_cons->wZ,map_set->w8,mem_cons_self->y_,any_cons->zp,take_left->zx,drop_eq_getElem_cons->zy,not_mem_nil->zH,foldl_nil->zQ,map_nil->zR,getElem?_append_right->zV,flatMap_append->zY,Nodup->zZ,filter_filter->z0,length_nil->CT,lookup_cons->C4,drop_zero->Dd,mem_iff_getElem?->De,flatMap_eq_nil_iff->Dv,filterMap_append->Dz,getElem?_set_ne->ID,length->IK,range_succ_eq_map->IS,length_set->IW,length_drop->Jg,drop_take->Jh,drop_left->Ji,take_append_of_le_length->Jj,drop_of_length_le->Jk,pairwise_iff_getElem->Jo,zip_append->Jp,pairwise_lt_range->Jq,map_const'->Jz,length_replicate->JD,flatMap_map->JE,map_flatMap->JF,take_add_one->JG,filter_eq_nil_iff->JH,filter_congr->JI,getElem?_replicate->JK,filter_append->JN,filter_map->JP,getElem?_zip_eq_some->JR,getElem?_take_of_lt->Tq,take_sublist->Tr,all_cons->TU,foldl->TY,replicate_succ->TZ,drop_drop->Ub,findIdx?_eq_some_iff_getElem->Uh,length_reverse->Um,replicate_succ'->Uo,filterMap_cons_some->Ur,length_singleton->Ut,getElem_of_mem->UG,map_fst_zip->UI,ext_getElem->UO,length_pos_iff->UP,unzip_zip_right->UQ,exists_mem_of_ne_nil->UR,ne_nil_of_mem->US,sum_append->UT,dropLast_concat_getLast->UU,take_append->UY,getElem?_set->UZ,filter_cons_of_pos->U0,pairwise_and_iff->U1,drop_length->U3,mem_of_mem_drop->U4,flatMap_nil->U5,filterMap_cons->amv,getElem_inj->amy,getElem?_set_self->amz,any_eq_false->amH,lookup->amK,size_toArray->am1,forIn_cons->am2,nodup_nil->am8,take_take->anx,countP_cons->anz,countP_le_length->anA,find?_cons->anD,mapM_cons->anG,range'->anH,getElem?_reverse->anI,filterMap_cons_none->anL,getElem?_toArray->anM,isEmpty_nil->anV,zipWith_cons_cons->an3,getElem_zip->aob,isEmpty_cons->aod,mem_map_of_mem->aoe,mem_erase_of_ne->aof,perm_cons_erase->aog,find?_eq_none->aom,filterMap_eq_nil_iff->aon,set_cons_succ->aoo,reverse_replicate->aos,reverse_append->aot,getElem?_eq_none_iff->aou,mem_or_eq_of_mem_set->aow,map_replicate->aox,range_eq_range'->aoy,eq_of_mem_replicate->aoz,zipIdx_cons->aoB,mem_reverse->aoD,length_flatMap->aoE
open List.IsPrefix renaming trans->apy
open List.Pairwise renaming filter->Dx,imp_of_mem->JO,imp->anB,map->apv,filterMap->apw,nil->apx
open List.Perm renaming append_left->qp,refl->z8,of_eq->JA,map->anE
open List.cons renaming injEq->y9
open Nat renaming le_refl->aR,le_trans->bC,ne_of_lt->cY,zero_le->eY,le_of_lt->fv,lt_of_lt_of_le->fO,lt_of_le_of_lt->kJ,eq_zero_or_pos->o5,ne_of_gt->qe,zero_add->qm,lt_irrefl->rK,min_eq_left->wM,le_succ->zj,add_comm->zv,mul_le_mul->zw,le_of_eq->CS,mul_comm->C0,le_add_right->C9,le_mul_of_pos_right->C_,mul_le_mul_right->Dc,sub_self->Dy,lt_succ_of_lt->IX,le_max_left->Jf,le_mul_of_pos_left->Jl,min_eq_right->Jm,mod_lt->Ju,succ_mul->JS,min->JT,lt_succ_self->Tj,le_of_succ_le->T1,lt_trans->T3,pow_succ->UW,pow_pos->UX,add_assoc->aml,add_le_add_left->ant,le_add_left->anu,le_max_right->anv,sub_zero->anw,lt_trichotomy->anK,min_self->an5,le_of_not_lt->aoc,mul_add_mod->aoh,mod_eq_of_lt->aoi,div_eq_of_lt->aoj,mul_add_div->aok,lt_or_ge->aor,add_sub_cancel_left->aoA,lt_of_le_of_ne->aoC
open Ne renaming symm->i6
open Option renaming map_eq_some_iff->lG,map_some->wj,bind_some->zO,getD_some->Df,isSome_iff_exists->IJ,isSome_map->T2,isSome_some->am3
open Option.some renaming inj->we,injEq->amu
open Or renaming inr->i8,inl->jV
open Prod.mk renaming injEq->amm
open PyFlat renaming told->U7
open PyProof.Rows renaming seqObj->e_,arrOf->gZ,IntsAre->hU,firstMet->kL,IsTup->my,envOfC->mC,sortedHeap->uq,AllBare->wq,callWith_type1->wB,Call_->zf,slot_tuple_getitem->zo,get?_update_seq->zJ,Subscript_->CV,Constant_none->S7,boot_range->Td,test_link->Te,subscriptTail_builtinR->TR,intBits_le->Ul,kind_sorted->Uz,plain_sorted->UA,entry_sorted->UB,slot_list_sort->UD,entry_list_sort->UE,boot_sorted->UH,entry_tuple_getitem->amS,args_tuple_getitem->amT,slot_tuple_getitem->amW,list_sort_treeAny->an2
open PyProof.Rows.F renaming plain_set_update_loop->Uu,entry_set_update_loop->anP
open PyProof.Rows.G renaming tupKeyC->UJ
open PyProof.Rows.IsTup renaming new->TL
open PySem renaming Addr->af,wpAny_bind->ah,wpAny->ao,Value->aw,model->ay,eval->az,starEach->aE,wpAny_pure->aG,sizeLine->bh,Heap->bI,Shared->bO,Expr->bZ,backTo->cJ,World->ew,cLine->eE,compareOp->eO,Paired->eU,rawInt->eV,Program->fu,Keyword->fW,Stmt->gu,holding->gw,Around->gS,attributeBase->gU,backToKw->gV,keywordEach->gX,cellsFrom->gY,wpAny_holding->iz,wpAny_mono->i7,mainGlobals->jr,compEnvC->jt,Scope->jT,wpAny_truthy_bool->ky,sysModules->kB,behindInMarks->kC,mem_of_lookup->kD,wpAny_call_entry->lC,swapsWith->lE,standAt->mz,binaryOp->mB,pyNext->nG,foldedSetIterable->nH,wpAny_newObj_type->nJ,getItem->oU,sizeLine_eq->oV,getMethod->oW,codeAny_builtin->o8,codeAny->qg,callWith->qh,IsPart->qj,setField->qk,assign->rM,pyIter->rN,wpAny_setField->rQ,plainId_quiet->rT,wpAny_rule->tZ,wpAny_Call_Name_kw->ub,bindL->ud,bindC->ue,NameKind->ug,pushCells->uh,scanBound->um,wpAny_seqItems->wh,bootBuiltins->wo,assignEach->wu,PassesOwn->wz,wpAny_passesOwn->wA,codeAny_mono->wD,wpAny_callSpecial?_slot->wG,call_meets->wI,SetTable->wQ,wpAny_ite_split->wW,wpAny_specialOf->y5,eqBool->y6,wpAny_isInstance->y8,codeAmong->za,builtinsNs->zb,isTrue->zc,wpAny_Name->zd,setItem->ze,lastMarks->zg,bindArgs->zi,notedBy->zr,atKey->zt,relayAll->zD,wpAny_setState_of->zF,wpAny_askSetting->zG,wpAny_updateSeq->zI,wpAny_tryCatch->zL,wpAny_forIn_list->CN,wpAny_typeOf->CU,sliceBounds->CW,closureFor->C3,newEnv->C5,valueAt->C6,call_meetsIn->C7,newExc->C8,argsOk->Dp,pickOrder->Dq,wpAny_letGo->Ds,callerA->DE,IsTupleKey->Iy,eqIsQuiet->IC,wpAny_loadName_local->IE,release->IF,wpAny_pyIter_list->IG,wpAny_call->II,wpAny_loadPart'->IL,seqIndex?->IM,subscripted->IP,pushCells_keeps->IV,newList->IZ,wpAny_Call_method->I3,wpAny_pyIter_slot->I7,wpAny_dictEntries->I_,wpAny_attempt->Ja,wpAny_typeNameOfWhole_keyiter->Jb,wpAny_of_eq->Jc,raiseNew->Jd,setNext->Jr,seqItems?->Js,unsupported->Jt,collect->Jv,updateSeq->Jx,wpAny_newList->Jy,carriedByValue->SW,wpAny_tupleItemsOf->SY,isInstance->S1,isSubtype_tuple_tuple->S2,Within->S4,TriplesOk->S5,storeName->S6,wpAny_execs_nil->S8,inplaceOp->S9,wpAny_standAt->S_,letOwnedTupleGo->Ta,wpAny_load->Tc,recursionLimit->Tn,richCompare->Tt,concat_meets->Tu,noFill_tuple_add->Tv,seq_tuple_add->Tz,wpAny_field->TH,typeLookup->TJ,seqIndex_of->TM,seqIndex_neg->TQ,typeIs_int->TV,PlainAttrs->TX,wpAny_dictEpoch->T6,wpAny_fieldsOf->T7,size_of_entries->T9,boot_len->Ui,wpAny_runValue->Uv,checkCount->UC,defaultsOf->UN,eqIsQuiet_byValue->amn,wpAny_loadName_cell->amA,wpAny_loadName_free->amB,wpAny_Constant_int->amC,wpAny_isTrue_Compare1->amF,wpAny_assign_Name->amG,wpAny_Tuple_spliced->amL,wpAny_sequenceKey->amR,slot_list_getitem->amV,evalArgs_none->amX,wpAny_getItem_of->am6,wpAny_Dict_empty->am9,pairTrees_nil_walk->am_,pairTrees_cons_walk->am',wpAny_pyIter_revIter->anc,wpAny_isOneOf_keyiter->ank,wpAny_pyIter_keyiter->ano,wpAny_pyIter_enum->anr,wpAny_pyIter_zip->ans,wpAny_storeSet_of->anN,fits_of_scanBound->anO,wpAny_setEntries_of->anS,wpAny_setEpoch_of->anW
open PySem.Around renaming under_plainId->qt
open PySem.Builtin.Builtins renaming bindParams->an'
open PySem.Builtin.Dict renaming showsAll->anf
open PySem.Builtin.Dict_items renaming ownsTuple->ani
open PySem.Builtin.Frozenset renaming newClass->apo,updateFrom->apq,slot0->apr,addrOf->aps,sizeOf->apt
open PySem.Builtin.List renaming listTooLong->CZ,listExtendWith->an0,listSameRef->an1
open PySem.Builtin.Range renaming rangeFitsLong->apu
open PySem.Builtin.Slice renaming slicePlaces->amP,sliceApplied->amQ,slicePartIndex->apj,sliceFields->apk
open PySem.Builtin.Tuple renaming tupleHashOf->Iz,tupleItemsOf->SX,tupleExact->amU,tupleCompareSizes->api,tupleIsExact->apn
open PySem.Calls renaming spliced_cons->oZ,spliced_nil->wC,callWith_builtin->CY,evalArgs_plain->IQ,call_function_entry->Uy,Name_function_global->amD
open PySem.Challenge renaming rw_twotrees_s01_answers->aoJ,pw_twotrees_s01_answers->apm
open PySem.CmpOp renaming NotIn->amE
open PySem.EqMixed renaming eq_bool_str->ao',eq_int_str->apa,eq_str_bool->apb,eq_str_int->apc,ne_bool_str->apd,ne_int_str->ape,ne_str_bool->apf,ne_str_int->apg
open PySem.F renaming called_set->uo,plain_min_loop->wX,slot_dict_keyiterator_next->zu,plainAttrs_list->Dk,slot_tuple_hash->IA,slot_tuple_eq->IB,plain_list_iadd->Jw,slot_tuple_add->TB,entry_tuple_add->TC,args_tuple_add_2->TF,slot_dict_get->T4,plainAttrs_dict->T5,slot_list_extend->Uj,entry_min_loop->UM,slot_int_rmul->amY,slot_list_index->am0,slot_dict_getitem->am7,entry_dict_get->ana,args_dict_get_3->anb,slot_dict_iter->ane,entry_dict_keyiterator_next->ang,args_dict_keyiterator_next_1->anh,slot_dict_keyiterator_iter->anp,slot_dict_items->anq,type_list_extend->anF,plain_set_new->anQ,slot_set_iter->anU,entry_proto_collect->anX,plain_proto_collect->anY,entry_list_iadd->anZ,slot_dict_len->an4,slot_dict_update->an8,slot_dict_setdefault->an9
open PySem.Fin renaming done->Uw
open PySem.Flow renaming ret->Ux
open PySem.Heap renaming get?_push_of_some->bJ,lt_size->bK,get?_push_size->dg,size_push->iA,SameBut->mw,get?_update_self->uf,get?_update_other->wH,get?->UK,get?_update_ne->UL,get?_none_of_le->amw,ExtBut->anm
open PySem.Heap.IsSliceOf renaming new->apl
open PySem.Heap.SameBut renaming update->o4
open PySem.NameKind renaming free->IU,cell->am4
open PySem.Obj renaming mapSeq->kE,mapFields->wK,putSet->Us,data_mapFields->anl
open PySem.Paired renaming length->mx,cons->amZ,snoc->am5
open PySem.PassesOwn renaming never->Dl
open PySem.SeqAt renaming EqAt->Ts
open PySem.SeqAt.EqAt renaming int_str->ams,str_int->amt,int_int->amO
open PySem.SetTable renaming grown->zE,insertAt->anJ,fits->anT
open PySem.Shared renaming TypeIs->anR
open PySem.Str renaming ofString->o7
open PySem.Value renaming ref->fB,type->nE,int->qc,none->t_,bool->CP,isInt->amo,isStrOf->amq,isInt_shape->amr
open PySem.W renaming Frag->bj,tabIn->lD,keepIn->oX,findIn->qf,fnOf->qi,WData->r_,instObj->ua,emptyDict->zh,codeIn->zk,CodeHd->zM,WellAll->Ab,isFn->CQ,mg_of->DF,plainGet->IH,kla_obj->JB,kla_fn->JC,tabObj->JZ,nsIn->J0,hasDictIn->Tf,plainGet_of->Tg,takerIn->Th,makesIn->Ti,callWith_K->To,callWith_K0->Tp,handedIn->amI,plainOver->amJ,methodCall_KW->amM,cellsFrom_some->amN,kdl_call->an6,kdl_dict->an7,KdlSrc->an_
open PySem.W.Looks renaming here->aph
open PySem.W.WData renaming int->Aa
open PySem.Walks renaming list->IT
open PyVaglrh renaming shape->uy,answers_asked->JX,answers->JY,calls->aoI
open Sum renaming inl->aW,inr->CO
open Sum.inl renaming inj->Uq,injEq->U2
open True renaming intro->oY
open Vaglrb renaming nonsIn->zW
open Vaglrc renaming spansOf->aA,Grammar->aQ,Rule->bw,Count->bE,Node->bU,ends->bX,nodesOf->cg,symEnds->gf,links->gy,hasNode->kK,union->lI,addAt->nN,earlier->rY,times->wL,rowEnds->wO,onceNodes->zA,cyclicNodes->zB,numbered->zS,children->Dg,Counts->Dh,symCounts->Di,covers->Du,plus->Je,countAt->Jn,round->Ud,rowCounts->Ue,countNode->Ug,settle->anC
open Vaglrc.Sym renaming non->c5,range->gA
open Vaglrd renaming close->bA,nextSym->cy,rangesIn->dh,classesOf->dC,freshOf->dH,ruleAt->dQ,overNon->fj,lastRule->g0,closeRound->mF,overClass->mG,partsOf->uj,along->w4,build->w6,inRange->zC,cutsOf->Dj,movesAt->JL,conflictsOf->JM,Table->aol
open Vaglrh renaming waysOver->dD,digitsOf->iC,coreOf->ju,badLength->nO,stopped->pb,start->rZ,shownFound->r0,badTries->r8,step->r9,onText->ux,MOST->w9,numberOf->zT,oddsOf->zU,onAll->z9,Call->z_,isSeveral->DB,sureAnswer->DC,allTexts->JJ,signsOf->JQ,nexting->JU,coreAnswer->U6,ALL->aoF,State->aoG
open VaglrhNeutral renaming whole60->uz,step->JW,asked1->aoH,callOf->apz,asked->apA
open Vaglrf renaming flatAlt->i_,flatNode->JV
set_option hygiene false
def cv:Nat->Lean.Term->Lean.MacroM (Lean.TSyntax `rcasesPat)
|n+1,t=>match t with
 |`([$a,*])=>do
   let b<-a.getElems.mapM λx=>do `(Lean.Parser.Tactic.rcasesPatLo|$(<-cv n x):rcasesPat)
   `(rcasesPat|⟨$b,*⟩)
 |`($i:ident)=>`(rcasesPat|$i:ident)
 |`($a|||$b)=>do `(rcasesPat|($(<-cv n a)|$(<-cv n b)))
 |_=>`(rcasesPat|_)
|_,_=>`(rcasesPat|_)
section
set_option hygiene true in
local macro_rules|`(by%$b $t)=>match b.getHeadInfo,t.raw.getRange? with
 |.original ..,some r=>if r.stop.byteIdx<r.start.byteIdx+100 then Lean.Macro.throwUnsupported else `(by
  refine @Z0w _ ?_ ?_
  ·($t)
  ·intro q h;simpa only using Z0f (fun (x:by exact Nat)=>(x:Int)) h)
 |_,_=>Lean.Macro.throwUnsupported
local macro_rules (kind:=«term#[_,]»)|`(#[$a,*])=>`(⟨$a,*⟩)
local macro_rules (kind:=«term{_}»)|`({$a,*})=>`(⟨$a,*⟩)
local macro_rules|`(tactic|let $t:term:=$e)=>do `(tactic|obtain $(<-cv 9 t):rcasesPat:=$e)
local macro_rules|`(tactic|let $x:ident:=$e)=>`(tactic|have $x:ident:=$e)
local macro_rules|`(tactic|let $x:ident : $t := $e)=>`(tactic|have $x:ident : $t := $e)
local macro_rules|`(tactic|show $e)=>`(tactic|exact $e)
local macro_rules|`(tactic|calc $s:calcSteps)=>if s.raw[1].getNumArgs==0 then `(tactic|refine $(⟨s.raw[0][0]⟩)) else Lean.Macro.throwUnsupported
local macro_rules|`(tactic|intro $a*)=>if a.any (·.raw.isOfKind `«term[_]») then do `(tactic|rintro $(<-a.mapM λx=>do `(rintroPat|$(<-cv 9 x):rcasesPat))*) else Lean.Macro.throwUnsupported
local macro_rules|`(tactic|lk)=>`(tactic|grind)
local macro_rules|`(tactic|lia)=>`(tactic|omega)
local macro_rules|`(tactic|cbv)=>`(tactic|simp_all)
local macro_rules|`(tactic|room)=>`(tactic|assumption)
local macro_rules|`(tactic|walk)=>`(tactic|constructor)
local macro_rules|`(.$x:ident)=>(match(match x.getId.toString.front with|'a'=>[(`a,`(by lia)),(`af,`(rests)),(`ag,`(WF g)),(`ak,`(.mE s)),(`al,`(d.g.rules)),(`an,`("head")),(`ao,`(aR _)),(`ap,`("grammar")),(`ar,`(X.prog)),(`au,`(.y V)),(`ax,`(l.length)),(`az,`(Z.mono .V)),(`aE,`(F.length)),(`aF,`(trivial)),(`aG,`(.p p)),(`aH,`(by tm_at "t")),(`aJ,`(.b u)),(`aN,`(.m .aP)),(`aO,`(.b v)),(`aP,`(signsOf g)),(`aS,`(.y N)),(`aT,`(.y W)),(`aV,`(λz=>(nomatch z))),(`aZ,`(n.2.2)),(`a0,`(n.2.1)),(`a6,`(d.g.nons)),(`a7,`(.y Str))]|'d'=>[(`d,`(by lk)),(`dh,`(o.length)),(`di,`(.head _)),(`dj,`(X.base)),(`dl,`(.tV aw)),(`dm,`("len")),(`dn,`(.p b)),(`do,`(.u i)),(`dw,`("symbols")),(`dA,`(a.toNat)),(`dC,`(aG ?_)),(`dF,`(.r q)),(`dI,`("list")),(`dO,`(.p .G)),(`dQ,`(.p l)),(`dR,`(by rw[e];rfl)),(`dV,`(by simp;lia)),(`dW,`(G.length)),(`dX,`("octets")),(`dZ,`((n:Int))),(`d1,`(.fn o)),(`d3,`(m.2.2))]|'e'=>[(`e,`(by tm_at "v")),(`ec,`(I.length)),(`ed,`("symbol")),(`ee,`(u.length)),(`eh,`(.pt ws)),(`ej,`(.p f)),(`ek,`(m.2.1)),(`el,`(.kc k)),(`eq,`(λ_=>?_)),(`er,`(Le.refl _)),(`es,`("range")),(`ew,`(.bI b)),(`ex,`(.z h)),(`eB,`(X.env.locals)),(`eE,`("sorted")),(`eF,`(.kp e)),(`eI,`("most")),(`eM,`(.d8 b)),(`eN,`("row")),(`eO,`(.b y)),(`eP,`(.b w)),(`eT,`(h'.get? b)),(`eU,`(.y .bq)),(`eV,`(Nat-> .S)),(`eW,`(.non b)),(`e0,`("ways")),(`e1,`(λz=>z)),(`e3,`(.A7 F)),(`e4,`([.cC])),(`e6,`(by tm_at "is"))]|'f'=>[(`f,`(by simp)),(`fd,`(λq=>?_)),(`ff,`(.x q)),(`fg,`(.b k)),(`fh,`(.n0 u)),(`fi,`(.m6 t)),(`fj,`(.bB x)),(`fk,`(.pV a)),(`fo,`(j.heap.objs.size)),(`fp,`(by decide+kernel)),(`fq,`(OM->Prop)),(`fr,`(((·.1)))),(`fu,`(.type ("tuple"))),(`fv,`(by simp at h)),(`fA,`(ns.length)),(`fC,`(e.length)),(`fF,`(Nat->bE)),(`fH,`(λy=>?_)),(`fJ,`(s.same)),(`fM,`(by cbv)),(`fN,`(.t4 lo)),(`fP,`(.cT b)),(`fR,`(A.in1)),(`fT,`(.dK j)),(`fU,`(.b _)),(`fV,`(.k8 k)),(`fW,`(ah ?_)),(`fY,`(dz .V)),(`f0,`(d.map .fr)),(`f1,`(g.length)),(`f4,`("tuple")),(`f6,`("dict"))]|'h'=>[(`h,`(List Nat)),(`ha,`(hr.mono .V)),(`hd,`((.N).rules)),(`he,`(F.names)),(`hf,`(.r .a)),(`hh,`("counts")),(`hi,`(L.length)),(`hj,`(d.rests)),(`hn,`("rules")),(`hp,`(.a2 .iM)),(`hq,`(aw-> .ou)),(`hD,`(qs.map W.ref)),(`hE,`(λ_ _=>False)),(`hF,`(vs.toArray)),(`hI,`(λ_=>rfl)),(`hJ,`(D.length)),(`hN,`(.A2 .cm)),(`hP,`("rule")),(`hQ,`(.as ?_)),(`hR,`(.dz ?_)),(`hS,`(.qo es)),(`hX,`(items.size)),(`hY,`(X.env.scope)),(`h0,`(Z.lst (λz=>z))),(`h1,`(λk:Nat=>((k:Int)))),(`h5,`("core_among")),(`h6,`(d.tl.length)),(`h8,`("bottom_up")),(`h9,`(h.objs.size))]|'j'=>[(`j,`(false)),(`ja,`(λf v A U s H E ws O Kk Z h=>?_)),(`jc,`(λ(k:Nat)=>((k:Int)))),(`jj,`(((·.2)))),(`jr,`(X.A.units)),(`js,`(k.length)),(`jD,`(V.ref a)),(`jI,`(FO l.c l.t l.f d M a N o b W y T Y pr)),(`jJ,`(λ_ _ _ {_,_,_,_,e,_}=> .dR)),(`jK,`(Vaglrd.rangesIn g)),(`jO,`(r.rhs.length)),(`jQ,`("ranges_too")),(`jS,`("enumerate")),(`jW,`(p.length)),(`jY,`(v.length)),(`jZ,`(Y.length)),(`j1,`(Nat-> .pB)),(`j3,`(X.ck.cl)),(`j4,`((i:Int)))]|'o'=>[(`o,`(g.nons)),(`oh,`(.as .e)),(`oj,`(I.ok.kind)),(`ol,`(.pT .AS)),(`om,`(λb _=>?_)),(`on,`(.x .f)),(`oq,`(.a7->.aT->.aT->.l6)),(`or,`(.e3++(bN r2 cH Wf++iu r3 dE Hb))),(`os,`(.ai ((.m [e])+.q0+(.e9 .qZ 0 1)) 30)),(`ou,`(bO->Prop)),(`oB,`("setdefault")),(`oC,`("StopIteration")),(`oD,`(by rw[e];simp)),(`oE,`((aW:(Int->Key)))),(`oH,`(by rw[gx];simp)),(`oI,`(by cases r;rfl)),(`oJ,`(.dict .bH)),(`oN,`("empty_heads")),(`oX,`("__name__")),(`oY,`(by simp[cq])),(`oZ,`(o.ExactDict)),(`o2,`(b.ext I.ext)),(`o8,`(cH.length)),(`o9,`(.Z .pl))]|'v'=>[(`v,`(.b o)),(`va,`((qs++[p]).zip<|(ks++[k]).map (.ah (dt<|fV f k (f k++[c]) x)))),(`vb,`(.bw<|aa (.ji<|.og (ek .al d.bM b) λt=>.dp .mU))),(`vc,`(bM[i]?=.b t->tl[t]?=.b .O)),(`vd,`(.as [.nr G,.J p.1,.J p.2,none,none,none,none])),(`ve,`(.da (λi p B M A P=>n i p ?_ M A P)<|v λi p B M=>h i p .a M)),(`vf,`(.b9 (rs.filter (.bN<|.C==j)) (.bN<|zW .O))),(`vg,`(.h7 (rowFirst null t a) i\/(.n (a.all<|symNull null)/\.h7 U i))),(`vh,`(.b7 (.C==n.1) (.m<|.nO x .O .a0 .aZ) 0)),(`vi,`(i.getD p.2.2 0*.hk p.2.1+heads.getD p.2.2 0*u.getD p.2.1 0)),(`vj,`(.ia (.cM b (.aC (U::g)<|c+1)) (T rs) l (.nm U g<|c+1))),(`vk,`(h'.push<|JB .nV (lN R.line) l g F w ((X.mg .oX).getD .cy) O T)),(`vl,`(ao _ .fR (tryCatch (gw [v]<|call .cI [v]) _>>=_) _ _ _)),(`vm,`(Builtin.«list.sort»<|.c [.p .gB] [(o7 "key",.ej)])),(`vn,`(.q (λC o O' j b x J k=>k j b C E J<|a.ext x) a.rt a.bk a.ct)),(`vo,`(ah (rQ U rfl .f<|FC V λL C=>h _ (((o4 ..).extBut.push _).push _)))),(`vp,`(.r<|show .n ((.mA w).w.params.followText "set-order") from Y)),(`vq,`(c_ c Z (J.mono λws O1 #[w,f,k]=>.none (.q rfl w f k)) S d he g)),(`vr,`(.aC (F.drop<|.o4 0 lo)<|.o4 .aE hi-.o4 0 lo)),(`vs,`(.st<|F=[.aG]/\(bf X.K H p k\/c6 X.K H p k)/\Q (.u .js) H)),(`vt,`(L c o (λN=>.qj) (λN=>.qj) (λN=>.qj) (λN=>.qj) q)),(`vu,`({f with heap:=uh (f.heap.push<|.gZ .f6 .oJ) .he})),(`vv,`(.d6 .dO (.nU (λb j q=>.a1 q) ?_) (q _<|.gA _))),(`vw,`(aJ (J pos a s U H _ I h) λb j #[l,P,O,k,M]=>c a j U P l b Q O k M)),(`vx,`(.d6 (.p .fo) (O.laid (.ml<|.a1 e) .ao ?_)<|q _ J)),(`vy,`(qf K .gW "__setattr__"=.b (.b<|.fw "object.__setattr__"))),(`vz,`(⟨.rp,.rp,I.base.free,λb o e D=>?_,I.base.sd,I.base.pv,I.base.px⟩)),(`vA,`(.a3 (.fP=.v)<|.ce=.plain->i.get? b=.v)),(`vB,`(∃a t,.fz p.1=.b a/\(dC g)[a]?=.b t/\mG g s t≠[])),(`vC,`(Sv Q.og.gr.rhs (x:=.hC g) (n:=m)<|by rw[Ij];simp)),(`vD,`(.mg (.u<|lg .N a x) (.jw<|k i Q p .f))),(`vE,`(.n<|x.any λn=>! .dY n ((.aP).map .jc))),(`vF,`(.da (.P<|by rw[R,.r d])<|.aa .V h)),(`vG,`(∀h,h<.o->(.a9<|L h)/\∀z∈L h,-1<=z/\z<256)),(`vH,`(.eD T m.f [.hh,"rules_of"] [.T,.p Y])),(`vI,`(u=[.cq,.eH x,none,none,none]/\y=.cb l.c l.t b)),(`vJ,`(λc V p z s H m I D=>(.g (.dS 5) ?_<|.P .e))),(`vK,`([.b<|W.ref a,.bY b,.b3,none,none,none,none])),(`vL,`((.a9 (.f0))/\.nf<=20/\∀p∈d,p.2<=.bc)),(`vM,`(.e3++(bN r2 cH (eN Wf a (.kX<|Wf a))++iu r3 dE Hb))),(`vN,`(⟨.e,_,_,_,_,_,.ki .bF,.nw,.V,ar.perm fX ?_⟩)),(`vO,`(.n (q.rhs.all<|gj B b)->.n (B.getD q.lhs .j))),(`vP,`(λl c=>match cy g c with|some (.non b)=>lI (dH g b) l|_=>l)),(`vQ,`(.l5 (.bA (.ah<|.kM g a x)) λw=>.aj w END)),(`vR,`(.l5 (.bA (.ah<|.kM g a x)) λw=>.ai 1 w)),(`vS,`(.l5 (.bA (.ah<|.kM g a x)) λw=>.ai 0 w)),(`vT,`(.A (u<p.size) none<|.A (p.number<m^p.size) _ _)),(`vU,`(fz .hd (eQ g s) (.nq g)<|pc (.ib g) i j)),(`vV,`(.og (eX g x n)<|.cN (.m<|altsFor g x .by m))),(`vW,`(∀t s l,tl[t]?=.fS s->.pK t=enc (lU (T rs) s l u))),(`vX,`(∀t l,tl[t]?=.b l->a.getD t 0=enc (.i6 l []))),(`vY,`(.k2 m (ng tl .af nons hw tw<|U::g) .rU)),(`vZ,`(b_<|fG .e .g0 (.e5<|.cX _ .bF .bV ?_))),(`v0,`(.a3 (H b=.hA (.own 0))<|H' b=.hA (.own 0))),(`v1,`(.oa "list_iterator"<|.nM [.dQ,.av 0 0])),(`v2,`(an' "min" ["key","default"] 0<|.c [] [(o7 "key",.cI)])),(`v3,`((toString "min"++toString ".loop":String)="min.loop")),(`v4,`(.j5 (IZ []) (nJ<|aG (.c (rT Jw _)<|o8 anZ ?_)))),(`v5,`(C5 F L jr cl (D++".<locals>.") (.b f) (.p O) none zb)),(`v6,`(ah (nJ<|aG ⟨_,rfl,.nH,_,(.cx .cB),sU.lookup,?_⟩))),(`v7,`((.eA<|.cW λ(p:Nat)=>qc p 0)[(.fl .j4)]?)),(`v8,`(.eZ (.pY λj=>(.i4 j none).map (j,·)))),(`v9,`(dU (.fQ .oE) (.fQ (.P<|W.bl true))<|aW z))]|'w'=>[(`w,`(.inl rfl)),(`wa,`(bq .ar X.w X.K X.mg .dj x G (.L<|ib F) k)),(`wb,`(bq .ar X.w X.K X.mg .dj x G (.L<|f_ F) k)),(`wc,`(∀Hs H σ E,.ns->Acc Hs H O D E->fE X st E σ H)),(`wd,`(∀w,zc e .X w=(do let v<-w;mz e.pos;gw [v]<|truthy v))),(`we,`(λ_ _ x y _ _ g m q=>by cases(g);cases(m);show(.aY .fM))),(`wf,`(.ot af .bL<|pD (.gw s H (jt F cl C .X) a) E M)),(`wg,`(.ot af .bL<|PG (.gw s H (jt F cl C .X) a) c g)),(`wh,`(by let[q,m,rfl]:=.Y Y;let[_,o,h,_]:=x.own.2 _ _ m;lk)),(`wi,`(.jP<|xP (x:=x) (i:=i) (m:=i+c) (j:=j) .a .a)),(`wj,`(.jP<|xO (x:=x) (i:=i) (m:=i+c) (j:=j) .a .a)),(`wk,`(.aM<|(∀a,S (k+1) a->S k a)->∀a,S (k+2) a->S (k+1) a)),(`wl,`(λn=>let⟨l,d⟩:=J n;(.m8 l (bC (d i c)<|C9 _ _)))),(`wm,`((I.aL b u e).jX (λc v V q=>k c v ?_ q) (λ_ q=>q) λ_ _ q=>q)),(`wn,`(TJ (.type T) "__getitem__"=.aL (.b<|.fw D))),(`wo,`(Inv (.gw f E ce a) [] (wipe U (own.map .jj)) H' s')),(`wp,`(.iE y=.n1/\(E.kindOf y=.iN\/E.kindOf y=.n1))),(`wq,`(.I (.u .js) H .if (.c (.cw+1) .d) q)),(`wr,`(aJ (J pos a s U H _ I h) λm j #[n,P,O,r,q]=>(.bM O.iH))),(`ws,`(DT J Y I h λv u d x y n L S Z q=>l c d U n x y v u Q L S Z q)),(`wt,`(.eS H' {s with heap:=h',gens:=g',drawn:=d',toks:=t'})),(`wu,`(.qw (.ai (lg .N a x) 0) .aH .M)),(`wv,`([.u 0]++tw.map .cJ++[.ip<|y.map aa])),(`ww,`(0::(shownCount p.2++toInts ((.m p.1)::p.1)))),(`wx,`(Bw (.eo .dm) .e (.cE fq) .f)),(`wy,`(((dQ g<|c/16).rhs.map eh)[c% 16]?=.kE sy)),(`wz,`(λa J b Y e=>by simp at Y;subst Y;subst e;show q J)),(`wA,`((d,W.dK ((ks++[k]).map kI)<|(qs++[p]).map .c4))),(`wB,`(qh pos f a (.lK pos<|e::es)<|.pJ pos)),(`wC,`(Y rfl A P U I.ok _ (.jh<|q y F n .cO m))),(`wD,`(.sp (ft u) h (yP u)<|.rC (tN e) m rfl)),(`wE,`(.fK .e .e _ .iD (qR .qL) ?_)),(`wF,`(.en _ (.dS 2) (.nB 3<|.iB 4))),(`wG,`(qh pos f b (.lK pos<|e::es)<|.pJ pos)),(`wH,`(.bN [.K x,.qg c.g g D Q,.b<|gh r])),(`wI,`(λc hc=>.dJ (ok.wf.non ru rm c<|sub _ hc))),(`wJ,`(I.co u r .kK c t (.z<|.aw t) .oD)),(`wK,`(z∈Wf c\/∃o,bz (Eg<|.hM Hb) c o/\z∈Wf o)),(`wL,`(y∈G\/(y∈F c\/.n (.i4 c .j)/\_))),(`wM,`(aX (.bw (bV<|lh N D (1+(i+1)) b)) .jW)),(`wN,`(λ_ _ _ {_,_,{_,_,_,_,_,_,_,_,e,_},_}=>.dR)),(`wO,`(λp R _ _ _ _ _ g a=>(.c (.nv 1 2) .e))),(`wP,`(λs=>match s with|.range a b=>fh (a,b)|_=>.non)),(`wQ,`(all_false c (p:=gj d b)<|by simpa[gj] using z)),(`wR,`(.n<|mayFollow (followOf g) (.kO g x) b)),(`wS,`((JL t i).find? (.cN<|m.kind==1&&m.over==k))),(`wT,`(.A (has .C s) (lI (nonsIn .O) s) s)),(`wU,`(∀b v,.ad (F b v)->.ad (.cM b v))),(`wV,`(256<(.m<|addAll D (.pA<|.fB x n)))),(`wW,`(.d0 (parts .B x r (i+c) j)<|[(b,i,i+c)]++p)),(`wX,`(F8 (g:=g) (x:=x) (s:=[n]) .f (.qQ+1) 0)),(`wY,`(Fh V t (uS .E) Q gB.ok pL.ok eB.ok T p u hs)),(`wZ,`(∀(i:Nat) v,vs[i]?=.aO->∃t,v=.gy i)),(`w0,`(g.update .gB<|kE (.P<|.eA [v,x]))),(`w1,`(ao _ .fR (tryCatch (nG<|.p I) _>>=_) _ _ _)),(`w2,`(∀H',Le H H'->∀Q,.eY d H'->cE X e U H' Q)),(`w3,`(∀ks:.y Key,.fb (.dk kW) (.dk kV))),(`w4,`(.n k->.kJ u O1 g (.ph<|.jH o))),(`w5,`(R1++(.dy q .hD)::(R2++(.iv cs++R3)))),(`w6,`(.aU (.dY k<|kL (λi=>c.getD i 0) .c9))),(`w7,`(.e2 (! .mC)<|! t.plain&&.bC (.c8>1))),(`w8,`(.a3 (b<.G)<|.eM=.v->.eT=.v)),(`w9,`(q _ _ O b H .fJ (by rw[d.len];rfl) .bW))]|'B'=>[(`B,`(g.rules))]|'C'=>[(`C,`(r.lhs))]|'E'=>[(`E,`(cE.ok))]|'G'=>[(`G,`(s.heap.objs.size))]|'M'=>[(`M,`(λz=>?_))]|'N'=>[(`N,`(aC g))]|'O'=>[(`O,`(r.rhs))]|'Q'=>[(`Q,`(by tm_at "sc"))]|'R'=>[(`R,`(s.heap))]|'S'=>[(`S,`(.y Int))]|'T'=>[(`T,`(.p a))]|'V'=>[(`V,`(by decide))]|'W'=>[(`W,`(x.length))]|'X'=>[(`X,`(X.env))]|'b'=>[(`bb,`("numbers")),(`bc,`(TT.END)),(`bf,`(g.rules.length)),(`bk,`("holder")),(`bm,`(by rfl)),(`bo,`(by tm_at "nb")),(`bp,`(ws.length)),(`bq,`(.y Sym)),(`bs,`(.Az p)),(`bt,`(.b x)),(`bx,`(cB g)),(`by,`(.AN x)),(`bD,`(vs.length)),(`bE,`(a.length)),(`bF,`(.here)),(`bH,`(.eA [])),(`bK,`(.jd Nat)),(`bL,`(.y af)),(`bP,`(.n X.calm)),(`bU,`(.x e)),(`bV,`(by tm_at "z")),(`bW,`(.a5 rfl)),(`b1,`(.y aw)),(`b2,`(.y bw)),(`b3,`(.K q)),(`b4,`(.lT e)),(`b5,`([.eF])),(`b6,`(.iR j)),(`b8,`(.y .h))]|'c'=>[(`cc,`(tl.length)),(`ce,`(o.data)),(`ch,`(.i9 z)),(`ck,`(g.toArray)),(`cl,`(m.toNat)),(`cm,`("text")),(`cn,`(.p J)),(`cq,`(.K a)),(`cr,`(.nu z)),(`cv,`(X.bW.cl)),(`cw,`(s.toks)),(`cy,`(.none)),(`cA,`(.b c)),(`cB,`(.tW _)),(`cC,`("self")),(`cD,`(.x .a)),(`cF,`(Hp->Prop)),(`cG,`(toNats x)),(`cI,`(.p q)),(`cJ,`(W.int)),(`cK,`(.r e)),(`cL,`(.b p)),(`cO,`(I.trans S)),(`cP,`(.b .local)),(`cR,`(⟨g⟩)),(`cS,`(j.length)),(`cU,`(b.length)),(`cY,`(.F rfl)),(`cZ,`(Hp-> .AE)),(`c0,`("tail")),(`c1,`(.y bU)),(`c2,`(W-> .fq)),(`c4,`(W.ref)),(`c8,`(es.size)),(`c9,`(c.length))]|'g'=>[(`ga,`(.mz es)),(`gc,`(.ub a)),(`gd,`(λf v A U s H E ws O F Z h=>?_)),(`gf,`(r.le S.ext.le)),(`gj,`(.bl true)),(`gp,`(Nat-> .h)),(`gu,`(.AR g)),(`gB,`(B.objs.size)),(`gF,`(ks.length)),(`gH,`(m.length)),(`gM,`(A.units)),(`gN,`(.n .j)),(`gO,`(.r rfl)),(`gP,`(TT.WF g)),(`gT,`(.Z ws)),(`gW,`(.p C)),(`gY,`(⟨.e,_,_,_,_,_,.bF,.nw,.V,?_⟩)),(`g0,`(by tm_at "m")),(`g6,`("nonterminals"))]|'i'=>[(`if,`(I.tok _)),(`ih,`(J.take i)),(`ii,`(l.take i)),(`ij,`(.y Bool)),(`ik,`(ah .dC)),(`il,`(.lL rfl)),(`im,`(.y Env)),(`io,`(.z .bW)),(`ir,`(.aR Int)),(`iw,`(this.2)),(`ix,`(I.bare)),(`iy,`(.Z [])),(`iz,`(jV rfl)),(`iD,`(.there .here)),(`iI,`(.H A.handled)),(`iJ,`(s.take i)),(`iL,`(by cases h)),(`iM,`(.aY ?_)),(`iN,`(.b .cell)),(`iP,`(.kX .mL)),(`iQ,`(I.ok.hd V)),(`iU,`(r.length)),(`iV,`("number")),(`iW,`(B.typeIs)),(`iX,`("signs")),(`i7,`(.t2 es))]|'k'=>[(`kd,`(X.gK.cl)),(`ke,`("found")),(`kf,`((b:Int))),(`kg,`("texts")),(`kh,`(X.stack)),(`kj,`(.ca .ap)),(`kn,`(f.heap.objs.size)),(`kr,`(λ_ z=>(nomatch z))),(`kx,`("piece")),(`ky,`(.nil k)),(`kz,`(d.parted u)),(`kD,`("refusal")),(`kK,`(f.length)),(`kL,`(((·.lhs)))),(`kT,`(p.2.lhs)),(`kW,`(.Ay X.w)),(`kY,`(by rw[e,C];rfl)),(`k0,`({s with heap:=h'})),(`k5,`(g.toArray.size))]|'l'=>[(`la,`(bf.of .h0)),(`lc,`(V.bl true)),(`le,`(by simp[e])),(`lf,`(K w.params)),(`lh,`(es.length)),(`li,`(qs.length)),(`lj,`(us.length)),(`lk,`(rs.length)),(`ll,`(.function)),(`lm,`(Int->Bool)),(`ln,`(.b .eW)),(`lo,`(.e5 .ky)),(`lp,`(.je .ky)),(`lv,`(Q.length)),(`lw,`(ma .a)),(`lD,`((k:Int))),(`lF,`(.na .cl)),(`lJ,`({s with heap:=h',toks:=tk})),(`lR,`(J.heap.objs.size)),(`lS,`(by simp[cq];lia)),(`lV,`(by rw[dZ];lia)),(`lW,`(by kernel_rfl)),(`l1,`(.type .dI)),(`l6,`(W->Prop)),(`l7,`(ks.zip vs))]|'m'=>[(`mc,`(TT.T .B)),(`mf,`("follows")),(`mi,`(pos.line)),(`mp,`("firsts")),(`mq,`(s.map da)),(`mr,`(((·<=·)))),(`ms,`(nj .a)),(`mt,`(.h->Nat)),(`mu,`(t.place)),(`mC,`(w.params.followText ("set-order"))),(`mF,`(E.cells.lookup y)),(`mK,`((x.length:Int))),(`mL,`(F t.lhs)),(`mM,`(g.rules.take i)),(`mT,`(.cg ((0:Nat)))),(`mU,`(d.without u)),(`mX,`(mz j.atName)),(`m1,`(by simp[z])),(`m2,`("reversed")),(`m5,`(.tY D.line)),(`m7,`(t.fits .c8)),(`m9,`(f.toArray))]|'n'=>[(`nd,`(.nx .a)),(`ne,`(((·.kids)))),(`nf,`(d.length)),(`ns,`(.Be Γ)),(`nt,`(.cN (.A (m=n) (df A)<|.n4 x m))),(`nw,`(by tm_at "fp")),(`ny,`(λ_ _ _ {_,_,{_,_,_,e,_},_}=> .dR)),(`nz,`(λ_ _ _ {_,_,{_,e,_},_}=> .dR)),(`nG,`(.tX g)),(`nH,`("set_iterator")),(`nQ,`(a.kids.length)),(`nR,`(by rw[aj];rfl)),(`nV,`("<lambda>")),(`n1,`(.b .free)),(`n7,`(κs.zip us))]|'p'=>[(`pb,`(cH.map .c4)),(`pd,`(b.trans a)),(`pg,`(λ_ _ _ {_,_,{_,_,e,_},_}=> .dR)),(`pi,`(λf v A U s H E b O F Z h=>?_)),(`pj,`(X.iG.heap.objs.size)),(`pl,`(ns.map V.int)),(`pm,`(λ_ _ _ {_,_,_,e,_}=> .dR)),(`pq,`(.z (by rw[dR,a_];rfl))),(`py,`(es.toList.map .jj)),(`pB,`(.h->bE)),(`pC,`(by simpa using z)),(`pD,`(O.aL.fresh .ao)),(`pG,`(.gh (by rw[aj]))),(`pN,`("alternatives")),(`pO,`(S.ok.box V.mem)),(`p1,`(.qu .gu)),(`p6,`(.qF D [e] (! x.1)&&.qC D .ql)),(`p7,`(.I (.u _) H .if (.a5 _) q)),(`p8,`(zr (.mA w) A f λe J=>R (.error e) J)),(`p9,`(cp (by rfl)))]|'q'=>[(`qb,`(λ_ _ _ {_,_,{_,_,_,_,e,_},_}=> .dR)),(`qi,`({s with heap:=h,toks:=tk})),(`qj,`(Y (by simp[N]))),(`ql,`(x.1.isSome)),(`qq,`(g.le S.ext.le)),(`qs,`({rule:=p.1,kids:=l})),(`qv,`("dict_keyiterator")),(`qy,`(.u ((a.toNat:Int)))),(`qz,`(λr Z=>(by cases Z))),(`qA,`(.P .gj)),(`qI,`(d.g.rules.length)),(`qJ,`(by rw[e];show oY)),(`qL,`(by rw[aj];lia)),(`qM,`(followStart g)),(`qN,`(by rw[Q.eg];rfl)),(`qQ,`(.m .nG)),(`qY,`(.hV .iD)),(`qZ,`(.nK .ud)),(`q0,`(.m .ud)),(`q3,`(.ei (.aC (.kQ g n) j) cb b)),(`q4,`(TT.loose d.tl .hj (.fI [])<|.gJ [])),(`q5,`((gZ Z).toList.map (.ah<|adr x.2))),(`q6,`(.sB (sp vs H Q E)<|.bD=.dW)),(`q7,`(gY (.kn+1) .he<|.re .he [])),(`q8,`(∀b F,H b=.ep F->H' b=.ep F))]|'r'=>[(`ra,`(λ_ _ _ {_,_,_,_,_,e,_,_,{_,_,C,_},_}=> .kY)),(`rc,`(λf f6 A outer s H E ws O Kk hr h=>?_)),(`ri,`(λ_ _ _ {_,_,_,_,_,_,_,e,_}=> .dR)),(`rk,`(λ_ _ _ {_,_,_,_,_,_,e,_}=> .dR)),(`rl,`(λf v A U s H E c O F Z h=>?_)),(`rm,`(λf v A U s H E t O F Z h=>?_)),(`rp,`(λb o e n Y D=>?_)),(`rt,`(by unfold i_;rw[dS,dS,yX])),(`rv,`(by rw[d] at z;cases z)),(`rx,`((g.nons:Int))),(`ry,`(I.mod.glob.keeps I.bk)),(`rG,`((.N).rules.length)),(`rH,`(.u ((m.toNat:Int)))),(`rI,`(aF (by tm_at "e"))),(`rL,`(⟨i.d,i.a,N,o,i.fa,ks,i.kp,us,Y,pr,max i.M .cl⟩)),(`rM,`(⟨i.d,i.a,N,o,i.fa,i.ks,i.kp,us,i.sz,i.pr,i.M⟩)),(`rN,`(.A3 gF (.oM oF .cn J _ rfl) .w (.qe _) rfl)),(`rO,`(.aC (.b9 (.aC (nA d.g n.1) i)<|rD d.g x n) u)),(`rP,`(.ei (.aC (ek .B T i) j) (λd t=>g_ d<|.qW t) [])),(`rQ,`(.kw (0<gp T J) (.jn (p.1,.ji<|gp T J*p.2)) [])),(`rR,`(.d0 (d.take j) (p.1,.ji<|gp T J*p.2))),(`rS,`(.dx (.ub b)<|.bO (has j<|wO x .by r q))),(`rT,`(∀(t:Nat) b l,tl[t]?=.fS .eW->b<nons)),(`rU,`(fL (tw<|.nm U g 1) 1 (bL .cc 0) (k9 tl .af<|.fX (U::g) 0))),(`rV,`(t (.t1<|Q .non H') (start N vs) H)),(`rW,`(.jT (gA lo hi∈l)<|(lo,hi)∈dh g)),(`rX,`(CD.O q.c q.t i.d i.a i.hd i.td i.us)),(`rY,`(mW .bo (w:=ai .aP) .rN .w)),(`rZ,`(.ea (0<=a/\a<.rx) (0:Int)<|-4)),(`r0,`(FO J.c J.t J.f d (jn d) a N o b I y r Y g)),(`r1,`(⟨.e,_,_,_,_,_,.qY,.nw,.V,?_⟩)),(`r2,`(D.filter λn=>.ai 1 (.m<|o n))),(`r3,`(FO T.c T.t T.f d M a N o b ks y us Y g)),(`r4,`(.dx (aq B) (.aU<|!(.nK<|d k)))),(`r5,`(.dy q<|aX (λa=>dO<|tM g T W a) i)),(`r6,`(nodesBelow (.ig g x) (.qQ+1) [n])),(`r7,`(.g4 (.nE<|.l2 ([]:.b1)))),(`r8,`(uh (.oa .f6 .oJ) .he)),(`r9,`(show g.toArray.any _=g.any (qz x) by simp))]|'s'=>[(`sa,`(A.under (.tZ<|.c (.gW::us) a))),(`sb,`(.j0 (.fP=.aJ)<|.eT=.aJ)),(`sj,`(λ_ _ _ {_,_,_,_,_,e,_,{_,_,_,_,_,_,_,C,_},_}=> .kY)),(`sm,`(λ_ _ _ {_,_,_,_,_,_,_,_,_,_,_,_,_,e,_}=> .dR)),(`so,`(λ_ _ _ {_,_,{_,_,_,_,_,_,e,_},_}=> .dR)),(`sq,`(λ_ _ _ {_,_,_,_,_,_,_,_,_,e,_}=> .dR)),(`ss,`(λf f6 A U s H E ws O Kk Z h=>?_)),(`sw,`(λf v A U s H E d O F Z h=>?_)),(`sx,`(λf v A U s H E g O F Z h=>?_)),(`sy,`(λf v A U s H E n O F Z h=>?_)),(`sz,`(λ_ _ _ {_,_,_,_,_,e,_}=> .dR)),(`sJ,`(.iO .cn (aM [a,m])<|.ay ⟨J,g,i,_,_,rfl,rfl,Q,(.fG a m),.ow<|k j L p d⟩)),(`sK,`(.cV 2 (.u<|.o1 a m) (.jX (G' X)<|.f5 (.hO g) (.oM oF .cn J _ rfl) (.e7 (aM [a,m])<|.a5 ⟨[a,m],a,m,.N,.aP,fM g,rfl,rfl,rfl,.a,rfl⟩)))),(`sL,`([aa<|.A (a.rule==b.rule) 2 1]++[aa n.1,aa .a0,aa .aZ])),(`sM,`([.jt g sg co,.jo<|gP g,.b (mf<|eC (gP g) .o),none,.pZ<|.is h,.b3,none])),(`sN,`(Γ=[.cq,.b3,.J<|1+i,.kE J,.J (.jp<|1+i),.K u,none,none])),(`sO,`(∀v w O' j H',bB U u Hs H O j H' O'->Rep j w v->K w O'->Q v H')),(`sP,`(.e2 ((.cj<|.q2 0)==0&&(1:Int)==1)<|(.qr .hX hi-.q2 0)==.hX)),(`sQ,`(.lb (bH f s []) (Uc f l b) (.eC (.n<|sC b s)<|aU f l []))),(`sR,`(.aC (items.toList.drop<|.q2 0)<|.qr .hX hi-.q2 0)),(`sS,`(.oa .es<|.nM [.gy lo,.av hi u,.av 1 v])),(`sT,`((b∈X.ex\/.pj<=b)/\b≠.eB/\(∀x c,.g3 x=.cA->c≠b)/\∀p∈X.pn++pins,p.1≠b)),(`sU,`([(.eD J q.h oF [.hO g,.p i.a,.p i.fa])])),(`sV,`(.rd (aM [a,m]) 0 (.u a) .e .w rfl)),(`sW,`(.mg (.u<|.o1 a m) (.jw<|k i Q p .f))),(`sX,`(.qw (.ai (.o1 a m) 0) .aH .M)),(`sY,`([.hh,.iX,.cm,.an,.eI,"tries"])),(`sZ,`(.A (p<=k/\k<p+j) (.pa g k++[c+1])<|.pa g k)),(`s0,`(.t6 (h<|j5 λr Z=>dW (.s (q<|.g r Z z))))),(`s1,`(.oo b []*enc (W l)+enc (H b)*enc (.i6 l []))),(`s2,`(XG (.hv F s H C cl a) (qQ u vs) c (f x) (Z x) vs)),(`s3,`(.g7<|kQ f v _=(.ea (k=f) ((k,v)::r)<|(k,x)::_))),(`s4,`(.dh+1+.gH+(.m<|rowOf (iU n).2 x))),(`s5,`(C++((.jf<|.ni c)::(.ni c)))),(`s6,`((x.all (.s<|uz z))&&.iZ .W 2000)),(`s7,`(⟨j.d,j.a,hd,o,j.fa,ks,j.kp,us,sz,j.pr,j.M⟩)),(`s8,`(⟨i.d,i.a,N,td,i.fa,i.ks,i.kp,us,i.sz,i.pr,i.M⟩)),(`s9,`([.cC,.c0,"node",.cm,.eI]))]|'t'=>[(`ta,`(FO p.c p.t p.f d M a N o fa ks y us Y g)),(`tb,`(((rz g).map cV)[c/16]?=.jV (dQ g<|c/16).rhs)),(`tc,`(eR tl .af (cD g []) (c9 g tl [])<|.cc-1)),(`td,`(qh pos f b (.lK pos [])<|.pJ pos)),(`te,`(G.foldl (λacc o=>.ei (Wf o) bD acc) acc)),(`tf,`(∀z,ml F .gu .O z->z∈F .C)),(`tg,`([.jV l,.K r,.qu b,.K p])),(`th,`(.iZ (.cg p.1) c&&.iZ (c:Int) p.2)),(`ti,`(.ef (λa n=>.A (kK n a) a<|a++[n]) acc)),(`tj,`(.bu (b<nons)<|i.getD b 0=.oo b [])),(`tk,`(bH (T rs) (.eb x A)<|.aC (U::g) 1)),(`tl,`(G++(.eA [eV R.line,eV R.col,.p O]))),(`tm,`(.fQ<|.s ((.ls z),.lc))),(`tn,`(.a3 (.eM=.v)<|.eT=.v)),(`to,`(.gZ .f4 (.l2<|k.map λ(i:Nat)=>eV i))),(`tq,`(λx M=>bf.of (M _ _<|(x.le _ _ Z).lst .e1))),(`tr,`(.ua<|Ext A P o F n j->h7 F n->bf X.K n p a)),(`ts,`(.qF gG [e] (! x.1)&&.qC gG .ql)),(`tt,`(qi x D (qC Z) (jd Z) (aI Z) .cy i r m L v C)),(`tu,`(.g .bH .d<|.qU λ_ _ e=>e)),(`tv,`(gY (.G+1) .he<|.re .he [])),(`tw,`(jy .ar X.w X.K X.mg .dj c k f b g sp)),(`tx,`(qf K .gW "__init__"=.m3 f)),(`tz,`(mo (st.2.map .h1)<|mq g L st.1)),(`tA,`(FO C T f d (jn d) a N o b i y e Y g)),(`tB,`(.be c.first.rule c.second.rule)),(`tC,`(.am [aa n.1,aa .a0,aa .aZ])),(`tD,`(fk .o (iL .B .mc a)<|G a)),(`tE,`(λb e=>(Q.syms _ (bb M) J .f).1 b e)),(`tF,`(["totals",.e0,"tails","rest_ways"])),(`tG,`(.aC ((fi G).zip (fi G).tail) i)),(`tH,`(.eC (.C=a)<|Uc f .O b)),(`tI,`(T .B n.1<|.eJ .a0 .aZ)),(`tJ,`((.nO x r q j).map λl=>(b,i,q)::l)),(`tK,`(.j5 (UC .eE 1 1 _) .dC)),(`tL,`(.fK F (i.trans S) _ rfl .qq m)),(`tM,`((! t.plain&&.bC (.c8>1))=.j)),(`tN,`((.oy I (wK (.pk 0<|eV k))))),(`tO,`(wa=.non/\.n b\/wa≠.non/\b=.j)),(`tP,`(.q C _ (L.unlock e M<|I.xE N M) q)),(`tQ,`(.iG elt [(.q tg P ifs 0)] F)),(`tR,`(mL CX P w K X i N D F f z A U s H E)),(`tS,`(G.2 b (.mh e<|I.ok.xf x c DK V)))]|'u'=>[(`uc,`(.type ("method_descriptor"))),(`ud,`(.Bd [])),(`uf,`(.f5 (.u a) (cM (w:=aM [a]) (k:=0) .e .e .w rfl) (.e7 (aM x)<|.ay ⟨J,g,i,_,_,rfl,rfl,Q,(.aW a x D rfl),.ow<|k j L p d⟩))),(`ug,`(XE.xv<|dM (Ie X) .j3 .az (w:=.cn) .e (.cE J) .fY (.d9 (aa .cl) (.bi (.rd (aM [a,m]) 1 (.u m) .e .w rfl) I)<|.ay ⟨J,g,i,.cl,rfl,rfl,.a,h3,rfl,rfl⟩))),(`uh,`(dM (Ic X) .j3 .az (w:=.cn) .e (.cE J) .fY (.d9 (ai .cG) (.k1 (aM x) G)<|.ay ⟨J,g,i,.cG,rfl,rfl,Q,M,.a,rfl,rfl⟩))),(`ui,`(∃h' tk acc O,r=.n2 .dO/\J=.lJ/\.i8 h'/\.lE .G=.b (.t8 (.seq acc O) .bH)/\ItemsOf (λi v=>∃t,v=qc (0+i*1) t) acc n)),(`uj,`(.g (λb u h=>k5 N b u<|.gq _ h) (s.own.le .er (.dz<|by let[[_,c],m,rfl]:=.Y R;show(s.own.2 _ _ m).1) λb _ u h=>k5 N b u h) s.env)),(`uk,`(.oz .ns<|∀R:It->.cF,(∀J ws O1 mU H1,bB σ Γ Hs H O mU H1 O1->jF J ws mU H1 O1->K ws O1->R J H1)->cI X tg it σ H R)),(`ul,`(.oz .ns<|∀Q:.au->.cF,(∀vs ws O' cU H',bB σ Γ Hs H O cU H' O'->aP cU ws vs->K ws O'->Q vs H')->cA X es σ H Q)),(`um,`(.dx ((eX g x<|.dr a).map (.cN ((.qp x m):Entry))) λe=>.ai 1 e.alts.length)),(`un,`(λb l=>0::toInts [(tally g b l).texts,(tally g b l).covered,(tally g b l).several,(tally g b l).endless])),(`uo,`(iM (dM (Q4 X) X.l_.cl .az (w:=.oK g) .e .e6 .fY<|.nW (da c) (.gs rfl _<|.aW g c Y rfl)).xv)),(`up,`(jK .al x j n l .ih++(.aC (fz .al n l<|.jB r.2 j) m).map (.bg (r.1++gi n r.2 c,r.2+c)))),(`uq,`(.b9 (aq 25) λi=>.dt 25 λj=>(t,eD x i j))),(`ur,`((.e9 ((h:Int)∈.is h) _ _)=_)),(`us,`(tL (Cb X) .cv .az .e l0 (.iq<|.gE J T rfl I λb' e=>by rw[Cd];show hs b' e))),(`ut,`(Γ=[.jt g sg co,.p1,.K r,.jo<|hH g,none,.K r2,.K r3,none,none,none,none,none])),(`uu,`(.D (uJ D3 (Oa F a S hs) DM λ_ _=>rfl)<|hi d H U s _ (.q1 ⟨r,t n,_,_,_,rfl,rfl,Ob F a P,cR rfl,q _ A P I rfl⟩))),(`uv,`(ic prog w h' .G (ow w) (λj=>(kL (λi=>.o6 0) .hX).any (·==j)) (.m<|kL (λi=>.o6 0) .hX))),(`uw,`(λy l z=>(.c z.1<|.AU (z.2 a<|f x M) x.le))),(`ux,`(q _ ws O1 A P I (jF.plain (λi w F n o j g x M=>?_) λF n o j x M=>(.g a (f x M)<|by rw[b.len];lia)) k)),(`uy,`(∀Hs H σ O v,.ns->.fm w->∀Q:L2.St->.cF,(∀σ',.rg σ' Γ'->Ag js σ σ'->Q σ' H)->cG X tg v σ H Q)),(`uz,`(hi b H U s _ λy A P I g=>l A P U I.ok _ (.t5 (N.get S.ok m .qq) ⟨a,v,rfl,B,_,rfl,.jR (Fo z)<|q F n .cO⟩))),(`uA,`(.oz .ns<|∀Q:Bool->.cF,(∀cU H',bB σ Γ Hs H O cU H' O->Q b H')->cT X e σ H Q)),(`uB,`(.oz .ns<|∀Q:VK,(∀v cU H',bB σ Γ Hs H O cU H' O->Rep cU w v->Q v H')->cE X e σ H Q)),(`uC,`(.oz .ns<|∀Q:VK,(∀v w O' cU H',bB σ Γ Hs H O cU H' O'->Rep cU w v->K w O'->Q v H')->cE X e σ H Q)),(`uD,`(.st<|F=[.aG]/\((bf X.K H p k/\∀l,.bI l->.eY l (.a8 l<|.am k))\/(c6 X.K H p k/\.gQ H)))),(`uE,`(Q (.av (g i j) .cw) (.mJ<|.cw+1)->.g5 X.A (f (.gy i)<|.av j u) Q E s)),(`uF,`(⟨Q.mod,Q.kind,Q.glob,Q.blt,Q.above,Q.inj,Q.has,Q.xf,Q.hd,Q.frames,Q.Ae,Q.Af,Q.bs,Q.nQ,Q.xg,Q.xh,Q.lO,Q.se,Q.tab⟩)),(`uG,`(∀{A} {x y} {u v} {Q},.gM<eE->ja knd .R x u->ja knd .R y v->Q (.aj x y) s->.ci (y6 u v))),(`uH,`(λb l=>0::toInts ((.m<|zU g b l)::.b9 (zU g b l) (.as [p.1,p.2])))),(`uI,`((((.fa .kL).zipIdx.filter (.ah<|x.1==b)).map (.ah<|fh (x.2,0))))),(`uJ,`(.aA (.bX (.ai .mT (.cg<|.b0 _)=_)<|.iC uv)<|Rn _)),(`uK,`(jH d.tl .hj (.fI (.aC (U::g)<|1+i))<|.gJ (.nm U g<|1+i))),(`uL,`(.nl a .cv _<|vx (k:=ft []) (u:=ai<|.gJ []) R .oh .oh λo=>.gY)),(`uM,`(.nl a .cv _<|vx (k:=ft []) (u:=ai<|.fI []) R .oh .oh λN=>.gY)),(`uN,`(u=[.jt g D co,.p1,.jo<|hC g,none,.K r,.nc T,none,none])),(`uO,`(.bg (bV<|nu N D (1+i) c++.ea (T<=c/\c<T+j) [(1+i,.jp<|1+i)] []))),(`uP,`(.P<|b_ (fG .e .g0<|.e5 (.cX _ .bF Y<|.eG (.aY<|by rw[c];rfl))))),(`uQ,`(.aD (P<|.eW::l) (.lb (.cM b []) (W l)<|.ia (H b) (T rs) l []))),(`uR,`((I.aL b u e).jX (λc v V q=>k c v ?_ q) (λc q=>.lO<|gC q t) λc F q=>.lO (gC q t))),(`uS,`(H p=.ep [.u (g p).1,.u (g p).2])),(`uT,`(ah (Ja<|wG (name:=o7 "__next__") (sV U) sU (lC sU (sV U) NB (NF U H J ?_)<|ND _)))),(`uU,`((mL lR P w K X i N q (aI Z) f v A U s H E).nV)),(`uV,`(∀T Y c,augStore i T Y c=(do gw [c,T,Y] (ze T Y c);IF [c,T,Y] [];.aL .next))),(`uW,`(.c (.z (.g rfl h<|bf.of L))<|he A P U I.ok _ λv w O1 F n S m z=>?_)),(`uX,`(λc H U x y Q s g m q=>(.ab i j g m V<|q _ (.u _) _ c H .fJ rfl .bW))),(`uY,`(.st<|F=[.aG]/\(bf X.K H p k\/c6 X.K H p k)/\∀l,.bI l->.eY l (.ie l k))),(`uZ,`(.ef (λb p=>.ei (Di x c s p.1) (λa q=>nN q.1 (.ac p.2 q.2) a) b) b)),(`u0,`(.ac (bH f s<|.et c) (.mS (aU f l<|.aC (u.drop c) e) f m<|c+e))),(`u1,`(.a4<|.q (J b Y).2.2.2.1 (J b Y).2.1 (J b Y).2.2.2.2.1 (J b Y).2.2.2.2.2)),(`u2,`(aJ (hi b s U H _ I h) λe j #[y,P,O,Z,M]=>aJ (l b j U P _ O M) λu d #[x,n,L,S,a,T,G,g,B]=>?_)),(`u3,`(aJ (h pos a s U H _ I f) λc j #[F,P,O,r,z,q]=>(.bM<|by rw[<-r.length];show z))),(`u4,`(.d8 p.1=.b p.2/\.bI p.1/\p.1≠.eB/\p.1∉X.fs/\∀v,p.2.data≠.cell v)),(`u5,`((∀k∈a,ku g k)->(∀k∈l,ku g k)->∀k∈.ef cb a,ku g k)),(`u6,`(λy=>.mI .cR a<|.b7 (nO m) [-5] (.b7 (r8 t) [-6]<|F y b))),(`u7,`(.mI .cR a<|.b7 (nO m) [-5] (.b7 (r8 t) [-6]<|F b))),(`u8,`(Γ=[.ma g,.b<|i4 (s,J),.pZ<|L h,.K p,none,none,none])),(`u9,`(.c5 (.bA<|.ah (aa<|.ic .al h x))=ai (iw d h l)))]|'x'=>[(`xa,`(λq h t Z B a f k=>(.ab h t Z .pd f k))),(`xc,`(f.nx _ _ _ _ _ ((.aA (.fZ M) g).ext) g.ok k)),(`xe,`(.n k->.kJ u O g (.ph<|.jH o))),(`xf,`(mR .ar X.w X.K X.mg .dj C x G (.L T) k)),(`xg,`(J c H U s _ (.dU (.bZ<|by rw[M6 r h];lk)))),(`xh,`(.dL (.as<|.ac p.2 (eK D<|Di x c s p.1)))),(`xi,`(.qn (.A (.C==a) (lI (f r) l) l) acc)),(`xj,`(.gk n<|.bw (.ac (Uc f l b)<|f b u))),(`xk,`(.nC (λb ob Y e=>.hg b Y e) B z L O f5)),(`xl,`(aY (.s<|by rw[z,h] at q;cases q;show M))),(`xm,`(.a3 (b∉ch)<|.eM=.v->.eT=.v)),(`xn,`(λp q=>p.1=q.1/\iF H q.2.1 p.1/\RelV p.2 q.2.2)),(`xo,`(.bC (y.1∈.bA .fr)||.bC (y.1∉N))),(`xp,`(compPost .kW X.A X.xe use Qf (.p D) .kn)),(`xq,`(.aa (show p∈([]:.kU af)++[] from R) .f)),(`xr,`(.j0 (b≠e)<|.fP=.aJ->.eT=.aJ)),(`xs,`(.a3 (.cu b=.v)<|o.cls≠.l1)),(`xt,`(λv H'=>Dw K H' v (.list<|(JY ns).map Aa))),(`xu,`(zM g.heap c Q/\.mW Q=.b (JZ .bH))),(`xv,`(.e8 (.nE<|.seq .hF) .o9)),(`xw,`(QT Q Z.1.1 (.d2<|by rw[e];simp[T]) J)),(`xx,`(.lq (.t7 .hd (.hC g) n) D)),(`xy,`((.m<|qb g .cl)=(.m .lF))),(`xz,`(.mI .cR a (.b7 (nO m) [-5]<|F b))),(`xA,`(x.any (λn=>.ai n 0||.ai 255 n))),(`xB,`([.u 0,.u (.m<|.cp .aP)])),(`xC,`(.dx (aq B) (.aU<|!(.nK<|f k)))),(`xD,`(.bN (.b0<|.nX (c k) .O))),(`xE,`(.dx (gP g) (.bN<|.aj .C h))),(`xF,`(.np .ur<|.hm (m<|mh.mp z))),(`xG,`(.dt n<|.aQ (.cg<|TT.sizeOf d h))),(`xH,`(.ei (.c3<|i+1) (g9 d G b)<|bL n 0)),(`xI,`(.ba 3<|Nq .bo .e .w .fd)),(`xJ,`(.ks u ((.hT C Y)::R) o .T)),(`xK,`(.d2 ((vX Q.wf Z.1 .d).mpr<|R y T))),(`xL,`(.po (.pu 2) (bY<|.m0 .bs))),(`xM,`(aX (.bw (bV<|lh N D (1+i) b)) .jW)),(`xN,`(ff (Qm X) .bV (.jC<|.ht h g D Q))),(`xO,`(λs=>match s with|.range _ _=>true|_=>false)),(`xP,`(w6 g (dC g) f i (.dk<|bA g) J=.b t)),(`xQ,`(PH u w λa d G=>PJ w R.1.1 (lo:=a) .d)),(`xR,`(by change .h7 noBytes i↔_;rw[pU];simp)),(`xS,`(.qn (.A (c r) (either (f r) l) l) m)),(`xT,`(.more (by rw[BQ G .a M,.r c]) this)),(`xU,`(∀(i:Nat) r t,rs[i]?=.b r->.vc)),(`xV,`(.jT (gA lo hi∈l)<|(lo,hi)∈.jK)),(`xW,`(T .B root.1<|.eJ root.2.1 root.2.2)),(`xX,`(.m<|kidsOf x _ .O .a0 .aZ)),(`xY,`(jh (loose tl .af i u) i u parted heads)),(`xZ,`(.dp<|.k2 n (jH tl .af hw dy) I)),(`x0,`(g8 .e<|.pT (.s<|by cases z))),(`x1,`(.qU (.bQ<|.nL (aY<|gC e t)))),(`x2,`(.fZ<|V.write S.ok .aF (.l<|a.app R))),(`x3,`(Eh V n (uS .E) p gB.ok pL.ok eB.ok hs)),(`x4,`(q _ (.u _) O c H .fJ rfl .bW)),(`x5,`((.cW<|.as (.ho<|es[p]?))[i]?)),(`x6,`(∀C H',N C H'->∃p,p<m/\W (i+1) p C H')),(`x7,`(.hz [.bz x p1,.bz y p2] k pos)),(`x8,`((ks.zip ws).map λf=>.A (f.1=k) w f.2)),(`x9,`(Y rfl A P U I.ok _ λF n S=>q F n .cO))]|'y'=>[(`ya,`(mR .ar X.w X.K X.mg .dj C x a sp k)),(`yb,`((Ak (xy wi g M t (.bA .jj))<|nW i))),(`yc,`(.ef (λl p=>put p.1<|put (p.2+1) l) acc)),(`yd,`(.A (kK (a,i,j)<|pJ g x) none<|.b 0)),(`ye,`(λi H=>H d=.hA .fT/\.cS<=i)),(`yf,`(.oy C (wK<|.pk 1 (eV<|.j4+1)))),(`yg,`(jy .ar X.w X.K X.mg .dj c k f b l sp)),(`yh,`(aJ (d i s U H _ I h) λv j #[x,P,O,k,M]=>?_)),(`yi,`(.nC (.ld<|.hg b Y e) B z L O y)),(`yj,`(λi h A st k=>st.at λo e=>.it C o e)),(`yk,`(.ce=.seq g n/\g.size<=bh/\aV F g.toList)),(`yl,`(aJ (J b s U H _ I h) λv e #[x,P,O,g,M]=>?_)),(`ym,`(.g5 X.A (.fn<|.bz x pos) Q E s)),(`yn,`(.j0 (.eM=.aJ)<|.eT=.aJ)),(`yo,`(∀b o u,H b=.hA u->H' b=.hA u)),(`yp,`(⟨g.toList,o,n,p,U _ _ e,V,by simp[N]⟩)),(`yq,`(.aa (show .lD=-1 from e) .a)),(`yr,`(.hi::L.flatMap (.as [p.1,p.2]))),(`ys,`(.u<|nextRef .N .aP a m t x)),(`yt,`(lY.mpr<|.q p e .ao (ve<|bb e))),(`yu,`((hO g L c).map (.s<|.dY z D))),(`yv,`((hO g L c).any (.s<|.dY z D))),(`yw,`(.Z<|.hB (bV<|nz d h) .a6)),(`yx,`(show .jB 0 .W=x by simp[TT.pc])),(`yy,`(.hL e<|.p0 none (.b i) p2)),(`yz,`(.fx (gq a<|fj g s) (gq J<|de g s))),(`yA,`(mT (k:=.j) .il .aV .eq)),(`yB,`(.iv (.dk<|.ah (dt<|f x)))),(`yC,`(eR tl .af (cD g []) (c9 g tl []) k)),(`yD,`(.np .ur (.r<|mh.mpr m))),(`yE,`(∀p s,s<=i->p+s<=.W->eD x p s∈b)),(`yF,`((eR tl D T W i).getD (.jp<|1+i) [])),(`yG,`(λp R _ _ _ _ _ d a=>(.jE 2 .e))),(`yH,`(dE.zip<|aX (.P<|ai []) dE.length)),(`yI,`(b.map λn=>! .dY n (D.map .jc))),(`yJ,`(λ_ _ _ {_,_,{_,_,_,_,_,e,_},_}=>.dR)),(`yK,`([.cm,.iX,.eI,.bb,"at"])),(`yL,`(λl p=>.p4 p.1<|.p4 (p.2+1) l)),(`yM,`(λs=>match s with|.non k=>aa k|_=>.non)),(`yN,`(λs=>match s with|.non _=>true|_=>false)),(`yO,`(.bN<|tz yD (pV h .C) .O)),(`yP,`(.jl (.nT (fR g)<|noSets g) a b)),(`yQ,`(.qP m (u+2) {size:=n,number:=k+1})),(`yR,`(.kA (j∈.gc)<|i<=j/\j<=.W)),(`yS,`(be .aH (.s<|.je ?_) .M)),(`yT,`(.cu f=.gr oc od (.func fd) xq)),(`yU,`(g.update S<|kE (.P<|.eA [v,x]))),(`yV,`(.ez (.hL e<|.p0 lo hi p2))),(`yW,`(.oe a (.Dict [.b e] [f] pos) K)),(`yX,`(.lE l=.b (.kI C.toArray ep))),(`yY,`(.ly (.eX .dm [e]) .cU)),(`yZ,`(xn R V (LL .E i a) cG.ok fE.ok hs)),(`y0,`(gU e "items" .X (.fn e)=.fn e)),(`y1,`(Expr.Call (.bz "set" p2) [e] [] g)),(`y2,`(.mu[.kt .mu j]?≠.b j)),(`y3,`(.bv (.eX .dm [e]) .bp)),(`y4,`(.mz [a,b]=[(.kp a),(.kp b)])),(`y5,`(.c (.q a v (f x M) L) .uw)),(`y6,`(lE e none .mi .X=.aL .j)),(`y7,`(upd (.a8 i<|.own x) x<|.dP i [])),(`y8,`((.l7).map λf=>.A (f.1=k) v f.2)),(`y9,`(∃t,hX .uU (jd Z) t/\.rV))]|'z'=>[(`za,`(.q2 0=0/\.qr .hX hi=.hX)),(`zb,`(.kA (j∈bX _ a i)<|i<=j/\j<=.W)),(`zc,`(.kA (j∈bX t a i)<|i<=j/\j<=.W)),(`zd,`(Le (.cM m.1 m.2)<|.cM n.1 n.2)),(`ze,`(.mS (bH f s<|.et c) f (l++m) c)),(`zf,`(λi H=>∃F x,bf K H a F/\F[i]?=.bt)),(`zg,`(λi H=>H d=.hA .fT/\i<.cS)),(`zh,`(d.heap.push (.nE<|.l2 ([]:_)))),(`zi,`(.h3 ((.g4 zh).push<|ua C .G))),(`zj,`(aJ (V e s U H _ I h) λd j #[P,O,M]=>?_)),(`zk,`(aJ (J d s U H _ I h) λc j #[P,O,M]=>?_)),(`zl,`(.I (.bl _) P O (by rw[g.Ke];rfl) M)),(`zm,`(.aA (G.2 b<|.mh e I.ok.above) L)),(`zn,`(.cu c=.gr C p (.fields vs) Z)),(`zo,`(.aQ<|by rw[tk b h] at e;cases e)),(`zp,`(TT.sub_len nd (.hw<|(u m).mp G))),(`zq,`(.ea (v=.bc) [1] [0,(v:Int)])),(`zr,`(⟨Q.og,Q.ok,Q.eg,Q.en,kn,r,Q.m,Q.pr⟩)),(`zs,`(r=[0,.dq<|mr .N .aN ks])),(`zt,`(.cp<|a.map (.bg<|.pr c))),(`zu,`(.jw (Y p<|by simp[r0,TT.shown]))),(`zv,`(ux x (λy=>.mI .cR a<|F b y))),(`zw,`(.ab rfl L.hd L.bm _ L.mem L.tb)),(`zx,`(.b9 (aq .h6) λt=>.uq)),(`zy,`((.aC [fA I z,fA Q n] 2).flatten)),(`zz,`((.aC [fA I z,fA Q n] i).flatten)),(`zA,`(sn.2 (.bw<|by rw[x];show .aV))),(`zB,`(mT (k:=true) .il .eq .aV)),(`zC,`(.jA .oB s [E,.List [] U] A)),(`zD,`(.mv .oB s [E,.List [] U] A)),(`zE,`(.ji (qZ r (G h)<|.i4 h 0))),(`zF,`(qZ r (.aC (G h) m)<|.i4 h 0)),(`zG,`(.ef (λd t=>g_ d<|.qW t) d)),(`zH,`(cH.zip<|aX (.P<|aS []) .o8)),(`zI,`(.g (.dS 3) ?_<|.P .e)),(`zJ,`(.jl (.nT (wR g) .qM) c b)),(`zK,`((.lZ<|.mR (.C=a) _).sum)),(`zL,`(.n (allIn b s .O)/\.C=a)),(`zM,`(parts rs x p.2.rhs .a0 .aZ)),(`zN,`(h.kids a .d b<|(tj d q.1).mpr q)),(`zO,`(.lX<|(ks.foldl _ _)=addAll _ ks)),(`zP,`(.d0 (.hK .bf .B) p.2)),(`zQ,`(.db<|m∈gf x [] (.eb c a) i)),(`zR,`(0<i.getD b 0\/0<u.getD (.hc t) 0)),(`zS,`(.mz [a,b]=(.kp a)::.lT b)),(`zT,`(.b {cls:=.cy,data:=.fields G})),(`zU,`(.j5 (Js<|.p S)<|wh nS rfl ?_)),(`zV,`(aP n ((j.map g).map oB)<|j.map V.ref)),(`zW,`(.uS/\Rep n (oB<|g p) .aG)),(`zX,`(.fQ<|.s ((aW z),.lc))),(`zY,`(uq (.mV .hF 0) .gB vs C)),(`zZ,`(Lc X c [] e F vs K u (.bA f) O)),(`z0,`(.ci<|mB .Add (.p t) .dn)),(`z1,`(xn R V (uS .E) cG.ok fE.ok hs)),(`z2,`(L.find? (.ah<|.aj (kf x) k))),(`z3,`(.m<|kL (λi=>c.getD i 0) .c9)),(`z4,`(uq (.rE .m9 0) .lR f C)),(`z5,`(.d8 I=.b (lZ b i a .c8 ep))),(`z6,`(.oi X u O (e::es)<|F ws w/\O1=O)),(`z7,`(.F (c6.of<|.gq _ .h0))),(`z8,`(Acc Hs H O (.ph<|.jH o) E)),(`z9,`(((Ag.refl _ _).set .f).set .f))]|'A'=>[(`Aa,`((u.set j<|.b wa).set l<|.b wb)),(`Ab,`(ao _ _ (.e9 .sP _ _) _ _ s)),(`Ac,`(∀{a b:bU},bz (DD g x) a b->b.2=a.2)),(`Ad,`(.ad<|.e9 (([]:_)=[]) c1 c0)),(`Ae,`(.eC (.C=a)<|Bc f .O u)),(`Af,`(.qT<|Z.at λR e=>.it C R e)),(`Ag,`(λi h=>h.IsKeyIter C d i .cS ep)),(`Ah,`(j.map λf=>.b7 (f.1=k) (f.1,y) f)),(`Ai,`((.oa .f6 .oJ).objs.size)),(`Aj,`(typeOf (.fw id)=.aL .uc)),(`Ak,`(.A (x=y) (lexLt F k)<|.ai x y)),(`Al,`(.eC (.C=a)<|aU f .O u)),(`Am,`(.mR (.C=a)<|gH f .O u)),(`An,`(k _ o (.s<|(J _ z).2.1 rfl) l)),(`Ao,`(.qt (.c o.slots<|k b o V e))),(`Ap,`(.d8 l=.b (.kI .ck n))),(`Aq,`(.d8 p=.b (.kI .ck n))),(`Ar,`(mL C P w K X a N D F f t A U s H E)),(`AE,`(VK->Prop)),(`AS,`(λh=>(nomatch h))),(`AV,`(.y fW))]|_=>[]:List (Lean.Name×(Lean.MacroM Lean.Term))).lookup x.getId with|some t=>t|_=>Lean.Macro.throwUnsupported)
local macro_rules|`(.$x:ident $a)=>(match(match x.getId.toString.front with|'b'=>[(`b,λa=>`(some $a)),(`bd,λa=>`(aK.mp $a)),(`bg,λa=>`(λc=>$a)),(`bh,λa=>`($a<=1000)),(`bn,λa=>`(Nat->$a)),(`br,λa=>`(λU H Q=>$a)),(`bw,λa=>`(λb=>$a)),(`bA,λa=>`(l.map $a)),(`bB,λa=>`(Gl X $a)),(`bC,λa=>`(decide $a)),(`bG,λa=>`(L.map $a)),(`bI,λa=>`(.H (H $a))),(`bM,λa=>`(.c $a ?_)),(`bN,λa=>`(λr=>$a)),(`bO,λa=>`(λq=>$a)),(`bQ,λa=>`(λb o e=>$a)),(`bR,λa=>`(.H (X.mg $a))),(`bS,λa=>`(λk L=>$a)),(`bT,λa=>`(RelV $a u)),(`bY,λa=>`(.b (ai $a))),(`bZ,λa=>`(.aX _ $a)),(`b0,λa=>`(TT.enc $a))]|'m'=>[(`m,λa=>`(($a).length)),(`ma,λa=>`(.b (.oK $a))),(`mj,λa=>`(.pU $a .eq)),(`ml,λa=>`(λb u e=>$a)),(`my,λa=>`(λU H R=>$a)),(`mz,λa=>`(aE $a .X)),(`mA,λa=>`(ay prog $a)),(`mD,λa=>`(.eS $a ({s with heap:=h',toks:=t'}))),(`mE,λa=>`(.eS H $a)),(`mG,λa=>`(.as (.ay $a))),(`mJ,λa=>`({s with toks:=$a})),(`mN,λa=>`(t.names.lookup $a)),(`mW,λa=>`(g.heap.get? $a)),(`mY,λa=>`(by change $a;lk)),(`mZ,λa=>`((gZ $a).toList)),(`m0,λa=>`(ak (.ft $a))),(`m3,λa=>`(.b (.K $a))),(`m6,λa=>`(.U e $a))]|'n'=>[(`n,λa=>`($a=true)),(`na,λa=>`(cN .aN $a)),(`nb,λa=>`(I.aL.fresh $a)),(`nc,λa=>`(.b (.bl $a))),(`ng,λa=>`(.aa $a .V)),(`nh,λa=>`(.b (.gg $a))),(`ni,λa=>`((.qm $a).2)),(`nk,λa=>`(.Z (.bA $a))),(`nn,λa=>`(.aC .b6 $a)),(`nq,λa=>`(.bA (eQ $a))),(`nr,λa=>`(.b (bV $a))),(`nu,λa=>`(of_decide_eq_false $a)),(`nx,λa=>`(by rw[aj];show (lt_size $a))),(`nD,λa=>`(λv w O1 A P I r z=>$a)),(`nE,λa=>`(.gZ .dI $a)),(`nK,λa=>`(($a).isEmpty)),(`nL,λa=>`(by rw[$a:term];show e)),(`nM,λa=>`(.fields (.eA $a))),(`nP,λa=>`(by simpa using $a)),(`n0,λa=>`(.rg U $a)),(`n2,λa=>`(.ok (.ret $a))),(`n3,λa=>`(d.bM.getD $a 0))]|'p'=>[(`p,λa=>`(.ref $a)),(`pe,λa=>`(.As _ $a)),(`ph,λa=>`({D with nx:=(λo O'=>$a)})),(`pn,λa=>`(K .aG $a)),(`pp,λa=>`({s with heap:=$a,toks:=tk})),(`pr,λa=>`(.fX .aP $a)),(`ps,λa=>`(iJ (λi j=>$a))),(`pt,λa=>`(.fb $a vs)),(`pu,λa=>`(λ_ _ _ cl fp=>(.dS $a))),(`px,λa=>`(λ_ _ _ _ _ _ _ q=>$a)),(`pA,λa=>`(.b9 $a (λa=>a.kids))),(`pF,λa=>`(λA i s Q E Z h=>$a)),(`pJ,λa=>`(.AY $a [])),(`pK,λa=>`(parted.getD $a 0)),(`pL,λa=>`(s.heap.IsList l $a)),(`pM,λa=>`(U.countP (λa=>$a))),(`pQ,λa=>`(by rw[aj];show $a)),(`pR,λa=>`(r.flatMap (dH $a))),(`pS,λa=>`((∀b∈a,(.H $a)))),(`pT,λa=>`(.F (.a5 $a))),(`pV,λa=>`(.t9 $a s)),(`pW,λa=>`(by change $a;lia)),(`pX,λa=>`(X.iV.na $a .V)),(`pY,λa=>`(l.filterMap $a)),(`pZ,λa=>`(.du (.oS $a))),(`p5,λa=>`(by change $a;lk))]|'r'=>[(`r,λa=>`(if_pos $a)),(`rq,λa=>`({lhs:=r.lhs,rhs:=(r.rhs.map $a)})),(`ru,λa=>`(by apply dW;intro z;show $a)),(`rz,λa=>`(by change $a;rw[e,bo];rfl)),(`rA,λa=>`(λa s U H Q I {_,h,q}=>$a)),(`rF,λa=>`(w.params.setOrder $a ep)),(`rK,λa=>`(λv w d F n S r z=>$a))]|'s'=>[(`s,λa=>`(λz=>$a)),(`sg,λa=>`(∀p,(.pn $a))),(`st,λa=>`(λF H Q=>(∃p k,$a))),(`su,λa=>`(by cases x;let[t,rfl]:=r;show(.cz $a))),(`sC,λa=>`(beq_eq_false_iff_ne.mpr (i6 $a))),(`sD,λa=>`(by intro c s U H Q I h;show $a)),(`sE,λa=>`(by subst e;rw[$a:term];cases r;rfl)),(`sF,λa=>`(by cases x;cases r;show(.cz $a)))]|'u'=>[(`u,λa=>`(.int $a)),(`ua,λa=>`(∀{F n:Hp} {o j:OM},$a)),(`ub,λa=>`(.sh $a i))]|'x'=>[(`x,λa=>`(if_neg $a))]|'y'=>[(`y,λa=>`(List $a))]|'z'=>[(`z,λa=>`(.inl $a))]|'F'=>[(`F,λa=>`(.inr $a))]|'H'=>[(`H,λa=>`($a=none))]|'J'=>[(`J,λa=>`(.b (aa $a)))]|'K'=>[(`K,λa=>`(.b (.ref $a)))]|'L'=>[(`L,λa=>`(lift $a))]|'P'=>[(`P,λa=>`(λ_=>$a))]|'Y'=>[(`Y,λa=>`(aH.mp $a))]|'Z'=>[(`Z,λa=>`(.lst $a))]|'a'=>[(`ad,λa=>`($a≠c0)),(`ah,λa=>`(λx=>$a)),(`am,λa=>`(.tup $a)),(`as,λa=>`(λp=>$a)),(`aw,λa=>`((aK.mp $a).1)),(`ay,λa=>`(.all $a)),(`aL,λa=>`(pure $a)),(`aM,λa=>`(∀k,$a)),(`aQ,λa=>`(λh=>$a)),(`aR,λa=>`(Option $a)),(`aU,λa=>`(λk=>$a)),(`aY,λa=>`(.c rfl $a)),(`a1,λa=>`(bJ _ $a)),(`a2,λa=>`(aD (.pe $a))),(`a4,λa=>`(λb Y=>$a)),(`a5,λa=>`(.c $a rfl)),(`a9,λa=>`(($a).Nodup))]|'c'=>[(`ca,λa=>`([.cC,$a])),(`cg,λa=>`(($a :Int))),(`ci,λa=>`(.nJ $a s)),(`cj,λa=>`(((($a :Nat)):Int))),(`cp,λa=>`(($a).map aa)),(`cu,λa=>`(K.lookup $a)),(`cx,λa=>`(.D $a rfl)),(`cz,λa=>`(.c _ $a)),(`cE,λa=>`(.ge $a .g0)),(`cN,λa=>`(λm=>$a)),(`cT,λa=>`(h.get? $a)),(`cW,λa=>`(G.map $a)),(`c3,λa=>`(D.take $a)),(`c5,λa=>`(W.lst $a)),(`c6,λa=>`(cw.mp $a)),(`c7,λa=>`(cx.mp $a))]|'d'=>[(`db,λa=>`(.eC $a c1)),(`dc,λa=>`($a<=10000)),(`dd,λa=>`($a∈ .nG)),(`de,λa=>`(.bJ e $a)),(`df,λa=>`(ae .e $a)),(`dg,λa=>`(show $a by lia)),(`dk,λa=>`(ks.map $a)),(`dp,λa=>`(.fX $a t)),(`dq,λa=>`(.mR $a 1)),(`dr,λa=>`(.A5 $a 0)),(`du,λa=>`(.b (.Z $a))),(`dv,λa=>`(Nat->(Nat->$a))),(`dz,λa=>`(λp R=>$a)),(`dD,λa=>`(λx P=>$a)),(`dG,λa=>`(aV $a us)),(`dJ,λa=>`(by have:=$a;lia)),(`dL,λa=>`(aO (.bA $a))),(`dM,λa=>`(.co Str $a)),(`dS,λa=>`(br (j:=$a) S.nd)),(`dU,λa=>`(λx A P I r=>$a)),(`d2,λa=>`(λy T=>$a)),(`d4,λa=>`(dj.mp $a)),(`d5,λa=>`(X.N[$a]?)),(`d7,λa=>`(X.env.scope.names.lookup $a)),(`d8,λa=>`(s.heap.get? $a))]|'e'=>[(`eg,λa=>`($a<=100000)),(`eo,λa=>`(X.gv.nb $a .V)),(`ep,λa=>`(.b (.tup $a))),(`et,λa=>`(u.take $a)),(`eu,λa=>`(λx D=>$a)),(`ev,λa=>`(I.list $a)),(`ey,λa=>`($a->Prop)),(`ez,λa=>`(.kS $a K)),(`eA,λa=>`(($a).toArray)),(`eG,λa=>`(aD (.a2 $a))),(`eH,λa=>`(.b (bc $a))),(`eQ,λa=>`(.bool $a)),(`eR,λa=>`(Array $a)),(`eZ,λa=>`(($a).map .fr)),(`e5,λa=>`(XV.xe .e $a))]|'f'=>[(`fa,λa=>`(g.rules.map $a)),(`fl,λa=>`(($a).toNat)),(`fm,λa=>`(.k7 $a v)),(`fn,λa=>`(az $a .X)),(`ft,λa=>`(.c .f $a)),(`fw,λa=>`(.builtin $a)),(`fy,λa=>`(.tail _ $a)),(`fz,λa=>`(classAt g $a)),(`fI,λa=>`(cD d.g $a)),(`fO,λa=>`(c4.mpr $a)),(`fQ,λa=>`(F.map $a)),(`fS,λa=>`(.rn $a l)),(`fZ,λa=>`(.aA .cO $a)),(`f2,λa=>`(.n (X.fn $a))),(`f9,λa=>`(.lY p $a))]|'g'=>[(`gb,λa=>`(.A9 $a es)),(`gh,λa=>`(XV.of .e $a)),(`gm,λa=>`(tl.getD $a [])),(`gn,λa=>`(.je (.ay $a))),(`gv,λa=>`(ns.map $a)),(`gy,λa=>`(.av $a t)),(`gA,λa=>`(I.aL.fresh (aR $a))),(`gG,λa=>`(.b (.u $a))),(`gJ,λa=>`(.AQ d.g $a)),(`gK,λa=>`(bC $a .V)),(`gQ,λa=>`(Q .aG $a)),(`gR,λa=>`(Loc .hY $a)),(`gU,λa=>`(.c $a [])),(`gV,λa=>`(min $a MW)),(`g2,λa=>`(.df (ak $a))),(`g3,λa=>`(X.env.cells.lookup $a)),(`g4,λa=>`(s.heap.push $a)),(`g7,λa=>`(show $a from rfl)),(`g8,λa=>`(decide_eq_true $a)),(`g9,λa=>`(.df (.g2 $a)))]|'h'=>[(`hc,λa=>`(rests.getD $a 0)),(`hk,λa=>`(I.getD $a 0)),(`hm,λa=>`(.x (.s $a))),(`ho,λa=>`(($a).map .jj)),(`hr,λa=>`(I.tuple $a)),(`hs,λa=>`(.aa rfl $a)),(`hw,λa=>`(λm G=>$a)),(`hx,λa=>`(λb h=>$a)),(`hA,λa=>`(.e8 o $a)),(`hC,λa=>`(y.map (TT.cl $a))),(`hG,λa=>`((.bA $a).sum)),(`hM,λa=>`(.dt .o $a)),(`hO,λa=>`(gW q.g $a)),(`hU,λa=>`(∀{l},$a)),(`hV,λa=>`(.there (.there $a))),(`h2,λa=>`(decide_eq_false $a)),(`h3,λa=>`({s with heap:=$a}))]|'i'=>[(`ib,λa=>`(x.map (cl $a))),(`ip,λa=>`(.u (.jf $a))),(`iq,λa=>`(.g2 (.a5 $a))),(`is,λa=>`(zN (d $a))),(`iv,λa=>`(qs.zip $a)),(`iB,λa=>`(.nB $a ?_)),(`iC,λa=>`(decide_eq_decide.mpr $a)),(`iE,λa=>`(F.names.lookup $a)),(`iF,λa=>`($a==("__debug__"))),(`iR,λa=>`(.eJ i $a)),(`iY,λa=>`(.aX $a rfl)),(`i0,λa=>`(J $a .f)),(`i8,λa=>`(Kp .R $a)),(`i9,λa=>`(of_decide_eq_true $a))]|'j'=>[(`jd,λa=>`(.co $a Nat)),(`je,λa=>`(aF (.e5 $a))),(`jf,λa=>`(((.m $a):Int))),(`jh,λa=>`(λy F n S m=>$a)),(`ji,λa=>`(TT.settle $a)),(`jk,λa=>`(fv (lt_size $a))),(`jm,λa=>`(bs.getD $a .j)),(`jn,λa=>`(d.map (.as $a))),(`jo,λa=>`(.b (dn $a))),(`jp,λa=>`(D.getD $a 0)),(`jw,λa=>`(.ft (.mG $a))),(`jx,λa=>`(λD U H=>$a)),(`jy,λa=>`(cu (.lP $a))),(`jC,λa=>`(.g9 (.a5 $a))),(`jF,λa=>`(.gL $a .kx)),(`jH,λa=>`(.dE $a O')),(`jN,λa=>`(by rw[bG,$a:term];rfl)),(`jP,λa=>`(by have:=$a;lk)),(`jU,λa=>`(λx y H Q=>$a)),(`jV,λa=>`(.b (cV $a))),(`j6,λa=>`(aD (.ay $a)))]|'k'=>[(`kc,λa=>`(bA g $a)),(`ki,λa=>`(.skip _ $a)),(`kk,λa=>`(.gD $a .bW)),(`kl,λa=>`(ik prog $a)),(`km,λa=>`(wipe $a vs)),(`ko,λa=>`($a==(("__debug__":Str)))),(`kp,λa=>`(.AG (.fn $a))),(`ku,λa=>`(b.filter (λw=>$a))),(`kv,λa=>`(.hV (.hV $a))),(`kB,λa=>`(by rw[$a:term];rfl)),(`kE,λa=>`(.b (eh $a))),(`kH,λa=>`(.pw .e6 $a)),(`kP,λa=>`(.A8 true $a)),(`kU,λa=>`(.co $a Obj)),(`kX,λa=>`(G.foldl bD $a)),(`k8,λa=>`(bQ $a X.A))]|'l'=>[(`ld,λa=>`(λb o Y e=>$a)),(`lr,λa=>`((cZ.mp $a).1)),(`ls,λa=>`(((aW $a):Key))),(`lt,λa=>`(f_ (λb r=>$a))),(`lz,λa=>`(λd=>(.pr $a))),(`lA,λa=>`(du .qA $a)),(`lB,λa=>`(kJ $a .V)),(`lC,λa=>`(.hT qq.c $a)),(`lE,λa=>`(h'.get? $a)),(`lL,λa=>`(XT.of .aH $a)),(`lO,λa=>`(by rw[(aY $a)];show q)),(`lP,λa=>`(.AB (.bZ $a))),(`lQ,λa=>`(.mk (λa H U s Q q=>$a))),(`lT,λa=>`(.mz [$a])),(`lX,λa=>`(show $a from rfl)),(`lZ,λa=>`(rs.map (λr=>$a))),(`l2,λa=>`(.seq (.eA $a))),(`l3,λa=>`(show $a from P)),(`l4,λa=>`(DecidableEq $a)),(`l8,λa=>`(u.map (cl $a))),(`l9,λa=>`(.b (.own $a)))]|'o'=>[(`ow,λa=>`(λj L p d=>(.ay $a))),(`oF,λa=>`(by rw[<-$a:term];show D)),(`oG,λa=>`(.fy (.fy $a))),(`oK,λa=>`(fN qq.b $a)),(`oS,λa=>`(.kC $a .o)),(`oV,λa=>`(λv A P I r=>$a)),(`oW,λa=>`(cx.mpr (.z $a))),(`o6,λa=>`(ns.getD i $a))]|'q'=>[(`qe,λa=>`(X.fK.na $a .V)),(`qm,λa=>`(step .cR $a)),(`qo,λa=>`(.t0 pos $a)),(`qt,λa=>`(λb o _ _ V e _=>$a)),(`qu,λa=>`(.b (dR $a))),(`qE,λa=>`(.mk (λa H U x Q q=>$a))),(`qG,λa=>`(show $a by tm_at "v")),(`qH,λa=>`(by rw[aj,aj];show $a)),(`qK,λa=>`(∀a s (U:St) H Q,$a)),(`qO,λa=>`(λ_ _ _ H _ I h=>$a)),(`qR,λa=>`(.fc apos.endLine $a)),(`qT,λa=>`(λi h h' Z k=>$a)),(`qU,λa=>`(.ah (x.mono $a))),(`qV,λa=>`(.m (l.flatMap $a))),(`qW,λa=>`(W.getD $a [])),(`qX,λa=>`(λF H Q=>(∃a j,$a))),(`q1,λa=>`(λy A P I r=>$a)),(`q2,λa=>`(.qr $a lo)),(`q9,λa=>`(X.ck.na $a .V))]|'t'=>[(`tV,λa=>`(Str->(.aR $a))),(`tW,λa=>`(dg $a rfl)),(`tX,λa=>`(.sf $a x)),(`tY,λa=>`(.fc j.endLine $a)),(`tZ,λa=>`(.builtin ("type.__call__") $a)),(`t1,λa=>`({nx:=(λ_ H'=>$a),rt:=Q})),(`t2,λa=>`(.dict $a ep)),(`t4,λa=>`(.eb $a hi)),(`t6,λa=>`(by apply dW;intro q;show $a))]|'A'=>[(`Ay,λa=>`(ay .ar $a)),(`Az,λa=>`(.mB $a rfl)),(`AB,λa=>`(bP (.e5 $a))),(`AG,λa=>`((.j,$a))),(`AN,λa=>`(aA g $a)),(`AR,λa=>`(c8 $a .j)),(`A2,λa=>`(.gL .an $a)),(`A7,λa=>`(.A6 r $a))]|'B'=>[(`Bd,λa=>`(($a : .AV))),(`Be,λa=>`(.rg σ $a))]|_=>[]:List (Lean.Name×(Lean.Term->Lean.MacroM Lean.Term))).lookup x.getId with|some t=>t a|_=>Lean.Macro.throwUnsupported)|`(.$x:ident $a $b)=>(match(match x.getId.toString.front with|'c'=>[(`c,λa b=>`(⟨$a,$b⟩)),(`cf,λa b=>`(.g $a $b ?_)),(`co,λa b=>`(.y ($a×$b))),(`cM,λa b=>`(T rs $a $b))]|'D'=>[(`D,λa b=>`(.g _ $a $b))]|'U'=>[(`U,λa b=>`(PE X $a $b))]|'a'=>[(`aa,λa b=>`(absurd $a $b)),(`ac,λa b=>`(times $a $b)),(`ae,λa b=>`((.m $a)<=$b)),(`ai,λa b=>`(.bC ($a<$b))),(`aj,λa b=>`(.bC ($a=$b))),(`av,λa b=>`(.int $a $b)),(`aA,λa b=>`(($a).trans $b)),(`aC,λa b=>`(($a).take $b)),(`aD,λa b=>`(plus $a $b)),(`aX,λa b=>`(.g $a rfl $b)),(`a3,λa b=>`(∀b o,($a->$b))),(`a8,λa b=>`(upd H $a $b))]|'b'=>[(`ba,λa b=>`(au (j:=$a) S.nd $b)),(`be,λa b=>`(.b (($a,$b)))),(`bi,λa b=>`(XV.of $a $b)),(`bj,λa b=>`(.cons $a $b)),(`bu,λa b=>`(∀b,($a->$b))),(`bv,λa b=>`(.rf O $a $b)),(`bz,λa b=>`(.Name $a $b)),(`bJ,λa b=>`(.cH u $a $b)),(`bX,λa b=>`(show $a from $b)),(`b9,λa b=>`(($a).flatMap $b))]|'d'=>[(`da,λa b=>`(.c $a (λh=>$b))),(`ds,λa b=>`(.lN $a $b s)),(`dt,λa b=>`((aq $a).map $b)),(`dx,λa b=>`(($a).filter $b)),(`dy,λa b=>`(($a,(.Z $b)))),(`dE,λa b=>`(.gt $a $b G)),(`dN,λa b=>`(congrArg $a $b)),(`dP,λa b=>`(.ins C $a $b)),(`dY,λa b=>`(.bC ($a∈$b))),(`d0,λa b=>`(($a).map (.as $b)))]|'e'=>[(`eb,λa b=>`(.range $a $b)),(`ef,λa b=>`(l.foldl $a $b)),(`em,λa b=>`(.g o $a $b)),(`eC,λa b=>`(.A $a $b c0)),(`eJ,λa b=>`(pc x $a $b)),(`eK,λa b=>`(.Z ($a ++$b))),(`eL,λa b=>`(dY $a .B $b)),(`eS,λa b=>`(.hZ U $a $b)),(`eX,λa b=>`(.AF $a p $b)),(`eY,λa b=>`(Q (.p $a) $b)),(`e2,λa b=>`(.n ($a&&$b))),(`e7,λa b=>`(.gz $a (ak $b))),(`e8,λa b=>`(.b (.aB $a $b)))]|'f'=>[(`fb,λa b=>`(aP Hs $a $b)),(`fc,λa b=>`(.n ($a==$b))),(`fx,λa b=>`(.tup [$a,$b])),(`fB,λa b=>`(bu .B $a $b)),(`fE,λa b=>`(eJ $a $b .f)),(`fG,λa b=>`(.ct $a $b rfl)),(`fX,λa b=>`(($a).getD $b 0)),(`f3,λa b=>`(aF (.g1 $a $b))),(`f7,λa b=>`(.pf $a $b rfl)),(`f8,λa b=>`(.kZ $a (.b $b)))]|'g'=>[(`ge,λa b=>`(.inr (.aX $a $b))),(`gk,λa b=>`(aO (.dt $a $b))),(`gl,λa b=>`(c_ $a .az $b)),(`go,λa b=>`(hi.at rfl $a $b)),(`gq,λa b=>`(s.sub _ $a $b)),(`gx,λa b=>`(.qa $a $b ?_)),(`gz,λa b=>`(ae (w:=$a) .e $b)),(`gD,λa b=>`(.AI $a $b ?_)),(`gL,λa b=>`([.cC,$a,$b])),(`gX,λa b=>`(.fx (aa $a) $b)),(`gZ,λa b=>`({cls:=(.type $a),data:=$b})),(`g1,λa b=>`(.dH $a .e $b))]|'h'=>[(`hl,λa b=>`(.z (.c $a $b))),(`hy,λa b=>`(.AP $a $b ?_)),(`hB,λa b=>`(aX (λh=>$a) $b)),(`hH,λa b=>`(.m (.fB $a $b))),(`hK,λa b=>`((aq $a).zip $b)),(`hL,λa b=>`(.fs $a $b pos)),(`hT,λa b=>`(.AW a $a $b)),(`h4,λa b=>`(.AD S.nd $a $b)),(`h7,λa b=>`(.n (bit $a $b)))]|'i'=>[(`ie,λa b=>`(.a8 $a (.Z $b))),(`ig,λa b=>`(gy $a $b .by)),(`in,λa b=>`(Le (.b $a) $b)),(`iu,λa b=>`(.A1 $a $b .X)),(`iH,λa b=>`(g8 (wa:=$a) .e $b)),(`iK,λa b=>`(.BoolOp $a $b pos)),(`iT,λa b=>`(.bJ $a (.bl $b))),(`iZ,λa b=>`(.bC ($a<=$b))),(`i1,λa b=>`(.g $a .f $b)),(`i2,λa b=>`(.gk $a (.bg $b))),(`i3,λa b=>`(Q (.bl $a) $b)),(`i4,λa b=>`(b.getD $a $b)),(`i5,λa b=>`(.ez (.eX $a $b))),(`i6,λa b=>`(.pP rs $a $b))]|'j'=>[(`jg,λa b=>`(by change $a;rw[$b:term])),(`ju,λa b=>`(.nA $a (.lP $b))),(`jv,λa b=>`(e_ .dI $a $b)),(`jz,λa b=>`(bP (.mQ $a $b))),(`jB,λa b=>`(TT.pc x $a $b)),(`jE,λa b=>`(.c (.dS $a) $b)),(`jG,λa b=>`(.n5 $a (.f9 $b))),(`jR,λa b=>`(by rw[$a:term];show $b)),(`jT,λa b=>`(∀lo hi,($a->$b))),(`jX,λa b=>`(ff $a .az $b)),(`j0,λa b=>`(∀b u,($a->$b))),(`j2,λa b=>`(.nI $a (.m0 $b))),(`j5,λa b=>`(ah (m:=$a) $b)),(`j7,λa b=>`(.seq (.eA $a) $b)),(`j8,λa b=>`(iT $a .az $b)),(`j9,λa b=>`(rounds $a $b s))]|'k'=>[(`kb,λa b=>`(cz (.aU $a) $b)),(`kq,λa b=>`(.aa (show $a from b) $b)),(`kt,λa b=>`(SetTable.below $a $b)),(`kA,λa b=>`(∀a i j,($a->$b))),(`kC,λa b=>`(.hB (aS $a) $b)),(`kI,λa b=>`(.nE (.seq $a $b))),(`kO,λa b=>`((dQ $a $b).lhs)),(`kQ,λa b=>`(gQ $a $b .el)),(`kR,λa b=>`(s.TypeIs $a $b)),(`kS,λa b=>`(.oe u $a $b)),(`kZ,λa b=>`(.A $a $b none)),(`k1,λa b=>`(XV.of (k:=$a) .e $b)),(`k3,λa b=>`(.gD (λi Γ O'=>$a) $b)),(`k4,λa b=>`(.gD (λi u O'=>$a) $b)),(`k7,λa b=>`(Rep Hs $a $b))]|'l'=>[(`lg,λa b=>`(call (.fw $a) $b)),(`lq,λa b=>`(du (λn=>$a) $b)),(`lu,λa b=>`((.dt $a $b).sum)),(`ly,λa b=>`(.bJ $a (aa $b))),(`lG,λa b=>`(($a).Pairwise $b)),(`lK,λa b=>`(cJ $a (.mz $b))),(`lM,λa b=>`(aJ $a (λv j #[x,P,O,g,M]=>$b))),(`lY,λa b=>`([(.dy $a $b)])),(`l5,λa b=>`(.m (.dx $a $b)))]|'m'=>[(`mb,λa b=>`(aF (XV.xe $a $b))),(`md,λa b=>`(.k2 $a $b parted)),(`mg,λa b=>`(aF (.rs $a $b))),(`mh,λa b=>`(cY (.qD $a $b))),(`mm,λa b=>`(.pH $a .g0 $b)),(`mn,λa b=>`(.rD $a .e $b)),(`mo,λa b=>`(.Z (($a).map $b))),(`mB,λa b=>`(λp=>(.aX $a $b))),(`mO,λa b=>`((aq $a).filterMap $b)),(`mQ,λa b=>`(.g1 $a (.bZ $b))),(`mR,λa b=>`(.A $a $b 0)),(`mV,λa b=>`(B.push (.jv $a $b))),(`m8,λa b=>`(.c $a (λi c=>$b)))]|'n'=>[(`np,λa b=>`(show $a from $b)),(`nv,λa b=>`(fe (j:=$a) (l:=$b) S.nd)),(`nA,λa b=>`(XE.aB (.h4 $a $b))),(`nB,λa b=>`(.ba $a (.e5 $b))),(`nI,λa b=>`(.ba $a (bY $b))),(`nJ,λa b=>`(.k6 $a Q $b)),(`nN,λa b=>`((ns.zip $a).lookup $b)),(`nS,λa b=>`(r.rhs.all (gj $a $b))),(`nT,λa b=>`(setRounds $a k $b)),(`nU,λa b=>`(I.laid $a .ao $b)),(`nW,λa b=>`(.e7 $a (.none $b))),(`nX,λa b=>`(eW (λk _=>$a) $b)),(`nY,λa b=>`(r.rhs.drop ($a +$b))),(`nZ,λa b=>`((bL $a $b).flatten)),(`n4,λa b=>`(.t7 .al $a $b)),(`n5,λa b=>`(.sg ($a ++$b))),(`n8,λa b=>`((cy $a $b).isNone)),(`n9,λa b=>`(ie (f:=(.aQ $a)) $b))]|'o'=>[(`oa,λa b=>`(.g4 (.gZ $a $b))),(`ob,λa b=>`(.Constant $a j $b)),(`og,λa b=>`((($a).map $b).sum)),(`oo,λa b=>`(enc (.cM $a $b))),(`op,λa b=>`(s.have $a .aF $b)),(`oy,λa b=>`(s.heap.update $a $b)),(`oz,λa b=>`(∀Hs H σ,($a->$b))),(`oO,λa b=>`(XE.pN (R:=(.bg $a)) $b)),(`oP,λa b=>`((l.filter $a).map $b)),(`oT,λa b=>`(∀{l} {i j},($a->$b))),(`oU,λa b=>`(bQ $a (A.deeper $b))),(`o1,λa b=>`(.Ba .aP $a $b)),(`o3,λa b=>`(.Attribute $a f $b)),(`o4,λa b=>`(HT.b0 .aE $a $b))]|'p'=>[(`pa,λa b=>`(de $a .iJ $b)),(`pk,λa b=>`(((·.setIfInBounds $a $b)))),(`po,λa b=>`(.D $a (λO1 _ _ _ cl fp=>$b))),(`pw,λa b=>`(.sn .e $a $b)),(`pE,λa b=>`(by change ($a<=$b);decide)),(`pI,λa b=>`(XT.of (k:=$a) .aH $b)),(`pU,λa b=>`(.AT .j $a $b)),(`p2,λa b=>`(ru.rhs.drop ($a +$b))),(`p3,λa b=>`(i7 $a $b (λ_ _ p=>p))),(`p4,λa b=>`(Vaglrc.put $a $b))]|'q'=>[(`qk,λa b=>`(by by_cases m:($a∈$b)<;>simp[m])),(`qn,λa b=>`(rs.foldl (λl r=>$a) $b)),(`qp,λa b=>`({node:=m,alts:=(.fB $a $b)})),(`qr,λa b=>`(b0 .hX $a $b)),(`qC,λa b=>`(.tU (.pJ $a) $b)),(`qD,λa b=>`(fO (bK $a) $b))]|'r'=>[(`re,λa b=>`(fZ X.env.cells $a $b)),(`rg,λa b=>`(.nF $a $b O)),(`rh,λa b=>`(by intro a s U H Q I h;calc (ub $a);show $b)),(`rn,λa b=>`(.b ($a ::$b))),(`rs,λa b=>`(bY (.e7 $a $b))),(`rB,λa b=>`(λc H Q=>(∃(a:af) (b:$a),$b))),(`rE,λa b=>`(J.heap.push (.jv $a $b)))]|'s'=>[(`sf,λa b=>`(cg (aA $a $b))),(`sh,λa b=>`(bX .by $a $b)),(`sr,λa b=>`(λC o e j H' x J k=>(let⟨a,b,c,_⟩:=$a;$b))),(`sv,λa b=>`(∀f v (A:gS) (U: .im) s H (vs:$a) Q E,$b)),(`sA,λa b=>`(by have:=$a;rw[$b:term] at this;show this)),(`sB,λa b=>`(∀vs H Q E,($a->$b))),(`sG,λa b=>`(λn h=>(by let[l,_,rfl]:=$a;show $b))),(`sH,λa b=>`(λa i j h=>(let⟨_,B,M,_⟩:=$a;$b)))]|'t'=>[(`tU,λa b=>`(($a).all (λx=>$b))),(`t0,λa b=>`(.AL $a $b .fr)),(`t5,λa b=>`(λx F n S m=>(by let[a,v,rfl,B,z]:=$a;show $b))),(`t8,λa b=>`({cls:= .l1,dict:=none,data:=$a,slots:=$b})),(`t9,λa b=>`(.oQ $a H $b))]|'A'=>[(`As,λa b=>`(⟨$a,$b,(by tm_at "fg")⟩)),(`AQ,λa b=>`(c9 $a d.tl $b)),(`AU,λa b=>`(by have:=$a;rw[L] at this;cases this;show (C.le $b))),(`AY,λa b=>`(.AX $a $b .X)),(`A5,λa b=>`(($a,$b,.W))),(`A6,λa b=>`(bN $a qs $b)),(`A8,λa b=>`(.A4 $a $b .aV)),(`A9,λa b=>`(.mz ($a ::$b)))]|_=>[]:List (Lean.Name×(Lean.Term->Lean.Term->Lean.MacroM Lean.Term))).lookup x.getId with|some t=>t a b|_=>Lean.Macro.throwUnsupported)|`(.$x:ident $a $b $c)=>(match(match x.getId.toString.front with|'g'=>[(`g,λa b c=>`(⟨$a,$b,$c⟩)),(`gi,λa b c=>`(ar.perm (O':=$a) $b $c)),(`gs,λa b c=>`(.cs $a $b $c rfl)),(`gt,λa b c=>`(.kJ $a $b $c D)),(`gC,λa b c=>`(.Compare $a $b $c pos)),(`gI,λa b c=>`(.U (.eX $a $b) $c))]|'A'=>[(`A,λa b c=>`(if $a then $b else $c)),(`AD,λa b c=>`(dN $a $b .p9 $c)),(`AF,λa b c=>`(.se $a $b $c [])),(`AI,λa b c=>`(.AH $a $b ?_ $c)),(`AJ,λa b c=>`(fG (q:=$a) .e $b $c)),(`AL,λa b c=>`((.lK $a $b).any $c)),(`AP,λa b c=>`(.ba $a (.g1 $b $c))),(`AT,λa b c=>`(.sk $a $b .aV $c)),(`AW,λa b c=>`(.eD $a $b ns $c)),(`AX,λa b c=>`(gV $a (gX $b $c))),(`A1,λa b c=>`(gU $a $b $c .d1)),(`A4,λa b c=>`(.sk $a $b .eq $c))]|'a'=>[(`aq,λa b c=>`(.Bc K $a $b $c)),(`aI,λa b c=>`(.lI $a $b (top $c))),(`aK,λa b c=>`(.AC K $a $b $c))]|'b'=>[(`b7,λa b c=>`(if $a then $b else $c))]|'c'=>[(`cb,λa b c=>`(.rr $a $b o $c)),(`ct,λa b c=>`(.q $a $b rfl $c)),(`cH,λa b c=>`(.ks $a O $b $c)),(`cV,λa b c=>`(.tT $a $b $c ?_))]|'d'=>[(`dB,λa b c=>`(.q $a rfl $b $c)),(`dH,λa b c=>`(XV.xe (w:=$a) $b $c)),(`d6,λa b c=>`(.cs $a _ $b $c)),(`d9,λa b c=>`(ae (w:=$a) $b (ak $c)))]|'e'=>[(`ea,λa b c=>`(if $a then $b else $c)),(`ei,λa b c=>`(($a).foldl $b $c)),(`en,λa b c=>`(.q _ $a $b $c)),(`e9,λa b c=>`(if $a then $b else $c))]|'f'=>[(`fe,λa b c=>`(.k9 $a $b $c qq)),(`fs,λa b c=>`(.Subscript $a $b $c)),(`fL,λa b c=>`(.jM $a $b (.dS $c))),(`f5,λa b c=>`(ae (w:=$a) $b $c))]|'h'=>[(`hb,λa b c=>`(fo (ns:=$a) (i:=$b) $c)),(`hg,λa b c=>`(.aA (M.2 $a $b) $c)),(`hz,λa b c=>`(.Tuple $a $b $c)),(`hZ,λa b c=>`(.sc X $a $b $c))]|'i'=>[(`ic,λa b c=>`(.b0 (TT.T $a $b $c))),(`id,λa b c=>`(cX $a (eO $b) $c)),(`it,λa b c=>`(k $a .f $b $c)),(`iG,λa b c=>`(.ListComp $a $b $c pos)),(`iO,λa b c=>`(.gz $a (.e7 $b $c)))]|'j'=>[(`jl,λa b c=>`(.h7 (setOf $a $b) $c)),(`jq,λa b c=>`(.BinOp $a $b $c pos)),(`jt,λa b c=>`(.qg qq.g $a $b $c)),(`jM,λa b c=>`(.q $a $b $c ?_))]|'k'=>[(`kw,λa b c=>`(if $a then $b else $c)),(`kF,λa b c=>`(dP.mpr (.g $a $b $c))),(`kG,λa b c=>`(bz (Child $a) $b $c)),(`kM,λa b c=>`(enc (dD $a $b $c))),(`kN,λa b c=>`(.id $a $b (.ps $c))),(`k2,λa b c=>`((aq $a).foldl $b $c)),(`k6,λa b c=>`(.ov $a $b E $c))]|'l'=>[(`lb,λa b c=>`(plus (.ac $a $b) $c)),(`lx,λa b c=>`(.gl $a (.gz $b $c))),(`lH,λa b c=>`(.sI $a $b .az $c)),(`lI,λa b c=>`(aN $a $b (aI $c))),(`lN,λa b c=>`(.AA X.A $a $b $c)),(`lU,λa b c=>`(.Constant (.u $a) $b $c))]|'m'=>[(`mw,λa b c=>`(.si $a .e $b $c)),(`mx,λa b c=>`(.a8 $a (.fx $b $c))),(`mI,λa b c=>`(onNon $a $b (λb=>$c)))]|'n'=>[(`nj,λa b c=>`(kZ.mpr (.g $a $b $c))),(`nm,λa b c=>`(($a ::$b).drop $c)),(`nF,λa b c=>`(.AO H $a $b $c))]|'o'=>[(`oe,λa b c=>`(.qS $a O $b $c)),(`ot,λa b c=>`(∀s H C (cl:(.dM $a)) (a:$b),$c)),(`oA,λa b c=>`(iN (k:=$a) (l:=$b) $c .aV)),(`oQ,λa b c=>`(.oL $a U $b $c)),(`oR,λa b c=>`(qT (bs:=$a) .bo $b $c)),(`o0,λa b c=>`(qO (q:=$a) .e $b $c))]|'p'=>[(`pc,λa b c=>`(Rep.ob (.hl $a $b) $c)),(`pf,λa b c=>`(aH.mpr (.g $a $b $c))),(`pv,λa b c=>`(jf $a $b (λc H U v Q s r q=>$c))),(`pH,λa b c=>`(b_ (.AJ $a $b $c))),(`pP,λa b c=>`(aU (T $a) $b $c)),(`p0,λa b c=>`(.Slice $a $b none $c))]|'q'=>[(`qa,λa b c=>`(.ba $a (XV.xe $b $c))),(`qw,λa b c=>`(be (k:=$a) $b .M $c)),(`qB,λa b c=>`(ar.aB (j:=$a) (O1:=$b) rfl $c)),(`qF,λa b c=>`(.tU (.lK $a $b) $c)),(`qP,λa b c=>`(Vaglrh.settle $a u $b $c))]|'r'=>[(`rf,λa b c=>`(.qf u $a $b $c)),(`rC,λa b c=>`(val_inj (λy _ e=>$a) $b $c)),(`rD,λa b c=>`(jD $a .e $b $c)),(`rJ,λa b c=>`(by let[v,B,M]:=(sP $a $b);show $c))]|'s'=>[(`sl,λa b c=>`(by intro b s U H Q I h;refine $a;subst G;obtain rfl:$b :=S;show $c)),(`sn,λa b c=>`(cM $a .e $b $c))]|'t'=>[(`t7,λa b c=>`(df (bu $a $b $c)))]|'B'=>[(`Ba,λa b c=>`(iZ .N $a $b $c))]|_=>[]:List (Lean.Name×(Lean.Term->Lean.Term->Lean.Term->Lean.MacroM Lean.Term))).lookup x.getId with|some t=>t a b c|_=>Lean.Macro.throwUnsupported)|`(.$x:ident $a $b $c $d)=>(match(match x.getId.toString.front with|'q'=>[(`q,λa b c d=>`(⟨$a,$b,$c,$d⟩)),(`qf,λa b c d=>`(.Aw X $a $b $c $d)),(`qg,λa b c d=>`(.b (cC $a $b $c $d))),(`qS,λa b c d=>`(XE X $a $b $c $d))]|'a'=>[(`aW,λa b c d=>`(.I $a $b rfl $c $d))]|'c'=>[(`cd,λa b c d=>`(.lI $a $b (bg $c $d))),(`cs,λa b c d=>`(.I $a $b $c rfl $d)),(`cX,λa b c d=>`(.I $a _ $b $c $d))]|'e'=>[(`eD,λa b c d=>`(($a,(.ins $b $c $d))))]|'g'=>[(`gr,λa b c d=>`(.b (.q $a $b $c $d))),(`gw,λa b c d=>`(X.fw $a $b F $c $d)),(`gS,λa b c d=>`(.jM $a $b (.nv $c $d)))]|'h'=>[(`ht,λa b c d=>`(.gE $a $b $c $d rfl)),(`hu,λa b c d=>`(d_ (q:=$a) $b $c $d))]|'i'=>[(`ia,λa b c d=>`(.ac $a (aU $b $c $d))),(`iA,λa b c d=>`(.qx .e $a $b $c $d))]|'j'=>[(`jb,λa b c d=>`(ar.aB (j:=$a) (O1:=$b) (O2:=$c) rfl $d)),(`jA,λa b c d=>`(.qd o $a $b $c $d))]|'k'=>[(`ks,λa b c d=>`(XV X $a $b $c $d)),(`kJ,λa b c d=>`(ar X $a $b $c $d)),(`k9,λa b c d=>`(.AM $a $b $c mg $d))]|'l'=>[(`l0,λa b c d=>`(ot (j:=$a) $b $c .p9 $d))]|'m'=>[(`mv,λa b c d=>`(.fn (.jA $a $b $c $d))),(`mS,λa b c d=>`(.ia $a $b $c (u.drop $d))),(`m4,λa b c d=>`(aF (iO (k:=$a) $b $c $d)))]|'n'=>[(`nl,λa b c d=>`(.AK $a $b $c .V $d)),(`nO,λa b c d=>`(kidsOf $a .by $b $c $d))]|'o'=>[(`oc,λa b c d=>`(wl (m0:=$a) $b (.pe $c) $d)),(`od,λa b c d=>`(qS $a $b (λw hw=>$c) $d)),(`ov,λa b c d=>`(.rb A $a $b $c $d)),(`oL,λa b c d=>`(Inv X $a $b $c $d)),(`o5,λa b c d=>`(iR (q:=$a) $b (.g1 $c $d))),(`o7,λa b c d=>`(I.base.free b $a $b $c $d))]|'p'=>[(`pz,λa b c d=>`(rounds (deriveRound $a $b) $c $d))]|'r'=>[(`rr,λa b c d=>`(.t3 $a $b N $c $d))]|'s'=>[(`sc,λa b c d=>`(Inv $a pins $b $c $d)),(`se,λa b c d=>`(.sd $a $b $c $d pos)),(`si,λa b c d=>`(jG (n:=$a) $b .a $c $d)),(`sk,λa b c d=>`(.hW $a $b rfl $c $d)),(`sp,λa b c d=>`(by have:=(eM.t (k:=$a) $b $c);rwa[$d:term] at this)),(`sI,λa b c d=>`(.Bf $a $b $c .fY $d))]|'t'=>[(`tT,λa b c d=>`(.ba $a (.dH $b $c $d)))]|'A'=>[(`AA,λa b c d=>`(.g5 $a $b $c X.xe $d)),(`AC,λa b c d=>`(.Au $a mg $b $c $d)),(`AH,λa b c d=>`(lp $a (.pe $b) $c $d)),(`AO,λa b c d=>`(aZ Hs $a $b $c $d))]|'B'=>[(`Bc,λa b c d=>`(.Bb w $a $b $c $d))]|_=>[]:List (Lean.Name×(Lean.Term->Lean.Term->Lean.Term->Lean.Term->Lean.MacroM Lean.Term))).lookup x.getId with|some t=>t a b c d|_=>Lean.Macro.throwUnsupported)|`(.$x:ident $a $b $c $d $e)=>(match(match x.getId.toString.front with|'I'=>[(`I,λa b c d e=>`(⟨$a,$b,$c,$d,$e⟩))]|'g'=>[(`gE,λa b c d e=>`(.ab $a $b $c $d $e rfl)),(`g5,λa b c d e=>`(ao .kW $a $b $c $d $e))]|'h'=>[(`hW,λa b c d e=>`(be (k:=$a) (XT.of $b $c) $d $e))]|'i'=>[(`iS,λa b c d e=>`(XE $a $b $c $d (λw O1=>$e)))]|'k'=>[(`ka,λa b c d e=>`(.U (.jA $a $b $c $d) $e))]|'n'=>[(`no,λa b c d e=>`(pB $a $b $c $d $e (he:=hs))),(`n6,λa b c d e=>`(mX (k:=$a) $b $c .M $d $e))]|'o'=>[(`oi,λa b c d e=>`(XA $a $b $c $d (λws O1=>$e))),(`ox,λa b c d e=>`(.cons $a $b (.cons $c $d $e))),(`oM,λa b c d e=>`(.A0 $a $b $c (.q9 $d) $e))]|'q'=>[(`qd,λa b c d e=>`(.At $a $b $c $d [] $e)),(`qh,λa b c d e=>`(ar.aB (j:=$a) (q:=$b) (O1:=$c) (O2:=$d) rfl $e)),(`qx,λa b c d e=>`(.ab $a $b $c .e $d $e))]|'r'=>[(`rb,λa b c d e=>`(.Av w $a $b $c $d $e))]|'s'=>[(`sd,λa b c d e=>`(.Call (.Name $a $b) $c $d $e))]|'t'=>[(`t3,λa b c d e=>`(.qc $a $b a $c $d $e))]|'A'=>[(`Au,λa b c d e=>`(Def $a $b $c (top $d) $e)),(`Aw,λa b c d e=>`(XV $a $b $c $d (.u $e))),(`AK,λa b c d e=>`(d_ (q:=$a) $b (X.bW.na $c $d) $e)),(`AM,λa b c d e=>`(Tx $a $b $c $d base $e)),(`AZ,λa b c d e=>`(.Ax $a $b .e $c $d $e)),(`A0,λa b c d e=>`(.AZ $a $b (.cE $c) $d $e)),(`A3,λa b c d e=>`(fU (ns:=$a) $b $c X.fK.cl $d $e))]|'B'=>[(`Bb,λa b c d e=>`(Tx P $a $b $c $d $e)),(`Bf,λa b c d e=>`(.ue $a $b $c .e6 $d $e))]|_=>[]:List (Lean.Name×(Lean.Term->Lean.Term->Lean.Term->Lean.Term->Lean.Term->Lean.MacroM Lean.Term))).lookup x.getId with|some t=>t a b c d e|_=>Lean.Macro.throwUnsupported)|`(.$x:ident $a $b $c $d $e $f)=>(match(match x.getId.toString.front with|'a'=>[(`ab,λa b c d e f=>`(⟨$a,$b,$c,$d,$e,$f⟩))]|'f'=>[(`fD,λa b c d e f=>`(⟨$a,$b,$c,$d,$e,$f,rfl⟩)),(`fK,λa b c d e f=>`(⟨$a,$b,_,$c,$d,$e,$f⟩))]|'h'=>[(`hv,λa b c d e f=>`(Cx.bl X $a $b $c $d $e $f))]|'j'=>[(`jL,λa b c d e f=>`(fH (l:=$a) (f:=$b) $c $d .a $e $f))]|'k'=>[(`kV,λa b c d e f=>`(⟨$a,$b,$c,rfl,$d,$e,$f⟩))]|'n'=>[(`nC,λa b c d e f=>`(I.turned (t':= .cw) $a $b $c $d $e $f))]|'q'=>[(`qc,λa b c d e f=>`(CD.O $a $b d $c $d $e $f))]|'r'=>[(`rd,λa b c d e f=>`(cM (w:=$a) (k:=$b) (u:=$c) .e $d $e $f)),(`rj,λa b c d e f=>`(yd (k:=$a) (kf:=$b) (vf:=$c) (L:=$d) (w:=$e) (λx D e=>$f))),(`ro,λa b c d e f=>`(ar.aB (j:=$a) (q:=$b) (c:=$c) (O1:=$d) (O2:=$e) rfl $f))]|'u'=>[(`ue,λa b c d e f=>`(dM $a $b $c .e $d $e $f))]|'A'=>[(`At,λa b c d e f=>`(.Call (.Attribute $a $b $c) $d $e $f)),(`Av,λa b c d e f=>`(ao (.mA $a) $b $c $d $e $f)),(`Ax,λa b c d e f=>`(fU (ns:=$a) (w:=$b) $c $d X.ck.cl $e $f))]|_=>[]:List (Lean.Name×(Lean.Term->Lean.Term->Lean.Term->Lean.Term->Lean.Term->Lean.Term->Lean.MacroM Lean.Term))).lookup x.getId with|some t=>t a b c d e f|_=>Lean.Macro.throwUnsupported)
section
open PySem PySem.Spec PyProof.Rows
namespace L2
end L2
namespace PySem
inductive eH(K:Type) where
 |at(k:K)
 |tp (ks:.y K)
 deriving DecidableEq
section
variable{K:Type}[.l4 K](knd:KeyKind prog w K)
def ja(h:bI):eH K->aw->Prop
 |.at k,v=>.n<|knd.is k v
 |.tp b,v=>∃a,v=.T/\Iy knd h b a
inductive jv(h:bI):.y (eH K)->.ey .b1
 |nil:jv h [] []
 |cons {k:eH K} {v:aw} {ks:.y (eH K)} {vs:.b1}:ja knd h k v->jv h ks vs->jv h (k::ks) (v::vs)
def jw(h:bI)(ks:.y (eH K))(a:af):=∃o b n,.cT a=.v/\o.cls=.fu/\.ce=.seq b n/\jv knd h ks b.toList
variable{knd}
theorem ja.inj(D:ja knd h x v)(T:ja knd h y v):x=y:=by
 cases x with
 |«at» k=>
  cases y with
  |«at» c=>rw[knd.inj _ _ _ D T]
  |tp b=>let[a,rfl,_]:=T;have:=knd.byValue _ _ D;simp[SW] at this
 |tp b=>
  let[a,rfl,D]:=D;cases y with
  |«at» c=>have:=knd.byValue _ _ T;simp[SW] at this
  |tp V=>let[C,e,T]:=T;cases e;rw[D.inj T]
theorem jv.inj(D:jv knd h x vs)(T:jv knd h y vs):x=y:=by
 induction D generalizing y with
 |nil=>cases T;rfl
 |cons B _ E=>
  cases T with
  |cons M c=>rw[B.inj M,E c]
def jw.typeIs{s:bO}(x:jw knd .R ks a):.kR .T .f4:=let⟨o,_,_,l,V,_⟩:=x;(.em l V)
theorem jw.inj(D:jw knd h x a)(d:jw knd h y a):x=y:=by let[o,b,n,l,_,N,e]:=D;let[T,i,f,t,_,U,c]:=d;obtain rfl:o=T:=we (l.symm.trans t);rw[N] at U;injection U with B _;subst B;show e.inj c
def ja.keeps(x:ja knd h k v)(l:.cT d=.v)(N:.ce=.i7)(hs:mw d h h'):ja knd h' k v:=by
 cases k with
 |«at» k=>show x
 |tp b=>let[a,e,y]:=x;show(.g a e<|y.keeps l N hs)
def jv.keeps(x:jv knd h ks vs)(l:.cT d=.v)(N:.ce=.i7)(hs:mw d h h'):jv knd h' ks vs:=by
 induction x with
 |nil=>show .nil
 |cons B _ E=>show .bj (B.keeps l N hs) E
def jw.keeps(x:jw knd h ks a)(l:.cT d=.v)(N:.ce=.i7)(hs:mw d h h'):
  jw knd h' ks a:=by
 let[T,b,n,t,V,U,c]:=x;let y:a≠d:=.d
 show{T,b,n,.aA (hs.2 a y) t,V,U,c.keeps l N hs}
variable(knd) in
def w_:eH K->Int
 |.at k=>knd.hash k
 |.tp ks=>tupleKeyHash knd ks
def J1:eH K->Nat
 |.at _=>1
 |.tp a=>.bE+1
def DG(knd:KeyKind prog w K)(ks:.y (eH K)):=reduceHash<|Iz (.dk<|w_ knd)
def Ac(ks:.y (eH K)):=(.dk J1).sum
def U8(R:.gM<eE)(L:ja knd .R k v)(h:Q (w_ knd k) (.mJ<|.cw+J1 k)):
  .ci (pyHash v):=by
 cases k with
 |«at» k=>show knd.pyHash L h
 |tp b=>let[a,rfl,y]:=L;show wpAny_pyHash_tuple R y h
def U9(R:.gM+1<eE)(L:jw knd .R ks a)(h:Q (DG knd ks) (.mJ<|.cw+(Ac ks+1))):
  .ci (pyHash .T):=by
 let M:=L.typeIs;let[o,c,n,l,_,N,g]:=L;first|refine ah (wpAny_cRoomFor_or (.F<|by omega) ?_)|skip
 refine ah<|y5 M IA.lookup ?_;calc ah (y5 M IA.lookup ?_);calc ah (wpAny_callSpecialIfBoundUnlessNone?_slot M IA (lC IA M F.entry_tuple_hash ?_<|F.args_tuple_hash_1 _));change ao _ _ (SX _>>=_) _ _ s;calc ah (SY l N ?_);calc .fW;rw[<-S0];refine CN _
  (λG (b:_) J=>∃D e,ks=D++e/\jv knd .R e G/\b.toList=D.map (w_ knd)/\J=(.mJ<|.cw+Ac D))
  _ ?_ ?_ _ _<|.ht [] ks rfl g
 .intro x G b J [D,e,rfl,d,Y,rfl];cases d with
  | @cons k _ V _ B f=>
   refine ah<|U8 .a B ?_;first
    |exact aG _
    |exact ah<|aG (aG (.ab (D++[k]) V .f f (by simp[Y])<|by simp[Ac,aml]))
 .intro b J [D,e,rfl,d,Y,rfl];cases d;rw[eS] at h;change ao _ _ (retInt _) _ _ _;rw[Y];calc wpAny_ret_mkInt ?_;change ao _ _ (.e9 (.e2 (.iZ (-(2:Int)^63) (Iz<|_)) _) _ _) Q E _;unfold DG reduceHash at h;by_cases Z:.e2 (.iZ (-(2:Int)^63)<|Iz (D.map<|w_ knd)) (.ai (Iz (D.map<|w_ knd))<|2^63)
  .rw[.r Z];rw[.r Z] at h;show aG .a
  .rw[.x Z];rw[.x Z] at h;grind[ah,tZ,aG]
def J2(R:.gM<eE)(D:ja knd .R x u)(T:ja knd .R y v)(L:(∃a b,x=.at a/\y=.at b)\/∃a b,x=.tp a/\y=.tp b)(h:Q (.aj x y) s):
  .ci (y6 u v):=by
 let[a,b,rfl,rfl]|||[a,b,rfl,rfl]:=L
 .let e:.aj (eH.at a) (eH.at b)=.aj a b:=.f
  rw[e] at h;show knd.eqBool D T h
 .let[p,rfl,D]:=D;let[q,rfl,T]:=T;grind[decide,wpAny_eqBool_tuple]
def U_{a b}{P}(p:.uG)(R:.gM<eE)(D:jw knd .R x a)(T:jw knd .R y b)(h:P (.done<|.ret (.eQ<|.aj x y)) s):
  .k6 (Builtin.«tuple.__eq__»<|.gU [.T,.dn]) P s:=by
 have U':=T.typeIs;let[oa,F,N,Va,_,U,O]:=D;let[ob,k,i,f,_,d,I]:=T;change ao _ _ (S1 .dn .fu>>=_) _ _ s;calc ah (y8 U' S2 ?_);simp only[S3,wg,if_false];calc ah (SY Va U ?_);calc ah (SY f d ?_);calc .fW;refine CN _
  (λG r J=>.H r.1/\J=s/\∃V e c Y,G=List.zip c Y/\jv knd .R V c/\jv knd .R e Y/\.aj V e=.aj x y/\(.c9==.jZ)=(F.size==k.size))
  _ ?_ ?_ _ _ #[rfl,rfl,x,y,F.toList,k.toList,rfl,O,I,rfl,.f]
 .intro[u,v] G r J [Z,rfl,V,e,c,Y,C,X,W,H,o];cases X with
  |nil=>simp at C
  | @cons k1 u' z l B n=>
   cases W with
   |nil=>simp at C
   | @cons k2 S t j M q=>
    simp only[nB,y9,amm] at C;let[[rfl,rfl],rfl]:=C;calc ah (p (x:=k1) (y:=k2) R B M ?_);by_cases L:k1=k2
    .subst L;rw[.g8 rfl];simp only[S3,wg,if_false];calc aG #[rfl,rfl,z,t,l,j,rfl,n,q,?_,.d];lk
    .rw[.h2 L];simp only[Bool.not_false,if_true];let hf:.aj x y=.j:=.d
     rw[hf] at h;show ah (aG (aG<|aG h))
 .rintro⟨g,m⟩ J ⟨Z,rfl,V,e,c,Y,C,X,W,H,o⟩;simp only at Z;subst Z;calc .dC;let aoK:(F.size==k.size)=.aj x y:=by
   rw[<-H,<-o];cases X with
   |nil=>
    cases W with
    |nil=>simp
    |cons _ _=>simp
   |cons _ _=>
    cases W with
    |nil=>simp
    |cons _ _=>simp at C
  change P (.done<|.ret (.eQ<|F.size==k.size)) J;lk
def Vb(p:.uG)(R:.gM+1<eE)(D:jw knd .R x a)(T:jw knd .R y b)(h:Q (.aj x y) s):
  .ci (y6 .T .dn):=by
 unfold y6;try with_reducible refine iz ?_
 by_cases H:.fc (fB a) (fB b)
 .let e:a=b:=.d
  subst e;obtain rfl:=D.inj T;grind[ah,tZ,aG]
 .rw[.x H];calc ah (wpAny_richCompare_same_room D.typeIs T.typeIs IB ?_ .a);calc lC IB D.typeIs F.entry_tuple_eq (U_ (λc B M d=>p c B M d) ?_ D T (.dB _ (λe=>nomatch e)<|ky h)) (F.args_tuple_eq_2 _ _);lia
def Vc(L:Iy knd .R ks a)(h:Q true s):.ci (IC (n'+1) .T):=by
 let M:=L.typeIs;let[o,b,n,l,_,N,c]:=L;unfold IC;calc ah (y5 M IB.lookup ?_);calc ah (y8 M S2 ?_);calc ah (wh l N ?_);calc .fW;rw[<-S0];refine CN _ (λG r J=>.H r.1/\J=s/\∀v∈G,.n (SW v)) _ ?_ ?_ _ _<|.aX rfl c.byValue
 .intro v G r J [Z,rfl,t];rw[amn _<|t v y_];show aG (.aX rfl (λu d=>t u<|gR _ d))
 .intro[g,m] J [Z,rfl,_];subst Z;show aG h
def Vd(L:jw knd .R ks a)(h:Q true s):.ci (IC 8 .T):=by
 let M:=L.typeIs;let[o,c,n,l,_,N,d]:=L;unfold IC;calc ah (y5 M IB.lookup ?_);calc ah (y8 M S2 ?_);calc ah (wh l N ?_);calc .fW;rw[<-S0];refine CN _ (λG r J=>.H r.1/\J=s/\∃V,jv knd .R V G) _ ?_ ?_ _ _<|.dB rfl ks d
 .intro v G r J [Z,rfl,V,t];cases t with
  | @cons k _ S _ B f=>
   cases k with
   |«at» k=>rw[amn _<|knd.byValue _ _ B];show aG (.dB rfl S f)
   |tp q=>let[b,rfl,y]:=B;calc ah (Vc y ?_);show aG (.dB rfl S f)
 .intro[g,m] J [Z,rfl,_];subst Z;show aG h
end
end PySem
namespace L2
abbrev Key:=Sum Int Str
def pj:Key->aw->Bool
 |.inl k,v=>amo k v
 |.inr x,v=>amq x v
def Ve(w:ew):Key->Int
 |.inl k=>hashInt k
 |.inr x=>hashStr w x
def kP:∀{k:Key} {v:aw},.n (pj k v)->(∃i t,k=aW i/\v=qc i t)\/(∃x t,k=CO x/\v=Value.str x t)
 |.inl i,v,h=>by let[t,e]:=amr h;lk
 |.inr x,v,h=>by let[t,e]:=Value.isStrOf_shape h;lk
def Vf i t:.n (pj (.z i)<|.gy i):=by simp[pj,amo]
def Vg x t:.n (pj (.F x)<|.str x t):=by simp[pj,amq]
def Vh a b:.aj (.ls a) (aW b)=(a==b):=.d
def Vi a b:.aj (CO a:Key) (CO b)=.aj a b:=.f
def Vj a b:.aj (.ls a) (CO b)=.j:=.bm
def Vk a b:.aj (CO a:Key) (aW b)=.j:=.bm
def iD prog w:PySem.KeyKind prog w Key where
 is:=pj
 hash:=Ve w
 inj:=λv a b J Y=>by
  let[i,t,rfl,rfl]|||[x,t,rfl,rfl]:=kP J
  .let[j,u,rfl,e]|||[y,u,rfl,e]:=kP Y
   .injection e with L _;rw[L]
   .show nomatch e
  .let[j,u,rfl,e]|||[y,u,rfl,e]:=kP Y
   .show nomatch e
   .injection e with L _;rw[L]
 byValue:=λk v h=>by let[i,t,rfl,rfl]|||[x,t,rfl,rfl]:=kP h<;>rfl
 pyHash:=λp h=>by
  let[i,t,rfl,rfl]|||[x,t,rfl,rfl]:=kP p
  .show wpAny_pyHash_int h
  .show wpAny_pyHash_str h
 eqBool:=λR p h=>by
  let[i,t,rfl,rfl]|||[x,t,rfl,rfl]:=kP R
  .let[j,u,rfl,rfl]|||[y,u,rfl,rfl]:=kP p
   .rw[Vh] at h;show wpAny_eqBool_int h
   .rw[Vj] at h;show ams i t y u _ _ _ _ h
  .let[j,u,rfl,rfl]|||[y,u,rfl,rfl]:=kP p
   .rw[Vk] at h;show amt x t j u _ _ _ _ h
   .rw[Vi] at h;show wpAny_eqBool_str h
 «strs»:=λk x t v h=>by
  let[i,u,rfl,e]|||[y,u,rfl,e]:=kP h
  .show nomatch e
  .injection e with L _;subst L;cases v<;>rfl
def Vl prog w i t:.n ((iD prog w).is (.z i)<|.gy i):=Vf i t
def Vm prog w x t:.n ((iD prog w).is (.F x)<|.str x t):=Vg x t
abbrev TK:=.y<|eH Key
def J3(x:Iy (iD P w) h ks a):∃items,h.IsTuple a items:=by let[o,items,n,B,M,A,_]:=x;show(.ab items o B M n A)
def Vn{x y}{Q}(R:.gM<eE)(D:ja (iD P w) .R x u)(T:ja (iD P w) .R y v)(h:Q (.aj x y) s):
  ao (ay P w) A (y6 u v) Q E s:=by
 cases x with
 |«at» a=>
  cases y with
  |«at» b=>show J2 R D T (.z<|.fG a b) h
  |tp b=>
   let[q,rfl,T]:=T;let[g,B]:=J3 T;let e:.aj (eH.at a) (eH.tp b)=.j:=.h2 .aV;let[i,t,_,rfl]|||[z,t,_,rfl]:=kP D
   .show SeqAt.EqAt.int_tuple i t B R _ _ _ _ h
   .show SeqAt.EqAt.str_tuple z t B R _ _ _ _ h
 |tp a=>
  cases y with
  |tp b=>show J2 R D T (.F<|.fG a b) h
  |«at» b=>
   let[q,rfl,D]:=D;let[g,B]:=J3 D;let e:.aj (eH.tp a) (eH.at b)=.j:=.h2 .aV;let[i,t,_,rfl]|||[z,t,_,rfl]:=kP T
   .show SeqAt.EqAt.tuple_int i t B R _ _ _ _ h
   .show SeqAt.EqAt.tuple_str z t B R _ _ _ _ h
def pq P w:HeapKind P w TK where
 is:=jw _
 hash:=DG _
 draws:=λa=>Ac a+1
 room:=λA=>.gM+1<eE
 inj:=λD T=>D.inj T
 keeps:=λx l N b=>x.keeps l N b
 pyHash:=λR L h=>U9 R L h
 eqBool:=λR D T h=>Vb (λd B M k=>Vn d B M k) R D T h
 quiet:=λL h=>Vd L h
def xa{A:gS}(R:.gM+2<eE):(pq P w).room .fR:=R
inductive V where
 |non|bl (b:Bool)|int (i:Int)|str (x:Str)|cQ (b:.eR UInt8)|xb (b:UInt64)|ref (a:af)|ty (n:String)
 deriving DecidableEq
def RelV:V->aw->Prop
 |.non,u=>u=t_
 |.bl b,u=>u=CP b
 |.int i,u=>∃t,u=qc i t
 |.str x,u=>∃t,u=Value.str x t
 |.cQ b,u=>∃t,u=Value.bytes b t
 |.xb b,u=>∃t,u=Value.float b t
 |.ref a,u=>u=fB a
 |.ty n,u=>u=nE n
abbrev aV:=eU RelV
theorem aV.length(r:.dG F):.aE=.lj:=mx r
theorem aV.get:∀{F:.au} {us:.b1} {i:Nat} {x:V},.dG F->F[i]?=.bt->∃u,us[i]?=.aJ/\.bT x
 |_,_,_,_,.nil,e=>by simp at e
 |_,_,0,_,.cons r _,e=>.d
 |_,_,i+1,x,.cons _ t,e=>by let[u,B,M]:=aV.get (i:=i) (x:=x) t .d;lk
def aV.set(r:.bT x):∀{F} {us} i,.dG F->aV (F.set i x) (us.set i u)
 |_,_,_,.nil=>.nil
 |_,_,0,.cons _ t=>.bj r t
 |_,_,i+1,.cons q t=>.bj q<|aV.set r i t
def aV.append:∀{F k:.au} {us ws:.b1},.dG F->aV k ws->aV (F++k) (us++ws)
 |_,_,_,_,.nil,s=>s
 |_,_,_,_,.cons r t,s=>.bj r<|aV.append t s
def aV.take:∀{F:.au} {us:.b1} (n:Nat),.dG F->aV (F.take n) (us.take n)
 |_,_,0,_=>.nil
 |_,_,_+1,.nil=>.nil
 |_,_,n+1,.cons r t=>.bj r<|aV.take n t
def aV.drop:∀{F:.au} {us:.b1} (n:Nat),.dG F->aV (F.drop n) (us.drop n)
 |_,_,0,r=>r
 |_,_,_+1,.nil=>.nil
 |_,_,n+1,.cons _ t=>aV.drop n t
def iE:.aR V->.ey (.aR aw)
 |some v,some u=>.bT v
 |none,none=>True
 |_,_=>False
def KV:.co a V->.ey (.co a aw):=eU λp q=>p.1=q.1/\RelV p.2 q.2
def kV:Key->V
 |.inl i=>.do
 |.inr x=>.str x
inductive HO where
 |lst (xs:.au)
 |tup (xs:.au)
 |dK (Vo:.co Key V)|dT (Vo:.co TK V)
 |set (S:.lm) (n:Nat)
 |ins (C dx:af) (fs:.dM V)
 |own (x:af)
 |xd (fs:.dM V)
 |met (f x:af)
 |mH (lo hi:Int)
 |aB (o:Obj) (u:HO)
 |gg (ps:.eR aw)
 |ext (φ:bI->Prop)
abbrev Hp:=af->.aR HO
def upd(H:Hp)(a:af)(o:HO):Hp:=.bw (.A (b=a) .v<|H b)
theorem dk:upd H a o a=.v:=by unfold upd;rw[.gO]
theorem aY{a b}{o}(h:b≠a):upd H a o b=H b:=by unfold upd;rw[.x h]
def J4{H:Hp}(h:H a=.v)(h':H b=.aJ)(d:o≠u):a≠b:=.d
def gC{H:Hp}(h:H a=.v)(h':.ew):a≠b:=.d
def qv(H:Hp):eH Key->V->Prop
 |.at k,v=>v=kV k
 |.tp a,v=>∃b,v=.dn/\H b=.ep (a.map kV)
def iF(H:Hp)(a:af)(k:TK):=∃b,H a=.ep b/\eU (qv H) k b
def qv.keeps(B:.q8):∀{k} {v},qv H k v->qv H' k v
 |.at _,_,x=>x
 |.tp _,_,⟨b,e,x⟩=>(.g b e<|B _ _ x)
def J5(B:.q8):∀{ks:TK} {vs},eU (qv H) ks vs->eU (qv H') ks vs
 |_,_,.nil=>.nil
 |_,_,.cons r t=>.bj (r.keeps B)<|J5 B t
def iF.keeps(B:.q8)(x:iF H a k):iF H' a k:=let⟨c,d,M⟩:=x;(.g c (B _ _ d)<|J5 B M)
section
variable(P:fu)(w:ew)
def eA(H:Hp)(h:bI)(a:af):HO->Prop
 |.lst F=>.aE<=bh/\∃g n,aV F g/\.cT a=.b (.kI .ck n)
 |.tup F=>.aE<=bh/\∃g,aV F g/\my h a .ck
 |.dK j=>.cS<=bh/\(a==kB)=.j/\∃c,KV j c/\h.DictOf (iD P w) a c
 |.dT j=>.cS<=bh/\(a==kB)=.j/\∃F,
  eU .xn j F/\
  ∃o b k,.cT a=.v/\.oZ/\.ce=.dict b k/\b.toList=.fQ (entryOfKey<|pq P w)/\(.a9 (.fQ .fr))
 |.set S n=>h.SetOf (intKind P w) a S n
 |.ins C i Y=>H i=.l9 a/\.bh .jZ/\i≠a/\.cT a=.b (ua C i)/\
  ∃L,h.Ns1 i L/\(∀f,iE (Y.lookup f) (L f))/\S4 L (Y.map .fr)
 |.own _=>∃o,.cT a=.v
 |.xd Y=>∃L,h.Ns1 a L/\∀f,iE (Y.lookup f) (L f)
 |.mH d e=>∃t u v,.cT a=.b (.gZ .es<|.nM [.gy d,.av e u,.av 1 v])
 |.aB o u=>.cT a=.v/\eA H h a u
 |.gg G=>.cT a=.zT
 |.met f x=>.cT a=.b (PySem.W.methodObj .ej<|.p x)
 |.ext D=>D h/\(∃o,.cT a=.v)/\∀B M,D B->(∀o,B.get? a=.v->M.get? a=.v)->D M
def dI(H:Hp)(h:bI):=∀a o,H a=.v->eA P w H h a o
end
def eA.lt(x:eA P w H h a o):a<.h9:=by
 cases o with
 |lst F=>let[_,_,_,_,e]:=x;show bK e
 |tup F=>let[_,_,_,p]:=x;show p.lt
 |dK j=>let[_,_,_,_,o,_,_,e,_]:=x;show bK e
 |dT j=>let[_,_,_,_,o,_,_,e,_]:=x;show bK e
 |set S n=>let[o,_,_,_,e,_]:=x;show bK e
 |ins C i Y=>let[_,_,_,e,_]:=x;show bK e
 |own y=>let[_,e]:=x;show bK e
 |xd Y=>let[_,[_,_,_,e,_],_]:=x;show bK e
 |mH d b=>let[_,_,_,e]:=x;show bK e
 |aB c u=>let[e,_]:=x;show bK e
 |gg G=>show bK (x)
 |met f y=>show bK (x)
 |ext D=>let[_,[_,e],_]:=x;show bK e
def Paired.DH:∀{l₁:.aS} {l₂:.y c},eU F l₁ l₂->(∀a b,F a b->G a b)->eU G l₁ l₂
 |_,_,.nil,_=>.nil
 |_,_,.cons r t,f=>.bj (f _ _ r)<|Paired.DH t f
def eA.jX(x:eA P w H h a o)(k:.j0 (b=a\/H b=.l9 a) (.fP=.aJ->.eT=.aJ))
  (l:.bu (H b=.l9 a) (H' b=.l9 a)) (B:.q8):eA P w H' h' a o:=by
 induction o with
 |lst F=>let[z,g,n,r,e]:=x;show(.I z g n r<|k _ _ .w e)
 |tup F=>let[z,g,r,m,e,c]:=x;show(.ab z g r m (k _ _ .w e) c)
 |dK j=>let[z,y,M,r,m,s,A,e,c]:=x;show{z,y,M,r,m,s,A,k _ _ .w e,c}
 |dT j=>let[z,y,F,r,m,s,A,e,c]:=x;show{z,y,F,Paired.DH r λp q z=>(.g z.1 (z.2.1.keeps B) z.2.2),m,s,A,k _ _ .w e,c}
 |set S n=>let[m,s,A,t,e,c]:=x;show(.ab m s A t (k _ _ .w e) c)
 |ins C i Y=>let[d,z,U,e,L,[I,s,A,J,c],r]:=x;show{l _ d,z,U,k _ _ .w e,L,(.I I s A (k _ _ (.F d) J) c),r}
 |own y=>let[m,e]:=x;show(.c m<|k _ _ .w e)
 |xd Y=>let[L,[I,s,A,e,c],r]:=x;show(.g L (.I I s A (k _ _ .w e) c) r)
 |mH N O=>let[t,u,v,e]:=x;show(.q t u v<|k _ _ .w e)
 |aB m u E=>let[e,q]:=x;show(.c (k _ _ .w e)<|E q)
 |gg G=>let e:.cT a=_:=x;change .lE a=_;lk
 |met f y=>let e:_=_:=x;change _=_;lk
 |ext D=>let[p,[o,e],Z]:=x;show(.g (Z _ _ p λo q=>k _ _ .w q) (.c o<|k _ _ .w e) Z)
def dI.lt(x:dI P w H h)(e:H a=.v):=(x a o e).lt
def dI.fresh(x:dI P w H h)(e:.h9<=a):.bI a:=by
 cases q:H a with
 |none=>rfl
 |some u=>show .aa (fO (x.lt q) e) (rK _)
def dI.kept(x:dI P w H h)(k:.sb):dI P w H h':=λa o e=>
 (x a o e).jX (λb u _ q=>k b u q) (λ_ q=>q) λ_ _ q=>q
theorem dI.laid(x:dI P w H h)(k:.sb)(R:.h9<=a)(d:eA P w (.a8 a o) h' a o):dI P w (.a8 a o) h':=.ml<|by
 let t:=x.fresh R;by_cases Y:b=a
 .subst Y;rw[dk] at e;lk
 .rw[aY Y] at e;show(x b u e).jX (λc v _ q=>k c v q) (λc q=>.lO<|gC q t) λc F q=>.lO (gC q t)
def Rd(H:Hp)(a:af)(u:HO):=H a=.aJ\/∃o,H a=.hA u
def Rd.ok(r:Rd H a u)(x:dI P w H h):eA P w H h a u:=by
 let r|||[o,r]:=r
 .show x a u r
 .let[_,q]:=x a _ r;show q
def jx:.ey (.aR HO)
 |some (.lst _)=>True
 |some (.dK _)=>True
 |some (.dT _)=>True
 |some (.set _ _)=>True
 |some (.ins _ _ _)=>True
 |some (.ext _)=>True
 |_=>False
def dI.write(Q:dI P w H h)(M:jx (H x))(he:e=x\/H e=.l9 x)(k:.xr)(E:∃u,.lE e=.aJ)
  (a:eA P w (.a8 x T) h' x T):dI P w (.a8 x T) h':=λb u q=>by
 let n:∀c y,H c=.l9 y->c≠x:=λc y r z=>by subst z;rw[r] at M;show M
 let t:∀c F,H c=.ep F->c≠x:=λc F r z=>by subst z;rw[r] at M;show M
 by_cases Y:b=x
 .subst Y;rw[dk] at q;lk
 .rw[aY Y] at q;by_cases B:b=e
  .let N:H b=.l9 x:=.d
   rw[q] at N;cases N;let[v,p]:=E;show(.c v .d)
  .refine(Q b u q).jX (λc v V r=>k c v ?_ r) (λc r=>by rw[aY<|n c b r];show r) λc F r=>by rw[aY<|t c F r];show r
   lk
def lN(l:Nat):Str:=.ea (l=120) "bottom_up.<locals>.<lambda>" "core_among.<locals>.<lambda>"
def Gd(H:Hp)(G:.eR aw):=S5 G.toList/\∀p C,za p G.toList=.b C->∃c o a t,C=.p c/\H c=.hA (.own 0)/\.ce=.fields a/\a[1]?=.b (.str (lN p.line) t)
def Gd.mono(x:Gd H G)(f:.v0):Gd H' (G++.bH):=by show(.c x.1 λp C h=>let⟨c,o,e,t,a,b,d⟩:=x.2 p C h;{c,o,e,t,a,f _ _ b,d})
def Tb(K:bj)(H:Hp):=∀x∈([.h8,.h5]:.a7),∀c P,lD K x=.be c P->∃G,H P=.nh G/\Gd H G
structure Un(fs ex:.bL)(H H':Hp)(h h':bI):Prop where
 keep:.a3 (.fP=.v) (.ew->b∉fs->b∉ex->.eT=.v)
 slot:.a3 (.fP=.v) (.ew->b∈fs->b∉ex->∃sl,.eT=.b {o with slots:=sl})
 free:.a3 (.fP=.v) (.ew->b∉ex->.H (H' b))
 there:.a3 (.fP=.v) (b∉ex->∃o',.eT=.b o')
 sd:∀b xs,H b=.ep xs->H' b=.ep xs
 pv:.yo
 px:∀b ps,H b=.nh ps->∃more,H' b=.nh (ps++more)/\(Gd H ps->Gd H' (ps++more))
def Un.any(u:Un a G H c h B)(q:.fP=.b ob)(n:.ew)(D:b∉G):∃Z,B.get? b=.b {ob with slots:=Z}:=by
 by_cases Y:b∈a
 .show u.slot b ob q n Y D
 .show(.c ob.slots<|u.keep b ob q n Y D)
def Un.kept(k:.sb):Un Y c H H h h':=
 {λb a q _ _ _=>k b a q,λb a q _ _ _=>(.c a.slots<|k b a q),λ_ _ _ n _=>n,λb a q _=>(.c a<|k b a q),λ_ _ q=>q,λ_ _ _ q=>q,λ_ G q=>.tu}
theorem Un.refl:Un Y G H H h h:=Un.kept λ_ _ q=>q
theorem Un.laid(k:.sb)(R:.h9<=a)(t:.bI a):Un Y G H (.a8 a o) h h' where
 keep:=λb u q _ _ _=>k b u q
 slot:=λb u q _ _ _=>(.c u.slots<|k b u q)
 free:=λb u q n _=>by rw[aY<|.mh q R];show n
 there:=λb u q _=>(.c u<|k b u q)
 sd:=λb F q=>.lO<|gC q t
 pv:=λb u F q=>.lO<|gC q t
 px:=λb c q=>(.g .bH (by rw[aY<|gC q t,q];simp)<|.qU (λb o q=>.lO<|gC q t))
def Un.write(M:jx (H x))(he:e=x\/H e=.l9 x)(k:.xr)(E:∃u,.lE e=.aJ):Un c a H (.a8 x o) h h':=by
 let D:.bu .ew (b≠x):=λb n z=>by subst z;rw[n] at M;show M
 let Y:.bu .ew (b≠e):=λb n z=>.d
 let G:.j0 (H b=.aJ) (¬jx .aJ->b≠x):=λb u q N z=>.d
 refine{λb u q n _ _=>k b u (Y b n) q,λb u q n _ _=>(.c u.slots<|k b u (Y b n) q),λb u q n _=>by rw[aY<|D b n];show n,λb u q _=>?_,
  λb F q=>.lO<|G b _ q .e1,λb u F q=>.lO<|G b _ q .e1,λb d q=>(.g .bH (by rw[aY<|G b _ q .e1,q];simp)<|.qU (λb o q=>.lO<|G b _ q .e1))};lk
def J6(h:bI)(H:Hp):=.dx (aq .h9) λa=>(H a).isSome
def pz(h:bI)(H:Hp):=PySem.W.hideAll h<|J6 h H
def Vp h H:(pz h H).objs.size=.h9:=PySem.W.hideAll_size _ _
def Vq(e:.fP=.v)(n:.ew):(pz h H).get? b=.v:=
 PySem.W.hideAll_get _ e λG=>by let q:=(cZ.mp G).2;lk
def Vr(e:(pz h H).get? b=.v):.fP=.v/\.ew:=by
 let j:=PySem.W.of_hideAll _ e;calc(.bM j);cases q:H b with
 |none=>rfl
 |some x=>grind[J6,bK,pz,PySem.W.hideAll_none]
def Ad(g h:bI)(L:af):=.mO .h9 (λa=>.kw (a=L\/.n (g.get? a).isSome) none<|(.cT a).map λo=>(a,o))
def J7(B:a≠L)(M:.H (g.get? a))(A:.cT a=.v):(a,o)∈Ad g h L:=
 jS.mpr (.g a (.fO<|bK A) .d)
def J8(R:p∈Ad g h L):p.1≠L/\.H (g.get? p.1)/\.cT p.1=.b p.2:=by
 let[b,_,e]:=jS.mp R;split at e
 .cases e
 .cases q:.fP with
  |none=>lk
  |some u=>rw[q] at e;simp only[wj,amu] at e;subst e;cbv
structure Mod(K:bj)(mg:.dl)(base:bI):Prop where
 xc:K.In base
 glob:base.Ns jr mg
 blt:∃mb,base.Ns zb mb/\∀x:Str,x≠.oX->mb x=wo x
 nolimit:base.NoLimit
structure Cx where
 prog:fu
 w:ew
 K:bj
 mg:.dl
 base:bI
 A:gS
 N:.a7
 iG:bO
 qw:Hp
 env:Env
 outer:.im
 stack:.im
 ex:.bL
 fn:Str->Bool
 calm:Bool
 pn:.kU af
 xe:.hq
def mI(l:.im):=.pY (·.frame)
abbrev Cx.fs(X:Cx):=mI X.outer
def uA(t:jT)(x:Str):=.mN x=.cP\/.mN x=.iN\/.mN x=.n1
def Loc(t:jT)(x:Str):=.mN x=.cP\/.mN x=.iN
def Look(f:Env)(h:bI)(m:.dl)(x:Str)(u:aw):=
 (f.kindOf x=.cP/\m x=.aJ)\/((f.kindOf x=.iN\/f.kindOf x=.n1)/\∃c,f.cells.lookup x=.cA/\h.IsCell c .aJ)
structure Cx.Ok(X:Cx):Prop where
 mod:Mod X.K X.mg .dj
 kind:X.env.scope.kind=.ll
 glob:X.env.globals=jr
 blt:X.env.builtins=zb
 above:.pj<=.eB
 inj:∀x y c,.g3 x=.cA->.g3 y=.cA->x=y
 has:∀x,(X.env.kindOf x=.iN\/X.env.kindOf x=.n1)->∃c,.g3 x=.cA
 xf:∀x c,.f2 x->.g3 x=.cA->.pj<=c
 hd:.bP->.H X.A.handled
 frames:X.A.frames=.b .kh
 Ae:.kh=X.outer\/(.kh=.X::X.outer/\X.env.frame=.b .eB)
 Af:∀b∈X.ex,b≠.eB/\∀x c,.g3 x=.cA->c≠b
 bs:.a3 (X.base.get? b=.v) (X.iG.heap.get? b=.v/\.H (X.qw b))
 nQ:X.base.objs.size<=.pj
 xg:.a3 (X.base.get? b=.v) (b∉X.ex)
 xh:∀b∈X.ex,b∉X.fs
 lO:X.iG.heap.FunFrames .dj X.outer
 se:∀b∈X.fs,.H<|X.qw b
 tab:Tb X.K X.qw
structure Inv(X:Cx)(pins:.kU af)(σ:.y (.aR V))(H:Hp)(s:bO):Prop where
 ok:X.Ok
 os:s.os=X.iG.os
 bare:wq s.gens
 base:Un X.fs X.ex X.qw H X.iG.heap .R
 loc:∃m,s.heap.Ns .eB m/\∀(i:Nat) (x:Str) (v:V),.d5 i=.bt->σ[i]?=.b .aO->uA .hY x->∃u,.bT v/\Look .X .R m x u
 cell:∀x c,.g3 x=.cA->∃v,s.heap.IsCell c v
 free:.bI .eB
 jY:∀x c,.g3 x=.cA->.bI c
 pin:∀p∈X.pn++pins,.u4
 aL:dI .ar X.w H .R
 len:σ.length=X.N.length
section
variable{X:Cx}
def Cx.Ok.Vs(Q:X.Ok)(e:X.base.get? b=.v):b∉X.fs:=λY=>.jP (Q.lO.mem Y).1
def Inv.bs(I:.ak):.a3 (X.base.get? b=.v) (.eM=.v/\.ew):=λb o e=>
 (.c (I.base.keep b o (I.ok.bs b o e).1 (I.ok.bs b o e).2 (I.ok.Vs e)<|I.ok.xg b o e) (.o7 o (I.ok.bs b o e).1 (I.ok.bs b o e).2<|I.ok.xg b o e))
def Inv.bk(I:.ak):.a3 (X.base.get? b=.v) (.eM=.v):=.bQ (I.bs b o e).1
def Inv.mod(I:.ak):=I.ok.mod
def Inv.iH(I:.ak):=I.ok.mod.xc.keeps I.bk
def Inv.tab(I:.ak):Tb X.K H:=λp R c P h=>by let[G,B,M]:=I.ok.tab p R c P h;let[m,e,g]:=I.base.px P G B;lk
def Inv.lt(I:.ak):=let⟨_,t,_⟩:=I.loc;t.lt
def Inv.sz(I:.ak):=bC I.ok.above<|fv I.lt
def Inv.Vt(I:.ak)(h:.G<=a):a∉X.fs:=λY=>by let[_,o,l,_]:=I.ok.lO.mem Y;show .aa (.qD l<|bC I.sz h) (rK _)
def Inv.sf(I:.hZ b H s):∀x c,.g3 x=.cA->c≠.eB:=λx c e z=>by let[v,o,l,N]:=I.cell x c e;let[m,[T,d,a,t,U,_],_]:=I.loc;lk
def Inv.lO(I:.ak):s.heap.FunFrames .dj X.outer:=by
 have v:∀(l:.im),(∀b∈mI l,b∈X.fs)->X.iG.heap.FunFrames .dj l->s.heap.FunFrames .dj l:=by
  intro l;induction l with
  |nil=>intro _ _;trivial
  |cons f r E=>intro a d;let[g,[L,o,J,t,c,N],Z]:=d;let W:L∈X.fs:=a L (by unfold mI;lk);let[h,e]:=I.base.slot L o c (I.ok.se L W) W (.s<|I.ok.xh L z W);show(.g g (.ab L _ J t e N)<|E (.a4 (a b<|by grind[mI,amv,gR])) Z)
 show v X.outer (λ_ Y=>Y) I.ok.lO
def Inv.stack(I:.ak):s.heap.FunFrames .dj .kh:=by
 let e|||[e,J]:=I.ok.Ae
 .rw[e];show I.lO
 .rw[e];let[m,t,_]:=I.loc;calc .cons (by rw[I.ok.kind];decide) J t ?_ I.lO;show amw (bC I.ok.nQ I.ok.above)
def Inv.DI(I:.ak):∀b∈mI .kh,b∈.eB::X.fs:=.a4 (by
 let e|||[e,J]:=I.ok.Ae
 .lk
 grind[mI])
def Inv.J9(I:.ak):∀b∈mI .kh,.ew:=.a4 (by
 let e|||Y:=.c6 (I.DI b Y)
 .rw[e];show I.free
 .let[_,o,l,_]:=I.ok.lO.mem Y;show .o7 o l (I.ok.se b Y) (.s<|I.ok.xh b z Y))
theorem Inv.step{d'}{ch:.bL}(I:.ak)
  (h:∀b∈ch,.sT)
  (P:.a3 (b≠.eB) (b∉X.fs->b∉ch->.eM=.v->.ew->.eT=.v))
  (K:.a3 (b≠.eB) (b∈X.fs->b∉ch->.eM=.v->.ew->∃Z,.eT=.b {o with slots:=Z})) (j:.a3 (b∉ch) (.eM=.v->.ew->.H (H' b)))
  (a:.a3 (b∉ch) (.eM=.v->∃T,.eT=.b T))
  (w:.q8) (Q:.yo) (O:∀b G,H b=.nh G->∃A,H' b=.nh (G++A)/\(Gd H G->Gd H' (G++A)))
  (ns:∀m,s.heap.Ns .eB m->h'.Ns .eB m) (y:dI .ar X.w H' h') (S:wq g'):
  .wt:=by
 have W:.a3 (X.iG.heap.get? b=.v) (b≠.eB):=.bQ (.mh e I.ok.above);let B:.a3 (X.iG.heap.get? b=.v) (b∉X.ex->b∉ch):=λb o e D Y=>by
  let z|||z:=(h b Y).1
  .show D z
  .show .aa (.qD e z) (rK _)
 have E:∀x c,.g3 x=.cA->∀v,s.heap.IsCell c v->h'.IsCell c v:=λx c e v #[o,g,N]=>by
  let J_:c∉ch:=.s ((h c z).2.2.1 x c e rfl);by_cases V:c∈X.fs
  .let[Z,q]:=K c o (I.sf x c e) V J_ g (I.jY x c e);show(.D q N)
  .show(.em (P c o (I.sf x c e) V J_ g<|I.jY x c e) N)
 refine{I.ok,I.os,S,{.rp,.rp,λb o e n D=>?_,λb o e D=>?_,λb F e=>w b F<|I.base.sd b F e,λb o F e=>Q b o F<|I.base.pv b o F e,λb G e=>?_},?_,λx c e=>?_,?_,λx c e=>?_,.hR,y,I.len}
 .show P b o (W b o e) Y (B b o e D) (I.base.keep b o e n Y D) (.o7 o e n D)
 .let[Z,L]:=I.base.slot b o e n Y D;let[Vu,C]:=K b _ (W b o e) Y (B b o e D) L (.o7 o e n D);show(.c Vu C)
 .let[T,L]:=I.base.there b o e D;show j b T (B b o e D) L (.o7 o e n D)
 .let[T,L]:=I.base.there b o e D;show a b T (B b o e D) L
 .let[M,L,g1]:=I.base.px b G e;let[m2,C,g2]:=O b _ L;show(.g (M++m2) (by rw[C,amx]) (.ah<|by rw[<-amx];show g2 (g1 x)))
 .let[m,t,hl]:=I.loc;calc(.g m (ns m t) λi x v L C f=>?_);let[u,r,l]:=hl i x v L C f;calc(.cf u r);let l|||[k,c,e,z]:=l
  .show .z l
  .show .F (.q k c e<|E x c e _ z)
 .let[v,z]:=I.cell x c e;show(.c v<|E x c e v z)
 .let[m,[o,_,_,g,_],_]:=I.loc;show j _ o (.s<|(h _ z).2.1 rfl) g I.free
 .let[v,o,g,N]:=I.cell x c e;show j c o (.s<|(h c z).2.2.1 x c e rfl) g (I.jY x c e)
 .let[e,n,ne,J,d]:=I.pin p R;lk
def Inv.un(I:.ak)(u:Un X.fs [] H H' .R h')(y:dI .ar X.w H' h'):.mD H':=by
 let[m,[o,c,d,l,r],_]:=id I.loc;let[Z,W]:=u.any l I.free .f;show I.step (ch:=[]) .kr (λb o _ Y _ e n=>u.keep b o e n Y .f) (λb o _ Y _ e n=>u.slot b o e n Y .f) (λb o _ e n=>u.free b o e n .f) (λb o _ e=>u.there b o e .f) u.sd u.pv u.px (λp G=>by let[T,x,a,t,D]:=G;rw[l] at t;cases t;show(.I _ x a W D)) y .ix
theorem Inv.call(I:.ak)(u:Un (mI .kh) ch H H' .R h')(y:dI .ar X.w H' h')(S:wq g')
  (h:∀b∈ch,.sT):
  .wt:=by
 let[m,[o,i,g,l,r],_]:=id I.loc;let[Z,W]:=u.any l I.free (.s<|(h _ z).2.1 rfl);show I.step h (λb o W Y V e n=>u.keep b o e n (.s<|(.c6<|I.DI b z).elim W Y) V) (λb o _ _ V e n=>u.any e n V) (λb o V e n=>u.free b o e n V) (λb o V e=>u.there b o e V) u.sd u.pv u.px (λf G=>by let[T,d,a,t,D]:=G;rw[l] at t;cases t;show(.I _ d a W D)) y S
def Inv.turned{C}(I:.ak)(k:.a3 (b≠C) (.eM=.v->.eT=.v))(t:.bI C)(W:C≠.eB)
  (B:C∈X.ex\/.pj<=C) (M:∀x c,.g3 x=.cA->c≠C) (A:∀p∈X.pn++pins,p.1≠C):.mD H:=by
 let i:.j0 (H b=.aJ) (b≠C):=λb u e z=>.d
 refine I.step (g':=s.gens) (d':=s.drawn) (ch:=[C]) (.a4 ?_) (.qt<|k b o (.s<|V .m1) e) (.qt (.c o.slots<|k b o (.s<|V .m1) e)) (λ_ _ _ _ n=>n)
  (λb o V e=>(.c o<|k b o (.s<|V .m1) e)) (λ_ _ e=>e) (λ_ _ _ e=>e) (λb f e=>.tu) (.hw ?_) (.ml ?_) .ix
 .lk
 .let[o,d,a,l,r]:=G;show(.I o d a (k _ o (i6 W) l) r)
 .calc .wm;lk
def Inv.tok(I:.ak) t:.mE {s with toks:=t}:=I.un Un.refl I.aL
def Inv.kept(I:.ak)(k:.yn):.mD H:=I.un (Un.kept k)<|I.aL.kept k
theorem Inv.laid(I:.ak)(k:.yn)(R:.G<=a)(c:eA .ar X.w (.a8 a o) h' a o):
 .mD (.a8 a o):=I.un (Un.laid k R<|.nb R)<|I.aL.laid k R c
def Inv.write(I:.ak)(M:jx (H x))(he:e=x\/H e=.l9 x)(k:.j0 (b≠e) (.eM=.aJ->.eT=.aJ))(E:∃u,.lE e=.aJ)
 (c:eA .ar X.w (.a8 x o) h' x o):.mD (.a8 x o):=I.un (Un.write M he k E)<|I.aL.write M he k E c
def Inv.weak(I:.ak)(d:C.length=U.length)(w:∀(i:Nat) v,C[i]?=.b .aO->U[i]?=.b .aO):.hZ C H s:=
 {I.ok,I.os,.ix,I.base,let⟨m,t,f⟩:=I.loc;(.g m t λi x v L a b=>f i x v L (w i v a) b),I.cell,I.free,I.jY,I.pin,I.aL,d.trans I.len}
def Inv.J'(I:.ak)(h:∀p∈P,.u4):.pV P:=
 {I.ok,I.os,.ix,I.base,I.loc,I.cell,I.free,I.jY,.dz ((.c7 R).elim (.s (I.pin p<|qd _ z))<|h p),I.aL,I.len}
def DJ{N:.a7}(F:N.Nodup){i j:Nat}{x}(a:N[i]?=.bt)(b:N[j]?=.bt):i=j:=by grind[aK,amy]
def Ka{i}{x}{v}{u}{Q}(I:.hZ σ H s)(F:X.N.Nodup)(hi:.d5 i=.bt)(D:.gR x)(r:.bT v)
  (h:∀s',.hZ (σ.set i .aO) H s'->(∃a,mw a .R s'.heap/\(a=.eB\/.g3 x=.b a))->Q () s') (hf:.f2 x\/.d7 x=.cP:=by first|exact .w|exact .cY|assumption):ao M A (S6 .X x u) Q E s:=by
 let[m,t,hl]:=id I.loc;let Vv:(X.env.scope.kind==.class||(X.env.scope.kind==.module&&.eB !=X.env.globals))=.j:=by rw[I.ok.kind];rfl
 let P:i<σ.length:=by rw[I.len];lk
 let sf:=I.sf;let K:∀{a:af} {h':bI},(∃o,.d8 a=.v/\.bI a)->mw a .R h'->dI .ar X.w H h':=λ{a h'} ha G b ob e=>by let[_,_,g]:=ha;calc(I.aL b ob e).jX (λc w' V q=>.aA (G.2 c ?_) q) (λ_ q=>q) λ_ _ q=>q;lk
 let hk|||hk:=D
 .calc wpAny_storeName_local hk t (λh' W G=>?_) Vv;let[oL,_,_,Vw,_]:=id t;refine h _ {I.ok,I.os,.ix,.vz,(.D W λj y S L C f=>?_),λy c e=>?_,I.free,I.jY,.hR,K (.g oL Vw I.free) G,by simpa using I.len}<|.D G .w
  .show .aA (G.2 b<|.mh e I.ok.above) (I.base.keep b o e n Y D)
  .let[Z,L]:=I.base.slot b o e n Y D;show(.c Z .zm)
  .let[T,L]:=I.base.there b o e D;show(.c T .zm)
  .by_cases N:j=i
   .subst N;rw[hi] at L;cases L;rw[amz P] at C;cases C;show(.g u r<|.hl hk .f)
   .rw[ID<|i6 N] at C;let[w,r',q]:=hl j y S L C f;calc(.cf w r');let[k,e]|||[k,c,e,z]:=q
    .calc .z (.bM k);have:y≠x:=λe=>N (DJ F L<|e▸hi);lk
    .show .F (.q k c e (z.sameBut G<|sf y c e))
  .let[w',z]:=I.cell y c e;show(.c w' (z.sameBut G<|sf y c e))
  .let[e,n,U,J,d]:=I.pin p R;show(.I (.aA (G.2 p.1 U) e) n U J d)
 .let DK:.f2 x:=.d
  let[c,V]:=I.ok.has x (.z hk);let[w',z]:=I.cell x c V;calc wpAny_storeName_cell .oj hk V z λh' l G=>?_;let[oc,Vx,aoL]:=id z;refine h .k0 {I.ok,I.os,.ix,.vz,(.g m (t.sameBut G (i6<|sf x c V)) λj y S L C f=>?_),λy O e=>?_,I.free,I.jY,.hR,K (.g oc Vx<|I.jY x c V) G,by simpa using I.len} (.g c G<|.F V)
  .show .aA .tS (I.base.keep b o e n Y D)
  .let[Z,L]:=I.base.slot b o e n Y D;show(.c Z<|.aA .tS L)
  .let[T,L]:=I.base.there b o e D;show(.c T<|.aA .tS L)
  .by_cases N:j=i
   .subst N;rw[hi] at L;cases L;rw[amz P] at C;cases C;show(.g u r (.F<|.q (.z hk) c V l))
   .rw[ID<|i6 N] at C;let[w,r',q]:=hl j y S L C f;calc(.cf w r');let q|||[k,O,e,z']:=q
    .show .z q
    .calc .F (.q k O e<|z'.sameBut G ?_);rintro rfl;show N (DJ F L<|I.ok.inj _ _ _ e V▸hi)
  .by_cases Vy:O=c
   .lk
   .let[w2,B]:=I.cell y O e;show(.c w2<|B.sameBut G Vy)
  .let[e,n,U,J,d]:=I.pin p R;calc(.I (.aA (G.2 p.1 ?_) e) n U J d);lk
def DL(I:.ak)(F:X.N.Nodup)(hi:.d5 i=.bt)(D:.gR x)(r:.bT v)
  (h:∀J,.hZ (U.set i .aO) H J->Q () J) (a:.f2 x\/.d7 x=.cP:=by first|exact .w|exact .cY|assumption):ao M A (S6 .X x u) Q E s:=
 Ka I F hi D r (λJ c _=>h J c) a
def Inv.Vz(I:.ak)(l:J.os=s.os)(u:Un (mI .kh) ch H H' .R J.heap)(y:dI .ar X.w H' J.heap)(S:wq J.gens)
  (h:∀b∈ch,.sT):.eS H' J:=by let[e,d,a,f,T]:=J;subst l;show I.call u y S h
end
abbrev XK:=aw->.aR af->.cF
abbrev St:=.y<|.aR V
abbrev VK:=V->.cF
abbrev TE:=St->.cZ
abbrev TT:=St->Hp->.ey (Bool->.cF)
abbrev TA:=St->Hp->.ey (.au->.cF)
structure Ends where
 nx:St->.cF
 rt:VK
 bk:St->.cF:=.hE
 ct:St->.cF:=.hE
abbrev TS:=Ends->St->.cF
def EP(X:Cx)(pins:.kU af)(U:St)(Q:VK)(u:aw)(J:bO):=∃v a,.eS a J/\.bT v/\Q v a
def TP(X:Cx)(pins:.kU af)(U:St)(Q:Bool->.cF)(b:Bool)(J:bO):=∃a,.eS a J/\Q b a
def AP(X:Cx)(pins:.kU af)(U:St)(Q:.au->.cF)(us:.b1)(J:bO):=∃b a,.eS a J/\.dG b/\Q b a
def SP(X:Cx)(pins:.kU af)(D:Ends)(f:Flow)(J:bO):=
 match f with
 |.next=>∃C a,.hZ C a J/\D.nx C a
 |.brk=>∃C a,.hZ C a J/\D.bk C a
 |.cont=>∃C a,.hZ C a J/\D.ct C a
 |.ret u=>∃v C a,.hZ C a J/\.bT v/\D.rt v a
def PE(X:Cx)(e:bZ)(t:TE):=
 .qK (.fk->t U H Q->.ds (.fn e) (EP X a U Q))
def PT(X:Cx)(e:bZ)(t:TT):=
 .qK (.fk->t U H Q->.ds (zc e .X<|.fn e) (TP X a U Q))
def PW(X:Cx)(e:bZ)(t:TT):=
 ∀w a s (U:St) H Q,.fk->t U H Q->.ds (zc e .X w) (TP X a U Q)
theorem PW.pt(h:PW X e t):PT X e t:=h _
def PA(X:Cx)(es:.y bZ)(t:TA):=
 ∀b a s (U:St) H Q,.fk->t U H Q->.ds (spliced<|.lK b es) (AP X a U Q)
def PS(X:Cx)(Z:gu)(t:TS):=
 ∀a s (U:St) H D,.fk->t D U H->.ds (exec Z .X) (SP X a D)
def hX(X:Cx)(Z:.y gu)(t:TS):=
 ∀a s (U:St) H D,.fk->t D U H->.ds (execs Z .X) (SP X a D)
def aJ(h:ao M A t Q E s)(c:∀a s,Q a s->f a s):ao M A t f E s:=i7 h c λ_ _ x=>x
def VA(i:Nat):TE:=.br<|∃v,U[i]?=.b .aO/\Q v H
def tC(v:V):TE:=λ_ H Q=>Q v H
def Kc(F:.d5 i=.bt)(p:uA .hY x)(N:(.iF x)=.j:=by decide) (a:(x==("__classdict__"))=.j:=by decide):.U (.bz x pos) (VA i):=by
 intro f s U H Q I h;let[v,e,h]:=h;let[m,t,d]:=I.loc;let[u,r,l]:=d i x v F e p;let b:EP X f U Q u s:=(.I v H I r h);let[L,G]|||[L,c,V,C]:=l
 .show zd (IE .oj L t G b) N
 .let L|||L:=L
  .show zd (amA .oj L V C b) N
  .show zd (amB .oj L V C b a) N
def DM:.U (.lU i j pos) (tC .do):=.qO (amC<|.I .do H .if (.a5 _) h)
def VB:.U (.ob (.eQ b) pos) (tC<|.bl b):=.qO (Constant_bool<|.cs (.bl b) H I h)
def VC:.U (.ob .cy pos) (tC .non):=.qO (S7<|.cs .non H I h)
def Gl(X:Cx)(x:Str):=X.env.kindOf x=.b .globalImplicit
def uB(I:.ak)(S:.fj)(G:X.mg x=.aJ)(h:Q u s)
  (N:(.iF x)=.j:=by decide):.ym:=
 amD .oj S (Calls.loadGlobal_global (by rw[I.ok.glob];show .ry) G h) N
def nR(I:.ak)(S:.fj)(G:.bR x)(p:wo x=.aJ)(h:Q u s)
  (t:x≠.oX:=by decide) (N:(.iF x)=.j:=by decide):.ym:=by let[m,B,M]:=I.mod.blt;show amD .oj S (Calls.loadGlobal_builtin (by rw[I.ok.glob];show .ry) G (by rw[I.ok.blt];show B.keeps I.bk) (.aA (M x t) p) h) N
def VD(S:.fj)(G:X.mg x=.aJ)(r:.bT v)(N:(.iF x)=.j:=by decide):.U (.bz x pos) (tC v):=
 .qO (uB I S G (.I v H I r h) N)
def PC(X:Cx)(op:CmpOp)(a b:bZ)(t:TE):=
 ∀c s (U:St) H Q,.pV c->t U H Q->
  .ds (.fn a) λv g=>.lN (.fn b) (λu S=>.lN (eO op v u) (EP X c U Q) S) g
def Kd b(h:op≠.In)(M:op≠.NotIn):kC op b=.j:=by
 let L:(op==CmpOp.In)=.j:=.d
 let C:(op==amE)=.j:=.d
 cases b<;>simp[kC,L,C]
def VE(d:TE):TE:=.br<|d U H (.dD<|.i3 (.aj x .non) P)
def VF(d:TE):TE:=.br<|d U H (.dD<|.i3 (! .aj x .non) P)
def RelV.Ke(r:RelV x v):(v==t_)=.aj x .non:=by
 cases x with
 |non=>cases r;rfl
 |bl _=>cases r;rfl
 |int _=>let[t,rfl]:=r;rfl
 |str _=>let[t,rfl]:=r;rfl
 |cQ _=>let[t,rfl]:=r;rfl
 |xb _=>let[t,rfl]:=r;rfl
 |ref _=>cases r;rfl
 |ty _=>cases r;rfl
def VG(J:.U a d):PC X .Is a (.ob .cy c) (VE d):=by intro b s U H Q I h;calc .yl;show S7 (is_none_gen .zl)
def VH(J:.U a d):PC X .IsNot a (.ob .cy c) (VF d):=by intro b s U H Q I h;calc .yl;show S7 (isnot_none_gen .zl)
def tB(t:TE):TT:=.br<|t U H (.dD<|∃c,x=.bl c/\Q c P)
def VI(h:PC X op a b t)(B:kC op b=.j:=by first|exact Kd _ _ _|rfl):.U (.gC a [op] [b]) t:=λc s U H Q I d=>wpAny_Compare1 (h c s U H Q I d) B
def Ah(h:PC X op a b t)(B:kC op b=.j:=by first|exact Kd _ _ _|rfl):PT X (.gC a [op] [b]) (tB t):=by intro e s U H Q I k;calc amF (aJ (h e s U H _ I k) λv j B=>aJ B λu l M=>aJ M λc f #[x,P,O,g,i]=>?_) B;let[d,rfl,q]:=i;cases g;show ky (.g P O q)
def VJ(h:.fi)(he:.wd:=by intro _;rfl):PT X e (tB t):=by intro a s U H Q I b;calc isTrue_plain (.lM (h a s U H _ I b) ?_) (he _);let[d,rfl,q]:=M;cases g;show ky (.g P O q)
def VL(t u:TT):TT:=.br<|t U H λc P=>.A (.n c) (u U P Q) (Q .j P)
def VM(t u:TT):TT:=.br<|t U H λc P=>.A (.n c) (Q true P) (u U P Q)
def VN(t:TT):TT:=.br<|t U H λc P=>Q (! c) P
def VO(J:PT X a d):PW X (.iK .And [a]) d:=by intro w b s U H Q I h;calc isTrue_and (aJ (J b s U H Q I h) λc j e=>?_);grind[isTrue_and_nil]
def VP(J:PT X a d):PW X (.iK .Or [a]) d:=by intro w b s U H Q I h;calc isTrue_or (aJ (J b s U H Q I h) λc j e=>?_);grind[isTrue_or_nil]
def VQ(J:PT X a f)(Y:PW X (.iK .And<|b::G) e):PW X (.iK .And<|a::b::G) (VL f e):=by
 intro w d s U H Q I h;calc isTrue_and .zk;cases c with
 |true=>show Y w d j U P Q O M
 |false=>room
def VR(J:PT X a f)(Y:PW X (.iK .Or<|b::G) e):PW X (.iK .Or<|a::b::G) (VM f e):=by
 intro w d s U H Q I h;calc isTrue_or .zk;cases c with
 |true=>room
 |false=>show Y w d j U P Q O M
def VS(J:PT X a c):PT X (.UnaryOp .Not a pos) (VN c):=by intro b s U H Q I h;show isTrue_not (J b s U H _ I h)
def VT(d T:TE):TE:=.br<|d U H (.dD<|∃c,x=.bl c/\.A (.n c) (T U P Q) (.i3 .j P))
def VU(d T:TE):TE:=.br<|d U H (.dD<|∃c,x=.bl c/\.A (.n c) (Q .gj P) (T U P Q))
def VW(d:TE):TE:=.br<|d U H (.dD<|∃c,x=.bl c/\.i3 (! c) P)
def Kf(h:.U a t):.U (.iK op [a]) t:=λb s U H Q I c=>BoolOp_one<|h b s U H Q I c
def VX(J:.U a d)(Y:.U (.iK .And<|b::G) T):.U (.iK .And<|a::b::G) (VT d T):=by
 intro e s U H Q I h;calc BoolOp_and (.lM (J e s U H _ I h) ?_);let[c,rfl,M]:=M;cases g;calc ky ?_;cases c with
 |true=>show Y e j U P Q O M
 |false=>show(.cs (.bl .j) P O M)
def VY(J:.U a d)(Y:.U (.iK .Or<|b::G) T):.U (.iK .Or<|a::b::G) (VU d T):=by
 intro e s U H Q I h;calc BoolOp_or (.lM (J e s U H _ I h) ?_);let[c,rfl,M]:=M;cases g;calc ky ?_;cases c with
 |false=>show Y e j U P Q O M
 |true=>show(.cs .gj P O M)
def VZ(J:.U a d):.U (.UnaryOp .Not a pos) (VW d):=by intro b s U H Q I h;calc UnaryOp_ (.lM (J b s U H _ I h) ?_);let[c,rfl,M]:=M;cases g;show not_of (ky<|.cs (.bl<|! c) P O M)
def V0(t:TT)(d T:TE):TE:=.br<|t U H λc P=>.A (.n c) (d U P Q) (T U P Q)
def Kg(V:PT X c g)(J:.U a f)(Y:.U b T):.U (.IfExp c a b pos) (V0 g f T):=by
 intro e s U H Q I h;calc wpAny_IfExp .zj;cases d with
 |true=>show J e j U P Q O M
 |false=>show Y e j U P Q O M
def bf(K:bj)(H:Hp)(a:af)(F:.au):=
 Rd H a (.Z F)\/
  ∃o g n,.cu a=.v/\o.cls=.l1/\.H o.dict/\.yk
def c6(K:bj)(H:Hp)(a:af)(F:.au):=
 Rd H a (.am F)\/
  ∃o g n,.cu a=.v/\o.cls=.fu/\.yk
def V1:aw->.aR V
 |.none=>.b .non
 |.bool b=>.nc b
 |.int i _=>.gG i
 |.str x _=>.b<|.str x
 |.bytes b _=>.b<|.cQ b
 |.float b _=>.b<|.xb b
 |.ref a=>.cq
 |.type n=>.b<|.ty n
 |_=>none
def RelV.abs(r:.bT x):V1 u=.bt:=by
 cases x with
 |non=>cases r;rfl
 |bl _=>cases r;rfl
 |int _=>let[t,rfl]:=r;rfl
 |str _=>let[t,rfl]:=r;rfl
 |cQ _=>let[t,rfl]:=r;rfl
 |xb _=>let[t,rfl]:=r;rfl
 |ref _=>cases r;rfl
 |ty _=>cases r;rfl
theorem RelV.inj(r:.bT x)(q:.bT y):x=y:=we<|r.abs.symm.trans q.abs
theorem aV.inj:∀{F k:.au} {us:.b1},.dG F->.dG k->F=k
 |_,_,_,.nil,.nil=>rfl
 |_,_,_,.cons r t,.cons D a=>by rw[r.inj D,aV.inj t a]
def bf.of{K}(h:H a=.du F):bf K H a F:=.z .ex
def c6.of{K}(h:H a=.ep F):c6 K H a F:=.z .ex
def Inv.list(I:.ak)(h:bf X.K H a F):∃g,aV F g/\PlainL .R a .ck/\.aE<=bh:=by
 let h|||[o,g,n,L,V,N,c,b,r]:=h
 .let[z,g,n,r,e]:=h.ok I.aL;show(.q g r (.ht _ n e rfl) z)
 .calc(.jM g.toList r<|.ab o n (I.iH a o L) V N .a);let e:=r.length;lk
def Inv.tuple(I:.ak)(h:c6 X.K H a F):∃g,aV F g/\my .R a .ck/\.aE<=bh:=by
 let h|||[o,g,n,L,V,b,c,r]:=h
 .let[z,g,r,p]:=h.ok I.aL;lk
 .calc(.jM g.toList r<|.I o (I.iH a o L) V n .a);let e:=r.length;lk
def Inv.xi(I:.ak)(h:bf X.K H a F)(h':bf X.K H a k):F=k:=by
 let[g,r,[o,n,e,_,_,d],_]:=.ev h;let[b,D,[T,f,j,_,_,c],_]:=.ev h';rw[e] at j;cases j;rw[d] at c;have:g=b:=.d
 subst this;show r.inj D
def Inv.V2(I:.ak)(h:c6 X.K H a F)(h':c6 X.K H a k):F=k:=by
 let[g,r,[o,e,_,n,d],_]:=.hr h;let[b,D,[T,j,_,f,c],_]:=.hr h';rw[e] at j;cases j;rw[d] at c;have:g=b:=.d
 subst this;show r.inj D
abbrev Cx.nU(X:Cx)(E:.hq):={X with xe:=E}
abbrev Cx.nV(X:Cx):=X.nU .hE
def Cx.Ok.nU{X:Cx}(Q:X.Ok) E:(X.nU E).Ok:=
 .uF
def Cx.Ok.qx{X:Cx}(Q:(X.nU E).Ok):X.Ok:=
 .uF
def Inv.nU(I:.ak) E:.sc (X.nU E) U H s:={I.ok.nU E,I.os,.ix,I.base,I.loc,I.cell,I.free,I.jY,I.pin,I.aL,I.len}
def Inv.qx(I:.sc (X.nU E) U H s):.ak:=#[I.ok.qx,I.os,.ix,I.base,I.loc,I.cell,I.free,I.jY,I.pin,I.aL,I.len]
def SP.qx(h:SP (X.nU E) pins D f J):SP X pins D f J:=by
 cases f with
 |next=>let[C,a,I,q]:=h;show(.q C a I.qx q)
 |brk=>let[C,a,I,q]:=h;show(.q C a I.qx q)
 |cont=>let[C,a,I,q]:=h;show(.q C a I.qx q)
 |ret u=>let[v,C,a,I,r,q]:=h;show(.ab v C a I.qx r q)
def hX.nV{Z}(h:hX X.nV Z t):hX X Z t:=λa s U H D I b=>
 i7 (h a s U H D (I.nU _) b) (λ_ _ q=>q.qx) λ_ _ z=>rL z
section
variable{st:gu}
def V3:TS:=.jx<|D.nx U H
def V4(t u:TS):TS:=.jx<|t {D with nx:=u D} U H
def V5:hX X [] V3:=λ_ _ U H _ I h=>S8<|.q U H I h
def sh(B:PS X st t)(M:hX X G u):hX X (st::G) (V4 t u):=by
 intro a s U H D I h;calc wpAny_execs_cons (aJ (B a s U H {D with nx:=u D} I h) λf j q=>?_);cases f with
 |next=>let[C,b,c,q]:=q;show M a j C b D c q
 |ret v=>show q
 |brk=>show q
 |cont=>show q
def Inv.quiet(I:.ak):interactive .X=.j:=by simp[interactive,I.ok.kind]
def V6(t:TE):TS:=.jx<|t U H λ_ P=>D.nx U P
def V7(he:.fi)(hs:.y6:=by rfl):PS X (.Expr e pos) (V6 t):=by intro a s U H D I h;show wpAny_Expr_any (.lM (he a s U H _ I h)<|.q U P O M) I.quiet hs
def V8(t:TE):TS:=.jx<|t U H D.rt
def V9(he:.fi):PS X (.Return (.b e) pos) (V8 t):=by intro a s U H D I h;show wpAny_Return_some (.lM (he a s U H _ I h)<|.ab x U P O g M)
def V_(c:TT)(t u:TS):TS:=.jx<|c U H λb P=>.A (.n b) (t D U P) (u D U P)
def Kh(V:PT X c f)(J:hX X a t)(Y:hX X b u):PS X (.If c a b pos) (V_ f t u):=by
 intro e s U H D I h;calc wpAny_If .zj;cases d with
 |true=>show J e j U P D O M
 |false=>show Y e j U P D O M
end
abbrev TG:=V->St->Hp->.ey (St->.cF)
abbrev xj:=.au->St->Hp->.ey (St->.cF)
def PG(X:Cx)(T:bZ)(t:TG):=
 ∀a s (U:St) H v u Q,.fk->.bT v->t v U H Q->
  .ds (rM T .X u) λ_ J=>∃C b,.oL a C b J/\Q C b
def Ai(X:Cx)(ts:.y bZ)(t:xj):=
 ∀a s (U:St) H d c Q,.fk->aV d c->t d U H Q->
  .ds (assignInOrder (.ho<|wu ts .X) c) λ_ J=>∃C b,.oL a C b J/\Q C b
abbrev DN:=V->V->V->Hp->.ey .cF
def DO(X:Cx)(t:DN):=
 ∀a s (U:St) H o i v T Y u Q,.fk->RelV o T->RelV i Y->.bT v->t o i v H Q->
  .ds (ze T Y u) λ_ J=>∃b,.oQ a b J/\Q b
abbrev Aj:=V->V->.cZ
def uC(X:Cx)(op:Operator)(t:Aj):=
 ∀a s (U:St) H x y v u Q,.fk->RelV x v->.bT y->t x y H Q->
  .ds (S9 op v u) (EP X a U Q)
def nW(i:Nat):TG:=λv U H Q=>Q (U.set i .aO) H
def uD(F:X.N.Nodup)(hi:.d5 i=.bt)(D:.gR x)(J:.f2 x\/.d7 x=.cP:=by first|exact .w|exact .cY|assumption):PG X (.bz x pos) (nW i):=by intro a s U H v u Q I r h;show amG (DL I F hi D r (λb c=>(.en H c h)) J)
def DP:xj:=λa U H Q=>a=[]/\Q U H
def uE(t:TG)(u:xj):xj:=λa U H Q=>∃v r,a=v::r/\t v U H λC b=>u r C b Q
def Ki:Ai X [] DP:=by intro a s U H b c Q I r h;let[e,h]:=h;subst e;show assignInOrder_nil (.q U H I h)
def xk(B:PG X e t)(M:Ai X es u)
  (hs:.ho (wu (e::es) .X)=rM e .X::.ho (wu es .X):=by rfl):Ai X (e::es) (uE t u):=by
 intro b s U H f d Q I r h;let[v,V,L,h]:=h;subst L;cases r with
 |cons r o=>rw[hs];calc assignInOrder_cons (aJ (B b s U H _ _ _ I r h) λ_ j #[a,P,O,c]=>?_);show M b j a P _ _ Q O o c
def DQ(K:bj)(n:Nat)(t:xj):TG:=λv U H Q=>∃a F,v=.T/\c6 K H a F/\.aE=n/\t F U H Q
def Kj(V:.bP)(h:Ai X es t)
  (j:(.m<|wu es .X)=n:=by rfl) (N:.H ((wu es .X).findIdx? .fr):=by rfl):PG X (.hz es k pos) (DQ X.K n t):=by intro c s U H v u Q I r i;let[a,F,L,f,d,i]:=i;subst L;cases r;let[g,m,B,l]:=.hr f;calc assign_Tuple_tuple .iQ B (by simp[j,<-d,m.length]) N λp D=>?_;show h c _ U H F _ Q (I.kept (t':=.cw) (.bQ<|D b o (cY<|bK e) e)) .a i
def V'(O T:TE)(t:DN):TG:=λv U H Q=>O U H λo P=>T U P λi n=>t o i v n λE=>Q U E
def Wa(l:.U o c)(hi:.U i b)(hs:DO X t)
  (J:∀v,rM (.hL o i) .X v=(do
   let T<-gw [v] .d1
   let Y<-gw [v,T] (.fn i)
   mz pos
   gw [v,T,Y] (ze T Y v)
   IF [v,T,Y] []):=by intro _;rfl):PG X (.hL o i) (V' c b t):=by intro a s U H v u Q I r h;calc ah (iz<|aJ (l a s U H _ I h) λT j #[x,P,O,g,M]=>?_);calc ah (iz<|aJ (hi a j U P _ O M) λY d #[y,n,L,m,B]=>?_);calc ah (S_<|ah (iz<|aJ (hs a d U n x y v T Y u _ L g m r B) λ_ f #[E,A,w]=>?_));show wpAny_release (.q U E A w)
def Ak(t:TE)(g:TG):TS:=.jx<|t U H (.dD<|g x U P D.nx)
def Wb(he:.fi)(S:PG X c g)(hs:swapsWithSole [c] e .mi .X=.aL .j:=by rfl) (hw:swappedStores [c] e .X=.aL none:=by rfl)
  (B:.ho (wu [c] .X)=[rM c .X]:=by rfl):PS X (.Assign [c] e pos) (Ak t g):=by intro a s U H D I h;calc wpAny_Assign_stores (aJ (he a s U H _ I h) λv j #[x,P,O,b,M]=>?_) hs hw;rw[B];show aJ (S a j U P x v _ O b M) λ_ d q=>q
def Wc(F:X.N.Nodup)(hi:.d5 i=.bt)(c:.gR x)(he:.fi)(hs:lE e (.b<|.bz x b) .mi .X=.aL .j:=by rfl) (J:.f2 x\/.d7 x=.cP:=by first|exact .w|exact .cY|assumption):
  PS X (.Assign [.bz x b] e pos) (Ak t<|nW i):=by intro a s U H D I h;calc wpAny_Assign_Name (aJ (he a s U H _ I h) λv j #[y,P,O,g,M]=>?_) hs;show DL O F hi c g (λd L=>(.en P L M)) J
def Wd(i:Nat)(t:TE)(T:Aj):TS:=.jx<|∃x,U[i]?=.b .bt/\t U H λy P=>T x y P λz n=>D.nx (U.set i<|.b z) n
def Kl(F:X.N.Nodup)(hi:.d5 i=.bt)(p:.gR x)(he:.fi)(N:uC X op T)(J:.f2 x\/.d7 x=.cP:=by first|exact .w|exact .cY|assumption):
  PS X (.AugAssign (.bz x q) op e pos) (Wd i t T):=by
 intro b s U H D I h;let[v,E,h]:=h;let[m,Q,d]:=I.loc;let[u,r,l]:=d i x v hi E (by let k|||k:=p;show .z k;show .F (.z k));calc wpAny_AugAssign_Name ?_;let o:.ds (.fn e) (λw S=>.lN (S9 op u w) (λr a=>.lN (S6 .X x r) (.P<|SP X b D .next) a) S):=by calc aJ (he b s U H _ I h) λw j #[y,P,O,g,M]=>?_;calc aJ (N b j U P v y u w _ O r g M) λz W #[Z,n,R,K,B]=>?_;show DL R F hi p K (λf A=>(.en n A B)) J
 let[L,G]|||[L,c,V,C]:=l
 .show IE .oj L Q G o
 .let L|||L:=L
  .show amA .oj L V C o
  .let k|||k:=p
   .have:.d7 x=_:=L;lk
   .have:.d7 x=_:=L;lk
def We(O T t:TE)(g:V->V->.cZ)(I:Aj)(s:DN):TS:=.jx<|O U H λo P=>T U P λi n=>g o i n λx E=>t U E λy q=>I x y q λz p=>s o i z p λu=>D.nx U u
def Km(X:Cx)(t:V->V->.cZ):=
 ∀a s (U:St) H o i T Y Q,.fk->RelV o T->RelV i Y->t o i H Q->
  .ds (oU T Y) (EP X a U Q)
def Wg(l:.U o to)(hi:.U i ti)(S:Km X g)(he:.fi)(R:uC X op Wh)(hs:DO X N)
  (J:.uV:=by intros;rfl):PS X (.AugAssign (.fs o i si) op e pos) (We to ti t g Wh N):=by intro G s U H D I h;calc wpAny_AugAssign_SubscriptAny (aJ (l G s U H _ I h) λT s1 #[w,P,O,r1,M]=>?_) J;calc aJ (hi G s1 U P _ O M) λY d #[b,n,L,m,B]=>?_;calc aJ (S G d U n w b T Y _ L r1 m B) λj f #[a,E,A,r3,q3]=>?_;calc aJ (he G f U E _ A q3) λv W #[y,q,F,Z,K]=>?_;calc aJ (R G W U q a y j v _ F r3 Z K) λc r #[x,p,I5,z,C]=>?_;show aJ (hs G r U p w b x T Y c _ I5 r1 m z C) λ_ s6 #[u,k,Q]=>(.q U u k Q)
def Al(f:Int->Int->Int):Aj:=.jU<|∃i j,x=.do/\y=.u j/\Q (.u<|f i j) H
def uF:uC X .Add (Al λi j=>i+j):=by intro a s U H x y v u Q I g m h;let[i,j,L,C,q]:=h;subst L;subst C;let[t,rfl]:=g;let[b,rfl]:=m;show iadd_int .p7
def Ko:uC X .Sub (Al λi j=>i-j):=by intro a s U H x y v u Q I g m h;let[i,j,L,C,q]:=h;subst L;subst C;let[t,rfl]:=g;let[b,rfl]:=m;show isub_int .p7
def Wi(c:TT)(T:TS):TS:=.jx (∃W:.bn<|St->.cF,(∃m,W m U H)/\∀m U H,W m U H->
 c U H λb P=>.b7 (.n b) (∃N,(∀C a,N C a->∃p,p<m/\W p C a)/\T {D with nx:=N,ct:=N,bk:=D.nx} U P) (D.nx U P))
def Wj{t}{T}(R:wz .kW X.A .X X.xe)(V:PT X c t)(Y:hX X g T):PS X (.While c g [] pos) (Wi t T):=by
 intro i s U H D I h;let[W,[o,m],K]:=h;calc wpAny_While (codeAny_whileLoop (λn J=>∃C k,.oL i C k J/\W n C k) ?_ o<|.q U H I m);intro n j [a,P,O,G];calc wA R (aJ (V i j a P _ O<|K n a P G) λb d #[l,L,B]=>?_);cases b with
 |true=>
  let[N,F,B]:=B;rw[.gO];calc wA R (aJ (Y i d a l _ L B) λf p w=>?_);cases f with
  |next=>let[q,E,A,e]:=w;lk
  |cont=>let[q,E,A,e]:=w;lk
  |brk=>show w
  |ret v=>show w
 |false=>rw[.x fQ];show S8 (.q a l L B)
structure It where
 go:.bn .cF
 qy:.bn (Hp->V->.cF)
 stop:.bn .cF
def lP(X:Cx)(pins:.kU af)(H:Hp)(b:af):=
 .ew/\b≠.eB/\b∉X.fs/\(b∈X.ex\/.pj<=b)/\(∀x c,.g3 x=.cA->c≠b)/\∀p∈X.pn++pins,p.1≠b
def Inv.sj(I:.ak)(Y:.G<=b)(t:.H (H' b)):lP X pins H' b:=by
 refine(.ab t (qe<|fO I.lt Y) (I.Vt Y) (.F<|bC I.sz Y) (λx c e z=>?_) λp R z=>?_)
 .let[v,q]:=I.cell x c e;show .aa (fO q.lt .d) (rK _)
 .show .aa (.qD (I.pin p R).1 .d) (rK _)
structure Turn(P:fu)(w:ew)(K:bj)(tg:bZ)(J:It)(fp:.bL)(it:af)(tn:.bn (bI->Prop)):Prop where
 mem:it∈fp
 obj:∀i h,tn i h->∀b∈fp,∃o,.fP=.v/\∀v,.ce≠.cell v
 keep:∀i h h',tn i h->(∀b∈fp,∀o,.fP=.v->.eT=.v)->tn i h'
 item:∀(X:Cx),.ar=P->X.w=w->X.K=K->.bP->∀(i:Nat) (pins:.kU af) (s:bO) (σ:St) (H:Hp) (E:.hq),.hZ σ H s->(∀b∈fp,lP X pins H b)->tn i .R->J.go i H->
  ao (ay P w) X.A (nG<|.p it) (λr s1=>∃u,r=.aJ/\
   ao (ay P w) X.A (Ta tg (.p it) u) (λ_ s2=>∃x H',.hZ σ H' s2/\.bT x/\J.qy i H x H'/\tn (i+1) s2.heap/\∀b∈fp,.H (H' b)) E s1) E s
 done:∀(X:Cx),.ar=P->X.w=w->X.K=K->.bP->∀(i:Nat) (pins:.kU af) (s:bO) (σ:St) (H:Hp) (E:.hq),.hZ σ H s->(∀b∈fp,lP X pins H b)->tn i .R->J.stop i H->
  ao (ay P w) X.A (nG<|.p it) (λr s1=>.H r/\.hZ σ H s1) E s
 self:∀(A:gS) (i:Nat) (s:bO) (Q:.hq) (E:.hq),tn i .R->.eY it s->ao (ay P w) A (rN<|.p it) Q E s
abbrev TI:=St->Hp->.ey (It->.cF)
def Am(X:Cx)(pins:.kU af)(U:St)(c:bZ)(R:It->.cF)(i:aw)(d:bO):=
 ∃C a T J e,i=.gW/\.eS e d/\Turn .ar X.w X.K c J a C T/\T 0 d.heap/\(∀b∈a,lP X pins e b)/\R J e
def PI(X:Cx)(c i:bZ)(wi:TI):=
 ∀a s (U:St) H R,.fk->wi U H R->
  .ds (.fn i) λv j=>.lN (rN v) (Am X a U c R) j
def uG{Q:Unit->.ou}(l:.d8 C=.v)(V:o.cls=.type n)(N:.ce=.fields vs)
  (t:[.jS,"zip","dict_itemiterator","dict_reverseitemiterator","odict_iterator","itertools.zip_longest","itertools.pairwise"].contains n=.j) (c:Q () s):ao M A (Ta a .gW u) Q E s:=by
 cases a<;>first
  |exact aG c
  |(cases u<;>first
   |exact aG c
   |(refine ah<|Tc l ?_;simp_all[if_neg,aG]))
def Kq(K:bj)(a:af):It:=
 (.g .zf (λi H x b=>b=H/\∀F,bf K H a F->F[i]?=.bt) λi H=>∃F,bf K H a F/\.aE<=i)
def Kr(K:bj)(a:af):It:=
 (.g (λi H=>∃F x,c6 K H a F/\F[i]?=.bt) (λi H x b=>b=H/\∀F,c6 K H a F->F[i]?=.bt) λi H=>∃F,c6 K H a F/\.aE<=i)
def xl(lo:Int)(n:Nat):It:=(.g (λi _=>i<n) (λi H x a=>a=H/\x=.u (lo+i)) λi _=>n<=i)
def Wk{P}{K}{Q} a C:Turn P w K Q (Kq K a) [C] C (λi h=>h.IsListIter C a i) where
 mem:=.f
 obj:=λi h st b Y=>by
  let e:b=C:=.d
  let[o,e,c,d]:=st;lk
 keep:=.yj
 item:=by intro X G v q V i j s U H E I J st S;subst G v q;let[F,x,f,D]:=S;let[g,m,p,W]:=.ev f;let[u,R,t]:=m.get D;let[B,z,n,L,O,y]:=.i0 C;calc wpAny_pyNext_list_item st p.isList (x:=u) .d λA l M=>?_;let N:_:=.yi;let[o,e,c,d]:=id l;show(.aX u<|uG e c d .V {x,H,N,t,(.aY λZ T=>by rw[I.xi T f];show D),l,.a4 (J b Y).1})
 done:=by intro X G v q V i j s U H E I J st S;subst G v q;let[F,f,D]:=S;let[g,m,p,W]:=.ev f;let[B,z,n,L,O,y]:=.i0 C;let hl:=m.length;show wpAny_pyNext_list_end .iQ st p.isList .dV λA r=>(.aY<|.nC (.ld<|r b o Y e) B z L O y)
 self:=λ_ _ _ _ _ st h=>wpAny_pyIter_listiter st h
def Wl{K} a C:Turn P w K Q (Kr K a) [C] C (λi h=>h.IsTupleIter C a i) where
 mem:=.f
 obj:=λi h st b Y=>by
  let e:b=C:=.d
  let[o,e,c,d]:=st;lk
 keep:=.yj
 item:=by intro X G v q V i j s U H E I J st S;subst G v q;let[F,x,f,D]:=S;let[g,m,p,N]:=.hr f;let[u,R,t]:=m.get D;let[B,z,n,L,O,y]:=.i0 C;calc wpAny_pyNext_tuple_item st (show s.heap.IsTuple a .ck from p) (x:=u) .d λA l M=>?_;let[o,e,c,d]:=id l;show(.aX u<|uG e c d .V {x,H,.yi,t,(.aY λW T=>by rw[I.V2 T f];show D),l,.a4 (J b Y).1})
 done:=by intro X G v q V i j s U H E I J st S;subst G v q;let[F,f,D]:=S;let[g,m,p,N]:=.hr f;let[B,z,n,L,O,y]:=.i0 C;let Z:=m.length;show wpAny_pyNext_tuple_end .iQ st (show _ from p) .dV λA r=>(.aY<|I.turned (.ld<|r b o Y e) B z L O y)
 self:=λ_ _ _ _ _ st h=>wpAny_pyIter_tupleiter st h
def Wm{K}{c} C lo n:Turn P w K c (xl lo n) [C] C (λi h=>IsRangeIter h C (lo+i*1) (n-i) 1) where
 mem:=.f
 obj:=λi h st b Y=>.d
 keep:=λi h d st k=>.it C _ st
 item:=by intro X G g q V i a s U H E I J st S;subst G g q;let[B,z,u,L,O,f]:=.i0 C;let W:=Walks.range (prog:=.ar) (w:=X.w) .iQ C lo 1 n;calc W.item i s _ _ S st λv d j p l m=>?_;let[t,rfl]:=p;let x:.t9 a {s with heap:=d,toks:=j}:=I.turned (.ld<|m b o .d e) B z L O f;calc(.bZ<|uG (s:={s with heap:=d,toks:=j}) (n:="range_iterator") l rfl rfl .V {.u<|lo+i,H,x,(.bM t),.bW,l,.a4 (J b Y).1});simp
 done:=by intro X G g q V i a s U H E I J st S;subst G g q;let[B,z,u,L,O,f]:=.i0 C;show wpAny_pyNext_range_end .iQ st (by have:n<=i:=S;lia) λd r=>(.aY<|.nC (.ld<|r b o Y e) B z L O f)
 self:=λ_ _ _ _ _ st h=>wpAny_pyIter_rangeiter st h
def Wn(K:bj)(tl:TE):TI:=.my<|tl U H (.dD<|∃a,x=.T/\(∃F,bf K P a F)/\R (Kq K a) P)
def Wo(K:bj)(tl:TE):TI:=.my<|tl U H (.dD<|∃a,x=.T/\(∃F,c6 K P a F)/\R (Kr K a) P)
def Wp(d:.U l tl):PI X c l (Wn X.K tl):=by
 intro i s U H R I h;calc .yh;let[a,e,[F,f],q]:=M;subst e;cases k;let[g,m,p,n]:=O.list f;calc IG p.isList ?_;calc{.fo,[.fo],_,_,P,rfl,O.kept (.bQ<|.a1 e),Wk a _,(.fG _ .cB),.a4 ?_,q};let e:b=.fo:=.d
 subst e;show O.sj .ao .pD
def Wq(d:.U l tl):PI X c l (Wo X.K tl):=by
 intro i s U H R I h;calc .yh;let[a,e,[F,f],q]:=M;subst e;cases k;let[g,m,p,n]:=O.tuple f;calc wpAny_pyIter_tuple (p) ?_;calc{.fo,[.fo],_,_,P,rfl,O.kept (.bQ<|.a1 e),Wl a _,(.fG _ .cB),.a4 ?_,q};let e:b=.fo:=.d
 subst e;show O.sj .ao .pD
theorem Ks{lo hi}(I:.ak)(B:-(2^62)<=lo)(M:lo<2^62)(A:-(2^62)<=hi)(P:hi<2^62)
  (q:R (xl lo (.fl<|hi-lo)) H):.g5 X.A (rN .dO) (Am X pins U c R) E (.pp .sS):=by
 refine wpAny_pyIter_range (IsRange.new ..) (small_one B M A P) ?_;let O:.mE (.pp .sS):=I.kept (.bQ<|.a1 e);refine{_,[_],_,_,H,rfl,
  O.kept (.bQ<|.a1 e),Wm _ lo _,?_,.a4 ?_,q}
 .let L:lo+.mT*1=lo:=.f
  let C:(.cj (.fl<|hi-lo))-.mT=Builtin.Range.rangeSize lo hi 1:=by rw[rangeSize_one];lia
  rw[L,C];show .cB
 .let e:b=(.sS).objs.size:=.d
  subst e;show O.sj .ao .pD
def Wr(d:TA):TI:=.my<|d U H λa P=>∃j,a=[.u j]/\-(2^62)<=j/\j<2^62/\R (xl 0 j.toNat) P
def Ws(d:TA):TI:=.my<|d U H λa P=>∃i j,a=[.do,.u j]/\(-(2^62)<=i/\i<2^62/\-(2^62)<=j/\j<2^62)/\R (xl i (.fl<|j-i)) P
def Wt(S:.bB .es)(G:.bR .es)(J:PA X [a] d)(hs:.lT a=[(.kp a)]:=by rfl):PI X c (.eX .es [a]) (Wr d):=by
 intro b s U H R I h;calc zf (nR I S G Td<|wB (aJ (J pos b s U H _ I h) λi f #[k,P,O,g,M]=>?_) hs rfl);let[j,e,M,B,q]:=M;subst e;cases g with
 |cons r o=>cases o;let[t,rfl]:=r;grind[call_range_1,Ks]
def Wu(S:.bB .es)(G:.bR .es)(J:PA X [a,b] d)(hs:.y4:=by rfl) (l:.lT b=[(.kp b)]:=by rfl):
  PI X c (.eX .es [a,b]) (Ws d):=by
 intro f s U H R I h;calc zf (nR I S G Td (wB (aJ (J pos f s U H _ I h) λn k #[m,P,O,g,M]=>?_) .d<|by rw[l];rfl));let[i,j,e,[M,B,w,K],q]:=M;subst e;cases g with
 |cons r o=>
  cases o with
  |cons D o=>cases o;let[t,rfl]:=r;let[u,rfl]:=D;show call_range_2 (Ks O M B w K q)
def Ww(wi:TI)(g:TG)(T:TS):TS:=.jx (wi U H λJ P=>∃W:.dv<|St->.cF,(∃m,W 0 m U P)/\∀i m U H,W i m U H->
 (J.stop i H/\D.nx U H)\/(J.go i H/\∃N,(∀C a,N C a->∃p,p<m/\W (i+1) p C a)/\∀x a,J.qy i H x a->g x U a λR n=>T {D with nx:=N,ct:=N,bk:=D.nx} R n))
def An(a:.bL)(h:bI):=a.filterMap (.bw<|(.fP).map λo=>(b,o))
def DR(Y:b∈a)(e:.fP=.v):(b,o)∈An a h:=jS.mpr<|.g b Y .dR
def Wx(R:p∈An a h):p.1∈a/\.cT p.1=.b p.2:=by
 let[b,Y,e]:=jS.mp R;cases q:.fP with
 |none=>lk
 |some o=>lk
def Inv.pinned(I:.ak)(J:∀b∈a,lP X pins H b)(l:∀b∈a,∃o,.eM=.v/\∀v,.ce≠.cell v):.pV (pins++An a .R):=
 I.J' (.dz<|(.c7 R).elim (.s (I.pin p<|gT _ z)) (.s<|by let[Y,e]:=Wx z;let[B,c,n,_]:=J p.1 Y;lk))
def Inv.Ao(I:.pV (pins++C)):=I.J' (.dz<|I.pin p (gT _<|qd _ R))
def xn(R:wz .kW X.A .X X.xe)(V:.bP)(hi:PI X tg iter wi)(S:PG X tg g)(Y:hX X body tb)
  (hs:∀x,nH iter .X x=.aL x:=by intro _;rfl):PS X (.For tg iter body [] pos) (Ww wi g tb):=by
 intro l s U H D I h;calc wpAny_For (aJ (hi l s U H _ I h) λv j B=>aJ B λWy s2 M=>?_) hs;let[it,a,tn,J,H2,e,L,T,Aq,f2,W,[m0,w0],K]:=M;subst e;let c:∀{H':Hp},(.pS<|H' b)->∀b∈a,lP X l H' b:=λhn b Y=>(.c (hn b Y) (f2 b Y).2);calc codeAny_forLoop_any (λn s'=>∃i C H',.oL l C H' s'/\tn i s'.heap/\(.pS<|H' b)/\W i n C H') ?_ m0 {0,U,H2,L,Aq,.a4 (f2 b Y).1,w0};intro n s3 [i,q,E,A,Ar,Kt,w3];let[stop,qn]|||[go,N,hN,w]:=K i n q E w3
 .calc wA R (aJ (T.done X rfl rfl rfl V i l s3 q E X.xe A (c Kt) Ar stop) λr s4 #[Z,F]=>?_);subst Z;show S8 (.q q E F qn)
 .calc wA R (aJ (T.item X rfl rfl rfl V i l s3 q E X.xe A (c Kt) Ar go) λr s4 #[u,Z,P]=>?_);subst Z;calc wA R (aJ P λ_ s5 #[x,p,I5,z,y,uH,Wz]=>?_);calc wA R (aJ (S _ s5 q p x u _ (I5.pinned (c Wz)<|T.obj _ _ uH) z<|w x p y) λ_ t #[σ6,H6,I6,Q]=>?_);calc wA R (aJ (Y _ t σ6 H6 _ I6 Q) λf s7 q7=>?_);let again:∀{k:St} {H7:Hp},.oL _ k H7 s7->_->∃m,m<n/\∃i C H',.oL l C H' s7/\tn i s7.heap/\(.pS<|H' b)/\W i m C H':=λ{k H7} O n7=>by let[m',G,w7]:=hN k H7 n7;calc{m',G,i+1,k,H7,O.Ao,T.keep _ _ _ uH λb Y o e=>(O.pin (b,o)<|gT _ (gT _<|DR Y e)).1,.a4 ?_,w7};let[o,e,d]:=T.obj _ _ uH b Y;show(O.pin (b,o)<|gT _ (gT _<|DR Y e)).2.1
  cases f with
  |next=>let[k,H7,O,n7]:=q7;show again O n7
  |cont=>let[k,H7,O,n7]:=q7;show again O n7
  |brk=>let[k,H7,O,q7]:=q7;show(.q k H7 O.Ao q7)
  |ret v=>let[x7,k,H7,O,r7,q7]:=q7;show(.ab x7 k H7 O.Ao r7 q7)
abbrev R2:=V->V->.cZ
def cX(X:Cx)(f:aw->aw->Sem aw)(r:R2):=
 ∀a s (U:St) H x y v u Q,.fk->RelV x v->.bT y->r x y H Q->
  .ds (f v u) (EP X a U Q)
def DS(X:Cx)(f:aw->Sem aw)(r:V->.cZ):=
 ∀a s (U:St) H x v Q,.fk->RelV x v->r x H Q->
  .ds (f v) (EP X a U Q)
def iI(X:Cx)(f:aw)(r:.au->.cZ):=
 ∀a s (U:St) H F b Q,.fk->aV F b->r F H Q->
  .ds (call f b) (EP X a U Q)
def As(r:R2)(d T:TE):TE:=.br<|d U H (.dD<|T U P λy n=>r x y n Q)
def WA(r:V->.cZ)(d:TE):TE:=.br<|d U H (.dD<|r x P Q)
def rI(C:Int->Int->Prop)(g:Int->Int->V):R2:=.jU<|∃i j,x=.do/\y=.u j/\C i j/\Q (g i j) H
def iJ(g:Int->Int->V):R2:=.jU<|∃i j,x=.do/\y=.u j/\Q (g i j) H
def rU(g:Int->V):V->.cZ:=λx H Q=>∃i,x=.do/\Q (g i) H
def DT(J:.U a c)(Y:.U b T){R:V->V->.cF}(I:.ak)
  (h:c U H (.dD<|T U P λy n=>R x y n)) {f:aw->aw->Sem aw}
  (e:∀v u d x y n,.eS n d->RelV x v->.bT y->R x y n->.lN (f v u) Q d):
  .ds (.fn a) (λv g=>.lN (.fn b) (λu S=>.lN (f v u) Q S) g):=by calc aJ (J pins s U H _ I h) λv j #[x,P,O,i,M]=>?_;calc aJ (Y pins j U P _ O M) λu d #[y,n,L,m,B]=>?_;lk
def Ku(l:cX X (mB op) r)(J:.U a e)(Y:.U b T):.U (.jq a op b) (As r e T):=.sD<|wpAny_BinOp .ws
def WB(l:DS X (unaryOp op) r)(J:.U a d):.U (.UnaryOp op a pos) (WA r d):=by intro b s U H Q I h;show UnaryOp_ (.lM (J b s U H _ I h)<|l b j U P x v Q O g M)
def WC{g:Int->Int->Int}
  (rule:∀i j t u s Q E,C i j->.uE):
  cX X f (rI C λi j=>.u (g i j)):=by intro a s U H x y v u Q I S Z h;let[i,j,rfl,rfl,V,q]:=h;let[t,rfl]:=S;let[b,rfl]:=Z;show rule i j t b s _ _ V .p7
def Kv{g:Int->Int->Int}
  (rule:∀i j t u s Q E,.uE):
  cX X f (.ps (.u<|g i j)):=by intro a s U H x y v u Q I S Z h;let[i,j,rfl,rfl,q]:=h;let[t,rfl]:=S;let[b,rfl]:=Z;show rule i j t b s _ _ .p7
def Au{g:Int->.lm}
  (rule:∀i j t u s Q E,Q (.eQ<|g i j) s->.g5 X.A (f (.gy i)<|.av j u) Q E s):
  cX X f (.ps (.bl<|g i j)):=by intro a s U H x y v u Q I S Z h;let[i,j,rfl,rfl,q]:=h;let[t,rfl]:=S;let[b,rfl]:=Z;show rule i j t b s _ _ (.cs (.bl _) H I q)
def DU(i j:Int):=(-(2^64)<i/\i<2^64)\/(-(2^64)<j/\j<2^64)
def DU.ok(h:DU i j):IntMulOk i j:=by
 let[B,M]|||[B,M]:=h
 .show .of_left (intBits_le_64 B M)
 .show .of_right (intBits_le_64 B M)
def WD:cX X (mB .Add) (.ps (.u<|i+j)):=Kv (.px<|add_int q)
def WE:cX X (mB .Sub) (.ps (.u<|i-j)):=Kv (.px<|sub_int q)
def WG:cX X (S9 .Mult) (rI DU λi j=>.u (i*j)):=WC λ_ _ _ _ _ _ _ V q=>imul_int q V.ok
def WH{g:Int->Int}
  (rule:∀i t s Q E,Q (.av (g i) .cw) (.mJ<|.cw+1)->.g5 X.A (f<|.gy i) Q E s):
  DS X f (rU λi=>.u (g i)):=by intro a s U H x v Q I S h;let[i,rfl,q]:=h;let[t,rfl]:=S;show rule i t s _ _ (.I (.u<|g i) H .if (.a5 _) q)
def WI:DS X (unaryOp .USub) (rU λi=>.u (-i)):=WH λ_ _ _ _ _ q=>neg_int q
def Kw:V->V->Bool
 |.non,.non=>true|.non,.int _=>true|.int _,.non=>true|.non,.bl _=>true|.bl _,.non=>true|.non,.str _=>true|.str _,.non=>true
 |.int _,.int _=>true|.bl _,.bl _=>true|.str _,.str _=>true|.cQ _,.cQ _=>true
 |.int _,.str _=>true|.str _,.int _=>true|.bl _,.str _=>true|.str _,.bl _=>true
 |_,_=>false
def WJ:R2:=.jU<|.n (Kw x y)/\.i3 (.aj x y) H
def WK:R2:=.jU<|.n (Kw x y)/\.i3 (! .aj x y) H
def Kx:.aj (V.int i) (V.int j)=(i==j):=.oH
def Ky:.aj (V.bl i) (V.bl j)=(i==j):=.oH
def Kz:.aj (V.str i) (V.str j)=(i==j):=.oH
def KA:.aj (V.cQ i) (V.cQ j)=(i.toList==j.toList):=.oH
def eJ(I:.ak)(q:.i3 k H)(e:k=k'):EP X pins U Q (.eQ k') s:=by subst e;show(.cs (.bl k) H I q)
theorem KC:.id X .Eq WJ:=by
 intro c s U H x y v u Q I S Z h;let[b,q]:=h;cases x with
 |non=>
  cases S;cases y with
  |non=>cases Z;show PySem.EqNone.eq_none_none (.fE I q)
  |bl j=>cases Z;show PySem.EqNone.eq_none_bool (.fE I q)
  |int j=>let[a,rfl]:=Z;show PySem.EqNone.eq_none_int (.fE I q)
  |str j=>let[a,rfl]:=Z;show PySem.EqNone.eq_none_str (.fE I q)
  |_=>show .kq .gN fQ
 |bl i=>
  cases S;cases y with
  |non=>cases Z;show PySem.EqNone.eq_bool_none (.fE I q)
  |bl j=>cases Z;show eq_bool (eJ I q Ky)
  |str j=>let[a,rfl]:=Z;show ao' (.fE I q)
  |_=>show .kq .gN fQ
 |int i=>
  let[t,rfl]:=S;cases y with
  |non=>cases Z;show PySem.EqNone.eq_int_none (.fE I q)
  |int j=>let[a,rfl]:=Z;show eq_int (eJ I q Kx)
  |str j=>let[a,rfl]:=Z;show apa (.fE I q)
  |_=>show .kq .gN fQ
 |str i=>
  let[t,rfl]:=S;cases y with
  |non=>cases Z;show PySem.EqNone.eq_str_none (.fE I q)
  |bl j=>cases Z;show apb (.fE I q)
  |int j=>let[a,rfl]:=Z;show apc (.fE I q)
  |str j=>let[a,rfl]:=Z;show eq_str (eJ I q Kz)
  |_=>show .kq .gN fQ
 |cQ i=>
  let[t,rfl]:=S;cases y with
  |cQ j=>let[a,rfl]:=Z;show PySem.W.eq_bytes (eJ I q KA)
  |_=>show .kq .gN fQ
 |_=>cases y<;>show .kq .gN fQ
def WL:.id X .NotEq WK:=by
 intro c s U H x y v u Q I S Z h;let[b,q]:=h;cases x with
 |non=>
  cases S;cases y with
  |non=>cases Z;show PySem.EqNone.ne_none_none (.fE I q)
  |bl j=>cases Z;show PySem.EqNone.ne_none_bool (.fE I q)
  |int j=>let[a,rfl]:=Z;show PySem.EqNone.ne_none_int (.fE I q)
  |str j=>let[a,rfl]:=Z;show PySem.EqNone.ne_none_str (.fE I q)
  |_=>show .kq .gN fQ
 |bl i=>
  cases S;cases y with
  |non=>cases Z;show PySem.EqNone.ne_bool_none (.fE I q)
  |bl j=>cases Z;show ne_bool (eJ I q<|.dN not Ky)
  |str j=>let[a,rfl]:=Z;show apd (.fE I q)
  |_=>show .kq .gN fQ
 |int i=>
  let[t,rfl]:=S;cases y with
  |non=>cases Z;show PySem.EqNone.ne_int_none (.fE I q)
  |int j=>let[a,rfl]:=Z;show ne_int (eJ I q<|.dN not Kx)
  |str j=>let[a,rfl]:=Z;show ape (.fE I q)
  |_=>show .kq .gN fQ
 |str i=>
  let[t,rfl]:=S;cases y with
  |non=>cases Z;show PySem.EqNone.ne_str_none (.fE I q)
  |bl j=>cases Z;show apf (.fE I q)
  |int j=>let[a,rfl]:=Z;show apg (.fE I q)
  |str j=>let[a,rfl]:=Z;show ne_str (eJ I q<|.dN not Kz)
  |_=>show .kq .gN fQ
 |cQ i=>
  let[t,rfl]:=S;cases y with
  |cQ j=>let[a,rfl]:=Z;show PySem.W.ne_bytes (eJ I q<|.dN not KA)
  |_=>show .kq .gN fQ
 |_=>cases y<;>show .kq .gN fQ
def KD:.kN X .Lt (.bl<|.ai i j):=Au (.px<|lt_int q)
def mJ:.kN X .LtE (.bl<|.iZ i j):=Au (.px<|le_int q)
def KE:.kN X .Gt (.bl<|.ai j i):=Au (.px<|gt_int q)
theorem WM:.kN X .GtE (.bl<|.iZ j i):=Au (.px<|ge_int q)
def fb b(h:op≠.In:=by decide) (M:op≠.NotIn:=by decide):kC op b=.j:=by
 let L:(op==CmpOp.In)=.j:=.d
 let C:(op==amE)=.j:=.d
 cases b<;>simp[kC,L,C]
def WN(l:.id X op r)(J:.U a e)(Y:.U b T)(G:kC op b=.j):.U (.gC a [op] [b]) (As r e T):=.sD<|wpAny_Compare1 .ws G
def DV(t:TE):TT:=.br<|t U H λx a=>∃k,x=.bl k/\Q k a
def DW(l:.id X op r)(J:.U a d)(Y:.U b T)(G:kC op b=.j):PT X (.gC a [op] [b]) (DV<|As r d T):=by
 intro i s U H Q I h;refine amF (.lM (J i s U H _ I h)<|aJ (Y i j U P _ O M) λu o #[y,n,L,m,B]=>
  aJ (l i o U n x y v u _ L g m B) λc f #[z,E,A,R,k,e,w]=>?_) G;subst e;cases R;show ky (.g E A w)
def KG(r D:R2)(d T t:TE):TE:=.br<|d U H (.dD<|T U P λy n=>r x y n λz E=>∃k,z=.bl k/\
 (.A (.n k) (t U E λi q=>D y i q Q)<|.i3 .j E))
def WO(l:.id X op r)(t:.id X p D)(J:.U a C)(Y:.U b T)(V:.U c N)
  (G:zg [op,p] [b,c]=.j:=by with_unfolding_all rfl):.U (.gC a [op,p] [b,c]) (KG r D C T N):=by
 intro o s U H Q I h;refine Compare_chain (.lM (J o s U H _ I h) (chain_link<|aJ (Y o j U P _ O M) λu S #[y,n,L,m,B]=>
  aJ (l o S U n x y v u _ L g m B) λd f #[z,E,A,R,k,e,w]=>?_)) G;subst e;cases R;calc ky ?_;cases k with
 |false=>show ite_ff (.cs (.bl .j) E A w)
 |true=>show ite_tt (chain_last<|aJ (V o f U E _ A w) λi W #[z',q,F,Z,K]=>t o W U q y z' u i Q F m Z K)
def WQ(l:.id X op r)(t:.id X S D)(J:.U a ta)(Y:.U b tb)(V:.U c tc)
  (G:zg [op,S] [b,c]=.j:=by with_unfolding_all rfl):PT X (.gC a [op,S] [b,c]) (DV<|KG r D ta tb tc):=by
 intro o s U H Q I h;refine isTrue_chain (aJ (J o s U H _ I h) λv s1 #[x,P,O,g,M]=>Te (aJ (Y o s1 U P _ O M) λu s2 #[y,n,L,m,B]=>
  aJ (l o s2 U n x y v u _ L g m B) λd f #[z,E,A,R,k,e,w]=>?_)) G;subst e;cases R;calc ky ?_;cases k with
 |false=>let[k',j,N]:=w;cases j;show ite_ff (.g E A N)
 |true=>calc ite_tt (test_last<|aJ (V o f U E _ A w) λi W #[z',q,F,Z,K]=>aJ (t o W U q y z' u i _ F m Z K) λd' s5 #[z2,p,T,r5,k2,e2,C]=>?_);subst e2;cases r5;show ky (.g p T C)
def Av:bh<2^63:=by rw[oV];decide
def vals1(r:.dG [x]):∃u,us=[u]/\.bT x:=by
 cases r with
 |cons g m=>cases m;lk
structure sm(h:bI)(x dx C:af)(mA:.dl):Prop where
 obj:.cT x=.b (ua C dx)
 ns:h.Ns1 dx mA
 ne:dx≠x
def WR{h:bI}(n:h.Ns1 i c):∃od,.cT i=.b od/\∀name,PySem.W.lookIn name od=.b (c name):=by
 let[o,b,d,l,N,L,_,G]:=n;calc(.em l λname=>?_);let e:=G name;unfold nsFind findBy at e;rw[<-Array.find?_toList] at e;unfold PySem.W.lookIn;rw[N];dsimp only;split
 .lk
 .rename_i q;let a:b.toList.any (·.refKey)=.j:=by rw[amH];intro y T;let[z,t,g]:=L y (Array.mem_toList_iff.mp T);simp[DictEntry.refKey,g]
  lk
theorem sm.look(I:sm h x i C L):∃od,PySem.W.InstAt h x (ua C i) C (.b od)/\∀name,PySem.W.lookIn name od=.b (L name):=
 let⟨od,l,d⟩:=WR I.ns
 (.g od (.ct I.obj rfl l) d)
section
variable{K:bj}
def get_map(X:K.In .R)(I:sm .R x i C L)(S:.n (IH K C name))(V:.n (Tf K C))
  (b:qf K .gW name=.b none) (p:L name=.aO) (n:.n (amI v)) (h:Q v (.mJ<|.cw+1)):
  .ci (getAttr (.p x) name a):=by let[c,J,d]:=I.look;show PySem.W.get_value X J (Tg S).1 (PySem.W.findObj_own V b rfl<|by rw[d,p]) n h
def WS(X:K.In .R)(I:sm .R x i C L)(S:.n (IH K C name))
  (a:qf K .gW name=.m3 f) (B:.n (CQ K .ej)) (p:.H (L name)) (h:Q (.ej,[.p x]) s):
  .ci (oW (.p x) name c):=by let[b,J,d]:=I.look;show PySem.W.method_fn X J (Tg S).1 (Tg S).2 a (beq_iff_eq.mp B) (.mY<|(PySem.W.lookIn name b).map _=_) h
def WT(X:K.In .R)(I:sm .R x i C L)
  (hs:.vy) (R:.n (amJ K C)) (B:Th K C name=.b none) (a:.n (Tf K C))
  (hw:S4 L ns) (hsz:.fA<=bh)
  (h:∀h',sm h' x i C (λy=>.A (y=name) .aO<|L y)->mw i .R h'->Q () {s with heap:=h',toks:=.cw+2}):
  .ci (setAttr (.p x) name v):=by let[f,J,d]:=I.look;calc PySem.W.set_plain X J hs (PySem.W.osa_open X J R B (.bw ?_));let[p,V,U]:=PySem.W.any_some a;calc ah (aG<|ah (ah<|wpAny_loadPart (I.obj) (ah<|aph (PySem.W.looks_clsIn X V) ?_)));rw[U];calc aG (ah<|aG .fW);calc wpAny_nsSet1 I.ns λh' g l=>?_;let[o,S,e,H,D,c]:=g.count (PySem.Within.cons name v hw);calc ah (wpAny_lookBehind H (by grind[pastItsLine_dict]) ?_);show aG (h _ (.g (.aA (l.2 _<|i6 I.ne) I.obj) g I.ne) l)
def WU(X:K.In .R)(G:.n (Ti K C))
  (hi:.tx) (J:PySem.W.typeIn K .ej=.b (.type "function"))
  (h:qg (.mA w) (A.under (.tZ<|.c (.gW::vs) a)) (.call .ej<|.c (.p (.G+1)::vs) a) (PySem.W.InitBack (.G+1) R)
   .zi):
  qg (.mA w) A (.call .gW<|.c vs a) R s:=by show PySem.W.make_core (PySem.W.makes_of X G) (PySem.W.looks_findIn X hi) (λS=>PySem.W.bind_fn X S J) .w h
end
def kQ(f:Str)(v:V):.dM V->.dM V
 |[]=>[(f,v)]
 |(g,x)::r=>.ea (g=f) ((g,v)::r)<|(g,x)::kQ f v r
def KH f g v:∀Y,(kQ f v Y).lookup g=.A (g=f) .aO (Y.lookup g)
 |[]=>.p5<|amK g [(f,v)]=_
 |(k,x)::r=>by let E:=KH f g v r;rw[.s3];lk
def DX f v:∀Y:.dM V,f∈.eZ (kQ f v Y)/\∀g,g∈Y.map .fr->g∈.eZ (kQ f v Y)
 |[]=>(.c (by simp[kQ]) λg h=>.fv)
 |(k,x)::r=>by let[n,a]:=DX f v r;rw[.s3];lk
def KI f v:∀Y,.ae (kQ f v Y) (.jZ+1)
 |[]=>by simp[kQ]
 |(k,x)::r=>by let E:=KI f v r;rw[.s3];lk
def iE.some_of(r:iE .aO o):∃u,o=.aJ/\.bT v:=by
 cases o with
 |none=>show(r).elim
 |some u=>show(.aX u r)
def iE.none_of(r:iE none o):.H o:=by
 cases o with
 |none=>rfl
 |some u=>show(r).elim
def WV(r:.bT v):.n (amI u):=by
 cases v with
 |non=>cases(r);rfl
 |bl b=>cases(r);rfl
 |int i=>let[t,e]:=(r);cases e;rfl
 |str x=>let[t,e]:=(r);cases e;rfl
 |cQ b=>let[t,e]:=(r);cases e;rfl
 |xb b=>let[t,e]:=(r);cases e;rfl
 |ref a=>cases(r);rfl
 |ty n=>cases(r);rfl
def DY(y:dI P w H h)(e:H a=.b (.dP i Y)):∃L,sm h a i C L/\(∀f,iE (Y.lookup f) (L f))/\S4 L (Y.map .fr)/\.bh .jZ/\H i=.l9 a:=by let[d,z,U,b,L,n,r,q]:=(y a _ e);show(.ab L (.g b n U) r q z d)
structure gD(K:bj)(C:af):Prop where
 pg:.n (IH K C Str.empty)
 hd:.n (Tf K C)
 po:.n (amJ K C)
 sa:.vy
theorem gD.get{K}{C}(c:gD K C) f:.n (IH K C f):=c.pg
def mK(K:bj)(C:af)(f:Str):=qf K .gW f=.b none
def mK.WX{K}(n:mK K C f):Th K C f=.b none:=by unfold Th;rw[n];rfl
structure xo(K:bj)(C:af)(m:Str)(f:af):Prop where
 at_:qf K .gW m=.m3 f
 fn:.n (CQ K .ej)
 kp:.n (oX K .ej)
def WY(I:.ak)(e:H a=.b (.dP i Y))(c:gD X.K C)(n:mK X.K C f)(l:Y.lookup f=.aO)
  (h:∀u J,.mE J->.bT v->Q u J):.g5 A (getAttr .T f b) Q E s:=by let[L,O,r,_,_,_]:=DY I.aL e;let[u,R,t]:=iE.some_of (v:=v) (o:=L f) .d;show get_map I.iH O (c.get f) c.hd n R (WV t) (h u _ .if t)
def KJ(I:.ak)(e:H a=.b (.dP i Y))(c:gD X.K C)(k:xo X.K C m g)(l:.H (Y.lookup m))
  (h:Q (.p g,[.T]) s):.g5 A (oW .T m b) Q E s:=by let[L,O,r,_,_,_]:=DY I.aL e;show WS I.iH O (c.get m) k.at_ k.fn (iE.none_of .d) h
def WZ(I:.ak)(e:H a=.b (.dP i Y))(c:gD X.K C)(n:mK X.K C f)(d:.jZ<1000)(Z:.bT y)
  (h:∀J,.eS (.a8 a (.dP i<|kQ f y Y)) J->Q () J):.g5 A (setAttr .T f u) Q E s:=by
 let[L,O,r,m,_,l]:=DY I.aL e;calc WT I.iH O c.sa c.po n.WX c.hd m (by rw[aj,oV];lia) λt k M=>h _ ?_;calc I.write .qJ (.F l) (λb q p z=>.hg b p z) (let⟨o,_,_,j,_⟩:=k.ns;(.c o j)) ?_;refine{by rw[aY O.ne];show l,?_,O.ne,k.obj,_,k.ns,λg=>?_,λg S=>?_}
 .have:=KI f y Y;lia
 .rw[KH];by_cases q:g=f
  .rw[.dF,.dF];show Z
  lk
 .by_cases q:g=f
  .rw[q];show(DX f y Y).1
  .calc(DX f y Y).2 g (m g (.s<|S ?_));lk
def Inv.made(I:.hZ a H s):Inv X pins a (upd (.a8 .G (.own<|.G+1)) (.G+1)<|.dP .G [])
  .zi:=by
 let L:_=.b zh:=.tW .R;let c:((.g4 zh).push<|ua C .G).get? (.G+1)=.b (ua C .G):=by have:=dg (.g4 zh) (o:=ua C .G) rfl;cbv
 calc(I.laid (o:=.own<|.G+1) (t':=.cw) (λb u q=>.a1 q) .ao<|.cz L).laid (λb u q=>.a1 q) (CS<|iA _ _) ?_;let U:.G≠.G+1:=cY (Tj _);refine{by rw[aY U,dk],eY _,U,c,λ_=>none,(Heap.Ns1.of_empty<|.fK zh .bH L rfl (λe d=>.aa d .f) .hI).at λo q=>.a1 q,λ_=>oY,.d2<|.hs T}
def W0(Y:gU e f a (az e a)=az e a)
  (h:.k6 (az e a) (λo g=>.nJ (getAttr o f true) g) s):.ci (az (.o3 e pos) a):=
 Attribute_any_ h (by rw[arm_eval_Attribute,Y])
def W1(K:bj)(d:TE)(f:Str):TE:=.br<|d U H (.dD<|∃a C i Y v,x=.T/\P a=.b (.dP i Y)/\gD K C/\mK K C f/\Y.lookup f=.aO/\Q v P)
def W2(K:bj)(d t:TE)(f:Str):TS:=.jx<|t U H λy P=>d U P λx n=>∃a C i Y,x=.T/\n a=.b (.dP i Y)/\gD K C/\mK K C f/\.jZ<1000/\
 D.nx U (upd n a (.dP i<|kQ f y Y))
def KL(he:.m6 d)(Y:gU e f .X (.fn e)=.fn e):.U (.o3 e pos) (W1 X.K d f):=.sl (W0 Y<|aJ (he b s U H _ I h) λu j #[x,P,O,S,a,C,i,g,v,G,J,c,n,l,q]=>?_) (u=_)<|WY O J c n l λw k L t=>(.I v P L t q)
def W3(J:.U o d)(p:.U value t)(hs:lE value (.b<|.o3 o e) .mi .X=.aL .j):PS X (.Assign [.o3 o e] value pos) (W2 X.K d t f):=by intro b s U H D I h;calc plainObj_wpAny_Assign_Attribute (aJ (p b s U H _ I h) λu j #[y,P,O,Z,q]=>aJ (J b j U P _ O q) λT m #[x,k,L,S,a,C,i,Y,G,g,c,n,l,B]=>?_) hs;subst G;obtain rfl:T=_:=S;show WZ L g c n l Z λr A=>(.q U _ A B)
structure bQ(k:Nat)(A:gS):Prop where
 hd:.iI
 dp:A.depth+3*k+5<Tn
 un:.gM+16*k+200<eE
def bQ.mono(r:bQ k A)(h:j<=k):bQ j A:=(.g r.hd (by have:=r.dp;lia)<|by have:=r.un;lia)
def bQ.deeper(r:bQ (k+1) A) f:.oU k f:=
 (.g r.hd (by have:=r.dp;change A.depth+1+3*k+5<_;lia)<|by have:=r.un;change .gM+3+16*k+200<_;lia)
def W4{A:gS}:(.sa).depth=A.depth+1:=.bm
def W5{A:gS}:(.sa).units=.gM+1:=.bm
def bQ.make(r:bQ (k+1) A) C us a:bQ k .sa:=
 (.g r.hd (by have:=r.dp;rw[W4];lia)<|by have:=r.un;rw[W5];lia)
def bQ.depth(r:bQ k A):A.depth<Tn:=by have:=r.dp;lia
def bQ.units(r:bQ k A):.gM+64<eE:=by have:=r.un;lia
def g4:TA:=λ_ H Q=>Q [] H
def kR(d:TE)(R:TA):TA:=.br<|d U H (.dD<|R U P λF n=>Q (x::F) n)
def fY:PA X [] g4:=λ_ _ _ _ H Q I h=>wC<|.I [] H I .nil h
def fC(J:.m6 c)(Z:PA X es t)(hs:.gb e=.eF::.ga:=by rfl):PA X (e::es) (kR c t):=by intro b a s U H Q I h;rw[hs];calc oZ (aJ (J a s U H _ I h) λu j #[x,P,O,g,M]=>?_);show aJ (Z b a j U P _ O M) λf d #[F,n,L,m,B]=>(.I (x::F) n L (.bj g m) B)
def W6(t:TA):TE:=.br<|t U H λF P=>.aE<=bh/\∀p,.H (P p)->.gQ (upd P p<|.am F)
def W7(t:TA):TE:=.br<|t U H λF P=>.aE<=bh/\∀p,.H (P p)->.gQ (upd P p<|.Z F)
def W8(h:PA X es t):.U (.hz es w pos) (W6 t):=by intro a s U H Q I f;calc amL .u3;let J:=.pD;calc .vx;show(.q z c r<|.aW _ .cB _ rfl)
def W9(h:PA X es t):.U (.List es pos) (W7 t):=by intro a s U H Q I f;calc wpAny_List_spliced .u3;let J:=.pD;calc .vx;show(.I z c 0 r .cB)
abbrev Sp:=.au->Hp->VK->XK->Prop
abbrev xp:=.im->Hp->bO->XK->.hq
structure sq(P:fu)(w:ew)(K:bj)(mg:.dl)(base:bI)(A:gS)(outer:.im)(s:bO)(H:Hp):Prop where
 frames:A.frames=.b outer
 mod:Mod K mg base
 bs:.a3 (base.get? b=.v) (.eM=.v/\.ew)
 nQ:base.objs.size<=.G
 lO:s.heap.FunFrames base outer
 se:∀b∈mI outer,.ew
 aL:dI P w H .R
 bare:wq s.gens
 tab:Tb K H
def CE(U:.im)(P:fu)(w:ew)(H:Hp)(s:bO)(Q:VK)(u:aw)(J:bO):=
 ∃v a,J.os=s.os/\wq J.gens/\Un (mI U) [] H a .R J.heap/\dI P w a J.heap/\.bT v/\Q v a
def CR(c:xp)(U:.im)(P:fu)(w:ew)(H:Hp)(s:bO)(Q:VK)(E:XK)(r:Result)(J:bO):=
 match r with
 |.ok (.ret u)=>CE U P w H s Q u J
 |.ok _=>False
 |.error e=>c U H s E e J
structure jy(P:fu)(w:ew)(K:bj)(mg:.dl)(base:bI)(CX:xp)(k:Nat)(f:af)(fd:FuncData)(ps:.a7)(sp:Sp):Prop where
 len:.sB (sp vs H Q E) (.bD=ps.length)
 run:∀(A:gS) (outer:.im) (s:bO) (H:Hp) (args:Args) (us:.b1) (vs:.au) (Q:VK) (E:XK),bQ k A->sq P w K mg base A outer s H->BindsTo s fd args (ps.zip us)->.dG vs->sp vs H Q E->
  qg (ay P w) A (.call .ej args) (CR CX outer P w H s Q E) s
def sq.make{K}(e:sq P w K X i A U s H) C us a:
 sq P w K X i .sa U s H:={by first|exact e.frames|(simpa[pushEnvs] using e.frames),e.mod,e.bs,e.nQ,e.lO,e.se,e.aL,e.bare,e.tab}
def Inv.KN(I:.ak):sq .ar X.w X.K X.mg .dj X.A .kh s H:=
 {I.ok.frames,I.ok.mod,I.bs,bC I.ok.nQ I.sz,I.stack,I.J9,I.aL,.ix,I.tab}
def Inv.after(I:.ak)(h:CE .kh .ar X.w H s Q u J):EP X pins U Q u J:=by let[v,a,F,B,G,y,r,q]:=h;let[V,g,d,t,S]:=J;obtain rfl:S=s.os:=F;show(.I v a (I.call G y B λb z=>.aa z .f) r q)
def Aw(sp:Sp)(D:.au)(E:XK)(t:TA):TE:=.br<|t U H λa P=>sp (a++D) P Q E
def Ax(C:af)(m:Str)(sp:Sp)(D:.au)(E:XK)(d:TE)(t:TA):TE:=.br<|d U H (.dD<|∃a i Y,x=.T/\P a=.b (.dP i Y)/\.H (Y.lookup m)/\
 t U P λb n=>sp (x::(b++D)) n Q E)
def Ay(C:af)(sp:Sp)(D:.au)(E:XK)(t:TA):TE:=.br<|t U H λa P=>∀x i,.H (P x)->.H (P i)->i≠x->
 sp (.p x::(a++D)) (upd (upd P i<|.own x) x<|.dP i []) (λv n=>v=.non/\.eY x n) E
def Binds(K:bj)(I:FuncData)(G:.a7)(ds:.b1):=
 ∀s a,K.In .R->(.m<|a++ds)=.dW->BindsTo s I (.gU a) (G.zip<|a++ds)
def Binds.all{K}(h:∀us,.lj=.dW->zi I (.gU us)=.aL (G.zip us)):Binds K I G []:=λs us _ d=>by rw[eS] at d|-;show .of_eq (h us d)
def pA(c:xp)(X:Cx)(E:XK):=∀a (U:St) H s e J,.fk->c .kh H s E e J->X.xe e J
def Az(F:.tw)(Z:.fV)(Y:Binds X.K b g ds)(N:aV D ds)(d:pA c X E)
  (I:.ak) (r:.dG vs) (h:sp (vs++D) H Q E):.ds (call .ej us) (EP X pins U Q):=by
 let m:=r.append N;calc II (wD (F.run X.A .kh s H _ _ _ Q E Z I.KN (Y s us I.iH<|by rw[<-m.length];show F.len _ _ _ _ h) m h) λr J a=>?_);cases r with
 |error e=>show d pins U H s e J I a
 |ok G=>
  cases G with
  |ret u=>show I.after a
  |next=>room
  |brk=>room
  |cont=>room
def W_(F:.yg)(Z:.fV)(S:.fj)(G:X.mg x=.K f)(L:.n (oX X.K .ej))(Y:Binds X.K b l ds)(N:aV D ds)(i:pA c X E)
  (J:PA X (e::es) t) (d:(.ko x)=.j:=by decide) (he:.gb e=.eF::.ga:=by rfl) (g:.hS=.j:=by rfl):
  .gI x (e::es) (Aw sp D E t):=by intro a s U H Q I h;calc ub (uB I S G ?_ d);calc To I.ok.mod.xc L .wr he g;show Az F Z Y N i O r q
def Xa(F:.tw)(Z:.fV)(S:.fj)(G:X.mg x=.K f)(L:.n (oX X.K .ej))(Y:Binds X.K b g ds)(N:aV D ds)(e:pA c X E)
  (d:(.iF x)=.j:=by decide):.gI x [] (Aw sp D E g4):=.rh (uB I S G ?_ d) (Tp I.iH L<|Az F Z Y N e I .nil h)
def Xc(he:.U o d)(c:gD X.K C)(G:xo X.K C m f)(F:jy .ar X.w X.K X.mg .dj CX k f fd y sp)(Z:.fV)(Y:Binds X.K fd y ds)(R:aV D ds)(z:pA CX X E)(A:PA X (e::es) t)
  (N:.gb e=.eF::.ga:=by rfl) (g:.hS=.j:=by rfl)
  (M:.mv m j (e::es) pos=(do
   let T<-.d1
   .mX
   let(f,p)<-gw [T] (oW T m pl)
   qh pos f p (.lK pos<|e::es)<|.pJ pos):=by rfl):
  .ka m j (e::es) pos (Ax C m sp D E d t):=by intro b s U H Q I h;calc amM (aJ (he b s U H _ I h) λu v #[x,P,O,S,a,i,fs,w,J,l,q]=>?_) M;subst w;obtain rfl:u=_:=S;calc KJ O J c G l ?_;calc To I.ok.mod.xc G.kp (aJ (A pos b v U P _ O q) λus s2 #[W,n,L,r,B]=>(.bM L.iH)) N g;show Az (vs:=.T::W) F Z Y R z L (.bj rfl r) B
def Xd(he:.U o d)(c:gD X.K C)(G:xo X.K C m f)(F:jy .ar X.w X.K X.mg .dj r k f g t sp)(Z:.fV)(Y:Binds X.K g t ds)(N:aV D ds)(n:pA r X E)
  (B:.mv m j [] pos=(do
   let T<-.d1
   .mX
   let(f,b)<-gw [T] (oW T m v)
   .td):=by rfl):
  .ka m j [] pos (Ax C m sp D E d g4):=by intro e s U H Q I h;calc amM (aJ (he e s U H _ I h) λu w #[x,P,O,S,a,i,y,p,J,l,q]=>?_) B;subst p;obtain rfl:u=_:=S;calc KJ O J c G l ?_;show Tp O.iH G.kp (Az (vs:=[.T]) F Z Y N n O (.bj rfl .nil) q)
structure Mk(K:bj)(C f:af):Prop where
 makes:.n (Ti K C)
 init:.tx
 fn:.n (CQ K .ej)
 kp:.n (oX K .gW)
def KO(M:Mk X.K C f)(F:jy .ar X.w X.K X.mg .dj c k f j G sp)(Z:.k8 (k+1))(Y:Binds X.K j G ds)(N:aV D ds)
  (o:pA c X E) (I:.ak) (r:.dG vs)
  (h:∀x i,.bI x->.bI i->i≠x->sp (.p x::(vs++D)) .y7 (λv n=>v=.non/\.eY x n) E):
  .ds (call .gW us) (EP X pins U Q):=by
 let g:=h _ .G (.nb<|zj _) (.gA _) (cY<|Tj _);let L:=Inv.made (C:=C) I;let m:aV (V.ref _::_) (fB (.G+1)::_):=.bj rfl (r.append N);let d:(.m<|fB (.G+1)::us++ds)=.dW:=by let e:=m.length;rw[F.len _ _ _ _ g] at e;lk
 refine II (WU I.iH M.makes M.init (beq_iff_eq.mp M.fn)<|wD (F.run _ .kh _ _ _ _ _ _ E (Z.make C us [])
  (L.KN.make C us []) (Y _ _ L.iH d) m g) λr J a=>?_);cases r with
 |error e=>show o pins U _ _ e J L a
 |ok p=>
  cases p with
  |ret u=>let[v,q,A,l,b,w]:=L.after a;subst b;show(.c l<|.cs (V.ref _) q A w)
  |next=>room
  |brk=>room
  |cont=>room
def Xe(M:Mk X.K C f)(F:.yg)(Z:.k8 (k+1))(S:.fj)(G:X.mg x=.K C)(Y:Binds X.K b l ds)(N:aV D ds)(i:pA c X E)
  (J:PA X (e::es) t) (d:(.ko x)=.j:=by decide) (he:.gb e=.eF::.ga:=by rfl) (g:.hS=.j:=by rfl):
  .gI x (e::es) (Ay C sp D E t):=by intro a s U H Q I h;calc ub (uB I S G ?_ d);calc To I.ok.mod.xc M.kp .wr he g;show KO M F Z Y N i O r q
def Xf(M:Mk X.K C f)(F:.tw)(Z:.k8 (k+1))(S:.fj)(G:X.mg x=.K C)(Y:Binds X.K b g ds)(N:aV D ds)(e:pA c X E)
  (d:(.iF x)=.j:=by decide):.gI x [] (Ay C sp D E g4):=.rh (uB I S G ?_ d) (Tp I.iH M.kp<|KO M F Z Y N e I .nil h)
structure aN(N P:.a7)(sc:jT):Prop where
 kind:sc.kind=.ll
 co:sc.isCoroutine=.j
 gen:sc.isGenerator=.j
 nd:N.Nodup
 pre:N.take P.length=P
 par:∀x∈P,sc.names.lookup x=.cP\/sc.names.lookup x=.iN
 Xg:∀y∈sc.names,y.2≠.free
def KQ{a}:∀{b} {m},(∀v,(x,v)∉b)->ud a b m x=m x
 |[],_,_=>rfl
 |(n,v)::r,m,h=>by
  unfold ud;rw[KQ λw c=>h w (gR _ c)];split
  .lk
  .rfl
def KR{a}:∀{b} {m},(∀v,(x,v)∉b)->ue a b m x=m x
 |[],_,_=>rfl
 |(n,v)::r,m,h=>by
  unfold ue;rw[KR λw c=>h w (gR _ c)];split
  .rfl
  lk
def KS{a}{x}{v}:∀{P:.a7} {vs} {i:Nat} {m},P.Nodup->P[i]?=.bt->vs[i]?=.aO->a x=.cP->
  ud a (P.zip vs) m x=.aO
 |[],_,_,_,_,h,_,_=>.fv
 |_::_,[],_,_,_,_,h,_=>.fv
 |p::P,w::vs,0,m,N,B,M,L=>by simp at B M;subst B;subst M;change ud a ((p,w)::P.zip vs) m p=_;unfold ud;rw[KQ λv b=>(lF.mp N).1 (wF b).1,.r L];simp
 |p::P,w::vs,i+1,m,N,B,M,L=>by change ud a ((p,w)::P.zip vs) m x=_;unfold ud;show KS (i:=i) (lF.mp N).2 .d .d L
def KU{a}{x}{v}:∀{P:.a7} {vs} {i:Nat} {m},P.Nodup->P[i]?=.bt->vs[i]?=.aO->a x≠.cP->
  ue a (P.zip vs) m x=.aO
 |[],_,_,_,_,h,_,_=>.fv
 |_::_,[],_,_,_,_,h,_=>.fv
 |p::P,w::vs,0,m,N,B,M,L=>by simp at B M;subst B;subst M;change ue a ((p,w)::P.zip vs) m p=_;unfold ue;rw[KR λv b=>(lF.mp N).1 (wF b).1,.x L];simp
 |p::P,w::vs,i+1,m,N,B,M,L=>by change ue a ((p,w)::P.zip vs) m x=_;unfold ue;show KU (i:=i) (lF.mp N).2 .d .d L
def start(N:.a7)(vs:.au):St:=vs.map some++bL (N.length-.bD) none
def mL(c:xp)(P:fu)(w:ew)(K:bj)(mg:.dl)(base:bI)(N:.a7)(D:Str)(F:jT)(f:af)(p:aw)(A:gS)(outer:.im)(s:bO)(H:Hp)(E:XK):Cx where
 prog:=P
 w:=w
 K:=K
 mg:=mg
 base:=base
 A:=A.deeper<|mC D F .G f p
 N:=N
 iG:=s
 qw:=H
 env:=mC D F .G f p
 outer:=outer
 stack:=mC D F .G f p::outer
 ex:=[]
 calm:=true
 fn:=λ_=>true
 pn:=[]
 xe:=λe J=>ao (ay P w) (A.deeper<|mC D F .G f p) (leaving (mC D F .G f p) e) (λ_ O=>c outer H s E e O) (λj O=>c outer H s E j O) J
def KW{t:jT}(h:.mN x=.iN):∃c,(gY n t.names []).lookup x=.cA:=by show IJ.mp (amN t.names n [] .ex)
def Xh{C}{P}{w}{K}{X:.dl}{a}{N G:.a7}{D}{F}{f}{t}{A:gS}{U:.im}{s j}{H}{E}{us:.b1}{vs:.au}
  (S:aN N G F) (Q:.iI) (I:sq P w K X a A U s H) (d:.bD=.dW) (r:.dG vs)
  (x:InCallC s .G (ud (mC D F .G f t).kindOf (G.zip us) λ_=>none) (gY (.G+1) .he []) (ue (mC D F .G f t).kindOf (G.zip us) λ_=>none) j):
  Inv .Ar [] (start N vs) H j:=by
 let g:.dW<=N.length:=.jP (.dN IK S.pre)
 obtain⟨B,Y,rfl,L⟩:=x.done;let o:∀b:af,b∉(.Ar).ex:=λb z=>.aa (show b∈([]:.bL) from z) .f;refine{{I.mod,S.kind,rfl,rfl,.ao,λy z c B M=>?_,.d2 ?_,λy c _ h=>?_,λ_=>Q,Around.frames_deeper I.frames,.F .bW,λb z=>.aa z<|o b,I.bs,I.nQ,λb _ _=>o b,λb z=>.aa z<|o b,I.lO,I.se,I.tab},
  rfl,.ix,Un.kept L,(.D x.toInCall.ns λi y v B M W=>?_),λy c h=>(.cz<|x.cell y c h),.gA _,λy c h=>?_,.dz<|.aa (show p∈([]:.kU af) from R) .f,I.aL.kept L,?_}
 .show name_of_addr x.apart (kD B) (kD M)
 .let T:.iE y=.iN\/.iE y=.n1:=T;let T|||T:=T
  .show KW T
  .show .hs (S.Xg _<|kD T)
 .show fv (x.above y c<|kD h)
 .let Z:i<.bD:=by unfold start at M;lk
  let J:vs[i]?=.aO:=by unfold start at M;lk
  let[u,O,m]:=r.get J;let R:G[i]?=.eO:=by rw[<-S.pre,Tq .a];show B
  let l:G.Nodup:=by rw[<-S.pre];show S.nd.sublist (Tr _ _)
  calc(.cf u m);let k|||k:=S.par y (bb R)
  .show .hl k (KS l R O k)
  .let[c,e]:=KW (n:=.G+1) k;calc .F (.jM (.z k) c e);let q:=x.cell y c e;rw[KU l R O (.p5<|.iE y≠_)] at q;show q
 .show .nb (fv (x.above y c<|kD h))
 .unfold start;change _=N.length;lk
def KY{CX}{P}{w}{K:bj}{X:.dl}{i}{k}{f}{name D}{l}{g:.y gu}{F}{d kV W pm z ct oc}{L od:.aR af}
  {xq:.eR (.aR aw)} {N G:.a7} {sp:Sp} (lk:.cu f=.gr oc od (.func<|qi name D l g F d kV W pm L z ct) xq) (a:.n (zk K z D)) (S:aN N G F)
  (M:.q6)
  (p:∀(A:gS) (U:.im) s H (vs:.au) Q E,.oU k (mC D F .G f z)->sp vs H Q E->
   ∃t,hX .tR g t/\.rV):
  jy P w K X i CX (k+1) f (qi name D l g F d kV W pm L z ct) G sp:=by
 refine(.c M λA U s H args us vs Q E Z e0 Y r R=>?_);let hl:=M _ _ _ _ R;let KX:K.In .R:=e0.mod.xc.keeps (.bQ (e0.bs b o e).1);let lim:s.heap.NoLimit:=e0.mod.nolimit.keeps (.bQ (e0.bs b o e).1);let h:∀y∈G.zip us,.iE y.1=.cP\/(.iE y.1=.iN/\.n ((gY (.G+1) .he []).lookup y.1).isSome):=λ#[n,v] T=>by
  let q|||q:=S.par n (wF T).1
  .lk
  grind[amN]
 refine codeAny_call_function Z.depth (KX _ _ lk) rfl S.co S.gen rfl (PySem.W.codeRec_of KX a)<|Y _ _ _ _ ?_;calc wpAny_newFunctionEnv_cells S.kind h λenv he j x=>?_;subst he;calc(.c (lim.keeps x.toInCall.keep)<|codeAny_func ?_);let[t,B,hq]:=p A U s H vs Q E (Z.deeper _) R;let I:Inv .tR [] (start N vs) H j:=Xh S Z.hd e0 hl r x;calc i7 (B [] j (start N vs) H _ I hq) (λfl s' O=>?_) λe s' O=>O;let c:∀{C:St} {H':Hp} {v:V} {u:aw},Inv .tR [] C H' s'->.bT v->Q v H'->CE U P w H s Q u s':=
  λ{C H' v u} J m q=>#[v,H',J.os,J.bare,J.base,J.aL,m,q];cases fl with
 |ret u=>let[v,C,H',J,m,q]:=O;show c J m q
 |next=>let[C,H',J,q]:=O;show c (v:=V.non) (u:=t_) J rfl q
 |brk=>let[_,_,_,q]:=O;lk
 |cont=>let[_,_,_,q]:=O;lk
section
variable{id T:String}{r:.au->.cZ}
def mM(r:.au->.cZ)(t:TA):TE:=.br<|t U H λa P=>r a P Q
def pB(c:iI X (.fw id) r)(S:.fj)(G:.bR x)(f:wo x=.b (.fw id))(J:PA X (e::es) t)(i:x≠.oX:=by decide) (d:(.ko x)=.j:=by decide)
  (he:.gb e=.eF::.ga:=by rfl) (g:.hS=.j:=by rfl):.gI x (e::es) (mM r t):=.rh (nR I S G f ?_ i d)<|PyProof.Rows.callWith_builtin1 .vw he g
def uI(c:iI X (.type T) r)(S:.fj)(G:.bR x)(f:wo x=.b (.type T))(J:PA X (e::es) t)(i:x≠.oX:=by decide) (d:(.ko x)=.j:=by decide)
  (he:.gb e=.eF::.ga:=by rfl) (g:.hS=.j:=by rfl):.gI x (e::es) (mM r t):=.rh (nR I S G f ?_ i d)<|wB .vw he g
end
end L2
namespace HT
open PySem PyProof.Rows
def lexLt:.S->.S->Bool
 |[],[]=>false
 |[],_::_=>true
 |_::_,[]=>false
 |x::F,y::k=>.Ak
def AA x y F k:lexLt (x::F) (y::k)=.Ak:=rfl
def KZ:lexLt [] []=.j:=rfl
def Xi y k:.n (lexLt []<|y::k):=rfl
def Xj x F:lexLt (x::F) []=.j:=rfl
def Xk A s a t c u:∃e,Ts A s (.gy a) (.av c u) e/\(.n e↔a=c):=
 (.D (amO a t c u) .f)
def Xl A s a t c u prog w E Q(h:Q (.eQ<|.ai a c) s):
  .ci (Tt .Lt (.gy a)<|.av c u):=
 (PyProof.Rows.lt_int h:_)
section
open PySem.SeqAt
open PySem.AutoSeq1 (wpAny_loadPart')
open PySem.MeetsSeq PySem.MeetsSeq2 PySem.MeetsSeq3
theorem Xm l b(items i:.eR aw) n n2(D f:.aR af)(Z L:.eR (.aR aw))(ns ms:.S)(hi:hU items.toList ns)(I:hU i.toList ms):
  Meets (Builtin.«tuple.__lt__»<|.gU [.dQ,.dn])
   (λ_ R s=>.d8 l=.b {cls:=.fu,dict:=D,data:=.seq items n,slots:=Z}/\.eM=.b {cls:=.fu,dict:=f,data:=.seq i n2,slots:=L}/\
    R (.n2 (.eQ<|lexLt ns ms)) s):=
 .of_wp λE w A R s h=>by
  let[W,g,d,tk,F]:=s;let[hl,Y,h]:=h;let f2:=AutoSeq1.sub_tuple_tuple;let z1:.hX=.fA:=by rw[<-hi.length];simp
  let B:i.size=ms.length:=by rw[<-I.length];simp
  wp_walk using IL hl,IL Y,CN _ (λG b J=>.H b.1/\J=(.I W g d tk F)/\∃(vs X:.b1) (j m:.S),G=vs.zip X/\
   hU vs j/\hU X m/\.cS+i.size=.gH+.hX/\R (.n2 (.eQ<|lexLt j m)) (.I W g d tk F)) _;case turn=>
   intro[y,x] G b J [S,rfl,vs,X,j,m,C,z,k,o,P];cases z with
   |nil=>rw[List.zip_nil_left] at C;cases C
   |cons a t M=>
    cases k with
    |nil=>rw[List.zip_nil_right] at C;cases C
    |cons c u Q=>
     rw[nB] at C;injection C with Xn O;injection Xn with hy hx;subst hy hx;rw[AA] at P;simp only[dS] at o;let[e,he,v]:=Xk .fR (.I W g d tk F) a t c u;calc ah (he E w _ _ ?_);cases e with
     |true=>rw[.r<|v.mp rfl] at P;wp_walk;show{rfl,rfl,_,_,_,_,O,M,Q,.a,P}
     |false=>rw[.x (.bO<|.aa (v.mpr q) fQ)] at P;let U:=Xl .fR (.I W g d tk F) a t c u E w;wp_walk using U;show(.bZ<|by simpa using P)
  case fin=>
   rintro⟨H,N⟩ J ⟨S,rfl,vs,X,j,m,C,z,k,o,P⟩;simp only at S;subst S;let p:lexLt j m=.ai .hX i.size:=by
    cases z with
    |nil=>
     cases k with
     |nil=>simp only[CT] at o;rw[KZ];show(.h2 .a).symm
     |cons c u hw=>simp only[CT,dS] at o;rw[Xi];show(.g8 .a).symm
    |cons a t p=>
     cases k with
     |nil=>simp only[CT,dS] at o;rw[Xj];show(.h2 .a).symm
     |cons c u hw=>rw[nB] at C;cases C
   rw[p] at P;wp_walk;show(.bZ<|by simpa[api] using P)
  case h=>show#[rfl,rfl,items.toList,i.toList,ns,ms,rfl,hi,I,.a,h]
end
section
variable{prog:fu}{w:ew}{A:gS}{E:.hq}{s:bO}
def Xo(d:my .R l items)(Y:my .R b i)(hi:hU items.toList ns)(I:hU i.toList ms)
  (R:.gM<eE) (h:Q (.eQ<|lexLt ns ms) s):.ci (eO .Lt .dQ .dn):=by
 obtain⟨⟨j,D,c,Z⟩,g,k,n,N⟩:=id d;let[[e,f,a,L],m,C,y,H]:=id Y;subst k N C H;show richCompare_meets_room (op:=.Lt) (.cx g) (.cx m) PySem.F.slot_tuple_lt PySem.F.entry_tuple_lt (PySem.F.args_tuple_lt_2 _ _) (Xm l b items i n y D f Z L ns ms hi I)
  (.g g m<|.c (.ah<|nomatch x) h) R
def Xp(B:my .R t .hF)(Y:my .R b ws.toArray)(p:vs≠[])
  (i:ws=[]->.eY t s) (M:ws≠[]->Q .dO (.h3<|.oa .f4 (.l2<|vs++ws)))
  (hsz:.bD+.bp<=bh):.z0:=by
 let[[h,D,c,Z],l,g,n,N]:=id B;let[[e,f,a,L],m,C,y,H]:=id Y;simp only at g N C H;subst g N C H;by_cases d:ws=[]
 .exact Tu (.cx l) (.cx m) Tv Tz TB TC (TF _ _)
   (tuple_addW1 t b .hF ws.toArray n y D f Z L .d<|by simp[d]) (.g l m<|i d)
 .refine Tu (.cx l) (.cx m) Tv Tz TB TC (TF _ _)
   (tuple_addW2 t b .hF ws.toArray n y D f Z L .d .d .a)<|.cf l m;lk
def b0(n d:Nat):.ir->Nat
 |none=>d
 |some v=>.b7 (v<0) (.fl<|v+n)<|min v.toNat n
def K0(n d k:Nat):b0 n d .fg=min k n:=.bm
def Xq n d(N:d<=n) o:b0 n d o<=n:=by
 cases o with
 |none=>show N
 |some v=>change(.A (v<0) _ _)<=n;lk
def K1 v(n d:Nat):(.A (v<0) (max (v+.dZ) 0)<|min v n)=(b0 n d .aO):=.p5<|_=(.cj<|.A (v<0) _ _)
theorem Xr lo hi(n:Nat):Builtin.Slice.sliceAdjust lo hi 1 n=((.cg<|b0 n 0 lo),(.cg<|b0 n n hi)):=by
 let B:¬((1:Int)<0):=.a
 unfold Builtin.Slice.sliceAdjust;refine Prod.ext ?_ ?_
 .cases lo with
  |none=>rfl
  |some v=>show K1 v n 0
 .cases hi with
  |none=>rfl
  |some v=>show K1 v n n
theorem Xs(i j:Nat):amP i j 1=j-i:=by unfold amP;lia
def K2(p:qj v o)(h:Q o s):.ci (apj v):=by
 cases p with
 |none=>show slicePart_none h
 |int i t=>show slicePart_int h
def K3{lo hi}{n}{Q:Int×Int×Nat->.ou}(hs:s.heap.IsSliceOf Z i k .cy)(C:qj i lo)(c:qj k hi)
  (h:Q ((b0 n 0 lo),1,b0 n n hi-b0 n 0 lo) s):.ci (amQ (.p Z)<|.aL n):=by let[F,H,d,a]:=id hs;unfold amQ apk;calc ah (ah<|TH H a (x:=i) rfl (ah<|TH H a (x:=k) rfl (ah<|TH H a (x:=.cy) rfl .dC)));calc ah (slicePart_none ?_);change _;rw[.x .V];calc ah (K2 C (ah<|K2 c .ik));grind[ao,Builtin.Slice.sliceAdjust,pure,Xr,Xs,aG]
def Xt(F:.eR aw)(i k:Nat):(.eA<|.mO k λ(m:Nat)=>F[(.fl<|i+(m:Int)*1)]?)=(.eA<|.aC (F.toList.drop i) k):=by
 let e:(λ(m:Nat)=>F[(.fl<|.j4+(m:Int)*1)]?)=.cN (F[i+m]?):=.d
 have:=pick_run F i k;let C:(_∘.ah (i+x))=.cN (F[i+m]?):=rfl;lk
def Xu{lo hi}{Q}(B:my .R t items)(hs:s.heap.IsSliceOf Z i k .cy)(C:qj i lo)(c:qj k hi)
  (hw:¬.za)
  (h:Q .dO (.h3 (.oa .f4<|.l2 .sR)))
  (hsz:.hX<=bh):.ci (oU (.p t)<|.p Z):=by
 let b:sizeOk (.l2 .sR):=.mY ((.sR).toArray.size<=bh)
 let I:.qr .hX hi<=.hX:=Xq _ _ .ao hi;let[F,H,d,a]:=id hs;let e:.kR (.p Z) "slice":=(.g F H d);unfold oU;try with_reducible refine iz ?_
 refine ah<|amR .iW .V ?_;refine ah<|wG .iW zo
  (lC zo .iW amS ?_<|amT _ _);change ao _ _ (SX (.p t)>>=_) _ _ s;calc ah (tupleItemsOf_ B ?_);calc ah (CU e ?_);calc ah (K3 hs C c ?_);let f:¬.sP:=.d
 change .Ab;rw[.x f,Xt];first
  |exact _
  |exact ah<|nJ (ah (aG<|aG (.bZ<|aG h))) b
  |exact ah (.j5 (amU _)<|nJ (aG<|aG (.bZ<|aG h)) b)
  |exact ah (.j5 (amU _)<|nJ (aG (.bZ<|aG h)) b)
end
end HT
namespace L2
abbrev TO:=St->Hp->.ey (.ir->.cF)
def PO(X:Cx)(e:.aR bZ)(t:TO):=
 .qK (.fk->t U H Q->
  .ds (evalPart e .X) λu J=>∃o b,.oQ a b J/\qj u o/\Q o b)
def Xv:TO:=λ_ H Q=>Q none H
def Xw(t:TE):TO:=.br<|t U H (.dD<|∃i,x=.do/\Q (.b i) P)
section
variable{lo hi:.aR bZ}
def Xx:PO X none Xv:=by intro a s U H Q I h;show aG (.I none H I .cy h)
def Xy(h:.m6 b):PO X (.b e) (Xw b):=by intro a s U H Q I c;calc aJ (h a s U H _ I c) λu j #[x,P,O,g,M]=>?_;let[i,rfl,q]:=M;let[t,rfl]:=g;show(.I _ P O (.gy i) q)
def AB(X:Cx)(r:V->.ir->.ir->.cZ):=
 ∀a s (U:St) H x v i k lo hi Z Q,.fk->RelV x v->s.heap.IsSliceOf Z i k .cy->qj i lo->qj k hi->r x lo hi H Q->
  ∃T D,.wn/\.kR v T/\.ds (oU v<|.p Z) (EP X a U Q)
def Xz(r:V->.ir->.ir->.cZ)(t:TE)(tl h:TO):TE:=.br<|t U H (.dD<|tl U P λl n=>h U n λu E=>r x l u E Q)
def DZ(Z:AB X r)(he:.fi)(o:PO X lo tl)(R:PO X hi y):.U (.hL e<|.p0 lo hi p2) (Xz r t tl y):=by intro a s U H Q I h;calc CV (.lM (he a s U H _ I h) ?_);calc wpAny_Slice (aJ (o a j U P _ O M) λi d #[l,n,L,C,B]=>aJ (R a d U n _ L B) λk f #[u,E,A,c,w]=>?_);calc .dC;let[T,D,p,m,S]:=Z a {f with heap:=_} U E x v i k l u .kn Q (A.kept λb z q=>.a1 q) g (apl ..) C c w;show tail_any m p S .bm
def nX(F:.au)(lo hi:.ir):=.vr
def K4 F lo hi:.ae (nX F lo hi) .aE:=by unfold nX;lk
def XB(K:bj):V->.ir->.ir->.cZ:=λx lo hi H Q=>∃a F,x=.T/\c6 K H a F/\
 ¬(.o4 0 lo=0/\.o4 .aE hi=.aE)/\∀p,.bI p->.gQ (.a8 p (.am<|nX F lo hi))
def XC:AB X (XB X.K):=by
 intro d s U H x v i k lo hi Z Q I S e C c h;let[a,F,rfl,D,l,q]:=h;cases S;let[g,r,B,f]:=.hr D;let o:.k5=.aE:=by show r.length.symm
 calc(.cX .f4 zo.lookup .iW ?_);calc HT.Xu B e C c .d ?_ .a;rw[o];calc .vv;show(.q (bC (K4 F lo hi) f) _ (.aC (r.drop _) _)<|TL _ _)
def XD(K:bj):R2:=.jU<|∃a b F k,x=.T/\y=.dn/\c6 K H a F/\c6 K H b k/\F≠[]/\.aE+.js<=bh/\
 (k=[]->Q .T H)/\(k≠[]->∀p,.bI p->.gQ (.a8 p (.am<|F++k)))
def aV.D0(r:.dG F):us=[]↔F=[]:=by
 cases r with
 |nil=>simp
 |cons _ _=>simp
def XF:cX X (mB .Add) (XD X.K):=by intro c s U H x y v u Q I S Z h;let[a,b,F,k,rfl,rfl,J,Y,D,i,M,B]:=h;cases S;cases Z;let[d,g,e,_]:=.hr J;let[f,m,j,_]:=.hr Y;calc HT.Xp e j (.s (D<|g.D0.mp z)) (.s<|.cs .T H I (M<|m.D0.mp z)) .M (by rw[<-g.length,<-m.length];show i);calc(.d6 .dO (.nU (λb l q=>.a1 q) ?_) (B (λw=>z<|m.D0.mpr w) _<|.gA _));show(.q .d _ (g.append m)<|TL _ _)
end
def kT(n:Nat)(i:Int):=.b7 (0<=i) (.f8 (i<n) i.toNat)<|.e9 (-n<=i) (.b (.fl<|i+n)) none
def jb{N:Type}(F:.aS)(i:Int):=(kT .aE i).bind λj=>F[j]?
theorem K5(h:kT n i=.b j):IM i n=.b j/\j<n/\-n<=i/\i<n:=by
 unfold kT at h;by_cases T:0<=i
 .rw[.r T] at h;by_cases B:i<n
  .rw[.r B] at h;grind[we,TM]
  lk
 .rw[.x T] at h;by_cases B:-.dZ<=i
  .rw[.r B] at h;grind[we,TQ]
  lk
def K6{v:N}(h:jb F i=.aO):∃j,IM i .aE=.b j/\F[j]?=.aO/\j<.aE/\-.aE<=i/\i<.aE:=by grind[jb,kT,K5]
def cR{j:Nat}{v:N}(h:F[j]?=.aO):jb F j=.aO:=by grind[aK,kT,jb]
def K7 F(v:N):jb (F++[v]) (-1)=.aO:=by
 let e:kT (.m<|F++[v]) (-1)=.b .aE:=by unfold kT;lk
 unfold jb;lk
def xr(b:bZ):=∀o i,IP b .j o i=operate [o,i] (oU o i)
def D1(X:Cx)(r:R2):=
 ∀V l a s (U:St) H x y v u Q,.fk->RelV x v->.bT y->r x y H Q->
  IP l .j v u=operate [v,u] (oU v u)->.ds (subscriptTail V l v u) (EP X a U Q)
def xt(X:Cx)(D:String)(r:V->.au->.cZ):=
 ∀a s (U:St) H x F v b Q,.fk->RelV x v->aV F b->r x F H Q->
  .ds (.lg D<|v::b) (EP X a U Q)
section
def uJ(e:D1 X r)(J:.U a f)(Y:.U b T)(hs:xr b):.U (.hL a b) (As r f T):=.sD (CV<|DT J Y I h λv u d x y n L S Z q=>e a b c d U n x y v u Q L S Z q (hs _ _))
def XH(K:bj):R2:=.jU<|∃p F i v,x=.aG/\y=.do/\bf K H p F/\jb F i=.aO/\Q v H
def XJ(K:bj):R2:=.jU<|∃p F i v,x=.aG/\y=.do/\c6 K H p F/\jb F i=.aO/\Q v H
def D2:D1 X (XH X.K):=by
 intro V l a s U H x y v u Q I S Z h b;let[p,F,i,z,rfl,rfl,f,k,q]:=h;cases S;let[t,rfl]:=Z;let[g,r,C,n]:=.ev f;let[j,B,M,A,P,K]:=K6 k;let[w,R,W]:=r.get M;let d:=r.length;let m:=Av;let c:EP X a U Q w s:=(.I z H I W q);by_cases T:0<=i
 .let e:i.toNat=j:=by rw[TM T K] at B;lk
  show item_listR C.isList T .a .d c b
 .let e:(.fl<|i+(g.toArray.size:Int))=j:=by rw[TQ .a P] at B;lk
  exact TR (x:=w) C.isList.typeIs amV.lookup
   (wpAny_getItem_list_neg (Q:=λr J=>r=w/\EP X a U Q r J) C.isList .a .d .a .d<|.aY c) b
def D3:D1 X (XJ X.K):=by
 intro V l a s U H x y v u Q I S Z h b;let[p,F,i,z,rfl,rfl,f,e,q]:=h;cases S;let[t,rfl]:=Z;let[g,r,C,k]:=.hr f;let[j,B,M,A,P,K]:=K6 e;let[w,R,W]:=r.get M;let d:=r.length;let m:=Av;let c:EP X a U Q w s:=(.I z H I W q);show TR (x:=w) C.typeIs amW.lookup
  (getItem_tuple (j:=j) (Q:=λr J=>r=w/\EP X a U Q r J) C .a .a .d .d<|.aY c) b
def XM(g:.b1) n j u:kE (.pk j u) (.kI .ck n)=(.kI (.eA<|g.set j u) n):=by simp[kE]
def Inv.lst(I:.ak)(h:H p=.du F):
  ∃g n,aV F g/\.Aq/\.aE<=bh:=by let[z,g,n,r,e]:=I.aL p _ h;lk
def Inv.XN{g pC:.b1}(I:.ak)(h:H p=.du F)
  (l:.Aq) (J:f (.kI .ck n)=(.kI pC.toArray n')) (r:aV k pC) (hz:.js<=bh) t:
  .eS (.ie p k) {s with heap:=.oy p f,toks:=t}:=by
 let e:(.oy p f).get? p=.b (.kI pC.toArray n'):=by rw[uf f l<|by rw[J]<;>rfl,J]
 calc I.write (by rw[h];trivial) .w (λb u Y q=>.aA (wH _ _<|i6 Y) q) (.cz e) ?_;show(.I hz pC n' r e)
def XQ:V->V->V->Hp->.ey .cF:=λo i v H Q=>∃p F k j,o=.aG/\i=.u k/\H p=.du F/\kT .aE k=.b j/\Q (.ie p<|F.set j v)
def set_list:DO X XQ:=by
 intro b s U H o i v f Y u Q I O a m h;let[p,F,k,j,rfl,rfl,R,e,q]:=h;cases O;let[t,rfl]:=a;let[g,n,r,l,x]:=I.lst R;let[B,M,A,P]:=K5 e;let d:=r.length;let w:=Av;let c:.oQ b (.ie p<|F.set j v) (.h3<|.oy p (kE<|.pk j u)):=
  I.XN R l (XM g n j u) (r.set m j) .d .cw;by_cases T:0<=k
 .let L:k.toNat=j:=by rw[TM T P] at B;lk
  show PySem.W.ki_setAt l T .a .d .d
 .let L:(.fl<|k+(g.toArray.size:Int))=j:=by rw[TQ .a A] at B;lk
  show PySem.W.ki_setBack l .a .d .a .d
def XR lo hi n:(CW lo hi none n).1=(HT.b0 n 0 lo)/\(CW lo hi none n).2.1=(HT.b0 n n hi)/\(CW lo hi none n).2.2=1:=by
 refine(.g ?_ ?_ rfl)
 .cases lo with
  |none=>rfl
  |some i=>simp only[CW,HT.b0,if_true];lk
 .cases hi with
  |none=>rfl
  |some i=>simp only[CW,HT.b0,if_true];lk
def XS(g:.b1) lo hi:slicePick .ck lo hi none=(.eA (.aC (g.drop<|HT.b0 .f1 0 lo)<|HT.b0 .f1 .f1 hi-HT.b0 .f1 0 lo)):=by let[B,M,A]:=XR lo hi .k5;unfold slicePick;rw[B,M,A];simp only[sliceRange_one,pick_run]<;>rfl
def XU(K:bj):V->.ir->.ir->.cZ:=λx lo hi H Q=>∃a F,x=.T/\bf K H a F/\∀p,.bI p->.gQ (.ie p<|nX F lo hi)
def K8:AB X (XU X.K):=by intro d s U H x v i k lo hi Z Q I S f C c h;let[a,F,rfl,D,q]:=h;cases S;let[g,r,B,e]:=.ev D;let o:=r.length;calc(.cX .dI amV.lookup B.isList.typeIs ?_);calc wpAny_getItem_list_slice B.isList f C c .cy .f ?_ .d;rw[XS,<-o];calc .vv;show(.cX (bC (K4 F lo hi) e) 0 (.aC (r.drop _) _) .cB)
def jz:V->Bool
 |.non=>true
 |.bl _=>true
 |.int _=>true
 |.str _=>true
 |_=>false
def jZ:V->V->Bool
 |.non,.non=>true
 |.bl a,.bl b=>a==b
 |.bl a,.int b=>(.dq a)==b
 |.int a,.bl b=>a==(.dq b)
 |.int a,.int b=>a==b
 |.str a,.str b=>a==b
 |_,_=>false
theorem XW(Z:.bT y)(S:RelV x v)(p:.n (jz y))(c:.n (jz x)):Ts A s u v (jZ y x):=by
 cases y with
 |non=>
  cases Z;cases x with
  |non=>cases S;show SeqAt.EqAt.same _
  |bl b=>cases S;show SeqAt.EqAt.none_bool b
  |int b=>let[t,rfl]:=S;show SeqAt.EqAt.none_int b t
  |str b=>let[t,rfl]:=S;show SeqAt.EqAt.none_str b t
  |_=>show .aa (c) fQ
 |bl a=>
  cases Z;cases x with
  |non=>cases S;show SeqAt.EqAt.bool_none a
  |bl b=>cases S;show SeqAt.EqAt.bool_bool a b
  |int b=>let[t,rfl]:=S;show SeqAt.EqAt.bool_int a b t
  |str b=>let[t,rfl]:=S;show SeqAt.EqAt.bool_str a b t
  |_=>show .aa (c) fQ
 |int a=>
  let[d,rfl]:=Z;cases x with
  |non=>cases S;show SeqAt.EqAt.int_none a d
  |bl b=>cases S;show SeqAt.EqAt.int_bool a d b
  |int b=>let[t,rfl]:=S;show amO a d b t
  |str b=>let[t,rfl]:=S;show ams a d b t
  |_=>show .aa (show .gN from c) fQ
 |str a=>
  let[d,rfl]:=Z;cases x with
  |non=>cases S;show SeqAt.EqAt.str_none a d
  |bl b=>cases S;show SeqAt.EqAt.str_bool a d b
  |int b=>let[t,rfl]:=S;show amt a d b t
  |str b=>let[t,rfl]:=S;show SeqAt.EqAt.str_str a d b t
  |_=>show .aa (show .gN from c) fQ
 |_=>show .aa (show .gN from p) fQ
def qz(x:V)(u:aw):=match u with
 |.none=>jZ .non x
 |.bool b=>jZ (.bl b) x
 |.int i _=>jZ .do x
 |.str z _=>jZ (.str z) x
 |_=>false
def AD(r:.bT y)(f:.n (jz y)):qz x u=jZ y x:=by
 cases y with
 |non=>cases r;rfl
 |bl b=>cases r;rfl
 |int i=>let[t,rfl]:=r;rfl
 |str z=>let[t,rfl]:=r;rfl
 |_=>show .aa (f) fQ
def xu:∀{F} {us},.dG F->.n (F.all jz)->us.any (qz x)=F.any λy=>jZ y x
 |_,_,.nil,_=>rfl
 |y::F,u::us,.cons r t,f=>by rw[TU,eG] at f;rw[zp,zp,AD r f.1,xu t f.2]
def uK(S:RelV x v)(c:.n (jz x)):∀{F} {us},.dG F->.n (F.all jz)->∀u∈us,Ts A s u v (qz x u)
 |_,_,.nil,_=>λu R=>by cases R
 |y::F,u::us,.cons r t,f=>λw R=>by
  rw[TU,eG] at f;let rfl|||R:=.c6 R
  .rw[AD r f.1];show XW r S f.1 c
  .show uK S c t f.2 w R
def AE(x:V)(F:.au):=F.any λy=>jZ y x
def D4(K:bj)(neg:Bool):R2:=.jU<|∃p F,y=.aG/\(bf K H p F\/c6 K H p F)/\.n (jz x)/\.n (F.all jz)/\.i3 (.A neg (! AE x F)<|AE x F) H
def XX:.id X .In (D4 X.K .j):=by
 intro a s U H x y v u Q I S Z h;let[p,F,rfl,f,c,Y,q]:=h;cases Z;let f|||f:=f
 .let[g,r,C,d]:=.ev f;calc SeqAt.in_listAt _ C.isList (λw b=>uK S c r Y w .d) (.cs (.bl _) H I ?_);rw[.r9,xu r Y];show q
 .let[g,r,C,d]:=.hr f;calc SeqAt.in_tupleAt _ C (λw b=>uK S c r Y w .d) (.cs (.bl _) H I ?_);rw[.r9,xu r Y];show q
def XY:.id X .NotIn (D4 X.K true):=by
 intro a s U H x y v u Q I S Z h;let[p,F,rfl,f,c,Y,q]:=h;cases Z;let f|||f:=f
 .let[g,r,C,d]:=.ev f;calc SeqAt.notIn_listAt _ C.isList (λw b=>uK S c r Y w .d) (.cs (.bl _) H I ?_);rw[.r9,xu r Y];show q
 .let[g,r,C,d]:=.hr f;calc SeqAt.notIn_tupleAt _ C (λw b=>uK S c r Y w .d) (.cs (.bl _) H I ?_);rw[.r9,xu r Y];show q
def XZ:iI X (.fw .dm) .vs:=by
 intro a s U H F c Q I r h;let[p,k,rfl,f,q]:=h;let[u,rfl,S]:=vals1 r;cases S;let t:=Av;let f|||f:=f
 .let[g,D,C,b]:=.ev f;let o:=D.length;show Calls.call_len_list C.isList .d .wq
 .let[g,D,C,b]:=.hr f;let o:=D.length;show len_tuple C .d .wq
def X0:iI X .l1 .uY:=by
 intro i s U H F m Q I r h;let[p,k,rfl,f,q]:=h;let[u,rfl,S]:=vals1 r;cases S;let c:∀(g:_),aV k g->.js<=bh->∀(a:bI) (O:Nat),_->
   a.get? .G=.b (.t8 _ .bH)->EP X i U Q (_) {s with heap:=a}:=λg D d a O y e=>
  (.d6 .dO (.nU y<|show eA .ar X.w _ a _ (.Z k) from(.I d g O D e)) (q _<|.gA _));let f|||f:=f
 .let[g,D,C,d]:=.ev f;let b:=D.length;let[o,j,V,n,N]:=C.isList;show call_list_seq p .w j V N (λa O y e=>c g D d a O y e) .d
 .let[g,D,C,d]:=.hr f;let b:=D.length;let[o,j,V,n,N]:=C;show call_list_seq p .cY j V N (λa O y e=>c g D d a O y e) .d
def X1:iI X .fu .uD:=by
 intro c s U H F j Q I r h;let[p,k,rfl,h]:=h;let[u,rfl,S]:=vals1 r;cases S;let[f,q]|||[f,q]:=h
 .obtain⟨g,D,C,a⟩:=.ev f;let d:=D.length;calc call_tuple_list C.isList (λi y=>?_) .d;let O:=I.kept (t':=.cw) y;let L:=
   O.laid (t':=.cw) (.bQ<|.a1 e) .ao (show eA .ar X.w _ _ _ (.am k) from(.q a g D<|TL _ _));show(.d6 (.p i.objs.size) L<|q _ .pD)
 .let[g,D,C,a]:=.hr f;show call_tuple_same C (.cs .aG H I q)
def D5(K:bj)(T:String)(x:V)(H:Hp):Prop:=match x with
 |.str _=>T="str"
 |.int _=>T="int"
 |.ref p=>(T=.dI/\∃F,bf K H p F)\/(T=.f4/\∃o,.cu p=.v/\o.cls=.fu/\.H o.dict)\/
  (T=.f6/\((∃j,H p=.b .fT)\/∃j,H p=.b (.dT j)))\/(T="set"/\∃S n,H p=.b (.set S n))
 |_=>False
def K9(I:.ak)(r:RelV x v)(Y:D5 X.K T x H):
  .kR v T/\∀a,v=.T->∃ob,.d8 a=.b ob/\.H ob.dict:=by
 cases x with
 |str z=>let[t,rfl]:=r;cases(Y);simp[typeIs_str]
 |int i=>let[t,rfl]:=r;cases(Y);simp[TV]
 |ref p=>
  cases r;rcases Y with⟨rfl,F,f⟩|⟨rfl,o,L,V,N⟩|⟨rfl,L⟩|⟨rfl,S,n,L⟩
  .let[g,_,b,_]:=.ev f;calc(.c b.isList.typeIs λa e=>?_);let[o,n,e,c,N,_]:=b;lk
  .calc(.c (.em (I.iH p o L) V) λa e=>?_);cases e;show(.em (I.iH _ o L) N)
  .have z:∃o,.d8 p=.v/\.oZ:=by
    let[j,L]|||[j,L]:=L
    .let[_,_,_,_,o,_,_,e,G,_]:=I.aL p _ L;lk
    .let[_,_,_,_,o,_,_,e,G,_]:=I.aL p _ L;lk
   let[o,e,G]:=z;calc(.c (.em e G.1) λa C=>?_);cases C;show(.em e G.2.1)
  .let[o,_,_,_,e,G,_]:=I.aL p _ L;calc(.c (.em e G.1) λa C=>?_);cases C;show(.em e G.2.1)
 |_=>show rL Y
def K_(K:bj)(T:String)(r:V->.au->.cZ)(O:TE):TE:=.br<|O U H (.dD<|D5 K T x P/\r x [] P Q)
def AF(K:bj)(T:String)(r:V->.au->.cZ)(O:TE)(t:TA):TE:=.br<|O U H (.dD<|D5 K T x P/\t U P λF n=>r x F n Q)
variable{T id:String}
def X2(p:TX T)(K:Slot T name id)(b:.Aj)(G:xt X id r)(l:.U o e)
  (i:.iu o name=.d1:=by rfl) (a:.m5:=by rfl):.ka name j [] D (K_ X.K T r e):=by intro c s U H Q I h;calc wpAny_Call_method0_late i a (aJ (l c s U H _ I h) λv f #[x,P,O,g,Y,d]=>?_);let[B,M]:=K9 O g Y;show{T,id,p,K,b,B,M,CY rfl (amX<|G c f U P x [] v [] Q O g .nil d)}
def X3(p:TX T)(K:Slot T name id)(b:.Aj)(G:xt X id r)(l:.U o y)(J:PA X (e::es) t)
  (i:.iu o name=.d1:=by rfl)
  (E:.n (.qF D (e::es) (! x.1)&&.qC D .ql
   &&.ai ((.m<|e::es)+.q0+(.e9 .qZ 0 1)) 30):=by rfl)
  (a:.m5:=by rfl) (hs:.gb e=.eF::.ga:=by rfl) (hplain:.t0 D es=.j:=by rfl):
  .ka name j (e::es) D (AF X.K T r y t):=by intro c s U H Q I h;calc wpAny_Call_method_late i E a rfl (aJ (l c s U H _ I h) λv w #[x,P,O,g,Y,f]=>?_);let[k,M]:=K9 O g Y;calc#[T,id,p,K,b,k,M,?_];let A:=J D c w U P _ O f;rw[hs] at A|-;calc CY .d (IQ ?_);show aJ A λu d #[q,n,L,m,B]=>G c d U n x q v u Q L g m B
end
def D6(X:Cx)(id:String)(r:V->.au->.cZ):=
 ∀a s (U:St) H x F v b Q,.fk->RelV x v->aV F b->r x F H Q->
  .ds (.lg id<|v::b) (EP X a U Q)
theorem aV.one:∀{x:V} {us:.b1},.dG [x]->∃u,us=[u]/\.bT x
 |_,_,.cons r .nil=>(.bZ r)
def aV.zero:∀{us},.dG []->us=[]
 |_,.nil=>rfl
def aV.dropLast(h:.dG F):aV F.dropLast us.dropLast:=by
 induction h with
 |nil=>show .nil
 |cons r t E=>
  cases t with
  |nil=>show .nil
  |cons q a=>show .bj r E
def aV.rep(h:.dG F):.aM (aV (.nZ k F)<|.nZ k us)
 |0=>.nil
 |k+1=>by show aV.append h (aV.rep h k)
def aoM(l:.aS):l.eraseIdx (.ax-1)=l.dropLast:=.f
def foldl_rep(g:.b1):∀(k:Nat) (acc:.b1),
  TY (λw b=>w++b) acc.toArray (bL k .ck)=(.eA<|acc++(.nZ k g))
 |0,acc=>.f
 |k+1,acc=>by
  let e:acc.toArray++.ck=(.eA<|acc++g):=.f
  let C:(acc++g)++(.nZ k g)=acc++(.nZ (k+1) g):=.d
  rw[<-C,<-foldl_rep g k _,<-e,TZ,cW]
def Inv.AG{g pC:.b1}(I:.ak)(j:H l=.du F)
  (e:.Ap) (J:f .ck=pC.toArray) (p:aV k pC) (hz:.js<=bh):
  .eS (.ie l k) {s with heap:=.oy l<|kE f,toks:=t'}:=by let q:=PySem.IsL.update e f;rw[J] at q;calc I.write (by rw[j];show trivial) .w (λy u Y R=>.aA (wH .R _<|i6 Y) R) (.cz q) ?_;show(.I hz pC _ p q)
def Inv.K'(I:.ak)(p:aV k g)(hz:.js<=bh):
  .eS (.ie .G k) {s with heap:=.g4 (.nE<|.seq .ck),toks:=t'}:=
 .nU (λ_ _ q=>.a1 q) (.I hz g 0 p .cB)
def Inv.fresh(I:.ak):=.gA _
def Inv.qA(I:.ak)(j:H l=.du F):.aE<=bh/\∃g n,aV F g/\.aE=.f1/\.Ap:=by let[z,g,n,r,e]:=I.aL l _ j;show(.ab z g n r .iU e)
def D7(h:n<=bh):CZ n=.j:=by unfold CZ;lk
def La:V->.au->.cZ:=λx a H Q=>∃l F y,x=.dQ/\a=[y]/\H l=.du F/\.aE<bh/\Q .non (.ie l<|F++[y])
def X4:D6 X "list.append" La:=by intro a s U H x i v f Q I S m h;let[l,b,y,rfl,rfl,j,c,q]:=h;cases S;let[u,rfl,t]:=m.one;let[z,g,n,r,d,e]:=I.qA j;calc wI F.slot_list_append (.cx e) F.entry_list_append (F.args_list_append_2 _ _) (PySem.list_append l .ck n u .d) (.bM e);calc(.d6 .non (I.AG j e .f (r.append<|.bj t .nil) ?_) q);lk
def Lb:V->.au->.cZ:=λx c H Q=>∃l b F a,x=.dQ/\c=[.dn]/\H l=.du F/\H b=.du a/\.aE+.bE<=bh/\Q .non (.ie l<|F++a)
def X5:D6 X "list.extend" Lb:=by
 intro i s U H x A v o Q I S k h;let[l,b,p,w,rfl,rfl,j,a,D,q]:=h;cases S;let[u,rfl,t]:=k.one;cases t;let[z,g,n,r,d,e]:=I.qA j;let[B,f,y,m,G,C]:=I.qA a;let c:.k5+f.toArray.size<=bh:=.d
 let L:¬.e2 (! g.toArray.isEmpty) (CZ<|.k5+f.toArray.size):=by rw[D7 c];simp
 refine wI F.slot_list_extend (.cx e) F.entry_list_extend (F.args_list_extend_2 _ _)
  (AutoSeq1.list_extend_list_list_0 l .ck n b .m9 y L .a .a)<|.cf e C;calc(.d6 .non (I.AG j e .f (r.append m) ?_) q);lk
def Ld:V->.au->.cZ:=λx a H Q=>∃l F y,x=.dQ/\a=[]/\H l=.du F/\F[.aE-1]?=.eO/\Q y (.ie l F.dropLast)
def X6:D6 X "list.pop" Ld:=by
 intro a s U H x k v c Q I S m h;let[l,f,y,rfl,rfl,j,b,q]:=h;cases S;let i:=m.zero;subst i;let[z,g,n,r,d,e]:=I.qA j;let[u,R,t]:=r.get b;let W:.ck[.k5-1]?=.aJ:=.d
 calc wI F.slot_list_pop (.cx e) F.entry_list_pop (F.args_list_pop_1 _) (MeetsSeq.list_pop_last l .ck n u W .d) (.bM e);refine(.cX y (I.AG (pC:=g.dropLast) j e ?_ r.dropLast ?_) t q)
 .simp
 lk
def X7:R2:=.jU<|∃l b F a,x=.dQ/\y=.dn/\H l=.du F/\H b=.du a/\.aE+.bE<=bh/\∀p,.bI p->.gQ (.ie p<|F++a)
def Lf:cX X (mB .Add) X7:=by
 intro c s U H x y v u Q I S Z h;let[l,b,F,i,rfl,rfl,j,a,k,q]:=h;cases S;cases Z;let[z,g,n,r,d,e]:=I.qA j;let[B,f,o,m,G,C]:=I.qA a;calc PySem.P.add_list e C ?_ .d;let J:.ck++.m9=(.eA<|g++f):=.f
 rw[J];show(.d6 (.p _) (I.K' (r.append m) .d)<|q _ I.fresh)
def X8:R2:=.jU<|∃l k F,x=.dQ/\y=.u k/\H l=.du F/\-(2^63)<=k/\k<2^63/\.aE*k.toNat<=bh/\
 ∀p,.bI p->.gQ (.ie p<|.nZ k.toNat F)
def len_rep(F:.aS) k:(bL k F).flatten.length=k*.aE:=.f
def X9:cX X (mB .Mult) X8:=by
 intro i s U H x y v u Q I S Z h;let[l,k,C,rfl,rfl,j,A,M,p,q]:=h;cases S;let[t,rfl]:=Z;let[z,g,n,r,d,e]:=I.qA j;let o:.k5*k.toNat<=bh:=.d
 let c:¬.k5*k.toNat>(2^63-1)/8:=by grind[bh]
 let f:¬.n (! Builtin.List.listFitsIndex k):=by rw[fitsIndex_both A M];simp
 let L:¬.n (CZ<|.k5*k.toNat):=by rw[D7 o];simp
 have N:TY (λw b=>w++b) .bH (bL (.A (.n g.toArray.isEmpty) 0 k.toNat) .ck)=(bL k.toNat g).flatten.toArray:=by
  let B:∀m,TY (λw b=>w++b) .bH (bL m .ck)=(bL m g).flatten.toArray:=.cN (.jP<|foldl_rep g m [])
  rw[B];cases g with
  |nil=>simp
  |cons a D=>rfl
 refine wpAny_binaryOp_repeat_ref .V (.cx e) (λJ=>TV J k t) noFill_list_mul F.fills_int_mul amY repeat_list F.slot_int_index.lookup
  (wI amY (TV s k t) F.entry_int_rmul (F.args_int_rmul_2 _ _) (int___rmul___int_list k t l .ck n)
  <|.dB e (.cx e) (wI F.slot_list_mul (.cx e) F.entry_list_mul (F.args_list_mul_2 _ _) (AutoListH.list___mul___list_int_3 l .ck n k t f c L)<|.bM e));rw[N];show(.d6 (.p _) (I.K' (t':=.cw) (r.rep k.toNat)<|by rw[len_rep,C0];show p)<|q _ I.fresh)
def aV.ints:∀{ns:.S} {us:.b1},.dG .pl->hU us ns
 |[],us,h=>by cases h;show IntsAre.nil
 |n::ns,us,h=>by
  cases h with
  |cons r t=>let[k,rfl]:=r;show IntsAre.cons n k (aV.ints t)
def AH:∀{us:.b1} {ns:.S},hU us ns->.dG .pl
 |_,_,.nil=>by show Paired.nil
 |_,_,.cons n t h=>by show amZ (.a5 t) (AH h)
def aV.Lg:∀{bs:.ij} {us},.dG (bs.map V.bl)->us=bs.map CP
 |[],us,h=>by cases h;rfl
 |b::bs,us,h=>by
  cases h with
  |cons r t=>cases r;rw[aV.Lg t,bx]
def aV.uL(r:.dG [.jD]):us=[fB a]:=by
 cases r with
 |cons r t=>cases t;cases r;rfl
def X_(V:.iI)(d:.pL .ck)(hi:hU g ns)
  (h:∀h' tk t',.tn->Q (.av ns.sum t') .lJ):.ci (.lg "sum" [.dQ]):=by
 let[F,e]:=hi.allInts.items;let t:numsOf (intItems F).toList=ns:=by rw[<-e];show hi.numsOf
 grind[nums_intItems,PySem.sum_intListG,preSum_eq,nL]
def X'(V:.iI)(d:.pL .ck)(hi:hU g ns)(y:0<.fA)
  (h:∀h' tk M t',.tn->M∈ns->(∀a,a∈ns->a<=M)->Q (.av M t') .lJ):.ci (.lg "max" [.dQ]):=by
 let[F,e]:=hi.allInts.items;let f:numsOf (intItems F).toList=ns:=by rw[<-e];show hi.numsOf
 rw[nums_intItems] at f;subst f;rw[e] at d;let c:0<F.size:=.d
 calc PySem.max_intList V d c λv h' tk p L=>?_;let[t,rfl]:=intItems_at p;let[B,i]:=argBest_gt (numAt F) (F.size-1);refine h h' tk _ t L ?_ λa J=>?_
 .grind [numAt_eq,PySem.getD_mem,aj,zq]
 .let[j,I,rfl]:=mem_getD J;rw[aj,zq] at I;rw[<-numAt_eq];lk
def Lh(K:bj):.au->.cZ:=.rB .S<|c=[.jD]/\bf K H a (b.map V.int)/\Q (.u b.sum) H
def Li(K:bj):.au->.cZ:=.rB .S<|c=[.jD]/\bf K H a (b.map V.int)/\0<.cU/\∀m,m∈b->(∀y,y∈b->y<=m)->Q (.u m) H
def Ya(V:.bP):iI X (.fw "sum") (Lh X.K):=by intro b s U H i j Q I r h;let[a,l,rfl,c,q]:=h;let[g,m,d,_]:=.ev c;rw[aV.uL r];show X_ .iQ d.isList m.ints λf e k L=>(.I (.u _) H (I.kept L) (.a5 _) q)
def Yb(V:.bP):iI X (.fw "max") (Li X.K):=by intro b s U H i j Q I r h;let[a,l,rfl,c,y,q]:=h;let[g,e,d,_]:=.ev c;rw[aV.uL r];show X' .iQ d.isList e.ints y λn f m k L B M=>(.I (.u _) H (I.kept L) (.a5 _)<|q m B M)
def Yc(K:bj):V->.au->.cZ:=λx F H Q=>∃a k y j z,x=.jD/\F=[y]/\bf K H a k/\.n (jz y)/\.n (k.all jz)/\k[j]?=.b z/\.n (jZ z y)/\
 (∀m D,m<j->k[m]?=.b D->jZ D y=.j)/\Q (.u (j:Nat)) H
def Lj{k:.au}(f:.n (k.all jz)){j:Nat}(h:k[j]?=.b z):.n (jz z):=.d
def Yd:xt X "list.index" (Yc X.K):=by
 intro pins s U H x F v us Q I S E h;let[a,k,y,j,z,rfl,rfl,hs,p,Y,hz,B,f,q]:=h;cases S;cases E with
 |cons ry b=>
  rename_i O ut;cases b;let[g,C,[[cls,D,c,Z],n,l,V,J,N],o]:=.ev hs;simp only at V N;subst V N;let[u,R,t]:=C.get hz;let[hjl,hje]:=.bd R;let P:=C.length;let hj:j<.k5:=.a
  have e:=oV;refine wI am0 (.cx l) PySem.F.entry_list_index (PySem.F.args_list_index_2 _ _)
   (SeqAt.list_indexAt a .ck n D Z O (qz y) j hj .a ?_ ?_)<|.cf l λw d=>uK ry p C Y w .d
  .let L:.ck[j]=u:=.d
   rw[L,AD t<|Lj Y hz];show B
  .intro m G hmj;let M:m<.f1:=.a
   let A:m<.js:=.a
   let W:k[m]?=.b (k[m]):=cf A;let[K,i,r]:=C.get W;let[_,hme]:=.bd i;let L:.ck[m]=K:=.d
   rw[L,AD r<|Lj Y W];lk
  .show(.I (.u (j:Nat)) H .if (.a5 _) q)
def Ye(d:.pL items)
  (h:∀S:bO,S=(.h3 .v1)->
   (S.heap.IsListIter .G l 0/\S.heap.IsList l items)->l≠.G->Q .dO S):.ci (rN .dQ):=by show IG d (h _ rfl (.c (.fG _ .cB)<|d.push _) (cY<|by let[_,e,_]:=d;show bK e))
def Yf{bs:.ij}{g}(e:g=bs.map CP):
  TruthOf prog w A (λi v=>.ck[i]?=.aO) (λi=>.jm i):=λi v s Q E p f=>by
 let n:g[i]?=.aO:=.d
 rw[e,bG] at n;let[b,Y,rfl]:=lG.mp n;grind[ky]
theorem any_range:∀bs:.ij,(aq bs.length).any (λi=>.jm i)=bs.any id
 |[]=>rfl
 |b::bs=>by rw[dS,IS,zp,rO,zp,<-any_range bs];rfl
def Lk(K:bj):.au->.cZ:=.rB .ij<|c=[.jD]/\bf K H a (b.map V.bl)/\.i3 (b.any id) H
def Yg(V:.bP):iI X (.fw "any") (Lk X.K):=by
 intro e s U H k p Q I r h;let[a,l,rfl,i,q]:=h;let[g,m,d,_]:=.ev i;rw[aV.uL r];let Y:=m.Lg;calc call_any_walk (Ye d.isList λS C Z y=>?_);subst C;calc{_,_,_,_,_,_,_,rfl,IT (A:=X.A.in1) .iQ _ a y .ck,Z,Yf Y,λj n f=>?_};refine(.I (.bl _) H (I.kept λb o c=>f b o (λM=>?_) (.a1 c)) ?_ q)
 .let L|||M:=.c6 M
  .show .aa (L▸bK c) (rK _)
  lk
 .change CP _=CP _;grind[any_range,am1,aj]
abbrev Ll(h:bI)(c:af)(v:.aR aw):=h.IsCell c v
def Yh(F t:jT):jT:=
 {F with names:=F.names.map λ(n,k)=>if(k==.free&&t.kind==.ll&&.mN n==.iN) then(n,.cell) else(n,k)}
def fZ(cells:.dM af):.dM ug->.dM af->.dM af
 |[],a=>a
 |(n,k)::r,a=>.A (k==.free) (fZ cells r<|(n,(cells.lookup n).getD 0)::a)<|fZ cells r a
def Lm b f
  (J:∀n k c,f (n,k) c=.b7 (k==.free) (do let a<-cellOf b n;.aL (.yield<|(n,a)::c)) (.aL<|.yield c)):
  ∀names acc,(∀y∈names,y.2=.free->∃c,b.cells.lookup y.1=.cA)->forIn names acc f=.aL (fZ b.cells names acc)
 |[],acc,_=>.bm
 |(n,k)::r,acc,h=>by
  rw[am2,J];let E:=λacc=>Lm b f J r acc (.d2 (h y<|gR _ T));unfold fZ;by_cases L:.fc k IU
  .rw[.r L,.r L];grind[y_,cellOf,pure]
  lk
def D8(h:∀y∈F.names,y.2=.free->∃c,f.cells.lookup y.1=.cA):C3 F f=.aL (fZ f.cells .he []):=by simp only[C3];rw[Lm f _ (λn k c=>rfl) .he [] h];rfl
def mem_lookup:∀{l:.y _} {n:Str} {c:N},(n,c)∈l->∃O,l.lookup n=.b O
 |(k,v)::r,n,c,h=>by
  rw[C4];cases Y:n==k with
  |true=>simp
  |false=>
   let e|||h:=.c6 h
   .lk
   .show mem_lookup h
def AI:∀{names:.dM ug} {acc:.dM af} {n:Str} {c:af},(n,c)∈fZ cells names acc->(n,c)∈acc\/((n,.free)∈names/\c=(cells.lookup n).getD 0)
 |[],_,_,_,h=>.ex
 |(m,k)::r,acc,n,c,h=>by
  unfold fZ at h;split at h
  .let h|||[B,M]:=AI h
   .lk
   lk
  .let h|||[B,M]:=AI h
   .lk
   lk
theorem D9:∀{names:.dM ug} {acc:.dM af} {p:Str×af},p∈acc->p∈fZ cells names acc
 |[],_,_,h=>h
 |(m,k)::r,acc,p,h=>by
  unfold fZ;split
  .show D9 (gR _ h)
  .show D9 h
def D_:∀{names} {acc} {n},(n,.free)∈names->(n,(cells.lookup n).getD 0)∈fZ cells names acc
 |(m,k)::r,acc,n,h=>by
  unfold fZ;let e|||h:=.c6 h
  .grind [D9]
  .split
   .show D_ h
   .show D_ h
def xw:∀{names:.dM ug} {h:bI} {acc:.dM af} {x:Str} {c:af},(x,c)∈gY .h9 names acc->
  (x,c)∈acc\/((x,.cell)∈names/\.h9<=c/\Ll (uh h names) c none)
 |[],_,_,_,_,h=>.ex
 |(n,k)::r,h,acc,x,c,G=>by
  unfold gY at G;unfold uh;split at G
  .rename_i L;rw[.r L];let L:k=.cell:=.d
   rw[<-iA h (.gZ "cell"<|.cell none)] at G;let G|||[B,M,A]:=xw G
   .let e|||G:=.c6 G
    .cases e;show .F (.I (L▸y_) .ao _ (IV r _ _ _ .cB) rfl)
    lk
   .rw[iA] at M;lk
  .rename_i L;rw[.x L];let G|||[B,M,A]:=xw G
   .lk
   lk
theorem AJ:∀{names:.dM ug} {n:Nat} {acc:.dM af} {p:Str×af},p∈acc->p∈gY n names acc
 |[],_,_,_,h=>h
 |(m,k)::r,n,acc,p,h=>by
  unfold gY;split
  .show AJ (gR _ h)
  .show AJ h
def D':∀{names:.dM ug} {n:Nat} {acc:.dM af} {x:Str},(x,.cell)∈names->∃c,(x,c)∈gY n names acc
 |(m,k)::r,n,acc,x,h=>by
  unfold gY;let e|||h:=.c6 h
  .grind [AJ]
  .split
   .show D' h
   .show D' h
def Ea:∀{names:.dM ug} {h:bI} {acc:.dM af} {x y:Str} {c:af},(∀p∈acc,p.2<.h9)->(∀x y c,(x,c)∈acc->(y,c)∈acc->x=y)->
  (x,c)∈gY .h9 names acc->(y,c)∈gY .h9 names acc->x=y
 |[],_,_,_,_,_,_,e,B,M=>e _ _ _ B M
 |(n,k)::r,h,acc,x,y,c,d,e,B,M=>by
  unfold gY at B M;split at B
  .rename_i L;rw[.r L] at M;rw[<-iA h (.gZ "cell"<|.cell none)] at B M;refine Ea .hR (λx y c a b=>?_) B M
   .rw[iA];lk
   lk
  .rename_i L;rw[.x L] at M;show Ea d e B M
def Yi{C}
  (h:Q (C5 F .G e (gY (.G+1) .he d) D f C (.b a) b)
   (.h3 .r8)):
  ao M A (newFunctionEnv F e d [] D f C (.b a) b) Q E s:=by simp only[newFunctionEnv,am3,if_true];calc ah (wpAny_alloc ?_);calc ah (wpAny_layCells _ (λn k c=>rfl) .he d _ _ ?_);rw[iA ..];show ah (aG<|aG h)
def Eb{t:jT}:∀{names:.dM ug} {x} {k},
  (names.map λ(n,k)=>if(k==IU&&t.kind==.ll&&.mN n==.iN) then(n,am4) else(n,k)).lookup x=.fg->
  ∃k',names.lookup x=.b k'/\(k=k'\/(k'=.free/\k=.cell))
 |[],_,_,h=>.fv
 |(n,a)::r,x,k,h=>by let E:=@Eb t r x k;lk
structure nY(N:.a7)(sc scope:jT)(own:.jd Str):Prop where
 kind:scope.kind=.ll
 uniq:∀y∈scope.names,scope.names.lookup y.1=.b y.2
 ix:∀p∈own,N[p.2]?=.b p.1
 free:∀y∈scope.names,y.2=.free->sc.names.lookup y.1=.iN\/sc.names.lookup y.1=.n1
 own:∀y∈scope.names,y.2=.local\/y.2=.cell->y.1∈own.map .fr\/y.1∉N
def wipe(U:St):.h->St
 |[]=>U
 |v::a=>(wipe U a).set v none
def AK U:∀vs,(.m<|.km U)=U.length
 |[]=>rfl
 |v::vs=>by unfold wipe;rw[IW,AK U vs]
def Ec:∀{vs},(.km U)[i]?=.b .bt->U[i]?=.b .bt/\i∉vs
 |[],h=>(.c h .f)
 |v::vs,h=>by
  unfold wipe at h;by_cases a:v=i
  .lk
  .rw[ID a] at h;let[B,M]:=Ec h;lk
abbrev Cx.fw(X:Cx)(s:bO)(H:Hp)(F:jT)(c:Env)(a:.bL):Cx:={X with iG:=s,qw:=H,env:=c,outer:=X.stack,ex:=a,fn:=.ah<|.iE x==.iN,pn:=[],xe:=.hE}
def Yj{F}{l:.jd Str}{fp:.bL}(I:.hZ σ H s)(Q:nY X.N .hY F l)(hN:X.N.Nodup)(h:∀b∈fp,lP X pins H b/\b<.G):
  Inv (.gw s H (jt F .tv .G .X) fp) [] (wipe σ (.bA .jj)) H (.h3 .r8):=by
 have g:∀y∈F.names,y.2=.free->∃c,.g3 y.1=.cA:=λy T e=>by
  let k|||k:=Q.free y T e
  .show I.ok.has _ (.z k)
  .show I.ok.has _ (.F k)
 generalize xx:jt F .tv .G .X=E;let kp:.a3 (.eM=.v) ((.r8).get? b=.v):=.bQ (IV _ _ _ _<|.a1 e);let W:E.locals=.G:=by rw[<-xx];rfl
 let D:E.cells=.tv:=by rw[<-xx];rfl
 let v:E.scope=Yh F .hY:=by rw[<-xx];rfl
 rw[<-iA .R<|.gZ .f6 .oJ] at D;let J:∀{y c},(y,c)∈.re .he []->.g3 y=.cA/\c<.G:=λ{y c} G=>by
  let G|||[B,rfl]:=AI G
  .cases G
  .let[c,V]:=g _ B rfl;rw[V];let[w,z]:=I.cell _ _ V;show(.aY z.lt)
 have u:∀{y c},.mF=.cA->(.g3 y=.cA/\c<.G)\/(.G+1<=c/\Ll .r8 c none):=λ{y c} e=>by
  rw[D] at e;let G|||[_,M,A]:=xw (kD e)
  .show .z (J G)
  .rw[iA] at M;show .F (.c M A)
 have K:∀{y},.iE y=.n1->∃c,.mF=.cA/\.g3 y=.cA:=λ{y} d=>by
  let T:(y,IU)∈.he:=kD d;let[O,j]:=mem_lookup (AJ (names:=.he) (n:=.Ai)<|D_ (cells:=X.env.cells) (acc:=[]) T);rw[<-D] at j;calc(.cf O j);rw[D] at j;let G|||[B,_,_]:=xw (kD j)
  .show(J G).1
  .have:=Q.uniq _ B;rw[d] at this;cases this
 have Z:(.gw s H E fp).Ok:=by
  refine{I.ok.mod,by change E.scope.kind=_;rw[v];show Q.kind,by change E.globals=_;rw[<-xx];show I.ok.glob,by change E.builtins=_;rw[<-xx];show I.ok.blt,by change .G<=E.locals;rw[W];show .ao,
   λy z c L C=>?_,.d2 ?_,λy c z e=>?_,I.ok.hd,I.ok.frames,.w,.a4<|.c ?_ λy c e z=>?_,I.bs,bC I.ok.nQ I.sz,λb o e Y=>?_,λb Y z=>?_,I.stack,I.J9,I.tab}
  .let L:.mF=.cA:=L;let C:E.cells.lookup z=.cA:=C;rw[D] at L C;calc Ea .hR (λy z c a b=>I.ok.inj y z c (J a).1 (J b).1) (kD L) (kD C);rw[iA];show IX (J (y:=p.1) (c:=p.2) R).2
  .change∃c,.mF=.cA;let key:.aM (E.kindOf y=.fg->(k=.cell\/k=.free)->∃c,.mF=.cA):=λk hk N=>by
    unfold Env.kindOf at hk;rw[v] at hk;let[k',e,r]:=Eb hk;have:k'=.cell\/k'=.free:=by
     let rfl|||[rfl,_]:=r
     .show N
     .show .cY
    let rfl|||rfl:=this
    .let[c,G]:=D' (n:=.Ai) (acc:=.re .he []) (kD e);let[O,j]:=mem_lookup G;show(.c O<|by rw[D];show j)
    .let[c,B,_]:=K e;show(.c c B)
   let T|||T:=T
   .show key _ T .w
   .show key _ T .cY
  .let z:.fc (.iE y) (.b am4):=z;let z:.iE y=.iN:=.pC
   let e:.mF=.cA:=e;rw[D] at e;let G|||[_,M,_]:=xw (kD e)
   .let G|||[B,_]:=AI G
    .cases G
    .let q:=Q.uniq _ B;rw[z] at q;cases q
   .rw[iA] at M;show T1 M
  .change b≠E.locals;rw[W];show cY (h b Y).2
  .let e:.mF=.cA:=e;let[B,_]|||[B,_]:=u e
   .show(h b Y).1.2.2.2.2.1 y c B z
   .let M:.G+1<=b:=by rw[<-z];show B
    show .aa (fO (h b Y).2<|T1 M) (rK _)
  .let z|||z:=(h b Y).1.2.2.2.1
   .show I.ok.xg b o e z
   .show .aa (.qD e<|bC I.ok.nQ z) (rK _)
  .let z|||z:=.c6 (I.DI b z)
   .show(h b Y).1.2.1 z
   .show(h b Y).1.2.2.1 z
 refine{Z,rfl,.ix,Un.kept kp,(.g (λ_=>none) ?_ λi y av L C f=>?_),λy c e=>?_,?_,λy c e=>?_,.hR,I.aL.kept kp,by rw[AK];show I.len}
 .change Heap.Ns _ E.locals _;rw[W];show Heap.Ns.keeps (Heap.Ns.new ..) (.bQ<|IV _ _ _ _ e)
 .obtain⟨C,Ed⟩:=Ec C;let x:.wp:=by
   have key:.aM (E.scope.names.lookup y=.fg->k=.local\/k=.cell\/k=.free->.wp):=λk hk N=>by
    have P:=hk;rw[v] at hk;let[k',e,r]:=Eb hk;let S:¬(k'=.local\/k'=.cell):=λhh=>by
     let j|||j:=Q.own _ (kD e) hh
     .let[p,R,Yk]:=.Y j;let f:=Q.ix p R;have:p.1=y:=Yk;rw[this] at f;show Ed (.pf p R<|DJ hN f L)
     .show j (bb L)
    let rfl|||[rfl,rfl]:=r
    .rcases N with rfl|rfl|rfl
     .show .aa .w S
     .lk
     .show(.c e<|.F P)
    .show(.c e<|.z P)
   let f:uA E.scope y:=f;rcases f with f|f|f
   .show key _ f .w
   .show key _ f (.F .w)
   .show key _ f (.F .cY)
  let[m,t,d]:=I.loc;let U:uA .hY y:=(Q.free _ (kD x.1) rfl).elim (.aU (.F<|.z k)) (.aU (.F<|.F k));let[w,r,q]:=d i y av L C U;calc(.g w r (.F<|.bM x.2));let[c,B,M]:=K x.1;let[k,_]|||[_,O,j,z]:=q
  .let k:.d7 y=.cP:=k;let k'|||k':=Q.free _ (kD x.1) rfl<;>rw[show .d7 y=_ from k'] at k<;>cases k
  .rw[M] at j;cases j;show(.g c B<|z.keeps kp)
 .let e:.mF=.cA:=e;let[B,_]|||[_,z]:=u e
  .let[w,z]:=I.cell y c B;show(.c w<|z.keeps kp)
  lk
 .change .bI E.locals;rw[W];show .gA _
 .let e:.mF=.cA:=e;let[B,_]|||[B,_]:=u e
  .show I.jY y c B
  .show .nb (T1 B)
 .show .xq
def Yl{v}(I:.ak)(i:H D=.du F)(hz:.aE<bh)(r:RelV y v)
  (h:∀J,.eS (.ie D<|F++[y]) J->Q .cy J):.g5 X.A (.lg "list.append" [.p D,v]) Q E s:=by let[L,g,n,a,e]:=I.aL D _ i;let d:=a.length;calc append_at (hsz:=.d) e λc M t=>?_;calc h {s with heap:=c} (I.write (by rw[i];trivial) .w (λb u Y q=>.hg b Y q) (.cz t)<|.I .d (g++[v]) (n+1) (a.append<|.bj r .nil) ?_);lk
def pD(X:Cx)(E:.y bZ)(t:TT):=
 .qK (.fk->t U H Q->
  .ds (forIn E true λc r=>if .n r then do let b<-zc c .X (.fn c);.aL (IY b) else .aL (IY r)) (TP X a U Q))
def Ym:TT:=λ_ H Q=>Q true H
def Yn:pD X [] Ym:=.qO (wpAny_tests_nil<|.g H I h)
def Yo(h:PT X c t):pD X [c] t:=λa s U H Q I b=>wpAny_tests_one<|h a s U H Q I b
def uM(h:ao M A t Q .hE s)(c:∀a s,Q a s->f a s):ao M A t f E s:=i7 h c λ_ _ z=>rL z
def Yp{s}{t T u}{F}{pos}{C acc}{f}(I:.bn .ou)
  (K: ∀n s,I n s->.ov (nG C) (λr g=>match r with
   |none=>R (.ok .next) g
   |some v=>.ov (Ta T C v) (λ_ d=>.ov (rM T f v) (λ_ S=>
    .ov (forIn E true λc r=>if .n r then do let Q<-zc c f (az c f);.aL (IY Q) else .aL (IY r)) (λQ a=>
     if .n Q then .ov (az t f) (λx i=>
      .ov (.lg "list.append" [acc,x]) (λ_ j=>∃m,m<n/\I m j) .p8 i) .p8 a
     else∃m,m<n/\I m a) .p8 S) .p8 d) .p8 g) .p8 s)
  n (h:I n s):
  qg (.mA w) A (.compLoop (.iG t [(.q T u E 0)] F) 0 C acc f) R s:=by
 calc codeAny_loop rfl I (λn s U=>?_) n h;calc wpAny_noted ?_;rw[compTurn_list];calc ah (S_ (ah<|.p3 (K n s U) λr g H=>?_));cases r with
 |none=>show aG H
 |some v=>
  calc ah (.p3 H λ_ d k=>?_);calc ah (.p3 k (λ_ S b=>ah<|.p3 b λQ a q=>?_));cases Q with
  |false=>show aG (.aY q)
  |true=>show ah (ah<|.p3 q (λx i o=>ah<|.p3 o λ_ j l=>aG (aG<|.aY l)))
def xy(wi:TI)(g:TG)(M:TT)(t:TE)(vs:.h):TE:=.br<|wi U H λJ P=>∀D,.H (P D)->∃W:.dv .cF,(∃m,W 0 m (upd P D .iy))/\∀i m H,W i m H->
 (J.stop i H/\.eY D H)\/(J.go i H/\∃N:.cF,(∀c,N c->∃p,p<m/\W (i+1) p c)/\∀x c,J.qy i H x c->g x (.km U) c λR n=>.km R=.km U/\M R n λb E=>
  .A (.n b) (t R E λy q=>∃a,q D=.du a/\.bE<bh/\N (upd q D<|.eK a [y])) (N E))
theorem Ln
  (hc:.bP) (hN:X.N.Nodup) (I:.ak) (hi:PI X tg P wi) (ok:nY X.N .hY F own)
  (S:.ot af .bL (PG (.gw s H (jt F cl C .X) a) tg g)) (B:.ot af .bL (pD (.gw s H (jt F cl C .X) a) ifs tt))
  (he:.ot af .bL (PE (.gw s H (jt F cl C .X) a) elt te)) (hs:∀x,nH P .X x=.aL x)
  (h:xy wi g tt te (own.map .jj) U H Q)
  (Yq:∀D C s' m H',.eS H' s'->.eY D H'->s'.heap.Ns C m->lP X pins H' C->compPost .kW X.A X.xe use Qf (.p D) C (.ok .next) s'):
  .ds (comprehension .tQ F .X pos' (IZ []) .j (.fn P) use) Qf:=by
 have Yr:∀y∈F.names,y.2=.free->∃c,.g3 y.1=_:=λy hy e=>by
  let k|||k:=ok.free y hy e
  .show I.ok.has _ (.z k)
  .show I.ok.has _ (.F k)
 refine wpAny_comprehension_free (use:=use) rfl hs (D8 Yr) ok.kind (λy hy e=>by rw[ok.uniq y hy,e])
 <|aJ (hi pins s U H _ I h) λxv s1 hx=>aJ hx λWy d M=>?_;let[it,a,tn,J,H2,e,I2,T,Aq,f2,q]:=M;subst e;calc nJ (Yi ?_) (.pE 0 bh);generalize hD:d.heap.objs.size=D;let[W,[m0,w0],K]:=q D (I2.aL.fresh<|CS hD);generalize Lo:({d with heap:=.zh}:bO)=f;let A:.eS (upd H2 D .iy) f:=by rw[<-Lo];calc I2.laid (t':=d.toks) (.bQ<|.a1 e) (CS hD) (.I (eY _) [] 0 .nil ?_);rw[<-hD];show .cB
 let h3:f.heap=.zh:=by rw[<-Lo]
 let sz:∀b∈a,b<d.heap.objs.size:=.a4 (by let[o,e,_]:=T.obj _ _ Aq b Y;show bK e)
 let L:∀b∈a,lP X pins (upd H2 D .iy) b/\b<.kn:=.a4 (by let jc:=sz b Y;calc(.c (.c ?_ (f2 b Y).2)<|by rw[h3,iA];show IX jc);rw[aY .d];show(f2 b Y).1)
 let Ar:tn 0 f.heap:=T.keep _ _ _ Aq λb _ o e=>by rw[h3];show .a1 e
 let I4:=Yj A ok hN L;let pg:=S f (upd H2 D .iy) .kn .q7 a;let V:=B f (upd H2 D .iy) .kn .q7 a;let pe:=he f (upd H2 D .iy) .kn .q7 a;change qg _ _ (.compStart .tQ 0 (.p it) (.p D)<|jt F .q7 .kn .X) .xp .vu;let Lp:∀b∈a,.H ((upd H2 D .iy) b):=.a4 (L b Y).1.1;generalize Ys:jt F .q7 .kn .X=ce at I4 pg V pe|-;let cL:ce.locals=.kn:=by subst Ys;rfl
 generalize hH3:upd H2 D .iy=E at A I4 pg V pe w0 Lp L;generalize Yt:(.vu:bO)=s4 at I4|-;let Lq:tn 0 s4.heap:=T.keep _ _ _ Ar λb _ o e=>by rw[<-Yt];show IV _ _ _ _ (.a1 e)
 have Ee:∀{σ':St} {H':Hp} {s':bO},Inv (.gw f E ce a) [] σ' H' s'->(.pS<|H' b)->∀b∈a,lP (.gw f E ce a) [] H' b:=λI' t b Y=>
  (.ab (t b Y) (I'.ok.Af b Y).1 (I'.ok.xh b Y) (.z Y) (λx c e=>(I'.ok.Af b Y).2 x c e)<|.dz .xq);let l:qg .kW X.A (.compLoop .tQ 0 (.p it) (.p D) ce) .xp s4:=by
  calc Yp (λn s'=>∃i H',.wo/\tn i s'.heap/\(.pS<|H' b)/\W i n H') ?_ m0 (.ab 0 E I4 Lq Lp w0);intro n s5 [i,H5,I5,uH,n5,w5];let[stop,qq]|||[go,N,Yu,w]:=K i n H5 w5
  .calc uM (T.done (.gw f E ce a) rfl rfl rfl hc i [] s5 _ H5 .hE I5 (Ee I5 n5) uH stop) λr s6 #[Z,I6]=>?_;subst Z;let nC:.H (H5 .kn):=by let z:.H (H5 ce.locals):=I6.free;rw[cL] at z;show z
   let[m,t,_]:=I6.loc;let t:s6.heap.Ns ce.locals m:=t;rw[cL] at t;show Yq D .kn s6 m H5 (A.Vz (ch:=a) I6.os I6.base I6.aL I6.bare (.a4<|.q (L b Y).1.2.2.2.1 (L b Y).1.2.1 (L b Y).1.2.2.2.2.1 (L b Y).1.2.2.2.2.2)) qq t (A.sj .ao nC)
  .refine uM (T.item (.gw f E ce a) rfl rfl rfl hc i [] s5 _ H5 .hE I5 (Ee I5 n5) uH go) λr s6 #[u,Z,h6]=>?_;subst Z;calc uM h6 λ_ s7 #[x,H7,O,r7,y7,Ef,n7]=>?_;calc uM (pg _ s7 _ H7 x u _ (O.pinned (Ee O n7)<|T.obj _ _ Ef) r7<|w x H7 y7) λ_ s8 #[σ8,H8,I8,Lr,q8]=>?_;calc uM (V _ s8 σ8 H8 _ I8 q8) λb s9 #[H9,I9,q9]=>?_;let fin:∀{s':bO} {H':Hp},Inv (.gw f E ce a) ([]++An a s7.heap) σ8 H' s'->N H'->∃m,m<n/\∃i H',.wo/\tn i s'.heap/\(.pS<|H' b)/\W i m H':=λ{s' H'} I' nx=>by
    obtain⟨m',G,w'⟩:=Yu H' nx;let Ls:∀b∈a,∀o,s7.heap.get? b=.v->s'.heap.get? b=.v/\.H (H' b):=λb Y o e=>
     let z:=I'.pin (b,o) (gT _ (gT _<|DR Y e))
     (.c z.1 z.2.1);refine{m',G,i+1,H',(I'.Ao (pins:=[])).weak (by rw[<-Lr,AK]) λj v e=>?_,T.keep _ _ _ Ef λb Y o e=>(Ls b Y o e).1,.a4 ?_,w'}
    .rw[<-Lr] at e;show(Ec e).1
    .let[o,e,_]:=T.obj _ _ Ef b Y;show(Ls b Y o e).2
   cases b with
   |false=>simp only[wg,if_false] at q9|-;show fin I9 q9
   |true=>simp only[if_true] at q9|-;calc uM (pe _ s9 σ8 H9 _ I9 q9) λz s10 #[yv,H10,Yv,Yw,acc,Yx,Yy,nx]=>?_;show Yl (X:=.gw f E ce a) Yv Yx Yy Yw λs11 Yz=>fin Yz nx
 show codeAny_compStart_list l (T.self X.A 0 _ _ _ Lq l)
def Eh(V:.bP)(k:X.N.Nodup)(hi:PI X c i wi)(G:nY X.N .hY F l)
  (S:.wg) (w:.wf)
  (he:.ot af .bL (PE (.gw s H (jt F cl C .X) a) d t)) (hs:∀x,nH i .X x=.aL x:=by intro _;rfl):
  .U (.iG d [(.q c i E 0)] F) (xy wi g M t (.bA .jj)):=by intro j s U H Q I h;calc Ln V k I hi G S w he hs h λD C J m p y q v f=>(.g m v λr A=>?_);let[B,z,n,L,O,u]:=f;show(.cs (.p D) p (y.turned (.ld<|.aA (A.2 b Y) e) B z L O u) q)
def YA{i}{y}{R}{G c j}{E:.y bZ}{F}{l:.jd Str}{pos k:Pos}{wi}{g}{M}{t}(Z:.bP)(W:X.N.Nodup)(T:.d5 i=.eO)(p:.d7 y=.cP)
  (u:lE (.iG G [(.q c j E 0)] F) (.b<|.bz y R) k.line .X=.aL true) (hi:PI X c j wi) (Q:nY X.N .hY F l)
  (S:∀s H C (cl:.dM af) (K:.bL),PG (.gw s H (jt F cl C .X) K) c g) (ht:∀s H C (cl:.dM af) (K:.bL),pD (.gw s H (jt F cl C .X) K) E M)
  (he:∀s H C (cl:.dM af) (K:.bL),PE (.gw s H (jt F cl C .X) K) G t) (hs:∀x,nH j .X x=.aL x:=by intro _;rfl):
  PS X (.Assign [.bz y R] (.iG G [(.q c j E 0)] F) k) .yb:=by
 intro N s U H D I h;rw[exec_Assign_Name_used _ _ _ _ u];calc ah (S_ .fW);change ao _ X.A (do let _<-comprehension (.iG G [(.q c j E 0)] F) F .X (firstIterPos [(.q c j E 0)] pos) (IZ []) .j (.fn j) (.b<|rM (.bz y R) .X)) _ _ s;let h:xy wi g M t (.bA .jj) U H (.dD<|nW i x U P D.nx):=h;calc ah (aJ (Ln (Qf:=λ_ J=>SP X N D .next J) Z W I hi Q S ht he hs h λL C J m H' I' q hn f=>?_) λ_ J hq=>aG (aG hq));change ao _ _ (rM (.bz y R) .X<|.p L) _ _ _;calc amG (Ka (v:=V.ref L) I' W T (.z p) rfl (λd I2 #[a,sb,ha]=>?_)<|.F p);let[B,z,n,f3,O,f5]:=f;let w:C≠a:=.d
 calc(.g m (hn.sameBut sb w) λA r=>?_);show(.en H' (I2.turned (t':=d.toks) (.ld<|.aA (r.2 b Y) e) B z f3 O f5) q)
def Ei(L:f.scope.kind=.ll)(T:f.scope.names.lookup y=.cP)(d:.fc a.line .mi)
  (J:(F.names.any λ(n,k)=>n==y&&(k==.local||k==.cell))=.j):lE (.iG e g F) (.b<|.bz y a) l f=.aL true:=by let K:f.kindOf y=_:=T;grind[Env.blockKind,lE,Expr.pos]
def Lu(N:.a7)(t F:jT)(l:.jd Str):=
 (match F.kind with|.function=>true|_=>false)&&(F.names.all λy=>.aj (.iE y.1) (.b y.2))&&(l.all (.as (.aj (N[p.2]?)<|.b p.1)))&&
  (F.names.all λy=>match y.2 with
   |.free=>(match .mN y.1 with|some .cell=>true|some .free=>true|_=>false)
   |.local=>.xo
   |.cell=>.xo
   |_=>true)
def cp(h:.n (Lu N t F l)):nY N t F l:=by
 unfold Lu at h;simp only[eG,wJ,decide_eq_true_eq] at h;let[[[B,M],A],P]:=h;refine(.I ?_ M A (λy T e=>?_) λy T e=>?_)
 .lk
 .lk
 lk
section
variable[.l4 κ]
def gE(j:.co κ V)(k:κ):=.ho<|j.find? λf=>.aj f.1 k
def putK(j:.co κ V)(k:κ)(v:V):=
 .e9 (.n<|j.any λf=>.aj f.1 k) (j.map λf=>.b7 (f.1=k) (f.1,v) f) (j++[(k,v)])
def Ej{k:κ}(e:p.1=k):gE (p::r) k=.b p.2:=by simp[gE,e]
theorem AL{k:κ}(e:¬p.1=k):gE (p::r) k=gE r k:=by simp[gE,e]
def Lv k:∀j:.co κ V,(j.any λf=>.aj f.1 k)=(gE j k).isSome
 |[]=>rfl
 |p::r=>by
  rw[zp];by_cases e:p.1=k
  .simp_all[Ej,am3]
  .rw[AL e,.h2 e];show Lv k r
theorem AM j(k:κ) v:.ae (putK j k v) (.cS+1):=by unfold putK;lk
def iE.xA(r:iE o u):o.isSome=u.isSome:=by
 cases o with
 |none=>cases u with
  |none=>rfl
  |some _=>show(r).elim
 |some _=>cases u with
  |none=>show(r).elim
  |some _=>rfl
def iE.getD(r:iE o u)(c:RelV d d'):RelV (o.getD d) (u.getD d'):=by
 cases o with
 |none=>cases u with
  |none=>show c
  |some _=>show(r).elim
 |some _=>cases u with
  |none=>show(r).elim
  |some _=>show r
def KV.val(r:KV j vs)(k:κ):iE (gE j k) (C6 vs k):=by
 induction r with
 |nil=>show oY
 | @cons p q G a h t E=>
  let[B,M]:=h;by_cases e:p.1=k
  .let b:C6 (q::a) k=.b q.2:=by simp[C6,(B.symm.trans e)]
   rw[Ej e,b];show M
  grind[C6,AL]
def KV.any(r:KV j vs)(k:κ):(j.any λf=>.aj f.1 k)=vs.any λf=>.aj f.1 k:=by
 induction r with
 |nil=>rfl
 |cons h t E=>lk
def KV.Ek(r:KV j vs)(k:κ)(Z:.bT y):
  KV .Ah (vs.map λf=>.b7 (f.1=k) (f.1,u) f):=by
 induction r with
 |nil=>show .nil
 |@cons p q G a h t E=>calc .bj ?_ E;lk
theorem KV.put(r:KV j vs)(k:κ)(Z:.bT y):KV (putK j k y) (stored vs k u):=by
 unfold putK stored;rw[r.any k];by_cases e:.n (vs.any λf=>.aj f.1 k)
 .rw[.cK,.cK];show r.Ek k Z
 .rw[.bU,.bU];show am5 r (.aY Z)
theorem KV.length(r:KV j vs):.cS=.bD:=mx r
end
def nZ(r:.bT (kV k)):.n ((iD P w).is k u):=by
 cases k with
 |inl i=>let[t,e]:=(r);subst e;show Vl P w i t
 |inr x=>let[t,e]:=(r);subst e;show Vm P w x t
def Lw:∀{ks:.y Key} {us:.b1},.dG (.dk kV)->ItemsAre (iD P w) ks us
 |[],_,r=>by cases r;show .nil
 |k::ks,_,r=>by
  cases r with
  |cons h t=>show .bj (nZ h) (Lw t)
abbrev KT(H:Hp):.co TK V->.ey (.co TK<|af×aw):=eU .xn
def KT.val(r:KT H j F) k:iE (gE j k) (.ho<|zt F k):=by
 induction r with
 |nil=>show oY
 | @cons p q G a h t E=>
  let[B,_,M]:=h;by_cases e:p.1=k
  .let b:zt (q::a) k=.b q.2:=by simp[zt,(B.symm.trans e)]
   rw[Ej e,b];show M
  grind[zt,AL]
def KT.Ek(r:KT H j F) k(Z:.bT y):
  KT H .Ah (.fQ<|putAt k u):=by
 induction r with
 |nil=>show .nil
 |@cons p q G a h t E=>calc .bj ?_ E;grind[putAt]
theorem KT.put(r:KT H j F) k(Y:iF H b k)(Z:.bT y):
  KT H (putK j k y) (storedH F k b u):=by
 let e:(j.any λf=>.aj f.1 k)=(zt F k).isSome:=by rw[Lv,(r.val k).xA,T2]
 unfold putK storedH;rw[e];by_cases q:.n (zt F k).isSome
 .rw[.dF,.dF];show r.Ek k Z
 .rw[.ff,.ff];show am5 r (.g rfl Y Z)
def KT.keeps(r:KT H j F)(B:∀b k,H b=.ep k->H' b=.ep k):KT H' j F:=
 Paired.DH r λ_ _ z=>(.g z.1 (z.2.1.keeps B) z.2.2)
def Lx(Q:dI P w H h)(e:Rd H a u):=e.ok Q
def lQ(Q:dI P w H h)(e:Rd H a .fT):.cS<=bh/\(a==kB)=.j/\∃vs,KV j vs/\h.DictOf (iD P w) a vs:=
 Lx Q e
def AN(Q:dI P w H h)(e:H a=.b .fT):=lQ Q<|.z e
def YB(Q:dI P w H h)(e:H a=.ep (.dk kV)):Iy (iD P w) h ks a:=by let[_,g,r,o,B,M,n,A]:=(Q a _ e);show{o,.ck,n,B,M,A,.nP<|Lw r}
def Ly(Q:dI P w H h):∀{ks:TK} {vs} {us},eU (qv H) ks vs->.dG vs->jv (iD P w) h ks us
 |_,_,_,.nil,r=>by cases r;show .nil
 |_,_,_,.cons (a:=k) x t,r=>by
  cases r with
  |cons B V=>
   calc .bj ?_ (Ly Q t V);cases k with
   |«at» k=>cases(x);show nZ B
   |tp q=>let[b,e,y]:=x;subst e;show(.g b B<|YB Q y)
theorem sr(Q:dI P w H h)(e:iF H a k):(pq P w).is h k a:=by let[b,e,p]:=e;let[_,g,r,o,B,M,n,A]:=(Q a _ e);show{o,.ck,n,B,M,A,.nP<|Ly Q p r}
def pE(Q:dI P w H h)(e:Rd H a (.dT j)):.cS<=bh/\(a==kB)=.j/\
  ∃F,KT H j F/\h.DictOfH (pq P w) a F:=by
 obtain⟨z,y,F,r,o,c,d,B,M,A,b,K⟩:=(.bX (eA P w H h a<|.dT j)<|Lx Q e);calc{z,y,F,r,o,c,d,B,M,A,b,.eu ?_,K};let v:∀{l:.co TK V} {m:.co TK<|af×aw},KT H l m->∀x∈m,(pq P w).is h x.1 x.2.1:=by
  intro l m q;induction q with
  |nil=>simp
  |@cons p q G g f t E=>grind[cw,sr]
 lk
def Lz(Q:dI P w H h)(e:H a=.b (.dT j)):=pE Q<|.z e
def n4(H:Hp)(a:af)(y:V)(r:.aR V):=
 (∃j k,Rd H a .fT/\y=kV k/\r=gE j k)\/∃j k b,Rd H a (.dT j)/\y=.dn/\iF H b k/\r=gE j k
def El(H:Hp)(a:af)(y v:V)(H':Hp):=
 (∃j k,H a=.b .fT/\y=kV k/\.cS<bh/\H'=.a8 a (.dK<|putK j k v))\/
 ∃j k b,H a=.b (.dT j)/\y=.dn/\iF H b k/\.cS<bh/\H'=.a8 a (.dT<|putK j k v)
def Inv.xB(I:.ak):kB<.G:=by show T3 .V ((.ry).lt)
def YC(f:.gM+2<eE)(I:.ak)(g:n4 H a y .aO)(Z:.bT y)(h:∀i J,.mE J->RelV v i->Q i J):
  .g5 A (oU .T u) Q E s:=by
 let[j,k,e,t,l]|||[j,k,b,e,t,r,l]:=g
 .subst t;let[z,N,m,T,D]:=lQ I.aL e;let[i,d,W]:=iE.some_of (by rw[l];show T.val k);show am6 (nZ Z) D.mapOf d (h i _ .if W)
 .subst t;cases(Z);let[z,N,F,T,D]:=pE I.aL e;let[i,d,W]:=iE.some_of (by rw[l];show T.val k);let[p,R,c]:=lG.mp d;calc wpAny_getItem_heap (xa f) (sr I.aL r) D R ?_;rw[c];show h i _ .if W
def YD(R:.gM+2<eE)(I:.ak)(g:n4 H a y o)(Z:.bT y)(h:∀J,.mE J->Q (.eQ o.isSome) J):
  .g5 A (eO .In u .T) Q E s:=by
 let[j,k,e,t,l]|||[j,k,b,e,t,r,l]:=g
 .subst t;let[z,N,c,T,D]:=lQ I.aL e;calc wpAny_in_of (nZ Z) N D.mapOf ?_;rw[<-(T.val k).xA,<-l];show h _ .if
 .subst t;cases(Z);let[z,N,F,T,D]:=pE I.aL e;calc wpAny_in_heap (xa R) (sr I.aL r) N D ?_;let q:=(T.val k).xA;rw[T2] at q;rw[<-q,<-l];show h _ .if
def YE(R:.gM+2<eE)(I:.ak)(g:n4 H a y o)(Z:.bT y)(h:∀J,.mE J->Q (.eQ<|! o.isSome) J):
  .g5 A (eO .NotIn u .T) Q E s:=by
 let[j,k,e,t,l]|||[j,k,b,e,t,r,l]:=g
 .subst t;let[z,N,c,T,D]:=lQ I.aL e;calc wpAny_notIn_of (nZ Z) N D.mapOf ?_;rw[<-(T.val k).xA,<-l];show h _ .if
 .subst t;cases(Z);let[z,N,F,T,D]:=pE I.aL e;calc wpAny_notIn_heap (xa R) (sr I.aL r) N D ?_;let q:=(T.val k).xA;rw[T2] at q;rw[<-q,<-l];show h _ .if
def uN(I:.ak)(M:jx (H a))(hs:mw a .R h')(he:∃q,.lE a=.b q)(c:eA .ar X.w (.a8 a ob) h' a ob):
  .mD (.a8 a ob):=
 I.write M .w (λb q Y z=>.aA (hs.2 b Y) z) he c
def xC(z:.cS<=bh)(N:(a==kB)=.j)(T:KV j vs)(D:h'.DictOf (iD P w) a vs):
 eA P w H' h' a .fT:=(.I z N vs T D)
def YF(R:.gM+2<eE)(I:.ak)(g:El H a y v H')(Z:.bT y)(m:RelV v r)(h:∀J,.eS H' J->Q () J):
  .g5 A (ze .T u r) Q E s:=by
 let[j,k,e,t,l,n]|||[j,k,b,e,t,p,l,n]:=g
 .subst t n;let[z,N,O,T,D]:=AN I.aL e;calc wpAny_setItem_pairs (hsz:=(by rw[<-T.length];show z)) (nZ Z) D λx i o=>h _ ?_;show uN I .qJ o (let⟨q,_,_,f,_⟩:=i;(.c q f)) (xC (.dJ<|AM j k v) N (T.put k m) i)
 .subst t n;cases(Z);let[z,N,F,T,D]:=Lz I.aL e;let d:.ae (putK j k v) bh:=.dJ (AM j k v)
  calc wpAny_setItem_heap (hsz:=(by rw[<-mx T];show z)) (xa R) (sr I.aL p) D λx i o=>h _ ?_;let[q,G,w,f,M,B,P,_,K]:=i;calc uN I .qJ o (.c q f) {d,N,_,(T.put k p m).keeps λc L C=>?_,q,G,w,f,M,B,P,K};rw[aY<|J4 C e .aV];show C
def YG(I:.ak)(e:Rd H a .fT)(h:∀t J,.mE J->Q (.gy .cS) J):.g5 A (.lg .dm [.T]) Q E s:=by let[z,N,b,T,D]:=lQ I.aL e;calc call_len_dict N D (by rw[<-T.length];rw[oV] at z;lia) ?_;rw[<-T.length];show h _ _ .if
def uO(i:bZ):=∀T Y,IP i .j T Y=operate [T,Y] (oU T Y)
def LA{T D}
  (d:.wn) (hs:uO l)
  (h:.k6 (az value f) (λo g=>.k6 (az l f) (λi S=>S.TypeIs o T/\.nJ (oU o i) S) g) s):
  .ci (az (.hL value l) f):=by
 calc CV (i7 h (λo g H=>i7 H (λi S b=>?_) λ_ _ x=>x) λ_ _ x=>x);let[M,b]:=b;calc .fW;calc ah (y5 M d ?_);let c:.k6 (IP l .j o i) (λr a=>.nJ (letTemporaryGo value o r>>=.P (.aL r)) a) S:=.jR (hs o i) (wpAny_operating<|i7 b (λr a e=>ah (wpAny_letTemporaryGo<|aG e)) λ_ _ x=>x)
 grind[aG,ah]
def YH(I:.ak)(g:n4 H a y o):.kR .T .f6:=by
 let[j,k,e,_,_]|||[j,k,b,e,_,_,_]:=g
 .let[_,_,c,_,D]:=lQ I.aL e;show D.typeIs
 .let[_,_,F,_,D]:=pE I.aL e;show D.typeIs
def YI(o Y:TE):TE:=.br<|o U H (.dD<|Y U P λy n=>∃a v,x=.T/\n4 n a y .aO/\Q v n)
def YJ(Y b:TE):TE:=.br<|Y U H λy P=>b U P λx n=>∃a o,x=.T/\n4 n a y o/\.i3 o.isSome n
def YK(Y b:TE):TE:=.br<|Y U H λy P=>b U P λx n=>∃a o,x=.T/\n4 n a y o/\.i3 (! o.isSome) n
def YL(o Y t:TE):TS:=.jx<|t U H λv P=>o U P λx n=>Y U n λy E=>∃a q,x=.T/\El E a y v q/\D.nx U q
def YM(R:.jr+2<eE)(l:.U o c)(hi:.U i Y)(hs:uO i):.U (.hL o i) (YI c Y):=by intro b s U H Q I h;calc LA am7.lookup hs (aJ (l b s U H _ I h) λu j #[x,P,O,S,M]=>aJ (hi b j U P _ O M) λk d #[y,n,L,Z,a,v,G,g,B]=>?_);subst G;obtain rfl:u=_:=S;show(.c (YH L g)<|YC R L g Z λe f A W=>(.I v n A W B))
def LB(R:.jr+2<eE)(hi:.U i Y)(l:.U o c):PC X .In i o (YJ Y c):=.sl .u2 (u=_)<|YD R L g Z λf A=>(.cs (.bl T.isSome) n A B)
def YN(R:.jr+2<eE)(hi:.U i Y)(l:.U o c):PC X .NotIn i o (YK Y c):=.sl .u2 (u=_)<|YE R L g Z λf A=>(.cs (.bl _) n A B)
def YO(R:.jr+2<eE)(l:.U o e)(hi:.U i Y)(p:.U value t)(hs:lE value (.b<|.fs o i c) .mi .X=.aL .j):
  PS X (.Assign [.fs o i c] value pos) (YL e Y t):=by intro b s U H D I h;calc wpAny_Assign_Subscript (aJ (p b s U H _ I h) λr j #[v,P,O,m,M]=>aJ (l b j U P _ O M) λu d #[x,n,L,S,B]=>aJ (hi b d U n _ L B) λk f #[y,E,A,Z,a,q,G,g,w]=>?_) hs;subst G;obtain rfl:u=_:=S;show YF R A g Z m λW F=>(.q U q F w)
def LC(h:bI)(Y:kB<.h9):eA P w H (h.push<|.gZ .f6 .oJ) .h9 (.dK []):=
 (.I (eY _) (.sC<|cY Y) [] .nil<|Heap.DictOf.new h)
def LD(h:bI)(Y:kB<.h9):eA P w H (h.push<|.gZ .f6 .oJ) .h9 (.dT []):=
 {eY _,.sC<|cY Y,[],.nil,_,.bH,0,.cB,(.iY rfl),rfl,rfl,am8}
def YQ:TE:=λ_ H Q=>∀p,.bI p->.gQ (.a8 p<|.dK [])
def YR:TE:=λ_ H Q=>∀p,.bI p->.gQ (.a8 p<|.dT [])
def YS:.U (.Dict [] [] pos) YQ:=λa s U H Q I h=>
 am9<|.d6 .dO (.nU (λ_ _ q=>.a1 q)<|LC .R I.xB) (h _<|.gA _)
def YT:.U (.Dict [] [] pos) YR:=λa s U H Q I h=>
 am9<|.d6 .dO (.nU (λ_ _ q=>.a1 q)<|LD .R I.xB) (h _<|.gA _)
def Em:.co TE TE->St->Hp->.ey (.co V V->.cF)
 |[],_,H,Q=>Q [] H
 |(a,t)::r,U,H,Q=>a U H (.dD<|t U P λy n=>Em r U n λG E=>Q ((x,y)::G) E)
abbrev VV:.co V V->.ey (.co aw aw):=eU λp q=>RelV p.1 q.1/\RelV p.2 q.2
def AO(X:Cx)(pos:Pos)(k:.y (.aR bZ))(v:.y bZ)(t:.co TE TE):=
 .qK (.fk->Em t U H Q->
  .ds (evalPairs<|pairTrees k v .X pos) λc J=>∃G b,.oQ a b J/\VV G c/\Q G b)
def YU:AO X pos [] [] []:=λa s U H Q I h=>am_<|.I [] H I .nil h
def YV(c:.U k tk)(p:.U v e)(Z:AO X pos ks vs t):
  AO X pos (.fg::ks) (v::vs) ((tk,e)::t):=λa s U H Q I h=>
 am'<|aJ (c a s U H _ I h) λu j #[x,P,O,S,M]=>aJ (p a j U P _ O M) λm d #[y,n,L,b,B]=>
  aJ (Z a d U n _ L B) λg f #[G,E,A,T,w]=>(.I ((x,y)::G) E A (.bj (.c S b) T) w)
def qB(j A:.co Key V):=A.foldl (λa f=>putK a f.1 f.2) j
def KV.merge:∀{A:.co Key V} {rs:.co Key aw} {j:.co Key V} {vs:.co Key aw},KV A rs->KV j vs->KV (qB j A) (merged vs rs):=by
 intro A rs j vs r;induction r generalizing j vs with
 |nil=>intro q;show q
 | @cons p q G a h t E=>
  intro R;let e:KV (putK j p.1 p.2) (stored vs q.1 q.2):=.jP (R.put p.1 h.2)
  show E e
theorem En:∀A j,.ae (qB j A) (.cS+A.length)
 |[],j=>.pW<|.cS<=.cS+0
 |p::r,j=>by let B:=En r (putK j p.1 p.2);grind[AM,qB]
def LF:∀{j:.co Key V} {ws:.co aw aw},VV (j.map λf=>(kV f.1,f.2)) ws->∃rs,Carries (iD P w) ws rs/\KV j rs
 |[],_,r=>by cases r;show(.g [] oY .nil)
 |p::j,_,r=>by
  cases r with
  |@cons a b D d h t=>let[rs,c,q]:=LF t;let[H,N]:=b;show(.g ((p.1,N)::rs) (.aX (nZ h.1) c)<|.bj (.aY h.2) q)
def YW(t:.co TE TE):TE:=.br<|∀p,.bI p->Em t U (.a8 p<|.dK []) λG n=>n p=.b (.dK [])/\∃j,G=j.map (λf=>(kV f.1,f.2))/\.cS<=15/\.gQ (upd n p (.dK<|qB [] j))
def YX(h:AO X pos k v m)(t:.n (k.all (·.isSome)))(d:.js=.jY)(y:k≠[])
  (b:.js<=15):.U (.Dict k v pos) (YW m):=by
 intro l s U H Q I q;calc wpAny_Dict_walk (knd:=iD .ar X.w) t d y b (aJ (h l _ U _ _ (I.laid (a:=.G) (h':=_) (t':=.cw) (λ_ _ q=>.a1 q) .ao<|LC .R I.xB) (q _<|.gA .G)) λE F #[G,n,L,T,e,j,x,g,B]=>?_);subst x;let[A,c,r]:=LF (w:=X.w) T;let[z,N,p,R,D]:=AN L.aL e;cases R;calc(.q A c D λC i o=>(.d6 .dO ?_ B));let u:.ae (qB [] j) bh:=by grind[En,oV]
 show uN L .qJ o (let⟨q,_,_,f,_⟩:=i;(.c q f)) (xC u N (r.merge .nil) i)
structure M1(X:Cx)(o:bZ)(m:Str)(apos:Pos)(e:bZ)(gG:Pos):Prop where
 base:.iu o m=.d1
 bS:.n (.ts
  &&.ai ((.m ([e]:.y bZ))+.q0+(.e9 .qZ 0 1)) 30)
 line:.qR gG.line
 trees:.lK gG [e]=.b5
structure M2(X:Cx)(o:bZ)(m:Str)(apos:Pos)(e f:bZ)(gG:Pos):Prop where
 base:.iu o m=.d1
 bS:.n (.qF gG [e,f] (! x.1)&&.qC gG .ql
  &&.ai ((.m ([e,f]:.y bZ))+.q0+(.e9 .qZ 0 1)) 30)
 line:.qR gG.line
 trees:.lK gG [e,f]=[.eF,(.kp f)]
def xD(H:Hp)(a:af):=(∃j,Rd H a .fT)\/∃j,Rd H a (.dT j)
def Eo(I:.ak)(d:xD H a):
  .kR .T .f6/\(.bu (fB a=.dn)<|∃ob,.eM=.b ob/\.H ob.dict)/\(a==kB)=.j:=by
 let[j,e]|||[j,e]:=d
 .let[_,N,c,_,D]:=lQ I.aL e;calc(.g D.typeIs (λb q=>?_) N);cases q;let[ob,_,_,B,M,_]:=D;show(.g ob B M.2.1)
 .let[_,N,F,_,D]:=pE I.aL e;calc(.g D.typeIs (λb q=>?_) N);cases q;let[ob,_,_,B,M,_]:=D;show(.g ob B M.2.1)
def YY(R:.gM+2<eE)(I:.ak)(g:n4 H a y o)(Z:.bT y)(c:RelV d r)(h:∀i J,.mE J->RelV (o.getD d) i->Q i J):
  .g5 A (.lg "dict.get" [.T,u,r]) Q E s:=by
 let[j,k,e,t,l]|||[j,k,b,e,t,f,l]:=g
 .subst t;let[z,N,m,T,D]:=lQ I.aL e;calc C7 T4 D.typeIs ana (anb _ _ _) (meets_dict_get_default _ a (nZ Z) N r) (.D D.mapOf<|h _ _ .if ?_);rw[l];show(T.val k).getD c
 .subst t;cases(Z);let[z,N,F,T,D]:=pE I.aL e;calc C7 T4 D.typeIs ana (anb _ _ _) (meetsH_dict_get_default (pq .ar X.w) a b N r) (.ab (xa R) k F (sr I.aL f) D<|h _ _ .if ?_);rw[l];show(T.val k).getD c
def YZ(b Y t:TE):TE:=.br<|b U H (.dD<|∃a,x=.T/\xD P a/\Y U P λy n=>t U n λz E=>∃o,n4 E a y o/\Q (o.getD z) E)
def Y0(v:.jr+2<eE)(l:.U o p)(he:.m6 Y)(J:.U f t)(m:M2 X o "get" j e f D):.ka "get" j [e,f] D (YZ p Y t):=by
 intro k s U H Q I h;calc I3 m.base m.bS m.line T5 T4 PySem.F.type_dict_get (aJ (l k s U H _ I h) λu q #[x,P,O,S,a,G,d,M]=>?_);subst G;obtain rfl:u=_:=S;let[V,c,_]:=Eo O d;calc(.cf V c);rw[m.trees];refine CY rfl<|IQ (oZ<|aJ (he k q U P _ O M) λK r #[y,n,L,Z,B]=>
  oZ (aJ (J k r U n _ L B) λb C #[z,E,A,R,T,g,w]=>wC ?_));show YY v A g Z R λi N F W=>(.I _ E F W w)
def Y1(I:.ak)(e:Rd H a .fT)(h:∀p J,.bI p->.eS (.a8 p .fT) J->.gQ J):.g5 A (call (.type .f6) [.T]) Q E s:=by let[z,N,g,T,D]:=lQ I.aL e;calc kt_call_dict N D (by rw[<-T.length];show z) λd i c=>?_;calc h _ _ (.gA _) (.nU (λb q f=>?_)<|xC z (.sC<|cY I.xB) T i);show .aA (c.2 b (cY<|bK f)) (.a1 f)
def Y2:wo .m2=.b (.type .m2):=.fp
def Inv.Y3{ch:.bL}(I:.ak)(k:.xm)(J:∀b∈ch,lP X pins H b):.mD H:=by
 let i:.j0 (H b=.aJ) (b∉ch):=λb u e z=>by let q:=(J b z).1;lk
 refine I.step .u1 (.qt<|k b o V e) .Ao
  (λ_ _ _ _ n=>n) (λb o V e=>(.c o<|k b o V e)) (λ_ _ e=>e) (λ_ _ _ e=>e) (λb f e=>.tu) (.hw ?_) (.ml ?_) .ix
 .let[o,d,a,l,r]:=G;show(.I o d a .An r)
 .calc .wm;lk
def Inv.Ep{ch:.bL}(I:.ak)(k:.xm)(J:∀b∈ch,lP X pins H b)(M:.G<=T)
  (a:eA .ar X.w (.a8 T ob) h' T ob):.mD (.a8 T ob):=by
 let t:=.nb M;let i:.j0 (H b=.aJ) (b∉ch):=λb u e z=>by let q:=(J b z).1;lk
 refine I.step .u1 (.qt<|k b o V e) .Ao
  (λb o _ e n=>?_) (λb o V e=>(.c o<|k b o V e)) (λb F e=>?_) (λb o u e=>?_) (λb g e=>(.g .bH ?_ .x1)) (.hw ?_) (.ml ?_) .ix
 .rw[aY<|.mh e M];show n
 .rw[aY<|gC e t];show e
 .rw[aY<|gC e t];show e
 .rw[aY<|gC e t,e];simp
 .let[o,f,d,l,r]:=G;show(.I o f d .An r)
 .by_cases Y:b=T
  .subst Y;rw[dk] at e;lk
  .rw[aY Y] at e;refine .uR
   lk
def Inv.lock(I:.ak)(h:H d=.aJ)(M:jx .aJ):∃od,.eS (.a8 d<|.aB od u) s:=by
 have x:=I.aL d u h;let G:∃od,.d8 d=.b od:=by
  cases u with
  |lst F=>let[_,_,_,_,e]:=x;lk
  |dK j=>let[_,_,_,_,o,_,_,e,_]:=x;lk
  |dT j=>let[_,_,_,_,o,_,_,e,_]:=x;lk
  |set S n=>let[o,_,_,_,e,_]:=x;lk
  |ins C i Y=>let[_,_,_,e,_]:=x;lk
  |ext D=>let[_,[_,e],_]:=x;lk
  |_=>show rL M
 obtain⟨od,e⟩:=G;let c:eA .ar X.w (.a8 d<|.aB od u) .R d (.aB od u):=by
  refine(.c e<|x.jX (λb v _ q=>q) (λb q=>?_) λb F q=>?_)
  .rw[.xl];show q
  .rw[.xl];show q
 show(.c od<|I.write (x:=d) (e:=d) (t':=.cw) (h':=.R) .d .w (λb v _ q=>q) (.c od e) c)
def Inv.xE(I:.ak)(h:H d=.aJ)(M:jx .aJ):∀T w,X.qw d≠.e8 T w:=λT w e=>by let q:=I.base.pv d T w e;rw[h] at q;cases q;show M
def Inv.unlock(I:.ak)(h:H d=.e8 od u)(M:jx .aJ)(t:∀T w,X.qw d≠.e8 T w):.eS (.a8 d u) s:=by
 let E:.a3 (H b=.v) ((∀T w,o≠.aB T w)->b≠d):=λb o e y z=>.d
 let N:.bu .ew (b≠d):=λb e z=>.d
 refine{I.ok,I.os,.ix,{I.base.keep,I.base.slot,λb o e n D=>?_,I.base.there,λb F e=>?_,λb o x e=>?_,λb G e=>?_},I.loc,I.cell,?_,λx c e=>?_,.hR,.bQ ?_,I.len}
 .rw[aY (N b<|.o7 o e n D)];show .o7 o e n D
 .let q:=I.base.sd b F e;grind[aY]
 .let q:=I.base.pv b o x e;rw[aY<|.s .d];show q
 .obtain⟨m,q,g⟩:=I.base.px b G e;show(.g m (by grind[aY]) (.ah<|by
   have:=(g x).mono (H':=.a8 d u) (.bQ (.nL<|aY (.s<|by rw[z,h] at e;cases e;show M)))
   lk))
 .rw[aY<|N _ I.free];show I.free
 .rw[aY (N c<|I.jY x c e)];show I.jY x c e
 .let[e,n,r]:=I.pin p R;grind[aY]
 .by_cases Y:b=d
  .rw[Y,dk] at e;cases e;rw[Y];let[_,x]:=I.aL d _ h;show x.jX (λc v _ q=>q) (λc q=>by grind[aY]) λc F q=>by grind[aY]
  .rw[aY Y] at e;show(I.aL b o e).jX (λc v _ q=>q) (λc q=>by grind[aY]) λc F q=>by grind[aY]
def Y4(t:TS):TS:=.jx<|∃d u,H d=.aJ/\jx .aJ/\∀b,t (.q (λC a=>a d=.e8 b u/\D.nx C (upd a d u)) (λv a=>a d=.e8 b u/\D.rt v (upd a d u)) (λC a=>a d=.e8 b u/\D.bk C (upd a d u)) λC a=>a d=.e8 b u/\D.ct C (upd a d u)) U (.a8 d<|.aB b u)
def Y5(t:TE):TE:=.br<|∃d u,H d=.aJ/\jx .aJ/\∀a,t U (.a8 d<|.aB a u) λv b=>b d=.e8 a u/\Q v (upd b d u)
def Er{Z}(h:PS X Z t):PS X Z (Y4 t):=by
 intro a s U H D I b;let[d,u,N,M,b]:=b;let[g,O]:=I.lock N M;calc aJ (h a s U _ _ O<|b g) λf j q=>?_;cases f with
 |next=>let[C,c,L,e,q]:=q;show .tP
 |brk=>let[C,c,L,e,q]:=q;show .tP
 |cont=>let[C,c,L,e,q]:=q;show .tP
 |ret v=>let[x,C,c,L,r,e,q]:=q;show(.ab x C _ (L.unlock e M<|I.xE N M) r q)
def Y6(h:.fi):.m6 (Y5 t):=by intro a s U H Q I b;let[d,u,N,M,b]:=b;let[c,O]:=I.lock N M;calc aJ (h a s U _ _ O<|b c) λv j #[x,P,L,r,C,q]=>?_;show(.cX x (L.unlock C M<|I.xE N M) r q)
def AQ(I:.ak) o
  (T:Turn .ar X.w X.K c J [.G] .G a) (Z:a 0 (.g4 o)) (q:R J H):Am X pins U c R .dO (.pp<|.g4 o):=by
 calc{.G,[.G],a,J,H,rfl,I.kept λb d e=>.a1 e,T,Z,.a4 ?_,q};let e:b=.G:=.d
 subst e;show I.sj .ao (.gA _)
def LG(K:bj)(a:af)(n:Nat):It:=
 (.g (λi H=>i<n/\∃F x,bf K H a F/\F[n-1-i]?=.bt) (λi H x b=>b=H/\∀F,bf K H a F->F[n-1-i]?=.bt) λi _=>n<=i)
def Y7{K} a C n:Turn P w K tg (LG K a n) [C] C (λi h=>i<=n/\h.IsRevIter C a (n-1-i)) where
 mem:=.f
 obj:=λi h Z b Y=>by
  let e:b=C:=.d
  subst e;let[_,o,e,c,d]:=Z;lk
 keep:=.qT (.c Z.1<|Z.2.at λo e=>.it C o e)
 item:=by
  intro X G W q V i v s U H E I J Z S;subst G W q;let[j,F,x,f,D]:=S;let[g,m,p,hz]:=.ev f;let[u,R,t]:=m.get D;let[y,z,f2,L,O,N]:=.i0 C;let[_,B]:=Z;let e1:.dZ-1-(.cg (i:Nat))=(.cj<|n-1-i):=.a
  rw[e1] at B;calc wpAny_pyNext_rev_item B p.isList (x:=u) .d λh' l M=>?_;let e2:(.cj<|n-1-i)-1=.dZ-1-(.cj<|i+1):=.a
  rw[e2] at l;let[o,e,c,d]:=id l;show(.aX u<|uG (s:=.k0) e c d .V {x,H,(I.turned (.ld<|.hg b Y e) y z L O N),t,(.aY λys T=>by rw[I.xi T f];show D),(.c j l),.a4 (J b Y).1})
 done:=by
  intro X G W q V i v s U H E I J Z S;subst G W q;let[y,z,f2,L,O,N]:=.i0 C;let[j,B]:=Z;let hge:n<=i:=S;let e1:.dZ-1-(.cg (i:Nat))=-1:=.a
  rw[e1] at B;show wpAny_pyNext_rev_end .iQ B λh' r=>(.aY<|.nC (.ld<|r b o Y e) y z L O N)
 self:=.pF<|anc Z.2 h
def Y8(K:bj)(d:TA):TI:=.my<|d U H λb P=>∃a F,b=[.T]/\bf K P a F/\R (LG K a .aE) P
def Y9(S:.bB .m2)(G:.bR .m2)(J:PA X [e] d)(hs:.b4=.b5:=by rfl):PI X c (.eX .m2 [e]) (Y8 X.K d):=by
 intro b s U H R I h;calc zf (nR I S G Y2<|wB (aJ (J pos b s U H _ I h) λu j #[n,P,O,i,M]=>?_) hs rfl);let[a,F,e,f,q]:=M;subst e;cases i with
 |cons r o=>
  cases o;cases r;let[g,m,t,k]:=O.list f;let l:=m.length;let L:(.cg (g.toArray.size:Nat))-1=(F.length:Int)-1-.mT:=.d
  calc call_reversed_list t.isList (anc (.fG _ .cB) ?_);calc AQ O _ (Y7 a _ .aE) (.bM<|eY _) q;rw[<-L];show(.fG _ .cB)
def Es(N:(d==kB)=.j)(l:.d8 d=.v)(V:o.ExactDict)(H:.ce=.i7)
  (c:Q .dO (.h3 (.oa .qv<|.nM [.p d,.av 0 0,.av .c8 0,.av ep 0]))):
  .ci (rN<|.p d):=by let M:.kR (.p d) .f6:=(.em l V.1);calc I7 M ane (lC ane M F.entry_dict_iter ?_<|F.args_dict_iter_1 _);calc .fW;calc ah (wpAny_notOrdered_dict M ?_);calc .dC;change ao _ _ (anf d>>=_) _ _ s;unfold anf;rw[.x .d];calc .ik;calc ah (I_ l H ?_);calc ah (T6 l H ?_);calc ah (nJ<|aG {_,rfl,.qv,_,(.cx .cB),zu.lookup,?_});room
def LH(B:s.heap.IsKeyIter C d i n ep)(y:.d8 d=.b od)(h:od.data=.i7)
  (hsz:.c8=n) (D:es[i]?=.bt) (c:∀h',h'.IsKeyIter C d (i+1) n ep->mw C .R h'->Q (.b x.key) .k0):.ci (nG .gW):=by
 obtain⟨o,l,V,a⟩:=id B;refine ah (Ja<|wG .iW zu
  (lC zu .iW ang ?_<|anh _));calc .ik;calc .fW;calc .fW;first|refine ah (Jb .iW .dC)|refine _
 calc ah (T7 l a ?_);let H:ani .qv=.j:=.V
 change ao _ _ (.A (.n _) _ _) _ _ s;calc .ik;calc ah (I_ y h ?_);rw[.x .d];calc .ik;calc ah (T6 y h ?_);rw[.on];calc .dC;let[N,u]:=anj.mp D;simp only[rP,nM N];calc .fW;first|refine ah (Jb .iW .dC)|refine _
 refine ah<|ank .iW ?_;change ao _ _ (qk .gW 1 (eV<|.j4+1)>>=_) _ _ s;calc ah (rQ l a .f ?_);let v:(.yf).IsKeyIter C d (i+1) n ep:=
  (.en (uf _ l (Obj.isFreed_of_fields<|anl a _)) (.aA (Obj.cls_mapFields ..) V) (.kB<|anl a));calc ah (iz ?_);calc ah (ank (s:=(.h3 .yf)) v.typeIs ?_);change ao _ _ (.aL es[i].key) _ _ _;rw[u];show aG (aG (.bZ<|aG (c _ v<|o4 ..)))
def Et(V:.iI)(B:s.heap.IsKeyIter C d i n ep)(y:.d8 d=.b od)(h:od.data=.i7)
  (hsz:.c8=n) (Z:n<=i) (c:∀h',anm C .R h'->Q none .k0):.ci (nG .gW):=by
 obtain⟨o,l,e,N⟩:=id B;refine ah (Ja<|wG .iW zu
  (lC zu .iW ang ?_<|anh _));calc .ik;calc .fW;calc .fW;first|refine ah (Jb .iW .dC)|refine _
 calc ah (T7 l N ?_);let H:ani .qv=.j:=.V
 change ao _ _ (.e9 (.fc _ t_) _ _) _ _ s;calc .ik;calc ah (I_ y h ?_);rw[.x .d];calc .ik;calc ah (T6 y h ?_);rw[.on];calc .dC;let g:.c8<=i:=.a
 simp only[rP,T8 g];calc .fW;first|refine ah (Jb .iW .dC)|refine _
 change ao _ _ (qk .gW 0 .cy>>=_) _ _ s;calc ah (rQ l N .f ?_);change ao _ _ (C8 (.type .oC) []>>=_) _ _ _;calc .fW;simp only[C8,newTuple];calc ah (nJ ?_<|by size_fits);calc .j5 (firstArgMember _ _) (Jc (a:=t_) .bm ?_);calc nJ ?_ (by size_fits);simp only[Jd];calc ah (wpAny_handled ?_);rw[show .H A.in1.handled from V];calc ah (aG<|wpAny_throw ?_);calc ah (y8 (T:=.oC) (b:=true) (.cx .cB) isSubtype_stop ?_);show aG (c _<|((o4 ..).extBut.push _).push _)
def LI{vs:.co e aw}(h:KV j vs):∀{i:Nat} {k} {v},j[i]?=.be k v->∃u,vs[i]?=.be k u/\.bT v:=by
 unfold KV at h;induction h with
 |nil=>simp
 |@cons a b d c r t E=>lk
def Y_{l₁:.aS}{l₂:.y c}(h:eU G l₁ l₂):∀{i:Nat} {a},l₁[i]?=.b a->∃b,l₂[i]?=.b b/\G a b:=by
 induction h with
 |nil=>simp
 |@cons a b l₁ l₂ r t E=>lk
def LJ(h:.n (pj k u)):.bT (kV k):=by
 let[i,t,rfl,rfl]|||[x,t,rfl,rfl]:=kP h
 .show(.a5 t)
 .show(.a5 t)
def Inv.uQ(I:.ak)(h:H d=.hA .fT):
  (d==kB)=.j/\.d8 d=.v/\.oZ/\∃es ep vs,.ce=.i7/\.c8=.cS/\KV j vs/\s.heap.DictAt (iD .ar X.w) d vs ep:=by let[N,z,a,vs,f,T,es,ep,l,D,m,r]:=I.aL d _ h;rw[N] at l;cases l;calc#[a,N,D,es,ep,vs,m,?_,f,o,es,N,D,m,r];let y:=(.m r.2.1);let Q:=mx f;lk
def Inv.Eu(I:.ak)(h:H d=.hA (.dT j)):
  (d==kB)=.j/\.d8 d=.v/\.oZ/\∃es ep,.ce=.i7/\.c8=.cS/\
   ∀(i:Nat) k v,j[i]?=.be k v->∃x q,es[i]?=.bt/\x.key=.cI/\iF H q k:=by
 let[N,z,c,F,g,T,es,ep,l,D,m,a,_]:=I.aL d _ h;rw[N] at l;cases l;refine{c,N,D,es,ep,m,?_,λi k v e=>?_}
 .let y:=T9 a;grind[mx]
 .let[b,Y,L,C,_]:=Y_ g e;let q:=entry_at a i;rw[Y] at q;show(.cs _ b.2.1 q C)
def Ew(d:af)(o:Obj)(j:.co Key V):It:=
 (.g .zg (λi H x a=>a=H/\∃k v,j[i]?=.be k v/\x=kV k) .ye)
def Ex(d:af)(o:Obj)(j:.co TK V):It:=
 (.g (λi H=>H d=.hA (.dT j)/\i<.cS) (λi H x a=>a=H/\∃k v q,j[i]?=.be k v/\x=.cI/\iF H q k) λi H=>H d=.hA (.dT j)/\.cS<=i)
def Ey(d:af)(o:Obj)(j:.co Key V):It:=
 (.g .zg (λi H x a=>∃T k v,j[i]?=.be k v/\x=.p T/\.bI T/\a=.mx T (kV k) v) .ye)
def uR{o:Obj}(h:.ce=.i7)(h':.ce=.dict x a):x=es/\a=ep:=.d
section
variable{K:bj}
def Y' C(y:.ce=.i7):Turn P w K tg (Ew d o j) [C] C .Ag where
 mem:=.f
 obj:=λi h Z b Y=>by
  let e:b=C:=.d
  let[R,e,c,D]:=Z;lk
 keep:=.Af
 item:=by intro X hP hw q V i W s U H E I J Z S;subst hP hw q;let[N,hi]:=S;let[B,z,n,L,O,f5]:=.i0 C;let[hs,T,hx,x,a,vs,m,hsz,f,G]:=I.uQ N;let[rfl,rfl]:=uR y m;obtain⟨⟨k,v⟩,t⟩:∃p,j[i]?=.cL:=(.c (j[i])<|cf hi);let[u,hu,ru]:=LI f t;let hl:.cS=.bD:=mx f;rw[hl] at Z;calc wpAny_pyNext_dict_item Z G hu λF h' g l M=>?_;let[R,e,c,D]:=id l;calc(.aX F<|uG e c D .V {kV k,H,.xk,LJ<|g,(.I rfl k v t rfl),?_,.a4 (J b Y).1});lk
 done:=by intro X hP hw q V i W s U H E I J Z S;let[N,hi]:=S;let[B,z,n,L,O,f5]:=.i0 C;let[hs,T,hx,x,a,vs,m,hsz,f,G]:=I.uQ N;let[rfl,rfl]:=uR y m;show Et .iQ Z T m hsz hi λh' r=>(.aY<|.nC (λb ob Y e=>r b ob Y e) B z L O f5)
 self:=.pF<|ano Z h
def Za C(y:.ce=.i7):Turn P w K tg (Ex d o j) [C] C .Ag where
 mem:=.f
 obj:=λi h Z b Y=>by
  let e:b=C:=.d
  let[R,e,c,D]:=Z;lk
 keep:=.Af
 item:=by intro X G hw hK V i pins s U H E I J Z S;subst G hw hK;let[N,hi]:=S;let[B,z,n,L,O,f5]:=.i0 C;let[hs,T,hx,x,a,m,W,ent]:=I.Eu N;let[rfl,rfl]:=uR y m;obtain⟨⟨k,v⟩,t⟩:∃p,j[i]?=.cL:=(.c (j[i])<|cf hi);let[en,q,u,g,f]:=ent i k v t;calc LH Z T m W u λh' l M=>?_;let[R,e,c,D]:=id l;show(.aX en.key<|uG e c D .V {.cI,H,.xk,g,#[rfl,k,v,q,t,rfl,f],l,.a4 (J b Y).1})
 done:=by intro X G hw hK V i pins s U H E I J Z S;let[N,hi]:=S;let[B,z,n,L,O,f5]:=.i0 C;let[hs,T,hx,x,a,m,W,ent]:=I.Eu N;let[rfl,rfl]:=uR y m;show Et .iQ Z T m W hi λh' r=>(.aY<|I.turned (λb ob Y e=>r b ob Y e) B z L O f5)
 self:=.pF<|by calc I7 Z.typeIs anp (lC anp Z.typeIs F.entry_dict_keyiterator_iter ?_<|F.args_dict_keyiterator_iter_1 _);change _;show aG {_,rfl,.qv,_,Z.typeIs,zu.lookup,h}
def Zb{elts}{kk}{si} C(y:.ce=.i7):
  Turn P w K (.hz elts kk si) (Ey d o j) [C] C (λi h=>∃ok T,IsItemIter h C d i .cS ep ok T) where
 mem:=.f
 obj:=λi h Z b Y=>.d
 keep:=.qT<|let⟨ok,T,e⟩:=Z;(.g ok T<|.it C _ e)
 item:=by
  intro X hP hw q V i W s U H E I J Z S;subst hP hw q;let[N,hi]:=S;let[hs,Zc,D,x,a,vs,m,hsz,f,G]:=I.uQ N;let[rfl,rfl]:=uR y m;obtain⟨⟨k,v⟩,t⟩:∃p,j[i]?=.cL:=(.c (j[i])<|cf hi);let[u,R,ru]:=LI f t;let hl:.cS=.bD:=mx f;let[ok,T,he]:=Z;rw[hl] at he;let jc:C<.G:=bK he;calc wpAny_pyNext_items_item he G R λF h' g l hT hz hk=>?_;calc(.bZ<|wpAny_letOwnedTupleGo_items (s:=.k0) l λr LK M=>?_);let xF:r.get? .G=.b (.gZ .f4<|.l2 [F,u]):=.hg _ (qe jc) hT;let c:eA .ar X.w (.mx .G (kV k) v) r .G (.fx (kV k) v):=
   (.q (.pE 2 bh) [F,u] (.bj (LJ<|show .n (pj k F) from g)<|.bj ru .nil)<|.aW _ xF _ rfl);let I1:.oQ W (.mx .G (kV k) v) {s with heap:=r}:=
   I.Ep (t':=.cw) (ch:=[C]) (λb ob Y e=>.hg b .d<|hk b ob .d e) J .ao c;refine(.kV .dO _ I1 (.fD _ k v t rfl<|.gA _) (.cf F u)<|.a4 ?_)
  .lk
  .let e:b=C:=.d
   rw[e,aY<|cY jc];show(.i0 C).1
 done:=by intro X hP hw q V i W s U H E I J Z S;subst hP hw q;let[N,hi]:=S;let[B,z,n,L,O,f5]:=.i0 C;let[hs,Zc,D,x,a,vs,m,hsz,f,G]:=I.uQ N;let[rfl,rfl]:=uR y m;let hl:.cS=.bD:=mx f;let[ok,T,he]:=Z;rw[hl] at he;show wpAny_pyNext_items_end .iQ he G (iB .a) λh' eb=>(.aY<|.nC (λb ob Y e=>eb b ob Y e) B z L O f5)
 self:=.pF<|let⟨_,_,e⟩:=Z;PySem.W.kcp_self e h
end
def Zd(a:TE):TI:=.my<|a U H (.dD<|∃d o,x=.p d/\((∃j,P d=.hA .fT/\R (Ew d o j) P)\/∃j,P d=.hA (.dT j)/\R (Ex d o j) P))
def Ze(a:TE):TI:=.my<|a U H (.dD<|∃d o j,x=.p d/\P d=.hA .fT/\R (Ey d o j) P)
def uS(he:.m6 l):PI X c e (Zd l):=by
 intro a s U H R I h;calc aJ (he a s U H _ I h) λu i #[x,P,O,S,d,o,G,q]=>?_;subst G;obtain rfl:u=fB d:=S;let[j,N,q]|||[j,N,q]:=q
 .let[b,T,D,n,k,r,m,g,f,p]:=O.uQ N;calc Es b T D m (AQ (tk:=i.toks) O _ (Y' _ m) (.ct _ .cB ?_) q);lk
 .let[b,T,D,n,k,m,g,E]:=O.Eu N;calc Es b T D m (AQ (tk:=i.toks) O _ (Za _ m) (.ct _ .cB ?_) q);lk
def LL(he:.m6 v)(i:.y0:=by rfl) (a:.m5:=by rfl):
  PI X (.hz l Y k) (.qd e "items" j [] D) (Ze v):=by
 intro g s U H R I h;calc I3 i rfl a F.plainAttrs_dict anq F.type_dict_items (aJ (he g s U H _ I h) λu n #[x,P,O,S,d,o,p,t,N,q]=>?_);subst t;obtain rfl:u=_:=S;let[w,T,z,A,C,y,m,r,f,G]:=O.uQ N;calc(.cf G.dictOf.typeIs G.dictOf.mapOf.noDict);let c:.lN (rN<|.p n.heap.objs.size) (Am X g U (.hz l Y k) R) {n with heap:=n.heap.push (.gZ "dict_items"<|.nM [.p d])}:=by calc wpAny_pyIter_items (.fG _ .cB) (G.push _) (AQ (O.kept λb B q=>.a1 q) _ (Zb _ m) (.cf .cy .cy) q);rw[(mx f)];show .cB
 change ao _ _ (qh D (.fw "dict.items") [.p d] [] []) _ X.xe n;show method_meetsIn anq F.entry_dict_items rfl (amX {rfl,G.dictOf.typeIs,F.args_dict_items_1 _,_,meets_dict_items (iD .ar X.w) d w,(.c y G.dictOf),c})
def LM(K:bj)(a:af):It:=
 (.g .zf (λi H v b=>∃T x,v=.p T/\.bI T/\b=.mx T .do x/\∀F,bf K H a F->F[i]?=.bt) λi H=>∃F,bf K H a F/\.aE<=i)
def Zf{K}{elts}{kk}{si} a e C:
  Turn P w K (.hz elts kk si) (LM K a) [e,C] e (λi h=>(∃j,IsEnum h e C (i) j)/\h.IsListIter C a i/\e≠C) where
 mem:=.f
 obj:=λi h Z b Y=>by let[[j,W],[o,l,V,N],_]:=Z;lk
 keep:=.qT<|let⟨⟨j,W⟩,hi,y⟩:=Z;(.g (.c j<|.it e _ W) (hi.at λo q=>.it C o q) y)
 item:=by
  intro X G hw hK V i pins s U H E I J Z S;subst G hw hK;let[[j,W],B,y]:=Z;let[F,x,f,D]:=S;let[g,m,p,hz]:=.ev f;let[u,R,t]:=m.get D;let Zg:e<.G:=bK W;let hil:C<.G:=by let[_,q,_]:=B;show bK q
  refine wpAny_pyNext_enum_item W B p.isList (x:=u) .d y λh' l v hT hsz hk=>?_;calc(.bZ<|wpAny_letOwnedTupleGo_enum (s:={s with heap:=h',toks:=.cw+1}) l λr LK M=>?_);let xF:r.get? .G=.b (.gZ .f4<|.l2 [.av i .cw,u]):=.hg _ (qe Zg) hT;let c:eA .ar X.w (.mx .G (.u (i:Nat)) x) r .G (.fx (.u (i:Nat)) x):=
   (.q (.pE 2 bh) [.av i .cw,u] (.bj (.a5 _)<|.bj t .nil)<|.aW _ xF _ rfl);let O:.eS (.mx .G (.u (i:Nat)) x) {s with heap:=r,toks:=.cw+1}:=
   I.Ep (ch:=[e,C]) (λb ob Y q=>.hg b (.s<|Y .m1)<|hk b ob (.s<|Y .m1) (.s<|Y .m1) q) J .ao c;refine(.kV .dO _ O (.ab _ x rfl (.gA _) rfl λys T=>by rw[I.xi T f];show D) (.g (.bM u) (v.at λo q=>.hg C (i6 y) q) y)<|.a4 ?_)
  .lk
  .let n:b<.G:=.d
   rw[aY<|cY n];show(J b Y).1
 done:=by intro X G hw hK V i pins s U H E I J Z S;subst G hw hK;let[[j,W],B,y]:=Z;let[F,f,D]:=S;let[g,m,p,hz]:=.ev f;let[f0,f1,f2,L,f4,f5]:=.i0 C;let d:=m.length;show wpAny_pyNext_enum_end .iQ W B p.isList .dV λh' eb=>(.aY<|.nC (λb o Y q=>eb b o Y q) f0 f1 L f4 f5)
 self:=.pF<|let⟨⟨_,W⟩,_⟩:=Z;anr W h
def Zh(K:bj)(d:TA):TI:=.my<|d U H λb P=>∃a F,b=[.T]/\bf K P a F/\R (LM K a) P
def Zi(S:.bB .jS)(u:.bR .jS)(J:PA X [e] d)(hs:.b4=.b5:=by rfl):
  PI X (.hz l Y i) (.eX .jS [e]) (Zh X.K d):=by
 intro c s U H R I h;calc zf (nR I S u boot_enumerate<|wB (aJ (J pos c s U H _ I h) λz j #[y,P,O,g,M]=>?_) hs rfl);let[a,F,G,f,q]:=M;subst G;cases g with
 |cons r o=>
  cases o;cases r;let[w,m,t,C]:=O.list f;calc call_enumerate_list t.isList λA k B v L=>anr k ?_;calc{.fo+1,[.fo+1,.fo],_,_,P,rfl,(O.kept (t':=j.toks) L),Zf a (.fo+1) .fo,(.g (.c .cy k) B<|Nat.succ_ne_self _),λb x=>?_,q};let n:.fo<=b:=.d
  show O.sj n (O.aL.fresh n)
def Zj:wo "zip"=.b (.type "zip"):=.fp
def LN(K:bj)(a b:af):It:=
 {λi H=>∃F k x y,bf K H a F/\bf K H b k/\F[i]?=.bt/\k[i]?=.eO,
  λi H v c=>∃T x y,v=.p T/\.bI T/\c=.mx T x y/\(∀F,bf K H a F->F[i]?=.bt)/\.aM (bf K H b k->k[i]?=.eO),
  λi H=>∃F k,bf K H a F/\bf K H b k/\(.aE<=i\/.js<=i)}
def Zk{K}{elts}{kk}{si}{a b z TI TO n v}(D:ZipApart z TI TO n v a b):
  Turn P w K (.hz elts kk si) (LN K a b) [z,TI,TO,n,v] z (λi h=>IsZip h z TI TO .cy/\IsPair h TI (.p n) (.p v)/\(∃x y,IsPair h TO x y)/\h.IsListIter n a i/\h.IsListIter v b i) where
 mem:=.f
 obj:=λi h Z c V=>by let[hz,e,[x,y,t],[o1,e1,_,d1],[o2,C,_,d2]]:=Z;lk
 keep:=.qT<|by let[hz,e,[x,y,t],B,h2]:=Z;show(.I (.it z _ hz) (.it TI _ e) (.g x y<|.it TO _ t) (B.at λo q=>.it n o q)<|h2.at λo q=>.it v o q)
 item:=by
  intro X G hw hK V i pins s U H E I J Z S;subst G hw hK;let[hz,e,[x0,y0,t],B,h2]:=Z;let[F,ys,x,y,W,d,hx,T]:=S;let[g,m,p,_]:=.ev W;let[f,Ez,p2,_]:=.ev d;let[u,R,ru]:=m.get hx;let[u2,hu2,Zl]:=Ez.get T;let Zm:z<.G:=bK hz;calc wpAny_pyNext_zip_item D hz e t B h2 p.isList p2.isList (x:=u) (y:=u2) .d .d λh' z' Zn Zo Zp hT hsz L=>?_;calc(.bZ<|wpAny_letOwnedTupleGo_zip (s:=.k0) z' λr Zq M=>?_);let xF:r.get? .G=.b (.gZ .f4<|.l2 [u,u2]):=.hg _ (qe Zm) hT;let new:eA .ar X.w (.mx .G x y) r .G (.fx x y):=
   (.q (.pE 2 bh) [u,u2] (.bj ru<|.bj Zl .nil)<|.aW _ xF _ rfl);let O:.eS (.mx .G x y) {s with heap:=r}:=
   I.Ep (t':=.cw) (ch:=[z,TI,TO,n,v]) (λc o Y q=>.hg c (λN=>.qj) .vt) J .ao new;refine(.kV .dO _ O {_,x,y,rfl,.gA _,rfl,λl hl=>by rw[I.xi hl W];show hx,λl hl=>by rw[I.xi hl d];show T} (.I Zq ?_ (.cf u u2) ?_ ?_) λc EA=>?_)
  .show .hg _ D.TIz (L _ _ D.TIz D.TITO D.TIi1 D.TIi2 e)
  .show .hg _ D.TOz Zn
  .show Zo.at λo q=>.hg _ D.i1z q
  .show Zp.at λo q=>.hg _ D.i2z q
  .have jc:c<.G:=by
    let j:c=z\/c=TI\/c=TO\/c=n\/c=v:=.d
    rcases j with q|q|q|q|q
    .lk
    .rw[q];show bK e
    .rw[q];show bK t
    .rw[q];let[_,e1,_]:=B;show bK e1
    .rw[q];let[_,C,_]:=h2;show bK C
   rw[aY<|cY jc];show(J c EA).1
 done:=by
  intro X G hw hK V i pins s U H E I J Z S;subst G hw hK;let[hz,e,[x0,y0,t],B,h2]:=Z;let[F,ys,W,d,aoN]:=S;let[g,m,p,_]:=.ev W;let[f,Ez,p2,_]:=.ev d;let l1:=m.length;let l2:=Ez.length;let he:.H (.ck[i]?)\/.H (.m9[i]?):=.d
  exact wpAny_pyNext_zip_end .iQ D hz e t B h2 p.isList p2.isList he λh' L=>(.aY<|I.Y3 (t':=.cw) (ch:=[z,TI,TO,n,v]) (λc o Y q=>
   .vt) J)
 self:=.pF<|ans Z.1 h
def Zr(K:bj)(d:TA):TI:=.my<|d U H λc P=>∃a b F k,c=[.T,.dn]/\bf K P a F/\bf K P b k/\R (LN K a b) P
def Zs(S:.bB "zip")(G:.bR "zip")(J:PA X [e,C] ta)
  (hs:.mz [e,C]=.eF::.lT C:=by rfl) (g:.qo [C]=.j:=by rfl):
  PI X (.hz A Y z) (.eX "zip" [e,C]) (Zr X.K ta):=by
 intro l s U H R I h;calc zf (nR I S G Zj<|wB (aJ (J pos l s U H _ I h) λus j #[vs,P,O,W,M]=>?_) hs g);let[a,b,F,k,N,Q,d,q]:=M;subst N;cases W with
 |cons r o=>
  cases o with
  |cons D o=>
   cases o;cases r;cases D;let[T,m,w,_]:=O.list Q;let[f,v,x,_]:=O.list d;let i:b<.fo:=x.lt;calc call_zip_2 w.isList x.isList λh' E u t B h2 Z L=>ans E ?_;calc{.fo+4,[.fo+4,.fo+2,.fo+3,.fo,.fo+1],_,_,P,rfl,(O.kept (t':=j.toks) L),Zk<|PySem.W.ktu_apart .fo a b (w.lt) i,(.I E u (.D _ t) B h2),λc y=>?_,q};let n:.fo<=c:=.d
   show O.sj n (O.aL.fresh n)
def qC(s:gu):=match s with
 |.FunctionDef _ a _ _ _ _ _ _ _ _=>a
 |_=>{posonlyargs:=[],args:=[],vararg:=none,kwonlyargs:=[],kw_defaults:=[],kwarg:=none,defaults:=[]}
def jd(s:gu):=match s with
 |.FunctionDef _ _ b _ _ _ _ _ _ _=>b
 |_=>[]
def aI(s:gu):=match s with
 |.FunctionDef _ _ _ _ _ _ t _ _ _=>t
 |_=>{kind:=.ll,names:=[],isGenerator:=false,isCoroutine:=false}
abbrev lR:xp:=λ_ _ _ _ _ _=>False
abbrev E0:XK:=λ_ _ _=>False
def uT:pA lR X E0:=λ_ _ _ _ _ _ _ h=>h.elim
structure qD(K:bj)(x qual:Str)(st:gu)(f:af)(fd:FuncData):Prop where
 ex:∃(oc:aw) (od:.aR af) (kV doc pm:aw) (an:.aR af) (f6 ct:aw) (xq:.eR<|.aR aw),
  fd=qi x qual (qC st) (jd st) (aI st) .cy kV doc pm an f6 ct/\.yT/\.n (zk K f6 qual)
 kp:.n (oX K .ej)
section
variable{K:bj}
def qD.ok{Z}(F:qD K x D Z f I)(S:.lI N G Z)(M:.q6)
  (p:∀v (A:gS) (U:.im) s H (vs:.au) Q E,.oU k (mC D (aI Z) .G f v)->sp vs H Q E->
   ∃t,hX (mL lR P w K X i N D (aI Z) f v A U s H E).nV (jd Z) t/\.rV):jy P w K X i lR (k+1) f I G sp:=by let[o,d,e,r,m,L,v,C,u,rfl,g,a]:=F.ex;calc KY g a S M λA U s H vs Q E c b=>?_;let[t,h,q]:=p v A U s H vs Q E c b;show(.g t h.nV q)
def qD.binds{Z}(F:qD K x D Z f I)
  (h:∀i r m L v C us,.lj=.dW->zi .tt (.gU us)=.aL (G.zip us)):Binds K I G []:=by let[o,b,i,r,m,L,v,C,u,rfl,g,a]:=F.ex;show .ay (h i r m L v C)
def EB{Z}{i r m v C}(l:.cu f=.gr o od (.func .tt) u)
 (c:.n (zk K v D)) (k:.n (oX K .ej)):qD K x D Z f .tt:=(.c #[o,od,i,r,m,L,v,C,u,rfl,l,c] k)
end
def dJ(Z:bQ k A):=kJ (ant (.V:2<=64) _) Z.units
def kU{A B:Prop}(h:B):.A .gN A B:=by rw[.x fQ];show h
def kX{A B:Prop}(h:A):.A (.n true) A B:=by rw[.gO];show h
def h7(H H':Hp):=.a3 (H b=.v)<|H' b=.v
section
variable[.l4 κ]
end
end L2
end
section
open Vaglrc (Sym Spans has put Link childrenAt below sameNode sameReach cyclic spread infinite Table lookAt rowOf further ways countRound countUp noCounts countsOf finite)
open Vaglrd (rangesIn classesOf classAt item place movesFrom tableOf Move Row STATES itemsAt moveOf completeAt actsAt mayFollow step start bytes)
open Vaglrf (Alt Entry onesOf waysOf kidsOf altsFor nodesBelow putNode sortNodes forestOf)
open Vaglrh (coreNode signsOf textAt Mark Found go tally tallyOne widest moreWays)
open Vaglrb (rounds allIn deriveRound nullable productive productiveRules nonsIn reachRound reachable useful usefulRules Mask noBytes theEnd either bytesOf Sets setOf symFirst symNull rowFirst setRounds noSets firstRound firstOf afterIn followRound followStart followOf)
namespace TT
abbrev plus:bE->bE->bE:=Je
abbrev times:bE->bE->bE:=wL
abbrev c0:bE:=.b 0
abbrev c1:bE:=.b 1
@[simp] theorem aoO m n:Je (.b m) (.b n)=.b (m+n):=rfl
@[simp] theorem aoP a:.H (Je a none):=by cases a<;>rfl
@[simp] theorem aoQ a:.H (Je none a):=by cases a<;>rfl
@[simp] theorem aoR m n:wL (.b m) (.b n)=.b (m*n):=rfl
@[simp] theorem aoS:wL (.b 0) none=.b 0:=rfl
@[simp] theorem aoT:wL none (.b 0)=.b 0:=rfl
@[simp] theorem aoU n:.H (wL (.b<|n+1) none):=rfl
@[simp] theorem aoV n:.H (wL none (.b<|n+1)):=rfl
@[simp] theorem aoW:.H (wL none none):=rfl
theorem pG a b:.aD a b=.aD b a:=by cases a<;>cases b<;>simp[zv]
theorem g5 a b c:.aD (.aD a b) c=.aD a (.aD b c):=by cases a<;>cases b<;>cases c<;>simp[aml]
def fx a:.aD a c0=a:=by cases a<;>simp[plus]
def j3 a:.aD c0 a=a:=by cases a<;>simp[plus]
theorem su a b:.ac a b=.ac b a:=by rcases a with _|(_|m)<;>rcases b with _|(_|n)<;>simp[C0]
theorem j4 a:.ac a c0=c0:=by rcases a with _|(_|m)<;>simp
theorem fS a:.ac c0 a=c0:=by rw[su,j4]
def AR a:.ac a c1=a:=by rcases a with _|(_|m)<;>simp[times,c1]<;>rfl
def uU a:.ac c1 a=a:=by rw[su,AR]
theorem AS a b c:.ac a (.aD b c)=.lb a b (.ac a c):=by rcases a with _|(_|m)<;>rcases b with _|(_|n)<;>rcases c with _|(_|p)<;>simp[Nat.mul_add];rfl
theorem LO a b c:.ac (.aD a b) c=.lb a c (.ac b c):=by simp[su,AS]
def succ_mul_succ m n:(m+1)*(n+1)=(m*n+m+n)+1:=.d
theorem xG a b c:.ac (.ac a b) c=.ac a (.ac b c):=by rcases a with _|(_|m)<;>rcases b with _|(_|n)<;>rcases c with _|(_|p)<;>simp[succ_mul_succ];lk
theorem lS:.ac a b=c0↔a=c0\/b=c0:=by rcases a with _|(_|m)<;>rcases b with _|(_|n)<;>simp[succ_mul_succ]
def LP:.aD a b=c0↔a=c0/\b=c0:=by let _|||m:=a<;>let _|||n:=b<;>simp
def aO(l:.y bE):=l.foldr plus c0
@[simp] theorem LQ:aO []=c0:=rfl
@[simp] theorem iK a l:aO (a::l)=.aD a (aO l):=rfl
def EC l m:aO (l++m)=.aD (aO l) (aO m):=by
 induction l with
 |nil=>simp[j3]
 |cons a l E=>grind[iK,g5]
theorem uV:aO l=c0↔∀c∈l,c=c0:=by
 induction l with
 |nil=>simp
 |cons a l E=>rw[iK,LP,E];simp
def AU{N:Type}(l:.aS) f h:.dL (.ah (.aD (f x)<|h x))=.aD (.dL f) (.dL h):=by
 induction l with
 |nil=>simp[plus]
 |cons a l E=>grind[iK,g5,pG]
def AV{N:Type}(l:.aS) f c:.ac c (.dL f)=.dL (.ah (.ac c<|f x)):=by
 induction l with
 |nil=>simp[j4]
 |cons a l E=>grind[iK,AS]
def LR{N:Type}(l:.aS) f c:.ac (.dL f) c=.dL (.ah<|.ac (f x) c):=by simp[su,AV]
def jA{N:Type}{l:.aS}{f h}(e:∀x∈l,f x=h x):.dL f=.dL h:=by rw[dG e]
def Zt{N c:Type}(l:.aS)(m:.y c)(f:N->c->bE):.dL (.ah (aO<|m.map λy=>f x y))=aO (m.map λy=>.dL (.ah<|f x y)):=by
 induction l with
 |nil=>grind[uV]
 |cons a l E=>simp_all[AU]
theorem j5{N:Type}{l:.aS}{f}(e:∀x∈l,f x=c0):.dL f=c0:=by rw[uV];lk
def Le:bE->bE->Prop
 |_,none=>True
 |none,some _=>False
 |some m,some n=>m<=n
theorem Le.refl a:Le a a:=by cases a<;>simp[Le]
theorem Le.trans(h:Le a b)(h':Le b c):Le a c:=by cases a<;>cases b<;>cases c<;>simp[Le] at*;lia
def Le.antisymm(h:Le a b)(h':Le b a):a=b:=by cases a<;>cases b<;>simp[Le] at*;lia
def ED a b:Le a (.aD a b):=by cases a<;>cases b<;>simp[Le]
def Zu a b:Le b (.aD a b):=by rw[pG];show ED _ _
def le_none a:Le a none:=by cases a<;>simp[Le]
def Le.EE(h:Le a c0):a=c0:=by cases a<;>simp[Le] at*;show h
def Le.Zv(h:Le none a):.H a:=by cases a<;>simp[Le] at*
def EF(h:c∈l):Le c (aO l):=by
 induction l with
 |nil=>simp at h
 |cons a l E=>
  let rfl|||h:=.c6 h
  .show ED _ _
  .show .aA (E h) (Zu _ _)
def LS{a b}(Y:.ad b):Le a (.ac a b):=by rcases a with _|(_|m)<;>rcases b with _|(_|n)<;>simp[Le] at*;lk
def Zw{a b}(Y:.ad b):Le a (.ac b a):=by rw[su];show LS Y
theorem Le.xH(h:Le a b)(J:.ad a):.ad b:=λe=>J<|by rw[e] at h;show h.EE
def cz(f:Nat->Nat):bE->Prop
 |some n=>∃k,∀m,k<=m->f m=n
 |none=>∀n,∃k,∀m,k<=m->n<=f m
def cz.uniq(h:cz f a)(h':cz f b):a=b:=by
 match a,b,h,h' with
 |some m,some n,⟨k,L⟩,⟨l,d⟩=>rw[<-L (max k l) .a,<-d (max k l) .a]
 |some m,none,⟨k,L⟩,h'=>let[l,d]:=h' (m+1);have:=L (max k l) .a;lk
 |none,some m,h',⟨k,L⟩=>let[l,d]:=h' (m+1);have:=L (max k l) .a;lk
 |none,none,_,_=>rfl
def cz.const n:cz (λ_=>n) (.b n):=(.c 0 λ_ _=>rfl)
theorem cz.add{a b}(J:cz f a)(V:cz h b):.kb (f k+h k) (.aD a b):=by
 match a,b,J,V with
 |some m,some n,⟨k,L⟩,⟨l,d⟩=>show(.m8 (max k l) .d)
 |some m,none,_,V=>show λn=>let⟨l,d⟩:=V n;(.m8 l (bC (d i c)<|anu _ _))
 |none,some m,J,_=>show .wl
 |none,none,J,_=>show .wl
def cz.mul{a b}(J:cz f a)(V:cz h b):.kb (f k*h k) (.ac a b):=by
 match a,b,J,V with
 |some m,some n,⟨k,L⟩,⟨l,d⟩=>show(.m8 (max k l) .d)
 |some 0,none,⟨k,L⟩,V=>show(.m8 k .d)
 |some (m+1),none,⟨k,L⟩,V=>intro n;let[l,d]:=V n;calc(.m8 (max k l) ?_);change n<=f i*h i;rw[L i .a];lk
 |none,some 0,V,⟨k,L⟩=>show(.m8 k .d)
 |none,some (m+1),V,⟨k,L⟩=>intro n;let[l,d]:=V n;calc(.m8 (max k l) ?_);change n<=f i*h i;rw[L i .a];lk
 |none,none,J,V=>intro n;let[l,d]:=J n;let[k,L]:=V 1;calc(.m8 (max k l) ?_);have:=d i .a;show bC this (C_ _ .d)
def cz.sum{N:Type}(l:.aS){f:.bn (N->Nat)}{c}(h:∀x∈l,.kb (f k x)<|c x):.kb (.hG<|f k) (.dL c):=by
 induction l with
 |nil=>show cz.const 0
 |cons a l E=>grind[iK,add]
def cz.Zx(h:cz f a):.kb (f<|k+1) a:=by
 match a,h with
 |some n,⟨k,L⟩=>show(.c k (.hw<|L _ .a))
 |none,h=>show λn=>let⟨k,L⟩:=h n;(.c k (.hw<|L _ .a))
def qE(f:Nat->Nat):=.aM<|f k<=f (k+1)
def qE.le(h:qE f){i j}(J:i<=j):f i<=f j:=by
 induction j with
 |zero=>lk
 |succ j E=>
  by_cases e:i=j+1
  .lk
  .show bC (E .a) (h j)
def qE.lim(h:qE f):∃c,cz f c:=by
 by_cases Y:∃B,.aM (f k<=B)
 .obtain⟨B,a⟩:=Y;let F:∀d,.aM (B-f k<=d->∃c,cz f c):=by
   intro d;induction d with
   |zero=>intro k L;show(.g (.b<|f k) k<|.hw (Nat.le_antisymm .d<|h.le G))
   |succ d E=>
    intro k L;by_cases e:∀m,k<=m->f m=f k
    .show(.g (.b<|f k) k e)
    .let[m,G]:=T_.mp e;let[H,M]:=Ua.mp G;have:=h.le H;lk
  show F _ 0 .ao
 .calc(.c none λn=>?_);by_cases e:∃k,n<=f k
  .let[k,L]:=e;show(.c k<|.hw (bC L<|h.le G))
  .show .aa (.c n<|.aU .d) Y
def cz.LU(h:.aM (f k=0)):cz f c0:=(.c 0 λm _=>h m)
def cz.Zy(G:qE f)(h:cz f c0):.aM (f k=0):=by let[l,d]:=h;intro k;let B:=G.le (Jf k l);lk
def lT(f:.bn .mt):Sym->.mt
 |.non b,v=>f b v
 |.range c a,[b]=>.dq<|c<=b/\b<=a
 |.range _ _,_=>0
def gH(f:.bn .mt):.bq->.mt
 |[],u=>.dq<|u=[]
 |s::l,u=>(.lu (.ee+1) (.bg<|lT f s (.et c)*gH f l (u.drop c)))
def sv(rs:.b2)(f:.bn .mt)(a:Nat)(u:.h):=(.lZ .Am).sum
def N(rs:.b2):.dv .mt
 |0,_,_=>0
 |k+1,a,u=>sv rs (N rs k) a u
def bH(f:.j1):Sym->.pB
 |.non b,v=>f b v
 |.range c a,[b]=>.db<|c<=b/\b<=a
 |.range _ _,_=>c0
def aU(f:.j1):.bq->.pB
 |[],u=>.db<|u=[]
 |s::l,u=>.i2 (.ee+1)<|.mS (bH f s<|.et c) f l c
def n6(rs:.b2)(f:.j1)(a:Nat)(u:.h):=aO<|.lZ .Al
def sx{N:Type}{l:.aS}{f h:N->Nat}(e:∀x∈l,f x<=h x):(.hG f)<=(.hG h):=by
 induction l with
 |nil=>show .ao
 |cons a l E=>simp only[bx,ui];show Nat.add_le_add (e a<|y_ ..) (E (.eu (e x<|gR _ D)))
def Zz(e:∀a u,f a u<=h a u) s v:lT f s v<=lT h s v:=by
 cases s with
 |non b=>show e b v
 |range g d=>let _|||[b,_|||[c,v]]:=v<;>show .ao
def LV(e:∀a u,f a u<=h a u):∀l u,gH f l u<=gH h l u
 |[],_=>.ao
 |s::l,u=>sx λc _=>zw (Zz e s _) (LV e l _)
def ZA{f h}(e:∀a u,f a u<=h a u) a u:sv rs f a u<=sv rs h a u:=
 sx λr _=>by
  change .Am<=.mR (.C=a) (gH h .O u);split
  .show LV e _ _
  .show .ao
def xI rs:∀k a u,N rs k a u<=N rs (k+1) a u
 |0,_,_=>eY _
 |k+1,a,u=>ZA (xI rs k) a u
def ZC{f:.dv .mt}{F}(e:∀a u,.kb (f k a u) (F a u)) s v:.kb (lT (f k) s v) (bH F s v):=by
 cases s with
 |non b=>show e b v
 |range g d=>
  let _|||[b,_|||[c,v]]:=v
  .show cz.const 0
  .change cz (.P (.dq<|g<=b/\b<=d)) (.db<|g<=b/\b<=d);split
   .show cz.const 1
   .show cz.const 0
  .show cz.const 0
def EG{f:.dv .mt}{F}(e:∀a u,.kb (f k a u) (F a u)):∀l u,.kb (gH (f k) l u) (aU F l u)
 |[],u=>by
  change cz (.P (.dq<|u=[])) (.db<|u=[]);split
  .show cz.const 1
  .show cz.const 0
 |s::l,u=>cz.sum _ λc _=>(ZC e s _).mul (EG e l _)
def ZD{f:.dv .mt}{F}(e:∀a u,.kb (f k a u) (F a u)) a u:.kb (sv rs (f k) a u) (n6 rs F a u):=
 cz.sum _ λr _=>by
  change .kb (.mR (.C=a)<|gH (f k) .O u) (.eC (.C=a)<|aU F .O u);split
  .show EG e _ _
  .show cz.const 0
noncomputable def T(rs:.b2)(a:Nat)(u:.h):=Classical.choose<|qE.lim (.aU<|xI rs k a u)
def n8 rs a u:.kb (N rs k a u) (.cM a u):=Classical.choose_spec<|qE.lim (f:=.aU<|N rs k a u) (.aU<|xI rs k a u)
theorem qF rs a u:.cM a u=n6 rs (T rs) a u:=
 (n8 rs a u).Zx.uniq (ZD (n8 rs) a u)
theorem uW:.cM a u=c0↔.aM (N rs k a u=0):=
 (.da (λe=>cz.Zy (.aU<|xI rs k a u)<|e▸n8 rs a u) ((n8 rs a u).uniq<|cz.LU h))
theorem EH rs k a u:.in (N rs k a u) (.cM a u):=by
 let h:=n8 rs a u;cases e:.cM a u with
 |none=>show le_none _
 |some n=>rw[e] at h;let[l,d]:=h;let B:=qE.le (f:=.aU<|N rs k a u) (.aU<|xI rs k a u) (Jf k l);let M:=d _ (anv k l);change N rs k a u<=n;simp only at B M;lia
def Le.plus(h:Le a b)(h':Le c d):Le (.aD a c) (.aD b d):=by cases a<;>cases b<;>cases c<;>cases d<;>simp[Le] at*;lia
def Le.times(h:Le a b)(h':Le c d):Le (.ac a c) (.ac b d):=by rcases a with _|(_|a)<;>rcases b with _|(_|b)<;>rcases c with _|(_|c)<;>rcases d with _|(_|d)<;>simp[Le] at*;show zw .a .a
def AW{N:Type}{l:.aS}{f h}(e:∀x∈l,Le (f x)<|h x):Le (.dL f) (.dL h):=by
 induction l with
 |nil=>show .er
 |cons a l E=>simp only[bx,iK];show(e a<|y_ ..).plus (E (.eu (e x<|gR _ D)))
def AX(e:∀a u,Le (f a u) (h a u)) s v:Le (bH f s v) (bH h s v):=by
 cases s with
 |non b=>show e b v
 |range g d=>let _|||[b,_|||[c,v]]:=v<;>show .er
theorem AY(e:∀a u,Le (f a u) (h a u)):∀l u,Le (aU f l u) (aU h l u)
 |[],_=>.er
 |s::l,u=>AW λc _=>(AX e s _).times (AY e l _)
def LW n f:.gk (n+1) f=.aD (.gk n f) (f n):=by rw[lH,bo,EC];simp[fx]
def sA n f:.gk (n+1) f=.aD (f 0) (.gk n (λi=>f<|i+1)):=by rw[IS,bx,iK,a_];rfl
def xJ{u}(h:u≠[]):aU f [] u=c0:=by change(.db<|u=[])=c0;rw[.x h]
def ZE n(f:.bn .fF):
  .i2 (n+1) (.gk (n-c+1) λe=>f c e)=.gk (n+1) (λd=>.i2 (d+1) (f c<|d-c)):=by
 induction n generalizing f with
 |zero=>simp
 |succ n E=>
  rw[sA<|n+1];simp only[anw];let L:.dt (n+1) (λi=>.gk (n+1-(i+1)+1) λe=>f (i+1) e)=.dt (n+1) (.bg<|.gk (n-c+1) λe=>f (c+1) e):=by apply dG;intro c _;rw[.dg<|n+1-(c+1)=n-c]
  rw[L,E λc e=>f (c+1) e];rw[sA (n+1) λd=>.i2 (d+1) (f c<|d-c)];let C:.dt (n+1) (λi=>.i2 (i+1+1) (f c<|i+1-c))=.dt (n+1) (λi=>.aD (f 0<|i+1)<|.i2 (i+1) (f (c+1)<|i-c)):=by
   apply dG;intro d _;rw[sA<|d+1];congr 1
   .congr 1;apply dG;intro c _;rw[.dg<|d+1-(c+1)=d-c]
  rw[C,AU,sA<|n+1];simp only[g5];congr 1;simp[aO,fx]
def LX f:∀l m u,aU f (l++m) u=.i2 (.ee+1) (.mS (aU f l<|.et c) f m c)
 |[],m,u=>by
  rw[sA];have:∀i∈aq .ee,.mS (aU f [] (.et<|i+1)) f m (i+1)=c0:=by
   intro i a;rw[xJ,fS];intro e;let B:(.m (.et<|i+1))=0:=.dR
   rw[dZ] at B;let M:=c4.mp a;lia
  rw[j5 this,fx];change _=.ac (.db<|.et 0=[]) _;simp[uU]
 |s::l,m,u=>by
  change .i2 (.ee+1) .ze=_;let L:∀c∈aq<|.ee+1,.ze=.gk (.ee-c+1) (λe=>.u0):=by intro c _;rw[LX f l m<|u.drop c,AV,Jg];simp only[Ub]
  rw[jA L,ZE .ee λc e=>.u0];apply jA;intro d N;let N:d<.ee+1:=c4.mp N;change _=.mS (.i2 ((.m<|.et d)+1) (.ia (bH f s<|.aC (.et d) c) f l<|(.et d).drop c)) f m d;rw[LR,dZ,wM .a];apply jA;intro c V;let V:c<d+1:=c4.mp V;rw[xG,anx,wM .a,Jh,.dg<|c+(d-c)=d]
abbrev Nd:=Nat×.h
def Child(rs:.b2)(n m:Nd):=∃r∈rs,.C=n.1/\∃o U g K,.O=o++c5 m.1::U/\n.2=g++(m.2++K)/\.ad (.i6 o g)/\.ad (.cM m.1 m.2)/\.ad (.i6 U K)
def EI{n c} f(h:c<n):Le (f c) (.gk n f):=EF (.f7 c<|.fO h)
def ZF f o U b g v K:Le (.ac (aU f o g)<|.ia (f b v) f U K) (aU f (o++c5 b::U)<|g++(v++K)):=by rw[LX];calc Le.trans ?_ (EI _ (c:=.f1) .dV);rw[zx,Ji];calc(.er).times ?_;calc Le.trans ?_ (EI _ (c:=.jY) .dV);rw[zx,Ji];show .er
theorem LY(Z:r∈rs) f u:Le (aU f .O u) (n6 rs f .C u):=.sA (EF (.f7 r Z:_∈rs.map (.bO (.eC (q.lhs=.C)<|aU f q.rhs u)))) .gO
def Child.EJ(h:Child rs n m):.ad (.cM m.1 m.2):=by let[_,_,_,_,_,_,_,_,_,_,h,_]:=h;show h
def Child.le(h:Child rs n m):.zd:=by let[r,Z,d,o,U,g,K,L,C,B,_,A]:=h;rw[qF rs n.1 n.2,<-d];calc Le.trans ?_ (LY Z _ _);rw[L,C];calc Le.trans ?_ (ZF _ o U m.1 g m.2 K);show .aA (LS A) (Zw B)
def xK(n:Nat)(c:bE):=∃m,c=.b m/\n<m
def EK{N:Type}{l:.aS}{h}{M}(e:.dL h=.b M):∀x∈l,∃m,h x=.b m:=by
 intro x D;cases q:h x with
 |some m=>simp
 |none=>have:=EF (.f7 x D:h x∈_);rw[q,e] at this;show this.elim
def EL{N:Type}{l:.aS}{f}{h}{M}(I:∀x∈l,.in (f x)<|h x)(e:.dL h=.b M){x}(D:x∈l)(c:xK (f x) (h x)):(.hG f)<M:=by
 induction l generalizing M with
 |nil=>simp at D
 |cons a l E=>
  simp only[bx,iK] at e;simp only[bx,ui];cases L:h a with
  |none=>cbv
  |some p=>
   cases C:.dL h with
   |none=>cbv
   |some q=>
    rw[L,C] at e;let e:=we e;let B:=I a (y_ ..);rw[L] at B;let B:f a<=p:=B;let rfl|||D:=.c6 D
    .obtain⟨m,G,K⟩:=c;rw[L] at G;cases G;have:(.hG f)<=q:=by
      have:.in (.hG f) (.dL h):=by
       clear E e D C;induction l with
       |nil=>show .er
       |cons b l E=>show(I b .f).plus (E (.d2<|I y .d))
      rw[C] at this;show this
     lia
    lk
def LZ{S R}{M}(hs:.in s S)(H:.ad S)(Z:xK r R)(e:.ac S R=.b M):s*r<M:=by
 let[m,rfl,G]:=Z;let _|||p:=S
 .let _|||m:=m
  .lia
  .simp at e
 .let e:=we e;have:p≠0:=.bO (H<|by rw[q])
  calc s*r<=p*r:=zw hs .ao
   _<p*m:=Nat.mul_lt_mul_of_pos_left G .a
   _=M:=e
def ZG{S R}{M}(hs:xK s S)(Z:.in r R)(P:.ad R)(e:.ac S R=.b M):s*r<M:=by rw[su] at e;rw[C0];show LZ Z P hs e
section
variable{f:.bn .mt}{F:.j1}(le:∀a u,.in (f a u) (F a u))
include le
def AZ s v:.in (lT f s v) (bH F s v):=by
 cases s with
 |non b=>show le b v
 |range e d=>
  let _|||[b,_|||[c,v]]:=v
  .show .er
  .change .in (.dq<|e<=b/\b<=d) (.db<|e<=b/\b<=d);split<;>show .er
  .show .er
theorem ZH{N:Type}{l:.aS}{p}{h}(e:∀x∈l,.in (p x)<|h x):.in (.hG p) (.dL h):=by
 induction l with
 |nil=>show .er
 |cons b l E=>show(e b .f).plus (E (.d2 (e y<|gR _ T)))
theorem xM:∀l u,.in (gH f l u) (aU F l u)
 |[],u=>by change .in (.dq<|u=[]) (.db<|u=[]);split<;>show .er
 |s::l,u=>ZH le λc _=>(AZ le s _).times (xM l _)
def L0{U}(Y:xK (f b v) (F b v))(d:.ad (aU F U K)):∀o g M,.ad (aU F o g)->
  aU F (o++c5 b::U) (g++(v++K))=.b M->gH f (o++c5 b::U) (g++(v++K))<M
 |[],g,M,B,e=>by
  let T:=.t6 (B<|xJ q)
  subst T;let e:.i2 _ (.ia (bH F _<|.aC (v++K) c) F U<|(v++K).drop c)=_:=e;change(.lu _ (.bg<|lT f _ (.aC (v++K) c)*gH f U ((v++K).drop c)))<M;let V:.jY∈aq ((.m<|v++K)+1):=.fO .dV;refine EL (λc _=>?_) e V ?_
  .show(AZ le _ _).times (xM le U _)
  .let[m,G]:=EK e _ V;calc(.cf m G);rw[zx,Ji] at G|-;show ZG Y (xM le U K) d G
 |s::o,g,M,B,e=>by
  obtain⟨c,V,h,k⟩:∃c,c<.f1+1/\.ad (bH F s<|g.take c)/\.ad (aU F o<|g.drop c):=by apply dW;intro q;apply B;change aO _=c0;grind[j5,lS]
  let e:.i2 _ (.ia _ F (o++_::U) _)=_:=e;let l:c∈aq ((.m<|g++(v++K))+1):=.fO .dV;let j:.aC (g++(v++K)) c=_:=Jj .a;let i:_=g.drop c++(v++K):=List.drop_append_of_le_length .a;refine EL (λc _=>?_) e l ?_
  .show(AZ le s _).times (xM le _ _)
  .let[m,G]:=EK e _ l;calc(.cf m G);simp only[j,i] at G|-;cases P:aU F _ _ with
   |none=>
    rw[P] at G;generalize bH F s _=S at G h;rcases S with _|(_|n)
    .simp at G
    .lk
    cbv
   |some R=>calc LZ (AZ le s _) h (.aX R ?_) .d;show L0 Y d o _ R k P
def ZI(Z:r∈rs){b}{v g K}{o U}(R:.O=o++c5 b::U)(Y:xK (f b v) (F b v))(B:.ad (aU F o g))(c:.ad (aU F U K)){M}
  (e:n6 rs F .C (g++(v++K))=.b M):sv rs f .C (g++(v++K))<M:=by
 refine EL (λq _=>?_) e Z ?_
 .grind [xM,Le.refl]
 .let[m,G]:=EK e r Z;calc(.cf m G);simp only[if_true] at G|-;rw[R] at G|-;show L0 le Y c o g m B G
end
inductive bz{α:Type}(C:α->α->Prop):α->α->Prop
 |one {a b:α}:C a b->bz C a b
 |more {a b c:α}:C a b->bz C b c->bz C a c
theorem bz.trans{a b c:α}(h:bz C a b)(h':bz C b c):bz C a c:=by
 induction h with
 |one q=>show .more q h'
 |more q _ E=>show .more q (E h')
def bz.snoc{a b c:α}(h:bz C a b)(h':C b c):=h.trans<|.one h'
def bz.mono{C D}(i:∀a b,C a b->D a b){a b:α}(h:bz C a b):bz D a b:=by
 induction h with
 |one q=>show .one (i _ _ q)
 |more q _ E=>show .more (i _ _ q) E
def bz.last{a c:α}(h:bz C a c):∃b,(a=b\/bz C a b)/\C b c:=by
 induction h with
 |one q=>lk
 |more q _ E=>
  let[b,Y,V]:=E;calc(.g b (.F ?_) V);let rfl|||Y:=Y
  .show .one q
  .show .more q Y
def bz.le(h:.kG rs n m):.zd:=by
 induction h with
 |one q=>show q.le
 |more q _ E=>show E.trans q.le
def bz.EJ(h:.kG rs n m):.ad (.cM m.1 m.2):=by
 induction h with
 |one q=>show q.EJ
 |more _ _ E=>show E
def EM(h:.kG rs n n):.H (.cM n.1 n.2):=by
 cases e:.cM n.1 n.2 with
 |none=>rfl
 |some m=>
  let v:∀j,.kG rs n j->.kG rs j n->.cM j.1 j.2=.b m:=λj B M=>by let a:=B.le;let b:=M.le;rw[e] at a b;show Le.antisymm a b
  have G:m≠0:=.bO (h.EJ<|by rw[e,q]);let p:∀k j,.kG rs n j->.kG rs j n->N rs k j.1 j.2<m:=by
   intro k;induction k with
   |zero=>intro j _ _;change 0<m;lia
   |succ k E=>
    intro j B M;obtain⟨y,V,A,P⟩:∃y,Child rs j y/\.kG rs n y/\.kG rs y n:=by
     cases M with
     |one q=>lk
     |more q r=>show(.en q (B.snoc q) r)
    let x:=E y A P;let C:=v y A P;let L:=v j B M;let[r,Z,d,o,U,g,K,R,i,s,_,c]:=V;rw[qF,<-d,i] at L;have:=ZI (EH rs k) Z R (.g m C x) s c L;rw[d,<-i] at this;show this
  let l:=n8 rs n.1 n.2;rw[e] at l;let[k,t]:=l;have:=p k n h h;lk
def lU(f:.j1):Sym->.bq->.pB
 |.range d a,l,u=>.mS (bH f (.eb d a)<|.et 1) f l 1
 |.non b,l,u=>.i2 (.ee-1) (.mS (f b (.et<|c+1)) f l<|c+1)
def EN(f:.j1):Sym->.bq->.pB
 |.range _ _,_,_=>c0
 |.non b,l,u=>.ia (f b u) f l []
def EO f s l{u}(R:u≠[]):aU f (s::l) u=.aD (.ia (bH f s []) f l u) (.aD (lU f s l u)<|EN f s l u):=by
 obtain⟨n,t⟩:∃n,.ee=n+1:=by
  cases u with
  |nil=>lk
  |cons b u=>simp
 change aO _=_;rw[sA];let I:.mS (bH f s<|.et 0) f l 0=.ia (bH f s []) f l u:=.f
 congr 1;cases s with
 |non b=>rw[t,LW];let L:.et (n+1)=u:=nL .a;let C:u.drop (n+1)=[]:=Jk .a;rw[L,C];change _=.aD (aO _) _;rw[t];rfl
 |range a d=>
  rw[t,sA];congr 1;calc j5 λc V=>?_;have:∃p q r,.et (c+1+1)=p::q::r:=by
   match h:.et _ with
   |[]=>cbv
   |[p]=>have:=.dN IK h;lk
   |p::q::r=>simp
  let[p,q,r,e]:=this;rw[e];show fS _
def Bc(f:.j1):.bq->.pB
 |[],_=>c0
 |s::l,u=>.aD (lU f s l u) (.ac (bH f s [])<|Bc f l u)
def sC(b:Nat):Sym->Bool
 |.non k=>k==b
 |.range _ _=>false
def Uc(f:.j1):.bq->.fF
 |[],_=>c0
 |s::l,b=>.sQ
def L1{n b}(Y:b<n)(h:.fF):.gk n (λi=>.eC (i=b)<|h i)=h b:=by
 induction n with
 |zero=>lia
 |succ n E=>
  rw[LW];by_cases e:n=b
  .subst e;rw[.gO,j5,j3];lk
  .rw[.bU,fx,E .a]
def L4 f{n}{u}(R:u≠[]):.hU ((.bu (c5 b∈l)<|b<n)->aU f l u=.aD (Bc f l u) .xj)
 |[],_=>by change(.db<|u=[])=.aD c0 _;rw[.x R,j3,j5];intro b _;show fS _
 |s::l,t=>by
  have E:=L4 f R (.a4 (t b<|gR _ Y));rw[EO f s l R,E,AS];change _=.aD (.aD _ _) (.gk n (.bw<|.ac (.aD _ _) _));let L:.gk n (.bw (.ac .sQ<|f b u))=.lb (bH f s []) .xj (EN f s l u):=by
   have:∀b∈aq n,.ac .sQ (f b u)=.lb (bH f s []) (.ac (Uc f l b)<|f b u) (.eC (.n<|sC b s)<|.ia (f b u) f l []):=by grind[LO,xG,su,fS]
   rw[jA this,AU,AV];congr 1;cases s with
   |range c d=>calc j5 .om;rfl
   |non k=>
    let a:=t k .f;have:∀b∈aq n,(.eC (.n (sC b<|c5 k))<|.ia (f b u) f l [])=(.eC (b=k)<|.ia (f b u) f l []):=by intro b _;change(.e9 (.fc k b) _ _)=_;lk
    rw[jA this,L1 a (.bw _)];rfl
  rw[L];generalize .ac _ _=A;generalize .ac _ _=B;generalize lU f s l u=C;generalize EN f s l u=D;rw[g5,g5,pG A,<-g5 B C D,pG B C,g5 C B D,g5,pG _ A]
def mN(rs:.b2)(f:.j1)(a:Nat)(u:.h):=aO<|.lZ .Ae
def iL(rs:.b2)(f:.j1)(a b:Nat):=aO<|.lZ .tH
def ER f{n}(t:∀r∈rs,.bu (c5 b∈.O)<|b<n) a{u}(R:u≠[]):n6 rs f a u=.aD (mN rs f a u) (.gk n<|.bw (.ac (iL rs f a b)<|f b u)):=by
 unfold n6 mN iL;let L:∀r∈rs,.Al=.aD .Ae (.gk n<|.bw (.ac .tH<|f b u)):=by
  intro r Z;by_cases e:.C=a
  .simp only[.cK];show L4 f R (t r Z)
  simp_all[j5,fS]
 rw[jA L,AU,Zt];simp[LR]
theorem ES{N:Type}(l:.aS) f:.dL (.ah (.b<|f x))=.b (.hG f):=by
 induction l with
 |nil=>rfl
 |cons a l E=>cbv
def ET f s u:bH (λa u=>.b<|f a u) s u=.b (lT f s u):=by
 cases s with
 |non b=>rfl
 |range e d=>
  let _|||[b,_|||[c,v]]:=u
  .rfl
  .change(.db<|e<=b/\b<=d)=.b (.dq<|e<=b/\b<=d);lk
  .rfl
theorem EU f:∀l u,aU (λa u=>.b<|f a u) l u=.b (gH f l u)
 |[],u=>.mY<|(.db<|u=[])=.b (.dq<|u=[])
 |s::l,u=>by change _=.b (.lu _ (.bg<|_*_));rw[<-ES];apply jA;intro c _;rw[ET,EU f l];rfl
def L5 rs f a u:n6 rs (λa u=>.b<|f a u) a u=.b (sv rs f a u):=by change aO _=.b .zK;grind[ES,EU]
section
variable{f h:.j1}(le:∀a u,Le (f a u) (h a u))
include le
def ZJ s l u:Le (lU f s l u) (lU h s l u):=by
 cases s with
 |range e d=>show(AX le _ _).times (AY le _ _)
 |non b=>show AW λc _=>(le _ _).times (AY le _ _)
theorem L6:∀l u,Le (Bc f l u) (Bc h l u)
 |[],_=>.er
 |s::l,u=>(ZJ le s l u).plus ((AX le _ _).times<|L6 l u)
theorem L7 b:∀l,Le (Uc f l b) (Uc h l b)
 |[]=>.er
 |s::l=>((AX le _ _).times<|L7 b l).plus<|by grind[AY,Le.refl]
theorem ZK rs a u:Le (mN rs f a u) (mN rs h a u):=AW λr _=>by grind[L6,Le.refl]
def ZL rs a b:Le (iL rs f a b) (iL rs h a b):=AW λr _=>by grind[L7,Le.refl]
end
def A0:.hU (.ad (Uc f l b)->∃o U,l=o++c5 b::U/\.ad (aU f o [])/\.ad (aU f U []))
 |[],h=>.hs h
 |s::l,h=>by
  by_cases B:.ac (bH f s []) (Uc f l b)=c0
  .let M:.ad (.eC (.n<|sC b s)<|aU f l []):=.s (h<|by change .aD _ _=c0;cbv);by_cases e:.n (sC b s)
   .rw[.cK] at M;cases s with
    |range g i=>cases e
    |non k=>have:=eq_of_beq e;subst this;show(.aW [] l (by change .Ad;simp) M)
   lk
  .let c:.ad (bH f s []):=.s (B<|by rw[z,fS]);let d:.ad (Uc f l b):=.s (B<|by rw[z,j4]);let[o,U,e,A,P]:=A0 d;calc(.I (s::o) U .dR ?_ P);change .ad (aO _);intro z;rw[uV] at z;have:=z (.ia (bH f s []) f o []) (.pf 0 .f .f);let q|||q:=lS.mp this
   .show c q
   lk
def A1(h:.ad (iL rs (T rs) a b))(Y:.ad (.cM b u)):Child rs (a,u) (b,u):=by
 have:∃r∈rs,.ad (.eC (.C=a)<|Uc (T rs) .O b):=.s0
 let[r,Z,R]:=this;by_cases e:.C=a
 .rw[.cK] at R;let[o,U,c,B,M]:=A0 R;show{r,Z,e,o,U,[],[],c,.f,B,Y,M}
 lk
def g6(rs:.b2)(a b:Nat):=.ad<|iL rs (T rs) a b
def L8(h:bz (g6 rs) a b)(Y:.ad (.cM b u)):.ad (.cM a u)/\.kG rs (a,u) (b,u):=by
 induction h with
 |one q=>show(.c ((A1 q Y).le.xH Y) (.one<|A1 q Y))
 |more q _ E=>let[B,M]:=E Y;show(.c ((A1 q B).le.xH B)<|.more (A1 q B) M)
def ZM rs{n}(t:∀r∈rs,.bu (c5 b∈.O)<|b<n) a{u}(R:u≠[]):Le (mN rs (T rs) a u) (.cM a u):=by rw[qF rs a u,ER _ t a R];show ED _ _
def ZN(t:∀r∈rs,.bu (c5 b∈.O)<|b<n){a b}{u}(R:u≠[])(J:bz (g6 rs) a a)(Y:bz (g6 rs) a b)(h:.ad (mN rs (T rs) b u)):.H (.cM a u):=by let B:=(ZM rs t b R).xH h;let M:=(L8 Y B).1;show EM (L8 J M).2
def ZO(t:∀r∈rs,.bu (c5 b∈.O)<|b<n){a}{u}(R:u≠[])(J:bz (g6 rs) a a)(h:.bu (bz (g6 rs) a b) (mN rs (T rs) b u=c0)):.cM a u=c0:=by
 have F:∀k b,bz (g6 rs) a b->N rs k b u=0:=by
  intro k;induction k with
  |zero=>intro b _;rfl
  |succ k E=>
   intro b Y;let e:.b (N rs (k+1) b u)=_:=(L5 rs _ b u).symm;rw[ER _ t b R] at e;let x:mN rs (λa u=>.b<|N rs k a u) b u=c0:=Le.EE (by grind[ZK,EH]);let B:.i2 n (.ac (iL rs (λa u=>.b<|N rs k a u) b c) (.b<|N rs k c u))=c0:=by
    calc j5 λc _=>?_;by_cases q:iL rs (T rs) b c=c0
    .have:=Le.EE (by rw[<-q];show ZL (EH rs k) rs b c);cbv
    .rw[E c<|Y.snoc q,j4]
   cbv
 show uW.mpr (.aU<|F k a J)
def MW:=1000000000000000000000000000000000000000000000000000000000000
def END:=MW^3
def EV:0<MW:=.V
def ZP:END=MW*MW*MW:=.bm
def enc:bE->Nat
 |some n=>.gV n
 |none=>END
def settle(w:Nat):=.A (w<=MW) w<|.A (w<END) MW END
def Ap(w:Nat)(c:bE)(n:Nat):=match c with
 |some v=>.gV w=.gV v/\w<=n*(MW*MW)
 |none=>END<=w
theorem uX:MW<END:=.fp
def L9(h:n<MW):n*(MW*MW)<END:=by rw[ZP,Nat.mul_assoc];show Nat.mul_lt_mul_of_pos_right h .V
theorem Ap.settle(h:Ap w c n)(t:n<MW):settle w=enc c:=by
 let M:=uX;unfold TT.settle;match c,h with
 |none,h=>let h:END<=w:=h;rw[.cD,.cD];rfl
 |some v,⟨B,A⟩=>let P:=L9 t;change _=.gV v;lk
theorem Ap.enc c:Ap (enc c) c 1:=by
 match c with
 |none=>show .ao
 |some v=>
  let h:MW<=MW*MW:=Jl _ EV;refine(.bM ?_)
  .change .gV (.gV v)=_;lia
  .change .gV v<=1*_;lia
def ZQ a b:.gV (.gV a*.gV b)=.gV (a*b):=by
 let m:=EV;by_cases J:a<=MW
 .by_cases Y:b<=MW
  .lk
  .rw[wM J,Jm (.dg<|MW<=b)];let rfl|||h:=o5 a
   .simp
   .let B:MW<=a*MW:=Jl _ h;let M:b<=a*b:=Jl _ h;lia
 .rw[Jm (.dg<|MW<=a)];let rfl|||h:=o5 b
  .simp
  .let A:1<=.gV b:=.a
   let B:MW<=MW*_:=C_ _ A;let M:a<=a*b:=C_ _ h;lia
theorem sD(h:.ad c):0<enc c:=by
 let m:=EV;let A:=uX;match c,h with
 |none,_=>change 0<END;lia
 |some 0,h=>lk
 |some (n+1),_=>change 0<.gV _;lia
def jB:enc c0=0:=.pW<|.gV 0=0
def uY:enc c=0↔c=c0:=by
 walk
 .intro h;apply dW;intro q;have:=sD q;lia
 .rintro rfl;rfl
def qG c:enc c<=END:=by
 have:=uX;match c with
 |none=>show .ao
 |some n=>change .gV n<=END;lia
def Ap.mul a b:Ap (.b0 a*.b0 b) (.ac a b) 1:=by
 match a,b with
 |some a,some b=>calc(.bM<|ZQ a b);change .gV a*.gV b<=1*_;simp[zw,Nat.min_le_right]
 |some 0,none=>show(.c .bm<|by rw[jB];simp)
 |none,some 0=>show(.c .bm<|by rw[jB];simp)
 |some (n+1),none=>show Jl _ (sD .f)
 |none,some (n+1)=>show C_ _ (sD .f)
 |none,none=>show C_ _ (sD .f)
theorem Ap.add{c d}{n m}(h:Ap w c n)(h':Ap v d m):Ap (w+v) (.aD c d) (n+m):=by
 match c,d,h,h' with
 |some a,some b,⟨B,M⟩,⟨A,P⟩=>calc(.bM .a);rw[Nat.add_mul];lia
 |some a,none,_,h'=>show bC (h') (anu _ _)
 |none,some b,h,_=>show bC (h) (C9 _ _)
 |none,none,h,_=>show bC (h) (C9 _ _)
def Ap.zero:Ap 0 c0 0:=(.aY<|eY _)
def Ap.mono(h:Ap w c n)(G:n<=m):Ap w c m:=by
 match c,h with
 |none,h=>show h
 |some v,⟨B,M⟩=>show(.c B (bC M<|Dc _ G))
def Ap.jX{n}(h:Ap w c n)(t:n<MW)(hw:END<=w):Ap w (.aD c d) n:=by
 match c,h with
 |none,h=>cbv
 |some v,⟨_,M⟩=>have:=L9 t;lia
def ZR c:=(Ap.enc c).settle .V
def eW(f:.j1):.bq->bE
 |[]=>c1
 |s::l=>.ac (bH f s [])<|eW f l
def sE f:∀l,aU f l []=eW f l
 |[]=>.bm
 |s::l=>by change aO _=.ac _ _;simp[fx,sE f l]
def L_ rs a:.cM a []=aO (.lZ (.eC (.C=a)<|eW (T rs) .O)):=by simp[qF,n6,sE]
def qH(rs:.b2)(a b:Nat):=∃r∈rs,.C=a/\c5 b∈.O/\.ad (eW (T rs) .O)
def EW f:∀l m,eW f (l++m)=.ac (eW f l) (eW f m)
 |[],m=>(uU _).symm
 |s::l,m=>by change .ac _ (eW f<|l++m)=.ac (.ac _ _) _;rw[EW f l m,xG]
def Ma(h:qH rs a b):Child rs (a,[]) (b,[]):=by let[r,Z,d,G,R]:=h;let[o,U,e]:=List.append_of_mem G;rw[e,EW] at R;let B:.ad (eW _ o):=.s (R<|by rw[z,fS]);let M:.ad (eW _<|_::U):=.s (R<|by rw[z,j4]);let A:.ad (.cM b []):=.s (M<|by change .ac (.cM b []) _=c0;rw[z,fS]);let P:.ad (eW (T rs) U):=.s (M<|by simp_all[eW,j4]);show{r,Z,d,o,U,[],[],e,rfl,by rw[sE];show B,A,by rw[sE];show P}
def ZS(h:bz (qH rs) a a):.H (.cM a []):=by
 have F:∀{a b:Nat},bz (qH rs) a b->.kG rs (a,[]) (b,[]):=by
  intro a b h;induction h with
  |one q=>show .one (Ma q)
  |more q _ E=>show .more (Ma q) E
 show EM (F h)
def xN:.hU (.ad (eW f l)↔∀s∈l,.ad (bH f s []))
 |[]=>by simp[eW]
 |s::l=>by change .ad (.ac _ _)↔_;rw[ne_eq,lS,not_or,<-ne_eq,<-ne_eq,xN];simp
def gJ(o:.h)(n t:Nat):.aR (Sym×Nat):=match o[t]?,o[t+1]? with
 |some 0,some a=>.kZ (a<n) (.be (.non a)<|t+2)
 |some 1,some c=>match o[t+2]? with
  |some b=>.kZ (c<=b/\b<=255) (.be (.eb c b)<|t+3)
  |none=>none
 |_,_=>none
def fD(o:.h)(n:Nat):.dv (.aR<|.bq×Nat)
 |0,t=>.be [] t
 |k+1,t=>match gJ o n t with
  |none=>none
  |some p=>(fD o n k p.2).map λy=>(p.1::y.1,y.2)
def h_(o:.h)(n t:Nat):.aR (bw×Nat):=match o[t]?,o[t+1]? with
 |some a,some m=>.b7 (a<n/\m<=8) ((fD o n m<|t+2).map λy=>({lhs:=a,rhs:=y.1},y.2)) none
 |_,_=>none
def f7(o:.h)(n:Nat):.dv (.aR<|.b2×Nat)
 |0,t=>.be [] t
 |k+1,t=>match h_ o n t with
  |none=>none
  |some p=>(f7 o n k p.2).map λy=>(p.1::y.1,y.2)
def lV(o:.h):.aR aQ:=match o[0]?,o[1]? with
 |some n,some m=>if(1<=n/\n<=20)/\m<=60 then(match f7 o n m 2 with
  |some y=>.f8 (y.2=.dh) {nons:=n,rules:=y.1}
  |none=>none) else none
 |_,_=>none
theorem qI{N:Type}(l:.aS) i:(l.drop i=[]/\.H (l[i]?))\/∃a,l[i]?=.b a/\l.drop i=a::l.drop (i+1):=by
 by_cases h:i<.ax
 .cbv
 cbv
def EX o n:∀k t,Vaglrc.readSyms n k (o.drop t)=(fD o n k t).map λy=>(y.1,o.drop y.2)
 |0,t=>rfl
 |k+1,t=>by
  unfold fD gJ;let[e,j]|||[a,j,e]:=qI o t
  .rw[e,j];rfl
  .rw[e,j];let[f,d]|||[b,d,f]:=qI o _
   .rw[f,d];match a with
    |0=>rfl
    |1=>rfl
    |a+2=>rfl
   .rw[f,d];match a with
    |0=>
     change(.kZ (b<n) _)=_;by_cases h:b<n
     .simp only[.r h];rw[EX o n k];cases fD o n k _<;>rfl
     lk
    |1=>
     let[q,N]|||[c,N,q]:=qI o _
     .rw[q];simp only[N];rfl
     .rw[q];simp only[N];change(.kZ (b<=c) _)=_;by_cases B:b<=c
      .by_cases M:c<256
       .rw[.r B,.r M,.r<|.c B .a];simp only;rw[EX o n k];cases fD o n k _<;>rfl
       lk
      lk
    |a+2=>rfl
def Mb o n:∀k t,Vaglrc.readRules n k (o.drop t)=(f7 o n k t).map λy=>(y.1,o.drop y.2)
 |0,t=>rfl
 |k+1,t=>by
  unfold f7 h_;let[e,j]|||[a,j,e]:=qI o t
  .rw[e,j];rfl
  .rw[e,j];let[f,b]|||[m,b,f]:=qI o _
   .rw[f,b];rfl
   .rw[f,b];change(.b7 (a<n) (.kZ (m<=8) _) none)=_;by_cases B:a<n
    .by_cases M:m<=8
     .rw[.r B,.r M,EX o n m];simp only[.r<|show a<n/\m<=8 from(.c B M)];cases c:fD o n m _ with
      |none=>rfl
      |some y=>simp only[wj];rw[Mb o n k];cases f7 o n k y.2<;>rfl
     lk
    lk
def ZT(h:gJ o n t=.cL):p.2<=.dh:=by unfold gJ at h;lk
def Mc:∀{k t} {p},t<=.dh->fD o n k t=.cL->p.2<=.dh
 |0,t,p,T,h=>by cases h;show T
 |k+1,t,p,T,h=>by
  unfold fD at h;cases a:gJ o n t with
  |none=>lk
  |some q=>
   rw[a] at h;simp only at h;cases Z:fD o n k q.2 with
   |none=>lk
   |some y=>rw[Z] at h;cases h;show Mc (p:=y) (ZT a) Z
def ZU(h:h_ o n t=.cL):p.2<=.dh:=by
 unfold h_ at h;split at h
 .split at h
  .rename_i a m _ e _;let M:=(.aw e);cases b:fD o n m (t+2) with
   |none=>lk
   |some y=>rw[b] at h;cases h;show Mc .a b
  .cases h
 .cases h
def Md:∀{k t} {p},t<=.dh->f7 o n k t=.cL->p.2<=.dh
 |0,t,p,T,h=>by cases h;show T
 |k+1,t,p,T,h=>by
  unfold f7 at h;cases a:h_ o n t with
  |none=>lk
  |some q=>
   rw[a] at h;simp only at h;cases Z:f7 o n k q.2 with
   |none=>lk
   |some y=>rw[Z] at h;cases h;show Md (p:=y) (ZU a) Z
def ZV o:Vaglrc.readGrammar o=lV o:=by
 unfold lV;let[e,j]|||[n,j,e]:=qI o 0
 .rw[Dd] at e;rw[j,e];rfl
 .let[f,a]|||[m,a,f]:=qI o 1
  .rw[Dd,.g7<|0+1=1,f] at e;rw[j,a,e];rfl
  .rw[Dd,.g7<|0+1=1,f] at e;rw[j,a];simp only;let Z:=Mb o n m 2;have:Vaglrc.readGrammar o=.b7 (1<=n) (.b7 (n<=20) (.b7 (m<=60) (match Vaglrc.readRules n m (o.drop 2) with
     |some (l,[])=>.b {nons:=n,rules:=l}
     |_=>none) none) none) none:=by
    conv=>lhs;rw[e]
    rfl
   rw[this,Z];by_cases B:1<=n
   .by_cases M:n<=20
    .by_cases A:m<=60
     .rw[.r B,.r M,.r A,.r<|.c (.c B M) A];let d:2<=.dh:=(.aw a);cases R:f7 o n m 2 with
      |none=>rfl
      |some y=>
       have:=Md d R;simp only[wj];by_cases b:y.2=.dh
       .lk
       .rw[.x b];grind[qI]
     lk
    lk
   lk
open Classical in
theorem EY{α:Type}{U:.y α}{p q:α->Prop}(le:∀a∈U,p a->q a){a:α}(ha:a∈U)(hq:q a)(hp:¬p a):.pM (.bC<|p a)<.pM (.bC<|q a):=by
 induction U with
 |nil=>simp at ha
 |cons b U ih=>
  rw[anz,anz];let h1:.pM (.bC<|p a)<=.pM (.bC<|q a):=List.countP_mono_left λx hx h=>by simp only[decide_eq_true_eq] at h|-;show le x (gR _ hx) h
  let rfl|||ha:=.c6 ha
  .simp only[.g8 hq,.h2 hp,if_true];simp;lia
  .have:=ih (λx hx=>le x<|gR _ hx) ha;let h2:(.dq<|.n (.bC<|p b))<=.dq (.n (.bC<|q b)):=by
    by_cases hb:p b
    .rw[.r<|.g8 hb,.r (.g8<|le b .f hb)];show .ao
    .rw[.x<|by simp[hb]];show eY _
   lia
open Classical in
theorem sat{α:Type}(U:.y α)(S:.bn (α->Prop))(mono:∀k a,S k a->S (k+1) a)(Me:∀k a,S k a->a∈U)(det:.wk):
  .aM (U.length<=k->∀a,S (k+1) a->S k a):=by
 have back:∀k j,(∀a,S (j+1) a->S j a)->∀a,S (j+k+1) a->S (j+k) a:=by
  intro k;induction k with
  |zero=>intro j h;show h
  |succ k ih=>intro j h;show det (j+k) (ih j h)
 have grow:.aM ((¬∀a,S (k+1) a->S k a)->k+1<=.pM (.bC<|S (k+1) a)):=by
  intro k;induction k with
  |zero=>intro h;let[a,ha]:=T_.mp h;let[h1,h2]:=Ua.mp ha;show Nat.succ_le_of_lt (kJ (eY _)<|EY (λa _=>mono 0 a) (Me _ _ h1) h1 h2)
  |succ k ih=>intro h;let h':¬∀a,S (k+1) a->S k a:=.bO (h<|det k q);let[a,ha]:=T_.mp h;let[h1,h2]:=Ua.mp ha;have:=ih h';have:=EY (λa _=>mono (k+1) a) (Me _ _ h1) h1 h2;lia
 intro k hk;apply dW;intro h;have:=grow k h;have:.pM (.bC<|S (k+1) a)<=U.length:=anA;lia
def qJ{N:Type}(U:.aS)(S:.bn (N->Prop))(m:∀k a,S k a->S (k+1) a)(I:∀k a,S k a->a∈U)(D:.wk)
  {k} (L:U.length<=k) {a} {j} (h:S j a):S k a:=by
 have W:∀d i,S i a->S (i+d) a:=by
  intro d;induction d with
  |zero=>simp
  |succ d E=>lk
 have o:∀d,S (k+d) a->S k a:=by
  intro d;induction d with
  |zero=>simp
  |succ d E=>intro q;show E (sat U S m I D _ .a a q)
 by_cases e:j<=k
 .have:=W (k-j) j h;lk
 .show o (j-k) .d
def pc(x:.h)(i j:Nat):=.aC (x.drop i)<|j-i
theorem f9(B:i<=j)(M:j<=.W):(.m .b6)=j-i:=by unfold pc;lk
def Mf x i:.iR i=[]:=by unfold pc;simp
def ZW x:.eJ 0 .W=x:=by unfold pc;simp
theorem xO(B:i<=m)(M:m<=j):.nn (m-i)=.iR m:=by unfold pc;lk
theorem xP(B:i<=m)(M:m<=j):(.b6).drop (m-i)=.eJ m j:=by grind[pc,Jh,Ub]
theorem ZX(B:i<=m)(M:m<=j):.b6=.iR m++.eJ m j:=by rw[<-xO B M,<-xP B M,wN]
def xQ(h:x[i]?=.b b):.iR (i+1)=[b]:=by unfold pc;let[B,rfl]:=.bd h;rw[zy B,.dg<|i+1-i=1];rfl
def EZ(B:i<=j)(M:j<=.W)(e:.b6=[b]):j=i+1/\x[i]?=.b b:=by
 let d:=f9 B M;let I:j=i+1:=.d
 let a:i<.W:=.a
 simp_all[xQ]
theorem j6:.n (has x l)↔x∈l:=by unfold has;simp
def cj(l:.h):=l.Pairwise (·<·)
theorem xR:.hU (y∈put x l↔y=x\/y∈l)
 |[]=>by simp[put]
 |z::r=>by
  unfold put;by_cases B:x<z
  .lk
  .rw[.x B];by_cases M:.fc x z
   .lk
   .rw[.x M,cw,xR];lk
def A2:.hU (cj l->cj (put x l))
 |[],_=>by simp[put,cj]
 |z::r,h=>by
  unfold put;let a:=hV.mp h;by_cases B:x<z
  .rw[.r B];calc hV.mpr (.c (.d2 ?_) h);lk
  .rw[.x B];by_cases M:.fc x z
   .lk
   .rw[.x M];calc hV.mpr (.c (.d2 ?_)<|A2 a.2);let rfl|||T:=xR.mp T
    .lk
    lk
theorem n9:∀{a b},y∈lI a b↔y∈a\/y∈b
 |[],b=>by simp[lI]
 |x::a,b=>by change y∈lI a _↔_;rw[n9,xR];lk
theorem E1:∀{a b},cj b->cj (lI a b)
 |[],b,h=>h
 |x::a,b,h=>by change cj (lI a _);show E1 (A2 h)
def cj.nodup(h:cj l):l.Nodup:=anB (.aQ<|cY h) h
def sG:∀{l m},cj l->cj m->(∀x,x∈l↔x∈m)->l=m
 |[],[],_,_,_=>rfl
 |[],b::m,_,_,e=>by(cbv;lk)
 |a::l,[],_,_,e=>by(cbv;lk)
 |a::l,b::m,B,M,e=>by
  have c:=hV.mp B;let d:=hV.mp M;let H:a=b:=by
   let q|||q:=.c6 ((e a).mp .f)
   .show q
   .let N|||N:=.c6 ((e b).mpr .f)
    .lia
    lk
  congr 1;calc sG c.2 d.2 (.ah ?_);lk
theorem xS{l:.h}(h:∀z∈l,z=0):l.sum=0:=by
 induction l with
 |nil=>rfl
 |cons a l E=>cbv
def E3(l:.y α) c:(.hG λ_=>c)=.ax*c:=by
 induction l with
 |nil=>simp
 |cons a l E=>lk
inductive ia(x:.h)(t:Spans):.bq->.dv Prop
 |nil {i:Nat}:ia x t [] i i
 |cons {s:Sym} {l:.bq} {i m j:Nat}:m∈gf x t s i->ia x t l m j->ia x t (s::l) i j
def E4{f:.gp}:∀{e acc:.h},q∈e.foldl (λa j=>lI (f j) a) acc↔q∈acc\/∃p∈e,q∈f p
 |[],acc=>.f
 |p::e,acc=>by rw[cW,E4,n9];lk
def Mg:∀{l:.bq} {e:.h},q∈.ef (λe s=>e.foldl (λa j=>lI (gf x t s j) a) []) e↔∃p∈e,ia x t l p q
 |[],e=>by
  walk
  .intro h;show(.g q h .nil)
  .intro[p,R,h];cases h;show R
 |s::l,e=>by
  rw[cW,Mg];walk
  .intro[m,G,h];rw[E4] at G;let G|||[p,R,G]:=G
   .simp at G
   .show(.g p R<|.bj G h)
  .intro[p,R,h];cases h with
   |@cons _ _ _ m _ B M=>show(.g m (E4.mpr (.F<|.g p R B)) M)
theorem pH:q∈wO x t l i↔ia x t l i q:=by unfold wO;rw[Mg];simp
theorem lW:m∈gf x t .fN i↔m=i+1/\∃b,x[i]?=.b b/\lo<=b/\b<=hi:=by unfold gf;lk
def ZY n f(d:α) a:(.dt n f).getD a d=.A (a<n) (f a) d:=.d
structure WF(g:aQ):Prop where
 lhs:∀r∈g.rules,.C<.o
 non:∀r∈g.rules,.bu (c5 b∈.O)<|b<.o
def it(g:aQ)(x:.h):Nat->Spans
 |0=>Vaglrc.nothing g x
 |k+1=>Ud g x<|it g x k
def Mh(h:it g x (j+1)=it g x j):.aM (it g x (j+k)=it g x j)
 |0=>rfl
 |k+1=>by change Ud g x (it g x<|j+k)=_;rw[Mh h k];show h
def Mi g(x:.h):∀k j,anC g x k (it g x j)=it g x (j+k)
 |0,j=>rfl
 |k+1,j=>by
  change(.A (_==_) _ _)=_;by_cases e:.fc (Ud g x<|it g x j) (it g x j)
  .rw[.cK];show(Mh (eq_of_beq e) _).symm
  .rw[.bU];change anC g x k (it g x<|j+1)=_;rw[Mi g x k _];lk
def E5 g(x:.h):.by=it g x (.o*(.W+1)*(.W+1)+1):=by have:=Mi g x (.o*(.W+1)*(.W+1)+1) 0;rw[qm] at this;show this
def Mj{f:bw->.h}:∀{rs:.b2} {acc},q∈.xi↔q∈acc\/∃r∈rs,.C=a/\q∈f r
 |[],acc=>.f
 |r::rs,acc=>by
  rw[cW,Mj];by_cases e:.C=a
  .rw[.r .le,n9];lk
  lk
def Ml{f:bw->.h}:∀{rs:.b2} {acc},cj acc->cj .xi
 |[],acc,h=>h
 |r::rs,acc,h=>by
  rw[cW];calc Ml ?_;split
  .show E1 h
  .show h
def xT g x a i:bX (it g x 0) a i=[]:=.mY<|((.hM<|.P _).getD a []).getD i []=[]
def Mm g x k a i:bX (it g x<|k+1) a i=.ea (a<.o) (.kw (i<.W+1) (g.rules.foldl (λl r=>.A (.C==a) (lI (wO x (it g x k) .O i) l) l)<|bX (it g x k) a i) []) []:=.mY<|((.hM _).getD a []).getD i []=_
theorem pI:j∈bX (it g x<|k+1) a i↔a<.o/\i<=.W/\(j∈bX (it g x k) a i\/∃r∈g.rules,.C=a/\ia x (it g x k) .O i j):=by
 rw[Mm];by_cases B:a<.o
 .rw[.r B];by_cases M:i<.W+1
  .rw[.r M,Mj];simp only[pH];lk
  lk
 lk
def Mn g x a i:.aM (cj<|bX (it g x k) a i)
 |0=>by rw[xT];simp[cj]
 |k+1=>by
  rw[Mm];split
  .split
   .show Ml (Mn g x a i k)
   .simp[cj]
  .simp[cj]
def sH(Y:.zc)(h:ia x t l i j):i<=.W->i<=j/\j<=.W:=by
 induction h with
 |nil=>lia
 | @cons s l i m j B M E=>
  have:=by
   cases s with
   |non b=>show Y b i m B
   |range c d=>let[rfl,b,Y,_]:=lW.mp B;lk
  lia
def sJ g x:∀k a i j,j∈bX (it g x k) a i->i<=j/\j<=.W
 |0,a,i,j,h=>by rw[xT] at h;simp at h
 |k+1,a,i,j,h=>by
  let[B,M,A|||[r,Z,d,A]]:=pI.mp h
  .show sJ g x k a i j A
  .show sH (sJ g x k) A M
theorem E6(B:lo<=b)(M:b<=hi):bH F .fN [b]=c1:=.mY<|(.db<|lo<=b/\b<=hi)=c1
theorem Mo(Y:.zc)(f:.kA (j∈bX t a i) (.ad<|F a .b6))(h:ia x t l i j):i<=.W->.ad (aU F l .b6):=by
 induction h with
 |@nil i=>intro _;rw[Mf];change .Ad;simp
 | @cons s l i m j B M E=>
  intro e;let G:i<=m/\m<=.W/\.ad (bH F s<|.iR m):=by
   cases s with
   |non b=>show(.g (Y b i m B).1 (Y b i m B).2<|f b i m B)
   |range k e=>let[rfl,b,Y,A,P]:=lW.mp B;have:=(.aw Y);calc(.cf .a .a);rw[xQ Y,E6 A P];simp
  let[g,d,c]:=G;let I:=sH Y M d;let V:m-i<(.m .b6)+1:=by rw[f9 .a I.2];lia
  calc Le.xH (EI _ V) ?_;grind[xO,xP,lS]
theorem E7(J:.kA (a<nons) (i<=j->j<=.W->f a .b6≠0->j∈bX t a i)):∀{l:.bq} {i j:Nat},(.bu (c5 b∈l)<|b<nons)->i<=j->j<=.W->gH f l .b6≠0->ia x t l i j
 |[],i,j,_,B,M,h=>by
  have:.b6=[]:=by apply dW;intro q;apply h;change(.dq<|_=[])=0;lk
  let d:=f9 B M;have:j=i:=.d
  subst this;show .nil
 |s::l,i,j,k,B,M,h=>by
  obtain⟨c,V,g,Z⟩:∃c,c<=j-i/\lT f s (.nn c)≠0/\gH f l ((.b6).drop c)≠0:=by apply dW;intro q;apply h;change(.lu ((.m .b6)+1) (.bg<|lT f s (.nn c)*gH f l ((.b6).drop c)))=0;apply xS;intro z n;let[c,V,rfl]:=.Y n;grind[c4,f9]
  let L:.nn c=.iR (i+c):=.wj
  let C:(.b6).drop c=.eJ (i+c) j:=.wi
  rw[L] at g;rw[C] at Z;calc .cons (m:=i+c) ?_ (E7 J (.a4 (k b<|gR _ Y)) .a M Z);cases s with
  |non b=>show J b i (i+c) (k b .f) .a .a g
  |range o p=>
   match e:.iR<|i+c,g with
   |[],g=>show .hs g
   |[b],g=>let[A,P]:=EZ (x:=x) .a .a e;let g:(.dq<|o<=b/\b<=p)≠0:=g;grind[lW]
   |b::y::v,g=>show .hs g
theorem E8 g x:∀k a i j,j∈bX (it g x k) a i->.ad (T .B a .b6)
 |0,a,i,j,h=>by rw[xT] at h;simp at h
 |k+1,a,i,j,h=>by
  let[B,M,A|||[r,Z,d,A]]:=pI.mp h
  .show E8 g x k a i j A
  .have:=Mo (sJ g x k) (E8 g x k) A M;grind[qF,Le.xH,LY]
def Mp(u:.ag) x:∀k a i j,a<.o->i<=j->j<=.W->N .B k a .b6≠0->j∈bX (it g x k) a i
 |0,a,i,j,_,_,_,h=>.hs h
 |k+1,a,i,j,J,B,M,h=>by
  rw[pI];calc(.g J .a<|.F ?_);obtain⟨r,Z,d,H⟩:∃r∈g.rules,.C=a/\gH (N .B k) .O .b6≠0:=by apply dW;intro q;apply h;apply xS;lk
  show(.q r Z d<|E7 (Mp u x k) (u.non r Z) B M H)
def ZZ(h:j∈bX (it g x k) a i):j∈bX (it g x<|k+1) a i:=by
 have Y:=sJ g x k a i j h;let J:=by
  cases k with
  |zero=>rw[xT] at h;simp at h
  |succ k=>show(pI.mp h).1
 grind[pI]
def Z0(h:.kA (j∈bX t a i) (j∈bX t' a i))(r:ia x t l i j):ia x t' l i j:=by
 induction r with
 |nil=>show .nil
 |@cons s l i m j B _ E=>
  calc .bj ?_ E;cases s with
  |non b=>show h b i m B
  |range c d=>room
def triples(a n:Nat):=.b9 (aq a) λa=>.b9 (aq n) λi=>.dt n λj=>(a,i,j)
theorem Z1:p∈triples A n↔p.1<A/\p.2.1<n/\p.2.2<n:=by simp[triples];lk
def Z2 A n:(.m<|triples A n)=A*n*n:=by simp[triples,E3];lk
theorem fy(u:.ag):j∈.gc↔a<.o/\i<=j/\j<=.W/\.ad (T .B a .b6):=by
 rw[E5];walk
 .intro h;let Y:=sJ g x _ a i j h;grind[pI,E8]
 .intro[J,B,M,h];obtain⟨k,L⟩:∃k,N .B k a .b6≠0:=by simp_all[uW]
  have:=Mp u x k a i j J B M L;refine qJ (triples .o<|.W+1) (λk p=>p.2.2∈bX (it g x k) p.1 p.2.1) (λk p h=>ZZ h) ?_ ?_ (by rw[Z2];lia) (a:=(a,i,j)) this
  .intro k p h;let Y:=sJ g x k _ _ _ h;let J:=by
    cases k with
    |zero=>rw[xT] at h;simp at h
    |succ k=>show(pI.mp h).1
   grind[Z1]
  .intro k L p h;let[B,M,A|||[r,Z,d,A]]:=pI.mp h
   .show A
   .show pI.mpr (.g B M<|.F (.q r Z d<|Z0 (λa i j q=>L (a,i,j) q) A))
def E9 g(x:.h) a i:cj .gc:=by rw[E5];show Mn g x a i _
theorem qK(u:.ag)(d:.bu (c5 b∈l) (b<.o))(hi:i<=.W):ia x .by l i j↔i<=j/\j<=.W/\.ad (.pP .B l .b6):=by
 let Y:.zb:=.sH ((fy u).mp h) (.c B M);walk
 .intro h;have:=sH Y h hi;grind[Mo,fy]
 .intro[B,M,A];obtain⟨k,L⟩:∃k,_≠0:=by apply dW;intro q;refine A ((EG (n8 .B) l _).uniq<|cz.LU (.aU<|dW (.s (q<|.c k z))))
  calc E7 (λa i j J B M h=>?_) d B M L;grind[fy,uW]
theorem A3:.n (sameNode m n)↔m=n:=by grind[sameNode]
theorem qL:.n (kK n l)↔n∈l:=by
 unfold kK;rw[lJ];walk
 .intro[m,G,h];rw[A3.mp h];show G
 .intro h;show(.g n h<|A3.mpr rfl)
theorem A4:∀(l acc:.c1),acc.Nodup->(∀n,n∈.ti↔n∈acc\/n∈l)/\(.a9 .ti)
 |[],acc,h=>(.c (λn=>.f) h)
 |m::l,acc,h=>by
  rw[cW];by_cases e:.n (kK m acc)
  .let[B,M]:=A4 l acc h;grind[qL]
  .rw[.bU];let t:=.bO (e<|qL.mpr q);let b:(.a9<|acc++[m]):=.d
   let[B,M]:=A4 l _ b;lk
def E_{l}:n∈zA l↔n∈l:=by simp[zA,A4]
def Z3 l:(.a9<|zA l):=(A4 l [] am8).2
theorem mO{N:Type}{l}{i}{y:N}:(i,y)∈.hK .ax l↔l[i]?=.eO:=by simp[De,aK,o6]
theorem lX:n∈cg t↔.aZ∈bX t n.1 .a0:=by
 let[a,i,j]:=n;unfold cg bX;simp only[dP,aH];walk
 .intro[[C,o],B,[u,e],M,d,A,P];rw[mO] at B M;lk
 .intro h;simp only[cK] at h;cases B:t[a]? with
  |none=>lk
  |some o=>
   rw[B,Df] at h;cases M:o[i]? with
   |none=>lk
   |some e=>rw[M] at h;show(.fD (a,o) (mO.mpr B) (i,e) (mO.mpr M) j h)
section
variable(g:aQ)(x:.h)
def uZ(n m:bU):=∃r∈g.rules,.C=n.1/\∃o U,.O=o++c5 m.1::U/\ia x .by o .a0 .ek/\.d3∈.sh m.1 .ek/\ia x .by U .d3 .aZ
end
def Z4{N:Type}{l}{k}{y:N}(h:l[k]?=.eO):l=l.take k++y::l.drop (k+1):=by let[B,rfl]:=.bd h;simp
theorem Fb{x:.h}{n m}:m∈Dg g x .by n↔uZ g x n m:=by
 unfold Dg;rw[E_,dP];walk
 .intro[r,Z,h];by_cases e:.C=n.1
  .rw[.r .le,dP] at h;let[k,_,h]:=h;unfold childrenAt at h;split at h
   .rename_i b L;rw[dP] at h;let[p,R,h]:=h;rw[aH] at h;let[q,f,rfl]:=h;rw[cZ,j6,pH] at f;rw[pH] at R;show{r,Z,e,_,_,Z4 L,R,f.1,f.2}
   lk
  lk
 .intro[r,Z,e,o,U,a,B,M,A];calc(.cf r Z);rw[.r .le,dP];calc(.cf .dh<|.fO .d);let L:.O[.dh]?=.b (c5 m.1):=.d
  let C:.nY .dh 1=U:=.fM
  unfold childrenAt;rw[L];rw[dP];calc(.cf .ek<|pH.mpr .d);rw[aH];refine(.g .d3 (cZ.mpr<|.c M (j6.mpr<|pH.mpr .d)) rfl)
def uZ.node(h:uZ g x n m):.dd m:=by let[_,_,_,_,_,_,_,h,_]:=h;show lX.mpr h
def xU{x:.h}{n m}:m∈below (.ig g x) n↔.dd n/\uZ g x n m:=by
 unfold gy;let F:∀l:.c1,below (.bA λn=>(n,Dg g x .by n)) n=.kw (n∈l) (Dg g x .by n) []:=by
  intro l;induction l with
  |nil=>rfl
  |cons a l E=>
   unfold below at E|-;rw[bx,anD];by_cases e:a=n
   .subst e;rw[A3.mpr rfl];simp
   grind[A3]
 rw[F];by_cases q:.dd n
 .rw[.dF,Fb];simp[q]
 lk
def BB(g:aQ)(x:.h)(n m:bU):=.dd n/\uZ g x n m
def BB.nest(u:.ag){n m}(h:BB g x n m):.a0<=.ek/\.ek<=.d3/\.d3<=.aZ:=by let[t,r,Z,d,o,U,R,B,M,A]:=h;let s:=(fy u).mp (lX.mp t);let k:=(fy u).mp M;let Y:.zb:=.sH ((fy u).mp h) (.c B M);let b:=sH Y B .a;let c:=sH Y A .a;lia
def BB.node(h:BB g x n m):=h.2.node
def A5(h:bz (BB g x) n m):.dd m:=by
 induction h with
 |one q=>show q.node
 |more _ _ E=>show E
def Z5(u:.ag){n m}(h:bz (BB g x) n m):.a0<=.ek/\.d3<=.aZ:=by
 induction h with
 |one q=>have:=q.nest u;lia
 |more q _ E=>have:=q.nest u;lia
def DD(g:aQ)(x:.h)(n m:bU):=BB g x n m/\m.2=n.2
def Z6(u:.ag){n m}(h:bz (BB g x) n m):m.2=n.2->bz (DD g x) n m:=by
 induction h with
 |one q=>intro e;show .one (.c q e)
 | @more a b c q r E=>
  intro e;let B:=q.nest u;let M:=Z5 u r;let Y:b.2=a.2:=.d
  show .more (.c q Y) (E<|by rw[e,Y])
def rF(g:aQ)(x:.h)(i j:Nat)(s:.c1):=zA<|s++.dx (s.flatMap (below<|.ig g x)) λn=>.a0==i&&.aZ==j
def rI(g:aQ)(x:.h)(i j:Nat):.bn (.c1->.c1)
 |0,s=>s
 |k+1,s=>rF g x i j<|rI g x i j k s
def Mq i j:∀k s,rI g x i j k (rF g x i j s)=rF g x i j (rI g x i j k s)
 |0,s=>rfl
 |k+1,s=>by change rF g x i j _=_;rw[Mq i j k s];rfl
def Mr i j:∀k s,sameReach (.ig g x) i j k s=rI g x i j k s
 |0,s=>rfl
 |k+1,s=>by change sameReach _ i j k (rF g x i j s)=rF g x i j _;rw[Mr i j k,Mq]
def u0:m∈rF g x i j s↔m∈s\/∃n∈s,BB g x n m/\m.2=(i,j):=by
 unfold rF;rw[E_,cx,cZ,dP];have:.e2 (.ek==i) (.d3==j)↔m.2=(i,j):=.d
 rw[this];walk
 .rintro(h|⟨⟨n,t,Y⟩,e⟩)
  .lk
  .show .F (.q n t (xU.mp Y) e)
 .rintro(h|⟨n,t,Y,e⟩)
  .lk
  .show .F (.c (.g n t<|xU.mpr Y) e)
def Ms(u:.ag){n}:.n (cyclic (.ig g x) .o n)↔bz (BB g x) n n:=by
 unfold cyclic;rw[qL,Mr];let T:∀m,m∈.dx (below (.ig g x) n) (.cN<|.ek==.a0&&.d3==.aZ)↔DD g x n m:=by
  intro m;rw[cZ,xU];have:.e2 (.ek==.a0) (.d3==.aZ)↔m.2=n.2:=.d
  rw[this];rfl
 generalize .dx (below _ n) _=s at T;let o:∀k m,m∈rI g x .a0 .aZ k s->bz (DD g x) n m:=by
  intro k;induction k with
  |zero=>intro m h;show .one ((T m).mp h)
  |succ k E=>
   intro m h;let h|||[p,R,Y,e]:=u0.mp h
   .lk
   .have R:=E p R;let z:.Ac:=by
     intro a b h;induction h with
     |one q=>show q.2
     |more q _ E=>rw[E,q.2]
    show R.snoc (.c Y .d)
 walk
 .intro h;show(o _ _ h).mono λa b q=>q.1
 .intro h;let h:=Z6 u h rfl;let f:∀{a m:bU},bz (DD g x) a m->a.2=n.2->.aM ((a=n\/a∈rI g x .a0 .aZ k s)->∃k,m∈rI g x .a0 .aZ k s):=by
   intro a m h;induction h with
   |@one a b q=>
    intro J k L;let rfl|||L:=L
    .show(.c 0<|(T _).mpr q)
    .show(.c (k+1) (u0.mpr<|.F (.q a L q.1<|by rw[q.2,J])))
   |@more a b c q _ E=>
    intro J k L;let r:b.2=n.2:=by rw[q.2,J]
    let rfl|||L:=L
    .show E r 0 (.F<|(T _).mpr q)
    .show E r (k+1) (.F<|u0.mpr (.F<|.q a L q.1 .a))
  let[k,L]:=f h rfl 0 .w;refine qJ (.hM λa=>(a,n.2)) (λk m=>m∈rI g x .a0 .aZ k s) (λk m h=>u0.mpr .ex) ?_ ?_ .f L
  .intro k m G;let Z:=o k m G;let z:.Ac:=by
    intro a b h;induction h with
    |one q=>show q.2
    |more q _ E=>rw[E,q.2]
   let t:=A5 (Z.mono λa b q=>q.1);grind[fy,lX]
  .intro k L m G;let h|||[p,R,Y,e]:=u0.mp G
   .show h
   .show u0.mpr (.F<|.q p (L p R) Y e)
def sF(l:.y Link)(s:.c1):=.oP (.cN (kK m.1 s||m.2.any λn=>kK n s))<|.cN m.1
def sI(l:.y Link)(s:.c1):.bn .c1
 |0=>s
 |k+1=>sF l<|sI l s k
def Z7{N:Type}{l:.aS}{p q}(h:∀a∈l,.n (p a)->.n (q a))(e:(.m<|l.filter p)=(.m<|l.filter q)):l.filter p=l.filter q:=by
 induction l with
 |nil=>rfl
 |cons a l E=>
  have I:∀m:.aS,(∀a∈m,.n (p a)->.n (q a))->.ae (m.filter p) (.m<|m.filter q):=by
   intro m;induction m with
   |nil=>simp
   |cons b m i=>lk
  lk
def u_(l:.y Link)(s:.c1):=∃p,s=.oP p (.cN m.1)
def Z8 l s:u_ l (sF l s):=(.a5 _)
def Z9(h:u_ l s)(e:(.m<|sF l s)=s.length):sF l s=s:=by
 let[p,rfl]:=h;unfold sF at e|-;rw[aj,aj] at e;let V:∀a∈l,.n (p a)->.n (kK a.1 _||a.2.any λn=>kK n (.oP p<|.cN m.1)):=λa J R=>by have:a.1∈_:=.f7 a (cZ.mpr<|.c J R);rw[qL.mpr this];rfl
 show .dN _ (Z7 V e.symm).symm
def Z_(h:u_ l s):.aM (u_ l<|sI l s k)
 |0=>h
 |k+1=>Z8 l _
def Mt(h:u_ l s):∀k j,spread l k (sI l s j)=sI l s (j+k)
 |0,j=>rfl
 |k+1,j=>by
  change(.e9 ((.m<|sF l _)==_) _ _)=_;by_cases e:(.m (sF l<|sI l s j))=(.m<|sI l s j)
  .have Z:=Z9 (Z_ h j) e;have:.aM (sI l s (j+k)=sI l s j):=by
    intro k;induction k with
    |zero=>rfl
    |succ k E=>change sF l (sI l s<|j+k)=_;rw[E,Z]
   cbv
  .rw[.x .le];change spread l k (sI l s<|j+1)=_;rw[Mt h k _];lk
def qM:n∈sF (.ig g x) s↔.dd n/\(n∈s\/∃m∈s,uZ g x n m):=by
 unfold sF gy;rw[aH];walk
 .intro[l,d,rfl];rw[cZ,aH] at d;let[[n,t,rfl],h]:=d;simp only[rR,qL,lJ] at h;grind[Fb]
 .intro[t,h];calc(.g (n,Dg g x .by n) ?_ rfl);rw[cZ,aH];simp only[rR,qL,lJ];grind[Fb]
def Inf(g:aQ)(x:.h)(n:bU):=.dd n/\∃m,(n=m\/bz (BB g x) n m)/\bz (BB g x) m m
def Z'(u:.ag){n}:n∈infinite g (.ig g x)↔Inf g x n:=by
 unfold infinite;let R:u_ _ (zB g<|.ig g x):=(.a5 _);let I:=Mt R ((.m<|.ig g x)+1) 0;rw[.g7<|sI _ (zB g _) 0=zB g _] at I;rw[I,qm];let T:∀m,m∈zB g (.ig g x)↔.dd m/\bz (BB g x) m m:=by
  intro m;unfold zB;rw[aH];walk
  .intro[l,d,rfl];rw[cZ] at d;let[d,V]:=d;let[n,t,rfl]:=.Y d;show(.c t<|(Ms u).mp V)
  .intro[t,V];show(.g (m,_) (cZ.mpr (.c (.f7 m t)<|(Ms u).mpr V)) rfl)
 generalize zB g _=s at T;walk
 .have:∀k n,n∈sI (.ig g x) s k->Inf g x n:=by
   intro k;induction k with
   |zero=>intro n h;have:=(T n).mp h;show(.q this.1 n .w .iw)
   |succ k E=>
    intro n h;let[t,h|||[m,G,V]]:=qM.mp h
    .lk
    .let[_,p,R,P]:=E m G;calc(.q t p (.F ?_) P);let rfl|||R:=R
     .show .one (.c t V)
     .show .more (.c t V) R
  lk
 .rintro⟨t,m,h,G⟩;let f:∃k,n∈sI (.ig g x) s k:=by
   let rfl|||h:=h
   .show(.c 0 ((T _).mpr<|.c t G))
   .let H:=A5 G;clear t;induction h with
    |@one a b q=>show(.c 1 (qM.mpr<|.c q.1 (.F<|.g b ((T b).mpr<|.c H G) q.2)))
    |@more a b c q _ E=>let[k,L]:=E G H;show(.c (k+1) (qM.mpr<|.c q.1 (.F<|.g b L q.2)))
  let[k,L]:=f;refine qJ .nG (λk m=>m∈sI _ s k) ?_ ?_ ?_ (by unfold gy;simp) L
  .intro k m G;calc qM.mpr (.c ?_<|.z G);cases k with
   |zero=>show((T m).mp G).1
   |succ k=>show(qM.mp G).1
  .intro k m G;cases k with
   |zero=>show((T m).mp G).1
   |succ k=>show(qM.mp G).1
  .intro k L m G;let[B,h|||[p,R,V]]:=qM.mp G
   .lia
   .show qM.mpr (.c B (.F<|.g p (L p R) V))
theorem aaa(h:l.Perm m):aO l=aO m:=by
 induction h with
 |nil=>rfl
 |cons x _ E=>cbv
 |swap x y l=>grind[iK,g5,pG]
 |trans _ _ B M=>rw[B,M]
def xV{N:Type}(l:.aS) h p(R:∀a∈l,p a=.j->h a=c0):aO (.oP p h)=.dL h:=by
 induction l with
 |nil=>rfl
 |cons a l E=>
  by_cases e:.n (p a)
  .cbv
  simp_all[j3]
def xW{N:Type}[.l4 N]{l m:.aS}(d:l.Nodup)(G:m.Nodup) h(B:∀a∈l,a∉m->h a=c0)(M:∀a∈m,a∉l->h a=c0):.dL h=aO (m.map h):=by rw[<-xV l h (λa=>.dY a m) λa J q=>B a J .d,<-xV m h (λa=>.dY a l) λa J q=>M a J .d];grind[aaa,anE,List.perm_ext_iff_of_nodup]
def eK(D:.fF)(l:Dh):=.dL<|.as (.ac p.2<|D p.1)
def Mu D j c:∀l,eK D (nN j c l)=.aD (eK D l) (.ac c<|D j)
 |[]=>by change .aD _ c0=.aD c0 _;rw[fx,j3]
 |p::r=>by
  unfold nN;by_cases B:j<p.1
  .simp_all[eK,pG]
  .rw[.x B];by_cases M:.fc j p.1
   .rw[.r M];let e:=eq_of_beq M;change .lb _ _ (eK D r)=.aD (.lb p.2 _<|eK D r) _;rw[LO,<-e,g5,g5,pG<|.ac c _]
   .rw[.x M];change .aD _ (eK D _)=.aD (.aD _<|eK D r) _;rw[Mu D j c r,g5]
theorem Mv D d:∀qs acc,eK D (qs.foldl (λa q=>nN q.1 (.ac d q.2) a) acc)=.aD (eK D acc) (.ac d<|eK D qs)
 |[],acc=>by simp[eK,j4,fx]
 |q::qs,acc=>by rw[cW,Mv D d qs,Mu];simp[eK,AS,g5,xG]
def aab D(x:.h) c s l:eK D (further x c s l)=.xh:=by
 have:∀(l b:Dh),eK D .uZ=.aD (eK D b) .xh:=by
  intro l;induction l with
  |nil=>simp[fx]
  |cons p l E=>grind[Mv,iK,g5]
 let h:=this l [];rw[.g7<|eK D []=c0,j3] at h;show h
def kY(l:Dh):=.lG (.bA .fr) (·<·)
def Mw{j}{c}{k}:.hU (k∈.eZ (nN j c l)↔k=j\/k∈.bA .fr)
 |[]=>by simp[nN]
 |p::r=>by
  unfold nN;by_cases B:j<p.1
  .lk
  .rw[.x B];by_cases M:.fc j p.1
   .lk
   .rw[.x M,bx,cw,Mw,bx];lk
theorem Mx:.hU (kY l->kY (nN j c l))
 |[],_=>by simp[nN,kY]
 |p::r,h=>by
  let a:=hV.mp (h);unfold nN;by_cases B:j<p.1
  .rw[.r B];calc hV.mpr (.c (.d2 ?_) h);lk
  .rw[.x B];by_cases M:.fc j p.1
   .rw[.r M];let e:=eq_of_beq M;rw[e];show h
   .rw[.x M];calc hV.mpr (.c (.d2 ?_)<|Mx a.2);let rfl|||T:=Mw.mp T
    .lk
    lk
def aac(x:.h) c s l:kY (further x c s l):=by
 have I:∀(d:bE) (e b:Dh),kY b->kY (e.foldl (λa q=>nN q.1 (.ac d q.2) a) b):=by
  intro d e;induction e with
  |nil=>simp
  |cons q e E=>grind[Mx]
 have y:∀(l b:Dh),kY b->kY .uZ:=by
  intro l;induction l with
  |nil=>simp
  |cons p l E=>cbv
 show y l [] (by simp[kY])
def My(x:.h) c:∀l L,kY L->kY (Ue x c l L)
 |[],L,h=>h
 |s::l,L,_=>My x c l _<|aac x c s L
def ind(k:Nat):.fF:=λj=>.db<|j=k
def Mz:.hU (kY l->lookAt k l=eK (ind k) l)
 |[],_=>rfl
 |p::r,h=>by
  let a:=hV.mp (show .lG (p.1::_) _ from h);let E:=Mz (k:=k) a.2;change _=.aD _ (eK _ r);unfold lookAt at E|-;rw[anD];by_cases e:p.1=k
  .let b:eK (ind k) r=c0:=j5 λq f=>by have:=a.1 q.1 (.f7 q f);change .ac q.2 (.db<|q.1=k)=c0;rw[.cD,j4]
   rw[b,fx,show .fc p.1 k by simp[e]];change p.2=.ac p.2 (.db<|p.1=k);rw[.cK,AR]
  .rw[show(p.1==k)=.j by simp[e]];rw[E];change _=.lb p.2 (.db<|p.1=k) _;rw[.bU,j4,j3]
def sL(x:.h)(D:.dv .fF):Sym->.bn .fF
 |.non b,i,j=>D b i j
 |.range a c,i,j=>.db<|j∈gf x [] (.eb a c) i
def je(x:.h)(D:.dv .fF):.bq->.bn .fF
 |[],i,j=>.db<|i=j
 |s::l,i,j=>.gk (.W+1)<|.cN (.ac (sL x D s i m)<|je x D l m j)
def aad(x:.h) t lo hi i:(.a9<|gf x t .fN i):=.mY<|.a9 (match x[i]? with|some b=>.kw (lo<=b) _ []|none=>([]:_))
def Tells(t:Spans)(c:Table)(D:.dv .fF):=∀a i,rowOf c a i=(bX t a i).map λj=>(j,D a i j)
theorem aae{x:.h}{c}{D}(V:Tells .by c D)(u:.ag)(T:.kA (j∉.gc) (D a i j=c0)) d s i:
  eK d (Di x c s i)=.gk (.W+1) (.cN (.ac (sL x D s i m)<|d m)):=by
 cases s with
 |non b=>
  change eK d (rowOf c b i)=_;rw[V b i];unfold eK;rw[a_];refine xW (E9 g x b i).nodup rS (.cN<|.ac (D b i m) _) ?_ ?_
  .grind [fy]
  .intro m _ t;rw[T b i m t,fS]
 |range f e=>
  change eK d ((gf x [] _ i).map λj=>(j,_))=_;unfold eK;rw[a_];have:(gf x [] (.eb f e) i).map ((.as (.ac p.2<|d p.1))∘λj=>(j,.b 1))=(gf x [] (.eb f e) i).map (.cN (.ac (.db<|m∈gf x [] (.eb f e) i)<|d m)):=.fM
  rw[this];refine xW (aad x [] f e i) rS _ ?_ ?_
  .intro m G t;let[rfl,b,Y,_]:=lW.mp G;lk
  .intro m _ t;rw[.x t,fS]
def MA{x:.h}{c}{D}(V:Tells .by c D)(u:.ag)(T:.kA (j∉.gc) (D a i j=c0)) j:∀l L,eK (ind j) (Ue x c l L)=eK (λi=>je x D l i j) L
 |[],L=>rfl
 |s::l,L=>by change eK _ (Ue x c l _)=_;rw[MA V u T j l,aab];grind[eK,aae,je]
def MB{x:.h}{c}{D}(V:Tells .by c D)(u:.ag)(T:.kA (j∉.gc) (D a i j=c0)) l i j:ways x c l i j=je x D l i j:=by unfold ways;rw[Mz (My x c l _<|by simp[kY]),MA V u T];change .lb c1 _ c0=_;rw[fx,uU]
def MC{f:.fF}{j}:∀{l:.h},lookAt j (.bA λj=>(j,f j))=.eC (j∈l) (f j)
 |[]=>rfl
 |a::l=>by let E:=MC (f:=f) (j:=j) (l:=l);unfold lookAt at E|-;lk
theorem Tells.at(h:Tells t c D) a i j:Jn c a i j=.eC (j∈bX t a i) (D a i j):=by unfold Jn;rw[h a i,MC]
theorem A6{x:.h}{D}(T:.kA (j∉.gc) (D a i j=c0)):.oT (¬ia x .by l i j) (je x D l i j=c0)
 |[],i,j,h=>by change(.db<|i=j)=c0;rw[.x (λe=>h<|by rw[e];show .nil)]
 |s::l,i,j,h=>by
  calc j5 λm _=>lS.mpr ?_;by_cases e:m∈gf x .by s i
  .show .F (A6 T (.bN (h<|.bj e r)))
  .calc .z ?_;cases s with
   |non b=>show T b i m e
   |range c d=>show .bU
def MD{x:.h}{D f}(T:.kA (j∉.gc) (D a i j=c0))(B:.kA (j∉.gc) (f a i j=c0)):
  .oT (∀b p q o U,l=o++c5 b::U->ia x .by o i p->q∈.sh b p->ia x .by U q j->D b p q=f b p q) (je x D l i j=je x f l i j)
 |[],i,j,_=>rfl
 |s::l,i,j,h=>by
  apply jA;intro m _;by_cases e:m∈gf x .by s i
  .by_cases r:ia x .by l m j
   .have L:sL x D s i m=sL x f s i m:=by
     cases s with
     |non b=>show h b i m [] l rfl .nil e r
     |range k n=>rfl
    let C:_=je x f l m j:=MD T B λb p q o U R V d c=>h b p q _ U .d (.bj e V) d c;rw[L,C]
   grind[A6,j4]
  .have L:sL x D s i m=c0:=by
    cases s with
    |non b=>show T b i m e
    |range k n=>show .bU
   have C:sL x f s i m=c0:=by
    cases s with
    |non b=>show B b i m e
    |range k n=>room
   rw[L,C,fS,fS]
noncomputable def TP(g:aQ)(x:.h)(a i j:Nat):=.eC (i<=j/\j<=.W/\a<.o)<|T .B a .b6
def A7(u:.ag){x:.h} a i j(h:j∉.gc):TP g x a i j=c0:=by
 unfold TP;split
 .rename_i q;apply dW;intro z;show h ((fy u).mpr<|.q q.2.2 q.1 q.2.1 z)
 .rfl
def ME(u:.ag){x:.h}{a i j}(h:j∈.gc):TP g x a i j=T .B a .b6:=by grind[fy,TP]
def MF(u:.ag){x}:.oT (.bu (c5 b∈l)<|b<.o) (i<=j->j<=.W->je x (TP g x) l i j=.pP .B l .b6)
 |[],i,j,_,B,M=>by
  change(.db<|i=j)=(.db<|_=[]);let d:=f9 B M;by_cases e:i=j
  .cbv
  lk
 |s::l,i,j,t,B,M=>by
  change _=aO _;rw[f9 B M];let L:.dt (j-i+1) (.bg (.ia (bH (T .B) s<|.nn c) (T .B) l<|(.b6).drop c))=(.dt (j-i+1) (.bg<|i+c)).map (.cN (.ac (sL x (TP g x) s i m)<|je x (TP g x) l m j)):=by
   rw[a_];apply dG;intro c V;let V:=c4.mp V;let o:.nn c=.iR (i+c):=.wj
   let n:(.b6).drop c=.eJ (i+c) j:=.wi
   change _=.ac _ (je x _ l (i+c) j);rw[o,n,MF u (.a4 (t b<|gR _ Y)) .a M];congr 1;cases s with
   |non b=>change T .B b _=TP g x b i _;unfold TP;lk
   |range f k=>
    change _=.db (i+c∈_);by_cases e:i+c∈gf x [] (.eb f k) i
    .rw[.cK];let[C,b,Y,A,P]:=lW.mp e;rw[C,xQ Y,E6 A P]
    .rw[.bU];match q:.iR _ with
     |[]=>rfl
     |[b]=>let[A,P]:=EZ .a .a q;change(.db<|f<=b/\b<=k)=c0;simp_all[lW]
     |b::y::v=>rfl
  rw[L];refine xW rS ?_ _ ?_ ?_
  .grind [anB,List.nodup_iff_pairwise_ne,rS]
  .intro m G W;let G:=c4.mp G;have:m<i\/j<m:=.ru (W<|.pf (m-i) (.fO .a) .a)
   let Y:.yR:=.sH ((fy u).mp h) (.c B M);let q|||q:=this
   .calc lS.mpr (.z ?_);cases s with
    |non b=>show A7 u b i m (.s .d)
    |range f k=>change(.db<|m∈gf x [] (.eb f k) i)=c0;rw[.hm<|by grind[lW]]
   .calc lS.mpr (.F<|A6 (A7 u) .M);have:=sH Y z .a;lia
  lk
def aaf(u:.ag){x}{a i j}(B:i<=j)(M:j<=.W):T .B a .b6=aO (.fa<|.bN (.eC (.C=a)<|je x (TP g x) .O i j)):=by
 rw[qF];apply jA;intro r Z;by_cases e:.C=a
 .rw[.cK,.cK,MF u (u.non r Z) B M]
 lk
def MG{f:bw->bE}{a}:∀(rs:.b2) acc,rs.foldl (λs r=>.A (.C==a) (.aD s<|f r) s) acc=.aD acc (aO<|.lZ (.eC (.C=a)<|f r))
 |[],acc=>by change acc=.aD acc c0;rw[fx]
 |r::rs,acc=>by
  rw[cW,MG rs,bx,iK];by_cases e:.C=a
  .rw[.r .le,.cK,g5]
  .rw[.x .le,.bU,j3]
def BB.child(u:.ag){n m}(h:BB g x n m):Child .B (n.1,.eJ .a0 .aZ) (m.1,.eJ .ek .d3):=by let[H,r,Z,d,o,U,R,B,a,A]:=h;let s:=(fy u).mp (lX.mp H);let k:=(fy u).mp a;let G:.bu (c5 b∈o) (b<.o):=.a4 (u.non r Z b .d);let W:.bu (c5 b∈U) (b<.o):=.a4 (u.non r Z b .d);let M:=(qK u G .a).mp B;let w:=(qK u W .a).mp A;calc{r,Z,d,o,U,_,_,R,?_,M.2.2,k.2.2.2,w.2.2};grind[ZX]
def MH(u:.ag){n m}(h:bz (BB g x) n m):.kG .B (n.1,.eJ .a0 .aZ) (m.1,.eJ .ek .d3):=by
 induction h with
 |one q=>show .one (q.child u)
 |more q _ E=>show .more (q.child u) E
def Inf.endless(u:.ag){n}(h:Inf g x n):.H .tI:=by
 let[_,m,h,G]:=h;let e:=EM (MH u G);let rfl|||h:=h
 .show e
 .have:=(MH u h).le;rw[e] at this;show this.Zv
section
variable(g:aQ)(x:.h)
def pJ:=infinite g<|.ig g x
def cI:Nat->Table
 |0=>noCounts g x .by<|pJ g x
 |k+1=>countRound g x .by (pJ g x)<|cI k
def fI:.dv (.bn .fF)
 |0,a,i,j=>.yd
 |k+1,a,i,j=>Ug g x (cI g x k) (pJ g x) a i j
open Classical in
noncomputable def fJ(k a i j:Nat):bE:=.eC (j∈.gc)<|fI g x k a i j
end
def aag k j:countUp g x .by (pJ g x) k (cI g x j)=cI g x (j+k):=by
 induction k generalizing j with
 |zero=>rfl
 |succ k E=>
  change(.A (_==_) _ _)=_;by_cases e:.fc (countRound g x .by (pJ g x)<|cI g x j) (cI g x j)
  .have:.aM (cI g x (j+k)=cI g x j):=by
    intro k;induction k with
    |zero=>rfl
    |succ k E=>grind[cI]
   cbv
  .rw[.bU];change countUp g x _ _ k (cI g x<|j+1)=_;lk
def MI(u:.ag)(f:.dv .fF) a i:rowOf (.hM λa=>.dt (.W+1) λi=>(.gc).map λj=>(j,f a i j)) a i=(.gc).map λj=>(j,f a i j):=by
 let n:¬(a<.o/\i<.W+1)->.gc=[]:=.aQ (by apply List.eq_nil_iff_forall_not_mem.mpr;grind[fy])
 unfold rowOf;lk
def MJ(u:.ag):.aM (Tells .by (cI g x k)<|fJ g x k):=by
 intro k a i;have:rowOf (cI g x k) a i=(.gc).map λj=>(j,fI g x k a i j):=by
  cases k with
  |zero=>show MI u _ a i
  |succ k=>show MI u _ a i
 grind[dG,fJ]
def MK a i j(h:j∉.gc):fJ g x k a i j=c0:=by unfold fJ;lk
open Classical in
noncomputable def rank(g:aQ)(x:.h)(n:bU):Nat:=(.nG).countP (.cN (.bC<|bz (BB g x) n m))
def aah(u:.ag){n m}(t:¬Inf g x n)(h:BB g x n m):rank g x m<rank g x n:=by refine EY (λp _ q=>.more h q) h.node (.one h) (.bO (t<|.q h.1 m (.F<|.one h) q))
def aai(u:.ag):∀k a i j,j∈.gc->(Inf g x (a,i,j)->.H (fI g x k a i j))/\(¬Inf g x (a,i,j)->rank g x (a,i,j)<k->fI g x k a i j=T .B a .b6):=by
 intro k;let H:∀n,.n (kK n<|pJ g x)↔Inf g x n:=λn=>qL.trans (Z' u);induction k with
 |zero=>intro a i j I;calc(.c (.aQ ?_) λ_ h=>.a);change .H .yd;rw[.r<|(H _).mpr h]
 |succ k E=>
  intro a i j I;refine(.c (.aQ ?_) λh Z=>?_)
  .unfold fI Ug;dsimp only;rw[.r<|(H _).mpr h]
  .unfold fI Ug;dsimp only;rw[.hm (h<|(H _).mp z),MG,j3];let B:=(fy u).mp I;rw[aaf u B.2.1 B.2.2.1];apply jA;intro r c;by_cases e:.C=a
   .rw[.cK,.cK,MB (MJ u k) u MK];calc MD MK (A7 u) λb p q o U R V d l=>?_;let Y:BB g x (a,i,j) (b,p,q):={lX.mpr I,r,c,e,o,U,R,V,d,l};let N:¬Inf g x (b,p,q):=.s (h<|.c (lX.mpr I) (by
     let[_,m,G,f]:=z;calc(.g m (.F ?_) f);let rfl|||G:=G
     .show .one Y
     .show .more Y G));let K:=aah u h Y;have:=(E b p q d).2 N .a;rw[ME u d,<-this];unfold fJ;rw[.r d]
   .rw[.bU,.bU]
def aaj(u:.ag) a i j:Jn (countsOf g x) a i j=TP g x a i j:=by
 let e:countsOf g x=cI g x (.qQ+2):=by change countUp g x _ (pJ g x) _ (cI g x 0)=_;rw[aag,qm]
 rw[e,(MJ u _).at];by_cases h:j∈.gc
 .rw[.r h,ME u h];unfold fJ;rw[.r h];have:=aai u (.qQ+2) a i j h;by_cases b:Inf g x (a,i,j)
  .rw[this.1 b,b.endless u]
  grind[rank,anA]
 .rw[.x h,A7 u a i j h]
theorem Fc(u:.ag){a}(J:a<.o):Jn (countsOf g x) a 0 .W=T .B a x:=by simp_all[aaj,TP,ZW]
theorem kZ:p∈dh g↔∃r∈g.rules,gA p.1 p.2∈.O:=by unfold dh;lk
def A8:∀(l:.bK) acc,cj acc->cj .yc/\∀x,x∈.yc↔x∈acc\/∃p∈l,x=p.1\/x=p.2+1
 |[],acc,h=>(.c h<|.ah .f)
 |p::l,acc,h=>by let[B,M]:=A8 l (put p.1<|put (p.2+1) acc) (A2<|A2 h);grind[xR]
def xX g:cj (Dj g):=(A8 (dh g) []<|by simp[cj]).1
def va:x∈Dj g↔∃p∈dh g,x=p.1\/x=p.2+1:=by unfold Dj;rw[(A8 _ []<|by simp[cj]).2 x];simp
def ML a b l:uj (a::b::l)=(a,b-1)::uj (b::l):=rfl
def vc:.hU (cj l->p∈uj l->p.1∈l/\(∃b,p.2=b-1/\b∈l/\p.1<b)/\∀c∈l,c<=p.1\/p.2<c)
 |[],_,h=>.iL
 |[a],_,h=>.iL
 |a::b::l,f,h=>by
  let B:=hV.mp f;let M:=hV.mp B.2;let rfl|||h:=.c6 h
  .lk
  .let[V,[d,e,i,g],G]:=vc B.2 h;lk
def MM:.hU (cj l->(∃a∈l,a<=x)->(∃b∈l,x<b)->∃p∈uj l,p.1<=x/\x<=p.2)
 |[],_,⟨a,h,_⟩,_=>.iL
 |[a],_,_,_=>.d
 |a::b::l,c,_,⟨d,N,M⟩=>by
  let q:=hV.mp c;rw[ML];let J:a<=x:=.d
  by_cases e:x<b
  .show(.q (a,b-1) .f J .a)
  .let U:d∈b::l:=.d
   let[p,R,h]:=MM q.2 (.i1 b .a) (.g d U M);lk
def MN:.hU (cj l->.lG (uj l) λp q=>p.2<q.1)
 |[],_=>.nil
 |[a],_=>.nil
 |a::b::l,c=>by let B:=hV.mp c;calc hV.mpr (.c (λq f=>?_)<|MN B.2);let G:=(vc B.2 f).1;grind[hV]
section
variable(g:aQ)
def cB:=∀p∈dh g,p.1<=p.2/\p.2<256
end
theorem Fd g:.lG (dC g) (λp q=>p.2<q.1):=.dx (MN<|xX g) _
def xY:.n (zC p q)↔q.1<=p.1/\p.2<=q.2:=by unfold zC;simp
theorem vd:p∈dC g↔p∈uj (Dj g)/\∃q∈dh g,q.1<=p.1/\p.2<=q.2:=by simp[dC,xY]
def ve(h:p∈dC g):p.1<=p.2:=by let[_,[b,e,_,Y],_]:=vc (xX g) (vd.mp h).1;lia
def Fe(h:p∈dC g)(f:q∈dh g){x}(B:p.1<=x)(M:x<=p.2):(q.1<=x/\x<=q.2)↔(q.1<=p.1/\p.2<=q.2):=by let[_,[b,e,_,Y],V]:=vc (xX g) (vd.mp h).1;let Q:=V q.1 (va.mpr<|.g q f .w);let r:=V _ (va.mpr<|.g q f .cY);lia
theorem sM(w:.bx){q}(f:q∈dh g){x}(B:q.1<=x)(M:x<=q.2):∃p∈dC g,p.1<=x/\x<=p.2:=by let[p,R,A,P]:=MM (xX g) (.g q.1 (va.mpr<|.g q f .w) B) (.g (q.2+1) (va.mpr<|.g q f .cY) .a);let[_,[b,e,_,Y],V]:=vc (xX g) R;let Q:=V q.1 (va.mpr<|.g q f .w);let r:=V _ (va.mpr<|.g q f .cY);grind[vd]
def lY:.fz b=.fg↔∃p,(dC g)[k]?=.cL/\p.1<=b/\b<=p.2:=by
 unfold classAt;rw[Uh];walk
 .lk
 .intro[p,R,B,M];grind[Jo,Fd]
theorem vg:.H (.fz b)↔∀p∈dC g,¬(p.1<=b/\b<=p.2):=by unfold classAt;simp
def cl(g:aQ)(b:Nat):=(.fz b).getD (.m<|dC g)
def sN(w:.bx)(f:(lo,hi)∈dh g):(lo<=b/\b<=hi)↔(cl g lo<=cl g b/\cl g b<=cl g hi):=by
 let Y:=w _ f;let[n,M,B,i]:=sM w f (x:=lo) .ao Y.1;let[l,c,A,P]:=sM w f Y.1 .ao;let[a,L]:=De.mp M;let[J,C]:=De.mp c;let y:cl g lo=a:=by unfold cl;rw[lY.mpr<|.q n L B i];rfl
 let Q:cl g hi=J:=by unfold cl;rw[lY.mpr<|.q l C A P];rfl
 let[H,rfl]:=.bd L;let[N,rfl]:=.bd C;let G:=(Fe M f B i).mp (.c .ao Y.1);let m:=(Fe c f A P).mp (.c Y.1 .ao);rw[y,Q];cases e:.fz b with
 |none=>
  let t:=vg.mp e;have:cl g b=(.m<|dC g):=by unfold cl;rw[e];rfl
  walk
  .intro h;let[p,R,K,d]:=sM w f h.1 h.2;lk
  lia
 |some k=>let[p,j,K,d]:=lY.mp e;let[E,rfl]:=.bd j;grind[cl,Jo,Fd]
def eQ(g:aQ):Sym->Sym
 |.non k=>.non k
 |.range a b=>.eb (cl g a)<|cl g b
def aC(g:aQ):aQ:={nons:=g.nons,rules:=.fa<|.bN (.rq<|eQ g)}
def MO(J:∀a u,f a u=f' a (.l8 g))(w:.bx){s}(hs:.jT (s=.fN) ((lo,hi)∈dh g)) u:lT f s u=lT f' (eQ g s) (.l8 g):=by
 cases s with
 |non b=>show J b u
 |range lo hi=>
  let _|||[b,_|||[c,v]]:=u
  .rfl
  .change(.dq<|lo<=b/\b<=hi)=(.dq<|_<=_/\_<=_);have:=sN (b:=b) w (hs lo hi rfl);lk
  .rfl
def MP(J:∀a u,f a u=f' a (.l8 g))(w:.bx):.hU (.rW->∀u,gH f l u=gH f' (.nq g) (.l8 g))
 |[],_,u=>by change(.dq<|u=[])=(.dq<|_=[]);simp
 |s::l,h,u=>by change(.lu _ (.bg<|_*_))=(.lu _ (.bg<|_*_));rw[aj];congr 1;apply dG;intro c _;rw[MO J w λlo hi e=>h lo hi .d,MP J w (λlo hi G=>h lo hi<|gR _ G),qo,uk]
def MQ(w:.bx):∀k a u,N .B k a u=N .hd k a (.l8 g)
 |0,_,_=>rfl
 |k+1,a,u=>by
  change(.fa (.bN<|.mR (.C=a) _)).sum=(.og (.fa<|.bN ({lhs:=r.lhs,rhs:=_}:bw)) (.bN<|.mR (.C=a) _));rw[a_];congr 1;apply dG;intro r Z;simp only[Function.comp];by_cases e:.C=a
  .rw[.cK,.cK,MP (MQ w k) w λc b G=>.nj r Z G]
  lk
theorem xZ(w:.bx) a u:T .B a u=T .hd a (.l8 g):=by let h:=n8 .hd a (.l8 g);calc(n8 .B a u).uniq ?_;let e:=funext (.aU<|MQ w k a u);lk
def MR(Y:∀q∈dh g,¬(q.1<=b/\b<=q.2)):∀k a u,b∈u->N .B k a u=0
 |0,_,_,_=>rfl
 |k+1,a,u,h=>by
  have o:∀{l:_},(∀f i,gA f i∈l->(f,i)∈dh g)->∀u,b∈u->gH (N .B k) l u=0:=by
   intro l;induction l with
   |nil=>intro _ u R;change(.dq<|u=[])=0;lk
   |cons s l E=>
    intro n u R;apply xS;intro z j;let[c,_,rfl]:=.Y j;rw[<-wN c u,cx] at R;let R|||R:=R
    .have:lT (N .B k) s (.et c)=0:=by
      cases s with
      |non d=>show MR Y k d _ R
      |range f i=>
       match q:.et c,R with
       |[],R=>cases R
       |[d],R=>rw[dj] at R;subst R;change(.dq<|f<=b/\b<=i)=0;lk
       |d::m::v,R=>rfl
     lk
    lk
  apply xS;intro z j;let[r,Z,rfl]:=.Y j;by_cases e:.C=a
  .grind [kZ]
  lk
def MS(w:.bx){b}(Y:.H (.fz b)) a{u}(h:b∈u):T .B a u=c0:=by calc uW.mpr (.aU<|MR (λq f z=>?_) k a u h);grind[sM,vg]
def x4(u:.ag):WF .N:=by
 refine(.c (λr Z=>?_) λr Z b Y=>?_)
 .let[q,f,rfl]:=.Y Z;show u.lhs q f
 .let[q,f,rfl]:=.Y Z;let[s,a,e]:=.Y Y;cases s with
  |non k=>cases e;show u.non q f b a
  |range d c=>cases e
structure iW(tl:.eU)(rests:.h):Prop where
 zero:tl[0]?=.b []
 len:rests.length=.cc
 step:∀t,0<t->t<.cc->∃s l,tl[t]?=.fS s/\.hc t<t/\tl[.hc t]?=.b l
def mZ(rests:.h)(b t:Nat)(l:.bq):=match l with
 |.non k::_=>.kZ (k=b) (.be t<|.hc t)
 |_=>none
def m_(rests:.h)(c t:Nat)(l:.bq):=match l with
 |.range b a::_=>.kZ (b<=c/\c<=a) (.be t<|.hc t)
 |_=>none
def qV(tl:.eU)(rests:.h)(b:Nat):=.mO .cc (λt=>mZ .af b t<|.gm t)
def k9(tl:.eU)(rests:.h)(c:Nat):=.mO .cc (λt=>m_ .af c t<|.gm t)
def oC(dy:.h)(w:Nat)(I:.h)(R:Nat×Nat):=.A (0<dy.getD R.2 0/\.hk R.1<END) (I.set R.1<|.hk R.1+w*dy.getD R.2 0) I
def fL(dy:.h)(w:Nat)(I:.h)(ts:.bK):=ts.foldl (oC dy w) I
def upd(dy:.h)(w v r:Nat):=.A (0<dy.getD r 0/\v<END) (v+w*dy.getD r 0) v
def Ov dy w I R:(.m<|oC dy w I R)=.ec:=by unfold oC;lk
theorem sZ dy w:∀ts I,(.m<|fL dy w I ts)=.ec
 |[],I=>rfl
 |R::ts,I=>by change(.m<|fL dy w _ ts)=_;rw[sZ dy w ts,Ov]
def yj{l:.h}{i j v}:.fX (l.set i v) j=.A (i=j/\j<.ax) v (l.getD j 0):=.d
def Ow{R}{t}(h:R.1≠t):.dp (oC dy w I R)=.hk t:=by unfold oC;lk
theorem aeL{t r}(h:t<.ec):.dp (oC dy w I (t,r))=upd dy w (.hk t) r:=by unfold oC upd;lk
theorem s_{t}:∀{ts} {I},(∀R∈ts,R.1≠t)->.dp (fL dy w I ts)=.hk t
 |[],I,_=>rfl
 |R::ts,I,h=>by change .dp (fL dy w _ ts)=_;rw[s_ (.eu (h x<|by simp[D])),Ow<|h R .f]
def F4{dy:.h}{w}{t r}:∀{ts:.bK} {I:.h},t<.ec->(.a9 (ts.map .fr))->(t,r)∈ts->.dp (fL dy w I ts)=upd dy w (.hk t) r
 |[],I,_,_,h=>.iL
 |R::ts,I,B,a,h=>by
  change .dp (fL dy w _ ts)=_;rw[bx,lF] at a;let rfl|||h:=.c6 h
  .grind [s_,aeL]
  .rw[F4 (by rw[Ov];show B) a.2 h,Ow λe=>a.1 .d]
def Ox(f:.bn (.aR<|Nat×Nat))(J:∀t p,f t=.cL->p.1=t):∀(l:.h),l.Nodup->((.a9 (.eZ<|.pY f))/\∀t∈.eZ<|.pY f,t∈l)
 |[],_=>(.ft .f)
 |t::l,h=>.d
section
variable{rests:.h}
def aeM b:(.a9 (.eZ<|qV tl .af b)):=by calc(Ox _ (λt p h=>?_) _ rS).1;unfold mZ at h;lk
def aeN c:(.a9 (.eZ<|k9 tl .af c)):=by calc(Ox _ (λt p h=>?_) _ rS).1;unfold m_ at h;lk
theorem BD:(t,r)∈qV tl .af b↔r=.hc t/\∃l,tl[t]?=.fS .eW:=by
 unfold qV;rw[jS];walk
 .intro[k,L,h];unfold mZ at h;lk
 .intro[rfl,l,h];calc(.cf t (.fO<|.aw h));grind[mZ]
def yk:(t,r)∈k9 tl .af c↔r=.hc t/\∃lo hi l,tl[t]?=.fS .fN/\lo<=c/\c<=hi:=by
 unfold k9;rw[jS];walk
 .intro[k,L,h];unfold m_ at h;lk
 .intro[rfl,lo,hi,l,h,V];calc(.cf t (.fO<|.aw h));grind[m_]
def jH(tl:.eU)(rests:.h)(hw dy:.h)(I:.h)(h:Nat):=.A (0<hw.getD h 0) (fL dy (hw.getD h 0) I<|qV tl .af h) I
def F5 hw dy h I:(.m<|jH tl .af hw dy I h)=.ec:=by grind[jH,sZ]
def qW{N:Type}{f}(h:∀I a,(.m<|f I a)=.ec):∀(l:.aS) (I:.h),(.m<|.ef f I)=.ec
 |[],I=>rfl
 |a::l,I=>by rw[cW,qW h l,h]
theorem F6{t}(B:∀b l,tl[t]?≠.fS .eW):∀(hs:.h) I,.dp (hs.foldl (jH tl .af hw dy) I)=.hk t
 |[],I=>rfl
 |h::hs,I=>by rw[cW,F6 B hs];grind[jH,s_,BD]
def Oy{t b}{l}(B:tl[t]?=.fS .eW):∀n I,t<.ec->.xZ=.A (b<n/\0<hw.getD b 0) (upd dy (hw.getD b 0) (.hk t)<|.hc t) (.hk t)
 |0,I,_=>.f
 |n+1,I,d=>by
  rw[lH,kM,cW,zQ];let E:=Oy (hw:=hw) (dy:=dy) B n I d;let M:(.m<|.k2 n (jH tl .af hw dy) I)=.ec:=qW (λI a=>F5 hw dy a I) _ _;rw[jH];by_cases e:n=b
  .subst e;let E:.xZ=.hk t:=.d
   by_cases q:0<hw.getD n 0
   .rw[.dF,F4 .a (aeM n) (BD.mpr<|.g rfl l B),E,.r<|.c .a q]
   lk
  grind[fL,jH,s_,BD]
end
def ng(tl:.eU)(rests:.h)(nons:Nat)(hw tw:.h->.h)(u:.h)(I:.h)(c:Nat):=.k2 nons (jH tl .af (hw (.et<|c+1))<|tw (u.drop<|c+1)) I
def pQ(tl:.eU)(rests:.h)(nons:Nat)(hw tw:.h->.h)(u:.h):=
 .k2 (.ee-1) (ng tl .af nons hw tw u) (fL (tw<|u.drop 1) 1 (bL .cc 0) (k9 tl .af<|u.getD 0 0))
def yn n i:.fX (bL n 0) i=0:=.d
def Oz{v r n}{c d e}(h:Ap v c n)(t:n<MW)(Z:dy.getD r 0=enc e)(N:.ad d):Ap (upd dy (enc d) v r) (.aD c<|.ac d e) (n+1):=by
 unfold upd;rw[Z];by_cases q:0<enc e/\v<END
 .rw[.dF];show h.add (Ap.mul d e)
 .rw[.ff];by_cases z:e=c0
  .rw[z,j4,fx];show h.mono .a
  .have:END<=v:=.dJ (sD z)
   show(h.jX t this).mono .a
structure Known(rs:.b2)(tl:.eU)(nons:Nat)(hw tw:.h->.h)(v:.h):Prop where
 heads:.bu (b<nons) (.fX (hw v) b=.oo b v)
 BE:∀(t:Nat) (l:.bq),tl[t]?=.b l->.dp (tw v)=enc (.i6 l v)
def aeO(Q:iW tl .af){u}(R:u≠[])(H:.ee<MW)(hl:.rT)
  (S:∀i j,i<=j->j<=.ee->(0<i\/j<.ee)->Known rs tl nons hw tw ((.et j).drop i)) {t} {s} {l} (B:tl[t]?=.fS s):
  settle (.dp<|pQ tl .af nons hw tw u)=enc (lU (T rs) s l u):=by
 have o:=(.aw B);let O:0<t:=by
  let rfl|||h:=o5 t
  .rw[Q.zero] at B;cases B
  .show h
 let[J,l',L,hr,C]:=Q.step t O o;rw[B] at L;cases L;let K:∀c,0<c->c<=.ee->Known rs tl nons hw tw (u.drop c):=.d
 let n:∀c,c<.ee->Known rs tl nons hw tw (.et c):=by intro c V;have:=S 0 c .a .a (.F V);lk
 let p:0<.ee:=UP.mpr R
 obtain⟨U,g,rfl⟩:∃a b,u=a::b:=by cases u with
  |nil=>lk
  |cons a b=>simp
 let y:(.m .rU)=.cc:=by rw[sZ,JD]
 cases s with
 |range x A=>
  have Z:.dp (pQ tl .af nons hw tw<|U::g)=.dp .rU:=by
   unfold pQ;have:∀(N:.h) (I:.h),.dp (N.foldl (ng tl .af nons hw tw<|U::g) I)=.hk t:=by
    intro N;induction N with
    |nil=>simp
    |cons c N E=>intro I;rw[cW,E];unfold ng;rw[F6];lk
   lk
  rw[Z];change settle _=enc (.ia .tk (T rs) l<|.nm U g 1);by_cases q:x<=U/\U<=A
  .rw[.bX (.tk=c1) .dF];rw[F4 (r:=.hc t) .d (aeN _)<|yk.mpr (.ab rfl x A l B<|show x<=.fX (U::g) 0/\.fX (U::g) 0<=A from q),yn];have:=Oz (dy:=tw<|.nm U g 1) (v:=0) (r:=.hc t) (d:=c1) (e:=.i6 l<|.nm U g 1) Ap.zero .V ((K 1 .a p).BE _ _ C) .f;rw[.g7<|enc c1=1,j3] at this;show this.settle .V
  .rw[.bX (.tk=c0) .ff,fS,jB];rw[s_,yn]
   .rfl
   .intro[W,r] D e;let[_,k,P,f,X,M]:=yk.mp D;lk
 |non b=>
  let Y:=hl t b l B;let w:.dp .rU=0:=by rw[s_,yn];intro[W,r] D e;let[_,k,P,f,X,M]:=yk.mp D;lk
  change settle _=enc (.i2 ((.m<|U::g)-1) .vj);let F:∀m,m<=(.m<|U::g)-1->Ap (.dp .vY) (.i2 m .vj) m:=by
   intro m;induction m with
   |zero=>simp_all[List.range_zero,zQ,Ap.zero]
   |succ m E=>
    intro G;let E:=E .a;rw[lH,kM,cW,zQ,bo,EC];rw[bx,zR,iK,LQ,fx];let len:(.m .vY)=.cc:=by simp_all[qW,ng,F5]
    rw[show∀I,ng tl .af nons hw tw (U::g) I m=.k2 nons (jH tl .af (hw (.aC (U::g)<|m+1))<|tw (.nm U g<|m+1)) I from .hI];rw[Oy B nons _ .a,(n (m+1) .a).heads b Y];by_cases q:0<.oo b (.aC (U::g)<|m+1)
    .rw[.r<|.c Y q];calc Oz E .a ((K (m+1) .a .a).BE _ _ C) .M;rw[z,jB] at q;lia
    .rw[.hm<|q z.2];have:.cM b (.aC (U::g)<|m+1)=c0:=uY.mp .a;rw[this,fS,fx];show E.mono .a
  show(F _ .ao).settle .a
def aeP(Q:iW tl .af) u:.fX (pQ tl .af nons hw tw u) 0=0:=by
 unfold pQ;let T:∀b l,tl[0]?≠.fS .eW:=by intro b l;rw[Q.zero];simp
 have:∀(a:.h) (I:.h),.fX (a.foldl (ng tl .af nons hw tw u) I) 0=.hk 0:=by
  intro a;induction a with
  |nil=>simp
  |cons c a E=>grind[cW,ng,F6]
 rw[this,s_,yn];intro[d,r] D e;let[_,k,t,f,B,M]:=yk.mp D;simp only at e;rw[e,Q.zero] at B;cases B
def oD u:(.m<|pQ tl .af nons hw tw u)=.cc:=by simp[pQ,qW,sZ,ng,F5]
def iX(rests i u:.h)(t:Nat)(l:.bq):=match l with
 |.non b::_=>.f8 .zR (t,.hc t,b)
 |_=>none
def loose(tl:.eU)(rests i u:.h):=.mO .cc (λt=>iX .af i u t<|.gm t)
def ke(i u heads:.h)(I:.h)(p:Nat×Nat×Nat):=.A (0<.vi) (I.set p.1 (settle<|.hk p.1+.vi)) I
def jh(b:.co Nat (Nat×Nat))(i u parted heads:.h):=b.foldl (ke i u heads) parted
theorem OA i u heads I p:(.m<|ke i u heads I p)=.ec:=by unfold ke;lk
def BF b i u parted heads:(.m<|jh b i u parted heads)=parted.length:=qW (λI p=>OA i u heads I p) _ _
theorem OB{rs:.b2}(Q:iW tl .af){i u:.h}(he:.tj)(ht:∀(t:Nat) l,tl[t]?=.b l->u.getD t 0=enc (.i6 l []))
  (d:.rT) {parted heads:.h} (o:parted.length=.cc) {H:.fF} (j:.bu (b<nons) (heads.getD b 0=enc (H b))) {W P:.bq->bE} (U:.pK 0=enc (W []))
  (G:∀(t:Nat) s l,tl[t]?=.fS s->.pK t=enc (P<|s::l))
  (F:∀b l,W (.eW::l)=.uQ) (hR:∀lo hi l,W (.fN::l)=P (.fN::l)):
  ∀(t:Nat) l,tl[t]?=.b l->.dp .xY=enc (W l):=by
 let' w:.h->.gp:=λI t=>match iX .af i u t (.gm t) with
  |some p=>ke i u heads I p
  |none=>I;let A:.xY=.md .cc w:=by grind[jh,loose,List.foldl_filterMap]
 let k:∀I t,(.m<|w I t)=.ec:=by grind[iX,ke,OA]
 have key:∀n,n<=.cc->(∀t l,t<n->tl[t]?=.b l->.dp (.md n w)=enc (W l))/\(∀t,n<=t->.dp (.md n w)=.pK t):=by
  intro n;induction n with
  |zero=>simp
  |succ n E=>
   intro hn;let[X,v]:=E .a;let S:(.m<|.md n w)=.cc:=by rw[qW k,o]
   rw[lH,kM,cW,zQ];let r:∀t,t≠n->.dp (w (.md n w) n)=.dp (.md n w):=by
    intro t y;change .dp (match iX .af i u n (.gm n) with
     |some p=>ke i u heads (.md n w) p
     |none=>.md n w)=_;split
    .rename_i p R;have:p.1=n:=by unfold iX at R;lk
     unfold ke;lk
    .rfl
   calc(.c (λt l a f=>?_) λt a=>.d);by_cases e:t=n
   .subst e;change .dp (match iX .af i u t (.gm t) with
     |some p=>ke i u heads (.md t w) p
     |none=>.md t w)=_;rw[.bX (.gm t=l) .d];let z:=v t .ao;cases l with
    |nil=>
     have:t=0:=by
      let h|||h:=o5 t
      .show h
      .let[s,l,q,_]:=Q.step t h .a;lk
     simp only[iX];lk
    |cons s l=>
     have g:0<t:=by
      let h|||h:=o5 t
      .rw[h,Q.zero] at f;cases f
      .show h
     let[J,V,L,Z,C]:=Q.step t g .a;rw[f] at L;cases L;cases s with
     |range lo hi=>simp only[iX];lk
     |non b=>
      let Y:=d t b l f;let M:=X _ l Z C;let O:=ht _ l C;let N:=he b Y;let K:=j b Y;simp only[iX];by_cases c:.zR
      .rw[.r c];simp only[ke];rw[M,O,N,K,z,G t _ _ f,F];let D:Ap (enc (P<|.eW::l)+.s1) .uQ (1+(1+1)):=(Ap.enc _).add ((Ap.mul _ _).add<|Ap.mul _ _);by_cases m:0<.s1
       .rw[.r m,yj,.r<|.aY .a];show D.settle .V
       .rw[.x m,z,G t _ _ f];have:=D.settle .V;rw[.dg<|.s1=0,Nat.add_zero,ZR] at this;show this
      .rw[.x c];simp only;rw[z,G t _ _ f,F];let x:.cM b []=c0:=uY.mp .a;let B:.i6 l []=c0:=uY.mp .a;rw[x,B,fS,j4,fx,fx]
   lk
 lk
def aeQ(Q:iW tl .af){i a}(he:.tj)(B:.vX)
  (d:.rT) {parted} (o:parted.length=.cc) {u} (U:.pK 0=0) (G:.vW) k:
  ∀t l,tl[t]?=.b l->.dp (jh (loose tl .af i a) i a parted<|bL k 0)=enc (Bc (T rs) l u):=by
 refine OB Q he B d o (λb _=>by rw[yn,jB]) (P:=λl=>match l with
  |[]=>c0
  |s::l=>lU _ s l u) (by room) (λt s l h=>G t s l h) (λb l=>?_) λc e l=>?_
 .change .aD _ (.ac (.cM b []) _)=_;rw[fS,fx]
 .change .aD _ (.ac c0 _)=_;rw[fS,fx]
def aeR(Q:iW tl .af){i a}(he:.tj)(B:.vX)
  (d:.rT) {parted heads} (o:parted.length=.cc) {u} (R:u≠[]) (U:.pK 0=0) (G:.vW)
  (j:.bu (b<nons) (heads.getD b 0=.oo b u)):
  ∀t l,tl[t]?=.b l->.dp (jh (loose tl .af i a) i a parted heads)=enc (.i6 l u):=by
 refine OB Q he B d o j (P:=λl=>match l with
  |[]=>c0
  |s::l=>lU _ s l u) (by rw[U,xJ R,jB]) (λt s l h=>G t s l h) (λb l=>?_) λc e l=>?_
 .rw[EO _ _ l R,<-g5,<-g5,pG<|lU _ _ l u];rfl
 .rw[EO _ _ l R];change .lb c0 _ (.aD _ c0)=_;rw[fS,fx,j3]
def nF(g:aQ)(x:.h)(s:.c1):=zA<|s++s.flatMap (below<|.ig g x)
def nI(g:aQ)(x:.h)(s:.c1):.bn .c1
 |0=>s
 |k+1=>nF g x<|nI g x s k
def vD:m∈nF g x s↔m∈s\/∃n∈s,BB g x n m:=by
 unfold nF;rw[E_,cx,dP];walk
 .rintro(h|⟨n,t,h⟩)
  .lk
  .show .F (.g n t<|xU.mp h)
 .rintro(h|⟨n,t,h⟩)
  .lk
  .show .F (.g n t<|xU.mpr h)
def F7:∀(l acc:.c1),∃r,.ti=acc++r
 |[],acc=>(.c [] .f)
 |m::l,acc=>by
  rw[cW];split
  .show F7 l acc
  .let[r,Z]:=F7 l (acc++[m]);lk
def OC:∀(s acc:.c1),(.a9<|acc++s)->s.foldl (λa n=>.A (kK n a) a<|a++[n]) acc=acc++s
 |[],acc,_=>.f
 |m::s,acc,h=>by
  let G:kK m acc≠true:=.s (.jP<|qL.mp z)
  rw[cW,.x G,OC s _ .d,eZ];rfl
def aeS(h:s.Nodup):∃r,nF g x s=s++r:=by simp_all[nF,zA,OC,F7]
def OD(h:s.Nodup):.aM (.a9<|nI g x s k)
 |0=>h
 |k+1=>Z3 _
def F8(h:s.Nodup):∀k j,nodesBelow (.ig g x) k (nI g x s j)=nI g x s (j+k)
 |0,j=>rfl
 |k+1,j=>by
  change(.e9 ((.m<|nF g x _)==_) _ _)=_;by_cases e:(.m (nF g x<|nI g x s j))=(.m<|nI g x s j)
  .let[r,a]:=aeS (g:=g) (x:=x) (OD (g:=g) (x:=x) h j);let Z:nF g x (nI g x s j)=nI g x s j:=.fM
   have:.aM (nI g x s (j+k)=nI g x s j):=by
    intro k;induction k with
    |zero=>rfl
    |succ k E=>change nF g x (nI g x s<|j+k)=_;rw[E,Z]
   cbv
  .rw[.x .le];change nodesBelow _ k (nI g x s<|j+1)=_;rw[F8 h k _];lk
def Under(g:aQ)(x:.h)(n m:bU):=m=n\/bz (BB g x) n m
def aeT(t:.dd n){m}:m∈.r6↔Under g x n m:=by
 have e:=.wX;rw[.g7<|nI g x [n] 0=[n]] at e;rw[e,qm];let o:∀k m,m∈nI g x [n] k->Under g x n m:=by
  intro k;induction k with
  |zero=>intro m h;show .z (.d4 h)
  |succ k E=>
   intro m h;let h|||[p,R,Y]:=vD.mp h
   .lk
   .let q|||q:=E p R
    .rw[q] at Y;show .F (.one Y)
    .show .F (q.snoc Y)
 refine(.da (o _ m) ?_);obtain⟨k,L⟩:∃k,m∈nI g x [n] k:=by
  let rfl|||h:=h
  .show(.c 0<|by simp[nI])
  .have:∀{a m:bU},bz (BB g x) a m->.aM (a∈nI g x [n] k->∃k,m∈nI g x [n] k):=by
    intro a m h;induction h with
    |@one a b q=>intro k L;show(.c (k+1)<|vD.mpr (.F<|.g a L q))
    |@more a b c q _ E=>intro k L;show E (k+1) (vD.mpr (.F<|.g a L q))
   show this h 0 (by simp[nI])
 refine qJ .nG (λk m=>m∈nI g x [n] k) (λk m h=>vD.mpr .ex) (λk m h=>?_) (λk L m h=>?_) (k:=.qQ+1) .a L
 .let rfl|||q:=o k m h
  .show t
  .show A5 q
 .let h|||[p,R,h]:=vD.mp h
  .show h
  .show vD.mpr (.F<|.g p (L p R) h)
def aeU n:(.a9 .r6):=by let e:=.wX;rw[.g7<|nI g x [n] 0=[n]] at e;rw[e];show OD .f _
theorem OE n:∀l,(putNode n l).Perm (n::l)
 |[]=>.refl _
 |m::l=>by
  unfold putNode;split
  .rfl
  .show .aA ((OE n l).cons m) (.swap n m l)
def OF l:(sortNodes l).Perm l:=by
 unfold sortNodes;have:∀(l b:.c1),(.ef (λa n=>putNode n a) b).Perm (l++b):=by
  intro l;induction l with
  |nil=>simp
  |cons n l E=>grind[OE]
 lk
open Classical in
noncomputable def one(g:aQ)(x:.h)(a i j:Nat):bE:=.db<|j∈.gc
def aeV:Tells .by (onesOf .by) (one g x):=by intro a i;grind[rowOf,onesOf,bX,dG,one]
theorem F9 a i j(h:j∉.gc):one g x a i j=c0:=by unfold one;rw[.x h]
def aeW{N c:Type}(f:N->.y c)(l:.aS):.b (.qV f)=.dL (λa=>.b (.m<|f a)):=by
 induction l with
 |nil=>rfl
 |cons a l E=>rw[lK,ez,bx,iK,<-E];rfl
def F'(u:.ag):∀l i j,.b (.m<|.nO x l i j)=je x (one g x) l i j
 |[],i,j=>.p5<|.b (.m (.ea (i==j) [[]] []:_))=.db (i=j)
 | .range c a::r,i,j=>by
  change .b (.m (.b7 _ [] _:_))=.gk _ (.cN (.ac .zQ<|_));cases e:gf x _ (_) i with
  |nil=>simp_all[gf,j5,fS]
  |cons q h=>
   let f:q∈gf x .by (.eb c a) i:=.d
   obtain⟨k,b,Y,d⟩:=lW.mp f;let K:=(.aw Y);simp only[aod,wg,if_false];rw[F' u r _ j];have:∀m∈aq<|.W+1,.ac .zQ (je x (one g x) r m j)=.eC (m=i+1) (je x (one g x) r m j):=by
    intro m _;by_cases G:m=i+1
    .simp_all[lW,uU]
    simp_all[if_neg,lW,fS]
   simp_all[jA,L1,one]
 | .non b::r,i,j=>by
  change .b (.m (.b9 (.dx (bX _ b i) _)<|.bO .tJ))=_;rw[aeW];let L:(.rS).map (.bO (.b<|.m .tJ))=(.rS).map (.bO (.ac (one g x b i q)<|je x (one g x) r q j)):=by apply dG;intro q f;let f:=(.lr f);rw[aj,F' u r q j];unfold one;rw[.r f,uU]
  rw[L,xV _ _ _ _]
  .refine xW (E9 g x b i).nodup rS _ ?_ ?_
   .grind [fy]
   grind[F9,fS]
  grind[A6,F9,j4,j6,pH]
def aeX(u:.ag) l i j:ways x (onesOf .by) l i j=.b (.m<|.nO x l i j):=by rw[MB aeV u F9,F' u]
def BG{N c:Type}(f:N->.y c)(l:.aS):(.qV f)=(.hG λa=>(.m<|f a)):=.f
def aeY{c:Type}(f:bw->c):.d0 (zS g) (f p.2)=.fa f:=by
 have:.zP=.B:=by grind[UQ]
 calc(.hK .bf .B).map _=(.zP).map f:=.f
  _=_:=by rw[this]
def aeZ(u:.ag) n:waysOf g x (onesOf .by) n=(.m<|altsFor g x .by n):=by
 unfold waysOf altsFor;rw[BG];let L:.d0 (zS g) (.m<|.ea (.kT==n.1) ((.nO x p.2.rhs .a0 .aZ).map λl=>(.qs:Alt)) [])=.d0 (zS g) ((λr=>.vh) p.2):=.d
 rw[L,aeY (.bN<|.b7 (.C==n.1) .xX 0)];have:∀(b:.b2) (a:Nat),b.foldl (λs r=>.A (.C==n.1) (s+finite (ways x (onesOf .by) .O .a0 .aZ)) s) a=a+(b.map (.bN .vh)).sum:=by
  intro b;induction b with
  |nil=>simp
  |cons r b E=>
   intro a;rw[cW,E,bx,ui];split
   .rw[aeX u];change a+.xX+_=_;lia
   .lia
 lk
def eX(g:aQ)(x:.h)(n:bU):=sortNodes .r6
theorem nh(t:.dd n){m}:m∈eX g x n↔Under g x n m:=(OF _).mem_iff.trans<|aeT t
def vE n:(.a9<|eX g x n):=(OF _).nodup_iff.mpr<|aeU n
def Ga{N:Type} f:∀(l:.aS) (acc:Nat),.ef (λs m=>s+f m) acc=acc+(.hG f)
 |[],acc=>.f
 |a::l,acc=>by rw[cW,Ga f l,bx,ui];lia
theorem OG(u:.ag){n}:forestOf g x .by n=.A (n∉.nG) .uncovered (if 256<(.m<|eX g x n) then .great
  else .A (512<.vV) .great (.forest {root:=n,entries:=(eX g x n).map (.cN {node:=m,alts:=altsFor g x .by m})})):=by
 unfold forestOf;let V:.n (Du .by n.1 .a0 .aZ)↔.dd n:=by unfold Du;rw[j6,lX]
 by_cases h:.dd n
 .rw[.x<|show¬.n (! Du .by n.1 .a0 .aZ) by rw[V.mpr h];simp,.x<|show¬n∉.nG by simp[h]];have:.ei (sortNodes .r6) (λs m=>s+waysOf g x (onesOf .by) m) 0=.vV:=by rw[Ga,qm];congr 1;apply dG;intro m _;show aeZ u m
  dsimp only;rw[this];rfl
 .have:Du .by n.1 .a0 .aZ=.j:=by
   cases q:Du .by n.1 .a0 .aZ with
   |false=>rfl
   |true=>show .aa (V.mp q) h
  rw[.r<|by rw[this];rfl,.r h]
noncomputable def oE(rs:.b2)(s:Sym)(v:.h):=.bC (.ad<|bH (T rs) s v)
noncomputable def ni(rs:.b2)(l:.bq)(v:.h):=.bC (.ad<|.i6 l v)
noncomputable def fz(rs:.b2)(s:Sym)(l:.bq)(v:.h):=.dx (aq<|.jY+1) (.bg<|oE rs s (v.take c)&&ni rs l (v.drop c))
def gi:Sym->.dv .c1
 |.non b,i,c=>[(b,i,i+c)]
 |.range _ _,_,_=>[]
noncomputable def parts(rs:.b2)(x:.h):.bq->.dv (.y .c1)
 |[],i,j=>.ea (i=j) [[]] []
 |s::l,i,j=>.b9 (fz rs s l .b6)<|.bg (.d0 (parts rs x l (i+c) j)<|gi s i c++p)
theorem kg:c∈fz rs s l v↔c<=.jY/\.ad (bH (T rs) s<|v.take c)/\.ad (.i6 l<|v.drop c):=by unfold fz oE ni;lk
theorem ma{i j c}(h:i+c<=j):.nn c=.iR (i+c):=.jP<|xO (x:=x) (i:=i) .a h
theorem nj{i j c}(h:i+c<=j):(.b6).drop c=.eJ (i+c) j:=.jP<|xP (x:=x) (i:=i) .a h
def yo:.ad (aU F (s::l) u)↔∃c,c<=.ee/\.ad (bH F s<|.et c)/\.ad (aU F l<|u.drop c):=by
 walk
 .intro h;apply dW;intro z;apply h;change aO _=c0;rw[uV];intro c V;let[k,L,rfl]:=.Y V;rw[lS];lk
 .intro[c,V,B,M] z;let z:aO _=c0:=z;rw[uV] at z;have:=z _ (aoe<|.fO (.dg<|c<.ee+1));grind[lS]
def yp{i j}(B:i<=j)(M:j<=.W):.b6=[]↔i=j:=by grind[rV,f9]
theorem vF{rs:.b2}{x:.h}:∀{l:.bq} {i j:Nat},i<=j->j<=.W->(parts rs x l i j≠[]↔.ad (.i6 l .b6))
 |[],i,j,B,M=>by change(.ea (i=j) [[]] [])≠[]↔.ad (.db<|_=[]);simp_all[yp]
 |s::l,i,j,B,M=>by
  rw[yo];walk
  .intro h;let[p,R]:=UR _ h;let[c,V,_]:=dP.mp R;show(.c c<|kg.mp V)
  .intro[c,V];let d:=V.1;rw[f9 B M] at d;have:parts rs x l (i+c) j≠[]:=(vF .a M).mpr (by rw[<-.ms];lk);let[p,R]:=UR _ this;show US (.kF c (kg.mpr V)<|.f7 p R)
def qX{N c:Type}{l:.aS}{f h:N->.y c}(e:∀a∈l,f a=h a):l.flatMap f=l.flatMap h:=by
 induction l with
 |nil=>rfl
 |cons a l E=>lk
theorem OH{x:.h}:.oT (j<i) (.nO x l i j=[])
 |[],i,j,h=>.mY<|(.ea (i==j) [[]] [])=[]
 |.range d c::r,i,j,h=>by
  change(.b7 _ [] _)=[];split
  .rfl
  .show OH .a
 |.non b::r,i,j,h=>by
  change .b9 (.dx (bX _ b i) _) _=[];rw[Dv];intro q f;let[B,M]:=cZ.mp f;let Y:.yR:=by rw[E5];show sJ g x _
  let H:=Y _ _ _ B;have:=sH Y (pH.mp<|j6.mp M) .a;lia
def Gc{x:.h}(u:.ag):.oT (.bu (c5 b∈l)<|b<.o) (i<=j->j<=.W->.nO x l i j=parts .B x l i j)
 |[],i,j,_,_,_=>by change(.ea (i==j) [[]] [])=.ea (i=j) [[]] [];simp
 | .range s v::r,i,j,y,n,M=>by
  change(if(.nK<|gf x _ (.eb s v) i) then[] else kidsOf x _ r _ j)=.b9 (fz .B _ r _) (.bg (.d0 (parts .B x r _ j)<|[]++p));let F:∀c,c∈fz .B (.eb s v) r .b6->c=1:=by
   intro c V;let[o,B,_]:=kg.mp V;rw[f9 n M] at o;rw[.lw] at B;cases e:.iR _ with
   |nil=>rw[e] at B;show .hs B
   |cons a t=>
    cases t with
    |nil=>have:=(EZ .a .a e).1;lia
    |cons b t=>rw[e] at B;show .hs B
  cases e:gf x _ _ i with
  |nil=>
   simp only[anV,if_true];symm;rw[Dv];intro c V;let Q:=F c V;subst Q;let[o,B,_]:=kg.mp V;rw[f9 n M] at o;rw[.lw] at B;let D:x[i]?=.b (x[i]' .a):=cf _;rw[xQ D] at B;have:s<=x[i]' .a/\x[i]' .a<=v:=by apply dW;intro z;apply B;change(.A _ _ _)=_;lk
   have:i+1∈gf x .by (.eb s v) i:=lW.mpr (.q rfl _ D this);lk
  |cons q C=>
   let f:q∈gf x .by (.eb s v) i:=.d
   let[k,b,Y,d]:=lW.mp f;let K:=(.aw Y);simp only[aod,wg,if_false];by_cases J:j<i+1
   .grind [OH,Dv,kg,f9]
   .rw[Gc u (.a4 (y b<|by simp[Y])) .a M];by_cases Z:.pP .B r (.eJ (i+1) j)=c0
    .let G:parts .B x r (i+1) j=[]:=by apply dW;intro z;show(vF .a M).mp z Z
     grind[Dv]
    .have:fz .B (.eb s v) r .b6=[1]:=by
      apply sG
      .show Dx _ Jq
      .show List.pairwise_singleton _ _
      .intro c;rw[dj];calc(.c (F c) λV=>?_);subst V;rw[kg,f9 n M,.lw,.ms,xQ Y];grind[E6]
     cbv
 | .non b::r,i,j,y,n,M=>by
  change .b9 .rS (.bO .tJ)=.b9 (fz .B .eW r .b6) (.bg .wW);let Z:∀c,c5 c∈r->c<.o:=λc V=>y c (by simp[V]);let e:.rS=(fz .B .eW r .b6).map (i+·):=by
   apply sG
   .show Dx _ (E9 g x b i)
   .show apv _ (λa b h=>.a) (Dx _ Jq)
   .intro q;rw[cZ,aH];walk
    .intro[f,I];let[_,H,N,E]:=(fy u).mp f;let[m,_,A]:=(qK u Z .a).mp (pH.mp<|j6.mp I);calc(.g (q-i) ?_ .a);rw[kg,f9 n M,.lw,.ms,.dg<|i+(q-i)=q];show(.g .a E A)
    .intro[c,V,rfl];let[o,B,w]:=kg.mp V;rw[f9 n M] at o;rw[.lw] at B;rw[.ms] at w;show(.c ((fy u).mpr<|.q (y b .f) .a .a B) (j6.mpr<|pH.mpr ((qK u Z .a).mpr<|.g .a M w)))
  rw[e,JE];have:∀c∈fz .B .eW r .b6,(.nO x r (i+c) j).map (λl=>(b,i,i+c)::l)=.wW:=by intro c V;let o:=(kg.mp V).1;rw[f9 n M] at o;rw[Gc u Z .a M];rfl
  rw[qX this]
def pR(l:.y bE):=l.foldr times c1
def ae0 l m:pR (l++m)=.ac (pR l) (pR m):=by
 induction l with
 |nil=>show(uU _).symm
 |cons a l E=>simp_all[pR,xG]
def OI{N:Type} f(l:.aS):aO (l.flatMap f)=.dL (λa=>aO<|f a):=by
 induction l with
 |nil=>rfl
 |cons a l E=>rw[lK,EC,bx,iK,E]
def OJ(h:∀b v,.ad (F b v)->.ad (G b v)):∀{l} {v},.ad (aU F l v)->.ad (aU G l v)
 |[],v,q=>q
 |s::l,v,q=>by
  let[c,V,M,B]:=yo.mp q;calc yo.mpr (.q c V ?_<|OJ h B);cases s with
  |non b=>show h _ _ M
  |range d a=>rw[.bX (bH G _ _=bH F (.eb d a) (v.take c))<|by unfold bH;lk];show M
def th(F:.j1)(x:.h)(p:.c1):=pR<|p.map λn=>F n.1 (.eJ .a0 .aZ)
def OL{F}(h:.wU):.oT (i<=j) (j<=.W->aU F l .b6=aO ((parts rs x l i j).map<|th F x))
 |[],i,j,B,M=>by
  change(.db<|_=[])=aO ((.ea (i=j) [[]] []).map _);by_cases e:i=j
  .rw[.cK,.r<|(yp B M).mpr e];rfl
  simp_all[yp]
 |s::l,i,j,B,M=>by
  change aO _=aO ((.b9 (fz rs s l _)<|.bg _).map _);rw[JF,OI];rw[<-xV _ _ _]
  .apply jA;intro c V;let V:=kg.mp V;let g:=V.1;rw[f9 B M] at g;let C:=V.2.1;rw[.lw] at C;rw[.lw,.ms,OL h .a M,a_,AV];apply jA;intro p _;change _=th F x _;unfold th;rw[bo,ae0];congr 1;cases s with
   |non b=>change F b _=.ac _ c1;rw[AR]
   |range d a=>
    change _=c1;have:bH F (.eb d a) (.iR<|i+c)=bH (T rs) (.eb d a) (.iR<|i+c):=by unfold bH;lk
    revert C;unfold bH;lk
  .intro c _ V;rw[lS];apply dW;intro z;let f:=.bO (z<|.z q);let k:=.bO (z<|.F q);let m:=OJ h k;let G:.ad (bH (T rs) s<|.nn c):=by
    cases s with
    |non b=>show h _ _ f
    |range d a=>rw[.bX (bH _ _ _=bH F (.eb d a) (.nn c))<|by unfold bH;lk];show f
   unfold oE ni at V;lk
noncomputable def bu(rs:.b2)(x:.h)(n:bU):.y Alt:=.b9 (.hK .lk rs) (.as<|.ea (.kT==n.1) ((.zM).map λl=>.qs) [])
def ae1{x:.h}(u:.ag){n}(B:.a0<=.aZ)(M:.aZ<=.W):altsFor g x .by n=.fB x n:=by
 apply qX;intro p R;let Z:=(wF R).2;split
 .rw[Gc u (.a4<|u.non _ Z b Y) B M]
 .rfl
def ON:m∈gi s i c↔∃b,s=.eW/\m=(b,i,i+c):=by
 cases s with
 |non b=>simp[gi]
 |range d a=>simp[gi]
theorem BH:.oT (i<=j) (j<=.W->((∃p∈parts rs x l i j,m∈p)↔∃o U,l=o++c5 m.1::U/\(i<=.ek/\.ek<=.d3/\.d3<=j)/\.ad (.i6 o<|.iR .ek)/\.ad (.cM m.1<|.eJ .ek .d3)/\.ad (.i6 U<|.eJ .d3 j)))
 |[],i,j,k,M=>by simp[parts]
 |s::l,i,j,k,M=>by
  walk
  .intro[p,R,G];let[c,V,R]:=dP.mp R;let[q,f,rfl]:=.Y R;let a:=kg.mp V;let d:=a.1;rw[f9 k M] at d;rw[.lw,.ms] at a;let G|||G:=.c7 G
   .let[b,rfl,rfl]:=ON.mp G;show{[],l,rfl,(.g .ao (C9 _ _) (.dg<|i+c<=j)),by simp[aU,Mf],a.2.1,a.2.2}
   .let[o,U,e,Y,h,B,w]:=(BH .a M).mp (.g q f G);calc{s::o,U,.dR,(.c .a Y.2),?_,B,w};refine yo.mpr<|.jM c (by rw[f9 .a .a];lia) ?_
    .rw[.lw];lk
    .rw[.ms];show h
  .intro[o,U,e,Y,h,B,w];cases o with
   |nil=>
    obtain⟨rfl,rfl⟩:=e;let t:=by
     have:=.ru (h<|xJ z)
     show((yp Y.1 .a).mp this).symm
    let R:=UR _ ((vF .a M).mpr w);let[p,R]:=R;let V:i+(.d3-i)=.d3:=.a
    calc(.g (_++p) (.kF (.d3-i) ?_<|.f7 p .d)<|.oW (ON.mpr<|.aX m.1 .d));rw[kg,f9 k M,.lw,.ms,V];calc(.g .a ?_ w);rw[t] at B;show B
   |cons J o=>rw[rX] at e;injection e with r e;subst r;let[c,V,g,n]:=yo.mp h;rw[f9 .a .a] at V;rw[.lw] at g;rw[.ms] at n;let[p,R,G]:=(BH (rs:=rs) (x:=x) (m:=m) (l:=l) (i:=i+c) (j:=j) .a M).mpr {o,U,e,(.c .a Y.2),n,B,w};calc(.g (gi s i c++p) (.kF c ?_<|.f7 p R) (cx.mpr<|.F G));grind[kg,f9,ma,nj,vF,US]
def KP(rs:.b2)(x:.h)(n m:bU):=∃a∈bu rs x n,m∈a.kids
def BI:a∈bu rs x n↔∃r,rs[a.rule]?=.b r/\.C=n.1/\a.kids∈parts rs x .O .a0 .aZ:=by
 unfold bu;rw[dP];walk
 .intro[p,R,h];split at h
  .grind [mO]
  .cases h
 .intro[r,Z,d,L];calc(.cf (a.rule,r)<|mO.mpr Z);lk
def nk(u:.ag){n}(t:.dd n):=(fy u).mp<|lX.mp t
def tj(u:.ag){n m}(t:.dd n):KP .B x n m↔BB g x n m:=by
 let[i,H,N,_]:=nk u t;walk
 .intro[a,J,G];let[r,Z,d,L]:=BI.mp J;let c:=bb Z;let[o,U,e,Y,M,B,w]:=(BH H N).mp (.D L G);let W:=u.non r c;refine#[t,r,c,d,o,U,e,?_,?_,?_]
  .grind [qK]
  .grind [fy]
  grind[qK]
 .intro h;let[_,r,Z,d,o,U,e,M,B,w]:=h;let W:=u.non r Z;let[_,Q,l,A]:=(fy u).mp B;let[F,v,D]:=(qK u (.a4<|W b .d) .a).mp M;let[j,C,f]:=(qK u (.a4<|W b .d) .a).mp w;let[p,R,G]:=(BH H N).mpr {o,U,e,(.g F Q j),D,A,f};let[k,L]:=jW Z;show(.g {rule:=k,kids:=p} (BI.mpr<|.q r L d R) G)
def vG{N:Type}[.l4 N](f:N->Nat):∀{l L:.aS},l.Nodup->(∀a∈l,a∈L)->(.hG f)<=(.bG f).sum
 |[],L,_,_=>.f
 |a::l,L,h,c=>by let M:=lF.mp h;have:=vG f M.2 (.a4<|(aof λ(e:b=a)=>M.1 .d).mpr (c b<|by simp[Y]));grind[aog]
def sub_len{N:Type}[.l4 N]{l L:.aS}(h:l.Nodup)(hs:∀a∈l,a∈L):.ax<=.hi:=by have:=vG (λ_=>1) h hs;rw[E3,E3] at this;lia
def addAll(o ks:.c1):=ks.foldl (λo k=>.A (k∈o) o<|o++[k]) o
def Ge:∀ks o,o.Nodup->(.a9<|addAll o ks)/\(∀m,m∈addAll o ks↔m∈o\/m∈ks)/\∃r,addAll o ks=o++r
 |[],o,h=>(.q h (by simp[addAll]) []<|by simp[addAll])
 |k::ks,o,h=>by
  unfold addAll;rw[cW];by_cases e:k∈o
  .rw[.cK];let[B,M,A]:=Ge ks o h;calc(.g B (.cN ?_) A);rw[.lX<|(ks.foldl _ o)=addAll o ks,cw];lk
  .rw[.bU];let[B,M,r,A]:=Ge ks (o++[k]) (jU.mpr<|.i1 h λa J b Y z=>.d);calc(.q B (.cN ?_) (k::r)<|by rw[.zO,A,eZ];rfl);rw[.zO,M m,cx,dj,cw,or_assoc]
structure vH(g:aQ)(x:.h)(root:bU)(order:.c1)(k room:Nat):Prop where
 nodup:order.Nodup
 Gf:root∈order
 vI:∀m∈order,Under g x root m
 le:k<=order.length
 kids:∀n∈order.take k,∀m,KP .B x n m->m∈order
 room:room+(.og (order.take k) λn=>(.hH x n))=512
 bS:order.length<=256
def ae2:vH g x root [root] 0 512:={.f,.f,λm h=>.z .d,.f,.f,.f,.f}
def pS(Z:.dd root)(h:Under g x root m):.dd m:=by
 let rfl|||h:=h
 .show Z
 .show A5 h
def OO(h:Under g x root n)(b:BB g x n m):Under g x root m:=by
 let rfl|||h:=h
 .show .F (.one b)
 .show .F (h.snoc b)
def gL(g:aQ)(x:.h)(root:bU):=256<(.m<|eX g x root)\/512<(.og (eX g x root) (.cN<|.hH x m))
def ae3(u:.ag){root}(Z:.dd root){D}{k r}(h:vH g x root D k r){n}(L:D[k]?=.b n)(G:r<(.hH x n)):gL g x root:=by
 right;have:(.c3<|k+1)=.c3 k++[n]:=by rw[JG,L];rfl
 let s:=vG (.cN<|.hH x m) (l:=.c3<|k+1) (h.nodup.sublist<|Tr _ _) (.hw<|(nh Z).mpr (h.vI m<|o_ G));have:=h.room;lk
theorem ae4(u:.ag){root}(Z:.dd root){D}{k c}(h:vH g x root D k c){n}(f:D[k]?=.b n)(G:(.hH x n)<=c):
  (.wV/\gL g x root)\/(.ae (addAll D (.pA<|.fB x n)) 256/\vH g x root (addAll D (.pA<|.fB x n)) (k+1) (c-(.hH x n))):=by
 obtain⟨B,M,r,A⟩:=Ge (.pA<|.fB x n) D h.nodup;let K:=(.aw f);let t:n∈D:=bb f;let H:=pS Z (h.vI n t);let U:∀m∈addAll D (.pA<|.fB x n),Under g x root m:=by
  intro m G;let q|||q:=(M m).mp G
  .show h.vI m q
  .let[a,J,b]:=dP.mp q;show OO (h.vI n t) ((tj u H).mp<|.g a J b)
 by_cases e:.wV
 .left;calc(.c e<|.z ?_);have:=sub_len B (L:=eX g x root) (.hw ((nh Z).mpr<|U m G));lia
 .right;let d:.aC (addAll D (.pA<|.fB x n)) (k+1)=.c3 k++[n]:=by grind[Jj,JG]
  refine{.a,B,(M _).mpr<|.z h.Gf,U,.d,?_,?_,.a}
  .intro i W m G;rw[d] at W;let q|||q:=.c7 W
   .show(M _).mpr (.z<|h.kids i q m G)
   .rw[.d4 q] at G;let[a,J,b]:=G;lk
  .rw[d,bo,UT];have:=h.room;lk
def ae5(d:.ag){root}(e:.dd root){D}{k r}(h:vH g x root D k r)(L:.hJ<=k):¬gL g x root/\D.Nodup/\∀m,m∈D↔m∈eX g x root:=by
 have u:∀m,m∈D↔m∈eX g x root:=by
  intro m;rw[nh e];calc(.c (h.vI m) λR=>?_);let f:=nL L;let Z:∀{a b:bU},bz (BB g x) a b->a∈D->b∈D:=by
   intro a b s;induction s with
   |@one a b q=>intro J;show .zN
   |@more a b c q _ E=>intro J;show E .zN
  let rfl|||R:=R
  .show h.Gf
  .show Z R h.Gf
 calc(.g ?_ h.nodup u);rintro(q|q)
 .have:=sub_len (vE root) (.hw<|(u m).mpr G);have:=h.bS;lia
 .have:=vG (.cN<|.hH x m) (vE root) (.hw<|(u m).mpr G);have:=h.room;rw[nL L] at this;lia
theorem Gg(u:.ag){root}(Z:.dd root):(gL g x root->forestOf g x .by root=.great)/\(¬gL g x root->forestOf g x .by root=.forest {root:=root,entries:=(eX g x root).map (.cN<|.qp x m)}):=by
 let e:∀m∈eX g x root,altsFor g x .by m=.fB x m:=by intro m G;have:=nk u (pS Z<|(nh Z).mp G);show ae1 u (.iw).1 (.iw).2.1
 rw[OG u];grind[dG,gL]
theorem tm:.n (rY m n)↔.d3-.ek<.aZ-.a0\/.d3-.ek=.aZ-.a0/\(.ek<.a0\/.ek=.a0/\m.1<n.1):=by unfold rY;lk
def tq(a:.aR Entry)(e:Entry):=match a with
 |none=>.b e
 |some d=>.A (rY e.node d.node) (.b e) (.b d)
def Gh:∀(l:.y Entry) d,∃e,.ef tq (.b d)=.b e/\(e∈l\/d=e)/\(∀d∈l,rY d.node e.node=.j)/\rY d.node e.node=.j
 |[],e=>(.I e rfl .cY .f<|wV.mpr (.s (.dJ<|tm.mp z)))
 |e::l,a=>by
  rw[cW];by_cases q:.n (rY e.node a.node)
  .rw[.bX (tq _ e=.b e)<|by unfold tq;lk];let[r,T,B,M,A]:=Gh l e;refine(.I r T (.z ?_) ?_ ?_)
   .lk
   .lk
   .grind [tm]
  .rw[.bX (tq _ e=.b a)<|by unfold tq;lk];let[r,T,B,M,A]:=Gh l a;refine(.I r T ?_ ?_ A)
   .lk
   .intro d N;let rfl|||N:=.c6 N
    .rw[wV] at A|-;intro z;let x:=mt tm.mpr A;let b:=tm.mp z;let Z:=mt tm.mpr q;lia
    lk
def OP(h:l≠[]):∃e,.ef tq none=.b e/\e∈l/\∀d∈l,rY d.node e.node=.j:=by
 cases l with
 |nil=>lk
 |cons e l=>
  let[r,T,B,M,A]:=Gh l e;refine(.jM r T ?_)
  .lk
  lk
def ae6 f:coreNode f=.ei (f.entries.filter λe=>.ai 1 e.alts.length) tq none:=rfl
theorem Gi(u:.ag){a}(Z:.dd (.dr a))(h:gL g x (.dr a)):ju g a x=.great:=by unfold ju;rw[(Gg u Z).1 h]
theorem Gj(u:.ag){a}(Z:(.dr a)∉.nG):ju g a x=.uncovered:=by unfold ju;rw[OG u,.r Z]
def Gk(u:.ag){a}(Z:.dd (.dr a))(h:¬gL g x (.dr a))(hs:∀m∈eX g x (.dr a),(.hH x m)<=1):ju g a x=.single:=by grind[ju,Gg,coreNode,JH]
def BJ(u:.ag){a}(Z:.dd (.dr a))(h:¬gL g x (.dr a)){m}(G:m∈eX g x (.dr a)){p q}{r}(J:.fB x m=p::q::r)
  (L:∀n∈eX g x (.dr a),1<(.hH x n)->rY n m=.j):ju g a x=.core {node:=m,first:=p,second:=q}:=by
 unfold ju;rw[(Gg u Z).2 h];let j:((.qp x m):Entry)∈.um:=.d
 have:coreNode {root:=(.dr a),entries:=(eX g x<|.dr a).map (.cN<|.qp x m)}=.b (.qp x m):=by rw[ae6];let[e,c,B,M]:=OP (US j);let[b,d]:=cZ.mp B;let[n,t,rfl]:=.Y b;let y:=L n t .d;let Q:=M _ j;let H:=nk u (pS Z<|(nh Z).mp G);let N:=nk u (pS Z<|(nh Z).mp t);let y:=mt tm.mpr (wV.mp y);let Q:=mt tm.mpr (wV.mp Q);lk
 lk
def OQ{F}(h:.wU){n}(B:.a0<=.aZ)(M:.aZ<=.W):n6 rs F n.1 (.eJ .a0 .aZ)=aO ((bu rs x n).map λa=>th F x a.kids):=by
 unfold n6 bu;rw[JF,OI];let e:.d0 (.hK .lk rs) (aO<|(.ea (.kT==n.1) ((.zM).map λl=>(.qs:Alt)) []).map λa=>th F x a.kids)=.d0 (.hK .lk rs) ((λr=>.eC (.C=n.1) (aU F .O<|.eJ .a0 .aZ)) p.2):=by
  apply dG;intro p _;by_cases q:.kT=n.1
  .simp only[q,beq_self_eq_true,if_true];rw[a_,OL h B M];rfl
  cbv
 rw[e];congr 1;have:.d0 (.hK .lk rs) p.2=rs:=by grind[UQ]
 calc _=((.hK .lk rs).map _).map _:=by rw[this]
  _=_:=.f
def ae7(h:∀c∈l,.ad c):.ad (pR l):=by
 induction l with
 |nil=>simp[pR]
 |cons a l E=>show .s ((lS.mp z).elim (h a .f)<|E λc V=>h c (by simp[V]))
theorem Le.one(h:.ad c):Le c1 c:=by
 cases c with
 |none=>trivial
 |some n=>cases n with
  |zero=>lk
  |succ n=>change 1<=n+1;lia
def ae8(h:∀c∈l,.ad c):.in .ax (aO l):=by
 induction l with
 |nil=>show .er
 |cons a l E=>have:=Le.plus (Le.one<|h a .f) (E λc V=>h c (by simp[V]));rw[.bX (.aD c1 _=.b (.ax+1)) (.p5<|.fU=_)] at this;show this
def ae9(u:.ag){n}(t:.dd n):.in (.hH x n) .tI:=by
 let[i,H,N,_]:=nk u t;rw[qF,OQ (λ_ _ h=>h) H N];have:=ae8 (l:=(.fB x n).map λa=>th (T .B) x a.kids) ?_
 .lk
 .intro c V;let[a,J,rfl]:=.Y V;apply ae7;intro c V;let[m,G,rfl]:=.Y V;show(nk u ((tj u t).mp<|.g a J G).node).2.2.2
def ae_(u:.ag){n m}(h:bz (BB g x) n m):Le (T .B m.1<|.eJ .ek .d3) .tI:=by
 induction h with
 |one q=>show(q.child u).le
 |more q _ E=>show E.trans (q.child u).le
def ae'(u:.ag){root m}(Z:.dd root)(G:m∈eX g x root)(M:1<(.hH x m)):.in 2 .xW:=by
 let R:=(nh Z).mp G;let y:=Le.trans (show .in 2 .fU from M) (ae9 u<|pS Z R);let rfl|||R:=R
 .show y
 .show y.trans (ae_ u R)
def afa{N:Type}(l:.aS) f:.dL (λa=>.b<|f a)=.b (.hG f):=ES l f
def afb(l:.h):pR (.bA some)=.b (l.foldr (·*·) 1):=by
 induction l with
 |nil=>rfl
 |cons a l E=>simp_all[pR]
def afc{l:.h}(h:∀c∈l,c<=1):l.foldr (·*·) 1<=1:=by
 induction l with
 |nil=>simp
 |cons a l E=>show zw (h a .f) (E λc V=>h c (by simp[V]))
def afd(u:.ag){root}(Z:.dd root)(h:∀m∈eX g x root,(.hH x m)<=1):.xW=c1:=by
 have F:.aM (∀m,Under g x root m->N .B k m.1 (.eJ .ek .d3)<=1):=by
  intro k;induction k with
  |zero=>intro m _;show eY _
  |succ k E=>
   intro m R;let t:=pS Z R;let[i,H,f,_]:=nk u t;let s:∀b v,.ad (.b (N .B k b v):bE)->.ad _:=λb v h z=>h (by rw[uW.mp z k]);let e:=OQ s H f;rw[L5] at e;change sv .B _ m.1 _<=1;let C:(.fB x m).map (λa=>th (λb v=>.b<|N .B k b v) x a.kids)=(.fB x m).map (λa=>.b ((a.kids.map λn=>N .B k n.1 (.eJ .a0 .aZ)).foldr (·*·) 1)):=by apply dG;intro a _;rw[<-afb,a_];rfl
   rw[C,afa] at e;let e:=we e;rw[e];let d:=h m ((nh Z).mpr R);cases q:.fB x m with
   |nil=>simp
   |cons a l=>
    rw[q] at d;cases l with
    |cons b l=>simp at d
    |nil=>apply afc;intro c V;let[n,W,rfl]:=.Y V;show E n (OO R ((tj u t).mp<|.g a .d W))
 let y:=(nk u Z).2.2.2;let d:=n8 .B root.1 (.eJ root.2.1 root.2.2);cases e:T .B _ _ with
 |none=>rw[e] at d;let[k,L]:=d 2;let q:2<=N .B k _ _:=L k .ao;have:=F k root .w;lia
 |some n=>rw[e] at d y;let[k,L]:=d;have:=F k root .w;lk
theorem OR(w:.bx){s}(hs:.jT (s=.fN) ((lo,hi)∈.jK)) u:bH (T .B) s u=bH (T .hd) (eQ g s) (.l8 g):=by
 cases s with
 |non b=>show xZ w b u
 |range lo hi=>
  let h:=MO (f':=λa u=>0) (λ_ _=>rfl) w hs u;let e:=ET (λ_ _=>0) .fN u;let j:=ET (λ_ _=>0) (eQ g .fN) (.l8 g);let r:∀(F G:.bn<|_->bE) lo hi v,bH F .fN v=bH G .fN v:=by unfold bH;lk
  rw[r _ _,e,h,<-j];show r _ _ _ _ _
theorem OS(w:.bx):.hU (.xV->∀u,.pP .B l u=.pP .hd (.nq g) (.l8 g))
 |[],_,u=>by change(.db<|u=[])=.db (_=[]);simp
 |s::l,h,u=>by change _=aO _;rw[aj];apply jA;intro c _;rw[OR w λlo hi e=>h lo hi .le,OS w λlo hi e=>h lo hi .le,qo,uk]
def OT{x}{i j}:(.b6).map f=pc (x.map f) i j:=by unfold pc;simp
theorem OU(w:.bx):.hU (.xV->∀i j,parts .B x l i j=parts .hd (.ib g) (.nq g) i j)
 |[],_,i,j=>rfl
 |s::l,h,i,j=>by
  change .b9 (fz .B s l .b6) _=.b9 .vU _;let e:fz .B s l .b6=.vU:=by unfold fz oE ni;rw[<-OT,aj];grind[JI,OR,OS,qo,uk]
  rw[e];apply qX;intro c _;rw[OU w λlo hi e=>h lo hi .le];have:gi (eQ g s) i c=gi s i c:=by cases s<;>rfl
  rw[this]
theorem yq(w:.bx) n:.fB x n=bu .hd (.ib g) n:=by change _=.b9 (.hK (.m<|.fa _)<|.fa _) _;rw[aj,List.zip_map_right,JE];apply qX;intro p R;let Z:p.2∈.B:=(wF R).2;grind[Prod.map_fst,OU,kZ]
theorem ij f:∀k s,.j9 f (k+1)=f (.j9 f k)
 |0,s=>rfl
 |k+1,s=>.jg (rounds f _ (f s)=f (rounds f k<|f s)) (ij f k<|f s)
def OV{U:.h}{s}(P:∀s a,a∈s->a∈f s)(m:∀s J,(∀a,a∈s↔a∈J)->∀a,a∈f s->a∈f J)(I:∀k a,a∈.j9 f k->a∈U){k j a}(L:U.length<=k)(h:a∈.j9 f j):a∈.j9 f k:=by
 refine qJ U _ (λk a h=>?_) I (λk L a h=>?_) L h
 .grind [ij]
 .rw[ij] at h;rw[ij];calc m _ _ (.bw<|.c (λY=>L b Y) λY=>?_) a h;rw[ij];lk
inductive dY(bytes:Bool)(rs:.b2):.bn Prop
 |mk (r:bw) (hr:r∈rs) (h:.aM (c5 k∈.O->dY bytes rs k)) (hb:.jT (gA lo hi∈.O) (.n bytes)):dY bytes rs .C
theorem BK:.n (allIn a s l)↔(.aM<|c5 k∈l->k∈s)/\.jT (gA lo hi∈l) (.n a):=by grind[allIn,j6]
def OW:∀{rs:.b2} {acc},a∈.qn (.A (allIn b s .O) (put .C l) l) acc↔a∈acc\/∃r∈rs,.zL
 |[],acc=>.f
 |r::rs,acc=>by
  rw[cW,OW];by_cases e:.n (allIn b s .O)
  .rw[.cK,xR];lk
  lk
theorem yr:a∈deriveRound g b s↔a∈s\/∃r∈g.rules,.zL:=OW
def BL:∀k a,a∈.pz g b k []->.eL b a
 |0,a,h=>.iL
 |k+1,a,h=>by
  rw[ij] at h;let h|||[r,Z,B,rfl]:=yr.mp h
  .show BL k a h
  .let[M,A]:=BK.mp B;show .mk r Z (λj I=>BL k j<|M j I) A
theorem afe{k j a}(h:a∈.pz g b k [])(I:k<=j):a∈.pz g b j []:=by
 induction j with
 |zero=>lk
 |succ j E=>grind[ij,yr]
def aff{e}{a}(h:.eL e a):∃k,a∈.pz g e k []:=by
 induction h with
 |mk r Z _ Y E=>
  have:∀l:.bq,(∀s∈l,s∈.O)->∃k,.bu (c5 b∈l) (b∈.pz g e k []):=by
   intro l;induction l with
   |nil=>simp
   |cons s l i=>
    intro d;let[k,L]:=i λt B=>d t (gR _ B);cases s with
    |range m n=>cbv
    |non c=>let[j,I]:=E c (d _ .f);calc(.c (max k j)<|.a4 ?_);grind[afe,Jf]
  let[k,L]:=this .O λs f=>f;show(.c (k+1)<|by rw[ij];show yr.mpr (.F<|.q r Z (BK.mpr<|.c L Y) rfl))
def OX(u:.ag){b}{a}:a∈.pz g b .o []↔.eL b a:=by
 calc(.da (BL _ a) ?_);let[k,L]:=aff h;refine OV (U:=aq .o) (λs a h=>yr.mpr .ex) (λs J e a h=>?_) (λk a h=>?_) .f L
 .grind [yr,BK]
 .have:=BL k a h;cases this with
  |mk r Z _ _=>show .fO (u.lhs r Z)
def afg(u:.ag){a}:a∈nullable g↔.eL .j a:=OX u
def BM(u:.ag){a}:a∈productive g↔.eL true a:=OX u
def ip(g:aQ)(r:bw):=r∈.B/\.aM (c5 k∈.O->.eL true k)
theorem BN(u:.ag){r}:r∈productiveRules g↔ip g r:=by
 unfold productiveRules;rw[cZ,BK];walk
 .intro[B,M,_];show(.c B<|.bS ((BM u).mp<|M k L))
 .intro[B,M];show(.g B (.bS ((BM u).mpr<|M k L)) λ_ _ _=>rfl)
def ip.lhs(h:ip g r):.eL true .C:=.mk r h.1 h.2 λ_ _ _=>rfl
def qY:k∈nonsIn l↔c5 k∈l:=by unfold nonsIn;lk
inductive bB(g:aQ):.bn Prop
 |start:bB g 0
 |step {r:bw} {k:Nat}:bB g .C->ip g r->c5 k∈.O->bB g k
def Gn:∀rs s,(∀a,a∈s->a∈reachRound rs s)/\(∀r∈rs,.C∈s->.aM (c5 k∈.O->k∈reachRound rs s))
 |[],s=>(.c (λa h=>h) .qz)
 |r::rs,s=>by
  unfold reachRound;let F:=Gn rs .wT;unfold reachRound at F;let i:∀a,a∈s->a∈.wT:=by grind[n9]
  calc(.c (λa h=>F.1 a<|i a h) λq f d k L=>?_);let rfl|||f:=.c6 f
  .simp_all[j6,n9,qY]
  lk
theorem OY:∀rs,(∀r∈rs,ip g r)->∀s,(∀a∈s,bB g a)->∀a∈reachRound rs s,bB g a
 |[],_,s,h,a,J=>h a J
 |r::rs,R,s,h,a,J=>by
  unfold reachRound at J;calc OY rs (λq f=>R q<|gR _ f) (.A (has .C s) _ s) (.a4 ?_) a J;by_cases e:.n (has .C s)
  .rw[.cK] at Y;let Y|||Y:=n9.mp Y
   .show .step (h _<|j6.mp e) (R r .f) (qY.mp Y)
   lk
  lk
def OZ:∀rs s J,(∀a,a∈s↔a∈J)->∀a,a∈reachRound rs s->a∈reachRound rs J
 |[],s,J,e,a,h=>(e a).mp h
 |r::rs,s,J,e,a,h=>by unfold reachRound at h|-;calc OZ rs _ _ (.bw ?_) a h;grind[j6,n9]
def O0(u:.ag)(T:0<.o){a}:a∈reachable g↔bB g a:=by
 have o:∀k a,a∈rounds (reachRound<|productiveRules g) k [0]->bB g a:=by
  intro k;induction k with
  |zero=>intro a h;rw[.d4 h];show .start
  |succ k E=>grind[ij,OY,BN]
 refine(.da (o _ a) ?_);obtain⟨k,L⟩:∃k,a∈rounds _ k [0]:=by
  induction h with
  |start=>show(.c 0<|by simp[rounds])
  |step _ R L E=>let[j,I]:=E;show(.c (j+1)<|by rw[ij];show(Gn _ _).2 _ ((BN u).mpr R) I _ L)
 calc OV (U:=aq .o) (λs a h=>(Gn _ s).1 a h) (λs J e a h=>OZ _ s J e a h) (λk a h=>?_) .f L;cases o k a h with
 |start=>lk
 |step _ R L=>show .fO (u.non _ R.1 _ L)
def nq(g:aQ)(r:bw):=ip g r/\bB g .C
def O4(u:.ag)(T:0<.o){r}:r∈usefulRules g↔nq g r:=by
 unfold usefulRules useful;rw[cZ,BN u];simp only[j6,cZ,O0 u T];walk
 .intro[B,M,_];show(.c B M)
 .intro[B,M];show(.g B M<|(BM u).mpr B.lhs)
def O5(u:.ag)(T:0<.o):.n (has 0<|useful g)↔.eL true 0:=by unfold useful;simp only[j6,cZ,O0 u T,BM u];show(.da (.aQ h.2)<|.c .start h)
structure Gp(n:Nat)(E:.dv Prop)(order:.h):Prop where
 nodup:order.Nodup
 mem:∀a,a∈order↔a<n
 before:∀l1 a l2,order=l1++a::l2->.bu (E a b) (¬bz E b a->b∈l1)
def yt(n:Nat)(E:.dv Prop)(B:.gp):=∀a,a<n->(.a9<|B a)/\∀b,b∈B a↔bz E a b
def sizeOf(B:.gp)(h:Nat):=.ea (h∈B h) (.m<|B h)<|(.m<|B h)+1
def afh(h:yt n E B)(J:a<n)(Y:b<n)(e:E a b)(i:¬bz E b a):sizeOf B b<sizeOf B a:=by
 let[N,A]:=h a J;let[f,m]:=h b Y;let' R:=.aQ (.A (h∈B h) (B h)<|h::B h);let l:∀h,(.m<|R h)=sizeOf B h:=by grind[sizeOf]
 let M:∀h k,k∈R h↔k=h\/k∈B h:=.d
 let d:(.a9<|R b):=.d
 let H:a≠b:=by rintro rfl;show i (.one e)
 let c:a∉R b:=.d
 have:=sub_len (L:=R a) (lF.mpr<|.c c d) λk g=>?_
 .lk
 .rw[M];let q|||q:=.c6 g
  .lia
  .right;rw[A];let rfl|||q:=(M b k).mp q
   .show .one e
   .show .more e ((m k).mp q)
def O6(h:yt n E B)(A:∀a b,E a b->b<n)(N:D.Nodup)(u:∀a,a∈D↔a<n)(o:D.Pairwise λa b=>sizeOf B a<=sizeOf B b):Gp n E D:=by calc(.g N u λy a Q e b r i=>?_);let K:=afh h ((u a).mp .d) (A a b r) r i;grind[hV]
def fk(n:Nat)(F:.fF)(d:.bK):=(.a9 (.f0))/\(∀p∈d,p.1<n/\p.2=enc (F p.1)/\.ad (F p.1))/\.bu (b<n) (.ad (F b)->b∈.f0)
def qZ(r:.h)(d:.bK)(acc:Nat):=d.foldl (λt p=>t+p.2*r.getD p.1 0) acc
def g9(B:.gp)(U:.bn .bK)(b r:.h)(h:Nat):=
 .b7 (h∈B h) (.e9 ((B h).any (λo=>.ai 0<|.i4 o 0)) (r.set h END) r) (r.set h<|settle (qZ r (U h)<|.i4 h 0))
def yu(B:.gp)(U:.bn .bK)(b:.h)(D:.h)(n:Nat):=D.foldl (g9 B U b)<|bL n 0
def Gq B U b r h:(.m<|g9 B U b r h)=.iU:=by unfold g9;lk
def afi(L:h≠k):.fX (g9 B U b r h) k=r.getD k 0:=by unfold g9;lk
def O7{n:Nat}{F G:.fF}:∀{d} {acc} {c} {m},(∀p∈d,p.2=enc (F p.1)/\r.getD p.1 0=enc (G p.1))->Ap acc c m->Ap (qZ r d acc) (.aD c (aO ((.f0).map (.bw (.ac (F b)<|G b))))) (m+.nf)
 |[],acc,c,m,_,h=>by rw[zR,zR,LQ,fx];show h
 |p::d,acc,c,m,R,h=>by
  let[M,B]:=R p .f;have:=O7 (n:=n) (d:=d) (λq f=>R q<|by simp[f]) (h.add (Ap.mul (F p.1)<|G p.1));rw[<-M,<-B] at this;rw[bx,bx,iK,<-g5,dS];let e:m+1+.nf=m+(.nf+1):=.a
  rw[<-e];show this
def afj(hn:∀r∈rs,.bu (c5 b∈.O)<|b<n)(Z:n+1<MW)(hu:u≠[])
  (Y:yt n (g6 rs) B) (A:∀a b,g6 rs a b->b<n) (H:∀a,a<n->fk n (iL rs (T rs) a) (U a)) (x:∀a,a<n->O.getD a 0=enc (mN rs (T rs) a u)) (l:Gp n (g6 rs) D):∀a,a<n->.fX (yu B U O D n) a=.oo a u:=by
 have key:∀y Q,D=y++Q->∀a,a<n->.fX (y.foldl (g9 B U O)<|bL n 0) a=.mR (a∈y) (.oo a u):=by
  intro y;induction hl:y.length generalizing y with
  |zero=>lk
  |succ k E=>
   intro Q e a J;obtain⟨c,h,rfl⟩:∃c h,y=c++[h]:=(.g y.dropLast (y.getLast .d) (UU _).symm);let j:D=c++h::Q:=.d
   let E:=E c .d _ j;rw[kM,cW,zQ];let len:(.m (c.foldl (g9 B U O)<|bL n 0))=n:=by simp[qW,Gq]
   let V:=(l.mem h).mp .d;let v:h∉c:=by have:=l.nodup;lk
   by_cases i:h=a
   .subst i;rw[.r .f];let i0:=E h V;rw[.x v] at i0;let[N,m]:=Y h V;generalize hW:c.foldl (g9 B U O) (bL n 0)=WW at*;unfold g9;by_cases C:h∈B h
    .rw[.r C];let cs:=(m h).mp C;by_cases an:.n ((B h).any (λo=>.ai 0<|O.getD o 0))
     .rw[.r an,yj,.r<|.aY .a];let[o,t,R]:=lJ.mp an;let R:=.i9 R;let X:=(m o).mp t;let P:o<n:=by let[q,_,f]:=X.last;lk
      rw[x o P] at R;rw[ZN hn hu cs X (.s<|by rw[z,jB] at R;lia)];rfl
     .rw[.x an,i0,ZO hn hu cs λb X=>?_,jB];let s:b<n:=by let[q,_,f]:=X.last;lk
      apply dW;grind[lJ,decide_eq_true,sD]
    .rw[.x C,yj,.r<|.aY .a];let[g,K,u3]:=H h V;let W:∀p∈U h,p.2=enc (iL rs (T rs) h p.1)/\WW.getD p.1 0=.oo p.1 u:=by intro p R;let[M,q2,w]:=K p R;calc(.bM q2);rw[E p.1 M,if_pos];show l.before c h Q j p.1 w (.s<|C ((m h).mpr<|.more w z))
     rw[x h V];let I:.ae (U h) n:=by
      have:=sub_len (L:=aq n) g (.a4 .d);lk
     rw[(O7 (n:=n) (F:=iL rs (T rs) h) (G:=.bw<|.cM b u) (d:=U h) W (Ap.enc<|mN rs (T rs) h u)).settle .a,qF rs h u,ER (T rs) hn h hu];congr 2;refine xW g rS _ ?_ ?_
     .lk
     .intro b Gr S;have:iL rs (T rs) h b=c0:=.d
      rw[this,fS]
   .rw[afi i,E a J];lk
 intro a J;have:=key D [] .f a J;rw[.r<|(l.mem a).mpr J] at this;show this
def O8 B U b D n:(.m<|yu B U b D n)=n:=by simp[yu,qW,Gq]
def ek(rs:.b2)(bM:.h)(a:Nat):=(rs.zip bM).filterMap (.as<|.f8 (p.1.lhs=a) p.2)
def O9(e:.C=a):ek (r::rs) (t::bs) a=t::ek rs bs a:=by unfold ek;cbv
def O_(e:¬.C=a):ek (r::rs) (t::bs) a=ek rs bs a:=by unfold ek;cbv
def Pa{vals:.h}{F:.bq->bE}{tl:.y _}(p:∀t l,tl[t]?=.b l->vals.getD t 0=enc (F l)) a:∀{rs} {bM},.lk=bM.length->.xU->Ap (.og (ek rs bM a) λt=>vals.getD t 0) (aO<|.lZ (.eC (.C=a)<|F .O)) .lk
 |[],[],_,_=>Ap.zero
 |r::rs,t::b,d,Y=>by
  let E:=Pa p a .d λi r t B M=>Y (i+1) r t B M;rw[bx,iK,dS];by_cases e:.C=a
  .rw[O9 e,bx,.cK,p t _<|Y 0 r t rfl rfl,zv .lk];show(Ap.enc _).add E
  .rw[O_ e,.bU,j3];show E.mono .a
 |[],_::_,h,_=>.fv
 |_::_,[],h,_=>.fv
def jI(d:.bK)(b:Nat):Nat:=match d.find? (.as<|p.1==b) with
 |some p=>p.2
 |none=>0
def dput:.bK->.dv .bK
 |[],b,v=>[(b,v)]
 |p::d,b,v=>.b7 (p.1=b) ((b,v)::d)<|p::dput d b v
def yw:∀(d:.bK) b v,.eZ (dput d b v)=.A (b∈.f0) .f0 (.f0++[b])
 |[],b,v=>by simp[dput]
 |p::d,b,v=>by
  unfold dput;by_cases e:p.1=b
  .lk
  .rw[.bU,bx,yw d b v];lk
def Gs:∀{d:.bK} {b v},(.a9 (.f0))->∀p,p∈dput d b v↔(p=(b,v)\/(p∈d/\p.1≠b))
 |[],b,v,_,p=>by simp[dput]
 |q::d,b,v,h,p=>by
  rw[bx,lF] at h;unfold dput;by_cases e:q.1=b
  .lk
  .rw[.bU,cw,Gs h.2];lk
def afk(h:(.a9 (.f0)))(G:(b,v)∈d):jI d b=v:=by
 induction d with
 |nil=>cases G
 |cons p d E=>grind[jI]
def afl(G:b∉.f0):jI d b=0:=by unfold jI;lk
def afm(h:fk n F d)(Y:b<n):jI d b=enc (F b):=by
 let[B,M,A]:=h;by_cases e:b∈.f0
 .let[p,R,rfl]:=.Y e;rw[afk B R,(M p R).2.1]
 .rw[afl e];have:F b=c0:=.d
  rw[this,jB]
def Pb(h:fk n F d)(Y:b<n)(V:.ad c):fk n (.aU (.A (k=b) (.aD (F k) c)<|F k)) (dput d b (settle<|jI d b+enc c)):=by
 let S:=afm h Y;let[B,M,A]:=h;let a:settle (jI d b+enc c)=enc (.aD (F b) c):=by rw[S];show((Ap.enc<|F b).add<|Ap.enc c).settle .V
 refine(.cf ?_ ?_)
 .rw[yw];lk
 .intro p R;let rfl|||[q,k]:=(Gs B p).mp R
  .simp_all[LP]
  lk
 .rw[yw];lk
def q5(h:fk n F d)(e:.bu (b<n) (F b=G b)):fk n G d:=by let[B,M,A]:=h;calc(.g B .hR λb Y x=>A b Y .d);lk
def BO n:fk n (λ_=>c0) []:=(.i1 .f λb _ h=>.hs h)
def g_(d e:.bK):=e.foldl (λd p=>dput d p.1 (settle<|jI d p.1+p.2)) d
def Pc{G:.fF}:∀{e:.bK} {F:.fF} {d:.bK},fk n F d->(.a9 (e.map .fr))->(∀p∈e,p.1<n/\p.2=enc (G p.1)/\.ad (G p.1))->fk n (.bw (.A (b∈e.map .fr) (.aD (F b)<|G b)<|F b)) (g_ d e)
 |[],F,d,h,_,_=>q5 h λb _=>.f
 |p::e,F,d,h,N,R=>by rw[bx,lF] at N;let[M,B,w]:=R p .f;let a:=Pb h M w;rw[<-B] at a;have:=Pc a N.2 λq f=>R q (by simp[f]);calc q5 this .om;lk
def afn(h:fk n F d)(h':fk n G e):fk n (.bw (.aD (F b)<|G b)) (g_ d e):=by
 calc q5 (Pc h h'.1 h'.2.1) (.a4 ?_);by_cases y:b∈e.map .fr
 .lk
 .rw[.x y];have:=.ru (y<|h'.2.2 b Y z)
  rw[this,fx]
def yx(s:Sym)(S R:Nat)(d:.bK):=
 let F:=.kw (0<S) (.jn (p.1,settle<|S*p.2)) []
 match s with
 |.non b=>.A (0<R) (dput F b (settle<|jI F b+R)) F
 |.range _ _=>F
def afo(hs:.bu (s=.eW) (b<n))(h:fk n (Uc f l) d):fk n (Uc f<|s::l) (yx s (enc<|bH f s []) (enc<|aU f l []) d):=by
 have B:fk n (.bw (.ac (bH f s [])<|Uc f l b)) (.kw (0<enc (bH f s [])) (.jn (p.1,settle<|enc (bH f s [])*p.2)) []):=by
  by_cases q:0<enc (bH f s [])
  .rw[.dF];let[a,J,S]:=h;refine(.cf .d ?_)
   .intro p R;let[t,y,rfl]:=.Y R;let[g,m,i]:=J t y;calc(.g g ?_ (.s<|(lS.mp z).elim (.s<|by rw[z,jB] at q;lia) i));rw[m];show(Ap.mul _ _).settle .V
   .intro b Y c;rw[a_];show S b Y (.s (c<|by change .ac _ _=c0;rw[z,j4]))
  simp_all[if_neg,uY,BO,fS]
 cases s with
 |range j o=>calc q5 B .om;change _=.aD _ (.eC .gN _);rw[.on,fx]
 |non k=>
  change fk n _ (.A (0<_) _ _);by_cases q:0<enc (aU f l [])
  .rw[.dF];calc q5 (Pb B (hs k rfl) (.s<|by rw[z,jB] at q;lia)) .om;change _=.aD _ (.e9 (.fc k b) _ c0);by_cases e:b=k
   .lk
   .rw[.bU,.x .d,fx]
  .rw[.ff];calc q5 B .om;change _=.aD _ _;simp_all[uY,fx]
def Gu{tl:.y _}{ut:.y _}(R:∀t l,tl[t]?=.b l->fk n (Uc f l) (ut.getD t [])) a:∀{rs} {bM} {F} {d},.lk=bM.length->.xU->fk n F d->fk n (.bw<|.aD (F b) (aO<|.lZ .tH)) (.ei (ek rs bM a) (λd t=>g_ d<|ut.getD t []) d)
 |[],[],F,d,_,_,h=>q5 h λb _=>(fx _).symm
 |r::rs,t::g,F,d,c,Y,h=>by
  by_cases e:.C=a
  .rw[O9 e];have:=Gu R a .d (λi r t B M=>Y (i+1) r t B M) (afn h (R t _<|Y 0 r t rfl rfl));simp_all[g5]
  .rw[O_ e];have:=Gu R a .d (λi r t B M=>Y (i+1) r t B M) h;simp_all[j3]
 |[],_::_,F,d,h,_,_=>.fv
 |_::_,[],F,d,h,_,_=>.fv
def Pd:∀k a,N rs k a []≠0->dY .j rs a
 |0,a,h=>.hs h
 |k+1,a,h=>by
  let h:.zK≠0:=h;obtain⟨r,Z,d⟩:∃r∈rs,(.mR (.C=a)<|gH (N rs k) .O [])≠0:=by grind[xS]
  by_cases e:.C=a
  .let V:.ad (aU (λa u=>.b<|N rs k a u) .O []):=by rw[EU];lk
   rw[sE,xN] at V;rw[<-e];refine .mk r Z (.a4<|Pd k b (.s (V _ Y<|by change .fU=c0;rw[z]))) (λc f Y=>.hs<|V _ Y)
  lk
def Pe:dY .j rs a↔.ad (.cM a []):=by
 walk
 .intro h;induction h with
  |mk r Z _ Y E=>
   intro z;rw[L_,uV] at z;have:=z _ (aoe Z);simp only[if_true] at this;calc xN.mpr (λs c=>?_) this;cases s with
   |non b=>show E b c
   |range e d=>lk
 .intro h;apply dW;intro z;show h (uW.mpr (.aU<|by apply dW;intro y;show z (Pd k a y)))
def afp{c:.fF}(V:.bu (qH rs a b) (c b=.cM b [])):aO (.lZ (.eC (.C=a/\.ad (eW (T rs) .O))<|.nX (c k) .O))=.cM a []:=by
 rw[L_];apply jA;intro r Z;by_cases e:.C=a
 .by_cases z:eW (T rs) .O=c0
  .lk
  .have:∀(l:_),(∀s∈l,s∈.O)->.nX (c k) l=eW (T rs) l:=by
    intro l;induction l with
    |nil=>intro _;rfl
    |cons s l E=>
     intro d;change .ac _ _=_;rw[E λs f=>d s (by simp[f])];congr 1;cases s with
     |non b=>show V b (.I r Z e (d _ .f) z)
     |range g h=>rfl
   lk
 lk
def kh(m:Nat):.h->.aR .h
 |[]=>none
 |x::r=>.b7 (x+1=m) ((kh m r).map (0::·))<|.rn (x+1) r
def Pf m n k:(iC m (n+1) k).reverse=(k% m)::(iC m n<|k/m).reverse:=by simp[iC]
def vJ m:∀n k,(.m<|iC m n k)=n
 |0,_=>rfl
 |n+1,k=>by change(.m<|_++[k% m])=_;rw[ez,vJ m n];rfl
def Gw(G:0<m):∀n k,∀d∈iC m n k,d<m
 |0,_,d,h=>.iL
 |n+1,k,d,h=>by
  let h|||h:=.c7 h
  .show Gw G n _ d h
  simp_all[Ju]
def Gx m:∀n,iC m n 0=bL n 0
 |0=>rfl
 |n+1=>by change _++[0% m]=_;rw[Nat.zero_div,Nat.zero_mod,Gx m n,<-Uo]
def Gy(G:0<m):∀n k,k<m^n->kh m (iC m n k).reverse=.f8 (k+1<m^n) (iC m n<|k+1).reverse
 |0,k,h=>.bm
 |n+1,k,h=>by
  rw[Pf,Pf];let H:=Nat.div_add_mod k m;let M:=Ju k G;let f:k/m<m^n:=by show Nat.div_lt_of_lt_mul .d
  unfold kh;by_cases e:k% m+1=m
  .rw[Gy G n _ f];let L:k+1=m*(k/m+1):=.d
   simp_all[UW,C0]
  .let L:k+1=m*(k/m)+(k% m+1):=.a
   let C:(k+1)% m=k% m+1:=by rw[L,aoh];show aoi .a
   let a:(k+1)/m=k/m:=by let z:(k% m+1)/m=0:=aoj .a;rw[L,aok G,z];rfl
   let R:k+1<m^(n+1):=.jP (Nat.mul_le_mul_left m f)
   lk
def jJ(m:Nat)(ds:.h):=ds.foldl (λk d=>k*m+d) 0
def afq m ds d:jJ m (ds++[d])=jJ m ds*m+d:=by unfold jJ;simp
def Pg(G:0<m):∀{n} {ds},ds.length=n->(∀d∈ds,d<m)->iC m n (jJ m ds)=ds/\jJ m ds<m^n
 |0,ds,a,_=>by have:ds=[]:=rV.mp a;subst this;show(.aY<|by simp[jJ])
 |n+1,ds,a,h=>by
  let y:ds≠[]:=.s .d
  obtain⟨s,d,rfl⟩:∃s d,ds=s++[d]:=(.D _ (UU y).symm);let f:s.length=n:=.d
  let N:d<m:=h d .f;let[B,M]:=Pg G f (.eu (h x<|qd _ D));rw[afq];walk
  .grind [iC,jJ,C0,aok,aoj,aoh,aoi]
  .rw[UW];have:(jJ m s+1)*m<=m^n*m:=Dc m M;lk
def behind(m u:Nat)(ds:.h):=
 let a:=match kh m ds.reverse with
  |some r=>r.reverse
  |none=>bL (ds.length+1) 0
 .f8 (0<m/\.bE<=u) a
def At(m u:Nat)(p:Mark)(ds:.h):=p.size<=u/\p.number<m^p.size/\iC m p.size p.number=ds
def Gz{m u f}{p}(B:p.size<=u)(M:p.number<m^p.size):.qP m (f+1) p=.cL:=.mY<|.vT=_
def Ph(G:m=0):∀f p,0<p.size->.H (.qP m f p)
 |0,_,_=>rfl
 |f+1,p,R=>by
  change .H .vT;by_cases e:u<p.size
  .lk
  .rw[.bU,Ph G f _ .f];cbv
def Pj{m u n k}{ds:.h}(L:k<m^n)(N:iC m n k=ds):match behind m u ds with
  |some d'=>∃p,.yQ=.cL/\At m u p d'
  |none=>.H .yQ:=by
 unfold behind;by_cases G:0<m
 .rw[<-N,Gy G n k L,vJ];by_cases c:k+1<m^n
  .rw[.r c];simp only[List.reverse_reverse,vJ];by_cases t:n<=u
   .rw[.r<|.c G t];show(.I _ (Gz t c) t c rfl)
   .rw[.hm<|t z.2];change .H (.A (u<n) none _);lk
  .rw[.x c];simp only[JD];by_cases t:n+1<=u
   .rw[.r<|.c G t];calc(.I {size:=n+1,number:=0} ?_ t (UX G)<|Gx m _);change(.A (u<n) none<|.A (k+1<m^n) _ _)=_;rw[.cD,.x c];show Gz t (UX G)
   simp_all[if_neg,Vaglrh.settle]
 .let t:n=0:=by grind[Nat.zero_pow]
  simp_all[Vaglrh.settle,Ph]
inductive Look where
 |BP (looked:Nat)
 |found (looked:Nat) (ds:.h)
 |used
def look(m u:Nat)(w:.h->Bool):.dv (.aR .h->Look)
 |_,a,none=>.BP a
 |0,_,some _=>.used
 |t+1,a,some b=>.A (w b) (.found (a+1) b) (look m u w t (a+1)<|behind m u b)
def shown(I:.h):Look->Found
 |.BP n=>.nothing n
 |.found n a=>.text (a.map λd=>.hk d) n
 |.used=>.spent
def GA{I:.h}{u}{w:.h->Bool}{wd:.h->Bool}(hw:∀ds,(∀d∈ds,d<.ec)->w (ds.map λd=>.hk d)=wd ds):∀t looked p (o:.aR .h),
  (match o with
   |some ds=>∃q,.qP .ec (u+2) p=.b q/\At .ec u q ds
   |none=>.H (.qP .ec (u+2) p))->
  go I u w t looked p=shown I (look .ec u wd t looked o)
 |t,looked,p,none,h=>by
  cases t with
  |zero=>unfold go;rw[h];rfl
  |succ t=>unfold go;rw[h];rfl
 |0,looked,p,some ds,h=>by let[q,h,_]:=h;unfold look go;rw[h];rfl
 |t+1,looked,p,some ds,h=>by
  obtain⟨q,h,B,M,A⟩:=h;unfold look go;rw[h];simp only;let K:∀d∈ds,d<.ec:=by
   rw[<-A];by_cases G:0<.ec
   .show Gw G _ _
   .intro d N;cases e:q.size with
    |zero=>rw[e] at N;cases N
    |succ n=>lk
  let L:textAt I q.size q.number=ds.map λd=>.hk d:=by unfold textAt;rw[A]
  rw[L,hw ds K];by_cases c:.n (wd ds)
  .rw[.r c,.r c];rfl
  .rw[.x c,.x c];show GA hw t _ _ _ (Pj M A)
theorem GB(h:.aP[d]?=.b b):cl g b=d:=by
 unfold signsOf at h;rw[bG] at h;cases e:(Vaglrd.classesOf g)[d]? with
 |none=>lk
 |some p=>rw[e] at h;cases h;unfold cl;rw[.yt];rfl
def Pk{ds:.h}(h:∀d∈ds,d<.aN):(ds.map (.lz d)).map (cl g)=ds:=by
 rw[a_];conv=>rhs;rw[<-wY ds]
 grind[dG,GB]
def Pm(u:.ag)(w:.bx){a}(J:a<.o){ds}(h:∀d∈ds,d<.aN):dD g a (ds.map (.lz d))=T .hd a ds:=by unfold dD;rw[Fc u J,xZ w,Pk h]
def Pn(u:.ag)(w:.bx){a}(J:a<.o)(x:.h):dD g a x=T .hd a (.ib g):=by grind[dD,Fc,xZ]
def afr:(.aP).findIdx? (λs=>s==b)=.f8 (b∈.aP) (cl g b):=by
 cases e:(.aP).findIdx? _ with
 |none=>lk
 |some d=>
  let[h,B,_]:=Uh.mp e;let Y:.aP[d]?=.b b:=.d
  rw[.r<|bb Y,GB Y]
def afs:∀(x:.h),(∀b∈x,b∈.aP)->zT .aP x=.b (jJ .aN<|.ib g):=by
 intro x;unfold zT jJ;have:∀(x:.h) (k:Nat),(∀b∈x,b∈.aP)->x.foldl (λn b=>match n,(.aP).findIdx? (λs=>s==b) with
   |some k,some d=>.b (k*.aN+d)
   |_,_=>none) .fg=.b (.ei (.ib g) (λk d=>k*.aN+d) k):=by
  intro x;induction x with
  |nil=>simp
  |cons b x E=>simp_all[afr]
 show this x 0
def aft{x:.h}(h:¬∀b∈x,b∈.aP):.H (zT .aP x):=by
 have t:∀(x:.h),.H (x.foldl (λn b=>match n,(.aP).findIdx? (λs=>s==b) with
   |some k,some d=>.b (k*.aN+d)
   |_,_=>none) none):=by
  intro x;induction x with
  |nil=>rfl
  |cons b x E=>lk
 have:∀(x:.h) (k:Nat),(¬∀b∈x,b∈.aP)->.H (x.foldl (λn b=>match n,(.aP).findIdx? (λs=>s==b) with
   |some k,some d=>.b (k*.aN+d)
   |_,_=>none) .fg):=by
  intro x;induction x with
  |nil=>simp
  |cons b x E=>lk
 show this x 0 h
noncomputable def jK(rs:.b2)(x:.h)(j:Nat)(s:Sym)(l:.bq)(J:.jd .c1):=J.flatMap λy=>(fz rs s l<|.eJ y.2 j).map (.bg (y.1++gi s y.2 c,y.2+c))
noncomputable def pT(rs:.b2)(x:.h)(j:Nat)(l:.bq)(J:.jd .c1):=J.flatMap λy=>.d0 (parts rs x l y.2 j) (y.1++p)
def tx(rs:.b2)(x:.h)(j:Nat)(l:.bq)(J:.jd .c1):=∀y∈J,y.2<=j/\.ad (.i6 l<|.eJ y.2 j)
def afu s l J:pT rs x j (s::l) J=pT rs x j l (jK rs x j s l J):=by unfold pT jK;rw[List.flatMap_assoc];apply qX;intro y _;change(.b9 (fz rs s l _) _).map _=_;rw[JF,JE];apply qX;simp
def afv(I:j<=.W){s}{l}{J}(h:tx rs x j (s::l) J):tx rs x j l (jK rs x j s l J):=by intro y L;let[q,f,L]:=dP.mp L;let[c,V,rfl]:=.Y L;let a:=kg.mp V;let Y:=(h q f).1;let d:=a.1;rw[f9 Y I] at d;calc(.bM .a);rw[<-.ms];lk
def Po{N c:Type}{f:N->.y c}:∀{L:.aS} {m},(∀a∈L,f a≠[])->.aC (.b9 (L.take m) f) m=.aC (L.flatMap f) m
 |[],m,_=>.f
 |a::L,0,_=>.f
 |a::L,m+1,h=>by rw[List.take_succ_cons,lK,lK,UY,UY];let t:=UP.mpr (h a .f);let E:=Po (L:=L) (m:=m) (.a4 (h b<|by simp[Y]));let e:=.dN (λl=>l.take<|m+1-(.m<|f a)) E;lk
def afw(I:j<=.W){l}{J}(h:tx rs x j l J) m:.aC (pT rs x j l<|J.take m) m=.aC (pT rs x j l J) m:=by apply Po;intro y L z;have:=h y L;grind[vF,List.map_eq_nil_iff]
def afx(h:tx rs x j l J) m:tx rs x j l (J.take m):=λy L=>h y<|o_ L
def afy(I:j<=.W){J}(h:tx rs x j [] J):pT rs x j [] J=J.map λy=>y.1:=by
 rw[.np ((J.map λy=>y.1)=J.flatMap λy=>[y.1]) (by induction J with
  |nil=>rfl
  |cons a r E=>rw[bx,E λy L=>h y (by simp[L])];rfl)];apply qX;intro y L;let V:=h y L;have:=.ru (V.2<|xJ z)
 have:=(yp V.1 I).mp this;change(.ea (y.2=j) [[]] []).map _=_;lk
def afz{N:Type}(A B:.aS) m:A.take m++B.take (m-(.m<|A.take m))=.aC (A++B) m:=by rw[UY];lk
inductive Walk{α:Type}(f:α->.aR α):.ey (.y α) where
 |last {a:α} (h:.H (f a)):Walk f [a]
 |more {a b:α} {l:.y α} (h:f a=.b b) (t:Walk f (b::l)):Walk f (a::b::l)
def block(m n k:Nat):=.dt (m^n-k) (λi=>iC m n<|k+i)
def blocks(m:Nat):.dv .b8
 |0,n=>[]
 |f+1,n=>block m n 0++blocks m f (n+1)
def yy{m n k}(h:k<m^n):block m n k=iC m n k::block m n (k+1):=by unfold block;rw[.dg<|m^n-k=(m^n-(k+1))+1,IS,bx,a_];congr 1;apply dG;lk
theorem GC(h:m^n<=k):block m n k=[]:=by unfold block;lk
def BQ{m u n k}(G:0<m)(t:n<=u)(L:k<m^n):behind m u (iC m n k)=.A (k+1<m^n) (.b (iC m n<|k+1)) (.f8 (n+1<=u)<|iC m (n+1) 0):=by
 unfold behind;rw[Gy G n k L,vJ];by_cases c:k+1<m^n
 .simp_all[vJ]
 simp_all[if_neg,Gx]
def afA(G:0<m):∀d f n k,f+n=u->m^n-k=d->k<m^n->Walk (behind m u) (block m n k++blocks m f (n+1)):=by
 intro d f;induction f generalizing d with
 |zero=>
  intro n;induction d with
  |zero=>lia
  |succ d E=>
   intro k T B M;rw[yy M];by_cases c:k+1<m^n
   .have:=E _ T .a c;rw[yy c] at this|-;show .xT
   .rw[GC .a];show .last (by simp_all[BQ,if_neg])
 |succ f i=>
  intro n;induction d with
  |zero=>lia
  |succ d E=>
   intro k T B M;rw[yy M];by_cases c:k+1<m^n
   .have:=E _ T .a c;rw[yy c] at this|-;show .xT
   .rw[GC .a];let R:0<m^(n+1):=UX G;have:=i (m^(n+1)) _ 0 .a .a R;change Walk _ (_::(_++blocks m f _));rw[yy R] at this|-;show .more (by rw[BQ G .a M,.x c,.hf]) this
def Pp m:∀f n,blocks m f n=.b9 (aq f) (.aU<|.dt (m^(n+k)) (iC m<|n+k))
 |0,n=>rfl
 |f+1,n=>by
  rw[IS,lK,JE];change _++_=_;rw[Pp m f _];congr 1
  .unfold block;simp
  lk
def cN(m u:Nat):=.b9 (aq<|u+1)<|.aU (.dt (m^k)<|iC m k)
def Pq m u:∃l,cN m u=[]::l/\Walk (behind m u) (cN m u):=by
 let e:cN m u=blocks m (u+1) 0:=by rw[Pp];unfold cN;simp
 let I:blocks m (u+1) 0=[]::blocks m u 1:=.bm
 calc(.D (e.trans I) ?_);rw[e];by_cases G:0<m
 .show afA G _ u 0 0 rfl rfl .f
 .let h:m=0:=.a
  subst h;have:∀f n,0<n->blocks 0 f n=[]:=by
   intro f;induction f with
   |zero=>intro n _;rfl
   |succ f E=>grind[blocks,GC]
  rw[I,this u 1 .a];calc .last ?_;rfl
def BR(h:ds∈cN m u):∀d∈ds,d<m:=by
 let[k,_,h]:=dP.mp h;let[n,t,rfl]:=.Y h;intro d N;let rfl|||G:=o5 m
 .let t:=c4.mp t;cases k with
  |zero=>cases N
  |succ k=>lia
 .show Gw G k n d N
def Pr(h:ds∈cN m u):ds.length<=u:=by let[k,L,h]:=dP.mp h;let[n,t,rfl]:=.Y h;rw[vJ];lk
def gM(m u:Nat):=(.lu (u+1) (.aU<|m^k))
def afB I u b:JJ I u b=.A (b<gM .ec u) none (.b<|(cN .ec u).map λds=>ds.map λd=>.hk d):=by
 unfold JJ;have:.k2 (u+1) (λs k=>s+.ec^k) 0=gM .ec u:=by rw[Ga _,qm];rfl
 simp only[this];split
 .rfl
 .congr 1;unfold cN;rw[JF];apply qX;intro k _;rw[a_];rfl
def yz m u:(.m<|cN m u)=gM m u:=by unfold cN gM;simp
def afC m u:gM m (u+1)=gM m u+m^(u+1):=by grind[gM,lH,UT]
def GD:1<END:=.fp
def afD g a t(x:.h):tallyOne g a t x={texts:=t.texts+1,covered:=t.covered+(.dq<|0<.kM g a x),several:=t.several+(.dq<|1<.kM g a x),endless:=t.endless+(.dq<|.kM g a x=END)}:=by grind[tallyOne,MW,uX,enc]
def Pu g a:∀(l:.b8) t,.ef (tallyOne g a) t={texts:=t.texts+.ax,covered:=t.covered+.vS,several:=t.several+.vR,endless:=t.endless+.vQ}
 |[],t=>.f
 |x::l,t=>by rw[cW,Pu g a l,afD,bx,wZ,wZ];lk
def afE g a(l:.b8):tally g a l={texts:=l.length,covered:=.vS,several:=.vR,endless:=.vQ}:=by unfold tally;rw[Pu];simp
def Pw c d:moreWays (pb c) (pb d)=.ai (enc d) (enc c):=by
 let A:=uX;cases c with
 |none=>cases d with
  |none=>rfl
  |some n=>
   have:enc (.b n)<enc none:=.pW (.gV n<END)
   rw[.g8 this];rfl
 |some m=>cases d with
  |none=>
   have:¬enc none<enc (.b m):=by change¬END<.gV m;lia
   rw[.h2 this];rfl
  |some n=>rfl
def nr(ws:.h)(i:Nat)(w:Nat):=ws[i]?=.eP/\(∀v∈ws,v<=w)/\∀k v,k<i->ws[k]?=.aO->v<w
def GF(g:aQ)(a:Nat)(w:.aR (.h×bE))(x:.h):=match w with
 |none=>.be x (pb<|dD g a x)
 |some p=>.A (moreWays (pb<|dD g a x) p.2) (.be x (pb<|dD g a x)) .cL
def Px w:nr [w] 0 w:=(.i1 rfl λk v h=>.a)
def Py(q:p<x)(h:nr (x::l) i w):nr (p::x::l) (i+1) w:=by
 let[M,A,P]:=h;let D:=A x .f;refine(.cf .d ?_)
 .lk
 lk
def Pz(q:¬p<x)(h:nr (p::l) i w):nr (p::x::l) (.A (i=0) 0<|i+1) w:=by
 let[M,A,P]:=h;let R:=A p .f;let t:∀v∈p::x::l,v<=w:=.d
 cases i with
 |zero=>show(.g M t λk v h=>.fv)
 |succ i=>
  let K:p<w:=P 0 _ .a rfl;calc(.cf .d t);intro k v L a;match k with
  |0=>lk
  |1=>lk
  |k+2=>lk
def GG g a:∀(l:.y _) p,∃i y,.ef (GF g a) (.be p (pb<|dD g a p))=.be y (pb<|dD g a y)/\(p::l)[i]?=.eO/\nr ((p::l).map (.ah<|.kM g a x)) i (.kM g a y)
 |[],p=>(.cs 0 p rfl<|Px _)
 |x::l,p=>by
  rw[cW];by_cases q:.kM g a p<.kM g a x
  .rw[.bX (GF g a (.be p _) x=_) (.r<|by rw[Pw];lk)];let[i,y,T,B,M]:=GG g a l x;show(.I (i+1) y T .d<|Py q M)
  .rw[.bX (GF g a (.be p _) x=_) (.x<|by rw[Pw];lk)];let[i,y,T,B,M]:=GG g a l p;calc(.I _ y T ?_<|Pz q M);lk
def afF g a{l:.b8}(h:l≠[]):∃i y,widest g a l=.be y (pb<|dD g a y)/\l[i]?=.eO/\nr (.bA (.ah<|.kM g a x)) i (.kM g a y):=by
 cases l with
 |nil=>lk
 |cons p l=>show GG g a l p
def afG{i k w v}(h:nr ws i w)(h':nr ws k v):i=k/\w=v:=by
 let B:=h.2.1 v (bb h'.1);let M:=h'.2.1 w (bb h.1);let e:w=v:=.a
 calc(.c ?_ e);rcases anK i k with q|q|q
 .have:=h'.2.2 i w q h.1;lia
 .show q
 .have:=h.2.2 k v q h'.1;lia
def oG(s:.bK)(p:Nat×Nat):=.A (p∈s) s<|s++[p]
def PB g a(f:.h->.aR (Nat×Nat)):∀(l:.b8) (s:.bK),(∀x∈l,f x=match ju g a x with
  |.core c=>.tB
  |_=>none)->.ef (λs x=>match ju g a x with
 |.core c=>.A (s.any (.as<|p.1==c.first.rule&&p.2==c.second.rule)) s (s++[(c.first.rule,c.second.rule)])
 |_=>s) s=.ef (λs x=>match f x with
  |some p=>oG s p
  |none=>s) s
 |[],s,_=>rfl
 |x::l,s,h=>by rw[cW,PB g a f l _ (.d2 (h y<|by simp[T]))];grind[oG]
def afH g a(f:.h->.aR (Nat×Nat))(l:.b8)(h:∀x∈l,f x=match ju g a x with
 |.core c=>.tB
 |_=>none):zU g a l=.ef (λs x=>match f x with
 |some p=>oG s p
 |none=>s) []:=PB g a f l [] h
def bit(m:Mask)(i:Nat):=m.getD i .j
theorem vK(h:.bE=257)(h':.cU=257):(.m<|either a b)=257:=by unfold either;lk
def q_:∀{a b},.bE=.cU->∀i,bit (either a b) i=(bit a i||bit b i)
 |[],[],_,i=>.bm
 |x::a,y::b,h,0=>rfl
 |x::a,y::b,h,i+1=>by have:=q_ (a:=a) (b:=b) .d i;show this
 |[],_::_,h,_=>.fv
 |_::_,[],h,_=>.fv
theorem rb:noBytes.length=257:=.fp
def pU i:bit noBytes i=.j:=by unfold bit noBytes;lk
theorem afI:theEnd.length=257:=.fp
def PD i:bit theEnd i=.aj i 256:=by
 unfold bit theEnd;rw[cK];by_cases h:i<256
 .rw[kO .d,JK,.r h,.h2 .a];rfl
 .rw[zV .d];by_cases e:i=256
  .lk
  lk
def afJ lo hi:(.m<|bytesOf lo hi)=257:=by unfold bytesOf;simp
def BS lo hi i:.h7 (bytesOf lo hi) i↔i<257/\lo<=i/\i<=hi:=by unfold bit bytesOf;(simp;lk)
def iY(t:Sets):=∀m∈t,.gH=257
def pV(h:iY t) a:(.m<|setOf t a)=257:=by
 unfold setOf;rw[cK];cases e:t[a]? with
 |none=>show rb
 |some m=>show h m (bb e)
def GH(h:iY t) s:(.m<|symFirst t s)=257:=by
 cases s with
 |non k=>show pV h k
 |range b a=>show afJ b a
theorem rf(h:iY t):∀l,(.m<|rowFirst null t l)=257
 |[]=>rb
 |s::r=>by
  unfold rowFirst;split
  .show vK (GH h s) (rf h r)
  .show GH h s
def GJ(h:iY t):.hU (.h7 (rowFirst null t l) i↔∃o s U,l=o++s::U/\(∀y∈o,.n<|symNull null y)/\.h7 (symFirst t s) i)
 |[]=>.xR
 |s::r=>by
  unfold rowFirst;by_cases e:.n (symNull null s)
  .rw[.cK,q_<|by rw[GH h,rf h],rR,GJ h];walk
   .rintro(z|⟨o,J,U,L,C,f⟩)
    .show(.ab [] s r rfl .f z)
    lk
   .intro[o,J,U,L,C,f];cases o with
    |nil=>lk
    |cons p o=>lk
  .rw[.bU];walk
   .intro z;show(.ab [] s r rfl .f z)
   .intro[o,J,U,L,C,f];cases o with
    |nil=>lk
    |cons p o=>lk
theorem ki f:∀k s,setRounds f (k+1) s=f (.nT f s)
 |0,s=>rfl
 |k+1,s=>.jg (setRounds f _ (f s)=f (.nT f<|f s)) (ki f k<|f s)
def yA:setOf (.dt n f) a=.A (a<n) (f a) noBytes:=by unfold setOf;lk
def GK{f:bw->Mask}{c:bw->Bool}(J:∀r,(.m<|f r)=257):∀(rs:.b2) m,.gH=257->(.m .xS)=257
 |[],m,h=>h
 |r::rs,m,h=>by calc GK J rs _ ?_;grind[vK]
def BU{f:bw->Mask}{c:bw->Bool}(J:∀r,(.m<|f r)=257):∀(rs:.b2) m,.gH=257->(.h7 .xS i↔.h7 m i\/∃r∈rs,.n (c r)/\.h7 (f r) i)
 |[],m,h=>.f
 |r::rs,m,h=>by
  rw[cW];by_cases e:.n (c r)
  .rw[.cK,BU J rs _<|vK (J r) h,q_ .d];lk
  .rw[.bU,BU J rs _ h];lk
def gN(g:aQ)(s:Sym):=∃k,s=.non k/\.eL .j k
theorem yB(u:.ag):.n (symNull (nullable g) s)↔gN g s:=by
 cases s with
 |non k=>change .n (has k _)↔_;rw[j6,afg u];show(.c (.aQ<|.aX k h) λ#[j,e,h]=>.d)
 |range a b=>show(.c (.aQ .iL) λ{j,e,_}=>(by cases e))
def afK(F:.dv Prop)(b:Nat):Sym->Prop
 |.non c=>F c b
 |.range a d=>a<=b/\b<=d
inductive gb(g:aQ):.dv Prop
 |byte {r:bw} {pre jL:.bq} {lo hi b:Nat}:ip g r->.O=pre++.fN::jL->(∀y∈pre,gN g y)->lo<=b->b<=hi->gb g .C b
 |non {r:bw} {pre jL:.bq} {c b:Nat}:ip g r->.O=pre++.non c::jL->(∀y∈pre,gN g y)->gb g c b->gb g .C b
def kj(g:aQ)(l:.bq)(b:Nat):=∃o s U,l=o++s::U/\(∀y∈o,gN g y)/\afK (gb g) b s
def fR(g:aQ):Sets->Sets:=firstRound g (nullable g)<|productiveRules g
def afL(h:iY t):iY (fR g t):=by intro m G;let[a,_,rfl]:=.Y G;show GK (.bN<|rf h .O) _ _ (pV h a)
def afM:iY (noSets g):=by intro m G;let[a,_,rfl]:=.Y G;show rb
theorem rg:.aM (iY (.nT (fR g)<|noSets g))
 |0=>afM
 |k+1=>by rw[ki];show afL (rg k)
theorem vL(u:.ag)(h:iY t):.jl (fR g t) a b↔a<.o/\(.jl t a b\/∃r,ip g r/\.C=a/\∃o s U,.O=o++s::U/\(∀y∈o,gN g y)/\.h7 (symFirst t s) b):=by
 unfold fR firstRound;rw[yA];by_cases J:a<.o
 .rw[.r J,BU (.bN<|rf h .O) _ _<|pV h a];simp_all[GJ,yB,BN]
 .rw[.x J,pU];simp[J]
def yC(u:.ag):∀k a b,.yP->gb g a b
 |0,a,b,h=>by
  have:bit (setOf (noSets g) a) b=.j:=by simp[noSets,yA,pU]
  let h:.jl (noSets g) a b:=h;lk
 |k+1,a,b,h=>by
  rw[ki,vL u<|rg k] at h;let[_,h|||[r,Z,rfl,o,s,U,e,R,d]]:=h
  .show yC u k a b h
  .cases s with
   |non c=>show .non Z e R (yC u k c b d)
   |range i f=>let[_,B,M]:=(BS i f b).mp d;show .byte Z e R B M
def afN(u:.ag)(w:.bx)(h:gb g a b):∃k,.yP:=by
 induction h with
 |@byte r o U d f b Z e R B M=>calc(.bM 1);rw[ki,vL u<|rg 0];have:=w (d,f) (.nj r Z.1 .d);show(.c (u.lhs r Z.1)<|.F {r,Z,rfl,o,_,U,e,R,(BS d f b).mpr<|.g .a B M})
 |@non r o U c b Z e R _ E=>let[k,L]:=E;calc(.bM<|k+1);rw[ki,vL u<|rg k];show(.c (u.lhs r Z.1)<|.F {r,Z,rfl,o,_,U,e,R,L})
def PF(u:.ag)(w:.bx):.jl (firstOf g) a b↔gb g a b:=by
 calc(.da (yC u _ a b) ?_);let[k,L]:=afN u w h;refine qJ (aq .o) (λk a=>.jl (.nT (fR g) _) a b) (λk a h=>?_) (λk a h=>?_) (λk L a h=>?_) .f L
 .have J:a<.o:=by
   cases yC u k a b h with
   |byte Z _ _ _ _=>show u.lhs _ Z.1
   |non Z _ _ _=>show u.lhs _ Z.1
  grind[ki,vL,rg]
 .cases yC u k a b h with
  |byte Z _ _ _ _=>show .fO (u.lhs _ Z.1)
  |non Z _ _ _=>show .fO (u.lhs _ Z.1)
 .rw[ki,vL u<|rg _] at h;let[J,h|||[r,Z,d,o,s,U,e,R,f]]:=h
  .show h
  .rw[ki,vL u<|rg k];calc(.c J<|.F #[r,Z,d,o,s,U,e,R,?_]);cases s with
   |non c=>show L c f
   |range i j=>show f
def yD:iY (firstOf g):=rg .o
def PH(u:.ag)(w:.bx)(d:.jT (gA lo hi∈l) (hi<256)):.h7 (rowFirst (nullable g) (firstOf g) l) b↔kj g l b:=by
 rw[GJ yD];walk
 .intro[o,s,U,e,R,a];calc(.ab o s U e (.d2 ((yB u).mp<|R y T)) ?_);cases s with
  |non c=>show(PF u w).mp a
  |range lo hi=>show((BS lo hi b).mp a).2
 .intro[o,s,U,e,R,a];calc(.ab o s U e (.d2 ((yB u).mpr<|R y T)) ?_);cases s with
  |non c=>show(PF u w).mpr a
  |range lo hi=>have:=d lo hi .d;let a:lo<=b/\b<=hi:=a;show(BS lo hi b).mpr (.g .a a.1 a.2)
inductive gc(g:aQ):.dv Prop
 |start:.eL true 0->gc g 0 256
 |first{r:bw} {pre jL:.bq} {c b:Nat}:nq g r->.O=pre++.non c::jL->kj g jL b->gc g c b
 |hand {r:bw} {pre jL:.bq} {c b:Nat}:nq g r->.O=pre++.non c::jL->(∀y∈jL,gN g y)->gc g .C b->gc g c b
theorem tz(h:iY t)(a:U.length=257):∀l,(.m<|afterIn null t b U l)=257
 |[]=>rb
 |s::r=>by calc vK ?_ (tz h a r);grind[rb,vK,rf]
def GL(h:iY t)(b:U.length=257):.hU (.h7 (afterIn null t c U l) i↔∃o a,l=o++c5 c::a/\.vg)
 |[]=>.xR
 |s::r=>by
  have T:(∃o a,s::r=o++c5 c::a/\.vg)↔
    (s=.non c/\(.h7 (rowFirst null t r) i\/(.n (r.all<|symNull null)/\.h7 U i)))\/.h7 (afterIn null t c U r) i:=by
   rw[(GL h b (c:=c) (null:=null) (i:=i) (l:=r))];walk
   .intro[o,a,e,z];cases o with
    |nil=>lk
    |cons p o=>lk
   .rintro(⟨rfl,z⟩|⟨o,a,e,z⟩)
    .show(.ct [] r z)
    lk
  rw[T];cases s with
  |range d f=>rw[.g7<|afterIn null t c U _=either noBytes (_)];simp_all[q_,rb,tz,pU]
  |non k=>
   rw[.g7<|afterIn null t c U _=either (.A (k==c) _ noBytes) _];by_cases e:k=c
   .subst e;rw[.r<|beq_self_eq_true k];by_cases J:.n (r.all<|symNull null)
    .rw[.r J,q_<|by grind[vK,rf,tz],q_<|by rw[rf h r,b]];simp[J]
    .rw[.x J,q_<|by rw[rf h r,tz h b r]];simp[J]
   simp_all[q_,rb,tz,pU]
def wR(g:aQ):Sets->Sets:=followRound g (nullable g) (firstOf g)<|usefulRules g
def afO(f:bw->Mask) m(rs:.b2):.qn (either (f r) l) m=.qn (.e9 ((λ_=>true) r) (either (f r) l) l) m:=.f
def afP(h:iY t):iY (wR g t):=by intro m G;let[a,_,rfl]:=.Y G;show GK (c:=λ_=>true) .yO _ _ (pV h a)
def afQ:iY .qM:=by intro m G;let[a,_,rfl]:=.Y G;grind[afI,rb]
theorem vM:.aM (iY<|.nT (wR g) .qM)
 |0=>afQ
 |k+1=>by rw[ki];show afP (vM k)
def PJ(w:.bx)(Z:r∈.B)(h:gA lo hi∈.O):hi<256:=(w (lo,hi)<|.nj r Z h).2
theorem yE(u:.ag)(w:.bx)(T:0<.o)(h:iY t):.jl (wR g t) c b↔c<.o/\(.jl t c b\/∃r,nq g r/\∃o U,.O=o++c5 c::U/\(kj g U b\/((∀y∈U,gN g y)/\.jl t .C b))):=by
 unfold wR followRound;rw[yA];by_cases V:c<.o
 .rw[.r V,afO,BU .yO _ _<|pV h c];walk
  .rintro(z|⟨r,Z,_,z⟩)
   .lk
   .rw[GL yD<|pV h .C] at z;let R:=(O4 u T).mp Z;let[o,U,e,z]:=z;calc(.c V (.F<|.ab r R o U e ?_));let z|||[x,B]:=z
    .show .z ((.xQ).mp z)
    grind[yB]
  .rintro⟨_,z|⟨r,R,o,U,e,z⟩⟩
   .lk
   .calc .F (.ct r ((O4 u T).mpr R) ?_);rw[GL yD<|pV h .C];calc(.jM o U e);let z|||[x,B]:=z
    .show .z ((.xQ).mpr z)
    grind[yB]
 .rw[.x V,pU];simp[V]
def yF(u:.ag)(w:.bx)(T:0<.o):∀k c b,.zJ->gc g c b
 |0,c,b,h=>by
  let M:.jl .qM c b:=h;unfold followStart at M;rw[yA] at M;by_cases V:c<.o
  .rw[.r V] at M;by_cases e:.e2 (c==0) (has 0<|useful g)
   .rw[.cK,PD] at M;simp only[eG,beq_iff_eq] at e;rw[(.i9 M),e.1];show .start ((O5 u T).mp e.2)
   .rw[.bU,pU] at M;cases M
  .rw[.x V,pU] at M;cases M
 |k+1,c,b,h=>by
  rw[ki,yE u w T<|vM k] at h;let[_,h|||[r,Z,o,U,e,z|||[x,B]]]:=h
  .show yF u w T k c b h
  .show .first Z e z
  .show .hand Z e x (yF u w T k _ b B)
def afR(u:.ag)(w:.bx)(T:0<.o)(h:gc g c b):∃k,.zJ:=by
 induction h with
 |start h=>calc(.bM 0);change .jl .qM 0 256;simp_all[followStart,yA,O5,PD]
 |@first r o U c b Z e z=>calc(.bM 1);rw[ki,yE u w T<|vM 0];show(.c (u.non r Z.1.1 c .d)<|.F (.ab r Z o U e<|.z z))
 |@hand r o U c b Z e z _ E=>let[k,L]:=E;calc(.bM<|k+1);rw[ki,yE u w T<|vM k];show(.c (u.non r Z.1.1 c .d) (.F<|.ab r Z o U e (.F<|.c z L)))
def PK(u:.ag)(T:0<.o)(h:gc g c b):c<.o:=by
 cases h with
 |start _=>show T
 |first Z e _=>show u.non _ Z.1.1 c .d
 |hand Z e _ _=>show u.non _ Z.1.1 c .d
def afS(u:.ag)(w:.bx)(T:0<.o):.jl (followOf g) c b↔gc g c b:=by
 calc(.da (yF u w T _ c b) ?_);let[k,L]:=afR u w T h;refine qJ (aq .o) (λk c=>.jl (.nT (wR g) _) c b) (λk c h=>?_) (λk c h=>(.fO (PK u T<|yF u w T k c b h))) (λk L c h=>?_) .f L
 .rw[ki,yE u w T<|vM k];show(.c (PK u T<|yF u w T k c b h) .ex)
 grind[ki,yE,vM]
def PL{x}:∀{l acc:.h},x∈.ef .vP acc↔x∈acc\/∃c∈l,∃b,cy g c=.ln/\x∈dH g b
 |[],acc=>.f
 |c::l,acc=>by
  rw[cW,PL];walk
  .grind [n9]
  .rintro(h|⟨d,N,b,Y,h⟩)
   .grind [n9]
   .let rfl|||N:=.c6 N
    .left;rw[Y];show n9.mpr .ex
    lk
theorem tA:x∈mF g s↔x∈s\/∃c∈s,∃b,cy g c=.ln/\x∈dH g b:=PL
def afT(h:cj s):cj (mF g s):=by
 have:∀l a:.h,cj a->cj (.ef .vP a):=by
  intro l;induction l with
  |nil=>simp
  |cons c l E=>grind[E1]
 show this s s h
inductive md(g:aQ)(s:.h):.bn Prop
 |me {c:Nat}:c∈s->md g s c
 |fresh {c b x:Nat}:md g s c->cy g c=.ln->x∈dH g b->md g s x
def GN:∀k x,x∈.j9 (mF g) k->md g s x
 |0,x,h=>.me h
 |k+1,x,h=>by
  rw[ij] at h;let h|||[c,V,b,Y,h]:=tA.mp h
  .show GN k x h
  .show .fresh (GN k c V) Y h
def PM{x k j}(h:x∈.j9 (mF g) k)(I:k<=j):x∈.j9 (mF g) j:=by
 induction j with
 |zero=>lk
 |succ j E=>grind[ij,tA]
def GO(u:.ag)(T:0<.o){c b}(h:cy g c=.ln):b<.o:=by
 unfold cy dQ at h;split at h
 .lk
 .rw[cK] at h;cases e:.B[c/16]? with
  |none=>lk
  |some r=>rw[e] at h;show u.non r (bb e) b (bb h)
def BV(u:.ag)(T:0<.o){s}{x}:x∈.kc s↔md g s x:=by
 refine(.da (GN _ x) ?_);obtain⟨k,L⟩:∃k,x∈.j9 (mF g) k:=by
  induction h with
  |me h=>show(.c 0 h)
  |fresh _ Y D E=>let[k,L]:=E;show(.c (k+1)<|by grind[ij,tA])
 have l:=λ{j b:Nat}=>qJ _ (λk b=>∃c∈.j9 (mF g) k,cy g c=_) (λk b #[c,V,Y]=>(.g c (PM V .a) Y))
  (λk b {c,_,Y}=>.fO<|GO u T Y) (λk L b #[c,V,Y]=>by
   rw[ij] at V;let V|||[d,N,e,f,D]:=tA.mp V
   .lk
   .let[i,U,H]:=L e (.g d N f);grind[ij,tA]) (k:=.o) .f (a:=b) (j:=j);let v:∀k x,x∈.j9 (mF g) k->x∈.j9 (mF g) (.o+1):=by
  intro k;induction k with
  |zero=>intro x h;show PM h .a
  |succ k E=>
   intro x h;rw[ij] at h;let h|||[d,N,e,f,D]:=tA.mp h
   .lk
   .let[i,U,H]:=l (.g d N f);grind[ij,tA]
 show v k x L
def BW(h:cj s):cj (.kc s):=by
 have:.aM (cj<|.j9 (mF g) k):=by
  intro k;induction k with
  |zero=>show h
  |succ k E=>rw[ij];show afT E
 show this _
def PN:x∈dH g b↔∃r q,.B[r]?=.b q/\q.lhs=b/\x=r*16:=by
 unfold dH zS;rw[jS];walk
 .intro[[r,q],h,e];rw[mO] at h;by_cases d:q.lhs=b
  .grind [item]
  lk
 .intro[r,q,h,d,rfl];show(.g (r,q) (mO.mpr h)<|by simp[d,item])
def md.afU(h:md g s x):x∈s\/(x% 16=0/\x/16<.bf):=by
 cases h with
 |me h=>lk
 |fresh _ _ D=>let[r,q,Z,_,rfl]:=PN.mp D;lk
def jM(g:aQ)(s:.h):=cj s/\∀c∈s,c% 16≠0\/c/16=.bf
theorem afV(u:.ag)(T:0<.o){s J}(h:jM g s)(h':jM g J)(e:.kc s=.kc J):s=J:=by
 have H:∀{s J:_},jM g s->.kc s=.kc J->∀x,x∈s->x∈J:=by
  intro s J L e x D;let V:=(BV u T).mpr (.me D);rw[e,BV u T] at V;let q|||[M,B]:=V.afU
  .show q
  .let z|||z:=L.2 x D<;>lia
 show sG h.1 h'.1 (.ah (.c (H h e x)<|H h' e.symm x))
def GP(g:aQ)(s:.h):=.dx (.hM<|fj g s) (.aU<|! k.isEmpty)
def GQ(g:aQ)(s:.h):=.dx ((dC g).map<|mG g s) (.aU<|! k.isEmpty)
def oH(g:aQ)(s:.h):=GP g s++GQ g s
def cb(l:.b8)(k:.h):=.A (k∈l) l<|l++[k]
theorem afW c s:(place c s).1=cb c s:=by unfold place cb;lk
def PQ kind o s a:(w4 g kind o s a).1=.A s.isEmpty a.1 (cb a.1<|.kc s):=by grind[w4,afW]
def GR{N:Type}(f:N->.h)(h:N->.y _×.y Move->.y _×.y Move)(J:∀x a,(h x a).1=.e9 (.nK<|f x) a.1 (cb a.1 (.kc<|f x))):
  ∀(l:.aS) a,(.ef (λa x=>h x a) a).1=.ei (.dx (.bA f) (.aU<|! k.isEmpty)) (λc k=>cb c .el) a.1
 |[],a=>rfl
 |x::l,a=>by rw[cW,GR f h J l,bx];lk
theorem afX{N c:Type} l(f:N->c):.d0 (.hK .ax l) (f p.2)=.bA f:=by
 have:.d0 (.hK .ax l) p.2=l:=by grind[UQ]
 calc _=(.d0 (.hK .ax l) p.2).map f:=.f
  _=_:=by rw[this]
def PR c s:(movesFrom g (dC g) c s).1=.ei (oH g s) (λc k=>cb c .el) c:=by unfold movesFrom oH;rw[GR (λp:Nat×Nat×Nat=>_) (λp a=>w4 g 1 p.1 (mG g s p.2) a) λp a=>PQ 1 p.1 _ a,GR _ (λb a=>w4 g 0 b (fj g s b) a) λb a=>PQ 0 b _ a];grind[GP,GQ,afX,mG]
def GS{s}(h:cj s)(J:∀c y,f c=.eO->y=c+1):cj (s.filterMap f):=by calc apw f (λa b H x D y T=>?_) h;lk
def afY:x∈fj g s b↔∃c∈s,cy g c=.ln/\x=c+1:=by unfold fj;lk
def afZ:x∈mG g s p↔∃c∈s,∃lo hi,cy g c=.b .fN/\.n (zC p (lo,hi))/\x=c+1:=by unfold mG;lk
def af0(h:cj s) b:cj (fj g s b):=GS h λc y e=>.d
def af1(h:cj s) p:cj (mG g s p):=GS h λc y e=>.d
def Short(g:aQ):=∀r∈g.rules,.jO<=8
def GU(H:Short g){c}{y}(h:cy g c=.eO):c% 16<8:=by
 unfold cy dQ at h;let d:=(.aw h);split at d
 .lk
 .rw[cK] at d;cases e:.B[c/16]? with
  |none=>lk
  |some r=>rw[e,Df] at d;have:=H r (bb e);lia
def af2(H:Short g){s}(h:cj s):∀k∈oH g s,jM g k:=by
 intro k L;let L|||L:=.c7 L
 .let[b,_,rfl]:=.Y (.lr L);calc(.c (af0 h b) λc V=>?_);let[d,_,e,rfl]:=afY.mp V;have:=GU H e;lia
 .let[p,_,rfl]:=.Y (.lr L);calc(.c (af1 h p) λc V=>?_);let[d,_,a,f,e,_,rfl]:=afZ.mp V;have:=GU H e;lia
def tD(g:aQ):.dv (.b8->.aR .b8)
 |0,_,_=>none
 |f+1,i,a=>match a[i]? with
  |none=>.b a
  |some k=>
   let V:=.ei (oH g .el) cb a
   .A (128<V.length) none (tD g f (i+1) V)
theorem GV l k:.ax<=(.m<|cb l k):=by unfold cb;lk
def PU:∀(ns l:.y _),.ax<=(.m<|ns.foldl cb l)
 |[],l=>.ao
 |k::ns,l=>by show bC (GV l k) (PU ns _)
def af3(u:.ag)(T:0<.o){l}(d:∀k∈l,jM g k){k}(L:jM g k):cb (.bA<|bA g) .el=(cb l k).map (bA g):=by
 unfold cb;by_cases e:k∈l
 .lk
 .rw[.bU,if_neg,bo];rfl;grind[afV]
def PV(u:.ag)(T:0<.o):∀{ns l:.y _},(∀k∈l,jM g k)->(∀k∈ns,jM g k)->ns.foldl (λc k=>cb c .el) (.bA<|bA g)=(ns.foldl cb l).map (bA g)/\∀k∈ns.foldl cb l,jM g k
 |[],l,d,_=>(.aY d)
 |k::ns,l,d,t=>by rw[cW,af3 u T d<|t k .f];calc PV u T (λa N=>?_) (λa N=>t a<|gR _ N);unfold cb at N;lk
def PX:∀f i c J,J.length=i->i<=.c9->128<.c9->∀t,w6 g (dC g) f i c J=.b t->128<t.length
 |0,i,c,J,_,_,_,t,h=>.iL
 |f+1,i,c,J,Z,j,d,t,h=>by
  unfold w6 at h;cases e:c[i]? with
  |none=>lk
  |some s=>
   rw[e] at h;let b:=(.aw e);let S:.c9<=(.m (movesFrom g (dC g) c s).1):=by
    rw[PR];have:∀(a l:.y _),.ax<=(.m<|a.foldl (λc k=>cb c .el) l):=by
     intro a;induction a with
     |nil=>simp
     |cons k a E=>grind[GV]
    lk
   show PX f _ _ _ (by simp[Z]) .a .a t h
def tE(l:.y Move)(kind o:Nat):=∃m∈l,m.kind=kind/\m.over=o
def af4 kind o s a K k:tE (w4 g kind o s a).2 K k↔tE a.2 K k\/(s≠[]/\K=kind/\k=o):=by
 unfold w4;cases s with
 |nil=>simp
 |cons x s=>
  walk
  .intro[m,G,L,C];let G|||G:=.c7 G
   .show .z (.q m G L C)
   lk
  .rintro(⟨m,G,e⟩|⟨_,rfl,rfl⟩)
   .show(.g m (qd _ G) e)
   .show(.fG _ (gT _<|dj.mpr rfl))
def GW{N:Type} kind(T:N->Nat)(f:N->.h) K k:∀(l:.aS) a,tE (.ef (λa x=>w4 g kind (T x) (f x) a) a).2 K k↔tE a.2 K k\/∃x∈l,f x≠[]/\K=kind/\k=T x
 |[],a=>.f
 |x::l,a=>by rw[cW,GW kind T f K k l,af4];lk
def af5 c s k:tE (movesFrom g (dC g) c s).2 1 k↔∃p,(dC g)[k]?=.cL/\mG g s p≠[]:=by
 unfold movesFrom;rw[GW 1 (λp:Nat×Nat×Nat=>p.1) _,GW 0 _ _];walk
 .rintro((⟨m,G,_⟩|⟨x,_,_,z,_⟩)|⟨⟨i,p⟩,D,h,_,rfl⟩)
  .cases G
  .cases z
  .show(.g p (mO.mp D) h)
 .intro[p,R,h];show .F (.gs (k,p) (mO.mpr R) h)
def yG(g:aQ)(r:Row):=.aM<|tE r.moves 1 k↔∃p,(dC g)[k]?=.cL/\mG g r.items p≠[]
def sim(u:.ag)(T:0<.o)(H:Short g):∀f i (ks:.b8) (J:aol),i+f=130->(∀k∈ks,jM g k)->J.length=i->i<=.gF->.gF<=128->J.map (·.items)=(ks.take i).map (bA g)->(∀r∈J,yG g r)->
  (match tD g f i ks with
   |some V=>∃t,.xP/\t.map (·.items)=V.map (bA g)/\t.length<=128/\∀r∈t,yG g r
   |none=>∀t,.xP->128<t.length)
 |0,i,ks,J,w,L,Z,p,d,_,_=>.a
 |f+1,i,ks,J,w,L,Z,p,d,v,y=>by
  unfold tD w6;rw[bG];cases e:ks[i]? with
  |none=>lk
  |some k=>
   simp only[wj];let K:k∈ks:=bb e;let h:cj .el:=BW (L k K).1;let x:=(.aw e);let G:=PV u T (ns:=oH g .el) L (af2 H h);let m:=PU (oH g .el) ks;let s:(movesFrom g (dC g) (.dk<|bA g) .el).1=(.ei (oH g .el) cb ks).map (bA g):=by rw[PR,G.1]
   by_cases a:128<(.m<|.ei (oH g .el) cb ks)
   .rw[.r a];simp only;intro t B;rw[s] at B;show PX f (i+1) _ _ (by simp[Z]) .d .d t B
   .rw[.x a,s];refine sim u T H f (i+1) _ _ .a G.2 (by simp[Z]) .a .a ?_ ?_
    .
     have o:∀(b l:.b8) (j:Nat),j<=.ax->.aC (b.foldl cb l) j=l.take j:=by
      intro b;induction b with
      |nil=>simp
      |cons n b E=>intro l j I;rw[cW,E _ _ (bC I<|GV l n)];unfold cb;lk
     grind[bo,dX]
    .intro r c;let q|||q:=.c7 c
     .lk
     .rw[.d4 q];intro j;show af5 _ _ j
def yH(g:aQ):=tD g 130 0 [[item (g0 g) 0]]
def GX g:jM g [item (g0 g) 0]:=by calc(.c (by simp[cj]) λc V=>?_);rw[dj] at V;subst V;right;change(.bf*16+0)/16=.bf;lia
def af6(u:.ag)(T:0<.o)(H:Short g):match yH g with
  |some ks=>∃t,tableOf g=.b t/\t.map (·.items)=.dk (bA g)/\∀r∈t,yG g r
  |none=>.H (tableOf g):=by
 have:=sim u T H 130 0 [[_]] [] rfl (.bS (.jR (.d4 L)<|GX g)) rfl (eY _) .f rfl .qz;unfold yH;cases e:tD g 130 0 [[_]] with
 |some ks=>rw[e] at this;let[t,B,M,A,P]:=this;calc(.q t ?_ M P);unfold tableOf;let B:w6 g _ (STATES+2) 0 [_] []=_:=B;rw[B];simp only;rw[.r<|by show A]
 |none=>
  rw[e] at this;unfold tableOf;cases q:w6 g _ _ 0 [_] [] with
  |none=>rfl
  |some t=>have:=this t q;simp only;rw[.x<|by change¬t.length<=128;lia]
def yI(g:aQ)(s:.h):=(s.filter<|.bg (match cy g c with
 |some _=>false
 |none=>true)).map (.bg<|c/16)
def Due(g:aQ)(r b:Nat):=.A (r=.bf) (b=256)<|gc g (.kO g r) b
open Classical in
noncomputable def tG(g:aQ)(s:.h)(b:Nat):Nat:=(.e9 (∃k p,.fz b=.fg/\(dC g)[k]?=.cL/\mG g s p≠[]) 1 0)+(.l5 (yI g s)<|.bN (.bC<|Due g r b))
def GY{N c:Type}(F:N->.aR c) p(h:∀x,(F x).isSome=p x):∀l:.aS,(.m<|.pY F)=(.m<|l.filter p)
 |[]=>rfl
 |x::l=>by
  let D:=h x;rw[wZ];cases e:F x with
  |none=>rw[anL e,.x .d,GY F p h l]
  |some y=>rw[Ur e,.r .d,dS,dS,GY F p h l]
open Classical in
theorem PY(wf:.ag)(by_:.bx)(h0:0<.o){t:aol}{i:Nat}{r:Row}(hi:t[i]?=.b r)(ok:yG g r)(b:Nat):(.m<|actsAt g (followOf g) t i b)=tG g r.items b:=by
 unfold actsAt tG;simp only;rw[ez];congr 1
 .cases hc:.fz b with
  |none=>simp only;rw[if_neg];rfl;intro[k,p,z,_];cases z
  |some k=>
   simp only;let PZ:JL t i=r.moves:=by unfold JL;rw[hi]
   by_cases q:tE r.moves 1 k
   .let[p,hp,ho]:=(ok k).mp q;rw[.r<|.aW k p hp ho];let[m,hm,e1,e2]:=q;have:.n (.wS).isSome:=by rw[List.find?_isSome,PZ];show(.g m hm<|by simp[e1,e2])
    unfold moveOf;let[m',hm']:=IJ.mp this;rw[hm'];rfl
   .let hn:.H .wS:=by rw[aom,PZ];intro m hm z;simp only[eG,beq_iff_eq] at z;show q (.q m hm z.1 z.2)
    unfold moveOf;rw[hn,if_neg];rfl;intro[k',p,z,hp,ho];cases z;show q ((ok k).mpr<|.g p hp ho)
 .let EA:completeAt g t i=yI g r.items:=by unfold completeAt yI itemsAt;rw[hi];rfl
  rw[EA];calc GY _ _ (.ah ?_) _;by_cases hx:x=.bf
  .let e1:.fc x (g0 g):=by simp[hx,g0]
   rw[.r e1];by_cases hb:b=256
   .rw[.r<|by simp[hb,Vaglrb.END],.g8<|show Due g x b by unfold Due;rw[.r hx];show hb];rfl
   .rw[.x<|by simp[hb,Vaglrb.END],.h2<|show¬Due g x b by unfold Due;rw[.r hx];show hb];rfl
  .let e1:¬.fc x (g0 g):=by simp[hx,g0]
   let hd:.wR↔Due g x b:=by unfold Due;rw[.x hx];show afS wf by_ h0
   rw[.x e1];by_cases hm:.wR
   .rw[.r hm,.g8<|hd.mp hm];rfl
   .rw[.x hm,.h2<|.s (hm<|hd.mpr z)];rfl
def af7(u:.ag)(w:.bx)(T:0<.o){t}(Q:∀r∈t,yG g r):.n (.nK<|JM g t)↔∀s∈t.map (·.items),.bu (b∈.d0 (dC g) p.1\/b=256) (tG g s b<=1):=by
 rw[List.isEmpty_iff];unfold JM;rw[Dv];walk
 .intro h s c b Y;let[r,Z,rfl]:=.Y c;let[i,a]:=De.mp Z;let K:=(.aw a);have:=h i (.fO K);rw[aon] at this;let n:b∈.d0 (dC g) p.1++[Vaglrb.END]:=by grind[Vaglrb.END]
  let[j,I]:=De.mp n;have:=this (j,b) (mO.mpr I);grind[PY]
 .intro h i a;let K:=c4.mp a;rw[aon];intro[j,b] R;let Y:=bb (mO.mp R);let Z:=wU K;simp only;rw[PY u w T (cf K)<|Q _ Z,if_neg];have:=h _ (aH.mpr<|.cx Z) b (by
   let q|||q:=.c7 Y
   .lk
   .show .F (.d4 q));lia
theorem yY(u:.ag)(w:.bx){n}:.dd n↔n∈.sf .N (.ib g):=by rw[lX,lX,fy u,fy<|x4 u,<-OT,<-xZ w,aj];rfl
theorem alo(u:.ag)(w:.bx):BB g x=BB .N (.ib g):=by
 funext n m;calc propext ?_;by_cases h:.dd n
 .rw[<-tj u h,<-tj (x4 u)<|(yY u w).mp h];unfold KP;rw[yq w]
 .show(.c (.s<|.aa z.1 h) (.s<|.aa ((yY u w).mpr z.1) h))
theorem tT(u:.ag)(w:.bx){root m}(Z:.dd root):m∈eX g x root↔m∈eX .N (.ib g) root:=by grind[nh,yY,Under,alo]
theorem Sq(u:.ag)(w:.bx){root}(Z:.dd root):gL g x root↔gL .N (.ib g) root:=by unfold gL;let y:=sub_len (vE root) λa J=>(tT u w Z).mp J;let Q:=sub_len (vE root) λa J=>(tT u w Z).mpr J;let j:=vG (.cN<|.hH x m) (vE root) λa J=>(tT u w Z).mp J;let d:=vG (.cN<|.hH x m) (vE root) λa J=>(tT u w Z).mpr J;grind[yq]
def Sr(u:.ag)(w:.bx) a:ju g a x=ju .N a (.ib g):=by
 let W:=x4 u;let N:(.m<|.ib g)=.W:=aj _;by_cases Z:.dd (.dr a)
 .let c:(a,0,(.m<|.ib g))∈.sf .N (.ib g):=by rw[N];show(yY u w).mp Z
  by_cases R:gL g x (.dr a)
  .grind [Gi,Sq]
  .let b:¬gL .N (.ib g) (a,0,(.m<|.ib g)):=by grind[Sq]
   by_cases D:∀m∈eX g x<|.dr a,(.hH x m)<=1
   .simp_all[Gk,yq,tT]
   .let U:.um≠[]:=.s (D (.hw<|.jP (JH.mp z _<|.f7 m G)))
    let[e,_,d,L]:=OP U;let[H,h]:=cZ.mp d;let[m,G,rfl]:=.Y H;let y:∀n∈eX g x<|.dr a,1<(.hH x n)->rY n m=.j:=λn t B=>L {node:=n,alts:=.fB x n} (cZ.mpr<|.c (.f7 n t) .d);let M:1<(.hH x m):=.d
    obtain⟨p,q,r,J⟩:∃p q r,.fB x m=p::q::r:=by
     match .fB x m,M with
     |p::q::r,_=>simp
    rw[BJ u Z R G J y,BJ W c b (m:=m) (by rw[N];show(tT u w Z).mp G) (by rw[<-yq w];show J) λn t B=>by grind[yq,tT]]
 grind[Gj,yY]
def mapR(g:aQ)(r:bw):bw:=(.rq<|eQ g)
def alB:.hd=.fa (mapR g):=rfl
def wc{l:.bq}{k}:c5 k∈.nq g↔c5 k∈l:=by
 rw[aH];walk
 .intro[y,T,e];cases y with
  |non b=>cases e;show T
  |range a c=>cases e
 .show .aQ (.cx h)
def alC{l:.bq}{lo hi}(h:gA lo hi∈.nq g):∃a b,gA a b∈l/\lo=cl g a/\hi=cl g b:=by
 let[y,T,e]:=.Y h;cases y with
 |non b=>cases e
 |range a b=>cases e;lk
def tU{l o U}{y}(h:.nq g=o++y::U):∃p s z,l=p++s::z/\o=p.map (eQ g)/\y=eQ g s/\U=z.map (eQ g):=by let[p,q,rfl,rfl,e]:=List.map_eq_append_iff.mp h;let[s,z,rfl,rfl,rfl]:=List.map_eq_cons_iff.mp e;lk
def Ik(d:.eL M h):dY M .hd h:=by
 induction d with
 |mk r Z _ A E=>
  show dY.mk (mapR g r) (.f7 r Z) (.bS (E k<|wc.mp L)) λe c G=>by let[a,b,P,_]:=alC G;lk
def Il(d:dY M .hd h):.eL M h:=by
 induction d with
 |mk D Z _ A E=>let[r,T,rfl]:=.Y Z;show dY.mk r T (.bS (E k<|wc.mpr L)) λa b G=>A _ _ (aH.mpr<|.cx G)
def CH(h:ip g r):ip .N (mapR g r):=(.c (.f7 r h.1) (.bS<|Ik (h.2 k<|wc.mp L)))
def yZ(h:ip .N D):∃r,D=mapR g r/\ip g r:=by let[r,T,rfl]:=.Y h.1;show(.dB r T (.bS<|Il (h.2 k<|wc.mpr L)))
def alD(h:bB g k):bB .N k:=by
 induction h with
 |start=>show .start
 |step _ R L E=>show .step (r:=mapR g _) E (CH R) (wc.mpr L)
def alE(h:bB .N k):bB g k:=by
 induction h with
 |start=>show .start
 |step _ R L E=>let[r,rfl,T]:=yZ R;show .step (r:=r) E T (wc.mp L)
def Sw(h:nq g r):nq .N (mapR g r):=(.c (CH h.1)<|alD h.2)
def Sx(h:nq .N D):∃r,D=mapR g r/\nq g r:=by let[r,rfl,T]:=yZ h.1;show(.dB r T<|alE h.2)
def Sy:gN .N (eQ g s)↔gN g s:=by
 walk
 .intro[k,e,d];cases s with
  |non b=>cases e;show(.aX k<|Il d)
  |range c a=>cases e
 .intro[k,rfl,d];show(.aX k<|Ik d)
def CI{p:.bq}(h:∀y∈p,gN g y):∀y∈p.map (eQ g),gN .N y:=.d2<|by let[s,a,rfl]:=.Y T;show Sy.mpr (h s a)
def CJ{p:.bq}(h:∀y∈p.map (eQ g),gN .N y):∀y∈p,gN g y:=.d2<|Sy.mp (h _<|.f7 y T)
def alF(w:.bx){h b}(d:gb g h b):gb .N h (cl g b):=by
 induction d with
 |@byte r o U i j b Z e R B a=>let[M,f]:=(sN w<|.nj r Z.1 .d).mp (.c B a);show gb.byte (r:=mapR g r) (CH Z) (.rz<|r.rhs.map _=_) (CI R) M f
 |@non r o U c b Z e R _ E=>show gb.non (r:=mapR g r) (CH Z) (.rz<|r.rhs.map _=_) (CI R) E
def alG(w:.bx){h k}(d:gb .N h k):.bu (cl g b=k) (gb g h b):=by
 induction d with
 | @byte D o U m l k Z e R B j=>
  rintro b rfl;let[r,rfl,T]:=yZ Z;let[p,s,z,L,rfl,C,rfl]:=tU e;cases s with
  |non c=>cases C
  |range a c=>cases C;let[M,i]:=(sN w<|.nj r T.1 .d).mpr (.c B j);show gb.byte (r:=r) T L (CJ R) M i
 |@non D o U c k Z e R _ E=>
  intro b f;let[r,rfl,T]:=yZ Z;let[p,s,z,L,rfl,C,rfl]:=tU e;cases s with
  |range a c=>cases C
  |non O=>cases C;show gb.non (r:=r) T L (CJ R) (E b f)
def alH(w:.bx){l}(d:.rW){b}(h:kj g l b):kj .N (.nq g) (cl g b):=by
 let[o,s,U,rfl,R,a]:=h;calc(.ab _ (eQ g s) (U.map<|eQ g) .f (CI R) ?_);cases s with
 |non c=>show alF w a
 |range lo hi=>show(sN w<|d lo hi .f).mp a
def alI(w:.bx){l}(d:.rW){b}(h:kj .N (.nq g) (cl g b)):kj g l b:=by
 let[o,y,U,e,R,a]:=h;let[p,s,z,rfl,rfl,rfl,rfl]:=tU e;calc(.ab p s z rfl (CJ R) ?_);cases s with
 |non c=>show alG w a b rfl
 |range lo hi=>show(sN w<|d lo hi .f).mpr a
def Rl(g:aQ)(b k:Nat):=b=256/\k=256\/b<256/\k<256/\cl g b=k
def alJ(w:.bx){h b}(d:gb g h b):b<256:=by
 induction d with
 |@byte r o U c a b Z e R B M=>have:=(w (c,a)<|.nj r Z.1 .d).2;lia
 |non _ _ _ _ E=>show E
def alK(w:.bx){l}(d:.rW){b}(h:kj g l b):b<256:=by
 let[o,s,U,rfl,R,a]:=h;cases s with
 |non c=>show alJ w a
 |range lo hi=>have:=(w (lo,hi)<|d lo hi .f).2;let a:lo<=b/\b<=hi:=a;lia
def Im(Z:r∈.B){o U}{y}(e:.O=o++y::U):.jT (gA lo hi∈U) ((lo,hi)∈dh g):=λlo hi h=>.nj r Z .d
def alL(w:.bx){h b}(d:gc g h b):.aM (Rl g b k->gc .N h k):=by
 induction d with
 |start h=>
  rintro k (⟨_,rfl⟩|⟨B,_⟩)
  .show .start (Ik h)
  .lia
 |@first r o U c b Z e J=>
  intro k L;let Y:=alK w (Im Z.1.1 e) J;let[B,_]|||[_,_,rfl]:=L
  .lia
  .show gc.first (Sw Z) (.rz<|r.rhs.map _=_) (alH w (Im Z.1.1 e) J)
 |@hand r o U c b Z e V _ E=>intro k L;show gc.hand (Sw Z) (.rz<|r.rhs.map _=_) (CI V) (E k L)
def alM(w:.bx)(l:.ae (dC g) 256)(x:∀lo hi b,(lo,hi)∈dh g->lo<=b->b<=hi->cl g b<(.m<|dC g)){h k}(d:gc .N h k):.bu (Rl g b k) (gc g h b):=by
 have F:∀{h k},gb _ h k->k<256:=λ{h k} d=>by
  induction d with
  | @byte D o U lo hi k Z e R B M=>
   let[r,rfl,T]:=yZ Z;let[p,s,z,L,rfl,C,rfl]:=tU e;cases s with
   |non c=>cases C
   |range a c=>cases C;let f:(a,c)∈_:=.nj r T.1 .d;have:=x a c c f (w _ f).1 .ao;lia
  |non _ _ _ _ E=>show E
 induction d with
 |start h=>
  rintro b (⟨rfl,_⟩|⟨_,M,_⟩)
  .show .start (Il h)
  .lia
 | @first D o U c k Z e J=>
  intro b Y;let[r,rfl,T]:=Sx Z;let[p,s,z,L,rfl,C,rfl]:=tU e;cases s with
  |range a c=>cases C
  |non O=>
   cases C;let j:=Im T.1.1 L;let[_,rfl]|||[_,_,rfl]:=Y
   .let[o,y,U,e,R,i]:=J;let[t,s,m,rfl,rfl,rfl,rfl]:=tU e;cases s with
    |non c=>show .aa (F i) .a
    |range lo hi=>let f:=j lo hi .f;have:=x lo hi hi f (w _ f).1 .ao;let i:_<=256/\256<=_:=i;lia
   .show gc.first T L (alI w j J)
 |@hand D o U c k Z e V _ E=>
  intro b Y;let[r,rfl,T]:=Sx Z;let[p,s,z,L,rfl,C,rfl]:=tU e;cases s with
  |range a c=>cases C
  |non O=>cases C;show gc.hand T L (CJ V) (E b Y)
end TT
end
section
open PySem PySem.Spec PyProof.Rows L2
open Vaglrc (Sym)
namespace Tw
def top(i:Nat):=apm.main.body.getD i (.Pass<|.q 0 0 0 0)
def Def(K:bj)(X:.dl)(x:Str)(Z:gu)(G:.a7):=∃f I,qD K x x Z f I/\X x=.K f/\Binds K I G []
def bq(P:fu)(w:ew)(K:bj)(X:.dl)(i:bI)(x:Str)(G:.a7)(sp:Sp)(k:Nat):=
 ∃f I,jy P w K X i lR k f I G sp/\X x=.K f/\.n (oX K .ej)/\Binds K I G []
section
variable{K:bj}
def Def.x5{Z}(D:Def K X x Z G)(S:.lI N G Z)(M:.q6)
  (p:.sv .au (.oU k (mC x (aI Z) .G f v)->sp vs H Q E->
   ∃t,hX (mL lR P w K X i N x (aI Z) f v A U s H E).nV (jd Z) t/\.rV)):bq P w K X i x G sp (k+1):=by let[f,I,F,a,Y]:=D;show(.ab f I (F.ok S M<|p f) a F.kp Y)
end
def aak(c:bq .ar X.w X.K X.mg .dj x a sp k)(Z:.fV)(J:PA X (e::es) t)(S:.fj:=by rfl) (d:(.ko x)=.j:=by decide) (he:.gb e=.eF::.ga:=by rfl) (g:.hS=.j:=by rfl):
  .gI x (e::es) (Aw sp [] E0 t):=by let[f,I,F,G,L,Y]:=c;show W_ F Z S G L Y .nil uT J d he g
def GI(X:.dl)(x:Str)(i:Int):=∃t,X x=.b (.gy i)
def pgi(h:GI X.mg x i)(S:.fj:=by rfl) (N:(.iF x)=.j:=by decide):.U (.bz x pos) (tC .do):=by let[t,h]:=h;show VD S h (.a5 t) N
def aal(X:.dl):=∀x∈([.dm,.es,.jS,"zip","sum",.eE,.m2,.dI,.f4,.f6,"set","any","max","min"]:.a7),.H<|X x
def Ff(G:.bR .dm)(he:.fi)(S:.bB .dm:=by rfl) (hs:.b4=.b5:=by rfl):
  .gI .dm [e] (mM .vs<|kR t g4):=
 .no XZ S G Ui (fC he fY hs)
def aam(r D R:R2)(d T t o:TE):TE:=.br<|d U H (.dD<|T U P λy n=>r x y n λz E=>∃k,z=.bl k/\
 (.A (.n k) (t U E λi q=>D y i q λB p=>∃J,B=.bl J/\(.A (.n J) (o U p λS u=>R i S u Q)<|.i3 .j p))<|.i3 .j E))
def aan(l:.id X op r)(t:.id X MT r')(o:.id X MU R)(J:.U a ta)(Y:.U b tb)(V:.U c tc)(hd:.U d td)
  (G:zg [op,MT,MU] [b,c,d]=.j:=by with_unfolding_all rfl):PT X (.gC a [op,MT,MU] [b,c,d]) (DV<|aam r r' R ta tb tc td):=by
 intro pins s U H Q I h;refine isTrue_chain (aJ (J pins s U H _ I h) λv s1 #[x,P,I1,g,M]=>Te (aJ (Y pins s1 U P _ I1 M) λu s2 #[y,n,L,m,B]=>
  aJ (l pins s2 U n x y v u _ L g m B) λd' f #[z,E,A,r3,k,e,w]=>?_)) G;subst e;cases r3;calc ky ?_;cases k with
 |false=>let[k',j,N]:=w;cases j;show ite_ff (.g E A N)
 |true=>
  calc ite_tt (Te<|aJ (V pins f U E _ A w) λi W #[D,H4,F,Z,q4]=>aJ (t pins W U H4 y D u i _ F m Z q4) λd2 s5 #[z2,p,T,r5,k2,e2,C]=>?_);subst e2;cases r5;calc ky ?_;cases k2 with
  |false=>let[k',j,N]:=C;cases j;show ite_ff (.g p T N)
  |true=>calc ite_tt (test_last<|aJ (hd pins s5 U p _ T C) λS s6 #[z6,H6,I6,r6,q6]=>aJ (o pins s6 U H6 D z6 i S _ I6 Z r6 q6) λd3 s7 #[z7,H7,O,r7,k7,e7,q]=>?_);subst e7;cases r7;show ky (.g H7 O q)
def A9{T name d}(p:TX T)(c:Slot T name d)(b:typeOf (.fw d)=.aL .uc)(G:xt X d r)(l:.U o O)(he:.fi)(hs:.b4=.b5)
  (i:.iu o name=.d1) (E:.n (.p6
   &&.os))
  (a:.m5):.ka name j [e] D (AF X.K T r O<|kR t g4):=
 X3 p c b G l (fC he fY hs) i E a hs
def MV(l:.U o O)(he:.fi)(hs:.b4=.b5:=by rfl)
  (i:.iu o "append"=.d1:=by rfl) (E:.n (.p6
   &&.os):=by rfl)
  (a:.m5:=by rfl):.ka "append" j [e] D (AF X.K .dI La O<|kR t g4):=
 A9 Dk PySem.F.slot_list_append PySem.F.type_list_append X4 l he hs i E a
def aao(l:.U o O)(he:.fi)(hs:.b4=.b5:=by rfl)
  (i:.iu o "extend"=.d1:=by rfl) (E:.n (.p6
   &&.os):=by rfl)
  (a:.m5:=by rfl):.ka "extend" j [e] D (AF X.K .dI Lb O<|kR t g4):=
 A9 Dk Uj anF X5 l he hs i E a
inductive W where
 |non|bl (b:Bool)|int (i:Int)|str (x:Str)|ref (a:af)
 |tup (ws:.aT)|lst (ws:.aT)
 |dK (ks:.y Key) (ws:.aT)|dT (ks:.y TK) (ws:.aT)
 |ins (C:af) (ns:.a7) (ws:.aT)
 |mP (ns:.S)
def vh:HO->Prop
 |.dK _=>True
 |.dT _=>True
 |_=>False
def nf:HO->Prop
 |.aB _ (.lst _)=>True
 |.aB _ _=>False
 |.gg _=>False
 |_=>True
def MX(h:jx .v):nf o:=by cases o<;>first|trivial|exact rL h
def Rx(H:Hp)(p:af)(o:HO):=H p=.v/\nf o\/(∃u,H p=.e8 u o)/\vh o
def Rx.rd(h:Rx H p o):Rd H p o:=h.imp Uk Uk
mutual
def Rep(Hs:Hp):W->V->Prop
 |.non,v=>v=.non
 |.bl b,v=>v=.bl b
 |.int i,v=>v=.do
 |.ref a,v=>v=.T
 |.str x,v=>v=.str x
 |.tup ws,v=>∃p o,v=.aG/\Rx Hs p o/\∃vs,o=.am vs/\.eh
 |.lst ws,v=>∃p o,v=.aG/\Rx Hs p o/\∃vs,o=.Z vs/\.eh
 |.dK ks ws,v=>∃p o,v=.aG/\Rx Hs p o/\∃vs,o=.dK .l7/\.gF=.bD/\.eh
 |.dT ks ws,v=>∃p o,v=.aG/\Rx Hs p o/\∃vs,o=.dT .l7/\.gF=.bD/\.eh
 |.ins C ns ws,v=>∃p o,v=.aG/\Rx Hs p o/\∃dx vs,o=.dP dx (ns.zip vs)/\.fA=.bD/\.eh
 |.mP ns,v=>∃p o,v=.aG/\Rx Hs p o/\∃ob,o=.aB ob .o9
def aP(Hs:Hp):.aT->.ey .au
 |[],vs=>vs=[]
 |w::ws,vs=>∃v r,vs=v::r/\.fm w/\.fb ws r
end
def fc(Hs:Hp):W->HO->Prop
 |.tup b,o=>∃a,o=.am a/\.fb b a
 |.lst b,o=>∃a,o=.Z a/\.fb b a
 |.dK c b,o=>∃a,o=.dK (c.zip a)/\.c9=.bE/\.fb b a
 |.dT c b,o=>∃a,o=.dT (c.zip a)/\.c9=.bE/\.fb b a
 |.ins C d b,o=>∃i a,o=.dP i (d.zip a)/\.nf=.bE/\.fb b a
 |_,_=>False
def Le(H H':Hp):=∀p o,Rx H p o->Rx H' p o
theorem Le.refl H:Le H H:=λ_ _ h=>h
theorem Le.trans(a:Le H P)(b:Le P n):Le H n:=λp o h=>b p o<|a p o h
def Le.of(h:h7 H H'):Le H H':=λp o r=>by
 let[r,n]|||[[u,r],d]:=r
 .show .hl (h _ _ r) n
 .show .F (.c (.c u<|h _ _ r) d)
mutual
theorem Rep.le{H H':Hp}(h:Le H H'):∀{w:W} {v:V},Rep H w v->Rep H' w v
 |.non,_,r=>r
 |.bl _,_,r=>r
 |.int _,_,r=>r
 |.ref _,_,r=>r
 |.str _,_,r=>r
 |.tup _,_,⟨p,o,e,r,vs,e2,q⟩=>{p,o,e,h _ _ r,vs,e2,aP.le h q}
 |.lst _,_,⟨p,o,e,r,vs,e2,q⟩=>{p,o,e,h _ _ r,vs,e2,aP.le h q}
 |.dK _ _,_,⟨p,o,e,r,vs,e2,l,q⟩=>{p,o,e,h _ _ r,vs,e2,l,aP.le h q}
 |.dT _ _,_,⟨p,o,e,r,vs,e2,l,q⟩=>{p,o,e,h _ _ r,vs,e2,l,aP.le h q}
 |.ins _ _ _,_,⟨p,o,e,r,dx,vs,e2,l,q⟩=>{p,o,e,h _ _ r,dx,vs,e2,l,aP.le h q}
 |.mP _,_,⟨p,o,e,r,q⟩=>(.I p o e (h _ _ r) q)
theorem aP.le{H H':Hp}(h:Le H H'):∀{ws:.aT} {vs:.au},aP H ws vs->aP H' ws vs
 |[],_,r=>r
 |_::_,_,⟨v,t,e,r,q⟩=>(.I v t e (Rep.le h r)<|aP.le h q)
end
def fc.le(h:Le H H'):∀{w} {o},fc H w o->fc H' w o
 |.tup _,_,⟨a,C,q⟩=>(.g a C<|aP.le h q)
 |.lst _,_,⟨a,C,q⟩=>(.g a C<|aP.le h q)
 |.dK _ _,_,⟨a,C,l,q⟩=>(.q a C l<|aP.le h q)
 |.dT _ _,_,⟨a,C,l,q⟩=>(.q a C l<|aP.le h q)
 |.ins _ _ _,_,⟨i,a,C,l,q⟩=>(.I i a C l<|aP.le h q)
 |.non,_,q=>q.elim
 |.bl _,_,q=>q.elim
 |.int _,_,q=>q.elim
 |.ref _,_,q=>q.elim
 |.str _,_,q=>q.elim
 |.mP _,_,q=>q.elim
def fc.l(h:.eh):fc Hs .gT (.Z vs):=(.aX vs h)
theorem fc.k(l:.gF=.bD)(h:.eh):fc Hs (.dK ks ws) (.dK .l7):=(.dB vs l h)
def fc.t(l:.gF=.bD)(h:.eh):fc Hs (.dT ks ws) (.dT .l7):=(.dB vs l h)
def fc.i(l:.fA=.bD)(h:.eh):fc Hs (.dP ns ws) (.dP dx<|ns.zip vs):=(.aW dx vs l h)
def Rep.ob(r:Rx H p o)(q:fc H w o):Rep H w .aG:=by cases w<;>first|exact q.elim|exact(.aW p o r q)
def k5(h:.bI p):h7 H (.a8 p o):=.ml<|.nL (aY<|gC e h)
def aP.len:∀{ws:.aT} {vs:.au},.eh->.bp=.bD
 |[],_,r=>.oI
 |_::_,_,⟨_,_,e,_,q⟩=>by subst e;rw[dS,dS,aP.len q]
theorem aP.get:∀{ws:.aT} {vs:.au} {i:Nat} {w:W},.eh->ws[i]?=.eP->∃v,vs[i]?=.aO/\.fm w
 |[],_,_,_,_,e=>by simp at e
 |_::_,_,0,_,⟨v,_,e,r,_⟩,h=>.d
 |_::_,_,i+1,_,⟨_,_,e,_,q⟩,h=>by subst e;show aP.get (i:=i) q .d
def aP.app:∀{ws:.aT} {vs:.au} {b:.aT} {B:.au},.eh->.fb b B->.fb (ws++b) (vs++B)
 |[],_,_,_,r,q=>by cases r;show q
 |_::_,_,_,_,⟨v,t,e,r,q⟩,N=>by subst e;show(.aW v (t++_) r<|aP.app q N)
theorem aP.one(r:.fm w):.fb [w] [v]:=(.aW v [] r rfl)
def aP.take:∀{ws:.aT} {vs:.au} (n:Nat),.eh->.fb (ws.take n) (vs.take n)
 |_,_,0,_=>rfl
 |[],_,_+1,r=>.oI
 |_::_,_,n+1,⟨v,t,e,r,q⟩=>by subst e;show(.aW v _ r<|aP.take n q)
def aP.drop:∀{ws:.aT} {vs:.au} (n:Nat),.eh->.fb (ws.drop n) (vs.drop n)
 |_,_,0,r=>r
 |[],_,_+1,r=>.oI
 |_::_,_,n+1,⟨v,t,e,r,q⟩=>by subst e;show aP.drop n q
def aP.set:∀{ws:.aT} {vs:.au} (i:Nat) {w:W} {v:V},.eh->.fm w->.fb (ws.set i w) (vs.set i v)
 |[],_,_,_,_,r,_=>.oI
 |_::_,_,0,_,v,⟨_,t,e,_,q⟩,r=>by subst e;show(.aW v t r q)
 |_::_,_,i+1,_,_,⟨u,t,e,r,q⟩,D=>by subst e;show(.aW u _ r<|aP.set i q D)
def vi:W->.aR V
 |.non=>.b .non
 |.bl b=>.nc b
 |.int i=>.gG i
 |.ref a=>.cq
 |_=>none
def Rep.flat(h:vi w=.aJ)(r:.fm w):v=u:=by cases w<;>simp[vi] at h<;>subst h<;>show r
def aP.flat:∀{ws:.aT} {vs us:.au},ws.mapM vi=.b us->.eh->vs=us
 |[],_,_,h,r=>by cases r;lk
 |w::ws,_,us,h,⟨v,t,e,r,q⟩=>by
  subst e;rw[anG] at h;cases L:vi w with
  |none=>lk
  |some a=>
   cases C:ws.mapM vi with
   |none=>lk
   |some b=>rw[L,C] at h;cases h;rw[Rep.flat L r,aP.flat C q]
abbrev Gm:=.y<|.aR W
abbrev OM:=.co af W
abbrev ks(O:OM):=O.map .fr
def j7(Hs H:Hp)(O:OM):=(.a9<|ks O)/\∀p c,(p,c)∈O->.H (Hs p)/\∃o,H p=.v/\jx .v/\fc Hs c o
def k6(Hs:Hp):.aR W->.ey (.aR V)
 |none,_=>True
 |some w,some v=>.fm w
 |some _,none=>False
structure aZ(Hs H:Hp)(σ:L2.St)(Γ:Gm)(O:OM):Prop where
 sub:h7 Hs H
 own:j7 Hs H O
 env:eU (k6 Hs) Γ σ
def sO(o:HO)(r:.aR HO):=r=.v\/∃p q,o=.gg p/\r=.nh q
def sO.is(h:sO o r)(n:∀p,o≠.gg p):=h.elim id λ{p,_,e,_}=>.aa e (n p)
def sO.no(h:sO o r)(n:.H r):False:=by let e|||[_,_,_,e]:=h<;>(lk)
structure Ext(Hs H:Hp)(O:OM)(cU H':Hp)(O':OM):Prop where
 le:Le Hs cU
 keep:.a3 (H b=.v) (b∉ks O->sO o (H' b))
 new:.bu (cU b≠none) (.H (Hs b)->.ew\/b∈ks O\/∃xs,H b=.ep xs)
 own:∀b∈ks O',b∈ks O\/.ew
theorem Ext.refl Hs H O:Ext Hs H O Hs H O:=(.q .er (λ_ _ h _=>.ex) (λ_ h a=>.aa a h) λ_ h=>.ex)
theorem Ext.trans(a:Ext Hs H O A P O1)(b:Ext A P O1 F d O2):Ext Hs H O F d O2 where
 le:=a.le.trans b.le
 keep:=λc o h n=>by
  have m:c∉ks O1:=.s (by
   let z|||z:=a.own c z
   .show n z
   lk)
  let e|||[p,q,rfl,e]:=a.keep c o h n
  .show b.keep c o e m
  .let e|||[_,r,_,e]:=b.keep c _ e m
   .show .F (.ct p q e)
   .show .F (.ct p r e)
 new:=λc h g=>by
  cases e:A c with
  |some o=>show a.new c .d g
  |none=>
   cases C:H c with
   |none=>simp
   |some o=>
    by_cases V:c∈ks O
    .lk
    .let f:=a.keep c o C V;rcases b.new c h e with z|z|⟨i,z⟩
     .show(f.no z).elim
     .let z|||z:=a.own c z
      .lk
      lk
     .let f|||[_,_,_,f]:=f
      .lk
      lk
 own:=λc h=>by
  let z|||z:=b.own c h
  .show a.own c z
  .cases C:H c with
   |none=>simp
   |some o=>
    by_cases V:c∈ks O
    .lk
    .show((a.keep c o C V).no z).elim
structure bB(σ:L2.St)(Γ:Gm)(Hs H:Hp)(O:OM)(cU H':Hp)(O':OM):Prop where
 ext:Ext Hs H O cU H' O'
 ok:aZ cU H' σ Γ O'
theorem bB.trans(a:bB U u Hs H O A P O1)(b:bB U u A P O1 F n O2):bB U u Hs H O F n O2:=(.c (a.ext.trans b.ext) b.ok)
def aZ.same(h:.fh):bB U u Hs H O Hs H O:=(.c (Ext.refl _ _ _) h)
def n_.le(h:Le Hs j):∀{u:Gm} {U:L2.St},eU (k6 Hs) u U->eU (k6 j) u U
 |_,_,.nil=>.nil
 |_,_,.cons (a:=a) (b:=b) r t=>.bj (by
  cases a with
  |none=>trivial
  |some w=>cases b with
   |none=>show r
   |some v=>show Rep.le h r)<|n_.le h t
def j7.le(x:j7 Hs H O)(h:Le Hs j)(n:∀p∈ks O,.H<|j p)(e:∀p∈ks O,∀o,H p=.v->H' p=.v):j7 j H' O:=
 (.c x.1 λp c m=>let⟨_,o,M,A,P⟩:=x.2 p c m
  have R:=aH.mpr (.cx m)
  (.I (n p R) o (e p R o M) A<|P.le h))
def aZ.share(x:.n0 a)(R:.bI p):bB U a Hs H O (upd Hs p o) (.a8 p o) O:=by
 have t:.H (Hs p):=by
  cases e:Hs p with
  |none=>rfl
  |some u=>rw[x.sub _ _ e] at R;cases R
 let n:∀b∈ks O,b≠p:=λb Y z=>.wh
 let I:Le Hs (upd Hs p o):=Le.of (k5 t);refine(.c (.q I (λb u h _=>.z<|k5 R b u h) (λb h c=>?_)<|.hx .ex) (.g (λb u h=>?_) (x.own.le I (.a4 ?_) λb Y u h=>k5 R b u h)<|n_.le I x.env))
 .grind [aY]
 .by_cases e:b=p
  .subst e;rw[dk] at h|-;show h
  .rw[aY e] at h|-;show x.sub _ _ h
 .let[q,m,rfl]:=.Y Y;rw[aY<|n _ Y];show(x.own.2 _ _ m).1
def aZ.have(x:.n0 f)(R:.bI p)(G:jx .v)(V:fc Hs c o):bB U f Hs H O Hs (.a8 p o) (O++[(p,c)]):=by
 have t:.H (Hs p):=by
  cases e:Hs p with
  |none=>rfl
  |some u=>rw[x.sub _ _ e] at R;cases R
 let n:p∉ks O:=λY=>.wh
 refine(.c (.q .er (λb u h _=>.z<|k5 R b u h) (λb h g=>.aa g h)<|.hx ?_)<|.g (λb u h=>k5 R b u<|x.sub _ _ h) (.c ?_ λb d m=>?_) x.env)
 .lk
 .rw[ks,bo,jU];show(.i1 x.own.1 λa J b Y z=>.d)
 .let m|||m:=.c7 m
  .let[B,u,M,A,P]:=x.own.2 _ _ m;show(.I B u (k5 R _ _ M) A P)
  grind[dk]
def aZ.freeze{Hs H}{O1 O2:OM}{p}{c}(x:.nF U g (O1++(p,c)::O2)):∃j,bB U g Hs H (O1++(p,c)::O2) j H (O1++O2)/\Rep j c .aG:=by
 let[t,o,l,G,V]:=x.own.2 p c .f;let I:Le Hs (upd Hs p o):=Le.of (k5 t);let N:=x.own.1;rw[ks,bo,bx,jU] at N;let a:p∉ks (O1++O2):=.s .d
 let f:∀q,q∈O1++O2->q∈O1++(p,c)::O2:=λq h=>.d
 refine(.g (upd Hs p o) (.c (.q I (λ_ _ h _=>.ex) (λb h i=>?_)<|.hx ?_) (.g (λb u h=>?_) (.c ?_ λb d m=>?_)<|n_.le I x.env)) (.pc dk (MX G)<|V.le I))
 .by_cases e:b=p
  .lk
  .rw[aY e] at h;lk
 .lk
 .by_cases e:b=p
  .subst e;rw[dk] at h;lk
  .rw[aY e] at h;show x.sub _ _ h
 .lk
 .let[B,u,M,A,P]:=x.own.2 _ _ (f _ m);calc(.I ?_ u M A<|P.le I);rw[aY<|.s .d];show B
def aZ.write{Hs H}{O1 O2:OM}{p}{c d}{o}(x:.nF g i (O1++(p,c)::O2))(G:jx .v)(a:fc Hs d o):bB g i Hs H (O1++(p,c)::O2) Hs (.a8 p o) (O1++(p,d)::O2):=by
 let[t,_,_,_,_]:=x.own.2 p c .f;let E:ks (O1++(p,d)::O2)=ks (O1++(p,c)::O2):=by simp[ks]
 have N:=x.own.1;rw[ks,bo,bx,jU] at N;let U:∀q e,(q,e)∈O1++O2->q≠p:=λq e m z=>by
  subst z;let m|||m:=.c7 m
  .show N.2.2 q (aH.mpr<|.cx m) q .f rfl
  lk
 refine(.c (.q .er (λb u h n=>?_) (λb h j=>.aa j h) (.hx<|.z .d))<|.g (λb u h=>?_) (.c .d λb e m=>?_) x.env)
 .rw[aY (.s<|n .d)];show .ex
 .rw[aY<|.s .d];show x.sub _ _ h
 .by_cases z:(b,e)=(p,d)
  .cases z;show(.I t o dk G a)
  .let f:(b,e)∈O1++O2:=.d
   let[B,u,M,A,P]:=x.own.2 b e .d;show(.I B u (by rw[aY<|U b e f];show M) A P)
def aap(tk t:TE):TE:=.br<|∀p,.bI p->tk U (.a8 p<|.dT []) (.dD<|t U P λy n=>∃b F,x=.dn/\n p=.b (.dT [])/\iF n b F/\.gQ (upd n p<|.dT [(F,y)]))
def aaq{k v}(R:.jr+2<eE)(hk:.U k tk)(p:.U v t):.U (.Dict [.fg] [v] pos) (aap tk t):=by
 intro g s U H Q I q;let hn:=.gA .G;let O:=I.laid (a:=.G) (o:=.dT []) (h':=.oa .f6 .oJ) (t':=.cw) (λ_ _ q=>.a1 q) .ao (LD .R I.xB);calc wpAny_Dict_any rfl rfl .f .f (am'<|aJ (hk g _ U _ _ O<|q _ hn) λu j #[x,V,L,S,M]=>aJ (p g j U V _ L M) λm d #[y,n,A,Z,b,F,G,e,r,B]=>am_ ?_);subst G;obtain rfl:u=fB b:=S;unfold storeAll;rw[am2];let[z,N,xs,T,D]:=Lz A.aL e;cases T;let W:∀h,h.DictOfH (pq .ar X.w) .G (storedH [] F b m)->mw .G d.heap h->.oQ g (upd n .G<|.dT [(F,y)]) {d with heap:=h,toks:=d.toks+(pq .ar X.w).draws F}:=by intro h i l;let[w,E,J,f,h2,Y,P,_,K]:=i;calc uN A .qJ l (.c w f) {by rw[oV];simp,N,_,?_,w,E,J,f,h2,Y,P,K};show amZ (.g rfl (r.keeps λc ys C=>by rw[aY<|J4 C e .aV];show C) Z) .nil
 show ah (ah<|wpAny_dictSet_heap (hsz:=eY _) (knd:=pq .ar X.w) (.dg<|.jr+1<eE) (sr A.aL r) D λh i l=>aG (.bX (ao _ _ (forIn [] _ _) _ _ _)<|by rw[List.forIn_nil];show aG (.cs .dO (upd n .G<|.dT [(F,y)]) (W h i l) B)))
open HT in
theorem aar{t sl:af}{items:.eR aw}{vl vu:aw}{lo hi:.ir}{Q:.hq}(ht:my .R t items)(hs:s.heap.IsSliceOf sl vl vu .cy)(pl:qj vl lo)(pu:qj vu hi)
  (hw:.za) (h:.eY t s):.ci (oU (.p t)<|.p sl):=by
 let[os,hos,hcs,hds]:=id hs;let hTs:.kR (.p sl) "slice":=(.g os hos hcs);unfold oU;try with_reducible refine iz ?_
 first|refine .ik|skip
 refine ah<|amR ht.typeIs .V ?_;refine ah<|wG (name:=o7 "__getitem__") ht.typeIs zo
  (lC zo ht.typeIs amS ?_<|amT _ _);change ao _ _ (SX (.p t)>>=_) _ _ s;calc ah (tupleItemsOf_ ht ?_);calc ah (CU hTs ?_);rw[.r .V];calc ah (K3 hs pl pu ?_);let aas:.sP:=by rw[hw.1,hw.2];simp
 change .Ab;rw[.r aas];calc .j5 (apn<|.p t) (ah<|CU ht.typeIs .dC);rw[.r .V];show ah (tZ<|aG (.bZ<|aG h))
def aat(K:bj):V->.ir->.ir->.cZ:=λx d c H Q=>∃a F,x=.T/\c6 K H a F/\∀p b,(p=a/\b=H/\nX F d c=F\/.bI p/\b=.a8 p (.am<|nX F d c))->.gQ b
def aau{K}(j:X.K=K:=by rfl):AB X (aat K):=by
 subst j;intro b s U H x v i k e f Z Q I S d C c h;let[a,F,rfl,D,q]:=h;by_cases l:.o4 0 e=0/\.o4 .aE f=.aE
 .cases S;let[g,r,B,m]:=.hr D;let o:.k5=.aE:=by show r.length.symm
  calc(.cX .f4 zo.lookup .iW<|aar B d C c .d (.cs .T H I<|q a H (.z<|.aX rfl ?_)));unfold nX;lk
 .show XC b s U H _ v i k e f Z Q I S d C c (.ab a F rfl D l<|.dz (q p _<|.pT R))
def MY(i j:Int):=i.natAbs<2^4000/\j.natAbs<2^4000
def aav:cX X (mB .Mult) (rI MY λi j=>.u (i*j)):=by intro a s U H x y v u Q I S Z [i,j,rfl,rfl,V,q];let[t,rfl]:=(S);let[b,rfl]:=(Z);show mul_int .p7 (IntMulOk.of_bits (.gK<|Ul V.1) (.gK<|Ul V.2))
def MZ(i j:Int):=i.natAbs<2^1000/\0<=j/\j<=100
def aaw:cX X (mB .Pow) (rI MZ λi j=>.u (i^j.toNat)):=by
 intro a s U H x y v u Q I S Z [i,j,rfl,rfl,V,q];let[t,rfl]:=(S);let[b,rfl]:=(Z);let Y:=Ul V.1;calc pow_int V.2.1 ?_ .p7;let B:.bh (.cj<|Builtin.Int.intBits i):=.a
 let M:=Int.mul_le_mul B V.2.2 V.2.1 .V;lia
def aax(c:bq .ar X.w X.K X.mg .dj x [] sp k)(Z:.fV)(S:.fj:=by rfl) (d:(.iF x)=.j:=by decide):.gI x [] (Aw sp [] E0 g4):=by let[f,I,F,G,L,Y]:=c;show Xa F Z S G L Y .nil uT d
def M0(G:.bR .dI)(he:.fi)(S:.bB .dI:=by rfl) (hs:.b4=.b5:=by rfl):
  .gI .dI [e] (mM .uY<|kR t g4):=
 uI X0 S G .fp (fC he fY hs) (he:=hs)
def aay(l:.U o O)
  (i:.iu o "pop"=.d1:=by rfl) (a:.m5:=by rfl):.ka "pop" j [] D (K_ X.K .dI Ld O):=
 X2 Dk PySem.F.slot_list_pop PySem.F.type_list_pop X6 l i a
def aaz(K:bj):V->V->.cZ:=.jU<|∃(p:af) (F:_) (j:Nat) (v:V),x=.aG/\y=.u j/\bf K H p F/\F[j]?=.aO/\Q v H
def aaA:Km X (aaz X.K):=by
 intro c s U H o i T Y Q I O a [p,F,j,v,rfl,rfl,f,b,q];cases O;let[t,rfl]:=a;let[g,r,C,d]:=.ev f;let[w,R,W]:=r.get b;let e:=(.aw b);let h:bh=16777216:=.V
 show wpAny_getItem_list C.isList .a .a .d (.I v H I W q)
def aaB(G:.bR .f4)(he:.fi)(S:.bB .f4:=by rfl) (hs:.b4=.b5:=by rfl):
  .gI .f4 [e] (mM .uD<|kR t g4):=
 uI X1 S G .fp (fC he fY hs) (he:=hs)
def Fh{t}(V:.bP)(d:X.N.Nodup)(hi:PI X c b wi)(Q:nY X.N .hY F l)
 (S:.wg) (B:.wf)
 (he:.ot af .bL (PE (.gw s H (jt F cl C .X) a) e t)) (T:.d5 i=.eO:=by rfl) (p:.d7 y=.cP:=by rfl)
 (u:lE (.iG e [(.q c b E 0)] F) (.b<|.bz y f) k.line .X=.aL true:=by show Ei rfl rfl rfl rfl) (hs:∀x,nH b .X x=.aL x:=by intro _;rfl):
 PS X (.Assign [.bz y f] (.iG e [(.q c b E 0)] F) k) .yb:=YA V d T p u hi Q S B he hs
def aaC{X}{K}{i j k}{p1 p2 pos}(F:X.N.Nodup)(q:X.K=K:=by rfl) (V:.bP:=by rfl) (hi:.d5 i=.bt:=by rfl) (D:.gR x:=by first|exact .iz|exact i8 rfl) (J:.f2 x\/.d7 x=.cP:=by first|exact .w|exact .cY)
  (I:.d5 j=.eO:=by rfl) (T:.gR y:=by first|exact .iz|exact i8 rfl) (S:.f2 y\/.d7 y=.cP:=by first|exact .w|exact .cY):
  PG X .x7 (DQ K 2 (uE (nW i)<|uE (nW j) DP)):=by subst q;show Kj V (xk (uD F hi D J)<|xk (uD F I T S) Ki)
def aaD{K}{x y z}{i j l k}{p1 p2 a pos}(F:X.N.Nodup)(q:X.K=K:=by rfl) (b:.bP:=by rfl) (hi:.d5 i=.bt:=by rfl) (D:.gR x:=by first|exact .iz|exact i8 rfl) (J:.f2 x\/.d7 x=.cP:=by first|exact .w|exact .cY)
  (I:.d5 j=.eO:=by rfl) (T:.gR y:=by first|exact .iz|exact i8 rfl) (S:.f2 y\/.d7 y=.cP:=by first|exact .w|exact .cY)
  (d:.d5 l=.b z:=by rfl) (hz:.gR z:=by first|exact .iz|exact i8 rfl) (V:.f2 z\/.d7 z=.cP:=by first|exact .w|exact .cY):
  PG X (.hz [.bz x p1,.bz y p2,.bz z a] k pos) (DQ K 3<|uE (nW i) (uE (nW j)<|uE (nW l) DP)):=by subst q;show Kj b (xk (uD F hi D J) (xk (uD F I T S)<|xk (uD F d hz V) Ki))
def bg(i j:Nat):gu:=match top i with
 |.ClassDef _ _ _ g _ _ _ _ _ _ _=>g.getD j (.Pass<|.q 0 0 0 0)
 |_=>.Pass (.q 0 0 0 0)
def dv(K:bj)(C:af)(q m:Str)(Z:gu)(G:.a7):=∃f I,qD K m q Z f I/\xo K C m f/\Binds K I G []
def c7(P:fu)(w:ew)(K:bj)(X:.dl)(i:bI)(C:af)(m:Str)(G:.a7)(sp:Sp)(k:Nat):=∃f I,jy P w K X i lR k f I G sp/\xo K C m f/\Binds K I G []
def mQ(K:bj)(C:af)(q:Str)(Z:gu)(G:.a7):=∃f I,qD K "__init__" q Z f I/\Mk K C f/\Binds K I G []
def mR(P:fu)(w:ew)(K:bj)(X:.dl)(i:bI)(C:af)(x:Str)(G:.a7)(sp:Sp)(k:Nat):=∃f I,jy P w K X i lR k f I G sp/\Mk K C f/\Binds K I G []/\X x=.K C
section
variable{K:bj}
def dv.x5{Z}(D:dv K C q m Z G)(S:.lI N G Z)(M:.q6)
  (p:.sv .au (.oU k (mC q (aI Z) .G f v)->sp vs H Q E->
   .y9)):c7 P w K X i C m G sp (k+1):=by let[f,I,F,a,Y]:=D;show(.I f I (F.ok S M<|p f) a Y)
def mQ.x5{Z}(D:mQ K C q Z G)(a:X x=.K C)(S:.lI N G Z)(M:.q6)
  (p:.sv .au (.oU k (mC q (aI Z) .G f v)->sp vs H Q E->
   .y9)):mR P w K X i C x G sp (k+1):=by let[f,I,F,b,Y]:=D;show(.ab f I (F.ok S M<|p f) b Y a)
end
def aaE(c:c7 .ar X.w X.K X.mg .dj C m h sp k)(cl:gD X.K C)(Z:.fV)(l:.U o d)(J:PA X (e::es) t)
  (N:.gb e=.eF::.ga:=by rfl) (g:.hS=.j:=by rfl)
  (B:.mv m j (e::es) pos=(do
   let T<-.d1
   .mX
   let(f,a)<-gw [T] (oW T m b)
   .wB):=by rfl):.ka m j (e::es) pos (Ax C m sp [] E0 d t):=by let[f,I,F,G,Y]:=c;show Xc l cl G F Z Y .nil uT J N g B
def aaF(c:c7 .ar X.w X.K X.mg .dj C m e sp k)(cl:gD X.K C)(Z:.fV)(l:.U o d)
  (B:.mv m j [] pos=(do
   let T<-.d1
   .mX
   let(f,a)<-gw [T] (oW T m b)
   qh pos f a (.lK pos [])<|.pJ pos):=by rfl):.ka m j [] pos (Ax C m sp [] E0 d g4):=by let[f,I,F,G,Y]:=c;show Xd l cl G F Z Y .nil uT B
def aaG(c:.ya)(Z:.k8 (k+1))(J:PA X (e::es) t)(S:.fj:=by rfl) (d:(.ko x)=.j:=by decide) (he:.gb e=.eF::.ga:=by rfl) (g:.hS=.j:=by rfl):
  .gI x (e::es) (Ay C sp [] E0 t):=by let[f,I,F,G,Y,D]:=c;show Xe G F Z S D Y .nil uT J d he g
def aaH(c:.ya)(Z:.k8 (k+1))(S:.fj:=by rfl) (d:(.iF x)=.j:=by decide):.gI x [] (Ay C sp [] E0 g4):=by let[f,I,F,G,Y,D]:=c;show Xf G F Z S D Y .nil uT d
def cE(X:Cx)(e:bZ):TE:=.br<|∃t,.fi/\t U H Q
def cT(X:Cx)(e:bZ):TT:=.br<|∃t,PT X e t/\t U H Q
def cA(X:Cx)(es:.y bZ):TA:=.br<|∃t,PA X es t/\t U H Q
def fE(X:Cx)(Z:.y gu):TS:=.jx<|∃t,hX X Z t/\t D U H
def cE.ok:.m6 (cE X e):=.rA<|h a s U H Q I q
def cT.ok:PT X e (cT X e):=.rA<|h a s U H Q I q
def cA.ok:PA X es (cA X es):=λb a s U H Q I {_,h,q}=>h b a s U H Q I q
def fE.ok{Z}:hX X Z (fE X Z):=λa s U H D I {_,h,q}=>h a s U H D I q
structure XE(X:Cx)(Γ:Gm)(O:OM)(e:bZ)(K:.c2):Prop where
 go:.uC
instance{X:Cx}{Γ:Gm}{O:OM}{e:bZ}{K:.c2}:CoeFun (.oe Γ e K) (.P .uC):=#[XE.go]
structure XV(X:Cx)(Γ:Gm)(O:OM)(e:bZ)(w:W):Prop where
 go:.uB
instance{X:Cx}{Γ:Gm}{O:OM}{e:bZ}{w:W}:CoeFun (.cH Γ e w) (.P .uB):=#[XV.go]
structure XT(X:Cx)(Γ:Gm)(O:OM)(e:bZ)(b:Bool):Prop where
 go:.uA
instance{X:Cx}{Γ:Gm}{O:OM}{e:bZ}{b:Bool}:CoeFun (XT X Γ O e b) (.P .uA):=#[XT.go]
structure XA(X:Cx)(Γ:Gm)(O:OM)(es:.y bZ)(K:.aT->.fq):Prop where
 go:.ul
instance{X:Cx}{Γ:Gm}{O:OM}{es:.y bZ}{K:.aT->.fq}:CoeFun (XA X Γ O es K) (.P .ul):=#[XA.go]
def Is(O:OM)(w c:W):=w=c\/∃p,w=.aG/\(p,c)∈O
def boxed:W->Bool
 |.lst _=>true
 |.dK _ _=>true
 |.dT _ _=>true
 |.ins _ _ _=>true
 |_=>false
theorem Is.at(h:Is O w c)(Y:.n (boxed c))(x:.fh)(r:.fm w):∃p o,v=.aG/\Rx H p o/\fc Hs c o:=by
 let rfl|||[p,rfl,m]:=h
 .cases w<;>first|(cases Y;done)|(obtain⟨p,o,e,Z,q⟩:=r;exact(.I p o e ((Le.of x.sub) _ _ Z) q))
 .cases(r);let[_,o,M,A,P]:=x.own.2 p c m;show(.aW p o (.hl M<|MX A) P)
def Rx.lst(h:Rx H p o)(n:¬vh o):=h.elim Uk (.s<|.aa z.2 n)
section
variable{K:.c2}
def XV.xe(h:.de w)(k:K w O):.ez e:=.qE<|h a H U x Q λv j b I r=>q v w O j b I r k
def XE.mono(h:.ez e)(k:∀w O',K w O'->b w O'):.kS e b:=.qE<|h a H U x Q λv w O' j c I r z=>q v w O' j c I r (k _ _ z)
def XE.xv(h:.kS e λi O'=>i=w/\O'=O):.de w:=.qE<|h a H U x Q λv i O' j b I r z=>.d
def XE.aB{c}(h:.kS e λi O'=>∃p,i=.aG/\O'=O++[(p,c)]):.de c:=.qE<|h a H U x Q λv i O' j b I r z=>by let[p,rfl,rfl]:=z;let[F,S,m]:=I.ok.freeze;rw[eS] at S;cases(r);show q _ F b .cO m
def sP:∀{u:Gm} {U:L2.St} {i:Nat} {w},eU (k6 Hs) u U->u[i]?=.b .eP->∃v,U[i]?=.b .aO/\.fm w
 |_,_,_,_,.nil,e=>by simp at e
 |_,_,0,_,.cons (b:=b) r _,e=>by
  simp at e;subst e;cases b with
  |none=>show r.elim
  |some v=>show(.aX v r)
 |_,_,i+1,_,.cons _ t,e=>sP (i:=i) t .d
def j8{i:Nat}(F:.d5 i=.bt:=by rfl) (S:u[i]?=.b .eP:=by rfl) (p:uA .hY x:=by first|exact .iz|exact i8 .iz|exact i8 (i8 rfl)) (N:(.iF x)=.j:=by decide) (a:(x==("__classdict__"))=.j:=by decide):.bJ (.bz x pos) w:=.mk λb H U s Q q=>.rJ s.env S (.I _ (Kc F p N a) v B<|q v b H .fJ M)
def M3:.bv (.lU i j pos) i:=.lQ (.D DM<|q _ a H .fJ rfl)
def aaI:.iT (.ob (.eQ i) pos) i:=.lQ (.D VB<|q _ a H .fJ rfl)
def aaJ:.bJ (.ob .cy pos) .non:=.lQ (.D VC<|q _ a H .fJ rfl)
def Fi(h:GI X.mg x i)(S:.fj:=by rfl) (N:(.iF x)=.j:=by decide):.bv (.bz x pos) i:=.lQ (.D (pgi h S N)<|q _ a H .fJ rfl)
def vj(l:cX X (mB op) r)(J:.bJ a wa)(Y:.bJ b wb)
  (h:∀Hs H U x y Q,.fh->.k7 wa x->.k7 wb y->.sO->r x y H Q):.ez (.jq a op b):=.mk λHs H U s Q q=>
 (.D (Ku l .E .E)<|J Hs H U s _ (.dU<|Y A P U I.ok _ (.jh<|h F n U x y Q S.ok .gf m λv w O' j H' M R k=>q v w O' j H' (.fZ M) R k)))
def M4{g:Int->Int->Int}(l:cX X (mB op) (.ps (.u<|g i j)))(J:.bv a i)(Y:.bv b j):.bv (.jq a op b) (g i j):=
 (vj l J Y λc H U x y Q s d m q=>(.I i j d m<|q _ (.u _) _ c H .fJ rfl .bW)).xv
def qN(J:.bv a i)(Y:.bv b j):.bv (.jq a .Add b) (i+j):=M4 WD J Y
def M5(J:.bv a i)(Y:.bv b j):.bv (.jq a .Sub b) (i-j):=M4 WE J Y
def aaK(J:.bv a i)(Y:.bv b j)(V:MY i j):.bv (.jq a .Mult b) (i*j):=
 (vj aav J Y .uX).xv
def aaL(J:.bv a i)(Y:.bv b j)(V:MZ i j):.bv (.jq a .Pow b) (i^j.toNat):=
 (vj aaw J Y .uX).xv
def aaM(J:.bv a i):.bv (.UnaryOp .USub a pos) (-i):=.mk λb H U s Q q=>
 (.D (WB WI .E)<|J b H U s _ (.dU (.g i r<|q _ A P I rfl)))
def M6(r:.k7 wa x)(h:.tO):.aj x V.non=b:=by
 let[rfl,rfl]|||[h,rfl]:=h
 .show .g8 r
 .calc .h2 .M;subst z;cases wa<;>first|exact h rfl|(cases(r);done)|(obtain⟨_,_,e,_⟩:=r;cases e)
def b9(X:Cx)(op:CmpOp)(wa wb:W)(k:Bool):=∃r,.id X op r/\∀a H x y Q,h7 a H->Rep a wa x->Rep a wb y->.i3 k H->r x y H Q
def oe(h:b9 X op wa wb k)(J:.bJ a wa)(Y:.bJ b wb)(G:kC op b=.j):.iT (.gC a [op] [b]) k:=.mk λc H U s Q q=>by let[r,l,h]:=h;show(.D (WN l .E .E G)<|J c H U s _ (.dU<|Y A P U I.ok _ (.jh (h F n x y Q S.ok.sub .gf m<|q _ F n .cO rfl))))
def g7(h:b9 X op wa wb k)(J:.bJ a wa)(Y:.bJ b wb)(G:kC op b=.j):XT X u O (.gC a [op] [b]) k:=.mk λc H U s Q q=>by let[r,l,h]:=h;show(.D (DW l .E .E G)<|J c H U s _ (.dU<|Y A P U I.ok _ (.jh<|h F n x y _ S.ok.sub .gf m (.aX k<|q F n .cO))))
def b9.i{g:Int->.lm}(l:.kN X op (.bl<|g i j)){i j}:b9 X op .do (.u j) (g i j):=(.D l λ_ _ _ _ _ _ a m q=>(.I i j a m q))
def b9.lt{i j}:b9 X .Lt .do (.u j) (.ai i j):=b9.i KD
def b9.le{i j}:b9 X .LtE .do (.u j) (.iZ i j):=b9.i mJ
def b9.gt{i j}:b9 X .Gt .do (.u j) (.ai j i):=b9.i KE
def b9.ge{i j}:b9 X .GtE .do (.u j) (.iZ j i):=b9.i WM
def aaN:.aj (V.int i) (V.int j)=.aj i j:=by by_cases e:i=j<;>simp[e]
def b9.eq{i j}:b9 X .Eq .do (.u j) (.aj i j):=(.D KC .we)
def b9.ne{i j}:b9 X .NotEq .do (.u j) (! .aj i j):=(.D WL .we)
def M7 i(ns:.S):AE .do .pl=.dY i ns:=by
 unfold AE;induction ns with
 |nil=>rfl
 |cons n ns E=>grind[jZ]
def aP.ints:∀{ms:.S} {vs},.pt (ms.map .cJ)->vs=ms.map V.int
 |[],_,r=>r
 |m::ms,_,⟨v,t,e,r,q⟩=>.sE<|aP.ints q
def b9.M8(l:.id X op (D4 X.K neg)){i}{ns:.S}(J:f=W.lst\/f=W.tup):b9 X op .do (f<|.gv .cJ) (.A neg (! .dY i ns)<|.dY i ns):=(.D l (λd H x y Q a g m q=>by
 cases(g);let rfl|||rfl:=J
 .let[p,o,rfl,Z,c,rfl,b]:=m;rw[b.ints] at Z;show{p,_,rfl,.z (bf.of<|a _ _ .h0),rfl,by simp[jz],by rw[M7];show q}
 .let[p,o,rfl,Z,c,rfl,b]:=m;rw[b.ints] at Z;show{p,_,rfl,.F (c6.of<|a _ _ .h0),rfl,by simp[jz],by rw[M7];show q}))
def g8(J:.bJ a wa)(h:.tO):XT X u O (.gC a [.Is] [.ob .cy t]) b:=.mk λc H U s Q q=>
 (.D (Ah<|VG .E) .xg)
def vk(J:.bJ a wa)(h:.tO):XT X u O (.gC a [.IsNot] [.ob .cy t]) ! b:=.mk λc H U s Q q=>
 (.D (Ah<|VH .E) .xg)
def M9{f g:Int->.lm}(h:.kN X op (.bl<|f i j))(t:.kN X d (.bl<|g i j))(J:.bv a i)(Y:.bv b j)(V:.bv c l)(G:zg [op,d] [b,c]=.j:=by with_unfolding_all rfl):.iT (.gC a [op,d] [b,c]) (f i j&&g j l):=.mk λk H U s Q q=>
 (.D (WO h t .E .E .E G)<|J k H U s _ (.dU<|Y A P U I.ok _ (.jh {i,j,r,m,_,rfl,by
  cases e:f i j with
  |false=>rw[e] at q;show kU (q _ F n .cO rfl)
  |true=>rw[e] at q;show kX (V F n U S.ok _ λz Z E M R=>(.I j l m R<|q _ Z E (.fZ M) rfl))})))
def M_{f g:Int->.lm}(h:.kN X op (.bl<|f i j))(t:.kN X d (.bl<|g i j))(J:.bv a i)(Y:.bv b j)(V:.bv c l)(G:zg [op,d] [b,c]=.j:=by with_unfolding_all rfl):XT X u O (.gC a [op,d] [b,c]) (f i j&&g j l):=.mk λk H U s Q q=>
 (.D (WQ h t .E .E .E G)<|J k H U s _ (.dU<|Y A P U I.ok _ (.jh {i,j,r,m,_,rfl,by
  cases e:f i j with
  |false=>rw[e] at q;show kU (.bZ<|q F n .cO)
  |true=>rw[e] at q;show kX (V F n U S.ok _ λz Z E M R=>{j,l,m,R,_,rfl,q Z E<|.fZ M})})))
def aaO{f g h:Int->.lm}(ho:.kN X op (.bl<|f i j))(t:.kN X v (.bl<|g i j))(o:.kN X p (.bl<|h i j))(J:.bv a i)(Y:.bv b j)(V:.bv c l)(N:.bv d m)(G:zg [op,v,p] [b,c,d]=.j:=by with_unfolding_all rfl):XT X u O (.gC a [op,v,p] [b,c,d]) (f i j&&(g j l&&h l m)):=.mk λT H U s Q q=>
 (.D (aan ho t o .E .E .E .E G)<|J T H U s _ (.dU<|Y A P U I.ok _ λy F n S B=>{i,j,r,B,_,rfl,by
  cases e:f i j with
  |false=>rw[e] at q;show kU (.bZ<|q F n .cO)
  |true=>
   calc kX (V F n U S.ok _ λz Z E M R=>{j,l,B,R,_,rfl,?_});cases C:g j l with
   |false=>rw[e,C] at q;show kU (.bZ (q Z E<|.fZ M))
   |true=>rw[e,C] at q;show kX (N Z E U M.ok _ λD k H4 w L=>{l,m,R,L,_,rfl,q k H4<|.aA (.fZ M) w})}))
def iM(h:.iT e k)(he:.wd:=by intro _;rfl):XT X u O e k:=.mk λa H U s Q q=>
 (.D (VJ .E he)<|h a H U s _ (.dU (.g k r<|q A P I)))
def Fj(h:XT X u O e k):XT X u O (.UnaryOp .Not e pos) (! k):=.lQ (.D (VS cT.ok)<|h a H U s _ λA P I=>q A P I)
def iN(J:XT X u O a k)(Y:.n k->XT X u O b l):XT X u O (.iK .And [a,b]) (k&&l):=.mk λc H U s Q q=>
 (.D (PW.pt (VQ cT.ok<|VO cT.ok)) (J c H U s _ λA P I=>by
  cases k with
  |false=>lk
  |true=>show kX .x9))
def Fk(J:XT X u O a k)(Y:k=.j->XT X u O b l):XT X u O (.iK .Or [a,b]) (k||l):=.mk λc H U s Q q=>
 (.D (PW.pt (VR cT.ok<|VP cT.ok)) (J c H U s _ λA P I=>by
  cases k with
  |true=>lk
  |false=>show kU .x9))
def M'(J:.iT a k)(Y:k=.j->.iT b l):.iT (.iK .Or [a,b]) (k||l):=.mk λc H U s Q q=>
 (.D (VY .E<|Kf .E)<|J c H U s _ (.dU<|.g k r (by
  cases k with
  |true=>show kX (q _ A P I rfl)
  |false=>show kU .wC)))
def aaP(J:.iT a k):.iT (.UnaryOp .Not a pos) (! k):=.mk λb H U s Q q=>
 (.D (VZ .E)<|J b H U s _ (.dU (.g k r<|q _ A P I rfl)))
def iO(V:XT X u O c k)(J:.n k->.ez a)(Y:k=.j->.ez b):.ez (.IfExp c a b pos):=.mk λe H U s Q q=>
 (.D (Kg cT.ok .E .E) (V e H U s _ λA P I=>by
  cases k with
  |true=>show kX (J rfl A P U I.ok _ (.rK<|q v w d F n .cO r z))
  |false=>show kU (Y rfl A P U I.ok _ (.rK<|q v w d F n .cO r z))))
def sQ(V:XT X u O c k)(J:.n k->.bJ a w)(Y:k=.j->.bJ b w):.bJ (.IfExp c a b pos) w:=(iO V (.s<|(J z).xe .bW) (.s<|(Y z).xe .bW)).xv
end
section
variable[.l4 κ]
def dU(ks:.y κ)(ws:.aT)(k:κ):=.ho<|(ks.zip ws).find? λf=>.aj f.1 k
def aP.val:∀{ks:.y κ} {ws:.aT} {vs:.au},.eh->match dU ks ws k with
  |none=>.H (gE .l7 k)
  |some w=>∃v,gE .l7 k=.aO/\.fm w
 |[],_,_,_=>rfl
 |_::_,[],_,r=>.oI
 |a::ks,w::ws,_,⟨v,t,e,r,q⟩=>by
  by_cases h:a=k
  .simp_all[dU,gE]
  .let L:dU (a::ks) (w::ws) k=dU ks ws k:=by simp[dU,h]
   let C:gE ((a,v)::_) k=gE (ks.zip t) k:=AL h;simp_all[aP.val]
def iP(ks:.y κ)(k:κ):=.A (k∈ks) ks<|ks++[k]
def jC(ks:.y κ)(ws:.aT)(k:κ)(w:W):=.b7 (k∈ks) .x8<|ws++[w]
def aP.Na(r:.fm w):∀{ks:.y κ} {ws} {vs},.eh->.fb .x8 .y8
 |[],_,_,_=>rfl
 |_::_,[],_,q=>by cases q;rfl
 |a::ks,u::ws,_,⟨x,t,e,D,q⟩=>by subst e;calc(.aW _ _ ?_<|aP.Na r q);lk
def Nb:∀{ks:.y κ} {vs:.au},.gF=.bD->((.l7).any λf=>.aj f.1 k)=.dY k ks
 |[],_,_=>rfl
 |_::_,[],h=>.fv
 |a::ks,v::vs,h=>by rw[nB,zp,Nb .d];lk
def Nc:∀{ks:.y κ} {vs:.au},.gF=.bD->(.l7).map (λf=>.b7 (f.1=k) (f.1,v) f)=ks.zip .y8
 |[],_,_=>rfl
 |_::_,[],h=>.fv
 |a::ks,x::vs,h=>by rw[nB,bx,bx,nB,Nc .d];lk
theorem aP.put{ks:.y κ}(q:.eh)(d:.gF=.bD)(r:.fm w):∃B,putK .l7 k v=(iP ks k).zip B/\(.m<|iP ks k)=B.length/\.fb (jC ks ws k w) B:=by
 unfold putK iP jC;rw[Nb d];by_cases h:k∈ks
 .simp only[h,if_true];show(.en (Nc d) (by simp[d])<|aP.Na r q)
 .simp only[h,if_false];show(.q (vs++[v]) (.kB<|Jp d) (by simp[d]) (aP.app q<|aP.one r))
end
def aP.fld:∀{ns:.a7} {ws:.aT} {vs:.au},.eh->match .nN ws f with
  |none=>.H (.nN vs f)
  |some w=>∃v,.nN vs f=.aO/\.fm w
 |[],_,_,_=>rfl
 |_::_,[],_,r=>.oI
 |a::ns,w::ws,_,⟨v,t,e,r,q⟩=>by
  subst e;rw[nB,nB,C4,C4];cases h:f==a with
  |true=>lk
  |false=>show aP.fld q
theorem aP.at(r:.eh)(h:jb ws i=.eP):∃v,jb vs i=.aO/\.fm w:=by
 unfold jb at h|-;rw[<-r.len];cases e:kT .bp i with
 |none=>lk
 |some j=>rw[e] at h;show r.get h
def kW:Key->W
 |.inl i=>.do
 |.inr x=>.str x
def Fm:eH Key->W
 |.at k=>kW k
 |.tp a=>.am<|a.map kW
def fT(k:TK):W:=.am<|k.map Fm
def x8(r:.fm (kW k)):v=kV k:=by cases k<;>show r
def Nf:∀{ks:.y Key} {vs},.pt (.dk kW)->vs=.dk kV
 |[],_,r=>r
 |k::ks,_,⟨v,t,e,r,q⟩=>by subst e;rw[Nf q,x8 r];rfl
def Fn(s:h7 Hs H)(r:.fm (fT k)):∃q,v=.cI/\iF H q k:=by
 let[p,o,rfl,Z,d,rfl,c]:=r;calc(.I p rfl d (s _ _ .h0) ?_);clear Z;induction k generalizing d with
 |nil=>cases c;show .nil
 |cons a k E=>
  let[v,t,rfl,r,q]:=c;calc .bj ?_ (E _ q);cases a with
  |«at» k=>show x8 r
  |tp l=>let[b,o,rfl,Y,e,rfl,c]:=r;rw[Nf c] at Y;show(.aX b (s _ _<|Y.lst .e1))
section
variable{K:.c2}
def fU(l:.cH e o w)(hi:Is O w (.dP ns ws))(cl:gD X.K C)(N:mK X.K C f)(d:.nN ws f=.aJ)(Y:.iu o f=.d1:=by rfl):.cH e (.o3 o pos) u:=.mk λc H U s Q q=>
 (.D (KL .E Y)<|l c H U s _ (.dU<|by let[p,g,rfl,Z,i,h,rfl,t,a]:=.go I.ok r;let z:=a.fld (f:=f) (ns:=ns);rw[d] at z;let[v,L,b]:=z;show{p,C,i,_,v,rfl,.h0,cl,N,L,q v A P I b}))
def cM(l:.cH a o w)(hi:.qf a O i k)(hw:Is O w .gT)(J:jb ws k=.aJ)(hs:xr i:=by intro _ _;rfl):.cH a (.hL o i) u:=.mk λd H U s Q q=>
 (.D (uJ D2 .E .E hs)<|l d H U s _ (.dU<|hi A P U I.ok _ (.jh<|by let[p,e,rfl,Z,c,rfl,b]:=hw.at rfl S.ok .gf;let[v,L,C]:=b.at J;show{p,c,k,v,rfl,m,.la,L,q v F n .cO C})))
def A_(l:.cH a o (.am ws))(hi:.qf a O i k)(J:jb ws k=.aJ)(hs:xr i:=by intro _ _;rfl):.cH a (.hL o i) u:=.mk λc H U s Q q=>
 (.D (uJ D3 .E .E hs)<|l c H U s _ (.dU<|hi A P U I.ok _ (.jh<|by let[p,e,rfl,Z,d,rfl,b]:=.gf;let[v,L,C]:=b.at J;show{p,d,k,v,rfl,m,c6.of<|S.ok.sub _ _ .h0,L,q v F n .cO C})))
inductive eM(O:OM)(w wk:W):.ey (.aR W)
 |k {ks:.y Key} {ws:.aT} {k:Key} (h:Is O w (.dK ks ws)) (hk:wk=kW k):eM O w wk (dU ks ws k)
 |t {ks:.y TK} {ws:.aT} {k:TK} (h:Is O w (.dT ks ws)) (hk:wk=fT k):eM O w wk (dU ks ws k)
def Ng(Hs:Hp):.aR W->.ey (.aR V)
 |none,v=>.H v
 |some u,v=>∃z,v=.b z/\.k7 u z
theorem eM.get(h:eM O w wk r)(s:.fh)(S:.k7 w x)(f:.k7 wk y):∃a v,x=.T/\n4 H a y v/\Ng Hs r v:=by
 cases h with
 |@k b e k h L=>let[p,o,rfl,Z,g,rfl,d,c]:=h.at rfl s S;subst L;calc(.aW p _ (.z<|.I _ k Z.rd (x8 f) rfl) ?_);let z:=c.val (k:=k) (ks:=b);revert z;cases dU b e k<;>show id
 |@t b e k h L=>let[p,o,rfl,Z,g,rfl,d,c]:=h.at rfl s S;subst L;let[q,rfl,T]:=Fn s.sub f;calc(.aW p _ (.F<|.fD _ k q Z.rd rfl T) ?_);let z:=c.val (k:=k) (ks:=b);revert z;cases dU b e k<;>show id
def jD(R:.jr+2<eE)(l:.cH b o w)(hi:.cH b i wi)(N:eM O w wi .aJ)(hs:uO i:=by intro _ _;rfl):.cH b (.hL o i) u:=.mk λc H U s Q q=>
 (.D (YM R .E .E hs)<|l c H U s _ (.dU<|hi A P U I.ok _ (.jh<|by let[a,v,rfl,B,z,rfl,M]:=N.get S.ok .gf m;show(.aW a z B<|q z F n .cO M))))
def Fo(h:Ng Hs r v):v.isSome=r.isSome:=by
 cases r with
 |none=>cases(h);rfl
 |some u=>let[z,rfl,_]:=h;rfl
def aaQ(R:.jr+2<eE)(hi:.bJ i wi)(l:.bJ o w)(N:eM O w wi r)(G:kC .In o=.j:=by rfl):.iT (.gC i [.In] [o]) r.isSome:=.mk λb H U s Q q=>
 (.D (VI (LB R .E .E) G)<|hi b H U s _ λy A P I g=>l A P U I.ok _ (.t5 (N.get S.ok m .qq) (.aW a v B<|q _ F n .cO (.kB<|Fo z))))
def Ba(R:.jr+2<eE)(hi:.bJ i wi)(l:.bJ o w)(N:eM O w wi r)(G:kC .In o=.j:=by rfl):XT X u O (.gC i [.In] [o]) r.isSome:=.mk λb H U s Q q=>
 (.D (Ah (LB R .E .E) G) .uz)
def pK(R:.jr+2<eE)(hi:.bJ i wi)(l:.bJ o w)(N:eM O w wi r)(G:kC .NotIn o=.j:=by rfl):XT X u O (.gC i [.NotIn] [o]) ! r.isSome:=.mk λb H U s Q q=>
 (.D (Ah (YN R .E .E) G) .uz)
def ak{K}(k:K [] O):XA X u O [] K:=.lQ (.D fY<|q [] [] O a H .fJ rfl k)
def x9{K}(h:.iS X u O e (XA X u O1 es λws O2=>K (w::ws) O2))(hs:.gb e=.eF::.ga:=by rfl):XA X u O (e::es) K:=.mk λa H U s Q q=>
 (.D (fC .E cA.ok hs)<|h a H U s _ λv w O1 A P I r k=>k A P U I.ok _ λb ws O2 F n S m J=>q _ (w::ws) O2 F n .cO (.aW v b .gf m) J)
def ae{K}(h:.de w)(M:XA X u O es λws O2=>K (w::ws) O2)(hs:.gb e=.eF::.ga:=by rfl):XA X u O (e::es) K:=x9 (h.xe M) hs
def vm(h:.oi X u O es (.bh .bp/\K (.am ws) O1)):.ez (.hz es j pos):=.mk λb H U s Q q=>
 (.D (W8 cA.ok)<|h b H U s _ λa ws O1 A P I r k=>(.c (by rw[<-r.len];show .gK k.1) (.dz<|by let S:=I.ok.share (o:=.am a) R;show q _ (.am ws) O1 _ _ .cO (.pc dk .aF<|.aX a .gf) k.2)))
def bY(h:.oi X u O es (.bh .bp/\.jG O1 ws)):.ez (.List es pos):=.mk λa H U s Q q=>
 (.D (W9 cA.ok)<|h a H U s _ λb ws O1 A P I r k=>(.c (by rw[<-r.len];show .gK k.1) (λp R=>
  q _ .aG _ _ _ (I.trans (I.ok.have R .aF<|.l r)) rfl<|k.2 p)))
def mS(k:.n5 O [(p,.dK [] [])]):.ez (.Dict [] [] pos):=.lQ (.D YS<|.dz (q _ .aG _ _ _ (.op R<|fc.k (ws:=[]) rfl rfl) rfl<|k p))
def vn(k:.n5 O [(p,.dT [] [])]):.ez (.Dict [] [] pos):=.lQ (.D YT<|.dz (q _ .aG _ _ _ (.op R<|fc.t (ws:=[]) rfl rfl) rfl<|k p))
def jE{N:Type}(F:.aS)(lo hi:.ir):=.vr
def aP.cut{lo hi}(r:.eh):.fb (jE ws lo hi) (nX vs lo hi):=by unfold jE nX;rw[<-r.len];show .aC (r.drop _) _
def XO(X:Cx)(u:Gm)(O:OM):.aR bZ->.ey .ir
 |none,none=>True
 |some e,some i=>.bv e i
 |_,_=>False
def cO(X:Cx)(e:.aR bZ):TO:=.br<|∃t,PO X e t/\t U H Q
def cO.ok{e}:PO X e (cO X e):=.rA<|h a s U H Q I q
def XO.use{e}{i}(h:XO X u O e i)(s:.fh)(q:∀j H',bB U u Hs H O j H' O->Q i H'):cO X e U H Q:=by
 cases e with
 |none=>cases i with
  |none=>show(.D Xx<|q Hs H .fJ)
  |some i=>show h.elim
 |some e=>cases i with
  |none=>show h.elim
  |some i=>show(.D (Xy .E)<|(show .de _ from h) Hs H U s _ (.oV (.g i r<|q A P I)))
def Bb{lo hi}(he:.de w)(hw:Is O w .gT)(d:XO X u O lo l)(V:XO X u O hi h)(k:.jG O (jE ws l h)):.yV:=.mk λb H U s Q q=>
 (.D (DZ K8 .E cO.ok cO.ok)<|he b H U s _ (.dU<|d.use I.ok λF n S=>V.use S.ok λa E M=>by let[p,g,rfl,Z,c,rfl,f]:=hw.at rfl M.ok ((.gf).le M.ext.le);show(.aW p c .la<|.dz (q _ .aG _ _ _ (.aA (.fZ M) (M.ok.have R .aF<|.l f.cut)) rfl<|k p))))
def Fp{lo hi}(he:.de (.am ws))(d:XO X u O lo l)(V:XO X u O hi h):.bJ (.hL e<|.p0 lo hi p2) (.am<|jE ws l h):=.mk λi H U s Q q=>
 (.D (DZ (aau rfl) .E cO.ok cO.ok)<|he i H U s _ (.dU (d.use I.ok λF n S=>V.use S.ok λf E M=>by
  let[p,k,rfl,Z,a,rfl,b]:=((.gf).le M.ext.le);let g:=.fZ M;calc(.aW p a (c6.of<|M.ok.sub _ _ .h0) λt j z=>?_);let[rfl,rfl,z]|||[R,rfl]:=z
  .show q _ _ _ g {t,_,rfl,Z,_,rfl,.jP<|b.cut (lo:=l) (hi:=h)}
  .let c:=M.ok.share (o:=.am<|nX a l h) R;show q _ _ _ (g.trans c) (.pc dk .aF (.bZ<|b.cut.le c.ext.le)))))
def oh(J:.bJ a wa)(Y:.bJ b wb)(f:Is O wa (.Z vs))(h:Is O wb .gT)(d:.bD+.bp<=bh)(k:.jG O (vs++ws)):.ez (.jq a .Add b):=
 vj Lf J Y λi H U x y Q s g m q=>by let[p,_,rfl,L,F,rfl,M]:=f.at rfl s g;let[c,_,rfl,C,e,rfl,B]:=h.at rfl s m;show{p,c,F,e,rfl,rfl,L.lst .e1,C.lst .e1,by rw[<-M.len,<-B.len];show d,.dz (q _ .aG _ _ _ (.op R (.l<|M.app B)) rfl<|k p)}
def aaR{n:Nat}(J:.bJ a wa)(Y:.bv b n)(B:Is O wa (.Z vs))(d:.bD*n<=bh)(t:n<=bh)(k:.jG O (.nZ n vs)):.ez (.jq a .Mult b):=
 vj X9 J Y λc H U x y Q s g m q=>by
  let[p,_,rfl,L,F,rfl,M]:=B.at rfl s g;let I:bh=16777216:=.V
  calc{p,n,F,rfl,m,L.lst .e1,.a,.a,by rw[<-M.len];lk,.dz (q _ .aG _ _ _ (.op R<|.l ?_) rfl<|k p)};simp only[rP];clear k d Y t m;induction n with
  |zero=>show rfl
  |succ n E=>show M.app E
end
abbrev bT:=.aT->OM->.ey .c2
def lift(T:bT):Sp:=λe H Q _=>∃b d O K,h7 b H/\j7 b H O/\aP b d e/\T d O K/\
 ∀v w c j a,Ext b H O j a c->h7 j a->j7 j a c->Rep j w v->K w c->Q v a
theorem aZ.call{Hs H j H'}{O2 t f}(s:.nF U g (O2++t))(x:Ext Hs H O2 j H' f)(k:h7 j H')(L:j7 j H' f):bB U g Hs H (O2++t) j H' (f++t):=by
 let N:=s.own.1;rw[ks,bo,jU] at N;let d:∀p c,(p,c)∈t->p∉ks O2:=λp c m z=>N.2.2 p z p (aH.mpr<|.cx m) rfl;let y:∀b,b∈ks (O2++t)↔b∈ks O2\/b∈ks t:=.bw .f
 refine(.c (.q x.le (λb o h n=>x.keep b o h (.s<|n ((y b).mpr<|.z z))) (λb h i=>?_)<|.hx ?_) (.g k (.c ?_ λp c m=>?_)<|n_.le x.le s.env))
 .rcases x.new b h i with z|z|z
  .lk
  .lk
  lk
 .rw[ks,bo,cx] at h;let h|||h:=h
  .let z|||z:=x.own b h
   .lk
   lk
  lk
 .rw[ks,bo,jU];calc(.g L.1 N.2.1 λa J b Y z=>?_);subst z;let[[_,c],m,rfl]:=.Y Y;let z|||z:=x.own _ J
  .lk
  .let[_,o,h,_]:=s.own.2 _ _ (gT _ m);lk
 .let m|||m:=.c7 m
  .show L.2 p c m
  .let[B,o,M,A,P]:=s.own.2 p c (gT _ m);calc(.I ?_ o ((x.keep p o M<|d p c m).is λq z=>by subst z;show A) A<|P.le x.le);cases e:j p with
   |none=>rfl
   |some u=>
    rcases x.new p .d B with z|z|⟨F,z⟩
    .lk
    .lk
    .rw[M] at z;cases z;show A.elim
def j7.left(h:j7 Hs H (O2++t)):j7 Hs H O2:=by let N:=h.1;rw[ks,bo,jU] at N;show(.c N.1 (λp c m=>h.2 p c<|qd _ m))
section
variable{K:.c2}
def oi(T:bT)(K:.c2)(ws:.aT)(O1:OM):=∃a t,O1=a++t/\T ws a λw b=>K w (b++t)
def oi.all{ws}{O1}(h:T ws O1 K):oi T K ws O1:=(.q O1 [] .f<|by simpa using h)
def oi.none(h:T ws [] λw O'=>K w (O'++O1)):oi T K ws O1:=(.ct [] O1 h)
theorem oi.go(h:oi T K ws O1)(s:.nF U u O1)(r:.eh)(q:∀v w O' j H',bB U u Hs H O1 j H' O'->Rep j w v->K w O'->Q v H'):lift T vs H Q E:=by let[a,t,rfl,h]:=h;show{Hs,ws,a,_,s.sub,s.own.left,r,h,λv w O' j H' x M L m k=>q v w _ j H' (s.call x M L) m k}
def c_(c:bq .ar X.w X.K X.mg .dj x G (.L T) k)(Z:.fV)(J:XA X u O (e::es) (oi T K))(a:.fj:=by rfl) (d:(.ko x)=.j:=by decide) (he:.gb e=.eF::.ga:=by rfl) (g:.hS=.j:=by rfl):.i5 x (e::es):=.mk λi H U s Q q=>
 (.D (aak c Z cA.ok a d he g)<|J i H U s _ λo n l A P I r h=>by rw[eS];show h.go I.ok r λv w f j b S m k=>q v w f j b .cO m k)
def aaS(c:bq .ar X.w X.K X.mg .dj x [] (.L T) k)(Z:.fV)(J:oi T K [] O)(S:.fj:=by rfl) (d:(.iF x)=.j:=by decide):.i5 x []:=.mk λa H U s Q q=>
 (.D (aax c Z S d)<|J.go (E:=E0) s rfl q)
def dM(c:c7 .ar X.w X.K X.mg .dj C m ps (.L T) k)(cl:gD X.K C)(Z:.fV)(l:.bJ o w)(hi:Is O w (.dP ns Y))(G:.H (.nN Y m))(J:.oi X u O (e::es) (oi T K (w::ws) O1))
  (N:.gb e=.eF::.ga:=by rfl) (g:.hS=.j:=by rfl)
  (B:.mv m j (e::es) pos=(do
   let p<-.d1
   .mX
   let(f,b)<-gw [p] (oW p m pl)
   .wG):=by rfl):.ez (.jA m j (e::es) pos):=.mk λx H U s Q q=>
 (.D (aaE c cl Z .E cA.ok N g B)<|l x H U s _ (.q1<|by let[a,ob,rfl,D,i,vs,rfl,t,E]:=.go I.ok r;let z:=E.fld (f:=m) (ns:=ns);rw[G] at z;calc(.fK a i rfl (D.lst .e1) z<|J A P U I.ok _ λvs ws O1 F n S V h=>?_);rw[eS];show h.go S.ok (.aW _ _ .gf V) λv w L d H' M R k=>q v w L d H' (.fZ M) R k))
def Bd(c:c7 .ar X.w X.K X.mg .dj C m N (.L T) k)(cl:gD X.K C)(Z:.fV)(l:.bJ o w)(hi:Is O w (.dP ns Y))(G:.H (.nN Y m))(J:oi T K [w] O)
  (B:.mv m j [] pos=(do
   let e<-.d1
   .mX
   let(f,b)<-gw [e] (oW e m F)
   .td):=by rfl):.ez (.jA m j [] pos):=.mk λh H U s Q q=>
 (.D (aaF c cl Z .E B)<|l h H U s _ (.q1<|by let[a,x,rfl,D,i,L,rfl,t,p]:=.go I.ok r;let z:=p.fld (f:=m) (ns:=ns);rw[G] at z;show(.fK a i rfl (D.lst .e1) z<|J.go (E:=E0) I.ok (.aW _ _ r rfl) λv w n d g M R k=>q v w n d g (I.trans M) R k)))
def Be(C:af)(T:bT)(K:.c2)(ws:.aT)(O1:OM):=∃a t,O1=a++t/\∀x,T (.p x::ws) (a++[(.eD x C [] [])]) λw b=>w=.non/\K (.p x) (b++t)
def aZ.perm(s:.fh)(h:O.Perm O'):bB U u Hs H O Hs H O':=
 (.c (.q .er (λ_ _ h _=>.ex) (λb h a=>.aa a h)<|.a4 (.z<|(h.map _).mem_iff.mpr Y))<|.g s.sub (.c ((h.map _).nodup_iff.mp s.own.1) (λp c m=>s.own.2 p c<|h.mem_iff.mpr m)) s.env)
theorem Be.go{Q:VK}(h:Be C T K ws O1)(s:.nF U d O1)(r:.eh)(q:∀v w O' j H',bB U d Hs H O1 j H' O'->Rep j w v->K w O'->Q v H'){x i}(D:.bI x)(N:.bI i)(g:i≠x):
  lift T (.p x::vs) .y7 (λv n=>v=.non/\.eY x n) E:=by
 let[f,t,rfl,h]:=h;let a:bB U d Hs H _ Hs (.a8 i<|.own x) _:=(.c (.q .er (λb u h _=>.z<|k5 N b u h) (λb h y=>.aa y h)<|.hx .ex) .uj);let S:=a.ok.have (o:=.dP i []) (c:=.dP [] []) (by rw[aY<|i6 g];show D) .aF (fc.i rfl rfl);let A:((f++t)++[(x,W.ins C [] [])]).Perm ((f++[(x,W.ins C [] [])])++t):=by simp[qp]
 let M:=S.ok.perm A;calc{Hs,.p x::ws,_,_,M.ok.sub,M.ok.own.left,(.d6 _ rfl r),h x,λv w O' j H' e l L z k=>?_};let[rfl,k]:=k;show(.c z<|q _ (.p x) _ _ _ (.aA (.aA (a.trans S) M)<|M.ok.call e l L) rfl k)
def vo(c:.xf)(Z:.k8 (k+1))(J:XA X u O (e::es) (Be C T K))(a:.fj:=by rfl) (d:(.ko x)=.j:=by decide) (he:.gb e=.eF::.ga:=by rfl) (g:.hS=.j:=by rfl):.i5 x (e::es):=.mk λn H f s Q q=>
 (.D (aaG c Z cA.ok a d he g)<|J n H f s _ λy t o A P I r h x i D N U=>by rw[eS];show h.go I.ok r (λv w l j b S m k=>q v w l j b .cO m k) D N U)
def aaT(c:.xf)(Z:.k8 (k+1))(J:Be C T K [] O)(S:.fj:=by rfl) (d:(.iF x)=.j:=by decide):.i5 x []:=.mk λb H a s Q q=>
 (.D (aaH c Z S d) λx i D N U=>J.go s rfl q D N U)
def jf(G:.gI x [e] (mM r<|kR (cE X e) g4))(he:.de w)(h:∀Hs H U v Q,.fh->.fm w->.sO->r [v] H Q):.i5 x [e]:=.mk λHs H U s Q q=>
 (.D G<|he Hs H U s _ (.oV<|h A P U v Q I.ok r λv w O' j H' S m k=>q v w O' j H' .cO m k))
end
structure Dn where
 nx:Gm->.fq
 rt:.c2
 bk:Gm->.fq:=.hE
 ct:Gm->.fq:=.hE
structure Acc(Hs H:Hp)(O:OM)(D:Dn)(E:Ends):Prop where
 nx:∀σ' Γ' O' cU H',Ext Hs H O cU H' O'->aZ cU H' σ' Γ' O'->D.nx Γ' O'->E.nx σ' H'
 rt:∀v w O' cU H',Ext Hs H O cU H' O'->h7 cU H'->j7 cU H' O'->Rep cU w v->D.rt w O'->E.rt v H'
 bk:∀σ' Γ' O' cU H',Ext Hs H O cU H' O'->aZ cU H' σ' Γ' O'->D.bk Γ' O'->E.bk σ' H'
 ct:∀σ' Γ' O' cU H',Ext Hs H O cU H' O'->aZ cU H' σ' Γ' O'->D.ct Γ' O'->E.ct σ' H'
structure ar(X:Cx)(Γ:Gm)(O:OM)(st:.y gu)(D:Dn):Prop where
 go:.wc
instance{X:Cx}{Γ:Gm}{O:OM}{st:.y gu}{D:Dn}:CoeFun (.gt Γ O st) (.P .wc):=#[ar.go]
def Acc.ext(a:Acc Hs H O D E)(x:Ext Hs H O A P O1):Acc A P O1 D E:=
 (.q (λ_ _ _ _ _ y=>a.nx _ _ _ _ _<|x.trans y) (λ_ _ _ _ _ y=>a.rt _ _ _ _ _<|x.trans y) (λ_ _ _ _ _ y=>a.bk _ _ _ _ _<|x.trans y) (λ_ _ _ _ _ y=>a.ct _ _ _ _ _<|x.trans y))
def Fg:Gm->Gm->Prop
 |[],m=>m=[]
 |a::l,m=>∃b r,m=b::r/\(b=a\/.H b)/\Fg l r
def Fg.env:∀{u o} {U:L2.St},Fg u o->eU (k6 Hs) u U->eU (k6 Hs) o U
 |[],_,_,h,r=>by cases h;show r
 |_::_,_,_,⟨b,m,e,z,h⟩,.cons r t=>by
  subst e;calc .bj ?_ (Fg.env h t);let rfl|||rfl:=z
  .show r
  .trivial
def Nh:∀{u:Gm} {U:L2.St} i {w} {v},eU (k6 Hs) u U->.fm w->eU (k6 Hs) (u.set i .eP) (U.set i .aO)
 |_,_,_,_,_,.nil,_=>.nil
 |_,_,0,_,_,.cons _ t,r=>.bj r t
 |_,_,i+1,_,_,.cons q t,r=>.bj q<|Nh i t r
def aZ.set(s:.fh) i(r:.fm w):.rg (U.set i .aO) (u.set i .eP):=(.g s.sub s.own<|Nh i s.env r)
section
variable{K:.c2}{pos p apos gG:Pos}{st:gu}
def ar.fg(h:Fg u o)(k:.dE o O):.dE u O:=.mk λa H U E s b=>k a H U E (.g s.sub s.own<|h.env s.env) b
def ar.perm(h:O.Perm O')(k:.jH u):.dE u O:=.mk λa H U E s b=>let I:=s.perm h;k a H U E I.ok .o2
def ar.drop(k:.dE u O1):.dE u (O1++O2):=.mk λd H U E s c=>by calc k d H U E (.g s.sub s.own.left s.env) (c.ext<|.q .er (λ_ _ h _=>.ex) (λb h a=>.aa a h) (.a4<|.z ?_));lk
def ar.aB{c}(S:u[j]?=.b .b3)(k:.dE (u.set j .cA) (O1++O2)):.dE u (O1++(q,c)::O2):=.mk λg H U E s b=>by
 let[a,I,r]:=s.freeze;let[v,B,M]:=sP s.env S;cases(M);have:=I.ok.set j r;let d:U.set j .b3=U:=by let[f,e]:=.bd B;rw[<-e];simp
 rw[d] at this;show k a H U E this .o2
def aD(h:D.nx u O):.gt u O []:=.mk λa H U E s G=>(.D V5<|G.nx U u O a H (Ext.refl _ _ _) s h)
def j9(c:PS X st t)(h:∀Hs H U E,.fh->.z8->t E U H):.gt u O (st::G):=.mk λHs H U E s a=>
 (.D (sh c fE.ok)<|h Hs H U {E with nx:=_} s .vn)
def au(F:X.N.Nodup)(h:.iS X u O e (.dE (u.set j .eP) O1))(hi:.d5 j=.bt:=by rfl) (c:.gR x:=by first|exact .iz|exact i8 rfl) (hs:lE e (.b<|.bz x t) .mi .X=.aL .j:=by rfl) (J:.f2 x\/.d7 x=.cP:=by first|exact .w|exact .cY):=
 j9 (Wc F hi c .E hs J) λb H U E s a=>h b H U s _ λv w O1 A P I r k=>a.nx _ _ _ _ _ I.ext (I.ok.set j r) k
def aF(h:.kS e D.rt):.gt u O (.Return (.b e) pos::G):=
 j9 (V9 .E) λb H U E s a=>h b H U s _ λv w c A P I r k=>a.rt _ _ _ _ _ I.ext I.ok.sub I.ok.own r k
def b_(h:.kS e λ_ O1=>.dE u O1)(hs:.y6:=by rfl):=
 j9 (V7 .E hs) λb H U E s a=>h b H U s _ λv w O1 A P I r k=>a.nx _ _ _ _ _ I.ext I.ok k
def mT(V:XT X u O c k)(J:.xe) (Y:k=.j->.kJ u O a (.ph<|.jH o)):.gt u O (.If c g a pos::G):=
 j9 (Kh cT.ok fE.ok fE.ok) λd H U E s b=>V d H U s _ λA P I=>by
  cases k with
  |true=>show kX (J rfl A P U E I.ok .o2)
  |false=>show kU (Y rfl A P U E I.ok .o2)
def be(V:XT X u O c k)(J:.xe) (Y:k=.j->.dE u O):.gt u O (.If c g [] pos::G):=mT V J (.s (aD<|Y z))
def vp(l:uC X op (Al g))(F:X.N.Nodup)(S:u[j]?=.b (.gG m))(he:.bv e n)(k:.dE (u.set j (.gG<|g m n)) O)(hi:.d5 j=.bt:=by rfl) (c:.gR x:=by first|exact .iz|exact i8 rfl) (J:.f2 x\/.d7 x=.cP:=by first|exact .w|exact .cY):.gt u O (.AugAssign (.bz x t) op e pos::G):=
 j9 (Kl F hi c .E l J) λb H U E s a=>.rJ s.env S (.g v B<|he b H U s _ (.q1 (.I m n M r<|a.nx _ _ _ _ _ I.ext (I.ok.set j (w:=.u _) rfl) k)))
inductive bR(p:af)(c d:W):OM->.fq
 |here {O:OM}:bR p c d ((p,c)::O) ((p,d)::O)
 |there {x:af×W} {O O':OM} (h:bR p c d O O'):bR p c d (x::O) (x::O')
def bR.split{p}{c d}(h:bR p c d O O'):∃O1 O2,O=O1++(p,c)::O2/\O'=O1++(p,d)::O2:=by
 induction h with
 |here=>show(.fG [] _)
 |there _ E=>lk
def bR.mem{p}{c d}(h:bR p c d O O'):(p,c)∈O:=by let[b,a,rfl,_]:=h.split;simp
def bR.write{p}{c d}(h:bR p c d O O')(s:.fh)(G:jx (.b ob))(N:fc Hs d ob):bB U u Hs H O Hs (.a8 p ob) O':=by let[a,b,rfl,rfl]:=h.split;show s.write G N
def aZ.box{p}{c}(s:.fh)(h:(p,c)∈O):∃ob,H p=.b ob/\fc Hs c ob:=let⟨_,ob,B,_,M⟩:=s.own.2 p c h;(.g ob B M)
def fG(l:.bJ o .cI)(T:(.dy q oj)∈O)(he:.iS X u O e (∃ws O2,bR q .gT (.eK ws [w]) O1 O2/\.bp<bh/\K .non O2))(hs:.b4=.b5:=by rfl) (Y:.iu o "append"=.d1:=by rfl)
  (E:.e2 .ts .os:=by rfl) (d:.qR gG.line:=by rfl):.ez (.jA "append" apos [e] gG):=.mk λb H U s Q q=>
 (.D (MV .E .E hs Y E d)<|l b H U s _ (.dU<|by cases(r);let[_,L,h,rfl,_]:=I.ok.box T;calc .uW;let[ws,O2,V,c,k]:=z;let[_,C,f,rfl,a]:=.pO;show{_,f,v,rfl,rfl,C,by rw[<-a.len];show c,q _ .non O2 _ _ (.fZ (V.write S.ok .aF<|.l (a.app<|.one m))) rfl k}))
def qO(l:.bJ o .cI)(T:(.dy q oj)∈O)(he:.iS X u O e (∃ws zs O2,Is O1 w (.Z zs)/\bR q .gT (.eK ws zs) O1 O2/\.bp+zs.length<=bh/\K .non O2))(hs:.b4=.b5:=by rfl) (Y:.iu o "extend"=.d1:=by rfl)
  (E:.e2 .ts .os:=by rfl) (d:.qR gG.line:=by rfl):.ez (.jA "extend" apos [e] gG):=.mk λg H U s Q q=>
 (.D (aao .E .E hs Y E d)<|l g H U s _ (.dU<|by cases(r);let[_,L,h,rfl,_]:=I.ok.box T;calc .uW;let[ws,zs,O2,i,V,j,k]:=z;let[_,C,t,rfl,a]:=.pO;let[b,_,rfl,f,c,rfl,R]:=i.at rfl S.ok m;show{_,b,t,c,rfl,rfl,C,f.lst .e1,by rw[<-a.len,<-R.len];show j,q _ .non O2 _ _ .x2 rfl k}))
def aaU{ws}{O2}(l:.cH e o .cI)(R:bR q (.eK ws [u]) .gT O O2)(k:K u O2)(Y:.iu o "pop"=.d1:=by rfl) (d:.qR gG.line:=by rfl):.oe e (.jA "pop" apos [] gG) K:=.mk λg H U s Q q=>
 (.D (aay .E Y d)<|l g H U s _ (.dU<|by
  cases(show x=.p _ from r);let[_,L,a,rfl,b]:=I.ok.box R.mem;let c:=b.len;let[v,C,m]:=b.get (i:=.bp) (w:=u) .f;let f:.bE-1=.bp:=.d
  calc{.z (.g rfl a<|bf.of L),_,a,v,rfl,rfl,L,.d,q _ u O2 _ _ (I.trans (R.write I.ok .aF<|.l ?_)) m k};have:=b.take .bp;rw[zx,show a.take .bp=a.dropLast by rw[List.dropLast_eq_take,f]] at this;show this))
def qP(h:.iS X u O e (.ks u O1 o .cI/\.rf O1 i n/\∃ws O2,bR q .gT (.Z<|ws.set j w) O1 O2/\kT .bp n=.b j/\.dE u O2))
  (J:∀v,rM (.fs o i t) .X v=(do
   let T<-gw [v] .d1
   let Y<-gw [v,T] (.fn i)
   mz t
   gw [v,T,Y] (ze T Y v)
   IF [v,T,Y] []):=by intro _;rfl)
  (hs:swapsWithSole [.fs o i t] e .mi .X=.aL .j:=by rfl) (hw:swappedStores [.fs o i t] e .X=.aL none:=by rfl) (B:.ho (wu [.fs o i t] .X)=[rM (.fs o i t) .X]:=by rfl):=
 j9 (Wb .E (Wa .E .E set_list J) hs hw B) λc H U E s f=>h c H U s _ (.nD<|by let[l,d,ws,O2,V,b,k]:=z;calc l A P U I.ok _ λx F N S m=>d F N U S.ok _ λy Z Q M R=>?_;cases(m);let[_,L,C,rfl,a]:=M.ok.box V.mem;let g:=V.write M.ok (ob:=.Z _) .aF (.l (a.set j<|(.gf).le M.ext.le));show{_,C,n,j,rfl,R,L,by rw[<-a.len];show b,.xc})
def Ni{j:Nat}(a:uC X op (Al g))(l:.bJ o .cI)(hi:.bv i j)(he:.bv e n)(hw:ws[j]?=.gG m)(V:bR q .gT (.Z<|ws.set j (.u<|g m n)) O O2)(k:.dE u O2)
  (J:.uV:=by intros;rfl):.gt u O (.AugAssign (.fs o i t) op e pos::G):=
 j9 (Wg .E .E aaA .E a set_list J) λQ H U E s ac=>l Q H U s _ (.dU<|hi A P U I.ok _ λy F H2 S d=>by
  cases(r);let[_,L,vs,rfl,N]:=.pO;let[v,C,R]:=N.get hw;calc{_,vs,j,v,rfl,d,bf.of L,C,he F H2 U S.ok _ λz Z H3 M r4=>(.I m n R r4 ?_)};let[_,f,B,rfl,h]:=M.ok.box V.mem;let b:=V.write M.ok (ob:=.Z<|_) .aF (.l<|h.set j (w:=.u _) rfl);let hj:j<B.length:=by rw[<-h.len];lk
  show{_,B,j,j,rfl,d,f,by unfold kT;lk,ac.nx _ _ _ _ _ ((.aA (.fZ M) b).ext) b.ok k})
inductive iQ(q:af)(wk w:W):OM->.fq
 |k {ks:.y Key} {ws:.aT} {k:Key} {O O2:OM} (hk:wk=kW k) (hz:.gF<bh) (h:bR q (.dK ks ws) (.dK (iP ks k)<|jC ks ws k w) O O2):iQ q wk w O O2
 |t {ks:.y TK} {ws:.aT} {k:TK} {O O2:OM} (hk:wk=fT k) (hz:.gF<bh) (h:bR q (.dT ks ws) (.dT (iP ks k)<|jC ks ws k w) O O2):iQ q wk w O O2
theorem iQ.go(h:iQ q wk w O O2)(s:.fh)(Z:.k7 wk y)(e:.fm w):∃H',El H q y v H'/\bB U u Hs H O Hs H' O2:=by
 cases h with
 |@k g f k _ _ a j h=>let[_,L,i,rfl,d,c]:=s.box h.mem;let[B,C,Q,m]:=c.put (k:=k) d e;subst a;calc(.D (.z<|.gE _ k L (x8 Z) .d) ?_);rw[C];show h.write s .aF (.k Q m)
 |@t g f k _ _ a j h=>let[_,L,i,rfl,d,c]:=s.box h.mem;let[B,C,Q,m]:=c.put (k:=k) d e;subst a;let[b,rfl,T]:=Fn s.sub Z;calc(.D (.F {_,k,b,L,rfl,T,.d,rfl}) ?_);rw[C];show h.write s .aF (.t Q m)
def iR(R:.jr+2<eE)(h:.iS X u O e (.ks u O1 o .cI/\∃wk O2,.ks u O1 i wk/\iQ q wk w O1 O2/\.dE u O2))(hs:lE e (.b<|.fs o i t) .mi .X=.aL .j:=by rfl):=
 j9 (YO R .E .E .E hs) λc H U E s f=>h c H U s _ (.nD<|by let[l,wk,O2,a,d,k]:=z;calc l A P U I.ok _ λx F n S m=>a F n U S.ok _ λy Z C M j=>?_;cases(m);let[b,B,g]:=d.go M.ok j ((.gf).le M.ext.le);show(.aW _ b B .xc))
inductive sR(f:Str)(w:W):.a7->.aT->.a7->.ey .aT
 |nil:sR f w [] [] [f] [w]
 |here {ns:.a7} {u:W} {ws:.aT}:sR f w (f::ns) (u::ws) (f::ns) (w::ws)
 |there {g:Str} {ns Nj:.a7} {u:W} {ws Nk:.aT} (ne:g≠f) (h:sR f w ns ws Nj Nk):sR f w (g::ns) (u::ws) (g::Nj) (u::Nk)
def sR.aaV{f}(h:sR f w ns ws j b)(r:.fm w):∀{vs},.eh->.fA=.bD->∃B,kQ f v (ns.zip vs)=j.zip B/\.cS=B.length/\.fb b B:=by
 induction h with
 |nil=>intro vs q _;show(.ct [v] rfl<|.one r)
 |@here ns u ws=>intro vs [x,t,rfl,_,q] d;calc{v::t,?_,d,_,_,rfl,r,q};change(.A (f=f) _ _)=_;rw[.gO];rfl
 |@there g ns j u ws b U h E=>intro vs [x,t,rfl,D,q] d;let[B,L,C,a]:=E q .d;calc{x::B,?_,by simp[C],_,_,rfl,D,a};change(.A (g=f) _ _)=_;rw[.x U];show .dN _ L
def d_{f}(cl:gD X.K C)(N:mK X.K C f)(h:.iS X u O e (.ks u O1 o .cI/\∃ns ws j b O2,bR q (.dP ns ws) (.dP j b) O1 O2/\sR f w ns ws j b/\.fA<1000/\.dE u O2))(hs:lE e (.b<|.o3 o t) .mi .X=.aL .j:=by rfl):=
 j9 (W3 .E .E hs) λc H U E s y=>h c H U s _ (.nD<|by let[l,ns,ws,j,b,O2,V,a,Y,k]:=z;calc l A P U I.ok _ λx F n S m=>?_;cases(m);let[_,L,i,T,rfl,d,J]:=.pO;let[B,M,Q,R]:=a.aaV .gf J d;let g:=V.write S.ok (ob:=.dP i _) .aF (.i Q R);calc{_,C,i,_,rfl,L,cl,N,.d,?_};rw[M];show y.nx _ _ _ _ _ ((.fZ g).ext) g.ok k)
end
def cI(X:Cx)(c C:bZ):TI:=.my<|∃t,PI X c C t/\t U H R
def cI.ok:PI X c C (cI X c C):=λa s U H R I {_,h,q}=>h a s U H R I q
def cG(X:Cx)(c:bZ):TG:=λv U H Q=>∃t,PG X c t/\t v U H Q
def cG.ok:PG X c (cG X c):=λa s U H v u Q I r {_,h,q}=>h a s U H v u Q I r q
def jF(J:It)(ws:.aT)(Hs H:Hp)(O:OM):=∀U u a F n,Ext Hs H O F n a->aZ F n U u a->
 (∀i w,ws[i]?=.eP->J.go i n/\∀x b,J.qy i n x b->∃j,bB U u F n a j b a/\Rep j w x)/\J.stop .bp n
structure XI(X:Cx)(Γ:Gm)(O:OM)(tg it:bZ)(K:.aT->.fq):Prop where
 go:.uk
instance{X:Cx}{Γ:Gm}{O:OM}{tg it:bZ}{K:.aT->.fq}:CoeFun (XI X Γ O tg it K) (.P .uk):=#[XI.go]
def Ag(a:.h)(U C:L2.St):=C.length=U.length/\∀i,i∉a->C[i]?=U[i]?
def Ag.set(h:Ag a U C)(I:j∈a):Ag a U (C.set j v):=(.c (by rw[IW];show h.1) (λi b=>.jR (ID (.s<|b .d))<|h.2 i b))
theorem Ag.refl a U:Ag a U U:=(.aY λ_ _=>rfl)
structure XG(X:Cx)(Γ:Gm)(tg:bZ)(w:W)(Γ':Gm)(js:.h):Prop where
 go:.uy
instance{X:Cx}{Γ:Gm}{tg:bZ}{w:W}{Γ':Gm}{js:.h}:CoeFun (XG X Γ tg w Γ' js) (.P .uy):=#[XG.go]
section
variable{K:.aT->.fq}
def br(F:X.N.Nodup)(hi:.d5 j=.bt:=by rfl) (D:.gR x:=by first|exact .iz|exact i8 rfl) (J:.f2 x\/.d7 x=.cP:=by first|exact .w|exact .cY):XG X u (.bz x pos) w (u.set j .eP) [j]:=.mk λa H U O v s r Q q=>
 (.D (uD F hi D J) (q _ (s.set j r)<|(Ag.refl _ _).set .f))
def fe(F:X.N.Nodup)(V:.bP:=by rfl) (hi:.d5 j=.bt:=by rfl) (D:.gR x:=by first|exact .iz|exact i8 rfl) (J:.f2 x\/.d7 x=.cP:=by first|exact .w|exact .cY)
  (I:.d5 l=.eO:=by rfl) (T:.gR y:=by first|exact .iz|exact i8 rfl) (S:.f2 y\/.d7 y=.cP:=by first|exact .w|exact .cY):XG X u .x7 (.fx wa wb) .Aa [j,l]:=.mk λc H U O v s r Q q=>by let[p,_,rfl,Z,a,rfl,w,_,rfl,g,b,_,rfl,m,rfl]:=r;show{_,aaC F rfl V hi D J I T S,p,_,rfl,c6.of<|.gq _ .h0,rfl,_,_,rfl,_,_,rfl,rfl,q _ ((s.set j g).set l m) .z9}
def aaW{j l m k}(F:X.N.Nodup)(d:.bP:=by rfl) (hi:.d5 j=.bt:=by rfl) (D:.gR x:=by first|exact .iz|exact i8 rfl) (J:.f2 x\/.d7 x=.cP:=by first|exact .w|exact .cY)
  (I:.d5 l=.eO:=by rfl) (T:.gR y:=by first|exact .iz|exact i8 rfl) (S:.f2 y\/.d7 y=.cP:=by first|exact .w|exact .cY)
  (G:.d5 m=.b z:=by rfl) (hz:.gR z:=by first|exact .iz|exact i8 rfl) (V:.f2 z\/.d7 z=.cP:=by first|exact .w|exact .cY):XG X u (.hz [.bz x p1,.bz y p2,.bz z f] k pos) (.am [wa,wb,wi]) ((.Aa).set m<|.b wi) [j,l,m]:=.mk λh H U O v s r Q q=>by let[p,_,rfl,Z,e,rfl,w,_,rfl,g,b,_,rfl,c,a,_,rfl,R,rfl]:=r;show{_,aaD F rfl d hi D J I T S G hz V,p,_,rfl,c6.of<|.gq _ .h0,rfl,_,_,rfl,_,_,rfl,_,_,rfl,rfl,q _ (((s.set j g).set l c).set m R)<|(.z9).set .f}
def jF.plain(g:∀i w F n o j,ws[i]?=.eP->Ext Hs H o F n j->h7 F n->J.go i n/\∀x H',J.qy i n x H'->H'=n/\Rep F w x)(N:∀F n o j,Ext Hs H o F n j->h7 F n->J.stop .bp n):jF J ws Hs H O:=λU u a F n x s=>
 (.c (λi w h=>let⟨B,M⟩:=g i w F n O a h x s.sub;(.c B λy H' z=>by let[rfl,r]:=M y H' z;show(.g F .fJ r)))<|N F n O a x s.sub)
def bP(h:.iS X u O e (∃ws,w=.gT/\K ws O1)):XI X u O c e K:=.mk λd H U s R q=>
 (.D (Wp .E)<|h d H U s _ (.nD<|by let[ws,rfl,k]:=z;let[p,_,rfl,Z,a,rfl,b]:=r;let f:.tr:=.tq;calc(.dB p (.c a (bf.of<|I.ok.sub _ _ .h0)) .ux);let[v,L,C]:=b.get g;show .y5))
def Bf(h:.iS X u O e (∃ws,w=.am ws/\K ws O1)):XI X u O c e K:=.mk λd H U s R q=>
 (.D (Wq .E)<|h d H U s _ (.nD<|by let[ws,rfl,k]:=z;let[p,_,rfl,Z,a,rfl,b]:=r;let f:.ua (Ext A P o F n j->h7 F n->c6 X.K n p a):=λx M=>c6.of (M _ _<|(x.le _ _ Z).lst .e1);calc(.dB p (.c a (c6.of<|I.ok.sub _ _ .h0)) .ux);let[v,L,C]:=b.get g;show .y5))
def cq(m n:Nat):.aT:=(anH m n).map λ(k:Nat)=>.u k
def iS(h:(cq m n)[k]?=.eP):k<n/\w=.u (m+k:Nat):=by unfold cq at h;lk
def Nl{lo:Int}{m n:Nat}(d:lo=m):jF (xl lo n) (cq m n) Hs H O:=jF.plain (λi w F b o j a x M=>by let[B,rfl]:=iS a;show(.c B λy c z=>(.c z.1<|by rw[z.2,d];rfl))) λF b o j x M=>by change n<=_;simp[cq]
def jG{n:Nat}(h:.bv e n)(t:n<2^62)(k:K (cq 0 n) O)(G:.bR .es)(S:.bB .es:=by rfl) (hs:.b4=.b5:=by rfl):XI X u O c (.eX .es [e]) K:=.mk λa H U s R q=>
 (.D (Wt S G (fC .E fY hs) hs)<|h a H U s _ (.oV<|by cases(r);calc(.I n rfl .a .a<|q _ _ O A P I ?_ k);have:=Nl (O:=O) (m:=0) (n:=n) rfl (Hs:=A) (H:=P);lk))
def om{m n:Nat}(J:.bv a m)(Y:.bv b n)(d:m<=2^61)(t:n<2^61)(k:K (cq m<|n-m) O)(G:.bR .es)(h:.bB .es:=by rfl) (hs:.y4:=by rfl) (l:.lT b=[(.kp b)]:=by rfl):XI X u O c (.eX .es [a,b]) K:=.mk λi H U s R q=>
 (.D (Wu h G (fC .E (fC .E fY l) (hs.trans<|by rw[l])) hs l)<|J i H U s _ (.oV<|Y A P U I.ok _ λf F j S g=>by
  cases(r);cases(g);calc(.aW m n .a<|q _ _ O F j .cO ?_ k);let e:(.fl<|.dZ-m)=n-m:=.a
  rw[e];show Nl rfl))
def jg(ws:.aT):.aT:=ws.mapIdx λk w=>.fx (.u k) w
def x_{k:Nat}{w}(h:(jg ws)[k]?=.eP):∃u,ws[k]?=.aJ/\w=.fx (.u k) u:=by unfold jg at h;lk
def Fq(s:.fh)(M:.bI T)(g:.k7 wa x)(m:.k7 wb y):∃j,bB U u Hs H O j (.mx T x y) O/\Rep j (.fx wa wb) (.p T):=by let I:=s.share (o:=.fx x y) M;show(.D I<|.pc dk .aF {_,rfl,_,_,rfl,g.le I.ext.le,_,_,rfl,m.le I.ext.le,rfl})
def vq(h:.iS X b O e (∃ws,w=.gT/\K (jg ws) O1))(G:.bR .jS)(S:.bB .jS:=by rfl) (hs:.b4=.b5:=by rfl):XI X b O (.hz g Y c) (.eX .jS [e]) K:=.mk λm H U s R q=>
 (.D (Zi S G (fC .E fY hs) hs)<|h m H U s _ (.nD<|by let[ws,rfl,k]:=z;let[p,_,rfl,Z,a,rfl,l]:=r;let f:.tr:=.tq;calc(.aW p a (bf.of<|I.ok.sub _ _ .h0)<|q _ _ O1 A P I (λU b J F n x d=>(.q (λi w t=>?_) a (f x d.sub)<|by simp[jg,l.len])) k);let[u,B,rfl]:=x_ t;let[v,L,C]:=l.get B;calc(.c (.q a v (f x d.sub) L) λy N z=>?_);let[T,V,rfl,E,rfl,D]:=z;have:=D a (f x d.sub);rw[L] at this;cases this;show Fq d E rfl (C.le x.le)))
def mV(ws us:.aT):.aT:=List.zipWith (λa b=>.fx a b) ws us
def aaX(J:.bJ a .gT)(Y:.bJ b (.Z us))(k:K (mV ws us) O)(G:.bR "zip")(hg:.bB "zip":=by rfl) (hs:.zS:=by rfl) (g:.qo [b]=.j:=by rfl) (l:.lT b=[(.kp b)]:=by rfl):XI X u O (.hz elts kk si) (.eX "zip" [a,b]) K:=.mk λHs H U s R q=>
 (.D (Zs hg G (fC .E (fC .E fY l) hs) hs g)<|J Hs H U s _ (.oV (Y A P U I.ok _ λv2 F n S m=>by
  let[p,_,rfl,hr,vs,rfl,rs]:=.gf;let[t,_,rfl,c,B,rfl,h]:=m;let f:∀{Z E:Hp} {o j:OM},Ext F n o Z E j->h7 Z E->bf X.K E p vs:=λx M=>bf.of (M _ _<|(x.le _ _ hr).lst .e1);let Q:∀{Z E:Hp} {o j:OM},Ext F n o Z E j->h7 Z E->bf X.K E t B:=λx M=>bf.of (M _ _<|(x.le _ _ c).lst .e1);refine{p,t,vs,B,rfl,bf.of (S.ok.sub _ _<|hr.lst .e1),bf.of (S.ok.sub _ _<|c.lst .e1),q _ _ O F n .cO (λU u O2 Z E x d=>(.ab (λi w hi=>?_) vs B (f x d.sub) (Q x d.sub) ?_)) k}
  .unfold mV at hi;rw[List.getElem?_zipWith] at hi;cases h1:ws[i]? with
   |none=>lk
   |some u1=>cases h2:us[i]? with
    |none=>lk
    |some u2=>rw[h1,h2] at hi;cases hi;let[v,L,C]:=rs.get h1;let[v',N,e2']:=h.get h2;calc(.c {vs,B,v,v',f x d.sub,Q x d.sub,L,N} λy H' z=>?_);let[T,V,e,rfl,hT,rfl,D,hy]:=z;have:=D vs (f x d.sub);rw[L] at this;cases this;have:=hy B (Q x d.sub);rw[N] at this;cases this;show Fq d hT (C.le x.le) (e2'.le x.le)
  .have:=rs.len;have:=h.len;simp[mV];lia)))
def aaY(h:.de .gT)(k:K ws.reverse O)(G:.bR .m2)(S:.bB .m2:=by rfl) (hs:.b4=.b5:=by rfl):XI X u O c (.eX .m2 [e]) K:=.mk λg H U s R q=>
 (.D (Y9 S G (fC .E fY hs) hs)<|h g H U s _ (.oV<|by
  let[p,_,rfl,Z,a,rfl,b]:=r;let f:.tr:=.tq;calc(.aW p a (bf.of<|I.ok.sub _ _ .h0)<|q _ _ O A P I (jF.plain (λi w F n o j d x M=>?_) λF n o j x M=>(by change .bE<=_;rw[Um,b.len];lia)) k);let t:i<.bp:=.d
  rw[anI t] at d;let[v,L,C]:=b.get d;rw[b.len] at L;show(.c (.I (by rw[<-b.len];show t) a v (f x M) L) .uw)))
def aaZ{g:TG}{T:TS}(s:.fh)(G:Acc Hs H O D E)(c:jF J ws Hs H O)(P:.bn (Gm->.fq))(S:P 0 u O)
  (hs:∀k w o O' C j H' x F n M,ws[k]?=.eP->P k o O'->bB C o j H' O' F n O'->Rep F w x->Acc F n O' {D with nx:=P<|k+1,ct:=P<|k+1,bk:=D.nx} M->g x C n λR B=>T M R B) (Y:∀o O',P .bp o O'->D.nx o O'):
  ∃W:.dv<|L2.St->.cF,(∃m,W 0 m U H)/\∀i m U H,W i m U H->(J.stop i H/\E.nx U H)\/(J.go i H/\∃N,.x6/\∀x H',J.qy i H x H'->g x U H' λR n=>T {E with nx:=N,ct:=N,bk:=E.nx} R n):=by
 calc(.cf (λi m C H'=>m=.bp-i/\i<=.bp/\∃o O' j,Ext Hs H O j H' O'/\aZ j H' C o O'/\P i o O') {_,rfl,eY _,u,O,Hs,Ext.refl _ _ _,s,S});intro i m C H' [rfl,hi,o,O',j,x,Q,l];let[X,is]:=c C o O' j H' x Q;by_cases L:i<.bp
 .let[V,d]:=X i ws[i] (cf L);calc .F (.q V (λR n=>∃A O2 F,_/\_/\_) (λR n z=>(.aW (.bp-_) .a L z)) λy n z=>?_);let[F,I,r]:=d y n z;let b:=x.trans I.ext;refine hs i ws[i] o O' C j H' y F n _ (cf L) l I r<|.q .xa (λv w t Z B a=>G.rt v w t Z B .pd) (λq h t Z B a f k=>G.nx _ _ _ _ _ .pd f k) .xa
 .let e:i=.bp:=.a
  subst e;show .hl is (G.nx _ _ _ _ _ x Q<|Y _ _ l)
def Loop(X:Cx)(c:bZ)(g G:.y gu)(D:Dn)(u:Gm)(ws:.aT)(O:OM):=∃P:.bn<|Gm->.fq,P 0 u O/\
 (∀k w o b,ws[k]?=.eP->P k o b->∃A a,XG X o c w A a/\.kJ A b g {D with nx:=P<|k+1,ct:=P<|k+1,bk:=λo b=>.dE o b})/\∀o b,P .bp o b->.dE o b
theorem Loop.go(h:Loop X c g G D u ws O)(s:.fh)(f:.z8) (q:jF J ws Hs H O):
  ∃W:.dv<|L2.St->.cF,(∃m,W 0 m U H)/\∀i m U H,W i m U H->(J.stop i H/\E.nx U H)\/(J.go i H/\∃N,.x6/\∀x H',J.qy i H x H'->cG X c x U H' λR n=>fE X g {E with nx:=N,ct:=N,bk:=E.nx} R n):=by let[P,T,e,t]:=h;calc aaZ s f q P T (λk w o O' C j H' x F n M L l I r b=>?_) t;let[A,a,S,Y]:=e k w o O' L l;show S F n C O' x I.ok r _ λR d _=>Y F n R M d b
def cu(hi:XI X u O c C (Loop X c g G D u))(R:wz .kW X.A .X X.xe:=by show Dl) (V:.bP:=by rfl) (hs:∀x,nH C .X x=.aL x:=by intro _;rfl):.gt u O (.For c C g [] pos::G):=
 j9 (xn R V cI.ok cG.ok fE.ok hs) λa H U E s b=>hi a H U s _ λJ e f A P I d k=>k.go I.ok .o2 d
def aa0(P:.bn (Gm->.fq))(T:P m0 u O)(hs:∀m o O',P m o O'->∃k,XT X o O' c k/\(.n k->.kJ o O' g {D with nx:=λA O2=>∃p,p<m/\P p A O2,ct:=λA O2=>∃p,p<m/\P p A O2,bk:=λo O'=>.jH o})/\(k=.j->.jH o)) (R:wz .kW X.A .X X.xe:=by show Dl):.gt u O (.While c g [] pos::G):=
 j9 (Wj R cT.ok fE.ok) λr H U E s i=>by
  calc(.cf (λm C e=>∃o O' j,Ext r H O j e O'/\aZ j e C o O'/\P m o O') {m0,u,O,r,Ext.refl _ _ _,s,T});intro m C e [o,O',j,x,J,y];let[k,V,B,M]:=hs m o O' y;calc V j e C J _ λF n I=>?_;let b:=x.trans I.ext;cases k with
  |true=>
   refine kX<|.g (λq d=>∃p,p<m/\∃h t Z,_/\_/\_) (λ_ _ z=>z) (B rfl F n C _ I.ok<|.q (λq h t Z d a f k=>?_) (λv w t Z d a=>i.rt v w t Z d .pd) (λq h t Z d a f k=>i.nx _ _ _ _ _ .pd f k) λq h t Z d a f k=>?_)
   .let[p,l,k]:=k;show#[p,l,h,t,Z,.pd,f,k]
   .let[p,l,k]:=k;show#[p,l,h,t,Z,.pd,f,k]
  |false=>show kU (i.nx _ _ _ _ _ b I.ok<|M rfl)
end
def aa1:∀{vs},Ag vs (.km U) C->.km C=.km U:=λ{vs} h=>by
 have g:∀(a:L2.St) (vs:_) (i:Nat),(.km a)[i]?=.A (i∈vs) (a[i]?.map λ_=>none) (a[i]?):=by
  intro a vs;induction vs with
  |nil=>intro i;rfl
  |cons v vs E=>grind[wipe]
 apply qr;intro i;rw[g,g];by_cases b:i∈vs
 .have:=h.1;rw[AK] at this;lk
 .rw[h.2 i b,g,.x b]
def qQ(u:Gm):.h->Gm
 |[]=>u
 |v::a=>(qQ u a).set v none
def Nm(h:eU (k6 Hs) u U):∀vs,eU (k6 Hs) (qQ u vs) (.km U)
 |[]=>h
 |v::vs=>by
  have V:∀{u:Gm} {U:L2.St} (i:Nat),eU (k6 Hs) u U->eU _ (u.set i none) (U.set i none):=λi r=>by
   induction r generalizing i with
   |nil=>show .nil
   |cons r t E=>cases i with
    |zero=>show .bj .aF t
    |succ i=>show .bj r (E i)
  show V v (Nm h vs)
abbrev Cx.bl(X:Cx)(F:jT)(s:bO)(H:Hp)(C:af)(cl:.dM af)(a:.bL):=.gw s H (jt F cl C .X) a
def Nn(X:Cx)(u:Gm)(O:OM):.y bZ->Bool->Prop
 |[],b=>.n b
 |[t],b=>XT X u O t b
 |_,_=>False
def Lc(X:Cx)(c:bZ)(E:.y bZ)(e:bZ)(F:jT)(vs:.h)(K:.c2)(u:Gm)(ws:.aT)(O:OM):Prop:=.bp<bh/\∃P:.bn<|.aT->.fq,P 0 [] O/\
 (∀k w d f (p),ws[k]?=.eP->P k d f->∃A b,(∀s H C g a,XG (.hv F s H C g a) (qQ u vs) c w A vs/\Nn (.hv F s H C g a) A (f++(.f9 d)) E b/\
  (.n b->XE (.hv F s H C g a) A (f++(.f9 d)) e λy h=>∃t,h=t++(.f9 d)/\P (k+1) (d++[y]) t))/\(b=.j->P (k+1) d f))/\
 ∀d f p,P .bp d f->.pn (f++(.f9 d))
section
variable{K:.c2}
def gB(X:Cx)(F:jT)(c:bZ):TG:=λv U H Q=>∀s o C b a,cG (.hv F s o C b a) c v U H Q
def eB(X:Cx)(F:jT)(e:bZ):TE:=.br<|∀s o C b a,cE (.hv F s o C b a) e U H Q
def Bg(X:Cx)(E:.y bZ):TT:=.br<|∃t,pD X E t/\t U H Q
def Bg.ok{X}:pD X E (Bg X E):=.rA<|h a s U H Q I q
def pL(X:Cx)(F:jT)(E:.y bZ):TT:=.br<|∀s o C b a,Bg (.hv F s o C b a) E U H Q
def gB.ok:∀s o C cl a,PG (.hv F s o C cl a) c (gB X F c):=λs o C cl a b J U H v u Q I r q=>cG.ok b J U H v u Q I r<|q s o C cl a
def eB.ok:∀s o C cl a,PE (.hv F s o C cl a) e (eB X F e):=λs o C cl a b J U H Q I q=>cE.ok b J U H Q I<|q s o C cl a
def pL.ok:∀s o C cl a,pD (.hv F s o C cl a) E (pL X F E):=λs o C cl a b J U H Q I q=>Bg.ok b J U H Q I<|q s o C cl a
theorem Lc.go{Q:VK}(h:Lc X tg ifs elt F vs K u ws O)(s:.fh)(io:jF J ws Hs H O)(q:.sO):
  ∀D,.bI D->∃Wv:.dv .cF,(∃m,Wv 0 m (.ie D []))/\∀i m H,Wv i m H->(J.stop i H/\.eY D H)\/(J.go i H/\∃N:.cF,(∀H',N H'->∃m',m'<m/\Wv (i+1) m' H')/\∀x H',J.qy i H x H'->gB X F tg x (.km U) H' λR n=>.km R=.km U/\pL X F ifs R n λb E=>
   .A (.n b) (eB X F elt R E λy H4=>∃acc,H4 D=.du acc/\acc.length<bh/\N (upd H4 D<|.eK acc [y])) (N E)):=by
 intro D hD;let[hz,P,T,hs,hd]:=h;calc(.cf (λi m H'=>m=.bp-i/\i<=.bp/\∃acc O' j,bB U u Hs H O j H' (O'++(.lY D acc))/\acc.length<=i/\P i acc O') {_,rfl,eY _,[],O,Hs,(s.have (o:=.iy) hD .aF<|.l (ws:=[]) rfl),.ao,T});intro i m H' [rfl,hi,acc,O',j,I,ha,l];let[ig,is]:=io U u _ j H' (I.ext) I.ok;by_cases lt:i<.bp
 .obtain⟨g1,g2⟩:=ig i ws[i] (cf lt);calc .F (.q g1 (λn=>∃acc O' j,_/\acc.length<=i+1/\P _ acc O') (λn z=>(.aW (.bp-_) .a lt z)) λy n z=>?_);let[pM,S,r]:=g2 y n z;let G:=.cO;let[A,b,Y,hf]:=hs i ws[i] acc O' D (cf lt) l;intro V H0 C cl a;calc(Y V H0 C cl a).1 pM n _ _ y (.g G.ok.sub G.ok.own<|Nm G.ok.env vs) r _ λR sk ag=>(.bM<|aa1 ag);let back:∀{Z E:Hp} {O3:OM},bB R A pM n (O'++(.lY D acc)) Z E O3->bB U u Hs H O Z E O3:=.s (G.trans<|.c z.ext (.g z.ok.sub z.ok.own<|n_.le z.ext.le G.ok.env));intro s1 H1 C1 cl1 fp1;let B:=(Y s1 H1 C1 cl1 fp1).2.1;let fin:∀Z E,bB R A pM n (O'++(.lY D acc)) Z E (O'++(.lY D acc))->.kw (.n b) (eB X F elt R E λy H4=>∃acc,H4 D=.du acc/\acc.length<bh/\∃f O' j,bB U u Hs H O j (upd H4 D<|.eK acc [y]) (O'++(.lY D f))/\.kK<=i+1/\P (i+1) f O') (∃f O' j,bB U u Hs H O j E (O'++(.lY D f))/\.kK<=i+1/\P (i+1) f O'):=λZ E M=>by
   cases b with
   |false=>show kU (.ab acc O' Z (back M) .a<|hf rfl)
   |true=>calc kX λs2 H20 C2 cl2 fp2=>(Y s2 H20 C2 cl2 fp2).2.2 rfl Z E R M.ok _ λy' wy O2 Hs4 H4 g r4 k=>?_;let[O3,rfl,k]:=k;let[_,L,Np,rfl,rs]:=g.ok.box (p:=D) (c:=.Z acc) .f;show{Np,L,by rw[<-rs.len];lia,acc++[wy],O3,Hs4,back<|.aA (M.trans g) (g.ok.write (c:=.Z acc) (d:=.eK acc [wy]) (O1:=O3) (O2:=[]) (p:=D) (o:=.eK Np [y']) .aF<|.l (rs.app<|.one r4)),.dV,k}
  revert B;match ifs with
  |[]=>intro B;cases(show .n b from B);show(.D Yn<|fin pM n sk.same)
  |[t]=>intro B;show(.D (Yo cT.ok)<|(show XT _ _ _ t b from B) pM n R sk _ λZ E M=>fin Z E M)
  |_::_::_=>intro B;show(show False from B).elim
 .let e:i=.bp:=.a
  subst e;show .hl is (q _ (.p D) _ j H' I rfl<|hd acc O' D l)
def dN(a:X.N.Nodup)(l:.jd Str)(g:nY X.N .hY F l)(hi:XI X u O c C (Lc X c E e F (.bA .jj) K u))(V:.bP:=by rfl) (hs:∀x,nH C .X x=.aL x:=by intro _;rfl):.ez (.iG e [(.q c C E 0)] F):=.mk λd H U s Q q=>
 (.D (Eh V a cI.ok g gB.ok pL.ok eB.ok hs)<|hi d H U s _ λJ i m A P I f k=>k.go I.ok f λv w h j b S r k=>q v w h j b .cO r k)
def ot(f:X.N.Nodup)(l:.jd Str)(Q:nY X.N .hY F l)(hi:XI X u O c C (Lc X c a e F (.bA .jj) (λw O1=>.dE (u.set j .eP) O1) u))(V:.bP:=by rfl) (T:.d5 j=.eO:=by rfl) (p:.d7 y=.cP:=by rfl)
  (d:lE (.iG e [(.q c C a 0)] F) (.b<|.bz y n) b.line .X=.aL true:=by show Ei rfl rfl rfl rfl) (hs:∀x,nH C .X x=.aL x:=by intro _;rfl):.gt u O (.Assign [.bz y n] (.iG e [(.q c C a 0)] F) b::G):=
 j9 (Fh V f cI.ok Q gB.ok pL.ok eB.ok T p d hs) λh H U E s i=>hi h H U s _ λJ o O1 A P I m k=>k.go I.ok m λv w q g t S r k=>i.nx _ _ _ _ _ (.cO).ext (S.ok.set j r) k
end
section
variable{K:bj}
def Z0g(n:Nat)(ws:.aT):Gm:=ws.map some++bL (n-.bp) none
def aa2(r:.eh):eU (k6 Hs) (Z0g N.length ws) (L2.start N vs):=by
 unfold Z0g L2.start;rw[r.len];let V:∀n,eU (k6 Hs) (bL n none) (bL n none):=λn=>by
  induction n with
  |zero=>show .nil
  |succ n E=>show .bj .aF E
 generalize N.length-.bD=n;induction ws generalizing vs with
 |nil=>cases r;show V n
 |cons w ws E=>let[v,t,rfl,g,m]:=r;show .bj g (E m)
abbrev Bh(P:fu)(w:ew)(K:bj)(X:.dl)(i:bI)(N:.a7)(q:Str)(Z:gu)(f:af)(v:aw)(A:gS)(U:.im)(s:bO)(H:Hp)(E:XK):=.uU
def Dr(K:.c2)(w:W)(O:OM):=∃a t,O.Perm (a++t)/\K w a
def Dr.nil{K}{w}{O}(k:K w []):Dr K w O:=(.q [] O (.refl _) k)
def Dr.all{K}{w}{O}(k:K w O):Dr K w O:=(.q O [] .f k)
def Dr.fst{K}{w}(k:K w [x]):Dr K w (x::O):=(.q [x] O (.refl _) k)
def Dr.last{K:.c2}{w}(k:K w [x]):Dr K w (O++[x]):=(.q [x] O fX k)
def Ext.drop(x:Ext Hs H O j H' O')(h:O'.Perm (O2++t)):Ext Hs H O j H' O2:=(.q x.le x.keep x.new<|.a4 (x.own b<|(h.map _).mem_iff.mpr .d))
def j7.drop(x:j7 Hs H O')(h:O'.Perm (O2++t)):=j7.left<|.c ((h.map _).nodup_iff.mp x.1) (λp c m=>x.2 p c<|h.mem_iff.mpr m)
def Bi(P:fu)(w:ew)(K:bj)(X:.dl)(i:bI)(N:.a7)(q:Str)(Z:gu)(k:Nat)(T:bT)(f:af)(v:aw):=
 ∀A U s H E a O F,bQ k (Bh P w K X i N q Z f v A U s H E).A->T a O F->ar (Bh P w K X i N q Z f v A U s H E) (Z0g N.length a) O (jd Z) (.q (λ_ b=>Dr F .non b) (Dr F) .hE .hE)
def Body(P:fu)(w:ew)(K:bj)(X:.dl)(i:bI)(N:.a7)(q:Str)(Z:gu)(k:Nat)(T:bT):=∀f v,Bi P w K X i N q Z k T f v
theorem Bi.go{Z}(Y:Bi P w K X i N q Z k T f b)(A:gS)(U:.im) s H(vs:.au) Q E(d:.oU k (mC q (aI Z) .G f b))(h:lift T vs H Q E):
  ∃t,hX (mL lR P w K X i N q (aI Z) f b A U s H E).nV (jd Z) t/\t (.t1<|Q .non H') (L2.start N vs) H:=by let[n,e,O,F,M,L,r,B,p]:=h;show(.D fE.ok (Y A U s H E e O F d B n H _ _ (.g M L<|aa2 r)<|.q (λC o g j H' x J k=>by let[c,l,m,k]:=k;show p .non .non c j H' (x.drop m) J.sub (J.own.drop m) rfl k) (λv w g j H' x S a D k=>by let[c,l,m,k]:=k;show p v w c j H' (x.drop m) S (a.drop m) D k) (λ_ _ _ _ _ _ _ k=>k) λ_ _ _ _ _ _ _ k=>k))
def Bj(M:∀ws O F,T ws O F->.bp=n):.sB (lift T vs H Q E) (.bD=n):=λvs H Q E h=>by let[a,ws,O,F,_,_,r,B,_]:=h;rw[<-r.len];lk
def Def.t{Z}(D:Def K X x Z G)(S:.lI N G Z)(M:∀ws O F,T ws O F->.bp=.dW)(Y:Body P w K X i N x Z k T):=D.x5 S (Bj M) λf v=>(Y f v).go
def dv.t{Z}(D:dv K C q m Z G)(S:.lI N G Z)(M:∀ws O F,T ws O F->.bp=.dW)(Y:Body P w K X i N q Z k T):=D.x5 S (Bj M) λf v=>(Y f v).go
def mQ.t{Z}(D:mQ K C q Z G)(a:X x=.K C)(S:.lI N G Z)(M:∀ws O F,T ws O F->.bp=.dW)(Y:Body P w K X i N q Z k T):=D.x5 a S (Bj M) λf v=>(Y f v).go
end
def gv:.dM Int:=[("NONTERMINAL",0),("RANGE",1),("MOST_NONTERMINALS",20),("MOST_RULES",60),("MOST_SYMBOLS",8),("LAST_BYTE",255),("NO_CLASS",-1),("MOST_WAYS",1000000000000000000000000000000000000000000000000000000000000),("MOST_PIECES",3000),("END",-1),("MOST_STATES",128),("NONE_LEFT",0),("FOUND",1),("TRIES_USED",2),("MOST_BYTES",24),("LONGEST_SEARCHED",8),("MOST_TRIES",300),("LOAD",0),("SIGNS",1),("SEARCH",2),("NEXT",3),("WAYS",4),("CORE",5),("TALLY",6),("WIDEST",7),("ODDS",8),("MOST_NODES",256),("MOST_ALTERNATIVES",512),("MOST_SIZES",40000),("MOST_SURVEYED",300)]
structure Gv(mg:.dl):Prop where
 nb:aal mg
 i:∀x i,(x,i)∈gv->GI mg x i
section
variable{K:.c2}
def ef(g:Gv X)(j:Nat)(h:gv[j]?=.be x n):=g.i _ _<|bb h
def mW(G:.bR .dm)(he:.de w)(hi:Is O w .gT)(S:.bB .dm:=by rfl) (hs:.b4=.b5:=by rfl):.y3:=
 (jf (Ff G .E S hs) he λb H U v Q s r q=>by let[a,_,rfl,Z,c,rfl,d]:=.go s r;show(.aW a c (.z .la) .w9)).xv
def Bk(G:.bR .dm)(he:.de (.am ws))(S:.bB .dm:=by rfl) (hs:.b4=.b5:=by rfl):.y3:=
 (jf (Ff G .E S hs) he λb H U v Q s r q=>by let[a,_,rfl,Z,c,rfl,d]:=r;show(.aW a c .z7 .w9)).xv
def Nq(G:.bR .dI)(he:.de w)(hi:Is O w .gT)(k:.jG O ws)(S:.bB .dI:=by rfl) (hs:.b4=.b5:=by rfl):.i5 .dI [e]:=
 jf (M0 G .E S hs) he λf H U v Q s r q=>by let[a,_,rfl,Z,c,rfl,b]:=.go s r;show(.aW a c (.z .la) (λl d=>q _ .dQ _ _ _ (.op d<|.l b) rfl<|k l))
def Ft(G:.bR .dI)(he:.de (.am ws))(k:.jG O ws)(S:.bB .dI:=by rfl) (hs:.b4=.b5:=by rfl):.i5 .dI [e]:=
 jf (M0 G .E S hs) he λf H U v Q s r q=>by let[a,_,rfl,Z,b,rfl,c]:=r;show(.aW a b .z7 (λl d=>q _ .dQ _ _ _ (.op d<|.l c) rfl<|k l))
def Fu(G:.bR .f4)(he:.de w)(hi:Is O w .gT)(S:.bB .f4:=by rfl) (hs:.b4=.b5:=by rfl):.bJ (.eX .f4 [e]) (.am ws):=
 (jf (aaB G .E S hs) he λf H U v Q s r q=>by let[a,_,rfl,Z,b,rfl,c]:=.go s r;calc(.ct a b<|.hl .la λl d=>?_);let I:=s.share (o:=.am b) d;show q _ (.am ws) O _ _ I (.pc dk .aF (.aX b<|c.le I.ext.le)) .bW).xv
end
def aa(n:Nat):W:=.u n
def ai(ns:.h):W:=.Z<|.gv aa
def eh:Sym->W
 |.non k=>.fx (.u 0)<|aa k
 |.range a b=>.am [.u 1,aa a,aa b]
def cV(l:.bq):W:=.nk eh
def gh(r:bw):W:=.gX .C<|cV .O
def dn(rs:.b2):W:=.Z<|rs.map gh
section
variable{K:.c2}
def Bl{i j:Nat}(J:.bv a i)(Y:.bv b j):.bv (.jq a .Add b) (i+j:Nat):=by show qN J Y
def f_(F:.aT->.l6):bT:=λa O K=>O=[]/\∃w,F a w/\K w []
def ib(F:.aT->.l6):bT:=λa O K=>O=[]/\∃c,F a c/\.sg [(p,c)]
def XA.mono{K a}(h:XA X u O es K)(k:∀ws O',K ws O'->a ws O'):XA X u O es a:=.mk λc H U s Q q=>h c H U s Q λb ws O' j d I r z=>q b ws O' j d I r (k _ _ z)
def aa3(c:.wb)(Z:.fV)(J:.oi X u O (e::es) (∃w,F ws w/\K w O1))(S:.fj:=by rfl) (d:(.ko x)=.j:=by decide) (he:.gb e=.eF::.ga:=by rfl) (g:.hS=.j:=by rfl):.i5 x (e::es):=
 .vq
def ff(c:.wb)(Z:.fV)(J:.z6)(S:.fj:=by rfl) (d:(.ko x)=.j:=by decide) (he:.gb e=.eF::.ga:=by rfl) (g:.hS=.j:=by rfl):.bJ (.eX x<|e::es) w:=
 (aa3 c Z (J.mono λws O1 #[f,e]=>(.ct w f e)) S d he g).xv
def ya(c:.wa)(Z:.fV)(J:.oi X u O (e::es) (∃w,F ws w/\.sg ((p,w)::O1)))(S:.fj:=by rfl) (d:(.ko x)=.j:=by decide) (he:.gb e=.eF::.ga:=by rfl) (g:.hS=.j:=by rfl):.i5 x (e::es):=
 .vq
def iT(c:.wa)(Z:.fV)(J:.z6)(h:.fj:=by rfl) (d:(.ko x)=.j:=by decide) (he:.gb e=.eF::.ga:=by rfl) (g:.hS=.j:=by rfl):.bJ (.eX x<|e::es) w:=
 .mk λn H U s Q q=>(ya (K:=λi b=>∃p,i=.aG/\b=(p,w)::O) c Z (J.mono λws O1 #[f,e]=>(.g w f (.mB p<|by rw[e]))) h d he g) n H U s Q λv i b j l I r z=>by let[p,rfl,rfl]:=z;let[a,S,m]:=I.ok.freeze (O1:=[]);cases(r);show q _ a l .cO m
end
def XG.fg(h:Fg u e)(g:XG X e c w A a):XG X u c w A a:=.mk λb H U O v s r Q q=>g b H U O v (.g s.sub s.own<|h.env s.env) r Q q
abbrev Up(I:Gm->.fq):Gm->.fq:=λu O=>∃e,I e O/\Fg u e
def lp(I:.bn (Gm->.fq))(T:Up (I 0) u O)(hs:∀k w e O',ws[k]?=.eP->I k e O'->∃A a,XG X e c w A a/\.kJ A O' d {D with nx:=Up (I<|k+1),ct:=Up (I<|k+1),bk:=λo O'=>.jH o}) (N:∀e O',I .bp e O'->.jH e):Loop X c d G D u ws O:=
 (.q (.aU (Up<|I k)) T (λk w o O' L #[e,i,f]=>let⟨A,a,g,b⟩:=hs k w e O' L i;(.q A a (g.fg f) b)) λo O' #[e,i,f]=>(N e O' i).fg f)
def XT.fg(h:Fg u e)(g:XT X e O c k):XT X u O c k:=.mk λb H U s Q q=>g b H U (.g s.sub s.own<|h.env s.env) Q λj a I=>q j a (.c I.ext (.g I.ok.sub I.ok.own<|n_.le I.ext.le s.env))
def wl(I:.bn (Gm->.fq))(T:Up (I m0) v O)(hs:∀m e O',I m e O'->∃k,XT X e O' c k/\(.n k->.kJ e O' g {D with nx:=Up λA O2=>∃p,p<m/\I p A O2,ct:=Up λA O2=>∃p,p<m/\I p A O2,bk:=λo O'=>.jH o})/\(k=.j->.jH e)) (R:wz .kW X.A .X X.xe:=by show Dl):.gt v O (.While c g [] pos::G):=
 aa0 (.cN (Up<|I m)) T (λm o O' #[e,i,f]=>by let[k,a,b,d]:=hs m e O' i;calc(.q k (a.fg f) (.s<|.mk λt H U E s n=>?_) (.s<|(d z).fg f));show((b z).fg f) t H U E s (.q (λC A O2 j q x J {h,#[p,l,u],r}=>n.nx C A O2 j q x J<|.I p l h u r) n.rt n.bk (λC A O2 j q x J {h,#[p,l,u],r}=>n.ct C A O2 j q x J<|.I p l h u r))) R
section
variable{K:.c2}
theorem lc{N:Type}{l:.aS}{f}{vs}(Z:N->Gm) t g(hz:.eg .ax)
  (hs:∀x,x∈l->∀p acc s H C cl a,.s2/\Nn (.hv F s H C cl a) (Z x) (O++(.f9 acc)) E (t x)/\(.n (t x)->XV (.hv F s H C cl a) (Z x) (O++(.f9 acc)) d (g x)))
  (k:.jG O (.oP t g)):Lc X c E d F vs K u (.bA f) O:=by
 refine(.I (.pQ<|.lB hz) (λi acc h=>acc=(.dx .ii t).map g/\h=O) .bW ?_ ?_)
 .intro i w acc _ p b [rfl,rfl];rw[bG] at b;cases e:l[i]? with
  |none=>rw[e] at b;cases b
  |some x=>
   rw[e] at b;cases b;let[B,M]:=.bd e;let j:l.take (i+1)=.ii++[x]:=by rw[dX B,M]
   calc(.q (Z x) (t x) (λs H C cl a=>?_) (.s<|.a5 .d));let[I,y,o]:=hs x (bb e) p ((.dx .ii t).map g) s H C cl a;show(.g I y<|.s ((o z).xe<|.dB _ .d rfl))
 lk
def fH{N:Type}{l:.aS}{f}(Z:N->Gm) g(hz:.eg .ax)
  (hs:∀x,x∈l->∀p acc s H C cl a,.s2/\XV (.hv F s H C cl a) (Z x) (O++(.f9 acc)) e (g x))
  (k:.jG O (.bA g)):.zZ:=
 lc Z _ g hz (λx D p acc s H C cl a=>(.aX (hs x D p acc s H C cl a).1<|.P (hs x D p acc s H C cl a).2)) (by rw[List.filter_eq_self.mpr .f];show k)
def aoX n(x:N):(.nZ n [x])=bL n x:=.f
def vr{n:Nat}(J:.cH c a (.Z [u]))(Y:.qf c O b n)(t:.eg n)(k:.jG O (bL n u)):.oe c (.jq a .Mult b) K:=by
 let I:bh=16777216:=.V
 show aaR J Y .w .dV .a .fM
end
structure Co(K:bj)(C:af)(fs:.a7):Prop where
 cl:gD K C
 na:∀f∈fs,mK K C f
abbrev gF:.a7:=[.g6,.iX,"class_of",.hn]
def qR(h:j<n):kT n j=.b j:=by unfold kT;lk
def aM(ns:.S):W:=.Z<|.gv .cJ
def cC(C:af)(g:aQ)(D:.h)(Q:.S):W:=.dP gF [aa .o,ai D,aM Q,dn .B]
def dR(bs:.ij):W:=.Z<|bs.map W.bl
def Fv{bs:.ij}(h:i<bs.length):(bs.map W.bl)[i]?=.b (W.bl<|.jm i):=.d
def dw{N:Type}{f:N->W}{l:.aS}{k:Nat}(h:(.bA f)[k]?=.eP):∃a,l[k]?=.b a/\w=f a:=.d
theorem lt_size(h:.eg n):n<bh:=.lB h
section
variable{K:.c2}
def XE.perm(h:.iS X u O e (∃O2,O1.Perm O2/\K w O2)):.ez e:=.lQ<|h a H U s Q (.nD<|by let[O2,m,k]:=z;show q v w O2 A P (I.trans<|I.ok.perm m) r k)
def qS(c:W)(hz:.eg .bp)(hs:∀w∈ws,∃A,(∀s H C cl a,XG (.hv F s H C cl a) (qQ u vs) g w A vs)/\∀O1,∀s H C cl a,XE (.hv F s H C cl a) A O1 e λw O2=>∃q,w=.cI/\O2=O1++[(q,c)])
  (k:∀p (qs:.bL),.li=.bp->.pn (.iv (bL .bp c)++(O++(.f9 .hD)))):Lc X g [] e F vs K u ws O:=by
 refine(.I (.lB hz) (λn b f=>∃qs:_,.li=n/\b=.hD/\f=.iv (bL n c)++O) (.fG [] rfl) ?_ ?_)
 .intro n w _ _ p t [qs,d,rfl,rfl];let[A,B,M]:=hs w (bb t);calc(.q A true (λs H C cl a=>(.aX (B s H C cl a)<|.P (XE.perm<|(M _ s H C cl a).mono ?_))) .aV);intro w _ [q,rfl,rfl];calc{_++[(p,_)],?_,_,rfl,qs++[q],by simp[d],.f,rfl};rw[Uo,Jp<|by simp[d]];simp only[eZ];calc qp _ ?_;rw[<-eZ];show fX
 .intro _ _ p [qs,d,rfl,rfl];rw[eZ];show k p qs d
def bR.zip{c d}{R}:∀{qs:.bL} {cs} {n:Nat},qs[n]?=.b q->cs[n]?=.cA->bR q c d (.iv cs++R) (.iv (cs.set n d)++R)
 |[],_,_,h,_=>.fv
 |_::_,[],_,_,h=>.fv
 |_::qs,_::cs,0,h,a=>by simp at h a;subst h a;show .bF
 |_::qs,_::cs,n+1,h,a=>.there<|bR.zip .d .d
def bR.skip{c d}:∀R,bR q c d O O'->bR q c d (R++O) (R++O')
 |[],h=>h
 |_::R,h=>.there<|bR.skip R h
def bR.more{c d} R(h:bR q c d O O'):bR q c d (O++R) (O'++R):=by
 induction h with
 |here=>show .bF
 |there _ E=>show .there E
def aZ.Bm:∀{qs:.bL} {cs:.aT},.li=cs.length->.nF U u (.iv cs++R)->∃j,bB U u Hs H (.iv cs++R) j H R/\aP j cs (qs.map V.ref)
 |[],[],_,s=>(.g Hs .fJ rfl)
 |[],_::_,h,_=>.fv
 |_::_,[],h,_=>.fv
 |q::qs,c::cs,h,s=>by let[A,i,g]:=s.freeze (O1:=[]);let[F,S,m]:=aZ.Bm .d i.ok;show .tL
def Bn:∀{qs:.bL} {vs},.pt .hD->vs=qs.map V.ref
 |[],_,r=>r
 |q::qs,_,⟨v,t,e,r,z⟩=>.sE<|Bn z
def ar.Fw{qs:.bL}{R1 R2}(a:u[j]?=.b .b3)(d:.li=cs.length)(k:.dE (u.set j<|.du cs) (R1++R2)):.dE u (.iv cs++(R1++(.dy q .hD)::R2)):=.mk λh H U E s c=>by
 let[A,i,g]:=s.Bm d;let[t,o,l,m,n,rfl,f]:=i.ok.own.2 q (.Z .hD) .f;rw[Bn f] at l;let S:=i.ok.write (o:=.Z _) .aF (.l g);let e:.ie q (qs.map V.ref)=H:=by funext b;unfold upd;lk
 rw[e] at S;let I:=i.trans S;show(ar.aB a k) A H U E I.ok (c.ext I.ext)
end
def XT.of(h:XT X u O e k)(z:k=k'):=z▸h
def XV.of(h:.de k)(z:k=k'):=z▸h
def aS(F:.S):W:=.dK (.fQ aW)<|.fQ .qA
def bD(F:.S)(z:Int):=.A (z∈F) F<|F++[z]
def aa4{F:.S}:.v9=.f8 (z∈F) .gj:=by
 induction F with
 |nil=>rfl
 |cons a F E=>
  by_cases e:a=z
  .subst e;simp[dU]
  .let h:¬(_:Key)=_:=.bO (e<|Uq q);have:dU ((a::F).map .oE) ((a::F).map (.P<|W.bl true)) (aW z)=.v9:=by simp[dU,h]
   lk
def Nr{F:.S}:(aW z)∈.fQ .oE↔z∈F:=.f
def aa5(F:.S) z:W.dK (iP (.fQ aW)<|.ls z) (jC (.fQ .oE) (.fQ (.P<|W.bl true)) (aW z) .gj)=aS (bD F z):=by
 unfold iP jC bD aS;by_cases m:z∈F
 .rw[.r<|Nr.mpr m,.r<|Nr.mpr m,.r m];clear m;induction F with
  |nil=>rfl
  |cons a F E=>lk
 lk
def yc(h:bR q (aS F) (aS<|bD F z) O O')(hz:.eg .aE):iQ q (.u z) .gj O O':=
 iQ.k (ks:=.fQ aW) rfl (.pQ<|.lB hz) (by rw[aa5];show h)
def sS(h:Is O w (aS F)):eM O w (.u z) (.f8 (z∈F) .gj):=by rw[<-aa4];show .k h rfl
end Tw
end
section
open PySem PyProof.Rows
namespace Tw
def ou(F:.eR Nat):=∀(i j x y:Nat),i<j->F[i]?=.bt->F[j]?=.eO->x<y
def aa6:ou .bH:=λi j x y _ h=>.fv
def Cut(F:.eR Nat)(j r:Nat):=r<=F.size/\(∀i x,i<r->F[i]?=.bt->x<j)/\∀i x,r<=i->F[i]?=.bt->j<=x
def Fx(h:ou F) j:∀u lo hi,lo<=hi->hi<=F.size->hi-lo<=u->(∀i x,i<lo->F[i]?=.bt->x<j)->(∀i x,hi<=i->F[i]?=.bt->j<=x)->Cut F j (SetTable.below.go F j u lo hi)
 |0,lo,hi,B,M,A,P,K=>by
  have:lo=hi:=.a
  subst this;show(.g M P K)
 |u+1,lo,hi,B,M,A,P,K=>by
  unfold SetTable.below.go;by_cases c:lo<hi
  .rw[.r c];let G:(lo+hi)/2<F.size:=.a
   obtain⟨v,p⟩:∃v,F[(lo+hi)/2]?=_:=(.cz<|nM G);let e:F.getD ((lo+hi)/2) j=v:=.fM
   dsimp only;rw[e];by_cases q:v<j
   .rw[.dF];calc Fx h j u _ _ .a M .a (λi x t D=>?_) K;by_cases z:i=(lo+hi)/2
    .lk
    .have:=h i ((lo+hi)/2) x v .a D p;lia
   .rw[.ff];calc Fx h j u _ _ .a .a .a P λi x t D=>?_;by_cases z:i=(lo+hi)/2
    .lk
    .have:=h ((lo+hi)/2) i v x .a p D;lia
  .rw[.x c];have:lo=hi:=.a
   subst this;show(.g M P K)
def Fy(h:ou F) j:Cut F j (.kt F j):=
 Fx h j _ _ _ (eY _) .ao .a (λi x a=>.a) λi x a D=>.d
def get_insert{p v:Nat}(R:p<=F.size) i:(anJ F p v)[i]?=.A (i<p) (F[i]?) (.A (i=p) .aO<|F[i-1]?):=by rw[<-Dm,SetTable.toList_insertAt];lk
def aa7(h:ou F){v}(b:F[.kt F v]?≠.aO):ou (anJ F (.kt F v) v):=by
 let[a,B,M]:=Fy h v;generalize .kt F v=p at*;intro i j x y J D T;rw[get_insert a] at D T;by_cases I:i<p
 .rw[.r I] at D;by_cases C:j<p
  .rw[.r C] at T;show h i j x y J D T
  lk
 .rw[.x I] at D;let C:¬j<p:=.a
  let L:¬j=p:=.a
  rw[.x C,.x L] at T;by_cases k:i=p
  .rw[.r k] at D;cases D;let V:=M (j-1) y .a T;by_cases z:j-1=p
   .lk
   .let P:p<F.size:=.d
    obtain⟨u,R⟩:∃u,F[p]?=.aJ:=(.cz<|nM P);let d:=M p u .ao R;let c:=h p (j-1) u y .a R T;lia
  .rw[.x k] at D;show h (i-1) (j-1) x y .a D T
def aa8(h:ou F)(D:F[i]?=.bt):.kt F (x+1)=i+1:=by
 let[R,B,M]:=Fy h _;generalize .kt F _=p at*;rcases anK p (i+1) with q|q|q
 .lk
 .show q
 .obtain⟨y,T⟩:∃y,F[i+1]?=_:=(.cz<|nM .a);have:=B _ y q T;have:=h i _ x y .a D T;lia
def aa9(h:ou F):.kt F 0=0:=by
 let[R,B,M]:=Fy h 0;generalize .kt F 0=p at*;let q|||q:=o5 p
 .show q
 .obtain⟨y,T⟩:∃y,F[0]?=.eO:=(.cz<|nM .a);lk
structure k8(led:Bool)(t:wQ):Prop where
 led:t.led=led
 Nt:.n t.plain->ou .mu
def aa_ l:k8 l (.fresh 0 0 l):=(.aY λ_=>aa6)
theorem Bo(h:k8 l t) n:k8 l (t.standIn n):=(.c h.led (.s<|by cases z))
def aa'(h:k8 l t) n:k8 l (t.orStandIn n):=by grind[SetTable.orStandIn,Bo]
def Fz:∀{u:Nat} {p:SetTable.Probe} {j:Nat} {d:.aR Nat},SetTable.probe.go t f h u p=.b (.empty j d)->t.slot j=.empty/\(.aM<|d=.fg->p.dummy=.fg\/t.slot k=.dummy)
 |0,p,j,d,e=>by cases e
 |u+1,p,j,d,e=>by
  unfold SetTable.probe.go at e;split at e
  .lk
  .let[L,C]:=Fz e;grind[SetTable.advance]
  .split at e
   .cases e
   .let[L,C]:=Fz e;grind[SetTable.advance]
def Nu{t:wQ}(h:t.slot j=.empty\/t.slot j=.dummy):.y2:=by unfold SetTable.slot at h;lk
def aba{t:wQ}(e:t.freeSlot h=.be j d):.y2:=by
 unfold SetTable.freeSlot at e;split at e
 .rename_i k D q;let[L,C]:=Fz q;cases e;cases D with
  |none=>show Nu (.z L)
  |some x=>
   let z|||z:=C x rfl
   .cases z
   .show Nu (.F z)
 .cases e
def abb(h:k8 l t) es hs x:k8 l (layNew t es hs x).2.1:=by
 unfold layNew;split
 .rename_i K a e;let J:=aba e;apply aa';show(.c h.led (.s<|aa7 (h.Nt z) J))
 .show Bo h _
def abc(h:k8 c t) es w:k8 c (zD t es w).2.1:=by
 unfold zD;split
 .rename_i g f e;dsimp only;split
  .unfold SetTable.relaid SetTable.laid at e;simp only[Option.bind_eq_bind,Option.bind_eq_some_iff] at e;let[b,_,e]:=e;cases e;calc(.c h.led .eq);let A:.lG ((.eZ (.mO (SetTable.sizeAbove w-1+1) λj=>(.i4 j none).map (j,·)))) (·<·):=by
    have:∀l:.h,l.Pairwise (·<·)->.lG (.v8) (·<·)/\∀x∈.v8,x∈l:=by
     intro l;induction l with
     |nil=>simp
     |cons a l E=>
      intro d;let d:=hV.mp d;let[n,v]:=E d.2;cases q:(.i4 a none) with
      |none=>rw[anL<|by rw[q];rfl];show(.c n (.eu<|by simp[v x D]))
      |some k=>
       rw[Ur<|by rw[q];rfl];calc(.c (hV.mpr<|.c (.eu (d.1 x<|v x D)) n)<|.eu ?_);let rfl|||D:=.c6 D
       .simp
       .simp[v x D]
    show(this _ Jq).1
   intro i j x y J D T;rw[anM] at D T;let[B,rfl]:=.bd D;let[M,rfl]:=.bd T;show Jo.mp A i j B M J
  .show Bo h _
 .show Bo h _
abbrev ik prog w:=intKind prog w
structure vt(prog:fu)(w:ew)(led:Bool)(S:.lm)(n:Nat)(es:.eR (Int×aw))(t:wQ):Prop where
 sT:ElemsOf (.kl w) es.toList
 mem:.aM (.n (S k)↔∃e∈es.toList,.n ((.kl w).is k e.2))
 bS:.c8<um
 fits:.n .m7
 size:.c8=n
 tab:k8 led t
def ic(prog:fu)(w:ew)(h:bI)(a:af)(l:Bool)(S:.lm)(n:Nat):=∃o b c t,.cT a=.v/\o.ExactSet/\.ce=.set b c t/\vt prog w l S n b t
def ic.keep(x:ic prog w h a l S n)(k:∀o,.cT a=.v->.lE a=.v):ic prog w h' a l S n:=by let[o,c,b,t,B,r]:=x;show(.ab o c b t (k _ B) r)
def ic.congr(x:ic prog w h a l S n)(e:.aM (S k=S' k))(b:n=n'):ic prog w h a l S' n':=.jP<|funext e
def Nv{h:bI}(b:.cT a=.v)(D:o.ExactSet)(N:.ce=.set es ep t)(q:vt prog w l S' n' x t'):
  (h.update a<|Us x t').get? a=.b {o with data:=.set x (ep+1) t'}/\ic prog w (h.update a<|Us x t') a l S' n':=by let[g,_]:=SetOf_store b D N q.sT q.mem q.bS q.fits;show{g,_,x,ep+1,t',g,D,rfl,q}
def Nw{g:Bool->Sem Unit}(S:∀b j (f:Unit->.ou),f () j->.k6 (g b) f j)
  (r:.d8 a=.v) (D:o.ExactSet) (N:.ce=.set es ep t) (q:vt prog w l S' n' d c)
  (h:∀h',mw a .R h'->ic prog w h' a l S' n'->R (.b true) .k0):
  .k6 (do
   storeSet a d c
   if .e2 (! J) c.tooFull then do
      g (zD c d<|zE d.size).2.2
      storeSet a (zD c d<|zE d.size).1 (zD c d<|zE d.size).2.1
      .aL (.b true)
    else .aL<|.b true) R s:=by
 calc ah (anN r N ?_<|anO q.bS);let[V,G]:=Nv r D N q;let M:=o4 .R a (Us d c);split
 .let m:=relayAll_perm c d (zE d.size);let i:=relayAll_fits c d (zE d.size);let T:=abc q.tab d (zE d.size);generalize zD c d _=Z at m i T|-;let[n,u,C]:=Z;let Y:n.size=d.size:=by have:=m.length_eq;lia
  let B:vt prog w l S' n' n u:=(.ab (q.sT.perm m) (.aU (.aA (q.mem k)<|.c (λ#[e,p,z]=>(.g e (m.mem_iff.mpr p) z)) λ#[e,p,z]=>(.g e (m.mem_iff.mp p) z))) (by rw[Y];show q.bS) i (by rw[Y];show q.size) T);calc ah (S _ _ _<|ah (anN V rfl ?_<|anO B.bS));show aG (h _ (M.trans<|o4 _ a _) (Nv V D rfl B).2)
 .show aG (h _ M G)
def abd{k}{x}{Q}(L:.n ((.kl w).is k x))(v:.n x.scannable)(H:ic prog w .R a l S n)(r:n+1<um)
  (h:∀h',mw a .R h'->ic prog w h' a l (λj=>S j||.aj j k) (.A (S k) n<|n+1)->Q (! S k) .k0):
  .ci (setAddHashed a x<|(.kl w).hash k):=by
 let[o,d,P,t,u,D,N,q]:=H;unfold setAddHashed setAddHashedIn;calc iz (ah<|zF u N q.fits ?_);dsimp only;rw[byScan_of v q.bS q.sT];simp only[↓reduceIte];unfold setAddByScan;calc ah (ah<|tZ (ah<|wpAny_setScan_of L u N q.fits q.sT ?_));cases X:List.findIdx? (λe=>(.kl w).is k e.2) d.toList with
 |some j=>
  dsimp only;let[I,R,_]:=Uh.mp X;let p:.n (S k):=(q.mem k).mpr (.D (wU I) R);calc aG .dC;let F:=h .R (Heap.SameBut.refl a .R) {o,d,P,t,u,D,N,q.sT,λj=>by rw[rR,decide_eq_true_eq,<-q.mem j];lk,q.bS,q.fits,by rw[p];show q.size,q.tab};cbv
 |none=>
  dsimp only;let no:S k=.j:=by rw[wV];intro z;let[e,he,R]:=(q.mem k).mp z;lk
  have U:∀(b:Bool) (B:bO) (f:Unit->.ou),f () B->.k6 (match b with|true=>rule "set.scan.the-table-gave-way"|false=>.aL ()) f B:=by
   intro b B f z;cases b
   .show aG z
   .show tZ z
  let m:=layNew_perm t d ((.kl w).hash k) x;let i:=layNew_fits t d ((.kl w).hash k) x;let T:=abb q.tab d ((.kl w).hash k) x;generalize layNew t d ((.kl w).hash k) x=Z at m i T|-;let[g,V,J,C]:=Z;dsimp only at m i T|-;rw[Array.toList_push] at m;let Y:g.size=n+1:=by have:=m.length_eq;simp only[zq,ez,Ut] at this;rw[this,q.size]
  have O:∀K,.n (K.fits g.size)->k8 l K->vt prog w l (λj=>S j||.aj j k) (n+1) g K:=λK W y=>
   (.ab ((q.sT.push L v).perm m) (mem_push_iff L q.mem m) .a W Y y);let c:∀h',mw a .R h'->ic prog w h' a l (λj=>S j||.aj j k) (n+1)->Q true .k0:=.d
  calc ah (U _ _ _ ?_);split
  .calc .fW;rw[hashByValue_scannable 8 v];refine aG<|Nw (λb B f z=>?_) u D N (O _ ?_ ?_) λh' M G=>?_
   .cases b<;>first|exact aG z|exact tZ z
   .split
    .show i
    room
   .split
    .show T
    .show(.c T.led (.s<|by cases z))
   .dsimp only;show aG (c h' M G)
  .calc .ik;simp only[↓reduceIte];refine Nw (λb B f z=>?_) u D N (O _ i T) λh' M G=>?_
   .cases b<;>first|exact aG z|exact tZ z
   .dsimp only;show aG (c h' M G)
def abe{K}(W:WalksS prog w .fR I a r G n P K) S(C:S∉a)(f:Nat->Int)(h:∀i v,P i v->∃t,v=.gy (f i))(Q:n+1<um) l:
  ∀k i s,n-i=k->i<=n->K i s->ic prog w .R S l (λj=>(kL f i).any (·==j)) (.m<|kL f i)->
   (∀J,Moved (S::r) G s J->ic prog w J.heap S l (λj=>(kL f n).any (·==j)) (.m<|kL f n)->R (.n2 .cy) J)->
   qg (.mA w) A (.builtin "set.update.loop"<|.gU [.p S,.p I]) R s:=by
 let u:S∉r:=.s (C<|W.sub _ z);let p:∀b∈r,b∈S::r:=λb z=>gR _ z;intro k;induction k with
 |zero=>
  intro i s L F Z H c;let e:i=n:=.a
  subst e;calc o8 anP ?_;rw[qt Uu _];calc .j5 _ (W.done s _ _ Z λJ q=>?_);show aG (c J (q.mono p)<|H.keep λo z=>q.heap S _ u z)
 |succ k E=>
  intro i s L F Z H c;let x:i<n:=.a
  calc o8 anP ?_;rw[qt Uu _];calc ah (W.item i s _ _ x Z λv J N D q=>?_);let[t,rfl]:=h i v N;calc .j5 _ (iz ?_);unfold setAdd;calc iz (ah<|(.kl w).pyHash (k:=f i) (intKind_is _ _ _ _) ?_);calc abd (s:={J with toks:=J.toks+1}) (intKind_is _ _ _ _) rfl (H.keep λo z=>q.heap S _ u z) (.dJ<|firstMet_length_le f i) λO M g=>?_;refine aG (.c (rT Uu _)<|E (i+1) _ .a x (W.frame _ J _ _ D (zj _) λb z o e=>?_) (g.congr (S':=λj=>(kL f<|i+1).any (·==j)) (n':=(.m (kL f<|i+1))) (λj=>by rw[firstMet_succ,step_any])<|by rw[firstMet_succ,step_length]) λd Y B=>?_)
  .rw[M.2 b λy:b=S=>C .d];show e
  .calc c d (Moved.trans W.gtrans ((q.mono p).then_heap (zj _) λb o z e=>?_) Y) B;rw[M.2 b λy:b=S=>z .d];show e
def ow(w:ew):=! .mC
abbrev oy(w:ew):Obj:={cls:=.type "set",dict:=none,data:=.set .bH 0 (.fresh 0 0<|ow w)}
def abf a(h:Q1 .dO (.h3 (.g4<|oy w))):
  qg (.mA w) A (.call (.fw "set.__new__")<|.gU [.type "set",a]) (wants Q1 E) s:=by calc codeAny_of_tree (.j5 _ (Jc (F.newCall_set_1 a)<|aG (.c (rT anQ _)<|o8 F.entry_set_new ?_)));rw[qt anQ _];unfold Builtin.«set.__new__» apo;let b:=sub_set_self;wp_walk;calc zG .dC;simp only[newObj];show ah (wpAny_alloc (aG<|aG h))
def abg(l:.cT a=.b (oy w)):ic prog w h a (ow w) (λ_=>false) 0:=
 {_,.bH,0,_,l,(.iY rfl),rfl,λe b=>by simp at b,.aU .f,.V,rfl,rfl,aa_ _}
set_option maxHeartbeats 3200000 in
theorem abh{l:af}{items:.eR aw}{ns:.S}{Q:.hq}(hh:.iI)(hl:.pL items)(hi:hU items.toList ns)(hb:.hX+1<um)
  (h:∀(h':bI) (tk:Nat),.uv->
   .w8->Q .dO .lJ):
  .ci (call (.type "set") [.dQ]):=by
 let[c,tl,aoY]:=uo.mro;let m1:=uo.made;let m2:=uo.sub;calc II (codeAny_of_tree<|aG (.c (Code.quiet_builtin _ .fp)<|o8 F.entry_type_call ?_));rw[Around.under_plain (weight_type_call_type "set" [.dQ] []) rfl];let n1:=uo.notType;let n2:=uo.canCreate;let n3:=F.typeCall_set_1 .dQ;repeat (any_goals (first|assumption|wp_step))
 calc wD (abf .dQ (E:=E) (Q1:=λv s1=>v=.dO/\s1=(.h3 (.g4<|oy w))) .bW) λr s1 hr=>?_;cases r with
 |error e=>show hr
 |ok fl=>
  cases fl with
  |ret obj=>
   let[rfl,rfl]:=hr;let hS:(.g4<|oy w).get? .G=.b (oy w):=.cB;let hT:anR (.h3 (.g4<|oy w)) .dO "set":=(.cx hS);let i1:=uo.init.lookup;let i2:=uo.init.bind .dO;repeat (any_goals (first|assumption|wp_step))
   refine wD (codeAny_call_builtin (R:=wants (λr s2=>r=.cy/\∃h' tk,s2=.lJ/\
    .uv/\
    .w8) E) uo.init.plain F.entry_set_init<|check_set_init_1 hT ?_) λr2 s2 oz=>?_
   .let[ol,Nx,Ny,nl,Nz]:=hl;let[aoZ,abi,ao0,abj]:=ol;simp only at Ny Nz;subst Ny;subst Nz;let abk:(.g4<|oy w).get? l=.b {cls:=.l1,dict:=abi,data:=.seq items nl,slots:=abj}:=.a1 Nx;let x1:=F.sub_list_set;let x2:=F.sub_list_frozenset;let x3:(nE .dI==nE .f6)=.j:=.V
    let NA:(.g4<|oy w).IsList l items:=(.aW _ abk nl rfl);unfold Builtin.«set.__init__» noKeywords apq;generalize hPI:rN=PI;wp_walk;subst hPI;calc IG NA (ah<|Uv ?_);let lt:l<.G:=bK Nx;let hh3:.H A.in1.in1.in1.handled:=by simp[hh]
    let ne:l≠(.g4<|oy w).objs.size:=by rw[iA];show cY (IX lt)
    let out:.G∉[(.g4<|oy w).objs.size,l]:=by rw[iA];simp only[cw,dj,zH,or_false,not_or];show(.c (cY<|Tj _)<|qe lt)
    have val:∀(i:Nat) (v:aw),items[i]?=.aO->∃t,v=.gy ((λi=>.o6 0) i):=λi v hv=>
     IntsAre.int_at hi i v (by rw[Dm];show hv);refine abe ((IT hh3 _ l ne items).toS) .G out (λi=>.o6 0) val hb (ow w) (.hX-0) 0 _ .a (eY _)
     (.c (.fG _ .cB)<|NA.push _) ?hS0 ?hR;case hS0=>show abg (.a1 hS)
    case hR=>intro s' mv FA;let[h',g',d',tk',os']:=s';let eg:g'=s.gens:=mv.gens;let ed:d'=s.drawn:=mv.drawn;let eo:os'=s.os:=mv.os;subst eg;subst ed;subst eo;change ao _ _ _ _ _ _;calc .dC;change ao _ _ (ret t_) _ _ _;calc aG (.ab rfl h' tk' rfl FA λb o hb e=>?_);calc mv.heap b o ?_ (.a1<|.a1 e);rw[iA];simp only[cw,dj,zH,or_false,not_or];show(.c (cY hb) (cY<|IX hb))
   .cases r2 with
    |error e=>show oz
    |ok fl2=>
     cases fl2 with
     |ret r=>
      let[rfl,h',tk,rfl,FA,hk']:=oz;repeat (any_goals (first|assumption|wp_step))
      show h _ _ FA hk'
     |_=>show oz.elim
  |_=>show hr.elim
def sU:Slot .nH "__next__" "set_iterator.__next__":=
 .of (owner:=.nH) (n:="__next__") .lW .bm .bm .bm (.z .bm) .lW
def NB:entryFor table "set_iterator.__next__"=.b Builtin.«set_iterator.__next__»:=entryFor_of_tree .lW
def NC:Manifest.owners.lookup (String.ofList ['r','o','t','a','r','e','t','i','_','t','e','s'].reverse)=.b Manifest.sig_set_iterator:=.lW
def ND a:Dp "set_iterator.__next__" (.gU [a]):=by unfold Dp;rw[signature?_of (n:=['_','_','t','x','e','n','_','_']) .lW NC];kernel_rfl
def abl:entryFor table "set.__iter__"=.b Builtin.«frozenset.__iter__»:=
 entryFor_alias (id':="frozenset.__iter__") .lW rfl .fp .lW
section
variable{s:bO}
def lZ(b:aw)(i:Nat)(a:af)(n ep:Nat):Obj:=(.gZ .nH<|.nM [b,.av i 0,.T,.av n 0,.av ep 0])
def vv(h:bI)(a:af)(es:.eR (Int×aw))(ep:Nat)(t:wQ):=∃o,.cT a=.v/\o.ExactSet/\.ce=.set es ep t
inductive Told(w:ew)(a:af)(h:bI)(es:.eR (Int×aw))(ep:Nat)(t:wQ)(vs:.b1):aw->.bn Prop
 |text (hb:.n .mC) (hv:vs=(Dq (.rF a) es).toList.map .jj) (i:Nat):Told w a h es ep t vs (.av (0:Nat) 0) i
 |plain (hb:.mC=.j) (hd:.tM) (hl:.n t.led) (hr:ou .mu) (hv:vs=.py) (i slot:Nat) (hs:.kt .mu slot=i):Told w a h es ep t vs (.av (slot:Nat) 0) i
 |drawn (q:af) (o:Obj) (ps:.h) (m:Nat) (hq:.cT q=.v) (hod:.ce=.j7 (ps.map λ(p:Nat)=>qc p 0) m) (hv:ps.map (.as (.ho<|es[p]?))=vs.map some) (i:Nat):Told w a h es ep t vs .cI i
def sV(h:.d8 I=.b (lZ b i a n ep)):.kR (.p I) .nH:=(.cx h)
def NF(U:.z5)(H:vv .R a es ep t)(J:.n .m7)
  (h:.k6 (do
   if let .av K _:=b then
    match<-Jr a K.toNat (.fl .j4) (.fl (ep:Int)) with
    |some (x,z)=>
     qk (.p I) 0 (eV z)
     qk (.p I) 1 (eV<|.j4+1)
     ret x
    |none=>qk (.p I) 2 .cy;Jd (<-C8 (.type .oC) [])
   else
    let .cA<-Js b|Jt "internal:set_iterator"
    match c[(.fl .j4)]? with
    |some (.int p _)=>
     let x<-setNextDrawn a p.toNat (.fl (ep:Int))
     qk (.p I) 1 (eV<|.j4+1)
     ret x
    |some _=>Jt "internal:set_iterator"
    |none=>qk (.p I) 0 (eV 0);qk (.p I) 2 .cy;Jd (<-C8 (.type .oC) [])) P s):
  .k6 (Builtin.«set_iterator.__next__»<|.gU [.p I]) P s:=by let[o,l,D,N]:=H;calc .ik;calc ah (T7 U rfl ?_);calc ah (anS l N J ?_);rw[.on];show h
def abm(h:.d8 I=.b (lZ b i a n ep)):
 (.tN).get? I=.b (lZ (.av k 0) i a n ep):=uf _ h rfl
def abn(x:Told w a h es ep t vs c i)(k:.a3 (c=.dn) (.fP=.v->.eT=.v)):Told w a h' es ep t vs c i:=by
 cases x with
 |text Y p i=>show .text Y p i
 |plain Y N d Z p i K e=>show .plain Y N d Z p i K e
 |drawn q o G m f y p i=>show .drawn q o G m (k q o rfl f) y p i
def NG{K}(l:.d8 a=.v)(N:.ce=.set es ep t)(J:.n .m7)(Y:.n .mC)
  (h:Q (((Dq (.rF a) es)[i]?).map λe=>(e.2,K)) s):.ci (Jr a K i ep):=by calc ah (zF l N J ?_);calc ah (ah<|zG .dC);rw[.vp];rw[.on];calc .fW;calc ah (zF l N J ?_);calc ah (ah<|zG .dC);rw[.vp];calc ah (zG<|aG .dC);show h
def NH{K}(l:.d8 a=.v)(N:.ce=.set es ep t)(J:.n .m7)(Y:.mC=.j)
  (b:.tM) (d:.n t.led) (h:Q (match es[.kt .mu K]?,.mu[.kt .mu K]? with
  |some (_,x),some j=>.be x (j+1)
  |_,_=>none) s):.ci (Jr a K i ep):=by unfold Jr;calc ah (zF l N J ?_);calc ah (ah<|zG .dC);rw[.x<|by intro z;show .ng (Y.symm.trans z)];calc wW (.s<|.aa (show .e2 (! t.plain) _ from z) .d) .eq;calc ah (wW (.s<|.aa (z) .d)<|.P .dC);show aG h
def next_item{I i ep:Nat}{a}{es}{t}{g v}{vs}{Q}(U:.d8 I=.b (lZ g i a .c8 ep))(H:vv .R a es ep t)(J:.n .m7)
  (M:Told w a .R es ep t vs g i) (r:vs[i]?=.aO)
  (h:∀F h',Told w a h' es ep t vs F (i+1)->(∀q,F=.cI->g=.cI)->.lE I=.b (lZ F (i+1) a .c8 ep)->mw I .R h'->Q .aO .k0):.ci (nG<|.p I):=by
 unfold nG;calc .uT;let[o,l,D,N]:=H;let W:∀k:Nat,Told w a ((.tN).update I (wK<|.pk 1 (eV<|.j4+1))) es ep t vs (.av k 0) (i+1)->.rb .fR (do
   qk (.p I) 0 (eV k)
   qk (.p I) 1 (eV<|.j4+1)
   ret v) (λc u=>∃v,c=Uw (Ux v)/\.nJ (.aL .aO) u) (λe u=>.nJ (do
    let x<-S1 e (nE .oC)
    if .n x then .aL none else throw e) u) s:=by intro k S;calc ah (rQ U rfl .f ?_);let B:(.tN).get? I=.b (lZ (.av k 0) i a .c8 ep):=abm U;calc ah (rQ B rfl .f ?_);refine aG<|.bZ (aG<|h _ _ S (λq z=>nomatch z) (uf _ B rfl) (.aA (o4 ..)<|o4 ..))
 cases M with
 |text Y n=>
  dsimp only;calc ah (NG l N J Y ?_);let e:.ho ((Dq (.rF a) es)[i]?)=.aO:=.d
  let[p,R,rfl]:=lG.mp e;simp only[rP,R,wj];show W 0 (.text Y n _)
 |plain Y b d Z n _ K hs=>
  dsimp only;calc ah (NH l N J Y b d ?_);simp only[rP,hs];let e:.ho (es[i]?)=.aO:=by rw[n,bG,Dm] at r;show r
  let[p,R,rfl]:=lG.mp e;let hi:=(anj.mp R).1;let P:t.place.size=.c8:=by unfold anT at J;lk
  obtain⟨j,T⟩:∃j,.mu[i]?=.b j:=(.cz<|nM .a);simp only[R,T];show W (j+1) (.plain Y b d Z n _ (j+1)<|by rw[aa8 Z T])
 |drawn q O G m f y n=>
  let L:q≠I:=by rintro rfl;rw[U] at f;cases f;cases y
  let e:.x5=.b .aO:=by rw[n,bG,r];rfl
  rw[bG] at e;let[p,R,V]:=lG.mp e;let[x,X,rfl]:=lG.mp V;dsimp only;calc ah (wh f y ?_);dsimp only;let C:.v7=.b (.av p 0):=by rw[rP,anM,bG,R];rfl
  simp only[C];calc .fW;unfold setNextDrawn;calc ah (zF l N J ?_);dsimp only;rw[.on];simp only[rP,X];calc .dC;calc ah (rQ U rfl .f ?_);calc aG (.bZ<|aG (h _ _ (.drawn q O G m ?_ y n _) (λq z=>z) (uf _ U rfl)<|o4 ..));show .aA (wH _ _<|i6 L) f
def FC(V:.iI)(h:∀L C,Q none (.h3<|(.g4 L).push C)):
  .rb .fR (do Jd (<-C8 (.type .oC) [])) (λc J=>∃v,c=Uw (Ux v)/\.nJ (.aL .aO) J) (λe J=>.nJ (do
   let x<-S1 e (nE .oC)
   if .n x then .aL none else throw e) J) s:=by calc .fW;calc .j5 (firstArgMember _ _) (Jc .bm ?_);calc nJ ?_ (by size_fits);calc ah (wpAny_handled ?_);rw[V];calc ah (aG<|wpAny_throw ?_);show ah (y8 (.cx .cB) isSubtype_stop (aG<|h _ _))
def next_end{I i ep:Nat}{a}{es}{t}{c}{vs}{Q}(V:.iI)(U:.d8 I=.b (lZ c i a .c8 ep))(H:vv .R a es ep t)(J:.n .m7)
  (M:Told w a .R es ep t vs c i) (j:.H (vs[i]?))
  (h:∀h',anm I .R h'->Q none .k0):.ci (nG<|.p I):=by
 unfold nG;calc .uT;let[o,l,D,N]:=H;cases M with
 |text Y n=>
  dsimp only;calc ah (NG l N J Y ?_);let e:.H ((Dq (.rF a) es)[i]?):=.d
  simp only[rP,e,Option.map_none];refine .vo
 |plain Y b d Z n _ K g=>
  dsimp only;calc ah (NH l N J Y b d ?_);simp only[rP,g];let e:.H (es[i]?):=.d
  simp only[e];refine .vo
 |drawn q O G m f y n=>
  let e:.H .x5:=.d
  rw[bG] at e;let e:=Option.map_eq_none_iff.mp e;dsimp only;calc ah (wh f y ?_);dsimp only;let C:.H .v7:=.d
  simp only[C];calc ah (rQ U rfl .f ?_);let B:(.oy I (wK (.pk 0<|eV 0))).get? I=.b (lZ (.av (0:Nat) 0) i a .c8 ep):=uf _ U rfl;refine ah (rQ B rfl .f<|FC V λL C=>h _ (((.aA (o4 ..)<|o4 ..).extBut.push _).push _))
def NI:Slot .nH "__iter__" "set_iterator.__iter__":=
 .of .bm .bm .bm .bm (.z .bm) .bm
def abo:entryFor table "set_iterator.__iter__"=.b Builtin.«dict_keyiterator.__iter__»:=
 entryFor_alias (id':="dict_keyiterator.__iter__") .lW rfl .fp .lW
def abp a:Dp "set_iterator.__iter__" (.gU [a]):=by unfold Dp;rw[signature?_of (n:=['_','_','r','e','t','i','_','_']) .lW NC];kernel_rfl
def abq(U:.d8 I=.b (lZ b i a n ep))(h:.eY I s):.ci (rN<|.p I):=by calc I7 (sV U) NI (lC NI (sV U) abo ?_<|abp _);show aG {_,rfl,.nH,_,sV U,sU.lookup,h}
def NJ(w:ew)(L:.bL)(I:af)(a:af)(es:.eR (Int×aw))(ep:Nat)(t:wQ)(vs:.b1)(i:Nat)(s:bO):=∃b,.z5/\vv .R a es ep t/\Told w a .R es ep t vs b i/\∀q,b=.cI->q∈L
def abr{vs:.b1}(V:.iI)(J:.n .m7)(h:I≠a):
  WalksS prog w A I (I::a::L) [I] (·=·) .bD (λi v=>vs[i]?=.aO) (NJ w L I a es ep t vs) where
 sub:=.a4 .d
 grefl:=.hI
 gtrans:=λ_ _ _ B M=>B.trans M
 frame:=λi s m x Z _ k=>by let[d,B,[o,l,D],g,P]:=Z;calc(.I d (.it I _ B) (.em (.it a _ l) D) (abn g λb j e z=>?_) P);lk
 item:=λi s Q E u Z c=>by let[d,B,M,g,P]:=Z;obtain⟨v,p⟩:∃v,vs[i]?=_:=(.cz<|cf u);calc next_item B M J g p λF m S f H n=>?_;let[o,l,D]:=M;refine c v _ p (.I F H (.em (.aA (n.2 a<|i6 h) l) D) S (λq e=>P q<|f q e))<|.cs (λb j Y e=>.aA (n.2 b .d) e) rfl rfl .ao
 done:=λs Q E Z c=>by let[d,B,M,g,P]:=Z;calc next_end V B M J g (iB .ao) λm r=>?_;show c _ (.cs (λb j Y e=>r b j .d e) rfl rfl .ao)
 self:=λi s Q E Z c=>by let[d,B,_]:=Z;show abq B c
def FD:∀{l:.aS} {i} h,(l[i]::l.eraseIdx i).Perm l
 |x::l,0,_=>.refl _
 |x::l,i+1,h=>by
  let a:i<.ax:=.d
  show .aA (List.Perm.swap x _ _) ((FD .a).cons x)
def NK f:∀n k e (C:.eR N),.fC=n->(pickOrder.go f n k e C).toList.Perm (C.toList++e)
 |0,k,e,C,h=>by simp_all[pickOrder.go]
 |n+1,k,e,C,h=>by unfold pickOrder.go;let K:f k% .fC<.fC:=Ju _ .a;rw[cf K];calc .aA (NK f n _ _ _ .d) ?_;simp[qp,FD]
def abt f(F:.eR N):(Dq f F).toList.Perm F.toList:=by have:=NK f F.size 0 F.toList .bH .f;room
def NM:∀n (F:.aS) s,.aE=n->(∀k J,k.Perm F->J.heap=.R->J.gens=s.gens->J.os=s.os->J.toks=.cw->Q k J)->.ci (drawOrder n F)
 |0,F,s,d,h=>by have:=rV.mp d;subst this;show aG (h [] s (.refl _) rfl rfl rfl rfl)
 |n+1,[],s,d,h=>by simp at d
 |n+1,x::F,s,d,h=>by calc .fW;intro u p H;change Sem.wp _ u (.choose .order _ .pure) _ _ p s;calc(.ft ?_);let K:(.mA w).w.draws .order (s.drawn.get .order)% _<(.m<|x::F):=Ju _ .f;generalize _% (.m<|x::F)=i at K;calc(.dC:_) u p H;rw[cf K];calc ah (NM n _ _ .d λk J R B M a P=>?_);calc aG (h _ J ?_ B M a P);show .aA (R.cons _) (FD K)
def abu{a}{es:.eR (Int×aw)}{ep}{t}{Q:.hq}(H:vv .R a es ep t)(G:.n .m7)(Y:.c8<um)(ok:k8 (ow w) t)
  (h:∀(vs:.b1) (L:.bL) (I:af) g,vs.Perm (.py)->.G<=I->(∀b∈L,.G<=b)->NJ w L I a es ep t vs 0 g->(.a3 (.eM=.v)<|.mW b=.v)->g.gens=s.gens->g.os=s.os->g.toks=.cw->g.heap.objs.size=I+1->.eY I g):
  .ci (rN .T):=by
 let[o,l,D,N]:=id H;let u:.kR .T "set":=(.em l D.1);calc I7 u anU (lC anU u abl ?_<|F.args_set_iter_1 _);unfold Builtin.«frozenset.__iter__» apr slotArgs;simp only[anV,S3,wg,↓reduceIte,bind_assoc,CT,bne_self_eq_false];unfold aps apt;calc .ik;try dsimp only
 refine .ik;calc ah (ah<|anS l N G .dC);calc .fW;unfold setDrawn;calc ah (zF l N G ?_);dsimp only;unfold setsByText;calc ah (ah (zG<|aG .dC));let P:∀vs:.b1,vs.Perm (.py)->Told w a (.g4<|lZ (.av (0:Nat) 0) 0 a .c8 ep) es ep t vs (.av (0:Nat) 0) 0->.rb .fR (do
   ret (<-newFields .nH [eV (0:Nat),eV (0:Nat),.T,eV .c8,eV (<-setEpoch a)])) (λfin J=>∃v,fin=Uw (Ux v)/\∃T' r,J.TypeIs v T'/\TJ (.type T') "__next__"=.aL (.b r)/\Q v J) E s:=by intro vs R hT;calc ah (anW l N G ?_);calc .v6;refine h vs [] _ _ R .ao (.a4<|nomatch Y) (.I (.av (0:Nat) 0) .cB (.q o (.a1 l) D N) hT λq z=>nomatch z) (λb ob e=>.a1 e) rfl rfl rfl<|iA ..
 by_cases c:.n .mC
 .calc wW (.s (.aa (show .e2 (! .mC) _ from z)<|by rw[c];simp)) .eq;calc .ik;show P _ ((abt _ _).map _) (.text c rfl 0)
 .let c:.mC=.j:=wV.mpr c;by_cases d:.e2 (! t.plain) (.bC<|.c8>1)
  .calc wW .eq (.s<|.aa (show .w7 by rw[c,d];rfl) z);calc ah (NM .c8 (aq .c8) s .f λk J R e1 C f e4=>?_);let n:.js=.c8:=by have:=R.length_eq;simpa using this
   calc ah (wpAny_newTuple ?_<|bC (CS<|.aA (aj ..) n) (.gK<|fv Y));let ho':J.heap.get? a=.v:=by rw[e1];show l
   have m:=bJ .to ho';calc ah (anW (s:={J with heap:=J.heap.push .to}) m N G ?_);calc .v6;let S:∀(O:.h),(∀z∈O,z<.c8)->∃vs:.b1,O.map (.as (.ho<|es[p]?))=vs.map some/\vs=.ho (O.filterMap (.as<|es[p]?)):=by
    intro O;induction O with
    |nil=>intro _;show(.iY [])
    |cons z O ih=>
     intro hz;let[vs,B,M]:=ih (.d2 (hz y<|by simp[T]));let K:=hz z .f;refine(.cf (es[z].2::vs) ?_)
     .rw[bx,bx,B,nM K];rfl
     .rw[Ur (b:=es[z])<|nM K,bx,M]
   let[vs,B,M]:=S k λz hz=>c4.mp (R.mem_iff.mp hz);let V:vs.Perm (.py):=by rw[M];calc anE _ (.aA (R.filterMap _) ?_);rw[filterMap_getElem?_range]
   let U:(J.heap.push .to).objs.size=.lR+1:=iA ..;calc h vs [.lR] _ _ V (by rw[U,e1];show zj _) (.a4<|by rw[.d4 Y,e1];show .ao) (.I (.p .lR) .cB (.q o (.a1 m) D N) (.drawn _ _ k 0 (.a1 .cB) rfl B 0) λq z=>?_) (λb ob e=>.a1 (.a1<|show J.heap.get? b=.b ob by rw[e1];show e)) C f e4 (iA ..);cases z;simp
  .have d:.tM:=wV.mpr d;calc wW (.s (.aa (show .w7 from z)<|by rw[d];simp)) .eq;calc .ik;let Z:ou .mu:=by
    cases p:t.plain with
    |true=>show ok.Nt p
    |false=>
     rw[p] at d;let hs:.c8<=1:=by simpa using d
     let NN:t.place.size=.c8:=by unfold anT at G;simp only[eG,beq_iff_eq] at G;show G.1
     intro i j x y Bp X W;lk
   show P _ (.refl _) (.plain c d (by rw[ok.led];unfold ow;rw[c];rfl) Z rfl 0 0<|aa9 Z)
end
def abv(M:.kR .T "set")(h:Q .j s):.ci (Builtin.List.listLengthHint .T):=by calc ah (y5 M F.slot_set_len.lookup ?_);generalize c:("set.__len__":String)=d;wp_delta;subst c;calc ah (y8 (b:=true) M (by rw[isSubtype_type];kernel_rfl) ?_);calc wW (.s<|.ng z) .eq;show ah (CU M<|aG h)
theorem abw{a}{es:.eR (Int×aw)}{ep}{t}{Q:.b1->.ou}(V:.iI)(H:vv .R a es ep t)(hf:.n .m7)(Y:.c8<um)(ok:k8 (ow w) t)
  (h:∀(vs:.b1) J,vs.Perm (.py)->(.a3 (.eM=.v)<|J.heap.get? b=.v)->J.gens=s.gens->J.os=s.os->.G<=.lR->Q vs J):
  .ci (Jv .T):=by
 let[o,l,D,N]:=id H;let K:a<.G:=bK l;let y:.G≠a:=qe K;unfold Jv;calc ah (Uv<|o8 anX ?_);rw[qt anY _];calc .v4;rw[qt Jw _];change ao _ .fR (an0 .dO .T .dO) _ _ _;unfold an0;let c:(.r7).get? a=.v:=.a1 l;let B:anR (.h3 .r7) .T "set":=(.em c D.1);calc ah (CU B ?_);let k1:an1 .dO .T=.j:=by simp[an1,y]
 let k2:(nE "set"==nE .dI)=.j:=.V
 let S:(nE "set"==nE .f4)=.j:=.V
 simp only[k1,k2,S,Bool.or_false,if_false];calc ah (abu (s:=(.h3 .r7)) (.q o c D N) hf Y ok λvs L I j R U hL Z P eg T u esz=>?_);let U:.G<I:=by rw[iA] at U;show U
 have r:j.heap.get? .G=.b (.nE<|.l2 ([]:.b1)):=P _ _ .cB;calc ah (iz<|abv (.em (P _ _ c) D.1) ?_);calc wW .eq (.s<|.aa .V z);calc ah (tZ ?_);calc .fW;change ao _ .fR (Jx .G (·.push .cy)>>=.P (Jx .G (·.pop))) _ _ _;calc ah (zI r rfl ?_);let d:=uf (kE (·.push t_)) r rfl;calc zI d rfl ?_;let x:=uf (kE (·.pop)) d rfl;let M:∀b g,b≠.G->j.heap.get? b=.b g->((j.heap.update .G (kE (·.push t_))).update .G (kE (·.pop))).get? b=.b g:=
  λb g Y e=>.aA (wH _ _<|i6 Y) (.aA (wH _ _<|i6 Y) e);let W:=abr (prog:=prog) (w:=w) (A:=.fR) (L:=L) (I:=I) (a:=a) (es:=es) (ep:=ep) (t:=t) (vs:=vs) .a hf (qe<|T3 K U);let X:.bD=.c8:=by have:=R.length_eq;lk
 let C:.G∉I::a::L:=by simp only[cw,not_or];grind[cY,iA]
 refine aG (.c (rT F.plain_extend_loop _)<|codeAny_extend_loopS W (by rw[X];show .gK (fv Y)) _ C _ .bD 0 _ _ _ rfl (eY _)
  (W.frame 0 j _ j.toks Z .ao λb Y g e=>M b g (.s<|C .d) e) x (ItemsOf.nil _) λJ f O G k n=>?_);calc ah (Tc k .dC);let acc:f.toList=vs:=by
  apply qr;intro i;rw[Dm];by_cases q:i<f.size
  .obtain⟨v,p⟩:∃v,f[i]?=.aO:=(.cz<|nM q);rw[p];show(n.2 i v p).symm
  .rw[T8 .a,iB<|.dJ n.1]
 rw[acc];calc h vs J R (λb g e=>G.heap b g ?_<|M b g (cY<|bK e) (P b g<|.a1 e)) (G.gens.symm.trans eg) (G.os.trans T) (fv<|bK k);simp only[cw,zH,or_false,not_or];show(.c (cY<|bK e) (cY<|T3 (bK e) U))
def abx{S:.lm}{n}{es:.eR (Int×aw)}{t}{a}(q:vt prog w a S n es t):∃ns:.S,hU (.py) ns/\.fA=n/\.aM (k∈ns↔.n (S k)):=by
 have F:∀l:.co Int aw,ElemsOf (.kl w) l->∃ns:.S,hU (.bA .jj) ns/\.fA=.ax/\.aM (k∈ns↔∃e∈l,.n ((.kl w).is k e.2)):=by
  intro l;induction l with
  |nil=>intro _;show(.ct [] .nil .f)
  |cons e l E=>
   intro d;let[ns,B,M,A]:=E d.tail;let[[k,L,_],_]:=d.head;let[c,b]:=amr L;refine(.q (k::ns) ?_ (by simp[M]) λj=>?_)
   .rw[bx,b];show .cons k c B
   .rw[cw,A];walk
    .lk
    .intro[f,H,z];let rfl|||H:=.c6 H
     .show .z ((.kl w).inj _ _ _ z L)
     lk
 let[ns,B,M,A]:=F es.toList q.sT;show(.q ns B (by rw[M,zq,q.size]) (.aU<|.aA (A k) (q.mem k).symm))
def aby(h:vs.Perm ws):∀{ns},hU ws ns->∃ms,hU vs ms/\ms.Perm ns:=by
 induction h with
 |nil=>lk
 |cons x _ E=>
  intro ns c;cases c with
  |cons n t B=>let[ms,a,b]:=E B;show(.g (n::ms) (.cons n t a)<|b.cons n)
 |swap x y l=>
  intro ns c;cases c with
  |cons n t B=>
   cases B with
   |cons m u M=>show(.g (m::n::_) (.ox m u n t M)<|.swap n m _)
 |trans _ _ I i=>lk
def abz{a}{S:.lm}{n}{Q:.hq}(hh:.iI)(x:ic prog w .R a (ow w) S n)
  (h:∀(h':bI) d' tk (l:af) (C:.b1) (ns:.S) ep,.G<=l->.tn->.yX->hU C ns->.fA=n->ns.Pairwise .mr->(.aM<|k∈ns↔.n (S k))->.eY l {s with heap:=h',drawn:=d',toks:=tk}):
  .ci (.lg .eE [.T]):=by
 let[o,es,ep,t,U,D,N,q]:=x;calc Uy Uz UA UB (args_sorted1 _) ?_;unfold Builtin.«sorted»;calc .tK;calc ah (abw .a (.q o U D N) q.fits q.bS q.tab λf J R P K T i=>?_);let[ns,W,v,z]:=abx q;let[ms,g,O]:=aby R W;let X:.kK=n:=by have:=R.length_eq;simpa[q.size] using this
 let r:.kK<=bh:=by rw[X,<-q.size];show .gK (fv q.bS)
 calc ah (Jy ?_ r);let H:(.rE .m9 0).get? .lR=.b (.jv .m9 0):=.cB;calc ah (iz (lC UD (.cx H) UE (an2 (s:={J with heap:=.rE .m9 0}) H g r λC j B M Z=>(.bZ ?_))<|args_list_sort _));calc aG (.bZ ?_);let u:∀b p,J.heap.get? b=.cL->(.z4).get? b=.cL:=by intro b p e;let Y:b<.lR:=bK e;grind[uq,wH,qe,trans,bJ]
 let c:∃ep,(.z4).get? .lR=.b (.kI C ep):=by unfold uq;obtain⟨L,V⟩:∃L,((.rE .m9 0).update .lR<|kE (.P .bH)).get? .lR=.b (.jv .bH L):=(.cz (zJ H<|.P .bH));let d:=bJ (.jv .bH 0) (bJ (e_ .f4 .m9 0) V);show(.cz<|zJ d λ_=>C)
 let[G,c]:=c;let[y,g',d',F,I]:=J;cases K;cases T;refine h _ d' F _ C.toList j G i (λb p e=>u b p<|P b p e) .a B ?_ Z (.aU ?_)
 .rw[M.length_eq,O.length_eq,v]
 lk
end Tw
end
section
open PySem PySem.Spec PyProof.Rows L2
open Vaglrc (Sym)
namespace Tw
def abA f n:(.a9<|kL f n):=by
 suffices h:∀(l b:.S),b.Nodup->(.a9<|.ef step_dedup b) from h _ _ .nil;intro l;induction l with
 |nil=>simp
 |cons a l E=>
  intro b h;calc E _ ?_;unfold step_dedup;split
  .show h
  .rename_i z;rw[jU];show(.i1 h λx D y T e=>by rw[dj] at T;subst T;subst e;show z (by simpa using D))
def abB(G:.bR "any")(he:.fi)(S:.bB "any":=by rfl) (V:.bP:=by rfl) (hs:.b4=.b5:=by rfl):
 .gI "any" [e] (mM (Lk X.K)<|kR t g4):=.no (Yg V) S G PyProof.Rows.boot_any<|fC he fY hs
def abC(G:.bR "sum")(he:.fi)(S:.bB "sum":=by rfl) (V:.bP:=by rfl) (hs:.b4=.b5:=by rfl):
 .gI "sum" [e] (mM (Lh X.K)<|kR t g4):=.no (Ya V) S G PyProof.Rows.boot_sum<|fC he fY hs
def abD(G:.bR "max")(he:.fi)(S:.bB "max":=by rfl) (V:.bP:=by rfl) (hs:.b4=.b5:=by rfl):
 .gI "max" [e] (mM (Li X.K)<|kR t g4):=.no (Yb V) S G PyProof.Rows.boot_max<|fC he fY hs
def Bq(P:fu)(w:ew)(a:af)(S:.lm)(n:Nat):HO:=.ext (.aQ<|ic P w h a (ow w) S n)
def NO(P:fu)(w:ew)(K:bj):.au->.cZ:=.rB .S<|c=[.jD]/\bf K H a (b.map V.int)/\.cU+1<um/\
 ∀p (Y:.S),Y.Nodup->(.aM<|k∈Y↔k∈b)->.bI p->.gQ (.a8 p<|Bq P w p (.aU<|.dY k Y) .jZ)
def abE(V:.bP):iI X (.type "set") (NO .ar X.w X.K):=by
 intro j s U H w y Q I r h;let[a,c,rfl,n,Y,q]:=h;let[g,m,d,v]:=.ev n;rw[aV.uL r];let p:=m.ints;let D:.f1=.c9:=p.length;calc abh (items:=.ck) (ns:=c) .iQ d.isList .a .d λA u f P=>?_;let e:(.ck).size=.c9:=.a
 rw[e] at f;refine(.cs (.p _) (.a8 .G<|Bq .ar X.w .G .w6 .z3) (I.laid (t':=u) (λb o z=>P b o (bK z) z) .ao ?_) (q _ _ (abA _ _) (.aU ?_)<|.gA _))
 .let G:=f.congr (S':=.w6) (n':=.z3) (.aU .d) rfl;calc(.g G ?_ λB M x k=>x.keep k);let[o,_,_,_,l,_]:=f;lk
 .have:=firstMet_any (λi=>c.getD i 0) .c9 k;rw[gx] at this;simp only[lJ,beq_iff_eq,exists_eq_right] at this;rw[this,aH];walk
  .lk
  .intro L;let[i,t,rfl]:=UG L;show(.g i (.fO t) .d)
def NP(P:fu)(w:ew):.au->.cZ:=λc H Q=>∃a S n,c=[.jD]/\H a=.b (Bq P w a S n)/\
 ∀(b:.S) p,.cU=n->b.Pairwise .mr->(.aM<|k∈b↔.n (S k))->.bI p->.gQ (.ie p<|b.map V.int)
def abF(p:.bP):iI X (.fw .eE) (NP .ar X.w):=by
 intro e s U H w v Q I r h;let[a,S,n,rfl,J,q]:=h;rw[aV.uL r];let[x,_,_]:=(I.aL a _ J);let t:n<um:=by let[_,y,_,_,_,_,_,f]:=x;have:=f.bS;rw[f.size] at this;show this
 calc abz (I.ok.hd p) x λu A i l C g k d P b j c m G=>?_;let z:.ae (g.map V.int) bh:=by rw[aj,c];show .gK (fv t)
 calc(.d6 .dQ ?_ (q g l c m G<|.nb d));let O:=I.laid (o:=.Z _) (t':=i) P d (.I z C k (AH j) b);show#[O.ok,O.os,O.bare,O.base,O.loc,O.cell,O.free,O.jY,O.pin,O.aL,O.len]
theorem abG(G:.bR "set")(he:.fi)(S:.bB "set":=by rfl) (V:.bP:=by rfl) (hs:.b4=.b5:=by rfl):
 .gI "set" [e] (mM (NO .ar X.w X.K)<|kR t g4):=uI (abE V) S G .fp (fC he fY hs) (he:=hs)
def abH(G:.bR .eE)(he:.fi)(S:.bB .eE:=by rfl) (V:.bP:=by rfl) (hs:.b4=.b5:=by rfl):
 .gI .eE [e] (mM (NP .ar X.w)<|kR t g4):=.no (abF V) S G UH<|fC he fY hs
section
variable{K:.c2}
def aP.bools:∀{ms:.ij} {vs},.pt (ms.map W.bl)->vs=ms.map V.bl
 |[],_,r=>r
 |m::ms,_,⟨v,t,e,r,q⟩=>.sE<|aP.bools q
def qT(G:.bR "any")(he:.de w)(hi:Is O w (dR bs))(S:.bB "any":=by rfl) (V:.bP:=by rfl) (hs:.b4=.b5:=by rfl):.iT (.eX "any" [e]) (bs.any id):=
 (.pv (abB G .E S V hs) he<|by let[a,_,rfl,Z,d,rfl,b]:=.go s r;rw[b.bools] at Z;show(.aW a bs .la<|q _ (.bl _) O c H .fJ rfl .bW)).xv
def NQ(G:.bR "sum")(he:.de w)(hi:Is O w (aM ns))(S:.bB "sum":=by rfl) (V:.bP:=by rfl) (hs:.b4=.b5:=by rfl):.bv (.eX "sum" [e]) ns.sum:=
 (.pv (abC G .E S V hs) he<|by let[a,_,rfl,Z,d,rfl,b]:=.go s r;rw[b.ints] at Z;show(.aW a ns .la .x4)).xv
def abI(G:.bR "max")(he:.de w)(hi:Is O w (aM ns))(T:0<.fA)(B:m∈ns)(M:∀y∈ns,y<=m)(S:.bB "max":=by rfl) (V:.bP:=by rfl) (hs:.b4=.b5:=by rfl):.bv (.eX "max" [e]) m:=
 (.pv (abD G .E S V hs) he<|by let[a,_,rfl,Z,g,rfl,b]:=.go s r;rw[b.ints] at Z;calc(.ab a ns rfl .la T λh f d=>?_);let e:=Int.le_antisymm (M _ f) (d _ B);subst e;show .x4).xv
def aZ.abJ{o}(s:.n0 d)(N:.bI q):bB U d Hs H O Hs (.a8 q o) O:=(.c (.q .er (λb u h _=>.z<|k5 N b u h) (λb h a=>.aa a h)<|.hx .ex) .uj)
def Br:∀ms:.S,.fb (ms.map .cJ) (ms.map V.int)
 |[]=>rfl
 |m::ms=>(.d6 _ rfl<|Br ms)
def abK{ns:.S}{p2 g}(G:.bR .eE)(M:.bR "set")(he:.de w)(hi:Is O w (aM ns))(hz:.bh .fA)(k:∀Y ms:.S,Y.Nodup->ms.length=.jZ->ms.Pairwise .mr->(∀z,z∈ms↔z∈Y)->(∀z,z∈Y↔z∈ns)->.n5 O [(p,aM ms)])(n:.bB .eE:=by rfl) (i:.bB "set":=by rfl) (V:.bP:=by rfl) (hs:.lT .y1=[(.kp .y1)]:=by rfl) (l:.b4=.b5:=by rfl):.i5 .eE [.sd "set" p2 [e] [] g]:=.mk λm H U s Q q=>
 (.D (abH G (abG M .E i V l) n V hs)<|he m H U s _ (.oV<|by let[a,_,rfl,Z,x,rfl,t]:=.go I.ok r;rw[t.ints] at Z;calc(.ab a ns rfl .la (.lB (.dg<|.fA+1<=1001)) λj Y D F b=>(.ab j _ _ rfl dk λms p2 d h f c=>?_));let S:=I.ok.abJ (o:=Bq .ar X.w j (.aU<|.dY k Y) .jZ) b;show q _ (.p p2) _ _ _ (.fZ<|S.ok.have c .aF (.l<|Br ms)) rfl (k Y ms D d h (.s .d) F p2)))
end
def FE(F:.aS)(k:Nat):jE F .fg none=F.drop k:=by unfold jE;change .aC (F.drop<|min k .aE) (.aE-min k .aE)=_;simp[nL,aR]
def NR(F:.aS)(k:Nat):jE F none .fg=F.take k:=by unfold jE;change .aC (F.drop 0) (min k .aE-0)=_;simp
def NS(F:.aS)(i j:Nat):jE F (.b i) (.b j)=.aC (F.drop i) (j-i):=by
 unfold jE;rw[HT.K0,HT.K0];by_cases h:i<=.aE
 .grind [wM,Jm,nL]
 .rw[Jm (.dg<|.aE<=i),Jk .ao,Jk .a];simp
def fh(p:Nat×Nat):W:=.gX p.1<|aa p.2
def bV(l:.bK):W:=.nk fh
def abL(a b:.h):mV (a.map aa) (b.map aa)=(a.zip b).map fh:=by
 unfold mV;induction a generalizing b with
 |nil=>rfl
 |cons x a E=>cases b with
  |nil=>rfl
  |cons y b=>rw[bx,bx,an3,E,nB];rfl
def abM(F:X.N.Nodup)(S:u[j]?=.b (.gG m))(he:.bv e n)(V:-(2^64)<n/\n<2^64)(k:.dE (u.set j (.gG<|m*n)) O)(hi:.d5 j=.bt:=by rfl) (a:.gR x:=by first|exact .iz|exact i8 rfl) (J:.f2 x\/.d7 x=.cP:=by first|exact .w|exact .cY):.gt u O (.AugAssign (.bz x t) .Mult e pos::G):=
 j9 (Kl F hi a .E WG J) λb H U E s c=>.rJ s.env S (.g v B<|he b H U s _ (.q1 (.ab m n M r (.F V)<|c.nx _ _ _ _ _ I.ext (I.ok.set j (w:=.u _) rfl) k)))
abbrev fl(ns:.a7)(ws:.aT)(f:Str):=.nN ws f
section
variable[.l4 κ]{kf:α->κ}{vf:α->W}
theorem vw:∀{L:.y α},dU (.bG kf) (.bG vf) k=(.z2).map vf
 |[]=>rfl
 |a::L=>by
  by_cases h:kf a=k
  .simp[dU,h]
  .let E:=vw (k:=k) (L:=L);grind[dU]
def Bs{L:.y α}(h:∀x∈L,kf x≠k):.H (dU (.bG kf) (.bG vf) k):=by grind[vw]
def abN{L:.y α}(h:dU (.bG kf) (.bG vf) k=.eP):∃x∈L,kf x=k/\vf x=w:=by
 rw[vw] at h;cases e:.z2 with
 |none=>lk
 |some x=>lk
def val_inj{L:.y α}(hi:∀y∈L,kf y=kf x->y=x)(D:x∈L)(a:kf x=k):dU (.bG kf) (.bG vf) k=.b (vf x):=by
 rw[vw];cases e:L.find? _ with
 |none=>lk
 |some y=>lk
def yd{L:.y α}(h:∀x∈L,kf x≠k):iP (.bG kf) k=.bG kf++[k]/\jC (.bG kf) (.bG vf) k w=.bG vf++[w]:=by grind[iP,jC]
end
section
variable{D:Dn}
def ar.mono(h:.kJ u O g {D with nx:=nx}) (k:∀o O',nx o O'->n o O'):.kJ u O g {D with nx:=n}:=.mk λa H U E s G=>h a H U E s (.q (λC o O' j b x J z=>G.nx C o O' j b x J<|k _ _ z) G.rt G.bk G.ct)
def mX J(V:XT X u O c k)(a:.n k->.kJ u O g {D with nx:=Up J}) (Y:k=.j->J u O) (I:∀o O',J o O'->.jH o):.gt u O (.If c g [] pos::G):=
 be V (.s<|(a z).mono λo O' #[e,j,f]=>(I e O' j).fg f) (.s (I _ _<|Y z))
end
def aZ.NT(s:.nF U u (O1++(p,c)::O2))(h:H p=.b ob)(N:fc Hs d ob):bB U u Hs H (O1++(p,c)::O2) Hs H (O1++(p,d)::O2):=by
 let[_,o,l,G,_]:=s.own.2 p c .f;rw[h] at l;cases l;let I:=s.write G N;let e:.a8 p ob=H:=by unfold upd;lk
 lk
def ar.ye{R1 R2:OM} j(I:Y[j]?=.b3)(k:.dE u ((.hT C<|Y.set j c)::(R1++R2))):.dE u ((.hT C Y)::(R1++(q,c)::R2)):=.mk λt H U E s n=>by
 let[A,i,g]:=s.freeze (O1:=(a,_)::R1);let[r,L,o,b,rfl,d,f]:=i.ok.box (p:=a) (c:=.dP ns Y) .f;let[v,V,l]:=f.get I;cases(l);let h:b.set j .cI=b:=by let[I,e]:=.bd V;rw[<-e];simp
 let m:=f.set j g;rw[h] at m;let S:=i.ok.NT (O1:=[]) L (.i d m);show k A H U E S.ok (n.ext (i.trans S).ext)
def ar.Bt{a q C}{ns}{Y}{qs:.bL}{cs}{R1 R2 R3:OM} j(I:Y[j]?=.b3)(b:.li=cs.length)(k:.dE u ((.hT C (Y.set j<|.Z cs))::(R1++(R2++R3)))):.dE u ((.hT C Y)::.w5):=.mk λn H U E s f=>by
 let m:((a,W.ins C ns Y)::.w5).Perm (.iv cs++((a,W.ins C ns Y)::(R1++(.dy q .hD)::(R2++R3)))):=by grind[List.perm_append_comm_assoc,qp,trans]
 let r:=s.perm m;let[A,i,g]:=r.ok.Bm b;let[h,L,l,rfl,e]:=i.ok.box (p:=q) (c:=.Z .hD) .f;rw[Bn e] at L;let S:=i.ok.NT (O1:=(.hT C Y)::R1) (d:=.Z cs) L (.l g);show(ar.ye (R1:=R1) j I k) A H U E S.ok (f.ext (.aA (r.trans i) S).ext)
def aX(f:Nat->W)(n:Nat):=.dt n f
def ie{n j}(h:j<n):(aX f n)[j]?=.b (f j):=by unfold aX;lk
def qU:(aX f n).set j w=aX (λi=>.A (i=j) w<|f i) n:=by unfold aX;apply qr;lk
def oA:(.m<|aX f n)=n:=by simp[aX]
def j_(h:∀i,i<n->f i=g i):aX f n=aX g n:=dG λi a=>h i (c4.mp a)
def sW:bL n c=aX (λ_=>c) n:=by simp[aX,Jz]
structure XP(X:Cx)(Γ:Gm)(O:OM)(e:bZ)(w:W):Prop where
 go:.oz .ns (∃v,.fm w/\∀H',Le H H'->∀Q:VK,Q v H'->cE X e σ H' Q)
def mY{j:Nat}(F:.d5 j=.bt:=by rfl) (S:u[j]?=.b .eP:=by rfl) (p:uA .hY x:=by first|exact .iz|exact i8 .iz|exact i8 (i8 rfl)) (N:(.iF x)=.j:=by decide) (a:(x==("__classdict__"))=.j:=by decide):XP X u O (.bz x pos) w:=.mk λc H U s=>.rJ s.env S (.g v M λb _ Q q=>(.I _ (Kc F p N a) v B q))
def NU(l:XP X h O o w)(hi:Is O w (.dP ns ws))(cl:gD X.K C)(N:mK X.K C f)(d:.nN ws f=.aJ)(Y:.iu o f=.d1:=by rfl):XP X h O (.o3 o pos) u:=.mk λj H U s=>by let[a,r,g]:=l.go j H U s;let[p,k,rfl,Z,i,m,rfl,t,b]:=.go s r;let z:=b.fld (f:=f) (ns:=ns);rw[d] at z;let[v,L,e]:=z;show(.g v e λc I Q q=>(.D (KL .E Y)<|g c I _ {p,C,i,_,v,rfl,(I _ _ Z).lst .e1,cl,N,L,q}))
def Bu(l:XP X c O o w)(hi:XP X c O i (.u k))(hw:Is O w .gT)(J:jb ws k=.aJ)(hs:xr i:=by intro _ _;rfl):XP X c O (.hL o i) u:=.mk λd H U s=>by let[a,r,g]:=l.go d H U s;let[A,h,V]:=hi.go d H U s;let[p,j,rfl,Z,f,rfl,e]:=hw.at rfl s r;let[v,L,C]:=e.at J;show(.g v C λb I Q q=>(.D (uJ D2 .E .E hs) (g b I _<|V b I _ {p,f,k,v,rfl,h,bf.of<|(I _ _ Z).lst .e1,L,q})))
def sX(h:H d=.aJ)(N:vh u):Le H (.a8 d<|.aB od u):=λp o r=>by
 by_cases e:p=d
 .subst e;let[r,n]|||[[z,r],_]:=r
  .rw[h] at r;cases r;show .F (.c (.c od dk) N)
  .rw[h] at r;cases r;show N.elim
 .unfold Rx;rw[aY e];show r
def aZ.lock(s:.n0 a)(h:Hs d=.aJ)(N:vh u):aZ (upd Hs d<|.aB od u) (.a8 d<|.aB od u) U a O:=by
 let I:=sX (od:=od) h N;refine(.g (.bQ ?_) (s.own.le I .hR λp R o e=>?_)<|n_.le I s.env)
 .by_cases z:b=d
  .subst z;rw[dk] at e|-;show e
  .rw[aY z] at e|-;show .gq _ e
 all_goals
  let[[_,c],m,rfl]:=.Y R;let n:=(s.own.2 _ _ m).1;grind[aY]
def unlock(s:.n0 k)(h:Hs d=.aJ)(N:vh u)(x:Ext (upd Hs d<|.aB od u) (.a8 d<|.aB od u) O j H' O')(J:aZ j H' C f O'):H' d=.e8 od u/\Ext Hs H O (upd j d u) (upd H' d u) O'/\aZ (upd j d u) (upd H' d u) C f O'/\Le j (upd j d u):=by
 let i:d∉ks O:=.s (by let[[_,c],m,rfl]:=.Y z;have:=(s.own.2 _ _ m).1;lk)
 have a:=(x.keep d _ dk i).is .kr;let g:j d=.e8 od u:=by
  let[r,_]|||[[z,r],_]:=(x.le d u (.F<|.c (.c od dk) N))
  .have:=J.sub _ _ r;lk
  .have:=J.sub _ _ r;lk
 have I:Le j (upd j d u):=λp o r=>by
  by_cases e:p=d
  .subst e;let[r,n]|||[[z,r],q]:=r
   .rw[g] at r;cases r;cases u<;>first|exact N.elim|exact rL n
   .rw[g] at r;cases r;show .hl dk (by cases u<;>first|trivial|exact N.elim)
  .unfold Rx;rw[aY e];show r
 refine(.q a (.q (.aA (sX h N)<|x.le.trans I) (λb o e n=>?_) (λb e n=>?_) λb e=>?_) (.g (.bQ ?_) (J.own.le I .hR λp R o e=>?_)<|n_.le I J.env) I)
 .by_cases z:b=d
  .subst z;rw[dk,<-(.gq _ h)];show .z e
  .rw[aY z];show x.keep b o (.nL<|aY z) n
 .let z:b≠d:=.s .d
  rw[aY z] at e;have:=x.new b e (by rw[aY z];show n);rw[aY z] at this;show this
 .let z:b≠d:=.s (by let[[_,c],m,rfl]:=.Y e;have:=(J.own.2 _ _ m).1;lk)
  have:=x.own b e;rw[aY z] at this;show this
 .by_cases z:b=d
  .subst z;rw[dk] at e|-;show e
  .rw[aY z] at e|-;show J.sub _ _ e
 all_goals
  let[[_,c],m,rfl]:=.Y R;let n:=(J.own.2 _ _ m).1;grind[aY]
def Acc.lock(G:Acc Hs H O D E)(s:.n0 f)(h:Hs d=.aJ)(N:vh u):Acc (upd Hs d<|.aB od u) (.a8 d<|.aB od u) O D (.q (λC H'=>H' d=.e8 od u/\E.nx C (upd H' d u)) (λv H'=>H' d=.e8 od u/\E.rt v (upd H' d u)) (λC H'=>H' d=.e8 od u/\E.bk C (upd H' d u)) λC H'=>H' d=.e8 od u/\E.ct C (upd H' d u)):=
 {.sr (unlock s h N x J) (.c a<|G.nx _ _ _ _ _ b c k),
  λv w e j H' x M L r k=>let⟨a,b,c,I⟩:=unlock s h N x (.g M L .nil);(.c a<|G.rt _ _ _ _ _ b c.sub c.own (r.le I) k),
  .sr (unlock s h N x J) (.c a<|G.bk _ _ _ _ _ b c k),
  .sr (unlock s h N x J) (.c a<|G.ct _ _ _ _ _ b c k)}
section
variable{κs:.y Key}{K:.c2}
def Acc.seq(a:Acc Hs H O D E):Acc Hs H O (.ph<|.jH o) {E with nx:=fE X G E}:=.vn
def zip_get{N c:Type}{l:.aS}{m}{i:Nat}{a}{b:c}(h:(l.zip m)[i]?=.be a b):l[i]?=.b a/\m[i]?=.b b:=.d
def Bv(g:κs.length=.lj)(h:H d=.e8 od (.dK .n7))(N:d∉ks O):jF (Ew d od .n7) (κs.map kW) Hs H O:=λU u f F n x s=>by
 let M:=(x.keep d _ h N).is .kr;let e:(.m .n7)=κs.length:=.d
 calc(.g (λi w a=>?_) M .d);rw[bG] at a;cases E:κs[i]? with
 |none=>lk
 |some k=>rw[E] at a;cases a;calc(.c (.c M .d) λy b z=>?_);let[rfl,c,S,L,rfl]:=z;rw[(zip_get L).1] at E;cases E;show(.g F .fJ<|by cases k<;>rfl)
def NV{us}(o:κs.length=.lj)(rs:.fb vs us)(h:H d=.e8 od (.dK .n7))(N:d∉ks O):jF (Ey d od .n7) (mV (κs.map kW) vs) Hs H O:=λU r m F n x s=>by
 let M:=(x.keep d _ h N).is .kr;let g:(.m .n7)=κs.length:=.d
 let p:=rs.len;calc(.g (λi w a=>?_) M<|by rw[g];simp[mV];lia);unfold mV at a;rw[List.getElem?_zipWith,bG] at a;cases E:κs[i]? with
 |none=>lk
 |some k=>
  cases b:vs[i]? with
  |none=>lk
  |some u=>rw[E,b] at a;cases a;calc(.c (.c M .d) λy q z=>?_);let[T,l,S,L,rfl,j,rfl]:=z;let[V,e]:=zip_get L;rw[V] at E;cases E;let[f,c,G]:=rs.get b;rw[e] at c;cases c;show Fq s j (by cases k<;>rfl) (G.le x.le)
def FF(he:XP X u O e (.dK κs vs))(s:.fh):∃d us,κs.length=.lj/\.fb vs us/\d∉ks O/\.w2/\((∃od,H d=.e8 od (.dK .n7))\/Hs d=.b (.dK .n7)):=by
 let[v,[d,_,rfl,Z,us,rfl,b,a],g]:=he.go Hs H U s;refine#[d,us,b,a,.M,g,?_]
 .let[[_,c],m,rfl]:=.Y z;have:=(s.own.2 _ _ m).1;let[q,_]|||[[_,q],_]:=Z<;>rw[q] at this<;>cases this
 .let[q,_]|||[[od,q],_]:=Z
  .lk
  .show .hl od (.gq _ q)
def abO(he:XP X u O e (.dK κs vs))(f:Loop X c a G D u (κs.map kW) O)(R:wz .kW X.A .X X.xe:=by show Dl) (V:.bP:=by rfl) (hs:∀x,nH e .X x=.aL x:=by intro _;rfl):.gt u O (.For c e a [] pos::G):=.mk λj H U E s i=>by
 let[d,l,o,k,N,g,h|||h]:=FF he s
 .let[b,h]:=h;show(.D (sh .z1 fE.ok) (g H .er _<|.ct d b (.z<|.D h (f.go s i.seq<|Bv o h N))))
 .calc{_,sh (Er .z1) fE.ok,d,_,.gq _ h,.aF,.bw ?_};show g _ (sX (.gq _ h) .aF) _ (.ct d b (.z<|.D dk (f.go (s.lock h .aF) (i.seq.lock s h .aF)<|Bv o dk N)))
def FG(he:XP X u O e (.dK κs vs))(n:Loop X (.hz k Y c) f G D u (mV (κs.map kW) vs) O)(R:wz .kW X.A .X X.xe:=by show Dl) (V:.bP:=by rfl) (i:.y0:=by rfl) (a:.tY b.line:=by rfl) (hs:∀x,nH (.qd e "items" j [] b) .X x=.aL x:=by intro _;rfl):.gt u O (.For (.hz k Y c) (.qd e "items" j [] b) f [] pos::G):=.mk λq H U E s p=>by
 let[d,r,o,m,N,g,h|||h]:=FF he s
 .let[l,h]:=h;show(.D (sh .yZ fE.ok) (g H .er _<|.ab d l _ rfl h (n.go s p.seq<|NV o m h N)))
 .calc{_,sh (Er .yZ) fE.ok,d,_,.gq _ h,.aF,λl=>?_};show g _ (sX (.gq _ h) .aF) _ (.ab d l _ rfl dk (n.go (s.lock h .aF) (p.seq.lock s h .aF)<|NV o (m.le<|sX h .aF) dk N))
def NW(n:X.N.Nodup)(l:.jd Str)(p:nY X.N .hY F l)(he:XP X u O e (.dK κs vs))(L:Lc X z E f F (.bA .jj) K u (κs.map kW) O)(V:.bP:=by rfl) (hs:∀x,nH e .X x=.aL x:=by intro _;rfl):.ez (.iG f [(.q z e E 0)] F):=.mk λA H U s Q q=>by
 let[d,C,o,B,N,g,h|||h]:=FF he s
 .let[i,h]:=h;show(.D .x3<|g H .er _ (.ct d i<|.z (.D h<|L.go s (Bv o h N) q)))
 .calc{_,Y6 .x3,d,_,.gq _ h,.aF,λi=>?_};calc g _ (sX (.gq _ h) .aF) _ (.ct d i<|.z (.D dk<|L.go (Q:=λv m=>m d=_/\Q v (L2.upd m d _)) (s.lock h .aF) (Bv o dk N) λv w t j m I r k=>?_));let[a,b,c,y]:=unlock s h .aF I.ext I.ok;show(.c a<|q v w t _ _ (.c b c) (r.le y) k)
end
end Tw
namespace PySem
def NX(h:bI)(d:af)(n:Nat):=∃o a b,.cT d=.v/\.oZ/\.ce=.dict a b/\a.size=n
def abP(N:(d==kB)=.j):
  MeetsIn prog w (Builtin.«dict.__len__»<|.gU [.p d]) (λ_ R s=>∃n,NX .R d n/\R (.n2<|.av n .cw) (.mJ<|.cw+1)):=
 .of_wp λA R s #[n,G,h]=>by let[o,b,a,l,V,H,c]:=G;change ao _ _ (dictSize d>>=_) _ _ s;calc ah (ah<|I_ l H .dC);calc ah (wpAny_pendingCount_other N ?_);calc wpAny_ret_mkInt ?_;lk
def abQ(N:(d==kB)=.j)(G:NX .R d n)(f:.dZ<2^63)
  (h:Q (.av n<|.cw+1) (.mJ<|.cw+1+1)):.ci (.lg .dm [.p d]):=by
 refine Uy kind_len plain_len entry_len (args_len1 _) ?_;let Y:.kR (.p d) .f6:=let⟨o,_,_,l,V,_⟩:=G;(.em l V.1);refine .j5 (callSpecial? _ _)<|wG Y an4
  (C7 an4 Y F.entry_dict_len (F.args_dict_len_1 _) (abP N)<|.cf n G);calc ah (iz .dC);calc ah (Ds ?_);change ao _ _ (.e9 ((.cg (n:Nat))>=2^63) _ _) _ _ _;rw[.cD];show ah (wpAny_mkInt (aG<|.bZ h))
end PySem
namespace Tw
def abR:iI X (.fw .dm) (.qX<|F=[.jD]/\Rd H a (.dT j)/\Q (.u .cS) H):=by
 intro c s U H F e Q I r h;let[a,j,rfl,J,q]:=h;let[u,rfl,t]:=vals1 r;cases t;let[z,y,F,T,o,b,d,B,M,A,P,_]:=pE I.aL J;let Y:b.size=.cS:=by rw[T9 P];show(mx T).symm
 calc abQ y #[o,b,d,B,M,A,Y] (by rw[oV] at z;lia) ?_;show(.I (.u .cS) H .if (.a5 _) q)
def abS:iI X (.fw .dm) (.qX<|F=[.jD]/\Rd H a .fT/\Q (.u .cS) H):=by intro b s U H F f Q I r h;let[a,j,rfl,J,q]:=h;let[u,rfl,d]:=vals1 r;cases d;show YG I J λt e c=>(.I (.u .cS) H c (.a5 t) q)
section
variable{K:.c2}
def Bw(G:.bR .dm)(he:.de w)(hi:Is O w (.dT b ws))(d:.cU=.bp)(S:.bB .dm:=by rfl) (hs:.b4=.b5:=by rfl):.yY:=
 (.pv (.no abR S G Ui<|fC .E fY hs) he<|by let[a,_,rfl,Z,h,rfl,f,g]:=.go s r;show(.aW a _ Z.rd<|q _ _ O c H .fJ (by rw[uu,<-f,an5];rfl) .bW)).xv
def Bx(G:.bR .dm)(he:.de w)(hi:Is O w (.dK b ws))(S:.bB .dm:=by rfl) (hs:.b4=.b5:=by rfl):.yY:=
 (.pv (.no abS S G Ui<|fC .E fY hs) he<|by let[a,_,rfl,Z,f,rfl,d,g]:=.go s r;show(.aW a _ Z.rd<|q _ _ O c H .fJ (by rw[uu,<-d,an5];rfl) .bW)).xv
def NY(hu:.jr+2<eE)(l:.cH b o w)(he:.cH b e wk)(B:.cH b f wd)(N:eM O w wk r)(G:M2 X o "get" j e f D:=by show(.fG rfl rfl)):.cH b (.jA "get" j [e,f] D) (r.getD wd):=.mk λp H U s Q q=>
 (.D (Y0 hu .E .E .E G) (l p H U s _ λx A P I g=>by
  have Y:∃a,x=.T/\xD P a:=by
   cases N with
   |k h T=>let[a,_,rfl,i,vs,rfl,_]:=h.at rfl I.ok g;show(.aX a<|.hl _ i.rd)
   |t h T=>let[a,_,rfl,i,vs,rfl,_]:=h.at rfl I.ok g;show(.aX a (.F<|.cz i.rd))
  let[a,rfl,J]:=Y;calc(.dB a J<|he A P U I.ok _ (.jh<|B F n U S.ok _ λz Z E M R=>?_));let[C,v,L,V,d]:=N.get M.ok ((.qq).le M.ext.le) (m.le M.ext.le);cases L;calc(.cf v V);cases r with
  |none=>cases(d);show q _ Z E (.fZ M) R
  |some u=>let[z',rfl,c]:=d;show q _ Z E (.fZ M) c))
theorem vx(j:.jr+2<eE)(B:∀p,.ks a (O++[(p,.dT [] [])]) e (fT k))(M:∀p,.ks a (O++[(p,.dT [] [])]) f u)(Y:.n5 O [(p,.dT [k] [u])]):.yW:=.mk λh H U s Q q=>
 (.D (aaq j .E .E) (.dz<|by let r:=s.have (o:=.dT []) R .aF (fc.t (ks:=[]) (ws:=[]) (vs:=[]) rfl rfl);calc B p h _ U r.ok _ λx A P i g=>M p A P U i.ok _ (.jh ?_);let[b,rfl,T]:=Fn S.ok.sub .qq;let[_,L,t,rfl,l,v]:=S.ok.box (p:=p) (c:=.dT [] []) .f;show(.ab b k rfl L T (q _ .aG _ _ _ (.aA (.aA (r.trans i) S)<|S.ok.write (O2:=[]) (d:=.dT [k] [u]) (o:=.dT [(k,y)]) .aF (fc.t (ks:=[k]) (vs:=[y]) rfl<|.one m)) rfl<|Y p))))
end
section
variable{K:.c2}
def XE.pN{R:.l6}(h:.kS e λi O'=>∃p c,i=.aG/\O'=(p,c)::O/\R c):.kS e (λw O'=>O'=O/\R w):=.qE<|h a H U x Q λv i O' j b I r z=>by let[p,c,rfl,rfl,P]:=z;let[F,S,m]:=I.ok.freeze (O1:=[]);cases(r);show q _ _ _ F b .cO m (.aY P)
def FH[Inhabited c] n(r:.bn (c->Prop))(x:c->W)(hz:.eg n)(t:.bp=n)
  (hs:∀i w,ws[i]?=.eP->i<n->∃A,∀p acc s H C cl a,XG (.hv F s H C cl a) (qQ u vs) o w A vs/\XE (.hv F s H C cl a) A (O++(.f9 acc)) d λw O2=>O2=O++(.f9 acc)/\∃b,w=x b/\r i b)
  (k:∀p (D:Nat->c),(∀i,i<n->r i (D i))->.pn (O++(.f9<|aX (λi=>x<|D i) n))):Lc X o [] d F vs K u ws O:=by
 refine(.I (by rw[t];show lt_size hz) (λi acc m=>∃D:Nat->c,(∀j,j<i->r j (D j))/\acc=aX (λi=>x<|D i) i/\m=O) (.fG (λ_=>default) λj h=>.a) ?_ ?_)
 .intro i w acc _ p g [D,B,rfl,rfl];let[A,V]:=hs i w g (by rw[<-t];show(.aw g));refine(.q A true (λs H C cl a=>(.aX (V p [] s H C cl a).1 (.P<|(V p _ s H C cl a).2.mono λw O2 #[L,b,l,f]=>(.gE _ L (λj=>.A (j=i) b<|D j) (λj I=>?_) ?_)))) .aV)
  .by_cases e:j=i
   .subst e;simp only[if_true];show f
   .simp only[.bU];show B j .a
  .unfold aX;rw[lH,bo,l];congr 1
   .show dG λj I=>.jg (x (D j)=x (.A (j=i) b<|D j)) (.x (.dJ<|c4.mp I))
   .simp
 .intro acc _ p [D,B,rfl,rfl];rw[t] at*;show k p D B
end
def FI:.w3
 |[]=>rfl
 |k::ks=>(.aW _ _ (by cases k<;>rfl)<|FI ks)
def NZ(T:KV j vs):∀{us},.lj=.bD->(∀(i:Nat) v,us[i]?=.aO->∃k x,vs[i]?=.be k x/\.n (pj k v))->.dG (j.map (.as<|kV p.1)):=by
 induction T with
 |nil=>intro us d _;rw[rV.mp d];show .nil
 | @cons p q G a f t E=>
  intro us d h;cases us with
  |nil=>cases d
  |cons u us=>
   calc .bj ?_ (E .d λi v e=>h (i+1) v e);let[k,x,L,C]:=h 0 u rfl;cases L;change L2.RelV (kV p.1) u;rw[f.1];let[i,t,rfl,rfl]|||[x,t,rfl,rfl]:=kP C
   .show(.a5 t)
   .show(.a5 t)
def abT(k:.bP):iI X .l1 (.qX<|F=[.jD]/\Rd H a .fT/\∀l,.bI l->.eY l (L2.upd H l (.Z<|j.map (.as<|kV p.1)))):=by intro f s U H F w Q I r h;let[a,j,rfl,J,q]:=h;let[u,rfl,t]:=vals1 r;cases t;let[z,N,B,T,D]:=lQ I.aL J;let[x,A]:=D.dictAt;let d:=mx T;calc an6 (an7 N) (I.ok.hd k) A .a λm g b c y o n=>?_;refine(.d6 .dO (I.laid (t':=g) y .ao<|show eA .ar X.w _ m _ (.Z<|j.map (.as<|kV p.1)) from(.I .d b.toList c (NZ T (by rw[zq];show n.1) λi v e=>n.2 i v .d) .a)) (q _<|.gA _))
section
variable{K:.c2}
def N0(G:.bR .dI)(he:.de w)(hi:Is O w (.dK f ws))(d:.kK=.bp)(k:.jG O (f.map kW))(S:.bB .dI:=by rfl) (g:.bP:=by rfl) (hs:.b4=.b5:=by rfl):.i5 .dI [e]:=
 jf (uI (abT g) S G .bm (fC .E fY hs) (he:=hs)) he λj H U v Q s r q=>by
  let[a,_,rfl,Z,h,rfl,m,i]:=.go s r;calc(.aW a _ Z.rd λl b=>?_);let L:.d0 (f.zip h) (kV p.1)=f.map kV:=by rw[.lX<|(λp:Key×V=>kV p.1)=kV∘Prod.fst,<-a_,UI .a]
  rw[L];let I:=s.have (o:=.Z<|f.map kV) (c:=.Z<|f.map kW) b .aF (.l<|FI f);show q _ .dQ _ _ _ I rfl (k l)
end
structure yf(X:Cx)(Γ:Gm)(O:OM)(e:bZ)(K:Bool->.fq):Prop where
 go:.oz .ns (∀Q:Bool->.cF,(∀b O' cU H',bB σ Γ Hs H O cU H' O'->K b O'->Q b H')->cT X e σ H Q)
section
variable{K:Bool->.fq}
def N1(J:.kS a λwa O1=>∃i j,wa=.do/\.rf O1 b j/\K (.ai j i) O1)(G:kC .Gt b=.j:=by rfl):yf X u O (.gC a [.Gt] [b]) K:=.mk λc H U s Q q=>
 (.D (DW KE .E .E G)<|J c H U s _ λx w O1 A P I r z=>by let[i,j,rfl,Y,k]:=z;show Y A P U I.ok _ (.jh {i,j,r,m,_,rfl,q _ O1 F n .cO k}))
def abU(V:yf X u O c λk O1=>.w4/\(k=.j->.kJ u O1 a (.ph<|.jH o))):.gt u O (.If c g a pos::G):=
 j9 (Kh cT.ok fE.ok fE.ok) λd H U E s b=>V.go d H U s _ λk O1 A P I z=>by
  cases k with
  |true=>show kX (z.1 rfl A P U E I.ok .o2)
  |false=>show kU (z.2 rfl A P U E I.ok .o2)
def N2(V:yf X u O c λk O1=>.w4/\(k=.j->.dE u O1)):.gt u O (.If c g [] pos::G):=
 abU {λd H U s Q q=>V.go d H U s Q λb O' j a I k=>q b O' j a I (.c k.1<|.s (aD<|k.2 z))}
def abV(V:yf X u O c λk O1=>(.n k->.qS u O1 a L)/\(k=.j->.qS u O1 b L)):.kS (.IfExp c a b pos) L:=.mk λe H U s Q q=>
 (.D (Kg cT.ok .E .E) (V.go e H U s _ λk O1 A P I z=>by
  cases k with
  |true=>show kX (z.1 rfl A P U I.ok _ (.rK<|q v w d F n .cO r z))
  |false=>show kU (z.2 rfl A P U I.ok _ (.rK<|q v w d F n .cO r z))))
end
def abW{ws:.b1}(B:my .R t (.eA ([]:.b1)))(Y:my .R b ws.toArray)(T:.eY b s):.z0:=by
 obtain⟨⟨d,D,c,Z⟩,l,V,n,N⟩:=id B;let[[e,f,a,L],m,C,y,H]:=id Y;subst V N C H;show Tu (.cx l) (.cx m) Tv Tz TB TC (TF _ _)
  (tuple_addW0 t b _ ws.toArray n y D f Z L .f) (.g l m T)
def abX(K:bj):R2:=.jU<|∃a b F k,x=.T/\y=.dn/\c6 K H a F/\c6 K H b k/\.aE+.js<=bh/\
 (F=[]->.eY b H)/\(F≠[]->k=[]->Q .T H)/\(k≠[]->∀p,.bI p->.gQ (L2.upd H p (.am<|F++k)))
def abY:cX X (mB .Add) (abX X.K):=by
 intro c s U H x y v u Q I S Z h;let[a,b,F,k,rfl,rfl,J,Y,j,q,M,B]:=h;by_cases e:F=[]
 .subst e;cases S;cases Z;let[g,l,i,_]:=.hr J;let[f,m,d,_]:=.hr Y;cases l;show abW i d (.cs .dn H I<|q rfl)
 .show XF c s U H _ _ v u Q I S Z {a,b,F,k,rfl,rfl,J,Y,e,j,.s<|M e z,B}
def abZ(J:.bJ a (.am vs))(Y:.bJ b (.am ws))(d:.bh (.bD+.bp)):.bJ (.jq a .Add b) (.am<|vs++ws):=
 (vj abY J Y λe H U x y Q s g m q=>by
  let c:=g;let r:=m;let[p,_,rfl,L,F,rfl,M]:=g;let[f,_,rfl,C,k,rfl,B]:=m;let i:=M.len;let h:=B.len;refine{p,f,F,k,rfl,rfl,c6.of (.gq _<|L.lst .e1),c6.of (.gq _<|C.lst .e1),bC .a<|show 1000<=bh by decide,.M,λ_ z=>?_,λ_ p R=>?_}
  .subst z;have:=rV.mp .a;subst this;show q _ _ O e H .fJ r .bW
  .subst z;have:=rV.mp .a;subst this;show q _ _ O e H .fJ c (.a5 .f)
  .let I:=s.share (o:=.am<|F++k) R;show q _ (.am _) O _ _ I (.pc dk .aF (.bZ<|(M.app B).le I.ext.le)) .bW).xv
section
variable{K:.c2}
def N3{N:Type}{l:.aS}{f}(I:.bn .fq)(Z:N->Gm) g(hz:.eg .ax)(T:I 0 O)
  (hs:∀i x,l[i]?=.bt->∀p acc O',I i O'->∀s H C cl a,.s2/\XE (.hv F s H C cl a) (Z x) (O'++(.f9 acc)) e λw O2=>∃t,O2=t++(.f9 acc)/\I (i+1) t/\w=g x)
  (k:∀p O',I .ax O'->.pn (O'++(.f9<|.bA g))):.zZ:=by
 refine(.I (.nx hz) (λi acc O'=>acc=(.ii).map g/\I i O') (.aY T) ?_ ?_)
 .intro i w acc O' p b [rfl,U];let[x,D,rfl]:=dw b;let[B,M]:=.bd D;calc(.q (Z x) true (λs H C cl a=>(.aX (hs i x D p [] O' U s H C cl a).1 (.P<|(hs i x D p _ O' U s H C cl a).2.mono λw O2 #[t,L,d,h]=>(.q t L ?_ d)))) .aV);rw[dX B,M,bo,h];rfl
 .intro acc O' p [rfl,U];rw[aj] at*;rw[eP];show k p O' U
end
def ab0:jZ .do (.u j)=.aj i j:=by rw[gx];simp[jZ]
def ab1(O t T:TE):TE:=.br<|O U H (.dD<|∃a,x=.T/\xD P a/\t U P λy n=>T U n λz E=>∃j k,E a=.b .fT/\y=kV k/\
 (∀v,gE j k=.aO->Q v E)/\(.H (gE j k)->.cS<bh/\Q z (L2.upd E a (.dK<|putK j k z))))
def ab2(O t:TE):TE:=.br<|O U H (.dD<|∃a,x=.T/\xD P a/\t U P λy n=>∃b j A,y=.dn/\n a=.b .fT/\Rd n b (.dK A)/\a≠b/\.cS+A.length<=bh/\Q .non (L2.upd n a (.dK<|qB j A)))
theorem ab3(l:.U o to)(he:.fi)(m:M1 X o "update" j e D):.ka "update" j [e] D (ab2 to t):=by intro g s w H Q I h;calc I3 m.base m.bS m.line T5 an8 PySem.F.type_dict_update (aJ (l g s w H _ I h) λu s1 #[x,P,O,S,a,G,d,M]=>?_);subst G;obtain rfl:u=_:=S;let[V,c,_]:=Eo O d;calc(.cf V c);rw[m.trees];calc CY rfl (IQ (oZ<|aJ (he g s1 w P _ O M) λY s2 #[y,n,L,Z,b,k,A,E,J,r,W,C,K]=>wC ?_));subst E;obtain rfl:Y=_:=Z;let[z,N,vs,T,p]:=AN L.aL J;let[z',U,B,R,i]:=lQ L.aL r;calc C7 an8 p.typeIs PySem.F.entry_dict_update (PySem.F.args_dict_update_2 _ _) (meets_dict_update _ a b W U) (.ab vs B p i (by rw[<-T.length,<-R.length];show C) λh' F v hs=>?_);show(.d6 .non (uN L (by rw[J];show oY) hs (let⟨q,_,_,f,_⟩:=F;(.c q f))<|xC (bC (En A k) C) N (KV.merge R T) F) K)
def ab4(ho:.U o to)(he:.fi)(hf:.U f tf)(m:M2 X o .oB i e f D):.ka .oB i [e,f] D (ab1 to t tf):=by
 intro g s U H Q I h;calc I3 m.base m.bS m.line T5 an9 PySem.F.type_dict_setdefault (aJ (ho g s U H _ I h) λu s1 #[x,P,O,rx,a,G,d,M]=>?_);subst G;obtain rfl:u=_:=rx;let[V,c,_]:=Eo O d;calc(.cf V c);rw[m.trees];refine CY rfl<|IQ (oZ<|aJ (he g s1 U P _ O M) λY s2 #[y,n,I2,Z,B]=>
  oZ (aJ (hf g s2 U n _ I2 B) λb s3 #[z,E,A,R,j,k,J,ey,w,K]=>wC ?_));subst ey;let[hz,N,vs,T,W]:=AN A.aL J;refine C7 an9 W.typeIs PySem.F.entry_dict_setdefault (PySem.F.args_dict_setdefault_3 _ _ _) (kt_meets_setdefault _ a (nZ Z) N b)<|.I vs W (by rw[<-T.length];show hz) (λv p=>?_) λhn h' F hs=>?_
 .let r:=T.val k;rw[p] at r;cases L:gE j k with
  |none=>rw[L] at r;show(show False from r).elim
  |some S=>rw[L] at r;show(.I S E (A.tok _) r<|w S L)
 .have r:=T.val k;rw[hn] at r;let L:.H (gE j k):=by
   cases L:gE j k with
   |none=>rfl
   |some S=>rw[L] at r;show(show False from r).elim
  let[l,C]:=K L;show(.cX z (uN A (by rw[J];show oY) hs (let⟨q,_,_,hq,_⟩:=F;(.c q hq))<|xC (.dJ<|AM j k z) N (T.put k R) F) R C)
def ab5{prog}{w}{A:gS}{E:.hq}{s:bO}{T}{r d}{n}{P:.bn (aw->Prop)}{k:bI->Prop}{Q:.hq}(S:an_ prog w T r d n P k)(I:.iI)(y:k .R)(t:n<=bh){ns:.S}(U:∀vs,.bD=n->(∀i v,vs[i]?=.aO->P i v)->hU vs ns)
  (h:∀(B h':bI) tk (l:af) (C:.b1) (ms:.S) ep,.gB<=l->(.a3 (.eM=.v)<|B.get? b=.v)->(.a3 (B.get? b=.v)<|.eT=.v)->.yX->hU C ms->ms.Perm ns->ms.Pairwise .mr->.eY l .lJ):
  .ci (.lg .eE [.p r]):=by
 calc Uy Uz UA UB (args_sorted1 _) ?_;unfold Builtin.«sorted»;calc .tK;calc ah (PySem.W.kdu_collect (A:=.fR) S .a y t λB tk f u p=>?_);let X:f.toList.length=n:=by rw[zq];show p.1
 let g:=U f.toList X λi v e=>p.2 i v .d;let q:f.toList.length<=bh:=.a
 generalize f.toList=vs at*;calc ah (Jy ?_ q);let H:(.mV .hF 0).get? .gB=.b (.jv .hF 0):=.cB;calc ah (iz (lC UD (.cx H) UE (an2 (s:=(.pp<|.mV .hF 0)) H g q λC j M G D=>(.bZ ?_))<|args_list_sort _));calc aG (.bZ ?_);let z:∀b x,B.get? b=.bt->(.zY).get? b=.bt:=by intro b x e;let Y:b<.gB:=bK e;grind[uq,wH,qe,trans,bJ]
 let c:∃ep,(.zY).get? .gB=.b (.kI C ep):=by unfold uq;obtain⟨L,V⟩:∃L,((.mV .hF 0).update .gB<|kE (.P .bH)).get? .gB=.b (.jv .bH L):=(.cz (zJ H<|.P .bH));let F:=bJ (.jv .bH 0) (bJ (e_ .f4 .hF 0) V);show(.cz<|zJ F λ_=>C)
 let[a,c]:=c;show h B _ tk _ C.toList j a .ao u z .a M G D
def ab6:.au->.cZ:=λd H Q=>∃a j c,d=[.jD]/\Rd H a .fT/\j.map (.as<|kV p.1)=c.map V.int/\
 ∀(b:.S) p,b.Perm c->b.Pairwise .mr->.bI p->.gQ (L2.upd H p (.Z<|b.map V.int))
def ab7(v:.bP):iI X (.fw .eE) ab6:=by
 intro g s U H F o Q I r h;let[a,j,E,rfl,y,x,q]:=h;let[u,rfl,t]:=vals1 r;cases t;let[z,N,G,T,D]:=lQ I.aL y;let[e,A]:=D.dictAt;let d:=mx T;refine ab5 (an7 N) (I.ok.hd v) A .a (ns:=E) (λo B M=>?_) λB p m l C c e b k J f i R w=>?_
 .have:=NZ T B M;rw[x] at this;show this.ints
 .let O:=I.kept (t':=m) k;let n:.ae (c.map V.int) bh:=by have:=.dN IK x;rw[aj,aj] at this;rw[aj,R.length_eq,<-this];show z
  show(.d6 .dQ (O.laid J b<|show eA .ar X.w _ p _ (.Z _) from(.I n C e (AH i) f)) (q c l R w<|O.aL.fresh b))
def ab8(lo:(d==kB)=.j):an_ prog w .f6 d d .c8 (λi v=>∃n,es[i]?=.b n/\v=n.key) (.aQ<|∃o,.cT d=.v/\.oZ/\.ce=.i7) where
 type:=λ_ {o,l,D,_}=>(.em l D.1)
 there:=λ_ {o,l,_}=>(.c (bK l)<|bK l)
 keep:=λ_ _ #[o,l,x] k=>(.em (k d .w o l) x)
 notList:=.V
 notTuple:=.V
 hint:=λ_ _ _ _ {o,l,D,_} f=>PySem.W.kdl_hint_dict (.em l D.1) f
 iter:=λA s V #[o,l,D,N]=>{_,λi h=>h.IsKeyIter .G d i .c8 ep/\∃o,.cT d=.v/\.oZ/\.ce=_,λ_ _ f=>Es lo l D N f,
  {sub:=.a4 .d
   frame:=λ_ _ _ #[Z,o,l,x] k=>(.q (Z.at λo e=>.it _ o e) o (.it d o l) x)
   item:=λi J Q E m #[Z,T,t,X,U] c=>LH Z t U rfl (nM m) λa g M=>c _ a J.toks (.cx<|nM m) (.I g T (.hg d (cY<|bK l) t) X U) λb j Y e=>.hg b (.s<|Y .m1) e
   done:=λJ Q E #[Z,T,t,X,U] c=>Et V Z t U rfl .ao λa r=>c a J.toks λb j Y e=>r b j (.s<|Y .m1) e
   self:=λ_ _ _ _ Z c=>ano Z.1 c},
  (.I (.fG _ .cB) o (.a1 l) D N)}
def ab9(P:.bP):iI X .l1 (.qX<|F=[.jD]/\Rd H a (.dT j)/\∀l (G:.bL),eU (λp k=>iF H p k) G (j.map .fr)->.bI l->.eY l (L2.upd H l (.Z<|.cW V.ref))):=by
 intro w s U H F us Q I r h;let[a,j,rfl,J,q]:=h;let[u,rfl,t]:=vals1 r;cases t;let[z,N,e,T,o,es,Z,R,D,m,g,W]:=pE I.aL J;clear W;let d:=mx T;let Y:=T9 g;calc an6 (ab8 N) (I.ok.hd P) (.q o R D m) .a λS tk b c O hS n=>?_;let L:b.toList=e.map λy=>fB y.2.1:=by
  apply qr;intro i;rw[Dm,bG];by_cases K:i<.fC
  .obtain⟨v,A⟩:∃v,b[i]?=_:=(.cz (nM<|.dJ n.1));let[x,B,M]:=n.2 i v A;rw[entry_at g i,cf K] at B;cases B;rw[A,M,cf K];rfl
  .rw[T8<|.dJ n.1,iB .a];rfl
 have C:aV ((e.map (·.2.1)).map V.ref) b.toList:=by
  rw[L];clear d Y g L T;induction e with
  |nil=>show .nil
  |cons y e E=>show .bj rfl E
 have f:eU (λp k=>iF H p k) (e.map (·.2.1)) (j.map .fr):=by
  clear d z J Y g L C q;induction T with
  |nil=>show .nil
  |cons B _ E=>show .bj B.2.1 E
 refine(.d6 .dO (.nU O<|show eA .ar X.w _ S _ (.Z _) from(.I .d b.toList c C .a)) (q _ _ f<|.gA _))
def aZ.adopt(s:.fh)(h:H p=.ep vs)(r:.eh):∃j,bB U u Hs H O j H O/\Rep j (.am ws) .aG:=by
 let t:p∉ks O:=.s (by let[[_,c],m,rfl]:=.Y z;let[_,o,B,M,_]:=s.own.2 _ _ m;rw[h] at B;cases B;show M.elim)
 have I:Le Hs (L2.upd Hs p _):=.bQ (by
  by_cases z:b=p
  .subst z;have:=(Le.of s.sub) _ _ e;let[q,n]|||[[_,q],_]:=this
   .rw[h] at q;cases q;show .hl dk n
   lk
  .unfold Rx;rw[aY z];show e)
 refine(.D (.c (.q I (λb o e _=>.z e) (λb e n=>?_) λb e=>.z e) (.g (.bQ ?_) (s.own.le I (λq f=>?_) λ_ _ _ e=>e)<|n_.le I s.env))<|.pc dk .aF (.aX vs<|r.le I))
 .grind [aY]
 .by_cases z:b=p
  .subst z;rw[dk] at e;lk
  .rw[aY z] at e;show .gq _ e
 .let[[_,c],m,rfl]:=.Y f;rw[aY (.s<|t .d)];show(s.own.2 _ _ m).1
def ab_:.w3:=FI
def aZ.FJ:∀{k:TK} {vs} {Hs},.fh->eU (qv H) k vs->∃j,bB U u Hs H O j H O/\aP j (k.map Fm) vs
 |[],_,Hs,s,.nil=>(.g Hs .fJ rfl)
 |.at k::a,_,Hs,s,.cons (b:=v) h t=>by let[A,I,r]:=aZ.FJ s t;calc(.fK A I _ rfl ?_ r);cases(h);cases k<;>rfl
 |.tp l::a,_,Hs,s,.cons h t=>by let[b,rfl,Y]:=h;let[A,i,g]:=s.adopt Y (ab_ l);let[F,S,m]:=aZ.FJ i.ok t;show .tL
def aZ.N4(s:.fh)(h:iF H p k):∃j,bB U u Hs H O j H O/\Rep j (fT k) .aG:=by let[b,e,a]:=h;let[A,i,g]:=aZ.FJ s a;let[F,S,m]:=i.ok.adopt e g;show(.g F (i.trans S) m)
def aZ.N5:∀{ks} {G} {Hs},.fh->eU (λp k=>iF H p k) G ks->∃j,bB U u Hs H O j H O/\aP j (.dk fT) (.cW V.ref)
 |[],_,Hs,s,.nil=>(.g Hs .fJ rfl)
 |_::_,_,Hs,s,.cons h t=>by let[A,i,g]:=s.N4 h;let[F,S,m]:=aZ.N5 i.ok t;show .tL
section
variable{K:.c2}{τs:.y TK}
theorem ab'(G:.bR .dI)(he:.de w)(hi:Is O w (.dT τs ws))(k:.jG O (τs.map fT))(S:.bB .dI:=by rfl) (V:.bP:=by rfl) (hs:.b4=.b5:=by rfl):.i5 .dI [e]:=
 .pv (uI (ab9 V) S G .fp (fC .E fY hs) (he:=hs)) he (by let[a,_,rfl,Z,f,rfl,d,j]:=.go s r;calc(.aW a _ Z.rd λl h R b=>?_);rw[UI .a] at R;let[A,i,g]:=aZ.N5 s R;show q _ .dQ _ _ _ (i.trans (i.ok.have (o:=.Z _) b .aF<|.l g)) rfl (k l))
def N6(g:τs.length=.lj)(h:H d=.e8 od (.dT<|τs.zip us))(N:d∉ks O):jF (Ex d od<|τs.zip us) (τs.map fT) Hs H O:=λU u f F n x s=>by
 let M:=(x.keep d _ h N).is .kr;let e:(.m<|τs.zip us)=τs.length:=.d
 calc(.g (λi w a=>?_) M .d);rw[bG] at a;cases E:τs[i]? with
 |none=>lk
 |some k=>rw[E] at a;cases a;calc(.c (.c M .d) λy b z=>?_);let[rfl,c,S,q,L,rfl,T]:=z;rw[(zip_get L).1] at E;cases E;show s.N4 T
def aca(he:XP X u O e (.dT τs vs))(s:.fh):∃d us,τs.length=.lj/\.fb vs us/\d∉ks O/\.w2/\((∃od,H d=.e8 od (.dT<|τs.zip us))\/Hs d=.b (.dT<|τs.zip us)):=by
 let[v,[d,_,rfl,Z,us,rfl,b,a],g]:=he.go Hs H U s;refine#[d,us,b,a,.M,g,?_]
 .let[[_,c],m,rfl]:=.Y z;have:=(s.own.2 _ _ m).1;let[q,_]|||[[_,q],_]:=Z<;>rw[q] at this<;>cases this
 .let[q,_]|||[[od,q],_]:=Z
  .lk
  .show .hl od (.gq _ q)
def acb(l:.bJ o w)(hi:Is O w (ai ns))(he:.de (aa n))(T:ns[j]?=.b n)(f:∀m,m<j->ns[m]?≠.b n)(hs:.b4=.b5:=by rfl) (Y:.iu o "index"=.d1:=by rfl)
  (E:.e2 .p6 .os:=by rfl) (d:.fc g.endLine D.line:=by rfl):.ly (.jA "index" g [e] D) j:=.mk λM H U s Q q=>
 (.D (A9 Dk am0 PySem.F.type_list_index Yd .E .E hs Y E d)<|l M H U s _ (.dU<|by
  obtain⟨p,_,rfl,Z,N,rfl,R⟩:=.go I.ok r;calc(.c (.z<|.g rfl N .la)<|he A P U I.ok _ λy F C S L=>?_);let[t,_,v,c,B,rfl,h]:=.go S.ok .gf;cases v;cases(show y=.u n from L);let b:B=.gv (λk:Nat=>V.int k):=by
   have:=aP.ints (ms:=.gv .h1) (Hs:=F) (vs:=B) (by rw[a_];show h);cbv
  subst b;calc{p,_,.u n,j,.u n,rfl,rfl,bf.of<|c.lst .e1,rfl,by simp[jz],.d,by simp[jZ],λm z G i=>?_,q _ F C .cO rfl};rw[bG] at i;let[a,J,rfl]:=lG.mp i;rw[ab0];lk))
def acd:iI X (.type .f6) (.qX<|F=[.jD]/\Rd H a .fT/\∀p,.bI p->.gQ (L2.upd H p .fT)):=by intro b s U H F e Q I r h;let[a,j,rfl,J,q]:=h;let[u,rfl,t]:=vals1 r;cases t;show Y1 I J λp d R c=>(.d6 .aG c<|q p R)
def ace(G:.bR .f6)(he:.de w)(hi:Is O w (.dK c ws))(k:.n5 O [(p,.dK c ws)])(S:.bB .f6:=by rfl) (hs:.b4=.b5:=by rfl):.i5 .f6 [e]:=
 jf (uI acd S G .fp (fC .E fY hs) (he:=hs)) he λh H U v Q s r q=>by let[a,_,rfl,Z,g,rfl,f,d]:=.go s r;show(.aW a _ Z.rd (λl b=>q _ .dQ _ _ _ (.op b<|.k f d) rfl<|k l))
def acf(l:.cH i o .cI)(T:(q,.dK ks0 oj)∈O)(he:.cH i e wk)(hf:.iS X i O f (∃ks ws k,(q,.dK ks ws)∈O1/\wk=kW k/\(∀u,dU ks ws k=.aJ->K u O1)/\(.H (dU ks ws k)->.gF<bh/\∃O2,bR q (.dK ks ws) (.dK (iP ks k)<|jC ks ws k w) O1 O2/\K w O2)))(m:M2 X o .oB j e f D:=by show(.fG rfl rfl)):.oe i (.jA .oB j [e,f] D) K:=.mk λHs H U s Q qq=>
 (.D (ab4 .E .E .E m)<|l Hs H U s _ (.dU (by
  cases(show x=.p _ from r);let[_,L,h,rfl,_,_]:=I.ok.box T;calc(.dB q (.hl _<|.z L)<|he A P U I.ok _ λy F n S r2=>hf F n U S.ok _ λz w O1 Z E M R Y=>?_);let[ks,ws,k,G,rfl,a,J]:=Y;let[_,C,vs,rfl,hl,rs]:=M.ok.box G;let N:=.fZ M;let z:=rs.val (k:=k) (ks:=ks);refine(.ab _ k C (x8<|r2.le M.ext.le) (λv p=>?_) λt=>?_)
  .lk
  .cases b:dU ks ws k with
   |some u=>lk
   |none=>let[hz,O2,pt,Y]:=J b;let[B,V,d,c]:=rs.put (k:=k) hl R;calc(.bM .d);rw[V];let g:=pt.write M.ok (ob:=.dK<|(iP ks k).zip B) .aF (.k d c);show qq _ w O2 _ _ (N.trans g) (R.le g.ext.le) Y)))
def acg(G:.S):∀F,qB .zX (.cW<|.s ((aW z),.lc))=(.kX F).map (.s ((aW z),.lc)):=by
 induction G with
 |nil=>show .hI
 |cons z G E=>
  intro F;let e:putK .tm (aW z) .lc=(bD F z).map (.s ((.ls z),.lc)):=by
   unfold putK bD;rw[rO];by_cases m:z∈F
   .cbv
   lk
  change qB (putK .tm (aW z) .lc) (.cW<|.s ((.ls z),.lc))=_;lk
def By:fc Hs (aS F) ob↔ob=.dK .zX:=by
 let e:∀F:.S,(.fQ .oE).zip (.fQ<|.P .lc)=.tm:=λF=>.d
 walk
 .intro[c,rfl,d,b];have:c=.fQ (.P .lc):=by let h:=aP.bools (by rw[a_];show b);cbv
  lk
 .rintro rfl;rw[<-e];calc .k .f ?_;induction F with
  |nil=>show rfl
  |cons a F E=>show(.d6 _ rfl E)
def yg(ho:.bJ o .cI)(T:(q,aS F0)∈O)(he:.iS X u O e (∃F G A B,O1=A++(q,aS F)::B/\Is (A++B) w (aS G)/\.eg (.aE+.dW)/\K .non (A++(q,aS<|.kX F)::B)))(m:M1 X o "update" j e D:=by show(.fG rfl rfl)):.ez (.jA "update" j [e] D):=.mk λR H U s Q l=>
 (.D (ab3 .E .E m) (ho R H U s _ λx k P I r=>by
  cases(show x=.p _ from r);let[_,L,N]:=I.ok.box T;rw[By.mp N] at L;calc(.dB q (.hl _<|.z L)<|he k P U I.ok _ λy w O1 pM n S t Y=>?_);let[F,G,A,B,rfl,i,J,Y]:=Y;let h:(q,aS F)∈A++(q,aS F)::B:=.f
  obtain⟨_,C,E⟩:=S.ok.box h;rw[By.mp E] at C;let a:Is (A++(q,aS F)::B) w (aS G):=i.imp id λ#[p,e,m]=>(.g p e .d);let[b,ob,rfl,Z,f]:=a.at rfl S.ok t;rw[By.mp f] at Z;let ne:q≠b:=by
   rintro rfl;let rfl|||[p,rfl,m]:=i
   .let[_,_,z,v,_]:=t;cases z;have:=(S.ok.own.2 _ _ h).1;let[g,_]|||[[_,g],_]:=v<;>rw[g] at this<;>cases this
   .cases(show V.ref q=.aG from t);let nd:=S.ok.own.1;lk
  calc{b,_,_,rfl,C,Z.rd,ne,.qH<|.gK J,?_};rw[acg];let M:=S.ok.write (c:=aS F) (d:=aS<|.kX F) (O1:=A) (O2:=B) (p:=q) (o:=.dK<|(.kX F).map (.s ((.ls z),.lc))) .aF (By.mpr rfl);show l _ .non _ _ _ (.fZ M) rfl Y))
def ach(G:.bR .eE)(he:.de w)(hi:Is O w (.dK (.gv aW) ws))(k:∀ms:.S,ms.Perm ns->ms.Pairwise .mr->.n5 O [(p,aM ms)])(S:.bB .eE:=by rfl) (V:.bP:=by rfl) (hs:.b4=.b5:=by rfl):.i5 .eE [e]:=
 jf (.no (ab7 V) S G UH<|fC .E fY hs) he λd H U v Q s r q=>by let[a,_,rfl,Z,f,rfl,g,c]:=.go s r;calc(.kV a _ ns Z.rd ?_ (λms l B M b=>q _ .dQ _ _ _ (.op b (.l<|Br ms)) rfl<|k ms B M l));rw[.lX<|(.as<|kV p.1)=kV∘Prod.fst,<-a_,UI .a,a_];rfl
end
def vy(a b:Int×Int):=a.1<b.1\/a.1=b.1/\a.2<=b.2
def aci(K:bj):.au->.cZ:=λc H Q=>∃a G g,c=[.jD]/\bf K H a (.cW V.ref)/\(∀p∈G,.uS)/\
 ∀(b:.bL) l,b.Perm G->.lG (b.map g) vy->.bI l->.eY l (L2.upd H l (.Z<|b.map V.ref))
def N7:∀{G:.bL} {us},.dG (.cW V.ref)->us=.cW fB
 |[],_,r=>.oI
 |p::G,_,r=>by
  cases r with
  |cons h t=>rw[N7 t];cases(h);rfl
def N8:∀G:.bL,aV (.cW V.ref) (.cW fB)
 |[]=>.nil
 |_::G=>.bj rfl<|N8 G
def adr:aw->af
 |.ref p=>p
 |_=>0
def acj:iI X (.fw .eE) (aci X.K):=by
 intro pins s U H vs us Q I r h;let[a,b,g,rfl,W,R,q]:=h;let[O,rv,d,hz]:=.ev W;rw[aV.uL r];let k:=N7 rv;subst k;let F:∀p∈b,∃o n K c,.d8 p=.v/\o.cls=.fu/\.ce=.j7 [.av (g p).1 K,.av (g p).2 c] n:=λp m=>by
  let[_,O,r,o,B,M,n,A]:=(.bX (eA .ar X.w H .R p _) (I.aL p _<|R p m));cases r with
  |cons a1 r=>cases r with
   |cons a2 r=>cases r;let[K,rfl]:=a1;let[c,rfl]:=a2;lk
 have kc:∀p∈b,UJ .R (λ_=>false) .aG=.b [aW (g p).1,aW (g p).2]:=λp m=>by
  let[o,n,K,c,B,M,A]:=F p m;unfold UJ;have:.n (G.isTupObj .R .aG):=by simp[G.isTupObj,B,M]
  rw[.r this];simp[tupKey,B,A,tupItems]
 have w:∃N,TupsOf .R (λ_=>false) (b.map fB) N:=by
  clear W d hz q rv kc r;induction b with
  |nil=>show(.c [] .nil)
  |cons p b E=>let[N,t]:=E (λp m=>R p<|.fy m) λp m=>F p (.fy m);let[o,n,K,c,B,M,A]:=F p .di;show(.cz<|.bj {p,o,_,n,rfl,B,M,A,rfl,.P<|.cx _,.aV} t)
 let[N,w]:=w;let L:.ae (b.map fB) bh:=.d
 calc G.sorted_tups (shape:=λ_=>false) d.isList w (λv hv=>.d) L λZ p1 p2 T=>?_;let[ep,LK]:=PyProof.Rows.sortedAll_at .R (b.map fB) (.ho<|gZ Z);let pm:(.mZ Z).Perm ((b.map fB).zip<|b.map fB):=by have:=p1.toList;rwa[pairsOf_toList] at this
 let u:∀x∈(.mZ Z),∃p∈b,x=(fB p,fB p):=.eu .d
 let eq:(.ho<|gZ Z).toList=(.q5).map fB:=by rw[Array.toList_map,a_];calc dG (.eu ?_);let[p,_,rfl]:=u x D;rfl
 have P:(.q5).Perm b:=by
  refine .aA (pm.map _)<|JA ?_;rw[List.zip_map,a_];have:∀l:.bL,(l.zip l).map ((λx:aw×aw=>adr x.2)∘Prod.map fB fB)=l:=λl=>by
   induction l with
   |nil=>rfl
   |cons a l E=>rw[nB,bx,E];rfl
  lk
 have S:.lG ((.q5).map g) vy:=by
  rw[a_,o9,Jo];intro i j hi hj J;let sz:(gZ Z).size=(pairsOf<|b.map fB).size:=p1.size_eq;let Y:=p2 i j (fv J) .d;let f:∀(n:Nat) (hn:n<(gZ Z).toList.length),KK (G.tupKindC .R λ_=>false) (gZ Z) n=[aW (g<|adr (.mZ Z)[n].2).1,aW (g<|adr (.mZ Z)[n].2).2]:=λn hn=>by
   let[p,m,e]:=u (.mZ Z)[n] (wU hn);have:(gZ Z)[n]?=.be (fB p) (fB p):=.d
   unfold KK;rw[this];change(UJ .R (λ_=>false)<|fB p).getD []=_;rw[kc p m,e];rfl
  rw[f i hi,f j hj] at Y;change vy (g<|adr (.mZ Z)[i].2) (g<|adr (.mZ Z)[j].2);generalize g (adr (.mZ Z)[i].2)=x at Y|-;generalize g (adr (.mZ Z)[j].2)=y at Y|-;let Y:PyProof.Rows.lexLt itemOrd [aW y.1,aW y.2] [aW x.1,aW x.2]=.j:=Y;simp only[PyProof.Rows.lexLt,itemOrd,itemLt,Dt,mD,decide_eq_false_iff_not,zK,decide_eq_true_eq,Bool.not_eq_false] at Y;unfold vy;lia
 let C:.ae ((.q5).map V.ref) bh:=by rw[aj,P.length_eq];lk
 calc(.cs (.p _) (L2.upd H (.G+1)<|.mo .q5 V.ref) (I.laid (t':=.cw) (λ_ _=>PyProof.Rows.sortedAll_old) (zj _)<|.I C (.ho<|gZ Z).toList ep ?_ .a)<|q _ _ P S (.nb<|zj _));rw[eq];show N8 _
section
variable{K:.c2}
def oB(p:Int×Int):W:=.fx (.u p.1)<|.u p.2
def pairs_at(M:h7 Hs H):∀{ms:.y _} {vs},.pt (ms.map oB)->∃G:.bL,vs=.cW V.ref/\.dW=ms.length/\∀(i:Nat) p m,G[i]?=.cL->ms[i]?=.b m->H p=.ep [.u m.1,.u m.2]/\.k7 (oB m) .aG
 |[],_,r=>by cases r;simp
 |m::ms,_,⟨v,t,e,r,q⟩=>by
  subst e;let[G,rfl,d,h]:=pairs_at M q;let R:=r;let[p,_,rfl,Z,f,rfl,w,_,rfl,g,b,_,rfl,c,rfl]:=r;cases(show w=.u m.1 from g);cases(show b=.u m.2 from c);calc(.dB (p::G) (by simp[d]) λi k j B a=>?_);cases i with
  |zero=>cases B;cases a;show(.c (M _ _ .h0) R)
  |succ i=>lk
def ack(t:.bR .eE)(he:.de w)(hi:Is O w (.Z<|ms.map oB))(k:∀ns:.y _,ns.Perm ms->ns.Pairwise vy->.jG O (.gv oB))(S:.bB .eE:=by rfl) (hs:.b4=.b5:=by rfl):.i5 .eE [e]:=
 jf (.no acj S t UH<|fC .E fY hs) he λn H U v Q s r q=>by
  obtain⟨a,_,rfl,Z,C,rfl,A⟩:=.go s r;let[G,rfl,d,h]:=pairs_at s.sub A;let' g:af->Int×Int:=.as (match H p with
   |some (.tup [.int x,.int y])=>(x,y)
   |_=>(0,0));let P:∀(i:Nat) p,G[i]?=.cL->ms[i]?=.b (g p)/\.zW:=λi p R=>.d
  let F:∀p∈G,.zW:=.dz (by let[i,hi]:=jW R;lk)
  let I:.cW g=ms:=by apply qr;lk
  refine(.kV a G g .la (.dz (F p R).1) λj l B M b=>?_);let f:.zV:=by
   have:∀j:.bL,(∀p∈j,Rep n (oB<|g p) .aG)->.zV:=λj=>by
    induction j with
    |nil=>show .hI
    |cons p j E=>show .aQ (.aW _ _ (h p .di)<|E λp m=>h p (.fy m))
   lk
  show q _ .dQ _ _ _ (s.have (o:=.Z<|j.map V.ref) (c:=.mo (j.map g) oB) b .aF<|.l f) rfl (k (j.map g) (I▸B.map g) M l)
end
section
variable{K:.c2}
def XE.dr(h:.iS X u O e (∃O2 t,O1.Perm (O2++t)/\K w O2)):.ez e:=.lQ<|h a H U s Q (.nD<|by let[O2,t,m,k]:=z;show q v w O2 A P (.c (I.ext.drop m)<|.g I.ok.sub (I.ok.own.drop m) I.ok.env) r k)
def acm(l:.iS X u O o (∃q oj,w=.cI/\(.dy q oj)∈O1/\.qS u O1 e λw O2=>∃ws t,bR q .gT (.eK ws [w]) O2 t/\.bp<bh/\K .non t))(hs:.b4=.b5:=by rfl) (Y:.iu o "append"=.d1:=by rfl)
  (E:.e2 .p6 .os:=by rfl) (d:.m5:=by rfl):.ez (.jA "append" j [e] D):=.mk λc H U s Q q=>
 (.D (MV .E .E hs Y E d)<|l c H U s _ λx G O1 A P I r z=>by let[a,oj,rfl,T,i]:=z;cases(r);let[_,L,h,rfl,_]:=I.ok.box T;calc(.c (.z (.g rfl h<|bf.of L))<|i A P U I.ok _ λv w O2 F n S m z=>?_);let[ws,t,V,f,k]:=z;let[_,C,g,rfl,b]:=.pO;show{_,g,v,rfl,rfl,C,by rw[<-b.len];show f,q _ .non t _ _ (.fZ (V.write S.ok .aF<|.l (b.app<|.one m))) rfl k})
def ar.N9{qs:.bL}{R1 R2}(h:u[j]?=.b .b3)(d:.li=cs.length)(k:.dE (u.set j (.b<|.dK a cs)) (R1++R2)):.dE u (.iv cs++(R1++(q,.dK a .hD)::R2)):=.mk λn H U E s f=>by
 let[A,i,g]:=s.Bm d;let[t,o,l,p,r,rfl,c,m]:=i.ok.own.2 q (.dK a .hD) .f;rw[Bn m] at l c;let S:=i.ok.write (o:=.dK _) .aF (.k c g);let e:L2.upd H q (.dK (a.zip<|qs.map V.ref))=H:=by funext b;unfold L2.upd;lk
 rw[e] at S;let I:=i.trans S;show(ar.aB h k) A H U E I.ok (f.ext I.ext)
theorem acn(B:∀p,.qf a (O++[(p,.dK [] [])]) e n)(M:∀p,.ks a (O++[(p,.dK [] [])]) f u)(Y:.n5 O [(p,.dK [.z n] [u])]):.yW:=.mk λb H U s Q q=>
 (.D (YX (YV .E .E YU) rfl rfl .f .f) (.dz<|by let r:=s.have (o:=.dK []) R .aF (fc.k (ks:=[]) (ws:=[]) (vs:=[]) rfl rfl);calc B p b _ U r.ok _ λx A P i g=>M p A P U i.ok _ λy F l S m=>?_;let[_,L,j,rfl,h,k]:=S.ok.box (p:=p) (c:=.dK [] []) .f;cases(g);show(.aW L [(.z n,y)] .f (q _ .aG _ _ _ (.aA (.aA (r.trans i) S)<|S.ok.write (d:=.dK [.z n] [u]) (o:=.dK [(.z n,y)]) .aF (fc.k (ks:=[.z n]) (vs:=[y]) rfl<|.one m)) rfl<|Y p))))
end
def aco f(l:.aS):jg (.bA f)=l.zipIdx.map (.as (.fx (.u p.2)<|f p.1)):=by simp[jg,List.mapIdx_eq_zipIdx_map,List.zipIdx_map]
section
variable{K:.c2}
def N_(J:.bJ a (.Z vs))(Y:.kS b λwb O1=>∃ws,Is O1 wb .gT/\.eg (.bD+.bp)/\.jG O1 (vs++ws)):.ez (.jq a .Add b):=.mk λf H U s Q q=>
 (.D (Ku Lf .E .E)<|J f H U s _ (.dU<|Y A P U I.ok _ λy wb O1 g n S m z=>by let[ws,i,d,k]:=z;let[p,_,rfl,L,F,rfl,M]:=.gf;let[c,_,rfl,C,e,rfl,B]:=i.at rfl S.ok m;show{p,c,F,e,rfl,rfl,S.ok.sub _ _<|L.lst .e1,C.lst .e1,by rw[<-M.len,<-B.len];show .gK d,.dz (q _ .aG _ _ _ (.fZ<|S.ok.have R .aF (.l<|M.app B)) rfl<|k p)}))
end
end Tw
namespace PySem.AutoSeq1
open PySem
def acp l b(g zs:.eR aw) n m(D:.aR af)(f:.eR (.aR aw))(c:¬.e2 (! g.isEmpty) (CZ<|g.size+zs.size))(a:g.size<=bh)(J:g.size+zs.size<=bh+1):
  Meets (Builtin.«list.extend»<|.gU [.dQ,.dn]) (λ_ R Z=>Z.heap.get? l=.b (.kI g n)/\Z.heap.get? b=.b {cls:=.fu,dict:=D,data:=.seq zs m,slots:=f}/\R (.n2 .cy) {Z with heap:=Z.heap.update l (kE (·++zs))}):=
 .of_wp λd w A R Z #[G,r,h]=>by
  let[_,_,_,_,_]:=Z;let z:=idx_int;let i:=sub_tuple_tuple;let L:=sub_list_list;let O:=sub_tuple_list;let C:=sub_list_tuple;let e:(g++zs).size<=bh+1:=by rw[Array.size_append];show J
  wp_walk using(zI G rfl (hz:=a) (_hz':=e)),IL G,IL r;show(.bZ h)
end PySem.AutoSeq1
namespace Tw
def acq(K:bj):V->.au->.cZ:=λx c H Q=>∃l b F a,x=.dQ/\c=[.dn]/\H l=.du F/\c6 K H b a/\.aE+.bE<=bh/\Q .non (L2.upd H l<|.eK F a)
def acr:xt X "list.extend" (acq X.K):=by
 intro o s U H x E v A Q I S p h;let[l,b,F,G,rfl,rfl,j,a,C,q]:=h;cases S;let[u,rfl,t]:=vals1 p;cases t;let[z,g,n,r,d,e]:=I.qA j;let[i,k,[[w,D,c,Z],y,V,m,N],B]:=.hr a;simp only at V N;subst V N;let J:=k.length;let f:.k5+i.toArray.size<=bh:=.d
 refine wI Uj (.cx e) PySem.F.entry_list_extend (PySem.F.args_list_extend_2 _ _)
  (PySem.AutoSeq1.acp l b .ck i.toArray n m D Z (by rw[D7 f];simp) .a .a)<|.cf e y;show(.d6 .non (I.AG j e .f (r.append k) .d) q)
section
variable{K:.c2}
def N'(l:.bJ o .cI)(he:.de (.am zs))(V:bR q (.Z oj) (.eK oj zs) O O2)(hz:.eg (oj.length+zs.length))(k:K .non O2)(hs:.b4=.b5:=by rfl) (Y:.iu o "extend"=.d1:=by rfl)
  (E:.e2 .p6 .os:=by rfl) (d:.m5:=by rfl):.ez (.jA "extend" j [e] D):=.mk λg H U s Q f=>
 (.D (A9 Dk Uj anF acr .E .E hs Y E d)<|l g H U s _ (.dU<|by cases(r);let[_,L,h,rfl,_]:=I.ok.box V.mem;calc(.c (.z (.g rfl h<|bf.of L))<|he A P U I.ok _ (.jh ?_));let[_,C,i,rfl,a]:=.pO;let[b,_,rfl,Z,c,rfl,R]:=m;show{_,b,i,c,rfl,rfl,C,c6.of<|S.ok.sub _ _ .h0,by rw[<-a.len,<-R.len];show .gK hz,f _ .non O2 _ _ .x2 rfl k}))
end
structure vz(K:bj)(mg:.dl)(fm:.bn (Nat×Bool))(fa:af)(t:Nat->af)(vs:.co Key aw):Prop where
 mg:mg "FORMS"=.K fa
 di:∀P w h,K.In h->h.DictOf (iD P w) fa vs
 at_:∀n:Nat,n<=9->C6 vs (aW .dZ)=.K (t n)
 tu:∀n:Nat,n<=9->∃o m t1,.cu (t n)=.v/\o.cls=.fu/\.ce=.j7 [.av (fm n).1 t1,.eQ (fm n).2] m
section
variable{X:Cx}{n z:Nat}
def Oa(F:vz X.K X.mg c b t vs)(f:n<=9)(S:.bB "FORMS")(hs:uO i):.U (.fs (.bz "FORMS" p1) i p2) (.br<|cE X i U H λy P=>y=.u n/\.eY (t n) P):=by intro a s U H Q I h;calc LA am7.lookup hs (uB I S F.mg ?_);calc aJ (cE.ok a s U H _ I h) λY d #[y,g,L,Z,e,q]=>?_;subst e;let D:=F.di .ar X.w d.heap L.iH;calc(.c ?_ (am6 (nZ (k:=aW .dZ) Z) D.mapOf (F.at_ n f)<|.cs (.p<|t n) g (L.tok _) q));let[o,l,j,B,M,_]:=D;show(.em B M.1)
def Ob(F:vz X.K X.mg c b t vs)(a:n<=9) H:c6 X.K H (t n) [.u (c n).1,.bl (c n).2]:=by let[o,m,V,B,M,A]:=F.tu n a;show .F {o,_,m,B,M,A,.pE 2 bh,.bj (.a5 V)<|.bj rfl .nil}
def acs(F:vz X.K X.mg c b t vs)(a:n<=9)(hi:.ly i n)(S:.bB "FORMS":=by rfl) (hs:uO i:=by intro _ _;rfl):.ly (.fs (.fs (.bz "FORMS" p1) i p2) (.lU 0 z T) j) (c n).1:=.mk λd H U s Q q=>
 .uu
def acu(F:vz X.K X.mg c b t vs)(a:n<=9)(hi:.ly i n)(S:.bB "FORMS":=by rfl) (hs:uO i:=by intro _ _;rfl):.iT (.fs (.fs (.bz "FORMS" p1) i p2) (.lU 1 z T) j) (c n).2:=.mk λd H U s Q q=>
 .uu
end
section
variable{X:Cx}{K:.c2}
def FK(s:.fh)(r:.fm (.mP ns)):∃q,v=.cI/\bf X.K H q .pl:=by
 let[q,_,rfl,Z,a,rfl]:=r;calc(.aX q<|.z (.F<|.bM a));let[h,_]|||[_,h]:=Z
 .show .gq _ h
 .show h.elim
def acv(G:.bR .dm)(he:.de (.mP ns))(S:.bB .dm:=by rfl) (hs:.b4=.b5:=by rfl):.bv (.eX .dm [e]) .fA:=
 (jf (Ff G .E S hs) he λb H U v Q s r q=>by let[a,rfl,h]:=FK s r;show(.aW a _ .ex<|q _ _ O b H .fJ .nR .bW)).xv
def Oc{k:Nat}{n}(l:.de (.mP ns))(hi:.bv i k)(J:ns[k]?=.b n)(hs:xr i:=by intro _ _;rfl):.bv (.hL e i) n:=.mk λc H U s Q q=>
 (.D (uJ D2 .E .E hs)<|l c H U s _ (.dU<|hi A P U I.ok _ λy F b S m=>by let[a,rfl,h]:=FK (X:=X) S.ok .gf;show{a,_,.lD,.u n,rfl,m,h,cR .d,q _ F b .cO rfl}))
def Od{lo hi}(he:.de (.mP ns))(d:XO X u O lo l)(V:XO X u O hi h)(k:.jG O (jE (.gv .cJ) l h)):.yV:=.mk λb H U s Q q=>
 (.D (DZ K8 .E cO.ok cO.ok)<|he b H U s _ (.dU<|d.use I.ok λF c S=>V.use S.ok λZ E M=>by let[a,rfl,h]:=FK M.ok ((.gf).le M.ext.le);show(.aW a _ h<|.dz (q _ .aG _ _ _ (.aA (.fZ M) (M.ok.have R .aF<|.l (Br ns).cut)) rfl<|k p))))
end
abbrev Kp(h h':bI):=.a3 (.fP=.v)<|.eT=.v
def Oe{g}{F}{cl:.dM af}{m T v}{R:.hq}(r:A.depth<Tn)
  (J:.d8 f=.b (JB name D l g F cl m O T)) (a:s.heap.CodeRec (.p O) D) (d:s.heap.NoLimit)
  (Y:zi (JC name D l g F cl m (.p O) T) (.gU [v])=.aL [(x,v)]) (k:.iE x=.cP) (Q:F.isCoroutine=.j) (c:F.isGenerator=.j) (i:F.kind=.ll) (V:∀y∈F.names,y.2≠.cell)
  (h:∀H L,.i8 H->H.Ns L (λy=>[(x,v)].lookup y)->ao (ay P w) (A.deeper .v5) (az g .v5) R .hE {s with heap:=H,toks:=.cw+1}):
  ao (ay P w) A (call .ej [v]) R E s:=by calc II (PySem.W.kla_callFunE r J rfl Q c rfl a ?_);rw[Y];calc aG (wpAny_newFunctionEnv V (λy j=>.d) (λH n S=>(.bM<|d.fresh _ S)) i);refine PySem.W.kla_codeExpr<|i7 (h H .G (.bQ (S.extBut b o (cY<|bK e)<|.a1 e)) n) (λ_ _ z=>z) λ_ _ z=>z.elim
def acw{r}{n:Nat}{t u v}(V:.iI)(Z:IsRange .R r 0 n 1 t u v)(l:.bh n)
  (h:∀h' tk acc,.i8 h'->.G<=h'.objs.size->ItemsOf (λi v=>∃t,v=.gy (0+i*1)) acc n->Q acc.toList .lJ):
  ao (ay P w) A (Jv<|.p r) Q E s:=by
 let Y:Builtin.Range.rangeSize 0 n 1=n:=by simp[Builtin.Range.rangeSize];lia
 unfold Jv;calc ah (Uv<|o8 anX ?_);rw[qt anY _];calc .v4;rw[qt Jw _];let d:∀(r:Result) (J:bO),.ui->
   (match r with
    |.ok (.ret v)=>ao (ay P w) A (match v with|.ref a=>(do let o<-load a;match o.data with|.seq k _=>.aL k.toList|_=>Jt "internal:collect")|_=>Jt "internal:collect") Q E J
    |.ok _=>False
    |.error e=>E e J):=λr J #[h',tk,acc,O,e,C,j,g,S]=>by subst e;subst C;show ah (Tc g (aG<|h h' tk acc j (fv<|bK g) S))
 refine i7 (wpAny_extend_range (R:=λr J=>.ui) (s:=(.h3 .r7)) (A:=A) V (a:=0) (b:=n) (c:=1) (n:=n) (.a1 Z) ?_ Y .a .G .dO 0 .cB λh' tk acc O j g S=>{h',tk,acc,O,rfl,rfl,.bQ (j b o (cY<|bK e)<|.a1 e),g,S}) (λf J z=>?_) λe J z=>d _ _ z
 .grind [Builtin.Range.small,apu]
 .cases f with
  |done f=>show d _ _ z
  |again c=>show(.c z.1<|wD z.2 d)
def fr_(t:h.Ns L m):Fr {} L h m:=(.g t (.bQ<|by simp[UK] at e)<|eY _)
def acx(N:News {} L h' (Ad {} h L++r)):.a3 (b≠L) (.fP=.v->.eT=.v):=λb o Y e=>
 (N (b,o) (qd _<|J7 Y .bm e)).1
def acy{kz:.S}(d:kz.length=n)(hn:.bh n)(hh:.iI)(W:s.heap.Ns L m)(Z:IsRange .R r 0 n 1 t u v)
  (K:∀(i:Nat) k t (h:bI) (tk:Tok),kz[i]?=.fg->(.a3 (b≠L)<|.eM=.v->.fP=.v)->ao (ay P w) A.in1.in1 (call .ej [.gy i]) (λx s'=>∃g V G,x=qc k V/\s'={s with heap:=g,toks:=G}/\Kp h g) .hE .qi)
  (h:∀D h' tk c (vs:.b1) (C:.eR aw),(.a3 (b≠L)<|.eM=.v->.eT=.v)->h'.Ns L m->.lE D=.b (.jv C c)->.G<=D->.bD=n->.wZ->KskOut .j kz vs C.toList->.eY D .lJ):
  ao (ay P w) A (call (.fw .eE) [.p r] [(o7 "key",.ej)]) Q E s:=by
 let X:=oV;calc call_function_entry_kw Uz UA UB .bm ?_;calc .tK;calc ah (acw hh Z hn λB tk j O J S=>?_);let M:j.toList.length=n:=.nP S.1
 calc ah (Jy ?_ .a);let l:=dg B (o:=.jv j.toList.toArray 0) rfl;calc ah (iz (wpAny_call_entry_kw UD (.cx l) UE ?_<|by unfold Dp;kernel_rfl));let y:.i8 (.mV j.toList.toArray 0):=.bQ (.a1<|O b o e);let I:L<.G:=W.lt;change ao (ay P w) A.in1.in1 .vm _ _ _;rw[.g7<|.vm=ksk_tree .gB .ej .j];refine ksk_sortAny (h₀:={}) (L:=L) (m:=m) (news:=Ad {} B L) (vs:=j.toList) (kz:=kz) (n:=0) (s:=(.pp<|.mV j.toList.toArray 0)) (fr_<|W.keeps y) .hR l (qe<|fO I J) .bm .hR (by rw[d,M]) .a (λi x k hx hk R T own F N=>?_) λh' T C c F N H=>(.bZ<|aG (.bZ<|h _ h' T c j.toList C (.ld ?_) F.ns (N _ .di).1 J M (λi x hx=>?_) H))
 .let[a,_,c]:=J8 R;show(.g (.a1 c) a<|by simp[UK])
 .let[_,_,c]:=J8 R;show cY (bK c)
 .obtain⟨t',rfl⟩:∃t,x=.gy i:=by let[t,e]:=S.2 i x .d;lk
  calc i7 (K i k t' R T hk (.ld (acx N b o Y<|O b o e))) (λx s' z=>?_) λ_ _ z=>z;let[g,V,G,rfl,rfl,U]:=z;show(.kV g G V rfl (.g (F.ns.keeps U) (.bQ<|by simp[UK] at e)<|eY _) λp q=>(.c (U _ _ (N p q).1) (N p q).2))
 .show(N (b,o)<|.fy (J7 Y .bm<|O b o e)).1
 .let[t,e]:=S.2 i x .d;lk
section
variable{KV:.bn (aw->bI->Prop)}
structure FL(P:fu)(w:ew)(A:gS)(s:bO)(q:af)(vs:.b1)(KV:.bn (aw->bI->Prop))(lt:.bn (Nat->Bool)):Prop where
 hh:.iI
 kp:∀i v h h',KV i v h->(.a3 (o.cls=.fu)<|.fP=.v->.eT=.v)->KV i v h'
 turn:∀(i:Nat) (v:aw) (h:bI) (tk:Nat),vs[i]?=.aO->.i8 h->ao (ay P w) .fR (call .cI [v]) (λx s'=>∃g t,s'={s with heap:=g,toks:=t}/\KV i x g/\Kp h g) .hE .qi
 cmp:∀(i j:Nat) (x y:aw) (h:bI) (tk:Nat) (Q:.hq) (E:.hq),KV i x h->KV j y h->Q (.eQ<|lt i j) .qi->ao (ay P w) .fR (Tt .Lt x y) Q E .qi
 tr:∀a b c,.n (lt a b)->.n (lt b c)->.n (lt a c)
 ir:∀a,lt a a=.j
def FN(k:Kp T h)(H:T.objs.size<=S):Kp T (h.update S f):=.bQ<|by rw[UL _ _ _ _<|.mh e H];lk
def acz(Z:FL P w A s q vs KV lt)(d:.pL .hF)(H:.G<=S)(hI:.G<=I)(FP:S≠I)
  (hR:∀i v h' t,vs[i]?=.aO->(∀j,j<.bD->lt j i=.j)->.i8 h'->R (.n2 v) {s with heap:=h',toks:=t}):
  ∀r j i h tk vb kb c,.bD-(j+1)=r->j+1<=.bD->.i8 h->.cT S=.b (.jv (.eA [vb,kb]) c)->h.IsListIter I l (j+1)->vs[i]?=.b vb->KV i kb h->(.aM<|k<=j->lt k i=.j)->
   qg (ay P w) A (.builtin "min.loop"<|.gU [.p I,.cI,.p S]) R .qi:=by
 let n:.v3:=.V
 let K:l<.G:=by let[o,e,_]:=d;show bK e
 let W:=IT (prog:=P) (w:=w) (A:=.fR) Z.hh I l (cY<|fO K hI) .hF;let kI:∀{h h':bI},.i8 h->(.a3 (b∉[I])<|_=_->_=_)->.i8 h':=λa J b o e=>J b o (.nP<|.mh e hI) (a b o e);let y:∀{h:bI},.i8 h->h.IsList l .hF:=.aU (by let[o,e,x]:=d;show(.em (k _ _ e) x))
 intro r;induction r with
 |zero=>
  intro j i h tk vb kb c hr hj k0 nS B FQ Of V;let vA:j+1=.bD:=.a
  calc o8 UM ?_;rw[qt wX _];calc .zU;change .w1;calc ah (zL<|W.done _ _ _ (.c .d<|y k0) λh' F N=>?_);change ao _ .fR (Jx S (.P .bH)>>=_) _ _ _;calc ah (zI (N S _ (by simpa using FP) nS) rfl (ah<|Ds .dC));show hR i vb _ _ FQ (.bS<|V k .a) (FN (kI k0 N) H)
 |succ r E=>
  intro j i h tk vb kb c hr hj k0 nS B FQ Of V;let K:j+1<.bD:=.a
  calc o8 UM ?_;rw[qt wX _];calc .zU;change .w1;calc ah (zL<|W.item (j+1) _ _ _ .a (.c B<|y k0) λv h' F G acA N=>?_);let p:vs[j+1]?=.aO:=by simpa using G
  obtain⟨oI,eI,T,X⟩:=id acA.1;change .vl;calc ah (zL (iz<|i7 (Z.turn (j+1) v h' F p<|kI k0 N) (λx s'' he=>?_) λ_ _ f=>f.elim));let[g,t,rfl,D,U]:=he;let u:=U _ _ (N S _ (by simpa using FP) nS);let kb2:KV i kb g:=Z.kp _ _ _ _ Of λb o Q e=>U b o (N b o (.s<|by
   have:b=I:=.pC
   subst this;let[o',e',O,_]:=B;rw[e] at e';cases e';rw[Q] at O;show .ng O) e);let J:.i8 g:=.bQ (U b o<|kI k0 N b o e);change ao _ .fR (tryCatch (gw [v,x]<|Tt .Lt x kb>>=_) _>>=_) _ _ _;calc ah (zL<|iz (ah<|Z.cmp (j+1) i x kb g t _ _ D kb2 ?_));calc ah (iz<|ky ?_);calc ah (Ds .dC);by_cases Y:.n (lt (j+1) i)
  .simp only[Y,if_true];calc ah (zI u rfl (ah<|Ds ?_));rw[n];let M:.a3 (b≠S) (g.get? b=.v->(.yU).get? b=.v):=λb o z e=>.nL (UL _ _ _ _ z)
   obtain⟨c2,C⟩:∃c2,(.yU).get? S=.b (.jv (.eA [v,x]) c2):=(.cz<|zJ u (.P<|.eA [v,x]));calc aG (.c (rT wX _)<|E (j+1) (j+1) _ _ v x c2 .a K (FN J H) C (.q oI (M _ _ FP.symm<|U _ _ eI) T X) p (Z.kp _ _ _ _ D λb o Q e=>M b o (.s<|by subst z;rw[u] at e;cases e;show .ng (show nE .dI=nE .f4 from Q)) e) (.bS ?_));by_cases e:k=j+1
   .subst e;show Z.ir _
   .cases z:lt k (j+1) with
    |false=>rfl
    |true=>have:=Z.tr _ _ _ z Y;rw[V k .a] at this;cases this
  .simp only[Y,if_false,wg];calc ah (Ds ?_);rw[n];calc aG (.c (rT wX _)<|E (j+1) i g _ vb kb c .a K J u (.q oI (U _ _ eI) T X) FQ kb2 (.bS ?_));by_cases e:k=j+1
   .subst e;simpa using Y
   .show V k .a
def acB(Z:FL P w A s q vs KV lt)(d:.pL .hF)(y:0<.bD){Q}
  (c:∀i v h' t,vs[i]?=.aO->(∀j,j<.bD->lt j i=.j)->.i8 h'->Q v {s with heap:=h',toks:=t}):
  ao (ay P w) A (call (.fw "min") [.dQ] [(o7 "key",.cI)]) Q E s:=by
 let n:.v3:=.V
 let K:l<.G:=by let[o,e,_]:=d;show bK e
 calc kmk_tree PySem.F.kind_min PySem.F.plain_min PySem.F.entry_min (kmk_min_key _ _) ?_;change ao _ .fR (.v2>>=_) _ _ s;calc ah (Jc (.g7<|.v2=.aL [.b3,none]) ?_);calc .ik;calc ah (IG d ?_);calc ah (Jy ?_<|eY _);rw[n];calc aG (.bM<|rT wX _);generalize u:.v1=B;let Y:.gB=.G+1:=by rw[<-u];simp
 let a:.i8 (.mV .bH 0):=.bQ (.a1<|by rw[<-u];show .a1 e);let gI:(.mV .bH 0).get? .G=.b (.gZ "list_iterator"<|.nM [.dQ,.av 0 0]):=.a1 (by rw[<-u];show .cB);let I:(.mV .bH 0).get? .gB=.b (.jv .bH 0):=.cB;let h:.gB≠.G:=.a
 let W:=IT (prog:=P) (w:=w) (A:=.fR) Z.hh .G l (cY K) .hF;let hsz:vs.toArray.size=.bD:=am1 ..;calc o8 UM ?_;rw[qt wX _];calc .j5 (Js<|.p .gB) (wh I rfl ?_);change ao _ .fR (tryCatch (nG .dO) _>>=_) _ _ _;calc ah (zL<|W.item 0 _ _ _ .a (.c (.fG _ gI)<|by let[o,e,x]:=d;show(.em (a _ _ e) x)) λv h' F G R N=>?_);let p:vs[0]?=.aO:=.d
 let[V,e2,T,X]:=id R.1;let J:.i8 h':=.bQ (N b o (.nP (cY<|bK e))<|a b o e);change .vl;calc ah (zL (iz<|i7 (Z.turn 0 v h' F p J) (λx O he=>?_) λ_ _ f=>f.elim));let[g,t,rfl,D,U]:=he;let S:=U _ _ (N .gB _ .d I);let H:.G<=.gB:=.a
 change ao _ .fR (Jx .gB (.P<|.eA [v,x])>>=_) _ _ _;calc ah (zI S rfl ?_);rw[n];let M:.a3 (b≠.gB) (g.get? b=.v->(.w0).get? b=.v):=λb o z e=>.nL (UL _ _ _ _ z)
 obtain⟨r,C⟩:∃r,(.w0).get? .gB=.b (.jv (.eA [v,x]) r):=(.cz<|zJ S (.P<|.eA [v,x]));calc aG (.c (rT wX _)<|acz Z d H .ao h c _ 0 0 _ _ v x r rfl y (FN (.bQ (U b o<|J b o e)) H) C (.q V (M _ _ h.symm<|U _ _ e2) T X) p (Z.kp _ _ _ _ D λb o co e=>M b o (.s .d) e) (.bS ?_));rw[Nat.le_zero.mp L];show Z.ir 0
end
def acC(I:.ak)(k:.a3 (b≠.eB) (.eM=.v->.eT=.v))(G:s.heap.Ns .eB m)(a:h'.Ns .eB m)(i:.G<=D)
  (g:eA .ar X.w (.a8 D o) h' D o):.mD (.a8 D o):=by
 let t:=.nb i;let P:.j0 (H b=.aJ) (b≠.eB):=λb u e z=>by rw[z,I.free] at e;cases e
 refine I.step (ch:=[]) .kr (λb o Y _ _ e _=>k b o Y e) (λb o Y _ _ e _=>(.c o.slots<|k b o Y e)) (λb o _ e n=>by rw[aY<|.mh e i];show n) (λb o _ e=>?_)
  (λb F e=>.nL (aY<|gC e t)) (λb o u e=>.nL (aY<|gC e t)) (λb l e=>(.g .bH (by rw[aY<|gC e t,e];simp) .x1)) (λp M=>?_) (.ml ?_) .ix
 .by_cases Y:b=.eB
  .let[T,_,_,j,_]:=a;lk
  lk
 .let[T,d,h,L,C,f,R]:=a;show{T,d,h,L,C,f,.ah (.aA (R x)<|G.agree M x)}
 .by_cases Y:b=D
  .subst Y;rw[dk] at e;lk
  .rw[aY Y] at e;refine .uR
   lk
def aZ.grow{g}{O}(x:.n0 g)(k:.a3 (H b=.v) (sO o<|H' b)):∃j,bB U g Hs H O j H' O:=by
 let' j:Hp:=.bw (match Hs b with
  |some (.gg _)=>none
  |r=>r);let L:.a3 (j b=.v) (Hs b=.v/\∀p,o≠.gg p):=.bQ .d
 let C:.a3 (Hs b=.v) ((∀p,o≠.gg p)->j b=.v):=λb o e n=>.d
 let f:.bu (.H<|Hs b) (.H<|j b):=λb e=>.d
 have I:Le Hs j:=λp o r=>by
  let[r,n]|||[[u,r],d]:=r
  .show .hl (C _ _ r λq z=>by rw[z] at n;show n) n
  .show .F (.c (.c u<|C _ _ r λq z=>nomatch z) d)
 refine(.I j (.q I (λb o h _=>k b o h) (λb h i=>.aa (f b i) h) λ_ h=>.ex) (λb o h=>?_) (x.own.le I .hR λp R o h=>?_)<|n_.le I x.env)
 .let[a,b]:=L _ _ h;show(k _ _<|x.sub _ _ a).is b
 .let[[p,c],m,rfl]:=.Y R;show f _ (x.own.2 _ _ m).1
 .let[[p,c],m,rfl]:=.Y R;let[_,T,B,M,_]:=x.own.2 _ _ m;rw[B] at h;cases h;show(k _ _ B).is λq z=>by subst z;show M
def acD{p q:Pos}:.hU (S5 l->za p (l++[eV q.line,eV q.col,c])=.b C->za p l=.b C\/p.line=q.line/\C=c):=λ{l} h e=>by
 fun_induction S5 l with
 |case1=>grind[eV,za]
 |case2 i t j u v r E=>grind[za]
 |case3=>lk
structure FR(X:Cx)(c P:af):Prop where
 code:X.env.code=.p c
 hd:zM .dj c P
 bm:X.base.BuiltinsAt X.mg P
 tb:∃x∈([.h8,.h5]:.a7),lD X.K x=.be c P
def Og{F}{R}{w}{Q}(L:FR X c P)(I:.ak)(hd:UN l .X=([],[]))(hc:C3 F .X=.aL w)(hq:X.env.qual++.nV=lN R.line)
  (k:∀f O T pm H' h' tk,.eS H' .lJ->.lE f=.b (JB .nV (lN R.line) l g F w pm O T)->h'.CodeRec (.p O) (lN R.line)->(.a3 (H b=.v) (sO o<|H' b))->(.a3 .ew<|.eM=.v->.eT=.v)->.eY f .lJ):
  .ds (.fn<|.Lambda l g F R) Q:=by
 let[x,D,ht]:=L.tb;let[G,hP,V,g2]:=I.tab x D c P ht;let oP:.d8 P=.zT:=I.aL P _ hP;let S:=.ry;let C:=L.hd.keeps I.bk;let[bm,ob,b1,N,b3,b4,b5,b6,b7,b8]:=L.bm;let Y:s.heap.BuiltinsAt X.mg P:={bm,ob,b1,N,b3,b4,I.bk _ _ b5,b6,b7,b8};calc PySem.W.kla_eval hd ?_;rw[hq];cases e:za R G.toList with
 |some cv=>let[O,o,vs,t,rfl,B,M,A]:=g2 _ _ e;calc PySem.W.kla_makeFunctionHit hc I.ok.glob S L.code C oP V e Y λT h' tk y sz=>?_;let i:.i8 (h'.push<|.gZ "function" (.func<|JC .nV (lN R.line) l g F w ((X.mg .oX).getD .cy) (.p O) T)):=.bQ (.a1<|y b o e);show k _ O T _ H _ tk (I.kept i) .cB {O,o,vs,t,rfl,i _ _ (I.aL O _ B).1,M,A} (λ_ _ h=>.ex) λb o _ e=>i b o e
 |none=>
  let hgP:jr≠P:=.s (by let[o,es,ep,e1,e2,_]:=S;rw[z,oP] at e1;cases e1;cases e2)
  calc PySem.W.kla_makeFunction hc I.ok.glob S L.code C oP V e hgP Y λO T h' tk D Z K acE Oh=>?_;let[_,oc,vs,t,e0,B,M,A]:=acE;cases e0;let nc:.bI O:=.nb Z;let cP:O≠P:=.s .d
  let nP:.j0 (H b=.aJ) ((∀p,u≠.gg p)->b≠P):=λb u e n z=>by rw[z,hP] at e;cases e;show n _ rfl
  let fP:.bu .ew (b≠P):=λb e z=>by rw[z,hP] at e;cases e
  let y:.a3 (b≠P) (.eM=.v->(.vk).get? b=.v):=λb o z e=>.a1 (D b o z e);let' H':=upd (.a8 O (.aB oc<|.own 0)) P (.gg .tl);let W:.j0 (H b=.aJ) (b≠P->H' b=.aJ):=λb u e z=>by simp only[H'];rw[aY z,aY<|gC e nc];show e
  let uc:H' O=.e8 oc (.own 0):=by simp only[H'];rw[aY cP,dk]
  have uP:H' P=.nh .tl:=dk;let nf:.v0:=.bQ (W _ _ e<|nP _ _ e .kr);let gd:Gd H' .tl:=by
   calc(.c (by rw[aoa];show TriplesOk_snoc _ _ _ _ V) λp cv e=>?_);rw[aoa] at e;let e|||[E,rfl]:=acD V e
   .let[c,o,vs,t,a,b,d]:=g2 _ _ e;show{c,o,vs,t,a,nf _ _ b,d}
   .show{O,oc,vs,t,rfl,uc,M,by rw[E];show A}
  have J:.eS H' (.pp .vk):=by
   refine I.step (g':=s.gens) (d':=s.drawn) (ch:=[]) .kr (λb o _ _ _ e n=>y b o (fP b n) e) (λb o _ _ _ e n=>(.c o.slots<|y b o (fP b n) e)) (λb o _ e n=>?_) (λb o _ e=>?_) (λb xs e=>W _ _ e<|nP _ _ e .kr) (λb o u e=>W _ _ e<|nP _ _ e .kr) (λb qs e=>?_) (λm hm=>?_) (.ml ?_) .ix
   .simp only[H'];rw[aY<|fP b n,aY<|.mh e Z];show n
   .by_cases z:b=P
    .subst z;show(.cz<|.a1 Oh)
    .show(.c o<|y b o z e)
   .by_cases z:b=P
    .subst z;rw[hP] at e;cases e;show(.D uP λ_=>gd)
    .show(.g .bH (by rw[W _ _ e z];simp)<|.qU nf)
   .let[o,es,ep,e1,r]:=hm;show(.I o es ep (y _ _ (fP _ I.free) e1) r)
   .by_cases z:b=P
    .subst z;rw[uP] at e;cases e;show .a1 Oh
    .by_cases z2:b=O
     .subst z2;rw[uc] at e;cases e;show(.g (.a1 B) oc<|.a1 B)
     .let j:H b=.aJ:=by simp only[H'] at e;rw[aY z,aY z2] at e;show e
      calc(I.aL b u j).jX (λd v hd' q=>y d v ?_ q) (λd q=>W _ _ q<|nP _ _ q .kr) λd xs q=>W _ _ q (nP _ _ q .kr);lk
  calc k _ O T _ H' _ tk J .cB {O,oc,vs,t,rfl,.a1 B,M,A} (.bQ ?_) λb o n=>y b o (fP b n);by_cases z:b=P
  .subst z;rw[hP] at e;cases e;show .F (.ct _ _ uP)
  .show .z (W _ _ e z)
section
variable{K:.c2}{p p2 p3 p4 pos Oi bp lp kp:Pos}{i n k:Nat}{zs:.S}
def Oj:∀l:.h,.fb (.bA aa) (.bA λa:Nat=>V.int a)
 |[]=>rfl
 |a::l=>(.d6 _ rfl<|Oj l)
def FT:∀zs:.S,(zs.map .cJ).mapM vi=.b (zs.map V.int)
 |[]=>rfl
 |z::zs=>by rw[bx,anG,FT zs];rfl
def Ol:aw->Nat
 |.int i _=>i.toNat
 |_=>0
def acF(hz:zs.length=n)(d:.bD=n)(hi:.wZ)(H:KskOut .j zs vs C):
  ∃D:.h,D.Perm (aq n)/\D.Pairwise (λa b=>zs.getD a 0<=zs.getD b 0)/\aV (D.map λa:Nat=>V.int a) C:=by
 obtain⟨G,m,rfl,P⟩:=H;let F:∀p∈G,∃(i:Nat) (t:Tok),p=(zs.getD i 0,.gy i):=.dz (by
  let[i,g,e]:=UG (m.mem_iff.mp R);rw[aob] at e;let c:i<.bD:=.d
  let[t,B]:=hi i vs[i] (cf c);lk)
 refine(.jM (.cW (.as<|Ol p.2)) (.aA (m.map _)<|.of_eq ?_) ?_)
 .calc UO .d λi h M=>?_;let A:i<.bD:=.d
  let[t,B]:=hi i vs[i] (cf A);rw[List.getElem_map,aob,List.getElem_range];simp only[B,Ol];lia
 .rw[o9];calc P.imp_of_mem λ{p q} R f Z=>?_;let[i,t,rfl]:=F p R;let[j,u,rfl]:=F q f;show Z
 .clear m P;induction G with
  |nil=>show .nil
  |cons p G E=>let[i,t,rfl]:=F p .di;show .bj (show RelV (V.int i) (qc i t) from(.a5 t)) (E (.dz (F p<|.fy R)))
def acG(L:FR X c P)(hr:.fV)(calm:.bP)(gs:.bR .eE)(gr:.bR .es)(he:.cH Γ e (aa n))(hn:.bh n)
  (hN:.d5 i=.b ("sizes":Str)) (hk:X.env.kindOf "sizes"=.iN) (hG:Γ[i]?=.b (.du<|zs.map .cJ)) (hz:zs.length=n) (N:UN params .X=([],[])) (sc:.he=[(("head":Str),NameKind.local),(("sizes"),IU)]) (sk:F.kind=.ll) (co:F.isCoroutine=.j) (gen:F.isGenerator=.j)
  (hq:X.env.qual++.nV=lN lp.line) (hb:∀name qual g cl pm cd ct v,zi (JC name qual params g F cl pm cd ct) (.gU [v])=.aL [(("head":Str),v)])
  (h:∀l r,r.Perm (aq n)->r.Pairwise (λa b=>zs.getD a 0<=zs.getD b 0)->K .dQ (O++[(l,ai r)])) (hgs:.bB .eE:=by rfl) (hgr:.bB .es:=by rfl) (hs:.b4=.b5:=by rfl):
  .oe Γ (.se .eE p [.sd .es p2 [e] [] Oi] [(.g (.b "key") (.Lambda params (.fs (.bz "sizes" p3) (.bz .an p4) bp) F lp) kp)]) K:=.mk λHs H U s Q q=>by
 calc(.g (.br<|∀E s,_->.ds _ (_)) (λE s U H Q I h=>h E s I) λE s1 I=>?_);calc ub (nR I hgs gs boot_sorted ?_);calc callWith_kw ?_;refine oZ<|zf (nR I hgr gr Td<|wB (aJ (cA.ok Oi E s1 U H (λvs H1=>vs=[.u n]/\∃A,bB U Γ Hs H O A H1 O) I ?_) λus d #[vs,H1,I1,r1,q1]=>?_) hs rfl)
 .show(ae he (ak .bW) (hs:=hs):XA X Γ O [e] λws O'=>ws=[_]/\O'=O) Hs H U s _ λvs ws O' A H1 rc rs #[x,B]=>by subst x;subst B;show(.g (rs.flat rfl) A rc)
 .let[rfl,A,yh]:=q1;cases r1 with
  |cons a b=>
   cases b;let[t0,rfl]:=a;calc call_range_1 (wC ?_);let[cS,FU]:=I.ok.has _ (.z hk);let vB:C3 F .X=.aL [(("sizes":Str),cS)]:=by
    rw[D8 (λy T z=>by
     rw[sc] at T;let rfl|||T:=.c6 T
     .cases z
     .rw[.d4 T];show(.c cS FU)),sc];simp[fZ,FU]
   refine kws_cons<|Og L (I1.kept (.bQ<|.a1 e)) N vB hq λf c' ctv pm H2 M tk J hf Bz kH kp=>kws_nil ?_;change ao _ _ (call (.fw .eE) [.p d.heap.objs.size] [(o7 "key",.ej)]) _ _ _;let[pM,S]:=yh.ok.grow kH;let rc:=yh.trans S;let[m,G,hl]:=id J.loc;let[v,e1,e2]:=sP rc.ok.env hG;let[a,_,rfl,rx,vs,rfl,rs]:=e2;obtain rfl:=rs.flat (FT zs);let[u,ru,lk]:=hl i _ _ hN e1 (.F<|.z hk);cases(show u=.T from ru);let C:M.IsCell cS .cq:=by
    let[z,_]|||[_,cc,z,y]:=lk
    .rw[hk] at z;cases z
    .rw[FU] at z;cases z;show y
   let[yi,ri,pl,_]:=J.list (.z (Le.of rc.ok.sub _ _ rx).rd);let kn:∀{R:bI},(.a3 (b≠.eB)<|M.get? b=.v->R.get? b=.v)->.a3 (M.get? b=.v) ((∀es ep,.ce≠.i7)->R.get? b=.v):=λk b o e n=>k b o (.s<|by let[o',es,ep,w,x2,_]:=G;rw[z,w] at e;cases e;show n _ _ x2) e;refine acy (L:=.eB) (m:=m) (n:=n) (kz:=zs) hz hn (I.ok.hd calm) G (kp _ _ (I1.aL.fresh .ao)<|dg d.heap (o:=(.gZ .es<|.nM [.av 0 d.toks,.av n t0,.av 1<|d.toks+1])) rfl) (λj Y t R BA Om pO=>?_) λD h' BA c vs out Y nsL hD Oo hlen hints ko=>?_
   .refine Oe hr.depth (kn pO _ _ hf λ_ _ z=>nomatch z) (let⟨c0,o,vs,t,x,B,Z,z4⟩:=Bz;{c0,o,vs,t,x,kn pO _ _ B (λ_ _ z=>by rw[Z] at z;cases z),Z,z4})
     (J.mod.nolimit.keeps λb o z=>pO b o (λy=>by rw[y,amw<|bC J.ok.nQ J.ok.above] at z;cases z) (J.bk b o z)) (hb ..) (by rw[sc];rfl) co gen sk (.d2 (by
      rw[sc] at T;let rfl|||T:=.c6 T
      .show .aV
      .rw[.d4 T];show .aV)) λh3 L3 k3 FV=>?_;let k4:.a3 (M.get? b=.v) ((∀es ep,.ce≠.i7)->h3.get? b=.v):=λb o z y=>k3 b o (kn pO b o z y);let zl:=oV;let hj:j<zs.length:=(.aw Om);let[t5,ht5]:=(ri.ints).get j Y Om;let l3:h3.IsList a yi.toArray:=by let[o,ep,x,B,Z,z4]:=pl;show PlainL.isList (.ab o ep (k4 _ _ x λ_ _ z=>by rw[z4] at z;cases z) B Z z4)
    calc CV (zd<|amB (c:=cS) (v:=.T) sk (by change .iE _=_;rw[sc];rfl) (by simp[C5]) ?_ (zd<|IE (v:=.gy j) sk (.p5<|.iE _=_) FV .f (item_listR l3 .a .a (by simpa using ht5)<|.ab h3 t5 _ rfl rfl k3)));let[o,x,B]:=C;show(.em (k4 _ _ x λ_ _ z=>.d) B)
   .let[r,o1,o2,o3]:=acF hz hlen hints ko;let ol:.iU=n:=by rw[o1.length_eq,mE]
    calc(.d6 (.p D) (acC (t':=BA) (o:=.Z<|r.map λa:Nat=>V.int a) J Y G nsL Oo<|.I .d out.toList c o3 .a) (q _ (.p D) _ _ _ (rc.trans (rc.ok.have (J.aL.fresh Oo) .aF<|.l (ws:=r.map aa) ?_)) rfl<|h D r o1 o2));show Oj _
end
def Oq:∀l,HT.lexLt l l=.j
 |[]=>rfl
 |x::l=>by rw[HT.AA,.gO,Oq l]
def Ot:∀{a b c},.n (HT.lexLt a b)->.n (HT.lexLt b c)->.n (HT.lexLt a c)
 |[],[],_,h,_=>.iL
 |[],_::_,[],_,h=>.iL
 |[],_::_,_::_,_,_=>rfl
 |_::_,[],_,h,_=>.iL
 |_::_,_::_,[],_,h=>.iL
 |x::a,y::b,z::c,B,M=>by
  rw[HT.AA] at*;split at B<;>split at M
  .rename_i e f;rw[.r<|e.trans f];show Ot B M
  .lk
  .lk
  lk
def vC(n:Nat×Nat×Nat):=[(.cg .aZ)-.a0,.a0,n.1]
def acH(G:.ek<=.d3)(t:.a0<=.aZ):Vaglrc.earlier m n=HT.lexLt (vC m) (vC n):=by let B:((.cg .d3)-.ek=(.cg .aZ)-.a0)=(.d3-.ek=.aZ-.a0):=propext .a;let M:((.cg .d3)-.ek<(.cg .aZ)-.a0)=(.d3-.ek<.aZ-.a0):=propext .a;simp only[Vaglrc.earlier,vC,HT.AA,HT.KZ,uv];lk
section
variable{s:bO}
def acI{u}(L:f.scope.kind=.ll)(d:f.kindOf x=.cP)(t:s.heap.Ns f.locals m)(D:m x=.cq)(B:my .R a g)(b:-(2^63)<=k)(M:k<2^63)(hi:IM k g.size=.b i)(R:g[i]?=.aJ)
  (h:Q u (.mJ<|.cw+1)) (N:(.iF x)=.j:=by decide):ao (ay P w) A (az (.hL (.bz x p)<|.lU k j p2) f) Q E s:=
 CV (zd (IE L d t D (amC<|TR .iW amW.lookup (getItem_tuple B b M hi R<|.aY h))) N)
end
section
variable{K:.c2}{p pos lp kp a1 a2 a3 a4 b1 b2 b3 c1 c2 c3 d1 d2 d3 tp:Pos}
theorem acJ(L:FR X c P)(hr:.fV)(calm:.bP)(gm:.bR "min")(he:.cH Γ e w)(hw:Is O w (.Z<|.gv λn=>.tC))(Ed:ns≠[])(hv:∀n∈ns,.a0<=.aZ)(hd:UN l .X=([],[]))(sc:.he=[(("one":Str),NameKind.local)])(sk:F.kind=.ll)(co:F.isCoroutine=.j)(gen:F.isGenerator=.j)
  (hq:X.env.qual++.nV=lN lp.line) (hb:∀name D body cl pm cd ct v,zi (JC name D l body F cl pm cd ct) (.gU [v])=.aL [(("one":Str),v)])
  (h:∀m∈ns,(∀n∈ns,Vaglrc.earlier n m=.j)->K (.am [aa m.1,aa .ek,aa .d3]) O) (hg:.bB "min":=by rfl) (hs:.b4=.b5:=by rfl):
  .oe Γ (.se "min" p [e] [(.g (.b "key") (.Lambda l (.hz [.BinOp (.fs (.bz "one" a1) (.lU 2 z1 a2) a3) .Sub (.fs (.bz "one" b1) (.lU 1 B b2) b3) a4,.fs (.bz "one" c1) (.lU 1 z3 c2) c3,.fs (.bz "one" d1) (.lU 0 z4 d2) d3] z5 tp) F lp) kp)]) K:=.mk λHs H U s Q q=>by
 calc(.g (.br<|∀E s,.pV E->.ds _ (EP X E U Q)) (λE s U H Q I h=>h E s I) λE s1 I=>?_);calc ub (nR I hg gm boot_min<|callWith_kw ?_ (he:=by rw[hs];rfl) (hplain:=by rw[hs];rfl));rw[hs];calc oZ (aJ (cE.ok E s1 U H (λv H1=>∃mU,Rep mU w v/\bB U Γ Hs H O mU H1 O) I<|he Hs H U s _ λv mU H1 rc r=>(.g mU r rc)) λu d #[v,H1,I1,rv,mU,r,yh]=>wC ?_);let vB:C3 F .X=.aL []:=by rw[D8 (λy T z=>by rw[sc] at T;rw[.d4 T] at z;cases z),sc];rfl
 calc kws_cons (Og L I1 hd vB hq λf c' ctv pm H2 h2 tk J hf Bz kH kp=>kws_nil ?_);let[pM,S]:=yh.ok.grow kH;let rc:=yh.trans S;let[a,_,rfl,rx,vs,rfl,rs]:=hw.at rfl rc.ok .gf;cases(show u=.T from rv);let[g,ri,pl,_]:=J.list (.z rx.rd);let acK:.f1=.fA:=by rw[<-ri.length,<-rs.len,aj]
 have key:∀(i:Nat) (u:aw),g[i]?=.aJ->∃n q t1 t2 t3,ns[i]?=.b n/\u=.cI/\my h2 q (.eA [.av n.1 t1,.av .a0 t2,.av .aZ t3])/\Rep pM .tC .cI:=λi u R=>by
  let hi:i<.f1:=(.aw R);let en:ns[i]?=.b (ns[i]):=cf .a;let[v,ev,rv]:=rs.get (i:=i) (by rw[bG,en];rfl);let[u',eu,ru]:=ri.get ev;rw[R] at eu;cases eu;let[q,_,rfl,rq,ws,rfl,rw3]:=id rv;cases(show u=.cI from ru);obtain rfl:=rw3.flat (us:=[.u ns[i].1,.u ns[i].2.1,.u ns[i].2.2]) rfl;let[_,ts,rt,C]:=(Le.of rc.ok.sub _ _ rq).rd.ok J.aL
  cases rt with|cons x1 rt=>cases rt with|cons x2 rt=>cases rt with|cons x3 rt=>cases rt;let[t1,rfl]:=x1;let[t2,rfl]:=x2;let[t3,rfl]:=x3;show{_,q,t1,t2,t3,en,rfl,C,rv}
 have Z:FL .ar X.w X.A {d with heap:=h2,toks:=tk} f g (λi x h=>∃n q ts,ns[i]?=.b n/\x=.cI/\my h q ts/\hU ts.toList (vC n)) (λi j=>HT.lexLt (vC<|.o6 (0,0,0)) (vC<|ns.getD j (0,0,0))):=by
  refine(.ab (I.ok.hd calm) (λi v h h' {n,q,ts,z1,B,#[o,y1,y2,y3],z4} kt=>{n,q,ts,z1,B,(.q o (kt _ _ y2 y1) y2 y3),z4}) (λi v hp BA hv pO=>?_) (λi j x y hp BA Q2 E2 #[n,q,ts,y1,y2,y3,y4] #[n',N,ts',y1',y2',y3',y4'] hQ=>?_) (λa b c=>Ot) λa=>Oq _)
  .obtain⟨n,q,t1,t2,t3,en,rfl,C,_⟩:=key i v hv;calc Oe hr.depth (pO _ _ hf) (Bz.keeps pO) (J.mod.nolimit.keeps λb o z=>pO b o (J.bk b o z)) (hb ..) (by rw[sc];rfl) co gen sk (.d2<|by rw[sc] at T;rw[.d4 T];show .aV) λh3 L3 k3 FV=>?_;let M:∀{A:gS} {tk:Nat} {j0:Nat} {p1 p2 p3:Pos} (Y:Nat) {u:aw} {Q:.hq},(.eA [qc n.1 t1,.av .a0 t2,.av .aZ t3])[Y]?=.aJ->Y<3->Q u {d with heap:=h3,toks:=tk+1}->.g5 A (az (.fs (.bz "one" p1) (.lU Y j0 p2) p3)<|C5 F L3 jr [] (lN lp.line++".<locals>.") (.b f) (.p c') none zb) Q .hE {d with heap:=h3,toks:=tk}:=λ{A tk j0 p1 p2 p3} Y {u Q} R hk hQ=>
    acI (s:={d with heap:=h3,toks:=tk}) (i:=Y) sk (by change .iE _=_;rw[sc];rfl) FV .f (let⟨o,y1,y2⟩:=C;(.em (k3 _ _<|pO _ _ y1) y2)) .a .a (by simp[IM];lia) R hQ;calc amL (oZ<|wpAny_BinOp (M 2 rfl .V<|M 1 rfl .V (sub_int<|oZ (M 1 rfl .V<|oZ (M 0 rfl .V<|wC (.bM<|.pE 3 bh))))));show(.aW _ _ (.fK n _ en rfl (.aW _ .cB _ rfl) (.ox _ _ _ _<|.cons _ _ .nil))<|.bQ (.a1<|k3 b o e))
  .subst y2;subst y2';rw[cK,cK,y1,y1'] at hQ;show HT.Xo y3 y3' y4 y4' (kJ (ant (.V:1<=64) _) hr.units) hQ
 change ao _ _ (call (.fw "min") [.T] [(o7 "key",.ej)]) _ _ _;calc acB Z pl.isList (by rw[acK];show UP.mpr Ed) λi v h' t hi V kp'=>?_;let[n,N,_,_,_,en,rfl,_,rn]:=key i v hi;calc(.cs (.p N) H2 (J.kept kp') (q _ _ _ _ _ rc rn<|h n (bb en) (.hw ?_)));let[j,hj,ej]:=UG G;have:=V j .a;rw[cK,cK,en,cf hj,ej] at this;rw[acH (hv m G) (hv n<|bb en)];show this
end
structure BC(K:bj)(mg:.dl)(base:bI)(x:Str)(c Pt:af):Prop where
 mem:x∈([.h8,.h5]:.a7)
 fn:∃f oc od fd xq,mg x=.K f/\.yT/\fd.code=.p c
 tb:lD K x=.be c Pt
 hd:zM base c Pt
 bm:base.BuiltinsAt mg Pt
def Def.tl{K}{Z}(D:Def K X x Z G)(S:.lI N G Z)(M:∀ws O J,T ws O J->.bp=.dW)(L:BC K X i x c Pt)(Y:∀f,Bi P w K X i N x Z k T f (.p c)):bq P w K X i x G (.L T) (k+1):=by let[f,I,F,z,n]:=D;let[o,od,kV,r,m,W,v,C,u,rfl,g,a]:=F.ex;let[f',l,e,y,d,p,V,j]:=L.fn;rw[z] at p;cases p;rw[g] at V;cases V;obtain rfl:v=_:=j;show(.ab f _ (KY g a S (Bj M) λA U s H B Q E R b=>let⟨t,h,q⟩:=(Y f).go A U s H B Q E R b;(.g t h.nV q)) z F.kp n)
def acL{A a}(t:X.N.Nodup)(l:.jd Str)(Q:nY X.N .hY F l)(he:XP X i O e (.dT q vs))(L:Lc X c f b F (.bA .jj) (λw O1=>.dE (i.set j .eP) O1) i (q.map fT) O)(V:.bP:=by rfl) (T:.d5 j=.eO:=by rfl) (p:.d7 y=.cP:=by rfl)
  (u:lE (.iG b [(.q c e f 0)] F) (.b<|.bz y A) a.line .X=.aL true:=by show Ei rfl rfl rfl rfl) (hs:∀x,nH e .X x=.aL x:=by intro _;rfl):.gt i O (.Assign [.bz y A] (.iG b [(.q c e f 0)] F) a::G):=.mk λM H U E s z=>by
 let[d,J,o,K,N,g,h|||h]:=aca he s
 .let[m,h]:=h;show(.D (sh .wY fE.ok)<|g H .er _ (.ct d m<|.F (.D h<|L.go s (N6 o h N) λv w B n C I r k=>z.seq.nx _ _ _ _ _ I.ext (I.ok.set j r) k)))
 .calc{_,sh (Er .wY) fE.ok,d,_,.gq _ h,.aF,.cN ?_};show g _ (sX (.gq _ h) .aF) _ (.ct d m<|.F (.D dk<|L.go (s.lock h .aF) (N6 o dk N) λv w B n C I r k=>(z.seq.lock s h .aF).nx _ _ _ _ _ I.ext (I.ok.set j r) k))
end Tw
end
section
open PySem PySem.Spec PyProof.Rows L2
open Vaglrc (Sym Grammar)
open Vaglrd (item classAt rangesIn tableOf)
open Vaglrf (Alt)
open Vaglrh (signsOf shownCount toInts toNats onNon Answer loading go search searching tally widest step start)
open TT(A0 A8 AR BD BF BG BI BJ BO BR BV BW EW Fc Fd Fe GA GB GD GO GP GQ GS GU GX Gi Gj Gk Gp Gq Gs Gu Gz ML MS O6 O8 PN Pa Pe Pg Pj Pk Pm Pn Pq Pr Px Py Pz Sr ZS ZV ZY aC aO aU ae' ae2 ae3 ae4 ae5 aeO aeP aeQ aeR af6 af7 afB afC afE afF afG afH afd afj afo afp afs aft afu afv afw afx afy afz alB alL alM bH bu bz cB cN cb cj dY eQ eW eX ek f7 fD fL fk fy fz g6 g9 gJ gL gM gN g_ gb gc gi h_ iK iL iW iX ip j3 j5 jB jH jI jJ jK jM jh k9 kZ ke kh kj lU lV lX lY mN mZ m_ md ng nh ni nk nq nr oC oD oE oG oH pQ pS pT q5 qG qH qV qY qZ sD sE sG sM sN sZ tD tG tx uX uY vF vH vc vd ve vg x4 xN xV xY xZ yH yI yk yt yu yw yx yz)
variable {K : PySem.W.Frag}
local macro_rules| `(tactic|tm_at "m") => `(tactic|first
 |exact .head _
 |exact .tail _ (.head _)
 |exact .tail _ (.tail _ (.head _))
 |exact .tail _ (.tail _ (.tail _ (.head _)))
 |exact .tail _ (.tail _ (.tail _ (.tail _ (.head _))))
 |exact .tail _ (.tail _ (.tail _ (.tail _ (.tail _ (.head _)))))
 |exact .tail _ (.tail _ (.tail _ (.tail _ (.tail _ (.tail _ (.head _))))))
 |exact .tail _ (.tail _ (.tail _ (.tail _ (.tail _ (.tail _ (.tail _ (.head _)))))))
 |exact .tail _ (.tail _ (.tail _ (.tail _ (.tail _ (.tail _ (.tail _ (.tail _ (.head _)))))))))
local macro_rules| `(tactic|tm_at "is") => `(tactic|first
 |exact .inl rfl
 |exact .inr ⟨_,rfl,by tm_at "m"⟩
 |assumption)
local macro_rules| `(tactic|tm_at "ai") => `(tactic|first
 |rfl
 |assumption
 |exact cR (by first|assumption|rfl))
local macro_rules| `(tactic|tm_at "g") => `(tactic|first
 |exact ef (by first|exact X.gv|assumption) 0 rfl
 |exact ef (by first|exact X.gv|assumption) 1 rfl
 |exact ef (by first|exact X.gv|assumption) 2 rfl
 |exact ef (by first|exact X.gv|assumption) 3 rfl
 |exact ef (by first|exact X.gv|assumption) 4 rfl
 |exact ef (by first|exact X.gv|assumption) 5 rfl
 |exact ef (by first|exact X.gv|assumption) 6 rfl
 |exact ef (by first|exact X.gv|assumption) 7 rfl
 |exact ef (by first|exact X.gv|assumption) 8 rfl
 |exact ef (by first|exact X.gv|assumption) 9 rfl
 |exact ef (by first|exact X.gv|assumption) 10 rfl
 |exact ef (by first|exact X.gv|assumption) 11 rfl
 |exact ef (by first|exact X.gv|assumption) 12 rfl
 |exact ef (by first|exact X.gv|assumption) 13 rfl
 |exact ef (by first|exact X.gv|assumption) 14 rfl
 |exact ef (by first|exact X.gv|assumption) 15 rfl
 |exact ef (by first|exact X.gv|assumption) 16 rfl
 |exact ef (by first|exact X.gv|assumption) 17 rfl
 |exact ef (by first|exact X.gv|assumption) 18 rfl
 |exact ef (by first|exact X.gv|assumption) 19 rfl
 |exact ef (by first|exact X.gv|assumption) 20 rfl
 |exact ef (by first|exact X.gv|assumption) 21 rfl
 |exact ef (by first|exact X.gv|assumption) 22 rfl
 |exact ef (by first|exact X.gv|assumption) 23 rfl
 |exact ef (by first|exact X.gv|assumption) 24 rfl
 |exact ef (by first|exact X.gv|assumption) 25 rfl
 |exact ef (by first|exact X.gv|assumption) 26 rfl
 |exact ef (by first|exact X.gv|assumption) 27 rfl
 |exact ef (by first|exact X.gv|assumption) 28 rfl
 |exact ef (by first|exact X.gv|assumption) 29 rfl)
local macro_rules| `(tactic|tm_at "nb") => `(tactic|first
 |exact Gv.nb (by first|exact X.gv|assumption) _ (by decide))
local macro_rules| `(tactic|tm_at "v") => `(tactic|first
 |(change XV _ _ _ (.Name _ _) _;first|exact j8 (i:=0) |exact j8 (i:=1) |exact j8 (i:=2) |exact j8 (i:=3) |exact j8 (i:=4) |exact j8 (i:=5) |exact j8 (i:=6) |exact j8 (i:=7) |exact j8 (i:=8) |exact j8 (i:=9) |exact j8 (i:=10) |exact j8 (i:=11) |exact Fi (by tm_at "g"))
 |(change XV _ _ _ (.Constant _ _ _) _;first|exact M3|exact aaI|exact aaJ)
 |(change XV _ _ _ (.BinOp _ .Add _ _) _;first|exact Bl (by tm_at "v") (by tm_at "v") |exact qN (by tm_at "v") (by tm_at "v"))
 |(change XV _ _ _ (.BinOp _ .Sub _ _) _;exact M5 (by tm_at "v") (by tm_at "v"))
 |(change XV _ _ _ (.UnaryOp .USub _ _) _;exact aaM (by tm_at "v"))
 |(change XV _ _ _ (.Subscript _ _ _) _;first|exact A_ (by tm_at "v") (by tm_at "v") (by tm_at "ai") |exact cM (by tm_at "v") (by tm_at "v") (by tm_at "is") (by tm_at "ai"))
 |(change XV _ _ _ (.Attribute _ _ _) _;exact fU (by tm_at "v") (by tm_at "is") (by tm_at "cl") (by tm_at "na") (by first|rfl|assumption))
 |(change XV _ _ _ (.Call (.Name "len" _) _ _ _) _;first|exact mW (by tm_at "nb") (by tm_at "v") (by tm_at "is") |exact Bk (by tm_at "nb") (by tm_at "v"))
 |(change XV _ _ _ (.Tuple _ _ _) _;exact(vm (by tm_at "ta")).xv)
 |(change XV _ _ _ (.Compare _ [.Lt] _ _) _;exact oe b9.lt (by tm_at "v") (by tm_at "v") (fb _))
 |(change XV _ _ _ (.Compare _ [.LtE] _ _) _;exact oe b9.le (by tm_at "v") (by tm_at "v") (fb _))
 |(change XV _ _ _ (.Compare _ [.Gt] _ _) _;exact oe b9.gt (by tm_at "v") (by tm_at "v") (fb _))
 |(change XV _ _ _ (.Compare _ [.GtE] _ _) _;exact oe b9.ge (by tm_at "v") (by tm_at "v") (fb _))
 |(change XV _ _ _ (.Compare _ [.Eq] _ _) _;exact oe b9.eq (by tm_at "v") (by tm_at "v") (fb _))
 |(change XV _ _ _ (.Compare _ [.NotEq] _ _) _;exact oe b9.ne (by tm_at "v") (by tm_at "v") (fb _))
 |(change XV _ _ _ (.Compare _ [.LtE,.LtE] _ _) _;exact M9 mJ mJ (by tm_at "v") (by tm_at "v") (by tm_at "v"))
 |(change XV _ _ _ (.BoolOp .Or _ _) _;exact M' (by tm_at "v") (λ_=>by tm_at "v"))
 |(change XV _ _ _ (.List _ _) _;exact(bY (by tm_at "la")).aB)
 |tm_at "v1")
local macro_rules| `(tactic|tm_at "la") => `(tactic|first
 |exact ae (by tm_at "v") (by tm_at "la")
 |exact ak ⟨by simp,λp=>⟨p,rfl,rfl⟩⟩)
local macro_rules| `(tactic|tm_at "v1") => `(tactic|first
 |fail)
local macro_rules| `(tactic|tm_at "sc") => `(tactic|exact⟨rfl,rfl,rfl,by decide+kernel,rfl,by decide+kernel,by decide+kernel⟩)
local macro_rules| `(tactic|tm_at "e") => `(tactic|first
 |exact XV.xe (by tm_at "v") (.nil (by assumption))
 |exact XV.xe (by tm_at "v") (by assumption))
local macro_rules| `(tactic|tm_at "cl") => `(tactic|first
 |assumption
 |exact X.fK.cl
 |exact X.iV.cl
 |exact X.bW.cl
 |exact X.gK.cl
 |exact X.ck.cl
 |exact X.l_.cl
 |exact Co.cl (by assumption))
local macro_rules| `(tactic|tm_at "na") => `(tactic|first
 |assumption
 |exact X.fK.na _ (by decide)
 |exact X.iV.na _ (by decide)
 |exact X.bW.na _ (by decide)
 |exact X.gK.na _ (by decide)
 |exact X.ck.na _ (by decide)
 |exact X.l_.na _ (by decide)
 |exact Co.na (by assumption) _ (by decide))
local macro_rules| `(tactic|tm_at "ta") => `(tactic|first
 |exact ae (by tm_at "v") (by tm_at "ta")
 |exact ak ⟨by simp,rfl,rfl⟩)
local macro_rules| `(tactic|tm_at "t") => `(tactic|first
 |(change XT _ _ _ (.Compare _ [.Lt] _ _) _;exact g7 b9.lt (by tm_at "v") (by tm_at "v") (fb _))
 |(change XT _ _ _ (.Compare _ [.LtE] _ _) _;exact g7 b9.le (by tm_at "v") (by tm_at "v") (fb _))
 |(change XT _ _ _ (.Compare _ [.Gt] _ _) _;exact g7 b9.gt (by tm_at "v") (by tm_at "v") (fb _))
 |(change XT _ _ _ (.Compare _ [.GtE] _ _) _;exact g7 b9.ge (by tm_at "v") (by tm_at "v") (fb _))
 |(change XT _ _ _ (.Compare _ [.Eq] _ _) _;exact g7 b9.eq (by tm_at "v") (by tm_at "v") (fb _))
 |(change XT _ _ _ (.Compare _ [.NotEq] _ _) _;exact g7 b9.ne (by tm_at "v") (by tm_at "v") (fb _))
 |(change XT _ _ _ (.BoolOp .And _ _) _;exact iN (by tm_at "t") (λ_=>by tm_at "t"))
 |(change XT _ _ _ (.BoolOp .Or _ _) _;exact Fk (by tm_at "t") (λ_=>by tm_at "t"))
 |(change XT _ _ _ (.UnaryOp .Not _ _) _;exact Fj (by tm_at "t"))
 |(change XT _ _ _ (.Compare _ [.LtE,.Lt] _ _) _;exact M_ mJ KD (by tm_at "v") (by tm_at "v") (by tm_at "v"))
 |(change XT _ _ _ (.Compare _ [.LtE,.LtE] _ _) _;exact M_ mJ mJ (by tm_at "v") (by tm_at "v") (by tm_at "v"))
 |(change XT _ _ _ (.Compare _ [.LtE,.LtE,.LtE] _ _) _;exact aaO mJ mJ mJ (by tm_at "v") (by tm_at "v") (by tm_at "v") (by tm_at "v"))
 |exact iM (by tm_at "v")
 |tm_at "t1")
local macro_rules| `(tactic|tm_at "t1") => `(tactic|first
 |fail)
local macro_rules| `(tactic|tm_at "fp") => `(tactic|first
 |exact .nil
 |exact .here
 |exact .there (by decide) (by tm_at "fp"))
local macro_rules| `(tactic|tm_at "fg") => `(tactic|first
 |exact rfl
 |exact⟨_,_,rfl,.inl rfl,by tm_at "fg"⟩
 |exact⟨_,_,rfl,.inr rfl,by tm_at "fg"⟩)
local macro_rules| `(tactic|tm_at "z") => `(tactic|first
 |with_reducible rfl
 |assumption
 |tm_at "m"
 |tm_at "is"
 |tm_at "fp"
 |tm_at "fg"
 |omega
 |tm_at "v"
 |tm_at "t"
 |rfl
 |decide
 |(simp;done)
 |(simp;omega)
 |exact lt_size (by simp;omega)
 |exact fv (lt_size (by simp;omega)))
namespace Tw
abbrev tF:.a7:=[.mp,"rests","wholes","by_rule","by_head","by_class"]
abbrev cF:.a7:=["tails",.oN,"empty_tails","loose_tails","units","below","order","head_ways","tail_ways"]
abbrev fF:.a7:=[.hh,"rules_of","known_sizes","known_pairs"]
abbrev bF:.a7:=["last","rows","heads"]
abbrev oF:.a7:=[.ap,.hh,"forests"]
structure Cs where
 h:af
 c:af
 t:af
 f:af
 g:af
 b:af
def iU:.bn (Nat×Bool)
 |0=>(0,true)
 |1=>(0,.j)
 |2=>(3,.j)
 |3=>(3,true)
 |4=>(1,true)
 |5=>(1,true)
 |6=>(2,.j)
 |7=>(2,.j)
 |8=>(2,.j)
 |_=>(0,.j)
structure Tx(P:fu)(w:ew)(K:bj)(mg:.dl)(base:bI)(q:Cs):Prop where
 gv:Gv mg
 acM:.aK "number_at" 7 [.eN,"at"]
 acN:.aK "read_symbol" 8 [.eN,"at",.g6]
 acO:.aK "read_rule" 9 [.eN,"at",.g6]
 acP:.aK "read_row" 10 [.eN]
 acQ:.aK "all_marked" 19 [.dw,"marks",.jQ]
 acR:.aK "marked_by_rules" 20 [.ap,.jQ]
 fK:Co K q.g gF
 acS:.aK "hollow_marks" 21 [.ap]
 acT:.aK "rules_of_marked" 22 [.ap,"marks",.jQ]
 acU:.aK "edges_of" 23 [.hn,.g6]
 acV:.aK "reached" 24 ["edges","start"]
 acW:.aK "productive_rules" 26 [.ap]
 acX:.aK "useful_rules" 27 [.ap]
 acY:.aK "ranges_of" 14 [.hn]
 acZ:.aK "classes_of" 15 ["ranges"]
 ac0:.aK "numbers_by_byte" 16 ["classes"]
 ac1:.aK "in_classes" 17 [.dw,"class_of"]
 ac2:mQ K q.g "Grammar.__init__" (bg 13 0) (.gL .g6 .hn)
 ac3:mg "Grammar"=.K q.g
 ac4:.aK "text_behind" 50 [.cm,.iX,.eI]
 ac5:.aK "number_of_texts" 51 [.iX,.eI]
 ac6:.aK "texts_up_to" 52 [.iX,.eI]
 ac7:.aK "bytes_refusal" 59 [.dX]
 ac8:.aK "head_refusal" 60 [.ap,.an]
 ac9:.aK "text_refusal" 61 [.ap,.an,.dX]
 ac_:.aK "length_refusal" 62 [.ap,.bb]
 ac':.aK "search_refusal" 63 [.ap,.bb]
 ada:.aK "next_refusal" 64 [.ap,.bb,.dX]
 adb:.aK "survey_refusal" 65 [.ap,.bb]
 ade:.aK "endless" 33 []
 adf:.aK "settle" 34 [.e0]
 adg:.aK "product_of_row" 35 [.dw,.e0]
 adh:.aK "add_products" 37 .tF
 adi:dv K q.t "Tails.number_of" "number_of" (bg 29 1) (.gL .dw .bb)
 iV:Co K q.t tF
 adj:dv K q.t "Tails.head_first" "head_first" (bg 29 2) (.ca .c0)
 adk:dv K q.t "Tails.sort_by_first" "sort_by_first" (bg 29 3) .e4
 adl:mQ K q.t "Tails.__init__" (bg 29 0) .kj
 adm:mg "Tails"=.K q.t
 adn:.aK "first_of_row" 68 [.dw,.mp,"hollow"]
 ado:.aK "first_classes" 69 [.ap,"hollow"]
 adp:.aK "joined" 71 [.mf,.an,"others"]
 adq:.aK "follow_classes" 70 [.ap]
 ads:mQ K q.b "Rulebook.__init__" (bg 74 0) .kj
 adt:mg "Rulebook"=.K q.b
 l_:Co K q.b bF
 adu:dv K q.b "Rulebook.is_whole" "is_whole" (bg 74 1) (.ca "item")
 adv:dv K q.c "Counts.nothing" "nothing" (bg 38 3) (.ca .ed)
 bW:Co K q.c cF
 adw:dv K q.c "Counts.tails_over_nothing" "tails_over_nothing" (bg 38 2) .e4
 adx:dv K q.c "Counts.tails_to_finish" "tails_to_finish" (bg 38 4) .e4
 ady:dv K q.c "Counts.with_wholes" "with_wholes" (bg 38 14) (.gL "parted" "heads")
 adz:dv K q.c "Counts.units_of_tails" "units_of_tails" (bg 38 5) .e4
 adA:dv K q.c "Counts.units_of_heads" "units_of_heads" (bg 38 6) .e4
 adB:dv K q.c "Counts.heads_from_bases" "heads_from_bases" (bg 38 15) (.ca "bases")
 adC:dv K q.c "Counts.forget" "forget" (bg 38 1) .e4
 adD:dv K q.c "Counts.parted_ways" "parted_ways" (bg 38 13) (.ca .kx)
 adE:dv K q.c "Counts.tail_covers" "tail_covers" (bg 38 8) (.jF .c0)
 adF:dv K q.c "Counts.symbol_covers" "symbol_covers" (bg 38 9) (.jF .ed)
 adG:dv K q.c "Counts.sizes_of_first" "sizes_of_first" (bg 38 10) (.jF .c0)
 adH:dv K q.c "Counts.count_piece" "count_piece" (bg 38 12) (.ca .kx)
 adI:dv K q.c "Counts.count_pieces" "count_pieces" (bg 38 11) (.ca .cm)
 adJ:dv K q.c "Counts.ways" .e0 (bg 38 7) .hN
 adK:.aK "empty_ways" 36 [.ap]
 adL:mQ K q.c "Counts.__init__" (bg 38 0) .kj
 adM:mg "Counts"=.K q.c
 adN:dv K q.b "Rulebook.closing" "closing" (bg 74 2) (.ca "kernel")
 adO:dv K q.b "Rulebook.moved" "moved" (bg 74 3) (.ca "closed")
 adP:.aK "kernels_in_order" 75 ["moves"]
 adQ:.aK "look_through" 53 .sY
 adR:dv K q.f "Forests.sizes_in" "sizes_in" (bg 43 7) (.jF .c0)
 gK:Co K q.f fF
 adS:dv K q.f "Forests.one_symbol_more" "one_symbol_more" (bg 43 6) [.cC,"rows",.c0,.cm]
 adT:dv K q.f "Forests.partings" "partings" (bg 43 5) .s9
 adU:dv K q.f "Forests.alternatives" .pN (bg 43 4) [.cC,"node",.cm,.eI]
 adV:.aK "new_kids" 44 [.pN,"known"]
 adW:dv K q.f "Forests.nodes_over" "nodes_over" (bg 43 3) .hN
 adX:dv K q.f "Forests.find_pair" "find_pair" (bg 43 2) .hN
 adY:dv K q.f "Forests.rules_at_odds" "rules_at_odds" (bg 43 1) .hN
 adZ:mQ K q.f "Forests.__init__" (bg 43 0) (.gL .ap .hh)
 ad0:mg "Forests"=.K q.f
 ad1:.aK "tally_of" 80 [.hh,.an,.kg]
 ad2:.aK "widest_of" 81 [.hh,.an,.kg]
 ad3:.aK "odds_of" 82 ["forests",.an,.kg]
 ad4:.aK "states_of" 76 ["book"]
 ad5:.aK "has_conflict" 77 ["book","state",.mf]
 ad6:.aK "is_sure" 78 [.ap]
 ad7:dv K q.h "Holder.hold" "hold" (bg 94 1) .kj
 ck:Co K q.h oF
 ad8:mQ K q.h "Holder.__init__" (bg 94 0) .e4
 ad9:mg "Holder"=.K q.h
 ad_:dv K q.h "Holder.text_of" "text_of" (bg 94 2) (.ca .dX)
 ad':dv K q.h "Holder.octets_of" "octets_of" (bg 94 3) (.ca .cm)
 aea:dv K q.h "Holder.ways_over" "ways_over" (bg 94 4) .hN
 aeb:dv K q.h "Holder.texts_told" "texts_told" (bg 94 5) (.ca .eI)
 aec:.aK "told_ways" 100 [.e0]
 aed:.aK "answer_signs" 96 [.bk]
 aee:.aK "answer_ways" 101 [.bk,.an,.dX]
 aef:.aK "search_from" 97 [.bk,.bb,.cm]
 aeg:.aK "answer_search" 98 [.bk,.bb]
 aeh:.aK "answer_next" 99 [.bk,.bb,.dX]
 aei:.aK "answer_tally" 105 [.bk,.bb]
 aej:.aK "answer_sure" 108 [.bk]
 aek:.aK "answer_widest" 106 [.bk,.bb]
 ael:.aK "answer_load" 95 [.bk,.eN]
 aem:.aK "told_alternative" 102 ["alternative"]
 aen:.aK "told_core" 103 ["core"]
 aeo:.aK "answer_odds" 107 [.bk,.bb]
 aep:.aK "answer_core" 104 [.bk,.an,.dX]
 aeq:.aK "answer_call" 109 [.bk,"call",.bb,.eN]
 aer:.aK "answers" 110 ["calls"]
 F_:∃fa t vs,vz K mg iU fa t vs
 aes:.aK .h8 25 ["below"]
 aet:∃c Pt,BC K mg base .h8 c Pt
 aeu:.aK .h5 45 ["nodes"]
 aev:∃c Pt,BC K mg base .h5 c Pt
section
def numAt(ns:.h)(i:Nat):Int:=match ns[i]? with|some n=>n|none=>-1
def aew:=.lt<|∃a i,b=[ai a,aa i]/\r=.u (numAt a i)
abbrev Ou(P:fu)(w:ew)(K:bj)(X:.dl)(i:bI):=bq P w K X i "number_at" [.eN,"at"] (.L aew) 1
def aex:.aI [.eN,"at"] [.eN,"at"] 7:=.Q
def FW(X:.aq d b l):Ou P w K d b:=by
 calc X.acM.t aex .pg .sx;let[rfl,_,[a,i,rfl,rfl],k]:=h;refine aF<|iO .aH .M .M
 .let c:i<.bE:=.fM
  let e:(a.map aa)[i]?=.gG (numAt a i):=by simp[numAt,c,aa]
  show .lo
 .let c:¬i<.bE:=.fM
  let e:numAt a i=-1:=by simp[numAt,iB<|aoc c]
  rw[e] at k;show .lo
def aey:.aR (Sym×Nat)->W
 |none=>.non
 |some p=>.fx (eh p.1)<|aa p.2
def aez:=.lt<|∃a i n,b=[ai a,aa i,aa n]/\r=aey (gJ a n i)
def FX{X}{u}{O}{a b}{ns:.h}{i}{p pos}(c:Ou .ar X.w X.K X.mg .dj)(Z:.k8 1)(J:.bJ a (ai ns))(Y:.ly b i)(S:.bB "number_at":=by rfl) (he:.zS:=by rfl) (h:.lT b=(.kp b)::.mz []:=by rfl) (g:.qo [b]=.j:=by rfl):.bv (.eX "number_at" [a,b]) (numAt ns i):=
 ff c Z (ae J (ae Y (ak (.a5<|.fG ns i)) h) he) S rfl he g
local macro_rules|`(tactic|tm_at "v1")=>`(tactic|exact FX (by first|exact FW X|assumption) (bQ.mono (by assumption) (by decide)) (by tm_at "v") (by tm_at "v"))
def pP(h:0<=numAt ns i):∃a,ns[i]?=.b a/\numAt ns i=a:=by unfold numAt at h|-;lk
def sY{i a:Nat}(h:ns[i]?=.b a):numAt ns i=a:=by unfold numAt;rw[h]
def aeA:.aI [.eN,"at",.g6,"kind","first"] [.eN,"at",.g6] 8:=.Q
def aeB(X:.aq q o l):bq P w K q o "read_symbol" [.eN,"at",.g6] (.L aez) 2:=by
 let S:=aeA;calc X.acN.t S .ny λf v A U s H E x O F Z h=>?_;let[rfl,_,[m,i,n,rfl,rfl],k]:=h;calc .iB 3;calc .iB 4;refine be .aH .M (.s<|be .aH (λB=>?_) λB=>.je ?_)
 .simp only[eG,decide_eq_true_eq] at z;let[a,J,r]:=pP z.2.1;let[c,t,I]:=pP (ns:=m) (i:=i) .a;obtain rfl:c=0:=.a
  rw[show gJ m n i=.be (.non a) (i+2) by unfold gJ;cbv] at k;rw[r];show .rI
 .simp only[eG,decide_eq_true_eq] at B;let[a,J,r]:=pP B.2.1;let[c,t,I]:=pP (ns:=m) (i:=i) .a;let[d,g,u]:=pP (ns:=m) (i:=i+2) .a;obtain rfl:c=1:=.a
  rw[show gJ m n i=.be (.eb a d) (i+3) by unfold gJ;lk] at k;rw[r];let e:(m.map aa)[i+2]?=.J d:=.fM
  show .rI
 .simp only[mD,decide_eq_false_iff_not] at z B;have:.H (gJ m n i):=by
   unfold gJ;cases L:m[i]? with
   |none=>rfl
   |some a=>
    rw[sY L] at z B;cases C:m[i+1]? with
    |none=>tm_at "z"
    |some b=>
     rw[sY C] at z B;match a with
     |0=>lk
     |1=>
      cases p:m[i+2]? with
      |none=>rfl
      |some c=>rw[sY p] at B;lk
     |a+2=>rfl
  rw[this] at k;show .ky
def aeC:.aR (bw×Nat)->W
 |none=>.non
 |some p=>.fx (gh p.1)<|aa p.2
def aeD:=.lt<|∃a i n,b=[ai a,aa i,aa n]/\r=aeC (h_ a n i)
def FY ns n k i:fD ns n (k+1) i=(gJ ns n i).bind (.as<|(fD ns n k p.2).map λy=>(p.1::y.1,y.2)):=by
 conv=>lhs;unfold fD
 lk
def FZ ns n:∀k i,fD ns n (k+1) i=(fD ns n k i).bind λy=>.d0 (gJ ns n y.2) (y.1++[p.1],p.2)
 |0,i=>by rw[FY];cases e:gJ ns n i<;>simp[fD,e]
 |k+1,i=>by
  rw[FY,FY];cases gJ ns n i with
  |none=>rfl
  |some p=>
   simp only[zO];rw[FZ ns n k];cases fD ns n k p.2 with
   |none=>rfl
   |some y=>simp only[zO,wj];cases gJ ns n y.2<;>rfl
def aeE:∀{j m},.H (fD ns n j i)->j<=m->.H (fD ns n m i):=λ{j m} h G=>by
 induction m with
 |zero=>cbv
 |succ m E=>
  by_cases e:j=m+1
  .rw[<-e];show h
  .rw[FZ,E .a];rfl
def aeF:.aI [.eN,"at",.g6,.an,"size",.dw,"count",.ke] [.eN,"at",.g6] 9:=.Q
def aeG(X:.aq B d G):bq P w K B d "read_rule" [.eN,"at",.g6] (.L aeD) 3:=by
 let S:=aeF;calc X.acO.t S .ny λf v A U s H E M O F Z h=>?_;let[rfl,_,[c,i,n,rfl,rfl],k]:=h;calc .iB 3;calc .iB 4;refine .yS
 .have:.H (h_ c n i):=by
   simp only[rR,zP,mD,decide_eq_false_iff_not] at z;unfold h_;cases L:c[i]? with
   |none=>rfl
   |some a=>cases C:c[i+1]? with
    |none=>rfl
    |some b=>rw[sY L,sY C] at z;lk
  rw[this] at k;show .ky
 .simp only[Dt,zK,eG,decide_eq_true_eq] at z;let[a,J,r]:=pP z.1.1;let[m,D,x]:=pP z.2.1;rw[show h_ c n i=(fD c n m<|i+2).map (λy=>({lhs:=a,rhs:=y.1},y.2)) by unfold h_;lk] at k;rw[r,x];calc .j2 5 .fd;calc .iB 1;refine cu<|.mw m (.gD (λj u o=>∃l t,fD c n j (i+2)=.be l t/\.ax=j/\u=[.bY c,.J t,.fU,.J a,.J m,.b3,none,none]/\o=[(q,cV l)])<|.ht [] (i+2) rfl rfl) .bo
  .intro j w _ _ I [l,t,L,g,rfl,rfl];let[I,rfl]:=iS I;calc(.en _ (.dS 6)<|.gx 7 (ff (aeB X) .bV<|.df (.jC<|.gs c t n)));let C:=FZ c n j (i+2);rw[L,zO] at C;dsimp only at C;cases R:gJ c n t with
   |none=>calc be (g8 .e .io) (.P<|.je ?_) .bV;rw[R] at C;rw[aeE C .bV] at k;show .ky
   |some p=>rw[R] at C;calc be .x0 .bV .eq;calc .vZ;refine .nB 1 (.a2 (.ab (l++[p.1]) p.2 C (by simp[g]) rfl<|by rw[cV,bo];rfl))
  .intro _ _ [l,t,L,g,rfl,rfl];simp only[cq,aj,rW] at L;rw[L] at k;show .qB 5 [] .rI
def F1:.aR aQ->W
 |none=>.non
 |some g=>.gX .o<|dn .B
def aeH:=.lt<|∃a,b=[ai a]/\r=F1 (lV a)
def F2 ns n k i:f7 ns n (k+1) i=(h_ ns n i).bind (.as<|(f7 ns n k p.2).map λy=>(p.1::y.1,y.2)):=by
 conv=>lhs;unfold f7
 lk
def F3 ns n:∀k i,f7 ns n (k+1) i=(f7 ns n k i).bind λy=>.d0 (h_ ns n y.2) (y.1++[p.1],p.2)
 |0,i=>by rw[F2];cases e:h_ ns n i<;>simp[f7,e]
 |k+1,i=>by
  rw[F2,F2];cases h_ ns n i with
  |none=>rfl
  |some p=>
   simp only[zO];rw[F3 ns n k];cases f7 ns n k p.2 with
   |none=>rfl
   |some y=>simp only[zO,wj];cases h_ ns n y.2<;>rfl
def aeI:∀{j m},.H (f7 ns n j i)->j<=m->.H (f7 ns n m i):=λ{j m} h G=>by
 induction m with
 |zero=>cbv
 |succ m E=>
  by_cases e:j=m+1
  .rw[<-e];show h
  .rw[F3,E .a];rfl
def aeJ:.aI [.eN,.g6,"size",.hn,"at","count",.ke] [.eN] 10:=.Q
def aeK(X:.aq D d Q):bq P w K D d "read_row" [.eN] (.L aeH) 4:=by
 let S:=aeJ;calc X.acP.t S .nz λf v A U s H E T O F Z h=>?_;let[rfl,_,[c,rfl,rfl],k]:=h;calc .gx 1 (FX (i:=0) (FW X) .az .e .e);calc .gx 2 (FX (i:=1) (FW X) .az .e .e);refine .yS
 .have:.H (lV c):=by
   simp only[rR,zP,mD,decide_eq_false_iff_not] at z;unfold lV;cases L:c[0]? with
   |none=>rfl
   |some a=>cases C:c[1]? with
    |none=>rfl
    |some b=>rw[sY L,sY C] at z;lk
  rw[this] at k;show .ky
 .simp only[Dt,zK,eG,decide_eq_true_eq] at z;let[n,M,r]:=pP (ns:=c) (i:=0) .a;let[m,N,x]:=pP z.2.1;rw[r,x];let B:∀y,f7 c n m 2=y->F (F1 (match y with|some y=>.f8 (y.2=.c9) {nons:=n,rules:=y.1}|none=>none)) []:=λy e=>by rw[<-e];unfold lV at k;lk
  calc .j2 3 .fd;calc .iB 4;refine cu<|jG .e .a (.gD (λj u G=>∃l t,f7 c n j 2=.be l t/\.ax=j/\u=[.fU,.J n,.J m,.fU,.J t,none,none]/\G=[(q,dn l)])<|.ht [] 2 rfl rfl) .bo
  .intro j w _ _ I [l,t,L,o,rfl,rfl];let[I,rfl]:=iS I;calc(.en _ (.dS 5)<|.gx 6 (ff (aeG X) .bV<|.df (.jC<|.gs c t n)));let C:=F3 c n j 2;rw[L,zO] at C;dsimp only at C;cases R:h_ c n t with
   |none=>rw[R] at C;show be (g8 .e .io) (.P (.je<|.nil (B _<|aeI C .bV))) .aV
   |some p=>rw[R] at C;calc be .x0 .aV .eq;calc .vZ;refine .nB 4 (.a2 (.ab (l++[p.1]) p.2 C (by simp[o]) rfl<|by rw[dn,bo];rfl))
  .intro _ _ [l,t,L,o,rfl,rfl];simp only[cq,aj,rW] at L;let J:=B _ L;refine .qB 3 [] (aF<|iO .aH .M .M)
   .let g:t=.c9:=.d
    dsimp only at J;rw[.r g] at J;tm_at "e"
   .let g:¬t=.c9:=.d
    dsimp only at J;rw[.x g] at J;tm_at "e"
end
def gj(bs:.ij)(b:Bool):Sym->Bool
 |.non k=>.jm k
 |.range _ _=>b
def P0{N:Type}{p}{l:.aS}{i}{a}(h:l[i]?=.b a):(l.take<|i+1).all p=((.ii).all p&&p a):=by let[B,rfl]:=.bd h;rw[dX B,List.all_append];simp
def all_false{N:Type}{p}{l:.aS}{i:Nat}{a}(h:l[i]?=.b a)(R:p a=.j):l.all p=.j:=by rw[List.all_eq_false];show(.g a (bb h)<|by simp[R])
open Classical in
noncomputable def c8(g:aQ)(rt:Bool):.ij:=.hM<|.aU (.bC<|.eL rt k)
def count_set{bs:.ij}{k}(L:k<bs.length)(h:.jm k=.j):(bs.set k true).count .j+1=bs.count .j:=by
 induction bs generalizing k with
 |nil=>simp at L
 |cons b bs E=>
  cases k with
  |zero=>let h:b=.j:=h;subst h;simp
  |succ k=>have:=E (k:=k) (by simpa using L) h;simp only[aoo,List.count_cons];lia
def yj{bs:.ij}{k j}(L:k<bs.length):(bs.set k true).getD j .j=.A (j=k) true (.jm j):=by
 rw[cK,cK,UZ];by_cases e:j=k
 .subst e;simp[L]
 .rw[.bU,.hm<|e z.symm]
def af8{g:aQ}{b}{bs}(x:.aM (.n (.jm k)->.eL b k)){r}(Z:r∈.B)(h:.n (.nS bs b)):.eL b .C:=by rw[wJ] at h;show .mk r Z (.bS (x k<|h _ L)) λa c L=>h _ L
open Classical in
theorem af9{g:aQ}{rt:Bool}{bs:.ij}(hl:bs.length=.o)(so:.aM (.n (.jm k)->.eL rt k))(cl:∀r∈g.rules,.n (.nS bs rt)->.n (.jm .C)):bs=c8 g rt:=by
 have co:.aM (.eL rt k->.n (.jm k)):=by
  intro k h;induction h with
  |mk r hr _ hb ih=>
   calc cl r hr ?_;rw[wJ];intro s hs;cases s with
   |non j=>show ih j hs
   |range lo hi=>show hb lo hi hs
 apply UO
 .unfold c8;simp[hl]
 .intro k h1 h2;let hk:.jm k=bs[k]:=by rw[cK,cf h1];rfl
  let e2:(c8 g rt)[k]=.bC (.eL rt k):=by simp[c8]
  rw[e2,<-hk];cases e:.jm k with
  |true=>rw[.g8<|so k e]
  |false=>rw[.h2 (.s<|by rw[co k z] at e;cases e)]
def Eg(es:.b8)(a b:Nat):=∃l,es[a]?=.b l/\b∈l
def iq:∀{n:Nat} {F:.h},F.Nodup->(∀k∈F,k<n)->.aE<=n
 |0,F,_,t=>by
  cases F with
  |nil=>show .ao
  |cons a F=>have:=t a .f;lia
 |n+1,F,h,t=>by
  let E:=iq (n:=n) (F:=F.erase n) (h.erase n) (.bS<|by have:=(h.mem_erase_iff).mp L;have:=t k .iw;lia)
  rw[List.length_erase] at E;split at E<;>lia
noncomputable def hC(g:aQ):=g.rules.filter (.bN<|.nS (c8 g true) true)
def vN g b k:.n ((c8 g b).getD k .j)↔k<.o/\.eL b k:=by
 unfold c8;rw[ZY];by_cases h:k<.o
 .rw[.r h];simp[h]
 .rw[.x h];simp[h]
def yJ(u:.gP){r}:r∈hC g↔ip g r:=by
 unfold hC;rw[cZ,wJ];walk
 .intro[B,M];show(.c B<|.bS ((vN g true k).mp<|M _ L).2)
 .intro[B,M];calc(.c B λs a=>?_);cases s with
  |non k=>show(vN g true k).mpr (.c (u.non r B k a)<|M k a)
  |range b c=>rfl
def eC(rs:.b2)(n:Nat):=.dt n λj=>.vf
def pW{n j}(h:j<n):(eC rs n)[j]?=.b .vf:=by unfold eC;rw[bG,o6 h];rfl
def P1 l:.ae (zW l) .ax:=qu _ _
def GZ{rs:.b2}(h:∀r∈rs,.jO<=8) p:.ae (.b9 (rs.filter p) (.bN<|zW .O)) (.lk*8):=by
 induction rs with
 |nil=>simp
 |cons r rs E=>
  let E:=E λq f=>h q (gR _ f);let B:=P1 .O;let M:=h r .f;rw[wZ];split
  .rw[lK,ez,dS];lia
  .rw[dS];lia
open Classical in
noncomputable def hH(g:aQ):.b2:=.dx (hC g)<|.bN (.bC<|TT.bB g .C)
open Classical in
theorem vO{g:aQ}(wf:.gP){r:bw}:r∈hH g↔nq g r:=by unfold hH;rw[cZ,yJ wf,decide_eq_true_eq];rfl
def af_(u:.gP){k}:TT.bB g k↔k=0\/bz (Eg<|eC (hC g) .o) 0 k:=by
 have D:∀a b,Eg (eC (hC g) .o) a b↔∃r,ip g r/\.C=a/\c5 b∈.O:=by
  intro a b;walk
  .intro[l,d,Y];let J:a<.o:=by have:=(.aw d);unfold eC at this;simpa using this
   rw[pW J] at d;cases d;let[r,Z,Y]:=dP.mp Y;let[B,M]:=cZ.mp Z;show(.q r ((yJ u).mp B) (by simpa using M)<|qY.mp Y)
  .intro[r,Z,rfl,Y];show(.D (pW<|u.lhs r Z.1) (.kF r (cZ.mpr<|.c ((yJ u).mpr Z) .f)<|qY.mpr Y))
 walk
 .intro h;induction h with
  |start=>show .w
  |@step r k _ R L E=>
   let e:=(D .C k).mpr (.ct r R L);let q|||q:=E
   .rw[q] at e;show .F (.one e)
   .show .F (q.snoc e)
 .rintro(rfl|h)
  .show .start
  .have:∀{a b:Nat},bz (Eg<|eC (hC g) .o) a b->TT.bB g a->TT.bB g b:=by
    intro a b h;induction h with
    |one q=>intro J;let[r,Z,e,L]:=(D _ _).mp q;show .step (by rw[e];show J) Z L
    |more q _ E=>intro J;let[r,Z,e,L]:=(D _ _).mp q;show E (.step (by rw[e];show J) Z L)
   show this h .start
def P2:bT:=λc O K=>∃l a b m,c=[cV l,m,.bl b]/\Is O m (dR a)/\(.aM<|c5 k∈l->k<.bE)/\K (.bl (l.all<|gj a b)) O
def af':.aI [.dw,"marks",.jQ,.ed] [.dw,"marks",.jQ] 19:=.Q
theorem G0(X:.aq n a r):bq P w K n a "all_marked" [.dw,"marks",.jQ] (.L P2) 1:=by
 let S:=af';calc X.acQ.t S .jJ .rm;let[l,d,b,m,rfl,G,Y,k]:=h;refine .jy (.gD (λi u o=>u=[.jV l,.b m,.nc b,none]/\o=O/\.n ((.ii).all<|gj d b))<|.iY rfl)
 .intro i w _ _ g [rfl,rfl,J];let[q,c,rfl]:=dw g;calc(.fL _ _ 3);cases q with
  |non j=>
   let e:=Fv (Y j<|bb c);refine be (iN .aH<|.P .aH) (.s<|.je ?_)<|.s (be (.oA .j true .aH) .aV<|.P (.a2<|.aX rfl ?_))
   .rw[.wQ] at k;show .ay k
   .rw[P0 c,J];simpa[gj] using z
  |range x g=>
   refine be (.oA .j true .aH) .aV<|.P (be .aH (.s<|.je ?_)<|.s (.a2<|.aX rfl ?_))
   .rw[.wQ] at k;show .ay k
   .rw[P0 c,J];simpa[gj] using z
 .intro _ _ [rfl,rfl,J];rw[aj,eP] at J;rw[J] at k;show .gn k
abbrev ao1(P:fu)(w:ew)(K:bj)(X:.dl)(i:bI):=bq P w K X i "all_marked" [.dw,"marks",.jQ] (.L P2) 1
def aga(C:af):=ib λa c=>∃g D Q b,a=[cC C g D Q,.bl b]/\.gP/\.o<=20/\c=dR (c8 g b)
def agb:.aI [.ap,.jQ,"marks","changed",.an,.dw] [.ap,.jQ] 20:=.Q
def P4(X:.fe P w K):bq P w K mg base "marked_by_rules" [.ap,.jQ] (.L<|aga qq.g) 2:=by
 have S:=agb;calc X.acR.t S .qb .gd;let[rfl,_,[g,D,Q,b,rfl,wf,J,rfl],k]:=h;calc .ba 2 (vr (n:=.o) (u:=.bl .j) .e .e .a .hQ);calc .iB 3;refine .oc (2*.o+1) (λm Γ O'=>∃(B:.ij) (ch:Bool),Γ=[.jt g D Q,.nc b,.K p,.nc ch,none,none]/\O'=[(p,dR B)]/\B.length=.o/\(.aM<|.n (B.getD k .j)->.eL b k)/\
  (ch=.j->∀q∈g.rules,.vO)/\m=2*B.count .j+ch.toNat) {bL .o .j,true,rfl,by simp[dR],.f,.bS ?_,.s (by cases z),.f} ?_
 .rw[cK,JK] at L;split at L<;>cases L
 .intro m _ _ [B,ch,rfl,rfl,o,x,M,rfl];refine(.q ch .aH (λW=>?_) λW=>?_)
  .subst W;calc .iB 3;refine .jy<|.k3 (∃(c:.ij) (r:Bool),Γ=[.jt g D Q,.nc b,.K p,.nc r,none,none]/\O'=[(p,dR c)]/\.c9=.o/\(.aM<|.n (c.getD k .j)->.eL b k)/\
    (r=.j->c=B/\∀q∈.mM,.vO)/\(.n r->c.count .j<B.count .j)/\c.count .j<=B.count .j) {B,.j,rfl,rfl,o,x,.P<|.aY λq hq=>(by simp at hq),.s (by cases z),.ao}
   .intro i w _ _ hi [c,r,rfl,rfl,d,R,G,Y,hle];let[q,hq,rfl]:=dw hi;let G1:q∈.B:=bb hq;let T:q.lhs<.c9:=by rw[d];show wf.lhs q G1
    let hb2:=Fv T;calc(.gS _ _ 4 5);refine be (iN .aH (.P (iM<|XE.xv (.gl (G0 X)<|.df (.g9<|.ay {q.rhs,c,b,_,rfl,.cE _,.bS<|by rw[d];show wf.non q G1 k L,rfl,rfl}))))) .M .M
    .simp only[eG,zP] at z;calc qP (j:=q.lhs) (.e5<|.fK .e .e _ .bF (qR<|by rw[aj];show T) ?_);calc .iB 3;let cs:=count_set T z.1;calc .eG {c.set q.lhs true,true,rfl,by rw[dR,w8],by rw[IW];show d,.bS ?_,λy=>(by cases y),.P .a,.a};rw[yj T] at L;by_cases e:k=q.lhs
     .subst e;show af8 R G1 z.2
     .rw[.bU] at L;show R k L
    .calc .a2 {c,r,rfl,rfl,d,R,λV=>?_,Y,hle};let[e,C]:=G V;subst e;calc(.aY λN a t=>?_);let[I,hi2]:=.bd hq;rw[dX I,cx,dj,hi2] at a;let a|||rfl:=a
     .show C N a t
     .rw[t,aop,zK] at z;show z
   .intro _ _ [c,r,rfl,rfl,d,R,G,Y,hle];refine .a2 {2*c.count .j+r.toNat,?_,c,r,rfl,rfl,d,R,λV=>?_,rfl}
    .cases r with
     |true=>have:=Y rfl;simp only[aoq];lia
     |false=>simp only[aoq,Bool.toNat_false];lia
    .let[e,C]:=G V;rw[aj,eP] at C;subst e;show C
  .rw[af9 o x<|M W];show .gn (k p)
def agc(C:af):=ib λa c=>∃g D Q,a=[cC C g D Q]/\.gP/\.o<=20/\c=dR .gu
def agd:.aI [.ap] [.ap] 21:=.Q
def P5(X:.aq a i l):bq P w K a i "hollow_marks" [.ap] (.L<|agc l.g) 3:=by calc X.acS.t agd .ny .pi;let[rfl,_,[g,D,Q,rfl,u,J,rfl],k]:=h;show aF (ya (P4 X) .az (.g9<|.D #[g,D,Q,.j,rfl,u,J,rfl] (.mG<|k p)))
def age(C:af):=ib λd c=>∃g D Q a b,d=[cC C g D Q,dR a,.bl b]/\.gP/\.bf<=60/\.bE=.o/\c=dn (g.rules.filter (.bN<|.nS a b))
def agf:.aI [.ap,"marks",.jQ,.hP] [.ap,"marks",.jQ] 22:=.Q
def P6(X:.aq o i l):bq P w K o i "rules_of_marked" [.ap,"marks",.jQ] (.L<|age l.g) 2:=by let S:=agf;calc X.acT.t S .yJ λf v A U s H E x O F Z h=>?_;let[rfl,_,[g,D,Q,n,b,rfl,u,t,d,rfl],k]:=h;calc aF (.h4 [(.hP,3)] (.lP<|lc (.bN [.qg l.g g D Q,.qu n,.nc b,.b<|gh r]) (.bN<|.nS n b) gh .a (λr c p q s H m y a=>.zI) (.mG<|k p)));show iM (XE.xv (.gl (G0 X)<|.df (.g9<|.none {.O,n,b,_,rfl,.w,.bS<|by rw[d];show u.non r c k L,rfl,rfl})))
def mf(es:.b8):W:=.Z<|es.map ai
def agg:=.lt<|∃a n,b=[dn a,aa n]/\n<=20/\.bE<=60/\(∀r∈a,.C<n/\.jO<=8)/\r=mf (eC a n)
def agh{r:bw}(h:.C<n):eC (rs++[r]) n=(eC rs n).set .C ((eC rs n).getD .C []++zW .O):=by
 apply qr;intro j;rw[UZ];by_cases I:j<n
 .rw[pW I,cK,pW h,show(.m<|eC rs n)=n by simp[eC],JN];by_cases e:.C=j
  .lk
  .rw[pW I];simp[e]
 .rw[iB<|by simp[eC];lia,.cD,iB<|by simp[eC];lia]
def P7(l:.bq):.oP .yN .yM=.cp (zW l):=by
 induction l with
 |nil=>rfl
 |cons s l E=>
  cases s with
  |non k=>simp only[U0,bx,E];rfl
  |range b a=>room
def agi:.aI [.hn,.g6,.an,"edges",.dw,.ed] [.hn,.g6] 23:=.Q
def P8(X:.aq mg N qq):bq P w K mg N "edges_of" [.hn,.g6] (.L agg) 1:=by
 let S:=agi;calc X.acU.t S .pg .gd;let[rfl,_,[J,n,rfl,t,b,R,rfl],k]:=h;calc .l0 3 S.nd [(.an,2)] (jG .e .a (.od _ .lS (.D (λ_ _ _ cl a=>br S.nd) (λT _ _ _ cl a=>bY<|.m0 .bs)) λq G hq=>?_) .bo);simp only[cq,aj,rW] at hq|-;refine .jy<|.gD (λi u Q=>u=[.jo J,.J n,none,.b3,none,none]/\Q=G.zip ((eC .ih n).map ai)++([]++(.lY q<|.cW .c4))) .iM
 .congr 2;apply qr;intro j;rw[JK,bG];by_cases I:j<n
  .rw[.r I,pW I];rfl
  .rw[.x I,iB<|by simp[eC];lia];rfl
 .intro i w _ _ Y [rfl,rfl];let[r,c,rfl]:=dw Y;let[B,h2]:=R r (bb c);let[g,m]:=.bd c;let tk:J.take (i+1)=.ih++[r]:=by rw[dX g,m]
  let M:G[.C]?=.b (G[.C]):=cf .a;let q2:(.cW .c4)[.C]?=.K (G[.C]):=.f
  let L:=pW (rs:=.ih) B;let q3:((eC .ih n).map ai)[.C]?=.bY ((eC .ih n).getD .C []):=.d
  calc(.gS _ _ 2 4);let D:∀{Q:OM},(∃T,Q=T++[(q,.c5<|.cW .c4)])->Is Q .cI (.Z<|.cW .c4):=λ#[T,e]=>.ge q .d;refine b_<|qO (q:=G[.C]) (.pw (D<|.a5 _)<|cR q2) (bR.zip (d:=.non) M q3).mem (XV.xe (.ju [(.ed,5)]<|lc (λs=>[.jo J,.J n,.J .C,.b3,.jV .O,.kE s]) .yN .yM .a (λs hs p acc V o C cl a=>(.g (.dS 5) ?_ .M)) .bs)<|.fK _ _ .w (bR.zip M q3) ?_ .hp)
  .cases s with
   |non j=>show .il
   |range lo Y=>show .il
  .cases s with
   |non j=>tm_at "v"
   |range lo Y=>cases z
  .rw[P7,aj,aj];let a1:=GZ (rs:=.ih) (.eu (R x<|o_ D).2) (.ah<|x.lhs==.C);let y:=P1 .O;rw[cK,L,Df];rw[dZ] at a1;show .jk .a
  .rw[P7,tk,agh B,w8,<-bo];rfl
 .intro _ _ [rfl,rfl];rw[aj,eP];show ar.Fw (j:=3) (R1:=[]) (R2:=[]) rfl (by simp[eC,hq]) .rI
def agj:bT:=λb O K=>O=[]/\∃a i,b=[mf a,aa i]/\i<.bE/\.bE<=20/\(∀l∈a,.bh .ax/\∀k∈l,k<.bE)/\
 ∀(F:.h) p,F.Nodup->(.aM<|k∈F↔bz (Eg a) i k)->.pn [(p,aS<|.fQ λ(k:Nat)=>k)]
def agk:.aI ["edges","start",.ke,"waiting",.an] ["edges","start"] 24:=.Q
def mh{F:.h}{k:Nat}:.lD∈.fQ .jc↔k∈F:=.d
def BX(X:.fe P w K):bq P w K mg base "reached" ["edges","start"] (.L agj) 1:=by
 let S:=agk;calc X.acV.t S .pm .ja;let[rfl,es,i,rfl,hi,vP,d,k]:=h;let R:=dJ Z;calc .ba 2 (mS .hQ);obtain⟨c,T⟩:∃l,es[i]?=_:=(.cz<|cf hi);let h0':(es.map ai)[i]?=.bY c:=.d
 have l0m:=bb T;calc .xI;refine wl (m0:=.c9+.lh*1001) (λm u O'=>∃F g:.h,u=[_,.J i,.K p,.b3,none]/\O'=[(p,aS<|.fQ .jc),(q,ai g)]/\F.Nodup/\(∀k∈F,k<.lh/\bz (Eg es) i k)/\(∀k∈g,k<.lh/\bz (Eg es) i k)/\
  (.aM<|Eg es i k->k∈F\/k∈g)/\(∀f∈F,.aM<|Eg es f k->k∈F\/k∈g)/\.f1<=1000+.aE*1000/\m=.f1+(.lh-.aE)*1001)
  (.pe {[],c,rfl,rfl,.f,.f,.bS<|.c ((d c l0m).2 k L) (.one<|.g c T L),λk #[l,e1,C]=>.fM,.f,.fM,.f}) ?_;intro m _ _ [F,g,rfl,rfl,N,BY,G2,Q,r,o,rfl];refine(.en .aH .M .M)
 .let z:g≠[]:=.d
  obtain⟨W',x,rfl⟩:∃W' x,g=W'++[x]:=(.g g.dropLast (g.getLast z) (UU z).symm);let D:=G2 x .f;let G:=iq N (.bS (BY k L).1);calc .ba 4 (aaU .e (by rw[ai,bo];show .iD) ?_);refine be (pK (R) .e .e<|sS (z:=(x:Int)) .e6) (λt=>?_) λt=>?_
  .let t:x∉F:=.d
   let W:.aE<.lh:=by have:=iq (F:=F++[x]) (n:=.lh) .d (.bS .d);simp at this;lia
   obtain⟨lx,G3⟩:∃l,es[x]?=.b l:=(.cz<|cf D.1);let ao2:(es.map ai)[x]?=.bY lx:=.fM
   let P9:=bb G3;calc iR R (.e5<|.iA _ _ (yc (z:=(x:Int)) .bF .d) ?_);refine b_<|.o0 q .g0 (.e5<|.fK _ _ .w .iD ?_ ?_)
   .rw[aj,aj];have:=(d lx P9).1;have:(.aE+1)*1000<=20*1000:=Dc _ .a;simp at o;show .jk .a
   .refine .eG {(.m<|W'++lx)+(.lh-(.m<|F++[x]))*1001,?_,F++[x],W'++lx,rfl,?_,?_,.bS ?_,.bS ?_,.bS ?_,λf J k L=>?_,?_,rfl}
    .lk
    .rw[show bD (.fQ .jc) (x:Int)=(F++[x]).map .jc by unfold bD;cbv];simp[ai]
    .rw[jU];show(.i1 N λa ha b Y=>.d)
    .let q|||q:=.c7 L
     .show BY k q
     cbv
    .let q|||q:=.c7 L
     .show G2 k (by simp[q])
     .show(.c ((d lx P9).2 k q) (D.2.snoc<|.g lx G3 q))
    .let q|||q:=Q k L
     .show .z (by simp[q])
     .let q|||q:=.c7 q
      .show .F (by simp[q])
      .show .z (by simp[.d4 q])
    .let q|||q:=.c7 J
     .let q|||q:=r f q k L
      .show .z (by simp[q])
      .let q|||q:=.c7 q
       .show .F (by simp[q])
       .show .z (by simp[.d4 q])
     .rw[.d4 q] at L;let[l,B,M]:=L;rw[G3] at B;cases B;show .F (by simp[M])
    lk
  .let t:x∈F:=by calc dW λhF=>?_;rw[.x<|.aQ (hF<|mh.mp h)] at t;cases t
   have V:∀{k},k∈F\/k∈W'++[x]->k∈F\/k∈W':=.bO (by
    let q|||q:=q
    .show .z q
    .let q|||q:=.c7 q
     .show .F q
     .show .z (by rw[.d4 q];show t))
   refine .a2 {W'.length+(.lh-.aE)*1001,by rw[ez];simp,F,W',rfl,rfl,N,BY,.bS (G2 k<|by simp[L]),.bS (V<|Q k L),λf J k L=>V<|r f J k L,by rw[ez] at o;lia,rfl}
 .have z:g=[]:=rV.mp .d;subst z;calc .je (Dr.fst<|k F p N λj=>(.c (λI=>(BY j I).2) λI=>?_));have:∀{x y:Nat},bz (Eg es) x y->(x=i\/x∈F)->y∈F:=by
   intro x y h;induction h with
   |one q=>
    rintro(rfl|D)
    .let z|||z:=Q _ q
     .show z
     .cases z
    .let z|||z:=r _ D _ q
     .show z
     .cases z
   |more q _ ih=>
    rintro(rfl|D)
    .let z|||z:=Q _ q
     .show ih (.F z)
     .cases z
    .let z|||z:=r _ D _ q
     .show ih (.F z)
     .cases z
  show this I .w
def agl(C:af):=ib λa c=>∃g D Q,a=[cC C g D Q]/\.gP/\.o<=20/\.bf<=60/\c=dn (hC g)
def agm:.aI [.ap] [.ap] 26:=.Q
def P_(X:.aq a i l):bq P w K a i "productive_rules" [.ap] (.L<|agl l.g) 3:=by calc X.acW.t agm .ny .rl;let[rfl,_,[g,D,Q,rfl,u,J,b,rfl],k]:=h;show aF (ya (P6 X) .bV (.df<|ae (iT (P4 X) .bV<|.jC #[g,D,Q,true,rfl,u,J,rfl]) (.g2<|.D {g,D,Q,_,true,rfl,u,b,by simp[c8],rfl} (.mG<|k p))))
def agn(C:af):=ib λa c=>∃g D Q,a=[cC C g D Q]/\.gP/\0<.o/\.o<=20/\.bf<=60/\(∀r∈g.rules,.jO<=8)/\c=dn (hH g)
def ago:.aI [.ap,.hn,.ke,.hP] [.ap] 27:=.Q
open Classical in
theorem agp(X:.fe P w K):bq P w K mg base "useful_rules" [.ap] (.L<|agn qq.g) 4:=by
 let S:=ago;calc X.acX.t S .ny .rc;let[rfl,_,[g,sg,co,rfl,wf,h0,vP,P',h8,rfl],k]:=h;let hu:=dJ hr;let pl:.ae (hC g) .bf:=lM _ _;let pm:∀r∈hC g,r∈.B:=λr hr=>(.lr hr);calc .gx 1 (iT (P_ X) .ha<|.iq #[g,sg,co,rfl,wf,vP,P',rfl]);let el:(.m<|eC (hC g) .o)=.o:=by simp[eC]
 refine .ba 2 (c_ (BX X) .ha<|ae (ff (P8 X) .ha (.jC<|.fD (hC g) .o rfl vP .a λr hr=>(.c (wf.lhs r<|pm r hr) (h8 r<|pm r hr)))) (.g2<|.none {rfl,_,0,rfl,.a,.a,λl hl=>?_,λF p nd hF=>?_}))
 .let[j,hj,rfl]:=.Y hl;have:=GZ (rs:=hC g) (λx hx=>h8 x<|pm x hx) (.ah<|x.lhs==j);calc(.c .a λk hk=>?_);let[r,h1,h2]:=dP.mp hk;rw[el];show wf.non r (pm r<|.lr h1) k (qY.mp h2)
 .refine aF<|.h4 [(.hP,3)] (.lP<|lc (.bN [.jt g sg co,.jo<|hC g,.K p,.b<|gh r]) (.bN (.bC<|TT.bB g .C)) gh .a (λr gO q acc s H C' cl fp=>.zI) .fd)
  .calc XT.of (Fk .aH (.P<|Ba hu .e .e (sS (z:=(r.lhs:Int))<|.cE p))) ?_;rw[gx,decide_eq_true_eq,af_ wf,rR,decide_eq_true_eq,<-hF];calc or_congr .f ?_;by_cases m:.C∈F
   .rw[.r<|mh.mpr m];simp[m]
   .rw[.hm (m<|mh.mp z)];simp[m]
  .show .last (O:=[_]) (k q)
def vQ(l:.bq):=.pY (λs=>match s with
 |.range b a=>.be b a
 |.non _=>none)
def BZ g:.jK=g.rules.flatMap (.bN<|vQ .O):=rfl
theorem Qa l:.ae (vQ l) .ax:=qu ..
def fi(G:.bK):=G.foldl .yL []
def rh(G:.bK)(a:Nat):=G.any (.bO<|.iZ q.1 a&&.iZ a q.2)
def ji(G:.bK):=.dx ((fi G).zip (fi G).tail) (.as<|rh G p.1)
def vR G:cj (fi G)/\∀x,x∈fi G↔∃p∈G,x=p.1\/x=p.2+1:=by have:=A8 G [] apx;calc(.c this.1<|.ah ?_);rw[fi,this.2 x];simp
def agq{G:.bK}{ns:.S}(o:ns.Pairwise .mr)(N:ns.Nodup)(u:.aM (k∈ns↔∃p∈G,k=p.1\/k=p.2+1)):ns=(fi G).map λ(n:Nat)=>.dZ:=by
 let c:∀k∈ns,0<=k:=by intro k L;let[p,_,h|||h]:=(u k).mp L<;>lia
 let d:ns=(.gv zX).map λ(n:Nat)=>.dZ:=by rw[a_];calc(wY ns).symm.trans (dG (.bS ?_));have:=c k L;simp;lia
 rw[d];congr 1;refine sG ?_ (vR G).1 (.ah ?_)
 .calc o9.mpr ?_;have:=U1.mpr (.c o N);calc JO (λ{a b} J Y h=>?_) this;have:=c a J;have:=c b Y;have:=h.1;have:=h.2;lia
 .rw[(vR G).2,aH];walk
  .intro[k,L,rfl];let[p,R,h|||h]:=(u k).mp L
   .show(.g p R<|.z .a)
   .show(.g p R<|.F .a)
  .intro[p,R,h];calc(.g (x:Int) ((u _).mpr<|.cf p R) .a);lia
def G4 x:∀l,.ae (.p4 x l) (.ax+1)
 |[]=>by simp[Vaglrc.put]
 |y::l=>by
  unfold Vaglrc.put;split
  .simp
  .split
   .simp
   .have:=G4 x l;simp;lia
def Qb G:.ae (fi G) (2*.dW):=by
 have:∀(G:.bK) (a:.h),.ae (G.foldl .yL a) (.bE+2*.dW):=by
  intro G;induction G with
  |nil=>intro a;simp
  |cons p G E=>intro a;rw[cW];let B:=E (.p4 p.1<|.p4 (p.2+1) a);let M:=G4 p.1 (.p4 (p.2+1) a);let A:=G4 (p.2+1) a;rw[dS];lia
 have:=this G [];simpa[fi] using this
def agr{a b:.S}(J:a.Nodup)(h:.aM (k∈b↔k∈a))(d:.cU=.bE):b.Nodup:=by
 have F:∀{n:Nat} {a b:.S},.bE=n->a.Nodup->(∀k∈a,k∈b)->.cU=n->b.Perm a:=by
  intro n;induction n with
  |zero=>intro a b B _ _ M;rw[rV.mp B,rV.mp M]
  |succ n E=>
   intro a b B M A P;cases a with
   |nil=>simp at B
   |cons x a=>
    let M:=lF.mp M;let D:=A x .f;let c:=aog D;refine c.trans<|(E (a:=a) (b:=b.erase x) (by simpa using B) M.2 (.bS ?_) ?_).cons x
    .let y:k≠x:=λe=>M.1 (by rw[<-e];show L);show(aof y).mpr (A k<|by simp[L])
    .have:=c.length_eq;simp at this;lia
 show(F rfl J (.bS<|(h k).mpr L) d).nodup_iff.mpr J
def mi(t:.S)(lo:Nat)(v:Int):.eV
 |0=>t
 |n+1=>(mi t lo v n).set (lo+n) v
def gk(cs:.bK):.eV
 |0=>bL 256<|-1
 |k+1=>match cs[k]? with
  |some p=>mi (gk cs k) p.1 k (p.2-p.1)
  |none=>gk cs k
def B0(cs:.bK):=gk cs cs.length
def B1 t lo v:∀n,(.m<|mi t lo v n)=t.length
 |0=>rfl
 |n+1=>by change(.m<|(mi t lo v n).set (lo+n) v)=_;rw[IW,B1 t lo v n]
def yK cs:.aM ((.m<|gk cs k)=256)
 |0=>by simp[gk]
 |k+1=>by
  unfold gk;split
  .rw[B1,yK cs k]
  .show yK cs k
def pX(Q:.S):Sym->Sym
 |.non k=>.non k
 |.range a b=>.eb (.fl<|Q.getD a 0) (.fl<|Q.getD b 0)
section
open Vaglrd
def G5:∀l,uj l=.d0 (l.zip l.tail) (p.1,p.2-1)
 |[]=>rfl
 |[a]=>rfl
 |a::b::l=>by rw[ML,G5<|b::l];rfl
def ags g:Dj g=fi (dh g):=rfl
def Qc(h:cj l){p}(R:p∈l.zip l.tail):p.1<p.2:=by
 induction l with
 |nil=>cases R
 |cons a l E=>
  cases l with
  |nil=>cases R
  |cons b l=>
   let h:=hV.mp h;let rfl|||R:=.c6 (show p∈(a,b)::((b::l).zip l) from R)
   .show h.1 b .f
   .show E h.2 R
def G6 g:dC g=.d0 (ji<|dh g) (p.1,p.2-1):=by
 unfold dC ji;rw[ags,G5,JP];congr 1;apply JI;intro p R;let H:=(vR<|dh g).1;let x:=Qc H R;let G:(p.1,p.2-1)∈uj (fi<|dh g):=by rw[G5];show .f7 p R
 let[_,_,c]:=vc H G;change(dh g).any (zC (p.1,p.2-1))=rh (dh g) p.1;unfold rh;rw[gx,lJ,lJ];walk
 .intro[q,f,h];let h:=xY.mp h;show(.g q f<|by simp only[eG,decide_eq_true_eq];simp only at h;lia)
 .intro[q,f,h];simp only[eG,decide_eq_true_eq] at h;calc(.g q f (xY.mpr<|.bM h.1));have:=c (q.2+1) (((vR<|dh g).2 _).mpr<|.g q f .cY);simp only at this|-;lia
def Qd t lo v b:∀n,(mi t lo v n)[b]?=.A (lo<=b/\b<lo+n/\b<t.length) .aO (t[b]?)
 |0=>.kB .cD
 |n+1=>by
  change((mi t lo v n).set (lo+n) v)[b]?=_;rw[UZ,B1,Qd t lo v b n];by_cases e:lo+n=b
  .rw[.cK];by_cases q:b<t.length
   .rw[.hf,.hf]
   .rw[.cD,.cD,iB .a]
  .rw[.bU];by_cases q:lo<=b/\b<lo+n/\b<t.length
   .rw[.dF,.hf]
   .rw[.ff,.cD]
def Qe{b}(Y:b<256)(d:∀(i j:Nat) p q,cs[i]?=.cL->cs[j]?=.b q->p.1<=b->b<p.2->q.1<=b->b<q.2->i=j):
  .aM ((∀i p,i<k->cs[i]?=.cL->p.1<=b->b<p.2->(gk cs k)[b]?=.b .j4)/\((∀i p,i<k->cs[i]?=.cL->¬(p.1<=b/\b<p.2))->(gk cs k)[b]?=.b (-1)))
 |0=>(.c (λi p h=>.a) (.P<|by change(bL 256 (.cg<|-1))[b]?=_;rw[JK,.r Y]))
 |k+1=>by
  let[n,v]:=Qe Y d k;cases e:cs[k]? with
  |none=>
   let C:gk cs (k+1)=gk cs k:=by unfold gk;rw[e];cases k<;>rfl
   rw[C];calc .ve;let q|||q:=aor i k
   .show q
   .have:i=k:=.a
    rw[this,e] at M;cases M
  |some c=>
   let C:gk cs (k+1)=mi (gk cs k) c.1 k (c.2-c.1):=by change(match cs[k]? with|some p=>mi (gk cs k) p.1 k (p.2-p.1)|none=>gk cs k)=_;rw[e]
   rw[C,Qd,yK];by_cases q:c.1<=b/\b<c.2
   .rw[.hf];calc(.da (λi p B M A P=>?_) (.aa q<|h k c .a e));rw[d i k p c M e A P q.1 q.2]
   .rw[.cD];calc .ve;let z|||z:=aor i k
    .show z
    .have:i=k:=.a
     rw[this,e] at M;cases M;show .aa (.c A P) q
def fM(g:aQ):=B0 (ji<|dh g)
def G7(w:.bx){p}(R:p∈ji (dh g)):p.1<p.2/\p.2<=256:=by let[R,_]:=cZ.mp R;let x:=Qc (vR<|dh g).1 R;let M:p.2∈fi (dh g):=List.mem_of_mem_tail (wF R).2;let[q,f,h]:=((vR<|dh g).2 _).mp M;have:=w q f;lia
def G8{g}(w:.bx){b:Nat}(Y:b<256):(fM g)[b]?=.b (match .fz b with|some k=>k|none=>-1):=by
 let c:∀(i:Nat) (p:Nat×Nat),(ji<|dh g)[i]?=.cL->(dC g)[i]?=.be p.1 (p.2-1):=λi p h=>by rw[G6,bG,h];rfl
 let x:∀(i:Nat) (p:Nat×Nat),(ji<|dh g)[i]?=.cL->p.1<p.2:=λi p h=>(G7 w<|bb h).1;let d:∀(i j:Nat) p q,(ji<|dh g)[i]?=.cL->(ji<|dh g)[j]?=.b q->p.1<=b->b<p.2->q.1<=b->b<q.2->i=j:=by intro i j p q B M I y o n;let Q:=lY.mpr (.en (c i p B) I (.dg<|b<=p.2-1));let r:=lY.mpr (.en (c j q M) o (.dg<|b<=q.2-1));rw[Q] at r;cases r;rfl
 let[a,J]:=Qe Y d (.m (ji<|dh g));cases e:.fz b with
 |some k=>let[p,R,B,M]:=lY.mp e;rw[G6,bG] at R;let[q,f,rfl]:=lG.mp R;have:=x k q f;simp only at B M;show a k q (.aw f) f B .a
 |none=>calc J λi p _ h z=>?_;let V:=vg.mp e _ (bb<|c i p h);show V (.c z.1 (.dg<|b<=p.2-1))
def agt(w:.bx){s}(hs:.jT (s=.fN) ((lo,hi)∈dh g)):pX (fM g) s=eQ g s:=by
 cases s with
 |non k=>rfl
 |range lo hi=>
  have f:=hs lo hi rfl;let Y:=w _ f;simp only at Y;let F:.bu (lo<=b) (b<=hi->(.fl<|.fX (fM g) b)=TT.cl g b):=by
   intro b B M;let[p,R,A,P]:=sM w f B M;rw[cK,G8 w .a,Df];unfold TT.cl;cases e:.fz b with
   |none=>show .aa (.c A P) (vg.mp e p R)
   |some k=>rfl
  change gA _ _=gA _ _;rw[F lo .a .a,F hi .a .a]
def Qg(w:.bx){lo hi b}(f:(lo,hi)∈dh g)(B:lo<=b)(M:b<=hi):b<(.m<|fM g)/\0<=.fX (fM g) b:=by
 let Y:=w _ f;simp only at Y;calc(.bM<|by unfold fM B0;rw[yK];lia);let[p,R,A,P]:=sM w f B M;rw[cK,G8 w .a,Df];cases e:.fz b with
 |none=>show .aa (.c A P) (vg.mp e p R)
 |some k=>show Int.natCast_nonneg k
def agu g:.eZ (ji<|dh g)=JQ g:=by unfold JQ;rw[G6,a_];rfl
end
theorem Qh(l:.bq):.oP .xO .wP=(vQ l).map fh:=by
 induction l with
 |nil=>rfl
 |cons s l E=>
  cases s with
  |range a b=>simp only[U0,bx,E];rfl
  |non k=>room
def agv:=ib λb c=>∃a,b=[dn a]/\.bE<=60/\(∀r∈a,.jO<=8)/\c=bV (a.flatMap (.bN<|vQ .O))
def agw:.aI [.hn,"ranges",.an,.dw,.ed] [.hn] 14:=.Q
def Qi{rs:.b2}(h:∀r∈rs,.jO<=8):.ae (rs.flatMap (.bN<|vQ .O)) (.lk*8):=by
 induction rs with
 |nil=>simp
 |cons r rs E=>grind[lK,Qa]
def agx(X:.aq G n R):bq P w K G n "ranges_of" [.hn] (.L agv) 1:=by
 let S:=agw;calc X.acY.t S .nz .gd;let[rfl,_,[d,rfl,B,Y,rfl],k]:=h;calc .j2 1 .fd;refine .jy<|.kk λi u N=>u=[_,_,none,none,none]/\N=[(q,bV<|.b9 (d.take i) (.bN<|vQ .O))]
 .intro i w _ _ t [rfl,rfl];let[r,c,rfl]:=dw t;let[g,m]:=.bd c;let T:d.take (i+1)=d.take i++[r]:=by rw[dX g,m]
  let M:=Y r (bb c);calc(.gS _ _ 2 3);refine b_<|.o0 q .g0 (XV.xe (.ju [(.ed,4)]<|lc (λs=>[.jo d,.b3,.J .C,.jV .O,.kE s]) .xO .wP .a (λs hs p L V o C W Q=>(.g (.dS 4) ?_ .M)) .bs)<|.fK _ _ .w .bF ?_ .hp)
  .cases s with
   |non j=>show .il
   |range J t=>show .il
  .cases s with
   |non j=>cases z
   |range J t=>tm_at "v"
  .rw[Qh,aj,aj];let I:=Qi (rs:=d.take i) (.eu (Y x<|o_ D));let y:=Qa .O;rw[dZ] at I;show .jk .a
  grind[Qh,zY,bV,bo]
 .intro _ _ [rfl,rfl];rw[aj,eP];show .gn (k q)
def agy:=ib λa c=>∃G,a=[bV G]/\.dW<=480/\c=bV (ji G)
def agz:.aI ["ranges","lo","hi","cuts","classes","first","behind"] ["ranges"] 15:=.Q
def agA(X:.aq L b qq):bq P w K L b "classes_of" ["ranges"] (.L agy) 1:=by
 have S:=agz;calc X.acZ.t S .nz .gd;let[rfl,_,[G,rfl,I,rfl],k]:=h;refine .ba 3<|abK (ns:=(.cW (.as<|.cg p.1))++.cW (.as<|(.cg p.2)+1)) .bo .bo (XE.aB<|oh
  (.ju [("lo",1),("hi",2)]<|.jL G fh .vd (.as (.u<|.cg p.1)) .wO .bs)
  (.ju [("lo",1),("hi",2)]<|.jL G fh .vd (.as (.u<|(.cg p.2)+1)) (λp R _ _ _ _ _ g a=>(.c (.nv 1 2)<|qN .e .e)) .bs)
  .w .w (.qH<|.jk .a) .bs) (.z<|by rw[aM,bo,a_,a_];rfl) (by rw[ez,aj,aj];lia) λY r D C o M y q=>?_;let N:r=(fi G).map λ(n:Nat)=>.dZ:=by
  calc agq o (agr D M C) (.aU ?_);rw[M,y,cx,aH,aH];walk
  .rintro(⟨p,R,rfl⟩|⟨p,R,rfl⟩)
   .show(.g p R .w)
   .show(.g p R .cY)
  .rintro⟨p,R,rfl|rfl⟩
   .show .z (.g p R rfl)
   .show .F (.g p R rfl)
 rw[show aM r=ai (fi G) by rw[N,aM,a_];rfl];calc .qB 3 [] ?_;calc .j2 4 λB=>?_;let g:=Qb G;calc cu (aaX (ws:=.cp<|fi G) (us:=(fi G).tail.map aa) .e (.bi (XE.aB<|Bb (l:=.b 1) (h:=none) .e .w M3 .aF .bs)<|by rw[.lX<|(1:Int)=(.cg (1:Nat)),FE,<-uk,List.drop_one]) ?_ .bo);rw[abL];refine .kk λi u t=>u=[.nr G,none,none,.bY<|fi G,.K B,none,none]/\t=[(B,bV<|.dx .tG (.as<|rh G p.1))]
 .intro i w _ _ V [rfl,rfl];let[[c,d],T,rfl]:=dw V;let[J,Q]:=.bd T;let m:.aC ((fi G).zip (fi G).tail) (i+1)=.tG++[(c,d)]:=by rw[dX J,Q]
  refine(.gS _ _ 5 6);calc be (iM<|.oR (.cW<|.as .th) (.ju [("lo",1),("hi",2)]<|.jL G fh (.as [.nr G,.J p.1,.J p.2,.bY<|fi G,.K B,.J c,.J d]) (.as<|.bl .th) .wO .bs) .pq) .M .M;all_goals
   let x:((.cW<|.as .th).any id)=rh G c:=by rw[rO];unfold rh;congr 1;funext p;simp
   rw[x] at z
  .refine b_ (fG .e .g0<|.e5 (.cX _ .bF ?_<|.eG .iM))
   .rw[aj];have:=lM (.as<|rh G p.1) .tG;rw[dZ,uu] at this;show lt_size .a
   .rw[m,JN,bV,bo];simp[z];rfl
  .calc .hp;rw[m,JN];simp[z]
 .intro _ _ [rfl,rfl];rw[aj,eP];show .gn (k B)
def agB:=ib λb c=>∃a,b=[bV a]/\(∀p∈a,p.1<=p.2/\p.2<=256)/\c=aM (B0 a)
def agC:.aI ["classes",.bb,.iV,"part","byte"] ["classes"] 16:=.Q
theorem agD(X:.aq o b x):bq P w K o b "numbers_by_byte" ["classes"] (.L agB) 1:=by
 let S:=agC;calc X.ac0.t S .nz .rm;let[rfl,_,[a,rfl,d,rfl],k]:=h;calc .ba 1 (vr (n:=256) .e (.bi (qN .e .e) rfl) .a .fd);refine cu<|vq (.e5 (.bZ<|.kk λi u g=>u=[_,_,none,none,none]/\g=[(q,aM<|gk a i)])) .bo
 .intro i w _ _ r [rfl,rfl];let[_,c,rfl]:=x_ r;let[p,R,rfl]:=dw c;let Y:=d p (bb R);calc(.gS _ _ 2 3);refine cu<|om (m:=p.1) (n:=p.2) .e .e .a .a (.kk λj u g=>u=[.nr a,.b3,.J i,.b<|fh p,none]/\g=[(q,aM<|mi (gk a i) p.1 i j)]) .bo
  .intro j w _ _ I [rfl,rfl];let[I,rfl]:=iS I;calc(.fL _ _ 4);calc qP (j:=p.1+j) (.e5<|.fK .e .e _ .bF (qR<|by rw[aj,B1,yK];lia) .hp);rw[.g7<|mi (gk a i) p.1 i (j+1)=(mi (gk a i) p.1 i j).set (p.1+j) i,aM,w8];rfl
  .intro _ _ [rfl,rfl];calc .hp;have:gk a (i+1)=mi (gk a i) p.1 i (p.2-p.1):=by change(match a[i]? with|some p=>_|none=>_)=_;rw[R]
   rw[this];simp[cq]
 .intro _ _ [rfl,rfl];calc .gn ?_;have:=k q;simpa[jg,B0] using this
def agE:=ib λd c=>∃l Q,d=[cV l,aM Q]/\.ax<=8/\(∀b a,gA b a∈l->b<.lv/\a<.lv/\0<=Q.getD b 0/\0<=Q.getD a 0)/\c=cV (.bA<|pX Q)
def agF:.aI [.dw,"class_of","told",.ed] [.dw,"class_of"] 17:=.Q
def Qj{Q:.S}(h:i<.lv)(T:0<=Q.getD i 0):(Q.map .cJ)[i]?=.J (.fl<|Q.getD i 0):=by
 rw[bG,cf h];have:Q.getD i 0=Q[i]:=.d
 rw[this] at T|-;change .b (W.int Q[i])=.gG (.cj _);lk
def agG(X:.aq t b M):bq P w K t b "in_classes" [.dw,"class_of"] (.L agE) 1:=by
 let S:=agF;calc X.ac1.t S .pg λf v A U s H E G O F Z h=>?_;let[rfl,_,[l,Q,rfl,D,a,rfl],k]:=h;calc .j2 2 .fd;refine .jy<|.kk λi u B=>u=[.jV l,.fU,.b3,none]/\B=[(q,cV ((.ii).map<|pX Q))]
 .intro i w _ _ x [rfl,rfl];let[J,d,rfl]:=dw x;let[g,m]:=.bd d;let r:l.take (i+1)=.ii++[J]:=by rw[dX g,m]
  let c:cV ((l.take<|i+1).map<|pX Q)=.eK (((.ii).map<|pX Q).map eh) [eh<|pX Q J]:=by rw[r,cV,bo,bo];rfl
  let Y:(.m<|((.ii).map<|pX Q).map eh)<bh:=by rw[aj,aj,dZ];show lt_size .a
  calc(.fL _ _ 3);cases J with
  |non j=>show mT (k:=.j) .il .aV .uP
  |range p V=>let[I,y,o,n]:=a p V (bb d);let L:=Qj I o;let C:=Qj y n;show mT (k:=true) .il .uP .aV
 .intro _ _ [rfl,rfl];rw[aj,eP];show .gn (k q)
def agH(C:af):bT:=λa O K=>∃x g,a=[.p x,aa .o,dn .B]/\O=[(.eD x C [] [])]/\.bf<=60/\(∀r∈g.rules,.jO<=8)/\.bx/\K .non [(x,cC C .N (JQ g)<|fM g)]
def agI:.cd [.cC,.g6,.hn,"classes","first","behind",.an,.dw] (.gL .g6 .hn) 13 0:=.Q
def Qk(X:.aq J i B):mR P w K J i B.g "Grammar" (.gL .g6 .hn) (.L<|agH B.g) 2:=by
 let S:=agI;calc X.ac2.t X.ac3 S (λ_ _ _ {_,_,e,_}=>.dR) λf v A U s H E T O F Z h=>?_;let[x,g,rfl,rfl,b,Y,z,k]:=h;let d:=Qi Y;calc .gx 3 (.j8 (agA X) (ae (.j8 (agx X) (.iq<|.I .B rfl b Y rfl))<|ak (.a5<|.dB _ .a rfl)));rw[<-BZ];calc .hu x X.fK.cl (.qe _) (.e5 .gY);let D:.eg (.m<|ji .jK):=by let I:=lM (.as<|rh .jK p.1) ((fi .jK).zip (fi .jK).tail);let y:=Qb .jK;rw[uu] at I;rw[BZ] at*;change .ae (List.filter _ _) _;lia
 calc .hu x X.fK.cl (.qe _) (XV.xe (.ju [("first",4),("behind",5)]<|fH (l:=ji .jK) (f:=fh) (.as [.K x,.J .o,.jo .B,.nr<|ji .jK,.J p.1,.J p.2,none,none]) (.as<|aa p.1) D (λp R _ _ _ _ _ M a=>(.c (.nv 4 5) .e)) .bs) .gY);calc .hu x X.fK.cl (.qe _) (XV.xe (.j8 (agD X) (.iq<|.dB _ (.dz<|.c (fv (G7 z R).1) (G7 z R).2) rfl)) .gY);refine .hu x X.fK.cl (.qe _)<|XV.xe (.ju [(.an,6),(.dw,7)]<|.jL .B gh (.bN [.K x,.J .o,.jo .B,.nr<|ji .jK,none,none,.J .C,.jV .O]) (.bN (gh<|.rq (pX<|fM g))) (λr c _ _ _ _ _ M a=>(.c (.nv 6 7) (XE.xv<|vm (.df<|ae (.j8 (agG X) (.jC<|.gE .O (fM g) rfl (Y r c) λm u G=>?_)) (ak<|.iY .f))))) .bs) .gY
 .let t:(m,u)∈.jK:=by rw[BZ];show .kF r c (jS.mpr<|.cx G)
  let n:=(z _ t).1;let[I,y]:=Qg z t (aR m) n;let[o,Q]:=Qg z t n (aR u);show(.q I o y Q)
 .calc .j6 ?_;let L:.d0 (ji .jK) (aa p.1)=.cp (JQ g):=by rw[<-agu,a_];rfl
  let C:.fa (.bN (gh<|.rq (pX<|fM g)))=(.N).rules.map gh:=by unfold aC;rw[a_];calc dG λr c=>?_;change _=gh _;congr 2;calc dG λs N=>agt z λm u e=>?_;rw[BZ];show .kF r c (jS.mpr (.D N<|by rw[e]))
  rw[L,C];show k
def G9:∀i (r:.h),0<m->kh m (bL i (m-1)++r)=(kh m r).map (bL i 0++·)
 |0,r,_=>.f
 |i+1,r,G=>by rw[TZ,rX];rw[.g7<|kh m _=.A (m-1+1=m) _ _];rw[.hf,G9 i r G,Option.map_map];rfl
def nt:.aR .h->W
 |none=>.non
 |some a=>.am<|a.map aa
def agJ:=.lt<|∃a m u,b=[.am<|a.map aa,aa m,aa u]/\.bE<=24/\(∀d∈a,d<m)/\r=nt (TT.behind m u a)
def agK:.aI .yK [.cm,.iX,.eI] 50:=.Q
theorem G_(X:.aq Q B qq):bq P w K Q B "text_behind" [.cm,.iX,.eI] (.L agJ) 1:=by
 have S:=agK;calc X.ac4.t S .ny λf v A U s H E W O F Z h=>?_;let[rfl,_,[g,m,u,rfl,I,N,rfl],k]:=h;calc .ba 3 (Ft .bo .e .fd);calc .iB 4;let c:∀V C,(match kh m g.reverse with|some r=>r.reverse|none=>bL (.f1+1) 0)=C->
   ar (Bh P w K Q B .yK "text_behind" (top 50) f v A U s H E) [.ep<|g.map aa,.J m,.J u,.b3,V] [(q,ai C)] ((jd<|top 50).drop 4) (.q (λ_ L=>Dr F .non L) (Dr F) .hE .hE):=by
  intro V C e;let Y:TT.behind m u g=.f8 (0<m/\C.length<=u) C:=by subst e;tm_at "z"
  rw[Y] at k;refine aF<|iO .aH .M .M
  .simp only[eG,decide_eq_true_eq,aj] at z;rw[.hf] at k;show XV.xe (Fu .bo .e .e6) .ky
  .simp only[mD,decide_eq_false_iff_not,aj] at z;rw[.cD] at k;show .lo
 refine wl (λy T L=>∃i o,T=[.ep<|g.map aa,.J m,.J u,.b3,.gG<|.dh-1]/\L=[(q,ai<|o++bL i 0)]/\g=o++bL i (m-1)/\y=.dh) (.D (.gE 0 g rfl (by simp[ai]) .f) ?_) ?_
 .show{_,_,rfl,.w,_,_,rfl,.w,_,_,rfl,.w,_,_,rfl,.w,_,_,rfl,.z .f,rfl}
 intro y _ _ [i,o,rfl,rfl,a,rfl];let rfl|||[p,x,rfl]:=List.eq_nil_or_concat o
 .calc(.q .j (.oA .j true .aH) .aV .eq);let J:i=.f1:=by rw[a];simp
  calc mT (k:=.j) .aH .aV (.P<|b_ (fG .e .g0<|.g1 (aa 0) (.cX _ .bF .bV<|aD ?_)));have:=c (.gG<|(.m ([]:.h))-1) (bL (.f1+1) 0) ?_
  .rw[show ai _=.eK (.cp<|[]++bL i 0) [aa 0] by rw[pd,ai,J,Uo,bo];rfl] at this;show this
  .by_cases G:0<m
   .rw[a,pd,aos];have:=G9 i [] G;rw[eS] at this;rw[this];rfl
   .have:g=[]:=by
     cases e:g with
     |nil=>rfl
     |cons d r=>have:=N d .oD;lia
    rw[this];rfl
 .rw[List.concat_eq_append] at a|-;let D:=N x (by rw[a];simp);let b:(.cp<|p++[x]++bL i 0)[.jW]?=.J x:=.f
  let M:.jW+1+i=.f1:=.d
  let R:((.m<|p++[x])-1)=(p.length:Int):=.bV
  rw[R];refine(.en (iN .aH<|.P .aH) .M .M)
  .simp only[eG,decide_eq_true_eq] at z;let t:x=m-1:=.a
   calc qP (.g1 (aa 0)<|.fK .e .e _ .bF (qR .f) ?_);refine vp (j:=4) Ko S.nd rfl .e<|.a2 {.jW,.f,i+1,p,rfl,?_,?_,rfl}
   .rw[ai];congr 3;rw[eZ,bo,List.set_append_right _ _ .f];simp[TZ]
   lk
  .have t:¬x+1=m:=by
    intro e;rw[mD] at z;let z|||z:=z
    .simp at z
    .simp at z;lia
   calc mT (k:=true) (.lL .f) .eq .aV;calc Ni (j:=.jW) (m:=x) (n:=1) uF .e .e .e b .bF (aD ?_);have:=c (.J .jW) (p++[x+1]++bL i 0) ?_
   .rw[show ai (p++[x+1]++bL i 0)=.Z ((.cp<|p++[x]++bL i 0).set .jW (.u<|(x:Int)+1)) by simp[ai,aa,List.set_append]] at this;show this
   .rw[a,aot,aos,G9 i _ .a,aot];rw[.lX<|([x]:.h).reverse++p.reverse=x::p.reverse];rw[.g7<|kh m (x::p.reverse)=.b7 (x+1=m) ((kh m p.reverse).map (0::·)) (.rn (x+1) p.reverse),.x t];simp
def agL:=f_ λa r=>∃m u,a=[aa m,aa u]/\.bh m/\.bh u/\r=aa (gM m u)
def agM:.aI [.iX,.eI,"of_size","total","size"] [.iX,.eI] 51:=.Q
def agN(X:.aq d a l):bq P w K d a "number_of_texts" [.iX,.eI] (.L agL) 1:=by
 let S:=agM;calc X.ac5.t S .pg .sx;let[rfl,_,[m,u,rfl,B,M,rfl],k]:=h;calc .iB 2;calc .iB 3;refine cu<|.mw u (lp (λi b c=>b=[_,_,.J<|m^i,.J<|gM m i,none]/\c=[]) (.D .bW<|by simp[gM];tm_at "fg") ?_ ?_) .bo
 .intro i w _ _ o [rfl,rfl];calc(.en _ (.dS 4)<|abM (j:=2) S.nd rfl .e .a ?_);calc vp (j:=3) uF S.nd rfl .e (aD<|.D .bW ?_);refine{_,_,rfl,.w,_,_,rfl,.w,_,_,rfl,.z ?_,_,_,rfl,.z ?_,_,_,rfl,.cY,rfl}
  .rfl
  .rw[afC,UW];rfl
 .intro _ _ [rfl,rfl];calc .je (.nil ?_);simpa[cq] using k
def agO l(x:N):jE (l++[x]) none (.b<|-1)=l:=by grind[jE,HT.b0,zx]
def agP:=f_ λa r=>∃m u,a=[aa m,aa u]/\u<=8/\gM m u<=300/\r=.mo (cN m u) (.bw (.am<|b.map aa))
def agQ:.aI [.iX,.eI,.kg] [.iX,.eI] 52:=.Q
def agR{l:.aS}(h:TT.Walk f l):∀{i} {a},l[i]?=.b a->f a=l[i+1]?:=by
 induction h with
 |last h=>lk
 |more h t E=>lk
def agS(X:.aq o b C):bq P w K o b "texts_up_to" [.iX,.eI] (.L agP) 2:=by
 let S:=agQ;calc X.ac6.t S .pg λf v A U s H E G O F Z h=>?_;let[rfl,_,[m,u,rfl,Y,a,rfl],k]:=h;let[l,I,x]:=Pq m u;let d:.ae (cN m u) 300:=by rw[yz];show a
 calc .nI 2 (.e7 (nt<|.b [])<|.ft .fd);calc .oc (.m<|cN m u) (λy t r=>∃i,i<=(.m<|cN m u)/\0<i+1/\y=(.m<|cN m u)-i/\t=[.fU,.fU,.fU]/\r=(.lY q<|(.aC (cN m u) i).map (.bg (W.tup<|c.map aa))++[nt (cN m u)[i]?])) (.ab 0 (eY _) .a .a rfl<|by rw[I];rfl) ?_;intro y _ _ [i,L,_,rfl,rfl,rfl];let J:=K7 ((.aC (cN m u) i).map (.bg (W.tup<|c.map aa))) (nt (cN m u)[i]?);cases e:(cN m u)[i]? with
 |none=>rw[e] at J;calc(.en (vk (.kH J) .io) .aV .eq);let n:=aou.mp e;rw[nL n];refine .mb (.bi (XE.aB<|Bb (l:=none) (h:=.b<|-1) .e .e6 .aF .e .bs)<|by rw[agO]) .ky
 |some c=>rw[e] at J;let D:=bb e;calc(.en (vk (.kH J)<|.pT .aV) .eq .aV);let g:=(.aw e);calc b_ (fG .e .g0<|XV.xe (ff (G_ X) .bV (ae (.kH J)<|.jC (.fD c m u rfl (.dJ<|Pr D)<|BR D))) (.cX _ .bF .bV<|.a2 {_-_,.a,i+1,g,.a,rfl,rfl,?_}));let[B,M]:=.bd e;rw[agR x e,dX B,M,bo];rfl
def yL(n:Int):=.ai n 0||.ai 255 n
def k_(ns:.S):=.b7 (ns.any yL) (-1)<|.b7 (24<.fA) (-3) 0
def lb(g:aQ)(h:Int):=.kw (0<=h/\h<.o) 0<|-4
def lg(g:aQ)(h:Int)(ns:.S):=.A (k_ ns=0) (lb g h)<|k_ ns
def jj(g:aQ)(a m:Int):=.b7 (lb g a=0/\¬(0<=m/\m<=8)) (-5)<|lb g a
def jN(g:aQ)(a m t:Int):=.b7 (jj g a m=0/\¬(0<=t/\t<=300)) (-6)<|jj g a m
def agT:=.lt<|∃a,b=[aM a]/\.bE<=2000/\r=.u (k_ a)
def agU:.aI [.dX,"octet"] [.dX] 59:=.Q
theorem Ql(X:.aq c i l):bq P w K c i "bytes_refusal" [.dX] (.L agT) 1:=by
 have S:=agU;calc X.ac7.t S .nz λf v A U s H E j O F Z h=>?_;let[rfl,_,[b,rfl,g,rfl],k]:=h;calc be (iM<|qT .bo (.ju [("octet",1)]<|fH _ (λn=>.bl<|yL n) .a (λp R _ _ _ _ _ d a=>(.c (br S.nd)<|.gh rfl)) .bs) .pq) .M .M;all_goals
  let x:(b.map yL).any id=b.any yL:=.f
  rw[x] at z;unfold k_ at k;rw[z] at k
 .show .lp
 .refine aF<|iO .aH .fH .fH
  .rw[.on,.r .d] at k;show .lo
  .rw[.on,.x .d] at k;show .lo
def agV(C:af):=f_ λa r=>∃h g D Q,a=[cC C g D Q,.u h]/\r=.u (lb g h)
def agW:.aI [.ap,.an] [.ap,.an] 60:=.Q
def Qm(X:.aq a i l):bq P w K a i "head_refusal" [.ap,.an] (.L<|agV l.g) 1:=by
 calc X.ac8.t agW .qb .pi;let[rfl,_,[h,g,D,Q,rfl,rfl],k]:=h;refine aF<|iO .aH .M .M
 .simp only[eG,decide_eq_true_eq] at z;rw[lb,.r z] at k;show .lo
 .simp only[mD,decide_eq_false_iff_not] at z;rw[lb,.cD] at k;show .lo
def agX(C:af):=.lt<|∃h a g D Q,b=[cC C g D Q,.u h,aM a]/\.bE<=2000/\r=.u (lg g h a)
def agY:.aI [.ap,.an,.dX,.kD] [.ap,.an,.dX] 61:=.Q
def Qn(X:.aq b i l):bq P w K b i "text_refusal" [.ap,.an,.dX] (.L<|agX l.g) 2:=by
 let S:=agY;calc X.ac9.t S .yJ .sw;let[rfl,_,[h,c,g,D,Q,rfl,a,rfl],k]:=h;calc .gx 3 (ff (Ql X) .bV (.iq<|.dB c a rfl));refine aF<|iO .aH .M .M
 .rw[lg,.r .ch] at k;show XV.xe .xN .ky
 .rw[lg,.x .cr] at k;show .lo
def B2{ns:.S}{i:Nat}(e:ns[i]?=.b h):(.gv .cJ)[i]?=.gG h:=.d
def agZ(C:af):=.lt<|∃a h m g D Q,b=[cC C g D Q,aM a]/\a[0]?=.b h/\a[1]?=.b m/\r=.u (jj g h m)
def ag0:.aI [.ap,.bb,.kD] [.ap,.bb] 62:=.Q
def Qo(X:.aq a i l):bq P w K a i "length_refusal" [.ap,.bb] (.L<|agZ l.g) 2:=by
 let S:=ag0;calc X.ac_.t S .so .pi;let[rfl,_,[c,h,m,g,D,Q,rfl,T,B,rfl],k]:=h;let I:=cR (B2 T);let L:=cR (B2 B);calc .gx 2 .xN;refine be .aH .M .M
 .simp only[eG,decide_eq_true_eq,zP,mD,decide_eq_false_iff_not] at z;rw[jj,.r<|.c z.1 .a] at k;show .nB 2 (aD .lp)
 .simp only[mD,decide_eq_false_iff_not,zK,eG,decide_eq_true_eq] at z;rw[jj,.x λy=>.a] at k;show .lp
def ag1(C:af):=.lt<|∃a h m t g D Q,b=[cC C g D Q,aM a]/\a[0]?=.b h/\a[1]?=.b m/\a[2]?=.b t/\r=.u (jN g h m t)
def ag2:.aI [.ap,.bb,.kD] [.ap,.bb] 63:=.Q
def Qp(X:.aq a i l):bq P w K a i "search_refusal" [.ap,.bb] (.L<|ag1 l.g) 3:=by
 let S:=ag2;calc X.ac'.t S (λ_ _ _ {_,_,{_,_,_,_,_,_,_,e,_},_}=>.dR) .rl;let[rfl,_,[b,h,m,t,g,D,Q,rfl,T,B,M,rfl],k]:=h;let L:=cR (B2 M);calc .gx 2 (ff (Qo X) .bV<|.jC #[b,h,m,g,D,Q,rfl,T,B,rfl]);refine be .aH .M .M
 .simp only[eG,decide_eq_true_eq,zP,mD,decide_eq_false_iff_not] at z;rw[jN,.r .bV] at k;show .nB 2 (aD .lp)
 .simp only[mD,decide_eq_false_iff_not,zK,eG,decide_eq_true_eq] at z;rw[jN,.x λy=>.a] at k;show .lp
def nextRef(g:aQ)(D:.h)(a m t:Int)(ns:.S):=.b7 (k_ ns=0) (.b7 (jN g a m t=0/\.n (ns.any λn=>! .dY n (D.map .jc))) (-7)<|jN g a m t)<|k_ ns
def iZ(g:aQ)(D:.h)(a m:Int):=.b7 (jj g a m=0/\300<gM .hJ .cl) (-10)<|jj g a m
def ag3 l:ai l=.mo (.bA .jc) .cJ:=by rw[ai,a_];rfl
def ag4(C:af):=f_ λc r=>∃a b h m t g D Q,c=[cC C g D Q,aM a,aM b]/\a[0]?=.b h/\a[1]?=.b m/\a[2]?=.b t/\.cU<=2000/\r=.u (nextRef g D h m t b)
def ag5:.aI [.ap,.bb,.dX,.kD,"octet"] [.ap,.bb,.dX] 64:=.Q
def ag6(X:.aq o i c):bq P w K o i "next_refusal" [.ap,.bb,.dX] (.L<|ag4 c.g) 4:=by
 let S:=ag5;calc X.ada.t S .wN λf v A U s H E C O F Z h=>?_;let[rfl,_,[d,b,h,m,t,g,D,Q,rfl,T,B,M,r,rfl],k]:=h;calc .gx 3 (.jX (Ql X) (.iq<|.dB b r rfl));refine be .aH (.s (.qa 3 (.jX (Qp X)<|.jC #[d,h,m,t,g,D,Q,rfl,T,B,M,rfl])<|aD ?_)) .M
 .rw[nextRef,.r .ch] at k;calc be (iN .aH (.P (iM<|.oR .yI (.ju [("octet",4)]<|.jL b .cJ (λn=>[.qg c.g g D Q,.b<|aM d,.b<|aM b,.gG<|jN g h m t,.gG n]) (λn=>.bl<|! .dY n (D.map .jc)) (λn R _ _ _ _ _ u a=>(.jE 4 (oe (b9.M8 (neg:=true) XY .w) .e (.gh<|ag3 D)<|by with_unfolding_all rfl))) .bs) .pq))) .fH .fH;all_goals
   let x:(.yI).any id=b.any λn=>! .dY n (D.map .jc):=by rw[rO];rfl
   rw[x] at y
  .simp only[eG,decide_eq_true_eq] at y;rw[.r y] at k;show .nB 3 (aD .lp)
  .rw[.x (.bO<|by rw[q.2,aop] at y;show of_decide_eq_false y q.1)] at k;show .lp
 .let G:=.cr;rw[nextRef,.x G] at k;show .pU (.oA .j true<|.lL z) (.P .lp)
def ag7(C:af):=.lt<|∃a h m g D Q,b=[cC C g D Q,aM a]/\a[0]?=.b h/\a[1]?=.b m/\.bh .hJ/\r=.u (iZ g D h m)
def ag8:.aI [.ap,.bb,.kD] [.ap,.bb] 65:=.Q
def Qq(h:jj g a m=0):(0<=a/\a<.o)/\0<=m/\m<=8:=by
 unfold jj lb at h;by_cases D:0<=a/\a<.o
 .rw[.r D] at h;by_cases G:0<=m/\m<=8
  .show(.c D G)
  .rw[.r<|.aY G] at h;show .ng h
 .rw[.x D,.hm<|.ng z.1] at h;show .ng h
def G'(X:.aq a i l):bq P w K a i "survey_refusal" [.ap,.bb] (.L<|ag7 l.g) 3:=by
 let S:=ag8;calc X.adb.t S .so .sw;let[rfl,_,[c,h,m,g,D,Q,rfl,T,B,b,rfl],k]:=h;let L:=cR (B2 B);calc .gx 2 (.jX (Qo X)<|.jC #[c,h,m,g,D,Q,rfl,T,B,rfl]);refine be (iN .aH (.s (g7 b9.gt (ff (w:=aa<|gM .hJ .cl) (agN X) .az (.jC<|.gE .hJ .cl ?_ b ?_)) .e<|fb _))) .M .M
 .have:=(Qq .ch).2;rw[aj];change _=[W.int _,W.int<|.cg (m.toNat:Nat)];rw[i9 this.1]
 .have:=(Qq .ch).2;lia
 .simp only[eG,decide_eq_true_eq] at z;rw[iZ,.r<|.c z.1 .a] at k;show .nB 2 (aD .lp)
 .simp only[mD,decide_eq_false_iff_not] at z;rw[iZ,.cD] at k;show .lp
def Qr:=f_ λa r=>a=[]/\r=aa .bc
def ag9:=f_ λa r=>∃n,a=[aa n]/\r=aa (.ji n)
def ag_:.aI [] [] 33:=.Q
def vS(X:.aq a i l):bq P w K a i "endless" [] (.L Qr) 1:=by calc X.ade.t ag_ (λ_ _ _ {_,_,{e,_},_}=>.dR) .pi;let[rfl,_,[rfl,rfl],k]:=h;calc .mb (.bi (aaL .e .e<|.g .fp .V .V) ?_) .ky;show .dN .cJ .fp
abbrev ag'(P:fu)(w:ew)(K:bj)(X:.dl)(i:bI):=bq P w K X i "endless" [] (.L Qr) 1
abbrev Qs(P:fu)(w:ew)(K:bj)(X:.dl)(i:bI):=bq P w K X i "settle" [.e0] (.L ag9) 2
def vT(c:ag' .ar X.w X.K X.mg .dj)(Z:.k8 1)(S:.bB "endless":=by rfl):.ly (.eX "endless" []) .bc:=
 XE.xv (aaS c Z (.none<|.gs rfl _ .bW) S rfl)
def aha:.aI [.e0,"limit"] [.e0] 34:=.Q
def oJ(X:.aq a i l):Qs P w K a i:=by
 let S:=aha;calc X.adf.t S .nz .pi;let[rfl,_,[n,rfl,rfl],k]:=h;let m:(1000000000000000000000000000000000000000000000000000000000000:Int)=(.cg (TT.MW:Nat)):=.fp
 refine be .aH .M .M
 .let z:=.ch;rw[m] at z;rw[TT.settle,.hf] at k;show .lp
 .let z:=.cr;rw[m] at z;rw[TT.settle,.cD] at k;calc .gx 1 (vT (vS X) .az);refine aF<|iO .aH .fH .fH
  .let y:=.i9 y;rw[.hf] at k;show XV.xe (.gh<|.dN .cJ m) .ky
  .let y:=.nu y;rw[.cD] at k;show .lo
def oK{X}{u}{O}{e}{n}{p pos}(c:Qs .ar X.w X.K X.mg .dj)(Z:.k8 2)(h:.de (aa n))(S:.bB "settle":=by rfl) (he:.b4=.eF::.mz []:=by rfl) (g:.qo []=.j:=by rfl):.ly (.eX "settle" [e]) (.ji n):=
 ff c Z (ae h (ak (.a5<|.iY n)) he) S rfl he g
def Qt(h:n<=.bc):(.dZ).natAbs<2^4000:=by rw[Int.natAbs_natCast];show kJ h .fp
def tH{i j}{pos}(J:.ly a i)(Y:.ly b j)(hi:i<=.bc)(I:j<=.bc):.ly (.jq a .Mult b) (i*j):=
 .bi (aaK J Y (.c (Qt hi)<|Qt I)) (.dN .cJ (Int.natCast_mul i j).symm)
def Qu a b:=(TT.Ap.mul a b).settle .V
def jk(n:Nat)(c:.fF):=.dt n<|.aU (.b0<|c k)
def ahb{k}(h:k<n):(.cp<|jk n c)[k]?=.J (.b0<|c k):=by unfold jk;rw[bG,bG,o6 h];rfl
def fo{ns:.h}{i}(h:i<.fA):(.gv aa)[i]?=.J (.o6 0):=by rw[bG,cK,cf h];rfl
def ahc:bT:=λa O K=>∃l n c m,a=[cV l,m]/\Is O m (ai<|jk n c)/\(∀s∈l,∃k,s=.non k/\k<n)/\K (aa (.b0<|.nX (c k) l)) O
def ahd:.aI [.dw,.e0,"product",.ed] [.dw,.e0] 35:=.Q
def ahe(X:.aq g a r):bq P w K g a "product_of_row" [.dw,.e0] (.L ahc) 3:=by
 let S:=ahd;calc X.adg.t S .jJ .rm;let[l,n,c,m,rfl,G,d,k]:=h;let B:.b0 TT.c1=1:=.fp
 calc .cV 2 (aa<|.b0 (.nX (c k)<|l.take 0)) (.gh<|by change _=aa (.b0 TT.c1);rw[B];rfl);refine .jy<|.kk λi u o=>u=[.jV l,.b m,.J (.b0<|.nX (c k) .ii),none]/\o=O
 .intro i w _ _ p [rfl,rfl];let[J,b,rfl]:=dw p;let[j,rfl,I]:=d J (bb b);let q:=ahb (c:=c) I;calc(.en _ (.dS 3)<|.qa 2 (oK (oJ X) .az (tH .e (.pw G<|cR q) (qG _)<|qG _)) (aD<|.D .bW ?_));calc{_,_,rfl,.w,_,_,rfl,.w,_,_,rfl,.z ?_,_,_,rfl,.cY,rfl};let[B,M]:=.bd b;rw[Qu,dX B,M,EW];change .J (.b0 (TT.times _<|TT.times (c j) TT.c1))=_;rw[AR]
 .intro _ _ [rfl,rfl];rw[aj,eP];show .gn k
def ahf:bT:=λd O K=>∃a w I b c,d=[.T,aa w,bV c,ai b]/\O=[(a,ai I)]/\w<=.bc/\(∀n∈b,n<=.bc)/\(∀p∈c,p.1<.ec/\p.2<.cU)/\K .non [(a,ai<|fL b w I c)]
def ahg:.aI ["totals",.e0,"tails","rest_ways","limit",.c0,"rest"] .tF 37:=.Q
def tI{ns:.h}{m}(h:∀n∈ns,n<=m) i:.o6 0<=m:=by
 rw[cK];cases e:ns[i]? with
 |none=>show eY _
 |some v=>show h v (bb e)
def Qv(X:.aq q m y):bq P w K q m "add_products" .tF (.L ahf) 2:=by
 let S:=ahg;calc X.adh.t S .sz λf v A U s H E B O F Z h=>?_;let[a,w,I,b,c,rfl,rfl,o,r,N,k]:=h;calc .gx 4 (vT (vS X) .az);refine .jy<|.kk λi u n=>u=[.cq,.J w,.nr c,.bY b,.J .bc,none,none]/\n=[(a,ai (fL b w I<|c.take i))]
 .intro i w _ _ t [rfl,rfl];let[p,R,rfl]:=dw t;let[x,g]:=.bd R;let Y:=N p (bb R);let L:fL b w I (c.take<|i+1)=oC b w (fL b w I<|c.take i) p:=by rw[dX x,g];unfold fL;rw[kM];rfl
  let C:(.m (fL b w I<|c.take i))=.ec:=sZ ..;rw[L];generalize fL b w I (c.take i)=M at*;let V:=.hb M p.1 .a;let d:=.hb b p.2 Y.2;calc(.gS _ _ 5 6);refine be (iN .aH (.P .aH)) .M<|.s .hp
  .simp only[eG,decide_eq_true_eq] at z;calc Ni (j:=p.1) uF .e .e (tH .e .e o<|tI r _) V .bF (.eG .iM);unfold oC;rw[.hf,ai,w8];rfl
  .simp only[mD,decide_eq_false_iff_not] at z;unfold oC;rw[.cD]
 .intro _ _ [rfl,rfl];rw[aj,eP];show .j6 k
def yM:Sym->.y Key
 |.non k=>[.z 0,.z k]
 |.range a b=>[.z 1,.z a,.z b]
def ahh s:eh s=.am ((yM s).map kW):=by cases s<;>rfl
def ahi(h:yM s=yM t):s=t:=by cases s<;>cases t<;>simp[yM] at h<;>simp<;>lia
def gn(s:Sym)(t:Nat):TK:=[.tp<|yM s,.at<|.z t]
def ahj s t:W.tup [eh s,aa t]=fT (gn s t):=by rw[ahh];rfl
def ahk{t t'}(h:gn s t=gn J t'):s=J/\t=t':=by simp only[gn,y9,eH.tp.injEq,eH.at.injEq,U2,and_true] at h;show(.c (ahi h.1) .a)
def Qw:.bq->W
 |s::_=>eh s
 |[]=>.non
def rj(tl:.eU):W:=.Z<|tl.map Qw
abbrev NL:=.jd<|Sym×Nat
def oM(L:NL):W:=.dT (.bG (.ah<|gn x.1.1 x.1.2))<|.bG (.ah<|aa x.2)
structure rk(L:NL)(tl:.eU):Prop where
 ok:∀x∈L,∃l,tl[x.1.2]?=.b l/\tl[x.2]?=.fS x.1.1
 len:.hi<=.cc
def ahl:rk [] [[]]:=(.ft .f)
def ahm:iW [[]] [0]:=(.aX rfl λt B M=>by simp at M;lia)
def ahn(Q:iW tl .af){s}{l}{t}(B:tl[t]?=.b l):iW (tl++[s::l]) (.af++[t]):=by
 let x:=(.aw B);let r:=Q.len;calc(.g (by rw[kO .a];show Q.zero) (by simp[r]) λk b c=>?_);by_cases e:k=.cc
 .subst e;refine(.I s l .f ?_ ?_)
  .rw[cK,<-r,zV .ao,Dy];change t<_;lia
  .rw[cK,<-r,zV .ao,Dy];change(tl++[s::l])[t]?=_;rw[kO x];show B
 .let A:k<.cc:=by simp at c;lia
  let[J,V,M,a,w]:=Q.step k b A;let G:.fX (.af++[t]) k=.hc k:=by rw[cK,cK,kO .a]
  calc(.I J V (by rw[kO A];show M) (by rw[G];show a) ?_);rw[G,kO .a];show w
def aho(Q:rk L tl){s}{l}{t}(a:tl[t]?=.b l):rk (L++[((s,t),.cc)]) (tl++[s::l]):=by
 calc(.c (.eu ?_)<|by have:=Q.len;simp;lia);let h|||h:=.c7 D
 .let[V,B,M]:=Q.ok x h;show(.g V (by rw[kO<|.aw B];show B)<|by rw[kO<|.aw M];show M)
 .rw[.d4 h];show(.g l (by rw[kO<|.aw a];show a) .f)
def ahp(C:af):bT:=λi O K=>∃(a n b h:af) (g:_) (Y:_) (l:_) (f:_) (d:_) (L:NL) (p:Sym->Prop),i=[.T,cV l,.p n]/\O=[(.eD a C g Y),(b,rj f),(h,ai d),(n,oM L)]/\fl g Y .mp=.K b/\fl g Y "rests"=.K h/\.ax<=8/\(∀s∈l,p s)/\iW f d/\rk L f/\.bh .kK/\(∀l∈f,∀s∈l,p s)/\
 ∀c r e t,iW c r->rk e c->c[t]?=.b l->(∃m,c=f++m/\.gH<=.ax)->(∀l∈c,∀s∈l,p s)->K (aa t) [(.eD a C g Y),(b,rj c),(h,ai r),(n,oM e)]
def ahq:.cd [.cC,.dw,.bb,.c0,.ed,"key"] (.gL .dw .bb) 29 1:=.Q
def ahr(X:.fe P w K):c7 P w K mg base qq.t "number_of" (.gL .dw .bb) (.L<|ahp qq.t) 1:=by
 let S:=ahq;calc X.adi.t S (λ_ _ _ {_,_,_,_,_,_,_,_,_,_,_,e,_}=>.dR) .ja;let[a,n,b,Y,ns,fs,l,tl,rests,L,p,rfl,rfl,l1,Q,h8,hp,tok,B3,ahs,g,k]:=h;let R:=dJ Z;calc .hy 3 (aa 0);refine cu<|aaY (ws:=.bA eh) .e (.k4 (∃(c:.eU) (r:.h) (L':NL) (t:Nat),u=[.cq,.jV l,.K n,.J t,none,none]/\O'=[(.hT qq.t fs),(b,rj c),(Y,ai r),(n,oM L')]/\iW c r/\rk L' c/\c[t]?=.b (l.drop<|.ax-i)/\(∃m,c=tl++m/\.gH<=i)/\(∀l∈c,∀s∈l,p s)) {tl,.af,L,0,rfl,rfl,tok,B3,by rw[anw,U3];show tok.zero,(.i1 [] .f),g}) .bo
 .intro i w _ _ hi [c,r,L',t,rfl,rfl,tJ,rl,B,[m,G,B4],B5];let Ha:i<.ax:=by have:=(.aw hi);simpa using this
  rw[anI<|by simpa using Ha,aj] at hi;let[J,hs,rfl]:=dw hi;let ao3:.c9<=1008:=by rw[G,ez];lia
  have N:l.drop (.ax-(i+1))=J::l.drop (.ax-i):=by
   let e:.ax-(i+1)=.ax-1-i:=.a
   let[V,d]:=.bd hs;rw[e,zy V,d];congr 2;lia
  have NN:=hp J (bb hs);calc(.en _ (.dS 4)<|.cV 5 (fT<|gn J t) (.gh<|ahj J t));let F:∀{L:NL} {O:OM},(n,oM L)∈O->eM O (.p n) (fT<|gn J t) (dU (.bG (.ah<|gn x.1.1 x.1.2)) (.bG (.ah<|aa x.2))<|gn J t):=.aQ (.t (.ge n h) rfl);refine mX (λu O'=>∃(ro:.eU) (W:.h) (M:NL) (k:Nat),u=[.cq,.jV l,.K n,.J t,.kE J,.b (fT<|gn J t)]/\O'=[(.hT qq.t fs),(b,rj ro),(Y,ai W),(n,oM M)]/\iW ro W/\rk M ro/\dU (M.map (.ah<|gn x.1.1 x.1.2)) (M.map (.ah<|aa x.2)) (gn J t)=.J k/\ro[k]?=.rn J (l.drop<|.ax-i)/\(∃m,ro=tl++m/\.gH<=i+1)/\∀l∈ro,∀s∈l,p s)
   (pK R .e .e<|F .g0) .M .M ?_
  .have hn:∀x∈L',gn x.1.1 x.1.2≠gn J t:=λx D hk=>by
    rw[vw] at z;cases e:L'.find? (.ah (.aj (gn x.1.1 x.1.2)<|gn J t)) with
    |none=>show .aa (aom.mp e x D) (by simp[hk])
    |some y=>rw[e] at z;cases z
   let[pk,pw]:=yd (vf:=λx:(Sym×Nat)×Nat=>aa x.2) (w:=aa .c9) hn;let nl:=rl.len;calc iR R (.dH (aa .c9) (.gh .nR)<|.iA _ _ (iQ.t (ks:=L'.map (.ah<|gn x.1.1 x.1.2)) (ws:=L'.map (.ah<|aa x.2)) (k:=gn J t) rfl .nd .qY) ?_);rw[pk,pw];calc .mm b (.e5<|.cX _ .iD .nd ?_);refine .mm Y<|.e5 (.cX _ (.hV .bF) (by rw[aj,tJ.len];show lt_size .a)<|.a2 {c++[J::l.drop (.ax-i)],r++[t],L'++[((J,t),.c9)],.c9,rfl,?_,ahn tJ B,aho rl B,?_,.f,(.g (m++[J::l.drop (.ax-i)]) (by rw[G,eZ]) .dV),λl' Qx s Hc=>?_})
   .rw[oM,bo,bo,rj,bo,ai,bo];rfl
   .calc val_inj (kf:=λx:(Sym×Nat)×Nat=>gn x.1.1 x.1.2) (vf:=.ah<|aa x.2) (x:=((J,t),.c9)) (λy T e=>?_) .f rfl;let h|||h:=.c7 T
    .show .aa e (hn y h)
    .show .d4 h
   .let h|||h:=.c7 Qx
    .show B5 l' h s Hc
    .rw[.d4 h] at Hc;let h|||h:=.c6 Hc
     .rw[h];show NN
     .show hp s (U4 h)
  .cases Hd:dU (L'.map (.ah<|gn x.1.1 x.1.2)) (L'.map (.ah<|aa x.2)) (gn J t) with
   |none=>rw[Hd] at z;cases z
   |some w'=>let[y,T,hyk,rfl]:=abN Hd;let[e1,C]:=ahk hyk;let[l',V,d]:=rl.ok y T;rw[C,B] at V;cases V;show{c,r,L',y.2,rfl,rfl,tJ,rl,Hd,by rw[d,e1],(.g m G .a),B5}
  .intro _ _ [ro,W,M,k,rfl,rfl,I,a2,o,a4,a5,a6];show .qa 3 (.mn R<|o▸F .g0) (.a2 {ro,W,M,k,rfl,rfl,I,a2,by rw[N];show a4,a5,a6})
 .intro _ _ [c,r,L',t,rfl,rfl,tJ,rl,B,[m,G,B4],B5];rw[Um,aj,Dy,Dd] at B;rw[Um,aj] at B4;show .gn (k c r L' t tJ rl B (.g m G B4) B5)
def lh(tl:.eU)(rests:.h)(k b:Nat):=.mO k (λt=>mZ .af b t<|.gm t)
def nu(tl:.eU)(rests:.h)(k c:Nat):=.mO k (λt=>m_ .af c t<|.gm t)
def Qy tl rests k b:lh tl .af (k+1) b=lh tl .af k b++(mZ .af b k<|.gm k).toList:=by grind[lh,lH]
def Qz tl rests k c:nu tl .af (k+1) c=nu tl .af k c++(m_ .af c k<|.gm k).toList:=by grind[nu,lH]
structure rp(g:aQ)(ns:Nat)(tl:.eU)(rests bM:.h):Prop where
 tok:iW tl .af
 len:bM.length=.bf
 rule:∀(i:Nat) (r:bw) (t:Nat),.B[i]?=.b r->.vc
 bS:.bh .cc
 syms:∀l∈tl,∀s∈l,(.bu (s=.eW)<|b<.o)/\.jT (s=.fN) (hi<ns/\lo<=hi)
structure et(g:aQ)(ns:Nat):Prop where
 wf:.gP
 nons:0<.o/\.o<=20
 rules:.bf<=60
 rhs:∀r∈g.rules,.jO<=8
 mH:∀r∈g.rules,.jT (gA lo hi∈.O)<|hi<ns/\lo<=hi
 bS:ns<=256
def aht{rs:.b2}(Z:rs[i]?=.b r)(d:.cU=i) a:ek (rs.take<|i+1) (b++[t]) a=ek (rs.take i) b a++(.ea (.C=a) [t] []):=by
 let[B,M]:=.bd Z;unfold ek;rw[dX B,M,Jp .d];by_cases e:.C=a
 .simp[e]
 .simp[e]
def yN(g:aQ)(bM:.h):Nat->W:=λa=>ai<|ek .B bM a
def B6(tl:.eU)(rests:.h):Nat->W:=.bw (bV<|qV tl .af b)
def B7(tl:.eU)(rests:.h):Nat->W:=.bg (bV<|k9 tl .af c)
def pY(C:af)(g:aQ)(ns:Nat)(tl:.eU)(rests bM:.h):W:=.dP tF [rj tl,ai .af,.Z<|aX (yN g bM) .o,ai bM,.Z<|aX (B6 tl .af) .o,.Z<|aX (B7 tl .af) ns]
def vU{tl:.y _}{t:Nat}(h:tl[t]?=.fS s):(tl.map Qw)[t]?=.kE s:=by rw[bG,h];rfl
def B8:.aR .bq->W
 |some (.non k::_)=>aa k
 |_=>.non
def ahu(C:af):=f_ λd r=>∃g e c b a t s l,d=[pY C g e c b a,aa t]/\c[t]?=.fS s/\r=B8 (.fS s)
def ahv:.cd (.gL .c0 .ed) (.ca .c0) 29 2:=.Q
def ahw(X:.aq d i c):c7 P w K d i c.t "head_first" (.ca .c0) (.L<|ahu c.t) 1:=by
 let S:=ahv;calc X.adj.t S .wN .sy;let[rfl,_,[g,m,p,b,a,t,J,l,rfl,B,rfl],k]:=h;let e:=vU B;calc .iB 2;cases J with
 |non j=>show .m4 true .aH (.P .lo) .aV
 |range q o=>show .m4 .j .aH .aV (.P .lo)
def oS{p Q:.bL}(B:x=x')(M:y=e):a::r::A::(p.zip x++(Q.zip y++[]))=a::r::A::(p.zip x'++(Q.zip e++[])):=by rw[B,M]
def ahx(C:af):bT:=λh O K=>∃(a J G:af) (d:.a7) (Y:.aT) (p Q:.bL) (e:.eU) (c:_),h=[.T]/\fl d Y .mp=.b (rj e)/\fl d Y "rests"=.bY c/\fl d Y "by_head"=.K J/\fl d Y "by_class"=.K G/\
 O=(.eD a C d Y)::(.dy J<|p.map .c4)::(.dy G<|Q.map .c4)::(p.zip (bL .jW .iy)++(Q.zip (bL .lv .iy)++[]))/\iW e c/\.bh .fC/\(∀l∈e,∀s∈l,(.bu (s=.eW)<|b<.jW)/\∀g f,s=.eb g f->f<.lv/\g<=f)/\.bh .lv/\
 K .non ((.eD a C d Y)::(.dy J<|p.map .c4)::(.dy G<|Q.map .c4)::(p.zip (aX (B6 e c) .jW)++(Q.zip (aX (B7 e c) .lv)++[])))
def ahy:.cd [.cC,.c0,.ed,"pair",.iV] .e4 29 3:=.Q
def ahz(X:.fe P w K):c7 P w K mg base qq.t "sort_by_first" .e4 (.L<|ahx qq.t) 1:=by
 let S:=ahy;calc X.adk.t S .sq .gd;let[a,ha,ca,ns,Y,p,Q,N,D,rfl,l1,l2,l3,l4,rfl,l,ahs,r,hc,k]:=h;let t0:=(.aw l.zero);refine cu<|om (m:=1) (n:=N.length) .e (.gh .bV) .a .a (.k4 (u=[.fU,none,none,none,none]/\O'=(.hT qq.t Y)::(.dy ha<|p.map .c4)::(.dy ca<|Q.map .c4)::(p.zip .xM++(Q.zip (aX (.bg (bV<|nu N D (1+i) c)) .lv)++[]))) .iM) .bo
 .rw[sW,sW];let e0:N.getD 0 []=[]:=by rw[cK,l.zero];rfl
  show oS (j_ λi _=>by change _=bV (lh N D (0+1) i);rw[Qy,e0];rfl) (j_ λi _=>by change _=bV (nu N D (0+1) i);rw[Qz,e0];rfl)
 .intro i w _ _ hi [rfl,rfl];let[hi,rfl]:=iS hi;let[J,l',M,q2,q3]:=l.step (1+i) .a .a;let L:=vU M;let C:=fo (i:=1+i) (by rw[l.len];lia);let G:N.getD (1+i) []=J::l':=.fM
  let[y1,y]:=r _ (bb M) J .f;calc(.en _ (.dS 1)<|.iB 2);calc .hy 3 (fh (1+i,.jp<|1+i));let QA:∀b,lh N D (1+(i+1)) b=lh N D (1+i) b++(mZ D b (1+i)<|J::l').toList:=.bw (by rw[<-G];show Qy N D _ b)
  let QB:∀b,nu N D (1+(i+1)) b=nu N D (1+i) b++(m_ D b (1+i)<|J::l').toList:=.bw (by rw[<-G];show Qz N D _ b)
  let o:∀b,.bh (.m<|lh N D (1+i) b):=.bw (by have:=qu (λt=>mZ D b t<|N.getD t []) (aq<|1+i);rw[mE] at this;unfold lh;lia)
  let ahA:∀b,.bh (.m<|nu N D (1+i) b):=.bw (by have:=qu (λt=>m_ D b t<|N.getD t []) (aq<|1+i);rw[mE] at this;unfold nu;lia)
  cases J with
  |non j=>
   let I:=y1 j rfl;let g:=cf I;let r2:(p.map .c4)[j]?=.K (p[j]):=.bV
   let R:=ie (f:=.bw (bV<|lh N D (1+i) b)) I;calc .zB;calc .pH (p[j]) (.oG<|.fy (bR.zip (d:=.non) g R).mem) (.e5 (.cX _ (.hV (.there<|bR.zip g R)) (.nx .d)<|.eG .iM));rw[qU];calc oS (j_ .om) (j_ λb _=>by rw[QB];simp[m_]);rw[QA];by_cases e:b=j
   .subst e;rw[.gO,bV,bo];simp[mZ]
   .rw[.bU];simp[mZ,i6 e]
  |range T V=>
   let[x,B]:=y T V rfl;calc .yA;let ahB:.xM=.wM:=j_ λb _=>by rw[QA];simp[mZ]
   rw[ahB];refine cu<|om (m:=T) (n:=V+1) .e .e .a .a (.gD (λj u O'=>u=[.cq,.J<|1+i,.kE<|.eb T V,.b<|fh (1+i,.jp<|1+i),none]/\O'=(.hT qq.t Y)::(.dy ha<|p.map .c4)::(.dy ca<|Q.map .c4)::(p.zip .wM++(Q.zip (aX .uO .lv)++[]))) .iM) .bo
   .show oS rfl (j_ λc _=>by rw[.cD,eS])
   .intro j w _ _ I [rfl,rfl];let[I,rfl]:=iS I;let B9:T+j<.lv:=.a
    let g:Q[T+j]?=.b (Q[T+j]):=cf B9;let r2:(Q.map .c4)[T+j]?=.K (Q[T+j]):=by rw[bG,g];rfl
    let R:=ie (f:=.uO) B9;rw[.cD,eS] at R;calc(.fL _ _ 4);calc .pH (Q[T+j]) (.oG<|.fy (bR.skip _<|bR.zip (d:=.non) g R).mem) (.e5<|.cX _ (.hV<|.there (bR.skip _<|bR.zip g R)) (.nx<|.dJ (ahA<|T+j)) .hp);rw[qU];calc oS rfl (j_ λc _=>?_);by_cases e:c=T+j
    .subst e;rw[.gO,.hf,bV,bo];rfl
    .rw[.bU];by_cases C:T<=c/\c<T+j
     .rw[.r C,.hf]
     .rw[.x C,.cD]
   .intro _ _ [rfl,rfl];calc .eG .iM;calc oS rfl (j_ λc _=>?_);rw[QB,show(.m (cq T<|V+1-T))=V+1-T by simp[cq]];by_cases C:T<=c/\c<=V
    .rw[.hf];simp[m_,C]
    .rw[.cD];simp only[m_,.x C];rfl
 .intro _ _ [rfl,rfl];let e:1+(.m (cq 1<|N.length-1))=N.length:=.lS
  rw[e];show .j6 k
def ahC(C c:af):bT:=λf O K=>∃a g D Q,f=[.T,cC c g D Q]/\O=[(.eD a C [] [])]/\et g .hJ/\∀e d b,rp g .hJ e d b->K .non [(a,pY C g .hJ e d b)]
def ahD:.cd [.cC,.ap,.an,.bb,.dw,"sign"] .kj 29 0:=.Q
theorem ahE(X:.fe P w K):mR P w K mg base qq.t "Tails" .kj (.L<|ahC qq.t qq.g) 2:=by
 let S:=ahD;calc X.adl.t X.adm S .jJ λf v A U s H E ws O F hr h=>?_;let[a,g,D,co,rfl,rfl,gok,k]:=h;let[u,n0,P',h8,hrg,ao4]:=gok;calc d_ X.iV.cl (.pX _) (bY (.g2<|.ft λfa=>.gY));calc d_ X.iV.cl (.pX _) (bY (.g2<|.ft λra=>.gY));calc .hu a X.iV.cl (.pX _) (.h4 [(.an,2)]<|jG .e .a (.od .iy .lS .xL λwa N hw=>.vN) .bo);simp only[cq,aj,rW] at hw|-;calc d_ X.iV.cl (.pX _) (bY<|.m0 λba=>.gY);calc .ba 3 (vn λn=>?_);let pm:∀{x1 x2 x3 y x x6:af×W} {Z:OM},(((x1::x2::x3::y::Z)++[x])++[x6]).Perm (x1::x2::x3::x6::x::y::Z):=λ{x1 x2 x3 y x x6 Z}=>by let B:(Z++[x]++[x6]).Perm (x6::x::Z):=.aA (fX) ((fX (l₂:=[x])).cons _);show((.aA (B.cons y) (uw (l₁:=[x6,x])).symm).cons x3|>.cons x2|>.cons x1)
 refine ar.perm pm ?_;rw[sW];refine .jy<|lp (λi Γ O'=>∃tl z C L,Γ=[.fU,.jt g D co,none,.fU,none,none]/\O'=(.eD a qq.t [.mp,"rests","wholes","by_rule"] [.p fa,.p ra,.p wa,.p ba])::(fa,rj tl)::(ra,ai z)::(n,oM L)::(ba,ai C)::(.dy wa<|N.map .c4)::N.zip (aX (λa=>ai<|ek .mM C a) .o)/\iW tl z/\rk L tl/\C.length=i/\(∀(j:Nat) (r:bw) t,.mM[j]?=.b r->C[j]?=.b t->tl[t]?=.b .O)/\.cc<=1+8*i/\∀l∈tl,∀s∈l,(.bu (s=.eW)<|b<.o)/\.jT (s=.fN) (hi<.hJ/\lo<=hi))
  (.pe {[[]],[0],[],[],rfl,rfl,ahm,ahl,rfl,.f,.f,.f}) ?_ ?_
 .intro i w _ _ hi [tl,z,C,L,rfl,rfl,tok,B3,T,He,o,B_];let[r,c,rfl]:=dw hi;let[j1,j2]:=.bd c;let rm:=bb c;let jc:=u.lhs r rm;calc(.gS _ _ 2 4);calc b_ (fG .e .g0 (.ue (ahr X) X.iV.cl .ha .bV rfl<|.g9 {[_,_,_,_],_,rfl,a,n,fa,ra,_,_,.O,tl,z,L,_,rfl,rfl,rfl,rfl,h8 r rm,λs hs=>(.c (λb e=>u.non r rm b<|e▸hs) (λlo hi e=>hrg r rm lo hi<|e▸hs)),tok,B3,.a,B_,λtl' ahF L' t tJ rl ht hm ahG=>(.cX _ (.kv .bF) .bV ?_)}));let[m,rfl,B4]:=hm;let M:N[.C]?=.b (N[.C]):=cf _;let q2:(N.map .c4)[.C]?=.K (N[.C]):=.bV
  let q3:=ie (f:=λa=>ai<|ek .mM C a) jc;let q4:=K7 (C.map aa) (aa t);let ao5:.ae (ek .mM C .C) 60:=by have:=qu (λp:bw×Nat=>.f8 (p.1.lhs=.C) p.2) ((.mM).zip C);rw[uu] at this;unfold ek;lia
  let G:=bR.zip (R:=[]) (d:=.eK (.cp<|ek .mM C .C) [aa t]) M q3;rw[eS,eS] at G;refine .pH (N[.C]) (.oG (.oG<|.oG G.mem))<|XV.xe (.kH q4) (.cX _ (.kv<|.hV G) .bV<|.a2 {tl++m,ahF,C++[t],L',rfl,?_,tJ,rl,by simp[T],λj r' t' V g2=>?_,?_,ahG})
  .rw[qU,show ai (C++[t])=.eK (C.map aa) [aa t] by rw[ai,bo];rfl];rw[.bX (aX (λQC=>.A (QC=.C) (.c5<|.cp (ek .mM C .C)++[aa t]) (ai<|ek .mM C QC)) .o=aX (λa=>ai<|ek (g.rules.take<|i+1) (C++[t]) a) .o)<|j_ .om];rw[aht c T];by_cases e:b=.C
   .subst e;rw[.gO,.gO,ai,bo];rfl
   .rw[.bU,.x<|i6 e,eS]
  .rw[dX j1,j2] at V;by_cases I:j<i
   .rw[kO .lV] at V;rw[kO .a] at g2;have:=He j r' t' V g2;rw[kO<|.aw this];show this
   .let lj:=(.aw g2);rw[ez,T] at lj;let ej:j=i:=by simp at lj;lia
    subst ej;rw[zV .lV] at V;rw[zV .a] at g2;let e1:j-(.m<|g.rules.take j)=0:=.lV
    rw[e1] at V;rw[T,Dy] at g2;cases V;cases g2;show ht
  .have:=h8 r rm;rw[ez];lia
 .intro _ _ [tl,z,C,L,rfl,rfl,tok,B3,T,He,o,B_];rw[aj,eP] at*;calc ar.ye (R1:=[]) 0 rfl (ar.ye (R1:=[]) 1 rfl<|ar.ye (R1:=[(n,oM L)]) 3 rfl ?_);rw[<-eS<|N.zip _];calc ar.Bt (R1:=[(n,oM L)]) (R2:=[]) (R3:=[]) 2 rfl (by rw[oA,hw]) ?_;calc ar.drop (O1:=[_]) (O2:=[(n,oM L)]) ?_;calc .hu a X.iV.cl (.pX _) (.h4 [(.an,2)]<|.mw .o (.od .iy .lS .xL λJ hqs hq=>.vN) .bo);simp only[cq,aj,rW] at hq|-;calc .hu a X.iV.cl (.pX _) (.h4 [("sign",5)] (.lP<|.od .iy .qL (.po (.pu 5) (bY<|.m0 .bs)) λca Q hc=>{.e,_,_,_,_,_,.ki .bF,.nw,.V,?_}));rw[aj] at hc|-;let pm2:∀{x1 x2 x3:af×W} {Z Y:OM},(Y++((x1::x2::Z)++[x3])).Perm (x1::x2::x3::(Z++(Y++[]))):=λ{x1 x2 x3 Z Y}=>by rw[eS];calc fX.trans ?_;let B:((Z++[x3])++Y).Perm (x3::(Z++Y)):=(fX (l₂:=[x3])).append_right Y;show(B.cons x2).cons x1
  calc ar.perm pm2 ?_;calc b_ (Bd (ahz X) X.iV.cl .ha .e (.cE a) rfl<|.ay {a,J,ca,_,_,hqs,Q,tl,z,rfl,rfl,rfl,rfl,rfl,by rw[hq,hc];rfl,tok,.a,by rw[hq,hc];show B_,.a,?_});rw[hq,hc];calc ar.Bt (R1:=[]) (R2:=[_]) 4 rfl (by rw[oA,hq]) ?_;calc ar.Bt (R1:=[]) (R2:=[]) (R3:=[]) 5 rfl (by rw[oA,hc]) ?_;show .j6 (k tl z C<|.I tok T He .a B_)
def QD{z y}:z∈bD F y↔z∈F\/z=y:=by
 unfold bD;split
 .rename_i h;show(.c .inl (.bO<|q.elim id λe=>e▸h))
 .simp
def QE(h:F.Nodup):(.a9<|bD F y):=by
 unfold bD;split
 .show h
 .rename_i q;rw[jU];show(.i1 h .wz)
def mj:∀{L F:.S},z∈L.foldl bD F↔z∈F\/z∈L
 |[],F=>.f
 |y::L,F=>by rw[cW,mj,QD,cw];show or_assoc
def vV:∀{L F:.S},F.Nodup->(.a9<|L.foldl bD F)
 |[],_,h=>h
 |_::L,_,h=>vV (L:=L)<|QE h
def QF:∀{L F:.S},(∀z∈L,z∈F)->L.foldl bD F=F
 |[],_,_=>rfl
 |y::L,F,h=>by rw[cW,.bX (bD F y=F) (.r<|h y .di)];show QF λz a=>h z (.fy a)
def QG:.aE<=(.m<|bD F y)/\(y∉F->.aE<(.m<|bD F y)):=by
 unfold bD;split
 .rename_i h;show(.c .ao (.bO<|.aa h q))
 .simp
def Hf:∀{L F:.S},.aE<=(.m<|L.foldl bD F)
 |[],_=>.ao
 |_::L,_=>bC QG.1<|Hf (L:=L)
def QH:∀{L F:.S},(∃z∈L,z∉F)->.aE<(.m<|L.foldl bD F)
 |[],_,⟨_,h,_⟩=>.iL
 |y::L,F,⟨z,a,t⟩=>by
  rw[cW];by_cases q:y∈F
  .rw[.bX (bD F y=F) .dF];calc QH (.g z ?_ t);let rfl|||h:=.c6 a
   .show .aa q t
   .show h
  .show fO (QG.2 q) (Hf (L:=L))
def rr{G:.S}{n:Nat}(N:G.Nodup)(h:∀z∈G,0<=z/\z<n):.dW<=n:=by
 let e:(.a9<|.cW zX):=by unfold zZ;rw[o9];calc JO (λ{a b} J Y U e=>U ?_) N;have:=h a J;have:=h b Y;lia
 have:=iq e (n:=n) (.bS<|by let[z,c,rfl]:=.Y L;have:=h z c;lia)
 simpa using this
def ml(F:.eV)(bs:.ij):.bq->Int->Prop
 |[],_=>False
 |.range b a::_,z=>b<=z/\z<=a
 |.non k::l,z=>z∈F k\/.n (.jm k)/\ml F bs l z
def vW{F:.eV}{bs:.ij}{z}:∀{l:.bq},ml F bs l z↔∃o s U,l=o++s::U/\(∀y∈o,∃k,y=.non k/\.n (.jm k))/\match s with
  |.range lo hi=>lo<=z/\z<=hi
  |.non c=>z∈F c
 |[]=>(.c (λh=>h.elim) λ{o,s,U,e,_}=>by cases o<;>cases e)
 | .range lo hi::l=>by
  walk
  .intro h;show(.ab [] .fN l rfl .f h)
  .intro[o,s,U,e,B,M];cases o with
   |nil=>cases e;show M
   |cons y o=>cases e;let[k,e,_]:=B _ .di;cases e
 | .non c::l=>by
  walk
  .rintro(h|⟨Y,h⟩)
   .show(.ab [] (.non c) l rfl .f h)
   .let[o,s,U,rfl,B,M]:=vW.mp h;calc(.ab (.non c::o) s U rfl (.d2 ?_) M);let rfl|||T:=.c6 T
    .show(.aX c Y)
    .show B y T
  .intro[o,s,U,e,B,M];cases o with
   |nil=>cases e;show .z M
   |cons y o=>cases e;let[k,e,Y]:=B _ .di;cases e;show .F (.c Y (vW.mpr<|.ab o s U rfl (.d2 (B y<|.fy T)) M))
abbrev bN(r:af)(qs:.bL)(F:.eV):OM:=(.dy r .hD)::.iv (.kC (F h) .li)
def Hg{qs:.bL}{f}{k} h:(qs[k],f k)∈.iv (aX f .li):=by have:(.iv<|aX f .li)[k]?=.be (qs[k]) (f k):=JR.mpr (.c (cf h)<|ie h);show bb this
def ahH:bT:=λe O f=>∃l r a F b n,e=[cV l,.p r,dR b]/\O=bN r a F/\.ax<=8/\n<=256/\(.aM<|c5 k∈l->k<.bE/\k<.cU)/\(∀d c,gA d c∈l->c<n/\d<=c)/\(∀h,h<.bE->(.a9<|F h)/\∀z∈F h,0<=z/\z<n)/\∀G:.S,G.Nodup->(∀z,z∈G↔ml F b l z)->(∀z∈G,0<=z/\z<n)->∀p,f .aG ((p,aS G)::bN r a F)
def ahI:.aI [.dw,.mp,"hollow",.ke,.ed,.iV] [.dw,.mp,"hollow"] 68:=.Q
theorem QI(X:.fe P w K):bq P w K mg base "first_of_row" [.dw,.mp,"hollow"] (.L ahH) 1:=by
 let S:=ahI;calc X.adn.t S .rk .ja;let[l,r,qs,F,b,n,rfl,rfl,hl,t,hk,hg,hF,k]:=h;let R:=dJ Z;calc .ba 3 (mS .hQ);let fin:∀{Γ:Gm} {G:.S},Γ[3]?=.m3 p->G.Nodup->(∀z,z∈G↔ml F b l z)->(∀z∈G,0<=z/\z<n)->Dr Kk .aG (.e3++[(p,aS G)]):=λ{Γ G} _ B M h3=>(.q ((p,aS G)::.e3) [] (by rw[eS];show fX)<|k G B M h3 p);refine cu (.jz (cV l)<|.k3 (∃G:.S,Γ=[.jV l,.K r,.qu b,.K p,none,none]/\O'=.e3++[(p,aS G)]/\G.Nodup/\(∀z∈G,0<=z/\z<n)/\∀z,(z∈G\/ml F b (l.drop i) z)↔ml F b l z) (.ab [] rfl rfl .f .f<|.s .f))
 .intro i w _ _ hw [G,rfl,rfl,N,x,hm];let[y,T,rfl]:=dw hw;let ym:=bb T;let d:l.drop i=y::l.drop (i+1):=by let[B,M]:=.bd T;rw[zy B,M]
  rw[d] at hm;let gl:=rr N x;calc(.fL _ _ 4);cases y with
  |range D hi=>
   let V:=hg D hi ym;calc .kP .aH;refine cu<|om (m:=D) (n:=hi+1) .e .e .a .a (.gD (λj Γ O'=>∃g:.S,Γ=[.jV l,.K r,.qu b,.K p,.kE<|.t4 D,none]/\O'=.e3++[(p,aS g)]/\g.Nodup/\∀z,z∈g↔z∈G\/((D:Int)<=z/\z<D+j/\z<=hi)) (.aW G rfl N<|.s (.da .inl<|h.elim id (.aQ .a)))) .bo
   .rintro j w _ _ I ⟨g,rfl,rfl,Y,a⟩;let[J,rfl]:=iS I;let gl':=rr Y (n:=256) λz hz=>by
     let h|||h:=(a z).mp hz
     .have:=x z h;lia
     .lia
    calc(.fL _ _ 5);calc .o5 p R .gj (.iA _ _ (yc (z:=(.cj<|D+j)) (.ki .bF) .a) (.a2<|.aW _ rfl (QE Y) .M));rw[QD,a];walk
    .rintro((h|h)|rfl)
     .show .ex
     .show .F .a
     .show .F .a
    .rintro(h|h)
     .show .z .ex
     .by_cases e:z=(.cj<|D+j)
      .show .F e
      .show .z (.F .a)
   .intro _ _ [g,rfl,rfl,Y,a];let o:(.m (cq D<|hi+1-D))=hi+1-D:=.oY
    rw[o] at a;let hm2:∀z,z∈g↔ml F b l z:=.s (by
     rw[a,<-hm z];change _↔z∈G\/((D:Int)<=z/\z<=hi);walk
     .rintro(h|h)
      .show .ex
      .show .F .a
     .rintro(h|h)
      .show .ex
      .show .F .a)
    exact .f3 .aG (fin (Γ:=.tg) rfl Y hm2 λz hz=>by
     let h|||h:=(a z).mp hz
     .show x z h
     .lia)
  |non c=>
   let[Q,C]:=hk c ym;let q1:.hD[c]?=.K (qs[c]):=.jN (cf Q)
   let q2:=Fv (bs:=b) C;let fl:=rr (hF c Q).1 (hF c Q).2;calc .mj .aH;let QJ:=vV (L:=F c) N;let QK:∀z∈.ei (F c) bD G,0<=z/\z<n:=λz hz=>(mj.mp hz).elim (x z) ((hF c Q).2 z);calc b_ (yg (q:=p) (F0:=G) .e (gT _ .di)<|.g1 (.p<|qs[c]) {G,F c,.e3,[],rfl,.ge _<|by rw[eS];show .fy (Hg (f:=.aQ (aS<|F h)) Q),.a,?_});refine .sk (! .i4 c .j) .aH .M .M
   .let z:.i4 c .j=.j:=.pC
    calc .f3 .aG (fin (Γ:=.tg) rfl QJ .fH QK);rw[mj,<-hm y];change _↔.wL;rw[z];simp
   .let z:.n (.i4 c .j):=.pC
    calc .a2 (.ab _ rfl rfl QJ QK .fH);rw[mj,<-hm y];change(y∈G\/y∈F c)\/_↔.wL;rw[z];simp[or_assoc]
 .intro _ _ [G,rfl,rfl,N,x,hm];rw[aj,U3] at hm;show .f3 .aG (fin (Γ:=.tg) rfl N (.s<|by rw[<-hm z];show(.da .inl<|h.elim id λh=>h.elim)) x)
def QL f(a x:Nat):∀n,a<n->(.lu n<|.aQ (.A (h=a) x<|f h))+f a=(.lu n f)+x
 |0,h=>.a
 |n+1,h=>by
  rw[lH,bo,bo,UT];by_cases e:a=n
  .have:.dt a (.aQ (.A (h=a) x<|f h))=.dt a f:=dG λh V=>.x .d;lk
  .have:=QL f a x n .a;lk
def QM(h:∀a,a<n->f a<=m):(.lu n f)<=n*m:=by
 induction n with
 |zero=>simp
 |succ n E=>rw[lH,bo];let B:=E λa J=>h a .a;let M:=h n .a;simp;rw[JS];lia
def sumF(n:Nat)(F:.eV):=(.lu n<|.aQ (.m<|F h))
def eN(F:.eV)(a:Nat)(G:.S):.eV:=.aQ (.A (h=a) G<|F h)
def ahJ(h:a<n):sumF n (eN F a G)+(.m<|F a)=sumF n F+.dW:=by unfold sumF eN;have:=QL (.aQ (.m<|F h)) a .dW n h;lk
structure tK(g:aQ)(n:Nat)(F:.eV):Prop where
 nd:∀h,(.a9<|F h)
 so:∀h,h<.o->∀z∈F h,∃b:Nat,z=b/\b<n/\gb g h b
def tK.len(h:tK g n F)(J:a<.o):.ae (F a) n:=rr (h.nd a) λz c=>by let[b,rfl,Y,_]:=h.so a J z c;lia
def vX(u:.gP)(Z:r∈.B)(T:y∈.O):(∃k,y=.non k/\.n ((.gu).getD k .j))↔gN g y:=by
 walk
 .intro[k,rfl,h];show(.aX k ((vN g .j k).mp h).2)
 .intro[k,rfl,h];show(.aX k ((vN g .j k).mpr<|.c (u.non r Z k T) h))
def ahK(Q:et g n)(Y:tK g n F)(Z:ip g r)(h:ml F .gu .O z):∃b:Nat,z=b/\b<n/\gb g .C b:=by
 let[o,s,U,e,B,M]:=vW.mp h;let R:=.d2 ((vX Q.wf Z.1 .d).mp<|B y T);cases s with
 |range d a=>have:=(Q.mH r Z.1 d a .d).1;refine(.q z.toNat .a .a<|.byte Z e R .a .a)
 |non c=>let[b,rfl,f,J]:=Y.so c (Q.wf.non r Z.1 c .d) z M;show(.dB b f<|.non Z e R J)
def ahL(Q:et g n)(cl:∀r,ip g r->.tf)(J:gb g h b):.kf∈F h:=by
 induction J with
 |@byte r o U a d b Z e R B M=>show cl r Z b (vW.mpr {o,_,U,e,.xK,.a,.a})
 |@non r o U c b Z e R _ E=>show cl r Z b (vW.mpr<|.ab o _ U e .xK E)
structure QN(g:aQ)(F:.eV):Prop where
 nd:∀h,(.a9<|F h)
 mem:∀h,h<.o->∀z,z∈F h↔∃b:Nat,z=b/\gb g h b
def ahM(C:af):bT:=λc O b=>∃g n D Q,c=[cC C g D Q,dR .gu]/\O=[]/\et g n/\∀r a F,.bE=.o->QN g F->tK g n F->b (.p r) (bN r a F)
def ahN:.aI [.ap,"hollow",.hn,.an,.mp,"changed",.dw,"size"] [.ap,"hollow"] 69:=.Q
theorem ahO(X:.fe P w K):bq P w K mg base "first_classes" [.ap,"hollow"] (.L<|ahM qq.g) 4:=by
 let S:=ahN;calc X.ado.t S .jJ .ja;let[g,n,D,co,rfl,rfl,Q,k]:=h;let hu:=dJ Z;let vY:=Q.nons.2;let bS:=Q.bS;calc .cV 2 (dn<|hC g) (.j8 (P_ X)<|.iq #[g,D,co,rfl,Q.wf,vY,Q.rules,rfl]);calc .l0 4 S.nd [(.an,3)] (.mw .o (.od (aS []) .lS (.po (.pu 3)<|mS .bs) λr y hq=>ar.perm fX ?_) .bo);simp only[cq,aj,rW] at hq|-;rw[<-hq,sW];calc ar.fg (o:=[.jt g D co,.p1,.jo<|hC g,none,.K r,none,none,none]) (by tm_at "fg") ?_;calc .hy 5 .gj;calc .oc (2*(.o*n-sumF .o (.P []))+1) (λm u O'=>∃(F:.eV) (T:Bool),.uN/\O'=bN r y F/\tK g n F/\m=2*(.o*n-sumF .o F)+(.dq T)/\(T=.j->∀r,ip g r->.tf)) (.kV (.P []) true rfl (.c (.P .f) .f) rfl .aV) ?_;intro m _ _ [F0,T,rfl,rfl,yO,rfl,cl];refine(.q T .aH .M .M)
 .subst z;calc .hy 5 (.bl .j);let s0:sumF .o F0<=.o*n:=QM λa J=>yO.len J;refine cu<|.jz (dn<|hC g) (.k4 (∃(F:.eV) (T:Bool),.uN/\O'=bN r y F/\tK g n F/\(.n T->sumF .o F0<sumF .o F)/\(T=.j->F=F0/\∀j r,j<i->(hC g)[j]?=.b r->.tf))<|.kV F0 .j rfl yO .aV (.P<|.aY λj r h=>.a))
  .intro i w _ _ hi [F,T,rfl,rfl,Y,B,M];let[t,gO,rfl]:=dw hi;let pr:=(yJ Q.wf).mp (bb gO);let jc:=Q.wf.lhs t pr.1;let N:t.lhs<y.length:=.a
   let q1:(y.map .c4)[t.lhs]?=.K (y[t.lhs]):=.jN (cf N)
   let zm:=Hg (f:=.aQ (aS<|F h)) N;calc(.gS _ _ 3 6);calc .cV 7 (aa<|.m .mL) (.bi (Bx (b:=(.mL).map aW) .bo (w:=.p<|y[t.lhs]) .e (.ge _<|.fy zm))<|by rw[aj]);let ao6:(.m .gu)=.o:=by simp[c8]
   refine b_<|yg (q:=y[t.lhs]) (F0:=.mL) .e (.fy zm) (.gl (QI X)<|.df (.g9<|.ay {t.rhs,r,y,F,.gu,n,rfl,rfl,Q.rhs t pr.1,bS,λc hc=>.dJ<|Q.wf.non t pr.1 c hc,λlo hi V=>Q.mH t pr.1 lo hi V,λh V=>(.c (Y.nd h) λz o=>by let[b,rfl,hb,_]:=Y.so h .a z o;lia),λG gd gm gz p=>?_}));let gl:=rr gd gz;let fl:=Y.len jc;let[A',B',e1,C]:=(bR.zip (R:=[]) (d:=aS .iP) (cf N)<|.n9 (aS<|F h) N).split;rw[eS] at e1 C;calc{.mL,G,(p,aS G)::(.dy r<|y.map .c4)::A',B',by rw[bN,e1];rfl,.ge p .di,.a,?_};rw[show(p,aS G)::(r,.c5<|y.map .c4)::A'++(y[t.lhs],aS .iP)::B'=[(p,aS G)]++bN r y (eN F t.lhs .iP) by
    change(p,aS G)::(r,.c5<|y.map .c4)::(A'++(y[t.lhs],aS .iP)::B')=_;rw[<-C,qU,bN];have:aX (λi=>.A (i=t.lhs) (aS .iP) (aS<|F i)) y.length=.kC (eN F t.lhs .iP h) y.length:=j_ λi _=>by unfold eN;split<;>rfl
    rw[this];rfl];calc ar.perm fX (ar.drop ?_);let zm2:=Hg (f:=.aQ (aS<|eN F t.lhs .iP h)) N;let self:eN F t.lhs .iP t.lhs=.iP:=.gO;let sum:=ahJ (F:=F) (G:=.iP) jc;let le:=Hf (L:=G) (F:=.mL);let fs2:tK g n (eN F t.lhs .iP):=(.c (.aQ<|by
    unfold eN;split
    .show vV (Y.nd _)
    .show Y.nd h) (λh V z o=>by
    unfold eN at o;split at o
    .rename_i e;subst e;let o|||o:=mj.mp o
     .show Y.so _ V z o
     .show ahK Q Y pr ((gm z).mp o)
    .show Y.so h V z o));calc .cV 5 (.bl (T||.ai (.m .mL) (.m .iP))) (M' .e (.P (.bi (oe (b9.gt (i:=(.jf .iP)) (j:=(.jf .mL))) (.bi (Bx (b:=(eN F t.lhs .iP t.lhs).map aW) .bo (w:=.p<|y[t.lhs]) .e (.ge _<|.fy zm2))<|by rw[aj,self];rfl) .e<|L2.fb _)<|by congr 1;show .iC uv)));let up:sumF .o F0<=sumF .o F:=by
    cases T with
    |true=>show fv (B rfl)
    |false=>rw[(M rfl).1];show .ao
   refine .a2<|.kV _ _ rfl fs2 .M .M
   .let z|||z:=Bool.or_eq_true_iff.mp z
    .have:=B z;lia
    .have:=.ch;lia
   .obtain⟨x,z2⟩:=Dt.mp z;let z2:=.nu z2;let[rfl,h3]:=M x;let sub:∀z∈G,z∈.mL:=λz o=>dW (.bO<|z2 (QH<|.g z o q));let eF:eN F t.lhs .iP=F:=by
     funext h;unfold eN;split
     .rename_i e;rw[QF sub,e]
     .rfl
    rw[eF];calc(.aY λj r' I oz z o=>?_);by_cases e:j=i
    .subst e;rw[gO] at oz;cases oz;show sub z ((gm z).mpr o)
    .show h3 j r' .a oz z o
  .intro _ _ [F,T,rfl,rfl,Y,B,M];let s1:sumF .o F<=.o*n:=QM λa J=>Y.len J;refine .a2 {_,?_,F,T,rfl,rfl,Y,rfl,.M}
   .cases T with
    |true=>have:=B rfl;simp;lia
    |false=>have:=(M rfl).1;subst this;simp
   .let[rfl,h3]:=M z;intro r' pr z o;let[j,I]:=jW ((yJ Q.wf).mpr pr);show h3 j r' (by rw[aj];show(.aw I)) I z o
 .subst z;show .f3 (.p r) (.ay<|k r y F0 hq (.c yO.nd λh V z=>(.c (λo=>by let[b,e,_,hf]:=yO.so h V z o;show(.g b e hf)) λ#[b,e,hf]=>e▸ahL Q (cl rfl) hf)) yO)
def pZ(Wf:.eV)(h:Nat)(G:.h):=G.foldl (λa o=>.ei (Wf o) bD a)<|Wf h
def QO{Wf:.eV}{z}:∀{G:.h} {acc},z∈.te↔z∈acc\/∃o∈G,z∈Wf o
 |[],acc=>.f
 |o::G,acc=>by rw[cW,QO,mj];simp[or_assoc]
def QP{Wf:.eV}:∀{G:.h} {acc},acc.Nodup->(.a9 .te)
 |[],_,h=>h
 |_::G,_,h=>QP (G:=G)<|vV h
def QQ:∀(L F:.S),.ae (L.foldl bD F) (.aE+.hi)
 |[],_=>.f
 |y::L,F=>by
  let B:=QQ L (bD F y);let M:.ae (bD F y) (.aE+1):=by unfold bD;split<;>simp
  rw[cW,dS];lia
def QR{Wf:.eV}{m}:∀{G:.h} {acc},(∀o∈G,.ae (Wf o) m)->.ae .te (acc.length+.dW*m)
 |[],acc,_=>.f
 |o::G,acc,h=>by let B:=QR (G:=G) (acc:=.ei (Wf o) bD acc) λo l=>h o (.fy l);let M:=QQ (Wf o) acc;let A:=h o .di;rw[cW,dS,JS];lia
def ahP:=ib λb c=>∃a n h G,b=[.Z<|aX (λi=>aS<|a i) n,aa h,aS<|.cW λk:Nat=>k]/\h<n/\(∀k∈G,k<n)/\(∀i,i<n->.ae (a i) 300)/\.dW<=20/\c=aS (pZ a h G)
def ahQ:.aI [.mf,.an,"others",.ke,"other"] [.mf,.an,"others"] 71:=.Q
def ahR(X:.aq C g N):bq P w K C g "joined" [.mf,.an,"others"] (.L ahP) 1:=by
 let S:=ahQ;calc X.adp.t S .qb λf v A U s H E R O F Z h=>?_;let[rfl,_,[c,n,h,G,rfl,V,x,a,d,rfl],k]:=h;let L:=ie (f:=λi=>aS<|c i) V;calc .ba 3 (ace .bo (w:=aS<|c h) .e .w .hQ);refine abO (κs:=(.cW .h1).map aW) (mY (j:=2))<|.kk λi u z=>u=[.du<|aX (λi=>aS<|c i) n,.J h,.b (aS<|.cW .h1),.K p,none]/\z=[(p,aS (pZ c h<|G.take i))]
 .intro i w _ _ D [rfl,rfl];let[Y,I,rfl]:=dw D;rw[bG,bG] at I;cases r:G[i]? with
  |none=>rw[r] at I;cases I
  |some o=>
   rw[r] at I;cases I;let l:=x o (bb r);let B:=ie (f:=λi=>aS<|c i) l;let[J,M]:=.bd r;let b:.ae (pZ c h<|G.take i) (300+20*300):=by
    have:=QR (Wf:=c) (m:=300) (G:=G.take i) (acc:=c h) λo l=>a o (x o<|o_ l);let y:=a h V;let t:.ae (G.take i) 20:=.lV
    let Q:(.m<|G.take i)*300<=20*300:=Dc _ t;unfold pZ;lia
   let y:=a o l;calc(.fL _ _ 4);calc b_ (yg (q:=p) (F0:=pZ c h<|G.take i) .e .g0<|.dH (aS<|c o) (cM (k:=(o:Int)) .e .e .w<|L2.cR B) {_,c o,[],[],rfl,.w,.a,.hp});rw[dX J,M,show pZ c h (G.take i++[o])=.ei (c o) bD (pZ c h<|G.take i) by unfold pZ;rw[kM];rfl];rfl
 .intro _ _ [rfl,rfl];rw[aj,aj,aj,eP];show .f3 .aG (.ay<|k p)
def QS(Q:et g n){h b}(J:gb g h b):b<n:=by
 induction J with
 |@byte r o U a c b Z e _ _ M=>have:=(Q.mH r Z.1 a c .oD).1;lia
 |non _ _ _ _ E=>show E
def ahS(Q:et g n){F}(e:QN g F){r}(Z:r∈.B){l}(hs:∀y∈l,y∈.O){z}:ml F .gu l z↔∃b:Nat,z=b/\b<n/\kj g l b:=by
 rw[vW];walk
 .intro[o,s,U,rfl,B,M];let R:∀y∈o,gN g y:=.d2 ((vX Q.wf Z (hs y<|by simp[T])).mp<|B y T);cases s with
  |range a d=>have:=(Q.mH r Z a d<|hs _ .f).1;let M:(a:Int)<=z/\z<=d:=M;show{z.toNat,.a,.a,o,_,U,rfl,R,by walk<;>lia}
  |non c=>let[b,rfl,J]:=(e.mem c (Q.wf.non r Z c<|hs _ .f) z).mp M;show{b,rfl,QS Q J,o,_,U,rfl,R,J}
 .intro[b,rfl,_,o,s,U,rfl,R,M];calc(.ab o s U rfl (.d2 ((vX Q.wf Z (hs y<|by simp[T])).mpr<|R y T)) ?_);cases s with
  |range a d=>let M:a<=b/\b<=d:=M;walk<;>lia
  |non c=>show(e.mem c (Q.wf.non r Z c<|hs _ .f) b).mpr (.aX b M)
structure jO(g:aQ)(n:Nat)(Wf:.eV)(Hb:.gp)(i j:Nat):Prop where
 nd:∀h,(.a9<|Wf h)
 so:∀h z,z∈Wf h->(z=-1/\h=0/\.eL true 0)\/∃b:Nat,z=b/\b<n/\∃r pre jL,nq g r/\.O=pre++c5 h::jL/\kj g jL b
 st:.eL true 0->(.cg<|-1)∈Wf 0
 hs:∀c a,a∈Hb c->∃r pre jL,nq g r/\.C=a/\.O=pre++c5 c::jL/\∀y∈jL,gN g y
 hl:∀c,.ae (Hb c) (i*8+j)
 co:∀i' r j' c,(hH g)[i']?=.b r->(i'<i\/i'=i/\j'<j)->.O[j']?=.b (.non c)->(∀b:Nat,b<n->kj g (.nY j' 1) b->.kf∈Wf c)/\((∀y∈.nY j' 1,gN g y)->.C∈Hb c)
def jO.len(I:jO g n Wf Hb i j)(t:n<=256) h:.ae (Wf h) 257:=by
 have:=rr (G:=(Wf h).map (.s<|z+1)) (n:=257) (by unfold zZ;rw[o9];show(I.nd h).imp λU e=>U .a) λz a=>by let[y,T,rfl]:=.Y a;let[rfl,_]|||[b,rfl,Y,_]:=I.so h y T<;>lia
 simpa using this
def QT(Q:et g n){r}(Z:r∈.B){l}(hs:∀y∈l,y∈.O){b}(h:kj g l b):b<n:=by
 let[o,s,U,rfl,_,M]:=h;cases s with
 |range a d=>have:=(Q.mH r Z a d<|hs _ .f).1;let M:a<=b/\b<=d:=M;lia
 |non c=>show QS Q M
def oN(g:aQ)(c:Nat)(z:Int):=(z=-1/\gc g c 256)\/∃b:Nat,z=b/\b<256/\gc g c b
def ahT(Q:et g n){Wf}{Hb}(I:jO g n Wf Hb (.m<|hH g) 0){c}(V:c<.o){z}:.wK↔oN g c z:=by
 have s:=Q.bS;let K:∀{a b},Eg (.hM Hb) a b↔a<.o/\b∈Hb a:=λ{a b}=>by
  unfold Eg;walk
  .intro[l,e,h];rw[bG] at e;by_cases q:a<.o
   .rw[o6 q] at e;cases e;show(.c q h)
   .rw[iB .dV] at e;cases e
  .intro[q,h];show(.D (.jN<|o6 q) h)
 have i:∀o,z∈Wf o->oN g o z:=λo h=>by
  let[rfl,rfl,N]|||[b,rfl,Y,r,f,U,Z,e,J]:=I.so o z h
  .show .z (.aY<|.start N)
  .show .F (.dB b .a<|.first Z e J)
 let w:∀{a b},Eg (.hM Hb) a b->oN g b z->oN g a z:=λ{a b} h p=>by let[r,f,U,Z,rfl,e,j]:=I.hs a b (K.mp h).2;show p.imp (.aQ (.c h.1<|.hand Z e j h.2)) λ#[b,B,M,A]=>(.q b B M<|.hand Z e j A)
 walk
 .rintro(h|⟨o,B,M⟩)
  .show i c h
  .have:=i o M;clear V;induction B with
   |one h=>show w h this
   |more h _ E=>show w h (E M this)
 .have v:∀{c b},gc g c b->z=(.ea (b=256) (.cg<|-1) .kf)->c<.o->.wK:=λ{c b} h=>by
   induction h with
   |start N=>intro e _;rw[e];show .z (I.st N)
   |@first r f U c b Z e J=>
    intro x _;let[u,t]:=jW ((vO Q.wf).mpr Z);let d:.nY .kK 1=U:=.oD
    let Y:=.xw;rw[.cD] at x;rw[x];show .z ((.wJ).1 b Y<|by rw[d];show J)
   |@hand r f U c b Z e j _ E=>
    intro x V;let[u,t]:=jW ((vO Q.wf).mpr Z);let d:.nY .kK 1=U:=.oD
    let m:=(.wJ).2 (by rw[d];show j);let k:=K.mpr (.c V m);let h|||[o,B,M]:=E x (Q.wf.lhs r Z.1.1)
    .show .F (.D (.one k) h)
    .show .F (.em (.more k B) M)
  rintro(⟨rfl,h⟩|⟨b,rfl,Y,h⟩)
  .show v h rfl V
  .show v h (by rw[.cD]) V
def ahU(u:.gP):(∃r∈hH g,.C=0)↔.eL true 0:=by
 walk
 .intro[r,Z,e];have:=((vO u).mp Z).1.lhs;rw[e] at this;show this
 .intro h;generalize I:(0:Nat)=z at h;cases h with
  |mk r B M A=>show(.g r ((vO u).mpr (.c (.c B M)<|by rw[<-I];show .start))<|I.symm▸rfl)
def jO.next(I:jO g n Wf Hb i .jO)(Z:(hH g)[i]?=.b r)(Y:.jO<=8):jO g n Wf Hb (i+1) 0:=
 (.ab I.nd I.so I.st I.hs (.bg (.dJ<|I.hl c)) λu D d c B M A=>I.co u D d c B (by
  by_cases e:u=i
  .subst e;rw[Z] at B;cases B;show .F (.aY<|.aw A)
  .show .z .a) A)
def jO.skip{i j lo hi}{r}(I:jO g n Wf Hb i j)(Z:(hH g)[i]?=.b r)(a:.O[j]?=.b .fN):jO g n Wf Hb i (j+1):=
 (.ab I.nd I.so I.st I.hs (.bg (.dJ<|I.hl c)) λu D d c B M A=>I.co u D d c B (by
  let M|||[rfl,M]:=M
  .show .z M
  .by_cases e:d=j
   .subst e;rw[Z] at B;cases B;rw[a] at A;cases A
   .show .F (.aY .a)) A)
def fV(F:.gp)(a:Nat)(G:.h):.gp:=.aQ (.A (h=a) G<|F h)
def ahV{s:Sym}(h:l[j]?=.b s):l=l.take j++s::l.drop (j+1):=by let[B,M]:=.bd h;rw[<-M,<-zy B,wN]
theorem jO.add{r}{G:.S}(Q:et g n)(I:jO g n Wf Hb i j)(Z:(hH g)[i]?=.b r)(o:.O[j]?=.b (.non a))(F:∀z,z∈G↔∃b:Nat,z=b/\b<n/\kj g (.nY j 1) b){l}(V:(∀y∈.nY j 1,gN g y)/\l=fV Hb a (Hb a++[.C])\/(¬∀y∈.nY j 1,gN g y)/\l=Hb):jO g n (eN Wf a (.kX<|Wf a)) l i (j+1):=by
 have U:=(vO Q.wf).mp (bb Z);let p:=ahV o;let m:∀c b,b∈Hb c->b∈l c:=λc b Y=>by
  let[_,rfl]|||[_,rfl]:=V
  .unfold fV;split
   .rename_i e;subst e;show qd _ Y
   .show Y
  .show Y
 have s:∀c z,z∈Wf c->z∈eN Wf a (.kX<|Wf a) c:=λc z k=>by
  unfold eN;split
  .rename_i e;subst e;show mj.mpr (.z k)
  .show k
 refine(.ab (.aQ ?_) (λh z k=>?_) (.aQ (s _ _<|I.st h)) (λc b Y=>?_) (.bg ?_) λu D d c B M A=>?_)
 .unfold eN;split
  .show vV (I.nd _)
  .show I.nd h
 .unfold eN at k;split at k
  .rename_i e;subst e;let k|||k:=mj.mp k
   .show I.so _ z k
   .let[b,L,C,f]:=(F z).mp k;show .F {b,L,C,r,_,_,U,p,f}
  .show I.so h z k
 .let[V,rfl]|||[_,rfl]:=V
  .unfold fV at Y;split at Y
   .rename_i e;subst e;let Y|||Y:=.c7 Y
    .show I.hs _ b Y
    .rw[dj] at Y;subst Y;show(.fK r _ U rfl p V)
   .show I.hs c b Y
  .show I.hs c b Y
 .let T:=I.hl c;let[_,rfl]|||[_,rfl]:=V
  .unfold fV;split
   .rename_i e;subst e;rw[ez];simp;lia
   .lia
  .lia
 .by_cases e:u=i/\d=j
  .let[rfl,rfl]:=e;rw[Z] at B;cases B;rw[o] at A;cases A;refine(.c (λb Y J=>?_) λJ=>?_)
   .change .kf∈eN Wf a _ a;unfold eN;rw[.gO];show mj.mpr (.F ((F b).mpr<|.dB b Y J))
   .let[_,rfl]|||[t,_]:=V
    .change .C∈fV Hb a _ a;unfold fV;rw[.gO];simp
    .show .aa J t
  .let[P,K]:=I.co u D d c B .a A;show(.c (λb Y J=>s _ _<|P b Y J) (λJ=>m _ _<|K J))
abbrev iu(r:af)(qs:.bL)(F:.gp):OM:=(.dy r .hD)::.iv (.hB (ai<|F h) .li)
def QU(u:.gP)(Z:r∈.B){l:.bq}(hs:∀y∈l,y∈.O):.n (l.all<|gj .gu .j)↔∀y∈l,gN g y:=by
 rw[wJ];calc forall_congr' λy=>forall_congr' λT=>?_;rw[<-vX u Z<|hs y T];cases y with
 |range b a=>change .gN↔_;simp
 |non k=>change .n ((.gu).getD k .j)↔_;simp
structure QV(g:aQ)(L:.eV):Prop where
 nd:∀h,h<.o->(.a9<|L h)
 mem:∀h,h<.o->∀z,z∈L h↔oN g h z
def ahW(C:af):bT:=λa O F=>∃g n D Q,a=[cC C g D Q]/\O=[]/\et g n/\∀p L,QV g L->F .aG (.f9 (.oS<|L h))
def ahX:.aI [.ap,"hollow",.mp,.hn,.an,.mf,"handed_by",.hP,.dw,"place",.ed,"behind"] [.ap] 70:=.Q
open Classical in
theorem ahY(X:.fe P w K):bq P w K mg base "follow_classes" [.ap] (.L<|ahW qq.g) 5:=by
 let S:=ahX;calc X.adq.t S .jJ .rc;let[g,n,sg,co,rfl,rfl,ok,k]:=h;let hu:=dJ hr;let vY:=ok.nons.2;let n0:=ok.nons.1;let bS:=ok.bS;let Hh:=ok.rules;let dl:(.m .gu)=.o:=by simp[c8]
 let ul:.ae (hH g) 60:=bC (lM _ _) (bC (lM _ _) Hh);calc .cV 1 (dR .gu) (iT (P5 X) .ha (.iq<|.fD g sg co rfl ok.wf vY));calc .ba 2 (c_ (ahO X) .ha (.g9<|.none {g,n,sg,co,rfl,rfl,ok,λr qs F hq fa fs=>?_}));calc .gi .e3 (by rw[eS]) ?_;calc .cV 3 (dn<|hH g) (iT (agp X) .ha<|.iq #[g,sg,co,rfl,ok.wf,n0,vY,Hh,ok.rhs,rfl]);calc .ba 5 (.h4 [(.an,4)]<|.mw .o (.od (aS []) .lS (.po (.pu 4)<|mS .bs) λr2 cH Hi=>?_) .bo);simp only[cq,aj,rW] at Hi|-;rw[<-Hi,sW];calc .gi (.e3++bN r2 cH (.P [])) (by change(.zH++(.e3++[(r2,.c5 .pb)])).Perm (.e3++([(r2,.c5 .pb)]++.zH));rw[<-eZ .e3];show fX) ?_;calc .ba 6 (.h4 [(.an,4)]<|.mw .o (.od (ai []) .lS (.po (.pu 4) (bY<|.m0 .bs)) λr3 dE Hj=>?_) .bo);simp only[cq,aj,rW] at Hj|-;rw[<-Hj,sW];calc .gi (.e3++(bN r2 cH (.P [])++iu r3 dE (.P []))) (by change(.yH++((.e3++bN r2 cH (.P []))++[(r3,.c5<|dE.map .c4)])).Perm (.e3++(bN r2 cH (.P [])++([(r3,.c5<|dE.map .c4)]++.yH)));rw[<-eZ<|bN r2 cH (.P []),<-eZ .e3,<-eZ .e3];show fX) ?_;let q0:.pb[0]?=.K (cH[0]):=.jN (cf .a)
 let m2:∀{Wf:.eV} {Hb:.gp},(r2,.c5 .pb)∈.or:=gT _ .di;let m3:∀{Wf:.eV} {Hb:.gp},(r3,.c5<|dE.map .c4)∈.or:=gT _ (gT _ .di);let Hk:∀{Wf:.eV} {Hb:.gp} {a:Nat} (ha:a<.o8) (G:.S),bR cH[a] (aS<|Wf a) (aS G) .or (.e3++(bN r2 cH (eN Wf a G)++iu r3 dE Hb)):=λ{Wf Hb a} ha G=>by let zz:=bR.zip (R:=iu r3 dE Hb) (d:=aS G) (cf ha) (.n9 (aS<|Wf h) ha);rw[qU,.bX (aX (λi=>.A (i=a) (aS G) (aS<|Wf i)) .o8=.kC (eN Wf a G h) .o8)<|j_ λi _=>by unfold eN;split<;>rfl] at zz;show .ki (.there zz)
 let QW:∀{Wf:.eV} {Hb:.gp} {a:Nat} (ha:a<dE.length) (G:.h),bR dE[a] (ai<|Hb a) (ai G) .or (.e3++(bN r2 cH Wf++iu r3 dE (fV Hb a G))):=λ{Wf Hb a} ha G=>by let zz:=bR.zip (R:=[]) (d:=ai G) (cf ha) (.n9 (ai<|Hb h) ha);rw[qU,.bX (aX (λi=>.A (i=a) (ai G) (ai<|Hb i)) dE.length=.hB (ai<|fV Hb a G h) dE.length)<|j_ λi _=>by unfold fV;split<;>rfl,eS,eS] at zz;show .ki (.ki<|.there zz)
 refine .n6 (.bC<|.eL true 0) (λΓ O'=>∃Wf,.ut/\O'=.e3++(bN r2 cH Wf++iu r3 dE (.P []))/\jO g n Wf (.P []) 0 0) (XT.of (iM<|.oR ((hH g).map λru=>.aj (ru.lhs:Int) 0) (.ju [(.hP,7)]<|.jL (hH g) gh (λru=>[.jt g sg co,.p1,.K r,.jo<|hH g,none,.K r2,.K r3,.b<|gh ru,none,none,none,none]) (λru=>.bl<|.aj (ru.lhs:Int) 0) (λp hp _ _ _ _ _ cl fp=>(.jE 7 .e)) .bs) .pq)<|by rw[gx,rO,lJ,decide_eq_true_eq,<-ahU ok.wf];show(.c (λ#[x,h1,h2]=>(.g x h1<|by simpa using h2)) λ#[x,h1,h2]=>(.g x h1<|by simp[h2]))) (.s (.ct _ rfl<|.ab (.P .f) .f (.aQ<|.aa h .cr) .f .f λi' r' j' c _ h=>.a)) ?_
 .have z:=.ch;calc .o5 (cH[0]) hu .gj (.qx (.pw (.ge r2 m2)<|L2.cR q0) _ _ (yc (z:=-1) (F:=[]) (Hk (Wf:=.P []) .a [-1]) .f) (.a2<|.ct _ rfl ?_));let sub:∀h z,z∈eN (.P []) 0 [-1] h->z=-1/\h=0:=λh z hz=>by
   unfold eN at hz;split at hz
   .rename_i e;show(.c (by simpa using hz) e)
   .cases hz
  show(.ab (.aQ<|by unfold eN;split<;>simp) (λh y hy=>.z<|.g (sub h y hy).1 (sub h y hy).2 z) (.P<|by unfold eN;simp) .f .f λi' r' j' c _ h=>.a)
 intro _ _ [Wf,rfl,rfl,I0];refine cu<|.jz (dn<|hH g) (.k3 (∃Wf Hb,.ut/\O'=.or/\jO g n Wf Hb i 0)<|.d6 Wf rfl I0)
 .clear I0 Wf;intro i w _ _ hi [Wf,Hb,rfl,rfl,I];let[ru,gO,rfl]:=dw hi;let il:=(.aw gO);let ur:=(vO ok.wf).mp (bb gO);let rm:=ur.1.1;let h8:=ok.rhs ru rm;calc(.gS _ _ 4 8);refine cu (vq (.mQ (cV ru.rhs) (.gD (λj Γ O'=>∃Wf Hb,Γ=[.jt g sg co,.p1,.K r,.jo<|hH g,.J ru.lhs,.K r2,.K r3,none,.jV ru.rhs,none,none,none]/\O'=.or/\jO g n Wf Hb i j)<|.cs Wf Hb rfl I))<|.eo .jS)
  .clear I Wf Hb;intro j w _ _ hj [Wf,Hb,rfl,rfl,I];let[_,QX,rfl]:=x_ hj;let[y,hy,rfl]:=dw QX;let jl:=(.aw hy);calc(.gS _ _ 9 10);cases y with
   |range lo hi'=>show .pU .aH (.P<|.a2 (.cs Wf Hb rfl<|I.skip gO hy))
   |non a=>
    let sub:∀y∈.p2 j 1,y∈ru.rhs:=λy hy=>U4 hy;let an:=ok.wf.non ru rm a (bb hy);let a2:a<.o8:=.a
    let a3:a<dE.length:=.a
    let g2:.pb[a]?=.K (cH[a]):=.jN (cf a2)
    let g3:(dE.map .c4)[a]?=.K (dE[a]):=.jN (cf a3)
    calc .kP .aH;calc .cV 11 (cV<|.p2 j 1) (.bi (XE.aB<|Bb (w:=cV ru.rhs) (l:=.b (.cj<|j+1)) (h:=none) .e .w (.qG<|XV _ _ _ _ _) .aF .bs)<|by rw[FE,<-uk];rfl);let wm:(cH[a],aS<|Wf a)∈.or:=(Hk a2 []).mem;calc b_ (yg (q:=cH[a]) (F0:=Wf a) (.pw (.ge r2 m2)<|L2.cR g2) wm<|c_ (QI X) .ha (.df<|.g9 {.e3,bN r2 cH Wf++iu r3 dE Hb,rfl,.p2 j 1,r,qs,F,.gu,n,rfl,rfl,by rw[Jg];lia,bS,.wI,λlo hi hh=>ok.mH ru rm lo hi<|sub _ hh,λh hh=>(.c (fs.nd h) λz hz=>by let[b,rfl,hb,_]:=fs.so h .a z hz;lia),λG gd gm gz p=>?_}));let gl:=rr gd gz;let wl:=I.len bS a;let[A',B',e1,e2]:=(Hk (Wf:=Wf) (Hb:=Hb) a2 (.kX<|Wf a)).split;calc{Wf a,G,(p,aS G)::A',B',by change(p,aS G)::.or=_;rw[e1];rfl,.ge p .di,.a,?_};rw[show(p,aS G)::A'++(cH[a],aS (.kX<|Wf a))::B'=[(p,aS G)]++.vM by rw[e2];rfl];calc ar.perm fX (ar.drop ?_);let QY:∀z,z∈G↔∃b:Nat,z=b/\b<n/\kj g (.p2 j 1) b:=.s (.aA (gm z)<|ahS ok fa rm sub);refine .qw ((.p2 j 1).all<|gj .gu .j) (iM (c_ (G0 X) .ha<|.df (.g9<|.none {.p2 j 1,.gu,.j,_,rfl,.w,.wI,rfl,rfl})).xv) .M
    .let z:=(QU ok.wf rm sub).mp z;let hl:=I.hl a;let hm3:(dE[a],ai<|Hb a)∈.vM:=(QW a3 []).mem;refine b_<|fG (q:=dE[a]) (oj:=.cp<|Hb a) (.pw (.ge r3 m3)<|L2.cR g3) hm3 (.g1 (aa ru.lhs)<|.cX (.cp<|Hb a) (.sA (QW (Wf:=eN Wf a (.kX<|Wf a)) (Hb:=Hb) a3<|Hb a++[ru.lhs])<|show ai (Hb a++[ru.lhs])=.eK (.cp<|Hb a) [aa ru.lhs] by rw[ai,bo];rfl) .nd (aD<|.eG (.d6 _ rfl<|I.add ok gO hy QY (.z<|.a5 z))))
    .show .eG (.d6 _ rfl (I.add ok gO hy QY<|.pT (.aQ<|by rw[(QU ok.wf rm sub).mpr h] at z;cases z)))
  .clear I Wf Hb;intro _ _ [Wf,Hb,rfl,rfl,I];rw[show(.m (jg<|ru.rhs.map eh))=ru.rhs.length by simp[jg]] at I;show .a2 (.cs Wf Hb rfl<|I.next gO h8)
 .clear I0 Wf;intro _ _ [Wf,Hb,rfl,rfl,I];rw[aj] at I;calc .gi (cH.zip (.kC (Wf h) .o8)++([]++(r2,.c5 .pb)::(iu r3 dE Hb++.e3))) (by calc fX.trans ?_;change(((r2,.c5 .pb)::(cH.zip (.kC (Wf h) .o8)++iu r3 dE Hb))++.e3).Perm _;rw[pd,rX,eZ];show uw.symm) (ar.Fw (j:=5) rfl (by rw[oA]) ?_);calc .gi (dE.zip (.hB (ai<|Hb h) dE.length)++([]++(r3,.c5<|dE.map .c4)::.e3)) (by rw[pd,pd];show uw.symm) (ar.Fw (j:=6) rfl (by rw[oA]) ?_);rw[Hi,Hj];let el:(.m<|.hM Hb)=.o:=.f
  let ee:.c5 (.hB (ai<|Hb h) .o)=mf (.hM Hb):=by unfold mf aX;rw[a_];rfl
  let QZ:∀l∈.hM Hb,.bh .ax/\∀k∈l,k<(.m<|.hM Hb):=λl hl=>by let[c,_,rfl]:=.Y hl;have:=I.hl c;calc(.c .a λk hk=>?_);let[r',_,_,u,rfl,_]:=I.hs c k hk;rw[el];show ok.wf.lhs r' u.1.1
  refine aF (.h4 [(.an,4)]<|.mw .o (FH .o (λh (L:List Int)=>L.Nodup/\∀z,z∈L↔oN g h z) aS .a .oY (λi w hw vA=>?_) λp φ hφ=>?_) .bo)
  .let[_,rfl]:=iS hw;rw[qm];calc(.c [.jt g sg co,.p1,.K r,.jo<|hH g,.J i,.pZ<|Wf h,.du<|.hB (ai<|Hb h) .o,none,none,none,none,none] λp acc s H C' cl fp=>(.bM<|.dS 4));calc .oO (∃b:.S,c=aS b/\b.Nodup/\∀z,z∈b↔oN g i z) (ya (ahR X) .ha (.df<|.df (x9<|XE.mono (.oO (∃G:.h,c=aS (.cW .h1)/\G.Nodup/\.aM (k∈G↔bz (Eg<|.hM Hb) i k)) (c_ (BX X) .ha<|ae (XV.of (k':=mf<|.hM Hb) (k:=.Z<|.hB (ai<|Hb h) .o) .e ee) (.g2<|.none {rfl,_,i,rfl,.a,.a,QZ,λG q nd mem=>{q,_,rfl,rfl,G,rfl,nd,mem}}))) ?_)));intro w O' [rfl,G,rfl,nd,mem];let Q0:∀k∈G,k<.o:=λk hk=>by let[b,_,hb]:=((mem k).mp hk).last;let[l,e1,e2]:=hb;have:=(QZ l<|bb e1).2 k e2;lia
   let gl:.dW<=20:=bC (iq nd Q0) vY;calc ak (.D {Wf,.o,i,G,rfl,vA,Q0,λi _=>.gK<|I.len bS i,gl,rfl}<|.bO {q,_,rfl,rfl,_,rfl,QP<|I.nd i,.M});unfold pZ;rw[QO,<-ahT ok I vA];refine or_congr Iff.rfl<|.c (λ#[o,h1,h2]=>(.em ((mem o).mp h1) h2)) λ#[o,h1,h2]=>(.em ((mem o).mpr h1) h2)
  .show .last (k p φ<|.c (λh hh=>(hφ h hh).1) λh hh=>(hφ h hh).2)
def rz(g:aQ):=.fa (·.rhs)++[[.non 0]]
def fN(C:af)(g:aQ):W:=.dP bF [aa .bf,.mo (rz g) cV,ai (.fa .kL)]
def Hl{r}(h:r<=.bf):(rz g)[r]?=.b (dQ g r).rhs:=by
 unfold rz dQ g0;by_cases e:r=.bf
 .subst e;simp
 .have:r<.bf:=.a
  rw[kO<|by simpa using this,bG,cf this];simp[e,this]
def da(c:Nat):=fh (c/16,c% 16)
def dt(s:.h):W:=.Z .mq
def jP(g:aQ)(c:Nat):=c/16<=.bf/\c% 16<=(dQ g<|c/16).rhs.length
def Q3(h:jP g c):.H (cy g c)↔c% 16=(dQ g<|c/16).rhs.length:=by unfold cy;rw[aou];have:=h.2;lia
def ahZ(C c:af):bT:=λa O F=>∃x g D Q,a=[.p x,cC c g D Q]/\O=[(.eD x C [] [])]/\.bf<=60/\F .non [(x,fN C g)]
def ah0:.cd (.gL .ap .hP) .kj 74 0:=.Q
def ah1(X:.aq m i c):mR P w K m i c.b "Rulebook" .kj (.L<|ahZ c.b c.g) 1:=by let S:=ah0;calc X.ads.t X.adt S .jJ .sy;let[x,g,D,Q,rfl,rfl,b,k]:=h;let I:(.m<|.fa gh)=.bf:=aj _;calc .hu x X.l_.cl (X.l_.na _ .V) (.dH (aa .bf) (.k1 (.ip<|.fa gh)<|by rw[I];rfl) .gY);calc .hu x X.l_.cl (X.l_.na _ .V) (.dH (.mo (rz g) cV) (.bi (XE.aB<|oh (vs:=.fa (.bN<|cV .O)) (ws:=[cV [.non 0]]) (.nA [(.hP,2)] (.jz (dn .B)<|.jL .B gh .wH (.bN<|cV .O) .yG .bs)) (wb:=.Z [cV [.non 0]]) .e .w .w (.pQ<|.jk .dV) .bs)<|by rw[rz,bo,a_];rfl) .gY);refine .hu x X.l_.cl (X.l_.na _ .V) (.dH (ai (.fa .kL)) (.bi (.nA [(.hP,2)] (.jz (dn .B)<|.jL .B gh .wH (.bN<|aa .C) .yG .bs))<|by rw[ai,a_];rfl) {.e,_,_,_,_,_,.bF,.nw,.V,.j6 k})
def ah2(C:af):=f_ λa r=>∃g c,a=[fN C g,da c]/\jP g c/\r=.bl (.n8 g c)
def ah3:.cd (.ca "item") (.ca "item") 74 1:=.Q
def Q4(X:.aq a i l):c7 P w K a i l.b "is_whole" (.ca "item") (.L<|ah2 l.b) 1:=by
 let S:=ah3;calc X.adu.t S .pg .pi;let[rfl,_,[g,c,rfl,Q,rfl],k]:=h;let M:.tb:=.jN (Hl Q.1)
 calc aF (.dH (.bl<|.n8 g c) (.k1 (.bl<|.aj (.cj<|c% 16) (.jf<|(dQ g<|c/16).rhs.map eh)) ?_) .ky);congr 1;rw[gx,decide_eq_true_eq,aj,Option.isNone_iff_eq_none,Q3 Q];lia
def gp(es:.h):Sym->Nat
 |.non k=>es.getD k 0
 |.range _ _=>0
noncomputable def p0(rs:.b2)(tl:.eU):=tl.map λl=>.b0 (aU (TT.T rs) l [])
def ah4{t}{l}(h:tl[t]?=.b l):.dp (p0 rs tl)=.b0 (aU (TT.T rs) l []):=by unfold p0;lk
def Q5(g:aQ)(es:.h):=.lh=.o/\.bu (b<.o) (es.getD b 0=.ic .B b [])
def Q6(h:Q5 g es)(hs:.bu (s=.eW) (b<.o)):gp es s=.b0 (bH .mc s []):=by
 cases s with
 |non b=>show h.2 b (hs b rfl)
 |range c a=>rfl
def ah5:∀n∈p0 rs tl,n<=.bc:=.sG (.Y h)<|qG _
def oO(tl:.eU)(rests i u:.h)(k:Nat):=.mO k (λt=>iX .af i u t<|.gm t)
def Q7 tl rests i u k:oO tl .af i u (k+1)=oO tl .af i u k++(iX .af i u k<|.gm k).toList:=by grind[oO,lH,Dz]
theorem Hm n:.ji n<=.bc:=by have:=uX;unfold TT.settle;lk
def Q8:∀b parted,(∀n∈parted,n<=.bc)->∀n∈jh b es ts parted heads,n<=.bc
 |[],_,h=>h
 |p::b,parted,h=>Q8 b (ke es ts heads parted p) λn t=>by grind[ke,Hm]
def Q9(p:Nat×Nat×Nat):W:=.am [aa p.1,aa p.2.1,aa p.2.2]
def vZ(l:.co Nat (Nat×Nat)):W:=.nk Q9
def p5(C:af)(F:.oq):bT:=λc O K=>∃a b Y n r,c=.T::n/\O=[(.eD a C b Y)]/\F b Y n r/\K r O
def tL(c:c7 .ar X.w X.K X.mg .dj C m h (.L<|p5 C F) k)(cl:gD X.K C)(Z:.fV)(l:.xJ)(G:.H (fl ns Y m))(J:.oi X u ((.hT C Y)::R) (e::es) (F ns Y ws r/\O1=(.hT C Y)::R))
  (N:.gb e=.eF::.ga:=by rfl) (g:.hS=.j:=by rfl)
  (B:.mv m j (e::es) pos=(do
   let T<-.d1
   .mX
   let(f,b)<-gw [T] (oW T m d)
   .wG):=by rfl):=
 XE.xv (dM c cl Z l (.ge a .di) G (J.mono λws O1 #[f,z]=>{[(a,_)],R,z,a,ns,Y,ws,r,rfl,rfl,f,rfl,rfl}) N g B)
def Ca(c:c7 .ar X.w X.K X.mg .dj C m d (.L<|p5 C F) k)(cl:gD X.K C)(Z:.fV)(l:.xJ)(G:.H (fl ns Y m))(J:F ns Y [] r)
  (B:.mv m j [] pos=(do
   let T<-.d1
   .mX
   let(f,b)<-gw [T] (oW T m e)
   .td):=by rfl):=
 XE.xv (Bd c cl Z l (.ge a .di) G {[(a,_)],R,rfl,a,ns,Y,[],r,rfl,rfl,J,rfl,rfl} B)
def ah6:.oq:=λc Y b r=>∃s a,b=[eh s]/\fl c Y .oN=.bY a/\(.aM<|s=.non k->k<.bE)/\r=aa (gp a s)
abbrev ah7(P:fu)(w:ew)(K:bj)(X:.dl)(i:bI)(C:af):=c7 P w K X i C "nothing" (.ca .ed) (.L<|p5 C ah6) 1
def ah8:.cd (.ca .ed) (.ca .ed) 38 3:=.Q
def Cb(X:.aq b i l):ah7 P w K b i l.c:=by
 calc X.adv.t ah8 (λ_ _ _ {_,_,_,_,_,e,_,{_,_,C,_},_}=>.d) .sy;let[a,c,m,_,_,rfl,rfl,[J,d,rfl,I,Y,rfl],k]:=h;cases J with
 |non j=>let e:=fo (Y j rfl);show .m4 true .il (.P (.e5<|.ay k)) .aV
 |range g o=>show .m4 .j .il .aV (.P (.e5<|.ay k))
def ah9(T:af):.oq:=λd Y f r=>∃g n c b a e,f=[]/\.H (fl d Y "nothing")/\fl d Y "tails"=.b (pY T g n c b a)/\rp g n c b a/\fl d Y .oN=.bY e/\Q5 g e/\r=ai (p0 .B c)
def ah_:.cd (.gL .e0 .c0) .e4 38 2:=.Q
theorem ah'(X:.aq mg N l):c7 P w K mg N l.c "tails_over_nothing" .e4 (.L (p5 l.c<|ah9 l.t)) 3:=by
 let S:=ah_;calc X.adw.t S (λ_ _ _ {_,_,_,_,_,e,_,{_,_,_,_,_,_,C,_},_}=>.kY) .gd;let[a,ns,Y,_,_,rfl,rfl,[g,n,G,t,T,es,rfl,c,x,Q,I,d,rfl],k]:=h;let r:=Q.bS;let y:=(.aw Q.tok.zero);calc .nI 1 (.g2<|.ft .fd);refine cu<|om (m:=1) (n:=.dW) .e .pG .a .a (.k4 (u=[.cq,.b3,none]/\O'=[(.hT l.c Y),(q,ai<|p0 .B (G.take<|1+i))]) .iM) .bo
 .rw[show G.take (1+0)=[[]] by rw[.g7<|1+0=1,List.take_one,List.head?_eq_getElem?,Q.tok.zero];rfl];rfl
 .intro i w _ _ hi [rfl,rfl];let[hi,rfl]:=iS hi;let[J,V,M,B,q3]:=Q.tok.step (1+i) .a .a;let L:=vU M;let C:=.hb t (1+i) (by rw[Q.tok.len];lia);let hs:.bu (J=.eW) (b<.o):=.tE;let o:(.m<|p0 .B (G.take<|1+i))=1+i:=by unfold p0;rw[aj,dZ];lia
  let R:=.hb (p0 .B (G.take<|1+i)) (t.getD (1+i) 0) .a;let z:=Q6 d hs;calc(.fL _ _ 2);calc .mm q (XV.xe (oK (oJ X) .az (tH (tL (Cb X) .cv .az .e c (.iq<|.gE J es rfl I (λb e=>.jR d.1<|hs b e))) .e (by rw[z];show qG _)<|tI ah5 _))<|.cX _ .iD (by rw[aj,o];show lt_size .a) .hp);rw[z,ah4<|by rw[Tq B];show q3,Qu];let[D,p]:=.bd M;rw[.dg<|1+(i+1)=1+i+1,dX D,p];unfold p0 ai;rw[bo,bo,sE _ V];change _=[_,(q,.c5<|_++[aa (.b0<|aU _ (J::V) [])])];rw[sE _<|J::V];rfl
 .intro _ _ [rfl,rfl];let e:1+(.m (cq 1<|.dW-1))=.dW:=.lS
  rw[e,eP];show .jb 1 [_] [] (.gn k)
def aia(T:af):.oq:=λd Y h r=>∃g n c a b e f,h=[]/\.H (fl d Y "nothing")/\fl d Y "tails"=.b (pY T g n c a b)/\rp g n c a b/\fl d Y .oN=.bY e/\.fC=.o/\fl d Y "empty_tails"=.bY f/\.kK=.c9/\r=vZ (TT.loose c a e f)
def aib:.cd [.cC,.ke,.c0,.ed,"rest"] .e4 38 4:=.Q
def aic(X:.fe P w K):c7 P w K mg base qq.c "tails_to_finish" .e4 (.L (p5 qq.c<|aia qq.t)) 2:=by
 let S:=aib;calc X.adx.t S .sj .gd;let[a,ns,Y,_,_,rfl,rfl,[g,n,T,D,bM,es,W,rfl,c,x,Q,le,d,Hn,N,rfl],k]:=h;let r:=Q.bS;let t0:=(.aw Q.tok.zero);calc .j2 1 .fd;refine cu<|om (m:=1) (n:=T.length) .e .pG .a .a (.k4 (u=[.cq,.b3,none,none,none]/\O'=[(.lC Y),(q,vZ (oO T D es W<|1+i))]) .iM) .bo
 .let I:T.getD 0 []=[]:=by rw[cK,Q.tok.zero];rfl
  rw[.g7<|oO T D es W (1+0)=oO T D es W (0+1),Q7,I];rfl
 .intro i w _ _ hi [rfl,rfl];let[hi,rfl]:=iS hi;let[J,V,M,B,q3]:=Q.tok.step (1+i) .a .a;let L:=vU M;let C:=.hb D (1+i) (by rw[Q.tok.len];lia);let hs:.bu (J=.eW) (b<.o):=.tE;let R:=.hb W (.jp<|1+i) .a;let G:T.getD (1+i) []=J::V:=by rw[cK,M];rfl
  let p:oO T D es W (1+(i+1))=oO T D es W (1+i)++(iX D es W (1+i)<|J::V).toList:=by rw[<-G];show Q7 T D es W (1+i)
  let o:.bh (.m (oO T D es W<|1+i)):=by have:=qu (λt=>iX D es W t<|T.getD t []) (aq<|1+i);rw[mE] at this;unfold oO;lia
  calc .wF;cases J with
  |range lo hh=>show .pU (.oA .j true .il) (.P<|.a2 (.aY<|by rw[p];simp[iX]))
  |non b=>
   refine .hW (.bC<|0<es.getD b 0\/0<W.getD (.jp<|1+i) 0) (iN (k:=true) .il (.P<|Fk (g7 b9.gt (tL (Cb X) .cv .az .e c (.iq<|.gE .eW es rfl le λy e=>by rw[d];show hs y e)) .e<|fb _) (.P .aH))) ?_ .M<|.s .hp
   .rw[aov,gx];simp[gp]
   .let z:=.ch;calc .mm q (.g1 (Q9 (1+i,.jp<|1+i,b)) (.cX _ .iD .nd<|.eG .iM));rw[p,vZ,bo];simp only[iX,.r z];rfl
   .let z:=.cr;rw[p];simp only[iX,.x z];simp
 .intro _ _ [rfl,rfl];let e:1+(.m (cq 1<|T.length-1))=T.length:=.lS
  rw[e];show .jb 1 [_] [] (.gn k)
def jQ{l:.aS}(h:i<.ax):l[i]?=.b (l.getD i d):=.d
def aid(m:b∉.f0):TT.dput d b v=d++[(b,v)]:=by
 induction d with
 |nil=>rfl
 |cons p d E=>simp only[TT.dput];lk
def aie{N:Type}{l:.aS}{j}{x}(a:l.Nodup)(h:l[j]?=.bt):x∉l.take j:=.cN<|by grind[aK,wN,zy]
def Cc(s:Sym)(R:Nat)(F:.bK):=match s with
 |.non b=>.A (0<R) (TT.dput F b (.ji<|jI F b+R)) F
 |.range _ _=>F
def aif s S R d:yx s S R d=Cc s R (.kw (0<S) (.jn (p.1,.ji<|S*p.2)) []):=.bm
def dO(d:.bK):W:=.dK (.jn<|aW p.1) (.jn<|aa p.2)
def Q_(h:Is O w (dO d)):∃r,eM O w (aa b) r/\r.getD (aa 0)=aa (jI d b):=by calc(.D (.k (k:=aW b) h rfl) ?_);rw[vw];unfold jI;lk
def Ho{q}{d:.bK}{b v}{O O'}(N:(.a9 (.f0)))(hz:.eg .nf)(h:bR q (dO d) (dO<|TT.dput d b v) O O'):iQ q (aa b) (aa v) O O':=by
 refine iQ.k (ks:=.jn (aW<|.cg p.1)) (ws:=.jn<|aa p.2) (k:=aW b) rfl .bV ?_;let e:W.dK (iP (.jn (aW<|.cg p.1))<|aW b) (jC (.jn (.ls<|.cg p.1)) (.jn<|aa p.2) (aW .kf)<|aa v)=dO (TT.dput d b v):=by
  let u:∀d:.bK,(aW .kf)∈.jn (.ls<|p.1)↔b∈.f0:=λd=>.d
  unfold iP jC dO;by_cases m:b∈.f0
  .rw[.r<|(u d).mpr m,.r<|(u d).mpr m];clear h hz;congr 1
   .have:=yw d b v;rw[.r m] at this;have:=.dN (List.map λ(n:Nat)=>(.ls n)) this;rw[a_,a_] at this;show this.symm
   .clear u;induction d with
    |nil=>cases m
    |cons p d E=>
     rw[bx,lF] at N;simp only[bx,nB,TT.dput];by_cases e:p.1=b
     .rw[.cK,.r<|by rw[e]];simp only[bx];congr 1;let t:=e▸N.1;clear E m N e;induction d with
      |nil=>rfl
      |cons q d E=>lk
     lk
  .rw[.hm (m<|(u d).mp z),.hm (m<|(u d).mp z)];clear h hz u N;have:TT.dput d b v=d++[(b,v)]:=by
    induction d with
    |nil=>rfl
    |cons p d E=>simp only[bx,cw,not_or] at m;simp only[TT.dput];lk
   lk
 rw[e];show h
def aih{d:.bK}{b v}(N:(.a9 (.f0))):(.a9 (.eZ<|TT.dput d b v)):=by rw[yw];lk
def Hq(d:.y _):mV ((.jn<|aW p.1).map kW) (.jn<|aa p.2)=d.map fh:=by
 unfold mV;induction d with
 |nil=>rfl
 |cons p d E=>simp only[bx,an3,E];rfl
def Ra:.oq:=λf Y g r=>∃b e d a c,g=[ai a,ai c]/\fl f Y "loose_tails"=.b (vZ b)/\fl f Y .oN=.bY e/\fl f Y "empty_tails"=.bY d/\
 (∀p∈b,p.1<.bE/\p.2.1<.bE/\p.2.1<.nf/\p.2.2<.fC/\p.2.2<.c9)/\(∀n∈e,n<=.bc)/\(∀n∈d,n<=.bc)/\(∀n∈a,n<=.bc)/\(∀n∈c,n<=.bc)/\r=ai (jh b e d a c)
def aii:.cd [.cC,"parted","heads","totals",.c0,"rest",.an,"more"] (.gL "parted" "heads") 38 14:=.Q
def Rb(X:.fe P w K):c7 P w K mg base qq.c "with_wholes" (.gL "parted" "heads") (.L<|p5 qq.c Ra) 3:=by
 let S:=aii;calc X.ady.t S (λ_ _ _ {_,_,_,_,_,e,_,{_,_,_,_,_,C,_},_}=>.d) .gd;let[a,ns,fs,_,_,rfl,rfl,[b,es,ts,W,T,rfl,y,Q,o,Y,J,bt,I,D,rfl],k]:=h;calc .xI;refine .jy<|.k4 (u=[.cq,.fU,.bY T,.b3,none,none,none,none]/\O'=[(.lC fs),(q,ai<|jh (b.take i) es ts W T)]) .bW
 .intro i w _ _ hi [rfl,rfl];let[t,B,rfl]:=dw hi;let[x,g]:=.bd B;let[b1,N,b3,n,p]:=Y t (bb B);let L:jh (b.take<|i+1) es ts W T=ke es ts T (jh (b.take i) es ts W T) t:=by rw[dX x,g];unfold jh;simp
  let tl:=BF (b.take i) es ts W T;let r:=Q8 (es:=es) (ts:=ts) (heads:=T) (b.take i) W I;rw[L];generalize jh (b.take i) es ts W T=M at*;let V:=fo n;let d:=.hb M t.2.1 .a;let c:=fo p;let G:=fo b3;let R:=.hb M t.1 .a;calc(.en _ (aaW (j:=4) (l:=5) (m:=6) S.nd) (.gx 7<|Bl (tH .e .e (tI J _)<|tI r _) (tH .e .e (tI D _)<|tI bt _)));refine be .aH .M<|.s .hp
  .let z:=.ch;calc qP (j:=t.1) (XV.xe (oK (oJ X) .az .e) (.fK .e .e _ .iD (qR .bV)<|.eG .iM));unfold ke;rw[.hf,ai,w8]
  .let z:=.cr;unfold ke;lk
 .intro _ _ [rfl,rfl];rw[aj,eP];show .qB 3 [_] (.gn k)
def eR(tl:.eU)(rests es ts:.h):.bn (.y .bK)
 |0=>[[]]
 |k+1=>eR tl .af es ts k++[match .gm (k+1) with|s::_=>yx s (gp es s) (ts.getD (.hc<|k+1) 0) ((eR tl .af es ts k).getD (.hc<|k+1) [])|[]=>[]]
def rA:.aM ((.m<|eR tl .af es ts k)=k+1)
 |0=>rfl
 |k+1=>by rw[eR,ez,rA k];rfl
def aij(T:af):.oq:=λf Y i r=>∃g n c a b e h,i=[]/\.H (fl f Y "nothing")/\fl f Y "tails"=.b (pY T g n c a b)/\rp g n c a b/\fl f Y .oN=.bY e/\.fC=.o/\fl f Y "empty_tails"=.bY h/\h.length=.c9/\(∀n∈e,n<=.bc)/\(∀k,∀d∈eR c a e h k,.vL)/\r=.mo (eR c a e h<|.c9-1) dO
def aik:.cd [.cC,"units",.c0,.ed,"rest","unit",.an,.e0] .e4 38 5:=.Q
theorem ail(X:.fe P w K):c7 P w K mg base qq.c "units_of_tails" .e4 (.L (p5 qq.c<|aij qq.t)) 3:=by
 let S:=aik;calc X.adz.t S .sj .ja;let[a,ns,Y,_,_,rfl,rfl,[g,n,tl,D,bM,T,W,rfl,l0,x,Q,I,Cd,Hn,hts,B,y,rfl],k]:=h;let R:=dJ Z;let bS:=Q.bS;let t0:=(.aw Q.tok.zero);calc .nI 1 (.d9 (dO []) (XE.aB<|mS .bs)<|.ft .fd);refine cu<|om (m:=1) (n:=.cc) .e (.gh .bV) .a .a (.k3 (Γ=[.cq,.b3,none,none,none,none,none,none]/\O'=[(.lC Y),(.dy q<|(eR tl D T W i).map dO)]) .bW) .bo
 .intro i w _ _ hi [rfl,rfl];let[hi,rfl]:=iS hi;let[J,l',M,q2,q3]:=Q.tok.step (1+i) .a .a;let e1:=vU M;let C:=fo (i:=1+i) (by rw[Q.tok.len];lia);let hs:=.tE;let e4:=.hb W (.jp<|1+i) .a;let G:.gm (i+1)=J::l':=by rw[cK,zv,M];rfl
  let ul:=rA (tl:=tl) (rests:=D) (es:=T) (ts:=W) i;let t:eR tl D T W (i+1)=eR tl D T W i++[yx J (gp T J) (W.getD (.jp<|1+i) 0) .yF]:=by rw[eR,G,zv i 1]
  let c:_[.jp _]?=.b .yF:=jQ .a;let o:=y i _ (bb c);generalize hd:(eR tl D T W i).getD _ []=d at*;let e5:((eR tl D T W i).map dO)[.jp<|1+i]?=.b (dO d):=by rw[bG,c];rfl
  refine .wF;calc .ba 5 (mS λu=>?_);let[nd,dl,dle]:=o;refine mX (λΓ O'=>.sN/\O'=[(.lC Y),(.dy q<|(eR tl D T W i).map dO),(u,dO .rQ)])
   (g7 b9.gt .us .e<|fb _) .M .M ?_
  .let z:0<gp T J:=.fM
   have nle:gp T J<=.bc:=by cases J with
    |non b=>show tI B b
    |range lo hi=>show eY _
   simp only[.r z];calc FG (Bu (mY (j:=1)) (mY (j:=4)) .e6<|cR e5) ?_;rw[Hq];refine .kk λj Γ O'=>.sN/\O'=[(.lC Y),(.dy q<|(eR tl D T W i).map dO),(u,dO .rR)]
   .intro j w _ _ hj [rfl,rfl];let[p,hp,rfl]:=dw hj;let[j1,j2]:=.bd hp;let Rc:.eZ .rR=.aC (.f0) j:=by rw[a_,qo];rfl
    let N:p.1∉.eZ .rR:=by rw[Rc];show aie nd (by rw[bG,hp];rfl)
    calc(.gS _ _ 6 7);calc iR R (XV.xe (oK (oJ X) .az<|tH .us .e nle (dle p<|bb hp))<|.iA _ _ (Ho (d:=.rR) (by rw[Rc];show nd.sublist (Tr _ _)) (by rw[aj,dZ];lia)<|.hV .bF) .hp);rw[aid N,dX j1,j2,bo];rfl
   .intro _ _ [rfl,rfl];rw[aj,eP];show .a2 .bW
  .let z:¬0<gp T J:=.dJ .cr
   simp only[.x z];show .bW
  .rintro _ _ ⟨rfl,rfl⟩;rw[aif] at t;let nd1:(.a9 (.eZ .rQ))/\.ae .rQ 20:=by
    split
    .rw[a_,aj];show(.c nd dl)
    .show(.c .nil .f)
   generalize .rQ=F at*;refine .n6 (match J with|.non _=>.ai 0 (W.getD (.jp<|1+i) 0)|.range _ _=>false) (λΓ O'=>.sN/\O'=[(.lC Y),(.dy q<|(eR tl D T W i).map dO),(u,dO<|Cc J (W.getD (.jp<|1+i) 0) F)]) ?_ .M ?_
   .cases J with
    |non b=>show XT.of (iN (k:=true) .il (.P .aH)) (by rw[aov,gx];simp)
    |range lo V=>show XT.of (.oA .j true .il) rfl
   .cases J with
    |range lo V=>cases z
    |non b=>let z:=.ch;let[r,c,L]:=Q_ (O:=[(.lC Y),(.dy q<|(eR tl D T W i).map dO),(u,dO F)]) (w:=.p u) (d:=F) (b:=b) .e6;calc iR R (XV.xe (oK (oJ X) .az<|Bl (i:=jI F b) (.bi (NY R .e .e .e c) L) .e)<|.iA _ _ (Ho nd1.1 .a<|.hV .bF) .hp);rw[Cc,.r z]
   .cases J with
    |range lo V=>show .bW
    |non b=>let z:=.cr;show(.aY<|by rw[Cc,.x z])
   .intro _ _ [rfl,rfl];calc .jb 5 [_,_] [] ?_;calc .mm q (.e5<|.cX _ .iD .nd .hp);rw[t,bo];rfl
 .intro _ _ [rfl,rfl];let e:(.m (cq 1<|.cc-1))=.cc-1:=.oY
  rw[e];show .jb 1 [_] [] (.gn k)
def Rf{e d:.bK}(h:(.a9 (.f0))/\∀p∈d,p.1<20)(he:∀p∈e,p.1<20):(.a9 (.eZ<|g_ d e))/\∀p∈g_ d e,p.1<20:=by
 unfold g_;induction e generalizing d with
 |nil=>show h
 |cons p e E=>
  rw[cW];calc E (.c (aih h.1)<|.eu ?_) (.eu (he x<|by simp[D]));let rfl|||z:=(Gs h.1 x).mp D
  .show he p .f
  .show h.2 x z.1
def aim{d:.bK}(h:(.a9 (.f0))/\∀p∈d,p.1<20):.nf<=20:=by
 have:=iq h.1 (n:=20) (.bS<|by let[p,R,rfl]:=.Y L;show h.2 p R)
 rwa[aj] at this
def tM(g:aQ)(bM:.h)(ut:.y .bK)(a:Nat):=.ei (ek .B bM a) (λd t=>g_ d<|ut.getD t []) []
def ain(T:af):.oq:=λh Y j r=>∃g n e c b f i,j=[]/\.H (fl h Y "nothing")/\.H (fl h Y "units_of_tails")/\fl h Y "tails"=.b (pY T g n e c b)/\rp g n e c b/\fl h Y .oN=.bY f/\.kK=.o/\fl h Y "empty_tails"=.bY i/\i.length=.fC/\(∀n∈f,n<=.bc)/\(∀k,∀d∈eR e c f i k,.vL)/\(∀k,∀d∈eR e c f i k,∀p∈d,p.1<20)/\(∀t∈b,t<.fC)/\.o<=20/\r=.Z (aX (λa=>dO<|tM g b (eR e c f i<|.fC-1) a) .o)
def aio:.cd [.cC,"of_tails","units","wholes","unit",.c0,.an,.e0] .e4 38 6:=.Q
def aip(X:.fe P w K):c7 P w K mg base qq.c "units_of_heads" .e4 (.L (p5 qq.c<|ain qq.t)) 4:=by
 let S:=aio;calc X.adA.t S .sj .gd;let[a,ns,Y,_,_,rfl,rfl,[g,n,tl,rests,T,es,ts,rfl,l0,l00,x,Q,le,Cd,Hn,N,hbe,y,aiq,z,J,rfl],k]:=h;let hu:=dJ Z;let bS:=Q.bS;let t0:=(.aw Q.tok.zero);let hut:(.m (eR tl .af es ts<|.cc-1))=.cc:=by rw[rA];lia
 calc .gx 1 (Ca (ail X) .cv .az .e l00 #[g,n,tl,.af,T,es,ts,rfl,l0,x,Q,le,Cd,Hn,N,hbe,y,rfl]);let D:=y (.cc-1);let Rg:=aiq (.cc-1);generalize eR tl .af es ts (.cc-1)=W at*;calc .j2 2 .fd;refine .jy<|.k3 (i<=.o/\Γ=[.cq,.du<|W.map dO,.b3,none,none,none,none,none]/\O'=[(.lC Y),.r5]) (.iY<|eY _)
 .intro i w _ _ hi [_,rfl,rfl];let Ha:i<.o:=by have:=(.aw hi);rwa[oA] at this
  rw[ie Ha] at hi;cases hi;let wm:∀t∈ek .B T i,t<.cc:=λt B=>by
   let[p,R,e]:=jS.mp B;split at e
   .cases e;show z _ (wF R).2
   .cases e
  refine(.en _ (.dS 3) (.ba 4<|mS λu=>?_));let air:∀j,((.a9 (.eZ .rP))/\∀p∈.rP,p.1<20):=λj=>by
   have V:∀(l:.h) (d:.bK),((.a9 (.f0))/\∀p∈d,p.1<20)->((.a9 (.eZ .zG))/\∀p∈.zG,p.1<20):=λl=>by
    induction l with
    |nil=>show λd h=>h
    |cons t l ih=>
     intro d h;calc ih _ (Rf h .hR);rw[cK] at R;cases e:W[t]? with
     |none=>rw[e] at R;cases R
     |some d'=>rw[e] at R;show Rg d' (bb e) p R
   show V _ _ (.c .nil .f)
  refine .jy<|.kk λj Γ O'=>Γ=[.cq,.du<|W.map dO,.b3,.b<|yN g T i,.K u,none,none,none]/\O'=[(.lC Y),.r5,(u,dO .rP)]
  .intro j w _ _ hj [rfl,rfl];let[t,B,rfl]:=dw hj;let[j1,j2]:=.bd B;let o:=wm t (bb B);let I:W[t]?=.b (.qW t):=jQ .a;let e5:(W.map dO)[t]?=.b (dO<|.qW t):=by rw[bG,I];rfl
   let okd:=D _ (bb I);let kd:=Rg _ (bb I);let hd0:=air j;rw[show .aC (ek .B T i) (j+1)=.aC (ek .B T i) j++[t] by rw[dX j1,j2],kM];generalize .rP=d0 at*;simp only[cW,zQ];generalize .qW t=d at*;calc(.fL _ _ 5);calc FG (Bu (mY (j:=1)) (mY (j:=5)) .e6<|cR e5) ?_;rw[Hq];refine .kk λm Γ O'=>Γ=[.cq,.du<|W.map dO,.b3,.b<|yN g T i,.K u,.J t,none,none]/\O'=[(.lC Y),.r5,(u,dO (g_ d0<|d.take m))]
   .intro m w _ _ G [rfl,rfl];let[p,R,rfl]:=dw G;let[M,m2]:=.bd R;let Rh:=Rf hd0 (e:=d.take m) (.dz (kd p<|o_ R));rw[show g_ d0 (d.take<|m+1)=TT.dput (g_ d0<|d.take m) p.1 (.ji<|jI (g_ d0<|d.take m) p.1+p.2) by rw[dX M,m2];unfold g_;rw[kM];rfl];generalize g_ d0 (d.take m)=dm at*;let[r,c,L]:=Q_ (O:=[(.lC Y),.r5,(u,dO dm)]) (w:=.p u) (d:=dm) (b:=p.1) .e6;calc(.gS _ _ 6 7);show iR hu (XV.xe (oK (oJ X) .az<|Bl (i:=jI dm p.1) (.bi (NY hu .e .e .e c) L) .e) (.iA _ _ (Ho Rh.1 (.dJ<|aim Rh)<|.hV .bF)<|.a2 .bW))
   .intro _ _ [rfl,rfl];rw[aj,eP];show .a2 .bW
  .intro _ _ [rfl,rfl];rw[aj,eP];calc .jb 4 [_,_] [] ?_;calc .mm q (.e5<|.cX _ .iD (by rw[oA];show lt_size .a) (.a2<|.aX .a ?_));unfold aX;rw[lH,bo];rfl
 .intro _ _ [_,rfl,rfl];rw[oA];show .jb 2 [_] [] (.gn k)
def ais{b r}{h}(hw:∀n∈r,n<=.bc):∀n∈g9 B U b r h,n<=.bc:=λn t=>by
 unfold g9 at t;split at t
 .split at t
  .let z|||z:=aow t
   .show hw n z
   .rw[z];show .ao
  .show hw n t
 .let z|||z:=aow t
  .show hw n z
  .rw[z];show Hm _
def zN(F:.h):=.fQ .jc
def ait:.oq:=λa Y c r=>∃n d G D b,c=[ai b]/\fl a Y "below"=.du (.kC (.is h) n)/\fl a Y "units"=.du (.hB (dO<|G h) n)/\fl a Y "order"=.bY D/\.cU=n/\n<=20/\(∀h∈D,h<n)/\(∀h,h<n->.ae (d h) 20/\∀o∈d h,o<n)/\(∀h,h<n->∀p∈G h,p.1<n/\p.2<=.bc)/\r=ai (yu d G b D n)
def aiu:.cd [.cC,"bases",.e0,.an,"other","total","factor"] (.ca "bases") 38 15:=.Q
theorem aiv(X:.aq mg T I):c7 P w K mg T I.c "heads_from_bases" (.ca "bases") (.L<|p5 I.c ait) 3:=by
 let S:=aiu;calc X.adB.t S (λ_ _ _ {_,_,_,_,_,e,_,{_,_,_,_,_,C,_},_}=>.kY) .gd;let[a,ns,Y,_,_,rfl,rfl,[n,d,G,D,b,rfl,l1,Q,l3,B,J,hor,hb,hun,rfl],k]:=h;let hu:=dJ Z;calc .ba 2 (vr (n:=n) (u:=aa 0) .e (.gh<|by rw[aj,B]) .a .fd);refine .jy (.k3 (∃r:.h,r=.ei (.c3 i) (g9 d G b) (bL n 0)/\.iU=n/\(∀x∈r,x<=.bc)/\Γ=[.cq,.bY b,.b3,none,none,none,none]/\O'=[(.hT I.c Y),(q,ai r)]) (.ab _ rfl .f .f rfl<|by simp[ai]))
 .intro i w _ _ hi [r,hw,hwl,Ri,rfl,rfl];let[h,V,rfl]:=dw hi;let[i1,i2]:=.bd V;let t:=hor h (bb V);let hnx:.xH=g9 d G b r h:=by rw[dX i1,i2,kM,<-hw];rfl
  have L:=.n9 (aS<|.is h) t;let C:=.n9 (dO<|G h) t;let e3:=.hb b h .a;let[b1,N]:=hb h t;calc(.fL _ _ 3);let c:∀{g},g9 d G b r h=g->∃r,r=.xH/\.iU=n/\(∀x∈r,x<=.bc)/\.vK=.vK/\[(a,W.ins I.c ns Y),(q,ai g)]=[(.hT I.c Y),(q,ai r)]:=λ{g} e=>(.ht g (by rw[hnx,e]) (by rw[<-e,Gq,hwl])<|by rw[<-e];show ais Ri);refine mT (k:=.dY h<|d h) (XT.of (Ba hu .e .e<|sS (z:=(h:Int)) .w)<|by
   by_cases m:h∈d h
   .rw[.yD];simp[m]
   .rw[.xF];simp[m]) .M .M
  .let z:=.ch;refine .hW ((d h).any λo=>.ai 0 (.i4 o 0)) (iM<|.oR ((d h).map λo=>.ai 0 (.i4 o 0)) (XE.aB<|NW (κs:=(.is h).map aW) S.nd [("other",4)] .p9 (Bu (NU (mY (j:=0)) (.ge a .di) .cv (X.bW.na _ .V) l1) (mY (j:=3)) .w<|cR L) ?_) .w) (by rw[rO];rfl) .fH .fH
   .rw[show((.is h).map .oE).map kW=.cp (d h) by unfold zN;rw[a_,a_];rfl];calc fH (λo=>[.cq,.bY b,.b3,.J h,.J o,none,none]) (λo=>.bl (.ai 0<|.i4 o 0)) .a (λo ho p acc s0 H0 C' cl fp=>(.bM<|.dS 4)) (.mB p<|by rw[dR,a_];rfl);let e5:=.hb b o (.dJ<|N o ho);show .gh (.dN W.bl .oH)
   .calc qP (j:=h) (XV.xe (vT (vS X) .az) .wE);rw[show .c5 ((r.map aa).set h<|aa .bc)=ai (r.set h .bc) by rw[ai,w8]];show aD (.eG (c<|by unfold g9;rw[.r z,.r y]))
   .show .eG (c<|by unfold g9;rw[.r z,.x<|by rw[y];simp])
  .let z:=.cr;calc .gx 5 (.kH<|cR e3);calc FG (Bu (NU (mY (j:=0)) (.ge a .di) .cv (X.bW.na _ .V) Q) (mY (j:=3)) .w<|cR C) ?_;rw[Hq];refine .kk λm Γ O'=>Γ=[.cq,.bY b,.b3,.J h,none,.J .zF,none]/\O'=[(.hT I.c Y),(q,ai r)]
   .intro m w _ _ hm [rfl,rfl];let[p,R,rfl]:=dw hm;let[M,m2]:=.bd R;let up:=hun h t p (bb R);let e6:=.hb r p.1 .a;rw[show qZ r (.aC (G h)<|m+1) (.i4 h 0)=.zF+p.2*r.getD p.1 0 by rw[dX M,m2];unfold qZ;rw[kM];rfl];calc(.gS _ _ 4 6);let wl:r.getD p.1 0<=.bc:=Ri _ (bb<|jQ .a);show vp (j:=5) uF S.nd rfl (tH .e (.kH<|cR e6) up.2 wl) (.a2 .bW)
   .intro _ _ [rfl,rfl];rw[aj,eP];calc qP (j:=h) (XV.xe (oK (oJ X) .az .e) .wE);rw[show .c5 ((r.map aa).set h<|aa .zE)=ai (r.set h .zE) by rw[ai,w8]];show .eG (c<|by unfold g9;rw[.x z])
 .intro _ _ [r,rfl,_,_,rfl,rfl];rw[aj,eP];show .jb 2 [_] [] (.gn k)
noncomputable def cD(g:aQ)(u:.h):=.hM (.bw<|.ic .B b u)
noncomputable def c9(g:aQ)(tl:.eU)(u:.h):=tl.map λl=>.b0 (aU .mc l u)
def mm:(.m<|cD g u)=.o:=by unfold cD;simp
def rB:(.m<|c9 g tl u)=.cc:=by unfold c9;simp
def Ce:∀n∈cD g u,n<=.bc:=.sG (.Y h)<|qG _
def Hr:∀n∈c9 g tl u,n<=.bc:=.sG (.Y h)<|qG _
def p6{b}(h:b<.o):.fX (cD g u) b=.ic .B b u:=by unfold cD;rw[cK,bG,o6 h];rfl
def v3{tl}{u}{t}{l}(h:tl[t]?=.b l):.dp (c9 g tl u)=.b0 (aU .mc l u):=by unfold c9;rw[cK,bG,h];rfl
def aiw g tl v:TT.Known .B tl .o (cD g) (c9 g tl) v:=(.c (λ_ h=>p6 h) λ_ _ h=>v3 h)
def ft(u:.h):TK:=(u.map λ(c:Nat)=>(aW (c:Int))).map eH.at
def tN:∀{u v},ft u=ft v->u=v
 |[],[],_=>rfl
 |[],_::_,h=>by simp[ft] at h
 |_::_,[],h=>by simp[ft] at h
 |x::u,y::v,h=>by simp only[ft,bx,y9,eH.at.injEq,U2] at h;rw[tN (u:=u) (v:=v) h.2,.dg<|x=y]
def bc(u:.h):W:=.am<|u.map aa
def yP u:bc u=fT (ft u):=by unfold bc fT ft;rw[a_,a_];rfl
structure CD where
 g:aQ
 n:Nat
 tl:.eU
 rests:.h
 bM:.h
 bl:.gp
 un:.bn .bK
 order:.h
structure CD.Ok(d:CD):Prop where
 gr:et d.g d.n
 tl:rp d.g d.n d.tl .hj d.bM
 bel:yt .a6 (g6 .al) d.bl
 fw:∀h,h<.a6->.ae (d.bl h) 20/\∀o∈d.bl h,o<.a6
 unit:∀a,a<.a6->fk .a6 (iL .al (TT.T .al) a) (d.un a)
 ord:Gp .a6 (g6 .al) d.order
 aix:∀h∈d.order,h<.a6
noncomputable def CD.fs(T:af)(d:CD)(x y:W):=[pY T d.g d.n d.tl .hj d.bM,ai<|.fI [],ai<|.gJ [],vZ .q4,.Z<|.hB (dO<|d.un h) .a6,.Z<|.kC (zN<|d.bl h) .a6,ai d.order,x,y]
noncomputable def CD.hW(d:CD)(us:.b8):W:=.dT (us.map ft)<|us.map λu=>ai (.fI u)
noncomputable def CD.tW(d:CD)(us:.b8):W:=.dT (us.map ft)<|us.map λu=>ai (.gJ u)
noncomputable abbrev CD.O(C T:af)(d:CD)(a N o:af)(us:.b8):OM:=[(.eD a C cF (d.fs T (.p N)<|.p o)),(N,d.hW us),(o,d.tW us)]
def CD.hv{d:CD}{us}{u}{O}{w}(h:Is O w (d.hW us))(m:u∈us):eM O w (bc u) (.bY<|.fI u):=.wD
def CD.tv{d:CD}{us}{u}{O}{w}(h:Is O w (d.tW us))(m:u∈us):eM O w (bc u) (.bY<|.gJ u):=.wD
theorem CD.hn{d:CD}{us}{u}{O}{w}(h:Is O w (d.hW us)):eM O w (bc u) (.kZ (u∈us) (.bY<|.fI u)):=by
 by_cases m:u∈us
 .rw[.r m];show CD.hv h m
 .rw[.x m];have:=eM.t (k:=ft u) h (yP u);rwa[Bs λx D e=>m (.oF<|tN e)] at this
def Cf{u}{k}(he:.cH a e (bc u))(hi:.cH a i (aa k)):.cH a (.hL e<|.p0 (.b i) none p2) (bc<|u.drop k):=by have:=Fp (p2:=p2) (pos:=pos) (lo:=.b i) (hi:=none) (l:=.b .lD) (h:=none) he hi .aF;rwa[FE,<-uk] at this
def Ht{u}{k}(he:.cH a e (bc u))(hi:.cH a i (aa k)):.cH a .yy (bc<|.et k):=by have:=Fp (p2:=p2) (pos:=pos) (lo:=none) (hi:=.b i) (l:=none) (h:=.b .lD) he .aF hi;rwa[NR,<-qo] at this
def Rj{u}{k j}(he:.cH a e (bc u))(hi:.cH a i (aa k))(J:.cH a f (aa j)):.cH a (.hL e<|.p0 (.b i) (.b f) p2) (bc (.aC (u.drop k)<|j-k)):=by have:=Fp (p2:=p2) (pos:=pos) (lo:=.b i) (hi:=.b f) (l:=.b .lD) (h:=.b (j:Int)) he hi J;rwa[NS,<-uk,<-qo] at this
def yQ(C T:af)(F:CD->.b8->.aT->.l6):bT:=λe O K=>∃a d N o c b r,e=.T::b/\O=.cb C T c/\d.Ok/\F d c b r/\K r (.cb C T c)
def aiy(C T:af):bT:=λc O F=>∃a d x y b Y,c=[.T]/\O=[(.eD a C b Y)]/\(b=cF/\Y=CD.fs T d x y\/b=cF.take 7/\Y=.aC (CD.fs T d x y) 7)/\∀N o,F .non (.cb C T [[]])
def aiz:.cd .e4 .e4 38 1:=.Q
def Rk(X:.aq b i l):c7 P w K b i l.c "forget" .e4 (.L<|aiy l.c l.t) 1:=by
 let S:=aiz;calc X.adC.t S .rk .sx;let[a,d,x,y,j,Y,rfl,rfl,J,k]:=h;let R:=dJ Z;let c:(W.tup [])=fT (ft []):=rfl;let[rfl,rfl]|||[rfl,rfl]:=J
 .calc .uM;calc .uL;show .j6 (k N o)
 .calc .uM;calc .uL;show .j6 (k N o)
def aiA{n}(h:.ec=n):(.m<|fL dy w I ts)=n:=by rw[sZ,h]
def aiB(h:n<=TT.MW):.ji n=n:=by unfold TT.settle;rw[.r h]
def aiC(Q:iW tl .af){b}:∀p∈qV tl .af b,p.1<.cc/\p.2<.cc:=λ#[t,r] R=>by
 let[rfl,l,e]:=BD.mp R;let B:=(.aw e);calc(.bM B);let rfl|||h:=o5 t
 .rw[Q.zero] at e;cases e
 .let[_,_,_,A,_]:=Q.step t h B;change .hc t<_;lia
def aiD(Q:iW tl .af){b}:∀p∈k9 tl .af b,p.1<.cc/\p.2<.cc:=λ#[t,r] R=>by
 let[rfl,_,_,l,e,_]:=yk.mp R;let B:=(.aw e);calc(.bM B);let rfl|||h:=o5 t
 .rw[Q.zero] at e;cases e
 .let[_,_,_,A,_]:=Q.step t h B;change .hc t<_;lia
noncomputable def CD.parted(d:CD)(u:.h):=(pQ d.tl .hj .a6 (cD d.g) (c9 d.g d.tl) u).map TT.settle
def Below(us:.b8)(u:.h):=(∀c,0<c->c<=.ee->u.drop c∈us)/\∀c,c<.ee->.et c∈us
def aiE:CD->.b8->.aT->.l6:=λd b a r=>∃u,a=[bc u]/\u≠[]/\Below b u/\.ee<=24/\(∀c∈u,c<d.n)/\r=ai .kz
def aiF:.cd [.cC,.kx,"totals","cut","rest_ways",.an,.e0,"total"] (.ca .kx) 38 13:=.Q
def aiG(X:.k9 P w K T):c7 P w K mg base T.c "parted_ways" (.ca .kx) (.L<|yQ T.c T.t aiE) 3:=by
 let S:=aiF;calc X.adD.t S (λ_ _ _ {_,_,_,_,_,_,_,e,_,_,{_,C,_},_}=>.kY) λf v A outer s H E ws O F Z h=>?_;let[a,d,N,o,us,_,_,rfl,rfl,Q,[u,rfl,hu0,Y,hl,V,rfl],k]:=h;let R:=dJ Z;let r:=Q.tl.bS
 obtain⟨U,g,rfl⟩:∃a b,u=a::b:=by cases u with
  |nil=>show .hs hu0
  |cons a b=>show(.g a b rfl)
 let L:(aX (B7 d.tl .hj) d.n)[U]?=.b (B7 d.tl .hj U):=ie (V U .f);calc .ba 2 (vr (n:=.h6) (u:=aa 0) .e .pG .a .fd);calc .gi ((q,ai<|bL .h6 0)::.cb T.c T.t us) (by rw[ai,aox];show fX (l₂:=[_])) ?_;calc b_ (.gl (Qv X)<|.df (.gz (aa 1)<|.f5 (bV<|k9 d.tl .hj U) (cM .e (A_ .e .e (.bX (jb _ .mT=_)<|cR rfl)) .e6<|cR L) (ae (.rD R (Cf (k:=1) .e .e) (CD.tv .e6<|Y.1 1 .V .f))<|ak {[_],_,rfl,q,1,_,_,_,rfl,rfl,.fp,Hr,by rw[JD,rB];show aiD Q.tl.tok,?_})));generalize Rm:fL (.gJ (List.drop 1<|U::g)) 1 (bL .h6 0) (k9 d.tl .hj U)=y;let c:y.length=.h6:=by rw[<-Rm,sZ,JD]
 refine cu (om (m:=1) (n:=(.m<|U::g)) .e .pG .V .a (.k3 (∃I:.h,I=.k2 i (ng d.tl .hj .a6 (cD d.g) (c9 d.g d.tl)<|U::g) y/\.ec=.h6/\Γ=[.cq,.eH<|U::g,.b3,none,none,none,none,none]/\O'=(q,ai I)::.cb T.c T.t us)<|.gs _ rfl c)<|.eo .es)
 .intro i w _ _ hi [I,ht,B,rfl,rfl];let[hi,rfl]:=iS hi;calc(.en _ (.dS 3) (.gx 4<|.rD R (Cf (k:=1+i) .e .e) (CD.tv .e6<|Y.1 (1+i) .a .a)));refine cu (vq (XV.xe (.rD R (Ht (k:=1+i) .e .e) (CD.hv .e6<|Y.2 (1+i) .a))<|.bZ (.gD (λj Γ O'=>∃M:.h,M=.k2 j .uK I/\M.length=.h6/\Γ=[.cq,.eH<|U::g,.b3,.J<|1+i,.bY<|.gJ (.nm U g<|1+i),none,none,none]/\O'=(q,ai M)::.cb T.c T.t us)<|.gs _ rfl B))<|.eo .jS)
  .intro j w _ _ hj [M,W,G,rfl,rfl];let[_,J,rfl]:=x_ hj;let[x,Hu,rfl]:=dw J;let hjn:j<.a6:=by have:=(.aw Hu);rwa[mm] at this
   let D:.fX (.fI (.aC (U::g)<|1+i)) j=x:=by rw[cK,Hu];rfl
   let hxe:=Ce x (bb Hu);let C:(aX (B6 d.tl .hj) .a6)[j]?=.b (B6 d.tl .hj j):=ie hjn;let st:.k2 (j+1) .uK I=.A (0<x) (fL (.gJ (.nm U g<|1+i)) x M<|qV d.tl .hj j) M:=by rw[lH,kM,<-W];change jH _ _ _ _ M j=_;unfold jH;rw[D]
   calc(.gS _ _ 5 6);refine .hW (.ai 0 x) .aH .oH .M .M
   .let z:=.ch;calc b_ (.gl (Qv X) (.df<|.gz (aa x) (.f5 (bV<|qV d.tl .hj j) (.kH<|cR C)<|.g2 {[_],_,rfl,q,x,_,_,_,rfl,rfl,hxe,Hr,by rw[G,rB];show aiC Q.tl.tok,?_})));show .eG (.gs _ (by rw[st,.r z])<|aiA G)
   .let z:=.cr;show .a2 (.gs _ (by rw[st,.x z]) G)
  .intro _ _ [M,W,G,rfl,rfl];calc .a2 (.gs M ?_ G);rw[W,lH,kM,<-ht,show(.m<|jg (.cp<|.fI (.aC (U::g)<|1+i)))=.a6 by simp[jg,mm],zv 1 i];rfl
 .intro _ _ [I,ht,B,rfl,rfl];calc .qB 2 [] ?_;let e:d.parted (U::g)=I.map TT.settle:=by unfold CD.parted pQ;rw[ht,<-Rm,show(.m (cq 1<|(.m<|U::g)-1))=(.m<|U::g)-1 by simp[cq]];rfl
  rw[e] at k;calc .mb (.ju [("total",7)]<|fH (λn=>[.cq,.eH<|U::g,.bY I,none,none,none,none,.J n]) (λn=>aa<|.ji n) .a (λn t p acc s H C' cl fp=>(.bM<|.dS 7)) (.mB p<|by rw[ai,a_];rfl)) (.ay k);refine sQ (k:=.iZ n TT.MW) (.lL (.bX (.iZ .dZ (.cg (TT.MW:Nat))=.iZ n TT.MW)<|.iC Int.ofNat_le)) (.s (.gh<|.dN aa (aiB .ch).symm)) (.s<|oK (oJ X) .az .e)
def dz:∀{ns} {Y},m∉ns->.H (fl ns Y m)
 |[],_,_=>rfl
 |_::_,[],_=>rfl
 |n::ns,f::Y,h=>by
  let B:(m==n)=.j:=by rw[beq_eq_false_iff_ne];intro e;show h .le
  change .H (amK m<|(n,f)::ns.zip Y);rw[C4,B];show dz (.s<|h .m1)
def aiH n:cq 0 n=.dt n aa:=by unfold cq;rw[aoy];rfl
def Rn c:.ai 0 (.b0 c)=.bC (c≠TT.c0):=by
 by_cases h:c=TT.c0
 .rw[h,jB];rfl
 .simp[h,sD h]
section
variable{ad hd td:af}
def aiI{k l}(J:.iT a k)(Y:.n k->.iT b l):.iT (.iK .And [a,b]) (k&&l):=.mk λc H U s Q q=>
 (.D (VX .E<|Kf .E)<|J c H U s _ (.dU<|.g k r (by
  cases k with
  |true=>show kX .wC
  |false=>show kU (q _ A P I rfl))))
def yR{h:Sem Bool}(c:c7 .ar X.w X.K X.mg .dj C m i (.L<|yQ C T F) k)(cl:gD X.K C)(Z:.fV)(l:.ks u (.qc C T ad hd td us++R) o (.p ad))(G:m∉cF)(Q:d.Ok)(J:.oi X u (.qc C T ad hd td us++R) (e::es) (F d us ws r/\O1=.qc C T ad hd td us++R))
  (N:.gb e=.eF::.ga:=by rfl) (g:.hS=.j:=by rfl)
  (B:.mv m j (e::es) pos=(do
   let b<-.d1
   .mX
   let(f,a)<-gw [b] (oW b m h)
   .wB):=by rfl):=
 XE.xv (dM c cl Z l (.ge ad .di) (dz G) (J.mono λws O1 #[f,z]=>{.qc C T ad hd td us,R,z,ad,d,hd,td,us,ws,r,rfl,rfl,Q,f,rfl,rfl}) N g B)
end
def aiJ:CD->.b8->.aT->.l6:=λd b a r=>∃t l v,a=[aa t,bc v]/\d.tl[t]?=.b l/\v∈b/\r=.bl (ni .al l v)
def aiK:.cd (.jF .c0) (.jF .c0) 38 8:=.Q
def Ro(X:.aq j b c):c7 P w K j b c.c "tail_covers" (.jF .c0) (.L<|yQ c.c c.t aiJ) 1:=by let S:=aiK;calc X.adE.t S (λ_ _ _ {_,_,_,_,_,_,_,e,_,_,{_,_,_,C,_},_}=>.kY) λf m A U s H E o O F Z h=>?_;let[a,d,hd,td,n,_,_,rfl,rfl,Q,[t,l,v,rfl,g,p,rfl],k]:=h;let R:=dJ Z;let L:=.hb (.gJ v) t (by rw[rB];show(.aw g));rw[v3 g] at L;calc .mb (.bi (oe b9.gt (.sn (.mn R<|CD.tv .e6 p) .w<|cR L) .e<|fb _)<|.dN W.bl ?_) (.ay k);show .uJ
def aiL:CD->.b8->.aT->.l6:=λd c a r=>∃s v,a=[eh s,bc v]/\(.bu (s=.eW)<|b<.a6)/\v∈c/\r=.bl (oE .al s v)
def aiM:.cd (.jF .ed) (.jF .ed) 38 9:=.Q
def aiN(X:.aq r c g):c7 P w K r c g.c "symbol_covers" (.jF .ed) (.L<|yQ g.c g.t aiL) 1:=by
 let S:=aiM;calc X.adF.t S (λ_ _ _ {_,_,_,_,_,_,_,e,_,_,{_,_,C,_},_}=>.kY) λf t A U s H E u O F Z h=>?_;let[a,d,hd,td,x,_,_,rfl,rfl,Q,[n,v,rfl,m,p,rfl],k]:=h;let R:=dJ Z;cases n with
 |non b=>let L:=.hb (.fI v) b (by rw[mm];show m b rfl);rw[p6<|m b rfl] at L;calc .kP .aH;calc .mb (.bi (oe b9.gt (cM (.mn R<|CD.hv .e6 p) (A_ .e .e<|by tm_at "ai") .w<|cR L) .e<|fb _)<|.dN W.bl ?_) (.ay k);show .uJ
 |range j o=>
  calc .mj .aH;refine .mb (.bi (aiI (k:=.aj .jY 1) (l:=.bC<|j<=v.getD 0 0/\v.getD 0 0<=o) (.gh (.dN W.bl<|by rw[aj,gx];simp;lia)) .M)<|.dN W.bl ?_)<|.ay k
  .let z:=.ch;match v,z with
   |[b],_=>show .bi (M9 mJ mJ .e (A_ .e .e rfl) .e) (.dN W.bl .oH)
  .unfold oE;match v with
   |[]=>simp[bH]
   |[b]=>by_cases q:j<=b/\b<=o<;>simp[bH,q]
   |_::_::_=>simp[bH]
def aiO:CD->.b8->.aT->.l6:=λd a b r=>∃t s l v,b=[aa t,bc v]/\d.tl[t]?=.fS s/\.jY<=24/\(∀c,c<=.jY->v.take c∈a/\v.drop c∈a)/\r=ai (fz .al s l v)
def aiP:.cd [.cC,.c0,.kx,.ed,"rest","size","sizes"] (.jF .c0) 38 10:=.Q
def aiQ(X:.aq T u x):c7 P w K T u x.c "sizes_of_first" (.jF .c0) (.L<|yQ x.c x.t aiO) 2:=by
 have S:=aiP;calc X.adG.t S (λ_ _ _ {_,_,_,_,_,_,_,e,_,_,{_,_,_,_,C,_},_}=>.kY) λf N A U s H E ws O F Z h=>?_;let[a,d,hd,td,G,_,_,rfl,rfl,Q,[t,b,l,v,rfl,q,Y,y,rfl],k]:=h;let hu:=dJ Z;let[o,_]:=.bd q;let g:0<t:=by
  let rfl|||h:=o5 t
  .rw[Q.tl.tok.zero] at q;cases q
  .show h
 let[J,l',M,B,W]:=Q.tl.tok.step t g o;rw[q] at M;cases M;let L:=vU q;let C:=.hb .hj t (by rw[Q.tl.tok.len];show o);let r:=(Q.tl.syms _ (bb q) b .f).1;calc .gx 3 (.kH<|cR L);calc .gx 4 (.kH<|cR C);calc .l0 6 S.nd [("size",5)] (.si (.jY+1) .pG ?_<|.eo .es);rw[aiH];refine lc (.bg [.cq,.J t,.eH v,.kE b,.J<|d.rests.getD t 0,.J c,none]) (.bg (oE .al b<|v.take c)) aa (by rw[mE];lia) .vJ .hQ
 .let V:=c4.mp V;show iM (yR (R:=[_]) (aiN X) .cv .az .e .V Q<|.df (ae (Ht (k:=c) .e .e)<|ak (.a5<|.gE b _ rfl r (y c .a).1)))
 .calc .jb 6 (.t3 x.c x.t hd td G) [] ?_;refine .mb (.ju [("size",5)]<|lc (.bg [.cq,.J t,.eH v,.kE b,.J<|d.rests.getD t 0,.J c,.bY (.dx (aq<|.jY+1)<|.bg (oE .al b<|v.take c))]) (.bg (ni .al l<|v.drop c)) aa ?_ .vJ (.mB p ?_))<|.ay k
  .show bC (lM _ _) (by rw[mE];lia)
  .let V:=c4.mp (.lr V);show iM (yR (R:=[_]) (Ro X) .cv .az .e .V Q<|.df (ae (Cf (k:=c) .e .e)<|ak (.a5<|.fD _ _ _ rfl W (y c .a).2)))
  .rw[z0];have:(.bg<|ni .al l (v.drop c)&&oE .al b (v.take c))=.bg (oE .al b (v.take c)&&ni .al l (v.drop c)):=funext (.bg<|Bool.and_comm _ _);rw[this];rfl
noncomputable def CD.without(d:CD)(u:.h):=jh .q4 (.fI []) (.gJ []) .kz<|bL .a6 0
noncomputable def CD.bases(d:CD)(u:.h):=.dt .a6 (λa=>.ji<|.og (ek .al d.bM a) λt=>.dp .mU)
def Hv:∀l:.h,(l.sum)=(.hG .jc)
 |[]=>rfl
 |a::l=>by rw[ui,bx,ui,Int.natCast_add,Hv l]
def aiR{l:.h}:∀n∈.bA TT.settle,n<=.bc:=λn h=>by let[m,_,rfl]:=.Y h;show Hm _
def CD.oD{d:CD}{u}:(.m .kz)=.h6:=by unfold CD.parted;rw[aj,TT.oD]
section
variable{d:CD}(ok:d.Ok){u:.h}(hu:u≠[])(hl:.ee<=24)
include ok
def CD.Ok.non(t:Nat) b l(h:d.tl[t]?=.fS .eW):=(ok.tl.syms _ (bb h) _ .f).1 b rfl
def CD.Ok.aiS(h:g6 .al a b):b<.a6:=by
 have:∃r∈d.g.rules,(.A (.C=a) (TT.Uc (TT.T .al) .O b) TT.c0)≠TT.c0:=.s0
 let[r,Z,h]:=this;split at h
 .let[o,U,e,_]:=A0 h;show ok.gr.wf.non r Z b .oD
 .show .hs h
theorem CD.Ok.loose:∀p∈.q4,p.1<.h6/\p.2.1<.h6/\p.2.2<.a6:=λ#[t,r,b] R=>by
 let[a,B,e]:=jS.mp R;let B:=c4.mp B;let L:d.tl[a]?=.b (d.tl.getD a []):=jQ B;unfold iX at e;split at e
 .rename_i y V q;split at e
  .cases e;rw[q] at L;let rfl|||T:=o5 t
   .rw[ok.tl.tok.zero] at L;cases L
   .let[_,_,_,A,_]:=ok.tl.tok.step t T B;show(.g B (.pW<|d.rests.getD t 0<_)<|ok.non _ _ _ L)
  .cases e
 .cases e
include hu hl
def CD.Ok.part t s l(h:d.tl[t]?=.fS s):.dp .kz=.b0 (lU (TT.T .al) s l u):=by have:=aeO (nons:=.a6) (hw:=cD d.g) (tw:=c9 d.g d.tl) ok.tl.tok hu (.lB hl) ok.non (λi j _ _ _=>aiw _ _ _) h;rw[<-this];unfold CD.parted;let B:=(.aw h);rw[cK,bG,jQ (d:=0)<|by rw[TT.oD];show B];rfl
theorem CD.Ok.part0:.fX .kz 0=0:=by unfold CD.parted;let T:=(.aw ok.tl.tok.zero);rw[cK,bG,jQ (d:=0)<|by rw[TT.oD];show T,aeP ok.tl.tok];rfl
theorem CD.Ok.bases a(J:a<.a6):.fX (d.bases u) a=.b0 (mN .al (TT.T .al) a u):=by unfold CD.bases;rw[cK,bG,o6 J];let w:=aeQ ok.tl.tok (nons:=.a6) (.hx<|p6 h) (λt l h=>v3 h) ok.non (parted:=.kz) CD.oD (ok.part0 hu hl) (ok.part hu hl) .a6;have:=Pa (vals:=.mU) (F:=λl=>TT.Bc (TT.T .al) l u) (tl:=d.tl) (λt l h=>w t l h) a (rs:=.al) (bM:=d.bM) ok.tl.len.symm ok.tl.rule;show this.settle (.lB ok.gr.rules)
def CD.Ok.heads:yu d.bl d.un (d.bases u) d.order .a6=.fI u:=by
 let h:=afj (rs:=.al) (n:=.a6) (λr Z b Y=>ok.gr.wf.non r Z b Y) (.lB<|Nat.succ_le_succ ok.gr.nons.2) hu ok.bel (λa b h=>ok.aiS h) ok.unit (ok.bases hu hl) ok.ord;apply qr;intro i;by_cases c:i<.a6
 .rw[jQ (d:=0)<|by rw[O8];show c,jQ (d:=0)<|by rw[mm];show c,h i c,p6 c]
 .rw[iB<|by rw[O8];lia,iB<|by rw[mm];lia]
def CD.Ok.BE:jh .q4 (.fI []) (.gJ []) .kz (.fI u)=.gJ u:=by
 let h:=aeR ok.tl.tok (nons:=.a6) (.hx<|p6 h) (λt l h=>v3 h) ok.non (parted:=.kz) CD.oD hu (ok.part0 hu hl) (ok.part hu hl) (heads:=.fI u) (.hx<|p6 h);apply qr;intro i;by_cases a:i<.h6
 .rw[jQ (d:=0)<|by rw[BF,CD.oD];show a,jQ (d:=0)<|by rw[rB];show a,h i _<|jQ (d:=[]) a,v3<|jQ (d:=[]) a]
 .rw[iB<|by rw[BF,CD.oD];lia,iB<|by rw[rB];lia]
end
def CD.aiT{d:CD}{us}{u}(h:u∉us)(hz:.eg .lj){O O'}{q}(p:bR q (d.hW us) (d.hW<|us++[u]) O O'):iQ q (bc u) (ai<|.fI u) O O':=by let n:=.rj (ft u) ft (λu=>ai<|.fI u) us (ai<|.fI u) (h (.oF<|tN e));calc .t (k:=ft u) (ks:=us.map ft) (ws:=us.map λu=>ai (.fI u)) (yP u) (.nx hz) ?_;rw[n.1,n.2];unfold CD.hW at p;rw[bo,bo] at p;show p
def CD.aiU{d:CD}{us}{u}(h:u∉us)(hz:.eg .lj){O O'}{q}(p:bR q (d.tW us) (d.tW<|us++[u]) O O'):iQ q (bc u) (ai<|.gJ u) O O':=by let n:=.rj (ft u) ft (λu=>ai<|.gJ u) us (ai<|.gJ u) (h (.oF<|tN e));calc .t (k:=ft u) (ks:=us.map ft) (ws:=us.map λu=>ai (.gJ u)) (yP u) (.nx hz) ?_;rw[n.1,n.2];unfold CD.tW at p;rw[bo,bo] at p;show p
def aiV(C T:af):bT:=λe O F=>∃a d N o b u,e=[.T,bc u]/\O=.cb C T b/\d.Ok/\u≠[]/\u∉b/\Below b u/\.ee<=24/\(∀c∈u,c<d.n)/\.eg .cU/\F .non (.cb C T<|b++[u])
def aiW:.cd [.cC,.kx,"parted","without","wholes",.c0,"bases","heads"] (.ca .kx) 38 12:=.Q
def aiX(X:.aq mg g l):c7 P w K mg g l.c "count_piece" (.ca .kx) (.L<|aiV l.c l.t) 4:=by
 let S:=aiW;calc X.adH.t S .rk .gd;let[a,d,N,o,us,u,rfl,rfl,ok,C,y,Y,hl,Q,L,k]:=h;let hu:=dJ Z;let r:=ok.tl.bS;let z:=ok.gr.nons.2;calc .gx 2 (yR (R:=[]) (aiG X) .cv .az .e .V ok (.iq<|.fD u rfl C Y hl Q));let J:∀{c:.h},.c9=.a6->(∀n∈c,n<=.bc)->Ra cF (d.fs l.t (.p N)<|.p o) [ai .kz,ai c] (ai<|jh .q4 (.fI []) (.gJ []) .kz c):=λ{c} B M=>{_,_,_,_,_,rfl,rfl,rfl,rfl,λp G=>by have:=ok.loose p G;rw[CD.oD,rB,mm,B];show(.I this.1 (.iw).1 (.iw).1 (.iw).2 (.iw).2),Ce,Hr,aiR,M,rfl};calc .cV 3 (ai .mU) (tL (Rb X) .cv .az .e .fY (.df<|.d9 (ai<|bL .a6 0) (XE.aB<|vr (n:=.a6) (u:=aa 0) .e (.gh<|by rw[oA]) .a (.mB p<|by rw[ai,aox])) (.a5<|J .f (λn y=>.jR (aoz y)<|eY _))));let wl:(.m .mU)=.h6:=by unfold CD.without;rw[BF,CD.oD]
 calc .l0 6 S.nd [("wholes",4)] (.lP ?_);refine fH (.bw [.cq,.eH u,.bY .kz,.bY .mU,.b<|yN d.g d.bM b,none,none,none]) .vb (by rw[mE];lia) (λb Gr p I s H m cl T=>(.jE 4<|oK (oJ X) .az (.bi (NQ (ns:=((ek .al d.bM b).map λt=>.dp .mU).map .jc) (.eo "sum") (.ju [(.c0,5)]<|fH (λt=>[.cq,.eH u,.bY .kz,.bY .mU,.b<|yN d.g d.bM b,.J t,none,none]) (λt=>aa<|.dp .mU) ?_ (λt ht p I s H m cl T=>(.bM<|.dS 5)) .bs)<|.z ?_)<|.dN .cJ (Hv _).symm))) .hQ
 .show bC (qu _ _) (by rw[uu,ok.tl.len];have:=ok.gr.rules;lia)
 .have Rp:t<.h6:=by
   let[x,D,e]:=jS.mp ht;split at e
   .cases e;let[i,hi]:=jW D;let[B,M]:=JR.mp hi;show(.aw<|ok.tl.rule i _ _ B M)
   .cases e
  show .kH (cR<|fo .a)
 .change .c5 _=.c5 _;rw[a_,a_];rfl
 .calc .jb 6 (.cb l.c l.t us) [] ?_;rw[show .c5 (.dt .a6 .vb)=ai (d.bases u) by rw[ai,CD.bases,a_];rfl];calc .cV 7 (ai<|.fI u) (tL (aiv X) .cv .az .e .fY<|.iq {.a6,d.bl,d.un,d.order,d.bases u,rfl,rfl,rfl,rfl,by simp[CD.bases],z,ok.aix,ok.fw,λh V p G=>(.c ((ok.unit h V).2.1 p G).1 (.jR ((ok.unit h V).2.1 p G).2.1<|qG _)),by rw[ok.heads C hl]});calc iR (q:=N) hu (.e5<|.iA _ _ (CD.aiT y L .iD) ?_);calc iR (q:=o) hu (.dH (ai<|.gJ u) (tL (Rb X) .cv .az .e .fY (.jC<|by rw[<-ok.BE C hl];show J mm Ce))<|.iA _ _ (CD.aiU y L<|.hV .bF) ?_);show .j6 k
abbrev eD(x:.h)(p s:Nat):=.aC (x.drop p) s
structure Kn(us:.b8):Prop where
 nil:[]∈us
 cl:∀u∈us,∀i j,eD u i j∈us
theorem Kn.one:Kn [[]]:=(.ft λu R i j=>by rw[.d4 R];simp[eD])
theorem Kn.add(h:Kn us){u}(Y:Below us u):Kn (us++[u]):=by
 calc(.c (by simp[h.nil]) λv p i j=>?_);let p|||p:=.c7 p
 .show .oW (h.cl v p i j)
 .rw[.d4 p];by_cases T:0<i/\i<=.ee
  .calc .oW ?_;have:=h.cl _ (Y.1 i T.1 T.2) 0 j;simpa[eD] using this
  .by_cases B:i=0
   .subst B;by_cases M:j<.ee
    .show .oW (by simpa[eD] using Y.2 j M)
    .show cx.mpr (.F<|by simp only[eD,Dd];rw[nL .a];simp)
   .calc .oW ?_;rw[show eD u i j=[] by unfold eD;rw[Jk .a];simp];show h.nil
def aiY(C T:af):bT:=λe O F=>∃a d N o b x,e=[.T,bc x]/\O=.cb C T b/\d.Ok/\.W<=24/\(∀c∈x,c<d.n)/\Kn b/\.dc .cU/\∀N o b,Kn b->.dc .cU->x∈b->F .non (.cb C T b)
def aiZ:.cd [.cC,.cm,"size","start",.kx] (.ca .cm) 38 11:=.Q
theorem ai0(X:.aq L r l):c7 P w K L r l.c "count_pieces" (.ca .cm) (.L<|aiY l.c l.t) 5:=by
 let S:=aiZ;calc X.adI.t S .rk .gd;let[a,d,N,o,b,x,rfl,rfl,Q,hl,V,C,g,k]:=h;let J:=dJ Z;refine .n6 (.ai 3000 .cU) (λu y=>∃N o b,Kn b/\.cU<=3000/\.vI) (XT.of (g7 b9.gt (Bw (.eo .dm) .e (.cE N) .f) .e<|fb _)<|by rw[aj,gx];simp;lia) (.s<|.fD N o b C (.dJ .cr) rfl) ?_
 .calc b_ (Bd (Rk X) .cv .az .e .e6 .fY {[_],[_,_],rfl,a,d,_,_,_,_,rfl,rfl,.io,λN o=>?_});show ar.drop (O1:=.cb l.c l.t [[]]) (.a2<|.fD N o _ Kn.one .V rfl)
 clear C g b N o;intro _ _ [N,o,b,C,g,rfl,rfl];refine cu (om (m:=1) (n:=.W+1) .e .pG .V .a (.gD (λi u y=>∃b,Kn b/\.cU<=3000+i*25/\.yE/\.vI)<|.ht b C .a λp s h _=>by rw[.dg<|s=0];simpa[eD] using C.nil)<|.eo .es)
 .intro i w _ _ G [b,C,g,R,rfl,rfl];let[G,rfl]:=iS G;calc(.fL _ _ 2);refine cu (.si (.W-i) (.bi (qN (M5 .e .e) .e)<|.dN .cJ .qL) (.gD (λj u y=>∃b,Kn b/\.cU<=3000+i*25+j/\.yE/\(∀p,p<j->eD x p (1+i)∈b)/\u=[.cq,.eH x,.J<|1+i,none,none]/\y=.cb l.c l.t b)<|.fD b C .a R (λp h=>.a) rfl)<|.eo .es)
  .clear C g R b;intro j w _ _ I [b,C,g,R,t,rfl,rfl];let[I,rfl]:=iS I;rw[qm];calc(.en _ (.dS 3)<|.cV 4 (bc (eD x j<|1+i)) (.bi (Rj (k:=j) (j:=j+(1+i)) .e .e .e)<|by rw[aoA]));let Y:Below b (eD x j<|1+i):=by
    let D:(.m (eD x j<|1+i))=1+i:=by unfold eD;rw[dZ,Jg];lia
    refine(.c (λc T B=>?_) λc B=>?_)
    .rw[D] at B;have:=R (j+c) (1+i-c) .a .a;unfold eD at*;rwa[Jh,Ub]
    .rw[D] at B;have:=R j c .a .a;unfold eD at*;rwa[anx,wM .a]
   refine .hW (.bC<|eD x j (1+i)∉b) (pK J .e .e (CD.hn<|.cE N)) (.qk (eD x j<|1+i) b) .M .M
   .let z:=.ch;refine b_<|.lH (aiX X) .cv (.g2<|.ay {a,d,N,o,b,_,rfl,rfl,Q,λe=>z<|by rw[e];show C.nil,z,Y,?_,?_,.a,?_})
    .unfold eD;rw[dZ];lia
    .show λc h=>V c (U4<|o_ h)
    .calc .eG (.fD (b++[eD x j<|1+i]) (C.add Y) (by rw[ez];simp;lia) (λp s B M=>.oW<|R p s B M) (λp h=>?_) rfl);by_cases e:p=j
     .rw[e];simp
     .show .oW (t p .a)
   .let z:=.cr;calc .a2 (.fD b C .a R (λp h=>?_) rfl);by_cases e:p=j
    .rw[e];show ph.mp z
    .show t p .a
  .clear C g R b;intro _ _ [b,C,g,R,t,rfl,rfl];let e:(.m (cq 0<|.W-i))=.W-i:=.oY
   rw[e] at g t;calc .a2 (.ht b C .a λp s B M=>?_);by_cases q:s<=i
   .show R p s q M
   .rw[.dg<|s=1+i];show t p .a
 .clear C g b;intro _ _ [b,C,g,R,rfl,rfl];let e:(.m (cq 1<|.W+1-1))=.W:=.oY
  rw[e] at g R;show .j6 (k N o b C .a<|by have:=R 0 .W .a .a;simpa[eD] using this)
def ai1(C T:af):bT:=λe O F=>∃a d N o b x h,e=[.T,aa h,bc x]/\O=.cb C T b/\d.Ok/\h<.a6/\.W<=24/\(∀c∈x,c<d.n)/\Kn b/\.dc .cU/\∀N o b,Kn b->.dc .cU->x∈b->F (aa<|.ic .al h x) (.cb C T b)
def ai2:.cd .hN .hN 38 7:=.Q
def v5(X:.aq n c l):c7 P w K n c l.c .e0 .hN (.L<|ai1 l.c l.t) 6:=by
 let S:=ai2;calc X.adJ.t S .ri .rm;let[a,d,N,o,b,x,h,rfl,rfl,Q,V,q,j,C,g,k]:=h;let R:=dJ Z;refine .n6 (.bC<|x∉b) (λu r=>∃N o b,Kn b/\.dc .cU/\x∈b/\u=[.cq,.J h,.eH x]/\r=.cb l.c l.t b) (XT.of (pK R .e .e (CD.hn<|.cE N))<|.qk x b) (.s {N,o,b,C,g,ph.mp .cr,rfl,rfl}) ?_
 .show b_ (.lH (ai0 X) .cv (.g2<|.ay {a,d,N,o,b,x,rfl,rfl,Q,q,j,C,g,λN o b B M p=>.a2 #[N,o,b,B,M,p,rfl,rfl]}))
 clear C g b N o;intro _ _ [N,o,b,C,g,D,rfl,rfl];let L:=.hb (.fI x) h (by rw[mm];show V);rw[p6 V] at L;show .mb (.sn (.mn R<|CD.hv (.cE N) D) .w<|cR L) (.ay<|k N o b C g D)
def ai3:bT:=λc O F=>O=[]/\∃n d,c=[.Z<|.kC (.is h) n]/\n<=20/\(∀h,h<n->.ae (d h) 20)/\∀D,D.Nodup->(∀a,a∈D↔a<n)->(D.Pairwise λa b=>TT.sizeOf d a<=TT.sizeOf d b)->F (ai D) []
def ai4:.aI ["below",.an,.ke,"sizes"] ["below"] 25:=.Q
def Rq(X:.aq x m T):bq P w K x m .h8 ["below"] (.L ai3) 4:=by
 let[c,Q,L]:=X.aet;let S:=ai4;calc X.aes.tl S .pm L λf A U s H E ws O F Z h=>?_;let[rfl,n,d,rfl,u,Y,k]:=h;let v:=dJ Z;refine .cV 3 (.mo .xG .cJ)<|.nA [(.an,1),(.ke,2)] (vq (.mQ (.Z<|.kC (.is h) n) ?_)<|.eo .jS)
 .rw[.bX (jg (.kC (.is h) n)=.dt n (.aQ<|.gX h (aS<|.is h)))<|UO (by simp[jg,aX]) λi B M=>by simp[jg,aX,aa]];calc fH (.aQ [.du<|.kC (.is h) n,.J h,.b (aS<|.is h),none]) (.aQ (.u<|TT.sizeOf d h)) .dV (λh V p y N o C cl G=>(.bM<|.nv 1 2)) (.mB p<|by rw[a_];rfl);let V:=c4.mp V;let r:(h:Int)∈.is h↔h∈d h:=mh;let t:(.m<|(.is h).map .oE)=(.m<|d h):=by simp[zN]
  refine sQ (k:=.dY h<|d h) (XT.of (Ba (wi:=.u h) v .e .e<|sS .e6)<|by by_cases z:h∈d h<;>simp[r,z]) (.s<|.bi (Bx (.eo .dm) .e .w) ?_) (.s<|.bi (qN (i:=(.jf<|d h)) (.bi (Bx (.eo .dm) .e .w)<|by rw[t];rfl) .e) ?_)
  .rw[t,TT.sizeOf,.r .ch];rfl
  .rw[TT.sizeOf,.x .cr];rfl
 .calc aF (XE.mono (.oO (F c [])<|acG (i:=3) (n:=n) (zs:=.xG) .zw Z rfl (.eo .eE) (.eo .es) (.bi (mW (.eo .dm) .e .w)<|by simp[aa]) .a rfl rfl rfl .f rfl rfl rfl rfl rfl (by change(("bottom_up":Str)++".<locals>.")++.nV=lN 120;decide+kernel) (λ_ _ _ _ _ _ _ _=>rfl) λl D q g=>(.d6 l rfl ?_)) λw I #[e,z]=>by subst e;show .ay z);calc k D (q.nodup_iff.mpr rS) (λa=>by rw[q.mem_iff,c4]) (g.imp_of_mem λ{a b} J Y h=>?_);let J:=c4.mp (q.mem_iff.mp J);let Y:=c4.mp (q.mem_iff.mp Y);simp[J,Y] at h;show h
theorem Hw(u:.gP)(Z:r∈.B):.n (.nS .gu .j)↔eW .mc .O≠TT.c0:=by
 rw[wJ,xN];refine(.c (λh s a=>?_) λh s a=>?_)
 .cases s with
  |non b=>show Pe.mp ((vN g .j b).mp<|h _ a).2
  |range c d=>show .aa (h _ a) (by simp[gj])
 .cases s with
  |non b=>show(vN g .j b).mpr (.c (u.non r Z b a) (Pe.mpr<|h _ a))
  |range c d=>show .hs (h _ a)
noncomputable def gP(g:aQ):=g.rules.filter (.bN<|.nS .gu .j)
def tP(u:.gP):r∈gP g↔r∈.B/\eW .mc .O≠TT.c0:=by grind[gP,Hw]
def Rr(u:.gP){a b}:Eg (eC (gP g) .o) a b↔qH .B a b:=by
 refine(.c (λ#[l,B,M]=>?_) λ#[r,B,M,A,P]=>?_)
 .let J:a<.o:=by grind[aK,eC]
  rw[pW J] at B;cases B;let[r,Z,Y]:=dP.mp M;let[Z,e]:=cZ.mp Z;have:=(tP u).mp Z;show(.I r this.1 .d (qY.mp Y) .iw)
 .let J:a<.o:=by rw[<-M];show u.lhs r B
  show(.D (pW J) (.kF r (cZ.mpr<|.c ((tP u).mpr<|.c B P) .d)<|qY.mpr A))
def Rt F:∀l:.aS,TT.Ap (.hG (λa=>.b0<|F a)) (.dL F) .ax
 |[]=>TT.Ap.zero
 |a::l=>by have:=(TT.Ap.enc<|F a).add (Rt F l);grind[bx,iK,zv]
def ai5 n:bL n (aa 0)=.cp (jk n λ_=>TT.c0):=by unfold jk;rw[a_,.lX<|(aa∘.aU (.b0 _))=.P (aa 0),Jz,mE]
def ai6{c}{x}:(.cp<|jk n c).set h (aa<|.b0 x)=.cp (jk n (.aU (.A (k=h) x<|c k))):=by unfold jk;rw[a_,a_];have:=qU (f:=aa∘.aU (.b0<|c k)) (n:=n) (j:=h) (w:=aa<|.b0 x);grind[aX,dG]
def ai7(C:af):=ib λb c=>∃g D Q n,b=[cC C g D Q]/\et g n/\c=ai (jk .o λa=>TT.T .B a [])
def ai8:.aI [.ap,.hn,"edges",.an,"below",.e0,.hP] [.ap] 36:=.Q
def ai9(X:.fe P w K):bq P w K mg base "empty_ways" [.ap] (.L<|ai7 qq.g) 5:=by
 let S:=ai8;calc X.adK.t S .qb .ss;let[rfl,_,[g,sg,co,n,rfl,Q,rfl],k]:=h;let R:=dJ Z;let y:=Q.nons.2;let t:=Q.rules;let dl:(.m .gu)=.o:=by simp[c8]
 calc .cV 1 (dn<|gP g) (.j8 (P6 X)<|.df (ae (.j8 (P5 X) (.iq<|.fD g sg co rfl Q.wf y))<|.iq {g,sg,co,_,_,rfl,Q.wf,t,dl,rfl}));let C:.ae (gP g) 60:=bC (lM _ _) t;calc .cV 2 (mf<|eC (gP g) .o) (.jX (P8 X) (.df<|.e7 (aa .o) (.a5<|.fD _ _ rfl y C λr Z=>(.c (Q.wf.lhs r ((tP Q.wf).mp Z).1)<|Q.rhs r ((tP Q.wf).mp Z).1))));let el:(.m<|eC (gP g) .o)=.o:=by simp[eC]
 refine .l0 4 S.nd [(.an,3)] (.mw .o (FH .o (λi (F:List Nat)=>F.Nodup/\.aM (k∈F↔bz (qH .B) i k)) (λF=>aS<|zN F) .a .oY (λi w hi vA=>?_) λp d B=>?_)<|.eo .es)
 .let[_,rfl]:=iS hi;rw[qm];refine(.cz λp acc s H C' cl fp=>(.jE 3 (XE.pN<|.gl (BX X) (.g9<|.none {rfl,eC (gP g) .o,i,rfl,.a,.a,?_,λF q T M=>{q,_,rfl,?_,F,rfl,T,.aU ?_}}))))
  .intro l hl;let[j,I,rfl]:=.Y hl;have:=GZ (rs:=gP g) (λx hx=>Q.rhs x ((tP Q.wf).mp hx).1) (.ah<|x.lhs==j);calc(.c .a<|.bS ?_);let[r,T,M]:=dP.mp L;rw[el];show Q.wf.non r ((tP Q.wf).mp<|.lr T).1 k (qY.mp M)
  .rfl
  .rw[M k];show(.c (.s<|z.mono λa b=>(Rr Q.wf).mp) (.s<|z.mono λa b=>(Rr Q.wf).mpr))
 .calc .jb 4 [] [] ?_;let jc:∀a b,qH .B a b->b<.o:=λa b {r,T,_,h3,_}=>Q.wf.non r T b h3;let hbo:yt .o (qH .B) d:=λa J=>B a J;let Ci:∀h,h<.o->∀o∈d h,o<.o:=λh V o ho=>by let[b,_,e]:=(((B h V).2 o).mp ho).last;show jc _ _ e
  calc .ba 5 (vr (n:=.o) (u:=aa 0) .e .e .a .fd);refine cu<|bP (.gl (Rq X)<|.g2 (.none<|.kV rfl .o d y (λh V=>bC (iq (B h V).1<|Ci h V) y) λD N mem Hx=>(.bZ (.k3 (∃c:.fF,(∀b∈.c3 i,c b=TT.T .B b [])/\Γ=.sM/\O'=[(q,ai<|jk .o c)])<|.ct (λ_=>TT.c0) .f ?_))))
  .change[(q,.c5 _)]=[(q,.c5 _)];rw[ai5]
  .intro i w _ _ hi [c,hc,rfl,rfl];let[h,V,rfl]:=dw hi;let[i1,v]:=.bd V;let hn:=(mem h).mp (bb V);let oo:=O6 hbo jc N mem Hx;let tk:.c3 (i+1)=.c3 i++[h]:=by rw[dX i1,v]
   have e1:=.n9 (aS<|.is h) hn;let fin:∀x,x=TT.T .B h []->∃c':.fF,(∀b∈.c3<|i+1,c' b=TT.T .B b [])/\.sM=.sM/\[(q,.c5<|(.cp<|jk .o c).set h (aa<|.b0 x))]=[(q,ai<|jk .o c')]:=λx hx=>(.ct (.aU (.A (k=h) x<|c k)) (.a4 (by
    rw[tk] at Y;by_cases e:b=h
    .simp only[.cK];rw[hx,e]
    .simp only[.bU];let Y|||Y:=.c7 Y
     .show hc b Y
     .show .aa (.d4 Y) e))<|by rw[ai6];rfl);calc(.fL _ _ 3);refine mT (k:=.dY h<|d h) (XT.of (Ba R .e .e<|sS (z:=(h:Int)) .w)<|by
    by_cases m:h∈d h
    .rw[.yD];simp[m]
    .rw[.xF];simp[m]) .M .M
   .let z:=.ch;show qP (j:=h) (XV.xe (vT (vS X) .az)<|.fK .e .e _ .bF (qR<|by simp[jk];lia) (.eG<|fin none (ZS<|((B h hn).2 h).mp z).symm))
   .have z:=.cr;let key:.ji (.og .xE .xD)=.ic .B h []:=by
     rw[(Rt (λr:bw=>.nX (c k) .O) _).settle (.lB<|bC (lM _ _) C),<-afp (c:=c) (a:=h) λb eb=>?_]
     .unfold gP;rw[z0,<-xV .B _ (.bN<|.aj .C h&&.nS .gu .j) λr Z hf=>?_]
      .calc .dN (λl=>.b0<|aO l) (dG λr Z=>?_);let[T,M]:=cZ.mp Z;simp only[eG,decide_eq_true_eq] at M;rw[.r (.c M.1<|(Hw Q.wf T).mp M.2)]
      .rw[if_neg];intro[q1,q2];rw[(Hw Q.wf Z).mpr q2] at hf;simp[q1] at hf
     .calc hc b (oo.before (.c3 i) h (D.drop<|i+1) ?_ b eb λst=>z (((B h hn).2 h).mpr<|.more eb st));rw[<-v,List.getElem_cons_drop,wN]
    refine qP (j:=h) (.dH (aa<|.ic .B h []) (.bi (oK (oJ X) .az (.bi (NQ (ns:=((.xE).map .xD).map .jc) (.eo "sum") (.ju [(.hP,6)]<|lc (.bN [.jt g sg co,.jo<|gP g,.b (mf<|eC (gP g) .o),.J h,.pZ<|.is h,.b3,.b<|gh r]) (.bN<|.aj .C h) (.bN<|aa (.b0<|.nX (c k) .O)) .a (λr gO p acc s H C' cl fp=>(.g (.dS 6) (.lL (.bX (.aj (r.lhs:Int) (h:Int)=.aj .C h)<|.iC DA)) .eq)) .bs)<|.z ?_)<|.dN .cJ (Hv _).symm))<|.dN aa key)<|.fK .e .e _ .bF (qR<|by simp[jk];lia) (.eG<|fin _ rfl))
    .calc XE.xv (.lx (ahe X) (cV .O) (.g2<|.ay {.O,.o,c,.cI,rfl,.cE q,λs hs=>?_,rfl,rfl}));let G:=(tP Q.wf).mp gO;cases s with
     |non b=>show(.aX b<|Q.wf.non r G.1 b hs)
     |range lo hi=>show .hs (xN.mp G.2 _ hs)
    .change .c5 _=.c5 _;rw[a_,a_];rfl
  .intro _ _ [c,hc,rfl,rfl];rw[aj,eP] at hc;rw[.bX (jk .o c=jk .o λa=>TT.T .B a [])<|dG λa J=>by rw[hc a ((mem a).mpr<|c4.mp J)]];show .gn (k q)
section
variable(ok:rp g n tl .af bM)
include ok
def Cj:∀k t d,.yC[t]?=.b d->fk .o (TT.Uc .mc<|.gm t) d
 |0,t,d,h=>by
  cases t with
  |zero=>cases h;rw[show .gm 0=[] by rw[cK,ok.tok.zero];rfl];show BO _
  |succ t=>cases h
 |k+1,t,d,h=>by
  rw[eR] at h;by_cases q:t<k+1
  .rw[kO<|by rw[rA];show q] at h;show Cj k t d h
  .rw[zV<|by rw[rA];lia,rA] at h;let e:t=k+1:=by have:=(.aw h);simp only[dS,CT] at this;lia
   subst e;rw[Dy] at h;simp only[List.getElem?_cons_zero,amu] at h;subst h;by_cases c:k+1<.cc
   .let[s,l,L,C,f]:=ok.tok.step (k+1) .a c;let G:.gm (k+1)=s::l:=by rw[cK,L];rfl
    rw[G];let a:=(ok.syms _ (bb L) s .f).1;let N:=Cj k (.hc<|k+1) _ (jQ (d:=[])<|by rw[rA];show C);rw[show .gm (.hc<|k+1)=l by rw[cK,f];rfl] at N;change fk _ _ (yx s (gp (cD g []) s) _ _);rw[Q6 (g:=g) (.c mm (.hx<|p6 h)) a,v3 f];show afo a N
   .rw[cK,iB .a];show BO _
def yS{k}{d:.bK}(h:d∈.yC):(.a9 (.f0))/\∀p∈d,p.1<.o/\p.2<=.bc:=by let[t,B]:=jW h;have:=Cj ok k t d B;show(.c this.1 (.dz<|.c ((.iw).1 p R).1 (.jR ((.iw).1 p R).2.1<|qG _)))
def ai_ a:fk .o (iL .B .mc a) (tM g bM .tc a):=by
 let y:=(.aw ok.tok.zero);have:=Gu (f:=.mc) (n:=.o) (tl:=tl) (ut:=.tc) (λt l h=>by let B:=(.aw h);have:=Cj ok (.cc-1) t _ (jQ (d:=[])<|by rw[rA];lia);rwa[show .gm t=l by rw[cK,h];rfl] at this) a (rs:=.B) (bM:=bM) ok.len.symm ok.rule (BO .o);show q5 this λb _=>j3 _
end
def p7(G:.bn .bK)(n:Nat):=.dt n (λa=>.eZ<|G a)
def Ck(ok:et g m){G}(h:∀a,a<.o->.tD)(he:∀a b,g6 .B a b->b<.o){a b}(J:a<.o):Eg (p7 G .o) a b↔g6 .B a b:=by
 let e:(p7 G .o)[a]?=.b (.eZ<|G a):=by unfold p7;rw[bG,o6 J];rfl
 calc(.c (λ#[l,B,M]=>?_) λM=>(.D e<|(h a J).2.2 b (he a b M) M));rw[e] at B;cases B;let[p,R,rfl]:=.Y M;show((h a J).2.1 p R).2.2
def ai'(ok:et g m){G}(h:∀a,a<.o->.tD)(he:∀a b,g6 .B a b->b<.o){a b}(J:a<.o):bz (Eg<|p7 G .o) a b↔bz (g6 .B) a b:=by
 walk
 .intro s;induction s with
  |one e=>show .one ((Ck ok h he J).mp e)
  |more e _ E=>let e:=(Ck ok h he J).mp e;show .more e (E<|he _ _ e)
 .intro s;induction s with
  |one e=>show .one ((Ck ok h he J).mpr e)
  |more e _ E=>show .more ((Ck ok h he J).mpr e) (E<|he _ _ e)
def aja(ok:et g n){a b}(h:g6 .B a b):b<.o:=by
 have:∃r∈g.rules,(.A (.C=a) (TT.Uc .mc .O b) TT.c0)≠TT.c0:=.s0
 let[r,Z,h]:=this;split at h
 .let[o,U,e,_]:=A0 h;show ok.wf.non r Z b .oD
 .show .hs h
def ajb(C T c:af):bT:=λb O F=>∃a g D Q,b=[.T,cC c g D Q]/\O=[(.eD a C [] [])]/\et g .hJ/\∀d N o,CD.Ok d->d.g=g->d.n=.hJ->F .non (.cb C T [[]])
def ajc:.cd [.cC,.ap,"unit","edges",.an] .kj 38 0:=.Q
theorem ajd(X:.fe P w K):mR P w K mg base qq.c "Counts" .kj (.L<|ajb qq.c qq.t qq.g) 6:=by
 let S:=ajc;calc X.adL.t X.adM S .jJ .ja;let[a,g,sg,Q,rfl,rfl,ok,k]:=h;let hu:=dJ Z;let z:=ok.nons.2;calc .nl a .cv _ (XE.mono (.oO (∃tl rests bM,rp g sg.length tl .af bM/\c=pY qq.t g sg.length tl .af bM) (vo (ahE X) .az<|.g2 (.ct [] _<|.ah {x,g,sg,Q,rfl,rfl,ok,λtl rests bM r=>{rfl,x,_,rfl,rfl,tl,.af,bM,r,rfl}}))) ?_);intro _ _ [rfl,tl,rests,bM,r,rfl];calc .gY;calc .nl a .cv _ (.dH (ai<|cD g []) (.j8 (ai9 X) (.iq<|.fD g sg Q _ rfl ok)) .gY);calc .nl a .cv _ (.dH (ai<|c9 g tl []) (Ca (ah' X) .cv .az .e .bm {g,_,tl,.af,bM,cD g [],rfl,.bm,.bm,r,.bm,(.c mm (.hx<|p6 h)),rfl}) .gY);calc .nl a .cv _ (.dH (vZ (TT.loose tl .af (cD g [])<|c9 g tl [])) (Ca (aic X) .cv .az .e .bm {g,_,tl,.af,bM,_,_,rfl,.bm,.bm,r,.bm,mm,.bm,rB,rfl}) .gY);obtain⟨G,T⟩:∃G:.bn .bK,G=λa=>tM g bM .tc a:=(.a5 _);refine .nl a .cv _<|.dH (.Z<|aX (λa=>dO<|G a) .o) (Ca (aip X) .cv .az .e .bm {g,_,tl,.af,bM,_,_,rfl,.bm,.bm,.bm,r,.bm,mm,.bm,rB,Ce,λk d N=>(.g (yS r N).1 ?_ λp y=>((yS r N).2 p y).2),λk d N p y=>fO ((yS r N).2 p y).1 z,?_,z,by rw[T]}) .gY
 .have:=iq (yS r N).1 (n:=.o) (.bS<|by let[p,y,rfl]:=.Y L;show((yS r N).2 p y).1)
  rw[aj] at this;lia
 .intro t ht;let[i,hi]:=jW ht;let h1:=(.aw hi);have:=r.rule i _ t (cf<|by rw[<-r.len];show h1) hi;show(.aw this)
 let u:∀a,.tD:=λa=>by rw[T];show ai_ r a
 clear T;let he:∀a b,g6 .B a b->b<.o:=λa b h=>aja ok h;let ul:∀a,.ae (G a) 20:=λa=>by
  have:=iq (u a).1 (n:=.o) (.bS<|by let[p,y,rfl]:=.Y L;show((u a).2.1 p y).1)
  rw[aj] at this;lia
 calc .ba 3 (.h4 [("unit",2)]<|.lP ?_);refine fH (.bw [.cq,.jt g sg Q,.b (dO<|G b),none,none]) (.bw<|ai (.eZ<|G b)) (by rw[mE];lia) (λb Y p acc s H m cl fp=>(.jE 2 (XE.aB<|N0 (.eo .dI) .e .w .f (.mB p ?_)))) .hQ
 .rw[show ai (.eZ<|G b)=.c5 ((.d0 (G b) (.ls<|.cg p.1)).map kW) by rw[ai,a_,a_];rfl]
 calc .jb 3 [_] [] ?_;rw[show .c5 (.hM (.bw<|ai (.eZ<|G b)))=mf (p7 G .o) by rw[mf,p7,a_];rfl];let el:(.m<|p7 G .o)=.o:=by simp[p7]
 refine .nl a .cv _<|.h4 [(.an,4)] (.mw .o (FH .o (λi (F:List Nat)=>F.Nodup/\.aM (k∈F↔bz (g6 .B) i k)) (λF=>aS<|zN F) .a .oY (λi w hi vA=>?_) λp bl B=>?_)<|.eo .es)
 .let[_,rfl]:=iS hi;rw[qm];calc(.cz λp acc s H m cl fp=>(.jE 4 (XE.pN<|.gl (BX X) (.g9<|.none {rfl,p7 G .o,i,rfl,.a,.a,?_,λF q h1 M=>{q,_,rfl,rfl,F,rfl,h1,.aU (.jR (M k)<|ai' ok (λa _=>u a) he vA)}}))));intro l hl;let[j,I,rfl]:=.Y hl;calc(.c (by rw[aj];have:=ul j;lia)<|.bS ?_);let[p,y,rfl]:=.Y L;rw[el];show((u j).2.1 p y).1
 calc .gY;calc ar.ye (R1:=[]) (R2:=[]) 5 rfl ?_;let Ci:∀h,h<.o->∀o∈bl h,o<.o:=λh V o ho=>by let[b,_,e]:=(((B h V).2 o).mp ho).last;show he _ _ e
 let C:∀h,h<.o->.ae (bl h) 20:=λh V=>bC (iq (B h V).1<|Ci h V) z;calc .nl a .cv _ (.gl (Rq X) (.nW (.Z<|.oS (zN<|bl h))<|.kV rfl .o bl z C λD nd mem Hx=>.gY));let' d:CD:=#[g,sg.length,tl,.af,bM,bl,G,D];let dok:d.Ok:={ok,r,λa J=>B a J,λh V=>(.c (C h V)<|Ci h V),λa _=>u a,O6 (λa J=>B a J) he nd mem Hx,λh V=>(mem h).mp V};show b_ (Bd (Rk X) .cv .az .e .e6 .bm<|.ay {a,d,.non,.non,_,_,rfl,rfl,.F .bW,λN td=>.j6<|k d N td dok rfl rfl})
def Ru b:∀(l:.b2) n,((anH n .ax).zip l).filterMap (.as (.f8 (.kT==b)<|item p.1 0))=.d0 (.dx ((.bA .kL).zipIdx n) (.as<|p.1==b)) (p.2*16)
 |[],_=>rfl
 |r::l,n=>by
  rw[dS,List.range'_succ,nB,amv,bx,aoB,wZ];let E:=Ru b l (n+1);by_cases e:.C=b
  .simp only[e,beq_self_eq_true,if_true];rw[E];simp[item]
  cbv
def Cm g b:dH g b=.d0 ((.fa .kL).zipIdx.filter (.as<|p.1==b)) (p.2*16):=by unfold dH zS;rw[aoy,Ru]
def Rv g b:.ae (dH g b) .bf:=by unfold dH;calc bC (qu _ _) ?_;unfold zS;tm_at "z"
def aje g b:(.a9<|dH g b):=by
 rw[Cm];unfold zZ;rw[o9];calc Dx _ ?_;have:∀(l:.h) n,.lG (l.zipIdx n) (λp q=>p.2*16≠q.2*16):=λl=>by
  induction l with
  |nil=>intro n;show .nil
  |cons a l E=>intro n;rw[aoB];calc hV.mpr (.c (λq f=>?_)<|E _);lk
 lk
def Cn(h:x∈dH g b):jP g x/\x% 16=0/\x/16<.bf/\(.kO g<|x/16)=b:=by
 let[r,q,Z,d,rfl]:=PN.mp h;let[B,M]:=.bd Z;let L:r*16/16=r:=.a
 let C:r*16% 16=0:=.a
 calc(.jM (.c .a .bV) C .a);rw[L];unfold dQ g0;lk
structure p8(g:aQ)(s:.h)(Kb:.h):Prop where
 nd:Kb.Nodup
 kb:∀b∈Kb,b<.o/\∃c,md g s c/\cy g c=.ln
 all:(.a9<|s++Kb.flatMap (dH g))
 len:.ae (s++Kb.flatMap (dH g)) (s.length+Kb.length*60)
def p8.vB(I:p8 g s k){c}(h:c∈s++k.flatMap (dH g)):md g s c:=by
 let h|||h:=.c7 h
 .show .me h
 .let[b,Y,V]:=dP.mp h;let[_,O,B,M]:=I.kb b Y;show .fresh B M V
def p8.ok(I:p8 g s k)(hs:∀c∈s,jP g c){c}(h:c∈s++k.flatMap (dH g)):jP g c:=by
 let h|||h:=.c7 h
 .show hs c h
 .let[b,Y,V]:=dP.mp h;show(Cn V).1
theorem p8.add(I:p8 g s k)(L:jM g s)(f:.bf<=60)(Y:b∉k)(t:b<.o)(V:md g s c)(he:cy g c=.ln):p8 g s (k++[b]):=by
 let e:s++.b9 (k++[b]) (dH g)=(s++k.flatMap (dH g))++dH g b:=.bV
 refine(.jM ?_ (.eu ?_) ?_)
 .rw[jU];show(.i1 I.nd λa J d n G=>.fM)
 .let D|||D:=.c7 D
  .show I.kb x D
  lk
 .rw[e,jU];calc(.g I.all (aje g b) λx D y T E=>?_);subst E;let[_,B,M,A]:=Cn T;let D|||D:=.c7 D
  .let z|||z:=L.2 x D<;>lia
  .let[d,n,D]:=dP.mp D;have:=(Cn D).2.2.2;rw[A] at this;subst this;show Y n
 .let B:=Rv g b;let M:=I.len;rw[e,ez,show(.m<|k++[b])=.js+1 by simp];lia
def p9(c:Nat):=((.cj<|c/16),(.cj<|c% 16))
def ajf(k:.gP)(T:0<.o){s L:.h}(j:jM g s)(N:L.Nodup)(u:∀c,c∈L↔md g s c){ns}(m:ns.Perm (.bG p9))(o:ns.Pairwise vy):ns=(.kc s).map p9:=by
 let' e:Int×Int->Nat:=.as ((.fl p.1)*16+(.fl p.2));let C:∀c,e (p9 c)=c:=.bg (by change(.fl (.cj<|c/16))*16+(.fl (.cj<|c% 16))=c;lia)
 let G:∀x∈ns,∃c∈L,x=p9 c:=.eu (by let[c,B,M]:=.Y (m.mem_iff.mp D);show(.g c B M.symm))
 let i:ns=(.gv e).map p9:=by rw[a_];calc(wY ns).symm.trans (dG (.eu ?_));let[c,_,rfl]:=G x D;change p9 c=p9 (e<|p9 c);rw[C]
 let P:(.gv e).Perm L:=by calc .aA (m.map e) (JA ?_);rw[a_];refine .aA (dG λc _=>C c)<|wY L
 have f:(.a9<|.gv e):=P.nodup_iff.mpr N;let A:cj (.gv e):=by
  unfold cj;let I:.lG (.gv e) .mr:=by rw[o9];calc JO (λ{a b} J Y h=>?_) o;let[c,_,rfl]:=G a J;let[d,_,rfl]:=G b Y;rw[C,C];let h:(.cj<|c/16)<(.cj<|d/16)\/(.cj<|c/16)=(.cj<|d/16)/\(.cj<|c% 16)<=(.cj<|d% 16):=h;lia
  show(U1.mpr<|.c I f).imp λ#[B,M]=>aoC B M
 rw[i];congr 1;show sG A (BW j.1) (.ah<|by rw[P.mem_iff,u,BV k T])
def ajg(C:af):=ib λa c=>∃g n s,a=[fN C g,.am .mq]/\et g n/\jM g s/\(∀c∈s,jP g c)/\.bh s.length/\c=dt (.kc s)
def ajh:.cd [.cC,"kernel","closed","known","at",.ed,.hP,.an] (.ca "kernel") 74 2:=.Q
theorem aji(X:.fe P w K):c7 P w K mg base qq.b "closing" (.ca "kernel") (.L<|ajg qq.b) 2:=by
 let S:=ajh;calc X.adN.t S .ny .gd;let[rfl,_,[g,n,s,rfl,Q,hk,hs,d,rfl],k]:=h;let R:=dJ Z;let vP:=Q.nons.2;calc .ba 2 (Ft .bo .e .hQ);calc .ba 3 (mS .fd);calc .hy 4 (aa 0);let nds:s.Nodup:=(hk.1).imp (.aQ<|cY h);calc .oc (.o*61+s.length) (λm u O'=>∃r i,u=[.ma g,.ep .mq,.fU,.fU,.J i,none,none,none]/\O'=[(p,dt<|s++.pR g),(q,aS<|r.map λb:Nat=>b)]/\p8 g s r/\i<=(.m<|s++.pR g)/\(∀(j c b:Nat),j<i->(s++.pR g)[j]?=.cA->cy g c=.ln->b∈r)/\m=(.o-.iU)*61+((.m<|s++.pR g)-i)) {[],0,rfl,by rw[U5,eS];rfl,(.q .f .f (by simpa using nds) .f),eY _,λj c b h=>.a,.f} ?_;intro m _ _ [r,i,rfl,rfl,I,hi,V,rfl];let kl:=iq I.nd λb hb=>(I.kb b hb).1;let G:=I.len;generalize eL:s++r.flatMap _=L at*;let l24:.hi<=3000:=.bV
 refine(.q (.ai i .hi) (.pI (.ai .j4 (.jf<|.bG da)) .bV) .M .M)
 .let z:=.ch;obtain⟨c,Rw⟩:∃c,L[i]?=.cA:=(.cz<|cf z);let J:=bb Rw;let Y:=I.ok hs (eL▸J);let cc:=I.vB (eL▸J);let Hy:L<+:s++.pR g:=.fM
  let Hz:(.o-.iU)*61+(.m<|s++.pR g)<=(.o-.iU)*61+.hi:=.fM
  let M:(.bG da)[i]?=.b (da c):=.fM
  let q2:.tb:=.jN (Hl Y.1)
  refine mX (k:=! _) (λu O'=>∃T,u=[.ma g,.ep .mq,.K p,.b3,.J i,none,none,none]/\O'=[(p,dt<|s++T.flatMap (dH g)),(q,aS<|T.map λb:Nat=>.kf)]/\p8 g s T/\L<+:s++T.flatMap (dH g)/\(∀b∈r,b∈T)/\(.bu (cy g c=.ln)<|b∈T)/\(.o-T.length)*61+(.m<|s++T.flatMap (dH g))<=(.o-.iU)*61+.hi) (Fj .uo) .fH .fH ?_
  .cases en:cy g c with
   |none=>rw[en] at y;cases y
   |some sy=>
    let q3:.wy:=.jN (show _[c% 16]?=.b sy from en)
    calc .iB 5;cases sy with
    |range lo hi=>show .pU (.oA .j .j .il) (.P<|.a2 {r,rfl,by rw[eL],I,Hy,λ_ h=>h,(.hx<|nomatch h),Hz})
    |non b=>
     refine .hW (.bC<|b∉r) (iN (k:=true) .il (.P<|pK R .e .e (sS (z:=.kf)<|.cE q))) (by
      by_cases e:b∈r
      .lk
      .rw[.hm (e<|mh.mp z)];simp[e]) (.ah ?_)<|.ah ?_
     .let x:=.i9 x;let bn:=GO Q.wf Q.nons.1 en;let I':=I.add hk Q.rules x bn cc en;let kl':.ae (r++[b]) .o:=iq I'.nd λb hb=>(I'.kb b hb).1;rw[ez,Ut] at kl';let C:s++.b9 (r++[b]) (dH g)=L++dH g b:=.d
      let fl:=Rv g b;let Hh:=Q.rules;calc .o5 q R .gj (.iA _ _ (yc (z:=.kf) .iD .bV) ?_);rw[show bD (r.map λb:Nat=>.kf) b=(r++[b]).map λb:Nat=>.kf by unfold bD;rw[.hm (x<|mh.mp z),bo];rfl];let e3:dt (s++.b9 (r++[b]) (dH g))=.eK (.bG da) ((dH g b).map da):=by rw[C,dt,bo]
      let e4:.c5 .uI=dt (dH g b):=by rw[dt,Cm,a_];congr 1;calc dG λx _=>?_;change _=fh (x.2*16/16,x.2*16% 16);rw[Nat.mul_div_cancel _ .V,Nat.mul_mod_left]
      calc b_ (.o0 p .g0 (.dH (dt<|dH g b) (.bi (XE.aB (c:=.Z .uI) (.h4 [(.hP,6),(.an,7)] (vq (.mQ (ai (.fa .kL)) ?_)<|.eo .jS))) e4) (.fK _ _ .w .bF (.qH<|.jk .a)<|.eG {r++[b],rfl,by rw[e3],I',by rw[C];show List.prefix_append _ _,λ_ h=>qd _ h,(λb' h=>by cases h;simp),by rw[C,ez,ez,Ut];lia})));rw[aco];refine lc (l:=(.fa .kL).zipIdx) (.ah [.ma g,.ep .mq,.K p,.b3,.J i,.kE .eW,.J x.2,.J x.1]) (.ah<|x.1==b) (.ah<|fh (x.2,0)) .dV ?_ ?_
      .intro x D p' acc s0 H0 qq.b cl a;show(.g (.nv 6 7) (.pI (.aj (.cg x.1) .kf)<|by rw[gx];simp;lia)<|.P .e)
      tm_at "z"
     .let x:b∈r:=ph.mp (.nu x);show .a2 {r,rfl,by rw[eL],I,Hy,λ_ h=>h,(λb' h=>by cases h;show x),Hz}
  .let en:.H (cy g c):=by simpa using y
   show{r,rfl,by rw[eL],I,Hy,λ_ h=>h,(.hx<|by rw[en] at h;cases h),Hz}
  .intro _ _ [T,rfl,rfl,I',pf,sub,cl,ms];let pl:=pf.length_le;refine vp (j:=4) (m:=.j4) (n:=1) uF S.nd rfl .e<|.a2 {_,?_,T,i+1,rfl,rfl,I',.a,λj c' b hj Cp hn=>?_,rfl}
   .lia
   .let B9:j<.hi:=.a
    let[t,B]:=pf;rw[<-B,kO B9] at Cp;by_cases e:j=i
    .subst e;rw[Rw] at Cp;cases Cp;show cl b hn
    .show sub b (V j c' b .a Cp hn)
 .let z:=.cr;let ei:i=.hi:=.a
  have mem:∀c,c∈L↔md g s c:=.bg (.da (.aQ (I.vB<|eL▸h)) (by
   induction h with
   |me h=>rw[<-eL];show qd _ h
   |@fresh c b x _ hn D ih=>let[j,hj]:=jW ih;rw[<-eL];show gT _ (.kF b (V j c b (by rw[ei];show(.aw hj)) hj hn) D)));let N:L.Nodup:=eL▸I.all;calc aF (ack (ms:=.bG p9) .bo (w:=.aG) .e (.ge p<|by rw[a_];show .di) λns pm o l=>?_);rw[ajf Q.wf Q.nons.1 hk N mem pm o,a_];show .last (O:=[_,_]) (k l)
def kI(k:Nat):Key:=aW k
def Cq(h:kI a=kI b):a=b:=by have:(a:Int)=b:=Uq h;lia
def Ry:∀{ks:.h} {ws},k∉ks->.H (dU (.dk kI) ws<|kI k)
 |[],_,_=>by simp[dU]
 |a::ks,[],_=>by simp[dU]
 |a::ks,w::ws,h=>by let U:¬kI a=kI k:=λe=>h (.jR (Cq e) .di);let E:=Ry (ks:=ks) (ws:=ws) (.cN (h<|.fy m));simp only[dU] at E|-;simp[U,E]
def HA:∀{ks:.h} {ws} {j:Nat},ks.Nodup->ks[j]?=.fg->ws[j]?=.eP->dU (.dk kI) ws (kI k)=.eP
 |[],_,_,_,h,_=>.fv
 |_::_,[],_,_,_,h=>.fv
 |a::ks,u::ws,0,_,B,M=>by simp at B M;subst B M;simp[dU]
 |a::ks,u::ws,j+1,N,B,M=>by
  rw[lF] at N;let B:ks[j]?=.fg:=by simpa using B
  let U:¬kI a=kI k:=λe=>N.1 (.jR (Cq e)<|bb B);let E:=HA (ks:=ks) (ws:=ws) (j:=j) N.2 B (by simpa using M);simp only[dU] at E|-;simp[U];simpa using E
def map_set{v:W}{k}:∀{ks:.h} {j},ks.Nodup->ks[j]?=.fg->(.dk h).set j v=.dk (.ah (.A (x=k) v<|h x))
 |[],_,_,e=>by simp at e
 |a::ks,0,N,e=>by simp at e;subst e;rw[lF] at N;rw[bx,List.set_cons_zero,bx,.gO];congr 1;show dG (.eu<|by rw[.x<|show¬x=a from .s (N.1<|z▸D)])
 |a::ks,j+1,N,e=>by
  rw[lF] at N;let e:ks[j]?=.fg:=by simpa using e
  rw[bx,aoo,bx,map_set N.2 e,.x<|show¬a=k from .s (N.1<|z▸bb e)]
def nv(ks:.h)(k:Nat):=.A (k∈ks) ks<|ks++[k]
abbrev km(d:af)(ks:.h)(qs:.bL)(f:.gp):OM:=(d,.dK (.dk kI) .hD)::.iv (.dk<|.aU (dt<|f k))
section
variable{R1 R2:OM}{ks:.h}{K:.c2}
theorem Rz(l:.ks P (R1++(km d ks qs f++R2)) o (.p d))(hk:.ks P (R1++(km d ks qs f++R2)) E (aa k))(hi:∀O,.cH P g (da c))(N:ks.Nodup)(H:.li=.gF)(T:k∉ks->f k=[])(hl:.bh .gF)(J:.dc (.m<|f k))(Y:∀Q,.lv=(.m<|nv ks k)->K .non (R1++(km d (nv ks k) Q (fV f k<|f k++[c])++R2)))
  (m:M2 X o .oB s E (.List [] U) A:=by show(.fG rfl rfl)) (hs:.lT g=[(.kp g)]:=by rfl) (Z:gU .zC "append" .X .zD=.zD:=by rfl)
  (i:.e2 (.qF r [g] (! x.1)&&.qC r .ql) (.ai ((.m [g])+.q0+(.e9 .qZ 0 1)) 30):=by rfl) (h:.fc y.endLine r.line:=by rfl):.qS P (R1++(km d ks qs f++R2)) (.qd .zC "append" y [g] r) K:=by
 refine XE.dr<|acm (acf (q:=d) (ks0:=.dk kI) (oj:=.hD) l (gT _ .di) hk (bY (.m0<|.as {.dk kI,.hD,kI k,qd _<|gT _ .di,rfl,λu v=>?_,λt=>?_})) m) hs Z i h
 .let n:k∈ks:=dW (.bO<|by rw[Ry q] at v;cases v)
  let[j,I]:=jW n;let b:=(.aw I);let e:qs[j]?=.b (qs[j]):=cf .a;rw[HA (w:=.p<|qs[j]) N I<|by rw[bG,e];rfl] at v;cases v;let V:bR qs[j] (dt<|f k) (dt<|f k++[c]) (R1++(km d ks qs f++R2)++(.f9 [])) (R1++(km d ks qs (fV f k<|f k++[c])++R2)++(.f9 [])):=by let G:=bR.zip (R:=R2) (d:=dt<|f k++[c]) e (cs:=.dk<|.aU (dt<|f k)) (c:=dt<|f k) (by rw[bG,I];rfl);rw[map_set N I,.np ((.dk (.ah<|.A (x=k) (dt<|f k++[c]) (dt<|f x)))=.dk (.ah (dt<|fV f k (f k++[c]) x)))<|dG λx _=>by unfold fV;split<;>rfl] at G;show bR.more _ (.ki<|.there G)
  rw[show dt (f k++[c])=.eK ((f k).map da) [da c] by rw[dt,bo];rfl] at V;calc(.aW (qs[j]) ((f k).map da) V.mem<|XV.xe (hi _) {(f k).map da,_,V,.nd,_,(.f9 []),.refl _,?_});have:=Y qs (by unfold nv;rw[.r n];show H);rw[.bX (nv ks k=ks)<|.r n] at this;show this
 .let n:k∉ks:=.bO (by let[j,I]:=jW q;let b:=(.aw I);rw[HA (w:=.p<|qs[j]) N I (.jN<|cf .a)] at t;cases t)
  let C:kI k∉.dk kI:=.bO (by let[a,B,M]:=.Y q;show n (Cq M▸B))
  let F:=T n;let L:iP (.dk kI) (kI k)=(ks++[k]).map kI:=by unfold iP;rw[.x C];simp
  let e2:jC (.dk kI) .hD (kI k) .aG=(qs++[p]).map .c4:=by unfold jC;rw[.x C];simp
  refine{.nd,_,bR.more _<|.ki .bF,p,[],rfl,gT _ .di,XV.xe (hi _)<|.cX [] (.ki .bF) .V ?_};calc(.q (R1++(km d (nv ks k) (qs++[p]) (fV f k<|f k++[c])++R2)) [] ?_ (Y _<|by unfold nv;rw[.x n];simp[H]));rw[eS,L,e2,.bX (nv ks k=ks++[k])<|.x n];let S:.va=.yB++(.f9 [da c]):=by
   rw[bo,Jp<|by simp[H]];congr 1
   .congr 1;show dG (.eu<|by unfold fV;rw[.x<|show¬x=k from .s (n<|z▸D)])
   .unfold fV;simp[F,dt]
  change(R1++(.wA::.yB++R2)++[(p,.c5 [da c])]).Perm (R1++(.wA::.va++R2));rw[S,eZ];calc qp _ ?_;rw[rX,rX,rX,eZ,eZ];show(qp _ fX).cons _
end
def de(g:aQ)(s:.h)(k:Nat):=s.filterMap (.bg (match cy g c with
 |some (.range b a)=>.f8 (b<=k/\k<=a) (c+1)
 |_=>none))
def gq(ks:.h)(f:.gp):W:=.dK (.dk kI) (.dk<|.aU (dt<|f k))
structure kr(B:Nat)(f:.gp)(ks:.h):Prop where
 nd:ks.Nodup
 lt:∀k∈ks,k<B
 mem:.aM (k∈ks↔f k≠[])
def kr.push{f}{ks}(h:kr B f ks)(L:k<B):kr B (fV f k<|f k++[c]) (nv ks k):=by
 have m:∀x,x∈nv ks k↔x∈ks\/x=k:=.ah (by
  unfold nv;split
  .rename_i q;show(.c .inl (.s<|z.elim id λe=>e▸q))
  .simp)
 refine(.g ?_ (.eu ?_)<|.ah ?_)
 .unfold nv;split
  .show h.nd
  .rename_i q;rw[jU];show(.i1 h.nd .wz)
 .let D|||rfl:=(m x).mp D
  .show h.lt x D
  .show L
 .rw[m,h.mem];unfold fV;by_cases e:x=k
  .subst e;simp
  .rw[.bU];simp[e]
def kr.none{f}{ks}(h:kr B f ks)(L:k∉ks):=dW (.bO (L<|(h.mem k).mpr q))
def ajj{c}:(.bu (cy g c=.ln)<|fj g (s++[c])=fV (fj g s) b (fj g s b++[c+1]))/\((∀b,cy g c≠.ln)->fj g (s++[c])=fj g s):=by
 refine(.da (.hx<|funext (.ah ?_))<|funext (.ah ?_))
 .unfold fj fV;rw[Dz];by_cases e:x=b
  .subst e;simp[h]
  .have:(b==x)=.j:=by simp;show .s (e z.symm)
   simp[h,e,show¬b=x from .s (e z.symm)]
 .unfold fj;rw[Dz];cases e:cy g c with
  |none=>simp[e]
  |some y=>cases y with
   |range d a=>simp[e]
   |non b=>show .aa e (h b)
def ajk{c}:(.jT (cy g c=.b .fN)<|de g (s++[c])=.aU (.A (lo<=k/\k<lo+(hi+1-lo)) (de g s k++[c+1])<|de g s k))/\((∀lo hi,cy g c≠.b .fN)->de g (s++[c])=de g s):=by
 refine(.da (λlo hi h=>funext (.aU ?_))<|funext (.aU ?_))
 .unfold de;rw[Dz];by_cases e:lo<=k/\k<=hi
  .rw[.hf];simp[h,e]
  .rw[.cD];simp[h,e]
 .unfold de;rw[Dz];cases e:cy g c with
  |none=>simp[e]
  |some y=>cases y with
   |non b=>simp[e]
   |range lo hi=>show .aa e (h lo hi)
def RA(Q:et g n){y}(h:cy g c=.eO):(c+1)/16=c/16/\(c+1)% 16=c% 16+1:=.dJ<|GU (λr Z=>Q.rhs r Z) h
def ajl(C:af):bT:=λb O F=>O=[]/\∃g n s,b=[fN C g,dt s]/\et g n/\(∀c∈s,jP g c)/\s.length<=3000/\∀a J,kr .o (fj g s) a->kr n (de g s) J->F .yz []
def ajm:.cd [.cC,"closed","over_heads","over_classes",.hP,"place",.ed,.iV] (.ca "closed") 74 3:=.Q
theorem ajn(X:.fe P w K):c7 P w K mg base qq.b "moved" (.ca "closed") (.L<|ajl qq.b) 1:=by
 let S:=ajm;calc X.adO.t S .jJ .ss;let[rfl,g,n,s,rfl,ok,hs,hl,k]:=h;let R:=dJ Z;let vP:=ok.nons.2;let r:=ok.bS;calc .ba 2 (mS λd1=>?_);calc .ba 3 (mS λv=>?_);refine cu (.jz (dt s)<|.k4 (∃a M J B,kr .o (fj g .iJ) a/\kr n (de g .iJ) J/\M.length=.bE/\B.length=J.length/\u=[.ma g,.b<|dt s,.K d1,.K v,none,none,none,none]/\O'=km d1 a M (fj g .iJ)++(km v J B (de g .iJ)++[])) {[],[],[],[],(.i1 .f<|by simp[fj]),(.i1 .f<|by simp[de]),rfl,rfl,rfl,rfl})
 .intro i w _ _ D [a,M,J,B,T,Y,l1,Q,rfl,rfl];let[c,V,rfl]:=dw D;let[h1,h2]:=.bd V;let tk:s.take (i+1)=.iJ++[c]:=by rw[dX h1,h2]
  let Cr:=hs c (bb V);let g2:.tb:=.jN (Hl Cr.1)
  let tl:.ae .iJ 3000:=.lV
  let k1l:=iq T.nd T.lt;let HB:=iq Y.nd Y.lt;let sn:=ajj (g:=g) (s:=.iJ) (c:=c);let t:=ajk (g:=g) (s:=.iJ) (c:=c);rw[<-tk] at sn t;calc(.gS _ _ 4 5);refine be (k:=(cy g c).isSome) (.pI (.ai (.cj<|c% 16) (.jf<|(dQ g<|c/16).rhs.map eh))<|by rw[gx,decide_eq_true_eq,aj,Option.isSome_iff_ne_none,Ne,Q3 Cr];have:=Cr.2;lia) .fH .fH
  .cases x:cy g c with
   |none=>rw[x] at y;cases y
   |some sy=>
    let g3:.wy:=.jN (show(dQ g<|c/16).rhs[c% 16]?=.b sy from x)
    let[z1,z2]:=RA ok x;let ei:W.tup [aa<|c/16,.u (.cj<|c% 16+1)]=da (c+1):=by unfold da fh;rw[z1,z2];rfl
    calc .hy 6 (eh sy);cases sy with
    |non b=>
     let bn:=GO ok.wf ok.nons.1 x;let fl:.dc (.m<|fj g .iJ b):=bC (qu _ _) .a;let C:=t.2 λp D=>by rw[x];show .aV
     calc .zB;refine b_<|Rz (R1:=[]) (R2:=km v J B (de g .iJ)++[]) (d:=d1) (ks:=a) (qs:=M) (f:=fj g .iJ) (k:=b) (c:=c+1) .e .e (λO=>.gh ei) T.nd l1 T.none .a fl λN HC=>aD (.eG {_,N,J,B,?_,?_,HC,Q,rfl,?_})
     .rw[sn.1 b x];show T.push bn
     .rw[C];show Y
     .rw[sn.1 b x,C];rfl
    |range p D=>
     let L:=.zA
     have G:gA p D∈(dQ g<|c/16).rhs:=bb x;let o:D<n/\p<=D:=by
      unfold dQ at G;split at G
      .simp at G
      .rename_i q;let q:c/16<.bf:=by have:=Cr.1;simp[g0] at q;lia
       rw[cK,cf q] at G;show ok.mH _ (wU q) p D G
     let' F:.dv .h:=λj k=>.sZ;let F0:F 0=de g .iJ:=funext (.aU .cD);let Fs:∀j,fV (F j) (p+j) (F j (p+j)++[c+1])=F (j+1):=λj=>funext (.aU<|by
      change(.b7 (k=p+j) ((.A (p<=p+j/\p+j<p+j) (.pa g (p+j)++[c+1]) (.pa g<|p+j))++[c+1]) .sZ)=.A (p<=k/\k<p+(j+1)) (.pa g k++[c+1]) (.pa g k);by_cases e:k=p+j
      .subst e;rw[.gO,.cD,.hf]
      .rw[.bU];by_cases q:p<=k/\k<p+j
       .rw[.dF,.hf]
       .rw[.ff,.cD])
     have Fl:∀j k,.dc (.m<|F j k):=λj k=>by
      have:.ae (.pa g k) 3000:=bC (qu _ _) tl;change .ae .sZ _;split
      .rw[ez];simp;lia
      .lia
     calc .yA;refine cu<|om (m:=p) (n:=D+1) .e .e .a .a (.gD (λj u O'=>∃J B,kr n (F j) J/\B.length=J.length/\u=[.ma g,.b<|dt s,.K d1,.K v,.J<|c/16,.J<|c% 16,.kE<|.eb p D,none]/\O'=km d1 a M (fj g .iJ)++(km v J B (F j)++[])) (.ab J B (by rw[F0];show Y) Q rfl<|by rw[F0])) .bo
     .clear Y Q HB;intro j w _ _ I [J,B,Y,Q,rfl,rfl];let[QX,rfl]:=iS I;let HB:=iq Y.nd Y.lt;calc(.fL _ _ 7);refine b_<|Rz (R1:=km d1 a M<|fj g .iJ) (R2:=[]) (d:=v) (ks:=J) (qs:=B) (f:=F j) (k:=p+j) (c:=c+1) .e .e (λO=>.gh ei) Y.nd Q Y.none .a (Fl j _) λN HC=>.a2 (.ab _ N ?_ HC rfl ?_)
      .rw[<-Fs];show Y.push .a
      .rw[Fs]
     .clear Y Q HB;intro _ _ [J,B,Y,Q,rfl,rfl];rw[show(.m (cq p<|D+1-p))=D+1-p by simp[cq]] at Y|-;let e3:F (D+1-p)=de g (s.take<|i+1):=(t.1 p D x).symm;rw[e3] at Y|-;show aD (.eG {a,M,J,B,by rw[L];show T,Y,l1,Q,rfl,by rw[L]})
  .let x:.H (cy g c):=by simpa using y
   let L:=.zA
   let C:=t.2 λp D=>by rw[x];show .aV
   show .a2 {a,M,J,B,by rw[L];show T,by rw[C];show Y,l1,Q,rfl,by rw[L,C]}
 .intro _ _ [a,M,J,B,T,Y,l1,Q,rfl,rfl];rw[aj,eP] at*;calc .gi (M.zip (a.map (.aU (dt<|fj g s k)))++([]++(d1,W.dK (a.map kI)<|M.map .c4)::(km v J B (de g s)++[]))) (by rw[pd];show uw.symm) (ar.N9 (j:=2) rfl (by simp[l1]) ?_);calc .gi (B.zip (J.map (.aU (dt<|de g s k)))++([]++(v,W.dK (J.map kI)<|B.map .c4)::[])) (by rw[pd,pd];show uw.symm) (ar.N9 (j:=3) rfl (by simp[Q]) ?_);show .f3 .yz (.nil<|k a J T Y)
def fA(B:Nat)(f:.gp):=.dx (.dt B f) (.aU<|! k.isEmpty)
def ajo{ms:.S}{B}{f:.gp}{ks:.h}(h:kr B f ks)(m:ms.Perm (.dk .h1))(o:ms.Pairwise .mr):ms=(.xC).map .h1:=by
 let G:∀z∈ms,∃k:Nat,k∈ks/\z=k:=λz b=>by let[k,a,M]:=.Y (m.mem_iff.mp b);show(.g k a M.symm)
 let L:ms=(ms.map zX).map .h1:=by rw[a_];calc(wY ms).symm.trans (dG (.eu ?_));let[c,_,rfl]:=G x D;rfl
 let P:(ms.map zX).Perm ks:=by calc .aA (m.map _) (JA ?_);rw[a_];show .aA (dG λc _=>.f) (wY ks)
 have A:cj (ms.map zX):=by
  unfold cj;let I:.lG (ms.map zX) .mr:=by rw[o9];show o.imp (.aQ .a)
  show(U1.mpr (.c I<|P.nodup_iff.mpr h.nd)).imp λ#[a,M]=>aoC a M
 rw[L];congr 1;calc sG A (Dx _ Jq) (.ah ?_);rw[P.mem_iff,cZ,c4,h.mem];walk
 .intro q;show(.c (h.lt x<|(h.mem x).mpr q)<|by simpa using q)
 .intro⟨_,q⟩;simpa using q
def ajp B f:(.xC).map f=fA B f:=by unfold fA;rw[JP];rfl
def ny(l:.b8):W:=.nk λs=>.am .mq
def ajq:=ib λb c=>∃I z a Q n J,b=[.fx (gq a z)<|gq J n]/\kr I z a/\kr Q n J/\.bh I/\.bh Q/\c=ny (fA I z++fA Q n)
def ajr:.aI ["moves","kernels","led",.ed] ["moves"] 75:=.Q
def ajs(X:.fe P w K):bq P w K mg base "kernels_in_order" ["moves"] (.L ajq) 1:=by
 let S:=ajr;calc X.adP.t S .so .gd;let[rfl,_,[I,z,a,Q,n,J,rfl,M,m2,b1,N,rfl],k]:=h;let R:=dJ Z;let g:∀B f,.ae (fA B f) B:=λB f=>by unfold fA;calc bC (lM _ _) ?_;simp
 calc .j2 1 .hQ;refine cu<|Bf (.mQ (.fx (gq a z)<|gq J n)<|.k4 (u=[.ep [gq a z,gq J n],.K p,none,none]/\O'=[(p,ny .zz)]) .bW)
 .rintro i w _ _ r ⟨rfl,rfl⟩;obtain⟨B,d,Y,b,mv,hB,ao7,rfl,L,e2⟩:∃B d Y b,kr B d Y/\.bh B/\.bh .cU/\w=gq Y d/\.zz=b/\(.aC [fA I z,fA Q n]<|i+1).flatten=b++fA B d:=by
   match i,r with
   |0,r=>cases r;show{I,z,a,[],M,b1,.f,rfl,rfl,.f}
   |1,r=>cases r;show{Q,n,J,fA I z,m2,N,bC (g _ _) b1,rfl,.f,.f}
   |i+2,r=>simp at r
  rw[L,e2];let G:=g B d;calc(.fL _ _ 2);refine b_<|.o0 p .g0 (.dH (ny<|fA B d) (.bi (XE.aB (c:=.mo .r4<|.aU (.am<|(d k).map da))<|.h4 [(.ed,3)] (bP<|.dH (.Z<|.cp .r4) (.bi (XE.aB (c:=aM<|(.r4).map .h1)<|ach (ns:=Y.map .h1) (ws:=Y.map (.aU (dt<|d k))) .bo (w:=gq Y d) .e (.z<|by rw[gq,a_];rfl) λms m o p=>(.aX p<|by rw[ajo mv m o]))<|by rw[aM,a_];rfl) (.bZ<|fH (l:=.r4) (f:=aa) (.ah [.ep [gq a z,gq J n],.K p,.b<|gq Y d,.J x]) (.ah (.am<|(d x).map da)) ?_ ?_ .bs)))<|by rw[ny,<-ajp,a_];rfl) (.fK _ _ .w .bF (.qH<|.jk .a)<|.a2 (.aY<|by rw[ny,bo])))
  .show bC (lM _ _) .dV
  .intro x D t T V H0 C cl fp;let D:=(cZ.mp D).2;let xm:x∈Y:=(mv.mem x).mpr (by simpa using D);calc(.jE 3<|Fu .bo (w:=dt<|d x) (jD (by show R) (w:=gq Y d) .e .e ?_) .w);have:=eM.k (O:=[(p,ny b)]++(.lY t T)) (w:=gq Y d) (wk:=aa x) (ks:=Y.map kI) (ws:=Y.map (.aU (dt<|d k))) (k:=kI x) .w rfl;rw[val_inj (x:=x) (λy _ e=>Cq e) xm rfl] at this;show this
 .intro _ _ [rfl,rfl];show .f3 .aG (.ay<|by have:=k p;change F _ [(p,ny .zy)];rw[show .zy=fA I z++fA Q n by simp];show this)
def RB(G:0<m):∀{l r},kh m l=.b r->(∀d∈l,d<m)->∀d∈r,d<m
 |[],r,h,_=>.iL
 |d::l,r,h,a=>by
  unfold kh at h;split at h
  .let[q,f,rfl]:=lG.mp h;intro x D;let rfl|||D:=.c6 D
   .show G
   .show RB G f (λd N=>a d<|by simp[N]) x D
  .cases h;intro x D;have:=a d .f;let rfl|||D:=.c6 D
   .lia
   .show a x (by simp[D])
def HD(h:TT.behind m u ds=.b es)(N:∀d∈ds,d<m):.lh<=u/\∀d∈es,d<m:=by
 obtain⟨a,t⟩:∃a,a=(match kh m ds.reverse with
  |some r=>r.reverse
  |none=>bL (ds.length+1) 0):=(.a5 _);let h:(.f8 (0<m/\.bE<=u) a)=.b es:=by rw[t];show h
 by_cases V:0<m/\.bE<=u
 .rw[.r V] at h;cases h;calc(.bM V.2);cases Z:kh m ds.reverse with
  |some r=>rw[Z] at t;subst t;show λd D=>RB V.1 Z (λd U=>N d<|aoD.mp U) d (aoD.mp D)
  |none=>rw[Z] at t;subst t;intro d D;rw[aoz D];show V.1
 .rw[.x V] at h;cases h
noncomputable def wants(d:CD)(h:Nat)(ds:.h):=.ai 1<|.ic .al h ds
def ajt:TT.Look->.l6
 |.BP n,r=>r=.am [aa 0,aa n,.non]
 |.found n a,r=>r=.am [aa 1,aa n,bc a]
 |.used,r=>∃n x,r=.am [aa 2,n,x]
def aju(C T:af):bT:=λi O F=>∃a d N g e h u b o,i=[.T,aa d.n,nt o,aa h,aa u,aa b]/\O=.rr C T g e/\d.Ok/\h<.a6/\u<=24/\(∀f,o=.b f->.kK<=24/\∀c∈f,c<d.n)/\Kn e/\.dc .fC/\∀N g e r,Kn e->.dc .fC->ajt (TT.look d.n u (wants d h) b 0 o) r->F r (.rr C T g e)
def ajv:.aI [.hh,.iX,.cm,.an,.eI,"tries","looked"] .sY 53:=.Q
theorem ajw(X:.aq mg i I):bq P w K mg i "look_through" .sY (.L<|aju I.c I.t) 7:=by
 let S:=ajv;calc X.adQ.t S .sq .gd;let[a,d,N,r,q,h,u,b,m,rfl,rfl,Q,V,G,l,C,x,k]:=h;let R:=dJ Z;calc .hy 6 (aa 0);calc .oc (b+1) (λT Y O'=>∃N r q o t g,Kn q/\.dc q.length/\(∀p,o=.cL->.jW<=24/\∀c∈p,c<d.n)/\TT.look d.n u (wants d h) t g o=TT.look d.n u (wants d h) b 0 m/\t+g=b/\T=t+1/\Y=[.cq,.J d.n,.b<|nt o,.J h,.J u,.J b,.J g]/\O'=.rr I.c I.t r q) #[N,r,q,m,b,0,C,x,l,rfl,rfl,rfl,rfl,rfl] ?_;clear C x l q N r;intro T _ _ [N,r,q,o,t,g,C,x,l,L,B,rfl,rfl,rfl];cases o with
 |none=>show(.q .j (XT.of (vk .e .io) rfl) .aV<|.P (.f3 (.am [aa 0,aa g,.non])<|Dr.all (k N r q _ C x<|by rw[<-L];cases t<;>show rfl)))
 |some p=>
  let[J,M]:=l p rfl;calc(.q true (XT.of (vk (wa:=.am<|p.map aa) .e<|.pT .f) rfl) .eq .aV);cases t with
  |zero=>calc .hW true .aH (by simp at B;rw[B];show .g8 rfl) .eq .aV;show .f3 (.am [aa 2,aa g,bc p]) (Dr.all (k N r q _ C x<|by rw[<-L];show(.cx _)))
  |succ t=>
   calc .hW .j .aH (.h2 .a) .aV .eq;calc vp (j:=6) uF S.nd rfl (n:=1) .e ?_;rw[.lX<|(g:Int)+1=(.cj<|g+1)];refine N2<|N1 (.lH (v5 X) .cv<|.df (.e7 (bc p)<|.ay {a,d,N,r,q,p,h,rfl,rfl,Q,V,J,M,C,x,λN r q C x D=>(.qx _ 1 rfl .M .M)}))
   .let z:.n (wants d h p):=by have:=.ch;show .g8 .a
    show .f3 (.am [aa 1,aa<|g+1,bc p]) (Dr.all (k N r q _ C x<|by rw[<-L];unfold TT.look;rw[.r z];show rfl))
   .let z:¬.n (wants d h p):=by have:=.cr;show λy=>this (.dJ<|.i9 y)
    refine .tT 2 (nt<|TT.behind d.n u p) (.jX (G_ X)<|.gz (.am<|p.map aa) (.jC<|.fD p _ u rfl J M))<|.a2 {t+1,.a,N,r,q,TT.behind d.n u p,t,g+1,C,x,λes he=>?_,?_,.a,rfl,rfl,rfl}
    .have:=HD he M;show(.c .a .iw)
    .rw[<-L];change _=TT.look d.n u (wants d h) (t+1) g .cL;rw[TT.look,.x z]
abbrev TN:=Nat×.h
def mn(p:TN):TK:=[eH.at<|.z p.1,eH.tp<|p.2.map λ(c:Nat)=>(.z c)]
def HE(h:mn p=mn q):p=q:=by
 let[t,u]:=p;let[a,v]:=q;unfold mn at h;simp only[y9,eH.at.injEq,eH.tp.injEq,and_true] at h;let L:t=a:=.dJ (Uq h.1)
 let C:u=v:=by apply tN;unfold ft;rw[h.2]
 rw[L,C]
def HF t u:W.tup [aa t,bc u]=fT (mn (t,u)):=by unfold fT mn bc;simp only[bx,zR,Fm,a_];rfl
def rC(F:TN->W)(L:.y TN):W:=.dT (.bG mn)<|.bG F
def HG{O}{w}(h:Is O w (rC F L))(m:p∈L):eM O w (.gX p.1<|bc p.2) (.b<|F p):=.sp (mn p) h (HF p.1 p.2)<|.rC (HE e) m rfl
def RC{O}{w}(h:Is O w (rC F L)):eM O w (.gX p.1<|bc p.2) (.f8 (p∈L)<|F p):=by
 by_cases m:p∈L
 .rw[.r m];show HG h m
 .rw[.x m];have:=eM.t (k:=mn p) h (HF p.1 p.2);rwa[Bs λx D e=>m (.oF<|HE e)] at this
def RD{L}{p}(h:p∉L)(hz:.hi<=10000000){O O'}{q}(V:bR q (rC F L) (rC F<|L++[p]) O O'):iQ q (.gX p.1<|bc p.2) (F p) O O':=by let n:=.rj (mn p) mn F L (F p) (h (.oF<|HE e));calc .t (k:=mn p) (ks:=.bG mn) (ws:=.bG F) (HF p.1 p.2) (.pQ<|.lB hz) ?_;rw[n.1,n.2];unfold rC at V;rw[bo,bo] at V;show V
noncomputable def v7(d:CD)(p:TN):.h:=match d.tl.getD p.1 [] with
 |s::l=>fz .al s l p.2
 |[]=>[]
def jm(L:.y TN)(p:TN):=.A (p∈L) L<|L++[p]
def nz(d:CD)(h:Nat):=.d0 (.dx (.hK .qI .al) (.as<|.kT==h)) (p.1,.n3 p.1)
noncomputable abbrev FO(C T f:af)(d:CD)(M:TN->W)(a N o b ks y:af)(us:.b8)(Y g:.y TN):=.cb C T us++[(.eD b f fF [.T,.yw,.p ks,.p y]),(ks,rC (.as (ai<|v7 d p)) Y),(y,rC M g)]
def Kn.cut(h:Kn us){v}(p:v∈us) c:v.take c∈us/\v.drop c∈us:=by let B:=h.cl v p 0 c;let M:=h.cl v p c .jY;calc(.bM<|by simpa[eD] using B);rwa[eD,nL<|by rw[Jg];lia] at M
def ajx(C T f:af):bT:=λh O F=>∃d M a N o b e y c Y g t s l v,h=[.dn,aa t,bc v]/\O=FO C T f d M a N o b e y c Y g/\d.Ok/\Kn c/\v∈c/\.jY<=24/\d.tl[t]?=.fS s/\.jZ<=10000000/\F (ai<|fz .al s l v) (FO C T f d M a N o b e y c (jm Y (t,v)) g)
def ajy:.cd [.cC,.c0,.kx,"key"] (.jF .c0) 43 7:=.Q
def ajz(X:.aq mg i r):c7 P w K mg i r.f "sizes_in" (.jF .c0) (.L<|ajx r.c r.t r.f) 3:=by
 let S:=ajy;calc X.adR.t S (λ_ _ _ {_,_,_,_,_,_,_,_,_,_,_,_,_,_,_,e,_}=>.dR) λf V A U s H E ws O Kk Z h=>?_;let[d,M,a,N,o,b,x,y,W,Y,g,t,n,l,v,rfl,rfl,Q,C,L,T,B,hz,k]:=h;let D:=dJ Z;let I:ai (v7 d (t,v))=ai (fz .al n l v):=by unfold v7;rw[cK,B];rfl
 calc .hy 3 (.gX t<|bc v);refine .n6 (.bC<|(t,v)∉Y) (λu G=>(t,v)∈jm Y (t,v)/\u=[.K b,.J t,.eH v,.ep [aa t,bc v]]/\G=FO r.c r.t r.f d M a N o b x y W (jm Y (t,v)) g) (XT.of (pK D .e .e (RC (p:=(t,v))<|.cE x))<|.qk (t,v) Y) .M ?_
 .let z:=.ch;let J:jm Y (t,v)=Y++[(t,v)]:=.x z;rw[J];refine iR (q:=x) D (.dH (ai<|v7 d (t,v)) (.bi (yR (R:=[_,_,_]) (aiQ X) .cv .az .e .V Q<|.jC {t,n,l,v,rfl,B,T,λc _=>C.cut L c,rfl}) I.symm)<|.iA _ _ (RD (F:=.as (ai<|v7 d p)) (p:=(t,v)) z hz<|.kv .bF) (.a2<|.iY .f))
 .let z:(t,v)∈Y:=ph.mp .cr;let J:jm Y (t,v)=Y:=.r z;rw[J];show(.iY z)
 .intro _ _ [m,rfl,rfl];rw[<-I] at k;show .mb (.mn D<|HG (p:=(t,v)) (.cE x) m) (.ay k)
def dF(n:bU):W:=.tC
def lq(p:.c1):W:=.am<|p.map dF
def HH(y:.c1×Nat):W:=.fx (lq y.1)<|aa y.2
def lr(l:.jd .c1):W:=.nk HH
def i3(d:CD)(x:.h)(Y:.y TN):=∃V G,Y=V++G/\V.length<=50000/\G.Nodup/\∀p∈G,p.1<.h6/\∃i j,i<=24/\j<=24/\p.2=eD x i j
def i3.len(Q:d.Ok){x}{Y}(h:i3 d x Y):.jZ<=10000000:=by
 let[V,G,rfl,B,M,A]:=h;have:=TT.sub_len (L:=.zx) M (.dz<|by let[I,i,j,y,o,n]:=A p R;show .kF p.1 (.fO I) (.kF i (.fO .a) (.pf j (.fO .a)<|by rw[<-n])))
 have r:=Q.tl.bS;let e:(.m .zx)=.h6*625:=by
  rw[aoE];have:(λt=>(.m .uq))=λ_:Nat=>625:=by funext t;rw[aoE,.np ((λi=>(.m<|.dt 25 λj=>(t,eD x i j)))=λ_:Nat=>25)<|funext λi=>.f];decide
  rw[this,Jz,mE,List.sum_replicate_nat]
 rw[e] at this;rw[ez];lia
theorem i3.add(h:i3 d x Y){t i j}(B:t<.h6)(hi:i<=24)(I:j<=24):i3 d x (jm Y (t,eD x i j)):=by
 unfold jm;split
 .show h
 .rename_i m;let[V,G,rfl,c,M,A]:=h;refine(.ab V (G++[(t,eD x i j)]) (by rw[eZ]) c ?_ .hR)
  .rw[jU];calc(.i1 M λa J b f e=>m ?_);rw[.d4 f] at e;show cx.mpr (.F<|e▸J)
  .let R|||R:=.c7 R
   .show A p R
   .rw[.d4 R];show(.gE B i j hi I)
def ajA(C T f:af):bT:=λh O F=>∃d M a N o b e y c Y g t s l x j J,h=[.dn,lr J,aa t,bc<|x.take j]/\O=FO C T f d M a N o b e y c Y g/\d.Ok/\Kn c/\x∈c/\.W<=24/\j<=.W/\d.tl[t]?=.fS s/\i3 d x Y/\.bh J.length/\(∀y∈J,y.2<=j/\.ae y.1 100)/\∀Y,i3 d x Y->F (lr<|jK .al x j s l J) (FO C T f d M a N o b e y c Y g)
def ajB:.cd [.cC,"rows",.c0,.cm,.an,"longer","kids","place","size","kid"] [.cC,"rows",.c0,.cm] 43 6:=.Q
def ajC(X:.k9 P w K p):c7 P w K mg base p.f "one_symbol_more" [.cC,"rows",.c0,.cm] (.L<|ajA p.c p.t p.f) 4:=by
 let S:=ajB;calc X.adS.t S (λ_ _ _ {_,_,_,_,_,_,_,_,_,_,_,_,_,_,_,_,_,e,_}=>.dR) λf f6 A U s H E ws O F Z h=>?_;let[d,M,a,N,o,fa,ks,y,us,Y,g,t,n,l,x,j,J,rfl,rfl,Q,C,D,hl,I,B,T,hrw,hb,k]:=h;let R:=dJ Z;let Rp:=(.aw B);calc .cV 4 (B8<|.fS n) (XE.xv (dM (ahw X) X.iV.cl .az (w:=pY p.t d.g d.n d.tl .hj d.bM) .e .w .fY<|.g2 (.none<|.gs rfl _ #[d.g,d.n,d.tl,.hj,d.bM,t,n,l,rfl,B,rfl])));calc .j2 5 .fd;refine .jy (.k4 (∃Y,i3 d x Y/\.ae (jK .al x j n l .ih) (i*25)/\u=[.K fa,.b<|lr J,.J t,.eH<|x.take j,.b (B8<|.fS n),.b3,none,none,none,none]/\O'=.ta++[(q,lr<|jK .al x j n l .ih)]) (.gs Y T<|by simp[jK]))
 .clear T Y;intro i w _ _ hi [Y,T,RE,rfl,rfl];let[r,Ct,rfl]:=dw hi;let[i1,v]:=.bd Ct;let[hp,hk]:=hb r (bb Ct);let ep:(x.take j).drop r.2=.jB r.2 j:=by unfold TT.pc;rw[Jh]
  let tk:jK .al x j n l (J.take<|i+1)=jK .al x j n l .ih++(fz .al n l<|.jB r.2 j).map (.bg (r.1++gi n r.2 c,r.2+c)):=by rw[dX i1,v];unfold jK;rw[zY];simp
  let sl:.ae (fz .al n l<|.jB r.2 j) 25:=by calc bC (lM _ _) ?_;rw[mE];unfold TT.pc;rw[dZ];lia
  let ajD:.ae (jK .al x j n l (J.take<|i+1)) ((i+1)*25):=by rw[tk,ez,aj];lia
  calc(.gS _ _ 6 7);refine cu<|bP (.lH (ajz X) .kd<|.df (ae (Cf (k:=r.2) .e .e)<|ak {.ta,[_],rfl,d,M,a,N,o,fa,ks,y,us,Y,g,t,n,l,_,rfl,rfl,Q,C,?_,?_,B,T.len Q,_,rfl,?_}))
  .rw[ep];show C.cl x D _ _
  .rw[ep];unfold TT.pc;rw[dZ];lia
  rw[ep];let hz':i3 d x (jm Y (t,.jB r.2 j)):=T.add Rp .a .a;generalize jm Y (t,.jB r.2 j)=RF at*;refine .gD (λm u O'=>u=[.K fa,.b<|lr J,.J t,.eH<|x.take j,.b (B8<|.fS n),.b3,.b<|lq r.1,.J r.2,none,none]/\O'=FO p.c p.t p.f d M a N o fa ks y us RF g++[(q,lr .up)])<|.aY .f
  .intro m w _ _ G [rfl,rfl];let[c,V,rfl]:=dw G;let[m1,m2]:=.bd V;rw[dX m1,m2];generalize W:.up=L;let lL:.eg .hi:=by rw[<-W,ez,aj,dZ];lia
   calc(.fL _ _ 8);refine .cV 9 (lq<|gi n r.2 c) ?_
   .cases n with
    |non b=>show sQ (k:=.j) (XT.of (.iH (aa b) .ol) rfl) .aV (.P .e)
    |range lo hi=>show sQ (k:=true) (XT.of (.iH .non .io) rfl) (.P .e) .aV
   .refine .mm q (.dH (HH (r.1++gi n r.2 c,r.2+c)) ?_<|.cX _ (.kv<|.hV .bF) (.nx lL) .hp)
    .calc(vm<|.f5 (lq<|r.1++gi n r.2 c) (.bi (abZ (vs:=r.1.map dF) (ws:=(gi n r.2 c).map dF) .e .e ?_)<|by rw[lq,bo]) (.g2<|.iY .f)).xv;rw[aj,aj];have:.ae (gi n r.2 c) 1:=by cases n<;>simp[gi]
     lia
    .rw[<-W];simp[lr]
  .intro _ _ [rfl,rfl];rw[aj,eP,<-tk];show .a2 (.gs RF hz' ajD)
 .clear T Y;intro _ _ [Y,T,_,rfl,rfl];rw[aj,eP];show .jb 5 .ta [] (.gn<|k Y T)
def RG{u}{k}(he:.cH a e (lr u))(hi:.cH a i (aa k)):.cH a .yy (lr<|.et k):=by calc .bi (XE.aB (c:=.Z (jE (u.map HH) none<|.b .lD))<|Bb (l:=none) he .w .aF (show XO _ _ _ (.b i) (.b .lD) from hi) .bs) ?_;rw[NR,lr,qo]
def sx{N:Type}{f}{m}:∀{l:.aS},(∀a∈l,f a<=m)->(.hG f)<=.ax*m
 |[],_=>.f
 |a::l,h=>by let B:=h a .f;let M:=sx (l:=l) (.a4 (h b<|by simp[Y]));rw[bx,ui,dS,JS];lia
def RH(l:.y .c1):W:=.nk lq
def ajE(C T f:af):bT:=λh O F=>∃d M a N o b e y c Y g t l x n u,h=[.dn,aa t,dF n,bc x,aa u]/\O=FO C T f d M a N o b e y c Y g/\d.Ok/\Kn c/\x∈c/\.W<=24/\.a0<=.aZ/\.aZ<=.W/\d.tl[t]?=.b l/\.ax<=90/\i3 d x Y/\.bh u/\∀Y,i3 d x Y->F (RH<|.aC (TT.parts .al x l .a0 .aZ) u) (FO C T f d M a N o b e y c Y g)
def ajF:.cd [.cC,.c0,"node",.cm,.eI,"behind","rows","kids","place"] .s9 43 5:=.Q
def ajG(X:.fe P w K):c7 P w K mg base qq.f "partings" .s9 (.L<|ajE qq.c qq.t qq.f) 5:=by
 let S:=ajF;calc X.adT.t S (λ_ _ _ {_,_,_,_,_,_,_,_,_,_,_,_,_,_,_,_,e,_}=>.dR) .gd;let[d,pF,a,N,o,fa,ks,kp,us,Y,g,t,l,x,n,u,rfl,rfl,Q,C,D,hl,Bp,I,B,h90,hz,G,k]:=h;let hu:=dJ Z;let[b,i,j]:=n;simp only at Bp I k;calc .hy 5 (aa j);refine .qw (! ni .al l (.jB i j)) (Fj<|iM (yR (R:=[_,_,_]) (Ro X) .cv .az .e .V Q<|.df (.d9 (bc<|.jB i j) (Rj (k:=i) (j:=j) .e .e .e)<|.a5 (.fD t l _ rfl B<|C.cl x D _ _)))) .M
 .have z:aU (TT.T .al) l (.jB i j)=TT.c0:=by
   have:ni .al l (.jB i j)=.j:=.pC
   show ph.mp (.nu this)
  let e:TT.parts .al x l i j=[]:=dW (.bO<|(vF Bp I).mp q z);rw[e,List.take_nil] at k;show .f3 .iy (.ay<|k Y hz)
 .have z:aU (TT.T .al) l (.jB i j)≠TT.c0:=by
   have:.n (ni .al l<|.jB i j):=.pC
   show .i9 this
  calc .hy 6 (lr [([],i)]);let e0:pT .al x j l [([],i)]=TT.parts .al x l i j:=by simp[pT]
  refine .oc t (λμ Γ O'=>∃t' V J Y,i3 d x Y/\d.tl[t']?=.b V/\tx .al x j V J/\.aC (pT .al x j V J) u=.aC (TT.parts .al x l i j) u/\(∀kp∈J,(.m kp.1)+V.length<=90)/\J.length<=25000/\μ=t'/\Γ=[.K fa,.J t',.b<|dF (b,i,j),.eH x,.J u,.J j,.b<|lr J,none,none]/\O'=FO qq.c qq.t qq.f d pF a N o fa ks kp us Y g) {t,l,[([],i)],Y,hz,B,?_,by rw[e0],by simpa using h90,.f,rfl,rfl,rfl} ?_
  .intro kp v8;rw[.d4 v8];show(.c Bp z)
  clear hz Y;intro t' _ _ [_,V,J,Y,hz,T,HI,HJ,Cu,hrl,rfl,rfl,rfl];refine(.q (! .aj t' 0) (.lL (.dN (!·) (.bX (.aj (t':Int) .mT=.aj t' 0)<|.iC DA))) .fH .fH)
  .have y:0<t':=by have:¬t'=0:=by simpa using y
                   lia
   let[s',HK,M,q2,q3]:=Q.tl.tok.step t' y (.aw T);rw[T] at M;cases M;let e2:=.hb .hj t' (by rw[Q.tl.tok.len];show(.aw T));let RI:=afx HI u;calc .ba 6 (.lH (ajC X) .kd<|ae (RG (k:=u) .e .e) (.df<|ae (Ht (k:=j) .e .e) (ak<|.ay {d,pF,a,N,o,fa,ks,kp,us,Y,g,t',s',HK,x,j,J.take u,rfl,rfl,Q,C,D,hl,I,T,hz,.lV,λkp v8=>(.c (RI kp v8).1<|by have:=Cu kp (o_ v8);simp at this;lia),λY hz=>?_})));refine .qa 1 (.kH<|cR e2)<|.a2 {_,q2,_,HK,jK .al x j s' HK<|J.take u,Y,hz,q3,afv I RI,?_,?_,?_,rfl,rfl,rfl}
   .rw[<-afu,afw I HI,HJ]
   .intro kp v8;let[r,Ct,L]:=dP.mp v8;let[c,_,rfl]:=.Y L;let h1:=Cu r (o_ Ct);have:.ae (gi s' r.2 c) 1:=by cases s'<;>simp[gi]
    simp only[ez,dS] at*;lia
   .unfold jK;rw[BG];calc bC (sx (m:=25) λr gO=>?_) .lV;rw[aj];calc bC (lM _ _) ?_;rw[mE];unfold TT.pc;rw[dZ];lia
  .let y:t'=0:=by simpa using y
   subst y;rw[Q.tl.tok.zero] at T;cases T;rw[afy I HI] at HJ;calc .mb (.nA [("kids",7),("place",8)] (bP<|XV.xe (RG (k:=u) .e .e) (.bZ<|fH (.bN [.K fa,.J 0,.b<|dF (b,i,j),.eH x,.J u,.J j,.b<|lr J,.b<|lq r.1,.J r.2]) (.bN<|lq r.1) .lV (λr gO p acc s H C' cl fp=>(.c (.nv 7 8) .e)) .bs))) (.ay ?_);have:=k Y hz;rw[<-HJ,RH] at this;rw[<-qo,a_] at this;show this
def hJ(a:Alt):W:=.gX a.rule<|lq a.kids
def df(l:.y Alt):W:=.nk hJ
def nA(g:aQ)(h:Nat):=.dx (.hK .bf .B) (.as<|.kT==h)
noncomputable def rD(g:aQ)(x:.h)(n:bU)(p:Nat×bw):.y Alt:=(TT.parts .B x p.2.rhs .a0 .aZ).map λl=>.qs
def ajH{x}{n}:.fB x n=.b9 (nA g n.1) (rD g x n):=by
 unfold bu nA;generalize .hK .bf .B=L;induction L with
 |nil=>rfl
 |cons p L E=>
  rw[lK,E];by_cases e:.fc .kT n.1
  .rw[.cK,U0 (p:=λp:Nat×bw=>.kT==n.1) e,lK];rfl
  .rw[.bU,List.filter_cons_of_neg (p:=λp:Nat×bw=>.kT==n.1) e,pd]
def ajI{h i:Nat}{p}(e:(nA g h)[i]?=.cL):.B[p.1]?=.b p.2/\.kT=h:=by let[B,M]:=cZ.mp (bb e);let[k,L]:=jW B;let[I,y]:=JR.mp L;have:=(.aw I);rw[mE] at this;rw[o6 this] at I;cases I;show(.c y<|by simpa using M)
def ajJ(C T f:af):bT:=λh O F=>∃d M a N o b e y c Y g x n u,h=[.dn,dF n,bc x,aa u]/\O=FO C T f d M a N o b e y c Y g/\d.Ok/\Kn c/\x∈c/\.W<=24/\n.1<.a6/\.a0<=.aZ/\.aZ<=.W/\i3 d x Y/\.bh u/\∀Y,i3 d x Y->F (df<|.aC (bu .al x n) u) (FO C T f d M a N o b e y c Y g)
def ajK:.cd [.cC,"node",.cm,.eI,.ke,.hP,.c0,"kids"] [.cC,"node",.cm,.eI] 43 4:=.Q
theorem ajL(X:.k9 P w K T):c7 P w K mg base T.f .pN [.cC,"node",.cm,.eI] (.L<|ajJ T.c T.t T.f) 6:=by
 let S:=ajK;calc X.adU.t S (λ_ _ _ {_,_,_,_,_,_,_,_,_,_,_,_,_,_,e,_}=>.dR) λf f6 A U s H E ws O F Z h=>?_;let[d,M,a,N,o,b,ks,y,us,Y,g,x,n,u,rfl,rfl,Q,C,D,hl,hn,J,I,hz,G,k]:=h;let hu:=dJ Z;rw[ajH] at k;let L:(.hB (bV<|nz d h) .a6)[n.1]?=.nr (nz d n.1):=ie hn;calc .j2 4 .fd;refine cu<|bP (.dH (bV<|nz d n.1) (.kH<|cR L) (.bZ<|.k3 (∃Y,i3 d x Y/\Γ=[.K b,.b<|dF n,.eH x,.J u,.b3,none,none,none]/\O'=.r3++[(q,df .rO)]) (.ct Y hz<|by simp[df])))
 .clear hz Y;intro i w _ _ hi [Y,hz,rfl,rfl];let[r,c,rfl]:=dw hi;unfold nz at c;rw[bG] at c;let[p,R,rfl]:=lG.mp c;let R:(nA d.g n.1)[i]?=.cL:=R;let[i1,v]:=.bd R;let[V,g2]:=ajI R;let g3:=(.aw V);let hb:d.bM[p.1]?=.b (.n3 p.1):=jQ (by rw[Q.tl.len];show g3);let B:=Q.tl.rule p.1 p.2 _ V hb;let h8:=Q.gr.rhs p.2 (bb V);let tk:.aC (.b9 (.aC (nA d.g n.1)<|i+1)<|rD d.g x n) u=.rO++.aC (rD d.g x n p) (u-(.m .rO)):=by rw[afz,dX i1,v,zY];simp
  rw[tk];generalize hA:.rO=A;let z:A.length<=u:=by rw[<-hA,dZ];lia
  calc(.gS _ _ 5 6);calc b_ (.o0 q .g0<|.h4 [("kids",7)] (bP<|.lH (ajG X) .kd (.df<|.df (.df<|.d9 (aa<|u-A.length) (.gh<|.dN .cJ .qL) {.r3,[_],rfl,d,M,a,N,o,b,ks,y,us,Y,g,_,_,x,n,_,rfl,rfl,Q,C,D,hl,J,I,B,.a,hz,.a,λY hz=>(.bZ ?_)}))));calc fH (λl=>[.K b,.b<|dF n,.eH x,.J u,.b3,.J p.1,.J<|.n3 p.1,.b<|lq l]) (λl=>hJ .qs) .lV (λl Qx t acc s H m cl fp=>(.jE 7 .e)) λt=>?_;refine(.fK _ _ (.cE t) (.kv<|.hV .bF) ?_ ?_)
  .rw[aj,aj,dZ];show .gK (.dg<|.eg _)
  .calc ar.drop (O1:=.r3++[(q,_)]) (O2:=[_]) ?_;calc .a2 (.ct Y hz ?_);unfold df rD;rw[bo,<-qo,a_];rfl
 .clear hz Y;intro _ _ [Y,hz,rfl,rfl];let e:.aC (nA d.g n.1) (.m<|(nz d n.1).map fh)=nA d.g n.1:=by rw[aj,nz,aj];show eP
  rw[e];show .jb 4 .r3 [] (.gn<|k Y hz)
def ls(n:bU):TK:=[eH.at<|.z n.1,eH.at<|.z .a0,eH.at<|.z .aZ]
def HL(h:ls p=ls q):p=q:=by let[a,b,c]:=p;let[C,y,O]:=q;unfold ls at h;simp only[y9,eH.at.injEq,U2,and_true] at h;rw[.dg<|a=C,.dg<|b=y,.dg<|c=O]
def HM n:dF n=fT (ls n):=rfl
def du(F:bU->W)(L:.c1):W:=.dT (.bG ls)<|.bG F
def yT{O}{w}(h:Is O w (du F L))(m:p∈L):eM O w (dF p) (.b<|F p):=.sp (ls p) h (HM p)<|.rC (HL e) m rfl
def ajM{O}{w}(h:Is O w (du F L)):eM O w (dF p) (.f8 (p∈L)<|F p):=by
 by_cases m:p∈L
 .rw[.r m];show yT h m
 .rw[.x m];have:=eM.t (k:=ls p) h (HM p);rwa[Bs λx D e=>m (.oF<|HL e)] at this
def RJ{L}{p}(h:p∉L)(hz:.hi<=10000000){O O'}{q}(V:bR q (du F L) (du F<|L++[p]) O O'):iQ q (dF p) (F p) O O':=by let n:=.rj (ls p) ls F L (F p) (h (.oF<|HL e));calc .t (k:=ls p) (ks:=.bG ls) (ws:=.bG F) (HM p) (.pQ<|.lB hz) ?_;rw[n.1,n.2];unfold du at V;rw[bo,bo] at V;show V
def tQ(o:.c1)(k:bU):=.A (k∈o) o<|o++[k]
def ajN o ks k:TT.addAll o (ks++[k])=tQ (TT.addAll o ks) k:=by unfold TT.addAll;rw[kM];rfl
def RK:∀ks o,∃r,TT.addAll o ks=o++r/\.iU<=.gF
 |[],o=>(.g [] (by simp[TT.addAll]) .f)
 |k::ks,o=>by
  let[r,B,M]:=RK ks (tQ o k);let e:TT.addAll o (k::ks)=TT.addAll (tQ o k) ks:=rfl;rw[e,B];unfold tQ;split
  .show(.aX r .dV)
  .show(.g ([k]++r) (by rw[eZ]) .dV)
def lu(l:.c1):W:=.nk dF
def ajO:bT:=λb O F=>∃k D C,b=[df D,.p k]/\O=[(k,.lA C)]/\.bh .hJ/\(∀a∈D,.nQ<=50)/\.dc C.length/\∀c,TT.addAll C (D.flatMap .ne)=C++c->F (lu c) [(k,.lA<|C++c)]
def ajP:.aI [.pN,"known",.ke,.hP,"kids","kid"] [.pN,"known"] 44:=.Q
def ajQ(X:.aq Q x qq):bq P w K Q x "new_kids" [.pN,"known"] (.L ajO) 1:=by
 let S:=ajP;calc X.adV.t S .pm .ja;let[k,D,C,rfl,rfl,B,M,h3,Y]:=h;let R:=dJ Z;let r:∀i,.ae (.b9 (.c3 i) .ne) (i*50):=λi=>by rw[BG];show bC (sx λa J=>M a (o_ J)) (Dc _ .lV)
 calc .j2 2 .fd;refine cu (bP (.e5 (.bZ<|.gD (λi u y=>∃c,TT.addAll C (.b9 (.c3 i) .ne)=C++c/\.c9<=i*50/\u=[.b<|df D,.K k,.b3,none,none,none]/\y=[(k,.lA<|C++c),(q,lu c)]) (.cs [] (by simp[TT.addAll]) .f<|by simp[lu]))))
 .intro i w _ _ T [c,t,d,rfl,rfl];let[o,J,rfl]:=dw T;let[n,i2]:=.bd J;let L:=M o (bb J);let N:.b9 (.c3<|i+1) .ne=.b9 (.c3 i) .ne++o.kids:=by rw[dX n,i2,zY];simp
  calc(.gS _ _ 3 4);refine cu (Bf (.mQ (lq o.kids) (.gD (λm u y=>∃c,TT.addAll C (.b9 (.c3 i) .ne++o.kids.take m)=C++c/\.c9<=i*50+m/\u=[.b<|df D,.K k,.b3,.J o.rule,.b<|lq o.kids,none]/\y=[(k,.lA<|C++c),(q,lu c)])<|.gs c (by simpa using t) .a)))
  .clear t d c;intro m w _ _ G [c,t,d,rfl,rfl];let[b,V,rfl]:=dw G;let[W,I]:=.bd V;let g:TT.addAll C (.b9 (.c3 i) .ne++o.kids.take (m+1))=tQ (C++c) b:=by rw[dX W,I,<-eZ,ajN,t]
   calc(.fL _ _ 5);refine .hW (.bC<|b∉C++c) (pK R .e .e (ajM (p:=b)<|.cE k)) (.qk b<|C++c) .M .M
   .let z:=.ch;calc .o5 k R .gj (.iA _ _ (RJ (F:=.qA) (p:=b) z (by rw[ez];lia) .bF) ?_);refine .mm q (.g1 (dF b) (.cX _ .iD .nd<|.eG (.cs (c++[b]) (by rw[g,tQ,.x z,eZ]) .dV<|by rw[eZ,lu,bo];rfl)))
   .let z:b∈C++c:=ph.mp .cr;show .a2 (.gs c (by rw[g,tQ,.r z]) .a)
  .clear t d c;intro _ _ [c,t,d,rfl,rfl];rw[aj] at t d;rw[eP,<-N] at t;show .a2 (.gs c t .a)
 .intro _ _ [c,t,d,rfl,rfl];rw[aj,eP] at t;show .jb 2 [_] [] (.gn<|Y c t)
def HN:∀{l:.bq} {i j:Nat} {p:.c1},p∈TT.parts rs x l i j->.jW<=.ax
 |[],i,j,p,h=>by unfold TT.parts at h;lk
 |s::l,i,j,p,h=>by
  let[c,_,h]:=dP.mp h;let[q,f,rfl]:=.Y h;have:=HN f;have:.ae (gi s i c) 1:=by cases s<;>simp[gi]
  lk
def ajR(Q:et g m)(h:a∈.fB x n):.nQ<=8:=by let[r,B,M,A]:=BI.mp h;show bC (HN A) (Q.rhs r<|bb B)
def RL(h:∀n∈L,F n=G n):du F L=du G L:=by unfold du;cbv
def ajS(C T f:af):bT:=λj O F=>∃d M a N o b i y e Y g x h,j=[.dn,aa h,bc x]/\O=FO C T f d M a N o b i y e Y g/\d.Ok/\Kn e/\.dc .fC/\.W<=24/\(∀c∈x,c<d.n)/\h<.a6/\TT.T .al h x≠TT.c0/\
 (gL d.g x (.dr h)->∀N o i e Y,Kn e->.dc .fC->F .non (FO C T f d M a N o b i y e Y g))/\
 (¬gL d.g x (.dr h)->∀N o i e Y D,Kn e->.dc .fC->D.Nodup->(∀m,m∈D↔m∈eX d.g x (.dr h))->F (.lq (.n4 x n) D) (FO C T f d M a N o b i y e Y g))
def ajT:.cd [.cC,.an,.cm,"order","known",.ke,"room","node"] .hN 43 3:=.Q
theorem RM(X:.k9 P w K l):c7 P w K mg base l.f "nodes_over" .hN (.L<|ajS l.c l.t l.f) 7:=by
 let S:=ajT;calc X.adW.t S .sm .ja;let[d,M,a,N,o,b,W,y,T,Y,pr,x,h,rfl,rfl,Q,C,yU,hl,hc,V,hT,kG,kF]:=h;let hu:=dJ Z;let wf:=Q.gr.wf;let Cv:(.dr h)∈.tX d.g:=by rw[lX,fy wf];show(.q V (eY _) .ao<|by simpa[TT.pc] using hT)
 calc b_ (.sI (v5 X) .cv .bV<|.g9 {.cb l.c l.t T,[_,_,_],rfl,a,d,N,o,T,x,h,rfl,rfl,Q,V,hl,hc,C,yU,?_});clear C yU N o T;intro N o T C yU hx;refine .n6 (.ai 40000 .jZ) (λΓ O'=>∃W Y,.jZ<=40000/\Γ=[.fU,.J h,.eH x,none,none,none,none,none]/\O'=.jI) (XT.of (g7 b9.gt (Bw (.eo .dm) .e (.cE W) .f) .e<|fb _) .bV) (.s<|.gs W Y .fM) ?_
 .calc .hu b .kd (X.gK.na _ .V) (vn (.as .r1));calc .gi (FO l.c l.t l.f d M a N o b p y T [] pr++[(W,rC (.as (ai<|v7 d p)) Y)]) ?_ (ar.drop (.a2<|.gs p [] .f));show qp (.cb l.c l.t T) (.bj _<|List.reverse_perm [_,_,_])
 clear Y W;intro _ _ [W,Y,hsz,rfl,rfl];let hz:i3 d x Y:=(.ab Y [] .f .a .nil .f);calc .nI 3 (.d9 (dF<|.dr h) (.gh .nR)<|.ft λoq=>?_);refine .ba 4<|vx (k:=ls<|.dr h) (u:=.gj) hu .hQ .oh λkq=>?_
 .show cM (w:=.p oq) .e .e (.cE oq) (.bX (jb _ .mT=_)<|cR rfl)
 calc .ba 5 (vn λfq=>?_);calc .hy 6 (aa 512);calc .oc 257 (λμ Γ O'=>∃k D I Y,vH d.g x (.dr h) D k I/\i3 d x Y/\μ=257-k/\Γ=[.K b,.J h,.eH x,.K oq,.K kq,.K fq,.J I,none]/\O'=.jI++[(oq,lu D),(kq,.lA D),(fq,.lq (.n4 x n)<|.c3 k)]) {0,[(.dr h)],512,Y,ae2,hz,rfl,rfl,rfl} ?_;clear hz hsz Y;intro _ _ _ [k,D,I,Y,bi,hz,rfl,rfl,rfl];let tl:(.m<|.c3 k)=k:=by rw[dZ,wM bi.le]
 let ao8:=bi.bS;refine(.q (.ai k .hJ) (XT.of (g7 (wb:=aa .hJ) b9.lt .wx (.gh .nR)<|fb _) .bV) .M .M)
 .let z:=.ch;obtain⟨n,t⟩:∃n,D[k]?=.b n:=(.cz<|cf z);let hno:=bb t;let[b1,b2,b3,_]:=nk wf (pS Cv<|bi.vI n hno);let hnk:n∉.c3 k:=.cN (by let nd:=bi.nodup;rw[<-wN k D,jU] at nd;show nd.2.2 n m n (bb (i:=0) .bV) rfl)
  let tk1:.c3 (k+1)=.c3 k++[n]:=by rw[JG,t];rfl
  let ao9:I<=512:=by have:=bi.room;lia
  obtain⟨A,hA⟩:∃A,A=.aC (bu .al x n) (I+1):=(.a5 _);let lA:.bh A.length:=.d
  let kA:∀a∈A,.nQ<=50:=λa J=>by rw[hA] at J;show .gK (ajR Q.gr<|o_ J)
  let eF:.lq (.n4 x n) (.c3 k)=du .nt (.c3 k):=RL λm hm=>.d
  rw[eF];calc .cV 7 (dF n) (cM (w:=.p oq) .e (XV.of (k':=aa k) .wx .fM) (.cE oq)<|cR .d);calc iR (q:=fq) hu (.lH (ajL X) .kd<|.df (.df<|.e7 (aa<|I+1) {.jI,[_,_,_],rfl,d,M,a,N,o,b,W,y,T,Y,pr,x,n,I+1,rfl,rfl,Q,C,hx,hl,b1,b2,b3,hz,.a,?_}));clear hz Y;intro Y hz;rw[<-hA];refine(.iA (dF n) (.jI++[(oq,lu D),(kq,.lA D),(fq,du .nt<|.c3 k++[n])]) ?_ ?_)
  .have:=RJ (F:=.nt) (p:=n) hnk .a (O:=.jI++[(oq,lu D),(kq,.lA D),(fq,du .nt<|.c3 k)]) (.kv<|.kv .bF);cbv
  let val:∀{O:OM},Is O (.p fq) (du .nt<|.c3 k++[n])->eM O (.p fq) (dF n) (.b<|df A):=.aQ (by have:=yT (p:=n) h .f;cbv)
  calc vp (j:=6) Ko S.nd rfl (n:=(A.length:Int)) (.bi (mW (.eo .dm) (.mn hu (val<|.cE fq)) .w) .bV) ?_;calc .gi ((kq,.lA D)::(.jI++[(oq,lu D),(fq,du .nt<|.c3 k++[n])])) (uw (l₁:=.jI++[(oq,lu D)])) ?_;refine b_ (.o0 oq .g0<|.gl (ajQ X) (.f5 (df A) (.mn hu (val<|.cE fq))<|.g2 {[_],_,rfl,kq,A,D,rfl,rfl,lA,kA,.a,λnew HP=>(.fK (D.map dF) (new.map dF) .w (.kv .qY) ?_ ?_)}))
  .let[r,q1,B]:=RK (A.flatMap .ne) D;rw[HP] at q1;rw[List.append_cancel_left q1,aj,aj];have:.ae (A.flatMap .ne) (A.length*50):=by rw[BG];show sx kA
   show .gK (.dg<|.eg _)
  .change ar _ [.K b,.J h,.eH x,.K oq,.K kq,.K fq,.gG<|(I:Int)-(A.length:Int),.b<|dF n] ((kq,.lA<|D++new)::(.jI++[(.dy oq<|D.map dF++new.map dF),(fq,du .nt<|.c3 k++[n])])) _ _;rw[<-bo];calc .gi (.jI++[(oq,lu<|D++new),(kq,.lA<|D++new),(fq,du .nt<|.c3 k++[n])]) (uw (l₁:=.jI++[(oq,lu<|D++new)])).symm ?_;let out:gL d.g x (.dr h)->∀{R:OM},Dr Kk .non (.jI++R):=λg R=>(.q .jI R (z8 _)<|kG g N o W T Y C yU);let G:(.m<|(D++new).map dF)=(.m<|D++new):=aj ..;by_cases hm:.ae (bu .al x n) I
   .let HQ:A=bu .al x n:=by rw[hA,nL .a]
    have eF2:du .nt (.c3 k++[n])=.lq (.n4 x n) (.c3<|k+1):=by
     rw[tk1];show RL λm _=>by
      by_cases e:m=n
      .rw[.cK,HQ,e]
      .rw[.bU]
    rw[eF2];rw[HQ] at HP;let st:=ae4 wf Cv bi t hm;rw[HP] at st;let[g1,g2]|||[g1,g2]:=st
    .calc .hW true .aH (by rw[G,rR];show .F (.g8 .a)) .eq .aV;show .je (out g2)
    .let e6:(I:Int)-(A.length:Int)=(.cj<|I-(.m<|bu .al x n)):=by rw[HQ];lia
     rw[e6];calc .hW .j .aH (by rw[G,Dt];show(.c (.h2 .a)<|.h2 .a)) .aV .eq;let ht2:.aC (D++new) (k+1)=.c3 (k+1):=by rw[Jj .a]
     rw[<-ht2];show .a2 {257-(k+1),.a,k+1,D++new,_,Y,g2,hz,rfl,rfl,rfl}
   .let g2:=ae3 wf Cv bi t .a;let la:A.length=I+1:=by rw[hA,dZ];lia
    calc .hW true .aH (by rw[la,rR];show .z (.g8 .a)) .eq .aV;show .je (out g2)
 .let z:=.cr;let[L,e2,e3]:=ae5 wf Cv bi .a;rw[nL .a];calc .ro 5 fq (.lq (.n4 x n) D) (.jI++[(oq,lu D),(kq,.lA D)]) [] ?_;show .je (.q .jI [_,_] (z8 _)<|kF L N o W T Y D C yU e2 e3)
def ajU:bT:=λa O F=>O=[]/\∃(D:.c1) (o:bU->.y Alt),a=[.lq (df<|o n) D]/\D.Nodup/\.bh .hJ/\(∀n∈D,.a0<=.aZ)/\((∀m∈D,.ae (o m) 1)->F .non [])/\∀m∈D,∀p q r,o m=p::q::r->(∀n∈D,1<(.m<|o n)->Vaglrc.earlier n m=.j)->F (.am [dF m,hJ p,hJ q]) []
def ajV:.aI ["nodes","node","parted"] ["nodes"] 45:=.Q
theorem RN(X:.aq g b qq):bq P w K g b .h5 ["nodes"] (.L ajU) 3:=by
 let[c,Q,L]:=X.aev;let S:=ajV;calc X.aeu.tl S .pm L λf A U s H E W O F Z h=>?_;let[rfl,D,o,rfl,N,ol,x,a,J]:=h;let R:=dJ Z;refine acL (j:=2) S.nd [("node",1)] .p9 (mY (j:=0)) ?_
 .rw[a_,.lX<|(fT∘ls)=dF];refine lc (l:=D) (λn=>[.b<|.lq (df<|o n) D,.b<|dF n,none]) (λn=>.ai 1 (.m<|o n)) dF .a ?_ .hQ
  .show λn t p v I T C cl y=>(.g (.dS 1) (XT.of (g7 (b9.gt (i:=(.jf<|(o n).map hJ)) (j:=1)) (mW (.eo .dm) (w:=df<|o n) (jD R (w:=.lq (df<|o n) D) .e .e<|yT (p:=n) .w t) .w) .e<|fb _) .dV)<|.P .e)
  calc ar.aB (O1:=[]) (O2:=[]) (j:=2) rfl ?_;refine .hW (.aj .r2 []) (g7 (b9.eq (i:=(.jf<|(.r2).map dF)) (j:=0)) (mW (.eo .dm) .e .w) .e<|fb _) .f .M .M
  .show .f3 .non (.ay<|a (.hw<|aoc (.aQ<|by have:=.ch;rw[JH] at this;show this m G (.g8 h))))
  .refine .ba 1<|acJ (ns:=.r2) (w:=.mo .r2 dF) .zw Z rfl (.eo "min") .e .w .cr (λn t=>x n<|.lr t) rfl rfl rfl rfl rfl (by change(("core_among":Str)++".<locals>.")++.nV=lN 410;decide+kernel) (λ_ _ _ _ _ _ _ _=>rfl) λm G V=>?_;let[B,M]:=cZ.mp G;let M:=.i9 M;obtain⟨p,q,r,e⟩:∃p q r,o m=p::q::r:=by
    match e:o m with
    |[]=>rw[e] at M;simp at M
    |[_]=>rw[e] at M;simp at M
    |p::q::r=>show(.q p q r rfl)
   let Y:=J m B p q r e λn t d=>V n (cZ.mpr (.c t<|.g8 d));show aF (vm<|.gz (dF m) (ae (cM (k:=0) (u:=hJ p) (.mn R<|yT (p:=m) .w B) .e .w<|by rw[e];show cR (j:=0) rfl)<|ae (cM (k:=1) (u:=hJ q) (.mn R<|yT (p:=m) .w B) .e .w<|by rw[e];show cR (j:=1) rfl) (.m0<|.ay Y)))
def pairF(g:aQ)(h:Nat)(x:.h):.aR (Nat×Nat):=match ju g h x with
 |.core c=>.tB
 |_=>none
def Cw:.aR (Nat×Nat)->W
 |none=>.non
 |some p=>.gX p.1<|aa p.2
def yV(u:.gP){h}(V:h<.o){x:.h}:.dd (.dr h)↔TT.T .B h x≠TT.c0:=by
 rw[lX,fy u];let e:.jB 0 .W=x:=by simp[TT.pc]
 walk
 .intro⟨_,_,_,P⟩;rwa[e] at P
 .intro P;show(.q V (eY _) .ao<|by rw[e];show P)
def ajW(h:TT.Le (.b 2) c):1<.b0 c:=by
 cases c with
 |none=>show GD
 |some n=>
  let h:2<=n:=h;change 1<min n TT.MW;have:2<=TT.MW:=.V
  lia
def ajX(u:.gP){h}(V:h<.o){x}(hw:¬1<.ic .B h x\/gL g x (.dr h)):.H (pairF g h x):=by
 unfold pairF;by_cases M:TT.T .B h x=TT.c0
 .rw[Gj u (.s<|(yV u V).mp z M)]
 .let Z:=(yV u V).mpr M;by_cases S:gL g x (.dr h)
  .rw[Gi u Z S]
  .let hw|||hw:=hw
   .rw[Gk u Z S (.hw<|dW (.bO (hw<|by have:=ae' u Z G .a;rw[.yx] at this;show ajW this)))]
   .show .aa hw S
def ajY(C T f:af):bT:=λj O F=>∃d M a N o b i y e Y g x h,j=[.dn,aa h,bc x]/\O=FO C T f d M a N o b i y e Y g/\d.Ok/\Kn e/\.dc .fC/\.W<=24/\(∀c∈x,c<d.n)/\h<.a6/\∀N o i e Y,Kn e->.dc .fC->F (Cw<|pairF d.g h x) (FO C T f d M a N o b i y e Y g)
def ajZ:.cd [.cC,.an,.cm,"nodes","core"] .hN 43 2:=.Q
def aj0(X:.fe P w K):c7 P w K mg base qq.f "find_pair" .hN (.L<|ajY qq.c qq.t qq.f) 8:=by
 let S:=ajZ;calc X.adX.t S .sm .gd;let[d,pF,a,N,o,b,T,y,I,Y,g,x,h,rfl,rfl,Q,C,i,hl,hc,V,k]:=h;let R:=dJ Z;let wf:=Q.gr.wf;let l:(¬1<.ic .al h x\/gL d.g x (.dr h))->∀N o T I Y,Kn I->.dc .ec->F .non (FO qq.c qq.t qq.f d pF a N o b T y I Y g):=λz N o T I Y C i=>.sA (k N o T I Y C i) (ajX wf V z)
 calc .ba 3 (abV<|N1 (dM (v5 X) .cv .az (w:=.T) .e .e6 .fY<|.g9 {.cb qq.c qq.t I,[_,_,_],rfl,a,d,N,o,I,x,h,rfl,rfl,Q,V,hl,hc,C,i,?_}));clear C i N o I;intro N o I C i hx;refine(.qx _ 1 rfl .M .M)
 .let z:1<.ic .al h x:=.dJ .ch
  let M:TT.T .al h x≠TT.c0:=λe=>by rw[e,jB] at z;lia
  refine .lH (RM X) .kd (.g9<|.ay {d,pF,a,N,o,b,T,y,I,Y,g,x,h,rfl,rfl,Q,C,i,hl,hc,V,M,λhg N o T I Y C i=>?_,λhg N o T I Y D C i nd u=>?_})
  .calc .kP (.iH .non .io);show .gn (l (.F hg) N o T I Y C i)
  .calc .mj (.iH (.lq (.n4 x n) D) .ol);let c:=(yV wf V).mpr M;let ol:.bh .hJ:=by let B:=.zp;have:¬256<(.m (eX d.g x<|.dr h)):=.bO (hg<|.z q);lia
   refine .ba 4 (.gl (RN X)<|.nW (.lq (.n4 x n) D) {rfl,D,_,rfl,nd,ol,λn t=>(nk wf<|pS c ((nh c).mp<|(u n).mp t)).2.1,λhs=>?_,λm G p q r J L=>?_})
   .have:=afd wf c (.hw (hs m<|(u m).mpr G));rw[.yx] at this;rw[this] at z;show .ng z
   .let e:pairF d.g h x=.be p.rule q.rule:=by unfold pairF;rw[BJ wf c hg ((u m).mp G) J λn t=>L n ((u n).mpr t)]
    rw[e] at k;show .f3 (.gX p.rule<|aa q.rule) (.ay<|k N o T I Y C i)
 .let z:¬1<.ic .al h x:=.dJ .cr
  calc .g1 .non ?_;calc .kP (.iH .non .io);show .gn (l (.z z) N o T I Y C i)
def jn(d:CD):TN->W:=.as (Cw<|pairF d.g p.1 p.2)
def aj1(C T f:af):bT:=λj O F=>∃d a N o b i y e Y g x h,j=[.dn,aa h,bc x]/\O=.tA/\d.Ok/\Kn e/\.dc .fC/\.W<=24/\(∀c∈x,c<d.n)/\h<.a6/\.f1<=10000000/\∀N o i e Y,Kn e->.dc .fC->F (Cw<|pairF d.g h x) (FO C T f d (jn d) a N o b i y e Y<|jm g (h,x))
def aj2:.cd [.cC,.an,.cm,"key"] .hN 43 1:=.Q
def aj3(X:.aq D r l):c7 P w K D r l.f "rules_at_odds" .hN (.L<|aj1 l.c l.t l.f) 9:=by
 let S:=aj2;calc X.adY.t S (λ_ _ _ {_,_,_,_,_,_,_,_,_,_,_,_,e,_}=>.dR) λf v A U s H E M O L Z h=>?_;let[d,a,N,o,b,n,y,c,Y,g,x,h,rfl,rfl,Q,C,i,t,I,V,G,k]:=h;let R:=dJ Z;calc .hy 3 (.gX h<|bc x);refine .n6 (.bC<|(h,x)∉g) (λu B=>∃N o n c Y,Kn c/\.dc .c9/\(h,x)∈jm g (h,x)/\u=[.K b,.J h,.eH x,.ep [aa h,bc x]]/\B=FO l.c l.t l.f d (jn d) a N o b n y c Y (jm g (h,x))) (XT.of (pK R .e .e (RC (p:=(h,x))<|.cE y))<|.qk (h,x) g) .M ?_
 .let z:=.ch;let J:jm g (h,x)=g++[(h,x)]:=.x z;rw[J];calc iR (q:=y) R (.lH (aj0 X) .kd (.g9<|.ay {d,jn d,a,N,o,b,n,y,c,Y,g,x,h,rfl,rfl,Q,C,i,t,I,V,?_}));clear C i N o c n Y;intro N o n c Y C i;show(.iA _ _ (RD (F:=jn d) (p:=(h,x)) z G<|.kv .iD)<|.a2 #[N,o,n,c,Y,C,i,.f,rfl,rfl])
 .let z:(h,x)∈g:=ph.mp .cr;let J:jm g (h,x)=g:=.r z;rw[J];show#[N,o,n,c,Y,C,i,z,rfl,rfl]
 .clear C i N o c n Y;intro _ _ [N,o,n,c,Y,C,i,m,rfl,rfl];show aF (.dH (Cw<|pairF d.g h x) (.mn R<|HG (F:=jn d) (p:=(h,x)) (.cE y) m) (.ay<|k N o n c Y C i))
def ly(d:CD)(i h:Nat):=.d0 (.dx (.aC (.hK .qI .al) i) (.as<|.kT==h)) (p.1,.n3 p.1)
def aj4{i h}{r}(Z:.al[i]?=.b r):ly d (i+1) h=ly d i h++.ea (.C=h) [(i,.n3 i)] []:=by let[B,M]:=.bd Z;let e:(.hK .qI .al)[i]?=.be i r:=JR.mpr (.c (o6 B) Z);unfold ly;rw[JG,e,JN,bo];by_cases q:.C=h<;>simp[q]
def aj5(C T f c:af):bT:=λg O F=>∃d M a N o b e D Q,g=[.dn,cC c d.g D Q,.T]/\O=.cb C T e++[(.eD b f [] [])]/\d.Ok/\∀h y,F .non (FO C T f d M a N o b h y e [] [])
def aj6:.cd [.cC,.ap,.hh,.an,.iV,.hP] (.gL .ap .hh) 43 0:=.Q
def aj7(X:.k9 P w K m):mR P w K mg base m.f "Forests" (.gL .ap .hh) (.L<|aj5 m.c m.t m.f m.g) 1:=by
 let S:=aj6;calc X.adZ.t X.ad0 S .sq .gd;let[d,pF,a,N,o,T,us,D,co,rfl,rfl,Q,k]:=h;let vY:=Q.gr.nons.2;let t:=Q.gr.rules;calc .hu T .kd (X.gK.na _ .V) (.g1 .T .r1);calc .hu T .kd (X.gK.na _ .V) (.h4 [(.an,3)]<|.mw .a6 (.od .iy .lS (.po (.pu 3) (bY<|.m0 .bs)) λY x hq=>{.e,_,_,_,_,_,.ki .qY,.nw,.V,ar.perm fX ?_}) .bo);simp only[cq,aj,rW] at hq|-;rw[sW];refine cu (vq (.mQ (dn .al)<|.k4 (u=[.K T,.qg m.g d.g D co,.cq,none,none,none]/\O'=.cb m.c m.t us++.vH::(.dy Y<|x.map .c4)::x.zip (.hB (bV<|ly d i h) .a6)) .bW)<|.eo .jS)
 .intro i w _ _ hi [rfl,rfl];let[_,I,rfl]:=x_ hi;let[r,c,rfl]:=dw I;let g:=bb c;let jc:=Q.gr.wf.lhs r g;let J:=(.aw c);let M:x[.C]?=.b (x[.C]):=cf .a;let B:(x.map .c4)[.C]?=.K (x[.C]):=by rw[bG,M];rfl
  let q3:=.n9 (bV<|ly d i h) jc;let C:=.hb d.bM i (by rw[Q.tl.len];show J);let L:.ae (ly d i .C) 60:=by unfold ly;rw[aj];calc bC (lM _ _) ?_;rw[dZ,uu];lia
  let G:=bR.zip (R:=[]) (d:=.eK ((ly d i .C).map fh) [fh (i,.n3 i)]) M q3;rw[eS,eS] at G;calc(.gS _ _ 4 5);calc .pH (x[.C]) (.oG (.oG<|.fy G.mem)) (.g1 (fh (i,.n3 i))<|.cX _ (.kv<|.there G) .nd .hp);rw[qU,.bX (.hB (.A (h=.C) (.c5<|(ly d i .C).map fh++[fh (i,.n3 i)]) (bV<|ly d i h)) .a6=.hB (bV<|ly d (i+1) h) .a6)<|j_ .om]
  .rfl
  .rw[aj4 c];by_cases e:b=.C
   .rw[.cK,.r e.symm,e,bV,bo];rfl
   .rw[.bU,.hm<|e z.symm,eS]
 .intro _ _ [rfl,rfl];let e:(.m (jg<|d.g.rules.map gh))=.qI:=by simp[jg]
  rw[e,.bX (.hB (bV<|ly d .qI h) .a6=.hB (bV<|nz d h) .a6)<|j_ λh _=>by unfold ly nz;rw[nL<|by rw[uu];lia]];calc .gi (.vH::(.cb m.c m.t us++(.dy Y<|x.map .c4)::([]++(x.zip (.hB (bV<|nz d h) .a6)++[])))) (by rw[eS];show uw) ?_;calc ar.Bt 1 rfl (by rw[oA,hq]) ?_;calc .gi (.cb m.c m.t us++[(.eD T m.f [.hh,"rules_of"] [.T,.yw])]) (fX (l₁:=[_])) ?_;calc .hu T .kd (X.gK.na _ .V) (vn λks=>.r1);calc .hu T .kd (X.gK.na _ .V) (vn λy=>.r1);show .j6 (k ks y)
def jR(l:.b8):W:=.nk bc
noncomputable def iw(d:CD)(h:Nat)(l:.b8):=.bA (.ah<|.ic .al h x)
def aj8(C T:af):bT:=λe O F=>∃a d N o b h l,e=[.T,aa h,jR l]/\O=.cb C T b/\d.Ok/\h<.a6/\(∀x∈l,.W<=24/\∀c∈x,c<d.n)/\.bh .ax/\Kn b/\.dc .cU/\∀N o b,Kn b->.dc .cU->F (ai [.ax,(.l5 (iw d h l) λw=>.ai 0 w),(.l5 (iw d h l) λw=>.ai 1 w),(.l5 (iw d h l) λw=>.aj w .bc)]) (.cb C T b)
def aj9:.aI [.hh,.an,.kg,.cm,.e0,"limit",.iV,"covered","several","infinite"] [.hh,.an,.kg] 80:=.Q
theorem aj_(X:.aq mg I g):bq P w K mg I "tally_of" [.hh,.an,.kg] (.L<|aj8 g.c g.t) 7:=by
 let S:=aj9;calc X.ad1.t S .ri λf f6 A U s H E b O F Z h=>?_;let[a,d,N,o,c,h,l,rfl,rfl,Q,V,D,J,C,u,k]:=h;refine .l0 4 S.nd [(.cm,3)] (.lP<|N3 (λ_ O'=>∃N o c,Kn c/\.dc .c9/\O'=.cb g.c g.t c) (.ah [.cq,.J h,.b<|jR l,.eH x,none,none,none,none,none,none]) (.ah (aa<|.ic .al h x)) .a (.gE N o c C u) ?_ ?_)
 .intro i x hi p y _ [N,o,c,C,u,rfl] s H m T Y;let[B,M]:=D x (bb hi);show(.jE 3 (.lH (v5 X) .cv<|.g9 {.cb g.c g.t c,[_],rfl,a,d,N,o,c,x,h,rfl,rfl,Q,V,B,M,C,u,λN o c C u _=>(.dB _ (.gE N o c C u) rfl)}))
 intro p _ [N,o,c,C,u,rfl];calc .qh 4 p (.cb g.c g.t c) [] ?_;let R:.u9:=by rw[ai,iw,a_];rfl
 rw[R];let z:(.m<|iw d h l)=.ax:=by simp[iw]
 let k:=k N o c C u;rw[<-z] at k;rw[<-z] at J;let G:(.jf<|.bA bc)=(.cj (.m<|iw d h l)):=by rw[z,aj]
 generalize iw d h l=b at*;calc .cV 5 (aa .bc) (vT (vS X) .az);let r:∀{q:Nat->Bool} {v:.h},.bh .jY->.bh (.m<|v.filter q):=.aQ (bC (lM _ _) h);let f2:.dx (.ku<|.ai 0 w) (λw=>.ai 1 w)=.ku (.ai 1 w):=by rw[z0];congr 1;funext w;rw[gx];simp;lia
 let L:.dx (.ku<|.ai 1 w) (λw=>.aj w .bc)=.ku (.aj w .bc):=by rw[z0];congr 1;funext w;rw[gx];simp;intro e;rw[e];show GD
 calc .l0 7 S.nd [(.iV,6)] (.lP<|lc (λn=>[.cq,.J h,.b<|jR l,none,.bY b,.J .bc,.J n,none,none,none]) (λw=>.ai 0 w) aa .a (λn t p y s H m T Y=>(.g (.dS 6) (.lL (.bX (.ai .mT .dZ=_)<|.iC uv))<|.P .e)) .hQ);calc .qh 7 p (.cb g.c g.t c) [] ?_;calc .l0 8 S.nd [(.iV,6)] (.jz (ai (.ku<|.ai 0 w))<|lc (λn=>[.cq,.J h,.b<|jR l,none,.bY b,.J .bc,.J n,.bY (.ku<|.ai 0 w),none,none]) (λw=>.ai 1 w) aa (.gK<|r J) (λn t p y s H m T Y=>(.g (.dS 6) (.lL (.bX (.ai (.cg (1:Nat)) .dZ=_)<|.iC uv))<|.P .e)) .hQ);calc .qh 8 p (.cb g.c g.t c) [] ?_;rw[f2];calc .l0 9 S.nd [(.iV,6)] (.jz (ai (.ku<|.ai 1 w))<|lc (λn=>[.cq,.J h,.b<|jR l,none,.bY b,.J .bc,.J n,.bY (.ku<|.ai 0 w),.bY (.ku<|.ai 1 w),none]) (λw=>.aj w .bc) aa (.gK<|r J) (λn t p y s H m T Y=>(.g (.dS 6) (.lL (.bX (.aj .dZ (.cg (TT.END:Nat))=_)<|.iC DA))<|.P .e)) .hQ);calc .qh 9 p (.cb g.c g.t c) [] ?_;rw[L];calc .f3 (.Z [.ip<|.bA bc,.ip<|.cp (.ku<|.ai 0 w),.ip<|.cp (.ku<|.ai 1 w),.ip<|.cp (.ku<|.aj w .bc)]) (.ay ?_);rw[G,aj,aj,aj];show k
section
variable{κ α:Type}[.l4 κ][.l4 α]{kf:α->κ}
def RO(i:∀x y,kf x=kf y->x=y) u(L:.y α) x:iP (.bG kf) (kf x)=(.A (x∈L) L<|L++[x]).map kf/\jC (.bG kf) (.bG λ_=>u) (kf x) u=(.A (x∈L) L<|L++[x]).map λ_=>u:=by
 let m:kf x∈.bG kf↔x∈L:=.d
 unfold iP jC;by_cases q:x∈L
 .rw[.r<|m.mpr q,.r<|m.mpr q,.dF];calc .iM;clear m q;induction L with
  |nil=>rfl
  |cons a L E=>lk
 lk
def aj'(i:∀x y,kf x=kf y->x=y) u(L:.y α) x:dU (.bG kf) (.bG λ_=>u) (kf x)=.kZ (x∈L) .aJ:=by
 by_cases q:x∈L
 .rw[.dF,.rC (i _ _ e) q rfl]
 .rw[.ff,Bs λy T e=>q .d]
end
def tR(p:Nat×Nat):TK:=[.at<|.z p.1,.at<|.z p.2]
def aka x y(h:tR x=tR y):x=y:=by grind[tR]
def Cy(L:.bK):W:=.dT (.bG tR)<|.bG .qA
def akb(h:bR q (Cy L) (Cy<|oG L p) O O')(hz:.eg .hi):iQ q (.gX p.1<|aa p.2) .gj O O':=
 iQ.t (ks:=.bG tR) rfl (.nx hz) (by
  let[a,C]:=RO aka _ L p;rw[a,C];unfold oG at h;by_cases m:p∈L
  .rw[.r m] at h|-;show h
  .rw[.x m] at h|-;show h)
noncomputable def iy(d:CD)(h:Nat)(l:.b8):.bK:=.ef (λs x=>match pairF d.g h x with
 |some p=>oG s p
 |none=>s) []
def akc{d}{h i}{l:.b8}{x:.h}(D:l[i]?=.bt):iy d h (l.take<|i+1)=match pairF d.g h x with
 |some p=>oG (iy d h .ii) p
 |none=>iy d h .ii:=by grind[aK,iy,dX,kM]
def akd s p:.ae (oG s p) (s.length+1):=by unfold oG;lk
def RP d h l:.ae (iy d h l) .ax:=by
 suffices V:∀(l:.y _) s,.ae (.ef (λs x=>match pairF d.g h x with
  |some p=>oG s p
  |none=>s) s) (s.length+.ax) by have:=V l [];simpa[iy] using this
 intro l;induction l with
 |nil=>simp
 |cons x l E=>
  intro s;rw[cW];calc bC (E _) ?_;rw[dS];split
  .have:=akd s ‹_›;lia
  .lia
structure oQ(n:Nat)(L:.b8)(pr:.y TN):Prop where
 nd:pr.Nodup
 sub:∀p∈pr,p.1<n/\p.2∈L
def oQ.len(h:oQ n L g):.f1<=n*.hi:=by have:=TT.sub_len (L:=.b9 (aq n) (λa=>.bG<|.ah (a,x))) h.nd (.dz (.kF p.1 (.fO (h.sub p R).1)<|.f7 p.2 (h.sub p R).2));simp_all[Jz]
theorem oQ.add(o:oQ n L g)(V:h<n)(D:x∈L):oQ n L (jm g (h,x)):=by
 unfold jm;split
 .show o
 .refine(.c ?_ .hR)
  .rw[jU];show(.i1 o.nd λa J b Y e=>.d)
  .let R|||R:=.c7 R
   .show o.sub p R
   lk
def ake(C T:af):bT:=λe O F=>∃a d N o b h l,e=[.T,aa h,jR l]/\O=.cb C T b/\d.Ok/\h<.a6/\(∀x∈l,.W<=24/\∀c∈x,c<d.n)/\.bh .ax/\0<.ax/\Kn b/\.dc .cU/\∀N o b,Kn b->.dc .cU->∀i m y,nr (iw d h l) i m->l[i]?=.eO->F (.gX m<|bc y) (.cb C T b)
def HR:∀{ws},0<.bp->∃i m,nr ws i m
 |[w],_=>(.g 0 w<|Px w)
 |p::x::l,_=>by
  by_cases q:p<x
  .let[i,m,h]:=HR (ws:=x::l) .f;show(.D _<|Py q h)
  .let[i,m,h]:=HR (ws:=p::l) .f;show(.D _<|Pz q h)
termination_by ws=>ws.length
def akf:.aI [.hh,.an,.kg,.cm,.e0,.eI] [.hh,.an,.kg] 81:=.Q
def akg(X:.aq mg G r):bq P w K mg G "widest_of" [.hh,.an,.kg] (.L<|ake r.c r.t) 7:=by
 let S:=akf;calc X.ad2.t S .ri λf f6 A U s H E I O F Z h=>?_;let[a,d,N,o,g,h,l,rfl,rfl,Q,V,D,hl,b,C,u,k]:=h;refine .l0 4 S.nd [(.cm,3)] (.lP<|N3 (λ_ O'=>∃N o g,Kn g/\.dc .f1/\O'=.cb r.c r.t g) (.ah [.cq,.J h,.b<|jR l,.eH x,none,none]) (.ah (aa<|.ic .al h x)) .a (.gE N o g C u) ?_ ?_)
 .intro i x J p acc _ [N,o,g,C,u,rfl] s H C' cl fp;let[B,M]:=D x (bb J);show(.jE 3 (.lH (v5 X) .cv<|.g9 {.cb r.c r.t g,[_],rfl,a,d,N,o,g,x,h,rfl,rfl,Q,V,B,M,C,u,λN o g C u _=>(.dB _ (.gE N o g C u) rfl)}))
 intro p _ [N,o,g,C,u,rfl];calc .qh 4 p (.cb r.c r.t g) [] ?_;let R:.u9:=by rw[ai,iw,a_];rfl
 rw[R];let z:(.m<|iw d h l)=.ax:=by simp[iw]
 let[i,m,c]:=HR (ws:=iw d h l) .a;let J:=(.aw c.1);obtain⟨y,T⟩:∃y,l[i]?=.eO:=(.cz<|cf .a);let kf:=k N o g C u i m y c T;clear k;generalize iw d h l=I at*;let L:(.bA bc)[i]?=.eH y:=.d
 calc .cV 5 (aa m) (abI (ns:=I.map λn:Nat=>.dZ) .bo (w:=ai I) .e (.z<|by unfold ai aM;rw[a_];rfl) .dV (.f7 m<|bb c.1) (.d2<|by let[v,Y,rfl]:=.Y T;have:=c.2.1 v Y;lia));refine aF (.dH (.gX m<|bc y) (vm<|.df (.d9 (bc y) (cM (w:=jR l) .e (acb (ns:=I) (n:=m) (j:=i) (w:=ai I) .e .w .e c.1 λn t e=>rK _ (c.2.2 n m t e)) .w<|L2.cR L)<|.iY .f)).xv<|.ay kf)
noncomputable def akh(C T f:af):bT:=λj O F=>∃d a N o b i y e Y g h l L,j=[.dn,aa h,jR l]/\O=.tA/\d.Ok/\h<.a6/\(∀x∈l,.W<=24/\∀c∈x,c<d.n)/\.bh .ax/\Kn e/\.dc .fC/\.bh .hi/\(∀x∈l,x∈L)/\oQ .a6 L g/\∀N o i e Y g,Kn e->.dc .fC->oQ .a6 L g->∀q,F .cI (.tA++[(q,bV<|iy d h l)])
def aki:.aI ["forests",.an,.kg,"pairs",.cm,"pair"] ["forests",.an,.kg] 82:=.Q
def akj(X:.k9 P w K J):bq P w K mg base "odds_of" ["forests",.an,.kg] (.L<|akh J.c J.t J.f) 10:=by
 let S:=aki;calc X.ad3.t S .sm λf v A U s H E ws O F hr h=>?_;let[d,a,N,o,b,I,y,r,Y,g,h,l,L,rfl,rfl,Q,V,D,hl,C,T,hL,G,c,k]:=h;calc .ba 3 (vn .fd);refine .jy<|.k4 (∃N o I r Y g,Kn r/\.dc .iU/\oQ .a6 L g/\u=[_,_,.b<|jR l,.b3,none,none]/\O'=.r0++[(q,Cy<|iy d h .ii)]) #[N,o,I,r,Y,g,C,T,c,rfl,rfl]
 .clear C T c N o I r Y g;intro i w _ _ hi [N,o,I,r,Y,g,C,T,c,rfl,rfl];let[x,t,rfl]:=dw hi;let n:=bb t;let[h1,M]:=D x n;let R:.f1<=10000000:=bC c.len (.gK<|zw (Q.gr.nons.2) hL);let B:=akc (d:=d) (h:=h) t;let m:.eg (.m<|iy d h .ii):=by let h3:=RP d h .ii;lk
  calc(.fL _ _ 4);calc .ba 5 (.sI (aj3 X) .kd .ha<|.g9 {.r0,[_],rfl,d,a,N,o,b,I,y,r,Y,g,x,h,rfl,rfl,Q,C,T,h1,M,V,R,?_});clear C T N o r I Y;intro N o I r Y C T;let c:=c.add V (G x n);cases e:pairF d.g h x with
  |none=>rw[e] at B;refine .pU (vk (wa:=.non) .e .io) (.P<|.a2 {N,o,I,r,Y,_,C,T,c,rfl,by rw[B]})
  |some p=>rw[e] at B;calc .kP (vk (wa:=.gX p.1<|aa p.2) .e .ol);refine .o5 q (dJ hr) .gj (.iA _ _ (akb (p:=p) (.kv<|.hV .bF) m)<|.eG {N,o,I,r,Y,_,C,T,c,rfl,.d})
 .clear C T c N o I r Y g;intro _ _ [N,o,I,r,Y,g,C,T,c,rfl,rfl];rw[aj,eP];calc aF (ab' (τs:=(iy d h l).map tR) .bo (w:=.cI) .e (.cE q) .hQ);calc(.q (.r0++[(p,bV<|iy d h l)]) [(q,Cy<|iy d h l)] ?_<|k N o I r Y g C T c p);rw[show .c5 (((iy d h l).map tR).map fT)=bV (iy d h l) by rw[bV,a_];rfl];generalize .r0=Z;rw[eZ,eZ];show qp _ fX
def gQ(g:aQ)(n:Nat)(s:.h):=fA .o (fj g s)++fA n (de g s)
def rE(g:aQ)(n:Nat):.dv (.b8->.aR .b8)
 |0,_,_=>none
 |f+1,i,a=>match a[i]? with
  |none=>.b a
  |some k=>.A (128<(.m<|.ei (.kQ g n) cb a)) none (rE g n f (i+1)<|.ei (.kQ g n) cb a)
def lz(g:aQ)(n:Nat):=rE g n 130 0 [[item (g0 g) 0]]
structure ku(g:aQ)(s:.h):Prop where
 me:jM g s
 it:∀c∈s,jP g c
def RQ(Q:et g n)(A:cj s)(C:∀c∈s,jP g c):s.length<=976:=iq (A.imp (.aQ<|cY h)) λc V=>by have:=(C c V).1;have:=Q.rules;lia
def HS(Q:et g n)(h:ku g s):∀c∈.kc s,jP g c:=λc V=>by
 have:=(BV Q.wf Q.nons.1).mp V;cases this with
 |me a=>show h.it c a
 |fresh _ _ D=>show(Cn D).1
def RR(Q:et g n)(h:cy g c=.eO)(V:jP g c):jP g (c+1)/\(c+1)% 16≠0:=by let[B,M]:=RA Q h;have:=(.aw<|h);calc(.c (.bM<|by rw[B];show V.1) .a);lk
def RS(Q:et g n){s}(A:cj s)(C:∀c∈s,jP g c):∀k∈gQ g n s,ku g k:=.bS (by
 have m:∀F,(∀c y,F c=.eO->y=c+1/\∃z,cy g c=.b z)->ku g (s.filterMap F):=λF f=>by
  refine(.c (.c (GS A λc y e=>(f c y e).1) λc V=>?_) λc V=>?_)
  .let[a,J,e]:=jS.mp V;let[rfl,z,d]:=f a c e;show .z (RR Q d<|C a J).2
  .let[a,J,e]:=jS.mp V;let[rfl,z,d]:=f a c e;show(RR Q d<|C a J).1
 let L|||L:=.c7 L
 .let[b,_,rfl]:=.Y (.lr L);calc m _ λc y e=>?_;lk
 .let[b,_,rfl]:=.Y (.lr L);calc m _ λc y e=>?_;lk)
def tS(s:.h):TK:=s.map (.bg<|.tp [aW<|(c/16:Nat),aW<|(c% 16:Nat)])
def HU s:fT (tS s)=.am .mq:=by unfold fT tS;rw[a_];rfl
def RT x y(h:tS x=tS y):x=y:=by grind[tS,List.map_inj_right]
def yW(L:.b8):W:=.dT (.bG tS)<|.bG .qA
def akk(h:bR q (yW L) (yW<|cb L p) O O')(hz:.eg .hi):=
 iQ.t (ks:=.bG tS) (HU p).symm .bV (by
  let[a,C]:=RO RT _ L p;rw[a,C];unfold cb at h;by_cases m:p∈L
  .rw[.r m] at h|-;show h
  .rw[.x m] at h|-;show h)
def akl(h:Is O w (yW L)):eM O w (.am<|p.map da) (.f8 (p∈L) .gj):=by let v:=eM.t h (HU p).symm;rw[aj' RT] at v;lk
def i4(Z:.h×.h):W:=.fx (dt Z.1)<|ai Z.2
structure Cz(g:aQ)(n:Nat)(st:.h×.h):Prop where
 it:∀c∈st.1,jP g c
 len:.ae st.1 976
 nd:(.a9 st.2)
 mem:∀c,c∈st.2↔c<n/\de g st.1 c≠[]
def akm(C:af):bT:=λb O F=>O=[]/\∃g n,b=[fN C g]/\et g n/\(.H (lz g n)->F .non [])/\∀a,lz g n=.b a->.bE<=128->∀(G:.y _) p,.cW .fr=a.map (bA g)->(∀Z∈G,Cz g n Z)->F .aG (.f9<|.cW i4)
def akn:.aI ["book","start","kernels","known","states","closed","moves","kernel"] ["book"] 76:=.Q
theorem ako(X:.fe P w K):bq P w K mg base "states_of" ["book"] (.L<|akm qq.b) 3:=by
 let S:=akn;calc X.ad4.t S .pm .ja;let[rfl,g,n,rfl,Q,kN,kS]:=h;let hu:=dJ Z;let vP:=Q.nons.2;let r:=Q.bS;let i0:da (item (g0 g) 0)=.gX .bf (.u 0):=by unfold da fh item g0;rw[.dg<|_/16=.bf,.dg<|_% 16=0];rfl
 let ok0:ku g [item _ 0]:=(.c (GX g) λc hc=>by rw[dj] at hc;subst hc;unfold item g0;refine(.c .a .bV));calc .cV 1 (.am<|[item (g0 g) 0].map da) (.k1 (.am [.gX .bf<|.u 0]) .fM);calc .nI 2 (.g2<|.ft λkp=>?_);calc .ba 3 (vx hu (.as<|.gh (HU _).symm) .oh λnp=>?_);calc .j2 4 λsp=>?_;calc wl (λm u O'=>∃i b G,m=130-i/\i<=128/\rE g n (130-i) i b=lz g n/\.cU<=128/\i<=.cU/\.dW=i/\.cW .fr=(b.take i).map (bA g)/\(∀st∈G,Cz g n st)/\(∀k∈b,ku g k)/\u=[.ma g,.fU,.fU,.fU,.fU,none,none,none]/\O'=[(kp,ny b),(np,yW b),(.dy sp<|.cW i4)]) (.pe {0,[[item _ 0]],[],rfl,.f,rfl,.f,.f,rfl,rfl,.f,by simpa using ok0,rfl,rfl}) ?_;intro m _ _ [i,b,G,rfl,hi,hw,Cu,hik,RU,N,d,RV,rfl,rfl];refine(.q (.ai i .cU) (.lL<|by rw[aj,aj,RU];show .iC uv) .M .M)
 .let z:=.ch;obtain⟨k,L⟩:∃k,b[i]?=.fg:=(.cz<|cf z);let o:=RV k (bb L);let q1:(b.map λs=>W.tup .mq)[(.m<|.cW i4)]?=.ep (k.map da):=.fM
  have kl:=RQ Q o.me.1 o.it;let CA:=HS Q o;let RW:=BW (g:=g) o.me.1;let cll:=RQ Q RW CA;let T:(.A (128<(.m<|.ei (.kQ g n) cb b)) none (rE g n (130-(i+1)) (i+1)<|.ei (.kQ g n) cb b))=lz g n:=by
   rw[<-hw,.dg<|130-i=(130-(i+1))+1];change _=match b[i]? with
    |none=>.b b
    |some k=>_;rw[L]
  calc .ba 5 (XE.mono (.oO (c=dt .el)<|dM (aji X) X.l_.cl .az (w:=.oK g) .e .e6 .fY (.nW (.am<|k.map da)<|.q rfl _ #[g,n,k,rfl,Q,o.me,o.it,.a,rfl] (.as<|.gs p _ rfl))) ?_);intro w O' [rfl,rfl];calc .ba 6 (dM (ajn X) X.l_.cl .az (w:=.oK g) .e .e6 .fY<|.nW (dt .el) {rfl,g,n,.el,rfl,Q,CA,.a,λk1 J m1 Y=>?_});let C:.c5 ((J.map kI).map kW)=ai J:=by rw[ai,a_];rfl
  calc .mm sp (.dH (i4 (.el,J)) (XE.xv<|vm (.df<|ae (.bi (XE.aB<|N0 (f:=J.map kI) (ws:=J.map (.ah (dt<|de g .el x))) .bo (w:=gq J<|de g .el) .e .w .f .bs) C) (ak<|.iY .f)))<|.cX _ (.hV .bF) .bV ?_);refine cu (bP<|.dH (ny<|.kQ g n) (.j8 (ajs X) (.e7 (.fx (gq k1<|fj g .el) (gq J<|de g .el))<|.a5 {_,_,k1,_,_,J,rfl,m1,Y,.a,.a,rfl})) (.bZ<|.kk λj u O'=>u=[.ma g,.ep<|[item (g0 g) 0].map da,.K kp,.K np,.K sp,none,none,none]/\O'=[(kp,ny .q3),(np,yW .q3),(.dy sp<|.cW i4++[i4 (.el,J)])]))
  .rintro j w _ _ I ⟨rfl,rfl⟩;let[x,D,rfl]:=dw I;let[B,M]:=.bd D;let al:.eg (.m .q3):=by
    have up:∀(l a:.b8),.ae (.ef cb a) (.bE+.ax):=λl=>by
     induction l with
     |nil=>intro a;simp
     |cons x l ih=>
      intro a;let h3:=ih (cb a x);let h4:.ae (cb a x) (.bE+1):=by unfold cb;split<;>simp
      tm_at "z"
    let h5:=up (.aC (.kQ g n) j) b;let h6:.ae (.kQ g n) (20+256):=by unfold gQ fA;lk
    lk
   let tk:.ei (.aC (.kQ g n)<|j+1) cb b=cb .q3 x:=by rw[dX B,M,kM];rfl
   rw[tk];generalize .q3=acc at*;calc(.fL _ _ 7);refine .hW (.bC<|x∉acc) (pK hu (wi:=.am<|x.map da) .e .e (akl (p:=x)<|.cE np)) .d .fH .fH
   .let y:=.i9 y;let e3:cb acc x=acc++[x]:=.x y;calc .o5 np hu .gj (.iA (.am<|x.map da) _ (akk (p:=x) .iD al) ?_);calc .mm kp (.g1 (.am<|x.map da) (.cX _ .bF .bV<|.eG .iM));rw[e3,ny,bo];rfl
   .let y:x∈acc:=ph.mp (.nu y);rw[.bX (cb acc x=acc)<|.r y];show .a2 .bW
  .rintro _ _ ⟨rfl,rfl⟩;rw[aj,eP];let pre:∀(l a:.b8),a<+:.ef cb a:=λl=>by
    induction l with
    |nil=>tm_at "z"
    |cons x l ih=>intro a;calc apy ?_ (ih<|cb a x);unfold cb;lk
   have akp:∀(l a:.b8),.u5:=λl=>by
    induction l with
    |nil=>tm_at "z"
    |cons x l ih=>intro a B M;calc ih (cb a x) (.bS ?_) (.bS (M k<|.fy L));unfold cb at L;lk
   let pf:=pre (.kQ g n) b;let ko':=akp (.kQ g n) b RV (RS Q RW CA);generalize .ei (.kQ g n) cb b=V at*;let e4:(.m<|V.map λs=>W.tup .mq)=V.length:=aj _;refine be (k:=.ai 128 V.length) (.pI (.ai (128:Int) (.jf<|V.map λs=>W.tup .mq)) .bV) .fH .fH
   .let y:=.i9 y;rw[.r y] at T;show .f3 .non (.nil<|kN T.symm)
   .let y:=.nu y;rw[.x y] at T;let pl:=pf.length_le;let[t,ht]:=pf;let F:V.take (i+1)=b.take i++[k]:=by rw[<-ht,Jj .a,dX z,(.bd L).2]
    calc .a2 {130-(i+1),.a,i+1,V,G++[(.el,J)],rfl,.a,T,.a,.a,by simp[RU],by rw[F,bo,bo,N];rfl,λst h=>?_,ko',rfl,by rw[bo];rfl};let h|||h:=.c7 h
    .show d st h
    .rw[.d4 h];show(.q CA cll Y.nd (.bg<|.c (.bO (.c (Y.lt c q)<|(Y.mem c).mp q)) (.bO<|(Y.mem c).mpr q.2)))
 .let z:=.cr;let ei:i=.cU:=.a
  have T:lz g n=.b b:=by
   rw[<-hw,.dg<|130-i=(129-i)+1];change(match b[i]? with
    |none=>.b b
    |some k=>_)=_;rw[iB .a]
  show .f3 (.p sp) (.last (O:=[_,_])<|kS b T Cu G sp (by rw[N,ei,eP]) d)
def mo:.S->.y .S->Bool
 |_,[]=>false
 |D,d::a=>.A (d.any (.s<|.dY z D)) true<|mo (d.foldl bD D) a
def hO(g:aQ)(L:.eV)(c:Nat):=.kw (c/16<.bf) (L (.kO g<|c/16)) [-1]
def mq(g:aQ)(L:.eV)(s:.h):=(s.filter (.bg<|.n8 g c)).map<|hO g L
def akq{s:.h}{D}{i c}(V:s[i]?=.cA):mo D (mq g L<|s.drop i)=if(.n8 g c) then(.e9 .yv true (mo (.ei (hO g L c) bD D)<|mq g L (s.drop<|i+1))) else mo D (mq g L (s.drop<|i+1)):=by
 let[B,M]:=.bd V;rw[zy B,M];unfold mq;rw[wZ];by_cases e:.n (.n8 g c)
 .rw[.cK,.cK,bx];rfl
 .rw[.bU,.bU]
def HV{g:aQ}{r}(h:r<.bf):(.fa .kL)[r]?=.b (.kO g r)/\dQ g r∈.B:=by unfold dQ g0;rw[.x .dV,cK,bG,cf h];show(.aY<|wU h)
def akr(C:af):=f_ λa r=>∃g n Z L,a=[fN C g,i4 Z,.Z (.oS<|L h)]/\et g n/\Cz g n Z/\.vG/\r=.bl (mo (Z.2.map λk:Nat=>k)<|mq g L Z.1)
def aks:.aI ["book","state",.mf,"done",.iV,"item","due"] ["book","state",.mf] 77:=.Q
def akt(X:.fe P w K):bq P w K mg base "has_conflict" ["book","state",.mf] (.L<|akr qq.b) 2:=by
 have S:=aks;calc X.ad5.t S .qb .ja;let[rfl,_,[g,n,[s,J],L,rfl,Q,so,W,rfl],k]:=h;let R:=dJ Z;let r:=Q.bS;let HW:=so.nd;let RX:∀c∈J,c<n:=λc V=>((so.mem c).mp V).1;let cl:=iq so.nd RX;simp only at cl HW;let sit:∀c∈s,jP g c:=so.it;let zl:∀{G:.S},G.Nodup->(∀z∈G,-1<=z/\z<256)->.dW<=257:=λ{G} N h=>by
  have:=rr (G:=.cW (.s<|z+1)) (n:=257) (by unfold zZ;rw[o9];show N.imp λne e=>ne .a) λz hz=>by let[y,T,rfl]:=.Y hz;have:=h y T;lia
  simpa using this
 calc .ba 3 (mS .hQ);let nc:∀i,(.ih).map .h1=((.ih).map .h1):=.hI;refine cu (.jz (ai J)<|.k3 (.u8/\O'=[(p,aS<|(.ih).map .h1)]) .bW)
 .intro i w _ _ hi [rfl,rfl];let[c,V,rfl]:=dw hi;let[h1,M]:=.bd V;let tk:J.take (i+1)=.ih++[c]:=by rw[dX h1,M]
  have cn:c∉.ih:=.cN (by
   let[j,I]:=jW m;let jl:j<i:=by have:=(.aw I);rw[dZ] at this;lia
   rw[Tq jl] at I;let[h3,h4]:=.bd I;have:=(amy HW).mp (h4.trans M.symm);lia)
  let C:bD ((.ih).map .h1) c=(J.take<|i+1).map .h1:=by unfold bD;rw[.hm (cn<|mh.mp z),tk,bo];rfl
  calc(.fL _ _ 4);show .o5 p R .gj (.iA _ _ (yc (z:=(c:Int)) .bF<|by rw[aj,dZ];lia)<|.a2 (.aY<|by rw[C]))
 .intro _ _ [rfl,rfl];rw[aj,eP];refine cu<|.jz (dt s) (.k3 (∃D:.S,.u8/\O'=[(p,aS D)]/\D.Nodup/\(∀z∈D,-1<=z/\z<256)/\mo D (mq g L<|s.drop i)=mo (J.map .h1) (mq g L s))<|.gE _ rfl rfl ?_ ?_)
  .unfold zZ;rw[o9];show HW.imp λne e=>ne .a
  .intro z hz;let[c,V,rfl]:=.Y hz;have:=RX c V;lia
  .intro i w _ _ hi [D,rfl,rfl,N,hD,hh];let[c,V,rfl]:=dw hi;let Y:=sit c (bb V);let b:=akq (g:=g) (L:=L) (D:=D) V;rw[hh] at b;let dl:=zl N hD;calc(.fL _ _ 5);refine be (k:=(.n8 g c)) .uo .fH .fH
   .rw[.r y] at b;let d:(.a9<|hO g L c)/\∀z∈hO g L c,-1<=z/\z<256:=by
     unfold hO;split
     .rename_i q;show W _ (Q.wf.lhs _ (HV q).2)
     .show(.ft .f)
    let ul:=zl d.1 d.2;refine .cV 6 (aS<|hO g L c)<|sQ (k:=.ai (c/16) .bf) (.pI (.ai (.cj<|c/16) (g.rules.length:Int))<|.iC uv) .fd .fd
    .let q:=.i9 q;let[q1,B]:=HV q;let q3:(.cp (.fa .kL))[c/16]?=.J (.kO g<|c/16):=by rw[bG,q1];rfl
     let q4:=.n9 (aS<|L h) (Q.wf.lhs _ B);rw[.bX (hO g L c=L (.kO g<|c/16)) .dF];show cM (w:=.Z (.oS<|L h)) .e (cM (w:=ai (.fa .kL)) .e .e .w<|L2.cR q3) .w (L2.cR q4)
    .let q:=.nu q;rw[.bX (hO g L c=[-1]) .ff];show XE.aB (acn (n:=-1) (u:=.gj) .oh .oh .bs)
    .refine .hW .yv (iM<|.oR .yu (XE.aB (c:=dR .yu)<|NW (κs:=(hO g L c).map aW) S.nd [(.iV,4)] .p9 (mY (j:=6)) ?_) .w) (by rw[rO];rfl) .M .M
     .rw[a_];refine .jL (hO g L c) (kW∘aW) (.ah [.ma g,.b<|i4 (s,J),.pZ<|L h,.K p,.gG x,.b<|da c,.b (aS<|hO g L c)]) (.ah (.bl<|.dY x D)) ?_ ?_
      .intro x hx t acc s0 o qq.b cl a;calc(.jE 4<|.bi (aaQ (by show R) (wi:=.u x) .e .e (sS (z:=x) (F:=D)<|.cE p)) ?_);by_cases e:x∈D<;>simp[e]
      .show .mB p (by rw[dR,a_];rfl)
     .rw[.r z] at b;show .f3 .gj (.nil<|by rw[b] at k;show k)
     .rw[.x<|by rw[z];show fQ] at b;show b_ (yg (q:=p) (F0:=D) .e .g0<|.g1 (aS<|hO g L c) {D,hO g L c,[],[],rfl,.w,.a,.eG<|.ab _ rfl rfl (vV N) (.d2 ((mj.mp T).elim (hD y)<|d.2 y)) b.symm})
   .rw[.x<|by rw[y];show fQ] at b;show .a2 (.ab D rfl rfl N hD b.symm)
  .intro _ _ [D,rfl,rfl,N,hD,hh];rw[aj,U3] at hh;calc .f3 (.bl .j) (.nil ?_);rw[<-hh] at k;show k
def rG(D:.S)(ds:.y .S)(z:Int):=(.dq<|z∈D)+(.m<|ds.filter λd=>.dY z d)
def HX:∀ds D,mo D ds=.j↔∀z,rG D ds z<=1
 |[],D=>by calc(.c (λ_ z=>?_) .hI);unfold rG;split<;>simp
 |d::ds,D=>by
  let C:∀z,rG D (d::ds) z=(.dq<|z∈D)+(.dq<|z∈d)+(.m<|ds.filter λd=>.dY z d):=.s (by unfold rG;rw[wZ];by_cases e:z∈d<;>simp[e]<;>lia)
  have c:∀z,rG (d.foldl bD D) ds z=(.dq<|z∈D\/z∈d)+(.m<|ds.filter λd=>.dY z d):=.s (by
   unfold rG;congr 1;by_cases e:z∈D\/z∈d
   .rw[.cK,.r<|mj.mpr e]
   .rw[.bU,.x<|.bO (e<|mj.mp q)])
  change(.A (d.any (.s<|.dY z D)) true<|mo (d.foldl bD D) ds)=.j↔_;by_cases q:.n (d.any (.s<|.dY z D))
  .rw[.dF];calc(.da .aV ?_);let[z,B,M]:=lJ.mp q;let M:=.i9 M;have:=h z;rw[C,.r B,.r M] at this;lia
  .rw[.ff,HX ds];calc forall_congr' .M;rw[c,C];by_cases B:z∈D
   .by_cases M:z∈d
    .show .aa (lJ.mpr (.g z M<|.g8 B)) q
    .simp[B,M]
   .by_cases M:z∈d<;>simp[B,M]
def v9(g:aQ)(c:Nat)(z:Int):=.A (c/16<.bf) (oN g (.kO g<|c/16) z)<|z=-1
open Classical in
noncomputable def p_(g:aQ)(n:Nat)(s:.h)(z:Int):Nat:=(.e9 (∃k:Nat,z=k/\k<n/\de g s k≠[]) 1 0)+(.l5 (s.filter (.bg<|.n8 g c))<|.bg (.bC<|v9 g c z))
def mr(g:aQ)(n:Nat)(ks:.b8):=∀k∈ks,∀z,p_ g n .el z<=1
def RY(Q:et g n){L}(b:QV g L){Z}(x:Cz g n Z) z:rG (Z.2.map λk:Nat=>k) (mq g L Z.1) z=p_ g n Z.1 z:=by
 unfold rG p_;congr 1
 .by_cases e:∃k:Nat,z=k/\k<n/\de g Z.1 k≠[]
  .rw[.cK];let[k,rfl,B,M]:=e;show .r (mh.mpr ((x.mem k).mpr<|.c B M))
  .rw[.bU];calc .x (.bO<|e ?_);let[k,B,rfl]:=.Y q;show(.aX k<|(x.mem k).mp B)
 .unfold mq;rw[JP,aj];congr 1;calc JI λc V=>?_;let Y:=x.it c (.lr V);change .dY z (hO g L c)=_;calc .iC ?_;unfold hO v9;by_cases q:c/16<.bf
  .rw[.dF,.dF];show b.mem _ (Q.wf.lhs _ (HV q).2) z
  .rw[.ff,.ff];simp
open Classical in
noncomputable def aku(Cg:af):bT:=λws O Kk=>O=[]/\∃g n sg co,ws=[cC Cg g sg co]/\et g n/\(.H (lz g n)->Kk .non [])/\∀ks,lz g n=.b ks->Kk (.bl (.bC<|mr g n ks)) []
def akv:.aI [.ap,"book","states",.mf,"state"] [.ap] 78:=.Q
open Classical in
theorem akw(X:.fe P w K):bq P w K mg base "is_sure" [.ap] (.L<|aku qq.g) 6:=by
 let S:=akv;calc X.ad6.t S .sz .rc;let[rfl,g,n,sg,co,rfl,ok,kN,kS]:=h;calc .ba 1 (vo (ah1 X) .ha<|.e7 (cC qq.g g sg co) (.ct [] []<|.ah #[x,g,sg,co,rfl,rfl,ok.rules,rfl,?_]));calc .ro 1 x (.oK g) [] [] ?_;refine .ba 2<|c_ (ako X) .ha (.nW (.oK g)<|.kV rfl g n ok (λhn=>?_) λks CB hl rH p es HY=>?_)
 .calc .kP (.iH .non .io);show .je (.nil<|kN hn)
 .calc .ro 2 p (.Z<|rH.map i4) [] [] ?_;calc .mj (.iH (.Z<|rH.map i4) .ol);calc .ba 3 (c_ (ahY X) .ha<|.nW (cC qq.g g sg co) {g,n,sg,co,rfl,rfl,ok,λq L fa=>?_});calc .ro 3 q (.Z (.oS<|L h)) [] [] ?_;let sl:rH.length=.gF:=by have:=.dN IK es;simpa using this
  let hL:.vG:=λh hh=>(.c (fa.nd h hh) (λz hz=>by let[rfl,_]|||[b,rfl,hb,_]:=(fa.mem h hh z).mp hz<;>lia));calc aF (.dH (.bl (.bC<|mr g n ks)) (.bi (aaP<|.oR (rH.map λst=>.tz) (.nA [("state",4)] (.jz (.Z<|rH.map i4)<|.jL rH i4 (λst=>[.jt g sg co,.ma g,.du<|rH.map i4,.pZ<|L h,.b<|i4 st]) (λst=>.bl .tz) (λst CC p acc s0 H0 C' cl fp=>(.jE 4 (ff (akt X) .ha<|.gz (.oK g) (.iO (i4 st) (.Z (.oS<|L h))<|.a5 {g,n,st,L,rfl,ok,HY st CC,hL,rfl})))) .bs)) .pq) ?_) (.nil<|kS ks CB));congr 1;rw[gx,decide_eq_true_eq,zP,rO,amH];unfold mr;walk
  .intro h k hk z;have:.el∈rH.map .fr:=by rw[es];show .f7 k hk
   let[st,h1,h2]:=.Y this;rw[<-h2,<-RY ok fa<|HY st h1];show(HX _ _).mp (.nP<|h st h1) z
  .intro h st CC;have:st.1∈.dk (bA g):=by rw[<-es];show .f7 st CC
   let[k,h1,h2]:=.Y this;have:.tz=.j:=(HX _ _).mpr (.s<|by rw[RY ok fa<|HY st CC,<-h2];show h k h1 z)
   simp[this]
structure i5(g:aQ):Prop where
 wf:.gP
 nons:0<.o/\.o<=20
 rules:.bf<=60
 rhs:∀r∈g.rules,.jO<=8
 cQ:.bx
def v_ g:.aN=(.m<|dC g):=by unfold signsOf;rw[aj]
def HZ(w:.bx):.ae (dC g) 256:=by
 let x:∀p∈dC g,p.1<256:=.dz (by let[_,q,f,B,M]:=vd.mp R;have:=(w q f).2;have:=ve R;lia)
 let N:(.a9 (.eZ<|dC g)):=by unfold zZ;rw[o9];calc JO (λ{p q} R f h e=>?_) (Fd g);have:=ve R;lia
 have:=iq N (n:=256) (.bS<|by let[p,R,rfl]:=.Y L;show x p R)
 simpa using this
def RZ(w:.bx){lo hi b}(f:(lo,hi)∈dh g)(B:lo<=b)(M:b<=hi):TT.cl g b<(.m<|dC g):=by let[p,R,A,P]:=sM w f B M;let[k,L]:=jW R;have:.fz b=.fg:=lY.mpr (.q p L A P);unfold TT.cl;rw[this];show(.aw L)
def i5.gr(h:i5 g):et .N .aN:=by
 refine(.ab (x4 h.wf) h.nons (by rw[.np (.rG=.bf)<|aj _];show h.rules) (λr Z=>?_) (λr Z a b G=>?_)<|by rw[v_];show HZ h.cQ)
 .let[q,f,rfl]:=.Y Z;change .ae (q.rhs.map _) 8;rw[aj];show h.rhs q f
 .let[q,f,rfl]:=.Y Z;let[y,T,e]:=.Y G;cases y with
  |non k=>cases e
  |range l H=>cases e;let R:(l,H)∈dh g:=.nj q f T;let I:=(h.cQ _ R).1;rw[v_];show(.c (RZ h.cQ R I .ao) ((sN h.cQ R).mp<|.c I .ao).1)
def gW(c:af)(g:aQ):=cC c .N .aP<|fM g
structure dB where
 d:CD
 a:af
 hd:af
 td:af
 fa:af
 ks:af
 kp:af
 us:.b8
 sz:.y TN
 pr:.y TN
 M:Nat
structure dB.Ok(h:dB)(g:aQ):Prop where
 og:i5 g
 ok:h.d.Ok
 eg:h.d.g=.N
 en:h.d.n=.aN
 kn:Kn h.us
 bS:.dc h.us.length
 m:gM .aN h.M<=300
 pr:oQ h.d.g.nons (.na h.M) h.pr
noncomputable abbrev dB.F(h:dB)(q:Cs):=FO q.c q.t q.f h.d (jn h.d) h.a h.hd h.td h.fa h.ks h.kp h.us h.sz h.pr
noncomputable abbrev dB.O(h:dB)(q:Cs)(J:af)(g:aQ):OM:=h.F q++[(.eD J q.h oF [.hO g,.p h.a,.p h.fa])]
noncomputable def akx(q:Cs):bT:=λb O F=>∃J g a Y,b=[.cn,.hO g]/\O=[(.eD J q.h a Y)]/\(a=[]/\Y=[]\/a=oF/\∃x y z,Y=[x,y,z])/\i5 g/\∀i:dB,i.Ok g->F .non (i.O q J g)
def aky:.cd .kj .kj 94 1:=.Q
def R0(X:.aq n i q):c7 P w K n i q.h "hold" .kj (.L<|akx q) 8:=by
 have S:=aky;calc X.ad7.t S .jJ λf v A U s H E r O F Z h=>?_;let[J,g,t,Y,rfl,rfl,p,u,k]:=h;let c:∀(d:CD) (a N o b j l:af),d.Ok->d.g=.N->d.n=.aN->F .non (FO q.c q.t q.f d (jn d) a N o b j l [[]] [] []++[(.eD J q.h oF [.hO g,.T,.dn])]):=λd a N o b j l Q L C=>k {d,a,N,o,b,j,l,[[]],[],[],0} {u,Q,L,C,Kn.one,.f,by change gM _ 0<=300;unfold gM;simp,(.ft .f)};let[rfl,rfl]|||[rfl,x,y,z,rfl]:=p;all_goals
  calc .hu J .j3 (.q9 _) (.g1 (.hO g) .gY);calc .hu J .j3 (.q9 _) (vo (ajd X) .az (.e7 (.hO g)<|.ct [] [_] λa=>{a,.N,.aP,fM g,rfl,rfl,u.gr,λd N o Q L C=>{rfl,.e,_,_,_,_,_,.qY,.nw,.V,?_}}));let m:.hO g=cC q.g d.g .aP (fM g):=by rw[gW,L]
  show .hu J .j3 (.q9 _) (vo (aj7 X) .az (.f5 (cC q.g d.g .aP<|fM g) (.k1 (.hO g) m)<|.e7 .T (.ct (.cb q.c q.t [[]]) [_]<|.bw {d,jn d,a,N,o,b,[[]],_,_,rfl,rfl,Q,λj l=>{rfl,.e,_,_,_,_,_,.kv<|.hV .bF,.nw,.V,.j6<|c d a N o b j l Q L C}})))
noncomputable def akz(q:Cs):bT:=λa O F=>∃J,a=[.cn]/\O=[(.eD J q.h [] [])]/\∀i:dB,i.Ok rZ.grammar->F .non (i.O q J rZ.grammar)
def H_:i5 rZ.grammar:=(.I (.c .qz .qz) .V .V .qz (.dz<|by cases R))
def akA:.cd .e4 .e4 94 0:=.Q
def akB(X:.aq b a q):mR P w K b a q.h "Holder" .e4 (.L<|akz q) 9:=by
 have S:=akA;calc X.ad8.t X.ad9 S (λ_ _ _ {_,e,_}=>.dR) λf v A U s H E j O F Z h=>?_;let[J,rfl,rfl,k]:=h;let m:XE (Bh P _ K b a .e4 "Holder.__init__" (bg 94 0) f v A U s H E) [.K J] [(.eD J q.h [] [])] (match(jd<|bg 94 0) with|[.Expr (.Call _ [e] _ _) _]=>e|_=>.bz .cC (.q 0 0 0 0)) λw d=>d=[(.eD J q.h [] [])]/\w=.hO rZ.grammar:=
  .oO (c=.hO rZ.grammar) (vo (Qk X) .az<|.iO (aa 1) (dn []) (.ct [] [_]<|.ah {x,rZ.grammar,rfl,rfl,.V,H_.rhs,H_.cQ,rfl,x,_,rfl,rfl,rfl}));show b_ (dM (R0 X) .j3 .az (w:=.cn) .e .e6 .bm (x9<|XE.mono m λw d #[L,C]=>by subst L C;show ak (.ay {J,_,[],[],rfl,rfl,.io,H_,λi g=>.j6<|k i g})))
def jo(g:aQ)(b:Nat):Int:=match .fz b with
 |some k=>k
 |none=>-1
def kx(g:aQ)(x:.h):W:=.am<|x.map (.bw (.u<|jo g b))
def Ia(h:jo g b≠-1):jo g b=(TT.cl g b)/\TT.cl g b<.aN:=by
 unfold jo TT.cl at*;cases e:.fz b with
 |none=>rw[e] at h;show .hs h
 |some k=>let[p,R,_]:=lY.mp e;show(.aY<|by rw[v_];show(.aw R))
def Ib{x}(h:∀b∈x,jo g b≠-1):kx g x=bc (x.map<|TT.cl g):=by unfold kx bc;rw[a_];congr 1;show dG (.a4<|by change W.int (jo g b)=aa (TT.cl g b);rw[(Ia<|h b Y).1];rfl)
noncomputable def akC(q:Cs):bT:=λa O F=>∃J g i x,a=[.cn,ai x]/\O=dB.O i q J g/\i.Ok g/\(∀b∈x,b<256)/\.bh .W/\F (kx g x) (i.O q J g)
def akD:.cd (.gL .dX "octet") (.ca .dX) 94 2:=.Q
def Ic(X:.aq m c q):c7 P w K m c q.h "text_of" (.ca .dX) (.L<|akC q) 1:=by
 let S:=akD;calc X.ad_.t S .jJ λf v A U s H E r O F Z h=>?_;let[J,g,i,x,rfl,rfl,Q,D,d,k]:=h;calc aF (.dH (kx g x) (Fu .bo (.nA [("octet",2)] (.jz (ai x)<|.jL x aa (.bw [.K J,.bY x,.J b]) (.bw (.u<|jo g b)) (λb Y p n V o C t a=>(.bM<|.dS 2)) .bs)) .w)<|.ay k);let M:((fM g).map .cJ)[b]?=.gG (jo g b):=.jN (G8 Q.og.cQ<|D b Y)
 show cM (w:=aM<|fM g) .rN .e .w (L2.cR M)
noncomputable def akE(q:Cs):bT:=λb O F=>∃J g i a,b=[.cn,bc a]/\O=dB.O i q J g/\(∀c∈a,c<.aN)/\.bh .bE/\∀p,F .aG (i.O q J g++[(p,ai<|a.map (.bg<|.pr c))])
def akF:.cd (.gL .cm .iV) (.ca .cm) 94 3:=.Q
def R4(X:.aq n c q):c7 P w K n c q.h "octets_of" (.ca .cm) (.L<|akE q) 1:=by
 let S:=akF;calc X.ad'.t S .jJ λf v A U s H E u O F Z h=>?_;let[J,g,i,m,rfl,rfl,D,d,k]:=h;refine aF<|.h4 [(.iV,2)] (Bf<|.mQ (bc m) (.jL m aa (.bw [.K J,.eH m,.J b]) (.bw (aa<|.pr b)) (λb Y p r V o C t a=>(.bM<|.dS 2))<|.mG ?_))
 .let M:=fo (ns:=.aP) (D b Y);show cM (w:=ai .aP) .rN .e .w (L2.cR M)
 .have:=k p;rw[ai,a_] at this;show this
noncomputable def akG(q:Cs):bT:=λa O F=>∃J g i h x,a=[.cn,aa h,kx g x]/\O=dB.O i q J g/\i.Ok g/\h<.o/\.W<=24/\∀i:dB,i.Ok g->F (aa (.b0<|dD g h x)) (i.O q J g)
def akH:.cd .hN .hN 94 4:=.Q
def R5(X:.aq t a q):c7 P w K t a q.h "ways_over" .hN (.L<|akG q) 7:=by
 let S:=akH;calc X.aea.t S .sz λf v A U s H E y O F Z h=>?_;let[J,g,i,h,x,rfl,rfl,Q,V,d,k]:=h;let n:i.d.g.nons=.o:=.qN
 let u:kx g x=.am ((x.map<|jo g).map .cJ):=by unfold kx;rw[a_];rfl
 refine .m4 (.dY (.cg<|-1) (x.map<|jo g)) (g7 (wa:=.u<|-1) (b9.M8 (neg:=.j) (op:=.In) XX (f:=W.tup) .cY) .e (.k1 (kx g x) u)<|by with_unfolding_all rfl) .M .M
 .have z:=.ch;let[b,Y,e]:=.Y z;let I:.H (.fz b):=by
   unfold jo at e;cases L:.fz b with
   |none=>rfl
   |some k=>rw[L] at e;show .yq
  let m:dD g h x=TT.c0:=by unfold dD;rw[Fc Q.og.wf V,MS Q.og.cQ I h Y]
  have:=k i Q;rw[m,jB] at this;show .g1 (aa 0) (.ay this)
 .let z:=.cr;let o:∀b∈x,jo g b≠-1:=λb Y e=>z (.pf b Y e);let R:dD g h x=TT.T i.d.g.rules h (x.map<|TT.cl g):=by rw[Pn Q.og.wf Q.og.cQ V,Q.eg]
  refine dM (v5 X) .cv .az (w:=.p i.a) .e (.cE i.a) .fY (.gz (aa h)<|.d9 (bc (x.map<|TT.cl g)) (.k1 (kx g x)<|Ib o) {.rX,_,rfl,i.a,i.d,i.hd,i.td,i.us,_,h,rfl,rfl,Q.ok,.a,by rw[aj];show d,λc p=>?_,Q.kn,Q.bS,λN j l C r _=>?_})
  .let[b,Y,rfl]:=.Y p;rw[Q.en];show(Ia<|o b Y).2
  .rw[<-R];show .ay (k #[i.d,i.a,N,j,i.fa,i.ks,i.kp,l,i.sz,i.pr,i.M] #[Q.og,Q.ok,Q.eg,Q.en,C,r,Q.m,Q.pr])
noncomputable def akI(q:Cs):bT:=λa O F=>∃J g i u,a=[.cn,aa u]/\O=dB.O i q J g/\u<=8/\gM .aN u<=300/\F (jR<|.na u) (i.O q J g)
def akJ:.cd (.ca .eI) (.ca .eI) 94 5:=.Q
def Ie(X:.aq c b q):c7 P w K c b q.h "texts_told" (.ca .eI) (.L<|akI q) 3:=by let S:=akJ;calc X.aeb.t S .jJ .sw;let[J,g,i,u,rfl,rfl,Y,a,k]:=h;refine aF (.dH (jR<|.na u) (.jX (agS X) (.f5 (aa .aN) (.bi .rY .nR)<|.e7 (aa u) (.a5<|.gE _ u rfl Y a)))<|.ay k)
noncomputable def oR(q:Cs)(a:.aT->aQ->.ey .S):bT:=λc O F=>∃J g i b r,c=.cn::b/\O=dB.O i q J g/\i.Ok g/\a b g r/\∀i:dB,i.Ok g->∀p,.eg .iU->F .aG (i.O q J g++[(p,aM r)])
def R6 c:shownCount c=.ea (.b0 c=.bc) [1] [0,(.cg<|.b0 c)]:=by
 unfold shownCount pb;cases c with
 |none=>change[1]=.A (.bc=.bc) _ _;rw[.gO]
 |some n=>
  have:¬min n TT.MW=.bc:=by
   let B:TT.MW<.bc:=.fp
   lia
  change[0,(.cj<|JT n w9)]=.kw (min n TT.MW=.bc) _ [0,(.cj<|min n TT.MW)];rw[.x this];rfl
def akK:=ib λa c=>∃n,a=[aa n]/\c=aM (.ea (n=.bc) [1] [0,n])
def akL:.aI [.e0] [.e0] 100:=.Q
def R7(X:.aq b a l):bq P w K b a "told_ways" [.e0] (.L akK) 2:=by
 let S:=akL;calc X.aec.t S .nz .rl;let[rfl,_,[n,rfl,rfl],k]:=h;refine .m4 (.aj n .bc) (XT.of (g7 (b9.eq (i:=.dZ) (j:=(.cg (TT.END:Nat)))) .e (vT (vS X) .az)<|L2.fb _)<|.iC DA) .M .M
 .let z:=.ch;rw[.r z] at k;show .rs (.u 1) (.jw<|k p)
 .let z:=.cr;rw[.x z] at k;show bY (.iO (.u 0) (aa n) (.jw<|k p))
noncomputable def akM(q:Cs):=oR q λa g r=>a=[]/\r=0::toInts (.aN::.aP)
def akN:.aI [.bk] [.bk] 96:=.Q
def akO(X:.aq b a q):bq P w K b a "answer_signs" [.bk] (.L<|akM q) 1:=by
 let S:=akN;calc X.aed.t S (λ_ _ _ {_,_,_,_,_,e,_,_,C,_}=>by rw[e,C.1];rfl) .rl;let[J,g,i,_,_,rfl,rfl,Q,[rfl,rfl],k]:=h;let r:=Q.og.gr.bS;calc aF (oh (vs:=.xB) (ws:=.cp .aP) (wa:=.Z .xB) (XE.aB (bY<|.gz (.u 0) (.d9 (.u (.m<|.cp .aP)) .rY<|.ft .bs))) (wb:=ai .aP) .rN .w .w (.pQ<|.jk .dV) (.mG ?_));have:=k i Q p (by simp[toInts];lia);rw[show aM (0::toInts (.aN::.aP))=.eK [.u 0,.ip<|.cp .aP] (.cp .aP) by unfold aM toInts;rw[bx,bx,bx,a_,aj];rfl] at this;show this
def CF(h:∀z∈x,0<=z):aM x=ai .cG:=by unfold aM ai toNats;rw[a_];congr 1;show dG λz a=>.jg (W.int z=.u (z.toNat:Int)) (i9<|h z a)
def R8:(lb .N a<0->onNon .cR a F=[lb .N a])/\(¬lb .N a<0->lb .N a=0/\0<=a/\a<.o/\onNon .cR a F=F .dA):=by
 unfold lb onNon;change(.rZ<0->_=[.rZ])/\(¬.rZ<0->.rZ=0/\_);by_cases q:0<=a/\a<.rx
 .rw[.dF];calc(.c (.aQ .a) (.P<|.jM rfl q.1 q.2));rw[.cD,.x<|by change¬.rx<=a;lia]
 .rw[.ff];calc(.da .eq<|.aa .V h);by_cases B:a<0
  .rw[.r B]
  .rw[.x B,.r<|by change .rx<=a;lia]
def R9{F:.h->Answer}:(k_ x<0->ux x F=[k_ x])/\(¬k_ x<0->k_ x=0/\(∀z∈x,0<=z/\z<=255)/\.W<=24/\ux x F=F .cG):=by
 let r:x.any yL=.xA:=rfl;unfold k_ ux;rw[r];by_cases q:.n .xA
 .rw[.dF,.dF];show(.da .hI<|.aa .V h)
 .rw[.ff,.ff];by_cases l:24<.W
  .rw[.r l,.r<|by show l];show(.da .hI<|.aa .V h)
  .rw[.x l,.x<|by show l];calc(.c (.aQ .a) (.P<|.q rfl (λz a=>?_) .a rfl));have:=.aQ (q (lJ.mpr<|.g z a h));simp at this;lia
def R_{F:.bn (.h->Answer)}:(lg .N a x<0->.zv=[lg .N a x])/\(¬lg .N a x<0->(∀z∈x,0<=z/\z<=255)/\.W<=24/\0<=a/\a<.o/\.zv=F .dA .cG):=by
 let[H,N]:=R9 (x:=x) (F:=λy=>.mI .cR a<|F b y);let[B,M]:=R8 (g:=g) (a:=a) (F:=.bw<|F b .cG);unfold lg;by_cases q:k_ x=0
 .rw[.dF];let[_,Q,r,A]:=N .a;rw[A];show(.da B<|.I Q r (M h).2.1 (M h).2.2.1 (M h).2.2.2)
 .rw[.ff];show(.da H<|.aa (N h).1 q)
noncomputable def akP(q:Cs):=oR q λc g r=>∃a x,c=[.u a,aM x]/\.W<=2000/\r=ux x (λy=>.mI .cR a (shownCount<|dD g b y))
def akQ:.aI [.bk,.an,.dX,.kD] [.bk,.an,.dX] 101:=.Q
def akR(X:.aq t l q):bq P w K t l "answer_ways" [.bk,.an,.dX] (.L<|akP q) 8:=by
 let S:=akQ;calc X.aee.t S .ra λf v A U s H E T O N Z h=>?_;let[J,g,i,_,_,rfl,rfl,Q,[a,x,rfl,D,rfl],k]:=h;let[V,c]:=R_ (g:=g) (a:=a) (x:=x) (F:=λb y=>shownCount<|dD g b y);calc .cV 3 (.u<|lg .N a x) (.jX (Qn X)<|.f5 (.hO g) (.oM oF .cn J _ rfl) (.iO (.u a) (aM x)<|.a5 {a,x,.N,.aP,fM g,rfl,D,rfl}));refine .wu
 .rw[V .ch] at k;show .vD
 .let[Y,d,r,L,R]:=c .cr;rw[R,R6] at k;let B:W.int a=aa .dA:=.jg (W.int a=.qy) (i9 r)
  let G:aM x=ai .cG:=CF λz o=>(Y z o).1;let m:.ae .cG 24:=by unfold toNats;rw[aj];show d
  let M:∀b∈.cG,b<256:=λb n=>by let[z,o,rfl]:=.Y n;have:=Y z o;lia
  calc aF (ya (R7 X) .az<|x9 (dM (R5 X) .j3 .az (w:=.cn) .e (.cE J) .fY<|.f5 (aa .dA) (.k1 (.u a) B) (.d9 (kx g .cG) (XE.xv .uh)<|.ay {J,g,i,.dA,.cG,rfl,rfl,Q,.a,m,λu I=>?_})));calc ak (.D (.iY (.b0<|dD g .dA .cG)) (.as<|.en [] ?_ (k u I p<|by split<;>simp)));rw[eS];show(fX (l₁:=[_]))
noncomputable def qa(g:aQ)(h:Nat)(ds:.h):=.ai 1<|.ic .hd h ds
def akS c:Vaglrc.several c=.ai 1 (.b0 c):=by
 cases c with
 |none=>show(.g8 GD).symm
 |some n=>
  change .ai 1 n=.ai 1 (min n TT.MW);have:1<TT.MW:=.fp
  show .iC .a
def Sa{m u}{wd}(G:u<=24):∀{t looked n} {o} {es},(∀ds,o=.b ds->ds.length<=24/\∀c∈ds,c<m)->TT.look m u wd t looked o=.found n es->.lh<=24/\∀c∈es,c<m
 |t,looked,n,none,es,_,h=>by unfold TT.look at h;cases h
 |0,looked,n,some ds,es,_,h=>by unfold TT.look at h;cases h
 |t+1,looked,n,some ds,es,l,h=>by
  unfold TT.look at h;split at h
  .cases h;show l ds rfl
  .calc Sa G (λs e=>?_) h;have:=HD e (l ds rfl).2;show(.c .a .iw)
noncomputable def akT(q:Cs):=oR q λe g r=>∃(a:.S) (h u b:Nat) (o:_),e=[aM a,nt o]/\a[0]?=.b (h:Int)/\a[1]?=.b (u:Int)/\a[2]?=.b .kf/\h<.o/\u<=24/\(∀d,o=.b d->.nf<=24/\∀c∈d,c<.aN)/\r=r0 (TT.shown .aP<|TT.look .aN u (qa g h) b 0 o)
def akU:.aI [.bk,.bb,.cm,"ended"] [.bk,.bb,.cm] 97:=.Q
theorem Sb(X:.k9 P w K q):bq P w K mg base "search_from" [.bk,.bb,.cm] (.L<|akT q) 8:=by
 let S:=akU;calc X.aef.t S (λ_ _ _ {_,_,_,_,_,e,_,_,{_,_,_,_,_,C,_},_}=>.kY) .gd;let[J,g,i,_,_,rfl,rfl,Q,[T,h,u,b,o,rfl,n0,m,y,V,G,ho,rfl],k]:=h;let q0:(T.map .cJ)[0]?=.J h:=by rw[bG,n0];rfl
 let M:(T.map .cJ)[1]?=.J u:=by rw[bG,m];rfl
 let B:(T.map .cJ)[2]?=.J b:=by rw[bG,y];rfl
 let nn:i.d.g.nons=.o:=.qN
 let R:wants i.d h=qa g h:=by unfold wants qa;rw[Q.eg]
 calc .ba 3 (.lx (ajw X) (.p i.a)<|.f5 (aa i.d.n) (.bi .rY<|by rw[aj,Q.en];rfl) (.gz (nt o)<|.f5 (aa h) (cM (w:=aM T) (k:=.mT) .e .e .w<|L2.cR q0) (.f5 (aa u) (cM (w:=aM T) (k:=(.cg (1:Nat))) .e .e .w<|L2.cR M)<|.d9 (aa b) (cM (w:=aM T) (k:=(.cg (2:Nat))) .e .e .w<|L2.cR B) {.rX,_,rfl,i.a,i.d,i.hd,i.td,i.us,h,u,b,o,rfl,rfl,Q.ok,.a,G,λa e=>by rw[Q.en];show ho a e,Q.kn,Q.bS,λN td us r kn bS l=>?_})));let I:(.s8:dB).Ok g:=#[Q.og,Q.ok,Q.eg,Q.en,kn,bS,Q.m,Q.pr];rw[Q.en,R] at l;let Y:=k _ I;let D:=λn es=>Sa (t:=b) (looked:=0) (n:=n) (o:=o) (es:=es) (wd:=qa g h) G ho;calc .gi (dB.O .s8 q J g) (z8 _) ?_;generalize(.s8:dB)=j at I Y|-;revert l Y D;generalize TT.look .aN u (qa g h) b 0 o=L;intro l D Y;cases L with
 |BP n=>cases(show r=.am [aa 0,aa n,.non] from l);calc .mj .aH;calc .mj .aH;show aF (bY<|.iO (aa 0) (aa n) .zu)
 |used=>let[n,x,rfl]:=(show∃n x,r=.am [aa 2,n,x] from l);calc .kP .aH;show .mg (aa 2) .zu
 |found n a=>
  cases(show r=.am [aa 1,aa n,bc a] from l);let[f1,f2]:=D n a rfl;calc .mj .aH;calc .kP .aH;calc aF (oh (vs:=[aa 1,aa n,.ip<|a.map aa]) (ws:=.zt) (XE.aB<|bY (.gz (aa 1)<|.gz (aa n) (.d9 (.ip<|a.map aa) (Bk .bo (ws:=a.map aa) .e)<|.ft .bs))) (XE.aB<|dM (R4 X) .j3 .az (w:=.cn) .e (.cE J) .fY (.e7 (bc a)<|.ay #[J,g,j,a,rfl,rfl,f2,.a,.bs])) .w .w (.qH<|.jk .dV) (.mG ?_));have:=Y p (by simp[TT.shown,r0,toInts];lia);rw[show aM (r0 (TT.shown .aP<|.found n a))=.eK [aa 1,aa n,.ip<|a.map aa] .zt by change aM (1::.dZ::toInts ((.m<|a.map (.lz d))::a.map (.lz d)))=_;unfold aM toInts;rw[bx,bx,bx,bx,a_,aj,aj];rfl] at this;show this
def Sd:.n (nO m)↔¬(0<=m/\m<=8):=by unfold nO Vaglrh.LENGTH;simp;lia
def Se:.n (r8 m)↔¬(0<=m/\m<=300):=by unfold r8 Vaglrh.TRIES;simp;lia
def Sf{F:Nat->Answer}:(jj .N a m<0->.xz=[jj .N a m])/\(¬jj .N a m<0->jj .N a m=0/\0<=a/\a<.o/\0<=m/\m<=8/\.xz=F .dA):=by
 let[B,M]:=R8 (g:=g) (a:=a) (F:=.bw (.b7 (nO m) [-5]<|F b));unfold jj;by_cases z:lb .N a<0
 .rw[.cD];show(.da B<|.aa z h)
 .let[I,r,L,R]:=M z;by_cases d:.n (nO m)
  .have:=Sd.mp d;rw[.r<|.c I this];show .vF
  .have:0<=m/\m<=8:=ph.mp (.bO (d<|Sd.mpr q));rw[.x (.bO<|q.2 this)];show(.c (.aQ<|.aa h z)<|.P (.ab I r L this.1 .iw<|by rw[R,.x d]))
def Sg{F:Nat->Answer}:(jN .N a m t<0->.u7=[jN .N a m t])/\(¬jN .N a m t<0->jN .N a m t=0/\0<=a/\a<.o/\0<=m/\m<=8/\0<=t/\t<=300/\.u7=F .dA):=by
 let[B,M]:=Sf (g:=g) (a:=a) (m:=m) (F:=.bw (.b7 (r8 t) [-6]<|F b));unfold jN;by_cases z:jj .N a m<0
 .rw[.cD];show(.da B<|.aa z h)
 .let[I,r,L,c,D,R]:=M z;by_cases d:.n (r8 t)
  .have:=Se.mp d;rw[.r<|.c I this];show .vF
  .have:0<=t/\t<=300:=ph.mp (.bO (d<|Se.mpr q));rw[.x (.bO<|q.2 this)];show(.c (.aQ<|.aa h z)<|.P {I,r,L,c,D,this.1,.iw,by rw[R,.x d]})
def Sh(u:i5 g){h}(V:h<.o) ds(N:∀d∈ds,d<.aN):DB g h (ds.map (.lz d))=qa g h ds:=by unfold DB qa;rw[akS,Pm u.wf u.cQ V N]
def akV(c:i5 g){h u b}(V:h<.o):search g h u b=TT.shown .aP (TT.look .aN u (qa g h) b 0<|.b []):=by unfold search;show GA (λa N=>Sh c V a N) b 0 _ (.b []) (.I (.c 0 0) (Gz .f .f) .f .f rfl)
noncomputable def akW(q:Cs):=oR q λb g r=>∃a m t,b=[aM [a,m,t]]/\r=searching .cR a m t
def akX:.aI [.bk,.bb,.kD] [.bk,.bb] 98:=.Q
def akY(X:.aq o l q):bq P w K o l "answer_search" [.bk,.bb] (.L<|akW q) 9:=by
 let S:=akX;calc X.aeg.t S (λ_ _ _ {_,_,_,_,_,e,_,_,{_,_,_,C,_},_}=>.kY) λf v A U s H E M O B Z h=>?_;let[J,g,i,_,_,rfl,rfl,Q,[a,m,t,rfl,rfl],k]:=h;let[V,c]:=Sg (g:=g) (a:=a) (m:=m) (t:=t) (F:=.bw (r0<|search g b .cl t.toNat));let n:searching .cR a m t=.mI .cR a (.b7 (nO m) [-5]<|.b7 (r8 t) [-6] (r0<|search g b .cl t.toNat)):=rfl;rw[n] at k;calc .cV 2 (.u<|jN .N a m t) (.jX (Qp X)<|.f5 (.hO g) (.oM oF .cn J _ rfl) (.e7 (aM [a,m,t])<|.a5 {[a,m,t],a,m,t,.N,.aP,fM g,rfl,rfl,rfl,rfl,rfl}));refine .m4 (.ai (jN .N a m t) 0) .aH .M .M
 .rw[V .ch] at k;show .rs (.u<|jN .N a m t) (.jw<|k i Q p .f)
 .let[_,r,L,x,D,y,N,R]:=c .cr;rw[R,akV Q.og .a] at k;show .lx (Sb X) .cn (.iO (aM [a,m,t]) (nt<|.b [])<|.ay {J,g,i,_,_,rfl,rfl,Q,{[a,m,t],.dA,.cl,t.toNat,.b [],rfl,.kB<|i9 r,.kB<|i9 x,.kB<|i9 y,.a,.a,(λG e=>by cases e;simp),rfl},λu I p d=>.ay<|k u I p d})
noncomputable def akZ(q:Cs):=oR q λb g r=>∃a m t x,b=[aM [a,m,t],aM x]/\.W<=2000/\r=JU .cR a m t x
def ak0:.aI [.bk,.bb,.dX,.kD] [.bk,.bb,.dX] 99:=.Q
def ak1:(nextRef .N .aP a m t x<0->JU .cR a m t x=[nextRef .N .aP a m t x])/\(¬nextRef .N .aP a m t x<0->(∀z∈x,0<=z/\z<=255)/\.W<=24/\0<=a/\a<.o/\0<=m/\m<=8/\0<=t/\t<=300/\(∀b∈.cG,b∈.aP)/\JU .cR a m t x=r0 (go .aP .cl (DB g .dA) t.toNat 0 (.c .W<|jJ .aN ((.cG).map<|TT.cl g)+1))):=by
 let' F:.h->Nat->Answer:=λy b=>match zT .aP y with
  |none=>[-7]
  |some k=>r0 (go .aP .cl (DB g b) t.toNat 0 {size:=y.length,number:=k+1});let l:JU .cR a m t x=ux x .u6:=rfl;let[H,N]:=R9 (x:=x) (F:=.u6);let[j,C]:=Sg (g:=g) (a:=a) (m:=m) (t:=t) (F:=F .cG);rw[l];unfold nextRef;by_cases z:k_ x=0
 .rw[.r z];let[_,Y,d,G]:=N .a;rw[G];let A:(.m .cG)=.W:=by unfold toNats;simp
  by_cases f:jN .N a m t<0
  .rw[.x<|.aQ .a];show(.da j<|.aa f h)
  .obtain⟨I,r,L,w,D,s,c,R⟩:=C f;rw[R];let u:.vE↔¬∀b∈.cG,b∈.aP:=by
    rw[lJ];walk
    .intro[n,B,M] h;let p:=(Y n B).1;have:=h n.toNat (.f7 n B);simp at M;show M n.toNat this .a
    .intro h;calc dW (.bO<|h λb i=>?_);let[n,B,rfl]:=.Y i;let p:=(Y n B).1;calc dW λq2=>q (.cf n B);simp;intro y T e
     exact q2 (by have:n.toNat=y:=.a
                  rw[this];show T)
   by_cases Z:.vE
   .rw[.r<|.c I Z];calc(.da .eq<|.aa .V h);change(match zT .aP .cG with
     |none=>_
     |some k=>_)=_;rw[aft<|u.mp Z]
   .rw[.x (.aQ<|Z h.2)];let o:=ph.mp (.bO (Z<|u.mpr q));calc(.c (.aQ<|.aa h f)<|.P #[Y,d,r,L,w,D,s,c,o,?_]);change(match zT .aP .cG with
     |none=>_
     |some k=>_)=_;rw[afs _ o,A]
 .rw[.x z];show(.da H<|.aa (N h).1 z)
def Ig(h:b∈.aP):jo g b≠-1/\TT.cl g b<.aN:=by
 let[d,N]:=jW h;let T:=N;unfold signsOf at N;rw[bG] at N;cases e:(dC g)[d]? with
 |none=>rw[e] at N;cases N
 |some p=>rw[e] at N;cases N;have:.fz p.1=.b d:=.yt;calc(.bM<|by unfold jo;rw[this];show .s (.aa (show(d:Int)=-1 from z) .a));rw[GB T];show(.aw T)
def ak2(e:i5 g){h u a}(V:h<.o){y:.h}(T:∀b∈y,b∈.aP):go .aP u (DB g h) a 0 (.c y.length<|jJ .aN (.hC g)+1)=TT.shown .aP (TT.look .aN u (qa g h) a 0 (TT.behind .aN u<|.hC g)):=by
 have F:Vaglrh.digitsOf .aN y.length (jJ .aN<|.hC g)=.hC g/\jJ .aN (.hC g)<.aN^y.length:=by
  by_cases m:0<.aN
  .show Pg m .f λd N=>by let[b,Y,rfl]:=.Y N;show(Ig<|T b Y).2
  .have:y=[]:=by
    cases y with
    |nil=>rfl
    |cons b y=>show .aa (List.length_pos_of_mem<|T b .di) m
   subst this;show(.aY<|by simp[jJ])
 calc GA (λc N=>Sh e V c N) a 0 _ _ ?_;show Pj F.2 F.1
def ak3(X:.aq mg l q):bq P w K mg l "answer_next" [.bk,.bb,.dX] (.L<|akZ q) 9:=by
 let S:=ak0;calc X.aeh.t S (λ_ _ _ {_,_,_,_,_,e,_,_,{_,_,_,_,C,_},_}=>.kY) .gd;let[J,g,i,_,_,rfl,rfl,Q,[a,m,t,x,rfl,D,rfl],k]:=h;let[V,c]:=ak1 (g:=g) (a:=a) (m:=m) (t:=t) (x:=x);calc .cV 3 .ys (.jX (ag6 X)<|.f5 (.hO g) (.oM oF .cn J _ rfl) (.iO (aM [a,m,t]) (aM x)<|.a5 {[a,m,t],x,a,m,t,.N,.aP,fM g,rfl,rfl,rfl,rfl,D,rfl}));refine .qw (.ai (nextRef .N .aP a m t x) 0) .aH .M
 .rw[V .ch] at k;show .mg .ys (.jw<|k i Q p .f)
 .let[Y,hl,r,L,m0,m8,y,t3,o,R]:=c .cr;let tl:(.m .cG)=.W:=by unfold toNats;simp
  rw[R,<-tl,ak2 Q.og .a o] at k;let G:aM x=ai .cG:=CF λz T=>(Y z T).1;let M:∀b∈.cG,b<256:=λb n=>by let[z,T,rfl]:=.Y n;have:=Y z T;lia
  let em:W.int m=aa .cl:=.jg (W.int m=.rH) (i9 m0)
  let B:∀d∈(.cG).map<|TT.cl g,d<.aN:=λd N=>by let[b,n,rfl]:=.Y N;show(Ig<|o b n).2
  calc aF (.lx (Sb X) .cn<|.gz (aM [a,m,t]) (.d9 (nt<|TT.behind .aN .cl ((.cG).map<|TT.cl g)) (.jX (G_ X)<|.f5 (bc ((.cG).map<|TT.cl g)) (.bi (XE.xv (w:=kx g .cG) .uh)<|Ib λb n=>(Ig<|o b n).1) (.f5 (aa .aN) (.bi .rY .nR)<|.d9 (aa .cl) (.bi (.rd (aM [a,m,t]) 1 (.u m) .e .w rfl) em) (.a5<|.fD _ _ _ rfl .qL B)))<|.ay {J,g,i,_,_,rfl,rfl,Q,{[a,m,t],.dA,.cl,t.toNat,_,rfl,.kB<|i9 r,.kB<|i9 m0,.kB<|i9 y,.a,.a,(λds e=>?_),rfl},λi' I p hl=>.ay<|k i' I p hl}));have:=HD e B;show(.c .a .iw)
def qb(g:aQ)(m:Nat):=(.na m).map λa=>a.map (.lz d)
def Ih{F:.bn (.b8->Answer)}:(.o1 a m<0->z9 .cR a m F=[.o1 a m])/\(¬.o1 a m<0->0<=a/\a<.o/\0<=m/\m<=8/\gM .aN .cl<=300/\z9 .cR a m F=F .dA (qb g .cl)):=by
 have T:z9 .cR a m F=.mI .cR a (.b7 (nO m) [-5] (match JJ .aP .cl aoF with
  |none=>[-10]
  |some l=>F b l)):=rfl;let[B,M]:=Sf (g:=g) (a:=a) (m:=m) (F:=.bw (match JJ .aP .cl aoF with
  |none=>[-10]
  |some l=>F b l));rw[T];unfold iZ;by_cases z:jj .N a m<0
 .rw[.cD];show(.da B<|.aa z h)
 .let[I,r,L,d,D,R]:=M z;rw[R,afB];by_cases c:300<gM .aN .cl
  .rw[.r<|.c I c,.r<|by show c];show(.da .hI<|.aa .V h)
  .rw[.x (.bO<|c q.2),.x<|by show c];show(.c (.aQ<|.aa h z) (.P<|.gE r L d D .a))
def Si(u:i5 g){h}(V:h<.o) m{d}(I:d.g=.N):(qb g m).map (.ah (.b0<|dD g h x))=iw d h (.na m):=by unfold qb iw;rw[a_,I];calc dG λa N=>?_;change .b0 (dD g h<|a.map (.lz d))=_;rw[Pm u.wf u.cQ V<|BR N]
def CG{n m}(Y:m<=8){ds}(N:ds∈cN n m):ds.length<=24/\∀c∈ds,c<n:=(.c (.dJ<|Pr N)<|BR N)
noncomputable def ak4(q:Cs):=oR q λc g r=>∃a m,c=[aM [a,m]]/\r=z9 .cR a m .un
def ak5:.aI [.bk,.bb,.kD] [.bk,.bb] 105:=.Q
def ak6(X:.aq mg d q):bq P w K mg d "answer_tally" [.bk,.bb] (.L<|ak4 q) 8:=by
 let S:=ak5;calc X.aei.t S .ra .ja;let[J,g,i,_,_,rfl,rfl,Q,[a,m,rfl,rfl],k]:=h;let[V,c]:=Ih (g:=g) (a:=a) (m:=m) (F:=.un);let r:=Q.og.gr.bS;calc .sK;refine .sX
 .rw[V .ch] at k;show .sW
 .let[T,L,m0,m8,t,R]:=c .cr;rw[R] at k;let y:W.int a=aa .dA:=.jg (W.int a=.qy) (i9 T)
  let I:W.int m=aa .cl:=.jg (W.int m=.rH) (i9 m0)
  let n:i.d.g.nons=.o:=.qN
  let G:.ae .lF 300:=by rw[yz];show t
  refine aF (N_ (vs:=[.u 0]) .e<|.lx (aj_ X) (.p i.a) (.f5 (aa .dA) (.bi .sV y)<|.d9 (jR .lF) (XE.xv<|dM (Ie X) .j3 .az (w:=.cn) .e (.cE J) .fY (.d9 (aa .cl) (.bi (.rd (aM [a,m]) 1 (.u m) .e .w rfl) I)<|.ay #[J,g,i,.cl,rfl,rfl,.a,t,rfl,rfl])) {.rX,_,rfl,i.a,i.d,i.hd,i.td,i.us,.dA,_,rfl,rfl,Q.ok,.a,.eu ?_,.a,Q.kn,Q.bS,λN o us kn r=>(.en .w .f<|.mG ?_)}))
  .let[B,M]:=CG .a D;show(.c B<|by rw[Q.en];show M)
  .let Y:=k .rM .zr p;rw[afE,Si Q.og .a .cl Q.eg,.np .xy<|aj _] at Y;show Y (by simp[toInts])
open Classical in
noncomputable def ak7(q:Cs):bT:=oR q λvs g r=>vs=[]/\(.H (lz .N .aN)/\r=[-11]\/∃ks,lz .N .aN=.b ks/\.zs)
def ak8:.aI [.bk,"sure"] [.bk] 108:=.Q
open Classical in
theorem ak9(X:.k9 P w K q):bq P w K mg base "answer_sure" [.bk] (.L<|ak7 q) 7:=by
 let S:=ak8;calc X.aej.t S (λ_ _ _ {_,_,_,_,_,e,_,_,e2,_}=>by rw[e,e2.1];rfl) .rc;let[ha,g,i,_,r,rfl,rfl,ok,[rfl,oz],k]:=h;refine .ba 1<|c_ (akw X) .ha (.d9 (.hO g) (.oM oF (.p ha) ha _ rfl)<|.none {rfl,.N,.aN,.aP,fM g,rfl,ok.og.gr,λhn=>?_,λks CB=>?_})
 .have er:r=[-11]:=by
   let[_,h]|||[ks,h,_]:=oz
   .show h
   .rw[hn] at h;cases h
  subst er;calc .kP (.iH .non .io);show .mg (.u<|-11) (.jw<|k i ok p .f)
 .have er:.zs:=by
   let[h,_]|||[ks',h,e]:=oz
   .rw[CB] at h;cases h
   .rw[CB] at h;cases h;show e
  subst er;calc .mj (.iH (.bl (.bC<|mr .N .aN ks)) .ol);refine aF<|bY (.gz (.u 0)<|.d9 (.u (.dq<|mr .N .aN ks)) (sQ (k:=.bC<|mr .N .aN ks) .aH .M .M) (.jw<|k i ok p .f))
  .rw[.r .ch];tm_at "v"
  .rw[.x .cr];tm_at "v"
noncomputable def ak_(q:Cs):=oR q λc g r=>∃a m,c=[aM [a,m]]/\r=z9 .cR a m (λb l=>match widest g b l with
 |none=>[0]
 |some p=>.ww)
def ak':.aI [.bk,.bb,.kD,.ke] [.bk,.bb] 106:=.Q
def ala(X:.k9 P w K q):bq P w K mg base "answer_widest" [.bk,.bb] (.L<|ak_ q) 8:=by
 have S:=ak';calc X.aek.t S .ra .ss;let[J,g,i,_,_,rfl,rfl,Q,[a,m,rfl,rfl],k]:=h;let[V,t2]:=Ih (g:=g) (a:=a) (m:=m) (F:=λb l=>match widest g b l with
  |none=>[0]
  |some p=>.ww);let r:=Q.og.gr.bS;calc .sK;refine .sX
 .rw[V .ch] at k;show .sW
 .let[a0,L,m0,m8,h3,er]:=t2 .cr;rw[er] at k;let ea:W.int a=aa .dA:=.jg (W.int a=.qy) (i9 a0)
  let I:W.int m=aa .cl:=.jg (W.int m=.rH) (i9 m0)
  let nn:i.d.g.nons=.o:=.qN
  let ll:.ae .lF 300:=by rw[yz];show h3
  let[l0,G,_]:=Pq .aN .cl;let l1:0<(.m .lF):=by rw[G];simp
  refine .ba 3<|.lx (akg X) (.p i.a) (.f5 (aa .dA) (.bi .sV ea)<|.d9 (jR .lF) .ug {.rX,_,rfl,i.a,i.d,i.hd,i.td,i.us,.dA,_,rfl,rfl,Q.ok,.a,.eu ?_,.a,l1,Q.kn,Q.bS,λN o us kn r j v y fm T=>?_})
  .let[B,M]:=CG .a D;show(.c B<|by rw[Q.en];show M)
  .let Y:=k .rM .zr;let[j',y',R,t,Sj]:=afF g .dA (l:=qb g .cl) (.s<|by let h9:.xy:=aj _;rw[z] at h9;have:(.m ([]:.b8))=0:=rfl;lia);rw[Si Q.og .a .cl Q.eg] at Sj;let[rfl,ev]:=afG Sj fm;let Sk:y'=y.map (.lz d):=by unfold qb at t;rw[bG,T] at t;cases t;rfl
   rw[R] at Y;simp only at Y;let e5:shownCount (pb<|dD g .dA y')=.zq:=by
    rw[<-ev,<-R6];unfold shownCount pb;cases dD g .dA y' with
    |none=>rfl
    |some n=>change[0,(.cj<|JT (JT n w9) w9)]=[0,(.cj<|JT n w9)];congr 2;change(.cj<|min (min n w9) w9)=(min n w9:Nat);congr 1;lia
   rw[e5] at Y;let hyd:=CG (n:=.aN) (m:=.cl) .a (bb T);calc .gi (dB.O .rM q J g) (z8 _) ?_;generalize(.rM:dB)=j at Y|-;let tl:.ae .zq 2:=by split<;>simp
   generalize eT:(.ea (v=.bc) ([1]:.S) [0,(v:Int)])=tw at*;refine aF (N_ (vs:=.wv) (XE.aB<|oh (vs:=[.u 0]++tw.map .cJ) (ws:=[.ip<|y.map aa]) (XE.aB<|oh (vs:=[.u 0]) (ws:=tw.map .cJ) (wa:=.Z [.u 0]) .e (wb:=aM tw) (.j8 (R7 X) (.e7 (aa v)<|.a5 (.aX v<|by rw[eT]))) .w .w (.jk<|by rw[aj];simp;lia) .bs) (XE.aB<|bY (.d9 (.ip<|y.map aa) (Bk .bo (ws:=y.map aa) .e)<|.ft .bs)) .w .w (.jk<|by rw[ez,aj];simp;lia) .bs)<|.dH (ai<|y.map (.bg<|.pr c)) (XE.aB<|dM (R4 X) .j3 .az (w:=.cn) .e (.cE J) .fY (.e7 (bc y)<|.ay #[J,g,j,y,rfl,rfl,hyd.2,.a,.bs])) (.en .w ?_<|.mG ?_))
   .rw[ez,ez,aj,aj,aj];simp;lia
   .have:=Y p (by simp[toInts,Sk];lia);rw[Sk,show aM (0::(tw++toInts ((.m<|y.map (.lz d))::y.map (.lz d))))=.eK .wv (.cp<|y.map (.bg<|.pr c)) by unfold aM toInts;rw[bx,bo,bx,bx,a_,aj,aj];simp only[eZ,rX,pd];rfl] at this;show this
def Ii(n:Nat):Sym->Prop
 |.non b=>b<n
 |.range c a=>c<=a/\a<=255
def alb(h:gJ o n i=.cL):Ii n p.1:=by
 unfold gJ at h;split at h
 .split at h
  .cases h;room
  .cases h
 .split at h
  .split at h
   .cases h;room
   .cases h
  .cases h
 .cases h
def Sl{o:.h}{n:Nat}:∀{k i:Nat} {p:.bq×Nat},fD o n k i=.cL->(.m p.1)=k/\∀s∈p.1,Ii n s
 |0,i,p,h=>by cases h;show(.aY .f)
 |k+1,i,p,h=>by
  unfold fD at h;split at h
  .cases h
  .rename_i y T;let[z,b,rfl]:=lG.mp h;let[B,M]:=Sl b;calc(.c (by simp[B]) λs a=>?_);let rfl|||a:=.c6 a
   .show alb T
   .show M s a
structure Sm(n:Nat)(r:bw):Prop where
 lhs:.C<n
 len:.jO<=8
 sy:∀s∈r.rhs,Ii n s
def alc(h:h_ o n i=.cL):Sm n p.1:=by
 unfold h_ at h;split at h
 .split at h
  .rename_i q;let[z,a,rfl]:=lG.mp h;let[B,M]:=Sl a;show(.g q.1 (.pW<|.ae z.1 8) M)
  .cases h
 .cases h
def Sn{o:.h}{n:Nat}:∀{k i:Nat} {p:.b2×Nat},f7 o n k i=.cL->(.m p.1)=k/\∀r∈p.1,Sm n r
 |0,i,p,h=>by cases h;show(.aY .f)
 |k+1,i,p,h=>by
  unfold f7 at h;split at h
  .cases h
  .rename_i y T;let[z,b,rfl]:=lG.mp h;let[B,M]:=Sn b;calc(.c (by simp[B]) λs a=>?_);let rfl|||a:=.c6 a
   .show alc T
   .show M s a
def ald(h:lV o=.b g):i5 g:=by
 unfold lV at h;split at h
 .split at h
  .rename_i q;split at h
   .rename_i y T;split at h
    .cases h;let[B,M]:=Sn T;calc(.I (.c (λr Z=>(M r Z).lhs) λr Z b Y=>(M r Z).sy _ Y) (.c q.1.1 q.1.2) (.pW<|.ae y.1 60) (λr Z=>(M r Z).len) .hR);let[r,Z,G]:=kZ.mp R;have:=(M r Z).sy _ G;have:p.1<=p.2/\p.2<=255:=this;lia
    .cases h
   .cases h
  .cases h
 .cases h
def ale(Z Y:OM) v:(Z++Y++[v]).Perm (Z++[v]++Y):=by rw[eZ,eZ];show qp _ fX
noncomputable def alf(q:Cs):bT:=λa O F=>∃J g i x,a=[.cn,aM x]/\O=dB.O i q J g/\i.Ok g/\.W<=2000/\∀j:dB,j.Ok (loading .cR x).1.grammar->∀p,.eg (.m (loading .cR x).2)->F .aG (j.O q J (loading .cR x).1.grammar++[(p,aM (loading .cR x).2)])
def alg:.aI [.bk,.eN,.iV,"told"] [.bk,.eN] 95:=.Q
def alh(X:.aq B m q):bq P w K B m "answer_load" [.bk,.eN] (.L<|alf q) 9:=by
 let S:=alg;calc X.ael.t S .jJ λf v A U s H E M O F Z h=>?_;let[J,g,i,x,rfl,rfl,Q,D,k]:=h;refine .hW (x.any λn=>.ai n 0) (iM<|.oR (x.map λn=>.ai n 0) (.nA [(.iV,2)] (.jz (aM x)<|.jL x .cJ (λn=>[.K J,.b<|aM x,.gG n,none]) (λn=>.bl<|.ai n 0) (λn t p I V o C Y a=>(.jE 2 .e)) .bs)) .pq) (by rw[rO];rfl) .M .M
 .let G:loading .cR x=(.cR,[-1]):=by unfold loading;rw[.r z]
  rw[G] at k;show .mg (.u<|-1) (.jw<|k i Q p .f)
 .have G:loading .cR x=match lV .cG with
   |some d=>(#[d],[0])
   |none=>(.cR,[-2]):=by unfold loading;rw[.x<|by rw[z];show fQ,ZV];cases lV .cG<;>rfl
  let b:∀y∈x,0<=y:=.d2 (by have:=.aQ (fQ<|z.symm.trans (lJ.mpr<|.g y T h));simp at this;lia)
  calc .cV 3 (F1<|lV .cG) (.jX (aeK X)<|.d9 (ai .cG) (.k1 (aM x)<|CF b) (.a5<|.bZ rfl));cases r:lV .cG with
  |none=>rw[r] at G;rw[G] at k;calc .kP (.iH .non .io);show .mg (.u<|-2) (.jw<|k i Q p .f)
  |some d=>rw[r] at G;rw[G] at k;let u:=ald r;calc .mj (.iH (.gX d.nons<|dn d.rules) .ol);calc .gi (.sU++i.F q) fX ?_;calc b_ (dM (R0 X) .j3 .az (w:=.cn) .e (.ge J .di) .fY (x9<|XE.mono (.oO (c=.hO d)<|vo (Qk X) .az (.iO (aa d.nons) (dn d.rules)<|.ct [] _ λy=>{y,d,rfl,rfl,u.rules,u.rhs,u.cQ,rfl,y,_,rfl,rfl,rfl})) ?_));intro w N [rfl,rfl];calc ak {.sU,i.F q,rfl,J,d,_,_,rfl,rfl,.F<|.cX rfl _ _ rfl,u,λj L=>?_};calc .mg (.u 0) (.ft<|.as (.q (j.O q J d++[(p,aM [0])]) (i.F q) ?_<|k j L p .f));show ale (j.O q J d) (i.F q) (p,aM [0])
def ali:=ib λb c=>∃a,b=[hJ a]/\.bh .nQ/\c=ai (i_ a)
def alj:.aI ["alternative","told","kid"] ["alternative"] 102:=.Q
def yX(l:.c1):(.qV JV)=.ax*3:=by
 induction l with
 |nil=>rfl
 |cons a l E=>rw[lK,ez,E,dS,JS];change 3+_=_;lia
def So(X:.aq c b l):bq P w K c b "told_alternative" ["alternative"] (.L ali) 1:=by
 let S:=alj;calc X.aem.t S .nz λf v A U s H E o O F Z h=>?_;let[rfl,_,[a,rfl,d,rfl],k]:=h;calc .nI 1 (.gz (aa a.rule) (.d9 (.ip<|a.kids.map dF) (Bk .bo (ws:=a.kids.map dF) .e)<|.ft .hQ));refine cu (Bf<|.mQ (lq a.kids) (.gD (λi u g=>u=[.b<|hJ a,.K p,none]/\g=[(p,ai<|a.rule::.nQ::.b9 (a.kids.take i) JV)])<|.aY .nR))
 .intro i w _ _ m [rfl,rfl];let[n,t,rfl]:=dw m;let[B,M]:=.bd t;calc(.fL _ _ 2);refine b_<|N' (q:=p) (zs:=[aa n.1,aa .a0,aa .aZ]) .e .e .bF ?_ .hp
  .rw[aj,dS,dS,yX,dZ];simp;lia
  .rw[dX B,M,zY,ai];simp only[bx,bo,lK,U5,eS];rfl
 .intro _ _ [rfl,rfl];rw[aj,eP];show .f3 .aG (.ay<|k p)
def mu(n:bU)(a b:Alt):=(.A (a.rule==b.rule) 2 1)::(JV n++(i_ a++i_ b))
def alk:=ib λd c=>∃n a b,d=[.am [dF n,hJ a,hJ b]]/\.bh .nQ/\.bh b.kids.length/\c=ai (mu n a b)
def alm:.aI ["core","first","second","kind"] ["core"] 103:=.Q
def aln(X:.aq d i g):bq P w K d i "told_core" ["core"] (.L alk) 2:=by
 let S:=alm;calc X.aen.t S .ny λf v A U s H E m O F Z h=>?_;let[rfl,_,[n,a,b,rfl,J,Y,rfl],k]:=h;let l:(.m<|i_ a)=.nQ*3+2:=by unfold i_;rw[dS,dS,yX]
 let c:(.m<|i_ b)=b.kids.length*3+2:=by unfold i_;rw[dS,dS,yX]
 calc .hy 1 (hJ a);calc .hy 2 (hJ b);refine .cV 3 (aa<|.A (a.rule==b.rule) 2 1)<|sQ (k:=.aj a.rule b.rule) (.pI (.aj (a.rule:Int) (b.rule:Int))<|.iC DA) .M .M
 .rw[.r<|.nP .ch];tm_at "v"
 .rw[.x<|.nP .cr];tm_at "v"
 calc aF (oh (vs:=.sL++.cp (i_ a)) (ws:=.cp<|i_ b) (XE.aB<|oh (vs:=.sL) (ws:=.cp<|i_ a) (XE.aB<|oh (vs:=[aa<|.A (a.rule==b.rule) 2 1]) (ws:=[aa n.1,aa .a0,aa .aZ]) (wa:=.Z [aa<|.A (a.rule==b.rule) 2 1]) .e (XE.aB<|Ft (ws:=[aa n.1,aa .a0,aa .aZ]) .bo .e .bs) .w .w (show 4<=bh by decide) .bs) (wb:=ai<|i_ a) (.j8 (So X)<|.e7 (hJ a) (.a5<|.dB a J rfl)) .w .w (.jk<|by rw[aj,l];simp;lia) .bs) (wb:=ai<|i_ b) (.j8 (So X)<|.e7 (hJ b) (.a5<|.dB b Y rfl)) .w .w (.jk<|by rw[ez,aj,aj,l,c];simp;lia) (.as<|.last (O:=[]) ?_));have:=k p;rw[show ai (mu n a b)=.eK (.sL++.cp (i_ a)) (.cp<|i_ b) by unfold ai mu JV;simp only[bx,bo,eZ,rX,pd,zR]] at this;show this
def Ss l:aM (toInts l)=ai l:=by unfold aM toInts ai;rw[a_];rfl
def alp(u:i5 g) a x:pairF g a x=pairF .N a (x.map<|TT.cl g):=by unfold pairF;rw[Sr u.wf u.cQ a]
def foldl_eq{N c:Type}{F G}:∀(l:.aS) (s:c),(∀s,∀x∈l,F s x=G s x)->.ef F s=.ef G s
 |[],_,_=>rfl
 |x::l,s,h=>by rw[cW,cW,h s x .di,foldl_eq l _ λs y T=>h s y (.fy T)]
def alq(u:i5 g) a m{d}(I:d.g=.N):zU g a (qb g m)=iy d a (.na m):=by
 rw[afH g a (.ah<|pairF g a x) _ λx _=>by unfold pairF;cases ju g a x<;>rfl];unfold qb iy;rw[List.foldl_map,I];calc foldl_eq _ _ λs b N=>?_;let e:pairF g a (b.map (.lz d))=pairF .N a b:=by rw[alp u,Pk<|BR N]
 rw[e]<;>cases pairF .N a b<;>rfl
def Su{n a b}(h:a<=b){ds}(N:ds∈cN n a):ds∈cN n b:=by unfold cN at*;let[k,B,M]:=dP.mp N;show .kF k (.fO (.dJ<|c4.mp B)) M
def sum2{N:Type}(l:.aS):(.hG λ_=>2)=.ax*2:=by
 induction l with
 |nil=>rfl
 |cons a l E=>rw[bx,ui,E,dS];lia
noncomputable def alr(q:Cs):=oR q λc g r=>∃a m,c=[aM [a,m]]/\r=z9 .cR a m .uH
def als:.aI [.bk,.bb,.kD,"pairs","told","pair"] [.bk,.bb] 107:=.Q
def alu(X:.aq mg d q):bq P w K mg d "answer_odds" [.bk,.bb] (.L<|alr q) 11:=by
 let S:=als;calc X.aeo.t S .ra .ja;let[J,g,i,_,_,rfl,rfl,Q,[a,m,rfl,rfl],k]:=h;let[t1,t2]:=Ih (g:=g) (a:=a) (m:=m) (F:=.uH);let r:=Q.og.gr.bS;calc .sK;refine .sX
 .rw[t1 .ch] at k;show .sW
 .let[a0,an,m0,m8,h3,er]:=t2 .cr;rw[er,alq Q.og .dA .cl Q.eg] at k;let ea:W.int a=aa .dA:=.jg (W.int a=.qy) (i9 a0)
  let I:W.int m=aa .cl:=.jg (W.int m=.rH) (i9 m0)
  let n:i.d.g.nons=.o:=.qN
  let ll:.ae .lF 300:=by rw[yz];show h3
  have hM:gM .aN (max i.M .cl)<=300:=by
   let h|||h:=Nat.le_total i.M .cl
   .rw[Nat.max_eq_right h];show h3
   .rw[Nat.max_eq_left h];show Q.m
  let prk:oQ i.d.g.nons (.na<|max i.M .cl) i.pr:=(.c Q.pr.nd<|.dz (.c (Q.pr.sub p R).1<|Su (Jf _ _) (Q.pr.sub p R).2));refine .ba 3<|.lx (akj X) (.p i.fa) (.f5 (aa .dA) (.bi .sV ea)<|.d9 (jR .lF) .ug {i.F q,_,rfl,i.d,i.a,i.hd,i.td,i.fa,i.ks,i.kp,i.us,i.sz,i.pr,.dA,_,.na<|max i.M .cl,rfl,rfl,Q.ok,.a,.eu ?_,.a,Q.kn,Q.bS,by rw[yz];lia,.eu<|Su (anv _ _) D,prk,λN o ks us Y pr kn r alv p=>?_})
  .let[B,M]:=CG .a D;show(.c B<|by rw[Q.en];show M)
  .let kk:=k .rL #[Q.og,Q.ok,Q.eg,Q.en,kn,r,hM,alv];calc .gi (dB.F .rL q++(p,bV<|iy i.d .dA .lF)::.sU) (JA<|by rw[eZ];rfl) ?_;calc ar.aB (j:=3) (q:=p) rfl ?_;let ol:=RP i.d .dA .lF;generalize iy i.d .dA .lF=L at*;calc .gi (dB.O .rL q J g) (z8 _) ?_;generalize(.rL:dB)=j at kk|-;calc .nI 4 (.gz (.u 0) (.d9 (.ip<|.bG fh) (mW .bo (w:=bV L) .e .w)<|.ft λt=>?_));refine cu<|.jz (bV L) (.gD (λc Γ O'=>Γ=[.K J,.b<|aM [a,m],.gG<|.o1 a m,.nr L,.K t,none]/\O'=j.O q J g++[(t,ai<|0::.hi::.b9 (L.take c) (.as [p.1,p.2]))])<|.aY .nR)
   .rintro c w _ _ V ⟨rfl,rfl⟩;let[y,T,rfl]:=dw V;let[B,M]:=.bd T;let G:∀l:.bK,(.qV<|.as [p.1,p.2])=.ax*2:=λl=>by
     induction l with
     |nil=>rfl
     |cons a l ih=>
      let e9:(.m (.b9 (a::l)<|.as [p.1,p.2]))=2+(.qV<|.as [p.1,p.2]):=by rw[lK,ez];rfl
      let e8:(.m<|a::l)=.ax+1:=rfl;rw[e9,ih,e8];lia
    calc(.fL _ _ 5);refine b_<|N' (q:=t) (zs:=[aa y.1,aa y.2]) .e .e (.ki .bF) ?_ .hp
    .rw[aj,dS,dS,G,dZ];simp;lia
    .rw[dX B,M,zY,ai];simp only[bx,bo,lK,U5,eS];rfl
   .intro _ _ [rfl,rfl];rw[aj,eP];calc .f3 (.p t) (.ay ?_);have:=kk t (by simp[toInts,sum2];lia);rw[show aM (0::toInts .yr)=ai (0::.yr) by rw[<-Ss];rfl] at this;show this
def alw{K}(J:.kS a λwa O1=>∃i j,wa=.do/\.rf O1 b j/\K (.aj i j) O1)(G:kC .Eq b=.j:=by rfl):yf X u O (.gC a [.Eq] [b]) K:=.mk λc H U s Q q=>
 (.D (DW KC .E .E G)<|J c H U s _ λx w O1 A P I r z=>by
  let[i,j,rfl,Y,k]:=z;cases(show x=.do from r);show Y A P U I.ok _ (.jh<|by cases(show y=.u j from m);show(.ct rfl _<|by rw[aaN];show q _ O1 F n .cO k)))
def alx(h:.b0 c=0):=uY.mp h
def Sv{g:aQ}(Y:∀r∈g.rules,.jO<=8){x}{n}{a}(h:a∈.fB x n):.bh .nQ:=by let[r,Z,_,L]:=BI.mp h;have:=HN L;have:=Y r (bb Z);lia
noncomputable def aly(q:Cs):=oR q λc g r=>∃a x,c=[.u a,aM x]/\.W<=2000/\r=ux x (λy=>.mI .cR a<|U6 g b y)
def alz:.aI [.bk,.an,.dX,.kD,.cm,"nodes","core"] [.bk,.an,.dX] 104:=.Q
def alA(X:.k9 P w K q):bq P w K mg base "answer_core" [.bk,.an,.dX] (.L<|aly q) 8:=by
 let S:=alz;calc X.aep.t S (λ_ _ _ {_,_,_,_,_,e,_,_,{_,_,e2,_},_}=>by rw[e,e2];rfl) .ja;let[J,g,i,_,_,rfl,rfl,Q,[a,x,rfl,hx,rfl],k]:=h;let[t1,t2]:=R_ (g:=g) (a:=a) (x:=x) (F:=λb y=>U6 g b y);calc .cV 3 (.u<|lg .N a x) (.jX (Qn X)<|.f5 (.hO g) (.oM oF .cn J _ rfl) (.iO (.u a) (aM x)<|.a5 {a,x,.N,.aP,fM g,rfl,hx,rfl}));refine .wu
 .rw[t1 .ch] at k;show .vD
 .let[hb,d,a0,an,er]:=t2 .cr;rw[er] at k;let ea:W.int a=aa .dA:=.jg (W.int a=.qy) (i9 a0)
  let ex:aM x=ai .cG:=CF λz hz=>(hb z hz).1;let yl:.ae .cG 24:=by unfold toNats;rw[aj];show d
  let yb:∀b∈.cG,b<256:=λb Gr=>by let[z,hz,rfl]:=.Y Gr;have:=hb z hz;lia
  let V:.dA<.o:=.a
  rw[ea];generalize .cG=y at*;generalize a.toNat=b at*;let T:=x4 Q.og.wf;let R:dD g b y=TT.T .hd b (.hC g):=Pn Q.og.wf Q.og.cQ V y;let ec:ju g b y=ju .N b (.hC g):=Sr Q.og.wf Q.og.cQ b;unfold U6 at k;rw[ec] at k;calc .cV 4 (kx g y) (XE.xv<|dM (Ic X) .j3 .az (w:=.cn) .e (.cE J) .fY (.d9 (ai y) (.k1 (aM x) ex)<|.ay #[J,g,i,y,rfl,rfl,Q,yb,.a,rfl,rfl]));refine N2 (alw<|dM (R5 X) .j3 .az (w:=.cn) .e (.cE J) .fY (.iO (aa b) (kx g y)<|.ay {J,g,i,b,y,rfl,rfl,Q,V,yl,λj L=>(.qx _ 0 rfl .M .M)}))
  .let z:.b0 (dD g b y)=0:=.dJ .ch
   let z:=alx z;rw[R] at z;rw[Gj T (.aQ<|(yV T (h:=b)<|by show V).mp h z)] at k;show .mg (.u<|-8) (.jw<|k j L p .f)
  .let z:¬.b0 (dD g b y)=0:=.dJ .cr
   have M:TT.T .hd b (.hC g)≠TT.c0:=λe=>z (by rw[R,e,jB]);let al:∀c∈y,jo g c≠-1:=λc hc e=>by
    have e0:.H (.fz c):=by
     unfold jo at e;cases e1:.fz c with
     |none=>rfl
     |some k=>rw[e1] at e;show .yq
    let w0:=MS Q.og.cQ e0 b hc;rw[xZ Q.og.cQ] at w0;show M w0
   let gO:=(yV T (h:=b) (x:=.hC g)<|by show V).mpr M;let nn:j.d.g.nons=.o:=by rw[L.eg];rfl
   let B:.ae (.hC g) 24:=by rw[aj];show yl
   let dc:∀c∈.hC g,c<j.d.n:=λc hc=>by let[c',l,rfl]:=.Y hc;rw[L.en];show(Ia<|al c' l).2
   refine .ba 5<|dM (RM X) .kd .az (w:=.p j.fa) .e (.cE j.fa) .fY (.gz (aa b)<|.d9 (bc<|.hC g) (.k1 (kx g y)<|Ib al) {j.F q,_,rfl,j.d,jn j.d,j.a,j.hd,j.td,j.fa,j.ks,j.kp,j.us,j.sz,j.pr,.hC g,b,rfl,rfl,L.ok,L.kn,L.bS,B,dc,.a,by rw[L.eg];show M,λhg hd o ks us sz C bS=>?_,λhg hd o ks us sz D C bS nd u=>?_});all_goals
    let I:(.s7:dB).Ok g:=#[L.og,L.ok,L.eg,L.en,C,bS,L.m,L.pr];let Y:=k _ I;calc .gi (dB.O .s7 q J g) (z8 _) ?_;generalize(.s7:dB)=t at Y|-;rw[L.eg] at hg
   .rw[Gi T gO hg] at Y;calc .kP (.iH .non .io);show .mg (.u<|-9) (.jw<|Y p .f)
   .rw[L.eg] at u|-;calc .mj (.iH .xx .ol);let ol:.bh .hJ:=by let h1:=.zp;have:¬256<(.m<|eX .N (.hC g) (b,0,(.m<|.hC g))):=.bO (hg<|.z q);lia
    refine .ba 6 (.gl (RN X)<|.nW .xx {rfl,D,_,rfl,nd,ol,λn hn=>(nk T<|pS gO ((nh gO).mp<|(u n).mp hn)).2.1,λhs=>?_,λm G p N r Ij least=>?_})
    .rw[Gk T gO hg (.hw (hs m<|(u m).mpr G))] at Y;show .m4 true (XT.of (.iH .non .io) rfl) (.P<|.rs (.u 0) (.jw<|Y p .f)) .aV
    .rw[BJ T gO hg ((u m).mp G) Ij λn hn=>least n ((u n).mpr hn)] at Y;let pl:.bh p.kids.length:=.vC;let ql:.bh N.kids.length:=.vC;let l1:(.m<|i_ p)=p.kids.length*3+2:=.rt
     let l2:(.m<|i_ N)=N.kids.length*3+2:=.rt
     let la:.dc (.m<|mu m p N):=by unfold mu;rw[dS,ez,ez,l1,l2];change 3+_+1<=_;lia
     calc .m4 .j (XT.of (.iH (.am [dF m,hJ p,hJ N]) .ol) rfl) .aV (.P<|oh (vs:=[.u 1]) (ws:=.cp<|mu m p N) (wa:=.Z [.u 1]) .e (wb:=ai<|mu m p N) (.j8 (aln X)<|.e7 (.am [dF m,hJ p,hJ N]) (.a5<|.fD m p N rfl pl ql)) .w .w (.jk<|by rw[aj];simp;lia) λt=>.ay ?_);let this:Kk (.p t) (_++[(t,aM<|1::toInts (mu m p N))]):=Y t (show .eg (.m<|1::toInts (mu m p N)) by simp[toInts];lia);rw[show aM (1::toInts (mu m p N))=.eK [.u 1] (.cp<|mu m p N) by have:=Ss (mu m p N);unfold ai at this;unfold aM at this|-;rw[bx,W.lst.inj this];rfl] at this;show this
def Sz r:(dQ .N r).rhs=(dQ g r).rhs.map (eQ g)/\(.kO .N r)=(.kO g r):=by
 let G:.rG=.bf:=aj _;unfold dQ g0;rw[G];by_cases e:.fc r .bf
 .rw[.cK,.cK];show .bW
 .rw[.bU,.bU,cK,cK,.np (.hd[r]?=(.B[r]?).map (TT.mapR g))<|bG ..];cases .B[r]?<;>show .bW
def CK c:cy .N c=(cy g c).map (eQ g):=by unfold cy;rw[(Sz _).1,bG]
def alN b:dH .N b=dH g b:=by rw[Cm,Cm,show(.N).rules.map .kL=.fa .kL by rw[alB,a_];rfl]
def CL s:bA .N s=.kc s:=by
 have e:mF .N=mF g:=by
  funext s;unfold mF;calc foldl_eq _ _ λl c _=>?_;rw[CK];cases cy g c with
  |none=>rfl
  |some y=>cases y with
   |non b=>change Vaglrc.union (dH .N b) l=_;rw[alN]
   |range d a=>rfl
 unfold bA;rw[e];rfl
def alO s:fj .N s=fj g s:=by
 funext b;unfold fj;congr 1;funext c;rw[CK];cases cy g c with
 |none=>rfl
 |some y=>cases y<;>rfl
def alP{c lo hi}(h:cy g c=.b .fN):(lo,hi)∈dh g:=by
 let G:gA lo hi∈(dQ g<|c/16).rhs:=bb h;unfold dQ at G;split at G
 .simp at G
 .by_cases q:c/16<.bf
  .rw[cK,cf q] at G;show kZ.mpr (.D (wU q) G)
  .rw[cK,iB .a] at G;cases G
def Io(w:.bx) s{k}{p}(R:(dC g)[k]?=.cL):de .N s k=mG g s p:=by
 let m:=bb R;let I:=ve m;let E:TT.cl g p.1=k:=by unfold TT.cl;rw[lY.mpr<|.q p R .ao I];rfl
 unfold de mG;congr 1;funext c;rw[CK];cases e:cy g c with
 |none=>rfl
 |some y=>cases y with
  |non b=>rfl
  |range d a=>
   let f:=alP e;let B:=sN (b:=p.1) w f;let M:=Fe m f (aR p.1) I;rw[E] at B;change(.f8 (TT.cl g d<=k/\k<=TT.cl g a)<|c+1)=.f8 (zC p (d,a)) (c+1);by_cases q:.n (zC p (d,a))
   .rw[.dF,.r<|B.mp (M.mpr<|xY.mp q)]
   .rw[.ff,.hm (q<|xY.mpr (M.mp<|B.mpr z))]
def alQ(w:.bx) s:gQ .N .aN s=oH g s:=by
 unfold gQ oH GP GQ fA;rw[alO];congr 2;apply qr;intro k;rw[bG,bG,v_];by_cases h:k<(.m<|dC g)
 .rw[o6 h,cf h];change .b (de .N s k)=.fU;rw[Io w s<|cf h]
 .rw[iB .dV,iB .a];rfl
def SA(w:.bx):∀f i ks,rE .N .aN f i ks=tD g f i ks
 |0,_,_=>rfl
 |f+1,i,ks=>by
  unfold rE tD;cases ks[i]? with
  |none=>rfl
  |some k=>change(.A _ _ _)=.A _ _ _;rw[CL,alQ w,SA w f]
def alR(w:.bx):lz .N .aN=yH g:=by unfold lz yH;rw[SA w,.bX (g0 .N=g0 g)<|aj _]
open Classical in
def alS:Prop:=∀g,i5 g->.H (lz .N .aN)/\DC g=[-11]\/∃ks,lz .N .aN=.b ks/\DC g=[0,.dq<|mr .N .aN ks]
def SD:∀(l a:.y _),.u5
 |[],_,h,_=>h
 |x::l,a,B,M=>by
  calc SD l (cb a x) (.bS ?_) (.bS (M k<|.fy L));unfold cb at L;split at L
  .show B k L
  .let L|||L:=.c7 L
   .show B k L
   .rw[.d4 L];show M x .di
def SE(Q:et g n):∀f i ks V,(∀k∈ks,ku g k)->rE g n f i ks=.b V->∀k∈V,ku g k
 |0,_,_,_,_,h=>.iL
 |f+1,i,ks,V,h,e=>by
  unfold rE at e;cases L:ks[i]? with
  |none=>rw[L] at e;cases e;show h
  |some k=>
   rw[L] at e;let Y:=h k (bb L);simp only at e;split at e
   .cases e
   .show SE Q f (i+1) _ V (SD _ _ h (RS Q (BW Y.me.1)<|HS Q Y)) e
def alT g:ku g [item (g0 g) 0]:=(.c (GX g) λc V=>by rw[dj] at V;subst V;unfold item g0;refine(.c .a (.jR (show(.bf*16+0)% 16=0 by lia)<|eY _)))
def alU(Q:et g n){h b}(d:gc g h b):b=256\/b<n:=by
 induction d with
 |start _=>show .w
 |@first r o U c b Z e J=>show .F .xw
 |hand _ _ _ _ E=>show E
def tV(k:Nat):=.ea (k=256) (-1) .lD
theorem alV(u:i5 g){c b k}(V:c/16<=.bf)(r:TT.Rl g b k):v9 .N c (tV k)↔TT.Due g (c/16) b:=by
 let G:.rG=.bf:=aj _;unfold v9 TT.Due;rw[G];by_cases q:c/16<.bf
 .rw[.dF,.cD,(Sz _).2];let F:oN .N (.kO g<|c/16) (tV k)↔gc .N (.kO g<|c/16) k:=by
   unfold oN tV;let[_,rfl]|||[_,M,_]:=r
   .rw[.gO];show(.da (.aQ<|h.elim And.right λ{y,e,_}=>.a) (.z<|.aY h))
   .rw[.cD];show(.da (.aQ<|h.elim (.aQ .a) λ{y,e,_,f}=>by
     have:k=y:=.a
     rw[this];show f) (.F<|.dB k M h))
  rw[F];show(.da (.aQ<|alM u.cQ (HZ u.cQ) (λi d b a B M=>RZ u.cQ a B M) h b r)<|alL u.cQ h k r)
 .rw[.ff,.hf];unfold tV;let[rfl,rfl]|||[B,M,_]:=r
  .simp
  .rw[.cD];walk<;>intro h<;>lia
open Classical in
theorem SF{g:aQ}(og:i5 g){s:.h}(hs:∀c∈s,c/16<=.bf){b k:Nat}(r:TT.Rl g b k):(.l5 (s.filter (.bg<|.n8 .N c)) (.bg<|.bC (v9 .N c<|tV k)))=(.l5 (yI g s)<|.bN (.bC<|TT.Due g r b)):=by
 unfold yI;rw[JP,aj,z0,z0];congr 1;calc JI λc hc=>?_;let d:=alV og (hs c hc) r;rw[CK];change(.bC _&&_)=(.bC (TT.Due g (c/16) b)&&_);congr 1
 .show .iC d
 .cases cy g c<;>rfl
def SG(u:i5 g){s}(hs:∀c∈s,c/16<=.bf){k:Nat}{p}(R:(dC g)[k]?=.cL):p_ .N .aN s k=tG g s p.1:=by
 let m:=bb R;let I:=ve m;let K:=(.aw R);let d:=HZ u.cQ;let G:.fz p.1=.fg:=lY.mpr (.q p R .ao I);let b:p.1<256:=by let[_,q,f,B,M]:=vd.mp m;have:=(u.cQ q f).2;lia
 have r:TT.Rl g p.1 k:=.F (.g b .a<|by unfold TT.cl;rw[G];rfl);let w:=SF u hs r;rw[.bX (tV k=.lD) .cD] at w;unfold p_ tG;rw[w];congr 1;let e:(∃a:Nat,.lD=a/\a<.aN/\de .N s a≠[])↔.vB:=by
  walk
  .intro[a,e,_,h];have:k=a:=.a
   subst this;rw[Io u.cQ s R] at h;show(.I k p G R h)
  .intro[a,t,B,M,A];rw[G] at B;cases B;rw[R] at M;cases M;show(.dB k (by rw[v_];show K)<|by rw[Io u.cQ s R];show A)
 by_cases q:.vB
 .rw[.dF,.r<|e.mpr q]
 .rw[.ff,.hm (q<|e.mp z)]
def SH(u:i5 g){s}(hs:∀c∈s,c/16<=.bf):p_ .N .aN s (-1)=tG g s 256:=by
 let w:=SF u hs (b:=256) (k:=256) .io;rw[.bX (tV 256=-1) .gO] at w;let G:.H (.fz 256):=vg.mpr λp R h=>by let[_,q,f,B,M]:=vd.mp R;have:=(u.cQ q f).2;lia
 unfold p_ tG;rw[w,.x λ{a,e,_}=>.a,.x λ{a,t,h,_}=>by rw[G] at h;cases h]
open Classical in
theorem alW{g:aQ}{n:Nat}(ok:et g n){s:.h}{z:Int}(h1:z≠-1)(h2:∀k:Nat,z=k->¬k<n):p_ g n s z=0:=by
 unfold p_;rw[.x λ{k,e,h,_}=>h2 k e h,JH.mpr λc hc=>by
  rw[decide_eq_true_eq];unfold v9;split
  .rintro(⟨e,_⟩|⟨b,e,hb,f⟩)
   .show h1 e
   .let q|||q:=alU ok f
    .lia
    .show h2 b e q
  .show h1];rfl
def alX:alS:=λg u=>by
 let t:=af6 u.wf u.nons.1 u.rhs;let n:=alR u.cQ;cases e:yH g with
 |none=>rw[e] at t n;show .hl n (by unfold DC;rw[show .H (tableOf g) from t])
 |some a=>
  rw[e] at t n;let[T,l,M,A]:=t;calc .F (.cf a n);let K:=SE u.gr 130 0 _ a (.bS (.jR (.d4 L)<|alT _)) n;let i:∀k∈a,∀c∈.el,c/16<=.bf:=λk L c V=>by rw[<-CL] at V;have:=(HS u.gr (K k L) c V).1;rw[.np (.rG=.bf)<|aj _] at this;show this
  have f:=af7 u.wf u.cQ u.nons.1 A;let F:.n (.nK<|JM g T)↔mr .N .aN a:=by
   rw[f,M];unfold mr;walk
   .intro h k L z;rw[CL];let V:=h .el (.f7 k L);by_cases x:z=-1
    .rw[x,SH u<|i k L];show V 256 .cY
    .by_cases B:∃c:Nat,z=c/\c<.aN
     .let[c,rfl,d]:=B;rw[v_] at d;rw[SG u (i k L)<|cf d];show V _ (.z<|aH.mpr (.cx<|wU d))
     .rw[alW u.gr x λc e h=>B (.g c e h)];lia
   .intro h s H b Y;let[k,L,rfl]:=.Y H;let j:=h k L;rw[CL] at j;let Y|||rfl:=Y
    .let[p,R,rfl]:=.Y Y;let[c,V]:=jW R;rw[<-SG u (i k L) V];show j c
    .rw[<-SH u<|i k L];show j (-1)
  unfold DC;rw[l];change[0,if .n (.nK<|JM g T) then(1:Int) else 0]=_;by_cases q:mr .N .aN a
  .rw[.dF,.r<|F.mpr q]
  .rw[.ff,.hm (q<|F.mp z)]
inductive lB:.bn (.S->.S->z_->Prop)
 |load {ns x:.S}:lB 0 ns x (.load x)
 |signs {ns x:.S}:lB 1 ns x .signs
 |search {a m t:Int} {x:.S}:lB 2 [a,m,t] x (.search a m t)
 |next {a m t:Int} {x:.S}:lB 3 [a,m,t] x (.next a m t x)
 |ways {a:Int} {x:.S}:lB 4 [a] x (.ways a x)
 |core {a:Int} {x:.S}:lB 5 [a] x (.core a x)
 |tally {a m:Int} {x:.S}:lB 6 [a,m] x (.tally a m)
 |widest {a m:Int} {x:.S}:lB 7 [a,m] x (.widest a m)
 |odds {a m:Int} {x:.S}:lB 8 [a,m] x (.odds a m)
 |sure {ns x:.S}:lB 9 ns x .sure
local macro_rules|`(tactic|tm_at $s:str)=>do
 let x:=s.getString
 let n:=Lean.Syntax.mkNumLit (x.drop 1).toString
 if x.startsWith "s1"||x.startsWith "s2" then`(tactic|refine be (k:=false) (XT.of (g7 b9.eq (j8 (i:=1)) (Fi (ef X.gv $n rfl)) (L2.fb _)) rfl) (λz=>nomatch z) (λ_=>?_))
 else if x.startsWith "t1"||x.startsWith "t2" then`(tactic|refine be (k:=true) (XT.of (g7 b9.eq (j8 (i:=1)) (Fi (ef X.gv $n rfl)) (L2.fb _)) rfl) (λ_=>?_) (λz=>nomatch z))
 else Lean.Macro.throwUnsupported
noncomputable def alY(q:Cs):bT:=λb O F=>∃J g i n a x c,b=[.cn,aa n,aM a,aM x]/\O=dB.O i q J g/\i.Ok g/\lB n a x c/\.W<=2000/\∀j:dB,j.Ok (.qm c).1.grammar->∀p,.eg (.m<|.ni c)->F .aG (j.O q J (.qm c).1.grammar++[(p,aM<|.ni c)])
def alZ:.aI [.bk,"call",.bb,.eN] [.bk,"call",.bb,.eN] 109:=.Q
theorem al0(X:.aq l b q):bq P w K l b "answer_call" [.bk,"call",.bb,.eN] (.L<|alY q) 12:=by
 let S:=alZ;calc X.aeq.t S .ri λf v A U s H E o O F Z h=>?_;let[J,g,i,n,r,x,c,rfl,rfl,Q,C,D,k]:=h;cases C with
 |load=>tm_at "t17";show aF (.gl (alh X) (.iO .cn (aM x)<|.ay {J,g,i,x,rfl,rfl,Q,D,.ow<|k j L p d}))
 |signs=>tm_at "s17";tm_at "t18";show aF (.gl (akO X) (.e7 .cn<|.ay {J,g,i,_,_,rfl,rfl,Q,.bW,.ow<|k j L p d}))
 |@search a m t x=>tm_at "s17";tm_at "s18";tm_at "t19";show aF (.gl (akY X) (.iO .cn (aM [a,m,t])<|.ay {J,g,i,_,_,rfl,rfl,Q,(.gs a m t),.ow<|k j L p d}))
 |@next a m t x=>tm_at "s17";tm_at "s18";tm_at "s19";tm_at "t20";show aF (.lx (ak3 X) .cn (.iO (aM [a,m,t]) (aM x)<|.ay {J,g,i,_,_,rfl,rfl,Q,(.fD a m t x rfl D),.ow<|k j L p d}))
 |@ways a x=>tm_at "s17";tm_at "s18";tm_at "s19";tm_at "s20";tm_at "t21";show aF (.lx (akR X) .cn .uf)
 |@core a x=>tm_at "s17";tm_at "s18";tm_at "s19";tm_at "s20";tm_at "s21";tm_at "t22";show aF (.lx (alA X) .cn .uf)
 |@tally a m x=>tm_at "s17";tm_at "s18";tm_at "s19";tm_at "s20";tm_at "s21";tm_at "s22";tm_at "t23";show aF (.gl (ak6 X) .sJ)
 |@widest a m x=>tm_at "s17";tm_at "s18";tm_at "s19";tm_at "s20";tm_at "s21";tm_at "s22";tm_at "s23";tm_at "t24";show aF (.gl (ala X) .sJ)
 |@odds a m x=>tm_at "s17";tm_at "s18";tm_at "s19";tm_at "s20";tm_at "s21";tm_at "s22";tm_at "s23";tm_at "s24";tm_at "t25";show aF (.gl (alu X) .sJ)
 |sure=>tm_at "s17";tm_at "s18";tm_at "s19";tm_at "s20";tm_at "s21";tm_at "s22";tm_at "s23";tm_at "s24";tm_at "s25";show aF (.gl (ak9 X) (.e7 .cn<|.ay {J,g,i,_,DC g,rfl,rfl,Q,(.aY<|alX g Q.og),.ow<|k j L p d}))
def rowOf(h:Bool)(x:.S):=.ea h (.mK::x) []
inductive tX:.S->.ey (.y z_)
 |nil:tX [] []
 |cons {n:Nat} {ns x rest:.S} {c:z_} {cs:.y z_} (hn:n<=9) (hl:.fA=(iU n).1) (hx:(iU n).2=.j->x=[]) (hc:lB n ns x c) (h2:.W<=2000) (r:tX rest cs):tX ((.dZ::ns++rowOf (iU n).2 x)++rest) (c::cs)
def oT:aoG->.y z_->.S
 |_,[]=>[]
 |s,c::a=>(.jf (r9 s c).2)::(r9 s c).2++oT (r9 s c).1 a
def al1 c:PyVaglrh.whole c=c:=by unfold PyVaglrh.whole;split<;>rfl
def CM{F}(h:PyFlat.rows 1 s=.be F t):∃x,F=[x]/\s=.mK::x++t:=by
 cases s with
 |nil=>cases h
 |cons m r=>
  unfold PyFlat.rows PyFlat.row at h;by_cases q:0<=m/\.cl<=.iU
  .simp only[.dF] at h;unfold PyFlat.rows at h;simp only at h;cases h;calc(.bZ ?_);rw[dZ,wM q.2,i9 q.1,rX,wN]
  .simp only[.ff] at h;cases h
def rows0{F}(h:PyFlat.rows 0 s=.be F t):F=[]/\s=t:=by cases h;show .bW
def al2{c}(h:PyFlat.call uy (p::r)=.be c t)(J:.n (aoH c)):∃n ns x k,n<=9/\.fA=(iU n).1/\((iU n).2=.j->x=[])/\lB n ns x k/\.W<=2000/\apz c=.fg/\p::r=(.dZ::ns++rowOf (iU n).2 x)++t:=by
 unfold PyFlat.call at h;simp only at h;let o:∀(n m:Nat),uy p=.be n m->∃F,c=(p::r.take n)::F/\n<=.iU/\PyFlat.rows m (r.drop n)=.be F t:=λn m e=>by
  rw[e] at h;simp only at h;by_cases q:.iU<n
  .rw[.dF] at h;cases h
  .rw[.ff] at h;cases C:PyFlat.rows m (r.drop n) with
   |none=>rw[C] at h;cases h
   |some y=>let[F,B]:=y;rw[C] at h;cases h;show(.dB F .a rfl)
 let H:uy p≠none:=λe=>by rw[e] at h;cases h
 let s:∀x:.S,(∀b:Bool,.e2 b (.iZ .W 2000)->.W<=2000):=λx b Y=>by have:=(Bool.and_eq_true_iff.mp Y).2;show .i9 this
 by_cases U:p=0
 .subst U;let[F,rfl,_,A]:=o 0 1 rfl;let[x,rfl,P]:=CM A;calc{0,[],x,_,.a,rfl,.aV,.load,s x _ J,rfl,?_};rw[.l3<|r=.mK::x++t];rfl
 by_cases w:p=1
 .subst w;let[F,rfl,_,A]:=o 0 0 rfl;let[rfl,P]:=rows0 A;calc{1,[],[],_,.a,rfl,.hI,.signs,.f,rfl,?_};rw[.l3<|r=t];rfl
 by_cases v:p=2
 .subst v;let[F,rfl,K,A]:=o 3 0 rfl;let[rfl,P]:=rows0 A;match r,K with
  |a::b::d::D,_=>calc{2,[a,b,d],[],_,.a,rfl,.hI,.search,.f,rfl,?_};rw[.l3<|D=t];rfl
 by_cases T:p=3
 .subst T;let[F,rfl,K,A]:=o 3 1 rfl;let[x,rfl,P]:=CM A;match r,K with
  |a::b::d::D,_=>let J:.e2 (uz a) (uz b&&(uz d&&.s6)):=J;simp only[eG,decide_eq_true_eq] at J;calc{3,[a,b,d],x,_,.a,rfl,.aV,.next,J.2.2.2.2,rfl,?_};rw[.l3<|D=.mK::x++t];rfl
 by_cases j:p=4
 .subst j;let[F,rfl,K,A]:=o 1 1 rfl;let[x,rfl,P]:=CM A;match r,K with
  |a::D,_=>let J:.e2 (uz a) .s6:=J;simp only[eG,decide_eq_true_eq] at J;calc{4,[a],x,_,.a,rfl,.aV,.ways,J.2.2,rfl,?_};rw[.l3<|D=.mK::x++t];rfl
 by_cases g:p=5
 .subst g;let[F,rfl,K,A]:=o 1 1 rfl;let[x,rfl,P]:=CM A;match r,K with
  |a::D,_=>let J:.e2 (uz a) .s6:=J;simp only[eG,decide_eq_true_eq] at J;calc{5,[a],x,_,.a,rfl,.aV,.core,J.2.2,rfl,?_};rw[.l3<|D=.mK::x++t];rfl
 by_cases i:p=6
 .subst i;let[F,rfl,K,A]:=o 2 0 rfl;let[rfl,P]:=rows0 A;match r,K with
  |a::b::D,_=>calc{6,[a,b],[],_,.a,rfl,.hI,.tally,.f,rfl,?_};rw[.l3<|D=t];rfl
 by_cases u:p=7
 .subst u;let[F,rfl,K,A]:=o 2 0 rfl;let[rfl,P]:=rows0 A;match r,K with
  |a::b::D,_=>calc{7,[a,b],[],_,.a,rfl,.hI,.widest,.f,rfl,?_};rw[.l3<|D=t];rfl
 by_cases f:p=8
 .subst f;let[F,rfl,K,A]:=o 2 0 rfl;let[rfl,P]:=rows0 A;match r,K with
  |a::b::D,_=>calc{8,[a,b],[],_,.a,rfl,.hI,.odds,.f,rfl,?_};rw[.l3<|D=t];rfl
 by_cases l:p=9
 .subst l;let[F,rfl,_,A]:=o 0 0 rfl;let[rfl,P]:=rows0 A;calc{9,[],[],_,.a,rfl,.hI,.sure,.f,rfl,?_};rw[.l3<|r=t];rfl
 .exfalso;apply H;unfold uy;simp[U,w,v,T,j,g,i,u,f,l]
def SI:∀f l cs (s:aoG),PyFlat.calls uy f l=.b cs->.n (cs.all aoH)->∃ks,tX l ks/\.gF=cs.length/\U7 (PyFlat.played JW s cs)=oT s ks
 |f,[],cs,s,h,_=>by unfold PyFlat.calls at h;cases h;show(.fG [] .nil)
 |0,p::r,cs,s,h,_=>by unfold PyFlat.calls at h;cases h
 |f+1,p::r,cs,s,h,J=>by
  unfold PyFlat.calls at h;cases e:PyFlat.call uy (p::r) with
  |none=>rw[e] at h;cases h
  |some y=>
   let[c,t]:=y;rw[e] at h;simp only at h;cases C:PyFlat.calls uy f t with
   |none=>rw[C] at h;cases h
   |some a=>
    rw[C] at h;cases h;rw[TU,eG] at J;let[n,i,x,k,B,M,A,P,K,d,H]:=al2 e J.1;let[ks,g,v,z]:=SI f t a (r9 s k).1 C J.2;refine(.jM (k::ks) ?_<|by simp[v])
    .rw[H];show .cons B M A P K g
    .let b:JW s c=((r9 s k).1,(r9 s k).2):=by unfold JW;rw[d];rfl
     unfold PyFlat.played U7 oT;rw[lK,b];change(.jf (r9 s k).2)::(r9 s k).2++U7 (PyFlat.played JW (r9 s k).1 a)=_;rw[z]
def al3(h:.n (JX l)):∃ks,tX l ks/\.gF<=60/\JY l=oT rZ ks:=by
 unfold JX aoI at h;unfold JY aoI;cases e:PyFlat.calls uy .ax l with
 |none=>rw[e] at h;cases h
 |some a=>rw[e] at h;simp only at h|-;let I:a.map PyVaglrh.whole=a:=.aA (dG λc _=>al1 c) (wY a);rw[I] at h|-;rw[eG] at h;let J:=h.2;unfold apA at J;rw[eG] at J;let[ks,B,M,A]:=SI .ax l a rZ e J.1;show(.q ks B (by rw[M];show .i9 h.1) A)
noncomputable def Ip(q:Cs):bT:=λb O F=>O=[]/\∃l a,b=[.mP l]/\tX l a/\.bE<=60/\.ax<=16000/\∀p,F .aG [(p,aM<|oT start a)]
def al4:.aI ["calls",.bk,"answered","at","call","behind",.bb,.eN,"answer"] ["calls"] 110:=.Q
def SJ{l a b c:.S}{i j}(h:l=a++(b++c))(hi:i=.bE)(I:j=i+.cU):jE (.bA .cJ) (.b i) (.b j)=b.map .cJ:=by subst h hi I;rw[NS,<-uk,<-qo,Ji,aoA,zx]
def SK{b:Int}{i}(h:l=a++b::c)(hi:i=.bE):l[i]?=.b b:=by rw[h,hi];simp
def al5(X:.aq mg I q):bq P w K mg I "answers" ["calls"] (.L<|Ip q) 13:=by
 let[fa,t,vs,F]:=X.F_;let S:=al4;calc X.aer.t S .pm .ja;let[rfl,l,ks,rfl,N,k60,ll,k]:=h;calc .ba 1 (aaT (akB X) .az<|.ct [] [] λJ=>(.ct J rfl λi Q=>.iM));calc .j2 2 λY=>?_;calc .hy 3 (aa 0);calc .oc .gF (λy u O'=>∃(o G:.S) (R:.y z_) (g:aQ) (i:dB) (C:.S),y=R.length/\l=o++G/\tX G R/\i.Ok g/\oT start ks=C++oT .cR R/\C.length+R.length*100001<=6000060/\u=[.b<|.mP l,.K J,.K Y,.J .dh,none,none,none,none,none]/\O'=dB.O i q J g++[(Y,aM C)]) {[],l,ks,_,i,[],rfl,rfl,N,Q,rfl,.dV,rfl,by simp[aM]} ?_;intro y _ _ [o,G,R,g,i,C,rfl,d,N,Q,ea,la,rfl,rfl];refine(.q (.ai .dh .ax) (XT.of (g7 (b9.lt (i:=(o.length:Int)) (j:=(l.length:Int))) .e (acv .bo .e)<|fb _) .f) .M .M)
 .cases N with
  |nil=>have:=.ch;rw[d] at this;simp at this
  | @cons n m x G c cs hn RE D V M r=>
   let B:l=o++.dZ::(m++(rowOf (iU n).2 x++G)):=by rw[d];simp
   calc .cV 4 (aa n) (Oc (k:=.dh) .e .e<|SK B rfl);calc .cV 5 (aa<|.dh+1+.gH) (.bi (qN (i:=(o.length:Int)+1) (j:=(.cg (iU n).1)) .e<|acs F hn .e)<|by rw[<-RE];simp[aa]);calc .cV 6 (aM m) (.bi (XE.aB<|Od (ns:=l) (l:=.b (.cj<|.dh+1)) (h:=.b (.cj<|.dh+1+.gH)) .e (.qG<|XV _ _ _ _ _) (.qG<|XV _ _ _ _ _) .bs) (.kB<|SJ (a:=o++[.dZ]) (b:=m) (c:=rowOf (iU n).2 x++G) (by rw[B];simp) .f rfl));calc .hy 7 (aM []);refine .n6 (iU n).2 (λu O'=>∃a3:Nat,u=[.b<|.mP l,.K J,.K Y,.J a3,.J n,.J .s4,.b<|aM m,.b<|aM x,none]/\O'=dB.O i q J g++[(Y,aM C)]) (iM<|acu F hn .e) .M ?_
   .let T:l=(o++.dZ::m)++.mK::(x++G):=by rw[B,z];simp[rowOf]
    calc .hy 3 (aa<|.dh+1+.gH+1);calc .cV 5 (aa<|.dh+1+.gH+1+.W) (.bi (qN (i:=(.cj<|.dh+1+.gH+1)) (j:=.mK) .e (Oc (k:=.dh+1+.gH) .e .e<|SK T .dV))<|by simp[aa]);calc .cV 7 (aM x) (.bi (XE.aB<|Od (ns:=l) (l:=.b (.cj<|.dh+1+.gH+1)) (h:=.b (.cj<|.dh+1+.gH+1+.W)) .e (.qG<|XV _ _ _ _ _) (.qG<|XV _ _ _ _ _) .bs) (.kB<|SJ (a:=o++.dZ::(m++[.mK])) (b:=x) (c:=G) (by rw[T];simp) .dV rfl));calc aD (.D (.iY<|.dh+1+.gH+1) ?_);rw[z,.lX<|(.m<|rowOf true x)=.W+1,.dg<|.dh+1+.gH+(.W+1)=.dh+1+.gH+1+.W];tm_at "fg"
   .show(.g .dh (by rw[z,D z];rfl) rfl)
   .intro _ _ [a3,rfl,rfl];calc .ba 8 (.lx (al0 X) .cn (.gz (aa n)<|.iO (aM m) (aM x) {dB.O i q J g,[(Y,aM C)],rfl,J,g,i,n,m,x,c,rfl,rfl,Q,V,M,λj L p hlen=>?_}));rw[dS] at la;calc .pH Y (gT _ .di) (.dH (.ip<|(.ni c).map .cJ) (mW .bo (w:=.aG) .e (.ge p<|by simp[aM]))<|.cX _ (.ki .bF) (by rw[aj,oV];lia) ?_);calc b_ (.o0 Y (gT _ .di) (.g1 .aG<|.fK _ ((.ni c).map .cJ) (.ge p<|by simp[aM]) (.ki .bF) (by rw[ez,aj,aj,oV];simp;lia) ?_));calc .hy 3 (aa .s4);refine .gi ((dB.O j q J (.qm c).1.grammar++[(Y,aM .s5)])++[(p,aM<|.ni c)]) ?_<|ar.drop (aD<|.D {cs.length,.f,o++(.dZ::m++rowOf (iU n).2 x),G,cs,(.qm c).1.grammar,j,.s5,rfl,by rw[d];simp,r,L,by rw[ea];simp[oT],.dV,rfl,rfl} ?_)
    .rw[eZ<|dB.O j q J _,eZ<|dB.O j q J _,show aM .s5=.eK (C.map .cJ++[.ip<|(.ni c).map .cJ]) ((.ni c).map .cJ) by simp[aM]];show qp _ (.swap _ _ _)
    .rw[show(.m<|o++(.dZ::m++rowOf (iU n).2 x))=.s4 by simp;lia];tm_at "fg"
 .cases N with
  |nil=>rw[.g7<|oT .cR []=[],eS] at ea;subst ea;show .f3 (.p Y) (.q [(Y,_)] (dB.O i q J g) fX<|k Y)
  |cons=>have:=.cr;rw[d] at this;simp at this
end Tw
end
section
open PySem PySem.Spec PyProof.Rows L2
open PySem.W (WData)
namespace Tw
end Tw
namespace L2
open PySem PySem.Spec PyProof.Rows
open PySem.W (WData Codec OpenSpec Well WellAll ReadsW ReadsAllW)
mutual
inductive Dw(K:bj)(H:Hp):V->r_->Prop
 |non:Dw K H .non .cy
 |bl (b:Bool):Dw K H (.bl b) (.eQ b)
 |int (i:Int):Dw K H .do .do
 |str (x:Str):Dw K H (.str x) (.str x)
 |cQ (b:.eR UInt8):Dw K H (.cQ b) (.bytes b.toList)
 |lst {a:af} {xs:.au} {ds:.y r_}:bf K H a xs->tY K H xs ds->Dw K H .T (.list ds)
 |tup {a:af} {xs:.au} {ds:.y r_}:c6 K H a xs->tY K H xs ds->Dw K H .T (.tuple ds)
inductive tY(K:bj)(H:Hp):.au->.ey (.y r_)
 |nil:tY K H [] []
 |cons {v:V} {vs:.au} {d:r_} {ds:.y r_}:Dw K H v d->tY K H vs ds->tY K H (v::vs) (d::ds)
end
def SM{K}{H}:∀ns:.S,tY K H .pl (.gv Aa)
 |[]=>.nil
 |n::r=>.bj (.u n)<|SM r
section
variable{K:bj}
def al6(y:dI P w H h)(U:K.In h)(q:bf K H a F):∃g o n,aV F g/\.cT a=.v/\o.cls=.l1/\.ce=.seq .ck n:=by
 let q|||[o,g,n,e,V,_,N,_,p]:=q
 .let[_,g,n,p,e]:=(.bX (eA P w H h a<|.Z F)<|q.ok y);show(.fD g _ n p e rfl)
 .show .yp
def al7(y:dI P w H h)(U:K.In h)(q:c6 K H a F):∃g o n,aV F g/\.cT a=.v/\o.cls=.fu/\.ce=.seq .ck n:=by
 let q|||[o,g,n,e,V,N,_,p]:=q
 .let[_,g,p,o,e,V,n,N]:=(.bX (eA P w H h a<|.am F)<|q.ok y);show#[g,o,n,p,e,V,N]
 .show .yp
mutual
theorem Dw.reads(aL:dI P w H h)(KX:K.In h):∀(d:r_) (v:V) (u:aw),Dw K H v d->.bT v->∃as,ReadsW R cl h u d as
 |.none,_,_,x,r=>.sF ReadsW.none
 |.bool b,_,_,x,r=>.sF<|ReadsW.bool b
 |.int i,_,_,x,r=>.su<|ReadsW.int i t
 |.str s,_,_,x,r=>.su<|ReadsW.str s t
 |.bytes b,_,_,x,r=>.su<|ReadsW.bytes _ t
 | .list ds,_,_,x,r=>by
  cases x with
  |lst hs ha=>cases r;let[yi,o,n,rv,ho,hc,hd]:=al6 aL KX hs;let[as,hr]:=Dw.readsAll aL KX ds _ yi ha rv;show(.cz<|ReadsW.list ho hc hd hr)
 | .tuple ds,_,_,x,r=>by
  cases x with
  |tup hs ha=>cases r;let[yi,o,n,rv,ho,hc,hd]:=al7 aL KX hs;let[as,hr]:=Dw.readsAll aL KX ds _ yi ha rv;show(.cz<|ReadsW.tuple ho hc hd hr)
 |.float _,_,_,x,_=>by cases x
 |.dict _,_,_,x,_=>by cases x
 |.bytearray _,_,_,x,_=>by cases x
 |.set _,_,_,x,_=>by cases x
 |.frozenset _,_,_,x,_=>by cases x
 |.obj _ _,_,_,x,_=>by cases x
theorem Dw.readsAll(aL:dI P w H h)(KX:K.In h):∀(ds:.y r_) (vs:.au) (us:.b1),tY K H vs ds->.dG vs->∃as,ReadsAllW R cl h us ds as
 |[],_,_,x,r=>.sF ReadsAllW.nil
 |d::ds,_,_,x,r=>by
  cases x with
  |cons h1 h2=>
   cases r with
   |cons r1 r2=>let[as,q1]:=Dw.reads aL KX d _ _ h1 r1;let[bs,q2]:=Dw.readsAll aL KX ds _ _ h2 r2;show(.cz<|ReadsAllW.cons q1 q2)
end
end
def SN{P:Params}{h:bI}:∀{vs:.b1} {ds:.y r_},Ab P h vs ds->.bD=ds.length
 |_,_,.nil=>rfl
 |_,_,.cons _ b=>.jg (_+1=_+1)<|SN b
def al8(x:Well P h v (.list ds)):∃a vs,v=.T/\.cT a=.b (.nE<|.seq .hF)/\Ab P h vs ds:=by
 cases x with
 |list l t=>show(.aW _ _ l t)
def SO(x:Ab P h us (d::ds)):∃v vs,us=v::vs/\Well P h v d/\Ab P h vs ds:=by
 cases x with
 |cons a b=>show(.aW _ _ a b)
section
variable{K:bj}
end
def jq(K:bj):=([.h8,.h5]:.a7).filterMap (.ah (.ho<|lD K x))
def al9{K}{x}{c P}(D:x∈([.h8,.h5]:.a7))(h:lD K x=.be c P):P∈jq K:=jS.mpr (.g x D<|by rw[h];rfl)
def Iq{K}{P}(h:P∈jq K):∃x∈([.h8,.h5]:.a7),∃c,lD K x=.be c P:=by let[x,D,e]:=jS.mp h;let[[c,p],L,rfl]:=lG.mp e;show(.q x D c L)
def SQ{p:Params}{h:bI}:∀{ns:.S} {vs:.b1},Ab p h vs (.gv Aa)->hU vs ns
 |[],_,x=>by cases x;show .nil
 |n::ns,_,x=>by
  cases x with
  |cons a b=>cases a;show .cons _ _ (SQ b)
def al_{P}{w}{K:bj}{X mb:.dl}{CX}{k}{fa}{x}{sp}{g:bO}{v0}{ns:.S}{R}{cl:.tV af}{d0}
  (U:K.In g.heap) (SR:g.heap.Ns jr X) (Y:g.heap.Ns zb mb) (hbb:∀x:Str,x≠.oX->mb x=wo x) (al':g.heap.NoLimit) (S:g.gens=.bH)
  (T:∀x∈([.h8,.h5]:.a7),∀c Q,lD K x=.be c Q->.xu) (tk:∀b∈jq K,.H<|.cu b) (nl:.xs)
  (W:Ab w.params g.heap [v0] [.list<|.gv Aa]) (hz:.fA<=bh) (Z:bQ k DE)
  (F:∀i:bI,K.In i->i.Ns jr X->(.a3 (.mW b=.v)<|.ce=.plain->i.get? b=.v)->∃I,jy P w K X i CX k fa I [x] sp/\Binds K I [x] [])
  (Ir:∀(H:Hp) a o,H a=.hA .o9->sp [.T] H (λv H'=>Dw K H' v d0) λ_ _ _=>False)
  (hCX:∀H e J,CX [] H g (λ_ _ _=>False) e J->False):
  qg (ay P w) DE (.call (.p fa)<|.gU [v0]) (λr J=>∃u as,r=.n2 u/\ReadsW R cl J.heap u d0 as/\OldK g.heap J.heap/\J.os=g.os/\wq J.gens) g:=by
 let[_,_,e,hw1,hw2]:=SO W;cases e;let[a,vs,rfl,ha,ama]:=al8 hw1;let hi:=SQ ama;let rv:=AH hi;let l:=hi.length;let tO:∀b∈jq K,.mW b=.b (JZ .bH):=.hx (by let[x,hx,c,e]:=Iq h;show(T x hx c b e).2)
 let nT:.a3 (.mW b=.v) (.ce≠.fields .bH->b∉jq K):=λb o e n h=>by rw[tO b h] at e;cases e;show n rfl
 let aT:a∉jq K:=nT a _ ha .aV;let' H:Hp:=.bw (.A (b∈jq K) (.nh .bH)<|.kZ (b=a/\.H (.cu a)) .xv);let H1:∀b∈jq K,H b=.nh .bH:=.hx (.r h);let H2:.H (.cu a)->H a=.xv:=.aQ (.aA (.x aT) (.r<|.aY h));let E:.bu (b∉jq K) ((b≠a\/.cu a≠none)->.ew):=λb h1 M=>by show .aA (.x h1) (.hm<|M.elim (.bO<|q z.1) (.bO<|q z.2))
 have H4:.j0 (H b=.aJ) (b∈jq K/\u=.gg .bH\/b=a/\.H (.cu a)/\u=.aB (.nE<|.seq .hF) .o9):=.ml (by
  simp only[H] at e;split at e
  .rename_i h;cases e;show .z (.a5 h)
  .split at e
   .rename_i h;cases e;show .F (.g h.1 h.2 rfl)
   .cases e)
 have y:dI P w H g.heap:=.ml (by
  let[h,rfl]|||[rfl,_,rfl]:=H4 b u e
  .show tO b h
  .show(.ab ha (by rw[aj];show hz) vs _ rv ha))
 have ka:.H (.cu a):=by
  cases hk:.cu a with
  |none=>rfl
  |some o=>let e:=U a o hk;rw[ha] at e;cases e;show .hs (nl a _ hk)
 have nD:∀{b:af} {o:Obj},.mW b=.v->(∀es n,.ce≠.seq es n)->.ce≠.fields .bH->.ew:=λ{b o} e n1 n2=>E b (nT b o e n2) (.z (.s<|by subst z;rw[ha] at e;cases e;show n1 _ _ rfl));let j:∀{b:af} {o:Obj},.mW b=.v->.ew->(pz g.heap H).get? b=.v:=λe n=>Vq e n;let N:∀{b:af} {m:.dl},g.heap.Ns b m->(pz g.heap H).Ns b m:=λ{b m} #[o,es,ep,e,d,r]=>(.ab o es ep (j e (nD e (λ_ _ z=>.rv)<|.s .rv)) d r);let nK:.a3 (.cu b=.v) .ew:=.bQ (E b .zo<|by
  by_cases z:b=a
  .subst z;show .F (by rw[e];show .aV)
  .show .z z);let O:K.In (pz g.heap H):=.bQ (j (U b o e)<|nK b o e);let hM:Mod K X (pz g.heap H):=(.q O (N SR) (.g mb (N Y) hbb)<|let⟨mc,h1,M⟩:=al';(.g mc (N h1) M));let e0:sq P w K X (pz g.heap H) DE [] g H:={rfl,hM,.bQ<|Vr e,CS<|Vp _ _,.aF,(.a4<|nomatch Y),y,.of_eq S,λx hx c Q e=>(.q .bH (H1 Q<|al9 hx e) .aF λp cv z=>nomatch z)};let[I,hF,hB]:=F _ O (N SR) λb o e d=>j e (nD e (λ_ _ z=>.rv) (.s .rv));calc wD (hF.run DE [] g H (.gU [.T]) [.T] [.T] _ _ Z e0 (hB g [.T] U rfl) (.bj rfl .nil) (Ir H a _<|H2 ka)) λr J x=>?_;cases r with
 |error e=>show(hCX H e J x).elim
 |ok fl=>
  cases fl with
  |next=>show rL x
  |brk=>show rL x
  |cont=>show rL x
  |ret u=>
   obtain⟨v,H',os,B,G,D,r',q⟩:=x;let s:.a3 (b∉jq K) (.mW b=.v->J.heap.get? b=.v):=λb o nb e=>by
    cases q2:H b with
    |none=>show G.keep b o e q2 .aV .aV
    |some u2=>
     let[h,_]|||[_,_,rfl]:=H4 b u2 q2
     .show .aa h nb
     .let L:=(y b _ q2).1;rw[e] at L;cases L;show(D b _<|G.pv b _ _ q2).1
   let KX':K.In J.heap:=.bQ (s b o .zo<|U b o e);let[as,SS]:=Dw.reads (R:=R) (cl:=cl) D KX' d0 v u q r';let t:.bu (b∈jq K) (∃A,J.heap.get? b=.b {cls:=.cy,data:=.fields<|.bH++A}):=.hx (by let[A,e,_]:=G.px b _ (H1 b h);show(.c A<|D b _ e))
   refine{u,as,rfl,SS,(.c (.bQ ?_)<|.bQ ?_),os,B}
   .by_cases h:b∈jq K
    .let[A,C]:=t b h;let[x,hx,c,f]:=Iq h;let[t1,t2]:=T x hx c b f;rw[t2] at e;cases e;show .F (.z<|.ab (t1.tab t2).isCodeTable rfl .bH A rfl C)
    .show .z (s b o h e)
   .by_cases h:b∈jq K
    .let[A,C]:=t b h;show(.cz C)
    .show(.c o<|s b o h e)
end L2
namespace Tw
end Tw
namespace L2
open PySem PySem.Spec PyProof.Rows
open PySem.W (WData Codec OpenSpec Well WellAll ReadsW ReadsAllW)
abbrev rJ:=aoJ
def amb{k}{q}{l:.a7}{XP:.dl->bI->Prop}{O:ew->bI->Prop}{d:DefRec}{K:Params->bj}{sp}{x}
  (t:.n rJ.wellSaid) (Z:bQ k DE) (hY:∀w h,O w h->(.lf).In h)
  (hT:∀y∈([.h8,.h5]:.a7),∃d,(recsOf q).find? (λe=>e.name==y)=.b d) (tk:∀w h,O w h->∀b∈jq .lf,.H ((.lf).lookup b)) (P:∀w h,O w h->.a3 ((.lf).lookup b=.v) (o.cls≠.l1))
  (F:∀w (X:.dl) fa h,O w h->(.lf).In h->h.Ns jr X->X d.name=.K fa->(∀y∈([.h8,.h5]:.a7),∀c Q,lD .lf y=.be c Q->zM h c Q/\h.BuiltinsAt X Q)->
   ∀i:bI,(.lf).In i->i.Ns jr X->.vA->∃I,jy rJ.prog w .lf X i lR k fa I [x] sp/\Binds .lf I [x] [])
  (Ir:∀K (H:Hp) a o (ns:.S),.n (JX ns)->.fA<=16000->H a=.hA .o9->sp [.T] H .xt λ_ _ _=>False):
  PySem.W.WalkOS q l XP O rJ d [] (λf vs=>PySem.call f vs):=by
 intro w s g X mb G Y fa o pm cd r dV kV ho N Bz hD Iu S n vals D amc ao_ SS W hlo;let[a,L,C]:=PySem.W.os_pre_some amc;let[e3,SU]:=Codec.encAll_of_decAll rJ.args n a L;subst e3;let KX:=hY w _ Y;let tb:∀y∈([.h8,.h5]:.a7),∀c Q,lD .lf y=.be c Q->.xu:=λy T c Q e=>by let[d,N]:=hT y T;show PySem.W.tab_of G.T KX N e
 have bmA:∀Q,.mW Q=.b (JZ .bH)->g.heap.BuiltinsAt X Q:=λQ e=>by
  let[bm,ob,b1,b2,E,b4,p,B]:=G.T.bmain;refine#[bm,ob,b1,b2,.M,.M,E,b4,p,B]
  .let[o,es,ep,e',U,_]:=G.T.g;rw[z,e'] at E;cases E;rw[U] at B;cases B
  .rw[z,e] at E;cases E;cases b4
 let hF:=F w X fa _ Y KX G.T.g Iu λy T c Q e=>(.c (tb y T c Q e).1<|bmA Q (tb y T c Q e).2);let vl:=SN W;let[v0,_,rfl,w1,m]:=SO (d:=.list<|a.1.map Aa) (ds:=[]) W;cases m;let ql:.ae a.1 16000:=by let q:.e2 (Codec.inLen 0 16000 a.1&&a.1.all (Codec.inInt (Int.negSucc 999999999999999999)<|Int.ofNat 1000000000000000000)) true:=SU;rw[eG,eG] at q;show(Codec.inNat_iff.mp q.1.1).2
 refine PySem.W.enter_call<|wD (al_ (R:=[]) (cl:=classAt .R) (d0:=rJ.ret.enc<|Codec.app rJ.args rJ.f a) (ns:=a.1) KX G.T.g G.T.b G.T.builtins G.T.nolimit S tb (tk w _ Y) (P w _ Y) W (.gK ql) Z hF
  (λH b o j=>Ir .lf H b o a.1 C ql j) λH e J z=>z) λr' J hq=>?_;let[u,as',rfl,h1,M,A,h4]:=hq;show(.q (.z {u,_,as',rfl,.hI,h1,(OpenSpec.post_iff t SU _ _).mpr rfl,.s (Bool.noConfusion<|show .gN from z)}) M A h4)
end L2
namespace Tw
def amd{K}{H}{a}{o}{ns}{E}(A:.n (JX ns))(d:.fA<=16000)(h:H a=.hA .o9):lift (Ip q) [.T] H .xt E:=by
 let[g,N,c,e]:=al3 A;refine{upd (λ_=>none) a<|.aB o .o9,[.mP ns],[],λw f=>∃p,w=.aG/\f=[(p,aM<|oT rZ g)],λb u z=>?_,(.ft λ_ _ m=>nomatch m),(.aW _ _ (.gE a _ rfl (.hl dk .aF) o) rfl),#[rfl,ns,g,rfl,N,c,d,.bs],λv w f j H' _ _ L r k=>?_}
 .by_cases Y:b=a
  .subst Y;rw[dk] at z;cases z;show h
  .rw[aY Y] at z;cases z
 .let[p,rfl,rfl]:=k;let[_,T,B,_,l,rfl,i]:=L.2 p _ .di;obtain rfl:=i.flat (FT _);cases(show v=.aG from r);rw[e];show .lst (bf.of B) (SM _)
section
variable{K:bj}{st:gu}{kV doc pm f6 ct:aw}
abbrev Iv(x q:Str)(st:gu)(G:.a7):=∀kV doc pm L f6 ct a,.bE=.dW->zi (qi x q (qC st) (jd st) (aI st) .cy kV doc pm L f6 ct) (.gU a)=.aL (G.zip a)
def ame(X:K.In h)(G:h.Ns jr d)(a:J0 K jr x=.m3 f)(l:.cu f=.gr o od (.func<|qi x x (qC st) (jd st) (aI st) .cy kV doc pm L f6 ct) u)(c:.n (zk K f6 x))(k:.n (oX K .ej))(b:Iv x x st e):Def K d x st e:=
 have F:=EB l c k;(.cX f F (DF X G a)<|F.binds b)
def amf(a:qf K .gW m=.m3 f)(l:.cu f=.gr o od (.func<|qi m q (qC st) (jd st) (aI st) .cy kV doc pm L f6 ct) u)(c:.n (zk K f6 q))(i:.n (CQ K .ej))(k:.n (oX K .ej))(b:Iv m q st G):dv K C q m st G:=
 have F:=EB l c k;(.cX f F (.g a i k)<|F.binds b)
def amg(a:.tx)(l:.cu f=.gr o od (.func<|qi "__init__" q (qC st) (jd st) (aI st) .cy kV doc pm L f6 ct) u)(c:.n (zk K f6 q))(i:.n (CQ K .ej))(k:.n (oX K .ej))(m:.n (Ti K C))(g:.n (oX K .gW))(b:Iv "__init__" q st G):mQ K C q st G:=
 have F:=EB l c k;(.cX f F (.q m a i g)<|F.binds b)
def Iw{I}{vs}{C}{p}{Z}(a:J0 K jr x=.m3 f)(l:.cu f=.gr o od (.func I) u)(e:I.code=.p c)(J:.zn)(v:vs[11]?=.K Q):lD K x=.be c Q:=by unfold lD;rw[a];simp only[l,e,J,v]
def amh(B:lD K .h8=.be Q p1)(M:lD K .h5=.be r p2)(m:.H (.cu p1))(y:.H (.cu p2)):∀b∈jq K,.H (.cu b):=.a4 (by
 let[x,D,c,e]:=Iq Y;let rfl|||D:=.c6 D
 .rw[B] at e;cases e;show m
 .rw[.d4 D,M] at e;cases e;show y)
def SV{N:Type}{a}{o}:∀{l:.co Nat N},l.lookup a=.v->(a,o)∈l
 |(k,v)::l,e=>by
  rw[C4] at e;split at e
  .rename_i z;cases e;rw[beq_iff_eq.mp z];show .di
  .show .fy (SV e)
def ami(h:.n (K.all (.as<|!(p.2.cls==nE .dI)))):.xs:=λb o e z=>by have:=wJ.mp h (b,o) (SV e);rw[show((b,o):af×Obj).2.cls=.l1 from z] at this;show .ng this
def amj{I}{vs}{C}{p}{Z}(F:x∈([.h8,.h5]:.a7))(X:K.In h)(w:K.In i)(G:h.Ns jr D)(T:∀y∈([.h8,.h5]:.a7),∀c Q,lD K y=.be c Q->zM h c Q/\h.BuiltinsAt D Q)(O:.vA)
  (a:J0 K jr x=.m3 f) (l:.cu f=.gr P od (.func I) u) (e:I.code=.p c) (J:.zn) (v:vs[11]?=.K Q):BC K D i x c Q:=by let t:=Iw a l e J v;let[S,k,o,H,N,E,n,M,B,s,L]:=T x F c Q t;calc{F,{f,P,od,I,u,DF X G a,l,e},t,?_,k,o,H,N,E,n,O _ _ M L,B,s,L};let[q,A,g,m,R,U,z,j,r,V,d]:=S;rw[X _ _ J] at V;cases V;show{_,A,g,m,R,U,z,j,r,w _ _ J,d}
end
def amk{K}{mg}{h}{b}{ep}{r}{T}{t0 U}{m0}{d0}{s0}{I}{B}{t1 g}{m1}{F}{j}{y}{M}{t2 u2}{m2}{v}{s2}{o}{A}{t3 u}{d}{d3}{f}{Z}{h4}{t4 u4}{m4}{d4}{W}{S}{h5}{t5 u5}{m5}{d5}{s5}{J}{h6}{t6 u6}{m6}{d6}{s6}{N}{H}{t7 u7}{m7}{d7}{s7}{O}{Y}{t8 u8}{D}{d8}{s}{z}{h9}{t9 u9}{m9}{d9}{s9}
  (X:K.In h) (G:h.Ns jr mg) (a:J0 K jr "FORMS"=.m3 b) (l:.cu b=.gr (.type .f6) none (.t2<|.eA [(.g T (.av 0 t0)<|.p r),(.g B (.av 1 t1)<|.p I),(.g M (.av 2 t2)<|.p y),(.g A (.av 3 t3)<|.p o),(.g h4 (.av 4 t4)<|.p Z),(.g h5 (.av 5 t5)<|.p S),(.g h6 (.av 6 t6) .cn),(.g H (.av 7 t7)<|.p N),(.g Y (.av 8 t8)<|.p O),(.g h9 (.av 9 t9)<|.p z)]) .bH)
  (V:[T,B,M,A,h4,h5,h6,H,Y,h9]=([0,1,2,3,4,5,6,7,8,9]:.S).map hashInt)
  (c:.cu r=.gr .fu d0 (.j7 [.av 0 U,.eQ true] m0) s0)
  (l1:.cu I=.gr .fu F (.j7 [.av 0 g,.eQ .j] m1) j)
  (Q:.cu y=.gr .fu v (.j7 [.av 3 u2,.eQ .j] m2) s2)
  (l3:.cu o=.gr .fu d3 (.j7 [.av 3 u,.eQ true] d) f)
  (l4:.cu Z=.gr .fu d4 (.j7 [.av 1 u4,.eQ true] m4) W)
  (q:.cu S=.gr .fu d5 (.j7 [.av 1 u5,.eQ true] m5) s5)
  (k:.cu J=.gr .fu d6 (.j7 [.av 2 u6,.eQ .j] m6) s6)
  (l7:.cu N=.gr .fu d7 (.j7 [.av 2 u7,.eQ .j] m7) s7)
  (m:.cu O=.gr .fu d8 (.j7 [.av 2 u8,.eQ .j] D) s)
  (p:.cu z=.gr .fu d9 (.j7 [.av 0 u9,.eQ .j] m9) s9):vz K mg iU b (λn=>.fX [r,I,y,o,Z,S,J,N,O,z] n) [(aW 0,.p r),(aW 1,.p I),(aW 2,.p y),(aW 3,.p o),(aW 4,.p Z),(aW 5,.p S),(aW 6,.cn),(aW 7,.p N),(aW 8,.p O),(aW 9,.p z)] where
 mg:=DF X G a
 di:=λP w h' x=>by
  simp only[bx,zR,y9,and_true] at V;let[e0,L,C,e3,R,E,e6,e7,e8,i]:=V;refine{_,_,ep,x _ _ l,(.iY rfl),rfl,λe he=>?_,?_,by change(.a9 ([aW 0,aW 1,aW 2,aW 3,aW 4,aW 5,aW 6,aW 7,aW 8,aW 9]:.y Key));decide}
  .simp only[List.mem_toArray,cw,zH,or_false] at he;rcases he with rfl|rfl|rfl|rfl|rfl|rfl|rfl|rfl|rfl|rfl
   .show(.aX (aW 0) e0)
   .show(.aX (aW 1) L)
   .show(.aX (aW 2) C)
   .show(.aX (aW 3) e3)
   .show(.aX (aW 4) R)
   .show(.aX (aW 5) E)
   .show(.aX (aW 6) e6)
   .show(.aX (aW 7) e7)
   .show(.aX (aW 8) e8)
   .show(.aX (aW 9) i)
  .show .ox rfl rfl rfl rfl (.ox rfl rfl rfl rfl (.ox rfl rfl rfl rfl<|.ox rfl rfl rfl rfl (.ox rfl rfl rfl rfl<|.nil)))
 at_:=λn t=>by
  match n,t with
  |0,_=>rfl
  |1,_=>rfl
  |2,_=>rfl
  |3,_=>rfl
  |4,_=>rfl
  |5,_=>rfl
  |6,_=>rfl
  |7,_=>rfl
  |8,_=>rfl
  |9,_=>rfl
 tu:=λn t=>by
  match n,t with
  |0,_=>show(.ht _ m0 U c)
  |1,_=>show(.ht _ m1 g l1)
  |2,_=>show(.ht _ m2 u2 Q)
  |3,_=>show(.ht _ d u l3)
  |4,_=>show(.ht _ m4 u4 l4)
  |5,_=>show(.ht _ m5 u5 q)
  |6,_=>show(.ht _ m6 u6 k)
  |7,_=>show(.ht _ m7 u7 l7)
  |8,_=>show(.ht _ D u8 m)
  |9,_=>show(.ht _ m9 u9 p)
end Tw
end
end
open PySem PySem.W PyProof.Rows L2 Tw
set_option Elab.async false
set_option hygiene false
local macro_rules| `(tactic|tm_at "bn") => `(tactic|first
 |exact λ_ _ _ _ _ _ us hl=>match us,hl with|[],_=>rfl
 |exact λ_ _ _ _ _ _ us hl=>match us,hl with|[_],_=>rfl
 |exact λ_ _ _ _ _ _ us hl=>match us,hl with|[_,_],_=>rfl
 |exact λ_ _ _ _ _ _ us hl=>match us,hl with|[_,_,_],_=>rfl
 |exact λ_ _ _ _ _ _ us hl=>match us,hl with|[_,_,_,_],_=>rfl
 |exact λ_ _ _ _ _ _ us hl=>match us,hl with|[_,_,_,_,_],_=>rfl
 |exact λ_ _ _ _ _ _ us hl=>match us,hl with|[_,_,_,_,_,_],_=>rfl)
local macro_rules| `(tactic|tm_at "df") => `(tactic|first
 |exact DF Xb Gb (by k_is)
 |(refine' ame (by assumption) (by assumption) ?a ?l ?c ?k ?b;(case a=>k_is);(case l=>k_is);(case c=>k_is);(case k=>k_is);(case b=>tm_at "bn"))
 |(refine' amf ?a ?l ?c ?i ?k ?b;(case a=>k_is);(case l=>k_is);(case c=>k_is);(case i=>k_is);(case k=>k_is);(case b=>tm_at "bn"))
 |(refine' amg ?a ?l ?c ?i ?k ?mk ?kc ?b;(case a=>k_is);(case l=>k_is);(case c=>k_is);(case i=>k_is);(case k=>k_is);(case mk=>k_is);(case kc=>k_is);(case b=>tm_at "bn"))
 |(refine⟨⟨by k_is,by k_is,by k_is,by k_is⟩, ?_⟩;repeat' (first|refine List.forall_mem_cons.mpr ⟨by unfold L2.mK;k_is, ?_⟩ |exact(λ_ h=>nomatch h)))
 |(refine' ⟨_,_,amj (by decide) X Xb G T pl ?a ?l ?e ?lc ?v⟩;(case a=>k_is);(case l=>k_is);(case e=>rfl);(case lc=>k_is);(case v=>rfl))
 |(refine' ⟨_,_,_,amk Xb Gb ?a ?l ?hh ?l0 ?l1 ?l2 ?l3 ?l4 ?l5 ?l6 ?l7 ?l8 ?l9⟩;(case a=>k_is);(case l=>k_is);(case hh=>decide+kernel);(case l0=>k_is);(case l1=>k_is);(case l2=>k_is);(case l3=>k_is);(case l4=>k_is);(case l5=>k_is);(case l6=>k_is);(case l7=>k_is);(case l8=>k_is);(case l9=>k_is)))
set_option maxRecDepth 100000 in
set_option maxHeartbeats 0 in
theorem PySem.Challenge.cw_twotrees_s01_answers_holds : PySem.Challenge.rw_twotrees_s01_answers.Holds := by
 have e:=Z0k
 w_on;k_headS;(case hw=>exact⟨[.list [.int 1]],by decide+kernel,by decide+kernel⟩)
 k_fillS
 refine L2.amb (k:=13) (x:= "calls") (sp:=Tw.lift (Tw.Ip ⟨638,325,176,389,57,536⟩)) Z0k ⟨rfl,by decide,by decide⟩ (λw h Y=>PySem.W.kIn_of Y) ?T ?tk ?nl ?F ?S
 case T=>
  intro y hy
  rcases cw.mp hy with rfl|hy
  .exact IJ.mp (by decide+kernel)
  .rw[dj.mp hy];exact IJ.mp (by decide+kernel)
 case tk=>
  intro w h Y
  refine' amh (p1:=125) (p2:=402) (Iw ?a ?l ?e ?c ?v) (Iw ?a2 ?l2 ?e2 ?c2 ?v2) (by kernel_rfl) (by kernel_rfl)
  (case a=>k_is);(case l=>k_is);(case e=>rfl);(case c=>k_is);(case v=>rfl)
  (case a2=>k_is);(case l2=>k_is);(case e2=>rfl);(case c2=>k_is);(case v2=>rfl)
 case nl=>exact λw h Y=>ami (by kernel_rfl)
 case S=>exact λK H a o ns ha hl h=>Tw.amd ha hl h
 case F=>
  intro w mg fa h Y X G Iu T base Xb Gb pl
  have Z:Tx rJ.prog w (PySem.Challenge.cw_twotrees_s01_answers_holds.heap_1 w.params) mg base ⟨638,325,176,389,57,536⟩ :=by
   constructor
   .refine⟨λx hx=> ?_,λx i hx=> ?_⟩
    .simp only[cw,zH,or_false] at hx
     rcases hx with rfl|rfl|rfl|rfl|rfl|rfl|rfl|rfl|rfl|rfl|rfl|rfl|rfl|rfl<;>exact PySem.W.mg_none_of Xb Gb (by k_is)
    .simp only[gv,cw,zH,or_false,amm] at hx
     rcases hx with⟨rfl,rfl⟩ |⟨rfl,rfl⟩ |⟨rfl,rfl⟩ |⟨rfl,rfl⟩ |⟨rfl,rfl⟩ |⟨rfl,rfl⟩ |⟨rfl,rfl⟩ |⟨rfl,rfl⟩ |⟨rfl,rfl⟩ |⟨rfl,rfl⟩ |⟨rfl,rfl⟩ |⟨rfl,rfl⟩ |⟨rfl,rfl⟩ |⟨rfl,rfl⟩ |⟨rfl,rfl⟩ |⟨rfl,rfl⟩ |⟨rfl,rfl⟩ |⟨rfl,rfl⟩ |⟨rfl,rfl⟩ |⟨rfl,rfl⟩ |⟨rfl,rfl⟩ |⟨rfl,rfl⟩ |⟨rfl,rfl⟩ |⟨rfl,rfl⟩ |⟨rfl,rfl⟩ |⟨rfl,rfl⟩ |⟨rfl,rfl⟩ |⟨rfl,rfl⟩ |⟨rfl,rfl⟩ |⟨rfl,rfl⟩ <;>exact⟨_,DF Xb Gb (by k_is)⟩
   all_goals tm_at "df"
  obtain⟨f,fd,f1,f2,f3,f4⟩ :=al5 Z
  obtain rfl:fa=f:=by
   have e:=Iu.symm.trans f2
   cases e;rfl
  exact⟨fd,f1,f4⟩
