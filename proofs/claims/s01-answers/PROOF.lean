import PyProof.Rows.All
import Wide.All
import OpenK.AllK
import Wide.FinOn
import PyProof.EqAt
import PyProof.EqKinds
import PyProof.TupleCall
import KE.BitLaws
import Open.SpecLaws
import KE.OsHead
import KE.OsGo
import KE.KDictList
import KE.KSortTupG
import PyProof.P3Eq
import KE.KMinKey
import KE.KLam
import PySem.Challenge.RW_blindrelease_s01_answers
set_option linter.all false
set_option Elab.async false
set_option maxRecDepth 100000
set_option maxHeartbeats 0
open Array renaming length_toList->iB,getElem?_toList->o4,getElem?_eq_none->yc,toList->F8,getElem?_eq_some_iff->MY,getElem?_eq_getElem->Nj
open Bool renaming and_eq_true->aL,false_ne_true->aZ,noConfusion->bN,and_eq_false_iff->gM,or_eq_true->ik,false_and->iW,and_false->iY,not_eq_true'->jv,true_and->m8,eq_iff_iff->ng,and_assoc->oF,false_eq_true->sY,not_eq_true->Ht,or_false->Pn,and_true->Po,and_comm->Pp,and_eq_true_iff->VM,or_eq_false_iff->VN,not_false->aeu,false_or->afm,beq_comm->afo
open Char renaming toNat->ana
open Classical renaming byContradiction->Nm
open False renaming elim->dP
open ForInStep renaming yield->yL
open Int renaming toNat_of_nonneg->eO,toNat_natCast->oB,toNat->an9
open Int.ofNat renaming inj->afp
open List renaming length_map->aa,mem_map->au,getElem?_eq_getElem->aw,mem_cons->aB,mem_append->aE,mem_of_getElem?->aN,length_append->aP,map_map->aQ,getElem?_map->aV,length_cons->aW,map_cons->br,map_append->bw,size_toArray->bD,mem_filter->bH,take_of_length_le->bK,foldl_cons->bL,mem_cons_of_mem->bW,mem_singleton->b8,range->b9,all_eq_true->cj,getElem?_eq_some_iff->cn,getD_eq_getElem?_getD->cx,length_take->cQ,mem_append_right->c9,getElem?_eq_none->da,mem_cons_self->dc,getElem?_zip_eq_some->de,map_congr_left->dh,lookup_cons->dq,append_assoc->dw,take_add_one->dz,drop_eq_getElem_cons->dJ,append_nil->dM,length_filter_le->dW,nodup_cons->dY,length_range->d4,all_cons->d5,mem_append_left->eC,length_zip->eK,drop_of_length_le->fg,length_drop->fh,not_mem_nil->fj,filter_sublist->fw,pairwise_cons->fT,length_eq_zero_iff->gc,flatMap_append->gw,filter_congr->ic,flatMap_cons->ie,find?_cons->il,any_cons->iK,mem_of_find?_eq_some->jd,dropLast_concat->js,foldl_append->ju,getElem_of_mem->jI,map_eq_nil_iff->jJ,mem_flatMap->jP,filter_append->j9,nodup_append->kU,mem_of_mem_take->lG,mem_range->lH,filter_map->nh,find?_eq_none->nq,lookup->nI,ext_getElem?->oC,drop_drop->oE,length_singleton->oZ,of_mem_zip->qw,range_succ->qx,filterMap_cons->rp,any_map->rL,all_map->rO,contains_eq_any_beq->vf,sublist_append_left->vg,map_drop->vh,filter_cons->xc,map->xg,getElem?_set_self->yb,cons_lt_cons_iff->zW,getElem?_set_ne->A6,getLast?_append->A7,forIn_nil->Bd,length->Bf,map_id->Bh,length_pos_iff->Ca,getElem?_range->Cb,sum_cons->CU,zip_cons_cons->Ds,filter_filter->Dt,pairwise_map->F6,map_nil->F9,flatMap_map->Hq,take_length->Hs,getElem_mem->Hu,any_eq_true->Hv,forIn_cons->Kn,drop_zero->M6,foldl_map->M8,getElem?_append_left->Ni,isEmpty_eq_false_iff->Nl,append_cancel_right->Pf,drop_one->Pq,filter_cons_of_pos->QM,filter_cons_of_neg->QN,range_succ_eq_map->Sn,take_append_drop->SQ,mem_of_getLast?->VO,toList_toArray->We,mem_filterMap->XJ,take_sublist->YB,find?_append->YC,all_eq_false->YD,getElem_inj->aaR,drop_length->aaU,isEmpty_iff->aaV,map_flatMap->aaX,zipIdx_cons->aaY,countP_cons->aaZ,getElem_map->aa1,map_fst_zip->aa2,length_tail->aa3,map_snd_zip->aa4,length_nil->abS,nil_append->abT,find?_some->abU,zipIdx_nil->abV,map_take->afq,map_id'->ain,filter->ajY
open List.Sublist renaming refl->F7
open Nat renaming le_trans->ao,le_refl->aK,zero_le->bE,lt_of_lt_of_le->bM,ne_of_lt->bV,lt_of_le_of_lt->b0,le_of_lt->cX,ne_of_gt->dD,mul_le_mul_right->eD,lt_irrefl->gY,lt_succ_of_lt->kT,lt_succ_self->pk,le_add_right->pw,le_of_succ_le->uX,le_of_eq->ye,le_add_left->yM,mul_comm->Su,succ_mul->Sv,pow_le_pow_right->VQ,le_succ->VU,one_mul->VW,div_mul_le_self->Wg,min_le_left->abW,mul_assoc->afn,pow_succ->aim,zero_max->aio,lt_or_ge->aip,max_def->ajX,min_def->ajZ
open Ne renaming symm->nj
open Option renaming none->Bg,isSome_map->F2,map_eq_some_iff->Sm,isSome_some->XM,getD_none->aaT,getD_some->aa0,map_some->abX,some->ajW,map->anb
open Option.some renaming inj->aX
open Or renaming inr->Sw,inl->XN
open PyFlat renaming calls->me,played->pK,told->uZ,row->Nb,rows->VY,call->aj0
open PyInside renaming call->pJ,within->abY,lists->aex
open PyProof.Rows renaming callWith_type1->iG,envOfC->yK,seqObj->SR,AllBare->Wb,IntsAre->Wc,subscriptTail->ajL,arrOf->am4,subscriptTail_builtinR->an5,itemOrd->an8
open PyProof.Rows.F renaming plain_set_update_loop->Gr,entry_set_update_loop->amZ
open PySem renaming wpAny_bind->ae,Addr->af,Value->ak,Shared->az,sizeLine->aA,wpAny_pure->aJ,wpAny->bj,Program->bp,mainGlobals->bI,starEach->bO,World->bQ,Around->cy,Heap->cB,Stmt->cD,mem_of_lookup->cM,wpAny_setField_rec->cZ,bootBuiltins->di,Paired->dn,wpAny_loadPart'->dF,compareOp->eE,rawInt->eW,keywordEach->eY,wpAny_field->eZ,wpAny_callSpecial?_slot->ff,wpAny_mono->fq,wpAny_call_entry->fD,cellsFrom->fE,backTo->fO,wpAny_truthy_bool->fQ,wpAny_pyIter_list->fR,attributeBase->gf,codeAny_builtin->gj,sysModules->gn,wpAny_holding->gG,DictEntry->hJ,wpAny_newObj_type->iJ,backToKw->iX,wpAny_Call_Name_kw->jr,wpAny_seqItems->jt,FuncData->jw,pyNext->jH,NameKind->jR,wpAny_typeNameOfWhole_itemiter->kE,wpAny_typeNameOfWhole_keyiter->kS,codeAny_mono->k7,wpAny_passesOwn->lF,wpAny_attempt->lS,wpAny_dictEntries->mq,cLine->mv,wpAny_letGo->m5,compEnvC->m7,wpAny_typeNameOf_itemiter->nH,wpAny_typeNameOf_keyiter->oz,plainId_quiet->oA,wpAny_dictEpoch->oH,tupleKind_room_in1->oQ,wpAny_nextOf_list_item->qo,callWith->qp,IsItemIter->rH,behindInMarks->rQ,codeAny->rS,sliceBounds->sZ,pushCells->vm,recursionLimit->w8,wpAny_tryCatch->w9,assignEach->xa,foldedSetIterable->yJ,IsZip->yP,wpAny_isInstance->A3,wpAny_pyIter_zip->A4,swapsWith->A8,binaryOp->A9,bindArgs->Bc,wpAny_isOneOf_itemiter->B8,typeIs_str->Cc,call_meets->Cd,Keyword->Ce,wpAny_execs_nil->CO,letOwnedTupleGo->CP,pushCells_keeps->CQ,wpAny_updateSeq->CS,codeAny_call_builtin->FU,wpAny_fieldsOf->FV,firstArgMember->FW,isSubtype_stop->FX,IsEnum->Gd,tupleKind->Gs,getMethod->Gu,updateSeq->Gw,scanBound->Gx,wpAny_standAt->Iv,wpAny_onRaise->Iw,builtinsNs->Ki,wpAny_call->Kj,wpAny_Call_method->M0,setField->M5,valueAt->Na,checkBuiltinCall->Pg,Arguments->Pk,pyIter->Pr,Params->Pu,sizeLine_eq->QP,richCompare->QQ,wpAny_of_eq->QR,Within->Sr,getItem->SS,notedBy->SU,wpAny_setField->VL,wpAny_newTuple->VP,closureFor->VS,argsOk->VT,atKey->VV,wpAny_letOwnedTupleGo_zip->Wa,evalArgs_none->Wf,checkTypeCall->XF,IsItemIterOut->XG,wpAny_newList->XH,Model->YE,CmpOp->YF,bindL->YG,bindC->YH,richCompare_meets_room->aaO,standAt->aa5,callerA->aa6,Result->aa7,wpAny_isTrue_Compare1->abK,wpAny_notOrdered_dict->abL,wpAny_isOneOf_keyiter->abM,wpAny_nextOf_list_end->abO,weight_type_call_type->abP,GenState->aes,intText?->aet,Meets->aez,wpAny_Constant_int->aib,wpAny_Name->aih,typeLookup->aij,wpAny_rule->aik,wpAny_assign_Name->ajM,slot_list_getitem->ajN,wpAny_pyIter_slot->ajO,wpAny_pyIter_enum->ajT,wpAny_execs_cons->am0,wpAny_Dict_empty->am1,strValues->am5,IsEnumOut->am6,seqItems?->am7,size_of_entries->an6,codeAny_of_tree->an7
open PySem.Around renaming under_plainId->gr,under->aaP,frames_deeper->aeo,under_plain->aie
open PySem.Builtin.Builtins renaming bindParams->SN
open PySem.Builtin.Dict renaming showsAll->rn
open PySem.Builtin.Dict_items renaming ownsTuple->iP,ownedTupleFields->Ir,ownedTupleIsFree->Iu,pairFromOwner->MX
open PySem.Builtin.List renaming listTooLong->zU
open PySem.Builtin.SmallTypes renaming ownedTupleIsFree->eJ,ownedTupleHandOut->iV,nextOf->nG
open PySem.Builtin.Str renaming strKind->fM,occurrences->A2,strKind->Nk,partsBetween->XD
open PySem.Calls renaming callWith_builtin->B6,evalArgs_plain->FT,spliced_cons->Kf,spliced_nil->MZ,Name_function_global->VJ
open PySem.Challenge renaming rw_blindrelease_s01_answers->xC
open PySem.Code renaming quiet_builtin->Kh,isFrame->aaQ
open PySem.F renaming plainAttrs_list->bT,slot_list_append->cV,type_list_append->cW,plain_min_loop->gu,slot_dict_itemiterator_next->iA,slot_dict_keyiterator_next->iO,slot_list_extend->mY,type_list_extend->mZ,called_set->nt,slot_enumerate_next->ro,entry_min_loop->yd,slot_dict_get->zV,slot_str_split->A5,slot_zip_next->CT,args_str_split_2->Kg,entry_str_split->M3,args_dict_itemiterator_next_1->Nh,args_dict_keyiterator_next_1->Pd,entry_dict_itemiterator_next->Pe,entry_dict_keyiterator_next->QK,args_dict_get_2->QL,slot_list_count->QO,entry_dict_get->So,args_enumerate_next_1->Yw,slot_dict_items_iter->aaM,entry_enumerate_next->aaN,slot_dict_values->aif,args_zip_next_1->ajP,plainAttrs_dict->ajQ,slot_dict_items->ajR,entry_type_call->ajS,slot_dict_iter->am2,entry_zip_next->am3
open PySem.Heap renaming get?_push_of_some->aj,get?_push_size->aU,lt_size->bg,size_push->cO,SameBut->eM,get?_update_other->B7,IsList->QS,get?_update_self->abN,ExtBut->aer
open PySem.Heap.SameBut renaming update->uW
open PySem.NameKind renaming free->jY,cell->XE
open PySem.Obj renaming mapSeq->Kk,data_mapFields->aid
open PySem.Paired renaming length->rP
open PySem.PassesOwn renaming never->dE
open PySem.PyData renaming int->iQ,depthAll->Sq,eqvAll->XI,eqv->ail,canLayAll0->ajU
open PySem.SeqAt renaming EqAt->aii
open PySem.SeqAt.EqAt renaming int_int->w6,int_str->ah9,str_int->aia,str_str->aic
open PySem.Shared renaming TypeIs->Iy,heap->QT
open PySem.Str renaming ofString->aS
open PySem.Txt renaming split->rJ,join->xf
open PySem.Value renaming ref->bz,none->gN,bool->k8,type->m6,int->Ph,str->Pj,notImplemented->aep,float->aeq
open PySem.W renaming Frag->ah,mg_none_of->cA,findIn->fK,kia_one->fN,emptyDict->gv,instObj->jj,keepIn->lI,fnOf->rK,callWith_K->sX,plainGet->xb,lookIn->Ba,kitOne->Bb,plainGet_of->B9,methodObj->FY,hasDictIn->FZ,length_le_weightAllW->Ke,takerIn->Km,codeIn->M4,mroIn->Pl,cellsFrom_some->Sl,isFn->Ss,methodCall_KW->SO,callWith_K0->Wd,plainOver->Yx,specialIn->Yy,kitx_list->Yz,kitx_dict->YA,handedIn->aaS,WRecords->aaW,makesIn->abQ,takesIn->abR,tabIn->afs
open PySem.Walks renaming list->Kl
open PyVbslai renaming answers->jQ,bound->M9,shape->aey
open Sum renaming inl->cG,inr->ig
open Sum.inl renaming inj->Be
open Sum.inr renaming inj->ajV
open ToString renaming toString->mr
open True renaming intro->jy
open Vbslai renaming shownRow->aF,Bytes->aH,Column->bA,nats->bC,onForm->bJ,step->bX,releaseAt->cE,within->cK,text->df,partsOf->dj,columnLines->dB,isName->dU,Form->d8,isDigit->eP,Release->fV,lessCells->gx,partsOf->gz,shownRelease->i8,isSmall->i9,costOf->ja,lineOf->j6,WORDS->ka,shownCell->kF,countsIn->kG,wants->md,releaseRow->m9,formFrom->ni,askedOk->oG,cellOk->pI,secretOk->qy,levelsOk->qz,printForm->rR,cellsOk->tj,readForm->tm,plan->uY,lessB->vi,putClass->xD,putClass->yN,formFrom->yO,secretsOf->Bj,bytesRow->Bk,above->Ga,WORDS->Gb,plans->Ge,levelsOk->Gv,classesOf->Hr,cellsOk->Nn,Call->VX,secretOk->Wh,alikeIn->abZ,tooFew->ab0,linesOf->aev,wordsOf->aew,height->afr,Plan->aft,askedOf->am8,classOf->am9
open VbslaiNeutral renaming step->fU,callOf->VR
theorem afu{t0:Type}{Q:t0->Prop}{G:Prop}(z:∀a,Q a->G):(∃a,Q a)->G:=λ⟨a,pQ⟩=>z a pQ
theorem Pw{t0 t1 t2 t3 t4 t5 t6 t7 t8 t9:Type}{Q:t0->t1->t2->t3->t4->t5->t6->t7->t8->t9->Prop}{G:Prop}(z:∀a b c d e f g h i j,Q a b c d e f g h i j->G):(∃a b c d e f g h i j,Q a b c d e f g h i j)->G:=λ⟨a,b,c,d,e,f,g,h,i,j,pQ⟩=>z a b c d e f g h i j pQ
theorem cH{t0:Type}{A B Q:t0->Prop}{G:Prop}(z:∀a,A a->B a->Q a->G):(∃a,A a/\B a/\Q a)->G:=λ⟨a,pA,pB,pQ⟩=>z a pA pB pQ
theorem Ks{t0 t1:Type}{Q:t0->t1->Prop}{G:Prop}(z:∀a b,Q a b->G):(∃a b,Q a b)->G:=λ⟨a,b,pQ⟩=>z a b pQ
theorem jk{t0 t1:Type}{A Q:t0->t1->Prop}{G:Prop}(z:∀a b,A a b->Q a b->G):(∃a b,A a b/\Q a b)->G:=λ⟨a,b,pA,pQ⟩=>z a b pA pQ
theorem j7{t0 t1:Type}{A B Q:t0->t1->Prop}{G:Prop}(z:∀a b,A a b->B a b->Q a b->G):(∃a b,A a b/\B a b/\Q a b)->G:=λ⟨a,b,pA,pB,pQ⟩=>z a b pA pB pQ
theorem ke{t0 t1:Type}{A B C Q:t0->t1->Prop}{G:Prop}(z:∀a b,A a b->B a b->C a b->Q a b->G):(∃a b,A a b/\B a b/\C a b/\Q a b)->G:=λ⟨a,b,pA,pB,pC,pQ⟩=>z a b pA pB pC pQ
theorem zZ{t0 t1 t2:Type}{Q:t0->t1->t2->Prop}{G:Prop}(z:∀a b c,Q a b c->G):(∃a b c,Q a b c)->G:=λ⟨a,b,c,pQ⟩=>z a b c pQ
theorem jT{t0 t1 t2:Type}{A B Q:t0->t1->t2->Prop}{G:Prop}(z:∀a b c,A a b c->B a b c->Q a b c->G):(∃a b c,A a b c/\B a b c/\Q a b c)->G:=λ⟨a,b,c,pA,pB,pQ⟩=>z a b c pA pB pQ
theorem rq{t0 t1 t2:Type}{A B C Q:t0->t1->t2->Prop}{G:Prop}(z:∀a b c,A a b c->B a b c->C a b c->Q a b c->G):(∃a b c,A a b c/\B a b c/\C a b c/\Q a b c)->G:=λ⟨a,b,c,pA,pB,pC,pQ⟩=>z a b c pA pB pC pQ
theorem xE{t0 t1 t2 t3:Type}{Q:t0->t1->t2->t3->Prop}{G:Prop}(z:∀a b c d,Q a b c d->G):(∃a b c d,Q a b c d)->G:=λ⟨a,b,c,d,pQ⟩=>z a b c d pQ
theorem ip{t0 t1 t2 t3:Type}{A B C Q:t0->t1->t2->t3->Prop}{G:Prop}(z:∀a b c d,A a b c d->B a b c d->C a b c d->Q a b c d->G):(∃a b c d,A a b c d/\B a b c d/\C a b c d/\Q a b c d)->G:=λ⟨a,b,c,d,pA,pB,pC,pQ⟩=>z a b c d pA pB pC pQ
theorem u1{t0 t1 t2 t3:Type}{A B C D E Q:t0->t1->t2->t3->Prop}{G:Prop}(z:∀a b c d,A a b c d->B a b c d->C a b c d->D a b c d->E a b c d->Q a b c d->G):(∃a b c d,A a b c d/\B a b c d/\C a b c d/\D a b c d/\E a b c d/\Q a b c d)->G:=λ⟨a,b,c,d,pA,pB,pC,pD,pE,pQ⟩=>z a b c d pA pB pC pD pE pQ
theorem CV{t0 t1 t2 t3 t4:Type}{Q:t0->t1->t2->t3->t4->Prop}{G:Prop}(z:∀a b c d e,Q a b c d e->G):(∃a b c d e,Q a b c d e)->G:=λ⟨a,b,c,d,e,pQ⟩=>z a b c d e pQ
theorem nJ{t0 t1 t2 t3 t4 t5:Type}{Q:t0->t1->t2->t3->t4->t5->Prop}{G:Prop}(z:∀a b c d e f,Q a b c d e f->G):(∃a b c d e f,Q a b c d e f)->G:=λ⟨a,b,c,d,e,f,pQ⟩=>z a b c d e f pQ
theorem nK{t0 t1 t2 t3 t4 t5 t6:Type}{Q:t0->t1->t2->t3->t4->t5->t6->Prop}{G:Prop}(z:∀a b c d e f g,Q a b c d e f g->G):(∃a b c d e f g,Q a b c d e f g)->G:=λ⟨a,b,c,d,e,f,g,pQ⟩=>z a b c d e f g pQ
theorem Kt{t0 t1 t2 t3 t4 t5 t6 t7:Type}{Q:t0->t1->t2->t3->t4->t5->t6->t7->Prop}{G:Prop}(z:∀a b c d e f g h,Q a b c d e f g h->G):(∃a b c d e f g h,Q a b c d e f g h)->G:=λ⟨a,b,c,d,e,f,g,h,pQ⟩=>z a b c d e f g h pQ
theorem o5{t0 t1 t2 t3 t4 t5 t6 t7 t8:Type}{Q:t0->t1->t2->t3->t4->t5->t6->t7->t8->Prop}{G:Prop}(z:∀a b c d e f g h i,Q a b c d e f g h i->G):(∃a b c d e f g h i,Q a b c d e f g h i)->G:=λ⟨a,b,c,d,e,f,g,h,i,pQ⟩=>z a b c d e f g h i pQ
theorem bq{t0:Type}{A Q:t0->Prop}(a)(pA:A a)(pQ:Q a):∃a,A a/\Q a:=⟨a,pA,pQ⟩
theorem bP{t0:Type}{A B Q:t0->Prop}(a)(pA:A a)(pB:B a)(pQ:Q a):∃a,A a/\B a/\Q a:=⟨a,pA,pB,pQ⟩
theorem iL{t0:Type}{A B C Q:t0->Prop}(a)(pA:A a)(pB:B a)(pC:C a)(pQ:Q a):∃a,A a/\B a/\C a/\Q a:=⟨a,pA,pB,pC,pQ⟩
theorem qr{t0 t1:Type}{Q:t0->t1->Prop}(a b)(pQ:Q a b):∃a b,Q a b:=⟨a,b,pQ⟩
theorem fu{t0 t1:Type}{A Q:t0->t1->Prop}(a b)(pA:A a b)(pQ:Q a b):∃a b,A a b/\Q a b:=⟨a,b,pA,pQ⟩
theorem bt{t0 t1:Type}{A B Q:t0->t1->Prop}(a b)(pA:A a b)(pB:B a b)(pQ:Q a b):∃a b,A a b/\B a b/\Q a b:=⟨a,b,pA,pB,pQ⟩
theorem dH{t0 t1:Type}{A B C Q:t0->t1->Prop}(a b)(pA:A a b)(pB:B a b)(pC:C a b)(pQ:Q a b):∃a b,A a b/\B a b/\C a b/\Q a b:=⟨a,b,pA,pB,pC,pQ⟩
theorem vo{t0 t1 t2:Type}{Q:t0->t1->t2->Prop}(a b c)(pQ:Q a b c):∃a b c,Q a b c:=⟨a,b,c,pQ⟩
theorem jK{t0 t1 t2:Type}{A B Q:t0->t1->t2->Prop}(a b c)(pA:A a b c)(pB:B a b c)(pQ:Q a b c):∃a b c,A a b c/\B a b c/\Q a b c:=⟨a,b,c,pA,pB,pQ⟩
theorem iD{t0 t1 t2:Type}{A B C D Q:t0->t1->t2->Prop}(a b c)(pA:A a b c)(pB:B a b c)(pC:C a b c)(pD:D a b c)(pQ:Q a b c):∃a b c,A a b c/\B a b c/\C a b c/\D a b c/\Q a b c:=⟨a,b,c,pA,pB,pC,pD,pQ⟩
theorem DM{t0 t1 t2 t3:Type}{Q:t0->t1->t2->t3->Prop}(a b c d)(pQ:Q a b c d):∃a b c d,Q a b c d:=⟨a,b,c,d,pQ⟩
theorem oJ{t0 t1 t2 t3:Type}{A B C Q:t0->t1->t2->t3->Prop}(a b c d)(pA:A a b c d)(pB:B a b c d)(pC:C a b c d)(pQ:Q a b c d):∃a b c d,A a b c d/\B a b c d/\C a b c d/\Q a b c d:=⟨a,b,c,d,pA,pB,pC,pQ⟩
theorem iE{t0 t1 t2 t3:Type}{A B C D Q:t0->t1->t2->t3->Prop}(a b c d)(pA:A a b c d)(pB:B a b c d)(pC:C a b c d)(pD:D a b c d)(pQ:Q a b c d):∃a b c d,A a b c d/\B a b c d/\C a b c d/\D a b c d/\Q a b c d:=⟨a,b,c,d,pA,pB,pC,pD,pQ⟩
theorem gB{t0 t1 t2 t3:Type}{A B C D E Q:t0->t1->t2->t3->Prop}(a b c d)(pA:A a b c d)(pB:B a b c d)(pC:C a b c d)(pD:D a b c d)(pE:E a b c d)(pQ:Q a b c d):∃a b c d,A a b c d/\B a b c d/\C a b c d/\D a b c d/\E a b c d/\Q a b c d:=⟨a,b,c,d,pA,pB,pC,pD,pE,pQ⟩
theorem o6{t0 t1 t2 t3 t4:Type}{Q:t0->t1->t2->t3->t4->Prop}(a b c d e)(pQ:Q a b c d e):∃a b c d e,Q a b c d e:=⟨a,b,c,d,e,pQ⟩
theorem jb{t0 t1 t2 t3 t4 t5:Type}{Q:t0->t1->t2->t3->t4->t5->Prop}(a b c d e f)(pQ:Q a b c d e f):∃a b c d e f,Q a b c d e f:=⟨a,b,c,d,e,f,pQ⟩
theorem xF{t0 t1 t2 t3 t4 t5 t6:Type}{Q:t0->t1->t2->t3->t4->t5->t6->Prop}(a b c d e f g)(pQ:Q a b c d e f g):∃a b c d e f g,Q a b c d e f g:=⟨a,b,c,d,e,f,g,pQ⟩
theorem Iz{t0 t1 t2 t3 t4 t5 t6 t7:Type}{Q:t0->t1->t2->t3->t4->t5->t6->t7->Prop}(a b c d e f g h)(pQ:Q a b c d e f g h):∃a b c d e f g h,Q a b c d e f g h:=⟨a,b,c,d,e,f,g,h,pQ⟩
theorem qt{t0 t1 t2 t3 t4 t5 t6 t7 t8:Type}{Q:t0->t1->t2->t3->t4->t5->t6->t7->t8->Prop}(a b c d e f g h i)(pQ:Q a b c d e f g h i):∃a b c d e f g h i,Q a b c d e f g h i:=⟨a,b,c,d,e,f,g,h,i,pQ⟩
theorem ag{t:Type}{A Q:t->Prop}{a:t}(p:A a)(q:Q a):∃a,A a/\Q a:=⟨a,p,q⟩
namespace L2
open PySem PySem.Spec PyProof.Rows
abbrev Key:=Sum Int Str
def yf:Key->ak->Bool
 |.inl k,v=>Value.isInt k v
 |.inr x,v=>Value.isStrOf x v
def afv(w:bQ):Key->Int
 |.inl k=>hashInt k
 |.inr x=>hashStr w x
theorem hU:∀{k:Key}{v:ak},yf k v=true->(∃i t,k=cG i/\v=Ph i t)∨(∃x t,k=ig x/\v=Pj x t)
 |.inl i,v,h=>by obtain⟨t,e⟩:=Value.isInt_shape (k:=i) (v:=v) h;exact .inl (fu i t rfl e)
 |.inr x,v,h=>by obtain⟨t,e⟩:=Value.isStrOf_shape (x:=x) (v:=v) h;exact .inr (fu x t rfl e)
theorem QU(i:Int)(t:Tok):yf (.inl i) (.int i t)=true:=by simp[yf,Value.isInt]
theorem QV(x:Str)(t:Tok):yf (.inr x) (.str x t)=true:=by simp[yf,Value.isStrOf]
theorem YI(a b:Int):decide ((cG a:Key)=cG b)=(a==b):=by
 by_cases e:a=b
 ·subst e;simp
 ·have h:¬(cG a:Key)=cG b:=λq=>e (Be q);rw[decide_eq_false h];exact(beq_eq_false_iff_ne.mpr e).symm
theorem YJ(a b:Str):decide ((ig a:Key)=ig b)=decide (a=b):=by
 by_cases e:a=b
 ·subst e;simp
 ·have h:¬(ig a:Key)=ig b:=λq=>e (ajV q);rw[decide_eq_false h,decide_eq_false e]
theorem YK(a:Int)(b:Str):decide ((cG a:Key)=ig b)=false:=decide_eq_false (λq=>nomatch q)
theorem YL(a:Str)(b:Int):decide ((ig a:Key)=cG b)=false:=decide_eq_false (λq=>nomatch q)
def gq(prog:bp)(w:bQ):PySem.KeyKind prog w Key where
 is:=yf
 hash:=afv w
 inj:=λv a b ha hb=>by
  rcases hU ha with⟨i,t,rfl,rfl⟩|⟨x,t,rfl,rfl⟩
  ·rcases hU hb with⟨j,u,rfl,e⟩|⟨y,u,rfl,e⟩
   ·injection e with e1 _;rw[e1]
   ·exact nomatch e
  ·rcases hU hb with⟨j,u,rfl,e⟩|⟨y,u,rfl,e⟩
   ·exact nomatch e
   ·injection e with e1 _;rw[e1]
 byValue:=λk v h=>by rcases hU h with⟨i,t,rfl,rfl⟩|⟨x,t,rfl,rfl⟩<;>rfl
 pyHash:=λhv h=>by
  rcases hU hv with⟨i,t,rfl,rfl⟩|⟨x,t,rfl,rfl⟩
  ·exact wpAny_pyHash_int h
  ·exact wpAny_pyHash_str h
 eqBool:=λhu hv h=>by
  rcases hU hu with⟨i,t,rfl,rfl⟩|⟨x,t,rfl,rfl⟩
  ·rcases hU hv with⟨j,u,rfl,rfl⟩|⟨y,u,rfl,rfl⟩
   ·rw[YI] at h;exact wpAny_eqBool_int h
   ·rw[YK] at h;exact ah9 i t y u _ _ _ _ h
  ·rcases hU hv with⟨j,u,rfl,rfl⟩|⟨y,u,rfl,rfl⟩
   ·rw[YL] at h;exact aia x t j u _ _ _ _ h
   ·rw[YJ] at h;exact wpAny_eqBool_str h
 «strs» :=λk x t v h=>by
  rcases hU h with⟨i,u,rfl,e⟩|⟨y,u,rfl,e⟩
  ·exact nomatch e
  ·injection e with e1 _
   subst e1;cases v<;>rfl
theorem Ku(prog:bp)(w:bQ)(i:Int)(t:Tok):(gq prog w).is (.inl i) (.int i t)=true:=QU i t
theorem Kv(prog:bp)(w:bQ)(x:Str)(t:Tok):(gq prog w).is (.inr x) (.str x t)=true:=QV x t
inductive V where
 |h9|bl (b:Bool)|int (i:Int)|str (x:Str)|Nc (b:Array UInt8)|YM (b:UInt64)|ref (a:af)|ty (n:String)
 deriving DecidableEq
def RelV:V->ak->Prop
 |.h9,u=>u=gN
 |.bl b,u=>u=k8 b
 |.int i,u=>∃t,u=Ph i t
 |.str x,u=>∃t,u=Pj x t
 |.Nc b,u=>∃t,u=Value.bytes b t
 |.YM b,u=>∃t,u=aeq b t
 |.ref a,u=>u=bz a
 |.ty n,u=>u=m6 n
abbrev Vals:List V->List ak->Prop:=dn RelV
theorem Vals.length{xs:List V}{us:List ak}(r:Vals xs us):xs.length=us.length:=rP r
theorem Vals.get:∀{xs:List V}{us:List ak}{i:Nat}{x:V},Vals xs us->xs[i]? =some x->∃u,us[i]? =some u/\RelV x u
 |_,_,_,_,.nil,e=>by simp at e
 |_,_,0,_,.cons r _,e=>by simp at e;subst e;exact ag rfl r
 |_,_,i+1,x,.cons _ t,e=>by obtain⟨u,h1,h2⟩:=Vals.get (i:=i) (x:=x) t (by simpa using e);exact bq u (by simpa using h1) h2
theorem Vals.append:∀{xs ys:List V}{us ws:List ak},Vals xs us->Vals ys ws->Vals (xs++ys) (us++ws)
 |_,_,_,_,.nil,s=>s
 |_,_,_,_,.cons r t,s=>.cons r (Vals.append t s)
theorem Vals.take:∀{xs:List V}{us:List ak}(n:Nat),Vals xs us->Vals (xs.take n) (us.take n)
 |_,_,0,_=>.nil
 |_,_,_+1,.nil=>.nil
 |_,_,n+1,.cons r t=>.cons r (Vals.take n t)
theorem Vals.drop:∀{xs:List V}{us:List ak}(n:Nat),Vals xs us->Vals (xs.drop n) (us.drop n)
 |_,_,0,r=>r
 |_,_,_+1,.nil=>.nil
 |_,_,n+1,.cons _ t=>Vals.drop n t
def u4:Option V->Option ak->Prop
 |some v,some u=>RelV v u
 |none,none=>True
 |_,_=>False
def KV{κ:Type}:List (κ×V)->List (κ×ak)->Prop:=dn λ(p:κ×V)(q:κ×ak)=>p.1=q.1/\RelV p.2 q.2
def kV:Key->V
 |.inl i=>.int i
 |.inr x=>.str x
inductive HO where
 |lst (xs:List V)
 |tup (xs:List V)
 |dK (kvs:List (Key×V))|dT (kvs:List (List Key×V))
 |set (S:Int->Bool) (n:Nat)
 |ins (C dx:af) (fs:List (Str×V))
 |own (x:af)
 |xd (fs:List (Str×V))
 |met (f x:af)
 |rng (lo hi:Int)
 |vp (o:Obj) (u:HO)
 |vj (ps:Array ak)
 |ext (φ:cB->Prop)
abbrev Hp:=af->Option HO
def upd(H:Hp)(a:af)(o:HO):Hp:=λb=>if b=a then some o else H b
theorem ai{H:Hp}{a:af}{o:HO}:upd H a o a=some o:=by unfold upd;rw[if_pos rfl]
theorem ay{H:Hp}{a b:af}{o:HO}(h:b≠a):upd H a o b=H b:=by unfold upd;rw[if_neg h]
theorem Px{H:Hp}{a:af}{o u:HO}:upd (upd H a o) a u=upd H a u:=by funext b;unfold upd;split<;>rfl
theorem gH{H:Hp}{a b:af}{o u:HO}(h:H a=some o)(h':H b=some u)(d:o≠u):a≠b:=by intro e;subst e;rw[h] at h';exact d (aX h')
theorem aR{H:Hp}{a b:af}{o:HO}(h:H a=some o)(h':H b=none):a≠b:=by
 intro e;subst e;rw[h] at h';cases h'
section
variable(P:bp)(w:bQ)
def fF(H:Hp)(h:cB)(a:af):HO->Prop
 |.lst xs=>xs.length<=aA/\∃(its:List ak)(n:Nat),Vals xs its/\h.get? a=some {cls:=.type "list",data:=.seq its.toArray n}
 |.tup xs=>xs.length<=aA/\∃its:List ak,Vals xs its/\IsTup h a its.toArray
 |.dK kvs=>kvs.length<=aA/\(a==gn)=false/\∃vs,KV kvs vs/\h.DictOf (gq P w) a vs
 |.dT kvs=>kvs.length<=aA/\(a==gn)=false/\∃xs:List (List Key×af×ak),
   dn (λ(p:List Key×V)(q:List Key×af×ak)=>p.1=q.1/\H q.2.1=some (.tup (p.1.map kV))/\RelV p.2 q.2.2) kvs xs/\
   ∃o es ep,h.get? a=some o/\o.ExactDict/\o.data=.dict es ep/\es.toList=xs.map (entryOfKey (Gs (gq P w)))/\(xs.map (·.1)).Nodup
 |.set S n=>h.SetOf (intKind P w) a S n
 |.ins C dx fs=>H dx=some (.own a)/\fs.length<=1000/\dx≠a/\h.get? a=some (jj C dx)/\
   ∃mA,h.Ns1 dx mA/\(∀f,u4 (fs.lookup f) (mA f))/\Sr mA (fs.map (·.1))
 |.own _=>∃o,h.get? a=some o
 |.xd fs=>∃mA,h.Ns1 a mA/\∀f,u4 (fs.lookup f) (mA f)
 |.rng lo hi=>∃t u v,h.get? a=some {cls:=.type "range",data:=.fields #[.int lo t,.int hi u,.int 1 v]}
 |.vp o u=>h.get? a=some o/\fF H h a u
 |.vj ps=>h.get? a=some {cls:=.none,data:=.fields ps}
 |.met f x=>h.get? a=some (FY (.ref f) (.ref x))
 |.ext φ=>φ h/\(∃o,h.get? a=some o)/\∀h1 h2:cB,φ h1->(∀o,h1.get? a=some o->h2.get? a=some o)->φ h2
def u5(H:Hp)(h:cB):Prop:=∀a o,H a=some o->fF P w H h a o
end
section
variable{P:bp}{w:bQ}{H H':Hp}{h h':cB}{a:af}{o:HO}
theorem fF.lt(x:fF P w H h a o):a<h.objs.size:=by
 cases o with
 |lst xs=>obtain⟨_,_,_,_,e⟩:=x;exact bg e
 |tup xs=>obtain⟨_,_,_,p⟩:=x;exact p.lt
 |dK kvs=>obtain⟨_,_,_,_,o,_,_,e,_⟩:=x;exact bg e
 |dT kvs=>obtain⟨_,_,_,_,o,_,_,e,_⟩:=x;exact bg e
 |set S n=>refine xE ?_ x;rintro o _ _ _ ⟨e,_⟩;exact bg e
 |ins C dx fs=>obtain⟨_,_,_,e,_⟩:=x;exact bg e
 |own y=>obtain⟨_,e⟩:=x;exact bg e
 |xd fs=>obtain⟨_,⟨_,_,_,e,_⟩,_⟩:=x;exact bg e
 |rng lo hi=>refine zZ ?_ x;rintro _ _ _ e;exact bg e
 |vp ob u=>obtain⟨e,_⟩:=x;exact bg e
 |vj ps=>exact bg (show h.get? a=some _ from x)
 |met f y=>exact bg (show h.get? a=some _ from x)
 |ext φ=>obtain⟨_,⟨_,e⟩,_⟩:=x;exact bg e
theorem Paired.YN{α β:Type}{F G:α->β->Prop}:∀{l₁:List α}{l₂:List β},dn F l₁ l₂->(∀a b,F a b->G a b)->dn G l₁ l₂
 |_,_,.nil,_=>.nil
 |_,_,.cons r t,f=>.cons (f _ _ r) (Paired.YN t f)
theorem fF.Gy(x:fF P w H h a o)(k:∀b u,(b=a∨H b=some (.own a))->h.get? b=some u->h'.get? b=some u)(ho:∀b,H b=some (.own a)->H' b=some (.own a))(ht:∀b xs,H b=some (.tup xs)->H' b=some (.tup xs)):fF P w H' h' a o:=by
 induction o with
 |lst xs=>obtain⟨z,its,n,r,e⟩:=x;exact⟨z,fu its n r (k _ _ (.inl rfl) e)⟩
 |tup xs=>obtain⟨z,its,r,ob,e,c⟩:=x;exact⟨z,bq its r (bq ob (k _ _ (.inl rfl) e) c)⟩
 |dK kvs=>obtain⟨z,y,vs,r,ob,es,ep,e,c⟩:=x;exact⟨z,y,bq vs r (vo ob es ep ⟨k _ _ (.inl rfl) e,c⟩)⟩
 |dT kvs=>obtain⟨z,y,xs,r,ob,es,ep,e,c⟩:=x;exact⟨z,y,bq xs (Paired.YN r λp q z=>⟨z.1,ht _ _ z.2.1,z.2.2⟩) (vo ob es ep ⟨k _ _ (.inl rfl) e,c⟩)⟩
 |set S n=>refine xE ?_ x;rintro ob es ep t ⟨e,c⟩;exact DM ob es ep t ⟨k _ _ (.inl rfl) e,c⟩
 |ins C dx fs=>obtain⟨d,z,ne,e,mA,⟨od,es,ep,e2,c⟩,r⟩:=x;exact⟨ho _ d,z,ne,k _ _ (.inl rfl) e,bq mA (vo od es ep ⟨k _ _ (.inr d) e2,c⟩) r⟩
 |own y=>obtain⟨ob,e⟩:=x;exact⟨ob,k _ _ (.inl rfl) e⟩
 |xd fs=>obtain⟨mA,⟨od,es,ep,e,c⟩,r⟩:=x;exact bq mA (vo od es ep ⟨k _ _ (.inl rfl) e,c⟩) r
 |rng lo hi=>refine zZ ?_ x;rintro t u v e;exact vo t u v (k _ _ (.inl rfl) e)
 |vp ob u ih=>obtain⟨e,q⟩:=x;exact⟨k _ _ (.inl rfl) e,ih q⟩
 |vj ps=>have e:h.get? a=some {cls:=.none,data:=.fields ps}:=x;show h'.get? a=some {cls:=.none,data:=.fields ps};exact k a _ (.inl rfl) e
 |met f y=>have e:h.get? a=some (FY (.ref f) (.ref y)):=x;show h'.get? a=some (FY (.ref f) (.ref y));exact k a _ (.inl rfl) e
 |ext φ=>obtain⟨p,⟨o,e⟩,st⟩:=x;exact⟨st _ _ p λo q=>k _ _ (.inl rfl) q,⟨o,k _ _ (.inl rfl) e⟩,st⟩
theorem u5.lt(x:u5 P w H h)(e:H a=some o):a<h.objs.size:=(x a o e).lt
theorem u5.fresh(x:u5 P w H h)(e:h.objs.size<=a):H a=none:=by
 cases q:H a with
 |none=>rfl
 |some u=>exact absurd (bM (x.lt q) e) (gY _)
theorem u5.kept(x:u5 P w H h)(k:∀b u,h.get? b=some u->h'.get? b=some u):u5 P w H h':=λa o e=>(x a o e).Gy (λb u _ q=>k b u q) (λ_ q=>q) λ_ _ q=>q
theorem u5.laid(x:u5 P w H h)(k:∀b u,h.get? b=some u->h'.get? b=some u)(hp:h.objs.size<=a)(new:fF P w (upd H a o) h' a o):u5 P w (upd H a o) h':=λb u e=>by
 have hn:=x.fresh hp;by_cases hb:b=a
 ·subst hb;rw[ai] at e;cases e;exact new
 ·rw[ay hb] at e;exact(x b u e).Gy (λc v _ q=>k c v q) (λc q=>by rw[ay (aR q hn)];exact q) λc xs q=>by rw[ay (aR q hn)];exact q
end
def Rd(H:Hp)(a:af)(u:HO):Prop:=H a=some u∨∃o,H a=some (.vp o u)
theorem Rd.ok{P:bp}{w:bQ}{H:Hp}{h:cB}{a:af}{u:HO}(r:Rd H a u)(x:u5 P w H h):fF P w H h a u:=by
 rcases r with r|⟨o,r⟩
 ·exact x a u r
 ·obtain⟨_,q⟩:=x a _ r;exact q
def YO:Option HO->Prop
 |some (.lst _)=>True
 |some (.dK _)=>True
 |some (.dT _)=>True
 |some (.set _ _)=>True
 |some (.ins _ _ _)=>True
 |some (.ext _)=>True
 |_=>False
section
variable{P:bp}{w:bQ}{H:Hp}{h h':cB}{x e:af}{o':HO}
theorem u5.write(ok:u5 P w H h)(mu:YO (H x))(he:e=x∨H e=some (.own x))(k:∀b u,b≠e->h.get? b=some u->h'.get? b=some u)(heo:∃u,h'.get? e=some u)(new:fF P w (upd H x o') h' x o'):u5 P w (upd H x o') h':=λb u q=>by
 have ab1:∀c y,H c=some (.own y)->c≠x:=λc y r z=>by subst z;rw[r] at mu;exact mu
 have afx:∀c xs,H c=some (.tup xs)->c≠x:=λc xs r z=>by subst z;rw[r] at mu;exact mu
 by_cases hb:b=x
 ·subst hb;rw[ai] at q;cases q;exact new
 ·rw[ay hb] at q;by_cases SV:b=e
  ·have q':H b=some (.own x):=by
    rcases he with z|z
    ·exact absurd (SV.trans z) hb
    ·rw[SV];exact z
   rw[q] at q';cases q';obtain⟨v,hv⟩:=heo;exact⟨v,by rw[SV];exact hv⟩
  ·refine(ok b u q).Gy (λc v hc r=>k c v ?_ r) (λc r=>by rw[ay (ab1 c b r)];exact r) λc xs r=>by rw[ay (afx c xs r)];exact r
   rcases hc with rfl|hc
   ·exact SV
   ·rintro rfl;rcases he with z|z
    ·exact ab1 c b hc z
    ·rw[hc] at z;cases z;exact hb rfl
end
structure Un(fs ex:List af)(H H':Hp)(h h':cB):Prop where
 keep:∀b o,h.get? b=some o->H b=none->b∉fs->b∉ex->h'.get? b=some o
 slot:∀b o,h.get? b=some o->H b=none->b∈fs->b∉ex->∃sl,h'.get? b=some {o with slots:=sl}
 free:∀b o,h.get? b=some o->H b=none->b∉ex->H' b=none
 there:∀b o,h.get? b=some o->b∉ex->∃o',h'.get? b=some o'
 Kw:∀b xs,H b=some (.tup xs)->H' b=some (.tup xs)
 IA:∀b o u,H b=some (.vp o u)->H' b=some (.vp o u)
 IB:∀b ps,H b=some (.vj ps)->∃more,H' b=some (.vj (ps++more))
section
variable{fs fs' ex ex':List af}{H H1 H2:Hp}{h h1 h2 h':cB}{a x e:af}{o:HO}
theorem Un.any(u:Un fs ex H H1 h h1){b:af}{ob:Obj}(q:h.get? b=some ob)(n:H b=none)(hx:b∉ex):∃sl,h1.get? b=some {ob with slots:=sl}:=by
 by_cases hb:b∈fs
 ·exact u.slot b ob q n hb hx
 ·exact⟨ob.slots,u.keep b ob q n hb hx⟩
theorem Un.kept(k:∀b u,h.get? b=some u->h'.get? b=some u):Un fs ex H H h h':=⟨λb ob q _ _ _=>k b ob q,λb ob q _ _ _=>⟨ob.slots,k b ob q⟩,λ_ _ _ n _=>n,λb ob q _=>⟨ob,k b ob q⟩,λ_ _ q=>q,λ_ _ _ q=>q,λ_ ps q=>⟨#[],by rw[q];simp⟩⟩
theorem Un.refl:Un fs ex H H h h:=Un.kept λ_ _ q=>q
theorem Un.laid(k:∀b u,h.get? b=some u->h'.get? b=some u)(hp:h.objs.size<=a)(hn:H a=none):Un fs ex H (upd H a o) h h' where
 keep:=λb u q _ _ _=>k b u q
 slot:=λb u q _ _ _=>⟨u.slots,k b u q⟩
 free:=λb u q n _=>by rw[ay (bV (bM (bg q) hp))];exact n
 there:=λb u q _=>⟨u,k b u q⟩
 Kw:=λb xs q=>by rw[ay (aR q hn)];exact q
 IA:=λb u xs q=>by rw[ay (aR q hn)];exact q
 IB:=λb ps q=>⟨#[],by rw[ay (aR q hn),q];simp⟩
theorem Un.write(mu:YO (H x))(he:e=x∨H e=some (.own x))(k:∀b u,b≠e->h.get? b=some u->h'.get? b=some u)(heo:∃u,h'.get? e=some u):Un fs ex H (upd H x o) h h':=by
 have hx:∀b,H b=none->b≠x:=λb n z=>by subst z;rw[n] at mu;exact mu
 have hb:∀b,H b=none->b≠e:=λb n z=>by
  subst z;rcases he with r|r
  ·exact hx b n r
  ·rw[n] at r;cases r
 have hm:∀b u,H b=some u->¬YO (some u)->b≠x:=λb u q nm z=>by subst z;rw[q] at mu;exact nm mu
 refine⟨λb u q n _ _=>k b u (hb b n) q,λb u q n _ _=>⟨u.slots,k b u (hb b n) q⟩,λb u q n _=>by rw[ay (hx b n)];exact n,λb u q _=>?_,
  λb xs q=>by rw[ay (hm b _ q λz=>z)];exact q,λb u xs q=>by rw[ay (hm b _ q λz=>z)];exact q,λb ps q=>⟨#[],by rw[ay (hm b _ q λz=>z),q];simp⟩⟩
 by_cases SV:b=e
 ·subst SV;exact heo
 ·exact⟨u,k b u SV q⟩
end
def trk(h:cB)(H:Hp):List af:=(b9 h.objs.size).filter λa=>(H a).isSome
def Gz(h:cB)(H:Hp):cB:=PySem.W.hideAll h (trk h H)
theorem QW(h:cB)(H:Hp):(Gz h H).objs.size=h.objs.size:=PySem.W.hideAll_size _ _
theorem SW{h:cB}{H:Hp}{b:af}{o:Obj}(e:h.get? b=some o)(n:H b=none):(Gz h H).get? b=some o:=PySem.W.hideAll_get _ e λhm=>by have q:(H b).isSome=true:=(bH.mp hm).2;rw[n] at q;simp at q
theorem Wi{h:cB}{H:Hp}{b:af}{o:Obj}(e:(Gz h H).get? b=some o):h.get? b=some o/\H b=none:=by
 have e':h.get? b=some o:=PySem.W.of_hideAll (trk h H) e;refine⟨e',?_⟩
 cases q:H b with
 |none=>rfl
 |some x=>
  have hm:b∈trk h H:=bH.mpr ⟨lH.mpr (bg e'),by simp[q]⟩;have z:(Gz h H).get? b=none:=PySem.W.hideAll_none (trk h H) hm;rw[z] at e;cases e
structure Mod(K:ah)(mg:Str->Option ak)(base:cB):Prop where
 kin:K.In base
 glob:base.Ns bI mg
 blt:∃mb,base.Ns Ki mb/\∀x:Str,x≠"__name__"->mb x=di x
 nolimit:base.NoLimit
structure Cx where
 prog:bp
 w:bQ
 K:ah
 mg:Str->Option ak
 base:cB
 A:cy
 N:List Str
 GA:az
 H_0:Hp
 env:Env
 outer:List Env
 stack:List Env
 ex:List af
 fn:Str->Bool
 calm:Bool
 pn:List (af×Obj)
 xe:ak->az->Prop
def SX(l:List Env):List af:=l.filterMap (·.frame)
abbrev Cx.fs(X:Cx):List af:=SX X.outer
def Vis(sc:Scope)(x:Str):Prop:=sc.names.lookup x=some .local∨sc.names.lookup x=some .cell∨sc.names.lookup x=some .free
def Loc(sc:Scope)(x:Str):Prop:=sc.names.lookup x=some .local∨sc.names.lookup x=some .cell
def Look(env:Env)(h:cB)(m:Str->Option ak)(x:Str)(u:ak):Prop:=(env.kindOf x=some .local/\m x=some u)∨((env.kindOf x=some .cell∨env.kindOf x=some .free)/\∃c,env.cells.lookup x=some c/\h.IsCell c (some u))
structure Cx.Ok(X:Cx):Prop where
 mod:Mod X.K X.mg X.base
 kind:X.env.scope.kind=.function
 glob:X.env.globals=bI
 blt:X.env.builtins=Ki
 above:X.GA.heap.objs.size<=X.env.locals
 inj:∀x y c,X.env.cells.lookup x=some c->X.env.cells.lookup y=some c->x=y
 has:∀x,(X.env.kindOf x=some .cell∨X.env.kindOf x=some .free)->∃c,X.env.cells.lookup x=some c
 cab:∀x c,X.fn x=true->X.env.cells.lookup x=some c->X.GA.heap.objs.size<=c
 hd:X.calm=true->X.A.handled=none
 frames:X.A.frames=some X.stack
 stk:X.stack=X.outer∨(X.stack=X.env::X.outer/\X.env.frame=some X.env.locals)
 exf:∀b∈X.ex,b≠X.env.locals/\∀x c,X.env.cells.lookup x=some c->c≠b
 bs:∀b o,X.base.get? b=some o->X.GA.heap.get? b=some o/\X.H_0 b=none
 VZ:X.base.objs.size<=X.GA.heap.objs.size
 SY:∀b o,X.base.get? b=some o->b∉X.ex
 S1:∀b∈X.ex,b∉X.fs
 CW:X.GA.heap.FunFrames X.base X.outer
 YQ:∀b∈X.fs,X.H_0 b=none
structure Inv(X:Cx)(pins:List (af×Obj))(σ:List (Option V))(H:Hp)(s:az):Prop where
 ok:X.Ok
 os:s.os=X.GA.os
 bare:Wb s.gens
 base:Un X.fs X.ex X.H_0 H X.GA.heap s.heap
 loc:∃m,s.heap.Ns X.env.locals m/\∀(i:Nat)(x:Str)(v:V),X.N[i]? =some x->σ[i]? =some (some v)->Vis X.env.scope x->∃u,RelV v u/\Look X.env s.heap m x u
 cell:∀x c,X.env.cells.lookup x=some c->∃v,s.heap.IsCell c v
 free:H X.env.locals=none
 um:∀x c,X.env.cells.lookup x=some c->H c=none
 pin:∀p∈X.pn++pins,s.heap.get? p.1=some p.2/\H p.1=none/\p.1≠X.env.locals/\p.1∉X.fs/\∀v,p.2.data≠.cell v
 dQ:u5 X.prog X.w H s.heap
 len:σ.length=X.N.length
section
variable{X:Cx}{pins:List (af×Obj)}{σ:List (Option V)}{H H':Hp}{s:az}{h':cB}
theorem Cx.Ok.afy(ok:X.Ok){b:af}{o:Obj}(e:X.base.get? b=some o):b∉X.fs:=λhb=>by
 have:=(ok.CW.mem hb).1;rw[e] at this;cases this
theorem Inv.bs(I:Inv X pins σ H s):∀b o,X.base.get? b=some o->s.heap.get? b=some o/\H b=none:=λb o e=>⟨I.base.keep b o (I.ok.bs b o e).1 (I.ok.bs b o e).2 (I.ok.afy e) (I.ok.SY b o e),I.base.free b o (I.ok.bs b o e).1 (I.ok.bs b o e).2 (I.ok.SY b o e)⟩
theorem Inv.bk(I:Inv X pins σ H s):∀b o,X.base.get? b=some o->s.heap.get? b=some o:=λb o e=>(I.bs b o e).1
theorem Inv.mod(I:Inv X pins σ H s):Mod X.K X.mg X.base:=I.ok.mod
theorem Inv.Bl(I:Inv X pins σ H s):X.K.In s.heap:=I.ok.mod.kin.keeps I.bk
theorem Inv.nolimit(I:Inv X pins σ H s):s.heap.NoLimit:=I.ok.mod.nolimit.keeps I.bk
theorem Inv.lt(I:Inv X pins σ H s):X.env.locals<s.heap.objs.size:=let⟨_,hn,_⟩:=I.loc;hn.lt
theorem Inv.sz(I:Inv X pins σ H s):X.GA.heap.objs.size<=s.heap.objs.size:=ao I.ok.above (cX I.lt)
theorem Inv.ab3(I:Inv X pins σ H s){a:af}(h:s.heap.objs.size<=a):a∉X.fs:=λhb=>by obtain⟨_,o,ho,_⟩:=I.ok.CW.mem hb;exact absurd (bM (bg ho) (ao I.sz h)) (gY _)
theorem Inv.YR(I:Inv X pins σ H s):∀x c,X.env.cells.lookup x=some c->c≠X.env.locals:=λx c e z=>by
 refine jk ?_ (I.cell x c e);rintro v o ho hd;obtain⟨m,⟨o',es,ep,Py,QX,_⟩,_⟩:=I.loc;rw[z,Py] at ho;cases ho;rw[QX] at hd;cases hd
theorem Inv.CW(I:Inv X pins σ H s):s.heap.FunFrames X.base X.outer:=by
 have all:∀(l:List Env),(∀b∈SX l,b∈X.fs)->X.GA.heap.FunFrames X.base l->s.heap.FunFrames X.base l:=by
  intro l
  induction l with
  |nil=>intro _ _;trivial
  |cons env r ih=>intro hs hl;obtain⟨hk,⟨L,o,hf,hn,ho,hd⟩,hr⟩:=hl;have hL:L∈X.fs:=hs L (by unfold SX;rw[rp,hf];exact dc);obtain⟨sl,e⟩:=I.base.slot L o ho (I.ok.YQ L hL) hL λz=>I.ok.S1 L z hL;exact⟨hk,dH L _ hf hn e hd,ih (λb hb=>hs b (by unfold SX;rw[rp,hf];exact bW _ hb)) hr⟩
 exact all X.outer (λ_ hb=>hb) I.ok.CW
theorem Inv.stack(I:Inv X pins σ H s):s.heap.FunFrames X.base X.stack:=by
 rcases I.ok.stk with e|⟨e,hf⟩
 ·rw[e];exact I.CW
 ·rw[e];obtain⟨m,hn,_⟩:=I.loc;refine .cons (by rw[I.ok.kind];decide) hf hn ?_ I.CW;exact Heap.get?_none_of_le (ao I.ok.VZ I.ok.above)
theorem Inv.Np(I:Inv X pins σ H s):∀b∈SX X.stack,b∈X.env.locals::X.fs:=λb hb=>by
 rcases I.ok.stk with e|⟨e,hf⟩
 ·rw[e] at hb;exact bW _ hb
 ·rw[e] at hb;unfold SX at hb;rw[rp,hf] at hb;exact hb
theorem Inv.IC(I:Inv X pins σ H s):∀b∈SX X.stack,H b=none:=λb hb=>by
 rcases aB.mp (I.Np b hb) with e|hb
 ·rw[e];exact I.free
 ·obtain⟨_,o,ho,_⟩:=I.ok.CW.mem hb;exact I.base.free b o ho (I.ok.YQ b hb) λz=>I.ok.S1 b z hb
theorem Inv.step{g':Array aes}{t':Nat}{d':Drawn}{ch:List af}(I:Inv X pins σ H s)(Bi:∀b∈ch,(b∈X.ex∨X.GA.heap.objs.size<=b)/\b≠X.env.locals/\(∀x c,X.env.cells.lookup x=some c->c≠b)/\∀p∈X.pn++pins,p.1≠b)(keep:∀b o,b≠X.env.locals->b∉X.fs->b∉ch->s.heap.get? b=some o->H b=none->h'.get? b=some o)(slot:∀b o,b≠X.env.locals->b∈X.fs->b∉ch->s.heap.get? b=some o->H b=none->∃sl,h'.get? b=some {o with slots:=sl})(free:∀b o,b∉ch->s.heap.get? b=some o->H b=none->H' b=none)(there:∀b o,b∉ch->s.heap.get? b=some o->∃o',h'.get? b=some o')(Kw:∀b xs,H b=some (.tup xs)->H' b=some (.tup xs))(IA:∀b o u,H b=some (.vp o u)->H' b=some (.vp o u))(IB:∀b ps,H b=some (.vj ps)->∃more,H' b=some (.vj (ps++more)))(ns:∀m,s.heap.Ns X.env.locals m->h'.Ns X.env.locals m)(dQ:u5 X.prog X.w H' h')(hg:Wb g'):
  Inv X pins σ H' {s with heap:=h',gens:=g',drawn:=d',toks:=t'}:=by
 have neL:∀b o,X.GA.heap.get? b=some o->b≠X.env.locals:=λb o e=>bV (bM (bg e) I.ok.above);have neC:∀b o,X.GA.heap.get? b=some o->b∉X.ex->b∉ch:=λb o e hx hb=>by
  rcases(Bi b hb).1 with z|z
  ·exact hx z
  ·exact absurd (bM (bg e) z) (gY _)
 have cellK:∀x c,X.env.cells.lookup x=some c->∀v,s.heap.IsCell c v->h'.IsCell c v:=λx c e v ⟨o,ho,hd⟩=>by
  have nch:c∉ch:=λz=>(Bi c z).2.2.1 x c e rfl;by_cases hc:c∈X.fs
  ·obtain⟨sl,q⟩:=slot c o (I.YR x c e) hc nch ho (I.um x c e);exact ag q hd
  ·exact bq o (keep c o (I.YR x c e) hc nch ho (I.um x c e)) hd
 refine⟨I.ok,I.os,hg,⟨λb o e n hb hx=>?_,λb o e n hb hx=>?_,λb o e n hx=>?_,λb o e hx=>?_,λb xs e=>Kw b xs (I.base.Kw b xs e),λb o xs e=>IA b o xs (I.base.IA b o xs e),λb ps e=>?_⟩,?_,λx c e=>?_,?_,λx c e=>?_,λp hp=>?_,dQ,I.len⟩
 ·exact keep b o (neL b o e) hb (neC b o e hx) (I.base.keep b o e n hb hx) (I.base.free b o e n hx)
 ·obtain⟨sl,e1⟩:=I.base.slot b o e n hb hx;obtain⟨sl',e2⟩:=slot b _ (neL b o e) hb (neC b o e hx) e1 (I.base.free b o e n hx);exact⟨sl',e2⟩
 ·obtain⟨o',e1⟩:=I.base.there b o e hx;exact free b o' (neC b o e hx) e1 (I.base.free b o e n hx)
 ·obtain⟨o',e1⟩:=I.base.there b o e hx;exact there b o' (neC b o e hx) e1
 ·obtain⟨m1,e1⟩:=I.base.IB b ps e;obtain⟨m2,e2⟩:=IB b _ e1;exact⟨m1++m2,by rw[e2,Array.append_assoc]⟩
 ·obtain⟨m,hn,hl⟩:=I.loc;refine bq m (ns m hn) (λi x v e1 e2 e3=>?_);obtain⟨u,r,l⟩:=hl i x v e1 e2 e3;refine bq u r ?_;rcases l with l|⟨k,c,e,z⟩
  ·exact .inl l
  ·exact .inr ⟨k,bq c e (cellK x c e _ z)⟩
 ·obtain⟨v,z⟩:=I.cell x c e;exact⟨v,cellK x c e v z⟩
 ·obtain⟨m,⟨o,_,_,ho,_⟩,_⟩:=I.loc;exact free _ o (λz=>(Bi _ z).2.1 rfl) ho I.free
 ·refine jk ?_ (I.cell x c e);rintro v o ho hd;exact free c o (λz=>(Bi c z).2.2.1 x c e rfl) ho (I.um x c e)
 ·obtain⟨e,n,ne,nf,d⟩:=I.pin p hp;have nch:p.1∉ch:=λz=>(Bi p.1 z).2.2.2 p hp rfl;exact⟨keep p.1 p.2 ne nf nch e n,free p.1 p.2 nch e n,ne,nf,d⟩
theorem Inv.un{t':Nat}(I:Inv X pins σ H s)(u:Un X.fs [] H H' s.heap h')(dQ:u5 X.prog X.w H' h'):Inv X pins σ H' {s with heap:=h',toks:=t'}:=by
 obtain⟨m,⟨o,es,ep,ho,r⟩,_⟩:=id I.loc;obtain⟨sl,hL⟩:=u.any ho I.free (by simp);exact I.step (g':=s.gens) (d':=s.drawn) (ch:=[]) (λ_ z=>nomatch z) (λb o _ hb _ e n=>u.keep b o e n hb (by simp)) (λb o _ hb _ e n=>u.slot b o e n hb (by simp)) (λb o _ e n=>u.free b o e n (by simp)) (λb o _ e=>u.there b o e (by simp)) u.Kw u.IA u.IB (λm' hm=>by
  refine zZ ?_ hm;rintro o' XO XQ ⟨Py,r'⟩;rw[ho] at Py;cases Py;exact vo _ XO XQ ⟨hL,r'⟩) dQ I.bare
theorem Inv.call{g':Array aes}{t':Nat}{d':Drawn}{ch:List af}(I:Inv X pins σ H s)(u:Un (SX X.stack) ch H H' s.heap h')(dQ:u5 X.prog X.w H' h')(hg:Wb g')(Bi:∀b∈ch,(b∈X.ex∨X.GA.heap.objs.size<=b)/\b≠X.env.locals/\(∀x c,X.env.cells.lookup x=some c->c≠b)/\∀p∈X.pn++pins,p.1≠b):
  Inv X pins σ H' {s with heap:=h',gens:=g',drawn:=d',toks:=t'}:=by
 obtain⟨m,⟨o,es,ep,ho,r⟩,_⟩:=id I.loc;obtain⟨sl,hL⟩:=u.any ho I.free λz=>(Bi _ z).2.1 rfl;exact I.step (ch:=ch) Bi (λb o hL hb hc e n=>u.keep b o e n (λz=>(aB.mp (I.Np b z)).elim hL hb) hc) (λb o _ _ hc e n=>u.any e n hc) (λb o hc e n=>u.free b o e n hc) (λb o hc e=>u.there b o e hc) u.Kw u.IA u.IB (λm' hm=>by
  refine zZ ?_ hm;rintro o' XO XQ ⟨Py,r'⟩;rw[ho] at Py;cases Py;exact vo _ XO XQ ⟨hL,r'⟩) dQ hg
theorem Inv.turned{t':Nat}{it:af}(I:Inv X pins σ H s)(k:∀b o,b≠it->s.heap.get? b=some o->h'.get? b=some o)(hn:H it=none)(hL:it≠X.env.locals)(h1:it∈X.ex∨X.GA.heap.objs.size<=it)(h2:∀x c,X.env.cells.lookup x=some c->c≠it)(h3:∀p∈X.pn++pins,p.1≠it):Inv X pins σ H {s with heap:=h',toks:=t'}:=by
 have XR:∀b u,H b=some u->b≠it:=λb u e z=>by rw[z,hn] at e;cases e
 refine I.step (g':=s.gens) (d':=s.drawn) (ch:=[it]) (λb hb=>?_) (λb o _ _ hc e _=>k b o (λz=>hc (by simp[z])) e) (λb o _ _ hc e _=>⟨o.slots,k b o (λz=>hc (by simp[z])) e⟩) (λ_ _ _ _ n=>n)
  (λb o hc e=>⟨o,k b o (λz=>hc (by simp[z])) e⟩) (λ_ _ e=>e) (λ_ _ _ e=>e) (λb ps e=>⟨#[],by rw[e];simp⟩) (λm hm=>?_) (λb u e=>?_) I.bare
 ·have e:b=it:=by simpa using hb
  subst e;exact⟨h1,hL,h2,h3⟩
 ·refine zZ ?_ hm;rintro o es ep ⟨ho,r⟩;exact vo o es ep ⟨k _ o (nj hL) ho,r⟩
 ·refine(I.dQ b u e).Gy (λc v hc q=>k c v ?_ q) (λ_ q=>q) λ_ _ q=>q;rcases hc with z|z
  ·rw[z];exact XR b u e
  ·exact XR c _ z
theorem Inv.tok(I:Inv X pins σ H s)(t:Nat):Inv X pins σ H {s with toks:=t}:=I.un (h':=s.heap) (t':=t) Un.refl I.dQ
theorem Inv.kept{t':Nat}(I:Inv X pins σ H s)(k:∀b u,s.heap.get? b=some u->h'.get? b=some u):Inv X pins σ H {s with heap:=h',toks:=t'}:=I.un (Un.kept k) (I.dQ.kept k)
theorem Inv.laid{a:af}{o:HO}{t':Nat}(I:Inv X pins σ H s)(k:∀b u,s.heap.get? b=some u->h'.get? b=some u)(hp:s.heap.objs.size<=a)(new:fF X.prog X.w (upd H a o) h' a o):
  Inv X pins σ (upd H a o) {s with heap:=h',toks:=t'}:=I.un (Un.laid k hp (I.dQ.fresh hp)) (I.dQ.laid k hp new)
theorem Inv.write{x e:af}{o:HO}{t':Nat}(I:Inv X pins σ H s)(mu:YO (H x))(he:e=x∨H e=some (.own x))(k:∀b u,b≠e->s.heap.get? b=some u->h'.get? b=some u)(heo:∃u,h'.get? e=some u)(new:fF X.prog X.w (upd H x o) h' x o):Inv X pins σ (upd H x o) {s with heap:=h',toks:=t'}:=I.un (Un.write mu he k heo) (I.dQ.write mu he k heo new)
theorem Inv.weak{σ':List (Option V)}(I:Inv X pins σ H s)(hl:σ'.length=σ.length)(w:∀(i:Nat) v,σ'[i]? =some (some v)->σ[i]? =some (some v)):Inv X pins σ' H s:=⟨I.ok,I.os,I.bare,I.base,let⟨m,hn,S2⟩:=I.loc;(bq m hn (λi x v e1 e2 e3=>S2 i x v e1 (w i v e2) e3)),I.cell,I.free,I.um,I.pin,I.dQ,hl.trans I.len⟩
theorem Inv.Du{Hw:List (af×Obj)}(I:Inv X pins σ H s)(h:∀p∈Hw,s.heap.get? p.1=some p.2/\H p.1=none/\p.1≠X.env.locals/\p.1∉X.fs/\∀v,p.2.data≠.cell v):Inv X Hw σ H s:=⟨I.ok,I.os,I.bare,I.base,I.loc,I.cell,I.free,I.um,λp hp=>(aE.mp hp).elim (λz=>I.pin p (eC _ z)) (h p),I.dQ,I.len⟩
theorem DN{N:List Str}(hN:N.Nodup){i j:Nat}{x:Str}(a:N[i]? =some x)(b:N[j]? =some x):i=j:=by obtain⟨h1,e1⟩:=cn.mp a;obtain⟨h2,e2⟩:=cn.mp b;exact(aaR hN).mp (e1.trans e2.symm)
theorem Hx{M:YE}{A:cy}{E:ak->az->Prop}{i:Nat}{x:Str}{v:V}{u:ak}{Q:Unit->az->Prop}(I:Inv X pins σ H s)(hN:X.N.Nodup)(hi:X.N[i]? =some x)(hx:Loc X.env.scope x)(r:RelV v u)(h:∀s',Inv X pins (σ.set i (some v)) H s'->(∃a,eM a s.heap s'.heap/\(a=X.env.locals∨X.env.cells.lookup x=some a))->Q () s')(hf:X.fn x=true∨X.env.scope.names.lookup x=some .local:=by first|exact .inl rfl|exact .inr rfl|assumption):bj M A (storeName X.env x u) Q E s:=by
 obtain⟨m,hn,hl⟩:=id I.loc;have YS:(X.env.scope.kind==.class||(X.env.scope.kind==.module&&X.env.locals !=X.env.globals))=false:=by rw[I.ok.kind];rfl
 have ab5:i<σ.length:=by rw[I.len];exact(cn.mp hi).1
 have YR:=I.YR;have tracked:∀{a:af}{h':cB},(∃o,s.heap.get? a=some o/\H a=none)->eM a s.heap h'->u5 X.prog X.w H h':=λ{a h'} ha hs b ob e=>by
  obtain⟨_,_,Hy⟩:=ha;refine(I.dQ b ob e).Gy (λc w' hc q=>(hs.2 c ?_).trans q) (λ_ q=>q) λ_ _ q=>q;rintro rfl;rcases hc with rfl|hc
  ·rw[Hy] at e;cases e
  ·rw[Hy] at hc;cases hc
 rcases hx with hk|hk
 ·refine wpAny_storeName_local hk hn (λh' hn' hs=>?_) YS;refine zZ ?_ (id hn);rintro oL _ _ ⟨hoL,_⟩;refine h _ ⟨I.ok,I.os,I.bare,⟨λb o e n hb hx=>?_,λb o e n hb hx=>?_,I.base.free,λb o e hx=>?_,I.base.Kw,I.base.IA,I.base.IB⟩,ag hn' (λj y v' e1 e2 e3=>?_),λy c e=>?_,I.free,I.um,λp hp=>?_,tracked (bq oL hoL I.free) hs,by simpa using I.len⟩ (ag hs (.inl rfl))
  ·exact(hs.2 b (bV (bM (bg e) I.ok.above))).trans (I.base.keep b o e n hb hx)
  ·obtain⟨sl,e1⟩:=I.base.slot b o e n hb hx;exact⟨sl,(hs.2 b (bV (bM (bg e) I.ok.above))).trans e1⟩
  ·obtain⟨o',e1⟩:=I.base.there b o e hx;exact⟨o',(hs.2 b (bV (bM (bg e) I.ok.above))).trans e1⟩
  ·by_cases hj:j=i
   ·subst hj;rw[hi] at e1;cases e1;rw[yb ab5] at e2;cases e2;exact bq u r (.inl ⟨hk,by simp⟩)
   ·rw[A6 (nj hj)] at e2;obtain⟨u',r',q⟩:=hl j y v' e1 e2 e3;refine bq u' r' ?_;rcases q with⟨k,e⟩|⟨k,c,e,z⟩
    ·refine .inl ⟨k,?_⟩;have:y≠x:=λe=>hj (DN hN e1 (e▸hi));simp[this,e]
    ·exact .inr ⟨k,bq c e (z.sameBut hs (YR y c e))⟩
  ·obtain⟨w',z⟩:=I.cell y c e;exact⟨w',z.sameBut hs (YR y c e)⟩
  ·obtain⟨e,n,ne,nf,d⟩:=I.pin p hp;exact⟨(hs.2 p.1 ne).trans e,n,ne,nf,d⟩
 ·have hfn:X.fn x=true:=by
   rcases hf with z|z
   ·exact z
   ·rw[z] at hk;cases hk
  obtain⟨c,hc⟩:=I.ok.has x (.inl hk);obtain⟨w',z⟩:=I.cell x c hc;refine wpAny_storeName_cell I.ok.kind hk hc z (λh' Gf hs=>?_);obtain⟨oc,Wj,afA⟩:=id z;refine h {s with heap:=h'} ⟨I.ok,I.os,I.bare,⟨λb o e n hb hx=>?_,λb o e n hb hx=>?_,I.base.free,λb o e hx=>?_,I.base.Kw,I.base.IA,I.base.IB⟩,bq m (hn.sameBut hs (nj (YR x c hc))) (λj y v' e1 e2 e3=>?_),λy c' e=>?_,I.free,I.um,λp hp=>?_,tracked (bq oc Wj (I.um x c hc)) hs,by simpa using I.len⟩ (bq c hs (.inr hc))
  ·exact(hs.2 b (bV (bM (bg e) (I.ok.cab x c hfn hc)))).trans (I.base.keep b o e n hb hx)
  ·obtain⟨sl,e1⟩:=I.base.slot b o e n hb hx;exact⟨sl,(hs.2 b (bV (bM (bg e) (I.ok.cab x c hfn hc)))).trans e1⟩
  ·obtain⟨o',e1⟩:=I.base.there b o e hx;exact⟨o',(hs.2 b (bV (bM (bg e) (I.ok.cab x c hfn hc)))).trans e1⟩
  ·by_cases hj:j=i
   ·subst hj;rw[hi] at e1;cases e1;rw[yb ab5] at e2;cases e2;exact bq u r (.inr ⟨.inl hk,bq c hc Gf⟩)
   ·rw[A6 (nj hj)] at e2;obtain⟨u',r',q⟩:=hl j y v' e1 e2 e3;refine bq u' r' ?_;rcases q with q|⟨k,c',e,z'⟩
    ·exact .inl q
    ·refine .inr ⟨k,bq c' e (z'.sameBut hs ?_)⟩;rintro rfl;exact hj (DN hN e1 (I.ok.inj _ _ _ e hc▸hi))
  ·by_cases S6:c'=c
   ·subst S6;exact⟨_,Gf⟩
   ·obtain⟨w2,z2⟩:=I.cell y c' e;exact⟨w2,z2.sameBut hs S6⟩
  ·obtain⟨e,n,ne,nf,d⟩:=I.pin p hp;refine⟨(hs.2 p.1 ?_).trans e,n,ne,nf,d⟩;intro q;rw[q,Wj] at e;have q':oc=p.2:=aX e;exact d w' (by rw[<-q'];exact afA)
theorem Kx{M:YE}{A:cy}{E:ak->az->Prop}{i:Nat}{x:Str}{v:V}{u:ak}{Q:Unit->az->Prop}(I:Inv X pins σ H s)(hN:X.N.Nodup)(hi:X.N[i]? =some x)(hx:Loc X.env.scope x)(r:RelV v u)(h:∀s',Inv X pins (σ.set i (some v)) H s'->Q () s')(hf:X.fn x=true∨X.env.scope.names.lookup x=some .local:=by first|exact .inl rfl|exact .inr rfl|assumption):bj M A (storeName X.env x u) Q E s:=Hx I hN hi hx r (λs' I' _=>h s' I') hf
theorem Inv.ab6{s':az}{ch:List af}(I:Inv X pins σ H s)(ho:s'.os=s.os)(u:Un (SX X.stack) ch H H' s.heap s'.heap)(dQ:u5 X.prog X.w H' s'.heap)(hg:Wb s'.gens)(Bi:∀b∈ch,(b∈X.ex∨X.GA.heap.objs.size<=b)/\b≠X.env.locals/\(∀x c,X.env.cells.lookup x=some c->c≠b)/\∀p∈X.pn++pins,p.1≠b):Inv X pins σ H' s':=by obtain⟨h',g',d',t',o'⟩:=s';have e:o'=s.os:=ho;subst e;exact I.call (g':=g') (t':=t') (d':=d') u dQ hg Bi
end
abbrev XK:=ak->Option af->Hp->Prop
abbrev St:=List (Option V)
abbrev VK:=V->Hp->Prop
abbrev TE:=St->Hp->VK->Prop
abbrev TT:=St->Hp->(Bool->Hp->Prop)->Prop
abbrev TA:=St->Hp->(List V->Hp->Prop)->Prop
structure Ends where
 nx:St->Hp->Prop
 rt:VK
 bk:St->Hp->Prop:=λ_ _=>False
 ct:St->Hp->Prop:=λ_ _=>False
abbrev TS:=Ends->St->Hp->Prop
def EP(X:Cx)(pins:List (af×Obj))(σ:St)(Q:VK)(u:ak)(s':az):Prop:=∃v H',Inv X pins σ H' s'/\RelV v u/\Q v H'
def TP(X:Cx)(pins:List (af×Obj))(σ:St)(Q:Bool->Hp->Prop)(b:Bool)(s':az):Prop:=∃H',Inv X pins σ H' s'/\Q b H'
def AP(X:Cx)(pins:List (af×Obj))(σ:St)(Q:List V->Hp->Prop)(us:List ak)(s':az):Prop:=∃vs H',Inv X pins σ H' s'/\Vals vs us/\Q vs H'
def SP(X:Cx)(pins:List (af×Obj))(D:Ends)(f:Flow)(s':az):Prop:=
 match f with
 |.next=>∃σ' H',Inv X pins σ' H' s'/\D.nx σ' H'
 |.brk=>∃σ' H',Inv X pins σ' H' s'/\D.bk σ' H'
 |.cont=>∃σ' H',Inv X pins σ' H' s'/\D.ct σ' H'
 |.ret u=>∃v σ' H',Inv X pins σ' H' s'/\RelV v u/\D.rt v H'
def PE(X:Cx)(e:Expr)(t:TE):Prop:=∀(pins:List (af×Obj))(s:az)(σ:St)(H:Hp)(Q:VK),Inv X pins σ H s->t σ H Q->bj (model X.prog X.w) X.A (eval e X.env) (EP X pins σ Q) X.xe s
def PT(X:Cx)(e:Expr)(t:TT):Prop:=∀(pins:List (af×Obj))(s:az)(σ:St)(H:Hp)(Q:Bool->Hp->Prop),Inv X pins σ H s->t σ H Q->bj (model X.prog X.w) X.A (isTrue e X.env (eval e X.env)) (TP X pins σ Q) X.xe s
def PW(X:Cx)(e:Expr)(t:TT):Prop:=∀(whole:Sem ak)(pins:List (af×Obj))(s:az)(σ:St)(H:Hp)(Q:Bool->Hp->Prop),Inv X pins σ H s->t σ H Q->bj (model X.prog X.w) X.A (isTrue e X.env whole) (TP X pins σ Q) X.xe s
theorem PW.pt{X:Cx}{e:Expr}{t:TT}(h:PW X e t):PT X e t:=h _
def PA(X:Cx)(es:List Expr)(t:TA):Prop:=∀(pos:Pos)(pins:List (af×Obj))(s:az)(σ:St)(H:Hp)(Q:List V->Hp->Prop),Inv X pins σ H s->t σ H Q->bj (model X.prog X.w) X.A (spliced (fO pos (bO es X.env))) (AP X pins σ Q) X.xe s
def PS(X:Cx)(st:cD)(t:TS):Prop:=∀(pins:List (af×Obj))(s:az)(σ:St)(H:Hp)(D:Ends),Inv X pins σ H s->t D σ H->bj (model X.prog X.w) X.A (exec st X.env) (SP X pins D) X.xe s
def Nq(X:Cx)(st:List cD)(t:TS):Prop:=∀(pins:List (af×Obj))(s:az)(σ:St)(H:Hp)(D:Ends),Inv X pins σ H s->t D σ H->bj (model X.prog X.w) X.A (execs st X.env) (SP X pins D) X.xe s
theorem iM{α:Type}{t:Sem α}{Q Q':α->az->Prop}{M:YE}{A:cy}{E:ak->az->Prop}{s:az}(h:bj M A t Q E s)(hQ:∀a s,Q a s->Q' a s):bj M A t Q' E s:=fq h hQ λ_ _ x=>x
section
variable{X:Cx}
def rz(i:Nat):TE:=λσ H Q=>∃v,σ[i]? =some (some v)/\Q v H
def tC(v:V):TE:=λ_ H Q=>Q v H
theorem YT{i:Nat}{x:Str}{pos:Pos}(hN:X.N[i]? =some x)(hv:Vis X.env.scope x)(hd:(x==("__debug__":Str))=false:=by decide)(S8:(x==("__classdict__":Str))=false:=by decide):PE X (.Name x pos) (rz i):=by
 intro pins s σ H Q I h;obtain⟨v,e,h⟩:=h;obtain⟨m,hn,hl⟩:=I.loc;obtain⟨u,r,l⟩:=hl i x v hN e hv;have fin:EP X pins σ Q u s:=bt v H I r h;rcases l with⟨hk,hm⟩|⟨hk,c,hc,mf⟩
 ·exact aih (wpAny_loadName_local I.ok.kind hk hn hm fin) hd
 ·rcases hk with hk|hk
  ·exact aih (wpAny_loadName_cell I.ok.kind hk hc mf fin) hd
  ·exact aih (wpAny_loadName_free I.ok.kind hk hc mf fin S8) hd
theorem bB{i j pos}:PE X (.Constant (.int i) j pos) (tC (.int i)):=λ_ _ _ H _ I h=>aib (bt (.int i) H (I.tok _) ⟨_,rfl⟩ h)
theorem kf{b j pos}:PE X (.Constant (.bool b) j pos) (tC (.bl b)):=λ_ _ _ H _ I h=>Constant_bool (bt (.bl b) H I rfl h)
theorem lT{j pos}:PE X (.Constant .none j pos) (tC .h9):=λ_ _ _ H _ I h=>Constant_none (bt .h9 H I rfl h)
theorem fb{x j pos}:PE X (.Constant (.str x) j pos) (tC (.str x)):=λ_ _ _ H _ I h=>Calls.Constant_str (bt (.str x) H (I.tok _) ⟨_,rfl⟩ h)
def Gl(X:Cx)(x:Str):Prop:=X.env.kindOf x=some .globalImplicit
theorem Dv{E:ak->az->Prop}{pins:List (af×Obj)}{s:az}{σ:St}{H:Hp}{x:Str}{u:ak}{pos:Pos}{Q:ak->az->Prop}(I:Inv X pins σ H s)(hg:Gl X x)(hm:X.mg x=some u)(h:Q u s)(hd:(x==("__debug__":Str))=false:=by decide):bj (model X.prog X.w) X.A (eval (.Name x pos) X.env) Q E s:=VJ I.ok.kind hg (Calls.loadGlobal_global (by rw[I.ok.glob];exact I.mod.glob.keeps I.bk) hm h) hd
theorem vq{E:ak->az->Prop}{pins:List (af×Obj)}{s:az}{σ:St}{H:Hp}{x:Str}{u:ak}{pos:Pos}{Q:ak->az->Prop}(I:Inv X pins σ H s)(hg:Gl X x)(hm:X.mg x=none)(hv:di x=some u)(h:Q u s)(hn:x≠"__name__":=by decide)(hd:(x==("__debug__":Str))=false:=by decide):bj (model X.prog X.w) X.A (eval (.Name x pos) X.env) Q E s:=by obtain⟨mb,h1,h2⟩:=I.mod.blt;exact VJ I.ok.kind hg (Calls.loadGlobal_builtin (by rw[I.ok.glob];exact I.mod.glob.keeps I.bk) hm (by rw[I.ok.blt];exact h1.keeps I.bk) ((h2 x hn).trans hv) h) hd
theorem Wk{x:Str}{v:V}{u:ak}{pos:Pos}(hg:Gl X x)(hm:X.mg x=some u)(r:RelV v u)(hd:(x==("__debug__":Str))=false:=by decide):PE X (.Name x pos) (tC v):=λ_ _ _ H _ I h=>Dv I hg hm (bt v H I r h) hd
variable{a b:Expr}{ta tb:TE}{pos:Pos}
def PC(X:Cx)(op:YF)(a b:Expr)(t:TE):Prop:=
 ∀(pins:List (af×Obj))(s:az)(σ:St)(H:Hp)(Q:VK),Inv X pins σ H s->t σ H Q->
  bj (model X.prog X.w) X.A (eval a X.env) (λv s₁=>bj (model X.prog X.w) X.A (eval b X.env) (λu s₂=>bj (model X.prog X.w) X.A (eE op v u) (EP X pins σ Q) X.xe s₂) X.xe s₁) X.xe s
def tB(t:TE):TT:=λσ H Q=>t σ H λx H1=>∃c,x=.bl c/\Q c H1
theorem YU{op:YF}{t:TE}(h:PC X op a b t)(h1:rQ op b=false:=by first|exact S9 _ (by decide) (by decide)|rfl):PE X (.Compare a [op] [b] pos) t:=λpins s σ H Q I hw=>wpAny_Compare1 (h pins s σ H Q I hw) h1
theorem yQ{op:YF}{t:TE}(h:PC X op a b t)(h1:rQ op b=false:=by first|exact S9 _ (by decide) (by decide)|rfl):PT X (.Compare a [op] [b] pos) (tB t):=by
 intro pins s σ H Q I hw;refine abK (iM (h pins s σ H _ I hw) λv s1 h1=>iM h1 λu s2 h2=>iM h2 λc s3 ⟨x,H1,I1,r1,q1⟩=>?_) h1;obtain⟨d,rfl,q⟩:=q1;cases r1;exact fQ (bq H1 I1 q)
theorem fY{e:Expr}{t:TE}(h:PE X e t)(he:∀whole,isTrue e X.env whole=(do let v <-whole;aa5 e.pos;holding [v] (truthy v)):=by intro _;rfl):PT X e (tB t):=by
 intro pins s σ H Q I hw;refine isTrue_plain (iM (h pins s σ H _ I hw) λv s1 ⟨x,H1,I1,r1,q1⟩=>?_) (he _);obtain⟨d,rfl,q⟩:=q1;cases r1;exact fQ (bq H1 I1 q)
variable{tA tB':TT}{rest:List Expr}
def afB(t u:TT):TT:=λσ H Q=>t σ H λc H1=>if c=true then u σ H1 Q else Q false H1
def tOr(t u:TT):TT:=λσ H Q=>t σ H λc H1=>if c=true then Q true H1 else u σ H1 Q
def afC(t:TT):TT:=λσ H Q=>t σ H λc H1=>Q (!c) H1
theorem Dx(ha:PT X a tA):PW X (.BoolOp .And [a] pos) tA:=by
 intro wh pins s σ H Q I h;refine isTrue_and (iM (ha pins s σ H Q I h) λc s1 e=>?_)
 cases c with
 |true=>exact isTrue_and_nil e
 |false=>exact e
theorem oK(ha:PT X a tA):PW X (.BoolOp .Or [a] pos) tA:=by
 intro wh pins s σ H Q I h;refine isTrue_or (iM (ha pins s σ H Q I h) λc s1 e=>?_)
 cases c with
 |false=>exact isTrue_or_nil e
 |true=>exact e
theorem ID(ha:PT X a tA)(hb:PW X (.BoolOp .And (b::rest) pos) tB'):PW X (.BoolOp .And (a::b::rest) pos) (afB tA tB'):=by
 intro wh pins s σ H Q I h;refine isTrue_and (iM (ha pins s σ H _ I h) λc s1 ⟨H1,I1,q1⟩=>?_)
 cases c with
 |true=>exact hb wh pins s1 σ H1 Q I1 q1
 |false=>exact bq H1 I1 q1
theorem rT(ha:PT X a tA)(hb:PW X (.BoolOp .Or (b::rest) pos) tB'):PW X (.BoolOp .Or (a::b::rest) pos) (tOr tA tB'):=by
 intro wh pins s σ H Q I h;refine isTrue_or (iM (ha pins s σ H _ I h) λc s1 ⟨H1,I1,q1⟩=>?_)
 cases c with
 |true=>exact bq H1 I1 q1
 |false=>exact hb wh pins s1 σ H1 Q I1 q1
theorem gI(ha:PT X a tA):PT X (.UnaryOp .Not a pos) (afC tA):=by intro pins s σ H Q I h;exact isTrue_not (ha pins s σ H (λc H1=>Q (!c) H1) I h)
def ab7(ta tb:TE):TE:=λσ H Q=>ta σ H λx H1=>∃c,x=.bl c/\if c=true then tb σ H1 Q else Q (.bl false) H1
def afD(ta tb:TE):TE:=λσ H Q=>ta σ H λx H1=>∃c,x=.bl c/\if c=true then Q (.bl true) H1 else tb σ H1 Q
theorem pL{op}{t:TE}(h:PE X a t):PE X (.BoolOp op [a] pos) t:=λpins s σ H Q I hw=>BoolOp_one (h pins s σ H Q I hw)
theorem mx(ha:PE X a ta)(hb:PE X (.BoolOp .And (b::rest) pos) tb):PE X (.BoolOp .And (a::b::rest) pos) (ab7 ta tb):=by
 intro pins s σ H Q I h;refine BoolOp_and (iM (ha pins s σ H _ I h) λv s1 ⟨x,H1,I1,r1,q1⟩=>?_);obtain⟨c,rfl,q1⟩:=q1;cases r1;refine fQ ?_
 cases c with
 |true=>exact hb pins s1 σ H1 Q I1 q1
 |false=>exact bt (.bl false) H1 I1 rfl q1
theorem ab8(ha:PE X a ta)(hb:PE X (.BoolOp .Or (b::rest) pos) tb):PE X (.BoolOp .Or (a::b::rest) pos) (afD ta tb):=by
 intro pins s σ H Q I h;refine BoolOp_or (iM (ha pins s σ H _ I h) λv s1 ⟨x,H1,I1,r1,q1⟩=>?_);obtain⟨c,rfl,q1⟩:=q1;cases r1;refine fQ ?_
 cases c with
 |false=>exact hb pins s1 σ H1 Q I1 q1
 |true=>exact bt (.bl true) H1 I1 rfl q1
def tIf(t:TT)(ta tb:TE):TE:=λσ H Q=>t σ H λc H1=>if c=true then ta σ H1 Q else tb σ H1 Q
theorem Ta{c:Expr}(hc:PT X c tA)(ha:PE X a ta)(hb:PE X b tb):PE X (.IfExp c a b pos) (tIf tA ta tb):=by
 intro pins s σ H Q I h;refine wpAny_IfExp (iM (hc pins s σ H _ I h) λd s1 ⟨H1,I1,q1⟩=>?_)
 cases d with
 |true=>exact ha pins s1 σ H1 Q I1 q1
 |false=>exact hb pins s1 σ H1 Q I1 q1
end
def bG(K:ah)(H:Hp)(a:af)(xs:List V):Prop:=
 Rd H a (.lst xs)∨
  ∃(o:Obj)(its:Array ak)(n:Nat),K.lookup a=some o/\o.cls=.type "list"/\o.dict=none/\o.data=.seq its n/\its.size<=aA/\Vals xs its.toList
def nY(K:ah)(H:Hp)(a:af)(xs:List V):Prop:=
 Rd H a (.tup xs)∨
  ∃(o:Obj)(its:Array ak)(n:Nat),K.lookup a=some o/\o.cls=.type "tuple"/\o.data=.seq its n/\its.size<=aA/\Vals xs its.toList
def afE:ak->Option V
 |.none=>some .h9
 |.bool b=>some (.bl b)
 |.int i _=>some (.int i)
 |.str x _=>some (.str x)
 |.bytes b _=>some (.Nc b)
 |.float b _=>some (.YM b)
 |.ref a=>some (.ref a)
 |.type n=>some (.ty n)
 |_=>none
theorem RelV.abs{x:V}{u:ak}(r:RelV x u):afE u=some x:=by
 cases x with
 |h9=>cases r;rfl
 |bl _=>cases r;rfl
 |int _=>obtain⟨t,rfl⟩:=r;rfl
 |str _=>obtain⟨t,rfl⟩:=r;rfl
 |Nc _=>obtain⟨t,rfl⟩:=r;rfl
 |YM _=>obtain⟨t,rfl⟩:=r;rfl
 |ref _=>cases r;rfl
 |ty _=>cases r;rfl
theorem RelV.inj{x y:V}{u:ak}(r:RelV x u)(q:RelV y u):x=y:=aX (r.abs.symm.trans q.abs)
theorem Vals.inj:∀{xs ys:List V}{us:List ak},Vals xs us->Vals ys us->xs=ys
 |_,_,_,.nil,.nil=>rfl
 |_,_,_,.cons r t,.cons r' t'=>by rw[r.inj r',Vals.inj t t']
section
variable{X:Cx}{pins:List (af×Obj)}{σ:St}{H:Hp}{s:az}{a:af}{xs ys:List V}
theorem bG.of{K:ah}(h:H a=some (.lst xs)):bG K H a xs:=.inl (.inl h)
theorem nY.of{K:ah}(h:H a=some (.tup xs)):nY K H a xs:=.inl (.inl h)
theorem Inv.list(I:Inv X pins σ H s)(h:bG X.K H a xs):∃its:List ak,Vals xs its/\PlainL s.heap a its.toArray/\xs.length<=aA:=by
 rcases h with h|⟨o,its,n,hk,hc,hd,hs,hz,r⟩
 ·obtain⟨z,its,n,r,e⟩:=h.ok I.dQ;exact bP its r (dH _ n e rfl rfl rfl) z
 ·refine bP its.toList r (dH o n (I.Bl a o hk) hc hd (by simpa using hs)) ?_;have e:=r.length;simp only[iB] at e;omega
theorem Inv.tuple(I:Inv X pins σ H s)(h:nY X.K H a xs):∃its:List ak,Vals xs its/\IsTup s.heap a its.toArray/\xs.length<=aA:=by
 rcases h with h|⟨o,its,n,hk,hc,hs,hz,r⟩
 ·obtain⟨z,its,r,p⟩:=h.ok I.dQ;exact bP its r p z
 ·refine bP its.toList r (bP o (I.Bl a o hk) hc ⟨n,by simpa using hs⟩) ?_;have e:=r.length;simp only[iB] at e;omega
theorem Inv.pM(I:Inv X pins σ H s)(h:bG X.K H a xs)(h':bG X.K H a ys):xs=ys:=by
 refine cH ?_ (I.list h);rintro its r ⟨o,n,e,_,_,d⟩ _;refine cH ?_ (I.list h');rintro its' r' ⟨o',n',e',_,_,d'⟩ _;rw[e] at e';cases e';rw[d] at d';injection d' with d1 _
 have:its=its':=by simpa using congrArg F8 d1
 subst this;exact r.inj r'
theorem Inv.QY(I:Inv X pins σ H s)(h:nY X.K H a xs)(h':nY X.K H a ys):xs=ys:=by
 refine cH ?_ (I.tuple h);rintro its r ⟨o,e,_,n,d⟩ _;refine cH ?_ (I.tuple h');rintro its' r' ⟨o',e',_,n',d'⟩ _;rw[e] at e';cases e';rw[d] at d';injection d' with d1 _
 have:its=its':=by simpa using congrArg F8 d1
 subst this;exact r.inj r'
end
abbrev Cx.GB(X:Cx)(E:ak->az->Prop):Cx:={X with xe:=E}
abbrev Cx.Wl(X:Cx):Cx:=X.GB λ_ _=>False
theorem Cx.Ok.GB{X:Cx}(ok:X.Ok)(E:ak->az->Prop):(X.GB E).Ok:=⟨ok.mod,ok.kind,ok.glob,ok.blt,ok.above,ok.inj,ok.has,ok.cab,ok.hd,ok.frames,ok.stk,ok.exf,ok.bs,ok.VZ,ok.SY,ok.S1,ok.CW,ok.YQ⟩
theorem Cx.Ok.vt{X:Cx}{E:ak->az->Prop}(ok:(X.GB E).Ok):X.Ok:=⟨ok.mod,ok.kind,ok.glob,ok.blt,ok.above,ok.inj,ok.has,ok.cab,ok.hd,ok.frames,ok.stk,ok.exf,ok.bs,ok.VZ,ok.SY,ok.S1,ok.CW,ok.YQ⟩
section
variable{X:Cx}{pins:List (af×Obj)}{σ:St}{H:Hp}{s:az}{E:ak->az->Prop}
theorem Inv.GB(I:Inv X pins σ H s)(E:ak->az->Prop):Inv (X.GB E) pins σ H s:=⟨I.ok.GB E,I.os,I.bare,I.base,I.loc,I.cell,I.free,I.um,I.pin,I.dQ,I.len⟩
theorem Inv.vt(I:Inv (X.GB E) pins σ H s):Inv X pins σ H s:=⟨I.ok.vt,I.os,I.bare,I.base,I.loc,I.cell,I.free,I.um,I.pin,I.dQ,I.len⟩
theorem SP.vt{D:Ends}{f:Flow}{s':az}(h:SP (X.GB E) pins D f s'):SP X pins D f s':=by
 cases f with
 |next=>refine jk ?_ h;rintro σ' H' I q;exact fu σ' H' I.vt q
 |brk=>refine jk ?_ h;rintro σ' H' I q;exact fu σ' H' I.vt q
 |cont=>refine jk ?_ h;rintro σ' H' I q;exact fu σ' H' I.vt q
 |ret u=>refine jT ?_ h;rintro v σ' H' I r q;exact jK v σ' H' I.vt r q
theorem Nq.Wl{st:List cD}{t:TS}(h:Nq X.Wl st t):Nq X st t:=λpins s σ H D I hw=>fq (h pins s σ H D (I.GB _) hw) (λ_ _ q=>q.vt) λ_ _ z=>dP z
end
section
variable{X:Cx}{st:cD}{rest:List cD}{t u:TS}{e:Expr}{te:TE}{pos:Pos}
def XS:TS:=λD σ H=>D.nx σ H
def Tc(t u:TS):TS:=λD σ H=>t {D with nx:=u D} σ H
theorem bS:Nq X [] XS:=λ_ _ σ H _ I h=>CO (fu σ H I h)
theorem ax(h1:PS X st t)(h2:Nq X rest u):Nq X (st::rest) (Tc t u):=by
 intro pins s σ H D I h;refine am0 (iM (h1 pins s σ H {D with nx:=u D} I h) λf s1 q=>?_)
 cases f with
 |next=>refine jk ?_ q;clear q;rintro σ' H' I' q;exact h2 pins s1 σ' H' D I' q
 |ret v=>exact q
 |brk=>exact q
 |cont=>exact q
theorem aG(h1:PS X st t):Nq X [st] t:=by
 intro pins s σ H D I h;refine am0 (iM (h1 pins s σ H D I h) λf s1 q=>?_)
 cases f with
 |next=>exact CO q
 |ret v=>exact q
 |brk=>exact q
 |cont=>exact q
theorem Inv.quiet{pins:List (af×Obj)}{σ:St}{H:Hp}{s:az}(I:Inv X pins σ H s):interactive X.env=false:=by simp[interactive,I.ok.kind]
def XT(te:TE):TS:=λD σ H=>te σ H λ_ H1=>D.nx σ H1
theorem iR(he:PE X e te)(hs:A8 e none pos.line X.env=pure false:=by rfl):PS X (.Expr e pos) (XT te):=by intro pins s σ H D I h;exact wpAny_Expr_any (iM (he pins s σ H _ I h) λv s1 ⟨x,H1,I1,r1,q1⟩=>fu σ H1 I1 q1) I.quiet hs
def YV(te:TE):TS:=λD σ H=>te σ H D.rt
theorem aY(he:PE X e te):PS X (.Return (some e) pos) (YV te):=by intro pins s σ H D I h;exact wpAny_Return_some (iM (he pins s σ H _ I h) λv s1 ⟨x,H1,I1,r1,q1⟩=>jK x σ H1 I1 r1 q1)
def afF(c:TT)(t u:TS):TS:=λD σ H=>c σ H λb H1=>if b=true then t D σ H1 else u D σ H1
theorem du{c:Expr}{a b:List cD}{tc:TT}(hc:PT X c tc)(ha:Nq X a t)(hb:Nq X b u):PS X (.If c a b pos) (afF tc t u):=by
 intro pins s σ H D I h;refine wpAny_If (iM (hc pins s σ H _ I h) λd s1 ⟨H1,I1,q1⟩=>?_)
 cases d with
 |true=>exact ha pins s1 σ H1 D I1 q1
 |false=>exact hb pins s1 σ H1 D I1 q1
end
abbrev TG:=V->St->Hp->(St->Hp->Prop)->Prop
abbrev XU:=List V->St->Hp->(St->Hp->Prop)->Prop
def PG(X:Cx)(target:Expr)(t:TG):Prop:=
 ∀(pins:List (af×Obj))(s:az)(σ:St)(H:Hp)(v:V)(u:ak)(Q:St->Hp->Prop),Inv X pins σ H s->RelV v u->t v σ H Q->
  bj (model X.prog X.w) X.A (assign target X.env u) (λ_ s'=>∃σ' H',Inv X pins σ' H' s'/\Q σ' H') X.xe s
def PGs(X:Cx)(ts:List Expr)(t:XU):Prop:=
 ∀(pins:List (af×Obj))(s:az)(σ:St)(H:Hp)(vs:List V)(us:List ak)(Q:St->Hp->Prop),Inv X pins σ H s->Vals vs us->t vs σ H Q->
  bj (model X.prog X.w) X.A (assignInOrder ((xa ts X.env).map (·.2)) us) (λ_ s'=>∃σ' H',Inv X pins σ' H' s'/\Q σ' H') X.xe s
section
variable{X:Cx}{pos:Pos}
def Kz(i:Nat):TG:=λv σ H Q=>Q (σ.set i (some v)) H
theorem bU{i:Nat}{x:Str}(hN:X.N.Nodup)(hi:X.N[i]? =some x)(hx:Loc X.env.scope x)(hf:X.fn x=true∨X.env.scope.names.lookup x=some .local:=by first|exact .inl rfl|exact .inr rfl|assumption):PG X (.Name x pos) (Kz i):=by intro pins s σ H v u Q I r h;exact ajM (Kx I hN hi hx r (λs' I'=>fu _ H I' h) hf)
def afG:XU:=λvs σ H Q=>vs=[]/\Q σ H
def aca(t:TG)(u:XU):XU:=λvs σ H Q=>∃v r,vs=v::r/\t v σ H λσ' H'=>u r σ' H' Q
theorem o7:PGs X [] afG:=by
 intro pins s σ H vs us Q I r h;obtain⟨e,h⟩:=h;subst e;cases r;exact assignInOrder_nil (fu σ H I h)
theorem fZ{e:Expr}{es:List Expr}{t:TG}{u:XU}(h1:PG X e t)(h2:PGs X es u)(hs:(xa (e::es) X.env).map (·.2)=assign e X.env::(xa es X.env).map (·.2):=by rfl):PGs X (e::es) (aca t u):=by
 intro pins s σ H vs us Q I r h;refine jk ?_ h;clear h;rintro v vr e1 h;subst e1
 cases r with
 |cons r rr=>rw[hs];refine assignInOrder_cons (iM (h1 pins s σ H _ _ _ I r h) λ_ s1 ⟨σ1,H1,I1,q1⟩=>?_);exact h2 pins s1 σ1 H1 _ _ Q I1 rr q1
def acb(K:ah)(n:Nat)(t:XU):TG:=λv σ H Q=>∃a xs,v=.ref a/\nY K H a xs/\xs.length=n/\t xs σ H Q
theorem DO{es:List Expr}{k:Nat}{t:XU}{n:Nat}(hc:X.calm=true)(h:PGs X es t)(hn:(xa es X.env).length=n:=by rfl)(gC:(xa es X.env).findIdx? (·.1)=none:=by rfl):PG X (.Tuple es k pos) (acb X.K n t):=by
 intro pins s σ H v u Q I r hw;refine ke ?_ hw;clear hw;rintro a xs e1 hq hl hw;subst e1;cases r;refine cH ?_ (I.tuple hq);rintro its rv ht hz;refine assign_Tuple_tuple (I.ok.hd hc) ht (by simp[hn,<-hl,rv.length]) gC λh' hx=>?_;have I1:Inv X pins σ H {s with heap:=h'}:=I.kept (t':=s.toks) λb o e=>hx b o (bV (bg e)) e;exact h pins _ σ H xs _ Q I1 (by simpa using rv) hw
def YW(te:TE)(g:TG):TS:=λD σ H=>te σ H λx H1=>g x σ H1 D.nx
theorem cg{i:Nat}{x:Str}{e:Expr}{te:TE}{pos':Pos}(hN:X.N.Nodup)(hi:X.N[i]? =some x)(hx:Loc X.env.scope x)(he:PE X e te)(hs:A8 e (some (.Name x pos')) pos.line X.env=pure false:=by rfl)(hf:X.fn x=true∨X.env.scope.names.lookup x=some .local:=by first|exact .inl rfl|exact .inr rfl|assumption):
  PS X (.Assign [.Name x pos'] e pos) (YW te (Kz i)):=by
 intro pins s σ H D I h;refine wpAny_Assign_Name (iM (he pins s σ H _ I h) λv s1 ⟨y,H1,I1,r1,q1⟩=>?_) hs;exact Kx I1 hN hi hx r1 (λs2 I2=>fu _ H1 I2 q1) hf
def Td(c:TT)(tb:TS):TS:=λD σ H=>∃W:Nat->St->Hp->Prop,(∃m,W m σ H)/\∀m σ H,W m σ H->
 c σ H λb H1=>if b=true then∃N:St->Hp->Prop,(∀σ' H',N σ' H'->∃m',m'<m/\W m' σ' H')/\tb {D with nx:=N,ct:=N,bk:=D.nx} σ H1 else D.nx σ H1
theorem Te{c:Expr}{body:List cD}{tc:TT}{tb:TS}(hp:PassesOwn (model X.prog X.w) X.A X.env X.xe)(hc:PT X c tc)(hb:Nq X body tb):PS X (.While c body [] pos) (Td tc tb):=by
 intro pins s σ H D I h;obtain⟨W,⟨m0,w0⟩,turn⟩:=h;refine wpAny_While (codeAny_whileLoop (λn s'=>∃σ' H',Inv X pins σ' H' s'/\W n σ' H') ?_ m0 (fu σ H I w0));rintro n s1 ⟨σ1,H1,I1,w1⟩;refine lF hp (iM (hc pins s1 σ1 H1 _ I1 (turn n σ1 H1 w1)) λb s2 ⟨H2,I2,q2⟩=>?_)
 cases b with
 |true=>
  obtain⟨N,hN,q2⟩:=q2;rw[if_pos rfl];refine lF hp (iM (hb pins s2 σ1 H2 _ I2 q2) λf s3 q3=>?_)
  cases f with
  |next=>refine jk ?_ q3;rintro σ3 H3 I3 n3;obtain⟨m',hm,w3⟩:=hN σ3 H3 n3;exact bq m' hm (fu σ3 H3 I3 w3)
  |cont=>refine jk ?_ q3;rintro σ3 H3 I3 n3;obtain⟨m',hm,w3⟩:=hN σ3 H3 n3;exact bq m' hm (fu σ3 H3 I3 w3)
  |brk=>exact q3
  |ret v=>exact q3
 |false=>rw[if_neg aZ];exact CO (fu σ1 H2 I2 q2)
end
structure It where
 go:Nat->Hp->Prop
 GC:Nat->Hp->V->Hp->Prop
 stop:Nat->Hp->Prop
def Bo(X:Cx)(pins:List (af×Obj))(H:Hp)(b:af):Prop:=H b=none/\b≠X.env.locals/\b∉X.fs/\(b∈X.ex∨X.GA.heap.objs.size<=b)/\(∀x c,X.env.cells.lookup x=some c->c≠b)/\∀p∈X.pn++pins,p.1≠b
theorem Inv.IE{X:Cx}{pins:List (af×Obj)}{σ:St}{H H':Hp}{s:az}{b:af}(I:Inv X pins σ H s)(hb:s.heap.objs.size<=b)(hn:H' b=none):Bo X pins H' b:=by
 refine⟨hn,dD (bM I.lt hb),I.ab3 hb,.inr (ao I.sz hb),λx c e z=>?_,λp hp z=>?_⟩
 ·obtain⟨v,q⟩:=I.cell x c e;exact absurd (bM q.lt (by rw[z];exact hb)) (gY _)
 ·exact absurd (bM (bg (I.pin p hp).1) (by rw[z];exact hb)) (gY _)
structure Turn(P:bp)(w:bQ)(K:ah)(tg:Expr)(J:It)(fp:List af)(it:af)(tn:Nat->cB->Prop):Prop where
 mem:it∈fp
 obj:∀i h,tn i h->∀b∈fp,∃o,h.get? b=some o/\∀v,o.data≠.cell v
 keep:∀i h h',tn i h->(∀b∈fp,∀o,h.get? b=some o->h'.get? b=some o)->tn i h'
 item:∀(X:Cx),X.prog=P->X.w=w->X.K=K->X.calm=true->∀(i:Nat)(pins:List (af×Obj))(s:az)(σ:St)(H:Hp)(E:ak->az->Prop),Inv X pins σ H s->(∀b∈fp,Bo X pins H b)->tn i s.heap->J.go i H->
  bj (model P w) X.A (jH (.ref it)) (λr s1=>∃u,r=some u/\bj (model P w) X.A (CP tg (.ref it) u) (λ_ s2=>∃x H',Inv X pins σ H' s2/\RelV x u/\J.GC i H x H'/\tn (i+1) s2.heap/\∀b∈fp,H' b=none) E s1) E s
 done:∀(X:Cx),X.prog=P->X.w=w->X.K=K->X.calm=true->∀(i:Nat)(pins:List (af×Obj))(s:az)(σ:St)(H:Hp)(E:ak->az->Prop),Inv X pins σ H s->(∀b∈fp,Bo X pins H b)->tn i s.heap->J.stop i H->
  bj (model P w) X.A (jH (.ref it)) (λr s1=>r=none/\Inv X pins σ H s1) E s
 self:∀(A:cy)(i:Nat)(s:az)(Q:ak->az->Prop)(E:ak->az->Prop),tn i s.heap->Q (.ref it) s->bj (model P w) A (Pr (.ref it)) Q E s
abbrev TI:=St->Hp->(It->Hp->Prop)->Prop
def PIE(X:Cx)(pins:List (af×Obj))(σ:St)(tg:Expr)(R:It->Hp->Prop)(itv:ak)(s2:az):Prop:=∃(it:af)(fp:List af)(tn:Nat->cB->Prop)(J:It)(H':Hp),itv=.ref it/\Inv X pins σ H' s2/\Turn X.prog X.w X.K tg J fp it tn/\tn 0 s2.heap/\(∀b∈fp,Bo X pins H' b)/\R J H'
def PI(X:Cx)(tg iter:Expr)(wi:TI):Prop:=
 ∀(pins:List (af×Obj))(s:az)(σ:St)(H:Hp)(R:It->Hp->Prop),Inv X pins σ H s->wi σ H R->
  bj (model X.prog X.w) X.A (eval iter X.env) (λv s1=>bj (model X.prog X.w) X.A (Pr v) (PIE X pins σ tg R) X.xe s1) X.xe s
theorem Pz{M:YE}{A:cy}{E:ak->az->Prop}{s:az}{tg:Expr}{it:af}{u:ak}{o:Obj}{n:String}{vs:Array ak}{Q:Unit->az->Prop}(ho:s.heap.get? it=some o)(hc:o.cls=.type n)(hd:o.data=.fields vs)(hn:["enumerate","zip","dict_itemiterator","dict_reverseitemiterator","odict_iterator","itertools.zip_longest","itertools.pairwise"].contains n=false)(hQ:Q () s):bj M A (CP tg (.ref it) u) Q E s:=by
 unfold CP;cases tg<;>first
  |exact aJ hQ
  |(cases u<;>first
    |exact aJ hQ
    |(refine ae (wpAny_load ho ?_)
      rw[hc,hd];show bj M A (if(["enumerate","zip","dict_itemiterator","dict_reverseitemiterator","odict_iterator","itertools.zip_longest","itertools.pairwise"].contains n&&vs[0]? ==some (eW _))=true then _ else _) Q E s;rw[if_neg (by intro h;rw[hn,iW] at h;cases h)];exact aJ hQ))
def V0(K:ah)(a:af):It:=⟨λi H=>∃xs x,bG K H a xs/\xs[i]? =some x,λi H x H'=>H'=H/\∀xs,bG K H a xs->xs[i]? =some x,λi H=>∃xs,bG K H a xs/\xs.length<=i⟩
def Itt(K:ah)(a:af):It:=⟨λi H=>∃xs x,nY K H a xs/\xs[i]? =some x,λi H x H'=>H'=H/\∀xs,nY K H a xs->xs[i]? =some x,λi H=>∃xs,nY K H a xs/\xs.length<=i⟩
def YX(lo:Int)(n:Nat):It:=⟨λi _=>i<n,λi H x H'=>H'=H/\x=.int (lo+i),λi _=>n<=i⟩
theorem QZ{P:bp}{w:bQ}{K:ah}{tg:Expr}(a it:af):Turn P w K tg (V0 K a) [it] it (λi h=>h.IsListIter it a i) where
 mem:=by simp
 obj:=λi h st b hb=>by
  have e:b=it:=by simpa using hb
  subst e;refine cH ?_ st;rintro o e c d;exact bq o e (λv z=>by rw[d] at z;cases z)
 keep:=λi h h' st k=>st.at λo e=>k it (by simp) o e
 item:=by intro X hP hw hK hc i pins s σ H E I hf st hg;subst hP hw hK;refine jk ?_ hg;rintro xs x hq hx;refine cH ?_ (I.list hq);rintro its rv p hz;obtain⟨u,hu,ru⟩:=rv.get hx;obtain⟨f0,f1,f2,f3,f4,f5⟩:=hf it (by simp);refine wpAny_pyNext_list_item st p.isList (x:=u) (by simpa using hu) λh' Tf sb=>?_;have I1:Inv X pins σ H {s with heap:=h'}:=I.turned (t':=s.toks) (λb o hb e=>(sb.2 b hb).trans e) f0 f1 f3 f4 f5;refine cH ?_ (id Tf);rintro o e c d;exact bq u rfl (Pz (s:={s with heap:=h'}) e c d (by decide) (dH x H I1 ru ⟨rfl,λys hy=>by rw[I.pM hy hq];exact hx⟩ ⟨Tf,λb hb=>(hf b hb).1⟩))
 done:=by intro X hP hw hK hc i pins s σ H E I hf st hg;subst hP hw hK;obtain⟨xs,hq,hx⟩:=hg;refine cH ?_ (I.list hq);rintro its rv p hz;obtain⟨f0,f1,f2,f3,f4,f5⟩:=hf it (by simp);have hl:=rv.length;exact wpAny_pyNext_list_end (I.ok.hd hc) st p.isList (by simp;omega) λh' eb=>⟨rfl,I.turned (t':=s.toks) (λb o hb e=>eb b o hb e) f0 f1 f3 f4 f5⟩
 self:=λ_ _ _ _ _ st h=>wpAny_pyIter_listiter st h
theorem Nt{P:bp}{w:bQ}{K:ah}{tg:Expr}(a it:af):Turn P w K tg (Itt K a) [it] it (λi h=>h.IsTupleIter it a i) where
 mem:=by simp
 obj:=λi h st b hb=>by
  have e:b=it:=by simpa using hb
  subst e;refine cH ?_ st;rintro o e c d;exact bq o e (λv z=>by rw[d] at z;cases z)
 keep:=λi h h' st k=>st.at λo e=>k it (by simp) o e
 item:=by intro X hP hw hK hc i pins s σ H E I hf st hg;subst hP hw hK;refine jk ?_ hg;rintro xs x hq hx;refine cH ?_ (I.tuple hq);rintro its rv p hz;obtain⟨u,hu,ru⟩:=rv.get hx;obtain⟨f0,f1,f2,f3,f4,f5⟩:=hf it (by simp);refine wpAny_pyNext_tuple_item st (show s.heap.IsTuple a its.toArray from p) (x:=u) (by simpa using hu) λh' Tf sb=>?_;have I1:Inv X pins σ H {s with heap:=h'}:=I.turned (t':=s.toks) (λb o hb e=>(sb.2 b hb).trans e) f0 f1 f3 f4 f5;refine cH ?_ (id Tf);rintro o e c d;exact bq u rfl (Pz (s:={s with heap:=h'}) e c d (by decide) (dH x H I1 ru ⟨rfl,λys hy=>by rw[I.QY hy hq];exact hx⟩ ⟨Tf,λb hb=>(hf b hb).1⟩))
 done:=by intro X hP hw hK hc i pins s σ H E I hf st hg;subst hP hw hK;obtain⟨xs,hq,hx⟩:=hg;refine cH ?_ (I.tuple hq);rintro its rv p hz;obtain⟨f0,f1,f2,f3,f4,f5⟩:=hf it (by simp);have hl:=rv.length;exact wpAny_pyNext_tuple_end (I.ok.hd hc) st (show s.heap.IsTuple a its.toArray from p) (by simp;omega) λh' eb=>⟨rfl,I.turned (t':=s.toks) (λb o hb e=>eb b o hb e) f0 f1 f3 f4 f5⟩
 self:=λ_ _ _ _ _ st h=>wpAny_pyIter_tupleiter st h
theorem Nu{P:bp}{w:bQ}{K:ah}{tg:Expr}(it:af)(lo:Int)(n:Nat):Turn P w K tg (YX lo n) [it] it (λi h=>IsRangeIter h it (lo+(i:Nat)*1) ((n:Int)-(i:Nat)) 1) where
 mem:=by simp
 obj:=λi h st b hb=>by
  have e:b=it:=by simpa using hb
  subst e;exact ag st (λv z=>by
   have z':Data.fields _=Data.cell v:=z;cases z')
 keep:=λi h h' st k=>k it (by simp) _ st
 item:=by intro X hP hw hK hc i pins s σ H E I hf st hg;subst hP hw hK;obtain⟨f0,f1,f2,f3,f4,f5⟩:=hf it (by simp);have W:=Walks.range (prog:=X.prog) (w:=X.w) (I.ok.hd hc) it lo 1 n;refine W.item i s _ _ hg st λv h' tk hv Tf kk=>?_;obtain⟨t,rfl⟩:=hv;have I1:Inv X pins σ H {s with heap:=h',toks:=tk}:=I.turned (λb o hb e=>kk b o (by simpa using hb) e) f0 f1 f3 f4 f5;refine ag rfl (Pz (s:={s with heap:=h',toks:=tk}) (n:="range_iterator") Tf rfl rfl (by decide) (dH (.int (lo+i)) H I1 ⟨t,?_⟩ ⟨rfl,rfl⟩ ⟨Tf,λb hb=>(hf b hb).1⟩));rw[Int.mul_one]
 done:=by intro X hP hw hK hc i pins s σ H E I hf st hg;subst hP hw hK;obtain⟨f0,f1,f2,f3,f4,f5⟩:=hf it (by simp);exact wpAny_pyNext_range_end (I.ok.hd hc) st (by have:n<=i:=hg;omega) λh' eb=>⟨rfl,I.turned (t':=s.toks) (λb o hb e=>eb b o hb e) f0 f1 f3 f4 f5⟩
 self:=λ_ _ _ _ _ st h=>wpAny_pyIter_rangeiter st h
section
variable{X:Cx}{tg:Expr}
def ace(K:ah)(tl:TE):TI:=λσ H R=>tl σ H λx H1=>∃a,x=.ref a/\(∃xs,bG K H1 a xs)/\R (V0 K a) H1
def afI(K:ah)(tl:TE):TI:=λσ H R=>tl σ H λx H1=>∃a,x=.ref a/\(∃xs,nY K H1 a xs)/\R (Itt K a) H1
theorem dI{l:Expr}{tl:TE}(hl:PE X l tl):PI X tg l (ace X.K tl):=by
 intro pins s σ H R I h;refine iM (hl pins s σ H _ I h) λv s1 ⟨x,H1,I1,r1,q1⟩=>?_;refine cH ?_ q1;rintro a e ⟨xs,hq⟩ q;subst e;cases r1;refine cH ?_ (I1.list hq);rintro its rv p hz;refine fR p.isList ?_;refine o6 s1.heap.objs.size ([s1.heap.objs.size]) _ _ H1 ⟨rfl,I1.kept (t':=s1.toks) λb o e=>aj _ e,QZ a _,bP _ (aU _ rfl) rfl rfl,λb hb=>?_,q⟩;have e:b=s1.heap.objs.size:=by simpa using hb
 subst e;exact I1.IE (aK _) (I1.dQ.fresh (aK _))
theorem YY{l:Expr}{tl:TE}(hl:PE X l tl):PI X tg l (afI X.K tl):=by
 intro pins s σ H R I h;refine iM (hl pins s σ H _ I h) λv s1 ⟨x,H1,I1,r1,q1⟩=>?_;refine cH ?_ q1;rintro a e ⟨xs,hq⟩ q;subst e;cases r1;refine cH ?_ (I1.tuple hq);rintro its rv p hz;refine wpAny_pyIter_tuple (show s1.heap.IsTuple a its.toArray from p) ?_;refine o6 s1.heap.objs.size ([s1.heap.objs.size]) _ _ H1 ⟨rfl,I1.kept (t':=s1.toks) λb o e=>aj _ e,Nt a _,bP _ (aU _ rfl) rfl rfl,λb hb=>?_,q⟩;have e:b=s1.heap.objs.size:=by simpa using hb
 subst e;exact I1.IE (aK _) (I1.dQ.fresh (aK _))
theorem KA{pins:List (af×Obj)}{σ:St}{H:Hp}{s:az}{R:It->Hp->Prop}{E:ak->az->Prop}{lo hi:Int}{t u v:Tok}{tk:Nat}(I:Inv X pins σ H s)(h1:-(2^62)<=lo)(h2:lo<2^62)(h3:-(2^62)<=hi)(h4:hi<2^62)(q:R (YX lo (hi-lo).toNat) H):bj (model X.prog X.w) X.A (Pr (.ref s.heap.objs.size)) (PIE X pins σ tg R) E {s with heap:=s.heap.push {cls:=.type "range",data:=.fields #[.int lo t,.int hi u,.int 1 v]},toks:=tk}:=by
 refine wpAny_pyIter_range (IsRange.new ..) (small_one h1 h2 h3 h4) ?_;have I1:Inv X pins σ H {s with heap:=s.heap.push {cls:=.type "range",data:=.fields #[.int lo t,.int hi u,.int 1 v]},toks:=tk}:=I.kept λb o e=>aj _ e;refine o6 ((s.heap.push {cls:=.type "range",data:=.fields #[.int lo t,.int hi u,.int 1 v]}).objs.size) ([(s.heap.push {cls:=.type "range",data:=.fields #[.int lo t,.int hi u,.int 1 v]}).objs.size]) _ _ H ⟨rfl,I1.kept (t':=tk) λb o e=>aj _ e,Nu _ lo (hi-lo).toNat,?_,λb hb=>?_,q⟩
 ·have e1:lo+((0:Nat):Int)*1=lo:=by simp
  have e2:(((hi-lo).toNat:Nat):Int)-((0:Nat):Int)=Builtin.Range.rangeSize lo hi 1:=by rw[rangeSize_one];split<;>omega
  show IsRangeIter _ _ (lo+((0:Nat):Int)*1) ((((hi-lo).toNat:Nat):Int)-((0:Nat):Int)) 1;rw[e1,e2];exact aU _ rfl
 ·have e:b=(s.heap.push {cls:=.type "range",data:=.fields #[.int lo t,.int hi u,.int 1 v]}).objs.size:=by simpa using hb
  subst e;exact I1.IE (aK _) (I1.dQ.fresh (aK _))
def acf(ta:TA):TI:=λσ H R=>ta σ H λvs H1=>∃j:Int,vs=[.int j]/\-(2^62)<=j/\j<2^62/\R (YX 0 j.toNat) H1
def acg(ta:TA):TI:=λσ H R=>ta σ H λvs H1=>∃i j:Int,vs=[.int i,.int j]/\(-(2^62)<=i/\i<2^62/\-(2^62)<=j/\j<2^62)/\R (YX i (j-i).toNat) H1
theorem Q0{a:Expr}{ta:TA}{p pos:Pos}(hg:Gl X "range")(hm:X.mg "range"=none)(ha:PA X [a] ta)(hs:bO [a] X.env=[(false,eval a X.env)]:=by rfl):PI X tg (.Call (.Name "range" p) [a] [] pos) (acf ta):=by
 intro pins s σ H R I h;refine Call_ (vq I hg hm boot_range (iG (iM (ha pos pins s σ H _ I h) λus s1 ⟨vs,H1,I1,r1,q1⟩=>?_) hs rfl));refine cH ?_ q1;clear q1;rintro j e q1 ⟨q2,q⟩;subst e
 cases r1 with
 |cons r rr=>
  cases rr;obtain⟨t,rfl⟩:=r;exact call_range_1 (KA I1 (by omega) (by omega) q1 q2 (by simpa using q))
theorem Q3{a b:Expr}{ta:TA}{p pos:Pos}(hg:Gl X "range")(hm:X.mg "range"=none)(ha:PA X [a,b] ta)(hs:bO [a,b] X.env=[(false,eval a X.env),(false,eval b X.env)]:=by rfl)(Gg:bO [b] X.env=[(false,eval b X.env)]:=by rfl):
  PI X tg (.Call (.Name "range" p) [a,b] [] pos) (acg ta):=by
 intro pins s σ H R I h;refine Call_ (vq I hg hm boot_range (iG (iM (ha pos pins s σ H _ I h) λus s1 ⟨vs,H1,I1,r1,q1⟩=>?_) (by rw[hs,Gg]) (by rw[Gg];rfl)));refine j7 ?_ q1;clear q1;rintro i j e ⟨q1,q2,q3,q4⟩ q;subst e
 cases r1 with
 |cons r rr=>
  cases rr with
  |cons r' rr=>
   cases rr;obtain⟨t,rfl⟩:=r;obtain⟨t',rfl⟩:=r';exact call_range_2 (KA I1 q1 q2 q3 q4 q)
def afJ(wi:TI)(g:TG)(tb:TS):TS:=λD σ H=>wi σ H λJ H1=>∃W:Nat->Nat->St->Hp->Prop,(∃m,W 0 m σ H1)/\∀i m σ H,W i m σ H->
 (J.stop i H/\D.nx σ H)∨(J.go i H/\∃N:St->Hp->Prop,(∀σ' H',N σ' H'->∃m',m'<m/\W (i+1) m' σ' H')/\∀x H',J.GC i H x H'->g x σ H' λσ2 H2=>tb {D with nx:=N,ct:=N,bk:=D.nx} σ2 H2)
def DP(fp:List af)(h:cB):List (af×Obj):=fp.filterMap λb=>(h.get? b).map λo=>(b,o)
theorem yR{fp:List af}{h:cB}{b:af}{o:Obj}(hb:b∈fp)(e:h.get? b=some o):(b,o)∈DP fp h:=XJ.mpr (bq b hb (by rw[e];rfl))
theorem Q4{fp:List af}{h:cB}{p:af×Obj}(hp:p∈DP fp h):p.1∈fp/\h.get? p.1=some p.2:=by
 obtain⟨b,hb,e⟩:=XJ.mp hp
 cases q:h.get? b with
 |none=>rw[q] at e;cases e
 |some o=>rw[q] at e;have e':(b,o)=p:=aX e;subst e';exact⟨hb,q⟩
theorem Inv.pinned{pins:List (af×Obj)}{σ:St}{H:Hp}{s:az}{fp:List af}(I:Inv X pins σ H s)(hf:∀b∈fp,Bo X pins H b)(ho:∀b∈fp,∃o,s.heap.get? b=some o/\∀v,o.data≠.cell v):Inv X (pins++DP fp s.heap) σ H s:=
 I.Du λp hp=>(aE.mp hp).elim (λz=>I.pin p (c9 _ z)) λz=>by
  obtain⟨hb,e⟩:=Q4 z;obtain⟨f0,f1,f2,_⟩:=hf p.1 hb;obtain⟨o,e',d⟩:=ho p.1 hb;rw[e] at e';cases e';exact⟨e,f0,f1,f2,d⟩
theorem Inv.rU{pins pl:List (af×Obj)}{σ:St}{H:Hp}{s:az}(I:Inv X (pins++pl) σ H s):Inv X pins σ H s:=I.Du λp hp=>I.pin p (c9 _ (eC _ hp))
theorem lU{iter:Expr}{body:List cD}{wi:TI}{g:TG}{tb:TS}{pos:Pos}(hp:PassesOwn (model X.prog X.w) X.A X.env X.xe)(hc:X.calm=true)(hi:PI X tg iter wi)(hg:PG X tg g)(hb:Nq X body tb)(hs:∀x,yJ iter X.env x=pure x:=by intro _;rfl):PS X (.For tg iter body [] pos) (afJ wi g tb):=by
 intro pins s σ H D I h;refine wpAny_For (iM (hi pins s σ H _ I h) λv s1 h1=>iM h1 λitv s2 h2=>?_) hs;refine CV ?_ h2;rintro it fp tn J H2 ⟨e,I2,T,st2,f2,W,⟨m0,w0⟩,turn⟩;subst e;have Nv:∀{H':Hp},(∀b∈fp,H' b=none)->∀b∈fp,Bo X pins H' b:=λhn b hb=>⟨hn b hb,(f2 b hb).2⟩;refine codeAny_forLoop_any (λn s'=>∃i σ' H',Inv X pins σ' H' s'/\tn i s'.heap/\(∀b∈fp,H' b=none)/\W i n σ' H') ?_ m0 (jK 0 σ H2 I2 st2 ⟨λb hb=>(f2 b hb).1,w0⟩);rintro n s3 ⟨i,σ3,H3,I3,st3,fr3,w3⟩;rcases turn i n σ3 H3 w3 with⟨stop,qn⟩|⟨go,N,hN,step⟩
 ·refine lF hp (iM (T.done X rfl rfl rfl hc i pins s3 σ3 H3 X.xe I3 (Nv fr3) st3 stop) λr s4 ⟨hr,I4⟩=>?_);subst hr;exact CO (fu σ3 H3 I4 qn)
 ·refine lF hp (iM (T.item X rfl rfl rfl hc i pins s3 σ3 H3 X.xe I3 (Nv fr3) st3 go) λr s4 ⟨u,hr,h4⟩=>?_);subst hr;refine lF hp (iM h4 λ_ s5 ⟨x,H5,I5,r5,y5,st5,fr5⟩=>?_);have I5':=I5.pinned (Nv fr5) (T.obj _ _ st5);refine lF hp (iM (hg _ s5 σ3 H5 x u _ I5' r5 (step x H5 y5)) λ_ s6 ⟨σ6,H6,I6,q6⟩=>?_);refine lF hp (iM (hb _ s6 σ6 H6 _ I6 q6) λf s7 q7=>?_);have again:∀{σ7:St}{H7:Hp},Inv X (pins++DP fp s5.heap) σ7 H7 s7->N σ7 H7->∃m,m<n/\∃i σ' H',Inv X pins σ' H' s7/\tn i s7.heap/\(∀b∈fp,H' b=none)/\W i m σ' H':=λ{σ7 H7} I7 n7=>by obtain⟨m',hm,w7⟩:=hN σ7 H7 n7;refine bq m' hm (jK (i+1) σ7 H7 I7.rU (T.keep _ _ _ st5 λb hb o e=>(I7.pin (b,o) (c9 _ (c9 _ (yR hb e)))).1) ⟨λb hb=>?_,w7⟩);obtain⟨o,e,d⟩:=T.obj _ _ st5 b hb;exact(I7.pin (b,o) (c9 _ (c9 _ (yR hb e)))).2.1
  cases f with
  |next=>refine jk ?_ q7;rintro σ7 H7 I7 n7;exact again I7 n7
  |cont=>refine jk ?_ q7;rintro σ7 H7 I7 n7;exact again I7 n7
  |brk=>refine jk ?_ q7;clear q7;rintro σ7 H7 I7 q7;exact fu σ7 H7 I7.rU q7
  |ret v=>refine jT ?_ q7;clear q7;rintro x7 σ7 H7 I7 r7 q7;exact jK x7 σ7 H7 I7.rU r7 q7
end
theorem my{K:ah}{a:af}{xs:List V}{g:TG}{tb:TS}{D:Ends}{σ:St}{H:Hp}(Pv:Nat->St->Hp->Prop)(h0:Pv 0 σ H)(hl:∀i σ H,i<=xs.length->Pv i σ H->bG K H a xs)(hs:∀i x σ H,xs[i]? =some x->Pv i σ H->g x σ H λσ2 H2=>tb {D with nx:=Pv (i+1),ct:=Pv (i+1),bk:=D.nx} σ2 H2)(hd:∀σ H,Pv xs.length σ H->D.nx σ H):
  ∃W:Nat->Nat->St->Hp->Prop,(∃m,W 0 m σ H)/\∀i m σ H,W i m σ H->
   ((V0 K a).stop i H/\D.nx σ H)∨((V0 K a).go i H/\∃N:St->Hp->Prop,(∀σ' H',N σ' H'->∃m',m'<m/\W (i+1) m' σ' H')/\∀x H',(V0 K a).GC i H x H'->g x σ H' λσ2 H2=>tb {D with nx:=N,ct:=N,bk:=D.nx} σ2 H2):=by
 refine bq (λi m σ H=>m=xs.length-i/\i<=xs.length/\Pv i σ H) (bP xs.length (by simp) (bE _) h0) ?_;rintro i m σ H ⟨rfl,hi,p⟩;have q:=hl i σ H hi p;by_cases oR:i<xs.length
 ·refine .inr ⟨fu xs (xs[i]) q (by simp[oR]),bq (Pv (i+1)) (λσ' H' p'=>iL (xs.length-(i+1)) (by omega) rfl oR p') (λx H' y=>?_)⟩;obtain⟨e,y⟩:=y;subst e;exact hs i x σ _ (y xs q) p
 ·have e:i=xs.length:=by omega
  subst e;exact .inl ⟨bq xs q (aK _),hd σ H p⟩
theorem Wm{K:ah}{a:af}{xs:List V}{g:TG}{tb:TS}{D:Ends}{σ:St}{H:Hp}(Pv:Nat->St->Hp->Prop)(h0:Pv 0 σ H)(hl:∀i σ H,i<=xs.length->Pv i σ H->nY K H a xs)(hs:∀i x σ H,xs[i]? =some x->Pv i σ H->g x σ H λσ2 H2=>tb {D with nx:=Pv (i+1),ct:=Pv (i+1),bk:=D.nx} σ2 H2)(hd:∀σ H,Pv xs.length σ H->D.nx σ H):
  ∃W:Nat->Nat->St->Hp->Prop,(∃m,W 0 m σ H)/\∀i m σ H,W i m σ H->
   ((Itt K a).stop i H/\D.nx σ H)∨((Itt K a).go i H/\∃N:St->Hp->Prop,(∀σ' H',N σ' H'->∃m',m'<m/\W (i+1) m' σ' H')/\∀x H',(Itt K a).GC i H x H'->g x σ H' λσ2 H2=>tb {D with nx:=N,ct:=N,bk:=D.nx} σ2 H2):=by
 refine bq (λi m σ H=>m=xs.length-i/\i<=xs.length/\Pv i σ H) (bP xs.length (by simp) (bE _) h0) ?_;rintro i m σ H ⟨rfl,hi,p⟩;have q:=hl i σ H hi p;by_cases oR:i<xs.length
 ·refine .inr ⟨fu xs (xs[i]) q (by simp[oR]),bq (Pv (i+1)) (λσ' H' p'=>iL (xs.length-(i+1)) (by omega) rfl oR p') (λx H' y=>?_)⟩;obtain⟨e,y⟩:=y;subst e;exact hs i x σ _ (y xs q) p
 ·have e:i=xs.length:=by omega
  subst e;exact .inl ⟨bq xs q (aK _),hd σ H p⟩
theorem Q5{lo:Int}{n:Nat}{g:TG}{tb:TS}{D:Ends}{σ:St}{H:Hp}(Pv:Nat->St->Hp->Prop)(h0:Pv 0 σ H)(hs:∀i σ H,i<n->Pv i σ H->g (.int (lo+i)) σ H λσ2 H2=>tb {D with nx:=Pv (i+1),ct:=Pv (i+1),bk:=D.nx} σ2 H2)(hd:∀σ H,Pv n σ H->D.nx σ H):
  ∃W:Nat->Nat->St->Hp->Prop,(∃m,W 0 m σ H)/\∀i m σ H,W i m σ H->
   ((YX lo n).stop i H/\D.nx σ H)∨((YX lo n).go i H/\∃N:St->Hp->Prop,(∀σ' H',N σ' H'->∃m',m'<m/\W (i+1) m' σ' H')/\∀x H',(YX lo n).GC i H x H'->g x σ H' λσ2 H2=>tb {D with nx:=N,ct:=N,bk:=D.nx} σ2 H2):=by
 refine bq (λi m σ H=>m=n-i/\i<=n/\Pv i σ H) (bP n (by simp) (bE _) h0) ?_;rintro i m σ H ⟨rfl,hi,p⟩;by_cases oR:i<n
 ·refine .inr ⟨oR,bq (Pv (i+1)) (λσ' H' p'=>iL (n-(i+1)) (by omega) rfl oR p') (λx H' y=>?_)⟩;obtain⟨e,y⟩:=y;subst e y;exact hs i σ _ oR p
 ·have e:i=n:=by omega
  subst e;exact .inl ⟨aK _,hd σ H p⟩
theorem Tg{c:TT}{tb:TS}{D:Ends}{σ:St}{H:Hp}(Pv:St->Hp->Prop)(μ:St->Hp->Nat)(h0:Pv σ H)(hs:∀σ H,Pv σ H->c σ H λb H1=>if b=true then tb {D with nx:=λσ' H'=>Pv σ' H'/\μ σ' H'<μ σ H,ct:=λσ' H'=>Pv σ' H'/\μ σ' H'<μ σ H,bk:=D.nx} σ H1 else D.nx σ H1)(mono:∀σ H Q Q',(∀b H1,Q b H1->Q' b H1)->c σ H Q->c σ H Q'):Td c tb D σ H:=by
 refine bq (λm σ H=>m=μ σ H/\Pv σ H) (ag rfl h0) ?_;rintro m σ H ⟨rfl,p⟩;refine mono σ H _ _ (λb H1 q=>?_) (hs σ H p)
 cases b with
 |true=>exact ag (λσ' H' ⟨p',l⟩=>bP _ l rfl p') q
 |false=>exact q
abbrev R2:=V->V->Hp->VK->Prop
def yg(X:Cx)(f:ak->ak->Sem ak)(r:R2):Prop:=
 ∀(pins:List (af×Obj))(s:az)(σ:St)(H:Hp)(x y:V)(v u:ak)(Q:VK),Inv X pins σ H s->RelV x v->RelV y u->r x y H Q->
  bj (model X.prog X.w) X.A (f v u) (EP X pins σ Q) X.xe s
def kO(X:Cx)(f:ak)(r:List V->Hp->VK->Prop):Prop:=
 ∀(pins:List (af×Obj))(s:az)(σ:St)(H:Hp)(xs:List V)(us:List ak)(Q:VK),Inv X pins σ H s->Vals xs us->r xs H Q->
  bj (model X.prog X.w) X.A (call f us) (EP X pins σ Q) X.xe s
def Wn(r:R2)(ta tb:TE):TE:=λσ H Q=>ta σ H λx H1=>tb σ H1 λy H2=>r x y H2 Q
def rI(C:Int->Int->Prop)(g:Int->Int->V):R2:=λx y H Q=>∃i j,x=.int i/\y=.int j/\C i j/\Q (g i j) H
def Wo(g:Int->Int->V):R2:=λx y H Q=>∃i j,x=.int i/\y=.int j/\Q (g i j) H
section
variable{X:Cx}{a b c:Expr}{ta tb tc:TE}{pos:Pos}
theorem YZ(ha:PE X a ta)(hb:PE X b tb){pins:List (af×Obj)}{s:az}{σ:St}{H:Hp}{R:V->V->Hp->Prop}(I:Inv X pins σ H s)(h:ta σ H λx H1=>tb σ H1 λy H2=>R x y H2){Q:ak->az->Prop}{f:ak->ak->Sem ak}(hf:∀v u s2 x y H2,Inv X pins σ H2 s2->RelV x v->RelV y u->R x y H2->bj (model X.prog X.w) X.A (f v u) Q X.xe s2):
  bj (model X.prog X.w) X.A (eval a X.env) (λv s₁=>bj (model X.prog X.w) X.A (eval b X.env) (λu s₂=>bj (model X.prog X.w) X.A (f v u) Q X.xe s₂) X.xe s₁) X.xe s:=by
 refine iM (ha pins s σ H _ I h) λv s1 ⟨x,H1,I1,r1,q1⟩=>?_;refine iM (hb pins s1 σ H1 _ I1 q1) λu s2 ⟨y,H2,I2,r2,q2⟩=>?_;exact hf v u s2 x y H2 I2 r1 r2 q2
theorem fo{op:Operator}{r:R2}(ho:yg X (A9 op) r)(ha:PE X a ta)(hb:PE X b tb):PE X (.BinOp a op b pos) (Wn r ta tb):=by intro pins s σ H Q I h;exact wpAny_BinOp (YZ ha hb I h λv u s2 x y H2 I2 rx ry q=>ho pins s2 σ H2 x y v u Q I2 rx ry q)
theorem opI{f:ak->ak->Sem ak}{C:Int->Int->Prop}{g:Int->Int->Int}(rule:∀(i j:Int)(t u:Tok)(s:az)(Q:ak->az->Prop)(E:ak->az->Prop),C i j->Q (.int (g i j) s.toks) {s with toks:=s.toks+1}->bj (model X.prog X.w) X.A (f (.int i t) (.int j u)) Q E s):
  yg X f (rI C λi j=>.int (g i j)):=by
 intro pins s σ H x y v u Q I rx ry h;refine ke ?_ h;clear h;rintro i j rfl rfl hc q;obtain⟨t,rfl⟩:=rx;obtain⟨t',rfl⟩:=ry;exact rule i j t t' s _ _ hc (bt (.int (g i j)) H (I.tok _) ⟨_,rfl⟩ q)
theorem ach{f:ak->ak->Sem ak}{g:Int->Int->Int}(rule:∀(i j:Int)(t u:Tok)(s:az)(Q:ak->az->Prop)(E:ak->az->Prop),Q (.int (g i j) s.toks) {s with toks:=s.toks+1}->bj (model X.prog X.w) X.A (f (.int i t) (.int j u)) Q E s):
  yg X f (Wo λi j=>.int (g i j)):=by
 intro pins s σ H x y v u Q I rx ry h;refine j7 ?_ h;clear h;rintro i j rfl rfl q;obtain⟨t,rfl⟩:=rx;obtain⟨t',rfl⟩:=ry;exact rule i j t t' s _ _ (bt (.int (g i j)) H (I.tok _) ⟨_,rfl⟩ q)
theorem Wq{f:ak->ak->Sem ak}{g:Int->Int->Bool}(rule:∀(i j:Int)(t u:Tok)(s:az)(Q:ak->az->Prop)(E:ak->az->Prop),Q (.bool (g i j)) s->bj (model X.prog X.w) X.A (f (.int i t) (.int j u)) Q E s):
  yg X f (Wo λi j=>.bl (g i j)):=by
 intro pins s σ H x y v u Q I rx ry h;refine j7 ?_ h;clear h;rintro i j rfl rfl q;obtain⟨t,rfl⟩:=rx;obtain⟨t',rfl⟩:=ry;exact rule i j t t' s _ _ (bt (.bl (g i j)) H I rfl q)
def afL(i j:Int):Prop:=0<j/\j<1073741824
def Y0(i j:Int):Prop:=(-(2^64)<i/\i<2^64)∨(-(2^64)<j/\j<2^64)
theorem Y0.ok{i j:Int}(h:Y0 i j):IntMulOk i j:=by
 rcases h with⟨h1,h2⟩|⟨h1,h2⟩
 ·exact .of_left (intBits_le_64 h1 h2)
 ·exact .of_right (intBits_le_64 h1 h2)
theorem pN:yg X (A9 .Add) (Wo λi j=>.int (i+j)):=ach λ_ _ _ _ _ _ _ q=>add_int q
theorem vv:yg X (A9 .Sub) (Wo λi j=>.int (i-j)):=ach λ_ _ _ _ _ _ _ q=>sub_int q
theorem Y1:yg X (A9 .Mult) (rI Y0 λi j=>.int (i*j)):=opI λ_ _ _ _ _ _ _ hc q=>mul_int q hc.ok
theorem Wr:yg X (A9 .FloorDiv) (rI afL λi j=>.int (i/j)):=opI λi j _ _ _ _ _ hc q=>by have h1:(0:Int)<j:=hc.1;have h2:j<1073741824:=hc.2;exact floordiv_int (by omega) (by rw[Int.fdiv_eq_ediv_of_nonneg i (by omega)];exact q) (.inl (PyProof.noPylong_small (by omega)))
theorem Y2:yg X (A9 .Mod) (rI (λ_ j=>0<j) λi j=>.int (i%j)):=opI λi j _ _ _ _ _ hc q=>by have h1:(0:Int)<j:=hc;exact mod_int' (by omega) (by rw[Int.fmod_eq_emod_of_nonneg i (by omega)];exact q)
end
def aci:V->V->Bool
 |.h9,.h9=>true|.h9,.int _=>true|.int _,.h9=>true|.h9,.bl _=>true|.bl _,.h9=>true|.h9,.str _=>true|.str _,.h9=>true
 |.int _,.int _=>true|.bl _,.bl _=>true|.str _,.str _=>true|.Nc _,.Nc _=>true
 |.int _,.str _=>true|.str _,.int _=>true|.bl _,.str _=>true|.str _,.bl _=>true
 |_,_=>false
def rEq:R2:=λx y H Q=>aci x y=true/\Q (.bl (decide (x=y))) H
def rNe:R2:=λx y H Q=>aci x y=true/\Q (.bl (!decide (x=y))) H
theorem PB{i j:Int}:decide (V.int i=V.int j)=(i==j):=by rw[ng];simp
theorem Th{i j:Bool}:decide (V.bl i=V.bl j)=(i==j):=by rw[ng];simp
theorem PD{i j:Str}:decide (V.str i=V.str j)=(i==j):=by rw[ng];simp
theorem PF{i j:Array UInt8}:decide (V.Nc i=V.Nc j)=(i.toList==j.toList):=by
 rw[ng];cases i;cases j;simp
section
variable{X:Cx}{a b c:Expr}{ta tb tc:TE}{pos:Pos}
theorem fc{pins:List (af×Obj)}{σ:St}{H:Hp}{s:az}{Q:VK}{k k':Bool}(I:Inv X pins σ H s)(q:Q (.bl k) H)(e:k=k'):EP X pins σ Q (.bool k') s:=by subst e;exact bt (.bl k) H I rfl q
theorem jz:yg X (eE .Eq) rEq:=by
 intro pins s σ H x y v u Q I rx ry h;obtain⟨hs,q⟩:=h
 cases x with
 |h9=>
  cases rx
  cases y with
  |h9=>cases ry;exact PySem.EqNone.eq_none_none (fc I q (by simp))
  |bl j=>cases ry;exact PySem.EqNone.eq_none_bool (fc I q (by simp))
  |int j=>obtain⟨t',rfl⟩:=ry;exact PySem.EqNone.eq_none_int (fc I q (by simp))
  |str j=>obtain⟨t',rfl⟩:=ry;exact PySem.EqNone.eq_none_str (fc I q (by simp))
  |_=>exact absurd (show false=true from hs) aZ
 |bl i=>
  cases rx
  cases y with
  |h9=>cases ry;exact PySem.EqNone.eq_bool_none (fc I q (by simp))
  |bl j=>cases ry;exact eq_bool (fc I q Th)
  |str j=>obtain⟨t',rfl⟩:=ry;exact PySem.EqMixed.eq_bool_str (fc I q (by simp))
  |_=>exact absurd (show false=true from hs) aZ
 |int i=>
  obtain⟨t,rfl⟩:=rx
  cases y with
  |h9=>cases ry;exact PySem.EqNone.eq_int_none (fc I q (by simp))
  |int j=>obtain⟨t',rfl⟩:=ry;exact eq_int (fc I q PB)
  |str j=>obtain⟨t',rfl⟩:=ry;exact PySem.EqMixed.eq_int_str (fc I q (by simp))
  |_=>exact absurd (show false=true from hs) aZ
 |str i=>
  obtain⟨t,rfl⟩:=rx
  cases y with
  |h9=>cases ry;exact PySem.EqNone.eq_str_none (fc I q (by simp))
  |bl j=>cases ry;exact PySem.EqMixed.eq_str_bool (fc I q (by simp))
  |int j=>obtain⟨t',rfl⟩:=ry;exact PySem.EqMixed.eq_str_int (fc I q (by simp))
  |str j=>obtain⟨t',rfl⟩:=ry;exact eq_str (fc I q PD)
  |_=>exact absurd (show false=true from hs) aZ
 |Nc i=>
  obtain⟨t,rfl⟩:=rx
  cases y with
  |Nc j=>obtain⟨t',rfl⟩:=ry;exact PySem.W.eq_bytes (fc I q PF)
  |_=>exact absurd (show false=true from hs) aZ
 |_=>cases y<;>exact absurd (show false=true from hs) aZ
theorem DQ:yg X (eE .NotEq) rNe:=by
 intro pins s σ H x y v u Q I rx ry h;obtain⟨hs,q⟩:=h
 cases x with
 |h9=>
  cases rx
  cases y with
  |h9=>cases ry;exact PySem.EqNone.ne_none_none (fc I q (by simp))
  |bl j=>cases ry;exact PySem.EqNone.ne_none_bool (fc I q (by simp))
  |int j=>obtain⟨t',rfl⟩:=ry;exact PySem.EqNone.ne_none_int (fc I q (by simp))
  |str j=>obtain⟨t',rfl⟩:=ry;exact PySem.EqNone.ne_none_str (fc I q (by simp))
  |_=>exact absurd (show false=true from hs) aZ
 |bl i=>
  cases rx
  cases y with
  |h9=>cases ry;exact PySem.EqNone.ne_bool_none (fc I q (by simp))
  |bl j=>cases ry;exact ne_bool (fc I q (congrArg not Th))
  |str j=>obtain⟨t',rfl⟩:=ry;exact PySem.EqMixed.ne_bool_str (fc I q (by simp))
  |_=>exact absurd (show false=true from hs) aZ
 |int i=>
  obtain⟨t,rfl⟩:=rx
  cases y with
  |h9=>cases ry;exact PySem.EqNone.ne_int_none (fc I q (by simp))
  |int j=>obtain⟨t',rfl⟩:=ry;exact ne_int (fc I q (congrArg not PB))
  |str j=>obtain⟨t',rfl⟩:=ry;exact PySem.EqMixed.ne_int_str (fc I q (by simp))
  |_=>exact absurd (show false=true from hs) aZ
 |str i=>
  obtain⟨t,rfl⟩:=rx
  cases y with
  |h9=>cases ry;exact PySem.EqNone.ne_str_none (fc I q (by simp))
  |bl j=>cases ry;exact PySem.EqMixed.ne_str_bool (fc I q (by simp))
  |int j=>obtain⟨t',rfl⟩:=ry;exact PySem.EqMixed.ne_str_int (fc I q (by simp))
  |str j=>obtain⟨t',rfl⟩:=ry;exact ne_str (fc I q (congrArg not PD))
  |_=>exact absurd (show false=true from hs) aZ
 |Nc i=>
  obtain⟨t,rfl⟩:=rx
  cases y with
  |Nc j=>obtain⟨t',rfl⟩:=ry;exact PySem.W.ne_bytes (fc I q (congrArg not PF))
  |_=>exact absurd (show false=true from hs) aZ
 |_=>cases y<;>exact absurd (show false=true from hs) aZ
theorem DR:yg X (eE .Lt) (Wo λi j=>.bl (decide (i<j))):=Wq λ_ _ _ _ _ _ _ q=>lt_int q
theorem iH:yg X (eE .LtE) (Wo λi j=>.bl (decide (i<=j))):=Wq λ_ _ _ _ _ _ _ q=>le_int q
theorem PH:yg X (eE .Gt) (Wo λi j=>.bl (decide (j<i))):=Wq λ_ _ _ _ _ _ _ q=>gt_int q
theorem XW:yg X (eE .GtE) (Wo λi j=>.bl (decide (j<=i))):=Wq λ_ _ _ _ _ _ _ q=>ge_int q
theorem DS:yg X (eE .Is) (λx y H Q=>y=.h9/\Q (.bl (decide (x=.h9))) H):=by
 intro pins s σ H x y v u Q I rx ry h;obtain⟨rfl,q⟩:=h;cases ry;refine is_none_gen (fc I q ?_);cases x<;>first
  |(cases rx;rfl)
  |(obtain⟨t,rfl⟩:=rx;rfl)
theorem Dy:yg X (eE .IsNot) (λx y H Q=>y=.h9/\Q (.bl (!decide (x=.h9))) H):=by
 intro pins s σ H x y v u Q I rx ry h;obtain⟨rfl,q⟩:=h;cases ry;refine isnot_none_gen (fc I q ?_);cases x<;>first
  |(cases rx;rfl)
  |(obtain⟨t,rfl⟩:=rx;rfl)
theorem cC(b:Expr){op:YF}(h:op≠.In:=by decide)(h2:op≠.NotIn:=by decide):rQ op b=false:=by
 have e1:(op==CmpOp.In)=false:=by cases op<;>first|rfl|exact absurd rfl h
 have e2:(op==CmpOp.NotIn)=false:=by cases op<;>first|rfl|exact absurd rfl h2
 cases b<;>simp[rQ,e1,e2]
theorem je{op:YF}{r:R2}(ho:yg X (eE op) r)(ha:PE X a ta)(hb:PE X b tb)(hm:rQ op b=false):PE X (.Compare a [op] [b] pos) (Wn r ta tb):=by intro pins s σ H Q I h;exact wpAny_Compare1 (YZ ha hb I h λv u s2 x y H2 I2 rx ry q=>ho pins s2 σ H2 x y v u Q I2 rx ry q) hm
def Ti(t:TE):TT:=λσ H Q=>t σ H λx H'=>∃k,x=.bl k/\Q k H'
theorem cF{op:YF}{r:R2}(ho:yg X (eE op) r)(ha:PE X a ta)(hb:PE X b tb)(hm:rQ op b=false):PT X (.Compare a [op] [b] pos) (Ti (Wn r ta tb)):=by
 intro pins s σ H Q I h;refine abK (iM (ha pins s σ H _ I h) λv s1 ⟨x,H1,I1,r1,q1⟩=>iM (hb pins s1 σ H1 _ I1 q1) λu s2 ⟨y,H2,I2,r2,q2⟩=>iM (ho pins s2 σ H2 x y v u _ I2 r1 r2 q2) λc s3 ⟨z,H3,I3,r3,k,e,q3⟩=>?_) hm;subst e;cases r3;exact fQ (bq H3 I3 q3)
def Tj(r r':R2)(ta tb tc:TE):TE:=λσ H Q=>ta σ H λx H1=>tb σ H1 λy H2=>r x y H2 λz H3=>∃k,z=.bl k/\
 (if k=true then tc σ H3 λw' H4=>r' y w' H4 Q else Q (.bl false) H3)
theorem kg{op Y3:YF}{r r':R2}(ho:yg X (eE op) r)(Py:yg X (eE Y3) r')(ha:PE X a ta)(hb:PE X b tb)(hc:PE X c tc)(hm:lastMarks [op,Y3] [b,c]=false:=by with_unfolding_all rfl):PE X (.Compare a [op,Y3] [b,c] pos) (Tj r r' ta tb tc):=by
 intro pins s σ H Q I h;refine Compare_chain (iM (ha pins s σ H _ I h) λv s1 ⟨x,H1,I1,r1,q1⟩=>chain_link (iM (hb pins s1 σ H1 _ I1 q1) λu s2 ⟨y,H2,I2,r2,q2⟩=>iM (ho pins s2 σ H2 x y v u _ I2 r1 r2 q2) λd s3 ⟨z,H3,I3,r3,k,e,q3⟩=>?_)) hm;subst e;cases r3;refine fQ ?_
 cases k with
 |false=>exact ite_ff (bt (.bl false) H3 I3 rfl q3)
 |true=>exact ite_tt (chain_last (iM (hc pins s3 σ H3 _ I3 q3) λw' s4 ⟨z',H4,I4,r4,q4⟩=>Py pins s4 σ H4 y z' u w' Q I4 r2 r4 q4))
theorem z6{op Y3:YF}{r r':R2}(ho:yg X (eE op) r)(Py:yg X (eE Y3) r')(ha:PE X a ta)(hb:PE X b tb)(hc:PE X c tc)(hm:lastMarks [op,Y3] [b,c]=false:=by with_unfolding_all rfl):PT X (.Compare a [op,Y3] [b,c] pos) (Ti (Tj r r' ta tb tc)):=by
 intro pins s σ H Q I h;refine isTrue_chain (iM (ha pins s σ H _ I h) λv s1 ⟨x,H1,I1,r1,q1⟩=>test_link (iM (hb pins s1 σ H1 _ I1 q1) λu s2 ⟨y,H2,I2,r2,q2⟩=>iM (ho pins s2 σ H2 x y v u _ I2 r1 r2 q2) λd s3 ⟨z,H3,I3,r3,k,e,q3⟩=>?_)) hm;subst e;cases r3;refine fQ ?_
 cases k with
 |false=>
  obtain⟨k',e',q'⟩:=q3;cases e';exact ite_ff (bq H3 I3 q')
 |true=>
  refine ite_tt (test_last (iM (hc pins s3 σ H3 _ I3 q3) λw' s4 ⟨z',H4,I4,r4,q4⟩=>iM (Py pins s4 σ H4 y z' u w' _ I4 r2 r4 q4) λd' s5 ⟨z2,H5,I5,r5,k2,e2,q5⟩=>?_));subst e2;cases r5;exact fQ (bq H5 I5 q5)
theorem DT:(aA:Nat)<2^63:=by rw[QP];decide
theorem yS:yg X (A9 .Add) (λx y H Q=>∃i j,x=.str i/\y=.str j/\i.length+j.length<=aA/\Q (.str (i++j)) H):=by intro pins s σ H x y v u Q I rx ry h;refine ke ?_ h;clear h;rintro i j rfl rfl hz q;obtain⟨t,rfl⟩:=rx;obtain⟨t',rfl⟩:=ry;exact add_str (λt' tk=>bt (.str (i++j)) H (I.tok _) ⟨_,rfl⟩ q) hz
theorem vals1{x:V}{us:List ak}(r:Vals [x] us):∃u,us=[u]/\RelV x u:=by
 cases r with
 |cons r1 r2=>cases r2;exact ag rfl r1
theorem vals2{x y:V}{us:List ak}(r:Vals [x,y] us):∃u w',us=[u,w']/\RelV x u/\RelV y w':=by
 cases r with
 |cons r1 r2=>
  cases r2 with
  |cons r3 r4=>cases r4;exact bt _ _ rfl r1 r3
theorem Bq(hc:X.calm=true):kO X (.builtin "max") (λxs H Q=>∃i j,xs=[.int i,.int j]/\Q (.int (if j>i then j else i)) H):=by
 intro pins s σ H xs us Q I r h;refine jk ?_ h;clear h;rintro i j rfl q;refine j7 ?_ (vals2 r);rintro u w' rfl ⟨t,rfl⟩ ⟨t',rfl⟩;refine max_two_ints (I.ok.hd hc) λh' tk k=>bt _ H (I.kept k) ?_ q;by_cases hj:j>i
 ·rw[if_pos hj,if_pos hj];exact⟨_,rfl⟩
 ·rw[if_neg hj,if_neg hj];exact⟨_,rfl⟩
theorem Q6(hc:X.calm=true):kO X (.builtin "min") (λxs H Q=>∃i j,xs=[.int i,.int j]/\Q (.int (if j<i then j else i)) H):=by
 intro pins s σ H xs us Q I r h;refine jk ?_ h;clear h;rintro i j rfl q;refine j7 ?_ (vals2 r);rintro u w' rfl ⟨t,rfl⟩ ⟨t',rfl⟩;refine min_two_ints (I.ok.hd hc) λh' tk k=>bt _ H (I.kept k) ?_ q;by_cases hj:j<i
 ·rw[if_pos hj,if_pos hj];exact⟨_,rfl⟩
 ·rw[if_neg hj,if_neg hj];exact⟨_,rfl⟩
theorem mz:kO X (.type "str") (λxs H Q=>∃i,xs=[.int i]/\i.natAbs.log2<1920/\Q (.str (mr i)) H):=by intro pins s σ H xs us Q I r h;refine cH ?_ h;clear h;rintro i rfl hz q;obtain⟨u,rfl,t,rfl⟩:=vals1 r;exact PySem.P.str_of_int hz (bt (.str _) H (I.tok _) ⟨_,rfl⟩ q)
theorem pO:kO X (.builtin "ord") (λxs H Q=>∃x,xs=[.str x]/\x.length=1/\Q (.int (x.cps.getD 0 0:Nat)) H):=by intro pins s σ H xs us Q I r h;refine cH ?_ h;clear h;rintro x rfl hz q;obtain⟨u,rfl,t,rfl⟩:=vals1 r;exact ord_of_one hz (bt (.int _) H (I.tok _) ⟨_,rfl⟩ q)
end
structure Nw(h:cB)(x dx C:af)(mA:Str->Option ak):Prop where
 obj:h.get? x=some (jj C dx)
 ns:h.Ns1 dx mA
 ne:dx≠x
theorem Q7{h:cB}{dx:af}{mA:Str->Option ak}(n:h.Ns1 dx mA):∃od,h.get? dx=some od/\∀name,Ba name od=some (mA name):=by
 refine rq ?_ n;rintro o es ep ho hd hk ⟨_,hm⟩;refine bq o ho (λname=>?_);have e:=hm name;unfold nsFind findBy at e;rw[<-Array.find?_toList] at e;unfold Ba;rw[hd];dsimp only;split
 ·rename_i y q;rw[q] at e;exact congrArg some e
 ·rename_i q;rw[q] at e;have a:es.toList.any (·.refKey)=false:=by rw[List.any_eq_false];intro y hy;refine Ks ?_ (hk y (Array.mem_toList_iff.mp hy));rintro z t IF;simp[DictEntry.refKey,IF]
  have a':¬es.toList.any (·.refKey)=true:=by rw[a];exact aZ
  rw[if_neg a'];exact congrArg some e
theorem Nw.look{h:cB}{x dx C:af}{mA:Str->Option ak}(I:Nw h x dx C mA):∃od,PySem.W.InstAt h x (jj C dx) C (some od)/\∀name,Ba name od=some (mA name):=
 let⟨od,ho,hl⟩:=Q7 I.ns
 (bq od ⟨I.obj,rfl,rfl,ho⟩ hl)
section
variable{prog:bp}{w:bQ}{A:cy}{E:ak->az->Prop}{s:az}{K:ah}{x dx C f:af}{mA:Str->Option ak}{name:Str}{v:ak}
theorem get_map{expr:Bool}{Q:ak->az->Prop}(X:K.In s.heap)(I:Nw s.heap x dx C mA)(hg:xb K C name=true)(hh:FZ K C=true)(ha:fK K (.ref C) name=some none)(hv:mA name=some v)(vw:aaS v=true)(h:Q v {s with toks:=s.toks+1}):
  bj (model prog w) A (getAttr (.ref x) name expr) Q E s:=by
 obtain⟨od,J,hl⟩:=I.look;exact PySem.W.get_value X J (B9 hg).1 (PySem.W.findObj_own hh ha rfl (by rw[hl,hv])) vw h
theorem Tn{pl:Sem Bool}{Q:ak×List ak->az->Prop}(X:K.In s.heap)(I:Nw s.heap x dx C mA)(hg:xb K C name=true)(hf:fK K (.ref C) name=some (some (.ref f)))(ht:Ss K (.ref f)=true)(hv:mA name=none)(h:Q (.ref f,[.ref x]) s):
  bj (model prog w) A (Gu (.ref x) name pl) Q E s:=by
 obtain⟨od,J,hl⟩:=I.look;exact PySem.W.method_fn X J (B9 hg).1 (B9 hg).2 hf (beq_iff_eq.mp ht) (by show(Ba name od).map (·.isSome)=some false;rw[hl,hv];rfl) h
theorem Ws{ns:List Str}{Q:Unit->az->Prop}(X:K.In s.heap)(I:Nw s.heap x dx C mA)(hs:fK K (.ref C) "__setattr__"=some (some (.builtin "object.__setattr__")))(hp:Yx K C=true)(ht:Km K C name=some none)(hh:FZ K C=true)(hw:Sr mA ns)(hsz:ns.length<=aA)(h:∀h',Nw h' x dx C (λy=>if y=name then some v else mA y)->eM dx s.heap h'->Q () {s with heap:=h',toks:=s.toks+2}):
  bj (model prog w) A (setAttr (.ref x) name v) Q E s:=by
 obtain⟨od,J,hl⟩:=I.look;refine PySem.W.set_plain X J hs (PySem.W.osa_open (s:={s with toks:=s.toks+1}) (r:=none) X J hp ht λb=>?_);obtain⟨cd,hc,QX⟩:=PySem.W.any_some hh;have hx:s.heap.get? x=some ⟨.ref C,some dx,.plain,#[]⟩:=I.obj;refine ae (aJ (ae (ae (wpAny_loadPart hx (ae (PySem.W.Looks.here (s:={s with toks:=s.toks+1}) (PySem.W.looks_clsIn X hc) ?_))))));rw[QX];refine aJ (a:=some dx) (ae (aJ (ae ?_)));refine wpAny_nsSet1 (s:={s with toks:=s.toks+1}) I.ns λh' hn2 Gg=>?_;refine jT ?_ (hn2.count (PySem.Within.cons name v hw));rintro oD esD epD hoD hdD hcD;refine ae (wpAny_lookBehind hoD (by rw[hdD];exact pastItsLine_dict (ao hcD (by rw[aW];omega))) ?_);exact aJ (h _ ⟨(Gg.2 _ (nj I.ne)).trans I.obj,hn2,I.ne⟩ Gg)
theorem To{R:aa7->az->Prop}{vs:List ak}{kw:List (Str×ak)}(X:K.In s.heap)(hm:abQ K C=true)(hi:fK K (.ref C) "__init__"=some (some (.ref f)))(hf:PySem.W.typeIn K (.ref f)=some (.type "function"))(h:rS (model prog w) (A.under (.builtin "type.__call__" ⟨.ref C::vs,kw⟩)) (.call (.ref f) ⟨.ref (s.heap.objs.size+1)::vs,kw⟩) (PySem.W.InitBack (s.heap.objs.size+1) R) {s with heap:=(s.heap.push gv).push (jj C s.heap.objs.size)}):
  rS (model prog w) A (.call (.ref C) ⟨vs,kw⟩) R s:=by
 obtain⟨hh,g,d,t,os⟩:=s;exact PySem.W.make_core (PySem.W.makes_of X hm) (PySem.W.looks_findIn X hi) (λself=>PySem.W.bind_fn X self hf) (.inl rfl) h
end
def d6(f:Str)(v:V):List (Str×V)->List (Str×V)
 |[]=>[(f,v)]
 |(g,x)::r=>if g=f then(g,v)::r else(g,x)::d6 f v r
theorem Cf(f g:Str)(v:V):∀fs:List (Str×V),(d6 f v fs).lookup g=if g=f then some v else fs.lookup g
 |[]=>by
  show nI g [(f,v)]=_;by_cases h:g=f
  ·have hb:(g==f)=true:=beq_iff_eq.mpr h;simp only[nI,hb,if_pos h]
  ·have hb:(g==f)=false:=beq_eq_false_iff_ne.mpr h;simp only[nI,hb,if_neg h]
 |(k,x)::r=>by
  have ih:=Cf f g v r;rw[show d6 f v ((k,x)::r)=(if k=f then(k,v)::r else(k,x)::d6 f v r) from rfl];by_cases hk:k=f
  ·rw[if_pos hk];by_cases h:g=k
   ·have hb:(g==k)=true:=beq_iff_eq.mpr h;simp only[nI,hb,if_pos (h.trans hk)]
   ·have hb:(g==k)=false:=beq_eq_false_iff_ne.mpr h;simp only[nI,hb,if_neg (λe:g=f=>h (e.trans hk.symm))]
  ·rw[if_neg hk];by_cases h:g=k
   ·have hb:(g==k)=true:=beq_iff_eq.mpr h;simp only[nI,hb,if_neg (λe:g=f=>hk (h.symm.trans e))]
   ·have hb:(g==k)=false:=beq_eq_false_iff_ne.mpr h;simp only[nI,hb];exact ih
theorem Br(f:Str)(v:V):∀fs:List (Str×V),f∈(d6 f v fs).map (·.1)/\∀g,g∈fs.map (·.1)->g∈(d6 f v fs).map (·.1)
 |[]=>⟨by simp[d6],λg h=>by simp at h⟩
 |(k,x)::r=>by
  obtain⟨i1,i2⟩:=Br f v r;rw[show d6 f v ((k,x)::r)=(if k=f then(k,v)::r else(k,x)::d6 f v r) from rfl];by_cases hk:k=f
  ·rw[if_pos hk];subst hk;exact⟨by simp,λg h=>by simpa using h⟩
  ·rw[if_neg hk];refine⟨?_,λg h=>?_⟩
   ·rw[br];exact bW _ i1
   ·rw[br] at h⊢;rcases aB.mp h with e|e
    ·exact aB.mpr (.inl e)
    ·exact bW _ (i2 g e)
theorem mh(f:Str)(v:V):∀fs:List (Str×V),(d6 f v fs).length<=fs.length+1
 |[]=>by simp[d6]
 |(k,x)::r=>by
  have ih:=mh f v r;rw[show d6 f v ((k,x)::r)=(if k=f then(k,v)::r else(k,x)::d6 f v r) from rfl];by_cases hk:k=f
  ·rw[if_pos hk,aW,aW];omega
  ·rw[if_neg hk,aW,aW];omega
theorem u4.some_of{v:V}{o:Option ak}(r:u4 (some v) o):∃u,o=some u/\RelV v u:=by
 cases o with
 |none=>exact(show False from r).elim
 |some u=>exact bq u rfl r
theorem u4.none_of{o:Option ak}(r:u4 none o):o=none:=by
 cases o with
 |none=>rfl
 |some u=>exact(show False from r).elim
theorem Q8{v:V}{u:ak}(r:RelV v u):aaS u=true:=by
 cases v with
 |h9=>cases(show u=gN from r);rfl
 |bl b=>cases(show u=k8 b from r);rfl
 |int i=>obtain⟨t,e⟩:=(show∃t,u=Ph i t from r);cases e;rfl
 |str x=>obtain⟨t,e⟩:=(show∃t,u=Pj x t from r);cases e;rfl
 |Nc b=>obtain⟨t,e⟩:=(show∃t,u=Value.bytes b t from r);cases e;rfl
 |YM b=>obtain⟨t,e⟩:=(show∃t,u=aeq b t from r);cases e;rfl
 |ref a=>cases(show u=bz a from r);rfl
 |ty n=>cases(show u=m6 n from r);rfl
section
variable{P:bp}{w:bQ}{H H':Hp}{h h':cB}{a C dx:af}{fs fs':List (Str×V)}
theorem Dz(dQ:u5 P w H h)(e:H a=some (.ins C dx fs)):∃mA,Nw h a dx C mA/\(∀f,u4 (fs.lookup f) (mA f))/\Sr mA (fs.map (·.1))/\fs.length<=1000/\H dx=some (.own a):=by obtain⟨d,z,ne,ob,mA,n,r,q⟩:=(show fF P w H h a (.ins C dx fs) from dQ a _ e);exact iL mA ⟨ob,n,ne⟩ r q ⟨z,d⟩
end
structure z7(K:ah)(C:af):Prop where
 pg:xb K C Str.empty=true
 hd:FZ K C=true
 po:Yx K C=true
 sa:fK K (.ref C) "__setattr__"=some (some (.builtin "object.__setattr__"))
theorem z7.get{K:ah}{C:af}(c:z7 K C)(f:Str):xb K C f=true:=c.pg
def dC(K:ah)(C:af)(f:Str):Prop:=fK K (.ref C) f=some none
theorem dC.acj{K:ah}{C:af}{f:Str}(n:dC K C f):Km K C f=some none:=by unfold Km;rw[show fK K (.ref C) f=some none from n];rfl
structure Meth(K:ah)(C:af)(m:Str)(f:af):Prop where
 at_:fK K (.ref C) m=some (some (.ref f))
 fn:Ss K (.ref f)=true
 kp:lI K (.ref f)=true
section
variable{X:Cx}{pins:List (af×Obj)}{σ:St}{H:Hp}{s:az}{a C dx:af}{fs:List (Str×V)}{f:Str}{v:V}{A:cy}{E:ak->az->Prop}
theorem Ny{b:Bool}{Q:ak->az->Prop}(I:Inv X pins σ H s)(e:H a=some (.ins C dx fs))(c:z7 X.K C)(n:dC X.K C f)(l:fs.lookup f=some v)(h:∀u s',Inv X pins σ H s'->RelV v u->Q u s'):bj (model X.prog X.w) A (getAttr (.ref a) f b) Q E s:=by refine cH ?_ (Dz I.dQ e);rintro mA O r ⟨_,_,_⟩;obtain⟨u,hu,ru⟩:=u4.some_of (v:=v) (o:=mA f) (by rw[<-l];exact r f);exact get_map I.Bl O (c.get f) c.hd n hu (Q8 ru) (h u _ (I.tok _) ru)
theorem DU{m:Str}{g:af}{pl:Sem Bool}{Q:ak×List ak->az->Prop}(I:Inv X pins σ H s)(e:H a=some (.ins C dx fs))(c:z7 X.K C)(k:Meth X.K C m g)(l:fs.lookup m=none)(h:Q (.ref g,[.ref a]) s):bj (model X.prog X.w) A (Gu (.ref a) m pl) Q E s:=by refine cH ?_ (Dz I.dQ e);rintro mA O r ⟨_,_,_⟩;have hn:mA m=none:=u4.none_of (by rw[<-l];exact r m);exact Tn I.Bl O (c.get m) k.at_ k.fn hn h
theorem Nz{y:V}{u:ak}{Q:Unit->az->Prop}(I:Inv X pins σ H s)(e:H a=some (.ins C dx fs))(c:z7 X.K C)(n:dC X.K C f)(hl:fs.length<1000)(ry:RelV y u)(h:∀s',Inv X pins σ (upd H a (.ins C dx (d6 f y fs))) s'->Q () s'):bj (model X.prog X.w) A (setAttr (.ref a) f u) Q E s:=by
 refine cH ?_ (Dz I.dQ e);rintro mA O r ⟨wi,_,ho⟩;have hz:(fs.map (·.1)).length<=aA:=by rw[aa,QP];omega
 refine Ws I.Bl O c.sa c.po n.acj c.hd wi hz λh' O' sb=>h _ ?_;have hd:∃o,h'.get? dx=some o:=let⟨o,_,_,e',_⟩:=O'.ns;⟨o,e'⟩;refine I.write (x:=a) (e:=dx) (by rw[e];exact jy) (.inr ho) (λb q hb z=>(sb.2 b hb).trans z) hd ?_;refine⟨by rw[ay O.ne];exact ho,?_,O.ne,O'.obj,bP _ O'.ns (λg=>?_) (λg hg=>?_)⟩
 ·have:=mh f y fs;omega
 ·show u4 ((d6 f y fs).lookup g) (if g=f then some u else mA g);rw[Cf];by_cases q:g=f
  ·rw[if_pos q,if_pos q];exact ry
  ·rw[if_neg q,if_neg q];exact r g
 ·by_cases q:g=f
  ·rw[q];exact(Br f y fs).1
  ·refine(Br f y fs).2 g (wi g λz=>hg ?_);show(if g=f then some u else mA g)=none;rw[if_neg q];exact z
theorem Inv.made(I:Inv X pins σ H s):Inv X pins σ (upd (upd H s.heap.objs.size (.own (s.heap.objs.size+1))) (s.heap.objs.size+1) (.ins C s.heap.objs.size [])) {s with heap:=(s.heap.push gv).push (jj C s.heap.objs.size)}:=by
 have e1:(s.heap.push gv).get? s.heap.objs.size=some gv:=aU s.heap rfl;have e2:((s.heap.push gv).push (jj C s.heap.objs.size)).get? (s.heap.objs.size+1)=some (jj C s.heap.objs.size):=by have:=aU (s.heap.push gv) (o:=jj C s.heap.objs.size) rfl;rwa[cO] at this
 have e3:(s.heap.push gv).Ns s.heap.objs.size (λ_=>none):=jK gv (#[]) _ e1 rfl ⟨(λe he=>absurd he (by simp)),λ_=>rfl⟩;have I1:=I.laid (a:=s.heap.objs.size) (o:=.own (s.heap.objs.size+1)) (h':=s.heap.push gv) (t':=s.toks) (λb u q=>aj _ q) (aK _) ⟨_,e1⟩;refine I1.laid (a:=s.heap.objs.size+1) (o:=.ins C s.heap.objs.size []) (t':=s.toks) (λb u q=>aj _ q) (ye (cO _ _)) ?_;have ne:s.heap.objs.size≠s.heap.objs.size+1:=bV (pk _);refine⟨by rw[ay ne,ai],bE _,ne,e2,bP (λ_=>none) ((Heap.Ns1.of_empty e3).at λo q=>aj _ q) (λ_=>jy) (λy hy=>absurd rfl hy)⟩
theorem Wt{prog:bp}{w:bQ}{env:Env}{e:Expr}{f:Str}{pos:Pos}{s:az}{Q:ak->az->Prop}(hb:gf e f env (eval e env)=eval e env)(h:bj (model prog w) A (eval e env) (λo s₁=>bj (model prog w) A (getAttr o f true) Q E s₁) E s):bj (model prog w) A (eval (.Attribute e f pos) env) Q E s:=Attribute_any_ h (by rw[arm_eval_Attribute,hb])
end
def ack(K:ah)(ta:TE)(f:Str):TE:=λσ H Q=>ta σ H λx H1=>∃a C dx fs v,x=.ref a/\H1 a=some (.ins C dx fs)/\z7 K C/\dC K C f/\fs.lookup f=some v/\Q v H1
def afM(K:ah)(ta tv:TE)(f:Str):TS:=λD σ H=>tv σ H λy H1=>ta σ H1 λx H2=>∃a C dx fs,x=.ref a/\H2 a=some (.ins C dx fs)/\z7 K C/\dC K C f/\fs.length<1000/\
 D.nx σ (upd H2 a (.ins C dx (d6 f y fs)))
section
variable{X:Cx}{o e value:Expr}{f:Str}{pos pos' u6:Pos}{ta tv:TE}
theorem bo(he:PE X e ta)(hb:gf e f X.env (eval e X.env)=eval e X.env):PE X (.Attribute e f pos) (ack X.K ta f):=by intro pins s σ H Q I h;refine Wt hb (iM (he pins s σ H _ I h) λu s1 ⟨x,H1,I1,rx,a,C,dx,fs,v,ex,ea,c,n,l,q⟩=>?_);subst ex;obtain rfl:u=bz a:=rx;exact Ny I1 ea c n l λu' s2 I2 ru=>bt v H1 I2 ru q
theorem d9(ha:PE X o ta)(hv:PE X value tv)(hs:A8 value (some (.Attribute o f pos')) pos.line X.env=pure false):PS X (.Assign [.Attribute o f pos'] value pos) (afM X.K ta tv f):=by intro pins s σ H D I h;refine plainObj_wpAny_Assign_Attribute (iM (hv pins s σ H _ I h) λu s1 ⟨y,H1,I1,ry,q⟩=>iM (ha pins s1 σ H1 _ I1 q) λov s2 ⟨x,H2,I2,rx,a,C,dx,fs,ex,ea,c,n,l,q2⟩=>?_) hs;subst ex;obtain rfl:ov=bz a:=rx;exact Nz I2 ea c n l ry λs3 I3=>fu σ _ I3 q2
end
section
variable{X:Cx}{pins:List (af×Obj)}{σ:St}{H:Hp}{s:az}{A:cy}{E:ak->az->Prop}{Q:ak->az->Prop}{c:ak}{b:Bool}
inductive Bs(K:ah)(H:Hp):V->ak->Prop where
 |h9:Bs K H .h9 (.type "NoneType")
 |bl (x:Bool):Bs K H (.bl x) (.type "bool")
 |int (i:Int):Bs K H (.int i) (.type "int")
 |str (x:Str):Bs K H (.str x) (.type "str")
 |YM (x:UInt64):Bs K H (.YM x) (.type "float")
 |lst {a:af} {xs:List V} (e:H a=some (.lst xs)):Bs K H (.ref a) (.type "list")
 |vp {a:af} {o:Obj} {xs:List V} (e:H a=some (.vp o (.lst xs))):Bs K H (.ref a) (.type "list")
 |tup {a:af} {xs:List V} (e:H a=some (.tup xs)):Bs K H (.ref a) (.type "tuple")
 |dK {a:af} {kvs:List (Key×V)} (e:H a=some (.dK kvs)):Bs K H (.ref a) (.type "dict")
 |dT {a:af} {kvs:List (List Key×V)} (e:H a=some (.dT kvs)):Bs K H (.ref a) (.type "dict")
 |ins {a C dx:af} {fs:List (Str×V)} (e:H a=some (.ins C dx fs)) (cl:z7 K C) (ha:fK K (.ref C) "__class__"=some (some (.builtin "object.__class__")))
   (hn:Yy K (.builtin "object.__class__") "__get__"=some (some (.builtin "getset_descriptor.__get__"))) (htk:abR K (.builtin "object.__class__")=some true)
   (hm:Pl K C (.type "object")=some true):Bs K H (.ref a) (.ref C)
theorem Q9{x:V}{u t:ak}(I:Inv X pins σ H s)(rx:RelV x u)(ty:Bs X.K H x t)(e:Bb X.K t c=some b)(h:∀tk,Q (.bool b) {s with toks:=tk}):
  bj (model X.prog X.w) A (call (.builtin "isinstance") [u,c]) Q E s:=by
 cases ty with
 |h9=>cases(show u=gN from rx);exact fN PySem.W.kitx_none I.Bl jy e (λz=>nomatch z) h
 |bl y=>cases(show u=k8 y from rx);exact fN PySem.W.kitx_bool I.Bl jy e (λz=>nomatch z) h
 |int i=>obtain⟨t,q⟩:=(show∃t,u=Ph i t from rx);cases q;exact fN PySem.W.kitx_int I.Bl jy e (λz=>nomatch z) h
 |str y=>obtain⟨t,q⟩:=(show∃t,u=Pj y t from rx);cases q;exact fN PySem.W.kitx_str I.Bl jy e (λz=>nomatch z) h
 |YM y=>obtain⟨t,q⟩:=(show∃t,u=aeq y t from rx);cases q;exact fN PySem.W.kitx_float I.Bl jy e (λz=>nomatch z) h
 |@lst a xs ea=>
  cases(show u=bz a from rx);obtain⟨_,_,n,_,h1⟩:=(show fF X.prog X.w H s.heap a (.lst xs) from I.dQ a _ ea);exact fN Yz I.Bl (ag h1 rfl) e (λz=>nomatch z) h
 |@vp a ob xs ea=>
  cases(show u=bz a from rx);obtain⟨_,_,_,n,_,h1⟩:=(show fF X.prog X.w H s.heap a (.vp ob (.lst xs)) from I.dQ a _ ea);exact fN Yz I.Bl (ag h1 rfl) e (λz=>nomatch z) h
 |@tup a xs ea=>
  cases(show u=bz a from rx);obtain⟨_,_,_,p⟩:=(show fF X.prog X.w H s.heap a (.tup xs) from I.dQ a _ ea);refine cH ?_ p;rintro o h1 h2 _;exact fN PySem.W.kitx_tuple I.Bl (bq o h1 h2) e (λz=>nomatch z) h
 |@dK a kvs ea=>
  cases(show u=bz a from rx);obtain⟨_,_,vs,_,p⟩:=(show fF X.prog X.w H s.heap a (.dK kvs) from I.dQ a _ ea);refine jT ?_ p;rintro o es ep h1 h2 _;exact fN YA I.Bl (bq o h1 h2.1) e (λz=>nomatch z) h
 |@dT a kvs ea=>
  cases(show u=bz a from rx);obtain⟨_,_,xs,_,o,es,ep,h1,h2,_⟩:=(show fF X.prog X.w H s.heap a (.dT kvs) from I.dQ a _ ea);exact fN YA I.Bl (bq o h1 h2.1) e (λz=>nomatch z) h
 |@ins a C dx fs ea cl ha hn htk hm=>
  cases(show u=bz a from rx);obtain⟨mA,O,_⟩:=Dz I.dQ ea;obtain⟨od,J,_⟩:=O.look;exact fN (PySem.W.kitx_own (cl.get _) cl.hd ha hn htk hm) I.Bl J e (λz=>nomatch z) h
end
structure jx(k:Nat)(A:cy):Prop where
 hd:A.handled=none
 dp:A.depth+3*k+5<w8
 un:A.units+16*k+200<mv
theorem jx.mono{j k:Nat}{A:cy}(r:jx k A)(h:j<=k:=by decide):jx j A:=⟨r.hd,by have:=r.dp;omega,by have:=r.un;omega⟩
theorem jx.deeper{k:Nat}{A:cy}(r:jx (k+1) A)(env:Env):jx k (A.deeper env):=⟨r.hd,by have:=r.dp;show A.depth+1+3*k+5<_;omega,by have:=r.un;show A.units+3+16*k+200<_;omega⟩
theorem jx.in1{k:Nat}{A:cy}(r:jx (k+1) A):jx k A.in1:=⟨r.hd,by have:=r.dp;show A.depth+3*k+5<_;omega,by have:=r.un;show A.units+1+16*k+200<_;omega⟩
theorem NA{A:cy}{C:af}{us:List ak}{kw:List (Str×ak)}:(A.under (.builtin "type.__call__" ⟨.ref C::us,kw⟩)).depth=A.depth+1:=by first|rfl|simp[aaP,Code.weight,Code.isCreation,Code.isGuard,Code.isCaller,Code.frames,aaQ,guardIds]
theorem NB{A:cy}{C:af}{us:List ak}{kw:List (Str×ak)}:(A.under (.builtin "type.__call__" ⟨.ref C::us,kw⟩)).units=A.units+1:=by first|rfl|simp[aaP,Code.cUnits,Code.frames,aaQ]
theorem jx.make{k:Nat}{A:cy}(r:jx (k+1) A)(C:af)(us:List ak)(kw:List (Str×ak)):jx k (A.under (.builtin "type.__call__" ⟨.ref C::us,kw⟩)):=⟨r.hd,by have:=r.dp;rw[NA];omega,by have:=r.un;rw[NB];omega⟩
theorem jx.depth{k:Nat}{A:cy}(r:jx k A):A.depth<w8:=by have:=r.dp;omega
theorem jx.units{k:Nat}{A:cy}(r:jx k A):A.units+64<mv:=by have:=r.un;omega
theorem jx.Bt{k:Nat}{A:cy}(r:jx k A):A.units<mv:=by have:=r.un;omega
def vx:TA:=λ_ H Q=>Q [] H
def rV(ta:TE)(tr:TA):TA:=λσ H Q=>ta σ H λx H1=>tr σ H1 λxs H2=>Q (x::xs) H2
section
variable{X:Cx}{e:Expr}{es:List Expr}{te:TE}{t:TA}{pos:Pos}
theorem aq:PA X [] vx:=λ_ _ _ _ H Q I h=>MZ (bt ([]) H I .nil h)
theorem Wu(ha:PE X e te)(hr:PA X es t)(hs:bO (e::es) X.env=(false,eval e X.env)::bO es X.env:=by rfl):PA X (e::es) (rV te t):=by intro pos pins s σ H Q I h;rw[hs];show bj _ _ (spliced ((false,eval e X.env)::fO pos (bO es X.env))) _ _ s;refine Kf (iM (ha pins s σ H _ I h) λu s1 ⟨x,H1,I1,r1,q1⟩=>?_);exact iM (hr pos pins s1 σ H1 _ I1 q1) λus s2 ⟨xs,H2,I2,r2,q2⟩=>bt (x::xs) H2 I2 (.cons r1 r2) q2
def afN(t:TA):TE:=λσ H Q=>t σ H λxs H1=>xs.length<=aA/\∀p,H1 p=none->Q (.ref p) (upd H1 p (.tup xs))
def afO(t:TA):TE:=λσ H Q=>t σ H λxs H1=>xs.length<=aA/\∀p,H1 p=none->Q (.ref p) (upd H1 p (.lst xs))
theorem Y4{x1}(h:PA X es t):PE X (.Tuple es x1 pos) (afN t):=by intro pins s σ H Q I hq;refine wpAny_Tuple_spliced (iM (h pos pins s σ H _ I hq) λus s1 ⟨xs,H1,I1,r,z,q⟩=>⟨by rw[<-r.length];exact z,?_⟩);have hf:H1 s1.heap.objs.size=none:=I1.dQ.fresh (aK _);refine bt (.ref s1.heap.objs.size) (upd H1 s1.heap.objs.size (.tup xs)) (I1.laid (t':=s1.toks) (λb u e=>aj _ e) (aK _) ?_) rfl (q _ hf);exact⟨z,bq us r (bP _ (aU _ rfl) rfl ⟨_,rfl⟩)⟩
theorem bZ(h:PA X es t):PE X (.List es pos) (afO t):=by intro pins s σ H Q I hq;refine wpAny_List_spliced (iM (h pos pins s σ H _ I hq) λus s1 ⟨xs,H1,I1,r,z,q⟩=>⟨by rw[<-r.length];exact z,?_⟩);have hf:H1 s1.heap.objs.size=none:=I1.dQ.fresh (aK _);refine bt (.ref s1.heap.objs.size) (upd H1 s1.heap.objs.size (.lst xs)) (I1.laid (t':=s1.toks) (λb u e=>aj _ e) (aK _) ?_) rfl (q _ hf);exact⟨z,fu us 0 r (aU _ rfl)⟩
end
abbrev Sp:=List V->Hp->VK->XK->Prop
abbrev V1:=List Env->Hp->az->XK->ak->az->Prop
structure NC(P:bp)(w:bQ)(K:ah)(mg:Str->Option ak)(base:cB)(A:cy)(outer:List Env)(s:az)(H:Hp):Prop where
 frames:A.frames=some outer
 mod:Mod K mg base
 bs:∀b o,base.get? b=some o->s.heap.get? b=some o/\H b=none
 VZ:base.objs.size<=s.heap.objs.size
 CW:s.heap.FunFrames base outer
 YQ:∀b∈SX outer,H b=none
 dQ:u5 P w H s.heap
 bare:Wb s.gens
def CE(outer:List Env)(P:bp)(w:bQ)(H:Hp)(s:az)(Q:VK)(u:ak)(s':az):Prop:=∃v H',s'.os=s.os/\Wb s'.gens/\Un (SX outer) [] H H' s.heap s'.heap/\u5 P w H' s'.heap/\RelV v u/\Q v H'
def CR(CX:V1)(outer:List Env)(P:bp)(w:bQ)(H:Hp)(s:az)(Q:VK)(E:XK)(r:aa7)(s':az):Prop:=
 match r with
 |.ok (.ret u)=>CE outer P w H s Q u s'
 |.ok _=>False
 |.error e=>CX outer H s E e s'
structure xG(P:bp)(w:bQ)(K:ah)(mg:Str->Option ak)(base:cB)(CX:V1)(k:Nat)(f:af)(fd:jw)(ps:List Str)(sp:Sp):Prop where
 len:∀vs H Q E,sp vs H Q E->vs.length=ps.length
 run:∀(A:cy)(outer:List Env)(s:az)(H:Hp)(args:Args)(us:List ak)(vs:List V)(Q:VK)(E:XK),jx k A->NC P w K mg base A outer s H->BindsTo s fd args (ps.zip us)->Vals vs us->sp vs H Q E->
  rS (model P w) A (.call (.ref f) args) (CR CX outer P w H s Q E) s
theorem xG.mono{P:bp}{w:bQ}{K:ah}{mg:Str->Option ak}{base:cB}{CX:V1}{j k:Nat}{f:af}{fd:jw}{ps:List Str}{sp:Sp}(F:xG P w K mg base CX j f fd ps sp)(h:j<=k):
  xG P w K mg base CX k f fd ps sp:=⟨F.len,λA outer s H args us vs Q E hr=>F.run A outer s H args us vs Q E (hr.mono h)⟩
theorem NC.make{P:bp}{w:bQ}{K:ah}{mg:Str->Option ak}{base:cB}{A:cy}{outer:List Env}{s:az}{H:Hp}(e:NC P w K mg base A outer s H)(C:af)(us:List ak)(kw:List (Str×ak)):
  NC P w K mg base (A.under (.builtin "type.__call__" ⟨.ref C::us,kw⟩)) outer s H:=⟨by first|exact e.frames|(simpa[aaP,Code.envs,aaQ,pushEnvs] using e.frames),e.mod,e.bs,e.VZ,e.CW,e.YQ,e.dQ,e.bare⟩
section
variable{X:Cx}{pins:List (af×Obj)}{σ:St}{H:Hp}{s s':az}
theorem Inv.acm(I:Inv X pins σ H s):NC X.prog X.w X.K X.mg X.base X.A X.stack s H:=⟨I.ok.frames,I.ok.mod,I.bs,ao I.ok.VZ I.sz,I.stack,I.IC,I.dQ,I.bare⟩
theorem Inv.after{Q:VK}{u:ak}(I:Inv X pins σ H s)(h:CE X.stack X.prog X.w H s Q u s'):EP X pins σ Q u s':=by refine ke ?_ h;rintro v H' os bare un ⟨dQ,r,q⟩;obtain⟨hh,g,d,t,os'⟩:=s';obtain rfl:os'=s.os:=os;exact bt v H' (I.call (h':=hh) (g':=g) (d':=d) (t':=t) (ch:=[]) un dQ bare (λb z=>absurd z (by simp))) r q
end
def Tp(sp:Sp)(DV:List V)(E:XK)(t:TA):TE:=λσ H Q=>t σ H λvs H1=>sp (vs++DV) H1 Q E
def vy(C:af)(m:Str)(sp:Sp)(DV:List V)(E:XK)(ta:TE)(t:TA):TE:=λσ H Q=>ta σ H λx H1=>∃a dx fs,x=.ref a/\H1 a=some (.ins C dx fs)/\fs.lookup m=none/\
 t σ H1 λvs H2=>sp (x::(vs++DV)) H2 Q E
def PJ(C:af)(sp:Sp)(DV:List V)(E:XK)(t:TA):TE:=λσ H Q=>t σ H λvs H1=>∀x dx,H1 x=none->H1 dx=none->dx≠x->
 sp (.ref x::(vs++DV)) (upd (upd H1 dx (.own x)) x (.ins C dx [])) (λv H2=>v=.h9/\Q (.ref x) H2) E
def Binds(K:ah)(fd:jw)(ps:List Str)(ds:List ak):Prop:=∀(s:az)(us:List ak),K.In s.heap->(us++ds).length=ps.length->BindsTo s fd ⟨us,[]⟩ (ps.zip (us++ds))
theorem Binds.all{K:ah}{fd:jw}{ps:List Str}(h:∀us:List ak,us.length=ps.length->Bc fd ⟨us,[]⟩=pure (ps.zip us)):Binds K fd ps []:=λs us _ hl=>by rw[dM] at hl⊢;exact .of_eq (h us hl)
def Passes(CX:V1)(X:Cx)(E:XK):Prop:=∀(pins:List (af×Obj))(σ:St)(H:Hp)(s:az)(e:ak)(s':az),Inv X pins σ H s->CX X.stack H s E e s'->X.xe e s'
section
variable{X:Cx}{CX:V1}{k:Nat}{f C:af}{fd:jw}{ps:List Str}{sp:Sp}{DV:List V}{ds:List ak}{E:XK}{x m:Str}{p pos apos:Pos}{e o:Expr}{es:List Expr}{ta:TE}{t:TA}
theorem IG{pins:List (af×Obj)}{σ:St}{H:Hp}{s:az}{Q:VK}{us:List ak}{vs:List V}(F:xG X.prog X.w X.K X.mg X.base CX k f fd ps sp)(hr:jx k X.A)(hb:Binds X.K fd ps ds)(hd:Vals DV ds)(hx:Passes CX X E)(I:Inv X pins σ H s)(r:Vals vs us)(h:sp (vs++DV) H Q E):bj (model X.prog X.w) X.A (call (.ref f) us) (EP X pins σ Q) X.xe s:=by
 have r2:Vals (vs++DV) (us++ds):=r.append hd;have hl:(us++ds).length=ps.length:=by rw[<-r2.length];exact F.len _ _ _ _ h
 refine Kj (k7 (F.run X.A X.stack s H ⟨us,[]⟩ (us++ds) (vs++DV) Q E hr I.acm (hb s us I.Bl hl) r2 h) λr s' hq=>?_)
 cases r with
 |error e=>exact hx pins σ H s e s' I hq
 |ok fl=>
  cases fl with
  |ret u=>exact I.after hq
  |next=>exact dP hq
  |brk=>exact dP hq
  |cont=>exact dP hq
theorem Wv(F:xG X.prog X.w X.K X.mg X.base CX k f fd ps sp)(hr:jx k X.A)(hg:Gl X x)(hm:X.mg x=some (.ref f))(hk:lI X.K (.ref f)=true)(hb:Binds X.K fd ps ds)(hd:Vals DV ds)(hx:Passes CX X E)(ha:PA X (e::es) t)(IH:(x==("__debug__":Str))=false:=by decide)(he:bO (e::es) X.env=(false,eval e X.env)::bO es X.env:=by rfl)(xH:(fO pos (bO es X.env)).any (·.1)=false:=by rfl):
  PE X (.Call (.Name x p) (e::es) [] pos) (Tp sp DV E t):=by
 intro pins s σ H Q I h;refine jr (Dv I hg hm ?_ IH);refine sX (h₀:=X.base) I.ok.mod.kin hk (iM (ha pos pins s σ H _ I h) λus s1 ⟨vs,H1,I1,r,q⟩=>⟨I1.Bl,?_⟩) he xH;exact IG F hr hb hd hx I1 r q
theorem Ww{pl:Sem Bool}(he:PE X o ta)(c:z7 X.K C)(hm:Meth X.K C m f)(F:xG X.prog X.w X.K X.mg X.base CX k f fd ps sp)(hr:jx k X.A)(hb:Binds X.K fd ps ds)(hd:Vals DV ds)(hx:Passes CX X E)(ha:PA X (e::es) t)(gC:bO (e::es) X.env=(false,eval e X.env)::bO es X.env:=by rfl)(xH:(fO pos (bO es X.env)).any (·.1)=false:=by rfl)(ht:eval (.Call (.Attribute o m apos) (e::es) [] pos) X.env=(do
   let ov <-eval o X.env
   aa5 apos.atName
   let(f,first) <-holding [ov] (Gu ov m pl)
   qp pos f first (fO pos (bO (e::es) X.env)) (iX pos (eY [] X.env))):=by rfl):
  PE X (.Call (.Attribute o m apos) (e::es) [] pos) (vy C m sp DV E ta t):=by
 intro pins s σ H Q I h;refine SO (pl:=pl) (iM (he pins s σ H _ I h) λu s1 ⟨x,H1,I1,rx,a,dx,fs,ex,ea,l,q⟩=>?_) ht;subst ex;obtain rfl:u=bz a:=rx;refine DU I1 ea c hm l ?_;refine sX (first:=[.ref a]) (h₀:=X.base) I.ok.mod.kin hm.kp (iM (ha pos pins s1 σ H1 _ I1 q) λus s2 ⟨vs,H2,I2,r,q2⟩=>⟨I2.Bl,?_⟩) gC xH;exact IG (us:=.ref a::us) (vs:=.ref a::vs) F hr hb hd hx I2 (.cons rfl r) q2
theorem Tq{pl:Sem Bool}(he:PE X o ta)(c:z7 X.K C)(hm:Meth X.K C m f)(F:xG X.prog X.w X.K X.mg X.base CX k f fd ps sp)(hr:jx k X.A)(hb:Binds X.K fd ps ds)(hd:Vals DV ds)(hx:Passes CX X E)(ht:eval (.Call (.Attribute o m apos) [] [] pos) X.env=(do
   let ov <-eval o X.env
   aa5 apos.atName
   let(f,first) <-holding [ov] (Gu ov m pl)
   qp pos f first (fO pos (bO [] X.env)) (iX pos (eY [] X.env))):=by rfl):
  PE X (.Call (.Attribute o m apos) [] [] pos) (vy C m sp DV E ta vx):=by
 intro pins s σ H Q I h;refine SO (pl:=pl) (iM (he pins s σ H _ I h) λu s1 ⟨x,H1,I1,rx,a,dx,fs,ex,ea,l,q⟩=>?_) ht;subst ex;obtain rfl:u=bz a:=rx;refine DU I1 ea c hm l ?_;exact Wd (first:=[.ref a]) I1.Bl hm.kp (IG (us:=[.ref a]) (vs:=[.ref a]) F hr hb hd hx I1 (.cons rfl .nil) q)
structure Mk(K:ah)(C f:af):Prop where
 makes:abQ K C=true
 init:fK K (.ref C) "__init__"=some (some (.ref f))
 fn:Ss K (.ref f)=true
 kp:lI K (.ref C)=true
theorem KC{pins:List (af×Obj)}{σ:St}{H:Hp}{s:az}{Q:VK}{us:List ak}{vs:List V}(M:Mk X.K C f)(F:xG X.prog X.w X.K X.mg X.base CX k f fd ps sp)(hr:jx (k+1) X.A)(hb:Binds X.K fd ps ds)(hd:Vals DV ds)(hx:Passes CX X E)(I:Inv X pins σ H s)(r:Vals vs us)(h:∀x dx,H x=none->H dx=none->dx≠x->sp (.ref x::(vs++DV)) (upd (upd H dx (.own x)) x (.ins C dx [])) (λv H2=>v=.h9/\Q (.ref x) H2) E):
  bj (model X.prog X.w) X.A (call (.ref C) us) (EP X pins σ Q) X.xe s:=by
 have hq:=h (s.heap.objs.size+1) s.heap.objs.size (I.dQ.fresh (VU _)) (I.dQ.fresh (aK _)) (bV (pk _));have I2:=Inv.made (C:=C) I;have r2:Vals (V.ref (s.heap.objs.size+1)::(vs++DV)) (bz (s.heap.objs.size+1)::(us++ds)):=.cons rfl (r.append hd);have hl:(bz (s.heap.objs.size+1)::us++ds).length=ps.length:=by have e:=r2.length;rw[F.len _ _ _ _ hq] at e;exact e.symm
 refine Kj (To (f:=f) I.Bl M.makes M.init (beq_iff_eq.mp M.fn) (k7 (F.run _ X.stack _ _ ⟨bz (s.heap.objs.size+1)::us,[]⟩ (bz (s.heap.objs.size+1)::(us++ds)) _ _ E (hr.make C us []) (I2.acm.make C us []) (hb _ (bz (s.heap.objs.size+1)::us) I2.Bl hl) r2 hq) λr s' Ts=>?_))
 cases r with
 |error e=>exact hx pins σ _ _ e s' I2 Ts
 |ok fl=>
  cases fl with
  |ret u=>refine ke ?_ (I2.after Ts);rintro v H' I3 rv ev q3;subst ev;exact⟨rv,bt (V.ref (s.heap.objs.size+1)) H' I3 rfl q3⟩
  |next=>exact dP Ts
  |brk=>exact dP Ts
  |cont=>exact dP Ts
theorem Wx(M:Mk X.K C f)(F:xG X.prog X.w X.K X.mg X.base CX k f fd ps sp)(hr:jx (k+1) X.A)(hg:Gl X x)(hm:X.mg x=some (.ref C))(hb:Binds X.K fd ps ds)(hd:Vals DV ds)(hx:Passes CX X E)(ha:PA X (e::es) t)(IH:(x==("__debug__":Str))=false:=by decide)(he:bO (e::es) X.env=(false,eval e X.env)::bO es X.env:=by rfl)(xH:(fO pos (bO es X.env)).any (·.1)=false:=by rfl):
  PE X (.Call (.Name x p) (e::es) [] pos) (PJ C sp DV E t):=by
 intro pins s σ H Q I h;refine jr (Dv I hg hm ?_ IH);refine sX (h₀:=X.base) I.ok.mod.kin M.kp (iM (ha pos pins s σ H _ I h) λus s1 ⟨vs,H1,I1,r,q⟩=>⟨I1.Bl,?_⟩) he xH;exact KC M F hr hb hd hx I1 r q
theorem Tu(M:Mk X.K C f)(F:xG X.prog X.w X.K X.mg X.base CX k f fd ps sp)(hr:jx (k+1) X.A)(hg:Gl X x)(hm:X.mg x=some (.ref C))(hb:Binds X.K fd ps ds)(hd:Vals DV ds)(hx:Passes CX X E)(IH:(x==("__debug__":Str))=false:=by decide):PE X (.Call (.Name x p) [] [] pos) (PJ C sp DV E vx):=by intro pins s σ H Q I h;refine jr (Dv I hg hm ?_ IH);exact Wd I.Bl M.kp (KC (us:=[]) M F hr hb hd hx I .nil h)
end
structure bf(N P:List Str)(sc:Scope):Prop where
 kind:sc.kind=.function
 co:sc.isCoroutine=false
 gen:sc.isGenerator=false
 nd:N.Nodup
 pre:N.take P.length=P
 par:∀x∈P,sc.names.lookup x=some .local∨sc.names.lookup x=some .cell
 Y5:∀y∈sc.names,y.2≠.free
theorem g0{N P:List Str}{sc:Scope}(a:sc.kind=.function:=by rfl)(b:sc.isCoroutine=false:=by rfl)(c:sc.isGenerator=false:=by rfl)(d:N.Nodup:=by decide+kernel)(e:N.take P.length=P:=by rfl)(f:∀x∈P,sc.names.lookup x=some .local∨sc.names.lookup x=some .cell:=by decide+kernel)(g:∀y∈sc.names,y.2≠.free:=by decide+kernel):bf N P sc:=⟨a,b,c,d,e,f,g⟩
theorem fz{a b:Prop}(h:a∨b:=by first|exact XN rfl|exact Sw rfl):a∨b:=h
theorem Hz{kindOf:Str->Option jR}{x:Str}:∀{binds:List (Str×ak)}{m:Str->Option ak},(∀v,(x,v)∉binds)->YG kindOf binds m x=m x
 |[],_,_=>rfl
 |(n,v)::r,m,h=>by
  unfold YG;rw[Hz λw hw=>h w (bW _ hw)];split
  ·have:x≠n:=by rintro rfl;exact h v dc
   simp[this]
  ·rfl
theorem HA{kindOf:Str->Option jR}{x:Str}:∀{binds:List (Str×ak)}{m:Str->Option ak},(∀v,(x,v)∉binds)->YH kindOf binds m x=m x
 |[],_,_=>rfl
 |(n,v)::r,m,h=>by
  unfold YH;rw[HA λw hw=>h w (bW _ hw)];split
  ·rfl
  ·have:x≠n:=by rintro rfl;exact h v dc
   simp[this]
theorem HC{kindOf:Str->Option jR}{x:Str}{v:ak}:∀{P:List Str}{vs:List ak}{i:Nat}{m:Str->Option ak},P.Nodup->P[i]? =some x->vs[i]? =some v->kindOf x=some .local->
  YG kindOf (P.zip vs) m x=some v
 |[],_,_,_,_,h,_,_=>by simp at h
 |_::_,[],_,_,_,_,h,_=>by simp at h
 |p::P,w::vs,0,m,nd,h1,h2,hk=>by simp at h1 h2;subst h1;subst h2;show YG kindOf ((p,w)::P.zip vs) m p=_;unfold YG;rw[Hz λv hv=>(dY.mp nd).1 (qw hv).1,if_pos hk];simp
 |p::P,w::vs,i+1,m,nd,h1,h2,hk=>by show YG kindOf ((p,w)::P.zip vs) m x=_;unfold YG;exact HC (i:=i) (dY.mp nd).2 (by simpa using h1) (by simpa using h2) hk
theorem HD{kindOf:Str->Option jR}{x:Str}{v:ak}:∀{P:List Str}{vs:List ak}{i:Nat}{m:Str->Option ak},P.Nodup->P[i]? =some x->vs[i]? =some v->kindOf x≠some .local->
  YH kindOf (P.zip vs) m x=some v
 |[],_,_,_,_,h,_,_=>by simp at h
 |_::_,[],_,_,_,_,h,_=>by simp at h
 |p::P,w::vs,0,m,nd,h1,h2,hk=>by simp at h1 h2;subst h1;subst h2;show YH kindOf ((p,w)::P.zip vs) m p=_;unfold YH;rw[HA λv hv=>(dY.mp nd).1 (qw hv).1,if_neg hk];simp
 |p::P,w::vs,i+1,m,nd,h1,h2,hk=>by show YH kindOf ((p,w)::P.zip vs) m x=_;unfold YH;exact HD (i:=i) (dY.mp nd).2 (by simpa using h1) (by simpa using h2) hk
def start(N:List Str)(vs:List V):St:=vs.map some++List.replicate (N.length-vs.length) none
def GD(CX:V1)(P:bp)(w:bQ)(K:ah)(mg:Str->Option ak)(base:cB)(N:List Str)(qual:Str)(scope:Scope)(f:af)(cd:ak)(A:cy)(outer:List Env)(s:az)(H:Hp)(E:XK):Cx where
 prog:=P
 w:=w
 K:=K
 mg:=mg
 base:=base
 A:=A.deeper (yK qual scope s.heap.objs.size f cd)
 N:=N
 GA:=s
 H_0:=H
 env:=yK qual scope s.heap.objs.size f cd
 outer:=outer
 stack:=yK qual scope s.heap.objs.size f cd::outer
 ex:=[]
 calm:=true
 fn:=λ_=>true
 pn:=[]
 xe:=λe s'=>bj (model P w) (A.deeper (yK qual scope s.heap.objs.size f cd)) (leaving (yK qual scope s.heap.objs.size f cd) e) (λ_ s''=>CX outer H s E e s'') (λe' s''=>CX outer H s E e' s'') s'
theorem KD{sc:Scope}{n:Nat}{x:Str}(h:sc.names.lookup x=some .cell):∃c,(fE n sc.names []).lookup x=some c:=by have q:=Sl sc.names n [] (.inl h);exact Option.isSome_iff_exists.mp q
theorem Rb{CX:V1}{P:bp}{w:bQ}{K:ah}{mg:Str->Option ak}{base:cB}{N ps:List Str}{qual:Str}{scope:Scope}{f:af}{cd:ak}{A:cy}{outer:List Env}{s s1:az}{H:Hp}{E:XK}{us:List ak}{vs:List V}(S:bf N ps scope)(hd:A.handled=none)(e0:NC P w K mg base A outer s H)(hl:vs.length=ps.length)(r:Vals vs us)(x:InCallC s s.heap.objs.size (YG (yK qual scope s.heap.objs.size f cd).kindOf (ps.zip us) λ_=>none) (fE (s.heap.objs.size+1) scope.names []) (YH (yK qual scope s.heap.objs.size f cd).kindOf (ps.zip us) λ_=>none) s1):
  Inv (GD CX P w K mg base N qual scope f cd A outer s H E) [] (start N vs) H s1:=by
 have xH:ps.length<=N.length:=by have:=congrArg Bf S.pre;rw[cQ] at this;omega
 refine jk ?_ x.done;rintro h1 tk rfl hk;have Y6:∀b:af,b∉(GD CX P w K mg base N qual scope f cd A outer s H E).ex:=λb z=>absurd (show b∈([]:List af) from z) (by simp);refine⟨⟨e0.mod,S.kind,rfl,rfl,aK _,λy z c h1 h2=>?_,λy hy=>?_,λy c _ h=>?_,λ_=>hd,aeo e0.frames,.inr ⟨rfl,rfl⟩,λb z=>absurd z (Y6 b),e0.bs,e0.VZ,λb _ _=>Y6 b,λb z=>absurd z (Y6 b),e0.CW,e0.YQ⟩,rfl,e0.bare,Un.kept hk,ag x.toInCall.ns (λi y v h1 h2 h3=>?_),λy c h=>⟨_,x.cell y c h⟩,e0.dQ.fresh (aK _),λy c h=>?_,λp hp=>absurd (show p∈([]:List (af×Obj)) from hp) (by simp),e0.dQ.kept hk,?_⟩
 ·exact name_of_addr x.apart (cM h1) (cM h2)
 ·have hy:scope.names.lookup y=some .cell∨scope.names.lookup y=some .free:=hy;rcases hy with hy|hy
  ·exact KD hy
  ·exact absurd rfl (S.Y5 _ (cM hy))
 ·exact cX (x.above y c (cM h))
 ·have hi:i<vs.length:=by
   unfold start at h2;by_cases hi:i<vs.length
   ·exact hi
   ·rw[List.getElem?_append_right (by simpa using hi)] at h2;rw[List.getElem?_replicate] at h2;split at h2<;>cases h2
  have ha:vs[i]? =some v:=by
   unfold start at h2;rw[Ni (by simpa using hi),aV] at h2
   cases e:vs[i]? with
   |none=>rw[e] at h2;cases h2
   |some a=>rw[e] at h2;cases h2;rfl
  obtain⟨u,hu,rv⟩:=r.get ha;have hp:ps[i]? =some y:=by rw[<-S.pre,List.getElem?_take_of_lt (by omega)];exact h1
  have ndP:ps.Nodup:=by rw[<-S.pre];exact S.nd.sublist (YB _ _)
  refine bq u rv ?_;rcases S.par y (aN hp) with k|k
  ·exact .inl ⟨k,HC ndP hp hu k⟩
  ·obtain⟨c,e⟩:=KD (n:=s.heap.objs.size+1) k;refine .inr ⟨.inl k,bq c e ?_⟩;have q:=x.cell y c e;rw[HD ndP hp hu (by show scope.names.lookup y≠_;rw[k];decide)] at q;exact q
 ·exact e0.dQ.fresh (cX (x.above y c (cM h)))
 ·unfold start;show _=N.length;rw[aP,aa,List.length_replicate];omega
theorem XX{CX:V1}{P:bp}{w:bQ}{K:ah}{mg:Str->Option ak}{base:cB}{k:Nat}{f:af}{name qual:Str}{params:Pk}{body:List cD}{scope:Scope}{dV kV doc pm pP ct oc:ak}{an od:Option af}{KG:Array (Option ak)}{N ps:List Str}{sp:Sp}(lk:K.lookup f=some ⟨oc,od,.func (rK name qual params body scope dV kV doc pm an pP ct),KG⟩)(S8:M4 K pP qual=true)(S:bf N ps scope)(len:∀vs H Q E,sp vs H Q E->vs.length=ps.length)(KH:∀(A:cy)(outer:List Env)(s:az)(H:Hp)(vs:List V)(Q:VK)(E:XK),jx k (A.deeper (yK qual scope s.heap.objs.size f pP))->sp vs H Q E->∃t,Nq (GD CX P w K mg base N qual scope f pP A outer s H E) body t/\t {nx:=λ_ H'=>Q .h9 H',rt:=Q} (start N vs) H):
  xG P w K mg base CX (k+1) f (rK name qual params body scope dV kV doc pm an pP ct) ps sp:=by
 refine⟨len,λA outer s H args us vs Q E hr e0 hb r Sx=>?_⟩;have hl:=len _ _ _ _ Sx;have KX:K.In s.heap:=e0.mod.kin.keeps λb o e=>(e0.bs b o e).1;have lim:s.heap.NoLimit:=e0.mod.nolimit.keeps λb o e=>(e0.bs b o e).1;have aco:∀y∈ps.zip us,scope.names.lookup y.1=some .local∨(scope.names.lookup y.1=some .cell/\((fE (s.heap.objs.size+1) scope.names []).lookup y.1).isSome=true):=λ⟨n,v⟩ hy=>by
  rcases S.par n (qw hy).1 with q|q
  ·exact .inl q
  ·exact .inr ⟨q,Sl _ _ _ (.inl q)⟩
 refine codeAny_call_function hr.depth (KX _ _ lk) rfl S.co S.gen rfl (PySem.W.codeRec_of KX S8) (hb _ _ _ _ ?_);refine wpAny_newFunctionEnv_cells S.kind aco λenv he s1 x=>?_;subst he;refine⟨lim.keeps x.toInCall.keep,codeAny_func ?_⟩;obtain⟨t,ht,hq⟩:=KH A outer s H vs Q E (hr.deeper _) Sx;have I:Inv (GD CX P w K mg base N qual scope f pP A outer s H E) [] (start N vs) H s1:=Rb S hr.hd e0 hl r x;refine fq (ht [] s1 (start N vs) H _ I hq) (λfl s' hs=>?_) λe s' hs=>hs;have fin:∀{σ':St}{H':Hp}{v:V}{u:ak},Inv (GD CX P w K mg base N qual scope f pP A outer s H E) [] σ' H' s'->RelV v u->Q v H'->CE outer P w H s Q u s':=λ{σ' H' v u} J rv q=>dH v H' J.os J.bare J.base ⟨J.dQ,rv,q⟩
 cases fl with
 |ret u=>refine jT ?_ hs;rintro v σ' H' J rv q;exact fin J rv q
 |next=>refine jk ?_ hs;rintro σ' H' J q;exact fin (v:=V.h9) (u:=gN) J rfl q
 |brk=>refine jk ?_ hs;rintro _ _ _ q;exact dP q
 |cont=>refine jk ?_ hs;rintro _ _ _ q;exact dP q
section
variable{X:Cx}{x:Str}{p pos:Pos}{e:Expr}{es:List Expr}{t:TA}{id T:String}{r:List V->Hp->VK->Prop}
def tCB(r:List V->Hp->VK->Prop)(t:TA):TE:=λσ H Q=>t σ H λvs H1=>r vs H1 Q
theorem Tv(hc:kO X (.builtin id) r)(hg:Gl X x)(hm:X.mg x=none)(hv:di x=some (.builtin id))(ha:PA X (e::es) t)(hn:x≠"__name__":=by decide)(IH:(x==("__debug__":Str))=false:=by decide)(he:bO (e::es) X.env=(false,eval e X.env)::bO es X.env:=by rfl)(xH:(fO pos (bO es X.env)).any (·.1)=false:=by rfl):PE X (.Call (.Name x p) (e::es) [] pos) (tCB r t):=by intro pins s σ H Q I h;refine jr (vq I hg hm hv ?_ hn IH);exact PyProof.Rows.callWith_builtin1 (iM (ha pos pins s σ H _ I h) λus s1 ⟨vs,H1,I1,r1,q1⟩=>hc pins s1 σ H1 vs us Q I1 r1 q1) he xH
theorem Rc(hc:kO X (.type T) r)(hg:Gl X x)(hm:X.mg x=none)(hv:di x=some (.type T))(ha:PA X (e::es) t)(hn:x≠"__name__":=by decide)(IH:(x==("__debug__":Str))=false:=by decide)(he:bO (e::es) X.env=(false,eval e X.env)::bO es X.env:=by rfl)(xH:(fO pos (bO es X.env)).any (·.1)=false:=by rfl):PE X (.Call (.Name x p) (e::es) [] pos) (tCB r t):=by intro pins s σ H Q I h;refine jr (vq I hg hm hv ?_ hn IH);exact iG (iM (ha pos pins s σ H _ I h) λus s1 ⟨vs,H1,I1,r1,q1⟩=>hc pins s1 σ H1 vs us Q I1 r1 q1) he xH
end
end L2
namespace HT
open PySem PyProof.Rows
def lexLt:List Int->List Int->Bool
 |[],[]=>false
 |[],_::_=>true
 |_::_,[]=>false
 |x::xs,y::ys=>if x=y then lexLt xs ys else decide (x<y)
theorem yT(x y:Int)(xs ys:List Int):lexLt (x::xs) (y::ys)=if x=y then lexLt xs ys else decide (x<y):=rfl
theorem Tw(A:cy)(s:az)(a:Int)(t:Tok)(c:Int)(u:Tok):∃e,aii A s (.int a t) (.int c u) e/\(e=true↔a=c):=(bq (a==c) (w6 a t c u) (by simp))
theorem KI(A:cy)(s:az)(a:Int)(t:Tok)(c:Int)(u:Tok)(prog:bp)(w:bQ)(E:ak->az->Prop)(Q:ak->az->Prop)(h:Q (.bool (decide (a<c))) s):
  bj (model prog w) A (QQ .Lt (.int a t) (.int c u)) Q E s:=
 (PyProof.Rows.lt_int h:bj (model prog w) A (eE .Lt (.int a t) (.int c u)) Q E s)
section
variable{prog:bp}{w:bQ}{A:cy}{E:ak->az->Prop}{s:az}
def Ko(n d:Nat):Option Int->Nat
 |none=>d
 |some v=>if v<0 then(v+(n:Int)).toNat else min v.toNat n
theorem KJ(n d:Nat):Ko n d none=d:=rfl
theorem DA(n d k:Nat):Ko n d (some (k:Int))=min k n:=by show(if(k:Int)<0 then((k:Int)+(n:Int)).toNat else min (k:Int).toNat n)=min k n;rw[if_neg (by omega),oB]
end
end HT
namespace L2
open PySem PySem.Spec PyProof.Rows
abbrev TO:=St->Hp->(Option Int->Hp->Prop)->Prop
def PO(X:Cx)(e:Option Expr)(t:TO):Prop:=
 ∀(pins:List (af×Obj))(s:az)(σ:St)(H:Hp)(Q:Option Int->Hp->Prop),Inv X pins σ H s->t σ H Q->
  bj (model X.prog X.w) X.A (evalPart e X.env) (λu s'=>∃o H',Inv X pins σ H' s'/\IsPart u o/\Q o H') X.xe s
def Wy:TO:=λ_ H Q=>Q none H
def acq(t:TE):TO:=λσ H Q=>t σ H λx H1=>∃i,x=.int i/\Q (some i) H1
section
variable{X:Cx}{e:Expr}{te:TE}{lo hi:Option Expr}{tl th:TO}{pos p2:Pos}
theorem xh:PO X none Wy:=by intro pins s σ H Q I h;rw[evalPart_none];exact aJ (bt none H I .none h)
theorem nT(h:PE X e te):PO X (some e) (acq te):=by intro pins s σ H Q I hw;rw[evalPart_some];refine iM (h pins s σ H _ I hw) λu s1 ⟨x,H1,I1,r1,q1⟩=>?_;obtain⟨i,rfl,q⟩:=q1;obtain⟨t,rfl⟩:=r1;exact bt (some i) H1 I1 (.int i t) q
def SlR(X:Cx)(r:V->Option Int->Option Int->Hp->VK->Prop):Prop:=
 ∀(pins:List (af×Obj))(s:az)(σ:St)(H:Hp)(x:V)(v vl vu:ak)(lo hi:Option Int)(sl:af)(Q:VK),Inv X pins σ H s->RelV x v->s.heap.IsSliceOf sl vl vu .none->IsPart vl lo->IsPart vu hi->r x lo hi H Q->
  ∃T id,aij (.type T) "__getitem__"=pure (some (.builtin id))/\s.TypeIs v T/\bj (model X.prog X.w) X.A (SS v (.ref sl)) (EP X pins σ Q) X.xe s
def tSl(r:V->Option Int->Option Int->Hp->VK->Prop)(te:TE)(tl th:TO):TE:=λσ H Q=>te σ H λx H1=>tl σ H1 λl H2=>th σ H2 λu H3=>r x l u H3 Q
theorem nZ{r:V->Option Int->Option Int->Hp->VK->Prop}(hr:SlR X r)(he:PE X e te)(hl:PO X lo tl)(hu:PO X hi th):PE X (.Subscript e (.Slice lo hi none p2) pos) (tSl r te tl th):=by intro pins s σ H Q I h;refine Subscript_ (iM (he pins s σ H _ I h) λv s1 ⟨x,H1,I1,r1,q1⟩=>?_);refine wpAny_Slice (iM (hl pins s1 σ H1 _ I1 q1) λvl s2 ⟨l,H2,I2,pl,q2⟩=>iM (hu pins s2 σ H2 _ I2 q2) λvu s3 ⟨u,H3,I3,pu,q3⟩=>?_);rw[evalPart_none];refine aJ ?_;have I4:Inv X pins σ H3 {s3 with heap:=s3.heap.push {cls:=.type "slice",data:=.fields #[vl,vu,.none]}}:=I3.kept (t':=s3.toks) λb ob q=>aj _ q;refine j7 ?_ (hr pins {s3 with heap:=s3.heap.push {cls:=.type "slice",data:=.fields #[vl,vu,.none]}} σ H3 x v vl vu l u s3.heap.objs.size Q I4 r1 (Heap.IsSliceOf.new ..) pl pu q3);rintro T id hT ht hg;show bj (model X.prog X.w) X.A (ajL e (.Slice lo hi none p2) v (.ref s3.heap.objs.size)) (EP X pins σ Q) X.xe {s3 with heap:=s3.heap.push {cls:=.type "slice",data:=.fields #[vl,vu,.none]}};exact tail_any (ops:=[.ref s3.heap.objs.size,v]) ht hT hg (by with_unfolding_all rfl)
def vz(xs:List V)(lo hi:Option Int):List V:=(xs.drop (HT.Ko xs.length 0 lo)).take (HT.Ko xs.length xs.length hi-HT.Ko xs.length 0 lo)
theorem KL(xs:List V)(lo hi:Option Int):(vz xs lo hi).length<=xs.length:=by unfold vz;rw[cQ,fh];omega
end
def ixN(n:Nat)(i:Int):Option Nat:=if 0<=i then(if i<n then some i.toNat else none) else if-(n:Int)<=i then some (i+n).toNat else none
def Rf{α:Type}(xs:List α)(i:Int):Option α:=(ixN xs.length i).bind λj=>xs[j]?
theorem Wz{n:Nat}{i:Int}{j:Nat}(h:ixN n i=some j):seqIndex? i n=some j/\j<n/\-(n:Int)<=i/\i<n:=by
 unfold ixN at h;by_cases h0:0<=i
 ·rw[if_pos h0] at h;by_cases h1:i<n
  ·rw[if_pos h1] at h;have e:i.toNat=j:=aX h;exact⟨by rw[seqIndex_of h0 h1,e],by omega,by omega,h1⟩
  ·rw[if_neg h1] at h;cases h
 ·rw[if_neg h0] at h;by_cases h1:-(n:Int)<=i
  ·rw[if_pos h1] at h;have e:(i+n).toNat=j:=aX h;exact⟨by rw[seqIndex_neg (by omega) h1,e],by omega,h1,by omega⟩
  ·rw[if_neg h1] at h;cases h
theorem II{α:Type}{xs:List α}{i:Int}{v:α}(h:Rf xs i=some v):∃j,seqIndex? i xs.length=some j/\xs[j]? =some v/\j<xs.length/\-(xs.length:Int)<=i/\i<xs.length:=by
 unfold Rf at h
 cases e:ixN xs.length i with
 |none=>rw[e] at h;cases h
 |some j=>rw[e] at h;obtain⟨h1,h2,h3,h4⟩:=Wz e;exact iL j h1 h h2 ⟨h3,h4⟩
theorem cN{α:Type}{xs:List α}{j:Nat}{v:α}(h:xs[j]? =some v):Rf xs (j:Int)=some v:=by
 have hj:j<xs.length:=(cn.mp h).1;have e:ixN xs.length (j:Int)=some j:=by unfold ixN;rw[if_pos (by omega),if_pos (by omega)];simp
 unfold Rf;rw[e];exact h
def WA(b:Expr):Prop:=∀o i,subscripted b false o i=operate [o,i] (SS o i)
def IxR(X:Cx)(r:R2):Prop:=
 ∀(value slice:Expr)(pins:List (af×Obj))(s:az)(σ:St)(H:Hp)(x y:V)(v u:ak)(Q:VK),Inv X pins σ H s->RelV x v->RelV y u->r x y H Q->
  subscripted slice false v u=operate [v,u] (SS v u)->bj (model X.prog X.w) X.A (ajL value slice v u) (EP X pins σ Q) X.xe s
def MtR(X:Cx)(id:String)(r:V->List V->Hp->VK->Prop):Prop:=
 ∀(pins:List (af×Obj))(s:az)(σ:St)(H:Hp)(x:V)(xs:List V)(v:ak)(us:List ak)(Q:VK),Inv X pins σ H s->RelV x v->Vals xs us->r x xs H Q->
  bj (model X.prog X.w) X.A (call (.builtin id) (v::us)) (EP X pins σ Q) X.xe s
section
variable{X:Cx}{a b:Expr}{ta tb:TE}{pos:Pos}
theorem eN{r:R2}(hr:IxR X r)(ha:PE X a ta)(hb:PE X b tb)(hs:WA b):PE X (.Subscript a b pos) (Wn r ta tb):=by intro pins s σ H Q I h;exact Subscript_ (YZ ha hb I h λv u s2 x y H2 I2 rx ry q=>hr a b pins s2 σ H2 x y v u Q I2 rx ry q (hs _ _))
def Y7(K:ah):R2:=λx y H Q=>∃p xs i v,x=.ref p/\y=.int i/\bG K H p xs/\Rf xs i=some v/\Q v H
def Y8(K:ah):R2:=λx y H Q=>∃p xs i v,x=.ref p/\y=.int i/\nY K H p xs/\Rf xs i=some v/\Q v H
def afR:R2:=λx y H Q=>∃z i c,x=.str z/\y=.int i/\z.length<=aA/\Rf z.cps.toList i=some c/\Q (.str ⟨#[c]⟩) H
theorem cU:IxR X (Y7 X.K):=by
 intro value slice pins s σ H x y v u Q I rx ry h hs;refine ip ?_ h;clear h;rintro p xs i z rfl rfl hq ⟨he,q⟩;cases rx;obtain⟨t,rfl⟩:=ry;refine cH ?_ (I.list hq);rintro its r pl hz;refine cH ?_ (II he);rintro j h1 h2 ⟨h3,h4,h5⟩;obtain⟨w,ew,Tx⟩:=r.get h2;have hl:=r.length;have hn:=DT;have fin:EP X pins σ Q w s:=bt z H I Tx q;by_cases h0:0<=i
 ·have hj:i.toNat=j:=by rw[seqIndex_of h0 h5] at h1;exact aX h1
  exact item_listR pl.isList h0 (by omega) (by rw[hj];simpa using ew) fin hs
 ·have hj:(i+(its.toArray.size:Int)).toNat=j:=by rw[seqIndex_neg (by omega) h4] at h1;rw[bD,<-hl];exact aX h1
  exact an5 (x:=w) pl.isList.typeIs ajN.lookup
   (wpAny_getItem_list_neg (Q:=λr s'=>r=w/\EP X pins σ Q r s') pl.isList (by omega) (by rw[bD]<;>omega) (by omega) (by rw[hj];simpa using ew) ⟨rfl,fin⟩) hs
theorem ND:IxR X (Y8 X.K):=by
 intro value slice pins s σ H x y v u Q I rx ry h hs;refine ip ?_ h;clear h;rintro p xs i z rfl rfl hq ⟨he,q⟩;cases rx;obtain⟨t,rfl⟩:=ry;refine cH ?_ (I.tuple hq);rintro its r pl hz;refine cH ?_ (II he);rintro j h1 h2 ⟨h3,h4,h5⟩;obtain⟨w,ew,Tx⟩:=r.get h2;have hl:=r.length;have hn:=DT;have fin:EP X pins σ Q w s:=bt z H I Tx q;exact an5 (x:=w) pl.typeIs slot_tuple_getitem.lookup
  (getItem_tuple (j:=j) (Q:=λr s'=>r=w/\EP X pins σ Q r s') pl (by omega) (by omega) (by rw[bD,<-hl];exact h1) (by simpa using ew) ⟨rfl,fin⟩) hs
theorem NF:IxR X afR:=by
 intro value slice pins s σ H x y v u Q I rx ry h hs;refine rq ?_ h;clear h;rintro z i c rfl rfl hz ⟨he,q⟩;obtain⟨t,rfl⟩:=rx;obtain⟨t',rfl⟩:=ry;refine cH ?_ (II he);rintro j h1 h2 ⟨h3,h4,h5⟩;have hl:z.cps.toList.length=z.length:=by simp[Str.length]
 rw[hl] at h1 h4 h5;have hn:=DT;exact tail_any (Cc s z t) slot_str_getitem.lookup (getItem_str (c:=c) (by have e1:decide (i< -(2^63:Int))=false:=decide_eq_false (by omega);have e2:decide (i≥2^63)=false:=decide_eq_false (by omega);rw[e1,e2,Pn]) (by rw[h1];simpa using h2) (bt (.str ⟨#[c]⟩) H (I.tok _) ⟨_,rfl⟩ q)) hs
theorem IJ(lo hi:Option Int)(n:Nat):(sZ lo hi none n).1=((HT.Ko n 0 lo:Nat):Int)/\(sZ lo hi none n).2.1=((HT.Ko n n hi:Nat):Int)/\(sZ lo hi none n).2.2=1:=by
 refine⟨?_,?_,rfl⟩
 ·cases lo with
  |none=>simp[sZ,HT.Ko]
  |some i=>
   simp only[sZ,HT.Ko,aaT,show(1:Int)>0 by decide,if_true];by_cases h:i<0
   ·simp only[h,if_true]<;>omega
   ·simp only[h,if_false]<;>omega
 ·cases hi with
  |none=>simp[sZ,HT.Ko]
  |some i=>
   simp only[sZ,HT.Ko,aaT,show(1:Int)>0 by decide,if_true];by_cases h:i<0
   ·simp only[h,if_true]<;>omega
   ·simp only[h,if_false]<;>omega
theorem GF(its:List ak)(lo hi:Option Int):slicePick its.toArray lo hi none=((its.drop (HT.Ko its.length 0 lo)).take (HT.Ko its.length its.length hi-HT.Ko its.length 0 lo)).toArray:=by obtain⟨h1,h2,h3⟩:=IJ lo hi its.toArray.size;unfold slicePick;rw[h1,h2,h3];simp only[sliceRange_one,pick_run,bD]<;>rfl
def acu(K:ah):V->Option Int->Option Int->Hp->VK->Prop:=λx lo hi H Q=>∃a xs,x=.ref a/\bG K H a xs/\∀p,H p=none->Q (.ref p) (upd H p (.lst (vz xs lo hi)))
theorem qA:SlR X (acu X.K):=by
 intro pins s σ H x v vl vu lo hi sl Q I rx hs pl pu h;refine j7 ?_ h;clear h;rintro a xs rfl hx q;cases rx;refine cH ?_ (I.list hx);rintro its r ht hz;have hlen:=r.length;refine bt ("list") _ ajN.lookup ht.isList.typeIs ?_;refine wpAny_getItem_list_slice ht.isList hs pl pu .none (by simp) ?_ (by rw[bD]<;>omega);rw[GF,<-hlen];refine bt (.ref s.heap.objs.size) _ (I.laid (t':=s.toks) (o:=.lst (vz xs lo hi)) (λb ob q=>aj _ q) (aK _) ?_) rfl (q _ (I.dQ.fresh (aK _)));exact⟨ao (KL xs lo hi) hz,fu _ 0 ((r.drop (HT.Ko xs.length 0 lo)).take (HT.Ko xs.length xs.length hi-HT.Ko xs.length 0 lo)) (aU _ rfl)⟩
def qB:V->Bool
 |.h9=>true
 |.bl _=>true
 |.int _=>true
 |.str _=>true
 |_=>false
def PK:V->V->Bool
 |.h9,.h9=>true
 |.bl a,.bl b=>a==b
 |.bl a,.int b=>(if a then 1 else 0)==b
 |.int a,.bl b=>a==(if b then 1 else 0)
 |.int a,.int b=>a==b
 |.str a,.str b=>a==b
 |_,_=>false
theorem Y9{A:cy}{s:az}{y x:V}{u v:ak}(ry:RelV y u)(rx:RelV x v)(fy:qB y=true)(fx:qB x=true):aii A s u v (PK y x):=by
 cases y with
 |h9=>
  cases ry
  cases x with
  |h9=>cases rx;exact SeqAt.EqAt.same _
  |bl b=>cases rx;exact SeqAt.EqAt.none_bool b
  |int b=>obtain⟨t,rfl⟩:=rx;exact SeqAt.EqAt.none_int b t
  |str b=>obtain⟨t,rfl⟩:=rx;exact SeqAt.EqAt.none_str b t
  |_=>exact absurd (show false=true from fx) aZ
 |bl a=>
  cases ry
  cases x with
  |h9=>cases rx;exact SeqAt.EqAt.bool_none a
  |bl b=>cases rx;exact SeqAt.EqAt.bool_bool a b
  |int b=>obtain⟨t,rfl⟩:=rx;exact SeqAt.EqAt.bool_int a b t
  |str b=>obtain⟨t,rfl⟩:=rx;exact SeqAt.EqAt.bool_str a b t
  |_=>exact absurd (show false=true from fx) aZ
 |int a=>
  obtain⟨t',rfl⟩:=ry
  cases x with
  |h9=>cases rx;exact SeqAt.EqAt.int_none a t'
  |bl b=>cases rx;exact SeqAt.EqAt.int_bool a t' b
  |int b=>obtain⟨t,rfl⟩:=rx;exact w6 a t' b t
  |str b=>obtain⟨t,rfl⟩:=rx;exact ah9 a t' b t
  |_=>exact absurd (show false=true from fx) aZ
 |str a=>
  obtain⟨t',rfl⟩:=ry
  cases x with
  |h9=>cases rx;exact SeqAt.EqAt.str_none a t'
  |bl b=>cases rx;exact SeqAt.EqAt.str_bool a t' b
  |int b=>obtain⟨t,rfl⟩:=rx;exact aia a t' b t
  |str b=>obtain⟨t,rfl⟩:=rx;exact aic a t' b t
  |_=>exact absurd (show false=true from fx) aZ
 |_=>exact absurd (show false=true from fy) aZ
def Sy(x:V)(u:ak):Bool:=match u with
 |.none=>PK .h9 x
 |.bool b=>PK (.bl b) x
 |.int i _=>PK (.int i) x
 |.str z _=>PK (.str z) x
 |_=>false
theorem NG{x y:V}{u:ak}(r:RelV y u)(f:qB y=true):Sy x u=PK y x:=by
 cases y with
 |h9=>cases r;rfl
 |bl b=>cases r;rfl
 |int i=>obtain⟨t,rfl⟩:=r;rfl
 |str z=>obtain⟨t,rfl⟩:=r;rfl
 |_=>exact absurd (show false=true from f) aZ
theorem IK{x:V}:∀{xs:List V}{us:List ak},Vals xs us->xs.all qB=true->us.any (Sy x)=xs.any λy=>PK y x
 |_,_,.nil,_=>rfl
 |y::xs,u::us,.cons r t,f=>by rw[d5,aL] at f;rw[iK,iK,NG r f.1,IK t f.2]
theorem z8{A:cy}{s:az}{x:V}{v:ak}(rx:RelV x v)(fx:qB x=true):∀{xs:List V}{us:List ak},Vals xs us->xs.all qB=true->∀u∈us,aii A s u v (Sy x u)
 |_,_,.nil,_=>λu hu=>by cases hu
 |y::xs,u::us,.cons r t,f=>λu' hu=>by
  rw[d5,aL] at f;rcases aB.mp hu with rfl|hu
  ·rw[NG r f.1];exact Y9 r rx f.1 fx
  ·exact z8 rx fx t f.2 u' hu
def inV(x:V)(xs:List V):Bool:=xs.any λy=>PK y x
def rIn(K:ah)(neg:Bool):R2:=λx y H Q=>∃p xs,y=.ref p/\(bG K H p xs∨nY K H p xs)/\qB x=true/\xs.all qB=true/\Q (.bl (if neg then !inV x xs else inV x xs)) H
theorem IL:yg X (eE .NotIn) (rIn X.K true):=by
 intro pins s σ H x y v u Q I rx ry h;refine ke ?_ h;clear h;rintro p xs rfl hq fx ⟨fs,q⟩;cases ry;rcases hq with hq|hq
 ·refine cH ?_ (I.list hq);rintro its r pl hz;refine SeqAt.notIn_listAt (Sy x) pl.isList (λw hw=>z8 rx fx r fs w (by simpa using hw)) (bt (.bl _) H I rfl ?_);rw[show its.toArray.any (Sy x)=its.any (Sy x) by simp,IK r fs];exact q
 ·refine cH ?_ (I.tuple hq);rintro its r pl hz;refine SeqAt.notIn_tupleAt (Sy x) pl (λw hw=>z8 rx fx r fs w (by simpa using hw)) (bt (.bl _) H I rfl ?_);rw[show its.toArray.any (Sy x)=its.any (Sy x) by simp,IK r fs];exact q
theorem bx:kO X (.builtin "len") (λxs H Q=>∃p ys,xs=[.ref p]/\(bG X.K H p ys∨nY X.K H p ys)/\Q (.int ys.length) H):=by
 intro pins s σ H xs us Q I r h;refine j7 ?_ h;clear h;rintro p ys rfl hq q;obtain⟨u,rfl,rx⟩:=vals1 r;cases rx;have hn:=DT;rcases hq with hq|hq
 ·refine cH ?_ (I.list hq);rintro its r' pl hz;have hlen:=r'.length;exact Calls.call_len_list pl.isList (by simp only[bD]<;>omega) (bt (.int ys.length) H (I.tok _) ⟨s.toks+1,by rw[bD,hlen]⟩ q)
 ·refine cH ?_ (I.tuple hq);rintro its r' pl hz;have hlen:=r'.length;exact len_tuple pl (by simp only[bD]<;>omega) (bt (.int ys.length) H (I.tok _) ⟨s.toks+1,by rw[bD,hlen]⟩ q)
theorem tp:kO X (.builtin "len") (λxs H Q=>∃z,xs=[.str z]/\z.length<=aA/\Q (.int z.length) H):=by intro pins s σ H xs us Q I r h;refine cH ?_ h;clear h;rintro z rfl hz q;obtain⟨u,rfl,t,rfl⟩:=vals1 r;have hn:=DT;exact len_str (by omega) (bt (.int z.length) H (I.tok _) ⟨_,rfl⟩ q)
theorem IM:kO X (.type "list") (λxs H Q=>∃p ys,xs=[.ref p]/\(bG X.K H p ys∨nY X.K H p ys)/\∀l,H l=none->Q (.ref l) (upd H l (.lst ys))):=by
 intro pins s σ H xs us Q I r h;refine j7 ?_ h;clear h;rintro p ys rfl hq q;obtain⟨u,rfl,rx⟩:=vals1 r;cases rx;have fin:∀(its:List ak),Vals ys its->ys.length<=aA->∀(h':cB)(c':Nat),(∀b o',s.heap.get? b=some o'->h'.get? b=some o')->
   h'.get? s.heap.objs.size=some {cls:=.type "list",dict:=none,data:=.seq its.toArray c',slots:=#[]}->EP X pins σ Q (.ref s.heap.objs.size) {s with heap:=h'}:=λits r' hz h' c' kp e=>
  (bt (.ref s.heap.objs.size) _ (I.laid (t':=s.toks) kp (aK _) (show fF X.prog X.w _ h' _ (.lst ys) from⟨hz,fu its c' r' e⟩)) rfl (q _ (I.dQ.fresh (aK _))))
 rcases hq with hq|hq
 ·refine cH ?_ (I.list hq);rintro its r' pl hz;have hlen:=r'.length;refine cH ?_ pl.isList;rintro o ho hc ⟨n,hd⟩;exact call_list_seq p (.inl rfl) ho hc hd (λh' c' kp e=>fin its r' hz h' c' kp e) (by simp only[bD]<;>omega)
 ·refine cH ?_ (I.tuple hq);rintro its r' pl hz;have hlen:=r'.length;refine cH ?_ pl;rintro o ho hc ⟨n,hd⟩;exact call_list_seq p (.inr rfl) ho hc hd (λh' c' kp e=>fin its r' hz h' c' kp e) (by simp only[bD]<;>omega)
theorem GG:kO X (.type "tuple") (λxs H Q=>∃p ys,xs=[.ref p]/\((bG X.K H p ys/\∀l,H l=none->Q (.ref l) (upd H l (.tup ys)))∨(nY X.K H p ys/\Q (.ref p) H))):=by
 intro pins s σ H xs us Q I r h;refine jk ?_ h;clear h;rintro p ys rfl h;obtain⟨u,rfl,rx⟩:=vals1 r;cases rx;rcases h with⟨hq,q⟩|⟨hq,q⟩
 ·refine cH ?_ (I.list hq);rintro its r' pl hz;have hlen:=r'.length;refine call_tuple_list pl.isList (λh' kp=>?_) (by simp only[bD]<;>omega);have I1:Inv X pins σ H {s with heap:=h'}:=I.kept (t':=s.toks) kp;have I2:Inv X pins σ (upd H h'.objs.size (.tup ys)) {s with heap:=h'.push {cls:=.type "tuple",data:=.seq its.toArray}}:=I1.laid (t':=s.toks) (λb o e=>aj _ e) (aK _) (show fF X.prog X.w _ _ _ (.tup ys) from⟨hz,bq its r' (IsTup.new _ _)⟩);exact bt (.ref h'.objs.size) _ I2 rfl (q _ (I1.dQ.fresh (aK _)))
 ·refine cH ?_ (I.tuple hq);rintro its r' pl hz;exact call_tuple_same pl (bt (.ref p) H I rfl q)
def tyV(K:ah)(T:String)(x:V)(H:Hp):Prop:=match x with
 |.str _=>T="str"
 |.int _=>T="int"
 |.ref p=>(T="list"/\∃xs,bG K H p xs)∨(T="tuple"/\∃o,K.lookup p=some o/\o.cls=.type "tuple"/\o.dict=none)∨
   (T="dict"/\((∃kvs,H p=some (.dK kvs))∨∃kvs,H p=some (.dT kvs)))∨(T="set"/\∃S n,H p=some (.set S n))
 |_=>False
theorem Za{pins:List (af×Obj)}{σ:St}{H:Hp}{s:az}{T:String}{x:V}{v:ak}(I:Inv X pins σ H s)(r:RelV x v)(ty:tyV X.K T x H):
  s.TypeIs v T/\∀a,v=.ref a->∃ob,s.heap.get? a=some ob/\ob.dict=none:=by
 cases x with
 |str z=>
  obtain⟨t,rfl⟩:=r;cases(show T="str" from ty);exact⟨Cc s z t,λ_ e=>nomatch e⟩
 |int i=>
  obtain⟨t,rfl⟩:=r;cases(show T="int" from ty);exact⟨typeIs_int s i t,λ_ e=>nomatch e⟩
 |ref p=>
  cases r;rcases ty with⟨rfl,xs,hq⟩|⟨rfl,o,hk,hc,hd⟩|⟨rfl,hk⟩|⟨rfl,S,n,hk⟩
  ·refine cH ?_ (I.list hq);rintro its _ pl _;refine⟨pl.isList.typeIs,λa e=>?_⟩;cases e;refine ke ?_ pl;rintro o n e c hd _;exact bq o e hd
  ·refine⟨bq o (I.Bl p o hk) hc,λa e=>?_⟩;cases e;exact bq o (I.Bl _ o hk) hd
  ·have z:∃o,s.heap.get? p=some o/\o.ExactDict:=by
    rcases hk with⟨kvs,hk⟩|⟨kvs,hk⟩
    ·obtain⟨_,_,_,_,o,_,_,e,ex,_⟩:=I.dQ p _ hk;exact bq o e ex
    ·obtain⟨_,_,_,_,o,_,_,e,ex,_⟩:=I.dQ p _ hk;exact bq o e ex
   obtain⟨o,e,ex⟩:=z;refine⟨bq o e ex.1,λa e2=>?_⟩;cases e2;exact bq o e ex.2.1
  ·refine xE ?_ (I.dQ p _ hk);rintro o _ _ _ ⟨e,ex,_⟩;refine⟨bq o e ex.1,λa e2=>?_⟩;cases e2;exact bq o e ex.2.1
 |_=>exact dP ty
def tBM(K:ah)(T:String)(r:V->List V->Hp->VK->Prop)(to:TE)(t:TA):TE:=λσ H Q=>to σ H λx H1=>tyV K T x H1/\t σ H1 λxs H2=>r x xs H2 Q
variable{o e:Expr}{es:List Expr}{to:TE}{t:TA}{name:Str}{apos mB:Pos}{T id:String}{r:V->List V->Hp->VK->Prop}
theorem oS(pa:PlainAttrs T)(slot:Slot T name id)(hty:typeOf (.builtin id)=pure (.type "method_descriptor"))(hm:MtR X id r)(ho:PE X o to)(ha:PA X (e::es) t)(n4:gf o name X.env (eval o X.env)=eval o X.env:=by rfl)(Zb:((fO mB (bO (e::es) X.env)).all (λx=>!x.1)&&(iX mB (eY [] X.env)).all (λx=>x.1.isSome)&&decide ((e::es).length+([]:List Ce).length+(if([]:List Ce).isEmpty then 0 else 1)<30))=true:=by rfl)
  (gJ:(apos.endLine==mB.line)=true:=by rfl)(hs:bO (e::es) X.env=(false,eval e X.env)::bO es X.env:=by rfl)(Zc:(fO mB (bO es X.env)).any (·.1)=false:=by rfl):
  PE X (.Call (.Attribute o name apos) (e::es) [] mB) (tBM X.K T r to t):=by
 intro pins s σ H Q I h;refine wpAny_Call_method_late n4 Zb gJ rfl (iM (ho pins s σ H _ I h) λv s1 ⟨x,H1,I1,r1,ty,q1⟩=>?_);obtain⟨h1,h2⟩:=Za I1 r1 ty;refine dH T id pa slot hty ⟨h1,h2,?_⟩;have hA:=ha mB pins s1 σ H1 _ I1 q1;rw[hs] at hA⊢;refine B6 (by show(false||(fO mB (bO es X.env)).any (·.1))=false;rw[Zc]<;>rfl) (FT ?_);exact iM hA λus s2 ⟨vs,H2,I2,r2,q2⟩=>hm pins s2 σ H2 x vs v us Q I2 r1 r2 q2
end
def MtM(X:Cx)(id:String)(r:V->List V->Hp->VK->Prop):Prop:=
 ∀(pins:List (af×Obj))(s:az)(σ:St)(H:Hp)(x:V)(xs:List V)(v:ak)(us:List ak)(Q:VK),Inv X pins σ H s->RelV x v->Vals xs us->r x xs H Q->
  bj (model X.prog X.w) X.A (call (.builtin id) (v::us)) (EP X pins σ Q) X.xe s
theorem Vals.one:∀{x:V}{us:List ak},Vals [x] us->∃u,us=[u]/\RelV x u
 |_,_,.cons r .nil=>ag rfl r
section
variable{X:Cx}{pins:List (af×Obj)}{σ:St}{H:Hp}{s:az}{l b:af}{xs ys zs:List V}
theorem Inv.Tz{its its':List ak}{n:Nat}{f:Array ak->Array ak}{t':Nat}(I:Inv X pins σ H s)(hH:H l=some (.lst xs))(e:s.heap.get? l=some {cls:=.type "list",data:=.seq its.toArray n})(hf:f its.toArray=its'.toArray)(hv:Vals ys its')(hz:ys.length<=aA):
  Inv X pins σ (upd H l (.lst ys)) {s with heap:=s.heap.update l (Kk f),toks:=t'}:=by
 have q:=PySem.IsL.update e f;rw[hf] at q;refine I.write (x:=l) (e:=l) (by rw[hH];exact trivial) (.inl rfl) (λb' u hb hu=>(B7 s.heap (Kk f) (nj hb)).trans hu) ⟨_,q⟩ ?_;exact⟨hz,fu its' _ hv q⟩
theorem Inv.afS{its:List ak}{t':Nat}(I:Inv X pins σ H s)(hv:Vals ys its)(hz:ys.length<=aA):
  Inv X pins σ (upd H s.heap.objs.size (.lst ys)) {s with heap:=s.heap.push {cls:=.type "list",data:=.seq its.toArray},toks:=t'}:=
 I.laid (λ_ _ q=>aj _ q) (aK _) ⟨hz,fu its 0 hv (aU _ rfl)⟩
theorem Inv.fresh(I:Inv X pins σ H s):H s.heap.objs.size=none:=I.dQ.fresh (aK _)
theorem Inv.TB(I:Inv X pins σ H s)(hH:H l=some (.lst xs)):xs.length<=aA/\∃(its:List ak)(n:Nat),Vals xs its/\xs.length=its.length/\s.heap.get? l=some {cls:=.type "list",data:=.seq its.toArray n}:=by obtain⟨z,its,n,r,e⟩:=I.dQ l _ hH;exact⟨z,bt its n r r.length e⟩
theorem TC{n:Nat}(h:n<=aA):zU n=false:=by unfold zU;exact decide_eq_false (by omega)
end
section
variable{X:Cx}
def WB:V->List V->Hp->VK->Prop:=λx vs H Q=>∃l xs y,x=.ref l/\vs=[y]/\H l=some (.lst xs)/\xs.length<aA/\Q .h9 (upd H l (.lst (xs++[y])))
theorem jl:MtM X "list.append" WB:=by
 intro pins s σ H x vs v us Q I rx rv h;refine rq ?_ h;clear h;rintro l xs y rfl rfl hH ⟨hz,q⟩;cases rx;obtain⟨u,rfl,ru⟩:=rv.one;obtain⟨z,its,n,r,hl,e⟩:=I.TB hH;refine Cd F.slot_list_append (ag e rfl) F.entry_list_append (F.args_list_append_2 _ _) (PySem.list_append l its.toArray n u (by rw[bD];omega)) ⟨e,?_⟩;refine bt .h9 _ (I.Tz (its':=its++[u]) hH e (by simp) (r.append (.cons ru .nil)) ?_) rfl q;rw[aP,oZ];omega
def WC:V->List V->Hp->VK->Prop:=λx vs H Q=>∃l b xs zs,x=.ref l/\vs=[.ref b]/\H l=some (.lst xs)/\H b=some (.lst zs)/\xs.length+zs.length<=aA/\Q .h9 (upd H l (.lst (xs++zs)))
theorem xi:MtM X "list.extend" WC:=by
 intro pins s σ H x vs v us Q I rx rv h;refine u1 ?_ h;clear h;rintro l b xs zs rfl rfl hH hB hz q;cases rx;obtain⟨u,rfl,ru⟩:=rv.one;cases ru;obtain⟨z,its,n,r,hl,e⟩:=I.TB hH;obtain⟨z2,qu,n2,r2,NH,e2⟩:=I.TB hB;have hsz:its.toArray.size+qu.toArray.size<=aA:=by rw[bD,bD];omega
 have acv:¬(!its.toArray.isEmpty&&zU (its.toArray.size+qu.toArray.size))=true:=by rw[TC hsz,iY];exact aZ
 refine Cd F.slot_list_extend (ag e rfl) F.entry_list_extend (F.args_list_extend_2 _ _)
  (AutoSeq1.list_extend_list_list_0 l its.toArray n b qu.toArray n2 acv (by rw[bD];omega) (by omega)) ⟨e,e2,?_⟩
 refine bt .h9 _ (I.Tz (its':=its++qu) hH e (by simp) (r.append r2) ?_) rfl q;rw[aP];omega
def afT:R2:=λx y H Q=>∃l b xs zs,x=.ref l/\y=.ref b/\H l=some (.lst xs)/\H b=some (.lst zs)/\xs.length+zs.length<=aA/\∀p,H p=none->Q (.ref p) (upd H p (.lst (xs++zs)))
theorem jU:yg X (A9 .Add) afT:=by
 intro pins s σ H x y v u Q I rx ry h;refine u1 ?_ h;clear h;rintro l b xs zs rfl rfl hH hB hz q;cases rx;cases ry;obtain⟨z,its,n,r,hl,e⟩:=I.TB hH;obtain⟨z2,qu,n2,r2,NH,e2⟩:=I.TB hB;refine PySem.P.add_list e e2 ?_ (by rw[bD,bD];omega);have ea:its.toArray++qu.toArray=(its++qu).toArray:=by simp
 rw[ea];exact bt (.ref _) _ (I.afS (t':=s.toks) (r.append r2) (by rw[aP];omega)) rfl (q _ I.fresh)
end
section
variable{prog:bp}{w:bQ}{A:cy}{E:ak->az->Prop}{s:az}
set_option maxRecDepth 100000 in
end
theorem Vals.ints:∀{ns:List Int}{us:List ak},Vals (ns.map V.int) us->Wc us ns
 |[],us,h=>by
  rw[F9] at h;cases h;exact IntsAre.nil
 |n::ns,us,h=>by
  rw[br] at h
  cases h with
  |cons r t=>obtain⟨k,rfl⟩:=r;exact IntsAre.cons n k (Vals.ints t)
theorem Vals.bls:∀{bs:List Bool}{us:List ak},Vals (bs.map V.bl) us->us=bs.map k8
 |[],us,h=>by
  rw[F9] at h;cases h;rfl
 |b::bs,us,h=>by
  rw[br] at h
  cases h with
  |cons r t=>
   cases r;rw[Vals.bls t,br]
theorem Vals.IP{a:af}{us:List ak}(r:Vals [V.ref a] us):us=[bz a]:=by
 cases r with
 |cons r t=>
  cases t;cases r;rfl
section
variable{prog:bp}{w:bQ}{A:cy}{E:ak->az->Prop}{s:az}{l:af}{its:List ak}{ns:List Int}{Q:ak->az->Prop}
theorem WD(hh:A.handled=none)(hl:s.heap.IsList l its.toArray)(hi:Wc its ns)(h:∀h' tk t',(∀b o,s.heap.get? b=some o->h'.get? b=some o)->Q (.int ns.sum t') {s with heap:=h',toks:=tk}):bj (model prog w) A (call (.builtin "sum") [.ref l]) Q E s:=by
 obtain⟨xs,e⟩:=hi.allInts.items;have hn:numsOf (intItems xs).toList=ns:=by rw[<-e];exact hi.numsOf
 rw[nums_intItems] at hn;rw[e] at hl;refine PySem.sum_intListG hh hl λh' tk t' hk=>?_;have:=h h' tk t' hk;rw[preSum_eq,bK (by simp),hn];exact this
end
section
variable{X:Cx}
def afV(K:ah):List V->Hp->VK->Prop:=λvs H Q=>∃(a:af)(ns:List Int),vs=[V.ref a]/\bG K H a (ns.map V.int)/\Q (.int ns.sum) H
theorem Zd(hc:X.calm=true):kO X (.builtin "sum") (afV X.K):=by intro pins s σ H vs us Q I r h;refine j7 ?_ h;clear h;rintro a ns rfl hs q;refine cH ?_ (I.list hs);rintro its rv hl _;rw[Vals.IP r];exact WD (I.ok.hd hc) hl.isList rv.ints λh' tk t' hk=>bt (.int _) H (I.kept hk) ⟨_,rfl⟩ q
end
theorem KN{prog:bp}{w:bQ}{A:cy}{E:ak->az->Prop}{s:az}{l:af}{items:Array ak}{Q:ak->az->Prop}(hl:s.heap.IsList l items)(h:∀s₂:az,s₂={s with heap:=s.heap.push {cls:=.type "list_iterator",data:=.fields #[.ref l,.int 0 0]}}->(s₂.heap.IsListIter s.heap.objs.size l 0/\s₂.heap.IsList l items)->l≠s.heap.objs.size->Q (.ref s.heap.objs.size) s₂):bj (model prog w) A (Pr (.ref l)) Q E s:=by
 have oR:l<s.heap.objs.size:=by obtain⟨_,e,_⟩:=hl;exact bg e
 exact fR hl (h _ rfl ⟨bP _ (aU _ rfl) rfl rfl,hl.push _⟩ (bV oR))
theorem Cg{prog:bp}{w:bQ}{A:cy}{bs:List Bool}{its:List ak}(e:its=bs.map k8):
  TruthOf prog w A (λi v=>its.toArray[i]? =some v) (λi=>bs.getD i false):=λi v s Q E hv hq=>by
 have vw:its[i]? =some v:=by simpa using hv
 rw[e,aV] at vw;obtain⟨b,hb,rfl⟩:=Sm.mp vw;have hg:bs.getD i false=b:=by rw[cx,hb]<;>rfl
 have Ts:Q (bs.getD i false) s:=hq;rw[hg] at Ts;exact fQ Ts
theorem any_range:∀bs:List Bool,(b9 bs.length).any (λi=>bs.getD i false)=bs.any id
 |[]=>rfl
 |b::bs=>by rw[aW,Sn,iK,rL,iK,<-any_range bs];all_goals rfl
theorem all_range:∀bs:List Bool,(b9 bs.length).all (λi=>bs.getD i false)=bs.all id
 |[]=>rfl
 |b::bs=>by rw[aW,Sn,d5,rO,d5,<-all_range bs];all_goals rfl
section
variable{X:Cx}
def afW(K:ah):List V->Hp->VK->Prop:=λvs H Q=>∃(a:af)(bs:List Bool),vs=[V.ref a]/\bG K H a (bs.map V.bl)/\Q (.bl (bs.any id)) H
def afX(K:ah):List V->Hp->VK->Prop:=λvs H Q=>∃(a:af)(bs:List Bool),vs=[V.ref a]/\bG K H a (bs.map V.bl)/\Q (.bl (bs.all id)) H
theorem Ze(hc:X.calm=true):kO X (.builtin "any") (afW X.K):=by
 intro pins s σ H vs us Q I r h;refine j7 ?_ h;clear h;rintro a bs rfl hs q;refine cH ?_ (I.list hs);rintro its rv hl _;rw[Vals.IP r];have hb:=rv.bls;refine call_any_walk (KN hl.isList λs₂ e2 st k9=>?_);subst e2;refine xF _ _ _ _ _ _ _ ⟨rfl,Kl (A:=X.A.in1) (I.ok.hd hc) _ a k9 its.toArray,st,Cg hb,λh' tk hk=>?_⟩;refine bt (.bl _) H (I.kept λb o eo=>hk b o (λGH=>?_) (aj _ eo)) ?_ q
 ·rcases aB.mp GH with e1|GH
  ·exact absurd (e1▸bg eo) (gY _)
  ·cases GH
 ·show k8 _=k8 _;rw[<-any_range,hb,bD,aa]
theorem vA(hc:X.calm=true):kO X (.builtin "all") (afX X.K):=by
 intro pins s σ H vs us Q I r h;refine j7 ?_ h;clear h;rintro a bs rfl hs q;refine cH ?_ (I.list hs);rintro its rv hl _;rw[Vals.IP r];have hb:=rv.bls;refine call_all_walk (KN hl.isList λs₂ e2 st k9=>?_);subst e2;refine xF _ _ _ _ _ _ _ ⟨rfl,Kl (A:=X.A.in1) (I.ok.hd hc) _ a k9 its.toArray,st,Cg hb,λh' tk hk=>?_⟩;refine bt (.bl _) H (I.kept λb o eo=>hk b o (λGH=>?_) (aj _ eo)) ?_ q
 ·rcases aB.mp GH with e1|GH
  ·exact absurd (e1▸bg eo) (gY _)
  ·cases GH
 ·show k8 _=k8 _;rw[<-all_range,hb,bD,aa]
end
abbrev TF(h:cB)(c:af)(v:Option ak):Prop:=h.IsCell c v
def afY(scope sc:Scope):Scope:={scope with names:=scope.names.map λ(n,k)=>if(k==.free&&sc.kind==.function&&sc.names.lookup n==some .cell) then(n,.cell) else(n,k)}
def gD(cells:List (Str×af)):List (Str×jR)->List (Str×af)->List (Str×af)
 |[],acc=>acc
 |(n,k)::r,acc=>if k==.free then gD cells r ((n,(cells.lookup n).getD 0)::acc) else gD cells r acc
theorem z9(env:Env)(f:Str×jR->List (Str×af)->Sem (ForInStep (List (Str×af))))(hf:∀n k c,f (n,k) c=if k==.free then(do let a <-cellOf env n;pure (.yield ((n,a)::c))) else pure (.yield c)):
  ∀(names:List (Str×jR))(acc:List (Str×af)),(∀y∈names,y.2=.free->∃c,env.cells.lookup y.1=some c)->forIn names acc f=pure (gD env.cells names acc)
 |[],acc,_=>by rw[Bd];rfl
 |(n,k)::r,acc,h=>by
  rw[Kn,hf];have ih:=λacc=>z9 env f hf r acc λy hy=>h y (bW _ hy);unfold gD;by_cases hk:(k==jY)=true
  ·rw[if_pos hk,if_pos hk];obtain⟨c,hc⟩:=h (n,k) dc (by simpa using hk);have e:cellOf env n=pure c:=by unfold cellOf;rw[hc]
   rw[e];have e2:(env.cells.lookup n).getD 0=c:=by rw[hc];rfl
   rw[e2];exact ih _
  ·rw[if_neg hk,if_neg hk];exact ih _
theorem NI{scope:Scope}{env:Env}(h:∀y∈scope.names,y.2=.free->∃c,env.cells.lookup y.1=some c):VS scope env=pure (gD env.cells scope.names []):=by simp only[VS];rw[z9 env _ (λn k c=>rfl) scope.names [] h];rfl
theorem mem_lookup{α:Type}:∀{l:List (Str×α)}{n:Str}{c:α},(n,c)∈l->∃c',l.lookup n=some c'
 |(k,v)::r,n,c,h=>by
  rw[dq]
  cases hb:n==k with
  |true=>exact⟨_,rfl⟩
  |false=>
   rcases aB.mp h with e|h
   ·cases e;simp at hb
   ·exact mem_lookup h
theorem qC{cells:List (Str×af)}:∀{names:List (Str×jR)}{acc:List (Str×af)}{n:Str}{c:af},(n,c)∈gD cells names acc->(n,c)∈acc∨((n,.free)∈names/\c=(cells.lookup n).getD 0)
 |[],_,_,_,h=>.inl h
 |(m,k)::r,acc,n,c,h=>by
  unfold gD at h;split at h
  ·rename_i hk;have hk:k=.free:=by simpa using hk
   rcases qC h with h|⟨h1,h2⟩
   ·rcases aB.mp h with e|h
    ·cases e;exact .inr ⟨hk▸dc,rfl⟩
    ·exact .inl h
   ·exact .inr ⟨bW _ h1,h2⟩
  ·rcases qC h with h|⟨h1,h2⟩
   ·exact .inl h
   ·exact .inr ⟨bW _ h1,h2⟩
theorem vB{cells:List (Str×af)}:∀{names:List (Str×jR)}{acc:List (Str×af)}{p:Str×af},p∈acc->p∈gD cells names acc
 |[],_,_,h=>h
 |(m,k)::r,acc,p,h=>by
  unfold gD;split
  ·exact vB (bW _ h)
  ·exact vB h
theorem vC{cells:List (Str×af)}:∀{names:List (Str×jR)}{acc:List (Str×af)}{n:Str},(n,.free)∈names->(n,(cells.lookup n).getD 0)∈gD cells names acc
 |(m,k)::r,acc,n,h=>by
  unfold gD;rcases aB.mp h with e|h
  ·cases e;exact vB dc
  ·split
   ·exact vC h
   ·exact vC h
theorem rW:∀{names:List (Str×jR)}{h:cB}{acc:List (Str×af)}{x:Str}{c:af},(x,c)∈fE h.objs.size names acc-> (x,c)∈acc∨((x,.cell)∈names/\h.objs.size<=c/\TF (vm h names) c none)
 |[],_,_,_,_,h=>.inl h
 |(n,k)::r,h,acc,x,c,hm=>by
  unfold fE at hm;unfold vm;split at hm
  ·rename_i hk;rw[if_pos hk];have hk:k=.cell:=by simpa using hk
   rw[<-cO h {cls:=.type "cell",data:=.cell none}] at hm;rcases rW hm with hm|⟨h1,h2,h3⟩
   ·rcases aB.mp hm with e|hm
    ·cases e;exact .inr ⟨hk▸dc,aK _,ag (CQ r _ _ _ (aU _ rfl)) rfl⟩
    ·exact .inl hm
   ·rw[cO] at h2;exact .inr ⟨bW _ h1,uX h2,h3⟩
  ·rename_i hk;rw[if_neg hk];rcases rW hm with hm|⟨h1,h2,h3⟩
   ·exact .inl hm
   ·exact .inr ⟨bW _ h1,h2,h3⟩
theorem xj:∀{names:List (Str×jR)}{n:Nat}{acc:List (Str×af)}{p:Str×af},p∈acc->p∈fE n names acc
 |[],_,_,_,h=>h
 |(m,k)::r,n,acc,p,h=>by
  unfold fE;split
  ·exact xj (bW _ h)
  ·exact xj h
theorem Bu:∀{names:List (Str×jR)}{n:Nat}{acc:List (Str×af)}{x:Str},(x,.cell)∈names->∃c,(x,c)∈fE n names acc
 |(m,k)::r,n,acc,x,h=>by
  unfold fE;rcases aB.mp h with e|h
  ·cases e;exact⟨n,xj dc⟩
  ·split
   ·exact Bu h
   ·exact Bu h
theorem Bv:∀{names:List (Str×jR)}{h:cB}{acc:List (Str×af)}{x y:Str}{c:af},(∀p∈acc,p.2<h.objs.size)->(∀x y c,(x,c)∈acc->(y,c)∈acc->x=y)-> (x,c)∈fE h.objs.size names acc->(y,c)∈fE h.objs.size names acc->x=y
 |[],_,_,_,_,_,_,hi,h1,h2=>hi _ _ _ h1 h2
 |(n,k)::r,h,acc,x,y,c,hl,hi,h1,h2=>by
  unfold fE at h1 h2;split at h1
  ·rename_i hk;rw[if_pos hk] at h2;rw[<-cO h {cls:=.type "cell",data:=.cell none}] at h1 h2;refine Bv (h:=h.push _) (λp hp=>?_) (λx y c a b=>?_) h1 h2
   ·rw[cO];rcases aB.mp hp with rfl|hp
    ·exact pk _
    ·exact kT (hl p hp)
   ·rcases aB.mp a with e|a<;>rcases aB.mp b with e'|b
    ·cases e;cases e';rfl
    ·cases e;exact absurd (hl _ b) (gY _)
    ·cases e';exact absurd (hl _ a) (gY _)
    ·exact hi _ _ _ a b
  ·rename_i hk;rw[if_neg hk] at h2;exact Bv hl hi h1 h2
theorem KO{M:YE}{A:cy}{E:ak->az->Prop}{s:az}{scope:Scope}{globals:af}{closure:List (Str×af)}{qual:Str}{func:Option af}{code:ak}{around:Env}{builtins:af}{Q:Env->az->Prop}(h:Q (newEnv scope s.heap.objs.size globals (fE (s.heap.objs.size+1) scope.names closure) qual func code (some around) builtins) {s with heap:=vm (s.heap.push {cls:=.type "dict",data:=.dict #[]}) scope.names}):
  bj M A (newFunctionEnv scope globals closure [] qual func code (some around) builtins) Q E s:=by
 simp only[newFunctionEnv,XM,if_true];refine ae (wpAny_alloc ?_);refine ae (wpAny_layCells _ (λn k c=>rfl) scope.names closure _ _ ?_);rw[show({s with heap:=s.heap.push {cls:=.type "dict",data:=.dict #[]}}:az).heap.objs.size=s.heap.objs.size+1 from cO ..];rw[Bd];exact ae (aJ (aJ h))
theorem vD{sc:Scope}:∀{names:List (Str×jR)}{x:Str}{k:jR}, (names.map λ(n,k)=>if(k==jY&&sc.kind==.function&&sc.names.lookup n==some .cell) then(n,XE) else(n,k)).lookup x=some k->
  ∃k',names.lookup x=some k'/\(k=k'∨(k'=.free/\k=.cell))
 |[],_,_,h=>by simp at h
 |(n,k₀)::r,x,k,h=>by
  have ih:=@vD sc r x k;have h':nI x ((if(k₀==jY&&sc.kind==.function&&sc.names.lookup n==some .cell)=true then(n,XE) else(n,k₀))::(r.map _))=some k:=h
  cases hx:x==n with
  |true=>
   simp only[dq,hx];by_cases hc:(k₀==jY&&sc.kind==.function&&sc.names.lookup n==some .cell)=true
   ·rw[if_pos hc] at h';simp only[dq,hx] at h';cases h';simp only[aL,beq_iff_eq] at hc;exact bq k₀ rfl (.inr ⟨hc.1.1,rfl⟩)
   ·rw[if_neg hc] at h';simp only[dq,hx] at h';cases h';exact ag rfl (.inl rfl)
  |false=>
   simp only[dq,hx];by_cases hc:(k₀==jY&&sc.kind==.function&&sc.names.lookup n==some .cell)=true
   ·rw[if_pos hc] at h';simp only[dq,hx] at h';exact ih h'
   ·rw[if_neg hc] at h';simp only[dq,hx] at h';exact ih h'
structure KP(N:List Str)(sc scope:Scope)(own:List (Str×Nat)):Prop where
 kind:scope.kind=.function
 uniq:∀y∈scope.names,scope.names.lookup y.1=some y.2
 ix:∀p∈own,N[p.2]? =some p.1
 free:∀y∈scope.names,y.2=.free->sc.names.lookup y.1=some .cell∨sc.names.lookup y.1=some .free
 own:∀y∈scope.names,y.2=.local∨y.2=.cell->y.1∈own.map (·.1)∨y.1∉N
def wipe(σ:St):List Nat->St
 |[]=>σ
 |v::vs=>(wipe σ vs).set v none
theorem vE(σ:St):∀vs:List Nat,(wipe σ vs).length=σ.length
 |[]=>rfl
 |v::vs=>by unfold wipe;rw[List.length_set,vE σ vs]
theorem Bw{σ:St}{i:Nat}{x:V}:∀{vs:List Nat},(wipe σ vs)[i]? =some (some x)->σ[i]? =some (some x)/\i∉vs
 |[],h=>⟨h,by simp⟩
 |v::vs,h=>by
  unfold wipe at h;by_cases hi:v=i
  ·subst hi;by_cases hv:v<(wipe σ vs).length
   ·rw[yb hv] at h;cases h
   ·rw[da (by simpa using hv)] at h;cases h
  ·rw[A6 hi] at h;obtain⟨h1,h2⟩:=Bw h;exact⟨h1,by simp only[aB,not_or];exact⟨λe=>hi e.symm,h2⟩⟩
abbrev Cx.IQ(X:Cx)(s:az)(H:Hp)(scope:Scope)(mw:Env)(fp:List af):Cx:={X with GA:=s,H_0:=H,env:=mw,outer:=X.stack,ex:=fp,fn:=λx=>scope.names.lookup x==some .cell,pn:=[],xe:=λ_ _=>False}
section
variable{X:Cx}{pins:List (af×Obj)}{σ:St}{H:Hp}{s:az}
theorem KQ{scope:Scope}{own:List (Str×Nat)}{fp:List af}(I:Inv X pins σ H s)(ok:KP X.N X.env.scope scope own)(hN:X.N.Nodup)(hfp:∀b∈fp,Bo X pins H b/\b<s.heap.objs.size):
  Inv (X.IQ s H scope (m7 scope (fE (s.heap.objs.size+1) scope.names (gD X.env.cells scope.names [])) s.heap.objs.size X.env) fp) [] (wipe σ (own.map (·.2))) H {s with heap:=vm (s.heap.push {cls:=.type "dict",data:=.dict #[]}) scope.names}:=by
 have Hy:∀y∈scope.names,y.2=.free->∃c,X.env.cells.lookup y.1=some c:=λy hy e=>by
  rcases ok.free y hy e with k|k
  ·exact I.ok.has _ (.inl k)
  ·exact I.ok.has _ (.inr k)
 generalize KR:m7 scope (fE (s.heap.objs.size+1) scope.names (gD X.env.cells scope.names [])) s.heap.objs.size X.env=mw;have kp:∀b o,s.heap.get? b=some o->(vm (s.heap.push {cls:=.type "dict",data:=.dict #[]}) scope.names).get? b=some o:=λb o e=>CQ _ _ _ _ (aj _ e);have hL:mw.locals=s.heap.objs.size:=by rw[<-KR];rfl
 have vk:mw.cells=fE (s.heap.objs.size+1) scope.names (gD X.env.cells scope.names []):=by rw[<-KR];rfl
 have Rg:mw.scope=afY scope X.env.scope:=by rw[<-KR];rfl
 rw[<-cO s.heap {cls:=.type "dict",data:=.dict #[]}] at vk;have cm:∀{y c},(y,c)∈gD X.env.cells scope.names []->X.env.cells.lookup y=some c/\c<s.heap.objs.size:=λ{y c} hm=>by
  rcases qC hm with hm|⟨h1,rfl⟩
  ·cases hm
  ·obtain⟨c,hc⟩:=Hy _ h1 rfl;rw[hc];obtain⟨w,z⟩:=I.cell _ _ hc;exact⟨rfl,z.lt⟩
 have mem:∀{y c},mw.cells.lookup y=some c->(X.env.cells.lookup y=some c/\c<s.heap.objs.size)∨(s.heap.objs.size+1<=c/\TF (vm (s.heap.push {cls:=.type "dict",data:=.dict #[]}) scope.names) c none):=λ{y c} e=>by
  rw[vk] at e;rcases rW (cM e) with hm|⟨_,h2,h3⟩
  ·exact .inl (cm hm)
  ·rw[cO] at h2;exact .inr ⟨h2,h3⟩
 have look:∀{y},scope.names.lookup y=some .free->∃c,mw.cells.lookup y=some c/\X.env.cells.lookup y=some c:=λ{y} hl=>by
  have hy:(y,jY)∈scope.names:=cM hl;obtain⟨c',e'⟩:=mem_lookup (xj (names:=scope.names) (n:=(s.heap.push {cls:=.type "dict",data:=.dict #[]}).objs.size) (vC (cells:=X.env.cells) (acc:=[]) hy));rw[<-vk] at e';refine bq c' e' ?_;rw[vk] at e';rcases rW (cM e') with hm|⟨h1,_,_⟩
  ·exact(cm hm).1
  ·have:=ok.uniq _ h1;rw[hl] at this;cases this
 have okB:(X.IQ s H scope mw fp).Ok:=by
  refine⟨I.ok.mod,by show mw.scope.kind=_;rw[Rg];exact ok.kind,by show mw.globals=_;rw[<-KR];exact I.ok.glob,by show mw.builtins=_;rw[<-KR];exact I.ok.blt,by show s.heap.objs.size<=mw.locals;rw[hL];exact aK _,
   λy z c e1 e2=>?_,λy hy=>?_,λy c z e=>?_,I.ok.hd,I.ok.frames,.inl rfl,λb hb=>⟨?_,λy c e z=>?_⟩,I.bs,ao I.ok.VZ I.sz,λb o e hb=>?_,λb hb z=>?_,I.stack,I.IC⟩
  ·have e1:mw.cells.lookup y=some c:=e1;have e2:mw.cells.lookup z=some c:=e2;rw[vk] at e1 e2;refine Bv (λp hp=>?_) (λy z c a b=>I.ok.inj y z c (cm a).1 (cm b).1) (cM e1) (cM e2);rw[cO];exact kT (cm (y:=p.1) (c:=p.2) hp).2
  ·show∃c,mw.cells.lookup y=some c;have key:∀k,mw.kindOf y=some k->(k=.cell∨k=.free)->∃c,mw.cells.lookup y=some c:=λk hk KS=>by
    unfold Env.kindOf at hk;rw[Rg] at hk;obtain⟨k',e,r⟩:=vD hk;have:k'=.cell∨k'=.free:=by
     rcases r with rfl|⟨rfl,_⟩
     ·exact KS
     ·exact .inr rfl
    rcases this with rfl|rfl
    ·obtain⟨c,hm⟩:=Bu (n:=(s.heap.push {cls:=.type "dict",data:=.dict #[]}).objs.size) (acc:=gD X.env.cells scope.names []) (cM e);obtain⟨c',e'⟩:=mem_lookup hm;exact⟨c',by rw[vk];exact e'⟩
    ·obtain⟨c,h1,_⟩:=look e;exact⟨c,h1⟩
   rcases hy with hy|hy
   ·exact key _ hy (.inl rfl)
   ·exact key _ hy (.inr rfl)
  ·have z:(scope.names.lookup y==some XE)=true:=z;have z:scope.names.lookup y=some .cell:=by simpa using z
   have e:mw.cells.lookup y=some c:=e;rw[vk] at e;rcases rW (cM e) with hm|⟨_,h2,_⟩
   ·rcases qC hm with hm|⟨h1,_⟩
    ·cases hm
    ·have q:=ok.uniq _ h1;rw[z] at q;cases q
   ·rw[cO] at h2;exact uX h2
  ·show b≠mw.locals;rw[hL];exact bV (hfp b hb).2
  ·have e:mw.cells.lookup y=some c:=e;rcases mem e with⟨h1,_⟩|⟨h1,_⟩
   ·exact(hfp b hb).1.2.2.2.2.1 y c h1 z
   ·have h2:s.heap.objs.size+1<=b:=by rw[<-z];exact h1
    exact absurd (bM (hfp b hb).2 (uX h2)) (gY _)
  ·rcases(hfp b hb).1.2.2.2.1 with z|z
   ·exact I.ok.SY b o e z
   ·exact absurd (bM (bg e) (ao I.ok.VZ z)) (gY _)
  ·rcases aB.mp (I.Np b z) with z|z
   ·exact(hfp b hb).1.2.1 z
   ·exact(hfp b hb).1.2.2.1 z
 refine⟨okB,rfl,I.bare,Un.kept kp,bq (λ_=>none) ?_ (λi y av e1 e2 e3=>?_),λy c e=>?_,?_,λy c e=>?_,λp hp=>?_,I.dQ.kept kp,by rw[vE];exact I.len⟩
 ·show Heap.Ns _ mw.locals _;rw[hL];exact Heap.Ns.keeps (Heap.Ns.new ..) λb o e=>CQ _ _ _ _ e
 ·obtain⟨e2,k9⟩:=Bw e2;have NJ:scope.names.lookup y=some .free/\(mw.kindOf y=some .cell∨mw.kindOf y=some .free):=by
   have key:∀k,mw.scope.names.lookup y=some k->k=.local∨k=.cell∨k=.free->scope.names.lookup y=some .free/\(mw.kindOf y=some .cell∨mw.kindOf y=some .free):=λk hk KS=>by
    have hk0:=hk;rw[Rg] at hk;obtain⟨k',e,r⟩:=vD hk;have no:¬(k'=.local∨k'=.cell):=λhh=>by
     rcases ok.own _ (cM e) hh with e'|e'
     ·obtain⟨p,hp,hpy⟩:=au.mp e';have e3:=ok.ix p hp;have:p.1=y:=hpy;rw[this] at e3;exact k9 (au.mpr (bq p hp (DN hN e3 e1)))
     ·exact e' (aN e1)
    rcases r with rfl|⟨rfl,rfl⟩
    ·rcases KS with rfl|rfl|rfl
     ·exact absurd (.inl rfl) no
     ·exact absurd (.inr rfl) no
     ·exact⟨e,.inr hk0⟩
    ·exact⟨e,.inl hk0⟩
   have e3:Vis mw.scope y:=e3;rcases e3 with e3|e3|e3
   ·exact key _ e3 (.inl rfl)
   ·exact key _ e3 (.inr (.inl rfl))
   ·exact key _ e3 (.inr (.inr rfl))
  obtain⟨m,hn,hl⟩:=I.loc;have Zf:Vis X.env.scope y:=(ok.free _ (cM NJ.1) rfl).elim (λk=>.inr (.inl k)) (λk=>.inr (.inr k));obtain⟨w,r,q⟩:=hl i y av e1 e2 Zf;refine bq w r (.inr ⟨NJ.2,?_⟩);obtain⟨c,h1,h2⟩:=look NJ.1;rcases q with⟨k,_⟩|⟨_,c',e',z⟩
  ·have k:X.env.scope.names.lookup y=some .local:=k;rcases ok.free _ (cM NJ.1) rfl with k'|k'<;>rw[show X.env.scope.names.lookup y=_ from k'] at k<;>cases k
  ·rw[h2] at e';cases e';exact bq c h1 (z.keeps kp)
 ·have e:mw.cells.lookup y=some c:=e;rcases mem e with⟨h1,_⟩|⟨_,z⟩
  ·obtain⟨w,z⟩:=I.cell y c h1;exact⟨w,z.keeps kp⟩
  ·exact⟨_,z⟩
 ·show H mw.locals=none;rw[hL];exact I.dQ.fresh (aK _)
 ·have e:mw.cells.lookup y=some c:=e;rcases mem e with⟨h1,_⟩|⟨h1,_⟩
  ·exact I.um y c h1
  ·exact I.dQ.fresh (uX h1)
 ·exact absurd (show p∈([]:List (af×Obj))++[] from hp) (by simp)
theorem Zg{E:ak->az->Prop}{D:af}{xs:List V}{y:V}{v:ak}{Q:ak->az->Prop}(I:Inv X pins σ H s)(hD:H D=some (.lst xs))(hz:xs.length<aA)(r:RelV y v)(h:∀s',Inv X pins σ (upd H D (.lst (xs++[y]))) s'->Q .none s'):bj (model X.prog X.w) X.A (call (.builtin "list.append") [.ref D,v]) Q E s:=by obtain⟨HE,its,n,ri,e⟩:=I.dQ D _ hD;have hl:=ri.length;refine append_at (hsz:=by rw[bD];omega) e λh' sb Py=>?_;refine h {s with heap:=h'} (I.write (t':=s.toks) (by rw[hD];trivial) (.inl rfl) (λb u hb q=>(sb.2 b hb).trans q) ⟨_,Py⟩ ⟨by rw[aP];exact hz,fu (its++[v]) (n+1) (ri.append (.cons r .nil)) ?_⟩);rw[Py];simp
def PTs(X:Cx)(ifs:List Expr)(t:TT):Prop:=
 ∀(pins:List (af×Obj))(s:az)(σ:St)(H:Hp)(Q:Bool->Hp->Prop),Inv X pins σ H s->t σ H Q->
  bj (model X.prog X.w) X.A (forIn ifs true λc r=>if r=true then do let ok <-isTrue c X.env (eval c X.env);pure (yL ok) else pure (yL r)) (TP X pins σ Q) X.xe s
def IS:TT:=λ_ H Q=>Q true H
theorem eQ:PTs X [] IS:=λ_ _ _ H _ I h=>wpAny_tests_nil (bq H I h)
theorem tq{c:Expr}{t:TT}(h:PT X c t):PTs X [c] t:=λpins s σ H Q I hw=>wpAny_tests_one (h pins s σ H Q I hw)
end
theorem Rh{α:Type}{t:Sem α}{Q Q':α->az->Prop}{M:YE}{A:cy}{E:ak->az->Prop}{s:az}(h:bj M A t Q (λ_ _=>False) s)(hQ:∀a s,Q a s->Q' a s):bj M A t Q' E s:=fq h hQ λ_ _ z=>dP z
theorem IT{prog:bp}{w:bQ}{A:cy}{R:aa7->az->Prop}{s:az}{elt target iter:Expr}{ifs:List Expr}{scope:Scope}{pos:Pos}{it acc:ak}{env:Env}(I:Nat->az->Prop)(turn:∀n s,I n s->bj (model prog w) A (jH it) (λr s₁=>match r with
   |none=>R (.ok .next) s₁
   |some v=>bj (model prog w) A (CP target it v) (λ_ XY=>bj (model prog w) A (assign target env v) (λ_ s₂=>bj (model prog w) A (forIn ifs true λc r=>if r=true then do let ok <-isTrue c env (eval c env);pure (yL ok) else pure (yL r)) (λok s₃=>if ok=true then bj (model prog w) A (eval elt env) (λx s₄=>bj (model prog w) A (call (.builtin "list.append") [acc,x]) (λ_ s₅=>∃m,m<n/\I m s₅) (SU (model prog w) A env λe s'=>R (.error e) s') s₄) (SU (model prog w) A env λe s'=>R (.error e) s') s₃
      else∃m,m<n/\I m s₃) (SU (model prog w) A env λe s'=>R (.error e) s') s₂) (SU (model prog w) A env λe s'=>R (.error e) s') XY) (SU (model prog w) A env λe s'=>R (.error e) s') s₁) (SU (model prog w) A env λe s'=>R (.error e) s') s)
  (n:Nat)(h:I n s):
  rS (model prog w) A (.compLoop (.ListComp elt [⟨target,iter,ifs,0⟩] scope pos) 0 it acc env) R s:=by
 refine codeAny_loop rfl I (λn s hI=>?_) n h;show bj _ A ((compTurn (.ListComp elt [⟨target,iter,ifs,0⟩] scope pos) 0 it acc env).onRaise (λx=>do noteFrame x env;theTreesLotGoes x)) _ _ s;refine wpAny_noted ?_;rw[compTurn_list];refine ae (Iv (ae (fq (turn n s hI) (λr s₁ h₁=>?_) λ_ _ h'=>h')))
 cases r with
 |none=>exact aJ h₁
 |some v=>
  refine ae (fq h₁ (λ_ XY acx=>?_) λ_ _ h'=>h');refine ae (fq acx (λ_ s₂ h₂=>ae (fq h₂ (λok s₃ h₃=>?_) λ_ _ h'=>h')) λ_ _ h'=>h')
  cases ok with
  |false=>exact aJ ⟨rfl,h₃⟩
  |true=>exact ae (ae (fq h₃ (λx s₄ h₄=>ae (fq h₄ (λ_ s₅ h₅=>aJ (aJ ⟨rfl,h₅⟩)) λ_ _ h'=>h')) λ_ _ h'=>h'))
section
variable{X:Cx}
def tLc(wi:TI)(g:TG)(tt:TT)(te:TE)(vs:List Nat):TE:=λσ H Q=>wi σ H λJ H1=>∀D,H1 D=none->∃W:Nat->Nat->Hp->Prop,(∃m,W 0 m (upd H1 D (.lst [])))/\∀i m H,W i m H->
 (J.stop i H/\Q (.ref D) H)∨(J.go i H/\∃Nx:Hp->Prop,(∀H',Nx H'->∃m',m'<m/\W (i+1) m' H')/\∀x H',J.GC i H x H'->g x (wipe σ vs) H' λσ2 H2=>wipe σ2 vs=wipe σ vs/\tt σ2 H2 λb H3=>if b=true then te σ2 H3 λy H4=>∃acc,H4 D=some (.lst acc)/\acc.length<aA/\Nx (upd H4 D (.lst (acc++[y]))) else Nx H3)
theorem PL{pins:List (af×Obj)}{s:az}{σ:St}{H:Hp}{Q:VK}{elt tg iter:Expr}{ifs:List Expr}{scope:Scope}{own:List (Str×Nat)}{pos pos':Pos}{wi:TI}{g:TG}{tt:TT}{te:TE}{use:Option (ak->Sem Unit)}{Qf:ak->az->Prop}(hc:X.calm=true)(hN:X.N.Nodup)(I:Inv X pins σ H s)(hi:PI X tg iter wi)(ok:KP X.N X.env.scope scope own)(hg:∀(s:az)(H:Hp)(C:af)(cl:List (Str×af))(fp:List af),PG (X.IQ s H scope (m7 scope cl C X.env) fp) tg g)(ht:∀(s:az)(H:Hp)(C:af)(cl:List (Str×af))(fp:List af),PTs (X.IQ s H scope (m7 scope cl C X.env) fp) ifs tt)(he:∀(s:az)(H:Hp)(C:af)(cl:List (Str×af))(fp:List af),PE (X.IQ s H scope (m7 scope cl C X.env) fp) elt te)(hs:∀x,yJ iter X.env x=pure x)(h:tLc wi g tt te (own.map (·.2)) σ H Q)(Ri:∀D C s' m H',Inv X pins σ H' s'->Q (.ref D) H'->s'.heap.Ns C m->Bo X pins H' C->compPost (model X.prog X.w) X.A X.xe use Qf (.ref D) C (.ok .next) s'):
  bj (model X.prog X.w) X.A (comprehension (.ListComp elt [⟨tg,iter,ifs,0⟩] scope pos) scope X.env pos' (newList []) false (eval iter X.env) use) Qf X.xe s:=by
 have Hy:∀y∈scope.names,y.2=.free->∃c,X.env.cells.lookup y.1=some c:=λy hy e=>by
  rcases ok.free y hy e with k|k
  ·exact I.ok.has _ (.inl k)
  ·exact I.ok.has _ (.inr k)
 refine wpAny_comprehension_free (use:=use) rfl hs (NI Hy) ok.kind (λy hy e=>by rw[ok.uniq y hy,e])
  (iM (hi pins s σ H _ I h) λxv s1 hx=>iM hx λitv s2 h2=>?_)
 refine CV ?_ h2;rintro it fp tn J H2 ⟨e,I2,T,st2,f2,q⟩;subst e;refine iJ (KO ?_) (by show 0<=aA;decide);generalize hD:s2.heap.objs.size=D;have hDn:H2 D=none:=I2.dQ.fresh (ye hD);obtain⟨W,⟨m0,w0⟩,turn⟩:=q D hDn;generalize hs3:({s2 with heap:=s2.heap.push {cls:=.type "list",data:=.seq ([]:List ak).toArray}}:az)=s3;have I3:Inv X pins σ (upd H2 D (.lst [])) s3:=by rw[<-hs3];refine I2.laid (t':=s2.toks) (λb o e=>aj _ e) (ye hD) ⟨bE _,fu ([]) 0 .nil ?_⟩;rw[<-hD];exact aU _ rfl
 have h3:s3.heap=s2.heap.push {cls:=.type "list",data:=.seq ([]:List ak).toArray}:=by rw[<-hs3]
 have sz:∀b∈fp,b<s2.heap.objs.size:=λb hb=>by obtain⟨o,e,_⟩:=T.obj _ _ st2 b hb;exact bg e
 have f3:∀b∈fp,Bo X pins (upd H2 D (.lst [])) b/\b<s3.heap.objs.size:=λb hb=>by have oR:=sz b hb;refine⟨⟨?_,(f2 b hb).2⟩,by rw[h3,cO];exact kT oR⟩;rw[ay (by rw[<-hD];exact bV oR)];exact(f2 b hb).1
 have st3:tn 0 s3.heap:=T.keep _ _ _ st2 λb _ o e=>by rw[h3];exact aj _ e
 have I4:=KQ I3 ok hN f3;have pg:=hg s3 (upd H2 D (.lst [])) s3.heap.objs.size (fE (s3.heap.objs.size+1) scope.names (gD X.env.cells scope.names [])) fp;have pt:=ht s3 (upd H2 D (.lst [])) s3.heap.objs.size (fE (s3.heap.objs.size+1) scope.names (gD X.env.cells scope.names [])) fp;have pe:=he s3 (upd H2 D (.lst [])) s3.heap.objs.size (fE (s3.heap.objs.size+1) scope.names (gD X.env.cells scope.names [])) fp;show rS _ _ (.compStart (.ListComp elt [⟨tg,iter,ifs,0⟩] scope pos) 0 (.ref it) (.ref D) (m7 scope (fE (s3.heap.objs.size+1) scope.names (gD X.env.cells scope.names [])) s3.heap.objs.size X.env)) (compPost (model X.prog X.w) X.A X.xe use Qf (.ref D) s3.heap.objs.size) {s3 with heap:=vm (s3.heap.push {cls:=.type "dict",data:=.dict #[]}) scope.names};have nfp:∀b∈fp,(upd H2 D (.lst [])) b=none:=λb hb=>(f3 b hb).1.1;generalize hce:m7 scope (fE (s3.heap.objs.size+1) scope.names (gD X.env.cells scope.names [])) s3.heap.objs.size X.env=ce at I4 pg pt pe⊢;have cL:ce.locals=s3.heap.objs.size:=by subst hce;rfl
 generalize hH3:upd H2 D (.lst [])=H3 at I3 I4 pg pt pe w0 nfp f3;generalize hs4:({s3 with heap:=vm (s3.heap.push {cls:=.type "dict",data:=.dict #[]}) scope.names}:az)=s4 at I4⊢;have st4:tn 0 s4.heap:=T.keep _ _ _ st3 λb _ o e=>by rw[<-hs4];exact CQ _ _ _ _ (aj _ e)
 have Nv:∀{σ':St}{H':Hp}{s':az},Inv (X.IQ s3 H3 scope ce fp) [] σ' H' s'->(∀b∈fp,H' b=none)->∀b∈fp,Bo (X.IQ s3 H3 scope ce fp) [] H' b:=λ{σ' H' s'} I' hn b hb=>⟨hn b hb,(I'.ok.exf b hb).1,I'.ok.S1 b hb,.inl hb,λx c e=>(I'.ok.exf b hb).2 x c e,λp hp=>absurd (show p∈([]:List (af×Obj))++[] from hp) (by simp)⟩;have loop:rS (model X.prog X.w) X.A (.compLoop (.ListComp elt [⟨tg,iter,ifs,0⟩] scope pos) 0 (.ref it) (.ref D) ce) (compPost (model X.prog X.w) X.A X.xe use Qf (.ref D) s3.heap.objs.size) s4:=by
  refine IT (λn s'=>∃i H',Inv (X.IQ s3 H3 scope ce fp) [] (wipe σ (own.map (·.2))) H' s'/\tn i s'.heap/\(∀b∈fp,H' b=none)/\W i n H') ?_ m0 (dH 0 H3 I4 st4 nfp w0);rintro n s5 ⟨i,H5,I5,st5,n5,w5⟩;rcases turn i n H5 w5 with⟨stop,qq⟩|⟨go,Nx,hNx,step⟩
  ·have td:=T.done (X.IQ s3 H3 scope ce fp) rfl rfl rfl hc i [] s5 _ H5 (λ_ _=>False) I5 (Nv I5 n5) st5 stop;refine Rh td λr s6 ⟨hr,I6⟩=>?_;subst hr;have I7:Inv X pins σ H5 s6:=I3.ab6 (ch:=fp) I6.os I6.base I6.dQ I6.bare λb hb=>⟨(f3 b hb).1.2.2.2.1,(f3 b hb).1.2.1,(f3 b hb).1.2.2.2.2.1,(f3 b hb).1.2.2.2.2.2⟩;have nC:H5 s3.heap.objs.size=none:=by have z:H5 ce.locals=none:=I6.free;rw[cL] at z;exact z
   obtain⟨m,hn,_⟩:=I6.loc;have hn:s6.heap.Ns ce.locals m:=hn;rw[cL] at hn;exact Ri D s3.heap.objs.size s6 m H5 I7 qq hn (I3.IE (aK _) nC)
  ·have ti:=T.item (X.IQ s3 H3 scope ce fp) rfl rfl rfl hc i [] s5 _ H5 (λ_ _=>False) I5 (Nv I5 n5) st5 go;refine Rh ti λr s6 ⟨u,hr,h6⟩=>?_;subst hr;refine Rh h6 λ_ s7 ⟨x,H7,I7,r7,y7,st7,n7⟩=>?_;have I7':=I7.pinned (Nv I7 n7) (T.obj _ _ st7);refine Rh (pg _ s7 _ H7 x u _ I7' r7 (step x H7 y7)) λ_ s8 ⟨σ8,H8,I8,hw8,q8⟩=>?_;refine Rh (pt _ s8 σ8 H8 _ I8 q8) λb s9 ⟨H9,I9,q9⟩=>?_;have fin:∀{s':az}{H':Hp},Inv (X.IQ s3 H3 scope ce fp) ([]++DP fp s7.heap) σ8 H' s'->Nx H'->∃m,m<n/\∃i H',Inv (X.IQ s3 H3 scope ce fp) [] (wipe σ (own.map (·.2))) H' s'/\tn i s'.heap/\(∀b∈fp,H' b=none)/\W i m H':=λ{s' H'} I' nx=>by
    obtain⟨m',hm,w'⟩:=hNx H' nx;have acy:∀b∈fp,∀o,s7.heap.get? b=some o->s'.heap.get? b=some o/\H' b=none:=λb hb o e=>
     let z:=I'.pin (b,o) (c9 _ (c9 _ (yR hb e)))
     ⟨z.1,z.2.1⟩
    have hl:(wipe σ (own.map (·.2))).length=σ8.length:=by rw[<-hw8,vE]
    refine bq m' hm (dH (i+1) H' ((I'.rU (pins:=[])).weak hl (λj v e=>?_)) (T.keep _ _ _ st7 λb hb o e=>(acy b hb o e).1) (λb hb=>?_) w')
    ·rw[<-hw8] at e;exact(Bw e).1
    ·obtain⟨o,e,_⟩:=T.obj _ _ st7 b hb;exact(acy b hb o e).2
   cases b with
   |false=>simp only[sY,if_false] at q9⊢;exact fin I9 q9
   |true=>simp only[if_true] at q9⊢;refine Rh (pe _ s9 σ8 H9 _ I9 q9) λz s10 ⟨yv,H10,I10,r10,acc,af0,af1,nx⟩=>?_;exact Zg (X:=X.IQ s3 H3 scope ce fp) I10 af0 af1 r10 λs11 I11=>fin I11 nx
 exact codeAny_compStart_list loop (T.self X.A 0 _ _ _ st4 loop)
theorem ia{elt tg iter:Expr}{ifs:List Expr}{scope:Scope}{own:List (Str×Nat)}{pos:Pos}{wi:TI}{g:TG}{tt:TT}{te:TE}(hc:X.calm=true)(hN:X.N.Nodup)(hi:PI X tg iter wi)(ok:KP X.N X.env.scope scope own)(hg:∀(s:az)(H:Hp)(C:af)(cl:List (Str×af))(fp:List af),PG (X.IQ s H scope (m7 scope cl C X.env) fp) tg g)(ht:∀(s:az)(H:Hp)(C:af)(cl:List (Str×af))(fp:List af),PTs (X.IQ s H scope (m7 scope cl C X.env) fp) ifs tt)(he:∀(s:az)(H:Hp)(C:af)(cl:List (Str×af))(fp:List af),PE (X.IQ s H scope (m7 scope cl C X.env) fp) elt te)(hs:∀x,yJ iter X.env x=pure x:=by intro _;rfl):
  PE X (.ListComp elt [⟨tg,iter,ifs,0⟩] scope pos) (tLc wi g tt te (own.map (·.2))):=by
 intro pins s σ H Q I h;rw[eval_ListComp];refine PL hc hN I hi ok hg ht he hs h λD C s' m H' I' q hn f=>bq m hn (λNd sb=>?_);obtain⟨f0,f1,f2,f3,f4,f5⟩:=f;exact bt (.ref D) H' (I'.turned (t':=s'.toks) (λb o hb e=>(sb.2 b hb).trans e) f0 f1 f3 f4 f5) rfl q
theorem DW{i:Nat}{y:Str}{py:Pos}{elt tg iter:Expr}{ifs:List Expr}{scope:Scope}{own:List (Str×Nat)}{pos acz:Pos}{wi:TI}{g:TG}{tt:TT}{te:TE}(hc:X.calm=true)(hN:X.N.Nodup)(hy:X.N[i]? =some y)(V2:X.env.scope.names.lookup y=some .local)(hsw:A8 (.ListComp elt [⟨tg,iter,ifs,0⟩] scope pos) (some (.Name y py)) acz.line X.env=pure true)(hi:PI X tg iter wi)(ok:KP X.N X.env.scope scope own)(hg:∀(s:az)(H:Hp)(C:af)(cl:List (Str×af))(fp:List af),PG (X.IQ s H scope (m7 scope cl C X.env) fp) tg g)(ht:∀(s:az)(H:Hp)(C:af)(cl:List (Str×af))(fp:List af),PTs (X.IQ s H scope (m7 scope cl C X.env) fp) ifs tt)(he:∀(s:az)(H:Hp)(C:af)(cl:List (Str×af))(fp:List af),PE (X.IQ s H scope (m7 scope cl C X.env) fp) elt te)(hs:∀x,yJ iter X.env x=pure x:=by intro _;rfl):
  PS X (.Assign [.Name y py] (.ListComp elt [⟨tg,iter,ifs,0⟩] scope pos) acz) (YW (tLc wi g tt te (own.map (·.2))) (Kz i)):=by
 intro pins s σ H D I h;rw[exec_Assign_Name_used _ _ _ _ hsw];refine ae (Iv (ae ?_));show bj _ X.A (do let _ <-comprehension (.ListComp elt [⟨tg,iter,ifs,0⟩] scope pos) scope X.env (firstIterPos [⟨tg,iter,ifs,0⟩] pos) (newList []) false (eval iter X.env) (some (assign (.Name y py) X.env))) _ _ s;have h:tLc wi g tt te (own.map (·.2)) σ H (λx H1=>Kz i x σ H1 D.nx):=h;refine ae (iM (PL (Qf:=λ_ s'=>SP X pins D .next s') hc hN I hi ok hg ht he hs h λL C s' m H' I' q hn f=>?_) λ_ s' hq=>aJ (aJ hq));show bj _ _ (assign (.Name y py) X.env (.ref L)) _ _ _;refine ajM (Hx (v:=V.ref L) I' hN hy (.inl V2) rfl (λs2 I2 ⟨a,sb,ha⟩=>?_) (.inr V2));obtain⟨f0,f1,f2,f3,f4,f5⟩:=f;have haC:C≠a:=by
  rcases ha with z|z
  ·rw[z];exact f1
  ·exactλe=>f4 y a z e.symm
 refine bq m (hn.sameBut sb haC) (λh3 Rj=>?_);exact fu _ H' (I2.turned (t':=s2.toks) (λb o hb e=>(Rj.2 b hb).trans e) f0 f1 f3 f4 f5) q
theorem IU{elt:Expr}{gs:List Comprehension}{scope:Scope}{pos py:Pos}{y:Str}{l:Nat}{env:Env}(hk:env.scope.kind=.function)(hy:env.scope.names.lookup y=some .local)(hl:(py.line==pos.line)=true)(ha:(scope.names.any λ(n,k)=>n==y&&(k==.local||k==.cell))=false):A8 (.ListComp elt gs scope pos) (some (.Name y py)) l env=pure true:=by
 have ky:env.kindOf y=some .local:=hy;have hb:env.blockKind=.function:=by unfold Env.blockKind;rw[hk];rfl
 unfold A8;simp only[hb,ky,ha,Expr.pos,hl];rfl
end
def acA(N:List Str)(sc scope:Scope)(own:List (Str×Nat)):Bool:=
 (match scope.kind with|.function=>true|_=>false)&&(scope.names.all λy=>decide (scope.names.lookup y.1=some y.2))&&(own.all λp=>decide (N[p.2]? =some p.1))&&
  (scope.names.all λy=>match y.2 with
   |.free=>(match sc.names.lookup y.1 with|some .cell=>true|some .free=>true|_=>false)
   |.local=>decide (y.1∈own.map (·.1))||decide (y.1∉N)
   |.cell=>decide (y.1∈own.map (·.1))||decide (y.1∉N)
   |_=>true)
theorem cR{N:List Str}{sc scope:Scope}{own:List (Str×Nat)}(h:acA N sc scope own=true):KP N sc scope own:=by
 unfold acA at h;simp only[aL,cj,decide_eq_true_eq] at h;obtain⟨⟨⟨h1,h2⟩,h3⟩,h4⟩:=h;refine⟨?_,h2,h3,λy hy e=>?_,λy hy e=>?_⟩
 ·split at h1
  ·assumption
  ·cases h1
 ·have q:=h4 y hy;simp only[e] at q;split at q<;>first|exact .inl (by assumption)|exact .inr (by assumption)|cases q
 ·have q:=h4 y hy;rcases e with e|e<;>(simp only[e,ik,decide_eq_true_eq] at q;exact q)
section
variable{κ:Type}[DecidableEq κ]
def jc(kvs:List (κ×V))(k:κ):Option V:=(kvs.find? λkv=>decide (kv.1=k)).map (·.2)
def putK(kvs:List (κ×V))(k:κ)(v:V):List (κ×V):=if(kvs.any λkv=>decide (kv.1=k))=true then kvs.map (λkv=>if kv.1=k then(kv.1,v) else kv) else kvs++[(k,v)]
theorem vF{p:κ×V}{r:List (κ×V)}{k:κ}(e:p.1=k):jc (p::r) k=some p.2:=by simp[jc,il,e]
theorem rX{p:κ×V}{r:List (κ×V)}{k:κ}(e:¬p.1=k):jc (p::r) k=jc r k:=by simp[jc,il,e]
theorem Aa(k:κ):∀kvs:List (κ×V),(kvs.any λkv=>decide (kv.1=k))=(jc kvs k).isSome
 |[]=>rfl
 |p::r=>by
  rw[iK];by_cases e:p.1=k
  ·simp only[vF e,decide_eq_true e,Bool.true_or,XM]
  ·rw[rX e,decide_eq_false e,afm];exact Aa k r
theorem Ci(kvs:List (κ×V))(k:κ)(v:V):(putK kvs k v).length<=kvs.length+1:=by
 unfold putK;split
 ·rw[aa];omega
 ·rw[aP,aW,abS];omega
theorem DX{kvs:List (κ×V)}{k:κ}(v:V)(h:jc kvs k=none):putK kvs k v=kvs++[(k,v)]:=by unfold putK;rw[Aa,h];exact if_neg (by decide)
theorem u4.rY{o:Option V}{u:Option ak}(r:u4 o u):o.isSome=u.isSome:=by
 cases o with
 |none=>cases u with
  |none=>rfl
  |some _=>exact(show False from r).elim
 |some _=>cases u with
  |none=>exact(show False from r).elim
  |some _=>rfl
theorem u4.getD{o:Option V}{u:Option ak}{d:V}{d':ak}(r:u4 o u)(rd:RelV d d'):RelV (o.getD d) (u.getD d'):=by
 cases o with
 |none=>cases u with
  |none=>exact rd
  |some _=>exact(show False from r).elim
 |some _=>cases u with
  |none=>exact(show False from r).elim
  |some _=>exact r
theorem KV.val{kvs:List (κ×V)}{vs:List (κ×ak)}(r:KV kvs vs)(k:κ):u4 (jc kvs k) (Na vs k):=by
 unfold KV at r
 induction r with
 |nil=>exact jy
 |@cons p q ps qs h t ih=>
  obtain⟨h1,h2⟩:=h;by_cases e:p.1=k
  ·have e':q.1=k:=h1.symm.trans e;have b:Na (q::qs) k=some q.2:=by simp[Na,il,e']
   rw[vF e,b];exact h2
  ·have e':¬q.1=k:=λz=>e (h1.trans z);have b:Na (q::qs) k=Na qs k:=by simp[Na,il,e']
   rw[rX e,b];exact ih
theorem KV.any{kvs:List (κ×V)}{vs:List (κ×ak)}(r:KV kvs vs)(k:κ):(kvs.any λkv=>decide (kv.1=k))=vs.any λkv=>decide (kv.1=k):=by
 unfold KV at r
 induction r with
 |nil=>rfl
 |cons h t ih=>rw[iK,iK,ih,h.1]
theorem KV.Zh{kvs:List (κ×V)}{vs:List (κ×ak)}(r:KV kvs vs)(k:κ){y:V}{u:ak}(ry:RelV y u):
  KV (kvs.map λkv=>if kv.1=k then(kv.1,y) else kv) (vs.map λkv=>if kv.1=k then(kv.1,u) else kv):=by
 unfold KV at r⊢
 induction r with
 |nil=>exact .nil
 |@cons p q ps qs h t ih=>
  rw[br,br];refine .cons ?_ ih;obtain⟨h1,h2⟩:=h;by_cases e:p.1=k
  ·rw[if_pos e,if_pos (h1.symm.trans e)];exact⟨h1,ry⟩
  ·rw[if_neg e,if_neg (λz=>e (h1.trans z))];exact⟨h1,h2⟩
theorem KV.put{kvs:List (κ×V)}{vs:List (κ×ak)}(r:KV kvs vs)(k:κ){y:V}{u:ak}(ry:RelV y u):KV (putK kvs k y) (stored vs k u):=by
 unfold putK stored;rw[r.any k];by_cases e:(vs.any λkv=>decide (kv.1=k))=true
 ·rw[if_pos e,if_pos e];exact r.Zh k ry
 ·rw[if_neg e,if_neg e];exact Paired.snoc r ⟨rfl,ry⟩
theorem KV.length{kvs:List (κ×V)}{vs:List (κ×ak)}(r:KV kvs vs):kvs.length=vs.length:=rP r
end
theorem DY{P:bp}{w:bQ}{k:Key}{u:ak}(r:RelV (kV k) u):(gq P w).is k u=true:=by
 cases k with
 |inl i=>obtain⟨t,e⟩:=(show∃t,u=Ph i t from r);subst e;exact Ku P w i t
 |inr x=>obtain⟨t,e⟩:=(show∃t,u=Pj x t from r);subst e;exact Kv P w x t
theorem HF{P:bp}{w:bQ}:∀{ks:List Key}{us:List ak},Vals (ks.map kV) us->ItemsAre (gq P w) ks us
 |[],_,r=>by rw[F9] at r;cases r;exact .nil
 |k::ks,_,r=>by
  rw[br] at r
  cases r with
  |cons h t=>exact .cons (DY h) (HF t)
abbrev KT(H:Hp):List (List Key×V)->List (List Key×af×ak)->Prop:=dn λp q=>p.1=q.1/\H q.2.1=some (.tup (p.1.map kV))/\RelV p.2 q.2.2
theorem KT.val{H:Hp}{kvs:List (List Key×V)}{xs:List (List Key×af×ak)}(r:KT H kvs xs)(k:List Key):u4 (jc kvs k) ((VV xs k).map (·.2)):=by
 induction r with
 |nil=>exact jy
 |@cons p q ps qs h t ih=>
  obtain⟨h1,_,h2⟩:=h;by_cases e:p.1=k
  ·have e':q.1=k:=h1.symm.trans e;have b:VV (q::qs) k=some q.2:=by simp[VV,il,e']
   rw[vF e,b];exact h2
  ·have e':¬q.1=k:=λz=>e (h1.trans z);have b:VV (q::qs) k=VV qs k:=by simp[VV,il,e']
   rw[rX e,b];exact ih
theorem KT.Zh{H:Hp}{kvs:List (List Key×V)}{xs:List (List Key×af×ak)}(r:KT H kvs xs)(k:List Key){y:V}{u:ak}(ry:RelV y u):
  KT H (kvs.map λkv=>if kv.1=k then(kv.1,y) else kv) (xs.map (putAt k u)):=by
 induction r with
 |nil=>exact .nil
 |@cons p q ps qs h t ih=>
  rw[br,br];refine .cons ?_ ih;obtain⟨h1,h2,h3⟩:=h;unfold putAt;by_cases e:p.1=k
  ·rw[if_pos e,if_pos (h1.symm.trans e)];exact⟨h1,h2,ry⟩
  ·rw[if_neg e,if_neg (λz=>e (h1.trans z))];exact⟨h1,h2,h3⟩
theorem KT.put{H:Hp}{kvs:List (List Key×V)}{xs:List (List Key×af×ak)}(r:KT H kvs xs)(k:List Key){b:af}{y:V}{u:ak}(hb:H b=some (.tup (k.map kV)))(ry:RelV y u):
  KT H (putK kvs k y) (storedH xs k b u):=by
 have e:(kvs.any λkv=>decide (kv.1=k))=(VV xs k).isSome:=by rw[Aa,(r.val k).rY,F2]
 unfold putK storedH;rw[e];by_cases q:(VV xs k).isSome=true
 ·rw[if_pos q,if_pos q];exact r.Zh k ry
 ·rw[if_neg q,if_neg q];exact Paired.snoc r ⟨rfl,hb,ry⟩
theorem KT.keeps{H H':Hp}{kvs:List (List Key×V)}{xs:List (List Key×af×ak)}(r:KT H kvs xs)(ht:∀b ys,H b=some (.tup ys)->H' b=some (.tup ys)):KT H' kvs xs:=Paired.YN r λ_ _ z=>⟨z.1,ht _ _ z.2.1,z.2.2⟩
section
variable{P:bp}{w:bQ}{H:Hp}{h:cB}{a:af}
theorem XZ{u:HO}(ok:u5 P w H h)(e:Rd H a u):fF P w H h a u:=e.ok ok
theorem Cj{kvs:List (Key×V)}(ok:u5 P w H h)(e:Rd H a (.dK kvs)):kvs.length<=aA/\(a==gn)=false/\∃vs,KV kvs vs/\h.DictOf (gq P w) a vs:=show fF P w H h a (.dK kvs) from XZ ok e
theorem TH{kvs:List (Key×V)}(ok:u5 P w H h)(e:H a=some (.dK kvs)):kvs.length<=aA/\(a==gn)=false/\∃vs,KV kvs vs/\h.DictOf (gq P w) a vs:=Cj ok (.inl e)
theorem Bx{ks:List Key}(ok:u5 P w H h)(e:H a=some (.tup (ks.map kV))):(Gs (gq P w)).is h ks a:=by obtain⟨_,its,r,o,h1,h2,n,h3⟩:=(show fF P w H h a (.tup (ks.map kV)) from ok a _ e);exact jK o its.toArray n h1 h2 ⟨h3,by simpa using HF r⟩
theorem DZ{kvs:List (List Key×V)}(ok:u5 P w H h)(e:Rd H a (.dT kvs)):kvs.length<=aA/\(a==gn)=false/\
  ∃xs,KT H kvs xs/\h.DictOfH (Gs (gq P w)) a xs:=by
 obtain⟨z,y,xs,r,o,es,ep,h1,h2,h3,h4,h5⟩:=(show fF P w H h a (.dT kvs) from XZ ok e);refine⟨z,y,bq xs r (iD o es ep h1 h2 h3 h4 ⟨λx hx=>?_,h5⟩)⟩;have all:∀{l:List (List Key×V)}{m:List (List Key×af×ak)},KT H l m->∀x∈m,(Gs (gq P w)).is h x.1 x.2.1:=by
  intro l m q
  induction q with
  |nil=>intro x hx;exact nomatch hx
  |@cons p q ps qs hq t ih=>
   intro x hx;rcases aB.mp hx with e|hx
   ·subst e;exact Bx ok (by rw[<-hq.1];exact hq.2.1)
   ·exact ih x hx
 exact all r x hx
theorem acB{kvs:List (List Key×V)}(ok:u5 P w H h)(e:H a=some (.dT kvs)):kvs.length<=aA/\(a==gn)=false/\
  ∃xs,KT H kvs xs/\h.DictOfH (Gs (gq P w)) a xs:=DZ ok (.inl e)
end
def jL(H:Hp)(a:af)(y:V)(r:Option V):Prop:=(∃kvs k,Rd H a (.dK kvs)/\y=kV k/\r=jc kvs k)∨∃kvs k b,Rd H a (.dT kvs)/\y=.ref b/\H b=some (.tup (k.map kV))/\r=jc kvs k
def GI(H:Hp)(a:af)(y v:V)(H':Hp):Prop:=
 (∃kvs k,H a=some (.dK kvs)/\y=kV k/\kvs.length<aA/\H'=upd H a (.dK (putK kvs k v)))∨
 ∃kvs k b,H a=some (.dT kvs)/\y=.ref b/\H b=some (.tup (k.map kV))/\kvs.length<aA/\H'=upd H a (.dT (putK kvs k v))
theorem jL.k{H:Hp}{a:af}{kvs:List (Key×V)}{k:Key}(e:H a=some (.dK kvs)):jL H a (kV k) (jc kvs k):=.inl (bt kvs k (.inl e) rfl rfl)
theorem jL.t{H:Hp}{a b:af}{kvs:List (List Key×V)}{k:List Key}(e:H a=some (.dT kvs))(eb:H b=some (.tup (k.map kV))):jL H a (.ref b) (jc kvs k):=.inr (jK kvs k b (.inl e) rfl ⟨eb,rfl⟩)
theorem GI.k{H:Hp}{a:af}{kvs:List (Key×V)}{k:Key}{v:V}(e:H a=some (.dK kvs))(hl:kvs.length<aA):GI H a (kV k) v (upd H a (.dK (putK kvs k v))):=.inl (dH kvs k e rfl hl rfl)
theorem GI.t{H:Hp}{a b:af}{kvs:List (List Key×V)}{k:List Key}{v:V}(e:H a=some (.dT kvs))(eb:H b=some (.tup (k.map kV)))(hl:kvs.length<aA):
  GI H a (.ref b) v (upd H a (.dT (putK kvs k v))):=.inr (iD kvs k b e rfl eb hl rfl)
section
variable{X:Cx}{pins:List (af×Obj)}{σ:St}{H:Hp}{s:az}{a:af}{y v:V}{u r:ak}{o:Option V}{A:cy}{E:ak->az->Prop}
theorem Inv.big(I:Inv X pins σ H s):gn<s.heap.objs.size:=by have h:bI<s.heap.objs.size:=(I.mod.glob.keeps I.bk).lt;exact Nat.lt_trans (by decide) h
theorem Rk{Q:ak->az->Prop}(hu:A.units+1<mv)(I:Inv X pins σ H s)(g:jL H a y (some v))(ry:RelV y u)(h:∀w' s',Inv X pins σ H s'->RelV v w'->Q w' s'):
  bj (model X.prog X.w) A (SS (.ref a) u) Q E s:=by
 rcases g with⟨kvs,k,e,ey,l⟩|⟨kvs,k,b,e,ey,eb,l⟩
 ·subst ey;obtain⟨z,hd,vs,rel,dd⟩:=Cj I.dQ e;obtain⟨w',hw,Tx⟩:=u4.some_of (v:=v) (o:=Na vs k) (by rw[l];exact rel.val k);exact wpAny_getItem_of (DY ry) dd.mapOf hw (h w' _ (I.tok _) Tx)
 ·subst ey;cases(show u=bz b from ry);obtain⟨z,hd,xs,rel,dd⟩:=DZ I.dQ e;obtain⟨w',hw,Tx⟩:=u4.some_of (v:=v) (o:=(VV xs k).map (·.2)) (by rw[l];exact rel.val k);obtain⟨p,hp,hp2⟩:=Sm.mp hw;refine wpAny_getItem_heap (oQ hu) (Bx I.dQ eb) dd hp ?_;rw[hp2];exact h w' _ (I.tok _) Tx
theorem af2{Q:ak->az->Prop}(hu:A.units+1<mv)(I:Inv X pins σ H s)(g:jL H a y o)(ry:RelV y u)(h:∀s',Inv X pins σ H s'->Q (.bool o.isSome) s'):
  bj (model X.prog X.w) A (eE .In u (.ref a)) Q E s:=by
 rcases g with⟨kvs,k,e,ey,l⟩|⟨kvs,k,b,e,ey,eb,l⟩
 ·subst ey;obtain⟨z,hd,vs,rel,dd⟩:=Cj I.dQ e;refine wpAny_in_of (DY ry) hd dd.mapOf ?_;rw[<-(rel.val k).rY,<-l];exact h _ (I.tok _)
 ·subst ey;cases(show u=bz b from ry);obtain⟨z,hd,xs,rel,dd⟩:=DZ I.dQ e;refine wpAny_in_heap (oQ hu) (Bx I.dQ eb) hd dd ?_;have q:=(rel.val k).rY;rw[F2] at q;rw[<-q,<-l];exact h _ (I.tok _)
theorem WE{Q:ak->az->Prop}(hu:A.units+1<mv)(I:Inv X pins σ H s)(g:jL H a y o)(ry:RelV y u)(h:∀s',Inv X pins σ H s'->Q (.bool (!o.isSome)) s'):
  bj (model X.prog X.w) A (eE .NotIn u (.ref a)) Q E s:=by
 rcases g with⟨kvs,k,e,ey,l⟩|⟨kvs,k,b,e,ey,eb,l⟩
 ·subst ey;obtain⟨z,hd,vs,rel,dd⟩:=Cj I.dQ e;refine wpAny_notIn_of (DY ry) hd dd.mapOf ?_;rw[<-(rel.val k).rY,<-l];exact h _ (I.tok _)
 ·subst ey;cases(show u=bz b from ry);obtain⟨z,hd,xs,rel,dd⟩:=DZ I.dQ e;refine wpAny_notIn_heap (oQ hu) (Bx I.dQ eb) hd dd ?_;have q:=(rel.val k).rY;rw[F2] at q;rw[<-q,<-l];exact h _ (I.tok _)
theorem PM{h':cB}{t':Nat}{ob:HO}(I:Inv X pins σ H s)(mu:YO (H a))(hs:eM a s.heap h')(he:∃q,h'.get? a=some q)(new:fF X.prog X.w (upd H a ob) h' a ob):
  Inv X pins σ (upd H a ob) {s with heap:=h',toks:=t'}:=
 I.write (x:=a) (e:=a) mu (.inl rfl) (λb q hb z=>(hs.2 b hb).trans z) he new
theorem Zi{P:bp}{w:bQ}{H':Hp}{h':cB}{kvs:List (Key×V)}{vs:List (Key×ak)}(z:kvs.length<=aA)(hd:(a==gn)=false)(rel:KV kvs vs)(dd:h'.DictOf (gq P w) a vs):
  fF P w H' h' a (.dK kvs):=⟨z,hd,bq vs rel dd⟩
theorem Rn{H':Hp}{Q:Unit->az->Prop}(hu:A.units+1<mv)(I:Inv X pins σ H s)(g:GI H a y v H')(ry:RelV y u)(rv:RelV v r)(h:∀s',Inv X pins σ H' s'->Q () s'):
  bj (model X.prog X.w) A (setItem (.ref a) u r) Q E s:=by
 rcases g with⟨kvs,k,e,ey,l,eH⟩|⟨kvs,k,b,e,ey,eb,l,eH⟩
 ·subst ey eH;obtain⟨z,hd,vs,rel,dd⟩:=TH I.dQ e;have hz:vs.length<=aA:=by rw[<-rel.length];exact z
  have hl:(putK kvs k v).length<=aA:=by have:=Ci kvs k v;omega
  refine wpAny_setItem_pairs (hsz:=hz) (DY ry) dd λh' dd' hs=>h _ ?_;have he:∃q,h'.get? a=some q:=let⟨q,_,_,hq,_⟩:=dd';⟨q,hq⟩;exact PM I (by rw[e];exact jy) hs he (Zi hl hd (rel.put k rv) dd')
 ·subst ey eH;cases(show u=bz b from ry);obtain⟨z,hd,xs,rel,dd⟩:=acB I.dQ e;have hz:xs.length<=aA:=by rw[<-rP rel];exact z
  have hl:(putK kvs k v).length<=aA:=by have:=Ci kvs k v;omega
  refine wpAny_setItem_heap (hsz:=hz) (oQ hu) (Bx I.dQ eb) dd λh' dd' hs=>h _ ?_;refine rq ?_ dd';rintro q es ep hq h2 h3 ⟨h4,_,h5⟩;refine PM I (by rw[e];exact jy) hs ⟨q,hq⟩ ⟨hl,hd,ag ((rel.put k eb rv).keeps λc ys ec=>?_) (iD q es ep hq h2 h3 h4 h5)⟩;rw[ay (gH ec e (λz=>nomatch z))];exact ec
end
section
variable{X:Cx}{pins:List (af×Obj)}{σ:St}{H:Hp}{s:az}{a:af}{kvs:List (Key×V)}{k:Key}{u:ak}{A:cy}{E:ak->az->Prop}
theorem acC{Q:ak->az->Prop}(I:Inv X pins σ H s)(e:Rd H a (.dK kvs))(h:∀t s',Inv X pins σ H s'->Q (.int kvs.length t) s'):bj (model X.prog X.w) A (call (.builtin "len") [.ref a]) Q E s:=by obtain⟨z,hd,vs,rel,dd⟩:=Cj I.dQ e;refine call_len_dict hd dd (by rw[<-rel.length];rw[QP] at z;omega) ?_;rw[<-rel.length];exact h _ _ (I.tok _)
end
def acD(i:Expr):Prop:=∀ov iv,subscripted i false ov iv=operate [ov,iv] (SS ov iv)
theorem WG{prog:bp}{w:bQ}{A:cy}{E:ak->az->Prop}{s:az}{env:Env}{value slice:Expr}{pos:Pos}{T id:String}{Q:ak->az->Prop}(hl:aij (.type T) "__getitem__"=pure (some (.builtin id)))(hs:acD slice)(h:bj (model prog w) A (eval value env) (λo s₁=>bj (model prog w) A (eval slice env) (λi s₂=>s₂.TypeIs o T/\bj (model prog w) A (SS o i) Q E s₂) E s₁) E s):
  bj (model prog w) A (eval (.Subscript value slice pos) env) Q E s:=by
 refine Subscript_ (fq h (λo s₁ h₁=>fq h₁ (λi s₂ h₂=>?_) λ_ _ x=>x) λ_ _ x=>x);obtain⟨hT,h₂⟩:=h₂;unfold ajL;refine ae ?_;rw[getitemInPython_of_ne hT.not_modules];refine ae (wpAny_specialOf hT hl ?_);have fin:bj (model prog w) A (subscripted slice false o i) (λr s₃=>bj (model prog w) A (letTemporaryGo value o r >>= λ_=>pure r) Q E s₃) E s₂:=by rw[hs o i];exact wpAny_operating (fq h₂ (λr s₃ h₃=>ae (wpAny_letTemporaryGo (aJ h₃))) λ_ _ x=>x)
 first
  |exact aJ (ae fin)
  |exact ae (aJ (ae fin))
  |exact ae fin
theorem KU{X:Cx}{pins:List (af×Obj)}{σ:St}{H:Hp}{s:az}{a:af}{y:V}{o:Option V}(I:Inv X pins σ H s)(g:jL H a y o):s.TypeIs (.ref a) "dict":=by
 rcases g with⟨kvs,k,e,_,_⟩|⟨kvs,k,b,e,_,_,_⟩
 ·obtain⟨_,_,vs,_,dd⟩:=Cj I.dQ e;exact dd.typeIs
 ·obtain⟨_,_,xs,_,dd⟩:=DZ I.dQ e;exact dd.typeIs
def acE(td ty:TE):TE:=λσ H Q=>td σ H λx H1=>ty σ H1 λy H2=>∃a v,x=.ref a/\jL H2 a y (some v)/\Q v H2
def af3(ty td:TE):TE:=λσ H Q=>ty σ H λy H1=>td σ H1 λx H2=>∃a o,x=.ref a/\jL H2 a y o/\Q (.bl o.isSome) H2
def WH(ty td:TE):TE:=λσ H Q=>ty σ H λy H1=>td σ H1 λx H2=>∃a o,x=.ref a/\jL H2 a y o/\Q (.bl (!o.isSome)) H2
def acF(td ty tv:TE):TS:=λD σ H=>tv σ H λv H1=>td σ H1 λx H2=>ty σ H2 λy H3=>∃a H4,x=.ref a/\GI H3 a y v H4/\D.nx σ H4
section
variable{X:Cx}{o i e value:Expr}{pos pos' u6:Pos}{td ty tv:TE}
theorem tu(hu:X.A.units+1<mv)(ho:PE X o td)(hi:PE X i ty)(hs:acD i):PE X (.Subscript o i pos) (acE td ty):=by intro pins s σ H Q I h;refine WG PySem.F.slot_dict_getitem.lookup hs (iM (ho pins s σ H _ I h) λu s1 ⟨x,H1,I1,rx,q1⟩=>iM (hi pins s1 σ H1 _ I1 q1) λiv s2 ⟨y,H2,I2,ry,a,v,ex,g,q2⟩=>?_);subst ex;obtain rfl:u=bz a:=rx;exact⟨KU I2 g,Rk hu I2 g ry λw' s3 I3 Tx=>bt v H2 I3 Tx q2⟩
theorem TJ(hu:X.A.units+1<mv)(hi:PE X i ty)(ho:PE X o td):PC X .In i o (af3 ty td):=by intro pins s σ H Q I h;refine iM (hi pins s σ H _ I h) λiv s1 ⟨y,H1,I1,ry,q1⟩=>iM (ho pins s1 σ H1 _ I1 q1) λu s2 ⟨x,H2,I2,rx,a,ov,ex,g,q2⟩=>?_;subst ex;obtain rfl:u=bz a:=rx;exact af2 hu I2 g ry λs3 I3=>bt (.bl ov.isSome) H2 I3 rfl q2
theorem px(hu:X.A.units+1<mv)(hi:PE X i ty)(ho:PE X o td):PC X .NotIn i o (WH ty td):=by intro pins s σ H Q I h;refine iM (hi pins s σ H _ I h) λiv s1 ⟨y,H1,I1,ry,q1⟩=>iM (ho pins s1 σ H1 _ I1 q1) λu s2 ⟨x,H2,I2,rx,a,ov,ex,g,q2⟩=>?_;subst ex;obtain rfl:u=bz a:=rx;exact WE hu I2 g ry λs3 I3=>bt (.bl (!ov.isSome)) H2 I3 rfl q2
theorem DB(hu:X.A.units+1<mv)(ho:PE X o td)(hi:PE X i ty)(hv:PE X value tv)(hs:A8 value (some (.Subscript o i pos')) pos.line X.env=pure false):
  PS X (.Assign [.Subscript o i pos'] value pos) (acF td ty tv):=by
 intro pins s σ H D I h;refine wpAny_Assign_Subscript (iM (hv pins s σ H _ I h) λr s1 ⟨v,H1,I1,rv,q1⟩=>iM (ho pins s1 σ H1 _ I1 q1) λu s2 ⟨x,H2,I2,rx,q2⟩=>iM (hi pins s2 σ H2 _ I2 q2) λiv s3 ⟨y,H3,I3,ry,a,H4,ex,g,q3⟩=>?_) hs;subst ex;obtain rfl:u=bz a:=rx;exact Rn hu I3 g ry rv λs4 I4=>fu σ H4 I4 q3
end
theorem TK{P:bp}{w:bQ}{H:Hp}(h:cB)(hb:gn<h.objs.size):fF P w H (h.push {cls:=.type "dict",data:=.dict #[]}) h.objs.size (.dK []):=⟨bE _,beq_eq_false_iff_ne.mpr (nj (bV hb)),bq ([]) .nil (Heap.DictOf.new h)⟩
theorem TM{P:bp}{w:bQ}{H:Hp}(h:cB)(hb:gn<h.objs.size):fF P w H (h.push {cls:=.type "dict",data:=.dict #[]}) h.objs.size (.dT []):=⟨bE _,beq_eq_false_iff_ne.mpr (nj (bV hb)),bq ([]) .nil (iD _ (#[]) 0 (aU _ rfl) ⟨rfl,rfl,rfl⟩ rfl rfl List.nodup_nil)⟩
def Zj:TE:=λ_ H Q=>∀p,H p=none->Q (.ref p) (upd H p (.dK []))
def Zk:TE:=λ_ H Q=>∀p,H p=none->Q (.ref p) (upd H p (.dT []))
section
variable{X:Cx}{pos:Pos}
theorem D0:PE X (.Dict [] [] pos) Zj:=λpins s σ H Q I h=>am1 (bt (.ref s.heap.objs.size) _ (I.laid (a:=s.heap.objs.size) (o:=.dK []) (t':=s.toks) (λ_ _ q=>aj _ q) (aK _) (TK s.heap I.big)) rfl (h _ (I.dQ.fresh (aK _))))
theorem TN:PE X (.Dict [] [] pos) Zk:=λpins s σ H Q I h=>am1 (bt (.ref s.heap.objs.size) _ (I.laid (a:=s.heap.objs.size) (o:=.dT []) (t':=s.toks) (λ_ _ q=>aj _ q) (aK _) (TM s.heap I.big)) rfl (h _ (I.dQ.fresh (aK _))))
end
structure M1(X:Cx)(o:Expr)(m:Str)(apos:Pos)(e:Expr)(mB:Pos):Prop where
 base:gf o m X.env (eval o X.env)=eval o X.env
 few:((fO mB (bO [e] X.env)).all (λx=>!x.1)&&(iX mB (eY [] X.env)).all (λx=>x.1.isSome)&&decide (([e]:List Expr).length+([]:List Ce).length+(if([]:List Ce).isEmpty then 0 else 1)<30))=true
 line:(apos.endLine==mB.line)=true
 trees:fO mB (bO [e] X.env)=[(false,eval e X.env)]
def IsD(H:Hp)(a:af):Prop:=(∃kvs,Rd H a (.dK kvs))∨∃kvs,Rd H a (.dT kvs)
theorem Zl{X:Cx}{pins:List (af×Obj)}{σ:St}{H:Hp}{s:az}{a:af}(I:Inv X pins σ H s)(d:IsD H a):
  s.TypeIs (.ref a) "dict"/\(∀b,bz a=.ref b->∃ob,s.heap.get? b=some ob/\ob.dict=none)/\(a==gn)=false:=by
 rcases d with⟨kvs,e⟩|⟨kvs,e⟩
 ·obtain⟨_,hd,vs,_,dd⟩:=Cj I.dQ e;refine⟨dd.typeIs,λb q=>?_,hd⟩;cases q;refine jT ?_ dd;rintro ob _ _ h1 h2 _;exact bq ob h1 h2.2.1
 ·obtain⟨_,hd,xs,_,dd⟩:=DZ I.dQ e;refine⟨dd.typeIs,λb q=>?_,hd⟩;cases q;refine jT ?_ dd;rintro ob _ _ h1 h2 _;exact bq ob h1 h2.2.1
section
variable{X:Cx}{pins:List (af×Obj)}{σ:St}{H:Hp}{s:az}{a:af}{y d:V}{u r:ak}{o:Option V}{A:cy}{E:ak->az->Prop}
theorem Zm{Q:ak->az->Prop}(hu:A.units+1<mv)(I:Inv X pins σ H s)(g:jL H a y o)(ry:RelV y u)(h:∀w' s',Inv X pins σ H s'->RelV (o.getD .h9) w'->Q w' s'):
  bj (model X.prog X.w) A (call (.builtin "dict.get") [.ref a,u]) Q E s:=by
 rcases g with⟨kvs,k,e,ey,l⟩|⟨kvs,k,b,e,ey,eb,l⟩
 ·subst ey;obtain⟨z,hd,vs,rel,dd⟩:=Cj I.dQ e;refine call_meetsIn zV dd.typeIs So (QL _ _) (meets_dict_get (gq X.prog X.w) a (DY ry) hd) (ag dd.mapOf (h _ _ (I.tok _) ?_));rw[l];exact(rel.val k).getD rfl
 ·subst ey;cases(show u=bz b from ry);obtain⟨z,hd,xs,rel,dd⟩:=DZ I.dQ e;refine call_meetsIn zV dd.typeIs So (QL _ _) (meetsH_dict_get (Gs (gq X.prog X.w)) a b hd) ⟨oQ hu,bt k xs (Bx I.dQ eb) dd (h _ _ (I.tok _) ?_)⟩;rw[l];exact(rel.val k).getD rfl
end
def Zn(td ty:TE):TE:=λσ H Q=>td σ H λx H1=>∃a,x=.ref a/\IsD H1 a/\ty σ H1 λy H2=>∃o,jL H2 a y o/\Q (o.getD .h9) H2
section
variable{X:Cx}{o e f:Expr}{apos mB:Pos}{td ty tx:TE}
theorem TQ(hu:X.A.units+1<mv)(ho:PE X o td)(he:PE X e ty)(m:M1 X o "get" apos e mB):PE X (.Call (.Attribute o "get" apos) [e] [] mB) (Zn td ty):=by intro pins s σ H Q I h;refine M0 m.base m.few m.line PySem.F.plainAttrs_dict zV PySem.F.type_dict_get (iM (ho pins s σ H _ I h) λu s1 ⟨x,H1,I1,rx,a,ex,d,q1⟩=>?_);subst ex;obtain rfl:u=bz a:=rx;obtain⟨t1,t2,_⟩:=Zl I1 d;refine⟨t1,t2,?_⟩;rw[m.trees];refine B6 rfl (FT (Kf (iM (he pins s1 σ H1 _ I1 q1) λiv s2 ⟨y,H2,I2,ry,ov,g,q2⟩=>MZ ?_)));exact Zm hu I2 g ry λw' s3 I3 Tx=>bt _ H2 I3 Tx q2
end
section
variable{X:Cx}{pins:List (af×Obj)}{σ:St}{H:Hp}{s:az}{h':cB}
theorem Inv.PN{t':Nat}{ch:List af}(I:Inv X pins σ H s)(k:∀b o,b∉ch->s.heap.get? b=some o->h'.get? b=some o)(hf:∀b∈ch,Bo X pins H b):Inv X pins σ H {s with heap:=h',toks:=t'}:=by
 have XR:∀b u,H b=some u->b∉ch:=λb u e z=>by
  have q:=(hf b z).1;rw[q] at e;cases e
 refine I.step (g':=s.gens) (d':=s.drawn) (ch:=ch) (λb hb=>⟨(hf b hb).2.2.2.1,(hf b hb).2.1,(hf b hb).2.2.2.2.1,(hf b hb).2.2.2.2.2⟩) (λb o _ _ hc e _=>k b o hc e) (λb o _ _ hc e _=>⟨o.slots,k b o hc e⟩)
  (λ_ _ _ _ n=>n) (λb o hc e=>⟨o,k b o hc e⟩) (λ_ _ e=>e) (λ_ _ _ e=>e) (λb ps e=>⟨#[],by rw[e];simp⟩) (λm hm=>?_) (λb u e=>?_) I.bare
 ·refine zZ ?_ hm;rintro o es ep ⟨ho,r⟩;exact vo o es ep ⟨k _ o (λz=>(hf _ z).2.1 rfl) ho,r⟩
 ·refine(I.dQ b u e).Gy (λc v hc q=>k c v ?_ q) (λ_ q=>q) λ_ _ q=>q;rcases hc with z|z
  ·rw[z];exact XR b u e
  ·exact XR c _ z
theorem Inv.xk{t':Nat}{ch:List af}{T:af}{ob:HO}(I:Inv X pins σ H s)(k:∀b o,b∉ch->s.heap.get? b=some o->h'.get? b=some o)(hf:∀b∈ch,Bo X pins H b)(hT:s.heap.objs.size<=T)(new:fF X.prog X.w (upd H T ob) h' T ob):Inv X pins σ (upd H T ob) {s with heap:=h',toks:=t'}:=by
 have hn:H T=none:=I.dQ.fresh hT;have XR:∀b u,H b=some u->b∉ch:=λb u e z=>by
  have q:=(hf b z).1;rw[q] at e;cases e
 refine I.step (g':=s.gens) (d':=s.drawn) (ch:=ch) (λb hb=>⟨(hf b hb).2.2.2.1,(hf b hb).2.1,(hf b hb).2.2.2.2.1,(hf b hb).2.2.2.2.2⟩) (λb o _ _ hc e _=>k b o hc e) (λb o _ _ hc e _=>⟨o.slots,k b o hc e⟩)
  (λb o _ e n=>?_) (λb o hc e=>⟨o,k b o hc e⟩) (λb xs e=>?_) (λb o u e=>?_) (λb ps e=>⟨#[],?_⟩) (λm hm=>?_) (λb u e=>?_) I.bare
 ·rw[ay (bV (bM (bg e) hT))];exact n
 ·rw[ay (aR e hn)];exact e
 ·rw[ay (aR e hn)];exact e
 ·rw[ay (aR e hn),e];simp
 ·refine zZ ?_ hm;rintro o es ep ⟨ho,r⟩;exact vo o es ep ⟨k _ o (λz=>(hf _ z).2.1 rfl) ho,r⟩
 ·by_cases hb:b=T
  ·subst hb;rw[ai] at e;cases e;exact new
  ·rw[ay hb] at e;refine(I.dQ b u e).Gy (λc v hc q=>k c v ?_ q) (λc q=>by rw[ay (aR q hn)];exact q) λc xs q=>by rw[ay (aR q hn)];exact q
   rcases hc with z|z
   ·rw[z];exact XR b u e
   ·exact XR c _ z
theorem Inv.lock{d:af}{u:HO}(I:Inv X pins σ H s)(h:H d=some u)(mu:YO (some u)):∃od,Inv X pins σ (upd H d (.vp od u)) s:=by
 have x:=I.dQ d u h;have ex:∃od,s.heap.get? d=some od:=by
  cases u with
  |lst xs=>obtain⟨_,_,_,_,e⟩:=x;exact⟨_,e⟩
  |dK kvs=>obtain⟨_,_,_,_,o,_,_,e,_⟩:=x;exact⟨o,e⟩
  |dT kvs=>obtain⟨_,_,_,_,o,_,_,e,_⟩:=x;exact⟨o,e⟩
  |set S n=>refine xE ?_ x;rintro o _ _ _ ⟨e,_⟩;exact⟨o,e⟩
  |ins C dx fs=>obtain⟨_,_,_,e,_⟩:=x;exact⟨_,e⟩
  |ext φ=>obtain⟨_,⟨_,e⟩,_⟩:=x;exact⟨_,e⟩
  |_=>exact dP mu
 obtain⟨od,e⟩:=ex;have new:fF X.prog X.w (upd H d (.vp od u)) s.heap d (.vp od u):=by
  refine⟨e,x.Gy (λb v _ q=>q) (λb q=>?_) λb xs q=>?_⟩
  ·rw[ay (λz=>by rw[z,h] at q;cases q;exact mu)];exact q
  ·rw[ay (λz=>by rw[z,h] at q;cases q;exact mu)];exact q
 exact⟨od,I.write (x:=d) (e:=d) (t':=s.toks) (h':=s.heap) (by rw[h];exact mu) (.inl rfl) (λb v _ q=>q) ⟨od,e⟩ new⟩
end
section
variable{X:Cx}
theorem NK{tg:Expr}{pins:List (af×Obj)}{σ:St}{H:Hp}{s:az}{R:It->Hp->Prop}{J:It}{tn:Nat->cB->Prop}{tk:Nat}(I:Inv X pins σ H s)(o:Obj)(T:Turn X.prog X.w X.K tg J [s.heap.objs.size] s.heap.objs.size tn)(st:tn 0 (s.heap.push o))(q:R J H):PIE X pins σ tg R (.ref s.heap.objs.size) {s with heap:=s.heap.push o,toks:=tk}:=by
 refine o6 s.heap.objs.size ([s.heap.objs.size]) tn J H ⟨rfl,I.kept λb ob e=>aj _ e,T,st,λb hb=>?_,q⟩;have e:b=s.heap.objs.size:=by simpa using hb
 subst e;exact I.IE (aK _) (I.dQ.fresh (aK _))
end
def Its(x:Str):It:=⟨λi _=>i<x.cps.size,λi H v H'=>H'=H/\∃c,x.cps[i]? =some c/\v=.str ⟨#[c]⟩,λi _=>x.cps.size<=i⟩
theorem KW{P:bp}{w:bQ}{K:ah}{tg:Expr}(it:af)(x:Str)(t:Tok)(ty:String)(hty:ty="str_ascii_iterator"∨ty="str_iterator"):
  Turn P w K tg (Its x) [it] it (λi h=>h.IsStrIter it ty x t i) where
 mem:=by simp
 obj:=λi h st b hb=>by
  have e:b=it:=by simpa using hb
  subst e;refine cH ?_ st;rintro o e c d;exact bq o e (λv z=>by rw[d] at z;cases z)
 keep:=λi h h' st k=>let⟨o,ho,r⟩:=st;(bq o (k it (by simp) o ho) r)
 item:=by
  intro X hP hw hK hc i pins s σ H E I hf st hg;subst hP hw hK;obtain⟨f0,f1,f2,f3,f4,f5⟩:=hf it (by simp);have W:Walks X.prog X.w X.A it [it] [it] x.cps.size (SignAt x) (λi h=>h.IsStrIter it ty x t i):=by
   rcases hty with e|e
   ·rw[e];exact Walks.strAscii (I.ok.hd hc) it x t
   ·rw[e];exact Walks.strWide (I.ok.hd hc) it x t
  have hno:["enumerate","zip","dict_itemiterator","dict_reverseitemiterator","odict_iterator","itertools.zip_longest","itertools.pairwise"].contains ty=false:=by
   rcases hty with e|e
   ·rw[e];decide
   ·rw[e];decide
  refine W.item i s _ _ hg st λv h' tk hv Tf kk=>?_;refine jk ?_ hv;clear hv;rintro c u hcx rfl;have I1:Inv X pins σ H {s with heap:=h',toks:=tk}:=I.turned (λb o hb e=>kk b o (by simpa using hb) e) f0 f1 f3 f4 f5;refine cH ?_ (id Tf);rintro oi e cc dd;exact ag rfl (Pz (s:={s with heap:=h',toks:=tk}) e cc dd hno (dH (.str ⟨#[c]⟩) H I1 ⟨u,rfl⟩ ⟨rfl,bq c hcx rfl⟩ ⟨Tf,λb hb=>(hf b hb).1⟩))
 done:=by
  intro X hP hw hK hc i pins s σ H E I hf st hg;subst hP hw hK;obtain⟨f0,f1,f2,f3,f4,f5⟩:=hf it (by simp);have hx:x.cps[i]? =none:=yc hg;rcases hty with e|e
  ·rw[e] at st;exact wpAny_pyNext_ascii_end (I.ok.hd hc) st hx λh' eb=>⟨rfl,I.turned (t':=s.toks) (λb o hb e=>eb b o hb e) f0 f1 f3 f4 f5⟩
  ·rw[e] at st;exact wpAny_pyNext_wide_end (I.ok.hd hc) st hx λh' eb=>⟨rfl,I.turned (t':=s.toks) (λb o hb e=>eb b o hb e) f0 f1 f3 f4 f5⟩
 self:=λA i s Q E st h=>by
  rcases hty with e|e
  ·rw[e] at st;exact wpAny_pyIter_striter_ascii st h
  ·rw[e] at st;exact wpAny_pyIter_striter_wide st h
def af4(te:TE):TI:=λσ H R=>te σ H λv H1=>∃x,v=.str x/\R (Its x) H1
theorem NL{X:Cx}{tg e:Expr}{te:TE}(he:PE X e te):PI X tg e (af4 te):=by
 intro pins s σ H R I h;refine iM (he pins s σ H _ I h) λv s1 ⟨y,H1,I1,r1,x,ex,q⟩=>?_;subst ex;obtain⟨t,rfl⟩:=r1;cases ha:x.cps.all (· <128)
 ·exact wpAny_pyIter_wide ha (NK (tk:=s1.toks) I1 _ (KW _ x t "str_iterator" (.inr rfl)) (bP _ (aU _ rfl) rfl rfl) q)
 ·exact wpAny_pyIter_ascii ha (NK (tk:=s1.toks) I1 _ (KW _ x t "str_ascii_iterator" (.inl rfl)) (bP _ (aU _ rfl) rfl rfl) q)
section
variable{prog:bp}{w:bQ}{A:cy}{E:ak->az->Prop}{s:az}
theorem Ro{d:af}{o:Obj}{es:Array hJ}{ep:Nat}{Q:ak->az->Prop}(hd:(d==gn)=false)(ho:s.heap.get? d=some o)(hc:o.ExactDict)(TR:o.data=.dict es ep)(hQ:Q (.ref s.heap.objs.size) {s with heap:=s.heap.push {cls:=.type "dict_keyiterator",data:=.fields #[.ref d,.int 0 0,.int es.size 0,.int ep 0]}}):
  bj (model prog w) A (Pr (.ref d)) Q E s:=by
 have hT:s.TypeIs (.ref d) "dict":=bq o ho hc.1;refine ajO hT am2 (fD am2 hT F.entry_dict_iter ?_ (F.args_dict_iter_1 _));unfold Builtin.«dict.__iter__»;refine ae ?_;unfold Builtin.Dict.dictSlotNone;refine ae (abL hT ?_);show bj _ _ (pure (bz d)) _ _ s;refine aJ ?_;show bj _ _ (rn d >>= _) _ _ s;unfold rn;rw[if_neg (by rw[hd];exact aZ)];refine ae (aJ ?_);refine ae (mq ho TR ?_);refine ae (oH ho TR ?_);refine ae (iJ (aJ (ag rfl (bt ("dict_keyiterator") _ (ag (aU _ rfl) rfl) iO.lookup ?_))));simpa[eW] using hQ
theorem GJ{it d:af}{i n ep:Nat}{od:Obj}{es:Array hJ}{en:hJ}{Q:Option ak->az->Prop}(hit:s.heap.IsKeyIter it d i n ep)(Gh:s.heap.get? d=some od)(TU:od.data=.dict es ep)(hsz:es.size=n)(hx:es[i]? =some en)(hQ:∀h',h'.IsKeyIter it d (i+1) n ep->eM it s.heap h'->Q (some en.key) {s with heap:=h'}):bj (model prog w) A (jH (.ref it)) Q E s:=by
 refine cH ?_ (id hit);rintro o ho hc hd;unfold jH;refine ae (lS (ff (name:=aS "__next__") hit.typeIs iO (fD iO hit.typeIs QK ?_ (Pd _))));refine ae (aJ ?_);refine ae ?_;refine ae ?_;first|refine ae (kS hit.typeIs (aJ ?_))|refine ae (oz hit.typeIs (aJ ?_))
 refine ae (FV ho hd ?_);have IV:iP "dict_keyiterator"=false:=by decide
 simp only[IV,sY,if_false];show bj _ _ (if(bz d==gN)=true then _ else _) _ _ s;rw[if_neg (show¬((bz d==gN)=true) from aZ)];refine ae (aJ ?_);refine ae (mq Gh TU ?_);rw[if_neg (by rw[hsz];simp)];refine ae (aJ ?_);refine ae (oH Gh TU ?_);rw[if_neg (by simp)];refine aJ ?_;obtain⟨TV,hen⟩:=MY.mp hx;simp only[show¬((i:Int)<0) from by omega,if_false,oB,Nj TV];refine ae ?_;first|refine ae (kS hit.typeIs (aJ ?_))|refine ae (oz hit.typeIs (aJ ?_))
 refine ae (abM hit.typeIs ?_);show bj _ _ (M5 (.ref it) 1 (eW ((i:Int)+1)) >>= _) _ _ s;refine ae (VL ho hd (by simp) ?_);have Rp:(s.heap.update it (Obj.mapFields (·.setIfInBounds 1 (eW ((i:Int)+1))))).IsKeyIter it d (i+1) n ep:=(bP _ (abN _ ho (Obj.isFreed_of_fields (aid hd _))) ((Obj.cls_mapFields ..).trans hc) (by rw[aid hd];simp[eW]));refine ae (gG ?_);refine ae (abM (s:={s with heap:=s.heap.update it (Obj.mapFields (·.setIfInBounds 1 (eW ((i:Int)+1))))}) Rp.typeIs ?_);show bj _ _ (pure es[i].key) _ _ _;rw[hen];exact aJ (aJ (ag rfl (aJ (hQ _ Rp (uW ..)))))
theorem IW{it d:af}{i n ep:Nat}{od:Obj}{es:Array hJ}{Q:Option ak->az->Prop}(hh:A.handled=none)(hit:s.heap.IsKeyIter it d i n ep)(Gh:s.heap.get? d=some od)(TU:od.data=.dict es ep)(hsz:es.size=n)(hge:n<=i)(hQ:∀h',aer it s.heap h'->Q none {s with heap:=h'}):bj (model prog w) A (jH (.ref it)) Q E s:=by
 refine cH ?_ (id hit);rintro o ho hc hd;unfold jH;refine ae (lS (ff (name:=aS "__next__") hit.typeIs iO (fD iO hit.typeIs QK ?_ (Pd _))));refine ae (aJ ?_);refine ae ?_;refine ae ?_;first|refine ae (kS hit.typeIs (aJ ?_))|refine ae (oz hit.typeIs (aJ ?_))
 refine ae (FV ho hd ?_);have IV:iP "dict_keyiterator"=false:=by decide
 simp only[IV,sY,if_false];show bj _ _ (if(bz d==gN)=true then _ else _) _ _ s;rw[if_neg (show¬((bz d==gN)=true) from aZ)];refine ae (aJ ?_);refine ae (mq Gh TU ?_);rw[if_neg (by rw[hsz];simp)];refine ae (aJ ?_);refine ae (oH Gh TU ?_);rw[if_neg (by simp)];refine aJ ?_;have af5:es.size<=i:=by rw[hsz];exact hge
 simp only[show¬((i:Int)<0) from by omega,if_false,oB,yc af5];refine ae ?_;first|refine ae (kS hit.typeIs (aJ ?_))|refine ae (oz hit.typeIs (aJ ?_))
 show bj _ _ (M5 (.ref it) 0 .none >>= _) _ _ s;refine ae (VL ho hd (by simp) ?_);show bj _ _ (newExc (.type "StopIteration") [] >>= _) _ _ _;refine ae ?_;simp only[newExc,newTuple];refine ae (iJ ?_ (by size_fits));refine ae (m:=FW _ _) (QR (a:=gN) (by first|rfl|(simp only[FW];rfl)) ?_);refine iJ ?_ (by size_fits);simp only[raiseNew];refine ae (wpAny_handled ?_);rw[show A.in1.handled=none from hh];refine ae (aJ (wpAny_throw ?_));refine ae (A3 (T:="StopIteration") (b:=true) (ag (aU _ rfl) rfl) FX ?_);exact aJ (hQ _ (((uW ..).extBut.push _).push _))
end
theorem NM{α β:Type}{G:α->β->Prop}{l₁:List α}{l₂:List β}(h:dn G l₁ l₂):∀{i:Nat}{a:α},l₁[i]? =some a->∃b,l₂[i]? =some b/\G a b:=by
 induction h with
 |nil=>intro i a e;simp at e
 |@cons a b l₁ l₂ r t ih=>
  intro i a' e
  cases i with
  |zero=>simp only[List.getElem?_cons_zero,Option.some.injEq] at e;subst e;exact bq b rfl r
  |succ j=>simp only[List.getElem?_cons_succ] at e⊢;exact ih e
theorem PQ{o:Obj}{es XO:Array hJ}{ep XQ:Nat}(h:o.data=.dict es ep)(h':o.data=.dict XO XQ):XO=es/\XQ=ep:=by
 rw[h] at h';cases h';exact⟨rfl,rfl⟩
theorem HG:di "zip"=some (.type "zip"):=by decide+kernel
def Itz(K:ah)(a b:af):It:=⟨λi H=>∃(xs ys:List V)(x y:V),bG K H a xs/\bG K H b ys/\xs[i]? =some x/\ys[i]? =some y,λi H v H'=>∃T x y,v=.ref T/\H T=none/\H'=upd H T (.tup [x,y])/\(∀xs,bG K H a xs->xs[i]? =some x)/\∀ys,bG K H b ys->ys[i]? =some y,λi H=>∃xs ys:List V,bG K H a xs/\bG K H b ys/\(xs.length<=i∨ys.length<=i)⟩
theorem TX{P:bp}{w:bQ}{K:ah}{elts:List Expr}{kk:Nat}{u6:Pos}{a b z TI TO i1 i2:af}(D:ZipApart z TI TO i1 i2 a b):
  Turn P w K (.Tuple elts kk u6) (Itz K a b) [z,TI,TO,i1,i2] z (λi h=>yP h z TI TO .none/\IsPair h TI (.ref i1) (.ref i2)/\(∃x y,IsPair h TO x y)/\h.IsListIter i1 a i/\h.IsListIter i2 b i) where
 mem:=by simp
 obj:=λi h st c hc=>by
  obtain⟨hz,zX,⟨x,y,D5⟩,⟨o1,e1,_,d1⟩,⟨o2,e2,_,d2⟩⟩:=st;have e':c=z∨c=TI∨c=TO∨c=i1∨c=i2:=by simpa using hc
  rcases e' with q|q|q|q|q
  ·rw[q];exact ag hz (λv q=>nomatch q)
  ·rw[q];exact ag zX (λv q=>nomatch q)
  ·rw[q];exact ag D5 (λv q=>nomatch q)
  ·rw[q];exact bq o1 e1 (λv q=>by rw[d1] at q;cases q)
  ·rw[q];exact bq o2 e2 (λv q=>by rw[d2] at q;cases q)
 keep:=λi h h' st k=>by obtain⟨hz,zX,⟨x,y,D5⟩,h1,h2⟩:=st;exact⟨k z (by simp) _ hz,k TI (by simp) _ zX,qr x y (k TO (by simp) _ D5),h1.at λo q=>k i1 (by simp) o q,h2.at λo q=>k i2 (by simp) o q⟩
 item:=by
  intro X hP hw hK hc i pins s σ H E I hf st hg;subst hP hw hK;obtain⟨hz,zX,⟨x0,y0,D5⟩,h1,h2⟩:=st;refine ip ?_ hg;rintro xs ys x y NO TY hx hy;refine cH ?_ (I.list NO);rintro its rv p _;refine cH ?_ (I.list TY);rintro qu NP p2 _;obtain⟨u,hu,ru⟩:=rv.get hx;obtain⟨u2,hu2,ru2⟩:=NP.get hy;have PU:z<s.heap.objs.size:=bg hz;refine wpAny_pyNext_zip_item D hz zX D5 h1 h2 p.isList p2.isList (x:=u) (y:=u2) (by simpa using hu) (by simpa using hu2) λh' z' TO' h1' h2' hT hsz hk=>?_;refine ag rfl (Wa (s:={s with heap:=h'}) z' λNd z'' sb=>?_);have WI:Nd.get? s.heap.objs.size=some {cls:=.type "tuple",data:=.seq #[u,u2]}:=(sb.2 _ (dD PU)).trans hT;have new:fF X.prog X.w (upd H s.heap.objs.size (.tup [x,y])) Nd s.heap.objs.size (.tup [x,y]):=⟨by show 2<=aA;decide,bq ([u,u2]) (.cons ru (.cons ru2 .nil)) (bP _ WI rfl ⟨_,rfl⟩)⟩;have I1:Inv X pins σ (upd H s.heap.objs.size (.tup [x,y])) {s with heap:=Nd}:=I.xk (t':=s.toks) (ch:=[z,TI,TO,i1,i2]) (λc o hb q=>(sb.2 c (λq'=>hb (by simp[q']))).trans (hk c o (λq'=>hb (by simp[q'])) (λq'=>hb (by simp[q'])) (λq'=>hb (by simp[q'])) (λq'=>hb (by simp[q'])) q)) hf (aK _) new;refine dH (.ref s.heap.objs.size) _ I1 rfl (iD _ x y rfl (I.dQ.fresh (aK _)) rfl (λl hl=>by rw[I.pM hl NO];exact hx) (λl hl=>by rw[I.pM hl TY];exact hy)) ⟨⟨z'',?_,qr u u2 ?_,?_,?_⟩,λc X0=>?_⟩
  ·exact(sb.2 _ D.TIz).trans (hk _ _ D.TIz D.TITO D.TIi1 D.TIi2 zX)
  ·exact(sb.2 _ D.TOz).trans TO'
  ·exact h1'.at λo q=>(sb.2 _ D.i1z).trans q
  ·exact h2'.at λo q=>(sb.2 _ D.i2z).trans q
  ·have oR:c<s.heap.objs.size:=by
    have e':c=z∨c=TI∨c=TO∨c=i1∨c=i2:=by simpa using X0
    rcases e' with q|q|q|q|q
    ·rw[q];exact PU
    ·rw[q];exact bg zX
    ·rw[q];exact bg D5
    ·rw[q];obtain⟨_,e1,_⟩:=h1;exact bg e1
    ·rw[q];obtain⟨_,e2,_⟩:=h2;exact bg e2
   rw[ay (bV oR)];exact(hf c X0).1
 done:=by
  intro X hP hw hK hc i pins s σ H E I hf st hg;subst hP hw hK;obtain⟨hz,zX,⟨x0,y0,D5⟩,h1,h2⟩:=st;refine j7 ?_ hg;rintro xs ys NO TY acM;refine cH ?_ (I.list NO);rintro its rv p _;refine cH ?_ (I.list TY);rintro qu NP p2 _;have l1:=rv.length;have l2:=NP.length;have he:its.toArray[i]? =none∨qu.toArray[i]? =none:=by
   rcases acM with q|q
   ·exact .inl (by simp;omega)
   ·exact .inr (by simp;omega)
  exact wpAny_pyNext_zip_end (I.ok.hd hc) D hz zX D5 h1 h2 p.isList p2.isList he λh' hk=>⟨rfl,I.PN (t':=s.toks) (ch:=[z,TI,TO,i1,i2]) (λc o hb q=>hk c o (λq'=>hb (by simp[q'])) (λq'=>hb (by simp[q'])) (λq'=>hb (by simp[q'])) (λq'=>hb (by simp[q'])) q) hf⟩
 self:=λA i s Q E st h=>A4 st.1 h
def aga(K:ah)(ta:TA):TI:=λσ H R=>ta σ H λvs H1=>∃a b xs ys,vs=[.ref a,.ref b]/\bG K H1 a xs/\bG K H1 b ys/\R (Itz K a b) H1
theorem By{X:Cx}{e e2:Expr}{ta:TA}{p pos u6:Pos}{elts:List Expr}{kk:Nat}(hg:Gl X "zip")(hm:X.mg "zip"=none)(ha:PA X [e,e2] ta)(hs:bO [e,e2] X.env=(false,eval e X.env)::bO [e2] X.env:=by rfl)(xH:(fO pos (bO [e2] X.env)).any (·.1)=false:=by rfl):
  PI X (.Tuple elts kk u6) (.Call (.Name "zip" p) [e,e2] [] pos) (aga X.K ta):=by
 intro pins s σ H R I h;refine Call_ (vq I hg hm HG (iG (iM (ha pos pins s σ H _ I h) λus s1 ⟨vs,H1,I1,r1,q1⟩=>?_) hs xH));refine ip ?_ q1;rintro a b xs ys ex NO TY q;subst ex
 cases r1 with
 |cons r rr=>
  cases rr with
  |cons r' rr=>
   cases rr;cases r;cases r';refine cH ?_ (I1.list NO);rintro its rv p1 _;refine cH ?_ (I1.list TY);rintro qu NP p2 _;have la:a<s1.heap.objs.size:=p1.lt;have lb:b<s1.heap.objs.size:=p2.lt;refine call_zip_2 p1.isList p2.isList λh' hz zX D5 h1 h2 hsz hk=>A4 hz ?_;have I2:Inv X pins σ H1 {s1 with heap:=h'}:=I1.kept (t':=s1.toks) hk;refine o6 (s1.heap.objs.size+4) ([s1.heap.objs.size+4,s1.heap.objs.size+2,s1.heap.objs.size+3,s1.heap.objs.size,s1.heap.objs.size+1]) _ _ H1 ⟨rfl,I2,TX (PySem.W.ktu_apart s1.heap.objs.size a b la lb),⟨hz,zX,qr _ _ D5,h1,h2⟩,λc X0=>?_,q⟩;have e':c=s1.heap.objs.size+4∨c=s1.heap.objs.size+2∨c=s1.heap.objs.size+3∨c=s1.heap.objs.size∨c=s1.heap.objs.size+1:=by simpa using X0
   have hle:s1.heap.objs.size<=c:=by
    rcases e' with z|z|z|z|z
    ·rw[z];exact pw _ _
    ·rw[z];exact pw _ _
    ·rw[z];exact pw _ _
    ·rw[z];exact aK _
    ·rw[z];exact pw _ _
   exact I1.IE hle (I1.dQ.fresh hle)
end L2
section
namespace agb
open PySem PyProof.Rows
end agb
end
section
namespace TL
open PySem PySem.Builtin PySem.Builtin.Str PySem.StrLaws
abbrev tl(x:Str):List Nat:=x.cps.toList
theorem yU(x:Str):x.length=(tl x).length:=by simp[tl,Str.length]
theorem vG{x y:Str}(h:tl x=tl y):x=y:=Str.ext' (Array.toList_inj.mp h)
theorem Bz(x y:Str):tl (x++y)=tl x++tl y:=by show(x++y).cps.toList=_;rw[Str.cps_append,Array.toList_append]
theorem acN(x:Str):(⟨(tl x).toArray⟩:Str)=x:=vG rfl
theorem KY(s:String):tl (aS s)=s.toList.map ana:=PyProof.Rows.signs_ofString s
def pre(S l:List Nat):Bool:=l.take S.length==S
def CY(S:List Nat):Nat->List Nat->List Nat->List (List Nat)
 |_,acc,[]=>[acc]
 |0,acc,c::r=>if pre S (c::r)=true then acc::CY S (S.length-1) [] r else CY S 0 (acc++[c]) r
 |k+1,acc,_::r=>CY S k acc r
theorem DC(S:List Nat)(k:Nat)(acc:List Nat):CY S k acc []=[acc]:=by cases k<;>rfl
theorem PV{S acc r:List Nat}{c:Nat}(h:pre S (c::r)=true):CY S 0 acc (c::r)=acc::CY S (S.length-1) [] r:=by show(if pre S (c::r)=true then acc::CY S (S.length-1) [] r else CY S 0 (acc++[c]) r)=_;rw[if_pos h]
theorem KZ{S acc r:List Nat}{c:Nat}(h:pre S (c::r)=false):CY S 0 acc (c::r)=CY S 0 (acc++[c]) r:=by show(if pre S (c::r)=true then acc::CY S (S.length-1) [] r else CY S 0 (acc++[c]) r)=_;rw[if_neg (by rw[h];exact aZ)]
theorem K0(S:List Nat):∀(k:Nat)(acc l:List Nat),CY S k acc l=CY S 0 acc (l.drop k)
 |0,_,_=>by rw[M6]
 |k+1,acc,[]=>by rw[List.drop_nil,DC,DC]
 |k+1,acc,c::r=>by show CY S k acc r=CY S 0 acc (r.drop k);exact K0 S k acc r
theorem WJ{S:List Nat}(hS:S≠[]):pre S []=false:=by
 cases S with
 |nil=>exact absurd rfl hS
 |cons s S=>rfl
theorem Ab{L:List Nat}{a:Nat}(h:a<L.length):∃c,L.drop a=c::L.drop (a+1):=⟨L[a],dJ h⟩
theorem IX(S L:List Nat):∀(m a:Nat)(acc:List Nat),a+m<=L.length->(∀k,a<=k->k<a+m->pre S (L.drop k)=false)->
  CY S 0 acc (L.drop a)=CY S 0 (acc++(L.drop a).take m) (L.drop (a+m))
 |0,a,acc,_,_=>by rw[List.take_zero,dM,Nat.add_zero]
 |m+1,a,acc,h,hn=>by
  have oR:a<L.length:=by omega
  obtain⟨c,e⟩:=Ab oR;have h0:=hn a (aK _) (by omega);have ih:=IX S L m (a+1) (acc++[c]) (by omega) (λk h1 h2=>hn k (by omega) (by omega));have e2:a+1+m=a+(m+1):=by omega
  rw[e2] at ih;rw[e] at h0;rw[e,KZ h0,ih,List.take_succ_cons,dw]<;>rfl
theorem TZ(L:List Nat)(a b:Nat):(L.drop a).drop b=L.drop (a+b):=by
 first
  |rw[oE]
  |rw[oE,Nat.add_comm]
theorem Zo{S L:List Nat}(hS:S≠[]){c:Nat}{acc:List Nat}(h:pre S (L.drop c)=true):CY S 0 acc (L.drop c)=acc::CY S 0 [] (L.drop (c+S.length)):=by
 rw[<-TZ]
 cases e:L.drop c with
 |nil=>rw[e,WJ hS] at h;cases h
 |cons d r=>
  rw[e] at h;rw[PV h,K0]
  cases S with
  |nil=>exact absurd rfl hS
  |cons s S=>rfl
theorem T2{x y:Str}(hy:tl y≠[])(i:Nat):At x y x.length i↔pre (tl y) ((tl x).drop i)=true:=by
 have hx:=yU x;have hl:=yU y;constructor
 ·intro h;have h2:=h.2;rw[subAt_eq,hl] at h2;exact h2
 ·intro h;have e:((tl x).drop i).take (tl y).length=tl y:=eq_of_beq h;have e1:=congrArg Bf e;rw[cQ,fh] at e1;have e2:0<(tl y).length:=Ca.mpr hy;refine⟨by omega,?_⟩;rw[subAt_eq,hl];exact h
theorem X2{x y:Str}(hy:tl y≠[]){i:Nat}(h:¬At x y x.length i):pre (tl y) ((tl x).drop i)=false:=by
 cases hp:pre (tl y) ((tl x).drop i) with
 |false=>rfl
 |true=>exact absurd ((T2 hy i).mpr hp) h
theorem agc{y:Str}(hy:tl y≠[]):1<=y.length:=by have e2:0<(tl y).length:=Ca.mpr hy;rw[yU y];exact e2
theorem HH(x:Str)(i j:Nat):tl (strSub x i j)=((tl x).drop i).take (j-i):=strSub_toList x i j
theorem GK(x:Str)(i:Nat):tl (strSub x i x.length)=(tl x).drop i:=by rw[HH,yU x];exact bK (by rw[fh]<;>omega)
theorem HI{x y:Str}(hy:tl y≠[]):∀(acO:List Nat)(a f:Nat),a<=(tl x).length->ChainG x y x.length a acO f->(∀k,f<=k->¬At x y x.length k)-> (partsFrom x y.length a acO).map tl=CY (tl y) 0 [] ((tl x).drop a)
 |[],a,f,ha,h,hn=>by
  have e:f=a:=h;subst e;show[tl (strSub x f x.length)]=_;have run:=IX (tl y) (tl x) ((tl x).length-f) f [] (by omega) (λk h1 _=>X2 hy (hn k h1));have e2:f+((tl x).length-f)=(tl x).length:=by omega
  rw[e2,aaU,DC,abT,bK (by rw[fh]<;>omega)] at run;rw[run,GK]
 |c::r,a,f,ha,h,hn=>by
  obtain⟨h1,h2,h3,h4⟩:=h;have hc:c+y.length<=x.length:=h2.1;have hx:=yU x;have hl:=yU y;have ih:=HI hy r (c+y.length) f (by omega) h4 hn;show tl (strSub x a c)::(partsFrom x y.length (c+y.length) r).map tl=_;have run:=IX (tl y) (tl x) (c-a) a [] (by omega) (λk k1 k2=>X2 hy (h3 k k1 (by omega)));have e2:a+(c-a)=c:=by omega
  rw[e2,abT,Zo hy ((T2 hy c).mp h2)] at run;rw[run,ih,HH,hl]
theorem Rq(x y:Str)(hy:tl y≠[])(hk:¬fM x<fM y):(rJ x y).map tl=CY (tl y) 0 [] (tl x):=by
 obtain⟨f,g,hn⟩:=occ_tight x y (agc hy);have key:=HI hy _ 0 f (bE _) g hn;rw[M6] at key;have HJ:occurrences x y 0 x.length (x.length+1)=[]->[x].map tl=CY (tl y) 0 [] (tl x):=λho=>by rw[ho] at key;rw[<-key];show[tl x]=[tl (strSub x 0 x.length)];rw[sub_whole]
 unfold rJ;by_cases h1:(decide (x.length<y.length)||decide (fM x<fM y))=true
 ·rw[if_pos h1];have oR:x.length<y.length:=by
   simp only[ik,decide_eq_true_eq] at h1;rcases h1 with h|h
   ·exact h
   ·exact absurd h hk
  refine HJ ?_
  cases ho:occurrences x y 0 x.length (x.length+1) with
  |nil=>rfl
  |cons c r=>rw[ho] at g;have hc:c+y.length<=x.length:=g.2.1.1;omega
 ·rw[if_neg h1];by_cases h2:(occurrences x y 0 x.length (x.length+1)).isEmpty=true
  ·rw[if_pos h2];exact HJ (aaV.mp h2)
  ·rw[if_neg h2,partsBetween_eq];exact key
theorem WK{x y:Str}(h:y.cps.all (· <256)=true):¬fM x<fM y:=by
 have e:fM y=1:=by unfold Nk;rw[if_pos h]
 rw[e];unfold Nk;split
 ·omega
 ·split<;>omega
def qD(S:List Nat):List (List Nat)->List Nat
 |[]=>[]
 |[p]=>p
 |p::q::r=>p++(S++qD S (q::r))
theorem Ac(y:Str):∀parts:List Str,tl (Str.join y parts)=qD (tl y) (parts.map tl)
 |[]=>rfl
 |[_]=>rfl
 |x::z::r=>by show tl (x++y++Str.join y (z::r))=tl x++(tl y++qD (tl y) ((z::r).map tl));rw[Bz,Bz,Ac y (z::r),dw]
theorem join_eq(y:Str)(parts:List Str):xf y parts=Str.join y parts:=glued_eq_join y parts
def WL(n:Nat):List Nat:=(Nat.toDigits 10 n).map ana
theorem T3(n:Nat):tl (aS (mr ((n:Nat):Int)))=WL n:=PySem.W.KIN.signs_num n
theorem T4{n k:Nat}(hk:0<k)(h:n<10^k):(WL n).length<=k:=by
 have z:=PyProof.Rows.toString_length_le (v:=(n:Int)) (by omega) hk (by
  have e:((10:Int)^k)=((10^k:Nat):Int):=by
   first
    |exact(Int.natCast_pow 10 k).symm
    |simp
  rw[e];first|exact Int.ofNat_lt.mpr h|omega)
 rw[yU,T3] at z;exact z
end TL
end
namespace L2
open PySem PySem.Spec PyProof.Rows
theorem HK:∀l:List (Str×Tok),Vals ((l.map (·.1)).map V.str) (am5 l)
 |[]=>.nil
 |p::r=>.cons ⟨p.2,rfl⟩ (HK r)
theorem tw:∀{ys:List Str}{us:List ak},Vals (ys.map V.str) us->StrsAre us ys
 |[],_,.nil=>.nil
 |y::ys,_,.cons r t=>by obtain⟨k,rfl⟩:=r;exact .cons y k (tw t)
def D6(ys:List Str):Hp->VK->Prop:=λH Q=>∀p,H p=none->Q (.ref p) (upd H p (.lst (ys.map V.str)))
section
variable{X:Cx}{pins:List (af×Obj)}{σ:St}{H:Hp}{s:az}{Q:VK}
theorem BA{l:List (Str×Tok)}{ys:List Str}{k:Nat}(I:Inv X pins σ H s)(e:l.map (·.1)=ys)(hz:ys.length<=aA)(h:D6 ys H Q):
  EP X pins σ Q (.ref s.heap.objs.size) {s with toks:=k,heap:=s.heap.push {cls:=.type "list",data:=.seq (am5 l).toArray}}:=by
 have hp:=I.dQ.fresh (aK _);refine bt (.ref s.heap.objs.size) (upd H s.heap.objs.size (.lst (ys.map V.str))) (I.laid (λb u q=>aj _ q) (aK _) ⟨by rw[aa];exact hz,fu (am5 l) _ ?_ (aU _ rfl)⟩) rfl (h _ hp);rw[<-e];exact HK l
end
section
variable{X:Cx}
theorem T5:MtR X "str.split" (λx xs H Q=>∃a b,x=.str a/\xs=[.str b]/\(b.length==0)=false/\a.length+2<=aA/\D6 (rJ a b) H Q):=by
 intro pins s σ H x xs v us Q I rx rs h;refine ke ?_ h;clear h;rintro a b rfl rfl hb ⟨hz,h⟩;obtain⟨t,rfl⟩:=rx
 cases rs with
 |cons r1 rs=>
  cases rs;obtain⟨u,rfl⟩:=r1;have hl:(rJ a b).length<=aA:=ao (PyProof.Rows.split_le a b) hz;have hn:(XD a (A2 a b 0 a.length (a.length+1)) b.length).length<=aA:=by have e1:=StrLaws.occ_length_le a b 0 a.length (a.length+1);rw[length_partsBetween];omega
  cases h1:(decide (a.length<b.length)||decide (fM a<fM b))
  ·cases hf:(A2 a b 0 a.length (a.length+1)).isEmpty
   ·refine Cd A5 (Cc _ _ _) M3 (Kg _ _) (meets_str_split_sep a b t u h1 hb hf (by omega) hn) ?_;show EP X pins σ Q (.ref s.heap.objs.size) {s with toks:=_,heap:=s.heap.push {cls:=.type "list",data:=.seq (strsFrom s.toks (XD a (A2 a b 0 a.length (a.length+1)) b.length)).toArray}};rw[strsFrom_eq];exact BA (ys:=rJ a b) I ((numbered_texts _ _).trans ((if_neg (ne_true_of_eq_false h1)).trans (if_neg (ne_true_of_eq_false hf))).symm) hl h
   ·refine Cd A5 (Cc _ _ _) M3 (Kg _ _) (meets_str_split_not_found a b t u h1 hb hf) ?_;exact BA (l:=[(a,t)]) (ys:=rJ a b) (k:=s.toks) I ((if_neg (ne_true_of_eq_false h1)).trans (if_pos hf)).symm hl h
  ·refine Cd A5 (Cc _ _ _) M3 (Kg _ _) (meets_str_split_cannot_occur a b t u h1) ?_;exact BA (l:=[(a,t)]) (ys:=rJ a b) (k:=s.toks) I (if_pos h1).symm hl h
theorem WM:MtR X "str.join" (λx xs H Q=>∃a p,∃ys:List Str,x=.str a/\xs=[.ref p]/\(bG X.K H p (ys.map V.str)∨nY X.K H p (ys.map V.str))/\(ys.map (·.length)).sum+ys.length*a.length<=16777216/\Q (.str (xf a ys)) H):=by
 intro pins s σ H x xs v us Q I rx rs h;refine rq ?_ h;clear h;rintro a p ys rfl rfl hp ⟨hz,h⟩;obtain⟨t,rfl⟩:=rx
 cases rs with
 |cons r1 rs=>
  cases rs;cases r1;rcases hp with hp|hp
  ·refine cH ?_ (I.list hp);rintro its r ⟨o,n,ho,hc,_,hd⟩ _;exact PyProof.Rows.join_list (items:=its.toArray) (bP o ho hc ⟨n,hd⟩) (by rw[We];exact tw r) hz λt' k=>bt (.str _) H (I.tok k) ⟨t',rfl⟩ h
  ·refine cH ?_ (I.tuple hp);rintro its r ht _;exact PyProof.Rows.join_tuple (items:=its.toArray) ht (by rw[We];exact tw r) hz λt' k=>bt (.str _) H (I.tok k) ⟨t',rfl⟩ h
theorem tD:kO X (.type "int") (λxs H Q=>∃a n,xs=[.str a]/\aet a=some n/\a.length<=640/\Q (.int n) H):=by
 intro pins s σ H xs us Q I rs h;refine ke ?_ h;clear h;rintro a n rfl hn hl h
 cases rs with
 |cons r1 rs=>
  cases rs;obtain⟨t,rfl⟩:=r1;exact PySem.W.KIN.call_text hn hl (bt (.int n) H (I.tok _) ⟨_,rfl⟩ h)
end
section
variable{X:Cx}{o e:Expr}{to te:TE}
def tM1(r:V->List V->Hp->VK->Prop)(to te:TE):TE:=λσ H Q=>to σ H λx H1=>(∃a,x=.str a)/\te σ H1 λy H2=>r x [y] H2 Q
theorem X5{id:String}{name:Str}{apos pos:Pos}{r:V->List V->Hp->VK->Prop}(slot:Slot "str" name id)(ty:typeOf (.builtin id)=pure (.type "method_descriptor"))(rule:MtR X id r)(ho:PE X o to)(he:PE X e te)(hs:bO [e] X.env=[(false,eval e X.env)]:=by rfl)(n4:gf o name X.env (eval o X.env)=eval o X.env:=by rfl)(gJ:(apos.endLine==pos.line)=true:=by rfl):
  PE X (.Call (.Attribute o name apos) [e] [] pos) (tM1 r to te):=by
 intro pins s σ H Q I h;refine PySem.Call_method1 n4 hs gJ (iM (ho pins s σ H _ I h) λv s1 ⟨x,H1,I1,r1,q1⟩=>?_);obtain⟨⟨a,rfl⟩,q1⟩:=q1;obtain⟨t,rfl⟩:=_root_.id r1;refine dH ("str") _ F.plainAttrs_str slot ty ⟨Cc _ _ _,(λ_ e=>nomatch e),B6 rfl (FT (Kf ?_))⟩;exact iM (he pins s1 σ H1 _ I1 q1) λu s2 ⟨y,H2,I2,r2,q2⟩=>MZ (rule pins s2 σ H2 _ [y] _ [u] Q I2 r1 (.cons r2 .nil) q2)
theorem T6{apos pos:Pos}(ho:PE X o to)(he:PE X e te)(hs:bO [e] X.env=[(false,eval e X.env)]:=by rfl)(n4:gf o "split" X.env (eval o X.env)=eval o X.env:=by rfl)(gJ:(apos.endLine==pos.line)=true:=by rfl):
  PE X (.Call (.Attribute o "split" apos) [e] [] pos) (tM1 (λx xs H Q=>∃a b,x=.str a/\xs=[.str b]/\(b.length==0)=false/\a.length+2<=aA/\D6 (rJ a b) H Q) to te):=
 X5 A5 F.type_str_split T5 ho he hs n4 gJ
theorem WN{apos pos:Pos}(ho:PE X o to)(he:PE X e te)(hs:bO [e] X.env=[(false,eval e X.env)]:=by rfl)(n4:gf o "join" X.env (eval o X.env)=eval o X.env:=by rfl)(gJ:(apos.endLine==pos.line)=true:=by rfl):
  PE X (.Call (.Attribute o "join" apos) [e] [] pos) (tM1 (λx xs H Q=>∃a p,∃ys:List Str,x=.str a/\xs=[.ref p]/\(bG X.K H p (ys.map V.str)∨nY X.K H p (ys.map V.str))/\(ys.map (·.length)).sum+ys.length*a.length<=16777216/\Q (.str (xf a ys)) H) to te):=
 X5 F.slot_str_join F.type_str_join WM ho he hs n4 gJ
end
section
variable{X:Cx}
theorem D7:yg X (eE .In) (λx y H Q=>∃(c:Nat)(z:Str),x=.str ⟨#[c]⟩/\y=.str z/\Q (.bl (decide (c∈z.cps.toList))) H):=by intro pins s σ H x y v u Q I rx ry h;refine j7 ?_ h;clear h;rintro c z rfl rfl q;obtain⟨t,rfl⟩:=rx;obtain⟨t',rfl⟩:=ry;exact PyProof.Rows.in_str (fc I q (PySem.StrLaws.found_one z c).symm)
end
end L2
namespace Att
open PySem PySem.W PySem.Calls PyProof.Rows
end Att
namespace L2
open PySem PySem.Spec PyProof.Rows
def inClass(s:cD)(j:Nat):cD:=match s with
 |.ClassDef _ _ _ body _ _ _ _ _ _ _=>body.getD j (.Pass ⟨0,0,0,0⟩)
 |_=>.Pass ⟨0,0,0,0⟩
def o8(s:cD):Pk:=match s with
 |.FunctionDef _ a _ _ _ _ _ _ _ _=>a
 |_=>{posonlyargs:=[],args:=[],vararg:=none,kwonlyargs:=[],kw_defaults:=[],kwarg:=none,defaults:=[]}
def lJ(s:cD):List cD:=match s with
 |.FunctionDef _ _ b _ _ _ _ _ _ _=>b
 |_=>[]
def aO(s:cD):Scope:=match s with
 |.FunctionDef _ _ _ _ _ _ sc _ _ _=>sc
 |_=>{kind:=.function,names:=[],isGenerator:=false,isCoroutine:=false}
abbrev T7:V1:=λ_ _ _ _ _ _=>False
abbrev E0:XK:=λ_ _ _=>False
theorem HL{X:Cx}:Passes T7 X E0:=λ_ _ _ _ _ _ _ h=>h.elim
structure WO(K:ah)(x qual:Str)(st:cD)(f:af)(fd:jw):Prop where
 ex:∃(oc:ak)(od:Option af)(kV doc pm:ak)(an:Option af)(pP ct:ak)(KG:Array (Option ak)),
  fd=rK x qual (o8 st) (lJ st) (aO st) .none kV doc pm an pP ct/\K.lookup f=some ⟨oc,od,.func fd,KG⟩/\M4 K pP qual=true
 kp:lI K (.ref f)=true
section
variable{P:bp}{w:bQ}{K:ah}{mg:Str->Option ak}{base:cB}
theorem WO.ok{x qual:Str}{st:cD}{f:af}{fd:jw}{N ps:List Str}{k:Nat}{sp:Sp}(F:WO K x qual st f fd)(S:bf N ps (aO st))(len:∀vs H Q E,sp vs H Q E->vs.length=ps.length)(KH:∀(pP:ak)(A:cy)(outer:List Env)(s:az)(H:Hp)(vs:List V)(Q:VK)(E:XK),jx k (A.deeper (yK qual (aO st) s.heap.objs.size f pP))->sp vs H Q E->∃t,Nq (GD T7 P w K mg base N qual (aO st) f pP A outer s H E).Wl (lJ st) t/\t {nx:=λ_ H'=>Q .h9 H',rt:=Q} (start N vs) H):xG P w K mg base T7 (k+1) f fd ps sp:=by refine o5 ?_ F.ex;rintro oc od kV doc pm an pP ct KG ⟨rfl,lk,S8⟩;refine XX lk S8 S len λA outer s H vs Q E hr Sx=>?_;obtain⟨t,h,q⟩:=KH pP A outer s H vs Q E hr Sx;exact bq t h.Wl q
theorem WO.binds{x qual:Str}{st:cD}{f:af}{fd:jw}{ps:List Str}(F:WO K x qual st f fd)(h:∀(kV doc pm:ak)(an:Option af)(pP ct:ak)(us:List ak),us.length=ps.length->Bc (rK x qual (o8 st) (lJ st) (aO st) .none kV doc pm an pP ct) ⟨us,[]⟩=pure (ps.zip us)):Binds K fd ps []:=by refine o5 ?_ F.ex;rintro oc od kV doc pm an pP ct KG ⟨rfl,lk,S8⟩;exact .all (h kV doc pm an pP ct)
theorem vH{x qual:Str}{st:cD}{f:af}{oc:ak}{od an:Option af}{KG:Array (Option ak)}{kV doc pm pP ct:ak}(l:K.lookup f=some ⟨oc,od,.func (rK x qual (o8 st) (lJ st) (aO st) .none kV doc pm an pP ct),KG⟩)(c:M4 K pP qual=true)(k:lI K (.ref f)=true):WO K x qual st f (rK x qual (o8 st) (lJ st) (aO st) .none kV doc pm an pP ct):=⟨qt oc od kV doc pm an pP ct KG ⟨rfl,l,c⟩,k⟩
end
theorem ur{A:cy}{k:Nat}(hr:jx k A):A.units+1<mv:=b0 (Nat.add_le_add_left (by decide:1<=64) _) hr.units
theorem dG{n:Nat}(h:n<=1000):n<aA:=b0 h (by decide)
section
variable{X:Cx}
theorem pv(i:Nat){x:Str}{pos:Pos}(hN:X.N[i]? =some x:=by rfl)(hv:Vis X.env.scope x:=by first|exact XN rfl|exact Sw (XN rfl)|exact Sw (Sw rfl))(hd:(x==("__debug__":Str))=false:=by decide)(S8:(x==("__classdict__":Str))=false:=by decide):PE X (.Name x pos) (rz i):=YT hN hv hd S8
theorem rZ:kO X (.builtin "len") (λxs H Q=>∃a kvs,xs=[V.ref a]/\H a=some (.dK kvs)/\Q (.int kvs.length) H):=by
 intro pins s σ H xs us Q I r h;refine j7 ?_ h;clear h;rintro a kvs rfl ha q;obtain⟨u,rfl,ru⟩:=vals1 r;cases ru;exact acC I (.inl ha) λt s' I'=>bt (.int kvs.length) H I' ⟨t,rfl⟩ q
end
theorem lh{A B:Prop}(h:B):if false=true then A else B:=by rw[if_neg aZ];exact h
theorem kW{A B:Prop}(h:A):if true=true then A else B:=by rw[if_pos rfl];exact h
theorem acQ{c A B:Prop}[Decidable c](hc:c)(h:B):if(!decide c)=true then A else B:=by rw[decide_eq_true hc];exact lh h
def aT(H H':Hp):Prop:=∀b o,H b=some o->H' b=some o
theorem aT.refl(H:Hp):aT H H:=λ_ _ h=>h
theorem aT.trans{H H1 H2:Hp}(a:aT H H1)(b:aT H1 H2):aT H H2:=λc o h=>b c o (a c o h)
theorem aT.free{H H':Hp}(e:aT H H'){l:af}(h:H' l=Bg):H l=Bg:=by
 cases q:H l with
 |none=>rfl
 |some o=>
  rw[e l o q] at h;cases h
theorem aT.seq{K:ah}{H H':Hp}{a:af}{xs:List V}(e:aT H H')(h:bG K H a xs):bG K H' a xs:=by
 rcases h with(h|⟨o,h⟩)|h
 ·exact .inl (.inl (e _ _ h))
 ·exact .inl (.inr ⟨o,e _ _ h⟩)
 ·exact .inr h
section
variable{κ:Type}[DecidableEq κ]
theorem xl:∀{l:List κ}{k:κ},l.Nodup->¬k∈l->(l++[k]).Nodup
 |[],k,_,_=>by simp
 |a::r,k,h,hk=>by
  obtain⟨h1,h2⟩:=dY.mp h;show(a::(r++[k])).Nodup;refine dY.mpr ⟨λm=>?_,xl h2 λm=>hk (aB.mpr (Sw m))⟩;rcases aE.mp m with q|q
  ·exact h1 q
  ·exact hk (aB.mpr (XN (b8.mp q).symm))
end
theorem at_of{xs:List V}{z:Int}{j:Nat}{v:V}(e:z=(j:Int))(h:xs[j]? =some v):Rf xs z=some v:=by rw[e];exact cN h
theorem acR{α:Type}{l:List α}(hN:l.Nodup){i j:Nat}{x:α}(a:l[i]? =some x)(b:l[j]? =some x):i=j:=by obtain⟨h1,e1⟩:=cn.mp a;obtain⟨h2,e2⟩:=cn.mp b;exact(aaR hN).mp (e1.trans e2.symm)
theorem aT.made{H H1:Hp}{x dx C:af}(nx:H x=Bg)(nd:H dx=Bg)(k:∀b o,(upd (upd H dx (.own x)) x (.ins C dx [])) b=some o->b≠x->H1 b=some o):aT H H1:=λb o e=>k b o (by rw[ay (aR e nx),ay (aR e nd)];exact e) (aR e nx)
section
open PySem.W (WData Codec Well WellAll ReadsW ReadsAllW)
mutual
inductive Dw(K:ah)(H:Hp):V->WData->Prop
 |h9:Dw K H .h9 .none
 |bl (b:Bool):Dw K H (.bl b) (.bool b)
 |int (i:Int):Dw K H (.int i) (.int i)
 |str (x:Str):Dw K H (.str x) (.str x)
 |Nc (b:Array UInt8):Dw K H (.Nc b) (.bytes b.toList)
 |lst {a:af} {xs:List V} {ds:List WData}:bG K H a xs->vI K H xs ds->Dw K H (.ref a) (.list ds)
 |tup {a:af} {xs:List V} {ds:List WData}:nY K H a xs->vI K H xs ds->Dw K H (.ref a) (.tuple ds)
inductive vI(K:ah)(H:Hp):List V->List WData->Prop
 |nil:vI K H [] []
 |cons {v:V} {vs:List V} {d:WData} {ds:List WData}:Dw K H v d->vI K H vs ds->vI K H (v::vs) (d::ds)
end
theorem PX{K:ah}{H:Hp}:∀ns:List Int,vI K H (ns.map V.int) (ns.map WData.int)
 |[]=>.nil
 |n::r=>.cons (.int n) (PX r)
theorem PY{K:ah}{H:Hp}:∀(ns:List Int)(xs:List V),vI K H xs (ns.map WData.int)->xs=ns.map V.int
 |[],xs,h=>by
  cases h;rfl
 |n::r,xs,h=>by
  cases h with
  |cons h1 h2=>
   cases h1;rw[PY r _ h2]<;>rfl
section
variable{P:bp}{w:bQ}{K:ah}{H:Hp}{h:cB}{R:aaW}{cl:Str->Option af}
theorem Zp{a:af}{xs:List V}(dQ:u5 P w H h)(KX:K.In h)(q:bG K H a xs):∃(its:List ak)(o:Obj)(n:Nat),Vals xs its/\h.get? a=some o/\o.cls=.type "list"/\o.data=.seq its.toArray n:=by
 rcases q with q|⟨o,its,n,e,hc,_,hd,_,hv⟩
 ·obtain⟨_,its,n,hv,e⟩:=(show fF P w H h a (.lst xs) from q.ok dQ);exact jK its _ n hv e ⟨rfl,rfl⟩
 ·exact jK its.toList o n hv (KX _ _ e) ⟨hc,by simp[hd]⟩
theorem Zq{a:af}{xs:List V}(dQ:u5 P w H h)(KX:K.In h)(q:nY K H a xs):∃(its:List ak)(o:Obj)(n:Nat),Vals xs its/\h.get? a=some o/\o.cls=.type "tuple"/\o.data=.seq its.toArray n:=by
 rcases q with q|⟨o,its,n,e,hc,hd,_,hv⟩
 ·obtain⟨_,its,hv,o,e,hc,n,hd⟩:=(show fF P w H h a (.tup xs) from q.ok dQ);exact jK its o n hv e ⟨hc,hd⟩
 ·exact jK its.toList o n hv (KX _ _ e) ⟨hc,by simp[hd]⟩
mutual
theorem Dw.reads(dQ:u5 P w H h)(KX:K.In h):∀(d:WData)(v:V)(u:ak),Dw K H v d->RelV v u->∃as,ReadsW R cl h u d as
 |.none,_,_,x,r=>by
  cases x;cases r;exact⟨_,ReadsW.none⟩
 |.bool b,_,_,x,r=>by
  cases x;cases r;exact⟨_,ReadsW.bool b⟩
 |.int i,_,_,x,r=>by
  cases x;obtain⟨t,rfl⟩:=r;exact⟨_,ReadsW.int i t⟩
 |.str s,_,_,x,r=>by
  cases x;obtain⟨t,rfl⟩:=r;exact⟨_,ReadsW.str s t⟩
 |.bytes b,_,_,x,r=>by
  cases x;obtain⟨t,rfl⟩:=r;exact⟨_,ReadsW.bytes _ t⟩
 |.list ds,_,_,x,r=>by
  cases x with
  |lst hs ha=>
   cases r;refine rq ?_ (Zp dQ KX hs);rintro its o n rv ho hc hd;obtain⟨as,hr⟩:=Dw.readsAll dQ KX ds _ its ha rv;exact⟨_,ReadsW.list ho hc hd hr⟩
 |.tuple ds,_,_,x,r=>by
  cases x with
  |tup hs ha=>
   cases r;refine rq ?_ (Zq dQ KX hs);rintro its o n rv ho hc hd;obtain⟨as,hr⟩:=Dw.readsAll dQ KX ds _ its ha rv;exact⟨_,ReadsW.tuple ho hc hd hr⟩
 |.float _,_,_,x,_=>by cases x
 |.dict _,_,_,x,_=>by cases x
 |.bytearray _,_,_,x,_=>by cases x
 |.set _,_,_,x,_=>by cases x
 |.frozenset _,_,_,x,_=>by cases x
 |.obj _ _,_,_,x,_=>by cases x
theorem Dw.readsAll(dQ:u5 P w H h)(KX:K.In h):∀(ds:List WData)(vs:List V)(us:List ak),vI K H vs ds->Vals vs us->∃as,ReadsAllW R cl h us ds as
 |[],_,_,x,r=>by
  cases x;cases r;exact⟨_,ReadsAllW.nil⟩
 |d::ds,_,_,x,r=>by
  cases x with
  |cons h1 h2=>
   cases r with
   |cons r1 r2=>obtain⟨as,q1⟩:=Dw.reads dQ KX d _ _ h1 r1;obtain⟨bs,q2⟩:=Dw.readsAll dQ KX ds _ _ h2 r2;exact⟨_,ReadsAllW.cons q1 q2⟩
end
end
mutual
def PZ:WData->Bool
 |.none=>true
 |.bool _=>true
 |.int _=>true
 |.str _=>true
 |.bytes _=>true
 |.list xs=>CZ xs
 |.tuple xs=>CZ xs
 |_=>false
def CZ:List WData->Bool
 |[]=>true
 |x::r=>PZ x&&CZ r
end
theorem K1{α:Type}{f:α->WData}(h:∀a,PZ (f a)=true):∀l:List α,CZ (l.map f)=true
 |[]=>rfl
 |x::r=>by show(PZ (f x)&&CZ (r.map f))=true;rw[h x,K1 h r]<;>rfl
theorem vJ:∀(c:Codec)(a:c.denote),PZ (c.enc a)=true
 |.unit,_=>rfl
 |.bool,_=>rfl
 |.int _ _,_=>rfl
 |.nat _ _,_=>rfl
 |.u8,_=>rfl
 |.bytes _ _,_=>rfl
 |.text _ _ _ _,_=>rfl
 |.list _ _ c,a=>K1 (λx=>vJ c x) a
 |.pair c d,a=>by show(PZ (c.enc a.1)&&(PZ (d.enc a.2)&&true))=true;rw[vJ c a.1,vJ d a.2]<;>rfl
 |.triple c d e,a=>by show(PZ (c.enc a.1)&&(PZ (d.enc a.2.1)&&(PZ (e.enc a.2.2)&&true)))=true;rw[vJ c a.1,vJ d a.2.1,vJ e a.2.2]<;>rfl
 |.option c,none=>rfl
 |.option c,some x=>vJ c x
theorem HM:∀(cs:List Codec)(a:Codec.denoteAll cs),CZ (Codec.encAll cs a)=true
 |[],_=>rfl
 |c::cs,a=>by show(PZ (c.enc a.1)&&CZ (Codec.encAll cs a.2))=true;rw[vJ c a.1,HM cs a.2]<;>rfl
theorem yV:∀{xs:List WData}{d:WData},d∈xs->d.weight<=WData.weightAll xs
 |[],d,h=>absurd h (by simp)
 |x::r,d,h=>by
  show d.weight<=x.weight+1+WData.weightAll r;rcases aB.mp h with e|m
  ·rw[e];omega
  ·have z:=yV m;omega
def toV:ak->V
 |.none=>.h9
 |.bool b=>.bl b
 |.int i _=>.int i
 |.str x _=>.str x
 |.bytes b _=>.Nc b
 |.ref a=>.ref a
 |_=>.h9
def Rr(A:List af):ak->Prop
 |.none=>True
 |.bool _=>True
 |.int _ _=>True
 |.str _ _=>True
 |.bytes _ _=>True
 |.ref a=>a∈A
 |_=>False
theorem Rr.mono{A B:List af}(h:∀a∈A,a∈B):∀{u:ak},Rr A u->Rr B u:=λ{u} x=>by
 cases u with
 |ref a=>exact h a x
 |none=>trivial
 |bool b=>trivial
 |int i t=>trivial
 |str s t=>trivial
 |bytes b t=>trivial
 |_=>exact dP x
theorem T8{A:List af}{u:ak}(x:Rr A u):RelV (toV u) u:=by
 cases u with
 |ref a=>rfl
 |none=>rfl
 |bool b=>rfl
 |int i t=>exact⟨t,rfl⟩
 |str s t=>exact⟨t,rfl⟩
 |bytes b t=>exact⟨t,rfl⟩
 |_=>exact dP x
theorem r6{A:List af}:∀{vs:List ak},(∀u∈vs,Rr A u)->Vals (vs.map toV) vs
 |[],_=>.nil
 |u::r,h=>.cons (T8 (h u (dc ..))) (r6 λx hx=>h x (bW _ hx))
def uu(h:cB)(A:List af)(a:af):Prop:=∃vs:List ak,vs.length<=aA/\(∀u∈vs,Rr A u)/\
 (h.get? a=some {cls:=.type "list",data:=.seq vs.toArray}∨h.get? a=some {cls:=.type "tuple",data:=.seq vs.toArray})
theorem uu.mono{h:cB}{A B:List af}{a:af}(k:∀a∈A,a∈B)(x:uu h A a):uu h B a:=by refine cH ?_ x;rintro vs h1 h2 h3;exact bP vs h1 (λu hu=>(h2 u hu).mono k) h3
theorem qE{P:Pu}{h:cB}:∀{vs:List ak}{ds:List WData},WellAll P h vs ds->vs.length=ds.length
 |_,_,.nil=>rfl
 |_,_,.cons _ b=>by show _+1=_+1;rw[qE b]
theorem HN{P:Pu}{h:cB}{v:ak}{ds:List WData}(x:Well P h v (.list ds)):∃(a:af)(vs:List ak),v=.ref a/\h.get? a=some {cls:=.type "list",data:=.seq vs.toArray}/\WellAll P h vs ds:=by
 cases x with
 |list ho lj=>exact bt _ _ rfl ho lj
theorem D8{P:Pu}{h:cB}{v:ak}{ds:List WData}(x:Well P h v (.tuple ds)):∃(a:af)(vs:List ak),v=.ref a/\h.get? a=some {cls:=.type "tuple",data:=.seq vs.toArray}/\WellAll P h vs ds:=by
 cases x with
 |tuple ho lj=>exact bt _ _ rfl ho lj
theorem HP{P:Pu}{h:cB}{us:List ak}{d:WData}{ds:List WData}(x:WellAll P h us (d::ds)):∃(v:ak)(vs:List ak),us=v::vs/\Well P h v d/\WellAll P h vs ds:=by
 cases x with
 |cons a b=>exact bt _ _ rfl a b
theorem P0{n:Nat}(h:n<=1048576):n<=aA:=ao h (by decide)
section
variable{P:Pu}{h:cB}
mutual
theorem T9:∀(d:WData)(v:ak),Well P h v d->PZ d=true->d.weight<=1048576->∃A:List af,Rr A v/\∀a∈A,uu h A a
 |.none,_,x,_,_=>by
  cases x;exact bq ([]) trivial (λa m=>absurd m (by simp))
 |.bool b,_,x,_,_=>by
  cases x;exact bq ([]) trivial (λa m=>absurd m (by simp))
 |.int i,_,x,_,_=>by
  cases x;exact bq ([]) trivial (λa m=>absurd m (by simp))
 |.str s,_,x,_,_=>by
  cases x;exact bq ([]) trivial (λa m=>absurd m (by simp))
 |.bytes b,_,x,_,_=>by
  cases x;exact bq ([]) trivial (λa m=>absurd m (by simp))
 |.list ds,_,x,p,z=>by
  refine j7 ?_ (HN x);rintro a vs rfl ho lj;have z2:WData.weightAll ds<=1048576:=z;obtain⟨A,h1,h2⟩:=Ad ds _ lj p λd hd=>ao (yV hd) z2;have k:∀b∈A,b∈a::A:=λb hb=>bW _ hb;refine bq (a::A) (dc ..) (λb hb=>?_);rcases aB.mp hb with e|m
  ·rw[e];exact bP vs (P0 (by rw[qE lj];exact ao (Ke ds) z2)) (λu hu=>(h1 u hu).mono k) (.inl ho)
  ·exact(h2 b m).mono k
 |.tuple ds,_,x,p,z=>by
  refine j7 ?_ (D8 x);rintro a vs rfl ho lj;have z2:WData.weightAll ds<=1048576:=z;obtain⟨A,h1,h2⟩:=Ad ds _ lj p λd hd=>ao (yV hd) z2;have k:∀b∈A,b∈a::A:=λb hb=>bW _ hb;refine bq (a::A) (dc ..) (λb hb=>?_);rcases aB.mp hb with e|m
  ·rw[e];exact bP vs (P0 (by rw[qE lj];exact ao (Ke ds) z2)) (λu hu=>(h1 u hu).mono k) (.inr ho)
  ·exact(h2 b m).mono k
 |.float _,_,_,p,_=>bN (show false=true from p)
 |.dict _,_,_,p,_=>bN (show false=true from p)
 |.bytearray _,_,_,p,_=>bN (show false=true from p)
 |.set _,_,_,p,_=>bN (show false=true from p)
 |.frozenset _,_,_,p,_=>bN (show false=true from p)
 |.obj _ _,_,_,p,_=>bN (show false=true from p)
theorem Ad:∀(ds:List WData)(vs:List ak),WellAll P h vs ds->CZ ds=true->(∀d∈ds,d.weight<=1048576)->∃A:List af,(∀u∈vs,Rr A u)/\∀a∈A,uu h A a
 |[],_,x,_,_=>by
  cases x;exact bq ([]) (λu m=>absurd m (by simp)) (λa m=>absurd m (by simp))
 |d::ds,_,x,p,z=>by
  refine j7 ?_ (HP x);rintro v vs rfl x1 x2;have q:PZ d=true/\CZ ds=true:=VM.mp p;obtain⟨A,a1,a2⟩:=T9 d v x1 q.1 (z d (dc ..));obtain⟨B,b1,b2⟩:=Ad ds vs x2 q.2 λe he=>z e (bW _ he);have kA:∀b∈A,b∈A++B:=λb hb=>aE.mpr (.inl hb);have kB:∀b∈B,b∈A++B:=λb hb=>aE.mpr (.inr hb);refine bq (A++B) (λu hu=>?_) (λb hb=>?_)
  ·rcases aB.mp hu with e|m
   ·rw[e];exact a1.mono kA
   ·exact(b1 u m).mono kB
  ·rcases aE.mp hb with m|m
   ·exact(a2 b m).mono kA
   ·exact(b2 b m).mono kB
end
end
def WQ(o:Obj):Option HO:=match o.data with
 |.seq vs _=>if(o.cls==m6 "list")=true then some (.vp o (.lst (vs.toList.map toV))) else some (.vp o (.tup (vs.toList.map toV)))
 |_=>none
def r8(K:ah)(h:cB)(A:List af):Hp:=λb=>if b∈A then(if(K.lookup b).isNone=true then(h.get? b).bind WQ else none) else none
def X6(H:Hp):Prop:=∀b,H b=none∨∃o u,H b=some (.vp o u)
theorem K2(vs:List ak):WQ {cls:=.type "list",data:=.seq vs.toArray}=some (.vp {cls:=.type "list",data:=.seq vs.toArray} (.lst (vs.map toV))):=by show(if(m6 "list"==m6 "list")=true then some (HO.vp {cls:=.type "list",data:=.seq vs.toArray} (.lst (vs.toArray.toList.map toV))) else some (HO.vp {cls:=.type "list",data:=.seq vs.toArray} (.tup (vs.toArray.toList.map toV))))=_;rw[if_pos (beq_self_eq_true _)]
theorem K3(vs:List ak):WQ {cls:=.type "tuple",data:=.seq vs.toArray}=some (.vp {cls:=.type "tuple",data:=.seq vs.toArray} (.tup (vs.map toV))):=by show(if(m6 "tuple"==m6 "list")=true then some (HO.vp {cls:=.type "tuple",data:=.seq vs.toArray} (.lst (vs.toArray.toList.map toV))) else some (HO.vp {cls:=.type "tuple",data:=.seq vs.toArray} (.tup (vs.toArray.toList.map toV))))=_;rw[if_neg (by decide)]
section
variable{P:bp}{w:bQ}{K:ah}{h:cB}{A:List af}
theorem DD{b:af}{o:Obj}(hb:b∈A)(hk:K.lookup b=none)(e:h.get? b=some o):r8 K h A b=WQ o:=by unfold r8;rw[if_pos hb,hk,if_pos (show(none:Option Obj).isNone=true from rfl),e]<;>rfl
theorem WR{b:af}{u:HO}(q:r8 K h A b=some u):b∈A/\K.lookup b=none:=by
 unfold r8 at q;by_cases hb:b∈A
 ·rw[if_pos hb] at q
  cases hk:K.lookup b with
  |none=>exact⟨hb,rfl⟩
  |some o=>
   rw[hk,if_neg (by simp)] at q;cases q
 ·rw[if_neg hb] at q;cases q
theorem DE(ar:∀a∈A,uu h A a){b:af}{u:HO}(q:r8 K h A b=some u):K.lookup b=none/\∃vs:List ak,vs.length<=aA/\(∀u∈vs,Rr A u)/\ ((h.get? b=some {cls:=.type "list",data:=.seq vs.toArray}/\u=.vp {cls:=.type "list",data:=.seq vs.toArray} (.lst (vs.map toV)))∨(h.get? b=some {cls:=.type "tuple",data:=.seq vs.toArray}/\u=.vp {cls:=.type "tuple",data:=.seq vs.toArray} (.tup (vs.map toV)))):=by
 obtain⟨hb,hk⟩:=WR q;refine cH ?_ (ar b hb);rintro vs h1 h2 h3;refine⟨hk,bP vs h1 h2 ?_⟩;rcases h3 with e|e
 ·rw[DD hb hk e,K2] at q;exact .inl ⟨e,(aX q).symm⟩
 ·rw[DD hb hk e,K3] at q;exact .inr ⟨e,(aX q).symm⟩
theorem Rt(ar:∀a∈A,uu h A a):X6 (r8 K h A):=λb=>by
 cases q:r8 K h A b with
 |none=>exact .inl rfl
 |some u=>
  obtain⟨_,vs,_,_,⟨_,e⟩|⟨_,e⟩⟩:=DE ar q
  ·exact .inr (qr _ _ (by rw[e]))
  ·exact .inr (qr _ _ (by rw[e]))
theorem WS(ar:∀a∈A,uu h A a):u5 P w (r8 K h A) h:=λb u q=>by
 obtain⟨_,vs,h1,h2,⟨e,rfl⟩|⟨e,rfl⟩⟩:=DE ar q
 ·exact⟨e,by rw[aa];exact h1,fu vs _ (r6 h2) e⟩
 ·exact⟨e,by rw[aa];exact h1,bq vs (r6 h2) (bP _ e rfl ⟨_,rfl⟩)⟩
theorem DF{c c':ak}{vs us:List ak}(e:(some {cls:=c,data:=.seq vs.toArray}:Option Obj)=some {cls:=c',data:=.seq us.toArray}):c=c'/\vs=us:=by
 have e1:=aX e;have e2:c=c':=congrArg Obj.cls e1;have e3:Data.seq vs.toArray=Data.seq us.toArray:=congrArg Obj.data e1;injection e3 with e4
 refine⟨e2,?_⟩;have e5:=congrArg F8 e4;simpa using e5
theorem agd(KX:K.In h)(ar:∀a∈A,uu h A a){a:af}{vs:List ak}(ha:a∈A)(e:h.get? a=some {cls:=.type "list",data:=.seq vs.toArray}):(∀u∈vs,Rr A u)/\bG K (r8 K h A) a (vs.map toV):=by
 refine cH ?_ (ar a ha);rintro us h1 h2 h3;have hu:us=vs:=by
  rcases h3 with q|q
  ·rw[e] at q;exact(DF q).2.symm
  ·rw[e] at q;exact absurd (Value.type.inj (DF q).1) (by decide)
 subst hu;refine⟨h2,?_⟩
 cases hk:K.lookup a with
 |none=>exact .inl (.inr ⟨_,by rw[DD ha hk e,K2]⟩)
 |some o=>have e2:=KX a o hk;rw[e] at e2;obtain rfl:=aX e2;exact .inr (iD _ us.toArray _ hk rfl rfl rfl ⟨by rw[bD];exact h1,by simpa using r6 h2⟩)
theorem age(KX:K.In h)(ar:∀a∈A,uu h A a){a:af}{vs:List ak}(ha:a∈A)(e:h.get? a=some {cls:=.type "tuple",data:=.seq vs.toArray}):(∀u∈vs,Rr A u)/\nY K (r8 K h A) a (vs.map toV):=by
 refine cH ?_ (ar a ha);rintro us h1 h2 h3;have hu:us=vs:=by
  rcases h3 with q|q
  ·rw[e] at q;exact absurd (Value.type.inj (DF q).1) (by decide)
  ·rw[e] at q;exact(DF q).2.symm
 subst hu;refine⟨h2,?_⟩
 cases hk:K.lookup a with
 |none=>exact .inl (.inr ⟨_,by rw[DD ha hk e,K3]⟩)
 |some o=>have e2:=KX a o hk;rw[e] at e2;obtain rfl:=aX e2;exact .inr (iD _ us.toArray _ hk rfl rfl (by rw[bD];exact h1) (by simpa using r6 h2))
mutual
theorem Zr{Pm:Pu}(KX:K.In h)(ar:∀a∈A,uu h A a):∀(d:WData)(v:ak),Well Pm h v d->PZ d=true->Rr A v->Dw K (r8 K h A) (toV v) d
 |.none,_,x,_,_=>by
  cases x;exact .h9
 |.bool b,_,x,_,_=>by
  cases x;exact .bl b
 |.int i,_,x,_,_=>by
  cases x;exact .int i
 |.str s,_,x,_,_=>by
  cases x;exact .str s
 |.bytes b,_,x,_,_=>by
  cases x;have z:=Dw.Nc (K:=K) (H:=r8 K h A) b.toArray;exact z
 |.list ds,_,x,p,hu=>by refine j7 ?_ (HN x);rintro a vs rfl ho lj;obtain⟨h2,hs⟩:=agd KX ar hu ho;exact .lst hs (IY KX ar ds _ lj p h2)
 |.tuple ds,_,x,p,hu=>by refine j7 ?_ (D8 x);rintro a vs rfl ho lj;obtain⟨h2,hs⟩:=age KX ar hu ho;exact .tup hs (IY KX ar ds _ lj p h2)
 |.float _,_,_,p,_=>bN (show false=true from p)
 |.dict _,_,_,p,_=>bN (show false=true from p)
 |.bytearray _,_,_,p,_=>bN (show false=true from p)
 |.set _,_,_,p,_=>bN (show false=true from p)
 |.frozenset _,_,_,p,_=>bN (show false=true from p)
 |.obj _ _,_,_,p,_=>bN (show false=true from p)
theorem IY{Pm:Pu}(KX:K.In h)(ar:∀a∈A,uu h A a):∀(ds:List WData)(vs:List ak),WellAll Pm h vs ds->CZ ds=true->(∀u∈vs,Rr A u)->vI K (r8 K h A) (vs.map toV) ds
 |[],_,x,_,_=>by
  cases x;exact .nil
 |d::ds,_,x,p,hu=>by refine j7 ?_ (HP x);rintro v vs rfl x1 x2;have q:PZ d=true/\CZ ds=true:=VM.mp p;exact .cons (Zr KX ar d v x1 q.1 (hu _ (dc ..))) (IY KX ar ds vs x2 q.2 λu m=>hu u (bW _ m))
end
end
theorem D9{ds:List WData}(h:WData.layableAll ds=true):∀d∈ds,d.weight<=1048576:=λd hd=>(PySem.W.layableW_iff.mp (cj.mp h d hd)).2.2
theorem Ea:∀(cs:List Codec)(a:Codec.denoteAll cs),(Codec.encAll cs a).length=cs.length
 |[],_=>rfl
 |c::cs,a=>by show(Codec.encAll cs a.2).length+1=cs.length+1;rw[Ea cs a.2]
end
end L2
namespace Bm
open Vbslai
def sg(b:Nat):Nat:=if b=32 then 32 else if 97<=b/\b<=122 then b else if 48<=b/\b<=57 then b else 63
def iI(w:aH):aH:=w.map sg
theorem K4{b:Nat}:sg b=32↔b=32:=by unfold sg;split<;>(try split)<;>(try split)<;>omega
theorem Ua(b:Nat):i9 (sg b)=i9 b:=by
 unfold sg i9;by_cases h1:b=32
 ·subst h1;rfl
 ·rw[if_neg h1];by_cases h2:97<=b/\b<=122
  ·rw[if_pos h2]
  ·rw[if_neg h2];by_cases h3:48<=b/\b<=57
   ·rw[if_pos h3]
   ·rw[if_neg h3];have:(decide (97<=b)&&decide (b<=122))=false:=by
     rw[gM];by_cases h:97<=b
     ·right;simp;omega
     ·left;simp;omega
    rw[this];rfl
theorem Ub(b:Nat):eP (sg b)=eP b:=by
 unfold sg eP;by_cases h1:b=32
 ·subst h1;rfl
 ·rw[if_neg h1];by_cases h2:97<=b/\b<=122
  ·rw[if_pos h2]
  ·rw[if_neg h2];by_cases h3:48<=b/\b<=57
   ·rw[if_pos h3]
   ·rw[if_neg h3];have:(decide (48<=b)&&decide (b<=57))=false:=by
     rw[gM];by_cases h:48<=b
     ·right;simp;omega
     ·left;simp;omega
    rw[this];rfl
theorem K5{b:Nat}(h:i9 b=true):sg b=b:=by unfold i9 at h;simp at h;unfold sg;rw[if_neg (by omega),if_pos h]
theorem K6{b:Nat}(h:eP b=true):sg b=b:=by unfold eP at h;simp at h;unfold sg;rw[if_neg (by omega),if_neg (by omega),if_pos h]
theorem tE:∀w:aH,(iI w).all i9=w.all i9
 |[]=>rfl
 |a::l=>by show(i9 (sg a)&&(iI l).all i9)=(i9 a&&l.all i9);rw[Ua,tE l]
theorem Ae:∀w:aH,(iI w).all eP=w.all eP
 |[]=>rfl
 |a::l=>by show(eP (sg a)&&(iI l).all eP)=(eP a&&l.all eP);rw[Ub,Ae l]
theorem pF:∀{w:aH},w.all i9=true->iI w=w
 |[],_=>rfl
 |a::l,h=>by have h':(i9 a&&l.all i9)=true:=h;rw[aL] at h';show sg a::iI l=a::l;rw[K5 h'.1,pF h'.2]
theorem xm:∀{w:aH},w.all eP=true->iI w=w
 |[],_=>rfl
 |a::l,h=>by have h':(eP a&&l.all eP)=true:=h;rw[aL] at h';show sg a::iI l=a::l;rw[K6 h'.1,xm h'.2]
theorem nU(w:aH):(iI w).length=w.length:=aa ..
theorem yW(w:aH):dU (iI w)=dU w:=by unfold dU;rw[tE,nU]
theorem Af{w:aH}(h:dU w=true):w.all i9=true:=by unfold dU at h;simp only[aL] at h;exact h.2.2
theorem kh{w:aH}(h:dU w=true):iI w=w:=pF (Af h)
theorem BB{w:aH}(h:dU w=true):w≠[]:=by intro e;subst e;exact absurd h (by decide)
theorem gy{w:aH}(h:dU w=true):w.length<=10:=by unfold dU at h;simp only[aL,decide_eq_true_eq] at h;exact h.2.1
theorem tF{v w:aH}(hw:w.all i9=true):iI v=w↔v=w:=by
 constructor
 ·intro e;have h:v.all i9=true:=by rw[<-tE,e];exact hw
  rw[pF h] at e;exact e
 ·intro e;subst e;exact pF hw
def jA(st:List aH×aH)(b:Nat):List aH×aH:=if b=10 then(st.1++[st.2],[]) else(st.1,st.2++[b])
def Ru(st:List aH×aH):List aH:=if st.2≠[] then st.1++[st.2] else st.1
def glue(l:aH):List aH->List aH
 |[]=>[l]
 |w::ws=>(l++w)::ws
def Ck(p:List aH):List aH:=if p.getLast?=some [] then p.dropLast else p
theorem ki(c:Nat):∀l,gz c l≠[]
 |[]=>by simp[gz]
 |x::l=>by
  unfold gz;split
  ·simp
  ·cases gz c l<;>simp
theorem NQ{w:aH}{p:List aH}(h:p≠[]):Ck (w::p)=w::Ck p:=by
 unfold Ck
 cases p with
 |nil=>exact absurd rfl h
 |cons a r=>
  rw[List.getLast?_cons_cons];split
  ·rfl
  ·rfl
theorem yX:∀(r:aH)(ls:List aH)(l:aH),Ru (r.foldl jA (ls,l))=ls++Ck (glue l (gz 10 r))
 |[],ls,l=>by
  show Ru (ls,l)=ls++Ck [l++[]];rw[dM];unfold Ru Ck;by_cases h:l=[]
  ·subst h;simp
  ·simp[h]
 |b::r,ls,l=>by
  rw[bL];by_cases h:b=10
  ·have e:jA (ls,l) b=(ls++[l],[]):=by unfold jA;rw[if_pos h]
   have e2:gz 10 (b::r)=[]::gz 10 r:=by conv=>lhs;unfold gz;rw[if_pos h]
   rw[e,e2,yX r];show ls++[l]++Ck (glue [] (gz 10 r))=ls++Ck ((l++[])::gz 10 r);rw[dM,NQ (ki 10 r)];have eg:glue [] (gz 10 r)=gz 10 r:=by
    have:=ki 10 r
    cases q:gz 10 r with
    |nil=>exact absurd q this
    |cons a s=>rfl
   rw[eg];simp
  ·have e:jA (ls,l) b=(ls,l++[b]):=by unfold jA;rw[if_neg h]
   rw[e,yX r];have e2:glue (l++[b]) (gz 10 r)=glue l (gz 10 (b::r)):=by
    conv=>rhs;unfold gz;rw[if_neg h]
    cases q:gz 10 r with
    |nil=>exact absurd q (ki 10 r)
    |cons a s=>simp[glue]
   rw[e2]
theorem K7(t:aH):linesOf t=Ru (t.foldl jA ([],[])):=by
 rw[yX];have eg:glue [] (gz 10 t)=gz 10 t:=by
  cases q:gz 10 t with
  |nil=>exact absurd q (ki 10 t)
  |cons a s=>rfl
 rw[eg];rfl
theorem K8:∀l:aH,gz 32 (iI l)=(gz 32 l).map iI
 |[]=>rfl
 |x::l=>by
  show gz 32 (sg x::iI l)=_
  conv=>lhs;unfold gz
  conv=>rhs;unfold gz
  rw[K8 l];by_cases h:x=32
  ·rw[if_pos h,if_pos (K4.mpr h)];rfl
  ·rw[if_neg h,if_neg (λq=>h (K4.mp q))]
   cases gz 32 l with
   |nil=>rfl
   |cons a s=>rfl
theorem Uc(l:aH):wordsOf (iI l)=(wordsOf l).map iI:=by
 unfold wordsOf;rw[K8,nh];congr 1;apply ic;intro w _;show(!(iI w).isEmpty)=!w.isEmpty;cases w<;>rfl
def isNum(w:aH):Bool:=!w.isEmpty&&(w.all eP&&(w==[48]||w.head? !=some 48))
def fA(lo hi:Nat)(w:aH):Bool:=isNum w&&(decide (w.length<=7)&&(decide (lo<=value w)&&decide (value w<=hi)))
theorem Eb:∀(w:aH)(n:Nat),w.foldl (λn c=>10*n+(c-48)) n≥n*10^w.length
 |[],n=>by simp
 |a::l,n=>by rw[bL];refine ao ?_ (Eb l _);rw[aW,aim,<-afn,Nat.mul_right_comm];exact eD _ (by omega)
theorem Rv{w:aH}(hd:w.all eP=true)(h8:w.length=8)(h0:w.head?≠some 48):10^7<=value w:=by
 cases w with
 |nil=>simp at h8
 |cons a l=>
  have h':(eP a&&l.all eP)=true:=hd;rw[aL] at h';have ha:=h'.1;unfold eP at ha;simp at ha;have k9:a≠48:=λe=>h0 (by rw[e];rfl);have hl:l.length=7:=by simpa using h8
  unfold value;rw[bL];refine ao ?_ (Eb l _);rw[hl];have:1<=10*0+(a-48):=by omega
  calc 10^7=1*10^7:=by rw[VW]
   _<=_:=eD _ this
theorem K9{lo hi:Nat}(hhi:hi<10^7)(w:aH):numberIn lo hi w=if fA lo hi w=true then some (value w) else none:=by
 unfold numberIn fA isNum;by_cases he:w.isEmpty=true
 ·rw[if_pos (.inl he),he];rfl
 ·have rA:w.isEmpty=false:=by simpa using he
  by_cases hd:w.all eP=false
  ·rw[if_pos (.inr (.inl hd)),hd,rA];rfl
  ·have QX:w.all eP=true:=by simpa using hd
   by_cases h0:1<w.length/\w.head?=some 48
   ·rw[if_pos (.inr (.inr (.inr h0)))];have n1:(w==[48])=false:=by rw[beq_eq_false_iff_ne];intro e;rw[e] at h0;simp at h0
    have n2:(w.head? !=some 48)=false:=by rw[h0.2];simp
    rw[n1,n2];simp
   ·by_cases h8:8<w.length
    ·rw[if_pos (.inr (.inr (.inl h8)))];have:decide (w.length<=7)=false:=by simp;omega
     rw[this];simp
    ·rw[if_neg (by
      intro q;rcases q with q|q|q|q
      ·exact he q
      ·exact hd q
      ·exact h8 q
      ·exact h0 q)]
     have hn:(w==[48]||w.head? !=some 48)=true:=by
      cases w with
      |nil=>simp at rA
      |cons a l=>
       by_cases ha:a=48
       ·subst ha
        cases l with
        |nil=>simp
        |cons b r=>exact absurd ⟨by simp,rfl⟩ h0
       ·have:((a::l).head? !=some 48)=true:=by simp[ha]
        rw[this];simp
     rw[QX,rA,hn];by_cases h7:w.length<=7
     ·simp only[h7,decide_true,aeu,m8,Po,aL,decide_eq_true_eq]
     ·have h88:w.length=8:=by omega
      have hb:=Rv QX h88 (by intro q;exact h0 ⟨by omega,q⟩);have:decide (w.length<=7)=false:=by simp;omega
      rw[this];rw[if_neg (by omega)];simp
theorem Rw(w:aH):isNum (iI w)=isNum w:=by
 unfold isNum;rw[Ae];by_cases hd:w.all eP=true
 ·rw[xm hd]
 ·have QX:w.all eP=false:=by simpa using hd
  rw[QX];simp
theorem Rx(lo hi:Nat)(w:aH):fA lo hi (iI w)=fA lo hi w:=by
 unfold fA;by_cases hd:w.all eP=true
 ·rw[xm hd]
 ·have QX:w.all eP=false:=by simpa using hd
  have:isNum w=false:=by unfold isNum;rw[QX];simp
  rw[Rw,this];rfl
theorem vK{lo hi:Nat}{w:aH}(h:fA lo hi w=true):w.all eP=true:=by unfold fA isNum at h;simp only[aL] at h;exact h.1.2.1
theorem tG{lo hi:Nat}(hhi:hi<10^7):∀ws:List aH,numbersIn lo hi ws=if ws.all (fA lo hi)=true then some (ws.map value) else none
 |[]=>rfl
 |w::l=>by
  unfold numbersIn;rw[K9 hhi,tG hhi l,d5];by_cases h1:fA lo hi w=true
  ·rw[if_pos h1,h1];by_cases h2:l.all (fA lo hi)=true
   ·rw[if_pos h2,h2];rfl
   ·rw[if_neg h2];have:l.all (fA lo hi)=false:=by simpa using h2
    rw[this];rfl
  ·rw[if_neg h1];have:fA lo hi w=false:=by simpa using h1
   rw[this];rfl
def o9(s:List Nat):Bool:=(s.zip s.tail).all λp=>decide (p.1<p.2)&&p.2%p.1==0
def mC(s:List Nat):Bool:=(s.zip s.tail).all λp=>decide (p.1<=p.2)
theorem HQ:∀s:List Nat,nested s=o9 s
 |[]=>rfl
 |[a]=>rfl
 |a::b::l=>by unfold nested;rw[HQ (b::l)];unfold o9;simp[Ds,oF]
theorem HR:∀s:List Nat,rising s=mC s
 |[]=>rfl
 |[a]=>rfl
 |a::b::l=>by unfold rising;rw[HR (b::l)];unfold mC;simp[Ds]
theorem tH:∀l:List aH,distinct l=true↔l.Nodup
 |[]=>by simp[distinct]
 |x::l=>by unfold distinct;rw[aL,tH l,dY];simp
theorem vL{α β:Type}{f:α->β}:∀{l:List α},(l.map f).Nodup->∀{x y:α},x∈l->y∈l->f x=f y->x=y
 |[],_,_,_,h,_,_=>by cases h
 |a::l,nd,x,y,hx,hy,e=>by
  rw[br,dY] at nd;rcases aB.mp hx with h1|h1
  ·rcases aB.mp hy with h2|h2
   ·rw[h1,h2]
   ·exact absurd (au.mpr (bq y h2 (e.symm.trans (by rw[h1])))) nd.1
  ·rcases aB.mp hy with h2|h2
   ·exact absurd (au.mpr (bq x h1 (e.trans (by rw[h2])))) nd.1
   ·exact vL nd.2 h1 h2 e
abbrev Up:=List (aH×Option aH)
def chainOf(up:Up)(w:aH):List aH:=w::above up ka w
def gk(up:Up):List (List aH):=up.map λx=>chainOf up x.1
structure mE(up:Up):Prop where
 nd:(up.map (·.1)).Nodup
 cl:∀x∈up,∀v,x.2=some v->v∈up.map (·.1)
 sh:∀x∈up,(above up ka x.1).length<=2
 nm:∀x∈up,dU x.1=true
 le:up.length<=ka
theorem nL{up:Up}{w:aH}(h:w∈up.map (·.1)):∃x,up.find? (λx=>x.1==w)=some x/\x∈up/\x.1=w:=by
 cases e:up.find? (λx=>x.1==w) with
 |some x=>refine bP x rfl (jd e) ?_;have:=abU e;simpa using this
 |none=>rw[nq] at e;obtain⟨x,hx,ex⟩:=au.mp h;exact absurd (e x hx) (by simp[ex])
theorem Ry{up:Up}{x:aH×Option aH}{w:aH}(h:w∈up.map (·.1)):(up++[x]).find? (λx=>x.1==w)=up.find? (λx=>x.1==w):=by refine cH ?_ (nL h);rintro y e _ _;rw[YC,e];rfl
theorem pR{up:Up}{x:aH×Option aH}(cl:∀x∈up,∀v,x.2=some v->v∈up.map (·.1)):∀(f:Nat)(w:aH),w∈up.map (·.1)->above (up++[x]) f w=above up f w
 |0,_,_=>rfl
 |f+1,w,h=>by
  unfold above;rw[Ry h];refine cH ?_ (nL h);rintro y e hy ey;rw[e];obtain⟨a,o⟩:=y
  cases o with
  |none=>rfl
  |some v=>show v::above (up++[x]) f v=v::above up f v;rw[pR cl f v (cl _ hy v rfl)]
theorem Ec{up:Up}:∀(f:Nat)(w:aH),(above up (f+1) w).length<=f->above up f w=above up (f+1) w
 |0,w,h=>by have h':(above up 1 w).length<=0:=h;have:above up 1 w=[]:=gc.mp (by omega);show[]=above up 1 w;rw[this]
 |f+1,w,h=>by
  unfold above at h⊢
  cases e:up.find? (λx=>x.1==w) with
  |none=>rfl
  |some y=>
   rw[e] at h;obtain⟨a,o⟩:=y
   cases o with
   |none=>rfl
   |some v=>show v::above up f v=v::above up (f+1) v;have h':(v::above up (f+1) v).length<=f+1:=h;rw[Ec f v (by simpa using h')]
theorem La{up:Up}{n:aH}{o:Option aH}(hn:¬n∈up.map (·.1)):(up++[(n,o)]).find? (λx=>x.1==n)=some (n,o):=by
 rw[YC];have:up.find? (λx=>x.1==n)=none:=by rw[nq];intro x hx;simp;intro e;exact hn (au.mpr (bq x hx e))
 rw[this];simp
theorem vM{up:Up}{n:aH}(hn:¬n∈up.map (·.1)):above (up++[(n,none)]) ka n=[]:=by show above (up++[(n,none)]) (29+1) n=[];unfold above;rw[La hn]
theorem vN{up:Up}{n v:aH}(ok:mE up)(hn:¬n∈up.map (·.1))(hv:v∈up.map (·.1)):above (up++[(n,some v)]) ka n=v::above up ka v:=by
 show above (up++[(n,some v)]) (29+1) n=v::above up (29+1) v
 conv=>lhs;unfold above
 rw[La hn];show v::above (up++[(n,some v)]) 29 v=v::above up (29+1) v;rw[pR ok.cl 29 v hv];obtain⟨x,hx,ex⟩:=au.mp hv;have:=ok.sh x hx;rw[ex] at this;rw[Ec 29 v (by show(above up ka v).length<=29;omega)]
theorem Cm{up:Up}{x:aH×Option aH}(ok:mE up):gk (up++[x])=gk up++[chainOf (up++[x]) x.1]:=by unfold gk;rw[bw];congr 1;apply dh;intro y hy;unfold chainOf;rw[pR ok.cl _ _ (au.mpr (bq y hy rfl))]
theorem Lb{up:Up}{n:aH}(ok:mE up)(hn:¬n∈up.map (·.1)):gk (up++[(n,none)])=gk up++[[n]]:=by rw[Cm ok];unfold chainOf;rw[vM hn]
theorem Lc{up:Up}{n v:aH}(ok:mE up)(hn:¬n∈up.map (·.1))(hv:v∈up.map (·.1)):gk (up++[(n,some v)])=gk up++[n::chainOf up v]:=by rw[Cm ok];show gk up++[n::above (up++[(n,some v)]) ka n]=_;rw[vN ok hn hv];rfl
theorem xl{up:Up}{n:aH}{o:Option aH}(h:(up.map (·.1)).Nodup)(hn:¬n∈up.map (·.1)):((up++[(n,o)]).map (·.1)).Nodup:=by
 rw[bw,kU];refine⟨h,by simp,λa ha b hb e=>?_⟩;have:b=n:=by simpa using hb
 exact hn (by rw[<-this,<-e];exact ha)
theorem mE.none{up:Up}{n:aH}(ok:mE up)(hn:¬n∈up.map (·.1))(nm:dU n=true)(hl:up.length<ka):mE (up++[(n,none)]) where
 nd:=xl ok.nd hn
 cl:=λx hx v e=>by
  rw[bw];rcases aE.mp hx with h|h
  ·exact eC _ (ok.cl x h v e)
  ·rw[b8.mp h] at e;cases e
 sh:=λx hx=>by
  rcases aE.mp hx with h|h
  ·rw[pR ok.cl _ _ (au.mpr (bq x h rfl))];exact ok.sh x h
  ·rw[b8.mp h,vM hn];simp
 nm:=λx hx=>by
  rcases aE.mp hx with h|h
  ·exact ok.nm x h
  ·rw[b8.mp h];exact nm
 le:=by rw[aP];exact hl
theorem mE.some{up:Up}{n v:aH}(ok:mE up)(hn:¬n∈up.map (·.1))(nm:dU n=true)(hl:up.length<ka)(hv:v∈up.map (·.1))(h2:(above up ka v).length<2):mE (up++[(n,some v)]) where
 nd:=xl ok.nd hn
 cl:=λx hx u e=>by
  rw[bw];rcases aE.mp hx with h|h
  ·exact eC _ (ok.cl x h u e)
  ·rw[b8.mp h] at e;cases e;exact eC _ hv
 sh:=λx hx=>by
  rcases aE.mp hx with h|h
  ·rw[pR ok.cl _ _ (au.mpr (bq x h rfl))];exact ok.sh x h
  ·rw[b8.mp h];show(above (up++[(n,ajW v)]) ka n).length<=2;rw[vN ok hn hv];simp;omega
 nm:=λx hx=>by
  rcases aE.mp hx with h|h
  ·exact ok.nm x h
  ·rw[b8.mp h];exact nm
 le:=by rw[aP];exact hl
theorem mE.nil:mE []:=⟨by simp,by simp,by simp,by simp,by simp⟩
theorem NR{up:Up}(ok:mE up){x:aH×Option aH}(hx:x∈up):above up ka x.1=match x.2 with
  |Bg=>[]
  |ajW v=>v::above up 29 v:=by
 show above up (29+1) x.1=_;unfold above;refine cH ?_ (nL (au.mpr (bq x hx rfl):x.1∈up.map (·.1)));rintro y e hy ey;have:y=x:=vL ok.nd hy hx ey;rw[e,this];obtain⟨a,o⟩:=x;cases o<;>rfl
def longest(cs:List (List aH)):Nat:=cs.foldl (λm c=>max m c.length) 0
theorem vO{α:Type}(g:α->Nat):∀(l:List α)(m:Nat),l.foldl (λm c=>max m (g c+1)) (m+1)=l.foldl (λm c=>max m (g c)) m+1
 |[],m=>rfl
 |a::l,m=>by
  rw[bL,bL];have:max (m+1) (g a+1)=max m (g a)+1:=by omega
  rw[this,vO g l]
theorem IZ(cs:List (List aH))(c:List aH):longest (cs++[c])=max (longest cs) c.length:=by unfold longest;rw[ju];rfl
theorem vP{up:Up}(h:up≠[]):longest (gk up)=height up+1:=by
 unfold longest gk height;rw[M8,M8];show up.foldl (λm x=>max m ((above up ka x.1).length+1)) 0=_
 cases up with
 |nil=>exact absurd rfl h
 |cons a l=>
  rw[bL,bL];have e:max 0 ((above (a::l) ka a.1).length+1)=(max 0 (above (a::l) ka a.1).length)+1:=by omega
  rw[e,vO]
def newName(f:d8)(n:aH):Bool:=dU n&&(decide (n≠f.secret)&&!(f.columns.map (·.name)).contains n)
theorem Ed(f:d8)(n:aH):f.columns.any (λc=>c.name==n)=(f.columns.map (·.name)).contains n:=by rw[vf,rL];congr 1;funext c;show(c.name==n)=(n==c.name);exact afo
theorem r9(f:d8)(a:aH):j6 f [a]=none:=rfl
theorem Ag(f:d8)(n:aH)(rest:List aH):j6 f (text "numbers"::n::rest)=
  if(decide (rest.length<=2)&&(rest.all (fA 2 1000000)&&(o9 (rest.map value)&&(decide (f.columns.length<4)&&newName f n))))=true
  then some {f with columns:=f.columns++[{name:=n,kind:=.numbers (rest.map value),costs:=[]}]} else none:=by
 unfold j6;dsimp only;rw[if_pos rfl,tG (show MOST<10^7 by decide),Ed];unfold newName;by_cases h1:dU n=true
 ·by_cases h2:(f.columns.map (·.name)).contains n=true
  ·rw[if_neg (by intro q;rw[h2] at q;exact absurd q.2.1 (by simp)),h2];simp
  ·have h2':(f.columns.map (·.name)).contains n=false:=by simpa using h2
   by_cases h3:n≠f.secret
   ·by_cases h4:f.columns.length<COLUMNS
    ·rw[if_pos ⟨h1,h2',h3,h4⟩,h1,h2'];have h4':f.columns.length<4:=h4;show(if rest.all (fA 2 1000000)=true then some (rest.map value) else none).bind _=_;by_cases h5:rest.all (fA 2 1000000)=true
     ·rw[if_pos h5,h5];show(if(rest.map value).length<=STEPS/\nested (rest.map value)=true then _ else none)=_;rw[HQ,aa];simp only[h3,h4',decide_true,ne_eq,not_false_eq_true,m8,Po,aeu,aL,decide_eq_true_eq];rfl
     ·have h5':rest.all (fA 2 1000000)=false:=by simpa using h5
      rw[if_neg h5,h5'];simp
    ·have h4':¬f.columns.length<4:=h4;rw[if_neg (by intro q;exact h4 q.2.2.2)];simp[h4']
   ·rw[if_neg (by intro q;exact h3 q.2.2.1)];simp only[ne_eq,Decidable.not_not] at h3;simp[h3]
 ·rw[if_neg (by intro q;exact h1 q.1)];have:dU n=false:=by simpa using h1
  rw[this];simp
theorem yY(f:d8)(n:aH)(rest:List aH):j6 f (text "words"::n::rest)=
  if(rest.isEmpty&&(decide (f.columns.length<4)&&newName f n))=true
  then some {f with columns:=f.columns++[{name:=n,kind:=.words [],costs:=[]}]} else none:=by
 unfold j6;dsimp only;rw[if_neg (by decide),if_pos rfl,Ed];unfold newName;by_cases h:dU n=true/\(f.columns.map (·.name)).contains n=false/\n≠f.secret/\f.columns.length<COLUMNS/\rest=[]
 ·rw[if_pos h,if_pos];obtain⟨a,b,c,d,e⟩:=h;have d':f.columns.length<4:=d;rw[a,b,e];simp[c,d']
 ·rw[if_neg h,if_neg];intro q;simp only[aL,decide_eq_true_eq,jv,aaV] at q;exact h ⟨q.2.2.1,q.2.2.2.2,q.2.2.2.1,q.2.1,q.1⟩
theorem qF(f:d8)(n:aH)(rest:List aH):j6 f (text "secret"::n::rest)=
  if(decide (f.secret=[])&&(decide (2<=rest.length)&&(decide (rest.length<=12)&&(newName f n&&(rest.all dU&&distinct rest)))))=true
  then some {f with secret:=n,values:=rest} else none:=by
 unfold j6;dsimp only;rw[if_neg (by decide),if_neg (by decide),if_neg (by decide),if_neg (by decide),if_pos rfl,Ed];unfold newName;by_cases h:f.secret=[]/\dU n=true/\(f.columns.map (·.name)).contains n=false/\2<=rest.length/\rest.length<=VALUES/\rest.all dU=true/\distinct rest=true
 ·rw[if_pos h,if_pos];obtain⟨a,b,c,d,e,g,i⟩:=h;have e':rest.length<=12:=e;have k9:=BB b;rw[b,c,g,i,a];simp[d,e',k9]
 ·rw[if_neg h,if_neg];intro q;simp only[aL,decide_eq_true_eq,jv] at q;exact h ⟨q.1,q.2.2.2.1.1,q.2.2.2.1.2.2,q.2.1,q.2.2.1,q.2.2.2.2.1,q.2.2.2.2.2⟩
theorem yZ(f:d8)(a:aH)(rest:List aH)(h1:a≠text "numbers")(h2:a≠text "words")(h3:a≠text "word")(h4:a≠text "costs")(h5:a≠text "secret"):j6 f (a::rest)=none:=by
 cases rest with
 |nil=>rfl
 |cons n rest=>unfold j6;dsimp only;rw[if_neg h1,if_neg h2,if_neg h3,if_neg h4,if_neg h5]
def mF(up:Up)(n:aH)(rest:List aH):Option (aH×Option aH):=match rest with
 |[]=>some (n,none)
 |[o,v]=>if o=text "of"/\v∈up.map (·.1)/\(above up ka v).length<2 then some (n,some v) else none
 |_=>none
theorem Ud(up:Up)(n:aH):up.any (λx=>x.1==n)=(up.map (·.1)).contains n:=by rw[vf,rL];congr 1;funext c;show(c.1==n)=(n==c.1);exact afo
theorem HS{f:d8}{c:bA}{cs:List bA}{up:Up}(hf:f.columns=cs++[c])(hk:c.kind=.words up)(hc:c.costs=[])(n:aH)(rest:List aH):j6 f (text "word"::n::rest)=
  if(dU n&&(decide (up.length<30)&&!(up.map (·.1)).contains n))=true then(mF up n rest).map λx=>{f with columns:=cs++[{c with kind:=.words (up++[x])}]} else none:=by
 unfold j6;dsimp only;rw[if_neg (by decide),if_neg (by decide),if_pos rfl,hf];rw[A7,js];show(match c.kind with|.words up=>_|.numbers _=>none)=_;rw[hk];show(if c.costs=[]/\dU n=true/\up.any (λx=>x.1==n)=false/\up.length<ka then _ else none)=_;rw[Ud];by_cases h:c.costs=[]/\dU n=true/\(up.map (·.1)).contains n=false/\up.length<ka
 ·rw[if_pos h,if_pos (by have h4:up.length<30:=h.2.2.2;rw[h.2.1,h.2.2.1];simp[h4])];unfold mF
  match rest with
  |[]=>rfl
  |[o]=>rfl
  |[o,v]=>
   show(if o=text "of"/\up.any (λx=>x.1==v)=true/\(above up ka v).length<2 then _ else none)=_;rw[Ud];by_cases q:o=text "of"/\v∈up.map (·.1)/\(above up ka v).length<2
   ·rw[if_pos ⟨q.1,by simpa using q.2.1,q.2.2⟩];show _=anb _ (if o=text "of"/\v∈up.map (·.1)/\(above up ka v).length<2 then some (n,some v) else none);rw[if_pos q];rfl
   ·rw[if_neg (λz=>q ⟨z.1,by simpa using z.2.1,z.2.2⟩)];show _=anb _ (if o=text "of"/\v∈up.map (·.1)/\(above up ka v).length<2 then some (n,some v) else none);rw[if_neg q];rfl
  |_::_::_::_=>rfl
 ·rw[if_neg h,if_neg];intro q;simp only[aL,decide_eq_true_eq,jv] at q;exact h ⟨hc,q.1,q.2.2,q.2.1⟩
theorem yh{f:d8}{c:bA}{cs:List bA}{s:List Nat}(hf:f.columns=cs++[c])(hk:c.kind=.numbers s)(rest:List aH):j6 f (text "word"::rest)=none:=by
 cases rest with
 |nil=>rfl
 |cons n rest=>unfold j6;dsimp only;rw[if_neg (by decide),if_neg (by decide),if_pos rfl,hf,A7];show(match c.kind with|.words up=>_|.numbers _=>none)=_;rw[hk]
def filled(k:Kind):Bool:=match k with
 |.words up=>!up.isEmpty
 |.numbers _=>true
theorem Ee{f:d8}{c:bA}{cs:List bA}(hf:f.columns=cs++[c])(hc:c.costs=[])(rest:List aH):j6 f (text "costs"::rest)=
  if(filled c.kind&&(decide (rest.length=levels c.kind)&&(rest.all (fA 0 10000)&&mC (rest.map value))))=true then some {f with columns:=cs++[{c with costs:=rest.map value}]} else none:=by
 cases rest with
 |nil=>
  rw[r9,if_neg];intro q;simp only[aL,decide_eq_true_eq] at q;have h0:2<=levels c.kind:=by
   unfold levels
   cases c.kind with
   |numbers s=>exact yM _ _
   |words u=>exact yM _ _
  have:=q.2.1;have:0=levels c.kind:=this;omega
 |cons n rest=>
  unfold j6;dsimp only;rw[if_neg (by decide),if_neg (by decide),if_neg (by decide),if_pos rfl,hf,A7,js];show(if c.costs=[] then _ else none)=_;rw[if_pos hc,tG (show COST<10^7 by decide)];show(if(n::rest).all (fA 0 10000)=true then some ((n::rest).map value) else none).bind _=_;by_cases h:(n::rest).all (fA 0 10000)=true
  ·rw[if_pos h,h];show(if((n::rest).map value).length=levels c.kind/\rising ((n::rest).map value)=true/\filled c.kind=true then _ else none)=_;rw[HR,aa];by_cases q:(n::rest).length=levels c.kind/\mC ((n::rest).map value)=true/\filled c.kind=true
   ·rw[if_pos q,if_pos (by rw[q.2.1,q.2.2,decide_eq_true q.1];rfl)];rfl
   ·rw[if_neg q,if_neg];intro z;simp only[aL,decide_eq_true_eq,m8] at z;exact q ⟨z.2.1,z.2.2,z.1⟩
  ·have h':(n::rest).all (fA 0 10000)=false:=by simpa using h
   rw[if_neg h,h',if_neg (by simp)];rfl
section
variable{α:Type}[DecidableEq α]
def Cn(acc:List α)(x:α):List α:=if x∈acc then acc else acc++[x]
def dd(l:List α):List α:=l.foldl Cn []
theorem HU(l:List α):dd l=l.foldl Cn []:=rfl
theorem P1{acc:List α}{x y:α}:y∈Cn acc x↔y∈acc∨y=x:=by
 unfold Cn;split
 ·rename_i h;constructor
  ·exact .inl
  ·rintro(q|q)
   ·exact q
   ·rw[q];exact h
 ·simp
theorem Zs{acc:List α}{x:α}(h:acc.Nodup):(Cn acc x).Nodup:=by
 unfold Cn;split
 ·exact h
 ·rename_i q;rw[kU];refine⟨h,by simp,λa ha b hb e=>?_⟩;have:b=x:=by simpa using hb
  exact q (by rw[<-this,<-e];exact ha)
theorem yi:∀(l acc:List α)(y:α),y∈l.foldl Cn acc↔y∈acc∨y∈l
 |[],acc,y=>by simp
 |a::l,acc,y=>by rw[bL,yi l,P1,aB,or_assoc]
theorem Ah:∀(l acc:List α),acc.Nodup->(l.foldl Cn acc).Nodup
 |[],acc,h=>h
 |a::l,acc,h=>Ah l _ (Zs h)
theorem Ef{l:List α}{y:α}:y∈dd l↔y∈l:=by rw[HU,yi];simp
theorem acS(l:List α):(dd l).Nodup:=by rw[HU];exact Ah l [] (by simp)
theorem Ja(l:List α)(x:α):dd (l++[x])=Cn (dd l) x:=by rw[HU,ju];rfl
theorem tI:∀(l acc:List α),(l.foldl Cn acc).length<=acc.length+l.length
 |[],acc=>aK _
 |a::l,acc=>by
  refine ao (tI l _) ?_;unfold Cn;split
  ·rw[aW];omega
  ·rw[aW,aP,oZ];omega
theorem Ue(l:List α):(dd l).length<=l.length:=by have:=tI l [];rw[HU];simpa using this
theorem uv:∀(l acc:List α),l.Nodup->(∀x∈l,¬x∈acc)->l.foldl Cn acc=acc++l
 |[],acc,_,_=>by simp
 |a::l,acc,nd,h=>by
  rw[dY] at nd;rw[bL];have:Cn acc a=acc++[a]:=by unfold Cn;rw[if_neg (h a (.head _))]
  rw[this,uv l _ nd.2 (λx hx hm=>?_)]
  ·simp
  ·rcases aE.mp hm with q|q
   ·exact h x (.tail _ hx) q
   ·exact nd.1 (by rw[<-b8.mp q];exact hx)
theorem Ug{l:List α}(h:l.Nodup):dd l=l:=by rw[HU,uv l [] h (by simp)];simp
theorem P2{α:Type}[DecidableEq α]:∀{l m:List α},l.Nodup->(∀x∈l,x∈m)->l.length<=m.length
 |[],m,_,_=>bE _
 |a::l,m,nd,h=>by
  rw[dY] at nd;have ha:a∈m:=h a (.head _);have:l.length<=(m.erase a).length:=P2 nd.2 λx hx=>by have k9:x≠a:=λe=>nd.1 (by rw[<-e];exact hx);exact(List.mem_erase_of_ne k9).mpr (h x (.tail _ hx))
  rw[List.length_erase_of_mem ha] at this;have:0<m.length:=List.length_pos_of_mem ha;simp;omega
theorem Uh{l m:List α}(h1:l.Nodup)(h2:m.Nodup)(h:∀x,x∈l↔x∈m):l.length=m.length:=Nat.le_antisymm (P2 h1 λx hx=>(h x).mp hx) (P2 h2 λx hx=>(h x).mpr hx)
theorem Eg{l:List α}:(dd l).length=l.length↔l.Nodup:=by
 constructor
 ·intro e;have key:∀(l acc:List α),acc.Nodup->(l.foldl Cn acc).length=acc.length+l.length->l.Nodup/\∀x∈l,¬x∈acc:=by
   intro l
   induction l with
   |nil=>intro acc _ _;exact⟨by simp,λx hx=>by cases hx⟩
   |cons a l ih=>
    intro acc nd e;rw[bL] at e;by_cases h:a∈acc
    ·have:Cn acc a=acc:=by unfold Cn;rw[if_pos h]
     rw[this] at e;have:=tI l acc;simp at e;omega
    ·have:Cn acc a=acc++[a]:=by unfold Cn;rw[if_neg h]
     rw[this] at e;obtain⟨h1,h2⟩:=ih (acc++[a]) (by rw[kU];exact⟨nd,by simp,λx hx b hb q=>h (by rw[<-b8.mp hb,<-q];exact hx)⟩) (by rw[e,aP,aW,oZ];omega);refine⟨dY.mpr ⟨λhm=>h2 a hm (by simp),h1⟩,λx hx hm=>?_⟩;rcases aB.mp hx with q|q
     ·exact h (by rw[<-q];exact hm)
     ·exact h2 x q (eC _ hm)
  exact(key l [] (by simp) (by rw[HU] at e;simpa using e)).1
 ·intro h;rw[Ug h]
end
theorem lookup_mem{β:Type}:∀{l:List (Nat×β)}{k:Nat}{v:β},l.lookup k=some v->(k,v)∈l
 |(a,b)::l,k,v,h=>by
  rw[dq] at h;by_cases e:k==a
  ·rw[e] at h;have e':k=a:=by simpa using e
   cases h;rw[e'];exact .head _
  ·rw[show(k==a)=false by simpa using e] at h;exact .tail _ (lookup_mem h)
theorem yj{β:Type}:∀{l:List (Nat×β)}{k:Nat}{v:β},(l.map (·.1)).Nodup->(k,v)∈l->l.lookup k=some v
 |(a,b)::l,k,v,nd,h=>by
  rw[br,dY] at nd;rw[dq];rcases aB.mp h with q|q
  ·cases q;simp
  ·have:k≠a:=λe=>nd.1 (au.mpr (bq (k,v) q e));rw[show(k==a)=false by simpa using this];exact yj nd.2 q
theorem lookup_none{β:Type}{l:List (Nat×β)}{k:Nat}:l.lookup k=none↔¬k∈l.map (·.1):=by
 induction l with
 |nil=>simp
 |cons p l ih=>
  obtain⟨a,b⟩:=p;rw[dq,br,aB];by_cases e:k=a
  ·subst e;simp
  ·rw[show(k==a)=false by simpa using e];show l.lookup k=none↔_;rw[ih];simp[e]
theorem y6(cs:List bA)(ls:List Nat)(rows:List Row)(x:List aH):abZ (looks cs ls rows) x=rows.filter λr=>aF cs ls r==x:=by unfold abZ looks;rw[nh,aQ];show xg (λr=>r) _=_;rw[ain];rfl
theorem Jb(rows:List Row):Bj rows=dd (rows.map (·.secret)):=by unfold Bj dd;rw[M8];congr 1;funext l x;unfold Cn;simp
def V3(look:Row->List aH)(rows:List Row)(x:List aH):List Row:=rows.filter λr=>look r==x
def classOk(look:Row->List aH)(rows:List Row)(k u:Nat)(x:List aH):Bool:=enough k u (V3 look rows x)
theorem BC(cs:List bA)(ls:List Nat)(k u:Nat)(rows:List Row):ab0 cs ls k u rows=rows.filter λr=>!classOk (aF cs ls) rows k u (aF cs ls r):=by
 unfold ab0;dsimp only;have:(λx:Row×List aH=>!(enough k u (abZ (looks cs ls rows) x.2)))=λx=>!classOk (aF cs ls) rows k u x.2:=by funext x;rw[y6];rfl
 rw[this]
 conv=>lhs;unfold looks
 rw[nh,aQ];show xg (λr=>r) _=_;rw[ain];rfl
def y8(look:Row->List aH)(rows:List Row)(k u:Nat):List (Nat×List aH):=((dd (rows.map look)).filter λx=>classOk look rows k u x).flatMap λx=>(V3 look rows x).map λr=>(r.who,x)
theorem Ai{look:Row->List aH}{rows:List Row}{k u w:Nat}{x:List aH}:(w,x)∈y8 look rows k u↔∃r∈rows,r.who=w/\look r=x/\classOk look rows k u x=true:=by
 unfold y8;rw[jP];constructor
 ·rintro⟨y,hy,hm⟩;obtain⟨r,hr,e⟩:=au.mp hm;cases e;unfold V3 at hr;rw[bH] at hr hy;exact iL r hr.1 rfl (by simpa using hr.2) hy.2
 ·rintro⟨r,hr,rfl,rfl,ok⟩;refine bq (look r) (bH.mpr ⟨Ef.mpr (au.mpr (bq r hr rfl)),ok⟩) (au.mpr (bq r ?_ rfl));unfold V3;exact bH.mpr ⟨hr,by simp⟩
theorem P4{α β:Type}{f:α->List β}:∀{l:List α},l.Nodup->(∀x∈l,(f x).Nodup)->(∀x∈l,∀y∈l,∀z,z∈f x->z∈f y->x=y)->(l.flatMap f).Nodup
 |[],_,_,_=>by simp
 |a::l,nd,h1,h2=>by rw[dY] at nd;rw[ie,kU];refine⟨h1 a (.head _),P4 nd.2 (λx hx=>h1 x (.tail _ hx)) (λx hx y hy=>h2 x (.tail _ hx) y (.tail _ hy)),λx hx y hy e=>?_⟩;subst e;obtain⟨b,hb,hm⟩:=jP.mp hy;have:=h2 a (.head _) b (.tail _ hb) x hx hm;exact nd.1 (by rw[this];exact hb)
theorem GL{α β:Type}{f:α->β}{p:α->Bool}{l:List α}(h:(l.map f).Nodup):((l.filter p).map f).Nodup:=by exact h.sublist (fw.map f)
theorem Aj{look:Row->List aH}{rows:List Row}{k u:Nat}(nd:(rows.map (·.who)).Nodup):((y8 look rows k u).map (·.1)).Nodup:=by
 unfold y8;rw[aaX];refine P4 ((acS _).sublist fw) (λx _=>?_) (λx _ y _ z hx hy=>?_)
 ·rw[aQ];show((V3 look rows x).map (·.who)).Nodup;exact GL nd
 ·rw[aQ] at hx hy;obtain⟨r,hr,e1⟩:=au.mp hx;obtain⟨t,ht,e2⟩:=au.mp hy;unfold V3 at hr ht;rw[bH] at hr ht;have:r=t:=vL nd hr.1 ht.1 (by rw[show r.who=z from e1,show t.who=z from e2]);subst this;have a:look r=x:=by simpa using hr.2
  have b:look r=y:=by simpa using ht.2
  rw[<-a,<-b]
structure Rl where
 levels:List Nat
 k:Nat
 u:Nat
 lk:List (Nat×List aH)
 left:Nat
structure y9(cs:List bA)(rows:List Row)(z:Rl)(q:fV):Prop where
 lv:z.levels=q.levels
 k:z.k=q.alike
 u:z.u=q.unlike
 left:z.left=q.out.length
 nd:(z.lk.map (·.1)).Nodup
 V4:q.has.Nodup
 mem:∀w,w∈z.lk.map (·.1)↔w∈q.has
 look:∀r∈rows,r.who∈q.has->z.lk.lookup r.who=some (aF cs q.levels r)
theorem y9.len{cs:List bA}{rows:List Row}{z:Rl}{q:fV}(h:y9 cs rows z q):z.lk.length=q.has.length:=by have:=Uh h.nd h.V4 h.mem;rw[aa] at this;exact this
theorem y9.isSome{cs:List bA}{rows:List Row}{z:Rl}{q:fV}(h:y9 cs rows z q)(w:Nat):(z.lk.lookup w).isSome=q.has.contains w:=by
 cases e:z.lk.lookup w with
 |none=>have:=lookup_none.mp e;rw[h.mem] at this;simp[this]
 |some v=>have:w∈z.lk.map (·.1):=au.mpr (ag (lookup_mem e) rfl);rw[h.mem] at this;simp[this]
def iF(cs:List bA)(rows:List Row)(ls:List Nat)(k u:Nat):Rl:=⟨ls,k,u,y8 (aF cs ls) rows k u,rows.length-(y8 (aF cs ls) rows k u).length⟩
theorem P5{cs:List bA}{rows:List Row}{ls:List Nat}{k u:Nat}(nd:(rows.map (·.who)).Nodup){r:Row}(hr:r∈rows):r.who∈(cE cs rows ls k u).out↔classOk (aF cs ls) rows k u (aF cs ls r)=false:=by
 unfold cE;dsimp only;rw[BC];constructor
 ·intro h;obtain⟨t,ht,e⟩:=au.mp h;rw[bH] at ht;have:t=r:=vL nd ht.1 hr e;subst this;simpa using ht.2
 ·intro h;exact au.mpr (bq r (bH.mpr ⟨hr,by simp[h]⟩) rfl)
theorem xo{cs:List bA}{rows:List Row}{ls:List Nat}{k u:Nat}(nd:(rows.map (·.who)).Nodup){r:Row}(hr:r∈rows):r.who∈(cE cs rows ls k u).has↔classOk (aF cs ls) rows k u (aF cs ls r)=true:=by
 have h:=P5 (cs:=cs) (ls:=ls) (k:=k) (u:=u) nd hr;constructor
 ·intro hm;have hm':r.who∈(rows.map λr=>r.who).filter λw=>!((cE cs rows ls k u).out.contains w):=hm;rw[bH] at hm';have:¬r.who∈(cE cs rows ls k u).out:=by simpa using hm'.2
  rw[h] at this;simpa using this
 ·intro ok;have:¬r.who∈(cE cs rows ls k u).out:=by rw[h,ok];simp
  show r.who∈(rows.map λr=>r.who).filter λw=>!((cE cs rows ls k u).out.contains w);exact bH.mpr ⟨au.mpr (bq r hr rfl),by simpa using this⟩
theorem P6{cs:List bA}{rows:List Row}{ls:List Nat}{k u w:Nat}(h:w∈(cE cs rows ls k u).has):∃r∈rows,r.who=w:=by have h':w∈(rows.map λr=>r.who).filter λw=>!((cE cs rows ls k u).out.contains w):=h;rw[bH] at h';obtain⟨r,hr,e⟩:=au.mp h'.1;exact bq r hr e
theorem Eh{α:Type}(p:α->Bool):∀l:List α,(l.filter p).length+(l.filter λx=>!p x).length=l.length
 |[]=>rfl
 |a::l=>by
  have:=Eh p l;rw[xc,xc];cases h:p a
  ·simp;omega
  ·simp;omega
theorem Zt{cs:List bA}{rows:List Row}{ls:List Nat}{k u:Nat}(nd:(rows.map (·.who)).Nodup):(cE cs rows ls k u).has=(rows.filter λr=>classOk (aF cs ls) rows k u (aF cs ls r)).map (·.who):=by
 show(rows.map λr=>r.who).filter (λw=>!((cE cs rows ls k u).out.contains w))=_;rw[nh];congr 1;apply ic;intro r hr;show(!((cE cs rows ls k u).out.contains r.who))=_;have h:=P5 (cs:=cs) (ls:=ls) (k:=k) (u:=u) nd hr
 cases e:classOk (aF cs ls) rows k u (aF cs ls r) with
 |true=>
  have:¬r.who∈(cE cs rows ls k u).out:=by rw[h,e];simp
  simpa using this
 |false=>
  have:r.who∈(cE cs rows ls k u).out:=by rw[h,e]
  simpa using this
theorem WT{cs:List bA}{rows:List Row}{ls:List Nat}{k u:Nat}(nd:(rows.map (·.who)).Nodup):(cE cs rows ls k u).has.length+(cE cs rows ls k u).out.length=rows.length:=by
 rw[Zt nd,aa];have e:(cE cs rows ls k u).out=(rows.filter λr=>!classOk (aF cs ls) rows k u (aF cs ls r)).map λr=>r.who:=by show(ab0 cs ls k u rows).map (λr=>r.who)=_;rw[BC]
 rw[e,aa];exact Eh _ rows
theorem pb{cs:List bA}{rows:List Row}{ls:List Nat}{k u:Nat}(nd:(rows.map (·.who)).Nodup):y9 cs rows (iF cs rows ls k u) (cE cs rows ls k u):=by
 have GH:∀w,w∈(y8 (aF cs ls) rows k u).map (·.1)↔w∈(cE cs rows ls k u).has:=λw=>by
  constructor
  ·intro h;obtain⟨⟨w',x⟩,hm,e⟩:=au.mp h;cases e;refine cH ?_ (Ai.mp hm);rintro r hr e1 ⟨e2,ok⟩;show w'∈_;rw[<-e1,xo nd hr,e2];exact ok
  ·intro h;obtain⟨r,hr,e⟩:=P6 h;rw[<-e] at h⊢;exact au.mpr (bq (r.who,aF cs ls r) (Ai.mpr (iL r hr rfl rfl ((xo nd hr).mp h))) rfl)
 have V4:(cE cs rows ls k u).has.Nodup:=nd.sublist fw;have hl:(y8 (aF cs ls) rows k u).length=(cE cs rows ls k u).has.length:=by have:=Uh (Aj (look:=aF cs ls) (k:=k) (u:=u) nd) V4 GH;rw[aa] at this;exact this
 refine⟨rfl,rfl,rfl,?_,Aj nd,V4,GH,λr hr h=>?_⟩
 ·show rows.length-(y8 (aF cs ls) rows k u).length=_;have:=WT (cs:=cs) (rows:=rows) (ls:=ls) (k:=k) (u:=u) nd;omega
 ·exact yj (Aj nd) (Ai.mpr (iL r hr rfl rfl ((xo nd hr).mp h)))
def lK(z:Rl)(r:Row)(left:List Row):List Row:=match z.lk.lookup r.who with
 |none=>left
 |some y=>left.filter λx=>z.lk.lookup x.who==some y
def lV(zs:List Rl)(rows:List Row)(r:Row):List Row:=zs.foldl (λleft z=>lK z r left) rows
def kH(z:Rl)(r:Row)(a:Nat×Nat):Nat×Nat:=if(z.lk.lookup r.who).isSome=true then(max a.1 z.k,max a.2 z.u) else a
def ask(zs:List Rl)(r:Row):Nat×Nat:=zs.foldl (λa z=>kH z r a) (0,0)
inductive kj(cs:List bA)(rows:List Row):List Rl->List fV->Prop where
 |nil:kj cs rows [] []
 |cons {z:Rl} {q:fV} {zs:List Rl} {qs:List fV} (h:y9 cs rows z q) (t:kj cs rows zs qs):kj cs rows (z::zs) (q::qs)
theorem kj.snoc{cs:List bA}{rows:List Row}:∀{zs:List Rl}{qs:List fV}{z:Rl}{q:fV},kj cs rows zs qs->y9 cs rows z q->kj cs rows (zs++[z]) (qs++[q])
 |_,_,_,_,.nil,h=>.cons h .nil
 |_,_,_,_,.cons h t,k=>.cons h (t.snoc k)
theorem kj.len{cs:List bA}{rows:List Row}:∀{zs:List Rl}{qs:List fV},kj cs rows zs qs->zs.length=qs.length
 |_,_,.nil=>rfl
 |_,_,.cons _ t=>by rw[aW,aW,t.len]
theorem Ld{cs:List bA}{rows:List Row}{z:Rl}{q:fV}(nd:(rows.map (·.who)).Nodup)(h:y9 cs rows z q){r:Row}(hr:r∈rows){left:List Row}(hl:∀x∈left,x∈rows):(match(looks cs q.levels (rows.filter λr=>q.has.contains r.who)).find? λx=>x.1.who==r.who with
   |none=>left
   |some y=>let group:=(abZ (looks cs q.levels (rows.filter λr=>q.has.contains r.who)) y.2).map λx=>x.who
    left.filter λx=>group.contains x.who)=lK z r left:=by
 unfold lK;have hs:=h.isSome r.who
 cases e:z.lk.lookup r.who with
 |none=>
  rw[e] at hs;have Rz:q.has.contains r.who=false:=hs.symm;have:(looks cs q.levels (rows.filter λr=>q.has.contains r.who)).find? (λx=>x.1.who==r.who)=none:=by
   rw[nq];intro x hx;unfold looks at hx;obtain⟨t,ht,rfl⟩:=au.mp hx;rw[bH] at ht;intro q';have q'':t.who=r.who:=by simpa using q'
   rw[q'',Rz] at ht;exact absurd ht.2 (by simp)
  rw[this]
 |some y=>
  rw[e] at hs;have Rz:q.has.contains r.who=true:=hs.symm;have Gg:r.who∈q.has:=by simpa using Rz
  have hy:=h.look r hr Gg;rw[e] at hy;cases hy;have:(looks cs q.levels (rows.filter λr=>q.has.contains r.who)).find? (λx=>x.1.who==r.who)=some (r,aF cs q.levels r):=by
   cases e2:(looks cs q.levels (rows.filter λr=>q.has.contains r.who)).find? (λx=>x.1.who==r.who) with
   |none=>rw[nq] at e2;have:=e2 (r,aF cs q.levels r) (by unfold looks;exact au.mpr (bq r (bH.mpr ⟨hr,Rz⟩) rfl));exact absurd this (by simp)
   |some x=>have h1:=jd e2;have h2:=abU e2;unfold looks at h1;obtain⟨t,ht,rfl⟩:=au.mp h1;rw[bH] at ht;have:t=r:=vL nd ht.1 hr (by simpa using h2);rw[this]
  rw[this];dsimp only;apply ic;intro x hx;have hxr:=hl x hx;rw[y6];have e3:((rows.filter λr=>q.has.contains r.who).filter λt=>aF cs q.levels t==aF cs q.levels r).map (λx=>x.who)=((rows.filter λt=>q.has.contains t.who&&aF cs q.levels t==aF cs q.levels r)).map (λx=>x.who):=by rw[Dt];congr 1;apply ic;intro t _;rw[Pp]
  rw[e3];by_cases hc:q.has.contains x.who=true/\aF cs q.levels x=aF cs q.levels r
  ·have m1:x.who∈((rows.filter λt=>q.has.contains t.who&&aF cs q.levels t==aF cs q.levels r)).map (λx=>x.who):=au.mpr (bq x (bH.mpr ⟨hxr,by rw[hc.1,hc.2];simp⟩) rfl);have m2:=h.look x hxr (by simpa using hc.1);rw[m2,hc.2];simpa using m1
  ·have m1:¬x.who∈((rows.filter λt=>q.has.contains t.who&&aF cs q.levels t==aF cs q.levels r)).map (λx=>x.who):=λhm=>by obtain⟨t,ht,et⟩:=au.mp hm;rw[bH] at ht;have:t=x:=vL nd ht.1 hxr et;subst this;have h2:=ht.2;rw[aL] at h2;exact hc ⟨h2.1,by simpa using h2.2⟩
   have m2:¬z.lk.lookup x.who=some (aF cs q.levels r):=λhm=>by have i:=h.isSome x.who;rw[hm] at i;have i':q.has.contains x.who=true:=i.symm;have l:=h.look x hxr (by simpa using i');rw[hm] at l;exact hc ⟨i',(aX l).symm⟩
   have a:(((rows.filter λt=>q.has.contains t.who&&aF cs q.levels t==aF cs q.levels r)).map (λx=>x.who)).contains x.who=false:=by simpa using m1
   have b:(z.lk.lookup x.who==some (aF cs q.levels r))=false:=by simpa using m2
   rw[a,b]
theorem Le{z:Rl}{r:Row}{left:List Row}{x:Row}(h:x∈lK z r left):x∈left:=by
 unfold lK at h
 cases e:z.lk.lookup r.who with
 |none=>rw[e] at h;exact h
 |some y=>rw[e] at h;exact(bH.mp h).1
theorem NS{cs:List bA}{rows:List Row}(nd:(rows.map (·.who)).Nodup){r:Row}(hr:r∈rows){zs:List Rl}{qs:List fV}(h:kj cs rows zs qs):hidden cs qs rows r=lV zs rows r:=by
 unfold hidden hiddenBy seen lV;have key:∀(zs:List Rl)(qs:List fV)(left:List Row),kj cs rows zs qs->(∀x∈left,x∈rows)->
   (qs.map λq=>looks cs q.levels (rows.filter λr=>q.has.contains r.who)).foldl (λ(left:List Row) s=>match s.find? λx=>x.1.who==r.who with
    |none=>left
    |some y=>let group:=(abZ s y.2).map λx=>x.who
     left.filter λx=>group.contains x.who) left=zs.foldl (λleft z=>lK z r left) left:=by
  intro zs qs left h
  induction h generalizing left with
  |nil=>intro _;rfl
  |cons h t ih=>intro hl;rw[br,bL,bL,Ld nd h hr hl];exact ih _ λx hx=>hl x (Le hx)
 exact key zs qs rows h λx hx=>hx
theorem Ui{cs:List bA}{rows:List Row}{r:Row}{zs:List Rl}{qs:List fV}(h:kj cs rows zs qs):am8 qs r=ask zs r:=by
 unfold am8 ask;have key:∀(zs:List Rl)(qs:List fV)(a:Nat×Nat),kj cs rows zs qs->
   qs.foldl (λa q=>if q.has.contains r.who=true then(max a.1 q.alike,max a.2 q.unlike) else a) a=zs.foldl (λa z=>kH z r a) a:=by
  intro zs qs a h
  induction h generalizing a with
  |nil=>rfl
  |cons h t ih=>
   rw[bL,bL];rename_i z q zs qs;have:(if(q.has.contains r.who)=true then(max a.1 q.alike,max a.2 q.unlike) else a)=kH z r a:=by unfold kH;rw[h.isSome,h.k,h.u]
   rw[this];exact ih _
 exact key zs qs (0,0) h
def mi(zs:List Rl)(rows:List Row):Bool:=rows.all λr=>enough (ask zs r).1 (ask zs r).2 (lV zs rows r)
theorem all_congr{α:Type}{p q:α->Bool}:∀{l:List α},(∀x∈l,p x=q x)->l.all p=l.all q
 |[],_=>rfl
 |a::l,h=>by rw[d5,d5,h a (.head _),all_congr λx hx=>h x (.tail _ hx)]
theorem Jc{cs:List bA}{rows:List Row}(nd:(rows.map (·.who)).Nodup){zs:List Rl}{qs:List fV}(h:kj cs rows zs qs):safe cs qs rows=mi zs rows:=by unfold safe mi;dsimp only;apply all_congr;intro r hr;rw[Ui h];have:=NS nd hr h;unfold hidden at this;rw[this]
theorem Uj{cs:List bA}{rows:List Row}{ls:List Nat}{k u:Nat}(nd:(rows.map (·.who)).Nodup):safe cs [cE cs rows ls k u] rows=true:=by
 rw[Jc nd (.cons (pb nd) .nil)];unfold mi;rw[cj];intro r hr;unfold ask lV;show enough (kH (iF cs rows ls k u) r (0,0)).1 (kH (iF cs rows ls k u) r (0,0)).2 (lK (iF cs rows ls k u) r rows)=true;unfold kH lK;have dQ:=pb (cs:=cs) (ls:=ls) (k:=k) (u:=u) nd
 cases e:(iF cs rows ls k u).lk.lookup r.who with
 |none=>rw[if_neg (by simp)];unfold enough;simp
 |some y=>
  rw[if_pos (by simp)];have hs:=dQ.isSome r.who;rw[e] at hs;have Gg:r.who∈(cE cs rows ls k u).has:=by simpa using hs.symm
  have hy:=dQ.look r hr Gg;rw[e] at hy;cases hy;have hc:=(xo nd hr).mp Gg;unfold classOk at hc;have:(rows.filter λx=>(iF cs rows ls k u).lk.lookup x.who==some (aF cs (cE cs rows ls k u).levels r))=V3 (aF cs ls) rows (aF cs ls r):=by
   unfold V3;apply ic;intro x hx;show((iF cs rows ls k u).lk.lookup x.who==some (aF cs ls r))=(aF cs ls x==aF cs ls r);by_cases hq:aF cs ls x=aF cs ls r
   ·have hx2:x.who∈(cE cs rows ls k u).has:=(xo nd hx).mpr (by unfold classOk;rw[hq];exact hc);have:=dQ.look x hx hx2;rw[this];show(some (aF cs ls x)==some (aF cs ls r))=_;rw[hq];simp
   ·have a:¬(iF cs rows ls k u).lk.lookup x.who=some (aF cs ls r):=λhm=>by have i:=dQ.isSome x.who;rw[hm] at i;have l:=dQ.look x hx (by simpa using i.symm);rw[hm] at l;exact hq (aX l).symm
    have b:((iF cs rows ls k u).lk.lookup x.who==some (aF cs ls r))=false:=by simpa using a
    rw[b];symm;simpa using hq
  show enough (max 0 k) (max 0 u) (rows.filter λx=>(iF cs rows ls k u).lk.lookup x.who==some (aF cs (cE cs rows ls k u).levels r))=true;rw[this,aio,aio];exact hc
def kX(found:List (List Nat))(p:Nat×Bool):List (List Nat):=found.flatMap λls=>(if p.2=true then b9 p.1 else[p.1-1]).map λk=>ls++[k]
theorem P7:∀(l:List (bA×Bool))(found:List (List Nat)),(l.map λc=>(levels c.1.kind,c.2)).foldl kX found=found.flatMap λls=>(choices l).map λr=>ls++r
 |[],found=>by
  show found=found.flatMap λls=>[ls++[]]
  induction found with
  |nil=>rfl
  |cons a l ih=>rw[ie,dM];show a::l=a::_;rw[<-ih];rfl
 |c::l,found=>by
  rw[br,bL,P7 l];unfold kX;rw[List.flatMap_assoc];congr 1;funext ls
  conv=>rhs;unfold choices
  dsimp only;rw[Hq,aaX];congr 1;funext k;rw[aQ];apply dh;intro r _;show ls++[k]++r=ls++(k::r);simp
theorem X7(l:List (bA×Bool)):choices l=(l.map λc=>(levels c.1.kind,c.2)).foldl kX [[]]:=by rw[P7];show choices l=(choices l).map (λr=>[]++r)++[];simp
theorem tJ(k:Kind):2<=levels k:=by
 unfold levels
 cases k with
 |numbers s=>exact yM _ _
 |words u=>exact yM _ _
theorem Ei:∀(l:List (bA×Bool))(ls:List Nat),ls∈choices l->ls.length=l.length/\∀(i:Nat)(c:bA×Bool)(k:Nat),l[i]? =some c->ls[i]? =some k->k<levels c.1.kind
 |[],ls,h=>by
  have:ls=[]:=by simpa[choices] using h
  subst this;exact⟨rfl,λi c k h=>by simp at h⟩
 |c::l,ls,h=>by
  unfold choices at h;dsimp only at h;rw[jP] at h;obtain⟨k,hk,h⟩:=h;obtain⟨r,hr,rfl⟩:=au.mp h;obtain⟨h1,h2⟩:=Ei l r hr;refine⟨by rw[aW,aW,h1],λi d j hi hj=>?_⟩
  cases i with
  |zero=>
   have e1:c=d:=by simpa using hi
   have e2:k=j:=by simpa using hj
   subst e1 e2;split at hk
   ·exact lH.mp hk
   ·have:=tJ c.1.kind;have:k=levels c.1.kind-1:=by simpa using hk
    omega
  |succ i=>exact h2 i d j (by simpa using hi) (by simpa using hj)
def xI:List Nat->List Nat->Bool
 |_,[]=>false
 |[],_::_=>true
 |a::r,b::s=>decide (a<b)||(a==b&&xI r s)
theorem Ej:∀{a b:List Nat},xI a b=true->xI b a=false
 |[],[],_=>rfl
 |[],_::_,_=>rfl
 |_::_,[],h=>by simp[xI] at h
 |x::a,y::b,h=>by
  simp only[xI,ik,decide_eq_true_eq,aL,beq_iff_eq] at h;rcases h with h|⟨h1,h2⟩
  ·have e1:decide (y<x)=false:=by simp;omega
   have e2:(y==x)=false:=by simp;omega
   simp[xI,e1,e2]
  ·subst h1;simp[xI,Ej h2]
theorem HV{α β:Type}{f:α->List β}{R:β->β->Prop}:∀{l:List α},(∀x∈l,(f x).Pairwise R)->l.Pairwise (λx y=>∀a∈f x,∀b∈f y,R a b)->(l.flatMap f).Pairwise R
 |[],_,_=>by simp
 |a::l,h1,h2=>by rw[fT] at h2;rw[ie,List.pairwise_append];refine⟨h1 a (.head _),HV (λx hx=>h1 x (.tail _ hx)) h2.2,λx hx y hy=>?_⟩;obtain⟨b,hb,hm⟩:=jP.mp hy;exact h2.1 b hb x hx y hm
theorem vQ:∀l:List (bA×Bool),(choices l).Pairwise λa b=>xI a b=true
 |[]=>by simp[choices]
 |c::l=>by
  unfold choices;dsimp only;refine HV (λk _=>?_) ?_
  ·rw[F6];refine(vQ l).imp λ{a b} h=>?_;simp[xI,h]
  ·have hr:(if c.2=true then b9 (levels c.1.kind) else[levels c.1.kind-1]).Pairwise (· <·):=by
    split
    ·exact List.pairwise_lt_range
    ·simp
   refine hr.imp λ{a b} h x hx y hy=>?_;obtain⟨r,_,rfl⟩:=au.mp hx;obtain⟨s,_,rfl⟩:=au.mp hy;simp[xI,h]
def pick(a:aft)(l:List aft):aft:=l.foldl (λb x=>if better x b=true then x else b) a
theorem Ek(a b:aft):better a b=true↔a.cost<b.cost∨(a.cost=b.cost/\a.release.out.length<b.release.out.length):=by unfold better;simp
theorem Uk(a b:aft)(l:List aft):best (a::b::l)=best ((if better b a=true then b else a)::l):=by
 show(match best (b::l) with|none=>some a|some x=>if better x a=true then some x else some a)=_;have e1:best (b::l)=(match best l with|none=>some b|some x=>if better x b=true then some x else some b):=rfl;have e2:∀z:aft,best (z::l)=(match best l with|none=>some z|some x=>if better x z=true then some x else some z):=λz=>rfl;rw[e1,e2]
 cases best l with
 |none=>show(if better b a=true then some b else some a)=some (if better b a=true then b else a);split<;>rfl
 |some c=>
  dsimp only;by_cases h1:better c b=true
  ·rw[if_pos h1];dsimp only;by_cases h2:better b a=true
   ·rw[if_pos h2,if_pos h1,if_pos];rw[Ek] at*;omega
   ·rw[if_neg h2]
  ·rw[if_neg h1];dsimp only;by_cases h2:better b a=true
   ·rw[if_pos h2,if_pos h2,if_neg h1]
   ·rw[if_neg h2,if_neg h2,if_neg];rw[Ek] at*;omega
theorem HW:∀(l:List aft)(a:aft),best (a::l)=some (pick a l)
 |[],a=>rfl
 |b::l,a=>by rw[Uk,HW l];rfl
theorem tK:∀l,vi l l=false
 |[]=>rfl
 |a::l=>by simp[vi,tK l]
theorem Co:∀{a b c:aH},vi a b=true->vi b c=true->vi a c=true
 |_,[],_,h,_=>by cases‹aH›<;>simp[vi] at h
 |_,_::_,[],_,h=>by simp[vi] at h
 |[],_::_,_::_,_,_=>rfl
 |x::a,y::b,z::c,h1,h2=>by
  simp only[vi,ik,decide_eq_true_eq,aL,beq_iff_eq] at*;rcases h1 with h1|⟨e1,h1⟩
  ·rcases h2 with h2|⟨e2,h2⟩
   ·left;omega
   ·left;omega
  ·rcases h2 with h2|⟨e2,h2⟩
   ·left;omega
   ·right;exact⟨by omega,Co h1 h2⟩
theorem vR:∀{a b:aH},a≠b->vi a b=false->vi b a=true
 |[],[],h,_=>absurd rfl h
 |[],_::_,_,h=>by simp[vi] at h
 |_::_,[],_,_=>rfl
 |x::a,y::b,h,hl=>by
  simp only[vi,VN,decide_eq_false_iff_not,gM,ik,decide_eq_true_eq,aL,beq_iff_eq] at*;obtain⟨h1,h2⟩:=hl;by_cases e:x=y
  ·subst e;right;refine⟨rfl,vR (λq=>h (by rw[q])) ?_⟩;rcases h2 with h2|h2
   ·simp at h2
   ·exact h2
  ·left;omega
theorem tL:∀l,gx l l=false
 |[]=>rfl
 |a::l=>by simp[gx,tK,tL l]
theorem vS:∀{a b c:List aH},gx a b=true->gx b c=true->gx a c=true
 |_,[],_,h,_=>by cases‹List aH›<;>simp[gx] at h
 |_,_::_,[],_,h=>by simp[gx] at h
 |[],_::_,_::_,_,_=>rfl
 |x::a,y::b,z::c,h1,h2=>by
  simp only[gx,ik,aL,beq_iff_eq] at*;rcases h1 with h1|⟨e1,h1⟩
  ·rcases h2 with h2|⟨e2,h2⟩
   ·left;exact Co h1 h2
   ·left;rw[<-e2];exact h1
  ·rcases h2 with h2|⟨e2,h2⟩
   ·left;rw[e1];exact h2
   ·right;exact⟨e1.trans e2,vS h1 h2⟩
theorem vT:∀{a b:List aH},a≠b->gx a b=false->gx b a=true
 |[],[],h,_=>absurd rfl h
 |[],_::_,_,h=>by simp[gx] at h
 |_::_,[],_,_=>rfl
 |x::a,y::b,h,hl=>by
  simp only[gx,VN,gM,ik,aL,beq_iff_eq] at*;obtain⟨h1,h2⟩:=hl;by_cases e:x=y
  ·subst e;right;refine⟨rfl,vT (λq=>h (by rw[q])) ?_⟩;rcases h2 with h2|h2
   ·simp at h2
   ·exact h2
  ·left;exact vR e h1
abbrev mG(l:List (List aH)):Prop:=l.Pairwise λa b=>gx a b=true
theorem tM{x:List aH}:∀{l:List (List aH)}{y:List aH},y∈xD x l↔y=x∨y∈l
 |[],y=>by simp[xD]
 |a::l,y=>by
  unfold xD;by_cases h:x=a
  ·rw[if_pos h];subst h;simp
  ·rw[if_neg h];by_cases h2:gx x a=true
   ·rw[if_pos h2];simp
   ·rw[if_neg h2,aB,tM,aB];constructor
    ·rintro(q|q|q)
     ·exact .inr (.inl q)
     ·exact .inl q
     ·exact .inr (.inr q)
    ·rintro(q|q|q)
     ·exact .inr (.inl q)
     ·exact .inl q
     ·exact .inr (.inr q)
theorem uw{x:List aH}:∀{l:List (List aH)},mG l->mG (xD x l)
 |[],_=>by simp[xD,mG]
 |a::l,h=>by
  have h':=fT.mp h;unfold xD;by_cases h1:x=a
  ·rw[if_pos h1];exact h
  ·rw[if_neg h1];by_cases h2:gx x a=true
   ·rw[if_pos h2];refine fT.mpr ⟨λy hy=>?_,h⟩;rcases aB.mp hy with q|q
    ·rw[q];exact h2
    ·exact vS h2 (h'.1 y q)
   ·rw[if_neg h2];refine fT.mpr ⟨λy hy=>?_,uw h'.2⟩;rcases tM.mp hy with q|q
    ·rw[q];exact vT h1 (by simpa using h2)
    ·exact h'.1 y q
theorem El:∀(xs l:List (List aH)),mG l->mG (xs.foldl (λl x=>xD x l) l)/\∀y,y∈xs.foldl (λl x=>xD x l) l↔y∈l∨y∈xs
 |[],l,h=>⟨h,λy=>by simp⟩
 |a::xs,l,h=>by
  obtain⟨h1,h2⟩:=El xs (xD a l) (uw h);refine⟨h1,λy=>?_⟩;rw[bL,h2,tM,aB];constructor
  ·rintro((q|q)|q)
   ·exact .inr (.inl q)
   ·exact .inl q
   ·exact .inr (.inr q)
  ·rintro(q|q|q)
   ·exact .inl (.inr q)
   ·exact .inl (.inl q)
   ·exact .inr q
theorem Em:∀{l m:List (List aH)},mG l->mG m->(∀x,x∈l↔x∈m)->l=m
 |[],[],_,_,_=>rfl
 |[],b::m,_,_,h=>by have:=(h b).mpr (.head _);cases this
 |a::l,[],_,_,h=>by have:=(h a).mp (.head _);cases this
 |a::l,b::m,h1,h2,h=>by
  have p1:=fT.mp h1;have p2:=fT.mp h2;have e:a=b:=by
   rcases aB.mp ((h a).mp (.head _)) with q|q
   ·exact q
   ·rcases aB.mp ((h b).mpr (.head _)) with z|z
    ·exact z.symm
    ·have:=vS (p2.1 a q) (p1.1 b z);rw[tL] at this;cases this
  subst e;refine congrArg (a::·) (Em p1.2 p2.2 λx=>?_);have nl:∀{l:List (List aH)},(∀y∈l,gx a y=true)->¬a∈l:=λhy hm=>by
   have:=hy a hm;rw[tL] at this;cases this
  constructor
  ·intro hx;rcases aB.mp ((h x).mp (.tail _ hx)) with q|q
   ·exact absurd (by rw[<-q];exact hx) (nl p1.1)
   ·exact q
  ·intro hx;rcases aB.mp ((h x).mpr (.tail _ hx)) with q|q
   ·exact absurd (by rw[<-q];exact hx) (nl p2.1)
   ·exact q
theorem NT(cs:List bA)(q:fV)(rows:List Row){ys:List (List aH)}(hs:mG ys)(hm:∀y,y∈ys↔∃r∈rows,q.has.contains r.who=true/\aF cs q.levels r=y):Hr cs q rows=ys:=by
 obtain⟨h1,h2⟩:=El ((rows.filter λr=>q.has.contains r.who).map λr=>aF cs q.levels r) [] (by simp);refine Em h1 hs λx=>?_;show x∈List.foldl _ _ _↔_;rw[h2,hm];constructor
 ·rintro(h|h)
  ·cases h
  ·obtain⟨r,hr,e⟩:=au.mp h;rw[bH] at hr;exact bP r hr.1 hr.2 e
 ·rintro⟨r,hr,hh,e⟩;exact .inr (au.mpr (bq r (bH.mpr ⟨hr,hh⟩) e))
theorem En:∀a b:aH,vi a b=decide (a<b)
 |_,[]=>by cases‹aH›<;>simp[vi]
 |[],_::_=>by simp[vi]
 |x::a,y::b=>by
  have ih:=En a b;unfold vi;rw[ih];by_cases h:x<y
  ·simp[h,zW]
  ·by_cases e:x=y
   ·subst e;simp[zW]
   ·simp[h,e,zW]
def Ul(k:Kind):Prop:=match k with
 |.numbers s=>s.length<=2/\∀x∈s,2<=x/\x<=1000000
 |.words up=>mE up
structure P8(c:bA):Prop where
 nm:dU c.name=true
 kd:Ul c.kind
 ct:c.costs=[]∨(c.costs.length=levels c.kind/\(∀x∈c.costs,x<=10000)/\filled c.kind=true)
structure Gi(f:d8):Prop where
 cols:∀c∈f.columns,P8 c
 ini:∀c∈f.columns.dropLast,c.costs≠[]
 len:f.columns.length<=4
 sec:(f.secret=[]/\f.values=[])∨(dU f.secret=true/\2<=f.values.length/\f.values.length<=12/\f.values.all dU=true)
theorem Gi.start:Gi {}:=⟨λc h=>(nomatch h),λc h=>(nomatch h),bE _,.inl ⟨rfl,rfl⟩⟩
def Open(f:d8)(cs:List bA)(c:bA):Prop:=f.columns=cs++[c]/\c.costs=[]
theorem jB{f:d8}:settled f=true↔∀c∈f.columns,c.costs≠[]:=by
 unfold settled;rw[cj];constructor
 ·intro h c hc;have:=h c hc;simpa using this
 ·intro h c hc;have:=h c hc;simpa using this
theorem iq{f:d8}{cs:List bA}{c:bA}(h:Open f cs c):settled f=false:=by
 cases e:settled f with
 |false=>rfl
 |true=>rw[jB] at e;exact absurd h.2 (e c (by rw[h.1];simp))
theorem Gi.WU{f:d8}(w:Gi f):settled f=true∨∃cs c,Open f cs c:=by
 by_cases h:f.columns=[]
 ·left;rw[jB,h];intro c hc;cases hc
 ·have e:=List.dropLast_concat_getLast h;by_cases q:(f.columns.getLast h).costs=[]
  ·right;exact fu f.columns.dropLast (f.columns.getLast h) e.symm q
  ·left;rw[jB];intro c hc;rw[<-e] at hc;rcases aE.mp hc with z|z
   ·exact w.ini c z
   ·rw[b8.mp z];exact q
def kP(f:d8)(l:List aH):Option d8:=if begins l=true/\settled f=false then none else j6 f l
theorem yk(i:Nat)(f:d8)(l:aH)(r:List aH):ni i f (l::r)=if(wordsOf l).isEmpty=true then ni (i+1) f r else match kP f (wordsOf l) with
  |some g=>ni (i+1) g r
  |none=>.error i:=by
 conv=>lhs;unfold ni
 unfold kP;split
 ·rfl
 ·split
  ·rfl
  ·rfl
theorem Eo{f:d8}{cs:List bA}{c:bA}(h:Open f cs c){a:aH}{rest:List aH}(h1:a≠text "word")(h2:a≠text "costs"):kP f (a::rest)=none:=by
 unfold kP;rw[iq h];by_cases b:begins (a::rest)=true
 ·rw[if_pos ⟨b,rfl⟩]
 ·rw[if_neg (λq=>b q.1)];have nb:¬a=text "numbers"/\¬a=text "words"/\¬a=text "secret":=by unfold begins at b;simp only[ik,decide_eq_true_eq,not_or] at b;exact b
  exact yZ f a rest nb.1 nb.2.1 h1 h2 nb.2.2
theorem tO{f:d8}(rest:List aH):kP f (text "word"::rest)=j6 f (text "word"::rest):=by unfold kP;rw[if_neg (by intro q;exact absurd q.1 (by show¬begins (text "word"::rest)=true;unfold begins;dsimp only;decide))]
theorem Cp{f:d8}(rest:List aH):kP f (text "costs"::rest)=j6 f (text "costs"::rest):=by unfold kP;rw[if_neg (by intro q;exact absurd q.1 (by show¬begins (text "costs"::rest)=true;unfold begins;dsimp only;decide))]
theorem fW{f:d8}(h:settled f=true)(l:List aH):kP f l=j6 f l:=by unfold kP;rw[if_neg (by rw[h];intro q;exact absurd q.2 (by simp))]
theorem qG{f:d8}(w:Gi f)(h:settled f=true)(rest:List aH):j6 f (text "word"::rest)=none:=by
 cases rest with
 |nil=>rfl
 |cons n rest=>
  unfold j6;dsimp only;rw[if_neg (by decide),if_neg (by decide),if_pos rfl]
  cases e:f.columns.getLast? with
  |none=>rfl
  |some c=>
   have hc:c∈f.columns:=VO e;have:=(jB.mp h) c hc;dsimp only
   cases c.kind with
   |numbers s=>rfl
   |words up=>dsimp only;rw[if_neg (λq=>this q.1)]
theorem pS{f:d8}(h:settled f=true)(rest:List aH):j6 f (text "costs"::rest)=none:=by
 cases rest with
 |nil=>rfl
 |cons n rest=>
  unfold j6;dsimp only;rw[if_neg (by decide),if_neg (by decide),if_neg (by decide),if_pos rfl]
  cases e:f.columns.getLast? with
  |none=>rfl
  |some c=>have hc:c∈f.columns:=VO e;have:=(jB.mp h) c hc;dsimp only;rw[if_neg this]
theorem Gi.snoc{f:d8}(w:Gi f)(hs:settled f=true)(hl:f.columns.length<4){c:bA}(hc:P8 c):Gi {f with columns:=f.columns++[c]} where
 cols:=λd hd=>by
  rcases aE.mp hd with q|q
  ·exact w.cols d q
  ·rw[b8.mp q];exact hc
 ini:=λd hd=>by have QX:d∈(f.columns++[c]).dropLast:=hd;rw[js] at QX;exact(jB.mp hs) d QX
 len:=by show(f.columns++[c]).length<=4;rw[aP];exact hl
 sec:=w.sec
theorem Gi.last{f:d8}(w:Gi f){cs:List bA}{c d:bA}(e:f.columns=cs++[c])(hd:P8 d):Gi {f with columns:=cs++[d]} where
 cols:=λx hx=>by
  rcases aE.mp hx with q|q
  ·exact w.cols x (by rw[e];exact eC _ q)
  ·rw[b8.mp q];exact hd
 ini:=λx hx=>by have Zu:x∈(cs++[d]).dropLast:=hx;rw[js] at Zu;exact w.ini x (by rw[e,js];exact Zu)
 len:=by show(cs++[d]).length<=4;have:=w.len;rw[e] at this;simpa using this
 sec:=w.sec
theorem Jd{lo hi:Nat}{w:aH}(h:fA lo hi w=true):lo<=value w/\value w<=hi:=by unfold fA at h;simp only[aL,decide_eq_true_eq] at h;exact h.2.2
theorem zb{lo hi:Nat}{ws:List aH}(h:ws.all (fA lo hi)=true):∀x∈ws.map value,lo<=x/\x<=hi:=λx hx=>by obtain⟨w,hw,e⟩:=au.mp hx;rw[<-e];exact Jd (cj.mp h w hw)
theorem Lf{up:Up}(ok:mE up){n:aH}{rest:List aH}{x:aH×Option aH}(nm:dU n=true)(hl:up.length<30)(hn:¬n∈up.map (·.1))(h:mF up n rest=some x):mE (up++[x]):=by
 unfold mF at h;split at h
 ·cases h;exact ok.none hn nm hl
 ·split at h
  ·rename_i q;cases h;exact ok.some hn nm hl q.2.1 q.2.2
  ·cases h
 ·cases h
theorem Gi.step{f g:d8}(w:Gi f){l:List aH}(h:kP f l=some g):Gi g:=by
 rcases w.WU with hs|⟨cs,c,ho⟩
 ·rw[fW hs] at h
  match l,h with
  |[],h=>cases h
  |[a],h=>cases h
  |a::n::rest,h=>
   by_cases h1:a=text "numbers"
   ·subst h1;rw[Ag] at h;split at h
    ·rename_i q;cases h;simp only[aL,decide_eq_true_eq] at q;refine w.snoc hs q.2.2.2.1 ⟨?_,⟨by rw[aa];exact q.1,zb q.2.1⟩,.inl rfl⟩;have:=q.2.2.2.2;unfold newName at this;rw[aL] at this;exact this.1
    ·cases h
   ·by_cases h2:a=text "words"
    ·subst h2;rw[yY] at h;split at h
     ·rename_i q;cases h;simp only[aL,decide_eq_true_eq] at q;refine w.snoc hs q.2.1 ⟨?_,mE.nil,.inl rfl⟩;have:=q.2.2;unfold newName at this;rw[aL] at this;exact this.1
     ·cases h
    ·by_cases h3:a=text "word"
     ·subst h3;rw[qG w hs] at h;cases h
     ·by_cases h4:a=text "costs"
      ·subst h4;rw[pS hs] at h;cases h
      ·by_cases h5:a=text "secret"
       ·subst h5;rw[qF] at h;split at h
        ·rename_i q;cases h;simp only[aL,decide_eq_true_eq] at q;have hn:=q.2.2.2.1;unfold newName at hn;rw[aL] at hn;exact⟨w.cols,w.ini,w.len,.inr ⟨hn.1,q.2.1,q.2.2.1,q.2.2.2.2.1⟩⟩
        ·cases h
       ·rw[yZ f a (n::rest) h1 h2 h3 h4 h5] at h;cases h
 ·match l,h with
  |[],h=>
   unfold kP at h;split at h<;>cases h
  |a::rest,h=>
   by_cases h3:a=text "word"
   ·subst h3;rw[tO] at h
    match rest,h with
    |[],h=>cases h
    |n::rest,h=>
     cases hk:c.kind with
     |numbers s=>rw[yh ho.1 hk] at h;cases h
     |words up=>
      rw[HS ho.1 hk ho.2] at h;split at h
      ·rename_i q;simp only[aL,decide_eq_true_eq,jv] at q
       cases e:mF up n rest with
       |none=>rw[e] at h;cases h
       |some x=>
        rw[e] at h;cases h;have cw:=w.cols c (by rw[ho.1];simp);have uo:mE up:=by have:=cw.kd;rw[hk] at this;exact this
        exact w.last ho.1 ⟨cw.nm,Lf uo q.1 q.2.1 (by simpa using q.2.2) e,.inl ho.2⟩
      ·cases h
   ·by_cases h4:a=text "costs"
    ·subst h4;rw[Cp,Ee ho.1 ho.2] at h;split at h
     ·rename_i q;cases h;simp only[aL,decide_eq_true_eq] at q;have cw:=w.cols c (by rw[ho.1];simp);exact w.last ho.1 ⟨cw.nm,cw.kd,.inr ⟨by rw[aa];exact q.2.1,λx hx=>(zb q.2.2.1 x hx).2,q.1⟩⟩
     ·cases h
    ·rw[Eo ho h3 h4] at h;cases h
structure P9(c:bA):Prop where
 nm:dU c.name=true
 kd:Ul c.kind
 cl:c.costs.length=levels c.kind
 cb:∀x∈c.costs,x<=10000
 fl:filled c.kind=true
structure iN(f:d8):Prop where
 cols:∀c∈f.columns,P9 c
 ne:f.columns≠[]
 len:f.columns.length<=4
 sec:dU f.secret=true
 v2:2<=f.values.length
 v12:f.values.length<=12
 vn:f.values.all dU=true
theorem vU:∀(r:List aH)(i:Nat)(f g:d8),Gi f->ni i f r=.ok g->iN g
 |[],i,f,g,w,h=>by
  unfold ni at h;split at h
  ·rename_i q;cases h;have hs:=jB.mp q.2.1;rcases w.sec with z|z
   ·exact absurd z.1 q.2.2
   ·refine⟨λc hc=>?_,by simpa using q.1,w.len,z.1,z.2.1,z.2.2.1,z.2.2.2⟩;have cw:=w.cols c hc;rcases cw.ct with y|y
    ·exact absurd y (hs c hc)
    ·exact⟨cw.nm,cw.kd,y.1,y.2.1,y.2.2⟩
  ·cases h
 |l::r,i,f,g,w,h=>by
  rw[yk] at h;split at h
  ·exact vU r _ f g w h
  ·cases e:kP f (wordsOf l) with
   |none=>rw[e] at h;cases h
   |some k=>rw[e] at h;exact vU r _ k g (w.step e) h
theorem Lg{t:aH}{f:d8}(h:tm t=.ok f):iN f:=vU _ _ _ _ Gi.start h
def Um(k:Kind)(v:Nat):Prop:=match k with
 |.numbers _=>v<=1000000
 |.words up=>v<up.length
def zc(cs:List bA)(l:List Nat):Prop:=l.length=cs.length/\∀(i:Nat)(c:bA)(v:Nat),cs[i]? =some c->l[i]? =some v->Um c.kind v
def lL(cs:List bA)(l:List Nat):Prop:=l.length=cs.length/\∀(i:Nat)(c:bA)(v:Nat),cs[i]? =some c->l[i]? =some v->v<levels c.kind
theorem ir{x lo hi:Int}:within x lo hi=true↔lo<=x/\x<=hi:=by unfold within;simp
theorem xp:∀{l:List Int},(∀x∈l,0<=x)->l=(nats l).map λ(n:Nat)=>(n:Int)
 |[],_=>rfl
 |a::l,h=>by show a::l=((a.toNat:Nat):Int)::(nats l).map λ(n:Nat)=>(n:Int);rw[<-xp λx hx=>h x (.tail _ hx)];have:=h a (.head _);congr 1;omega
theorem DG{cs:List bA}{l:List Int}{p:bA×Int->Bool}(hl:l.length=cs.length)(h:(cs.zip l).all p=true)(i:Nat)(c:bA)(v:Int)(hc:cs[i]? =some c)(hv:l[i]? =some v):p (c,v)=true:=by
 refine cj.mp h (c,v) ?_;have:(cs.zip l)[i]? =some (c,v):=by rw[de];exact⟨hc,hv⟩
 exact aN this
theorem Lh{l:List Int}{i v:Nat}(h:(nats l)[i]? =some v):∃x,l[i]? =some x/\v=x.toNat:=by
 unfold nats at h;rw[aV] at h
 cases e:l[i]? with
 |none=>rw[e] at h;cases h
 |some x=>rw[e] at h;exact bq x rfl ((aX h).symm)
theorem Uo{cs:List bA}{l:List Int}(h:Nn cs l=true):zc cs (nats l)/\l=(nats l).map λ(n:Nat)=>(n:Int):=by
 unfold Nn at h;rw[aL] at h;have hl:l.length=cs.length:=by simpa using h.1
 have pos:∀x∈l,0<=x:=λx hx=>by
  obtain⟨i,hi,e⟩:=jI hx;have hc:cs[i]? =some cs[i]:=aw (by omega);have hv:l[i]? =some x:=by rw[aw hi,e]
  have:=DG hl h.2 i cs[i] x hc hv;unfold cellOk at this;dsimp only at this;split at this
  ·exact(ir.mp this).1
  ·exact(ir.mp this).1
 refine⟨⟨by unfold nats;rw[aa];exact hl,λi c v hc hv=>?_⟩,xp pos⟩;obtain⟨x,hx,rfl⟩:=Lh hv;have:=DG hl h.2 i c x hc hx;unfold cellOk at this;unfold Um;dsimp only at this
 revert this
 cases c.kind with
 |numbers s=>intro this;have:=ir.mp this;have h2:x<=1000000:=this.2;show x.toNat<=1000000;omega
 |words up=>intro this;have:=ir.mp this;show x.toNat<up.length;omega
theorem xq{cs:List bA}{l:List Int}(h:Gv cs l=true):lL cs (nats l)/\l=(nats l).map λ(n:Nat)=>(n:Int):=by
 unfold Gv at h;rw[aL] at h;have hl:l.length=cs.length:=by simpa using h.1
 have pos:∀x∈l,0<=x:=λx hx=>by
  obtain⟨i,hi,e⟩:=jI hx;have hc:cs[i]? =some cs[i]:=aw (by omega);have hv:l[i]? =some x:=by rw[aw hi,e]
  exact(ir.mp (DG hl h.2 i cs[i] x hc hv)).1
 refine⟨⟨by unfold nats;rw[aa];exact hl,λi c v hc hv=>?_⟩,xp pos⟩;obtain⟨x,hx,rfl⟩:=Lh hv;have:=ir.mp (DG hl h.2 i c x hc hx);dsimp only at this;omega
theorem ux{l:List (bA×Bool)}{ls:List Nat}(h:ls∈choices l):lL (l.map (·.1)) ls:=by
 obtain⟨h1,h2⟩:=Ei l ls h;refine⟨by rw[aa];exact h1,λi c v hc hv=>?_⟩;rw[aV] at hc
 cases e:l[i]? with
 |none=>rw[e] at hc;cases hc
 |some x=>
  rw[e] at hc;cases hc;exact h2 i x v e hv
theorem mH{cs:List bA}{ls:List Nat}{r:Row}(h1:ls.length=cs.length)(h2:r.cells.length=cs.length):(aF cs ls r).length=cs.length:=by unfold aF;rw[aa,eK,eK];omega
theorem RA(cs:List bA)(ls:List Nat):ja cs ls=((cs.zip ls).map λx=>x.1.costs.getD x.2 0).sum:=by
 unfold ja;have:∀(l:List Nat)(a:Nat),l.foldl (λa b=>a+b) a=a+l.sum:=by
  intro l
  induction l with
  |nil=>intro a;simp
  |cons x r ih=>intro a;rw[bL,ih,CU];omega
 rw[this];simp
theorem oM:∀(l:List Nat)(m b:Nat),m<=b->(∀x∈l,x<=b)->l.foldl max m<=b
 |[],m,b,h,_=>h
 |a::l,m,b,h,k=>oM l _ b (by rw[ajX];split;exact k a (.head _);exact h) (λx hx=>k x (.tail _ hx))
theorem qH{c:bA}(h:P9 c):levels c.kind<=4:=by
 have kd:=h.kd
 cases e:c.kind with
 |numbers s=>rw[e] at kd;have:=kd.1;show s.length+2<=4;omega
 |words up=>rw[e] at kd;have ok:mE up:=kd;show height up+2<=4;have:height up<=2:=oM _ 0 2 (bE _) (λx hx=>by obtain⟨y,hy,rfl⟩:=au.mp hx;exact ok.sh y hy);omega
def Ak(n:Nat)(b:Bool):List Nat:=if b=true then b9 n else[n-1]
theorem Uq{n:Nat}(hn:1<=n)(b:Bool):Ak n b=(b9 (n-(if b=true then 0 else n-1))).map λj=>(if b=true then 0 else n-1)+j:=by
 unfold Ak
 cases b with
 |true=>simp
 |false=>
  have:n-(n-1)=1:=by omega
  simp[this]
theorem HX{n:Nat}(hn:1<=n)(h4:n<=4)(b:Bool):(Ak n b).length<=4:=by
 unfold Ak;split
 ·rw[d4];exact h4
 ·simp
theorem BD(found:List (List Nat))(p:Nat×Bool):kX found p=found.flatMap λls=>(Ak p.1 p.2).map λk=>ls++[k]:=rfl
theorem zd{p:Nat×Bool}(h1:1<=p.1)(h4:p.1<=4):∀found:List (List Nat),(kX found p).length<=4*found.length
 |[]=>by simp[kX]
 |a::l=>by have:=zd h1 h4 l;rw[BD] at this⊢;rw[ie,aP,aa];have h:=HX h1 h4 p.2;rw[aW];omega
theorem NU:∀(pq:List (Nat×Bool))(found:List (List Nat)),(∀p∈pq,1<=p.1/\p.1<=4)->(pq.foldl kX found).length<=found.length*4^pq.length
 |[],found,_=>by simp
 |p::pq,found,h=>by
  rw[bL,aW];have h1:=NU pq (kX found p) (λq hq=>h q (.tail _ hq));have h2:=zd (h p (.head _)).1 (h p (.head _)).2 found;have h3:(kX found p).length*4^pq.length<=4*found.length*4^pq.length:=eD _ h2;rw[aim];have e:found.length*(4^pq.length*4)=4*found.length*4^pq.length:=by rw[Su (4^pq.length) 4,<-afn,Su found.length 4]
  omega
theorem Ur:∀(pq:List (Nat×Bool))(found:List (List Nat))(c:Nat),(∀ls∈found,ls.length<=c)->∀ls∈pq.foldl kX found,ls.length<=c+pq.length
 |[],found,c,h,ls,hm=>h ls hm
 |p::pq,found,c,h,ls,hm=>by rw[bL] at hm;have:=Ur pq (kX found p) (c+1) (λms hms=>by rw[BD] at hms;obtain⟨x,hx,hm⟩:=jP.mp hms;obtain⟨k,hk,rfl⟩:=au.mp hm;rw[aP];have:=h x hx;simp;omega) ls hm;rw[aW];omega
end Bm
namespace L2
open PySem PySem.Spec PyProof.Rows
section
variable{K:ah}{σ:St}{H:Hp}{Q:V->Prop}{i:Nat}{f:Str}{a C dx:af}{fs:List (Str×V)}{v:V}
theorem fJ(h:H a=some (.ins C dx fs))(c:z7 K C)(n:dC K C f)(l:fs.lookup f=some v)(q:Q v):∃b C dx fs v,V.ref a=V.ref b/\H b=some (.ins C dx fs)/\z7 K C/\dC K C f/\fs.lookup f=some v/\Q v:=⟨a,C,dx,fs,v,rfl,h,c,n,l,q⟩
theorem fI(h:H a=some (.ins C dx fs))(c:z7 K C)(n:dC K C f)(l:fs.lookup f=some v)(q:Q v)(e:σ[i]? =some (some (.ref a)):=by rfl):∃x,σ[i]? =some (some x)/\∃b C dx fs v,x=V.ref b/\H b=some (.ins C dx fs)/\z7 K C/\dC K C f/\fs.lookup f=some v/\Q v:=⟨_,e,fJ h c n l q⟩
theorem mJ{R:Prop}(h:H a=some (.ins C dx fs))(l:fs.lookup f=none)(q:R):∃b dx fs,V.ref a=V.ref b/\H b=some (.ins C dx fs)/\fs.lookup f=none/\R:=⟨a,dx,fs,rfl,h,l,q⟩
theorem mI(h:H a=some (.ins C dx fs))(l:fs.lookup f=none)(q:Q (.ref a))(e:σ[i]? =some (some (.ref a)):=by rfl):∃x,σ[i]? =some (some x)/\∃b dx fs,x=V.ref b/\H b=some (.ins C dx fs)/\fs.lookup f=none/\Q x:=⟨_,e,a,dx,fs,rfl,h,l,q⟩
theorem sJ(h:H a=some (.ins C dx fs))(c:z7 K C)(n:dC K C f)(l:fs.length<1000){Q:af->af->af->List (Str×V)->Prop}(q:Q a C dx fs):∃b C dx fs,V.ref a=V.ref b/\H b=some (.ins C dx fs)/\z7 K C/\dC K C f/\fs.length<1000/\Q b C dx fs:=⟨a,C,dx,fs,rfl,h,c,n,l,q⟩
end
end L2
namespace Bp
open PySem PySem.Spec PyProof.Rows L2
section
variable(P:bp)(w:bQ)(K:ah)(mg:Str->Option ak)(base:cB)
structure Raw(x qual:Str)(st:cD)(ps:List Str):Prop where
 ex:∃(f:af)(fd:jw),WO K x qual st f fd/\mg x=some (.ref f)/\Binds K fd ps []
structure iS(C:af)(m qual:Str)(st:cD)(ps:List Str):Prop where
 ex:∃(f:af)(fd:jw),WO K m qual st f fd/\Meth K C m f/\Binds K fd ps []
structure ze(c:Str)(C:af)(qual:Str)(st:cD)(ps:List Str):Prop where
 ex:∃(f:af)(fd:jw),WO K "__init__" qual st f fd/\Mk K C f/\Binds K fd ps []/\mg c=some (.ref C)
structure Def(x:Str)(k:Nat)(ps:List Str)(sp:Sp):Prop where
 ex:∃(f:af)(fd:jw),xG P w K mg base T7 k f fd ps sp/\mg x=some (.ref f)/\lI K (.ref f)=true/\Binds K fd ps []
structure i5(C:af)(m:Str)(k:Nat)(ps:List Str)(sp:Sp):Prop where
 ex:∃(f:af)(fd:jw),xG P w K mg base T7 k f fd ps sp/\Meth K C m f/\Binds K fd ps []
structure C0(c:Str)(C:af)(k:Nat)(ps:List Str)(sp:Sp):Prop where
 ex:∃(f:af)(fd:jw),xG P w K mg base T7 k f fd ps sp/\Mk K C f/\Binds K fd ps []/\mg c=some (.ref C)
end
section
variable{P:bp}{w:bQ}{K:ah}{mg:Str->Option ak}{base:cB}
abbrev Body(P:bp)(w:bQ)(K:ah)(mg:Str->Option ak)(base:cB)(qual:Str)(st:cD)(N:List Str)(k:Nat)(sp:Sp):Prop:=
 ∀(f:af)(pP:ak)(A:cy)(outer:List Env)(s:az)(H:Hp)(vs:List V)(Q:VK)(E:XK),jx k (A.deeper (yK qual (aO st) s.heap.objs.size f pP))->sp vs H Q E->
  ∃t,Nq (GD T7 P w K mg base N qual (aO st) f pP A outer s H E).Wl (lJ st) t/\t {nx:=λ_ H'=>Q .h9 H',rt:=Q} (start N vs) H
theorem Raw.ok{x qual:Str}{st:cD}{N ps:List Str}{k:Nat}{sp:Sp}(R:Raw K mg x qual st ps)(S:bf N ps (aO st))(len:∀vs H Q E,sp vs H Q E->vs.length=ps.length)(hb:Body P w K mg base qual st N k sp):Def P w K mg base x (k+1) ps sp:=by refine j7 ?_ R.ex;rintro f fd F m b;exact⟨f,fd,F.ok S len (λpP A outer s H vs Q E hr h=>hb f pP A outer s H vs Q E hr h),m,F.kp,b⟩
theorem iS.ok{C:af}{x qual:Str}{st:cD}{N ps:List Str}{k:Nat}{sp:Sp}(R:iS K C x qual st ps)(S:bf N ps (aO st))(len:∀vs H Q E,sp vs H Q E->vs.length=ps.length)(hb:Body P w K mg base qual st N k sp):i5 P w K mg base C x (k+1) ps sp:=by refine j7 ?_ R.ex;rintro f fd F m b;exact⟨f,fd,F.ok S len (λpP A outer s H vs Q E hr h=>hb f pP A outer s H vs Q E hr h),m,b⟩
theorem ze.ok{C:af}{x qual:Str}{st:cD}{N ps:List Str}{k:Nat}{sp:Sp}(R:ze K mg x C qual st ps)(S:bf N ps (aO st))(len:∀vs H Q E,sp vs H Q E->vs.length=ps.length)(hb:Body P w K mg base qual st N k sp):C0 P w K mg base x C (k+1) ps sp:=by refine ke ?_ R.ex;rintro f fd F m b g;exact⟨f,fd,F.ok S len (λpP A outer s H vs Q E hr h=>hb f pP A outer s H vs Q E hr h),m,b,g⟩
abbrev Us(sp:Sp)(ps:List Str):Prop:=∀vs H Q E,sp vs H Q E->vs.length=ps.length
theorem gL{vs l:List V}{R:Prop}{n:Nat}(h:vs=l/\R)(e:l.length=n:=by rfl):vs.length=n:=h.1▸e
theorem Zv{sp:Sp}{ps:List Str}(h:Us sp ps:=by intro _ _ _ _;(first|refine Pw ?_|refine o5 ?_|refine Kt ?_|refine nK ?_|refine nJ ?_|refine CV ?_|refine xE ?_|refine zZ ?_|refine Ks ?_|refine afu ?_);intros;exact gL ‹_›):Us sp ps:=h
theorem Raw.g8{x qual:Str}{st:cD}{N ps:List Str}{k:Nat}{sp:Sp}(R:Raw K mg x qual st ps)(S:bf N ps (aO st))(hb:Body P w K mg base qual st N k sp)(len:Us sp ps:=by exact Zv):Def P w K mg base x (k+1) ps sp:=R.ok S len hb
theorem iS.g8{C:af}{x qual:Str}{st:cD}{N ps:List Str}{k:Nat}{sp:Sp}(R:iS K C x qual st ps)(S:bf N ps (aO st))(hb:Body P w K mg base qual st N k sp)(len:Us sp ps:=by exact Zv):i5 P w K mg base C x (k+1) ps sp:=R.ok S len hb
theorem ze.g8{C:af}{x qual:Str}{st:cD}{N ps:List Str}{k:Nat}{sp:Sp}(R:ze K mg x C qual st ps)(S:bf N ps (aO st))(hb:Body P w K mg base qual st N k sp)(len:Us sp ps:=by exact Zv):C0 P w K mg base x C (k+1) ps sp:=R.ok S len hb
end
def Qa:Expr->Bool
 |.Starred .. =>false
 |_=>true
theorem vV{e:Expr}{es:List Expr}{env:Env}(h:Qa e=true):bO (e::es) env=(false,eval e env)::bO es env:=by
 cases e<;>first|rfl|(simp[Qa] at h)
theorem qI{pos:Pos}{env:Env}:∀{es:List Expr},es.all Qa=true->(fO pos (bO es env)).any (·.1)=false
 |[],_=>rfl
 |e::es,h=>by rw[d5,aL] at h;rw[vV h.1];unfold fO;rw[br,iK];show(false||_)=false;rw[afm];exact qI h.2
section
variable{X:Cx}
theorem aI{e:Expr}{es:List Expr}{te:TE}{t:TA}(ha:PE X e te)(hr:PA X es t)(hn:Qa e=true:=by rfl):PA X (e::es) (rV te t):=Wu ha hr (vV hn)
theorem cJ{x:Str}{id:String}{p pos:Pos}{e:Expr}{es:List Expr}{r:List V->Hp->VK->Prop}{t:TA}(hc:kO X (.builtin id) r)(hg:Gl X x)(hm:X.mg x=none)(hv:di x=some (.builtin id))(ha:PA X (e::es) t)(hn:(e::es).all Qa=true:=by rfl)(k9:x≠"__name__":=by decide)(IH:(x==("__debug__":Str))=false:=by decide):PE X (.Call (.Name x p) (e::es) [] pos) (tCB r t):=by rw[d5,aL] at hn;exact Tv hc hg hm hv ha k9 IH (vV hn.1) (qI hn.2)
theorem sd{x:Str}{id:String}{p pos:Pos}{e:Expr}{es:List Expr}{r:List V->Hp->VK->Prop}{t:TA}(hc:kO X (.type id) r)(hg:Gl X x)(hm:X.mg x=none)(hv:di x=some (.type id))(ha:PA X (e::es) t)(hn:(e::es).all Qa=true:=by rfl)(k9:x≠"__name__":=by decide)(IH:(x==("__debug__":Str))=false:=by decide):PE X (.Call (.Name x p) (e::es) [] pos) (tCB r t):=by rw[d5,aL] at hn;exact Rc hc hg hm hv ha k9 IH (vV hn.1) (qI hn.2)
theorem Ep{o e:Expr}{to te:TE}{apos pos:Pos}(ho:PE X o to)(he:PE X e te)(hn:Qa e=true:=by rfl)(n4:gf o "join" X.env (eval o X.env)=eval o X.env:=by rfl)(gJ:(apos.endLine==pos.line)=true:=by rfl):
  PE X (.Call (.Attribute o "join" apos) [e] [] pos) (tM1 (λx xs H Q=>∃a p,∃ys:List Str,x=.str a/\xs=[.ref p]/\(bG X.K H p (ys.map V.str)∨nY X.K H p (ys.map V.str))/\(ys.map (·.length)).sum+ys.length*a.length<=16777216/\Q (.str (xf a ys)) H) to te):=WN ho he (vV hn) n4 gJ
end
section
variable{X:Cx}{k:Nat}{C:af}{ps:List Str}{sp:Sp}{x m:Str}{p pos apos:Pos}{e o:Expr}{es:List Expr}{ta:TE}{t:TA}
theorem bF(D:Def X.prog X.w X.K X.mg X.base x k ps sp)(hr:jx k X.A)(hg:Gl X x)(ha:PA X (e::es) t)(hn:(e::es).all Qa=true:=by rfl)(IH:(x==("__debug__":Str))=false:=by decide):
  PE X (.Call (.Name x p) (e::es) [] pos) (Tp sp [] E0 t):=by
 refine ke ?_ D.ex;rintro f fd F hm hk hb;rw[d5,aL] at hn;exact Wv F hr hg hm hk hb .nil HL ha IH (vV hn.1) (qI hn.2)
theorem cp{pl:Sem Bool}(he:PE X o ta)(c:z7 X.K C)(D:i5 X.prog X.w X.K X.mg X.base C m k ps sp)(hr:jx k X.A)(ha:PA X (e::es) t)(hn:(e::es).all Qa=true:=by rfl)(ht:eval (.Call (.Attribute o m apos) (e::es) [] pos) X.env=(do
   let ov <-eval o X.env
   aa5 apos.atName
   let(f,first) <-holding [ov] (Gu ov m pl)
   qp pos f first (fO pos (bO (e::es) X.env)) (iX pos (eY [] X.env))):=by rfl):
  PE X (.Call (.Attribute o m apos) (e::es) [] pos) (vy C m sp [] E0 ta t):=by
 refine j7 ?_ D.ex;rintro f fd F hm hb;rw[d5,aL] at hn;exact Ww he c hm F hr hb .nil HL ha (vV hn.1) (qI hn.2) ht
theorem dv{pl:Sem Bool}(he:PE X o ta)(c:z7 X.K C)(D:i5 X.prog X.w X.K X.mg X.base C m k ps sp)(hr:jx k X.A)(ht:eval (.Call (.Attribute o m apos) [] [] pos) X.env=(do
   let ov <-eval o X.env
   aa5 apos.atName
   let(f,first) <-holding [ov] (Gu ov m pl)
   qp pos f first (fO pos (bO [] X.env)) (iX pos (eY [] X.env))):=by rfl):
  PE X (.Call (.Attribute o m apos) [] [] pos) (vy C m sp [] E0 ta vx):=by
 refine j7 ?_ D.ex;rintro f fd F hm hb;exact Tq he c hm F hr hb .nil HL ht
theorem n6(D:C0 X.prog X.w X.K X.mg X.base x C k ps sp)(hr:jx (k+1) X.A)(hg:Gl X x)(ha:PA X (e::es) t)(hn:(e::es).all Qa=true:=by rfl)(IH:(x==("__debug__":Str))=false:=by decide):
  PE X (.Call (.Name x p) (e::es) [] pos) (PJ C sp [] E0 t):=by
 refine ke ?_ D.ex;rintro f fd F M hb hm;rw[d5,aL] at hn;exact Wx M F hr hg hm hb .nil HL ha IH (vV hn.1) (qI hn.2)
theorem HY(D:C0 X.prog X.w X.K X.mg X.base x C k ps sp)(hr:jx (k+1) X.A)(hg:Gl X x)(IH:(x==("__debug__":Str))=false:=by decide):PE X (.Call (.Name x p) [] [] pos) (PJ C sp [] E0 vx):=by refine ke ?_ D.ex;rintro f fd F M hb hm;exact Tu M F hr hg hm hb .nil HL IH
theorem PE.or{e:Expr}{t u:TE}(h1:PE X e t)(h2:PE X e u):PE X e (λσ H Q=>t σ H Q∨u σ H Q):=λpins s σ H Q I h=>h.elim (h1 pins s σ H Q I) (h2 pins s σ H Q I)
structure tP(mg:Str->Option ak)(x:Str)(v:V):Prop where
 ex:∃u,mg x=some u/\RelV v u
theorem cY{v:V}(c:tP X.mg x v)(hg:Gl X x)(hd:(x==("__debug__":Str))=false:=by decide):PE X (.Name x pos) (tC v):=by obtain⟨u,hm,r⟩:=c.ex;exact Wk hg hm r hd
end
theorem cP:di "len"=some (.builtin "len"):=by decide+kernel
theorem vW:di "all"=some (.builtin "all"):=by decide+kernel
theorem Zw:di "any"=some (.builtin "any"):=by decide+kernel
theorem zf:di "ord"=some (.builtin "ord"):=by decide+kernel
theorem GN:di "isinstance"=some (.builtin "isinstance"):=by decide+kernel
theorem NV:di "max"=some (.builtin "max"):=by decide+kernel
theorem Ut:di "min"=some (.builtin "min"):=by decide+kernel
theorem Zx:di "sum"=some (.builtin "sum"):=by decide+kernel
theorem RB:di "sorted"=some (.builtin "sorted"):=by decide+kernel
theorem Uu:di "set"=some (.type "set"):=by decide+kernel
theorem Er:di "str"=some (.type "str"):=by decide+kernel
theorem NW:di "int"=some (.type "int"):=by decide+kernel
theorem Qb:di "list"=some (.type "list"):=by decide+kernel
theorem Uv:di "tuple"=some (.type "tuple"):=by decide+kernel
theorem fG{c A B:Prop}[Decidable c](h1:c->A)(h2:¬c->B):if decide c=true then A else B:=by
 by_cases h:c
 ·rw[decide_eq_true h];exact kW (h1 h)
 ·rw[decide_eq_false h];exact lh (h2 h)
theorem vX{c A B:Prop}[Decidable c](h1:¬c->A)(h2:c->B):if(!decide c)=true then A else B:=by
 by_cases h:c
 ·rw[decide_eq_true h];exact lh (h2 h)
 ·rw[decide_eq_false h];exact kW (h1 h)
theorem Es{b:Bool}{A B:Prop}(h1:b=true->A)(h2:b=false->B):if b=true then A else B:=by
 cases b with
 |true=>exact kW (h1 rfl)
 |false=>exact lh (h2 rfl)
theorem kQ{b:Bool}{A B:Prop}(h1:b=false->A)(h2:b=true->B):if(!b)=true then A else B:=by
 cases b with
 |true=>exact lh (h2 rfl)
 |false=>exact kW (h1 rfl)
def cut(H:Hp)(S:List af):Hp:=λb=>if b∈S then none else H b
theorem vY{H:Hp}{S:List af}{b:af}(h:b∈S):cut H S b=none:=by unfold cut;rw[if_pos h]
theorem c7{H:Hp}{S:List af}{b:af}(h:¬b∈S):cut H S b=H b:=by unfold cut;rw[if_neg h]
theorem c8{H:Hp}{S:List af}{b:af}{o:HO}(h:cut H S b=some o):¬b∈S/\H b=some o:=by
 by_cases q:b∈S
 ·rw[vY q] at h;cases h
 ·rw[c7 q] at h;exact⟨q,h⟩
theorem bY(H:Hp)(S:List af):aT (cut H S) H:=λ_ _ h=>(c8 h).2
theorem dR{H H':Hp}{S:List af}(h:aT H H'):aT (cut H S) (cut H' S):=λb o e=>by obtain⟨n,e⟩:=c8 e;rw[c7 n];exact h b o e
theorem tQ{H:Hp}{S:List af}{a:af}{o:HO}(h:a∈S):cut (upd H a o) S=cut H S:=by
 funext b;by_cases q:b∈S
 ·rw[vY q,vY q]
 ·rw[c7 q,c7 q,ay (λe=>q (by rw[e];exact h))]
def c6(S:List af)(H H':Hp):Prop:=aT (cut H S) H'
theorem c6.of{S:List af}{H H':Hp}(h:aT H H'):c6 S H H':=(bY H S).trans h
theorem c6.at{S:List af}{H H':Hp}(h:c6 S H H'){b:af}{o:HO}(e:H b=some o)(n:¬b∈S):H' b=some o:=h b o (by rw[c7 n];exact e)
theorem c6.trans{S:List af}{H H1 H2:Hp}(a:c6 S H H1)(b:c6 S H1 H2):c6 S H H2:=λc o e=>by obtain⟨n,e'⟩:=c8 e;exact b.at (a c o e) n
theorem c6.upd{S:List af}{H H':Hp}{a:af}{o:HO}(h:c6 S H H')(ha:a∈S):c6 S H (upd H' a o):=λb u e=>by obtain⟨n,_⟩:=c8 e;rw[ay (λq=>n (by rw[q];exact ha))];exact h b u e
theorem c6.sub{S S':List af}{H H':Hp}(h:c6 S H H')(k:∀b∈S,b∈S'):c6 S' H H':=λb o e=>by obtain⟨n,e⟩:=c8 e;exact h.at e λq=>n (k b q)
theorem aD{H:Hp}{a:af}{o:HO}(h:H a=none):aT H (upd H a o):=λb u e=>by rw[ay (aR e h)];exact e
theorem aT.cutD{H H':Hp}{D:af}(hD:H D=none)(h:c6 [D] H H'):aT H H':=λb o e=>h.at e (by simp;exact aR e hD)
def top(i:Nat):cD:=PySem.Challenge.pw_blindrelease_s01_answers.main.body.getD i (.Pass ⟨0,0,0,0⟩)
abbrev Et:cD:=inClass (top 1) 0
abbrev Eu:cD:=inClass (top 8) 0
abbrev HZ:cD:=inClass (top 8) 1
abbrev Ew:cD:=inClass (top 8) 2
abbrev Ex:cD:=inClass (top 9) 0
abbrev yl:cD:=inClass (top 9) 1
abbrev Ey:cD:=inClass (top 24) 0
abbrev uz:cD:=inClass (top 24) 1
abbrev oT:cD:=inClass (top 24) 2
abbrev qJ:cD:=inClass (top 24) 3
abbrev Cq:cD:=inClass (top 24) 4
abbrev Ez:cD:=inClass (top 24) 5
abbrev EA:cD:=inClass (top 25) 0
abbrev vZ:cD:=inClass (top 25) 1
abbrev v9:cD:=inClass (top 25) 2
abbrev uA:cD:=inClass (top 25) 3
abbrev oU:cD:=inClass (top 25) 4
abbrev qK:cD:=inClass (top 25) 5
abbrev Cr:cD:=inClass (top 25) 6
abbrev EB:cD:=inClass (top 25) 7
abbrev EC:cD:=inClass (top 27) 0
abbrev pT:cD:=inClass (top 27) 1
abbrev pU:cD:=inClass (top 27) 2
abbrev qL:cD:=inClass (top 27) 3
abbrev pV:cD:=inClass (top 27) 4
abbrev qM:cD:=inClass (top 27) 5
abbrev wa:cD:=inClass (top 27) 6
abbrev ym:cD:=inClass (top 27) 7
abbrev ED:cD:=inClass (top 56) 0
abbrev EE:cD:=inClass (top 56) 1
abbrev qN:cD:=inClass (top 56) 2
abbrev uB:cD:=inClass (top 56) 3
abbrev uC:cD:=inClass (top 56) 4
abbrev mK:cD:=inClass (top 56) 5
abbrev qO:cD:=inClass (top 56) 6
abbrev pW:cD:=inClass (top 56) 7
abbrev pX:cD:=inClass (top 56) 8
abbrev se:cD:=inClass (top 56) 9
abbrev uD:cD:=inClass (top 56) 10
abbrev qP:cD:=inClass (top 56) 11
abbrev sf:cD:=inClass (top 56) 12
abbrev jZ:cD:=inClass (top 56) 13
abbrev EF:cD:=inClass (top 78) 0
abbrev Cs:cD:=inClass (top 78) 1
abbrev oV:cD:=inClass (top 78) 2
abbrev pY:cD:=inClass (top 78) 3
abbrev Al:cD:=inClass (top 78) 4
abbrev si:cD:=top 2
abbrev uE:cD:=top 3
abbrev Am:cD:=top 4
abbrev EG:cD:=top 5
abbrev An:cD:=top 6
abbrev Ao:cD:=top 10
abbrev yo:cD:=top 11
abbrev Ct:cD:=top 12
abbrev Ap:cD:=top 13
abbrev wb:cD:=top 14
abbrev pZ:cD:=top 15
abbrev n8:cD:=top 16
abbrev Aq:cD:=top 17
abbrev qQ:cD:=top 18
abbrev iu:cD:=top 19
abbrev yp:cD:=top 20
abbrev Ia:cD:=top 35
abbrev EH:cD:=top 36
abbrev EI:cD:=top 37
abbrev EJ:cD:=top 38
abbrev Ib:cD:=top 39
abbrev Cu:cD:=top 40
abbrev Cv:cD:=top 41
abbrev p4:cD:=top 42
abbrev n9:cD:=top 43
abbrev Cw:cD:=top 54
abbrev Ar:cD:=top 55
abbrev Qc:cD:=top 58
abbrev Cy:cD:=top 59
abbrev wc:cD:=top 60
abbrev we:cD:=top 61
abbrev sj:cD:=top 79
abbrev nu:cD:=top 80
abbrev qR:cD:=top 81
abbrev uF:cD:=top 82
abbrev yq:cD:=top 83
abbrev sk:cD:=top 84
abbrev uG:cD:=top 85
abbrev yr:cD:=top 86
abbrev wg:cD:=top 87
abbrev wj:cD:=top 88
abbrev yt:cD:=top 89
abbrev sm:cD:=top 90
abbrev yu:cD:=top 91
abbrev qS:cD:=top 92
abbrev uH:cD:=top 93
abbrev wk:cD:=top 94
abbrev yw:cD:=top 95
abbrev yx:cD:=top 96
abbrev wm:cD:=top 97
abbrev uI:cD:=top 98
abbrev yy:cD:=top 100
abbrev Ic:cD:=top 101
structure Cl where
 row:af
 rel:af
 lV:af
 num:af
 fL:af
 iw:af
 fS:af
 d7:af
section
variable(K:ah)(mg:Str->Option ak)(A:Cl)
structure Zy:Prop where
 cl:z7 K A.row
 pG:dC K A.row "sleeper"
 EK:dC K A.row "secret"
 As:dC K A.row "cells"
 init:ze K mg "Row" A.row "Row.__init__" Et ["self","sleeper","secret","cells"]
structure Zz:Prop where
 cl:z7 K A.rel
 p5:dC K A.rel "levels"
 X8:dC K A.rel "k"
 X9:dC K A.rel "u"
 xr:dC K A.rel "looks"
 tR:dC K A.rel "left_out"
 init:ze K mg "Release" A.rel "Release.__init__" Eu ["self","levels","k","u","looks","left_out"]
 agi:iS K A.rel "has" "Release.has" HZ ["self","row"]
 acU:iS K A.rel "told" "Release.told" Ew ["self"]
structure ZA:Prop where
 cl:z7 K A.lV
 Qe:dC K A.lV "row"
 xt:dC K A.lV "among"
 X8:dC K A.lV "k"
 X9:dC K A.lV "u"
 init:ze K mg "Hiding" A.lV "Hiding.__init__" Ex ["self","row","among","k","u"]
 Uw:iS K A.lV "is_safe" "Hiding.is_safe" yl ["self"]
structure ZC:Prop where
 cl:z7 K A.num
 tS:dC K A.num "title"
 DH:dC K A.num "steps"
 pd:dC K A.num "costs"
 init:ze K mg "NumbersColumn" A.num "NumbersColumn.__init__" Ey ["self","title","steps"]
 zg:iS K A.num "is_filled" "NumbersColumn.is_filled" uz ["self"]
 p6:iS K A.num "opening_lines" "NumbersColumn.opening_lines" oT ["self"]
 tT:iS K A.num "level_count" "NumbersColumn.level_count" qJ ["self"]
 NX:iS K A.num "holds" "NumbersColumn.holds" Cq ["self","cell"]
 Ux:iS K A.num "look" "NumbersColumn.look" Ez ["self","cell","level"]
structure ZD:Prop where
 cl:z7 K A.fL
 tS:dC K A.fL "title"
 oa:dC K A.fL "chains"
 lM:dC K A.fL "longest_chain"
 pd:dC K A.fL "costs"
 init:ze K mg "WordsColumn" A.fL "WordsColumn.__init__" EA ["self","title"]
 RC:iS K A.fL "add_word" "WordsColumn.add_word" vZ ["self","word","above"]
 RD:iS K A.fL "chain_of" "WordsColumn.chain_of" v9 ["self","word"]
 zg:iS K A.fL "is_filled" "WordsColumn.is_filled" uA ["self"]
 p6:iS K A.fL "opening_lines" "WordsColumn.opening_lines" oU ["self"]
 tT:iS K A.fL "level_count" "WordsColumn.level_count" qK ["self"]
 NX:iS K A.fL "holds" "WordsColumn.holds" Cr ["self","cell"]
 Ux:iS K A.fL "look" "WordsColumn.look" EB ["self","cell","level"]
structure ZE:Prop where
 cl:z7 K A.iw
 fk:dC K A.iw "columns"
 gE:dC K A.iw "secret_name"
 eh:dC K A.iw "secret_values"
 init:ze K mg "Form" A.iw "Form.__init__" EC ["self","columns","secret_name","secret_values"]
 GO:iS K A.iw "level_counts" "Form.level_counts" pT ["self"]
 GP:iS K A.iw "takes_secret" "Form.takes_secret" pU ["self","secret"]
 Je:iS K A.iw "takes_cells" "Form.takes_cells" qL ["self","cells"]
 GQ:iS K A.iw "takes_levels" "Form.takes_levels" pV ["self","levels"]
 Jf:iS K A.iw "takes_asked" "Form.takes_asked" qM ["self","asked"]
 RE:iS K A.iw "looks_of" "Form.looks_of" wa ["self","cells","levels"]
 Uy:iS K A.iw "cost_at" "Form.cost_at" ym ["self","levels"]
structure ZF:Prop where
 cl:z7 K A.fS
 fk:dC K A.fS "columns"
 mj:dC K A.fS "unended"
 gE:dC K A.fS "secret_name"
 eh:dC K A.fS "secret_values"
 init:ze K mg "FormReader" A.fS "FormReader.__init__" ED ["self"]
 acV:iS K A.fS "read" "FormReader.read" EE ["self","data"]
 Jg:iS K A.fS "is_complete" "FormReader.is_complete" qN ["self"]
 NY:iS K A.fS "made_form" "FormReader.made_form" uB ["self"]
 NZ:iS K A.fS "take_line" "FormReader.take_line" uC ["self","words"]
 Au:iS K A.fS "take_line_within" "FormReader.take_line_within" mK ["self","words"]
 Jh:iS K A.fS "is_new_name" "FormReader.is_new_name" qO ["self","word"]
 GR:iS K A.fS "begin_column" "FormReader.begin_column" pW ["self","column"]
 GS:iS K A.fS "take_numbers" "FormReader.take_numbers" pX ["self","words"]
 Li:iS K A.fS "take_words" "FormReader.take_words" se ["self","words"]
 N1:iS K A.fS "take_word" "FormReader.take_word" uD ["self","words"]
 Ji:iS K A.fS "chain_above" "FormReader.chain_above" qP ["self","words"]
 Lj:iS K A.fS "take_costs" "FormReader.take_costs" sf ["self","words"]
 Jj:iS K A.fS "take_secret" "FormReader.take_secret" jZ ["self","words"]
structure ZG:Prop where
 cl:z7 K A.d7
 gK:dC K A.d7 "form"
 kl:dC K A.d7 "rows"
 gb:dC K A.d7 "releases"
 init:ze K mg "House" A.d7 "House.__init__" EF ["self"]
 begin_:iS K A.d7 "begin" "House.begin" Cs ["self","form"]
 EL:iS K A.d7 "rows_in_order" "House.rows_in_order" oV ["self"]
 GU:iS K A.d7 "has_released" "House.has_released" pY ["self","row"]
 WV:iS K A.d7 "hiding" "House.hiding" Al ["self","w"]
structure ZH:Prop where
 EM:Raw K mg "unlike_secrets" "unlike_secrets" si ["rows"]
 GV:Raw K mg "secret_counts" "secret_counts" uE ["rows","value_count"]
 N3:Raw K mg "are_enough" "are_enough" Am ["rows","k","u"]
 Uz:Raw K mg "class_of" "class_of" EG ["form","rows","row","levels"]
 N5:Raw K mg "classes_at" "classes_at" An ["form","rows","levels"]
structure ZI:Prop where
 N6:Raw K mg "release_at" "release_at" Ao ["form","rows","levels","k","u"]
 Lk:Raw K mg "hiding_with" "hiding_with" yo ["hiding","release"]
 RF:Raw K mg "hiding_of" "hiding_of" Ct ["row","rows","releases"]
 N7:Raw K mg "hidings_of" "hidings_of" Ap ["rows","releases"]
 Jk:Raw K mg "is_safe_with" "is_safe_with" wb ["hidings","release"]
 BE:Raw K mg "levels_looked_at" "levels_looked_at" pZ ["form","asked"]
 zh:Raw K mg "releases_looked_at" "releases_looked_at" n8 ["form","rows","k","u","asked"]
 N8:Raw K mg "safe_alone" "safe_alone" Aq ["looked_at","m"]
 C1:Raw K mg "that_may_go_out" "that_may_go_out" qQ ["looked_at","m","rows","releases"]
 WW:Raw K mg "best_release" "best_release" iu ["form","rows","releases","numbers","asked"]
 Ll:Raw K mg "next_counts" "next_counts" yp ["form","rows","releases","numbers","asked"]
structure ZJ:Prop where
 sign_of:Raw K mg "sign_of" "sign_of" Ia ["byte"]
 UA:Raw K mg "bytes_of" "bytes_of" EH ["text"]
 UB:Raw K mg "lines_of" "lines_of" EI ["data"]
 words_of:Raw K mg "words_of" "words_of" EJ ["line"]
 WX:Raw K mg "is_name" "is_name" Ib ["word"]
 RG:Raw K mg "are_names" "are_names" Cu ["words"]
 RH:Raw K mg "is_number" "is_number" Cv ["word"]
 BF:Raw K mg "is_number_within" "is_number_within" p4 ["word","least","most"]
 zi:Raw K mg "are_numbers_within" "are_numbers_within" n9 ["words","least","most"]
structure ZK:Prop where
 RI:Raw K mg "are_steps" "are_steps" Cw ["steps"]
 N9:Raw K mg "never_fall" "never_fall" Ar ["costs"]
structure ZL:Prop where
 ended:Raw K mg "ended" "ended" Qc ["lines"]
 RJ:Raw K mg "form_text" "form_text" Cy ["form"]
 Jl:Raw K mg "release_line" "release_line" wc ["looks","counts"]
 Jm:Raw K mg "release_text" "release_text" we ["form","rows","release"]
structure ZM:Prop where
 EN:Raw K mg "is_row_as_told" "is_row_as_told" sj ["form","w","s","cells"]
 xJ:Raw K mg "are_k_and_u_as_told" "are_k_and_u_as_told" nu ["k","u"]
 C2:Raw K mg "is_plan_as_told" "is_plan_as_told" qR ["form","numbers","asked"]
 GW:Raw K mg "counted_bytes" "counted_bytes" uF ["text"]
 Lm:Raw K mg "answer_form" "answer_form" yq ["house","numbers","data"]
 EO:Raw K mg "answer_sleeper" "answer_sleeper" sk ["house","numbers","cells"]
 GX:Raw K mg "answer_change" "answer_change" uG ["house","numbers","cells"]
 Ln:Raw K mg "answer_show" "answer_show" yr ["house","numbers","levels"]
 Jn:Raw K mg "answer_alike" "answer_alike" wg ["house","numbers","levels"]
 Jo:Raw K mg "answer_short" "answer_short" wj ["house","numbers","levels"]
 Lo:Raw K mg "answer_plan" "answer_plan" yt ["house","numbers","asked"]
 ER:Raw K mg "answer_release" "answer_release" sm ["house","numbers","asked"]
 Lp:Raw K mg "answer_text" "answer_text" yu ["house","numbers","row"]
 C3:Raw K mg "answer_releases" "answer_releases" qS ["house","numbers","row"]
 GY:Raw K mg "answer_hidden" "answer_hidden" uH ["house","numbers","row"]
 Jp:Raw K mg "answer_could" "answer_could" wk ["house","numbers","row"]
 Lq:Raw K mg "answer_cost" "answer_cost" yw ["house","numbers","levels"]
 Lr:Raw K mg "answer_next" "answer_next" yx ["house","numbers","asked"]
 Jq:Raw K mg "answer_print" "answer_print" wm ["house","numbers","row"]
 GZ:Raw K mg "answer_counts" "answer_counts" uI ["house","numbers","row"]
 Ls:Raw K mg "answer_call" "answer_call" yy ["house","call","numbers","row"]
 answers:Raw K mg "answers" "answers" Ic ["calls"]
structure Tk:Prop where
 C4:tP mg "GREATEST_NUMBER" (.int (1000000))
 ES:tP mg "EVERYTHING" (.str "*")
 UC:tP mg "LINE_END" (.int (10))
 acW:tP mg "BLANK" (.int (32))
 Qg:tP mg "LETTERS" (.str "abcdefghijklmnopqrstuvwxyz")
 UD:tP mg "DIGITS" (.str "0123456789")
 Jr:tP mg "LONGEST_NAME" (.int (10))
 ET:tP mg "LONGEST_NUMBER" (.int (7))
 Js:tP mg "MOST_COLUMNS" (.int (4))
 Oa:tP mg "MOST_STEPS" (.int (2))
 Ob:tP mg "LEAST_STEP" (.int (2))
 G2:tP mg "GREATEST_STEP" (.int (1000000))
 Oc:tP mg "MOST_WORDS" (.int (30))
 Od:tP mg "MOST_ABOVE" (.int (2))
 G3:tP mg "GREATEST_COST" (.int (10000))
 EU:tP mg "FEWEST_SECRETS" (.int (2))
 Jt:tP mg "MOST_SECRETS" (.int (12))
 WY:tP mg "NO_FORM" (.int (-9))
 ib:tP mg "NOT_AS_TOLD" (.int (-1))
 p7:tP mg "NO_SLEEPER" (.int (-4))
 Ya:tP mg "TAKEN" (.int (-5))
 acX:tP mg "FULL" (.int (-6))
 WZ:tP mg "NO_PLAN" (.int (-8))
 BG:tP mg "GREATEST_SLEEPER" (.int (999))
 G4:tP mg "MOST_SLEEPERS" (.int (40))
 G5:tP mg "MOST_RELEASES" (.int (4))
 Oe:tP mg "GREATEST_K" (.int (40))
 Of:tP mg "GREATEST_U" (.int (12))
 Og:tP mg "GREATEST_M" (.int (40))
 agj:tP mg "FORM" (.int (0))
structure Tb:Prop where
 Cz:mg "all"=none
 acY:mg "any"=none
 Lu:mg "enumerate"=none
 UE:mg "int"=none
 Ju:mg "isinstance"=none
 dS:mg "len"=none
 UG:mg "list"=none
 UH:mg "max"=none
 Yb:mg "min"=none
 EV:mg "ord"=none
 Qh:mg "range"=none
 Yc:mg "set"=none
 UI:mg "sorted"=none
 Lv:mg "str"=none
 acZ:mg "sum"=none
 W2:mg "tuple"=none
 EW:mg "zip"=none
structure Txt:Prop where
 row:Zy K mg A
 rel:Zz K mg A
 lV:ZA K mg A
 num:ZC K mg A
 fL:ZD K mg A
 iw:ZE K mg A
 fS:ZF K mg A
 d7:ZG K mg A
 Lw:ZH K mg
 yz:ZI K mg
 Av:ZJ K mg
 Yd:ZK K mg
 Qi:ZL K mg
 kR:ZM K mg
 k:Tk mg
 b:Tb mg
end
@[reducible] def yA(ml og qT:V):List (Str×V):=[("sleeper",ml),("secret",og),("cells",qT)]
section
variable{ml og qT:V}
theorem lu:(yA ml og qT).lookup ("sleeper":Str)=some ml:=by kernel_rfl
theorem Aw:(yA ml og qT).lookup ("secret":Str)=some og:=by kernel_rfl
theorem qU:(yA ml og qT).lookup ("cells":Str)=some qT:=by kernel_rfl
theorem Oh:d6 "cells" qT (d6 "secret" og (d6 "sleeper" ml ([])))=yA ml og qT:=by kernel_rfl
end
@[reducible] def wo(jM EX EY lO gR:V):List (Str×V):=[("levels",jM),("k",EX),("u",EY),("looks",lO),("left_out",gR)]
section
variable{jM EX EY lO gR:V}
theorem kI:(wo jM EX EY lO gR).lookup ("levels":Str)=some jM:=by kernel_rfl
theorem Qj:(wo jM EX EY lO gR).lookup ("k":Str)=some EX:=by kernel_rfl
theorem Qk:(wo jM EX EY lO gR).lookup ("u":Str)=some EY:=by kernel_rfl
theorem oh:(wo jM EX EY lO gR).lookup ("looks":Str)=some lO:=by kernel_rfl
theorem p8:(wo jM EX EY lO gR).lookup ("left_out":Str)=some gR:=by kernel_rfl
theorem pf:(wo jM EX EY lO gR).lookup ("has":Str)=none:=by kernel_rfl
theorem rB:(wo jM EX EY lO gR).lookup ("told":Str)=none:=by kernel_rfl
theorem Oi:d6 "left_out" gR (d6 "looks" lO (d6 "u" EY (d6 "k" EX (d6 "levels" jM ([])))))=wo jM EX EY lO gR:=by kernel_rfl
end
@[reducible] def CA(yB nV EX EY:V):List (Str×V):=[("row",yB),("among",nV),("k",EX),("u",EY)]
section
variable{yB nV EX EY:V}
theorem BH:(CA yB nV EX EY).lookup ("row":Str)=some yB:=by kernel_rfl
theorem oj:(CA yB nV EX EY).lookup ("among":Str)=some nV:=by kernel_rfl
theorem Jv:(CA yB nV EX EY).lookup ("k":Str)=some EX:=by kernel_rfl
theorem Jw:(CA yB nV EX EY).lookup ("u":Str)=some EY:=by kernel_rfl
theorem BI:(CA yB nV EX EY).lookup ("is_safe":Str)=none:=by kernel_rfl
theorem Oj:d6 "u" EY (d6 "k" EX (d6 "among" nV (d6 "row" yB ([]))))=CA yB nV EX EY:=by kernel_rfl
end
@[reducible] def oW(dA jC dN:V):List (Str×V):=[("title",dA),("steps",jC),("costs",dN)]
section
variable{dA jC dN:V}
theorem wq:(oW dA jC dN).lookup ("title":Str)=some dA:=by kernel_rfl
theorem wt:(oW dA jC dN).lookup ("steps":Str)=some jC:=by kernel_rfl
theorem qV:(oW dA jC dN).lookup ("costs":Str)=some dN:=by kernel_rfl
theorem zj:(oW dA jC dN).lookup ("is_filled":Str)=none:=by kernel_rfl
theorem tU:(oW dA jC dN).lookup ("opening_lines":Str)=none:=by kernel_rfl
theorem km:(oW dA jC dN).lookup ("level_count":Str)=none:=by kernel_rfl
theorem EZ:(oW dA jC dN).lookup ("holds":Str)=none:=by kernel_rfl
theorem G6:(oW dA jC dN).lookup ("look":Str)=none:=by kernel_rfl
theorem uJ(y:V):d6 "costs" y (oW dA jC dN)=oW dA jC y:=by kernel_rfl
theorem Ol:d6 "costs" dN (d6 "steps" jC (d6 "title" dA ([])))=oW dA jC dN:=by kernel_rfl
end
@[reducible] def ko(dA fH cq dN:V):List (Str×V):=[("title",dA),("chains",fH),("longest_chain",cq),("costs",dN)]
section
variable{dA fH cq dN:V}
theorem wu:(ko dA fH cq dN).lookup ("title":Str)=some dA:=by kernel_rfl
theorem jD:(ko dA fH cq dN).lookup ("chains":Str)=some fH:=by kernel_rfl
theorem oX:(ko dA fH cq dN).lookup ("longest_chain":Str)=some cq:=by kernel_rfl
theorem qW:(ko dA fH cq dN).lookup ("costs":Str)=some dN:=by kernel_rfl
theorem Ax:(ko dA fH cq dN).lookup ("add_word":Str)=none:=by kernel_rfl
theorem qX:(ko dA fH cq dN).lookup ("chain_of":Str)=none:=by kernel_rfl
theorem zk:(ko dA fH cq dN).lookup ("is_filled":Str)=none:=by kernel_rfl
theorem tV:(ko dA fH cq dN).lookup ("opening_lines":Str)=none:=by kernel_rfl
theorem kq:(ko dA fH cq dN).lookup ("level_count":Str)=none:=by kernel_rfl
theorem E1:(ko dA fH cq dN).lookup ("holds":Str)=none:=by kernel_rfl
theorem G7:(ko dA fH cq dN).lookup ("look":Str)=none:=by kernel_rfl
theorem sv(y:V):d6 "longest_chain" y (ko dA fH cq dN)=ko dA fH y dN:=by kernel_rfl
theorem uK(y:V):d6 "costs" y (ko dA fH cq dN)=ko dA fH cq y:=by kernel_rfl
theorem Om:d6 "costs" dN (d6 "longest_chain" cq (d6 "chains" fH (d6 "title" dA ([]))))=ko dA fH cq dN:=by kernel_rfl
end
@[reducible] def sx(bR bu bc:V):List (Str×V):=[("columns",bR),("secret_name",bu),("secret_values",bc)]
section
variable{bR bu bc:V}
theorem fX:(sx bR bu bc).lookup ("columns":Str)=some bR:=by kernel_rfl
theorem Ay:(sx bR bu bc).lookup ("secret_name":Str)=some bu:=by kernel_rfl
theorem gg:(sx bR bu bc).lookup ("secret_values":Str)=some bc:=by kernel_rfl
theorem jV:(sx bR bu bc).lookup ("level_counts":Str)=none:=by kernel_rfl
theorem u7:(sx bR bu bc).lookup ("takes_secret":Str)=none:=by kernel_rfl
theorem wx:(sx bR bu bc).lookup ("takes_cells":Str)=none:=by kernel_rfl
theorem iC:(sx bR bu bc).lookup ("takes_levels":Str)=none:=by kernel_rfl
theorem wy:(sx bR bu bc).lookup ("takes_asked":Str)=none:=by kernel_rfl
theorem j0:(sx bR bu bc).lookup ("looks_of":Str)=none:=by kernel_rfl
theorem kJ:(sx bR bu bc).lookup ("cost_at":Str)=none:=by kernel_rfl
theorem Oo:d6 "secret_values" bc (d6 "secret_name" bu (d6 "columns" bR ([])))=sx bR bu bc:=by kernel_rfl
end
@[reducible] def gO(bR dk bu bc:V):List (Str×V):=[("columns",bR),("unended",dk),("secret_name",bu),("secret_values",bc)]
section
variable{bR dk bu bc:V}
theorem lA:(gO bR dk bu bc).lookup ("columns":Str)=some bR:=by kernel_rfl
theorem lB:(gO bR dk bu bc).lookup ("unended":Str)=some dk:=by kernel_rfl
theorem j4:(gO bR dk bu bc).lookup ("secret_name":Str)=some bu:=by kernel_rfl
theorem xK:(gO bR dk bu bc).lookup ("secret_values":Str)=some bc:=by kernel_rfl
theorem G8:(gO bR dk bu bc).lookup ("read":Str)=none:=by kernel_rfl
theorem wz:(gO bR dk bu bc).lookup ("is_complete":Str)=none:=by kernel_rfl
theorem zl:(gO bR dk bu bc).lookup ("made_form":Str)=none:=by kernel_rfl
theorem zm:(gO bR dk bu bc).lookup ("take_line":Str)=none:=by kernel_rfl
theorem qv:(gO bR dk bu bc).lookup ("take_line_within":Str)=none:=by kernel_rfl
theorem om:(gO bR dk bu bc).lookup ("is_new_name":Str)=none:=by kernel_rfl
theorem nv:(gO bR dk bu bc).lookup ("begin_column":Str)=none:=by kernel_rfl
theorem u9:(gO bR dk bu bc).lookup ("take_numbers":Str)=none:=by kernel_rfl
theorem xM:(gO bR dk bu bc).lookup ("take_words":Str)=none:=by kernel_rfl
theorem zo:(gO bR dk bu bc).lookup ("take_word":Str)=none:=by kernel_rfl
theorem wA:(gO bR dk bu bc).lookup ("chain_above":Str)=none:=by kernel_rfl
theorem xN:(gO bR dk bu bc).lookup ("take_costs":Str)=none:=by kernel_rfl
theorem wB:(gO bR dk bu bc).lookup ("take_secret":Str)=none:=by kernel_rfl
theorem qY(y:V):d6 "unended" y (gO bR dk bu bc)=gO bR y bu bc:=by kernel_rfl
theorem va(y:V):d6 "secret_name" y (gO bR dk bu bc)=gO bR dk y bc:=by kernel_rfl
theorem sA(y:V):d6 "secret_values" y (gO bR dk bu bc)=gO bR dk bu y:=by kernel_rfl
theorem Oq:d6 "secret_values" bc (d6 "secret_name" bu (d6 "unended" dk (d6 "columns" bR ([]))))=gO bR dk bu bc:=by kernel_rfl
end
@[reducible] def lC(kr kz eT:V):List (Str×V):=[("form",kr),("rows",kz),("releases",eT)]
section
variable{kr kz eT:V}
theorem dg:(lC kr kz eT).lookup ("form":Str)=some kr:=by kernel_rfl
theorem fB:(lC kr kz eT).lookup ("rows":Str)=some kz:=by kernel_rfl
theorem eB:(lC kr kz eT).lookup ("releases":Str)=some eT:=by kernel_rfl
theorem E2:(lC kr kz eT).lookup ("begin":Str)=none:=by kernel_rfl
theorem dZ:(lC kr kz eT).lookup ("rows_in_order":Str)=none:=by kernel_rfl
theorem vb:(lC kr kz eT).lookup ("has_released":Str)=none:=by kernel_rfl
theorem uL:(lC kr kz eT).lookup ("hiding":Str)=none:=by kernel_rfl
theorem E3(y:V):d6 "form" y (lC kr kz eT)=lC y kz eT:=by kernel_rfl
theorem E4(y:V):d6 "rows" y (lC kr kz eT)=lC kr y eT:=by kernel_rfl
theorem zp(y:V):d6 "releases" y (lC kr kz eT)=lC kr kz y:=by kernel_rfl
theorem Ot:d6 "releases" eT (d6 "rows" kz (d6 "form" kr ([])))=lC kr kz eT:=by kernel_rfl
end
theorem Lx:bf ["self","sleeper","secret","cells"] ["self","sleeper","secret","cells"] (aO Et):=g0
theorem Ly:bf ["self","levels","k","u","looks","left_out"] ["self","levels","k","u","looks","left_out"] (aO Eu):=g0
theorem Ou:bf ["self","row"] ["self","row"] (aO HZ):=g0
theorem Lz:bf ["self"] ["self"] (aO Ew):=g0
theorem LA:bf ["self","row","among","k","u"] ["self","row","among","k","u"] (aO Ex):=g0
theorem E5:bf ["self"] ["self"] (aO yl):=g0
theorem LB:bf ["self","title","steps"] ["self","title","steps"] (aO Ey):=g0
theorem BJ:bf ["self"] ["self"] (aO uz):=g0
theorem kC:bf ["self","step"] ["self"] (aO oT):=g0
theorem zq:bf ["self"] ["self"] (aO qJ):=g0
theorem Jx:bf ["self","cell"] ["self","cell"] (aO Cq):=g0
theorem CB:bf ["self","cell","level","step"] ["self","cell","level"] (aO Ez):=g0
theorem LC:bf ["self","title"] ["self","title"] (aO EA):=g0
theorem uM:bf ["self","word","above","chain"] ["self","word","above"] (aO vZ):=g0
theorem uN:bf ["self","word","chain"] ["self","word"] (aO v9):=g0
theorem BK:bf ["self"] ["self"] (aO uA):=g0
theorem kD:bf ["self","chain"] ["self"] (aO oU):=g0
theorem zr:bf ["self"] ["self"] (aO qK):=g0
theorem Jy:bf ["self","cell"] ["self","cell"] (aO Cr):=g0
theorem CC:bf ["self","cell","level","chain"] ["self","cell","level"] (aO EB):=g0
theorem LD:bf ["self","columns","secret_name","secret_values"] ["self","columns","secret_name","secret_values"] (aO EC):=g0
theorem kY:bf ["self","column"] ["self"] (aO pT):=g0
theorem xO:bf ["self","secret"] ["self","secret"] (aO pU):=g0
theorem jE:bf ["self","cells","column","cell"] ["self","cells"] (aO qL):=g0
theorem jf:bf ["self","levels","level","levels_here"] ["self","levels"] (aO pV):=g0
theorem lW:bf ["self","asked","mark"] ["self","asked"] (aO qM):=g0
theorem jN:bf ["self","cells","levels","column","cell","level"] ["self","cells","levels"] (aO wa):=g0
theorem mM:bf ["self","levels","column","level"] ["self","levels"] (aO ym):=g0
theorem LF:bf ["self"] ["self"] (aO ED):=g0
theorem oo:bf ["self","data","lines","number","line","words"] ["self","data"] (aO EE):=g0
theorem zt:bf ["self"] ["self"] (aO qN):=g0
theorem BL:bf ["self"] ["self"] (aO uB):=g0
theorem BM:bf ["self","words"] ["self","words"] (aO uC):=g0
theorem sD:bf ["self","words"] ["self","words"] (aO mK):=g0
theorem lX:bf ["self","word","column"] ["self","word"] (aO qO):=g0
theorem xP:bf ["self","column"] ["self","column"] (aO pW):=g0
theorem jg:bf ["self","words","steps","step"] ["self","words"] (aO pX):=g0
theorem Az:bf ["self","words"] ["self","words"] (aO se):=g0
theorem nM:bf ["self","words","column","above"] ["self","words"] (aO uD):=g0
theorem zu:bf ["self","words"] ["self","words"] (aO qP):=g0
theorem iT:bf ["self","words","column","costs","cost"] ["self","words"] (aO sf):=g0
theorem p9:bf ["self","words","secrets"] ["self","words"] (aO jZ):=g0
theorem LG:bf ["self"] ["self"] (aO EF):=g0
theorem Jz:bf ["self","form"] ["self","form"] (aO Cs):=g0
theorem wC:bf ["self"] ["self"] (aO oV):=g0
theorem kZ:bf ["self","row","release"] ["self","row"] (aO pY):=g0
theorem G9:bf ["self","w"] ["self","w"] (aO Al):=g0
theorem mN:bf ["rows","row"] ["rows"] (aO si):=g0
theorem ij:bf ["rows","value_count","secrets","row","value"] ["rows","value_count"] (aO uE):=g0
theorem Ha:bf ["rows","k","u"] ["rows","k","u"] (aO Am):=g0
theorem qZ:bf ["form","rows","row","levels","looks","other"] ["form","rows","row","levels"] (aO EG):=g0
theorem nW:bf ["form","rows","levels","classes","row","looks"] ["form","rows","levels"] (aO An):=g0
theorem lD:bf ["form","rows","levels","k","u","looks_of_sleepers","looks","alike","row"] ["form","rows","levels","k","u"] (aO Ao):=g0
theorem mO:bf ["hiding","release","looks","among","row"] ["hiding","release"] (aO yo):=g0
theorem ph:bf ["row","rows","releases","hiding","release"] ["row","rows","releases"] (aO Ct):=g0
theorem rE:bf ["rows","releases","row"] ["rows","releases"] (aO Ap):=g0
theorem uO:bf ["hidings","release","hiding"] ["hidings","release"] (aO wb):=g0
theorem dO:bf ["form","asked","found","levels_here","mark","least","longer","levels","level"] ["form","asked"] (aO pZ):=g0
theorem jW:bf ["form","rows","k","u","asked","levels"] ["form","rows","k","u","asked"] (aO n8):=g0
theorem rF:bf ["looked_at","m","release"] ["looked_at","m"] (aO Aq):=g0
theorem jF:bf ["looked_at","m","rows","releases","hidings","release"] ["looked_at","m","rows","releases"] (aO qQ):=g0
theorem uP:bf ["form","rows","releases","numbers","asked","looked_at"] ["form","rows","releases","numbers","asked"] (aO iu):=g0
theorem qd:bf ["form","rows","releases","numbers","asked","looked_at","m"] ["form","rows","releases","numbers","asked"] (aO yp):=g0
theorem Ov:bf ["byte"] ["byte"] (aO Ia):=g0
theorem wD:bf ["text","sign"] ["text"] (aO EH):=g0
theorem oq:bf ["data","lines","line","byte"] ["data"] (aO EI):=g0
theorem mm:bf ["line","text","byte","word"] ["line"] (aO EJ):=g0
theorem zv:bf ["word","sign"] ["word"] (aO Ib):=g0
theorem tW:bf ["words","word"] ["words"] (aO Cu):=g0
theorem tX:bf ["word","sign"] ["word"] (aO Cv):=g0
theorem xQ:bf ["word","least","most"] ["word","least","most"] (aO p4):=g0
theorem jX:bf ["words","least","most","word"] ["words","least","most"] (aO n9):=g0
theorem tY:bf ["steps","before","step"] ["steps"] (aO Cw):=g0
theorem nX:bf ["costs","before","cost"] ["costs"] (aO Ar):=g0
theorem E6:bf ["lines","line"] ["lines"] (aO Qc):=g0
theorem mP:bf ["form","lines","column","cost"] ["form"] (aO Cy):=g0
theorem oN:bf ["looks","counts","count"] ["looks","counts"] (aO wc):=g0
theorem gS:bf ["form","rows","release","classes","value_count","row","looks"] ["form","rows","release"] (aO we):=g0
theorem AA:bf ["form","w","s","cells"] ["form","w","s","cells"] (aO sj):=g0
theorem tZ:bf ["k","u"] ["k","u"] (aO nu):=g0
theorem zw:bf ["form","numbers","asked"] ["form","numbers","asked"] (aO qR):=g0
theorem BN:bf ["text"] ["text"] (aO uF):=g0
theorem mQ:bf ["house","numbers","data","reader","wrong","form"] ["house","numbers","data"] (aO yq):=g0
theorem mR:bf ["house","numbers","cells","w","s"] ["house","numbers","cells"] (aO sk):=g0
theorem nN:bf ["house","numbers","cells","w","s"] ["house","numbers","cells"] (aO uG):=g0
theorem mS:bf ["house","numbers","levels","w","answer","look"] ["house","numbers","levels"] (aO yr):=g0
theorem oO:bf ["house","numbers","levels","w","alike"] ["house","numbers","levels"] (aO wg):=g0
theorem gT:bf ["house","numbers","levels","k","u","rows","release","sleepers","row"] ["house","numbers","levels"] (aO wj):=g0
theorem wF:bf ["house","numbers","asked","release"] ["house","numbers","asked"] (aO yt):=g0
theorem rb:bf ["house","numbers","asked","release"] ["house","numbers","asked"] (aO sm):=g0
theorem wG:bf ["house","numbers","row","q"] ["house","numbers","row"] (aO yu):=g0
theorem lY:bf ["house","numbers","row","answer","release"] ["house","numbers","row"] (aO qS):=g0
theorem nO:bf ["house","numbers","row","w","hiding"] ["house","numbers","row"] (aO uH):=g0
theorem uQ:bf ["house","numbers","row","w"] ["house","numbers","row"] (aO wk):=g0
theorem E7:bf ["house","numbers","levels"] ["house","numbers","levels"] (aO yw):=g0
theorem E8:bf ["house","numbers","asked"] ["house","numbers","asked"] (aO yx):=g0
theorem C5:bf ["house","numbers","row"] ["house","numbers","row"] (aO wm):=g0
theorem sE:bf ["house","numbers","row","form"] ["house","numbers","row"] (aO uI):=g0
theorem E9:bf ["house","call","numbers","row"] ["house","call","numbers","row"] (aO yy):=g0
theorem gU:bf ["calls","house","given","place","call","behind","numbers","row","answer"] ["calls"] (aO Ic):=g0
end Bp
namespace Bp
open PySem PySem.Spec PyProof.Rows L2 Bm
abbrev gi:=Vbslai.Row
def sN(l:aH):Str:=⟨l.toArray⟩
def eU(ls:List aH):List V:=ls.map λl=>V.str (sN l)
def gZ(ns:List Nat):List V:=ns.map λ(n:Nat)=>V.int (n:Int)
def iZ(as:List af):List V:=as.map V.ref
theorem wH{a b:aH}(h:sN a=sN b):a=b:=by
 unfold sN at h;have e:a.toArray=b.toArray:=by injection h
 have:=congrArg F8 e;simpa using this
theorem lZ(a:aH):(sN a).cps.toList=a:=by unfold sN;simp
theorem jm(a:aH):(sN a).length=a.length:=by show(sN a).cps.size=a.length;unfold sN;simp
theorem eG(ls:List aH):(eU ls).length=ls.length:=aa ..
theorem eI(ls:List Nat):(gZ ls).length=ls.length:=aa ..
theorem cu(ls:List af):(iZ ls).length=ls.length:=aa ..
theorem Paired.wI{α β:Type}{R:α->β->Prop}:∀{l:List α}{m:List β}{i:Nat}{a:α},dn R l m->l[i]? =some a->∃b,m[i]? =some b/\R a b
 |_,_,i,a,.nil,h=>by simp at h
 |_,_,0,a,.cons r t,h=>by simp at h;subst h;exact ag rfl r
 |_,_,i+1,a,.cons r t,h=>Paired.wI (i:=i) t (by simpa using h)
theorem Paired.ac0{α β:Type}{R:α->β->Prop}:∀{l:List α}{m:List β}{i:Nat}{b:β},dn R l m->m[i]? =some b->∃a,l[i]? =some a/\R a b
 |_,_,i,a,.nil,h=>by simp at h
 |_,_,0,a,.cons r t,h=>by simp at h;subst h;exact ag rfl r
 |_,_,i+1,a,.cons r t,h=>Paired.ac0 (i:=i) t (by simpa using h)
theorem Paired.len{α β:Type}{R:α->β->Prop}:∀{l:List α}{m:List β},dn R l m->l.length=m.length
 |_,_,.nil=>rfl
 |_,_,.cons _ t=>by rw[aW,aW,Paired.len t]
theorem Paired.mono{α β:Type}{R S:α->β->Prop}(h:∀a b,R a b->S a b):∀{l:List α}{m:List β},dn R l m->dn S l m
 |_,_,.nil=>.nil
 |_,_,.cons r t=>.cons (h _ _ r) (Paired.mono h t)
theorem Paired.app{α β:Type}{R:α->β->Prop}:∀{l l':List α}{m m':List β},dn R l m->dn R l' m'->dn R (l++l') (m++m')
 |_,_,_,_,.nil,s=>s
 |_,_,_,_,.cons r t,s=>.cons r (Paired.app t s)
theorem Paired.snoc{α β:Type}{R:α->β->Prop}{l:List α}{m:List β}{a:α}{b:β}(h:dn R l m)(r:R a b):dn R (l++[a]) (m++[b]):=Paired.app h (.cons r .nil)
def rf(H:Hp)(a:af)(c:List aH):Prop:=H a=some (.lst (eU c))
def yC(A:Cl)(H:Hp)(a:af)(name:aH)(s costs:List Nat):Prop:=∃dx l m,H a=some (.ins A.num dx (oW (.str (sN name)) (.ref l) (.ref m)))/\H l=some (.lst (gZ s))/\H m=some (.lst (gZ costs))
def qe(A:Cl)(H:Hp)(a:af)(name:aH)(up:Up)(costs:List Nat):Prop:=∃dx l m as,H a=some (.ins A.fL dx (ko (.str (sN name)) (.ref l) (.int (longest (gk up):Nat)) (.ref m)))/\H l=some (.lst (iZ as))/\dn (rf H) as (gk up)/\H m=some (.lst (gZ costs))
def i7(A:Cl)(H:Hp)(a:af)(c:bA):Prop:=match c.kind with
 |.numbers s=>yC A H a c.name s c.costs
 |.words up=>qe A H a c.name up c.costs
theorem rf.mono{H H':Hp}(e:aT H H'){a:af}{c:List aH}(h:rf H a c):rf H' a c:=e _ _ h
theorem yC.mono{A:Cl}{H H':Hp}(e:aT H H'){a:af}{n:aH}{s c:List Nat}(h:yC A H a n s c):yC A H' a n s c:=by refine jT ?_ h;rintro dx l m h1 h2 h3;exact jK dx l m (e _ _ h1) (e _ _ h2) (e _ _ h3)
theorem qe.mono{A:Cl}{H H':Hp}(e:aT H H'){a:af}{n:aH}{s:Up}{c:List Nat}(h:qe A H a n s c):qe A H' a n s c:=by refine ip ?_ h;rintro dx l m as h1 h2 h3 h4;exact oJ dx l m as (e _ _ h1) (e _ _ h2) (Paired.mono (λ_ _ q=>q.mono e) h3) (e _ _ h4)
theorem i7.mono{A:Cl}{H H':Hp}(e:aT H H'){a:af}{c:bA}(h:i7 A H a c):i7 A H' a c:=by
 unfold i7 at h⊢
 cases q:c.kind with
 |numbers s=>rw[q] at h;exact yC.mono e h
 |words up=>rw[q] at h;exact qe.mono e h
theorem i7.num{A:Cl}{H:Hp}{a:af}{c:bA}{s:List Nat}(h:i7 A H a c)(k:c.kind=.numbers s):yC A H a c.name s c.costs:=by unfold i7 at h;rw[k] at h;exact h
theorem i7.fL{A:Cl}{H:Hp}{a:af}{c:bA}{up:Up}(h:i7 A H a c)(k:c.kind=.words up):qe A H a c.name up c.costs:=by unfold i7 at h;rw[k] at h;exact h
def gW(A:Cl)(H:Hp)(a:af)(f:d8):Prop:=∃dx lc lv as,H a=some (.ins A.iw dx (sx (.ref lc) (.str (sN f.secret)) (.ref lv)))/\H lc=some (.lst (iZ as))/\dn (i7 A H) as f.columns/\H lv=some (.lst (eU f.values))
theorem gW.mono{A:Cl}{H H':Hp}(e:aT H H'){a:af}{f:d8}(h:gW A H a f):gW A H' a f:=by refine ip ?_ h;rintro dx lc lv as h1 h2 h3 h4;exact oJ dx lc lv as (e _ _ h1) (e _ _ h2) (Paired.mono (λ_ _ q=>q.mono e) h3) (e _ _ h4)
def sG(A:Cl)(H:Hp)(a:af)(r:gi):Prop:=∃dx l,H a=some (.ins A.row dx (yA (.int (r.who:Nat)) (.int (r.secret:Nat)) (.ref l)))/\H l=some (.lst (gZ r.cells))
theorem sG.mono{A:Cl}{H H':Hp}(e:aT H H'){a:af}{r:gi}(h:sG A H a r):sG A H' a r:=by refine jk ?_ h;rintro dx l h1 h2;exact fu dx l (e _ _ h1) (e _ _ h2)
abbrev wJ(A:Cl)(H:Hp)(as:List af)(rows:List gi):Prop:=dn (sG A H) as rows
theorem wJ.mono{A:Cl}{H H':Hp}(e:aT H H'){as:List af}{rows:List gi}(h:wJ A H as rows):wJ A H' as rows:=Paired.mono (λ_ _ q=>q.mono e) h
def C6(H:Hp)(d:af)(lk:List (Nat×List aH)):Prop:=∃kvs:List (Key×V),H d=some (.dK kvs)/\dn (λ(kv:Key×V)(p:Nat×List aH)=>kv.1=cG (p.1:Int)/\∃t,kv.2=.ref t/\H t=some (.tup (eU p.2))) kvs lk
theorem C6.mono{H H':Hp}(e:aT H H'){d:af}{lk:List (Nat×List aH)}(h:C6 H d lk):C6 H' d lk:=by obtain⟨kvs,h1,h2⟩:=h;exact bq kvs (e _ _ h1) (Paired.mono (λ_ _ ⟨q1,t,q2,q3⟩=>⟨q1,bq t q2 (e _ _ q3)⟩) h2)
def nB(A:Cl)(H:Hp)(a:af)(z:Rl):Prop:=∃dx ll ld,H a=some (.ins A.rel dx (wo (.ref ll) (.int (z.k:Nat)) (.int (z.u:Nat)) (.ref ld) (.int (z.left:Nat))))/\H ll=some (.lst (gZ z.levels))/\C6 H ld z.lk
theorem nB.mono{A:Cl}{H H':Hp}(e:aT H H'){a:af}{z:Rl}(h:nB A H a z):nB A H' a z:=by refine jT ?_ h;rintro dx ll ld h1 h2 h3;exact jK dx ll ld (e _ _ h1) (e _ _ h2) (h3.mono e)
abbrev gX(A:Cl)(H:Hp)(as:List af)(zs:List Rl):Prop:=dn (nB A H) as zs
theorem gX.mono{A:Cl}{H H':Hp}(e:aT H H'){as:List af}{zs:List Rl}(h:gX A H as zs):gX A H' as zs:=Paired.mono (λ_ _ q=>q.mono e) h
theorem C6.val{H:Hp}{kvs:List (Key×V)}{lk:List (Nat×List aH)}(w:Nat):dn (λ(kv:Key×V)(p:Nat×List aH)=>kv.1=cG (p.1:Int)/\∃t,kv.2=.ref t/\H t=some (.tup (eU p.2))) kvs lk->
  match lk.lookup w with
  |none=>jc kvs (cG (w:Int):Key)=none
  |some y=>∃t,jc kvs (cG (w:Int):Key)=some (.ref t)/\H t=some (.tup (eU y)):=by
 intro h
 induction h with
 |nil=>rfl
 |cons r t ih=>
  rename_i kv p kvs lk;obtain⟨e1,t',e2,e3⟩:=r;obtain⟨a,b⟩:=p;rw[dq];by_cases q:w=a
  ·subst q;simp only[beq_self_eq_true];refine bq t' ?_ e3;unfold jc;rw[il];have:decide (kv.1=(cG ((w:Nat):Int):Key))=true:=decide_eq_true e1;rw[this];show some kv.2=_;rw[e2]
  ·have q':(w==a)=false:=by simpa using q
   rw[q'];dsimp only;have n:decide (kv.1=(cG ((w:Nat):Int):Key))=false:=by rw[e1];refine decide_eq_false λz=>q ?_;have:=Be z;exact(afp this).symm
   have ev:jc (kv::kvs) (cG (w:Int):Key)=jc kvs (cG (w:Int):Key):=by unfold jc;rw[il,n]
   rw[ev];exact ih
def Tr(M:List af)(H:Hp):Prop:=∀m∈M,∃o,H m=some o
theorem Tr.mono{M:List af}{H H':Hp}(e:aT H H')(h:Tr M H):Tr M H':=λm hm=>let⟨o,q⟩:=h m hm;⟨o,e _ _ q⟩
theorem Tr.not{M:List af}{H:Hp}(h:Tr M H){p:af}(e:H p=none):¬p∈M:=λq=>by
 obtain⟨o,z⟩:=h p q;rw[z] at e;cases e
theorem Tr.cons{M:List af}{H:Hp}{p:af}{o:HO}(h:Tr M H)(e:H p=some o):Tr (p::M) H:=λm hm=>by
 rcases aB.mp hm with q|q
 ·rw[q];exact⟨o,e⟩
 ·exact h m q
theorem Tr.nil{H:Hp}:Tr [] H:=λ_ h=>nomatch h
theorem UJ{H:Hp}{M:List af}{p:af}:aT (cut H (p::M)) (cut H M):=λb o e=>by obtain⟨n,e⟩:=c8 e;rw[c7 (λq=>n (.tail _ q))];exact e
theorem rg{H H':Hp}{M:List af}(t:Tr M H){p:af}{o:HO}(n:H p=none)(e:H' p=some o):cut H' M p=some o:=by rw[c7 (t.not n)];exact e
theorem ub(H:Hp):cut H []=H:=by funext b;rw[c7 (by simp)]
section
variable{J:It}{n:Nat}{g:TG}{tt:TT}{te:TE}{vs:List Nat}{σ:L2.St}{H:Hp}{Q:VK}
theorem UK{H1:Hp}{D:af}{Qd:Hp->Prop}(Pv:Nat->Hp->Prop)(h0:Pv 0 (upd H1 D (.lst [])))(Fb:∀i H,i<n->Pv i H->J.go i H)(gC:∀H,Pv n H->J.stop n H)(hs:∀i x H H',i<n->Pv i H->J.GC i H x H'->g x (wipe σ vs) H' λσ2 H2=>wipe σ2 vs=wipe σ vs/\tt σ2 H2 λb H3=>if b=true then te σ2 H3 λy H4=>∃acc,H4 D=some (.lst acc)/\acc.length<aA/\Pv (i+1) (upd H4 D (.lst (acc++[y]))) else Pv (i+1) H3)(hd:∀H,Pv n H->Qd H):
  ∃W:Nat->Nat->Hp->Prop,(∃m,W 0 m (upd H1 D (.lst [])))/\∀i m H,W i m H->
   (J.stop i H/\Qd H)∨(J.go i H/\∃Nx:Hp->Prop,(∀H',Nx H'->∃m',m'<m/\W (i+1) m' H')/\∀x H',J.GC i H x H'->g x (wipe σ vs) H' λσ2 H2=>wipe σ2 vs=wipe σ vs/\tt σ2 H2 λb H3=>if b=true then te σ2 H3 λy H4=>∃acc,H4 D=some (.lst acc)/\acc.length<aA/\Nx (upd H4 D (.lst (acc++[y]))) else Nx H3):=by
 refine bq (λi m H=>m=n-i/\i<=n/\Pv i H) (bP n (by simp) (bE _) h0) ?_;rintro i m H ⟨rfl,hi,p⟩;by_cases oR:i<n
 ·exact .inr ⟨Fb i H oR p,bq (Pv (i+1)) (λH' p'=>iL (n-(i+1)) (by omega) rfl oR p') (λx H' y=>hs i x H H' oR p y)⟩
 ·have e:i=n:=by omega
  subst e;exact .inl ⟨gC H p,hd H p⟩
theorem lcv{f:Nat->V}(hn:n<=aA)(Fb:∀i H',i<n->aT H H'->J.go i H')(gC:∀H',aT H H'->J.stop n H')(hs:∀(i:Nat)(x:V)(H' ou:Hp)(R:VK),i<n->aT H H'->J.GC i H' x ou->(∀H4,aT H' H4->R (f i) H4)->g x (wipe σ vs) ou λσ2 H2=>wipe σ2 vs=wipe σ vs/\te σ2 H2 R)(hd:∀D H',H D=none->aT H H'->H' D=some (.lst ((b9 n).map f))->Q (.ref D) H'):
  ∀D,H D=none->∃W:Nat->Nat->Hp->Prop,(∃m,W 0 m (upd H D (.lst [])))/\∀i m H,W i m H->
   (J.stop i H/\Q (.ref D) H)∨(J.go i H/\∃Nx:Hp->Prop,(∀H',Nx H'->∃m',m'<m/\W (i+1) m' H')/\∀x H',J.GC i H x H'->g x (wipe σ vs) H' λσ2 H2=>wipe σ2 vs=wipe σ vs/\IS σ2 H2 λb H3=>if b=true then te σ2 H3 λy H4=>∃acc,H4 D=some (.lst acc)/\acc.length<aA/\Nx (upd H4 D (.lst (acc++[y]))) else Nx H3):=λD hD=>by
 refine UK (Qd:=λH'=>Q (.ref D) H') (λi H'=>aT H H'/\H' D=some (.lst ((b9 i).map f))) ⟨aD hD,ai⟩ (λi H' hi p=>Fb i H' hi p.1) (λH' p=>gC H' p.1) (λi x H' ou hi p y=>?_) (λH' p=>hd D H' hD p.1 p.2);refine hs i x H' ou (λy H4=>∃acc,H4 D=some (.lst acc)/\acc.length<aA/\aT H (upd H4 D (.lst (acc++[y])))/\(upd H4 D (.lst (acc++[y]))) D=some (.lst ((b9 (i+1)).map f))) hi p.1 y (λH4 k=>?_);refine iL _ (k _ _ p.2) (by rw[aa,d4];omega) (λb o e=>?_) ?_
 ·rw[ay (aR e hD)];exact k _ _ (p.1 _ _ e)
 ·rw[ai,qx,bw];rfl
theorem lcf{f:Nat->V}{p:Nat->Bool}(hn:n<=aA)(Fb:∀i H',i<n->aT H H'->J.go i H')(gC:∀H',aT H H'->J.stop n H')(hs:∀(i:Nat)(x:V)(H' ou:Hp)(R:VK)(S:Hp->Prop),i<n->aT H H'->J.GC i H' x ou->(p i=true->∀H4,aT H' H4->R (f i) H4)->(p i=false->∀H4,aT H' H4->S H4)->g x (wipe σ vs) ou λσ2 H2=>wipe σ2 vs=wipe σ vs/\tt σ2 H2 λb H3=>if b=true then te σ2 H3 R else S H3)
  (hd:∀D H',H D=none->aT H H'->H' D=some (.lst (((b9 n).filter p).map f))->Q (.ref D) H'):
  ∀D,H D=none->∃W:Nat->Nat->Hp->Prop,(∃m,W 0 m (upd H D (.lst [])))/\∀i m H,W i m H->
   (J.stop i H/\Q (.ref D) H)∨(J.go i H/\∃Nx:Hp->Prop,(∀H',Nx H'->∃m',m'<m/\W (i+1) m' H')/\∀x H',J.GC i H x H'->g x (wipe σ vs) H' λσ2 H2=>wipe σ2 vs=wipe σ vs/\tt σ2 H2 λb H3=>if b=true then te σ2 H3 λy H4=>∃acc,H4 D=some (.lst acc)/\acc.length<aA/\Nx (upd H4 D (.lst (acc++[y]))) else Nx H3):=λD hD=>by
 refine UK (Qd:=λH'=>Q (.ref D) H') (λi H'=>aT H H'/\H' D=some (.lst (((b9 i).filter p).map f))) ⟨aD hD,ai⟩ (λi H' hi p=>Fb i H' hi p.1) (λH' p=>gC H' p.1) (λi x H' ou hi q y=>?_) (λH' p=>hd D H' hD p.1 p.2);refine hs i x H' ou _ _ hi q.1 y (λpi H4 k=>?_) (λpi H4 k=>?_)
 ·refine iL _ (k _ _ q.2) ?_ (λb o e=>?_) ?_
  ·rw[aa];refine b0 (dW _ _) ?_;rw[d4];omega
  ·rw[ay (aR e hD)];exact k _ _ (q.1 _ _ e)
  ·rw[ai,qx,j9,bw];have:[i].filter p=[i]:=by simp[pi]
   rw[this];rfl
 ·refine⟨q.1.trans k,?_⟩;rw[k _ _ q.2,qx,j9];have:[i].filter p=[]:=by simp[pi]
  rw[this,dM]
theorem lcr{Rel:Nat->V->Hp->Prop}(mono:∀i y H1 H2,aT H1 H2->Rel i y H1->Rel i y H2)(hn:n<=aA)(Fb:∀i H',i<n->aT H H'->J.go i H')(gC:∀H',aT H H'->J.stop n H')(hs:∀(D:af)(i:Nat)(x:V)(H' ou:Hp)(R:VK),H D=none->i<n->aT H H'->(∃acc,H' D=some (.lst acc))->J.GC i H' x ou->(∀y H4,aT H' H4->Rel i y (cut H4 [D])->R y H4)->g x (wipe σ vs) ou λσ2 H2=>wipe σ2 vs=wipe σ vs/\te σ2 H2 R)(hd:∀D H' ys,H D=none->aT H H'->H' D=some (.lst ys)->ys.length=n->(∀i y,ys[i]? =some y->Rel i y (cut H' [D]))->Q (.ref D) H'):
  ∀D,H D=none->∃W:Nat->Nat->Hp->Prop,(∃m,W 0 m (upd H D (.lst [])))/\∀i m H,W i m H->
   (J.stop i H/\Q (.ref D) H)∨(J.go i H/\∃Nx:Hp->Prop,(∀H',Nx H'->∃m',m'<m/\W (i+1) m' H')/\∀x H',J.GC i H x H'->g x (wipe σ vs) H' λσ2 H2=>wipe σ2 vs=wipe σ vs/\IS σ2 H2 λb H3=>if b=true then te σ2 H3 λy H4=>∃acc,H4 D=some (.lst acc)/\acc.length<aA/\Nx (upd H4 D (.lst (acc++[y]))) else Nx H3):=λD hD=>by
 refine UK (Qd:=λH'=>Q (.ref D) H') (λi H'=>aT H H'/\∃ys,H' D=some (.lst ys)/\ys.length=i/\∀j y,ys[j]? =some y->Rel j y (cut H' [D])) ⟨aD hD,bP ([]) ai rfl (λj y e=>by simp at e)⟩
  (λi H' hi p=>Fb i H' hi p.1) (λH' p=>gC H' p.1) (λi x H' ou hi p y=>?_) (λH' ⟨p,ys,a,b,c⟩=>hd D H' ys hD p a b c)
 obtain⟨p1,ys,a,b,c⟩:=p;refine hs D i x H' ou _ hD hi p1 ⟨ys,a⟩ y (λv H4 k r=>?_);refine iL ys (k _ _ a) (by rw[b];omega) (λb' o e=>?_) (bP (ys++[v]) ai (by rw[aP,b];rfl) (λj z e=>?_))
 ·rw[ay (aR e hD)];exact k _ _ (p1 _ _ e)
 ·rw[tQ (by simp)];by_cases hj:j<ys.length
  ·rw[Ni hj] at e;exact mono _ _ _ _ (dR k) (c j z e)
  ·have hj2:j=ys.length:=by have:=(cn.mp e).1;rw[aP] at this;simp at this;omega
   subst hj2;have:z=v:=by simpa using e.symm
   subst this;rw[b];exact r
end
theorem uc{K:ah}{H:Hp}{a:af}{xs:List V}(h:bG K H a xs):∀i H',i<xs.length->aT H H'->(V0 K a).go i H':=λi H' hi k=>fu xs (xs[i]) (k.seq h) (aw hi)
theorem nQ{K:ah}{H:Hp}{a:af}{xs:List V}(h:bG K H a xs):∀H',aT H H'->(V0 K a).stop xs.length H':=λH' k=>bq xs (k.seq h) (aK _)
theorem Ow{K:ah}{H:Hp}{a b:af}{xs ys:List V}{n:Nat}(h:bG K H a xs)(h':bG K H b ys)(hx:n<=xs.length)(hy:n<=ys.length):∀i H',i<n->aT H H'->(Itz K a b).go i H':=λi H' hi k=>oJ xs ys (xs[i]) (ys[i]) (k.seq h) (k.seq h') (aw (by omega)) (aw (by omega))
theorem Fc{K:ah}{H:Hp}{a b:af}{xs ys:List V}{n:Nat}(h:bG K H a xs)(h':bG K H b ys)(hn:xs.length<=n∨ys.length<=n):∀H',aT H H'->(Itz K a b).stop n H':=λH' k=>bt xs ys (k.seq h) (k.seq h') hn
theorem JA{J:It}{n:Nat}{g:TG}{tb:TS}{D:Ends}{σ:L2.St}{H:Hp}(Pv:Nat->L2.St->Hp->Prop)(h0:Pv 0 σ H)(Fb:∀i σ H,i<n->Pv i σ H->J.go i H)(gC:∀σ H,Pv n σ H->J.stop n H)(hs:∀i x σ H H',i<n->Pv i σ H->J.GC i H x H'->g x σ H' λσ2 H2=>tb {D with nx:=Pv (i+1),ct:=Pv (i+1),bk:=D.nx} σ2 H2)(hd:∀σ H,Pv n σ H->D.nx σ H):
  ∃W:Nat->Nat->L2.St->Hp->Prop,(∃m,W 0 m σ H)/\∀i m σ H,W i m σ H->
   (J.stop i H/\D.nx σ H)∨(J.go i H/\∃N:L2.St->Hp->Prop,(∀σ' H',N σ' H'->∃m',m'<m/\W (i+1) m' σ' H')/\∀x H',J.GC i H x H'->g x σ H' λσ2 H2=>tb {D with nx:=N,ct:=N,bk:=D.nx} σ2 H2):=by
 refine bq (λi m σ H=>m=n-i/\i<=n/\Pv i σ H) (bP n (by simp) (bE _) h0) ?_;rintro i m σ H ⟨rfl,hi,p⟩;by_cases oR:i<n
 ·exact .inr ⟨Fb i σ H oR p,bq (Pv (i+1)) (λσ' H' p'=>iL (n-(i+1)) (by omega) rfl oR p') (λx H' y=>hs i x σ H H' oR p y)⟩
 ·have e:i=n:=by omega
  subst e;exact .inl ⟨gC σ H p,hd σ H p⟩
theorem jS{α:Type}(l:List α)(f:Nat->V)(g:α->V)(h:∀i x,l[i]? =some x->f i=g x):(b9 l.length).map f=l.map g:=by
 apply oC;intro i;rw[aV,aV];by_cases hi:i<l.length
 ·rw[Cb hi,aw hi];show some (f i)=some (g l[i]);rw[h i _ (aw hi)]
 ·rw[da (by rw[d4];omega),da (by omega)];rfl
section
variable{J:It}{n:Nat}{wi:TI}{g:TG}{tt:TT}{te:TE}{vs:List Nat}{σ:L2.St}{H0 H:Hp}{Q:VK}
theorem Ql(hw:∀R:It->Hp->Prop,R J H->wi σ H0 R){f:Nat->V}(hn:n<=aA)(Fb:∀i H',i<n->aT H H'->J.go i H')(gC:∀H',aT H H'->J.stop n H')(hs:∀(i:Nat)(x:V)(H' ou:Hp)(R:VK),i<n->aT H H'->J.GC i H' x ou->(∀H4,aT H' H4->R (f i) H4)->g x (wipe σ vs) ou λσ2 H2=>wipe σ2 vs=wipe σ vs/\te σ2 H2 R)(hd:∀D H',H D=none->aT H H'->H' D=some (.lst ((b9 n).map f))->Q (.ref D) H'):tLc wi g IS te vs σ H0 Q:=hw _ (lcv hn Fb gC hs hd)
end
theorem kK{r:List V->Hp->VK->Prop}{te:TE}{σ:L2.St}{H:Hp}{Q:VK}(h:te σ H λx H1=>r [x] H1 Q):tCB r (rV te vx) σ H Q:=h
theorem jh{te:TE}{D:Ends}{σ:L2.St}{H:Hp}(h:te σ H D.rt):YV te D σ H:=h
theorem JB{te:TE}{g:TG}{D:Ends}{σ:L2.St}{H:Hp}(h:te σ H λx H1=>g x σ H1 D.nx):YW te g D σ H:=h
theorem ck{t:L2.St->Hp->Prop}{rt:VK}{bk ct:L2.St->Hp->Prop}{σ:L2.St}{H:Hp}{i:Nat}{v:V}(h:t (σ.set i (some v)) H):Kz i v σ H (Ends.nx ⟨t,rt,bk,ct⟩):=h
theorem ba{t u:TS}{D:Ends}{σ:L2.St}{H:Hp}(h:t {D with nx:=u D} σ H):Tc t u D σ H:=h
def Ye(g:TG)(tt:TT)(te:TE)(vs:List Nat)(σ:L2.St)(Q:VK)(J:It)(H1:Hp):Prop:=∀D,H1 D=none->∃W:Nat->Nat->Hp->Prop,(∃m,W 0 m (upd H1 D (.lst [])))/\∀i m H,W i m H->
 (J.stop i H/\Q (.ref D) H)∨(J.go i H/\∃Nx:Hp->Prop,(∀H',Nx H'->∃m',m'<m/\W (i+1) m' H')/\∀x H',J.GC i H x H'->g x (wipe σ vs) H' λσ2 H2=>wipe σ2 vs=wipe σ vs/\tt σ2 H2 λb H3=>if b=true then te σ2 H3 λy H4=>∃acc,H4 D=some (.lst acc)/\acc.length<aA/\Nx (upd H4 D (.lst (acc++[y]))) else Nx H3)
theorem fC{wi:TI}{g:TG}{tt:TT}{te:TE}{vs:List Nat}{σ:L2.St}{H:Hp}{Q:VK}(h:wi σ H (Ye g tt te vs σ Q)):tLc wi g tt te vs σ H Q:=h
section
variable{J:It}{n:Nat}{g:TG}{tt:TT}{te:TE}{vs:List Nat}{σ:L2.St}{H:Hp}{Q:VK}
theorem Fd{f:Nat->V}(hn:n<=aA)(Fb:∀i H',i<n->aT H H'->J.go i H')(gC:∀H',aT H H'->J.stop n H')(hs:∀(i:Nat)(x:V)(H' ou:Hp)(R:VK),i<n->aT H H'->J.GC i H' x ou->(∀H4,aT H' H4->R (f i) H4)->g x (wipe σ vs) ou λσ2 H2=>wipe σ2 vs=wipe σ vs/\te σ2 H2 R)(hd:∀D H',H D=none->aT H H'->H' D=some (.lst ((b9 n).map f))->Q (.ref D) H'):Ye g IS te vs σ Q J H:=lcv hn Fb gC hs hd
theorem ac1{f:Nat->V}{p:Nat->Bool}(hn:n<=aA)(Fb:∀i H',i<n->aT H H'->J.go i H')(gC:∀H',aT H H'->J.stop n H')(hs:∀(i:Nat)(x:V)(H' ou:Hp)(R:VK)(S:Hp->Prop),i<n->aT H H'->J.GC i H' x ou->(p i=true->∀H4,aT H' H4->R (f i) H4)->(p i=false->∀H4,aT H' H4->S H4)->g x (wipe σ vs) ou λσ2 H2=>wipe σ2 vs=wipe σ vs/\tt σ2 H2 λb H3=>if b=true then te σ2 H3 R else S H3)
  (hd:∀D H',H D=none->aT H H'->H' D=some (.lst (((b9 n).filter p).map f))->Q (.ref D) H'):Ye g tt te vs σ Q J H:=lcf hn Fb gC hs hd
theorem Yf{Rel:Nat->V->Hp->Prop}(mono:∀i y H1 H2,aT H1 H2->Rel i y H1->Rel i y H2)(hn:n<=aA)(Fb:∀i H',i<n->aT H H'->J.go i H')(gC:∀H',aT H H'->J.stop n H')(hs:∀(D:af)(i:Nat)(x:V)(H' ou:Hp)(R:VK),H D=none->i<n->aT H H'->(∃acc,H' D=some (.lst acc))->J.GC i H' x ou->(∀y H4,aT H' H4->Rel i y (cut H4 [D])->R y H4)->g x (wipe σ vs) ou λσ2 H2=>wipe σ2 vs=wipe σ vs/\te σ2 H2 R)(hd:∀D H' ys,H D=none->aT H H'->H' D=some (.lst ys)->ys.length=n->(∀i y,ys[i]? =some y->Rel i y (cut H' [D]))->Q (.ref D) H'):Ye g IS te vs σ Q J H:=lcr mono hn Fb gC hs hd
theorem j5{α:Type}{K:ah}{a:af}{l:List α}{enc f:α->V}(hl:bG K H a (l.map enc))(hn:l.length<=aA)(hs:∀(i:Nat)(x:α)(H':Hp)(R:VK),l[i]? =some x->aT H H'->(∀H4,aT H' H4->R (f x) H4)->g (enc x) (wipe σ vs) H' λσ2 H2=>wipe σ2 vs=wipe σ vs/\te σ2 H2 R)(hd:∀D H',H D=none->aT H H'->H' D=some (.lst (l.map f))->Q (.ref D) H'):Ye g IS te vs σ Q (V0 K a) H:=by
 have hlen:(l.map enc).length=l.length:=aa ..;refine Fd (n:=l.length) (f:=λi=>((l[i]?).map f).getD .h9) hn (by rw[<-hlen];exact uc hl) (by rw[<-hlen];exact nQ hl) (λi x H' ou R hi k y hR=>?_) (λD H' h1 h2 h3=>hd D H' h1 h2 ?_)
 ·obtain⟨rfl,y⟩:=y;have e:=y _ (k.seq hl);rw[aV] at e
  cases q:l[i]? with
  |none=>rw[q] at e;cases e
  |some z=>
   rw[q] at e;cases e;refine hs i z ou R q k λH4 k4=>?_;have:=hR H4 k4;rw[q] at this;exact this
 ·rw[h3];refine congrArg (λz=>some (HO.lst z)) (jS l _ _ λi x hx=>?_);rw[hx];rfl
theorem l4{α:Type}{K:ah}{a:af}{l:List α}{enc f:α->V}{p:α->Bool}(hl:bG K H a (l.map enc))(hn:l.length<=aA)(hs:∀(i:Nat)(x:α)(H':Hp)(R:VK)(S:Hp->Prop),l[i]? =some x->aT H H'->(p x=true->∀H4,aT H' H4->R (f x) H4)->(p x=false->∀H4,aT H' H4->S H4)->g (enc x) (wipe σ vs) H' λσ2 H2=>wipe σ2 vs=wipe σ vs/\tt σ2 H2 λb H3=>if b=true then te σ2 H3 R else S H3)
  (hd:∀D H',H D=none->aT H H'->H' D=some (.lst ((l.filter p).map f))->Q (.ref D) H'):Ye g tt te vs σ Q (V0 K a) H:=by
 have hlen:(l.map enc).length=l.length:=aa ..;refine ac1 (n:=l.length) (f:=λi=>((l[i]?).map f).getD .h9) (p:=λi=>((l[i]?).map p).getD false) hn (by rw[<-hlen];exact uc hl) (by rw[<-hlen];exact nQ hl) (λi x H' ou R S hi k y hR hS=>?_) (λD H' h1 h2 h3=>hd D H' h1 h2 ?_)
 ·obtain⟨rfl,y⟩:=y;have e:=y _ (k.seq hl);rw[aV] at e
  cases q:l[i]? with
  |none=>rw[q] at e;cases e
  |some z=>
   rw[q] at e;cases e;refine hs i z ou R S q k (λhp H4 k4=>?_) (λhp H4 k4=>?_)
   ·have:=hR (by rw[q];exact hp) H4 k4;rw[q] at this;exact this
   ·exact hS (by rw[q];exact hp) H4 k4
 ·rw[h3];refine congrArg (λz=>some (HO.lst z)) ?_;clear h3 hd hs hn hlen hl;have key:∀k,k<=l.length->((b9 k).filter λi=>((l[i]?).map p).getD false).map (λi=>((l[i]?).map f).getD .h9)=((l.take k).filter p).map f:=by
   intro k
   induction k with
   |zero=>intro _;rfl
   |succ k ih=>
    intro hk;have e1:l[k]? =some l[k]:=aw (by omega);rw[qx,j9,bw,ih (by omega),dz,e1,j9,bw];congr 1
    cases hp:p l[k] with
    |true=>rw[QM (by rw[e1];exact hp)];show _=xg f (ajY p [l[k]]);rw[QM (by exact hp)];simp[e1]
    |false=>rw[QN (by rw[e1];simp[hp])];show _=xg f (ajY p [l[k]]);rw[QN (by simp[hp])];rfl
  have:=key l.length (aK _);rw[Hs] at this;exact this
end
section
variable{X:Cx}
theorem AB(hu:X.A.units<mv):yg X (eE .NotEq) (λx y H Q=>∃a b xs,x=.ref a/\y=.ref b/\bG X.K H a xs/\bG X.K H b []/\Q (.bl (!decide (xs=[]))) H):=by
 intro pins s σ H x y v u Q I rx ry h;refine rq ?_ h;clear h;rintro a b xs rfl rfl ha ⟨hb,q⟩;cases rx;cases ry;refine cH ?_ (I.list ha);rintro its rv p _;refine cH ?_ (I.list hb);rintro qu NP p2 _;have l1:=rv.length;have l2:=NP.length;have fin:∀bb:Bool,bb=(!decide (xs=[]))->EP X pins σ Q (.bool bb) s:=λbb e=>bt (.bl bb) H I rfl (by rw[e];exact q);have e2:qu=[]:=gc.mp (by simpa using l2.symm);subst e2;by_cases hx:xs=[]
 ·subst hx;have e1:its=[]:=gc.mp (by simpa using l1.symm);subst e1;exact SeqAt.RcNeAt.lists (e:=λ_=>true) p.isList p2.isList rfl hu (λj h1=>absurd h1 (by simp)) X.prog X.w X.xe _ (fin _ (by simp))
 ·refine SeqAt.RcNeAt.lists_lengths p.isList p2.isList ?_ hu X.prog X.w X.xe _ (fin _ (by simp[hx]));have:its.length≠0:=λe=>hx (gc.mp (by omega));simpa using this
theorem Qm{ls:List aH}{its:List ak}(rv:Vals (eU ls) its){j:Nat}(hj:j<its.length):∃l t,ls[j]? =some l/\its[j]? =some (.str (sN l) t):=by
 have hl:=rv.length;rw[eG] at hl;have e:(eU ls)[j]? =some (V.str (sN ls[j])):=by unfold eU;rw[aV,aw (by omega)];rfl
 obtain⟨u,hu,t,rfl⟩:=rv.get e;exact fu (ls[j]) t (aw (by omega)) hu
theorem JC{ls ms:List aH}:((b9 (min ls.length ms.length)).all (λj=>decide (ls[j]? =ms[j]?))&&ls.length==ms.length)=decide (ls=ms):=by
 by_cases h:ls=ms
 ·subst h;simp
 ·rw[decide_eq_false h];rw[gM];by_cases hl:ls.length=ms.length
  ·left;rw[<-Ht,cj];intro q;refine h (oC λi=>?_);by_cases hi:i<ls.length
   ·have:=q i (lH.mpr (by rw[ajZ];split<;>omega));exact of_decide_eq_true this
   ·rw[da (by omega),da (by omega)]
  ·right;simpa using hl
theorem Qn(hu:X.A.units<mv):yg X (eE .Eq) (λx y H Q=>∃a b ls ms,x=.ref a/\y=.ref b/\nY X.K H a (eU ls)/\nY X.K H b (eU ms)/\Q (.bl (decide (ls=ms))) H):=by
 intro pins s σ H x y v u Q I rx ry h;refine ip ?_ h;clear h;rintro a b ls ms rfl rfl ha ⟨hb,q⟩;cases rx;cases ry;refine cH ?_ (I.tuple ha);rintro its rv p _;refine cH ?_ (I.tuple hb);rintro qu NP p2 _;have l1:=rv.length;have l2:=NP.length;rw[eG] at l1 l2;have key:((b9 (min its.toArray.size qu.toArray.size)).all (λj=>decide (ls[j]? =ms[j]?))&&its.toArray.size==qu.toArray.size)=decide (ls=ms):=by rw[bD,bD,<-l1,<-l2];exact JC
 refine SeqAt.eq_tupleAt (e:=λj=>decide (ls[j]? =ms[j]?)) p p2 hu (λj h1 h2=>?_) ?_
 ·refine jk ?_ (Qm rv (j:=j) (by simpa using h1));rintro l t el ei;refine jk ?_ (Qm NP (j:=j) (by simpa using h2));rintro m t2 em ei2;have e1:its.toArray[j]=.str (sN l) t:=by
   have:its[j]? =some its.toArray[j]:=by rw[aw (by simpa using h1)];simp
   rw[ei] at this;exact(aX this).symm
  have e2:qu.toArray[j]=.str (sN m) t2:=by
   have:qu[j]? =some qu.toArray[j]:=by rw[aw (by simpa using h2)];simp
   rw[ei2] at this;exact(aX this).symm
  rw[e1,e2,el,em];have eb:decide (some l=some m)=(sN l==sN m):=by
   by_cases z:l=m
   ·subst z;simp
   ·have n1:¬some l=some m:=λq=>z (aX q);have n2:¬sN l=sN m:=λq=>z (wH q);rw[decide_eq_false n1];symm;simpa using n2
  rw[eb];exact aic _ _ _ _
 ·rw[key];exact bt (.bl (decide (ls=ms))) H I rfl q
theorem W3(hu:X.A.units<mv):yg X (eE .Eq) (λx y H Q=>∃b ms,y=.ref b/\nY X.K H b (eU ms)/\((x=.h9/\Q (.bl false) H)∨∃a ls,x=.ref a/\nY X.K H a (eU ls)/\Q (.bl (decide (ls=ms))) H)):=by
 intro pins s σ H x y v u Q I rx ry h;refine j7 ?_ h;clear h;rintro b ms rfl hb h;rcases h with⟨rfl,q⟩|⟨a,ls,rfl,ha,q⟩
 ·cases rx;cases ry;refine cH ?_ (I.tuple hb);rintro qu NP p2 _;exact SeqAt.RcAt.none_tuple p2 hu X.prog X.w X.xe _ (bt (.bl false) H I rfl q)
 ·exact Qn hu pins s σ H _ _ v u Q I rx ry (iE a b ls ms rfl rfl ha hb q)
end
section
variable{X:Cx}{K:ah}
theorem kL{e:Expr}{f:Str}{pos:Pos}{ta:TE}(hK:X.K=K)(he:PE X e ta)(hb:gf e f X.env (eval e X.env)=eval e X.env):PE X (.Attribute e f pos) (ack K ta f):=hK▸bo he hb
theorem UL(hK:X.K=K):IxR X (Y7 K):=hK▸cU
theorem UM(hK:X.K=K):SlR X (acu K):=hK▸qA
theorem ZN{o e:Expr}{to te:TE}{apos pos:Pos}(hK:X.K=K)(ho:PE X o to)(he:PE X e te)(hn:Qa e=true:=by rfl)(n4:gf o "join" X.env (eval o X.env)=eval o X.env:=by rfl)(gJ:(apos.endLine==pos.line)=true:=by rfl):
  PE X (.Call (.Attribute o "join" apos) [e] [] pos) (tM1 (λx xs H Q=>∃a p,∃ys:List Str,x=.str a/\xs=[.ref p]/\(bG K H p (ys.map V.str)∨nY K H p (ys.map V.str))/\(ys.map (·.length)).sum+ys.length*a.length<=16777216/\Q (.str (xf a ys)) H) to te):=hK▸Ep ho he hn n4 gJ
theorem UN(hK:X.K=K)(hu:X.A.units<mv):yg X (eE .Eq) (λx y H Q=>∃a b ls ms,x=.ref a/\y=.ref b/\nY K H a (eU ls)/\nY K H b (eU ms)/\Q (.bl (decide (ls=ms))) H):=hK▸Qn hu
theorem UO(hK:X.K=K)(hu:X.A.units<mv):yg X (eE .Eq) (λx y H Q=>∃b ms,y=.ref b/\nY K H b (eU ms)/\((x=.h9/\Q (.bl false) H)∨∃a ls,x=.ref a/\nY K H a (eU ls)/\Q (.bl (decide (ls=ms))) H)):=hK▸W3 hu
theorem AD{es:List Expr}{k:Nat}{pos:Pos}{t:XU}{n:Nat}(hK:X.K=K)(hc:X.calm=true)(h:PGs X es t)(hn:(xa es X.env).length=n:=by rfl)(gC:(xa es X.env).findIdx? (·.1)=none:=by rfl):PG X (.Tuple es k pos) (acb K n t):=hK▸DO hc h hn gC
end
end Bp
namespace Bp
open PySem PySem.Spec PyProof.Rows L2
theorem UP(a b c:ak):XF "zip" ⟨[a,b,c],[]⟩=pure ():=by kernel_rfl
theorem RK(a b c:ak):Pg "zip.__new__" ⟨[.type "zip",a,b,c],[]⟩=pure ():=by kernel_rfl
theorem oi4(a b c d:ak):VT "object.__init__" ⟨[a,b,c,d],[]⟩:=by unfold VT;rw[signature?_of (id:="object.__init__") (n:=['_','_','t','i','n','i','_','_']) (o:=['t','c','e','j','b','o']) (by kernel_rfl) F.owner_object];kernel_rfl
abbrev Gj(h:cB)(T:af)(a b c:ak):Prop:=h.get? T=some {cls:=.type "tuple",data:=.seq #[a,b,c]}
abbrev li0(l:af):Obj:={cls:=.type "list_iterator",data:=.fields #[.ref l,.int 0 0]}
abbrev z3a(h:cB)(l1:af):cB:=h.push (li0 l1)
abbrev z3b(h:cB)(l1 l2:af):cB:=(z3a h l1).push (li0 l2)
abbrev z3c(h:cB)(l1 l2 l3:af):cB:=(z3b h l1 l2).push (li0 l3)
abbrev z3d(h:cB)(l1 l2 l3:af):cB:=(z3c h l1 l2 l3).push {cls:=.type "tuple",data:=.seq #[.ref h.objs.size,.ref (z3a h l1).objs.size,.ref (z3b h l1 l2).objs.size]}
abbrev z3e(h:cB)(l1 l2 l3:af):cB:=(z3d h l1 l2 l3).push {cls:=.type "tuple",data:=.seq #[.none,.none,.none]}
abbrev ZO(h:cB)(l1 l2 l3:af):cB:=(z3e h l1 l2 l3).push {cls:=.type "zip",data:=.fields #[.none,.bool false,.bool false,.ref (z3c h l1 l2 l3).objs.size,.ref (z3d h l1 l2 l3).objs.size]}
theorem mz3(l1 l2 l3:af)(xs ys zs:Array ak):
  aez (Builtin.«zip.__new__» ⟨[.type "zip",.ref l1,.ref l2,.ref l3],[]⟩) (λ_ R s=>s.heap.IsList l1 xs/\s.heap.IsList l2 ys/\s.heap.IsList l3 zs/\R (.ok (.ret (.ref (z3e s.heap l1 l2 l3).objs.size))) {s with heap:=ZO s.heap l1 l2 l3}):=
 .of_wp λprog w A R s h=>by obtain⟨hp,g,d,tk,os⟩:=s;obtain⟨zY,NH,Yg,h⟩:=h;have ud:=sub_zip;have hL1:QS (QT ⟨hp,g,d,tk,os⟩) l1 xs:=zY;have hL2:QS (QT ⟨hp.push (li0 l1),g,d,tk,os⟩) l2 ys:=NH.push _;have hL3:QS (QT ⟨(hp.push (li0 l1)).push (li0 l2),g,d,tk,os⟩) l3 zs:=(Yg.push _).push _;wp_walk using fR hL1,fR hL2,fR hL3;exact ag rfl h
section
variable{prog:bp}{w:bQ}{A:cy}{E:ak->az->Prop}{s:az}
theorem RL{l1 l2 l3:af}{xs ys zs:Array ak}{Q:ak->az->Prop}(zY:s.heap.IsList l1 xs)(NH:s.heap.IsList l2 ys)(Yg:s.heap.IsList l3 zs)(h:∀h',yP h' (s.heap.objs.size+5) (s.heap.objs.size+3) (s.heap.objs.size+4) .none->Gj h' (s.heap.objs.size+3) (.ref s.heap.objs.size) (.ref (s.heap.objs.size+1)) (.ref (s.heap.objs.size+2))->Gj h' (s.heap.objs.size+4) .none .none .none->h'.IsListIter s.heap.objs.size l1 0->h'.IsListIter (s.heap.objs.size+1) l2 0->h'.IsListIter (s.heap.objs.size+2) l3 0->(∀c o,s.heap.get? c=some o->h'.get? c=some o)->Q (.ref (s.heap.objs.size+5)) {s with heap:=h'}):
  bj (model prog w) A (call (.type "zip") [.ref l1,.ref l2,.ref l3]) Q E s:=by
 refine callType_new F.called_zip (by decide) (UP _ _ _) (RK _ _ _) (λobj=>oi4 obj _ _ _) F.entry_zip_new (mz3 l1 l2 l3 xs ys zs) ⟨zY,NH,Yg,?_⟩;have z1:(z3a s.heap l1).objs.size=s.heap.objs.size+1:=cO ..;have z2:(z3b s.heap l1 l2).objs.size=s.heap.objs.size+2:=by rw[cO,z1]
 have z3:(z3c s.heap l1 l2 l3).objs.size=s.heap.objs.size+3:=by rw[cO,z2]
 have z4:(z3d s.heap l1 l2 l3).objs.size=s.heap.objs.size+4:=by rw[cO,z3]
 have z5:(z3e s.heap l1 l2 l3).objs.size=s.heap.objs.size+5:=by rw[cO,z4]
 have g6:(ZO s.heap l1 l2 l3).get? (z3e s.heap l1 l2 l3).objs.size=some _:=aU _ rfl;have g5:(ZO s.heap l1 l2 l3).get? (z3d s.heap l1 l2 l3).objs.size=some _:=aj _ (aU _ rfl);have g4:(ZO s.heap l1 l2 l3).get? (z3c s.heap l1 l2 l3).objs.size=some _:=aj _ (aj _ (aU _ rfl));have g3:(ZO s.heap l1 l2 l3).get? (z3b s.heap l1 l2).objs.size=some _:=aj _ (aj _ (aj _ (aU _ rfl)));have g2:(ZO s.heap l1 l2 l3).get? (z3a s.heap l1).objs.size=some _:=aj _ (aj _ (aj _ (aj _ (aU _ rfl))));have g1:(ZO s.heap l1 l2 l3).get? s.heap.objs.size=some _:=aj _ (aj _ (aj _ (aj _ (aj _ (aU _ rfl)))));show _/\_;rw[z3,z4,z5] at g6;rw[z1,z2,z3] at g4;rw[z4] at g5;rw[z2] at g3;rw[z1] at g2;rw[z5];exact⟨ag g6 rfl,h _ g6 g4 g5 (bP _ g1 rfl rfl) (bP _ g2 rfl rfl) (bP _ g3 rfl rfl) λc o x=>aj _ (aj _ (aj _ (aj _ (aj _ (aj _ x)))))⟩
theorem nA{a b:Nat}(h:a<b∨b<a):@Ne af a b:=λq=>by have q:(a:Nat)=b:=q;omega
structure Z3(n l1 l2 l3:Nat):Prop where
 a:l1<n
 b:l2<n
 c:l3<n
theorem ZP{T:af}{a b c x:ak}{k:Nat}{Q:Unit->az->Prop}(hT:Gj s.heap T a b c)(h:∀h',h'.get? T=some {cls:=.type "tuple",data:=.seq ((#[a,b,c]:Array ak).setIfInBounds k x)}->eM T s.heap h'->Q () {s with heap:=h'}):
  bj (model prog w) A (Gw T (·.setIfInBounds k x)) Q E s:=by
 refine CS hT rfl (h _ ?_ (uW ..));rw[abN _ hT rfl];simp[Kk]
theorem ac3{n l1 l2 l3:Nat}{k:Nat}{xs ys zs:Array ak}{x y z a b c:ak}{Q:ak->az->Prop}(D:Z3 n l1 l2 l3)(hz:yP s.heap (n+5) (n+3) (n+4) .none)(zX:Gj s.heap (n+3) (.ref n) (.ref (n+1)) (.ref (n+2)))(D5:Gj s.heap (n+4) a b c)(h1:s.heap.IsListIter n l1 k)(h2:s.heap.IsListIter (n+1) l2 k)(h3:s.heap.IsListIter (n+2) l3 k)(zY:s.heap.IsList l1 xs)(NH:s.heap.IsList l2 ys)(Yg:s.heap.IsList l3 zs)(hx:xs[k]? =some x)(hy:ys[k]? =some y)(Ox:zs[k]? =some z)(hQ:∀h',yP h' (n+5) (n+3) (n+4) (eW s.heap.objs.size)->Gj h' (n+4) x y z->h'.IsListIter n l1 (k+1)->h'.IsListIter (n+1) l2 (k+1)->h'.IsListIter (n+2) l3 (k+1)->Gj h' s.heap.objs.size x y z->(∀c o,c≠n+5->c≠n+4->c≠n->c≠n+1->c≠n+2->s.heap.get? c=some o->h'.get? c=some o)->Q (.ref s.heap.objs.size) {s with heap:=h'}):
  bj (model prog w) A (Builtin.«zip.__next__» ⟨[.ref (n+5)],[]⟩) (λfin s'=>∃v,fin=.done (.ret v)/\Q v s') E s:=by
 have D1:=D.a;have D2:=D.b;have D3:=D.c;show bj _ _ (field (.ref (n+5)) 2 >>= _) _ _ _;refine ae (eZ hz rfl (x:=.bool false) rfl ?_);show bj _ _ (field (.ref (n+5)) 3 >>= _) _ _ _;refine ae (eZ hz rfl (x:=.ref (n+3)) rfl ?_);refine ae (jt zX rfl ?_);show bj _ _ (eJ (.ref (n+5)) >>= _) _ _ _;refine ae ?_;unfold eJ;refine ae (eZ hz rfl (x:=.none) rfl (aJ ?_));simp only[if_true];refine ae (aik ?_);refine ae (eZ hz rfl (x:=.ref (n+4)) rfl ?_);refine ae (cZ hz (by simp) λg1 ZQ RM=>?_);replace ZQ:yP g1 (n+5) (n+3) (n+4) .ellipsis:=ZQ;refine ae ?_;simp only[aaY,abV,Kn,Bd];refine ae (ae (Iw ?_));show bj _ _ (nG (.ref n) >>= _) _ _ _;refine ae (qo (h1.extBut RM.extBut (nA (by omega))) (zY.extBut RM.extBut (nA (by omega))) hx λg2 i1 UQ=>aJ ?_);have t2:Gj g2 (n+4) a b c:=UQ.extBut _ _ (nA (by omega)) (RM.extBut _ _ (nA (by omega)) D5);refine ae (jt t2 rfl ?_);refine ae (ZP t2 λg3 t3 Rj=>?_);replace t3:Gj g3 (n+4) x b c:=t3;refine ae (m5 (aJ ?_));refine ae (ae (Iw ?_));show bj _ _ (nG (.ref (n+1)) >>= _) _ _ _;refine ae (qo (((h2.extBut RM.extBut (nA (by omega))).extBut UQ.extBut (nA (by omega))).extBut Rj.extBut (nA (by omega))) (((NH.extBut RM.extBut (nA (by omega))).extBut UQ.extBut (nA (by omega))).extBut Rj.extBut (nA (by omega))) hy λg4 i2 ZR=>aJ ?_);have t4:Gj g4 (n+4) x b c:=ZR.extBut _ _ (nA (by omega)) t3;refine ae (jt t4 rfl ?_);refine ae (ZP t4 λg5 t5 ZS=>?_);replace t5:Gj g5 (n+4) x y c:=t5;refine ae (m5 (aJ ?_));refine ae (ae (Iw ?_));show bj _ _ (nG (.ref (n+2)) >>= _) _ _ _;refine ae (qo (((((h3.extBut RM.extBut (nA (by omega))).extBut UQ.extBut (nA (by omega))).extBut Rj.extBut (nA (by omega))).extBut ZR.extBut (nA (by omega))).extBut ZS.extBut (nA (by omega))) (((((Yg.extBut RM.extBut (nA (by omega))).extBut UQ.extBut (nA (by omega))).extBut Rj.extBut (nA (by omega))).extBut ZR.extBut (nA (by omega))).extBut ZS.extBut (nA (by omega))) Ox λg6 i3 sb6=>aJ ?_);have t6:Gj g6 (n+4) x y c:=sb6.extBut _ _ (nA (by omega)) t5;refine ae (jt t6 rfl ?_);refine ae (ZP t6 λg7 t7 sb7=>?_);replace t7:Gj g7 (n+4) x y z:=t7;refine ae (m5 (aJ (aJ ?_)));refine ae (jt t7 rfl ?_);refine ae (VP ?_);have hsz:g7.objs.size=s.heap.objs.size:=by rw[sb7.1,sb6.1,ZS.1,ZR.1,Rj.1,UQ.1,RM.1]
 have zz7:yP g7 (n+5) (n+3) (n+4) .ellipsis:=sb7.extBut _ _ (nA (by omega)) (sb6.extBut _ _ (nA (by omega)) (ZS.extBut _ _ (nA (by omega)) (ZR.extBut _ _ (nA (by omega)) (Rj.extBut _ _ (nA (by omega)) (UQ.extBut _ _ (nA (by omega)) ZQ)))));have hk:∀c o,c≠n+5->c≠n+4->c≠n->c≠n+1->c≠n+2->s.heap.get? c=some o->g7.get? c=some o:=λc o c1 c2 c3 c4 c5 e=>sb7.extBut _ _ c2 (sb6.extBut _ _ c5 (ZS.extBut _ _ c2 (ZR.extBut _ _ c4 (Rj.extBut _ _ c2 (UQ.extBut _ _ c3 (RM.extBut _ _ c1 e))))));have j1:g7.IsListIter n l1 (k+1):=((((i1.extBut Rj.extBut (nA (by omega))).extBut ZR.extBut (nA (by omega))).extBut ZS.extBut (nA (by omega))).extBut sb6.extBut (nA (by omega))).extBut sb7.extBut (nA (by omega));have j2:g7.IsListIter (n+1) l2 (k+1):=((i2.extBut ZS.extBut (nA (by omega))).extBut sb6.extBut (nA (by omega))).extBut sb7.extBut (nA (by omega));have j3:g7.IsListIter (n+2) l3 (k+1):=i3.extBut sb7.extBut (nA (by omega));have zlt:n+5<g7.objs.size:=bg zz7;show bj _ _ (iV (.ref (n+5)) (.ref g7.objs.size) >>= _) _ _ _;refine ae ?_;unfold iV;have zz8:yP (g7.push {cls:=.type "tuple",data:=.seq #[x,y,z]}) (n+5) (n+3) (n+4) .ellipsis:=aj _ zz7;refine ae (cZ zz8 (by simp) λg9 zz9 sb9=>?_);replace zz9:yP g9 (n+5) (n+3) (n+4) (eW g7.objs.size):=zz9;refine cZ zz9 (by simp) λga zza sba=>?_;replace zza:yP ga (n+5) (n+3) (n+4) (eW g7.objs.size):=zza;have up:∀c o,c≠n+5->g7.get? c=some o->ga.get? c=some o:=λc o c1 e=>sba.extBut _ _ c1 (sb9.extBut _ _ c1 (aj _ e));have hT:Gj ga g7.objs.size x y z:=sba.extBut _ _ (dD zlt) (sb9.extBut _ _ (dD zlt) (aU _ rfl));rw[hsz] at zza hT;refine aJ (ag rfl ?_);show Q (.ref g7.objs.size) _;rw[hsz];exact hQ ga zza (up _ _ (nA (by omega)) t7) (j1.at λo e=>up _ o (nA (by omega)) e) (j2.at λo e=>up _ o (nA (by omega)) e) (j3.at λo e=>up _ o (nA (by omega)) e) hT λc o c1 c2 c3 c4 c5 e=>up c o c1 (hk c o c1 c2 c3 c4 c5 e)
theorem agm{n l1 l2 l3:Nat}{k:Nat}{xs:Array ak}{Q:Fin->az->Prop}(hh:A.handled=none)(D:Z3 n l1 l2 l3)(hz:yP s.heap (n+5) (n+3) (n+4) .none)(zX:Gj s.heap (n+3) (.ref n) (.ref (n+1)) (.ref (n+2)))(h1:s.heap.IsListIter n l1 k)(zY:s.heap.IsList l1 xs)(hx:xs[k]? =none)(hE:∀h' e,(∀c o,c≠n+5->c≠n->s.heap.get? c=some o->h'.get? c=some o)->(∃o,h'.get? e=some o/\o.cls=.type "StopIteration")->E (.ref e) {s with heap:=h'}):
  bj (model prog w) A (Builtin.«zip.__next__» ⟨[.ref (n+5)],[]⟩) Q E s:=by
 have D1:=D.a;show bj _ _ (field (.ref (n+5)) 2 >>= _) _ _ _;refine ae (eZ hz rfl (x:=.bool false) rfl ?_);show bj _ _ (field (.ref (n+5)) 3 >>= _) _ _ _;refine ae (eZ hz rfl (x:=.ref (n+3)) rfl ?_);refine ae (jt zX rfl ?_);show bj _ _ (eJ (.ref (n+5)) >>= _) _ _ _;refine ae ?_;unfold eJ;refine ae (eZ hz rfl (x:=.none) rfl (aJ ?_));simp only[if_true];refine ae (aik ?_);refine ae (eZ hz rfl (x:=.ref (n+4)) rfl ?_);refine ae (cZ hz (by simp) λg1 ZQ RM=>?_);replace ZQ:yP g1 (n+5) (n+3) (n+4) .ellipsis:=ZQ;refine ae ?_;simp only[aaY,abV,Kn,Bd];refine ae (ae (Iw ?_));show bj _ _ (nG (.ref n) >>= _) _ _ _;refine ae (abO hh (h1.extBut RM.extBut (nA (by omega))) (zY.extBut RM.extBut (nA (by omega))) hx λg2 e UQ he=>?_);obtain⟨oe,W4,hce⟩:=he;have zz2:yP g2 (n+5) (n+3) (n+4) .ellipsis:=UQ _ _ (nA (by omega)) ZQ;have hez:e≠n+5:=λx=>by subst x;rw[zz2] at W4;cases W4;simp at hce
 exact cZ zz2 (by simp) λg3 _ Rj=>hE g3 e (λc o c1 c3 x=>Rj.extBut _ _ c1 (UQ _ _ c3 (RM.extBut _ _ c1 x))) (bq oe (Rj.extBut _ _ hez W4) hce)
theorem JD{n l1 l2 l3:Nat}{k:Nat}{xs ys zs:Array ak}{x y z a b c:ak}{Q:Option ak->az->Prop}(D:Z3 n l1 l2 l3)(hz:yP s.heap (n+5) (n+3) (n+4) .none)(zX:Gj s.heap (n+3) (.ref n) (.ref (n+1)) (.ref (n+2)))(D5:Gj s.heap (n+4) a b c)(h1:s.heap.IsListIter n l1 k)(h2:s.heap.IsListIter (n+1) l2 k)(h3:s.heap.IsListIter (n+2) l3 k)(zY:s.heap.IsList l1 xs)(NH:s.heap.IsList l2 ys)(Yg:s.heap.IsList l3 zs)(hx:xs[k]? =some x)(hy:ys[k]? =some y)(Ox:zs[k]? =some z)(hQ:∀h',yP h' (n+5) (n+3) (n+4) (eW s.heap.objs.size)->Gj h' (n+4) x y z->h'.IsListIter n l1 (k+1)->h'.IsListIter (n+1) l2 (k+1)->h'.IsListIter (n+2) l3 (k+1)->Gj h' s.heap.objs.size x y z->(∀c o,c≠n+5->c≠n+4->c≠n->c≠n+1->c≠n+2->s.heap.get? c=some o->h'.get? c=some o)->Q (some (.ref s.heap.objs.size)) {s with heap:=h'}):
  bj (model prog w) A (jH (.ref (n+5))) Q E s:=by
 have hT:s.TypeIs (.ref (n+5)) "zip":=ag hz rfl;unfold jH;exact ae (lS (ff (name:=aS "__next__") hT CT (fD CT hT am3 (ac3 D hz zX D5 h1 h2 h3 zY NH Yg hx hy Ox λh' b1 b2 b3 b4 b5 b6 b7=>aJ (hQ h' b1 b2 b3 b4 b5 b6 b7)) (ajP _))))
theorem LH{n l1 l2 l3:Nat}{k:Nat}{xs:Array ak}{Q:Option ak->az->Prop}(hh:A.handled=none)(D:Z3 n l1 l2 l3)(hz:yP s.heap (n+5) (n+3) (n+4) .none)(zX:Gj s.heap (n+3) (.ref n) (.ref (n+1)) (.ref (n+2)))(h1:s.heap.IsListIter n l1 k)(zY:s.heap.IsList l1 xs)(hx:xs[k]? =none)(hQ:∀h',(∀c o,c≠n+5->c≠n->s.heap.get? c=some o->h'.get? c=some o)->Q none {s with heap:=h'}):bj (model prog w) A (jH (.ref (n+5))) Q E s:=by have hT:s.TypeIs (.ref (n+5)) "zip":=ag hz rfl;unfold jH;refine ae (lS (ff (name:=aS "__next__") hT CT (fD CT hT am3 (agm hh D hz zX h1 zY hx λh' e hk he=>?_) (ajP _))));obtain⟨o,ho,hc⟩:=he;exact ae (A3 (T:="StopIteration") (b:=true) (bq o ho hc) FX (aJ (hQ _ hk)))
end
def It3(K:ah)(a b c:af):It:=⟨λi H=>∃(xs ys zs:List V)(x y z:V),bG K H a xs/\bG K H b ys/\bG K H c zs/\xs[i]? =some x/\ys[i]? =some y/\zs[i]? =some z,λi H v H'=>∃T x y z,v=.ref T/\H T=none/\H'=upd H T (.tup [x,y,z])/\(∀xs,bG K H a xs->xs[i]? =some x)/\(∀ys,bG K H b ys->ys[i]? =some y)/\∀zs,bG K H c zs->zs[i]? =some z,λi H=>∃xs:List V,bG K H a xs/\xs.length<=i⟩
theorem ac4{n c:Nat}(h:c∈([n+5,n+3,n+4,n,n+1,n+2]:List af)):n<=c/\c<=n+5:=by
 have h':c=n+5∨c=n+3∨c=n+4∨c=n∨c=n+1∨c=n+2:=by simpa using h
 omega
theorem ac5{P:bp}{w:bQ}{K:ah}{elts:List Expr}{kk:Nat}{u6:Pos}{a b c n:Nat}(D:Z3 n a b c):
  Turn P w K (.Tuple elts kk u6) (It3 K a b c) [n+5,n+3,n+4,n,n+1,n+2] (n+5) (λi h=>yP h (n+5) (n+3) (n+4) .none/\Gj h (n+3) (.ref n) (.ref (n+1)) (.ref (n+2))/\(∃x y z,Gj h (n+4) x y z)/\h.IsListIter n a i/\h.IsListIter (n+1) b i/\h.IsListIter (n+2) c i) where
 mem:=by simp
 obj:=λi h st d hd=>by
  obtain⟨hz,zX,⟨x,y,z,D5⟩,⟨o1,e1,_,d1⟩,⟨o2,e2,_,d2⟩,⟨o3,e3,_,d3⟩⟩:=st;have e':d=n+5∨d=n+3∨d=n+4∨d=n∨d=n+1∨d=n+2:=by simpa using hd
  rcases e' with q|q|q|q|q|q
  ·rw[q];exact ag hz (λv q=>nomatch q)
  ·rw[q];exact ag zX (λv q=>nomatch q)
  ·rw[q];exact ag D5 (λv q=>nomatch q)
  ·rw[q];exact bq o1 e1 (λv q=>by rw[d1] at q;cases q)
  ·rw[q];exact bq o2 e2 (λv q=>by rw[d2] at q;cases q)
  ·rw[q];exact bq o3 e3 (λv q=>by rw[d3] at q;cases q)
 keep:=λi h h' st k=>by obtain⟨hz,zX,⟨x,y,z,D5⟩,h1,h2,h3⟩:=st;exact⟨k _ (by simp) _ hz,k _ (by simp) _ zX,vo x y z (k _ (by simp) _ D5),h1.at λo q=>k _ (by simp) o q,h2.at λo q=>k _ (by simp) o q,h3.at λo q=>k _ (by simp) o q⟩
 item:=by
  intro X hP hw hK hc i pins s σ H E I hf st hg;subst hP hw hK;obtain⟨hz,zX,⟨x0,y0,z0,D5⟩,h1,h2,h3⟩:=st;refine nJ ?_ hg;rintro xs ys zs x y z ⟨NO,TY,hqz,hx,hy,Ox⟩;refine cH ?_ (I.list NO);rintro its rv p _;refine cH ?_ (I.list TY);rintro qu NP p2 _;refine cH ?_ (I.list hqz);rintro ago rv3 p3 _;obtain⟨u,hu,ru⟩:=rv.get hx;obtain⟨u2,hu2,ru2⟩:=NP.get hy;obtain⟨u3,hu3,ru3⟩:=rv3.get Ox;have PU:n+5<s.heap.objs.size:=bg hz;refine JD D hz zX D5 h1 h2 h3 p.isList p2.isList p3.isList (x:=u) (y:=u2) (z:=u3) (by simpa using hu) (by simpa using hu2) (by simpa using hu3) λh' z' TO' h1' h2' h3' hT hk=>?_;refine ag rfl (Wa (s:={s with heap:=h'}) z' λNd z'' sb=>?_);have WI:Nd.get? s.heap.objs.size=some {cls:=.type "tuple",data:=.seq #[u,u2,u3]}:=(sb.2 _ (dD PU)).trans hT;have new:fF X.prog X.w (upd H s.heap.objs.size (.tup [x,y,z])) Nd s.heap.objs.size (.tup [x,y,z]):=⟨by show 3<=aA;decide,bq ([u,u2,u3]) (.cons ru (.cons ru2 (.cons ru3 .nil))) (bP _ WI rfl ⟨_,rfl⟩)⟩;have I1:Inv X pins σ (upd H s.heap.objs.size (.tup [x,y,z])) {s with heap:=Nd}:=I.xk (t':=s.toks) (ch:=[n+5,n+3,n+4,n,n+1,n+2]) (λc o hb q=>(sb.2 c (λq'=>hb (by simp[q']))).trans (hk c o (λq'=>hb (by simp[q'])) (λq'=>hb (by simp[q'])) (λq'=>hb (by simp[q'])) (λq'=>hb (by simp[q'])) (λq'=>hb (by simp[q'])) q)) hf (aK _) new;refine dH (.ref s.heap.objs.size) _ I1 rfl (gB _ x y z rfl (I.dQ.fresh (aK _)) rfl (λl hl=>by rw[I.pM hl NO];exact hx) (λl hl=>by rw[I.pM hl TY];exact hy) (λl hl=>by rw[I.pM hl hqz];exact Ox)) ⟨⟨z'',?_,vo u u2 u3 ?_,?_,?_,?_⟩,λd hdm=>?_⟩
  ·exact(sb.2 _ (nA (by omega))).trans (hk _ _ (nA (by omega)) (nA (by omega)) (nA (by omega)) (nA (by omega)) (nA (by omega)) zX)
  ·exact(sb.2 _ (nA (by omega))).trans TO'
  ·exact h1'.at λo q=>(sb.2 _ (nA (by omega))).trans q
  ·exact h2'.at λo q=>(sb.2 _ (nA (by omega))).trans q
  ·exact h3'.at λo q=>(sb.2 _ (nA (by omega))).trans q
  ·have:=ac4 hdm;rw[ay (nA (.inl (b0 this.2 PU)))];exact(hf d hdm).1
 done:=by
  intro X hP hw hK hc i pins s σ H E I hf st hg;subst hP hw hK;obtain⟨hz,zX,⟨x0,y0,z0,D5⟩,h1,h2,h3⟩:=st;obtain⟨xs,NO,acM⟩:=hg;refine cH ?_ (I.list NO);rintro its rv p _;have l1:=rv.length;have he:its.toArray[i]? =none:=by simp;omega
  exact LH (I.ok.hd hc) D hz zX h1 p.isList he λh' hk=>⟨rfl,I.PN (t':=s.toks) (ch:=[n+5,n+3,n+4,n,n+1,n+2]) (λc o hb q=>hk c o (λq'=>hb (by simp[q'])) (λq'=>hb (by simp[q'])) q) hf⟩
 self:=λA i s Q E st h=>A4 st.1 h
def ac6(K:ah)(ta:TA):TI:=λσ H R=>ta σ H λvs H1=>∃a b c xs ys zs,vs=[.ref a,.ref b,.ref c]/\bG K H1 a xs/\bG K H1 b ys/\bG K H1 c zs/\R (It3 K a b c) H1
theorem W5{X:Cx}{e e2 e3:Expr}{ta:TA}{p pos u6:Pos}{elts:List Expr}{kk:Nat}(hg:Gl X "zip")(hm:X.mg "zip"=none)(ha:PA X [e,e2,e3] ta)(hn:[e,e2,e3].all Qa=true:=by rfl):
  PI X (.Tuple elts kk u6) (.Call (.Name "zip" p) [e,e2,e3] [] pos) (ac6 X.K ta):=by
 intro pins s σ H R I h;rw[d5,aL] at hn;refine Call_ (vq I hg hm HG (iG (iM (ha pos pins s σ H _ I h) λus s1 ⟨vs,H1,I1,r1,q1⟩=>?_) (vV hn.1) (qI hn.2)));refine nJ ?_ q1;rintro a b c xs ys zs ⟨ex,NO,TY,hqz,q⟩;subst ex
 cases r1 with
 |cons r rr=>
  cases rr with
  |cons r' rr=>
   cases rr with
   |cons r'' rr=>
    cases rr;cases r;cases r';cases r'';refine cH ?_ (I1.list NO);rintro its rv p1 _;refine cH ?_ (I1.list TY);rintro qu NP p2 _;refine cH ?_ (I1.list hqz);rintro ago rv3 p3 _;refine RL p1.isList p2.isList p3.isList λh' hz zX D5 h1 h2 h3 hk=>A4 hz ?_;have I2:Inv X pins σ H1 {s1 with heap:=h'}:=I1.kept (t':=s1.toks) hk;refine o6 (s1.heap.objs.size+5) ([s1.heap.objs.size+5,s1.heap.objs.size+3,s1.heap.objs.size+4,s1.heap.objs.size,s1.heap.objs.size+1,s1.heap.objs.size+2]) _ _ H1 ⟨rfl,I2,ac5 ⟨p1.lt,p2.lt,p3.lt⟩,⟨hz,zX,vo _ _ _ D5,h1,h2,h3⟩,λd hdm=>?_,q⟩;have:=ac4 hdm;exact I1.IE this.1 (I1.dQ.fresh this.1)
section
variable{g:TG}{te:TE}{vs:List Nat}{σ:L2.St}{H:Hp}{Q:VK}{K:ah}{a b c:af}
theorem range_list{n:Nat}{f:Nat->V}{r:List V}(hl:r.length=n)(h:∀i,i<n->r[i]? =some (f i)):(b9 n).map f=r:=by
 apply oC;intro i;rw[aV];by_cases hi:i<n
 ·rw[Cb hi,h i hi];rfl
 ·rw[da (by rw[d4];omega),da (by omega)];rfl
theorem JE{xs ys r:List V}(h1:bG K H a xs)(h2:bG K H b ys)(hlen:xs.length=ys.length)(hr:r.length=xs.length)(hn:xs.length<=aA)(hs:∀(i:Nat)(x y v:V)(T:af)(H':Hp)(R:VK),xs[i]? =some x->ys[i]? =some y->r[i]? =some v->aT H H'->H' T=none->(∀H4,aT H' H4->R v H4)->g (.ref T) (wipe σ vs) (upd H' T (.tup [x,y])) λσ2 H2=>wipe σ2 vs=wipe σ vs/\te σ2 H2 R)
  (hd:∀D H',H D=none->aT H H'->H' D=some (.lst r)->Q (.ref D) H'):Ye g IS te vs σ Q (Itz K a b) H:=by
 refine Fd (n:=xs.length) (f:=λi=>(r[i]?).getD .h9) hn (Ow h1 h2 (aK _) (by omega)) (Fc h1 h2 (.inl (aK _))) (λi x H' ou R hi k y hR=>?_) (λD H' d1 d2 d3=>hd D H' d1 d2 ?_)
 ·refine rq ?_ y;clear y;rintro T x y rfl hT rfl ⟨ex,ey⟩;have er:r[i]? =some r[i]:=aw (by omega);refine hs i x y r[i] T H' R (ex _ (k.seq h1)) (ey _ (k.seq h2)) er k hT λH4 k4=>?_;have:=hR H4 k4;rw[er] at this;exact this
 ·rw[d3];refine congrArg (λz=>some (HO.lst z)) (range_list hr λi hi=>?_);rw[aw (by omega)];rfl
theorem UR{xs ys zs r:List V}(h1:bG K H a xs)(h2:bG K H b ys)(h3:bG K H c zs)(NH:xs.length=ys.length)(Yg:xs.length=zs.length)(hr:r.length=xs.length)(hn:xs.length<=aA)(hs:∀(i:Nat)(x y z v:V)(T:af)(H':Hp)(R:VK),xs[i]? =some x->ys[i]? =some y->zs[i]? =some z->r[i]? =some v->aT H H'->H' T=none->(∀H4,aT H' H4->R v H4)->g (.ref T) (wipe σ vs) (upd H' T (.tup [x,y,z])) λσ2 H2=>wipe σ2 vs=wipe σ vs/\te σ2 H2 R)
  (hd:∀D H',H D=none->aT H H'->H' D=some (.lst r)->Q (.ref D) H'):Ye g IS te vs σ Q (It3 K a b c) H:=by
 refine Fd (n:=xs.length) (f:=λi=>(r[i]?).getD .h9) hn (λi H' hi k=>?_) (λH' k=>bq xs (k.seq h1) (aK _)) (λi x H' ou R hi k y hR=>?_) (λD H' d1 d2 d3=>hd D H' d1 d2 ?_)
 ·exact jb xs ys zs (xs[i]) (ys[i]) (zs[i]) ⟨k.seq h1,k.seq h2,k.seq h3,aw (by omega),aw (by omega),aw (by omega)⟩
 ·refine u1 ?_ y;clear y;rintro T x y z rfl hT rfl ex ey ez;have er:r[i]? =some r[i]:=aw (by omega);refine hs i x y z r[i] T H' R (ex _ (k.seq h1)) (ey _ (k.seq h2)) (ez _ (k.seq h3)) er k hT λH4 k4=>?_;have:=hR H4 k4;rw[er] at this;exact this
 ·rw[d3];refine congrArg (λz=>some (HO.lst z)) (range_list hr λi hi=>?_);rw[aw (by omega)];rfl
end
section
variable{prog:bp}{w:bQ}{A:cy}{E:ak->az->Prop}{s:az}
theorem Oy{v d:af}{o:Obj}{es:Array hJ}{ep:Nat}{Q:ak->az->Prop}(hv:s.heap.IsItemsView v d)(ho:s.heap.get? d=some o)(TR:o.data=.dict es ep)(hQ:Q (.ref s.heap.objs.size) {s with heap:=s.heap.push {cls:=.type "dict_itemiterator",data:=.fields #[.none,.bool false,.ref d,.int 0 0,.int es.size 0,.int ep 0,.none,.none]}}):
  bj (model prog w) A (Pr (.ref v)) Q E s:=by
 refine cH ?_ (id hv);rintro ov hov hcv hdv;refine ajO hv.typeIs aaM (fD aaM hv.typeIs F.entry_dict_items_iter ?_ (F.args_dict_items_iter_1 _));unfold Builtin.«dict_items.__iter__»;refine ae (aJ ?_);refine ae ?_;unfold Builtin.Dict_items.dictOf;refine ae (eZ hov hdv (x:=.ref d) rfl (aJ ?_));refine ae ?_;unfold Builtin.Dict_items.newIterator;refine ae (mq ho TR ?_);refine ae (oH ho TR ?_);have IV:iP "dict_itemiterator"=true:=by decide
 simp only[IV,if_true];refine iJ (aJ (ag rfl (bt ("dict_itemiterator") _ (ag (aU _ rfl) rfl) iA.lookup ?_))) (by simp only[sizeOk,Ir,bD,aP,aW,abS,QP];omega);simpa[eW,Ir] using hQ
theorem Oz{it d:af}{i ep n:Nat}{od:Obj}{es:Array hJ}{en:hJ}{ok ov:ak}{Q:Option ak->az->Prop}(hit:rH s.heap it d i n ep ok ov)(Gh:s.heap.get? d=some od)(TU:od.data=.dict es ep)(hsz:es.size=n)(hx:es[i]? =some en)(hQ:∀h',XG h' it d (i+1) n ep en.key en.val s.heap.objs.size->h'.get? s.heap.objs.size=some {cls:=.type "tuple",data:=.seq #[en.key,en.val]}->(∀b o,b≠it->s.heap.get? b=some o->h'.get? b=some o)->Q (some (.ref s.heap.objs.size)) {s with heap:=h'}):
  bj (model prog w) A (jH (.ref it)) Q E s:=by
 obtain⟨hp,g,dr,tk,os⟩:=s;have hT:Iy ⟨hp,g,dr,tk,os⟩ (.ref it) "dict_itemiterator":=ag hit rfl;obtain⟨TV,hen⟩:=MY.mp hx;subst hen;unfold jH;refine ae (lS (ff (name:=aS "__next__") hT iA (fD iA hT Pe ?_ (Nh _))));refine ae (aJ ?_);refine ae ?_;refine ae ?_;first|(refine ae (kE hT (aJ ?_)))|(refine ae (nH hT (aJ ?_)))
 refine ae (FV hit rfl ?_);have IV:iP "dict_itemiterator"=true:=by decide
 simp only[IV,if_true];show bj _ _ (if(bz d==gN)=true then _ else _) _ _ _;rw[if_neg (show¬((bz d==gN)=true) from aZ)];refine ae (aJ ?_);refine ae (mq Gh TU ?_);rw[if_neg (by rw[hsz];simp)];refine ae (aJ ?_);refine ae (oH Gh TU ?_);rw[if_neg (by simp)];refine aJ ?_;simp only[show¬((i:Int)<0) from by omega,if_false,oB,Nj TV];refine ae ?_;first|(refine ae (kE hT (aJ ?_)))|(refine ae (nH hT (aJ ?_)))
 refine ae (B8 hT ?_);show bj _ _ (M5 (.ref it) 3 (eW ((i:Int)+1)) >>= _) _ _ ⟨hp,g,dr,tk,os⟩;refine ae (cZ hit (by simp) λa1 e1 b1=>?_);replace b1:eM it hp a1:=b1;replace e1:rH a1 it d (i+1) n ep ok ov:=by
  have e:((i+1:Nat):Int)=(i:Int)+1:=by omega
  unfold rH;rw[e];simpa[eW] using e1
 have Ie:Iy ⟨a1,g,dr,tk,os⟩ (.ref it) "dict_itemiterator":=ag e1 rfl;refine ae (gG ?_);refine ae (B8 Ie ?_);refine ae (B8 Ie ?_);show bj _ _ (MX (.ref it) 6 es[i].key es[i].val) _ _ ⟨a1,g,dr,tk,os⟩;unfold MX;refine ae (VP ?_);have e2:rH (a1.push {cls:=.type "tuple",data:=.seq #[es[i].key,es[i].val]}) it d (i+1) n ep ok ov:=aj _ e1;have z1:a1.objs.size=hp.objs.size:=b1.1;have Yh:it<hp.objs.size:=bg hit;have t2:(a1.push {cls:=.type "tuple",data:=.seq #[es[i].key,es[i].val]}).get? hp.objs.size=some {cls:=.type "tuple",data:=.seq #[es[i].key,es[i].val]}:=by rw[<-z1];exact aU _ rfl
 have k2:∀b o,b≠it->hp.get? b=some o->(a1.push {cls:=.type "tuple",data:=.seq #[es[i].key,es[i].val]}).get? b=some o:=λb o hb e=>aj _ (b1.extBut b o hb e);generalize a1.push {cls:=.type "tuple",data:=.seq #[es[i].key,es[i].val]}=a2 at e2 t2 k2;show bj _ _ (Iu (.ref it) >>= _) _ _ ⟨a2,g,dr,tk,os⟩;rw[z1];refine ae ?_;unfold Iu;refine ae (eZ e2 rfl (x:=.none) rfl (aJ ?_));simp only[if_true];refine ae (eZ e2 rfl (x:=ok) rfl ?_);refine ae (eZ e2 rfl (x:=ov) rfl ?_);refine ae (cZ e2 (by simp) λa3 e3 b3=>?_);replace b3:eM it a2 a3:=b3;replace e3:rH a3 it d (i+1) n ep es[i].key ov:=e3;refine ae (cZ e3 (by simp) λa4 e4 b4=>?_);replace b4:eM it a3 a4:=b4;replace e4:rH a4 it d (i+1) n ep es[i].key es[i].val:=e4;refine ae (cZ e4 (by simp) λa5 e5 b5=>?_);replace b5:eM it a4 a5:=b5;replace e5:XG a5 it d (i+1) n ep es[i].key es[i].val hp.objs.size:=e5;refine ae (cZ e5 (by simp) λa6 e6 b6=>?_);replace b6:eM it a5 a6:=b6;replace e6:XG a6 it d (i+1) n ep es[i].key es[i].val hp.objs.size:=e6;refine ae (m5 (aJ (aJ (ag rfl (aJ (hQ a6 e6 ?_ ?_))))))
 ·exact b6.extBut _ _ (dD Yh) (b5.extBut _ _ (dD Yh) (b4.extBut _ _ (dD Yh) (b3.extBut _ _ (dD Yh) t2)))
 ·exactλb o hb e=>b6.extBut b o hb (b5.extBut b o hb (b4.extBut b o hb (b3.extBut b o hb (k2 b o hb e))))
theorem RN{it d:af}{i ep n:Nat}{od:Obj}{es:Array hJ}{ok ov:ak}{Q:Option ak->az->Prop}(hh:A.handled=none)(hit:rH s.heap it d i n ep ok ov)(Gh:s.heap.get? d=some od)(TU:od.data=.dict es ep)(hsz:es.size=n)(hx:n<=i)(hQ:∀h',aer it s.heap h'->Q none {s with heap:=h'}):bj (model prog w) A (jH (.ref it)) Q E s:=by
 have hT:Iy s (.ref it) "dict_itemiterator":=ag hit rfl;unfold jH;refine ae (lS (ff (name:=aS "__next__") hT iA (fD iA hT Pe ?_ (Nh _))));refine ae (aJ ?_);refine ae ?_;refine ae ?_;first|(refine ae (kE hT (aJ ?_)))|(refine ae (nH hT (aJ ?_)))
 refine ae (FV hit rfl ?_);have IV:iP "dict_itemiterator"=true:=by decide
 simp only[IV,if_true];show bj _ _ (if(bz d==gN)=true then _ else _) _ _ s;rw[if_neg (show¬((bz d==gN)=true) from aZ)];refine ae (aJ ?_);refine ae (mq Gh TU ?_);rw[if_neg (by rw[hsz];simp)];refine ae (aJ ?_);refine ae (oH Gh TU ?_);rw[if_neg (by simp)];refine aJ ?_;simp only[show¬((i:Int)<0) from by omega,if_false,oB,yc (show es.size<=i by rw[hsz];exact hx)];refine ae ?_;first|(refine ae (kE hT (aJ ?_)))|(refine ae (nH hT (aJ ?_)))
 show bj _ _ (M5 (.ref it) 2 .none >>= _) _ _ s;refine ae (VL hit rfl (by simp) ?_);show bj _ _ (newExc (.type "StopIteration") [] >>= _) _ _ _;refine ae ?_;simp only[newExc,newTuple];refine ae (iJ ?_ (by size_fits));refine ae (m:=FW _ _) (QR (a:=gN) (by first|rfl|(simp only[FW];rfl)) ?_);refine iJ ?_ (by size_fits);simp only[raiseNew];refine ae (wpAny_handled ?_);rw[show A.in1.handled=none from hh];refine ae (aJ (wpAny_throw ?_));refine ae (A3 (T:="StopIteration") (b:=true) (ag (aU _ rfl) rfl) FX ?_);exact aJ (hQ _ (((uW ..).extBut.push _).push _))
end
theorem JF{prog:bp}{w:bQ}(d:af)(hd:(d==gn)=false):MeetsIn prog w (Builtin.«dict.items» ⟨[.ref d],[]⟩) (λ_ R s=>s.TypeIs (.ref d) "dict"/\R (.ok (.ret (.ref s.heap.objs.size))) {s with heap:=s.heap.push {cls:=.type "dict_items",data:=.fields #[.ref d]}}):=.of_wp λA R s ⟨hT,h⟩=>by unfold Builtin.«dict.items»;refine ae ?_;unfold Builtin.Dict.noArgs;refine ae (abL hT ?_);show bj _ _ (pure d) _ _ s;refine aJ ?_;show bj _ _ (rn d >>= _) _ _ s;unfold rn;rw[if_neg (by rw[hd];exact aZ)];exact ae (aJ (ae (iJ (aJ (ag rfl h)))))
def ac7(d:af)(o:Obj)(kvs:List (List Key×V)):It:=⟨λi H=>H d=some (.vp o (.dT kvs))/\i<kvs.length,λi H x H'=>∃(T q:af)(k:List Key)(v:V),kvs[i]? =some (k,v)/\x=.ref T/\H q=some (.tup (k.map kV))/\H T=none/\H'=upd H T (.tup [.ref q,v]),λi H=>H d=some (.vp o (.dT kvs))/\kvs.length<=i⟩
theorem US{X:Cx}{pins:List (af×Obj)}{σ:L2.St}{H:Hp}{s:az}{d:af}{o:Obj}{kvs:List (List Key×V)}(I:Inv X pins σ H s)(h:H d=some (.vp o (.dT kvs))):(d==gn)=false/\s.heap.get? d=some o/\o.ExactDict/\∃(es:Array hJ)(ep:Nat),o.data=.dict es ep/\es.size=kvs.length/\
   ∀(i:Nat)(k:List Key)(v:V),kvs[i]? =some (k,v)->∃(en:hJ)(q:af),es[i]? =some en/\en.key=.ref q/\H q=some (.tup (k.map kV))/\RelV v en.val:=by
 obtain⟨hd,z,hs,xs,pr,o',es,ep,ho,hx,Gk,he,_⟩:=I.dQ d _ h;rw[hd] at ho;cases ho;refine⟨hs,hd,hx,bt es ep Gk ?_ (λi k v e=>?_)⟩
 ·have l1:es.size=xs.length:=an6 he;have l2:kvs.length=xs.length:=rP pr;omega
 ·refine cH ?_ (NM pr e);rintro b hb e1 ⟨e2,e3⟩;have q:=entry_at he i;rw[hb] at q;exact dH _ b.2.1 q rfl e2 e3
section
variable{P:bp}{w:bQ}{K:ah}{d:af}{o:Obj}{es:Array hJ}{ep:Nat}
theorem LI{kvs:List (List Key×V)}{elts:List Expr}{kk:Nat}{u6:Pos}(it:af)(Gh:o.data=.dict es ep):
  Turn P w K (.Tuple elts kk u6) (ac7 d o kvs) [it] it (λi h=>∃ok ov,rH h it d i kvs.length ep ok ov) where
 mem:=by simp
 obj:=λi h st b hb=>by
  have e:b=it:=by simpa using hb
  subst e;refine Ks ?_ st;rintro ok ov e;exact ag e (λv z=>nomatch z)
 keep:=λi h h' st k=>let⟨ok,ov,e⟩:=st;(qr ok ov (k it (by simp) _ e))
 item:=by
  intro X hP hw hK hc i pins s σ H E I hf st hg;subst hP hw hK;obtain⟨hd,hi⟩:=hg;obtain⟨hs,ZT,hx,XO,XQ,Gk,hsz,ent⟩:=US I hd;obtain⟨rfl,rfl⟩:=PQ Gh Gk;obtain⟨⟨k,v⟩,Sz⟩:∃p,kvs[i]? =some p:=⟨kvs[i],aw hi⟩;refine ke ?_ (ent i k v Sz);rintro en q hen IF hq rv;refine Ks ?_ st;rintro ok ov he;have oR:it<s.heap.objs.size:=bg he;refine Oz he ZT Gk hsz hen λh' ho hT hk=>?_;refine ag rfl (wpAny_letOwnedTupleGo_items (s:={s with heap:=h'}) ho λNd rA sb=>?_);have WI:Nd.get? s.heap.objs.size=some {cls:=.type "tuple",data:=.seq #[en.key,en.val]}:=(sb.2 _ (dD oR)).trans hT;have new:fF X.prog X.w (upd H s.heap.objs.size (.tup [.ref q,v])) Nd s.heap.objs.size (.tup [.ref q,v]):=⟨by show 2<=aA;decide,bq ([en.key,en.val]) (.cons IF (.cons rv .nil)) (bP _ WI rfl ⟨_,rfl⟩)⟩;have I1:Inv X pins σ (upd H s.heap.objs.size (.tup [.ref q,v])) {s with heap:=Nd}:=I.xk (t':=s.toks) (ch:=[it]) (λb ob hb e=>(sb.2 b (by simpa using hb)).trans (hk b ob (by simpa using hb) e)) hf (aK _) new;refine dH (.ref s.heap.objs.size) _ I1 rfl (iE _ q k v Sz rfl hq (I.dQ.fresh (aK _)) rfl) ⟨qr en.key en.val rA,λb hb=>?_⟩;have e:b=it:=by simpa using hb
  rw[e,ay (bV oR)];exact(hf it (by simp)).1
 done:=by intro X hP hw hK hc i pins s σ H E I hf st hg;subst hP hw hK;obtain⟨hd,hi⟩:=hg;obtain⟨f0,f1,f2,f3,f4,f5⟩:=hf it (by simp);obtain⟨hs,ZT,hx,XO,XQ,Gk,hsz,ent⟩:=US I hd;obtain⟨rfl,rfl⟩:=PQ Gh Gk;refine Ks ?_ st;rintro ok ov he;exact RN (I.ok.hd hc) he ZT Gk hsz hi λh' eb=>⟨rfl,I.turned (t':=s.toks) (λb ob hb e=>eb b ob hb e) f0 f1 f3 f4 f5⟩
 self:=λA i s Q E st h=>let⟨_,_,e⟩:=st;PySem.W.kcp_self e h
end
def agq(td:TE):TE:=λσ H Q=>td σ H λx H1=>∃d u,x=.ref d/\H1 d=some u/\YO (some u)/\∀od,Q (.ref d) (upd H1 d (.vp od u))
def W6(td:TE):TI:=λσ H R=>td σ H λx H1=>∃d o kvs,x=.ref d/\H1 d=some (.vp o (.dT kvs))/\R (ac7 d o kvs) H1
section
variable{X:Cx}{tg e:Expr}{td:TE}{apos mB:Pos}
theorem ZU(he:PE X e td):PE X e (agq td):=λpins s σ H Q I h=>iM (he pins s σ H _ I h) λu s1 ⟨x,H1,I1,rx,d,ob,ex,hd,mu,q⟩=>by subst ex;obtain⟨od,I2⟩:=I1.lock hd mu;exact bt (.ref d) _ I2 rx (q od)
theorem RO{elts:List Expr}{kk:Nat}{u6:Pos}(he:PE X e td)(n4:gf e "items" X.env (eval e X.env)=eval e X.env:=by rfl)(gJ:(apos.endLine==mB.line)=true:=by rfl):
  PI X (.Tuple elts kk u6) (.Call (.Attribute e "items" apos) [] [] mB) (W6 td):=by
 intro pins s σ H R I h;refine M0 (T:="dict") (id:="dict.items") n4 rfl gJ ajQ ajR F.type_dict_items (iM (he pins s σ H _ I h) λu s1 ⟨x,H1,I1,rx,d,o,kvs,ex,hd,q⟩=>?_);subst ex;obtain rfl:u=bz d:=rx;obtain⟨hs,ZT,hx,es,ep,Gk,hsz,ent⟩:=US I1 hd;have hT:s1.TypeIs (.ref d) "dict":=bq o ZT hx.1;refine⟨hT,λa ea=>?_,?_⟩
 ·cases ea;exact bq o ZT hx.2.1
 have I2:Inv X pins σ H1 {s1 with heap:=s1.heap.push {cls:=.type "dict_items",data:=.fields #[.ref d]}}:=I1.kept (t':=s1.toks) λb ob q=>aj _ q;have fin:bj (model X.prog X.w) X.A (Pr (.ref s1.heap.objs.size)) (PIE X pins σ (.Tuple elts kk u6) R) X.xe {s1 with heap:=s1.heap.push {cls:=.type "dict_items",data:=.fields #[.ref d]}}:=by refine Oy (d:=d) (bP _ (aU _ rfl) rfl rfl) (aj _ ZT) Gk (NK (tk:=s1.toks) I2 _ (LI _ Gk) (qr .none .none ?_) q);rw[<-hsz];exact aU _ rfl
 show bj _ _ (qp mB (.builtin "dict.items") [.ref d] [] []) _ X.xe s1;exact method_meetsIn ajR F.entry_dict_items rfl (Wf ⟨rfl,hT,F.args_dict_items_1 _,ag (JF d hs) ⟨hT,fin⟩⟩)
end
end Bp
namespace Bp
open PySem PySem.Spec PyProof.Rows L2 Bm
variable{P:bp}{w:bQ}{K:ah}{mg:Str->Option ak}{base:cB}{A:Cl}
theorem UT{k:Key}{v:ak}(h:yf k v=true):v.scannable=true:=by rcases hU h with⟨i,t,rfl,rfl⟩|⟨x,t,rfl,rfl⟩<;>rfl
section
variable{prog:bp}{w:bQ}{A:cy}{R:aa7->az->Prop}{I:af}{fp wr:List af}{G:Array aes->Array aes->Prop}{n:Nat}{P:Nat->ak->Prop}{St:Nat->az->Prop}
abbrev Fe(prog:bp)(w:bQ)(h:cB)(S:af)(l:List Key):Prop:=h.SetOf (gq prog w) S (λk=>l.any λx=>decide (x=k)) l.length
theorem UU{h:cB}{a:af}{S S':Key->Bool}{n n':Nat}(hS:h.SetOf (gq prog w) a S n)(e:∀k,S k=S' k)(en:n=n'):h.SetOf (gq prog w) a S' n':=by obtain rfl:S=S':=funext e;subst en;exact hS
theorem W7{l:List Key}{k:Key}:(l.any λx=>decide (x=k))=true↔k∈l:=by simp
theorem Fe.keep{h h':cB}{S:af}{l:List Key}(x:Fe prog w h S l)(k:∀o,h.get? S=some o->h'.get? S=some o):Fe prog w h' S l:=by refine xE ?_ x;rintro o es ep t ⟨ho,rest⟩;exact DM o es ep t ⟨k _ ho,rest⟩
theorem ZV(W:WalksS prog w A.in1 I fp wr G n P St)(S:af)(hSf:S∉fp)(ks:List Key)(hn:ks.length=n)(agr:∀i v,P i v->∃k,ks[i]? =some k/\yf k v=true)(hb:n+1<Gx):
  ∀(k i:Nat)(s:az),n-i=k->i<=n->St i s->Fe prog w s.heap S (dd (ks.take i))->
   (∀s',Moved (S::wr) G s s'->Fe prog w s'.heap S (dd ks)->R (.ok (.ret .none)) s')->rS (model prog w) A (.builtin "set.update.loop" ⟨[.ref S,.ref I],[]⟩) R s:=by
 have hSw:S∉wr:=λh=>hSf (W.sub _ h);have ud:∀b∈wr,b∈S::wr:=λb hb=>.tail _ hb;intro k
 induction k with
 |zero=>
  intro i s hk hi gC hS hR;have hin:i=n:=by omega
  subst hin;refine gj amZ ?_;rw[gr Gr _];show bj _ A.in1 (jH (.ref I) >>= _) _ _ s;refine ae (W.done s _ _ gC λs' hm=>?_);show bj _ A.in1 (ret gN) _ _ s';refine aJ (hR s' (hm.mono ud) ?_);rw[bK (by omega)] at hS;exact hS.keep λo ho=>hm.heap S o hSw ho
 |succ k ih=>
  intro i s hk hi gC hS hR;have oR:i<n:=by omega
  refine gj amZ ?_;rw[gr Gr _];show bj _ A.in1 (jH (.ref I) >>= _) _ _ s;refine ae (W.item i s _ _ oR gC λv s' hP oP hm=>?_);obtain⟨ky,hky,Sz⟩:=agr i v hP;have V5:Fe prog w s'.heap S (dd (ks.take i)):=hS.keep λo ho=>hm.heap S o hSw ho;show bj _ A.in1 (holding [v] (setAdd S v) >>= _) _ _ s';refine ae (gG ?_);unfold setAdd;refine gG ?_;refine ae ((gq prog w).pyHash (k:=ky) Sz ?_);have LJ:(dd (ks.take i)).length+1<Gx:=by have h1:=Ue (ks.take i);rw[cQ] at h1;have:min i ks.length<=i:=abW ..;omega
  refine wpAny_setAddHashed_of (knd:=gq prog w) (s:={s' with toks:=s'.toks+1}) Sz (UT Sz) V5 LJ λh' hsb SA=>?_;have et:ks.take (i+1)=ks.take i++[ky]:=by rw[dz,hky];rfl
  have hSi:Fe prog w h' S (dd (ks.take (i+1))):=by
   rw[et,Ja];refine UU SA (λk'=>?_) ?_
   ·rw[ng,ik,W7,W7,P1,decide_eq_true_eq]
   ·unfold Cn;by_cases q:ky∈dd (ks.take i)
    ·rw[if_pos q];show(if(_:Bool)=true then _ else _)=_;rw[if_pos (W7.mpr q)]
    ·rw[if_neg q];show(if(_:Bool)=true then _ else _)=_;rw[if_neg (λz=>q (W7.mp z)),aP];rfl
  refine aJ ⟨oA Gr _,ih (i+1) _ (by omega) oR (W.frame _ s' _ _ oP (VU _) λb hb o e=>?_) hSi λs'' agt agu=>?_⟩
  ·rw[hsb.2 b (λh:b=S=>hSf (by rw[<-h];exact hb))];exact e
  ·refine hR s'' (Moved.trans W.gtrans ((hm.mono ud).then_heap (VU _) λb o hb e=>?_) agt) agu;rw[hsb.2 b (λh:b=S=>hb (by rw[h];exact dc))];exact e
end
section
variable{prog:bp}{w:bQ}{A:cy}{E:ak->az->Prop}{s:az}
theorem LK{l:af}{items:Array ak}{ks:List Key}{Q:ak->az->Prop}(hh:A.handled=none)(hl:s.heap.IsList l items)(hn:ks.length=items.size)(hi:∀(i:Nat)(v:ak),items[i]? =some v->∃k,ks[i]? =some k/\yf k v=true)(hb:items.size+1<Gx)(h:∀(h':cB)(tk:Nat),Fe prog w h' s.heap.objs.size (dd ks)->(∀b o,b<s.heap.objs.size->s.heap.get? b=some o->h'.get? b=some o)->Q (.ref s.heap.objs.size) {s with heap:=h',toks:=tk}):
  bj (model prog w) A (call (.type "set") [.ref l]) Q E s:=by
 refine Ks ?_ nt.mro;rintro c tl agv;have ac9:=nt.made;have ud:=nt.sub;refine Kj (an7 ?_);show bj _ _ (callAny (.type "set") _) _ _ _;refine aJ ⟨Kh _ (by decide+kernel),gj ajS ?_⟩;rw[aie (abP "set" [.ref l] []) rfl];have h1:=nt.notType;have h2:=nt.canCreate;have hct:=F.typeCall_set_1 (.ref l)
 repeat (any_goals(first|assumption|wp_step))
 refine k7 (code_set_new_1 (.ref l) (E:=E) (Q₁:=λobj s₁=>∃led:Bool,obj=.ref s.heap.objs.size/\s₁={s with heap:=s.heap.push {cls:=.type "set",dict:=none,data:=.set #[] 0 (.fresh 0 0 led)}}) λled=>bq led rfl rfl) λr s1 hr=>?_
 cases r with
 |error e=>exact hr
 |ok fl=>
  cases fl with
  |ret obj=>
   obtain⟨led,rfl,rfl⟩:=hr;generalize hso:({cls:=.type "set",dict:=none,data:=.set #[] 0 (.fresh 0 0 led)}:Obj)=so;have hS:(s.heap.push so).get? s.heap.objs.size=some so:=aU _ (by subst hso;rfl);have hT:Iy {s with heap:=s.heap.push so} (.ref s.heap.objs.size) "set":=ag hS (by subst hso;rfl);have hli:=nt.init.lookup;have hbi:=nt.init.bind (.ref s.heap.objs.size)
   repeat (any_goals(first|assumption|wp_step))
   refine k7 (FU (R:=wants (λr s2=>r=.none/\∃h' tk,s2={s with heap:=h',toks:=tk}/\Fe prog w h' s.heap.objs.size (dd ks)/\(∀b o,b<s.heap.objs.size->s.heap.get? b=some o->h'.get? b=some o)) E) nt.init.plain F.entry_set_init (check_set_init_1 hT ?_)) λr2 s2 Kp=>?_
   ·refine cH ?_ hl;rintro ol W8 vk ⟨nl,ZW⟩;obtain⟨akP,ada,aiR,ZX⟩:=ol;simp only at vk ZW;subst vk;subst ZW;subst hso;have agx:(s.heap.push {cls:=.type "set",dict:=none,data:=.set #[] 0 (.fresh 0 0 led)}).get? l=some {cls:=.type "list",dict:=ada,data:=.seq items nl,slots:=ZX}:=aj _ W8;have akQ:=F.sub_list_set;have akR:=F.sub_list_frozenset;have k9:(m6 "list"==m6 "dict")=false:=by decide
    have zY:(s.heap.push {cls:=.type "set",dict:=none,data:=.set #[] 0 (.fresh 0 0 led)}).IsList l items:=bP _ agx rfl ⟨nl,rfl⟩;unfold Builtin.«set.__init__» noKeywords Builtin.Frozenset.updateFrom;generalize hPI:Pr=PI;wp_walk;subst hPI;refine fR zY ?_;refine ae (wpAny_runValue ?_);have hlS:l<s.heap.objs.size:=bg W8;have hh3:A.in1.in1.in1.handled=none:=by simp[hh]
    have agy:l≠(s.heap.push {cls:=.type "set",dict:=none,data:=.set #[] 0 (.fresh 0 0 led)}).objs.size:=by rw[cO];exact bV (kT hlS)
    have hSf:s.heap.objs.size∉[(s.heap.push {cls:=.type "set",dict:=none,data:=.set #[] 0 (.fresh 0 0 led)}).objs.size,l]:=by rw[cO];simp only[aB,b8,fj,or_false,not_or];exact⟨bV (pk _),dD hlS⟩
    refine ZV ((Kl hh3 _ l agy items).toS) s.heap.objs.size hSf ks hn hi hb (items.size-0) 0 _ (by omega) (bE _) ⟨bP _ (aU _ rfl) rfl rfl,(zY.push _)⟩ ?_ ?_
    ·have LL:((s.heap.push {cls:=.type "set",dict:=none,data:=.set #[] 0 (.fresh 0 0 led)}).push {cls:=.type "list_iterator",data:=.fields #[.ref l,.int 0 0]}).get? s.heap.objs.size=some {cls:=.type "set",dict:=none,data:=.set #[] 0 (.fresh 0 0 led)}:=aj _ hS;exact gB _ _ _ _ LL ⟨rfl,rfl,rfl⟩ rfl (λe he=>(by simp at he)) (λk=>⟨λz=>(by cases z),λ⟨e,he,_⟩=>(by simp at he)⟩) ⟨(by show 0<Gx;decide),rfl,rfl⟩
    ·intro s' hm V5;obtain⟨h',g',d',W9,os'⟩:=s';have eg:g'=s.gens:=hm.gens;have ed:d'=s.drawn:=hm.drawn;have eo:os'=s.os:=hm.os;subst eg;subst ed;subst eo;show bj _ _ _ _ _ _;refine aJ ?_;show bj _ _ (ret gN) _ _ _;refine aJ ⟨rfl,bt h' W9 rfl V5 (λb o hb e=>?_)⟩;have hb1:b≠s.heap.objs.size:=bV hb;have hb2:b≠(s.heap.push {cls:=.type "set",dict:=none,data:=.set #[] 0 (.fresh 0 0 led)}).objs.size:=by rw[cO];exact bV (kT hb)
     exact hm.heap b o (by simp only[aB,b8,fj,or_false,not_or];exact⟨hb1,hb2⟩) (aj _ (aj _ e))
   ·cases r2 with
    |error e=>exact Kp
    |ok fl2=>
     cases fl2 with
     |ret r=>
      obtain⟨rfl,h',tk,rfl,V5,KS⟩:=Kp
      repeat (any_goals(first|assumption|wp_step))
      exact h _ _ V5 KS
     |_=>exact Kp.elim
  |_=>exact hr.elim
end
section
variable{X:Cx}
def UW(P:bp)(w:bQ)(a:af)(l:List Key):HO:=.ext λh=>Fe P w h a l
theorem Xa(P:bp)(w:bQ){ks:List Key}{its:List ak}(rv:Vals (ks.map kV) its)(i:Nat)(v:ak)(h:its.toArray[i]? =some v):∃k,ks[i]? =some k/\yf k v=true:=by
 have hl:=rv.length;rw[aa] at hl;have h':its[i]? =some v:=by simpa using h
 have hi:i<its.length:=(cn.mp h').1;have e:(ks.map kV)[i]? =some (kV ks[i]):=by rw[aV,aw (by omega)];rfl
 obtain⟨u,hu,r⟩:=rv.get e;rw[h'] at hu;cases hu;exact bq (ks[i]) (aw (by omega)) (DY (P:=P) (w:=w) r)
theorem LM(hc:X.calm=true):kO X (.type "set") (λxs H Q=>∃(a:af)(ks:List Key),xs=[.ref a]/\bG X.K H a (ks.map kV)/\ks.length<4000/\∀p,H p=none->Q (.ref p) (upd H p (UW X.prog X.w p (dd ks)))):=by intro pins s σ H xs us Q I r h;refine ke ?_ h;clear h;rintro a ks rfl hs hn q;rw[Vals.IP r];refine cH ?_ (I.list hs);rintro its rv pl _;have hl:=rv.length;rw[aa] at hl;refine LK (I.ok.hd hc) pl.isList (by simpa using hl) (λi v h=>Xa X.prog X.w rv i v h) (by unfold Gx;simp;omega) λh' tk hS hk=>?_;have kp:∀b u,s.heap.get? b=some u->h'.get? b=some u:=λb u e=>hk b u (bg e) e;have V5:=hS;refine xE ?_ V5;rintro o es ep t ⟨ho,_⟩;exact bt (.ref s.heap.objs.size) _ (I.laid (t':=tk) kp (aK _) (show fF X.prog X.w _ h' _ (UW X.prog X.w s.heap.objs.size (dd ks)) from⟨hS,⟨o,ho⟩,λh1 h2 x k=>Fe.keep x k⟩)) rfl (q _ (I.dQ.fresh (aK _)))
theorem Ig:kO X (.builtin "len") (λxs H Q=>∃(a:af)(ks:List Key),xs=[.ref a]/\H a=some (UW X.prog X.w a ks)/\Q (.int ks.length) H):=by intro pins s σ H xs us Q I r h;refine j7 ?_ h;clear h;rintro a ks rfl hs q;rw[Vals.IP r];have ok:fF X.prog X.w H s.heap a (UW X.prog X.w a ks):=I.dQ a _ hs;obtain⟨⟨o,es,ep,t,ho,hx,hd,ZY,hm,hb,hf,hn⟩,_⟩:=ok;exact call_len_set ho hx hd hf (by unfold Gx at hb;omega) (bt (.int ks.length) H (I.tok _) ⟨_,by rw[hn]⟩ q)
theorem RP:MtR X "list.count" (λx xs H Q=>∃(a:af)(ys:List V)(y:V),x=V.ref a/\xs=[y]/\bG X.K H a ys/\qB y=true/\ys.all qB=true/\Q (.int ((ys.countP λz=>PK z y:Nat):Int)) H):=by
 intro pins s σ H x xs v us Q I rx rxs h;refine rq ?_ h;clear h;rintro a ys y rfl rfl hs ⟨fy,fys,q⟩;cases rx;obtain⟨uy,rfl,ry⟩:=vals1 rxs;refine cH ?_ (I.list hs);rintro its rv ⟨⟨cls,dd,data,sl⟩,n,ho,hc,hdn,hd⟩ hlen;simp only at hc hd;subst hc hd;refine Cd QO (ag ho rfl) PySem.F.entry_list_count (PySem.F.args_list_count_2 _ _) (SeqAt.list_countAt a its.toArray n dd sl uy (Sy y)) ⟨ho,λu' hu'=>z8 ry fy rv fys u' (by simpa using hu'),?_⟩;have e:its.toArray.toList.countP (Sy y)=ys.countP λz=>PK z y:=by
  clear ho hlen hs q hdn;show its.countP (Sy y)=_
  induction rv with
  |nil=>rfl
  |cons r t ih=>rename_i z u zs us;rw[d5,aL] at fys;rw[aaZ,aaZ,ih fys.2,NG r fys.1]
 exact bt (.int _) H (I.tok _) ⟨_,by rw[e]⟩ q
def VwO(p d:af):HO:=.ext λh=>h.IsValuesView p d
theorem Xb{e:Expr}{td:TE}{apos mB:Pos}(he:PE X e td)(n4:gf e "values" X.env (eval e X.env)=eval e X.env:=by rfl)(gJ:(apos.endLine==mB.line)=true:=by rfl):
  PE X (.Call (.Attribute e "values" apos) [] [] mB) (λσ H Q=>td σ H λx H1=>∃d kvs,x=.ref d/\H1 d=some (.dK kvs)/\∀p,H1 p=none->Q (.ref p) (upd H1 p (VwO p d))):=by
 intro pins s σ H Q I h;refine M0 (T:="dict") (id:="dict.values") n4 rfl gJ ajQ aif F.type_dict_values (iM (he pins s σ H _ I h) λu s1 ⟨x,H1,I1,rx,d,kvs,ex,hd,q⟩=>?_);subst ex;obtain rfl:u=bz d:=rx;obtain⟨_,hs,vs,kv,hm⟩:=TH I1.dQ hd;refine⟨hm.typeIs,hm.mapOf.noDict,?_⟩;have fin:EP X pins σ Q (.ref s1.heap.objs.size) {s1 with heap:=s1.heap.push {cls:=.type "dict_values",data:=.fields #[.ref d]}}:=by refine bt (.ref s1.heap.objs.size) _ (I1.laid (t':=s1.toks) (λb ob q=>aj _ q) (aK _) ?_) rfl (q _ (I1.dQ.fresh (aK _)));refine⟨bP _ (aU _ rfl) rfl rfl,⟨_,aU _ rfl⟩,λh1 h2 ⟨o,ho,x⟩ k=>bq o (k o ho) x⟩
 show bj _ _ (qp mB (.builtin "dict.values") [.ref d] [] []) _ X.xe s1;exact method_meetsIn aif F.entry_dict_values rfl (Wf ⟨rfl,hm.typeIs,F.args_dict_values_1 _,ag (meets_dict_values (gq X.prog X.w) d hs) ⟨⟨vs,hm⟩,fin⟩⟩)
theorem Ff(hc:X.calm=true):kO X (.type "list") (λxs H Q=>∃p d kvs,xs=[.ref p]/\H p=some (VwO p d)/\H d=some (.dK kvs)/\∀l,H l=none->Q (.ref l) (upd H l (.lst (kvs.map (·.2))))):=by
 intro pins s σ H xs us Q I r h;refine rq ?_ h;clear h;rintro p d kvs rfl hp hd q;rw[Vals.IP r];obtain⟨hz,_,vs,kv,hm⟩:=TH I.dQ hd;obtain⟨ep,hat⟩:=hm.dictAt;have okv:fF X.prog X.w H s.heap p (VwO p d):=I.dQ p _ hp;have hl:kvs.length=vs.length:=rP kv;refine PySem.W.kdl_call (PySem.W.kdl_values (knd:=gq X.prog X.w) (kvs:=vs) (ep:=ep)) (I.ok.hd hc) ⟨okv.1,hat⟩ (by omega) λh' tk acc c hk hD xR=>?_;have ev:acc.toList=vs.map (·.2):=PySem.W.kdl_vals_eq acc.toList (by rw[iB];exact xR.1) λj v e=>xR.2 j v (by rw[<-o4];exact e);have hv:Vals (kvs.map (·.2)) acc.toList:=by
  rw[ev];unfold KV at kv;clear hz hl hm hat hd q ev xR
  induction kv with
  |nil=>exact .nil
  |cons r t ih=>exact .cons r.2 ih
 refine bt (.ref s.heap.objs.size) _ (I.laid (t':=tk) hk (aK _) (show fF X.prog X.w _ h' _ (.lst (kvs.map (·.2))) from⟨by rw[aa];exact hz,fu acc.toList c hv ?_⟩)) rfl (q _ (I.dQ.fresh (aK _)));rw[hD]
theorem RQ:kO X (.builtin "isinstance") (λxs H Q=>∃(x:V)(C:af)(t:ak)(b:Bool),xs=[x,.ref C]/\Bs X.K H x t/\Bb X.K t (.ref C)=some b/\Q (.bl b) H):=by
 intro pins s σ H xs us Q I r h;refine ip ?_ h;clear h;rintro x C t b rfl ty e q;refine j7 ?_ (vals2 r);rintro u w' rfl rx rc;cases rc;exact Q9 I rx ty e λtk=>bt (.bl b) H (I.tok tk) rfl q
end
def OA:Sp:=λvs H Q _=>∃b:Nat,vs=[.int (b:Nat)]/\Q (.str (sN [sg b])) H
abbrev Xc:Str:="abcdefghijklmnopqrstuvwxyz"
abbrev Xd:Str:="0123456789"
theorem OB{b:Nat}(h:97<=b)(h':b<=122):Rf Xc.cps.toList ((b:Int)-97)=some b:=by
 obtain⟨j,hj⟩:∃j:Nat,b=97+j:=⟨b-97,by omega⟩;subst hj;have hj:j<26:=by omega
 have all:∀j:_root_.Fin 26,Rf Xc.cps.toList (((97+j.val:Nat):Int)-97)=some (97+j.val):=by decide+kernel
 exact all ⟨j,hj⟩
theorem RT{b:Nat}(h:48<=b)(h':b<=57):Rf Xd.cps.toList ((b:Int)-48)=some b:=by
 obtain⟨j,hj⟩:∃j:Nat,b=48+j:=⟨b-48,by omega⟩;subst hj;have hj:j<10:=by omega
 have all:∀j:_root_.Fin 10,Rf Xd.cps.toList (((48+j.val:Nat):Int)-48)=some (48+j.val):=by decide+kernel
 exact all ⟨j,hj⟩
theorem OC(T:Txt K mg A):Def P w K mg base "sign_of" 1 ["byte"] OA:=by
 refine T.Av.sign_of.g8 Ov (λf _ A' _ s H vs Q E hr=>?_)
 ·rintro⟨b,rfl,k⟩;refine ag (ax (du (cF jz (pv 0) (cY T.k.acW rfl) (cC _)) (aG (aY fb)) bS) (ax (du (z6 iH iH (cJ pO (by rfl) T.b.EV zf (aI fb aq)) (pv 0) (cJ pO (by rfl) T.b.EV zf (aI fb aq))) (aG (aY (eN NF (cY T.k.Qg rfl) (fo vv (pv 0) (cJ pO (by rfl) T.b.EV zf (aI fb aq))) (λ_ _=>rfl)))) bS) (ax (du (z6 iH iH (cJ pO (by rfl) T.b.EV zf (aI fb aq)) (pv 0) (cJ pO (by rfl) T.b.EV zf (aI fb aq))) (aG (aY (eN NF (cY T.k.UD rfl) (fo vv (pv 0) (cJ pO (by rfl) T.b.EV zf (aI fb aq))) (λ_ _=>rfl)))) bS) (aG (aY fb))))) ?_;refine bP _ rfl rfl (ag rfl (fG (λh1=>?_) (λh1=>?_)))
  ·have e:b=32:=by
    injection h1 with this
    omega
   subst e;exact k
  ·have e:¬b=32:=λe=>h1 (by rw[e];rfl);have hl:∀c:Nat,sg b=c->Q (.str (sN [c])) H:=λc q=>by rw[<-q];exact k
   refine bP _ rfl (by decide) (ag rfl (bt _ _ rfl rfl (ag rfl (fG (λh2=>?_) (λh2=>?_)))))
   ·have h2:97<=b:=by have:(97:Int)<=b:=h2;omega
    refine bP _ rfl (by decide) (bt _ _ rfl rfl (ag rfl (fG (λh3=>?_) (λh3=>?_))))
    ·have h3:b<=122:=by have:(b:Int)<=122:=h3;omega
     refine ag rfl (bP _ rfl (by decide) (bt _ _ rfl rfl (iD _ _ _ rfl rfl (by decide) (OB h2 h3) (hl b ?_))));unfold sg;rw[if_neg e,if_pos ⟨h2,h3⟩]
    ·have h3:¬b<=122:=by have:¬(b:Int)<=122:=h3;omega
     refine bP _ rfl (by decide) (ag rfl (bt _ _ rfl rfl (ag rfl (fG (λh4=>?_) (λh4=>?_)))))
     ·refine bP _ rfl (by decide) (bt _ _ rfl rfl (ag rfl (fG (λh5=>?_) (λh5=>?_))))
      ·have h5:(b:Int)<=57:=h5;omega
      ·refine hl 63 ?_;unfold sg;rw[if_neg e,if_neg (by omega),if_neg (by omega)]
     ·refine ag rfl (lh ?_);have h4:¬(48:Int)<=b:=h4;omega
   ·have h2:¬97<=b:=by have:¬(97:Int)<=b:=h2;omega
    refine ag rfl (lh ?_);refine bP _ rfl (by decide) (ag rfl (bt _ _ rfl rfl (ag rfl (fG (λh4=>?_) (λh4=>?_)))))
    ·have h4:48<=b:=by have:(48:Int)<=b:=h4;omega
     refine bP _ rfl (by decide) (bt _ _ rfl rfl (ag rfl (fG (λh5=>?_) (λh5=>?_))))
     ·have h5:b<=57:=by have:(b:Int)<=57:=h5;omega
      refine ag rfl (bP _ rfl (by decide) (bt _ _ rfl rfl (iD _ _ _ rfl rfl (by decide) (RT h4 h5) (hl b ?_))));unfold sg;rw[if_neg e,if_neg (by omega),if_pos ⟨h4,h5⟩]
     ·have h5:¬b<=57:=by have:¬(b:Int)<=57:=h5;omega
      refine hl 63 ?_;unfold sg;rw[if_neg e,if_neg (by omega),if_neg (by omega)]
    ·have h4:¬48<=b:=by have:¬(48:Int)<=b:=h4;omega
     refine ag rfl (lh ?_);refine hl 63 ?_;unfold sg;rw[if_neg e,if_neg (by omega),if_neg (by omega)]
def LN:Sp:=λvs H Q _=>∃l:aH,vs=[.str (sN l)]/\l.length<=aA/\∀D H',H D=none->aT H H'->H' D=some (.lst (gZ l))->Q (.ref D) H'
theorem xu(l:aH):(sN l).cps.size=l.length:=by unfold sN;simp
theorem OD{l:aH}{i c:Nat}(h:(sN l).cps[i]? =some c):l[i]? =some c:=by unfold sN at h;simpa using h
theorem LO(T:Txt K mg A):Def P w K mg base "bytes_of" 1 ["text"] LN:=by
 refine T.Av.UA.g8 wD (λf _ A' _ s H vs Q E hr=>cH ?_)
 ·rintro l rfl hl k;refine ag (aG (aY (ia rfl (own:=[("sign",1)]) wD.nd (NL (pv 0)) (cR (by kernel_rfl)) (λ_ _ _ _ _=>(bU (i:=1) wD.nd rfl fz)) (λ_ _ _ _ _=>eQ) (λ_ _ _ _ _=>(cJ pO (by rfl) T.b.EV zf (aI (pv 1) aq)))))) ?_;refine Ql (J:=Its (sN l)) (n:=l.length) (λR h=>ag rfl (ag rfl h)) (f:=λi=>.int ((l.getD i 0:Nat):Int)) hl (λi H' hi _=>?_) (λH' _=>?_) (λi x H' ou R hi k' y hR=>?_) (λD H' hD hs he=>?_)
  ·show i<(sN l).cps.size;rw[xu];exact hi
  ·show(sN l).cps.size<=l.length;rw[xu];exact aK _
  ·obtain⟨rfl,c,hc,rfl⟩:=y;refine⟨rfl,ag rfl (bP _ rfl rfl ?_)⟩;have e:l.getD i 0=c:=by rw[cx,OD hc];rfl
   have:=hR ou (aT.refl _);rw[e] at this;exact this
  ·refine k D H' hD hs ?_;rw[he];refine congrArg (λz=>some (HO.lst z)) (jS l _ _ λi x hx=>?_);rw[cx,hx];rfl
theorem LP(c:Nat):decide (c∈Xc.cps.toList)=i9 c:=by
 have e:Xc.cps.toList=(b9 26).map (97+·):=by decide+kernel
 unfold i9;rw[e];by_cases h:97<=c/\c<=122
 ·have:c∈(b9 26).map (97+·):=au.mpr (bq (c-97) (lH.mpr (by omega)) (by omega));simp[this,h]
 ·have:¬c∈(b9 26).map (97+·):=λq=>by obtain⟨j,hj,e⟩:=au.mp q;have:=lH.mp hj;omega
  rw[decide_eq_false this];symm;rw[gM];by_cases h2:97<=c
  ·right;simp;omega
  ·left;simp;omega
theorem OE(c:Nat):decide (c∈Xd.cps.toList)=eP c:=by
 have e:Xd.cps.toList=(b9 10).map (48+·):=by decide+kernel
 unfold eP;rw[e];by_cases h:48<=c/\c<=57
 ·have:c∈(b9 10).map (48+·):=au.mpr (bq (c-48) (lH.mpr (by omega)) (by omega));simp[this,h]
 ·have:¬c∈(b9 10).map (48+·):=λq=>by obtain⟨j,hj,e⟩:=au.mp q;have:=lH.mp hj;omega
  rw[decide_eq_false this];symm;rw[gM];by_cases h2:48<=c
  ·right;simp;omega
  ·left;simp;omega
def OF:Sp:=λvs H Q _=>∃l:aH,vs=[.str (sN l)]/\l.length<=aA/\∀H',aT H H'->Q (.bl (dU l)) H'
theorem Qo{l:List Nat}{p:Nat->Bool}:((b9 l.length).map λi=>p (l.getD i 0)).all id=l.all p:=by
 have:(b9 l.length).map (λi=>p (l.getD i 0))=l.map p:=by
  apply oC;intro i;rw[aV,aV];by_cases hi:i<l.length
  ·rw[Cb hi,aw hi];show some (p (l.getD i 0))=some (p l[i]);rw[cx,aw hi];rfl
  ·rw[da (by rw[d4];omega),da (by omega)];rfl
 rw[this,rO];rfl
theorem zx(T:Txt K mg A):Def P w K mg base "is_name" 1 ["word"] OF:=by
 refine T.Av.WX.g8 zv (λf _ A' _ s H vs Q E hr=>cH ?_)
 ·rintro l rfl hl k;have eX:∀b H',aT H H'->dU l=b->Q (.bl b) H':=λb H' h1 h2=>by rw[<-h2];exact k H' h1
  refine ag (aG (aY (mx (kg iH iH bB (cJ tp (by rfl) T.b.dS cP (aI (pv 0) aq)) (cY T.k.Jr rfl)) (pL (cJ (vA rfl) (by rfl) T.b.Cz vW (aI (ia rfl (own:=[("sign",1)]) zv.nd (NL (pv 0)) (cR (by kernel_rfl)) (λ_ _ _ _ _=>(bU (i:=1) zv.nd rfl fz)) (λ_ _ _ _ _=>eQ) (λ_ _ _ _ _=>(je D7 (pv 1) (cY T.k.Qg rfl) rfl))) aq)))))) ?_;refine ag rfl (bP _ rfl (by rw[jm];exact hl) (bt _ _ rfl rfl (ag rfl (fG (λh1=>bt _ _ rfl rfl (ag rfl (fG (λh2=>?_) (λh2=>?_)))) (λh1=>ag rfl (lh ?_))))))
  ·rw[jm] at h1 h2;have h2:l.length<=10:=by have:(l.length:Int)<=10:=h2;omega
   refine kK (Ql (J:=Its (sN l)) (n:=l.length) (λR h=>ag rfl (ag rfl h)) (f:=λi=>.bl (i9 (l.getD i 0))) hl (λi H' hi _=>?_) (λH' _=>?_) (λi x H' ou R hi k' y hR=>?_) (λD H' hD hs he=>?_))
   ·show i<(sN l).cps.size;rw[xu];exact hi
   ·show(sN l).cps.size<=l.length;rw[xu];exact aK _
   ·obtain⟨rfl,c,hc,rfl⟩:=y;refine⟨rfl,ag rfl (bt _ _ rfl rfl ?_)⟩;have e:l.getD i 0=c:=by rw[cx,OD hc];rfl
    have:=hR ou (aT.refl _);rw[e] at this;rw[LP];exact this
   ·refine bt D ((b9 l.length).map (λi=>i9 (l.getD i 0))) rfl (bG.of (by rw[he,aQ];rfl)) (eX _ H' hs ?_);rw[Qo];unfold dU;have h1:1<=l.length:=by have:(1:Int)<=l.length:=h1;omega
    simp[h1,h2]
  ·rw[jm] at h1 h2;have h2:¬l.length<=10:=by have:¬(l.length:Int)<=10:=h2;omega
   refine eX _ H (aT.refl _) ?_;unfold dU;simp[h2]
  ·rw[jm] at h1;have h1:¬1<=l.length:=by have:¬(1:Int)<=l.length:=h1;omega
   refine eX _ H (aT.refl _) ?_;unfold dU;simp[h1]
def ZZ(H:Hp)(a:af)(l:aH):Prop:=H a=some (.lst (gZ l))
def LQ:Sp:=λvs H Q _=>∃(a:af)(t:aH),vs=[.ref a]/\bG K H a (gZ t)/\t.length<=100000/\
 ∀(D:af)(as:List af)(H':Hp),H D=none->aT H H'->(∀x∈as,H x=none)->H' D=some (.lst (iZ as))->dn (ZZ H') as (aev t)->Q (.ref D) H'
theorem BO:∀(t:aH)(st:List aH×aH),(t.foldl jA st).1.length<=st.1.length+t.length/\(t.foldl jA st).2.length<=st.2.length+t.length
 |[],st=>⟨aK _,aK _⟩
 |b::t,st=>by
  rw[bL];have ih:=BO t (jA st b);have h1:(jA st b).1.length<=st.1.length+1/\(jA st b).2.length<=st.2.length+1:=by
   unfold jA;split
   ·simp
   ·simp
  rw[aW];omega
theorem Xe(l:List Nat)(b:Nat):gZ l++[V.int (b:Nat)]=gZ (l++[b]):=by unfold gZ;rw[bw];rfl
theorem JG(l:List af)(b:af):iZ l++[V.ref b]=iZ (l++[b]):=by unfold iZ;rw[bw];rfl
theorem Ih{t:aH}{i b:Nat}(h:t[i]? =some b)(st:List aH×aH):(t.take (i+1)).foldl jA st=jA ((t.take i).foldl jA st) b:=by rw[dz,h,ju];rfl
theorem lP{l:List Nat}{i:Nat}{x:V}(h:(gZ l)[i]? =some x):∃n,l[i]? =some n/\x=.int (n:Nat):=by
 unfold gZ at h;rw[aV] at h
 cases e:l[i]? with
 |none=>rw[e] at h;cases h
 |some n=>rw[e] at h;exact bq n rfl ((aX h).symm)
theorem kM{l:List af}{i:Nat}{x:V}(h:(iZ l)[i]? =some x):∃n,l[i]? =some n/\x=.ref n:=by
 unfold iZ at h;rw[aV] at h
 cases e:l[i]? with
 |none=>rw[e] at h;cases h
 |some n=>rw[e] at h;exact bq n rfl ((aX h).symm)
theorem UX{l:List aH}{i:Nat}{x:V}(h:(eU l)[i]? =some x):∃n,l[i]? =some n/\x=.str (sN n):=by
 unfold eU at h;rw[aV] at h
 cases e:l[i]? with
 |none=>rw[e] at h;cases h
 |some n=>rw[e] at h;exact bq n rfl ((aX h).symm)
theorem LR(T:Txt K mg A):Def P w K mg base "lines_of" 1 ["data"] (LQ (K:=K)):=by
 refine T.Av.UB.g8 oq (λf _ A' _ s H vs Q E hr=>ke ?_)
 ·rintro a t rfl hS ht k;refine ag (ax (cg (i:=1) oq.nd rfl fz (bZ aq)) (ax (cg (i:=2) oq.nd rfl fz (bZ aq)) (ax (lU dE rfl (dI (pv 0)) (bU (i:=3) oq.nd rfl fz) (aG (du (cF jz (pv 3) (cY T.k.UC rfl) (cC _)) (ax (iR (oS bT cV cW jl (pv 1) (aI (pv 2) aq))) (aG (cg (i:=2) oq.nd rfl fz (bZ aq)))) (aG (iR (oS bT cV cW jl (pv 2) (aI (pv 3) aq))))))) (ax (du (cF (AB hr.Bt) (pv 2) (bZ aq) (cC _)) (aG (iR (oS bT cV cW jl (pv 1) (aI (pv 2) aq)))) bS) (aG (aY (pv 1))))))) ?_;refine⟨bE _,λD hD=>⟨bE _,λL hL=>?_⟩⟩;have nDL:D≠L:=aR ai hL;have LS:H L=none:=by rw[ay nDL.symm] at hL;exact hL
  have s0:aT H (upd (upd H D (.lst [])) L (.lst [])):=(aD hD).trans (aD hL);refine ag rfl (bP a rfl ⟨_,s0.seq hS⟩ (my (K:=K) (a:=a) (xs:=gZ t) (λi σ H'=>∃(L:af)(as:List af)(v:Option V),σ=[some (.ref a),some (.ref D),some (.ref L),v]/\aT H H'/\H L=none/\¬L=D/\¬L∈as/\(∀x∈as,H x=none)/\H' D=some (.lst (iZ as))/\H' L=some (.lst (gZ ((t.take i).foldl jA ([],[])).2))/\dn (ZZ (cut H' [D,L])) as ((t.take i).foldl jA ([],[])).1) (iD L ([]) none rfl s0 LS nDL.symm ⟨by simp,λx h=>(nomatch h),by rw[ay nDL,ai];rfl,ai,.nil⟩) (λi σ H' _ ⟨_,_,_,_,s1,_⟩=>s1.seq hS) ?_ ?_))
  ·rintro i x σ H' hi ⟨L,as,v,rfl,s1,LS,nLD,nLa,NJ,SD,zy,hP⟩;obtain⟨b,hb,rfl⟩:=lP hi;have Yh:i<t.length:=(cn.mp hb).1;have hlen:=BO (t.take i) ([],[]);rw[cQ] at hlen;refine bP _ rfl rfl (ag rfl (fG (λh1=>?_) (λh1=>?_)))
   ·have e:b=10:=by injection h1 with this;omega
    refine bP _ rfl (.inl ⟨rfl,_,bG.of SD⟩) (ag rfl (iD D _ _ rfl rfl SD ?_ ⟨bE _,λN hN=>?_⟩))
    ·rw[cu,Paired.len hP];refine b0 hlen.1 ?_;show 0+min i t.length<aA;exact b0 (by omega:0+min i t.length<=100000) (by decide)
    ·have Z2:N≠D:=λe=>by rw[e,ai] at hN;cases hN
     have hN1:H' N=none:=by rw[ay Z2] at hN;exact hN
     have nNL:N≠L:=λe=>by rw[e,zy] at hN1;cases hN1
     have nNa:¬N∈as++[L]:=λhm=>by
      rcases aE.mp hm with q|q
      ·obtain⟨j,hj,ej⟩:=jI q;obtain⟨l,_,hl⟩:=Paired.wI hP (i:=j) (a:=N) (by rw[aw hj,ej]);have:=(c8 hl).2;rw[hN1] at this;cases this
      ·exact nNL (b8.mp q)
     have ef:(t.take (i+1)).foldl jA ([],[])=(((t.take i).foldl jA ([],[])).1++[((t.take i).foldl jA ([],[])).2],[]):=by rw[Ih hb];unfold jA;rw[if_pos e]
     refine iD N (as++[L]) _ rfl ?_ (s1.free hN1) Z2 ⟨nNa,λx hx=>by
       rcases aE.mp hx with q|q
       ·exact NJ x q
       ·rw[b8.mp q];exact LS,?_,?_,?_⟩
     ·exactλc o e=>by
       rw[ay (λq=>by rw[q] at e;rw[s1.free hN1] at e;cases e),ay (λq=>by rw[q,hD] at e;cases e)];exact s1 c o e
     ·rw[ay Z2.symm,ai,JG]
     ·rw[ai,ef];rfl
     ·rw[ef];have agE:aT (cut H' [D,L]) (cut (upd (upd H' D (.lst (iZ as++[.ref L]))) N (.lst [])) [D,N]):=λc o e=>by
       obtain⟨n,e⟩:=c8 e;have nc:c≠N:=λq=>by rw[q,hN1] at e;cases e
       have nD:c≠D:=λq=>n (by simp[q]);rw[c7 (by simp[nc,nD]),ay nc,ay nD];exact e
      refine Paired.snoc (Paired.mono (λx y q=>agE _ _ q) hP) ?_;show cut _ _ _=_;rw[c7 (by simp[nLD,nNL.symm]),ay nNL.symm,ay nLD];exact zy
   ·have e:¬b=10:=λe=>h1 (by rw[e];rfl);have ef:(t.take (i+1)).foldl jA ([],[])=(((t.take i).foldl jA ([],[])).1,((t.take i).foldl jA ([],[])).2++[b]):=by rw[Ih hb];unfold jA;rw[if_neg e]
    refine bP _ rfl (.inl ⟨rfl,_,bG.of zy⟩) (ag rfl (iD L _ _ rfl rfl zy ?_ ?_))
    ·rw[eI];refine b0 hlen.2 ?_;show 0+min i t.length<aA;exact b0 (by omega:0+min i t.length<=100000) (by decide)
    ·refine iD L as _ rfl ?_ LS nLD ⟨nLa,NJ,?_,?_,?_⟩
     ·exactλc o e=>by
       rw[ay (λq=>by rw[q,LS] at e;cases e)];exact s1 c o e
     ·rw[ay (λq=>nLD q.symm)];exact SD
     ·rw[ai,ef,Xe]
     ·rw[ef,tQ (by simp)];exact hP
  ·rintro σ H' ⟨L,as,v,rfl,s1,LS,nLD,nLa,NJ,SD,zy,hP⟩;rw[eI,Hs] at zy hP;have hlen:=BO t ([],[]);refine bP _ rfl (bE _) (λN hN=>?_);have Z2:N≠D:=λe=>by rw[e,SD] at hN;cases hN
   have nNL:N≠L:=λe=>by rw[e,zy] at hN;cases hN
   refine iD L N _ rfl rfl (bG.of (by rw[ay nNL.symm];exact zy)) (bG.of ai) (ag rfl (vX (λh1=>?_) (λh1=>?_)))
   ·refine bP _ rfl (.inl ⟨rfl,_,bG.of (by rw[ay Z2.symm];exact SD)⟩) (ag rfl (iD D _ _ rfl rfl (by rw[ay Z2.symm];exact SD) ?_ ?_))
    ·rw[cu,Paired.len hP];refine b0 hlen.1 ?_;exact b0 (by show 0+t.length<=100000;omega) (by decide)
    ·refine ag rfl (k D (as++[L]) _ hD ?_ (λx hx=>by
      rcases aE.mp hx with q|q
      ·exact NJ x q
      ·rw[b8.mp q];exact LS) ?_ ?_)
     ·exactλc o e=>by
       rw[ay (λq=>by rw[q,hD] at e;cases e),ay (λq=>by rw[q] at e;rw[s1.free hN] at e;cases e)];exact s1 c o e
     ·rw[ai,JG]
     ·rw[K7];unfold Ru;rw[if_pos (λq=>h1 (by rw[q];rfl))];refine Paired.snoc (Paired.mono (λx y q=>?_) hP) ?_
      ·obtain⟨n,q⟩:=c8 q;show upd _ _ _ x=_;rw[ay (λz=>n (by simp[z])),ay (λz=>by rw[z,hN] at q;cases q)];exact q
      ·show upd _ _ _ L=_;rw[ay nLD,ay nNL.symm];exact zy
   ·refine ag rfl (k D as _ hD (s1.trans (aD hN)) NJ ?_ ?_)
    ·rw[ay Z2.symm];exact SD
    ·rw[K7];unfold Ru;have:((t.foldl jA ([],[]))).2=[]:=by unfold gZ at h1;exact jJ.mp h1
     rw[if_neg (by rw[this];simp)];refine Paired.mono (λx y q=>?_) hP;obtain⟨n,q⟩:=c8 q;show upd _ _ _ x=_;rw[ay (λz=>by rw[z,hN] at q;cases q)];exact q
def LU:Sp:=λvs H Q _=>∃(a:af)(l:aH),vs=[.ref a]/\bG K H a (gZ l)/\l.length<=100000/\
 ∀(D:af)(H':Hp),H D=none->aT H H'->H' D=some (.lst (eU ((aew l).map iI)))->Q (.ref D) H'
theorem BP:∀(l acc:List Nat),TL.CY [32] 0 acc l=glue acc (dj 32 l)
 |[],acc=>by rw[TL.DC];show[acc]=[acc++[]];rw[dM]
 |c::r,acc=>by
  have hp:TL.pre [32] (c::r)=decide (c=32):=by
   unfold TL.pre;show([c]==[32])=_;by_cases h:c=32
   ·subst h;rfl
   ·rw[decide_eq_false h];simpa using h
  conv=>rhs;unfold dj
  by_cases h:c=32
  ·rw[TL.PV (by rw[hp];exact decide_eq_true h),if_pos h];show acc::TL.CY [32] 0 [] r=(acc++[])::dj 32 r;rw[BP r,dM];have k9:=ki 32 r
   cases q:dj 32 r with
   |nil=>exact absurd q k9
   |cons a s=>rfl
  ·rw[TL.KZ (by rw[hp];exact decide_eq_false h),if_neg h,BP r];have k9:=ki 32 r
   cases q:dj 32 r with
   |nil=>exact absurd q k9
   |cons a s=>simp[glue]
theorem LV(l:aH):(rJ (sN l) " ").map V.str=eU (dj 32 l):=by
 have h:=TL.Rq (sN l) " " (by decide+kernel) (TL.WK (by decide+kernel));rw[show TL.tl (aS " ")=[32] by decide+kernel,show TL.tl (sN l)=l from lZ l,BP] at h;have eg:glue [] (dj 32 l)=dj 32 l:=by
  cases q:dj 32 l with
  |nil=>exact absurd q (ki 32 l)
  |cons a s=>rfl
 rw[eg] at h;unfold eU;rw[<-h,aQ];apply dh;intro x _;show V.str x=V.str (sN (TL.tl x));rw[show sN (TL.tl x)=x from TL.acN x]
theorem OG:∀l:List Nat,xf (aS "") (l.map λb=>sN [sg b])=sN (iI l):=λl=>by
 rw[TL.join_eq];apply TL.vG;rw[TL.Ac];show TL.qD (TL.tl (aS "")) _=iI l;rw[show TL.tl (aS "")=[] by decide+kernel]
 induction l with
 |nil=>rfl
 |cons a r ih=>
  cases r with
  |nil=>rfl
  |cons b r=>show[sg a]++([]++TL.qD [] (xg TL.tl (xg (λb=>sN [sg b]) (b::r))))=_;rw[ih];rfl
theorem CD{l:aH}:(V.str (sN l)=V.str (aS ""))↔l=[]:=by
 constructor
 ·intro h;injection h with h
  have:sN l=sN []:=h.trans (by decide+kernel);exact wH this
 ·intro h;subst h;exact congrArg V.str (by decide+kernel)
theorem LW(T:Txt K mg A):Def P w K mg base "words_of" 2 ["line"] (LU (K:=K)):=by
 refine T.Av.words_of.g8 mm (λf _ A' _ s H vs Q E hr=>ke ?_)
 ·rintro a l rfl hS hl k;have adb:l.length<=aA:=ao hl (by decide);refine ag (ax (cg (i:=1) mm.nd rfl fz (Ep fb (ia rfl (own:=[("byte",2)]) mm.nd (dI (pv 0)) (cR (by kernel_rfl)) (λ_ _ _ _ _=>(bU (i:=2) mm.nd rfl fz)) (λ_ _ _ _ _=>eQ) (λ_ _ _ _ _=>(bF (OC T) hr.mono rfl (aI (pv 2) aq)))))) (aG (aY (ia rfl (own:=[("word",3)]) mm.nd (dI (T6 (pv 1) fb)) (cR (by kernel_rfl)) (λ_ _ _ _ _=>(bU (i:=3) mm.nd rfl fz)) (λ_ _ _ _ _=>(tq (cF DQ (pv 3) fb (cC _)))) (λ_ _ _ _ _=>(pv 3)))))) ?_;refine⟨⟨_,rfl⟩,Ql (J:=V0 K a) (n:=l.length) (H:=H) (λR h=>ag rfl (bP a rfl ⟨_,hS⟩ h)) (f:=λi=>.str (sN [sg (l.getD i 0)])) adb ?_ ?_ (λi x H' ou R hi k' y hR=>?_) (λD H' hD hs he=>?_)⟩
  ·have:=uc (K:=K) (xs:=gZ l) hS;rw[eI] at this;exact this
  ·have:=nQ (K:=K) (xs:=gZ l) hS;rw[eI] at this;exact this
  ·obtain⟨rfl,y⟩:=y;obtain⟨n,hn,rfl⟩:=lP (y _ (k'.seq hS));refine⟨rfl,ag rfl (bq n rfl ?_)⟩;have e:l.getD i 0=n:=by rw[cx,hn];rfl
   have:=hR ou (aT.refl _);rw[e] at this;exact this
  ·have rA:H' D=some (.lst ((l.map λb=>sN [sg b]).map V.str)):=by rw[he,aQ];refine congrArg (λz=>some (HO.lst z)) (jS l _ _ λi x hx=>?_);rw[cx,hx];rfl
   refine iD _ D (l.map λb=>sN [sg b]) rfl rfl (.inl (bG.of rA)) ?_ ?_
   ·rw[aQ];have:(xg ((λx=>x.length)∘λb=>sN [sg b]) l)=l.map λ_=>1:=dh λb _=>rfl;rw[this];have s1:(l.map λ_=>1).sum=l.length:=by
     clear hS hl adb k he rA this
     induction l with
     |nil=>rfl
     |cons a r ih=>simp[ih];omega
    rw[s1,show(aS "").length=0 by decide+kernel,Nat.mul_zero];omega
   ·rw[OG];have hp:(dj 32 (iI l)).length<=l.length+1:=by
     have:∀m:aH,(dj 32 m).length<=m.length+1:=by
      intro m
      induction m with
      |nil=>decide
      |cons c r ih=>
       unfold dj;split
       ·simp;omega
       ·have k9:=ki 32 r
        cases q:dj 32 r with
        |nil=>exact absurd q k9
        |cons a s=>rw[q] at ih;simp at ih⊢;omega
     have:=this (iI l);rw[nU] at this;exact this
    refine ck ?_;refine jh ?_;refine fC ?_;refine bP _ rfl ⟨_,rfl⟩ (dH _ _ rfl rfl (by decide+kernel) ⟨by rw[jm,nU];exact ao (by omega:l.length+2<=100002) (by decide),λS V5=>bP S rfl ⟨_,bG.of ai⟩ ?_⟩);refine l4 (l:=dj 32 (iI l)) (enc:=λl=>.str (sN l)) (f:=λl=>.str (sN l)) (p:=λl=>!l.isEmpty) (bG.of (by rw[ai,LV];rfl)) (ao hp (ao (by omega:l.length+1<=100001) (by decide)))
     (λi x H1 R S hx k' hR hS=>?_) (λD2 H2 CF Gg Xf=>?_)
    ·refine⟨rfl,bP _ rfl rfl (ag rfl (vX (λh1=>?_) (λh1=>?_)))⟩
     ·refine ag rfl (hR ?_ _ (aT.refl _));have:¬x=[]:=λe=>h1 (CD.mpr e)
      cases x with
      |nil=>exact absurd rfl this
      |cons _ _=>rfl
     ·have:x=[]:=CD.mp h1;subst this;exact hS rfl _ (aT.refl _)
    ·have s1:aT H H2:=(hs.trans (aD V5)).trans Gg;refine k D2 H2 (aT.free (hs.trans (aD V5)) CF) s1 ?_;rw[Xf,<-Uc];rfl
section
open Vbslai (value)
theorem Fg{α:Type}(l:List α)(p:α->Bool):(l.map p).all id=l.all p:=by rw[rO];rfl
def JH:Sp:=λvs H Q _=>∃(a:af)(ws:List aH),vs=[.ref a]/\bG K H a (eU ws)/\ws.length<=aA/\(∀l∈ws,l.length<=aA)/\∀H',aT H H'->Q (.bl (ws.all dU)) H'
theorem JI(T:Txt K mg A):Def P w K mg base "are_names" 2 ["words"] (JH (K:=K)):=by
 refine T.Av.RG.g8 tW (λf _ A' _ s H vs Q E hr=>ke ?_)
 ·rintro a ws rfl hS hl ⟨hw,k⟩;refine ag (aG (aY (cJ (vA rfl) (by rfl) T.b.Cz vW (aI (ia rfl (own:=[("word",1)]) tW.nd (dI (pv 0)) (cR (by kernel_rfl)) (λ_ _ _ _ _=>(bU (i:=1) tW.nd rfl fz)) (λ_ _ _ _ _=>eQ) (λ_ _ _ _ _=>(bF (zx T) hr.mono rfl (aI (pv 1) aq)))) aq)))) ?_;refine kK ?_;refine fC ?_;refine ag rfl (bP a rfl ⟨_,hS⟩ ?_);refine j5 (l:=ws) (enc:=λl=>.str (sN l)) (f:=λl=>.bl (dU l)) hS hl (λi x H' R hx k' hR=>?_) (λD H' hD hs he=>?_)
  ·exact⟨rfl,ag rfl (bP x rfl (hw x (aN hx)) (λH4 k4=>hR H4 k4))⟩
  ·refine bt D (ws.map dU) rfl (bG.of (by rw[he,aQ];rfl)) ?_;rw[Fg];exact k H' hs
def JJ:Sp:=λvs H Q _=>∃l:aH,vs=[.str (sN l)]/\l.length<=aA/\∀H',aT H H'->Q (.bl (isNum l)) H'
theorem str0:aS "0"=sN [48]:=by decide+kernel
theorem Qp:aS ""=sN []:=by decide+kernel
theorem Fh{a b:aH}:(V.str (sN a)=V.str (sN b))↔a=b:=⟨λh=>by injection h with h;exact wH h,λh=>by rw[h]⟩
theorem JK(T:Txt K mg A):Def P w K mg base "is_number" 1 ["word"] JJ:=by
 refine T.Av.RH.g8 tX (λf _ A' _ s H vs Q E hr=>cH ?_)
 ·rintro l rfl hl k;have eX:∀b H',aT H H'->isNum l=b->Q (.bl b) H':=λb H' h1 h2=>by rw[<-h2];exact k H' h1
  refine ag (ax (du (PW.pt (rT (cF jz (pv 0) fb (cC _)) (oK (gI (fY (cJ (vA rfl) (by rfl) T.b.Cz vW (aI (ia rfl (own:=[("sign",1)]) tX.nd (NL (pv 0)) (cR (by kernel_rfl)) (λ_ _ _ _ _=>(bU (i:=1) tX.nd rfl fz)) (λ_ _ _ _ _=>eQ) (λ_ _ _ _ _=>(je D7 (pv 1) (cY T.k.UD rfl) rfl))) aq))))))) (aG (aY kf)) bS) (aG (aY (ab8 (je jz (pv 0) fb (cC _)) (pL (je DQ (eN NF (pv 0) bB (λ_ _=>rfl)) fb (cC _))))))) ?_;refine bP _ rfl rfl (ag rfl (fG (λh1=>?_) (λh1=>?_)))
  ·
   refine kW ?_;refine eX false H (aT.refl _) ?_;rw[Qp] at h1;have:l=[]:=Fh.mp h1;subst this;rfl
  ·have k9:¬l=[]:=λe=>h1 (by rw[Qp];exact Fh.mpr e);refine kK ?_;refine Ql (J:=Its (sN l)) (n:=l.length) (λR h=>ag rfl (ag rfl h)) (f:=λi=>.bl (eP (l.getD i 0))) hl (λi H' hi _=>?_) (λH' _=>?_) (λi x H' ou R hi k' y hR=>?_) (λD H' hD hs he=>?_)
   ·show i<(sN l).cps.size;rw[xu];exact hi
   ·show(sN l).cps.size<=l.length;rw[xu];exact aK _
   ·obtain⟨rfl,c,hc,rfl⟩:=y;refine⟨rfl,ag rfl (bt _ _ rfl rfl ?_)⟩;have e:l.getD i 0=c:=by rw[cx,OD hc];rfl
    have:=hR ou (aT.refl _);rw[e] at this;rw[OE];exact this
   ·refine bt D ((b9 l.length).map (λi=>eP (l.getD i 0))) rfl (bG.of (by rw[he,aQ];rfl)) (ag rfl ?_);rw[Qo];refine kQ (λhd=>?_) (λhd=>?_)
    ·refine eX false H' hs ?_;unfold isNum;rw[hd];simp
    ·refine bP _ rfl rfl (ag rfl (fG (λh2=>?_) (λh2=>?_)))
     ·refine eX true H' hs ?_;rw[str0] at h2;have:l=[48]:=Fh.mp h2;subst this;rfl
     ·have h48:¬l=[48]:=λe=>h2 (by rw[str0];exact Fh.mpr e)
      cases l with
      |nil=>exact absurd rfl k9
      |cons c r=>
       refine ag rfl (iD _ _ c rfl rfl (by rw[jm];exact hl) (show Rf (sN (c::r)).cps.toList ((0:Nat):Int)=some c from cN (by rw[lZ];rfl)) ⟨rfl,?_⟩);refine eX _ H' hs ?_;unfold isNum;rw[hd];have e1:(c::r==[48])=false:=by simpa using h48
       rw[e1];have e2:decide (V.str {cps:=#[c]}=V.str (aS "0"))=decide (c=48):=by
        rw[str0];by_cases z:c=48
        ·subst z;rfl
        ·rw[decide_eq_false z,decide_eq_false λq=>z ?_];have:=Fh.mp (show V.str (sN [c])=V.str (sN [48]) from q);simpa using this
       rw[e2];by_cases z:c=48
       ·subst z;simp
       ·simp[z]
def xS:Sp:=λvs H Q _=>∃(l:aH)(lo hi:Nat),vs=[.str (sN l),.int (lo:Nat),.int (hi:Nat)]/\l.length<=aA/\∀H',aT H H'->Q (.bl (fA lo hi l)) H'
theorem Fi:∀(l:aH)(n:Nat),l.foldl (λacc c=>acc*10+(c-48)) n=l.foldl (λn c=>10*n+(c-48)) n
 |[],n=>rfl
 |a::l,n=>by rw[bL,bL,Fi l,Su]
theorem Fj{l:aH}(hd:l.all eP=true)(k9:l≠[])(h7:l.length<=7):aet (sN l)=some ((value l:Nat):Int):=by have e:=PySem.intText_digits (x:=sN l) (by rw[lZ];intro c hc;have:=cj.mp hd c hc;unfold eP at this;simpa using this) (by rw[lZ];exact k9) (by rw[jm];omega);rw[lZ] at e;rw[e];unfold NumText.digitsVal value;rw[Fi]
theorem xT(T:Txt K mg A):Def P w K mg base "is_number_within" 2 ["word","least","most"] xS:=by
 refine T.Av.BF.g8 xQ (λf _ A' _ s H vs Q E hr=>jT ?_)
 ·rintro l lo hi rfl hl k;have eX:∀b H',aT H H'->fA lo hi l=b->Q (.bl b) H':=λb H' h1 h2=>by rw[<-h2];exact k H' h1
  refine ag (aG (aY (mx (bF (JK T) hr.mono rfl (aI (pv 0) aq)) (mx (je iH (cJ tp (by rfl) T.b.dS cP (aI (pv 0) aq)) (cY T.k.ET rfl) (cC _)) (pL (kg iH iH (pv 1) (sd tD (by rfl) T.b.UE NW (aI (pv 0) aq)) (pv 2))))))) ?_;refine ag rfl (bP l rfl hl (λH1 s1=>ag rfl (Es (λh1=>?_) (λh1=>?_))))
  ·refine ag rfl (bP _ rfl (by rw[jm];exact hl) (bt _ _ rfl rfl (ag rfl (fG (λh2=>?_) (λh2=>?_)))))
   ·rw[jm] at h2;have h7:l.length<=7:=by have:(l.length:Int)<=7:=h2;omega
    have hd:l.all eP=true/\l≠[]:=by unfold isNum at h1;simp only[aL,jv,Nl] at h1;exact⟨h1.2.1,h1.1⟩
    refine ag rfl (ag rfl (dH _ _ rfl (Fj hd.1 hd.2 h7) (by rw[jm];omega) (bt _ _ rfl rfl (ag rfl (fG (λh3=>ag rfl (bt _ _ rfl rfl (eX _ H1 s1 ?_))) (λh3=>eX _ H1 s1 ?_))))))
    ·unfold fA;rw[h1];have h3:lo<=value l:=by omega
     simp[h7,h3]
    ·unfold fA;have h3:¬lo<=value l:=by omega
     simp[h3]
   ·refine eX _ H1 s1 ?_;rw[jm] at h2;have h7:¬l.length<=7:=by have:¬(l.length:Int)<=7:=h2;omega
    unfold fA;simp[h7]
  ·refine eX _ H1 s1 ?_;unfold fA;rw[h1];rfl
def vc:Sp:=λvs H Q _=>∃(a:af)(ws:List aH)(lo hi:Nat),vs=[.ref a,.int (lo:Nat),.int (hi:Nat)]/\bG K H a (eU ws)/\ws.length<=aA/\(∀l∈ws,l.length<=aA)/\∀H',aT H H'->Q (.bl (ws.all (fA lo hi))) H'
theorem nE(T:Txt K mg A):Def P w K mg base "are_numbers_within" 3 ["words","least","most"] (vc (K:=K)):=by
 refine T.Av.zi.g8 jX (λf _ A' _ s H vs Q E hr=>ip ?_)
 ·rintro a ws lo hi rfl hS hl ⟨hw,k⟩;refine ag (aG (aY (cJ (vA rfl) (by rfl) T.b.Cz vW (aI (ia rfl (own:=[("word",3)]) jX.nd (dI (pv 0)) (cR (by kernel_rfl)) (λ_ _ _ _ _=>(bU (i:=3) jX.nd rfl fz)) (λ_ _ _ _ _=>eQ) (λ_ _ _ _ _=>(bF (xT T) hr.mono rfl (aI (pv 3) (aI (pv 1) (aI (pv 2) aq)))))) aq)))) ?_;refine kK ?_;refine fC ?_;refine ag rfl (bP a rfl ⟨_,hS⟩ ?_);refine j5 (l:=ws) (enc:=λl=>.str (sN l)) (f:=λl=>.bl (fA lo hi l)) hS hl (λi x H' R hx k' hR=>?_) (λD H' hD hs he=>?_)
  ·exact⟨rfl,ag rfl (ag rfl (ag rfl (jK x lo hi rfl (hw x (aN hx)) (λH4 k4=>hR H4 k4))))⟩
  ·refine bt D (ws.map (fA lo hi)) rfl (bG.of (by rw[he,aQ];rfl)) ?_;rw[Fg];exact k H' hs
end
section
open Vbslai (digits)
theorem BQ{f:Str}{v:V}{k N:Nat}:∀{fs:List (Str×V)},fs.length+(k+1)<=N->(d6 f v fs).length+k<=N
 |[],h=>by show 1+k<=N;simp at h;omega
 |(g,x)::r,h=>by
  unfold d6;split
  ·simp at h⊢;omega
  ·have:=BQ (f:=f) (v:=v) (k:=k+1) (N:=N) (fs:=r) (by simp at h;omega);simp;omega
theorem LX{f:Str}{v:V}:(d6 f v []).length<1000:=by show 1<1000;decide
theorem put2{f g:Str}{v w:V}:(d6 g w (d6 f v [])).length<1000:=BQ (k:=1) (N:=1000) (BQ (k:=2) (N:=1000) (fs:=[]) (by decide))
theorem put3{f g h:Str}{v w x:V}:(d6 h x (d6 g w (d6 f v []))).length<1000:=BQ (k:=1) (N:=1000) (BQ (k:=2) (N:=1000) (BQ (k:=3) (N:=1000) (fs:=[]) (by decide)))
theorem Qq(n:Nat):TL.WL n=digits n:=by unfold TL.WL digits;show _=xg (λc=>c.toNat) (Nat.repr n).toList;unfold Nat.repr;simp
theorem AE(n:Nat):aS (mr ((n:Nat):Int))=sN (digits n):=by apply TL.vG;rw[TL.T3,Qq];exact(lZ _).symm
theorem sI{n:Nat}(h:n<=1000000):((n:Nat):Int).natAbs.log2<1920:=by
 show n.log2<1920;by_cases e:n=0
 ·subst e;decide
 ·have:n.log2<20:=(Nat.log2_lt e).mpr (b0 h (by decide));omega
theorem jG{n k:Nat}(hk:0<k)(h:n<10^k):(digits n).length<=k:=by rw[<-Qq];exact TL.T4 hk h
def LY(A:Cl):Sp:=λvs H Q _=>∃(p dx l:af)(t:V),vs=[.ref p,t,.ref l]/\H p=some (.ins A.num dx [])/\
 ∀(m:af)(H':Hp),H m=none->H' p=some (.ins A.num dx (oW t (.ref l) (.ref m)))->H' m=some (.lst [])->(∀b o,H b=some o->b≠p->H' b=some o)->Q .h9 H'
theorem LZ(T:Txt K mg A):C0 P w K mg base "NumbersColumn" A.num 1 ["self","title","steps"] (LY A):=by
 refine T.num.init.g8 LB (λf _ A' _ s H vs Q E hr=>xE ?_)
 ·rintro p dx l t ⟨rfl,hp,k⟩;refine ag (ax (d9 (pv 0) (pv 1) rfl) (ax (d9 (pv 0) (pv 2) rfl) (aG (d9 (pv 0) (bZ aq) rfl)))) ?_;refine ag rfl (ag rfl (sJ hp T.num.cl T.num.tS (by decide) (ag rfl (ag rfl (sJ ai T.num.cl T.num.DH LX ⟨bE _,λm hm=>?_⟩)))));have V6:p≠m:=aR ai hm;refine ag rfl (sJ (by rw[ay V6,ai]) T.num.cl T.num.pd put2 ?_);have JL:H m=none:=by rw[ay V6.symm,ay V6.symm] at hm;exact hm
  refine k m _ JL ?_ ?_ λb o e hb=>?_
  ·rw[ai,Ol]
  ·rw[ay V6.symm,ai]
  ·rw[ay hb,ay (aR e JL),ay hb,ay hb];exact e
def sL(A:Cl):Sp:=λvs H Q _=>∃a,vs=[.ref a]/\Q (.bl true) H
theorem BR(T:Txt K mg A):i5 P w K mg base A.num "is_filled" 1 ["self"] (sL A):=by
 refine T.num.zg.g8 BJ (λf _ A' _ s H vs Q E hr=>?_)
 ·rintro⟨a,rfl,k⟩;exact ag (aG (aY kf)) k
def qf(A:Cl):Sp:=λvs H Q _=>∃a n s c,vs=[.ref a]/\yC A H a n s c/\Q (.int ((s.length+2:Nat):Int)) H
theorem l5(T:Txt K mg A):i5 P w K mg base A.num "level_count" 1 ["self"] (qf A):=by
 refine T.num.tT.g8 zq (λf _ A' _ s H vs Q E hr=>xE ?_)
 ·rintro a n s' c ⟨rfl,⟨dx,l,m,h1,h2,h3⟩,k⟩;refine ag (aG (aY (fo pN (cJ bx (by rfl) T.b.dS cP (aI (bo (pv 0) rfl) aq)) bB))) ?_;refine fI h1 T.num.cl T.num.DH wt (bt l _ rfl (.inl (bG.of h2)) (bt _ _ rfl rfl ?_));rw[eI];exact k
def JM(A:Cl):Sp:=λvs H Q _=>∃a c,vs=[.ref a,.int c]/\Q (.bl (cK c 0 1000000)) H
theorem JN(T:Txt K mg A):i5 P w K mg base A.num "holds" 1 ["self","cell"] (JM A):=by
 refine T.num.NX.g8 Jx (λf _ A' _ s H vs Q E hr=>jk ?_)
 ·rintro a c rfl k;have eX:∀b,cK c 0 1000000=b->Q (.bl b) H:=λb h2=>by rw[<-h2];exact k
  refine ag (aG (aY (kg iH iH bB (pv 1) (cY T.k.C4 rfl)))) ?_;refine ag rfl (bt _ _ rfl rfl (ag rfl (fG (λh1=>bt _ _ rfl rfl (eX _ ?_)) (λh1=>eX _ ?_))))
  ·unfold cK;rw[decide_eq_true h1];rfl
  ·unfold cK;rw[decide_eq_false h1];rfl
def Qr(s:List Nat):Prop:=∀x∈s,2<=x/\x<=1000000
def L3(A:Cl):Sp:=λvs H Q _=>∃(a:af)(n:aH)(s c:List Nat)(cell level:Nat),vs=[.ref a,.int (cell:Nat),.int (level:Nat)]/\yC A H a n s c/\Qr s/\cell<=1000000/\level<s.length+2/\
 Q (.str (sN (kF (.numbers s) level cell))) H
theorem Qs:aS "*"=sN Vbslai.STAR:=by decide+kernel
theorem L4(T:Txt K mg A):i5 P w K mg base A.num "look" 2 ["self","cell","level"] (L3 A):=by
 refine T.num.Ux.g8 CB (λf _ A' _ s H vs Q E hr=>nJ ?_)
 ·rintro a n st c cell level ⟨rfl,N0,gC,mf,L5,k⟩;refine jT ?_ (id N0);rintro dx l m h1 h2 h3;have eX:∀b,kF (.numbers st) level cell=b->Q (.str (sN b)) H:=λb h2=>by rw[<-h2];exact k
  refine ag (ax (du (cF jz (pv 2) (fo vv (dv (pv 0) T.num.cl (l5 T) hr.mono) bB) (cC _)) (aG (aY (cY T.k.ES rfl))) bS) (ax (du (cF jz (pv 2) bB (cC _)) (aG (aY (sd mz (by rfl) T.b.Lv Er (aI (pv 1) aq)))) bS) (ax (cg (i:=3) CB.nd rfl fz (eN cU (bo (pv 0) rfl) (fo vv (pv 2) bB) (λ_ _=>rfl))) (aG (aY (sd mz (by rfl) T.b.Lv Er (aI (fo Y1 (fo Wr (pv 1) (pv 3)) (pv 3)) aq))))))) ?_;refine ag rfl (mI h1 km (DM a n st c ⟨rfl,N0,dH _ _ rfl rfl rfl (ag rfl (fG (λe1=>?_) (λe1=>?_)))⟩))
  ·have e:level=st.length+1:=by injection e1 with e1;omega
   show Q (.str (aS "*")) H;rw[Qs];refine eX _ ?_;unfold kF;dsimp only;rw[if_pos (by omega)]
  ·have e:¬level=st.length+1:=λe=>e1 (by rw[e];refine congrArg V.int ?_;omega);have Z6:kF (.numbers st) level cell=if level=0 then digits cell else digits (cell/st.getD (level-1) 1*st.getD (level-1) 1):=by unfold kF;dsimp only;rw[if_neg (by omega)]
   refine bP _ rfl rfl (ag rfl (fG (λe2=>?_) (λe2=>?_)))
   ·have e0:level=0:=by injection e2 with e2;omega
    refine ag rfl (bP _ rfl (sI mf) ?_);show Q (.str (aS (mr ((cell:Nat):Int)))) H;rw[AE];refine eX _ ?_;rw[Z6,if_pos e0]
   ·have e0:¬level=0:=λe=>e2 (by rw[e];rfl);obtain⟨j,hj⟩:∃j,level=j+1:=⟨level-1,by omega⟩;subst hj;have hjl:j<st.length:=by omega
    have LL:(gZ st)[j]? =some (.int ((st[j]:Nat):Int)):=by unfold gZ;rw[aV,aw hjl];rfl
    have hb:=gC st[j] (Hu hjl);refine fI h1 T.num.cl T.num.DH wt (ag rfl (bt _ _ rfl rfl (iE l _ _ _ rfl rfl (bG.of h2) (at_of (j:=j) (by omega) LL) ?_)));refine ag rfl (ag rfl (dH _ _ rfl rfl ⟨by omega,by omega⟩ (ag rfl (dH _ _ rfl rfl (.inr ⟨by omega,by omega⟩) ?_))));have ev:((cell:Nat):Int)/((st[j]:Nat):Int)*((st[j]:Nat):Int)=((cell/st[j]*st[j]:Nat):Int):=by rw[Int.natCast_mul,Int.natCast_ediv]
    have hle:cell/st[j]*st[j]<=1000000:=ao (Wg _ _) mf;refine bP _ rfl ?_ ?_
    ·rw[ev];exact sI hle
    ·show Q (.str (aS (mr (((cell:Nat):Int)/((st[j]:Nat):Int)*((st[j]:Nat):Int))))) H;rw[ev,AE];refine eX _ ?_;rw[Z6,if_neg (by omega)];have:st.getD (j+1-1) 1=st[j]:=by show st.getD j 1=_;rw[cx,aw hjl];rfl
     rw[this]
end
section
open Vbslai (digits spaced)
theorem AF:∀ls:List aH,TL.qD [32] ls=spaced ls
 |[]=>rfl
 |[w]=>rfl
 |w::v::l=>by show w++([32]++TL.qD [32] (v::l))=w++(32::spaced (v::l));rw[AF (v::l)];rfl
theorem BS(ls:List aH):(ls.map sN).map TL.tl=ls:=by
 rw[aQ];have:(TL.tl∘sN)=id:=by funext l;exact lZ l
 rw[this,Bh]
theorem rh(ls:List aH):xf (aS " ") (ls.map sN)=sN (spaced ls):=by rw[TL.join_eq];apply TL.vG;rw[TL.Ac,show TL.tl (aS " ")=[32] by decide+kernel,BS,AF];exact(lZ _).symm
theorem JO(ls:List aH):eU ls=(ls.map sN).map V.str:=by unfold eU;rw[aQ];rfl
theorem UY{B:Nat}:∀(ls:List aH),(∀l∈ls,l.length<=B)->((ls.map sN).map (·.length)).sum<=ls.length*B
 |[],_=>bE _
 |a::l,h=>by have ih:=UY l λx hx=>h x (.tail _ hx);have h1:=h a (.head _);rw[br,br,CU,jm,aW,Sv];omega
theorem pH{B N:Nat}{ls:List aH}{a:Str}(h:∀l∈ls,l.length<=B)(hn:ls.length<=N)(hb:N*(B+a.length)<=16777216):((ls.map sN).map (·.length)).sum+(ls.map sN).length*a.length<=16777216:=by have h1:=UY ls h;rw[aa];have h2:ls.length*B+ls.length*a.length=ls.length*(B+a.length):=(Nat.mul_add _ _ _).symm;have h3:ls.length*(B+a.length)<=N*(B+a.length):=eD _ hn;omega
theorem zz(a b:aH):sN a++sN b=sN (a++b):=by apply TL.vG;rw[TL.Bz];show _=TL.tl (sN (a++b));rw[show TL.tl (sN a)=a from lZ a,show TL.tl (sN b)=b from lZ b,show TL.tl (sN (a++b))=a++b from lZ _]
def ow(A:Cl):Sp:=λvs H Q _=>∃(a:af)(n:aH)(s c:List Nat),vs=[.ref a]/\yC A H a n s c/\Qr s/\s.length<=2/\n.length<=10/\
 ∀D H',H D=none->aT H H'->H' D=some (.lst (eU [spaced (df "numbers"::n::s.map digits)]))->Q (.ref D) H'
theorem wK(T:Txt K mg A):i5 P w K mg base A.num "opening_lines" 1 ["self"] (ow A):=by
 refine T.num.p6.g8 kC (λf _ A' _ s H vs Q E hr=>u1 ?_)
 ·rintro a n st c rfl ⟨dx,l,m,h1,h2,h3⟩ gC Gg hn k;refine ag (aG (aY (bZ (aI (Ep fb (fo jU (bZ (aI fb (aI (bo (pv 0) rfl) aq))) (ia rfl (own:=[("step",1)]) kC.nd (dI (bo (pv 0) rfl)) (cR (by kernel_rfl)) (λ_ _ _ _ _=>(bU (i:=1) kC.nd rfl fz)) (λ_ _ _ _ _=>eQ) (λ_ _ _ _ _=>(sd mz (by rfl) T.b.Lv Er (aI (pv 1) aq)))))) aq)))) ?_;refine⟨⟨_,rfl⟩,fI h1 T.num.cl T.num.tS wq ⟨(by show 2<=aA;decide),λp hp=>?_⟩⟩;have zY:(upd H p (.lst [.str (aS "numbers"),.str (sN n)])) l=some (.lst (gZ st)):=aD hp _ _ h2;have ha1:(upd H p (.lst [.str (aS "numbers"),.str (sN n)])) a=some (.ins A.num dx (oW (.str (sN n)) (.ref l) (.ref m))):=aD hp _ _ h1;refine fC ?_;refine fI ha1 T.num.cl T.num.DH wt (bP l rfl ⟨_,bG.of zY⟩ ?_);refine j5 (l:=st) (enc:=λ(x:Nat)=>.int (x:Int)) (f:=λx=>.str (sN (digits x))) (bG.of zY) (ao Gg (by decide)) (λi x H' R hx k' hR=>?_) (λD H' hD hs he=>?_)
  ·refine⟨rfl,ag rfl (bP _ rfl (sI (gC x (aN hx)).2) ?_)⟩;show R (.str (aS (mr ((x:Nat):Int)))) H';rw[AE];exact hR H' (aT.refl _)
  ·have s1:aT H H':=(aD hp).trans hs;have Ii:H' p=some (.lst [.str (aS "numbers"),.str (sN n)]):=hs _ _ ai;refine gB p D _ _ rfl rfl Ii he ?_ (λq hq=>?_)
   ·rw[aa];show 2+st.length<=aA;exact ao (by omega:2+st.length<=4) (by decide)
   ·have e:[V.str (aS "numbers"),V.str (sN n)]++st.map (λx=>V.str (sN (digits x)))=((df "numbers"::n::st.map digits).map sN).map V.str:=by rw[br,br,br,br,aQ,aQ];show V.str (aS "numbers")::V.str (sN n)::_=V.str (sN (df "numbers"))::V.str (sN n)::_;rw[show aS "numbers"=sN (df "numbers") by decide+kernel];rfl
    rw[e];refine iD _ q _ rfl rfl (.inl (bG.of ai)) (pH (B:=10) (N:=4) ?_ ?_ (by decide+kernel)) ?_
    ·intro x hx;rcases aB.mp hx with z|z
     ·rw[z];decide
     ·rcases aB.mp z with z|z
      ·rw[z];exact hn
      ·obtain⟨y,hy,rfl⟩:=au.mp z;exact ao (jG (k:=7) (by decide) (by have:=(gC y hy).2;omega)) (by decide)
    ·simp;omega
    ·rw[rh];refine⟨by show 1<=aA;decide,λD2 CF=>k D2 _ ?_ ((s1.trans (aD hq)).trans (aD CF)) ai⟩;exact(s1.trans (aD hq)).free CF
def L6(A:Cl):Sp:=λvs H Q _=>∃(p dx:af)(t:V),vs=[.ref p,t]/\H p=some (.ins A.fL dx [])/\
 ∀(l m:af)(H':Hp),H l=none->H m=none->l≠m->H' p=some (.ins A.fL dx (ko t (.ref l) (.int 0) (.ref m)))->H' l=some (.lst [])->H' m=some (.lst [])->(∀b o,H b=some o->b≠p->H' b=some o)->Q .h9 H'
theorem L7(T:Txt K mg A):C0 P w K mg base "WordsColumn" A.fL 1 ["self","title"] (L6 A):=by
 refine T.fL.init.g8 LC (λf _ A' _ s H vs Q E hr=>jT ?_)
 ·rintro p dx t rfl hp k;refine ag (ax (d9 (pv 0) (pv 1) rfl) (ax (d9 (pv 0) (bZ aq) rfl) (ax (d9 (pv 0) bB rfl) (aG (d9 (pv 0) (bZ aq) rfl))))) ?_;refine ag rfl (ag rfl (sJ hp T.fL.cl T.fL.tS (by decide) ⟨bE _,λl hl=>?_⟩));have npl:p≠l:=aR ai hl;have Xg:H l=none:=by rw[ay npl.symm] at hl;exact hl
  refine ag rfl (sJ (by rw[ay npl,ai]) T.fL.cl T.fL.oa LX ?_);refine ag rfl (sJ ai T.fL.cl T.fL.lM put2 ⟨bE _,λm hm=>?_⟩);have V6:p≠m:=aR ai hm;have hm1:(upd (upd H p (.ins A.fL dx (d6 "title" t []))) l (.lst [])) m=none:=by rw[ay V6.symm,ay V6.symm] at hm;exact hm
  have nlm:l≠m:=aR ai hm1;have JL:H m=none:=by rw[ay nlm.symm,ay V6.symm] at hm1;exact hm1
  refine ag rfl (sJ (by rw[ay V6,ai]) T.fL.cl T.fL.pd put3 ?_);refine k l m _ Xg JL nlm ?_ ?_ ?_ λb o e hb=>?_
  ·rw[ai,Om]
  ·rw[ay npl.symm,ay nlm,ay npl.symm,ay npl.symm,ai]
  ·rw[ay V6.symm,ai]
  ·rw[ay hb,ay (aR e JL),ay hb,ay hb,ay (aR e Xg),ay hb];exact e
def uR(A:Cl):Sp:=λvs H Q _=>∃(a dx l m ab:af)(as:List af)(t:V)(n:aH)(av:List aH)(lg:Nat),vs=[.ref a,.str (sN n),.ref ab]/\H a=some (.ins A.fL dx (ko t (.ref l) (.int (lg:Nat)) (.ref m)))/\H l=some (.lst (iZ as))/\H ab=some (.lst (eU av))/\av.length<=100/\as.length<=100/\
 ∀(N:af)(H':Hp),H N=none->H' N=some (.lst (eU (n::av)))->H' l=some (.lst (iZ (as++[N])))->H' a=some (.ins A.fL dx (ko t (.ref l) (.int ((max lg (av.length+1):Nat):Int)) (.ref m)))->(∀b o,H b=some o->b≠a->b≠l->H' b=some o)->Q .h9 H'
theorem C7(T:Txt K mg A):i5 P w K mg base A.fL "add_word" 1 ["self","word","above"] (uR A):=by
 refine T.fL.RC.g8 uM (λf _ A' _ s H vs Q E hr=>Pw ?_)
 ·rintro a dx l m ab as t n av lg ⟨rfl,h1,h2,h3,hav,has,k⟩;have nal:a≠l:=gH h1 h2 (by intro q;cases q);refine ag (ax (cg (i:=3) uM.nd rfl fz (fo jU (bZ (aI (pv 1) aq)) (pv 2))) (ax (iR (oS bT cV cW jl (bo (pv 0) rfl) (aI (pv 3) aq))) (aG (d9 (pv 0) (cJ (Bq rfl) (by rfl) T.b.UH NV (aI (bo (pv 0) rfl) (aI (cJ bx (by rfl) T.b.dS cP (aI (pv 3) aq)) aq))) rfl)))) ?_;refine bP _ rfl (by show 1<=aA;decide) (λp hp=>?_);refine ag rfl (gB p ab _ _ rfl rfl ai (aD hp _ _ h3) ?_ (λN hN=>?_))
  ·rw[eG];show 1+av.length<=aA;exact ao (by omega:1+av.length<=101) (by decide)
  ·have s1:aT H (upd (upd H p (.lst [.str (sN n)])) N (.lst ([.str (sN n)]++eU av))):=(aD hp).trans (aD hN);have Xh:H N=none:=(aD hp).free hN;have nNl:N≠l:=λe=>by rw[e,h2] at Xh;cases Xh
   have nNa:N≠a:=λe=>by rw[e,h1] at Xh;cases Xh
   have npl:p≠l:=λe=>by rw[e,h2] at hp;cases hp
   have npa:p≠a:=λe=>by rw[e,h1] at hp;cases hp
   have ha1:=s1 _ _ h1;have zY:=s1 _ _ h2;refine fI ha1 T.fL.cl T.fL.oa jD ⟨.inl ⟨rfl,_,bG.of zY⟩,ag rfl (iD l _ _ rfl rfl zY ?_ ?_)⟩
   ·rw[cu];exact b0 has (by decide)
   ·have ha2:(upd (upd (upd H p (.lst [.str (sN n)])) N (.lst ([.str (sN n)]++eU av))) l (.lst (iZ as++[.ref N]))) a=some (.ins A.fL dx (ko t (.ref l) (.int (lg:Nat)) (.ref m))):=by rw[ay nal];exact ha1
    refine fI ha2 T.fL.cl T.fL.lM oX (ag rfl (bt N _ rfl (.inl (bG.of (by rw[ay nNl,ai]))) (fu _ _ rfl (ag rfl (sJ ha2 T.fL.cl T.fL.lM (by show 4<1000;decide) ?_)))));refine k N _ Xh ?_ ?_ ?_ λb o e hb hbl=>?_
    ·rw[ay nNa,ay nNl,ai];rfl
    ·rw[ay nal.symm,ai,JG]
    ·rw[ai,sv];have:(if(([V.str (sN n)]++eU av).length:Int)>(lg:Int) then(([V.str (sN n)]++eU av).length:Int) else(lg:Int))=((max lg (av.length+1):Nat):Int):=by
      have el:([V.str (sN n)]++eU av).length=av.length+1:=by rw[aP,eG];show 1+_=_;omega
      rw[el];split<;>omega
     rw[this]
    ·rw[ay hb,ay hbl,ay (aR e Xh),ay (aR e hp)];exact e
end
section
open Vbslai (spaced height)
theorem Fl{up:Up}{i:Nat}{c:List aH}(h:(gk up)[i]? =some c):∃x,up[i]? =some x/\c=chainOf up x.1:=by
 unfold gk at h;rw[aV] at h
 cases e:up[i]? with
 |none=>rw[e] at h;cases h
 |some x=>rw[e] at h;exact bq x rfl ((aX h).symm)
def C8(A:Cl):Sp:=λvs H Q _=>∃(a:af)(n:aH)(up:Up)(c:List Nat)(wd:aH),vs=[.ref a,.str (sN wd)]/\qe A H a n up c/\
 (¬wd∈up.map (·.1)->Q .h9 H)/\(∀b,wd∈up.map (·.1)->rf H b (chainOf up wd)->Q (.ref b) H)
theorem uS(T:Txt K mg A):i5 P w K mg base A.fL "chain_of" 1 ["self","word"] (C8 A):=by
 refine T.fL.RD.g8 uN (λf _ A' _ s H vs Q E hr=>CV ?_)
 ·rintro a n up c wd ⟨rfl,⟨dx,l,m,as,h1,h2,h3,h4⟩,k1,k2⟩;have hlen:=Paired.len h3;have vk:(gk up).length=up.length:=aa ..;refine ag (ax (lU dE rfl (dI (bo (pv 0) rfl)) (bU (i:=2) uN.nd rfl fz) (aG (du (cF jz (eN cU (pv 2) bB (λ_ _=>rfl)) (pv 1) (cC _)) (aG (aY (pv 2))) bS))) (aG (aY lT))) ?_;refine fI h1 T.fL.cl T.fL.oa jD (bP l rfl ⟨_,bG.of h2⟩ (my (K:=K) (a:=l) (xs:=iZ as) (λi σ H'=>H'=H/\(∃v:Option V,σ=[some (.ref a),some (.str (sN wd)),v])/\∀j x,j<i->up[j]? =some x->¬x.1=wd) ⟨rfl,⟨none,rfl⟩,λj x hj=>absurd hj (Nat.not_lt_zero _)⟩ (λi σ H' _ p=>by rw[p.1];exact bG.of h2) ?_ ?_))
  ·rintro i x σ H' hi ⟨rfl,⟨v,rfl⟩,hno⟩;obtain⟨b,hb,rfl⟩:=kM hi;obtain⟨ch,Bi,Ij⟩:=Paired.wI h3 hb;obtain⟨x,hx,rfl⟩:=Fl Bi;have e0:(eU (chainOf up x.1))[0]? =some (.str (sN x.1)):=rfl;refine ag rfl (iE b _ _ _ rfl rfl (bG.of Ij) (cN (j:=0) e0) (bP _ rfl rfl (ag rfl (fG (λe1=>?_) (λe1=>?_)))))
   ·have e:x.1=wd:=Fh.mp e1;refine ag rfl ?_;rw[e] at Ij;exact k2 b (au.mpr (bq x (aN hx) e)) Ij
   ·have e:¬x.1=wd:=λq=>e1 (Fh.mpr q);refine⟨rfl,⟨_,rfl⟩,λj y hj hy=>?_⟩;by_cases hji:j=i
    ·subst hji;rw[hx] at hy;cases hy;exact e
    ·exact hno j y (by omega) hy
  ·rintro σ H' ⟨rfl,⟨v,rfl⟩,hno⟩;refine k1 λhm=>?_;obtain⟨x,hx,e⟩:=au.mp hm;obtain⟨j,hj,ej⟩:=jI hx;exact hno j x (by rw[cu,hlen,vk];exact hj) (by rw[aw hj,ej]) e
def sO(A:Cl):Sp:=λvs H Q _=>∃(a:af)(n:aH)(up:Up)(c:List Nat),vs=[.ref a]/\qe A H a n up c/\∀H',aT H H'->Q (.bl (!up.isEmpty)) H'
theorem BU(T:Txt K mg A):i5 P w K mg base A.fL "is_filled" 1 ["self"] (sO A):=by
 refine T.fL.zg.g8 BK (λf _ A' _ s H vs Q E hr=>xE ?_)
 ·rintro a n up c ⟨rfl,⟨dx,l,m,as,h1,h2,h3,h4⟩,k⟩;have hlen:=Paired.len h3;have vk:(gk up).length=up.length:=aa ..;refine ag (aG (aY (je (AB hr.Bt) (bo (pv 0) rfl) (bZ aq) (cC _)))) ?_;refine fI h1 T.fL.cl T.fL.oa jD ⟨bE _,λq hq=>iD l q _ rfl rfl (bG.of (aD hq _ _ h2)) (bG.of ai) ?_⟩;have e:decide (iZ as=[])=up.isEmpty:=by
   cases up with
   |nil=>have:as=[]:=gc.mp (by rw[hlen,vk];rfl);subst this;rfl
   |cons x r=>
    cases as with
    |nil=>simp at hlen;rw[vk] at hlen;simp at hlen
    |cons y s=>rfl
  rw[e];exact k _ (aD hq)
def qg(A:Cl):Sp:=λvs H Q _=>∃(a:af)(n:aH)(up:Up)(c:List Nat),vs=[.ref a]/\qe A H a n up c/\Q (.int ((longest (gk up)+1:Nat):Int)) H
theorem l6(T:Txt K mg A):i5 P w K mg base A.fL "level_count" 1 ["self"] (qg A):=by
 refine T.fL.tT.g8 zr (λf _ A' _ s H vs Q E hr=>xE ?_)
 ·rintro a n up c ⟨rfl,⟨dx,l,m,as,h1,h2,h3,h4⟩,k⟩;refine ag (aG (aY (fo pN (bo (pv 0) rfl) bB))) ?_;exact fI h1 T.fL.cl T.fL.lM oX (bt _ _ rfl rfl k)
def JP(A:Cl):Sp:=λvs H Q _=>∃(a:af)(n:aH)(up:Up)(c:List Nat)(v:Int),vs=[.ref a,.int v]/\qe A H a n up c/\Q (.bl (cK v 0 ((up.length:Int)-1))) H
theorem JQ(T:Txt K mg A):i5 P w K mg base A.fL "holds" 1 ["self","cell"] (JP A):=by
 refine T.fL.NX.g8 Jy (λf _ A' _ s H vs Q E hr=>CV ?_)
 ·rintro a n up c v ⟨rfl,⟨dx,l,m,as,h1,h2,h3,h4⟩,k⟩;have hlen:(iZ as).length=up.length:=by rw[cu,Paired.len h3];exact aa ..
  have eX:∀b,cK v 0 ((up.length:Int)-1)=b->Q (.bl b) H:=λb h2=>by rw[<-h2];exact k
  refine ag (aG (aY (kg iH DR bB (pv 1) (cJ bx (by rfl) T.b.dS cP (aI (bo (pv 0) rfl) aq))))) ?_;refine ag rfl (bt _ _ rfl rfl (ag rfl (fG (λe1=>fI h1 T.fL.cl T.fL.oa jD (bt l _ rfl (.inl (bG.of h2)) (bt _ _ rfl rfl (eX _ ?_)))) (λe1=>eX _ ?_))))
  ·rw[hlen];unfold cK;rw[decide_eq_true e1,m8];by_cases q:v<(up.length:Int)
   ·rw[decide_eq_true q,decide_eq_true (by omega)]
   ·rw[decide_eq_false q,decide_eq_false (by omega)]
  ·unfold cK;rw[decide_eq_false e1];rfl
def L8(A:Cl):Sp:=λvs H Q _=>∃(a:af)(n:aH)(up:Up)(c:List Nat)(cell level:Nat),vs=[.ref a,.int (cell:Nat),.int (level:Nat)]/\qe A H a n up c/\cell<up.length/\level<height up+2/\
 Q (.str (sN (kF (.words up) level cell))) H
theorem L9(T:Txt K mg A):i5 P w K mg base A.fL "look" 2 ["self","cell","level"] (L8 A):=by
 refine T.fL.Ux.g8 CC (λf _ A' _ s H vs Q E hr=>nJ ?_)
 ·rintro a n up c cell level ⟨rfl,W0,mf,L5,k⟩;refine ip ?_ (id W0);rintro dx l m as h1 h2 h3 h4;have k9:up≠[]:=λe=>by rw[e] at mf;simp at mf
  have hlg:=vP k9;have eX:∀b,kF (.words up) level cell=b->Q (.str (sN b)) H:=λb h2=>by rw[<-h2];exact k
  refine ag (ax (du (cF jz (pv 2) (fo vv (dv (pv 0) T.fL.cl (l6 T) hr.mono) bB) (cC _)) (aG (aY (cY T.k.ES rfl))) bS) (ax (cg (i:=3) CC.nd rfl fz (eN cU (bo (pv 0) rfl) (pv 1) (λ_ _=>rfl))) (aG (aY (eN cU (pv 3) (cJ (Q6 rfl) (by rfl) T.b.Yb Ut (aI (pv 2) (aI (fo vv (cJ bx (by rfl) T.b.dS cP (aI (pv 3) aq)) bB) aq))) (λ_ _=>rfl)))))) ?_;refine ag rfl (mI h1 kq (DM a n up c ⟨rfl,W0,dH _ _ rfl rfl rfl (ag rfl (fG (λe1=>?_) (λe1=>?_)))⟩))
  ·have e:level=height up+1:=by injection e1 with e1;omega
   show Q (.str (aS "*")) H;rw[Qs];refine eX _ ?_;unfold kF;dsimp only;rw[if_pos (by omega)]
  ·have e:¬level=height up+1:=λe=>e1 (by rw[e];refine congrArg V.int ?_;omega);have hx:up[cell]? =some up[cell]:=aw mf;have Bi:(gk up)[cell]? =some (chainOf up up[cell].1):=by unfold gk;rw[aV,hx];rfl
   obtain⟨b,hb,Ij⟩:=Paired.ac0 h3 Bi;have LL:(iZ as)[cell]? =some (.ref b):=by unfold iZ;rw[aV,hb];rfl
   refine fI h1 T.fL.cl T.fL.oa jD (ag rfl (iE l _ _ _ rfl rfl (bG.of h2) (cN LL) ?_));have vk:(chainOf up up[cell].1).length=(Ga up Gb up[cell].1).length+1:=rfl;obtain⟨t,ht⟩:∃t,(chainOf up up[cell].1)[min level (Ga up Gb up[cell].1).length]? =some t:=⟨_,aw (show min level (Ga up Gb up[cell].1).length<(chainOf up up[cell].1).length by rw[vk];omega)⟩;have agH:(if((eU (chainOf up up[cell].1)).length:Int)-1<(level:Int) then((eU (chainOf up up[cell].1)).length:Int)-1 else(level:Int))=((min level (Ga up Gb up[cell].1).length:Nat):Int):=by rw[eG,vk];split<;>omega
   refine ag rfl (ag rfl (ag rfl (bt b _ rfl (.inl (bG.of Ij)) (bt _ _ rfl rfl (fu _ _ rfl ?_)))));refine iE b _ _ (.str (sN t)) rfl rfl (bG.of Ij) ?_ ?_
   ·rw[agH];refine cN ?_;unfold eU;rw[aV,ht];rfl
   ·refine eX _ ?_;unfold kF;dsimp only;rw[if_neg (by omega),hx];dsimp only;show(chainOf up up[cell].1).getD _ _=t;rw[cx,ht];rfl
def rj(x:aH×Option aH):aH:=match x.2 with
 |some v=>spaced [df "word",x.1,df "of",v]
 |none=>spaced [df "word",x.1]
def ox(A:Cl):Sp:=λvs H Q _=>∃(a:af)(n:aH)(up:Up)(c:List Nat),vs=[.ref a]/\qe A H a n up c/\mE up/\n.length<=10/\
 ∀D H',H D=none->aT H H'->H' D=some (.lst (eU (spaced [df "words",n]::up.map rj)))->Q (.ref D) H'
theorem ue{up:Up}(ok:mE up){x:aH×Option aH}(hx:x∈up):(chainOf up x.1).take 2=match x.2 with|some v=>[x.1,v]|none=>[x.1]:=by
 unfold chainOf;rw[NR ok hx]
 cases x.2 with
 |none=>rfl
 |some v=>rfl
theorem Qt(s:String):aS s=sN (df s):=by apply TL.vG;rw[TL.KY];exact(lZ _).symm
theorem Xi(ls:List aH):xf (aS " of ") (ls.map sN)=sN (TL.qD [32,111,102,32] ls):=by rw[TL.join_eq];apply TL.vG;rw[TL.Ac,show TL.tl (aS " of ")=[32,111,102,32] by decide+kernel,BS];exact(lZ _).symm
theorem Ma{up:Up}(ok:mE up){x:aH×Option aH}(hx:x∈up):df "word "++TL.qD [32,111,102,32] ((chainOf up x.1).take 2)=rj x:=by
 rw[ue ok hx];unfold rj;have e1:df "word "=df "word"++[32]:=by decide
 have e2:([32,111,102,32]:List Nat)=32::(df "of"++[32]):=by decide
 cases x.2 with
 |none=>show df "word "++x.1=df "word"++(32::x.1);rw[e1,dw];rfl
 |some v=>show df "word "++(x.1++([32,111,102,32]++v))=df "word"++(32::(x.1++(32::(df "of"++(32::v)))));rw[e1,e2];simp
theorem wL(T:Txt K mg A):i5 P w K mg base A.fL "opening_lines" 1 ["self"] (ox A):=by
 refine T.fL.p6.g8 kD (λf _ A' _ s H vs Q E hr=>ip ?_)
 ·rintro a n up c rfl ⟨dx,l,m,as,h1,h2,h3,h4⟩ ok ⟨hn,k⟩;have hlen:=Paired.len h3;have vk:(gk up).length=up.length:=aa ..;have JR:as.length<=30:=by rw[hlen,vk];exact ok.le
  refine ag (aG (aY (fo jU (bZ (aI (fo yS fb (bo (pv 0) rfl)) aq)) (ia rfl (own:=[("chain",1)]) kD.nd (dI (bo (pv 0) rfl)) (cR (by kernel_rfl)) (λ_ _ _ _ _=>(bU (i:=1) kD.nd rfl fz)) (λ_ _ _ _ _=>eQ) (λ_ _ _ _ _=>(fo yS fb (ZN (K:=K) rfl fb (nZ (UM (K:=K) rfl) (pv 1) xh (nT bB))))))))) ?_;refine fI h1 T.fL.cl T.fL.tS wu (dH _ _ rfl rfl ?_ ⟨(by show 1<=aA;decide),λp hp=>?_⟩)
  ·rw[jm];exact ao (by show 6+n.length<=16;omega) (by decide)
  ·have ha1:=aD (o:=.lst [V.str (aS "words "++sN n)]) hp _ _ h1;have zY:=aD (o:=.lst [V.str (aS "words "++sN n)]) hp _ _ h2;have s1:=aD (o:=.lst [V.str (aS "words "++sN n)]) hp;refine fC ?_;refine fI ha1 T.fL.cl T.fL.oa jD (bP l rfl ⟨_,bG.of zY⟩ ?_);refine Fd (n:=as.length) (f:=λi=>.str (sN (((up[i]?).map rj).getD []))) (ao JR (by decide)) ?_ ?_ (λi x H' ou R hi k' y hR=>?_) (λD H' hD hs he=>?_)
   ·have:=uc (K:=K) (bG.of zY);rw[cu] at this;exact this
   ·have:=nQ (K:=K) (bG.of zY);rw[cu] at this;exact this
   ·obtain⟨rfl,y⟩:=y;obtain⟨b,hb,rfl⟩:=kM (y _ (bG.of (k' _ _ zY)));obtain⟨ch,Bi,Ij⟩:=Paired.wI h3 hb;obtain⟨x,hx,rfl⟩:=Fl Bi;have agI:ou b=some (.lst (eU (chainOf up x.1))):=k' _ _ (s1 _ _ Ij);have Z7:=aN hx;refine⟨rfl,⟨_,rfl⟩,ag rfl (ag rfl (bt b _ rfl (bG.of agI) (λq hq=>?_)))⟩;have Z8:vz (eU (chainOf up x.1)) none (some 2)=(((chainOf up x.1).take 2).map sN).map V.str:=by
     unfold vz;rw[HT.KJ];have e2:HT.Ko (eU (chainOf up x.1)).length (eU (chainOf up x.1)).length (some 2)=min 2 (eU (chainOf up x.1)).length:=HT.DA _ _ 2;rw[e2,Nat.sub_zero,M6,<-JO];unfold eU;rw[<-afq];congr 1;rw[aa,ajZ];split
     ·rfl
     ·rw[Hs,bK (by omega)]
    rw[Z8];have UZ:∀l∈(chainOf up x.1).take 2,l.length<=10:=λl hl=>by
     rw[ue ok Z7] at hl
     cases ex:x.2 with
     |none=>rw[ex] at hl;rw[b8.mp hl];exact gy (ok.nm x Z7)
     |some v=>
      rw[ex] at hl;rcases aB.mp hl with z|z
      ·rw[z];exact gy (ok.nm x Z7)
      ·rw[b8.mp z];obtain⟨y,hy,ey⟩:=au.mp (ok.cl x Z7 v ex);rw[<-ey];exact gy (ok.nm y hy)
    refine iD _ q _ rfl rfl (.inl (bG.of ai)) (pH (B:=10) (N:=2) UZ (by rw[cQ];omega) (by decide+kernel)) ?_;rw[Xi,Qt];refine dH _ _ rfl rfl ?_ ?_
    ·rw[jm,jm];have:TL.qD [32,111,102,32] ((chainOf up x.1).take 2)=TL.qD [32,111,102,32] (match x.2 with|some v=>[x.1,v]|none=>[x.1]):=by rw[ue ok Z7]
     have hh:=UZ;rw[ue ok Z7] at hh;rw[this];refine ao ?_ (by decide:100<=aA)
     cases ex:x.2 with
     |none=>rw[ex] at hh;have:=hh x.1 (by simp);show 5+x.1.length<=100;omega
     |some v=>rw[ex] at hh;have q1:=hh x.1 (by simp);have q2:=hh v (by simp);show 5+(x.1++([32,111,102,32]++v)).length<=100;rw[aP,aP];show 5+(x.1.length+(4+v.length))<=100;omega
    ·rw[zz,Ma ok Z7];have:=hR (upd ou q (.lst ((((chainOf up x.1).take 2).map sN).map V.str))) (aD hq);rw[hx] at this;exact this
   ·have rA:H' D=some (.lst (eU (up.map rj))):=by rw[he,hlen,vk];refine congrArg (λz=>some (HO.lst z)) ?_;rw[jS up _ (λx=>V.str (sN (rj x))) (λi x hx=>by rw[hx];rfl)];unfold eU;rw[aQ];rfl
    refine gB p D _ _ rfl rfl (hs _ _ ai) rA ?_ (λq hq=>?_)
    ·rw[eG,aa];have:=ok.le;exact ao (by show 1+up.length<=31;have h30:up.length<=30:=this;omega) (by decide)
    ·have s2:aT H H':=s1.trans hs;refine k q _ (s2.free hq) (s2.trans (aD hq)) ?_;rw[ai,Qt,zz];have:df "words "++n=spaced [df "words",n]:=by show df "words "++n=df "words"++(32::n);rw[show df "words "=df "words"++[32] by decide,dw];rfl
     rw[this];rfl
end
section
open Vbslai (levels)
theorem cT{t:L2.St->Hp->Prop}{rt:VK}{bk ct:L2.St->Hp->Prop}{σ:L2.St}{H:Hp}(h:t σ H):XS ⟨t,rt,bk,ct⟩ σ H:=h
def Mb(A:Cl):Sp:=λvs H Q _=>∃(p dx:af)(c n v:V),vs=[.ref p,c,n,v]/\H p=some (.ins A.iw dx [])/\
 ∀(H':Hp),H' p=some (.ins A.iw dx (sx c n v))->(∀b o,H b=some o->b≠p->H' b=some o)->Q .h9 H'
theorem Mc(T:Txt K mg A):C0 P w K mg base "Form" A.iw 1 ["self","columns","secret_name","secret_values"] (Mb A):=by
 refine T.iw.init.g8 LD (λf _ A' _ s H vs Q E hr=>CV ?_)
 ·rintro p dx c n v ⟨rfl,hp,k⟩;refine ag (ax (d9 (pv 0) (pv 1) rfl) (ax (d9 (pv 0) (pv 2) rfl) (aG (d9 (pv 0) (pv 3) rfl)))) ?_;refine ag rfl (ag rfl (sJ hp T.iw.cl T.iw.fk (by decide) (ag rfl (ag rfl (sJ ai T.iw.cl T.iw.gE LX (ag rfl (ag rfl (sJ ai T.iw.cl T.iw.eh put2 ?_))))))));refine k _ ?_ λb o e hb=>?_
  ·rw[ai,Oo]
  ·rw[ay hb,ay hb,ay hb];exact e
theorem Ik{up:Up}(h:filled (.words up)=true):longest (gk up)+1=levels (.words up):=by
 have k9:up≠[]:=λe=>by subst e;exact absurd h (by decide)
 rw[vP k9];rfl
def xU(A:Cl):Sp:=λvs H Q _=>∃(a:af)(f:d8),vs=[.ref a]/\gW A H a f/\iN f/\
 ∀D H',H D=none->aT H H'->H' D=some (.lst (gZ (f.columns.map λc=>levels c.kind)))->Q (.ref D) H'
theorem k5(T:Txt K mg A):i5 P w K mg base A.iw "level_counts" 2 ["self"] (xU A):=by
 refine T.iw.GO.g8 kY (λf _ A' _ s H vs Q E hr=>ke ?_)
 ·rintro a fm rfl ⟨dx,lc,lv,as,h1,h2,h3,h4⟩ ok k;have hlen:=Paired.len h3;refine ag (aG (aY (ia rfl (own:=[("column",1)]) kY.nd (dI (bo (pv 0) rfl)) (cR (by kernel_rfl)) (λ_ _ _ _ _=>(bU (i:=1) kY.nd rfl fz)) (λ_ _ _ _ _=>eQ) (λ_ _ _ _ _=>(PE.or (dv (pv 1) T.num.cl (l5 T) hr.mono) (dv (pv 1) T.fL.cl (l6 T) hr.mono)))))) ?_;refine fC ?_;refine fI h1 T.iw.cl T.iw.fk fX (bP lc rfl ⟨_,bG.of h2⟩ ?_);refine Fd (n:=as.length) (f:=λi=>.int ((((fm.columns[i]?).map λc=>levels c.kind).getD 0:Nat):Int)) (by rw[hlen];exact ao ok.len (by decide)) ?_ ?_ (λi x H' ou R hi k' y hR=>?_) (λD H' hD hs he=>?_)
  ·have:=uc (K:=K) (bG.of h2);rw[cu] at this;exact this
  ·have:=nQ (K:=K) (bG.of h2);rw[cu] at this;exact this
  ·obtain⟨rfl,y⟩:=y;obtain⟨b,hb,rfl⟩:=kM (y _ (bG.of (k' _ _ h2)));obtain⟨c,hc,Ij⟩:=Paired.wI h3 hb;have Gm:=ok.cols c (aN hc);have:=hR ou (aT.refl _);rw[hc] at this;refine⟨rfl,?_⟩
   cases ek:c.kind with
   |numbers st=>have hn:=(Ij.mono k').num ek;refine jT ?_ (id hn);rintro Z9 l m g1 g2 g3;refine .inl (mI g1 km (DM b _ st _ ⟨rfl,hn,?_⟩));simp only[abX,aa0,ek] at this;exact this
   |words up=>have hw:=(Ij.mono k').fL ek;refine ip ?_ (id hw);rintro Z9 l m as' g1 g2 g3 g4;refine .inr (mI g1 kq (DM b _ up _ ⟨rfl,hw,?_⟩));rw[Ik (by rw[<-ek];exact Gm.fl)];simp only[abX,aa0,ek] at this;exact this
  ·refine k D H' hD hs ?_;rw[he,hlen];refine congrArg (λz=>some (HO.lst z)) ?_;rw[jS fm.columns _ (λc=>V.int ((levels c.kind:Nat):Int)) (λi x hx=>by rw[hx];rfl)];unfold gZ;rw[aQ];rfl
def xV(A:Cl):Sp:=λvs H Q _=>∃(a:af)(f:d8)(s:Int),vs=[.ref a,.int s]/\gW A H a f/\Q (.bl (qy f s)) H
theorem xW(T:Txt K mg A):i5 P w K mg base A.iw "takes_secret" 1 ["self","secret"] (xV A):=by
 refine T.iw.GP.g8 xO (λf _ A' _ s H vs Q E hr=>jT ?_)
 ·rintro a fm v rfl ⟨dx,lc,lv,as,h1,h2,h3,h4⟩ k;have eX:∀b,qy fm v=b->Q (.bl b) H:=λb h2=>by rw[<-h2];exact k
  refine ag (aG (aY (kg iH DR bB (pv 1) (cJ bx (by rfl) T.b.dS cP (aI (bo (pv 0) rfl) aq))))) ?_;refine ag rfl (bt _ _ rfl rfl (ag rfl (fG (λe1=>fI h1 T.iw.cl T.iw.eh gg (bt lv _ rfl (.inl (bG.of h4)) (bt _ _ rfl rfl (eX _ ?_)))) (λe1=>eX _ ?_))))
  ·rw[eG];unfold qy cK;rw[decide_eq_true e1,m8];by_cases q:v<(fm.values.length:Int)
   ·rw[decide_eq_true q,decide_eq_true (by omega)]
   ·rw[decide_eq_false q,decide_eq_false (by omega)]
  ·unfold qy cK;rw[decide_eq_false e1];rfl
def j8(l:List Int):List V:=l.map V.int
theorem gP(l:List Int):(j8 l).length=l.length:=aa ..
theorem JS{l:List Int}{i:Nat}{x:V}(h:(j8 l)[i]? =some x):∃n,l[i]? =some n/\x=.int n:=by
 unfold j8 at h;rw[aV] at h
 cases e:l[i]? with
 |none=>rw[e] at h;cases h
 |some n=>rw[e] at h;exact bq n rfl ((aX h).symm)
theorem Xj(l:List Nat):j8 (l.map λ(n:Nat)=>(n:Int))=gZ l:=by unfold j8 gZ;rw[aQ];rfl
def zA(K:ah)(A:Cl):Sp:=λvs H Q _=>∃(a b:af)(f:d8)(l:List Int),vs=[.ref a,.ref b]/\gW A H a f/\iN f/\bG K H b (j8 l)/\l.length<=100/\∀H',aT H H'->Q (.bl (tj f.columns l)) H'
theorem zB(T:Txt K mg A):i5 P w K mg base A.iw "takes_cells" 2 ["self","cells"] (zA K A):=by
 refine T.iw.Je.g8 jE (λf _ A' _ s H vs Q E hr=>u1 ?_)
 ·rintro a b fm l rfl ⟨dx,lc,lv,as,h1,h2,h3,h4⟩ ok hS hl k;have hlen:=Paired.len h3;refine ag (ax (du (cF DQ (cJ bx (by rfl) T.b.dS cP (aI (pv 1) aq)) (cJ bx (by rfl) T.b.dS cP (aI (bo (pv 0) rfl) aq)) (cC _)) (aG (aY kf)) bS) (aG (aY (cJ (vA rfl) (by rfl) T.b.Cz vW (aI (ia rfl (own:=[("column",2),("cell",3)]) jE.nd (By (by rfl) T.b.EW (aI (bo (pv 0) rfl) (aI (pv 1) aq))) (cR (by kernel_rfl)) (λ_ _ _ _ _=>(AD (K:=K) rfl (n:=2) rfl (fZ (bU (i:=2) jE.nd rfl fz) (fZ (bU (i:=3) jE.nd rfl fz) o7)))) (λ_ _ _ _ _=>eQ) (λ_ _ _ _ _=>(PE.or (cp (pv 2) T.num.cl (JN T) hr.mono (aI (pv 3) aq)) (cp (pv 2) T.fL.cl (JQ T) hr.mono (aI (pv 3) aq))))) aq))))) ?_;refine ag rfl (bt b _ rfl (.inl hS) (fI h1 T.iw.cl T.iw.fk fX (dH lc _ rfl (.inl (bG.of h2)) rfl (ag rfl (vX (λe1=>?_) (λe1=>?_))))))
  ·have:¬l.length=fm.columns.length:=λq=>e1 (by rw[gP,cu,hlen,q]);have e:tj fm.columns l=false:=by unfold tj;rw[show(l.length==fm.columns.length)=false by simpa using this];rfl
   have:=k H (aT.refl _);rw[e] at this;exact this
  ·have Qu:l.length=fm.columns.length:=by
    rw[gP,cu,hlen] at e1;injection e1 with e1
    omega
   refine cT ?_;refine jh ?_;refine kK ?_;refine fC ?_;refine fI h1 T.iw.cl T.iw.fk fX (ag rfl (oJ lc b _ _ rfl (bG.of h2) hS ?_));refine JE (xs:=iZ as) (ys:=j8 l) (r:=(fm.columns.zip l).map λx=>V.bl (pI x.1 x.2)) (bG.of h2) hS (by rw[cu,gP,hlen,Qu]) (by rw[aa,eK,cu,hlen];omega) (by rw[cu,hlen];exact ao ok.len (by decide)) (λi x y v T' H' R hx hy hv k' hT hR=>?_) (λD H' hD hs he=>?_)
   ·obtain⟨ca,hca,rfl⟩:=kM hx;obtain⟨n,hn,rfl⟩:=JS hy;obtain⟨c,hc,Ij⟩:=Paired.wI h3 hca;have Gm:=ok.cols c (aN hc);have ev:v=.bl (pI c n):=by rw[aV,show(fm.columns.zip l)[i]? =some (c,n) from de.mpr ⟨hc,hn⟩] at hv;exact(aX hv).symm
    subst ev;have k2:aT H (upd H' T' (.tup [.ref ca,.int n])):=k'.trans (aD hT);have Fm:=hR _ (aD (o:=.tup [.ref ca,.int n]) hT);refine dH T' _ rfl (nY.of ai) rfl (fu _ _ rfl (dH _ _ rfl rfl rfl ?_))
    cases ek:c.kind with
    |numbers st=>refine jT ?_ ((Ij.mono k2).num ek);rintro Z9 l' m g1 g2 g3;refine .inl (mI g1 EZ (ag rfl (fu ca n rfl ?_)));unfold pI at Fm;rw[ek] at Fm;exact Fm
    |words up=>have hw:=(Ij.mono k2).fL ek;refine ip ?_ (id hw);rintro Z9 l' m as' g1 g2 g3 g4;refine .inr (mI g1 E1 (ag rfl (o6 ca _ up _ n ⟨rfl,hw,?_⟩)));unfold pI at Fm;rw[ek] at Fm;exact Fm
   ·refine bt D ((fm.columns.zip l).map λx=>pI x.1 x.2) rfl (bG.of (by rw[he,aQ];rfl)) ?_;rw[Fg];have e:tj fm.columns l=(fm.columns.zip l).all λx=>pI x.1 x.2:=by unfold tj;rw[show(l.length==fm.columns.length)=true by simpa using Qu];rfl
    rw[<-e];exact k H' hs
def xX(K:ah)(A:Cl):Sp:=λvs H Q _=>∃(a b:af)(f:d8)(l:List Int),vs=[.ref a,.ref b]/\gW A H a f/\iN f/\bG K H b (j8 l)/\l.length<=100/\∀H',aT H H'->Q (.bl (qz f.columns l)) H'
theorem ji(T:Txt K mg A):i5 P w K mg base A.iw "takes_levels" 3 ["self","levels"] (xX K A):=by
 refine T.iw.GQ.g8 jf (λf _ A' _ s H vs Q E hr=>u1 ?_)
 ·rintro a b fm l rfl F0 ok hS hl k;refine ip ?_ (id F0);rintro dx lc lv as h1 h2 h3 h4;have hlen:=Paired.len h3;refine ag (ax (du (cF DQ (cJ bx (by rfl) T.b.dS cP (aI (pv 1) aq)) (cJ bx (by rfl) T.b.dS cP (aI (bo (pv 0) rfl) aq)) (cC _)) (aG (aY kf)) bS) (aG (aY (cJ (vA rfl) (by rfl) T.b.Cz vW (aI (ia rfl (own:=[("level",2),("levels_here",3)]) jf.nd (By (by rfl) T.b.EW (aI (pv 1) (aI (dv (pv 0) T.iw.cl (k5 T) hr.mono) aq))) (cR (by kernel_rfl)) (λ_ _ _ _ _=>(AD (K:=K) rfl (n:=2) rfl (fZ (bU (i:=2) jf.nd rfl fz) (fZ (bU (i:=3) jf.nd rfl fz) o7)))) (λ_ _ _ _ _=>eQ) (λ_ _ _ _ _=>(kg iH DR bB (pv 2) (pv 3)))) aq))))) ?_;refine ag rfl (bt b _ rfl (.inl hS) (fI h1 T.iw.cl T.iw.fk fX (dH lc _ rfl (.inl (bG.of h2)) rfl (ag rfl (vX (λe1=>?_) (λe1=>?_))))))
  ·have:¬l.length=fm.columns.length:=λq=>e1 (by rw[gP,cu,hlen,q]);have e:qz fm.columns l=false:=by unfold qz;rw[show(l.length==fm.columns.length)=false by simpa using this];rfl
   have:=k H (aT.refl _);rw[e] at this;exact this
  ·have Qu:l.length=fm.columns.length:=by
    rw[gP,cu,hlen] at e1;injection e1 with e1
    omega
   refine cT ?_;refine jh ?_;refine kK ?_;refine fC ?_;refine ag rfl (mI h1 jV (dH a fm rfl F0 ok (λD1 H1 hD1 s1 Yi=>?_)));refine oJ b D1 _ _ rfl (s1.seq hS) (bG.of Yi) ?_;refine JE (xs:=j8 l) (ys:=gZ (fm.columns.map λc=>levels c.kind)) (r:=(fm.columns.zip l).map λx=>V.bl (cK x.2 0 ((levels x.1.kind:Int)-1))) (s1.seq hS) (bG.of Yi) (by rw[gP,eI,aa,Qu]) (by rw[aa,eK,gP];omega) (by rw[gP];exact ao hl (by decide)) (λi x y v T' H' R hx hy hv k' hT hR=>?_) (λD H' hD hs he=>?_)
   ·obtain⟨n,hn,rfl⟩:=JS hx;obtain⟨lv',zC,rfl⟩:=lP hy;rw[aV] at zC
    cases hc:fm.columns[i]? with
    |none=>rw[hc] at zC;cases zC
    |some c=>
     rw[hc] at zC;cases zC;have ev:v=.bl (cK n 0 ((levels c.kind:Int)-1)):=by rw[aV,show(fm.columns.zip l)[i]? =some (c,n) from de.mpr ⟨hc,hn⟩] at hv;exact(aX hv).symm
     subst ev;have Fm:=hR _ (aD (o:=.tup [.int n,.int ((levels c.kind:Nat):Int)]) hT);have eX:∀bb,cK n 0 ((levels c.kind:Int)-1)=bb->R (.bl bb) (upd H' T' (.tup [.int n,.int ((levels c.kind:Nat):Int)])):=λbb h2=>by rw[<-h2];exact Fm
     refine dH T' _ rfl (nY.of ai) rfl (fu _ _ rfl (dH _ _ rfl rfl rfl ?_));refine ag rfl (bt _ _ rfl rfl (ag rfl (fG (λq1=>ag rfl (bt _ _ rfl rfl (eX _ ?_))) (λq1=>eX _ ?_))))
     ·unfold cK;rw[decide_eq_true q1,m8];by_cases q:n<((levels c.kind:Nat):Int)
      ·rw[decide_eq_true q,decide_eq_true (by omega)]
      ·rw[decide_eq_false q,decide_eq_false (by omega)]
     ·unfold cK;rw[decide_eq_false q1];rfl
   ·refine bt D ((fm.columns.zip l).map λx=>cK x.2 0 ((levels x.1.kind:Int)-1)) rfl (bG.of (by rw[he,aQ];rfl)) ?_;rw[Fg];have e:qz fm.columns l=(fm.columns.zip l).all λx=>cK x.2 0 ((levels x.1.kind:Int)-1):=by unfold qz;rw[show(l.length==fm.columns.length)=true by simpa using Qu];rfl
    rw[<-e];exact k H' (s1.trans hs)
def zE(K:ah)(A:Cl):Sp:=λvs H Q _=>∃(a b:af)(f:d8)(l:List Int),vs=[.ref a,.ref b]/\gW A H a f/\bG K H b (j8 l)/\l.length<=100/\∀H',aT H H'->Q (.bl (oG f.columns l)) H'
theorem zF(T:Txt K mg A):i5 P w K mg base A.iw "takes_asked" 1 ["self","asked"] (zE K A):=by
 refine T.iw.Jf.g8 lW (λf _ A' _ s H vs Q E hr=>ip ?_)
 ·rintro a b fm l rfl ⟨dx,lc,lv,as,h1,h2,h3,h4⟩ hS ⟨hl,k⟩;have hlen:=Paired.len h3;refine ag (aG (aY (mx (je jz (cJ bx (by rfl) T.b.dS cP (aI (pv 1) aq)) (cJ bx (by rfl) T.b.dS cP (aI (bo (pv 0) rfl) aq)) (cC _)) (pL (cJ (vA rfl) (by rfl) T.b.Cz vW (aI (ia rfl (own:=[("mark",2)]) lW.nd (dI (pv 1)) (cR (by kernel_rfl)) (λ_ _ _ _ _=>(bU (i:=2) lW.nd rfl fz)) (λ_ _ _ _ _=>eQ) (λ_ _ _ _ _=>(kg iH iH bB (pv 2) bB))) aq)))))) ?_;refine ag rfl (bt b _ rfl (.inl hS) (fI h1 T.iw.cl T.iw.fk fX (dH lc _ rfl (.inl (bG.of h2)) rfl (ag rfl (fG (λe1=>?_) (λe1=>?_))))))
  ·have Qu:l.length=fm.columns.length:=by
    rw[gP,cu,hlen] at e1;injection e1 with e1
    omega
   refine kK ?_;refine fC ?_;refine ag rfl (bP b rfl ⟨_,hS⟩ ?_);refine j5 (l:=l) (enc:=V.int) (f:=λx=>.bl (cK x 0 1)) hS (ao hl (by decide)) (λi x H' R hx k' hR=>?_) (λD H' hD hs he=>?_)
   ·have eX:∀bb,cK x 0 1=bb->R (.bl bb) H':=λbb h2=>by rw[<-h2];exact hR H' (aT.refl _)
    refine⟨rfl,ag rfl (bt _ _ rfl rfl (ag rfl (fG (λq1=>bt _ _ rfl rfl (eX _ ?_)) (λq1=>eX _ ?_))))⟩
    ·unfold cK;rw[decide_eq_true q1];rfl
    ·unfold cK;rw[decide_eq_false q1];rfl
   ·refine bt D (l.map λx=>cK x 0 1) rfl (bG.of (by rw[he,aQ];rfl)) ?_;rw[Fg];have e:oG fm.columns l=l.all λx=>cK x 0 1:=by unfold oG;rw[show(l.length==fm.columns.length)=true by simpa using Qu];rfl
    rw[<-e];exact k H' hs
  ·have:¬l.length=fm.columns.length:=λq=>e1 (by rw[gP,cu,hlen,q]);have e:oG fm.columns l=false:=by unfold oG;rw[show(l.length==fm.columns.length)=false by simpa using this];rfl
   have:=k H (aT.refl _);rw[e] at this;exact this
end
def wM(cs:List bA)(ls cells:List Nat):List aH:=((cs.zip ls).zip cells).map λx=>kF x.1.1.kind x.1.2 x.2
theorem OH(cs:List bA)(ls:List Nat)(r:gi):wM cs ls r.cells=aF cs ls r:=rfl
theorem OI{cs:List bA}{ls cells:List Nat}(h1:ls.length=cs.length)(h2:cells.length=cs.length):(wM cs ls cells).length=cs.length:=by unfold wM;rw[aa,eK,eK];omega
theorem OJ{cs:List bA}{ls cells:List Nat}{i:Nat}{c:bA}{l v:Nat}(hc:cs[i]? =some c)(hl:ls[i]? =some l)(hv:cells[i]? =some v):(wM cs ls cells)[i]? =some (kF c.kind l v):=by
 unfold wM;rw[aV];have:((cs.zip ls).zip cells)[i]? =some ((c,l),v):=by rw[de,de];exact⟨⟨hc,hl⟩,hv⟩
 rw[this];rfl
def C9(K:ah)(A:Cl):Sp:=λvs H Q _=>∃(a b c:af)(f:d8)(cells ls:List Nat),vs=[.ref a,.ref b,.ref c]/\gW A H a f/\iN f/\bG K H b (gZ cells)/\bG K H c (gZ ls)/\zc f.columns cells/\lL f.columns ls/\
 ∀(p:af)(H':Hp),H p=none->aT H H'->H' p=some (.tup (eU (wM f.columns ls cells)))->Q (.ref p) H'
theorem lQ(T:Txt K mg A):i5 P w K mg base A.iw "looks_of" 3 ["self","cells","levels"] (C9 K A):=by
 refine T.iw.RE.g8 jN (λf _ A' _ s H vs Q E hr=>nJ ?_)
 ·rintro a b c fm cells ls ⟨rfl,⟨dx,lc,lv,as,h1,h2,h3,h4⟩,ok,hb,hc,hcn,Fo,k⟩;have hlen:=Paired.len h3;have SE:=ok.len;refine ag (aG (aY (sd GG (by rfl) T.b.W2 Uv (aI (ia rfl (own:=[("column",3),("cell",4),("level",5)]) jN.nd (W5 (by rfl) T.b.EW (aI (bo (pv 0) rfl) (aI (pv 1) (aI (pv 2) aq)))) (cR (by kernel_rfl)) (λ_ _ _ _ _=>(AD (K:=K) rfl (n:=3) rfl (fZ (bU (i:=3) jN.nd rfl fz) (fZ (bU (i:=4) jN.nd rfl fz) (fZ (bU (i:=5) jN.nd rfl fz) o7))))) (λ_ _ _ _ _=>eQ) (λ_ _ _ _ _=>(PE.or (cp (pv 3) T.num.cl (L4 T) hr.mono (aI (pv 4) (aI (pv 5) aq))) (cp (pv 3) T.fL.cl (L9 T) hr.mono (aI (pv 4) (aI (pv 5) aq)))))) aq)))) ?_;refine kK ?_;refine fC ?_;refine fI h1 T.iw.cl T.iw.fk fX (ag rfl (ag rfl (jb lc b c _ _ _ ⟨rfl,bG.of h2,hb,hc,?_⟩)));refine UR (xs:=iZ as) (ys:=gZ cells) (zs:=gZ ls) (r:=eU (wM fm.columns ls cells)) (bG.of h2) hb hc (by rw[cu,eI,hlen,hcn.1]) (by rw[cu,eI,hlen,Fo.1]) (by rw[eG,cu,hlen,OI Fo.1 hcn.1]) (by rw[cu,hlen];exact ao SE (by decide))
   (λi x y z v T' H' R hx hy hz hv k' hT hR=>?_) (λD H' hD hs he=>?_)
  ·obtain⟨ca,hca,rfl⟩:=kM hx;obtain⟨n,hn,rfl⟩:=lP hy;obtain⟨l,hl,rfl⟩:=lP hz;obtain⟨col,Hb,Ij⟩:=Paired.wI h3 hca;have Gm:=ok.cols col (aN Hb);have mf:=hcn.2 i col n Hb hn;have L5:=Fo.2 i col l Hb hl;obtain⟨sh,Z6,rfl⟩:=UX hv;rw[OJ Hb hl hn] at Z6;cases Z6;have k2:aT H (upd H' T' (.tup [.ref ca,.int ((n:Nat):Int),.int ((l:Nat):Int)])):=k'.trans (aD hT);have Fm:=hR _ (aD (o:=.tup [.ref ca,.int ((n:Nat):Int),.int ((l:Nat):Int)]) hT);refine dH T' _ rfl (nY.of ai) rfl (fu _ _ rfl (fu _ _ rfl (dH _ _ rfl rfl rfl ?_)))
   cases ek:col.kind with
   |numbers st=>have Xk:=(Ij.mono k2).num ek;refine jT ?_ (id Xk);rintro Z9 l' m g1 g2 g3;rw[ek] at Fm L5 mf;have hkd:=Gm.kd;rw[ek] at hkd;exact .inl (mI g1 G6 (ag rfl (ag rfl (jb ca _ st _ n l ⟨rfl,Xk,hkd.2,mf,L5,Fm⟩))))
   |words up=>have hw:=(Ij.mono k2).fL ek;refine ip ?_ (id hw);rintro Z9 l' m as' g1 g2 g3 g4;rw[ek] at Fm L5 mf;exact .inr (mI g1 G7 (ag rfl (ag rfl (jb ca _ up _ n l ⟨rfl,hw,mf,L5,Fm⟩))))
  ·exact fu D _ rfl (.inl ⟨bG.of he,λq hq=>k q _ (hs.free hq) (hs.trans (aD hq)) ai⟩)
def Fp(K:ah)(A:Cl):Sp:=λvs H Q _=>∃(a b:af)(f:d8)(ls:List Nat),vs=[.ref a,.ref b]/\gW A H a f/\iN f/\bG K H b (gZ ls)/\lL f.columns ls/\
 ∀(H':Hp),aT H H'->Q (.int ((Vbslai.costOf f.columns ls:Nat):Int)) H'
theorem Md:∀l:List Nat,(l.map λ(n:Nat)=>(n:Int)).sum=((l.sum:Nat):Int)
 |[]=>rfl
 |a::l=>by rw[br,CU,CU,Md l];omega
theorem mT(T:Txt K mg A):i5 P w K mg base A.iw "cost_at" 1 ["self","levels"] (Fp K A):=by
 refine T.iw.Uy.g8 mM (λf _ A' _ s H vs Q E hr=>u1 ?_)
 ·rintro a b fm ls rfl ⟨dx,lc,lv,as,h1,h2,h3,h4⟩ ok hb Fo k;have hlen:=Paired.len h3;have SE:=ok.len;refine ag (aG (aY (cJ (Zd rfl) (by rfl) T.b.acZ Zx (aI (ia rfl (own:=[("column",2),("level",3)]) mM.nd (By (by rfl) T.b.EW (aI (bo (pv 0) rfl) (aI (pv 1) aq))) (cR (by kernel_rfl)) (λ_ _ _ _ _=>(AD (K:=K) rfl (n:=2) rfl (fZ (bU (i:=2) mM.nd rfl fz) (fZ (bU (i:=3) mM.nd rfl fz) o7)))) (λ_ _ _ _ _=>eQ) (λ_ _ _ _ _=>(eN (UL (K:=K) rfl) (kL (K:=K) rfl (pv 2) rfl) (pv 3) (λ_ _=>rfl)))) aq)))) ?_;refine kK ?_;refine fC ?_;refine fI h1 T.iw.cl T.iw.fk fX (ag rfl (oJ lc b _ _ rfl (bG.of h2) hb ?_));refine JE (xs:=iZ as) (ys:=gZ ls) (r:=gZ ((fm.columns.zip ls).map λx=>x.1.costs.getD x.2 0)) (bG.of h2) hb (by rw[cu,eI,hlen,Fo.1]) (by rw[eI,aa,eK,cu,hlen,Fo.1];omega) (by rw[cu,hlen];exact ao SE (by decide))
   (λi x y v T' H' R hx hy hv k' hT hR=>?_) (λD H' hD hs he=>?_)
  ·obtain⟨ca,hca,rfl⟩:=kM hx;obtain⟨l,hl,rfl⟩:=lP hy;obtain⟨col,Hb,Ij⟩:=Paired.wI h3 hca;have Gm:=ok.cols col (aN Hb);have L5:=Fo.2 i col l Hb hl;obtain⟨cv,hcv,rfl⟩:=lP hv;rw[aV,show(fm.columns.zip ls)[i]? =some (col,l) from de.mpr ⟨Hb,hl⟩] at hcv;cases hcv;have k2:aT H (upd H' T' (.tup [.ref ca,.int ((l:Nat):Int)])):=k'.trans (aD hT);have Fm:=hR _ (aD (o:=.tup [.ref ca,.int ((l:Nat):Int)]) hT);have LL:(gZ col.costs)[l]? =some (.int ((col.costs.getD l 0:Nat):Int)):=by
    have:l<col.costs.length:=by rw[Gm.cl];exact L5
    unfold gZ;rw[aV,cx,aw this];rfl
   refine dH T' _ rfl (nY.of ai) rfl (fu _ _ rfl (dH _ _ rfl rfl rfl ?_))
   cases ek:col.kind with
   |numbers st=>refine jT ?_ ((Ij.mono k2).num ek);rintro Z9 l' m g1 g2 g3;exact fI g1 T.num.cl T.num.pd qV (ag rfl (iE m _ _ _ rfl rfl (bG.of g3) (cN LL) Fm))
   |words up=>refine ip ?_ ((Ij.mono k2).fL ek);rintro Z9 l' m as' g1 g2 g3 g4;exact fI g1 T.fL.cl T.fL.pd qW (ag rfl (iE m _ _ _ rfl rfl (bG.of g4) (cN LL) Fm))
  ·refine bt D (((fm.columns.zip ls).map λx=>x.1.costs.getD x.2 0).map λ(n:Nat)=>(n:Int)) rfl (bG.of (by rw[he,<-Xj];rfl)) ?_;rw[Md,<-RA];exact k H' hs
theorem Paired.unzip{α β:Type}{R:α->β->Prop}{as:List α}{bs:List β}(h:dn R as bs):∃l:List (α×β),as=l.map (·.1)/\bs=l.map (·.2)/\∀p∈l,R p.1 p.2:=by
 induction h with
 |nil=>exact bP ([]) rfl rfl (λp h=>nomatch h)
 |cons r t ih=>
  rename_i a b as bs;refine cH ?_ ih;clear ih;rintro l rfl rfl h;exact bP ((a,b)::l) rfl rfl (λp hp=>by
   rcases aB.mp hp with q|q
   ·subst q;exact r
   ·exact h p q)
theorem Paired.OK{α β:Type}{R:α->β->Prop}:∀{l:List (α×β)},(∀p∈l,R p.1 p.2)->dn R (l.map (·.1)) (l.map (·.2))
 |[],_=>.nil
 |p::l,h=>.cons (h p (.head _)) (Paired.OK λq hq=>h q (.tail _ hq))
theorem AG{β:Type}(l:List (af×β)):iZ (l.map (·.1))=l.map λp=>V.ref p.1:=by unfold iZ;rw[aQ];rfl
theorem iy{α β:Type}(p:β->Bool)(l:List (α×β)):(l.filter λx=>p x.2).map (·.2)=(l.map (·.2)).filter p:=by rw[nh];rfl
theorem U0{α β:Type}[DecidableEq α][DecidableEq β]{f:α->β}(hf:∀x y,f x=f y->x=y)(l:List α):dd (l.map f)=(dd l).map f:=by
 have key:∀(l acc:List α),(l.map f).foldl Cn (acc.map f)=(l.foldl Cn acc).map f:=by
  intro l
  induction l with
  |nil=>intro acc;rfl
  |cons a l ih=>
   intro acc;rw[br,bL,bL,<-ih];congr 1;unfold Cn;by_cases q:a∈acc
   ·rw[if_pos q,if_pos (au.mpr (bq a q rfl))]
   ·rw[if_neg q,if_neg (λz=>by obtain⟨b,hb,e⟩:=au.mp z;exact q (by rw[<-hf _ _ e];exact hb)),bw];rfl
 exact key l []
def Gn(n:Nat):Key:=cG (n:Int)
theorem Xl:∀x y,Gn x=Gn y->x=y:=λx y h=>by have:=Be h;exact afp this
def AH(b:aH):Key:=ig (sN b)
theorem Qv:∀x y,AH x=AH y->x=y:=λx y h=>wH (ajV h)
theorem Me(l:List aH):eU l=(l.map AH).map kV:=by unfold eU;rw[aQ];rfl
theorem U1(l:List Nat):(gZ l).all qB=true:=by rw[cj];intro x hx;unfold gZ at hx;obtain⟨n,_,rfl⟩:=au.mp hx;rfl
section
variable{X:Cx}{K:ah}
theorem OL{o e:Expr}{to te:TE}{apos mB:Pos}(hK:X.K=K)(ho:PE X o to)(he:PE X e te)(hn:Qa e=true:=by rfl)(n4:gf o "count" X.env (eval o X.env)=eval o X.env:=by rfl)(gJ:(apos.endLine==mB.line)=true:=by rfl)(Zb:((fO mB (bO [e] X.env)).all (λx=>!x.1)&&(iX mB (eY [] X.env)).all (λx=>x.1.isSome)&&decide (([e]).length+([]:List Ce).length+(if([]:List Ce).isEmpty then 0 else 1)<30))=true:=by rfl):
  PE X (.Call (.Attribute o "count" apos) [e] [] mB) (tBM K "list" (λx xs H Q=>∃(a:af)(ys:List V)(y:V),x=V.ref a/\xs=[y]/\bG K H a ys/\qB y=true/\ys.all qB=true/\Q (.int ((ys.countP λz=>PK z y:Nat):Int)) H) to (rV te vx)):=by
 subst hK;exact oS bT QO PySem.F.type_list_count RP ho (aI he aq hn) n4 Zb gJ (vV hn)
end
end Bp
namespace Bp
open PySem PySem.Spec PyProof.Rows PyProof.Rows.G L2 Bm
section
open PySem.W (KdlSrc)
section
variable{prog:bp}{w:bQ}{A:cy}{E:ak->az->Prop}{s:az}
theorem U2{o:Obj}{es:Array hJ}{ep:Nat}(Gk:o.data=.dict es ep)(hh:A.handled=none)(I d:af)(k9:d≠I):
  Walks prog w A I [I,d] [I] es.size (λi v=>∃en,es[i]? =some en/\v=en.key) (λi h=>h.IsKeyIter I d i es.size ep/\h.get? d=some o) where
 sub:=λb hb=>by simp at hb;simp[hb]
 frame:=λ_ _ _ st hk=>⟨st.1.at λo e=>hk I (by simp) o e,hk d (by simp) _ st.2⟩
 item:=λi s Q E hi st hQ=>by obtain⟨en,hx⟩:∃p,es[i]? =some p:=⟨es[i],by simp[hi]⟩;exact GJ st.1 st.2 Gk rfl hx λh' Rp Rz=>hQ en.key h' s.toks (bq en hx rfl) ⟨Rp,(Rz.2 d k9).trans st.2⟩ λb o hb e=>Rz.extBut b o (λh=>hb (by simp[h])) e
 done:=λs Q E st hQ=>IW hh st.1 st.2 Gk rfl (aK _) λh' rA=>hQ h' s.toks λb o hb e=>rA b o (λh=>hb (by simp[h])) e
 self:=λ_ _ _ _ st hQ=>wpAny_pyIter_keyiter st.1 hQ
theorem aad{o:Obj}{es:Array hJ}{ep:Nat}{d:af}(lo:(d==gn)=false)(hx:o.ExactDict)(Gk:o.data=.dict es ep):
  KdlSrc prog w "dict" d d es.size (λi v=>∃en,es[i]? =some en/\v=en.key) (λh=>h.get? d=some o) where
 type:=λ_ hm=>bq o hm hx.1
 there:=λ_ hm=>⟨bg hm,bg hm⟩
 keep:=λ_ _ hm hk=>hk d (.inl rfl) o hm
 notList:=by decide
 notTuple:=by decide
 hint:=λ_ _ _ _ hm hq=>PySem.W.kdl_hint_dict (bq o hm hx.1) hq
 iter:=λ_ _ hh hm=>bt _ _ (λ_ _ hq=>Ro lo hm hx Gk hq) (U2 Gk hh _ d (bV (bg hm))) ⟨bP _ (aU _ rfl) rfl rfl,aj _ hm⟩
theorem OM{o:Obj}{es:Array hJ}{ep:Nat}{d:af}{Q:List ak->az->Prop}(hh:A.handled=none)(lo:(d==gn)=false)(ho:s.heap.get? d=some o)(hx:o.ExactDict)(Gk:o.data=.dict es ep)(hsz:es.size<=aA)(h:∀h' tk,s.heap.objs.size<h'.objs.size->(∀b o,s.heap.get? b=some o->h'.get? b=some o)->Q (es.toList.map (·.key)) {s with heap:=h',toks:=tk}):bj (model prog w) A (collect (.ref d)) Q E s:=by
 unfold collect;refine ae (wpAny_runValue (gj entry_proto_collect' ?_));show bj _ _ (do again (.builtin "list.__iadd__" ⟨[<-newList [],.ref d],[]⟩)) _ _ s;refine ae (XH (aJ ⟨Kh _ (by decide+kernel),gj entry_list_iadd' ?_⟩));have oR:d<s.heap.objs.size:=bg ho;rw[gr (show plainId "list.__iadd__"=true by decide+kernel) _];refine PySem.W.kdl_extend (prog:=prog) (w:=w) (A:=A) (R:=wants (λv s'=>bj (model prog w) A (match v with|.ref a=>(do let o <-load a;match o.data with|.seq xs _=>pure xs.toList|_=>unsupported "internal:collect")|_=>unsupported "internal:collect") Q E s') E) (s:={s with heap:=s.heap.push (SR "list" #[] 0)}) (aad lo hx Gk) hh (aj _ ho) s.heap.objs.size (dD oR) (dD oR) (.ref s.heap.objs.size) 0 (aU _ rfl) (λh' tk acc c hk hS xR=>?_) hsz;have ev:acc.toList=es.toList.map (·.key):=by
  apply oC;intro i;by_cases hi:i<es.size
  ·obtain⟨v,h1⟩:∃v,acc[i]? =some v:=⟨acc[i]'(by rw[xR.1];exact hi),by simp[xR.1,hi]⟩
   obtain⟨en,e1,e2⟩:=xR.2 i _ h1;rw[o4,h1,aV,o4,e1,e2];rfl
  ·rw[da (by rw[iB,xR.1];omega),da (by rw[aa,iB];omega)]
 show bj (model prog w) A (do
   let o <-load s.heap.objs.size
   match o.data with
   |.seq xs _=>pure xs.toList
   |_=>unsupported "internal:collect") Q E _
 refine ae (wpAny_load hS ?_);show bj _ _ (pure acc.toList) Q E _;rw[ev];exact aJ (h h' tk (bg hS) λb o e=>hk b o (bV (bg e)) (aj _ e))
theorem RU{o:Obj}{es:Array hJ}{ep:Nat}{d:af}{fs:List ak}{Q:ak->az->Prop}(hh:A.handled=none)(lo:(d==gn)=false)(ho:s.heap.get? d=some o)(hx:o.ExactDict)(Gk:o.data=.dict es ep)(hsz:es.size<=aA)(ht:TupsOf s.heap (λ_=>true) (es.toList.map (·.key)) fs)(hk:∀v,v∈es.toList.map (·.key)->∃l,tupKeyC s.heap (λ_=>true) v=some l)(h:∀(st:SortSt)(p:af)(h':cB)(tk:Nat)(n:Nat),(am4 st).Perm (pairsOf (es.toList.map (·.key)))->SortedToK (tupKindC s.heap λ_=>true) (am4 st) (pairsOf (es.toList.map (·.key))).size->s.heap.objs.size<=p->h'.get? p=some (SR "list" ((am4 st).map (·.2)) n)->(∀b o,s.heap.get? b=some o->h'.get? b=some o)->Q (.ref p) {s with heap:=h',toks:=tk}):bj (model prog w) A (call (.builtin "sorted") [.ref d]) Q E s:=by
 generalize hvs:es.toList.map (·.key)=vs at ht hk h;have hvl:vs.length<=aA:=by rw[<-hvs,aa,iB];exact hsz
 refine Calls.call_function_entry kind_sorted plain_sorted entry_sorted (args_sorted1 _) ?_;unfold Builtin.«sorted»;refine ae (m:=checkCount "sorted" 1 1 _) (aJ ?_);refine ae (OM (A:=_) hh lo ho hx Gk hsz λh1 tk hle k1=>?_);rw[hvs];refine ae (XH ?_);have hoL:(h1.push (SR "list" vs.toArray 0)).get? h1.objs.size=some (SR "list" vs.toArray 0):=aU _ rfl;have k0:KeepsTups s.heap (h1.push (SR "list" vs.toArray 0)):=λb o e c=>aj _ (k1 b o e);have k6:=k0.trans (keeps_sort6 (vs:=vs) hoL);show bj _ _ _ _ _ {s with heap:=h1.push (SR "list" vs.toArray 0),toks:=tk};refine ae (gG (fD slot_list_sort (ag hoL rfl) entry_list_sort (list_sort_treeG (κ:=tupKindC s.heap λ_=>true) (kd:=tuples' true) hoL (tupKeys hk) ?_ ?_ hvl λst a1 a2 a3=>ag rfl ?_) (args_list_sort _)))
 ·exact tupC_ltAt (s:={s with heap:=sortHeap6 (h1.push (SR "list" vs.toArray 0)) h1.objs.size vs,toks:=tk}) true k6
 ·intro h2 R hq;exact tup_kind (s:={s with heap:=sortHeap6 (h1.push (SR "list" vs.toArray 0)) h1.objs.size vs,toks:=tk}) (by rw[TupsOf.length ht];omega) (TupsOf.keep k6 ht) hq
 ·obtain⟨n,hn⟩:=sortedHeap_at (out:=(am4 st).map (·.2)) hoL;exact aJ (ag rfl (h st h1.objs.size _ tk n a1 a2 (cX hle) hn λb o e=>by have hb:b<h1.objs.size:=bg (k1 b o e);rw[sortedHeap_old (bV hb) (by rw[size_push'];exact kT hb)];exact aj _ (k1 b o e)))
end
theorem Mf:∀x y:List aH,lexLt an8 (x.map ig) (y.map ig)=gx x y
 |[],[]=>rfl
 |[],_::_=>rfl
 |_::_,[]=>rfl
 |a::x,b::y=>by
  show(an8.blt (ig a) (ig b)||(!an8.blt (ig b) (ig a)&&lexLt an8 (x.map ig) (y.map ig)))=(vi a b||(a==b&&gx x y));rw[Mf x y];show(decide (a<b)||(!decide (b<a)&&gx x y))=_;rw[<-En,<-En];by_cases e:a=b
  ·subst e;rw[tK];simp
  ·rw[show(a==b)=false by simpa using e]
   cases h1:vi a b with
   |true=>rfl
   |false=>rw[vR e h1];rfl
theorem U3{α β:Type}{f:α->β}{l:List β}{m:List β}(h:l.Perm m):∀{L:List α},m=L.map f->∃L':List α,L'.Perm L/\l=L'.map f:=by
 induction h with
 |nil=>intro L e;exact bq ([]) (by rw[jJ.mp e.symm]) rfl
 |cons x _ ih=>
  intro L e
  cases L with
  |nil=>cases e
  |cons a L=>
   rw[br] at e;cases e;obtain⟨L',h1,h2⟩:=ih rfl;exact bq (a::L') (h1.cons a) (by rw[h2];rfl)
 |swap x y l=>
  intro L e
  cases L with
  |nil=>cases e
  |cons a L=>cases L with
   |nil=>cases e
   |cons b L=>
    cases e;exact bq (b::a::L) (List.Perm.swap _ _ _) rfl
 |trans _ _ ih1 ih2=>intro L e;obtain⟨L1,h1,e1⟩:=ih2 e;obtain⟨L2,h2,e2⟩:=ih1 e1;exact bq L2 (h2.trans h1) e2
theorem Il:∀(x:List aH)(us:List ak)(i:Nat),Vals (eU x) us->tupItems (λ_=>true) i us=some (x.map ig)
 |[],us,i,h=>by cases h;rfl
 |a::x,us,i,h=>by
  cases h with
  |cons r t=>obtain⟨tk,rfl⟩:=r;show(if(true:Bool)=true then(tupItems (λ_=>true) (i+1) _).map (ig (sN a).cps.toList::·) else none)=_;rw[if_pos rfl,Il x _ (i+1) t,lZ];rfl
section
variable{X:Cx}
theorem ON(hc:X.calm=true):kO X (.builtin "sorted") (λxs H Q=>∃(d:af)(kvs:List (List Key×V))(ks:List (List aH)),xs=[.ref d]/\H d=some (.dT kvs)/\kvs.map (·.1)=ks.map (·.map AH)/\ks.Nodup/\(∀x∈ks,x≠[])/\∀(L:List (List aH×af))(p:af),(L.map (·.1)).Perm ks->mG (L.map (·.1))->(∀y∈L,H y.2=some (.tup (eU y.1)))->H p=none->Q (.ref p) (upd H p (.lst (L.map λy=>.ref y.2)))):=by
 intro pins s σ H vs us Q I r h;refine rq ?_ h;clear h;rintro d kvs ks rfl hd hks ⟨V4,k9,q⟩;rw[Vals.IP r];obtain⟨hz,lo,xs,pr,o,es,ep,ho,hx,Gk,he,hnx⟩:=I.dQ d _ hd;have hes:es.toList.map (·.key)=xs.map λz=>bz z.2.1:=by rw[he,aQ];rfl
 have zY:es.size=xs.length:=an6 he;have NH:kvs.length=xs.length:=rP pr;obtain⟨L0,e1,e2,LS⟩:∃L0:List (List aH×af),L0.map (·.1)=ks/\L0.map (·.2)=xs.map (·.2.1)/\∀y∈L0,H y.2=some (.tup (eU y.1)):=by
  clear hz he hes zY NH hd V4 k9 q hnx
  induction pr generalizing ks with
  |nil=>have:ks=[]:=jJ.mp hks.symm;exact bP ([]) (by rw[this];rfl) rfl (λy h=>nomatch h)
  |cons a t ih=>
   rename_i kv z OO xs'
   cases ks with
   |nil=>cases hks
   |cons k ks=>
    rw[br,br] at hks;injection hks with h1 h2
    refine cH ?_ (ih ks h2);rintro L0 f1 f2 f3;refine bP ((k,z.2.1)::L0) (by rw[br,f1]) (by rw[br,br,f2]) (λy hy=>?_);rcases aB.mp hy with e|e
    ·subst e;have:=a.2.1;rw[h1,<-Me] at this;exact this
    ·exact f3 y e
 have hv:es.toList.map (·.key)=L0.map λy=>bz y.2:=by
  rw[hes];have:(L0.map λy=>bz y.2)=(L0.map (·.2)).map bz:=by rw[aQ];rfl
  rw[this,e2,aQ];rfl
 have Yj:∀y∈L0,∃(it:List ak)(ot:Obj)(n:Nat),Vals (eU y.1) it/\s.heap.get? y.2=some ot/\ot.cls=.type "tuple"/\ot.data=.seq it.toArray n:=λy hy=>by obtain⟨_,it,rv,ot,h1,h2,n,h3⟩:=I.dQ y.2 _ (LS y hy);exact jK it ot n rv h1 ⟨h2,h3⟩
 have Yk:∀y∈L0,tupKeyC s.heap (λ_=>true) (.ref y.2)=some (y.1.map ig):=λy hy=>by
  refine rq ?_ (Yj y hy);rintro it ot n rv h1 h2 h3;have hc:isTupObj s.heap (.ref y.2)=true:=by simp only[isTupObj,h1,h2];rfl
  unfold tupKeyC;rw[if_pos hc];unfold tupKey;simp only[h1,h3];exact Il y.1 it 0 rv
 obtain⟨fs,hfs⟩:∃fs,TupsOf s.heap (λ_=>true) (L0.map λy=>bz y.2) fs:=by
  have:∀L:List (List aH×af),(∀y∈L,y∈L0)->∃fs,TupsOf s.heap (λ_=>true) (L.map λy=>bz y.2) fs:=by
   intro L
   induction L with
   |nil=>exactλ_=>⟨[],.nil⟩
   |cons y L ih=>
    intro hs;obtain⟨fs,hf⟩:=ih λz hz=>hs z (.tail _ hz);have hy:=hs y (.head _);refine rq ?_ (Yj y hy);rintro it ot n rv h1 h2 h3;have agJ:y.1≠[]:=k9 y.1 (by rw[<-e1];exact au.mpr (bq y hy rfl))
    cases hyc:y.1 with
    |nil=>exact absurd hyc agJ
    |cons b x=>
     rw[hyc] at rv
     cases rv with
     |cons r t=>rename_i u us;obtain⟨tk,rfl⟩:=r;exact⟨.str (sN b) tk::fs,.cons (gB y.2 ot _ n rfl h1 h2 h3 rfl ⟨λz=>by simp at z,λ_=>qr _ _ rfl⟩) hf⟩
  exact this L0 λy hy=>hy
 refine RU (I.ok.hd hc) lo ho hx Gk (by omega) (by rw[hv];exact hfs) (λv hm=>?_) λst p h' tk n a1 a2 hp hL hkk=>?_
 ·rw[hv] at hm;obtain⟨y,hy,rfl⟩:=au.mp hm;exact⟨_,Yk y hy⟩
 ·rw[hv] at a1 a2;have Im:(am4 st).toList.Perm (L0.map λy=>(bz y.2,bz y.2)):=by
   have:=Array.perm_iff_toList_perm.mp a1;rw[pairsOf_toList] at this;have e3:(L0.map λy=>bz y.2).zip (L0.map λy=>bz y.2)=L0.map λy=>(bz y.2,bz y.2):=by rw[List.zip_map']
   rw[e3] at this;exact this
  obtain⟨L,hLp,hLe⟩:=U3 Im rfl;have hLm:∀y∈L,y∈L0:=λy hy=>hLp.mem_iff.mp hy;have adh:((am4 st).map (·.2))=(L.map λy=>bz y.2).toArray:=by apply Array.ext';rw[Array.toList_map,hLe,aQ];rfl
  have adi:(L.map (·.1)).Nodup:=by refine(List.Perm.nodup_iff (hLp.map (·.1))).mpr ?_;rw[e1];exact V4
  have Qw:mG (L.map (·.1)):=by
   unfold mG;rw[List.pairwise_iff_getElem];intro i j hi hj hij;rw[aa] at hi hj;have hn0:(pairsOf (L0.map λy=>bz y.2)).size=L.length:=by rw[pairsOf_size,aa,hLp.length_eq]
   have hs:=a2 i j (cX hij) (by rw[hn0];exact hj);have kk:∀i(h:i<L.length),KK (tupKindC s.heap λ_=>true) (am4 st) i=L[i].1.map ig:=λi h=>by
    have:(am4 st)[i]? =some (bz L[i].2,bz L[i].2):=by rw[<-o4,hLe,aV,aw h];rfl
    unfold KK;rw[this];show((tupKeyC s.heap (λ_=>true) (.ref L[i].2)).getD [])=_;rw[Yk _ (hLm _ (Hu h))];rfl
   rw[kk i hi,kk j hj] at hs;have Rz:lexLt an8 (L[j].1.map ig) (L[i].1.map ig)=false:=hs;rw[Mf] at Rz;rw[aa1,aa1];have agL:L[j].1≠L[i].1:=λe=>by have:=acR adi (i:=j) (j:=i) (x:=L[i].1) (by rw[aV,aw hj];exact congrArg some e) (by rw[aV,aw hi];rfl);omega
   exact vT agL Rz
  have adj:Vals (L.map λy=>V.ref y.2) (L.map λy=>bz y.2):=by
   clear hLp hLe hLm adh adi Qw
   induction L with
   |nil=>exact .nil
   |cons y L ih=>exact .cons rfl ih
  refine bt (.ref p) _ (I.laid (t':=tk) hkk hp (show fF X.prog X.w _ h' _ (.lst (L.map λy=>V.ref y.2)) from⟨?_,fu _ n adj ?_⟩)) rfl (q L p ?_ Qw (λy hy=>LS y (hLm y hy)) (I.dQ.fresh hp))
  ·rw[aa,hLp.length_eq];have:L0.length=ks.length:=by rw[<-e1,aa]
   have h2:ks.length=kvs.length:=by have:=congrArg Bf hks;rw[aa,aa] at this;exact this.symm
   omega
  ·rw[hL,adh]
  ·rw[<-e1];exact hLp.map (·.1)
end
end
end Bp
namespace Bp
open PySem PySem.Spec PyProof.Rows L2
theorem Mg(l:af)(items:Array ak)(n:Nat)(xY:Option af)(sl:Array (Option ak))(t:Tok):
  aez (Builtin.«enumerate.__new__» ⟨[.type "enumerate",.ref l],[("start",.int 1 t)]⟩) (λ_ R s=>s.heap.get? l=some {cls:=.type "list",dict:=xY,data:=.seq items n,slots:=sl}/\R (.ok (.ret (.ref (s.heap.push {cls:=.type "list_iterator",data:=.fields #[.ref l,.int 0 0]}).objs.size))) {s with heap:=(s.heap.push {cls:=.type "list_iterator",data:=.fields #[.ref l,.int 0 0]}).push {cls:=.type "enumerate",data:=.fields #[.none,.bool false,.ref s.heap.objs.size,eW 1,.none,.none]}}):=
 .of_wp λprog w A R s h=>by
  obtain⟨hp,g,d,tk,os⟩:=s;obtain⟨hl,h⟩:=h;have ud:=sub_enumerate;have hL:QS (QT ⟨hp,g,d,tk,os⟩) l items:=bP _ hl rfl ⟨n,rfl⟩;wp_walk using dF hl;refine wpAny_stack_any λst=>aJ ?_;split
  ·rename_i c _ _ _ _ _;cases(c==m6 "enumerate")
   ·wp_walk using dF hl,fR hL;exact ag rfl h
   ·wp_walk using dF hl,fR hL;exact ag rfl h
  ·wp_walk using dF hl,fR hL;exact ag rfl h
theorem U4(a:ak)(t:Tok):XF "enumerate" ⟨[a],[("start",.int 1 t)]⟩=pure ():=by kernel_rfl
theorem U5(a:ak)(t:Tok):Pg "enumerate.__new__" ⟨[.type "enumerate",a],[("start",.int 1 t)]⟩=pure ():=by kernel_rfl
theorem U6(a b:ak)(t:Tok):VT "object.__init__" ⟨[a,b],[("start",.int 1 t)]⟩:=by unfold VT;rw[signature?_of (id:="object.__init__") (n:=['_','_','t','i','n','i','_','_']) (o:=['t','c','e','j','b','o']) (by kernel_rfl) F.owner_object];kernel_rfl
section
variable{prog:bp}{w:bQ}{A:cy}{E:ak->az->Prop}{s:az}
theorem U7{T newId:String}{self a:ak}{kw:List (Str×ak)}(hl:aij (.type T) "__init__"=pure (some (.builtin "object.__init__")))(hm:Bind.madeBy (.type T)=pure (some newId))(k9:(some newId !=some "object.__new__")=true):
  aez (Builtin.«object.__init__» ⟨[self,a],kw⟩) (λ_ R s=>s.TypeIs self T/\R (.ok (.ret .none)) s):=by
 refine Meets.of_wp λprog w A R s hs=>?_;obtain⟨hT,hq⟩:=hs
 repeat (any_goals(first|assumption|wp_step))
 exact ag rfl hq
theorem Xm{T newId:String}{Bn:Builtin}{a:ak}{kw:List (Str×ak)}{S:PySem.Spec}{Q:ak->az->Prop}(ft:TypeCalled T newId "object.__init__")(k9:(some newId !=some "object.__new__")=true)(hct:XF T ⟨[a],kw⟩=pure ())(hcn:Pg newId ⟨[.type T,a],kw⟩=pure ())(dQ:∀obj,VT "object.__init__" ⟨[obj,a],kw⟩)(aaf:entryFor table newId=some Bn)(g:aez (Bn ⟨[.type T,a],kw⟩) S)(h:S A.in1 (wants (λobj s1=>s1.TypeIs obj T/\Q obj s1) E) s):bj (model prog w) A (call (.type T) [a] kw) Q E s:=by
 refine Ks ?_ ft.mro;rintro c tl agv;have ac9:=ft.made;have ud:=ft.sub;refine Kj (an7 ?_);show bj _ _ (callAny (.type T) _) _ _ _;refine aJ ⟨Kh _ (by decide+kernel),gj ajS ?_⟩;rw[aie (abP T [a] kw) (units_type_call_type T [a] kw)];have h1:=ft.notType;have h2:=ft.canCreate
 repeat (any_goals(first|assumption|wp_step))
 refine k7 (FU ft.plain aaf (QR hcn (g prog w A.in1 _ s h))) λr s1 hr=>?_
 cases r with
 |error e=>exact hr
 |ok fl=>
  cases fl with
  |ret obj=>
   obtain⟨hT,hQ⟩:=hr;have hli:=ft.init.lookup;have hbi:=ft.init.bind obj
   repeat (any_goals(first|assumption|wp_step))
   refine k7 (FU (R:=wants (λr s2=>r=.none/\Q obj s2) E) ft.init.plain F.entry_object_init (ft.init.check _ _ _ _ _ _ _ _ hT (dQ obj) (U7 ft.init.lookup ft.made k9 prog w A.in1 _ s1 ⟨hT,rfl,hQ⟩))) λr2 s2 Kp=>?_
   cases r2 with
   |error e=>exact Kp
   |ok fl2=>
    cases fl2 with
    |ret r=>
     obtain⟨rfl,hq⟩:=Kp
     repeat (any_goals(first|assumption|wp_step))
    |_=>exact Kp.elim
  |_=>exact hr.elim
theorem OP{l:af}{items:Array ak}{t:Tok}{Q:ak->az->Prop}(hL:s.heap.IsList l items)(h:∀h',Gd h' (s.heap.objs.size+1) s.heap.objs.size 1 .none->h'.IsListIter s.heap.objs.size l 0->(∀b o,s.heap.get? b=some o->h'.get? b=some o)->Q (.ref (s.heap.objs.size+1)) {s with heap:=h'}):
  bj (model prog w) A (call (.type "enumerate") [.ref l] [("start",.int 1 t)]) Q E s:=by
 refine cH ?_ hL;rintro⟨c,xY,dt,sl⟩ hl hc ⟨n,hd⟩;replace hc:c=.type "list":=hc;replace hd:dt=.seq items n:=hd;subst hc hd;refine Xm F.called_enumerate (by decide) (U4 _ _) (U5 _ _) (λobj=>U6 obj _ _) F.entry_enumerate_new (Mg l items n xY sl t) ⟨hl,?_⟩;have hz:(s.heap.push {cls:=.type "list_iterator",data:=.fields #[.ref l,.int 0 0]}).objs.size=s.heap.objs.size+1:=cO ..;show _/\_;rw[hz];have he:Gd ((s.heap.push {cls:=.type "list_iterator",data:=.fields #[.ref l,.int 0 0]}).push {cls:=.type "enumerate",data:=.fields #[.none,.bool false,.ref s.heap.objs.size,eW 1,.none,.none]}) (s.heap.objs.size+1) s.heap.objs.size 1 .none:=by have:=aU (s.heap.push {cls:=.type "list_iterator",data:=.fields #[.ref l,.int 0 0]}) (o:={cls:=.type "enumerate",data:=.fields #[.none,.bool false,.ref s.heap.objs.size,eW 1,.none,.none]}) rfl;rw[hz] at this;exact this
 exact⟨ag he rfl,h _ he (bP _ (aj _ (aU _ rfl)) rfl rfl) λb o x=>aj _ (aj _ x)⟩
theorem OQ{e it l:af}{i:Nat}{c:Int}{items:Array ak}{x old:ak}{Q:Option ak->az->Prop}(he:Gd s.heap e it c old)(hit:s.heap.IsListIter it l i)(hl:s.heap.IsList l items)(hx:items[i]? =some x)(k9:e≠it)(hQ:∀h',am6 h' e it (c+1) x s.heap.objs.size->h'.IsListIter it l (i+1)->h'.get? s.heap.objs.size=some {cls:=.type "tuple",data:=.seq #[.int c s.toks,x]}->(∀b o,b≠e->b≠it->s.heap.get? b=some o->h'.get? b=some o)->Q (some (.ref s.heap.objs.size)) {s with heap:=h',toks:=s.toks+1}):bj (model prog w) A (jH (.ref e)) Q E s:=by
 have hT:s.TypeIs (.ref e) "enumerate":=ag he rfl;unfold jH;refine ae (lS (ff (name:=aS "__next__") hT ro (fD ro hT aaN ?_ (Yw _))));obtain⟨hp,g,d,tk,os⟩:=s;show bj _ _ (field (.ref e) 2 >>= _) _ _ _;refine ae (eZ he rfl (x:=.ref it) rfl ?_);refine ae (qo hit hl hx λa1 agM b1=>?_);replace b1:eM it hp a1:=b1;have e1:Gd a1 e it c old:=(b1.2 e k9).trans he;show bj _ _ (field (.ref e) 3 >>= _) _ _ ⟨a1,g,d,tk,os⟩;refine ae (eZ e1 rfl (x:=eW c) rfl ?_);show bj _ _ (field (.ref e) 4 >>= _) _ _ ⟨a1,g,d,tk,os⟩;refine ae (eZ e1 rfl (x:=.none) rfl ?_);show bj _ _ (mkInt c >>= _) _ _ ⟨a1,g,d,tk,os⟩;refine ae (wpAny_mkInt ?_);show bj _ _ (M5 (.ref e) 3 (eW (c+1)) >>= _) _ _ ⟨a1,g,d,tk+1,os⟩;refine ae (cZ e1 (by simp) λa2 e2 b2=>?_);replace b2:eM e a1 a2:=b2;replace e2:Gd a2 e it (c+1) old:=e2;show bj _ _ (M5 (.ref e) 4 .none >>= _) _ _ ⟨a2,g,d,tk+1,os⟩;refine ae (cZ e2 (by simp) λa3 e3 b3=>?_);replace b3:eM e a2 a3:=b3;replace e3:Gd a3 e it (c+1) old:=e3;show bj _ _ (newTuple [.int c tk,x] >>= _) _ _ ⟨a3,g,d,tk+1,os⟩;refine ae (VP ?_);have e4:Gd (a3.push {cls:=.type "tuple",data:=.seq #[.int c tk,x]}) e it (c+1) old:=aj _ e3;have hsz:a3.objs.size=hp.objs.size:=by rw[b3.1,b2.1,b1.1]
 have ZY:e<hp.objs.size:=bg he;have t4:(a3.push {cls:=.type "tuple",data:=.seq #[.int c tk,x]}).get? hp.objs.size=some {cls:=.type "tuple",data:=.seq #[.int c tk,x]}:=by rw[<-hsz];exact aU _ rfl
 have k4:∀b o,b≠e->b≠it->hp.get? b=some o->(a3.push {cls:=.type "tuple",data:=.seq #[.int c tk,x]}).get? b=some o:=λb o h1 h2 hb=>aj _ (b3.extBut b o h1 (b2.extBut b o h1 (b1.extBut b o h2 hb)));have i4:(a3.push {cls:=.type "tuple",data:=.seq #[.int c tk,x]}).IsListIter it l (i+1):=by obtain⟨o,ho,r⟩:=(agM.extBut b2.extBut (nj k9)).extBut b3.extBut (nj k9);exact bq o (aj _ ho) r
 generalize a3.push {cls:=.type "tuple",data:=.seq #[.int c tk,x]}=a4 at e4 t4 k4 i4;show bj _ _ (eJ (.ref e) >>= _) _ _ ⟨a4,g,d,tk+1,os⟩;rw[hsz];refine ae ?_;unfold eJ;refine ae (eZ e4 rfl (x:=.none) rfl (aJ ?_));simp only[if_true];refine ae (aik ?_);refine ae (eZ e4 rfl (x:=old) rfl ?_);refine ae (cZ e4 (by simp) λa5 e5 b5=>?_);replace b5:eM e a4 a5:=b5;replace e5:Gd a5 e it (c+1) x:=e5;show bj _ _ (iV (.ref e) (.ref hp.objs.size) >>= _) _ _ ⟨a5,g,d,tk+1,os⟩;refine ae ?_;unfold iV;refine ae (cZ e5 (by simp) λa6 e6 b6=>?_);replace b6:eM e a5 a6:=b6;replace e6:am6 a6 e it (c+1) x hp.objs.size:=e6;refine cZ e6 (by simp) λa7 e7 b7=>?_;replace b7:eM e a6 a7:=b7;replace e7:am6 a7 e it (c+1) x hp.objs.size:=e7;refine ae (m5 (aJ (ag rfl (aJ (hQ a7 e7 ?_ ?_ ?_)))))
 ·exact((i4.extBut b5.extBut (nj k9)).extBut b6.extBut (nj k9)).extBut b7.extBut (nj k9)
 ·exact b7.extBut _ _ (dD ZY) (b6.extBut _ _ (dD ZY) (b5.extBut _ _ (dD ZY) t4))
 ·exactλb o h1 h2 hb=>b7.extBut b o h1 (b6.extBut b o h1 (b5.extBut b o h1 (k4 b o h1 h2 hb)))
theorem RV{e it l:af}{i:Nat}{c:Int}{items:Array ak}{old:ak}{Q:Option ak->az->Prop}(hh:A.handled=none)(he:Gd s.heap e it c old)(hit:s.heap.IsListIter it l i)(hl:s.heap.IsList l items)(hx:items[i]? =none)(hQ:∀h',aer it s.heap h'->Q none {s with heap:=h'}):bj (model prog w) A (jH (.ref e)) Q E s:=by have hT:s.TypeIs (.ref e) "enumerate":=ag he rfl;unfold jH;refine ae (lS (ff (name:=aS "__next__") hT ro (fD ro hT aaN ?_ (Yw _))));show bj _ _ (field (.ref e) 2 >>= _) _ _ _;refine ae (eZ he rfl (x:=.ref it) rfl ?_);refine ae (abO hh hit hl hx λh' x rA Zu=>?_);obtain⟨o,ho,hc⟩:=Zu;exact ae (A3 (T:="StopIteration") (b:=true) (bq o ho hc) FX (aJ (hQ _ rA)))
end
def adk(K:ah)(a:af):It:=⟨λi H=>∃(xs:List V)(x:V),bG K H a xs/\xs[i]? =some x,λi H v H'=>∃T x,v=.ref T/\H T=none/\H'=upd H T (.tup [.int ((i+1:Nat):Int),x])/\∀xs,bG K H a xs->xs[i]? =some x,λi H=>∃xs:List V,bG K H a xs/\xs.length<=i⟩
theorem OR{P:bp}{w:bQ}{K:ah}{elts:List Expr}{kk:Nat}{u6:Pos}(a e it:af):
  Turn P w K (.Tuple elts kk u6) (adk K a) [e,it] e (λi h=>(∃old,Gd h e it ((i+1:Nat):Int) old)/\h.IsListIter it a i/\e≠it) where
 mem:=by simp
 obj:=λi h st b hb=>by
  obtain⟨⟨old,he⟩,⟨o,ho,hc,hd⟩,_⟩:=st;have e':b=e∨b=it:=by simpa using hb
  rcases e' with z|z
  ·rw[z];exact ag he (λv q=>nomatch q)
  ·rw[z];exact bq o ho (λv q=>by rw[hd] at q;cases q)
 keep:=λi h h' st k=>let⟨⟨old,he⟩,hi,k9⟩:=st;⟨⟨old,k e (by simp) _ he⟩,hi.at λo q=>k it (by simp) o q,k9⟩
 item:=by
  intro X hP hw hK hc i pins s σ H E I hf st hg;subst hP hw hK;obtain⟨⟨old,he⟩,hit,k9⟩:=st;refine jk ?_ hg;rintro xs x hq hx;refine cH ?_ (I.list hq);rintro its rv p hz;obtain⟨u,hu,ru⟩:=rv.get hx;have ZY:e<s.heap.objs.size:=bg he;have Yh:it<s.heap.objs.size:=by obtain⟨_,q,_⟩:=hit;exact bg q
  refine OQ he hit p.isList (x:=u) (by simpa using hu) k9 λh' ho Rp hT hk=>?_;refine ag rfl (wpAny_letOwnedTupleGo_enum (s:={s with heap:=h',toks:=s.toks+1}) ho λNd rA sb=>?_);have WI:Nd.get? s.heap.objs.size=some {cls:=.type "tuple",data:=.seq #[.int ((i+1:Nat):Int) s.toks,u]}:=(sb.2 _ (dD ZY)).trans hT;have new:fF X.prog X.w (upd H s.heap.objs.size (.tup [.int ((i+1:Nat):Int),x])) Nd s.heap.objs.size (.tup [.int ((i+1:Nat):Int),x]):=⟨by show 2<=aA;decide,bq ([.int ((i+1:Nat):Int) s.toks,u]) (.cons ⟨_,rfl⟩ (.cons ru .nil)) (bP _ WI rfl ⟨_,rfl⟩)⟩;have I1:Inv X pins σ (upd H s.heap.objs.size (.tup [.int ((i+1:Nat):Int),x])) {s with heap:=Nd,toks:=s.toks+1}:=I.xk (ch:=[e,it]) (λb ob hb q=>(sb.2 b (λz=>hb (by simp[z]))).trans (hk b ob (λz=>hb (by simp[z])) (λz=>hb (by simp[z])) q)) hf (aK _) new;refine dH (.ref s.heap.objs.size) _ I1 rfl (dH _ x rfl (I.dQ.fresh (aK _)) rfl (λys hy=>by rw[I.pM hy hq];exact hx)) ⟨⟨⟨u,?_⟩,Rp.at λo q=>(sb.2 it (nj k9)).trans q,k9⟩,λb hb=>?_⟩
  ·have e1:((i+1+1:Nat):Int)=((i+1:Nat):Int)+1:=by omega
   rw[e1];exact rA
  ·have Dc:b<s.heap.objs.size:=by
    have e':b=e∨b=it:=by simpa using hb
    rcases e' with z|z
    ·rw[z];exact ZY
    ·rw[z];exact Yh
   rw[ay (bV Dc)];exact(hf b hb).1
 done:=by intro X hP hw hK hc i pins s σ H E I hf st hg;subst hP hw hK;obtain⟨⟨old,he⟩,hit,k9⟩:=st;obtain⟨xs,hq,hx⟩:=hg;refine cH ?_ (I.list hq);rintro its rv p hz;obtain⟨f0,f1,f2,f3,f4,f5⟩:=hf it (by simp);have hl:=rv.length;exact RV (I.ok.hd hc) he hit p.isList (by simp;omega) λh' eb=>⟨rfl,I.turned (t':=s.toks) (λb o hb q=>eb b o hb q) f0 f1 f3 f4 f5⟩
 self:=λA i s Q E st h=>let⟨⟨_,he⟩,_⟩:=st;ajT he h
def aag(K:ah)(ta:TA):TI:=λσ H R=>ta σ H λvs H1=>∃a xs,vs=[.ref a]/\bG K H1 a xs/\R (adk K a) H1
theorem JT{M:YE}{A:cy}{E:ak->az->Prop}{s:az}{env:Env}{pos:Pos}{T:String}{e:Expr}{kws:List Ce}{Q:ak->az->Prop}(h:bj M A (spliced (fO pos (bO [e] env))) (λvs s1=>bj M A (evalAll ((iX pos (eY kws env)).map (·.2))) (λkvs s2=>bj M A (call (.type T) vs (((iX pos (eY kws env)).filterMap (·.1)).zip kvs)) Q E s2) E s1) E s)(he:fO pos (bO [e] env)=(false,eval e env)::fO pos (bO [] env):=by rfl)(lj:(iX pos (eY kws env)).all (·.1.isSome)=true:=by rfl)(hkw:(iX pos (eY kws env)).any (·.1.isNone)=false:=by rfl):
  bj M A (qp pos (.type T) [] (fO pos (bO [e] env)) (iX pos (eY kws env))) Q E s:=by
 unfold qp;rw[he] at h⊢;refine ae (gG (fq (evalArgs_kwB (Q:=λa s1=>bj M A (call (.type T) a.pos a.kw) Q E s1) lj h) (λa s1 h1=>ae (Iv ?_)) λ_ _ x=>x));simp only[hkw,show((false,eval e env)::fO pos (bO [] env)).any (·.1)=false from rfl,Pn];refine ae (aJ ?_);exact ae (fq h1 (λr s2 hr=>ae (gG (wpAny_point (aJ hr)))) λ_ _ x=>x)
theorem U8{X:Cx}{e:Expr}{ta:TA}{p pos u6 kp Ra:Pos}{elts:List Expr}{kk j:Nat}(hg:Gl X "enumerate")(hm:X.mg "enumerate"=none)(ha:PA X [e] ta)(hb:fO pos (bO [e] X.env)=(false,eval e X.env)::fO pos (bO [] X.env):=by rfl):
  PI X (.Tuple elts kk u6) (.Call (.Name "enumerate" p) [e] [⟨some "start",.Constant (.int 1) j Ra,kp⟩] pos) (aag X.K ta):=by
 intro pins s σ H R I h;refine jr (vq I hg hm boot_enumerate (JT (kws:=[⟨some "start",.Constant (.int 1) j Ra,kp⟩]) (iM (ha pos pins s σ H _ I h) λus s1 ⟨vs,H1,I1,r1,q1⟩=>?_) hb));refine j7 ?_ q1;rintro a xs ex hq q;subst ex;rw[Vals.IP r1];refine kws_cons (aib (kws_nil ?_));refine cH ?_ (I1.list hq);rintro its rv p' hz;refine OP (s:={s1 with toks:=s1.toks+1}) p'.isList λh' he hit hk=>ajT he ?_;have I2:Inv X pins σ H1 {s1 with heap:=h',toks:=s1.toks+1}:=I1.kept (t':=s1.toks+1) hk;refine o6 (s1.heap.objs.size+1) ([s1.heap.objs.size+1,s1.heap.objs.size]) _ _ H1 ⟨rfl,I2,OR a (s1.heap.objs.size+1) s1.heap.objs.size,⟨⟨.none,he⟩,hit,Nat.succ_ne_self _⟩,λb hb=>?_,q⟩;have e':b=s1.heap.objs.size+1∨b=s1.heap.objs.size:=by simpa using hb
 have hle:s1.heap.objs.size<=b:=by
  rcases e' with z|z
  ·rw[z];exact pw _ _
  ·rw[z];exact aK _
 exact I1.IE hle (I1.dQ.fresh hle)
end Bp
namespace Bp
open PySem PySem.Spec PyProof.Rows L2 Bm
variable{P:bp}{w:bQ}{K:ah}{mg:Str->Option ak}{base:cB}{A:Cl}
section
open Vbslai (enough)
def Mh(A:Cl):Sp:=λvs H Q _=>∃(p dx:af)(c n v:V),vs=[.ref p,c,n,v]/\H p=some (.ins A.row dx [])/\
 ∀(H':Hp),H' p=some (.ins A.row dx (yA c n v))->(∀b o,H b=some o->b≠p->H' b=some o)->Q .h9 H'
theorem CG(T:Txt K mg A):C0 P w K mg base "Row" A.row 1 ["self","sleeper","secret","cells"] (Mh A):=by
 refine T.row.init.g8 Lx (λf _ A' _ s H vs Q E hr=>CV ?_)
 ·rintro p dx c n v ⟨rfl,hp,k⟩;refine ag (ax (d9 (pv 0) (pv 1) rfl) (ax (d9 (pv 0) (pv 2) rfl) (aG (d9 (pv 0) (pv 3) rfl)))) ?_;refine ag rfl (ag rfl (sJ hp T.row.cl T.row.pG (by decide) (ag rfl (ag rfl (sJ ai T.row.cl T.row.EK LX (ag rfl (ag rfl (sJ ai T.row.cl T.row.As put2 ?_))))))));refine k _ ?_ λb o e hb=>?_
  ·rw[ai,Oh]
  ·rw[ay hb,ay hb,ay hb];exact e
def AI(A:Cl):Sp:=λvs H Q _=>∃(a:af)(as:List af)(rows:List gi),vs=[.ref a]/\H a=some (.lst (iZ as))/\wJ A H as rows/\rows.length<=100/\∀H',aT H H'->Q (.int (((Bj rows).length:Nat):Int)) H'
theorem mU(T:Txt K mg A):Def P w K mg base "unlike_secrets" 1 ["rows"] (AI A):=by
 refine T.Lw.EM.g8 mN (λf _ A' _ s H vs Q E hr=>rq ?_)
 ·rintro a as rows rfl ha hR ⟨hn,k⟩;refine cH ?_ (Paired.unzip hR);rintro l rfl rfl hl;rw[AG] at ha;rw[aa] at hn;refine ag (aG (aY (cJ Ig (by rfl) T.b.dS cP (aI (sd (LM rfl) (by rfl) T.b.Yc Uu (aI (ia rfl (own:=[("row",1)]) mN.nd (dI (pv 0)) (cR (by kernel_rfl)) (λ_ _ _ _ _=>(bU (i:=1) mN.nd rfl fz)) (λ_ _ _ _ _=>eQ) (λ_ _ _ _ _=>(kL (K:=K) rfl (pv 1) rfl))) aq)) aq)))) ?_;refine kK ?_;refine kK ?_;refine fC ?_;refine ag rfl (bP a rfl ⟨_,bG.of ha⟩ ?_);refine j5 (enc:=λp:af×gi=>V.ref p.1) (f:=λp=>.int ((p.2.secret:Nat):Int)) (bG.of ha) (ao hn (by decide)) (λi x H' R hi k' Ri=>?_) (λD H' hD hs he=>?_)
  ·refine jk ?_ ((hl x (aN hi)).mono k');rintro dx cl g1 g2;exact⟨rfl,fI g1 T.row.cl T.row.EK Aw (Ri _ (aT.refl _))⟩
  ·have e:(l.map λp=>V.int ((p.2.secret:Nat):Int))=((l.map λp=>p.2.secret).map Gn).map kV:=by rw[aQ,aQ];rfl
   refine dH D ((l.map λp=>p.2.secret).map Gn) rfl (bG.of (by rw[he,e])) (by rw[aa,aa];omega) (λp hp=>?_);refine bt p _ rfl ai ?_;rw[U0 Xl,aa];have e2:dd (l.map λp=>p.2.secret)=Bj (l.map (·.2)):=by rw[Jb,aQ];rfl
   rw[e2];exact k _ (hs.trans (aD hp))
def BV(A:Cl):Sp:=λvs H Q _=>∃(a:af)(as:List af)(rows:List gi)(n:Nat),vs=[.ref a,.int (n:Nat)]/\H a=some (.lst (iZ as))/\wJ A H as rows/\rows.length<=100/\n<=100/\
 ∀D H',H D=none->aT H H'->H' D=some (.lst (gZ (kG n rows)))->Q (.ref D) H'
theorem count_eq(l:List Nat)(v:Nat):(gZ l).countP (λz=>PK z (.int (v:Int)))=(l.filter λx=>x==v).length:=by
 unfold gZ;rw[List.countP_map,<-List.countP_eq_length_filter];congr 1;funext x;show PK (.int (x:Int)) (.int (v:Int))=(x==v);show((x:Int)==(v:Int))=(x==v);by_cases q:x=v
 ·subst q;simp
 ·rw[show(x==v)=false by simpa using q];simp;omega
theorem sP(T:Txt K mg A):Def P w K mg base "secret_counts" 1 ["rows","value_count"] (BV A):=by
 refine T.Lw.GV.g8 ij (λf _ A' _ s H vs Q E hr=>u1 ?_)
 ·rintro a as rows n rfl ha hR hn hn2 k;refine cH ?_ (Paired.unzip hR);rintro l rfl rfl hl;rw[AG] at ha;rw[aa] at hn;refine ag (ax (cg (i:=2) ij.nd rfl fz (ia rfl (own:=[("row",3)]) ij.nd (dI (pv 0)) (cR (by kernel_rfl)) (λ_ _ _ _ _=>(bU (i:=3) ij.nd rfl fz)) (λ_ _ _ _ _=>eQ) (λ_ _ _ _ _=>(kL (K:=K) rfl (pv 3) rfl)))) (aG (aY (ia rfl (own:=[("value",4)]) ij.nd (Q0 (by rfl) T.b.Qh (aI (pv 1) aq)) (cR (by kernel_rfl)) (λ_ _ _ _ _=>(bU (i:=4) ij.nd rfl fz)) (λ_ _ _ _ _=>eQ) (λ_ _ _ _ _=>(OL (K:=K) rfl (pv 2) (pv 4))))))) ?_;refine ba ?_;refine fC ?_;refine ag rfl (bP a rfl ⟨_,bG.of ha⟩ ?_);refine j5 (enc:=λp:af×gi=>V.ref p.1) (f:=λp=>.int ((p.2.secret:Nat):Int)) (bG.of ha) (ao hn (by decide)) (λi x H' R hi k' Ri=>?_) (λD H' hD hs he=>?_)
  ·refine jk ?_ ((hl x (aN hi)).mono k');rintro dx cl g1 g2;exact⟨rfl,fI g1 T.row.cl T.row.EK Aw (Ri _ (aT.refl _))⟩
  ·have e:(l.map λp=>V.int ((p.2.secret:Nat):Int))=gZ ((l.map (·.2)).map (·.secret)):=by unfold gZ;rw[aQ,aQ];rfl
   rw[e] at he;refine ck ?_;refine jh ?_;refine fC ?_;refine ag rfl (iL (n:Int) rfl (by omega) (by omega) ?_);refine Fd (n:=n) (f:=λi=>.int (((((l.map (·.2)).map (·.secret)).filter λx=>x==i).length:Nat):Int)) (ao hn2 (by decide)) (λi H' hi _=>by show i<_;simpa using hi) (λH' _=>by show _<=n;simp) (λi x H' ou R hi k' y Ri=>?_) (λD2 H2 CF Gg Xf=>?_)
   ·obtain⟨rfl,rfl⟩:=y;refine⟨rfl,bP _ rfl (.inl ⟨rfl,_,bG.of (k' _ _ he)⟩) (ag rfl (iD D _ _ rfl rfl (bG.of (k' _ _ he)) rfl ⟨U1 _,?_⟩))⟩;rw[Int.zero_add,count_eq];exact Ri _ (aT.refl _)
   ·refine k D2 H2 (hs.free CF) (hs.trans Gg) ?_;rw[Xf];refine congrArg (λz=>some (HO.lst z)) ?_;unfold kG gZ
    conv=>rhs;rw[aQ]
    refine dh λi _=>?_;show V.int _=V.int _;rw[nh,aa];rfl
def Hc(A:Cl):Sp:=λvs H Q _=>∃(a:af)(as:List af)(rows:List gi)(x u:Nat),vs=[.ref a,.int (x:Nat),.int (u:Nat)]/\H a=some (.lst (iZ as))/\wJ A H as rows/\rows.length<=100/\∀H',aT H H'->Q (.bl (enough x u rows)) H'
theorem yD(T:Txt K mg A):Def P w K mg base "are_enough" 2 ["rows","k","u"] (Hc A):=by
 refine T.Lw.N3.g8 Ha (λf _ A' _ s H vs Q E hr=>CV ?_)
 ·rintro a as rows x u ⟨rfl,ha,hR,hn,k⟩;have hl:(iZ as).length=rows.length:=by rw[cu,Paired.len hR]
  have eX:∀b H',enough x u rows=b->aT H H'->Q (.bl b) H':=λb H' h2 h3=>by rw[<-h2];exact k H' h3
  refine ag (aG (aY (mx (je XW (cJ bx (by rfl) T.b.dS cP (aI (pv 0) aq)) (pv 1) (cC _)) (pL (je XW (bF (mU T) hr.mono rfl (aI (pv 0) aq)) (pv 2) (cC _)))))) ?_;refine ag rfl (bt a _ rfl (.inl (bG.of ha)) (ag rfl (bt _ _ rfl rfl (ag rfl (fG (λe1=>?_) (λe1=>?_))))))
  ·refine ag rfl (iD a as rows rfl ha hR hn (λH' hs=>ag rfl (bt _ _ rfl rfl (eX _ _ ?_ hs))));unfold enough;rw[hl] at e1;rw[decide_eq_true (show x<=rows.length by omega),m8];by_cases q:u<=(Bj rows).length
   ·rw[decide_eq_true q,decide_eq_true (by omega)]
   ·rw[decide_eq_false q,decide_eq_false (by omega)]
  ·refine eX _ _ ?_ (aT.refl _);unfold enough;rw[hl] at e1;rw[decide_eq_false (show¬x<=rows.length by omega),iW]
end
abbrev PR:=af×gi
structure gA(A:Cl)(cs:List bA)(H:Hp)(l:List PR):Prop where
 at':∀p∈l,sG A H p.1 p.2
 cells:∀p∈l,zc cs p.2.cells
 len:l.length<=40
theorem gA.mono{A:Cl}{cs:List bA}{H H':Hp}{l:List PR}(e:aT H H')(h:gA A cs H l):gA A cs H' l:=⟨λp hp=>(h.at' p hp).mono e,h.cells,h.len⟩
abbrev qh(l:List PR):List V:=l.map λp=>V.ref p.1
theorem JU{l:List PR}{i:Nat}{x:V}(h:(qh l)[i]? =some x):∃p,l[i]? =some p/\x=.ref p.1:=by
 unfold qh at h;rw[aV] at h
 cases e:l[i]? with
 |none=>rw[e] at h;cases h
 |some p=>rw[e] at h;exact bq p rfl ((aX h).symm)
theorem xw(l:List PR):qh l=iZ (l.map (·.1)):=(AG l).symm
theorem gA.sub{A:Cl}{cs:List bA}{H:Hp}{l m:List PR}(h:gA A cs H l)(s:m.Sublist l):gA A cs H m:=⟨λp hp=>h.at' p (s.subset hp),λp hp=>h.cells p (s.subset hp),ao s.length_le h.len⟩
theorem gA.rows{A:Cl}{cs:List bA}{H:Hp}{l:List PR}(h:gA A cs H l):wJ A H (l.map (·.1)) (l.map (·.2)):=Paired.OK h.at'
def Mi(K:ah)(A:Cl):Sp:=λvs H Q _=>∃(a b d:af)(fm:d8)(l:List PR)(p:PR)(ls:List Nat),vs=[.ref a,.ref b,.ref p.1,.ref d]/\gW A H a fm/\iN fm/\H b=some (.lst (qh l))/\gA A fm.columns H l/\p∈l/\
 bG K H d (gZ ls)/\lL fm.columns ls/\∀D H',H D=none->aT H H'->H' D=some (.lst (qh (l.filter λx=>aF fm.columns ls x.2==aF fm.columns ls p.2)))->Q (.ref D) H'
theorem Mj(T:Txt K mg A):Def P w K mg base "class_of" 4 ["form","rows","row","levels"] (Mi K A):=by
 refine T.Lw.Uz.g8 qZ (λf _ A' _ s H vs Q E hr=>nK ?_)
 ·rintro a b d fm l p ls ⟨rfl,F0,ok,hb,hl,hp,hd,Fo,k⟩;refine ip ?_ (id F0);rintro Qx lc lv as SF hf2 hf3 hf4;refine jk ?_ (hl.at' p hp);rintro dx cl g1 g2;refine ag (ax (cg (i:=4) qZ.nd rfl fz (cp (pv 0) T.iw.cl (lQ T) hr.mono (aI (bo (pv 2) rfl) (aI (pv 3) aq)))) (aG (aY (ia rfl (own:=[("other",5)]) qZ.nd (dI (pv 1)) (cR (by kernel_rfl)) (λ_ _ _ _ _=>(bU (i:=5) qZ.nd rfl fz)) (λ_ _ _ _ _=>(tq (cF (UN (K:=K) rfl hr.Bt) (cp (pv 0) T.iw.cl (lQ T) hr.mono (aI (kL (K:=K) rfl (pv 5) rfl) (aI (pv 3) aq))) (pv 4) (cC _)))) (λ_ _ _ _ _=>(pv 5)))))) ?_;refine ba ?_;refine mI SF j0 (fI g1 T.row.cl T.row.As qU (ag rfl (jb a cl d fm p.2.cells ls ⟨rfl,F0,ok,bG.of g2,hd,hl.cells p hp,Fo,λq H1 hq s1 e1=>?_⟩)));refine ck ?_;refine jh ?_;refine fC ?_;refine ag rfl (bP b rfl ⟨_,bG.of (s1 _ _ hb)⟩ ?_);refine l4 (enc:=λp:PR=>V.ref p.1) (f:=λp=>V.ref p.1) (p:=λx=>aF fm.columns ls x.2==aF fm.columns ls p.2) (bG.of (s1 _ _ hb)) (ao hl.len (by decide)) (λi x H' R S hi k' hR hS=>?_) (λD H' hD hs he=>?_)
  ·have hx:=aN hi;have s2:=s1.trans k';refine jk ?_ ((hl.at' x hx).mono s2);rintro Yl cl2 g3 g4;refine⟨rfl,mI (s2 _ _ SF) j0 (fI g3 T.row.cl T.row.As qU (ag rfl (jb a cl2 d fm x.2.cells ls ⟨rfl,F0.mono s2,ok,bG.of g4,s2.seq hd,hl.cells x hx,Fo,λq2 H3 hq2 s3 e3=>?_⟩)))⟩;refine ag rfl (iE q2 q _ _ rfl rfl (nY.of e3) (nY.of (s3 _ _ (k' _ _ e1))) (ag rfl (fG (λe=>ag rfl (hR ?_ _ s3)) (λe=>hS ?_ _ s3))))
   ·exact beq_iff_eq.mpr e
   ·exact beq_eq_false_iff_ne.mpr e
  ·exact k D H' (s1.free hD) (s1.trans hs) he
structure CI(H:Hp)(look:gi->List aH)(D:af)(l:List PR)(ks:List (List aH))(ps:List (List aH×af×List PR))(H2:Hp):Prop where
 same:aT H H2
 dict:H2 D=some (.dT (ps.map λp=>(p.1.map AH,V.ref p.2.1)))
 nd:(ps.map (·.2.1)).Nodup
 new:∀p∈ps,H p.2.1=none/\p.2.1≠D
 lst:∀p∈ps,H2 p.2.1=some (.lst (qh p.2.2))
 rows:∀p∈ps,p.2.2=l.filter λx=>look x.2==p.1
 keys:ps.map (·.1)=ks
 kn:ks.Nodup
theorem CH{x y:List aH}(h:x.map AH=y.map AH):x=y:=(List.map_inj_right (λa b e=>Qv a b e)).mp h
theorem Qy{ps:List (List aH×af×List PR)}{x:List aH}(h:¬x∈ps.map (·.1)):jc (ps.map λp=>(p.1.map AH,V.ref p.2.1)) (x.map AH)=none:=by
 induction ps with
 |nil=>rfl
 |cons p r ih=>rw[br];rw[br,aB,not_or] at h;rw[rX (λe=>h.1 (CH e).symm)];exact ih h.2
theorem Fq{ps:List (List aH×af×List PR)}{x:List aH}{q:List aH×af×List PR}(kn:(ps.map (·.1)).Nodup)(hq:q∈ps)(e:q.1=x):jc (ps.map λp=>(p.1.map AH,V.ref p.2.1)) (x.map AH)=some (.ref q.2.1):=by
 induction ps with
 |nil=>cases hq
 |cons p r ih=>
  rw[br];rw[br,dY] at kn;rcases aB.mp hq with h|h
  ·subst h;rw[vF (by rw[e])]
  ·rw[rX (λz=>kn.1 (au.mpr (bq q h (by rw[e];exact(CH z).symm))))];exact ih kn.2 h
theorem CI.fresh{H H2:Hp}{look:gi->List aH}{D z:af}{l:List PR}{ks:List (List aH)}{ps:List (List aH×af×List PR)}{x:List aH}(c:CI H look D l ks ps H2)(hD:H D=none)(hx:¬x∈ks)(hz:H2 z=none)(hl:∀p∈l,look p.2≠x):
  CI H look D l (ks++[x]) (ps++[(x,z,[])]) (upd (upd H2 z (.lst [])) D (.dT (putK (ps.map λp=>(p.1.map AH,V.ref p.2.1)) (x.map AH) (.ref z)))):=by
 have zD:z≠D:=(aR c.dict hz).symm;have pz:∀p∈ps,p.2.1≠z:=λp hp=>aR (c.lst p hp) hz;refine⟨λb o e=>?_,?_,?_,λp hp=>?_,λp hp=>?_,λp hp=>?_,?_,xl c.kn hx⟩
 ·rw[ay (aR e hD),ay (aR (c.same _ _ e) hz)];exact c.same _ _ e
 ·rw[ai,DX _ (Qy (by rw[c.keys];exact hx)),bw];rfl
 ·rw[bw];exact xl c.nd λq=>by obtain⟨p,hp,e⟩:=au.mp q;exact pz p hp e
 ·rcases aE.mp hp with q|q
  ·exact c.new p q
  ·have:p=(x,z,[]):=by simpa using q
   subst this;exact⟨c.same.free hz,zD⟩
 ·rcases aE.mp hp with q|q
  ·rw[ay (c.new p q).2,ay (pz p q)];exact c.lst p q
  ·have:p=(x,z,[]):=by simpa using q
   subst this;rw[ay zD,ai];rfl
 ·rcases aE.mp hp with q|q
  ·exact c.rows p q
  ·have:p=(x,z,[]):=by simpa using q
   subst this;symm;rw[List.filter_eq_nil_iff];intro p hp e;exact hl p hp (by simpa using e)
 ·rw[bw,c.keys];rfl
theorem CI.app{H H2:Hp}{look:gi->List aH}{D:af}{l:List PR}{ks:List (List aH)}{ps:List (List aH×af×List PR)}{p:PR}{q:List aH×af×List PR}(c:CI H look D l ks ps H2)(hq:q∈ps)(e:q.1=look p.2):
  CI H look D (l++[p]) ks (ps.map λr=>if r.1=look p.2 then(r.1,r.2.1,r.2.2++[p]) else r) (upd H2 q.2.1 (.lst (qh q.2.2++[V.ref p.1]))):=by
 have kn:(ps.map (·.1)).Nodup:=by rw[c.keys];exact c.kn
 have m1:(ps.map λr=>if r.1=look p.2 then(r.1,r.2.1,r.2.2++[p]) else r).map (·.2.1)=ps.map (·.2.1):=by rw[aQ];refine dh λr _=>?_;show(if r.1=look p.2 then(r.1,r.2.1,r.2.2++[p]) else r).2.1=r.2.1;split<;>rfl
 have m0:(ps.map λr=>if r.1=look p.2 then(r.1,r.2.1,r.2.2++[p]) else r).map (·.1)=ps.map (·.1):=by rw[aQ];refine dh λr _=>?_;show(if r.1=look p.2 then(r.1,r.2.1,r.2.2++[p]) else r).1=r.1;split<;>rfl
 have mD:(ps.map λr=>if r.1=look p.2 then(r.1,r.2.1,r.2.2++[p]) else r).map (λp=>(p.1.map AH,V.ref p.2.1))=ps.map λp=>(p.1.map AH,V.ref p.2.1):=by rw[aQ];refine dh λr _=>?_;show((if r.1=look p.2 then(r.1,r.2.1,r.2.2++[p]) else r).1.map AH,V.ref (if r.1=look p.2 then(r.1,r.2.1,r.2.2++[p]) else r).2.1)=_;split<;>rfl
 have uq:∀r∈ps,r.1=look p.2->r=q:=λr hr er=>vL kn hr hq (by rw[er,e]);have ua:∀r∈ps,r.1≠look p.2->r.2.1≠q.2.1:=λr hr er z=>er (by rw[vL c.nd hr hq z,e]);refine⟨λb o eb=>?_,?_,?_,λr hr=>?_,λr hr=>?_,λr hr=>?_,?_,c.kn⟩
 ·rw[ay (aR eb (c.new q hq).1)];exact c.same _ _ eb
 ·rw[ay (c.new q hq).2.symm,mD];exact c.dict
 ·rw[m1];exact c.nd
 ·obtain⟨t,ht,rfl⟩:=au.mp hr;have:=c.new t ht;split<;>exact this
 ·obtain⟨t,ht,rfl⟩:=au.mp hr;by_cases z:t.1=look p.2
  ·rw[if_pos z];have:t=q:=uq t ht z;subst this;show upd H2 t.2.1 _ t.2.1=_;rw[ai];unfold qh;rw[bw];rfl
  ·rw[if_neg z,ay (ua t ht z)];exact c.lst t ht
 ·obtain⟨t,ht,rfl⟩:=au.mp hr;by_cases z:t.1=look p.2
  ·rw[if_pos z];show t.2.2++[p]=_;rw[j9,<-c.rows t ht];have:[p].filter (λx=>look x.2==t.1)=[p]:=by simp[z]
   rw[this]
  ·rw[if_neg z,j9,<-c.rows t ht];have:[p].filter (λx=>look x.2==t.1)=[]:=by have z':¬look p.2=t.1:=λh=>z h.symm;simp[z']
   rw[this,dM]
 ·rw[m0];exact c.keys
def Hd(K:ah)(A:Cl):Sp:=λvs H Q _=>∃(a b d:af)(fm:d8)(l:List PR)(ls:List Nat),vs=[.ref a,.ref b,.ref d]/\gW A H a fm/\iN fm/\H b=some (.lst (qh l))/\gA A fm.columns H l/\
 bG K H d (gZ ls)/\lL fm.columns ls/\∀D H' ps,H D=none->CI H (aF fm.columns ls) D l (dd (l.map λp=>aF fm.columns ls p.2)) ps H'->Q (.ref D) H'
theorem yE(T:Txt K mg A):Def P w K mg base "classes_at" 4 ["form","rows","levels"] (Hd K A):=by
 refine T.Lw.N5.g8 nW (λf _ A' _ s H vs Q E hr=>nJ ?_)
 ·rintro a b d fm l ls ⟨rfl,F0,ok,hb,hl,hd,Fo,k⟩;refine ip ?_ (id F0);rintro Qx lc lv as SF hf2 hf3 hf4;have hu:=ur hr;refine ag (ax (cg (i:=3) nW.nd rfl fz TN) (ax (lU dE rfl (dI (pv 1)) (bU (i:=4) nW.nd rfl fz) (ax (cg (i:=5) nW.nd rfl fz (cp (pv 0) T.iw.cl (lQ T) hr.mono (aI (bo (pv 4) rfl) (aI (pv 2) aq)))) (ax (du (yQ (px hu (pv 5) (pv 3))) (aG (DB hu (pv 3) (pv 5) (bZ aq) rfl)) bS) (aG (iR (oS bT cV cW jl (tu hu (pv 3) (pv 5) (λ_ _=>rfl)) (aI (pv 4) aq))))))) (aG (aY (pv 3))))) ?_;refine ba ?_;refineλD hD=>?_;refine ck ?_;have s0:aT H (upd H D (.dT [])):=aD hD;refine ag rfl (bP b rfl ⟨_,bG.of (s0 _ _ hb)⟩ (my (K:=K) (a:=b) (xs:=qh l) (λi σ H'=>(∃v4 v5:Option V,σ=[some (.ref a),some (.ref b),some (.ref d),some (.ref D),v4,v5])/\∃ps,CI H (aF fm.columns ls) D (l.take i) (dd ((l.take i).map λp=>aF fm.columns ls p.2)) ps H') ⟨qr _ _ rfl,[],⟨s0,ai,by simp,λp h=>(nomatch h),λp h=>(nomatch h),λp h=>(nomatch h),rfl,by simp[dd]⟩⟩ (λi σ H' _ p=>bG.of (p.2.choose_spec.same _ _ hb)) ?_ ?_))
  ·rintro i x σ H' hi ⟨⟨v4,v5,rfl⟩,ps,c⟩;obtain⟨p,hp,rfl⟩:=JU hi;have Ml:=aN hp;have et:l.take (i+1)=l.take i++[p]:=by rw[dz,hp];rfl
   refine jk ?_ ((hl.at' p Ml).mono c.same);rintro dx cl g1 g2;have Yh:i<l.length:=(cn.mp hp).1;refine mI (c.same _ _ SF) j0 (fI g1 T.row.cl T.row.As qU (ag rfl (jb a cl d fm p.2.cells ls ⟨rfl,F0.mono c.same,ok,bG.of g2,c.same.seq hd,hl.cells p Ml,Fo,λq H1 hq s1 e1=>?_⟩)));refine ck ?_;have c1:CI H (aF fm.columns ls) D (l.take i) (dd ((l.take i).map λp=>aF fm.columns ls p.2)) ps H1:=⟨c.same.trans s1,s1 _ _ c.dict,c.nd,c.new,λp hp=>s1 _ _ (c.lst p hp),c.rows,c.keys,c.kn⟩;have ek:eU (wM fm.columns ls p.2.cells)=((aF fm.columns ls p.2).map AH).map kV:=Me _;rw[ek] at e1;have xH:ps.length<=40:=by
    have h1:ps.length=(dd ((l.take i).map λp=>aF fm.columns ls p.2)).length:=by rw[<-c.keys,aa]
    have h2:=Ue ((l.take i).map λp=>aF fm.columns ls p.2);rw[aa,cQ] at h2;have h3:=hl.len;omega
   have fin:∀(RW:List (List aH×af×List PR))(H2:Hp),CI H (aF fm.columns ls) D (l.take i) (dd ((l.take (i+1)).map λp=>aF fm.columns ls p.2)) RW H2->H2 q=some (.tup (((aF fm.columns ls p.2).map AH).map kV))->
     ∃r∈RW,r.1=aF fm.columns ls p.2:=λRW H2 c2 _=>by
    have:aF fm.columns ls p.2∈RW.map (·.1):=by rw[c2.keys,Ef,et,bw];exact aE.mpr (.inr (by simp))
    obtain⟨r,hr,e⟩:=au.mp this;exact bq r hr e
   have go:∀(RW:List (List aH×af×List PR))(H2:Hp)(r:List aH×af×List PR),CI H (aF fm.columns ls) D (l.take i) (dd ((l.take (i+1)).map λp=>aF fm.columns ls p.2)) RW H2->r∈RW->r.1=aF fm.columns ls p.2->
     CI H (aF fm.columns ls) D (l.take (i+1)) (dd ((l.take (i+1)).map λp=>aF fm.columns ls p.2)) (RW.map λr=>if r.1=aF fm.columns ls p.2 then(r.1,r.2.1,r.2.2++[p]) else r) (upd H2 r.2.1 (.lst (qh r.2.2++[V.ref p.1]))):=λRW H2 r c2 hr er=>by
    have:=c2.app hr er;rw[et] at this⊢;exact this
   have small:∀(RW:List (List aH×af×List PR))(H2:Hp)(ks:List (List aH))(r:List aH×af×List PR),CI H (aF fm.columns ls) D (l.take i) ks RW H2->r∈RW->(qh r.2.2).length<aA:=λRW H2 ks r c2 hr=>by unfold qh;rw[aa,c2.rows r hr];refine dG (ao (dW ..) ?_);rw[cQ];have:=hl.len;omega
   refine ag rfl (ag rfl (bt D _ rfl (jL.t c1.dict e1) (ag rfl ?_)));by_cases hk:aF fm.columns ls p.2∈ps.map (·.1)
   ·obtain⟨r,hr,er⟩:=au.mp hk;have hv:=Fq (by rw[c.keys];exact c.kn) hr er;rw[hv];refine lh ?_;have ee:dd ((l.take (i+1)).map λp=>aF fm.columns ls p.2)=dd ((l.take i).map λp=>aF fm.columns ls p.2):=by rw[et,bw];show dd (_++[aF fm.columns ls p.2])=_;rw[Ja];unfold Cn;rw[if_pos (by rw[<-c.keys];exact hk)]
    have c2:=c1;rw[<-ee] at c2;refine ag rfl (ag rfl (dH D (.ref r.2.1) rfl ?_ (.inl ⟨rfl,_,bG.of (c1.lst r hr)⟩) (ag rfl (iD r.2.1 _ _ rfl rfl (c1.lst r hr) (small _ _ _ r c1 hr) ⟨qr _ _ rfl,_,go ps _ r c2 hr er⟩))));rw[<-hv];exact jL.t c1.dict e1
   ·have hv:=Qy hk;rw[hv];refine kW ?_;refine⟨bE _,λz hz=>ag rfl (ag rfl (bt D _ rfl (GI.t (k:=(aF fm.columns ls p.2).map AH) (by rw[ay (aR c1.dict hz)];exact c1.dict) (by rw[ay (aR e1 hz)];exact e1) (by rw[aa];exact dG (by omega))) ?_))⟩;have ee:dd ((l.take (i+1)).map λp=>aF fm.columns ls p.2)=dd ((l.take i).map λp=>aF fm.columns ls p.2)++[aF fm.columns ls p.2]:=by rw[et,bw];show dd (_++[aF fm.columns ls p.2])=_;rw[Ja];unfold Cn;rw[if_neg (by rw[<-c.keys];exact hk)]
    have c2:=c1.fresh hD (by rw[<-c.keys];exact hk) hz (λp' Ii e=>hk (by rw[c.keys,Ef];exact au.mpr (bq p' Ii e)));rw[<-ee] at c2;have hq2:(upd (upd H1 z (.lst [])) D (.dT (putK (ps.map λp=>(p.1.map AH,V.ref p.2.1)) ((aF fm.columns ls p.2).map AH) (.ref z)))) q=some (.tup (((aF fm.columns ls p.2).map AH).map kV)):=by rw[ay (gH e1 c1.dict (λz=>nomatch z)),ay (aR e1 hz)];exact e1
    have hr:(aF fm.columns ls p.2,z,([]:List PR))∈ps++[(aF fm.columns ls p.2,z,[])]:=aE.mpr (.inr (by simp));refine ag rfl (ag rfl (dH D (.ref z) rfl ?_ (.inl ⟨rfl,_,bG.of (c2.lst _ hr)⟩) (ag rfl (iD z _ _ rfl rfl (c2.lst _ hr) (small _ _ _ _ c2 hr) ⟨qr _ _ rfl,_,go _ _ _ c2 hr rfl⟩))));rw[<-Fq (q:=(aF fm.columns ls p.2,z,([]:List PR))) (by rw[c2.keys];exact c2.kn) hr rfl];exact jL.t c2.dict hq2
  ·rintro σ H' ⟨⟨v4,v5,rfl⟩,ps,c⟩;refine ag rfl (k D H' ps hD ?_);have:l.take (qh l).length=l:=bK (by unfold qh;rw[aa];exact aK _);rw[this] at c;exact c
section
open Vbslai (enough)
def RX(M:List af)(H:Hp):Prop:=∀m∈M,∃o,H m=some o/\∀xs,o≠.tup xs
theorem RX.tr{M:List af}{H:Hp}(h:RX M H):Tr M H:=λm hm=>let⟨o,e,_⟩:=h m hm;⟨o,e⟩
theorem RX.mono{M:List af}{H H':Hp}(e:aT H H')(h:RX M H):RX M H':=λm hm=>let⟨o,q,n⟩:=h m hm;(bq o (e _ _ q) n)
theorem adm{f1 f2 f3 f4:Str}{v1 v2 v3 v4:V}:(d6 f4 v4 (d6 f3 v3 (d6 f2 v2 (d6 f1 v1 [])))).length<1000:=by have a:=mh f4 v4 (d6 f3 v3 (d6 f2 v2 (d6 f1 v1 [])));have b:=mh f3 v3 (d6 f2 v2 (d6 f1 v1 []));have c:=mh f2 v2 (d6 f1 v1 []);have d:=mh f1 v1 [];have e:([]:List (Str×V)).length=0:=rfl;omega
def Mm(A:Cl):Sp:=λvs H Q _=>∃(p dx:af)(v1 v2 v3 v4 v5:V),vs=[.ref p,v1,v2,v3,v4,v5]/\H p=some (.ins A.rel dx [])/\
 ∀(H':Hp),H' p=some (.ins A.rel dx (wo v1 v2 v3 v4 v5))->(∀b o,H b=some o->b≠p->H' b=some o)->Q .h9 H'
theorem Mn(T:Txt K mg A):C0 P w K mg base "Release" A.rel 1 ["self","levels","k","u","looks","left_out"] (Mm A):=by
 refine T.rel.init.g8 Ly (λf _ A' _ s H vs Q E hr=>nK ?_)
 ·rintro p dx v1 v2 v3 v4 v5 ⟨rfl,hp,k⟩;refine ag (ax (d9 (pv 0) (pv 1) rfl) (ax (d9 (pv 0) (pv 2) rfl) (ax (d9 (pv 0) (pv 3) rfl) (ax (d9 (pv 0) (pv 4) rfl) (aG (d9 (pv 0) (pv 5) rfl)))))) ?_;refine ag rfl (ag rfl (sJ hp T.rel.cl T.rel.p5 (by decide) (ag rfl (ag rfl (sJ ai T.rel.cl T.rel.X8 LX (ag rfl (ag rfl (sJ ai T.rel.cl T.rel.X9 put2 (ag rfl (ag rfl (sJ ai T.rel.cl T.rel.xr put3 (ag rfl (ag rfl (sJ ai T.rel.cl T.rel.tR adm ?_))))))))))))));refine k _ ?_ λb o e hb=>?_
  ·rw[ai,Oi]
  ·rw[ay hb,ay hb,ay hb,ay hb,ay hb];exact e
theorem C6.get{H:Hp}{d:af}{lk:List (Nat×List aH)}(h:C6 H d lk)(n:Nat):∃o:Option V,jL H d (.int (n:Int)) o/\match lk.lookup n with
  |none=>o=none
  |some y=>∃t,o=some (.ref t)/\H t=some (.tup (eU y)):=by
 obtain⟨kvs,h1,h2⟩:=h;have:=C6.val n h2;refine bq (jc kvs (cG (n:Int):Key)) (jL.k (k:=(cG (n:Int):Key)) h1) ?_
 cases e:lk.lookup n with
 |none=>rw[e] at this;exact this
 |some y=>rw[e] at this;exact this
theorem C6.len{H:Hp}{d:af}{lk:List (Nat×List aH)}(h:C6 H d lk):∃kvs,H d=some (.dK kvs)/\kvs.length=lk.length:=let⟨kvs,h1,h2⟩:=h;(bq kvs h1 (Paired.len h2))
def OS(A:Cl):Sp:=λvs H Q _=>∃(a p:af)(z:Rl)(r:gi),vs=[.ref a,.ref p]/\nB A H a z/\sG A H p r/\Q (.bl (z.lk.lookup r.who).isSome) H
theorem uf(T:Txt K mg A):i5 P w K mg base A.rel "has" 1 ["self","row"] (OS A):=by
 refine T.rel.agi.g8 Ou (λf _ A' _ s H vs Q E hr=>ip ?_)
 ·rintro a p z r rfl ⟨dx,ll,ld,h1,h2,h3⟩ ⟨dxr,lr,g1,g2⟩ k;have hu:=ur hr;obtain⟨o,hg,ho⟩:=h3.get r.who;refine ag (aG (aY (YU (TJ hu (bo (pv 1) rfl) (bo (pv 0) rfl))))) ?_;refine fI g1 T.row.cl T.row.pG lu (fI h1 T.rel.cl T.rel.xr oh (bt ld o rfl hg ?_));have e:o.isSome=(z.lk.lookup r.who).isSome:=by
   cases e:z.lk.lookup r.who with
   |none=>rw[e] at ho;rw[show o=none from ho];rfl
   |some y=>rw[e] at ho;obtain⟨t,rfl,_⟩:=ho;rfl
  rw[e];exact k
def Mo(A:Cl):Sp:=λvs H Q _=>∃(a:af)(z:Rl),vs=[.ref a]/\nB A H a z/\z.levels.length<=100/\
 ∀D H',H D=none->aT H H'->H' D=some (.lst (gZ (z.levels++[z.k,z.u,z.lk.length,z.left])))->Q (.ref D) H'
theorem wN(T:Txt K mg A):i5 P w K mg base A.rel "told" 1 ["self"] (Mo A):=by
 refine T.rel.acU.g8 Lz (λf _ A' _ s H vs Q E hr=>ke ?_)
 ·rintro a z rfl ⟨dx,ll,ld,h1,h2,h3⟩ hl k;obtain⟨kvs,hk1,hk2⟩:=h3.len;refine ag (aG (aY (fo jU (bo (pv 0) rfl) (bZ (aI (bo (pv 0) rfl) (aI (bo (pv 0) rfl) (aI (cJ rZ (by rfl) T.b.dS cP (aI (bo (pv 0) rfl) aq)) (aI (bo (pv 0) rfl) aq)))))))) ?_;refine fI h1 T.rel.cl T.rel.p5 kI (fI h1 T.rel.cl T.rel.X8 Qj (fI h1 T.rel.cl T.rel.X9 Qk (fI h1 T.rel.cl T.rel.xr oh (bt ld kvs rfl hk1 (fI h1 T.rel.cl T.rel.tR p8 ?_)))));refine⟨by show 4<=aA;decide,λq hq=>gB ll q _ _ rfl rfl (aD hq _ _ h2) ai ?_ (λD hD=>?_)⟩
  ·rw[eI];show z.levels.length+4<=aA;exact cX (dG (by omega))
  ·refine k D _ (aD hq |>.free hD) ((aD hq).trans (aD hD)) ?_;rw[ai,hk2];unfold gZ;rw[bw];rfl
def Mp(A:Cl):Sp:=λvs H Q _=>∃(p dx:af)(v1 v2 v3 v4:V),vs=[.ref p,v1,v2,v3,v4]/\H p=some (.ins A.lV dx [])/\
 ∀(H':Hp),H' p=some (.ins A.lV dx (CA v1 v2 v3 v4))->(∀b o,H b=some o->b≠p->H' b=some o)->Q .h9 H'
theorem CJ(T:Txt K mg A):C0 P w K mg base "Hiding" A.lV 1 ["self","row","among","k","u"] (Mp A):=by
 refine T.lV.init.g8 LA (λf _ A' _ s H vs Q E hr=>nJ ?_)
 ·rintro p dx v1 v2 v3 v4 ⟨rfl,hp,k⟩;refine ag (ax (d9 (pv 0) (pv 1) rfl) (ax (d9 (pv 0) (pv 2) rfl) (ax (d9 (pv 0) (pv 3) rfl) (aG (d9 (pv 0) (pv 4) rfl))))) ?_;refine ag rfl (ag rfl (sJ hp T.lV.cl T.lV.Qe (by decide) (ag rfl (ag rfl (sJ ai T.lV.cl T.lV.xt LX (ag rfl (ag rfl (sJ ai T.lV.cl T.lV.X8 put2 (ag rfl (ag rfl (sJ ai T.lV.cl T.lV.X9 put3 ?_)))))))))));refine k _ ?_ λb o e hb=>?_
  ·rw[ai,Oj]
  ·rw[ay hb,ay hb,ay hb,ay hb];exact e
def CK(A:Cl)(H:Hp)(a:af)(p:PR)(l:List PR)(k:Nat×Nat):Prop:=∃dx la,H a=some (.ins A.lV dx (CA (.ref p.1) (.ref la) (.int (k.1:Nat)) (.int (k.2:Nat))))/\H la=some (.lst (qh l))
theorem CK.mono{A:Cl}{H H':Hp}(e:aT H H'){a:af}{p:PR}{l:List PR}{k:Nat×Nat}(h:CK A H a p l k):CK A H' a p l k:=let⟨dx,la,h1,h2⟩:=h;(fu dx la (e _ _ h1) (e _ _ h2))
def Fs(A:Cl):Sp:=λvs H Q _=>∃(a:af)(cs:List bA)(p:PR)(l:List PR)(k:Nat×Nat),vs=[.ref a]/\CK A H a p l k/\gA A cs H l/\∀H',aT H H'->Q (.bl (enough k.1 k.2 (l.map (·.2)))) H'
theorem Ft(T:Txt K mg A):i5 P w K mg base A.lV "is_safe" 3 ["self"] (Fs A):=by
 refine T.lV.Uw.g8 E5 (λf _ A' _ s H vs Q E hr=>CV ?_)
 ·rintro a cs p l kk ⟨rfl,⟨dx,la,h1,h2⟩,hl,k⟩;refine ag (aG (aY (bF (yD T) hr.mono rfl (aI (bo (pv 0) rfl) (aI (bo (pv 0) rfl) (aI (bo (pv 0) rfl) aq)))))) ?_;rw[xw] at h2;exact fI h1 T.lV.cl T.lV.xt oj (fI h1 T.lV.cl T.lV.X8 Jv (fI h1 T.lV.cl T.lV.X9 Jw (o6 la _ _ _ _ ⟨rfl,h2,hl.rows,by rw[aa];exact ao hl.len (by decide),k⟩)))
def Fu(A:Cl):Sp:=λvs H Q _=>∃(a b:af)(cs:List bA)(p:PR)(l:List PR)(kk:Nat×Nat)(z:Rl)(M:List af),vs=[.ref a,.ref b]/\Tr M H/\CK A (cut H M) a p l kk/\sG A H p.1 p.2/\gA A cs H l/\nB A H b z/\
 ∀(x:af)(H':Hp)(m:List PR),aT H H'->CK A (cut H' M) x p m (kH z p.2 kk)->m.Sublist l->m.map (·.2)=lK z p.2 (l.map (·.2))->Q (.ref x) H'
theorem wO(T:Txt K mg A):Def P w K mg base "hiding_with" 3 ["hiding","release"] (Fu A):=by
 refine T.yz.Lk.g8 mO (λf _ A' _ s H vs Q E hr=>Kt ?_)
 ·rintro a b cs p l kk z M ⟨rfl,tr,H0,hp,hl,Z0,k⟩;refine jk ?_ (CK.mono (bY H M) H0);rintro dx la h1 h2;refine jT ?_ (id Z0);rintro U9 ll ld z1 z2 z3;refine jk ?_ (id hp);rintro dxr lr r1 r2;obtain⟨o,hg,ho⟩:=z3.get p.2.who;have hu:=ur hr;refine ag (ax (du (gI (fY (cp (pv 1) T.rel.cl (uf T) hr.mono (aI (bo (pv 0) rfl) aq)))) (aG (aY (pv 0))) bS) (ax (cg (i:=2) mO.nd rfl fz (tu hu (bo (pv 1) rfl) (bo (bo (pv 0) rfl) rfl) (λ_ _=>rfl))) (ax (DW (i:=3) rfl mO.nd rfl rfl (IU rfl rfl rfl (by decide+kernel)) (own:=[("row",4)]) (dI (bo (pv 0) rfl)) (cR (by kernel_rfl)) (λ_ _ _ _ _=>(bU (i:=4) mO.nd rfl fz)) (λ_ _ _ _ _=>(tq (cF (UO (K:=K) rfl hr.Bt) (TQ hu (kL (K:=K) rfl (pv 1) rfl) (kL (K:=K) rfl (pv 4) rfl) ⟨rfl,rfl,rfl,rfl⟩) (pv 2) (cC _)))) (λ_ _ _ _ _=>(pv 4))) (aG (aY (n6 (CJ T) hr.mono rfl (aI (bo (pv 0) rfl) (aI (pv 3) (aI (cJ (Bq rfl) (by rfl) T.b.UH NV (aI (bo (pv 0) rfl) (aI (bo (pv 1) rfl) aq))) (aI (cJ (Bq rfl) (by rfl) T.b.UH NV (aI (bo (pv 0) rfl) (aI (bo (pv 1) rfl) aq))) aq)))))))))) ?_;refine mI z1 pf (fI h1 T.lV.cl T.lV.Qe BH (oJ b p.1 z p.2 rfl Z0 hp (ag rfl ?_)))
  cases e:z.lk.lookup p.2.who with
  |none=>
   refine kW (ag rfl (k a H l (aT.refl _) ?_ (F7 _) ?_))
   ·unfold kH;rw[e];exact H0
   ·unfold lK;rw[e]
  |some y=>
   rw[e] at ho;obtain⟨t,rfl,ht⟩:=ho;refine lh ?_;refine cT ?_;refine fI z1 T.rel.cl T.rel.xr oh (fI h1 T.lV.cl T.lV.Qe BH (fJ r1 T.row.cl T.row.pG lu (bt ld _ rfl hg ?_)));refine ck ?_;refine ba ?_;refine JB ?_;refine fC ?_;refine fI h1 T.lV.cl T.lV.xt oj (bP la rfl ⟨_,bG.of h2⟩ ?_);refine l4 (enc:=λp:PR=>V.ref p.1) (f:=λp=>V.ref p.1) (p:=λx=>z.lk.lookup x.2.who==some y) (bG.of h2) (ao hl.len (by decide)) (λi x H' R S hi k' hR hS=>?_) (λD H' hD hs he=>?_)
   ·have hx:=aN hi;refine jk ?_ ((hl.at' x hx).mono k');rintro Yl cl2 g3 g4;obtain⟨o2,hg2,JV⟩:=(z3.mono k').get x.2.who;obtain⟨kvs,hk1,_⟩:=(z3.mono k').len;refine⟨rfl,fI (k' _ _ z1) T.rel.cl T.rel.xr oh (bP ld rfl (.inl ⟨_,.inl hk1⟩) (fI g3 T.row.cl T.row.pG lu (bq o2 hg2 (ag rfl (bt t y rfl (nY.of (k' _ _ ht)) ?_)))))⟩
    cases e2:z.lk.lookup x.2.who with
    |none=>rw[e2] at JV;rw[show o2=none from JV];exact .inl ⟨rfl,ag rfl (lh (hS (by rw[e2];rfl) _ (aT.refl _)))⟩
    |some y2=>
     rw[e2] at JV;obtain⟨t2,rfl,ht2⟩:=JV;refine .inr (bt t2 y2 rfl (nY.of ht2) (ag rfl (fG (λe3=>ag rfl (hR ?_ _ (aT.refl _))) (λe3=>hS ?_ _ (aT.refl _)))))
     ·rw[e2,e3];exact beq_self_eq_true _
     ·rw[e2];exact beq_eq_false_iff_ne.mpr λq=>e3 (aX q)
   ·refine ck ?_;refine jh ?_;refine fI (hs _ _ h1) T.lV.cl T.lV.Qe BH (ag rfl (fI (hs _ _ h1) T.lV.cl T.lV.X8 Jv (fI (hs _ _ z1) T.rel.cl T.rel.X8 Qj (fu _ _ rfl (fI (hs _ _ h1) T.lV.cl T.lV.X9 Jw (fI (hs _ _ z1) T.rel.cl T.rel.X9 Qk (fu _ _ rfl ?_)))))));intro x dx3 nx nd ne;refine jb x dx3 _ _ _ _ ⟨rfl,ai,λH4 e4 k4=>⟨rfl,?_⟩⟩;have s4:aT H' H4:=aT.made nx nd k4;refine k x H4 _ (hs.trans s4) (fu dx3 D ?_ (rg tr hD (s4 _ _ he))) (fw) ?_
    ·rw[rg tr (hs.free nx) e4];have em:∀i j:Nat,(if(j:Int)>(i:Int) then(j:Int) else(i:Int))=((max i j:Nat):Int):=λi j=>by rw[ajX];split<;>split<;>omega
     rw[em,em];unfold kH;rw[e];rfl
    ·unfold lK;rw[e];exact iy (λx:gi=>z.lk.lookup x.who==some y) l
end
section
open Vbslai (enough)
def Mq(look:gi->List aH)(l:List PR)(k u:Nat)(x:List aH):List (Nat×List aH):=if enough k u ((l.filter λp=>look p.2==x).map (·.2))=true then(l.filter λp=>look p.2==x).map λp=>(p.2.who,x) else[]
theorem JW(look:gi->List aH)(l:List PR)(k u:Nat):(dd (l.map λp=>look p.2)).flatMap (Mq look l k u)=y8 look (l.map (·.2)) k u:=by
 unfold y8;rw[aQ];show _=((dd (l.map λp=>look p.2)).filter _).flatMap _;generalize dd (l.map λp=>look p.2)=ks;have e1:∀x,((l.filter λp=>look p.2==x).map (·.2))=V3 look (l.map (·.2)) x:=λx=>iy (λr:gi=>look r==x) l
 induction ks with
 |nil=>rfl
 |cons x ks ih=>
  rw[ie,xc,ih];unfold Mq classOk;rw[e1];by_cases h:enough k u (V3 look (l.map (·.2)) x)=true
  ·rw[if_pos h,if_pos h,ie,<-e1,aQ];rfl
  ·rw[if_neg h,if_neg h];rfl
def RY(M:List af)(H:Hp)(kv:Key×V)(p:Nat×List aH):Prop:=kv.1=cG (p.1:Int)/\∃t,kv.2=.ref t/\¬t∈M/\H t=some (.tup (eU p.2))
theorem RY.lk{M:List af}{H:Hp}{D:af}{kvs:List (Key×V)}{lk:List (Nat×List aH)}(hD:¬D∈M)(h:H D=some (.dK kvs))(p:dn (RY M H) kvs lk):C6 (cut H M) D lk:=(bq kvs (by rw[c7 hD];exact h) (Paired.mono (λ_ _ ⟨a,t,b,c,d⟩=>⟨a,bq t b (by rw[c7 c];exact d)⟩) p))
theorem RY.step{M:List af}{H H':Hp}{D:af}(s:c6 [D] H H')(hD:∀xs,H D≠some (.tup xs)){kvs:List (Key×V)}{lk:List (Nat×List aH)}(p:dn (RY M H) kvs lk):dn (RY M H') kvs lk:=Paired.mono (λ_ _ ⟨a,t,b,c,d⟩=>⟨a,bP t b c (s.at d (by simp;intro e;subst e;exact hD _ d))⟩) p
theorem Mr{look:gi->List aH}{rows:List gi}{k u:Nat}(nd:(rows.map (·.who)).Nodup):(y8 look rows k u).length<=rows.length:=by have:=P2 (Aj (look:=look) (k:=k) (u:=u) nd) (m:=rows.map (·.who)) (λx hx=>by obtain⟨⟨w,y⟩,hm,e⟩:=au.mp hx;refine cH ?_ (Ai.mp hm);rintro r hr e1 _;exact au.mpr (bq r hr (by rw[e1];exact e)));rw[aa,aa] at this;exact this
theorem aah{M:List af}{H:Hp}{kvs:List (Key×V)}{lk:List (Nat×List aH)}(p:dn (RY M H) kvs lk){n:Nat}(h:¬n∈lk.map (·.1)):jc kvs (cG (n:Int):Key)=none:=by have:=C6.val (H:=H) n (Paired.mono (λ_ _ ⟨a,t,b,c,d⟩=>⟨a,bq t b d⟩) p);rw[lookup_none.mpr h] at this;exact this
def He(K:ah)(A:Cl):Sp:=λvs H Q _=>∃(a b d:af)(fm:d8)(l:List PR)(ls:List Nat)(x u:Nat)(M:List af),vs=[.ref a,.ref b,.ref d,.int (x:Nat),.int (u:Nat)]/\gW A H a fm/\iN fm/\H b=some (.lst (qh l))/\gA A fm.columns H l/\
 (l.map (·.2.who)).Nodup/\RX M H/\cut H M d=some (.lst (gZ ls))/\lL fm.columns ls/\∀z H',H z=none->aT H H'->nB A (cut H' M) z (iF fm.columns (l.map (·.2)) ls x u)->Q (.ref z) H'
theorem yF(T:Txt K mg A):Def P w K mg base "release_at" 5 ["form","rows","levels","k","u"] (He K A):=by
 refine T.yz.N6.g8 lD (λf _ A' _ s H vs Q E hr=>o5 ?_)
 ·rintro a b d fm l ls kx ku M ⟨rfl,F0,ok,hb,hl,nd,tr,hd,Fo,k⟩;have hu:=ur hr;have hd0:H d=some (.lst (gZ ls)):=(c8 hd).2;refine ag (ax (cg (i:=5) lD.nd rfl fz D0) (ax (lU dE rfl (RO (ZU (bF (yE T) hr.mono rfl (aI (pv 0) (aI (pv 1) (aI (pv 2) aq)))))) (DO (n:=2) rfl (fZ (bU (i:=6) lD.nd rfl fz) (fZ (bU (i:=7) lD.nd rfl fz) o7))) (aG (du (fY (bF (yD T) hr.mono rfl (aI (pv 7) (aI (pv 3) (aI (pv 4) aq))))) (aG (lU dE rfl (dI (pv 7)) (bU (i:=8) lD.nd rfl fz) (aG (DB hu (pv 5) (bo (pv 8) rfl) (pv 6) rfl)))) bS))) (aG (aY (n6 (Mn T) hr.mono rfl (aI (pv 2) (aI (pv 3) (aI (pv 4) (aI (pv 5) (aI (fo vv (cJ bx (by rfl) T.b.dS cP (aI (pv 1) aq)) (cJ rZ (by rfl) T.b.dS cP (aI (pv 5) aq))) aq)))))))))) ?_;refine ba ?_;refineλD hD=>?_;refine ck ?_;have hDM:¬D∈M:=tr.tr.not hD;have s0:aT H (upd H D (.dK [])):=aD hD;refine ba ?_;refine ag rfl (ag rfl (ag rfl (jb a b d fm l ls ⟨rfl,F0.mono s0,ok,s0 _ _ hb,hl.mono s0,bG.of (s0 _ _ hd0),Fo,λC H2 ps hC c=>dH C _ rfl c.dict jy (λod=>jK C od _ rfl ai ?_)⟩)));have hCD:C≠D:=(aR (ai (H:=H) (a:=D)) hC).symm;have hC0:H C=none:=s0.free hC;have sC:c6 [D] H (upd H2 C (.vp od (.dT (ps.map λp=>(p.1.map AH,V.ref p.2.1))))):=λb o e=>by obtain⟨n,e⟩:=c8 e;rw[ay (aR e hC0)];exact c.same _ _ (s0 _ _ e)
  refine JA (n:=ps.length) (λi σ H'=>(∃v6 v7 v8:Option V,σ=[some (.ref a),some (.ref b),some (.ref d),some (.int (kx:Nat)),some (.int (ku:Nat)),some (.ref D),v6,v7,v8])/\c6 [D] (upd H2 C (.vp od (.dT (ps.map λp=>(p.1.map AH,V.ref p.2.1))))) H'/\∃kvs,H' D=some (.dK kvs)/\dn (RY M H') kvs (((ps.map (·.1)).take i).flatMap (Mq (aF fm.columns ls) l kx ku))) ⟨vo _ _ _ rfl,c6.of (aT.refl _),bq ([]) ?_ .nil⟩ (λi σ H' hi p=>?_) (λσ H' p=>?_) (λi xv σ H' ou hi p y=>?_) (λσ H' p=>?_)
  ·rw[ay hCD.symm];exact c.same _ _ ai
  ·exact⟨p.2.1.at ai (by simp;exact hCD),by rw[aa];exact hi⟩
  ·exact⟨p.2.1.at ai (by simp;exact hCD),by rw[aa];exact aK _⟩
  ·
   obtain⟨⟨v6,v7,v8,rfl⟩,sB,kvs,hDk,hP⟩:=p;refine ip ?_ y;clear y;rintro T1 q kk v Sz rfl hq ⟨Ie,rfl⟩;rw[aV] at Sz
   cases Va:ps[i]? with
   |none=>rw[Va] at Sz;cases Sz
   |some p=>
    rw[Va] at Sz;cases Sz;have Ml:=aN Va;have hT0:T1≠D:=(aR hDk Ie).symm;have e1:((ps.map (·.1)).take (i+1))=(ps.map (·.1)).take i++[p.1]:=by rw[dz,aV,Va];rfl
    have NO:(p.1.map AH).map kV=eU p.1:=(Me _).symm;rw[NO] at hq;have sB1:c6 [D] (upd H2 C (.vp od (.dT (ps.map λp=>(p.1.map AH,V.ref p.2.1))))) (upd H' T1 (.tup [.ref q,.ref p.2.1])):=sB.trans (c6.of (aD Ie));have OT:(upd H' T1 (.tup [.ref q,.ref p.2.1])) D=some (.dK kvs):=by rw[ay hT0.symm];exact hDk
    have V7:(upd H' T1 (.tup [.ref q,.ref p.2.1])) q=some (.tup (eU p.1)):=aD Ie _ _ hq;have hP1:=RY.step (c6.of (aD (o:=.tup [.ref q,.ref p.2.1]) Ie)) (λxs e=>by rw[hDk] at e;cases e) hP;have sH:c6 [D] H (upd H' T1 (.tup [.ref q,.ref p.2.1])):=sC.trans sB1;have hpC:p.2.1≠C:=(c.new p Ml).2;have hpD:p.2.1≠D:=(aR (ai (H:=H) (a:=D)) (c.new p Ml).1).symm;have Qz:(upd H' T1 (.tup [.ref q,.ref p.2.1])) p.2.1=some (.lst (qh p.2.2)):=sB1.at (by rw[ay hpC];exact c.lst p Ml) (by simp;exact hpD);have hqM:¬q∈M:=λhm=>by
     obtain⟨o,eo,no⟩:=tr q hm;have:q≠D:=λz=>by rw[z,hD] at eo;cases eo
     have:=sH.at eo (by simp;exact this);rw[V7] at this;exact no _ (aX this).symm
    have hTT:(upd H' T1 (.tup [.ref q,.ref p.2.1])) T1=some (.tup [.ref q,.ref p.2.1]):=ai;generalize upd H' T1 (.tup [.ref q,.ref p.2.1])=G at sB1 OT V7 hP1 sH Qz hTT⊢;have xH:p.2.2=l.filter λx=>aF fm.columns ls x.2==p.1:=c.rows p Ml;have hRg:gA A fm.columns H p.2.2:=by rw[xH];exact hl.sub fw
    have adt:∀G':Hp,c6 [D] H G'->∀r∈p.2.2,sG A G' r.1 r.2:=λG' sg r hr=>by have:aT (cut H [D]) G':=sg;refine sG.mono this ?_;refine jk ?_ (hRg.at' r hr);rintro dx lr g1 g2;exact fu dx lr (by rw[c7 (by simp;exact aR g1 hD)];exact g1) (by rw[c7 (by simp;exact aR g2 hD)];exact g2)
    have ndF:((((ps.map (·.1)).take (i+1)).flatMap (Mq (aF fm.columns ls) l kx ku)).map (·.1)).Nodup:=by
     have h1:((y8 (aF fm.columns ls) (l.map (·.2)) kx ku).map (·.1)).Nodup:=Aj (by rw[aQ];exact nd);rw[<-JW,<-c.keys] at h1;refine h1.sublist (List.Sublist.map _ ?_);have h2:=SQ (i+1) (ps.map (·.1))
     conv=>rhs;rw[<-h2]
     rw[gw];exact vg ..
    have adu:p.2.2.length<=40:=hRg.len;have fl:∀(L:List (Nat×List aH)),L.Sublist (((ps.map (·.1)).take (i+1)).flatMap (Mq (aF fm.columns ls) l kx ku))->L.length<=40:=λL hL=>by
     have h1:(((ps.map (·.1)).take (i+1)).flatMap (Mq (aF fm.columns ls) l kx ku)).Sublist (y8 (aF fm.columns ls) (l.map (·.2)) kx ku):=by
      rw[<-JW,<-c.keys];have h2:=SQ (i+1) (ps.map (·.1))
      conv=>rhs;rw[<-h2]
      rw[gw];exact vg ..
     have h3:=Mr (look:=aF fm.columns ls) (rows:=l.map (·.2)) (k:=kx) (u:=ku) (by rw[aQ];exact nd);rw[aa] at h3;exact ao hL.length_le (ao h1.length_le (ao h3 hl.len))
    refine dH T1 _ rfl (nY.of hTT) rfl (fu _ _ rfl (bt _ _ rfl rfl ?_));refine ag rfl (ag rfl (ag rfl (o6 p.2.1 (p.2.2.map (·.1)) (p.2.2.map (·.2)) kx ku ⟨rfl,by rw[<-xw];exact Qz,Paired.OK (adt G sH),by rw[aa];omega,λG1 s1=>ag rfl (Es (λen=>?_) (λen=>?_))⟩)))
    ·have eF:Mq (aF fm.columns ls) l kx ku p.1=p.2.2.map λr=>(r.2.who,p.1):=by unfold Mq;rw[<-xH,if_pos en]
     have eA:((ps.map (·.1)).take (i+1)).flatMap (Mq (aF fm.columns ls) l kx ku)=((ps.map (·.1)).take i).flatMap (Mq (aF fm.columns ls) l kx ku)++p.2.2.map λr=>(r.2.who,p.1):=by rw[e1,gw,<-eF];simp
     have hP2:=RY.step (c6.of s1) (λxs e=>by rw[OT] at e;cases e) hP1;refine ag rfl (bP p.2.1 rfl ⟨_,bG.of (s1 _ _ Qz)⟩ (my (K:=K) (a:=p.2.1) (xs:=qh p.2.2) (λj σ G'=>(∃v8:Option V,σ=[some (.ref a),some (.ref b),some (.ref d),some (.int (kx:Nat)),some (.int (ku:Nat)),some (.ref D),some (.ref q),some (.ref p.2.1),v8])/\c6 [D] G1 G'/\∃OO,G' D=some (.dK OO)/\dn (RY M G') OO (((ps.map (·.1)).take i).flatMap (Mq (aF fm.columns ls) l kx ku)++(p.2.2.take j).map λr=>(r.2.who,p.1))) ⟨⟨_,rfl⟩,c6.of (aT.refl _),bq kvs (s1 _ _ OT) (by simpa using hP2)⟩ (λj σ G' _ pp=>bG.of (pp.2.1.at (s1 _ _ Qz) (by simp;exact hpD))) ?_ ?_))
     ·rintro j xv σ G' hj ⟨⟨v8',rfl⟩,sg,OO,KS,SG⟩;obtain⟨r,Kp,rfl⟩:=JU hj;have hrm:=aN Kp;refine jk ?_ (adt G' ((sH.trans (c6.of s1)).trans sg) r hrm);rintro dxr lr g1 g2;have et:p.2.2.take (j+1)=p.2.2.take j++[r]:=by rw[dz,Kp];rfl
      have ud:(((ps.map (·.1)).take i).flatMap (Mq (aF fm.columns ls) l kx ku)++(p.2.2.take (j+1)).map λr=>(r.2.who,p.1)).Sublist (((ps.map (·.1)).take (i+1)).flatMap (Mq (aF fm.columns ls) l kx ku)):=by rw[eA];exact List.Sublist.append (F7 _) ((YB ..).map _)
      have OU:¬r.2.who∈(((ps.map (·.1)).take i).flatMap (Mq (aF fm.columns ls) l kx ku)++(p.2.2.take j).map λr=>(r.2.who,p.1)).map (·.1):=by have h1:=ndF.sublist (ud.map (·.1));rw[et,bw (f:=λr:PR=>(r.2.who,p.1)),<-dw,bw,kU] at h1;exactλhm=>h1.2.2 _ hm r.2.who (by simp) rfl
      have hlk:OO.length<=40:=by rw[Paired.len SG];refine fl _ (List.Sublist.trans ?_ ud);rw[et,bw (f:=λr:PR=>(r.2.who,p.1)),<-dw];exact vg ..
      refine ag rfl (ag rfl (fI g1 T.row.cl T.row.pG lu (bt D _ rfl (GI.k (k:=(cG (r.2.who:Int):Key)) KS (dG (by omega))) ?_)));rw[DX _ (aah SG OU)];refine⟨⟨_,rfl⟩,sg.upd (by simp),ag ai ?_⟩;rw[et,bw (f:=λr:PR=>(r.2.who,p.1)),<-dw];have hqG:G' q=some (.tup (eU p.1)):=sg.at (s1 _ _ V7) (by simp;exact gH V7 OT (λz=>nomatch z));refine Paired.snoc (RY.step (D:=D) ((c6.of (aT.refl _)).upd (by simp)) (λxs e=>by rw[KS] at e;cases e) SG) ⟨rfl,bP q rfl hqM ?_⟩;rw[ay (gH V7 OT (λz=>nomatch z))];exact hqG
     ·rintro σ G' ⟨⟨v8',rfl⟩,sg,OO,KS,SG⟩;refine⟨vo _ _ _ rfl,(sB1.trans (c6.of s1)).trans sg,bq OO KS ?_⟩;have:p.2.2.take (qh p.2.2).length=p.2.2:=bK (by unfold qh;rw[aa];exact aK _);rw[this] at SG;rw[eA];exact SG
    ·refine cT ?_;have eF:Mq (aF fm.columns ls) l kx ku p.1=[]:=by unfold Mq;rw[<-xH,if_neg (by rw[en];exact aZ)]
     refine⟨vo _ _ _ rfl,sB1.trans (c6.of s1),bq kvs (s1 _ _ OT) ?_⟩;rw[e1,gw];have:[p.1].flatMap (Mq (aF fm.columns ls) l kx ku)=[]:=by simp[eF]
     rw[this,dM];exact RY.step (c6.of s1) (λxs e=>by rw[OT] at e;cases e) hP1
  ·obtain⟨⟨v6,v7,v8,rfl⟩,sB,kvs,hDk,hP⟩:=p;rw[bK (by rw[aa];exact aK _),c.keys,JW] at hP;have s1:aT H H':=aT.cutD hD (sC.trans sB);have hkl:=Paired.len hP;have h3:=Mr (look:=aF fm.columns ls) (rows:=l.map (·.2)) (k:=kx) (u:=ku) (by rw[aQ];exact nd);refine ag rfl (ag rfl (ag rfl (ag rfl (ag rfl (bt b _ rfl (.inl (bG.of (s1 _ _ hb))) (ag rfl (bt D kvs rfl hDk (bt _ _ rfl rfl (λz U9 nz ndz ne=>xF z U9 _ _ _ _ _ ⟨rfl,ai,λH4 e4 k4=>⟨rfl,?_⟩⟩)))))))));have s4:aT H' H4:=aT.made nz ndz k4;have zM:¬z∈M:=tr.tr.not (s1.free nz);refine k z H4 (s1.free nz) (s1.trans s4) (jK U9 d D ?_ ?_ ?_)
   ·rw[c7 zM,e4];have e5:(((qh l).length:Nat):Int)-((kvs.length:Nat):Int)=(((l.map (·.2)).length-(y8 (aF fm.columns ls) (l.map (·.2)) kx ku).length:Nat):Int):=by unfold qh;rw[aa] at h3;rw[aa,aa,hkl];omega
    show some (HO.ins A.rel U9 (wo (V.ref d) (V.int (kx:Nat)) (V.int (ku:Nat)) (V.ref D) (V.int ((((qh l).length:Nat):Int)-((kvs.length:Nat):Int)))))=_;rw[e5];rfl
   ·rw[c7 (c8 hd).1];exact s4 _ _ (s1 _ _ hd0)
   ·exact RY.lk hDM (s4 _ _ hDk) (Paired.mono (λ_ _ ⟨a,t,b,c,d⟩=>⟨a,bP t b c (s4 _ _ d)⟩) hP)
end
section
open Vbslai (enough)
theorem Xn(H:Hp)(D:af)(M:List af):cut (cut H [D]) M=cut H (D::M):=by
 funext b;by_cases h1:b∈M
 ·rw[vY h1,vY (.tail _ h1)]
 ·rw[c7 h1];by_cases h2:b=D
  ·subst h2;rw[vY (by simp),vY (by simp)]
  ·rw[c7 (by simpa using h2),c7 (by simp;exact⟨h2,h1⟩)]
theorem Ms(zs:List Rl)(z:Rl)(r:gi):ask (zs++[z]) r=kH z r (ask zs r):=by unfold Bm.ask;rw[ju];rfl
theorem Mt(zs:List Rl)(z:Rl)(rows:List gi)(r:gi):lV (zs++[z]) rows r=lK z r (lV zs rows r):=by unfold lV;rw[ju];rfl
def yG(A:Cl)(H:Hp)(l:List PR)(zs:List Rl)(x:af)(p:PR):Prop:=∃m:List PR,CK A H x p m (ask zs p.2)/\m.Sublist l/\m.map (·.2)=lV zs (l.map (·.2)) p.2
theorem yG.mono{A:Cl}{H H':Hp}(e:aT H H'){l:List PR}{zs:List Rl}{x:af}{p:PR}(h:yG A H l zs x p):yG A H' l zs x p:=let⟨m,a,b,c⟩:=h;(bP m (a.mono e) b c)
def JX(A:Cl):Sp:=λvs H Q _=>∃(b c:af)(cs:List bA)(p:PR)(l:List PR)(gQ:List af)(zs:List Rl)(M:List af),vs=[.ref p.1,.ref b,.ref c]/\Tr M H/\sG A H p.1 p.2/\cut H M b=some (.lst (qh l))/\gA A cs H l/\
 H c=some (.lst (iZ gQ))/\gX A H gQ zs/\∀(x:af)(H':Hp),aT H H'->yG A (cut H' M) l zs x p->Q (.ref x) H'
theorem AJ(T:Txt K mg A):Def P w K mg base "hiding_of" 4 ["row","rows","releases"] (JX A):=by
 refine T.yz.RF.g8 ph (λf _ A' _ s H vs Q E hr=>Kt ?_)
 ·rintro b c cs p l gQ zs M ⟨rfl,tr,hp,hb,hl,hc,hz,k⟩;have hlen:=Paired.len hz;refine ag (ax (cg (i:=3) ph.nd rfl fz (n6 (CJ T) hr.mono rfl (aI (pv 0) (aI (pv 1) (aI bB (aI bB aq)))))) (ax (lU dE rfl (dI (pv 2)) (bU (i:=4) ph.nd rfl fz) (aG (cg (i:=3) ph.nd rfl fz (bF (wO T) hr.mono rfl (aI (pv 3) (aI (pv 4) aq)))))) (aG (aY (pv 3))))) ?_;refine ba ?_;refine ag rfl (ag rfl ?_);intro x dx nx nd ne;refine jb x dx _ _ _ _ ⟨rfl,ai,λH4 e4 k4=>⟨rfl,?_⟩⟩;have s4:aT H H4:=aT.made nx nd k4;refine ck ?_;refine ag rfl (bP c rfl ⟨_,bG.of (s4 _ _ hc)⟩ (my (K:=K) (a:=c) (xs:=iZ gQ) (λi σ H'=>∃(v4:Option V)(y:af),σ=[some (.ref p.1),some (.ref b),some (.ref c),some (.ref y),v4]/\aT H H'/\yG A (cut H' M) l (zs.take i) y p) (bt none x rfl s4 (bP l (fu dx b (rg tr nx e4) ?_) (F7 _) rfl)) (λi σ H' _ pp=>by refine j7 ?_ pp;rintro _ _ _ s _;exact bG.of (s _ _ hc)) ?_ ?_))
  ·exact dR s4 _ _ hb
  ·rintro i xv σ H' hi ⟨v4,y,rfl,s',m,hm,ud,Ym⟩;obtain⟨za,hza,rfl⟩:=kM hi;obtain⟨z,hzi,Ox⟩:=Paired.wI hz hza;have et:zs.take (i+1)=zs.take i++[z]:=by rw[dz,hzi];rfl
   refine ag rfl (ag rfl (Iz y za cs p m _ z M ⟨rfl,tr.mono s',hm,hp.mono s',(hl.mono s').sub ud,Ox.mono s',λx2 H2 m2 s2 h2 Gg hm2=>?_⟩));refine bt _ _ rfl (s'.trans s2) (bP m2 ?_ (Gg.trans ud) ?_)
   ·rw[et,Ms];exact h2
   ·rw[et,Mt,<-Ym];exact hm2
  ·rintro σ H' ⟨v4,y,rfl,s',h'⟩;rw[bK (by rw[cu];omega)] at h';exact ag rfl (k y H' s' h')
def Hf(A:Cl):Sp:=λvs H Q _=>∃(b c:af)(cs:List bA)(l:List PR)(gQ:List af)(zs:List Rl),vs=[.ref b,.ref c]/\H b=some (.lst (qh l))/\gA A cs H l/\
 H c=some (.lst (iZ gQ))/\gX A H gQ zs/\∀(D:af)(H':Hp)(xs:List af),H D=none->aT H H'->H' D=some (.lst (iZ xs))->dn (yG A H' l zs) xs l->Q (.ref D) H'
theorem QA{n:Nat}{R:Nat->af->Prop}{ys:List V}(hl:ys.length=n)(h:∀i y,ys[i]? =some y->∃x,y=.ref x/\R i x):∃xs:List af,ys=iZ xs/\xs.length=n/\∀i x,xs[i]? =some x->R i x:=by
 induction n generalizing ys R with
 |zero=>exact bP ([]) (gc.mp hl) rfl (λi x e=>by simp at e)
 |succ n ih=>
  cases ys with
  |nil=>simp at hl
  |cons y ys=>
   obtain⟨x,rfl,hx⟩:=h 0 y rfl;refine cH ?_ (ih (R:=λi=>R (i+1)) (ys:=ys) (by simpa using hl) (λi y e=>h (i+1) y (by simpa using e)));rintro xs rfl h1 h2;refine bP (x::xs) rfl (by simp[h1]) (λi z e=>?_)
   cases i with
   |zero=>simp at e;subst e;exact hx
   |succ i=>exact h2 i z (by simpa using e)
theorem xx{α β:Type}{R:α->β->Prop}:∀{l:List α}{m:List β},l.length=m.length->(∀(i:Nat)(a:α)(b:β),l[i]? =some a->m[i]? =some b->R a b)->dn R l m
 |[],[],_,_=>.nil
 |a::l,b::m,hl,h=>.cons (h 0 a b rfl rfl) (xx (by simpa using hl) λi x y e1 e2=>h (i+1) x y (by simpa using e1) (by simpa using e2))
 |[],_::_,hl,_=>by simp at hl
 |_::_,[],hl,_=>by simp at hl
theorem Hg(T:Txt K mg A):Def P w K mg base "hidings_of" 5 ["rows","releases"] (Hf A):=by
 refine T.yz.N7.g8 rE (λf _ A' _ s H vs Q E hr=>nJ ?_)
 ·rintro b c cs l gQ zs ⟨rfl,hb,hl,hc,hz,k⟩;have Fb:=uc (K:=K) (bG.of hb);have gC:=nQ (K:=K) (bG.of hb);have Fo:(qh l).length=l.length:=aa ..;rw[Fo] at Fb gC;refine ag (aG (aY (ia rfl (own:=[("row",2)]) rE.nd (dI (pv 0)) (cR (by kernel_rfl)) (λ_ _ _ _ _=>(bU (i:=2) rE.nd rfl fz)) (λ_ _ _ _ _=>eQ) (λ_ _ _ _ _=>(bF (AJ T) hr.mono rfl (aI (pv 2) (aI (pv 0) (aI (pv 1) aq)))))))) ?_;refine jh ?_;refine fC ?_;refine ag rfl (bP b rfl ⟨_,bG.of hb⟩ ?_);refine Yf (n:=l.length) (Rel:=λi y H=>∃x,y=.ref x/\∃p,l[i]? =some p/\yG A H l zs x p) (λi y H1 H2 s ⟨x,e,p,hp,h⟩=>bq x e (bq p hp (h.mono s))) (ao hl.len (by decide)) Fb gC (λD i xv H' ou R hD hi k' xR y hR=>?_) (λD H' ys hD hs he V2 hys=>?_)
  ·obtain⟨rfl,y⟩:=y;obtain⟨p,hp,rfl⟩:=JU (y _ (bG.of (k' _ _ hb)));obtain⟨acc,xR⟩:=xR;refine⟨rfl,ag rfl (ag rfl (ag rfl (Iz b c cs p l gQ zs ([D]) ⟨rfl,Tr.cons Tr.nil xR,(hl.at' p (aN hp)).mono k',?_,hl.mono k',k' _ _ hc,gX.mono k' hz,λx H4 s4 h4=>hR _ _ s4 (bq x rfl (bq p hp h4))⟩)))⟩;rw[c7 (by simp;exact aR hb hD)];exact k' _ _ hb
  ·refine cH ?_ (QA (R:=λi x=>∃p,l[i]? =some p/\yG A (cut H' [D]) l zs x p) V2 hys);rintro xs rfl h1 h2;refine k D H' xs hD hs he (xx h1 λi x p e1 e2=>?_);obtain⟨p',e3,h3⟩:=h2 i x e1;rw[e2] at e3;cases e3;exact h3.mono (bY _ _)
def Dd(A:Cl):Sp:=λvs H Q _=>∃(a b:af)(cs:List bA)(l:List PR)(xs:List af)(zs:List Rl)(z:Rl),vs=[.ref a,.ref b]/\H a=some (.lst (iZ xs))/\dn (yG A H l zs) xs l/\gA A cs H l/\nB A H b z/\∀H',aT H H'->Q (.bl (mi (zs++[z]) (l.map (·.2)))) H'
theorem De(T:Txt K mg A):Def P w K mg base "is_safe_with" 4 ["hidings","release"] (Dd A):=by
 refine T.yz.Jk.g8 uO (λf _ A' _ s H vs Q E hr=>nK ?_)
 ·rintro a b cs l xs zs z ⟨rfl,ha,hx,hl,hz,k⟩;have hlen:=Paired.len hx;have eX:∀bb H',mi (zs++[z]) (l.map (·.2))=bb->aT H H'->Q (.bl bb) H':=λbb H' h2 h3=>by rw[<-h2];exact k H' h3
  refine ag (ax (lU dE rfl (dI (pv 0)) (bU (i:=2) uO.nd rfl fz) (aG (du (gI (fY (dv (bF (wO T) hr.mono rfl (aI (pv 2) (aI (pv 1) aq))) T.lV.cl (Ft T) hr.mono))) (aG (aY kf)) bS))) (aG (aY kf))) ?_;refine ag rfl (bP a rfl ⟨_,bG.of ha⟩ (my (K:=K) (a:=a) (xs:=iZ xs) (λi σ H'=>(∃v2:Option V,σ=[some (.ref a),some (.ref b),v2])/\aT H H'/\∀p∈l.take i,enough (ask (zs++[z]) p.2).1 (ask (zs++[z]) p.2).2 (lV (zs++[z]) (l.map (·.2)) p.2)=true) ⟨⟨_,rfl⟩,aT.refl _,λp hp=>by simp at hp⟩ (λi σ H' _ pp=>bG.of (pp.2.1 _ _ ha)) ?_ ?_))
  ·rintro i xv σ H' hi ⟨⟨v2,rfl⟩,s',lj⟩;obtain⟨x,hxi,rfl⟩:=kM hi;obtain⟨p,hp,JL⟩:=Paired.wI hx hxi;refine cH ?_ (JL.mono s');rintro m hm ud Ym;have Ml:=aN hp;have et:l.take (i+1)=l.take i++[p]:=by rw[dz,hp];rfl
   refine ag rfl (ag rfl (Iz x b cs p m _ z ([]) ⟨rfl,Tr.nil,by rw[ub];exact hm,(hl.at' p Ml).mono s',(hl.mono s').sub ud,hz.mono s',λx2 H2 m2 s2 h2 Gg hm2=>?_⟩));rw[ub] at h2;refine jk ?_ (id h2);rintro Yl la2 g1 g2;refine mJ g1 BI (o6 x2 cs p m2 _ ⟨rfl,h2,(hl.mono (s'.trans s2)).sub (Gg.trans ud),λH3 s3=>?_⟩);have e1:enough (kH z p.2 (ask zs p.2)).1 (kH z p.2 (ask zs p.2)).2 (m2.map (·.2))=enough (ask (zs++[z]) p.2).1 (ask (zs++[z]) p.2).2 (lV (zs++[z]) (l.map (·.2)) p.2):=by rw[Ms,Mt,hm2,Ym]
   rw[e1];refine ag rfl (kQ (λe=>?_) (λe=>?_))
   ·refine eX _ _ ?_ ((s'.trans s2).trans s3);unfold mi;rw[YD];exact bq p.2 (au.mpr (bq p Ml rfl)) (by rw[e];exact aZ)
   ·refine cT ?_;refine⟨⟨_,rfl⟩,(s'.trans s2).trans s3,λq hq=>?_⟩;rw[et] at hq;rcases aE.mp hq with h|h
    ·exact lj q h
    ·have:q=p:=by simpa using h
     subst this;exact e
  ·rintro σ H' ⟨⟨v2,rfl⟩,s',lj⟩;refine eX _ _ ?_ s';unfold mi;rw[cj];intro r Kp;obtain⟨p,hp,rfl⟩:=au.mp Kp;exact lj p (by rw[bK (by rw[cu];omega)];exact hp)
end
section
open Vbslai (levels choices)
theorem Vb{σ:L2.St}{H:Hp}{Q:VK}{n v:Int}(h3:σ[3]? =some (some (.int n)))(h4:σ[4]? =some (some (.int v)))(h:Q (.int (if v=1 then 0 else n-1)) H):
  tIf (Ti (Wn rEq (rz 4) (tC (.int 1)))) (tC (.int 0)) (Wn (Wo λi j=>.int (i-j)) (rz 3) (tC (.int 1))) σ H Q:=by
 refine bP _ h4 rfl (ag rfl (fG (λe=>?_) (λe=>?_)))
 ·have:v=1:=by injection e
  rw[if_pos this] at h;exact h
 ·have:¬v=1:=λq=>e (by rw[q]);rw[if_neg this] at h;exact ag h3 (bt _ _ rfl rfl h)
def AK(M:List af)(H:Hp)(x:af)(ls:List Nat):Prop:=cut H M x=some (.lst (gZ ls))
theorem AK.mono{M:List af}{H H':Hp}(e:aT H H'){x:af}{ls:List Nat}(h:AK M H x ls):AK M H' x ls:=dR e _ _ h
def xZ(K:ah)(A:Cl):Sp:=λvs H Q _=>∃(a b:af)(fm:d8)(q:List Int)(M:List af),vs=[.ref a,.ref b]/\Tr M H/\gW A H a fm/\iN fm/\bG K H b (j8 q)/\q.length=fm.columns.length/\
 ∀(D:af)(H':Hp)(xs:List af),aT H H'->H' D=some (.lst (iZ xs))->dn (AK M H') xs (choices (fm.columns.zip (q.map λb=>b==1)))->Q (.ref D) H'
theorem x3(T:Txt K mg A):Def P w K mg base "levels_looked_at" 3 ["form","asked"] (xZ K A):=by
 refine T.yz.BE.g8 dO (λf _ A' _ s H vs Q E hr=>CV ?_)
 ·rintro a b fm q M ⟨rfl,tr,F0,ok,hb,hq,k⟩;refine ip ?_ (id F0);rintro Qx lc lv as SF hf2 hf3 hf4;obtain⟨pq,epq⟩:∃pq:List (Nat×Bool),pq=(fm.columns.zip (q.map λb=>b==1)).map λc=>(levels c.1.kind,c.2):=⟨_,rfl⟩;have xH:pq.length=fm.columns.length:=by rw[epq,aa,eK,aa,hq];omega
  have hp4:∀p∈pq,1<=p.1/\p.1<=4:=λp hp=>by rw[epq] at hp;obtain⟨c,hc,rfl⟩:=au.mp hp;exact⟨ao (by decide) (tJ c.1.kind),qH (ok.cols c.1 (qw hc).1)⟩
  have SE:=ok.len;refine ag (ax (cg (i:=2) dO.nd rfl fz (bZ (aI (bZ aq) aq))) (ax (lU dE rfl (By (by rfl) T.b.EW (aI (dv (pv 0) T.iw.cl (k5 T) hr.mono) (aI (pv 1) aq))) (DO (n:=2) rfl (fZ (bU (i:=3) dO.nd rfl fz) (fZ (bU (i:=4) dO.nd rfl fz) o7))) (ax (cg (i:=5) dO.nd rfl fz (Ta (cF jz (pv 4) bB (cC _)) bB (fo vv (pv 3) bB))) (ax (cg (i:=6) dO.nd rfl fz (bZ aq)) (ax (lU dE rfl (dI (pv 2)) (bU (i:=7) dO.nd rfl fz) (aG (lU dE rfl (Q3 (by rfl) T.b.Qh (aI (pv 5) (aI (pv 3) aq))) (bU (i:=8) dO.nd rfl fz) (aG (iR (oS bT cV cW jl (pv 6) (aI (fo jU (pv 7) (bZ (aI (pv 8) aq))) aq))))))) (aG (cg (i:=2) dO.nd rfl fz (pv 6))))))) (aG (aY (pv 2))))) ?_;refine ba ?_;refine⟨bE _,λI0 Vc=>⟨by show 1<=aA;decide,λF0' hF0=>?_⟩⟩;refine ck ?_;have s0:aT H (upd (upd H I0 (.lst [])) F0' (.lst [.ref I0])):=(aD Vc).trans (aD hF0);have hIM:¬I0∈M:=tr.not Vc;refine ba ?_;refine mI (s0 _ _ SF) jV (dH a fm rfl (F0.mono s0) ok (λD1 H1 hD1 s1 e1=>?_));have Gp:=s0.trans s1;refine ag rfl (oJ D1 b _ _ rfl (bG.of e1) (Gp.seq hb) ?_);refine JA (n:=fm.columns.length) (λi σ H'=>∃(v3 v4 v5 v6 v7 v8:Option V)(F:af)(xs:List af),σ=[some (.ref a),some (.ref b),some (.ref F),v3,v4,v5,v6,v7,v8]/\aT H1 H'/\H' F=some (.lst (iZ xs))/\dn (AK M H') xs ((pq.take i).foldl kX [[]])) ?_ (λi σ H' hi p=>?_) (λσ H' p=>?_) (λi xv σ H' ou hi p y=>?_) (λσ H' p=>?_)
  ·refine Iz none none none none none none F0' ([I0]) ⟨rfl,aT.refl _,s1 _ _ ai,.cons ?_ .nil⟩;show cut H1 M I0=_;rw[c7 hIM];exact s1 _ _ (by rw[ay (aR ai hF0)];exact ai)
  ·refine Kt ?_ p;clear p;rintro _ _ _ _ _ _ F xs ⟨rfl,s2,_⟩;exact oJ _ _ _ _ (bG.of (s2 _ _ e1)) ((Gp.trans s2).seq hb) (aw (by rw[eI,aa];exact hi)) (aw (by rw[gP,hq];exact hi))
  ·refine Kt ?_ p;clear p;rintro _ _ _ _ _ _ F xs ⟨rfl,s2,_⟩;exact bt _ _ (bG.of (s2 _ _ e1)) ((Gp.trans s2).seq hb) (.inl (by rw[eI,aa];exact aK _))
  ·refine Kt ?_ p;clear p;rintro v3 v4 v5 v6 v7 v8 F xs ⟨rfl,s2,hF,hP⟩;refine rq ?_ y;clear y;rintro T1 xn yn rfl Ie rfl ⟨hxn,hyn⟩;obtain⟨n,hn,rfl⟩:=lP (hxn _ (bG.of (s2 _ _ e1)));obtain⟨v,hv,rfl⟩:=JS (hyn _ ((Gp.trans s2).seq hb));rw[aV] at hn
   cases hc:fm.columns[i]? with
   |none=>rw[hc] at hn;cases hn
   |some c=>
    rw[hc] at hn;cases hn;have Va:pq[i]? =some (levels c.kind,v==1):=by rw[epq,aV,show(fm.columns.zip (q.map λb=>b==1))[i]? =some (c,v==1) from de.mpr ⟨hc,by rw[aV,hv];rfl⟩];rfl
    have Ml:=hp4 _ (aN Va);have et:(pq.take (i+1)).foldl kX [[]]=kX ((pq.take i).foldl kX [[]]) (levels c.kind,v==1):=by rw[dz,Va,ju];rfl
    obtain⟨fd,hfd⟩:∃fd,fd=(pq.take i).foldl kX [[]]:=⟨_,rfl⟩;rw[<-hfd] at hP et;have hfl:∀ls∈fd,ls.length<=4:=λls Yn=>by have:=Ur (pq.take i) [[]] 0 (λx hx=>by simp at hx;subst hx;exact aK _) ls (by rw[<-hfd];exact Yn);rw[cQ] at this;omega
    have hfc:fd.length<=256:=by
     have h1:=NU (pq.take i) [[]] (λp hp=>hp4 p (lG hp));rw[<-hfd] at h1;have h2:(pq.take i).length<=4:=by rw[cQ];omega
     have h3:(4:Nat)^(pq.take i).length<=4^4:=VQ (by decide) h2;have h4:([[]]:List (List Nat)).length=1:=rfl;rw[h4,VW] at h1;exact ao h1 (ao h3 (by decide))
    have SH:=Paired.len hP;refine dH T1 _ rfl (nY.of ai) rfl (fu _ _ rfl (bt _ _ rfl rfl ?_));refine ba ?_;refine Vb (n:=((levels c.kind:Nat):Int)) (v:=v) rfl rfl ?_;refine ck ?_;refine ba ?_;refine⟨bE _,λL hL=>?_⟩;refine ck ?_;refine ba ?_;have s3:aT H' (upd (upd H' T1 (.tup [.int ((levels c.kind:Nat):Int),.int v])) L (.lst [])):=(aD Ie).trans (aD hL);have hLL:(upd (upd H' T1 (.tup [.int ((levels c.kind:Nat):Int),.int v])) L (.lst [])) L=some (.lst []):=ai;have LS:H' L=none:=(aD Ie).free hL;generalize upd (upd H' T1 (.tup [.int ((levels c.kind:Nat):Int),.int v])) L (.lst [])=G0 at s3 hLL⊢;obtain⟨lw,hlw⟩:∃lw:Nat,lw=if(v==1)=true then 0 else levels c.kind-1:=⟨_,rfl⟩
    have hz:(if v=1 then(0:Int) else((levels c.kind:Nat):Int)-1)=(lw:Int):=by
     rw[hlw];by_cases e:v=1
     ·rw[if_pos e,if_pos (by simpa using e)];rfl
     ·rw[if_neg e,if_neg (by simpa using e)];omega
    have aln:lw<=4:=by rw[hlw];split<;>omega
    have how:Ak (levels c.kind) (v==1)=(b9 (levels c.kind-lw)).map λj=>lw+j:=by rw[hlw];exact Uq Ml.1 _
    rw[hz];have trM:Tr (L::M) G0:=Tr.cons (tr.mono (Gp.trans (s2.trans s3))) hLL;have hFL:F≠L:=aR hF LS;refine ag rfl (bP F rfl ⟨_,bG.of (s3 _ _ hF)⟩ (my (K:=K) (a:=F) (xs:=iZ xs) (λj σ G=>∃(v7 v8:Option V)(ys:List af),σ=[some (.ref a),some (.ref b),some (.ref F),some (.int ((levels c.kind:Nat):Int)),some (.int v),some (.int (lw:Int)),some (.ref L),v7,v8]/\c6 [L] G0 G/\G L=some (.lst (iZ ys))/\dn (AK (L::M) G) ys ((fd.take j).flatMap λls=>(Ak (levels c.kind) (v==1)).map λk=>ls++[k])) (jK _ _ ([]) rfl (c6.of (aT.refl _)) ⟨hLL,.nil⟩) (λj σ G _ pp=>by refine jT ?_ pp;rintro _ _ _ _ sg _;exact bG.of (sg.at (s3 _ _ hF) (by simp;exact hFL))) ?_ ?_))
    ·rintro j xv σ G hj ⟨v7',v8',ys,rfl,sg,hG,hPy⟩;obtain⟨x,hx,rfl⟩:=kM hj;obtain⟨ls,Yn,Xo⟩:=Paired.wI hP hx;have hlm:=hfl ls (aN Yn);have hjf:j<fd.length:=(cn.mp Yn).1;have ej:fd.take (j+1)=fd.take j++[ls]:=by rw[dz,Yn];rfl
     have hxL:x≠L:=aR (c8 Xo).2 LS;have hx0:G0 x=some (.lst (gZ ls)):=s3 _ _ (c8 Xo).2;have cnt:((fd.take j).flatMap λls=>(Ak (levels c.kind) (v==1)).map λk=>ls++[k]).length<=1024:=by have h1:=zd (p:=(levels c.kind,v==1)) Ml.1 Ml.2 (fd.take j);rw[BD,cQ] at h1;exact ao h1 (by omega)
     have alr:=HX (n:=levels c.kind) Ml.1 Ml.2 (v==1);refine ag rfl (ag rfl (bt (lw:Int) ((levels c.kind:Nat):Int) rfl ⟨by omega,by omega,by omega,by omega⟩ ?_));have en:(((levels c.kind:Nat):Int)-(lw:Int)).toNat=levels c.kind-lw:=by omega
     rw[en];refine Q5 (λt σ G'=>∃(v8:Option V)(ys':List af),σ=[some (.ref a),some (.ref b),some (.ref F),some (.int ((levels c.kind:Nat):Int)),some (.int v),some (.int (lw:Int)),some (.ref L),some (.ref x),v8]/\c6 [L] G0 G'/\G' L=some (.lst (iZ ys'))/\dn (AK (L::M) G') ys' (((fd.take j).flatMap λls=>(Ak (levels c.kind) (v==1)).map λk=>ls++[k])++((b9 t).map λj=>lw+j).map λk=>ls++[k])) (dH _ ys rfl sg hG (by simpa using hPy)) ?_ ?_
     ·rintro t σ G' ht ⟨agZ,ys',rfl,sg',hG',Vd⟩;have hxG:G' x=some (.lst (gZ ls)):=sg'.at hx0 (by simp;exact hxL);have V2:ys'.length<=1100:=by rw[Paired.len Vd,aP,aa,aa,d4];have:levels c.kind<=4:=Ml.2;omega
      refine bP _ rfl (.inl ⟨rfl,_,bG.of hG'⟩) (ag rfl (bP _ rfl (by show 1<=aA;decide) (λq1 V7=>gB x q1 _ _ rfl rfl (aD V7 _ _ hxG) ai ?_ (λr hr1=>iD L _ _ rfl rfl (aD hr1 _ _ (aD V7 _ _ hG')) ?_ ?_))))
      ·rw[eI];show ls.length+1<=aA;exact cX (dG (by omega))
      ·rw[cu];exact b0 V2 (by decide)
      ·have sr:aT G' (upd (upd G' q1 (.lst [V.int ((lw:Int)+(t:Nat))])) r (.lst (gZ ls++[V.int ((lw:Int)+(t:Nat))]))):=(aD V7).trans (aD hr1);refine dH _ (ys'++[r]) rfl ((sg'.trans (c6.of sr)).upd (by simp)) ?_ ?_
       ·rw[ai];unfold iZ;rw[bw];rfl
       ·rw[qx,bw,bw,<-dw];have hcu:∀o,cut (upd (upd (upd G' q1 (.lst [V.int ((lw:Int)+(t:Nat))])) r (.lst (gZ ls++[V.int ((lw:Int)+(t:Nat))]))) L o) (L::M)=cut (upd (upd G' q1 (.lst [V.int ((lw:Int)+(t:Nat))])) r (.lst (gZ ls++[V.int ((lw:Int)+(t:Nat))]))) (L::M):=λo=>tQ (by simp);refine Paired.snoc (Paired.mono (λy ms hy=>?_) Vd) ?_
        ·unfold AK;rw[hcu];exact hy.mono sr
        ·unfold AK;rw[hcu];have trG:Tr (L::M) G':=λm hm=>by
          rcases aB.mp hm with e|e
          ·subst e;exact⟨_,hG'⟩
          ·obtain⟨o,eo⟩:=(tr.mono (Gp.trans (s2.trans s3))) m e;by_cases z:m=L
           ·subst z;exact⟨_,hG'⟩
           ·exact⟨o,sg'.at eo (by simp;exact z)⟩
         rw[c7 ((trG.mono (aD V7)).not hr1),ai];unfold gZ;rw[bw];refine congrArg (λz=>some (HO.lst (_++[V.int z]))) ?_;show(lw:Int)+(t:Nat)=((lw+t:Nat):Int);omega
     ·rintro σ G' ⟨agZ,ys',rfl,sg',hG',Vd⟩;refine jK _ _ ys' rfl sg' ⟨hG',?_⟩;rw[ej,gw,ie,List.flatMap_nil,dM,how];rw[how] at Vd;exact Vd
    ·rintro σ G ⟨v7',v8',ys,rfl,sg,hG,hPy⟩;refine ag rfl ?_;rw[bK (by rw[cu];omega)] at hPy;refine Iz _ _ _ _ _ _ L ys ⟨rfl,?_,hG,?_⟩
     ·exact s2.trans (aT.cutD LS (λb o e=>by obtain⟨n,e⟩:=c8 e;exact sg.at (s3 _ _ e) n))
     ·rw[et];exact Paired.mono (λy ms hy=>UJ _ _ hy) hPy
  ·refine Kt ?_ p;clear p;rintro v3 v4 v5 v6 v7 v8 F xs ⟨rfl,s2,hF,hP⟩;refine ag rfl (k F H' xs (Gp.trans s2) hF ?_);rw[bK (by omega),epq,<-X7] at hP;exact hP
def vd(K:ah)(A:Cl):Sp:=λvs H Q _=>∃(a b e:af)(fm:d8)(l:List PR)(q:List Int)(x u:Nat)(M:List af),vs=[.ref a,.ref b,.int (x:Nat),.int (u:Nat),.ref e]/\RX M H/\gW A H a fm/\iN fm/\H b=some (.lst (qh l))/\gA A fm.columns H l/\(l.map (·.2.who)).Nodup/\
 bG K H e (j8 q)/\q.length=fm.columns.length/\∀(D:af)(H':Hp)(xs:List af),H D=none->aT H H'->H' D=some (.lst (iZ xs))->dn (nB A (cut H' M)) xs ((choices (fm.columns.zip (q.map λb=>b==1))).map λls=>iF fm.columns (l.map (·.2)) ls x u)->Q (.ref D) H'
theorem wQ{fm:d8}(ok:iN fm)(qb:List Bool):(choices (fm.columns.zip qb)).length<=256:=by
 rw[X7];have h1:=NU ((fm.columns.zip qb).map λc=>(levels c.1.kind,c.2)) [[]] (λp hp=>by obtain⟨c,hc,rfl⟩:=au.mp hp;exact⟨ao (by decide) (tJ c.1.kind),qH (ok.cols c.1 (qw hc).1)⟩);have h2:((fm.columns.zip qb).map λc=>(levels c.1.kind,c.2)).length<=4:=by rw[aa,eK];have:=ok.len;omega
 have h3:=VQ (show 0<4 by decide) h2;have h4:([[]]:List (List Nat)).length=1:=rfl;rw[h4,VW] at h1;exact ao h1 (ao h3 (by decide))
theorem nF(T:Txt K mg A):Def P w K mg base "releases_looked_at" 6 ["form","rows","k","u","asked"] (vd K A):=by
 refine T.yz.zh.g8 jW (λf _ A' _ s H vs Q E hr=>o5 ?_)
 ·rintro a b e fm l q kx ku M ⟨rfl,tr,F0,ok,hb,hl,nd,he0,hq,k⟩;have aak:=wQ ok (q.map λb=>b==1);refine ag (aG (aY (ia rfl (own:=[("levels",5)]) jW.nd (dI (bF (x3 T) hr.mono rfl (aI (pv 0) (aI (pv 4) aq)))) (cR (by kernel_rfl)) (λ_ _ _ _ _=>(bU (i:=5) jW.nd rfl fz)) (λ_ _ _ _ _=>eQ) (λ_ _ _ _ _=>(bF (yF T) hr.mono rfl (aI (pv 0) (aI (pv 1) (aI (pv 5) (aI (pv 2) (aI (pv 3) aq)))))))))) ?_;refine jh ?_;refine fC ?_;refine ag rfl (ag rfl (o6 a e fm q M ⟨rfl,tr.tr,F0,ok,he0,hq,λF H1 xs s1 hF hP=>bP F rfl ⟨_,bG.of hF⟩ ?_⟩));have SH:=Paired.len hP;have Fb:=uc (K:=K) (bG.of hF);have gC:=nQ (K:=K) (bG.of hF);rw[cu,SH] at Fb gC;refine Yf (n:=(choices (fm.columns.zip (q.map λb=>b==1))).length) (Rel:=λi y H=>∃x,y=.ref x/\∃ls,(choices (fm.columns.zip (q.map λb=>b==1)))[i]? =some ls/\nB A (cut H M) x (iF fm.columns (l.map λp:PR=>p.2) ls kx ku)) (λi y H1 H2 s ⟨x,e,p,hp,h⟩=>bq x e (bq p hp (h.mono (dR s)))) (ao aak (by decide)) Fb gC (λD i xv H' ou R hD hi k' xR y hR=>?_) (λD H' ys hD hs he V2 hys=>?_)
  ·obtain⟨rfl,y⟩:=y;obtain⟨x,hx,rfl⟩:=kM (y _ (bG.of (k' _ _ hF)));obtain⟨ls,Yn,Xo⟩:=Paired.wI hP hx;obtain⟨acc,xR⟩:=xR;have s2:=s1.trans k';refine⟨rfl,ag rfl (ag rfl (ag rfl (ag rfl (ag rfl (qt a b x fm l ls kx ku (D::M) ⟨rfl,F0.mono s2,ok,s2 _ _ hb,hl.mono s2,nd,?_,?_,?_,λz H4 hz s4 h4=>?_⟩)))))⟩
   ·intro m hm;rcases aB.mp hm with e|e
    ·subst e;exact ag xR (λxs z=>nomatch z)
    ·exact(tr.mono s2) m e
   ·have h1:cut H1 M x=some (.lst (gZ ls)):=Xo;obtain⟨n1,h1⟩:=c8 h1;rw[c7 (by simp;exact⟨aR h1 hD,n1⟩)];exact k' _ _ h1
   ·have h1:=ux (aN Yn);have e:(fm.columns.zip (q.map λb=>b==1)).map (·.1)=fm.columns:=by rw[aa2];rw[aa,hq];exact aK _
    rw[e] at h1;exact h1
   ·refine hR _ _ s4 (bq z rfl (bq ls Yn ?_));rw[Xn];exact h4
  ·refine cH ?_ (QA (R:=λi x=>∃ls,(choices (fm.columns.zip (q.map λb=>b==1)))[i]? =some ls/\nB A (cut (cut H' [D]) M) x (iF fm.columns (l.map λp:PR=>p.2) ls kx ku)) V2 hys);rintro xs' rfl h1 h2;refine k D H' xs' (s1.free hD) (s1.trans hs) he (xx (by rw[aa];exact h1) λi x z e1 e2=>?_);obtain⟨ls,e3,h3⟩:=h2 i x e1;rw[aV,e3] at e2;cases e2;exact h3.mono (dR (bY _ _))
structure wR(A:Cl)(H:Hp)(l:List (af×Rl)):Prop where
 at':∀p∈l,nB A H p.1 p.2
 len:l.length<=300
theorem wR.mono{A:Cl}{H H':Hp}{l:List (af×Rl)}(e:aT H H')(h:wR A H l):wR A H' l:=⟨λp hp=>(h.at' p hp).mono e,h.len⟩
theorem wR.sub{A:Cl}{H:Hp}{l m:List (af×Rl)}(h:wR A H l)(s:m.Sublist l):wR A H m:=⟨λp hp=>h.at' p (s.subset hp),ao s.length_le h.len⟩
abbrev OV(l:List (af×Rl)):List V:=l.map λp=>V.ref p.1
def iz(m:Nat)(z:Rl):Bool:=decide (z.left<=m)&&decide (0<z.lk.length)
def Hh(A:Cl):Sp:=λvs H Q _=>∃(a:af)(l:List (af×Rl))(m:Nat),vs=[.ref a,.int (m:Nat)]/\H a=some (.lst (OV l))/\wR A H l/\
 ∀(D:af)(H':Hp),H D=none->aT H H'->H' D=some (.lst (OV (l.filter λp=>iz m p.2)))->Q (.ref D) H'
theorem yH(T:Txt K mg A):Def P w K mg base "safe_alone" 1 ["looked_at","m"] (Hh A):=by
 refine T.yz.N8.g8 rF (λf _ A' _ s H vs Q E hr=>rq ?_)
 ·rintro a l m rfl ha hl k;refine ag (aG (aY (ia rfl (own:=[("release",2)]) rF.nd (dI (pv 0)) (cR (by kernel_rfl)) (λ_ _ _ _ _=>(bU (i:=2) rF.nd rfl fz)) (λ_ _ _ _ _=>(tq (PW.pt (ID (cF iH (kL (K:=K) rfl (pv 2) rfl) (pv 1) (cC _)) (Dx (cF PH (cJ rZ (by rfl) T.b.dS cP (aI (kL (K:=K) rfl (pv 2) rfl) aq)) bB (cC _))))))) (λ_ _ _ _ _=>(pv 2))))) ?_;refine jh ?_;refine fC ?_;refine ag rfl (bP a rfl ⟨_,bG.of ha⟩ ?_);refine l4 (enc:=λp:af×Rl=>V.ref p.1) (f:=λp=>V.ref p.1) (p:=λp=>iz m p.2) (bG.of ha) (ao hl.len (by decide)) (λi x H' R S hi k' hR hS=>?_) (λD H' hD hs he=>k D H' hD hs he);refine jT ?_ ((hl.at' x (aN hi)).mono k');rintro dx ll ld z1 z2 z3;obtain⟨kvs,hk1,hk2⟩:=z3.len;refine⟨rfl,fI z1 T.rel.cl T.rel.tR p8 (ag rfl (bt _ _ rfl rfl (ag rfl (fG (λe1=>?_) (λe1=>?_)))))⟩
  ·refine fI z1 T.rel.cl T.rel.xr oh (bt ld kvs rfl hk1 (bt _ _ rfl rfl (ag rfl (fG (λe2=>ag rfl (hR ?_ _ (aT.refl _))) (λe2=>hS ?_ _ (aT.refl _))))))
   ·unfold iz;rw[decide_eq_true (by omega),decide_eq_true (by omega)];rfl
   ·unfold iz;rw[decide_eq_false (show¬0<x.2.lk.length by omega),iY]
  ·refine lh (hS ?_ _ (aT.refl _));unfold iz;rw[decide_eq_false (by omega),iW]
def zG(A:Cl):Sp:=λvs H Q _=>∃(a b c:af)(cs:List bA)(o:List (af×Rl))(m:Nat)(l:List PR)(gQ:List af)(zs:List Rl),vs=[.ref a,.int (m:Nat),.ref b,.ref c]/\H a=some (.lst (OV o))/\wR A H o/\H b=some (.lst (qh l))/\gA A cs H l/\
 H c=some (.lst (iZ gQ))/\gX A H gQ zs/\∀(D:af)(H':Hp),H D=none->aT H H'->H' D=some (.lst (OV ((o.filter λp=>iz m p.2).filter λp=>mi (zs++[p.2]) (l.map (·.2)))))->Q (.ref D) H'
theorem qi(T:Txt K mg A):Def P w K mg base "that_may_go_out" 6 ["looked_at","m","rows","releases"] (zG A):=by
 refine T.yz.C1.g8 jF (λf _ A' _ s H vs Q E hr=>o5 ?_)
 ·rintro a b c cs o m l gQ zs ⟨rfl,ha,ho,hb,hl,hc,hz,k⟩;refine ag (ax (cg (i:=4) jF.nd rfl fz (bF (Hg T) hr.mono rfl (aI (pv 2) (aI (pv 3) aq)))) (aG (aY (ia rfl (own:=[("release",5)]) jF.nd (dI (bF (yH T) hr.mono rfl (aI (pv 0) (aI (pv 1) aq)))) (cR (by kernel_rfl)) (λ_ _ _ _ _=>(bU (i:=5) jF.nd rfl fz)) (λ_ _ _ _ _=>(tq (fY (bF (De T) hr.mono rfl (aI (pv 4) (aI (pv 5) aq)))))) (λ_ _ _ _ _=>(pv 5)))))) ?_;refine ba ?_;refine ag rfl (ag rfl (jb b c cs l gQ zs ⟨rfl,hb,hl,hc,hz,λX1 H1 xs hX1 s1 e1 hx=>?_⟩));refine ck ?_;refine jh ?_;refine fC ?_;refine ag rfl (ag rfl (jK a o m rfl (s1 _ _ ha) ⟨ho.mono s1,λD2 H2 CF s2 e2=>bP D2 rfl ⟨_,bG.of e2⟩ ?_⟩));have JV:wR A H2 (o.filter λp=>iz m p.2):=(ho.mono (s1.trans s2)).sub fw;refine l4 (enc:=λp:af×Rl=>V.ref p.1) (f:=λp=>V.ref p.1) (p:=λp=>mi (zs++[p.2]) (l.map (·.2))) (bG.of e2) (ao JV.len (by decide)) (λi x H' R S hi k' hR hS=>?_) (λD H' hD hs he=>k D H' (s1.free (s2.free hD)) ((s1.trans s2).trans hs) he);have s3:=(s1.trans s2).trans k';refine⟨rfl,ag rfl (ag rfl (xF X1 x.1 cs l xs zs x.2 ⟨rfl,k' _ _ (s2 _ _ e1),Paired.mono (λ_ _ h=>h.mono (s2.trans k')) hx,hl.mono s3,(JV.at' x (aN hi)).mono k',λH4 s4=>ag rfl (Es (λe=>ag rfl (hR e _ s4)) (λe=>hS e _ s4))⟩))⟩
end
theorem sQ(xs:List V)(k:Nat):vz xs (some (k:Int)) none=xs.drop k:=by
 unfold vz;rw[HT.DA,HT.KJ];by_cases h:k<=xs.length
 ·rw[Nat.min_eq_left h];exact bK (by rw[fh];exact aK _)
 ·rw[Nat.min_eq_right (by omega),fg (aK _),fg (by omega)];simp
theorem Mu(s:List Nat)(k:Nat):(gZ s).drop k=gZ (s.drop k):=by unfold gZ;rw[vh]
theorem Fv(s:List aH)(k:Nat):(eU s).drop k=eU (s.drop k):=by unfold eU;rw[vh]
def JY(K:ah):Sp:=λvs H Q _=>∃(a:af)(l:List Nat),vs=[.ref a]/\bG K H a (gZ l)/\l.length<=100/\(∀x∈l,0<x)/\∀H',aT H H'->Q (.bl (o9 l)) H'
theorem AL{l:List Nat}{i a b:Nat}(h1:l[i]? =some a)(h2:(l.drop 1)[i]? =some b):(l.zip l.tail)[i]? =some (a,b):=de.mpr ⟨h1,by rw[<-Pq];exact h2⟩
theorem JZ(T:Txt K mg A):Def P w K mg base "are_steps" 1 ["steps"] (JY K):=by
 refine T.Yd.RI.g8 tY (λf _ A' _ s H vs Q E hr=>ke ?_)
 ·rintro a l rfl ha hl ⟨ag0,k⟩;have eX:∀bb H',o9 l=bb->aT H H'->Q (.bl bb) H':=λbb H' h2 h3=>by rw[<-h2];exact k H' h3
  refine ag (ax (lU dE rfl (By (by rfl) T.b.EW (aI (pv 0) (aI (nZ qA (pv 0) (nT bB) xh) aq))) (DO (n:=2) rfl (fZ (bU (i:=1) tY.nd rfl fz) (fZ (bU (i:=2) tY.nd rfl fz) o7))) (aG (du (PW.pt (rT (cF iH (pv 2) (pv 1) (cC _)) (oK (cF DQ (fo Y2 (pv 2) (pv 1)) bB (cC _))))) (aG (aY kf)) bS))) (aG (aY kf))) ?_;refine ag rfl (ag rfl (ag rfl (bt a _ rfl ha (λD hD=>?_))));rw[show vz (gZ l) (some 1) none=gZ (l.drop 1) from by rw[<-Mu];exact sQ _ 1];have s0:aT H (upd H D (.lst (gZ (l.drop 1)))):=aD hD;have hlz:(l.zip l.tail).length=(l.drop 1).length:=by rw[eK,Pq,aa3];omega
  have ZW:(l.drop 1).length<=l.length:=by rw[fh];omega
  refine oJ a D _ _ rfl (s0.seq ha) (bG.of ai) (JA (n:=(l.drop 1).length) (λi σ H'=>(∃v1 v2:Option V,σ=[some (.ref a),v1,v2])/\aT (upd H D (.lst (gZ (l.drop 1)))) H'/\∀p∈(l.zip l.tail).take i,(decide (p.1<p.2)&&p.2%p.1==0)=true) ⟨qr _ _ rfl,aT.refl _,λp hp=>by simp at hp⟩ (λi σ H' hi pp=>Ow (s0.seq ha) (bG.of ai) (by rw[eI];exact ZW) (by rw[eI];exact aK _) i H' hi pp.2.1) (λσ H' pp=>Fc (s0.seq ha) (bG.of ai) (.inr (by rw[eI];exact aK _)) H' pp.2.1) ?_ ?_)
  ·rintro i xv σ H' ou hi ⟨⟨v1,v2,rfl⟩,s1,lj⟩ y;refine rq ?_ y;clear y;rintro T1 x y rfl Ie rfl ⟨hx,hy⟩;obtain⟨m,hm,rfl⟩:=lP (hx _ ((s0.trans s1).seq ha));obtain⟨n,hn,rfl⟩:=lP (hy _ (bG.of (s1 _ _ ai)));have hz:=AL hm hn;have hmp:=ag0 m (aN hm);have s2:=(s0.trans s1).trans (aD (o:=.tup [.int ((m:Nat):Int),.int ((n:Nat):Int)]) Ie);have bad:(decide (m<n)&&n%m==0)=false->o9 l=false:=λe=>by unfold o9;rw[YD];exact bq (m,n) (aN hz) (by dsimp only;rw[e];exact aZ)
   refine dH T1 _ rfl (nY.of ai) rfl (fu _ _ rfl (bt _ _ rfl rfl ?_));refine ag rfl (ag rfl (bt _ _ rfl rfl (ag rfl (fG (λe1=>kW ?_) (λe1=>?_)))))
   ·exact eX _ _ (bad (by rw[decide_eq_false (show¬m<n by omega),iW])) s2
   ·refine ag rfl (ag rfl (dH _ _ rfl rfl (by omega) ⟨rfl,ag rfl (vX (λe2=>?_) (λe2=>?_))⟩))
    ·have:¬n%m=0:=λq=>e2 (by refine congrArg V.int ?_;omega);exact eX _ _ (bad (by rw[show(n%m==0)=false by simpa using this,iY])) s2
    ·have e3:n%m=0:=by injection e2 with e2;omega
     refine cT ?_;refine⟨qr _ _ rfl,s1.trans (aD Ie),λp hp=>?_⟩;rw[dz,hz] at hp;rcases aE.mp hp with h|h
     ·exact lj p h
     ·have:p=(m,n):=by simpa using h
      subst this;rw[decide_eq_true (show m<n by omega),e3];rfl
  ·rintro σ H' ⟨⟨v1,v2,rfl⟩,s1,lj⟩;refine eX _ _ ?_ (s0.trans s1);unfold o9;rw[cj];intro p hp;exact lj p (by rw[bK (by omega)];exact hp)
def Hi(K:ah):Sp:=λvs H Q _=>∃(a:af)(l:List Nat),vs=[.ref a]/\bG K H a (gZ l)/\l.length<=100/\∀H',aT H H'->Q (.bl (mC l)) H'
theorem Hj(T:Txt K mg A):Def P w K mg base "never_fall" 1 ["costs"] (Hi K):=by
 refine T.Yd.N9.g8 nX (λf _ A' _ s H vs Q E hr=>ke ?_)
 ·rintro a l rfl ha hl k;refine ag (aG (aY (cJ (vA rfl) (by rfl) T.b.Cz vW (aI (ia rfl (own:=[("before",1),("cost",2)]) nX.nd (By (by rfl) T.b.EW (aI (pv 0) (aI (nZ qA (pv 0) (nT bB) xh) aq))) (cR (by kernel_rfl)) (λ_ _ _ _ _=>(AD (K:=K) rfl (n:=2) rfl (fZ (bU (i:=1) nX.nd rfl fz) (fZ (bU (i:=2) nX.nd rfl fz) o7)))) (λ_ _ _ _ _=>eQ) (λ_ _ _ _ _=>(je iH (pv 1) (pv 2) (cC _)))) aq)))) ?_;refine jh ?_;refine kK ?_;refine fC ?_;refine ag rfl (ag rfl (ag rfl (bt a _ rfl ha (λD hD=>?_))));rw[show vz (gZ l) (some 1) none=gZ (l.drop 1) from by rw[<-Mu];exact sQ _ 1];have s0:aT H (upd H D (.lst (gZ (l.drop 1)))):=aD hD;have hlz:(l.zip l.tail).length=(l.drop 1).length:=by rw[eK,Pq,aa3];omega
  have ZW:(l.drop 1).length<=l.length:=by rw[fh];omega
  refine oJ a D _ _ rfl (s0.seq ha) (bG.of ai) ?_;refine Fd (n:=(l.drop 1).length) (f:=λi=>.bl ((((l.zip l.tail)[i]?).map λp=>decide (p.1<=p.2)).getD false)) (ao (ao ZW hl) (by decide)) (Ow (s0.seq ha) (bG.of ai) (by rw[eI];exact ZW) (by rw[eI];exact aK _))
   (Fc (s0.seq ha) (bG.of ai) (.inr (by rw[eI];exact aK _))) (λi xv H' ou R hi s1 y hR=>?_) (λD2 H2 CF Gg Xf=>?_)
  ·refine rq ?_ y;clear y;rintro T1 x y rfl Ie rfl ⟨hx,hy⟩;obtain⟨m,hm,rfl⟩:=lP (hx _ ((s0.trans s1).seq ha));obtain⟨n,hn,rfl⟩:=lP (hy _ (bG.of (s1 _ _ ai)));have hz:=AL hm hn;have:=hR _ (aD (o:=.tup [.int ((m:Nat):Int),.int ((n:Nat):Int)]) Ie);rw[hz] at this;refine dH T1 _ rfl (nY.of ai) rfl (fu _ _ rfl (dH _ _ rfl rfl rfl (ag rfl (ag rfl (bt _ _ rfl rfl ?_)))));have e:decide ((m:Int)<=(n:Int))=decide (m<=n):=by
    by_cases q:m<=n
    ·rw[decide_eq_true q,decide_eq_true (by omega)]
    ·rw[decide_eq_false q,decide_eq_false (by omega)]
   show R (V.bl (decide ((m:Int)<=(n:Int)))) _;rw[e];exact this
  ·refine bt D2 ((l.zip l.tail).map λp=>decide (p.1<=p.2)) rfl (bG.of ?_) ?_
   ·rw[Xf,<-hlz,jS (l.zip l.tail) _ (λp=>V.bl (decide (p.1<=p.2))) (λi x hx=>by rw[hx];rfl),aQ];rfl
   ·have e:((l.zip l.tail).map λp=>decide (p.1<=p.2)).all id=mC l:=by unfold mC;rw[rO];rfl
    rw[e];exact k _ (s0.trans Gg)
section
open Vbslai (settled)
def Df(f:d8):V:=if f.secret=[] then .h9 else .str (sN f.secret)
def Ve(A:Cl)(H:Hp)(a:af)(c:bA)(N W X:List af):Prop:=match c.kind with
 |.numbers s=>∃dx l m,H a=some (.ins A.num dx (oW (.str (sN c.name)) (.ref l) (.ref m)))/\cut H W l=some (.lst (gZ s))/\cut H W m=some (.lst [])
 |.words up=>∃dx l m DI,l∈N/\¬l∈X/\H a=some (.ins A.fL dx (ko (.str (sN c.name)) (.ref l) (.int (longest (gk up):Nat)) (.ref m)))/\H l=some (.lst (iZ DI))/\dn (rf (cut H W)) DI (gk up)/\cut H W m=some (.lst [])
def J0(A:Cl)(H:Hp)(a:af)(c:bA)(N W X:List af):Prop:=¬a∈X/\Ve A H a c N W X
structure sS(A:Cl)(M:List af)(H0 H:Hp)(r:af)(f:d8)(N:List af)(dx lc lv:af)(as:List af)(un:V):Prop where
 same:aT H0 H
 new:∀b∈N,H0 b=none
 held:Tr N H
 rN:r∈N
 lN:lc∈N
 ins:H r=some (.ins A.fS dx (gO (.ref lc) un (Df f) (.ref lv)))
 cols:H lc=some (.lst (iZ as))
 vals:cut H (N++M) lv=some (.lst (eU f.values))
 st:(settled f=true/\un=.h9/\dn (i7 A (cut H (N++M))) as f.columns)∨
  (∃cs c Kq a,Open f cs c/\as=Kq++[a]/\un=.ref a/\a∈N/\dn (i7 A (cut H (N++M))) Kq cs/\J0 A H a c N (N++M) [r,lc])
def Kr(A:Cl)(M:List af)(H0 H:Hp)(r:af)(f:d8):Prop:=∃N dx lc lv as un,sS A M H0 H r f N dx lc lv as un
theorem xy{H H':Hp}{W X:List af}(h:∀b o,H b=some o->¬b∈W->H' b=some o)(n:∀b∈X,H b=none∨b∈W):aT (cut H W) (cut H' X):=λb o e=>by
 obtain⟨nb,e⟩:=c8 e;have:¬b∈X:=λq=>by
  rcases n b q with z|z
  ·rw[e] at z;cases z
  ·exact nb z
 rw[c7 this];exact h b o e nb
theorem J0.keep{A:Cl}{H H':Hp}{a:af}{c:bA}{N W X:List af}(s:∀b o,H b=some o->¬b∈X->H' b=some o)(hX:∀b∈X,b∈W)(h:J0 A H a c N W X):J0 A H' a c N W X:=by
 obtain⟨h0,h⟩:=h;refine⟨h0,?_⟩;have sc:aT (cut H W) (cut H' W):=xy (λb o e n=>s b o e λq=>n (hX b q)) (λb hb=>.inr hb);unfold Ve at h⊢
 cases q:c.kind with
 |numbers t=>rw[q] at h;refine jT ?_ h;rintro dx l m h1 h2 h3;exact jK dx l m (s _ _ h1 h0) (sc _ _ h2) (sc _ _ h3)
 |words up=>rw[q] at h;refine u1 ?_ h;rintro dx l m DI hl hx h1 h2 h3 h4;exact gB dx l m DI hl hx (s _ _ h1 h0) (s _ _ h2 hx) (Paired.mono (λ_ _ z=>z.mono sc) h3) (sc _ _ h4)
theorem J0.mono{A:Cl}{H H':Hp}{a:af}{c:bA}{N W X:List af}(s:aT H H')(h:J0 A H a c N W X):J0 A H' a c N W X:=by
 obtain⟨h0,h⟩:=h;refine⟨h0,?_⟩;unfold Ve at h⊢
 cases q:c.kind with
 |numbers t=>rw[q] at h;refine jT ?_ h;rintro dx l m h1 h2 h3;exact jK dx l m (s _ _ h1) (dR s _ _ h2) (dR s _ _ h3)
 |words up=>rw[q] at h;refine u1 ?_ h;rintro dx l m DI hl hx h1 h2 h3 h4;exact gB dx l m DI hl hx (s _ _ h1) (s _ _ h2) (Paired.mono (λ_ _ z=>z.mono (dR s)) h3) (dR s _ _ h4)
theorem sS.mono{A:Cl}{M:List af}{H0 H H':Hp}{r:af}{f:d8}{N:List af}{dx lc lv:af}{as:List af}{un:V}(s:aT H H')(h:sS A M H0 H r f N dx lc lv as un):sS A M H0 H' r f N dx lc lv as un:=by
 refine⟨h.same.trans s,h.new,h.held.mono s,h.rN,h.lN,s _ _ h.ins,s _ _ h.cols,dR s _ _ h.vals,?_⟩;rcases h.st with⟨a,b,c⟩|⟨cs,c,Kq,a,h1,h2,h3,h4,h5,h6⟩
 ·exact .inl ⟨a,b,Paired.mono (λ_ _ z=>z.mono (dR s)) c⟩
 ·exact .inr (gB cs c Kq a h1 h2 h3 h4 (Paired.mono (λ_ _ z=>z.mono (dR s)) h5) (h6.mono s))
theorem Kr.mono{A:Cl}{M:List af}{H0 H H':Hp}{r:af}{f:d8}(s:aT H H')(h:Kr A M H0 H r f):Kr A M H0 H' r f:=let⟨N,dx,lc,lv,as,un,q⟩:=h;(jb N dx lc lv as un (q.mono s))
theorem mV{H0 H:Hp}{a:af}{o:HO}(s:aT H0 H)(n:H0 a=none):aT H0 (upd H a o):=λb u e=>by rw[ay (aR e n)];exact s _ _ e
theorem i7.title{A:Cl}{H:Hp}{a:af}{c:bA}(h:i7 A H a c):∃C dx fs,H a=some (.ins C dx fs)/\(C=A.num∨C=A.fL)/\fs.lookup ("title":Str)=some (.str (sN c.name)):=by
 cases ek:c.kind with
 |numbers s=>refine zZ ?_ (h.num ek);rintro dx l m ⟨h1,_⟩;exact jK _ dx _ h1 (.inl rfl) wq
 |words up=>refine xE ?_ (h.fL ek);rintro dx l m as ⟨h1,_⟩;exact jK _ dx _ h1 (.inr rfl) wu
theorem J0.num{A:Cl}{H:Hp}{a:af}{c:bA}{N W X:List af}{s:List Nat}(h:J0 A H a c N W X)(k:c.kind=.numbers s):∃dx l m,H a=some (.ins A.num dx (oW (.str (sN c.name)) (.ref l) (.ref m)))/\cut H W l=some (.lst (gZ s))/\cut H W m=some (.lst []):=by have:=h.2;unfold Ve at this;rw[k] at this;exact this
theorem J0.fL{A:Cl}{H:Hp}{a:af}{c:bA}{N W X:List af}{up:Up}(h:J0 A H a c N W X)(k:c.kind=.words up):∃dx l m DI,l∈N/\¬l∈X/\H a=some (.ins A.fL dx (ko (.str (sN c.name)) (.ref l) (.int (longest (gk up):Nat)) (.ref m)))/\H l=some (.lst (iZ DI))/\dn (rf (cut H W)) DI (gk up)/\cut H W m=some (.lst []):=by have:=h.2;unfold Ve at this;rw[k] at this;exact this
theorem J0.title{A:Cl}{H:Hp}{a:af}{c:bA}{N W X:List af}(h:J0 A H a c N W X):∃C dx fs,H a=some (.ins C dx fs)/\(C=A.num∨C=A.fL)/\fs.lookup ("title":Str)=some (.str (sN c.name)):=by
 cases q:c.kind with
 |numbers t=>refine zZ ?_ (h.num q);rintro dx l m ⟨h1,_⟩;exact jK _ dx _ h1 (.inl rfl) wq
 |words up=>refine ip ?_ (h.fL q);rintro dx l m DI _ _ h1 _;exact jK _ dx _ h1 (.inr rfl) wu
theorem sS.Vf{A:Cl}{M:List af}{H0 H:Hp}{r:af}{f:d8}{N:List af}{dx lc lv:af}{as:List af}{un:V}(h:sS A M H0 H r f N dx lc lv as un):
  dn (λa(c:bA)=>∃C dx fs,H a=some (.ins C dx fs)/\(C=A.num∨C=A.fL)/\fs.lookup ("title":Str)=some (.str (sN c.name))) as f.columns:=by
 have m:∀a c,i7 A (cut H (N++M)) a c->∃C dx fs,H a=some (.ins C dx fs)/\(C=A.num∨C=A.fL)/\fs.lookup ("title":Str)=some (.str (sN c.name)):=λa c z=>(z.mono (bY _ _)).title;rcases h.st with⟨a,b,c⟩|⟨cs,c,Kq,a,h1,h2,h3,h4,h5,h6⟩
 ·exact Paired.mono m c
 ·rw[h1.1,h2];exact Paired.snoc (Paired.mono m h5) h6.title
theorem Mv(T:Txt K mg A){C:af}(h:C=A.num∨C=A.fL):z7 K C/\dC K C "title":=by
 rcases h with rfl|rfl
 ·exact⟨T.num.cl,T.num.tS⟩
 ·exact⟨T.fL.cl,T.fL.tS⟩
def Mw(A:Cl):Sp:=λvs H Q _=>∃(p dx:af),vs=[.ref p]/\H p=some (.ins A.fS dx [])/\
 ∀(lc lv:af)(H':Hp),H lc=none->H lv=none->lc≠lv->H' p=some (.ins A.fS dx (gO (.ref lc) .h9 .h9 (.ref lv)))->H' lc=some (.lst [])->H' lv=some (.lst [])->(∀b o,H b=some o->b≠p->H' b=some o)->Q .h9 H'
theorem Mx(T:Txt K mg A):C0 P w K mg base "FormReader" A.fS 1 ["self"] (Mw A):=by
 refine T.fS.init.g8 LF (λf _ A' _ s H vs Q E hr=>j7 ?_)
 ·rintro p dx rfl hp k;refine ag (ax (d9 (pv 0) (bZ aq) rfl) (ax (d9 (pv 0) lT rfl) (ax (d9 (pv 0) lT rfl) (aG (d9 (pv 0) (bZ aq) rfl))))) ?_;refine ba ?_;refine⟨bE _,λlc hlc=>?_⟩;have p1:p≠lc:=aR hp hlc;refine ag rfl (sJ (by rw[ay p1];exact hp) T.fS.cl T.fS.fk (by decide) ?_);refine ag rfl (sJ ai T.fS.cl T.fS.mj LX (ag rfl (sJ ai T.fS.cl T.fS.gE put2 ?_)));refine⟨bE _,λlv zC=>?_⟩;have p2:p≠lv:=aR ai zC;have p3:lc≠lv:=λe=>by
   subst e;rw[ay p1.symm,ay p1.symm,ay p1.symm,ai] at zC;cases zC
  refine ag rfl (sJ (by rw[ay p2];exact ai) T.fS.cl T.fS.eh put3 ?_);have adA:H lv=none:=by rw[ay p2.symm,ay p2.symm,ay p2.symm,ay p3.symm] at zC;exact zC
  refine k lc lv _ hlc adA p3 ?_ ?_ ?_ λb o e hb=>?_
  ·rw[ai,Oq]
  ·rw[ay p1.symm,ay p3,ay p1.symm,ay p1.symm,ay p1.symm,ai]
  ·rw[ay p2.symm,ai]
  ·rw[ay hb,ay (aR e adA),ay hb,ay hb,ay hb,ay (aR e hlc)];exact e
def zH(A:Cl):Sp:=λvs H Q _=>∃(r:af)(M:List af)(H0:Hp)(f:d8),vs=[.ref r]/\Kr A M H0 H r f/\∀H',aT H H'->Q (.bl (!f.columns.isEmpty&&(settled f&&decide (f.secret≠[])))) H'
theorem My(f:d8):decide (Df f=.h9)=decide (f.secret=[]):=by
 unfold Df;by_cases h:f.secret=[]
 ·rw[if_pos h,decide_eq_true h];rfl
 ·rw[if_neg h,decide_eq_false h];rfl
theorem sS.un{A:Cl}{M:List af}{H0 H:Hp}{r:af}{f:d8}{N:List af}{dx lc lv:af}{as:List af}{un:V}(h:sS A M H0 H r f N dx lc lv as un):decide (un=.h9)=settled f:=by
 rcases h.st with⟨a,b,c⟩|⟨cs,c,Kq,a,h1,h2,h3,h4,h5,h6⟩
 ·rw[a,b];rfl
 ·rw[iq h1,h3];rfl
theorem sS.len{A:Cl}{M:List af}{H0 H:Hp}{r:af}{f:d8}{N:List af}{dx lc lv:af}{as:List af}{un:V}(h:sS A M H0 H r f N dx lc lv as un):as.length=f.columns.length:=Paired.len h.Vf
theorem zI(T:Txt K mg A):i5 P w K mg base A.fS "is_complete" 1 ["self"] (zH A):=by
 refine T.fS.Jg.g8 zt (λf _ A' _ s H vs Q E hr=>xE ?_)
 ·rintro r M H0 fm ⟨rfl,⟨N,dx,lc,lv,as,un,R⟩,k⟩;have eX:∀bb H',(!fm.columns.isEmpty&&(settled fm&&decide (fm.secret≠[])))=bb->aT H H'->Q (.bl bb) H':=λbb H' h2 h3=>by rw[<-h2];exact k H' h3
  have e0:(!decide (iZ as=[]))=!fm.columns.isEmpty:=by
   have:=R.len
   cases as with
   |nil=>cases e:fm.columns with
    |nil=>rfl
    |cons c cs=>rw[e] at this;simp at this
   |cons a t=>cases e:fm.columns with
    |nil=>rw[e] at this;simp at this
    |cons c cs=>rfl
  refine ag (aG (aY (mx (je (AB hr.Bt) (bo (pv 0) rfl) (bZ aq) (cC _)) (mx (je DS (bo (pv 0) rfl) lT (cC _)) (pL (je Dy (bo (pv 0) rfl) lT (cC _))))))) ?_;refine fI R.ins T.fS.cl T.fS.fk lA ⟨bE _,λq hq=>?_⟩;have s1:aT H (upd H q (.lst [])):=aD hq;refine iD lc q _ rfl rfl (bG.of (s1 _ _ R.cols)) (bG.of ai) (ag rfl ?_);rw[e0];refine Es (λe1=>?_) (λe1=>eX _ _ (by rw[e1];rfl) s1);refine fI (s1 _ _ R.ins) T.fS.cl T.fS.mj lB ⟨rfl,ag rfl ?_⟩;rw[R.un];refine Es (λe2=>?_) (λe2=>eX _ _ (by rw[e1,e2];rfl) s1);refine fI (s1 _ _ R.ins) T.fS.cl T.fS.gE j4 ⟨rfl,?_⟩;refine eX _ _ ?_ s1;rw[My,e1,e2];by_cases h:fm.secret=[]
  ·rw[decide_eq_true h,decide_eq_false (λz=>z h)];rfl
  ·rw[decide_eq_false h,decide_eq_true h];rfl
def BW(A:Cl):Sp:=λvs H Q _=>∃(r:af)(M:List af)(H0:Hp)(f:d8),vs=[.ref r]/\Tr M H0/\Kr A M H0 H r f/\settled f=true/\f.secret≠[]/\∀x H',H0 x=none->aT H H'->gW A (cut H' M) x f->Q (.ref x) H'
theorem BX(T:Txt K mg A):i5 P w K mg base A.fS "made_form" 3 ["self"] (BW A):=by
 refine T.fS.NY.g8 BL (λf _ A' _ s H vs Q E hr=>u1 ?_)
 ·rintro r M H0 fm rfl tr ⟨N,dx,lc,lv,as,un,R⟩ gC ag1 k;refine ag (aG (aY (n6 (Mc T) hr.mono rfl (aI (bo (pv 0) rfl) (aI (bo (pv 0) rfl) (aI (bo (pv 0) rfl) aq)))))) ?_;refine fI R.ins T.fS.cl T.fS.fk lA (fI R.ins T.fS.cl T.fS.gE j4 (fI R.ins T.fS.cl T.fS.eh xK ?_));intro x Yl nx nd ne;refine o6 x Yl _ _ _ ⟨rfl,ai,λH4 e4 k4=>⟨rfl,?_⟩⟩;have s4:aT H H4:=aT.made nx nd k4;have sub:aT (cut H (N++M)) (cut H4 M):=xy (λb o e _=>s4 _ _ e) (λb hb=>.inr (aE.mpr (.inr hb)));have V8:dn (i7 A (cut H (N++M))) as fm.columns:=by
   rcases R.st with⟨_,_,c⟩|⟨cs,c,Kq,a,h1,_⟩
   ·exact c
   ·rw[iq h1] at gC;cases gC
  refine k x H4 (R.same.free nx) s4 (oJ Yl lc lv as ?_ ?_ (Paired.mono (λ_ _ z=>z.mono sub) V8) (sub _ _ R.vals))
  ·rw[rg tr (R.same.free nx) e4];unfold Df;rw[if_neg ag1]
  ·exact rg tr (R.new lc R.lN) (s4 _ _ R.cols)
def zJ(A:Cl):Sp:=λvs H Q _=>∃(r:af)(M:List af)(H0:Hp)(f:d8)(n:aH),vs=[.ref r,.str (sN n)]/\Kr A M H0 H r f/\f.columns.length<=100/\n.length<=100000/\∀H',aT H H'->Q (.bl (newName f n)) H'
theorem aal(n:aH)(ls:List aH):inV (.str (sN n)) (eU ls)=ls.contains n:=by
 unfold inV eU;rw[rL,vf];congr 1;funext x;show PK (.str (sN x)) (.str (sN n))=(n==x);show(sN x==sN n)=(n==x);by_cases h:n=x
 ·subst h;simp
 ·rw[show(n==x)=false by simpa using h];have:¬sN x=sN n:=λq=>h (wH q).symm;simpa using this
theorem Vg(l:List aH):(eU l).all qB=true:=by rw[cj];intro x hx;unfold eU at hx;obtain⟨n,_,rfl⟩:=au.mp hx;rfl
theorem qj(T:Txt K mg A):i5 P w K mg base A.fS "is_new_name" 2 ["self","word"] (zJ A):=by
 refine T.fS.Jh.g8 lX (λf _ A' _ s H vs Q E hr=>CV ?_)
 ·rintro r M H0 fm n ⟨rfl,⟨N,dx,lc,lv,as,un,R⟩,vk,hn,k⟩;have eX:∀bb H',newName fm n=bb->aT H H'->Q (.bl bb) H':=λbb H' h2 h3=>by rw[<-h2];exact k H' h3
  refine ag (ax (du (PW.pt (rT (gI (fY (bF (zx T) hr.mono rfl (aI (pv 1) aq)))) (oK (cF jz (pv 1) (bo (pv 0) rfl) (cC _))))) (aG (aY kf)) bS) (aG (aY (je IL (pv 1) (ia rfl (own:=[("column",2)]) lX.nd (dI (bo (pv 0) rfl)) (cR (by kernel_rfl)) (λ_ _ _ _ _=>(bU (i:=2) lX.nd rfl fz)) (λ_ _ _ _ _=>eQ) (λ_ _ _ _ _=>(kL (K:=K) rfl (pv 2) rfl))) rfl)))) ?_;refine ag rfl (bP n rfl (ao hn (by decide)) (λH1 s1=>ag rfl (kQ (λe1=>kW ?_) (λe1=>?_))))
  ·exact eX _ _ (by unfold newName;rw[e1];rfl) s1
  ·have k9:n≠[]:=BB e1;refine ag rfl (fI (s1 _ _ R.ins) T.fS.cl T.fS.gE j4 ⟨?_,?_⟩)
   ·unfold Df;split<;>rfl
   ·have e2:decide (V.str (sN n)=Df fm)=decide (n=fm.secret):=by
     unfold Df;by_cases q:fm.secret=[]
     ·rw[if_pos q,q,decide_eq_false k9];rfl
     ·rw[if_neg q];by_cases q2:n=fm.secret
      ·rw[decide_eq_true q2,q2];simp
      ·rw[decide_eq_false q2];refine decide_eq_false λz=>q2 ?_;injection z with z
       exact wH z
    rw[e2];refine ag rfl (fG (λe3=>?_) (λe3=>?_))
    ·exact eX _ _ (by unfold newName;rw[e1,decide_eq_false (λz=>z e3)];rfl) s1
    ·refine cT ?_;refine jh ?_;refine ag rfl ?_;refine fC ?_;refine fI (s1 _ _ R.ins) T.fS.cl T.fS.fk lA (bP lc rfl ⟨_,bG.of (s1 _ _ R.cols)⟩ ?_);refine cH ?_ (Paired.unzip R.Vf);rintro l e4 e5 hl;have Qu:l.length<=100:=by rw[e5,aa] at vk;exact vk
     have Yo:=s1 _ _ R.cols;rw[e4,AG] at Yo;refine j5 (enc:=λp:af×bA=>V.ref p.1) (f:=λp=>.str (sN p.2.name)) (bG.of Yo) (ao Qu (by decide)) (λi x H' RR hi k' Ri=>?_) (λD H' hD hs he=>?_)
     ·refine jT ?_ (hl x (aN hi));rintro C Yl fs g1 g2 g3;obtain⟨c1,c2⟩:=Mv T g2;exact⟨rfl,ag rfl (o6 x.1 C Yl fs _ ⟨rfl,k' _ _ (s1 _ _ g1),c1,c2,g3,Ri _ (aT.refl _)⟩)⟩
     ·have e6:(l.map λp=>V.str (sN p.2.name))=eU (fm.columns.map (·.name)):=by rw[e5];unfold eU;rw[aQ,aQ];rfl
      rw[e6] at he;refine dH D _ rfl (.inl (bG.of he)) rfl ⟨Vg _,?_⟩;refine eX _ _ ?_ (s1.trans hs);rw[aal];unfold newName;rw[e1,decide_eq_true e3];rfl
end
section
open Vbslai (settled text value)
def x4(A:Cl):Sp:=λvs H Q _=>∃(r a:af)(M:List af)(H0:Hp)(f:d8)(c:bA)(N:List af)(dx lc lv:af)(as:List af)(un:V),vs=[.ref r,.ref a]/\sS A M H0 H r f N dx lc lv as un/\settled f=true/\Gi f/\a∈N/\c.costs=[]/\c.name.length<=100000/\
 J0 A H a c N (N++M) [r,lc]/\((decide (f.columns.length<4)&&newName f c.name)=false->∀H',aT H0 H'->Q (.bl false) H')/\((decide (f.columns.length<4)&&newName f c.name)=true->∀H',Kr A M H0 H' r {f with columns:=f.columns++[c]}->Q (.bl true) H')
theorem oY(T:Txt K mg A):i5 P w K mg base A.fS "begin_column" 3 ["self","column"] (x4 A):=by
 refine T.fS.GR.ok xP (λvs H Q E h=>?_) (λf _ A' _ s H vs Q E hr h=>?_)
 ·obtain⟨r,a,M,H0,f,c,N,dx,lc,lv,as,un,rfl,_⟩:=h;rfl
 ·obtain⟨r,a,M,H0,fm,c,N,dx,lc,lv,as,un,rfl,R,gC,wf,QB,S6,hcn,ho,k1,k2⟩:=h;have hlen:=R.len;have h4:=wf.len;refine jT ?_ ho.title;rintro C dxc fs g1 g2 g3;obtain⟨c1,c2⟩:=Mv T g2;refine ag (ax (du (PW.pt (rT (cF jz (cJ bx (by rfl) T.b.dS cP (aI (bo (pv 0) rfl) aq)) (cY T.k.Js rfl) (cC _)) (oK (gI (fY (cp (pv 0) T.fS.cl (qj T) hr.mono (aI (bo (pv 1) rfl) aq))))))) (aG (aY kf)) bS) (ax (iR (oS bT cV cW jl (bo (pv 0) rfl) (aI (pv 1) aq))) (ax (d9 (pv 0) (pv 1) rfl) (aG (aY kf))))) ?_;refine fI R.ins T.fS.cl T.fS.fk lA (dH lc _ rfl (.inl (bG.of R.cols)) rfl (ag rfl (fG (λe1=>kW ?_) (λe1=>?_))))
  ·have:fm.columns.length=4:=by
    have e2:(((iZ as).length:Nat):Int)=4:=by injection e1
    rw[cu] at e2;omega
   exact k1 (by rw[decide_eq_false (by omega),iW]) H R.same
  ·have SE:fm.columns.length<4:=by
    have:¬fm.columns.length=4:=λq=>e1 (by
     have:(((iZ as).length:Nat):Int)=4:=by rw[cu];omega
     rw[this])
    omega
   refine mI R.ins om (ag rfl (o6 a C dxc fs _ ⟨rfl,g1,c1,c2,g3,o6 r M H0 fm c.name ⟨rfl,jb N dx lc lv as un R,by omega,hcn,λH1 s1=>ag rfl (kQ (λe2=>?_) (λe2=>?_))⟩⟩))
   ·exact k1 (by rw[e2,iY]) H1 (R.same.trans s1)
   ·refine cT ?_;have R1:=R.mono s1;have Xp:=ho.mono s1;refine fI R1.ins T.fS.cl T.fS.fk lA ⟨.inl ⟨rfl,_,bG.of R1.cols⟩,ag rfl (iD lc _ _ rfl rfl R1.cols (dG (by rw[cu];omega)) ?_)⟩;have rl:r≠lc:=gH R1.ins R1.cols (λz=>nomatch z);refine ag rfl (ag rfl (sJ (by rw[ay rl];exact R1.ins) T.fS.cl T.fS.mj (by show 4<1000;decide) ?_));rw[qY];refine k2 (by rw[decide_eq_true SE,e2];rfl) _ (jb N dx lc lv (as++[a]) (.ref a) ?_);have out:∀b o,H1 b=some o->¬b∈[r,lc]->(upd (upd H1 lc (.lst (iZ as++[V.ref a]))) r (.ins A.fS dx (gO (.ref lc) (.ref a) (Df fm) (.ref lv)))) b=some o:=λb o e n=>by simp only[aB,fj,or_false,not_or] at n;rw[ay n.1,ay n.2];exact e
    have hX:∀b∈[r,lc],b∈N++M:=λb hb=>by
     simp only[aB,fj,or_false] at hb;rcases hb with rfl|rfl
     ·exact aE.mpr (.inl R.rN)
     ·exact aE.mpr (.inl R.lN)
    have sc:aT (cut H1 (N++M)) (cut (upd (upd H1 lc (.lst (iZ as++[V.ref a]))) r (.ins A.fS dx (gO (.ref lc) (.ref a) (Df fm) (.ref lv)))) (N++M)):=xy (λb o e n=>out b o e λq=>n (hX b q)) (λb hb=>.inr hb);have V8:dn (i7 A (cut H1 (N++M))) as fm.columns:=by
     rcases R1.st with⟨_,_,c⟩|⟨cs,c,Kq,a,h1,_⟩
     ·exact c
     ·rw[iq h1] at gC;cases gC
    refine⟨mV (mV R1.same (R.new lc R.lN)) (R.new r R.rN),R.new,λb hb=>?_,R.rN,R.lN,ai,?_,sc _ _ R1.vals,.inr (gB fm.columns c as a ⟨rfl,S6⟩ rfl rfl QB (Paired.mono (λ_ _ z=>z.mono sc) V8) (Xp.keep out hX))⟩
    ·obtain⟨o,eo⟩:=R1.held b hb;by_cases z1:b=r
     ·rw[z1];exact⟨_,ai⟩
     ·rw[ay z1];by_cases z2:b=lc
      ·rw[z2];exact⟨_,ai⟩
      ·rw[ay z2];exact⟨o,eo⟩
    ·rw[ay rl.symm,ai];unfold iZ;rw[bw];rfl
def ug(A:Cl)(pre:d8->List aH->Prop):Sp:=λvs H Q _=>∃(r b:af)(M:List af)(H0:Hp)(f:d8)(ws:List aH),vs=[.ref r,.ref b]/\Tr M H0/\Kr A M H0 H r f/\Gi f/\H b=some (.lst (eU (ws.map iI)))/\ws.length<=3000/\(∀x∈ws,x.length<=3000)/\pre f ws/\
 (kP f ws=none->∀H',aT H0 H'->Q (.bl false) H')/\(∀g,kP f ws=some g->∀H',Kr A M H0 H' r g->Q (.bl true) H')
theorem oy(f:d8)(n:aH):newName f (iI n)=newName f n:=by
 unfold newName;rw[yW]
 cases h:dU n with
 |false=>rfl
 |true=>rw[kh h]
theorem J1{lo hi:Nat}(ws:List aH):(ws.map iI).all (fA lo hi)=ws.all (fA lo hi):=by rw[rO];congr 1;funext x;exact Rx lo hi x
theorem Io{lo hi:Nat}{x:aH}(h:fA lo hi x=true):iI x=x:=xm (vK h)
theorem Mz{lo hi:Nat}{x:aH}(h:fA lo hi x=true):x≠[]/\x.length<=7:=by unfold fA isNum at h;simp only[aL,jv,Nl,decide_eq_true_eq] at h;exact⟨h.1.1,h.2.1⟩
theorem sS.more{A:Cl}{M:List af}{H0 H H':Hp}{r:af}{f:d8}{N X:List af}{dx lc lv:af}{as:List af}{un:V}(R:sS A M H0 H r f N dx lc lv as un)(gC:settled f=true)(s:aT H H')(hX:∀b∈X,H b=none)(hh:Tr X H'):sS A M H0 H' r f (X++N) dx lc lv as un:=by
 have sc:aT (cut H (N++M)) (cut H' (X++N++M)):=xy (λb o e _=>s _ _ e) (λb hb=>by
  rw[dw] at hb;rcases aE.mp hb with q|q
  ·exact .inl (hX b q)
  ·exact .inr q)
 refine⟨R.same.trans s,λb hb=>?_,λb hb=>?_,aE.mpr (.inr R.rN),aE.mpr (.inr R.lN),s _ _ R.ins,s _ _ R.cols,sc _ _ R.vals,?_⟩
 ·rcases aE.mp hb with q|q
  ·exact R.same.free (hX b q)
  ·exact R.new b q
 ·rcases aE.mp hb with q|q
  ·exact hh b q
  ·exact(R.held.mono s) b q
 ·rcases R.st with⟨a,b,c⟩|⟨cs,c,Kq,a,h1,_⟩
  ·exact .inl ⟨a,b,Paired.mono (λ_ _ z=>z.mono sc) c⟩
  ·rw[iq h1] at gC;cases gC
theorem x5(T:Txt K mg A):i5 P w K mg base A.fS "take_numbers" 4 ["self","words"] (ug A λf ws=>settled f=true/\∃rest,ws=text "numbers"::rest):=by
 refine T.fS.GS.g8 jg (λf _ A' _ s H vs Q E hr=>nJ ?_)
 ·rintro r b M H0 fm ws ⟨rfl,tr,⟨N,dx,lc,lv,as,un,R⟩,wf,hb,DJ,J2,⟨gC,mn,DK⟩,k1,k2⟩;have hws:(eU (ws.map iI)).length=ws.length:=by rw[eG,aa]
  refine ag (ax (cg (i:=2) jg.nd rfl fz (nZ qA (pv 1) (nT bB) xh)) (ax (du (PW.pt (rT (cF DR (cJ bx (by rfl) T.b.dS cP (aI (pv 1) aq)) bB (cC _)) (oK (cF PH (cJ bx (by rfl) T.b.dS cP (aI (pv 2) aq)) (cY T.k.Oa rfl) (cC _))))) (aG (aY kf)) bS) (ax (du (gI (fY (bF (nE T) hr.mono rfl (aI (pv 2) (aI (cY T.k.Ob rfl) (aI (cY T.k.G2 rfl) aq)))))) (aG (aY kf)) bS) (ax (DW (i:=2) rfl jg.nd rfl rfl (IU rfl rfl rfl (by decide+kernel)) (own:=[("step",3)]) (dI (pv 2)) (cR (by kernel_rfl)) (λ_ _ _ _ _=>(bU (i:=3) jg.nd rfl fz)) (λ_ _ _ _ _=>eQ) (λ_ _ _ _ _=>(sd tD (by rfl) T.b.UE NW (aI (pv 3) aq)))) (aG (aY (mx (bF (JZ T) hr.mono rfl (aI (pv 2) aq)) (pL (cp (pv 0) T.fS.cl (oY T) hr.mono (aI (n6 (LZ T) hr.mono rfl (aI (eN cU (pv 1) bB (λ_ _=>rfl)) (aI (pv 2) aq))) aq)))))))))) ?_;refine ba ?_;refine ag rfl (ag rfl (bt b _ rfl (bG.of hb) (λD hD=>?_)));rw[show vz (eU (ws.map iI)) (some 2) none=eU ((ws.drop 2).map iI) from by rw[vh,<-Fv];exact sQ _ 2];refine ck ?_;have s0:aT H (upd H D (.lst (eU ((ws.drop 2).map iI)))):=aD hD;have Hk:(upd H D (.lst (eU ((ws.drop 2).map iI)))) D=some (.lst (eU ((ws.drop 2).map iI))):=ai;generalize upd H D (.lst (eU ((ws.drop 2).map iI)))=G at s0 Hk⊢;refine ba ?_;refine ag rfl (bt b _ rfl (.inl (bG.of (s0 _ _ hb))) (bt _ _ rfl rfl (ag rfl ?_)));rw[hws];refine fG (λe1=>kW ?_) (λe1=>?_)
  ·have QC:mn=[]:=by
    rw[DK] at e1
    cases mn with
    |nil=>rfl
    |cons x t=>simp at e1;omega
   refine k1 ?_ _ (R.same.trans s0);rw[DK,QC,fW gC,r9]
  ·obtain⟨n,rest,AM⟩:∃n rest,mn=n::rest:=by
    cases mn with
    |nil=>rw[DK] at e1;simp at e1
    |cons x t=>exact qr x t rfl
   subst AM;subst DK;have gJ:=Ag fm n rest;rw[<-fW gC] at gJ;have mW:(decide (rest.length<=2)&&(rest.all (fA 2 1000000)&&(o9 (rest.map value)&&(decide (fm.columns.length<4)&&newName fm n))))=false->∀H',aT H0 H'->Q (.bl false) H':=λe=>k1 (by rw[gJ,e];rfl);have hdr:((text "numbers"::n::rest).drop 2).map iI=rest.map iI:=rfl;rw[hdr] at Hk;have xA:rest.length<=3000:=by simp at DJ;omega
   have hrx:∀x∈rest,x.length<=3000:=λx hx=>J2 x (.tail _ (.tail _ hx));refine ag rfl (bt D _ rfl (.inl (bG.of Hk)) (bt _ _ rfl rfl (ag rfl ?_)));rw[eG,aa];refine fG (λe2=>?_) (λe2=>?_)
   ·exact mW (by rw[decide_eq_false (show¬rest.length<=2 by have:(2:Int)<(rest.length:Nat):=e2;omega),iW]) _ (R.same.trans s0)
   ·have h2:rest.length<=2:=by have:¬(2:Int)<(rest.length:Nat):=e2;omega
    refine cT ?_;refine ba ?_;refine ag rfl (iE D (rest.map iI) 2 1000000 rfl (bG.of Hk) (by rw[aa];exact ao xA (by decide)) (λx hx=>?_) (λH1 s1=>ag rfl ?_))
    ·obtain⟨y,hy,rfl⟩:=au.mp hx;rw[nU];exact ao (hrx y hy) (by decide)
    rw[J1];refine kQ (λe3=>?_) (λe3=>?_)
    ·exact mW (by rw[e3,iW,iY]) _ (R.same.trans (s0.trans s1))
    ·refine cT ?_;refine ba ?_;refine JB ?_;refine fC ?_;have Vh:rest.map iI=rest:=by
      conv=>rhs;rw[<-Bh rest]
      refine dh λx hx=>?_;exact Io (cj.mp e3 x hx)
     rw[Vh] at Hk;refine ag rfl (bP D rfl ⟨_,bG.of (s1 _ _ Hk)⟩ ?_);refine j5 (l:=rest) (enc:=λl=>.str (sN l)) (f:=λl=>.int ((value l:Nat):Int)) (bG.of (s1 _ _ Hk)) (ao xA (by decide)) (λi x H' RR hx k' Ri=>?_) (λD2 H2 CF s2 e4=>?_)
     ·have dQ:=cj.mp e3 x (aN hx);obtain⟨q1,q2⟩:=Mz dQ;exact⟨rfl,ag rfl (dH _ _ rfl (Fj (vK dQ) q1 q2) (by rw[jm];omega) (Ri _ (aT.refl _)))⟩
     ·refine ck ?_;have e5:(rest.map λl=>V.int ((value l:Nat):Int))=gZ (rest.map value):=by unfold gZ;rw[aQ];rfl
      rw[e5] at e4;have RZ:aT H H2:=s0.trans (s1.trans s2);refine ag rfl (dH D2 (rest.map value) rfl (bG.of e4) (by rw[aa];omega) ⟨λx hx=>?_,λH3 s3=>ag rfl (Es (λe6=>?_) (λe6=>?_))⟩)
      ·have:=zb e3 x hx;omega
      ·have SI:(eU ((text "numbers"::n::rest).map iI))[1]? =some (.str (sN (iI n))):=rfl;have s03:=RZ.trans s3;have R3:=R.mono s03;refine mI R3.ins nv (ag rfl (iE b _ _ _ rfl rfl (bG.of (s03 _ _ hb)) (cN (j:=1) SI) (ag rfl ?_)));intro a ve na nda ne;refine DM a ve D2 _ ⟨rfl,ai,λm H4 hm e7 e8 k4=>⟨rfl,?_⟩⟩;have s4:aT H3 H4:=aT.made na nda k4;have na0:H a=none:=s03.free na;have hm3:H3 m=none:=by
        have:m≠a:=λz=>by rw[z,ai] at hm;cases hm
        rw[ay this] at hm;have:m≠ve:=λz=>by rw[z,ai] at hm;cases hm
        rw[ay this] at hm;exact hm
       have Fw:H D2=none:=s0.free (s1.free CF);have R4:=R.more (X:=[a]) gC (s03.trans s4) (λb hb=>by simp at hb;rw[hb];exact na0) (Tr.cons Tr.nil e7);have ag4:¬D2∈[a]++N++M:=λz=>by
        rw[dw] at z;rcases aE.mp z with q|q
        ·have:D2=a:=by simpa using q
         rw[this] at e4;exact absurd (s3 _ _ e4) (by rw[na];exactλz=>nomatch z)
        ·rcases aE.mp q with q|q
         ·exact R.held.not Fw q
         ·exact tr.not (R.same.free Fw) q
       have hmW:¬m∈[a]++N++M:=λz=>by
        have JL:H m=none:=s03.free hm3;rw[dw] at z;rcases aE.mp z with q|q
        ·have:m=a:=by simpa using q
         rw[this,ai] at hm;cases hm
        ·rcases aE.mp q with q|q
         ·exact R.held.not JL q
         ·exact tr.not (R.same.free JL) q
       refine⟨r,a,M,qt H0 fm ({name:=iI n,kind:=.numbers (rest.map value),costs:=[]}) ([a]++N) dx lc lv as un ⟨rfl,R4,gC,wf,by simp,rfl,by show(iI n).length<=_;rw[nU];exact ao (J2 n (by simp)) (by decide),⟨?_,jK ve D2 m e7 ?_ ?_⟩,λef=>?_,λet=>?_⟩⟩
       ·simp only[aB,fj,or_false,not_or];exact⟨(aR R.ins na0).symm,(aR R.cols na0).symm⟩
       ·rw[c7 ag4];exact s4 _ _ (s3 _ _ e4)
       ·rw[c7 hmW];exact e8
       ·rw[show newName fm (iI n)=newName fm n from oy fm n] at ef;exact mW (by rw[ef];simp)
       ·have ef:(decide (fm.columns.length<4)&&newName fm (iI n))=true:=et;rw[oy] at ef;have Xk:dU n=true:=by rw[aL] at ef;have:=ef.2;unfold newName at this;rw[aL] at this;exact this.1
        rw[kh Xk];exact k2 _ (by rw[gJ,decide_eq_true h2,e3,e6,ef];rfl)
      ·exact mW (by rw[e6];simp) _ (R.same.trans (RZ.trans s3))
end
section
open Vbslai (settled text)
theorem ze.cst{K:ah}{mg:Str->Option ak}{c qual:Str}{C:af}{st:cD}{ps:List Str}(h:ze K mg c C qual st ps):tP mg c (.ref C):=by refine ke ?_ h.ex;rintro f fd _ _ _ g;exact⟨.ref C,g,rfl⟩
structure Isi(K:ah)(A:Cl):Prop where
 adE:fK K (.ref A.num) "__class__"=some (some (.builtin "object.__class__"))
 adF:fK K (.ref A.fL) "__class__"=some (some (.builtin "object.__class__"))
 sp:Yy K (.builtin "object.__class__") "__get__"=some (some (.builtin "getset_descriptor.__get__"))
 tk:abR K (.builtin "object.__class__")=some true
 adG:Pl K A.num (.type "object")=some true
 adH:Pl K A.fL (.type "object")=some true
 adI:Bb K (.ref A.num) (.ref A.fL)=some false
 adJ:Bb K (.ref A.fL) (.ref A.fL)=some true
theorem AN(T:Txt K mg A):i5 P w K mg base A.fS "take_words" 4 ["self","words"] (ug A λf ws=>settled f=true/\∃rest,ws=text "words"::rest):=by
 refine T.fS.Li.g8 Az (λf _ A' _ s H vs Q E hr=>nJ ?_)
 ·rintro r b M H0 fm ws ⟨rfl,tr,⟨N,dx,lc,lv,as,un,R⟩,wf,hb,DJ,J2,⟨gC,mn,DK⟩,k1,k2⟩;have hws:(eU (ws.map iI)).length=ws.length:=by rw[eG,aa]
  refine ag (aG (aY (mx (je jz (cJ bx (by rfl) T.b.dS cP (aI (pv 1) aq)) bB (cC _)) (pL (cp (pv 0) T.fS.cl (oY T) hr.mono (aI (n6 (L7 T) hr.mono rfl (aI (eN cU (pv 1) bB (λ_ _=>rfl)) aq)) aq)))))) ?_;refine ag rfl (dH b _ rfl (.inl (bG.of hb)) rfl (ag rfl ?_));rw[hws];refine fG (λe1=>?_) (λe1=>?_)
  ·have e2:ws.length=2:=by injection e1 with e1;have:((ws.length:Nat):Int)=2:=e1;omega
   obtain⟨n,AM⟩:∃n,mn=[n]:=by
    rw[DK] at e2
    cases mn with
    |nil=>simp at e2
    |cons x t=>cases t with
     |nil=>exact⟨x,rfl⟩
     |cons y t=>simp at e2
   subst AM;subst DK;have gJ:=yY fm n [];rw[<-fW gC] at gJ;have SI:(eU ([text "words",n].map iI))[1]? =some (.str (sN (iI n))):=rfl;refine mI R.ins nv (ag rfl (iE b _ _ _ rfl rfl (bG.of hb) (cN (j:=1) SI) ?_));intro a ve na nda ne;refine jK a ve _ rfl ai (λl m H4 hl hm hlm e7 e8 e9 k4=>⟨rfl,?_⟩);have s4:aT H H4:=aT.made na nda k4;have fr:∀x,(upd (upd H ve (.own a)) a (.ins A.fL ve [])) x=none->x≠a/\H x=none:=λx hx=>by
    have h1:x≠a:=λz=>by rw[z,ai] at hx;cases hx
    rw[ay h1] at hx;have h2:x≠ve:=λz=>by rw[z,ai] at hx;cases hx
    rw[ay h2] at hx;exact⟨h1,hx⟩
   obtain⟨la,Xg⟩:=fr l hl;obtain⟨ma,JL⟩:=fr m hm;have R4:=R.more (X:=[l,a]) gC s4 (λb hb=>by
    simp at hb;rcases hb with rfl|rfl
    ·exact Xg
    ·exact na) (Tr.cons (Tr.cons Tr.nil e7) e8)
   have hmW:¬m∈[l,a]++N++M:=λz=>by
    rw[dw] at z;rcases aE.mp z with q|q
    ·simp at q;rcases q with q|q
     ·exact hlm q.symm
     ·exact ma q
    ·rcases aE.mp q with q|q
     ·exact R.held.not JL q
     ·exact tr.not (R.same.free JL) q
   refine⟨r,a,M,qt H0 fm ({name:=iI n,kind:=.words [],costs:=[]}) ([l,a]++N) dx lc lv as un ⟨rfl,R4,gC,wf,by simp,rfl,by show(iI n).length<=_;rw[nU];exact ao (J2 n (by simp)) (by decide),⟨?_,gB ve l m ([]) (by simp) ?_ e7 e8 .nil ?_⟩,λef=>?_,λet=>?_⟩⟩
   ·simp only[aB,fj,or_false,not_or];exact⟨(aR R.ins na).symm,(aR R.cols na).symm⟩
   ·simp only[aB,fj,or_false,not_or];exact⟨(aR R.ins Xg).symm,(aR R.cols Xg).symm⟩
   ·rw[c7 hmW];exact e9
   ·rw[show newName fm (iI n)=newName fm n from oy fm n] at ef;exact k1 (by rw[gJ,ef];rfl)
   ·have ef:(decide (fm.columns.length<4)&&newName fm (iI n))=true:=et;rw[oy] at ef;have Xk:dU n=true:=by rw[aL] at ef;have:=ef.2;unfold newName at this;rw[aL] at this;exact this.1
    rw[kh Xk];exact k2 _ (by rw[gJ,ef];rfl)
  ·refine k1 ?_ H R.same;rw[DK]
   cases mn with
   |nil=>rw[fW gC,r9]
   |cons n rest=>
    rw[fW gC,yY]
    cases rest with
    |nil=>exact absurd (by rw[DK];rfl) e1
    |cons x t=>rfl
def zK(A:Cl):Sp:=λvs H Q _=>∃(r b a dx lc lv:af)(sec:V)(n:aH)(up:Up)(us:List aH),vs=[.ref r,.ref b]/\H r=some (.ins A.fS dx (gO (.ref lc) (.ref a) sec (.ref lv)))/\qe A H a n up []/\H b=some (.lst (eU us))/\
 (us.length=2->∀D H',H D=none->aT H H'->H' D=some (.lst (eU []))->Q (.ref D) H')/\
 (us.length=4->us[2]? =some (text "of")->∀v,us[3]? =some v->(¬v∈up.map (·.1)->Q .h9 H)/\(∀x,v∈up.map (·.1)->rf H x (chainOf up v)->Q (.ref x) H))/\
 (us.length≠2->¬(us.length=4/\us[2]? =some (text "of"))->Q .h9 H)
theorem of_eq:aS "of"=sN (text "of"):=by decide+kernel
theorem Vi{us:List aH}{i:Nat}{u:aH}(h:us[i]? =some u):(eU us)[i]? =some (.str (sN u)):=by unfold eU;rw[aV,h];rfl
theorem zL(T:Txt K mg A):i5 P w K mg base A.fS "chain_above" 2 ["self","words"] (zK A):=by
 refine T.fS.Ji.g8 zu (λf _ A' _ s H vs Q E hr=>Pw ?_)
 ·rintro r b a dx lc lv sec n up us ⟨rfl,hr1,hw,hb,k1,k2,k3⟩;refine ip ?_ (id hw);rintro ve l m DI w1 w2 w3 w4;refine ag (ax (du (cF jz (cJ bx (by rfl) T.b.dS cP (aI (pv 1) aq)) bB (cC _)) (aG (aY (bZ aq))) bS) (ax (du (PW.pt (ID (cF jz (cJ bx (by rfl) T.b.dS cP (aI (pv 1) aq)) bB (cC _)) (Dx (cF jz (eN cU (pv 1) bB (λ_ _=>rfl)) fb (cC _))))) (aG (aY (cp (bo (pv 0) rfl) T.fL.cl (uS T) hr.mono (aI (eN cU (pv 1) bB (λ_ _=>rfl)) aq)))) bS) (aG (aY lT)))) ?_;refine ag rfl (dH b _ rfl (.inl (bG.of hb)) rfl (ag rfl ?_));rw[eG];refine fG (λe1=>?_) (λe1=>?_)
  ·have e2:us.length=2:=by injection e1 with e1;have:((us.length:Nat):Int)=2:=e1;omega
   exact⟨bE _,λD hD=>k1 e2 D _ hD (aD hD) ai⟩
  ·have n2:us.length≠2:=λq=>e1 (by rw[q];rfl);refine cT ?_;refine ag rfl (dH b _ rfl (.inl (bG.of hb)) rfl (ag rfl ?_));rw[eG];refine fG (λe2=>?_) (λe2=>?_)
   ·have e4:us.length=4:=by injection e2 with e2;have:((us.length:Nat):Int)=4:=e2;omega
    have h2:us[2]? =some us[2]:=aw (by omega);have h3:us[3]? =some us[3]:=aw (by omega);refine ag rfl (gB b _ _ _ rfl rfl (bG.of hb) (cN (j:=2) (Vi h2)) rfl (ag rfl (fG (λe5=>?_) (λe5=>?_))))
    ·have e6:us[2]=text "of":=by
      have:V.str (sN us[2])=V.str (sN (text "of")):=by rw[e5,of_eq]
      injection this with this
      exact wH this
     obtain⟨q1,q2⟩:=k2 e4 (by rw[h2,e6]) us[3] h3;exact fI hr1 T.fS.cl T.fS.mj lB (mJ w1 qX (ag rfl (iE b _ _ _ rfl rfl (bG.of hb) (cN (j:=3) (Vi h3)) (o6 a n up ([]) (us[3]) ⟨rfl,hw,q1,q2⟩))))
    ·refine cT (k3 n2 λ⟨_,q⟩=>e5 ?_);rw[h2] at q;rw[aX q,of_eq]
   ·exact cT (k3 n2 λ⟨q,_⟩=>e2 (by rw[q];rfl))
end
section
open Vbslai (settled text above)
theorem J0.Vj{A:Cl}{H:Hp}{a:af}{c:bA}{N W X:List af}{up:Up}(h:J0 A H a c N W X)(k:c.kind=.words up):qe A H a c.name up []:=by refine u1 ?_ (h.fL k);rintro dx l m DI _ _ h1 h2 h3 h4;exact oJ dx l m DI h1 h2 (Paired.mono (λ_ _ z=>z.mono (bY _ _)) h3) (bY _ _ _ _ h4)
theorem Vk{up:Up}(ok:mE up)(v:aH):iI v∈up.map (·.1)↔v∈up.map (·.1):=by
 constructor
 ·intro h;obtain⟨x,hx,e⟩:=au.mp h;have:v=x.1:=(tF (Af (ok.nm x hx))).mp e.symm;rw[this];exact au.mpr (bq x hx rfl)
 ·intro h;obtain⟨x,hx,rfl⟩:=au.mp h;rw[kh (ok.nm x hx)];exact h
theorem pj(up:Up)(n o v:aH):mF up n [o,v]=if o=text "of"/\v∈up.map (·.1)/\(above up ka v).length<2 then some (n,some v) else none:=rfl
theorem aan{up:Up}(ok:mE up){v:aH}(h:v∈up.map (·.1)):iI v=v:=by obtain⟨x,hx,rfl⟩:=au.mp h;exact kh (ok.nm x hx)
theorem sS.Vl{A:Cl}{M:List af}{H0 H:Hp}{r:af}{f:d8}{N:List af}{dx lc lv:af}{as:List af}{un:V}(R:sS A M H0 H r f N dx lc lv as un)(h:settled f=false):
  ∃cs c Kq a,Open f cs c/\as=Kq++[a]/\un=.ref a/\a∈N/\dn (i7 A (cut H (N++M))) Kq cs/\J0 A H a c N (N++M) [r,lc]:=by
 rcases R.st with⟨a,_⟩|q
 ·rw[h] at a;cases a
 ·exact q
theorem BY(T:Txt K mg A)(Y:Isi K A):i5 P w K mg base A.fS "take_word" 3 ["self","words"] (ug A λf ws=>settled f=false/\∃rest,ws=text "word"::rest):=by
 refine T.fS.N1.g8 nM (λf _ A' _ s H vs Q E hr=>nJ ?_)
 ·rintro r b M H0 fm ws ⟨rfl,tr,⟨N,dx,lc,lv,as,un,R⟩,wf,hb,DJ,J2,⟨gC,mn,DK⟩,k1,k2⟩;refine u1 ?_ (R.Vl gC);rintro cs c Kq a op has hun QB V8 ho;subst hun;have hws:(eU (ws.map iI)).length=ws.length:=by rw[eG,aa]
  have X0:c∈fm.columns:=by rw[op.1];simp
  have cw:=wf.cols c X0;refine ag (ax (cg (i:=2) nM.nd rfl fz (bo (pv 0) rfl)) (ax (du (PW.pt (rT (gI (fY (cJ RQ (by rfl) T.b.Ju GN (aI (pv 2) (aI (cY T.fL.init.cst rfl) aq))))) (oK (cF jz (cJ bx (by rfl) T.b.dS cP (aI (bo (pv 2) rfl) aq)) (cY T.k.Oc rfl) (cC _))))) (aG (aY kf)) bS) (ax (du (PW.pt (rT (cF DR (cJ bx (by rfl) T.b.dS cP (aI (pv 1) aq)) bB (cC _)) (rT (gI (fY (bF (zx T) hr.mono rfl (aI (eN cU (pv 1) bB (λ_ _=>rfl)) aq)))) (oK (cF Dy (cp (pv 2) T.fL.cl (uS T) hr.mono (aI (eN cU (pv 1) bB (λ_ _=>rfl)) aq)) lT (cC _)))))) (aG (aY kf)) bS) (ax (cg (i:=3) nM.nd rfl fz (cp (pv 0) T.fS.cl (zL T) hr.mono (aI (pv 1) aq))) (ax (du (PW.pt (rT (cF DS (pv 3) lT (cC _)) (oK (cF PH (cJ bx (by rfl) T.b.dS cP (aI (pv 3) aq)) (cY T.k.Od rfl) (cC _))))) (aG (aY kf)) bS) (ax (iR (cp (pv 2) T.fL.cl (C7 T) hr.mono (aI (eN cU (pv 1) bB (λ_ _=>rfl)) (aI (pv 3) aq)))) (aG (aY kf)))))))) ?_;refine ba ?_;refine fI R.ins T.fS.cl T.fS.mj lB ?_;refine ck ?_;refine ba ?_
  cases ek:c.kind with
  |numbers st=>refine zZ ?_ (ho.num ek);rintro ve l m ⟨g1,_⟩;refine ag rfl (oJ (.ref a) A.fL _ _ rfl (.ins g1 T.num.cl Y.adE Y.sp Y.tk Y.adG) Y.adI (ag rfl (kW (k1 ?_ _ R.same))));rw[DK,tO,yh op.1 ek]
  |words up=>
   refine u1 ?_ (ho.fL ek);rintro ve l m DI hlN hlX g1 g2 g3 g4;have QD:mE up:=by have:=cw.kd;rw[ek] at this;exact this
   have hW:=ho.Vj ek;have vk:DI.length=up.length:=by rw[Paired.len g3];exact aa ..
   have gJ:∀n rest,kP fm (text "word"::n::rest)=if(dU n&&(decide (up.length<30)&&!(up.map (·.1)).contains n))=true then(mF up n rest).map λx=>{fm with columns:=cs++[{c with kind:=.words (up++[x])}]} else none:=λn rest=>by rw[tO];exact HS op.1 ek op.2 n rest
   have Vm:mn=[]->kP fm ws=none:=λe=>by rw[DK,e,tO,r9]
   have MA:∀n rest,mn=n::rest->(dU n&&(decide (up.length<30)&&!(up.map (·.1)).contains n))=false->kP fm ws=none:=λn rest e e2=>by rw[DK,e,gJ,e2];rfl
   refine ag rfl (oJ (.ref a) A.fL _ _ rfl (.ins g1 T.fL.cl Y.adF Y.sp Y.tk Y.adH) Y.adJ (ag rfl (lh ?_)));refine fI g1 T.fL.cl T.fL.oa jD (dH l _ rfl (.inl (bG.of g2)) rfl (ag rfl ?_));rw[cu,vk];refine fG (λe1=>?_) (λe1=>?_)
   ·have e2:up.length=30:=by injection e1 with e1;have:((up.length:Nat):Int)=30:=e1;omega
    refine k1 ?_ _ R.same
    cases QC:mn with
    |nil=>exact Vm QC
    |cons n rest=>exact MA n rest QC (by rw[decide_eq_false (by omega),iW,iY])
   ·have hup:up.length<30:=by have h1:up.length<=30:=QD.le;have:¬up.length=30:=λq=>e1 (by rw[q];rfl);omega
    refine cT ?_;refine ba ?_;refine ag rfl (bt b _ rfl (.inl (bG.of hb)) (bt _ _ rfl rfl (ag rfl ?_)));rw[hws];refine fG (λe2=>kW (k1 (Vm ?_) _ R.same)) (λe2=>?_)
    ·rw[DK] at e2
     cases mn with
     |nil=>rfl
     |cons x t=>simp at e2;omega
    ·obtain⟨n,rest,AM⟩:∃n rest,mn=n::rest:=by
      cases mn with
      |nil=>rw[DK] at e2;simp at e2
      |cons x t=>exact qr x t rfl
     subst AM;subst DK;have SI:(eU ((text "word"::n::rest).map iI))[1]? =some (.str (sN (iI n))):=rfl;have hnl:n.length<=3000:=J2 n (by simp);refine ag rfl (iE b _ _ _ rfl rfl (bG.of hb) (cN (j:=1) SI) (bP (iI n) rfl (by rw[nU];exact ao hnl (by decide)) (λH1 s1=>ag rfl ?_)));rw[yW];refine kQ (λe3=>kW (k1 (MA n rest rfl (by rw[e3];rfl)) _ (R.same.trans s1))) (λe3=>?_);rw[kh e3] at SI;have bad:n∈up.map (·.1)->kP fm (text "word"::n::rest)=none:=λh=>MA n rest rfl (by rw[show(up.map (·.1)).contains n=true by simpa using h];simp);refine mI (s1 _ _ g1) qX (ag rfl (iE b _ _ _ rfl rfl (bG.of (s1 _ _ hb)) (cN (j:=1) SI) (o6 a c.name up ([]) n ⟨rfl,hW.mono s1,λe4=>?_,λx e4 _=>?_⟩)))
     ·refine⟨rfl,ag rfl (acQ rfl ?_)⟩;refine cT ?_;refine ba ?_;have J3:kP fm (text "word"::n::rest)=(mF up n rest).map λx=>{fm with columns:=cs++[{c with kind:=.words (up++[x])}]}:=by rw[gJ,if_pos (by rw[e3,decide_eq_true hup,show(up.map (·.1)).contains n=false by simpa using e4];rfl)]
      have fin:∀(H2:Hp)(ab:af)(av:List aH)(x:aH×Option aH),aT H H2->H2 ab=some (.lst (eU av))->av.length<=2->mF up n rest=some x->gk (up++[x])=gk up++[n::av]->
        Tc (XT (vy A.fL "add_word" (uR A) [] E0 (rz 2) (rV (Wn (Y7 K) (rz 1) (tC (.int 1))) (rV (rz 3) vx)))) (YV (tC (.bl true))) ⟨λ_ H'=>Q .h9 H',Q,λ_ _=>False,λ_ _=>False⟩ [some (.ref r),some (.ref b),some (.ref a),some (.ref ab)] H2:=λH2 ab av x s2 hab hav hx Bi=>by
       refine mI (s2 _ _ g1) Ax (ag rfl (iE b _ _ _ rfl rfl (bG.of (s2 _ _ hb)) (cN (j:=1) SI) (ag rfl ⟨a,qt ve l m ab DI _ n av (longest (gk up)) ⟨rfl,s2 _ _ g1,s2 _ _ g2,hab,by omega,by omega,λNN H3 hN e5 e6 e7 k4=>?_⟩⟩)));refine k2 _ (by rw[J3,hx];rfl) H3 (jb N dx lc lv as (.ref a) ?_);have R2:=R.mono s2;have hNW:¬NN∈N++M:=λz=>by
        have Xh:H NN=none:=s2.free hN;rcases aE.mp z with q|q
        ·exact R.held.not Xh q
        ·exact tr.not (R.same.free Xh) q
       have out:∀b' o,H2 b'=some o->¬b'∈N++M->H3 b'=some o:=λb' o e n=>k4 b' o e (λz=>n (by rw[z];exact aE.mpr (.inl QB))) (λz=>n (by rw[z];exact aE.mpr (.inl hlN)));have sc:aT (cut H2 (N++M)) (cut H3 (N++M)):=xy out (λb hb=>.inr hb);have ra:r≠a:=λz=>ho.1 (by rw[z];simp);have la:lc≠l:=λz=>hlX (by rw[z];simp);have rl:r≠l:=λz=>hlX (by rw[z];simp);have lca:lc≠a:=λz=>ho.1 (by rw[z];simp);refine⟨λb' o e=>?_,R.new,λb' Dc=>?_,R.rN,R.lN,k4 _ _ R2.ins ra rl,k4 _ _ R2.cols lca la,sc _ _ R2.vals,.inr (gB cs ({c with kind:=.words (up++[x])}) Kq a ⟨rfl,op.2⟩ has rfl QB (Paired.mono (λ_ _ z=>z.mono ((dR s2).trans sc)) V8) ⟨ho.1,ve,l,m,DI++[NN],hlN,hlX,?_,e6,?_,sc _ _ (dR s2 _ _ g4)⟩)⟩
       ·exact k4 b' o (R2.same _ _ e) (aR e (R.new a QB)) (aR e (R.new l hlN))
       ·obtain⟨o,eo⟩:=R2.held b' Dc;by_cases z1:b'=a
        ·rw[z1];exact⟨_,e7⟩
        ·by_cases z2:b'=l
         ·rw[z2];exact⟨_,e6⟩
         ·exact⟨o,k4 _ _ eo z1 z2⟩
       ·rw[e7,Bi,IZ];rfl
       ·rw[Bi];refine Paired.snoc (Paired.mono (λ_ _ z=>z.mono ((dR s2).trans sc)) g3) ?_;show cut H3 (N++M) NN=_;rw[c7 hNW];exact e5
      have hul:((text "word"::n::rest).map iI).length=rest.length+2:=by rw[aa];rfl
      refine mI (s1 _ _ R.ins) wA (ag rfl ⟨r,qt b a dx lc lv _ c.name up ((text "word"::n::rest).map iI) ⟨rfl,s1 _ _ R.ins,hW.mono s1,s1 _ _ hb,λe5 D H2 hD s2 e6=>?_,λe5 e6 v e7=>?_,λe5 e6=>?_⟩⟩)
      ·have QC:rest=[]:=by rw[hul] at e5;exact gc.mp (by omega)
       refine ck ?_;refine ba ?_;refine bP _ rfl rfl (ag rfl (lh ?_));refine ag rfl (bt D _ rfl (.inl (bG.of e6)) (bt _ _ rfl rfl (ag rfl (lh ?_))));refine cT ?_;exact fin H2 D [] (n,none) (s1.trans s2) e6 (by decide) (by rw[QC];rfl) (by rw[Lb QD e4])
      ·obtain⟨o,v',hr4⟩:∃o v',rest=[o,v']:=by
        rw[hul] at e5
        cases rest with
        |nil=>simp at e5
        |cons o t=>cases t with
         |nil=>simp at e5
         |cons v t=>cases t with
          |nil=>exact qr o v rfl
          |cons _ _=>simp at e5
       subst hr4;have eo:iI o=text "of":=aX e6;have eo2:o=text "of":=(tF (by decide+kernel)).mp eo;have ev:iI v'=v:=aX e7;subst ev;refine⟨λe8=>?_,λx e8 hx=>?_⟩
       ·refine ck ?_;refine ba ?_;refine bP _ rfl rfl (ag rfl (kW (k1 ?_ _ (R.same.trans s1))));rw[J3];have:¬v'∈up.map (·.1):=λq=>e8 ((Vk QD v').mpr q);rw[pj,if_neg (λq=>this q.2.1)];rfl
       ·have hv:v'∈up.map (·.1):=(Vk QD v').mp e8;have hvf:=aan QD hv;rw[hvf] at hx;have SH:H1 x=some (.lst (eU (chainOf up v'))):=hx;have hlen:(chainOf up v').length=(above up ka v').length+1:=rfl;refine ck ?_;refine ba ?_;refine bP _ rfl rfl (ag rfl (lh ?_));refine ag rfl (bt x _ rfl (.inl (bG.of SH)) (bt _ _ rfl rfl (ag rfl ?_)));rw[eG,hlen];refine fG (λe9=>?_) (λe9=>?_)
        ·refine k1 ?_ _ (R.same.trans s1);have e10:(2:Int)<(((above up ka v').length+1:Nat):Int):=e9;rw[J3];rw[pj,if_neg (λq=>by have:=q.2.2;omega)];rfl
        ·have e10:¬(2:Int)<(((above up ka v').length+1:Nat):Int):=e9;refine cT ?_;refine fin H1 x (chainOf up v') (n,some v') s1 SH (by rw[hlen];omega) ?_ (by rw[Lc QD e4 hv]);rw[pj,if_pos ⟨eo2,hv,by omega⟩]
      ·refine ck ?_;refine ba ?_;refine bP _ rfl rfl (ag rfl (kW (k1 ?_ _ (R.same.trans s1))));rw[J3]
       cases rest with
       |nil=>exact absurd rfl e5
       |cons o t=>cases t with
        |nil=>rfl
        |cons v t=>cases t with
         |nil=>rw[pj,if_neg (λq=>e6 ⟨rfl,by show some (iI o)=_;rw[q.1];rw[pF (by decide+kernel)]⟩)];rfl
         |cons _ _=>rfl
     ·refine⟨rfl,ag rfl ?_⟩;exact kW (k1 (bad e4) _ (R.same.trans s1))
end
section
open Vbslai (levels settled text value)
theorem MB{f:d8}{cs:List bA}{c:bA}{costs:List Nat}(wf:Gi f)(op:Open f cs c)(hc:costs≠[]):settled {f with columns:=cs++[{c with costs:=costs}]}=true:=by
 rw[jB];intro d hd;rcases aE.mp hd with q|q
 ·exact wf.ini d (by rw[op.1,js];exact q)
 ·have:d={c with costs:=costs}:=by simpa using q
  rw[this];exact hc
theorem OW{c:bA}(h:P8 c):levels c.kind<=4:=by
 have kd:=h.kd
 cases e:c.kind with
 |numbers s=>rw[e] at kd;have:=kd.1;show s.length+2<=4;omega
 |words up=>rw[e] at kd;have ok:mE up:=kd;show afr up+2<=4;have:afr up<=2:=oM _ 0 2 (bE _) (λx hx=>by obtain⟨y,hy,rfl⟩:=au.mp hx;exact ok.sh y hy);omega
theorem i7.ofNum{A:Cl}{H:Hp}{a:af}{c:bA}{s:List Nat}(k:c.kind=.numbers s)(h:yC A H a c.name s c.costs):i7 A H a c:=by unfold i7;rw[k];exact h
theorem i7.adK{A:Cl}{H:Hp}{a:af}{c:bA}{up:Up}(k:c.kind=.words up)(h:qe A H a c.name up c.costs):i7 A H a c:=by unfold i7;rw[k];exact h
theorem xB(c:bA):(∃s,c.kind=.numbers s)∨∃up,c.kind=.words up:=by
 cases c.kind with
 |numbers s=>exact .inl ⟨s,rfl⟩
 |words up=>exact .inr ⟨up,rfl⟩
theorem R5{A:Cl}{σ:L2.St}{G:Hp}{Q:VK}{a:af}{c:bA}{N W X:List af}(hv:σ[2]? =some (some (.ref a)))(ho:J0 A G a c N W X)(h:∀G1,aT G G1->Q (.bl (filled c.kind)) G1):
  vy A.num "is_filled" (sL A) [] E0 (rz 2) vx σ G Q∨vy A.fL "is_filled" (sO A) [] E0 (rz 2) vx σ G Q:=by
 rcases xB c with⟨st,ek⟩|⟨up,ek⟩
 ·refine zZ ?_ (ho.num ek);rintro ve l m ⟨g1,_⟩;rw[ek] at h;exact .inl (ag hv (mJ g1 zj (bq a rfl (h G (aT.refl _)))))
 ·refine ip ?_ (ho.fL ek);rintro ve l m DI _ _ g1 _;rw[ek] at h;exact .inr (ag hv (mJ g1 zk (DM a c.name up ([]) ⟨rfl,ho.Vj ek,h⟩)))
theorem Vn{A:Cl}{σ:L2.St}{G:Hp}{Q:VK}{a:af}{c:bA}{N W X:List af}(hv:σ[2]? =some (some (.ref a)))(ho:J0 A G a c N W X)(hf:filled c.kind=true)(h:Q (.int ((levels c.kind:Nat):Int)) G):
  vy A.num "level_count" (qf A) [] E0 (rz 2) vx σ G Q∨vy A.fL "level_count" (qg A) [] E0 (rz 2) vx σ G Q:=by
 rcases xB c with⟨st,ek⟩|⟨up,ek⟩
 ·refine jT ?_ (ho.num ek);rintro ve l m g1 g2 g3;rw[ek] at h;exact .inl (ag hv (mJ g1 km (DM a c.name st ([]) ⟨rfl,jK ve l m g1 (bY _ _ _ _ g2) (bY _ _ _ _ g3),h⟩)))
 ·refine ip ?_ (ho.fL ek);rintro ve l m DI _ _ g1 _;rw[ek] at h hf;rw[<-Ik hf] at h;exact .inr (ag hv (mJ g1 kq (DM a c.name up ([]) ⟨rfl,ho.Vj ek,h⟩)))
theorem AO(T:Txt K mg A):i5 P w K mg base A.fS "take_costs" 4 ["self","words"] (ug A λf ws=>settled f=false/\∃rest,ws=text "costs"::rest):=by
 refine T.fS.Lj.g8 iT (λf _ A' _ s H vs Q E hr=>nJ ?_)
 ·rintro r b M H0 fm ws ⟨rfl,tr,⟨N,dx,lc,lv,as,un,R⟩,wf,hb,DJ,J2,⟨gC,rest,DK⟩,k1,k2⟩;refine u1 ?_ (R.Vl gC);rintro cs c Kq a op has hun QB V8 ho;subst hun;subst DK;have X0:c∈fm.columns:=by rw[op.1];simp
  have cw:=wf.cols c X0;have gJ:kP fm (text "costs"::rest)=if(filled c.kind&&(decide (rest.length=levels c.kind)&&(rest.all (fA 0 10000)&&mC (rest.map value))))=true then some {fm with columns:=cs++[{c with costs:=rest.map value}]} else none:=by rw[Cp];exact Ee op.1 op.2 rest
  have mW:(filled c.kind&&(decide (rest.length=levels c.kind)&&(rest.all (fA 0 10000)&&mC (rest.map value))))=false->∀H',aT H0 H'->Q (.bl false) H':=λe=>k1 (by rw[gJ,e];rfl);have xA:rest.length<=3000:=by simp at DJ;omega
  have hrx:∀x∈rest,x.length<=3000:=λx hx=>J2 x (.tail _ hx);refine ag (ax (cg (i:=2) iT.nd rfl fz (bo (pv 0) rfl)) (ax (cg (i:=3) iT.nd rfl fz (nZ qA (pv 1) (nT bB) xh)) (ax (du (PW.pt (rT (gI (fY (PE.or (dv (pv 2) T.num.cl (BR T) hr.mono) (dv (pv 2) T.fL.cl (BU T) hr.mono)))) (oK (cF DQ (cJ bx (by rfl) T.b.dS cP (aI (pv 3) aq)) (PE.or (dv (pv 2) T.num.cl (l5 T) hr.mono) (dv (pv 2) T.fL.cl (l6 T) hr.mono)) (cC _))))) (aG (aY kf)) bS) (ax (du (gI (fY (bF (nE T) hr.mono rfl (aI (pv 3) (aI bB (aI (cY T.k.G3 rfl) aq)))))) (aG (aY kf)) bS) (ax (d9 (pv 2) (ia rfl (own:=[("cost",4)]) iT.nd (dI (pv 3)) (cR (by kernel_rfl)) (λ_ _ _ _ _=>(bU (i:=4) iT.nd rfl fz)) (λ_ _ _ _ _=>eQ) (λ_ _ _ _ _=>(sd tD (by rfl) T.b.UE NW (aI (pv 4) aq)))) rfl) (ax (d9 (pv 0) lT rfl) (aG (aY (bF (Hj T) hr.mono rfl (aI (bo (pv 2) rfl) aq)))))))))) ?_;refine ba ?_;refine fI R.ins T.fS.cl T.fS.mj lB ?_;refine ck ?_;refine ba ?_;refine ag rfl (ag rfl (bt b _ rfl (bG.of hb) (λD hD=>?_)));rw[show vz (eU ((text "costs"::rest).map iI)) (some 1) none=eU (rest.map iI) from by rw[show(1:Int)=((1:Nat):Int) from rfl,sQ,Fv];rfl];refine ck ?_;have s0:aT H (upd H D (.lst (eU (rest.map iI)))):=aD hD;have Hk:(upd H D (.lst (eU (rest.map iI)))) D=some (.lst (eU (rest.map iI))):=ai;generalize upd H D (.lst (eU (rest.map iI)))=G at s0 Hk⊢;refine ba ?_;have main:∀(G1:Hp),aT G G1->filled c.kind=true->rest.length=levels c.kind->
    ∀H1,aT G1 H1->(rest.map iI).all (fA 0 10000)=true->∀(D2:af)(H2:Hp),H1 D2=none->aT H1 H2->H2 D2=some (.lst (gZ (rest.map value)))->
    ∃C ve fs,H2 a=some (.ins C ve fs)/\z7 K C/\dC K C "costs"/\fs.length<1000/\
    (∀y,(d6 "costs" y fs).lookup ("costs":Str)=some y)/\
    (mC (rest.map value)=true->∀H3,aT (upd (upd H2 a (.ins C ve (d6 "costs" (.ref D2) fs))) r (.ins A.fS dx (gO (.ref lc) .h9 (Df fm) (.ref lv)))) H3->Kr A M H0 H3 r {fm with columns:=cs++[{c with costs:=rest.map value}]}):=λG1 sg hf zC H1 s1 lj D2 H2 CF s2 e2=>by
   have RZ:aT H H2:=s0.trans (sg.trans (s1.trans s2));have R2:=R.mono RZ;have JV:=ho.mono RZ;have Fw:H D2=none:=s0.free (sg.free (s1.free CF));have ra:r≠a:=λz=>ho.1 (by rw[z];simp);have lca:lc≠a:=λz=>ho.1 (by rw[z];simp);have rlc:r≠lc:=gH R.ins R.cols (λz=>nomatch z);have k9:rest.map value≠[]:=λz=>by have h1:=tJ c.kind;have:rest=[]:=jJ.mp z;rw[this] at zC;simp at zC;omega
   have aM:¬a∈M:=tr.not (R.new a QB);have fin:∀(C ve:af)(fs:List (Str×V)),H2 a=some (.ins C ve fs)->
     (∀H3:Hp,H3 a=some (.ins C ve (d6 "costs" (.ref D2) fs))->aT (cut H2 (N++M)) (cut H3 ([r,lc]++M))->H3 D2=some (.lst (gZ (rest.map value)))->(∀l,l∈N->¬l∈[r,lc]->l≠a->∀o,H2 l=some o->H3 l=some o)->i7 A (cut H3 ([r,lc]++M)) a {c with costs:=rest.map value})->
     ∀H3,aT (upd (upd H2 a (.ins C ve (d6 "costs" (.ref D2) fs))) r (.ins A.fS dx (gO (.ref lc) .h9 (Df fm) (.ref lv)))) H3->Kr A M H0 H3 r {fm with columns:=cs++[{c with costs:=rest.map value}]}:=λC ve fs g1 Hb H3 s3=>by
    have e3:H3 a=some (.ins C ve (d6 "costs" (.ref D2) fs)):=s3 _ _ (by rw[ay ra.symm,ai]);have out:∀b' o,H2 b'=some o->b'≠a->b'≠r->H3 b'=some o:=λb' o e n1 n2=>s3 _ _ (by rw[ay n2,ay n1];exact e);have sc:aT (cut H2 (N++M)) (cut H3 ([r,lc]++M)):=xy (λb' o e n=>out b' o e (λz=>n (by rw[z];exact aE.mpr (.inl QB))) (λz=>n (by rw[z];exact aE.mpr (.inl R.rN)))) (λb' Dc=>by
     refine .inr ?_;rcases aE.mp Dc with q|q
     ·simp at q;rcases q with rfl|rfl
      ·exact aE.mpr (.inl R.rN)
      ·exact aE.mpr (.inl R.lN)
     ·exact aE.mpr (.inr q))
    have hc3:=Hb H3 e3 sc (out _ _ e2 (λz=>by rw[<-z] at QB;exact R.held.not Fw QB) (λz=>by have:=R.ins;rw[<-z,Fw] at this;cases this)) (λl hl hx ha o e=>out l o e ha (λz=>hx (by rw[z];simp)));refine jb ([r,lc]) dx lc lv as .h9 ⟨λb' o e=>?_,λb' Dc=>?_,λb' Dc=>?_,by simp,by simp,s3 _ _ ai,out _ _ R2.cols lca rlc.symm,sc _ _ R2.vals,.inl ⟨MB wf op k9,rfl,?_⟩⟩
    ·exact out b' o (R2.same _ _ e) (aR e (R.new a QB)) (aR e (R.new r R.rN))
    ·simp at Dc;rcases Dc with rfl|rfl
     ·exact R.new _ R.rN
     ·exact R.new _ R.lN
    ·simp at Dc;rcases Dc with rfl|rfl
     ·exact⟨_,s3 _ _ ai⟩
     ·exact⟨_,out _ _ R2.cols lca rlc.symm⟩
    ·show dn _ as (cs++[{c with costs:=rest.map value}]);rw[has];exact Paired.snoc (Paired.mono (λ_ _ z=>z.mono ((dR RZ).trans sc)) V8) hc3
   have adL:∀H3:Hp,∀o,H3 a=some o->cut H3 ([r,lc]++M) a=some o:=λH3 o e=>by
    rw[c7 (λz=>by
     rcases aE.mp z with q|q
     ·exact ho.1 q
     ·exact aM q)]
    exact e
   have cutD:∀H3:Hp,∀o,H3 D2=some o->cut H3 ([r,lc]++M) D2=some o:=λH3 o e=>by
    rw[c7 (λz=>by
     rcases aE.mp z with q|q
     ·simp at q;rcases q with q|q
      ·have:=R.ins;rw[<-q,Fw] at this;cases this
      ·have:=R.cols;rw[<-q,Fw] at this;cases this
     ·exact tr.not (R.same.free Fw) q)]
    exact e
   rcases xB c with⟨st,ek⟩|⟨up,ek⟩
   ·refine jT ?_ (JV.num ek);rintro ve l m g1 g2 g3;refine iD A.num ve _ g1 T.num.cl T.num.pd (by show 3<1000;decide) ⟨λy=>by rw[uJ,qV],λ_=>fin _ _ _ g1 λH3 e3 sc e4 _=>?_⟩;rw[uJ] at e3;exact i7.ofNum (s:=st) ek (jK ve l D2 (adL _ _ e3) (sc _ _ g2) (cutD _ _ e4))
   ·refine u1 ?_ (JV.fL ek);rintro ve l m DI hlN hlX g1 g2 g3 g4;have la:l≠a:=gH g2 g1 (λz=>nomatch z);refine iD A.fL ve _ g1 T.fL.cl T.fL.pd (by show 4<1000;decide) ⟨λy=>by rw[uK,qW],λ_=>fin _ _ _ g1 λH3 e3 sc e4 hl=>?_⟩;rw[uK] at e3;refine i7.adK (up:=up) ek (oJ ve l D2 DI (adL _ _ e3) ?_ (Paired.mono (λ_ _ z=>z.mono sc) g3) (cutD _ _ e4));rw[c7 (λz=>by
     rcases aE.mp z with q|q
     ·exact hlX q
     ·exact tr.not (R.new l hlN) q)]
    exact hl l hlN hlX la _ g2
  have R0:=R.mono s0;refine R5 (c:=c) rfl (ho.mono s0) (λG1 sg=>ag rfl (kQ (λe1=>kW ?_) (λe1=>?_)))
  ·exact mW (by rw[e1];rfl) _ (R.same.trans (s0.trans sg))
  ·refine ag rfl (bt D _ rfl (.inl (bG.of (sg _ _ Hk))) (Vn (c:=c) rfl (ho.mono (s0.trans sg)) e1 ⟨rfl,ag rfl ?_⟩));rw[eG,aa];refine vX (λe2=>?_) (λe2=>?_)
   ·have:¬rest.length=levels c.kind:=λq=>e2 (by rw[q]);exact mW (by rw[decide_eq_false this,iW,iY]) _ (R.same.trans (s0.trans sg))
   ·have zC:rest.length=levels c.kind:=by injection e2 with e2;omega
    refine cT ?_;refine ba ?_;refine ag rfl (iE D (rest.map iI) 0 10000 rfl (bG.of (sg _ _ Hk)) (by rw[aa];exact ao xA (by decide)) (λx hx=>?_) (λH1 s1=>ag rfl (kQ (λe3=>?_) (λe3=>?_))))
    ·obtain⟨y,hy,rfl⟩:=au.mp hx;rw[nU];exact ao (hrx y hy) (by decide)
    ·rw[J1] at e3;exact mW (by rw[e3];simp) _ (R.same.trans (s0.trans (sg.trans s1)))
    ·refine cT ?_;refine ba ?_;have SJ:rest.all (fA 0 10000)=true:=by rw[<-J1];exact e3
     have Vh:rest.map iI=rest:=by
      conv=>rhs;rw[<-Bh rest]
      refine dh λx hx=>?_;exact Io (cj.mp SJ x hx)
     rw[Vh] at Hk;refine fC ?_;refine ag rfl (bP D rfl ⟨_,bG.of (s1 _ _ (sg _ _ Hk))⟩ ?_);refine j5 (l:=rest) (enc:=λl=>.str (sN l)) (f:=λl=>.int ((value l:Nat):Int)) (bG.of (s1 _ _ (sg _ _ Hk))) (ao xA (by decide)) (λi x H' RR hx k' Ri=>?_) (λD2 H2 CF s2 e4=>?_)
     ·have dQ:=cj.mp SJ x (aN hx);obtain⟨q1,q2⟩:=Mz dQ;exact⟨rfl,ag rfl (dH _ _ rfl (Fj (vK dQ) q1 q2) (by rw[jm];omega) (Ri _ (aT.refl _)))⟩
     ·have e5:(rest.map λl=>V.int ((value l:Nat):Int))=gZ (rest.map value):=by unfold gZ;rw[aQ];rfl
      rw[e5] at e4;refine rq ?_ (main G1 sg e1 zC H1 s1 e3 D2 H2 CF s2 e4);rintro C ve fs g1 c1 c2 ⟨c3,c4,c5⟩;have RZ:aT H H2:=s0.trans (sg.trans (s1.trans s2));have ra:r≠a:=λz=>ho.1 (by rw[z];simp);have Fw:H D2=none:=s0.free (sg.free (s1.free CF));have ag8:D2≠a:=λz=>by rw[<-z] at QB;exact R.held.not Fw QB
      have ag9:D2≠r:=λz=>by have:=R.ins;rw[<-z,Fw] at this;cases this
      refine ag rfl (gB a C ve fs rfl g1 c1 c2 c3 ?_);refine ag rfl (sJ (by rw[ay ra];exact RZ _ _ R.ins) T.fS.cl T.fS.mj (by show 4<1000;decide) ?_);rw[qY];refine ag rfl (o6 a C ve _ _ ⟨rfl,by rw[ay ra.symm];exact ai,c1,c2,c4 _,dH D2 (rest.map value) rfl (bG.of (by rw[ay ag9,ay ag8];exact e4)) (by rw[aa];have:=OW cw;omega) (λH3 s3=>?_)⟩)
      cases e6:mC (rest.map value) with
      |true=>exact k2 _ (by rw[gJ,e1,decide_eq_true zC,SJ,e6];rfl) H3 (c5 e6 H3 s3)
      |false=>exact mW (by rw[e6];simp) H3 (aT.trans (mV (mV (R.same.trans RZ) (R.new a QB)) (R.new r R.rN)) s3)
end
section
open Vbslai (settled text distinct)
theorem Hl(ws:List aH):(ws.map iI).all dU=ws.all dU:=by rw[rO];congr 1;funext x;exact yW x
theorem zN(T:Txt K mg A):i5 P w K mg base A.fS "take_secret" 3 ["self","words"] (ug A λf ws=>settled f=true/\∃rest,ws=text "secret"::rest):=by
 refine T.fS.Jj.g8 p9 (λf pP A' outer s H vs Q E hr=>nJ ?_)
 ·rintro r b M H0 fm ws ⟨rfl,tr,⟨N,dx,lc,lv,as,un,R⟩,wf,hb,DJ,J2,⟨gC,mn,DK⟩,k1,k2⟩;refine ag (ax (cg (i:=2) p9.nd rfl fz (nZ qA (pv 1) (nT bB) xh)) (ax (du (PW.pt (rT (cF Dy (bo (pv 0) rfl) lT (cC _)) (oK (gI (z6 iH iH (cY T.k.EU rfl) (cJ bx (by rfl) T.b.dS cP (aI (pv 2) aq)) (cY T.k.Jt rfl)))))) (aG (aY kf)) bS) (ax (du (PW.pt (rT (gI (fY (cp (pv 0) T.fS.cl (qj T) hr.mono (aI (eN cU (pv 1) bB (λ_ _=>rfl)) aq)))) (oK (gI (fY (bF (JI T) hr.mono rfl (aI (pv 2) aq))))))) (aG (aY kf)) bS) (ax (d9 (pv 0) (eN cU (pv 1) bB (λ_ _=>rfl)) rfl) (ax (d9 (pv 0) (pv 2) rfl) (aG (aY (je jz (cJ Ig (by rfl) T.b.dS cP (aI (sd (LM rfl) (by rfl) T.b.Yc Uu (aI (pv 2) aq)) aq)) (cJ bx (by rfl) T.b.dS cP (aI (pv 2) aq)) (cC _))))))))) ?_;refine ba ?_;refine ag rfl (ag rfl (bt b _ rfl (bG.of hb) (λD hD=>?_)));rw[show vz (eU (ws.map iI)) (some 2) none=eU ((ws.drop 2).map iI) from by rw[vh,<-Fv];exact sQ _ 2];refine ck ?_;have s0:aT H (upd H D (.lst (eU ((ws.drop 2).map iI)))):=aD hD;have Hk:(upd H D (.lst (eU ((ws.drop 2).map iI)))) D=some (.lst (eU ((ws.drop 2).map iI))):=ai;generalize upd H D (.lst (eU ((ws.drop 2).map iI)))=G at s0 Hk⊢;refine ba ?_;have R0:=R.mono s0;have Z6:¬2<=(ws.drop 2).length->kP fm ws=none:=λh=>by
   rw[fW gC,DK];rw[DK] at h
   cases mn with
   |nil=>exact r9 ..
   |cons n rest=>have h':¬2<=rest.length:=h;rw[qF,decide_eq_false h'];simp
  refine fI R0.ins T.fS.cl T.fS.gE j4 ⟨rfl,ag rfl ?_⟩;rw[My];refine vX (λe1=>kW ?_) (λe1=>?_)
  ·refine k1 ?_ _ (R.same.trans s0);rw[fW gC,DK]
   cases mn with
   |nil=>exact r9 ..
   |cons n rest=>rw[qF,decide_eq_false e1];simp
  ·refine ag rfl (bt D _ rfl (.inl (bG.of Hk)) (bt _ _ rfl rfl (ag rfl ?_)));rw[eG,aa];refine fG (λe2=>?_) (λe2=>?_)
   ·have h2:2<=(ws.drop 2).length:=by have:(2:Int)<=((ws.drop 2).length:Nat):=e2;omega
    obtain⟨n,rest,AM⟩:∃n rest,mn=n::rest:=by
     cases mn with
     |nil=>rw[DK] at h2;simp at h2
     |cons x t=>exact qr x t rfl
    subst AM;subst DK;have hdr:(text "secret"::n::rest).drop 2=rest:=rfl;rw[hdr] at h2 Hk;have gJ:=qF fm n rest;rw[<-fW gC] at gJ;have mW:(decide (fm.secret=[])&&(decide (2<=rest.length)&&(decide (rest.length<=12)&&(newName fm n&&(rest.all dU&&distinct rest)))))=false->∀H',aT H0 H'->Q (.bl false) H':=λe=>k1 (by rw[gJ,e];rfl);have xA:rest.length<=3000:=by simp at DJ;omega
    have hrx:∀x∈rest,x.length<=3000:=λx hx=>J2 x (.tail _ (.tail _ hx));refine bt _ _ rfl rfl (ag rfl ?_);rw[hdr];refine vX (λe3=>?_) (λe3=>?_)
    ·have:¬rest.length<=12:=λq=>e3 (by show((rest.length:Nat):Int)<=12;omega);exact mW (by rw[decide_eq_false this];simp) _ (R.same.trans s0)
    ·have h12:rest.length<=12:=by have:((rest.length:Nat):Int)<=12:=e3;omega
     refine cT ?_;refine ba ?_;have SI:(eU ((text "secret"::n::rest).map iI))[1]? =some (.str (sN (iI n))):=rfl;have hnl:n.length<=3000:=J2 n (by simp);refine mI R0.ins om (ag rfl (iE b _ _ _ rfl rfl (bG.of (s0 _ _ hb)) (cN (j:=1) SI) (o6 r M H0 fm (iI n) ⟨rfl,jb N dx lc lv as un R0,by have:=wf.len;omega,by rw[nU];omega,λH1 s1=>ag rfl ?_⟩)));rw[oy];refine kQ (λe4=>kW ?_) (λe4=>?_)
     ·exact mW (by rw[e4];simp) _ (R.same.trans (s0.trans s1))
     ·refine ag rfl (dH D (rest.map iI) rfl (bG.of (s1 _ _ Hk)) (by rw[aa];exact ao xA (by decide)) ⟨λx hx=>?_,λH2 s2=>ag rfl ?_⟩)
      ·obtain⟨y,hy,rfl⟩:=au.mp hx;rw[nU];exact ao (hrx y hy) (by decide)
      ·rw[Hl];refine kQ (λe5=>?_) (λe5=>?_)
       ·exact mW (by rw[e5];simp) _ (R.same.trans (s0.trans (s1.trans s2)))
       ·refine cT ?_;have Xk:dU n=true:=by have:=e4;unfold newName at this;rw[aL] at this;exact this.1
        have Vh:rest.map iI=rest:=by
         conv=>rhs;rw[<-Bh rest]
         refine dh λx hx=>?_;exact kh (cj.mp e5 x hx)
        rw[Vh] at Hk;rw[kh Xk] at SI;have RZ:=s0.trans (s1.trans s2);have R2:=R.mono RZ;have hD0:D≠r:=(aR R.ins hD).symm;have SD:D≠lc:=(aR R.cols hD).symm;refine ag rfl (iE b _ _ _ rfl rfl (bG.of (RZ _ _ hb)) (cN (j:=1) SI) (ag rfl (sJ R2.ins T.fS.cl T.fS.gE (by show 4<1000;decide) ?_)));rw[va];refine ag rfl (ag rfl (sJ ai T.fS.cl T.fS.eh (by show 4<1000;decide) ?_));rw[sA,Px];have CF:H2 D=some (.lst (eU rest)):=s2 _ _ (s1 _ _ Hk);have hD3:(upd H2 r (.ins A.fS dx (gO (.ref lc) un (.str (sN n)) (.ref D)))) D=some (.lst (eU rest)):=by rw[ay hD0];exact CF
        refine ag rfl (dH D (rest.map AH) rfl (bG.of (by rw[<-Me];exact hD3)) (by rw[aa];omega) (λp hp=>?_));refine bt p _ rfl ai ?_;refine ag rfl (dH D _ rfl (.inl (bG.of (aD hp _ _ hD3))) rfl ?_);rw[U0 Qv,aa,eG];have sF:aT H0 (upd (upd H2 r (.ins A.fS dx (gO (.ref lc) un (.str (sN n)) (.ref D)))) p (UW (GD T7 P w K mg base ["self","words","secrets"] "FormReader.take_secret" (aO jZ) f pP A' outer s H E).Wl.prog (GD T7 P w K mg base ["self","words","secrets"] "FormReader.take_secret" (aO jZ) f pP A' outer s H E).Wl.w p ((dd rest).map AH))):=(mV (R.same.trans RZ) (R.new r R.rN)).trans (aD hp);by_cases Xq:rest.Nodup
        ·have e6:(dd rest).length=rest.length:=Eg.mpr Xq;rw[e6,decide_eq_true rfl];refine k2 {fm with secret:=n,values:=rest} (by rw[gJ,decide_eq_true e1,decide_eq_true h2,decide_eq_true h12,e4,e5,(tH rest).mpr Xq];rfl) _ (jb N dx lc D as un ?_);refine sS.mono (aD hp) ?_;have rlc:r≠lc:=gH R.ins R.cols (λz=>nomatch z);have sc:aT (cut H2 (N++M)) (cut (upd H2 r (.ins A.fS dx (gO (.ref lc) un (.str (sN n)) (.ref D)))) (N++M)):=by rw[tQ (aE.mpr (.inl R.rN))];exact aT.refl _
         refine⟨mV R2.same (R.new r R.rN),R.new,λb' Dc=>?_,R.rN,R.lN,?_,by rw[ay rlc.symm];exact R2.cols,?_,.inl ⟨?_,?_,?_⟩⟩
         ·obtain⟨o,eo⟩:=R2.held b' Dc;by_cases z:b'=r
          ·rw[z];exact⟨_,ai⟩
          ·rw[ay z];exact⟨o,eo⟩
         ·rw[ai];unfold Df;rw[if_neg (BB Xk)]
         ·rw[c7 (λz=>by
           rcases aE.mp z with q|q
           ·exact R.held.not hD q
           ·exact tr.not (R.same.free hD) q)]
          exact hD3
         ·exact gC
         ·rcases R2.st with⟨_,q,_⟩|⟨cs,c,Kq,a,h1,_⟩
          ·exact q
          ·rw[iq h1] at gC;cases gC
         ·rcases R2.st with⟨_,_,q⟩|⟨cs,c,Kq,a,h1,_⟩
          ·exact Paired.mono (λ_ _ z=>z.mono sc) q
          ·rw[iq h1] at gC;cases gC
        ·have e6:¬(dd rest).length=rest.length:=λq=>Xq (Eg.mp q);rw[decide_eq_false (λz=>e6 (by injection z with z;omega))];refine mW ?_ _ sF;rw[show distinct rest=false by rw[<-Ht,tH];exact Xq];simp
   ·have:¬2<=(ws.drop 2).length:=λq=>e2 (by show(2:Int)<=((ws.drop 2).length:Nat);omega);exact ag rfl (kW (k1 (Z6 this) _ (R.same.trans s0)))
theorem lE{x:aH}{s:String}(hs:(text s).all Vbslai.isSmall=true)(e:aS s=sN (text s)):V.str (sN (iI x))=V.str (aS s)↔x=text s:=by
 rw[e];constructor
 ·intro h;injection h with h
  exact(tF hs).mp (wH h)
 ·intro h;rw[h,pF hs]
theorem Fx:aS "numbers"=sN (text "numbers"):=by decide+kernel
theorem MC:aS "words"=sN (text "words"):=by decide+kernel
theorem QE:aS "word"=sN (text "word"):=by decide+kernel
theorem Fy:aS "costs"=sN (text "costs"):=by decide+kernel
theorem BZ:aS "secret"=sN (text "secret"):=by decide+kernel
theorem sU(T:Txt K mg A)(Y:Isi K A):i5 P w K mg base A.fS "take_line_within" 5 ["self","words"] (ug A λf ws=>settled f=false/\ws≠[]):=by
 refine T.fS.Au.g8 sD (λf _ A' _ s H vs Q E hr=>nJ ?_)
 ·rintro r b M H0 fm ws ⟨rfl,tr,hR,wf,hb,DJ,J2,⟨gC,k9⟩,k1,k2⟩;refine nJ ?_ (id hR);rintro N dx lc lv as un R
  cases ws with
  |nil=>exact absurd rfl k9
  |cons x rest=>
   have h0:(eU ((x::rest).map iI))[0]? =some (.str (sN (iI x))):=rfl;refine xE ?_ (R.Vl gC);rintro cs c Kq a ⟨op,_⟩;refine ag (ax (du (cF jz (eN cU (pv 1) bB (λ_ _=>rfl)) fb (cC _)) (aG (aY (cp (pv 0) T.fS.cl (BY T Y) hr.mono (aI (pv 1) aq)))) bS)
   (ax (du (cF jz (eN cU (pv 1) bB (λ_ _=>rfl)) fb (cC _)) (aG (aY (cp (pv 0) T.fS.cl (AO T) hr.mono (aI (pv 1) aq)))) bS)
   (aG (aY kf)))) ?_
   refine ag rfl (gB b _ _ _ rfl rfl (bG.of hb) (cN (j:=0) h0) rfl (ag rfl (fG (λe1=>?_) (λe1=>?_))))
   ·have e2:=(lE (by decide+kernel) QE).mp e1;exact mI R.ins zo (ag rfl (jb r b M H0 fm (x::rest) ⟨rfl,tr,hR,wf,hb,DJ,J2,⟨gC,rest,by rw[e2]⟩,k1,k2⟩))
   ·have n1:x≠text "word":=λq=>e1 ((lE (by decide+kernel) QE).mpr q);refine cT ?_;refine ag rfl (gB b _ _ _ rfl rfl (bG.of hb) (cN (j:=0) h0) rfl (ag rfl (fG (λe2=>?_) (λe2=>?_))))
    ·have e3:=(lE (by decide+kernel) Fy).mp e2;exact mI R.ins xN (ag rfl (jb r b M H0 fm (x::rest) ⟨rfl,tr,hR,wf,hb,DJ,J2,⟨gC,rest,by rw[e3]⟩,k1,k2⟩))
    ·have n2:x≠text "costs":=λq=>e2 ((lE (by decide+kernel) Fy).mpr q);exact k1 (Eo op n1 n2) H R.same
theorem B0(T:Txt K mg A)(Y:Isi K A):i5 P w K mg base A.fS "take_line" 6 ["self","words"] (ug A λf ws=>ws≠[]):=by
 refine T.fS.NZ.g8 BM (λf _ A' _ s H vs Q E hr=>nJ ?_)
 ·rintro r b M H0 fm ws ⟨rfl,tr,hR,wf,hb,DJ,J2,k9,k1,k2⟩;refine nJ ?_ (id hR);rintro N dx lc lv as un R;refine ag (ax (du (cF Dy (bo (pv 0) rfl) lT (cC _)) (aG (aY (cp (pv 0) T.fS.cl (sU T Y) hr.mono (aI (pv 1) aq)))) bS) (ax (du (cF jz (eN cU (pv 1) bB (λ_ _=>rfl)) fb (cC _)) (aG (aY (cp (pv 0) T.fS.cl (x5 T) hr.mono (aI (pv 1) aq)))) bS) (ax (du (cF jz (eN cU (pv 1) bB (λ_ _=>rfl)) fb (cC _)) (aG (aY (cp (pv 0) T.fS.cl (AN T) hr.mono (aI (pv 1) aq)))) bS) (ax (du (cF jz (eN cU (pv 1) bB (λ_ _=>rfl)) fb (cC _)) (aG (aY (cp (pv 0) T.fS.cl (zN T) hr.mono (aI (pv 1) aq)))) bS) (aG (aY kf)))))) ?_;refine fI R.ins T.fS.cl T.fS.mj lB ⟨rfl,ag rfl ?_⟩;rw[R.un];refine kQ (λe1=>?_) (λe1=>?_)
  ·exact mI R.ins qv (ag rfl (jb r b M H0 fm ws ⟨rfl,tr,hR,wf,hb,DJ,J2,⟨e1,k9⟩,k1,k2⟩))
  ·refine cT ?_
   cases ws with
   |nil=>exact absurd rfl k9
   |cons x rest=>
    have h0:(eU ((x::rest).map iI))[0]? =some (.str (sN (iI x))):=rfl;refine ag rfl (gB b _ _ _ rfl rfl (bG.of hb) (cN (j:=0) h0) rfl (ag rfl (fG (λe2=>?_) (λe2=>?_))))
    ·have e3:=(lE (by decide+kernel) Fx).mp e2;exact mI R.ins u9 (ag rfl (jb r b M H0 fm (x::rest) ⟨rfl,tr,hR,wf,hb,DJ,J2,⟨e1,rest,by rw[e3]⟩,k1,k2⟩))
    ·have n1:x≠text "numbers":=λq=>e2 ((lE (by decide+kernel) Fx).mpr q);refine cT ?_;refine ag rfl (gB b _ _ _ rfl rfl (bG.of hb) (cN (j:=0) h0) rfl (ag rfl (fG (λe3=>?_) (λe3=>?_))))
     ·have e4:=(lE (by decide+kernel) MC).mp e3;exact mI R.ins xM (ag rfl (jb r b M H0 fm (x::rest) ⟨rfl,tr,hR,wf,hb,DJ,J2,⟨e1,rest,by rw[e4]⟩,k1,k2⟩))
     ·have n2:x≠text "words":=λq=>e3 ((lE (by decide+kernel) MC).mpr q);refine cT ?_;refine ag rfl (gB b _ _ _ rfl rfl (bG.of hb) (cN (j:=0) h0) rfl (ag rfl (fG (λe4=>?_) (λe4=>?_))))
      ·have e5:=(lE (by decide+kernel) BZ).mp e4;exact mI R.ins wB (ag rfl (jb r b M H0 fm (x::rest) ⟨rfl,tr,hR,wf,hb,DJ,J2,⟨e1,rest,by rw[e5]⟩,k1,k2⟩))
      ·have n3:x≠text "secret":=λq=>e4 ((lE (by decide+kernel) BZ).mpr q);refine k1 ?_ H R.same;rw[fW e1];by_cases q1:x=text "word"
       ·rw[q1];exact qG wf e1 rest
       ·by_cases q2:x=text "costs"
        ·rw[q2];exact pS e1 rest
        ·exact yZ fm x rest n1 n2 q1 q2 n3
end
section
open Vbslai (settled linesOf wordsOf)
theorem sS.aha{A:Cl}{M:List af}{H0 H:Hp}{r:af}{f:d8}{N:List af}{dx lc lv:af}{as:List af}{un:V}(R:sS A M H0 H r f N dx lc lv as un):sS A M (cut H N) H r f N dx lc lv as un:=⟨bY _ _,λb hb=>vY hb,R.held,R.rN,R.lN,R.ins,R.cols,R.vals,R.st⟩
theorem wU(c:Nat):∀l:aH,(∀x∈dj c l,x.length<=l.length)/\(dj c l).length<=l.length+1
 |[]=>by simp[dj]
 |a::l=>by
  have ih:=wU c l;unfold dj;split
  ·refine⟨λx hx=>?_,by simp;omega⟩;rcases aB.mp hx with q|q
   ·rw[q];simp
   ·have:=ih.1 x q;rw[aW];omega
  ·split
   ·exact⟨λx hx=>by simp at hx;subst hx;simp,by simp⟩
   ·rename_i w r e;rw[e] at ih;refine⟨λx hx=>?_,by have:=ih.2;simp at this⊢;omega⟩;rcases aB.mp hx with q|q
    ·rw[q];have:=ih.1 w (by simp);simp;omega
    ·have:=ih.1 x (.tail _ q);rw[aW];omega
theorem R6(l:aH):(wordsOf l).length<=l.length+1/\∀x∈wordsOf l,x.length<=l.length:=by unfold aew;have h:=wU 32 l;exact⟨ao (dW ..) h.2,λx hx=>h.1 x (bH.mp hx).1⟩
theorem R7(t:aH):(linesOf t).length<=t.length+1/\∀x∈linesOf t,x.length<=t.length:=by
 unfold aev;have h:=wU 10 t;dsimp only;split
 ·exact⟨by rw[List.length_dropLast];omega,λx hx=>h.1 x ((List.dropLast_sublist _).subset hx)⟩
 ·exact⟨h.2,h.1⟩
def MD(K:ah)(A:Cl):Sp:=λvs H Q _=>∃(r b:af)(M:List af)(H0:Hp)(t:aH),vs=[.ref r,.ref b]/\Tr M H0/\Kr A M H0 H r {}/\bG K H b (gZ t)/\t.length<=2100/\
 (∀i,tm t=.error i->∀H',aT H0 H'->Q (.int (i:Nat)) H')/\(∀f,tm t=.ok f->∀H',Kr A M H0 H' r f->Q (.int 0) H')
theorem ME(T:Txt K mg A)(Y:Isi K A):i5 P w K mg base A.fS "read" 7 ["self","data"] (MD K A):=by
 refine T.fS.acV.g8 oo (λf _ A' _ s H vs Q E hr=>CV ?_)
 ·rintro r b M H0 t ⟨rfl,tr,⟨N,dx,lc,lv,as,un,R⟩,hb,ht,k1,k2⟩;have Qu:=R7 t;refine ag (ax (cg (i:=2) oo.nd rfl fz (bF (LR T) hr.mono rfl (aI (pv 1) aq))) (ax (lU dE rfl (U8 (by rfl) T.b.Lu (aI (pv 2) aq)) (DO (n:=2) rfl (fZ (bU (i:=3) oo.nd rfl fz) (fZ (bU (i:=4) oo.nd rfl fz) o7))) (ax (cg (i:=5) oo.nd rfl fz (bF (LW T) hr.mono rfl (aI (pv 4) aq))) (aG (du (PW.pt (ID (cF (AB hr.Bt) (pv 5) (bZ aq) (cC _)) (Dx (gI (fY (cp (pv 0) T.fS.cl (B0 T Y) hr.mono (aI (pv 5) aq))))))) (aG (aY (pv 3))) bS)))) (ax (du (fY (dv (pv 0) T.fS.cl (zI T) hr.mono)) (aG (aY bB)) bS) (aG (aY (fo pN (cJ bx (by rfl) T.b.dS cP (aI (pv 2) aq)) bB)))))) ?_;refine ba ?_;refine ag rfl (dH b t rfl hb (by omega) (λD ls H1 hD s1 NJ SD hP=>?_));refine ck ?_;refine ba ?_;have R1:=R.mono s1;have trN:Tr M (cut H1 N):=λm hm=>by
   obtain⟨o,eo⟩:=tr m hm;have:¬m∈N:=λq=>by rw[R.new m q] at eo;cases eo
   exact⟨o,by rw[c7 this];exact R1.same _ _ eo⟩
  have h00:aT H0 (cut H1 N):=λc o e=>by
   rw[c7 (λq=>by rw[R.new c q] at e;cases e)];exact R1.same _ _ e
  have hDN:(cut H1 N) D=some (.lst (iZ ls)):=by rw[c7 (R.held.not hD)];exact SD
  have hPN:dn (ZZ (cut H1 N)) ls (linesOf t):=xx (Paired.len hP) λi a l e1 e2=>by
   obtain⟨l',e3,h3⟩:=Paired.wI hP e1;rw[e2] at e3;cases e3;show cut H1 N a=_;rw[c7 (R.held.not (NJ a (aN e1)))];exact h3
  have Fo:=Paired.len hP;refine ag rfl (bt D _ rfl (bG.of SD) (JA (n:=(linesOf t).length) (λi σ H'=>∃(v3 v4 v5:Option V)(fi:d8),σ=[some (.ref r),some (.ref b),some (.ref D),v3,v4,v5]/\Kr A M (cut H1 N) H' r fi/\Gi fi/\ni (i+1) fi ((linesOf t).drop i)=tm t) (oJ none none none ({}) rfl (jb N dx lc lv as un R1.aha) Gi.start rfl) (λi σ H' hi p=>?_) (λσ H' p=>?_) (λi xv σ H' ou hi p y=>?_) (λσ H' p=>?_)))
  ·refine xE ?_ p;clear p;rintro _ _ _ fi ⟨rfl,⟨_,_,_,_,_,_,R'⟩,_⟩;exact fu _ _ (bG.of (R'.same _ _ hDN)) (aw (by rw[cu];omega))
  ·refine xE ?_ p;clear p;rintro _ _ _ fi ⟨rfl,⟨_,_,_,_,_,_,R'⟩,_⟩;exact ag (bG.of (R'.same _ _ hDN)) (by rw[cu];omega)
  ·refine ip ?_ p;clear p;rintro v3 v4 v5 fi rfl Fm wf uT;refine ke ?_ y;clear y;rintro T1 x rfl Ie rfl hx;have sR:aT (cut H1 N) H':=by refine nJ ?_ Fm;rintro _ _ _ _ _ _ R';exact R'.same
   obtain⟨la,hla,rfl⟩:=kM (hx _ (bG.of (sR _ _ hDN)));obtain⟨l,hl,ahb⟩:=Paired.wI hPN hla;have hlm:=aN hl;have oR:=Qu.2 l hlm;have hw:=R6 l;have sT:aT H' (upd H' T1 (.tup [.int ((i+1:Nat):Int),.ref la])):=aD Ie;have adM:(linesOf t).drop i=l::(linesOf t).drop (i+1):=by obtain⟨h1,h2⟩:=cn.mp hl;rw[<-h2];exact dJ h1
   rw[adM,yk] at uT;refine dH T1 _ rfl (nY.of ai) rfl (fu _ _ rfl (bt _ _ rfl rfl ?_));refine ba ?_;refine ag rfl (dH la l rfl (bG.of (sT _ _ (sR _ _ ahb))) (by omega) (λW H3 hW s3 e3=>?_));refine ck ?_;have hR3:Kr A M (cut H1 N) H3 r fi:=Kr.mono (sT.trans s3) Fm;have cont:ni (i+1+1) fi ((linesOf t).drop (i+1))=tm t->∀H4,aT H3 H4->∃(v3 v4 v5:Option V)(fi:d8),[some (V.ref r),some (.ref b),some (.ref D),some (.int ((i+1:Nat):Int)),some (.ref la),some (.ref W)]=[some (.ref r),some (.ref b),some (.ref D),v3,v4,v5]/\Kr A M (cut H1 N) H4 r fi/\Gi fi/\ni (i+1+1) fi ((linesOf t).drop (i+1))=tm t:=λe H4 s4=>oJ _ _ _ fi rfl (hR3.mono s4) wf e;refine bP _ rfl (bE _) (λq hq=>?_);have s4:aT H3 (upd H3 q (.lst [])):=aD hq;refine iD W q _ rfl rfl (bG.of (s4 _ _ e3)) (bG.of ai) (ag rfl (vX (λe1=>?_) (λe1=>?_)))
   ·have k9:wordsOf l≠[]:=λz=>e1 (by rw[z];rfl);have ahc:(wordsOf l).isEmpty=false:=by simpa using k9
    rw[if_neg (by rw[ahc];exact aZ)] at uT;refine nJ ?_ (id (hR3.mono s4));rintro _ dx3 _ _ _ _ R3;refine mI R3.ins zm (ag rfl (jb r W M (cut H1 N) fi (wordsOf l) ⟨rfl,trN,hR3.mono s4,wf,s4 _ _ e3,by omega,λx hx=>by have:=hw.2 x hx;omega,k9,λMA H5 s5=>ag rfl ?_,λg hg H5 hR5=>ag rfl ?_⟩))
    ·refine kW (ag rfl (k1 (i+1) ?_ _ (h00.trans s5)));rw[MA] at uT;exact uT.symm
    ·refine lh ?_;refine cT ?_;rw[hg] at uT;exact oJ _ _ _ g rfl hR5 (wf.step hg) uT
   ·refine lh ?_;refine cT ?_;have hE:wordsOf l=[]:=by
     have:(wordsOf l).map iI=[]:=by unfold eU at e1;exact jJ.mp e1
     exact jJ.mp this
    rw[if_pos (by rw[hE];rfl)] at uT;exact oJ _ _ _ fi rfl (hR3.mono s4) wf uT
  ·refine ip ?_ p;clear p;rintro v3 v4 v5 fi rfl Fm wf uT;rw[fg (aK _)] at uT;refine nJ ?_ (id Fm);rintro N2 Yl lc2 lv2 as2 un2 R2;refine mI R2.ins wz (DM r M (cut H1 N) fi ⟨rfl,Fm,λH4 s4=>ag rfl (Es (λe1=>?_) (λe1=>?_))⟩)
   ·have dQ:tm t=.ok fi:=by rw[<-uT];unfold ni;simp only[aL,jv,decide_eq_true_eq] at e1;rw[if_pos ⟨e1.1,e1.2.1,e1.2.2⟩]
    refine k2 fi dQ H4 ?_;refine nJ ?_ (Fm.mono s4);rintro N4 dx4 lc4 lv4 as4 un4 R4;exact jb N4 dx4 lc4 lv4 as4 un4 ⟨h00.trans R4.same,λb' Dc=>h00.free (R4.new b' Dc),R4.held,R4.rN,R4.lN,R4.ins,R4.cols,R4.vals,R4.st⟩
   ·refine cT ?_;have ahd:tm t=.error ((linesOf t).length+1):=by
     rw[<-uT];unfold ni;rw[if_neg];intro q;have:(!fi.columns.isEmpty&&(settled fi&&decide (fi.secret≠[])))=true:=by rw[q.1,q.2.1,decide_eq_true q.2.2];rfl
     rw[this] at e1;cases e1
    have Gq:aT (cut H1 N) H4:=R2.same.trans s4;refine ag rfl (bt D _ rfl (.inl (bG.of (Gq _ _ hDN))) (bt _ _ rfl rfl ?_));have:=k1 _ ahd H4 (h00.trans Gq);show Q (V.int ((((iZ ls).length:Nat):Int)+1)) H4;rw[show(((iZ ls).length:Nat):Int)+1=(((linesOf t).length+1:Nat):Int) by rw[cu,Fo];omega];exact this
end
section
open Vbslai (text digits spaced)
theorem Ip:∀ls:List aH,TL.qD [] ls=ls.flatten
 |[]=>rfl
 |[w]=>by simp[TL.qD]
 |w::v::l=>by show w++([]++TL.qD [] (v::l))=_;rw[Ip (v::l)];simp
theorem R8(ls:List aH):xf (aS "") (ls.map sN)=sN ls.flatten:=by rw[TL.join_eq];apply TL.vG;rw[TL.Ac,show TL.tl (aS "")=[] by decide+kernel,BS,Ip];exact(lZ _).symm
theorem i6{B:Nat}:∀ws:List aH,(∀x∈ws,x.length<=B)->(spaced ws).length<=ws.length*(B+1)
 |[],_=>bE _
 |[x],h=>by have h1:x.length<=B:=h x (by simp);show x.length<=1*(B+1);omega
 |x::y::l,h=>by have ih:=i6 (y::l) λz hz=>h z (.tail _ hz);have h1:x.length<=B:=h x (by simp);show(x++(32::spaced (y::l))).length<=_;rw[aP,aW,aW (as:=y::l),Sv];omega
def Vo(K:ah):Sp:=λvs H Q _=>∃(a:af)(ls:List aH),vs=[.ref a]/\bG K H a (eU ls)/\(∀x∈ls,x.length<=1000)/\ls.length<=5000/\∀H',aT H H'->Q (.str (sN (ls.flatMap λl=>l++[10]))) H'
theorem MF(T:Txt K mg A):Def P w K mg base "ended" 1 ["lines"] (Vo K):=by
 refine T.Qi.ended.g8 E6 (λf _ A' _ s H vs Q E hr=>ke ?_)
 ·rintro a ls rfl ha hx ⟨hn,k⟩;refine ag (aG (aY (Ep fb (ia rfl (own:=[("line",1)]) E6.nd (dI (pv 0)) (cR (by kernel_rfl)) (λ_ _ _ _ _=>(bU (i:=1) E6.nd rfl fz)) (λ_ _ _ _ _=>eQ) (λ_ _ _ _ _=>(fo yS (pv 1) fb)))))) ?_;refine⟨⟨_,rfl⟩,?_⟩;refine fC ?_;refine ag rfl (bP a rfl ⟨_,ha⟩ ?_);refine j5 (l:=ls) (enc:=λl=>.str (sN l)) (f:=λl=>.str (sN (l++[10]))) ha (ao hn (by decide)) (λi x H' R hi k' hR=>?_) (λD H' hD hs he=>?_)
  ·have SH:=hx x (aN hi);refine⟨rfl,ag rfl (dH _ _ rfl rfl ?_ ?_)⟩
   ·rw[jm];have:(aS "\n").length=1:=by decide+kernel
    rw[this];exact cX (dG (n:=1000) (by decide)|>λh=>b0 (by omega:x.length+1<=1001) (by decide))
   ·rw[show aS "\n"=sN [10] by decide+kernel,zz];exact hR _ (aT.refl _)
  ·have e:(ls.map λl=>V.str (sN (l++[10])))=((ls.map λl=>l++[10]).map sN).map V.str:=by rw[aQ,aQ];rfl
   refine iD _ D _ rfl rfl (.inl (bG.of (by rw[he,e]))) (pH (B:=1001) (N:=5000) ?_ ?_ (by decide+kernel)) ?_
   ·intro x hx2;obtain⟨y,hy,rfl⟩:=au.mp hx2;have:=hx y hy;rw[aP];show y.length+1<=1001;omega
   ·rw[aa];exact hn
   ·rw[R8,<-List.flatMap_def];exact k H' hs
theorem Vp:aS ":"=sN (text ":"):=by decide+kernel
def Dg(K:ah):Sp:=λvs H Q _=>∃(a b:af)(ls:List aH)(ns:List Nat),vs=[.ref a,.ref b]/\nY K H a (eU ls)/\H b=some (.lst (gZ ns))/\ls.length<=10/\(∀x∈ls,x.length<=20)/\ns.length<=20/\(∀x∈ns,x<=1000000)/\
 ∀H',aT H H'->Q (.str (sN (spaced (ls++[text ":"]++ns.map digits)))) H'
theorem Dh(T:Txt K mg A):Def P w K mg base "release_line" 1 ["looks","counts"] (Dg K):=by
 refine T.Qi.Jl.g8 oN (λf _ A' _ s H vs Q E hr=>u1 ?_)
 ·rintro a b ls ns rfl ha hb hl hlx ⟨hn,hnx,k⟩;refine ag (aG (aY (Ep fb (fo jU (fo jU (sd IM (by rfl) T.b.UG Qb (aI (pv 0) aq)) (bZ (aI fb aq))) (ia rfl (own:=[("count",2)]) oN.nd (dI (pv 1)) (cR (by kernel_rfl)) (λ_ _ _ _ _=>(bU (i:=2) oN.nd rfl fz)) (λ_ _ _ _ _=>eQ) (λ_ _ _ _ _=>(sd mz (by rfl) T.b.Lv Er (aI (pv 2) aq)))))))) ?_;refine⟨⟨_,rfl⟩,ag rfl (bt a _ rfl (.inr ha) (λp hp=>?_))⟩;refine⟨by show 1<=aA;decide,λq hq=>gB p q _ _ rfl rfl (aD hq _ _ ai) ai ?_ (λz hz=>?_)⟩
  ·rw[eG];show ls.length+1<=aA;exact cX (dG (by omega))
  have s1:aT H (upd (upd (upd H p (.lst (eU ls))) q (.lst [V.str (aS ":")])) z (.lst (eU ls++[V.str (aS ":")]))):=((aD hp).trans (aD hq)).trans (aD hz);have Ox:(upd (upd (upd H p (.lst (eU ls))) q (.lst [V.str (aS ":")])) z (.lst (eU ls++[V.str (aS ":")]))) z=some (.lst (eU ls++[V.str (aS ":")])):=ai;generalize upd (upd (upd H p (.lst (eU ls))) q (.lst [V.str (aS ":")])) z (.lst (eU ls++[V.str (aS ":")]))=G at s1 Ox⊢;refine fC ?_;refine ag rfl (bP b rfl ⟨_,bG.of (s1 _ _ hb)⟩ ?_);refine j5 (l:=ns) (enc:=λ(x:Nat)=>.int (x:Int)) (f:=λx=>.str (sN (digits x))) (bG.of (s1 _ _ hb)) (ao hn (by decide)) (λi x H' R hx k' hR=>?_) (λD H' hD hs he=>?_)
  ·refine⟨rfl,ag rfl (bP _ rfl (sI (hnx x (aN hx))) ?_)⟩;show R (.str (aS (mr ((x:Nat):Int)))) H';rw[AE];exact hR H' (aT.refl _)
  ·have e:(eU ls++[V.str (aS ":")])++ns.map (λx=>V.str (sN (digits x)))=((ls++[text ":"]++ns.map digits).map sN).map V.str:=by simp only[bw,aQ,JO,Vp];rfl
   refine gB z D _ _ rfl rfl (hs _ _ Ox) he ?_ (λy hy=>?_)
   ·rw[aP,eG,aa];show ls.length+1+ns.length<=aA;exact cX (dG (by omega))
   ·rw[e];refine iD _ y _ rfl rfl (.inl (bG.of ai)) (pH (B:=20) (N:=40) ?_ ?_ (by decide+kernel)) ?_
    ·intro x hx;rcases aE.mp hx with h|h
     ·rcases aE.mp h with h|h
      ·exact hlx x h
      ·have:x=text ":":=by simpa using h
       rw[this];decide
     ·obtain⟨v,hv,rfl⟩:=au.mp h;exact ao (jG (k:=7) (by decide) (by have:=hnx v hv;omega)) (by decide)
    ·rw[aP,aP,aa];show ls.length+1+ns.length<=40;omega
    ·rw[rh];exact k _ ((s1.trans hs).trans (aD hy))
theorem jO{c:bA}(ok:P9 c):(dB c).length<=40/\∀x∈dB c,x.length<=200:=by
 have hn:=gy ok.nm;have h4:=qH ok;have hc:(spaced (text "costs"::c.costs.map digits)).length<=200:=by
  refine ao (i6 (B:=10) _ λx hx=>?_) ?_
  ·rcases aB.mp hx with z|z
   ·rw[z];decide
   ·obtain⟨y,hy,rfl⟩:=au.mp z;exact ao (jG (k:=7) (by decide) (by have:=ok.cb y hy;omega)) (by decide)
  ·rw[aW,aa,ok.cl];omega
 unfold dB;have kd:=ok.kd
 cases ek:c.kind with
 |numbers st=>
  rw[ek] at kd;refine⟨by simp,λx hx=>?_⟩;rcases aE.mp hx with h|h
  ·have:x=spaced (text "numbers"::c.name::st.map digits):=by simpa using h
   rw[this];refine ao (i6 (B:=10) _ λx hx=>?_) ?_
   ·rcases aB.mp hx with z|z
    ·rw[z];decide
    ·rcases aB.mp z with z|z
     ·rw[z];exact hn
     ·obtain⟨y,hy,rfl⟩:=au.mp z;exact ao (jG (k:=7) (by decide) (by have:=(kd.2 y hy).2;omega)) (by decide)
   ·rw[aW,aW,aa];have:=kd.1;omega
  ·have:x=spaced (text "costs"::c.costs.map digits):=by simpa using h
   rw[this];exact hc
 |words up=>
  rw[ek] at kd;have QD:mE up:=kd;have hu:up.length<=30:=QD.le;refine⟨by simp;omega,λx hx=>?_⟩;rcases aE.mp hx with h|h
  ·rcases aB.mp h with z|z
   ·rw[z];refine ao (i6 (B:=10) _ λx hx=>?_) (show 2*11<=200 by decide);rcases aB.mp hx with z|z
    ·rw[z];decide
    ·have:x=c.name:=by simpa using z
     rw[this];exact hn
   ·obtain⟨y,hy,rfl⟩:=au.mp z;have hy1:=gy (QD.nm y hy)
    cases e2:y.2 with
    |none=>
     refine ao (i6 (B:=10) _ λx hx=>?_) (show 2*11<=200 by decide);rcases aB.mp hx with z|z
     ·rw[z];decide
     ·have:x=y.1:=by simpa using z
      rw[this];exact hy1
    |some v=>
     have hv:v.length<=10:=by obtain⟨u,hu2,e⟩:=au.mp (QD.cl y hy v e2);rw[<-e];exact gy (QD.nm u hu2)
     refine ao (i6 (B:=10) _ λx hx=>?_) (show 4*11<=200 by decide);simp only[aB,fj,or_false] at hx;rcases hx with rfl|rfl|rfl|rfl
     ·decide
     ·exact hy1
     ·decide
     ·exact hv
  ·have:x=spaced (text "costs"::c.costs.map digits):=by simpa using h
   rw[this];exact hc
theorem qk(c:bA):dB c=(match c.kind with
  |.numbers s=>[spaced (text "numbers"::c.name::s.map digits)]
  |.words up=>spaced [text "words",c.name]::up.map rj)++[spaced (text "costs"::c.costs.map digits)]:=by
 unfold dB
 cases c.kind with
 |numbers s=>rfl
 |words up=>rfl
theorem ql{α β:Type}{f:α->List β}{B:Nat}:∀l:List α,(∀x∈l,(f x).length<=B)->(l.flatMap f).length<=l.length*B
 |[],_=>by simp
 |a::l,h=>by have ih:=ql l λx hx=>h x (.tail _ hx);have:=h a (.head _);rw[ie,aP,aW,Sv];omega
def J4(A:Cl):Sp:=λvs H Q _=>∃(a:af)(fm:d8),vs=[.ref a]/\gW A H a fm/\iN fm/\∀H',aT H H'->Q (.str (sN (rR fm))) H'
theorem J5(T:Txt K mg A):Def P w K mg base "form_text" 2 ["form"] (J4 A):=by
 refine T.Qi.RJ.g8 mP (λf _ A' _ s H vs Q E hr=>ke ?_)
 ·rintro a fm rfl F0 ok k;refine ip ?_ (id F0);rintro Qx lc lv as SF hf2 hf3 hf4;have hlen:=Paired.len hf3;have SE:=ok.len;have bnd:∀i,(((fm.columns.take i).flatMap dB).length<=200)/\∀x∈(fm.columns.take i).flatMap dB,x.length<=200:=λi=>by
   constructor
   ·have h1:=ql (f:=dB) (B:=40) (fm.columns.take i) (λc hc=>(jO (ok.cols c (lG hc))).1);rw[cQ] at h1;have:min i fm.columns.length*40<=4*40:=eD _ (by omega);omega
   ·intro x hx;obtain⟨c,hc,hm⟩:=jP.mp hx;exact(jO (ok.cols c (lG hc))).2 x hm
  refine ag (ax (cg (i:=1) mP.nd rfl fz (bZ aq)) (ax (lU dE rfl (dI (bo (pv 0) rfl)) (bU (i:=2) mP.nd rfl fz) (ax (iR (oS bT mY mZ xi (pv 1) (aI (PE.or (dv (pv 2) T.num.cl (wK T) hr.mono) (dv (pv 2) T.fL.cl (wL T) hr.mono)) aq))) (aG (iR (oS bT cV cW jl (pv 1) (aI (Ep fb (fo jU (bZ (aI fb aq)) (ia rfl (own:=[("cost",3)]) mP.nd (dI (bo (pv 2) rfl)) (cR (by kernel_rfl)) (λ_ _ _ _ _=>(bU (i:=3) mP.nd rfl fz)) (λ_ _ _ _ _=>eQ) (λ_ _ _ _ _=>(sd mz (by rfl) T.b.Lv Er (aI (pv 3) aq)))))) aq)))))) (ax (iR (oS bT cV cW jl (pv 1) (aI (Ep fb (fo jU (bZ (aI fb (aI (bo (pv 0) rfl) aq))) (bo (pv 0) rfl))) aq))) (aG (aY (bF (MF T) hr.mono rfl (aI (pv 1) aq))))))) ?_;refine ba ?_;refine⟨bE _,λL hL=>?_⟩;refine ck ?_;refine ba ?_;have s0:aT H (upd H L (.lst [])):=aD hL;refine fI (s0 _ _ SF) T.iw.cl T.iw.fk fX (bP lc rfl ⟨_,bG.of (s0 _ _ hf2)⟩ (my (K:=K) (a:=lc) (xs:=iZ as) (λi σ H'=>(∃v2 v3:Option V,σ=[some (.ref a),some (.ref L),v2,v3])/\aT H H'/\H' L=some (.lst (eU ((fm.columns.take i).flatMap dB)))) ⟨qr _ _ rfl,s0,ai⟩ (λi σ H' _ p=>bG.of (p.2.1 _ _ hf2)) ?_ ?_))
  ·rintro i xv σ H' hi ⟨⟨v2,v3,rfl⟩,s1,zy⟩;obtain⟨ca,hca,rfl⟩:=kM hi;obtain⟨c,hc,S6⟩:=Paired.wI hf3 hca;have Gm:=ok.cols c (aN hc);have et:fm.columns.take (i+1)=fm.columns.take i++[c]:=by rw[dz,hc];rfl
   have hbi:=bnd i;have vk:=jO Gm;obtain⟨ol,W8⟩:∃ol:List aH,dB c=ol++[spaced (text "costs"::c.costs.map digits)]:=⟨_,qk c⟩;have alO:ol.length<=40:=by have:=vk.1;rw[W8,aP] at this;simp at this;omega
   obtain⟨C,dxc,fs,g1,hC,g3⟩:∃C dxc fs,H' ca=some (.ins C dxc fs)/\(z7 K C/\dC K C "costs")/\∃m,fs.lookup ("costs":Str)=some (.ref m)/\H' m=some (.lst (gZ c.costs)):=by
    rcases xB c with⟨st,ek⟩|⟨up,ek⟩
    ·refine jT ?_ ((S6.mono s1).num ek);rintro dx l m g1 g2 g3;exact jK _ dx _ g1 ⟨T.num.cl,T.num.pd⟩ (bq m qV g3)
    ·refine ip ?_ ((S6.mono s1).fL ek);rintro dx l m DI g1 g2 g3 g4;exact jK _ dx _ g1 ⟨T.fL.cl,T.fL.pd⟩ (bq m qW g4)
   obtain⟨m,g4,g5⟩:=g3;refine ba ?_;refine bP _ rfl (.inl ⟨rfl,_,bG.of zy⟩) ?_;have Xr:∀(Q':VK),(∀D H2,H' D=none->aT H' H2->H2 D=some (.lst (eU ol))->Q' (.ref D) H2)->
     vy A.num "opening_lines" (ow A) [] E0 (rz 2) vx [some (.ref a),some (.ref L),some (.ref ca),v3] H' Q'∨vy A.fL "opening_lines" (ox A) [] E0 (rz 2) vx [some (.ref a),some (.ref L),some (.ref ca),v3] H' Q':=λQ' hQ=>by
    rcases xB c with⟨st,ek⟩|⟨up,ek⟩
    ·have hn:=(S6.mono s1).num ek;refine jT ?_ (id hn);rintro dx l m q1 q2 q3;have kd:=Gm.kd;rw[ek] at kd;have e0:ol=[spaced (text "numbers"::c.name::st.map digits)]:=by rw[qk,ek] at W8;exact(Pf W8).symm
     rw[e0] at hQ;exact .inl (mI q1 tU (gB ca c.name st c.costs rfl hn kd.2 kd.1 (gy Gm.nm) hQ))
    ·have hw:=(S6.mono s1).fL ek;refine ip ?_ (id hw);rintro dx l m DI q1 q2 q3 q4;have kd:=Gm.kd;rw[ek] at kd;have e0:ol=spaced [text "words",c.name]::up.map rj:=by rw[qk,ek] at W8;exact(Pf W8).symm
     rw[e0] at hQ;exact .inr (mI q1 tV (iE ca c.name up c.costs rfl hw kd (gy Gm.nm) hQ))
   refine Xr _ λD H2 hD s2 e2=>?_;have hL2:=s2 _ _ zy;have hDL:D≠L:=(aR zy hD).symm;have caL:ca≠L:=gH g1 zy (λz=>nomatch z);have mL:m≠L:=λz=>by
    have h0:H m=none:=by rw[z];exact hL
    rcases xB c with⟨st,ek⟩|⟨up,ek⟩
    ·refine jT ?_ (S6.num ek);rintro dx l m' q1 q2 q3;have q1':=s1 _ _ q1;rw[g1] at q1';cases q1';rw[qV] at g4;cases g4;rw[h0] at q3;cases q3
    ·refine ip ?_ (S6.fL ek);rintro dx l m' DI q1 q2 q3 q4;have q1':=s1 _ _ q1;rw[g1] at q1';cases q1';rw[qW] at g4;cases g4;rw[h0] at q4;cases q4
   refine gB L D _ _ rfl rfl hL2 e2 ?_ ?_
   ·rw[eG,eG];exact cX (dG (by omega))
   ·
    have hLu:(upd H2 L (.lst (eU ((fm.columns.take i).flatMap dB)++eU ol))) L=some (.lst (eU ((fm.columns.take i).flatMap dB++ol))):=by rw[ai];unfold eU;rw[bw]
    have hcu:(upd H2 L (.lst (eU ((fm.columns.take i).flatMap dB)++eU ol))) ca=some (.ins C dxc fs):=by rw[ay caL];exact s2 _ _ g1
    have hmu:(upd H2 L (.lst (eU ((fm.columns.take i).flatMap dB)++eU ol))) m=some (.lst (gZ c.costs)):=by rw[ay mL];exact s2 _ _ g5
    have su:aT H (upd H2 L (.lst (eU ((fm.columns.take i).flatMap dB)++eU ol))):=mV (s1.trans s2) hL;generalize upd H2 L (.lst (eU ((fm.columns.take i).flatMap dB)++eU ol))=G at hLu hcu hmu su⊢;refine iL _ rfl (.inl ⟨rfl,_,bG.of hLu⟩) ⟨_,rfl⟩ ⟨by show 1<=aA;decide,λp hp=>?_⟩;have Yp:aT G (upd G p (.lst [.str (aS "costs")])):=aD hp;refine fC ?_;refine ag rfl (o6 ca C dxc fs _ ⟨rfl,Yp _ _ hcu,hC.1,hC.2,g4,bP m rfl ⟨_,bG.of (Yp _ _ hmu)⟩ ?_⟩);have ahf:c.costs.length<=4:=by rw[Gm.cl];exact qH Gm
    refine j5 (l:=c.costs) (enc:=λ(x:Nat)=>.int (x:Int)) (f:=λx=>.str (sN (digits x))) (bG.of (Yp _ _ hmu)) (ao ahf (by decide)) (λi x H' R hx k' hR=>?_) (λD2 H3 CF s3 e3=>?_)
    ·refine⟨rfl,ag rfl (bP _ rfl (sI (by have:=Gm.cb x (aN hx);omega)) ?_)⟩;show R (.str (aS (mr ((x:Nat):Int)))) H';rw[AE];exact hR H' (aT.refl _)
    ·have e:[V.str (aS "costs")]++c.costs.map (λx=>V.str (sN (digits x)))=((text "costs"::c.costs.map digits).map sN).map V.str:=by rw[Fy];simp only[br,aQ];rfl
     refine gB p D2 _ _ rfl rfl (s3 _ _ ai) e3 ?_ (λy hy=>?_)
     ·rw[aa];show 1+c.costs.length<=aA;exact cX (dG (by omega))
     ·rw[e];refine iD _ y _ rfl rfl (.inl (bG.of ai)) (pH (B:=10) (N:=10) ?_ ?_ (by decide+kernel)) ?_
      ·intro x hx;rcases aB.mp hx with z|z
       ·rw[z];decide
       ·obtain⟨v,hv,rfl⟩:=au.mp z;exact ao (jG (k:=7) (by decide) (by have:=Gm.cb v hv;omega)) (by decide)
      ·rw[aW,aa];omega
      ·rw[rh];have sy:=Yp.trans (s3.trans (aD (o:=.lst (((text "costs"::c.costs.map digits).map sN).map V.str)) hy));refine iD L _ _ rfl rfl (sy _ _ hLu) ?_ ⟨qr _ _ rfl,mV (su.trans sy) hL,?_⟩
       ·rw[eG,aP];exact dG (by omega)
       ·rw[ai,et,gw];refine congrArg (λz=>some (HO.lst z)) ?_;show eU _++[V.str _]=_;rw[show([c].flatMap dB)=dB c by simp,W8];unfold eU;simp only[bw,br,F9,dw]
  ·rintro σ H' ⟨⟨v2,v3,rfl⟩,s1,zy⟩;rw[bK (by rw[cu];omega)] at zy;have hba:=bnd fm.columns.length;rw[bK (aK _)] at hba;have hvx:∀x∈fm.values,x.length<=10:=λx hx=>gy (cj.mp ok.vn x hx);have adP:=ok.v12;refine iL _ rfl (.inl ⟨rfl,_,bG.of zy⟩) ⟨_,rfl⟩ (fI (s1 _ _ SF) T.iw.cl T.iw.gE Ay ⟨by show 2<=aA;decide,λp hp=>?_⟩);have Yp:aT H' (upd H' p (.lst [.str (aS "secret"),.str (sN fm.secret)])):=aD hp;refine fI (Yp _ _ (s1 _ _ SF)) T.iw.cl T.iw.eh gg (gB p lv _ _ rfl rfl ai (Yp _ _ (s1 _ _ hf4)) ?_ (λy hy=>?_))
   ·rw[eG];show 2+fm.values.length<=aA;exact cX (dG (by omega))
   ·have e:[V.str (aS "secret"),V.str (sN fm.secret)]++eU fm.values=((text "secret"::fm.secret::fm.values).map sN).map V.str:=by rw[BZ,JO];rfl
    rw[e];have DJ:∀x∈text "secret"::fm.secret::fm.values,x.length<=10:=λx hx=>by
     rcases aB.mp hx with z|z
     ·rw[z];decide
     ·rcases aB.mp z with z|z
      ·rw[z];exact gy ok.sec
      ·exact hvx x z
    refine iD _ y _ rfl rfl (.inl (bG.of ai)) (pH (B:=10) (N:=20) DJ ?_ (by decide+kernel)) ?_
    ·rw[aW,aW];omega
    ·rw[rh];have sy:=Yp.trans (aD (o:=.lst (((text "secret"::fm.secret::fm.values).map sN).map V.str)) hy);refine iD L _ _ rfl rfl (sy _ _ zy) (by rw[eG];exact dG (by omega)) ?_;refine ag rfl (dH L (fm.columns.flatMap dB++[spaced (text "secret"::fm.secret::fm.values)]) rfl (bG.of ?_) (λx hx=>?_) ⟨?_,λH5 s5=>k H5 (aT.trans (mV (s1.trans sy) hL) s5)⟩)
     ·rw[ai];unfold eU;rw[bw];rfl
     ·rcases aE.mp hx with h|h
      ·exact ao (hba.2 x h) (by decide)
      ·have:x=spaced (text "secret"::fm.secret::fm.values):=by simpa using h
       rw[this];refine ao (i6 (B:=10) _ DJ) ?_;rw[aW,aW];omega
     ·rw[aP];have:=hba.1;show _+1<=5000;omega
end
section
open Vbslai (text digits spaced above)
theorem R9{sp:Sp}{te:TE}{E:XK}{σ:L2.St}{H:Hp}{Q:VK}(h:te σ H λx H1=>sp [x] H1 Q E):Tp sp [] E (rV te vx) σ H Q:=h
theorem MG{up:Up}(ok:mE up):∀(f:Nat)(x:aH),∀y∈above up f x,y∈up.map (·.1)
 |0,x,y,h=>by simp[above] at h
 |f+1,x,y,h=>by
  unfold above at h;split at h
  ·rename_i a v e;have hm:=jd e;rcases aB.mp h with q|q
   ·rw[q];exact ok.cl _ hm v rfl
   ·exact MG ok f v y q
  ·simp at h
theorem Sa{c:bA}(ok:P9 c){lv v:Nat}(hv:Um c.kind v):(kF c.kind lv v).length<=10:=by
 have kd:=ok.kd;unfold kF
 cases ek:c.kind with
 |numbers st=>
  rw[ek] at hv;have vw:v<=1000000:=hv;dsimp only;split
  ·decide
  ·split
   ·exact ao (jG (k:=7) (by decide) (by omega)) (by decide)
   ·have:v/st.getD (lv-1) 1*st.getD (lv-1) 1<=v:=Wg _ _;exact ao (jG (k:=7) (by decide) (by omega)) (by decide)
 |words up=>
  rw[ek] at kd;have QD:mE up:=kd;dsimp only;split
  ·decide
  ·split
   ·decide
   ·rename_i x e;have hx:=aN e;have key:∀y∈x.1::above up ka x.1,y.length<=10:=λy hy=>by
     have hm:y∈up.map (·.1):=by
      rcases aB.mp hy with q|q
      ·rw[q];exact au.mpr (bq x hx rfl)
      ·exact MG QD _ _ y q
     obtain⟨z,hz,e⟩:=au.mp hm;rw[<-e];exact gy (QD.nm z hz)
    rw[cx]
    cases e2:(x.1::above up ka x.1)[min lv (above up ka x.1).length]? with
    |none=>decide
    |some y=>exact key y (aN e2)
theorem DL{fm:d8}(ok:iN fm){ls:List Nat}{r:gi}(hc:zc fm.columns r.cells):∀x∈aF fm.columns ls r,x.length<=10:=λx hx=>by
 unfold aF at hx;obtain⟨y,hy,rfl⟩:=au.mp hx;obtain⟨i,hi,e⟩:=jI hy;have h1:((fm.columns.zip ls).zip r.cells)[i]? =some y:=by rw[aw hi,e]
 obtain⟨h2,h3⟩:=de.mp h1;obtain⟨h4,h5⟩:=de.mp h2;exact Sa (ok.cols _ (aN h4)) (hc.2 i _ _ h4 h3)
def Di(A:Cl):Sp:=λvs H Q _=>∃(a b c:af)(fm:d8)(l:List PR)(z:Rl)(q:fV),vs=[.ref a,.ref b,.ref c]/\gW A H a fm/\iN fm/\H b=some (.lst (qh l))/\gA A fm.columns H l/\nB A H c z/\y9 fm.columns (l.map (·.2)) z q/\lL fm.columns z.levels/\
 ∀H',aT H H'->Q (.str (sN (i8 fm q (l.map (·.2))))) H'
theorem Dj(T:Txt K mg A):Def P w K mg base "release_text" 5 ["form","rows","release"] (Di A):=by
 refine T.Qi.Jm.g8 gS (λf _ A' _ s H vs Q E hr=>nK ?_)
 ·rintro a b c fm l z q ⟨rfl,F0,ok,hb,hl,Z0,Nf,Fo,k⟩;refine ip ?_ (id F0);rintro Qx lc lv as SF hf2 hf3 hf4;refine jT ?_ (id Z0);rintro U9 ll ld z1 z2 z3;have hu:=ur hr;have adP:=ok.v12;refine ag (ax (cg (i:=3) gS.nd rfl fz (bF (yE T) hr.mono rfl (aI (pv 0) (aI (ia rfl (own:=[("row",5)]) gS.nd (dI (pv 1)) (cR (by kernel_rfl)) (λ_ _ _ _ _=>(bU (i:=5) gS.nd rfl fz)) (λ_ _ _ _ _=>(tq (fY (cp (pv 2) T.rel.cl (uf T) hr.mono (aI (pv 5) aq))))) (λ_ _ _ _ _=>(pv 5))) (aI (bo (pv 2) rfl) aq))))) (ax (cg (i:=4) gS.nd rfl fz (cJ bx (by rfl) T.b.dS cP (aI (bo (pv 0) rfl) aq))) (aG (aY (bF (MF T) hr.mono rfl (aI (ia rfl (own:=[("looks",6)]) gS.nd (dI (cJ (ON rfl) (by rfl) T.b.UI RB (aI (pv 3) aq))) (cR (by kernel_rfl)) (λ_ _ _ _ _=>(bU (i:=6) gS.nd rfl fz)) (λ_ _ _ _ _=>eQ) (λ_ _ _ _ _=>(bF (Dh T) hr.mono rfl (aI (pv 6) (aI (bF (sP T) hr.mono rfl (aI (tu hu (pv 3) (pv 6) (λ_ _=>rfl)) (aI (pv 4) aq))) aq))))) aq)))))) ?_;refine ba ?_;refine ag rfl ?_;refine fC ?_;refine ag rfl (bP b rfl ⟨_,bG.of hb⟩ ?_);refine l4 (enc:=λp:PR=>V.ref p.1) (f:=λp=>V.ref p.1) (p:=λx=>(z.lk.lookup x.2.who).isSome) (bG.of hb) (ao hl.len (by decide)) (λi x H' R S hi k' hR hS=>?_) (λD H1 hD s1 e1=>?_)
  ·refine⟨rfl,mI (k' _ _ z1) pf (ag rfl (oJ c x.1 z x.2 rfl (Z0.mono k') ((hl.at' x (aN hi)).mono k') (ag rfl (Es (λe=>ag rfl (hR e _ (aT.refl _))) (λe=>hS e _ (aT.refl _))))))⟩
  ·obtain⟨l',S2⟩:∃l':List PR,l'=l.filter λx=>(z.lk.lookup x.2.who).isSome:=⟨_,rfl⟩;have Yi:H1 D=some (.lst (qh l')):=by rw[e1,S2]
   have Qz:gA A fm.columns H1 l':=by rw[S2];exact(hl.mono s1).sub fw
   refine fI (s1 _ _ z1) T.rel.cl T.rel.p5 kI (jb a D ll fm l' z.levels ⟨rfl,F0.mono s1,ok,Yi,Qz,bG.of (s1 _ _ z2),Fo,λC H2 ps hC ci=>?_⟩);refine ck ?_;refine ba ?_;have zO:aT H H2:=s1.trans ci.same;refine fI (zO _ _ SF) T.iw.cl T.iw.eh gg (bt lv _ rfl (.inl (bG.of (zO _ _ hf4))) ?_);refine ck ?_;refine jh ?_;have IF:∀r∈ps,∃p∈l',aF fm.columns z.levels p.2=r.1:=λr hr=>by
    have:r.1∈dd (l'.map λp=>aF fm.columns z.levels p.2):=by rw[<-ci.keys];exact au.mpr (bq r hr rfl)
    rw[Ef] at this;obtain⟨p,hp,e⟩:=au.mp this;exact bq p hp e
   have alR:0<fm.columns.length:=Ca.mpr ok.ne;refine R9 ?_;refine fC ?_;refine ag rfl (iD C (ps.map λp=>(p.1.map AH,V.ref p.2.1)) (ps.map (·.1)) rfl ci.dict (by rw[aQ,aQ];rfl) (by rw[ci.keys];exact ci.kn) ⟨λx hx=>?_,λL p Im Qw hLt hp=>?_⟩)
   ·obtain⟨r,hr,rfl⟩:=au.mp hx;obtain⟨p,hp,e⟩:=IF r hr;rw[<-e];intro z0;have h1:=mH (cs:=fm.columns) (ls:=z.levels) (r:=p.2) Fo.1 (Qz.cells p hp).1;rw[z0] at h1;simp at h1;omega
   ·have s2:aT H2 (upd H2 p (.lst (L.map λy=>.ref y.2))):=aD hp;refine bP p rfl ⟨_,bG.of ai⟩ ?_;have adQ:L.length<=40:=by
     have h1:=Im.length_eq;rw[aa,aa] at h1;have h2:ps.length=(dd (l'.map λp=>aF fm.columns z.levels p.2)).length:=by rw[<-ci.keys,aa]
     have h3:=Ue (l'.map λp=>aF fm.columns z.levels p.2);rw[aa] at h3;have:=Qz.len;omega
    refine j5 (l:=L) (enc:=λy:List aH×af=>V.ref y.2) (f:=λy=>.str (sN (spaced (y.1++[text ":"]++(kG fm.values.length ((l'.filter λx=>aF fm.columns z.levels x.2==y.1).map (·.2))).map digits)))) (bG.of ai) (ao adQ (by decide)) (λi y H' R hi k' hR=>?_) (λD2 H3 CF s3 e3=>?_)
    ·have hy:=aN hi;have hyk:y.1∈ps.map (·.1):=Im.mem_iff.mp (au.mpr (bq y hy rfl));obtain⟨r,hr,er⟩:=au.mp hyk;obtain⟨p0,SK,ep0⟩:=IF r hr;have Dk:=s2.trans k';have hyt:H' y.2=some (.tup (eU y.1)):=Dk _ _ (hLt y hy);have hrr:r.2.2=l'.filter λx=>aF fm.columns z.levels x.2==y.1:=by rw[ci.rows r hr,er]
     have hRr:gA A fm.columns H1 r.2.2:=by rw[hrr];exact Qz.sub fw
     have hg:jL H' C (.ref y.2) (some (.ref r.2.1)):=by rw[<-Fq (q:=r) (by rw[ci.keys];exact ci.kn) hr er];exact jL.t (Dk _ _ ci.dict) (by rw[hyt,Me])
     refine⟨rfl,ag rfl (ag rfl (ag rfl (bt C _ rfl hg (ag rfl (gB r.2.1 (r.2.2.map (·.1)) (r.2.2.map (·.2)) fm.values.length ?_ ?_ (wJ.mono (ci.same.trans Dk) hRr.rows) ?_ (by omega) (λD4 H4 hD4 s4 e4=>?_))))))⟩
     ·rw[eG];rfl
     ·rw[<-xw];exact Dk _ _ (ci.lst r hr)
     ·rw[aa];exact ao hRr.len (by decide)
     ·refine gB y.2 D4 y.1 (kG fm.values.length (r.2.2.map (·.2))) rfl (nY.of (s4 _ _ hyt)) e4 ?_ (λx hx=>?_) ⟨?_,λx hx=>?_,λH5 s5=>?_⟩
      ·rw[<-er,<-ep0,mH Fo.1 (Qz.cells p0 SK).1];have:=ok.len;omega
      ·rw[<-er,<-ep0] at hx;exact ao (DL ok (Qz.cells p0 SK) x hx) (by decide)
      ·unfold kG;rw[aa,d4];omega
      ·unfold kG at hx;obtain⟨v,_,rfl⟩:=au.mp hx;have h1:=dW (λr:gi=>r.secret==v) (r.2.2.map (·.2));rw[aa] at h1;have:=hRr.len;exact ao h1 (by omega)
      ·rw[hrr];exact hR _ (s4.trans s5)
    ·refine dH D2 (L.map λy=>spaced (y.1++[text ":"]++(kG fm.values.length ((l'.filter λx=>aF fm.columns z.levels x.2==y.1).map (·.2))).map digits)) rfl (bG.of (by rw[e3];unfold eU;rw[aQ];rfl)) (λx hx=>?_) ⟨by rw[aa];omega,λH4 s4=>?_⟩
     ·obtain⟨y,hy,rfl⟩:=au.mp hx;have hyk:y.1∈ps.map (·.1):=Im.mem_iff.mp (au.mpr (bq y hy rfl));obtain⟨r,hr,er⟩:=au.mp hyk;obtain⟨p0,SK,ep0⟩:=IF r hr;have V2:y.1.length<=4:=by rw[<-er,<-ep0,mH Fo.1 (Qz.cells p0 SK).1];exact ok.len
      refine ao (i6 (B:=10) _ λx hx=>?_) ?_
      ·rcases aE.mp hx with h|h
       ·rcases aE.mp h with h|h
        ·rw[<-er,<-ep0] at h;exact DL ok (Qz.cells p0 SK) x h
        ·have:x=text ":":=by simpa using h
         rw[this];decide
       ·obtain⟨v,hv,rfl⟩:=au.mp h;unfold kG at hv;obtain⟨u,_,rfl⟩:=au.mp hv;have h1:=dW (λr:gi=>r.secret==u) ((l'.filter λx=>aF fm.columns z.levels x.2==y.1).map (·.2));have h2:=dW (λx:PR=>aF fm.columns z.levels x.2==y.1) l';rw[aa] at h1;have:=Qz.len;exact ao (jG (k:=7) (by decide) (b0 h1 (by omega))) (by decide)
      ·rw[aP,aP,aa];unfold kG;rw[aa,d4];show(y.1.length+1+fm.values.length)*11<=1000;have:y.1.length+1+fm.values.length<=17:=by omega
       omega
     ·have OX:l'.map (·.2)=(l.map (·.2)).filter λr=>q.has.contains r.who:=by rw[S2,iy (λr:gi=>(z.lk.lookup r.who).isSome)];refine ic λr _=>?_;exact Nf.isSome r.who
      have YS:Hr fm.columns q (l.map (·.2))=L.map (·.1):=by
       refine NT fm.columns q (l.map (·.2)) Qw λy=>?_;rw[Im.mem_iff,ci.keys,Ef,au];constructor
       ·rintro⟨p,hp,e⟩;have hm:p.2∈l'.map (·.2):=au.mpr (bq p hp rfl);rw[OX,bH] at hm;exact bP p.2 hm.1 hm.2 (by rw[<-Nf.lv];exact e)
       ·rintro⟨r,hr,hh,e⟩;have hm:r∈l'.map (·.2):=by rw[OX,bH];exact⟨hr,hh⟩
        obtain⟨p,hp,rfl⟩:=au.mp hm;exact bq p hp (by rw[Nf.lv];exact e)
      have:=k H4 ((zO.trans s2).trans (s3.trans s4));have e:i8 fm q (l.map (·.2))=(L.map λy=>spaced (y.1++[text ":"]++(kG fm.values.length ((l'.filter λx=>aF fm.columns z.levels x.2==y.1).map (·.2))).map digits)).flatMap λl=>l++[10]:=by unfold i8;rw[YS,Hq,Hq];congr 1;funext y;congr 3;congr 1;congr 1;rw[iy (λr:gi=>aF fm.columns z.levels r==y.1),OX,Dt,Nf.lv];refine ic λr _=>?_;exact Pp ..
      rw[<-e];exact this
end
end Bp
namespace Bp
open PySem PySem.Spec PyProof.Rows L2
def LtA(A:cy)(s:az)(y x:ak)(b:Bool):Prop:=∀(prog:bp)(w:bQ)(E:ak->az->Prop)(Q:ak->az->Prop),Q (.bool b) s->bj (model prog w) A (QQ .Lt y x) Q E s
theorem LtA.int(A:cy)(s:az)(a c:Int)(t u:Tok):LtA A s (.int a t) (.int c u) (decide (a<c)):=λprog w E Q h=>HT.KI A s a t c u prog w E Q h
def tlx(e lt:Nat->Bool)(d:Bool):List Nat->Bool
 |[]=>d
 |j::r=>if e j=true then tlx e lt d r else lt j
section
open PySem.SeqAt
open PySem.MeetsSeq PySem.MeetsSeq2 PySem.MeetsSeq3
theorem Vq(l b:af)(items dX:Array ak)(n n2:Nat)(dd Yq:Option af)(sl V9:Array (Option ak))(ns ms:List Int)(hi:Wc items.toList ns)(hj:Wc dX.toList ms)(hsz:items.size=dX.size)(k:Nat):
  ∀i:Nat,items.size-i=k->aez (Builtin.«list.__eq__.loop» ⟨[.ref l,.ref b,eW i,eW 0],[]⟩)
   (λ_ R s=>s.heap.get? l=some {cls:=.type "list",dict:=dd,data:=.seq items n,slots:=sl}/\s.heap.get? b=some {cls:=.type "list",dict:=Yq,data:=.seq dX n2,slots:=V9}/\R (.ok (.ret (.bool (HT.lexLt (ns.drop i) (ms.drop i))))) s):=by
 have z1:items.size=ns.length:=by rw[<-hi.length];simp
 have z2:dX.size=ms.length:=by rw[<-hj.length];simp
 induction k with
 |zero=>
  intro i hk prog w A R s h;obtain⟨hp,g,d,tk,os⟩:=s;obtain⟨hl,hb,h⟩:=h;wp_walk using dF hl,dF hb;have hi1:items[((i:Nat):Int).toNat]? =none:=by simp;omega
  have hi2:dX[((i:Nat):Int).toNat]? =none:=by simp;omega
  rw[fg (by omega),fg (by omega)] at h;rw[hi1,hi2];wp_walk using dF hl,dF hb;show R (.ok (.ret (.bool (decide (items.size<dX.size))))) _;rw[decide_eq_false (by omega)];exact h
 |succ k ih=>
  intro i hk prog w A R s h;obtain⟨hp,g,d,tk,os⟩:=s;obtain⟨hl,hb,h⟩:=h;wp_walk using dF hl,dF hb;have oR:i<items.size:=by omega
  have adT:i<dX.size:=by omega
  have hi1:items[((i:Nat):Int).toNat]? =some items[i]:=by simp[oR]
  have hi2:dX[((i:Nat):Int).toNat]? =some dX[i]:=by simp[adT]
  have hc:((i:Int)+1)=((i+1:Nat):Int):=by push_cast;rfl
  obtain⟨t,ht⟩:=hi.get i ns[i] (aw (by omega));obtain⟨u,hu⟩:=hj.get i ms[i] (aw (by omega));have e1:items[i]=.int ns[i] t:=by
   have:items.toList[i]? =some items[i]:=by simp[oR]
   rw[ht] at this;exact(aX this).symm
  have e2:dX[i]=.int ms[i] u:=by
   have:dX.toList[i]? =some dX[i]:=by simp[adT]
   rw[hu] at this;exact(aX this).symm
  rw[dJ (show i<ns.length by omega),dJ (show i<ms.length by omega),HT.yT] at h;rw[hi1,hi2,e1,e2];obtain⟨e,he,adU⟩:=HT.Tw A.in1 ⟨hp,g,d,tk,os⟩ ns[i] t ms[i] u;refine ae (he prog w _ _ ?_)
  cases e with
  |true=>rw[if_pos (adU.mp rfl)] at h;wp_walk;rw[hc];exact⟨oA plain_eq_loop _,gj entry_eq_loop (by rw[gr plain_eq_loop _];exact ih (i+1) (by omega) prog w A R _ ⟨hl,hb,h⟩)⟩
  |false=>rw[if_neg (λq=>absurd (adU.mpr q) aZ)] at h;wp_walk using dF hl,dF hb;rw[hi1,hi2,e1,e2];have hri:=HT.KI A.in1 ⟨hp,g,d,tk,os⟩ ns[i] t ms[i] u prog w;wp_walk using hri;exact h
theorem Vr(l b:af)(items dX:Array ak)(n n2:Nat)(dd Yq:Option af)(sl V9:Array (Option ak))(ns ms:List Int)(hi:Wc items.toList ns)(hj:Wc dX.toList ms)(hsz:items.size=dX.size):
  aez (Builtin.«list.__lt__» ⟨[.ref l,.ref b],[]⟩)
   (λ_ R s=>s.heap.get? l=some {cls:=.type "list",dict:=dd,data:=.seq items n,slots:=sl}/\s.heap.get? b=some {cls:=.type "list",dict:=Yq,data:=.seq dX n2,slots:=V9}/\R (.ok (.ret (.bool (HT.lexLt ns ms)))) s):=by
 intro prog w A R s h;obtain⟨hp,g,d,tk,os⟩:=s;obtain⟨hl,hb,h⟩:=h;have f3:=AutoSeq1.sub_list_list;wp_walk using dF hl,dF hb;exact⟨oA plain_eq_loop _,gj entry_eq_loop (by rw[gr plain_eq_loop _];exact Vq l b items dX n n2 dd Yq sl V9 ns ms hi hj hsz _ 0 rfl prog w A R _ ⟨hl,hb,by simpa using h⟩)⟩
theorem OY(l b:af)(items dX:Array ak)(n n2:Nat)(dd Yq:Option af)(sl V9:Array (Option ak))(e lt:Nat->Bool):
  aez (Builtin.«tuple.__lt__» ⟨[.ref l,.ref b],[]⟩)
   (λA R s=>s.heap.get? l=some {cls:=.type "tuple",dict:=dd,data:=.seq items n,slots:=sl}/\s.heap.get? b=some {cls:=.type "tuple",dict:=Yq,data:=.seq dX n2,slots:=V9}/\(∀j(h1:j<items.size)(h2:j<dX.size),EqAt A.in1 s items[j] dX[j] (e j))/\(∀j(h1:j<items.size)(h2:j<dX.size),e j=false->LtA A.in1 s items[j] dX[j] (lt j))/\R (.ok (.ret (.bool (tlx e lt (decide (items.size<dX.size)) (b9 (min items.size dX.size)))))) s):=
 .of_wp λprog w A R s h=>by
  obtain⟨hp,g,d,tk,os⟩:=s;obtain⟨hl,hb,he,TV,h⟩:=h;have f2:=AutoSeq1.sub_tuple_tuple;have hZ:(items.toList.zip dX.toList).length=min items.size dX.size:=by simp
  wp_walk using dF hl,dF hb,wpAny_forIn_list _ (λrest b s'=>b.1=none/\s'=⟨hp,g,d,tk,os⟩/\∃i,rest=(items.toList.zip dX.toList).drop i/\R (.ok (.ret (.bool (tlx e lt (decide (items.size<dX.size)) ((b9 (min items.size dX.size)).drop i))))) ⟨hp,g,d,tk,os⟩) _
  case turn=>
   rintro⟨y,x⟩ rest b s' ⟨Dc,rfl,i,hz,hR⟩;have oR:i<(items.toList.zip dX.toList).length:=by
    rcases aip i (items.toList.zip dX.toList).length with h'|h'
    ·exact h'
    ·rw[fg h'] at hz;cases hz
   have hm:i<min items.size dX.size:=hZ▸oR;have h1:i<items.size:=bM hm (abW _ _);have h2:i<dX.size:=bM hm (Nat.min_le_right _ _);rw[dJ oR] at hz;injection hz with hyx AM
   have hy:y=items[i]:=by have:=congrArg Prod.fst hyx;simpa using this
   have hx:x=dX[i]:=by have:=congrArg Prod.snd hyx;simpa using this
   subst hy hx;have hd:(b9 (min items.size dX.size)).drop i=i::(b9 (min items.size dX.size)).drop (i+1):=by simp[dJ,hm]
   rw[hd] at hR;unfold tlx at hR;refine ae (he i h1 h2 prog w _ _ ?_)
   cases hy:e i with
   |true=>rw[if_pos hy] at hR;wp_walk;exact⟨rfl,rfl,bq (i+1) AM hR⟩
   |false=>rw[if_neg (by rw[hy];exact aZ)] at hR;have hri:=TV i h1 h2 hy prog w;wp_walk using hri;exact ag rfl (by simpa using hR)
  case fin=>
   rintro⟨b1,b2⟩ s' ⟨Dc,rfl,i,hz,hR⟩;simp only at Dc;subst Dc;have hdr:(b9 (min items.size dX.size)).drop i=[]:=by
    have h1:(items.toList.zip dX.toList).length<=i:=by
     rcases aip i (items.toList.zip dX.toList).length with h'|h'
     ·rw[dJ h'] at hz;cases hz
     ·exact h'
    rw[hZ] at h1;exact fg (by rw[d4];exact h1)
   rw[hdr] at hR;unfold tlx at hR;wp_walk;exact ag rfl (by simpa[Builtin.Tuple.tupleCompareSizes] using hR)
  case h=>exact⟨rfl,rfl,bq 0 rfl h⟩
end
abbrev Ky:=Int×Int×List Int
def klt(a b:Ky):Bool:=if a.1=b.1 then(if a.2.1=b.2.1 then HT.lexLt a.2.2 b.2.2 else decide (a.2.1<b.2.1)) else decide (a.1<b.1)
theorem AQ:∀l:List Int,HT.lexLt l l=false
 |[]=>rfl
 |a::l=>by rw[HT.yT,if_pos rfl];exact AQ l
theorem MH:∀ns ms:List Int,XI (ns.map iQ) (ms.map iQ)=decide (ns=ms)
 |[],[]=>rfl
 |[],_::_=>rfl
 |_::_,[]=>rfl
 |a::ns,b::ms=>by
  rw[br,br];show(ail (.int a) (.int b)&&XI (ns.map iQ) (ms.map iQ))=_;rw[MH ns ms];have:ail (.int a) (.int b)=(a==b):=by simp[ail]
  rw[this];by_cases h:a=b
  ·subst h;simp
  ·simp[h]
theorem zP{h:cB}:∀{us:List ak}{ns:List Int},Wc us ns->∃as,ReadsAll h us (ns.map iQ) as
 |_,_,.nil=>⟨_,ReadsAll.nil⟩
 |_,_,.cons n t r=>by obtain⟨as,x⟩:=zP r;exact⟨_,ReadsAll.cons (Reads.int n t) x⟩
theorem rk{α:Type}{f:α->af}:∀{L:List α}{us:List ak},Vals (L.map λp=>V.ref (f p)) us->us=L.map λp=>bz (f p)
 |[],us,h=>by cases h;rfl
 |a::L,us,h=>by
  cases h with
  |cons r t=>cases r;rw[rk t];rfl
theorem lay_ints:∀ns:List Int,PyData.canLay0 (.list (ns.map iQ))=true:=λns=>by
 show ajU (ns.map iQ)=true
 induction ns with
 |nil=>rfl
 |cons a l ih=>show(PyData.canLay0 (.int a)&&ajU (l.map iQ))=true;rw[ih];rfl
theorem OZ:∀ns:List Int,PyData.depth (.list (ns.map iQ))=1:=λns=>by
 have:Sq (ns.map iQ)=0:=by
  induction ns with
  |nil=>rfl
  |cons a l ih=>show max (PyData.depth (.int a)) (Sq (l.map iQ))=0;rw[ih];rfl
 show Sq (ns.map iQ)+1=1;rw[this]
def pickK{α:Type}(key:α->Ky)(a:α)(l:List α):α:=l.foldl (λb x=>if klt (key x) (key b)=true then x else b) a
def bestOf{α:Type}(key:α->Ky):List α->Option α
 |[]=>none
 |a::l=>some (pickK key a l)
theorem wV{α:Type}(key:α->Ky)(l:List α)(x:α):bestOf key (l++[x])=some (match bestOf key l with|none=>x|some b=>if klt (key x) (key b)=true then x else b):=by
 cases l with
 |nil=>rfl
 |cons a l=>show some (pickK key a (l++[x]))=_;unfold pickK;rw[ju];rfl
def uU(H0 H:Hp)(t:af)(k:Ky):Prop:=∃l,H t=some (.tup [.int k.1,.int k.2.1,.ref l])/\H0 l=some (.lst (k.2.2.map V.int))
theorem uU.mono{H0 H H':Hp}(e:aT H H'){t:af}{k:Ky}(h:uU H0 H t k):uU H0 H' t k:=let⟨l,a,b⟩:=h;(bq l (e _ _ a) b)
theorem uU.off{H0 H:Hp}{t S:af}{k:Ky}{o:HO}(h:uU H0 H t k)(n:∀xs,H S≠some (.tup xs)):uU H0 (upd H S o) t k:=let⟨l,a,b⟩:=h;(bq l (by rw[ay (λe=>n _ (by rw[<-e];exact a))];exact a) b)
theorem B1{α:Type}(key:α->Ky):∀(a:α)(l:List α),pickK key a l∈a::l
 |a,[]=>.head _
 |a,x::l=>by
  have:=B1 key (if klt (key x) (key a)=true then x else a) l;show pickK key (if klt (key x) (key a)=true then x else a) l∈a::x::l;rcases aB.mp this with e|e
  ·rw[e];split
   ·exact .tail _ (.head _)
   ·exact .head _
  ·exact .tail _ (.tail _ e)
def aaq(H0 H:Hp)(S:af):Option (af×Ky)->Prop
 |none=>H S=some (.lst [])
 |some b=>∃t,H S=some (.lst [.ref b.1,.ref t])/\uU H0 H t b.2
section
variable{X:Cx}{pins:List (af×Obj)}{σ:L2.St}{H H0:Hp}{s:az}
theorem Xs{A:cy}{t1 t2:af}{a b:Ky}(I:Inv X pins σ H s)(s0:aT H0 H)(h1:uU H0 H t1 a)(h2:uU H0 H t2 b)(hl:a.2.2.length=b.2.2.length)(hu:A.units+10<mv):LtA A s (.ref t1) (.ref t2) (klt a b):=by
 obtain⟨l1,k1,g1⟩:=h1;obtain⟨l2,k2,g2⟩:=h2;obtain⟨_,it1,rv1,o1,e1,c1,n1,d1⟩:=I.dQ t1 _ k1;obtain⟨_,it2,NP,o2,e2,c2,n2,d2⟩:=I.dQ t2 _ k2;obtain⟨_,js1,m1,rw1,f1⟩:=I.dQ l1 _ (s0 _ _ g1);obtain⟨_,js2,m2,rw2,f2⟩:=I.dQ l2 _ (s0 _ _ g2);obtain⟨cls,dd,data,sl⟩:=o1;obtain⟨alW,Yq,data2,V9⟩:=o2;simp only at c1 d1 c2 d2;subst c1 d1 c2 d2
 cases rv1 with
 |cons r1 q1=>cases q1 with
  |cons r2 q2=>cases q2 with
   |cons r3 q3=>
    cases q3
    cases NP with
    |cons r1' q1=>cases q1 with
     |cons r2' q2=>cases q2 with
      |cons r3' q3=>
       cases q3;obtain⟨t1',rfl⟩:=r1;obtain⟨t2',rfl⟩:=r2;cases r3;obtain⟨u1',rfl⟩:=r1';obtain⟨u2',rfl⟩:=r2';cases r3';intro prog w E Q hq;have i1:=Vals.ints rw1;have i2:=Vals.ints rw2;have z1:=i1.length;have z2:=i2.length;have R1:Reads s.heap (.ref l1) (.list (a.2.2.map iQ)) _:=Reads.list f1 rfl rfl (by simpa using(zP i1).choose_spec);have R2:Reads s.heap (.ref l2) (.list (b.2.2.map iQ)) _:=Reads.list f2 rfl rfl (by simpa using(zP i2).choose_spec)
       let e:Nat->Bool:=λj=>if j=0 then a.1==b.1 else if j=1 then a.2.1==b.2.1 else decide (a.2.2=b.2.2)
       let lt:Nat->Bool:=λj=>if j=0 then decide (a.1<b.1) else if j=1 then decide (a.2.1<b.2.1) else HT.lexLt a.2.2 b.2.2
       refine aaO (op:=.Lt) (ag e1 rfl) (ag e2 rfl) PySem.F.slot_tuple_lt PySem.F.entry_tuple_lt (PySem.F.args_tuple_lt_2 _ _) (OY t1 t2 _ _ n1 n2 dd Yq sl V9 e lt)
        ⟨e1,e2,λj h1 h2=>?_,λj h1 h2 he=>?_,?_⟩ (by omega)
       ·rcases j with _|_|_|j
        ·exact w6 _ _ _ _
        ·exact w6 _ _ _ _
        ·intro prog w E Q hq;refine SeqAt.eqBoolOverData prog w _ E s _ _ _ _ _ _ Q R1 R2 ?_ ?_ ?_ ?_
         ·exact lay_ints _
         ·exact lay_ints _
         ·have d1:=OZ a.2.2;show A.units+1+min _ _<mv;rw[d1];omega
         ·show Q (XI _ _) s;rw[MH];exact hq
        ·exact absurd h1 (by simp)
       ·rcases j with _|_|_|j
        ·exact LtA.int _ _ _ _ _ _
        ·exact LtA.int _ _ _ _ _ _
        ·intro prog w E Q hq;refine aaO (op:=.Lt) (ag f1 rfl) (ag f2 rfl) PySem.F.slot_list_lt PySem.F.entry_list_lt (PySem.F.args_list_lt_2 _ _) (Vr l1 l2 _ _ m1 m2 none none #[] #[] _ _ (by simpa using i1) (by simpa using i2) (by simp;omega))
          ⟨f1,f2,show k8 _≠aep/\Q (.bool _) s from⟨(λx=>nomatch x),hq⟩⟩ ?_
         show A.units+1<mv;omega
        ·exact absurd h1 (by simp)
       ·show k8 _≠aep/\Q (.bool _) s;refine⟨(λx=>nomatch x),?_⟩;have hkl:tlx e lt false [0,1,2]=klt a b:=by
         show(if(a.1==b.1)=true then(if(a.2.1==b.2.1)=true then(if decide (a.2.2=b.2.2)=true then false else HT.lexLt a.2.2 b.2.2) else decide (a.2.1<b.2.1)) else decide (a.1<b.1))=_;unfold klt;by_cases q1:a.1=b.1
         ·rw[if_pos q1,if_pos (by simpa using q1)];by_cases q2:a.2.1=b.2.1
          ·rw[if_pos q2,if_pos (by simpa using q2)];by_cases q3:a.2.2=b.2.2
           ·rw[decide_eq_true q3,if_pos rfl,q3,AQ]
           ·rw[decide_eq_false q3,if_neg aZ]
          ·rw[if_neg q2,if_neg (by simpa using q2)]
         ·rw[if_neg q1,if_neg (by simpa using q1)]
        show Q (.bool (tlx e lt false [0,1,2])) s;rw[hkl];exact hq
end
theorem Fz{H H':Hp}{a:af}{o:HO}(e:aT H H')(h:H a=none):aT H (upd H' a o):=λb u q=>by rw[ay (aR q h)];exact e b u q
def Vs(X:Cx)(pins:List (af×Obj))(σ:L2.St)(Q:VK)(r:aa7)(s:az):Prop:=match r with
 |.ok (.ret u)=>EP X pins σ Q u s
 |_=>False
section
variable{X:Cx}{pins:List (af×Obj)}{σ:L2.St}{H0:Hp}{l It q S:af}{L:List (af×Ky)}{nl:Nat}{Q:VK}
theorem Vt(hc:X.calm=true)(hu:X.A.units+20<mv)(Xg:H0 l=some (.lst (L.map λp=>V.ref p.1)))(hS0:H0 S=none)(hlen:∀p∈L,p.2.2.2.length=nl)(hIt:∀H:Hp,H It=none->Bo X pins H It)(adW:l≠It)(turn:∀p∈L,∀(Hw:List (af×Obj))(s:az)(H:Hp),Inv X (pins++Hw) σ H s->aT H0 H->bj (model X.prog X.w) X.A.in1 (call (.ref q) [.ref p.1]) (EP X (pins++Hw) σ λx H'=>aT H H'/\∃t,x=.ref t/\uU H0 H' t p.2) (λ_ _=>False) s)
  (fin:∀(H:Hp)(v:V),aT H0 H->v=(match bestOf (λp:af×Ky=>p.2) L with|none=>.h9|some b=>.ref b.1)->Q v H):
  ∀(rest pre:List (af×Ky))(s:az)(H:Hp),L=pre++rest->Inv X pins σ H s->aT H0 H->aaq H0 H S (bestOf (λp:af×Ky=>p.2) pre)->s.heap.IsListIter It l pre.length->H It=none->
   rS (model X.prog X.w) X.A (.builtin "min.loop" ⟨[.ref It,.ref q,.ref S],[("default",.none)]⟩) (Vs X pins σ Q) s:=by
 have MI:(mr "min"++mr ".loop":String)="min.loop":=by decide
 intro rest
 induction rest with
 |nil=>
  intro pre s H eL I s0 hb hit Vc;rw[dM] at eL;subst eL;have hh:X.A.in1.handled=none:=I.ok.hd hc;have W:=Kl (prog:=X.prog) (w:=X.w) (A:=X.A.in1) hh It l adW (L.map λp=>bz p.1).toArray;obtain⟨_,its,n,rv,el⟩:=I.dQ l _ (s0 _ _ Xg);rw[rk rv] at el;have QF:s.heap.IsList l (L.map λp=>bz p.1).toArray:=bP _ el rfl ⟨_,rfl⟩;have hsz:(L.map λp=>bz p.1).toArray.size=L.length:=by rw[bD,aa]
  obtain⟨f0,f1,f2,f3,f4,f5⟩:=hIt H Vc
  cases eb:bestOf (λp:af×Ky=>p.2) L with
  |none=>
   rw[eb] at hb fin;have hS:H S=some (.lst []):=hb;obtain⟨_,itS,nS,Vu,eS⟩:=I.dQ S _ hS;cases Vu;refine gj yd ?_;rw[gr gu _];show bj _ X.A.in1 (am7 (.ref S) >>= _) _ _ _;refine ae (jt eS rfl ?_);show bj _ X.A.in1 (tryCatch (jH (.ref It)) _ >>= _) _ _ _;refine ae (w9 (W.done _ _ _ ⟨by rw[hsz];exact hit,QF⟩ λh' W9 KS=>?_));have I1:Inv X pins σ H {s with heap:=h',toks:=W9}:=I.turned (it:=It) (λb o hb e=>KS b o (by simpa using hb) e) Vc f1 f3 f4 f5;wp_walk;exact bt .h9 H I1 rfl (fin H _ s0 rfl)
  |some b=>
   rw[eb] at hb fin;obtain⟨t,hS,hk⟩:=hb;obtain⟨_,itS,nS,Vu,eS⟩:=I.dQ S _ hS
   cases Vu with
   |cons r1 q1=>cases q1 with
    |cons r2 q2=>
     cases q2;cases r1;cases r2;refine gj yd ?_;rw[gr gu _];show bj _ X.A.in1 (am7 (.ref S) >>= _) _ _ _;refine ae (jt eS rfl ?_);show bj _ X.A.in1 (tryCatch (jH (.ref It)) _ >>= _) _ _ _;refine ae (w9 (W.done _ _ _ ⟨by rw[hsz];exact hit,QF⟩ λh' W9 KS=>?_));have I1:Inv X pins σ H {s with heap:=h',toks:=W9}:=I.turned (it:=It) (λb o hb e=>KS b o (by simpa using hb) e) Vc f1 f3 f4 f5;have hSI:S≠It:=aR hS Vc;have eS':=KS S _ (by simpa using hSI) eS;show bj _ X.A.in1 (Gw S (λ_=>#[]) >>= _) _ _ _;refine ae ?_;refine CS eS' rfl (ae (m5 (aJ ?_)));refine bt (.ref b.1) (upd H S (.lst [])) (I1.Tz (its':=[]) (t':=W9) hS eS' rfl .nil (bE _)) rfl (fin _ _ (Fz s0 hS0) rfl)
 |cons p rest ih=>
  intro pre s H eL I s0 hb hit Vc;have hh:X.A.in1.handled=none:=I.ok.hd hc;have W:=Kl (prog:=X.prog) (w:=X.w) (A:=X.A.in1) hh It l adW (L.map λp=>bz p.1).toArray;obtain⟨_,its,n,rv,el⟩:=I.dQ l _ (s0 _ _ Xg);rw[rk rv] at el;have QF:s.heap.IsList l (L.map λp=>bz p.1).toArray:=bP _ el rfl ⟨_,rfl⟩;have hsz:(L.map λp=>bz p.1).toArray.size=L.length:=by rw[bD,aa]
  have hpL:p∈L:=by rw[eL];simp
  have Va:L[pre.length]? =some p:=by rw[eL];simp
  have oR:pre.length<L.length:=by rw[eL];simp
  obtain⟨f0,f1,f2,f3,f4,f5⟩:=hIt H Vc;have go:∀(old:List ak)(nS:Nat),s.heap.get? S=some {cls:=.type "list",data:=.seq old.toArray nS}->H S≠none->
    (∀(s2:az)(H2:Hp)(t:af),Inv X pins σ H2 s2->aT H H2->s2.heap.IsListIter It l (pre.length+1)->H2 It=none->uU H0 H2 t p.2->bj (model X.prog X.w) X.A.in1 (do
      match old with
      |[Xt,Vv]=>
       let better <-(Sem.tryCatch (holding [.ref p.1,.ref t] (do
        let answer <-QQ .Lt (.ref t) Vv
        let yes <-holding [answer] (truthy answer)
        letGo [answer]
        pure yes)) λe=>do
         Gw S λ_=>#[]
         letGo ([.ref t,.ref p.1]++old.reverse) [e]
         throw e)
       if better then
        Gw S λ_=>#[.ref p.1,.ref t]
        letGo [Vv,Xt]
       else letGo [.ref p.1,.ref t]
      |_=>Gw S λ_=>#[.ref p.1,.ref t]
      again (.builtin (mr "min"++mr ".loop") ⟨[.ref It,.ref q,.ref S],[("default",.none)]⟩)) (λfin s'=>match fin with
   |.done f=>Vs X pins σ Q (.ok f) s'
   |.again c'=>c'.quiet=true/\rS (model X.prog X.w) X.A c' (Vs X pins σ Q) s') (λe s'=>Vs X pins σ Q (.error e) s') s2)->
    rS (model X.prog X.w) X.A (.builtin "min.loop" ⟨[.ref It,.ref q,.ref S],[("default",.none)]⟩) (Vs X pins σ Q) s:=by
   intro old nS eS hSn k;refine gj yd ?_;rw[gr gu _];show bj _ X.A.in1 (am7 (.ref S) >>= _) _ _ _;refine ae (jt eS rfl ?_);show bj _ X.A.in1 (tryCatch (jH (.ref It)) _ >>= _) _ _ _;refine ae (w9 (W.item pre.length _ _ _ (by rw[hsz];exact oR) ⟨hit,QF⟩ λv h' W9 hP oP KS=>?_));have hv:v=.ref p.1:=by
    have:(L.map λp=>bz p.1)[pre.length]? =some v:=by simpa using hP
    rw[aV,Va] at this;exact(aX this).symm
   subst hv;have I1:Inv X pins σ H {s with heap:=h',toks:=W9}:=I.turned (it:=It) (λb o hb e=>KS b o (by simpa using hb) e) Vc f1 f3 f4 f5;refine cH ?_ (id oP.1);rintro oI hoI Wj Gh;have I2:Inv X (pins++[(It,oI)]) σ H {s with heap:=h',toks:=W9}:=I1.Du λz hz=>(aE.mp hz).elim (λy=>I1.pin z (c9 _ y)) λy=>by
    have e:z=(It,oI):=by simpa using y
    subst e;exact⟨hoI,Vc,f1,f2,λv e=>by rw[Gh] at e;cases e⟩
   show bj _ X.A.in1 (tryCatch (holding [.ref p.1] (call (.ref q) [.ref p.1])) _ >>= _) _ _ _;refine ae (w9 (gG (fq (turn p hpL [(It,oI)] _ H I2 s0) (λx s2 he=>?_) λ_ _ hF=>hF.elim)));refine ke ?_ he;clear he;rintro y H2 I3 ry MJ ⟨t,rfl,hk⟩;cases ry;obtain⟨p1,p2,_⟩:=I3.pin (It,oI) (by simp);exact k s2 H2 t I3.rU MJ (bP oI p1 Wj Gh) p2 hk
  cases eb:bestOf (λp:af×Ky=>p.2) pre with
  |none=>
   rw[eb] at hb;have hS:H S=some (.lst []):=hb;obtain⟨_,itS,nS,Vu,eS⟩:=I.dQ S _ hS;cases Vu;refine go [] nS eS (by rw[hS];simp) λs2 H2 t I2 MJ aas hI2 hk=>?_;have SA:=MJ _ _ hS;obtain⟨_,itS,nS2,Vu,eS2⟩:=I2.dQ S _ SA;cases Vu;have hSI:S≠It:=aR SA hI2;show bj _ X.A.in1 (Gw S (λ_=>#[.ref p.1,.ref t]) >>= _) _ _ _;refine ae ?_;refine CS eS2 rfl ?_;rw[MI];have I3:Inv X pins σ (upd H2 S (.lst [.ref p.1,.ref t])) {s2 with heap:=s2.heap.update S (Kk λ_=>#[.ref p.1,.ref t]),toks:=s2.toks}:=I2.Tz (its':=[.ref p.1,.ref t]) SA eS2 rfl (.cons rfl (.cons rfl .nil)) (by show 2<=aA;decide);refine cH ?_ aas;rintro oI hoI Wj Gh;refine aJ ⟨oA gu _,ih (pre++[p]) _ _ (by rw[eL];simp) I3 (Fz (s0.trans MJ) hS0) ?_ (bP oI ?_ Wj (by rw[aP];exact Gh)) ?_⟩
   ·rw[wV,eb];exact bq t ai (hk.off (λo z=>by rw[SA] at z;cases z))
   ·exact(B7 s2.heap _ hSI).trans hoI
   ·rw[ay hSI.symm];exact hI2
  |some b=>
   rw[eb] at hb;obtain⟨tb,hS,hkb⟩:=hb;obtain⟨_,itS,nS,Vu,eS⟩:=I.dQ S _ hS
   cases Vu with
   |cons r1 q1=>cases q1 with
    |cons r2 q2=>
     cases q2;cases r1;cases r2;refine go [.ref b.1,.ref tb] nS eS (by rw[hS];simp) λs2 H2 t I2 MJ aas hI2 hk=>?_;have SA:=MJ _ _ hS;obtain⟨_,itS,nS2,Vu,eS2⟩:=I2.dQ S _ SA;have hSI:S≠It:=aR SA hI2;have hbm:b∈L:=by
      rw[eL];refine eC _ ?_
      cases pre with
      |nil=>cases eb
      |cons a r=>have eb':pickK (λp:af×Ky=>p.2) a r=b:=aX eb;rw[<-eb'];exact B1 _ _ _
     show bj _ X.A.in1 (Sem.tryCatch (holding [.ref p.1,.ref t] (QQ .Lt (.ref t) (.ref tb) >>= _)) _ >>= _) _ _ _;refine ae (w9 (gG (ae (Xs (A:=X.A.in1) I2 (s0.trans MJ) hk (hkb.mono MJ) (by rw[hlen p hpL,hlen b hbm]) (by show X.A.units+1+10<mv;omega) _ _ _ _ ?_))));refine ae (gG (fQ ?_));refine ae (m5 (aJ ?_));refine cH ?_ aas;rintro oI hoI Wj Gh;by_cases Dc:klt p.2 b.2=true
     ·rw[Dc];simp only[if_true];refine ae ?_
      cases Vu with
      |cons r1 q1=>cases q1 with
       |cons r2 q2=>
        cases q2;cases r1;cases r2;refine CS eS2 rfl (ae (m5 ?_));rw[MI];have I3:Inv X pins σ (upd H2 S (.lst [.ref p.1,.ref t])) {s2 with heap:=s2.heap.update S (Kk λ_=>#[.ref p.1,.ref t]),toks:=s2.toks}:=I2.Tz (its':=[.ref p.1,.ref t]) SA eS2 rfl (.cons rfl (.cons rfl .nil)) (by show 2<=aA;decide);refine aJ ⟨oA gu _,ih (pre++[p]) _ _ (by rw[eL];simp) I3 (Fz (s0.trans MJ) hS0) ?_ (bP oI ?_ Wj (by rw[aP];exact Gh)) ?_⟩
        ·rw[wV,eb];dsimp only;rw[if_pos Dc];exact bq t ai (hk.off (λo z=>by rw[SA] at z;cases z))
        ·exact(B7 s2.heap _ hSI).trans hoI
        ·rw[ay hSI.symm];exact hI2
     ·rw[Ht] at Dc;rw[Dc];simp only[sY,if_false];refine ae (m5 ?_);rw[MI];refine aJ ⟨oA gu _,ih (pre++[p]) _ _ (by rw[eL];simp) I2 (s0.trans MJ) ?_ (bP oI hoI Wj (by rw[aP];exact Gh)) hI2⟩;rw[wV,eb];dsimp only;rw[if_neg (by rw[Dc];exact aZ)];exact bq tb SA (hkb.mono MJ)
end
section
open PySem.W (kla_obj kla_fn CodeHd tabObj envX kla_eval kla_makeFunction kla_makeFunctionHit kla_callFunE kla_codeExpr)
abbrev fP:Str:="form"
abbrev x6:Str:="release"
def AR(c:af)(lq:Str):HO:=.ext λh=>h.CodeRec (.ref c) lq
def qm(lp:Pos)(lq:Str)(P:af)(H:Hp):Prop:=H P=some (.vj #[])∨∃c,H P=some (.vj #[eW lp.line,eW lp.col,.ref c])/\H c=some (AR c lq)
theorem qm.mono{lp:Pos}{lq:Str}{P:af}{H H':Hp}(e:aT H H')(h:qm lp lq P H):qm lp lq P H':=h.elim (λz=>.inl (e _ _ z)) λ⟨c,a,b⟩=>.inr (bq c (e _ _ a) (e _ _ b))
def BMain(mg:Str->Option ak)(h:cB):Prop:=∃bm o,mg "__builtins__"=some (.ref bm)/\bm≠Ki/\bm≠bI/\h.get? bm=some o/\o.cls=.type "module"/\o.dict=some Ki/\o.data=.plain
section
variable{X:Cx}{pins:List (af×Obj)}{σ:L2.St}{H:Hp}{s:az}{params:Pk}{body:Expr}{scope:Scope}{lp:Pos}{lq:Str}{c P cf:af}{Q:ak->az->Prop}{E:ak->az->Prop}
theorem Vw(I:Inv X pins σ H s){h':cB}{tk:Nat}{o:Obj}{fd:jw}(hf:o.isFreed=false)(ho:o.data=.func fd)(hsz:s.heap.objs.size<=h'.objs.size){H':Hp}(J:Inv X pins σ H' {s with heap:=h'.push o,toks:=tk})(hn:H' h'.objs.size=none):
  Inv X (pins++[(h'.objs.size,o)]) σ H' {s with heap:=h'.push o,toks:=tk}:=J.Du λz hz=>(aE.mp hz).elim (λy=>J.pin z (c9 _ y)) λy=>by
 have e:z=(h'.objs.size,o):=by simpa using y
 subst e;exact⟨aU _ hf,hn,dD (bM I.lt hsz),I.ab3 hsz,λv e=>by rw[ho] at e;cases e⟩
theorem Vx(I:Inv X pins σ H s)(aat:defaultsOf params X.env=([],[]))(hq:X.env.qual++("<lambda>":Str)=lq)(vk:VS scope X.env=pure [(fP,cf)])(QG:X.env.code=.ref c)(C:CodeHd X.base c P)(hB:BMain X.mg X.base)(hT:qm lp lq P H)(k:∀(qa c':af)(J6:ak)(h':cB)(tk:Nat)(H':Hp),c6 [P] H H'->qm lp lq P H'->H' c'=some (AR c' lq)->Inv X (pins++[(qa,kla_obj "<lambda>" lq params body scope [(fP,cf)] ((X.mg "__name__").getD .none) c' J6)]) σ H' {s with heap:=h',toks:=tk}->Q (.ref qa) {s with heap:=h',toks:=tk}):
  bj (model X.prog X.w) X.A (eval (.Lambda params body scope lp) X.env) Q E s:=by
 refine kla_eval aat ?_;rw[hq];have hg:=I.mod.glob.keeps I.bk;have C':=C.keeps I.bk;have hPn:H P≠none:=λz=>by rcases hT with e|⟨_,e,_⟩<;>(rw[z] at e;cases e)
 have hgP:bI≠P:=λz=>by refine zZ ?_ I.mod.glob;rintro o es ep ⟨e,_⟩;exact hPn (by rw[<-z];exact(I.bs _ _ e).2)
 have hBA:s.heap.BuiltinsAt X.mg P:=by refine ke ?_ hB;rintro bm o b1 b2 b3 ⟨b4,b5,b6,b7⟩;exact dH bm o b1 b2 b3 ⟨λz=>hPn (by rw[<-z];exact(I.bs _ _ b4).2),I.bk _ _ b4,b5,b6,b7⟩
 rcases hT with e|⟨c',e,ec⟩
 ·have hP:s.heap.get? P=some (tabObj #[]):=I.dQ P _ e;refine kla_makeFunction (mg:=X.mg) vk I.ok.glob hg QG C' hP trivial rfl hgP hBA λc' J6 h' tk hx hge oR Vy SG=>?_;have hsz:s.heap.objs.size<=h'.objs.size:=ao hge (cX oR);have hc0:H c'=none:=I.dQ.fresh hge;have hcP:c'≠P:=λz=>hPn (by rw[<-z];exact hc0);have ahl:P<s.heap.objs.size:=bg hP;have e1:∀b o,H b=some o->b≠P->upd (upd H P (.vj #[eW lp.line,eW lp.col,.ref c'])) c' (AR c' lq) b=some o:=λb o q n=>by rw[ay (aR q hc0),ay n];exact q
  have atP:upd (upd H P (.vj #[eW lp.line,eW lp.col,.ref c'])) c' (AR c' lq) P=some (.vj #[eW lp.line,eW lp.col,.ref c']):=by rw[ay hcP.symm,ai]
  have kp:∀b u,b≠P->s.heap.get? b=some u->(h'.push (kla_obj "<lambda>" lq params body scope [(fP,cf)] ((X.mg "__name__").getD .none) c' J6)).get? b=some u:=λb u n q=>aj _ (hx b u n q);have un:Un X.fs [] H (upd (upd H P (.vj #[eW lp.line,eW lp.col,.ref c'])) c' (AR c' lq)) s.heap (h'.push (kla_obj "<lambda>" lq params body scope [(fP,cf)] ((X.mg "__name__").getD .none) c' J6)):=by
   have neP:∀b,H b=none->b≠P:=λb q z=>hPn (by rw[<-z];exact q);refine⟨λb o q n _ _=>kp b o (neP b n) q,λb o q n _ _=>⟨o.slots,kp b o (neP b n) q⟩,λb o q n _=>?_,λb o q _=>?_,λb xs q=>e1 b _ q (gH q e (λz=>nomatch z)),λb o u q=>e1 b _ q (gH q e (λz=>nomatch z)),λb ps q=>?_⟩
   ·rw[ay (bV (bM (bg q) hge)),ay (neP b n)];exact n
   ·by_cases z:b=P
    ·rw[z];exact⟨_,aj _ SG⟩
    ·exact⟨o,kp b o z q⟩
   ·by_cases z:b=P
    ·subst z;rw[e] at q;cases q;exact⟨#[eW lp.line,eW lp.col,.ref c'],by rw[atP];simp⟩
    ·exact⟨#[],by rw[e1 b _ q z];simp⟩
  have dQ:u5 X.prog X.w (upd (upd H P (.vj #[eW lp.line,eW lp.col,.ref c'])) c' (AR c' lq)) (h'.push (kla_obj "<lambda>" lq params body scope [(fP,cf)] ((X.mg "__name__").getD .none) c' J6)):=λb o q=>by
   by_cases z:b=c'
   ·subst z;rw[ai] at q;cases q;refine ip ?_ Vy;rintro c2 oc vs t y1 y2 y3 y4;cases y1;refine⟨oJ b oc vs t rfl (aj _ y2) y3 y4,⟨oc,aj _ y2⟩,λh1 h2 hh kk=>?_⟩;refine ip ?_ hh;rintro c2 oc vs t y1 y2 y3 y4;cases y1;exact oJ b oc vs t rfl (kk _ y2) y3 y4
   ·by_cases z2:b=P
    ·subst z2;rw[atP] at q;cases q;have:=aj (kla_obj "<lambda>" lq params body scope [(fP,cf)] ((X.mg "__name__").getD .none) c' J6) SG;rw[show(#[]:Array ak)++#[eW lp.line,eW lp.col,.ref c']=#[eW lp.line,eW lp.col,.ref c'] by simp] at this;exact this
    ·rw[ay z,ay z2] at q;refine(I.dQ b o q).Gy (λd v hd y=>kp d v ?_ y) (λd y=>e1 d _ y (gH y e (λz=>nomatch z))) λd xs y=>e1 d _ y (gH y e (λz=>nomatch z));rcases hd with z|z
     ·rw[z];exact z2
     ·exact gH z e (λz=>nomatch z)
  have J:=I.un (t':=tk) un dQ;refine k _ c' J6 _ tk _ (λb o q=>?_) (.inr (bq c' atP ai)) ai (Vw I rfl rfl hsz J ?_)
  ·obtain⟨n,q⟩:=c8 q;exact e1 b o q (by simpa using n)
  ·rw[ay (dD oR),ay (dD (bM ahl hsz))];exact I.dQ.fresh hsz
 ·have hP:s.heap.get? P=some (tabObj #[eW lp.line,eW lp.col,.ref c']):=I.dQ P _ e;refine kla_makeFunctionHit (mg:=X.mg) vk I.ok.glob hg QG C' hP trivial (codeAmong_snoc [] trivial rfl) hBA λJ6 h' tk hk hsz=>?_;have J:Inv X pins σ H {s with heap:=h'.push (kla_obj "<lambda>" lq params body scope [(fP,cf)] ((X.mg "__name__").getD .none) c' J6),toks:=tk}:=I.kept λb u q=>aj _ (hk b u q);exact k _ c' J6 _ tk H (c6.of (aT.refl _)) (.inr (bq c' e ec)) ec (Vw I rfl rfl hsz J (I.dQ.fresh hsz))
end
def QH(X:Cx)(A:cy)(N:List Str)(lq:Str)(scope:Scope)(s:az)(H:Hp)(qa c':af)(cl:List (Str×af)):Cx where
 prog:=X.prog
 w:=X.w
 K:=X.K
 mg:=X.mg
 base:=X.base
 A:=A.deeper (envX lq scope s.heap.objs.size qa (.ref c') cl)
 N:=N
 GA:=s
 H_0:=H
 env:=envX lq scope s.heap.objs.size qa (.ref c') cl
 outer:=X.stack
 stack:=envX lq scope s.heap.objs.size qa (.ref c') cl::X.stack
 ex:=[]
 calm:=true
 fn:=λ_=>false
 pn:=[]
 xe:=λ_ _=>False
section
variable{X:Cx}{pins:List (af×Obj)}{σ:L2.St}{H:Hp}{s:az}{params:Pk}{body:Expr}{scope:Scope}{lq:Str}{qa c' cf:af}{pm J6:ak}
theorem Xu(I:Inv X pins σ H s){A:cy}(hA:A.frames=X.A.frames)(hh:A.handled=none)(Rg:scope.names=[(x6,NameKind.local),(fP,jY)])(hk:scope.kind=.function)(hcf:X.env.cells.lookup fP=some cf){u v:ak}{x y:V}(rx:RelV x u)(ry:RelV y v)(mf:s.heap.IsCell cf (some v)){h1:cB}{tk:Nat}(Xv:h1.Ns s.heap.objs.size (λz=>[(x6,u)].reverse.lookup z))(hkp:∀b o,s.heap.get? b=some o->h1.get? b=some o):
  Inv (QH X A [x6,fP] lq scope s H qa c' [(fP,cf)]) [] [some x,some y] H {s with heap:=h1,toks:=tk}:=by
 have cl1:∀z d,([(fP,cf)]:List (Str×af)).lookup z=some d->d=cf:=λz d q=>by
  rw[dq] at q;split at q
  ·exact(aX q).symm
  ·cases q
 have cl2:∀z d,([(fP,cf)]:List (Str×af)).lookup z=some d->z=fP:=λz d q=>by
  rw[dq] at q;split at q
  ·rename_i h;exact eq_of_beq h
  ·cases q
 have hc1:h1.IsCell cf (some v):=let⟨o,a,b⟩:=mf;(bq o (hkp _ _ a) b);have Y6:∀b:af,b∉(QH X A [x6,fP] lq scope s H qa c' [(fP,cf)]).ex:=λb z=>absurd (show b∈([]:List af) from z) (by simp);refine⟨⟨I.ok.mod,hk,rfl,rfl,aK _,λz1 z2 d q1 q2=>?_,λz hz=>?_,λz d q _=>?_,λ_=>hh,?_,.inr ⟨rfl,rfl⟩,λb z=>absurd z (Y6 b),I.bs,ao I.ok.VZ I.sz,λb _ _=>Y6 b,λb z=>absurd z (Y6 b),I.stack,I.IC⟩,rfl,I.bare,Un.kept hkp,ag Xv (λi z w q1 q2 q3=>?_),λz d q=>?_,I.dQ.fresh (aK _),λz d q=>?_,λp hp=>absurd (show p∈([]:List (af×Obj)) from hp) (by simp),I.dQ.kept hkp,rfl⟩
 ·rw[cl2 z1 d q1,cl2 z2 d q2]
 ·have HE:scope.names.lookup z=some .cell∨scope.names.lookup z=some .free:=hz;rw[Rg] at HE;by_cases q:z=fP
  ·subst q;exact⟨cf,by rfl⟩
  ·exfalso;rw[dq] at HE;by_cases q2:z=x6
   ·subst q2;rcases HE with h|h<;>cases h
   ·rw[show(z==x6)=false from beq_eq_false_iff_ne.mpr q2,dq,show(z==fP)=false from beq_eq_false_iff_ne.mpr q] at HE;rcases HE with h|h<;>cases h
 ·exact absurd (show false=true from q) aZ
 ·refine aeo ?_;rw[hA];exact I.ok.frames
 ·rcases i with _|_|i
  ·have:x6=z:=aX q1;subst this;have:x=w:=aX (aX q2);subst this;refine bq u rx (.inl ⟨?_,rfl⟩);show scope.names.lookup x6=some .local;rw[Rg];rfl
  ·have:fP=z:=aX q1;subst this;have:y=w:=aX (aX q2);subst this;refine bq v ry (.inr ⟨.inr ?_,bq cf rfl hc1⟩);show scope.names.lookup fP=some .free;rw[Rg];rfl
  ·exact absurd q1 (by show([x6,fP]:List Str)[i+2]? ≠some z;simp)
 ·rw[cl1 z d q];exact⟨_,hc1⟩
 ·rw[cl1 z d q];exact I.um _ _ hcf
theorem Vz(I:Inv X pins σ H s){A:cy}(hA:A.frames=X.A.frames)(hh:A.handled=none)(LJ:A.depth<w8)(Rg:scope.names=[(x6,NameKind.local),(fP,jY)])(hk:scope.kind=.function)(hco:scope.isCoroutine=false)(aaw:scope.isGenerator=false)(hcf:X.env.cells.lookup fP=some cf){u v:ak}{x y:V}(rx:RelV x u)(ry:RelV y v)(mf:s.heap.IsCell cf (some v))(ahp:(qa,kla_obj "<lambda>" lq params body scope [(fP,cf)] pm c' J6)∈pins)(hc:H c'=some (AR c' lq))(MK:Bc (kla_fn "<lambda>" lq params body scope [(fP,cf)] pm (.ref c') J6) ⟨[u],[]⟩=pure [(x6,u)]){t:TE}{Q:VK}(hb:PE (QH X A [x6,fP] lq scope s H qa c' [(fP,cf)]) body t)(ht:t [some x,some y] H Q):
  bj (model X.prog X.w) A (call (.ref qa) [u]) (EP X pins σ Q) (λ_ _=>False) s:=by
 have ahq:=(I.pin _ (c9 _ ahp)).1;obtain⟨Vy,_⟩:=I.dQ c' _ hc;refine Kj (kla_callFunE LJ ahq rfl hco aaw rfl Vy ?_);rw[MK];refine aJ (wpAny_newFunctionEnv (λz hz=>?_) (λz hz=>?_) (λh1 Xv hsb=>⟨(I.nolimit).keeps λb o e=>?_,?_⟩) hk)
 ·have HE:z∈scope.names:=hz;rw[Rg] at HE;simp only[aB,fj,or_false] at HE;rcases HE with rfl|rfl<;>exactλq=>nomatch q
 ·have e:z=(x6,u):=by simpa using hz
  subst e;show scope.names.lookup x6=some .local;rw[Rg];rfl
 ·exact hsb.extBut b o (bV (bg e)) (aj _ e)
 ·show rS _ _ (.expr body (envX lq scope s.heap.objs.size qa (.ref c') [(fP,cf)])) _ _;have hkp:∀b o,s.heap.get? b=some o->h1.get? b=some o:=λb o e=>hsb.extBut b o (bV (bg e)) (aj _ e);have J:=Xu (lq:=lq) (qa:=qa) (c':=c') (tk:=s.toks+1) I hA hh Rg hk hcf rx ry mf Xv hkp;refine kla_codeExpr (fq (hb [] _ _ H Q J ht) (λu' s' hq=>?_) λ_ _ z=>dP z);refine j7 ?_ hq;rintro v' H' J' rv q;exact I.after (dH v' H' J'.os J'.bare J'.base ⟨J'.dQ,rv,q⟩)
end
end
section
open PySem.W (kla_obj kla_fn CodeHd)
theorem J7{M:YE}{A:cy}{E:ak->az->Prop}{s:az}{env:Env}{pos:Pos}{T:String}{e:Expr}{kws:List Ce}{Q:ak->az->Prop}(h:bj M A (spliced (fO pos (bO [e] env))) (λvs s1=>bj M A (evalAll ((iX pos (eY kws env)).map (·.2))) (λkvs s2=>bj M A (call (.builtin T) vs (((iX pos (eY kws env)).filterMap (·.1)).zip kvs)) Q E s2) E s1) E s)(he:fO pos (bO [e] env)=(false,eval e env)::fO pos (bO [] env):=by rfl)(lj:(iX pos (eY kws env)).all (·.1.isSome)=true:=by rfl)(hkw:(iX pos (eY kws env)).any (·.1.isNone)=false:=by rfl):
  bj M A (qp pos (.builtin T) [] (fO pos (bO [e] env)) (iX pos (eY kws env))) Q E s:=by
 unfold qp;rw[he] at h⊢;refine ae (gG (fq (evalArgs_kwB (Q:=λa s1=>bj M A (call (.builtin T) a.pos a.kw) Q E s1) lj h) (λa s1 h1=>ae (Iv ?_)) λ_ _ x=>x));simp only[hkw,show((false,eval e env)::fO pos (bO [] env)).any (·.1)=false from rfl,Pn];refine ae (aJ ?_);exact ae (fq h1 (λr s2 hr=>ae (gG (wpAny_point (aJ hr)))) λ_ _ x=>x)
theorem aax(a v d:ak):VT "min" ⟨[a],[(aS "key",v),(aS "default",d)]⟩:=by unfold VT;kernel_rfl
def ahr(ta:TA)(tb:TE)(lp:Pos)(lq:Str)(P:af)(i:Nat):TE:=λσ H Q=>ta σ H λvs H1=>∃(l:af)(L:List (af×Ky))(nl:Nat)(y:V),vs=[.ref l]/\H1 l=some (.lst (L.map λp=>V.ref p.1))/\qm lp lq P H1/\σ[i]? =some (some y)/\(∀p∈L,p.2.2.2.length=nl)/\
 (∀p∈L,∀H2 H,c6 [P] H1 H2->aT H2 H->tb [some (.ref p.1),some y] H λx H'=>aT H H'/\∃t,x=.ref t/\uU H2 H' t p.2)/\
 ∀(H:Hp),c6 [P] H1 H->qm lp lq P H->Q (match bestOf (λp:af×Ky=>p.2) L with|none=>.h9|some b=>.ref b.1) H
section
variable{X:Cx}{e:Expr}{ta:TA}{tb:TE}{p pos kp1 kp2 Ra lp:Pos}{j i:Nat}{params:Pk}{body:Expr}{scope:Scope}{lq:Str}{c P cf:af}
theorem Xw(hc:X.calm=true)(hu:X.A.units+20<mv)(LJ:X.A.depth<w8)(hg:Gl X "min")(hm:X.mg "min"=none)(C:CodeHd X.base c P)(hB:BMain X.mg X.base)(QG:X.env.code=.ref c)(he:PA X [e] ta)(KH:∀(s:az)(H:Hp)(qa c':af),PE (QH X X.A.in1 ["release","form"] lq scope s H qa c' [("form",cf)]) body tb)(hN:X.N[i]? =some fP)(hkf:X.env.kindOf fP=some .cell)(Zf:Vis X.env.scope fP)(hcf:X.env.cells.lookup fP=some cf)(aat:defaultsOf params X.env=([],[]))(hq:X.env.qual++("<lambda>":Str)=lq)(vk:VS scope X.env=pure [(fP,cf)])(Rg:scope.names=[(x6,NameKind.local),(fP,jY)])(hk:scope.kind=.function)(hco:scope.isCoroutine=false)(aaw:scope.isGenerator=false)(MK:∀pm c' J6 u,Bc (kla_fn "<lambda>" lq params body scope [(fP,cf)] pm (.ref c') J6) ⟨[u],[]⟩=pure [(x6,u)])(hb:fO pos (bO [e] X.env)=(false,eval e X.env)::fO pos (bO [] X.env):=by rfl):
  PE X (.Call (.Name "min" p) [e] [⟨some "key",.Lambda params body scope lp,kp1⟩,⟨some "default",.Constant .none j Ra,kp2⟩] pos) (ahr ta tb lp lq P i):=by
 intro pins s σ H Q I h;have MI:(mr "min"++mr ".loop":String)="min.loop":=by decide
 refine jr (vq I hg hm Ut (J7 (kws:=[⟨some "key",.Lambda params body scope lp,kp1⟩,⟨some "default",.Constant .none j Ra,kp2⟩]) (iM (he pos pins s σ H _ I h) λus s1 ⟨vs,H1,I1,r1,q1⟩=>?_) hb));refine u1 ?_ q1;rintro l L nl y ex zY Ie hy hlen ⟨IF,eX⟩;subst ex;rw[Vals.IP r1];refine kws_cons (Vx I1 aat hq vk QG C hB Ie λqa c' J6 h2 tk2 H2 sB2 WI hc2 I2=>?_);refine kws_cons (Constant_none (kws_nil ?_));have hPt:∀xs,H1 P≠some (.lst xs):=λxs z=>by rcases Ie with e|⟨_,e,_⟩<;>(rw[z] at e;cases e)
 have hlP:l≠P:=λz=>hPt _ (by rw[<-z];exact zY);have NH:H2 l=some (.lst (L.map λp=>V.ref p.1)):=sB2.at zY (by simpa using hlP);obtain⟨_,its,n,rv,el⟩:=I2.dQ l _ NH;rw[rk rv] at el;refine kmk_tree PySem.F.kind_min PySem.F.plain_min PySem.F.entry_min (aax _ _ _) ?_;show bj _ X.A.in1 (SN "min" ["key","default"] 0 ⟨[],[(aS "key",.ref qa),(aS "default",.none)]⟩ >>= _) _ _ _;refine ae (QR (show SN "min" ["key","default"] 0 ⟨[],[(aS "key",.ref qa),(aS "default",.none)]⟩=pure [some (.ref qa),some .none] from rfl) ?_);refine ae (aJ ?_);refine ae (fR (s:={s1 with heap:=h2,toks:=tk2}) (bP _ el rfl ⟨_,rfl⟩) ?_);refine ae (XH ?_ (bE _));rw[MI];have Qu:l<h2.objs.size:=bg el;have hS:(h2.push {cls:=.type "list_iterator",data:=.fields #[.ref l,.int 0 0]}).objs.size=h2.objs.size+1:=size_push' ..;have I3:Inv X (pins++[(qa,kla_obj "<lambda>" lq params body scope [(fP,cf)] ((X.mg "__name__").getD .none) c' J6)]) σ H2 {s1 with heap:=h2.push {cls:=.type "list_iterator",data:=.fields #[.ref l,.int 0 0]},toks:=tk2}:=I2.kept (s:={s1 with heap:=h2,toks:=tk2}) (t':=tk2) λb u q=>aj _ q;have hSn:H2 (h2.push {cls:=.type "list_iterator",data:=.fields #[.ref l,.int 0 0]}).objs.size=none:=I3.dQ.fresh (aK _);have I4:Inv X (pins++[(qa,kla_obj "<lambda>" lq params body scope [(fP,cf)] ((X.mg "__name__").getD .none) c' J6)]) σ (upd H2 (h2.push {cls:=.type "list_iterator",data:=.fields #[.ref l,.int 0 0]}).objs.size (.lst [])) {s1 with heap:=(h2.push {cls:=.type "list_iterator",data:=.fields #[.ref l,.int 0 0]}).push (SR "list" #[] 0),toks:=tk2}:=I3.laid (s:={s1 with heap:=h2.push {cls:=.type "list_iterator",data:=.fields #[.ref l,.int 0 0]},toks:=tk2}) (t':=tk2) (λb u q=>aj _ q) (aK _) ⟨bE _,fu ([]) 0 .nil (aU _ rfl)⟩;refine aJ ⟨oA gu _,?_⟩;have hIn:H2 h2.objs.size=none:=I2.dQ.fresh (aK _);refine k7 (Vt (pins:=pins++[(qa,kla_obj "<lambda>" lq params body scope [(fP,cf)] ((X.mg "__name__").getD .none) c' J6)]) (σ:=σ) (H0:=H2) (l:=l) (It:=h2.objs.size) (q:=qa) (L:=L) (nl:=nl) (Q:=Q) hc hu NH hSn hlen (λH' hn=>I2.IE (aK _) hn) (bV Qu) (λz hz Hw s' H' I' MJ=>?_) (λH' v MJ hv=>?_) L [] _ _ rfl I4 (aD hSn) ai (bP _ (aj _ (aU _ rfl)) rfl rfl) ?_) λr s' hr=>?_
 ·obtain⟨m,hn,hlk⟩:=I'.loc;obtain⟨u,ru,lk⟩:=hlk i fP y hN hy Zf;obtain⟨d,hd,mf⟩:∃d,X.env.cells.lookup fP=some d/\s'.heap.IsCell d (some u):=by
   rcases lk with⟨h1,_⟩|⟨_,d,h1,h2⟩
   ·rw[hkf] at h1;cases h1
   ·exact bq d h1 h2
  rw[hcf] at hd;cases hd;exact Vz (A:=X.A.in1) I' rfl (I'.ok.hd hc) LJ Rg hk hco aaw hcf (x:=.ref z.1) (y:=y) rfl ru mf (eC _ (c9 _ (.head _))) (MJ _ _ hc2) (MK _ _ _ _) (KH _ _ _ _) (IF z hz H2 H' sB2 MJ)
 ·rw[hv];exact eX H' (sB2.trans (c6.of MJ)) (WI.mono MJ)
 ·rw[ay (by rw[hS];exact bV (pk _))];exact hIn
 ·cases r with
  |error e=>exact dP hr
  |ok fl=>
   cases fl with
   |ret u=>refine j7 ?_ hr;rintro v H' J rv q;exact bt v H' J.rU rv q
   |next=>exact dP hr
   |brk=>exact dP hr
   |cont=>exact dP hr
end
end
end Bp
namespace Bp
open PySem PySem.Spec PyProof.Rows L2 Bm
variable{P:bp}{w:bQ}{K:ah}{mg:Str->Option ak}{base:cB}{A:Cl}
section
open Vbslai (may plans best better choices)
def keyOf(cs:List bA)(z:Rl):Ky:=((ja cs z.levels:Nat),(z.left:Nat),z.levels.map λ(n:Nat)=>(n:Int))
theorem ML:∀a b:List Nat,HT.lexLt (a.map λ(n:Nat)=>(n:Int)) (b.map λ(n:Nat)=>(n:Int))=xI a b
 |[],[]=>rfl
 |[],_::_=>rfl
 |_::_,[]=>rfl
 |x::a,y::b=>by
  rw[br,br,HT.yT,ML a b];show _=(decide (x<y)||(x==y&&xI a b));by_cases h:x=y
  ·subst h;rw[if_pos rfl];simp
  ·rw[if_neg (by omega),show(x==y)=false by simpa using h];simp
def jn(cs:List bA)(rows:List gi)(k u:Nat)(z:Rl):aft:={cost:=ja cs z.levels,release:=cE cs rows z.levels k u}
theorem O0{cs:List bA}{rows:List gi}{k u:Nat}{x y:Rl}(nd:(rows.map (·.who)).Nodup)(hx:x=iF cs rows x.levels k u)(hy:y=iF cs rows y.levels k u)(h:xI y.levels x.levels=true):klt (keyOf cs x) (keyOf cs y)=better (jn cs rows k u x) (jn cs rows k u y):=by
 have lx:x.left=(cE cs rows x.levels k u).out.length:=by rw[hx];exact(pb nd).left
 have ly:y.left=(cE cs rows y.levels k u).out.length:=by rw[hy];exact(pb nd).left
 have key:better (jn cs rows k u x) (jn cs rows k u y)=(decide (ja cs x.levels<ja cs y.levels)||(ja cs x.levels==ja cs y.levels&&decide (x.left<y.left))):=by rw[lx,ly];rfl
 rw[key];unfold klt keyOf;dsimp only;rw[ML,Ej h];by_cases c:ja cs x.levels=ja cs y.levels
 ·rw[if_pos (by omega),show(ja cs x.levels==ja cs y.levels)=true by simpa using c,decide_eq_false (show¬ja cs x.levels<ja cs y.levels by omega)];by_cases l:x.left=y.left
  ·rw[if_pos (by omega),decide_eq_false (show¬x.left<y.left by omega)];rfl
  ·rw[if_neg (by omega)];by_cases q:x.left<y.left
   ·rw[decide_eq_true q,decide_eq_true (by omega)];rfl
   ·rw[decide_eq_false q,decide_eq_false (by omega)];rfl
 ·rw[if_neg (by omega),show(ja cs x.levels==ja cs y.levels)=false by simpa using c];by_cases q:ja cs x.levels<ja cs y.levels
  ·rw[decide_eq_true q,decide_eq_true (by omega)];rfl
  ·rw[decide_eq_false q,decide_eq_false (by omega)];rfl
theorem FA{cs:List bA}{rows:List gi}{k u:Nat}(nd:(rows.map (·.who)).Nodup):∀(l:List (af×Rl))(a:af×Rl),(∀p∈a::l,p.2=iF cs rows p.2.levels k u)->(a::l).Pairwise (λp q=>xI p.2.levels q.2.levels=true)->
  jn cs rows k u (pickK (λp:af×Rl=>keyOf cs p.2) a l).2=pick (jn cs rows k u a.2) (l.map λp=>jn cs rows k u p.2)
 |[],_,_,_=>rfl
 |x::l,a,h,hp=>by
  have Ii:=fT.mp hp;have e:=O0 nd (h x (by simp)) (h a (by simp)) (Ii.1 x (by simp));show jn cs rows k u (pickK _ (if klt (keyOf cs x.2) (keyOf cs a.2)=true then x else a) l).2=pick (if better (jn cs rows k u x.2) (jn cs rows k u a.2)=true then jn cs rows k u x.2 else jn cs rows k u a.2) (l.map λp=>jn cs rows k u p.2);rw[e];by_cases q:better (jn cs rows k u x.2) (jn cs rows k u a.2)=true
  ·rw[if_pos q,if_pos q];exact FA nd l x (λp hp=>h p (.tail _ hp)) Ii.2
  ·rw[if_neg q,if_neg q];refine FA nd l a (λp hp=>h p ?_) ?_
   ·rcases aB.mp hp with z|z
    ·rw[z];exact .head _
    ·exact .tail _ (.tail _ z)
   ·exact fT.mpr ⟨λq hq=>Ii.1 q (.tail _ hq),(fT.mp Ii.2).2⟩
theorem aaA{cs:List bA}{rows:List gi}{zs:List Rl}{qs:List fV}(nd:(rows.map (·.who)).Nodup)(h:kj cs rows zs qs)(ls:List Nat)(k u m:Nat):
  may cs qs rows m (cE cs rows ls k u)=(iz m (iF cs rows ls k u)&&mi (zs++[iF cs rows ls k u]) rows):=by
 have ok:=pb (cs:=cs) (ls:=ls) (k:=k) (u:=u) nd;unfold may iz;rw[Jc nd (h.snoc ok),ok.left,ok.len,oF];congr 2
 cases(cE cs rows ls k u).has with
 |nil=>rfl
 |cons a l=>rfl
theorem FC{cs:List bA}{rows:List gi}{zs:List Rl}{qs:List fV}(nd:(rows.map (·.who)).Nodup)(h:kj cs rows zs qs)(ask:List Bool)(k u m:Nat):
  plans cs qs rows ask k u m=((((choices (cs.zip ask)).map λls=>iF cs rows ls k u).filter λz=>iz m z).filter λz=>mi (zs++[z]) rows).map (jn cs rows k u):=by
 unfold plans;rw[Dt]
 induction choices (cs.zip ask) with
 |nil=>rfl
 |cons ls l ih=>
  rw[rp,br,xc];dsimp only;rw[aaA nd h,Pp];by_cases q:(mi (zs++[iF cs rows ls k u]) rows&&iz m (iF cs rows ls k u))=true
  ·rw[if_pos q,if_pos q,br,ih];rfl
  ·rw[if_neg q,if_neg q];exact ih
theorem MM{cs:List bA}{rows:List gi}(nd:(rows.map (·.who)).Nodup)(ask:List Bool)(k u m:Nat):(plans cs [] rows ask k u m).length=(((choices (cs.zip ask)).map λls=>iF cs rows ls k u).filter λz=>iz m z).length:=by rw[FC nd .nil,aa];congr 1;refine List.filter_eq_self.mpr λz hz=>?_;obtain⟨ls,_,rfl⟩:=au.mp (bH.mp hz).1;have:=Uj (cs:=cs) (ls:=ls) (k:=k) (u:=u) nd;rw[Jc nd (.cons (pb nd) .nil)] at this;exact this
theorem O1{α β:Type}{f:α->β}{key:β->Ky}:∀l:List α,bestOf key (l.map f)=(bestOf (λa=>key (f a)) l).map f
 |[]=>rfl
 |a::l=>by
  show some (pickK key (f a) (l.map f))=some (f (pickK (λa=>key (f a)) a l));congr 1;unfold pickK
  induction l generalizing a with
  |nil=>rfl
  |cons x l ih=>rw[br,bL,bL,<-ih];congr 1;split<;>rfl
theorem Sb{cs:List bA}{rows:List gi}{zs:List Rl}{qs:List fV}(nd:(rows.map (·.who)).Nodup)(h:kj cs rows zs qs)(ask:List Bool)(k u m:Nat){L:List (af×Rl)}(hL:L.map (·.2)=(((choices (cs.zip ask)).map λls=>iF cs rows ls k u).filter λz=>iz m z).filter λz=>mi (zs++[z]) rows):
  uY cs qs rows ask k u m=(bestOf (λp:af×Rl=>keyOf cs p.2) L).map λp=>jn cs rows k u p.2:=by
 unfold uY;rw[FC nd h,<-hL,aQ];have lj:∀z∈L.map (·.2),∃ls∈choices (cs.zip ask),z=iF cs rows ls k u:=λz hz=>by rw[hL] at hz;obtain⟨ls,h1,h2⟩:=au.mp (bH.mp (bH.mp hz).1).1;exact bq ls h1 h2.symm
 have hpw:L.Pairwise λp q=>xI p.2.levels q.2.levels=true:=by
  have h1:((choices (cs.zip ask)).map λls=>iF cs rows ls k u).Pairwise λa b=>xI a.levels b.levels=true:=by rw[F6];exact vQ _
  have h2:=(h1.filter λz=>iz m z).filter λz=>mi (zs++[z]) rows;rw[<-hL,F6] at h2;exact h2
 cases L with
 |nil=>rfl
 |cons a l=>
  show best (jn cs rows k u a.2::l.map _)=some (jn cs rows k u (pickK (λp:af×Rl=>keyOf cs p.2) a l).2);rw[HW,FA nd l a (λp hp=>?_) hpw]
  ·rfl
  ·obtain⟨ls,_,e⟩:=lj p.2 (au.mpr (bq p hp rfl));rw[e];rfl
theorem Xx{H:Hp}{S S':List af}(h:∀b∈S,b∈S'):aT (cut H S') (cut H S):=λb o e=>by obtain⟨n,e⟩:=c8 e;rw[c7 λq=>n (h b q)];exact e
theorem MN{H H':Hp}{P:af}{M:List af}(h:c6 [P] H H')(hP:P∈M):aT (cut H M) (cut H' M):=λb o e=>by obtain⟨n,e⟩:=c8 e;rw[c7 n];exact h.at e (by simp;exactλz=>n (by rw[z];exact hP))
theorem VA(l:List Nat):gZ l=(l.map λ(n:Nat)=>(n:Int)).map V.int:=by unfold gZ;rw[aQ];rfl
end
section
open Vbslai (choices)
open PySem.W (CodeHd)
theorem zQ{α β:Type}{R:α->β->Prop}:∀{l:List α}{m:List β},dn R l m->∀p∈l.zip m,R p.1 p.2
 |_,_,.nil,p,h=>by simp at h
 |_,_,.cons r t,p,h=>by
  rw[Ds] at h;rcases aB.mp h with e|e
  ·rw[e];exact r
  ·exact zQ t p e
theorem J8:∀{xs:List af}{ys:List Rl},xs.length=ys.length->iZ xs=OV (xs.zip ys)
 |[],[],_=>rfl
 |x::xs,y::ys,h=>by show V.ref x::iZ xs=V.ref x::OV (xs.zip ys);rw[J8 (by simpa using h)]
 |[],_::_,h=>by simp at h
 |_::_,[],h=>by simp at h
theorem O2{α:Type}{key:α->Ky}{l:List α}{b:α}(h:bestOf key l=some b):b∈l:=by
 cases l with
 |nil=>cases h
 |cons a l=>rw[<-aX h];exact B1 _ _ _
structure VB(K:ah)(mg:Str->Option ak)(x qual:Str)(st:cD)(ps:List Str)(c Pt:af):Prop where
 ex:∃(f:af)(fd:jw),WO K x qual st f fd/\mg x=some (.ref f)/\Binds K fd ps []/\fd.code=.ref c
 hd:∀h:cB,K.In h->CodeHd h c Pt
theorem VB.ok{x qual:Str}{st:cD}{N ps:List Str}{k:Nat}{sp:Sp}{c Pt:af}(R:VB K mg x qual st ps c Pt)(S:bf N ps (aO st))(len:∀vs H Q E,sp vs H Q E->vs.length=ps.length)(hb:∀(f:af)(A:cy)(outer:List Env)(s:az)(H:Hp)(vs:List V)(Q:VK)(E:XK),jx k (A.deeper (yK qual (aO st) s.heap.objs.size f (.ref c)))->sp vs H Q E->∃t,Nq (GD T7 P w K mg base N qual (aO st) f (.ref c) A outer s H E).Wl (lJ st) t/\t {nx:=λ_ H'=>Q .h9 H',rt:=Q} (start N vs) H):Def P w K mg base x (k+1) ps sp:=by refine ke ?_ R.ex;rintro f fd F m b ec;refine⟨f,fd,?_,m,F.kp,b⟩;refine o5 ?_ F.ex;rintro oc od kV doc pm an pP ct KG ⟨rfl,lk,S8⟩;have ec':pP=.ref c:=ec;subst ec';refine XX lk S8 S len λA outer s H vs Q E hr Sx=>?_;obtain⟨t,h,q⟩:=hb f A outer s H vs Q E hr Sx;exact bq t h.Wl q
abbrev MO:Pos:=⟨95,75,95,155⟩
abbrev MP:Str:="best_release"++".<locals>."++"<lambda>"
def lR(K:ah)(A:Cl)(Pt:af):Sp:=λvs H Q _=>∃(a b c d e:af)(fm:d8)(l:List PR)(gQ:List af)(zs:List Rl)(qs:List fV)(q:List Int)(x u m:Nat)(M:List af),vs=[.ref a,.ref b,.ref c,.ref d,.ref e]/\RX M H/\Pt∈M/\qm MO MP Pt H/\
 gW A (cut H M) a fm/\iN fm/\H b=some (.lst (qh l))/\gA A fm.columns H l/\(l.map (·.2.who)).Nodup/\H c=some (.lst (iZ gQ))/\gX A H gQ zs/\kj fm.columns (l.map (·.2)) zs qs/\bG K H d (j8 [(x:Int),(u:Int),(m:Int)])/\bG K H e (j8 q)/\q.length=fm.columns.length/\
 (∀H',c6 [Pt] H H'->qm MO MP Pt H'->uY fm.columns qs (l.map (·.2)) (q.map λb=>b==1) x u m=none->Q .h9 H')/\
 ∀(z:af)(r:Rl)(H':Hp),c6 [Pt] H H'->qm MO MP Pt H'->uY fm.columns qs (l.map (·.2)) (q.map λb=>b==1) x u m=some (jn fm.columns (l.map (·.2)) x u r)->r=iF fm.columns (l.map (·.2)) r.levels x u->lL fm.columns r.levels->nB A (cut H' M) z r->Q (.ref z) H'
theorem Dl(T:Txt K mg A){c0 Pt:af}(R:VB K mg "best_release" "best_release" iu ["form","rows","releases","numbers","asked"] c0 Pt)(hK:K.In base)(hBM:BMain mg base):
  Def P w K mg base "best_release" 9 ["form","rows","releases","numbers","asked"] (lR K A Pt):=by
 have hCD:CodeHd base c0 Pt:=R.hd base hK;refine R.ok uP (λvs H Q E h=>?_) (λf A' outer s H vs Q E hr h=>?_)
 ·obtain⟨a,b,c,d,e,fm,l,gQ,zs,qs,q,x,u,m,M,rfl,_⟩:=h;rfl
 ·obtain⟨a,b,c,d,e,fm,l,gQ,zs,qs,q,kx,ku,m,M,rfl,tr,hPM,tg,F0,ok,hb,hl,nd,hc,hz,lj,hd,he,hq,kn,ks⟩:=h;have hmu:(A'.deeper (yK "best_release" (aO iu) s.heap.objs.size f (.ref c0))).units+20<mv:=by have:=hr.un;omega
  have hmd:(A'.deeper (yK "best_release" (aO iu) s.heap.objs.size f (.ref c0))).depth<w8:=hr.depth;have hrL:∀{env:Env},jx 1 ((A'.deeper (yK "best_release" (aO iu) s.heap.objs.size f (.ref c0))).in1.deeper env):=λ{env}=>((hr.mono (show 3<=8 by decide)).in1).deeper env;refine ag (ax (cg (i:=5) uP.nd rfl fz (bF (nF T) hr.mono rfl (aI (pv 0) (aI (pv 1) (aI (eN cU (pv 3) bB (λ_ _=>rfl)) (aI (eN cU (pv 3) bB (λ_ _=>rfl)) (aI (pv 4) aq))))))) (aG (aY (Xw (i:=0) rfl hmu hmd rfl T.b.Yb hCD hBM rfl (aI (bF (qi T) hr.mono rfl (aI (pv 5) (aI (eN cU (pv 3) bB (λ_ _=>rfl)) (aI (pv 1) (aI (pv 2) aq))))) aq) (λ_ _ _ _=>(Y4 (aI (cp (pv 1) T.iw.cl (mT T) hrL (aI (kL (K:=K) rfl (pv 0) rfl) aq)) (aI (kL (K:=K) rfl (pv 0) rfl) (aI (kL (K:=K) rfl (pv 0) rfl) aq))))) rfl rfl (Sw (XN rfl)) rfl rfl rfl rfl rfl rfl rfl rfl (λ_ _ _ _=>rfl))))) ?_;refine ba ?_;refine ag rfl (ag rfl (ag rfl (iE d _ _ _ rfl rfl hd (cN (j:=0) rfl) (ag rfl (iE d _ _ _ rfl rfl hd (cN (j:=1) rfl) (ag rfl (qt a b e fm l q kx ku M ⟨rfl,tr,F0.mono (bY H M),ok,hb,hl,nd,he,hq,λD H1 xs hD s1 e1 hP=>?_⟩)))))));refine ck ?_;refine jh ?_;have SH:=Paired.len hP;have aak:=wQ ok (q.map λb=>b==1);have Xp:wR A (cut H1 M) (xs.zip ((choices (fm.columns.zip (q.map λb=>b==1))).map λls=>iF fm.columns (l.map (·.2)) ls kx ku)):=⟨zQ hP,by rw[eK,aa];omega⟩;have W4:iZ xs=OV (xs.zip ((choices (fm.columns.zip (q.map λb=>b==1))).map λls=>iF fm.columns (l.map (·.2)) ls kx ku)):=J8 SH;have JV:(xs.zip ((choices (fm.columns.zip (q.map λb=>b==1))).map λls=>iF fm.columns (l.map (·.2)) ls kx ku)).map (·.2)=(choices (fm.columns.zip (q.map λb=>b==1))).map λls=>iF fm.columns (l.map (·.2)) ls kx ku:=aa4 (by rw[SH];exact aK _);generalize xs.zip ((choices (fm.columns.zip (q.map λb=>b==1))).map λls=>iF fm.columns (l.map (·.2)) ls kx ku)=o at Xp W4 JV;rw[W4] at e1;refine ag rfl (ag rfl (iE d _ _ _ rfl rfl (s1.seq hd) (cN (j:=2) rfl) (ag rfl (ag rfl (qt D b c fm.columns o m l gQ zs ⟨rfl,e1,Xp.mono (bY _ _),s1 _ _ hb,hl.mono s1,s1 _ _ hc,gX.mono s1 hz,λD2 H2 CF s2 e2=>?_⟩)))));obtain⟨L,hLe⟩:∃L,L=(o.filter λp=>iz m p.2).filter λp=>mi (zs++[p.2]) (l.map (·.2)):=⟨_,rfl⟩;rw[<-hLe] at e2;have hLo:∀p∈L,p∈o:=λp hp=>by rw[hLe] at hp;exact(bH.mp (bH.mp hp).1).1
  have hL2:L.map (·.2)=(((choices (fm.columns.zip (q.map λb=>b==1))).map λls=>iF fm.columns (l.map (·.2)) ls kx ku).filter λz=>iz m z).filter λz=>mi (zs++[z]) (l.map (·.2)):=by rw[hLe,iy (λz:Rl=>mi (zs++[z]) (l.map (·.2))),iy (λz:Rl=>iz m z),JV]
  have zC:∀p∈L,p.2=iF fm.columns (l.map (·.2)) p.2.levels kx ku/\lL fm.columns p.2.levels:=λp hp=>by
   have h1:p.2∈o.map (·.2):=au.mpr (bq p (hLo p hp) rfl);rw[JV] at h1;obtain⟨ls,h2,h3⟩:=au.mp h1;have h4:=ux h2;have e4:(fm.columns.zip (q.map λb=>b==1)).map (·.1)=fm.columns:=by rw[aa2];rw[aa,hq];exact aK _
   rw[e4] at h4;rw[<-h3];exact⟨rfl,h4⟩
  have ad0:∀p∈L,nB A (cut H2 M) p.1 p.2:=λp hp=>(Xp.at' p (hLo p hp)).mono (dR s2);have zO:=s1.trans s2;have Yr:=Sb (cs:=fm.columns) (rows:=l.map (·.2)) (by rw[aQ];exact nd) lj (q.map λb=>b==1) kx ku m hL2;refine gB D2 (L.map λp=>(p.1,keyOf fm.columns p.2)) fm.columns.length (.ref a) rfl (by rw[e2];unfold OV;rw[aQ];rfl) (tg.mono zO) rfl (λp hp=>?_) ⟨λp hp H3 H4 s3 s4=>?_,λH3 s3 tg3=>?_⟩
  ·obtain⟨z,HE,rfl⟩:=au.mp hp;show(z.2.levels.map _).length=_;rw[aa];exact(zC z HE).2.1
  ·obtain⟨z,HE,rfl⟩:=au.mp hp;have sM:aT (cut H2 M) H3:=(Xx (S:=[Pt]) λb hb=>by rw[show b=Pt by simpa using hb];exact hPM).trans s3;refine jT ?_ ((ad0 z HE).mono sM);rintro U9 ll ld z1 z2 z3;have F4:gW A H4 a fm:=((F0.mono (dR zO)).mono sM).mono s4;refine ip ?_ (id F4);rintro Qx lc lv as f1 f2 f3 f4;refine mI f1 kJ (fI (s4 _ _ z1) T.rel.cl T.rel.p5 kI (gB a ll fm z.2.levels rfl F4 ok (bG.of (s4 _ _ z2)) ((zC z HE).2) (λH5 s5=>fI (s5 _ _ (s4 _ _ z1)) T.rel.cl T.rel.tR p8 (fI (s5 _ _ (s4 _ _ z1)) T.rel.cl T.rel.p5 kI ⟨by show 3<=aA;decide,λt ht=>⟨s5.trans (aD ht),bq t rfl (bq ll ai ?_)⟩⟩))));rw[z2,VA];rfl
  ·rw[O1]
   cases eb:bestOf (λp:af×Rl=>keyOf fm.columns p.2) L with
   |none=>exact kn H3 ((c6.of zO).trans s3) tg3 (by rw[Yr,eb];rfl)
   |some p=>have hpL:=O2 eb;exact ks p.1 p.2 H3 ((c6.of zO).trans s3) tg3 (by rw[Yr,eb];rfl) (zC p hpL).1 (zC p hpL).2 ((ad0 p hpL).mono (MN s3 hPM))
end
abbrev l8:=Vbslai.House
abbrev uV(l:List PR):List (Key×V):=l.map λp=>(Gn p.2.who,V.ref p.1)
def MQ(A:Cl):Sp:=λvs H Q _=>∃(p dx:af),vs=[.ref p]/\H p=some (.ins A.d7 dx [])/\
 ∀(rd rl:af)(H':Hp),H rd=none->H rl=none->rd≠rl->H' p=some (.ins A.d7 dx (lC .h9 (.ref rd) (.ref rl)))->H' rd=some (.dK [])->H' rl=some (.lst [])->(∀b o,H b=some o->b≠p->H' b=some o)->Q .h9 H'
theorem MR(T:Txt K mg A):C0 P w K mg base "House" A.d7 1 ["self"] (MQ A):=by
 refine T.d7.init.g8 LG (λf _ A' _ s H vs Q E hr=>j7 ?_)
 ·rintro p dx rfl hp k;refine ag (ax (d9 (pv 0) lT rfl) (ax (d9 (pv 0) D0 rfl) (aG (d9 (pv 0) (bZ aq) rfl)))) ?_;refine ba ?_;refine ag rfl (sJ hp T.d7.cl T.d7.gK (by decide) ?_);refine ba ?_;refineλrd SM=>?_;have p1:p≠rd:=aR ai SM;refine ag rfl (sJ (by rw[ay p1];exact ai) T.d7.cl T.d7.kl LX ?_);refine⟨bE _,λrl xA=>?_⟩;have p2:p≠rl:=aR ai xA;have p3:rd≠rl:=λe=>by
   subst e;rw[ay p1.symm,ai] at xA;cases xA
  refine ag rfl (sJ (by rw[ay p2];exact ai) T.d7.cl T.d7.gb put2 ?_);have h1:H rd=none:=by rw[ay p1.symm] at SM;exact SM
  have h2:H rl=none:=by rw[ay p2.symm,ay p3.symm,ay p2.symm] at xA;exact xA
  refine k rd rl _ h1 h2 p3 ?_ ?_ ?_ λb o e hb=>?_
  ·rw[ai,Ot]
  ·rw[ay p1.symm,ay p3,ay p1.symm,ai]
  ·rw[ay p2.symm,ai]
  ·rw[ay hb,ay (aR e h2),ay hb,ay (aR e h1),ay hb];exact e
def J9(A:Cl):Sp:=λvs H Q _=>∃(p dx:af)(v v1 v2 v3:V),vs=[.ref p,v]/\H p=some (.ins A.d7 dx (lC v1 v2 v3))/\
 ∀(rd rl:af)(H':Hp),H rd=none->H rl=none->rd≠rl->H' p=some (.ins A.d7 dx (lC v (.ref rd) (.ref rl)))->H' rd=some (.dK [])->H' rl=some (.lst [])->(∀b o,H b=some o->b≠p->H' b=some o)->Q .h9 H'
theorem Ka(T:Txt K mg A):i5 P w K mg base A.d7 "begin" 1 ["self","form"] (J9 A):=by
 refine T.d7.begin_.g8 Jz (λf _ A' _ s H vs Q E hr=>nJ ?_)
 ·rintro p dx v v1 v2 v3 ⟨rfl,hp,k⟩;refine ag (ax (d9 (pv 0) (pv 1) rfl) (ax (d9 (pv 0) D0 rfl) (aG (d9 (pv 0) (bZ aq) rfl)))) ?_;refine ba ?_;refine ag rfl (ag rfl (sJ hp T.d7.cl T.d7.gK (by show 3<1000;decide) ?_));rw[E3];refine ba ?_;refineλrd SM=>?_;have p1:p≠rd:=aR ai SM;refine ag rfl (sJ (by rw[ay p1];exact ai) T.d7.cl T.d7.kl (by show 3<1000;decide) ?_);rw[E4];refine⟨bE _,λrl xA=>?_⟩;have p2:p≠rl:=aR ai xA;have p3:rd≠rl:=λe=>by
   subst e;rw[ay p1.symm,ai] at xA;cases xA
  refine ag rfl (sJ (by rw[ay p2];exact ai) T.d7.cl T.d7.gb (by show 3<1000;decide) ?_);rw[zp];have h1:H rd=none:=by rw[ay p1.symm] at SM;exact SM
  have h2:H rl=none:=by rw[ay p2.symm,ay p3.symm,ay p2.symm] at xA;exact xA
  refine k rd rl _ h1 h2 p3 ai ?_ ?_ λb o e hb=>?_
  ·rw[ay p1.symm,ay p3,ay p1.symm,ai]
  ·rw[ay p2.symm,ai]
  ·rw[ay hb,ay (aR e h2),ay hb,ay (aR e h1),ay hb];exact e
def wW(A:Cl):Sp:=λvs H Q _=>∃(p dx rd:af)(v1 v3:V)(kvs:List (Key×V)),vs=[.ref p]/\H p=some (.ins A.d7 dx (lC v1 (.ref rd) v3))/\H rd=some (.dK kvs)/\
 ∀D H',H D=none->aT H H'->H' D=some (.lst (kvs.map (·.2)))->Q (.ref D) H'
theorem eV(T:Txt K mg A):i5 P w K mg base A.d7 "rows_in_order" 1 ["self"] (wW A):=by
 refine T.d7.EL.g8 wC (λf _ A' _ s H vs Q E hr=>nJ ?_)
 ·rintro p dx rd v1 v3 kvs ⟨rfl,hp,hd,k⟩;refine ag (aG (aY (sd (Ff rfl) (by rfl) T.b.UG Qb (aI (Xb (bo (pv 0) rfl)) aq)))) ?_;refine fI hp T.d7.cl T.d7.kl fB (bt rd kvs rfl hd (λq hq=>jK q rd kvs rfl ai ⟨aD hq _ _ hd,λD hD=>?_⟩));exact k D _ ((aD hq).free hD) ((aD hq).trans (aD hD)) ai
def x8(A:Cl):Sp:=λvs H Q _=>∃(p dx ra rl:af)(v1 v2:V)(gQ:List af)(zs:List Rl)(r:gi),vs=[.ref p,.ref ra]/\H p=some (.ins A.d7 dx (lC v1 v2 (.ref rl)))/\H rl=some (.lst (iZ gQ))/\gX A H gQ zs/\zs.length<=100/\sG A H ra r/\
 ∀H',aT H H'->Q (.bl (zs.any λz=>(z.lk.lookup r.who).isSome)) H'
theorem x9(T:Txt K mg A):i5 P w K mg base A.d7 "has_released" 2 ["self","row"] (x8 A):=by
 refine T.d7.GU.g8 kZ (λf _ A' _ s H vs Q E hr=>o5 ?_)
 ·rintro p dx ra rl v1 v2 gQ zs r ⟨rfl,hp,xA,hz,PU,QC,k⟩;refine cH ?_ (Paired.unzip hz);rintro o e1 e2 hat;subst e1 e2;have Sd:H rl=some (.lst (o.map λp=>V.ref p.1)):=by rw[xA,AG]
  refine ag (aG (aY (cJ (Ze rfl) (by rfl) T.b.acY Zw (aI (ia rfl (own:=[("release",2)]) kZ.nd (dI (bo (pv 0) rfl)) (cR (by kernel_rfl)) (λ_ _ _ _ _=>(bU (i:=2) kZ.nd rfl fz)) (λ_ _ _ _ _=>eQ) (λ_ _ _ _ _=>(cp (pv 2) T.rel.cl (uf T) hr.mono (aI (pv 1) aq)))) aq)))) ?_;refine kK ?_;refine fC ?_;refine fI hp T.d7.cl T.d7.gb eB (bP rl rfl ⟨_,bG.of Sd⟩ ?_);rw[aa] at PU;refine j5 (l:=o) (enc:=λp:af×Rl=>V.ref p.1) (f:=λp=>.bl (p.2.lk.lookup r.who).isSome) (bG.of Sd) (ao PU (by decide)) (λi x H' R hx k' hR=>?_) (λD H' hD hs he=>?_)
  ·have Zu:=(hat x (aN hx)).mono k';refine jT ?_ (id Zu);rintro U9 ll ld z1 z2 z3;exact⟨rfl,mI z1 pf (ag rfl (oJ x.1 ra x.2 r rfl Zu (QC.mono k') (hR _ (aT.refl _))))⟩
  ·refine bt D (o.map λp=>(p.2.lk.lookup r.who).isSome) rfl (bG.of (by rw[he,aQ];rfl)) ?_;have e:(o.map λp=>(p.2.lk.lookup r.who).isSome).any id=(o.map (·.2)).any λz=>(z.lk.lookup r.who).isSome:=by rw[rL,rL];rfl
   rw[e];exact k H' hs
def Hm(A:Cl):Sp:=λvs H Q _=>∃(p dx rd rl:af)(v1:V)(cs:List bA)(l:List PR)(r:PR)(gQ:List af)(zs:List Rl),vs=[.ref p,.int (r.2.who:Nat)]/\H p=some (.ins A.d7 dx (lC v1 (.ref rd) (.ref rl)))/\H rd=some (.dK (uV l))/\jc (uV l) (Gn r.2.who)=some (.ref r.1)/\sG A H r.1 r.2/\gA A cs H l/\
 H rl=some (.lst (iZ gQ))/\gX A H gQ zs/\∀(x:af)(H':Hp),aT H H'->yG A H' l zs x r->Q (.ref x) H'
theorem yI(T:Txt K mg A):i5 P w K mg base A.d7 "hiding" 5 ["self","w"] (Hm A):=by
 refine T.d7.WV.g8 G9 (λf _ A' _ s H vs Q E hr=>Pw ?_)
 ·rintro p dx rd rl v1 cs l r gQ zs ⟨rfl,hp,hd,hv,QC,hl,xA,hz,k⟩;have hu:=ur hr;have hg:jL H rd (.int (r.2.who:Nat)) (some (.ref r.1)):=by rw[<-hv];exact jL.k (k:=Gn r.2.who) hd
  refine ag (aG (aY (bF (AJ T) hr.mono rfl (aI (tu hu (bo (pv 0) rfl) (pv 1) (λ_ _=>rfl)) (aI (dv (pv 0) T.d7.cl (eV T) hr.mono) (aI (bo (pv 0) rfl) aq)))))) ?_;refine fI hp T.d7.cl T.d7.kl fB (ag rfl (bt rd _ rfl hg (mI hp dZ (jb p dx rd _ _ _ ⟨rfl,hp,hd,λD H1 hD s1 e1=>?_⟩))));have Yi:H1 D=some (.lst (qh l)):=by rw[e1];unfold uV qh;rw[aQ];rfl
  refine fI (s1 _ _ hp) T.d7.cl T.d7.gb eB (Iz D rl cs r l gQ zs ([]) ⟨rfl,Tr.nil,QC.mono s1,by rw[ub];exact Yi,hl.mono s1,s1 _ _ xA,gX.mono s1 hz,λx H2 s2 h2=>?_⟩);rw[ub] at h2;exact k x H2 (s1.trans s2) h2
section
open Vbslai (choices within askedOk)
theorem sV{x lo hi:Int}(h:¬lo<=x):within x lo hi=false:=by unfold within;rw[decide_eq_false h];rfl
theorem kN{x lo hi:Int}(h:lo<=x):within x lo hi=decide (x<=hi):=by unfold within;rw[decide_eq_true h];rfl
theorem FD{f:d8}{k u m:Int}{l:List Int}(h:md f k u m l=true):0<=k/\0<=u/\0<=m/\l.length=f.columns.length:=by have ew:md f k u m l=(within k 1 40&&(within u 1 12&&(within m 0 40&&askedOk f.columns l))):=rfl;rw[ew] at h;simp only[aL,ir] at h;obtain⟨h1,h2,h3,h4⟩:=h;unfold oG at h4;rw[aL] at h4;exact⟨by omega,by omega,by omega,by simpa using h4.1⟩
def AS(K:ah)(A:Cl):Sp:=λvs H Q _=>∃(a b:af)(f:d8)(w s:Int)(l:List Int),vs=[.ref a,.int w,.int s,.ref b]/\gW A H a f/\iN f/\bG K H b (j8 l)/\l.length<=100/\
 ∀H',aT H H'->Q (.bl (within w 0 999&&(Wh f s&&Nn f.columns l))) H'
theorem rm(T:Txt K mg A):Def P w K mg base "is_row_as_told" 3 ["form","w","s","cells"] (AS K A):=by
 refine T.kR.EN.g8 AA (λf _ A' _ s H vs Q E hr=>nJ ?_)
 ·rintro a b fm w0 s0 l ⟨rfl,F0,ok,hS,hl,k⟩;refine ip ?_ (id F0);rintro dx lc lv as h1 h2 h3 h4;have eX:∀bb H',(within w0 0 999&&(Wh fm s0&&Nn fm.columns l))=bb->aT H H'->Q (.bl bb) H':=λbb H' h2 h3=>by rw[<-h2];exact k H' h3
  refine ag (aG (aY (mx (kg iH iH bB (pv 1) (cY T.k.BG rfl)) (mx (cp (pv 0) T.iw.cl (xW T) hr.mono (aI (pv 2) aq)) (pL (cp (pv 0) T.iw.cl (zB T) hr.mono (aI (pv 3) aq))))))) ?_;refine ag rfl (bt _ _ rfl rfl (ag rfl (fG (λq1=>bt _ _ rfl rfl (ag rfl (fG (λq2=>?_) (λq2=>?_)))) (λq1=>?_))))
  ·refine mI h1 u7 (ag rfl (jK a fm s0 rfl F0 (ag rfl (Es (λq3=>?_) (λq3=>?_)))))
   ·refine mI h1 wx (ag rfl (gB a b fm l rfl F0 ok hS hl (λH' s'=>eX _ H' ?_ s')));rw[kN q1,decide_eq_true q2,q3];rfl
   ·refine eX _ H ?_ (aT.refl _);rw[q3];simp
  ·refine eX _ H ?_ (aT.refl _);rw[kN q1,decide_eq_false q2];rfl
  ·refine ag rfl (lh (eX _ H ?_ (aT.refl _)));rw[sV q1];rfl
def uh:Sp:=λvs H Q _=>∃(k u:Int),vs=[.int k,.int u]/\Q (.bl (within k 1 40&&within u 1 12)) H
theorem mX(T:Txt K mg A):Def P w K mg base "are_k_and_u_as_told" 1 ["k","u"] uh:=by
 refine T.kR.xJ.g8 tZ (λf _ A' _ s H vs Q E hr=>jk ?_)
 ·rintro k0 u0 rfl k;have eX:∀bb,(within k0 1 40&&within u0 1 12)=bb->Q (.bl bb) H:=λbb h2=>by rw[<-h2];exact k
  refine ag (aG (aY (mx (kg iH iH bB (pv 0) (cY T.k.Oe rfl)) (pL (kg iH iH bB (pv 1) (cY T.k.Of rfl)))))) ?_;refine ag rfl (bt _ _ rfl rfl (ag rfl (fG (λq1=>bt _ _ rfl rfl (ag rfl (fG (λq2=>?_) (λq2=>?_)))) (λq1=>?_))))
  ·refine ag rfl (bt _ _ rfl rfl (ag rfl (fG (λq3=>bt _ _ rfl rfl (eX _ ?_)) (λq3=>eX _ ?_))))
   ·rw[kN q1,decide_eq_true q2,kN q3];rfl
   ·rw[sV q3,iY]
  ·refine eX _ ?_;rw[kN q1,decide_eq_false q2];rfl
  ·refine ag rfl (lh (eX _ ?_));rw[sV q1];rfl
def zR(K:ah)(A:Cl):Sp:=λvs H Q _=>∃(a b c:af)(f:d8)(k u m:Int)(l:List Int),vs=[.ref a,.ref b,.ref c]/\gW A H a f/\bG K H b (j8 [k,u,m])/\bG K H c (j8 l)/\l.length<=100/\
 ∀H',aT H H'->Q (.bl (md f k u m l)) H'
theorem l9(T:Txt K mg A):Def P w K mg base "is_plan_as_told" 2 ["form","numbers","asked"] (zR K A):=by
 refine T.kR.C2.g8 zw (λf _ A' _ s H vs Q E hr=>Kt ?_)
 ·rintro a b c fm k0 u0 m0 l ⟨rfl,F0,hb,hc,hl,k⟩;refine ip ?_ (id F0);rintro dx lc lv as h1 h2 h3 h4;have ew:md fm k0 u0 m0 l=(within k0 1 40&&(within u0 1 12&&(within m0 0 40&&askedOk fm.columns l))):=rfl;have eX:∀bb H',md fm k0 u0 m0 l=bb->aT H H'->Q (.bl bb) H':=λbb H' h2 h3=>by rw[<-h2];exact k H' h3
  refine ag (aG (aY (mx (bF (mX T) hr.mono rfl (aI (eN cU (pv 1) bB (λ_ _=>rfl)) (aI (eN cU (pv 1) bB (λ_ _=>rfl)) aq))) (mx (kg iH iH bB (eN cU (pv 1) bB (λ_ _=>rfl)) (cY T.k.Og rfl)) (pL (cp (pv 0) T.iw.cl (zF T) hr.mono (aI (pv 2) aq))))))) ?_;refine ag rfl (iE b _ _ _ rfl rfl hb (cN (j:=0) rfl) (ag rfl (iE b _ _ _ rfl rfl hb (cN (j:=1) rfl) (fu k0 u0 rfl (ag rfl (Es (λq1=>?_) (λq1=>?_)))))))
  ·rw[aL] at q1;refine ag rfl (iE b _ _ _ rfl rfl hb (cN (j:=2) rfl) (bt _ _ rfl rfl (ag rfl (fG (λq2=>bt _ _ rfl rfl (ag rfl (fG (λq3=>?_) (λq3=>?_)))) (λq2=>?_)))))
   ·refine mI h1 wy (ag rfl (iE a c fm l rfl F0 hc hl (λH' s'=>eX _ H' ?_ s')));rw[ew,q1.1,q1.2,kN q2,decide_eq_true q3];rfl
   ·refine eX _ H ?_ (aT.refl _);rw[ew,kN q2,decide_eq_false q3];simp
   ·refine ag rfl (lh (eX _ H ?_ (aT.refl _)));rw[ew,sV q2];simp
  ·refine eX _ H ?_ (aT.refl _);rw[ew,<-oF,q1];rfl
def B2:Sp:=λvs H Q _=>∃l:aH,vs=[.str (sN l)]/\l.length<aA/\∀D H',H D=none->aT H H'->H' D=some (.lst (gZ (l.length::l)))->Q (.ref D) H'
theorem nR(T:Txt K mg A):Def P w K mg base "counted_bytes" 2 ["text"] B2:=by
 refine T.kR.GW.g8 BN (λf _ A' _ s H vs Q E hr=>cH ?_)
 ·rintro l rfl hl k;refine ag (aG (aY (fo jU (bZ (aI (cJ tp (by rfl) T.b.dS cP (aI (pv 0) aq)) aq)) (bF (LO T) hr.mono rfl (aI (pv 0) aq))))) ?_;refine ag rfl (iL _ rfl (by rw[jm];exact cX hl) (by show 1<=aA;decide) (λq hq=>ag rfl (bP l rfl (cX hl) (λD H1 hD s1 e1=>?_))));refine gB q D _ _ rfl rfl (s1 _ _ ai) e1 ?_ (λz hz=>?_)
  ·rw[eI];show 1+l.length<=aA;omega
  ·refine k z _ ((aD hq).free (s1.free hz)) (((aD hq).trans s1).trans (aD hz)) ?_;rw[ai,jm];rfl
def FE(K:ah)(A:Cl):Sp:=λvs H Q _=>∃(a b c d e:af)(fm:d8)(l:List PR)(gQ:List af)(zs:List Rl)(qs:List fV)(q:List Int)(x u m:Nat),vs=[.ref a,.ref b,.ref c,.ref d,.ref e]/\
 gW A H a fm/\iN fm/\H b=some (.lst (qh l))/\gA A fm.columns H l/\(l.map (·.2.who)).Nodup/\H c=some (.lst (iZ gQ))/\gX A H gQ zs/\kj fm.columns (l.map (·.2)) zs qs/\bG K H d (j8 [(x:Int),(u:Int),(m:Int)])/\bG K H e (j8 q)/\q.length=fm.columns.length/\
 ∀D H',H D=none->aT H H'->H' D=some (.lst (gZ [(choices (fm.columns.zip (q.map λb=>b==1))).length,(Ge fm.columns qs (l.map (·.2)) (q.map λb=>b==1) x u m).length,(Ge fm.columns [] (l.map (·.2)) (q.map λb=>b==1) x u m).length]))->Q (.ref D) H'
theorem FF(T:Txt K mg A):Def P w K mg base "next_counts" 7 ["form","rows","releases","numbers","asked"] (FE K A):=by
 refine T.yz.Ll.ok qd (λvs H Q E h=>?_) (λf _ A' _ s H vs Q E hr h=>?_)
 ·obtain⟨a,b,c,d,e,fm,l,gQ,zs,qs,q,x,u,m,rfl,_⟩:=h;rfl
 ·obtain⟨a,b,c,d,e,fm,l,gQ,zs,qs,q,kx,ku,m,rfl,F0,ok,hb,hl,nd,hc,hz,lj,hd,he,hq,k⟩:=h;refine ag (ax (cg (i:=5) qd.nd rfl fz (bF (nF T) hr.mono rfl (aI (pv 0) (aI (pv 1) (aI (eN cU (pv 3) bB (λ_ _=>rfl)) (aI (eN cU (pv 3) bB (λ_ _=>rfl)) (aI (pv 4) aq))))))) (ax (cg (i:=6) qd.nd rfl fz (eN cU (pv 3) bB (λ_ _=>rfl))) (aG (aY (bZ (aI (cJ bx (by rfl) T.b.dS cP (aI (pv 5) aq)) (aI (cJ bx (by rfl) T.b.dS cP (aI (bF (qi T) hr.mono rfl (aI (pv 5) (aI (pv 6) (aI (pv 1) (aI (pv 2) aq))))) aq)) (aI (cJ bx (by rfl) T.b.dS cP (aI (bF (yH T) hr.mono rfl (aI (pv 5) (aI (pv 6) aq))) aq)) aq)))))))) ?_;refine ba ?_;refine ag rfl (ag rfl (ag rfl (iE d _ _ _ rfl rfl hd (cN (j:=0) rfl) (ag rfl (iE d _ _ _ rfl rfl hd (cN (j:=1) rfl) (ag rfl (qt a b e fm l q kx ku ([]) ⟨rfl,(λm hm=>nomatch hm),F0,ok,hb,hl,nd,he,hq,λD H1 xs hD s1 e1 hP=>?_⟩)))))));refine ck ?_;refine ba ?_;refine ag rfl (iE d _ _ _ rfl rfl (s1.seq hd) (cN (j:=2) rfl) ?_);refine ck ?_;refine jh ?_;rw[ub] at hP;have SH:=Paired.len hP;have aak:=wQ ok (q.map λb=>b==1);have Xp:wR A H1 (xs.zip ((choices (fm.columns.zip (q.map λb=>b==1))).map λls=>iF fm.columns (l.map (·.2)) ls kx ku)):=⟨zQ hP,by rw[eK,aa];omega⟩;have W4:iZ xs=OV (xs.zip ((choices (fm.columns.zip (q.map λb=>b==1))).map λls=>iF fm.columns (l.map (·.2)) ls kx ku)):=J8 SH;have JV:(xs.zip ((choices (fm.columns.zip (q.map λb=>b==1))).map λls=>iF fm.columns (l.map (·.2)) ls kx ku)).map (·.2)=(choices (fm.columns.zip (q.map λb=>b==1))).map λls=>iF fm.columns (l.map (·.2)) ls kx ku:=aa4 (by rw[SH];exact aK _);generalize xs.zip ((choices (fm.columns.zip (q.map λb=>b==1))).map λls=>iF fm.columns (l.map (·.2)) ls kx ku)=o at Xp W4 JV;rw[W4] at e1;have ndr:((l.map (·.2)).map (·.who)).Nodup:=by rw[aQ];exact nd
  refine ag rfl (bt D _ rfl (.inl (bG.of e1)) (ag rfl (ag rfl (ag rfl (ag rfl (qt D b c fm.columns o m l gQ zs ⟨rfl,e1,Xp,s1 _ _ hb,hl.mono s1,s1 _ _ hc,gX.mono s1 hz,λD2 H2 CF s2 e2=>bt D2 _ rfl (.inl (bG.of e2)) ?_⟩))))));refine ag rfl (ag rfl (jK D o m rfl (s2 _ _ e1) ⟨Xp.mono s2,λD3 H3 hD3 s3 e3=>dH D3 _ rfl (.inl (bG.of e3)) (by show 3<=aA;decide) (λz hz=>?_)⟩));refine k z _ (s1.free (s2.free (s3.free hz))) (((s1.trans s2).trans s3).trans (aD hz)) ?_;have l0:(OV o).length=(choices (fm.columns.zip (q.map λb=>b==1))).length:=by unfold OV;rw[aa];have:=congrArg Bf JV;rw[aa,aa] at this;exact this
  have l1:(OV ((o.filter λp=>iz m p.2).filter λp=>mi (zs++[p.2]) (l.map (·.2)))).length=((((choices (fm.columns.zip (q.map λb=>b==1))).map λls=>iF fm.columns (l.map (·.2)) ls kx ku).filter λz=>iz m z).filter λz=>mi (zs++[z]) (l.map (·.2))).length:=by rw[<-JV,<-iy (λz:Rl=>iz m z),<-iy (λz:Rl=>mi (zs++[z]) (l.map (·.2)))];unfold OV;rw[aa,aa]
  have l2:(OV (o.filter λp=>iz m p.2)).length=(((choices (fm.columns.zip (q.map λb=>b==1))).map λls=>iF fm.columns (l.map (·.2)) ls kx ku).filter λz=>iz m z).length:=by rw[<-JV,<-iy (λz:Rl=>iz m z)];unfold OV;rw[aa,aa]
  have lp:=congrArg Bf (FC ndr lj (q.map λb=>b==1) kx ku m);rw[aa] at lp;rw[ai,MM ndr,lp,l0,l1,l2];rfl
end
section
open Vbslai (nums)
structure Se(A:Cl)(M:List af)(H:Hp)(f:d8)(fv:V)(l:List PR)(zs:List Rl)(h:l8):Prop where
 ex:∃fa,fv=.ref fa/\gW A (cut H M) fa f
 ok:iN f
 rows:gA A f.columns (cut H M) l
 rl:kj f.columns h.rows zs h.releases
 lv:∀z∈zs,lL f.columns z.levels
 has:∀q∈h.releases,∀w∈q.has,w∈h.rows.map (·.who)
structure rG(A:Cl)(Pt g:af)(M:List af)(H:Hp)(hs:af)(h:l8)(dx rd rl:af)(l:List PR)(gQ:List af)(zs:List Rl)(fv:V):Prop where
 tr:RX M H
 pm:Pt∈M
 gm:g∈M
 hm:hs∈M
 dm:rd∈M
 lm:rl∈M
 gh:hs≠g
 gd:rd≠g
 gl:rl≠g
 gp:Pt≠g
 tg:qm MO MP Pt H
 ins:H hs=some (.ins A.d7 dx (lC fv (.ref rd) (.ref rl)))
 xY:H rd=some (.dK (uV l))
 lst:H rl=some (.lst (iZ gQ))
 rows:l.map (·.2)=h.rows
 nd:(h.rows.map (·.who)).Nodup
 ya:gX A (cut H M) gQ zs
 Sf:zs.length<=4
 iw:match h.form with
  |none=>fv=.h9
  |some f=>Se A M H f fv l zs h
def Sg(A:Cl)(Pt g:af)(M:List af)(H:Hp)(hs:af)(h:l8):Prop:=∃dx rd rl l gQ zs fv,rG A Pt g M H hs h dx rd rl l gQ zs fv
theorem Se.mono{A:Cl}{M:List af}{H H':Hp}{f:d8}{fv:V}{l:List PR}{zs:List Rl}{h:l8}(e:aT (cut H M) (cut H' M))(x:Se A M H f fv l zs h):Se A M H' f fv l zs h:=⟨let⟨fa,a,b⟩:=x.ex;(bq fa a (b.mono e)),x.ok,x.rows.mono e,x.rl,x.lv,x.has⟩
section
variable{A:Cl}{Pt g hs dx rd rl:af}{M:List af}{H H':Hp}{h:l8}{l:List PR}{gQ:List af}{zs:List Rl}{fv:V}
theorem rG.keep(S:rG A Pt g M H hs h dx rd rl l gQ zs fv)(tr:RX M H')(tg:qm MO MP Pt H')(e1:H' hs=H hs)(e2:H' rd=H rd)(e3:H' rl=H rl)(e:aT (cut H M) (cut H' M)):rG A Pt g M H' hs h dx rd rl l gQ zs fv where
 tr:=tr
 pm:=S.pm
 gm:=S.gm
 hm:=S.hm
 dm:=S.dm
 lm:=S.lm
 gh:=S.gh
 gd:=S.gd
 gl:=S.gl
 gp:=S.gp
 tg:=tg
 ins:=by rw[e1];exact S.ins
 xY:=by rw[e2];exact S.xY
 lst:=by rw[e3];exact S.lst
 rows:=S.rows
 nd:=S.nd
 ya:=gX.mono e S.ya
 Sf:=S.Sf
 iw:=by
  have:=S.iw
  cases q:h.form with
  |none=>rw[q] at this;exact this
  |some f=>rw[q] at this;exact Se.mono e this
theorem rG.mono(S:rG A Pt g M H hs h dx rd rl l gQ zs fv)(e:aT H H'):rG A Pt g M H' hs h dx rd rl l gQ zs fv:=S.keep (S.tr.mono e) (S.tg.mono e) (by rw[S.ins];exact e _ _ S.ins) (by rw[S.xY];exact e _ _ S.xY) (by rw[S.lst];exact e _ _ S.lst) (dR e)
theorem rG.form{f:d8}(S:rG A Pt g M H hs h dx rd rl l gQ zs fv)(q:h.form=some f):Se A M H f fv l zs h:=by have:=S.iw;rw[q] at this;exact this
theorem rG.ndl(S:rG A Pt g M H hs h dx rd rl l gQ zs fv):(l.map (·.2.who)).Nodup:=by have:=S.nd;rw[<-S.rows,aQ] at this;exact this
theorem Sg.mono(S:Sg A Pt g M H hs h)(e:aT H H'):Sg A Pt g M H' hs h:=let⟨dx,rd,rl,l,gQ,zs,fv,x⟩:=S;(xF dx rd rl l gQ zs fv (x.mono e))
theorem qm.off{lp:Pos}{lq:Str}{o:HO}{xs:List V}(hg:H g=some (.lst xs))(x:qm lp lq Pt H):qm lp lq Pt (upd H g o):=by
 rcases x with e|⟨c,e,ec⟩
 ·exact .inl (by rw[ay (gH e hg (λz=>nomatch z))];exact e)
 ·exact .inr (bq c (by rw[ay (gH e hg (λz=>nomatch z))];exact e) (by rw[ay (gH ec hg (λz=>by unfold AR at z;cases z))];exact ec))
theorem qm.ad1{lp:Pos}{lq:Str}{a:af}{o u:HO}(hg:H a=some u)(n1:∀ps,u≠.vj ps)(n2:∀φ,u≠.ext φ)(x:qm lp lq Pt H):qm lp lq Pt (upd H a o):=by
 rcases x with e|⟨c,e,ec⟩
 ·exact .inl (by rw[ay (gH e hg (λz=>n1 _ z.symm))];exact e)
 ·exact .inr (bq c (by rw[ay (gH e hg (λz=>n1 _ z.symm))];exact e) (by rw[ay (gH ec hg (λz=>n2 _ z.symm))];exact ec))
theorem RX.upd{a:af}{o:HO}(t:RX M H)(n:∀xs,o≠.tup xs):RX M (upd H a o):=λm hm=>by
 by_cases z:m=a
 ·rw[z,ai];exact bq o rfl n
 ·rw[ay z];exact t m hm
theorem Sg.put{xs ys:List V}(S:Sg A Pt g M H hs h)(hg:H g=some (.lst xs)):Sg A Pt g M (upd H g (.lst ys)) hs h:=by refine nK ?_ S;rintro dx rd rl l gQ zs fv x;exact xF dx rd rl l gQ zs fv (x.keep (x.tr.upd (λ_ z=>nomatch z)) (x.tg.off hg) (ay x.gh) (ay x.gd) (ay x.gl) (by rw[tQ x.gm];exact aT.refl _))
theorem qm.vj{lp:Pos}{lq:Str}(x:qm lp lq Pt H):∃ps,H Pt=some (.vj ps):=x.elim (λe=>⟨_,e⟩) λ⟨_,e,_⟩=>⟨_,e⟩
theorem rG.tab(S:rG A Pt g M H hs h dx rd rl l gQ zs fv)(e:c6 [Pt] H H')(tg:qm MO MP Pt H'):rG A Pt g M H' hs h dx rd rl l gQ zs fv/\H' g=H g:=by
 obtain⟨ps,hp⟩:=S.tg.vj;obtain⟨ps',Ii⟩:=tg.vj;have at':∀b o,H b=some o->b≠Pt->H' b=H b:=λb o q n=>by rw[q];exact e.at q (by simpa using n)
 have h1:hs≠Pt:=gH S.ins hp (λz=>nomatch z);have h2:rd≠Pt:=gH S.xY hp (λz=>nomatch z);have h3:rl≠Pt:=gH S.lst hp (λz=>nomatch z);refine⟨S.keep (λm hm=>?_) tg (at' _ _ S.ins h1) (at' _ _ S.xY h2) (at' _ _ S.lst h3) (MN e S.pm),?_⟩
 ·by_cases z:m=Pt
  ·rw[z];exact ag Ii (λxs q=>nomatch q)
  ·obtain⟨o,ho,n⟩:=S.tr m hm;exact bq o (by rw[at' m o ho z];exact ho) n
 ·obtain⟨o,ho,n⟩:=S.tr g S.gm;exact at' g o ho S.gp.symm
theorem c6.VC{a:af}{ps:Array ak}(e:c6 [Pt] H H')(hp:H' Pt=some (.vj ps))(q:H' a=none):H a=none:=by
 cases z:H a with
 |none=>rfl
 |some o=>
  by_cases n:a=Pt
  ·rw[n,hp] at q;cases q
  ·have:=e.at z (by simpa using n);rw[this] at q;cases q
def Ans(A:Cl)(Pt g:af)(M:List af)(H:Hp)(hs:af)(r:l8×List Int)(D:af)(H':Hp):Prop:=∃M',Sg A Pt g M' H' hs r.1/\H' g=H g/\(∀b∈M',b∈M∨H b=none)/\H D=none/\H' D=some (.lst (j8 r.2))/\c6 M H H'
theorem Ans.same{ans:List Int}{D:af}(S:Sg A Pt g M H hs h)(e:aT H H')(hD:H D=none)(q:H' D=some (.lst (j8 ans))):Ans A Pt g M H hs (h,ans) D H':=by refine nK ?_ (id S);rintro dx rd rl l gQ zs fv x;obtain⟨o,ho,_⟩:=x.tr g x.gm;exact iL M (S.mono e) (by rw[ho];exact e _ _ ho) (λb hb=>.inl hb) ⟨hD,q,c6.of e⟩
end
def Ng(K:ah)(A:Cl)(Pt:af)(pre:List Int->List Int->Prop)(c:List Int->List Int->VX):Sp:=λvs H Q _=>∃(hs d e g:af)(M:List af)(h:l8)(fm:d8)(ns row:List Int),
 vs=[.ref hs,.ref d,.ref e]/\Sg A Pt g M H hs h/\h.form=some fm/\H d=some (.lst (j8 ns))/\cut H M e=some (.lst (j8 row))/\pre ns row/\∀D H',Ans A Pt g M H hs (bX h (c ns row)) D H'->Q (.ref D) H'
theorem jo(l:List Nat):j8 (nums l)=gZ l:=by unfold j8 nums gZ;rw[aQ];rfl
theorem ui(w:Int):∀l:List PR,match(l.map (·.2)).find? (λr=>(r.who:Int)==w) with
  |none=>jc (uV l) (cG w:Key)=none
  |some r=>∃a,(a,r)∈l/\jc (uV l) (cG w:Key)=some (.ref a)/\(r.who:Int)=w
 |[]=>rfl
 |p::l=>by
  have ih:=ui w l;rw[br,il];by_cases q:(p.2.who:Int)=w
  ·rw[show((p.2.who:Int)==w)=true by simpa using q];exact bP p.1 (.head _) (vF (p:=(Gn p.2.who,V.ref p.1)) (by unfold Gn;rw[q])) q
  ·rw[show((p.2.who:Int)==w)=false by simpa using q];have e:jc (uV (p::l)) (cG w:Key)=jc (uV l) (cG w:Key):=rX (p:=(Gn p.2.who,V.ref p.1)) λz=>q (Be z);rw[e];dsimp only
   cases q2:(l.map (·.2)).find? (λr=>(r.who:Int)==w) with
   |none=>rw[q2] at ih;exact ih
   |some r=>rw[q2] at ih;refine cH ?_ ih;rintro a h1 h2 h3;exact bP a (.tail _ h1) h2 h3
section
variable{P:bp}{w:bQ}{K:ah}{mg:Str->Option ak}{base:cB}{A:Cl}{Pt:af}
theorem B3(T:Txt K mg A):Def P w K mg base "answer_counts" 1 ["house","numbers","row"] (Ng K A Pt (λ_ _=>True) λ_ _=>.counts):=by
 refine T.kR.GZ.g8 sE (λf _ A' _ s H vs Q E hr=>o5 ?_)
 ·rintro hs d e g M h fm ns row ⟨rfl,S0,hf,hd,he,hp,k⟩;refine nK ?_ (id S0);rintro dx rd rl l gQ zs fv S;have X:=S.form hf;obtain⟨fa,rfl,F0⟩:=X.ex;refine ip ?_ (F0.mono (bY _ _));rintro Qx lc lv as f1 f2 f3 f4;have gC:bX h .counts=(h,0::nums [fm.columns.length,fm.values.length,h.rows.length,h.releases.length]):=by show bJ h _=_;unfold bJ;rw[hf]
  rw[gC] at k;refine ag (ax (cg (i:=3) sE.nd rfl fz (bo (pv 0) rfl)) (aG (aY (bZ (aI bB (aI (cJ bx (by rfl) T.b.dS cP (aI (bo (pv 3) rfl) aq)) (aI (cJ bx (by rfl) T.b.dS cP (aI (bo (pv 3) rfl) aq)) (aI (cJ rZ (by rfl) T.b.dS cP (aI (bo (pv 0) rfl) aq)) (aI (cJ bx (by rfl) T.b.dS cP (aI (bo (pv 0) rfl) aq)) aq))))))))) ?_;refine fI S.ins T.d7.cl T.d7.gK dg ?_;refine fI f1 T.iw.cl T.iw.fk fX (bt lc _ rfl (.inl (bG.of f2)) (fI f1 T.iw.cl T.iw.eh gg (bt lv _ rfl (.inl (bG.of f4)) (fI S.ins T.d7.cl T.d7.kl fB (bt rd _ rfl S.xY (fI S.ins T.d7.cl T.d7.gb eB (dH rl _ rfl (.inl (bG.of S.lst)) (by show 5<=aA;decide) (λD hD=>k D _ (Ans.same S0 (aD hD) hD ?_)))))))));rw[ai];have e1:=Paired.len f3;have e2:=Paired.len S.ya;have e3:=X.rl.len;have e4:l.length=h.rows.length:=by rw[<-S.rows,aa]
  rw[cu,eG,aa,cu,e1,e2,e3,e4];rfl
theorem FG(T:Txt K mg A):Def P w K mg base "answer_cost" 4 ["house","numbers","levels"] (Ng K A Pt (λ_ row=>row.length<=100) λ_ row=>.cost row):=by
 refine T.kR.Lq.g8 E7 (λf _ A' _ s H vs Q E hr=>o5 ?_)
 ·rintro hs d e g M h fm ns row ⟨rfl,S0,hf,hd,he,hp,k⟩;refine nK ?_ (id S0);rintro dx rd rl l gQ zs fv S;have X:=S.form hf;obtain⟨fa,rfl,F0⟩:=X.ex;have F1:=F0.mono (bY _ _);refine ip ?_ (id F1);rintro Qx lc lv as f1 f2 f3 f4;have rA:=(c8 he).2;have gC:bX h (.cost row)=if Gv fm.columns row=false then(h,[-1]) else(h,[0,(ja fm.columns (bC row):Int)]):=by show bJ h _=_;unfold bJ;rw[hf];rfl
  rw[gC] at k;refine ag (ax (du (gI (fY (cp (bo (pv 0) rfl) T.iw.cl (ji T) hr.mono (aI (pv 2) aq)))) (aG (aY (bZ (aI (cY T.k.ib rfl) aq)))) bS) (aG (aY (bZ (aI bB (aI (cp (bo (pv 0) rfl) T.iw.cl (mT T) hr.mono (aI (pv 2) aq)) aq)))))) ?_;refine fI S.ins T.d7.cl T.d7.gK dg (mJ f1 iC (ag rfl (gB fa e fm row rfl F1 X.ok (bG.of rA) hp (λH1 s1=>ag rfl (kQ (λq=>?_) (λq=>?_))))))
  ·rw[if_pos q] at k;exact⟨by show 1<=aA;decide,λD hD=>k D _ (Ans.same S0 (s1.trans (aD hD)) (s1.free hD) (by rw[ai];rfl))⟩
  ·rw[if_neg (by rw[q];exact bN)] at k;obtain⟨Ys,lz⟩:=xq q;refine cT ?_;refine fI (s1 _ _ S.ins) T.d7.cl T.d7.gK dg (mJ (s1 _ _ f1) kJ (ag rfl (gB fa e fm (bC row) rfl (F1.mono s1) X.ok (bG.of ?_) Ys (λH2 s2=>⟨by show 2<=aA;decide,λD hD=>k D _ (Ans.same S0 ((s1.trans s2).trans (aD hD)) (s1.free (s2.free hD)) (by rw[ai];rfl))⟩))));rw[s1 _ _ rA,<-jo];exact congrArg (λz=>some (HO.lst (j8 z))) lz
end
end
section
open Vbslai (choices nums rowOf hidden spaced text)
theorem Sh{fm:d8}(ok:iN fm):(rR fm).length<=100000:=by
 unfold rR;have h1:(fm.columns.flatMap dB).length<=160:=by have h:=ql (f:=dB) (B:=40) fm.columns (λc hc=>(jO (ok.cols c hc)).1);have:=eD 40 ok.len;omega
 have h2:∀x∈fm.columns.flatMap dB++[spaced (text "secret"::fm.secret::fm.values)],(x++[10]).length<=201:=λx hx=>by
  rw[aP];show x.length+1<=201;rcases aE.mp hx with h|h
  ·obtain⟨c,hc,hm⟩:=jP.mp h;have:=(jO (ok.cols c hc)).2 x hm;omega
  ·have e:x=spaced (text "secret"::fm.secret::fm.values):=by simpa using h
   have hh:(spaced (text "secret"::fm.secret::fm.values)).length<=(text "secret"::fm.secret::fm.values).length*11:=i6 (B:=10) _ λx hx=>by
    rcases aB.mp hx with z|z
    ·rw[z];decide
    ·rcases aB.mp z with z|z
     ·rw[z];exact gy ok.sec
     ·exact gy (cj.mp ok.vn x z)
   rw[aW,aW] at hh;have:=ok.v12;rw[e];omega
 have h3:=ql (f:=λl:aH=>l++[10]) (B:=201) _ h2;rw[aP (as:=fm.columns.flatMap dB),oZ] at h3;refine ao h3 (ao (eD 201 (show _<=161 by omega)) (by decide))
section
variable{P:bp}{w:bQ}{K:ah}{mg:Str->Option ak}{base:cB}{A:Cl}{Pt:af}
theorem Dm(T:Txt K mg A):Def P w K mg base "answer_print" 3 ["house","numbers","row"] (Ng K A Pt (λ_ _=>True) λ_ _=>.print):=by
 refine T.kR.Jq.g8 C5 (λf _ A' _ s H vs Q E hr=>o5 ?_)
 ·rintro hs d e g M h fm ns row ⟨rfl,S0,hf,hd,he,hp,k⟩;refine nK ?_ (id S0);rintro dx rd rl l gQ zs fv S;have X:=S.form hf;obtain⟨fa,rfl,F0⟩:=X.ex;have F1:=F0.mono (bY _ _);have gC:bX h .print=(h,0::Bk (rR fm)):=by show bJ h _=_;unfold bJ;rw[hf]
  rw[gC] at k;have hlen:=Sh X.ok;refine ag (aG (aY (fo jU (bZ (aI bB aq)) (bF (nR T) hr.mono rfl (aI (bF (J5 T) hr.mono rfl (aI (bo (pv 0) rfl) aq)) aq))))) ?_;refine⟨by show 1<=aA;decide,λq hq=>fI (aD hq _ _ S.ins) T.d7.cl T.d7.gK dg (dH fa fm rfl (F1.mono (aD hq)) X.ok (λH1 s1=>bP (rR fm) rfl (b0 hlen (by decide)) (λD H2 hD s2 e2=>gB q D _ _ rfl rfl (s2 _ _ (s1 _ _ ai)) e2 ?_ (λz hz=>k z _ (Ans.same S0 ((((aD hq).trans s1).trans s2).trans (aD hz)) ((aD hq).free (s1.free (s2.free hz))) ?_)))))⟩
  ·rw[eI,aW];show 1+((rR fm).length+1)<=aA;exact ao (show _<=100002 by omega) (by decide)
  ·rw[ai,show(0::Bk (rR fm))=nums (0::(rR fm).length::rR fm) from rfl,jo];rfl
theorem FH(T:Txt K mg A):Def P w K mg base "answer_next" 8 ["house","numbers","asked"] (Ng K A Pt (λns row=>(∃x u m,ns=[x,u,m])/\row.length<=100) λns row=>.next (ns.getD 0 0) (ns.getD 1 0) (ns.getD 2 0) row):=by
 refine T.kR.Lr.g8 E8 (λf _ A' _ s H vs Q E hr=>o5 ?_)
 ·rintro hs d e g M h fm ns row ⟨rfl,S0,hf,hd,he,⟨⟨x,u,m,rfl⟩,hp⟩,k⟩;refine nK ?_ (id S0);rintro dx rd rl l gQ zs fv S;have X:=S.form hf;obtain⟨fa,rfl,F0⟩:=X.ex;have F1:=F0.mono (bY _ _);have rA:=(c8 he).2;have gC:bX h (.next x u m row)=if md fm x u m row=false then(h,[-1]) else(h,0::nums [(choices (fm.columns.zip (row.map λb=>b==1))).length,(Ge fm.columns h.releases h.rows (row.map λb=>b==1) x.toNat u.toNat m.toNat).length,(Ge fm.columns [] h.rows (row.map λb=>b==1) x.toNat u.toNat m.toNat).length]):=by show bJ h _=_;unfold bJ;rw[hf];rfl
  have oP:bX h (.next (([x,u,m]:List Int).getD 0 0) (([x,u,m]:List Int).getD 1 0) (([x,u,m]:List Int).getD 2 0) row)=_:=gC;rw[oP] at k;refine ag (ax (du (gI (fY (bF (l9 T) hr.mono rfl (aI (bo (pv 0) rfl) (aI (pv 1) (aI (pv 2) aq)))))) (aG (aY (bZ (aI (cY T.k.ib rfl) aq)))) bS) (aG (aY (fo jU (bZ (aI bB aq)) (bF (FF T) hr.mono rfl (aI (bo (pv 0) rfl) (aI (dv (pv 0) T.d7.cl (eV T) hr.mono) (aI (bo (pv 0) rfl) (aI (pv 1) (aI (pv 2) aq)))))))))) ?_;refine fI S.ins T.d7.cl T.d7.gK dg (ag rfl (ag rfl (Iz fa d e fm x u m row ⟨rfl,F1,bG.of hd,bG.of rA,hp,λH1 s1=>ag rfl (kQ (λq=>?_) (λq=>?_))⟩)))
  ·rw[if_pos q] at k;exact⟨by show 1<=aA;decide,λD hD=>k D _ (Ans.same S0 (s1.trans (aD hD)) (s1.free hD) (by rw[ai];rfl))⟩
  ·rw[if_neg (by rw[q];exact bN)] at k;obtain⟨hx0,hu0,JL,JR⟩:=FD q;refine cT ?_;refine⟨by show 1<=aA;decide,λy hy=>?_⟩;have s2:=s1.trans (aD (o:=HO.lst [V.int 0]) hy);refine fI (s2 _ _ S.ins) T.d7.cl T.d7.gK dg (mI (s2 _ _ S.ins) dZ (jb hs dx rd _ _ _ ⟨rfl,s2 _ _ S.ins,s2 _ _ S.xY,λD1 H3 hD1 s3 e3=>?_⟩));have SJ:H3 D1=some (.lst (qh l)):=by rw[e3];unfold uV qh;rw[aQ];rfl
   have Dk:=s2.trans s3;refine fI (Dk _ _ S.ins) T.d7.cl T.d7.gb eB (ag rfl (ag rfl ⟨fa,D1,rl,d,e,qt fm l gQ zs h.releases row x.toNat u.toNat m.toNat ⟨rfl,F1.mono Dk,X.ok,SJ,(X.rows.mono (bY _ _)).mono Dk,S.ndl,Dk _ _ S.lst,gX.mono ((bY _ _).trans Dk) S.ya,?_,bG.of ?_,bG.of (Dk _ _ rA),JR,λD2 H4 CF s4 e4=>?_⟩⟩))
   ·rw[S.rows];exact X.rl
   ·rw[Dk _ _ hd,eO hx0,eO hu0,eO JL]
   ·refine gB y D2 _ _ rfl rfl (s4 _ _ (s3 _ _ ai)) e4 (by show 4<=aA;decide) (λz hz=>k z _ (Ans.same S0 ((Dk.trans s4).trans (aD hz)) (Dk.free (s4.free hz)) ?_));rw[ai,show∀a b c:Nat,(0:Int)::nums [a,b,c]=nums [0,a,b,c] fromλ_ _ _=>rfl,jo,S.rows];rfl
theorem B4(T:Txt K mg A):Def P w K mg base "answer_hidden" 6 ["house","numbers","row"] (Ng K A Pt (λns _=>∃x,ns=[x]) λns _=>.hidden (ns.getD 0 0)):=by
 refine T.kR.GY.g8 nO (λf _ A' _ s H vs Q E hr=>o5 ?_)
 ·rintro hs d e g M h fm ns row ⟨rfl,S0,hf,hd,he,⟨x,rfl⟩,k⟩;refine nK ?_ (id S0);rintro dx rd rl l gQ zs fv S;have X:=S.form hf;have hu:=ur hr;have gC:bX h (.hidden x)=match rowOf h x with
    |none=>(h,[-4])
    |some r=>(h,0::nums [(am8 h.releases r).1,(am8 h.releases r).2,(hidden fm.columns h.releases h.rows r).length,(Bj (hidden fm.columns h.releases h.rows r)).length]):=by
   show bJ h _=_;unfold bJ;rw[hf];rfl
  have oP:bX h (.hidden (([x]:List Int).getD 0 0))=_:=gC;rw[oP] at k;have hv:=ui x l;rw[S.rows] at hv;have hg:jL H rd (.int x) (jc (uV l) (cG x:Key)):=jL.k (k:=(cG x:Key)) S.xY;refine ag (ax (cg (i:=3) nO.nd rfl fz (eN cU (pv 1) bB (λ_ _=>rfl))) (ax (du (yQ (px hu (pv 3) (bo (pv 0) rfl))) (aG (aY (bZ (aI (cY T.k.p7 rfl) aq)))) bS) (ax (cg (i:=4) nO.nd rfl fz (cp (pv 0) T.d7.cl (yI T) hr.mono (aI (pv 3) aq))) (aG (aY (bZ (aI bB (aI (bo (pv 4) rfl) (aI (bo (pv 4) rfl) (aI (cJ bx (by rfl) T.b.dS cP (aI (bo (pv 4) rfl) aq)) (aI (bF (mU T) hr.mono rfl (aI (bo (pv 4) rfl) aq)) aq))))))))))) ?_;refine ba ?_;refine ag rfl (iE d _ _ _ rfl rfl (bG.of hd) (cN (j:=0) rfl) ?_);refine ck ?_;refine ba ?_;refine ag rfl (fI S.ins T.d7.cl T.d7.kl fB (bt rd _ rfl hg (ag rfl ?_)))
  cases er:rowOf h x with
  |none=>rw[er] at k;have CL:h.rows.find? (λr=>(r.who:Int)==x)=none:=er;rw[CL] at hv;have vw:jc (uV l) (cG x:Key)=none:=hv;rw[vw];exact kW ⟨by show 1<=aA;decide,λD hD=>k D _ (Ans.same S0 (aD hD) hD (by rw[ai];rfl))⟩
  |some r=>
   rw[er] at k;have CL:h.rows.find? (λr=>(r.who:Int)==x)=some r:=er;rw[CL] at hv;refine cH ?_ hv;rintro a JR vw hw;rw[vw];refine lh ?_;refine cT ?_;have R1:gA A fm.columns H l:=X.rows.mono (bY _ _);have hrm:r∈h.rows:=jd CL;have hvr:jc (uV l) (Gn r.who)=some (.ref a):=by unfold Gn;rw[hw];exact vw
   subst hw;refine ba ?_;refine mI S.ins uL (ag rfl ⟨hs,qt dx rd rl _ fm.columns l (a,r) gQ zs ⟨rfl,S.ins,S.xY,hvr,R1.at' _ JR,R1,S.lst,gX.mono (bY _ _) S.ya,λy H1 s1 hh=>?_⟩⟩);refine cH ?_ hh;rintro m ⟨dxh,la,g1,g2⟩ ud Ym;refine ck ?_;have g2':H1 la=some (.lst (iZ (m.map (·.1)))):=by rw[g2,xw]
   have Rm:gA A fm.columns H1 m:=(R1.mono s1).sub ud;refine fI g1 T.lV.cl T.lV.X8 Jv (fI g1 T.lV.cl T.lV.X9 Jw (fI g1 T.lV.cl T.lV.xt oj (bt la _ rfl (.inl (bG.of g2')) (fI g1 T.lV.cl T.lV.xt oj (iD la _ _ rfl g2' Rm.rows (by rw[aa];exact ao Rm.len (by decide)) (λH2 s2=>⟨by show 5<=aA;decide,λD hD=>k D _ (Ans.same S0 ((s1.trans s2).trans (aD hD)) (s1.free (s2.free hD)) ?_)⟩))))));rw[ai,show∀a b c d:Nat,(0:Int)::nums [a,b,c,d]=nums [0,a,b,c,d] fromλ_ _ _ _=>rfl,jo,Ui X.rl,NS S.nd hrm X.rl,cu,<-S.rows,<-Ym,aa,aa];rfl
theorem Dn(T:Txt K mg A):Def P w K mg base "answer_could" 6 ["house","numbers","row"] (Ng K A Pt (λns _=>∃x,ns=[x]) λns _=>.could (ns.getD 0 0)):=by
 refine T.kR.Jp.g8 uQ (λf _ A' _ s H vs Q E hr=>o5 ?_)
 ·rintro hs d e g M h fm ns row ⟨rfl,S0,hf,hd,he,⟨x,rfl⟩,k⟩;refine nK ?_ (id S0);rintro dx rd rl l gQ zs fv S;have X:=S.form hf;obtain⟨fa,rfl,F0⟩:=X.ex;have F1:=F0.mono (bY _ _);refine ip ?_ (id F1);rintro Qx lc lv as f1 f2 f3 f4;have hu:=ur hr;have gC:bX h (.could x)=match rowOf h x with
    |none=>(h,[-4])
    |some r=>(h,0::nums (kG fm.values.length (hidden fm.columns h.releases h.rows r))):=by
   show bJ h _=_;unfold bJ;rw[hf];rfl
  have oP:bX h (.could (([x]:List Int).getD 0 0))=_:=gC;rw[oP] at k;have hv:=ui x l;rw[S.rows] at hv;have hg:jL H rd (.int x) (jc (uV l) (cG x:Key)):=jL.k (k:=(cG x:Key)) S.xY;refine ag (ax (cg (i:=3) uQ.nd rfl fz (eN cU (pv 1) bB (λ_ _=>rfl))) (ax (du (yQ (px hu (pv 3) (bo (pv 0) rfl))) (aG (aY (bZ (aI (cY T.k.p7 rfl) aq)))) bS) (aG (aY (fo jU (bZ (aI bB aq)) (bF (sP T) hr.mono rfl (aI (bo (cp (pv 0) T.d7.cl (yI T) hr.mono (aI (pv 3) aq)) rfl) (aI (cJ bx (by rfl) T.b.dS cP (aI (bo (bo (pv 0) rfl) rfl) aq)) aq)))))))) ?_;refine ba ?_;refine ag rfl (iE d _ _ _ rfl rfl (bG.of hd) (cN (j:=0) rfl) ?_);refine ck ?_;refine ba ?_;refine ag rfl (fI S.ins T.d7.cl T.d7.kl fB (bt rd _ rfl hg (ag rfl ?_)))
  cases er:rowOf h x with
  |none=>rw[er] at k;have CL:h.rows.find? (λr=>(r.who:Int)==x)=none:=er;rw[CL] at hv;have vw:jc (uV l) (cG x:Key)=none:=hv;rw[vw];exact kW ⟨by show 1<=aA;decide,λD hD=>k D _ (Ans.same S0 (aD hD) hD (by rw[ai];rfl))⟩
  |some r=>
   rw[er] at k;have CL:h.rows.find? (λr=>(r.who:Int)==x)=some r:=er;rw[CL] at hv;refine cH ?_ hv;rintro a JR vw hw;rw[vw];refine lh ?_;refine cT ?_;have R1:gA A fm.columns H l:=X.rows.mono (bY _ _);have hrm:r∈h.rows:=jd CL;have hvr:jc (uV l) (Gn r.who)=some (.ref a):=by unfold Gn;rw[hw];exact vw
   subst hw;refine⟨by show 1<=aA;decide,λq hq=>?_⟩;have s0:aT H (upd H q (.lst [.int 0])):=aD hq;refine mI (s0 _ _ S.ins) uL (ag rfl ⟨hs,qt dx rd rl _ fm.columns l (a,r) gQ zs ⟨rfl,s0 _ _ S.ins,s0 _ _ S.xY,hvr,(R1.at' _ JR).mono s0,R1.mono s0,s0 _ _ S.lst,gX.mono ((bY _ _).trans s0) S.ya,λy H1 s1 hh=>?_⟩⟩);refine cH ?_ hh;rintro m ⟨dxh,la,g1,g2⟩ ud Ym;have g2':H1 la=some (.lst (iZ (m.map (·.1)))):=by rw[g2,xw]
   have Gp:=s0.trans s1;have Rm:gA A fm.columns H1 m:=(R1.mono Gp).sub ud;have adP:=X.ok.v12;refine fJ g1 T.lV.cl T.lV.xt oj (fI (Gp _ _ S.ins) T.d7.cl T.d7.gK dg (fJ (Gp _ _ f1) T.iw.cl T.iw.eh gg (bt lv _ rfl (.inl (bG.of (Gp _ _ f4))) (gB la _ _ fm.values.length (by rw[eG];rfl) g2' Rm.rows (by rw[aa];exact ao Rm.len (by decide)) (by omega) (λD H2 hD s2 e2=>gB q D _ _ rfl rfl (s2 _ _ (s1 _ _ ai)) e2 ?_ (λz hz=>k z _ (Ans.same S0 ((Gp.trans s2).trans (aD hz)) (Gp.free (s2.free hz)) ?_)))))))
   ·rw[eI];unfold kG;rw[aa,d4];show 1+fm.values.length<=aA;exact cX (dG (by omega))
   ·rw[ai,show∀a:List Nat,(0:Int)::nums a=nums (0::a) fromλ_=>rfl,jo,NS S.nd hrm X.rl,<-S.rows,<-Ym];rfl
end
end
section
open Vbslai (within nums spaced digits text)
theorem AU(x:List aH):∀l:List (List aH),(yN x l).length<=l.length+1
 |[]=>aK _
 |y::l=>by
  unfold yN;have ih:=AU x l;split
  ·simp
  ·split
   ·simp
   ·simp;omega
theorem AV:∀(xs l:List (List aH)),(xs.foldl (λl x=>yN x l) l).length<=l.length+xs.length
 |[],l=>aK _
 |x::xs,l=>by rw[bL];have h1:=AV xs (yN x l);have h2:=AU x l;rw[aW];omega
theorem text_len{fm:d8}(ok:iN fm){q:fV}{rows:List gi}(hl:rows.length<=40)(hc:∀r∈rows,zc fm.columns r.cells)(hv:lL fm.columns q.levels):(i8 fm q rows).length<=100000:=by
 unfold i8;have h1:(Hr fm.columns q rows).length<=40:=by unfold Hr;refine ao (AV _ _) ?_;rw[aa];refine ao (ye (Nat.zero_add _)) (ao (dW _ _) hl)
 have h2:∀c∈Hr fm.columns q rows,(spaced (c++[text ":"]++(kG fm.values.length (rows.filter λr=>q.has.contains r.who&&aF fm.columns q.levels r==c)).map digits)++[10]).length<=200:=λc hm=>by
  have hcr:∃r∈rows,aF fm.columns q.levels r=c:=by
   unfold Hr at hm;rw[(El _ [] (by simp)).2] at hm;rcases hm with h|h
   ·simp at h
   ·obtain⟨r,hr,e⟩:=au.mp h;exact bq r ((bH.mp hr).1) e
  obtain⟨r,hr,rfl⟩:=hcr;have vk:(aF fm.columns q.levels r).length<=4:=by rw[mH hv.1 (hc r hr).1];exact ok.len
  rw[aP];refine ao (Nat.add_le_add_right (i6 (B:=10) _ λx hx=>?_) 1) ?_
  ·rcases aE.mp hx with h|h
   ·rcases aE.mp h with h|h
    ·exact DL ok (hc r hr) x h
    ·have:x=text ":":=by simpa using h
     rw[this];decide
   ·obtain⟨v,hv,rfl⟩:=au.mp h;unfold kG at hv;obtain⟨u,_,rfl⟩:=au.mp hv;have h1:=dW (λr:gi=>r.secret==u) (rows.filter λr'=>q.has.contains r'.who&&aF fm.columns q.levels r'==aF fm.columns q.levels r);have h2:=dW (λr':gi=>q.has.contains r'.who&&aF fm.columns q.levels r'==aF fm.columns q.levels r) rows;exact ao (jG (k:=7) (by decide) (b0 h1 (by omega))) (by decide)
  ·rw[aP,aP,aa];unfold kG;rw[aa,d4];have:=ok.v12;show((aF fm.columns q.levels r).length+1+fm.values.length)*11+1<=200;omega
 have h3:=ql _ h2;exact ao h3 (ao (eD 200 h1) (by decide))
theorem Kb{cs:List bA}{rows:List gi}:∀{zs:List Rl}{qs:List fV}{i:Nat}{z:Rl},kj cs rows zs qs->zs[i]? =some z->∃q,qs[i]? =some q/\y9 cs rows z q
 |_,_,i,z,.nil,h=>by simp at h
 |_,_,0,z,.cons r t,h=>by simp at h;subst h;exact ag rfl r
 |_,_,i+1,z,.cons r t,h=>by obtain⟨q,h1,h2⟩:=Kb (i:=i) t (by simpa using h);exact bq q (by simpa using h1) h2
theorem AW{cs:List bA}{rows:List gi}{z:Rl}{q:fV}(ok:y9 cs rows z q):m9 q=nums (z.levels++[z.k,z.u,z.lk.length,z.left]):=by unfold m9 nums;rw[bw,ok.lv,ok.k,ok.u,ok.left,ok.len]
section
variable{P:bp}{w:bQ}{K:ah}{mg:Str->Option ak}{base:cB}{A:Cl}{Pt:af}
theorem FI(T:Txt K mg A):Def P w K mg base "answer_text" 6 ["house","numbers","row"] (Ng K A Pt (λns _=>∃x,ns=[x]) λns _=>.text (ns.getD 0 0)):=by
 refine T.kR.Lp.g8 wG (λf _ A' _ s H vs Q E hr=>o5 ?_)
 ·rintro hs d e g M h fm ns row ⟨rfl,S0,hf,hd,he,⟨x,rfl⟩,k⟩;refine nK ?_ (id S0);rintro dx rd rl l gQ zs fv S;have X:=S.form hf;obtain⟨fa,rfl,F0⟩:=X.ex;have F1:=F0.mono (bY _ _);have PU:=Paired.len S.ya;have xA:=X.rl.len;have gC:bX h (.text x)=if within x 0 ((h.releases.length:Int)-1)=false then(h,[-1]) else(match h.releases[x.toNat]? with
    |some y=>(h,0::Bk (i8 fm y h.rows))
    |none=>(h,[-1])):=by
   show bJ h _=_;unfold bJ;rw[hf];rfl
  have oP:bX h (.text (([x]:List Int).getD 0 0))=_:=gC;rw[oP] at k;have ref:within x 0 ((h.releases.length:Int)-1)=false->∀D H',aT H H'->H D=none->H' D=some (.lst (j8 [-1]))->Q (.ref D) H':=λq D H' s1 hD e1=>by rw[if_pos q] at k;exact k D H' (Ans.same S0 s1 hD e1)
  refine ag (ax (cg (i:=3) wG.nd rfl fz (eN cU (pv 1) bB (λ_ _=>rfl))) (ax (du (gI (z6 iH DR bB (pv 3) (cJ bx (by rfl) T.b.dS cP (aI (bo (pv 0) rfl) aq)))) (aG (aY (bZ (aI (cY T.k.ib rfl) aq)))) bS) (aG (aY (fo jU (bZ (aI bB aq)) (bF (nR T) hr.mono rfl (aI (bF (Dj T) hr.mono rfl (aI (bo (pv 0) rfl) (aI (dv (pv 0) T.d7.cl (eV T) hr.mono) (aI (eN cU (bo (pv 0) rfl) (pv 3) (λ_ _=>rfl)) aq)))) aq))))))) ?_;refine ba ?_;refine ag rfl (iE d _ _ _ rfl rfl (bG.of hd) (cN (j:=0) rfl) ?_);refine ck ?_;refine ba ?_;refine ag rfl (bt _ _ rfl rfl (ag rfl (fG (λq1=>fI S.ins T.d7.cl T.d7.gb eB (bt rl _ rfl (.inl (bG.of S.lst)) (bt _ _ rfl rfl (ag rfl (vX (λq2=>?_) (λq2=>?_)))))) (λq1=>ag rfl (kW ?_)))))
  ·refine⟨by show 1<=aA;decide,λD hD=>ref ?_ D _ (aD hD) hD ai⟩;rw[cu,PU,xA] at q2;rw[kN q1,decide_eq_false (by omega)]
  ·rw[cu,PU,xA] at q2;rw[if_neg (by rw[kN q1,decide_eq_true (by omega)];exact bN)] at k;refine cT ?_;refine⟨by show 1<=aA;decide,λq hq=>?_⟩;have s0:aT H (upd H q (.lst [.int 0])):=aD hq;refine fI (s0 _ _ S.ins) T.d7.cl T.d7.gK dg (mI (s0 _ _ S.ins) dZ (jb hs dx rd _ _ _ ⟨rfl,s0 _ _ S.ins,s0 _ _ S.xY,λD1 H1 hD1 s1 e1=>?_⟩));have Yi:H1 D1=some (.lst (qh l)):=by rw[e1];unfold uV qh;rw[aQ];rfl
   have Gp:=s0.trans s1;have hxi:x.toNat<gQ.length:=by omega
   obtain⟨z,hz,Ox⟩:=Paired.wI S.ya (aw hxi);obtain⟨y,hy,Nf⟩:=Kb X.rl hz;rw[hy] at k;have Xy:=X.lv z (aN hz);have ex:x=((x.toNat:Nat):Int):=by omega
   refine fI (Gp _ _ S.ins) T.d7.cl T.d7.gb eB (ag rfl (iE rl _ _ _ rfl rfl (bG.of (Gp _ _ S.lst)) (at_of (v:=.ref gQ[x.toNat]) ex (by unfold iZ;rw[aV,aw hxi];rfl)) (xF fa D1 (gQ[x.toNat]) fm l z y ⟨rfl,F1.mono Gp,X.ok,Yi,(X.rows.mono (bY _ _)).mono Gp,Ox.mono ((bY _ _).trans Gp),by rw[S.rows];exact Nf,Xy,λH2 s2=>?_⟩)));have hlen:(i8 fm y (l.map (·.2))).length<=100000:=text_len X.ok (by rw[aa];exact X.rows.len) (λr hr=>by obtain⟨p,hp,rfl⟩:=au.mp hr;exact X.rows.cells p hp) (by rw[<-Nf.lv];exact Xy);refine bP _ rfl (b0 hlen (by decide)) (λD H3 hD s3 e3=>gB q D _ _ rfl rfl (s3 _ _ (s2 _ _ (s1 _ _ ai))) e3 ?_ (λv hv=>k v _ (Ans.same S0 (((Gp.trans s2).trans s3).trans (aD hv)) (Gp.free (s2.free (s3.free hv))) ?_)))
   ·rw[eI,aW];show 1+((i8 fm y (l.map (·.2))).length+1)<=aA;exact ao (show _<=100002 by omega) (by decide)
   ·rw[ai,S.rows,show(0::Bk (i8 fm y h.rows))=nums (0::(i8 fm y h.rows).length::i8 fm y h.rows) from rfl,jo];rfl
  ·refine⟨by show 1<=aA;decide,λD hD=>ref ?_ D _ (aD hD) hD ai⟩;rw[sV q1]
theorem zS(T:Txt K mg A):Def P w K mg base "answer_releases" 2 ["house","numbers","row"] (Ng K A Pt (λ_ _=>True) λ_ _=>.releases):=by
 refine T.kR.C3.g8 lY (λf _ A' _ s H vs Q E hr=>o5 ?_)
 ·rintro hs d e g M h fm ns row ⟨rfl,S0,hf,hd,he,hp,k⟩;refine nK ?_ (id S0);rintro dx rd rl l gQ zs fv S;have X:=S.form hf;have PU:=Paired.len S.ya;have xA:=X.rl.len;have hr4:=S.Sf;have gC:bX h .releases=(h,0::(h.releases.length:Int)::h.releases.flatMap m9):=by show bJ h _=_;unfold bJ;rw[hf]
  rw[gC] at k;have Z1:gX A H gQ zs:=gX.mono (bY _ _) S.ya;have lvl:∀z∈zs,z.levels.length<=4:=λz hz=>by rw[(X.lv z hz).1];exact X.ok.len
  have aaB:∀i,((h.releases.take i).flatMap m9).length<=100:=λi=>by
   have h1:=ql (f:=m9) (B:=8) (h.releases.take i) (λq hq=>by
    obtain⟨j,hj,e⟩:=jI (lG hq);have hz:zs[j]? =some zs[j]:=aw (by omega);obtain⟨q',Ts,Nf⟩:=Kb X.rl hz;rw[aw hj,e] at Ts;cases Ts;rw[AW Nf];unfold nums;rw[aa,aP];have:=lvl _ (Hu (by omega:j<zs.length));show _+4<=8;omega)
   rw[cQ] at h1;have:min i h.releases.length*8<=4*8:=eD _ (by omega);omega
  refine ag (ax (cg (i:=3) lY.nd rfl fz (bZ (aI bB (aI (cJ bx (by rfl) T.b.dS cP (aI (bo (pv 0) rfl) aq)) aq)))) (ax (lU dE rfl (dI (bo (pv 0) rfl)) (bU (i:=4) lY.nd rfl fz) (aG (iR (oS bT mY mZ xi (pv 3) (aI (dv (pv 4) T.rel.cl (wN T) hr.mono) aq))))) (aG (aY (pv 3))))) ?_;refine ba ?_;refine fI S.ins T.d7.cl T.d7.gb eB (dH rl _ rfl (.inl (bG.of S.lst)) (by show 2<=aA;decide) (λL hL=>?_));refine ck ?_;have s0:aT H (upd H L (.lst [.int 0,.int (iZ gQ).length])):=aD hL;refine ba ?_;refine fI (s0 _ _ S.ins) T.d7.cl T.d7.gb eB (bP rl rfl ⟨_,bG.of (s0 _ _ S.lst)⟩ (my (K:=K) (a:=rl) (xs:=iZ gQ) (λi σ H'=>(∃v4:Option V,σ=[some (.ref hs),some (.ref d),some (.ref e),some (.ref L),v4])/\aT H H'/\H' L=some (.lst (j8 (0::(h.releases.length:Int)::(h.releases.take i).flatMap m9)))) ⟨⟨_,rfl⟩,s0,by rw[ai,cu,PU,xA];rfl⟩ (λi σ H' _ p=>bG.of (p.2.1 _ _ S.lst)) ?_ ?_))
  ·rintro i xv σ H' hi ⟨⟨v4,rfl⟩,s1,zy⟩;obtain⟨za,hza,rfl⟩:=kM hi;obtain⟨z,hzi,Ox⟩:=Paired.wI Z1 hza;obtain⟨q,hqi,Nf⟩:=Kb X.rl hzi;have HE:=Ox.mono s1;refine jT ?_ (id HE);rintro U9 ll ld z1 z2 z3;have et:h.releases.take (i+1)=h.releases.take i++[q]:=by rw[dz,hqi];rfl
   have Xy:=lvl z (aN hzi);have hri:=aaB i;refine bP _ rfl (.inl ⟨rfl,_,bG.of zy⟩) (mI z1 rB (dH za z rfl HE (ao Xy (by decide)) (λD H2 hD s2 e2=>?_)));refine gB L D _ _ rfl rfl (s2 _ _ zy) e2 ?_ ⟨⟨_,rfl⟩,mV (s1.trans s2) hL,?_⟩
   ·rw[eI,gP,aW,aW,aP];show _+1+1+(z.levels.length+4)<=aA;exact cX (dG (by omega))
   ·rw[ai,et,gw,<-jo,<-AW Nf];unfold j8;simp
  ·rintro σ H' ⟨⟨v4,rfl⟩,s1,zy⟩;rw[bK (by rw[cu];omega)] at zy;exact ag rfl (k L H' (Ans.same S0 s1 hL zy))
end
end
section
open Vbslai (within nums rowOf cellsRow)
theorem sW{H:Hp}{e:af}{row:List Int}(he:H e=some (.lst (j8 row)))(lz:row=(bC row).map λ(n:Nat)=>(n:Int)):H e=some (.lst (gZ (bC row))):=by rw[he,<-jo];exact congrArg (λz=>some (HO.lst (j8 z))) lz
theorem Si{cs:List bA}{rows:List gi}{ls:List Nat}{k u:Nat}(nd:(rows.map (·.who)).Nodup){r:gi}(hr:r∈rows):((iF cs rows ls k u).lk.lookup r.who).isSome=classOk (aF cs ls) rows k u (aF cs ls r):=by
 rw[(pb (cs:=cs) (ls:=ls) (k:=k) (u:=u) nd).isSome r.who];have:=xo (cs:=cs) (ls:=ls) (k:=k) (u:=u) nd hr
 cases h:classOk (aF cs ls) rows k u (aF cs ls r) with
 |true=>rw[h] at this;simpa using this.mpr rfl
 |false=>rw[h] at this;have n:¬r.who∈(cE cs rows ls k u).has:=λq=>bN (this.mp q);simpa using n
section
variable{P:bp}{w:bQ}{K:ah}{mg:Str->Option ak}{base:cB}{A:Cl}{Pt:af}
theorem FJ(T:Txt K mg A):Def P w K mg base "answer_show" 4 ["house","numbers","levels"] (Ng K A Pt (λns row=>(∃x,ns=[x])/\row.length<=100) λns row=>.show_ (ns.getD 0 0) row):=by
 refine T.kR.Ln.g8 mS (λf _ A' _ s H vs Q E hr=>o5 ?_)
 ·rintro hs d e g M h fm ns row ⟨rfl,S0,hf,hd,he,⟨⟨x,rfl⟩,hp⟩,k⟩;refine nK ?_ (id S0);rintro dx rd rl l gQ zs fv S;have X:=S.form hf;obtain⟨fa,rfl,F0⟩:=X.ex;have F1:=F0.mono (bY _ _);refine ip ?_ (id F1);rintro Qx lc lv as f1 f2 f3 f4;have rA:=(c8 he).2;have hu:=ur hr;have gC:bX h (.show_ x row)=if Gv fm.columns row=false then(h,[-1]) else(match rowOf h x with
    |none=>(h,[-4])
    |some r=>(h,0::cellsRow (aF fm.columns (bC row) r))):=by
   show bJ h _=_;unfold bJ;rw[hf];rfl
  have oP:bX h (.show_ (([x]:List Int).getD 0 0) row)=_:=gC;rw[oP] at k;have hv:=ui x l;rw[S.rows] at hv;refine ag (ax (cg (i:=3) mS.nd rfl fz (eN cU (pv 1) bB (λ_ _=>rfl))) (ax (du (gI (fY (cp (bo (pv 0) rfl) T.iw.cl (ji T) hr.mono (aI (pv 2) aq)))) (aG (aY (bZ (aI (cY T.k.ib rfl) aq)))) bS) (ax (du (yQ (px hu (pv 3) (bo (pv 0) rfl))) (aG (aY (bZ (aI (cY T.k.p7 rfl) aq)))) bS) (ax (cg (i:=4) mS.nd rfl fz (bZ (aI bB aq))) (ax (lU dE rfl (YY (cp (bo (pv 0) rfl) T.iw.cl (lQ T) hr.mono (aI (bo (tu hu (bo (pv 0) rfl) (pv 3) (λ_ _=>rfl)) rfl) (aI (pv 2) aq)))) (bU (i:=5) mS.nd rfl fz) (aG (iR (oS bT mY mZ xi (pv 4) (aI (bF (nR T) hr.mono rfl (aI (pv 5) aq)) aq))))) (aG (aY (pv 4)))))))) ?_;refine ba ?_;refine ag rfl (iE d _ _ _ rfl rfl (bG.of hd) (cN (j:=0) rfl) ?_);refine ck ?_;refine ba ?_;refine fI S.ins T.d7.cl T.d7.gK dg (mJ f1 iC (ag rfl (gB fa e fm row rfl F1 X.ok (bG.of rA) hp (λH1 s1=>ag rfl (kQ (λq=>?_) (λq=>?_))))))
  ·rw[if_pos q] at k;exact⟨by show 1<=aA;decide,λD hD=>k D _ (Ans.same S0 (s1.trans (aD hD)) (s1.free hD) (by rw[ai];rfl))⟩
  ·rw[if_neg (by rw[q];exact bN)] at k;obtain⟨Ys,lz⟩:=xq q;refine cT ?_;refine ba ?_;have hg:jL H1 rd (.int x) (jc (uV l) (cG x:Key)):=jL.k (k:=(cG x:Key)) (s1 _ _ S.xY);refine ag rfl (fI (s1 _ _ S.ins) T.d7.cl T.d7.kl fB (bt rd _ rfl hg (ag rfl ?_)))
   cases er:rowOf h x with
   |none=>rw[er] at k;have CL:h.rows.find? (λr=>(r.who:Int)==x)=none:=er;rw[CL] at hv;have vw:jc (uV l) (cG x:Key)=none:=hv;rw[vw];exact kW ⟨by show 1<=aA;decide,λD hD=>k D _ (Ans.same S0 (s1.trans (aD hD)) (s1.free hD) (by rw[ai];rfl))⟩
   |some r=>
    rw[er] at k;have CL:h.rows.find? (λr=>(r.who:Int)==x)=some r:=er;rw[CL] at hv;refine cH ?_ hv;rintro a JR vw hw;rw[vw] at hg⊢;refine lh ?_;refine cT ?_;have R1:gA A fm.columns H l:=X.rows.mono (bY _ _);have hcr:=X.rows.cells _ JR;refine jk ?_ (R1.at' _ JR);rintro dxr lr r1 r2;refine ba ?_;refine⟨by show 1<=aA;decide,λL hL=>?_⟩;refine ck ?_;have s2:=s1.trans (aD (o:=HO.lst [V.int 0]) hL);have LS:H L=none:=s1.free hL;have hg2:jL (upd H1 L (.lst [.int 0])) rd (.int x) (some (.ref a)):=by rw[<-vw];exact jL.k (k:=(cG x:Key)) (s2 _ _ S.xY)
    refine ba ?_;refine fI (s2 _ _ S.ins) T.d7.cl T.d7.gK dg (mJ (s2 _ _ f1) j0 (fI (s2 _ _ S.ins) T.d7.cl T.d7.kl fB (ag rfl (bt rd _ rfl hg2 (fJ (s2 _ _ r1) T.row.cl T.row.As qU (ag rfl (jb fa lr e fm r.cells (bC row) ⟨rfl,F1.mono s2,X.ok,bG.of (s2 _ _ r2),bG.of (sW (s2 _ _ rA) lz),hcr,Ys,λt H3 ht s3 e3=>bP t rfl ⟨_,nY.of e3⟩ ?_⟩)))))));rw[OH] at e3;have hlk:=mH (r:=r) Ys.1 hcr.1;have SE:=X.ok.len;have xA:=DL X.ok (ls:=bC row) hcr;have aaB:∀i,(((aF fm.columns (bC row) r).take i).flatMap Bk).length<=100:=λi=>by have h1:=ql (f:=Bk) (B:=11) ((aF fm.columns (bC row) r).take i) (λq hq=>by have:=xA q (lG hq);unfold Bk nums;rw[aW,aa];omega);rw[cQ] at h1;have:min i (aF fm.columns (bC row) r).length*11<=4*11:=eD _ (by omega);omega
    refine Wm (K:=K) (a:=t) (xs:=eU (aF fm.columns (bC row) r)) (λi σ H'=>(∃v5:Option V,σ=[some (.ref hs),some (.ref d),some (.ref e),some (.int x),some (.ref L),v5])/\aT H H'/\H' t=some (.tup (eU (aF fm.columns (bC row) r)))/\H' L=some (.lst (j8 (0::((aF fm.columns (bC row) r).take i).flatMap Bk))))
     ⟨⟨_,rfl⟩,s2.trans s3,e3,s3 _ _ ai⟩ (λi σ H' _ p=>nY.of p.2.2.1) ?_ ?_
    ·rintro i xv σ H' hi ⟨⟨v5,rfl⟩,s4,ht4,zy⟩;have hi2:∃y,(aF fm.columns (bC row) r)[i]? =some y/\xv=.str (sN y):=by
      unfold eU at hi;rw[aV] at hi
      cases q2:(aF fm.columns (bC row) r)[i]? with
      |none=>rw[q2] at hi;cases hi
      |some y=>rw[q2] at hi;exact bq y rfl ((aX hi).symm)
     obtain⟨y,hy,rfl⟩:=hi2;have V2:=xA y (aN hy);have et:(aF fm.columns (bC row) r).take (i+1)=(aF fm.columns (bC row) r).take i++[y]:=by rw[dz,hy];rfl
     have hri:=aaB i;refine bP _ rfl (.inl ⟨rfl,_,bG.of zy⟩) (ag rfl (bP y rfl (dG (by omega)) (λD H5 hD s5 e5=>?_)));refine gB L D _ _ rfl rfl (s5 _ _ zy) e5 ?_ ⟨⟨_,rfl⟩,mV (s4.trans s5) LS,?_,?_⟩
     ·rw[eI,gP,aW,aW];exact cX (dG (by omega))
     ·rw[ay (gH ht4 zy (λz=>nomatch z))];exact s5 _ _ ht4
     ·rw[ai,et,gw,<-jo];unfold j8;simp;rfl
    ·rintro σ H' ⟨⟨v5,rfl⟩,s4,ht4,zy⟩;rw[bK (by rw[eG];exact aK _)] at zy;exact ag rfl (k L H' (Ans.same S0 s4 LS zy))
theorem Dp(T:Txt K mg A):Def P w K mg base "answer_alike" 5 ["house","numbers","levels"] (Ng K A Pt (λns row=>(∃x,ns=[x])/\row.length<=100) λns row=>.alike (ns.getD 0 0) row):=by
 refine T.kR.Jn.g8 oO (λf _ A' _ s H vs Q E hr=>o5 ?_)
 ·rintro hs d e g M h fm ns row ⟨rfl,S0,hf,hd,he,⟨⟨x,rfl⟩,hp⟩,k⟩;refine nK ?_ (id S0);rintro dx rd rl l gQ zs fv S;have X:=S.form hf;obtain⟨fa,rfl,F0⟩:=X.ex;have F1:=F0.mono (bY _ _);refine ip ?_ (id F1);rintro Qx lc lv as f1 f2 f3 f4;have rA:=(c8 he).2;have hu:=ur hr;have gC:bX h (.alike x row)=if Gv fm.columns row=false then(h,[-1]) else(match rowOf h x with
    |none=>(h,[-4])
    |some r=>(h,0::nums [(am9 fm.columns (bC row) h.rows r).length,(Bj (am9 fm.columns (bC row) h.rows r)).length])):=by
   show bJ h _=_;unfold bJ;rw[hf];rfl
  have oP:bX h (.alike (([x]:List Int).getD 0 0) row)=_:=gC;rw[oP] at k;have hv:=ui x l;rw[S.rows] at hv;refine ag (ax (cg (i:=3) oO.nd rfl fz (eN cU (pv 1) bB (λ_ _=>rfl))) (ax (du (gI (fY (cp (bo (pv 0) rfl) T.iw.cl (ji T) hr.mono (aI (pv 2) aq)))) (aG (aY (bZ (aI (cY T.k.ib rfl) aq)))) bS) (ax (du (yQ (px hu (pv 3) (bo (pv 0) rfl))) (aG (aY (bZ (aI (cY T.k.p7 rfl) aq)))) bS) (ax (cg (i:=4) oO.nd rfl fz (bF (Mj T) hr.mono rfl (aI (bo (pv 0) rfl) (aI (dv (pv 0) T.d7.cl (eV T) hr.mono) (aI (tu hu (bo (pv 0) rfl) (pv 3) (λ_ _=>rfl)) (aI (pv 2) aq)))))) (aG (aY (bZ (aI bB (aI (cJ bx (by rfl) T.b.dS cP (aI (pv 4) aq)) (aI (bF (mU T) hr.mono rfl (aI (pv 4) aq)) aq)))))))))) ?_;refine ba ?_;refine ag rfl (iE d _ _ _ rfl rfl (bG.of hd) (cN (j:=0) rfl) ?_);refine ck ?_;refine ba ?_;refine fI S.ins T.d7.cl T.d7.gK dg (mJ f1 iC (ag rfl (gB fa e fm row rfl F1 X.ok (bG.of rA) hp (λH1 s1=>ag rfl (kQ (λq=>?_) (λq=>?_))))))
  ·rw[if_pos q] at k;exact⟨by show 1<=aA;decide,λD hD=>k D _ (Ans.same S0 (s1.trans (aD hD)) (s1.free hD) (by rw[ai];rfl))⟩
  ·rw[if_neg (by rw[q];exact bN)] at k;obtain⟨Ys,lz⟩:=xq q;refine cT ?_;refine ba ?_;have hg:jL H1 rd (.int x) (jc (uV l) (cG x:Key)):=jL.k (k:=(cG x:Key)) (s1 _ _ S.xY);refine ag rfl (fI (s1 _ _ S.ins) T.d7.cl T.d7.kl fB (bt rd _ rfl hg (ag rfl ?_)))
   cases er:rowOf h x with
   |none=>rw[er] at k;have CL:h.rows.find? (λr=>(r.who:Int)==x)=none:=er;rw[CL] at hv;have vw:jc (uV l) (cG x:Key)=none:=hv;rw[vw];exact kW ⟨by show 1<=aA;decide,λD hD=>k D _ (Ans.same S0 (s1.trans (aD hD)) (s1.free hD) (by rw[ai];rfl))⟩
   |some r=>
    rw[er] at k;have CL:h.rows.find? (λr=>(r.who:Int)==x)=some r:=er;rw[CL] at hv;refine cH ?_ hv;rintro a JR vw hw;rw[vw];refine lh ?_;refine cT ?_;have R1:gA A fm.columns H1 l:=(X.rows.mono (bY _ _)).mono s1;refine ba ?_;refine fI (s1 _ _ S.ins) T.d7.cl T.d7.gK dg (mI (s1 _ _ S.ins) dZ (jb hs dx rd _ _ _ ⟨rfl,s1 _ _ S.ins,s1 _ _ S.xY,λD1 H2 hD1 s2 e2=>?_⟩));have e2':H2 D1=some (.lst (qh l)):=by rw[e2];unfold uV qh;rw[aQ];rfl
    have zO:=s1.trans s2;have hg2:jL H2 rd (.int x) (some (.ref a)):=by rw[<-vw];exact jL.k (k:=(cG x:Key)) (zO _ _ S.xY)
    refine fI (zO _ _ S.ins) T.d7.cl T.d7.kl fB (ag rfl (bt rd _ rfl hg2 (ag rfl (xF fa D1 e fm l (a,r) (bC row) ⟨rfl,F1.mono zO,X.ok,e2',R1.mono s2,JR,bG.of (sW (zO _ _ rA) lz),Ys,λD2 H3 CF s3 e3=>?_⟩))));obtain⟨m,hm⟩:∃m,m=l.filter λy=>aF fm.columns (bC row) y.2==aF fm.columns (bC row) r:=⟨_,rfl⟩;rw[<-hm] at e3;have SJ:H3 D2=some (.lst (iZ (m.map (·.1)))):=by rw[e3,xw]
    have Rm:gA A fm.columns H3 m:=by rw[hm];exact((R1.mono s2).mono s3).sub fw
    have vk:am9 fm.columns (bC row) h.rows r=m.map (·.2):=by unfold am9;rw[y6,hm,iy (λy:gi=>aF fm.columns (bC row) y==aF fm.columns (bC row) r),S.rows]
    refine ck ?_;refine ag rfl (bt D2 _ rfl (.inl (bG.of SJ)) (ag rfl (iD D2 _ _ rfl SJ Rm.rows (by rw[aa];exact ao Rm.len (by decide)) (λH4 s4=>⟨by show 3<=aA;decide,λD hD=>k D _ (Ans.same S0 (((zO.trans s3).trans s4).trans (aD hD)) (zO.free (s3.free (s4.free hD))) ?_)⟩))));rw[ai,show∀a b:Nat,(0:Int)::nums [a,b]=nums [0,a,b] fromλ_ _=>rfl,jo,vk,cu,aa,aa];rfl
theorem Dq(T:Txt K mg A):Def P w K mg base "answer_short" 6 ["house","numbers","levels"] (Ng K A Pt (λns row=>(∃x u,ns=[x,u])/\row.length<=100) λns row=>.short (ns.getD 0 0) (ns.getD 1 0) row):=by
 refine T.kR.Jo.g8 gT (λf _ A' _ s H vs Q E hr=>o5 ?_)
 ·rintro hs d e g M h fm ns row ⟨rfl,S0,hf,hd,he,⟨⟨x,u,rfl⟩,hp⟩,k⟩;refine nK ?_ (id S0);rintro dx rd rl l gQ zs fv S;have X:=S.form hf;obtain⟨fa,rfl,F0⟩:=X.ex;have F1:=F0.mono (bY _ _);refine ip ?_ (id F1);rintro Qx lc lv as f1 f2 f3 f4;have rA:=(c8 he).2;have gC:bX h (.short x u row)=if(within x 1 40&&(within u 1 12&&Gv fm.columns row))=false then(h,[-1]) else(h,0::((ab0 fm.columns (bC row) x.toNat u.toNat h.rows).length:Int)::(ab0 fm.columns (bC row) x.toNat u.toNat h.rows).map λr=>(r.who:Int)):=by show bJ h _=_;unfold bJ;rw[hf];rfl
  have oP:bX h (.short (([x,u]:List Int).getD 0 0) (([x,u]:List Int).getD 1 0) row)=_:=gC;rw[oP] at k;have ref:(within x 1 40&&(within u 1 12&&Gv fm.columns row))=false->∀D H',aT H H'->H D=none->H' D=some (.lst (j8 [-1]))->Q (.ref D) H':=λq D H' s1 hD e1=>by rw[if_pos q] at k;exact k D H' (Ans.same S0 s1 hD e1)
  refine ag (ax (cg (i:=3) gT.nd rfl fz (eN cU (pv 1) bB (λ_ _=>rfl))) (ax (cg (i:=4) gT.nd rfl fz (eN cU (pv 1) bB (λ_ _=>rfl))) (ax (du (PW.pt (rT (gI (fY (bF (mX T) hr.mono rfl (aI (pv 3) (aI (pv 4) aq))))) (oK (gI (fY (cp (bo (pv 0) rfl) T.iw.cl (ji T) hr.mono (aI (pv 2) aq))))))) (aG (aY (bZ (aI (cY T.k.ib rfl) aq)))) bS) (ax (cg (i:=5) gT.nd rfl fz (dv (pv 0) T.d7.cl (eV T) hr.mono)) (ax (cg (i:=6) gT.nd rfl fz (bF (yF T) hr.mono rfl (aI (bo (pv 0) rfl) (aI (pv 5) (aI (pv 2) (aI (pv 3) (aI (pv 4) aq))))))) (ax (DW (i:=7) rfl gT.nd rfl rfl (IU rfl rfl rfl (by decide+kernel)) (own:=[("row",8)]) (dI (pv 5)) (cR (by kernel_rfl)) (λ_ _ _ _ _=>(bU (i:=8) gT.nd rfl fz)) (λ_ _ _ _ _=>(tq (gI (fY (cp (pv 6) T.rel.cl (uf T) hr.mono (aI (pv 8) aq)))))) (λ_ _ _ _ _=>(kL (K:=K) rfl (pv 8) rfl))) (aG (aY (fo jU (bZ (aI bB (aI (cJ bx (by rfl) T.b.dS cP (aI (pv 7) aq)) aq))) (pv 7)))))))))) ?_;refine ba ?_;refine ag rfl (iE d _ _ _ rfl rfl (bG.of hd) (cN (j:=0) rfl) ?_);refine ck ?_;refine ba ?_;refine ag rfl (iE d _ _ _ rfl rfl (bG.of hd) (cN (j:=1) rfl) ?_);refine ck ?_;refine ba ?_;refine ag rfl (ag rfl (fu x u rfl (ag rfl (kQ (λq1=>kW ?_) (λq1=>?_)))))
  ·refine⟨by show 1<=aA;decide,λD hD=>ref ?_ D _ (aD hD) hD ai⟩;rw[<-oF,q1];rfl
  ·refine fI S.ins T.d7.cl T.d7.gK dg (mJ f1 iC (ag rfl (gB fa e fm row rfl F1 X.ok (bG.of rA) hp (λH1 s1=>ag rfl (kQ (λq=>?_) (λq=>?_))))))
   ·refine⟨by show 1<=aA;decide,λD hD=>ref ?_ D _ (s1.trans (aD hD)) (s1.free hD) ai⟩;rw[<-oF,q,iY]
   ·rw[if_neg (by rw[<-oF,q1,q];exact bN)] at k;obtain⟨Ys,lz⟩:=xq q;rw[aL,ir,ir] at q1;have ex:x=((x.toNat:Nat):Int):=by omega
    have eu:u=((u.toNat:Nat):Int):=by omega
    refine cT ?_;refine ba ?_;refine mI (s1 _ _ S.ins) dZ (jb hs dx rd _ _ _ ⟨rfl,s1 _ _ S.ins,s1 _ _ S.xY,λD1 H2 hD1 s2 e2=>?_⟩);have e2':H2 D1=some (.lst (qh l)):=by rw[e2];unfold uV qh;rw[aQ];rfl
    have zO:=s1.trans s2;have R2:gA A fm.columns H2 l:=(X.rows.mono (bY _ _)).mono zO;refine ck ?_;refine ba ?_;refine fI (zO _ _ S.ins) T.d7.cl T.d7.gK dg (ag rfl (ag rfl (ag rfl (ag rfl (qt fa D1 e fm l (bC row) x.toNat u.toNat ([]) ⟨by rw[<-ex,<-eu];rfl,F1.mono zO,X.ok,e2',R2,S.ndl,(λm hm=>nomatch hm),by rw[ub];exact sW (zO _ _ rA) lz,Ys,λz H3 hz s3 Z3=>?_⟩)))));rw[ub] at Z3;have AX:=zO.trans s3;refine jT ?_ (id Z3);rintro U9 ll ld z1 z2 z3;refine ck ?_;refine ba ?_;refine JB ?_;refine fC ?_;refine ag rfl (bP D1 rfl ⟨_,bG.of (s3 _ _ e2')⟩ ?_);have R3:=R2.mono s3;refine l4 (enc:=λp:PR=>V.ref p.1) (f:=λp=>V.int (p.2.who:Nat)) (p:=λp=>!((iF fm.columns (l.map (·.2)) (bC row) x.toNat u.toNat).lk.lookup p.2.who).isSome) (bG.of (s3 _ _ e2')) (ao R3.len (by decide)) (λi y H' R S' hi k' hR hS=>?_) (λD H' hD Rz Xf=>?_)
    ·have hy:=(R3.at' y (aN hi)).mono k';refine jk ?_ (id hy);rintro dxr lr r1 r2;refine⟨rfl,mI (k' _ _ z1) pf (ag rfl (oJ z y.1 _ y.2 rfl (Z3.mono k') hy (ag rfl (kQ (λq3=>fI r1 T.row.cl T.row.pG lu (hR ?_ _ (aT.refl _))) (λq3=>hS ?_ _ (aT.refl _))))))⟩
     ·rw[q3];rfl
     ·rw[q3];rfl
    ·have ad5:(l.filter λp=>!((iF fm.columns (l.map (·.2)) (bC row) x.toNat u.toNat).lk.lookup p.2.who).isSome).map (·.2)=ab0 fm.columns (bC row) x.toNat u.toNat h.rows:=by rw[iy (λr:gi=>!((iF fm.columns (l.map (·.2)) (bC row) x.toNat u.toNat).lk.lookup r.who).isSome),BC,S.rows];refine ic λr hr=>?_;rw[Si S.nd hr]
     obtain⟨m,hm⟩:∃m,m=l.filter λp=>!((iF fm.columns (l.map (·.2)) (bC row) x.toNat u.toNat).lk.lookup p.2.who).isSome:=⟨_,rfl⟩;rw[<-hm] at Xf ad5;have Ym:m.length<=40:=by rw[hm];exact ao (dW _ _) R3.len
     refine ck ?_;refine jh ?_;refine ag rfl (dH D _ rfl (.inl (bG.of Xf)) (by show 2<=aA;decide) (λy hy=>ag rfl (gB y D _ _ rfl rfl ai (aD hy _ _ Xf) ?_ (λv hv=>k v _ (Ans.same S0 (((AX.trans Rz).trans (aD hy)).trans (aD hv)) (AX.free (Rz.free ((aD hy).free hv))) ?_)))))
     ·rw[aa];show 2+m.length<=aA;exact cX (dG (by omega))
     ·rw[ai,<-ad5,aa,aa,aQ];unfold j8;rw[br,br,aQ];rfl
end
end
section
open Vbslai (within rowOf released)
theorem Sj{cs:List bA}{rows MS:List gi}{z:Rl}{q:fV}(h:y9 cs rows z q)(k:∀r∈MS,r.who∈q.has->r∈rows):y9 cs MS z q:=⟨h.lv,h.k,h.u,h.left,h.nd,h.V4,h.mem,λr hr hh=>h.look r (k r hr hh) hh⟩
theorem FK{cs:List bA}{rows MS:List gi}:∀{zs:List Rl}{qs:List fV},kj cs rows zs qs->(∀q∈qs,∀r∈MS,r.who∈q.has->r∈rows)->kj cs MS zs qs
 |_,_,.nil,_=>.nil
 |_,_,.cons h t,k=>.cons (Sj h (k _ (.head _))) (FK t λq hq=>k q (.tail _ hq))
theorem CM{cs:List bA}{rows:List gi}(r:gi):∀{zs:List Rl}{qs:List fV},kj cs rows zs qs->(zs.any λz=>(z.lk.lookup r.who).isSome)=qs.any λq=>q.has.any λw=>(w:Int)==(r.who:Int)
 |_,_,.nil=>rfl
 |_,_,.cons h t=>by
  rw[iK,iK,CM r t,h.isSome r.who];congr 1;rw[ng,Hv];simp;constructor
  ·intro q;exact ag q rfl
  ·rintro⟨x,hx,e⟩;have:x=r.who:=by omega
   rw[<-this];exact hx
section
variable{A:Cl}{Pt g hs dx rd rl:af}{M:List af}{H H':Hp}{h:l8}{l:List PR}{gQ:List af}{zs:List Rl}{fv:V}
theorem rG.dput{h':l8}{l':List PR}{f:d8}(S:rG A Pt g M H hs h dx rd rl l gQ zs fv)(hf:h.form=some f)(e:aT H H')(hr:l'.map (·.2)=h'.rows)(V4:(h'.rows.map (·.who)).Nodup)(hff:h'.form=some f)(Xz:h'.releases=h.releases)(ad6:gA A f.columns (cut H' M) l')(hk:∀q∈h.releases,∀r∈h'.rows,r.who∈q.has->r∈h.rows)(hw:∀w∈h.rows.map (·.who),w∈h'.rows.map (·.who)):rG A Pt g M (upd H' rd (.dK (uV l'))) hs h' dx rd rl l' gQ zs fv:=by
 have X:=S.form hf;have ec:cut (upd H' rd (.dK (uV l'))) M=cut H' M:=tQ S.dm;have hd:=e _ _ S.xY;refine⟨(S.tr.mono e).upd (λ_ z=>nomatch z),S.pm,S.gm,S.hm,S.dm,S.lm,S.gh,S.gd,S.gl,S.gp,(S.tg.mono e).ad1 hd (λ_ z=>nomatch z) (λ_ z=>nomatch z),?_,ai,?_,hr,V4,?_,S.Sf,?_⟩
 ·rw[ay (gH (e _ _ S.ins) hd (λz=>nomatch z))];exact e _ _ S.ins
 ·rw[ay (gH (e _ _ S.lst) hd (λz=>nomatch z))];exact e _ _ S.lst
 ·rw[ec];exact gX.mono (dR e) S.ya
 ·rw[hff];refine⟨?_,X.ok,by rw[ec];exact ad6,?_,X.lv,?_⟩
  ·obtain⟨fa,a,b⟩:=X.ex;exact bq fa a (by rw[ec];exact b.mono (dR e))
  ·rw[Xz];exact FK X.rl hk
  ·rw[Xz];exactλq hq w XA=>hw w (X.has q hq w XA)
end
theorem MT{f:d8}{w s:Int}{row:List Int}(q:(within w 0 999&&(Wh f s&&Nn f.columns row))=true):w=((w.toNat:Nat):Int)/\s=((s.toNat:Nat):Int)/\zc f.columns (bC row)/\row=(bC row).map λ(n:Nat)=>(n:Int):=by rw[aL,aL,ir] at q;obtain⟨h1,h2,h3⟩:=q;unfold qy at h2;rw[ir] at h2;obtain⟨h4,h5⟩:=Uo h3;exact⟨by omega,by omega,h4,h5⟩
section
variable{P:bp}{w:bQ}{K:ah}{mg:Str->Option ak}{base:cB}{A:Cl}{Pt:af}
theorem AY(T:Txt K mg A):Def P w K mg base "answer_sleeper" 4 ["house","numbers","cells"] (Ng K A Pt (λns row=>(∃x u,ns=[x,u])/\row.length<=100) λns row=>.sleeper (ns.getD 0 0) (ns.getD 1 0) row):=by
 refine T.kR.EO.g8 mR (λf _ A' _ s H vs Q E hr=>o5 ?_)
 ·rintro hs d e g M h fm ns row ⟨rfl,S0,hf,hd,he,⟨⟨x,u,rfl⟩,hp⟩,k⟩;refine nK ?_ (id S0);rintro dx rd rl l gQ zs fv S;have X:=S.form hf;obtain⟨fa,rfl,F0⟩:=X.ex;have F1:=F0.mono (bY _ _);have rA:=(c8 he).2;have hu:=ur hr;have gC:bX h (.sleeper x u row)=if(within x 0 999&&(Wh fm u&&Nn fm.columns row))=false then(h,[-1]) else if(rowOf h x).isSome=true then(h,[-5]) else if 40<=h.rows.length then(h,[-6]) else({h with rows:=h.rows++[{who:=x.toNat,cells:=bC row,secret:=u.toNat}]},[0]):=by show bJ h _=_;unfold bJ;rw[hf];rfl
  have oP:bX h (.sleeper (([x,u]:List Int).getD 0 0) (([x,u]:List Int).getD 1 0) row)=_:=gC;rw[oP] at k;have hv:=ui x l;rw[S.rows] at hv;have Qu:l.length=h.rows.length:=by rw[<-S.rows,aa]
  have ad7:=X.rows.len;refine ag (ax (cg (i:=3) mR.nd rfl fz (eN cU (pv 1) bB (λ_ _=>rfl))) (ax (cg (i:=4) mR.nd rfl fz (eN cU (pv 1) bB (λ_ _=>rfl))) (ax (du (gI (fY (bF (rm T) hr.mono rfl (aI (bo (pv 0) rfl) (aI (pv 3) (aI (pv 4) (aI (pv 2) aq))))))) (aG (aY (bZ (aI (cY T.k.ib rfl) aq)))) bS) (ax (du (yQ (TJ hu (pv 3) (bo (pv 0) rfl))) (aG (aY (bZ (aI (cY T.k.Ya rfl) aq)))) bS) (ax (du (cF jz (cJ rZ (by rfl) T.b.dS cP (aI (bo (pv 0) rfl) aq)) (cY T.k.G4 rfl) (cC _)) (aG (aY (bZ (aI (cY T.k.acX rfl) aq)))) bS) (ax (DB hu (bo (pv 0) rfl) (pv 3) (n6 (CG T) hr.mono rfl (aI (pv 3) (aI (pv 4) (aI (pv 2) aq)))) rfl) (aG (aY (bZ (aI bB aq)))))))))) ?_;refine ba ?_;refine ag rfl (iE d _ _ _ rfl rfl (bG.of hd) (cN (j:=0) rfl) ?_);refine ck ?_;refine ba ?_;refine ag rfl (iE d _ _ _ rfl rfl (bG.of hd) (cN (j:=1) rfl) ?_);refine ck ?_;refine ba ?_;refine fI S.ins T.d7.cl T.d7.gK dg (ag rfl (ag rfl (ag rfl (jb fa e fm x u row ⟨rfl,F1,X.ok,bG.of rA,hp,λH1 s1=>ag rfl (kQ (λq=>?_) (λq=>?_))⟩))))
  ·rw[if_pos q] at k;exact⟨by show 1<=aA;decide,λD hD=>k D _ (Ans.same S0 (s1.trans (aD hD)) (s1.free hD) (by rw[ai];rfl))⟩
  ·rw[if_neg (by rw[q];exact bN)] at k;obtain⟨ex,eu,Gm,cz⟩:=MT q;refine cT ?_;refine ba ?_;have hg:jL H1 rd (.int x) (jc (uV l) (cG x:Key)):=jL.k (k:=(cG x:Key)) (s1 _ _ S.xY);refine ag rfl (fI (s1 _ _ S.ins) T.d7.cl T.d7.kl fB (bt rd _ rfl hg (ag rfl ?_)))
   cases er:rowOf h x with
   |some r=>rw[er,if_pos (show(some r:Option gi).isSome=true from rfl)] at k;have CL:h.rows.find? (λr=>(r.who:Int)==x)=some r:=er;rw[CL] at hv;refine cH ?_ hv;rintro a JR vw hw;rw[vw];exact kW ⟨by show 1<=aA;decide,λD hD=>k D _ (Ans.same S0 (s1.trans (aD hD)) (s1.free hD) (by rw[ai];rfl))⟩
   |none=>
    rw[er,if_neg (show¬(none:Option gi).isSome=true fromλz=>nomatch z)] at k;have CL:h.rows.find? (λr=>(r.who:Int)==x)=none:=er;rw[CL] at hv;have vw:jc (uV l) (cG x:Key)=none:=hv;rw[vw];refine lh ?_;refine cT ?_;refine ba ?_;refine fI (s1 _ _ S.ins) T.d7.cl T.d7.kl fB (dH rd _ rfl (s1 _ _ S.xY) rfl (ag rfl (fG (λq2=>?_) (λq2=>?_))))
    ·have q3:40<=h.rows.length:=by
      rw[aa] at q2;injection q2 with q2
      omega
     rw[if_pos q3] at k;exact⟨by show 1<=aA;decide,λD hD=>k D _ (Ans.same S0 (s1.trans (aD hD)) (s1.free hD) (by rw[ai];rfl))⟩
    ·have q3:¬40<=h.rows.length:=λz=>q2 (by
      rw[aa];have:l.length=40:=by omega
      rw[this];rfl)
     rw[if_neg q3] at k;refine cT ?_;refine ba ?_;refine ag rfl (ag rfl (ag rfl (λy dy ny nd ne=>o6 y dy _ _ _ ⟨rfl,ai,λH4 e4 k4=>⟨rfl,?_⟩⟩)));have s4:aT H1 H4:=aT.made ny nd k4;have Gq:=s1.trans s4;refine fI (Gq _ _ S.ins) T.d7.cl T.d7.kl fB (ag rfl (bt rd _ rfl (GI.k (k:=(cG x:Key)) (Gq _ _ S.xY) (by rw[aa];exact dG (by omega))) ?_));rw[DX _ vw];have hny:H y=none:=s1.free ny;have eL:uV l++[((cG x:Key),V.ref y)]=uV (l++[(y,{who:=x.toNat,cells:=bC row,secret:=u.toNat})]):=by unfold uV;rw[bw];show _=_++[(Gn x.toNat,V.ref y)];unfold Gn;rw[<-ex]
     rw[eL];have OU:∀r∈h.rows,r.who≠x.toNat:=λr hr z=>by have:=nq.mp CL r hr;apply this;rw[z,<-ex];simp
     have S':rG A Pt g M (upd H4 rd (.dK (uV (l++[(y,{who:=x.toNat,cells:=bC row,secret:=u.toNat})])))) hs {h with rows:=h.rows++[{who:=x.toNat,cells:=bC row,secret:=u.toNat}]} dx rd rl (l++[(y,{who:=x.toNat,cells:=bC row,secret:=u.toNat})]) gQ zs (.ref fa):=by
      refine S.dput hf Gq (by rw[bw,S.rows];rfl) ?_ hf rfl ⟨λp Ii=>?_,λp Ii=>?_,?_⟩ (λq' hq r hr hh=>?_) (λw' XA=>?_)
      ·show((h.rows++[_]).map _).Nodup;rw[bw,kU];refine⟨S.nd,by simp,λa ha b hb=>?_⟩;obtain⟨r,hr,rfl⟩:=au.mp ha;have:b=x.toNat:=by simpa using hb
       rw[this];exact OU r hr
      ·rcases aE.mp Ii with z|z
       ·exact(X.rows.at' p z).mono (dR Gq)
       ·have z':p=(y,{who:=x.toNat,cells:=bC row,secret:=u.toNat}):=by simpa using z
        subst z';refine fu dy e ?_ ?_
        ·rw[rg S.tr.tr hny e4];show some (HO.ins A.row dy (yA (V.int x) (V.int u) (V.ref e)))=some (HO.ins A.row dy (yA (V.int (x.toNat:Nat)) (V.int (u.toNat:Nat)) (V.ref e)));rw[<-ex,<-eu]
        ·exact sW (dR Gq _ _ he) cz
      ·rcases aE.mp Ii with z|z
       ·exact X.rows.cells p z
       ·have z':p=(y,{who:=x.toNat,cells:=bC row,secret:=u.toNat}):=by simpa using z
        subst z';exact Gm
      ·rw[aP];show l.length+1<=40;omega
      ·rcases aE.mp hr with z|z
       ·exact z
       ·have z':r={who:=x.toNat,cells:=bC row,secret:=u.toNat}:=by simpa using z
        subst z';obtain⟨r',hr',e'⟩:=au.mp (X.has q' hq _ hh);exact absurd e' (OU r' hr')
      ·show w'∈(h.rows++[_]).map _;rw[bw];exact eC _ XA
     refine⟨by show 1<=aA;decide,λD hD=>k D _ ?_⟩;obtain⟨o,ho,_⟩:=S.tr g S.gm;have O3:H4 D=none:=by rw[ay (λz=>by rw[z,ai] at hD;cases hD)] at hD;exact hD
     refine iL M (xF dx rd rl _ gQ zs _ (S'.mono (aD hD))) ?_ (λb hb=>.inl hb) ⟨Gq.free O3,ai,((c6.of Gq).upd S.dm).trans (c6.of (aD hD))⟩;have hgD:g≠D:=λz=>by rw[<-z,Gq _ _ ho] at O3;cases O3
     rw[ay hgD,ay S.gd.symm,ho];exact Gq _ _ ho
theorem B5(T:Txt K mg A):Def P w K mg base "answer_change" 4 ["house","numbers","cells"] (Ng K A Pt (λns row=>(∃x u,ns=[x,u])/\row.length<=100) λns row=>.change (ns.getD 0 0) (ns.getD 1 0) row):=by
 refine T.kR.GX.g8 nN (λf _ A' _ s H vs Q E hr=>o5 ?_)
 ·rintro hs d e g M h fm ns row ⟨rfl,S0,hf,hd,he,⟨⟨x,u,rfl⟩,hp⟩,k⟩;refine nK ?_ (id S0);rintro dx rd rl l gQ zs fv S;have X:=S.form hf;obtain⟨fa,rfl,F0⟩:=X.ex;have F1:=F0.mono (bY _ _);have rA:=(c8 he).2;have hu:=ur hr;have gC:bX h (.change x u row)=if(within x 0 999&&(Wh fm u&&Nn fm.columns row))=false then(h,[-1]) else if(rowOf h x).isNone=true then(h,[-4]) else if released h x=true then(h,[-5]) else({h with rows:=h.rows.map λr=>if(r.who:Int)=x then{r with cells:=bC row,secret:=u.toNat} else r},[0]):=by show bJ h _=_;unfold bJ;rw[hf];rfl
  have oP:bX h (.change (([x,u]:List Int).getD 0 0) (([x,u]:List Int).getD 1 0) row)=_:=gC;rw[oP] at k;have hv:=ui x l;rw[S.rows] at hv;have ad7:=X.rows.len;refine ag (ax (cg (i:=3) nN.nd rfl fz (eN cU (pv 1) bB (λ_ _=>rfl))) (ax (cg (i:=4) nN.nd rfl fz (eN cU (pv 1) bB (λ_ _=>rfl))) (ax (du (gI (fY (bF (rm T) hr.mono rfl (aI (bo (pv 0) rfl) (aI (pv 3) (aI (pv 4) (aI (pv 2) aq))))))) (aG (aY (bZ (aI (cY T.k.ib rfl) aq)))) bS) (ax (du (yQ (px hu (pv 3) (bo (pv 0) rfl))) (aG (aY (bZ (aI (cY T.k.p7 rfl) aq)))) bS) (ax (du (fY (cp (pv 0) T.d7.cl (x9 T) hr.mono (aI (tu hu (bo (pv 0) rfl) (pv 3) (λ_ _=>rfl)) aq))) (aG (aY (bZ (aI (cY T.k.Ya rfl) aq)))) bS) (ax (DB hu (bo (pv 0) rfl) (pv 3) (n6 (CG T) hr.mono rfl (aI (pv 3) (aI (pv 4) (aI (pv 2) aq)))) rfl) (aG (aY (bZ (aI bB aq)))))))))) ?_;refine ba ?_;refine ag rfl (iE d _ _ _ rfl rfl (bG.of hd) (cN (j:=0) rfl) ?_);refine ck ?_;refine ba ?_;refine ag rfl (iE d _ _ _ rfl rfl (bG.of hd) (cN (j:=1) rfl) ?_);refine ck ?_;refine ba ?_;refine fI S.ins T.d7.cl T.d7.gK dg (ag rfl (ag rfl (ag rfl (jb fa e fm x u row ⟨rfl,F1,X.ok,bG.of rA,hp,λH1 s1=>ag rfl (kQ (λq=>?_) (λq=>?_))⟩))))
  ·rw[if_pos q] at k;exact⟨by show 1<=aA;decide,λD hD=>k D _ (Ans.same S0 (s1.trans (aD hD)) (s1.free hD) (by rw[ai];rfl))⟩
  ·rw[if_neg (by rw[q];exact bN)] at k;obtain⟨ex,eu,Gm,cz⟩:=MT q;refine cT ?_;refine ba ?_;have hg:jL H1 rd (.int x) (jc (uV l) (cG x:Key)):=jL.k (k:=(cG x:Key)) (s1 _ _ S.xY);refine ag rfl (fI (s1 _ _ S.ins) T.d7.cl T.d7.kl fB (bt rd _ rfl hg (ag rfl ?_)))
   cases er:rowOf h x with
   |none=>rw[er,if_pos (show(none:Option gi).isNone=true from rfl)] at k;have CL:h.rows.find? (λr=>(r.who:Int)==x)=none:=er;rw[CL] at hv;have vw:jc (uV l) (cG x:Key)=none:=hv;rw[vw];exact kW ⟨by show 1<=aA;decide,λD hD=>k D _ (Ans.same S0 (s1.trans (aD hD)) (s1.free hD) (by rw[ai];rfl))⟩
   |some r=>
    rw[er,if_neg (show¬(some r:Option gi).isNone=true fromλz=>nomatch z)] at k;have CL:h.rows.find? (λr=>(r.who:Int)==x)=some r:=er;rw[CL] at hv;refine cH ?_ hv;rintro a JR vw hw;rw[vw] at hg⊢;refine lh ?_;refine cT ?_;refine ba ?_;have R1:gA A fm.columns H l:=X.rows.mono (bY _ _);refine mI (s1 _ _ S.ins) vb (fI (s1 _ _ S.ins) T.d7.cl T.d7.kl fB (ag rfl (bt rd _ rfl hg (qt hs dx a rl _ _ gQ zs r ⟨rfl,s1 _ _ S.ins,s1 _ _ S.lst,gX.mono ((bY _ _).trans s1) S.ya,ao S.Sf (by decide),(R1.at' _ JR).mono s1,λH2 s2=>ag rfl ?_⟩))));have Xz:(zs.any λz=>(z.lk.lookup r.who).isSome)=released h x:=by rw[CM r X.rl,hw];rfl
    rw[Xz];have zO:=s1.trans s2;refine Es (λq2=>?_) (λq2=>?_)
    ·rw[if_pos q2] at k;exact⟨by show 1<=aA;decide,λD hD=>k D _ (Ans.same S0 (zO.trans (aD hD)) (zO.free hD) (by rw[ai];rfl))⟩
    ·rw[if_neg (by rw[q2];exact bN)] at k;refine cT ?_;refine ba ?_;refine ag rfl (ag rfl (ag rfl (λy dy ny nd ne=>o6 y dy _ _ _ ⟨rfl,ai,λH4 e4 k4=>⟨rfl,?_⟩⟩)));have s4:aT H2 H4:=aT.made ny nd k4;have Gq:=zO.trans s4;refine fI (Gq _ _ S.ins) T.d7.cl T.d7.kl fB (ag rfl (bt rd _ rfl (GI.k (k:=(cG x:Key)) (Gq _ _ S.xY) (by rw[aa];exact dG (by omega))) ?_));have hny:H y=none:=zO.free ny;obtain⟨ch,Bi⟩:∃ch:gi->gi,ch=λr=>if(r.who:Int)=x then{r with cells:=bC row,secret:=u.toNat} else r:=⟨_,rfl⟩
     have chw:∀r,(ch r).who=r.who:=λr=>by rw[Bi];dsimp only;split<;>rfl
     obtain⟨l',S2⟩:∃l':List PR,l'=l.map λp=>(if(p.2.who:Int)=x then y else p.1,ch p.2):=⟨_,rfl⟩;have eL:putK (uV l) (cG x:Key) (V.ref y)=uV l':=by
      unfold putK;rw[Aa,vw,if_pos (show(some (V.ref a)).isSome=true from rfl),S2];unfold uV;rw[aQ,aQ];refine dh λp _=>?_;show(if Gn p.2.who=cG x then(Gn p.2.who,V.ref y) else(Gn p.2.who,V.ref p.1))=(Gn (ch p.2).who,V.ref (if(p.2.who:Int)=x then y else p.1));rw[chw];by_cases z:(p.2.who:Int)=x
      ·rw[if_pos (by unfold Gn;rw[z]),if_pos z]
      ·have n:¬Gn p.2.who=(cG x:Key):=λz2=>z (Be z2);rw[if_neg n,if_neg z]
     rw[eL];have hnh:∀q'∈h.releases,¬r.who∈q'.has:=λq' hq hh=>by
      have:released h x=true:=by unfold Vbslai.released;exact Hv.mpr (bq q' hq (Hv.mpr (bq r.who hh (by rw[hw];simp))))
      rw[q2] at this;cases this
     have S':rG A Pt g M (upd H4 rd (.dK (uV l'))) hs {h with rows:=h.rows.map ch} dx rd rl l' gQ zs (.ref fa):=by
      refine S.dput hf Gq ?_ ?_ hf rfl ⟨λp Ii=>?_,λp Ii=>?_,?_⟩ (λq' hq r' hr' hh=>?_) (λw' XA=>?_)
      ·show _=h.rows.map ch;rw[<-S.rows,S2,aQ,aQ];rfl
      ·show((h.rows.map ch).map _).Nodup;rw[aQ,show((λr:gi=>r.who)∘ch)=λr=>r.who from funext chw];exact S.nd
      ·rw[S2] at Ii;obtain⟨p0,SK,rfl⟩:=au.mp Ii;by_cases z:(p0.2.who:Int)=x
       ·refine fu dy e ?_ ?_
        ·show cut H4 M (if(p0.2.who:Int)=x then y else p0.1)=_;rw[if_pos z,rg S.tr.tr hny e4];have e1:(ch p0.2).secret=u.toNat:=by rw[Bi];dsimp only;rw[if_pos z]
         show some (HO.ins A.row dy (yA (V.int x) (V.int u) (V.ref e)))=some (HO.ins A.row dy (yA (V.int ((ch p0.2).who:Nat)) (V.int ((ch p0.2).secret:Nat)) (V.ref e)));rw[e1,<-eu,chw,z]
        ·have e1:(ch p0.2).cells=bC row:=by rw[Bi];dsimp only;rw[if_pos z]
         show cut H4 M e=some (.lst (gZ (ch p0.2).cells));rw[e1];exact sW (dR Gq _ _ he) cz
       ·have e1:ch p0.2=p0.2:=by rw[Bi];dsimp only;rw[if_neg z]
        show sG A (cut H4 M) (if(p0.2.who:Int)=x then y else p0.1) (ch p0.2);rw[if_neg z,e1];exact(X.rows.at' p0 SK).mono (dR Gq)
      ·rw[S2] at Ii;obtain⟨p0,SK,rfl⟩:=au.mp Ii;show zc fm.columns (ch p0.2).cells;by_cases z:(p0.2.who:Int)=x
       ·have e1:(ch p0.2).cells=bC row:=by rw[Bi];dsimp only;rw[if_pos z]
        rw[e1];exact Gm
       ·have e1:ch p0.2=p0.2:=by rw[Bi];dsimp only;rw[if_neg z]
        rw[e1];exact X.rows.cells p0 SK
      ·rw[S2,aa];exact ad7
      ·obtain⟨r0,QC,rfl⟩:=au.mp hr';by_cases z:(r0.who:Int)=x
       ·rw[chw,show r0.who=r.who by omega] at hh;exact absurd hh (hnh q' hq)
       ·have e1:ch r0=r0:=by rw[Bi];dsimp only;rw[if_neg z]
        rw[e1];exact QC
      ·show w'∈(h.rows.map ch).map _;rw[aQ,show((λr:gi=>r.who)∘ch)=λr=>r.who from funext chw];exact XA
     refine⟨by show 1<=aA;decide,λD hD=>k D _ ?_⟩;obtain⟨o,ho,_⟩:=S.tr g S.gm;have O3:H4 D=none:=by rw[ay (λz=>by rw[z,ai] at hD;cases hD)] at hD;exact hD
     have S'':=S'.mono (aD (o:=HO.lst [V.int 0]) hD);rw[Bi] at S'';refine iL M (xF dx rd rl _ gQ zs _ S'') ?_ (λb hb=>.inl hb) ⟨Gq.free O3,ai,((c6.of Gq).upd S.dm).trans (c6.of (aD hD))⟩;have hgD:g≠D:=λz=>by rw[<-z,Gq _ _ ho] at O3;cases O3
     rw[ay hgD,ay S.gd.symm,ho];exact Gq _ _ ho
end
end
section
variable{P:bp}{w:bQ}{K:ah}{mg:Str->Option ak}{base:cB}{A:Cl}{Pt:af}
theorem FL(T:Txt K mg A)(jq:Def P w K mg base "best_release" 9 ["form","rows","releases","numbers","asked"] (lR K A Pt)):
  Def P w K mg base "answer_plan" 10 ["house","numbers","asked"] (Ng K A Pt (λns row=>(∃x u m,ns=[x,u,m])/\row.length<=100) λns row=>.plan (ns.getD 0 0) (ns.getD 1 0) (ns.getD 2 0) row):=by
 refine T.kR.Lo.g8 wF (λf _ A' _ s H vs Q E hr=>o5 ?_)
 ·rintro hs d e g M h fm ns row ⟨rfl,S0,hf,hd,he,⟨⟨x,u,m,rfl⟩,hp⟩,k⟩;refine nK ?_ (id S0);rintro dx rd rl l gQ zs fv S;have X:=S.form hf;obtain⟨fa,rfl,F0⟩:=X.ex;have F1:=F0.mono (bY _ _);have rA:=(c8 he).2;have gC:bX h (.plan x u m row)=if md fm x u m row=false then(h,[-1]) else(match uY fm.columns h.releases h.rows (row.map λb=>b==1) x.toNat u.toNat m.toNat with
    |some p=>(h,0::1::(p.cost:Int)::m9 p.release)
    |none=>(h,[0,0])):=by
   show bJ h _=_;unfold bJ;rw[hf];rfl
  have oP:bX h (.plan (([x,u,m]:List Int).getD 0 0) (([x,u,m]:List Int).getD 1 0) (([x,u,m]:List Int).getD 2 0) row)=_:=gC;rw[oP] at k;refine ag (ax (du (gI (fY (bF (l9 T) hr.mono rfl (aI (bo (pv 0) rfl) (aI (pv 1) (aI (pv 2) aq)))))) (aG (aY (bZ (aI (cY T.k.ib rfl) aq)))) bS) (ax (cg (i:=3) wF.nd rfl fz (bF jq hr.mono rfl (aI (bo (pv 0) rfl) (aI (dv (pv 0) T.d7.cl (eV T) hr.mono) (aI (bo (pv 0) rfl) (aI (pv 1) (aI (pv 2) aq))))))) (ax (du (cF DS (pv 3) lT (cC _)) (aG (aY (bZ (aI bB (aI bB aq))))) bS) (aG (aY (fo jU (bZ (aI bB (aI bB (aI (cp (bo (pv 0) rfl) T.iw.cl (mT T) hr.mono (aI (bo (pv 3) rfl) aq)) aq)))) (dv (pv 3) T.rel.cl (wN T) hr.mono))))))) ?_;refine ba ?_;refine fI S.ins T.d7.cl T.d7.gK dg (ag rfl (ag rfl (Iz fa d e fm x u m row ⟨rfl,F1,bG.of hd,bG.of rA,hp,λH1 s1=>ag rfl (kQ (λq=>?_) (λq=>?_))⟩)))
  ·rw[if_pos q] at k;exact⟨by show 1<=aA;decide,λD hD=>k D _ (Ans.same S0 (s1.trans (aD hD)) (s1.free hD) (by rw[ai];rfl))⟩
  ·rw[if_neg (by rw[q];exact bN)] at k;obtain⟨hx0,hu0,JL,JR⟩:=FD q;refine cT ?_;refine ba ?_;refine fI (s1 _ _ S.ins) T.d7.cl T.d7.gK dg (mI (s1 _ _ S.ins) dZ (jb hs dx rd _ _ _ ⟨rfl,s1 _ _ S.ins,s1 _ _ S.xY,λD1 H3 hD1 s3 e3=>?_⟩));have SJ:H3 D1=some (.lst (qh l)):=by rw[e3];unfold uV qh;rw[aQ];rfl
   have AX:=s1.trans s3;have S3:=S.mono AX;have X3:=S3.form hf;obtain⟨o,ho,_⟩:=S.tr g S.gm;have fin:∀(ans:List Int)(H4 H5:Hp)(D:af),c6 [Pt] H3 H4->qm MO MP Pt H4->aT H4 H5->H4 D=none->H5 D=some (.lst (j8 ans))->Ans A Pt g M H hs (h,ans) D H5:=λans H4 H5 D sB tg s5 hD e5=>by
    obtain⟨S4,eg⟩:=S3.tab sB tg;obtain⟨ps,XB⟩:=tg.vj;have hg4:H4 g=some o:=by rw[eg];exact AX _ _ ho
    exact iL M (xF dx rd rl l gQ zs _ (S4.mono s5)) (by rw[ho];exact s5 _ _ hg4) (λb hb=>.inl hb) ⟨AX.free (sB.VC XB hD),e5,((c6.of AX).trans (sB.sub λb hb=>by rw[show b=Pt by simpa using hb];exact S.pm)).trans (c6.of s5)⟩
   refine fI (AX _ _ S.ins) T.d7.cl T.d7.gb eB (ag rfl (ag rfl ⟨fa,D1,rl,d,e,fm,qt l gQ zs h.releases row x.toNat u.toNat m.toNat M ⟨rfl,S3.tr,S3.pm,S3.tg,F0.mono (dR AX),X.ok,SJ,(X.rows.mono (bY _ _)).mono AX,S.ndl,AX _ _ S.lst,gX.mono ((bY _ _).trans AX) S.ya,by rw[S.rows];exact X.rl,bG.of (by rw[AX _ _ hd,eO hx0,eO hu0,eO JL]),bG.of (AX _ _ rA),JR,λH4 sB tg xH=>?_,λz r H4 sB tg xH Kp zC hz=>?_⟩⟩))
   ·rw[S.rows] at xH;rw[xH] at k;refine ck ?_;refine ba ?_;refine bP _ rfl rfl (ag rfl (kW ⟨by show 2<=aA;decide,λD hD=>k D _ (fin _ H4 _ D sB tg (aD hD) hD (by rw[ai];rfl))⟩))
   ·rw[S.rows] at xH Kp;rw[xH] at k;obtain⟨S4,_⟩:=S3.tab sB tg;have X4:=S4.form hf;obtain⟨fa',efa,F4⟩:=X4.ex;cases efa;have F4':=F4.mono (bY _ _);refine ip ?_ (id F4');rintro Qx lc lv as f1 f2 f3 f4;have Z4:=hz.mono (bY _ _);refine jT ?_ (id Z4);rintro U9 ll ld z1 z2 z3;have Nf:y9 fm.columns h.rows r (cE fm.columns h.rows r.levels x.toNat u.toNat):=by have:=pb (cs:=fm.columns) (ls:=r.levels) (k:=x.toNat) (u:=u.toNat) S.nd;rw[<-Kp] at this;exact this
    refine ck ?_;refine ba ?_;refine bP _ rfl rfl (ag rfl (lh ?_));refine cT ?_;refine fI S4.ins T.d7.cl T.d7.gK dg (mJ f1 kJ (fI z1 T.rel.cl T.rel.p5 kI (gB fa ll fm r.levels rfl F4' X.ok (bG.of z2) zC (λH5 s5=>⟨by show 3<=aA;decide,λy hy=>?_⟩))));have s5':=s5.trans (aD (o:=HO.lst [V.int 0,V.int 1,V.int ((ja fm.columns r.levels:Nat):Int)]) hy);have SE:r.levels.length<=4:=by rw[zC.1];exact X.ok.len
    refine mI (s5' _ _ z1) rB (dH z r rfl (Z4.mono s5') (ao SE (by decide)) (λD2 H6 CF s6 e6=>gB y D2 _ _ rfl rfl (s6 _ _ ai) e6 ?_ (λv hv=>k v _ (fin _ H4 _ v sB tg ((s5'.trans s6).trans (aD hv)) (s5'.free (s6.free hv)) ?_))))
    ·rw[eI,aP];show 3+(r.levels.length+4)<=aA;exact cX (dG (by omega))
    ·rw[ai];refine congrArg (λz=>some (HO.lst z)) ?_;show[V.int 0,V.int 1,V.int ((ja fm.columns r.levels:Nat):Int)]++gZ _=j8 (0::1::((ja fm.columns r.levels:Nat):Int)::m9 (cE fm.columns h.rows r.levels x.toNat u.toNat));rw[AW Nf,<-jo];rfl
theorem AZ(T:Txt K mg A)(jq:Def P w K mg base "best_release" 9 ["form","rows","releases","numbers","asked"] (lR K A Pt)):
  Def P w K mg base "answer_release" 10 ["house","numbers","asked"] (Ng K A Pt (λns row=>(∃x u m,ns=[x,u,m])/\row.length<=100) λns row=>.release (ns.getD 0 0) (ns.getD 1 0) (ns.getD 2 0) row):=by
 refine T.kR.ER.g8 rb (λf _ A' _ s H vs Q E hr=>o5 ?_)
 ·rintro hs d e g M h fm ns row ⟨rfl,S0,hf,hd,he,⟨⟨x,u,m,rfl⟩,hp⟩,k⟩;refine nK ?_ (id S0);rintro dx rd rl l gQ zs fv S;have X:=S.form hf;obtain⟨fa,rfl,F0⟩:=X.ex;have F1:=F0.mono (bY _ _);have rA:=(c8 he).2;have PU:=Paired.len S.ya;have xA:=X.rl.len;have hr4:=S.Sf;have gC:bX h (.release x u m row)=if md fm x u m row=false then(h,[-1]) else if 4<=h.releases.length then(h,[-6]) else(match uY fm.columns h.releases h.rows (row.map λb=>b==1) x.toNat u.toNat m.toNat with
    |some p=>({h with releases:=h.releases++[p.release]},0::(p.cost:Int)::m9 p.release)
    |none=>(h,[-8])):=by
   show bJ h _=_;unfold bJ;rw[hf];rfl
  have oP:bX h (.release (([x,u,m]:List Int).getD 0 0) (([x,u,m]:List Int).getD 1 0) (([x,u,m]:List Int).getD 2 0) row)=_:=gC;rw[oP] at k;refine ag (ax (du (gI (fY (bF (l9 T) hr.mono rfl (aI (bo (pv 0) rfl) (aI (pv 1) (aI (pv 2) aq)))))) (aG (aY (bZ (aI (cY T.k.ib rfl) aq)))) bS) (ax (du (cF jz (cJ bx (by rfl) T.b.dS cP (aI (bo (pv 0) rfl) aq)) (cY T.k.G5 rfl) (cC _)) (aG (aY (bZ (aI (cY T.k.acX rfl) aq)))) bS) (ax (cg (i:=3) rb.nd rfl fz (bF jq hr.mono rfl (aI (bo (pv 0) rfl) (aI (dv (pv 0) T.d7.cl (eV T) hr.mono) (aI (bo (pv 0) rfl) (aI (pv 1) (aI (pv 2) aq))))))) (ax (du (cF DS (pv 3) lT (cC _)) (aG (aY (bZ (aI (cY T.k.WZ rfl) aq)))) bS) (ax (iR (oS bT cV cW jl (bo (pv 0) rfl) (aI (pv 3) aq))) (aG (aY (fo jU (bZ (aI bB (aI (cp (bo (pv 0) rfl) T.iw.cl (mT T) hr.mono (aI (bo (pv 3) rfl) aq)) aq))) (dv (pv 3) T.rel.cl (wN T) hr.mono))))))))) ?_;refine ba ?_;refine fI S.ins T.d7.cl T.d7.gK dg (ag rfl (ag rfl (Iz fa d e fm x u m row ⟨rfl,F1,bG.of hd,bG.of rA,hp,λH1 s1=>ag rfl (kQ (λq=>?_) (λq=>?_))⟩)))
  ·rw[if_pos q] at k;exact⟨by show 1<=aA;decide,λD hD=>k D _ (Ans.same S0 (s1.trans (aD hD)) (s1.free hD) (by rw[ai];rfl))⟩
  ·rw[if_neg (by rw[q];exact bN)] at k;obtain⟨hx0,hu0,JL,JR⟩:=FD q;refine cT ?_;refine ba ?_;refine fI (s1 _ _ S.ins) T.d7.cl T.d7.gb eB (dH rl _ rfl (.inl (bG.of (s1 _ _ S.lst))) rfl (ag rfl (fG (λq2=>?_) (λq2=>?_))))
   ·have q3:4<=h.releases.length:=by
     rw[cu] at q2;injection q2 with q2
     omega
    rw[if_pos q3] at k;exact⟨by show 1<=aA;decide,λD hD=>k D _ (Ans.same S0 (s1.trans (aD hD)) (s1.free hD) (by rw[ai];rfl))⟩
   ·have q3:¬4<=h.releases.length:=λz=>q2 (by
     rw[cu];have:gQ.length=4:=by omega
     rw[this];rfl)
    rw[if_neg q3] at k;refine cT ?_;refine ba ?_;refine fI (s1 _ _ S.ins) T.d7.cl T.d7.gK dg (mI (s1 _ _ S.ins) dZ (jb hs dx rd _ _ _ ⟨rfl,s1 _ _ S.ins,s1 _ _ S.xY,λD1 H3 hD1 s3 e3=>?_⟩));have SJ:H3 D1=some (.lst (qh l)):=by rw[e3];unfold uV qh;rw[aQ];rfl
    have AX:=s1.trans s3;have S3:=S.mono AX;have X3:=S3.form hf;obtain⟨o,ho,_⟩:=S.tr g S.gm;refine fI (AX _ _ S.ins) T.d7.cl T.d7.gb eB (ag rfl (ag rfl ⟨fa,D1,rl,d,e,fm,qt l gQ zs h.releases row x.toNat u.toNat m.toNat M ⟨rfl,S3.tr,S3.pm,S3.tg,F0.mono (dR AX),X.ok,SJ,(X.rows.mono (bY _ _)).mono AX,S.ndl,AX _ _ S.lst,gX.mono ((bY _ _).trans AX) S.ya,by rw[S.rows];exact X.rl,bG.of (by rw[AX _ _ hd,eO hx0,eO hu0,eO JL]),bG.of (AX _ _ rA),JR,λH4 sB tg xH=>?_,λz r H4 sB tg xH Kp zC hz=>?_⟩⟩))
    ·rw[S.rows] at xH;rw[xH] at k;obtain⟨S4,eg⟩:=S3.tab sB tg;obtain⟨ps,XB⟩:=tg.vj;have hg4:H4 g=some o:=by rw[eg];exact AX _ _ ho
     refine ck ?_;refine ba ?_;exact bP _ rfl rfl (ag rfl (kW ⟨by show 1<=aA;decide,λD hD=>k D _ (iL M (xF dx rd rl l gQ zs _ (S4.mono (aD hD))) (by rw[ho];exact aD hD _ _ hg4) (λb hb=>.inl hb) ⟨AX.free (sB.VC XB hD),by rw[ai];rfl,((c6.of AX).trans (sB.sub λb hb=>by rw[show b=Pt by simpa using hb];exact S.pm)).trans (c6.of (aD hD))⟩)⟩))
    ·rw[S.rows] at xH Kp;rw[xH] at k;obtain⟨S4,eg⟩:=S3.tab sB tg;obtain⟨ps,XB⟩:=tg.vj;have hg4:H4 g=some o:=by rw[eg];exact AX _ _ ho
     have X4:=S4.form hf;have Nf:y9 fm.columns h.rows r (cE fm.columns h.rows r.levels x.toNat u.toNat):=by have:=pb (cs:=fm.columns) (ls:=r.levels) (k:=x.toNat) (u:=u.toNat) S.nd;rw[<-Kp] at this;exact this
     refine ck ?_;refine ba ?_;refine bP _ rfl rfl (ag rfl (lh ?_));refine cT ?_;refine ba ?_;refine fI S4.ins T.d7.cl T.d7.gb eB ⟨.inl ⟨rfl,_,bG.of S4.lst⟩,ag rfl (iD rl _ _ rfl rfl S4.lst (by rw[cu];exact dG (by omega)) ?_)⟩;have eR:iZ gQ++[V.ref z]=iZ (gQ++[z]):=by unfold iZ;rw[bw];rfl
     rw[eR];have ec:cut (upd H4 rl (.lst (iZ (gQ++[z])))) M=cut H4 M:=tQ S4.lm;have S5:rG A Pt g M (upd H4 rl (.lst (iZ (gQ++[z])))) hs {h with releases:=h.releases++[cE fm.columns h.rows r.levels x.toNat u.toNat]} dx rd rl l (gQ++[z]) (zs++[r]) (.ref fa):=by
      refine⟨S4.tr.upd (λ_ z=>nomatch z),S4.pm,S4.gm,S4.hm,S4.dm,S4.lm,S4.gh,S4.gd,S4.gl,S4.gp,S4.tg.ad1 S4.lst (λ_ z=>nomatch z) (λ_ z=>nomatch z),?_,?_,ai,S4.rows,S4.nd,?_,?_,?_⟩
      ·rw[ay (gH S4.ins S4.lst (λz=>nomatch z))];exact S4.ins
      ·rw[ay (gH S4.xY S4.lst (λz=>nomatch z))];exact S4.xY
      ·rw[ec];exact Paired.snoc S4.ya hz
      ·rw[aP];show zs.length+1<=4;omega
      ·show match h.form with|none=>_|some f=>_
       rw[hf];refine⟨?_,X.ok,by rw[ec];exact X4.rows,X4.rl.snoc Nf,λz' HE=>?_,λq' hq w' XA=>?_⟩
       ·obtain⟨fa',a,b⟩:=X4.ex;exact bq fa' a (by rw[ec];exact b)
       ·rcases aE.mp HE with y|y
        ·exact X.lv z' y
        ·rw[show z'=r by simpa using y];exact zC
       ·rcases aE.mp hq with y|y
        ·exact X.has q' y w' XA
        ·rw[show q'=cE fm.columns h.rows r.levels x.toNat u.toNat by simpa using y] at XA;obtain⟨r',hr',e'⟩:=P6 XA;exact au.mpr (bq r' hr' e')
     have hg5:(upd H4 rl (.lst (iZ (gQ++[z])))) g=some o:=by rw[ay S4.gl.symm];exact hg4
     have Z5:nB A (upd H4 rl (.lst (iZ (gQ++[z])))) z r:=by
      have:nB A (cut (upd H4 rl (.lst (iZ (gQ++[z])))) M) z r:=by rw[ec];exact hz
      exact this.mono (bY _ _)
     have fresh:∀v,(upd H4 rl (.lst (iZ (gQ++[z])))) v=none->H v=none:=λv hv=>by
      have:H4 v=none:=by rw[ay (λy=>by rw[y,ai] at hv;cases hv)] at hv;exact hv
      exact AX.free (sB.VC XB this)
     have sB5:c6 M H (upd H4 rl (.lst (iZ (gQ++[z])))):=((c6.of AX).trans (sB.sub λb hb=>by rw[show b=Pt by simpa using hb];exact S.pm)).upd S.lm;have S5f:=S5.form (f:=fm) hf;obtain⟨fa',efa,F5⟩:=S5f.ex;cases efa;have F5':=F5.mono (bY _ _);have aea:=S5.ins;generalize upd H4 rl (.lst (iZ (gQ++[z])))=H5 at S5 hg5 Z5 fresh F5' aea sB5⊢;refine ip ?_ (id F5');rintro Qx lc lv as f1 f2 f3 f4;refine jT ?_ (id Z5);rintro U9 ll ld z1 z2 z3;refine fI aea T.d7.cl T.d7.gK dg (mJ f1 kJ (fI z1 T.rel.cl T.rel.p5 kI (gB fa ll fm r.levels rfl F5' X.ok (bG.of z2) zC (λH6 s6=>⟨by show 2<=aA;decide,λy hy=>?_⟩))));have s6':=s6.trans (aD (o:=HO.lst [V.int 0,V.int ((ja fm.columns r.levels:Nat):Int)]) hy);have SE:r.levels.length<=4:=by rw[zC.1];exact X.ok.len
     refine mI (s6' _ _ z1) rB (dH z r rfl (Z5.mono s6') (ao SE (by decide)) (λD2 H7 CF s7 e7=>gB y D2 _ _ rfl rfl (s7 _ _ ai) e7 ?_ (λv hv=>?_)))
     ·rw[eI,aP];show 2+(r.levels.length+4)<=aA;exact cX (dG (by omega))
     ·have s8:=(s6'.trans s7).trans (aD (o:=HO.lst ([V.int 0,V.int ((ja fm.columns r.levels:Nat):Int)]++gZ (r.levels++[r.k,r.u,r.lk.length,r.left]))) hv);refine k v _ (iL M (xF dx rd rl l _ _ _ (S5.mono s8)) (by rw[ho];exact s8 _ _ hg5) (λb hb=>.inl hb) ⟨fresh v (s6'.free (s7.free hv)),?_,sB5.trans (c6.of s8)⟩);rw[ai];refine congrArg (λz=>some (HO.lst z)) ?_;show[V.int 0,V.int ((ja fm.columns r.levels:Nat):Int)]++gZ _=j8 (0::((ja fm.columns r.levels:Nat):Int)::m9 (cE fm.columns h.rows r.levels x.toNat u.toNat));rw[AW Nf,<-jo];rfl
end
section
open Vbslai (levels nums settled)
theorem uj:∀(r:List aH)(i:Nat)(f:d8)(j:Nat),ni i f r=.error j->i<=j
 |[],i,f,j,h=>by
  unfold yO at h;split at h
  ·cases h
  ·cases h;exact aK _
 |l::r,i,f,j,h=>by
  unfold yO at h;split at h
  ·have:=uj r _ _ _ h;omega
  ·split at h
   ·cases h;exact aK _
   ·split at h
    ·have:=uj r _ _ _ h;omega
    ·cases h;exact aK _
theorem uk:∀(r:List aH)(i:Nat)(f g:d8),ni i f r=.ok g->settled g=true/\g.secret≠[]
 |[],i,f,g,h=>by
  unfold yO at h;split at h
  ·rename_i q;cases h;exact q.2
  ·cases h
 |l::r,i,f,g,h=>by
  unfold yO at h;split at h
  ·exact uk r _ _ _ h
  ·split at h
   ·cases h
   ·split at h
    ·exact uk r _ _ _ h
    ·cases h
def SpF(A:Cl)(Pt:af):Sp:=λvs H Q _=>∃(hs d e g:af)(M:List af)(h:l8)(t:aH),
 vs=[.ref hs,.ref d,.ref e]/\Sg A Pt g M H hs h/\cut H M e=some (.lst (gZ t))/\t.length<=2000/\∀D H',Ans A Pt g M H hs (bX h (.form t)) D H'->Q (.ref D) H'
section
variable{P:bp}{w:bQ}{K:ah}{mg:Str->Option ak}{base:cB}{A:Cl}{Pt:af}
theorem FN(T:Txt K mg A)(Y:Isi K A):Def P w K mg base "answer_form" 8 ["house","numbers","data"] (SpF A Pt):=by
 refine T.kR.Lm.g8 mQ (λf _ A' _ s H vs Q E hr=>nK ?_)
 ·rintro hs d e g M h t ⟨rfl,S0,he,ht,k⟩;refine nK ?_ (id S0);rintro dx rd rl l gQ zs fv S;have rA:=(c8 he).2;obtain⟨o,ho,_⟩:=S.tr g S.gm;refine ag (ax (cg (i:=3) mQ.nd rfl fz (HY (Mx T) hr.mono rfl)) (ax (cg (i:=4) mQ.nd rfl fz (cp (pv 3) T.fS.cl (ME T Y) hr.mono (aI (pv 2) aq))) (ax (du (cF PH (pv 4) bB (cC _)) (aG (aY (bZ (aI bB (aI (pv 4) aq))))) bS) (ax (iR (cp (pv 0) T.d7.cl (Ka T) hr.mono (aI (dv (pv 3) T.fS.cl (BX T) hr.mono) aq))) (ax (cg (i:=5) mQ.nd rfl fz (bo (pv 0) rfl)) (aG (aY (fo jU (bZ (aI bB (aI (cJ bx (by rfl) T.b.dS cP (aI (bo (pv 5) rfl) aq)) (aI (cJ bx (by rfl) T.b.dS cP (aI (bo (pv 5) rfl) aq)) aq)))) (dv (pv 5) T.iw.cl (k5 T) hr.mono))))))))) ?_;refine ba ?_;refineλr dr nr ndr ner=>bt r dr rfl ai (λlc lv H1 hlc zC k9 e1 e2 e3 k1=>⟨rfl,?_⟩);have s1:aT H H1:=aT.made nr ndr k1;have n1:∀b,upd (upd H dr (.own r)) r (.ins A.fS dr []) b=none->H b=none/\b≠r:=λb q=>by
   have hb:b≠r:=λz=>by rw[z,ai] at q;cases q
   rw[ay hb] at q;rw[ay (λz=>by rw[z,ai] at q;cases q)] at q;exact⟨q,hb⟩
  obtain⟨c0,cr⟩:=n1 lc hlc;obtain⟨v0,vr⟩:=n1 lv zC;have R0:Kr A M H H1 r {}:=by
   refine jb ([r,lc]) dr lc lv ([]) .h9 ⟨s1,λb hb=>?_,λb hb=>?_,.head _,.tail _ (.head _),e1,e2,?_,.inl ⟨rfl,rfl,.nil⟩⟩
   ·rcases aB.mp hb with z|z
    ·rw[z];exact nr
    ·rw[show b=lc by simpa using z];exact c0
   ·rcases aB.mp hb with z|z
    ·rw[z];exact⟨_,e1⟩
    ·rw[show b=lc by simpa using z];exact⟨_,e2⟩
   ·rw[c7 ?_]
    ·exact e3
    ·intro z;rcases aE.mp z with z|z
     ·rcases aB.mp z with z|z
      ·exact vr z
      ·exact k9 (show lv=lc by simpa using z).symm
     ·exact S.tr.tr.not v0 z
  refine ck ?_;refine ba ?_;refine mI e1 G8 (ag rfl (o6 r e M H t ⟨rfl,S.tr.tr,R0,bG.of (s1 _ _ rA),by omega,λi hi H2 s2=>?_,λfm hfm H2 R2=>?_⟩))
  ·have gC:bX h (.form t)=(h,[1,(i:Int)]):=by show(match tm t with|.error i=>(h,[1,(i:Int)])|.ok f=>_)=_;rw[hi]
   rw[gC] at k;have hi1:=uj _ _ _ _ hi;refine ck ?_;refine ba ?_;refine ag rfl (bt _ _ rfl rfl (ag rfl (fG (λ_=>?_) (λz=>absurd (show(0:Int)<(i:Int) by omega) z))));exact bP _ rfl (by show 2<=aA;decide) (λD hD=>k D _ (Ans.same S0 (s2.trans (aD hD)) (s2.free hD) (by rw[ai];rfl)))
  ·have gC:bX h (.form t)=({form:=some fm},0::nums (fm.columns.length::fm.values.length::fm.columns.map λc=>levels c.kind)):=by show(match tm t with|.error i=>(h,[1,(i:Int)])|.ok f=>_)=_;rw[hfm]
   rw[gC] at k;have fok:=Lg hfm;obtain⟨fs,ahB⟩:=uk _ _ _ _ hfm;have s2:aT H H2:=let⟨_,_,_,_,_,_,x⟩:=R2;x.same;refine ck ?_;refine ba ?_;refine ag rfl (bt _ _ rfl rfl (ag rfl (fG (λz=>absurd (show(0:Int)<0 from z) (by decide)) (λ_=>?_))));refine cT ?_;refine ba ?_;refine nJ ?_ (id R2);rintro Nr dxr lcr lvr asr unr RS;refine mI (s2 _ _ S.ins) E2 (mI RS.ins zl (gB r M H fm rfl S.tr.tr R2 fs ahB (λx H3 hx s3 F3=>?_)));have Dk:=s2.trans s3;refine jb hs dx (.ref x) fv (.ref rd) (.ref rl) ⟨rfl,Dk _ _ S.ins,λrd' rl' H4 aaE Sd ami i1 i2 i3 k4=>?_⟩;have aed:∀b o,H3 b=some o->b∉M->b≠hs:=λb o _ n z=>n (by rw[z];exact S.hm);have hM3:=S.tr.mono Dk;have hg3:=Dk _ _ ho;have hg4:H4 g=some o:=k4 _ _ hg3 S.gh.symm;have sc:aT (cut H3 M) (cut H4 (rd'::rl'::M)):=λb ob q=>by
    obtain⟨n,q⟩:=c8 q;rw[c7 λz=>?_]
    ·exact k4 _ _ q (aed b ob q n)
    ·rcases aB.mp z with y|y
     ·rw[y,aaE] at q;cases q
     ·rcases aB.mp y with y|y
      ·rw[y,Sd] at q;cases q
      ·exact n y
   have S4:rG A Pt g (rd'::rl'::M) H4 hs {form:=some fm} dx rd' rl' [] [] [] (.ref x):=by
    refine⟨λm hm=>?_,.tail _ (.tail _ S.pm),.tail _ (.tail _ S.gm),.tail _ (.tail _ S.hm),.head _,.tail _ (.head _),S.gh,(aR hg3 aaE).symm,(aR hg3 Sd).symm,S.gp,?_,i1,i2,i3,rfl,by simp,.nil,by decide,?_⟩
    ·rcases aB.mp hm with y|y
     ·rw[y];exact ag i2 (λxs z=>nomatch z)
     ·rcases aB.mp y with y|y
      ·rw[y];exact ag i3 (λxs z=>nomatch z)
      ·by_cases z:m=hs
       ·rw[z];exact ag i1 (λxs z=>nomatch z)
       ·obtain⟨ob,q,n⟩:=hM3 m y;exact bq ob (k4 _ _ q z) n
    ·have tg3:=S.tg.mono Dk;have hi3:=Dk _ _ S.ins;rcases tg3 with q|⟨c,q,qc⟩
     ·exact .inl (k4 _ _ q (gH q hi3 (λz=>nomatch z)))
     ·exact .inr (bq c (k4 _ _ q (gH q hi3 (λz=>nomatch z))) (k4 _ _ qc (gH qc hi3 (λz=>by unfold AR at z;cases z))))
    ·exact⟨bq x rfl (F3.mono sc),fok,⟨λp hp=>(nomatch hp),λp hp=>(nomatch hp),by decide⟩,.nil,λz hz=>(nomatch hz),λq hq=>(nomatch hq)⟩
   have F4:gW A H4 x fm:=(F3.mono sc).mono (bY _ _);refine ip ?_ (id F4);rintro Qx lcf lvf asf f1 f2 f3 f4;have hM':∀b∈rd'::rl'::M,b∈M∨H b=none:=λb hb=>by
    rcases aB.mp hb with y|y
    ·rw[y];exact .inr (Dk.free aaE)
    ·rcases aB.mp y with y|y
     ·rw[y];exact .inr (Dk.free Sd)
     ·exact .inl y
   have fr4:∀b,H4 b=none->H b=none:=λb q=>by
    cases z:H3 b with
    |none=>exact Dk.free z
    |some ob=>
     by_cases y:b=hs
     ·rw[y,i1] at q;cases q
     ·rw[k4 _ _ z y] at q;cases q
   refine ba ?_;refine fI i1 T.d7.cl T.d7.gK dg ?_;refine ck ?_;refine fI f1 T.iw.cl T.iw.fk fX (bt lcf _ rfl (.inl (bG.of f2)) (fI f1 T.iw.cl T.iw.eh gg (dH lvf _ rfl (.inl (bG.of f4)) (by show 3<=aA;decide) (λy hy=>?_))));have s5:aT H4 (upd H4 y (.lst [.int 0,.int (iZ asf).length,.int (eU fm.values).length])):=aD hy;refine mI (s5 _ _ f1) jV (dH x fm rfl (F4.mono s5) fok (λD2 H6 CF s6 e6=>gB y D2 _ _ rfl rfl (s6 _ _ ai) e6 ?_ (λv hv=>?_)))
   ·rw[eI,aa];show 3+fm.columns.length<=aA;have:=fok.len;exact cX (dG (by omega))
   ·have s8:=(s5.trans s6).trans (aD (o:=HO.lst ([.int 0,.int (iZ asf).length,.int (eU fm.values).length]++gZ (fm.columns.map λc=>levels c.kind))) hv);refine k v _ (iL _ (xF dx rd' rl' _ _ _ _ (S4.mono s8)) (by rw[ho];exact s8 _ _ hg4) hM' ⟨fr4 v (s5.free (s6.free hv)),?_,c6.trans (λb ob q=>?_) (c6.of s8)⟩);rw[ai,cu,eG,Paired.len f3,show∀a:List Nat,(0:Int)::nums a=nums (0::a) fromλ_=>rfl,jo]
    ·rfl
    ·obtain⟨n,q⟩:=c8 q;exact k4 _ _ (Dk _ _ q) (aed b ob (Dk _ _ q) n)
end
end
def FnD(P:bp)(w:bQ)(K:ah)(mg:Str->Option ak)(base:cB)(f:af)(k:Nat)(ps:List Str)(sp:Sp):Prop:=∃fd,xG P w K mg base T7 k f fd ps sp/\lI K (.ref f)=true/\Binds K fd ps []
theorem Def.fnD{P:bp}{w:bQ}{K:ah}{mg:Str->Option ak}{base:cB}{x:Str}{k kk:Nat}{ps:List Str}{sp:Sp}{f:af}(D:Def P w K mg base x k ps sp)(h:mg x=some (.ref f))(hk:k<=kk):FnD P w K mg base f kk ps sp:=by
 refine ke ?_ D.ex;rintro f' fd F hm hkp hb;rw[h] at hm;cases hm;exact bP fd (F.mono hk) hkp hb
def O4(P:bp)(w:bQ)(K:ah)(mg:Str->Option ak)(base:cB)(k:Nat)(tf:TE)(t:TA):TE:=λσ H Q=>tf σ H λx H1=>∃f ps sp,x=.ref f/\FnD P w K mg base f k ps sp/\t σ H1 λvs H2=>sp (vs++[]) H2 Q E0
theorem VD{X:Cx}{k:Nat}{fe e:Expr}{es:List Expr}{tf:TE}{t:TA}{pos:Pos}(hr:jx k X.A)(hf:PE X fe tf)(ha:PA X (e::es) t)(hn:(e::es).all Qa=true:=by rfl)(he:eval (.Call fe (e::es) [] pos) X.env=(do qp pos (<-eval fe X.env) [] (fO pos (bO (e::es) X.env)) (iX pos (eY [] X.env))):=by rfl):
  PE X (.Call fe (e::es) [] pos) (O4 X.prog X.w X.K X.mg X.base k tf t):=by
 rw[d5,aL] at hn;intro pins s σ H Q I h;refine Call_ (iM (hf pins s σ H _ I h) λu s1 ⟨x,H1,I1,rx,f,ps,sp,ex,⟨fd,F,hk,hb⟩,q⟩=>?_) he;subst ex;cases rx;refine sX (h₀:=X.base) I1.ok.mod.kin hk (iM (ha pos pins s1 σ H1 _ I1 q) λus s2 ⟨vs,H2,I2,r,q⟩=>⟨I2.Bl,?_⟩) (vV hn.1) (qI hn.2);exact IG F hr hb .nil HL I2 r q
def Iq(c:Nat)(ns row:List Int):VX:=match c with
 |0=>.form (row.map an9)
 |1=>.sleeper (ns.getD 0 0) (ns.getD 1 0) row
 |2=>.change (ns.getD 0 0) (ns.getD 1 0) row
 |3=>.show_ (ns.getD 0 0) row
 |4=>.alike (ns.getD 0 0) row
 |5=>.short (ns.getD 0 0) (ns.getD 1 0) row
 |6=>.plan (ns.getD 0 0) (ns.getD 1 0) (ns.getD 2 0) row
 |7=>.release (ns.getD 0 0) (ns.getD 1 0) (ns.getD 2 0) row
 |8=>.text (ns.getD 0 0)
 |9=>.releases
 |10=>.hidden (ns.getD 0 0)
 |11=>.could (ns.getD 0 0)
 |12=>.cost row
 |13=>.next (ns.getD 0 0) (ns.getD 1 0) (ns.getD 2 0) row
 |14=>.print
 |_=>.counts
def gF:List Nat:=[0,2,2,1,1,2,3,3,1,0,1,1,0,3,0,0]
def iU:List Nat:=[1,1,1,1,1,1,1,1,0,0,0,0,1,1,0,0]
structure O5(c:Nat)(ns row:List Int):Prop where
 lt:c<16
 len:ns.length=gF.getD c 0
 ahE:c≠0->row.length<=10
 txt:c=0->row.length<=2000/\∀x∈row,0<=x
theorem aaF{h:l8}(hf:h.form=none){c:Nat}(hc:c<16)(h0:c≠0)(ns row:List Int):bX h (Iq c ns row)=(h,[-9]):=by
 rcases c with _|_|_|_|_|_|_|_|_|_|_|_|_|_|_|_|c
 ·exact absurd rfl h0
 all_goals first
  |(exfalso;omega)
  |(show bJ h _=_;unfold bJ;rw[hf];rfl)
theorem FO{ns:List Int}(h:ns.length=1):∃x,ns=[x]:=match ns,h with|[x],_=>⟨x,rfl⟩
theorem O6{ns:List Int}(h:ns.length=2):∃x u,ns=[x,u]:=match ns,h with|[x,u],_=>qr x u rfl
theorem FP{ns:List Int}(h:ns.length=3):∃x u m,ns=[x,u,m]:=match ns,h with|[x,u,m],_=>vo x u m rfl
def wX:List Str:=["answer_form","answer_sleeper","answer_change","answer_show","answer_alike","answer_short","answer_plan","answer_release","answer_text","answer_releases","answer_hidden","answer_could","answer_cost","answer_next","answer_print","answer_counts"]
structure Tt(K:ah)(mg:Str->Option ak):Prop where
 nc:∃t,tP mg "NUMBER_COUNTS" (.ref t)/\∀H,nY K H t (gZ gF)
 lc:∃t,tP mg "LIST_COUNTS" (.ref t)/\∀H,nY K H t (gZ iU)
 an:∃(t:af)(fs:List af),tP mg "ANSWERERS" (.ref t)/\(∀H,nY K H t (iZ fs))/\∀(i:Nat)(n:Str),wX[i]? =some n->∃f,fs[i]? =some f/\mg n=some (.ref f)
section
variable{P:bp}{w:bQ}{K:ah}{mg:Str->Option ak}{base:cB}{A:Cl}{Pt:af}
def wY(A:Cl)(Pt:af):Sp:=λvs H Q _=>∃(hs d e g:af)(M:List af)(h:l8)(c:Nat)(ns row:List Int),
 vs=[.ref hs,.int (c:Nat),.ref d,.ref e]/\Sg A Pt g M H hs h/\H d=some (.lst (j8 ns))/\cut H M e=some (.lst (j8 row))/\O5 c ns row/\∀D H',Ans A Pt g M H hs (bX h (Iq c ns row)) D H'->Q (.ref D) H'
theorem FQ(T:Txt K mg A)(Y:Isi K A)(U:Tt K mg)(jq:Def P w K mg base "best_release" 9 ["form","rows","releases","numbers","asked"] (lR K A Pt)):
  Def P w K mg base "answer_call" 11 ["house","call","numbers","row"] (wY A Pt):=by
 refine j7 ?_ U.an;rintro ta fs MU hT hN;refine T.kR.Ls.g8 E9 (λf _ A' _ s H vs Q E hr=>o5 ?_)
 ·rintro hs d e g M h c ns row ⟨rfl,S0,hd,he,co,k⟩;refine nK ?_ (id S0);rintro dx rd rl l gQ zs fv S;refine ag (ax (du (PW.pt (ID (cF DQ (pv 1) (cY T.k.agj rfl) (cC _)) (Dx (cF DS (bo (pv 0) rfl) lT (cC _))))) (aG (aY (bZ (aI (cY T.k.WY rfl) aq)))) bS) (aG (aY (VD (hr.mono (show 10<=_ by decide)) (eN ND (cY MU rfl) (pv 1) (λ_ _=>rfl)) (aI (pv 0) (aI (pv 2) (aI (pv 3) aq))))))) ?_;refine ba ?_;have go:∀{nm:Str}{kk:Nat}{ps:List Str}{sp:Sp},kk<=10->wX[c]? =some nm->Def P w K mg base nm kk ps sp->sp [.ref hs,.ref d,.ref e] H Q E0->
    O4 P w K mg base 10 (Wn (Y8 K) (tC (.ref ta)) (rz 1)) (rV (rz 0) (rV (rz 2) (rV (rz 3) vx))) [some (.ref hs),some (.int (c:Nat)),some (.ref d),some (.ref e)] H Q:=λ{nm kk ps sp} hk hn D Sx=>by
   obtain⟨f,hf,hm⟩:=hN c nm hn;exact ag rfl (iE ta _ _ _ rfl rfl (hT H) (cN (j:=c) (v:=.ref f) (by unfold iZ;rw[aV,hf];rfl)) (jK f ps sp rfl (D.fnD hm hk) (ag rfl (ag rfl (ag rfl Sx)))))
  have O7:∀{nm:Str}{kk:Nat}{ps:List Str}{pre:List Int->List Int->Prop}{cl:List Int->List Int->VX}{fm:d8},kk<=10->wX[c]? =some nm->Def P w K mg base nm kk ps (Ng K A Pt pre cl)->h.form=some fm->pre ns row->Iq c ns row=cl ns row->
    O4 P w K mg base 10 (Wn (Y8 K) (tC (.ref ta)) (rz 1)) (rV (rz 0) (rV (rz 2) (rV (rz 3) vx))) [some (.ref hs),some (.int (c:Nat)),some (.ref d),some (.ref e)] H Q:=λ{nm kk ps pre cl fm} hk hn D hf hp hc=>by
   rw[hc] at k;exact go hk hn D (qt hs d e g M h fm ns row ⟨rfl,S0,hf,hd,he,hp,k⟩)
  refine bP _ rfl rfl (ag rfl (vX (λq0=>?_) (λq0=>?_)))
  ·have c0:c≠0:=λz=>q0 (by rw[z];rfl);have amo:=co.ahE c0;have A1:row.length<=100:=by omega
   have hlen:=co.len;have oR:=co.lt;refine fI S.ins T.d7.cl T.d7.gK dg ⟨rfl,ag rfl ?_⟩
   cases hf:h.form with
   |none=>have NJ:=S.iw;rw[hf] at NJ;have hfv:fv=.h9:=NJ;subst hfv;rw[aaF hf oR c0] at k;exact kW ⟨by show 1<=aA;decide,λD hD=>k D _ (Ans.same S0 (aD hD) hD (by rw[ai];rfl))⟩
   |some fm=>
    obtain⟨fa,rfl,_⟩:=(S.form hf).ex;refine lh ?_;refine cT ?_;rcases c with _|_|_|_|_|_|_|_|_|_|_|_|_|_|_|_|c
    ·exact absurd rfl c0
    ·exact O7 (by decide) rfl (AY T) hf ⟨O6 hlen,A1⟩ rfl
    ·exact O7 (by decide) rfl (B5 T) hf ⟨O6 hlen,A1⟩ rfl
    ·exact O7 (by decide) rfl (FJ T) hf ⟨FO hlen,A1⟩ rfl
    ·exact O7 (by decide) rfl (Dp T) hf ⟨FO hlen,A1⟩ rfl
    ·exact O7 (by decide) rfl (Dq T) hf ⟨O6 hlen,A1⟩ rfl
    ·exact O7 (by decide) rfl (FL T jq) hf ⟨FP hlen,A1⟩ rfl
    ·exact O7 (by decide) rfl (AZ T jq) hf ⟨FP hlen,A1⟩ rfl
    ·exact O7 (by decide) rfl (FI T) hf (FO hlen) rfl
    ·exact O7 (by decide) rfl (zS T) hf trivial rfl
    ·exact O7 (by decide) rfl (B4 T) hf (FO hlen) rfl
    ·exact O7 (by decide) rfl (Dn T) hf (FO hlen) rfl
    ·exact O7 (by decide) rfl (FG T) hf A1 rfl
    ·exact O7 (by decide) rfl (FH T) hf ⟨FP hlen,A1⟩ rfl
    ·exact O7 (by decide) rfl (Dm T) hf trivial rfl
    ·exact O7 (by decide) rfl (B3 T) hf trivial rfl
    ·exfalso;omega
  ·have c0:c=0:=by
    injection q0 with q0
    omega
   subst c0;obtain⟨ht1,ht2⟩:=co.txt rfl;refine lh ?_;refine cT ?_;refine go (by decide) rfl (FN T Y) (xF hs d e g M h (row.map an9) ⟨rfl,S0,?_,by rw[aa];exact ht1,k⟩);exact sW he (xp ht2)
end
end Bp
namespace Bp
open PyFlat PyVbslai
theorem VE(c:List (List Int)):whole c=c:=by
 rcases c with _|⟨_|⟨x,t⟩,r⟩
 ·rfl
 ·rfl
 ·by_cases h:x=0∨x=1∨x=2∨x=3∨x=4∨x=5∨x=6∨x=7∨x=8∨x=9∨x=10∨x=11∨x=12∨x=13∨x=14∨x=15
  ·rcases t with _|⟨a,_|⟨b,_|⟨d,_|⟨e,t⟩⟩⟩⟩<;>rcases r with _|⟨f,_|⟨g,r⟩⟩<;>rcases h with h|h|h|h|h|h|h|h|h|h|h|h|h|h|h|h<;>cases h<;>rfl
  ·simp only[not_or] at h;obtain⟨q0,q1,q2,q3,q4,q5,q6,q7,q8,q9,q10,q11,q12,q13,q14,q15⟩:=h;unfold whole whole.match_1;show dite _ _ _=_;rw[dif_neg q0,dif_neg q1,dif_neg q2,dif_neg q3,dif_neg q4,dif_neg q5,dif_neg q6,dif_neg q7,dif_neg q8,dif_neg q9,dif_neg q10,dif_neg q11,dif_neg q12,dif_neg q13,dif_neg q14,dif_neg q15]
theorem O8{p:Int}{n k:Nat}(h:shape p=some (n,k)):∃i:Nat,p=(i:Int)/\i<16/\n=gF.getD i 0/\k=iU.getD i 0:=by
 have key:p=0∨p=1∨p=2∨p=3∨p=4∨p=5∨p=6∨p=7∨p=8∨p=9∨p=10∨p=11∨p=12∨p=13∨p=14∨p=15:=by
  refine Nm λq=>?_;simp only[not_or] at q;obtain⟨q0,q1,q2,q3,q4,q5,q6,q7,q8,q9,q10,q11,q12,q13,q14,q15⟩:=q;unfold shape at h;rw[if_neg q0,if_neg q1,if_neg q2,if_neg q3,if_neg q4,if_neg q5,if_neg q6,if_neg q7,if_neg q8,if_neg q9,if_neg q10,if_neg q11,if_neg q12,if_neg q13,if_neg q14,if_neg q15] at h;cases h
 rcases key with e|e|e|e|e|e|e|e|e|e|e|e|e|e|e|e<;>subst e
 ·exact iL 0 rfl (by decide) (by cases h;rfl) (by cases h;rfl)
 ·exact iL 1 rfl (by decide) (by cases h;rfl) (by cases h;rfl)
 ·exact iL 2 rfl (by decide) (by cases h;rfl) (by cases h;rfl)
 ·exact iL 3 rfl (by decide) (by cases h;rfl) (by cases h;rfl)
 ·exact iL 4 rfl (by decide) (by cases h;rfl) (by cases h;rfl)
 ·exact iL 5 rfl (by decide) (by cases h;rfl) (by cases h;rfl)
 ·exact iL 6 rfl (by decide) (by cases h;rfl) (by cases h;rfl)
 ·exact iL 7 rfl (by decide) (by cases h;rfl) (by cases h;rfl)
 ·exact iL 8 rfl (by decide) (by cases h;rfl) (by cases h;rfl)
 ·exact iL 9 rfl (by decide) (by cases h;rfl) (by cases h;rfl)
 ·exact iL 10 rfl (by decide) (by cases h;rfl) (by cases h;rfl)
 ·exact iL 11 rfl (by decide) (by cases h;rfl) (by cases h;rfl)
 ·exact iL 12 rfl (by decide) (by cases h;rfl) (by cases h;rfl)
 ·exact iL 13 rfl (by decide) (by cases h;rfl) (by cases h;rfl)
 ·exact iL 14 rfl (by decide) (by cases h;rfl) (by cases h;rfl)
 ·exact iL 15 rfl (by decide) (by cases h;rfl) (by cases h;rfl)
def wZ(i:Nat)(ns row:List Int):List (List Int):=((i:Int)::ns)::(if iU.getD i 0=0 then[] else[row])
structure Stp(fuel i:Nat)(r:List Int)(cs:List (List (List Int)))(ns row t:List Int)(rest:List (List (List Int))):Prop where
 lt:i<16
 nsE:ns=r.take (gF.getD i 0)
 nl:gF.getD i 0<=r.length
 csE:cs=wZ i ns row::rest
 rsE:me shape fuel t=some rest
 no:iU.getD i 0=0->row=[]/\t=r.drop (gF.getD i 0)
 yes:iU.getD i 0≠0->∃m:Nat,r[gF.getD i 0]? =some (m:Int)/\row=(r.drop (gF.getD i 0+1)).take m/\row.length=m/\t=r.drop (gF.getD i 0+1+m)
theorem Yt:∀i,i<16->iU.getD i 0=0∨iU.getD i 0=1:=by decide
theorem O9{fuel:Nat}{p:Int}{r:List Int}{cs:List (List (List Int))}(h:me shape fuel (p::r)=some cs):∃f i ns row t rest,p=(i:Nat)/\Stp f i r cs ns row t rest:=by
 cases fuel with
 |zero=>cases h
 |succ fuel=>
  have h':(match aj0 shape (p::r) with
   |none=>none
   |some (c,t)=>match me shape fuel t with
    |none=>none
    |some cs=>some (c::cs))=some cs:=h
  cases hc:aj0 shape (p::r) with
  |none=>rw[hc] at h';cases h'
  |some ct=>
   obtain⟨c,t⟩:=ct;rw[hc] at h';dsimp only at h'
   cases hr:me shape fuel t with
   |none=>rw[hr] at h';cases h'
   |some rest=>
    rw[hr] at h';have ecs:c::rest=cs:=aX h';have Gf:(match shape p with
     |none=>none
     |some (n,k)=>if r.length<n then none else match VY k (r.drop n) with
      |none=>none
      |some (xs,t)=>some ((p::r.take n)::xs,t))=some (c,t):=hc
    cases hs:shape p with
    |none=>rw[hs] at Gf;cases Gf
    |some nk=>
     obtain⟨n,k⟩:=nk;rw[hs] at Gf;dsimp only at Gf;refine cH ?_ (O8 hs);rintro i ei hi ⟨en,ek⟩;by_cases hl:r.length<n
     ·rw[if_pos hl] at Gf;cases Gf
     ·rw[if_neg hl] at Gf;rcases Yt i hi with l0|l1
      ·rw[ek,l0] at Gf;have e2:=aX Gf;have e3:((p::r.take n)::([]:List (List Int)),r.drop n)=(c,t):=e2;injection e3 with e4 e5
       refine jb fuel i (r.take n) ([]) t rest ⟨ei,hi,by rw[en],by omega,?_,hr,λ_=>⟨rfl,by rw[<-e5,en]⟩,λz=>absurd l0 z⟩;rw[<-ecs,<-e4];unfold wZ;rw[if_pos l0,ei]
      ·rw[ek,l1] at Gf;have e0:VY 1 (r.drop n)=match Nb (r.drop n) with
        |none=>none
        |some (x,s)=>some ([x],s):=by
        show(match Nb (r.drop n) with
         |none=>none
         |some (x,s)=>match VY 0 s with
          |none=>none
          |some (xs,t)=>some (x::xs,t))=_
        cases Nb (r.drop n) with
        |none=>rfl
        |some y=>rfl
       rw[e0] at Gf
       cases hd:r.drop n with
       |nil=>
        rw[hd] at Gf;cases Gf
       |cons m r'=>
        rw[hd] at Gf;have e6:Nb (m::r')=if 0<=m/\m.toNat<=r'.length then some (r'.take m.toNat,r'.drop m.toNat) else none:=rfl
        rw[e6] at Gf;by_cases hm:0<=m/\m.toNat<=r'.length
        ·rw[if_pos hm] at Gf;have e3:((p::r.take n)::[r'.take m.toNat],r'.drop m.toNat)=(c,t):=aX Gf;injection e3 with e4 e5
         have hnl:n<r.length:=by
          refine Nm λz=>?_;rw[fg (by omega)] at hd;cases hd
         have hdc:=dJ hnl;rw[hd] at hdc;injection hdc with d1 d2
         refine jb fuel i (r.take n) (r'.take m.toNat) t rest ⟨ei,hi,by rw[en],by omega,?_,hr,λz=>?_,λ_=>iL m.toNat ?_ ?_ ?_ ?_⟩
         ·rw[<-ecs,<-e4];unfold wZ;rw[if_neg (by rw[l1];decide),ei]
         ·rw[l1] at z;cases z
         ·rw[<-en,aw hnl,<-d1,eO hm.1]
         ·rw[<-en,d2]
         ·rw[cQ];omega
         ·rw[<-e5,d2,oE,<-en]
        ·rw[if_neg hm] at Gf;cases Gf
theorem Sk{i:Nat}{ns row:List Int}(hi:i<16)(hn:ns.length=gF.getD i 0):VR (wZ i ns row)=Iq i ns row:=by
 rcases i with _|_|_|_|_|_|_|_|_|_|_|_|_|_|_|_|i
 ·match ns,hn with|[],_=>rfl
 ·match ns,hn with|[a,b],_=>rfl
 ·match ns,hn with|[a,b],_=>rfl
 ·match ns,hn with|[a],_=>rfl
 ·match ns,hn with|[a],_=>rfl
 ·match ns,hn with|[a,b],_=>rfl
 ·match ns,hn with|[a,b,c],_=>rfl
 ·match ns,hn with|[a,b,c],_=>rfl
 ·match ns,hn with|[a],_=>rfl
 ·match ns,hn with|[],_=>rfl
 ·match ns,hn with|[a],_=>rfl
 ·match ns,hn with|[a],_=>rfl
 ·match ns,hn with|[],_=>rfl
 ·match ns,hn with|[a,b,c],_=>rfl
 ·match ns,hn with|[],_=>rfl
 ·match ns,hn with|[],_=>rfl
 ·exfalso;omega
theorem XC{lo hi:Int}{a b:Nat}{row:List Int}(h:aex [(lo,hi,a,b)] [row]=true):row.length<=b/\∀x∈row,lo<=x:=by have e:(decide (a<=row.length)&&decide (row.length<=b)&&row.all (abY lo hi)&&true)=true:=h;simp only[aL,decide_eq_true_eq,Po] at e;refine⟨e.1.2,λx hx=>?_⟩;have:=cj.mp e.2 x hx;unfold abY at this;simp at this;exact this.1
theorem call_in{i:Nat}{ns row:List Int}(hi:i<16)(hn:ns.length=gF.getD i 0)(h0:iU.getD i 0=0->row=[])(h:pJ bound (wZ i ns row)=true):O5 i ns row:=by
 have key:∀(lo hi:Int)(b:Nat),(bound i).2=[(lo,hi,0,b)]->iU.getD i 0≠0->row.length<=b/\∀x∈row,lo<=x:=λlo hi' b eb l1=>by
  have e:pJ bound (wZ i ns row)=(PyInside.each (bound (i:Int)).1 ns&&aex (bound (i:Int)).2 [row]):=by unfold wZ;rw[if_neg l1];rfl
  rw[e,aL,eb] at h;exact XC h.2
 have short:iU.getD i 0=0->row.length<=10:=λz=>by rw[h0 z];exact bE _
 refine⟨hi,hn,λn0=>?_,λz=>?_⟩
 ·rcases i with _|_|_|_|_|_|_|_|_|_|_|_|_|_|_|_|i
  ·exact absurd rfl n0
  all_goals first
   |exact(key _ _ _ rfl (by decide)).1
   |exact short rfl
   |(exfalso;omega)
 ·subst z;exact key _ _ _ rfl (by decide)
end Bp
namespace Bp
open PySem PySem.Spec PyProof.Rows L2 Bm
theorem VF(l:List Int)(n:Nat):(j8 l).drop n=j8 (l.drop n):=by unfold j8;rw[vh]
theorem VG(l:List Int)(n:Nat):(j8 l).take n=j8 (l.take n):=by unfold j8;rw[afq]
theorem MV{l:List Int}{a b:Nat}(hb:b<=l.length)(hab:a<=b){x y:Int}(hx:x=(a:Int))(hy:y=(b:Int)):vz (j8 l) (some x) (some y)=j8 ((l.drop a).take (b-a)):=by subst hx hy;unfold vz;rw[HT.DA,HT.DA,gP];rw[show min a l.length=a by omega,show min b l.length=b by omega,VF,VG]
theorem MW{l:List Int}{i:Nat}{x:Int}(h:l[i]? =some x):(j8 l)[i]? =some (.int x):=by unfold j8;rw[aV,h];rfl
theorem QI{l:List Nat}{i x:Nat}(h:l[i]? =some x):(gZ l)[i]? =some (.int (x:Nat)):=by unfold gZ;rw[aV,h];rfl
def FR(K:ah)(M:List af)(H:Hp)(a:af)(l:List Int):Prop:=(¬a∈M/\Rd H a (.lst (j8 l)))∨∀H',bG K H' a (j8 l)
theorem FR.sq{K:ah}{M:List af}{H:Hp}{a:af}{l:List Int}(h:FR K M H a l):bG K H a (j8 l):=h.elim (λz=>.inl z.2) λz=>z H
theorem FR.step{K:ah}{M M':List af}{H H':Hp}{a:af}{l:List Int}(h:FR K M H a l)(e:c6 M H H')(hM:∀b∈M',b∈M∨H b=none):FR K M' H' a l:=by
 rcases h with⟨n,q⟩|q
 ·refine .inl ⟨λz=>?_,?_⟩
  ·rcases hM a z with y|y
   ·exact n y
   ·rcases q with q|⟨o,q⟩<;>(rw[y] at q;cases q)
  ·rcases q with q|⟨o,q⟩
   ·exact .inl (e.at q n)
   ·exact .inr ⟨o,e.at q n⟩
 ·exact .inr q
theorem via{a rest:TS}{D:Ends}{σ:L2.St}{H:Hp}(C:L2.St->Hp->Prop)(h:(∀σ' H',C σ' H'->rest D σ' H')->Tc a rest D σ H)(k:∀σ' H',C σ' H'->rest D σ' H'):Tc a rest D σ H:=h k
theorem aaG:∀i,i<16->gF[i]? =some (gF.getD i 0):=by decide
theorem aaH:∀i,i<16->iU[i]? =some (iU.getD i 0):=by decide
def placeOf(n:Nat)(σ:L2.St):Nat:=match σ[3]? with
 |some (some (V.int p))=>((n:Int)-p).toNat
 |_=>0
section
variable{P:bp}{w:bQ}{K:ah}{mg:Str->Option ak}{base:cB}{A:Cl}{Pt:af}
structure aaI(K:ah)(A:Cl)(Pt a hs g:af)(l:List Int)(p:Nat)(M:List af)(h:l8)(out:List Int)(fuel:Nat)(rest:List (List (List Int)))(H:Hp):Prop where
 le:p<=l.length
 d7:Sg A Pt g M H hs h
 giv:H g=some (.lst (j8 out))
 arg:FR K M H a l
 cs:me aey fuel (l.drop p)=some rest
 inn:∀c∈rest,pJ M9 c=true
 eq:jQ l=out++uZ (pK fU h rest)
def zT(K:ah)(Pt:af):Sp:=λvs H Q _=>∃(a:af)(l:List Int)(cs:List (List (List Int))),vs=[.ref a]/\qm MO MP Pt H/\bG K H a (j8 l)/\me aey l.length l=some cs/\(∀c∈cs,pJ M9 c=true)/\(jQ l).length<=10000000/\
 ∀D H',H' D=some (.lst (j8 (jQ l)))->Q (.ref D) H'
theorem Pa(T:Txt K mg A)(U:Tt K mg)(Hn:Def P w K mg base "answer_call" 11 ["house","call","numbers","row"] (wY A Pt)):
  Def P w K mg base "answers" 12 ["calls"] (zT K Pt):=by
 obtain⟨tn,Dr,hTn⟩:=U.nc;obtain⟨tl,Ho,hTl⟩:=U.lc;refine T.kR.answers.g8 gU (λf _ A' _ s H vs Q E hr=>rq ?_)
 ·rintro a l cs rfl tg sq ⟨V8,hin,hlen,k⟩;refine ag (ax (cg (i:=1) gU.nd rfl fz (HY (MR T) hr.mono rfl)) (ax (cg (i:=2) gU.nd rfl fz (bZ aq)) (ax (cg (i:=3) gU.nd rfl fz bB) (ax (Te dE (cF DR (pv 3) (cJ bx (by rfl) T.b.dS cP (aI (pv 0) aq)) (cC _)) (ax (cg (i:=4) gU.nd rfl fz (eN cU (pv 0) (pv 3) (λ_ _=>rfl))) (ax (cg (i:=5) gU.nd rfl fz (fo pN (fo pN (pv 3) bB) (eN ND (cY Dr rfl) (pv 4) (λ_ _=>rfl)))) (ax (cg (i:=6) gU.nd rfl fz (nZ qA (pv 0) (nT (fo pN (pv 3) bB)) (nT (pv 5)))) (ax (cg (i:=7) gU.nd rfl fz (bZ aq)) (ax (du (cF jz (eN ND (cY Ho rfl) (pv 4) (λ_ _=>rfl)) bB (cC _)) (ax (cg (i:=7) gU.nd rfl fz (nZ qA (pv 0) (nT (fo pN (pv 5) bB)) (nT (fo pN (fo pN (pv 5) bB) (eN cU (pv 0) (pv 5) (λ_ _=>rfl)))))) (aG (cg (i:=5) gU.nd rfl fz (fo pN (fo pN (pv 5) bB) (cJ bx (by rfl) T.b.dS cP (aI (pv 7) aq)))))) bS) (ax (cg (i:=8) gU.nd rfl fz (bF Hn hr.mono rfl (aI (pv 1) (aI (pv 4) (aI (pv 6) (aI (pv 7) aq)))))) (ax (iR (oS bT cV cW jl (pv 2) (aI (cJ bx (by rfl) T.b.dS cP (aI (pv 8) aq)) aq))) (ax (iR (oS bT mY mZ xi (pv 2) (aI (pv 8) aq))) (aG (cg (i:=3) gU.nd rfl fz (pv 5)))))))))))) (aG (aY (pv 2))))))) ?_;refine ba ?_;refineλhs dx nx ndx ne=>bt hs dx rfl ai (λrd rl H1 SM xA k9 i1 i2 i3 k1=>⟨rfl,?_⟩);have s1:aT H H1:=aT.made nx ndx k1;refine ck ?_;refine ba ?_;refine⟨bE _,λg hg=>?_⟩;refine ck ?_;have s2:aT H1 (upd H1 g (.lst [])):=aD hg;have zO:=s1.trans s2;have tg2:=tg.mono zO;obtain⟨ps,XB⟩:=tg2.vj;refine ba ?_;refine ck ?_;refine ba ?_;have hgv:(upd H1 g (.lst [])) g=some (.lst []):=ai;generalize upd H1 g (.lst [])=H2 at s2 zO tg2 XB hgv⊢;have j1:=s2 _ _ i1;have j2:=s2 _ _ i2;have j3:=s2 _ _ i3;have n1:hs≠g:=aR i1 hg;have n2:rd≠g:=aR i2 hg;have n3:rl≠g:=aR i3 hg;have S0:Sg A Pt g [Pt,g,hs,rd,rl] H2 hs {}:=by
   refine xF dx rd rl ([]) ([]) ([]) .h9 ⟨λm hm=>?_,.head _,.tail _ (.head _),.tail _ (.tail _ (.head _)),.tail _ (.tail _ (.tail _ (.head _))),.tail _ (.tail _ (.tail _ (.tail _ (.head _)))),n1,n2,n3,gH XB hgv (λz=>nomatch z),tg2,j1,j2,j3,rfl,by simp,.nil,by decide,rfl⟩;simp only[aB,fj,or_false] at hm;rcases hm with rfl|rfl|rfl|rfl|rfl
   ·exact ag XB (λxs z=>nomatch z)
   ·exact ag hgv (λxs z=>nomatch z)
   ·exact ag j1 (λxs z=>nomatch z)
   ·exact ag j2 (λxs z=>nomatch z)
   ·exact ag j3 (λxs z=>nomatch z)
  have OU:∀b o,H b=some o->b≠Pt->¬b∈[Pt,g,hs,rd,rl]:=λb o q nP hm=>by
   simp only[aB,fj,or_false] at hm;rcases hm with e|e|e|e|e
   ·exact nP e
   ·have:=s1 _ _ q;rw[e,hg] at this;cases this
   ·rw[e,nx] at q;cases q
   ·have h0:=SM;have q':H rd=some o:=by rw[<-e];exact q
    rw[ay (aR q' nx),ay (aR q' ndx),q'] at h0;cases h0
   ·have h0:=xA;have q':H rl=some o:=by rw[<-e];exact q
    rw[ay (aR q' nx),ay (aR q' ndx),q'] at h0;cases h0
  have A0:FR K [Pt,g,hs,rd,rl] H2 a l:=by
   obtain⟨ps0,SK⟩:=tg.vj;rcases sq with(q|⟨o,q⟩)|q
   ·exact .inl ⟨OU a _ q (gH q SK (λz=>nomatch z)),.inl (zO _ _ q)⟩
   ·exact .inl ⟨OU a _ q (gH q SK (λz=>nomatch z)),.inr ⟨o,zO _ _ q⟩⟩
   ·exact .inr λH'=>.inr q
  have e0:jQ l=[]++uZ (pK fU ({}:l8) cs):=by unfold jQ PyVbslai.calls;rw[V8];dsimp only;rw[show cs.map PyVbslai.whole=cs from(dh λc _=>VE c).trans (Bh _)];rfl
  refine Tg (λσ H'=>∃(v4 v5 v6 v7 v8:Option V)(p:Nat)(M:List af)(h:l8)(out:List Int)(fuel:Nat)(rest:List (List (List Int))),σ=[some (.ref a),some (.ref hs),some (.ref g),some (.int (p:Nat)),v4,v5,v6,v7,v8]/\aaI K A Pt a hs g l p M h out fuel rest H')
   (λσ _=>placeOf l.length σ) ⟨none,none,qt none none none 0 _ _ ([]) _ _ ⟨rfl,bE _,S0,hgv,A0,V8,hin,e0⟩⟩ ?_ ?_
  ·rintro σ H3 ⟨v4,v5,v6,v7,v8,p,M,h,out,fuel,rest,rfl,Z⟩;have sqa:=Z.arg.sq;refine ag rfl (ag rfl (bt a _ rfl (.inl sqa) (bt _ _ rfl rfl (ag rfl (fG (λq=>?_) (λq=>?_))))))
   ·
    rw[gP] at q;have hp:p<l.length:=by omega
    have hdp:=dJ hp;have aee:=Z.cs;rw[hdp] at aee;refine nJ ?_ (O9 aee);rintro f2 i ns row t QJ ⟨ei,St⟩;have hi:=St.lt;have Va:l[p]? =some ((i:Nat):Int):=by rw[aw hp,ei]
    obtain⟨n,hn⟩:∃n,n=gF.getD i 0:=⟨_,rfl⟩;have hnl:=St.nl;rw[<-hn,fh] at hnl;have Xv:ns.length=gF.getD i 0:=by rw[St.nsE,cQ,fh,<-hn];omega
    have aef:pJ M9 (wZ i ns row)=true:=Z.inn _ (by rw[St.csE];exact .head _);have Gm:O5 i ns row:=call_in hi Xv (λz=>(St.no z).1) aef;refine nK ?_ (id Z.d7);rintro dx3 rd3 rl3 l3 amy zs3 fv3 S3;refine ba ?_;refine ag rfl (ag rfl (iE a _ _ _ rfl rfl sqa (cN (j:=p) (MW Va)) ?_));refine ck ?_;refine ba ?_;refine ag rfl (bt _ _ rfl rfl (ag rfl (iE tn _ _ _ rfl rfl (hTn H3) (cN (j:=i) (QI (aaG i hi))) (bt _ _ rfl rfl ?_))));refine ck ?_;refine ba ?_;refine ag rfl (ag rfl (bt _ _ rfl rfl (ag rfl (ag rfl (ag rfl (bt a _ rfl sqa (λd hd=>?_)))))));have Z8:vz (j8 l) (some ((p:Nat)+1:Int)) (some ((p:Nat)+1+((gF.getD i 0:Nat):Int)))=j8 ns:=by rw[MV (a:=p+1) (b:=p+1+n) (by omega) (by omega) (by omega) (by rw[hn];omega),St.nsE,<-hn];congr 2;omega
    rw[Z8];refine ck ?_;have s4:aT H3 (upd H3 d (.lst (j8 ns))):=aD hd;have hd4:(upd H3 d (.lst (j8 ns))) d=some (.lst (j8 ns)):=ai;generalize upd H3 d (.lst (j8 ns))=H4 at s4 hd4⊢;refine ba ?_;refine⟨bE _,λe5 he5=>?_⟩;refine ck ?_;have s5:aT H4 (upd H4 e5 (.lst [])):=aD he5;have aeg:(upd H4 e5 (.lst [])) e5=some (.lst (j8 [])):=ai;have hf5:H3 e5=none:=s4.free he5;generalize upd H4 e5 (.lst [])=H5 at s5 aeg⊢;have s45:=s4.trans s5;have aeh:=(Z.arg.step (M':=M) (c6.of s45) (λb hb=>.inl hb)).sq;obtain⟨bh,hbh⟩:∃bh:Nat,l.drop bh=t/\p<bh/\bh<=l.length/\((iU.getD i 0=0/\bh=p+1+n)∨(iU.getD i 0≠0/\bh=p+1+n+1+row.length)):=by
     by_cases z:iU.getD i 0=0
     ·refine iL (p+1+n) ?_ (by omega) (by omega) (.inl ⟨z,rfl⟩);rw[(St.no z).2,oE,<-hn]
     ·refine cH ?_ (St.yes z);rintro m m1 m2 ⟨m3,m4⟩;have:n<(l.drop (p+1)).length:=by rw[hn];exact(cn.mp m1).1
      have hm5:row.length<=(l.drop (p+1)).length-(n+1):=by rw[m2,cQ,fh,<-hn];omega
      rw[fh] at this hm5;refine iL (p+1+n+1+row.length) ?_ (by omega) (by omega) (.inr ⟨z,rfl⟩);rw[m4,oE,m3,<-hn];congr 1;omega
    obtain⟨hb1,hb2,hb3,hb4⟩:=hbh;refine via (C:=λσ' H6=>∃e,σ'=[some (.ref a),some (.ref hs),some (.ref g),some (.int (p:Nat)),some (.int (i:Nat)),some (.int (bh:Nat)),some (.ref d),some (.ref e),v8]/\aT H3 H6/\H6 d=some (.lst (j8 ns))/\H3 e=none/\H6 e=some (.lst (j8 row))) (λkk=>?_) (λσ' H6 hC=>?_)
    ·refine ba ?_;refine ag rfl (gB tl _ _ _ rfl rfl (hTl H5) (cN (j:=i) (QI (aaH i hi))) rfl (ag rfl (fG (λq1=>?_) (λq1=>?_))))
     ·have l1:iU.getD i 0≠0:=λz=>by rw[z] at q1;cases q1
      refine cH ?_ (St.yes l1);rintro m m1 m2 ⟨m3,m4⟩;have SV:bh=p+1+n+1+row.length:=by
       rcases hb4 with⟨z,_⟩|⟨_,z⟩
       ·exact absurd z l1
       ·exact z
      have hm1:l[p+1+n]? =some ((m:Nat):Int):=by rw[<-hn,List.getElem?_drop] at m1;exact m1
      have eb:((p:Nat):Int)+1+((gF.getD i 0:Nat):Int)=((p+1+n:Nat):Int):=by rw[hn];omega
      refine ba ?_;refine ag rfl (ag rfl (bt _ _ rfl rfl (ag rfl (ag rfl (bt _ _ rfl rfl (ag rfl (ag rfl (iE a _ _ _ rfl rfl aeh (at_of (j:=p+1+n) eb (MW hm1)) (bt _ _ rfl rfl (ag rfl (bt a _ rfl aeh (λe6 he6=>?_))))))))))));have aej:vz (j8 l) (some (((p:Nat):Int)+1+((gF.getD i 0:Nat):Int)+1)) (some (((p:Nat):Int)+1+((gF.getD i 0:Nat):Int)+1+((m:Nat):Int)))=j8 row:=by rw[MV (a:=p+1+n+1) (b:=p+1+n+1+m) (by omega) (by omega) (by rw[eb];omega) (by rw[eb];omega),m2,<-hn,oE];congr 2;omega
      rw[aej];refine ck ?_;refine ag rfl (bt _ _ rfl rfl (ag rfl (bt e6 _ rfl (.inl (bG.of ai)) (bt _ _ rfl rfl ?_))));refine ck ?_;refine kk _ _ (iL e6 ?_ (s45.trans (aD he6)) (aD he6 _ _ (s5 _ _ hd4)) ⟨s45.free he6,ai⟩);have ebh:((p:Nat):Int)+1+((gF.getD i 0:Nat):Int)+1+((j8 row).length:Int)=((bh:Nat):Int):=by rw[eb,gP,SV];omega
      rw[<-ebh];rfl
     ·have l0:iU.getD i 0=0:=by
       rcases Yt i hi with z|z
       ·exact z
       ·exact absurd (by rw[z];rfl) q1
      have SV:bh=p+1+n:=by
       rcases hb4 with⟨_,z⟩|⟨z,_⟩
       ·exact z
       ·exact absurd l0 z
      refine cT ?_;refine kk _ _ (iL e5 ?_ s45 (s5 _ _ hd4) ⟨hf5,by rw[aeg,(St.no l0).1]⟩);have ebh:((p:Nat):Int)+1+((gF.getD i 0:Nat):Int)=((bh:Nat):Int):=by rw[SV,hn];omega
      rw[<-ebh];rfl
    ·refine cH ?_ hC;clear hC;rintro e rfl s6 ⟨hd6,hfe,he6⟩;have ahR:=Z.d7.mono s6;have Yu:=s6 _ _ Z.giv;have ahS:=Z.arg.step (M':=M) (c6.of s6) (λb hb=>.inl hb);refine ba ?_;refine ag rfl (ag rfl (ag rfl (ag rfl (qt hs d e g M h i ns row ⟨rfl,ahR,hd6,rg S3.tr.tr hfe he6,Gm,λD H7 an=>?_⟩))));refine cH ?_ an;rintro M7 aaJ eg7 ⟨hM7,hD7,eD7,sB7⟩;have VH:H7 g=some (.lst (j8 out)):=by rw[eg7];exact Yu
     have hgD:g≠D:=aR Yu hD7;have Yv:fU h (wZ i ns row)=bX h (Iq i ns row):=by show bX h (VR _)=_;rw[Sk hi Xv]
     obtain⟨r,hr'⟩:∃r,r=bX h (Iq i ns row):=⟨_,rfl⟩;rw[<-hr'] at aaJ eD7 Yv;have aek:uZ (pK fU h rest)=((r.2.length:Int)::r.2)++uZ (pK fU r.1 QJ):=by rw[St.csE];show uZ ((fU h (wZ i ns row)).2::pK fU (fU h (wZ i ns row)).1 QJ)=_;rw[Yv];rfl
     have heq:jQ l=(out++((r.2.length:Int)::r.2))++uZ (pK fU r.1 QJ):=by rw[Z.eq,aek,dw]
     have adu:out.length+(r.2.length+1)<=10000000:=by have:=hlen;rw[heq,aP,aP,aW] at this;omega
     refine ck ?_;refine ba ?_;refine bP _ rfl (.inl ⟨rfl,_,bG.of VH⟩) (ag rfl (bt D _ rfl (.inl (bG.of eD7)) (iD g _ _ rfl rfl VH ?_ ?_)))
     ·rw[gP];exact b0 (show out.length<=10000000 by omega) (by decide)
     have eD8:(upd H7 g (.lst (j8 out++[.int (j8 r.2).length]))) D=some (.lst (j8 r.2)):=by rw[ay hgD.symm];exact eD7
     refine ba ?_;refine bP _ rfl (.inl ⟨rfl,_,bG.of ai⟩) (ag rfl (gB g D _ _ rfl rfl ai eD8 ?_ ?_))
     ·rw[aP,gP,gP];exact ao (show out.length+1+r.2.length<=10000000 by omega) (by decide)
     rw[Px];refine ag rfl ?_;refine⟨⟨_,_,qt _ _ _ bh M7 r.1 (out++((r.2.length:Int)::r.2)) f2 QJ ⟨rfl,hb3,?_,?_,?_,by rw[hb1];exact St.rsE,λc hc=>Z.inn c (by rw[St.csE];exact .tail _ hc),heq⟩⟩,?_⟩
     ·exact aaJ.put VH
     ·rw[ai];refine congrArg (λz=>some (HO.lst z)) ?_;unfold j8;simp
     ·refine nK ?_ (id aaJ);rintro dx7 rd7 rl7 l7 amK zs7 fv7 S7;refine(ahS.step sB7 hM7).step (M':=M7) ((c6.of (aT.refl _)).upd S7.gm) (λb hb=>.inl hb)
     ·show((l.length:Int)-(bh:Nat)).toNat<((l.length:Int)-(p:Nat)).toNat;omega
   ·
    rw[gP] at q;have hpe:p=l.length:=by have:=Z.le;omega
    have QC:rest=[]:=by
     have:=Z.cs;rw[hpe,aaU] at this;cases fuel<;>(cases this;rfl)
    have he0:=Z.eq;rw[QC] at he0;have he1:jQ l=out:=by rw[he0];exact dM _
    refine ag rfl (k g H3 ?_);rw[he1];exact Z.giv
  ·rintro σ H3 Q1 Q2 hq ⟨v,e,v2,e2,p,ys,e3,e4,i,j,e5,e6,b,e7,q⟩;exact bq v e (bq v2 e2 (bt p ys e3 e4 (bt i j e5 e6 (bq b e7 (hq _ _ q)))))
end
end Bp
namespace Bp
open PySem PySem.Spec PyProof.Rows L2
section
open PySem.W (WData Codec OpenSpec WellAll ReadsW CodeHd tabObj)
theorem Pb{P:bp}{w:bQ}{K:ah}{mg mb:Str->Option ak}{k:Nat}{fa c Pt:af}{x:Str}{ps:List Str}{sp:Sp}{s1:az}{vals:List ak}{ds:List WData}{R:aaW}{cl:Str->Option af}{d0:WData}(KX:K.In s1.heap)(Xv:s1.heap.Ns bI mg)(hb:s1.heap.Ns Ki mb)(hbb:∀x:Str,x≠"__name__"->mb x=di x)(ahU:s1.heap.NoLimit)(hg:s1.gens=#[])(DJ:WellAll w.params s1.heap vals ds)(xH:CZ ds=true)(hwt:∀d∈ds,d.weight<=1048576)(hr:jx k aa6)(hC:CodeHd s1.heap c Pt)(hP:s1.heap.get? Pt=some (tabObj #[]))(hKP:K.lookup Pt=none)(hBM:BMain mg s1.heap)(hmg:mg x=some (.ref fa))(F:∀base:cB,K.In base->base.Ns bI mg->BMain mg base->Def P w K mg base x k ps sp)(hlen:ds.length=ps.length)(Sx:∀(H0 H:Hp)(xs:List V),vI K H0 xs ds->aT H0 H->H Pt=some (.vj #[])->sp xs H (λv H'=>Dw K H' v d0) E0):
  rS (model P w) aa6 (.call (.ref fa) ⟨vals,[]⟩) (λr s'=>∃u as,r=.ok (.ret u)/\ReadsW R cl s'.heap u d0 as/\OldK s1.heap s'.heap/\s'.os=s1.os/\Wb s'.gens) s1:=by
 obtain⟨A,ho,ar⟩:=Ad ds vals DJ xH hwt;have hO:X6 (r8 K s1.heap A):=Rt ar;have ael:u5 P w (r8 K s1.heap A) s1.heap:=WS ar;have hS:=IY KX ar ds vals DJ xH ho;have hV:=r6 ho;have hK:∀b u,r8 K s1.heap A b=some u->K.lookup b=none:=λb u q=>(DE ar q).1;have noC:∀{b:af}{o:Obj},s1.heap.get? b=some o->(∀its n,o.data≠.seq its n)->r8 K s1.heap A b=none:=λ{b o} e d=>by
  cases q:r8 K s1.heap A b with
  |none=>rfl
  |some u=>
   obtain⟨_,vs,_,_,⟨e2,_⟩|⟨e2,_⟩⟩:=DE ar q
   ·rw[e2] at e;cases e;exact absurd rfl (d _ _)
   ·rw[e2] at e;cases e;exact absurd rfl (d _ _)
 have hPn:r8 K s1.heap A Pt=none:=noC hP (λits n z=>by cases z);generalize r8 K s1.heap A=H0 at hO ael hS hK noC hPn;have s0:aT H0 (upd H0 Pt (.vj #[])):=aD hPn;have dQ:u5 P w (upd H0 Pt (.vj #[])) s1.heap:=λb u q=>by
  by_cases z:b=Pt
  ·subst z;rw[ai] at q;cases q;exact hP
  ·rw[ay z] at q;exact(ael b u q).Gy (λ_ _ _ y=>y) (λb y=>s0 _ _ y) λb xs y=>s0 _ _ y
 have hHn:∀{b:af}{o:Obj},s1.heap.get? b=some o->(∀its n,o.data≠.seq its n)->o≠tabObj #[]->upd H0 Pt (.vj #[]) b=none:=λ{b o} e d n=>by rw[ay (λz=>by rw[z,hP] at e;exact n (aX e).symm)];exact noC e d
 have hPt:upd H0 Pt (.vj #[]) Pt=some (.vj #[]):=ai;have hH:∀b u,upd H0 Pt (.vj #[]) b=some u->b≠Pt->∃ob u3,upd H0 Pt (.vj #[]) b=some (.vp ob u3):=λb u q z=>by
  rw[ay z] at q⊢;rcases hO b with y|⟨ob,u3,y⟩
  ·rw[q] at y;cases y
  ·exact qr ob u3 y
 have hK':∀b o,K.lookup b=some o->upd H0 Pt (.vj #[]) b=none:=λb o e=>by
  rw[ay (λz=>by rw[z,hKP] at e;cases e)]
  cases q:H0 b with
  |none=>rfl
  |some u=>rw[hK b u q] at e;cases e
 generalize upd H0 Pt (.vj #[])=H at s0 dQ hHn hPt hH hK';have Kc:∀{b:af}{o:Obj},s1.heap.get? b=some o->H b=none->(Gz s1.heap H).get? b=some o:=λe n=>SW e n;have nsK:∀{b:af}{m:Str->Option ak},s1.heap.Ns b m->(Gz s1.heap H).Ns b m:=λ{b m} ⟨o,es,ep,e,d,r⟩=>jK o es ep (Kc e (hHn e (λits n z=>by rw[d] at z;cases z) (λz=>by rw[z] at d;cases d))) d r;have hKb:K.In (Gz s1.heap H):=λb o e=>Kc (KX b o e) (hK' b o e);have hM:Mod K mg (Gz s1.heap H):=⟨hKb,nsK Xv,bq mb (nsK hb) hbb,let⟨mc,h1,h2⟩:=ahU;(bq mc (nsK h1) h2)⟩;have hBb:BMain mg (Gz s1.heap H):=by
  refine ke ?_ hBM;rintro bm o b1 b2 b3 ⟨b4,b5,b6,b7⟩;exact dH bm o b1 b2 b3 ⟨Kc b4 (hHn b4 (λits n z=>by rw[b7] at z;cases z) (λz=>by rw[z] at b7;cases b7)),b5,b6,b7⟩
 have e0:NC P w K mg (Gz s1.heap H) aa6 [] s1 H:=⟨rfl,hM,λb o e=>Wi e,ye (QW _ _),trivial,λb hb=>absurd (show b∈([]:List af) from hb) (by simp),dQ,.of_eq hg⟩;have hl:vals.length=ps.length:=by rw[qE DJ];exact hlen
 refine ke ?_ ((F _ hKb (nsK Xv) hBb).ex);rintro f' fd Fn hm _ hbd;rw[hmg] at hm;cases hm;have MK:BindsTo s1 fd ⟨vals,[]⟩ (ps.zip vals):=by have:=hbd s1 vals KX (by rw[dM];exact hl);rw[dM] at this;exact this
 refine k7 (Fn.run aa6 [] s1 H ⟨vals,[]⟩ vals (vals.map toV) _ _ hr e0 MK hV (Sx H0 H _ hS s0 hPt)) λr s' y=>?_
 cases r with
 |error e=>exact dP y
 |ok fl=>
  cases fl with
  |next=>exact dP y
  |brk=>exact dP y
  |cont=>exact dP y
  |ret u=>
   refine ke ?_ y;rintro v H' os bare un ⟨aaK,r',q⟩;have kept:∀b o,s1.heap.get? b=some o->b≠Pt->s'.heap.get? b=some o:=λb o e nP=>by
    cases q2:H b with
    |none=>exact un.keep b o e q2 (by intro z;exact absurd (show b∈([]:List af) from z) (by simp)) (by simp)
    |some u2=>
     refine Ks ?_ (hH b u2 q2 nP);rintro ob u3 z;have z2:=un.IA b ob _ z;obtain⟨e1,_⟩:=dQ b _ z;obtain⟨e2,_⟩:=aaK b _ z2;rw[e] at e1;cases e1;exact e2
   obtain⟨more,aem⟩:=un.IB Pt _ hPt;have SG:s'.heap.get? Pt=some (tabObj (#[]++more)):=aaK Pt _ aem;have KX':K.In s'.heap:=λb o e=>kept b o (KX b o e) (λz=>by rw[z,hKP] at e;cases e);obtain⟨as,SM⟩:=Dw.reads (R:=R) (cl:=cl) aaK KX' d0 v u q r';refine dH u as rfl SM ⟨λb o e=>?_,λb o e=>?_⟩ ⟨os,bare⟩
   ·by_cases z:b=Pt
    ·subst z;rw[hP] at e;cases e;exact .inr (.inl ⟨(hC.tab hP).isCodeTable,rfl,fu (#[]) more rfl SG⟩)
    ·exact .inl (kept b o e z)
   ·by_cases z:b=Pt
    ·rw[z];exact⟨_,SG⟩
    ·exact⟨o,kept b o e z⟩
theorem Pc{r:OpenSpec}{k:Nat}{q:bp}{loose:List Str}{XP:(Str->Option ak)->cB->Prop}{YP:bQ->cB->Prop}{d d1:DefRec}{K:Pu->ah}{ps:List Str}{sp:ah->af->Sp}(aen:r.wellSaid=true)(hdf:d.params.defaults=[])(hlen:r.args.length=ps.length)(hr:jx k aa6)(Vy:(recsOf q).find? (λe=>e.name==("best_release":Str))=some d1)(hY:∀(w:bQ)(h:cB),YP w h->(K w.params).In h)(F:∀(w:bQ)(mg:Str->Option ak)(h:cB),(K w.params).In h->h.Ns bI mg->∃c Pt:af,afs (K w.params) "best_release"=some (c,Pt)/\(K w.params).lookup Pt=none/\∀base:cB,(K w.params).In base->base.Ns bI mg->BMain mg base->Def r.prog w (K w.params) mg base d.name k ps (sp (K w.params) Pt))
  (Sx:∀(K:ah)(Pt:af)(H0 H:Hp)(xs:List V)(a:Codec.denoteAll r.args),Codec.withinAll r.args a=true->Codec.app r.args r.asked a=true->vI K H0 xs (Codec.encAll r.args a)->aT H0 H->H Pt=some (.vj #[])->sp K Pt xs H (λv H'=>Dw K H' v (r.ret.enc (Codec.app r.args r.f a))) E0):
  PySem.W.WalkOS q loose XP YP r d [] (λf vs=>PySem.call f vs):=by
 intro w GA s1 mg mb G Y fa o pm cd doc dV kV ho hd S8 hD hmg hg args vals as ahY ahZ SM DJ hlo;obtain⟨a,e1,e2⟩:=PySem.W.os_pre_some ahY;obtain⟨e3,hwi⟩:=Codec.encAll_of_decAll r.args args a e1;subst e3;have KX:=hY w _ Y;refine j7 ?_ (F w mg _ KX G.T.g);rintro c Pt ht hKP hF;obtain⟨hC,hP⟩:=PySem.W.tab_of G.T KX Vy ht;have hBM:BMain mg s1.heap:=by
  refine ke ?_ G.T.bmain;rintro bm ob b1 b2 b3 ⟨b4,b5,b6⟩;refine dH bm ob b1 b2 (λz=>?_) ⟨b3,b4,b5,b6⟩;refine jT ?_ G.T.g;rintro o es ep e d _;rw[z,e] at b3;cases b3;rw[d] at b6;cases b6
 refine PySem.W.enter_call (k7 (Pb (R:=[]) (cl:=classAt GA.heap) (d0:=r.ret.enc (Codec.app r.args r.f a)) KX G.T.g G.T.b G.T.builtins G.T.nolimit hg DJ (HM _ _) (D9 ahZ) hr hC hP hKP hBM hmg hF (by rw[Ea];exact hlen) (λH0 H xs hS s0 hPt=>Sx _ Pt H0 H xs a hwi e2 hS s0 hPt)) λr' s' hq=>?_);refine ke ?_ hq;clear hq;rintro u as' rfl h1 h2 ⟨h3,h4⟩;exact⟨.inl (iD u _ as' rfl (λ_=>rfl) h1 ((OpenSpec.post_iff aen hwi _ _).mpr rfl) (λz=>bN (show false=true from z))),h2,h3,h4⟩
end
section
open PySem.W (nsIn findIn isFn makesIn keepIn codeIn fnOf mg_of tabIn)
abbrev HB(x qual:Str)(st:cD)(ps:List Str):Prop:=∀(kV doc pm:ak)(an:Option af)(pP ct:ak)(us:List ak),us.length=ps.length->Bc (fnOf x qual (o8 st) (lJ st) (aO st) .none kV doc pm an pP ct) ⟨us,[]⟩=pure (ps.zip us)
theorem hbT{x qual:Str}{st:cD}{ps:List Str}(h:HB x qual st ps:=by first|(exactλ_ _ _ _ _ _ us hl=>match us,hl with|[_],_=>rfl)|(exactλ_ _ _ _ _ _ us hl=>match us,hl with|[_,_],_=>rfl)|(exactλ_ _ _ _ _ _ us hl=>match us,hl with|[_,_,_],_=>rfl)|(exactλ_ _ _ _ _ _ us hl=>match us,hl with|[_,_,_,_],_=>rfl)|(exactλ_ _ _ _ _ _ us hl=>match us,hl with|[_,_,_,_,_],_=>rfl)|(exactλ_ _ _ _ _ _ us hl=>match us,hl with|[_,_,_,_,_,_],_=>rfl)):HB x qual st ps:=h
section
variable{K:ah}{h:cB}{mg:Str->Option ak}{x qual m:Str}{C f:af}{st:cD}{ps:List Str}{oc kV doc pm pP ct:ak}{od an:Option af}{KG:Array (Option ak)}
theorem na(e:findIn K (.ref C) m=some none):dC K C m:=e
theorem cI{i:Int}{t:Tok}(X:K.In h)(G:h.Ns bI mg)(a:nsIn K bI x=some (some (.int i t))):tP mg x (.int i):=⟨ag (mg_of X G a) ⟨t,rfl⟩⟩
theorem cS{i:Str}{t:Tok}(X:K.In h)(G:h.Ns bI mg)(a:nsIn K bI x=some (some (.str i t))):tP mg x (.str i):=⟨ag (mg_of X G a) ⟨t,rfl⟩⟩
theorem rD(X:K.In h)(G:h.Ns bI mg)(a:nsIn K bI x=some (some (.ref f)))(l:K.lookup f=some ⟨oc,od,.func (fnOf x qual (o8 st) (lJ st) (aO st) .none kV doc pm an pP ct),KG⟩)(c:codeIn K pP qual=true)(k:keepIn K (.ref f)=true)(hb:HB x qual st ps:=by exact Bp.hbT):Raw K mg x qual st ps:=⟨f,_,vH l c k,mg_of X G a,(vH l c k).binds hb⟩
theorem rM(a:findIn K (.ref C) x=some (some (.ref f)))(i:isFn K (.ref f)=true)(l:K.lookup f=some ⟨oc,od,.func (fnOf x qual (o8 st) (lJ st) (aO st) .none kV doc pm an pP ct),KG⟩)(c:codeIn K pP qual=true)(k:keepIn K (.ref f)=true)(hb:HB x qual st ps:=by exact Bp.hbT):iS K C x qual st ps:=⟨f,_,vH l c k,⟨a,i,k⟩,(vH l c k).binds hb⟩
theorem rI(X:K.In h)(G:h.Ns bI mg)(aC:nsIn K bI m=some (some (.ref C)))(mk:makesIn K C=true)(a:findIn K (.ref C) "__init__"=some (some (.ref f)))(i:isFn K (.ref f)=true)(kc:keepIn K (.ref C)=true)(l:K.lookup f=some ⟨oc,od,.func (fnOf "__init__" qual (o8 st) (lJ st) (aO st) .none kV doc pm an pP ct),KG⟩)(c:codeIn K pP qual=true)(k:keepIn K (.ref f)=true)(hb:HB "__init__" qual st ps:=by exact Bp.hbT):ze K mg m C qual st ps:=⟨f,_,vH l c k,⟨mk,a,i,kc⟩,(vH l c k).binds hb,mg_of X G aC⟩
theorem rC{c Pt:af}{vs:Array ak}{od2:Option af}{V9:Array (Option ak)}{file:Str}{tf tg tt:Tok}{flags txt:Int}{inF:Bool}(X:K.In h)(G:h.Ns bI mg)(a:nsIn K bI x=some (some (.ref f)))(l:K.lookup f=some ⟨oc,od,.func (fnOf x qual (o8 st) (lJ st) (aO st) .none kV doc pm an (.ref c) ct),KG⟩)(cc:codeIn K (.ref c) qual=true)(k:keepIn K (.ref f)=true)(hb:HB x qual st ps)(lc:K.lookup c=some ⟨.type "code",od2,.fields vs,V9⟩)(v1:vs[11]? =some (.ref Pt))(v2:vs.getD 18 .none=.str file tf)(v3:vs.getD 7 .none=.int flags tg)(v4:vs.getD 9 .none=.bool inF)(v5:vs.getD 10 .none=.int txt tt)(ne:(c==Pt)=false):
  VB K mg x qual st ps c Pt/\tabIn K x=some (c,Pt):=by
 refine⟨⟨dH f _ (vH l cc k) (mg_of X G a) ((vH l cc k).binds hb) rfl,λh X=>qt _ vs file tf flags tg inF txt tt ⟨X _ _ lc,rfl,rfl,v1,?_,v2,v3,v4,v5,beq_eq_false_iff_ne.mp ne⟩⟩,?_⟩
 ·rw[Array.getD_eq_getD_getElem?,v1];rfl
 ·unfold afs;rw[a];dsimp only;rw[l];dsimp only;rw[lc];dsimp only;rw[v1]
def Kd:List ak->List Nat->Bool
 |[],[]=>true
 |.int i _::us,n::ns=>i==(n:Int)&&Kd us ns
 |_,_=>false
theorem CN:∀{us:List ak}{ns:List Nat},Kd us ns=true->Vals (gZ ns) us
 |[],[],_=>.nil
 |.int i t::us,n::ns,e=>by have e':(i==(n:Int)&&Kd us ns)=true:=e;rw[aL,beq_iff_eq] at e';exact .cons ⟨t,by rw[e'.1]⟩ (CN e'.2)
theorem tN{t:af}{its:Array ak}{n:Nat}{ns:List Nat}(X:K.In h)(G:h.Ns bI mg)(a:nsIn K bI x=some (some (.ref t)))(l:K.lookup t=some ⟨.type "tuple",od,.seq its n,KG⟩)(hl:ns.length<=100)(e:Kd its.toList ns=true):
  ∃t,tP mg x (.ref t)/\∀H,nY K H t (gZ ns):=by
 have v:=CN e;have:=v.length;rw[eI] at this;exact bq t ⟨ag (mg_of X G a) rfl⟩ (λH=>.inr (iD _ its n l rfl rfl (by rw[<-iB,<-this];exact ao hl (by decide)) v))
end
theorem tA{K:ah}{h:cB}{mg:Str->Option ak}{t f0 f1 f2 f3 f4 f5 f6 f7 f8 f9 f10 f11 f12 f13 f14 f15:af}{od:Option af}{KG:Array (Option ak)}{n:Nat}(X:K.In h)(G:h.Ns bI mg)(a:nsIn K bI "ANSWERERS"=some (some (.ref t)))(a0:nsIn K bI "answer_form"=some (some (.ref f0)))(a1:nsIn K bI "answer_sleeper"=some (some (.ref f1)))(a2:nsIn K bI "answer_change"=some (some (.ref f2)))(a3:nsIn K bI "answer_show"=some (some (.ref f3)))(a4:nsIn K bI "answer_alike"=some (some (.ref f4)))(a5:nsIn K bI "answer_short"=some (some (.ref f5)))(a6:nsIn K bI "answer_plan"=some (some (.ref f6)))(a7:nsIn K bI "answer_release"=some (some (.ref f7)))(a8:nsIn K bI "answer_text"=some (some (.ref f8)))(a9:nsIn K bI "answer_releases"=some (some (.ref f9)))(a10:nsIn K bI "answer_hidden"=some (some (.ref f10)))(a11:nsIn K bI "answer_could"=some (some (.ref f11)))(a12:nsIn K bI "answer_cost"=some (some (.ref f12)))(a13:nsIn K bI "answer_next"=some (some (.ref f13)))(a14:nsIn K bI "answer_print"=some (some (.ref f14)))(a15:nsIn K bI "answer_counts"=some (some (.ref f15)))(l:K.lookup t=some ⟨.type "tuple",od,.seq #[.ref f0,.ref f1,.ref f2,.ref f3,.ref f4,.ref f5,.ref f6,.ref f7,.ref f8,.ref f9,.ref f10,.ref f11,.ref f12,.ref f13,.ref f14,.ref f15] n,KG⟩):
  ∃(t:af)(fs:List af),tP mg "ANSWERERS" (.ref t)/\(∀H,nY K H t (iZ fs))/\∀(i:Nat)(n:Str),wX[i]? =some n->∃f,fs[i]? =some f/\mg n=some (.ref f):=by
 refine bt t ([f0,f1,f2,f3,f4,f5,f6,f7,f8,f9,f10,f11,f12,f13,f14,f15]) ⟨ag (mg_of X G a) rfl⟩ (λH=>.inr (iD _ _ n l rfl rfl (by show 16<=aA;decide) ?_)) (λi n hn=>?_)
 ·exact .cons rfl (.cons rfl (.cons rfl (.cons rfl (.cons rfl (.cons rfl (.cons rfl (.cons rfl (.cons rfl (.cons rfl (.cons rfl (.cons rfl (.cons rfl (.cons rfl (.cons rfl (.cons rfl .nil)))))))))))))))
 ·rcases i with _|_|_|_|_|_|_|_|_|_|_|_|_|_|_|_|i
  ·cases hn;exact ag rfl (mg_of X G a0)
  ·cases hn;exact ag rfl (mg_of X G a1)
  ·cases hn;exact ag rfl (mg_of X G a2)
  ·cases hn;exact ag rfl (mg_of X G a3)
  ·cases hn;exact ag rfl (mg_of X G a4)
  ·cases hn;exact ag rfl (mg_of X G a5)
  ·cases hn;exact ag rfl (mg_of X G a6)
  ·cases hn;exact ag rfl (mg_of X G a7)
  ·cases hn;exact ag rfl (mg_of X G a8)
  ·cases hn;exact ag rfl (mg_of X G a9)
  ·cases hn;exact ag rfl (mg_of X G a10)
  ·cases hn;exact ag rfl (mg_of X G a11)
  ·cases hn;exact ag rfl (mg_of X G a12)
  ·cases hn;exact ag rfl (mg_of X G a13)
  ·cases hn;exact ag rfl (mg_of X G a14)
  ·cases hn;exact ag rfl (mg_of X G a15)
  ·exact absurd hn (by show wX[i+16]? ≠some n;rw[da (by show 16<=i+16;omega)];exactλz=>nomatch z)
theorem aaL{P:bp}{w:bQ}{K:ah}{mg:Str->Option ak}{A:Cl}{c Pt:af}(T:Txt K mg A)(Y:Isi K A)(U:Tt K mg)(R:VB K mg "best_release" "best_release" iu ["form","rows","releases","numbers","asked"] c Pt/\tabIn K "best_release"=some (c,Pt))(hK:K.lookup Pt=none):
  ∃c Pt:af,tabIn K "best_release"=some (c,Pt)/\K.lookup Pt=none/\∀base:cB,K.In base->base.Ns bI mg->BMain mg base->Def P w K mg base "answers" 12 ["calls"] (zT K Pt):=
 (bt c Pt R.2 hK (λbase kb nb bm=>Pa T U (FQ T Y U (Dl T R.1 kb bm))))
end
end Bp
namespace Bp
open PyVbslai
theorem VI{l:List Int}(h:answers_asked l=true):∃cs,me shape l.length l=some cs/\(∀c∈cs,pJ bound c=true)/\(answers l).length<=10000000:=by
 unfold answers_asked at h
 cases e:me shape l.length l with
 |none=>rw[e] at h;cases h
 |some raw=>rw[e] at h;dsimp only at h;simp only[aL] at h;obtain⟨⟨⟨⟨_,_⟩,h1⟩,_⟩,h2⟩:=h;refine⟨raw,rfl,λc hc=>cj.mp h1 c hc,?_⟩;unfold PyFlat.short at h2;exact of_decide_eq_true h2
end Bp
open PySem PySem.W PyProof.Rows
open Bp (na cI cS rD rM rI rC tN tA)
structure PySem.W.Fast:Prop where(tw11069451225860843385 tw15611030700449898441 tw11801612571411080803 tw15808142572961380555 tw1257524638154862660 tw12364429057245061092 tw654805597075660182 tw2467099568013471188 tw9397902248988824538 tw4169349025671684223 tw1898154965741631612 tw6494582093845649561 tw11820430274626413083 tw13111917047990403269 tw15864041402633451379 tw8620562225501834840 tw9031851834787697168 tw18240520919790994318 tw10229573070901387124 tw15303281141322767824 tw17333088865781065796 tw9473319883996306181 tw5526577759122958858 tw18288667961266723593 tw15637951888891110875 tw1448857052334041830 tw4664967324289382132 tw16311092320853550198 tw10852914294551791326 tw8238708027726251499 tw1483554835956263289 tw8118463930927825490 tw208876764003485720 tw10755798454222610507 tw11695003533300832478 tw6181352710183075870 tw10485533189503269446 tw14715399392218690904 tw757740120554282783 tw119164579954538397 tw18033314939145645554 tw13926031269053172446 tw3497613683199381544 tw5004990664688416491 tw8668058259624465013 tw6251443460134341230 tw16891687720554001493 tw2141810342939096453 tw9124104522390884377 tw6868629048810798478 tw15575202903621380876 tw5883005395456843231 tw1091086134653501859 tw16216774856711752701 tw1728581482706274725 tw11490773146955406759 tw13115411251195778906 tw11946366049580366804 tw8265768186318218975 tw7380362927061719629 tw5800603592456737736 tw16462482473614898980 tw9269285953505479589 tw18078557005704284365 tw14920927890915455523 tw8400998707423981235 tw9911911501309059628 tw207202834367000626 tw4537561453932423002 tw15563344280380633296 tw15943997533558562249 tw6713237584250923886 tw5401616725252596088 tw18373036478729344446 tw17756847567832853165 tw16685803779002701279 tw11102750037362344416 tw2525545720676515401 tw488310350174681514 tw15471531157341446517 tw15981044352542843762 tw6552549919363344140 tw10964242771587068583 tw2978021391297190929 tw15313056976526945514 tw12741077679396420155 tw11000851541042392254 tw11568999540155993698 tw11425909997285972897 tw13781912943787418069 tw10585772147207047356 tw10121008248120025171 tw9417075442769016918 tw10590004007500992850 tw6019721969791692165 tw1281870111322869746 tw4263464133346171852 tw3226453474725485839 tw5443738183154276722 tw10451331516731722541 tw4902669266532703336 tw8396864216294628262 tw12877525022174793200 tw16767581784408367713 tw520187505339637072 tw17159036747217939279 tw15481829018336811027 tw100006896780860901 tw13668873372427430305 tw16241221169724258486 tw18127721570099815544 tw15290087191135313221 tw16930126991544072725 tw13076234462934745032 tw13448735819847409084 tw5903002827933201936 tw4040730173079666323 tw7780504189621817439 tw14497023777536858413 tw7627479833528421311 tw15765864704069285697 tw18079195229945679303 tw11170435649861746622 tw3421261661844282666 tw5918457883863049065 tw3053188331591109662 tw12291970073360567336 tw7579328639249815081 tw6419364960575450891 tw1744952355287083114 tw17231161622910717121 tw14767006609105671112 tw9766189779078891920 tw1037475958984331715 tw6404396927804865567 tw14513445023720506398 tw1073563239914455543 tw3234074252564234434 tw9876162608205461193 tw9708974257406078177 tw17190677320746392216 tw5992280948881920437 tw2115499861118233814 tw12068011491348161479 tw2164247852259056617 tw5072083146543879767 tw5951003305208078027 tw13674157720140550486 tw11783203777520873734 tw1865688398782625860 tw10193958740319704822 tw7160390701663978495 tw13654750243552368424 tw13699023880744266193 tw16520384203224322163 tw18092062414096868479 tw8122938283574904355 tw8645451569276732943 tw8812975483547536474 tw16620006326118593783 tw15272215164200326618 tw13294638071604456894 tw12215482244190313830 tw7120373452471238218 tw14128073187568328273 tw11512638386325013963 tw6237076373610502360 tw11894092710186223251 tw8609539566560989557 tw4336660438843922997 tw5440199330744820296 tw9120151799479131905 tw15010407469599248182 tw2622251532009188852 tw17952264257989052720 tw618469358738974770 tw852659228620451400 tw5612852374223185187 tw13878566296467930368 tw16828500806330230256 tw139130043061703151 tw4825442567361111401 tw529931297859654123 tw15749963865387724336 tw11166317735538092678 tw17383501004108012741 tw8765034196015574328 tw5483435007754534758 tw1982072504240763912 tw12266640315635589064 tw17715303021394018906 tw303567680675905304 tw3345531588136817077 tw4844290440869666685 tw2574023153070064958 tw14937667516208237159 tw17385188439625660405 tw11165659664720824339 tw1830231560250612689 tw2113058807649382354 tw12261865981445039394 tw9361882658198441557 tw6768044578340670416 tw2474638529725683169 tw17218812778347471689 tw7046564254023432823 tw11278879750970340945 tw13998978790421175663 tw3304258495631007154 tw12055186517926546340 tw11354024499308945362 tw5515513040941594974 tw10496023949764771916 tw3926042041226081875 tw13159412429205370157 tw12864926010832079590 tw5069802878909046871 tw15515913517927759594 tw14545584709812113673 tw2772297665291911672 tw9803642075733846936 tw6512529686043802546 tw4182467486799873062 tw4390282588609814160 tw2555667395336476872 tw8804543513746596093 tw10551769737737128359 tw10563396048170633294 tw13508570544653462651 tw2682391448857873834 tw2015930334868916259 tw8520942422211948005 tw7167859505137623271 tw4928081367982902426 tw1033277143939223712 tw10825897695193472719 tw18089890513918290047 tw12941062094732219255 tw4514780751329314200 tw6860839871910975227 tw6265422856019746611 tw4063406044451044126 tw17719316982641140994 tw13336098142688627002 tw17680690045786387531 tw15085721599076870064 tw865026081519731133 tw8552130892337423580 tw5433589091045612463 tw18372319634431955987 tw5209650021464026547 tw14191517002791306606 tw14918091767645046015 tw15121399541937969485 tw10064389900543780012 tw6216579899503195972 tw8156396632570793438 tw3573577055394701144 tw3541823793507012952 tw10726734324652216970 tw6751077148947800692 tw17871425300597827747 tw16013673691472301339 tw18119332039643076607 tw9777748725236348683 tw7797761394004700031 tw2667144405389498259 tw6583288258111148461 tw14056197052213149962 tw14816851102407691248 tw12618606676537717667 tw15217191753799129962 tw7448129150189816467 tw7012989361491292162 tw18342863092198368429 tw11632637434466990310 tw5013817137400486858 tw15820474668410379593:True)
theorem PySem.Challenge.cw_blindrelease_s01_answers_holds : PySem.Challenge.rw_blindrelease_s01_answers.Holds := by
 w_on;k_headS;(case hw=>exact⟨[.list [.int 15]],by decide+kernel,by decide+kernel⟩)
 k_fillS
 refine Bp.Pc (r:=xC) (k:=12) (ps:=["calls"]) (sp:=Bp.zT) (by decide+kernel) rfl rfl ⟨rfl,by decide,by decide⟩ rfl (λw h Y=>PySem.W.kIn_of Y) ?F ?S
 case F=>
  intro w mg h KX G;refine' Bp.aaL (A:=⟨?_,?_,?_,?_,?_,?_,?_,?_⟩)
   ⟨⟨⟨?_,?_,?_,?_⟩,(na _),(na _),(na _),(rI KX G _ _ _ _ _ _ _ _)⟩,
   ⟨⟨?_,?_,?_,?_⟩,(na _),(na _),(na _),(na _),(na _),(rI KX G _ _ _ _ _ _ _ _),(rM _ _ _ _ _),(rM _ _ _ _ _)⟩,
   ⟨⟨?_,?_,?_,?_⟩,(na _),(na _),(na _),(na _),(rI KX G _ _ _ _ _ _ _ _),(rM _ _ _ _ _)⟩,
   ⟨⟨?_,?_,?_,?_⟩,(na _),(na _),(na _),(rI KX G _ _ _ _ _ _ _ _),(rM _ _ _ _ _),(rM _ _ _ _ _),(rM _ _ _ _ _),(rM _ _ _ _ _),(rM _ _ _ _ _)⟩,
   ⟨⟨?_,?_,?_,?_⟩,(na _),(na _),(na _),(na _),(rI KX G _ _ _ _ _ _ _ _),(rM _ _ _ _ _),(rM _ _ _ _ _),(rM _ _ _ _ _),(rM _ _ _ _ _),(rM _ _ _ _ _),(rM _ _ _ _ _),(rM _ _ _ _ _)⟩,
   ⟨⟨?_,?_,?_,?_⟩,(na _),(na _),(na _),(rI KX G _ _ _ _ _ _ _ _),(rM _ _ _ _ _),(rM _ _ _ _ _),(rM _ _ _ _ _),(rM _ _ _ _ _),(rM _ _ _ _ _),(rM _ _ _ _ _),(rM _ _ _ _ _)⟩,
   ⟨⟨?_,?_,?_,?_⟩,(na _),(na _),(na _),(na _),(rI KX G _ _ _ _ _ _ _ _),(rM _ _ _ _ _),(rM _ _ _ _ _),(rM _ _ _ _ _),(rM _ _ _ _ _),(rM _ _ _ _ _),(rM _ _ _ _ _),(rM _ _ _ _ _),(rM _ _ _ _ _),(rM _ _ _ _ _),(rM _ _ _ _ _),(rM _ _ _ _ _),(rM _ _ _ _ _),(rM _ _ _ _ _)⟩,
   ⟨⟨?_,?_,?_,?_⟩,(na _),(na _),(na _),(rI KX G _ _ _ _ _ _ _ _),(rM _ _ _ _ _),(rM _ _ _ _ _),(rM _ _ _ _ _),(rM _ _ _ _ _)⟩,
   ⟨(rD KX G _ _ _ _),(rD KX G _ _ _ _),(rD KX G _ _ _ _),(rD KX G _ _ _ _),(rD KX G _ _ _ _)⟩,
   ⟨(rD KX G _ _ _ _),(rD KX G _ _ _ _),(rD KX G _ _ _ _),(rD KX G _ _ _ _),(rD KX G _ _ _ _),(rD KX G _ _ _ _),(rD KX G _ _ _ _),(rD KX G _ _ _ _),(rD KX G _ _ _ _),(rD KX G _ _ _ _),(rD KX G _ _ _ _)⟩,
   ⟨(rD KX G _ _ _ _),(rD KX G _ _ _ _),(rD KX G _ _ _ _),(rD KX G _ _ _ _),(rD KX G _ _ _ _),(rD KX G _ _ _ _),(rD KX G _ _ _ _),(rD KX G _ _ _ _),(rD KX G _ _ _ _)⟩,
   ⟨(rD KX G _ _ _ _),(rD KX G _ _ _ _)⟩,
   ⟨(rD KX G _ _ _ _),(rD KX G _ _ _ _),(rD KX G _ _ _ _),(rD KX G _ _ _ _)⟩,
   ⟨(rD KX G _ _ _ _),(rD KX G _ _ _ _),(rD KX G _ _ _ _),(rD KX G _ _ _ _),(rD KX G _ _ _ _),(rD KX G _ _ _ _),(rD KX G _ _ _ _),(rD KX G _ _ _ _),(rD KX G _ _ _ _),(rD KX G _ _ _ _),(rD KX G _ _ _ _),(rD KX G _ _ _ _),(rD KX G _ _ _ _),(rD KX G _ _ _ _),(rD KX G _ _ _ _),(rD KX G _ _ _ _),(rD KX G _ _ _ _),(rD KX G _ _ _ _),(rD KX G _ _ _ _),(rD KX G _ _ _ _),(rD KX G _ _ _ _),(rD KX G _ _ _ _)⟩,
   ⟨cI KX G _,cS KX G _,cI KX G _,cI KX G _,cS KX G _,cS KX G _,cI KX G _,cI KX G _,cI KX G _,cI KX G _,cI KX G _,cI KX G _,cI KX G _,cI KX G _,cI KX G _,cI KX G _,cI KX G _,cI KX G _,cI KX G _,cI KX G _,cI KX G _,cI KX G _,cI KX G _,cI KX G _,cI KX G _,cI KX G _,cI KX G _,cI KX G _,cI KX G _,cI KX G _⟩,
   ⟨cA KX G _,cA KX G _,cA KX G _,cA KX G _,cA KX G _,cA KX G _,cA KX G _,cA KX G _,cA KX G _,cA KX G _,cA KX G _,cA KX G _,cA KX G _,cA KX G _,cA KX G _,cA KX G _,cA KX G _⟩⟩
   ⟨?_,?_,?_,?_,?_,?_,?_,?_⟩
   ⟨tN KX G _ _ (by decide) _,tN KX G _ _ (by decide) _,tA KX G _ _ _ _ _ _ _ _ _ _ _ _ _ _ _ _ _ _⟩
   (rC KX G _ _ _ _ (λ_ _ _ _ _ _ us hl=>match us,hl with|[_,_,_,_,_],_=>rfl) _ _ _ _ _ _ _) _
  all_goals try k_is
  all_goals try k_is
  all_goals try k_is
  all_goals try rfl
  all_goals kernel_rfl
 case S=>
  intro K Pt H0 H xs a hwi ah8 hx s0 hP
  cases hx with
  |cons h1 h2=>
   cases h2
   cases h1 with
   |lst hs ha=>have e:=L2.PY a.1 _ ha;subst e;obtain⟨cs,h1,h2,h3⟩:=Bp.VI ah8;exact⟨_,a.1,cs,rfl,.inl hP,s0.seq hs,h1,h2,h3,λD H' hp=>.lst (L2.bG.of hp) (L2.PX _)⟩
