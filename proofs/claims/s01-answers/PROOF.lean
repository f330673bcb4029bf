import PyProof.Rows.All
import Wide.All
import OpenK.AllK
import Wide.FinOn
import PyProof.EqAt
import PyProof.EqKinds
import PyProof.TupleCall
import KE.BitLaws
import Open.SpecLaws
import KE.OsHead
import KE.OsGo
import KE.KDictList
import KE.KSortTupG
import PyProof.P3Eq
import KE.KMinKey
import KE.KLam
import PySem.Challenge.RW_blindrelease_s01_answers
set_option linter.all false
set_option Elab.async false
set_option maxRecDepth 100000
set_option maxHeartbeats 0
open Array renaming length_toList->ig,getElem?_toList->oy,getElem?_eq_none->xl,toList->Fd,getElem?_eq_some_iff->L9,getElem?_eq_getElem->Mr
open Bool renaming and_eq_true->aK,false_ne_true->aY,noConfusion->bK,and_eq_false_iff->gE,or_eq_true->g8,false_and->iG,and_false->iI,not_eq_true'->jd,true_and->mG,eq_iff_iff->mI,and_assoc->nW,false_eq_true->rP,not_eq_true->GD,or_false->Oy,and_true->Oz,and_comm->OA,and_eq_true_iff->UW,or_eq_false_iff->UX,not_false->adD,false_or->aeu,beq_comm->aew
open Char renaming toNat->amd
open Classical renaming byContradiction->Mu
open False renaming elim->dH
open ForInStep renaming yield->xW
open Int renaming toNat_of_nonneg->eI,toNat_natCast->nT,toNat->am8
open Int.ofNat renaming inj->aex
open List renaming length_map->aa,mem_map->aq,getElem?_eq_getElem->au,mem_cons->aA,mem_append->aD,mem_of_getElem?->aL,length_append->aO,map_map->aP,getElem?_map->aU,length_cons->aV,map_cons->bp,map_append->br,size_toArray->bA,mem_filter->bE,take_of_length_le->bH,foldl_cons->bI,mem_cons_of_mem->bS,mem_singleton->bX,range->bY,all_eq_true->b0,getElem?_eq_some_iff->b9,getD_eq_getElem?_getD->cn,length_take->cK,mem_append_right->cZ,getElem?_eq_none->c6,mem_cons_self->c7,getElem?_zip_eq_some->c8,map_congr_left->dc,lookup_cons->di,append_assoc->dn,take_add_one->dq,drop_eq_getElem_cons->dD,append_nil->dE,length_filter_le->dO,nodup_cons->dQ,length_range->dU,all_cons->dW,mem_append_left->d6,length_zip->eD,drop_of_length_le->fb,length_drop->fc,not_mem_nil->ff,filter_sublist->fk,pairwise_cons->fL,length_eq_zero_iff->fT,flatMap_append->gj,filter_congr->gX,flatMap_cons->gY,find?_cons->hJ,any_cons->iu,mem_of_find?_eq_some->iS,dropLast_concat->ja,foldl_append->jc,getElem_of_mem->jt,map_eq_nil_iff->ju,mem_flatMap->jz,filter_append->jO,nodup_append->kz,mem_of_mem_take->kT,mem_range->kU,filter_map->mJ,find?_eq_none->mN,lookup->mW,ext_getElem?->nU,drop_drop->nV,length_singleton->ox,of_mem_zip->pM,range_succ->pN,filterMap_cons->qz,any_map->qJ,all_map->qK,contains_eq_any_beq->uv,sublist_append_left->uw,map_drop->ux,filter_cons->wa,map->wc,getElem?_set_self->xk,cons_lt_cons_iff->y8,getElem?_set_ne->Ag,getLast?_append->Ah,forIn_nil->An,length->Ap,map_id->Ar,length_pos_iff->Bq,getElem?_range->Br,sum_cons->B5,zip_cons_cons->CA,filter_filter->CB,pairwise_map->Fb,map_nil->Fe,flatMap_map->GA,take_length->GC,getElem_mem->GF,any_eq_true->GG,forIn_cons->JB,drop_zero->Mf,foldl_map->Mg,getElem?_append_left->Mq,isEmpty_eq_false_iff->Mt,append_cancel_right->Oq,drop_one->OB,filter_cons_of_pos->PQ,filter_cons_of_neg->PU,range_succ_eq_map->Rp,take_append_drop->RO,mem_of_getLast?->UY,toList_toArray->Vo,mem_filterMap->WS,take_sublist->XE,find?_append->XF,all_eq_false->XG,getElem_inj->ZU,drop_length->ZX,isEmpty_iff->ZY,map_flatMap->Z2,zipIdx_cons->Z6,countP_cons->Z7,getElem_map->Z9,map_fst_zip->aaa,length_tail->aab,map_snd_zip->aac,length_nil->aa0,nil_append->aa1,find?_some->aa2,zipIdx_nil->aa3,map_take->aey,map_id'->ahl,filter->aiX
open List.Sublist renaming refl->Fc
open Nat renaming le_trans->ak,le_refl->aJ,zero_le->bB,lt_of_lt_of_le->bJ,ne_of_lt->bR,lt_of_le_of_lt->bW,le_of_lt->cT,ne_of_gt->dw,mul_le_mul_right->d7,lt_irrefl->gO,lt_succ_of_lt->kr,lt_succ_self->oH,le_add_right->oJ,le_of_succ_le->ub,le_of_eq->xo,le_add_left->xX,mul_comm->Rv,succ_mul->Rw,pow_le_pow_right->U0,le_succ->U4,one_mul->U6,div_mul_le_self->Vq,min_le_left->aa4,mul_assoc->aev,pow_succ->ahk,zero_max->ahm,lt_or_ge->ahn,max_def->aiW,min_def->aiY
open Ne renaming symm->mM
open Option renaming none->Aq,isSome_map->E9,map_eq_some_iff->Ro,isSome_some->WT,getD_none->ZW,getD_some->Z8,map_some->aa5,some->aiV,map->ame
open Option.some renaming inj->aW
open Or renaming inr->Rx,inl->WU
open PyFlat renaming calls->lL,played->oR,told->ud,row->Mj,rows->U8,call->aiZ
open PyInside renaming call->oQ,within->aa6,lists->adG
open PyProof.Rows renaming callWith_type1->il,envOfC->xV,seqObj->RP,AllBare->Vl,IntsAre->Vm,subscriptTail->aiK,arrOf->al7,subscriptTail_builtinR->am4,itemOrd->am7
open PyProof.Rows.F renaming plain_set_update_loop->Fw,entry_set_update_loop->al2
open PySem renaming wpAny_bind->ae,Addr->af,Value->aj,Shared->ay,sizeLine->az,wpAny_pure->aI,wpAny->bg,Program->bo,mainGlobals->bF,starEach->bL,World->bM,Around->cp,Heap->cu,Stmt->cy,mem_of_lookup->cF,wpAny_setField_rec->cV,bootBuiltins->de,Paired->dh,wpAny_loadPart'->dA,compareOp->d8,rawInt->eQ,keywordEach->eU,wpAny_field->eV,wpAny_callSpecial?_slot->eZ,wpAny_mono->fj,wpAny_call_entry->fz,cellsFrom->fA,backTo->fH,wpAny_truthy_bool->fJ,wpAny_pyIter_list->fK,attributeBase->fU,codeAny_builtin->fX,sysModules->gb,wpAny_holding->gz,DictEntry->gR,wpAny_newObj_type->ir,backToKw->iH,wpAny_Call_Name_kw->i9,wpAny_seqItems->jb,FuncData->je,pyNext->js,NameKind->jB,wpAny_typeNameOfWhole_itemiter->j6,wpAny_typeNameOfWhole_keyiter->kq,codeAny_mono->kH,wpAny_passesOwn->kS,wpAny_attempt->lj,wpAny_dictEntries->lU,cLine->lW,wpAny_letGo->mC,compEnvC->mF,wpAny_typeNameOf_itemiter->mV,wpAny_typeNameOf_keyiter->nQ,plainId_quiet->nR,wpAny_dictEpoch->nY,tupleKind_room_in1->oa,wpAny_nextOf_list_item->pH,callWith->pI,IsItemIter->qG,behindInMarks->qM,codeAny->qO,sliceBounds->rQ,pushCells->uC,recursionLimit->vX,wpAny_tryCatch->vY,assignEach->vZ,foldedSetIterable->xU,IsZip->x3,wpAny_isInstance->Ad,wpAny_pyIter_zip->Ae,swapsWith->Ai,binaryOp->Aj,bindArgs->Am,wpAny_isOneOf_itemiter->Bl,typeIs_str->Bs,call_meets->Bt,Keyword->Bu,wpAny_execs_nil->B0,letOwnedTupleGo->B1,pushCells_keeps->B2,wpAny_updateSeq->B3,codeAny_call_builtin->E3,wpAny_fieldsOf->E4,firstArgMember->E5,isSubtype_stop->E6,IsEnum->Fh,tupleKind->Fx,getMethod->Fy,updateSeq->FA,scanBound->FC,wpAny_standAt->Ht,wpAny_onRaise->Hu,builtinsNs->Jw,wpAny_call->Jx,wpAny_Call_method->Mb,setField->Me,valueAt->Mi,checkBuiltinCall->Ot,Arguments->Ow,pyIter->OC,Params->OD,sizeLine_eq->PX,richCompare->PY,wpAny_of_eq->PZ,Within->Rt,getItem->RQ,notedBy->RT,wpAny_setField->UU,wpAny_newTuple->UZ,closureFor->U2,argsOk->U3,atKey->U5,wpAny_letOwnedTupleGo_zip->Vk,evalArgs_none->Vp,checkTypeCall->WN,IsItemIterOut->WO,wpAny_newList->WQ,Model->XH,CmpOp->XI,bindL->XJ,bindC->XM,richCompare_meets_room->ZR,standAt->aad,callerA->aae,Result->aaf,wpAny_isTrue_Compare1->aaS,wpAny_notOrdered_dict->aaT,wpAny_isOneOf_keyiter->aaU,wpAny_nextOf_list_end->aaW,weight_type_call_type->aaX,GenState->adB,intText?->adC,Meets->adI,wpAny_Constant_int->aha,wpAny_Name->ahf,typeLookup->ahh,wpAny_rule->ahi,wpAny_assign_Name->aiL,slot_list_getitem->aiM,wpAny_pyIter_slot->aiN,wpAny_pyIter_enum->aiS,wpAny_execs_cons->al3,wpAny_Dict_empty->al4,strValues->al8,IsEnumOut->al9,seqItems?->ama,size_of_entries->am5,codeAny_of_tree->am6
open PySem.Around renaming under_plainId->gf,under->ZS,frames_deeper->adx,under_plain->ahd
open PySem.Builtin.Builtins renaming bindParams->RM
open PySem.Builtin.Dict renaming showsAll->qx
open PySem.Builtin.Dict_items renaming ownsTuple->iA,ownedTupleFields->Hr,ownedTupleIsFree->Hs,pairFromOwner->L8
open PySem.Builtin.List renaming listTooLong->yZ
open PySem.Builtin.SmallTypes renaming ownedTupleIsFree->eB,ownedTupleHandOut->iF,nextOf->mU
open PySem.Builtin.Str renaming strKind->fF,occurrences->Ac,strKind->Ms,partsBetween->WL
open PySem.Calls renaming callWith_builtin->Bj,evalArgs_plain->E2,spliced_cons->Jt,spliced_nil->Ma,Name_function_global->UT
open PySem.Challenge renaming rw_blindrelease_s01_answers->wG
open PySem.Code renaming quiet_builtin->Jv,isFrame->ZT
open PySem.F renaming plainAttrs_list->bP,slot_list_append->cQ,type_list_append->cR,plain_min_loop->gg,slot_dict_itemiterator_next->ie,slot_dict_keyiterator_next->iz,slot_list_extend->mz,type_list_extend->mB,called_set->mO,slot_enumerate_next->qy,entry_min_loop->xm,slot_dict_get->y6,slot_str_split->Af,slot_zip_next->B4,args_str_split_2->Ju,entry_str_split->Mc,args_dict_itemiterator_next_1->Mp,args_dict_keyiterator_next_1->Om,entry_dict_itemiterator_next->Oo,entry_dict_keyiterator_next->PM,args_dict_get_2->PN,slot_list_count->PV,entry_dict_get->Rq,args_enumerate_next_1->Xz,slot_dict_items_iter->ZP,entry_enumerate_next->ZQ,slot_dict_values->ahe,args_zip_next_1->aiO,plainAttrs_dict->aiP,slot_dict_items->aiQ,entry_type_call->aiR,slot_dict_iter->al5,entry_zip_next->al6
open PySem.Heap renaming get?_push_of_some->ai,get?_push_size->aT,lt_size->bc,size_push->cH,SameBut->eE,get?_update_other->Bk,IsList->P0,get?_update_self->aaV,ExtBut->adA
open PySem.Heap.SameBut renaming update->t9
open PySem.NameKind renaming free->jH,cell->WM
open PySem.Obj renaming mapSeq->Jy,data_mapFields->ahc
open PySem.Paired renaming length->qL
open PySem.PassesOwn renaming never->dz
open PySem.PyData renaming int->iB,depthAll->Rr,eqvAll->WR,eqv->ahj,canLayAll0->aiT
open PySem.SeqAt renaming EqAt->ahg
open PySem.SeqAt.EqAt renaming int_int->vW,int_str->ag8,str_int->ag9,str_str->ahb
open PySem.Shared renaming TypeIs->Hv,heap->P1
open PySem.Str renaming ofString->aR
open PySem.Txt renaming split->qH,join->wb
open PySem.Value renaming ref->bu,none->gF,bool->kI,type->mE,int->Ou,str->Ov,notImplemented->ady,float->adz
open PySem.W renaming Frag->ah,mg_none_of->cq,findIn->fE,kia_one->fG,emptyDict->gi,instObj->iY,keepIn->kW,fnOf->qI,callWith_K->rO,plainGet->v9,lookIn->Ak,kitOne->Al,plainGet_of->Bo,methodObj->E7,hasDictIn->E8,length_le_weightAllW->Js,takerIn->JA,codeIn->Md,mroIn->Ox,cellsFrom_some->Rn,isFn->Ru,methodCall_KW->RN,callWith_K0->Vn,plainOver->XA,specialIn->XB,kitx_list->XC,kitx_dict->XD,handedIn->ZV,WRecords->ZZ,makesIn->aaY,takesIn->aaZ,tabIn->aeA
open PySem.Walks renaming list->Jz
open PyVbslai renaming answers->jA,bound->Mh,shape->adH
open Sum renaming inl->cC,inr->gZ
open Sum.inl renaming inj->Ao
open Sum.inr renaming inj->aiU
open ToString renaming toString->lV
open True renaming intro->jh
open Vbslai renaming shownRow->aE,Bytes->aG,Column->bw,nats->bz,onForm->bG,step->bT,releaseAt->cA,within->cE,text->c9,partsOf->df,columnLines->dv,isName->dN,Form->dY,isDigit->eJ,Release->fN,lessCells->gk,partsOf->gq,shownRelease->iM,isSmall->iN,costOf->iO,lineOf->jM,WORDS->jP,shownCell->j7,countsIn->j8,wants->lK,releaseRow->mH,formFrom->mK,askedOk->nX,cellOk->oP,secretOk->pO,levelsOk->pP,printForm->qN,cellsOk->rR,readForm->rS,plan->uc,lessB->uz,putClass->wH,putClass->xY,formFrom->xZ,secretsOf->Av,bytesRow->Aw,above->Ff,WORDS->Fg,plans->Fi,levelsOk->Fz,classesOf->GB,cellsOk->Mv,Call->U7,secretOk->Vr,alikeIn->aa7,tooFew->aa8,linesOf->adE,wordsOf->adF,height->aez,Plan->aeB,askedOf->amb,classOf->amc
open VbslaiNeutral renaming step->fM,callOf->U1
namespace L2
open PySem PySem.Spec PyProof.Rows
abbrev Key:=Sum Int Str
def xp:Key->aj->Bool
 |.inl k,v=>Value.isInt k v
 |.inr x,v=>Value.isStrOf x v
def aeC(w:bM):Key->Int
 |.inl k=>hashInt k
 |.inr x=>hashStr w x
theorem gS:∀{k:Key}{v:aj},xp k v=true->(∃i t,k=cC i/\v=Ou i t)∨(∃x t,k=gZ x/\v=Ov x t)
 |.inl i,v,h=>by obtain⟨t,e⟩:=Value.isInt_shape (k:=i) (v:=v) h;exact .inl ⟨i,t,rfl,e⟩
 |.inr x,v,h=>by obtain⟨t,e⟩:=Value.isStrOf_shape (x:=x) (v:=v) h;exact .inr ⟨x,t,rfl,e⟩
theorem P2(i:Int)(t:Tok):xp (.inl i) (.int i t)=true:=by simp[xp,Value.isInt]
theorem P4(x:Str)(t:Tok):xp (.inr x) (.str x t)=true:=by simp[xp,Value.isStrOf]
theorem XN(a b:Int):decide ((cC a:Key)=cC b)=(a==b):=by
 by_cases e:a=b
 ·subst e;simp
 ·have h:¬(cC a:Key)=cC b:=λq=>e (Ao q);rw[decide_eq_false h];exact(beq_eq_false_iff_ne.mpr e).symm
theorem XO(a b:Str):decide ((gZ a:Key)=gZ b)=decide (a=b):=by
 by_cases e:a=b
 ·subst e;simp
 ·have h:¬(gZ a:Key)=gZ b:=λq=>e (aiU q);rw[decide_eq_false h,decide_eq_false e]
theorem XQ(a:Int)(b:Str):decide ((cC a:Key)=gZ b)=false:=decide_eq_false (λq=>nomatch q)
theorem XR(a:Str)(b:Int):decide ((gZ a:Key)=cC b)=false:=decide_eq_false (λq=>nomatch q)
def gc(prog:bo)(w:bM):PySem.KeyKind prog w Key where
 is:=xp
 hash:=aeC w
 inj:=λv a b ha hb=>by
  rcases gS ha with⟨i,t,rfl,rfl⟩|⟨x,t,rfl,rfl⟩
  ·rcases gS hb with⟨j,u,rfl,e⟩|⟨y,u,rfl,e⟩
   ·injection e with e1 _;rw[e1]
   ·exact nomatch e
  ·rcases gS hb with⟨j,u,rfl,e⟩|⟨y,u,rfl,e⟩
   ·exact nomatch e
   ·injection e with e1 _;rw[e1]
 byValue:=λk v h=>by rcases gS h with⟨i,t,rfl,rfl⟩|⟨x,t,rfl,rfl⟩<;>rfl
 pyHash:=λhv h=>by
  rcases gS hv with⟨i,t,rfl,rfl⟩|⟨x,t,rfl,rfl⟩
  ·exact wpAny_pyHash_int h
  ·exact wpAny_pyHash_str h
 eqBool:=λhu hv h=>by
  rcases gS hu with⟨i,t,rfl,rfl⟩|⟨x,t,rfl,rfl⟩
  ·rcases gS hv with⟨j,u,rfl,rfl⟩|⟨y,u,rfl,rfl⟩
   ·rw[XN] at h;exact wpAny_eqBool_int h
   ·rw[XQ] at h;exact ag8 i t y u _ _ _ _ h
  ·rcases gS hv with⟨j,u,rfl,rfl⟩|⟨y,u,rfl,rfl⟩
   ·rw[XR] at h;exact ag9 x t j u _ _ _ _ h
   ·rw[XO] at h;exact wpAny_eqBool_str h
 «strs» :=λk x t v h=>by
  rcases gS h with⟨i,u,rfl,e⟩|⟨y,u,rfl,e⟩
  ·exact nomatch e
  ·injection e with e1 _
   subst e1;cases v<;>rfl
theorem JG(prog:bo)(w:bM)(i:Int)(t:Tok):(gc prog w).is (.inl i) (.int i t)=true:=P2 i t
theorem JH(prog:bo)(w:bM)(x:Str)(t:Tok):(gc prog w).is (.inr x) (.str x t)=true:=P4 x t
end L2
namespace L2
open PySem PySem.Spec PyProof.Rows
inductive V where
 |gT|bl (b:Bool)|int (i:Int)|str (x:Str)|Ml (b:Array UInt8)|XS (b:UInt64)|ref (a:af)|ty (n:String)
 deriving DecidableEq
def RelV:V->aj->Prop
 |.gT,u=>u=gF
 |.bl b,u=>u=kI b
 |.int i,u=>∃t,u=Ou i t
 |.str x,u=>∃t,u=Ov x t
 |.Ml b,u=>∃t,u=Value.bytes b t
 |.XS b,u=>∃t,u=adz b t
 |.ref a,u=>u=bu a
 |.ty n,u=>u=mE n
abbrev Vals:List V->List aj->Prop:=dh RelV
theorem Vals.length{xs:List V}{us:List aj}(r:Vals xs us):xs.length=us.length:=qL r
theorem Vals.get:∀{xs:List V}{us:List aj}{i:Nat}{x:V},Vals xs us->xs[i]? =some x->∃u,us[i]? =some u/\RelV x u
 |_,_,_,_,.nil,e=>by simp at e
 |_,_,0,_,.cons r _,e=>by simp at e;subst e;exact⟨_,rfl,r⟩
 |_,_,i+1,x,.cons _ t,e=>by obtain⟨u,h1,h2⟩:=Vals.get (i:=i) (x:=x) t (by simpa using e);exact⟨u,by simpa using h1,h2⟩
theorem Vals.append:∀{xs ys:List V}{us ws:List aj},Vals xs us->Vals ys ws->Vals (xs++ys) (us++ws)
 |_,_,_,_,.nil,s=>s
 |_,_,_,_,.cons r t,s=>.cons r (Vals.append t s)
theorem Vals.take:∀{xs:List V}{us:List aj}(n:Nat),Vals xs us->Vals (xs.take n) (us.take n)
 |_,_,0,_=>.nil
 |_,_,_+1,.nil=>.nil
 |_,_,n+1,.cons r t=>.cons r (Vals.take n t)
theorem Vals.drop:∀{xs:List V}{us:List aj}(n:Nat),Vals xs us->Vals (xs.drop n) (us.drop n)
 |_,_,0,r=>r
 |_,_,_+1,.nil=>.nil
 |_,_,n+1,.cons _ t=>Vals.drop n t
def ue:Option V->Option aj->Prop
 |some v,some u=>RelV v u
 |none,none=>True
 |_,_=>False
def KV{κ:Type}:List (κ×V)->List (κ×aj)->Prop:=dh λ(p:κ×V)(q:κ×aj)=>p.1=q.1/\RelV p.2 q.2
def kV:Key->V
 |.inl i=>.int i
 |.inr x=>.str x
inductive HO where
 |lst (xs:List V)
 |tup (xs:List V)
 |dK (kvs:List (Key×V))|dT (kvs:List (List Key×V))
 |set (S:Int->Bool) (n:Nat)
 |ins (C dx:af) (fs:List (Str×V))
 |own (x:af)
 |xd (fs:List (Str×V))
 |met (f x:af)
 |rng (lo hi:Int)
 |uD (o:Obj) (u:HO)
 |uA (ps:Array aj)
 |ext (φ:cu->Prop)
abbrev Hp:=af->Option HO
def upd(H:Hp)(a:af)(o:HO):Hp:=λb=>if b=a then some o else H b
theorem ag{H:Hp}{a:af}{o:HO}:upd H a o a=some o:=by unfold upd;rw[if_pos rfl]
theorem ax{H:Hp}{a b:af}{o:HO}(h:b≠a):upd H a o b=H b:=by unfold upd;rw[if_neg h]
theorem OE{H:Hp}{a:af}{o u:HO}:upd (upd H a o) a u=upd H a u:=by funext b;unfold upd;split<;>rfl
theorem gA{H:Hp}{a b:af}{o u:HO}(h:H a=some o)(h':H b=some u)(d:o≠u):a≠b:=by intro e;subst e;rw[h] at h';exact d (aW h')
theorem aQ{H:Hp}{a b:af}{o:HO}(h:H a=some o)(h':H b=none):a≠b:=by
 intro e;subst e;rw[h] at h';cases h'
section
variable(P:bo)(w:bM)
def fB(H:Hp)(h:cu)(a:af):HO->Prop
 |.lst xs=>xs.length<=az/\∃(its:List aj)(n:Nat),Vals xs its/\h.get? a=some {cls:=.type "list",data:=.seq its.toArray n}
 |.tup xs=>xs.length<=az/\∃its:List aj,Vals xs its/\IsTup h a its.toArray
 |.dK kvs=>kvs.length<=az/\(a==gb)=false/\∃vs,KV kvs vs/\h.DictOf (gc P w) a vs
 |.dT kvs=>kvs.length<=az/\(a==gb)=false/\∃xs:List (List Key×af×aj),
   dh (λ(p:List Key×V)(q:List Key×af×aj)=>p.1=q.1/\H q.2.1=some (.tup (p.1.map kV))/\RelV p.2 q.2.2) kvs xs/\
   ∃o es ep,h.get? a=some o/\o.ExactDict/\o.data=.dict es ep/\es.toList=xs.map (entryOfKey (Fx (gc P w)))/\(xs.map (·.1)).Nodup
 |.set S n=>h.SetOf (intKind P w) a S n
 |.ins C dx fs=>H dx=some (.own a)/\fs.length<=1000/\dx≠a/\h.get? a=some (iY C dx)/\
   ∃mA,h.Ns1 dx mA/\(∀f,ue (fs.lookup f) (mA f))/\Rt mA (fs.map (·.1))
 |.own _=>∃o,h.get? a=some o
 |.xd fs=>∃mA,h.Ns1 a mA/\∀f,ue (fs.lookup f) (mA f)
 |.rng lo hi=>∃t u v,h.get? a=some {cls:=.type "range",data:=.fields #[.int lo t,.int hi u,.int 1 v]}
 |.uD o u=>h.get? a=some o/\fB H h a u
 |.uA ps=>h.get? a=some {cls:=.none,data:=.fields ps}
 |.met f x=>h.get? a=some (E7 (.ref f) (.ref x))
 |.ext φ=>φ h/\(∃o,h.get? a=some o)/\∀h1 h2:cu,φ h1->(∀o,h1.get? a=some o->h2.get? a=some o)->φ h2
def uf(H:Hp)(h:cu):Prop:=∀a o,H a=some o->fB P w H h a o
end
section
variable{P:bo}{w:bM}{H H':Hp}{h h':cu}{a:af}{o:HO}
theorem fB.lt(x:fB P w H h a o):a<h.objs.size:=by
 cases o with
 |lst xs=>obtain⟨_,_,_,_,e⟩:=x;exact bc e
 |tup xs=>obtain⟨_,_,_,p⟩:=x;exact p.lt
 |dK kvs=>obtain⟨_,_,_,_,o,_,_,e,_⟩:=x;exact bc e
 |dT kvs=>obtain⟨_,_,_,_,o,_,_,e,_⟩:=x;exact bc e
 |set S n=>obtain⟨o,_,_,_,e,_⟩:=x;exact bc e
 |ins C dx fs=>obtain⟨_,_,_,e,_⟩:=x;exact bc e
 |own y=>obtain⟨_,e⟩:=x;exact bc e
 |xd fs=>obtain⟨_,⟨_,_,_,e,_⟩,_⟩:=x;exact bc e
 |rng lo hi=>obtain⟨_,_,_,e⟩:=x;exact bc e
 |uD ob u=>obtain⟨e,_⟩:=x;exact bc e
 |uA ps=>exact bc (show h.get? a=some _ from x)
 |met f y=>exact bc (show h.get? a=some _ from x)
 |ext φ=>obtain⟨_,⟨_,e⟩,_⟩:=x;exact bc e
theorem Paired.XT{α β:Type}{F G:α->β->Prop}:∀{l₁:List α}{l₂:List β},dh F l₁ l₂->(∀a b,F a b->G a b)->dh G l₁ l₂
 |_,_,.nil,_=>.nil
 |_,_,.cons r t,f=>.cons (f _ _ r) (Paired.XT t f)
theorem fB.FD(x:fB P w H h a o)(k:∀b u,(b=a∨H b=some (.own a))->h.get? b=some u->h'.get? b=some u)(ho:∀b,H b=some (.own a)->H' b=some (.own a))(ht:∀b xs,H b=some (.tup xs)->H' b=some (.tup xs)):fB P w H' h' a o:=by
 induction o with
 |lst xs=>obtain⟨z,its,n,r,e⟩:=x;exact⟨z,its,n,r,k _ _ (.inl rfl) e⟩
 |tup xs=>obtain⟨z,its,r,ob,e,c⟩:=x;exact⟨z,its,r,ob,k _ _ (.inl rfl) e,c⟩
 |dK kvs=>obtain⟨z,y,vs,r,ob,es,ep,e,c⟩:=x;exact⟨z,y,vs,r,ob,es,ep,k _ _ (.inl rfl) e,c⟩
 |dT kvs=>obtain⟨z,y,xs,r,ob,es,ep,e,c⟩:=x;exact⟨z,y,xs,Paired.XT r λp q z=>⟨z.1,ht _ _ z.2.1,z.2.2⟩,ob,es,ep,k _ _ (.inl rfl) e,c⟩
 |set S n=>obtain⟨ob,es,ep,t,e,c⟩:=x;exact⟨ob,es,ep,t,k _ _ (.inl rfl) e,c⟩
 |ins C dx fs=>obtain⟨d,z,ne,e,mA,⟨od,es,ep,e2,c⟩,r⟩:=x;exact⟨ho _ d,z,ne,k _ _ (.inl rfl) e,mA,⟨od,es,ep,k _ _ (.inr d) e2,c⟩,r⟩
 |own y=>obtain⟨ob,e⟩:=x;exact⟨ob,k _ _ (.inl rfl) e⟩
 |xd fs=>obtain⟨mA,⟨od,es,ep,e,c⟩,r⟩:=x;exact⟨mA,⟨od,es,ep,k _ _ (.inl rfl) e,c⟩,r⟩
 |rng lo hi=>obtain⟨t,u,v,e⟩:=x;exact⟨t,u,v,k _ _ (.inl rfl) e⟩
 |uD ob u ih=>obtain⟨e,q⟩:=x;exact⟨k _ _ (.inl rfl) e,ih q⟩
 |uA ps=>have e:h.get? a=some {cls:=.none,data:=.fields ps}:=x;show h'.get? a=some {cls:=.none,data:=.fields ps};exact k a _ (.inl rfl) e
 |met f y=>have e:h.get? a=some (E7 (.ref f) (.ref y)):=x;show h'.get? a=some (E7 (.ref f) (.ref y));exact k a _ (.inl rfl) e
 |ext φ=>obtain⟨p,⟨o,e⟩,st⟩:=x;exact⟨st _ _ p λo q=>k _ _ (.inl rfl) q,⟨o,k _ _ (.inl rfl) e⟩,st⟩
theorem uf.lt(x:uf P w H h)(e:H a=some o):a<h.objs.size:=(x a o e).lt
theorem uf.fresh(x:uf P w H h)(e:h.objs.size<=a):H a=none:=by
 cases q:H a with
 |none=>rfl
 |some u=>exact absurd (bJ (x.lt q) e) (gO _)
theorem uf.kept(x:uf P w H h)(k:∀b u,h.get? b=some u->h'.get? b=some u):uf P w H h':=λa o e=>(x a o e).FD (λb u _ q=>k b u q) (λ_ q=>q) λ_ _ q=>q
theorem uf.laid(x:uf P w H h)(k:∀b u,h.get? b=some u->h'.get? b=some u)(hp:h.objs.size<=a)(new:fB P w (upd H a o) h' a o):uf P w (upd H a o) h':=λb u e=>by
 have hn:=x.fresh hp;by_cases hb:b=a
 ·subst hb;rw[ag] at e;cases e;exact new
 ·rw[ax hb] at e;exact(x b u e).FD (λc v _ q=>k c v q) (λc q=>by rw[ax (aQ q hn)];exact q) λc xs q=>by rw[ax (aQ q hn)];exact q
end
def Rd(H:Hp)(a:af)(u:HO):Prop:=H a=some u∨∃o,H a=some (.uD o u)
theorem Rd.ok{P:bo}{w:bM}{H:Hp}{h:cu}{a:af}{u:HO}(r:Rd H a u)(x:uf P w H h):fB P w H h a u:=by
 rcases r with r|⟨o,r⟩
 ·exact x a u r
 ·obtain⟨_,q⟩:=x a _ r;exact q
def XU:Option HO->Prop
 |some (.lst _)=>True
 |some (.dK _)=>True
 |some (.dT _)=>True
 |some (.set _ _)=>True
 |some (.ins _ _ _)=>True
 |some (.ext _)=>True
 |_=>False
section
variable{P:bo}{w:bM}{H:Hp}{h h':cu}{x e:af}{o':HO}
theorem uf.write(ok:uf P w H h)(mu:XU (H x))(he:e=x∨H e=some (.own x))(k:∀b u,b≠e->h.get? b=some u->h'.get? b=some u)(heo:∃u,h'.get? e=some u)(new:fB P w (upd H x o') h' x o'):uf P w (upd H x o') h':=λb u q=>by
 have aa9:∀c y,H c=some (.own y)->c≠x:=λc y r z=>by subst z;rw[r] at mu;exact mu
 have aeE:∀c xs,H c=some (.tup xs)->c≠x:=λc xs r z=>by subst z;rw[r] at mu;exact mu
 by_cases hb:b=x
 ·subst hb;rw[ag] at q;cases q;exact new
 ·rw[ax hb] at q;by_cases RU:b=e
  ·have q':H b=some (.own x):=by
    rcases he with z|z
    ·exact absurd (RU.trans z) hb
    ·rw[RU];exact z
   rw[q] at q';cases q';obtain⟨v,hv⟩:=heo;exact⟨v,by rw[RU];exact hv⟩
  ·refine(ok b u q).FD (λc v hc r=>k c v ?_ r) (λc r=>by rw[ax (aa9 c b r)];exact r) λc xs r=>by rw[ax (aeE c xs r)];exact r
   rcases hc with rfl|hc
   ·exact RU
   ·rintro rfl;rcases he with z|z
    ·exact aa9 c b hc z
    ·rw[hc] at z;cases z;exact hb rfl
end
structure Un(fs ex:List af)(H H':Hp)(h h':cu):Prop where
 keep:∀b o,h.get? b=some o->H b=none->b∉fs->b∉ex->h'.get? b=some o
 slot:∀b o,h.get? b=some o->H b=none->b∈fs->b∉ex->∃sl,h'.get? b=some {o with slots:=sl}
 free:∀b o,h.get? b=some o->H b=none->b∉ex->H' b=none
 there:∀b o,h.get? b=some o->b∉ex->∃o',h'.get? b=some o'
 JI:∀b xs,H b=some (.tup xs)->H' b=some (.tup xs)
 Hw:∀b o u,H b=some (.uD o u)->H' b=some (.uD o u)
 Hx:∀b ps,H b=some (.uA ps)->∃more,H' b=some (.uA (ps++more))
section
variable{fs fs' ex ex':List af}{H H1 H2:Hp}{h h1 h2 h':cu}{a x e:af}{o:HO}
theorem Un.any(u:Un fs ex H H1 h h1){b:af}{ob:Obj}(q:h.get? b=some ob)(n:H b=none)(hx:b∉ex):∃sl,h1.get? b=some {ob with slots:=sl}:=by
 by_cases hb:b∈fs
 ·exact u.slot b ob q n hb hx
 ·exact⟨ob.slots,u.keep b ob q n hb hx⟩
theorem Un.kept(k:∀b u,h.get? b=some u->h'.get? b=some u):Un fs ex H H h h':=⟨λb ob q _ _ _=>k b ob q,λb ob q _ _ _=>⟨ob.slots,k b ob q⟩,λ_ _ _ n _=>n,λb ob q _=>⟨ob,k b ob q⟩,λ_ _ q=>q,λ_ _ _ q=>q,λ_ ps q=>⟨#[],by rw[q];simp⟩⟩
theorem Un.refl:Un fs ex H H h h:=Un.kept λ_ _ q=>q
theorem Un.laid(k:∀b u,h.get? b=some u->h'.get? b=some u)(hp:h.objs.size<=a)(hn:H a=none):Un fs ex H (upd H a o) h h' where
 keep:=λb u q _ _ _=>k b u q
 slot:=λb u q _ _ _=>⟨u.slots,k b u q⟩
 free:=λb u q n _=>by rw[ax (bR (bJ (bc q) hp))];exact n
 there:=λb u q _=>⟨u,k b u q⟩
 JI:=λb xs q=>by rw[ax (aQ q hn)];exact q
 Hw:=λb u xs q=>by rw[ax (aQ q hn)];exact q
 Hx:=λb ps q=>⟨#[],by rw[ax (aQ q hn),q];simp⟩
theorem Un.write(mu:XU (H x))(he:e=x∨H e=some (.own x))(k:∀b u,b≠e->h.get? b=some u->h'.get? b=some u)(heo:∃u,h'.get? e=some u):Un fs ex H (upd H x o) h h':=by
 have hx:∀b,H b=none->b≠x:=λb n z=>by subst z;rw[n] at mu;exact mu
 have hb:∀b,H b=none->b≠e:=λb n z=>by
  subst z;rcases he with r|r
  ·exact hx b n r
  ·rw[n] at r;cases r
 have hm:∀b u,H b=some u->¬XU (some u)->b≠x:=λb u q nm z=>by subst z;rw[q] at mu;exact nm mu
 refine⟨λb u q n _ _=>k b u (hb b n) q,λb u q n _ _=>⟨u.slots,k b u (hb b n) q⟩,λb u q n _=>by rw[ax (hx b n)];exact n,λb u q _=>?_,
  λb xs q=>by rw[ax (hm b _ q λz=>z)];exact q,λb u xs q=>by rw[ax (hm b _ q λz=>z)];exact q,λb ps q=>⟨#[],by rw[ax (hm b _ q λz=>z),q];simp⟩⟩
 by_cases RU:b=e
 ·subst RU;exact heo
 ·exact⟨u,k b u RU q⟩
end
def trk(h:cu)(H:Hp):List af:=(bY h.objs.size).filter λa=>(H a).isSome
def FE(h:cu)(H:Hp):cu:=PySem.W.hideAll h (trk h H)
theorem P5(h:cu)(H:Hp):(FE h H).objs.size=h.objs.size:=PySem.W.hideAll_size _ _
theorem RV{h:cu}{H:Hp}{b:af}{o:Obj}(e:h.get? b=some o)(n:H b=none):(FE h H).get? b=some o:=PySem.W.hideAll_get _ e λhm=>by have q:(H b).isSome=true:=(bE.mp hm).2;rw[n] at q;simp at q
theorem Vs{h:cu}{H:Hp}{b:af}{o:Obj}(e:(FE h H).get? b=some o):h.get? b=some o/\H b=none:=by
 have e':h.get? b=some o:=PySem.W.of_hideAll (trk h H) e;refine⟨e',?_⟩
 cases q:H b with
 |none=>rfl
 |some x=>
  have hm:b∈trk h H:=bE.mpr ⟨kU.mpr (bc e'),by simp[q]⟩;have z:(FE h H).get? b=none:=PySem.W.hideAll_none (trk h H) hm;rw[z] at e;cases e
end L2
namespace L2
open PySem PySem.Spec PyProof.Rows
structure Mod(K:ah)(mg:Str->Option aj)(base:cu):Prop where
 kin:K.In base
 glob:base.Ns bF mg
 blt:∃mb,base.Ns Jw mb/\∀x:Str,x≠"__name__"->mb x=de x
 nolimit:base.NoLimit
structure Cx where
 prog:bo
 w:bM
 K:ah
 mg:Str->Option aj
 base:cu
 A:cp
 N:List Str
 FF:ay
 H_0:Hp
 env:Env
 outer:List Env
 stack:List Env
 ex:List af
 fn:Str->Bool
 calm:Bool
 pn:List (af×Obj)
 xe:aj->ay->Prop
def RW(l:List Env):List af:=l.filterMap (·.frame)
abbrev Cx.fs(X:Cx):List af:=RW X.outer
def Vis(sc:Scope)(x:Str):Prop:=sc.names.lookup x=some .local∨sc.names.lookup x=some .cell∨sc.names.lookup x=some .free
def Loc(sc:Scope)(x:Str):Prop:=sc.names.lookup x=some .local∨sc.names.lookup x=some .cell
def Look(env:Env)(h:cu)(m:Str->Option aj)(x:Str)(u:aj):Prop:=(env.kindOf x=some .local/\m x=some u)∨((env.kindOf x=some .cell∨env.kindOf x=some .free)/\∃c,env.cells.lookup x=some c/\h.IsCell c (some u))
structure Cx.Ok(X:Cx):Prop where
 mod:Mod X.K X.mg X.base
 kind:X.env.scope.kind=.function
 glob:X.env.globals=bF
 blt:X.env.builtins=Jw
 above:X.FF.heap.objs.size<=X.env.locals
 inj:∀x y c,X.env.cells.lookup x=some c->X.env.cells.lookup y=some c->x=y
 has:∀x,(X.env.kindOf x=some .cell∨X.env.kindOf x=some .free)->∃c,X.env.cells.lookup x=some c
 cab:∀x c,X.fn x=true->X.env.cells.lookup x=some c->X.FF.heap.objs.size<=c
 hd:X.calm=true->X.A.handled=none
 frames:X.A.frames=some X.stack
 stk:X.stack=X.outer∨(X.stack=X.env::X.outer/\X.env.frame=some X.env.locals)
 exf:∀b∈X.ex,b≠X.env.locals/\∀x c,X.env.cells.lookup x=some c->c≠b
 bs:∀b o,X.base.get? b=some o->X.FF.heap.get? b=some o/\X.H_0 b=none
 U9:X.base.objs.size<=X.FF.heap.objs.size
 RX:∀b o,X.base.get? b=some o->b∉X.ex
 RY:∀b∈X.ex,b∉X.fs
 B6:X.FF.heap.FunFrames X.base X.outer
 XW:∀b∈X.fs,X.H_0 b=none
structure Inv(X:Cx)(pins:List (af×Obj))(σ:List (Option V))(H:Hp)(s:ay):Prop where
 ok:X.Ok
 os:s.os=X.FF.os
 bare:Vl s.gens
 base:Un X.fs X.ex X.H_0 H X.FF.heap s.heap
 loc:∃m,s.heap.Ns X.env.locals m/\∀(i:Nat)(x:Str)(v:V),X.N[i]? =some x->σ[i]? =some (some v)->Vis X.env.scope x->∃u,RelV v u/\Look X.env s.heap m x u
 cell:∀x c,X.env.cells.lookup x=some c->∃v,s.heap.IsCell c v
 free:H X.env.locals=none
 tj:∀x c,X.env.cells.lookup x=some c->H c=none
 pin:∀p∈X.pn++pins,s.heap.get? p.1=some p.2/\H p.1=none/\p.1≠X.env.locals/\p.1∉X.fs/\∀v,p.2.data≠.cell v
 dI:uf X.prog X.w H s.heap
 len:σ.length=X.N.length
section
variable{X:Cx}{pins:List (af×Obj)}{σ:List (Option V)}{H H':Hp}{s:ay}{h':cu}
theorem Cx.Ok.aeF(ok:X.Ok){b:af}{o:Obj}(e:X.base.get? b=some o):b∉X.fs:=λhb=>by
 have:=(ok.B6.mem hb).1;rw[e] at this;cases this
theorem Inv.bs(I:Inv X pins σ H s):∀b o,X.base.get? b=some o->s.heap.get? b=some o/\H b=none:=λb o e=>⟨I.base.keep b o (I.ok.bs b o e).1 (I.ok.bs b o e).2 (I.ok.aeF e) (I.ok.RX b o e),I.base.free b o (I.ok.bs b o e).1 (I.ok.bs b o e).2 (I.ok.RX b o e)⟩
theorem Inv.bk(I:Inv X pins σ H s):∀b o,X.base.get? b=some o->s.heap.get? b=some o:=λb o e=>(I.bs b o e).1
theorem Inv.mod(I:Inv X pins σ H s):Mod X.K X.mg X.base:=I.ok.mod
theorem Inv.Ax(I:Inv X pins σ H s):X.K.In s.heap:=I.ok.mod.kin.keeps I.bk
theorem Inv.nolimit(I:Inv X pins σ H s):s.heap.NoLimit:=I.ok.mod.nolimit.keeps I.bk
theorem Inv.lt(I:Inv X pins σ H s):X.env.locals<s.heap.objs.size:=let⟨_,hn,_⟩:=I.loc;hn.lt
theorem Inv.sz(I:Inv X pins σ H s):X.FF.heap.objs.size<=s.heap.objs.size:=ak I.ok.above (cT I.lt)
theorem Inv.abb(I:Inv X pins σ H s){a:af}(h:s.heap.objs.size<=a):a∉X.fs:=λhb=>by obtain⟨_,o,ho,_⟩:=I.ok.B6.mem hb;exact absurd (bJ (bc ho) (ak I.sz h)) (gO _)
theorem Inv.XX(I:Inv X pins σ H s):∀x c,X.env.cells.lookup x=some c->c≠X.env.locals:=λx c e z=>by
 obtain⟨v,o,ho,hd⟩:=I.cell x c e;obtain⟨m,⟨o',es,ep,OF,P6,_⟩,_⟩:=I.loc;rw[z,OF] at ho;cases ho;rw[P6] at hd;cases hd
theorem Inv.B6(I:Inv X pins σ H s):s.heap.FunFrames X.base X.outer:=by
 have all:∀(l:List Env),(∀b∈RW l,b∈X.fs)->X.FF.heap.FunFrames X.base l->s.heap.FunFrames X.base l:=by
  intro l
  induction l with
  |nil=>intro _ _;trivial
  |cons env r ih=>intro hs hl;obtain⟨hk,⟨L,o,hf,hn,ho,hd⟩,hr⟩:=hl;have hL:L∈X.fs:=hs L (by unfold RW;rw[qz,hf];exact c7);obtain⟨sl,e⟩:=I.base.slot L o ho (I.ok.XW L hL) hL λz=>I.ok.RY L z hL;exact⟨hk,⟨L,_,hf,hn,e,hd⟩,ih (λb hb=>hs b (by unfold RW;rw[qz,hf];exact bS _ hb)) hr⟩
 exact all X.outer (λ_ hb=>hb) I.ok.B6
theorem Inv.stack(I:Inv X pins σ H s):s.heap.FunFrames X.base X.stack:=by
 rcases I.ok.stk with e|⟨e,hf⟩
 ·rw[e];exact I.B6
 ·rw[e];obtain⟨m,hn,_⟩:=I.loc;refine .cons (by rw[I.ok.kind];decide) hf hn ?_ I.B6;exact Heap.get?_none_of_le (ak I.ok.U9 I.ok.above)
theorem Inv.Mw(I:Inv X pins σ H s):∀b∈RW X.stack,b∈X.env.locals::X.fs:=λb hb=>by
 rcases I.ok.stk with e|⟨e,hf⟩
 ·rw[e] at hb;exact bS _ hb
 ·rw[e] at hb;unfold RW at hb;rw[qz,hf] at hb;exact hb
theorem Inv.Hy(I:Inv X pins σ H s):∀b∈RW X.stack,H b=none:=λb hb=>by
 rcases aA.mp (I.Mw b hb) with e|hb
 ·rw[e];exact I.free
 ·obtain⟨_,o,ho,_⟩:=I.ok.B6.mem hb;exact I.base.free b o ho (I.ok.XW b hb) λz=>I.ok.RY b z hb
theorem Inv.step{g':Array adB}{t':Nat}{d':Drawn}{ch:List af}(I:Inv X pins σ H s)(As:∀b∈ch,(b∈X.ex∨X.FF.heap.objs.size<=b)/\b≠X.env.locals/\(∀x c,X.env.cells.lookup x=some c->c≠b)/\∀p∈X.pn++pins,p.1≠b)(keep:∀b o,b≠X.env.locals->b∉X.fs->b∉ch->s.heap.get? b=some o->H b=none->h'.get? b=some o)(slot:∀b o,b≠X.env.locals->b∈X.fs->b∉ch->s.heap.get? b=some o->H b=none->∃sl,h'.get? b=some {o with slots:=sl})(free:∀b o,b∉ch->s.heap.get? b=some o->H b=none->H' b=none)(there:∀b o,b∉ch->s.heap.get? b=some o->∃o',h'.get? b=some o')(JI:∀b xs,H b=some (.tup xs)->H' b=some (.tup xs))(Hw:∀b o u,H b=some (.uD o u)->H' b=some (.uD o u))(Hx:∀b ps,H b=some (.uA ps)->∃more,H' b=some (.uA (ps++more)))(ns:∀m,s.heap.Ns X.env.locals m->h'.Ns X.env.locals m)(dI:uf X.prog X.w H' h')(hg:Vl g'):
  Inv X pins σ H' {s with heap:=h',gens:=g',drawn:=d',toks:=t'}:=by
 have neL:∀b o,X.FF.heap.get? b=some o->b≠X.env.locals:=λb o e=>bR (bJ (bc e) I.ok.above);have neC:∀b o,X.FF.heap.get? b=some o->b∉X.ex->b∉ch:=λb o e hx hb=>by
  rcases(As b hb).1 with z|z
  ·exact hx z
  ·exact absurd (bJ (bc e) z) (gO _)
 have cellK:∀x c,X.env.cells.lookup x=some c->∀v,s.heap.IsCell c v->h'.IsCell c v:=λx c e v ⟨o,ho,hd⟩=>by
  have nch:c∉ch:=λz=>(As c z).2.2.1 x c e rfl;by_cases hc:c∈X.fs
  ·obtain⟨sl,q⟩:=slot c o (I.XX x c e) hc nch ho (I.tj x c e);exact⟨_,q,hd⟩
  ·exact⟨o,keep c o (I.XX x c e) hc nch ho (I.tj x c e),hd⟩
 refine⟨I.ok,I.os,hg,⟨λb o e n hb hx=>?_,λb o e n hb hx=>?_,λb o e n hx=>?_,λb o e hx=>?_,λb xs e=>JI b xs (I.base.JI b xs e),λb o xs e=>Hw b o xs (I.base.Hw b o xs e),λb ps e=>?_⟩,?_,λx c e=>?_,?_,λx c e=>?_,λp hp=>?_,dI,I.len⟩
 ·exact keep b o (neL b o e) hb (neC b o e hx) (I.base.keep b o e n hb hx) (I.base.free b o e n hx)
 ·obtain⟨sl,e1⟩:=I.base.slot b o e n hb hx;obtain⟨sl',e2⟩:=slot b _ (neL b o e) hb (neC b o e hx) e1 (I.base.free b o e n hx);exact⟨sl',e2⟩
 ·obtain⟨o',e1⟩:=I.base.there b o e hx;exact free b o' (neC b o e hx) e1 (I.base.free b o e n hx)
 ·obtain⟨o',e1⟩:=I.base.there b o e hx;exact there b o' (neC b o e hx) e1
 ·obtain⟨m1,e1⟩:=I.base.Hx b ps e;obtain⟨m2,e2⟩:=Hx b _ e1;exact⟨m1++m2,by rw[e2,Array.append_assoc]⟩
 ·obtain⟨m,hn,hl⟩:=I.loc;refine⟨m,ns m hn,λi x v e1 e2 e3=>?_⟩;obtain⟨u,r,l⟩:=hl i x v e1 e2 e3;refine⟨u,r,?_⟩;rcases l with l|⟨k,c,e,z⟩
  ·exact .inl l
  ·exact .inr ⟨k,c,e,cellK x c e _ z⟩
 ·obtain⟨v,z⟩:=I.cell x c e;exact⟨v,cellK x c e v z⟩
 ·obtain⟨m,⟨o,_,_,ho,_⟩,_⟩:=I.loc;exact free _ o (λz=>(As _ z).2.1 rfl) ho I.free
 ·obtain⟨v,o,ho,hd⟩:=I.cell x c e;exact free c o (λz=>(As c z).2.2.1 x c e rfl) ho (I.tj x c e)
 ·obtain⟨e,n,ne,nf,d⟩:=I.pin p hp;have nch:p.1∉ch:=λz=>(As p.1 z).2.2.2 p hp rfl;exact⟨keep p.1 p.2 ne nf nch e n,free p.1 p.2 nch e n,ne,nf,d⟩
theorem Inv.un{t':Nat}(I:Inv X pins σ H s)(u:Un X.fs [] H H' s.heap h')(dI:uf X.prog X.w H' h'):Inv X pins σ H' {s with heap:=h',toks:=t'}:=by
 obtain⟨m,⟨o,es,ep,ho,r⟩,_⟩:=id I.loc;obtain⟨sl,hL⟩:=u.any ho I.free (by simp);exact I.step (g':=s.gens) (d':=s.drawn) (ch:=[]) (λ_ z=>nomatch z) (λb o _ hb _ e n=>u.keep b o e n hb (by simp)) (λb o _ hb _ e n=>u.slot b o e n hb (by simp)) (λb o _ e n=>u.free b o e n (by simp)) (λb o _ e=>u.there b o e (by simp)) u.JI u.Hw u.Hx (λm' hm=>by
  obtain⟨o',WV,WW,OF,r'⟩:=hm;rw[ho] at OF;cases OF;exact⟨_,WV,WW,hL,r'⟩) dI I.bare
theorem Inv.call{g':Array adB}{t':Nat}{d':Drawn}{ch:List af}(I:Inv X pins σ H s)(u:Un (RW X.stack) ch H H' s.heap h')(dI:uf X.prog X.w H' h')(hg:Vl g')(As:∀b∈ch,(b∈X.ex∨X.FF.heap.objs.size<=b)/\b≠X.env.locals/\(∀x c,X.env.cells.lookup x=some c->c≠b)/\∀p∈X.pn++pins,p.1≠b):
  Inv X pins σ H' {s with heap:=h',gens:=g',drawn:=d',toks:=t'}:=by
 obtain⟨m,⟨o,es,ep,ho,r⟩,_⟩:=id I.loc;obtain⟨sl,hL⟩:=u.any ho I.free λz=>(As _ z).2.1 rfl;exact I.step (ch:=ch) As (λb o hL hb hc e n=>u.keep b o e n (λz=>(aA.mp (I.Mw b z)).elim hL hb) hc) (λb o _ _ hc e n=>u.any e n hc) (λb o hc e n=>u.free b o e n hc) (λb o hc e=>u.there b o e hc) u.JI u.Hw u.Hx (λm' hm=>by
  obtain⟨o',WV,WW,OF,r'⟩:=hm;rw[ho] at OF;cases OF;exact⟨_,WV,WW,hL,r'⟩) dI hg
theorem Inv.turned{t':Nat}{it:af}(I:Inv X pins σ H s)(k:∀b o,b≠it->s.heap.get? b=some o->h'.get? b=some o)(hn:H it=none)(hL:it≠X.env.locals)(h1:it∈X.ex∨X.FF.heap.objs.size<=it)(h2:∀x c,X.env.cells.lookup x=some c->c≠it)(h3:∀p∈X.pn++pins,p.1≠it):Inv X pins σ H {s with heap:=h',toks:=t'}:=by
 have WX:∀b u,H b=some u->b≠it:=λb u e z=>by rw[z,hn] at e;cases e
 refine I.step (g':=s.gens) (d':=s.drawn) (ch:=[it]) (λb hb=>?_) (λb o _ _ hc e _=>k b o (λz=>hc (by simp[z])) e) (λb o _ _ hc e _=>⟨o.slots,k b o (λz=>hc (by simp[z])) e⟩) (λ_ _ _ _ n=>n)
  (λb o hc e=>⟨o,k b o (λz=>hc (by simp[z])) e⟩) (λ_ _ e=>e) (λ_ _ _ e=>e) (λb ps e=>⟨#[],by rw[e];simp⟩) (λm hm=>?_) (λb u e=>?_) I.bare
 ·have e:b=it:=by simpa using hb
  subst e;exact⟨h1,hL,h2,h3⟩
 ·obtain⟨o,es,ep,ho,r⟩:=hm;exact⟨o,es,ep,k _ o (mM hL) ho,r⟩
 ·refine(I.dI b u e).FD (λc v hc q=>k c v ?_ q) (λ_ q=>q) λ_ _ q=>q;rcases hc with z|z
  ·rw[z];exact WX b u e
  ·exact WX c _ z
theorem Inv.tok(I:Inv X pins σ H s)(t:Nat):Inv X pins σ H {s with toks:=t}:=I.un (h':=s.heap) (t':=t) Un.refl I.dI
theorem Inv.kept{t':Nat}(I:Inv X pins σ H s)(k:∀b u,s.heap.get? b=some u->h'.get? b=some u):Inv X pins σ H {s with heap:=h',toks:=t'}:=I.un (Un.kept k) (I.dI.kept k)
theorem Inv.laid{a:af}{o:HO}{t':Nat}(I:Inv X pins σ H s)(k:∀b u,s.heap.get? b=some u->h'.get? b=some u)(hp:s.heap.objs.size<=a)(new:fB X.prog X.w (upd H a o) h' a o):
  Inv X pins σ (upd H a o) {s with heap:=h',toks:=t'}:=I.un (Un.laid k hp (I.dI.fresh hp)) (I.dI.laid k hp new)
theorem Inv.write{x e:af}{o:HO}{t':Nat}(I:Inv X pins σ H s)(mu:XU (H x))(he:e=x∨H e=some (.own x))(k:∀b u,b≠e->s.heap.get? b=some u->h'.get? b=some u)(heo:∃u,h'.get? e=some u)(new:fB X.prog X.w (upd H x o) h' x o):Inv X pins σ (upd H x o) {s with heap:=h',toks:=t'}:=I.un (Un.write mu he k heo) (I.dI.write mu he k heo new)
theorem Inv.weak{σ':List (Option V)}(I:Inv X pins σ H s)(hl:σ'.length=σ.length)(w:∀(i:Nat) v,σ'[i]? =some (some v)->σ[i]? =some (some v)):Inv X pins σ' H s:=⟨I.ok,I.os,I.bare,I.base,let⟨m,hn,RZ⟩:=I.loc;⟨m,hn,λi x v e1 e2 e3=>RZ i x v e1 (w i v e2) e3⟩,I.cell,I.free,I.tj,I.pin,I.dI,hl.trans I.len⟩
theorem Inv.CC{GH:List (af×Obj)}(I:Inv X pins σ H s)(h:∀p∈GH,s.heap.get? p.1=some p.2/\H p.1=none/\p.1≠X.env.locals/\p.1∉X.fs/\∀v,p.2.data≠.cell v):Inv X GH σ H s:=⟨I.ok,I.os,I.bare,I.base,I.loc,I.cell,I.free,I.tj,λp hp=>(aD.mp hp).elim (λz=>I.pin p (d6 _ z)) (h p),I.dI,I.len⟩
theorem CW{N:List Str}(hN:N.Nodup){i j:Nat}{x:Str}(a:N[i]? =some x)(b:N[j]? =some x):i=j:=by obtain⟨h1,e1⟩:=b9.mp a;obtain⟨h2,e2⟩:=b9.mp b;exact(ZU hN).mp (e1.trans e2.symm)
theorem GI{M:XH}{A:cp}{E:aj->ay->Prop}{i:Nat}{x:Str}{v:V}{u:aj}{Q:Unit->ay->Prop}(I:Inv X pins σ H s)(hN:X.N.Nodup)(hi:X.N[i]? =some x)(hx:Loc X.env.scope x)(r:RelV v u)(h:∀s',Inv X pins (σ.set i (some v)) H s'->(∃a,eE a s.heap s'.heap/\(a=X.env.locals∨X.env.cells.lookup x=some a))->Q () s')(hf:X.fn x=true∨X.env.scope.names.lookup x=some .local:=by first|exact .inl rfl|exact .inr rfl|assumption):bg M A (storeName X.env x u) Q E s:=by
 obtain⟨m,hn,hl⟩:=id I.loc;have XY:(X.env.scope.kind==.class||(X.env.scope.kind==.module&&X.env.locals !=X.env.globals))=false:=by rw[I.ok.kind];rfl
 have abd:i<σ.length:=by rw[I.len];exact(b9.mp hi).1
 have XX:=I.XX;have tracked:∀{a:af}{h':cu},(∃o,s.heap.get? a=some o/\H a=none)->eE a s.heap h'->uf X.prog X.w H h':=λ{a h'} ha hs b ob e=>by
  obtain⟨_,_,GJ⟩:=ha;refine(I.dI b ob e).FD (λc w' hc q=>(hs.2 c ?_).trans q) (λ_ q=>q) λ_ _ q=>q;rintro rfl;rcases hc with rfl|hc
  ·rw[GJ] at e;cases e
  ·rw[GJ] at hc;cases hc
 rcases hx with hk|hk
 ·refine wpAny_storeName_local hk hn (λh' hn' hs=>?_) XY;obtain⟨oL,_,_,hoL,_⟩:=id hn;refine h _ ⟨I.ok,I.os,I.bare,⟨λb o e n hb hx=>?_,λb o e n hb hx=>?_,I.base.free,λb o e hx=>?_,I.base.JI,I.base.Hw,I.base.Hx⟩,⟨_,hn',λj y v' e1 e2 e3=>?_⟩,λy c e=>?_,I.free,I.tj,λp hp=>?_,tracked ⟨oL,hoL,I.free⟩ hs,by simpa using I.len⟩ ⟨_,hs,.inl rfl⟩
  ·exact(hs.2 b (bR (bJ (bc e) I.ok.above))).trans (I.base.keep b o e n hb hx)
  ·obtain⟨sl,e1⟩:=I.base.slot b o e n hb hx;exact⟨sl,(hs.2 b (bR (bJ (bc e) I.ok.above))).trans e1⟩
  ·obtain⟨o',e1⟩:=I.base.there b o e hx;exact⟨o',(hs.2 b (bR (bJ (bc e) I.ok.above))).trans e1⟩
  ·by_cases hj:j=i
   ·subst hj;rw[hi] at e1;cases e1;rw[xk abd] at e2;cases e2;exact⟨u,r,.inl ⟨hk,by simp⟩⟩
   ·rw[Ag (mM hj)] at e2;obtain⟨u',r',q⟩:=hl j y v' e1 e2 e3;refine⟨u',r',?_⟩;rcases q with⟨k,e⟩|⟨k,c,e,z⟩
    ·refine .inl ⟨k,?_⟩;have:y≠x:=λe=>hj (CW hN e1 (e▸hi));simp[this,e]
    ·exact .inr ⟨k,c,e,z.sameBut hs (XX y c e)⟩
  ·obtain⟨w',z⟩:=I.cell y c e;exact⟨w',z.sameBut hs (XX y c e)⟩
  ·obtain⟨e,n,ne,nf,d⟩:=I.pin p hp;exact⟨(hs.2 p.1 ne).trans e,n,ne,nf,d⟩
 ·have hfn:X.fn x=true:=by
   rcases hf with z|z
   ·exact z
   ·rw[z] at hk;cases hk
  obtain⟨c,hc⟩:=I.ok.has x (.inl hk);obtain⟨w',z⟩:=I.cell x c hc;refine wpAny_storeName_cell I.ok.kind hk hc z (λh' Fj hs=>?_);obtain⟨oc,Vt,aeH⟩:=id z;refine h {s with heap:=h'} ⟨I.ok,I.os,I.bare,⟨λb o e n hb hx=>?_,λb o e n hb hx=>?_,I.base.free,λb o e hx=>?_,I.base.JI,I.base.Hw,I.base.Hx⟩,⟨m,hn.sameBut hs (mM (XX x c hc)),λj y v' e1 e2 e3=>?_⟩,λy c' e=>?_,I.free,I.tj,λp hp=>?_,tracked ⟨oc,Vt,I.tj x c hc⟩ hs,by simpa using I.len⟩ ⟨c,hs,.inr hc⟩
  ·exact(hs.2 b (bR (bJ (bc e) (I.ok.cab x c hfn hc)))).trans (I.base.keep b o e n hb hx)
  ·obtain⟨sl,e1⟩:=I.base.slot b o e n hb hx;exact⟨sl,(hs.2 b (bR (bJ (bc e) (I.ok.cab x c hfn hc)))).trans e1⟩
  ·obtain⟨o',e1⟩:=I.base.there b o e hx;exact⟨o',(hs.2 b (bR (bJ (bc e) (I.ok.cab x c hfn hc)))).trans e1⟩
  ·by_cases hj:j=i
   ·subst hj;rw[hi] at e1;cases e1;rw[xk abd] at e2;cases e2;exact⟨u,r,.inr ⟨.inl hk,c,hc,Fj⟩⟩
   ·rw[Ag (mM hj)] at e2;obtain⟨u',r',q⟩:=hl j y v' e1 e2 e3;refine⟨u',r',?_⟩;rcases q with q|⟨k,c',e,z'⟩
    ·exact .inl q
    ·refine .inr ⟨k,c',e,z'.sameBut hs ?_⟩;rintro rfl;exact hj (CW hN e1 (I.ok.inj _ _ _ e hc▸hi))
  ·by_cases R5:c'=c
   ·subst R5;exact⟨_,Fj⟩
   ·obtain⟨w2,z2⟩:=I.cell y c' e;exact⟨w2,z2.sameBut hs R5⟩
  ·obtain⟨e,n,ne,nf,d⟩:=I.pin p hp;refine⟨(hs.2 p.1 ?_).trans e,n,ne,nf,d⟩;intro q;rw[q,Vt] at e;have q':oc=p.2:=aW e;exact d w' (by rw[<-q'];exact aeH)
theorem JJ{M:XH}{A:cp}{E:aj->ay->Prop}{i:Nat}{x:Str}{v:V}{u:aj}{Q:Unit->ay->Prop}(I:Inv X pins σ H s)(hN:X.N.Nodup)(hi:X.N[i]? =some x)(hx:Loc X.env.scope x)(r:RelV v u)(h:∀s',Inv X pins (σ.set i (some v)) H s'->Q () s')(hf:X.fn x=true∨X.env.scope.names.lookup x=some .local:=by first|exact .inl rfl|exact .inr rfl|assumption):bg M A (storeName X.env x u) Q E s:=GI I hN hi hx r (λs' I' _=>h s' I') hf
theorem Inv.abe{s':ay}{ch:List af}(I:Inv X pins σ H s)(ho:s'.os=s.os)(u:Un (RW X.stack) ch H H' s.heap s'.heap)(dI:uf X.prog X.w H' s'.heap)(hg:Vl s'.gens)(As:∀b∈ch,(b∈X.ex∨X.FF.heap.objs.size<=b)/\b≠X.env.locals/\(∀x c,X.env.cells.lookup x=some c->c≠b)/\∀p∈X.pn++pins,p.1≠b):Inv X pins σ H' s':=by obtain⟨h',g',d',t',o'⟩:=s';have e:o'=s.os:=ho;subst e;exact I.call (g':=g') (t':=t') (d':=d') u dI hg As
end
abbrev XK:=aj->Option af->Hp->Prop
abbrev St:=List (Option V)
abbrev VK:=V->Hp->Prop
abbrev TE:=St->Hp->VK->Prop
abbrev TT:=St->Hp->(Bool->Hp->Prop)->Prop
abbrev TA:=St->Hp->(List V->Hp->Prop)->Prop
structure Ends where
 nx:St->Hp->Prop
 rt:VK
 bk:St->Hp->Prop:=λ_ _=>False
 ct:St->Hp->Prop:=λ_ _=>False
abbrev TS:=Ends->St->Hp->Prop
def EP(X:Cx)(pins:List (af×Obj))(σ:St)(Q:VK)(u:aj)(s':ay):Prop:=∃v H',Inv X pins σ H' s'/\RelV v u/\Q v H'
def TP(X:Cx)(pins:List (af×Obj))(σ:St)(Q:Bool->Hp->Prop)(b:Bool)(s':ay):Prop:=∃H',Inv X pins σ H' s'/\Q b H'
def AP(X:Cx)(pins:List (af×Obj))(σ:St)(Q:List V->Hp->Prop)(us:List aj)(s':ay):Prop:=∃vs H',Inv X pins σ H' s'/\Vals vs us/\Q vs H'
def SP(X:Cx)(pins:List (af×Obj))(D:Ends)(f:Flow)(s':ay):Prop:=
 match f with
 |.next=>∃σ' H',Inv X pins σ' H' s'/\D.nx σ' H'
 |.brk=>∃σ' H',Inv X pins σ' H' s'/\D.bk σ' H'
 |.cont=>∃σ' H',Inv X pins σ' H' s'/\D.ct σ' H'
 |.ret u=>∃v σ' H',Inv X pins σ' H' s'/\RelV v u/\D.rt v H'
def PE(X:Cx)(e:Expr)(t:TE):Prop:=∀(pins:List (af×Obj))(s:ay)(σ:St)(H:Hp)(Q:VK),Inv X pins σ H s->t σ H Q->bg (model X.prog X.w) X.A (eval e X.env) (EP X pins σ Q) X.xe s
def PT(X:Cx)(e:Expr)(t:TT):Prop:=∀(pins:List (af×Obj))(s:ay)(σ:St)(H:Hp)(Q:Bool->Hp->Prop),Inv X pins σ H s->t σ H Q->bg (model X.prog X.w) X.A (isTrue e X.env (eval e X.env)) (TP X pins σ Q) X.xe s
def PW(X:Cx)(e:Expr)(t:TT):Prop:=∀(whole:Sem aj)(pins:List (af×Obj))(s:ay)(σ:St)(H:Hp)(Q:Bool->Hp->Prop),Inv X pins σ H s->t σ H Q->bg (model X.prog X.w) X.A (isTrue e X.env whole) (TP X pins σ Q) X.xe s
theorem PW.pt{X:Cx}{e:Expr}{t:TT}(h:PW X e t):PT X e t:=h _
def PA(X:Cx)(es:List Expr)(t:TA):Prop:=∀(pos:Pos)(pins:List (af×Obj))(s:ay)(σ:St)(H:Hp)(Q:List V->Hp->Prop),Inv X pins σ H s->t σ H Q->bg (model X.prog X.w) X.A (spliced (fH pos (bL es X.env))) (AP X pins σ Q) X.xe s
def PS(X:Cx)(st:cy)(t:TS):Prop:=∀(pins:List (af×Obj))(s:ay)(σ:St)(H:Hp)(D:Ends),Inv X pins σ H s->t D σ H->bg (model X.prog X.w) X.A (exec st X.env) (SP X pins D) X.xe s
def Mx(X:Cx)(st:List cy)(t:TS):Prop:=∀(pins:List (af×Obj))(s:ay)(σ:St)(H:Hp)(D:Ends),Inv X pins σ H s->t D σ H->bg (model X.prog X.w) X.A (execs st X.env) (SP X pins D) X.xe s
theorem iw{α:Type}{t:Sem α}{Q Q':α->ay->Prop}{M:XH}{A:cp}{E:aj->ay->Prop}{s:ay}(h:bg M A t Q E s)(hQ:∀a s,Q a s->Q' a s):bg M A t Q' E s:=fj h hQ λ_ _ x=>x
end L2
namespace L2
open PySem PySem.Spec PyProof.Rows
section
variable{X:Cx}
def qA(i:Nat):TE:=λσ H Q=>∃v,σ[i]? =some (some v)/\Q v H
def tC(v:V):TE:=λ_ H Q=>Q v H
theorem XZ{i:Nat}{x:Str}{pos:Pos}(hN:X.N[i]? =some x)(hv:Vis X.env.scope x)(hd:(x==("__debug__":Str))=false:=by decide)(R6:(x==("__classdict__":Str))=false:=by decide):PE X (.Name x pos) (qA i):=by
 intro pins s σ H Q I h;obtain⟨v,e,h⟩:=h;obtain⟨m,hn,hl⟩:=I.loc;obtain⟨u,r,l⟩:=hl i x v hN e hv;have fin:EP X pins σ Q u s:=⟨v,H,I,r,h⟩;rcases l with⟨hk,hm⟩|⟨hk,c,hc,lM⟩
 ·exact ahf (wpAny_loadName_local I.ok.kind hk hn hm fin) hd
 ·rcases hk with hk|hk
  ·exact ahf (wpAny_loadName_cell I.ok.kind hk hc lM fin) hd
  ·exact ahf (wpAny_loadName_free I.ok.kind hk hc lM fin R6) hd
theorem bx{i j pos}:PE X (.Constant (.int i) j pos) (tC (.int i)):=λ_ _ _ H _ I h=>aha ⟨.int i,H,I.tok _,⟨_,rfl⟩,h⟩
theorem jQ{b j pos}:PE X (.Constant (.bool b) j pos) (tC (.bl b)):=λ_ _ _ H _ I h=>Constant_bool ⟨.bl b,H,I,rfl,h⟩
theorem lu{j pos}:PE X (.Constant .none j pos) (tC .gT):=λ_ _ _ H _ I h=>Constant_none ⟨.gT,H,I,rfl,h⟩
theorem eX{x j pos}:PE X (.Constant (.str x) j pos) (tC (.str x)):=λ_ _ _ H _ I h=>Calls.Constant_str ⟨.str x,H,I.tok _,⟨_,rfl⟩,h⟩
def Gl(X:Cx)(x:Str):Prop:=X.env.kindOf x=some .globalImplicit
theorem CD{E:aj->ay->Prop}{pins:List (af×Obj)}{s:ay}{σ:St}{H:Hp}{x:Str}{u:aj}{pos:Pos}{Q:aj->ay->Prop}(I:Inv X pins σ H s)(hg:Gl X x)(hm:X.mg x=some u)(h:Q u s)(hd:(x==("__debug__":Str))=false:=by decide):bg (model X.prog X.w) X.A (eval (.Name x pos) X.env) Q E s:=UT I.ok.kind hg (Calls.loadGlobal_global (by rw[I.ok.glob];exact I.mod.glob.keeps I.bk) hm h) hd
theorem uE{E:aj->ay->Prop}{pins:List (af×Obj)}{s:ay}{σ:St}{H:Hp}{x:Str}{u:aj}{pos:Pos}{Q:aj->ay->Prop}(I:Inv X pins σ H s)(hg:Gl X x)(hm:X.mg x=none)(hv:de x=some u)(h:Q u s)(hn:x≠"__name__":=by decide)(hd:(x==("__debug__":Str))=false:=by decide):bg (model X.prog X.w) X.A (eval (.Name x pos) X.env) Q E s:=by obtain⟨mb,h1,h2⟩:=I.mod.blt;exact UT I.ok.kind hg (Calls.loadGlobal_builtin (by rw[I.ok.glob];exact I.mod.glob.keeps I.bk) hm (by rw[I.ok.blt];exact h1.keeps I.bk) ((h2 x hn).trans hv) h) hd
theorem Vu{x:Str}{v:V}{u:aj}{pos:Pos}(hg:Gl X x)(hm:X.mg x=some u)(r:RelV v u)(hd:(x==("__debug__":Str))=false:=by decide):PE X (.Name x pos) (tC v):=λ_ _ _ H _ I h=>CD I hg hm ⟨v,H,I,r,h⟩ hd
variable{a b:Expr}{ta tb:TE}{pos:Pos}
def PC(X:Cx)(op:XI)(a b:Expr)(t:TE):Prop:=
 ∀(pins:List (af×Obj))(s:ay)(σ:St)(H:Hp)(Q:VK),Inv X pins σ H s->t σ H Q->
  bg (model X.prog X.w) X.A (eval a X.env) (λv s₁=>bg (model X.prog X.w) X.A (eval b X.env) (λu s₂=>bg (model X.prog X.w) X.A (d8 op v u) (EP X pins σ Q) X.xe s₂) X.xe s₁) X.xe s
def tB(t:TE):TT:=λσ H Q=>t σ H λx H1=>∃c,x=.bl c/\Q c H1
theorem X0{op:XI}{t:TE}(h:PC X op a b t)(h1:qM op b=false:=by first|exact R7 _ (by decide) (by decide)|rfl):PE X (.Compare a [op] [b] pos) t:=λpins s σ H Q I hw=>wpAny_Compare1 (h pins s σ H Q I hw) h1
theorem x4{op:XI}{t:TE}(h:PC X op a b t)(h1:qM op b=false:=by first|exact R7 _ (by decide) (by decide)|rfl):PT X (.Compare a [op] [b] pos) (tB t):=by
 intro pins s σ H Q I hw;refine aaS (iw (h pins s σ H _ I hw) λv s1 h1=>iw h1 λu s2 h2=>iw h2 λc s3 ⟨x,H1,I1,r1,q1⟩=>?_) h1;obtain⟨d,rfl,q⟩:=q1;cases r1;exact fJ ⟨H1,I1,q⟩
theorem fQ{e:Expr}{t:TE}(h:PE X e t)(he:∀whole,isTrue e X.env whole=(do let v <-whole;aad e.pos;holding [v] (truthy v)):=by intro _;rfl):PT X e (tB t):=by
 intro pins s σ H Q I hw;refine isTrue_plain (iw (h pins s σ H _ I hw) λv s1 ⟨x,H1,I1,r1,q1⟩=>?_) (he _);obtain⟨d,rfl,q⟩:=q1;cases r1;exact fJ ⟨H1,I1,q⟩
variable{tA tB':TT}{rest:List Expr}
def aeI(t u:TT):TT:=λσ H Q=>t σ H λc H1=>if c=true then u σ H1 Q else Q false H1
def tOr(t u:TT):TT:=λσ H Q=>t σ H λc H1=>if c=true then Q true H1 else u σ H1 Q
def aeJ(t:TT):TT:=λσ H Q=>t σ H λc H1=>Q (!c) H1
theorem CF(ha:PT X a tA):PW X (.BoolOp .And [a] pos) tA:=by
 intro wh pins s σ H Q I h;refine isTrue_and (iw (ha pins s σ H Q I h) λc s1 e=>?_)
 cases c with
 |true=>exact isTrue_and_nil e
 |false=>exact e
theorem nZ(ha:PT X a tA):PW X (.BoolOp .Or [a] pos) tA:=by
 intro wh pins s σ H Q I h;refine isTrue_or (iw (ha pins s σ H Q I h) λc s1 e=>?_)
 cases c with
 |false=>exact isTrue_or_nil e
 |true=>exact e
theorem Hz(ha:PT X a tA)(hb:PW X (.BoolOp .And (b::rest) pos) tB'):PW X (.BoolOp .And (a::b::rest) pos) (aeI tA tB'):=by
 intro wh pins s σ H Q I h;refine isTrue_and (iw (ha pins s σ H _ I h) λc s1 ⟨H1,I1,q1⟩=>?_)
 cases c with
 |true=>exact hb wh pins s1 σ H1 Q I1 q1
 |false=>exact⟨H1,I1,q1⟩
theorem qP(ha:PT X a tA)(hb:PW X (.BoolOp .Or (b::rest) pos) tB'):PW X (.BoolOp .Or (a::b::rest) pos) (tOr tA tB'):=by
 intro wh pins s σ H Q I h;refine isTrue_or (iw (ha pins s σ H _ I h) λc s1 ⟨H1,I1,q1⟩=>?_)
 cases c with
 |true=>exact⟨H1,I1,q1⟩
 |false=>exact hb wh pins s1 σ H1 Q I1 q1
theorem gB(ha:PT X a tA):PT X (.UnaryOp .Not a pos) (aeJ tA):=by intro pins s σ H Q I h;exact isTrue_not (ha pins s σ H (λc H1=>Q (!c) H1) I h)
def abf(ta tb:TE):TE:=λσ H Q=>ta σ H λx H1=>∃c,x=.bl c/\if c=true then tb σ H1 Q else Q (.bl false) H1
def aeK(ta tb:TE):TE:=λσ H Q=>ta σ H λx H1=>∃c,x=.bl c/\if c=true then Q (.bl true) H1 else tb σ H1 Q
theorem oS{op}{t:TE}(h:PE X a t):PE X (.BoolOp op [a] pos) t:=λpins s σ H Q I hw=>BoolOp_one (h pins s σ H Q I hw)
theorem lY(ha:PE X a ta)(hb:PE X (.BoolOp .And (b::rest) pos) tb):PE X (.BoolOp .And (a::b::rest) pos) (abf ta tb):=by
 intro pins s σ H Q I h;refine BoolOp_and (iw (ha pins s σ H _ I h) λv s1 ⟨x,H1,I1,r1,q1⟩=>?_);obtain⟨c,rfl,q1⟩:=q1;cases r1;refine fJ ?_
 cases c with
 |true=>exact hb pins s1 σ H1 Q I1 q1
 |false=>exact⟨.bl false,H1,I1,rfl,q1⟩
theorem abg(ha:PE X a ta)(hb:PE X (.BoolOp .Or (b::rest) pos) tb):PE X (.BoolOp .Or (a::b::rest) pos) (aeK ta tb):=by
 intro pins s σ H Q I h;refine BoolOp_or (iw (ha pins s σ H _ I h) λv s1 ⟨x,H1,I1,r1,q1⟩=>?_);obtain⟨c,rfl,q1⟩:=q1;cases r1;refine fJ ?_
 cases c with
 |false=>exact hb pins s1 σ H1 Q I1 q1
 |true=>exact⟨.bl true,H1,I1,rfl,q1⟩
def tIf(t:TT)(ta tb:TE):TE:=λσ H Q=>t σ H λc H1=>if c=true then ta σ H1 Q else tb σ H1 Q
theorem R8{c:Expr}(hc:PT X c tA)(ha:PE X a ta)(hb:PE X b tb):PE X (.IfExp c a b pos) (tIf tA ta tb):=by
 intro pins s σ H Q I h;refine wpAny_IfExp (iw (hc pins s σ H _ I h) λd s1 ⟨H1,I1,q1⟩=>?_)
 cases d with
 |true=>exact ha pins s1 σ H1 Q I1 q1
 |false=>exact hb pins s1 σ H1 Q I1 q1
end
end L2
namespace L2
open PySem PySem.Spec PyProof.Rows
def bD(K:ah)(H:Hp)(a:af)(xs:List V):Prop:=
 Rd H a (.lst xs)∨
  ∃(o:Obj)(its:Array aj)(n:Nat),K.lookup a=some o/\o.cls=.type "list"/\o.dict=none/\o.data=.seq its n/\its.size<=az/\Vals xs its.toList
def nj(K:ah)(H:Hp)(a:af)(xs:List V):Prop:=
 Rd H a (.tup xs)∨
  ∃(o:Obj)(its:Array aj)(n:Nat),K.lookup a=some o/\o.cls=.type "tuple"/\o.data=.seq its n/\its.size<=az/\Vals xs its.toList
def aeL:aj->Option V
 |.none=>some .gT
 |.bool b=>some (.bl b)
 |.int i _=>some (.int i)
 |.str x _=>some (.str x)
 |.bytes b _=>some (.Ml b)
 |.float b _=>some (.XS b)
 |.ref a=>some (.ref a)
 |.type n=>some (.ty n)
 |_=>none
theorem RelV.abs{x:V}{u:aj}(r:RelV x u):aeL u=some x:=by
 cases x with
 |gT=>cases r;rfl
 |bl _=>cases r;rfl
 |int _=>obtain⟨t,rfl⟩:=r;rfl
 |str _=>obtain⟨t,rfl⟩:=r;rfl
 |Ml _=>obtain⟨t,rfl⟩:=r;rfl
 |XS _=>obtain⟨t,rfl⟩:=r;rfl
 |ref _=>cases r;rfl
 |ty _=>cases r;rfl
theorem RelV.inj{x y:V}{u:aj}(r:RelV x u)(q:RelV y u):x=y:=aW (r.abs.symm.trans q.abs)
theorem Vals.inj:∀{xs ys:List V}{us:List aj},Vals xs us->Vals ys us->xs=ys
 |_,_,_,.nil,.nil=>rfl
 |_,_,_,.cons r t,.cons r' t'=>by rw[r.inj r',Vals.inj t t']
section
variable{X:Cx}{pins:List (af×Obj)}{σ:St}{H:Hp}{s:ay}{a:af}{xs ys:List V}
theorem bD.of{K:ah}(h:H a=some (.lst xs)):bD K H a xs:=.inl (.inl h)
theorem nj.of{K:ah}(h:H a=some (.tup xs)):nj K H a xs:=.inl (.inl h)
theorem Inv.list(I:Inv X pins σ H s)(h:bD X.K H a xs):∃its:List aj,Vals xs its/\PlainL s.heap a its.toArray/\xs.length<=az:=by
 rcases h with h|⟨o,its,n,hk,hc,hd,hs,hz,r⟩
 ·obtain⟨z,its,n,r,e⟩:=h.ok I.dI;exact⟨its,r,⟨_,n,e,rfl,rfl,rfl⟩,z⟩
 ·refine⟨its.toList,r,⟨o,n,I.Ax a o hk,hc,hd,by simpa using hs⟩,?_⟩;have e:=r.length;simp only[ig] at e;omega
theorem Inv.tuple(I:Inv X pins σ H s)(h:nj X.K H a xs):∃its:List aj,Vals xs its/\IsTup s.heap a its.toArray/\xs.length<=az:=by
 rcases h with h|⟨o,its,n,hk,hc,hs,hz,r⟩
 ·obtain⟨z,its,r,p⟩:=h.ok I.dI;exact⟨its,r,p,z⟩
 ·refine⟨its.toList,r,⟨o,I.Ax a o hk,hc,n,by simpa using hs⟩,?_⟩;have e:=r.length;simp only[ig] at e;omega
theorem Inv.oT(I:Inv X pins σ H s)(h:bD X.K H a xs)(h':bD X.K H a ys):xs=ys:=by
 obtain⟨its,r,⟨o,n,e,_,_,d⟩,_⟩:=I.list h;obtain⟨its',r',⟨o',n',e',_,_,d'⟩,_⟩:=I.list h';rw[e] at e';cases e';rw[d] at d';injection d' with d1 _;have:its=its':=by simpa using congrArg Fd d1
 subst this;exact r.inj r'
theorem Inv.P7(I:Inv X pins σ H s)(h:nj X.K H a xs)(h':nj X.K H a ys):xs=ys:=by
 obtain⟨its,r,⟨o,e,_,n,d⟩,_⟩:=I.tuple h;obtain⟨its',r',⟨o',e',_,n',d'⟩,_⟩:=I.tuple h';rw[e] at e';cases e';rw[d] at d';injection d' with d1 _;have:its=its':=by simpa using congrArg Fd d1
 subst this;exact r.inj r'
end
abbrev Cx.FG(X:Cx)(E:aj->ay->Prop):Cx:={X with xe:=E}
abbrev Cx.Vv(X:Cx):Cx:=X.FG λ_ _=>False
theorem Cx.Ok.FG{X:Cx}(ok:X.Ok)(E:aj->ay->Prop):(X.FG E).Ok:=⟨ok.mod,ok.kind,ok.glob,ok.blt,ok.above,ok.inj,ok.has,ok.cab,ok.hd,ok.frames,ok.stk,ok.exf,ok.bs,ok.U9,ok.RX,ok.RY,ok.B6,ok.XW⟩
theorem Cx.Ok.uF{X:Cx}{E:aj->ay->Prop}(ok:(X.FG E).Ok):X.Ok:=⟨ok.mod,ok.kind,ok.glob,ok.blt,ok.above,ok.inj,ok.has,ok.cab,ok.hd,ok.frames,ok.stk,ok.exf,ok.bs,ok.U9,ok.RX,ok.RY,ok.B6,ok.XW⟩
section
variable{X:Cx}{pins:List (af×Obj)}{σ:St}{H:Hp}{s:ay}{E:aj->ay->Prop}
theorem Inv.FG(I:Inv X pins σ H s)(E:aj->ay->Prop):Inv (X.FG E) pins σ H s:=⟨I.ok.FG E,I.os,I.bare,I.base,I.loc,I.cell,I.free,I.tj,I.pin,I.dI,I.len⟩
theorem Inv.uF(I:Inv (X.FG E) pins σ H s):Inv X pins σ H s:=⟨I.ok.uF,I.os,I.bare,I.base,I.loc,I.cell,I.free,I.tj,I.pin,I.dI,I.len⟩
theorem SP.uF{D:Ends}{f:Flow}{s':ay}(h:SP (X.FG E) pins D f s'):SP X pins D f s':=by
 cases f with
 |next=>obtain⟨σ',H',I,q⟩:=h;exact⟨σ',H',I.uF,q⟩
 |brk=>obtain⟨σ',H',I,q⟩:=h;exact⟨σ',H',I.uF,q⟩
 |cont=>obtain⟨σ',H',I,q⟩:=h;exact⟨σ',H',I.uF,q⟩
 |ret u=>obtain⟨v,σ',H',I,r,q⟩:=h;exact⟨v,σ',H',I.uF,r,q⟩
theorem Mx.Vv{st:List cy}{t:TS}(h:Mx X.Vv st t):Mx X st t:=λpins s σ H D I hw=>fj (h pins s σ H D (I.FG _) hw) (λ_ _ q=>q.uF) λ_ _ z=>dH z
end
section
variable{X:Cx}{st:cy}{rest:List cy}{t u:TS}{e:Expr}{te:TE}{pos:Pos}
def WY:TS:=λD σ H=>D.nx σ H
def R9(t u:TS):TS:=λD σ H=>t {D with nx:=u D} σ H
theorem bO:Mx X [] WY:=λ_ _ σ H _ I h=>B0 ⟨σ,H,I,h⟩
theorem aw(h1:PS X st t)(h2:Mx X rest u):Mx X (st::rest) (R9 t u):=by
 intro pins s σ H D I h;refine al3 (iw (h1 pins s σ H {D with nx:=u D} I h) λf s1 q=>?_)
 cases f with
 |next=>obtain⟨σ',H',I',q⟩:=q;exact h2 pins s1 σ' H' D I' q
 |ret v=>exact q
 |brk=>exact q
 |cont=>exact q
theorem aF(h1:PS X st t):Mx X [st] t:=by
 intro pins s σ H D I h;refine al3 (iw (h1 pins s σ H D I h) λf s1 q=>?_)
 cases f with
 |next=>exact B0 q
 |ret v=>exact q
 |brk=>exact q
 |cont=>exact q
theorem Inv.quiet{pins:List (af×Obj)}{σ:St}{H:Hp}{s:ay}(I:Inv X pins σ H s):interactive X.env=false:=by simp[interactive,I.ok.kind]
def WZ(te:TE):TS:=λD σ H=>te σ H λ_ H1=>D.nx σ H1
theorem iC(he:PE X e te)(hs:Ai e none pos.line X.env=pure false:=by rfl):PS X (.Expr e pos) (WZ te):=by intro pins s σ H D I h;exact wpAny_Expr_any (iw (he pins s σ H _ I h) λv s1 ⟨x,H1,I1,r1,q1⟩=>⟨σ,H1,I1,q1⟩) I.quiet hs
def X2(te:TE):TS:=λD σ H=>te σ H D.rt
theorem aX(he:PE X e te):PS X (.Return (some e) pos) (X2 te):=by intro pins s σ H D I h;exact wpAny_Return_some (iw (he pins s σ H _ I h) λv s1 ⟨x,H1,I1,r1,q1⟩=>⟨x,σ,H1,I1,r1,q1⟩)
def aeM(c:TT)(t u:TS):TS:=λD σ H=>c σ H λb H1=>if b=true then t D σ H1 else u D σ H1
theorem dj{c:Expr}{a b:List cy}{tc:TT}(hc:PT X c tc)(ha:Mx X a t)(hb:Mx X b u):PS X (.If c a b pos) (aeM tc t u):=by
 intro pins s σ H D I h;refine wpAny_If (iw (hc pins s σ H _ I h) λd s1 ⟨H1,I1,q1⟩=>?_)
 cases d with
 |true=>exact ha pins s1 σ H1 D I1 q1
 |false=>exact hb pins s1 σ H1 D I1 q1
end
abbrev TG:=V->St->Hp->(St->Hp->Prop)->Prop
abbrev W2:=List V->St->Hp->(St->Hp->Prop)->Prop
def PG(X:Cx)(target:Expr)(t:TG):Prop:=
 ∀(pins:List (af×Obj))(s:ay)(σ:St)(H:Hp)(v:V)(u:aj)(Q:St->Hp->Prop),Inv X pins σ H s->RelV v u->t v σ H Q->
  bg (model X.prog X.w) X.A (assign target X.env u) (λ_ s'=>∃σ' H',Inv X pins σ' H' s'/\Q σ' H') X.xe s
def PGs(X:Cx)(ts:List Expr)(t:W2):Prop:=
 ∀(pins:List (af×Obj))(s:ay)(σ:St)(H:Hp)(vs:List V)(us:List aj)(Q:St->Hp->Prop),Inv X pins σ H s->Vals vs us->t vs σ H Q->
  bg (model X.prog X.w) X.A (assignInOrder ((vZ ts X.env).map (·.2)) us) (λ_ s'=>∃σ' H',Inv X pins σ' H' s'/\Q σ' H') X.xe s
section
variable{X:Cx}{pos:Pos}
def JK(i:Nat):TG:=λv σ H Q=>Q (σ.set i (some v)) H
theorem bQ{i:Nat}{x:Str}(hN:X.N.Nodup)(hi:X.N[i]? =some x)(hx:Loc X.env.scope x)(hf:X.fn x=true∨X.env.scope.names.lookup x=some .local:=by first|exact .inl rfl|exact .inr rfl|assumption):PG X (.Name x pos) (JK i):=by intro pins s σ H v u Q I r h;exact aiL (JJ I hN hi hx r (λs' I'=>⟨_,H,I',h⟩) hf)
def aeN:W2:=λvs σ H Q=>vs=[]/\Q σ H
def abi(t:TG)(u:W2):W2:=λvs σ H Q=>∃v r,vs=v::r/\t v σ H λσ' H'=>u r σ' H' Q
theorem oz:PGs X [] aeN:=by
 intro pins s σ H vs us Q I r h;obtain⟨e,h⟩:=h;subst e;cases r;exact assignInOrder_nil ⟨σ,H,I,h⟩
theorem fR{e:Expr}{es:List Expr}{t:TG}{u:W2}(h1:PG X e t)(h2:PGs X es u)(hs:(vZ (e::es) X.env).map (·.2)=assign e X.env::(vZ es X.env).map (·.2):=by rfl):PGs X (e::es) (abi t u):=by
 intro pins s σ H vs us Q I r h;obtain⟨v,vr,e1,h⟩:=h;subst e1
 cases r with
 |cons r rr=>rw[hs];refine assignInOrder_cons (iw (h1 pins s σ H _ _ _ I r h) λ_ s1 ⟨σ1,H1,I1,q1⟩=>?_);exact h2 pins s1 σ1 H1 _ _ Q I1 rr q1
def abj(K:ah)(n:Nat)(t:W2):TG:=λv σ H Q=>∃a xs,v=.ref a/\nj K H a xs/\xs.length=n/\t xs σ H Q
theorem CY{es:List Expr}{k:Nat}{t:W2}{n:Nat}(hc:X.calm=true)(h:PGs X es t)(hn:(vZ es X.env).length=n:=by rfl)(gu:(vZ es X.env).findIdx? (·.1)=none:=by rfl):PG X (.Tuple es k pos) (abj X.K n t):=by
 intro pins s σ H v u Q I r hw;obtain⟨a,xs,e1,hq,hl,hw⟩:=hw;subst e1;cases r;obtain⟨its,rv,ht,hz⟩:=I.tuple hq;refine assign_Tuple_tuple (I.ok.hd hc) ht (by simp[hn,<-hl,rv.length]) gu λh' hx=>?_;have I1:Inv X pins σ H {s with heap:=h'}:=I.kept (t':=s.toks) λb o e=>hx b o (bR (bc e)) e;exact h pins _ σ H xs _ Q I1 (by simpa using rv) hw
def X5(te:TE)(g:TG):TS:=λD σ H=>te σ H λx H1=>g x σ H1 D.nx
theorem bZ{i:Nat}{x:Str}{e:Expr}{te:TE}{pos':Pos}(hN:X.N.Nodup)(hi:X.N[i]? =some x)(hx:Loc X.env.scope x)(he:PE X e te)(hs:Ai e (some (.Name x pos')) pos.line X.env=pure false:=by rfl)(hf:X.fn x=true∨X.env.scope.names.lookup x=some .local:=by first|exact .inl rfl|exact .inr rfl|assumption):
  PS X (.Assign [.Name x pos'] e pos) (X5 te (JK i)):=by
 intro pins s σ H D I h;refine wpAny_Assign_Name (iw (he pins s σ H _ I h) λv s1 ⟨y,H1,I1,r1,q1⟩=>?_) hs;exact JJ I1 hN hi hx r1 (λs2 I2=>⟨_,H1,I2,q1⟩) hf
end
section
variable{X:Cx}{pos:Pos}
def Sa(c:TT)(tb:TS):TS:=λD σ H=>∃W:Nat->St->Hp->Prop,(∃m,W m σ H)/\∀m σ H,W m σ H->
 c σ H λb H1=>if b=true then∃N:St->Hp->Prop,(∀σ' H',N σ' H'->∃m',m'<m/\W m' σ' H')/\tb {D with nx:=N,ct:=N,bk:=D.nx} σ H1 else D.nx σ H1
theorem Sb{c:Expr}{body:List cy}{tc:TT}{tb:TS}(hp:PassesOwn (model X.prog X.w) X.A X.env X.xe)(hc:PT X c tc)(hb:Mx X body tb):PS X (.While c body [] pos) (Sa tc tb):=by
 intro pins s σ H D I h;obtain⟨W,⟨m0,w0⟩,turn⟩:=h;refine wpAny_While (codeAny_whileLoop (λn s'=>∃σ' H',Inv X pins σ' H' s'/\W n σ' H') ?_ m0 ⟨σ,H,I,w0⟩);rintro n s1 ⟨σ1,H1,I1,w1⟩;refine kS hp (iw (hc pins s1 σ1 H1 _ I1 (turn n σ1 H1 w1)) λb s2 ⟨H2,I2,q2⟩=>?_)
 cases b with
 |true=>
  obtain⟨N,hN,q2⟩:=q2;rw[if_pos rfl];refine kS hp (iw (hb pins s2 σ1 H2 _ I2 q2) λf s3 q3=>?_)
  cases f with
  |next=>obtain⟨σ3,H3,I3,n3⟩:=q3;obtain⟨m',hm,w3⟩:=hN σ3 H3 n3;exact⟨m',hm,σ3,H3,I3,w3⟩
  |cont=>obtain⟨σ3,H3,I3,n3⟩:=q3;obtain⟨m',hm,w3⟩:=hN σ3 H3 n3;exact⟨m',hm,σ3,H3,I3,w3⟩
  |brk=>exact q3
  |ret v=>exact q3
 |false=>rw[if_neg aY];exact B0 ⟨σ1,H2,I2,q2⟩
end
structure It where
 go:Nat->Hp->Prop
 FH:Nat->Hp->V->Hp->Prop
 stop:Nat->Hp->Prop
def Ay(X:Cx)(pins:List (af×Obj))(H:Hp)(b:af):Prop:=H b=none/\b≠X.env.locals/\b∉X.fs/\(b∈X.ex∨X.FF.heap.objs.size<=b)/\(∀x c,X.env.cells.lookup x=some c->c≠b)/\∀p∈X.pn++pins,p.1≠b
theorem Inv.HA{X:Cx}{pins:List (af×Obj)}{σ:St}{H H':Hp}{s:ay}{b:af}(I:Inv X pins σ H s)(hb:s.heap.objs.size<=b)(hn:H' b=none):Ay X pins H' b:=by
 refine⟨hn,dw (bJ I.lt hb),I.abb hb,.inr (ak I.sz hb),λx c e z=>?_,λp hp z=>?_⟩
 ·obtain⟨v,q⟩:=I.cell x c e;exact absurd (bJ q.lt (by rw[z];exact hb)) (gO _)
 ·exact absurd (bJ (bc (I.pin p hp).1) (by rw[z];exact hb)) (gO _)
structure Turn(P:bo)(w:bM)(K:ah)(tg:Expr)(J:It)(fp:List af)(it:af)(tn:Nat->cu->Prop):Prop where
 mem:it∈fp
 obj:∀i h,tn i h->∀b∈fp,∃o,h.get? b=some o/\∀v,o.data≠.cell v
 keep:∀i h h',tn i h->(∀b∈fp,∀o,h.get? b=some o->h'.get? b=some o)->tn i h'
 item:∀(X:Cx),X.prog=P->X.w=w->X.K=K->X.calm=true->∀(i:Nat)(pins:List (af×Obj))(s:ay)(σ:St)(H:Hp)(E:aj->ay->Prop),Inv X pins σ H s->(∀b∈fp,Ay X pins H b)->tn i s.heap->J.go i H->
  bg (model P w) X.A (js (.ref it)) (λr s1=>∃u,r=some u/\bg (model P w) X.A (B1 tg (.ref it) u) (λ_ s2=>∃x H',Inv X pins σ H' s2/\RelV x u/\J.FH i H x H'/\tn (i+1) s2.heap/\∀b∈fp,H' b=none) E s1) E s
 done:∀(X:Cx),X.prog=P->X.w=w->X.K=K->X.calm=true->∀(i:Nat)(pins:List (af×Obj))(s:ay)(σ:St)(H:Hp)(E:aj->ay->Prop),Inv X pins σ H s->(∀b∈fp,Ay X pins H b)->tn i s.heap->J.stop i H->
  bg (model P w) X.A (js (.ref it)) (λr s1=>r=none/\Inv X pins σ H s1) E s
 self:∀(A:cp)(i:Nat)(s:ay)(Q:aj->ay->Prop)(E:aj->ay->Prop),tn i s.heap->Q (.ref it) s->bg (model P w) A (OC (.ref it)) Q E s
abbrev TI:=St->Hp->(It->Hp->Prop)->Prop
def PIE(X:Cx)(pins:List (af×Obj))(σ:St)(tg:Expr)(R:It->Hp->Prop)(itv:aj)(s2:ay):Prop:=∃(it:af)(fp:List af)(tn:Nat->cu->Prop)(J:It)(H':Hp),itv=.ref it/\Inv X pins σ H' s2/\Turn X.prog X.w X.K tg J fp it tn/\tn 0 s2.heap/\(∀b∈fp,Ay X pins H' b)/\R J H'
def PI(X:Cx)(tg iter:Expr)(wi:TI):Prop:=
 ∀(pins:List (af×Obj))(s:ay)(σ:St)(H:Hp)(R:It->Hp->Prop),Inv X pins σ H s->wi σ H R->
  bg (model X.prog X.w) X.A (eval iter X.env) (λv s1=>bg (model X.prog X.w) X.A (OC v) (PIE X pins σ tg R) X.xe s1) X.xe s
theorem OG{M:XH}{A:cp}{E:aj->ay->Prop}{s:ay}{tg:Expr}{it:af}{u:aj}{o:Obj}{n:String}{vs:Array aj}{Q:Unit->ay->Prop}(ho:s.heap.get? it=some o)(hc:o.cls=.type n)(hd:o.data=.fields vs)(hn:["enumerate","zip","dict_itemiterator","dict_reverseitemiterator","odict_iterator","itertools.zip_longest","itertools.pairwise"].contains n=false)(hQ:Q () s):bg M A (B1 tg (.ref it) u) Q E s:=by
 unfold B1;cases tg<;>first
  |exact aI hQ
  |(cases u<;>first
    |exact aI hQ
    |(refine ae (wpAny_load ho ?_)
      rw[hc,hd];show bg M A (if(["enumerate","zip","dict_itemiterator","dict_reverseitemiterator","odict_iterator","itertools.zip_longest","itertools.pairwise"].contains n&&vs[0]? ==some (eQ _))=true then _ else _) Q E s;rw[if_neg (by intro h;rw[hn,iG] at h;cases h)];exact aI hQ))
def Va(K:ah)(a:af):It:=⟨λi H=>∃xs x,bD K H a xs/\xs[i]? =some x,λi H x H'=>H'=H/\∀xs,bD K H a xs->xs[i]? =some x,λi H=>∃xs,bD K H a xs/\xs.length<=i⟩
def Itt(K:ah)(a:af):It:=⟨λi H=>∃xs x,nj K H a xs/\xs[i]? =some x,λi H x H'=>H'=H/\∀xs,nj K H a xs->xs[i]? =some x,λi H=>∃xs,nj K H a xs/\xs.length<=i⟩
def X6(lo:Int)(n:Nat):It:=⟨λi _=>i<n,λi H x H'=>H'=H/\x=.int (lo+i),λi _=>n<=i⟩
theorem P8{P:bo}{w:bM}{K:ah}{tg:Expr}(a it:af):Turn P w K tg (Va K a) [it] it (λi h=>h.IsListIter it a i) where
 mem:=by simp
 obj:=λi h st b hb=>by
  have e:b=it:=by simpa using hb
  subst e;obtain⟨o,e,c,d⟩:=st;exact⟨o,e,λv z=>by rw[d] at z;cases z⟩
 keep:=λi h h' st k=>st.at λo e=>k it (by simp) o e
 item:=by intro X hP hw hK hc i pins s σ H E I hf st hg;subst hP hw hK;obtain⟨xs,x,hq,hx⟩:=hg;obtain⟨its,rv,p,hz⟩:=I.list hq;obtain⟨u,hu,ru⟩:=rv.get hx;obtain⟨f0,f1,f2,f3,f4,f5⟩:=hf it (by simp);refine wpAny_pyNext_list_item st p.isList (x:=u) (by simpa using hu) λh' Sd sb=>?_;have I1:Inv X pins σ H {s with heap:=h'}:=I.turned (t':=s.toks) (λb o hb e=>(sb.2 b hb).trans e) f0 f1 f3 f4 f5;obtain⟨o,e,c,d⟩:=id Sd;exact⟨u,rfl,OG (s:={s with heap:=h'}) e c d (by decide) ⟨x,H,I1,ru,⟨rfl,λys hy=>by rw[I.oT hy hq];exact hx⟩,Sd,λb hb=>(hf b hb).1⟩⟩
 done:=by intro X hP hw hK hc i pins s σ H E I hf st hg;subst hP hw hK;obtain⟨xs,hq,hx⟩:=hg;obtain⟨its,rv,p,hz⟩:=I.list hq;obtain⟨f0,f1,f2,f3,f4,f5⟩:=hf it (by simp);have hl:=rv.length;exact wpAny_pyNext_list_end (I.ok.hd hc) st p.isList (by simp;omega) λh' eb=>⟨rfl,I.turned (t':=s.toks) (λb o hb e=>eb b o hb e) f0 f1 f3 f4 f5⟩
 self:=λ_ _ _ _ _ st h=>wpAny_pyIter_listiter st h
theorem My{P:bo}{w:bM}{K:ah}{tg:Expr}(a it:af):Turn P w K tg (Itt K a) [it] it (λi h=>h.IsTupleIter it a i) where
 mem:=by simp
 obj:=λi h st b hb=>by
  have e:b=it:=by simpa using hb
  subst e;obtain⟨o,e,c,d⟩:=st;exact⟨o,e,λv z=>by rw[d] at z;cases z⟩
 keep:=λi h h' st k=>st.at λo e=>k it (by simp) o e
 item:=by intro X hP hw hK hc i pins s σ H E I hf st hg;subst hP hw hK;obtain⟨xs,x,hq,hx⟩:=hg;obtain⟨its,rv,p,hz⟩:=I.tuple hq;obtain⟨u,hu,ru⟩:=rv.get hx;obtain⟨f0,f1,f2,f3,f4,f5⟩:=hf it (by simp);refine wpAny_pyNext_tuple_item st (show s.heap.IsTuple a its.toArray from p) (x:=u) (by simpa using hu) λh' Sd sb=>?_;have I1:Inv X pins σ H {s with heap:=h'}:=I.turned (t':=s.toks) (λb o hb e=>(sb.2 b hb).trans e) f0 f1 f3 f4 f5;obtain⟨o,e,c,d⟩:=id Sd;exact⟨u,rfl,OG (s:={s with heap:=h'}) e c d (by decide) ⟨x,H,I1,ru,⟨rfl,λys hy=>by rw[I.P7 hy hq];exact hx⟩,Sd,λb hb=>(hf b hb).1⟩⟩
 done:=by intro X hP hw hK hc i pins s σ H E I hf st hg;subst hP hw hK;obtain⟨xs,hq,hx⟩:=hg;obtain⟨its,rv,p,hz⟩:=I.tuple hq;obtain⟨f0,f1,f2,f3,f4,f5⟩:=hf it (by simp);have hl:=rv.length;exact wpAny_pyNext_tuple_end (I.ok.hd hc) st (show s.heap.IsTuple a its.toArray from p) (by simp;omega) λh' eb=>⟨rfl,I.turned (t':=s.toks) (λb o hb e=>eb b o hb e) f0 f1 f3 f4 f5⟩
 self:=λ_ _ _ _ _ st h=>wpAny_pyIter_tupleiter st h
theorem Mz{P:bo}{w:bM}{K:ah}{tg:Expr}(it:af)(lo:Int)(n:Nat):Turn P w K tg (X6 lo n) [it] it (λi h=>IsRangeIter h it (lo+(i:Nat)*1) ((n:Int)-(i:Nat)) 1) where
 mem:=by simp
 obj:=λi h st b hb=>by
  have e:b=it:=by simpa using hb
  subst e;exact⟨_,st,λv z=>by
   have z':Data.fields _=Data.cell v:=z;cases z'⟩
 keep:=λi h h' st k=>k it (by simp) _ st
 item:=by intro X hP hw hK hc i pins s σ H E I hf st hg;subst hP hw hK;obtain⟨f0,f1,f2,f3,f4,f5⟩:=hf it (by simp);have W:=Walks.range (prog:=X.prog) (w:=X.w) (I.ok.hd hc) it lo 1 n;refine W.item i s _ _ hg st λv h' tk hv Sd kk=>?_;obtain⟨t,rfl⟩:=hv;have I1:Inv X pins σ H {s with heap:=h',toks:=tk}:=I.turned (λb o hb e=>kk b o (by simpa using hb) e) f0 f1 f3 f4 f5;refine⟨_,rfl,OG (s:={s with heap:=h',toks:=tk}) (n:="range_iterator") Sd rfl rfl (by decide) ⟨.int (lo+i),H,I1,⟨t,?_⟩,⟨rfl,rfl⟩,Sd,λb hb=>(hf b hb).1⟩⟩;rw[Int.mul_one]
 done:=by intro X hP hw hK hc i pins s σ H E I hf st hg;subst hP hw hK;obtain⟨f0,f1,f2,f3,f4,f5⟩:=hf it (by simp);exact wpAny_pyNext_range_end (I.ok.hd hc) st (by have:n<=i:=hg;omega) λh' eb=>⟨rfl,I.turned (t':=s.toks) (λb o hb e=>eb b o hb e) f0 f1 f3 f4 f5⟩
 self:=λ_ _ _ _ _ st h=>wpAny_pyIter_rangeiter st h
end L2
namespace L2
open PySem PySem.Spec PyProof.Rows
section
variable{X:Cx}{tg:Expr}
def abl(K:ah)(tl:TE):TI:=λσ H R=>tl σ H λx H1=>∃a,x=.ref a/\(∃xs,bD K H1 a xs)/\R (Va K a) H1
def aeP(K:ah)(tl:TE):TI:=λσ H R=>tl σ H λx H1=>∃a,x=.ref a/\(∃xs,nj K H1 a xs)/\R (Itt K a) H1
theorem dC{l:Expr}{tl:TE}(hl:PE X l tl):PI X tg l (abl X.K tl):=by
 intro pins s σ H R I h;refine iw (hl pins s σ H _ I h) λv s1 ⟨x,H1,I1,r1,q1⟩=>?_;obtain⟨a,e,⟨xs,hq⟩,q⟩:=q1;subst e;cases r1;obtain⟨its,rv,p,hz⟩:=I1.list hq;refine fK p.isList ?_;refine⟨s1.heap.objs.size,[s1.heap.objs.size],_,_,H1,rfl,I1.kept (t':=s1.toks) λb o e=>ai _ e,P8 a _,⟨_,aT _ rfl,rfl,rfl⟩,λb hb=>?_,q⟩;have e:b=s1.heap.objs.size:=by simpa using hb
 subst e;exact I1.HA (aJ _) (I1.dI.fresh (aJ _))
theorem X7{l:Expr}{tl:TE}(hl:PE X l tl):PI X tg l (aeP X.K tl):=by
 intro pins s σ H R I h;refine iw (hl pins s σ H _ I h) λv s1 ⟨x,H1,I1,r1,q1⟩=>?_;obtain⟨a,e,⟨xs,hq⟩,q⟩:=q1;subst e;cases r1;obtain⟨its,rv,p,hz⟩:=I1.tuple hq;refine wpAny_pyIter_tuple (show s1.heap.IsTuple a its.toArray from p) ?_;refine⟨s1.heap.objs.size,[s1.heap.objs.size],_,_,H1,rfl,I1.kept (t':=s1.toks) λb o e=>ai _ e,My a _,⟨_,aT _ rfl,rfl,rfl⟩,λb hb=>?_,q⟩;have e:b=s1.heap.objs.size:=by simpa using hb
 subst e;exact I1.HA (aJ _) (I1.dI.fresh (aJ _))
theorem JL{pins:List (af×Obj)}{σ:St}{H:Hp}{s:ay}{R:It->Hp->Prop}{E:aj->ay->Prop}{lo hi:Int}{t u v:Tok}{tk:Nat}(I:Inv X pins σ H s)(h1:-(2^62)<=lo)(h2:lo<2^62)(h3:-(2^62)<=hi)(h4:hi<2^62)(q:R (X6 lo (hi-lo).toNat) H):bg (model X.prog X.w) X.A (OC (.ref s.heap.objs.size)) (PIE X pins σ tg R) E {s with heap:=s.heap.push {cls:=.type "range",data:=.fields #[.int lo t,.int hi u,.int 1 v]},toks:=tk}:=by
 refine wpAny_pyIter_range (IsRange.new ..) (small_one h1 h2 h3 h4) ?_;have I1:Inv X pins σ H {s with heap:=s.heap.push {cls:=.type "range",data:=.fields #[.int lo t,.int hi u,.int 1 v]},toks:=tk}:=I.kept λb o e=>ai _ e;refine⟨(s.heap.push {cls:=.type "range",data:=.fields #[.int lo t,.int hi u,.int 1 v]}).objs.size,[(s.heap.push {cls:=.type "range",data:=.fields #[.int lo t,.int hi u,.int 1 v]}).objs.size],_,_,H,rfl,I1.kept (t':=tk) λb o e=>ai _ e,Mz _ lo (hi-lo).toNat,?_,λb hb=>?_,q⟩
 ·have e1:lo+((0:Nat):Int)*1=lo:=by simp
  have e2:(((hi-lo).toNat:Nat):Int)-((0:Nat):Int)=Builtin.Range.rangeSize lo hi 1:=by rw[rangeSize_one];split<;>omega
  show IsRangeIter _ _ (lo+((0:Nat):Int)*1) ((((hi-lo).toNat:Nat):Int)-((0:Nat):Int)) 1;rw[e1,e2];exact aT _ rfl
 ·have e:b=(s.heap.push {cls:=.type "range",data:=.fields #[.int lo t,.int hi u,.int 1 v]}).objs.size:=by simpa using hb
  subst e;exact I1.HA (aJ _) (I1.dI.fresh (aJ _))
def abm(ta:TA):TI:=λσ H R=>ta σ H λvs H1=>∃j:Int,vs=[.int j]/\-(2^62)<=j/\j<2^62/\R (X6 0 j.toNat) H1
def abn(ta:TA):TI:=λσ H R=>ta σ H λvs H1=>∃i j:Int,vs=[.int i,.int j]/\(-(2^62)<=i/\i<2^62/\-(2^62)<=j/\j<2^62)/\R (X6 i (j-i).toNat) H1
theorem P9{a:Expr}{ta:TA}{p pos:Pos}(hg:Gl X "range")(hm:X.mg "range"=none)(ha:PA X [a] ta)(hs:bL [a] X.env=[(false,eval a X.env)]:=by rfl):PI X tg (.Call (.Name "range" p) [a] [] pos) (abm ta):=by
 intro pins s σ H R I h;refine Call_ (uE I hg hm boot_range (il (iw (ha pos pins s σ H _ I h) λus s1 ⟨vs,H1,I1,r1,q1⟩=>?_) hs rfl));obtain⟨j,e,q1,q2,q⟩:=q1;subst e
 cases r1 with
 |cons r rr=>
  cases rr;obtain⟨t,rfl⟩:=r;exact call_range_1 (JL I1 (by omega) (by omega) q1 q2 (by simpa using q))
theorem Qa{a b:Expr}{ta:TA}{p pos:Pos}(hg:Gl X "range")(hm:X.mg "range"=none)(ha:PA X [a,b] ta)(hs:bL [a,b] X.env=[(false,eval a X.env),(false,eval b X.env)]:=by rfl)(Fl:bL [b] X.env=[(false,eval b X.env)]:=by rfl):
  PI X tg (.Call (.Name "range" p) [a,b] [] pos) (abn ta):=by
 intro pins s σ H R I h;refine Call_ (uE I hg hm boot_range (il (iw (ha pos pins s σ H _ I h) λus s1 ⟨vs,H1,I1,r1,q1⟩=>?_) (by rw[hs,Fl]) (by rw[Fl];rfl)));obtain⟨i,j,e,⟨q1,q2,q3,q4⟩,q⟩:=q1;subst e
 cases r1 with
 |cons r rr=>
  cases rr with
  |cons r' rr=>
   cases rr;obtain⟨t,rfl⟩:=r;obtain⟨t',rfl⟩:=r';exact call_range_2 (JL I1 q1 q2 q3 q4 q)
def aeQ(wi:TI)(g:TG)(tb:TS):TS:=λD σ H=>wi σ H λJ H1=>∃W:Nat->Nat->St->Hp->Prop,(∃m,W 0 m σ H1)/\∀i m σ H,W i m σ H->
 (J.stop i H/\D.nx σ H)∨(J.go i H/\∃N:St->Hp->Prop,(∀σ' H',N σ' H'->∃m',m'<m/\W (i+1) m' σ' H')/\∀x H',J.FH i H x H'->g x σ H' λσ2 H2=>tb {D with nx:=N,ct:=N,bk:=D.nx} σ2 H2)
def CZ(fp:List af)(h:cu):List (af×Obj):=fp.filterMap λb=>(h.get? b).map λo=>(b,o)
theorem x5{fp:List af}{h:cu}{b:af}{o:Obj}(hb:b∈fp)(e:h.get? b=some o):(b,o)∈CZ fp h:=WS.mpr ⟨b,hb,by rw[e];rfl⟩
theorem Qb{fp:List af}{h:cu}{p:af×Obj}(hp:p∈CZ fp h):p.1∈fp/\h.get? p.1=some p.2:=by
 obtain⟨b,hb,e⟩:=WS.mp hp
 cases q:h.get? b with
 |none=>rw[q] at e;cases e
 |some o=>rw[q] at e;have e':(b,o)=p:=aW e;subst e';exact⟨hb,q⟩
theorem Inv.pinned{pins:List (af×Obj)}{σ:St}{H:Hp}{s:ay}{fp:List af}(I:Inv X pins σ H s)(hf:∀b∈fp,Ay X pins H b)(ho:∀b∈fp,∃o,s.heap.get? b=some o/\∀v,o.data≠.cell v):Inv X (pins++CZ fp s.heap) σ H s:=
 I.CC λp hp=>(aD.mp hp).elim (λz=>I.pin p (cZ _ z)) λz=>by
  obtain⟨hb,e⟩:=Qb z;obtain⟨f0,f1,f2,_⟩:=hf p.1 hb;obtain⟨o,e',d⟩:=ho p.1 hb;rw[e] at e';cases e';exact⟨e,f0,f1,f2,d⟩
theorem Inv.qQ{pins pl:List (af×Obj)}{σ:St}{H:Hp}{s:ay}(I:Inv X (pins++pl) σ H s):Inv X pins σ H s:=I.CC λp hp=>I.pin p (cZ _ (d6 _ hp))
theorem lA{iter:Expr}{body:List cy}{wi:TI}{g:TG}{tb:TS}{pos:Pos}(hp:PassesOwn (model X.prog X.w) X.A X.env X.xe)(hc:X.calm=true)(hi:PI X tg iter wi)(hg:PG X tg g)(hb:Mx X body tb)(hs:∀x,xU iter X.env x=pure x:=by intro _;rfl):PS X (.For tg iter body [] pos) (aeQ wi g tb):=by
 intro pins s σ H D I h;refine wpAny_For (iw (hi pins s σ H _ I h) λv s1 h1=>iw h1 λitv s2 h2=>?_) hs;obtain⟨it,fp,tn,J,H2,e,I2,T,st2,f2,W,⟨m0,w0⟩,turn⟩:=h2;subst e;have MA:∀{H':Hp},(∀b∈fp,H' b=none)->∀b∈fp,Ay X pins H' b:=λhn b hb=>⟨hn b hb,(f2 b hb).2⟩;refine codeAny_forLoop_any (λn s'=>∃i σ' H',Inv X pins σ' H' s'/\tn i s'.heap/\(∀b∈fp,H' b=none)/\W i n σ' H') ?_ m0 ⟨0,σ,H2,I2,st2,λb hb=>(f2 b hb).1,w0⟩;rintro n s3 ⟨i,σ3,H3,I3,st3,fr3,w3⟩;rcases turn i n σ3 H3 w3 with⟨stop,qn⟩|⟨go,N,hN,step⟩
 ·refine kS hp (iw (T.done X rfl rfl rfl hc i pins s3 σ3 H3 X.xe I3 (MA fr3) st3 stop) λr s4 ⟨hr,I4⟩=>?_);subst hr;exact B0 ⟨σ3,H3,I4,qn⟩
 ·refine kS hp (iw (T.item X rfl rfl rfl hc i pins s3 σ3 H3 X.xe I3 (MA fr3) st3 go) λr s4 ⟨u,hr,h4⟩=>?_);subst hr;refine kS hp (iw h4 λ_ s5 ⟨x,H5,I5,r5,y5,st5,fr5⟩=>?_);have I5':=I5.pinned (MA fr5) (T.obj _ _ st5);refine kS hp (iw (hg _ s5 σ3 H5 x u _ I5' r5 (step x H5 y5)) λ_ s6 ⟨σ6,H6,I6,q6⟩=>?_);refine kS hp (iw (hb _ s6 σ6 H6 _ I6 q6) λf s7 q7=>?_);have again:∀{σ7:St}{H7:Hp},Inv X (pins++CZ fp s5.heap) σ7 H7 s7->N σ7 H7->∃m,m<n/\∃i σ' H',Inv X pins σ' H' s7/\tn i s7.heap/\(∀b∈fp,H' b=none)/\W i m σ' H':=λ{σ7 H7} I7 n7=>by obtain⟨m',hm,w7⟩:=hN σ7 H7 n7;refine⟨m',hm,i+1,σ7,H7,I7.qQ,T.keep _ _ _ st5 λb hb o e=>(I7.pin (b,o) (cZ _ (cZ _ (x5 hb e)))).1,λb hb=>?_,w7⟩;obtain⟨o,e,d⟩:=T.obj _ _ st5 b hb;exact(I7.pin (b,o) (cZ _ (cZ _ (x5 hb e)))).2.1
  cases f with
  |next=>obtain⟨σ7,H7,I7,n7⟩:=q7;exact again I7 n7
  |cont=>obtain⟨σ7,H7,I7,n7⟩:=q7;exact again I7 n7
  |brk=>obtain⟨σ7,H7,I7,q7⟩:=q7;exact⟨σ7,H7,I7.qQ,q7⟩
  |ret v=>obtain⟨x7,σ7,H7,I7,r7,q7⟩:=q7;exact⟨x7,σ7,H7,I7.qQ,r7,q7⟩
end
theorem lZ{K:ah}{a:af}{xs:List V}{g:TG}{tb:TS}{D:Ends}{σ:St}{H:Hp}(Pv:Nat->St->Hp->Prop)(h0:Pv 0 σ H)(hl:∀i σ H,i<=xs.length->Pv i σ H->bD K H a xs)(hs:∀i x σ H,xs[i]? =some x->Pv i σ H->g x σ H λσ2 H2=>tb {D with nx:=Pv (i+1),ct:=Pv (i+1),bk:=D.nx} σ2 H2)(hd:∀σ H,Pv xs.length σ H->D.nx σ H):
  ∃W:Nat->Nat->St->Hp->Prop,(∃m,W 0 m σ H)/\∀i m σ H,W i m σ H->
   ((Va K a).stop i H/\D.nx σ H)∨((Va K a).go i H/\∃N:St->Hp->Prop,(∀σ' H',N σ' H'->∃m',m'<m/\W (i+1) m' σ' H')/\∀x H',(Va K a).FH i H x H'->g x σ H' λσ2 H2=>tb {D with nx:=N,ct:=N,bk:=D.nx} σ2 H2):=by
 refine⟨λi m σ H=>m=xs.length-i/\i<=xs.length/\Pv i σ H,⟨xs.length,by simp,bB _,h0⟩,?_⟩;rintro i m σ H ⟨rfl,hi,p⟩;have q:=hl i σ H hi p;by_cases og:i<xs.length
 ·refine .inr ⟨⟨xs,xs[i],q,by simp[og]⟩,Pv (i+1),λσ' H' p'=>⟨xs.length-(i+1),by omega,rfl,og,p'⟩,λx H' y=>?_⟩;obtain⟨e,y⟩:=y;subst e;exact hs i x σ _ (y xs q) p
 ·have e:i=xs.length:=by omega
  subst e;exact .inl ⟨⟨xs,q,aJ _⟩,hd σ H p⟩
theorem Vw{K:ah}{a:af}{xs:List V}{g:TG}{tb:TS}{D:Ends}{σ:St}{H:Hp}(Pv:Nat->St->Hp->Prop)(h0:Pv 0 σ H)(hl:∀i σ H,i<=xs.length->Pv i σ H->nj K H a xs)(hs:∀i x σ H,xs[i]? =some x->Pv i σ H->g x σ H λσ2 H2=>tb {D with nx:=Pv (i+1),ct:=Pv (i+1),bk:=D.nx} σ2 H2)(hd:∀σ H,Pv xs.length σ H->D.nx σ H):
  ∃W:Nat->Nat->St->Hp->Prop,(∃m,W 0 m σ H)/\∀i m σ H,W i m σ H->
   ((Itt K a).stop i H/\D.nx σ H)∨((Itt K a).go i H/\∃N:St->Hp->Prop,(∀σ' H',N σ' H'->∃m',m'<m/\W (i+1) m' σ' H')/\∀x H',(Itt K a).FH i H x H'->g x σ H' λσ2 H2=>tb {D with nx:=N,ct:=N,bk:=D.nx} σ2 H2):=by
 refine⟨λi m σ H=>m=xs.length-i/\i<=xs.length/\Pv i σ H,⟨xs.length,by simp,bB _,h0⟩,?_⟩;rintro i m σ H ⟨rfl,hi,p⟩;have q:=hl i σ H hi p;by_cases og:i<xs.length
 ·refine .inr ⟨⟨xs,xs[i],q,by simp[og]⟩,Pv (i+1),λσ' H' p'=>⟨xs.length-(i+1),by omega,rfl,og,p'⟩,λx H' y=>?_⟩;obtain⟨e,y⟩:=y;subst e;exact hs i x σ _ (y xs q) p
 ·have e:i=xs.length:=by omega
  subst e;exact .inl ⟨⟨xs,q,aJ _⟩,hd σ H p⟩
theorem Qc{lo:Int}{n:Nat}{g:TG}{tb:TS}{D:Ends}{σ:St}{H:Hp}(Pv:Nat->St->Hp->Prop)(h0:Pv 0 σ H)(hs:∀i σ H,i<n->Pv i σ H->g (.int (lo+i)) σ H λσ2 H2=>tb {D with nx:=Pv (i+1),ct:=Pv (i+1),bk:=D.nx} σ2 H2)(hd:∀σ H,Pv n σ H->D.nx σ H):
  ∃W:Nat->Nat->St->Hp->Prop,(∃m,W 0 m σ H)/\∀i m σ H,W i m σ H->
   ((X6 lo n).stop i H/\D.nx σ H)∨((X6 lo n).go i H/\∃N:St->Hp->Prop,(∀σ' H',N σ' H'->∃m',m'<m/\W (i+1) m' σ' H')/\∀x H',(X6 lo n).FH i H x H'->g x σ H' λσ2 H2=>tb {D with nx:=N,ct:=N,bk:=D.nx} σ2 H2):=by
 refine⟨λi m σ H=>m=n-i/\i<=n/\Pv i σ H,⟨n,by simp,bB _,h0⟩,?_⟩;rintro i m σ H ⟨rfl,hi,p⟩;by_cases og:i<n
 ·refine .inr ⟨og,Pv (i+1),λσ' H' p'=>⟨n-(i+1),by omega,rfl,og,p'⟩,λx H' y=>?_⟩;obtain⟨e,y⟩:=y;subst e y;exact hs i σ _ og p
 ·have e:i=n:=by omega
  subst e;exact .inl ⟨aJ _,hd σ H p⟩
theorem Se{c:TT}{tb:TS}{D:Ends}{σ:St}{H:Hp}(Pv:St->Hp->Prop)(μ:St->Hp->Nat)(h0:Pv σ H)(hs:∀σ H,Pv σ H->c σ H λb H1=>if b=true then tb {D with nx:=λσ' H'=>Pv σ' H'/\μ σ' H'<μ σ H,ct:=λσ' H'=>Pv σ' H'/\μ σ' H'<μ σ H,bk:=D.nx} σ H1 else D.nx σ H1)(mono:∀σ H Q Q',(∀b H1,Q b H1->Q' b H1)->c σ H Q->c σ H Q'):Sa c tb D σ H:=by
 refine⟨λm σ H=>m=μ σ H/\Pv σ H,⟨_,rfl,h0⟩,?_⟩;rintro m σ H ⟨rfl,p⟩;refine mono σ H _ _ (λb H1 q=>?_) (hs σ H p)
 cases b with
 |true=>exact⟨_,λσ' H' ⟨p',l⟩=>⟨_,l,rfl,p'⟩,q⟩
 |false=>exact q
end L2
namespace L2
open PySem PySem.Spec PyProof.Rows
abbrev R2:=V->V->Hp->VK->Prop
def xq(X:Cx)(f:aj->aj->Sem aj)(r:R2):Prop:=
 ∀(pins:List (af×Obj))(s:ay)(σ:St)(H:Hp)(x y:V)(v u:aj)(Q:VK),Inv X pins σ H s->RelV x v->RelV y u->r x y H Q->
  bg (model X.prog X.w) X.A (f v u) (EP X pins σ Q) X.xe s
def kj(X:Cx)(f:aj)(r:List V->Hp->VK->Prop):Prop:=
 ∀(pins:List (af×Obj))(s:ay)(σ:St)(H:Hp)(xs:List V)(us:List aj)(Q:VK),Inv X pins σ H s->Vals xs us->r xs H Q->
  bg (model X.prog X.w) X.A (call f us) (EP X pins σ Q) X.xe s
def Vx(r:R2)(ta tb:TE):TE:=λσ H Q=>ta σ H λx H1=>tb σ H1 λy H2=>r x y H2 Q
def rI(C:Int->Int->Prop)(g:Int->Int->V):R2:=λx y H Q=>∃i j,x=.int i/\y=.int j/\C i j/\Q (g i j) H
def Vy(g:Int->Int->V):R2:=λx y H Q=>∃i j,x=.int i/\y=.int j/\Q (g i j) H
section
variable{X:Cx}{a b c:Expr}{ta tb tc:TE}{pos:Pos}
theorem X8(ha:PE X a ta)(hb:PE X b tb){pins:List (af×Obj)}{s:ay}{σ:St}{H:Hp}{R:V->V->Hp->Prop}(I:Inv X pins σ H s)(h:ta σ H λx H1=>tb σ H1 λy H2=>R x y H2){Q:aj->ay->Prop}{f:aj->aj->Sem aj}(hf:∀v u s2 x y H2,Inv X pins σ H2 s2->RelV x v->RelV y u->R x y H2->bg (model X.prog X.w) X.A (f v u) Q X.xe s2):
  bg (model X.prog X.w) X.A (eval a X.env) (λv s₁=>bg (model X.prog X.w) X.A (eval b X.env) (λu s₂=>bg (model X.prog X.w) X.A (f v u) Q X.xe s₂) X.xe s₁) X.xe s:=by
 refine iw (ha pins s σ H _ I h) λv s1 ⟨x,H1,I1,r1,q1⟩=>?_;refine iw (hb pins s1 σ H1 _ I1 q1) λu s2 ⟨y,H2,I2,r2,q2⟩=>?_;exact hf v u s2 x y H2 I2 r1 r2 q2
theorem fh{op:Operator}{r:R2}(ho:xq X (Aj op) r)(ha:PE X a ta)(hb:PE X b tb):PE X (.BinOp a op b pos) (Vx r ta tb):=by intro pins s σ H Q I h;exact wpAny_BinOp (X8 ha hb I h λv u s2 x y H2 I2 rx ry q=>ho pins s2 σ H2 x y v u Q I2 rx ry q)
theorem opI{f:aj->aj->Sem aj}{C:Int->Int->Prop}{g:Int->Int->Int}(rule:∀(i j:Int)(t u:Tok)(s:ay)(Q:aj->ay->Prop)(E:aj->ay->Prop),C i j->Q (.int (g i j) s.toks) {s with toks:=s.toks+1}->bg (model X.prog X.w) X.A (f (.int i t) (.int j u)) Q E s):
  xq X f (rI C λi j=>.int (g i j)):=by
 intro pins s σ H x y v u Q I rx ry h;obtain⟨i,j,rfl,rfl,hc,q⟩:=h;obtain⟨t,rfl⟩:=rx;obtain⟨t',rfl⟩:=ry;exact rule i j t t' s _ _ hc ⟨.int (g i j),H,I.tok _,⟨_,rfl⟩,q⟩
theorem abo{f:aj->aj->Sem aj}{g:Int->Int->Int}(rule:∀(i j:Int)(t u:Tok)(s:ay)(Q:aj->ay->Prop)(E:aj->ay->Prop),Q (.int (g i j) s.toks) {s with toks:=s.toks+1}->bg (model X.prog X.w) X.A (f (.int i t) (.int j u)) Q E s):
  xq X f (Vy λi j=>.int (g i j)):=by
 intro pins s σ H x y v u Q I rx ry h;obtain⟨i,j,rfl,rfl,q⟩:=h;obtain⟨t,rfl⟩:=rx;obtain⟨t',rfl⟩:=ry;exact rule i j t t' s _ _ ⟨.int (g i j),H,I.tok _,⟨_,rfl⟩,q⟩
theorem Vz{f:aj->aj->Sem aj}{g:Int->Int->Bool}(rule:∀(i j:Int)(t u:Tok)(s:ay)(Q:aj->ay->Prop)(E:aj->ay->Prop),Q (.bool (g i j)) s->bg (model X.prog X.w) X.A (f (.int i t) (.int j u)) Q E s):
  xq X f (Vy λi j=>.bl (g i j)):=by
 intro pins s σ H x y v u Q I rx ry h;obtain⟨i,j,rfl,rfl,q⟩:=h;obtain⟨t,rfl⟩:=rx;obtain⟨t',rfl⟩:=ry;exact rule i j t t' s _ _ ⟨.bl (g i j),H,I,rfl,q⟩
def aeS(i j:Int):Prop:=0<j/\j<1073741824
def X9(i j:Int):Prop:=(-(2^64)<i/\i<2^64)∨(-(2^64)<j/\j<2^64)
theorem X9.ok{i j:Int}(h:X9 i j):IntMulOk i j:=by
 rcases h with⟨h1,h2⟩|⟨h1,h2⟩
 ·exact .of_left (intBits_le_64 h1 h2)
 ·exact .of_right (intBits_le_64 h1 h2)
theorem oU:xq X (Aj .Add) (Vy λi j=>.int (i+j)):=abo λ_ _ _ _ _ _ _ q=>add_int q
theorem uG:xq X (Aj .Sub) (Vy λi j=>.int (i-j)):=abo λ_ _ _ _ _ _ _ q=>sub_int q
theorem Ya:xq X (Aj .Mult) (rI X9 λi j=>.int (i*j)):=opI λ_ _ _ _ _ _ _ hc q=>mul_int q hc.ok
theorem VA:xq X (Aj .FloorDiv) (rI aeS λi j=>.int (i/j)):=opI λi j _ _ _ _ _ hc q=>by have h1:(0:Int)<j:=hc.1;have h2:j<1073741824:=hc.2;exact floordiv_int (by omega) (by rw[Int.fdiv_eq_ediv_of_nonneg i (by omega)];exact q) (.inl (PyProof.noPylong_small (by omega)))
theorem Yb:xq X (Aj .Mod) (rI (λ_ j=>0<j) λi j=>.int (i%j)):=opI λi j _ _ _ _ _ hc q=>by have h1:(0:Int)<j:=hc;exact mod_int' (by omega) (by rw[Int.fmod_eq_emod_of_nonneg i (by omega)];exact q)
end
def abp:V->V->Bool
 |.gT,.gT=>true|.gT,.int _=>true|.int _,.gT=>true|.gT,.bl _=>true|.bl _,.gT=>true|.gT,.str _=>true|.str _,.gT=>true
 |.int _,.int _=>true|.bl _,.bl _=>true|.str _,.str _=>true|.Ml _,.Ml _=>true
 |.int _,.str _=>true|.str _,.int _=>true|.bl _,.str _=>true|.str _,.bl _=>true
 |_,_=>false
def rEq:R2:=λx y H Q=>abp x y=true/\Q (.bl (decide (x=y))) H
def rNe:R2:=λx y H Q=>abp x y=true/\Q (.bl (!decide (x=y))) H
theorem OH{i j:Int}:decide (V.int i=V.int j)=(i==j):=by rw[mI];simp
theorem Sf{i j:Bool}:decide (V.bl i=V.bl j)=(i==j):=by rw[mI];simp
theorem OI{i j:Str}:decide (V.str i=V.str j)=(i==j):=by rw[mI];simp
theorem OJ{i j:Array UInt8}:decide (V.Ml i=V.Ml j)=(i.toList==j.toList):=by
 rw[mI];cases i;cases j;simp
section
variable{X:Cx}{a b c:Expr}{ta tb tc:TE}{pos:Pos}
theorem eY{pins:List (af×Obj)}{σ:St}{H:Hp}{s:ay}{Q:VK}{k k':Bool}(I:Inv X pins σ H s)(q:Q (.bl k) H)(e:k=k'):EP X pins σ Q (.bool k') s:=by subst e;exact⟨.bl k,H,I,rfl,q⟩
theorem ji:xq X (d8 .Eq) rEq:=by
 intro pins s σ H x y v u Q I rx ry h;obtain⟨hs,q⟩:=h
 cases x with
 |gT=>
  cases rx
  cases y with
  |gT=>cases ry;exact PySem.EqNone.eq_none_none (eY I q (by simp))
  |bl j=>cases ry;exact PySem.EqNone.eq_none_bool (eY I q (by simp))
  |int j=>obtain⟨t',rfl⟩:=ry;exact PySem.EqNone.eq_none_int (eY I q (by simp))
  |str j=>obtain⟨t',rfl⟩:=ry;exact PySem.EqNone.eq_none_str (eY I q (by simp))
  |_=>exact absurd (show false=true from hs) aY
 |bl i=>
  cases rx
  cases y with
  |gT=>cases ry;exact PySem.EqNone.eq_bool_none (eY I q (by simp))
  |bl j=>cases ry;exact eq_bool (eY I q Sf)
  |str j=>obtain⟨t',rfl⟩:=ry;exact PySem.EqMixed.eq_bool_str (eY I q (by simp))
  |_=>exact absurd (show false=true from hs) aY
 |int i=>
  obtain⟨t,rfl⟩:=rx
  cases y with
  |gT=>cases ry;exact PySem.EqNone.eq_int_none (eY I q (by simp))
  |int j=>obtain⟨t',rfl⟩:=ry;exact eq_int (eY I q OH)
  |str j=>obtain⟨t',rfl⟩:=ry;exact PySem.EqMixed.eq_int_str (eY I q (by simp))
  |_=>exact absurd (show false=true from hs) aY
 |str i=>
  obtain⟨t,rfl⟩:=rx
  cases y with
  |gT=>cases ry;exact PySem.EqNone.eq_str_none (eY I q (by simp))
  |bl j=>cases ry;exact PySem.EqMixed.eq_str_bool (eY I q (by simp))
  |int j=>obtain⟨t',rfl⟩:=ry;exact PySem.EqMixed.eq_str_int (eY I q (by simp))
  |str j=>obtain⟨t',rfl⟩:=ry;exact eq_str (eY I q OI)
  |_=>exact absurd (show false=true from hs) aY
 |Ml i=>
  obtain⟨t,rfl⟩:=rx
  cases y with
  |Ml j=>obtain⟨t',rfl⟩:=ry;exact PySem.W.eq_bytes (eY I q OJ)
  |_=>exact absurd (show false=true from hs) aY
 |_=>cases y<;>exact absurd (show false=true from hs) aY
theorem C0:xq X (d8 .NotEq) rNe:=by
 intro pins s σ H x y v u Q I rx ry h;obtain⟨hs,q⟩:=h
 cases x with
 |gT=>
  cases rx
  cases y with
  |gT=>cases ry;exact PySem.EqNone.ne_none_none (eY I q (by simp))
  |bl j=>cases ry;exact PySem.EqNone.ne_none_bool (eY I q (by simp))
  |int j=>obtain⟨t',rfl⟩:=ry;exact PySem.EqNone.ne_none_int (eY I q (by simp))
  |str j=>obtain⟨t',rfl⟩:=ry;exact PySem.EqNone.ne_none_str (eY I q (by simp))
  |_=>exact absurd (show false=true from hs) aY
 |bl i=>
  cases rx
  cases y with
  |gT=>cases ry;exact PySem.EqNone.ne_bool_none (eY I q (by simp))
  |bl j=>cases ry;exact ne_bool (eY I q (congrArg not Sf))
  |str j=>obtain⟨t',rfl⟩:=ry;exact PySem.EqMixed.ne_bool_str (eY I q (by simp))
  |_=>exact absurd (show false=true from hs) aY
 |int i=>
  obtain⟨t,rfl⟩:=rx
  cases y with
  |gT=>cases ry;exact PySem.EqNone.ne_int_none (eY I q (by simp))
  |int j=>obtain⟨t',rfl⟩:=ry;exact ne_int (eY I q (congrArg not OH))
  |str j=>obtain⟨t',rfl⟩:=ry;exact PySem.EqMixed.ne_int_str (eY I q (by simp))
  |_=>exact absurd (show false=true from hs) aY
 |str i=>
  obtain⟨t,rfl⟩:=rx
  cases y with
  |gT=>cases ry;exact PySem.EqNone.ne_str_none (eY I q (by simp))
  |bl j=>cases ry;exact PySem.EqMixed.ne_str_bool (eY I q (by simp))
  |int j=>obtain⟨t',rfl⟩:=ry;exact PySem.EqMixed.ne_str_int (eY I q (by simp))
  |str j=>obtain⟨t',rfl⟩:=ry;exact ne_str (eY I q (congrArg not OI))
  |_=>exact absurd (show false=true from hs) aY
 |Ml i=>
  obtain⟨t,rfl⟩:=rx
  cases y with
  |Ml j=>obtain⟨t',rfl⟩:=ry;exact PySem.W.ne_bytes (eY I q (congrArg not OJ))
  |_=>exact absurd (show false=true from hs) aY
 |_=>cases y<;>exact absurd (show false=true from hs) aY
theorem C1:xq X (d8 .Lt) (Vy λi j=>.bl (decide (i<j))):=Vz λ_ _ _ _ _ _ _ q=>lt_int q
theorem ip:xq X (d8 .LtE) (Vy λi j=>.bl (decide (i<=j))):=Vz λ_ _ _ _ _ _ _ q=>le_int q
theorem OK:xq X (d8 .Gt) (Vy λi j=>.bl (decide (j<i))):=Vz λ_ _ _ _ _ _ _ q=>gt_int q
theorem W3:xq X (d8 .GtE) (Vy λi j=>.bl (decide (j<=i))):=Vz λ_ _ _ _ _ _ _ q=>ge_int q
theorem C2:xq X (d8 .Is) (λx y H Q=>y=.gT/\Q (.bl (decide (x=.gT))) H):=by
 intro pins s σ H x y v u Q I rx ry h;obtain⟨rfl,q⟩:=h;cases ry;refine is_none_gen (eY I q ?_);cases x<;>first
  |(cases rx;rfl)
  |(obtain⟨t,rfl⟩:=rx;rfl)
theorem CG:xq X (d8 .IsNot) (λx y H Q=>y=.gT/\Q (.bl (!decide (x=.gT))) H):=by
 intro pins s σ H x y v u Q I rx ry h;obtain⟨rfl,q⟩:=h;cases ry;refine isnot_none_gen (eY I q ?_);cases x<;>first
  |(cases rx;rfl)
  |(obtain⟨t,rfl⟩:=rx;rfl)
theorem cx(b:Expr){op:XI}(h:op≠.In:=by decide)(h2:op≠.NotIn:=by decide):qM op b=false:=by
 have e1:(op==CmpOp.In)=false:=by cases op<;>first|rfl|exact absurd rfl h
 have e2:(op==CmpOp.NotIn)=false:=by cases op<;>first|rfl|exact absurd rfl h2
 cases b<;>simp[qM,e1,e2]
theorem iT{op:XI}{r:R2}(ho:xq X (d8 op) r)(ha:PE X a ta)(hb:PE X b tb)(hm:qM op b=false):PE X (.Compare a [op] [b] pos) (Vx r ta tb):=by intro pins s σ H Q I h;exact wpAny_Compare1 (X8 ha hb I h λv u s2 x y H2 I2 rx ry q=>ho pins s2 σ H2 x y v u Q I2 rx ry q) hm
def Sg(t:TE):TT:=λσ H Q=>t σ H λx H'=>∃k,x=.bl k/\Q k H'
theorem cB{op:XI}{r:R2}(ho:xq X (d8 op) r)(ha:PE X a ta)(hb:PE X b tb)(hm:qM op b=false):PT X (.Compare a [op] [b] pos) (Sg (Vx r ta tb)):=by
 intro pins s σ H Q I h;refine aaS (iw (ha pins s σ H _ I h) λv s1 ⟨x,H1,I1,r1,q1⟩=>iw (hb pins s1 σ H1 _ I1 q1) λu s2 ⟨y,H2,I2,r2,q2⟩=>iw (ho pins s2 σ H2 x y v u _ I2 r1 r2 q2) λc s3 ⟨z,H3,I3,r3,k,e,q3⟩=>?_) hm;subst e;cases r3;exact fJ ⟨H3,I3,q3⟩
def Sh(r r':R2)(ta tb tc:TE):TE:=λσ H Q=>ta σ H λx H1=>tb σ H1 λy H2=>r x y H2 λz H3=>∃k,z=.bl k/\
 (if k=true then tc σ H3 λw' H4=>r' y w' H4 Q else Q (.bl false) H3)
theorem jR{op Yc:XI}{r r':R2}(ho:xq X (d8 op) r)(OF:xq X (d8 Yc) r')(ha:PE X a ta)(hb:PE X b tb)(hc:PE X c tc)(hm:lastMarks [op,Yc] [b,c]=false:=by with_unfolding_all rfl):PE X (.Compare a [op,Yc] [b,c] pos) (Sh r r' ta tb tc):=by
 intro pins s σ H Q I h;refine Compare_chain (iw (ha pins s σ H _ I h) λv s1 ⟨x,H1,I1,r1,q1⟩=>chain_link (iw (hb pins s1 σ H1 _ I1 q1) λu s2 ⟨y,H2,I2,r2,q2⟩=>iw (ho pins s2 σ H2 x y v u _ I2 r1 r2 q2) λd s3 ⟨z,H3,I3,r3,k,e,q3⟩=>?_)) hm;subst e;cases r3;refine fJ ?_
 cases k with
 |false=>exact ite_ff ⟨.bl false,H3,I3,rfl,q3⟩
 |true=>exact ite_tt (chain_last (iw (hc pins s3 σ H3 _ I3 q3) λw' s4 ⟨z',H4,I4,r4,q4⟩=>OF pins s4 σ H4 y z' u w' Q I4 r2 r4 q4))
theorem zc{op Yc:XI}{r r':R2}(ho:xq X (d8 op) r)(OF:xq X (d8 Yc) r')(ha:PE X a ta)(hb:PE X b tb)(hc:PE X c tc)(hm:lastMarks [op,Yc] [b,c]=false:=by with_unfolding_all rfl):PT X (.Compare a [op,Yc] [b,c] pos) (Sg (Sh r r' ta tb tc)):=by
 intro pins s σ H Q I h;refine isTrue_chain (iw (ha pins s σ H _ I h) λv s1 ⟨x,H1,I1,r1,q1⟩=>test_link (iw (hb pins s1 σ H1 _ I1 q1) λu s2 ⟨y,H2,I2,r2,q2⟩=>iw (ho pins s2 σ H2 x y v u _ I2 r1 r2 q2) λd s3 ⟨z,H3,I3,r3,k,e,q3⟩=>?_)) hm;subst e;cases r3;refine fJ ?_
 cases k with
 |false=>
  obtain⟨k',e',q'⟩:=q3;cases e';exact ite_ff ⟨H3,I3,q'⟩
 |true=>
  refine ite_tt (test_last (iw (hc pins s3 σ H3 _ I3 q3) λw' s4 ⟨z',H4,I4,r4,q4⟩=>iw (OF pins s4 σ H4 y z' u w' _ I4 r2 r4 q4) λd' s5 ⟨z2,H5,I5,r5,k2,e2,q5⟩=>?_));subst e2;cases r5;exact fJ ⟨H5,I5,q5⟩
theorem C3:(az:Nat)<2^63:=by rw[PX];decide
theorem x6:xq X (Aj .Add) (λx y H Q=>∃i j,x=.str i/\y=.str j/\i.length+j.length<=az/\Q (.str (i++j)) H):=by intro pins s σ H x y v u Q I rx ry h;obtain⟨i,j,rfl,rfl,hz,q⟩:=h;obtain⟨t,rfl⟩:=rx;obtain⟨t',rfl⟩:=ry;exact add_str (λt' tk=>⟨.str (i++j),H,I.tok _,⟨_,rfl⟩,q⟩) hz
theorem vals1{x:V}{us:List aj}(r:Vals [x] us):∃u,us=[u]/\RelV x u:=by
 cases r with
 |cons r1 r2=>cases r2;exact⟨_,rfl,r1⟩
theorem vals2{x y:V}{us:List aj}(r:Vals [x,y] us):∃u w',us=[u,w']/\RelV x u/\RelV y w':=by
 cases r with
 |cons r1 r2=>
  cases r2 with
  |cons r3 r4=>cases r4;exact⟨_,_,rfl,r1,r3⟩
theorem Az(hc:X.calm=true):kj X (.builtin "max") (λxs H Q=>∃i j,xs=[.int i,.int j]/\Q (.int (if j>i then j else i)) H):=by
 intro pins s σ H xs us Q I r h;obtain⟨i,j,rfl,q⟩:=h;obtain⟨u,w',rfl,⟨t,rfl⟩,⟨t',rfl⟩⟩:=vals2 r;refine max_two_ints (I.ok.hd hc) λh' tk k=>⟨_,H,I.kept k,?_,q⟩;by_cases hj:j>i
 ·rw[if_pos hj,if_pos hj];exact⟨_,rfl⟩
 ·rw[if_neg hj,if_neg hj];exact⟨_,rfl⟩
theorem Qe(hc:X.calm=true):kj X (.builtin "min") (λxs H Q=>∃i j,xs=[.int i,.int j]/\Q (.int (if j<i then j else i)) H):=by
 intro pins s σ H xs us Q I r h;obtain⟨i,j,rfl,q⟩:=h;obtain⟨u,w',rfl,⟨t,rfl⟩,⟨t',rfl⟩⟩:=vals2 r;refine min_two_ints (I.ok.hd hc) λh' tk k=>⟨_,H,I.kept k,?_,q⟩;by_cases hj:j<i
 ·rw[if_pos hj,if_pos hj];exact⟨_,rfl⟩
 ·rw[if_neg hj,if_neg hj];exact⟨_,rfl⟩
theorem l4:kj X (.type "str") (λxs H Q=>∃i,xs=[.int i]/\i.natAbs.log2<1920/\Q (.str (lV i)) H):=by intro pins s σ H xs us Q I r h;obtain⟨i,rfl,hz,q⟩:=h;obtain⟨u,rfl,t,rfl⟩:=vals1 r;exact PySem.P.str_of_int hz ⟨.str _,H,I.tok _,⟨_,rfl⟩,q⟩
theorem oV:kj X (.builtin "ord") (λxs H Q=>∃x,xs=[.str x]/\x.length=1/\Q (.int (x.cps.getD 0 0:Nat)) H):=by intro pins s σ H xs us Q I r h;obtain⟨x,rfl,hz,q⟩:=h;obtain⟨u,rfl,t,rfl⟩:=vals1 r;exact ord_of_one hz ⟨.int _,H,I.tok _,⟨_,rfl⟩,q⟩
end
end L2
namespace L2
open PySem PySem.Spec PyProof.Rows
structure MB(h:cu)(x dx C:af)(mA:Str->Option aj):Prop where
 obj:h.get? x=some (iY C dx)
 ns:h.Ns1 dx mA
 ne:dx≠x
theorem Qg{h:cu}{dx:af}{mA:Str->Option aj}(n:h.Ns1 dx mA):∃od,h.get? dx=some od/\∀name,Ak name od=some (mA name):=by
 obtain⟨o,es,ep,ho,hd,hk,_,hm⟩:=n;refine⟨o,ho,λname=>?_⟩;have e:=hm name;unfold nsFind findBy at e;rw[<-Array.find?_toList] at e;unfold Ak;rw[hd];dsimp only;split
 ·rename_i y q;rw[q] at e;exact congrArg some e
 ·rename_i q;rw[q] at e;have a:es.toList.any (·.refKey)=false:=by rw[List.any_eq_false];intro y hy;obtain⟨z,t,HB⟩:=hk y (Array.mem_toList_iff.mp hy);simp[DictEntry.refKey,HB]
  have a':¬es.toList.any (·.refKey)=true:=by rw[a];exact aY
  rw[if_neg a'];exact congrArg some e
theorem MB.look{h:cu}{x dx C:af}{mA:Str->Option aj}(I:MB h x dx C mA):∃od,PySem.W.InstAt h x (iY C dx) C (some od)/\∀name,Ak name od=some (mA name):=
 let⟨od,ho,hl⟩:=Qg I.ns
 ⟨od,⟨I.obj,rfl,rfl,ho⟩,hl⟩
section
variable{prog:bo}{w:bM}{A:cp}{E:aj->ay->Prop}{s:ay}{K:ah}{x dx C f:af}{mA:Str->Option aj}{name:Str}{v:aj}
theorem get_map{expr:Bool}{Q:aj->ay->Prop}(X:K.In s.heap)(I:MB s.heap x dx C mA)(hg:v9 K C name=true)(hh:E8 K C=true)(ha:fE K (.ref C) name=some none)(hv:mA name=some v)(uH:ZV v=true)(h:Q v {s with toks:=s.toks+1}):
  bg (model prog w) A (getAttr (.ref x) name expr) Q E s:=by
 obtain⟨od,J,hl⟩:=I.look;exact PySem.W.get_value X J (Bo hg).1 (PySem.W.findObj_own hh ha rfl (by rw[hl,hv])) uH h
theorem Si{pl:Sem Bool}{Q:aj×List aj->ay->Prop}(X:K.In s.heap)(I:MB s.heap x dx C mA)(hg:v9 K C name=true)(hf:fE K (.ref C) name=some (some (.ref f)))(ht:Ru K (.ref f)=true)(hv:mA name=none)(h:Q (.ref f,[.ref x]) s):
  bg (model prog w) A (Fy (.ref x) name pl) Q E s:=by
 obtain⟨od,J,hl⟩:=I.look;exact PySem.W.method_fn X J (Bo hg).1 (Bo hg).2 hf (beq_iff_eq.mp ht) (by show(Ak name od).map (·.isSome)=some false;rw[hl,hv];rfl) h
theorem VB{ns:List Str}{Q:Unit->ay->Prop}(X:K.In s.heap)(I:MB s.heap x dx C mA)(hs:fE K (.ref C) "__setattr__"=some (some (.builtin "object.__setattr__")))(hp:XA K C=true)(ht:JA K C name=some none)(hh:E8 K C=true)(hw:Rt mA ns)(hsz:ns.length<=az)(h:∀h',MB h' x dx C (λy=>if y=name then some v else mA y)->eE dx s.heap h'->Q () {s with heap:=h',toks:=s.toks+2}):
  bg (model prog w) A (setAttr (.ref x) name v) Q E s:=by
 obtain⟨od,J,hl⟩:=I.look;refine PySem.W.set_plain X J hs (PySem.W.osa_open (s:={s with toks:=s.toks+1}) (r:=none) X J hp ht λb=>?_);obtain⟨cd,hc,P6⟩:=PySem.W.any_some hh;have hx:s.heap.get? x=some ⟨.ref C,some dx,.plain,#[]⟩:=I.obj;refine ae (aI (ae (ae (wpAny_loadPart hx (ae (PySem.W.Looks.here (s:={s with toks:=s.toks+1}) (PySem.W.looks_clsIn X hc) ?_))))));rw[P6];refine aI (a:=some dx) (ae (aI (ae ?_)));refine wpAny_nsSet1 (s:={s with toks:=s.toks+1}) I.ns λh' hn2 Fl=>?_;obtain⟨oD,esD,epD,hoD,hdD,hcD⟩:=hn2.count (PySem.Within.cons name v hw);refine ae (wpAny_lookBehind hoD (by rw[hdD];exact pastItsLine_dict (ak hcD (by rw[aV];omega))) ?_);exact aI (h _ ⟨(Fl.2 _ (mM I.ne)).trans I.obj,hn2,I.ne⟩ Fl)
theorem Sj{R:aaf->ay->Prop}{vs:List aj}{kw:List (Str×aj)}(X:K.In s.heap)(hm:aaY K C=true)(hi:fE K (.ref C) "__init__"=some (some (.ref f)))(hf:PySem.W.typeIn K (.ref f)=some (.type "function"))(h:qO (model prog w) (A.under (.builtin "type.__call__" ⟨.ref C::vs,kw⟩)) (.call (.ref f) ⟨.ref (s.heap.objs.size+1)::vs,kw⟩) (PySem.W.InitBack (s.heap.objs.size+1) R) {s with heap:=(s.heap.push gi).push (iY C s.heap.objs.size)}):
  qO (model prog w) A (.call (.ref C) ⟨vs,kw⟩) R s:=by
 obtain⟨hh,g,d,t,os⟩:=s;exact PySem.W.make_core (PySem.W.makes_of X hm) (PySem.W.looks_findIn X hi) (λself=>PySem.W.bind_fn X self hf) (.inl rfl) h
end
def dX(f:Str)(v:V):List (Str×V)->List (Str×V)
 |[]=>[(f,v)]
 |(g,x)::r=>if g=f then(g,v)::r else(g,x)::dX f v r
theorem Bv(f g:Str)(v:V):∀fs:List (Str×V),(dX f v fs).lookup g=if g=f then some v else fs.lookup g
 |[]=>by
  show mW g [(f,v)]=_;by_cases h:g=f
  ·have hb:(g==f)=true:=beq_iff_eq.mpr h;simp only[mW,hb,if_pos h]
  ·have hb:(g==f)=false:=beq_eq_false_iff_ne.mpr h;simp only[mW,hb,if_neg h]
 |(k,x)::r=>by
  have ih:=Bv f g v r;rw[show dX f v ((k,x)::r)=(if k=f then(k,v)::r else(k,x)::dX f v r) from rfl];by_cases hk:k=f
  ·rw[if_pos hk];by_cases h:g=k
   ·have hb:(g==k)=true:=beq_iff_eq.mpr h;simp only[mW,hb,if_pos (h.trans hk)]
   ·have hb:(g==k)=false:=beq_eq_false_iff_ne.mpr h;simp only[mW,hb,if_neg (λe:g=f=>h (e.trans hk.symm))]
  ·rw[if_neg hk];by_cases h:g=k
   ·have hb:(g==k)=true:=beq_iff_eq.mpr h;simp only[mW,hb,if_neg (λe:g=f=>hk (h.symm.trans e))]
   ·have hb:(g==k)=false:=beq_eq_false_iff_ne.mpr h;simp only[mW,hb];exact ih
theorem AA(f:Str)(v:V):∀fs:List (Str×V),f∈(dX f v fs).map (·.1)/\∀g,g∈fs.map (·.1)->g∈(dX f v fs).map (·.1)
 |[]=>⟨by simp[dX],λg h=>by simp at h⟩
 |(k,x)::r=>by
  obtain⟨i1,i2⟩:=AA f v r;rw[show dX f v ((k,x)::r)=(if k=f then(k,v)::r else(k,x)::dX f v r) from rfl];by_cases hk:k=f
  ·rw[if_pos hk];subst hk;exact⟨by simp,λg h=>by simpa using h⟩
  ·rw[if_neg hk];refine⟨?_,λg h=>?_⟩
   ·rw[bp];exact bS _ i1
   ·rw[bp] at h⊢;rcases aA.mp h with e|e
    ·exact aA.mpr (.inl e)
    ·exact bS _ (i2 g e)
theorem lO(f:Str)(v:V):∀fs:List (Str×V),(dX f v fs).length<=fs.length+1
 |[]=>by simp[dX]
 |(k,x)::r=>by
  have ih:=lO f v r;rw[show dX f v ((k,x)::r)=(if k=f then(k,v)::r else(k,x)::dX f v r) from rfl];by_cases hk:k=f
  ·rw[if_pos hk,aV,aV];omega
  ·rw[if_neg hk,aV,aV];omega
theorem ue.some_of{v:V}{o:Option aj}(r:ue (some v) o):∃u,o=some u/\RelV v u:=by
 cases o with
 |none=>exact(show False from r).elim
 |some u=>exact⟨u,rfl,r⟩
theorem ue.none_of{o:Option aj}(r:ue none o):o=none:=by
 cases o with
 |none=>rfl
 |some u=>exact(show False from r).elim
theorem Qh{v:V}{u:aj}(r:RelV v u):ZV u=true:=by
 cases v with
 |gT=>cases(show u=gF from r);rfl
 |bl b=>cases(show u=kI b from r);rfl
 |int i=>obtain⟨t,e⟩:=(show∃t,u=Ou i t from r);cases e;rfl
 |str x=>obtain⟨t,e⟩:=(show∃t,u=Ov x t from r);cases e;rfl
 |Ml b=>obtain⟨t,e⟩:=(show∃t,u=Value.bytes b t from r);cases e;rfl
 |XS b=>obtain⟨t,e⟩:=(show∃t,u=adz b t from r);cases e;rfl
 |ref a=>cases(show u=bu a from r);rfl
 |ty n=>cases(show u=mE n from r);rfl
section
variable{P:bo}{w:bM}{H H':Hp}{h h':cu}{a C dx:af}{fs fs':List (Str×V)}
theorem CH(dI:uf P w H h)(e:H a=some (.ins C dx fs)):∃mA,MB h a dx C mA/\(∀f,ue (fs.lookup f) (mA f))/\Rt mA (fs.map (·.1))/\fs.length<=1000/\H dx=some (.own a):=by obtain⟨d,z,ne,ob,mA,n,r,q⟩:=(show fB P w H h a (.ins C dx fs) from dI a _ e);exact⟨mA,⟨ob,n,ne⟩,r,q,z,d⟩
end
structure C4(K:ah)(C:af):Prop where
 pg:v9 K C Str.empty=true
 hd:E8 K C=true
 po:XA K C=true
 sa:fE K (.ref C) "__setattr__"=some (some (.builtin "object.__setattr__"))
theorem C4.get{K:ah}{C:af}(c:C4 K C)(f:Str):v9 K C f=true:=c.pg
def dR(K:ah)(C:af)(f:Str):Prop:=fE K (.ref C) f=some none
theorem dR.abq{K:ah}{C:af}{f:Str}(n:dR K C f):JA K C f=some none:=by unfold JA;rw[show fE K (.ref C) f=some none from n];rfl
structure Meth(K:ah)(C:af)(m:Str)(f:af):Prop where
 at_:fE K (.ref C) m=some (some (.ref f))
 fn:Ru K (.ref f)=true
 kp:kW K (.ref f)=true
section
variable{X:Cx}{pins:List (af×Obj)}{σ:St}{H:Hp}{s:ay}{a C dx:af}{fs:List (Str×V)}{f:Str}{v:V}{A:cp}{E:aj->ay->Prop}
theorem MC{b:Bool}{Q:aj->ay->Prop}(I:Inv X pins σ H s)(e:H a=some (.ins C dx fs))(c:C4 X.K C)(n:dR X.K C f)(l:fs.lookup f=some v)(h:∀u s',Inv X pins σ H s'->RelV v u->Q u s'):bg (model X.prog X.w) A (getAttr (.ref a) f b) Q E s:=by obtain⟨mA,O,r,_,_,_⟩:=CH I.dI e;obtain⟨u,hu,ru⟩:=ue.some_of (v:=v) (o:=mA f) (by rw[<-l];exact r f);exact get_map I.Ax O (c.get f) c.hd n hu (Qh ru) (h u _ (I.tok _) ru)
theorem C5{m:Str}{g:af}{pl:Sem Bool}{Q:aj×List aj->ay->Prop}(I:Inv X pins σ H s)(e:H a=some (.ins C dx fs))(c:C4 X.K C)(k:Meth X.K C m g)(l:fs.lookup m=none)(h:Q (.ref g,[.ref a]) s):bg (model X.prog X.w) A (Fy (.ref a) m pl) Q E s:=by obtain⟨mA,O,r,_,_,_⟩:=CH I.dI e;have hn:mA m=none:=ue.none_of (by rw[<-l];exact r m);exact Si I.Ax O (c.get m) k.at_ k.fn hn h
theorem MD{y:V}{u:aj}{Q:Unit->ay->Prop}(I:Inv X pins σ H s)(e:H a=some (.ins C dx fs))(c:C4 X.K C)(n:dR X.K C f)(hl:fs.length<1000)(ry:RelV y u)(h:∀s',Inv X pins σ (upd H a (.ins C dx (dX f y fs))) s'->Q () s'):bg (model X.prog X.w) A (setAttr (.ref a) f u) Q E s:=by
 obtain⟨mA,O,r,wi,_,ho⟩:=CH I.dI e;have hz:(fs.map (·.1)).length<=az:=by rw[aa,PX];omega
 refine VB I.Ax O c.sa c.po n.abq c.hd wi hz λh' O' sb=>h _ ?_;have hd:∃o,h'.get? dx=some o:=let⟨o,_,_,e',_⟩:=O'.ns;⟨o,e'⟩;refine I.write (x:=a) (e:=dx) (by rw[e];exact jh) (.inr ho) (λb q hb z=>(sb.2 b hb).trans z) hd ?_;refine⟨by rw[ax O.ne];exact ho,?_,O.ne,O'.obj,_,O'.ns,λg=>?_,λg hg=>?_⟩
 ·have:=lO f y fs;omega
 ·show ue ((dX f y fs).lookup g) (if g=f then some u else mA g);rw[Bv];by_cases q:g=f
  ·rw[if_pos q,if_pos q];exact ry
  ·rw[if_neg q,if_neg q];exact r g
 ·by_cases q:g=f
  ·rw[q];exact(AA f y fs).1
  ·refine(AA f y fs).2 g (wi g λz=>hg ?_);show(if g=f then some u else mA g)=none;rw[if_neg q];exact z
theorem Inv.made(I:Inv X pins σ H s):Inv X pins σ (upd (upd H s.heap.objs.size (.own (s.heap.objs.size+1))) (s.heap.objs.size+1) (.ins C s.heap.objs.size [])) {s with heap:=(s.heap.push gi).push (iY C s.heap.objs.size)}:=by
 have e1:(s.heap.push gi).get? s.heap.objs.size=some gi:=aT s.heap rfl;have e2:((s.heap.push gi).push (iY C s.heap.objs.size)).get? (s.heap.objs.size+1)=some (iY C s.heap.objs.size):=by have:=aT (s.heap.push gi) (o:=iY C s.heap.objs.size) rfl;rwa[cH] at this
 have e3:(s.heap.push gi).Ns s.heap.objs.size (λ_=>none):=⟨gi,#[],_,e1,rfl,(λe he=>absurd he (by simp)),λ_=>rfl⟩;have I1:=I.laid (a:=s.heap.objs.size) (o:=.own (s.heap.objs.size+1)) (h':=s.heap.push gi) (t':=s.toks) (λb u q=>ai _ q) (aJ _) ⟨_,e1⟩;refine I1.laid (a:=s.heap.objs.size+1) (o:=.ins C s.heap.objs.size []) (t':=s.toks) (λb u q=>ai _ q) (xo (cH _ _)) ?_;have ne:s.heap.objs.size≠s.heap.objs.size+1:=bR (oH _);refine⟨by rw[ax ne,ag],bB _,ne,e2,λ_=>none,(Heap.Ns1.of_empty e3).at λo q=>ai _ q,λ_=>jh,λy hy=>absurd rfl hy⟩
theorem VC{prog:bo}{w:bM}{env:Env}{e:Expr}{f:Str}{pos:Pos}{s:ay}{Q:aj->ay->Prop}(hb:fU e f env (eval e env)=eval e env)(h:bg (model prog w) A (eval e env) (λo s₁=>bg (model prog w) A (getAttr o f true) Q E s₁) E s):bg (model prog w) A (eval (.Attribute e f pos) env) Q E s:=Attribute_any_ h (by rw[arm_eval_Attribute,hb])
end
def abr(K:ah)(ta:TE)(f:Str):TE:=λσ H Q=>ta σ H λx H1=>∃a C dx fs v,x=.ref a/\H1 a=some (.ins C dx fs)/\C4 K C/\dR K C f/\fs.lookup f=some v/\Q v H1
def aeT(K:ah)(ta tv:TE)(f:Str):TS:=λD σ H=>tv σ H λy H1=>ta σ H1 λx H2=>∃a C dx fs,x=.ref a/\H2 a=some (.ins C dx fs)/\C4 K C/\dR K C f/\fs.length<1000/\
 D.nx σ (upd H2 a (.ins C dx (dX f y fs)))
section
variable{X:Cx}{o e value:Expr}{f:Str}{pos pos' ug:Pos}{ta tv:TE}
theorem bj(he:PE X e ta)(hb:fU e f X.env (eval e X.env)=eval e X.env):PE X (.Attribute e f pos) (abr X.K ta f):=by intro pins s σ H Q I h;refine VC hb (iw (he pins s σ H _ I h) λu s1 ⟨x,H1,I1,rx,a,C,dx,fs,v,ex,ea,c,n,l,q⟩=>?_);subst ex;obtain rfl:u=bu a:=rx;exact MC I1 ea c n l λu' s2 I2 ru=>⟨v,H1,I2,ru,q⟩
theorem dZ(ha:PE X o ta)(hv:PE X value tv)(hs:Ai value (some (.Attribute o f pos')) pos.line X.env=pure false):PS X (.Assign [.Attribute o f pos'] value pos) (aeT X.K ta tv f):=by intro pins s σ H D I h;refine plainObj_wpAny_Assign_Attribute (iw (hv pins s σ H _ I h) λu s1 ⟨y,H1,I1,ry,q⟩=>iw (ha pins s1 σ H1 _ I1 q) λov s2 ⟨x,H2,I2,rx,a,C,dx,fs,ex,ea,c,n,l,q2⟩=>?_) hs;subst ex;obtain rfl:ov=bu a:=rx;exact MD I2 ea c n l ry λs3 I3=>⟨σ,_,I3,q2⟩
end
section
variable{X:Cx}{pins:List (af×Obj)}{σ:St}{H:Hp}{s:ay}{A:cp}{E:aj->ay->Prop}{Q:aj->ay->Prop}{c:aj}{b:Bool}
inductive AB(K:ah)(H:Hp):V->aj->Prop where
 |gT:AB K H .gT (.type "NoneType")
 |bl (x:Bool):AB K H (.bl x) (.type "bool")
 |int (i:Int):AB K H (.int i) (.type "int")
 |str (x:Str):AB K H (.str x) (.type "str")
 |XS (x:UInt64):AB K H (.XS x) (.type "float")
 |lst {a:af} {xs:List V} (e:H a=some (.lst xs)):AB K H (.ref a) (.type "list")
 |uD {a:af} {o:Obj} {xs:List V} (e:H a=some (.uD o (.lst xs))):AB K H (.ref a) (.type "list")
 |tup {a:af} {xs:List V} (e:H a=some (.tup xs)):AB K H (.ref a) (.type "tuple")
 |dK {a:af} {kvs:List (Key×V)} (e:H a=some (.dK kvs)):AB K H (.ref a) (.type "dict")
 |dT {a:af} {kvs:List (List Key×V)} (e:H a=some (.dT kvs)):AB K H (.ref a) (.type "dict")
 |ins {a C dx:af} {fs:List (Str×V)} (e:H a=some (.ins C dx fs)) (cl:C4 K C) (ha:fE K (.ref C) "__class__"=some (some (.builtin "object.__class__")))
   (hn:XB K (.builtin "object.__class__") "__get__"=some (some (.builtin "getset_descriptor.__get__"))) (htk:aaZ K (.builtin "object.__class__")=some true)
   (hm:Ox K C (.type "object")=some true):AB K H (.ref a) (.ref C)
theorem Qi{x:V}{u t:aj}(I:Inv X pins σ H s)(rx:RelV x u)(ty:AB X.K H x t)(e:Al X.K t c=some b)(h:∀tk,Q (.bool b) {s with toks:=tk}):
  bg (model X.prog X.w) A (call (.builtin "isinstance") [u,c]) Q E s:=by
 cases ty with
 |gT=>cases(show u=gF from rx);exact fG PySem.W.kitx_none I.Ax jh e (λz=>nomatch z) h
 |bl y=>cases(show u=kI y from rx);exact fG PySem.W.kitx_bool I.Ax jh e (λz=>nomatch z) h
 |int i=>obtain⟨t,q⟩:=(show∃t,u=Ou i t from rx);cases q;exact fG PySem.W.kitx_int I.Ax jh e (λz=>nomatch z) h
 |str y=>obtain⟨t,q⟩:=(show∃t,u=Ov y t from rx);cases q;exact fG PySem.W.kitx_str I.Ax jh e (λz=>nomatch z) h
 |XS y=>obtain⟨t,q⟩:=(show∃t,u=adz y t from rx);cases q;exact fG PySem.W.kitx_float I.Ax jh e (λz=>nomatch z) h
 |@lst a xs ea=>
  cases(show u=bu a from rx);obtain⟨_,_,n,_,h1⟩:=(show fB X.prog X.w H s.heap a (.lst xs) from I.dI a _ ea);exact fG XC I.Ax ⟨_,h1,rfl⟩ e (λz=>nomatch z) h
 |@uD a ob xs ea=>
  cases(show u=bu a from rx);obtain⟨_,_,_,n,_,h1⟩:=(show fB X.prog X.w H s.heap a (.uD ob (.lst xs)) from I.dI a _ ea);exact fG XC I.Ax ⟨_,h1,rfl⟩ e (λz=>nomatch z) h
 |@tup a xs ea=>
  cases(show u=bu a from rx);obtain⟨_,_,_,p⟩:=(show fB X.prog X.w H s.heap a (.tup xs) from I.dI a _ ea);obtain⟨o,h1,h2,_⟩:=p;exact fG PySem.W.kitx_tuple I.Ax ⟨o,h1,h2⟩ e (λz=>nomatch z) h
 |@dK a kvs ea=>
  cases(show u=bu a from rx);obtain⟨_,_,vs,_,p⟩:=(show fB X.prog X.w H s.heap a (.dK kvs) from I.dI a _ ea);obtain⟨o,es,ep,h1,h2,_⟩:=p;exact fG XD I.Ax ⟨o,h1,h2.1⟩ e (λz=>nomatch z) h
 |@dT a kvs ea=>
  cases(show u=bu a from rx);obtain⟨_,_,xs,_,o,es,ep,h1,h2,_⟩:=(show fB X.prog X.w H s.heap a (.dT kvs) from I.dI a _ ea);exact fG XD I.Ax ⟨o,h1,h2.1⟩ e (λz=>nomatch z) h
 |@ins a C dx fs ea cl ha hn htk hm=>
  cases(show u=bu a from rx);obtain⟨mA,O,_⟩:=CH I.dI ea;obtain⟨od,J,_⟩:=O.look;exact fG (PySem.W.kitx_own (cl.get _) cl.hd ha hn htk hm) I.Ax J e (λz=>nomatch z) h
end
end L2
namespace L2
open PySem PySem.Spec PyProof.Rows
structure jf(k:Nat)(A:cp):Prop where
 hd:A.handled=none
 dp:A.depth+3*k+5<vX
 un:A.units+16*k+200<lW
theorem jf.mono{j k:Nat}{A:cp}(r:jf k A)(h:j<=k:=by decide):jf j A:=⟨r.hd,by have:=r.dp;omega,by have:=r.un;omega⟩
theorem jf.deeper{k:Nat}{A:cp}(r:jf (k+1) A)(env:Env):jf k (A.deeper env):=⟨r.hd,by have:=r.dp;show A.depth+1+3*k+5<_;omega,by have:=r.un;show A.units+3+16*k+200<_;omega⟩
theorem jf.in1{k:Nat}{A:cp}(r:jf (k+1) A):jf k A.in1:=⟨r.hd,by have:=r.dp;show A.depth+3*k+5<_;omega,by have:=r.un;show A.units+1+16*k+200<_;omega⟩
theorem ME{A:cp}{C:af}{us:List aj}{kw:List (Str×aj)}:(A.under (.builtin "type.__call__" ⟨.ref C::us,kw⟩)).depth=A.depth+1:=by first|rfl|simp[ZS,Code.weight,Code.isCreation,Code.isGuard,Code.isCaller,Code.frames,ZT,guardIds]
theorem MF{A:cp}{C:af}{us:List aj}{kw:List (Str×aj)}:(A.under (.builtin "type.__call__" ⟨.ref C::us,kw⟩)).units=A.units+1:=by first|rfl|simp[ZS,Code.cUnits,Code.frames,ZT]
theorem jf.make{k:Nat}{A:cp}(r:jf (k+1) A)(C:af)(us:List aj)(kw:List (Str×aj)):jf k (A.under (.builtin "type.__call__" ⟨.ref C::us,kw⟩)):=⟨r.hd,by have:=r.dp;rw[ME];omega,by have:=r.un;rw[MF];omega⟩
theorem jf.depth{k:Nat}{A:cp}(r:jf k A):A.depth<vX:=by have:=r.dp;omega
theorem jf.units{k:Nat}{A:cp}(r:jf k A):A.units+64<lW:=by have:=r.un;omega
theorem jf.AD{k:Nat}{A:cp}(r:jf k A):A.units<lW:=by have:=r.un;omega
def uI:TA:=λ_ H Q=>Q [] H
def qR(ta:TE)(tr:TA):TA:=λσ H Q=>ta σ H λx H1=>tr σ H1 λxs H2=>Q (x::xs) H2
section
variable{X:Cx}{e:Expr}{es:List Expr}{te:TE}{t:TA}{pos:Pos}
theorem ao:PA X [] uI:=λ_ _ _ _ H Q I h=>Ma ⟨[],H,I,.nil,h⟩
theorem VD(ha:PE X e te)(hr:PA X es t)(hs:bL (e::es) X.env=(false,eval e X.env)::bL es X.env:=by rfl):PA X (e::es) (qR te t):=by intro pos pins s σ H Q I h;rw[hs];show bg _ _ (spliced ((false,eval e X.env)::fH pos (bL es X.env))) _ _ s;refine Jt (iw (ha pins s σ H _ I h) λu s1 ⟨x,H1,I1,r1,q1⟩=>?_);exact iw (hr pos pins s1 σ H1 _ I1 q1) λus s2 ⟨xs,H2,I2,r2,q2⟩=>⟨x::xs,H2,I2,.cons r1 r2,q2⟩
def aeU(t:TA):TE:=λσ H Q=>t σ H λxs H1=>xs.length<=az/\∀p,H1 p=none->Q (.ref p) (upd H1 p (.tup xs))
def aeV(t:TA):TE:=λσ H Q=>t σ H λxs H1=>xs.length<=az/\∀p,H1 p=none->Q (.ref p) (upd H1 p (.lst xs))
theorem Yd{x1}(h:PA X es t):PE X (.Tuple es x1 pos) (aeU t):=by intro pins s σ H Q I hq;refine wpAny_Tuple_spliced (iw (h pos pins s σ H _ I hq) λus s1 ⟨xs,H1,I1,r,z,q⟩=>⟨by rw[<-r.length];exact z,?_⟩);have hf:H1 s1.heap.objs.size=none:=I1.dI.fresh (aJ _);refine⟨.ref s1.heap.objs.size,upd H1 s1.heap.objs.size (.tup xs),I1.laid (t':=s1.toks) (λb u e=>ai _ e) (aJ _) ?_,rfl,q _ hf⟩;exact⟨z,us,r,⟨_,aT _ rfl,rfl,_,rfl⟩⟩
theorem bV(h:PA X es t):PE X (.List es pos) (aeV t):=by intro pins s σ H Q I hq;refine wpAny_List_spliced (iw (h pos pins s σ H _ I hq) λus s1 ⟨xs,H1,I1,r,z,q⟩=>⟨by rw[<-r.length];exact z,?_⟩);have hf:H1 s1.heap.objs.size=none:=I1.dI.fresh (aJ _);refine⟨.ref s1.heap.objs.size,upd H1 s1.heap.objs.size (.lst xs),I1.laid (t':=s1.toks) (λb u e=>ai _ e) (aJ _) ?_,rfl,q _ hf⟩;exact⟨z,us,0,r,aT _ rfl⟩
end
abbrev Sp:=List V->Hp->VK->XK->Prop
abbrev Vb:=List Env->Hp->ay->XK->aj->ay->Prop
structure MG(P:bo)(w:bM)(K:ah)(mg:Str->Option aj)(base:cu)(A:cp)(outer:List Env)(s:ay)(H:Hp):Prop where
 frames:A.frames=some outer
 mod:Mod K mg base
 bs:∀b o,base.get? b=some o->s.heap.get? b=some o/\H b=none
 U9:base.objs.size<=s.heap.objs.size
 B6:s.heap.FunFrames base outer
 XW:∀b∈RW outer,H b=none
 dI:uf P w H s.heap
 bare:Vl s.gens
def CE(outer:List Env)(P:bo)(w:bM)(H:Hp)(s:ay)(Q:VK)(u:aj)(s':ay):Prop:=∃v H',s'.os=s.os/\Vl s'.gens/\Un (RW outer) [] H H' s.heap s'.heap/\uf P w H' s'.heap/\RelV v u/\Q v H'
def CR(CX:Vb)(outer:List Env)(P:bo)(w:bM)(H:Hp)(s:ay)(Q:VK)(E:XK)(r:aaf)(s':ay):Prop:=
 match r with
 |.ok (.ret u)=>CE outer P w H s Q u s'
 |.ok _=>False
 |.error e=>CX outer H s E e s'
structure wI(P:bo)(w:bM)(K:ah)(mg:Str->Option aj)(base:cu)(CX:Vb)(k:Nat)(f:af)(fd:je)(ps:List Str)(sp:Sp):Prop where
 len:∀vs H Q E,sp vs H Q E->vs.length=ps.length
 run:∀(A:cp)(outer:List Env)(s:ay)(H:Hp)(args:Args)(us:List aj)(vs:List V)(Q:VK)(E:XK),jf k A->MG P w K mg base A outer s H->BindsTo s fd args (ps.zip us)->Vals vs us->sp vs H Q E->
  qO (model P w) A (.call (.ref f) args) (CR CX outer P w H s Q E) s
theorem wI.mono{P:bo}{w:bM}{K:ah}{mg:Str->Option aj}{base:cu}{CX:Vb}{j k:Nat}{f:af}{fd:je}{ps:List Str}{sp:Sp}(F:wI P w K mg base CX j f fd ps sp)(h:j<=k):
  wI P w K mg base CX k f fd ps sp:=⟨F.len,λA outer s H args us vs Q E hr=>F.run A outer s H args us vs Q E (hr.mono h)⟩
theorem MG.make{P:bo}{w:bM}{K:ah}{mg:Str->Option aj}{base:cu}{A:cp}{outer:List Env}{s:ay}{H:Hp}(e:MG P w K mg base A outer s H)(C:af)(us:List aj)(kw:List (Str×aj)):
  MG P w K mg base (A.under (.builtin "type.__call__" ⟨.ref C::us,kw⟩)) outer s H:=⟨by first|exact e.frames|(simpa[ZS,Code.envs,ZT,pushEnvs] using e.frames),e.mod,e.bs,e.U9,e.B6,e.XW,e.dI,e.bare⟩
section
variable{X:Cx}{pins:List (af×Obj)}{σ:St}{H:Hp}{s s':ay}
theorem Inv.abt(I:Inv X pins σ H s):MG X.prog X.w X.K X.mg X.base X.A X.stack s H:=⟨I.ok.frames,I.ok.mod,I.bs,ak I.ok.U9 I.sz,I.stack,I.Hy,I.dI,I.bare⟩
theorem Inv.after{Q:VK}{u:aj}(I:Inv X pins σ H s)(h:CE X.stack X.prog X.w H s Q u s'):EP X pins σ Q u s':=by obtain⟨v,H',os,bare,un,dI,r,q⟩:=h;obtain⟨hh,g,d,t,os'⟩:=s';obtain rfl:os'=s.os:=os;exact⟨v,H',I.call (h':=hh) (g':=g) (d':=d) (t':=t) (ch:=[]) un dI bare (λb z=>absurd z (by simp)),r,q⟩
end
def Sk(sp:Sp)(C6:List V)(E:XK)(t:TA):TE:=λσ H Q=>t σ H λvs H1=>sp (vs++C6) H1 Q E
def uJ(C:af)(m:Str)(sp:Sp)(C6:List V)(E:XK)(ta:TE)(t:TA):TE:=λσ H Q=>ta σ H λx H1=>∃a dx fs,x=.ref a/\H1 a=some (.ins C dx fs)/\fs.lookup m=none/\
 t σ H1 λvs H2=>sp (x::(vs++C6)) H2 Q E
def OL(C:af)(sp:Sp)(C6:List V)(E:XK)(t:TA):TE:=λσ H Q=>t σ H λvs H1=>∀x dx,H1 x=none->H1 dx=none->dx≠x->
 sp (.ref x::(vs++C6)) (upd (upd H1 dx (.own x)) x (.ins C dx [])) (λv H2=>v=.gT/\Q (.ref x) H2) E
def Binds(K:ah)(fd:je)(ps:List Str)(ds:List aj):Prop:=∀(s:ay)(us:List aj),K.In s.heap->(us++ds).length=ps.length->BindsTo s fd ⟨us,[]⟩ (ps.zip (us++ds))
theorem Binds.all{K:ah}{fd:je}{ps:List Str}(h:∀us:List aj,us.length=ps.length->Am fd ⟨us,[]⟩=pure (ps.zip us)):Binds K fd ps []:=λs us _ hl=>by rw[dE] at hl⊢;exact .of_eq (h us hl)
def Passes(CX:Vb)(X:Cx)(E:XK):Prop:=∀(pins:List (af×Obj))(σ:St)(H:Hp)(s:ay)(e:aj)(s':ay),Inv X pins σ H s->CX X.stack H s E e s'->X.xe e s'
section
variable{X:Cx}{CX:Vb}{k:Nat}{f C:af}{fd:je}{ps:List Str}{sp:Sp}{C6:List V}{ds:List aj}{E:XK}{x m:Str}{p pos apos:Pos}{e o:Expr}{es:List Expr}{ta:TE}{t:TA}
theorem HC{pins:List (af×Obj)}{σ:St}{H:Hp}{s:ay}{Q:VK}{us:List aj}{vs:List V}(F:wI X.prog X.w X.K X.mg X.base CX k f fd ps sp)(hr:jf k X.A)(hb:Binds X.K fd ps ds)(hd:Vals C6 ds)(hx:Passes CX X E)(I:Inv X pins σ H s)(r:Vals vs us)(h:sp (vs++C6) H Q E):bg (model X.prog X.w) X.A (call (.ref f) us) (EP X pins σ Q) X.xe s:=by
 have r2:Vals (vs++C6) (us++ds):=r.append hd;have hl:(us++ds).length=ps.length:=by rw[<-r2.length];exact F.len _ _ _ _ h
 refine Jx (kH (F.run X.A X.stack s H ⟨us,[]⟩ (us++ds) (vs++C6) Q E hr I.abt (hb s us I.Ax hl) r2 h) λr s' hq=>?_)
 cases r with
 |error e=>exact hx pins σ H s e s' I hq
 |ok fl=>
  cases fl with
  |ret u=>exact I.after hq
  |next=>exact dH hq
  |brk=>exact dH hq
  |cont=>exact dH hq
theorem VE(F:wI X.prog X.w X.K X.mg X.base CX k f fd ps sp)(hr:jf k X.A)(hg:Gl X x)(hm:X.mg x=some (.ref f))(hk:kW X.K (.ref f)=true)(hb:Binds X.K fd ps ds)(hd:Vals C6 ds)(hx:Passes CX X E)(ha:PA X (e::es) t)(HD:(x==("__debug__":Str))=false:=by decide)(he:bL (e::es) X.env=(false,eval e X.env)::bL es X.env:=by rfl)(wJ:(fH pos (bL es X.env)).any (·.1)=false:=by rfl):
  PE X (.Call (.Name x p) (e::es) [] pos) (Sk sp C6 E t):=by
 intro pins s σ H Q I h;refine i9 (CD I hg hm ?_ HD);refine rO (h₀:=X.base) I.ok.mod.kin hk (iw (ha pos pins s σ H _ I h) λus s1 ⟨vs,H1,I1,r,q⟩=>⟨I1.Ax,?_⟩) he wJ;exact HC F hr hb hd hx I1 r q
theorem VF{pl:Sem Bool}(he:PE X o ta)(c:C4 X.K C)(hm:Meth X.K C m f)(F:wI X.prog X.w X.K X.mg X.base CX k f fd ps sp)(hr:jf k X.A)(hb:Binds X.K fd ps ds)(hd:Vals C6 ds)(hx:Passes CX X E)(ha:PA X (e::es) t)(gu:bL (e::es) X.env=(false,eval e X.env)::bL es X.env:=by rfl)(wJ:(fH pos (bL es X.env)).any (·.1)=false:=by rfl)(ht:eval (.Call (.Attribute o m apos) (e::es) [] pos) X.env=(do
   let ov <-eval o X.env
   aad apos.atName
   let(f,first) <-holding [ov] (Fy ov m pl)
   pI pos f first (fH pos (bL (e::es) X.env)) (iH pos (eU [] X.env))):=by rfl):
  PE X (.Call (.Attribute o m apos) (e::es) [] pos) (uJ C m sp C6 E ta t):=by
 intro pins s σ H Q I h;refine RN (pl:=pl) (iw (he pins s σ H _ I h) λu s1 ⟨x,H1,I1,rx,a,dx,fs,ex,ea,l,q⟩=>?_) ht;subst ex;obtain rfl:u=bu a:=rx;refine C5 I1 ea c hm l ?_;refine rO (first:=[.ref a]) (h₀:=X.base) I.ok.mod.kin hm.kp (iw (ha pos pins s1 σ H1 _ I1 q) λus s2 ⟨vs,H2,I2,r,q2⟩=>⟨I2.Ax,?_⟩) gu wJ;exact HC (us:=.ref a::us) (vs:=.ref a::vs) F hr hb hd hx I2 (.cons rfl r) q2
theorem Sl{pl:Sem Bool}(he:PE X o ta)(c:C4 X.K C)(hm:Meth X.K C m f)(F:wI X.prog X.w X.K X.mg X.base CX k f fd ps sp)(hr:jf k X.A)(hb:Binds X.K fd ps ds)(hd:Vals C6 ds)(hx:Passes CX X E)(ht:eval (.Call (.Attribute o m apos) [] [] pos) X.env=(do
   let ov <-eval o X.env
   aad apos.atName
   let(f,first) <-holding [ov] (Fy ov m pl)
   pI pos f first (fH pos (bL [] X.env)) (iH pos (eU [] X.env))):=by rfl):
  PE X (.Call (.Attribute o m apos) [] [] pos) (uJ C m sp C6 E ta uI):=by
 intro pins s σ H Q I h;refine RN (pl:=pl) (iw (he pins s σ H _ I h) λu s1 ⟨x,H1,I1,rx,a,dx,fs,ex,ea,l,q⟩=>?_) ht;subst ex;obtain rfl:u=bu a:=rx;refine C5 I1 ea c hm l ?_;exact Vn (first:=[.ref a]) I1.Ax hm.kp (HC (us:=[.ref a]) (vs:=[.ref a]) F hr hb hd hx I1 (.cons rfl .nil) q)
structure Mk(K:ah)(C f:af):Prop where
 makes:aaY K C=true
 init:fE K (.ref C) "__init__"=some (some (.ref f))
 fn:Ru K (.ref f)=true
 kp:kW K (.ref C)=true
theorem JM{pins:List (af×Obj)}{σ:St}{H:Hp}{s:ay}{Q:VK}{us:List aj}{vs:List V}(M:Mk X.K C f)(F:wI X.prog X.w X.K X.mg X.base CX k f fd ps sp)(hr:jf (k+1) X.A)(hb:Binds X.K fd ps ds)(hd:Vals C6 ds)(hx:Passes CX X E)(I:Inv X pins σ H s)(r:Vals vs us)(h:∀x dx,H x=none->H dx=none->dx≠x->sp (.ref x::(vs++C6)) (upd (upd H dx (.own x)) x (.ins C dx [])) (λv H2=>v=.gT/\Q (.ref x) H2) E):
  bg (model X.prog X.w) X.A (call (.ref C) us) (EP X pins σ Q) X.xe s:=by
 have hq:=h (s.heap.objs.size+1) s.heap.objs.size (I.dI.fresh (U4 _)) (I.dI.fresh (aJ _)) (bR (oH _));have I2:=Inv.made (C:=C) I;have r2:Vals (V.ref (s.heap.objs.size+1)::(vs++C6)) (bu (s.heap.objs.size+1)::(us++ds)):=.cons rfl (r.append hd);have hl:(bu (s.heap.objs.size+1)::us++ds).length=ps.length:=by have e:=r2.length;rw[F.len _ _ _ _ hq] at e;exact e.symm
 refine Jx (Sj (f:=f) I.Ax M.makes M.init (beq_iff_eq.mp M.fn) (kH (F.run _ X.stack _ _ ⟨bu (s.heap.objs.size+1)::us,[]⟩ (bu (s.heap.objs.size+1)::(us++ds)) _ _ E (hr.make C us []) (I2.abt.make C us []) (hb _ (bu (s.heap.objs.size+1)::us) I2.Ax hl) r2 hq) λr s' Sm=>?_))
 cases r with
 |error e=>exact hx pins σ _ _ e s' I2 Sm
 |ok fl=>
  cases fl with
  |ret u=>obtain⟨v,H',I3,rv,ev,q3⟩:=I2.after Sm;subst ev;exact⟨rv,⟨V.ref (s.heap.objs.size+1),H',I3,rfl,q3⟩⟩
  |next=>exact dH Sm
  |brk=>exact dH Sm
  |cont=>exact dH Sm
theorem VG(M:Mk X.K C f)(F:wI X.prog X.w X.K X.mg X.base CX k f fd ps sp)(hr:jf (k+1) X.A)(hg:Gl X x)(hm:X.mg x=some (.ref C))(hb:Binds X.K fd ps ds)(hd:Vals C6 ds)(hx:Passes CX X E)(ha:PA X (e::es) t)(HD:(x==("__debug__":Str))=false:=by decide)(he:bL (e::es) X.env=(false,eval e X.env)::bL es X.env:=by rfl)(wJ:(fH pos (bL es X.env)).any (·.1)=false:=by rfl):
  PE X (.Call (.Name x p) (e::es) [] pos) (OL C sp C6 E t):=by
 intro pins s σ H Q I h;refine i9 (CD I hg hm ?_ HD);refine rO (h₀:=X.base) I.ok.mod.kin M.kp (iw (ha pos pins s σ H _ I h) λus s1 ⟨vs,H1,I1,r,q⟩=>⟨I1.Ax,?_⟩) he wJ;exact JM M F hr hb hd hx I1 r q
theorem Sn(M:Mk X.K C f)(F:wI X.prog X.w X.K X.mg X.base CX k f fd ps sp)(hr:jf (k+1) X.A)(hg:Gl X x)(hm:X.mg x=some (.ref C))(hb:Binds X.K fd ps ds)(hd:Vals C6 ds)(hx:Passes CX X E)(HD:(x==("__debug__":Str))=false:=by decide):PE X (.Call (.Name x p) [] [] pos) (OL C sp C6 E uI):=by intro pins s σ H Q I h;refine i9 (CD I hg hm ?_ HD);exact Vn I.Ax M.kp (JM (us:=[]) M F hr hb hd hx I .nil h)
end
structure bf(N P:List Str)(sc:Scope):Prop where
 kind:sc.kind=.function
 co:sc.isCoroutine=false
 gen:sc.isGenerator=false
 nd:N.Nodup
 pre:N.take P.length=P
 par:∀x∈P,sc.names.lookup x=some .local∨sc.names.lookup x=some .cell
 Ye:∀y∈sc.names,y.2≠.free
theorem gQ{N P:List Str}{sc:Scope}(a:sc.kind=.function:=by rfl)(b:sc.isCoroutine=false:=by rfl)(c:sc.isGenerator=false:=by rfl)(d:N.Nodup:=by decide+kernel)(e:N.take P.length=P:=by rfl)(f:∀x∈P,sc.names.lookup x=some .local∨sc.names.lookup x=some .cell:=by decide+kernel)(g:∀y∈sc.names,y.2≠.free:=by decide+kernel):bf N P sc:=⟨a,b,c,d,e,f,g⟩
theorem fo{a b:Prop}(h:a∨b:=by first|exact WU rfl|exact Rx rfl):a∨b:=h
theorem GK{kindOf:Str->Option jB}{x:Str}:∀{binds:List (Str×aj)}{m:Str->Option aj},(∀v,(x,v)∉binds)->XJ kindOf binds m x=m x
 |[],_,_=>rfl
 |(n,v)::r,m,h=>by
  unfold XJ;rw[GK λw hw=>h w (bS _ hw)];split
  ·have:x≠n:=by rintro rfl;exact h v c7
   simp[this]
  ·rfl
theorem GL{kindOf:Str->Option jB}{x:Str}:∀{binds:List (Str×aj)}{m:Str->Option aj},(∀v,(x,v)∉binds)->XM kindOf binds m x=m x
 |[],_,_=>rfl
 |(n,v)::r,m,h=>by
  unfold XM;rw[GL λw hw=>h w (bS _ hw)];split
  ·rfl
  ·have:x≠n:=by rintro rfl;exact h v c7
   simp[this]
theorem GN{kindOf:Str->Option jB}{x:Str}{v:aj}:∀{P:List Str}{vs:List aj}{i:Nat}{m:Str->Option aj},P.Nodup->P[i]? =some x->vs[i]? =some v->kindOf x=some .local->
  XJ kindOf (P.zip vs) m x=some v
 |[],_,_,_,_,h,_,_=>by simp at h
 |_::_,[],_,_,_,_,h,_=>by simp at h
 |p::P,w::vs,0,m,nd,h1,h2,hk=>by simp at h1 h2;subst h1;subst h2;show XJ kindOf ((p,w)::P.zip vs) m p=_;unfold XJ;rw[GK λv hv=>(dQ.mp nd).1 (pM hv).1,if_pos hk];simp
 |p::P,w::vs,i+1,m,nd,h1,h2,hk=>by show XJ kindOf ((p,w)::P.zip vs) m x=_;unfold XJ;exact GN (i:=i) (dQ.mp nd).2 (by simpa using h1) (by simpa using h2) hk
theorem GO{kindOf:Str->Option jB}{x:Str}{v:aj}:∀{P:List Str}{vs:List aj}{i:Nat}{m:Str->Option aj},P.Nodup->P[i]? =some x->vs[i]? =some v->kindOf x≠some .local->
  XM kindOf (P.zip vs) m x=some v
 |[],_,_,_,_,h,_,_=>by simp at h
 |_::_,[],_,_,_,_,h,_=>by simp at h
 |p::P,w::vs,0,m,nd,h1,h2,hk=>by simp at h1 h2;subst h1;subst h2;show XM kindOf ((p,w)::P.zip vs) m p=_;unfold XM;rw[GL λv hv=>(dQ.mp nd).1 (pM hv).1,if_neg hk];simp
 |p::P,w::vs,i+1,m,nd,h1,h2,hk=>by show XM kindOf ((p,w)::P.zip vs) m x=_;unfold XM;exact GO (i:=i) (dQ.mp nd).2 (by simpa using h1) (by simpa using h2) hk
def start(N:List Str)(vs:List V):St:=vs.map some++List.replicate (N.length-vs.length) none
def FI(CX:Vb)(P:bo)(w:bM)(K:ah)(mg:Str->Option aj)(base:cu)(N:List Str)(qual:Str)(scope:Scope)(f:af)(cd:aj)(A:cp)(outer:List Env)(s:ay)(H:Hp)(E:XK):Cx where
 prog:=P
 w:=w
 K:=K
 mg:=mg
 base:=base
 A:=A.deeper (xV qual scope s.heap.objs.size f cd)
 N:=N
 FF:=s
 H_0:=H
 env:=xV qual scope s.heap.objs.size f cd
 outer:=outer
 stack:=xV qual scope s.heap.objs.size f cd::outer
 ex:=[]
 calm:=true
 fn:=λ_=>true
 pn:=[]
 xe:=λe s'=>bg (model P w) (A.deeper (xV qual scope s.heap.objs.size f cd)) (leaving (xV qual scope s.heap.objs.size f cd) e) (λ_ s''=>CX outer H s E e s'') (λe' s''=>CX outer H s E e' s'') s'
theorem JN{sc:Scope}{n:Nat}{x:Str}(h:sc.names.lookup x=some .cell):∃c,(fA n sc.names []).lookup x=some c:=by have q:=Rn sc.names n [] (.inl h);exact Option.isSome_iff_exists.mp q
theorem Qk{CX:Vb}{P:bo}{w:bM}{K:ah}{mg:Str->Option aj}{base:cu}{N ps:List Str}{qual:Str}{scope:Scope}{f:af}{cd:aj}{A:cp}{outer:List Env}{s s1:ay}{H:Hp}{E:XK}{us:List aj}{vs:List V}(S:bf N ps scope)(hd:A.handled=none)(e0:MG P w K mg base A outer s H)(hl:vs.length=ps.length)(r:Vals vs us)(x:InCallC s s.heap.objs.size (XJ (xV qual scope s.heap.objs.size f cd).kindOf (ps.zip us) λ_=>none) (fA (s.heap.objs.size+1) scope.names []) (XM (xV qual scope s.heap.objs.size f cd).kindOf (ps.zip us) λ_=>none) s1):
  Inv (FI CX P w K mg base N qual scope f cd A outer s H E) [] (start N vs) H s1:=by
 have wJ:ps.length<=N.length:=by have:=congrArg Ap S.pre;rw[cK] at this;omega
 obtain⟨h1,tk,rfl,hk⟩:=x.done;have Yf:∀b:af,b∉(FI CX P w K mg base N qual scope f cd A outer s H E).ex:=λb z=>absurd (show b∈([]:List af) from z) (by simp);refine⟨⟨e0.mod,S.kind,rfl,rfl,aJ _,λy z c h1 h2=>?_,λy hy=>?_,λy c _ h=>?_,λ_=>hd,adx e0.frames,.inr ⟨rfl,rfl⟩,λb z=>absurd z (Yf b),e0.bs,e0.U9,λb _ _=>Yf b,λb z=>absurd z (Yf b),e0.B6,e0.XW⟩,rfl,e0.bare,Un.kept hk,⟨_,x.toInCall.ns,λi y v h1 h2 h3=>?_⟩,λy c h=>⟨_,x.cell y c h⟩,e0.dI.fresh (aJ _),λy c h=>?_,λp hp=>absurd (show p∈([]:List (af×Obj)) from hp) (by simp),e0.dI.kept hk,?_⟩
 ·exact name_of_addr x.apart (cF h1) (cF h2)
 ·have hy:scope.names.lookup y=some .cell∨scope.names.lookup y=some .free:=hy;rcases hy with hy|hy
  ·exact JN hy
  ·exact absurd rfl (S.Ye _ (cF hy))
 ·exact cT (x.above y c (cF h))
 ·have hi:i<vs.length:=by
   unfold start at h2;by_cases hi:i<vs.length
   ·exact hi
   ·rw[List.getElem?_append_right (by simpa using hi)] at h2;rw[List.getElem?_replicate] at h2;split at h2<;>cases h2
  have ha:vs[i]? =some v:=by
   unfold start at h2;rw[Mq (by simpa using hi),aU] at h2
   cases e:vs[i]? with
   |none=>rw[e] at h2;cases h2
   |some a=>rw[e] at h2;cases h2;rfl
  obtain⟨u,hu,rv⟩:=r.get ha;have hp:ps[i]? =some y:=by rw[<-S.pre,List.getElem?_take_of_lt (by omega)];exact h1
  have ndP:ps.Nodup:=by rw[<-S.pre];exact S.nd.sublist (XE _ _)
  refine⟨u,rv,?_⟩;rcases S.par y (aL hp) with k|k
  ·exact .inl ⟨k,GN ndP hp hu k⟩
  ·obtain⟨c,e⟩:=JN (n:=s.heap.objs.size+1) k;refine .inr ⟨.inl k,c,e,?_⟩;have q:=x.cell y c e;rw[GO ndP hp hu (by show scope.names.lookup y≠_;rw[k];decide)] at q;exact q
 ·exact e0.dI.fresh (cT (x.above y c (cF h)))
 ·unfold start;show _=N.length;rw[aO,aa,List.length_replicate];omega
theorem W4{CX:Vb}{P:bo}{w:bM}{K:ah}{mg:Str->Option aj}{base:cu}{k:Nat}{f:af}{name qual:Str}{params:Ow}{body:List cy}{scope:Scope}{dV kV doc pm eC ct oc:aj}{an od:Option af}{JO:Array (Option aj)}{N ps:List Str}{sp:Sp}(lk:K.lookup f=some ⟨oc,od,.func (qI name qual params body scope dV kV doc pm an eC ct),JO⟩)(R6:Md K eC qual=true)(S:bf N ps scope)(len:∀vs H Q E,sp vs H Q E->vs.length=ps.length)(JP:∀(A:cp)(outer:List Env)(s:ay)(H:Hp)(vs:List V)(Q:VK)(E:XK),jf k (A.deeper (xV qual scope s.heap.objs.size f eC))->sp vs H Q E->∃t,Mx (FI CX P w K mg base N qual scope f eC A outer s H E) body t/\t {nx:=λ_ H'=>Q .gT H',rt:=Q} (start N vs) H):
  wI P w K mg base CX (k+1) f (qI name qual params body scope dV kV doc pm an eC ct) ps sp:=by
 refine⟨len,λA outer s H args us vs Q E hr e0 hb r Ry=>?_⟩;have hl:=len _ _ _ _ Ry;have KX:K.In s.heap:=e0.mod.kin.keeps λb o e=>(e0.bs b o e).1;have lim:s.heap.NoLimit:=e0.mod.nolimit.keeps λb o e=>(e0.bs b o e).1;have abv:∀y∈ps.zip us,scope.names.lookup y.1=some .local∨(scope.names.lookup y.1=some .cell/\((fA (s.heap.objs.size+1) scope.names []).lookup y.1).isSome=true):=λ⟨n,v⟩ hy=>by
  rcases S.par n (pM hy).1 with q|q
  ·exact .inl q
  ·exact .inr ⟨q,Rn _ _ _ (.inl q)⟩
 refine codeAny_call_function hr.depth (KX _ _ lk) rfl S.co S.gen rfl (PySem.W.codeRec_of KX R6) (hb _ _ _ _ ?_);refine wpAny_newFunctionEnv_cells S.kind abv λenv he s1 x=>?_;subst he;refine⟨lim.keeps x.toInCall.keep,codeAny_func ?_⟩;obtain⟨t,ht,hq⟩:=JP A outer s H vs Q E (hr.deeper _) Ry;have I:Inv (FI CX P w K mg base N qual scope f eC A outer s H E) [] (start N vs) H s1:=Qk S hr.hd e0 hl r x;refine fj (ht [] s1 (start N vs) H _ I hq) (λfl s' hs=>?_) λe s' hs=>hs;have fin:∀{σ':St}{H':Hp}{v:V}{u:aj},Inv (FI CX P w K mg base N qual scope f eC A outer s H E) [] σ' H' s'->RelV v u->Q v H'->CE outer P w H s Q u s':=λ{σ' H' v u} J rv q=>⟨v,H',J.os,J.bare,J.base,J.dI,rv,q⟩
 cases fl with
 |ret u=>obtain⟨v,σ',H',J,rv,q⟩:=hs;exact fin J rv q
 |next=>obtain⟨σ',H',J,q⟩:=hs;exact fin (v:=V.gT) (u:=gF) J rfl q
 |brk=>obtain⟨_,_,_,q⟩:=hs;exact dH q
 |cont=>obtain⟨_,_,_,q⟩:=hs;exact dH q
end L2
namespace L2
open PySem PySem.Spec PyProof.Rows
section
variable{X:Cx}{x:Str}{p pos:Pos}{e:Expr}{es:List Expr}{t:TA}{id T:String}{r:List V->Hp->VK->Prop}
def tCB(r:List V->Hp->VK->Prop)(t:TA):TE:=λσ H Q=>t σ H λvs H1=>r vs H1 Q
theorem So(hc:kj X (.builtin id) r)(hg:Gl X x)(hm:X.mg x=none)(hv:de x=some (.builtin id))(ha:PA X (e::es) t)(hn:x≠"__name__":=by decide)(HD:(x==("__debug__":Str))=false:=by decide)(he:bL (e::es) X.env=(false,eval e X.env)::bL es X.env:=by rfl)(wJ:(fH pos (bL es X.env)).any (·.1)=false:=by rfl):PE X (.Call (.Name x p) (e::es) [] pos) (tCB r t):=by intro pins s σ H Q I h;refine i9 (uE I hg hm hv ?_ hn HD);exact PyProof.Rows.callWith_builtin1 (iw (ha pos pins s σ H _ I h) λus s1 ⟨vs,H1,I1,r1,q1⟩=>hc pins s1 σ H1 vs us Q I1 r1 q1) he wJ
theorem Ql(hc:kj X (.type T) r)(hg:Gl X x)(hm:X.mg x=none)(hv:de x=some (.type T))(ha:PA X (e::es) t)(hn:x≠"__name__":=by decide)(HD:(x==("__debug__":Str))=false:=by decide)(he:bL (e::es) X.env=(false,eval e X.env)::bL es X.env:=by rfl)(wJ:(fH pos (bL es X.env)).any (·.1)=false:=by rfl):PE X (.Call (.Name x p) (e::es) [] pos) (tCB r t):=by intro pins s σ H Q I h;refine i9 (uE I hg hm hv ?_ hn HD);exact il (iw (ha pos pins s σ H _ I h) λus s1 ⟨vs,H1,I1,r1,q1⟩=>hc pins s1 σ H1 vs us Q I1 r1 q1) he wJ
end
end L2
namespace HT
open PySem PyProof.Rows
def lexLt:List Int->List Int->Bool
 |[],[]=>false
 |[],_::_=>true
 |_::_,[]=>false
 |x::xs,y::ys=>if x=y then lexLt xs ys else decide (x<y)
theorem x8(x y:Int)(xs ys:List Int):lexLt (x::xs) (y::ys)=if x=y then lexLt xs ys else decide (x<y):=rfl
theorem Sq(A:cp)(s:ay)(a:Int)(t:Tok)(c:Int)(u:Tok):∃e,ahg A s (.int a t) (.int c u) e/\(e=true↔a=c):=⟨(a==c),vW a t c u,by simp⟩
theorem JQ(A:cp)(s:ay)(a:Int)(t:Tok)(c:Int)(u:Tok)(prog:bo)(w:bM)(E:aj->ay->Prop)(Q:aj->ay->Prop)(h:Q (.bool (decide (a<c))) s):
  bg (model prog w) A (PY .Lt (.int a t) (.int c u)) Q E s:=
 (PyProof.Rows.lt_int h:bg (model prog w) A (d8 .Lt (.int a t) (.int c u)) Q E s)
section
variable{prog:bo}{w:bM}{A:cp}{E:aj->ay->Prop}{s:ay}
def JC(n d:Nat):Option Int->Nat
 |none=>d
 |some v=>if v<0 then(v+(n:Int)).toNat else min v.toNat n
theorem JR(n d:Nat):JC n d none=d:=rfl
theorem CJ(n d k:Nat):JC n d (some (k:Int))=min k n:=by show(if(k:Int)<0 then((k:Int)+(n:Int)).toNat else min (k:Int).toNat n)=min k n;rw[if_neg (by omega),nT]
end
end HT
namespace L2
open PySem PySem.Spec PyProof.Rows
abbrev TO:=St->Hp->(Option Int->Hp->Prop)->Prop
def PO(X:Cx)(e:Option Expr)(t:TO):Prop:=
 ∀(pins:List (af×Obj))(s:ay)(σ:St)(H:Hp)(Q:Option Int->Hp->Prop),Inv X pins σ H s->t σ H Q->
  bg (model X.prog X.w) X.A (evalPart e X.env) (λu s'=>∃o H',Inv X pins σ H' s'/\IsPart u o/\Q o H') X.xe s
def VH:TO:=λ_ H Q=>Q none H
def abx(t:TE):TO:=λσ H Q=>t σ H λx H1=>∃i,x=.int i/\Q (some i) H1
section
variable{X:Cx}{e:Expr}{te:TE}{lo hi:Option Expr}{tl th:TO}{pos p2:Pos}
theorem we:PO X none VH:=by intro pins s σ H Q I h;rw[evalPart_none];exact aI ⟨none,H,I,.none,h⟩
theorem m8(h:PE X e te):PO X (some e) (abx te):=by intro pins s σ H Q I hw;rw[evalPart_some];refine iw (h pins s σ H _ I hw) λu s1 ⟨x,H1,I1,r1,q1⟩=>?_;obtain⟨i,rfl,q⟩:=q1;obtain⟨t,rfl⟩:=r1;exact⟨some i,H1,I1,.int i t,q⟩
def SlR(X:Cx)(r:V->Option Int->Option Int->Hp->VK->Prop):Prop:=
 ∀(pins:List (af×Obj))(s:ay)(σ:St)(H:Hp)(x:V)(v vl vu:aj)(lo hi:Option Int)(sl:af)(Q:VK),Inv X pins σ H s->RelV x v->s.heap.IsSliceOf sl vl vu .none->IsPart vl lo->IsPart vu hi->r x lo hi H Q->
  ∃T id,ahh (.type T) "__getitem__"=pure (some (.builtin id))/\s.TypeIs v T/\bg (model X.prog X.w) X.A (RQ v (.ref sl)) (EP X pins σ Q) X.xe s
def tSl(r:V->Option Int->Option Int->Hp->VK->Prop)(te:TE)(tl th:TO):TE:=λσ H Q=>te σ H λx H1=>tl σ H1 λl H2=>th σ H2 λu H3=>r x l u H3 Q
theorem nq{r:V->Option Int->Option Int->Hp->VK->Prop}(hr:SlR X r)(he:PE X e te)(hl:PO X lo tl)(hu:PO X hi th):PE X (.Subscript e (.Slice lo hi none p2) pos) (tSl r te tl th):=by intro pins s σ H Q I h;refine Subscript_ (iw (he pins s σ H _ I h) λv s1 ⟨x,H1,I1,r1,q1⟩=>?_);refine wpAny_Slice (iw (hl pins s1 σ H1 _ I1 q1) λvl s2 ⟨l,H2,I2,pl,q2⟩=>iw (hu pins s2 σ H2 _ I2 q2) λvu s3 ⟨u,H3,I3,pu,q3⟩=>?_);rw[evalPart_none];refine aI ?_;have I4:Inv X pins σ H3 {s3 with heap:=s3.heap.push {cls:=.type "slice",data:=.fields #[vl,vu,.none]}}:=I3.kept (t':=s3.toks) λb ob q=>ai _ q;obtain⟨T,id,hT,ht,hg⟩:=hr pins {s3 with heap:=s3.heap.push {cls:=.type "slice",data:=.fields #[vl,vu,.none]}} σ H3 x v vl vu l u s3.heap.objs.size Q I4 r1 (Heap.IsSliceOf.new ..) pl pu q3;show bg (model X.prog X.w) X.A (aiK e (.Slice lo hi none p2) v (.ref s3.heap.objs.size)) (EP X pins σ Q) X.xe {s3 with heap:=s3.heap.push {cls:=.type "slice",data:=.fields #[vl,vu,.none]}};exact tail_any (ops:=[.ref s3.heap.objs.size,v]) ht hT hg (by with_unfolding_all rfl)
def uK(xs:List V)(lo hi:Option Int):List V:=(xs.drop (HT.JC xs.length 0 lo)).take (HT.JC xs.length xs.length hi-HT.JC xs.length 0 lo)
theorem JS(xs:List V)(lo hi:Option Int):(uK xs lo hi).length<=xs.length:=by unfold uK;rw[cK,fc];omega
end
end L2
namespace L2
open PySem PySem.Spec PyProof.Rows
def ixN(n:Nat)(i:Int):Option Nat:=if 0<=i then(if i<n then some i.toNat else none) else if-(n:Int)<=i then some (i+n).toNat else none
def Qm{α:Type}(xs:List α)(i:Int):Option α:=(ixN xs.length i).bind λj=>xs[j]?
theorem VI{n:Nat}{i:Int}{j:Nat}(h:ixN n i=some j):seqIndex? i n=some j/\j<n/\-(n:Int)<=i/\i<n:=by
 unfold ixN at h;by_cases h0:0<=i
 ·rw[if_pos h0] at h;by_cases h1:i<n
  ·rw[if_pos h1] at h;have e:i.toNat=j:=aW h;exact⟨by rw[seqIndex_of h0 h1,e],by omega,by omega,h1⟩
  ·rw[if_neg h1] at h;cases h
 ·rw[if_neg h0] at h;by_cases h1:-(n:Int)<=i
  ·rw[if_pos h1] at h;have e:(i+n).toNat=j:=aW h;exact⟨by rw[seqIndex_neg (by omega) h1,e],by omega,h1,by omega⟩
  ·rw[if_neg h1] at h;cases h
theorem HE{α:Type}{xs:List α}{i:Int}{v:α}(h:Qm xs i=some v):∃j,seqIndex? i xs.length=some j/\xs[j]? =some v/\j<xs.length/\-(xs.length:Int)<=i/\i<xs.length:=by
 unfold Qm at h
 cases e:ixN xs.length i with
 |none=>rw[e] at h;cases h
 |some j=>rw[e] at h;obtain⟨h1,h2,h3,h4⟩:=VI e;exact⟨j,h1,h,h2,h3,h4⟩
theorem cG{α:Type}{xs:List α}{j:Nat}{v:α}(h:xs[j]? =some v):Qm xs (j:Int)=some v:=by
 have hj:j<xs.length:=(b9.mp h).1;have e:ixN xs.length (j:Int)=some j:=by unfold ixN;rw[if_pos (by omega),if_pos (by omega)];simp
 unfold Qm;rw[e];exact h
def VJ(b:Expr):Prop:=∀o i,subscripted b false o i=operate [o,i] (RQ o i)
def IxR(X:Cx)(r:R2):Prop:=
 ∀(value slice:Expr)(pins:List (af×Obj))(s:ay)(σ:St)(H:Hp)(x y:V)(v u:aj)(Q:VK),Inv X pins σ H s->RelV x v->RelV y u->r x y H Q->
  subscripted slice false v u=operate [v,u] (RQ v u)->bg (model X.prog X.w) X.A (aiK value slice v u) (EP X pins σ Q) X.xe s
def MtR(X:Cx)(id:String)(r:V->List V->Hp->VK->Prop):Prop:=
 ∀(pins:List (af×Obj))(s:ay)(σ:St)(H:Hp)(x:V)(xs:List V)(v:aj)(us:List aj)(Q:VK),Inv X pins σ H s->RelV x v->Vals xs us->r x xs H Q->
  bg (model X.prog X.w) X.A (call (.builtin id) (v::us)) (EP X pins σ Q) X.xe s
section
variable{X:Cx}{a b:Expr}{ta tb:TE}{pos:Pos}
theorem eG{r:R2}(hr:IxR X r)(ha:PE X a ta)(hb:PE X b tb)(hs:VJ b):PE X (.Subscript a b pos) (Vx r ta tb):=by intro pins s σ H Q I h;exact Subscript_ (X8 ha hb I h λv u s2 x y H2 I2 rx ry q=>hr a b pins s2 σ H2 x y v u Q I2 rx ry q (hs _ _))
def Yg(K:ah):R2:=λx y H Q=>∃p xs i v,x=.ref p/\y=.int i/\bD K H p xs/\Qm xs i=some v/\Q v H
def Yh(K:ah):R2:=λx y H Q=>∃p xs i v,x=.ref p/\y=.int i/\nj K H p xs/\Qm xs i=some v/\Q v H
def aeY:R2:=λx y H Q=>∃z i c,x=.str z/\y=.int i/\z.length<=az/\Qm z.cps.toList i=some c/\Q (.str ⟨#[c]⟩) H
theorem cO:IxR X (Yg X.K):=by
 intro value slice pins s σ H x y v u Q I rx ry h hs;obtain⟨p,xs,i,z,rfl,rfl,hq,he,q⟩:=h;cases rx;obtain⟨t,rfl⟩:=ry;obtain⟨its,r,pl,hz⟩:=I.list hq;obtain⟨j,h1,h2,h3,h4,h5⟩:=HE he;obtain⟨w,ew,Sr⟩:=r.get h2;have hl:=r.length;have hn:=C3;have fin:EP X pins σ Q w s:=⟨z,H,I,Sr,q⟩;by_cases h0:0<=i
 ·have hj:i.toNat=j:=by rw[seqIndex_of h0 h5] at h1;exact aW h1
  exact item_listR pl.isList h0 (by omega) (by rw[hj];simpa using ew) fin hs
 ·have hj:(i+(its.toArray.size:Int)).toNat=j:=by rw[seqIndex_neg (by omega) h4] at h1;rw[bA,<-hl];exact aW h1
  exact am4 (x:=w) pl.isList.typeIs aiM.lookup
   (wpAny_getItem_list_neg (Q:=λr s'=>r=w/\EP X pins σ Q r s') pl.isList (by omega) (by rw[bA]<;>omega) (by omega) (by rw[hj];simpa using ew) ⟨rfl,fin⟩) hs
theorem MH:IxR X (Yh X.K):=by
 intro value slice pins s σ H x y v u Q I rx ry h hs;obtain⟨p,xs,i,z,rfl,rfl,hq,he,q⟩:=h;cases rx;obtain⟨t,rfl⟩:=ry;obtain⟨its,r,pl,hz⟩:=I.tuple hq;obtain⟨j,h1,h2,h3,h4,h5⟩:=HE he;obtain⟨w,ew,Sr⟩:=r.get h2;have hl:=r.length;have hn:=C3;have fin:EP X pins σ Q w s:=⟨z,H,I,Sr,q⟩;exact am4 (x:=w) pl.typeIs slot_tuple_getitem.lookup
  (getItem_tuple (j:=j) (Q:=λr s'=>r=w/\EP X pins σ Q r s') pl (by omega) (by omega) (by rw[bA,<-hl];exact h1) (by simpa using ew) ⟨rfl,fin⟩) hs
theorem MI:IxR X aeY:=by
 intro value slice pins s σ H x y v u Q I rx ry h hs;obtain⟨z,i,c,rfl,rfl,hz,he,q⟩:=h;obtain⟨t,rfl⟩:=rx;obtain⟨t',rfl⟩:=ry;obtain⟨j,h1,h2,h3,h4,h5⟩:=HE he;have hl:z.cps.toList.length=z.length:=by simp[Str.length]
 rw[hl] at h1 h4 h5;have hn:=C3;exact tail_any (Bs s z t) slot_str_getitem.lookup (getItem_str (c:=c) (by have e1:decide (i< -(2^63:Int))=false:=decide_eq_false (by omega);have e2:decide (i≥2^63)=false:=decide_eq_false (by omega);rw[e1,e2,Oy]) (by rw[h1];simpa using h2) ⟨.str ⟨#[c]⟩,H,I.tok _,⟨_,rfl⟩,q⟩) hs
theorem HF(lo hi:Option Int)(n:Nat):(rQ lo hi none n).1=((HT.JC n 0 lo:Nat):Int)/\(rQ lo hi none n).2.1=((HT.JC n n hi:Nat):Int)/\(rQ lo hi none n).2.2=1:=by
 refine⟨?_,?_,rfl⟩
 ·cases lo with
  |none=>simp[rQ,HT.JC]
  |some i=>
   simp only[rQ,HT.JC,ZW,show(1:Int)>0 by decide,if_true];by_cases h:i<0
   ·simp only[h,if_true]<;>omega
   ·simp only[h,if_false]<;>omega
 ·cases hi with
  |none=>simp[rQ,HT.JC]
  |some i=>
   simp only[rQ,HT.JC,ZW,show(1:Int)>0 by decide,if_true];by_cases h:i<0
   ·simp only[h,if_true]<;>omega
   ·simp only[h,if_false]<;>omega
theorem FJ(its:List aj)(lo hi:Option Int):slicePick its.toArray lo hi none=((its.drop (HT.JC its.length 0 lo)).take (HT.JC its.length its.length hi-HT.JC its.length 0 lo)).toArray:=by obtain⟨h1,h2,h3⟩:=HF lo hi its.toArray.size;unfold slicePick;rw[h1,h2,h3];simp only[sliceRange_one,pick_run,bA]<;>rfl
def abA(K:ah):V->Option Int->Option Int->Hp->VK->Prop:=λx lo hi H Q=>∃a xs,x=.ref a/\bD K H a xs/\∀p,H p=none->Q (.ref p) (upd H p (.lst (uK xs lo hi)))
theorem pQ:SlR X (abA X.K):=by
 intro pins s σ H x v vl vu lo hi sl Q I rx hs pl pu h;obtain⟨a,xs,rfl,hx,q⟩:=h;cases rx;obtain⟨its,r,ht,hz⟩:=I.list hx;have hlen:=r.length;refine⟨"list",_,aiM.lookup,ht.isList.typeIs,?_⟩;refine wpAny_getItem_list_slice ht.isList hs pl pu .none (by simp) ?_ (by rw[bA]<;>omega);rw[FJ,<-hlen];refine⟨.ref s.heap.objs.size,_,I.laid (t':=s.toks) (o:=.lst (uK xs lo hi)) (λb ob q=>ai _ q) (aJ _) ?_,rfl,q _ (I.dI.fresh (aJ _))⟩;exact⟨ak (JS xs lo hi) hz,_,0,(r.drop (HT.JC xs.length 0 lo)).take (HT.JC xs.length xs.length hi-HT.JC xs.length 0 lo),aT _ rfl⟩
def pR:V->Bool
 |.gT=>true
 |.bl _=>true
 |.int _=>true
 |.str _=>true
 |_=>false
def OM:V->V->Bool
 |.gT,.gT=>true
 |.bl a,.bl b=>a==b
 |.bl a,.int b=>(if a then 1 else 0)==b
 |.int a,.bl b=>a==(if b then 1 else 0)
 |.int a,.int b=>a==b
 |.str a,.str b=>a==b
 |_,_=>false
theorem Yi{A:cp}{s:ay}{y x:V}{u v:aj}(ry:RelV y u)(rx:RelV x v)(fy:pR y=true)(fx:pR x=true):ahg A s u v (OM y x):=by
 cases y with
 |gT=>
  cases ry
  cases x with
  |gT=>cases rx;exact SeqAt.EqAt.same _
  |bl b=>cases rx;exact SeqAt.EqAt.none_bool b
  |int b=>obtain⟨t,rfl⟩:=rx;exact SeqAt.EqAt.none_int b t
  |str b=>obtain⟨t,rfl⟩:=rx;exact SeqAt.EqAt.none_str b t
  |_=>exact absurd (show false=true from fx) aY
 |bl a=>
  cases ry
  cases x with
  |gT=>cases rx;exact SeqAt.EqAt.bool_none a
  |bl b=>cases rx;exact SeqAt.EqAt.bool_bool a b
  |int b=>obtain⟨t,rfl⟩:=rx;exact SeqAt.EqAt.bool_int a b t
  |str b=>obtain⟨t,rfl⟩:=rx;exact SeqAt.EqAt.bool_str a b t
  |_=>exact absurd (show false=true from fx) aY
 |int a=>
  obtain⟨t',rfl⟩:=ry
  cases x with
  |gT=>cases rx;exact SeqAt.EqAt.int_none a t'
  |bl b=>cases rx;exact SeqAt.EqAt.int_bool a t' b
  |int b=>obtain⟨t,rfl⟩:=rx;exact vW a t' b t
  |str b=>obtain⟨t,rfl⟩:=rx;exact ag8 a t' b t
  |_=>exact absurd (show false=true from fx) aY
 |str a=>
  obtain⟨t',rfl⟩:=ry
  cases x with
  |gT=>cases rx;exact SeqAt.EqAt.str_none a t'
  |bl b=>cases rx;exact SeqAt.EqAt.str_bool a t' b
  |int b=>obtain⟨t,rfl⟩:=rx;exact ag9 a t' b t
  |str b=>obtain⟨t,rfl⟩:=rx;exact ahb a t' b t
  |_=>exact absurd (show false=true from fx) aY
 |_=>exact absurd (show false=true from fy) aY
def Rz(x:V)(u:aj):Bool:=match u with
 |.none=>OM .gT x
 |.bool b=>OM (.bl b) x
 |.int i _=>OM (.int i) x
 |.str z _=>OM (.str z) x
 |_=>false
theorem MJ{x y:V}{u:aj}(r:RelV y u)(f:pR y=true):Rz x u=OM y x:=by
 cases y with
 |gT=>cases r;rfl
 |bl b=>cases r;rfl
 |int i=>obtain⟨t,rfl⟩:=r;rfl
 |str z=>obtain⟨t,rfl⟩:=r;rfl
 |_=>exact absurd (show false=true from f) aY
theorem HG{x:V}:∀{xs:List V}{us:List aj},Vals xs us->xs.all pR=true->us.any (Rz x)=xs.any λy=>OM y x
 |_,_,.nil,_=>rfl
 |y::xs,u::us,.cons r t,f=>by rw[dW,aK] at f;rw[iu,iu,MJ r f.1,HG t f.2]
theorem zd{A:cp}{s:ay}{x:V}{v:aj}(rx:RelV x v)(fx:pR x=true):∀{xs:List V}{us:List aj},Vals xs us->xs.all pR=true->∀u∈us,ahg A s u v (Rz x u)
 |_,_,.nil,_=>λu hu=>by cases hu
 |y::xs,u::us,.cons r t,f=>λu' hu=>by
  rw[dW,aK] at f;rcases aA.mp hu with rfl|hu
  ·rw[MJ r f.1];exact Yi r rx f.1 fx
  ·exact zd rx fx t f.2 u' hu
def inV(x:V)(xs:List V):Bool:=xs.any λy=>OM y x
def rIn(K:ah)(neg:Bool):R2:=λx y H Q=>∃p xs,y=.ref p/\(bD K H p xs∨nj K H p xs)/\pR x=true/\xs.all pR=true/\Q (.bl (if neg then !inV x xs else inV x xs)) H
theorem HH:xq X (d8 .NotIn) (rIn X.K true):=by
 intro pins s σ H x y v u Q I rx ry h;obtain⟨p,xs,rfl,hq,fx,fs,q⟩:=h;cases ry;rcases hq with hq|hq
 ·obtain⟨its,r,pl,hz⟩:=I.list hq;refine SeqAt.notIn_listAt (Rz x) pl.isList (λw hw=>zd rx fx r fs w (by simpa using hw)) ⟨.bl _,H,I,rfl,?_⟩;rw[show its.toArray.any (Rz x)=its.any (Rz x) by simp,HG r fs];exact q
 ·obtain⟨its,r,pl,hz⟩:=I.tuple hq;refine SeqAt.notIn_tupleAt (Rz x) pl (λw hw=>zd rx fx r fs w (by simpa using hw)) ⟨.bl _,H,I,rfl,?_⟩;rw[show its.toArray.any (Rz x)=its.any (Rz x) by simp,HG r fs];exact q
theorem bt:kj X (.builtin "len") (λxs H Q=>∃p ys,xs=[.ref p]/\(bD X.K H p ys∨nj X.K H p ys)/\Q (.int ys.length) H):=by
 intro pins s σ H xs us Q I r h;obtain⟨p,ys,rfl,hq,q⟩:=h;obtain⟨u,rfl,rx⟩:=vals1 r;cases rx;have hn:=C3;rcases hq with hq|hq
 ·obtain⟨its,r',pl,hz⟩:=I.list hq;have hlen:=r'.length;exact Calls.call_len_list pl.isList (by simp only[bA]<;>omega) ⟨.int ys.length,H,I.tok _,⟨s.toks+1,by rw[bA,hlen]⟩,q⟩
 ·obtain⟨its,r',pl,hz⟩:=I.tuple hq;have hlen:=r'.length;exact len_tuple pl (by simp only[bA]<;>omega) ⟨.int ys.length,H,I.tok _,⟨s.toks+1,by rw[bA,hlen]⟩,q⟩
theorem rT:kj X (.builtin "len") (λxs H Q=>∃z,xs=[.str z]/\z.length<=az/\Q (.int z.length) H):=by intro pins s σ H xs us Q I r h;obtain⟨z,rfl,hz,q⟩:=h;obtain⟨u,rfl,t,rfl⟩:=vals1 r;have hn:=C3;exact len_str (by omega) ⟨.int z.length,H,I.tok _,⟨_,rfl⟩,q⟩
theorem HI:kj X (.type "list") (λxs H Q=>∃p ys,xs=[.ref p]/\(bD X.K H p ys∨nj X.K H p ys)/\∀l,H l=none->Q (.ref l) (upd H l (.lst ys))):=by
 intro pins s σ H xs us Q I r h;obtain⟨p,ys,rfl,hq,q⟩:=h;obtain⟨u,rfl,rx⟩:=vals1 r;cases rx;have fin:∀(its:List aj),Vals ys its->ys.length<=az->∀(h':cu)(c':Nat),(∀b o',s.heap.get? b=some o'->h'.get? b=some o')->
   h'.get? s.heap.objs.size=some {cls:=.type "list",dict:=none,data:=.seq its.toArray c',slots:=#[]}->EP X pins σ Q (.ref s.heap.objs.size) {s with heap:=h'}:=λits r' hz h' c' kp e=>
  ⟨.ref s.heap.objs.size,_,I.laid (t':=s.toks) kp (aJ _) (show fB X.prog X.w _ h' _ (.lst ys) from⟨hz,its,c',r',e⟩),rfl,q _ (I.dI.fresh (aJ _))⟩
 rcases hq with hq|hq
 ·obtain⟨its,r',pl,hz⟩:=I.list hq;have hlen:=r'.length;obtain⟨o,ho,hc,n,hd⟩:=pl.isList;exact call_list_seq p (.inl rfl) ho hc hd (λh' c' kp e=>fin its r' hz h' c' kp e) (by simp only[bA]<;>omega)
 ·obtain⟨its,r',pl,hz⟩:=I.tuple hq;have hlen:=r'.length;obtain⟨o,ho,hc,n,hd⟩:=pl;exact call_list_seq p (.inr rfl) ho hc hd (λh' c' kp e=>fin its r' hz h' c' kp e) (by simp only[bA]<;>omega)
theorem FK:kj X (.type "tuple") (λxs H Q=>∃p ys,xs=[.ref p]/\((bD X.K H p ys/\∀l,H l=none->Q (.ref l) (upd H l (.tup ys)))∨(nj X.K H p ys/\Q (.ref p) H))):=by
 intro pins s σ H xs us Q I r h;obtain⟨p,ys,rfl,h⟩:=h;obtain⟨u,rfl,rx⟩:=vals1 r;cases rx;rcases h with⟨hq,q⟩|⟨hq,q⟩
 ·obtain⟨its,r',pl,hz⟩:=I.list hq;have hlen:=r'.length;refine call_tuple_list pl.isList (λh' kp=>?_) (by simp only[bA]<;>omega);have I1:Inv X pins σ H {s with heap:=h'}:=I.kept (t':=s.toks) kp;have I2:Inv X pins σ (upd H h'.objs.size (.tup ys)) {s with heap:=h'.push {cls:=.type "tuple",data:=.seq its.toArray}}:=I1.laid (t':=s.toks) (λb o e=>ai _ e) (aJ _) (show fB X.prog X.w _ _ _ (.tup ys) from⟨hz,its,r',IsTup.new _ _⟩);exact⟨.ref h'.objs.size,_,I2,rfl,q _ (I1.dI.fresh (aJ _))⟩
 ·obtain⟨its,r',pl,hz⟩:=I.tuple hq;exact call_tuple_same pl ⟨.ref p,H,I,rfl,q⟩
def tyV(K:ah)(T:String)(x:V)(H:Hp):Prop:=match x with
 |.str _=>T="str"
 |.int _=>T="int"
 |.ref p=>(T="list"/\∃xs,bD K H p xs)∨(T="tuple"/\∃o,K.lookup p=some o/\o.cls=.type "tuple"/\o.dict=none)∨
   (T="dict"/\((∃kvs,H p=some (.dK kvs))∨∃kvs,H p=some (.dT kvs)))∨(T="set"/\∃S n,H p=some (.set S n))
 |_=>False
theorem Yj{pins:List (af×Obj)}{σ:St}{H:Hp}{s:ay}{T:String}{x:V}{v:aj}(I:Inv X pins σ H s)(r:RelV x v)(ty:tyV X.K T x H):
  s.TypeIs v T/\∀a,v=.ref a->∃ob,s.heap.get? a=some ob/\ob.dict=none:=by
 cases x with
 |str z=>
  obtain⟨t,rfl⟩:=r;cases(show T="str" from ty);exact⟨Bs s z t,λ_ e=>nomatch e⟩
 |int i=>
  obtain⟨t,rfl⟩:=r;cases(show T="int" from ty);exact⟨typeIs_int s i t,λ_ e=>nomatch e⟩
 |ref p=>
  cases r;rcases ty with⟨rfl,xs,hq⟩|⟨rfl,o,hk,hc,hd⟩|⟨rfl,hk⟩|⟨rfl,S,n,hk⟩
  ·obtain⟨its,_,pl,_⟩:=I.list hq;refine⟨pl.isList.typeIs,λa e=>?_⟩;cases e;obtain⟨o,n,e,c,hd,_⟩:=pl;exact⟨o,e,hd⟩
  ·refine⟨⟨o,I.Ax p o hk,hc⟩,λa e=>?_⟩;cases e;exact⟨o,I.Ax _ o hk,hd⟩
  ·have z:∃o,s.heap.get? p=some o/\o.ExactDict:=by
    rcases hk with⟨kvs,hk⟩|⟨kvs,hk⟩
    ·obtain⟨_,_,_,_,o,_,_,e,ex,_⟩:=I.dI p _ hk;exact⟨o,e,ex⟩
    ·obtain⟨_,_,_,_,o,_,_,e,ex,_⟩:=I.dI p _ hk;exact⟨o,e,ex⟩
   obtain⟨o,e,ex⟩:=z;refine⟨⟨o,e,ex.1⟩,λa e2=>?_⟩;cases e2;exact⟨o,e,ex.2.1⟩
  ·obtain⟨o,_,_,_,e,ex,_⟩:=I.dI p _ hk;refine⟨⟨o,e,ex.1⟩,λa e2=>?_⟩;cases e2;exact⟨o,e,ex.2.1⟩
 |_=>exact dH ty
def tBM(K:ah)(T:String)(r:V->List V->Hp->VK->Prop)(to:TE)(t:TA):TE:=λσ H Q=>to σ H λx H1=>tyV K T x H1/\t σ H1 λxs H2=>r x xs H2 Q
variable{o e:Expr}{es:List Expr}{to:TE}{t:TA}{name:Str}{apos l5:Pos}{T id:String}{r:V->List V->Hp->VK->Prop}
theorem oh(pa:PlainAttrs T)(slot:Slot T name id)(hty:typeOf (.builtin id)=pure (.type "method_descriptor"))(hm:MtR X id r)(ho:PE X o to)(ha:PA X (e::es) t)(nt:fU o name X.env (eval o X.env)=eval o X.env:=by rfl)(Yk:((fH l5 (bL (e::es) X.env)).all (λx=>!x.1)&&(iH l5 (eU [] X.env)).all (λx=>x.1.isSome)&&decide ((e::es).length+([]:List Bu).length+(if([]:List Bu).isEmpty then 0 else 1)<30))=true:=by rfl)
  (gC:(apos.endLine==l5.line)=true:=by rfl)(hs:bL (e::es) X.env=(false,eval e X.env)::bL es X.env:=by rfl)(Yl:(fH l5 (bL es X.env)).any (·.1)=false:=by rfl):
  PE X (.Call (.Attribute o name apos) (e::es) [] l5) (tBM X.K T r to t):=by
 intro pins s σ H Q I h;refine wpAny_Call_method_late nt Yk gC rfl (iw (ho pins s σ H _ I h) λv s1 ⟨x,H1,I1,r1,ty,q1⟩=>?_);obtain⟨h1,h2⟩:=Yj I1 r1 ty;refine⟨T,id,pa,slot,hty,h1,h2,?_⟩;have hA:=ha l5 pins s1 σ H1 _ I1 q1;rw[hs] at hA⊢;refine Bj (by show(false||(fH l5 (bL es X.env)).any (·.1))=false;rw[Yl]<;>rfl) (E2 ?_);exact iw hA λus s2 ⟨vs,H2,I2,r2,q2⟩=>hm pins s2 σ H2 x vs v us Q I2 r1 r2 q2
end
end L2
namespace L2
open PySem PySem.Spec PyProof.Rows
def MtM(X:Cx)(id:String)(r:V->List V->Hp->VK->Prop):Prop:=
 ∀(pins:List (af×Obj))(s:ay)(σ:St)(H:Hp)(x:V)(xs:List V)(v:aj)(us:List aj)(Q:VK),Inv X pins σ H s->RelV x v->Vals xs us->r x xs H Q->
  bg (model X.prog X.w) X.A (call (.builtin id) (v::us)) (EP X pins σ Q) X.xe s
theorem Vals.one:∀{x:V}{us:List aj},Vals [x] us->∃u,us=[u]/\RelV x u
 |_,_,.cons r .nil=>⟨_,rfl,r⟩
section
variable{X:Cx}{pins:List (af×Obj)}{σ:St}{H:Hp}{s:ay}{l b:af}{xs ys zs:List V}
theorem Inv.Ss{its its':List aj}{n:Nat}{f:Array aj->Array aj}{t':Nat}(I:Inv X pins σ H s)(hH:H l=some (.lst xs))(e:s.heap.get? l=some {cls:=.type "list",data:=.seq its.toArray n})(hf:f its.toArray=its'.toArray)(hv:Vals ys its')(hz:ys.length<=az):
  Inv X pins σ (upd H l (.lst ys)) {s with heap:=s.heap.update l (Jy f),toks:=t'}:=by
 have q:=PySem.IsL.update e f;rw[hf] at q;refine I.write (x:=l) (e:=l) (by rw[hH];exact trivial) (.inl rfl) (λb' u hb hu=>(Bk s.heap (Jy f) (mM hb)).trans hu) ⟨_,q⟩ ?_;exact⟨hz,its',_,hv,q⟩
theorem Inv.aeZ{its:List aj}{t':Nat}(I:Inv X pins σ H s)(hv:Vals ys its)(hz:ys.length<=az):
  Inv X pins σ (upd H s.heap.objs.size (.lst ys)) {s with heap:=s.heap.push {cls:=.type "list",data:=.seq its.toArray},toks:=t'}:=
 I.laid (λ_ _ q=>ai _ q) (aJ _) ⟨hz,its,0,hv,aT _ rfl⟩
theorem Inv.fresh(I:Inv X pins σ H s):H s.heap.objs.size=none:=I.dI.fresh (aJ _)
theorem Inv.Su(I:Inv X pins σ H s)(hH:H l=some (.lst xs)):xs.length<=az/\∃(its:List aj)(n:Nat),Vals xs its/\xs.length=its.length/\s.heap.get? l=some {cls:=.type "list",data:=.seq its.toArray n}:=by obtain⟨z,its,n,r,e⟩:=I.dI l _ hH;exact⟨z,its,n,r,r.length,e⟩
theorem Sv{n:Nat}(h:n<=az):yZ n=false:=by unfold yZ;exact decide_eq_false (by omega)
end
section
variable{X:Cx}
def VL:V->List V->Hp->VK->Prop:=λx vs H Q=>∃l xs y,x=.ref l/\vs=[y]/\H l=some (.lst xs)/\xs.length<az/\Q .gT (upd H l (.lst (xs++[y])))
theorem iZ:MtM X "list.append" VL:=by
 intro pins s σ H x vs v us Q I rx rv h;obtain⟨l,xs,y,rfl,rfl,hH,hz,q⟩:=h;cases rx;obtain⟨u,rfl,ru⟩:=rv.one;obtain⟨z,its,n,r,hl,e⟩:=I.Su hH;refine Bt F.slot_list_append ⟨_,e,rfl⟩ F.entry_list_append (F.args_list_append_2 _ _) (PySem.list_append l its.toArray n u (by rw[bA];omega)) ⟨e,?_⟩;refine⟨.gT,_,I.Ss (its':=its++[u]) hH e (by simp) (r.append (.cons ru .nil)) ?_,rfl,q⟩;rw[aO,ox];omega
def VM:V->List V->Hp->VK->Prop:=λx vs H Q=>∃l b xs zs,x=.ref l/\vs=[.ref b]/\H l=some (.lst xs)/\H b=some (.lst zs)/\xs.length+zs.length<=az/\Q .gT (upd H l (.lst (xs++zs)))
theorem wg:MtM X "list.extend" VM:=by
 intro pins s σ H x vs v us Q I rx rv h;obtain⟨l,b,xs,zs,rfl,rfl,hH,hB,hz,q⟩:=h;cases rx;obtain⟨u,rfl,ru⟩:=rv.one;cases ru;obtain⟨z,its,n,r,hl,e⟩:=I.Su hH;obtain⟨z2,pJ,n2,r2,MK,e2⟩:=I.Su hB;have hsz:its.toArray.size+pJ.toArray.size<=az:=by rw[bA,bA];omega
 have abB:¬(!its.toArray.isEmpty&&yZ (its.toArray.size+pJ.toArray.size))=true:=by rw[Sv hsz,iI];exact aY
 refine Bt F.slot_list_extend ⟨_,e,rfl⟩ F.entry_list_extend (F.args_list_extend_2 _ _)
  (AutoSeq1.list_extend_list_list_0 l its.toArray n b pJ.toArray n2 abB (by rw[bA];omega) (by omega)) ⟨e,e2,?_⟩
 refine⟨.gT,_,I.Ss (its':=its++pJ) hH e (by simp) (r.append r2) ?_,rfl,q⟩;rw[aO];omega
def ae0:R2:=λx y H Q=>∃l b xs zs,x=.ref l/\y=.ref b/\H l=some (.lst xs)/\H b=some (.lst zs)/\xs.length+zs.length<=az/\∀p,H p=none->Q (.ref p) (upd H p (.lst (xs++zs)))
theorem jD:xq X (Aj .Add) ae0:=by
 intro pins s σ H x y v u Q I rx ry h;obtain⟨l,b,xs,zs,rfl,rfl,hH,hB,hz,q⟩:=h;cases rx;cases ry;obtain⟨z,its,n,r,hl,e⟩:=I.Su hH;obtain⟨z2,pJ,n2,r2,MK,e2⟩:=I.Su hB;refine PySem.P.add_list e e2 ?_ (by rw[bA,bA];omega);have ea:its.toArray++pJ.toArray=(its++pJ).toArray:=by simp
 rw[ea];exact⟨.ref _,_,I.aeZ (t':=s.toks) (r.append r2) (by rw[aO];omega),rfl,q _ I.fresh⟩
end
section
variable{prog:bo}{w:bM}{A:cp}{E:aj->ay->Prop}{s:ay}
set_option maxRecDepth 100000 in
end
end L2
namespace L2
open PySem PySem.Spec PyProof.Rows
theorem Vals.ints:∀{ns:List Int}{us:List aj},Vals (ns.map V.int) us->Vm us ns
 |[],us,h=>by
  rw[Fe] at h;cases h;exact IntsAre.nil
 |n::ns,us,h=>by
  rw[bp] at h
  cases h with
  |cons r t=>obtain⟨k,rfl⟩:=r;exact IntsAre.cons n k (Vals.ints t)
theorem Vals.bls:∀{bs:List Bool}{us:List aj},Vals (bs.map V.bl) us->us=bs.map kI
 |[],us,h=>by
  rw[Fe] at h;cases h;rfl
 |b::bs,us,h=>by
  rw[bp] at h
  cases h with
  |cons r t=>
   cases r;rw[Vals.bls t,bp]
theorem Vals.HJ{a:af}{us:List aj}(r:Vals [V.ref a] us):us=[bu a]:=by
 cases r with
 |cons r t=>
  cases t;cases r;rfl
section
variable{prog:bo}{w:bM}{A:cp}{E:aj->ay->Prop}{s:ay}{l:af}{its:List aj}{ns:List Int}{Q:aj->ay->Prop}
theorem VN(hh:A.handled=none)(hl:s.heap.IsList l its.toArray)(hi:Vm its ns)(h:∀h' tk t',(∀b o,s.heap.get? b=some o->h'.get? b=some o)->Q (.int ns.sum t') {s with heap:=h',toks:=tk}):bg (model prog w) A (call (.builtin "sum") [.ref l]) Q E s:=by
 obtain⟨xs,e⟩:=hi.allInts.items;have hn:numsOf (intItems xs).toList=ns:=by rw[<-e];exact hi.numsOf
 rw[nums_intItems] at hn;rw[e] at hl;refine PySem.sum_intListG hh hl λh' tk t' hk=>?_;have:=h h' tk t' hk;rw[preSum_eq,bH (by simp),hn];exact this
end
section
variable{X:Cx}
def ae2(K:ah):List V->Hp->VK->Prop:=λvs H Q=>∃(a:af)(ns:List Int),vs=[V.ref a]/\bD K H a (ns.map V.int)/\Q (.int ns.sum) H
theorem Ym(hc:X.calm=true):kj X (.builtin "sum") (ae2 X.K):=by intro pins s σ H vs us Q I r h;obtain⟨a,ns,rfl,hs,q⟩:=h;obtain⟨its,rv,hl,_⟩:=I.list hs;rw[Vals.HJ r];exact VN (I.ok.hd hc) hl.isList rv.ints λh' tk t' hk=>⟨.int _,H,I.kept hk,⟨_,rfl⟩,q⟩
end
theorem JT{prog:bo}{w:bM}{A:cp}{E:aj->ay->Prop}{s:ay}{l:af}{items:Array aj}{Q:aj->ay->Prop}(hl:s.heap.IsList l items)(h:∀s₂:ay,s₂={s with heap:=s.heap.push {cls:=.type "list_iterator",data:=.fields #[.ref l,.int 0 0]}}->(s₂.heap.IsListIter s.heap.objs.size l 0/\s₂.heap.IsList l items)->l≠s.heap.objs.size->Q (.ref s.heap.objs.size) s₂):bg (model prog w) A (OC (.ref l)) Q E s:=by
 have og:l<s.heap.objs.size:=by obtain⟨_,e,_⟩:=hl;exact bc e
 exact fK hl (h _ rfl ⟨⟨_,aT _ rfl,rfl,rfl⟩,hl.push _⟩ (bR og))
theorem Bw{prog:bo}{w:bM}{A:cp}{bs:List Bool}{its:List aj}(e:its=bs.map kI):
  TruthOf prog w A (λi v=>its.toArray[i]? =some v) (λi=>bs.getD i false):=λi v s Q E hv hq=>by
 have uH:its[i]? =some v:=by simpa using hv
 rw[e,aU] at uH;obtain⟨b,hb,rfl⟩:=Ro.mp uH;have hg:bs.getD i false=b:=by rw[cn,hb]<;>rfl
 have Sm:Q (bs.getD i false) s:=hq;rw[hg] at Sm;exact fJ Sm
theorem any_range:∀bs:List Bool,(bY bs.length).any (λi=>bs.getD i false)=bs.any id
 |[]=>rfl
 |b::bs=>by rw[aV,Rp,iu,qJ,iu,<-any_range bs];all_goals rfl
theorem all_range:∀bs:List Bool,(bY bs.length).all (λi=>bs.getD i false)=bs.all id
 |[]=>rfl
 |b::bs=>by rw[aV,Rp,dW,qK,dW,<-all_range bs];all_goals rfl
section
variable{X:Cx}
def ae3(K:ah):List V->Hp->VK->Prop:=λvs H Q=>∃(a:af)(bs:List Bool),vs=[V.ref a]/\bD K H a (bs.map V.bl)/\Q (.bl (bs.any id)) H
def ae4(K:ah):List V->Hp->VK->Prop:=λvs H Q=>∃(a:af)(bs:List Bool),vs=[V.ref a]/\bD K H a (bs.map V.bl)/\Q (.bl (bs.all id)) H
theorem Yn(hc:X.calm=true):kj X (.builtin "any") (ae3 X.K):=by
 intro pins s σ H vs us Q I r h;obtain⟨a,bs,rfl,hs,q⟩:=h;obtain⟨its,rv,hl,_⟩:=I.list hs;rw[Vals.HJ r];have hb:=rv.bls;refine call_any_walk (JT hl.isList λs₂ e2 st kJ=>?_);subst e2;refine⟨_,_,_,_,_,_,_,rfl,Jz (A:=X.A.in1) (I.ok.hd hc) _ a kJ its.toArray,st,Bw hb,λh' tk hk=>?_⟩;refine⟨.bl _,H,I.kept λb o eo=>hk b o (λFL=>?_) (ai _ eo),?_,q⟩
 ·rcases aA.mp FL with e1|FL
  ·exact absurd (e1▸bc eo) (gO _)
  ·cases FL
 ·show kI _=kI _;rw[<-any_range,hb,bA,aa]
theorem uL(hc:X.calm=true):kj X (.builtin "all") (ae4 X.K):=by
 intro pins s σ H vs us Q I r h;obtain⟨a,bs,rfl,hs,q⟩:=h;obtain⟨its,rv,hl,_⟩:=I.list hs;rw[Vals.HJ r];have hb:=rv.bls;refine call_all_walk (JT hl.isList λs₂ e2 st kJ=>?_);subst e2;refine⟨_,_,_,_,_,_,_,rfl,Jz (A:=X.A.in1) (I.ok.hd hc) _ a kJ its.toArray,st,Bw hb,λh' tk hk=>?_⟩;refine⟨.bl _,H,I.kept λb o eo=>hk b o (λFL=>?_) (ai _ eo),?_,q⟩
 ·rcases aA.mp FL with e1|FL
  ·exact absurd (e1▸bc eo) (gO _)
  ·cases FL
 ·show kI _=kI _;rw[<-all_range,hb,bA,aa]
end
end L2
namespace L2
open PySem PySem.Spec PyProof.Rows
abbrev Sw(h:cu)(c:af)(v:Option aj):Prop:=h.IsCell c v
def ae5(scope sc:Scope):Scope:={scope with names:=scope.names.map λ(n,k)=>if(k==.free&&sc.kind==.function&&sc.names.lookup n==some .cell) then(n,.cell) else(n,k)}
def gv(cells:List (Str×af)):List (Str×jB)->List (Str×af)->List (Str×af)
 |[],acc=>acc
 |(n,k)::r,acc=>if k==.free then gv cells r ((n,(cells.lookup n).getD 0)::acc) else gv cells r acc
theorem ze(env:Env)(f:Str×jB->List (Str×af)->Sem (ForInStep (List (Str×af))))(hf:∀n k c,f (n,k) c=if k==.free then(do let a <-cellOf env n;pure (.yield ((n,a)::c))) else pure (.yield c)):
  ∀(names:List (Str×jB))(acc:List (Str×af)),(∀y∈names,y.2=.free->∃c,env.cells.lookup y.1=some c)->forIn names acc f=pure (gv env.cells names acc)
 |[],acc,_=>by rw[An];rfl
 |(n,k)::r,acc,h=>by
  rw[JB,hf];have ih:=λacc=>ze env f hf r acc λy hy=>h y (bS _ hy);unfold gv;by_cases hk:(k==jH)=true
  ·rw[if_pos hk,if_pos hk];obtain⟨c,hc⟩:=h (n,k) c7 (by simpa using hk);have e:cellOf env n=pure c:=by unfold cellOf;rw[hc]
   rw[e];have e2:(env.cells.lookup n).getD 0=c:=by rw[hc];rfl
   rw[e2];exact ih _
  ·rw[if_neg hk,if_neg hk];exact ih _
theorem ML{scope:Scope}{env:Env}(h:∀y∈scope.names,y.2=.free->∃c,env.cells.lookup y.1=some c):U2 scope env=pure (gv env.cells scope.names []):=by simp only[U2];rw[ze env _ (λn k c=>rfl) scope.names [] h];rfl
theorem mem_lookup{α:Type}:∀{l:List (Str×α)}{n:Str}{c:α},(n,c)∈l->∃c',l.lookup n=some c'
 |(k,v)::r,n,c,h=>by
  rw[di]
  cases hb:n==k with
  |true=>exact⟨_,rfl⟩
  |false=>
   rcases aA.mp h with e|h
   ·cases e;simp at hb
   ·exact mem_lookup h
theorem pS{cells:List (Str×af)}:∀{names:List (Str×jB)}{acc:List (Str×af)}{n:Str}{c:af},(n,c)∈gv cells names acc->(n,c)∈acc∨((n,.free)∈names/\c=(cells.lookup n).getD 0)
 |[],_,_,_,h=>.inl h
 |(m,k)::r,acc,n,c,h=>by
  unfold gv at h;split at h
  ·rename_i hk;have hk:k=.free:=by simpa using hk
   rcases pS h with h|⟨h1,h2⟩
   ·rcases aA.mp h with e|h
    ·cases e;exact .inr ⟨hk▸c7,rfl⟩
    ·exact .inl h
   ·exact .inr ⟨bS _ h1,h2⟩
  ·rcases pS h with h|⟨h1,h2⟩
   ·exact .inl h
   ·exact .inr ⟨bS _ h1,h2⟩
theorem uM{cells:List (Str×af)}:∀{names:List (Str×jB)}{acc:List (Str×af)}{p:Str×af},p∈acc->p∈gv cells names acc
 |[],_,_,h=>h
 |(m,k)::r,acc,p,h=>by
  unfold gv;split
  ·exact uM (bS _ h)
  ·exact uM h
theorem uN{cells:List (Str×af)}:∀{names:List (Str×jB)}{acc:List (Str×af)}{n:Str},(n,.free)∈names->(n,(cells.lookup n).getD 0)∈gv cells names acc
 |(m,k)::r,acc,n,h=>by
  unfold gv;rcases aA.mp h with e|h
  ·cases e;exact uM c7
  ·split
   ·exact uN h
   ·exact uN h
theorem qS:∀{names:List (Str×jB)}{h:cu}{acc:List (Str×af)}{x:Str}{c:af},(x,c)∈fA h.objs.size names acc-> (x,c)∈acc∨((x,.cell)∈names/\h.objs.size<=c/\Sw (uC h names) c none)
 |[],_,_,_,_,h=>.inl h
 |(n,k)::r,h,acc,x,c,hm=>by
  unfold fA at hm;unfold uC;split at hm
  ·rename_i hk;rw[if_pos hk];have hk:k=.cell:=by simpa using hk
   rw[<-cH h {cls:=.type "cell",data:=.cell none}] at hm;rcases qS hm with hm|⟨h1,h2,h3⟩
   ·rcases aA.mp hm with e|hm
    ·cases e;exact .inr ⟨hk▸c7,aJ _,_,B2 r _ _ _ (aT _ rfl),rfl⟩
    ·exact .inl hm
   ·rw[cH] at h2;exact .inr ⟨bS _ h1,ub h2,h3⟩
  ·rename_i hk;rw[if_neg hk];rcases qS hm with hm|⟨h1,h2,h3⟩
   ·exact .inl hm
   ·exact .inr ⟨bS _ h1,h2,h3⟩
theorem wj:∀{names:List (Str×jB)}{n:Nat}{acc:List (Str×af)}{p:Str×af},p∈acc->p∈fA n names acc
 |[],_,_,_,h=>h
 |(m,k)::r,n,acc,p,h=>by
  unfold fA;split
  ·exact wj (bS _ h)
  ·exact wj h
theorem AE:∀{names:List (Str×jB)}{n:Nat}{acc:List (Str×af)}{x:Str},(x,.cell)∈names->∃c,(x,c)∈fA n names acc
 |(m,k)::r,n,acc,x,h=>by
  unfold fA;rcases aA.mp h with e|h
  ·cases e;exact⟨n,wj c7⟩
  ·split
   ·exact AE h
   ·exact AE h
theorem AF:∀{names:List (Str×jB)}{h:cu}{acc:List (Str×af)}{x y:Str}{c:af},(∀p∈acc,p.2<h.objs.size)->(∀x y c,(x,c)∈acc->(y,c)∈acc->x=y)-> (x,c)∈fA h.objs.size names acc->(y,c)∈fA h.objs.size names acc->x=y
 |[],_,_,_,_,_,_,hi,h1,h2=>hi _ _ _ h1 h2
 |(n,k)::r,h,acc,x,y,c,hl,hi,h1,h2=>by
  unfold fA at h1 h2;split at h1
  ·rename_i hk;rw[if_pos hk] at h2;rw[<-cH h {cls:=.type "cell",data:=.cell none}] at h1 h2;refine AF (h:=h.push _) (λp hp=>?_) (λx y c a b=>?_) h1 h2
   ·rw[cH];rcases aA.mp hp with rfl|hp
    ·exact oH _
    ·exact kr (hl p hp)
   ·rcases aA.mp a with e|a<;>rcases aA.mp b with e'|b
    ·cases e;cases e';rfl
    ·cases e;exact absurd (hl _ b) (gO _)
    ·cases e';exact absurd (hl _ a) (gO _)
    ·exact hi _ _ _ a b
  ·rename_i hk;rw[if_neg hk] at h2;exact AF hl hi h1 h2
theorem JU{M:XH}{A:cp}{E:aj->ay->Prop}{s:ay}{scope:Scope}{globals:af}{closure:List (Str×af)}{qual:Str}{func:Option af}{code:aj}{around:Env}{builtins:af}{Q:Env->ay->Prop}(h:Q (newEnv scope s.heap.objs.size globals (fA (s.heap.objs.size+1) scope.names closure) qual func code (some around) builtins) {s with heap:=uC (s.heap.push {cls:=.type "dict",data:=.dict #[]}) scope.names}):
  bg M A (newFunctionEnv scope globals closure [] qual func code (some around) builtins) Q E s:=by
 simp only[newFunctionEnv,WT,if_true];refine ae (wpAny_alloc ?_);refine ae (wpAny_layCells _ (λn k c=>rfl) scope.names closure _ _ ?_);rw[show({s with heap:=s.heap.push {cls:=.type "dict",data:=.dict #[]}}:ay).heap.objs.size=s.heap.objs.size+1 from cH ..];rw[An];exact ae (aI (aI h))
theorem uO{sc:Scope}:∀{names:List (Str×jB)}{x:Str}{k:jB}, (names.map λ(n,k)=>if(k==jH&&sc.kind==.function&&sc.names.lookup n==some .cell) then(n,WM) else(n,k)).lookup x=some k->
  ∃k',names.lookup x=some k'/\(k=k'∨(k'=.free/\k=.cell))
 |[],_,_,h=>by simp at h
 |(n,k₀)::r,x,k,h=>by
  have ih:=@uO sc r x k;have h':mW x ((if(k₀==jH&&sc.kind==.function&&sc.names.lookup n==some .cell)=true then(n,WM) else(n,k₀))::(r.map _))=some k:=h
  cases hx:x==n with
  |true=>
   simp only[di,hx];by_cases hc:(k₀==jH&&sc.kind==.function&&sc.names.lookup n==some .cell)=true
   ·rw[if_pos hc] at h';simp only[di,hx] at h';cases h';simp only[aK,beq_iff_eq] at hc;exact⟨k₀,rfl,.inr ⟨hc.1.1,rfl⟩⟩
   ·rw[if_neg hc] at h';simp only[di,hx] at h';cases h';exact⟨_,rfl,.inl rfl⟩
  |false=>
   simp only[di,hx];by_cases hc:(k₀==jH&&sc.kind==.function&&sc.names.lookup n==some .cell)=true
   ·rw[if_pos hc] at h';simp only[di,hx] at h';exact ih h'
   ·rw[if_neg hc] at h';simp only[di,hx] at h';exact ih h'
structure JV(N:List Str)(sc scope:Scope)(own:List (Str×Nat)):Prop where
 kind:scope.kind=.function
 uniq:∀y∈scope.names,scope.names.lookup y.1=some y.2
 ix:∀p∈own,N[p.2]? =some p.1
 free:∀y∈scope.names,y.2=.free->sc.names.lookup y.1=some .cell∨sc.names.lookup y.1=some .free
 own:∀y∈scope.names,y.2=.local∨y.2=.cell->y.1∈own.map (·.1)∨y.1∉N
def wipe(σ:St):List Nat->St
 |[]=>σ
 |v::vs=>(wipe σ vs).set v none
theorem uP(σ:St):∀vs:List Nat,(wipe σ vs).length=σ.length
 |[]=>rfl
 |v::vs=>by unfold wipe;rw[List.length_set,uP σ vs]
theorem AG{σ:St}{i:Nat}{x:V}:∀{vs:List Nat},(wipe σ vs)[i]? =some (some x)->σ[i]? =some (some x)/\i∉vs
 |[],h=>⟨h,by simp⟩
 |v::vs,h=>by
  unfold wipe at h;by_cases hi:v=i
  ·subst hi;by_cases hv:v<(wipe σ vs).length
   ·rw[xk hv] at h;cases h
   ·rw[c6 (by simpa using hv)] at h;cases h
  ·rw[Ag hi] at h;obtain⟨h1,h2⟩:=AG h;exact⟨h1,by simp only[aA,not_or];exact⟨λe=>hi e.symm,h2⟩⟩
abbrev Cx.HK(X:Cx)(s:ay)(H:Hp)(scope:Scope)(lX:Env)(fp:List af):Cx:={X with FF:=s,H_0:=H,env:=lX,outer:=X.stack,ex:=fp,fn:=λx=>scope.names.lookup x==some .cell,pn:=[],xe:=λ_ _=>False}
section
variable{X:Cx}{pins:List (af×Obj)}{σ:St}{H:Hp}{s:ay}
theorem JW{scope:Scope}{own:List (Str×Nat)}{fp:List af}(I:Inv X pins σ H s)(ok:JV X.N X.env.scope scope own)(hN:X.N.Nodup)(hfp:∀b∈fp,Ay X pins H b/\b<s.heap.objs.size):
  Inv (X.HK s H scope (mF scope (fA (s.heap.objs.size+1) scope.names (gv X.env.cells scope.names [])) s.heap.objs.size X.env) fp) [] (wipe σ (own.map (·.2))) H {s with heap:=uC (s.heap.push {cls:=.type "dict",data:=.dict #[]}) scope.names}:=by
 have GJ:∀y∈scope.names,y.2=.free->∃c,X.env.cells.lookup y.1=some c:=λy hy e=>by
  rcases ok.free y hy e with k|k
  ·exact I.ok.has _ (.inl k)
  ·exact I.ok.has _ (.inr k)
 generalize JX:mF scope (fA (s.heap.objs.size+1) scope.names (gv X.env.cells scope.names [])) s.heap.objs.size X.env=lX;have kp:∀b o,s.heap.get? b=some o->(uC (s.heap.push {cls:=.type "dict",data:=.dict #[]}) scope.names).get? b=some o:=λb o e=>B2 _ _ _ _ (ai _ e);have hL:lX.locals=s.heap.objs.size:=by rw[<-JX];rfl
 have uB:lX.cells=fA (s.heap.objs.size+1) scope.names (gv X.env.cells scope.names []):=by rw[<-JX];rfl
 have Qn:lX.scope=ae5 scope X.env.scope:=by rw[<-JX];rfl
 rw[<-cH s.heap {cls:=.type "dict",data:=.dict #[]}] at uB;have cm:∀{y c},(y,c)∈gv X.env.cells scope.names []->X.env.cells.lookup y=some c/\c<s.heap.objs.size:=λ{y c} hm=>by
  rcases pS hm with hm|⟨h1,rfl⟩
  ·cases hm
  ·obtain⟨c,hc⟩:=GJ _ h1 rfl;rw[hc];obtain⟨w,z⟩:=I.cell _ _ hc;exact⟨rfl,z.lt⟩
 have mem:∀{y c},lX.cells.lookup y=some c->(X.env.cells.lookup y=some c/\c<s.heap.objs.size)∨(s.heap.objs.size+1<=c/\Sw (uC (s.heap.push {cls:=.type "dict",data:=.dict #[]}) scope.names) c none):=λ{y c} e=>by
  rw[uB] at e;rcases qS (cF e) with hm|⟨_,h2,h3⟩
  ·exact .inl (cm hm)
  ·rw[cH] at h2;exact .inr ⟨h2,h3⟩
 have look:∀{y},scope.names.lookup y=some .free->∃c,lX.cells.lookup y=some c/\X.env.cells.lookup y=some c:=λ{y} hl=>by
  have hy:(y,jH)∈scope.names:=cF hl;obtain⟨c',e'⟩:=mem_lookup (wj (names:=scope.names) (n:=(s.heap.push {cls:=.type "dict",data:=.dict #[]}).objs.size) (uN (cells:=X.env.cells) (acc:=[]) hy));rw[<-uB] at e';refine⟨c',e',?_⟩;rw[uB] at e';rcases qS (cF e') with hm|⟨h1,_,_⟩
  ·exact(cm hm).1
  ·have:=ok.uniq _ h1;rw[hl] at this;cases this
 have okB:(X.HK s H scope lX fp).Ok:=by
  refine⟨I.ok.mod,by show lX.scope.kind=_;rw[Qn];exact ok.kind,by show lX.globals=_;rw[<-JX];exact I.ok.glob,by show lX.builtins=_;rw[<-JX];exact I.ok.blt,by show s.heap.objs.size<=lX.locals;rw[hL];exact aJ _,
   λy z c e1 e2=>?_,λy hy=>?_,λy c z e=>?_,I.ok.hd,I.ok.frames,.inl rfl,λb hb=>⟨?_,λy c e z=>?_⟩,I.bs,ak I.ok.U9 I.sz,λb o e hb=>?_,λb hb z=>?_,I.stack,I.Hy⟩
  ·have e1:lX.cells.lookup y=some c:=e1;have e2:lX.cells.lookup z=some c:=e2;rw[uB] at e1 e2;refine AF (λp hp=>?_) (λy z c a b=>I.ok.inj y z c (cm a).1 (cm b).1) (cF e1) (cF e2);rw[cH];exact kr (cm (y:=p.1) (c:=p.2) hp).2
  ·show∃c,lX.cells.lookup y=some c;have key:∀k,lX.kindOf y=some k->(k=.cell∨k=.free)->∃c,lX.cells.lookup y=some c:=λk hk JY=>by
    unfold Env.kindOf at hk;rw[Qn] at hk;obtain⟨k',e,r⟩:=uO hk;have:k'=.cell∨k'=.free:=by
     rcases r with rfl|⟨rfl,_⟩
     ·exact JY
     ·exact .inr rfl
    rcases this with rfl|rfl
    ·obtain⟨c,hm⟩:=AE (n:=(s.heap.push {cls:=.type "dict",data:=.dict #[]}).objs.size) (acc:=gv X.env.cells scope.names []) (cF e);obtain⟨c',e'⟩:=mem_lookup hm;exact⟨c',by rw[uB];exact e'⟩
    ·obtain⟨c,h1,_⟩:=look e;exact⟨c,h1⟩
   rcases hy with hy|hy
   ·exact key _ hy (.inl rfl)
   ·exact key _ hy (.inr rfl)
  ·have z:(scope.names.lookup y==some WM)=true:=z;have z:scope.names.lookup y=some .cell:=by simpa using z
   have e:lX.cells.lookup y=some c:=e;rw[uB] at e;rcases qS (cF e) with hm|⟨_,h2,_⟩
   ·rcases pS hm with hm|⟨h1,_⟩
    ·cases hm
    ·have q:=ok.uniq _ h1;rw[z] at q;cases q
   ·rw[cH] at h2;exact ub h2
  ·show b≠lX.locals;rw[hL];exact bR (hfp b hb).2
  ·have e:lX.cells.lookup y=some c:=e;rcases mem e with⟨h1,_⟩|⟨h1,_⟩
   ·exact(hfp b hb).1.2.2.2.2.1 y c h1 z
   ·have h2:s.heap.objs.size+1<=b:=by rw[<-z];exact h1
    exact absurd (bJ (hfp b hb).2 (ub h2)) (gO _)
  ·rcases(hfp b hb).1.2.2.2.1 with z|z
   ·exact I.ok.RX b o e z
   ·exact absurd (bJ (bc e) (ak I.ok.U9 z)) (gO _)
  ·rcases aA.mp (I.Mw b z) with z|z
   ·exact(hfp b hb).1.2.1 z
   ·exact(hfp b hb).1.2.2.1 z
 refine⟨okB,rfl,I.bare,Un.kept kp,⟨λ_=>none,?_,λi y av e1 e2 e3=>?_⟩,λy c e=>?_,?_,λy c e=>?_,λp hp=>?_,I.dI.kept kp,by rw[uP];exact I.len⟩
 ·show Heap.Ns _ lX.locals _;rw[hL];exact Heap.Ns.keeps (Heap.Ns.new ..) λb o e=>B2 _ _ _ _ e
 ·obtain⟨e2,kJ⟩:=AG e2;have MM:scope.names.lookup y=some .free/\(lX.kindOf y=some .cell∨lX.kindOf y=some .free):=by
   have key:∀k,lX.scope.names.lookup y=some k->k=.local∨k=.cell∨k=.free->scope.names.lookup y=some .free/\(lX.kindOf y=some .cell∨lX.kindOf y=some .free):=λk hk JY=>by
    have hk0:=hk;rw[Qn] at hk;obtain⟨k',e,r⟩:=uO hk;have no:¬(k'=.local∨k'=.cell):=λhh=>by
     rcases ok.own _ (cF e) hh with e'|e'
     ·obtain⟨p,hp,hpy⟩:=aq.mp e';have e3:=ok.ix p hp;have:p.1=y:=hpy;rw[this] at e3;exact kJ (aq.mpr ⟨p,hp,CW hN e3 e1⟩)
     ·exact e' (aL e1)
    rcases r with rfl|⟨rfl,rfl⟩
    ·rcases JY with rfl|rfl|rfl
     ·exact absurd (.inl rfl) no
     ·exact absurd (.inr rfl) no
     ·exact⟨e,.inr hk0⟩
    ·exact⟨e,.inl hk0⟩
   have e3:Vis lX.scope y:=e3;rcases e3 with e3|e3|e3
   ·exact key _ e3 (.inl rfl)
   ·exact key _ e3 (.inr (.inl rfl))
   ·exact key _ e3 (.inr (.inr rfl))
  obtain⟨m,hn,hl⟩:=I.loc;have Yo:Vis X.env.scope y:=(ok.free _ (cF MM.1) rfl).elim (λk=>.inr (.inl k)) (λk=>.inr (.inr k));obtain⟨w,r,q⟩:=hl i y av e1 e2 Yo;refine⟨w,r,.inr ⟨MM.2,?_⟩⟩;obtain⟨c,h1,h2⟩:=look MM.1;rcases q with⟨k,_⟩|⟨_,c',e',z⟩
  ·have k:X.env.scope.names.lookup y=some .local:=k;rcases ok.free _ (cF MM.1) rfl with k'|k'<;>rw[show X.env.scope.names.lookup y=_ from k'] at k<;>cases k
  ·rw[h2] at e';cases e';exact⟨c,h1,z.keeps kp⟩
 ·have e:lX.cells.lookup y=some c:=e;rcases mem e with⟨h1,_⟩|⟨_,z⟩
  ·obtain⟨w,z⟩:=I.cell y c h1;exact⟨w,z.keeps kp⟩
  ·exact⟨_,z⟩
 ·show H lX.locals=none;rw[hL];exact I.dI.fresh (aJ _)
 ·have e:lX.cells.lookup y=some c:=e;rcases mem e with⟨h1,_⟩|⟨h1,_⟩
  ·exact I.tj y c h1
  ·exact I.dI.fresh (ub h1)
 ·exact absurd (show p∈([]:List (af×Obj))++[] from hp) (by simp)
theorem Yp{E:aj->ay->Prop}{D:af}{xs:List V}{y:V}{v:aj}{Q:aj->ay->Prop}(I:Inv X pins σ H s)(hD:H D=some (.lst xs))(hz:xs.length<az)(r:RelV y v)(h:∀s',Inv X pins σ (upd H D (.lst (xs++[y]))) s'->Q .none s'):bg (model X.prog X.w) X.A (call (.builtin "list.append") [.ref D,v]) Q E s:=by obtain⟨GP,its,n,ri,e⟩:=I.dI D _ hD;have hl:=ri.length;refine append_at (hsz:=by rw[bA];omega) e λh' sb OF=>?_;refine h {s with heap:=h'} (I.write (t':=s.toks) (by rw[hD];trivial) (.inl rfl) (λb u hb q=>(sb.2 b hb).trans q) ⟨_,OF⟩ ⟨by rw[aO];exact hz,its++[v],n+1,ri.append (.cons r .nil),?_⟩);rw[OF];simp
def PTs(X:Cx)(ifs:List Expr)(t:TT):Prop:=
 ∀(pins:List (af×Obj))(s:ay)(σ:St)(H:Hp)(Q:Bool->Hp->Prop),Inv X pins σ H s->t σ H Q->
  bg (model X.prog X.w) X.A (forIn ifs true λc r=>if r=true then do let ok <-isTrue c X.env (eval c X.env);pure (xW ok) else pure (xW r)) (TP X pins σ Q) X.xe s
def HL:TT:=λ_ H Q=>Q true H
theorem eK:PTs X [] HL:=λ_ _ _ H _ I h=>wpAny_tests_nil ⟨H,I,h⟩
theorem rU{c:Expr}{t:TT}(h:PT X c t):PTs X [c] t:=λpins s σ H Q I hw=>wpAny_tests_one (h pins s σ H Q I hw)
end
theorem Qo{α:Type}{t:Sem α}{Q Q':α->ay->Prop}{M:XH}{A:cp}{E:aj->ay->Prop}{s:ay}(h:bg M A t Q (λ_ _=>False) s)(hQ:∀a s,Q a s->Q' a s):bg M A t Q' E s:=fj h hQ λ_ _ z=>dH z
theorem HM{prog:bo}{w:bM}{A:cp}{R:aaf->ay->Prop}{s:ay}{elt target iter:Expr}{ifs:List Expr}{scope:Scope}{pos:Pos}{it acc:aj}{env:Env}(I:Nat->ay->Prop)(turn:∀n s,I n s->bg (model prog w) A (js it) (λr s₁=>match r with
   |none=>R (.ok .next) s₁
   |some v=>bg (model prog w) A (B1 target it v) (λ_ W5=>bg (model prog w) A (assign target env v) (λ_ s₂=>bg (model prog w) A (forIn ifs true λc r=>if r=true then do let ok <-isTrue c env (eval c env);pure (xW ok) else pure (xW r)) (λok s₃=>if ok=true then bg (model prog w) A (eval elt env) (λx s₄=>bg (model prog w) A (call (.builtin "list.append") [acc,x]) (λ_ s₅=>∃m,m<n/\I m s₅) (RT (model prog w) A env λe s'=>R (.error e) s') s₄) (RT (model prog w) A env λe s'=>R (.error e) s') s₃
      else∃m,m<n/\I m s₃) (RT (model prog w) A env λe s'=>R (.error e) s') s₂) (RT (model prog w) A env λe s'=>R (.error e) s') W5) (RT (model prog w) A env λe s'=>R (.error e) s') s₁) (RT (model prog w) A env λe s'=>R (.error e) s') s)
  (n:Nat)(h:I n s):
  qO (model prog w) A (.compLoop (.ListComp elt [⟨target,iter,ifs,0⟩] scope pos) 0 it acc env) R s:=by
 refine codeAny_loop rfl I (λn s hI=>?_) n h;show bg _ A ((compTurn (.ListComp elt [⟨target,iter,ifs,0⟩] scope pos) 0 it acc env).onRaise (λx=>do noteFrame x env;theTreesLotGoes x)) _ _ s;refine wpAny_noted ?_;rw[compTurn_list];refine ae (Ht (ae (fj (turn n s hI) (λr s₁ h₁=>?_) λ_ _ h'=>h')))
 cases r with
 |none=>exact aI h₁
 |some v=>
  refine ae (fj h₁ (λ_ W5 abD=>?_) λ_ _ h'=>h');refine ae (fj abD (λ_ s₂ h₂=>ae (fj h₂ (λok s₃ h₃=>?_) λ_ _ h'=>h')) λ_ _ h'=>h')
  cases ok with
  |false=>exact aI ⟨rfl,h₃⟩
  |true=>exact ae (ae (fj h₃ (λx s₄ h₄=>ae (fj h₄ (λ_ s₅ h₅=>aI (aI ⟨rfl,h₅⟩)) λ_ _ h'=>h')) λ_ _ h'=>h'))
section
variable{X:Cx}
def tLc(wi:TI)(g:TG)(tt:TT)(te:TE)(vs:List Nat):TE:=λσ H Q=>wi σ H λJ H1=>∀D,H1 D=none->∃W:Nat->Nat->Hp->Prop,(∃m,W 0 m (upd H1 D (.lst [])))/\∀i m H,W i m H->
 (J.stop i H/\Q (.ref D) H)∨(J.go i H/\∃Nx:Hp->Prop,(∀H',Nx H'->∃m',m'<m/\W (i+1) m' H')/\∀x H',J.FH i H x H'->g x (wipe σ vs) H' λσ2 H2=>wipe σ2 vs=wipe σ vs/\tt σ2 H2 λb H3=>if b=true then te σ2 H3 λy H4=>∃acc,H4 D=some (.lst acc)/\acc.length<az/\Nx (upd H4 D (.lst (acc++[y]))) else Nx H3)
theorem ON{pins:List (af×Obj)}{s:ay}{σ:St}{H:Hp}{Q:VK}{elt tg iter:Expr}{ifs:List Expr}{scope:Scope}{own:List (Str×Nat)}{pos pos':Pos}{wi:TI}{g:TG}{tt:TT}{te:TE}{use:Option (aj->Sem Unit)}{Qf:aj->ay->Prop}(hc:X.calm=true)(hN:X.N.Nodup)(I:Inv X pins σ H s)(hi:PI X tg iter wi)(ok:JV X.N X.env.scope scope own)(hg:∀(s:ay)(H:Hp)(C:af)(cl:List (Str×af))(fp:List af),PG (X.HK s H scope (mF scope cl C X.env) fp) tg g)(ht:∀(s:ay)(H:Hp)(C:af)(cl:List (Str×af))(fp:List af),PTs (X.HK s H scope (mF scope cl C X.env) fp) ifs tt)(he:∀(s:ay)(H:Hp)(C:af)(cl:List (Str×af))(fp:List af),PE (X.HK s H scope (mF scope cl C X.env) fp) elt te)(hs:∀x,xU iter X.env x=pure x)(h:tLc wi g tt te (own.map (·.2)) σ H Q)(Qp:∀D C s' m H',Inv X pins σ H' s'->Q (.ref D) H'->s'.heap.Ns C m->Ay X pins H' C->compPost (model X.prog X.w) X.A X.xe use Qf (.ref D) C (.ok .next) s'):
  bg (model X.prog X.w) X.A (comprehension (.ListComp elt [⟨tg,iter,ifs,0⟩] scope pos) scope X.env pos' (newList []) false (eval iter X.env) use) Qf X.xe s:=by
 have GJ:∀y∈scope.names,y.2=.free->∃c,X.env.cells.lookup y.1=some c:=λy hy e=>by
  rcases ok.free y hy e with k|k
  ·exact I.ok.has _ (.inl k)
  ·exact I.ok.has _ (.inr k)
 refine wpAny_comprehension_free (use:=use) rfl hs (ML GJ) ok.kind (λy hy e=>by rw[ok.uniq y hy,e])
  (iw (hi pins s σ H _ I h) λxv s1 hx=>iw hx λitv s2 h2=>?_)
 obtain⟨it,fp,tn,J,H2,e,I2,T,st2,f2,q⟩:=h2;subst e;refine ir (JU ?_) (by show 0<=az;decide);generalize hD:s2.heap.objs.size=D;have hDn:H2 D=none:=I2.dI.fresh (xo hD);obtain⟨W,⟨m0,w0⟩,turn⟩:=q D hDn;generalize hs3:({s2 with heap:=s2.heap.push {cls:=.type "list",data:=.seq ([]:List aj).toArray}}:ay)=s3;have I3:Inv X pins σ (upd H2 D (.lst [])) s3:=by rw[<-hs3];refine I2.laid (t':=s2.toks) (λb o e=>ai _ e) (xo hD) ⟨bB _,[],0,.nil,?_⟩;rw[<-hD];exact aT _ rfl
 have h3:s3.heap=s2.heap.push {cls:=.type "list",data:=.seq ([]:List aj).toArray}:=by rw[<-hs3]
 have sz:∀b∈fp,b<s2.heap.objs.size:=λb hb=>by obtain⟨o,e,_⟩:=T.obj _ _ st2 b hb;exact bc e
 have f3:∀b∈fp,Ay X pins (upd H2 D (.lst [])) b/\b<s3.heap.objs.size:=λb hb=>by have og:=sz b hb;refine⟨⟨?_,(f2 b hb).2⟩,by rw[h3,cH];exact kr og⟩;rw[ax (by rw[<-hD];exact bR og)];exact(f2 b hb).1
 have st3:tn 0 s3.heap:=T.keep _ _ _ st2 λb _ o e=>by rw[h3];exact ai _ e
 have I4:=JW I3 ok hN f3;have pg:=hg s3 (upd H2 D (.lst [])) s3.heap.objs.size (fA (s3.heap.objs.size+1) scope.names (gv X.env.cells scope.names [])) fp;have pt:=ht s3 (upd H2 D (.lst [])) s3.heap.objs.size (fA (s3.heap.objs.size+1) scope.names (gv X.env.cells scope.names [])) fp;have pe:=he s3 (upd H2 D (.lst [])) s3.heap.objs.size (fA (s3.heap.objs.size+1) scope.names (gv X.env.cells scope.names [])) fp;show qO _ _ (.compStart (.ListComp elt [⟨tg,iter,ifs,0⟩] scope pos) 0 (.ref it) (.ref D) (mF scope (fA (s3.heap.objs.size+1) scope.names (gv X.env.cells scope.names [])) s3.heap.objs.size X.env)) (compPost (model X.prog X.w) X.A X.xe use Qf (.ref D) s3.heap.objs.size) {s3 with heap:=uC (s3.heap.push {cls:=.type "dict",data:=.dict #[]}) scope.names};have nfp:∀b∈fp,(upd H2 D (.lst [])) b=none:=λb hb=>(f3 b hb).1.1;generalize hce:mF scope (fA (s3.heap.objs.size+1) scope.names (gv X.env.cells scope.names [])) s3.heap.objs.size X.env=ce at I4 pg pt pe⊢;have cL:ce.locals=s3.heap.objs.size:=by subst hce;rfl
 generalize hH3:upd H2 D (.lst [])=H3 at I3 I4 pg pt pe w0 nfp f3;generalize hs4:({s3 with heap:=uC (s3.heap.push {cls:=.type "dict",data:=.dict #[]}) scope.names}:ay)=s4 at I4⊢;have st4:tn 0 s4.heap:=T.keep _ _ _ st3 λb _ o e=>by rw[<-hs4];exact B2 _ _ _ _ (ai _ e)
 have MA:∀{σ':St}{H':Hp}{s':ay},Inv (X.HK s3 H3 scope ce fp) [] σ' H' s'->(∀b∈fp,H' b=none)->∀b∈fp,Ay (X.HK s3 H3 scope ce fp) [] H' b:=λ{σ' H' s'} I' hn b hb=>⟨hn b hb,(I'.ok.exf b hb).1,I'.ok.RY b hb,.inl hb,λx c e=>(I'.ok.exf b hb).2 x c e,λp hp=>absurd (show p∈([]:List (af×Obj))++[] from hp) (by simp)⟩;have loop:qO (model X.prog X.w) X.A (.compLoop (.ListComp elt [⟨tg,iter,ifs,0⟩] scope pos) 0 (.ref it) (.ref D) ce) (compPost (model X.prog X.w) X.A X.xe use Qf (.ref D) s3.heap.objs.size) s4:=by
  refine HM (λn s'=>∃i H',Inv (X.HK s3 H3 scope ce fp) [] (wipe σ (own.map (·.2))) H' s'/\tn i s'.heap/\(∀b∈fp,H' b=none)/\W i n H') ?_ m0 ⟨0,H3,I4,st4,nfp,w0⟩;rintro n s5 ⟨i,H5,I5,st5,n5,w5⟩;rcases turn i n H5 w5 with⟨stop,qq⟩|⟨go,Nx,hNx,step⟩
  ·have td:=T.done (X.HK s3 H3 scope ce fp) rfl rfl rfl hc i [] s5 _ H5 (λ_ _=>False) I5 (MA I5 n5) st5 stop;refine Qo td λr s6 ⟨hr,I6⟩=>?_;subst hr;have I7:Inv X pins σ H5 s6:=I3.abe (ch:=fp) I6.os I6.base I6.dI I6.bare λb hb=>⟨(f3 b hb).1.2.2.2.1,(f3 b hb).1.2.1,(f3 b hb).1.2.2.2.2.1,(f3 b hb).1.2.2.2.2.2⟩;have nC:H5 s3.heap.objs.size=none:=by have z:H5 ce.locals=none:=I6.free;rw[cL] at z;exact z
   obtain⟨m,hn,_⟩:=I6.loc;have hn:s6.heap.Ns ce.locals m:=hn;rw[cL] at hn;exact Qp D s3.heap.objs.size s6 m H5 I7 qq hn (I3.HA (aJ _) nC)
  ·have ti:=T.item (X.HK s3 H3 scope ce fp) rfl rfl rfl hc i [] s5 _ H5 (λ_ _=>False) I5 (MA I5 n5) st5 go;refine Qo ti λr s6 ⟨u,hr,h6⟩=>?_;subst hr;refine Qo h6 λ_ s7 ⟨x,H7,I7,r7,y7,st7,n7⟩=>?_;have I7':=I7.pinned (MA I7 n7) (T.obj _ _ st7);refine Qo (pg _ s7 _ H7 x u _ I7' r7 (step x H7 y7)) λ_ s8 ⟨σ8,H8,I8,hw8,q8⟩=>?_;refine Qo (pt _ s8 σ8 H8 _ I8 q8) λb s9 ⟨H9,I9,q9⟩=>?_;have fin:∀{s':ay}{H':Hp},Inv (X.HK s3 H3 scope ce fp) ([]++CZ fp s7.heap) σ8 H' s'->Nx H'->∃m,m<n/\∃i H',Inv (X.HK s3 H3 scope ce fp) [] (wipe σ (own.map (·.2))) H' s'/\tn i s'.heap/\(∀b∈fp,H' b=none)/\W i m H':=λ{s' H'} I' nx=>by
    obtain⟨m',hm,w'⟩:=hNx H' nx;have abE:∀b∈fp,∀o,s7.heap.get? b=some o->s'.heap.get? b=some o/\H' b=none:=λb hb o e=>
     let z:=I'.pin (b,o) (cZ _ (cZ _ (x5 hb e)))
     ⟨z.1,z.2.1⟩
    have hl:(wipe σ (own.map (·.2))).length=σ8.length:=by rw[<-hw8,uP]
    refine⟨m',hm,i+1,H',(I'.qQ (pins:=[])).weak hl (λj v e=>?_),T.keep _ _ _ st7 λb hb o e=>(abE b hb o e).1,λb hb=>?_,w'⟩
    ·rw[<-hw8] at e;exact(AG e).1
    ·obtain⟨o,e,_⟩:=T.obj _ _ st7 b hb;exact(abE b hb o e).2
   cases b with
   |false=>simp only[rP,if_false] at q9⊢;exact fin I9 q9
   |true=>simp only[if_true] at q9⊢;refine Qo (pe _ s9 σ8 H9 _ I9 q9) λz s10 ⟨yv,H10,I10,r10,acc,ae7,ae8,nx⟩=>?_;exact Yp (X:=X.HK s3 H3 scope ce fp) I10 ae7 ae8 r10 λs11 I11=>fin I11 nx
 exact codeAny_compStart_list loop (T.self X.A 0 _ _ _ st4 loop)
theorem gU{elt tg iter:Expr}{ifs:List Expr}{scope:Scope}{own:List (Str×Nat)}{pos:Pos}{wi:TI}{g:TG}{tt:TT}{te:TE}(hc:X.calm=true)(hN:X.N.Nodup)(hi:PI X tg iter wi)(ok:JV X.N X.env.scope scope own)(hg:∀(s:ay)(H:Hp)(C:af)(cl:List (Str×af))(fp:List af),PG (X.HK s H scope (mF scope cl C X.env) fp) tg g)(ht:∀(s:ay)(H:Hp)(C:af)(cl:List (Str×af))(fp:List af),PTs (X.HK s H scope (mF scope cl C X.env) fp) ifs tt)(he:∀(s:ay)(H:Hp)(C:af)(cl:List (Str×af))(fp:List af),PE (X.HK s H scope (mF scope cl C X.env) fp) elt te)(hs:∀x,xU iter X.env x=pure x:=by intro _;rfl):
  PE X (.ListComp elt [⟨tg,iter,ifs,0⟩] scope pos) (tLc wi g tt te (own.map (·.2))):=by
 intro pins s σ H Q I h;rw[eval_ListComp];refine ON hc hN I hi ok hg ht he hs h λD C s' m H' I' q hn f=>⟨m,hn,λMm sb=>?_⟩;obtain⟨f0,f1,f2,f3,f4,f5⟩:=f;exact⟨.ref D,H',I'.turned (t':=s'.toks) (λb o hb e=>(sb.2 b hb).trans e) f0 f1 f3 f4 f5,rfl,q⟩
theorem C7{i:Nat}{y:Str}{py:Pos}{elt tg iter:Expr}{ifs:List Expr}{scope:Scope}{own:List (Str×Nat)}{pos abF:Pos}{wi:TI}{g:TG}{tt:TT}{te:TE}(hc:X.calm=true)(hN:X.N.Nodup)(hy:X.N[i]? =some y)(Vc:X.env.scope.names.lookup y=some .local)(hsw:Ai (.ListComp elt [⟨tg,iter,ifs,0⟩] scope pos) (some (.Name y py)) abF.line X.env=pure true)(hi:PI X tg iter wi)(ok:JV X.N X.env.scope scope own)(hg:∀(s:ay)(H:Hp)(C:af)(cl:List (Str×af))(fp:List af),PG (X.HK s H scope (mF scope cl C X.env) fp) tg g)(ht:∀(s:ay)(H:Hp)(C:af)(cl:List (Str×af))(fp:List af),PTs (X.HK s H scope (mF scope cl C X.env) fp) ifs tt)(he:∀(s:ay)(H:Hp)(C:af)(cl:List (Str×af))(fp:List af),PE (X.HK s H scope (mF scope cl C X.env) fp) elt te)(hs:∀x,xU iter X.env x=pure x:=by intro _;rfl):
  PS X (.Assign [.Name y py] (.ListComp elt [⟨tg,iter,ifs,0⟩] scope pos) abF) (X5 (tLc wi g tt te (own.map (·.2))) (JK i)):=by
 intro pins s σ H D I h;rw[exec_Assign_Name_used _ _ _ _ hsw];refine ae (Ht (ae ?_));show bg _ X.A (do let _ <-comprehension (.ListComp elt [⟨tg,iter,ifs,0⟩] scope pos) scope X.env (firstIterPos [⟨tg,iter,ifs,0⟩] pos) (newList []) false (eval iter X.env) (some (assign (.Name y py) X.env))) _ _ s;have h:tLc wi g tt te (own.map (·.2)) σ H (λx H1=>JK i x σ H1 D.nx):=h;refine ae (iw (ON (Qf:=λ_ s'=>SP X pins D .next s') hc hN I hi ok hg ht he hs h λL C s' m H' I' q hn f=>?_) λ_ s' hq=>aI (aI hq));show bg _ _ (assign (.Name y py) X.env (.ref L)) _ _ _;refine aiL (GI (v:=V.ref L) I' hN hy (.inl Vc) rfl (λs2 I2 ⟨a,sb,ha⟩=>?_) (.inr Vc));obtain⟨f0,f1,f2,f3,f4,f5⟩:=f;have haC:C≠a:=by
  rcases ha with z|z
  ·rw[z];exact f1
  ·exactλe=>f4 y a z e.symm
 refine⟨m,hn.sameBut sb haC,λh3 Qq=>?_⟩;exact⟨_,H',I2.turned (t':=s2.toks) (λb o hb e=>(Qq.2 b hb).trans e) f0 f1 f3 f4 f5,q⟩
theorem HN{elt:Expr}{gs:List Comprehension}{scope:Scope}{pos py:Pos}{y:Str}{l:Nat}{env:Env}(hk:env.scope.kind=.function)(hy:env.scope.names.lookup y=some .local)(hl:(py.line==pos.line)=true)(ha:(scope.names.any λ(n,k)=>n==y&&(k==.local||k==.cell))=false):Ai (.ListComp elt gs scope pos) (some (.Name y py)) l env=pure true:=by
 have ky:env.kindOf y=some .local:=hy;have hb:env.blockKind=.function:=by unfold Env.blockKind;rw[hk];rfl
 unfold Ai;simp only[hb,ky,ha,Expr.pos,hl];rfl
end
def abG(N:List Str)(sc scope:Scope)(own:List (Str×Nat)):Bool:=
 (match scope.kind with|.function=>true|_=>false)&&(scope.names.all λy=>decide (scope.names.lookup y.1=some y.2))&&(own.all λp=>decide (N[p.2]? =some p.1))&&
  (scope.names.all λy=>match y.2 with
   |.free=>(match sc.names.lookup y.1 with|some .cell=>true|some .free=>true|_=>false)
   |.local=>decide (y.1∈own.map (·.1))||decide (y.1∉N)
   |.cell=>decide (y.1∈own.map (·.1))||decide (y.1∉N)
   |_=>true)
theorem cM{N:List Str}{sc scope:Scope}{own:List (Str×Nat)}(h:abG N sc scope own=true):JV N sc scope own:=by
 unfold abG at h;simp only[aK,b0,decide_eq_true_eq] at h;obtain⟨⟨⟨h1,h2⟩,h3⟩,h4⟩:=h;refine⟨?_,h2,h3,λy hy e=>?_,λy hy e=>?_⟩
 ·split at h1
  ·assumption
  ·cases h1
 ·have q:=h4 y hy;simp only[e] at q;split at q<;>first|exact .inl (by assumption)|exact .inr (by assumption)|cases q
 ·have q:=h4 y hy;rcases e with e|e<;>(simp only[e,g8,decide_eq_true_eq] at q;exact q)
end L2
namespace L2
open PySem PySem.Spec PyProof.Rows
end L2
namespace L2
open PySem PySem.Spec PyProof.Rows
section
variable{κ:Type}[DecidableEq κ]
def iP(kvs:List (κ×V))(k:κ):Option V:=(kvs.find? λkv=>decide (kv.1=k)).map (·.2)
def putK(kvs:List (κ×V))(k:κ)(v:V):List (κ×V):=if(kvs.any λkv=>decide (kv.1=k))=true then kvs.map (λkv=>if kv.1=k then(kv.1,v) else kv) else kvs++[(k,v)]
theorem uQ{p:κ×V}{r:List (κ×V)}{k:κ}(e:p.1=k):iP (p::r) k=some p.2:=by simp[iP,hJ,e]
theorem qT{p:κ×V}{r:List (κ×V)}{k:κ}(e:¬p.1=k):iP (p::r) k=iP r k:=by simp[iP,hJ,e]
theorem zf(k:κ):∀kvs:List (κ×V),(kvs.any λkv=>decide (kv.1=k))=(iP kvs k).isSome
 |[]=>rfl
 |p::r=>by
  rw[iu];by_cases e:p.1=k
  ·simp only[uQ e,decide_eq_true e,Bool.true_or,WT]
  ·rw[qT e,decide_eq_false e,aeu];exact zf k r
theorem Bx(kvs:List (κ×V))(k:κ)(v:V):(putK kvs k v).length<=kvs.length+1:=by
 unfold putK;split
 ·rw[aa];omega
 ·rw[aO,aV,aa0];omega
theorem C8{kvs:List (κ×V)}{k:κ}(v:V)(h:iP kvs k=none):putK kvs k v=kvs++[(k,v)]:=by unfold putK;rw[zf,h];exact if_neg (by decide)
theorem ue.qU{o:Option V}{u:Option aj}(r:ue o u):o.isSome=u.isSome:=by
 cases o with
 |none=>cases u with
  |none=>rfl
  |some _=>exact(show False from r).elim
 |some _=>cases u with
  |none=>exact(show False from r).elim
  |some _=>rfl
theorem ue.getD{o:Option V}{u:Option aj}{d:V}{d':aj}(r:ue o u)(rd:RelV d d'):RelV (o.getD d) (u.getD d'):=by
 cases o with
 |none=>cases u with
  |none=>exact rd
  |some _=>exact(show False from r).elim
 |some _=>cases u with
  |none=>exact(show False from r).elim
  |some _=>exact r
theorem KV.val{kvs:List (κ×V)}{vs:List (κ×aj)}(r:KV kvs vs)(k:κ):ue (iP kvs k) (Mi vs k):=by
 unfold KV at r
 induction r with
 |nil=>exact jh
 |@cons p q ps qs h t ih=>
  obtain⟨h1,h2⟩:=h;by_cases e:p.1=k
  ·have e':q.1=k:=h1.symm.trans e;have b:Mi (q::qs) k=some q.2:=by simp[Mi,hJ,e']
   rw[uQ e,b];exact h2
  ·have e':¬q.1=k:=λz=>e (h1.trans z);have b:Mi (q::qs) k=Mi qs k:=by simp[Mi,hJ,e']
   rw[qT e,b];exact ih
theorem KV.any{kvs:List (κ×V)}{vs:List (κ×aj)}(r:KV kvs vs)(k:κ):(kvs.any λkv=>decide (kv.1=k))=vs.any λkv=>decide (kv.1=k):=by
 unfold KV at r
 induction r with
 |nil=>rfl
 |cons h t ih=>rw[iu,iu,ih,h.1]
theorem KV.Yq{kvs:List (κ×V)}{vs:List (κ×aj)}(r:KV kvs vs)(k:κ){y:V}{u:aj}(ry:RelV y u):
  KV (kvs.map λkv=>if kv.1=k then(kv.1,y) else kv) (vs.map λkv=>if kv.1=k then(kv.1,u) else kv):=by
 unfold KV at r⊢
 induction r with
 |nil=>exact .nil
 |@cons p q ps qs h t ih=>
  rw[bp,bp];refine .cons ?_ ih;obtain⟨h1,h2⟩:=h;by_cases e:p.1=k
  ·rw[if_pos e,if_pos (h1.symm.trans e)];exact⟨h1,ry⟩
  ·rw[if_neg e,if_neg (λz=>e (h1.trans z))];exact⟨h1,h2⟩
theorem KV.put{kvs:List (κ×V)}{vs:List (κ×aj)}(r:KV kvs vs)(k:κ){y:V}{u:aj}(ry:RelV y u):KV (putK kvs k y) (stored vs k u):=by
 unfold putK stored;rw[r.any k];by_cases e:(vs.any λkv=>decide (kv.1=k))=true
 ·rw[if_pos e,if_pos e];exact r.Yq k ry
 ·rw[if_neg e,if_neg e];exact Paired.snoc r ⟨rfl,ry⟩
theorem KV.length{kvs:List (κ×V)}{vs:List (κ×aj)}(r:KV kvs vs):kvs.length=vs.length:=qL r
end
theorem C9{P:bo}{w:bM}{k:Key}{u:aj}(r:RelV (kV k) u):(gc P w).is k u=true:=by
 cases k with
 |inl i=>obtain⟨t,e⟩:=(show∃t,u=Ou i t from r);subst e;exact JG P w i t
 |inr x=>obtain⟨t,e⟩:=(show∃t,u=Ov x t from r);subst e;exact JH P w x t
theorem GQ{P:bo}{w:bM}:∀{ks:List Key}{us:List aj},Vals (ks.map kV) us->ItemsAre (gc P w) ks us
 |[],_,r=>by rw[Fe] at r;cases r;exact .nil
 |k::ks,_,r=>by
  rw[bp] at r
  cases r with
  |cons h t=>exact .cons (C9 h) (GQ t)
abbrev KT(H:Hp):List (List Key×V)->List (List Key×af×aj)->Prop:=dh λp q=>p.1=q.1/\H q.2.1=some (.tup (p.1.map kV))/\RelV p.2 q.2.2
theorem KT.val{H:Hp}{kvs:List (List Key×V)}{xs:List (List Key×af×aj)}(r:KT H kvs xs)(k:List Key):ue (iP kvs k) ((U5 xs k).map (·.2)):=by
 induction r with
 |nil=>exact jh
 |@cons p q ps qs h t ih=>
  obtain⟨h1,_,h2⟩:=h;by_cases e:p.1=k
  ·have e':q.1=k:=h1.symm.trans e;have b:U5 (q::qs) k=some q.2:=by simp[U5,hJ,e']
   rw[uQ e,b];exact h2
  ·have e':¬q.1=k:=λz=>e (h1.trans z);have b:U5 (q::qs) k=U5 qs k:=by simp[U5,hJ,e']
   rw[qT e,b];exact ih
theorem KT.Yq{H:Hp}{kvs:List (List Key×V)}{xs:List (List Key×af×aj)}(r:KT H kvs xs)(k:List Key){y:V}{u:aj}(ry:RelV y u):
  KT H (kvs.map λkv=>if kv.1=k then(kv.1,y) else kv) (xs.map (putAt k u)):=by
 induction r with
 |nil=>exact .nil
 |@cons p q ps qs h t ih=>
  rw[bp,bp];refine .cons ?_ ih;obtain⟨h1,h2,h3⟩:=h;unfold putAt;by_cases e:p.1=k
  ·rw[if_pos e,if_pos (h1.symm.trans e)];exact⟨h1,h2,ry⟩
  ·rw[if_neg e,if_neg (λz=>e (h1.trans z))];exact⟨h1,h2,h3⟩
theorem KT.put{H:Hp}{kvs:List (List Key×V)}{xs:List (List Key×af×aj)}(r:KT H kvs xs)(k:List Key){b:af}{y:V}{u:aj}(hb:H b=some (.tup (k.map kV)))(ry:RelV y u):
  KT H (putK kvs k y) (storedH xs k b u):=by
 have e:(kvs.any λkv=>decide (kv.1=k))=(U5 xs k).isSome:=by rw[zf,(r.val k).qU,E9]
 unfold putK storedH;rw[e];by_cases q:(U5 xs k).isSome=true
 ·rw[if_pos q,if_pos q];exact r.Yq k ry
 ·rw[if_neg q,if_neg q];exact Paired.snoc r ⟨rfl,hb,ry⟩
theorem KT.keeps{H H':Hp}{kvs:List (List Key×V)}{xs:List (List Key×af×aj)}(r:KT H kvs xs)(ht:∀b ys,H b=some (.tup ys)->H' b=some (.tup ys)):KT H' kvs xs:=Paired.XT r λ_ _ z=>⟨z.1,ht _ _ z.2.1,z.2.2⟩
section
variable{P:bo}{w:bM}{H:Hp}{h:cu}{a:af}
theorem W6{u:HO}(ok:uf P w H h)(e:Rd H a u):fB P w H h a u:=e.ok ok
theorem By{kvs:List (Key×V)}(ok:uf P w H h)(e:Rd H a (.dK kvs)):kvs.length<=az/\(a==gb)=false/\∃vs,KV kvs vs/\h.DictOf (gc P w) a vs:=show fB P w H h a (.dK kvs) from W6 ok e
theorem Sx{kvs:List (Key×V)}(ok:uf P w H h)(e:H a=some (.dK kvs)):kvs.length<=az/\(a==gb)=false/\∃vs,KV kvs vs/\h.DictOf (gc P w) a vs:=By ok (.inl e)
theorem AH{ks:List Key}(ok:uf P w H h)(e:H a=some (.tup (ks.map kV))):(Fx (gc P w)).is h ks a:=by obtain⟨_,its,r,o,h1,h2,n,h3⟩:=(show fB P w H h a (.tup (ks.map kV)) from ok a _ e);exact⟨o,its.toArray,n,h1,h2,h3,by simpa using GQ r⟩
theorem Dc{kvs:List (List Key×V)}(ok:uf P w H h)(e:Rd H a (.dT kvs)):kvs.length<=az/\(a==gb)=false/\
  ∃xs,KT H kvs xs/\h.DictOfH (Fx (gc P w)) a xs:=by
 obtain⟨z,y,xs,r,o,es,ep,h1,h2,h3,h4,h5⟩:=(show fB P w H h a (.dT kvs) from W6 ok e);refine⟨z,y,xs,r,o,es,ep,h1,h2,h3,h4,λx hx=>?_,h5⟩;have all:∀{l:List (List Key×V)}{m:List (List Key×af×aj)},KT H l m->∀x∈m,(Fx (gc P w)).is h x.1 x.2.1:=by
  intro l m q
  induction q with
  |nil=>intro x hx;exact nomatch hx
  |@cons p q ps qs hq t ih=>
   intro x hx;rcases aA.mp hx with e|hx
   ·subst e;exact AH ok (by rw[<-hq.1];exact hq.2.1)
   ·exact ih x hx
 exact all r x hx
theorem abH{kvs:List (List Key×V)}(ok:uf P w H h)(e:H a=some (.dT kvs)):kvs.length<=az/\(a==gb)=false/\
  ∃xs,KT H kvs xs/\h.DictOfH (Fx (gc P w)) a xs:=Dc ok (.inl e)
end
def jv(H:Hp)(a:af)(y:V)(r:Option V):Prop:=(∃kvs k,Rd H a (.dK kvs)/\y=kV k/\r=iP kvs k)∨∃kvs k b,Rd H a (.dT kvs)/\y=.ref b/\H b=some (.tup (k.map kV))/\r=iP kvs k
def FN(H:Hp)(a:af)(y v:V)(H':Hp):Prop:=
 (∃kvs k,H a=some (.dK kvs)/\y=kV k/\kvs.length<az/\H'=upd H a (.dK (putK kvs k v)))∨
 ∃kvs k b,H a=some (.dT kvs)/\y=.ref b/\H b=some (.tup (k.map kV))/\kvs.length<az/\H'=upd H a (.dT (putK kvs k v))
theorem jv.k{H:Hp}{a:af}{kvs:List (Key×V)}{k:Key}(e:H a=some (.dK kvs)):jv H a (kV k) (iP kvs k):=.inl ⟨kvs,k,.inl e,rfl,rfl⟩
theorem jv.t{H:Hp}{a b:af}{kvs:List (List Key×V)}{k:List Key}(e:H a=some (.dT kvs))(eb:H b=some (.tup (k.map kV))):jv H a (.ref b) (iP kvs k):=.inr ⟨kvs,k,b,.inl e,rfl,eb,rfl⟩
theorem FN.k{H:Hp}{a:af}{kvs:List (Key×V)}{k:Key}{v:V}(e:H a=some (.dK kvs))(hl:kvs.length<az):FN H a (kV k) v (upd H a (.dK (putK kvs k v))):=.inl ⟨kvs,k,e,rfl,hl,rfl⟩
theorem FN.t{H:Hp}{a b:af}{kvs:List (List Key×V)}{k:List Key}{v:V}(e:H a=some (.dT kvs))(eb:H b=some (.tup (k.map kV)))(hl:kvs.length<az):
  FN H a (.ref b) v (upd H a (.dT (putK kvs k v))):=.inr ⟨kvs,k,b,e,rfl,eb,hl,rfl⟩
section
variable{X:Cx}{pins:List (af×Obj)}{σ:St}{H:Hp}{s:ay}{a:af}{y v:V}{u r:aj}{o:Option V}{A:cp}{E:aj->ay->Prop}
theorem Inv.big(I:Inv X pins σ H s):gb<s.heap.objs.size:=by have h:bF<s.heap.objs.size:=(I.mod.glob.keeps I.bk).lt;exact Nat.lt_trans (by decide) h
theorem Qr{Q:aj->ay->Prop}(hu:A.units+1<lW)(I:Inv X pins σ H s)(g:jv H a y (some v))(ry:RelV y u)(h:∀w' s',Inv X pins σ H s'->RelV v w'->Q w' s'):
  bg (model X.prog X.w) A (RQ (.ref a) u) Q E s:=by
 rcases g with⟨kvs,k,e,ey,l⟩|⟨kvs,k,b,e,ey,eb,l⟩
 ·subst ey;obtain⟨z,hd,vs,rel,dd⟩:=By I.dI e;obtain⟨w',hw,Sr⟩:=ue.some_of (v:=v) (o:=Mi vs k) (by rw[l];exact rel.val k);exact wpAny_getItem_of (C9 ry) dd.mapOf hw (h w' _ (I.tok _) Sr)
 ·subst ey;cases(show u=bu b from ry);obtain⟨z,hd,xs,rel,dd⟩:=Dc I.dI e;obtain⟨w',hw,Sr⟩:=ue.some_of (v:=v) (o:=(U5 xs k).map (·.2)) (by rw[l];exact rel.val k);obtain⟨p,hp,hp2⟩:=Ro.mp hw;refine wpAny_getItem_heap (oa hu) (AH I.dI eb) dd hp ?_;rw[hp2];exact h w' _ (I.tok _) Sr
theorem ae9{Q:aj->ay->Prop}(hu:A.units+1<lW)(I:Inv X pins σ H s)(g:jv H a y o)(ry:RelV y u)(h:∀s',Inv X pins σ H s'->Q (.bool o.isSome) s'):
  bg (model X.prog X.w) A (d8 .In u (.ref a)) Q E s:=by
 rcases g with⟨kvs,k,e,ey,l⟩|⟨kvs,k,b,e,ey,eb,l⟩
 ·subst ey;obtain⟨z,hd,vs,rel,dd⟩:=By I.dI e;refine wpAny_in_of (C9 ry) hd dd.mapOf ?_;rw[<-(rel.val k).qU,<-l];exact h _ (I.tok _)
 ·subst ey;cases(show u=bu b from ry);obtain⟨z,hd,xs,rel,dd⟩:=Dc I.dI e;refine wpAny_in_heap (oa hu) (AH I.dI eb) hd dd ?_;have q:=(rel.val k).qU;rw[E9] at q;rw[<-q,<-l];exact h _ (I.tok _)
theorem VO{Q:aj->ay->Prop}(hu:A.units+1<lW)(I:Inv X pins σ H s)(g:jv H a y o)(ry:RelV y u)(h:∀s',Inv X pins σ H s'->Q (.bool (!o.isSome)) s'):
  bg (model X.prog X.w) A (d8 .NotIn u (.ref a)) Q E s:=by
 rcases g with⟨kvs,k,e,ey,l⟩|⟨kvs,k,b,e,ey,eb,l⟩
 ·subst ey;obtain⟨z,hd,vs,rel,dd⟩:=By I.dI e;refine wpAny_notIn_of (C9 ry) hd dd.mapOf ?_;rw[<-(rel.val k).qU,<-l];exact h _ (I.tok _)
 ·subst ey;cases(show u=bu b from ry);obtain⟨z,hd,xs,rel,dd⟩:=Dc I.dI e;refine wpAny_notIn_heap (oa hu) (AH I.dI eb) hd dd ?_;have q:=(rel.val k).qU;rw[E9] at q;rw[<-q,<-l];exact h _ (I.tok _)
theorem OO{h':cu}{t':Nat}{ob:HO}(I:Inv X pins σ H s)(mu:XU (H a))(hs:eE a s.heap h')(he:∃q,h'.get? a=some q)(new:fB X.prog X.w (upd H a ob) h' a ob):
  Inv X pins σ (upd H a ob) {s with heap:=h',toks:=t'}:=
 I.write (x:=a) (e:=a) mu (.inl rfl) (λb q hb z=>(hs.2 b hb).trans z) he new
theorem Yr{P:bo}{w:bM}{H':Hp}{h':cu}{kvs:List (Key×V)}{vs:List (Key×aj)}(z:kvs.length<=az)(hd:(a==gb)=false)(rel:KV kvs vs)(dd:h'.DictOf (gc P w) a vs):
  fB P w H' h' a (.dK kvs):=⟨z,hd,vs,rel,dd⟩
theorem Qs{H':Hp}{Q:Unit->ay->Prop}(hu:A.units+1<lW)(I:Inv X pins σ H s)(g:FN H a y v H')(ry:RelV y u)(rv:RelV v r)(h:∀s',Inv X pins σ H' s'->Q () s'):
  bg (model X.prog X.w) A (setItem (.ref a) u r) Q E s:=by
 rcases g with⟨kvs,k,e,ey,l,eH⟩|⟨kvs,k,b,e,ey,eb,l,eH⟩
 ·subst ey eH;obtain⟨z,hd,vs,rel,dd⟩:=Sx I.dI e;have hz:vs.length<=az:=by rw[<-rel.length];exact z
  have hl:(putK kvs k v).length<=az:=by have:=Bx kvs k v;omega
  refine wpAny_setItem_pairs (hsz:=hz) (C9 ry) dd λh' dd' hs=>h _ ?_;have he:∃q,h'.get? a=some q:=let⟨q,_,_,hq,_⟩:=dd';⟨q,hq⟩;exact OO I (by rw[e];exact jh) hs he (Yr hl hd (rel.put k rv) dd')
 ·subst ey eH;cases(show u=bu b from ry);obtain⟨z,hd,xs,rel,dd⟩:=abH I.dI e;have hz:xs.length<=az:=by rw[<-qL rel];exact z
  have hl:(putK kvs k v).length<=az:=by have:=Bx kvs k v;omega
  refine wpAny_setItem_heap (hsz:=hz) (oa hu) (AH I.dI eb) dd λh' dd' hs=>h _ ?_;obtain⟨q,es,ep,hq,h2,h3,h4,_,h5⟩:=dd';refine OO I (by rw[e];exact jh) hs ⟨q,hq⟩ ⟨hl,hd,_,(rel.put k eb rv).keeps λc ys ec=>?_,q,es,ep,hq,h2,h3,h4,h5⟩;rw[ax (gA ec e (λz=>nomatch z))];exact ec
end
section
variable{X:Cx}{pins:List (af×Obj)}{σ:St}{H:Hp}{s:ay}{a:af}{kvs:List (Key×V)}{k:Key}{u:aj}{A:cp}{E:aj->ay->Prop}
theorem abI{Q:aj->ay->Prop}(I:Inv X pins σ H s)(e:Rd H a (.dK kvs))(h:∀t s',Inv X pins σ H s'->Q (.int kvs.length t) s'):bg (model X.prog X.w) A (call (.builtin "len") [.ref a]) Q E s:=by obtain⟨z,hd,vs,rel,dd⟩:=By I.dI e;refine call_len_dict hd dd (by rw[<-rel.length];rw[PX] at z;omega) ?_;rw[<-rel.length];exact h _ _ (I.tok _)
end
def abJ(i:Expr):Prop:=∀ov iv,subscripted i false ov iv=operate [ov,iv] (RQ ov iv)
theorem VP{prog:bo}{w:bM}{A:cp}{E:aj->ay->Prop}{s:ay}{env:Env}{value slice:Expr}{pos:Pos}{T id:String}{Q:aj->ay->Prop}(hl:ahh (.type T) "__getitem__"=pure (some (.builtin id)))(hs:abJ slice)(h:bg (model prog w) A (eval value env) (λo s₁=>bg (model prog w) A (eval slice env) (λi s₂=>s₂.TypeIs o T/\bg (model prog w) A (RQ o i) Q E s₂) E s₁) E s):
  bg (model prog w) A (eval (.Subscript value slice pos) env) Q E s:=by
 refine Subscript_ (fj h (λo s₁ h₁=>fj h₁ (λi s₂ h₂=>?_) λ_ _ x=>x) λ_ _ x=>x);obtain⟨hT,h₂⟩:=h₂;unfold aiK;refine ae ?_;rw[getitemInPython_of_ne hT.not_modules];refine ae (wpAny_specialOf hT hl ?_);have fin:bg (model prog w) A (subscripted slice false o i) (λr s₃=>bg (model prog w) A (letTemporaryGo value o r >>= λ_=>pure r) Q E s₃) E s₂:=by rw[hs o i];exact wpAny_operating (fj h₂ (λr s₃ h₃=>ae (wpAny_letTemporaryGo (aI h₃))) λ_ _ x=>x)
 first
  |exact aI (ae fin)
  |exact ae (aI (ae fin))
  |exact ae fin
theorem JZ{X:Cx}{pins:List (af×Obj)}{σ:St}{H:Hp}{s:ay}{a:af}{y:V}{o:Option V}(I:Inv X pins σ H s)(g:jv H a y o):s.TypeIs (.ref a) "dict":=by
 rcases g with⟨kvs,k,e,_,_⟩|⟨kvs,k,b,e,_,_,_⟩
 ·obtain⟨_,_,vs,_,dd⟩:=By I.dI e;exact dd.typeIs
 ·obtain⟨_,_,xs,_,dd⟩:=Dc I.dI e;exact dd.typeIs
def abK(td ty:TE):TE:=λσ H Q=>td σ H λx H1=>ty σ H1 λy H2=>∃a v,x=.ref a/\jv H2 a y (some v)/\Q v H2
def afa(ty td:TE):TE:=λσ H Q=>ty σ H λy H1=>td σ H1 λx H2=>∃a o,x=.ref a/\jv H2 a y o/\Q (.bl o.isSome) H2
def VQ(ty td:TE):TE:=λσ H Q=>ty σ H λy H1=>td σ H1 λx H2=>∃a o,x=.ref a/\jv H2 a y o/\Q (.bl (!o.isSome)) H2
def abL(td ty tv:TE):TS:=λD σ H=>tv σ H λv H1=>td σ H1 λx H2=>ty σ H2 λy H3=>∃a H4,x=.ref a/\FN H3 a y v H4/\D.nx σ H4
section
variable{X:Cx}{o i e value:Expr}{pos pos' ug:Pos}{td ty tv:TE}
theorem rV(hu:X.A.units+1<lW)(ho:PE X o td)(hi:PE X i ty)(hs:abJ i):PE X (.Subscript o i pos) (abK td ty):=by intro pins s σ H Q I h;refine VP PySem.F.slot_dict_getitem.lookup hs (iw (ho pins s σ H _ I h) λu s1 ⟨x,H1,I1,rx,q1⟩=>iw (hi pins s1 σ H1 _ I1 q1) λiv s2 ⟨y,H2,I2,ry,a,v,ex,g,q2⟩=>?_);subst ex;obtain rfl:u=bu a:=rx;exact⟨JZ I2 g,Qr hu I2 g ry λw' s3 I3 Sr=>⟨v,H2,I3,Sr,q2⟩⟩
theorem Sy(hu:X.A.units+1<lW)(hi:PE X i ty)(ho:PE X o td):PC X .In i o (afa ty td):=by intro pins s σ H Q I h;refine iw (hi pins s σ H _ I h) λiv s1 ⟨y,H1,I1,ry,q1⟩=>iw (ho pins s1 σ H1 _ I1 q1) λu s2 ⟨x,H2,I2,rx,a,ov,ex,g,q2⟩=>?_;subst ex;obtain rfl:u=bu a:=rx;exact ae9 hu I2 g ry λs3 I3=>⟨.bl ov.isSome,H2,I3,rfl,q2⟩
theorem oK(hu:X.A.units+1<lW)(hi:PE X i ty)(ho:PE X o td):PC X .NotIn i o (VQ ty td):=by intro pins s σ H Q I h;refine iw (hi pins s σ H _ I h) λiv s1 ⟨y,H1,I1,ry,q1⟩=>iw (ho pins s1 σ H1 _ I1 q1) λu s2 ⟨x,H2,I2,rx,a,ov,ex,g,q2⟩=>?_;subst ex;obtain rfl:u=bu a:=rx;exact VO hu I2 g ry λs3 I3=>⟨.bl (!ov.isSome),H2,I3,rfl,q2⟩
theorem CK(hu:X.A.units+1<lW)(ho:PE X o td)(hi:PE X i ty)(hv:PE X value tv)(hs:Ai value (some (.Subscript o i pos')) pos.line X.env=pure false):
  PS X (.Assign [.Subscript o i pos'] value pos) (abL td ty tv):=by
 intro pins s σ H D I h;refine wpAny_Assign_Subscript (iw (hv pins s σ H _ I h) λr s1 ⟨v,H1,I1,rv,q1⟩=>iw (ho pins s1 σ H1 _ I1 q1) λu s2 ⟨x,H2,I2,rx,q2⟩=>iw (hi pins s2 σ H2 _ I2 q2) λiv s3 ⟨y,H3,I3,ry,a,H4,ex,g,q3⟩=>?_) hs;subst ex;obtain rfl:u=bu a:=rx;exact Qs hu I3 g ry rv λs4 I4=>⟨σ,H4,I4,q3⟩
end
theorem Sz{P:bo}{w:bM}{H:Hp}(h:cu)(hb:gb<h.objs.size):fB P w H (h.push {cls:=.type "dict",data:=.dict #[]}) h.objs.size (.dK []):=⟨bB _,beq_eq_false_iff_ne.mpr (mM (bR hb)),[],.nil,Heap.DictOf.new h⟩
theorem SA{P:bo}{w:bM}{H:Hp}(h:cu)(hb:gb<h.objs.size):fB P w H (h.push {cls:=.type "dict",data:=.dict #[]}) h.objs.size (.dT []):=⟨bB _,beq_eq_false_iff_ne.mpr (mM (bR hb)),[],.nil,_,#[],0,aT _ rfl,⟨rfl,rfl,rfl⟩,rfl,rfl,List.nodup_nil⟩
def Ys:TE:=λ_ H Q=>∀p,H p=none->Q (.ref p) (upd H p (.dK []))
def Yt:TE:=λ_ H Q=>∀p,H p=none->Q (.ref p) (upd H p (.dT []))
section
variable{X:Cx}{pos:Pos}
theorem Dd:PE X (.Dict [] [] pos) Ys:=λpins s σ H Q I h=>al4 ⟨.ref s.heap.objs.size,_,I.laid (a:=s.heap.objs.size) (o:=.dK []) (t':=s.toks) (λ_ _ q=>ai _ q) (aJ _) (Sz s.heap I.big),rfl,h _ (I.dI.fresh (aJ _))⟩
theorem SD:PE X (.Dict [] [] pos) Yt:=λpins s σ H Q I h=>al4 ⟨.ref s.heap.objs.size,_,I.laid (a:=s.heap.objs.size) (o:=.dT []) (t':=s.toks) (λ_ _ q=>ai _ q) (aJ _) (SA s.heap I.big),rfl,h _ (I.dI.fresh (aJ _))⟩
end
structure M1(X:Cx)(o:Expr)(m:Str)(apos:Pos)(e:Expr)(l5:Pos):Prop where
 base:fU o m X.env (eval o X.env)=eval o X.env
 few:((fH l5 (bL [e] X.env)).all (λx=>!x.1)&&(iH l5 (eU [] X.env)).all (λx=>x.1.isSome)&&decide (([e]:List Expr).length+([]:List Bu).length+(if([]:List Bu).isEmpty then 0 else 1)<30))=true
 line:(apos.endLine==l5.line)=true
 trees:fH l5 (bL [e] X.env)=[(false,eval e X.env)]
def IsD(H:Hp)(a:af):Prop:=(∃kvs,Rd H a (.dK kvs))∨∃kvs,Rd H a (.dT kvs)
theorem Yu{X:Cx}{pins:List (af×Obj)}{σ:St}{H:Hp}{s:ay}{a:af}(I:Inv X pins σ H s)(d:IsD H a):
  s.TypeIs (.ref a) "dict"/\(∀b,bu a=.ref b->∃ob,s.heap.get? b=some ob/\ob.dict=none)/\(a==gb)=false:=by
 rcases d with⟨kvs,e⟩|⟨kvs,e⟩
 ·obtain⟨_,hd,vs,_,dd⟩:=By I.dI e;refine⟨dd.typeIs,λb q=>?_,hd⟩;cases q;obtain⟨ob,_,_,h1,h2,_⟩:=dd;exact⟨ob,h1,h2.2.1⟩
 ·obtain⟨_,hd,xs,_,dd⟩:=Dc I.dI e;refine⟨dd.typeIs,λb q=>?_,hd⟩;cases q;obtain⟨ob,_,_,h1,h2,_⟩:=dd;exact⟨ob,h1,h2.2.1⟩
section
variable{X:Cx}{pins:List (af×Obj)}{σ:St}{H:Hp}{s:ay}{a:af}{y d:V}{u r:aj}{o:Option V}{A:cp}{E:aj->ay->Prop}
theorem Yv{Q:aj->ay->Prop}(hu:A.units+1<lW)(I:Inv X pins σ H s)(g:jv H a y o)(ry:RelV y u)(h:∀w' s',Inv X pins σ H s'->RelV (o.getD .gT) w'->Q w' s'):
  bg (model X.prog X.w) A (call (.builtin "dict.get") [.ref a,u]) Q E s:=by
 rcases g with⟨kvs,k,e,ey,l⟩|⟨kvs,k,b,e,ey,eb,l⟩
 ·subst ey;obtain⟨z,hd,vs,rel,dd⟩:=By I.dI e;refine call_meetsIn y6 dd.typeIs Rq (PN _ _) (meets_dict_get (gc X.prog X.w) a (C9 ry) hd) ⟨_,dd.mapOf,h _ _ (I.tok _) ?_⟩;rw[l];exact(rel.val k).getD rfl
 ·subst ey;cases(show u=bu b from ry);obtain⟨z,hd,xs,rel,dd⟩:=Dc I.dI e;refine call_meetsIn y6 dd.typeIs Rq (PN _ _) (meetsH_dict_get (Fx (gc X.prog X.w)) a b hd) ⟨oa hu,k,xs,AH I.dI eb,dd,h _ _ (I.tok _) ?_⟩;rw[l];exact(rel.val k).getD rfl
end
def Yw(td ty:TE):TE:=λσ H Q=>td σ H λx H1=>∃a,x=.ref a/\IsD H1 a/\ty σ H1 λy H2=>∃o,jv H2 a y o/\Q (o.getD .gT) H2
section
variable{X:Cx}{o e f:Expr}{apos l5:Pos}{td ty tx:TE}
theorem SE(hu:X.A.units+1<lW)(ho:PE X o td)(he:PE X e ty)(m:M1 X o "get" apos e l5):PE X (.Call (.Attribute o "get" apos) [e] [] l5) (Yw td ty):=by intro pins s σ H Q I h;refine Mb m.base m.few m.line PySem.F.plainAttrs_dict y6 PySem.F.type_dict_get (iw (ho pins s σ H _ I h) λu s1 ⟨x,H1,I1,rx,a,ex,d,q1⟩=>?_);subst ex;obtain rfl:u=bu a:=rx;obtain⟨t1,t2,_⟩:=Yu I1 d;refine⟨t1,t2,?_⟩;rw[m.trees];refine Bj rfl (E2 (Jt (iw (he pins s1 σ H1 _ I1 q1) λiv s2 ⟨y,H2,I2,ry,ov,g,q2⟩=>Ma ?_)));exact Yv hu I2 g ry λw' s3 I3 Sr=>⟨_,H2,I3,Sr,q2⟩
end
end L2
namespace L2
open PySem PySem.Spec PyProof.Rows
end L2
namespace L2
open PySem PySem.Spec PyProof.Rows
section
variable{X:Cx}{pins:List (af×Obj)}{σ:St}{H:Hp}{s:ay}{h':cu}
theorem Inv.OP{t':Nat}{ch:List af}(I:Inv X pins σ H s)(k:∀b o,b∉ch->s.heap.get? b=some o->h'.get? b=some o)(hf:∀b∈ch,Ay X pins H b):Inv X pins σ H {s with heap:=h',toks:=t'}:=by
 have WX:∀b u,H b=some u->b∉ch:=λb u e z=>by
  have q:=(hf b z).1;rw[q] at e;cases e
 refine I.step (g':=s.gens) (d':=s.drawn) (ch:=ch) (λb hb=>⟨(hf b hb).2.2.2.1,(hf b hb).2.1,(hf b hb).2.2.2.2.1,(hf b hb).2.2.2.2.2⟩) (λb o _ _ hc e _=>k b o hc e) (λb o _ _ hc e _=>⟨o.slots,k b o hc e⟩)
  (λ_ _ _ _ n=>n) (λb o hc e=>⟨o,k b o hc e⟩) (λ_ _ e=>e) (λ_ _ _ e=>e) (λb ps e=>⟨#[],by rw[e];simp⟩) (λm hm=>?_) (λb u e=>?_) I.bare
 ·obtain⟨o,es,ep,ho,r⟩:=hm;exact⟨o,es,ep,k _ o (λz=>(hf _ z).2.1 rfl) ho,r⟩
 ·refine(I.dI b u e).FD (λc v hc q=>k c v ?_ q) (λ_ q=>q) λ_ _ q=>q;rcases hc with z|z
  ·rw[z];exact WX b u e
  ·exact WX c _ z
theorem Inv.wk{t':Nat}{ch:List af}{T:af}{ob:HO}(I:Inv X pins σ H s)(k:∀b o,b∉ch->s.heap.get? b=some o->h'.get? b=some o)(hf:∀b∈ch,Ay X pins H b)(hT:s.heap.objs.size<=T)(new:fB X.prog X.w (upd H T ob) h' T ob):Inv X pins σ (upd H T ob) {s with heap:=h',toks:=t'}:=by
 have hn:H T=none:=I.dI.fresh hT;have WX:∀b u,H b=some u->b∉ch:=λb u e z=>by
  have q:=(hf b z).1;rw[q] at e;cases e
 refine I.step (g':=s.gens) (d':=s.drawn) (ch:=ch) (λb hb=>⟨(hf b hb).2.2.2.1,(hf b hb).2.1,(hf b hb).2.2.2.2.1,(hf b hb).2.2.2.2.2⟩) (λb o _ _ hc e _=>k b o hc e) (λb o _ _ hc e _=>⟨o.slots,k b o hc e⟩)
  (λb o _ e n=>?_) (λb o hc e=>⟨o,k b o hc e⟩) (λb xs e=>?_) (λb o u e=>?_) (λb ps e=>⟨#[],?_⟩) (λm hm=>?_) (λb u e=>?_) I.bare
 ·rw[ax (bR (bJ (bc e) hT))];exact n
 ·rw[ax (aQ e hn)];exact e
 ·rw[ax (aQ e hn)];exact e
 ·rw[ax (aQ e hn),e];simp
 ·obtain⟨o,es,ep,ho,r⟩:=hm;exact⟨o,es,ep,k _ o (λz=>(hf _ z).2.1 rfl) ho,r⟩
 ·by_cases hb:b=T
  ·subst hb;rw[ag] at e;cases e;exact new
  ·rw[ax hb] at e;refine(I.dI b u e).FD (λc v hc q=>k c v ?_ q) (λc q=>by rw[ax (aQ q hn)];exact q) λc xs q=>by rw[ax (aQ q hn)];exact q
   rcases hc with z|z
   ·rw[z];exact WX b u e
   ·exact WX c _ z
theorem Inv.lock{d:af}{u:HO}(I:Inv X pins σ H s)(h:H d=some u)(mu:XU (some u)):∃od,Inv X pins σ (upd H d (.uD od u)) s:=by
 have x:=I.dI d u h;have ex:∃od,s.heap.get? d=some od:=by
  cases u with
  |lst xs=>obtain⟨_,_,_,_,e⟩:=x;exact⟨_,e⟩
  |dK kvs=>obtain⟨_,_,_,_,o,_,_,e,_⟩:=x;exact⟨o,e⟩
  |dT kvs=>obtain⟨_,_,_,_,o,_,_,e,_⟩:=x;exact⟨o,e⟩
  |set S n=>obtain⟨o,_,_,_,e,_⟩:=x;exact⟨o,e⟩
  |ins C dx fs=>obtain⟨_,_,_,e,_⟩:=x;exact⟨_,e⟩
  |ext φ=>obtain⟨_,⟨_,e⟩,_⟩:=x;exact⟨_,e⟩
  |_=>exact dH mu
 obtain⟨od,e⟩:=ex;have new:fB X.prog X.w (upd H d (.uD od u)) s.heap d (.uD od u):=by
  refine⟨e,x.FD (λb v _ q=>q) (λb q=>?_) λb xs q=>?_⟩
  ·rw[ax (λz=>by rw[z,h] at q;cases q;exact mu)];exact q
  ·rw[ax (λz=>by rw[z,h] at q;cases q;exact mu)];exact q
 exact⟨od,I.write (x:=d) (e:=d) (t':=s.toks) (h':=s.heap) (by rw[h];exact mu) (.inl rfl) (λb v _ q=>q) ⟨od,e⟩ new⟩
end
section
variable{X:Cx}
theorem MN{tg:Expr}{pins:List (af×Obj)}{σ:St}{H:Hp}{s:ay}{R:It->Hp->Prop}{J:It}{tn:Nat->cu->Prop}{tk:Nat}(I:Inv X pins σ H s)(o:Obj)(T:Turn X.prog X.w X.K tg J [s.heap.objs.size] s.heap.objs.size tn)(st:tn 0 (s.heap.push o))(q:R J H):PIE X pins σ tg R (.ref s.heap.objs.size) {s with heap:=s.heap.push o,toks:=tk}:=by
 refine⟨s.heap.objs.size,[s.heap.objs.size],tn,J,H,rfl,I.kept λb ob e=>ai _ e,T,st,λb hb=>?_,q⟩;have e:b=s.heap.objs.size:=by simpa using hb
 subst e;exact I.HA (aJ _) (I.dI.fresh (aJ _))
end
def Its(x:Str):It:=⟨λi _=>i<x.cps.size,λi H v H'=>H'=H/\∃c,x.cps[i]? =some c/\v=.str ⟨#[c]⟩,λi _=>x.cps.size<=i⟩
theorem J0{P:bo}{w:bM}{K:ah}{tg:Expr}(it:af)(x:Str)(t:Tok)(ty:String)(hty:ty="str_ascii_iterator"∨ty="str_iterator"):
  Turn P w K tg (Its x) [it] it (λi h=>h.IsStrIter it ty x t i) where
 mem:=by simp
 obj:=λi h st b hb=>by
  have e:b=it:=by simpa using hb
  subst e;obtain⟨o,e,c,d⟩:=st;exact⟨o,e,λv z=>by rw[d] at z;cases z⟩
 keep:=λi h h' st k=>let⟨o,ho,r⟩:=st;⟨o,k it (by simp) o ho,r⟩
 item:=by
  intro X hP hw hK hc i pins s σ H E I hf st hg;subst hP hw hK;obtain⟨f0,f1,f2,f3,f4,f5⟩:=hf it (by simp);have W:Walks X.prog X.w X.A it [it] [it] x.cps.size (SignAt x) (λi h=>h.IsStrIter it ty x t i):=by
   rcases hty with e|e
   ·rw[e];exact Walks.strAscii (I.ok.hd hc) it x t
   ·rw[e];exact Walks.strWide (I.ok.hd hc) it x t
  have hno:["enumerate","zip","dict_itemiterator","dict_reverseitemiterator","odict_iterator","itertools.zip_longest","itertools.pairwise"].contains ty=false:=by
   rcases hty with e|e
   ·rw[e];decide
   ·rw[e];decide
  refine W.item i s _ _ hg st λv h' tk hv Sd kk=>?_;obtain⟨c,u,hcx,rfl⟩:=hv;have I1:Inv X pins σ H {s with heap:=h',toks:=tk}:=I.turned (λb o hb e=>kk b o (by simpa using hb) e) f0 f1 f3 f4 f5;obtain⟨oi,e,cc,dd⟩:=id Sd;exact⟨_,rfl,OG (s:={s with heap:=h',toks:=tk}) e cc dd hno ⟨.str ⟨#[c]⟩,H,I1,⟨u,rfl⟩,⟨rfl,c,hcx,rfl⟩,Sd,λb hb=>(hf b hb).1⟩⟩
 done:=by
  intro X hP hw hK hc i pins s σ H E I hf st hg;subst hP hw hK;obtain⟨f0,f1,f2,f3,f4,f5⟩:=hf it (by simp);have hx:x.cps[i]? =none:=xl hg;rcases hty with e|e
  ·rw[e] at st;exact wpAny_pyNext_ascii_end (I.ok.hd hc) st hx λh' eb=>⟨rfl,I.turned (t':=s.toks) (λb o hb e=>eb b o hb e) f0 f1 f3 f4 f5⟩
  ·rw[e] at st;exact wpAny_pyNext_wide_end (I.ok.hd hc) st hx λh' eb=>⟨rfl,I.turned (t':=s.toks) (λb o hb e=>eb b o hb e) f0 f1 f3 f4 f5⟩
 self:=λA i s Q E st h=>by
  rcases hty with e|e
  ·rw[e] at st;exact wpAny_pyIter_striter_ascii st h
  ·rw[e] at st;exact wpAny_pyIter_striter_wide st h
def afb(te:TE):TI:=λσ H R=>te σ H λv H1=>∃x,v=.str x/\R (Its x) H1
theorem MO{X:Cx}{tg e:Expr}{te:TE}(he:PE X e te):PI X tg e (afb te):=by
 intro pins s σ H R I h;refine iw (he pins s σ H _ I h) λv s1 ⟨y,H1,I1,r1,x,ex,q⟩=>?_;subst ex;obtain⟨t,rfl⟩:=r1;cases ha:x.cps.all (· <128)
 ·exact wpAny_pyIter_wide ha (MN (tk:=s1.toks) I1 _ (J0 _ x t "str_iterator" (.inr rfl)) ⟨_,aT _ rfl,rfl,rfl⟩ q)
 ·exact wpAny_pyIter_ascii ha (MN (tk:=s1.toks) I1 _ (J0 _ x t "str_ascii_iterator" (.inl rfl)) ⟨_,aT _ rfl,rfl,rfl⟩ q)
section
variable{prog:bo}{w:bM}{A:cp}{E:aj->ay->Prop}{s:ay}
theorem Qt{d:af}{o:Obj}{es:Array gR}{ep:Nat}{Q:aj->ay->Prop}(hd:(d==gb)=false)(ho:s.heap.get? d=some o)(hc:o.ExactDict)(SF:o.data=.dict es ep)(hQ:Q (.ref s.heap.objs.size) {s with heap:=s.heap.push {cls:=.type "dict_keyiterator",data:=.fields #[.ref d,.int 0 0,.int es.size 0,.int ep 0]}}):
  bg (model prog w) A (OC (.ref d)) Q E s:=by
 have hT:s.TypeIs (.ref d) "dict":=⟨o,ho,hc.1⟩;refine aiN hT al5 (fz al5 hT F.entry_dict_iter ?_ (F.args_dict_iter_1 _));unfold Builtin.«dict.__iter__»;refine ae ?_;unfold Builtin.Dict.dictSlotNone;refine ae (aaT hT ?_);show bg _ _ (pure (bu d)) _ _ s;refine aI ?_;show bg _ _ (qx d >>= _) _ _ s;unfold qx;rw[if_neg (by rw[hd];exact aY)];refine ae (aI ?_);refine ae (lU ho SF ?_);refine ae (nY ho SF ?_);refine ae (ir (aI ⟨_,rfl,"dict_keyiterator",_,⟨_,aT _ rfl,rfl⟩,iz.lookup,?_⟩));simpa[eQ] using hQ
theorem FO{it d:af}{i n ep:Nat}{od:Obj}{es:Array gR}{en:gR}{Q:Option aj->ay->Prop}(hit:s.heap.IsKeyIter it d i n ep)(Fm:s.heap.get? d=some od)(SG:od.data=.dict es ep)(hsz:es.size=n)(hx:es[i]? =some en)(hQ:∀h',h'.IsKeyIter it d (i+1) n ep->eE it s.heap h'->Q (some en.key) {s with heap:=h'}):bg (model prog w) A (js (.ref it)) Q E s:=by
 obtain⟨o,ho,hc,hd⟩:=id hit;unfold js;refine ae (lj (eZ (name:=aR "__next__") hit.typeIs iz (fz iz hit.typeIs PM ?_ (Om _))));refine ae (aI ?_);refine ae ?_;refine ae ?_;first|refine ae (kq hit.typeIs (aI ?_))|refine ae (nQ hit.typeIs (aI ?_))
 refine ae (E4 ho hd ?_);have HP:iA "dict_keyiterator"=false:=by decide
 simp only[HP,rP,if_false];show bg _ _ (if(bu d==gF)=true then _ else _) _ _ s;rw[if_neg (show¬((bu d==gF)=true) from aY)];refine ae (aI ?_);refine ae (lU Fm SG ?_);rw[if_neg (by rw[hsz];simp)];refine ae (aI ?_);refine ae (nY Fm SG ?_);rw[if_neg (by simp)];refine aI ?_;obtain⟨SH,hen⟩:=L9.mp hx;simp only[show¬((i:Int)<0) from by omega,if_false,nT,Mr SH];refine ae ?_;first|refine ae (kq hit.typeIs (aI ?_))|refine ae (nQ hit.typeIs (aI ?_))
 refine ae (aaU hit.typeIs ?_);show bg _ _ (Me (.ref it) 1 (eQ ((i:Int)+1)) >>= _) _ _ s;refine ae (UU ho hd (by simp) ?_);have Qu:(s.heap.update it (Obj.mapFields (·.setIfInBounds 1 (eQ ((i:Int)+1))))).IsKeyIter it d (i+1) n ep:=⟨_,aaV _ ho (Obj.isFreed_of_fields (ahc hd _)),(Obj.cls_mapFields ..).trans hc,by rw[ahc hd];simp[eQ]⟩;refine ae (gz ?_);refine ae (aaU (s:={s with heap:=s.heap.update it (Obj.mapFields (·.setIfInBounds 1 (eQ ((i:Int)+1))))}) Qu.typeIs ?_);show bg _ _ (pure es[i].key) _ _ _;rw[hen];exact aI (aI ⟨_,rfl,aI (hQ _ Qu (t9 ..))⟩)
theorem HQ{it d:af}{i n ep:Nat}{od:Obj}{es:Array gR}{Q:Option aj->ay->Prop}(hh:A.handled=none)(hit:s.heap.IsKeyIter it d i n ep)(Fm:s.heap.get? d=some od)(SG:od.data=.dict es ep)(hsz:es.size=n)(hge:n<=i)(hQ:∀h',adA it s.heap h'->Q none {s with heap:=h'}):bg (model prog w) A (js (.ref it)) Q E s:=by
 obtain⟨o,ho,hc,hd⟩:=id hit;unfold js;refine ae (lj (eZ (name:=aR "__next__") hit.typeIs iz (fz iz hit.typeIs PM ?_ (Om _))));refine ae (aI ?_);refine ae ?_;refine ae ?_;first|refine ae (kq hit.typeIs (aI ?_))|refine ae (nQ hit.typeIs (aI ?_))
 refine ae (E4 ho hd ?_);have HP:iA "dict_keyiterator"=false:=by decide
 simp only[HP,rP,if_false];show bg _ _ (if(bu d==gF)=true then _ else _) _ _ s;rw[if_neg (show¬((bu d==gF)=true) from aY)];refine ae (aI ?_);refine ae (lU Fm SG ?_);rw[if_neg (by rw[hsz];simp)];refine ae (aI ?_);refine ae (nY Fm SG ?_);rw[if_neg (by simp)];refine aI ?_;have afc:es.size<=i:=by rw[hsz];exact hge
 simp only[show¬((i:Int)<0) from by omega,if_false,nT,xl afc];refine ae ?_;first|refine ae (kq hit.typeIs (aI ?_))|refine ae (nQ hit.typeIs (aI ?_))
 show bg _ _ (Me (.ref it) 0 .none >>= _) _ _ s;refine ae (UU ho hd (by simp) ?_);show bg _ _ (newExc (.type "StopIteration") [] >>= _) _ _ _;refine ae ?_;simp only[newExc,newTuple];refine ae (ir ?_ (by size_fits));refine ae (m:=E5 _ _) (PZ (a:=gF) (by first|rfl|(simp only[E5];rfl)) ?_);refine ir ?_ (by size_fits);simp only[raiseNew];refine ae (wpAny_handled ?_);rw[show A.in1.handled=none from hh];refine ae (aI (wpAny_throw ?_));refine ae (Ad (T:="StopIteration") (b:=true) ⟨_,aT _ rfl,rfl⟩ E6 ?_);exact aI (hQ _ (((t9 ..).extBut.push _).push _))
end
theorem MP{α β:Type}{G:α->β->Prop}{l₁:List α}{l₂:List β}(h:dh G l₁ l₂):∀{i:Nat}{a:α},l₁[i]? =some a->∃b,l₂[i]? =some b/\G a b:=by
 induction h with
 |nil=>intro i a e;simp at e
 |@cons a b l₁ l₂ r t ih=>
  intro i a' e
  cases i with
  |zero=>simp only[List.getElem?_cons_zero,Option.some.injEq] at e;subst e;exact⟨b,rfl,r⟩
  |succ j=>simp only[List.getElem?_cons_succ] at e⊢;exact ih e
theorem OQ{o:Obj}{es WV:Array gR}{ep WW:Nat}(h:o.data=.dict es ep)(h':o.data=.dict WV WW):WV=es/\WW=ep:=by
 rw[h] at h';cases h';exact⟨rfl,rfl⟩
theorem GR:de "zip"=some (.type "zip"):=by decide+kernel
def Itz(K:ah)(a b:af):It:=⟨λi H=>∃(xs ys:List V)(x y:V),bD K H a xs/\bD K H b ys/\xs[i]? =some x/\ys[i]? =some y,λi H v H'=>∃T x y,v=.ref T/\H T=none/\H'=upd H T (.tup [x,y])/\(∀xs,bD K H a xs->xs[i]? =some x)/\∀ys,bD K H b ys->ys[i]? =some y,λi H=>∃xs ys:List V,bD K H a xs/\bD K H b ys/\(xs.length<=i∨ys.length<=i)⟩
theorem SI{P:bo}{w:bM}{K:ah}{elts:List Expr}{kk:Nat}{ug:Pos}{a b z TI TO i1 i2:af}(D:ZipApart z TI TO i1 i2 a b):
  Turn P w K (.Tuple elts kk ug) (Itz K a b) [z,TI,TO,i1,i2] z (λi h=>x3 h z TI TO .none/\IsPair h TI (.ref i1) (.ref i2)/\(∃x y,IsPair h TO x y)/\h.IsListIter i1 a i/\h.IsListIter i2 b i) where
 mem:=by simp
 obj:=λi h st c hc=>by
  obtain⟨hz,y9,⟨x,y,De⟩,⟨o1,e1,_,d1⟩,⟨o2,e2,_,d2⟩⟩:=st;have e':c=z∨c=TI∨c=TO∨c=i1∨c=i2:=by simpa using hc
  rcases e' with q|q|q|q|q
  ·rw[q];exact⟨_,hz,λv q=>nomatch q⟩
  ·rw[q];exact⟨_,y9,λv q=>nomatch q⟩
  ·rw[q];exact⟨_,De,λv q=>nomatch q⟩
  ·rw[q];exact⟨o1,e1,λv q=>by rw[d1] at q;cases q⟩
  ·rw[q];exact⟨o2,e2,λv q=>by rw[d2] at q;cases q⟩
 keep:=λi h h' st k=>by obtain⟨hz,y9,⟨x,y,De⟩,h1,h2⟩:=st;exact⟨k z (by simp) _ hz,k TI (by simp) _ y9,⟨x,y,k TO (by simp) _ De⟩,h1.at λo q=>k i1 (by simp) o q,h2.at λo q=>k i2 (by simp) o q⟩
 item:=by
  intro X hP hw hK hc i pins s σ H E I hf st hg;subst hP hw hK;obtain⟨hz,y9,⟨x0,y0,De⟩,h1,h2⟩:=st;obtain⟨xs,ys,x,y,MQ,SJ,hx,hy⟩:=hg;obtain⟨its,rv,p,_⟩:=I.list MQ;obtain⟨pJ,MR,p2,_⟩:=I.list SJ;obtain⟨u,hu,ru⟩:=rv.get hx;obtain⟨u2,hu2,ru2⟩:=MR.get hy;have OR:z<s.heap.objs.size:=bc hz;refine wpAny_pyNext_zip_item D hz y9 De h1 h2 p.isList p2.isList (x:=u) (y:=u2) (by simpa using hu) (by simpa using hu2) λh' z' TO' h1' h2' hT hsz hk=>?_;refine⟨_,rfl,Vk (s:={s with heap:=h'}) z' λMm z'' sb=>?_⟩;have VR:Mm.get? s.heap.objs.size=some {cls:=.type "tuple",data:=.seq #[u,u2]}:=(sb.2 _ (dw OR)).trans hT;have new:fB X.prog X.w (upd H s.heap.objs.size (.tup [x,y])) Mm s.heap.objs.size (.tup [x,y]):=⟨by show 2<=az;decide,[u,u2],.cons ru (.cons ru2 .nil),⟨_,VR,rfl,_,rfl⟩⟩;have I1:Inv X pins σ (upd H s.heap.objs.size (.tup [x,y])) {s with heap:=Mm}:=I.wk (t':=s.toks) (ch:=[z,TI,TO,i1,i2]) (λc o hb q=>(sb.2 c (λq'=>hb (by simp[q']))).trans (hk c o (λq'=>hb (by simp[q'])) (λq'=>hb (by simp[q'])) (λq'=>hb (by simp[q'])) (λq'=>hb (by simp[q'])) q)) hf (aJ _) new;refine⟨.ref s.heap.objs.size,_,I1,rfl,⟨_,x,y,rfl,I.dI.fresh (aJ _),rfl,λl hl=>by rw[I.oT hl MQ];exact hx,λl hl=>by rw[I.oT hl SJ];exact hy⟩,⟨z'',?_,⟨u,u2,?_⟩,?_,?_⟩,λc W7=>?_⟩
  ·exact(sb.2 _ D.TIz).trans (hk _ _ D.TIz D.TITO D.TIi1 D.TIi2 y9)
  ·exact(sb.2 _ D.TOz).trans TO'
  ·exact h1'.at λo q=>(sb.2 _ D.i1z).trans q
  ·exact h2'.at λo q=>(sb.2 _ D.i2z).trans q
  ·have og:c<s.heap.objs.size:=by
    have e':c=z∨c=TI∨c=TO∨c=i1∨c=i2:=by simpa using W7
    rcases e' with q|q|q|q|q
    ·rw[q];exact OR
    ·rw[q];exact bc y9
    ·rw[q];exact bc De
    ·rw[q];obtain⟨_,e1,_⟩:=h1;exact bc e1
    ·rw[q];obtain⟨_,e2,_⟩:=h2;exact bc e2
   rw[ax (bR og)];exact(hf c W7).1
 done:=by
  intro X hP hw hK hc i pins s σ H E I hf st hg;subst hP hw hK;obtain⟨hz,y9,⟨x0,y0,De⟩,h1,h2⟩:=st;obtain⟨xs,ys,MQ,SJ,abS⟩:=hg;obtain⟨its,rv,p,_⟩:=I.list MQ;obtain⟨pJ,MR,p2,_⟩:=I.list SJ;have l1:=rv.length;have l2:=MR.length;have he:its.toArray[i]? =none∨pJ.toArray[i]? =none:=by
   rcases abS with q|q
   ·exact .inl (by simp;omega)
   ·exact .inr (by simp;omega)
  exact wpAny_pyNext_zip_end (I.ok.hd hc) D hz y9 De h1 h2 p.isList p2.isList he λh' hk=>⟨rfl,I.OP (t':=s.toks) (ch:=[z,TI,TO,i1,i2]) (λc o hb q=>hk c o (λq'=>hb (by simp[q'])) (λq'=>hb (by simp[q'])) (λq'=>hb (by simp[q'])) (λq'=>hb (by simp[q'])) q) hf⟩
 self:=λA i s Q E st h=>Ae st.1 h
def afh(K:ah)(ta:TA):TI:=λσ H R=>ta σ H λvs H1=>∃a b xs ys,vs=[.ref a,.ref b]/\bD K H1 a xs/\bD K H1 b ys/\R (Itz K a b) H1
theorem AI{X:Cx}{e e2:Expr}{ta:TA}{p pos ug:Pos}{elts:List Expr}{kk:Nat}(hg:Gl X "zip")(hm:X.mg "zip"=none)(ha:PA X [e,e2] ta)(hs:bL [e,e2] X.env=(false,eval e X.env)::bL [e2] X.env:=by rfl)(wJ:(fH pos (bL [e2] X.env)).any (·.1)=false:=by rfl):
  PI X (.Tuple elts kk ug) (.Call (.Name "zip" p) [e,e2] [] pos) (afh X.K ta):=by
 intro pins s σ H R I h;refine Call_ (uE I hg hm GR (il (iw (ha pos pins s σ H _ I h) λus s1 ⟨vs,H1,I1,r1,q1⟩=>?_) hs wJ));obtain⟨a,b,xs,ys,ex,MQ,SJ,q⟩:=q1;subst ex
 cases r1 with
 |cons r rr=>
  cases rr with
  |cons r' rr=>
   cases rr;cases r;cases r';obtain⟨its,rv,p1,_⟩:=I1.list MQ;obtain⟨pJ,MR,p2,_⟩:=I1.list SJ;have la:a<s1.heap.objs.size:=p1.lt;have lb:b<s1.heap.objs.size:=p2.lt;refine call_zip_2 p1.isList p2.isList λh' hz y9 De h1 h2 hsz hk=>Ae hz ?_;have I2:Inv X pins σ H1 {s1 with heap:=h'}:=I1.kept (t':=s1.toks) hk;refine⟨s1.heap.objs.size+4,[s1.heap.objs.size+4,s1.heap.objs.size+2,s1.heap.objs.size+3,s1.heap.objs.size,s1.heap.objs.size+1],_,_,H1,rfl,I2,SI (PySem.W.ktu_apart s1.heap.objs.size a b la lb),⟨hz,y9,⟨_,_,De⟩,h1,h2⟩,λc W7=>?_,q⟩;have e':c=s1.heap.objs.size+4∨c=s1.heap.objs.size+2∨c=s1.heap.objs.size+3∨c=s1.heap.objs.size∨c=s1.heap.objs.size+1:=by simpa using W7
   have hle:s1.heap.objs.size<=c:=by
    rcases e' with z|z|z|z|z
    ·rw[z];exact oJ _ _
    ·rw[z];exact oJ _ _
    ·rw[z];exact oJ _ _
    ·rw[z];exact aJ _
    ·rw[z];exact oJ _ _
   exact I1.HA hle (I1.dI.fresh hle)
end L2
section
namespace afi
open PySem PyProof.Rows
end afi
end
section
namespace TL
open PySem PySem.Builtin PySem.Builtin.Str PySem.StrLaws
abbrev tl(x:Str):List Nat:=x.cps.toList
theorem x9(x:Str):x.length=(tl x).length:=by simp[tl,Str.length]
theorem uR{x y:Str}(h:tl x=tl y):x=y:=Str.ext' (Array.toList_inj.mp h)
theorem AJ(x y:Str):tl (x++y)=tl x++tl y:=by show(x++y).cps.toList=_;rw[Str.cps_append,Array.toList_append]
theorem abT(x:Str):(⟨(tl x).toArray⟩:Str)=x:=uR rfl
theorem J1(s:String):tl (aR s)=s.toList.map amd:=PyProof.Rows.signs_ofString s
def pre(S l:List Nat):Bool:=l.take S.length==S
def B7(S:List Nat):Nat->List Nat->List Nat->List (List Nat)
 |_,acc,[]=>[acc]
 |0,acc,c::r=>if pre S (c::r)=true then acc::B7 S (S.length-1) [] r else B7 S 0 (acc++[c]) r
 |k+1,acc,_::r=>B7 S k acc r
theorem CL(S:List Nat)(k:Nat)(acc:List Nat):B7 S k acc []=[acc]:=by cases k<;>rfl
theorem OS{S acc r:List Nat}{c:Nat}(h:pre S (c::r)=true):B7 S 0 acc (c::r)=acc::B7 S (S.length-1) [] r:=by show(if pre S (c::r)=true then acc::B7 S (S.length-1) [] r else B7 S 0 (acc++[c]) r)=_;rw[if_pos h]
theorem J2{S acc r:List Nat}{c:Nat}(h:pre S (c::r)=false):B7 S 0 acc (c::r)=B7 S 0 (acc++[c]) r:=by show(if pre S (c::r)=true then acc::B7 S (S.length-1) [] r else B7 S 0 (acc++[c]) r)=_;rw[if_neg (by rw[h];exact aY)]
theorem J3(S:List Nat):∀(k:Nat)(acc l:List Nat),B7 S k acc l=B7 S 0 acc (l.drop k)
 |0,_,_=>by rw[Mf]
 |k+1,acc,[]=>by rw[List.drop_nil,CL,CL]
 |k+1,acc,c::r=>by show B7 S k acc r=B7 S 0 acc (r.drop k);exact J3 S k acc r
theorem VS{S:List Nat}(hS:S≠[]):pre S []=false:=by
 cases S with
 |nil=>exact absurd rfl hS
 |cons s S=>rfl
theorem zg{L:List Nat}{a:Nat}(h:a<L.length):∃c,L.drop a=c::L.drop (a+1):=⟨L[a],dD h⟩
theorem HR(S L:List Nat):∀(m a:Nat)(acc:List Nat),a+m<=L.length->(∀k,a<=k->k<a+m->pre S (L.drop k)=false)->
  B7 S 0 acc (L.drop a)=B7 S 0 (acc++(L.drop a).take m) (L.drop (a+m))
 |0,a,acc,_,_=>by rw[List.take_zero,dE,Nat.add_zero]
 |m+1,a,acc,h,hn=>by
  have og:a<L.length:=by omega
  obtain⟨c,e⟩:=zg og;have h0:=hn a (aJ _) (by omega);have ih:=HR S L m (a+1) (acc++[c]) (by omega) (λk h1 h2=>hn k (by omega) (by omega));have e2:a+1+m=a+(m+1):=by omega
  rw[e2] at ih;rw[e] at h0;rw[e,J2 h0,ih,List.take_succ_cons,dn]<;>rfl
theorem SK(L:List Nat)(a b:Nat):(L.drop a).drop b=L.drop (a+b):=by
 first
  |rw[nV]
  |rw[nV,Nat.add_comm]
theorem Yx{S L:List Nat}(hS:S≠[]){c:Nat}{acc:List Nat}(h:pre S (L.drop c)=true):B7 S 0 acc (L.drop c)=acc::B7 S 0 [] (L.drop (c+S.length)):=by
 rw[<-SK]
 cases e:L.drop c with
 |nil=>rw[e,VS hS] at h;cases h
 |cons d r=>
  rw[e] at h;rw[OS h,J3]
  cases S with
  |nil=>exact absurd rfl hS
  |cons s S=>rfl
theorem SM{x y:Str}(hy:tl y≠[])(i:Nat):At x y x.length i↔pre (tl y) ((tl x).drop i)=true:=by
 have hx:=x9 x;have hl:=x9 y;constructor
 ·intro h;have h2:=h.2;rw[subAt_eq,hl] at h2;exact h2
 ·intro h;have e:((tl x).drop i).take (tl y).length=tl y:=eq_of_beq h;have e1:=congrArg Ap e;rw[cK,fc] at e1;have e2:0<(tl y).length:=Bq.mpr hy;refine⟨by omega,?_⟩;rw[subAt_eq,hl];exact h
theorem W8{x y:Str}(hy:tl y≠[]){i:Nat}(h:¬At x y x.length i):pre (tl y) ((tl x).drop i)=false:=by
 cases hp:pre (tl y) ((tl x).drop i) with
 |false=>rfl
 |true=>exact absurd ((SM hy i).mpr hp) h
theorem afj{y:Str}(hy:tl y≠[]):1<=y.length:=by have e2:0<(tl y).length:=Bq.mpr hy;rw[x9 y];exact e2
theorem GS(x:Str)(i j:Nat):tl (strSub x i j)=((tl x).drop i).take (j-i):=strSub_toList x i j
theorem FP(x:Str)(i:Nat):tl (strSub x i x.length)=(tl x).drop i:=by rw[GS,x9 x];exact bH (by rw[fc]<;>omega)
theorem GU{x y:Str}(hy:tl y≠[]):∀(abU:List Nat)(a f:Nat),a<=(tl x).length->ChainG x y x.length a abU f->(∀k,f<=k->¬At x y x.length k)-> (partsFrom x y.length a abU).map tl=B7 (tl y) 0 [] ((tl x).drop a)
 |[],a,f,ha,h,hn=>by
  have e:f=a:=h;subst e;show[tl (strSub x f x.length)]=_;have run:=HR (tl y) (tl x) ((tl x).length-f) f [] (by omega) (λk h1 _=>W8 hy (hn k h1));have e2:f+((tl x).length-f)=(tl x).length:=by omega
  rw[e2,ZX,CL,aa1,bH (by rw[fc]<;>omega)] at run;rw[run,FP]
 |c::r,a,f,ha,h,hn=>by
  obtain⟨h1,h2,h3,h4⟩:=h;have hc:c+y.length<=x.length:=h2.1;have hx:=x9 x;have hl:=x9 y;have ih:=GU hy r (c+y.length) f (by omega) h4 hn;show tl (strSub x a c)::(partsFrom x y.length (c+y.length) r).map tl=_;have run:=HR (tl y) (tl x) (c-a) a [] (by omega) (λk k1 k2=>W8 hy (h3 k k1 (by omega)));have e2:a+(c-a)=c:=by omega
  rw[e2,aa1,Yx hy ((SM hy c).mp h2)] at run;rw[run,ih,GS,hl]
theorem Qv(x y:Str)(hy:tl y≠[])(hk:¬fF x<fF y):(qH x y).map tl=B7 (tl y) 0 [] (tl x):=by
 obtain⟨f,g,hn⟩:=occ_tight x y (afj hy);have key:=GU hy _ 0 f (bB _) g hn;rw[Mf] at key;have GV:occurrences x y 0 x.length (x.length+1)=[]->[x].map tl=B7 (tl y) 0 [] (tl x):=λho=>by rw[ho] at key;rw[<-key];show[tl x]=[tl (strSub x 0 x.length)];rw[sub_whole]
 unfold qH;by_cases h1:(decide (x.length<y.length)||decide (fF x<fF y))=true
 ·rw[if_pos h1];have og:x.length<y.length:=by
   simp only[g8,decide_eq_true_eq] at h1;rcases h1 with h|h
   ·exact h
   ·exact absurd h hk
  refine GV ?_
  cases ho:occurrences x y 0 x.length (x.length+1) with
  |nil=>rfl
  |cons c r=>rw[ho] at g;have hc:c+y.length<=x.length:=g.2.1.1;omega
 ·rw[if_neg h1];by_cases h2:(occurrences x y 0 x.length (x.length+1)).isEmpty=true
  ·rw[if_pos h2];exact GV (ZY.mp h2)
  ·rw[if_neg h2,partsBetween_eq];exact key
theorem VT{x y:Str}(h:y.cps.all (· <256)=true):¬fF x<fF y:=by
 have e:fF y=1:=by unfold Ms;rw[if_pos h]
 rw[e];unfold Ms;split
 ·omega
 ·split<;>omega
def pT(S:List Nat):List (List Nat)->List Nat
 |[]=>[]
 |[p]=>p
 |p::q::r=>p++(S++pT S (q::r))
theorem zh(y:Str):∀parts:List Str,tl (Str.join y parts)=pT (tl y) (parts.map tl)
 |[]=>rfl
 |[_]=>rfl
 |x::z::r=>by show tl (x++y++Str.join y (z::r))=tl x++(tl y++pT (tl y) ((z::r).map tl));rw[AJ,AJ,zh y (z::r),dn]
theorem join_eq(y:Str)(parts:List Str):wb y parts=Str.join y parts:=glued_eq_join y parts
def VU(n:Nat):List Nat:=(Nat.toDigits 10 n).map amd
theorem SN(n:Nat):tl (aR (lV ((n:Nat):Int)))=VU n:=PySem.W.KIN.signs_num n
theorem SO{n k:Nat}(hk:0<k)(h:n<10^k):(VU n).length<=k:=by
 have z:=PyProof.Rows.toString_length_le (v:=(n:Int)) (by omega) hk (by
  have e:((10:Int)^k)=((10^k:Nat):Int):=by
   first
    |exact(Int.natCast_pow 10 k).symm
    |simp
  rw[e];first|exact Int.ofNat_lt.mpr h|omega)
 rw[x9,SN] at z;exact z
end TL
end
namespace L2
open PySem PySem.Spec PyProof.Rows
theorem GW:∀l:List (Str×Tok),Vals ((l.map (·.1)).map V.str) (al8 l)
 |[]=>.nil
 |p::r=>.cons ⟨p.2,rfl⟩ (GW r)
theorem rW:∀{ys:List Str}{us:List aj},Vals (ys.map V.str) us->StrsAre us ys
 |[],_,.nil=>.nil
 |y::ys,_,.cons r t=>by obtain⟨k,rfl⟩:=r;exact .cons y k (rW t)
def Df(ys:List Str):Hp->VK->Prop:=λH Q=>∀p,H p=none->Q (.ref p) (upd H p (.lst (ys.map V.str)))
section
variable{X:Cx}{pins:List (af×Obj)}{σ:St}{H:Hp}{s:ay}{Q:VK}
theorem AK{l:List (Str×Tok)}{ys:List Str}{k:Nat}(I:Inv X pins σ H s)(e:l.map (·.1)=ys)(hz:ys.length<=az)(h:Df ys H Q):
  EP X pins σ Q (.ref s.heap.objs.size) {s with toks:=k,heap:=s.heap.push {cls:=.type "list",data:=.seq (al8 l).toArray}}:=by
 have hp:=I.dI.fresh (aJ _);refine⟨.ref s.heap.objs.size,upd H s.heap.objs.size (.lst (ys.map V.str)),I.laid (λb u q=>ai _ q) (aJ _) ⟨by rw[aa];exact hz,al8 l,_,?_,aT _ rfl⟩,rfl,h _ hp⟩;rw[<-e];exact GW l
end
section
variable{X:Cx}
theorem SQ:MtR X "str.split" (λx xs H Q=>∃a b,x=.str a/\xs=[.str b]/\(b.length==0)=false/\a.length+2<=az/\Df (qH a b) H Q):=by
 intro pins s σ H x xs v us Q I rx rs h;obtain⟨a,b,rfl,rfl,hb,hz,h⟩:=h;obtain⟨t,rfl⟩:=rx
 cases rs with
 |cons r1 rs=>
  cases rs;obtain⟨u,rfl⟩:=r1;have hl:(qH a b).length<=az:=ak (PyProof.Rows.split_le a b) hz;have hn:(WL a (Ac a b 0 a.length (a.length+1)) b.length).length<=az:=by have e1:=StrLaws.occ_length_le a b 0 a.length (a.length+1);rw[length_partsBetween];omega
  cases h1:(decide (a.length<b.length)||decide (fF a<fF b))
  ·cases hf:(Ac a b 0 a.length (a.length+1)).isEmpty
   ·refine Bt Af (Bs _ _ _) Mc (Ju _ _) (meets_str_split_sep a b t u h1 hb hf (by omega) hn) ?_;show EP X pins σ Q (.ref s.heap.objs.size) {s with toks:=_,heap:=s.heap.push {cls:=.type "list",data:=.seq (strsFrom s.toks (WL a (Ac a b 0 a.length (a.length+1)) b.length)).toArray}};rw[strsFrom_eq];exact AK (ys:=qH a b) I ((numbered_texts _ _).trans ((if_neg (ne_true_of_eq_false h1)).trans (if_neg (ne_true_of_eq_false hf))).symm) hl h
   ·refine Bt Af (Bs _ _ _) Mc (Ju _ _) (meets_str_split_not_found a b t u h1 hb hf) ?_;exact AK (l:=[(a,t)]) (ys:=qH a b) (k:=s.toks) I ((if_neg (ne_true_of_eq_false h1)).trans (if_pos hf)).symm hl h
  ·refine Bt Af (Bs _ _ _) Mc (Ju _ _) (meets_str_split_cannot_occur a b t u h1) ?_;exact AK (l:=[(a,t)]) (ys:=qH a b) (k:=s.toks) I (if_pos h1).symm hl h
theorem VV:MtR X "str.join" (λx xs H Q=>∃a p,∃ys:List Str,x=.str a/\xs=[.ref p]/\(bD X.K H p (ys.map V.str)∨nj X.K H p (ys.map V.str))/\(ys.map (·.length)).sum+ys.length*a.length<=16777216/\Q (.str (wb a ys)) H):=by
 intro pins s σ H x xs v us Q I rx rs h;obtain⟨a,p,ys,rfl,rfl,hp,hz,h⟩:=h;obtain⟨t,rfl⟩:=rx
 cases rs with
 |cons r1 rs=>
  cases rs;cases r1;rcases hp with hp|hp
  ·obtain⟨its,r,⟨o,n,ho,hc,_,hd⟩,_⟩:=I.list hp;exact PyProof.Rows.join_list (items:=its.toArray) ⟨o,ho,hc,n,hd⟩ (by rw[Vo];exact rW r) hz λt' k=>⟨.str _,H,I.tok k,⟨t',rfl⟩,h⟩
  ·obtain⟨its,r,ht,_⟩:=I.tuple hp;exact PyProof.Rows.join_tuple (items:=its.toArray) ht (by rw[Vo];exact rW r) hz λt' k=>⟨.str _,H,I.tok k,⟨t',rfl⟩,h⟩
theorem rX:kj X (.type "int") (λxs H Q=>∃a n,xs=[.str a]/\adC a=some n/\a.length<=640/\Q (.int n) H):=by
 intro pins s σ H xs us Q I rs h;obtain⟨a,n,rfl,hn,hl,h⟩:=h
 cases rs with
 |cons r1 rs=>
  cases rs;obtain⟨t,rfl⟩:=r1;exact PySem.W.KIN.call_text hn hl ⟨.int n,H,I.tok _,⟨_,rfl⟩,h⟩
end
section
variable{X:Cx}{o e:Expr}{to te:TE}
def tM1(r:V->List V->Hp->VK->Prop)(to te:TE):TE:=λσ H Q=>to σ H λx H1=>(∃a,x=.str a)/\te σ H1 λy H2=>r x [y] H2 Q
theorem W9{id:String}{name:Str}{apos pos:Pos}{r:V->List V->Hp->VK->Prop}(slot:Slot "str" name id)(ty:typeOf (.builtin id)=pure (.type "method_descriptor"))(rule:MtR X id r)(ho:PE X o to)(he:PE X e te)(hs:bL [e] X.env=[(false,eval e X.env)]:=by rfl)(nt:fU o name X.env (eval o X.env)=eval o X.env:=by rfl)(gC:(apos.endLine==pos.line)=true:=by rfl):
  PE X (.Call (.Attribute o name apos) [e] [] pos) (tM1 r to te):=by
 intro pins s σ H Q I h;refine PySem.Call_method1 nt hs gC (iw (ho pins s σ H _ I h) λv s1 ⟨x,H1,I1,r1,q1⟩=>?_);obtain⟨⟨a,rfl⟩,q1⟩:=q1;obtain⟨t,rfl⟩:=_root_.id r1;refine⟨"str",_,F.plainAttrs_str,slot,ty,Bs _ _ _,(λ_ e=>nomatch e),Bj rfl (E2 (Jt ?_))⟩;exact iw (he pins s1 σ H1 _ I1 q1) λu s2 ⟨y,H2,I2,r2,q2⟩=>Ma (rule pins s2 σ H2 _ [y] _ [u] Q I2 r1 (.cons r2 .nil) q2)
theorem SR{apos pos:Pos}(ho:PE X o to)(he:PE X e te)(hs:bL [e] X.env=[(false,eval e X.env)]:=by rfl)(nt:fU o "split" X.env (eval o X.env)=eval o X.env:=by rfl)(gC:(apos.endLine==pos.line)=true:=by rfl):
  PE X (.Call (.Attribute o "split" apos) [e] [] pos) (tM1 (λx xs H Q=>∃a b,x=.str a/\xs=[.str b]/\(b.length==0)=false/\a.length+2<=az/\Df (qH a b) H Q) to te):=
 W9 Af F.type_str_split SQ ho he hs nt gC
theorem VW{apos pos:Pos}(ho:PE X o to)(he:PE X e te)(hs:bL [e] X.env=[(false,eval e X.env)]:=by rfl)(nt:fU o "join" X.env (eval o X.env)=eval o X.env:=by rfl)(gC:(apos.endLine==pos.line)=true:=by rfl):
  PE X (.Call (.Attribute o "join" apos) [e] [] pos) (tM1 (λx xs H Q=>∃a p,∃ys:List Str,x=.str a/\xs=[.ref p]/\(bD X.K H p (ys.map V.str)∨nj X.K H p (ys.map V.str))/\(ys.map (·.length)).sum+ys.length*a.length<=16777216/\Q (.str (wb a ys)) H) to te):=
 W9 F.slot_str_join F.type_str_join VV ho he hs nt gC
end
end L2
namespace L2
open PySem PySem.Spec PyProof.Rows
section
variable{X:Cx}
theorem Dg:xq X (d8 .In) (λx y H Q=>∃(c:Nat)(z:Str),x=.str ⟨#[c]⟩/\y=.str z/\Q (.bl (decide (c∈z.cps.toList))) H):=by intro pins s σ H x y v u Q I rx ry h;obtain⟨c,z,rfl,rfl,q⟩:=h;obtain⟨t,rfl⟩:=rx;obtain⟨t',rfl⟩:=ry;exact PyProof.Rows.in_str (eY I q (PySem.StrLaws.found_one z c).symm)
end
end L2
namespace Att
open PySem PySem.W PySem.Calls PyProof.Rows
end Att
namespace L2
open PySem PySem.Spec PyProof.Rows
end L2
namespace L2
open PySem PySem.Spec PyProof.Rows
end L2
namespace L2
open PySem PySem.Spec PyProof.Rows
def inClass(s:cy)(j:Nat):cy:=match s with
 |.ClassDef _ _ _ body _ _ _ _ _ _ _=>body.getD j (.Pass ⟨0,0,0,0⟩)
 |_=>.Pass ⟨0,0,0,0⟩
def kX(s:cy):Ow:=match s with
 |.FunctionDef _ a _ _ _ _ _ _ _ _=>a
 |_=>{posonlyargs:=[],args:=[],vararg:=none,kwonlyargs:=[],kw_defaults:=[],kwarg:=none,defaults:=[]}
def jl(s:cy):List cy:=match s with
 |.FunctionDef _ _ b _ _ _ _ _ _ _=>b
 |_=>[]
def aN(s:cy):Scope:=match s with
 |.FunctionDef _ _ _ _ _ _ sc _ _ _=>sc
 |_=>{kind:=.function,names:=[],isGenerator:=false,isCoroutine:=false}
abbrev SS:Vb:=λ_ _ _ _ _ _=>False
abbrev E0:XK:=λ_ _ _=>False
theorem GX{X:Cx}:Passes SS X E0:=λ_ _ _ _ _ _ _ h=>h.elim
structure VX(K:ah)(x qual:Str)(st:cy)(f:af)(fd:je):Prop where
 ex:∃(oc:aj)(od:Option af)(kV doc pm:aj)(an:Option af)(eC ct:aj)(JO:Array (Option aj)),
  fd=qI x qual (kX st) (jl st) (aN st) .none kV doc pm an eC ct/\K.lookup f=some ⟨oc,od,.func fd,JO⟩/\Md K eC qual=true
 kp:kW K (.ref f)=true
section
variable{P:bo}{w:bM}{K:ah}{mg:Str->Option aj}{base:cu}
theorem VX.ok{x qual:Str}{st:cy}{f:af}{fd:je}{N ps:List Str}{k:Nat}{sp:Sp}(F:VX K x qual st f fd)(S:bf N ps (aN st))(len:∀vs H Q E,sp vs H Q E->vs.length=ps.length)(JP:∀(eC:aj)(A:cp)(outer:List Env)(s:ay)(H:Hp)(vs:List V)(Q:VK)(E:XK),jf k (A.deeper (xV qual (aN st) s.heap.objs.size f eC))->sp vs H Q E->∃t,Mx (FI SS P w K mg base N qual (aN st) f eC A outer s H E).Vv (jl st) t/\t {nx:=λ_ H'=>Q .gT H',rt:=Q} (start N vs) H):wI P w K mg base SS (k+1) f fd ps sp:=by obtain⟨oc,od,kV,doc,pm,an,eC,ct,JO,rfl,lk,R6⟩:=F.ex;refine W4 lk R6 S len λA outer s H vs Q E hr Ry=>?_;obtain⟨t,h,q⟩:=JP eC A outer s H vs Q E hr Ry;exact⟨t,h.Vv,q⟩
theorem VX.binds{x qual:Str}{st:cy}{f:af}{fd:je}{ps:List Str}(F:VX K x qual st f fd)(h:∀(kV doc pm:aj)(an:Option af)(eC ct:aj)(us:List aj),us.length=ps.length->Am (qI x qual (kX st) (jl st) (aN st) .none kV doc pm an eC ct) ⟨us,[]⟩=pure (ps.zip us)):Binds K fd ps []:=by obtain⟨oc,od,kV,doc,pm,an,eC,ct,JO,rfl,lk,R6⟩:=F.ex;exact .all (h kV doc pm an eC ct)
theorem uS{x qual:Str}{st:cy}{f:af}{oc:aj}{od an:Option af}{JO:Array (Option aj)}{kV doc pm eC ct:aj}(l:K.lookup f=some ⟨oc,od,.func (qI x qual (kX st) (jl st) (aN st) .none kV doc pm an eC ct),JO⟩)(c:Md K eC qual=true)(k:kW K (.ref f)=true):VX K x qual st f (qI x qual (kX st) (jl st) (aN st) .none kV doc pm an eC ct):=⟨⟨oc,od,kV,doc,pm,an,eC,ct,JO,rfl,l,c⟩,k⟩
end
theorem tm{A:cp}{k:Nat}(hr:jf k A):A.units+1<lW:=bW (Nat.add_le_add_left (by decide:1<=64) _) hr.units
theorem dB{n:Nat}(h:n<=1000):n<az:=bW h (by decide)
section
variable{X:Cx}
theorem pv(i:Nat){x:Str}{pos:Pos}(hN:X.N[i]? =some x:=by rfl)(hv:Vis X.env.scope x:=by first|exact WU rfl|exact Rx (WU rfl)|exact Rx (Rx rfl))(hd:(x==("__debug__":Str))=false:=by decide)(R6:(x==("__classdict__":Str))=false:=by decide):PE X (.Name x pos) (qA i):=XZ hN hv hd R6
theorem qV:kj X (.builtin "len") (λxs H Q=>∃a kvs,xs=[V.ref a]/\H a=some (.dK kvs)/\Q (.int kvs.length) H):=by
 intro pins s σ H xs us Q I r h;obtain⟨a,kvs,rfl,ha,q⟩:=h;obtain⟨u,rfl,ru⟩:=vals1 r;cases ru;exact abI I (.inl ha) λt s' I'=>⟨.int kvs.length,H,I',⟨t,rfl⟩,q⟩
end
theorem kK{A B:Prop}(h:B):if false=true then A else B:=by rw[if_neg aY];exact h
theorem kC{A B:Prop}(h:A):if true=true then A else B:=by rw[if_pos rfl];exact h
theorem abW{c A B:Prop}[Decidable c](hc:c)(h:B):if(!decide c)=true then A else B:=by rw[decide_eq_true hc];exact kK h
def aS(H H':Hp):Prop:=∀b o,H b=some o->H' b=some o
theorem aS.refl(H:Hp):aS H H:=λ_ _ h=>h
theorem aS.trans{H H1 H2:Hp}(a:aS H H1)(b:aS H1 H2):aS H H2:=λc o h=>b c o (a c o h)
theorem aS.free{H H':Hp}(e:aS H H'){l:af}(h:H' l=Aq):H l=Aq:=by
 cases q:H l with
 |none=>rfl
 |some o=>
  rw[e l o q] at h;cases h
theorem aS.seq{K:ah}{H H':Hp}{a:af}{xs:List V}(e:aS H H')(h:bD K H a xs):bD K H' a xs:=by
 rcases h with(h|⟨o,h⟩)|h
 ·exact .inl (.inl (e _ _ h))
 ·exact .inl (.inr ⟨o,e _ _ h⟩)
 ·exact .inr h
section
variable{κ:Type}[DecidableEq κ]
theorem wm:∀{l:List κ}{k:κ},l.Nodup->¬k∈l->(l++[k]).Nodup
 |[],k,_,_=>by simp
 |a::r,k,h,hk=>by
  obtain⟨h1,h2⟩:=dQ.mp h;show(a::(r++[k])).Nodup;refine dQ.mpr ⟨λm=>?_,wm h2 λm=>hk (aA.mpr (Rx m))⟩;rcases aD.mp m with q|q
  ·exact h1 q
  ·exact hk (aA.mpr (WU (bX.mp q).symm))
end
theorem at_of{xs:List V}{z:Int}{j:Nat}{v:V}(e:z=(j:Int))(h:xs[j]? =some v):Qm xs z=some v:=by rw[e];exact cG h
theorem abX{α:Type}{l:List α}(hN:l.Nodup){i j:Nat}{x:α}(a:l[i]? =some x)(b:l[j]? =some x):i=j:=by obtain⟨h1,e1⟩:=b9.mp a;obtain⟨h2,e2⟩:=b9.mp b;exact(ZU hN).mp (e1.trans e2.symm)
theorem aS.made{H H1:Hp}{x dx C:af}(nx:H x=Aq)(nd:H dx=Aq)(k:∀b o,(upd (upd H dx (.own x)) x (.ins C dx [])) b=some o->b≠x->H1 b=some o):aS H H1:=λb o e=>k b o (by rw[ax (aQ e nx),ax (aQ e nd)];exact e) (aQ e nx)
end L2
namespace L2
open PySem PySem.Spec PyProof.Rows
open PySem.W (WData Codec Well WellAll ReadsW ReadsAllW)
mutual
inductive Dw(K:ah)(H:Hp):V->WData->Prop
 |gT:Dw K H .gT .none
 |bl (b:Bool):Dw K H (.bl b) (.bool b)
 |int (i:Int):Dw K H (.int i) (.int i)
 |str (x:Str):Dw K H (.str x) (.str x)
 |Ml (b:Array UInt8):Dw K H (.Ml b) (.bytes b.toList)
 |lst {a:af} {xs:List V} {ds:List WData}:bD K H a xs->uT K H xs ds->Dw K H (.ref a) (.list ds)
 |tup {a:af} {xs:List V} {ds:List WData}:nj K H a xs->uT K H xs ds->Dw K H (.ref a) (.tuple ds)
inductive uT(K:ah)(H:Hp):List V->List WData->Prop
 |nil:uT K H [] []
 |cons {v:V} {vs:List V} {d:WData} {ds:List WData}:Dw K H v d->uT K H vs ds->uT K H (v::vs) (d::ds)
end
theorem OT{K:ah}{H:Hp}:∀ns:List Int,uT K H (ns.map V.int) (ns.map WData.int)
 |[]=>.nil
 |n::r=>.cons (.int n) (OT r)
theorem OU{K:ah}{H:Hp}:∀(ns:List Int)(xs:List V),uT K H xs (ns.map WData.int)->xs=ns.map V.int
 |[],xs,h=>by
  cases h;rfl
 |n::r,xs,h=>by
  cases h with
  |cons h1 h2=>
   cases h1;rw[OU r _ h2]<;>rfl
section
variable{P:bo}{w:bM}{K:ah}{H:Hp}{h:cu}{R:ZZ}{cl:Str->Option af}
theorem Yy{a:af}{xs:List V}(dI:uf P w H h)(KX:K.In h)(q:bD K H a xs):∃(its:List aj)(o:Obj)(n:Nat),Vals xs its/\h.get? a=some o/\o.cls=.type "list"/\o.data=.seq its.toArray n:=by
 rcases q with q|⟨o,its,n,e,hc,_,hd,_,hv⟩
 ·obtain⟨_,its,n,hv,e⟩:=(show fB P w H h a (.lst xs) from q.ok dI);exact⟨its,_,n,hv,e,rfl,rfl⟩
 ·exact⟨its.toList,o,n,hv,KX _ _ e,hc,by simp[hd]⟩
theorem Yz{a:af}{xs:List V}(dI:uf P w H h)(KX:K.In h)(q:nj K H a xs):∃(its:List aj)(o:Obj)(n:Nat),Vals xs its/\h.get? a=some o/\o.cls=.type "tuple"/\o.data=.seq its.toArray n:=by
 rcases q with q|⟨o,its,n,e,hc,hd,_,hv⟩
 ·obtain⟨_,its,hv,o,e,hc,n,hd⟩:=(show fB P w H h a (.tup xs) from q.ok dI);exact⟨its,o,n,hv,e,hc,hd⟩
 ·exact⟨its.toList,o,n,hv,KX _ _ e,hc,by simp[hd]⟩
mutual
theorem Dw.reads(dI:uf P w H h)(KX:K.In h):∀(d:WData)(v:V)(u:aj),Dw K H v d->RelV v u->∃as,ReadsW R cl h u d as
 |.none,_,_,x,r=>by
  cases x;cases r;exact⟨_,ReadsW.none⟩
 |.bool b,_,_,x,r=>by
  cases x;cases r;exact⟨_,ReadsW.bool b⟩
 |.int i,_,_,x,r=>by
  cases x;obtain⟨t,rfl⟩:=r;exact⟨_,ReadsW.int i t⟩
 |.str s,_,_,x,r=>by
  cases x;obtain⟨t,rfl⟩:=r;exact⟨_,ReadsW.str s t⟩
 |.bytes b,_,_,x,r=>by
  cases x;obtain⟨t,rfl⟩:=r;exact⟨_,ReadsW.bytes _ t⟩
 |.list ds,_,_,x,r=>by
  cases x with
  |lst hs ha=>
   cases r;obtain⟨its,o,n,rv,ho,hc,hd⟩:=Yy dI KX hs;obtain⟨as,hr⟩:=Dw.readsAll dI KX ds _ its ha rv;exact⟨_,ReadsW.list ho hc hd hr⟩
 |.tuple ds,_,_,x,r=>by
  cases x with
  |tup hs ha=>
   cases r;obtain⟨its,o,n,rv,ho,hc,hd⟩:=Yz dI KX hs;obtain⟨as,hr⟩:=Dw.readsAll dI KX ds _ its ha rv;exact⟨_,ReadsW.tuple ho hc hd hr⟩
 |.float _,_,_,x,_=>by cases x
 |.dict _,_,_,x,_=>by cases x
 |.bytearray _,_,_,x,_=>by cases x
 |.set _,_,_,x,_=>by cases x
 |.frozenset _,_,_,x,_=>by cases x
 |.obj _ _,_,_,x,_=>by cases x
theorem Dw.readsAll(dI:uf P w H h)(KX:K.In h):∀(ds:List WData)(vs:List V)(us:List aj),uT K H vs ds->Vals vs us->∃as,ReadsAllW R cl h us ds as
 |[],_,_,x,r=>by
  cases x;cases r;exact⟨_,ReadsAllW.nil⟩
 |d::ds,_,_,x,r=>by
  cases x with
  |cons h1 h2=>
   cases r with
   |cons r1 r2=>obtain⟨as,q1⟩:=Dw.reads dI KX d _ _ h1 r1;obtain⟨bs,q2⟩:=Dw.readsAll dI KX ds _ _ h2 r2;exact⟨_,ReadsAllW.cons q1 q2⟩
end
end
mutual
def OV:WData->Bool
 |.none=>true
 |.bool _=>true
 |.int _=>true
 |.str _=>true
 |.bytes _=>true
 |.list xs=>B8 xs
 |.tuple xs=>B8 xs
 |_=>false
def B8:List WData->Bool
 |[]=>true
 |x::r=>OV x&&B8 r
end
theorem J4{α:Type}{f:α->WData}(h:∀a,OV (f a)=true):∀l:List α,B8 (l.map f)=true
 |[]=>rfl
 |x::r=>by show(OV (f x)&&B8 (r.map f))=true;rw[h x,J4 h r]<;>rfl
theorem uU:∀(c:Codec)(a:c.denote),OV (c.enc a)=true
 |.unit,_=>rfl
 |.bool,_=>rfl
 |.int _ _,_=>rfl
 |.nat _ _,_=>rfl
 |.u8,_=>rfl
 |.bytes _ _,_=>rfl
 |.text _ _ _ _,_=>rfl
 |.list _ _ c,a=>J4 (λx=>uU c x) a
 |.pair c d,a=>by show(OV (c.enc a.1)&&(OV (d.enc a.2)&&true))=true;rw[uU c a.1,uU d a.2]<;>rfl
 |.triple c d e,a=>by show(OV (c.enc a.1)&&(OV (d.enc a.2.1)&&(OV (e.enc a.2.2)&&true)))=true;rw[uU c a.1,uU d a.2.1,uU e a.2.2]<;>rfl
 |.option c,none=>rfl
 |.option c,some x=>uU c x
theorem GY:∀(cs:List Codec)(a:Codec.denoteAll cs),B8 (Codec.encAll cs a)=true
 |[],_=>rfl
 |c::cs,a=>by show(OV (c.enc a.1)&&B8 (Codec.encAll cs a.2))=true;rw[uU c a.1,GY cs a.2]<;>rfl
theorem ya:∀{xs:List WData}{d:WData},d∈xs->d.weight<=WData.weightAll xs
 |[],d,h=>absurd h (by simp)
 |x::r,d,h=>by
  show d.weight<=x.weight+1+WData.weightAll r;rcases aA.mp h with e|m
  ·rw[e];omega
  ·have z:=ya m;omega
def toV:aj->V
 |.none=>.gT
 |.bool b=>.bl b
 |.int i _=>.int i
 |.str x _=>.str x
 |.bytes b _=>.Ml b
 |.ref a=>.ref a
 |_=>.gT
def Qw(A:List af):aj->Prop
 |.none=>True
 |.bool _=>True
 |.int _ _=>True
 |.str _ _=>True
 |.bytes _ _=>True
 |.ref a=>a∈A
 |_=>False
theorem Qw.mono{A B:List af}(h:∀a∈A,a∈B):∀{u:aj},Qw A u->Qw B u:=λ{u} x=>by
 cases u with
 |ref a=>exact h a x
 |none=>trivial
 |bool b=>trivial
 |int i t=>trivial
 |str s t=>trivial
 |bytes b t=>trivial
 |_=>exact dH x
theorem SU{A:List af}{u:aj}(x:Qw A u):RelV (toV u) u:=by
 cases u with
 |ref a=>rfl
 |none=>rfl
 |bool b=>rfl
 |int i t=>exact⟨t,rfl⟩
 |str s t=>exact⟨t,rfl⟩
 |bytes b t=>exact⟨t,rfl⟩
 |_=>exact dH x
theorem qW{A:List af}:∀{vs:List aj},(∀u∈vs,Qw A u)->Vals (vs.map toV) vs
 |[],_=>.nil
 |u::r,h=>.cons (SU (h u (c7 ..))) (qW λx hx=>h x (bS _ hx))
def tp(h:cu)(A:List af)(a:af):Prop:=∃vs:List aj,vs.length<=az/\(∀u∈vs,Qw A u)/\
 (h.get? a=some {cls:=.type "list",data:=.seq vs.toArray}∨h.get? a=some {cls:=.type "tuple",data:=.seq vs.toArray})
theorem tp.mono{h:cu}{A B:List af}{a:af}(k:∀a∈A,a∈B)(x:tp h A a):tp h B a:=by obtain⟨vs,h1,h2,h3⟩:=x;exact⟨vs,h1,λu hu=>(h2 u hu).mono k,h3⟩
theorem pU{P:OD}{h:cu}:∀{vs:List aj}{ds:List WData},WellAll P h vs ds->vs.length=ds.length
 |_,_,.nil=>rfl
 |_,_,.cons _ b=>by show _+1=_+1;rw[pU b]
theorem GZ{P:OD}{h:cu}{v:aj}{ds:List WData}(x:Well P h v (.list ds)):∃(a:af)(vs:List aj),v=.ref a/\h.get? a=some {cls:=.type "list",data:=.seq vs.toArray}/\WellAll P h vs ds:=by
 cases x with
 |list ho kL=>exact⟨_,_,rfl,ho,kL⟩
theorem Dh{P:OD}{h:cu}{v:aj}{ds:List WData}(x:Well P h v (.tuple ds)):∃(a:af)(vs:List aj),v=.ref a/\h.get? a=some {cls:=.type "tuple",data:=.seq vs.toArray}/\WellAll P h vs ds:=by
 cases x with
 |tuple ho kL=>exact⟨_,_,rfl,ho,kL⟩
theorem G2{P:OD}{h:cu}{us:List aj}{d:WData}{ds:List WData}(x:WellAll P h us (d::ds)):∃(v:aj)(vs:List aj),us=v::vs/\Well P h v d/\WellAll P h vs ds:=by
 cases x with
 |cons a b=>exact⟨_,_,rfl,a,b⟩
theorem OW{n:Nat}(h:n<=1048576):n<=az:=ak h (by decide)
section
variable{P:OD}{h:cu}
mutual
theorem SV:∀(d:WData)(v:aj),Well P h v d->OV d=true->d.weight<=1048576->∃A:List af,Qw A v/\∀a∈A,tp h A a
 |.none,_,x,_,_=>by
  cases x;exact⟨[],trivial,λa m=>absurd m (by simp)⟩
 |.bool b,_,x,_,_=>by
  cases x;exact⟨[],trivial,λa m=>absurd m (by simp)⟩
 |.int i,_,x,_,_=>by
  cases x;exact⟨[],trivial,λa m=>absurd m (by simp)⟩
 |.str s,_,x,_,_=>by
  cases x;exact⟨[],trivial,λa m=>absurd m (by simp)⟩
 |.bytes b,_,x,_,_=>by
  cases x;exact⟨[],trivial,λa m=>absurd m (by simp)⟩
 |.list ds,_,x,p,z=>by
  obtain⟨a,vs,rfl,ho,kL⟩:=GZ x;have z2:WData.weightAll ds<=1048576:=z;obtain⟨A,h1,h2⟩:=zi ds _ kL p λd hd=>ak (ya hd) z2;have k:∀b∈A,b∈a::A:=λb hb=>bS _ hb;refine⟨a::A,c7 ..,λb hb=>?_⟩;rcases aA.mp hb with e|m
  ·rw[e];exact⟨vs,OW (by rw[pU kL];exact ak (Js ds) z2),λu hu=>(h1 u hu).mono k,.inl ho⟩
  ·exact(h2 b m).mono k
 |.tuple ds,_,x,p,z=>by
  obtain⟨a,vs,rfl,ho,kL⟩:=Dh x;have z2:WData.weightAll ds<=1048576:=z;obtain⟨A,h1,h2⟩:=zi ds _ kL p λd hd=>ak (ya hd) z2;have k:∀b∈A,b∈a::A:=λb hb=>bS _ hb;refine⟨a::A,c7 ..,λb hb=>?_⟩;rcases aA.mp hb with e|m
  ·rw[e];exact⟨vs,OW (by rw[pU kL];exact ak (Js ds) z2),λu hu=>(h1 u hu).mono k,.inr ho⟩
  ·exact(h2 b m).mono k
 |.float _,_,_,p,_=>bK (show false=true from p)
 |.dict _,_,_,p,_=>bK (show false=true from p)
 |.bytearray _,_,_,p,_=>bK (show false=true from p)
 |.set _,_,_,p,_=>bK (show false=true from p)
 |.frozenset _,_,_,p,_=>bK (show false=true from p)
 |.obj _ _,_,_,p,_=>bK (show false=true from p)
theorem zi:∀(ds:List WData)(vs:List aj),WellAll P h vs ds->B8 ds=true->(∀d∈ds,d.weight<=1048576)->∃A:List af,(∀u∈vs,Qw A u)/\∀a∈A,tp h A a
 |[],_,x,_,_=>by
  cases x;exact⟨[],λu m=>absurd m (by simp),λa m=>absurd m (by simp)⟩
 |d::ds,_,x,p,z=>by
  obtain⟨v,vs,rfl,x1,x2⟩:=G2 x;have q:OV d=true/\B8 ds=true:=UW.mp p;obtain⟨A,a1,a2⟩:=SV d v x1 q.1 (z d (c7 ..));obtain⟨B,b1,b2⟩:=zi ds vs x2 q.2 λe he=>z e (bS _ he);have kA:∀b∈A,b∈A++B:=λb hb=>aD.mpr (.inl hb);have kB:∀b∈B,b∈A++B:=λb hb=>aD.mpr (.inr hb);refine⟨A++B,λu hu=>?_,λb hb=>?_⟩
  ·rcases aA.mp hu with e|m
   ·rw[e];exact a1.mono kA
   ·exact(b1 u m).mono kB
  ·rcases aD.mp hb with m|m
   ·exact(a2 b m).mono kA
   ·exact(b2 b m).mono kB
end
end
def VY(o:Obj):Option HO:=match o.data with
 |.seq vs _=>if(o.cls==mE "list")=true then some (.uD o (.lst (vs.toList.map toV))) else some (.uD o (.tup (vs.toList.map toV)))
 |_=>none
def qX(K:ah)(h:cu)(A:List af):Hp:=λb=>if b∈A then(if(K.lookup b).isNone=true then(h.get? b).bind VY else none) else none
def Xa(H:Hp):Prop:=∀b,H b=none∨∃o u,H b=some (.uD o u)
theorem J5(vs:List aj):VY {cls:=.type "list",data:=.seq vs.toArray}=some (.uD {cls:=.type "list",data:=.seq vs.toArray} (.lst (vs.map toV))):=by show(if(mE "list"==mE "list")=true then some (HO.uD {cls:=.type "list",data:=.seq vs.toArray} (.lst (vs.toArray.toList.map toV))) else some (HO.uD {cls:=.type "list",data:=.seq vs.toArray} (.tup (vs.toArray.toList.map toV))))=_;rw[if_pos (beq_self_eq_true _)]
theorem J6(vs:List aj):VY {cls:=.type "tuple",data:=.seq vs.toArray}=some (.uD {cls:=.type "tuple",data:=.seq vs.toArray} (.tup (vs.map toV))):=by show(if(mE "tuple"==mE "list")=true then some (HO.uD {cls:=.type "tuple",data:=.seq vs.toArray} (.lst (vs.toArray.toList.map toV))) else some (HO.uD {cls:=.type "tuple",data:=.seq vs.toArray} (.tup (vs.toArray.toList.map toV))))=_;rw[if_neg (by decide)]
section
variable{P:bo}{w:bM}{K:ah}{h:cu}{A:List af}
theorem CM{b:af}{o:Obj}(hb:b∈A)(hk:K.lookup b=none)(e:h.get? b=some o):qX K h A b=VY o:=by unfold qX;rw[if_pos hb,hk,if_pos (show(none:Option Obj).isNone=true from rfl),e]<;>rfl
theorem VZ{b:af}{u:HO}(q:qX K h A b=some u):b∈A/\K.lookup b=none:=by
 unfold qX at q;by_cases hb:b∈A
 ·rw[if_pos hb] at q
  cases hk:K.lookup b with
  |none=>exact⟨hb,rfl⟩
  |some o=>
   rw[hk,if_neg (by simp)] at q;cases q
 ·rw[if_neg hb] at q;cases q
theorem CN(ar:∀a∈A,tp h A a){b:af}{u:HO}(q:qX K h A b=some u):K.lookup b=none/\∃vs:List aj,vs.length<=az/\(∀u∈vs,Qw A u)/\ ((h.get? b=some {cls:=.type "list",data:=.seq vs.toArray}/\u=.uD {cls:=.type "list",data:=.seq vs.toArray} (.lst (vs.map toV)))∨(h.get? b=some {cls:=.type "tuple",data:=.seq vs.toArray}/\u=.uD {cls:=.type "tuple",data:=.seq vs.toArray} (.tup (vs.map toV)))):=by
 obtain⟨hb,hk⟩:=VZ q;obtain⟨vs,h1,h2,h3⟩:=ar b hb;refine⟨hk,vs,h1,h2,?_⟩;rcases h3 with e|e
 ·rw[CM hb hk e,J5] at q;exact .inl ⟨e,(aW q).symm⟩
 ·rw[CM hb hk e,J6] at q;exact .inr ⟨e,(aW q).symm⟩
theorem Qx(ar:∀a∈A,tp h A a):Xa (qX K h A):=λb=>by
 cases q:qX K h A b with
 |none=>exact .inl rfl
 |some u=>
  obtain⟨_,vs,_,_,⟨_,e⟩|⟨_,e⟩⟩:=CN ar q
  ·exact .inr ⟨_,_,by rw[e]⟩
  ·exact .inr ⟨_,_,by rw[e]⟩
theorem V0(ar:∀a∈A,tp h A a):uf P w (qX K h A) h:=λb u q=>by
 obtain⟨_,vs,h1,h2,⟨e,rfl⟩|⟨e,rfl⟩⟩:=CN ar q
 ·exact⟨e,by rw[aa];exact h1,vs,_,qW h2,e⟩
 ·exact⟨e,by rw[aa];exact h1,vs,qW h2,_,e,rfl,_,rfl⟩
theorem CO{c c':aj}{vs us:List aj}(e:(some {cls:=c,data:=.seq vs.toArray}:Option Obj)=some {cls:=c',data:=.seq us.toArray}):c=c'/\vs=us:=by
 have e1:=aW e;have e2:c=c':=congrArg Obj.cls e1;have e3:Data.seq vs.toArray=Data.seq us.toArray:=congrArg Obj.data e1;injection e3 with e4
 refine⟨e2,?_⟩;have e5:=congrArg Fd e4;simpa using e5
theorem afk(KX:K.In h)(ar:∀a∈A,tp h A a){a:af}{vs:List aj}(ha:a∈A)(e:h.get? a=some {cls:=.type "list",data:=.seq vs.toArray}):(∀u∈vs,Qw A u)/\bD K (qX K h A) a (vs.map toV):=by
 obtain⟨us,h1,h2,h3⟩:=ar a ha;have hu:us=vs:=by
  rcases h3 with q|q
  ·rw[e] at q;exact(CO q).2.symm
  ·rw[e] at q;exact absurd (Value.type.inj (CO q).1) (by decide)
 subst hu;refine⟨h2,?_⟩
 cases hk:K.lookup a with
 |none=>exact .inl (.inr ⟨_,by rw[CM ha hk e,J5]⟩)
 |some o=>have e2:=KX a o hk;rw[e] at e2;obtain rfl:=aW e2;exact .inr ⟨_,us.toArray,_,hk,rfl,rfl,rfl,by rw[bA];exact h1,by simpa using qW h2⟩
theorem afl(KX:K.In h)(ar:∀a∈A,tp h A a){a:af}{vs:List aj}(ha:a∈A)(e:h.get? a=some {cls:=.type "tuple",data:=.seq vs.toArray}):(∀u∈vs,Qw A u)/\nj K (qX K h A) a (vs.map toV):=by
 obtain⟨us,h1,h2,h3⟩:=ar a ha;have hu:us=vs:=by
  rcases h3 with q|q
  ·rw[e] at q;exact absurd (Value.type.inj (CO q).1) (by decide)
  ·rw[e] at q;exact(CO q).2.symm
 subst hu;refine⟨h2,?_⟩
 cases hk:K.lookup a with
 |none=>exact .inl (.inr ⟨_,by rw[CM ha hk e,J6]⟩)
 |some o=>have e2:=KX a o hk;rw[e] at e2;obtain rfl:=aW e2;exact .inr ⟨_,us.toArray,_,hk,rfl,rfl,by rw[bA];exact h1,by simpa using qW h2⟩
mutual
theorem YA{Pm:OD}(KX:K.In h)(ar:∀a∈A,tp h A a):∀(d:WData)(v:aj),Well Pm h v d->OV d=true->Qw A v->Dw K (qX K h A) (toV v) d
 |.none,_,x,_,_=>by
  cases x;exact .gT
 |.bool b,_,x,_,_=>by
  cases x;exact .bl b
 |.int i,_,x,_,_=>by
  cases x;exact .int i
 |.str s,_,x,_,_=>by
  cases x;exact .str s
 |.bytes b,_,x,_,_=>by
  cases x;have z:=Dw.Ml (K:=K) (H:=qX K h A) b.toArray;exact z
 |.list ds,_,x,p,hu=>by obtain⟨a,vs,rfl,ho,kL⟩:=GZ x;obtain⟨h2,hs⟩:=afk KX ar hu ho;exact .lst hs (HS KX ar ds _ kL p h2)
 |.tuple ds,_,x,p,hu=>by obtain⟨a,vs,rfl,ho,kL⟩:=Dh x;obtain⟨h2,hs⟩:=afl KX ar hu ho;exact .tup hs (HS KX ar ds _ kL p h2)
 |.float _,_,_,p,_=>bK (show false=true from p)
 |.dict _,_,_,p,_=>bK (show false=true from p)
 |.bytearray _,_,_,p,_=>bK (show false=true from p)
 |.set _,_,_,p,_=>bK (show false=true from p)
 |.frozenset _,_,_,p,_=>bK (show false=true from p)
 |.obj _ _,_,_,p,_=>bK (show false=true from p)
theorem HS{Pm:OD}(KX:K.In h)(ar:∀a∈A,tp h A a):∀(ds:List WData)(vs:List aj),WellAll Pm h vs ds->B8 ds=true->(∀u∈vs,Qw A u)->uT K (qX K h A) (vs.map toV) ds
 |[],_,x,_,_=>by
  cases x;exact .nil
 |d::ds,_,x,p,hu=>by obtain⟨v,vs,rfl,x1,x2⟩:=G2 x;have q:OV d=true/\B8 ds=true:=UW.mp p;exact .cons (YA KX ar d v x1 q.1 (hu _ (c7 ..))) (HS KX ar ds vs x2 q.2 λu m=>hu u (bS _ m))
end
end
theorem Di{ds:List WData}(h:WData.layableAll ds=true):∀d∈ds,d.weight<=1048576:=λd hd=>(PySem.W.layableW_iff.mp (b0.mp h d hd)).2.2
theorem Dj:∀(cs:List Codec)(a:Codec.denoteAll cs),(Codec.encAll cs a).length=cs.length
 |[],_=>rfl
 |c::cs,a=>by show(Codec.encAll cs a.2).length+1=cs.length+1;rw[Dj cs a.2]
end L2
namespace Bm
open Vbslai
def sg(b:Nat):Nat:=if b=32 then 32 else if 97<=b/\b<=122 then b else if 48<=b/\b<=57 then b else 63
def iq(w:aG):aG:=w.map sg
theorem J7{b:Nat}:sg b=32↔b=32:=by unfold sg;split<;>(try split)<;>(try split)<;>omega
theorem SW(b:Nat):iN (sg b)=iN b:=by
 unfold sg iN;by_cases h1:b=32
 ·subst h1;rfl
 ·rw[if_neg h1];by_cases h2:97<=b/\b<=122
  ·rw[if_pos h2]
  ·rw[if_neg h2];by_cases h3:48<=b/\b<=57
   ·rw[if_pos h3]
   ·rw[if_neg h3];have:(decide (97<=b)&&decide (b<=122))=false:=by
     rw[gE];by_cases h:97<=b
     ·right;simp;omega
     ·left;simp;omega
    rw[this];rfl
theorem SX(b:Nat):eJ (sg b)=eJ b:=by
 unfold sg eJ;by_cases h1:b=32
 ·subst h1;rfl
 ·rw[if_neg h1];by_cases h2:97<=b/\b<=122
  ·rw[if_pos h2]
  ·rw[if_neg h2];by_cases h3:48<=b/\b<=57
   ·rw[if_pos h3]
   ·rw[if_neg h3];have:(decide (48<=b)&&decide (b<=57))=false:=by
     rw[gE];by_cases h:48<=b
     ·right;simp;omega
     ·left;simp;omega
    rw[this];rfl
theorem J8{b:Nat}(h:iN b=true):sg b=b:=by unfold iN at h;simp at h;unfold sg;rw[if_neg (by omega),if_pos h]
theorem J9{b:Nat}(h:eJ b=true):sg b=b:=by unfold eJ at h;simp at h;unfold sg;rw[if_neg (by omega),if_neg (by omega),if_pos h]
theorem rY:∀w:aG,(iq w).all iN=w.all iN
 |[]=>rfl
 |a::l=>by show(iN (sg a)&&(iq l).all iN)=(iN a&&l.all iN);rw[SW,rY l]
theorem zj:∀w:aG,(iq w).all eJ=w.all eJ
 |[]=>rfl
 |a::l=>by show(eJ (sg a)&&(iq l).all eJ)=(eJ a&&l.all eJ);rw[SX,zj l]
theorem oM:∀{w:aG},w.all iN=true->iq w=w
 |[],_=>rfl
 |a::l,h=>by have h':(iN a&&l.all iN)=true:=h;rw[aK] at h';show sg a::iq l=a::l;rw[J8 h'.1,oM h'.2]
theorem wo:∀{w:aG},w.all eJ=true->iq w=w
 |[],_=>rfl
 |a::l,h=>by have h':(eJ a&&l.all eJ)=true:=h;rw[aK] at h';show sg a::iq l=a::l;rw[J9 h'.1,wo h'.2]
theorem m9(w:aG):(iq w).length=w.length:=aa ..
theorem yb(w:aG):dN (iq w)=dN w:=by unfold dN;rw[rY,m9]
theorem zk{w:aG}(h:dN w=true):w.all iN=true:=by unfold dN at h;simp only[aK] at h;exact h.2.2
theorem jS{w:aG}(h:dN w=true):iq w=w:=oM (zk h)
theorem AL{w:aG}(h:dN w=true):w≠[]:=by intro e;subst e;exact absurd h (by decide)
theorem gn{w:aG}(h:dN w=true):w.length<=10:=by unfold dN at h;simp only[aK,decide_eq_true_eq] at h;exact h.2.1
theorem rZ{v w:aG}(hw:w.all iN=true):iq v=w↔v=w:=by
 constructor
 ·intro e;have h:v.all iN=true:=by rw[<-rY,e];exact hw
  rw[oM h] at e;exact e
 ·intro e;subst e;exact oM hw
def jj(st:List aG×aG)(b:Nat):List aG×aG:=if b=10 then(st.1++[st.2],[]) else(st.1,st.2++[b])
def Qy(st:List aG×aG):List aG:=if st.2≠[] then st.1++[st.2] else st.1
def glue(l:aG):List aG->List aG
 |[]=>[l]
 |w::ws=>(l++w)::ws
def Bz(p:List aG):List aG:=if p.getLast?=some [] then p.dropLast else p
theorem jT(c:Nat):∀l,gq c l≠[]
 |[]=>by simp[gq]
 |x::l=>by
  unfold gq;split
  ·simp
  ·cases gq c l<;>simp
theorem MS{w:aG}{p:List aG}(h:p≠[]):Bz (w::p)=w::Bz p:=by
 unfold Bz
 cases p with
 |nil=>exact absurd rfl h
 |cons a r=>
  rw[List.getLast?_cons_cons];split
  ·rfl
  ·rfl
theorem yc:∀(r:aG)(ls:List aG)(l:aG),Qy (r.foldl jj (ls,l))=ls++Bz (glue l (gq 10 r))
 |[],ls,l=>by
  show Qy (ls,l)=ls++Bz [l++[]];rw[dE];unfold Qy Bz;by_cases h:l=[]
  ·subst h;simp
  ·simp[h]
 |b::r,ls,l=>by
  rw[bI];by_cases h:b=10
  ·have e:jj (ls,l) b=(ls++[l],[]):=by unfold jj;rw[if_pos h]
   have e2:gq 10 (b::r)=[]::gq 10 r:=by conv=>lhs;unfold gq;rw[if_pos h]
   rw[e,e2,yc r];show ls++[l]++Bz (glue [] (gq 10 r))=ls++Bz ((l++[])::gq 10 r);rw[dE,MS (jT 10 r)];have eg:glue [] (gq 10 r)=gq 10 r:=by
    have:=jT 10 r
    cases q:gq 10 r with
    |nil=>exact absurd q this
    |cons a s=>rfl
   rw[eg];simp
  ·have e:jj (ls,l) b=(ls,l++[b]):=by unfold jj;rw[if_neg h]
   rw[e,yc r];have e2:glue (l++[b]) (gq 10 r)=glue l (gq 10 (b::r)):=by
    conv=>rhs;unfold gq;rw[if_neg h]
    cases q:gq 10 r with
    |nil=>exact absurd q (jT 10 r)
    |cons a s=>simp[glue]
   rw[e2]
theorem Ka(t:aG):linesOf t=Qy (t.foldl jj ([],[])):=by
 rw[yc];have eg:glue [] (gq 10 t)=gq 10 t:=by
  cases q:gq 10 t with
  |nil=>exact absurd q (jT 10 t)
  |cons a s=>rfl
 rw[eg];rfl
theorem Kb:∀l:aG,gq 32 (iq l)=(gq 32 l).map iq
 |[]=>rfl
 |x::l=>by
  show gq 32 (sg x::iq l)=_
  conv=>lhs;unfold gq
  conv=>rhs;unfold gq
  rw[Kb l];by_cases h:x=32
  ·rw[if_pos h,if_pos (J7.mpr h)];rfl
  ·rw[if_neg h,if_neg (λq=>h (J7.mp q))]
   cases gq 32 l with
   |nil=>rfl
   |cons a s=>rfl
theorem SY(l:aG):wordsOf (iq l)=(wordsOf l).map iq:=by
 unfold wordsOf;rw[Kb,mJ];congr 1;apply gX;intro w _;show(!(iq w).isEmpty)=!w.isEmpty;cases w<;>rfl
def isNum(w:aG):Bool:=!w.isEmpty&&(w.all eJ&&(w==[48]||w.head? !=some 48))
def fq(lo hi:Nat)(w:aG):Bool:=isNum w&&(decide (w.length<=7)&&(decide (lo<=value w)&&decide (value w<=hi)))
theorem Dk:∀(w:aG)(n:Nat),w.foldl (λn c=>10*n+(c-48)) n≥n*10^w.length
 |[],n=>by simp
 |a::l,n=>by rw[bI];refine ak ?_ (Dk l _);rw[aV,ahk,<-aev,Nat.mul_right_comm];exact d7 _ (by omega)
theorem Qz{w:aG}(hd:w.all eJ=true)(h8:w.length=8)(h0:w.head?≠some 48):10^7<=value w:=by
 cases w with
 |nil=>simp at h8
 |cons a l=>
  have h':(eJ a&&l.all eJ)=true:=hd;rw[aK] at h';have ha:=h'.1;unfold eJ at ha;simp at ha;have kJ:a≠48:=λe=>h0 (by rw[e];rfl);have hl:l.length=7:=by simpa using h8
  unfold value;rw[bI];refine ak ?_ (Dk l _);rw[hl];have:1<=10*0+(a-48):=by omega
  calc 10^7=1*10^7:=by rw[U6]
   _<=_:=d7 _ this
theorem Kc{lo hi:Nat}(hhi:hi<10^7)(w:aG):numberIn lo hi w=if fq lo hi w=true then some (value w) else none:=by
 unfold numberIn fq isNum;by_cases he:w.isEmpty=true
 ·rw[if_pos (.inl he),he];rfl
 ·have qB:w.isEmpty=false:=by simpa using he
  by_cases hd:w.all eJ=false
  ·rw[if_pos (.inr (.inl hd)),hd,qB];rfl
  ·have P6:w.all eJ=true:=by simpa using hd
   by_cases h0:1<w.length/\w.head?=some 48
   ·rw[if_pos (.inr (.inr (.inr h0)))];have n1:(w==[48])=false:=by rw[beq_eq_false_iff_ne];intro e;rw[e] at h0;simp at h0
    have n2:(w.head? !=some 48)=false:=by rw[h0.2];simp
    rw[n1,n2];simp
   ·by_cases h8:8<w.length
    ·rw[if_pos (.inr (.inr (.inl h8)))];have:decide (w.length<=7)=false:=by simp;omega
     rw[this];simp
    ·rw[if_neg (by
      intro q;rcases q with q|q|q|q
      ·exact he q
      ·exact hd q
      ·exact h8 q
      ·exact h0 q)]
     have hn:(w==[48]||w.head? !=some 48)=true:=by
      cases w with
      |nil=>simp at qB
      |cons a l=>
       by_cases ha:a=48
       ·subst ha
        cases l with
        |nil=>simp
        |cons b r=>exact absurd ⟨by simp,rfl⟩ h0
       ·have:((a::l).head? !=some 48)=true:=by simp[ha]
        rw[this];simp
     rw[P6,qB,hn];by_cases h7:w.length<=7
     ·simp only[h7,decide_true,adD,mG,Oz,aK,decide_eq_true_eq]
     ·have h88:w.length=8:=by omega
      have hb:=Qz P6 h88 (by intro q;exact h0 ⟨by omega,q⟩);have:decide (w.length<=7)=false:=by simp;omega
      rw[this];rw[if_neg (by omega)];simp
theorem QA(w:aG):isNum (iq w)=isNum w:=by
 unfold isNum;rw[zj];by_cases hd:w.all eJ=true
 ·rw[wo hd]
 ·have P6:w.all eJ=false:=by simpa using hd
  rw[P6];simp
theorem QB(lo hi:Nat)(w:aG):fq lo hi (iq w)=fq lo hi w:=by
 unfold fq;by_cases hd:w.all eJ=true
 ·rw[wo hd]
 ·have P6:w.all eJ=false:=by simpa using hd
  have:isNum w=false:=by unfold isNum;rw[P6];simp
  rw[QA,this];rfl
theorem uV{lo hi:Nat}{w:aG}(h:fq lo hi w=true):w.all eJ=true:=by unfold fq isNum at h;simp only[aK] at h;exact h.1.2.1
theorem r6{lo hi:Nat}(hhi:hi<10^7):∀ws:List aG,numbersIn lo hi ws=if ws.all (fq lo hi)=true then some (ws.map value) else none
 |[]=>rfl
 |w::l=>by
  unfold numbersIn;rw[Kc hhi,r6 hhi l,dW];by_cases h1:fq lo hi w=true
  ·rw[if_pos h1,h1];by_cases h2:l.all (fq lo hi)=true
   ·rw[if_pos h2,h2];rfl
   ·rw[if_neg h2];have:l.all (fq lo hi)=false:=by simpa using h2
    rw[this];rfl
  ·rw[if_neg h1];have:fq lo hi w=false:=by simpa using h1
   rw[this];rfl
def oA(s:List Nat):Bool:=(s.zip s.tail).all λp=>decide (p.1<p.2)&&p.2%p.1==0
def l6(s:List Nat):Bool:=(s.zip s.tail).all λp=>decide (p.1<=p.2)
theorem G3:∀s:List Nat,nested s=oA s
 |[]=>rfl
 |[a]=>rfl
 |a::b::l=>by unfold nested;rw[G3 (b::l)];unfold oA;simp[CA,nW]
theorem G4:∀s:List Nat,rising s=l6 s
 |[]=>rfl
 |[a]=>rfl
 |a::b::l=>by unfold rising;rw[G4 (b::l)];unfold l6;simp[CA]
theorem r8:∀l:List aG,distinct l=true↔l.Nodup
 |[]=>by simp[distinct]
 |x::l=>by unfold distinct;rw[aK,r8 l,dQ];simp
end Bm
namespace Bm
open Vbslai
theorem uW{α β:Type}{f:α->β}:∀{l:List α},(l.map f).Nodup->∀{x y:α},x∈l->y∈l->f x=f y->x=y
 |[],_,_,_,h,_,_=>by cases h
 |a::l,nd,x,y,hx,hy,e=>by
  rw[bp,dQ] at nd;rcases aA.mp hx with h1|h1
  ·rcases aA.mp hy with h2|h2
   ·rw[h1,h2]
   ·exact absurd (aq.mpr ⟨y,h2,e.symm.trans (by rw[h1])⟩) nd.1
  ·rcases aA.mp hy with h2|h2
   ·exact absurd (aq.mpr ⟨x,h1,e.trans (by rw[h2])⟩) nd.1
   ·exact uW nd.2 h1 h2 e
abbrev Up:=List (aG×Option aG)
def chainOf(up:Up)(w:aG):List aG:=w::above up jP w
def fY(up:Up):List (List aG):=up.map λx=>chainOf up x.1
structure l8(up:Up):Prop where
 nd:(up.map (·.1)).Nodup
 cl:∀x∈up,∀v,x.2=some v->v∈up.map (·.1)
 sh:∀x∈up,(above up jP x.1).length<=2
 nm:∀x∈up,dN x.1=true
 le:up.length<=jP
theorem mX{up:Up}{w:aG}(h:w∈up.map (·.1)):∃x,up.find? (λx=>x.1==w)=some x/\x∈up/\x.1=w:=by
 cases e:up.find? (λx=>x.1==w) with
 |some x=>refine⟨x,rfl,iS e,?_⟩;have:=aa2 e;simpa using this
 |none=>rw[mN] at e;obtain⟨x,hx,ex⟩:=aq.mp h;exact absurd (e x hx) (by simp[ex])
theorem QC{up:Up}{x:aG×Option aG}{w:aG}(h:w∈up.map (·.1)):(up++[x]).find? (λx=>x.1==w)=up.find? (λx=>x.1==w):=by obtain⟨y,e,_,_⟩:=mX h;rw[XF,e];rfl
theorem oW{up:Up}{x:aG×Option aG}(cl:∀x∈up,∀v,x.2=some v->v∈up.map (·.1)):∀(f:Nat)(w:aG),w∈up.map (·.1)->above (up++[x]) f w=above up f w
 |0,_,_=>rfl
 |f+1,w,h=>by
  unfold above;rw[QC h];obtain⟨y,e,hy,ey⟩:=mX h;rw[e];obtain⟨a,o⟩:=y
  cases o with
  |none=>rfl
  |some v=>show v::above (up++[x]) f v=v::above up f v;rw[oW cl f v (cl _ hy v rfl)]
theorem Dl{up:Up}:∀(f:Nat)(w:aG),(above up (f+1) w).length<=f->above up f w=above up (f+1) w
 |0,w,h=>by have h':(above up 1 w).length<=0:=h;have:above up 1 w=[]:=fT.mp (by omega);show[]=above up 1 w;rw[this]
 |f+1,w,h=>by
  unfold above at h⊢
  cases e:up.find? (λx=>x.1==w) with
  |none=>rfl
  |some y=>
   rw[e] at h;obtain⟨a,o⟩:=y
   cases o with
   |none=>rfl
   |some v=>show v::above up f v=v::above up (f+1) v;have h':(v::above up (f+1) v).length<=f+1:=h;rw[Dl f v (by simpa using h')]
theorem Kd{up:Up}{n:aG}{o:Option aG}(hn:¬n∈up.map (·.1)):(up++[(n,o)]).find? (λx=>x.1==n)=some (n,o):=by
 rw[XF];have:up.find? (λx=>x.1==n)=none:=by rw[mN];intro x hx;simp;intro e;exact hn (aq.mpr ⟨x,hx,e⟩)
 rw[this];simp
theorem uX{up:Up}{n:aG}(hn:¬n∈up.map (·.1)):above (up++[(n,none)]) jP n=[]:=by show above (up++[(n,none)]) (29+1) n=[];unfold above;rw[Kd hn]
theorem uY{up:Up}{n v:aG}(ok:l8 up)(hn:¬n∈up.map (·.1))(hv:v∈up.map (·.1)):above (up++[(n,some v)]) jP n=v::above up jP v:=by
 show above (up++[(n,some v)]) (29+1) n=v::above up (29+1) v
 conv=>lhs;unfold above
 rw[Kd hn];show v::above (up++[(n,some v)]) 29 v=v::above up (29+1) v;rw[oW ok.cl 29 v hv];obtain⟨x,hx,ex⟩:=aq.mp hv;have:=ok.sh x hx;rw[ex] at this;rw[Dl 29 v (by show(above up jP v).length<=29;omega)]
theorem BA{up:Up}{x:aG×Option aG}(ok:l8 up):fY (up++[x])=fY up++[chainOf (up++[x]) x.1]:=by unfold fY;rw[br];congr 1;apply dc;intro y hy;unfold chainOf;rw[oW ok.cl _ _ (aq.mpr ⟨y,hy,rfl⟩)]
theorem Ke{up:Up}{n:aG}(ok:l8 up)(hn:¬n∈up.map (·.1)):fY (up++[(n,none)])=fY up++[[n]]:=by rw[BA ok];unfold chainOf;rw[uX hn]
theorem Kf{up:Up}{n v:aG}(ok:l8 up)(hn:¬n∈up.map (·.1))(hv:v∈up.map (·.1)):fY (up++[(n,some v)])=fY up++[n::chainOf up v]:=by rw[BA ok];show fY up++[n::above (up++[(n,some v)]) jP n]=_;rw[uY ok hn hv];rfl
theorem wm{up:Up}{n:aG}{o:Option aG}(h:(up.map (·.1)).Nodup)(hn:¬n∈up.map (·.1)):((up++[(n,o)]).map (·.1)).Nodup:=by
 rw[br,kz];refine⟨h,by simp,λa ha b hb e=>?_⟩;have:b=n:=by simpa using hb
 exact hn (by rw[<-this,<-e];exact ha)
theorem l8.none{up:Up}{n:aG}(ok:l8 up)(hn:¬n∈up.map (·.1))(nm:dN n=true)(hl:up.length<jP):l8 (up++[(n,none)]) where
 nd:=wm ok.nd hn
 cl:=λx hx v e=>by
  rw[br];rcases aD.mp hx with h|h
  ·exact d6 _ (ok.cl x h v e)
  ·rw[bX.mp h] at e;cases e
 sh:=λx hx=>by
  rcases aD.mp hx with h|h
  ·rw[oW ok.cl _ _ (aq.mpr ⟨x,h,rfl⟩)];exact ok.sh x h
  ·rw[bX.mp h,uX hn];simp
 nm:=λx hx=>by
  rcases aD.mp hx with h|h
  ·exact ok.nm x h
  ·rw[bX.mp h];exact nm
 le:=by rw[aO];exact hl
theorem l8.some{up:Up}{n v:aG}(ok:l8 up)(hn:¬n∈up.map (·.1))(nm:dN n=true)(hl:up.length<jP)(hv:v∈up.map (·.1))(h2:(above up jP v).length<2):l8 (up++[(n,some v)]) where
 nd:=wm ok.nd hn
 cl:=λx hx u e=>by
  rw[br];rcases aD.mp hx with h|h
  ·exact d6 _ (ok.cl x h u e)
  ·rw[bX.mp h] at e;cases e;exact d6 _ hv
 sh:=λx hx=>by
  rcases aD.mp hx with h|h
  ·rw[oW ok.cl _ _ (aq.mpr ⟨x,h,rfl⟩)];exact ok.sh x h
  ·rw[bX.mp h];show(above (up++[(n,aiV v)]) jP n).length<=2;rw[uY ok hn hv];simp;omega
 nm:=λx hx=>by
  rcases aD.mp hx with h|h
  ·exact ok.nm x h
  ·rw[bX.mp h];exact nm
 le:=by rw[aO];exact hl
theorem l8.nil:l8 []:=⟨by simp,by simp,by simp,by simp,by simp⟩
theorem MT{up:Up}(ok:l8 up){x:aG×Option aG}(hx:x∈up):above up jP x.1=match x.2 with
  |Aq=>[]
  |aiV v=>v::above up 29 v:=by
 show above up (29+1) x.1=_;unfold above;obtain⟨y,e,hy,ey⟩:=mX (aq.mpr ⟨x,hx,rfl⟩:x.1∈up.map (·.1));have:y=x:=uW ok.nd hy hx ey;rw[e,this];obtain⟨a,o⟩:=x;cases o<;>rfl
def longest(cs:List (List aG)):Nat:=cs.foldl (λm c=>max m c.length) 0
theorem uZ{α:Type}(g:α->Nat):∀(l:List α)(m:Nat),l.foldl (λm c=>max m (g c+1)) (m+1)=l.foldl (λm c=>max m (g c)) m+1
 |[],m=>rfl
 |a::l,m=>by
  rw[bI,bI];have:max (m+1) (g a+1)=max m (g a)+1:=by omega
  rw[this,uZ g l]
theorem HU(cs:List (List aG))(c:List aG):longest (cs++[c])=max (longest cs) c.length:=by unfold longest;rw[jc];rfl
theorem u1{up:Up}(h:up≠[]):longest (fY up)=height up+1:=by
 unfold longest fY height;rw[Mg,Mg];show up.foldl (λm x=>max m ((above up jP x.1).length+1)) 0=_
 cases up with
 |nil=>exact absurd rfl h
 |cons a l=>
  rw[bI,bI];have e:max 0 ((above (a::l) jP a.1).length+1)=(max 0 (above (a::l) jP a.1).length)+1:=by omega
  rw[e,uZ]
def newName(f:dY)(n:aG):Bool:=dN n&&(decide (n≠f.secret)&&!(f.columns.map (·.name)).contains n)
theorem Dm(f:dY)(n:aG):f.columns.any (λc=>c.name==n)=(f.columns.map (·.name)).contains n:=by rw[uv,qJ];congr 1;funext c;show(c.name==n)=(n==c.name);exact aew
theorem qY(f:dY)(a:aG):jM f [a]=none:=rfl
theorem zl(f:dY)(n:aG)(rest:List aG):jM f (text "numbers"::n::rest)=
  if(decide (rest.length<=2)&&(rest.all (fq 2 1000000)&&(oA (rest.map value)&&(decide (f.columns.length<4)&&newName f n))))=true
  then some {f with columns:=f.columns++[{name:=n,kind:=.numbers (rest.map value),costs:=[]}]} else none:=by
 unfold jM;dsimp only;rw[if_pos rfl,r6 (show MOST<10^7 by decide),Dm];unfold newName;by_cases h1:dN n=true
 ·by_cases h2:(f.columns.map (·.name)).contains n=true
  ·rw[if_neg (by intro q;rw[h2] at q;exact absurd q.2.1 (by simp)),h2];simp
  ·have h2':(f.columns.map (·.name)).contains n=false:=by simpa using h2
   by_cases h3:n≠f.secret
   ·by_cases h4:f.columns.length<COLUMNS
    ·rw[if_pos ⟨h1,h2',h3,h4⟩,h1,h2'];have h4':f.columns.length<4:=h4;show(if rest.all (fq 2 1000000)=true then some (rest.map value) else none).bind _=_;by_cases h5:rest.all (fq 2 1000000)=true
     ·rw[if_pos h5,h5];show(if(rest.map value).length<=STEPS/\nested (rest.map value)=true then _ else none)=_;rw[G3,aa];simp only[h3,h4',decide_true,ne_eq,not_false_eq_true,mG,Oz,adD,aK,decide_eq_true_eq];rfl
     ·have h5':rest.all (fq 2 1000000)=false:=by simpa using h5
      rw[if_neg h5,h5'];simp
    ·have h4':¬f.columns.length<4:=h4;rw[if_neg (by intro q;exact h4 q.2.2.2)];simp[h4']
   ·rw[if_neg (by intro q;exact h3 q.2.2.1)];simp only[ne_eq,Decidable.not_not] at h3;simp[h3]
 ·rw[if_neg (by intro q;exact h1 q.1)];have:dN n=false:=by simpa using h1
  rw[this];simp
theorem yd(f:dY)(n:aG)(rest:List aG):jM f (text "words"::n::rest)=
  if(rest.isEmpty&&(decide (f.columns.length<4)&&newName f n))=true
  then some {f with columns:=f.columns++[{name:=n,kind:=.words [],costs:=[]}]} else none:=by
 unfold jM;dsimp only;rw[if_neg (by decide),if_pos rfl,Dm];unfold newName;by_cases h:dN n=true/\(f.columns.map (·.name)).contains n=false/\n≠f.secret/\f.columns.length<COLUMNS/\rest=[]
 ·rw[if_pos h,if_pos];obtain⟨a,b,c,d,e⟩:=h;have d':f.columns.length<4:=d;rw[a,b,e];simp[c,d']
 ·rw[if_neg h,if_neg];intro q;simp only[aK,decide_eq_true_eq,jd,ZY] at q;exact h ⟨q.2.2.1,q.2.2.2.2,q.2.2.2.1,q.2.1,q.1⟩
theorem pV(f:dY)(n:aG)(rest:List aG):jM f (text "secret"::n::rest)=
  if(decide (f.secret=[])&&(decide (2<=rest.length)&&(decide (rest.length<=12)&&(newName f n&&(rest.all dN&&distinct rest)))))=true
  then some {f with secret:=n,values:=rest} else none:=by
 unfold jM;dsimp only;rw[if_neg (by decide),if_neg (by decide),if_neg (by decide),if_neg (by decide),if_pos rfl,Dm];unfold newName;by_cases h:f.secret=[]/\dN n=true/\(f.columns.map (·.name)).contains n=false/\2<=rest.length/\rest.length<=VALUES/\rest.all dN=true/\distinct rest=true
 ·rw[if_pos h,if_pos];obtain⟨a,b,c,d,e,g,i⟩:=h;have e':rest.length<=12:=e;have kJ:=AL b;rw[b,c,g,i,a];simp[d,e',kJ]
 ·rw[if_neg h,if_neg];intro q;simp only[aK,decide_eq_true_eq,jd] at q;exact h ⟨q.1,q.2.2.2.1.1,q.2.2.2.1.2.2,q.2.1,q.2.2.1,q.2.2.2.2.1,q.2.2.2.2.2⟩
theorem ye(f:dY)(a:aG)(rest:List aG)(h1:a≠text "numbers")(h2:a≠text "words")(h3:a≠text "word")(h4:a≠text "costs")(h5:a≠text "secret"):jM f (a::rest)=none:=by
 cases rest with
 |nil=>rfl
 |cons n rest=>unfold jM;dsimp only;rw[if_neg h1,if_neg h2,if_neg h3,if_neg h4,if_neg h5]
def l9(up:Up)(n:aG)(rest:List aG):Option (aG×Option aG):=match rest with
 |[]=>some (n,none)
 |[o,v]=>if o=text "of"/\v∈up.map (·.1)/\(above up jP v).length<2 then some (n,some v) else none
 |_=>none
theorem S1(up:Up)(n:aG):up.any (λx=>x.1==n)=(up.map (·.1)).contains n:=by rw[uv,qJ];congr 1;funext c;show(c.1==n)=(n==c.1);exact aew
theorem G5{f:dY}{c:bw}{cs:List bw}{up:Up}(hf:f.columns=cs++[c])(hk:c.kind=.words up)(hc:c.costs=[])(n:aG)(rest:List aG):jM f (text "word"::n::rest)=
  if(dN n&&(decide (up.length<30)&&!(up.map (·.1)).contains n))=true then(l9 up n rest).map λx=>{f with columns:=cs++[{c with kind:=.words (up++[x])}]} else none:=by
 unfold jM;dsimp only;rw[if_neg (by decide),if_neg (by decide),if_pos rfl,hf];rw[Ah,ja];show(match c.kind with|.words up=>_|.numbers _=>none)=_;rw[hk];show(if c.costs=[]/\dN n=true/\up.any (λx=>x.1==n)=false/\up.length<jP then _ else none)=_;rw[S1];by_cases h:c.costs=[]/\dN n=true/\(up.map (·.1)).contains n=false/\up.length<jP
 ·rw[if_pos h,if_pos (by have h4:up.length<30:=h.2.2.2;rw[h.2.1,h.2.2.1];simp[h4])];unfold l9
  match rest with
  |[]=>rfl
  |[o]=>rfl
  |[o,v]=>
   show(if o=text "of"/\up.any (λx=>x.1==v)=true/\(above up jP v).length<2 then _ else none)=_;rw[S1];by_cases q:o=text "of"/\v∈up.map (·.1)/\(above up jP v).length<2
   ·rw[if_pos ⟨q.1,by simpa using q.2.1,q.2.2⟩];show _=ame _ (if o=text "of"/\v∈up.map (·.1)/\(above up jP v).length<2 then some (n,some v) else none);rw[if_pos q];rfl
   ·rw[if_neg (λz=>q ⟨z.1,by simpa using z.2.1,z.2.2⟩)];show _=ame _ (if o=text "of"/\v∈up.map (·.1)/\(above up jP v).length<2 then some (n,some v) else none);rw[if_neg q];rfl
  |_::_::_::_=>rfl
 ·rw[if_neg h,if_neg];intro q;simp only[aK,decide_eq_true_eq,jd] at q;exact h ⟨hc,q.1,q.2.2,q.2.1⟩
theorem xr{f:dY}{c:bw}{cs:List bw}{s:List Nat}(hf:f.columns=cs++[c])(hk:c.kind=.numbers s)(rest:List aG):jM f (text "word"::rest)=none:=by
 cases rest with
 |nil=>rfl
 |cons n rest=>unfold jM;dsimp only;rw[if_neg (by decide),if_neg (by decide),if_pos rfl,hf,Ah];show(match c.kind with|.words up=>_|.numbers _=>none)=_;rw[hk]
def filled(k:Kind):Bool:=match k with
 |.words up=>!up.isEmpty
 |.numbers _=>true
theorem Dn{f:dY}{c:bw}{cs:List bw}(hf:f.columns=cs++[c])(hc:c.costs=[])(rest:List aG):jM f (text "costs"::rest)=
  if(filled c.kind&&(decide (rest.length=levels c.kind)&&(rest.all (fq 0 10000)&&l6 (rest.map value))))=true then some {f with columns:=cs++[{c with costs:=rest.map value}]} else none:=by
 cases rest with
 |nil=>
  rw[qY,if_neg];intro q;simp only[aK,decide_eq_true_eq] at q;have h0:2<=levels c.kind:=by
   unfold levels
   cases c.kind with
   |numbers s=>exact xX _ _
   |words u=>exact xX _ _
  have:=q.2.1;have:0=levels c.kind:=this;omega
 |cons n rest=>
  unfold jM;dsimp only;rw[if_neg (by decide),if_neg (by decide),if_neg (by decide),if_pos rfl,hf,Ah,ja];show(if c.costs=[] then _ else none)=_;rw[if_pos hc,r6 (show COST<10^7 by decide)];show(if(n::rest).all (fq 0 10000)=true then some ((n::rest).map value) else none).bind _=_;by_cases h:(n::rest).all (fq 0 10000)=true
  ·rw[if_pos h,h];show(if((n::rest).map value).length=levels c.kind/\rising ((n::rest).map value)=true/\filled c.kind=true then _ else none)=_;rw[G4,aa];by_cases q:(n::rest).length=levels c.kind/\l6 ((n::rest).map value)=true/\filled c.kind=true
   ·rw[if_pos q,if_pos (by rw[q.2.1,q.2.2,decide_eq_true q.1];rfl)];rfl
   ·rw[if_neg q,if_neg];intro z;simp only[aK,decide_eq_true_eq,mG] at z;exact q ⟨z.2.1,z.2.2,z.1⟩
  ·have h':(n::rest).all (fq 0 10000)=false:=by simpa using h
   rw[if_neg h,h',if_neg (by simp)];rfl
end Bm
namespace Bm
open Vbslai
section
variable{α:Type}[DecidableEq α]
def BB(acc:List α)(x:α):List α:=if x∈acc then acc else acc++[x]
def dd(l:List α):List α:=l.foldl BB []
theorem G6(l:List α):dd l=l.foldl BB []:=rfl
theorem OX{acc:List α}{x y:α}:y∈BB acc x↔y∈acc∨y=x:=by
 unfold BB;split
 ·rename_i h;constructor
  ·exact .inl
  ·rintro(q|q)
   ·exact q
   ·rw[q];exact h
 ·simp
theorem YB{acc:List α}{x:α}(h:acc.Nodup):(BB acc x).Nodup:=by
 unfold BB;split
 ·exact h
 ·rename_i q;rw[kz];refine⟨h,by simp,λa ha b hb e=>?_⟩;have:b=x:=by simpa using hb
  exact q (by rw[<-this,<-e];exact ha)
theorem xt:∀(l acc:List α)(y:α),y∈l.foldl BB acc↔y∈acc∨y∈l
 |[],acc,y=>by simp
 |a::l,acc,y=>by rw[bI,xt l,OX,aA,or_assoc]
theorem zm:∀(l acc:List α),acc.Nodup->(l.foldl BB acc).Nodup
 |[],acc,h=>h
 |a::l,acc,h=>zm l _ (YB h)
theorem Dp{l:List α}{y:α}:y∈dd l↔y∈l:=by rw[G6,xt];simp
theorem abY(l:List α):(dd l).Nodup:=by rw[G6];exact zm l [] (by simp)
theorem HV(l:List α)(x:α):dd (l++[x])=BB (dd l) x:=by rw[G6,jc];rfl
theorem r9:∀(l acc:List α),(l.foldl BB acc).length<=acc.length+l.length
 |[],acc=>aJ _
 |a::l,acc=>by
  refine ak (r9 l _) ?_;unfold BB;split
  ·rw[aV];omega
  ·rw[aV,aO,ox];omega
theorem S2(l:List α):(dd l).length<=l.length:=by have:=r9 l [];rw[G6];simpa using this
theorem tq:∀(l acc:List α),l.Nodup->(∀x∈l,¬x∈acc)->l.foldl BB acc=acc++l
 |[],acc,_,_=>by simp
 |a::l,acc,nd,h=>by
  rw[dQ] at nd;rw[bI];have:BB acc a=acc++[a]:=by unfold BB;rw[if_neg (h a (.head _))]
  rw[this,tq l _ nd.2 (λx hx hm=>?_)]
  ·simp
  ·rcases aD.mp hm with q|q
   ·exact h x (.tail _ hx) q
   ·exact nd.1 (by rw[<-bX.mp q];exact hx)
theorem S6{l:List α}(h:l.Nodup):dd l=l:=by rw[G6,tq l [] h (by simp)];simp
theorem OY{α:Type}[DecidableEq α]:∀{l m:List α},l.Nodup->(∀x∈l,x∈m)->l.length<=m.length
 |[],m,_,_=>bB _
 |a::l,m,nd,h=>by
  rw[dQ] at nd;have ha:a∈m:=h a (.head _);have:l.length<=(m.erase a).length:=OY nd.2 λx hx=>by have kJ:x≠a:=λe=>nd.1 (by rw[<-e];exact hx);exact(List.mem_erase_of_ne kJ).mpr (h x (.tail _ hx))
  rw[List.length_erase_of_mem ha] at this;have:0<m.length:=List.length_pos_of_mem ha;simp;omega
theorem S8{l m:List α}(h1:l.Nodup)(h2:m.Nodup)(h:∀x,x∈l↔x∈m):l.length=m.length:=Nat.le_antisymm (OY h1 λx hx=>(h x).mp hx) (OY h2 λx hx=>(h x).mpr hx)
theorem Dq{l:List α}:(dd l).length=l.length↔l.Nodup:=by
 constructor
 ·intro e;have key:∀(l acc:List α),acc.Nodup->(l.foldl BB acc).length=acc.length+l.length->l.Nodup/\∀x∈l,¬x∈acc:=by
   intro l
   induction l with
   |nil=>intro acc _ _;exact⟨by simp,λx hx=>by cases hx⟩
   |cons a l ih=>
    intro acc nd e;rw[bI] at e;by_cases h:a∈acc
    ·have:BB acc a=acc:=by unfold BB;rw[if_pos h]
     rw[this] at e;have:=r9 l acc;simp at e;omega
    ·have:BB acc a=acc++[a]:=by unfold BB;rw[if_neg h]
     rw[this] at e;obtain⟨h1,h2⟩:=ih (acc++[a]) (by rw[kz];exact⟨nd,by simp,λx hx b hb q=>h (by rw[<-bX.mp hb,<-q];exact hx)⟩) (by rw[e,aO,aV,ox];omega);refine⟨dQ.mpr ⟨λhm=>h2 a hm (by simp),h1⟩,λx hx hm=>?_⟩;rcases aA.mp hx with q|q
     ·exact h (by rw[<-q];exact hm)
     ·exact h2 x q (d6 _ hm)
  exact(key l [] (by simp) (by rw[G6] at e;simpa using e)).1
 ·intro h;rw[S6 h]
end
theorem lookup_mem{β:Type}:∀{l:List (Nat×β)}{k:Nat}{v:β},l.lookup k=some v->(k,v)∈l
 |(a,b)::l,k,v,h=>by
  rw[di] at h;by_cases e:k==a
  ·rw[e] at h;have e':k=a:=by simpa using e
   cases h;rw[e'];exact .head _
  ·rw[show(k==a)=false by simpa using e] at h;exact .tail _ (lookup_mem h)
theorem xu{β:Type}:∀{l:List (Nat×β)}{k:Nat}{v:β},(l.map (·.1)).Nodup->(k,v)∈l->l.lookup k=some v
 |(a,b)::l,k,v,nd,h=>by
  rw[bp,dQ] at nd;rw[di];rcases aA.mp h with q|q
  ·cases q;simp
  ·have:k≠a:=λe=>nd.1 (aq.mpr ⟨(k,v),q,e⟩);rw[show(k==a)=false by simpa using this];exact xu nd.2 q
theorem lookup_none{β:Type}{l:List (Nat×β)}{k:Nat}:l.lookup k=none↔¬k∈l.map (·.1):=by
 induction l with
 |nil=>simp
 |cons p l ih=>
  obtain⟨a,b⟩:=p;rw[di,bp,aA];by_cases e:k=a
  ·subst e;simp
  ·rw[show(k==a)=false by simpa using e];show l.lookup k=none↔_;rw[ih];simp[e]
theorem yf(cs:List bw)(ls:List Nat)(rows:List Row)(x:List aG):aa7 (looks cs ls rows) x=rows.filter λr=>aE cs ls r==x:=by unfold aa7 looks;rw[mJ,aP];show wc (λr=>r) _=_;rw[ahl];rfl
theorem HW(rows:List Row):Av rows=dd (rows.map (·.secret)):=by unfold Av dd;rw[Mg];congr 1;funext l x;unfold BB;simp
def Vd(look:Row->List aG)(rows:List Row)(x:List aG):List Row:=rows.filter λr=>look r==x
def classOk(look:Row->List aG)(rows:List Row)(k u:Nat)(x:List aG):Bool:=enough k u (Vd look rows x)
theorem AM(cs:List bw)(ls:List Nat)(k u:Nat)(rows:List Row):aa8 cs ls k u rows=rows.filter λr=>!classOk (aE cs ls) rows k u (aE cs ls r):=by
 unfold aa8;dsimp only;have:(λx:Row×List aG=>!(enough k u (aa7 (looks cs ls rows) x.2)))=λx=>!classOk (aE cs ls) rows k u x.2:=by funext x;rw[yf];rfl
 rw[this]
 conv=>lhs;unfold looks
 rw[mJ,aP];show wc (λr=>r) _=_;rw[ahl];rfl
def yg(look:Row->List aG)(rows:List Row)(k u:Nat):List (Nat×List aG):=((dd (rows.map look)).filter λx=>classOk look rows k u x).flatMap λx=>(Vd look rows x).map λr=>(r.who,x)
theorem zo{look:Row->List aG}{rows:List Row}{k u w:Nat}{x:List aG}:(w,x)∈yg look rows k u↔∃r∈rows,r.who=w/\look r=x/\classOk look rows k u x=true:=by
 unfold yg;rw[jz];constructor
 ·rintro⟨y,hy,hm⟩;obtain⟨r,hr,e⟩:=aq.mp hm;cases e;unfold Vd at hr;rw[bE] at hr hy;exact⟨r,hr.1,rfl,by simpa using hr.2,hy.2⟩
 ·rintro⟨r,hr,rfl,rfl,ok⟩;refine⟨look r,bE.mpr ⟨Dp.mpr (aq.mpr ⟨r,hr,rfl⟩),ok⟩,aq.mpr ⟨r,?_,rfl⟩⟩;unfold Vd;exact bE.mpr ⟨hr,by simp⟩
theorem OZ{α β:Type}{f:α->List β}:∀{l:List α},l.Nodup->(∀x∈l,(f x).Nodup)->(∀x∈l,∀y∈l,∀z,z∈f x->z∈f y->x=y)->(l.flatMap f).Nodup
 |[],_,_,_=>by simp
 |a::l,nd,h1,h2=>by rw[dQ] at nd;rw[gY,kz];refine⟨h1 a (.head _),OZ nd.2 (λx hx=>h1 x (.tail _ hx)) (λx hx y hy=>h2 x (.tail _ hx) y (.tail _ hy)),λx hx y hy e=>?_⟩;subst e;obtain⟨b,hb,hm⟩:=jz.mp hy;have:=h2 a (.head _) b (.tail _ hb) x hx hm;exact nd.1 (by rw[this];exact hb)
theorem FQ{α β:Type}{f:α->β}{p:α->Bool}{l:List α}(h:(l.map f).Nodup):((l.filter p).map f).Nodup:=by exact h.sublist (fk.map f)
theorem zp{look:Row->List aG}{rows:List Row}{k u:Nat}(nd:(rows.map (·.who)).Nodup):((yg look rows k u).map (·.1)).Nodup:=by
 unfold yg;rw[Z2];refine OZ ((abY _).sublist fk) (λx _=>?_) (λx _ y _ z hx hy=>?_)
 ·rw[aP];show((Vd look rows x).map (·.who)).Nodup;exact FQ nd
 ·rw[aP] at hx hy;obtain⟨r,hr,e1⟩:=aq.mp hx;obtain⟨t,ht,e2⟩:=aq.mp hy;unfold Vd at hr ht;rw[bE] at hr ht;have:r=t:=uW nd hr.1 ht.1 (by rw[show r.who=z from e1,show t.who=z from e2]);subst this;have a:look r=x:=by simpa using hr.2
  have b:look r=y:=by simpa using ht.2
  rw[<-a,<-b]
structure Rl where
 levels:List Nat
 k:Nat
 u:Nat
 lk:List (Nat×List aG)
 left:Nat
structure yh(cs:List bw)(rows:List Row)(z:Rl)(q:fN):Prop where
 lv:z.levels=q.levels
 k:z.k=q.alike
 u:z.u=q.unlike
 left:z.left=q.out.length
 nd:(z.lk.map (·.1)).Nodup
 Ve:q.has.Nodup
 mem:∀w,w∈z.lk.map (·.1)↔w∈q.has
 look:∀r∈rows,r.who∈q.has->z.lk.lookup r.who=some (aE cs q.levels r)
theorem yh.len{cs:List bw}{rows:List Row}{z:Rl}{q:fN}(h:yh cs rows z q):z.lk.length=q.has.length:=by have:=S8 h.nd h.Ve h.mem;rw[aa] at this;exact this
theorem yh.isSome{cs:List bw}{rows:List Row}{z:Rl}{q:fN}(h:yh cs rows z q)(w:Nat):(z.lk.lookup w).isSome=q.has.contains w:=by
 cases e:z.lk.lookup w with
 |none=>have:=lookup_none.mp e;rw[h.mem] at this;simp[this]
 |some v=>have:w∈z.lk.map (·.1):=aq.mpr ⟨_,lookup_mem e,rfl⟩;rw[h.mem] at this;simp[this]
def ik(cs:List bw)(rows:List Row)(ls:List Nat)(k u:Nat):Rl:=⟨ls,k,u,yg (aE cs ls) rows k u,rows.length-(yg (aE cs ls) rows k u).length⟩
theorem O0{cs:List bw}{rows:List Row}{ls:List Nat}{k u:Nat}(nd:(rows.map (·.who)).Nodup){r:Row}(hr:r∈rows):r.who∈(cA cs rows ls k u).out↔classOk (aE cs ls) rows k u (aE cs ls r)=false:=by
 unfold cA;dsimp only;rw[AM];constructor
 ·intro h;obtain⟨t,ht,e⟩:=aq.mp h;rw[bE] at ht;have:t=r:=uW nd ht.1 hr e;subst this;simpa using ht.2
 ·intro h;exact aq.mpr ⟨r,bE.mpr ⟨hr,by simp[h]⟩,rfl⟩
theorem wq{cs:List bw}{rows:List Row}{ls:List Nat}{k u:Nat}(nd:(rows.map (·.who)).Nodup){r:Row}(hr:r∈rows):r.who∈(cA cs rows ls k u).has↔classOk (aE cs ls) rows k u (aE cs ls r)=true:=by
 have h:=O0 (cs:=cs) (ls:=ls) (k:=k) (u:=u) nd hr;constructor
 ·intro hm;have hm':r.who∈(rows.map λr=>r.who).filter λw=>!((cA cs rows ls k u).out.contains w):=hm;rw[bE] at hm';have:¬r.who∈(cA cs rows ls k u).out:=by simpa using hm'.2
  rw[h] at this;simpa using this
 ·intro ok;have:¬r.who∈(cA cs rows ls k u).out:=by rw[h,ok];simp
  show r.who∈(rows.map λr=>r.who).filter λw=>!((cA cs rows ls k u).out.contains w);exact bE.mpr ⟨aq.mpr ⟨r,hr,rfl⟩,by simpa using this⟩
theorem O1{cs:List bw}{rows:List Row}{ls:List Nat}{k u w:Nat}(h:w∈(cA cs rows ls k u).has):∃r∈rows,r.who=w:=by have h':w∈(rows.map λr=>r.who).filter λw=>!((cA cs rows ls k u).out.contains w):=h;rw[bE] at h';obtain⟨r,hr,e⟩:=aq.mp h'.1;exact⟨r,hr,e⟩
theorem Dr{α:Type}(p:α->Bool):∀l:List α,(l.filter p).length+(l.filter λx=>!p x).length=l.length
 |[]=>rfl
 |a::l=>by
  have:=Dr p l;rw[wa,wa];cases h:p a
  ·simp;omega
  ·simp;omega
theorem YC{cs:List bw}{rows:List Row}{ls:List Nat}{k u:Nat}(nd:(rows.map (·.who)).Nodup):(cA cs rows ls k u).has=(rows.filter λr=>classOk (aE cs ls) rows k u (aE cs ls r)).map (·.who):=by
 show(rows.map λr=>r.who).filter (λw=>!((cA cs rows ls k u).out.contains w))=_;rw[mJ];congr 1;apply gX;intro r hr;show(!((cA cs rows ls k u).out.contains r.who))=_;have h:=O0 (cs:=cs) (ls:=ls) (k:=k) (u:=u) nd hr
 cases e:classOk (aE cs ls) rows k u (aE cs ls r) with
 |true=>
  have:¬r.who∈(cA cs rows ls k u).out:=by rw[h,e];simp
  simpa using this
 |false=>
  have:r.who∈(cA cs rows ls k u).out:=by rw[h,e]
  simpa using this
theorem V1{cs:List bw}{rows:List Row}{ls:List Nat}{k u:Nat}(nd:(rows.map (·.who)).Nodup):(cA cs rows ls k u).has.length+(cA cs rows ls k u).out.length=rows.length:=by
 rw[YC nd,aa];have e:(cA cs rows ls k u).out=(rows.filter λr=>!classOk (aE cs ls) rows k u (aE cs ls r)).map λr=>r.who:=by show(aa8 cs ls k u rows).map (λr=>r.who)=_;rw[AM]
 rw[e,aa];exact Dr _ rows
theorem oB{cs:List bw}{rows:List Row}{ls:List Nat}{k u:Nat}(nd:(rows.map (·.who)).Nodup):yh cs rows (ik cs rows ls k u) (cA cs rows ls k u):=by
 have FL:∀w,w∈(yg (aE cs ls) rows k u).map (·.1)↔w∈(cA cs rows ls k u).has:=λw=>by
  constructor
  ·intro h;obtain⟨⟨w',x⟩,hm,e⟩:=aq.mp h;cases e;obtain⟨r,hr,e1,e2,ok⟩:=zo.mp hm;show w'∈_;rw[<-e1,wq nd hr,e2];exact ok
  ·intro h;obtain⟨r,hr,e⟩:=O1 h;rw[<-e] at h⊢;exact aq.mpr ⟨(r.who,aE cs ls r),zo.mpr ⟨r,hr,rfl,rfl,(wq nd hr).mp h⟩,rfl⟩
 have Ve:(cA cs rows ls k u).has.Nodup:=nd.sublist fk;have hl:(yg (aE cs ls) rows k u).length=(cA cs rows ls k u).has.length:=by have:=S8 (zp (look:=aE cs ls) (k:=k) (u:=u) nd) Ve FL;rw[aa] at this;exact this
 refine⟨rfl,rfl,rfl,?_,zp nd,Ve,FL,λr hr h=>?_⟩
 ·show rows.length-(yg (aE cs ls) rows k u).length=_;have:=V1 (cs:=cs) (rows:=rows) (ls:=ls) (k:=k) (u:=u) nd;omega
 ·exact xu (zp nd) (zo.mpr ⟨r,hr,rfl,rfl,(wq nd hr).mp h⟩)
def kY(z:Rl)(r:Row)(left:List Row):List Row:=match z.lk.lookup r.who with
 |none=>left
 |some y=>left.filter λx=>z.lk.lookup x.who==some y
def jg(zs:List Rl)(rows:List Row)(r:Row):List Row:=zs.foldl (λleft z=>kY z r left) rows
def j9(z:Rl)(r:Row)(a:Nat×Nat):Nat×Nat:=if(z.lk.lookup r.who).isSome=true then(max a.1 z.k,max a.2 z.u) else a
def ask(zs:List Rl)(r:Row):Nat×Nat:=zs.foldl (λa z=>j9 z r a) (0,0)
inductive jU(cs:List bw)(rows:List Row):List Rl->List fN->Prop where
 |nil:jU cs rows [] []
 |cons {z:Rl} {q:fN} {zs:List Rl} {qs:List fN} (h:yh cs rows z q) (t:jU cs rows zs qs):jU cs rows (z::zs) (q::qs)
theorem jU.snoc{cs:List bw}{rows:List Row}:∀{zs:List Rl}{qs:List fN}{z:Rl}{q:fN},jU cs rows zs qs->yh cs rows z q->jU cs rows (zs++[z]) (qs++[q])
 |_,_,_,_,.nil,h=>.cons h .nil
 |_,_,_,_,.cons h t,k=>.cons h (t.snoc k)
theorem jU.len{cs:List bw}{rows:List Row}:∀{zs:List Rl}{qs:List fN},jU cs rows zs qs->zs.length=qs.length
 |_,_,.nil=>rfl
 |_,_,.cons _ t=>by rw[aV,aV,t.len]
theorem Kg{cs:List bw}{rows:List Row}{z:Rl}{q:fN}(nd:(rows.map (·.who)).Nodup)(h:yh cs rows z q){r:Row}(hr:r∈rows){left:List Row}(hl:∀x∈left,x∈rows):(match(looks cs q.levels (rows.filter λr=>q.has.contains r.who)).find? λx=>x.1.who==r.who with
   |none=>left
   |some y=>let group:=(aa7 (looks cs q.levels (rows.filter λr=>q.has.contains r.who)) y.2).map λx=>x.who
    left.filter λx=>group.contains x.who)=kY z r left:=by
 unfold kY;have hs:=h.isSome r.who
 cases e:z.lk.lookup r.who with
 |none=>
  rw[e] at hs;have QD:q.has.contains r.who=false:=hs.symm;have:(looks cs q.levels (rows.filter λr=>q.has.contains r.who)).find? (λx=>x.1.who==r.who)=none:=by
   rw[mN];intro x hx;unfold looks at hx;obtain⟨t,ht,rfl⟩:=aq.mp hx;rw[bE] at ht;intro q';have q'':t.who=r.who:=by simpa using q'
   rw[q'',QD] at ht;exact absurd ht.2 (by simp)
  rw[this]
 |some y=>
  rw[e] at hs;have QD:q.has.contains r.who=true:=hs.symm;have Fl:r.who∈q.has:=by simpa using QD
  have hy:=h.look r hr Fl;rw[e] at hy;cases hy;have:(looks cs q.levels (rows.filter λr=>q.has.contains r.who)).find? (λx=>x.1.who==r.who)=some (r,aE cs q.levels r):=by
   cases e2:(looks cs q.levels (rows.filter λr=>q.has.contains r.who)).find? (λx=>x.1.who==r.who) with
   |none=>rw[mN] at e2;have:=e2 (r,aE cs q.levels r) (by unfold looks;exact aq.mpr ⟨r,bE.mpr ⟨hr,QD⟩,rfl⟩);exact absurd this (by simp)
   |some x=>have h1:=iS e2;have h2:=aa2 e2;unfold looks at h1;obtain⟨t,ht,rfl⟩:=aq.mp h1;rw[bE] at ht;have:t=r:=uW nd ht.1 hr (by simpa using h2);rw[this]
  rw[this];dsimp only;apply gX;intro x hx;have hxr:=hl x hx;rw[yf];have e3:((rows.filter λr=>q.has.contains r.who).filter λt=>aE cs q.levels t==aE cs q.levels r).map (λx=>x.who)=((rows.filter λt=>q.has.contains t.who&&aE cs q.levels t==aE cs q.levels r)).map (λx=>x.who):=by rw[CB];congr 1;apply gX;intro t _;rw[OA]
  rw[e3];by_cases hc:q.has.contains x.who=true/\aE cs q.levels x=aE cs q.levels r
  ·have m1:x.who∈((rows.filter λt=>q.has.contains t.who&&aE cs q.levels t==aE cs q.levels r)).map (λx=>x.who):=aq.mpr ⟨x,bE.mpr ⟨hxr,by rw[hc.1,hc.2];simp⟩,rfl⟩;have m2:=h.look x hxr (by simpa using hc.1);rw[m2,hc.2];simpa using m1
  ·have m1:¬x.who∈((rows.filter λt=>q.has.contains t.who&&aE cs q.levels t==aE cs q.levels r)).map (λx=>x.who):=λhm=>by obtain⟨t,ht,et⟩:=aq.mp hm;rw[bE] at ht;have:t=x:=uW nd ht.1 hxr et;subst this;have h2:=ht.2;rw[aK] at h2;exact hc ⟨h2.1,by simpa using h2.2⟩
   have m2:¬z.lk.lookup x.who=some (aE cs q.levels r):=λhm=>by have i:=h.isSome x.who;rw[hm] at i;have i':q.has.contains x.who=true:=i.symm;have l:=h.look x hxr (by simpa using i');rw[hm] at l;exact hc ⟨i',(aW l).symm⟩
   have a:(((rows.filter λt=>q.has.contains t.who&&aE cs q.levels t==aE cs q.levels r)).map (λx=>x.who)).contains x.who=false:=by simpa using m1
   have b:(z.lk.lookup x.who==some (aE cs q.levels r))=false:=by simpa using m2
   rw[a,b]
theorem Kh{z:Rl}{r:Row}{left:List Row}{x:Row}(h:x∈kY z r left):x∈left:=by
 unfold kY at h
 cases e:z.lk.lookup r.who with
 |none=>rw[e] at h;exact h
 |some y=>rw[e] at h;exact(bE.mp h).1
theorem MU{cs:List bw}{rows:List Row}(nd:(rows.map (·.who)).Nodup){r:Row}(hr:r∈rows){zs:List Rl}{qs:List fN}(h:jU cs rows zs qs):hidden cs qs rows r=jg zs rows r:=by
 unfold hidden hiddenBy seen jg;have key:∀(zs:List Rl)(qs:List fN)(left:List Row),jU cs rows zs qs->(∀x∈left,x∈rows)->
   (qs.map λq=>looks cs q.levels (rows.filter λr=>q.has.contains r.who)).foldl (λ(left:List Row) s=>match s.find? λx=>x.1.who==r.who with
    |none=>left
    |some y=>let group:=(aa7 s y.2).map λx=>x.who
     left.filter λx=>group.contains x.who) left=zs.foldl (λleft z=>kY z r left) left:=by
  intro zs qs left h
  induction h generalizing left with
  |nil=>intro _;rfl
  |cons h t ih=>intro hl;rw[bp,bI,bI,Kg nd h hr hl];exact ih _ λx hx=>hl x (Kh hx)
 exact key zs qs rows h λx hx=>hx
theorem S9{cs:List bw}{rows:List Row}{r:Row}{zs:List Rl}{qs:List fN}(h:jU cs rows zs qs):amb qs r=ask zs r:=by
 unfold amb ask;have key:∀(zs:List Rl)(qs:List fN)(a:Nat×Nat),jU cs rows zs qs->
   qs.foldl (λa q=>if q.has.contains r.who=true then(max a.1 q.alike,max a.2 q.unlike) else a) a=zs.foldl (λa z=>j9 z r a) a:=by
  intro zs qs a h
  induction h generalizing a with
  |nil=>rfl
  |cons h t ih=>
   rw[bI,bI];rename_i z q zs qs;have:(if(q.has.contains r.who)=true then(max a.1 q.alike,max a.2 q.unlike) else a)=j9 z r a:=by unfold j9;rw[h.isSome,h.k,h.u]
   rw[this];exact ih _
 exact key zs qs (0,0) h
def lP(zs:List Rl)(rows:List Row):Bool:=rows.all λr=>enough (ask zs r).1 (ask zs r).2 (jg zs rows r)
theorem all_congr{α:Type}{p q:α->Bool}:∀{l:List α},(∀x∈l,p x=q x)->l.all p=l.all q
 |[],_=>rfl
 |a::l,h=>by rw[dW,dW,h a (.head _),all_congr λx hx=>h x (.tail _ hx)]
theorem HX{cs:List bw}{rows:List Row}(nd:(rows.map (·.who)).Nodup){zs:List Rl}{qs:List fN}(h:jU cs rows zs qs):safe cs qs rows=lP zs rows:=by unfold safe lP;dsimp only;apply all_congr;intro r hr;rw[S9 h];have:=MU nd hr h;unfold hidden at this;rw[this]
theorem Ta{cs:List bw}{rows:List Row}{ls:List Nat}{k u:Nat}(nd:(rows.map (·.who)).Nodup):safe cs [cA cs rows ls k u] rows=true:=by
 rw[HX nd (.cons (oB nd) .nil)];unfold lP;rw[b0];intro r hr;unfold ask jg;show enough (j9 (ik cs rows ls k u) r (0,0)).1 (j9 (ik cs rows ls k u) r (0,0)).2 (kY (ik cs rows ls k u) r rows)=true;unfold j9 kY;have dI:=oB (cs:=cs) (ls:=ls) (k:=k) (u:=u) nd
 cases e:(ik cs rows ls k u).lk.lookup r.who with
 |none=>rw[if_neg (by simp)];unfold enough;simp
 |some y=>
  rw[if_pos (by simp)];have hs:=dI.isSome r.who;rw[e] at hs;have Fl:r.who∈(cA cs rows ls k u).has:=by simpa using hs.symm
  have hy:=dI.look r hr Fl;rw[e] at hy;cases hy;have hc:=(wq nd hr).mp Fl;unfold classOk at hc;have:(rows.filter λx=>(ik cs rows ls k u).lk.lookup x.who==some (aE cs (cA cs rows ls k u).levels r))=Vd (aE cs ls) rows (aE cs ls r):=by
   unfold Vd;apply gX;intro x hx;show((ik cs rows ls k u).lk.lookup x.who==some (aE cs ls r))=(aE cs ls x==aE cs ls r);by_cases hq:aE cs ls x=aE cs ls r
   ·have hx2:x.who∈(cA cs rows ls k u).has:=(wq nd hx).mpr (by unfold classOk;rw[hq];exact hc);have:=dI.look x hx hx2;rw[this];show(some (aE cs ls x)==some (aE cs ls r))=_;rw[hq];simp
   ·have a:¬(ik cs rows ls k u).lk.lookup x.who=some (aE cs ls r):=λhm=>by have i:=dI.isSome x.who;rw[hm] at i;have l:=dI.look x hx (by simpa using i.symm);rw[hm] at l;exact hq (aW l).symm
    have b:((ik cs rows ls k u).lk.lookup x.who==some (aE cs ls r))=false:=by simpa using a
    rw[b];symm;simpa using hq
  show enough (max 0 k) (max 0 u) (rows.filter λx=>(ik cs rows ls k u).lk.lookup x.who==some (aE cs (cA cs rows ls k u).levels r))=true;rw[this,ahm,ahm];exact hc
end Bm
namespace Bm
open Vbslai
def kD(found:List (List Nat))(p:Nat×Bool):List (List Nat):=found.flatMap λls=>(if p.2=true then bY p.1 else[p.1-1]).map λk=>ls++[k]
theorem O2:∀(l:List (bw×Bool))(found:List (List Nat)),(l.map λc=>(levels c.1.kind,c.2)).foldl kD found=found.flatMap λls=>(choices l).map λr=>ls++r
 |[],found=>by
  show found=found.flatMap λls=>[ls++[]]
  induction found with
  |nil=>rfl
  |cons a l ih=>rw[gY,dE];show a::l=a::_;rw[<-ih];rfl
 |c::l,found=>by
  rw[bp,bI,O2 l];unfold kD;rw[List.flatMap_assoc];congr 1;funext ls
  conv=>rhs;unfold choices
  dsimp only;rw[GA,Z2];congr 1;funext k;rw[aP];apply dc;intro r _;show ls++[k]++r=ls++(k::r);simp
theorem Xb(l:List (bw×Bool)):choices l=(l.map λc=>(levels c.1.kind,c.2)).foldl kD [[]]:=by rw[O2];show choices l=(choices l).map (λr=>[]++r)++[];simp
theorem sd(k:Kind):2<=levels k:=by
 unfold levels
 cases k with
 |numbers s=>exact xX _ _
 |words u=>exact xX _ _
theorem Ds:∀(l:List (bw×Bool))(ls:List Nat),ls∈choices l->ls.length=l.length/\∀(i:Nat)(c:bw×Bool)(k:Nat),l[i]? =some c->ls[i]? =some k->k<levels c.1.kind
 |[],ls,h=>by
  have:ls=[]:=by simpa[choices] using h
  subst this;exact⟨rfl,λi c k h=>by simp at h⟩
 |c::l,ls,h=>by
  unfold choices at h;dsimp only at h;rw[jz] at h;obtain⟨k,hk,h⟩:=h;obtain⟨r,hr,rfl⟩:=aq.mp h;obtain⟨h1,h2⟩:=Ds l r hr;refine⟨by rw[aV,aV,h1],λi d j hi hj=>?_⟩
  cases i with
  |zero=>
   have e1:c=d:=by simpa using hi
   have e2:k=j:=by simpa using hj
   subst e1 e2;split at hk
   ·exact kU.mp hk
   ·have:=sd c.1.kind;have:k=levels c.1.kind-1:=by simpa using hk
    omega
  |succ i=>exact h2 i d j (by simpa using hi) (by simpa using hj)
def wK:List Nat->List Nat->Bool
 |_,[]=>false
 |[],_::_=>true
 |a::r,b::s=>decide (a<b)||(a==b&&wK r s)
theorem Dt:∀{a b:List Nat},wK a b=true->wK b a=false
 |[],[],_=>rfl
 |[],_::_,_=>rfl
 |_::_,[],h=>by simp[wK] at h
 |x::a,y::b,h=>by
  simp only[wK,g8,decide_eq_true_eq,aK,beq_iff_eq] at h;rcases h with h|⟨h1,h2⟩
  ·have e1:decide (y<x)=false:=by simp;omega
   have e2:(y==x)=false:=by simp;omega
   simp[wK,e1,e2]
  ·subst h1;simp[wK,Dt h2]
theorem G7{α β:Type}{f:α->List β}{R:β->β->Prop}:∀{l:List α},(∀x∈l,(f x).Pairwise R)->l.Pairwise (λx y=>∀a∈f x,∀b∈f y,R a b)->(l.flatMap f).Pairwise R
 |[],_,_=>by simp
 |a::l,h1,h2=>by rw[fL] at h2;rw[gY,List.pairwise_append];refine⟨h1 a (.head _),G7 (λx hx=>h1 x (.tail _ hx)) h2.2,λx hx y hy=>?_⟩;obtain⟨b,hb,hm⟩:=jz.mp hy;exact h2.1 b hb x hx y hm
theorem u4:∀l:List (bw×Bool),(choices l).Pairwise λa b=>wK a b=true
 |[]=>by simp[choices]
 |c::l=>by
  unfold choices;dsimp only;refine G7 (λk _=>?_) ?_
  ·rw[Fb];refine(u4 l).imp λ{a b} h=>?_;simp[wK,h]
  ·have hr:(if c.2=true then bY (levels c.1.kind) else[levels c.1.kind-1]).Pairwise (· <·):=by
    split
    ·exact List.pairwise_lt_range
    ·simp
   refine hr.imp λ{a b} h x hx y hy=>?_;obtain⟨r,_,rfl⟩:=aq.mp hx;obtain⟨s,_,rfl⟩:=aq.mp hy;simp[wK,h]
def pick(a:aeB)(l:List aeB):aeB:=l.foldl (λb x=>if better x b=true then x else b) a
theorem Du(a b:aeB):better a b=true↔a.cost<b.cost∨(a.cost=b.cost/\a.release.out.length<b.release.out.length):=by unfold better;simp
theorem Tc(a b:aeB)(l:List aeB):best (a::b::l)=best ((if better b a=true then b else a)::l):=by
 show(match best (b::l) with|none=>some a|some x=>if better x a=true then some x else some a)=_;have e1:best (b::l)=(match best l with|none=>some b|some x=>if better x b=true then some x else some b):=rfl;have e2:∀z:aeB,best (z::l)=(match best l with|none=>some z|some x=>if better x z=true then some x else some z):=λz=>rfl;rw[e1,e2]
 cases best l with
 |none=>show(if better b a=true then some b else some a)=some (if better b a=true then b else a);split<;>rfl
 |some c=>
  dsimp only;by_cases h1:better c b=true
  ·rw[if_pos h1];dsimp only;by_cases h2:better b a=true
   ·rw[if_pos h2,if_pos h1,if_pos];rw[Du] at*;omega
   ·rw[if_neg h2]
  ·rw[if_neg h1];dsimp only;by_cases h2:better b a=true
   ·rw[if_pos h2,if_pos h2,if_neg h1]
   ·rw[if_neg h2,if_neg h2,if_neg];rw[Du] at*;omega
theorem G8:∀(l:List aeB)(a:aeB),best (a::l)=some (pick a l)
 |[],a=>rfl
 |b::l,a=>by rw[Tc,G8 l];rfl
theorem se:∀l,uz l l=false
 |[]=>rfl
 |a::l=>by simp[uz,se l]
theorem BC:∀{a b c:aG},uz a b=true->uz b c=true->uz a c=true
 |_,[],_,h,_=>by cases‹aG›<;>simp[uz] at h
 |_,_::_,[],_,h=>by simp[uz] at h
 |[],_::_,_::_,_,_=>rfl
 |x::a,y::b,z::c,h1,h2=>by
  simp only[uz,g8,decide_eq_true_eq,aK,beq_iff_eq] at*;rcases h1 with h1|⟨e1,h1⟩
  ·rcases h2 with h2|⟨e2,h2⟩
   ·left;omega
   ·left;omega
  ·rcases h2 with h2|⟨e2,h2⟩
   ·left;omega
   ·right;exact⟨by omega,BC h1 h2⟩
theorem u5:∀{a b:aG},a≠b->uz a b=false->uz b a=true
 |[],[],h,_=>absurd rfl h
 |[],_::_,_,h=>by simp[uz] at h
 |_::_,[],_,_=>rfl
 |x::a,y::b,h,hl=>by
  simp only[uz,UX,decide_eq_false_iff_not,gE,g8,decide_eq_true_eq,aK,beq_iff_eq] at*;obtain⟨h1,h2⟩:=hl;by_cases e:x=y
  ·subst e;right;refine⟨rfl,u5 (λq=>h (by rw[q])) ?_⟩;rcases h2 with h2|h2
   ·simp at h2
   ·exact h2
  ·left;omega
theorem sf:∀l,gk l l=false
 |[]=>rfl
 |a::l=>by simp[gk,se,sf l]
theorem u6:∀{a b c:List aG},gk a b=true->gk b c=true->gk a c=true
 |_,[],_,h,_=>by cases‹List aG›<;>simp[gk] at h
 |_,_::_,[],_,h=>by simp[gk] at h
 |[],_::_,_::_,_,_=>rfl
 |x::a,y::b,z::c,h1,h2=>by
  simp only[gk,g8,aK,beq_iff_eq] at*;rcases h1 with h1|⟨e1,h1⟩
  ·rcases h2 with h2|⟨e2,h2⟩
   ·left;exact BC h1 h2
   ·left;rw[<-e2];exact h1
  ·rcases h2 with h2|⟨e2,h2⟩
   ·left;rw[e1];exact h2
   ·right;exact⟨e1.trans e2,u6 h1 h2⟩
theorem u7:∀{a b:List aG},a≠b->gk a b=false->gk b a=true
 |[],[],h,_=>absurd rfl h
 |[],_::_,_,h=>by simp[gk] at h
 |_::_,[],_,_=>rfl
 |x::a,y::b,h,hl=>by
  simp only[gk,UX,gE,g8,aK,beq_iff_eq] at*;obtain⟨h1,h2⟩:=hl;by_cases e:x=y
  ·subst e;right;refine⟨rfl,u7 (λq=>h (by rw[q])) ?_⟩;rcases h2 with h2|h2
   ·simp at h2
   ·exact h2
  ·left;exact u5 e h1
abbrev md(l:List (List aG)):Prop:=l.Pairwise λa b=>gk a b=true
theorem si{x:List aG}:∀{l:List (List aG)}{y:List aG},y∈wH x l↔y=x∨y∈l
 |[],y=>by simp[wH]
 |a::l,y=>by
  unfold wH;by_cases h:x=a
  ·rw[if_pos h];subst h;simp
  ·rw[if_neg h];by_cases h2:gk x a=true
   ·rw[if_pos h2];simp
   ·rw[if_neg h2,aA,si,aA];constructor
    ·rintro(q|q|q)
     ·exact .inr (.inl q)
     ·exact .inl q
     ·exact .inr (.inr q)
    ·rintro(q|q|q)
     ·exact .inr (.inl q)
     ·exact .inl q
     ·exact .inr (.inr q)
theorem tu{x:List aG}:∀{l:List (List aG)},md l->md (wH x l)
 |[],_=>by simp[wH,md]
 |a::l,h=>by
  have h':=fL.mp h;unfold wH;by_cases h1:x=a
  ·rw[if_pos h1];exact h
  ·rw[if_neg h1];by_cases h2:gk x a=true
   ·rw[if_pos h2];refine fL.mpr ⟨λy hy=>?_,h⟩;rcases aA.mp hy with q|q
    ·rw[q];exact h2
    ·exact u6 h2 (h'.1 y q)
   ·rw[if_neg h2];refine fL.mpr ⟨λy hy=>?_,tu h'.2⟩;rcases si.mp hy with q|q
    ·rw[q];exact u7 h1 (by simpa using h2)
    ·exact h'.1 y q
theorem Dv:∀(xs l:List (List aG)),md l->md (xs.foldl (λl x=>wH x l) l)/\∀y,y∈xs.foldl (λl x=>wH x l) l↔y∈l∨y∈xs
 |[],l,h=>⟨h,λy=>by simp⟩
 |a::xs,l,h=>by
  obtain⟨h1,h2⟩:=Dv xs (wH a l) (tu h);refine⟨h1,λy=>?_⟩;rw[bI,h2,si,aA];constructor
  ·rintro((q|q)|q)
   ·exact .inr (.inl q)
   ·exact .inl q
   ·exact .inr (.inr q)
  ·rintro(q|q|q)
   ·exact .inl (.inr q)
   ·exact .inl (.inl q)
   ·exact .inr q
theorem Dx:∀{l m:List (List aG)},md l->md m->(∀x,x∈l↔x∈m)->l=m
 |[],[],_,_,_=>rfl
 |[],b::m,_,_,h=>by have:=(h b).mpr (.head _);cases this
 |a::l,[],_,_,h=>by have:=(h a).mp (.head _);cases this
 |a::l,b::m,h1,h2,h=>by
  have p1:=fL.mp h1;have p2:=fL.mp h2;have e:a=b:=by
   rcases aA.mp ((h a).mp (.head _)) with q|q
   ·exact q
   ·rcases aA.mp ((h b).mpr (.head _)) with z|z
    ·exact z.symm
    ·have:=u6 (p2.1 a q) (p1.1 b z);rw[sf] at this;cases this
  subst e;refine congrArg (a::·) (Dx p1.2 p2.2 λx=>?_);have nl:∀{l:List (List aG)},(∀y∈l,gk a y=true)->¬a∈l:=λhy hm=>by
   have:=hy a hm;rw[sf] at this;cases this
  constructor
  ·intro hx;rcases aA.mp ((h x).mp (.tail _ hx)) with q|q
   ·exact absurd (by rw[<-q];exact hx) (nl p1.1)
   ·exact q
  ·intro hx;rcases aA.mp ((h x).mpr (.tail _ hx)) with q|q
   ·exact absurd (by rw[<-q];exact hx) (nl p2.1)
   ·exact q
theorem MV(cs:List bw)(q:fN)(rows:List Row){ys:List (List aG)}(hs:md ys)(hm:∀y,y∈ys↔∃r∈rows,q.has.contains r.who=true/\aE cs q.levels r=y):GB cs q rows=ys:=by
 obtain⟨h1,h2⟩:=Dv ((rows.filter λr=>q.has.contains r.who).map λr=>aE cs q.levels r) [] (by simp);refine Dx h1 hs λx=>?_;show x∈List.foldl _ _ _↔_;rw[h2,hm];constructor
 ·rintro(h|h)
  ·cases h
  ·obtain⟨r,hr,e⟩:=aq.mp h;rw[bE] at hr;exact⟨r,hr.1,hr.2,e⟩
 ·rintro⟨r,hr,hh,e⟩;exact .inr (aq.mpr ⟨r,bE.mpr ⟨hr,hh⟩,e⟩)
theorem Dy:∀a b:aG,uz a b=decide (a<b)
 |_,[]=>by cases‹aG›<;>simp[uz]
 |[],_::_=>by simp[uz]
 |x::a,y::b=>by
  have ih:=Dy a b;unfold uz;rw[ih];by_cases h:x<y
  ·simp[h,y8]
  ·by_cases e:x=y
   ·subst e;simp[y8]
   ·simp[h,e,y8]
end Bm
namespace Bm
open Vbslai
def Td(k:Kind):Prop:=match k with
 |.numbers s=>s.length<=2/\∀x∈s,2<=x/\x<=1000000
 |.words up=>l8 up
structure O3(c:bw):Prop where
 nm:dN c.name=true
 kd:Td c.kind
 ct:c.costs=[]∨(c.costs.length=levels c.kind/\(∀x∈c.costs,x<=10000)/\filled c.kind=true)
structure Fo(f:dY):Prop where
 cols:∀c∈f.columns,O3 c
 ini:∀c∈f.columns.dropLast,c.costs≠[]
 len:f.columns.length<=4
 sec:(f.secret=[]/\f.values=[])∨(dN f.secret=true/\2<=f.values.length/\f.values.length<=12/\f.values.all dN=true)
theorem Fo.start:Fo {}:=⟨λc h=>(nomatch h),λc h=>(nomatch h),bB _,.inl ⟨rfl,rfl⟩⟩
def Open(f:dY)(cs:List bw)(c:bw):Prop:=f.columns=cs++[c]/\c.costs=[]
theorem jk{f:dY}:settled f=true↔∀c∈f.columns,c.costs≠[]:=by
 unfold settled;rw[b0];constructor
 ·intro h c hc;have:=h c hc;simpa using this
 ·intro h c hc;have:=h c hc;simpa using this
theorem hU{f:dY}{cs:List bw}{c:bw}(h:Open f cs c):settled f=false:=by
 cases e:settled f with
 |false=>rfl
 |true=>rw[jk] at e;exact absurd h.2 (e c (by rw[h.1];simp))
theorem Fo.V2{f:dY}(w:Fo f):settled f=true∨∃cs c,Open f cs c:=by
 by_cases h:f.columns=[]
 ·left;rw[jk,h];intro c hc;cases hc
 ·have e:=List.dropLast_concat_getLast h;by_cases q:(f.columns.getLast h).costs=[]
  ·right;exact⟨f.columns.dropLast,f.columns.getLast h,e.symm,q⟩
  ·left;rw[jk];intro c hc;rw[<-e] at hc;rcases aD.mp hc with z|z
   ·exact w.ini c z
   ·rw[bX.mp z];exact q
def kl(f:dY)(l:List aG):Option dY:=if begins l=true/\settled f=false then none else jM f l
theorem xw(i:Nat)(f:dY)(l:aG)(r:List aG):mK i f (l::r)=if(wordsOf l).isEmpty=true then mK (i+1) f r else match kl f (wordsOf l) with
  |some g=>mK (i+1) g r
  |none=>.error i:=by
 conv=>lhs;unfold mK
 unfold kl;split
 ·rfl
 ·split
  ·rfl
  ·rfl
theorem Dz{f:dY}{cs:List bw}{c:bw}(h:Open f cs c){a:aG}{rest:List aG}(h1:a≠text "word")(h2:a≠text "costs"):kl f (a::rest)=none:=by
 unfold kl;rw[hU h];by_cases b:begins (a::rest)=true
 ·rw[if_pos ⟨b,rfl⟩]
 ·rw[if_neg (λq=>b q.1)];have nb:¬a=text "numbers"/\¬a=text "words"/\¬a=text "secret":=by unfold begins at b;simp only[g8,decide_eq_true_eq,not_or] at b;exact b
  exact ye f a rest nb.1 nb.2.1 h1 h2 nb.2.2
theorem sj{f:dY}(rest:List aG):kl f (text "word"::rest)=jM f (text "word"::rest):=by unfold kl;rw[if_neg (by intro q;exact absurd q.1 (by show¬begins (text "word"::rest)=true;unfold begins;dsimp only;decide))]
theorem BD{f:dY}(rest:List aG):kl f (text "costs"::rest)=jM f (text "costs"::rest):=by unfold kl;rw[if_neg (by intro q;exact absurd q.1 (by show¬begins (text "costs"::rest)=true;unfold begins;dsimp only;decide))]
theorem fO{f:dY}(h:settled f=true)(l:List aG):kl f l=jM f l:=by unfold kl;rw[if_neg (by rw[h];intro q;exact absurd q.2 (by simp))]
theorem pW{f:dY}(w:Fo f)(h:settled f=true)(rest:List aG):jM f (text "word"::rest)=none:=by
 cases rest with
 |nil=>rfl
 |cons n rest=>
  unfold jM;dsimp only;rw[if_neg (by decide),if_neg (by decide),if_pos rfl]
  cases e:f.columns.getLast? with
  |none=>rfl
  |some c=>
   have hc:c∈f.columns:=UY e;have:=(jk.mp h) c hc;dsimp only
   cases c.kind with
   |numbers s=>rfl
   |words up=>dsimp only;rw[if_neg (λq=>this q.1)]
theorem oX{f:dY}(h:settled f=true)(rest:List aG):jM f (text "costs"::rest)=none:=by
 cases rest with
 |nil=>rfl
 |cons n rest=>
  unfold jM;dsimp only;rw[if_neg (by decide),if_neg (by decide),if_neg (by decide),if_pos rfl]
  cases e:f.columns.getLast? with
  |none=>rfl
  |some c=>have hc:c∈f.columns:=UY e;have:=(jk.mp h) c hc;dsimp only;rw[if_neg this]
theorem Fo.snoc{f:dY}(w:Fo f)(hs:settled f=true)(hl:f.columns.length<4){c:bw}(hc:O3 c):Fo {f with columns:=f.columns++[c]} where
 cols:=λd hd=>by
  rcases aD.mp hd with q|q
  ·exact w.cols d q
  ·rw[bX.mp q];exact hc
 ini:=λd hd=>by have P6:d∈(f.columns++[c]).dropLast:=hd;rw[ja] at P6;exact(jk.mp hs) d P6
 len:=by show(f.columns++[c]).length<=4;rw[aO];exact hl
 sec:=w.sec
theorem Fo.last{f:dY}(w:Fo f){cs:List bw}{c d:bw}(e:f.columns=cs++[c])(hd:O3 d):Fo {f with columns:=cs++[d]} where
 cols:=λx hx=>by
  rcases aD.mp hx with q|q
  ·exact w.cols x (by rw[e];exact d6 _ q)
  ·rw[bX.mp q];exact hd
 ini:=λx hx=>by have YD:x∈(cs++[d]).dropLast:=hx;rw[ja] at YD;exact w.ini x (by rw[e,ja];exact YD)
 len:=by show(cs++[d]).length<=4;have:=w.len;rw[e] at this;simpa using this
 sec:=w.sec
theorem HY{lo hi:Nat}{w:aG}(h:fq lo hi w=true):lo<=value w/\value w<=hi:=by unfold fq at h;simp only[aK,decide_eq_true_eq] at h;exact h.2.2
theorem yi{lo hi:Nat}{ws:List aG}(h:ws.all (fq lo hi)=true):∀x∈ws.map value,lo<=x/\x<=hi:=λx hx=>by obtain⟨w,hw,e⟩:=aq.mp hx;rw[<-e];exact HY (b0.mp h w hw)
theorem Ki{up:Up}(ok:l8 up){n:aG}{rest:List aG}{x:aG×Option aG}(nm:dN n=true)(hl:up.length<30)(hn:¬n∈up.map (·.1))(h:l9 up n rest=some x):l8 (up++[x]):=by
 unfold l9 at h;split at h
 ·cases h;exact ok.none hn nm hl
 ·split at h
  ·rename_i q;cases h;exact ok.some hn nm hl q.2.1 q.2.2
  ·cases h
 ·cases h
theorem Fo.step{f g:dY}(w:Fo f){l:List aG}(h:kl f l=some g):Fo g:=by
 rcases w.V2 with hs|⟨cs,c,ho⟩
 ·rw[fO hs] at h
  match l,h with
  |[],h=>cases h
  |[a],h=>cases h
  |a::n::rest,h=>
   by_cases h1:a=text "numbers"
   ·subst h1;rw[zl] at h;split at h
    ·rename_i q;cases h;simp only[aK,decide_eq_true_eq] at q;refine w.snoc hs q.2.2.2.1 ⟨?_,⟨by rw[aa];exact q.1,yi q.2.1⟩,.inl rfl⟩;have:=q.2.2.2.2;unfold newName at this;rw[aK] at this;exact this.1
    ·cases h
   ·by_cases h2:a=text "words"
    ·subst h2;rw[yd] at h;split at h
     ·rename_i q;cases h;simp only[aK,decide_eq_true_eq] at q;refine w.snoc hs q.2.1 ⟨?_,l8.nil,.inl rfl⟩;have:=q.2.2;unfold newName at this;rw[aK] at this;exact this.1
     ·cases h
    ·by_cases h3:a=text "word"
     ·subst h3;rw[pW w hs] at h;cases h
     ·by_cases h4:a=text "costs"
      ·subst h4;rw[oX hs] at h;cases h
      ·by_cases h5:a=text "secret"
       ·subst h5;rw[pV] at h;split at h
        ·rename_i q;cases h;simp only[aK,decide_eq_true_eq] at q;have hn:=q.2.2.2.1;unfold newName at hn;rw[aK] at hn;exact⟨w.cols,w.ini,w.len,.inr ⟨hn.1,q.2.1,q.2.2.1,q.2.2.2.2.1⟩⟩
        ·cases h
       ·rw[ye f a (n::rest) h1 h2 h3 h4 h5] at h;cases h
 ·match l,h with
  |[],h=>
   unfold kl at h;split at h<;>cases h
  |a::rest,h=>
   by_cases h3:a=text "word"
   ·subst h3;rw[sj] at h
    match rest,h with
    |[],h=>cases h
    |n::rest,h=>
     cases hk:c.kind with
     |numbers s=>rw[xr ho.1 hk] at h;cases h
     |words up=>
      rw[G5 ho.1 hk ho.2] at h;split at h
      ·rename_i q;simp only[aK,decide_eq_true_eq,jd] at q
       cases e:l9 up n rest with
       |none=>rw[e] at h;cases h
       |some x=>
        rw[e] at h;cases h;have cw:=w.cols c (by rw[ho.1];simp);have uo:l8 up:=by have:=cw.kd;rw[hk] at this;exact this
        exact w.last ho.1 ⟨cw.nm,Ki uo q.1 q.2.1 (by simpa using q.2.2) e,.inl ho.2⟩
      ·cases h
   ·by_cases h4:a=text "costs"
    ·subst h4;rw[BD,Dn ho.1 ho.2] at h;split at h
     ·rename_i q;cases h;simp only[aK,decide_eq_true_eq] at q;have cw:=w.cols c (by rw[ho.1];simp);exact w.last ho.1 ⟨cw.nm,cw.kd,.inr ⟨by rw[aa];exact q.2.1,λx hx=>(yi q.2.2.1 x hx).2,q.1⟩⟩
     ·cases h
    ·rw[Dz ho h3 h4] at h;cases h
structure O4(c:bw):Prop where
 nm:dN c.name=true
 kd:Td c.kind
 cl:c.costs.length=levels c.kind
 cb:∀x∈c.costs,x<=10000
 fl:filled c.kind=true
structure iy(f:dY):Prop where
 cols:∀c∈f.columns,O4 c
 ne:f.columns≠[]
 len:f.columns.length<=4
 sec:dN f.secret=true
 v2:2<=f.values.length
 v12:f.values.length<=12
 vn:f.values.all dN=true
theorem u9:∀(r:List aG)(i:Nat)(f g:dY),Fo f->mK i f r=.ok g->iy g
 |[],i,f,g,w,h=>by
  unfold mK at h;split at h
  ·rename_i q;cases h;have hs:=jk.mp q.2.1;rcases w.sec with z|z
   ·exact absurd z.1 q.2.2
   ·refine⟨λc hc=>?_,by simpa using q.1,w.len,z.1,z.2.1,z.2.2.1,z.2.2.2⟩;have cw:=w.cols c hc;rcases cw.ct with y|y
    ·exact absurd y (hs c hc)
    ·exact⟨cw.nm,cw.kd,y.1,y.2.1,y.2.2⟩
  ·cases h
 |l::r,i,f,g,w,h=>by
  rw[xw] at h;split at h
  ·exact u9 r _ f g w h
  ·cases e:kl f (wordsOf l) with
   |none=>rw[e] at h;cases h
   |some k=>rw[e] at h;exact u9 r _ k g (w.step e) h
theorem Kj{t:aG}{f:dY}(h:rS t=.ok f):iy f:=u9 _ _ _ _ Fo.start h
end Bm
namespace Bm
open Vbslai
def Te(k:Kind)(v:Nat):Prop:=match k with
 |.numbers _=>v<=1000000
 |.words up=>v<up.length
def yj(cs:List bw)(l:List Nat):Prop:=l.length=cs.length/\∀(i:Nat)(c:bw)(v:Nat),cs[i]? =some c->l[i]? =some v->Te c.kind v
def kZ(cs:List bw)(l:List Nat):Prop:=l.length=cs.length/\∀(i:Nat)(c:bw)(v:Nat),cs[i]? =some c->l[i]? =some v->v<levels c.kind
theorem h9{x lo hi:Int}:within x lo hi=true↔lo<=x/\x<=hi:=by unfold within;simp
theorem wt:∀{l:List Int},(∀x∈l,0<=x)->l=(nats l).map λ(n:Nat)=>(n:Int)
 |[],_=>rfl
 |a::l,h=>by show a::l=((a.toNat:Nat):Int)::(nats l).map λ(n:Nat)=>(n:Int);rw[<-wt λx hx=>h x (.tail _ hx)];have:=h a (.head _);congr 1;omega
theorem CP{cs:List bw}{l:List Int}{p:bw×Int->Bool}(hl:l.length=cs.length)(h:(cs.zip l).all p=true)(i:Nat)(c:bw)(v:Int)(hc:cs[i]? =some c)(hv:l[i]? =some v):p (c,v)=true:=by
 refine b0.mp h (c,v) ?_;have:(cs.zip l)[i]? =some (c,v):=by rw[c8];exact⟨hc,hv⟩
 exact aL this
theorem Kk{l:List Int}{i v:Nat}(h:(nats l)[i]? =some v):∃x,l[i]? =some x/\v=x.toNat:=by
 unfold nats at h;rw[aU] at h
 cases e:l[i]? with
 |none=>rw[e] at h;cases h
 |some x=>rw[e] at h;exact⟨x,rfl,(aW h).symm⟩
theorem Tf{cs:List bw}{l:List Int}(h:Mv cs l=true):yj cs (nats l)/\l=(nats l).map λ(n:Nat)=>(n:Int):=by
 unfold Mv at h;rw[aK] at h;have hl:l.length=cs.length:=by simpa using h.1
 have pos:∀x∈l,0<=x:=λx hx=>by
  obtain⟨i,hi,e⟩:=jt hx;have hc:cs[i]? =some cs[i]:=au (by omega);have hv:l[i]? =some x:=by rw[au hi,e]
  have:=CP hl h.2 i cs[i] x hc hv;unfold cellOk at this;dsimp only at this;split at this
  ·exact(h9.mp this).1
  ·exact(h9.mp this).1
 refine⟨⟨by unfold nats;rw[aa];exact hl,λi c v hc hv=>?_⟩,wt pos⟩;obtain⟨x,hx,rfl⟩:=Kk hv;have:=CP hl h.2 i c x hc hx;unfold cellOk at this;unfold Te;dsimp only at this
 revert this
 cases c.kind with
 |numbers s=>intro this;have:=h9.mp this;have h2:x<=1000000:=this.2;show x.toNat<=1000000;omega
 |words up=>intro this;have:=h9.mp this;show x.toNat<up.length;omega
theorem wu{cs:List bw}{l:List Int}(h:Fz cs l=true):kZ cs (nats l)/\l=(nats l).map λ(n:Nat)=>(n:Int):=by
 unfold Fz at h;rw[aK] at h;have hl:l.length=cs.length:=by simpa using h.1
 have pos:∀x∈l,0<=x:=λx hx=>by
  obtain⟨i,hi,e⟩:=jt hx;have hc:cs[i]? =some cs[i]:=au (by omega);have hv:l[i]? =some x:=by rw[au hi,e]
  exact(h9.mp (CP hl h.2 i cs[i] x hc hv)).1
 refine⟨⟨by unfold nats;rw[aa];exact hl,λi c v hc hv=>?_⟩,wt pos⟩;obtain⟨x,hx,rfl⟩:=Kk hv;have:=h9.mp (CP hl h.2 i c x hc hx);dsimp only at this;omega
theorem tw{l:List (bw×Bool)}{ls:List Nat}(h:ls∈choices l):kZ (l.map (·.1)) ls:=by
 obtain⟨h1,h2⟩:=Ds l ls h;refine⟨by rw[aa];exact h1,λi c v hc hv=>?_⟩;rw[aU] at hc
 cases e:l[i]? with
 |none=>rw[e] at hc;cases hc
 |some x=>
  rw[e] at hc;cases hc;exact h2 i x v e hv
theorem me{cs:List bw}{ls:List Nat}{r:Row}(h1:ls.length=cs.length)(h2:r.cells.length=cs.length):(aE cs ls r).length=cs.length:=by unfold aE;rw[aa,eD,eD];omega
theorem QE(cs:List bw)(ls:List Nat):iO cs ls=((cs.zip ls).map λx=>x.1.costs.getD x.2 0).sum:=by
 unfold iO;have:∀(l:List Nat)(a:Nat),l.foldl (λa b=>a+b) a=a+l.sum:=by
  intro l
  induction l with
  |nil=>intro a;simp
  |cons x r ih=>intro a;rw[bI,ih,B5];omega
 rw[this];simp
end Bm
namespace Bm
open Vbslai
theorem n4:∀(l:List Nat)(m b:Nat),m<=b->(∀x∈l,x<=b)->l.foldl max m<=b
 |[],m,b,h,_=>h
 |a::l,m,b,h,k=>n4 l _ b (by rw[aiW];split;exact k a (.head _);exact h) (λx hx=>k x (.tail _ hx))
theorem pX{c:bw}(h:O4 c):levels c.kind<=4:=by
 have kd:=h.kd
 cases e:c.kind with
 |numbers s=>rw[e] at kd;have:=kd.1;show s.length+2<=4;omega
 |words up=>rw[e] at kd;have ok:l8 up:=kd;show height up+2<=4;have:height up<=2:=n4 _ 0 2 (bB _) (λx hx=>by obtain⟨y,hy,rfl⟩:=aq.mp hx;exact ok.sh y hy);omega
def zq(n:Nat)(b:Bool):List Nat:=if b=true then bY n else[n-1]
theorem Tg{n:Nat}(hn:1<=n)(b:Bool):zq n b=(bY (n-(if b=true then 0 else n-1))).map λj=>(if b=true then 0 else n-1)+j:=by
 unfold zq
 cases b with
 |true=>simp
 |false=>
  have:n-(n-1)=1:=by omega
  simp[this]
theorem G9{n:Nat}(hn:1<=n)(h4:n<=4)(b:Bool):(zq n b).length<=4:=by
 unfold zq;split
 ·rw[dU];exact h4
 ·simp
theorem AN(found:List (List Nat))(p:Nat×Bool):kD found p=found.flatMap λls=>(zq p.1 p.2).map λk=>ls++[k]:=rfl
theorem yk{p:Nat×Bool}(h1:1<=p.1)(h4:p.1<=4):∀found:List (List Nat),(kD found p).length<=4*found.length
 |[]=>by simp[kD]
 |a::l=>by have:=yk h1 h4 l;rw[AN] at this⊢;rw[gY,aO,aa];have h:=G9 h1 h4 p.2;rw[aV];omega
theorem MW:∀(pq:List (Nat×Bool))(found:List (List Nat)),(∀p∈pq,1<=p.1/\p.1<=4)->(pq.foldl kD found).length<=found.length*4^pq.length
 |[],found,_=>by simp
 |p::pq,found,h=>by
  rw[bI,aV];have h1:=MW pq (kD found p) (λq hq=>h q (.tail _ hq));have h2:=yk (h p (.head _)).1 (h p (.head _)).2 found;have h3:(kD found p).length*4^pq.length<=4*found.length*4^pq.length:=d7 _ h2;rw[ahk];have e:found.length*(4^pq.length*4)=4*found.length*4^pq.length:=by rw[Rv (4^pq.length) 4,<-aev,Rv found.length 4]
  omega
theorem Th:∀(pq:List (Nat×Bool))(found:List (List Nat))(c:Nat),(∀ls∈found,ls.length<=c)->∀ls∈pq.foldl kD found,ls.length<=c+pq.length
 |[],found,c,h,ls,hm=>h ls hm
 |p::pq,found,c,h,ls,hm=>by rw[bI] at hm;have:=Th pq (kD found p) (c+1) (λms hms=>by rw[AN] at hms;obtain⟨x,hx,hm⟩:=jz.mp hms;obtain⟨k,hk,rfl⟩:=aq.mp hm;rw[aO];have:=h x hx;simp;omega) ls hm;rw[aV];omega
end Bm
namespace Bp
open PySem PySem.Spec PyProof.Rows L2
section
variable(P:bo)(w:bM)(K:ah)(mg:Str->Option aj)(base:cu)
structure Raw(x qual:Str)(st:cy)(ps:List Str):Prop where
 ex:∃(f:af)(fd:je),VX K x qual st f fd/\mg x=some (.ref f)/\Binds K fd ps []
structure iQ(C:af)(m qual:Str)(st:cy)(ps:List Str):Prop where
 ex:∃(f:af)(fd:je),VX K m qual st f fd/\Meth K C m f/\Binds K fd ps []
structure AO(c:Str)(C:af)(qual:Str)(st:cy)(ps:List Str):Prop where
 ex:∃(f:af)(fd:je),VX K "__init__" qual st f fd/\Mk K C f/\Binds K fd ps []/\mg c=some (.ref C)
structure Def(x:Str)(k:Nat)(ps:List Str)(sp:Sp):Prop where
 ex:∃(f:af)(fd:je),wI P w K mg base SS k f fd ps sp/\mg x=some (.ref f)/\kW K (.ref f)=true/\Binds K fd ps []
structure iR(C:af)(m:Str)(k:Nat)(ps:List Str)(sp:Sp):Prop where
 ex:∃(f:af)(fd:je),wI P w K mg base SS k f fd ps sp/\Meth K C m f/\Binds K fd ps []
structure DA(c:Str)(C:af)(k:Nat)(ps:List Str)(sp:Sp):Prop where
 ex:∃(f:af)(fd:je),wI P w K mg base SS k f fd ps sp/\Mk K C f/\Binds K fd ps []/\mg c=some (.ref C)
end
section
variable{P:bo}{w:bM}{K:ah}{mg:Str->Option aj}{base:cu}
abbrev Body(P:bo)(w:bM)(K:ah)(mg:Str->Option aj)(base:cu)(qual:Str)(st:cy)(N:List Str)(k:Nat)(sp:Sp):Prop:=
 ∀(f:af)(eC:aj)(A:cp)(outer:List Env)(s:ay)(H:Hp)(vs:List V)(Q:VK)(E:XK),jf k (A.deeper (xV qual (aN st) s.heap.objs.size f eC))->sp vs H Q E->
  ∃t,Mx (FI SS P w K mg base N qual (aN st) f eC A outer s H E).Vv (jl st) t/\t {nx:=λ_ H'=>Q .gT H',rt:=Q} (start N vs) H
theorem Raw.ok{x qual:Str}{st:cy}{N ps:List Str}{k:Nat}{sp:Sp}(R:Raw K mg x qual st ps)(S:bf N ps (aN st))(len:∀vs H Q E,sp vs H Q E->vs.length=ps.length)(hb:Body P w K mg base qual st N k sp):Def P w K mg base x (k+1) ps sp:=by obtain⟨f,fd,F,m,b⟩:=R.ex;exact⟨f,fd,F.ok S len (λeC A outer s H vs Q E hr h=>hb f eC A outer s H vs Q E hr h),m,F.kp,b⟩
theorem iQ.ok{C:af}{x qual:Str}{st:cy}{N ps:List Str}{k:Nat}{sp:Sp}(R:iQ K C x qual st ps)(S:bf N ps (aN st))(len:∀vs H Q E,sp vs H Q E->vs.length=ps.length)(hb:Body P w K mg base qual st N k sp):iR P w K mg base C x (k+1) ps sp:=by obtain⟨f,fd,F,m,b⟩:=R.ex;exact⟨f,fd,F.ok S len (λeC A outer s H vs Q E hr h=>hb f eC A outer s H vs Q E hr h),m,b⟩
theorem AO.ok{C:af}{x qual:Str}{st:cy}{N ps:List Str}{k:Nat}{sp:Sp}(R:AO K mg x C qual st ps)(S:bf N ps (aN st))(len:∀vs H Q E,sp vs H Q E->vs.length=ps.length)(hb:Body P w K mg base qual st N k sp):DA P w K mg base x C (k+1) ps sp:=by obtain⟨f,fd,F,m,b,g⟩:=R.ex;exact⟨f,fd,F.ok S len (λeC A outer s H vs Q E hr h=>hb f eC A outer s H vs Q E hr h),m,b,g⟩
end
def O5:Expr->Bool
 |.Starred .. =>false
 |_=>true
theorem va{e:Expr}{es:List Expr}{env:Env}(h:O5 e=true):bL (e::es) env=(false,eval e env)::bL es env:=by
 cases e<;>first|rfl|(simp[O5] at h)
theorem pY{pos:Pos}{env:Env}:∀{es:List Expr},es.all O5=true->(fH pos (bL es env)).any (·.1)=false
 |[],_=>rfl
 |e::es,h=>by rw[dW,aK] at h;rw[va h.1];unfold fH;rw[bp,iu];show(false||_)=false;rw[aeu];exact pY h.2
section
variable{X:Cx}
theorem aH{e:Expr}{es:List Expr}{te:TE}{t:TA}(ha:PE X e te)(hr:PA X es t)(hn:O5 e=true:=by rfl):PA X (e::es) (qR te t):=VD ha hr (va hn)
theorem cD{x:Str}{id:String}{p pos:Pos}{e:Expr}{es:List Expr}{r:List V->Hp->VK->Prop}{t:TA}(hc:kj X (.builtin id) r)(hg:Gl X x)(hm:X.mg x=none)(hv:de x=some (.builtin id))(ha:PA X (e::es) t)(hn:(e::es).all O5=true:=by rfl)(kJ:x≠"__name__":=by decide)(HD:(x==("__debug__":Str))=false:=by decide):PE X (.Call (.Name x p) (e::es) [] pos) (tCB r t):=by rw[dW,aK] at hn;exact So hc hg hm hv ha kJ HD (va hn.1) (pY hn.2)
theorem qZ{x:Str}{id:String}{p pos:Pos}{e:Expr}{es:List Expr}{r:List V->Hp->VK->Prop}{t:TA}(hc:kj X (.type id) r)(hg:Gl X x)(hm:X.mg x=none)(hv:de x=some (.type id))(ha:PA X (e::es) t)(hn:(e::es).all O5=true:=by rfl)(kJ:x≠"__name__":=by decide)(HD:(x==("__debug__":Str))=false:=by decide):PE X (.Call (.Name x p) (e::es) [] pos) (tCB r t):=by rw[dW,aK] at hn;exact Ql hc hg hm hv ha kJ HD (va hn.1) (pY hn.2)
theorem DB{o e:Expr}{to te:TE}{apos pos:Pos}(ho:PE X o to)(he:PE X e te)(hn:O5 e=true:=by rfl)(nt:fU o "join" X.env (eval o X.env)=eval o X.env:=by rfl)(gC:(apos.endLine==pos.line)=true:=by rfl):
  PE X (.Call (.Attribute o "join" apos) [e] [] pos) (tM1 (λx xs H Q=>∃a p,∃ys:List Str,x=.str a/\xs=[.ref p]/\(bD X.K H p (ys.map V.str)∨nj X.K H p (ys.map V.str))/\(ys.map (·.length)).sum+ys.length*a.length<=16777216/\Q (.str (wb a ys)) H) to te):=VW ho he (va hn) nt gC
end
section
variable{X:Cx}{k:Nat}{C:af}{ps:List Str}{sp:Sp}{x m:Str}{p pos apos:Pos}{e o:Expr}{es:List Expr}{ta:TE}{t:TA}
theorem bC(D:Def X.prog X.w X.K X.mg X.base x k ps sp)(hr:jf k X.A)(hg:Gl X x)(ha:PA X (e::es) t)(hn:(e::es).all O5=true:=by rfl)(HD:(x==("__debug__":Str))=false:=by decide):
  PE X (.Call (.Name x p) (e::es) [] pos) (Sk sp [] E0 t):=by
 obtain⟨f,fd,F,hm,hk,hb⟩:=D.ex;rw[dW,aK] at hn;exact VE F hr hg hm hk hb .nil GX ha HD (va hn.1) (pY hn.2)
theorem cg{pl:Sem Bool}(he:PE X o ta)(c:C4 X.K C)(D:iR X.prog X.w X.K X.mg X.base C m k ps sp)(hr:jf k X.A)(ha:PA X (e::es) t)(hn:(e::es).all O5=true:=by rfl)(ht:eval (.Call (.Attribute o m apos) (e::es) [] pos) X.env=(do
   let ov <-eval o X.env
   aad apos.atName
   let(f,first) <-holding [ov] (Fy ov m pl)
   pI pos f first (fH pos (bL (e::es) X.env)) (iH pos (eU [] X.env))):=by rfl):
  PE X (.Call (.Attribute o m apos) (e::es) [] pos) (uJ C m sp [] E0 ta t):=by
 obtain⟨f,fd,F,hm,hb⟩:=D.ex;rw[dW,aK] at hn;exact VF he c hm F hr hb .nil GX ha (va hn.1) (pY hn.2) ht
theorem dk{pl:Sem Bool}(he:PE X o ta)(c:C4 X.K C)(D:iR X.prog X.w X.K X.mg X.base C m k ps sp)(hr:jf k X.A)(ht:eval (.Call (.Attribute o m apos) [] [] pos) X.env=(do
   let ov <-eval o X.env
   aad apos.atName
   let(f,first) <-holding [ov] (Fy ov m pl)
   pI pos f first (fH pos (bL [] X.env)) (iH pos (eU [] X.env))):=by rfl):
  PE X (.Call (.Attribute o m apos) [] [] pos) (uJ C m sp [] E0 ta uI):=by
 obtain⟨f,fd,F,hm,hb⟩:=D.ex;exact Sl he c hm F hr hb .nil GX ht
theorem nu(D:DA X.prog X.w X.K X.mg X.base x C k ps sp)(hr:jf (k+1) X.A)(hg:Gl X x)(ha:PA X (e::es) t)(hn:(e::es).all O5=true:=by rfl)(HD:(x==("__debug__":Str))=false:=by decide):
  PE X (.Call (.Name x p) (e::es) [] pos) (OL C sp [] E0 t):=by
 obtain⟨f,fd,F,M,hb,hm⟩:=D.ex;rw[dW,aK] at hn;exact VG M F hr hg hm hb .nil GX ha HD (va hn.1) (pY hn.2)
theorem Ha(D:DA X.prog X.w X.K X.mg X.base x C k ps sp)(hr:jf (k+1) X.A)(hg:Gl X x)(HD:(x==("__debug__":Str))=false:=by decide):PE X (.Call (.Name x p) [] [] pos) (OL C sp [] E0 uI):=by obtain⟨f,fd,F,M,hb,hm⟩:=D.ex;exact Sn M F hr hg hm hb .nil GX HD
theorem PE.or{e:Expr}{t u:TE}(h1:PE X e t)(h2:PE X e u):PE X e (λσ H Q=>t σ H Q∨u σ H Q):=λpins s σ H Q I h=>h.elim (h1 pins s σ H Q I) (h2 pins s σ H Q I)
structure sk(mg:Str->Option aj)(x:Str)(v:V):Prop where
 ex:∃u,mg x=some u/\RelV v u
theorem cU{v:V}(c:sk X.mg x v)(hg:Gl X x)(hd:(x==("__debug__":Str))=false:=by decide):PE X (.Name x pos) (tC v):=by obtain⟨u,hm,r⟩:=c.ex;exact Vu hg hm r hd
end
theorem cJ:de "len"=some (.builtin "len"):=by decide+kernel
theorem vb:de "all"=some (.builtin "all"):=by decide+kernel
theorem YE:de "any"=some (.builtin "any"):=by decide+kernel
theorem yl:de "ord"=some (.builtin "ord"):=by decide+kernel
theorem FR:de "isinstance"=some (.builtin "isinstance"):=by decide+kernel
theorem MX:de "max"=some (.builtin "max"):=by decide+kernel
theorem Ti:de "min"=some (.builtin "min"):=by decide+kernel
theorem YF:de "sum"=some (.builtin "sum"):=by decide+kernel
theorem QF:de "sorted"=some (.builtin "sorted"):=by decide+kernel
theorem Tj:de "set"=some (.type "set"):=by decide+kernel
theorem DC:de "str"=some (.type "str"):=by decide+kernel
theorem MY:de "int"=some (.type "int"):=by decide+kernel
theorem O6:de "list"=some (.type "list"):=by decide+kernel
theorem Tn:de "tuple"=some (.type "tuple"):=by decide+kernel
theorem fC{c A B:Prop}[Decidable c](h1:c->A)(h2:¬c->B):if decide c=true then A else B:=by
 by_cases h:c
 ·rw[decide_eq_true h];exact kC (h1 h)
 ·rw[decide_eq_false h];exact kK (h2 h)
theorem vc{c A B:Prop}[Decidable c](h1:¬c->A)(h2:c->B):if(!decide c)=true then A else B:=by
 by_cases h:c
 ·rw[decide_eq_true h];exact kK (h2 h)
 ·rw[decide_eq_false h];exact kC (h1 h)
theorem DD{b:Bool}{A B:Prop}(h1:b=true->A)(h2:b=false->B):if b=true then A else B:=by
 cases b with
 |true=>exact kC (h1 rfl)
 |false=>exact kK (h2 rfl)
theorem km{b:Bool}{A B:Prop}(h1:b=false->A)(h2:b=true->B):if(!b)=true then A else B:=by
 cases b with
 |true=>exact kK (h2 rfl)
 |false=>exact kC (h1 rfl)
def cut(H:Hp)(S:List af):Hp:=λb=>if b∈S then none else H b
theorem vd{H:Hp}{S:List af}{b:af}(h:b∈S):cut H S b=none:=by unfold cut;rw[if_pos h]
theorem cX{H:Hp}{S:List af}{b:af}(h:¬b∈S):cut H S b=H b:=by unfold cut;rw[if_neg h]
theorem cY{H:Hp}{S:List af}{b:af}{o:HO}(h:cut H S b=some o):¬b∈S/\H b=some o:=by
 by_cases q:b∈S
 ·rw[vd q] at h;cases h
 ·rw[cX q] at h;exact⟨q,h⟩
theorem bU(H:Hp)(S:List af):aS (cut H S) H:=λ_ _ h=>(cY h).2
theorem dJ{H H':Hp}{S:List af}(h:aS H H'):aS (cut H S) (cut H' S):=λb o e=>by obtain⟨n,e⟩:=cY e;rw[cX n];exact h b o e
theorem sm{H:Hp}{S:List af}{a:af}{o:HO}(h:a∈S):cut (upd H a o) S=cut H S:=by
 funext b;by_cases q:b∈S
 ·rw[vd q,vd q]
 ·rw[cX q,cX q,ax (λe=>q (by rw[e];exact h))]
def cW(S:List af)(H H':Hp):Prop:=aS (cut H S) H'
theorem cW.of{S:List af}{H H':Hp}(h:aS H H'):cW S H H':=(bU H S).trans h
theorem cW.at{S:List af}{H H':Hp}(h:cW S H H'){b:af}{o:HO}(e:H b=some o)(n:¬b∈S):H' b=some o:=h b o (by rw[cX n];exact e)
theorem cW.trans{S:List af}{H H1 H2:Hp}(a:cW S H H1)(b:cW S H1 H2):cW S H H2:=λc o e=>by obtain⟨n,e'⟩:=cY e;exact b.at (a c o e) n
theorem cW.upd{S:List af}{H H':Hp}{a:af}{o:HO}(h:cW S H H')(ha:a∈S):cW S H (upd H' a o):=λb u e=>by obtain⟨n,_⟩:=cY e;rw[ax (λq=>n (by rw[q];exact ha))];exact h b u e
theorem cW.sub{S S':List af}{H H':Hp}(h:cW S H H')(k:∀b∈S,b∈S'):cW S' H H':=λb o e=>by obtain⟨n,e⟩:=cY e;exact h.at e λq=>n (k b q)
theorem aB{H:Hp}{a:af}{o:HO}(h:H a=none):aS H (upd H a o):=λb u e=>by rw[ax (aQ e h)];exact e
theorem aS.cutD{H H':Hp}{D:af}(hD:H D=none)(h:cW [D] H H'):aS H H':=λb o e=>h.at e (by simp;exact aQ e hD)
end Bp
namespace Bp
open PySem PySem.Spec PyProof.Rows L2
def top(i:Nat):cy:=PySem.Challenge.pw_blindrelease_s01_answers.main.body.getD i (.Pass ⟨0,0,0,0⟩)
abbrev DE:cy:=inClass (top 1) 0
abbrev DF:cy:=inClass (top 8) 0
abbrev Hb:cy:=inClass (top 8) 1
abbrev DG:cy:=inClass (top 8) 2
abbrev DH:cy:=inClass (top 9) 0
abbrev xx:cy:=inClass (top 9) 1
abbrev DI:cy:=inClass (top 24) 0
abbrev tD:cy:=inClass (top 24) 1
abbrev oj:cy:=inClass (top 24) 2
abbrev pZ:cy:=inClass (top 24) 3
abbrev BE:cy:=inClass (top 24) 4
abbrev DJ:cy:=inClass (top 24) 5
abbrev DK:cy:=inClass (top 25) 0
abbrev ve:cy:=inClass (top 25) 1
abbrev vf:cy:=inClass (top 25) 2
abbrev tE:cy:=inClass (top 25) 3
abbrev om:cy:=inClass (top 25) 4
abbrev p4:cy:=inClass (top 25) 5
abbrev BF:cy:=inClass (top 25) 6
abbrev DL:cy:=inClass (top 25) 7
abbrev DM:cy:=inClass (top 27) 0
abbrev oY:cy:=inClass (top 27) 1
abbrev oZ:cy:=inClass (top 27) 2
abbrev p5:cy:=inClass (top 27) 3
abbrev o4:cy:=inClass (top 27) 4
abbrev p6:cy:=inClass (top 27) 5
abbrev vg:cy:=inClass (top 27) 6
abbrev xy:cy:=inClass (top 27) 7
abbrev DN:cy:=inClass (top 56) 0
abbrev DO:cy:=inClass (top 56) 1
abbrev p7:cy:=inClass (top 56) 2
abbrev tF:cy:=inClass (top 56) 3
abbrev tG:cy:=inClass (top 56) 4
abbrev mf:cy:=inClass (top 56) 5
abbrev p8:cy:=inClass (top 56) 6
abbrev o5:cy:=inClass (top 56) 7
abbrev o6:cy:=inClass (top 56) 8
abbrev rb:cy:=inClass (top 56) 9
abbrev tH:cy:=inClass (top 56) 10
abbrev p9:cy:=inClass (top 56) 11
abbrev rf:cy:=inClass (top 56) 12
abbrev jI:cy:=inClass (top 56) 13
abbrev DP:cy:=inClass (top 78) 0
abbrev BG:cy:=inClass (top 78) 1
abbrev oo:cy:=inClass (top 78) 2
abbrev o7:cy:=inClass (top 78) 3
abbrev zr:cy:=inClass (top 78) 4
abbrev rg:cy:=top 2
abbrev tI:cy:=top 3
abbrev zt:cy:=top 4
abbrev DQ:cy:=top 5
abbrev zu:cy:=top 6
abbrev zv:cy:=top 10
abbrev xA:cy:=top 11
abbrev BH:cy:=top 12
abbrev zw:cy:=top 13
abbrev vh:cy:=top 14
abbrev o8:cy:=top 15
abbrev nv:cy:=top 16
abbrev zx:cy:=top 17
abbrev qd:cy:=top 18
abbrev ia:cy:=top 19
abbrev xB:cy:=top 20
abbrev Hc:cy:=top 35
abbrev DR:cy:=top 36
abbrev DS:cy:=top 37
abbrev DT:cy:=top 38
abbrev Hd:cy:=top 39
abbrev BI:cy:=top 40
abbrev BJ:cy:=top 41
abbrev o9:cy:=top 42
abbrev nB:cy:=top 43
abbrev BK:cy:=top 54
abbrev zy:cy:=top 55
abbrev O7:cy:=top 58
abbrev BL:cy:=top 59
abbrev vi:cy:=top 60
abbrev vj:cy:=top 61
abbrev rh:cy:=top 79
abbrev mP:cy:=top 80
abbrev qe:cy:=top 81
abbrev tJ:cy:=top 82
abbrev xC:cy:=top 83
abbrev rj:cy:=top 84
abbrev tK:cy:=top 85
abbrev xD:cy:=top 86
abbrev vk:cy:=top 87
abbrev vm:cy:=top 88
abbrev xE:cy:=top 89
abbrev rk:cy:=top 90
abbrev xF:cy:=top 91
abbrev qf:cy:=top 92
abbrev tL:cy:=top 93
abbrev vo:cy:=top 94
abbrev xG:cy:=top 95
abbrev xH:cy:=top 96
abbrev vp:cy:=top 97
abbrev tM:cy:=top 98
abbrev xI:cy:=top 100
abbrev He:cy:=top 101
structure Cl where
 row:af
 rel:af
 jg:af
 num:af
 eW:af
 fZ:af
 eM:af
 cP:af
section
variable(K:ah)(mg:Str->Option aj)(A:Cl)
structure YG:Prop where
 cl:C4 K A.row
 oN:dR K A.row "sleeper"
 DU:dR K A.row "secret"
 zz:dR K A.row "cells"
 init:AO K mg "Row" A.row "Row.__init__" DE ["self","sleeper","secret","cells"]
structure YH:Prop where
 cl:C4 K A.rel
 pb:dR K A.rel "levels"
 Xc:dR K A.rel "k"
 Xd:dR K A.rel "u"
 wx:dR K A.rel "looks"
 sv:dR K A.rel "left_out"
 init:AO K mg "Release" A.rel "Release.__init__" DF ["self","levels","k","u","looks","left_out"]
 afp:iQ K A.rel "has" "Release.has" Hb ["self","row"]
 ab0:iQ K A.rel "told" "Release.told" DG ["self"]
structure YI:Prop where
 cl:C4 K A.jg
 O8:dR K A.jg "row"
 wy:dR K A.jg "among"
 Xc:dR K A.jg "k"
 Xd:dR K A.jg "u"
 init:AO K mg "Hiding" A.jg "Hiding.__init__" DH ["self","row","among","k","u"]
 To:iQ K A.jg "is_safe" "Hiding.is_safe" xx ["self"]
structure YJ:Prop where
 cl:C4 K A.num
 sx:dR K A.num "title"
 CQ:dR K A.num "steps"
 oC:dR K A.num "costs"
 init:AO K mg "NumbersColumn" A.num "NumbersColumn.__init__" DI ["self","title","steps"]
 ym:iQ K A.num "is_filled" "NumbersColumn.is_filled" tD ["self"]
 pd:iQ K A.num "opening_lines" "NumbersColumn.opening_lines" oj ["self"]
 sA:iQ K A.num "level_count" "NumbersColumn.level_count" pZ ["self"]
 MZ:iQ K A.num "holds" "NumbersColumn.holds" BE ["self","cell"]
 Tp:iQ K A.num "look" "NumbersColumn.look" DJ ["self","cell","level"]
structure YK:Prop where
 cl:C4 K A.eW
 sx:dR K A.eW "title"
 nE:dR K A.eW "chains"
 k5:dR K A.eW "longest_chain"
 oC:dR K A.eW "costs"
 init:AO K mg "WordsColumn" A.eW "WordsColumn.__init__" DK ["self","title"]
 QG:iQ K A.eW "add_word" "WordsColumn.add_word" ve ["self","word","above"]
 QH:iQ K A.eW "chain_of" "WordsColumn.chain_of" vf ["self","word"]
 ym:iQ K A.eW "is_filled" "WordsColumn.is_filled" tE ["self"]
 pd:iQ K A.eW "opening_lines" "WordsColumn.opening_lines" om ["self"]
 sA:iQ K A.eW "level_count" "WordsColumn.level_count" p4 ["self"]
 MZ:iQ K A.eW "holds" "WordsColumn.holds" BF ["self","cell"]
 Tp:iQ K A.eW "look" "WordsColumn.look" DL ["self","cell","level"]
structure YL:Prop where
 cl:C4 K A.fZ
 fg:dR K A.fZ "columns"
 gw:dR K A.fZ "secret_name"
 d4:dR K A.fZ "secret_values"
 init:AO K mg "Form" A.fZ "Form.__init__" DM ["self","columns","secret_name","secret_values"]
 FT:iQ K A.fZ "level_counts" "Form.level_counts" oY ["self"]
 FU:iQ K A.fZ "takes_secret" "Form.takes_secret" oZ ["self","secret"]
 HZ:iQ K A.fZ "takes_cells" "Form.takes_cells" p5 ["self","cells"]
 FV:iQ K A.fZ "takes_levels" "Form.takes_levels" o4 ["self","levels"]
 Ia:iQ K A.fZ "takes_asked" "Form.takes_asked" p6 ["self","asked"]
 QI:iQ K A.fZ "looks_of" "Form.looks_of" vg ["self","cells","levels"]
 Tq:iQ K A.fZ "cost_at" "Form.cost_at" xy ["self","levels"]
structure YM:Prop where
 cl:C4 K A.eM
 fg:dR K A.eM "columns"
 lQ:dR K A.eM "unended"
 gw:dR K A.eM "secret_name"
 d4:dR K A.eM "secret_values"
 init:AO K mg "FormReader" A.eM "FormReader.__init__" DN ["self"]
 ab1:iQ K A.eM "read" "FormReader.read" DO ["self","data"]
 Ib:iQ K A.eM "is_complete" "FormReader.is_complete" p7 ["self"]
 M0:iQ K A.eM "made_form" "FormReader.made_form" tF ["self"]
 M3:iQ K A.eM "take_line" "FormReader.take_line" tG ["self","words"]
 zA:iQ K A.eM "take_line_within" "FormReader.take_line_within" mf ["self","words"]
 Ic:iQ K A.eM "is_new_name" "FormReader.is_new_name" p8 ["self","word"]
 FW:iQ K A.eM "begin_column" "FormReader.begin_column" o5 ["self","column"]
 FX:iQ K A.eM "take_numbers" "FormReader.take_numbers" o6 ["self","words"]
 Kl:iQ K A.eM "take_words" "FormReader.take_words" rb ["self","words"]
 M4:iQ K A.eM "take_word" "FormReader.take_word" tH ["self","words"]
 Ie:iQ K A.eM "chain_above" "FormReader.chain_above" p9 ["self","words"]
 Km:iQ K A.eM "take_costs" "FormReader.take_costs" rf ["self","words"]
 Ig:iQ K A.eM "take_secret" "FormReader.take_secret" jI ["self","words"]
structure YN:Prop where
 cl:C4 K A.cP
 gD:dR K A.cP "form"
 jV:dR K A.cP "rows"
 fS:dR K A.cP "releases"
 init:AO K mg "House" A.cP "House.__init__" DP ["self"]
 begin_:iQ K A.cP "begin" "House.begin" BG ["self","form"]
 DV:iQ K A.cP "rows_in_order" "House.rows_in_order" oo ["self"]
 FY:iQ K A.cP "has_released" "House.has_released" o7 ["self","row"]
 V3:iQ K A.cP "hiding" "House.hiding" zr ["self","w"]
structure YO:Prop where
 DW:Raw K mg "unlike_secrets" "unlike_secrets" rg ["rows"]
 FZ:Raw K mg "secret_counts" "secret_counts" tI ["rows","value_count"]
 M5:Raw K mg "are_enough" "are_enough" zt ["rows","k","u"]
 Ts:Raw K mg "class_of" "class_of" DQ ["form","rows","row","levels"]
 M6:Raw K mg "classes_at" "classes_at" zu ["form","rows","levels"]
structure YQ:Prop where
 M8:Raw K mg "release_at" "release_at" zv ["form","rows","levels","k","u"]
 Kn:Raw K mg "hiding_with" "hiding_with" xA ["hiding","release"]
 QJ:Raw K mg "hiding_of" "hiding_of" BH ["row","rows","releases"]
 M9:Raw K mg "hidings_of" "hidings_of" zw ["rows","releases"]
 Ih:Raw K mg "is_safe_with" "is_safe_with" vh ["hidings","release"]
 AQ:Raw K mg "levels_looked_at" "levels_looked_at" o8 ["form","asked"]
 yo:Raw K mg "releases_looked_at" "releases_looked_at" nv ["form","rows","k","u","asked"]
 Na:Raw K mg "safe_alone" "safe_alone" zx ["looked_at","m"]
 B9:Raw K mg "that_may_go_out" "that_may_go_out" qd ["looked_at","m","rows","releases"]
 V4:Raw K mg "best_release" "best_release" ia ["form","rows","releases","numbers","asked"]
 Ko:Raw K mg "next_counts" "next_counts" xB ["form","rows","releases","numbers","asked"]
structure YR:Prop where
 sign_of:Raw K mg "sign_of" "sign_of" Hc ["byte"]
 Tu:Raw K mg "bytes_of" "bytes_of" DR ["text"]
 Tv:Raw K mg "lines_of" "lines_of" DS ["data"]
 words_of:Raw K mg "words_of" "words_of" DT ["line"]
 V5:Raw K mg "is_name" "is_name" Hd ["word"]
 QK:Raw K mg "are_names" "are_names" BI ["words"]
 QL:Raw K mg "is_number" "is_number" BJ ["word"]
 AR:Raw K mg "is_number_within" "is_number_within" o9 ["word","least","most"]
 yp:Raw K mg "are_numbers_within" "are_numbers_within" nB ["words","least","most"]
structure YS:Prop where
 QM:Raw K mg "are_steps" "are_steps" BK ["steps"]
 Nb:Raw K mg "never_fall" "never_fall" zy ["costs"]
structure YT:Prop where
 ended:Raw K mg "ended" "ended" O7 ["lines"]
 QN:Raw K mg "form_text" "form_text" BL ["form"]
 Ii:Raw K mg "release_line" "release_line" vi ["looks","counts"]
 Ij:Raw K mg "release_text" "release_text" vj ["form","rows","release"]
structure YU:Prop where
 DX:Raw K mg "is_row_as_told" "is_row_as_told" rh ["form","w","s","cells"]
 wL:Raw K mg "are_k_and_u_as_told" "are_k_and_u_as_told" mP ["k","u"]
 Ca:Raw K mg "is_plan_as_told" "is_plan_as_told" qe ["form","numbers","asked"]
 F2:Raw K mg "counted_bytes" "counted_bytes" tJ ["text"]
 Kp:Raw K mg "answer_form" "answer_form" xC ["house","numbers","data"]
 DY:Raw K mg "answer_sleeper" "answer_sleeper" rj ["house","numbers","cells"]
 F6:Raw K mg "answer_change" "answer_change" tK ["house","numbers","cells"]
 Kq:Raw K mg "answer_show" "answer_show" xD ["house","numbers","levels"]
 Ik:Raw K mg "answer_alike" "answer_alike" vk ["house","numbers","levels"]
 Il:Raw K mg "answer_short" "answer_short" vm ["house","numbers","levels"]
 Kr:Raw K mg "answer_plan" "answer_plan" xE ["house","numbers","asked"]
 DZ:Raw K mg "answer_release" "answer_release" rk ["house","numbers","asked"]
 Ks:Raw K mg "answer_text" "answer_text" xF ["house","numbers","row"]
 Cb:Raw K mg "answer_releases" "answer_releases" qf ["house","numbers","row"]
 F7:Raw K mg "answer_hidden" "answer_hidden" tL ["house","numbers","row"]
 Im:Raw K mg "answer_could" "answer_could" vo ["house","numbers","row"]
 Kt:Raw K mg "answer_cost" "answer_cost" xG ["house","numbers","levels"]
 Ku:Raw K mg "answer_next" "answer_next" xH ["house","numbers","asked"]
 Io:Raw K mg "answer_print" "answer_print" vp ["house","numbers","row"]
 F8:Raw K mg "answer_counts" "answer_counts" tM ["house","numbers","row"]
 Kv:Raw K mg "answer_call" "answer_call" xI ["house","call","numbers","row"]
 answers:Raw K mg "answers" "answers" He ["calls"]
structure Tk:Prop where
 Cc:sk mg "GREATEST_NUMBER" (.int (1000000))
 D0:sk mg "EVERYTHING" (.str "*")
 Tw:sk mg "LINE_END" (.int (10))
 ab2:sk mg "BLANK" (.int (32))
 O9:sk mg "LETTERS" (.str "abcdefghijklmnopqrstuvwxyz")
 Tx:sk mg "DIGITS" (.str "0123456789")
 Ip:sk mg "LONGEST_NAME" (.int (10))
 D5:sk mg "LONGEST_NUMBER" (.int (7))
 Iq:sk mg "MOST_COLUMNS" (.int (4))
 Nc:sk mg "MOST_STEPS" (.int (2))
 Nd:sk mg "LEAST_STEP" (.int (2))
 F9:sk mg "GREATEST_STEP" (.int (1000000))
 Nf:sk mg "MOST_WORDS" (.int (30))
 Ng:sk mg "MOST_ABOVE" (.int (2))
 Ga:sk mg "GREATEST_COST" (.int (10000))
 D6:sk mg "FEWEST_SECRETS" (.int (2))
 Ir:sk mg "MOST_SECRETS" (.int (12))
 V6:sk mg "NO_FORM" (.int (-9))
 gW:sk mg "NOT_AS_TOLD" (.int (-1))
 pf:sk mg "NO_SLEEPER" (.int (-4))
 Xe:sk mg "TAKEN" (.int (-5))
 ab3:sk mg "FULL" (.int (-6))
 V7:sk mg "NO_PLAN" (.int (-8))
 AS:sk mg "GREATEST_SLEEPER" (.int (999))
 Gb:sk mg "MOST_SLEEPERS" (.int (40))
 Gd:sk mg "MOST_RELEASES" (.int (4))
 Nh:sk mg "GREATEST_K" (.int (40))
 Ni:sk mg "GREATEST_U" (.int (12))
 Nj:sk mg "GREATEST_M" (.int (40))
 afq:sk mg "FORM" (.int (0))
structure Tb:Prop where
 BM:mg "all"=none
 ab4:mg "any"=none
 Kw:mg "enumerate"=none
 Tz:mg "int"=none
 Iu:mg "isinstance"=none
 dM:mg "len"=none
 TB:mg "list"=none
 TC:mg "max"=none
 Xf:mg "min"=none
 D7:mg "ord"=none
 Pa:mg "range"=none
 Xg:mg "set"=none
 TF:mg "sorted"=none
 Kx:mg "str"=none
 ab5:mg "sum"=none
 V8:mg "tuple"=none
 D8:mg "zip"=none
structure Txt:Prop where
 row:YG K mg A
 rel:YH K mg A
 jg:YI K mg A
 num:YJ K mg A
 eW:YK K mg A
 fZ:YL K mg A
 eM:YM K mg A
 cP:YN K mg A
 Kz:YO K mg
 xJ:YQ K mg
 zB:YR K mg
 Xh:YS K mg
 Pb:YT K mg
 ko:YU K mg
 k:Tk mg
 b:Tb mg
end
@[reducible] def xK(lR nF qg:V):List (Str×V):=[("sleeper",lR),("secret",nF),("cells",qg)]
section
variable{lR nF qg:V}
theorem kM:(xK lR nF qg).lookup ("sleeper":Str)=some lR:=by kernel_rfl
theorem zC:(xK lR nF qg).lookup ("secret":Str)=some nF:=by kernel_rfl
theorem qh:(xK lR nF qg).lookup ("cells":Str)=some qg:=by kernel_rfl
theorem Nk:dX "cells" qg (dX "secret" nF (dX "sleeper" lR ([])))=xK lR nF qg:=by kernel_rfl
end
@[reducible] def vq(jw D9 Ea k7 gI:V):List (Str×V):=[("levels",jw),("k",D9),("u",Ea),("looks",k7),("left_out",gI)]
section
variable{jw D9 Ea k7 gI:V}
theorem ka:(vq jw D9 Ea k7 gI).lookup ("levels":Str)=some jw:=by kernel_rfl
theorem Pc:(vq jw D9 Ea k7 gI).lookup ("k":Str)=some D9:=by kernel_rfl
theorem Pd:(vq jw D9 Ea k7 gI).lookup ("u":Str)=some Ea:=by kernel_rfl
theorem nG:(vq jw D9 Ea k7 gI).lookup ("looks":Str)=some k7:=by kernel_rfl
theorem ph:(vq jw D9 Ea k7 gI).lookup ("left_out":Str)=some gI:=by kernel_rfl
theorem oE:(vq jw D9 Ea k7 gI).lookup ("has":Str)=none:=by kernel_rfl
theorem qC:(vq jw D9 Ea k7 gI).lookup ("told":Str)=none:=by kernel_rfl
theorem Nl:dX "left_out" gI (dX "looks" k7 (dX "u" Ea (dX "k" D9 (dX "levels" jw ([])))))=vq jw D9 Ea k7 gI:=by kernel_rfl
end
@[reducible] def BN(xM ng D9 Ea:V):List (Str×V):=[("row",xM),("among",ng),("k",D9),("u",Ea)]
section
variable{xM ng D9 Ea:V}
theorem AU:(BN xM ng D9 Ea).lookup ("row":Str)=some xM:=by kernel_rfl
theorem nH:(BN xM ng D9 Ea).lookup ("among":Str)=some ng:=by kernel_rfl
theorem Iv:(BN xM ng D9 Ea).lookup ("k":Str)=some D9:=by kernel_rfl
theorem Iw:(BN xM ng D9 Ea).lookup ("u":Str)=some Ea:=by kernel_rfl
theorem AV:(BN xM ng D9 Ea).lookup ("is_safe":Str)=none:=by kernel_rfl
theorem Nm:dX "u" Ea (dX "k" D9 (dX "among" ng (dX "row" xM ([]))))=BN xM ng D9 Ea:=by kernel_rfl
end
@[reducible] def oq(du jm dF:V):List (Str×V):=[("title",du),("steps",jm),("costs",dF)]
section
variable{du jm dF:V}
theorem vt:(oq du jm dF).lookup ("title":Str)=some du:=by kernel_rfl
theorem vv:(oq du jm dF).lookup ("steps":Str)=some jm:=by kernel_rfl
theorem qi:(oq du jm dF).lookup ("costs":Str)=some dF:=by kernel_rfl
theorem yq:(oq du jm dF).lookup ("is_filled":Str)=none:=by kernel_rfl
theorem sD:(oq du jm dF).lookup ("opening_lines":Str)=none:=by kernel_rfl
theorem jW:(oq du jm dF).lookup ("level_count":Str)=none:=by kernel_rfl
theorem Eb:(oq du jm dF).lookup ("holds":Str)=none:=by kernel_rfl
theorem Ge:(oq du jm dF).lookup ("look":Str)=none:=by kernel_rfl
theorem tO(y:V):dX "costs" y (oq du jm dF)=oq du jm y:=by kernel_rfl
theorem Nn:dX "costs" dF (dX "steps" jm (dX "title" du ([])))=oq du jm dF:=by kernel_rfl
end
@[reducible] def jX(du fD cj dF:V):List (Str×V):=[("title",du),("chains",fD),("longest_chain",cj),("costs",dF)]
section
variable{du fD cj dF:V}
theorem vw:(jX du fD cj dF).lookup ("title":Str)=some du:=by kernel_rfl
theorem jn:(jX du fD cj dF).lookup ("chains":Str)=some fD:=by kernel_rfl
theorem ou:(jX du fD cj dF).lookup ("longest_chain":Str)=some cj:=by kernel_rfl
theorem qj:(jX du fD cj dF).lookup ("costs":Str)=some dF:=by kernel_rfl
theorem zE:(jX du fD cj dF).lookup ("add_word":Str)=none:=by kernel_rfl
theorem qk:(jX du fD cj dF).lookup ("chain_of":Str)=none:=by kernel_rfl
theorem yr:(jX du fD cj dF).lookup ("is_filled":Str)=none:=by kernel_rfl
theorem sE:(jX du fD cj dF).lookup ("opening_lines":Str)=none:=by kernel_rfl
theorem jY:(jX du fD cj dF).lookup ("level_count":Str)=none:=by kernel_rfl
theorem Ec:(jX du fD cj dF).lookup ("holds":Str)=none:=by kernel_rfl
theorem Gf:(jX du fD cj dF).lookup ("look":Str)=none:=by kernel_rfl
theorem rm(y:V):dX "longest_chain" y (jX du fD cj dF)=jX du fD y dF:=by kernel_rfl
theorem tP(y:V):dX "costs" y (jX du fD cj dF)=jX du fD cj y:=by kernel_rfl
theorem Np:dX "costs" dF (dX "longest_chain" cj (dX "chains" fD (dX "title" du ([]))))=jX du fD cj dF:=by kernel_rfl
end
@[reducible] def rn(bN bq ba:V):List (Str×V):=[("columns",bN),("secret_name",bq),("secret_values",ba)]
section
variable{bN bq ba:V}
theorem fP:(rn bN bq ba).lookup ("columns":Str)=some bN:=by kernel_rfl
theorem zF:(rn bN bq ba).lookup ("secret_name":Str)=some bq:=by kernel_rfl
theorem fV:(rn bN bq ba).lookup ("secret_values":Str)=some ba:=by kernel_rfl
theorem jE:(rn bN bq ba).lookup ("level_counts":Str)=none:=by kernel_rfl
theorem uh:(rn bN bq ba).lookup ("takes_secret":Str)=none:=by kernel_rfl
theorem vx:(rn bN bq ba).lookup ("takes_cells":Str)=none:=by kernel_rfl
theorem ij:(rn bN bq ba).lookup ("takes_levels":Str)=none:=by kernel_rfl
theorem vy:(rn bN bq ba).lookup ("takes_asked":Str)=none:=by kernel_rfl
theorem jJ:(rn bN bq ba).lookup ("looks_of":Str)=none:=by kernel_rfl
theorem ke:(rn bN bq ba).lookup ("cost_at":Str)=none:=by kernel_rfl
theorem Nq:dX "secret_values" ba (dX "secret_name" bq (dX "columns" bN ([])))=rn bN bq ba:=by kernel_rfl
end
@[reducible] def gG(bN dg bq ba:V):List (Str×V):=[("columns",bN),("unended",dg),("secret_name",bq),("secret_values",ba)]
section
variable{bN dg bq ba:V}
theorem kN:(gG bN dg bq ba).lookup ("columns":Str)=some bN:=by kernel_rfl
theorem kO:(gG bN dg bq ba).lookup ("unended":Str)=some dg:=by kernel_rfl
theorem jK:(gG bN dg bq ba).lookup ("secret_name":Str)=some bq:=by kernel_rfl
theorem wM:(gG bN dg bq ba).lookup ("secret_values":Str)=some ba:=by kernel_rfl
theorem Gg:(gG bN dg bq ba).lookup ("read":Str)=none:=by kernel_rfl
theorem vz:(gG bN dg bq ba).lookup ("is_complete":Str)=none:=by kernel_rfl
theorem yt:(gG bN dg bq ba).lookup ("made_form":Str)=none:=by kernel_rfl
theorem yu:(gG bN dg bq ba).lookup ("take_line":Str)=none:=by kernel_rfl
theorem pK:(gG bN dg bq ba).lookup ("take_line_within":Str)=none:=by kernel_rfl
theorem nI:(gG bN dg bq ba).lookup ("is_new_name":Str)=none:=by kernel_rfl
theorem mQ:(gG bN dg bq ba).lookup ("begin_column":Str)=none:=by kernel_rfl
theorem ui:(gG bN dg bq ba).lookup ("take_numbers":Str)=none:=by kernel_rfl
theorem wN:(gG bN dg bq ba).lookup ("take_words":Str)=none:=by kernel_rfl
theorem yw:(gG bN dg bq ba).lookup ("take_word":Str)=none:=by kernel_rfl
theorem vA:(gG bN dg bq ba).lookup ("chain_above":Str)=none:=by kernel_rfl
theorem wO:(gG bN dg bq ba).lookup ("take_costs":Str)=none:=by kernel_rfl
theorem vB:(gG bN dg bq ba).lookup ("take_secret":Str)=none:=by kernel_rfl
theorem ql(y:V):dX "unended" y (gG bN dg bq ba)=gG bN y bq ba:=by kernel_rfl
theorem uj(y:V):dX "secret_name" y (gG bN dg bq ba)=gG bN dg y ba:=by kernel_rfl
theorem ro(y:V):dX "secret_values" y (gG bN dg bq ba)=gG bN dg bq y:=by kernel_rfl
theorem Nt:dX "secret_values" ba (dX "secret_name" bq (dX "unended" dg (dX "columns" bN ([]))))=gG bN dg bq ba:=by kernel_rfl
end
@[reducible] def kP(jZ j0 eN:V):List (Str×V):=[("form",jZ),("rows",j0),("releases",eN)]
section
variable{jZ j0 eN:V}
theorem da:(kP jZ j0 eN).lookup ("form":Str)=some jZ:=by kernel_rfl
theorem fu:(kP jZ j0 eN).lookup ("rows":Str)=some j0:=by kernel_rfl
theorem d5:(kP jZ j0 eN).lookup ("releases":Str)=some eN:=by kernel_rfl
theorem Ed:(kP jZ j0 eN).lookup ("begin":Str)=none:=by kernel_rfl
theorem dS:(kP jZ j0 eN).lookup ("rows_in_order":Str)=none:=by kernel_rfl
theorem uk:(kP jZ j0 eN).lookup ("has_released":Str)=none:=by kernel_rfl
theorem tQ:(kP jZ j0 eN).lookup ("hiding":Str)=none:=by kernel_rfl
theorem Ee(y:V):dX "form" y (kP jZ j0 eN)=kP y j0 eN:=by kernel_rfl
theorem Ef(y:V):dX "rows" y (kP jZ j0 eN)=kP jZ y eN:=by kernel_rfl
theorem yx(y:V):dX "releases" y (kP jZ j0 eN)=kP jZ j0 y:=by kernel_rfl
theorem Nu:dX "releases" eN (dX "rows" j0 (dX "form" jZ ([])))=kP jZ j0 eN:=by kernel_rfl
end
theorem KA:bf ["self","sleeper","secret","cells"] ["self","sleeper","secret","cells"] (aN DE):=gQ
theorem KC:bf ["self","levels","k","u","looks","left_out"] ["self","levels","k","u","looks","left_out"] (aN DF):=gQ
theorem Nv:bf ["self","row"] ["self","row"] (aN Hb):=gQ
theorem KD:bf ["self"] ["self"] (aN DG):=gQ
theorem KG:bf ["self","row","among","k","u"] ["self","row","among","k","u"] (aN DH):=gQ
theorem Eg:bf ["self"] ["self"] (aN xx):=gQ
theorem KH:bf ["self","title","steps"] ["self","title","steps"] (aN DI):=gQ
theorem AW:bf ["self"] ["self"] (aN tD):=gQ
theorem j4:bf ["self","step"] ["self"] (aN oj):=gQ
theorem yy:bf ["self"] ["self"] (aN pZ):=gQ
theorem Iy:bf ["self","cell"] ["self","cell"] (aN BE):=gQ
theorem BO:bf ["self","cell","level","step"] ["self","cell","level"] (aN DJ):=gQ
theorem KI:bf ["self","title"] ["self","title"] (aN DK):=gQ
theorem tR:bf ["self","word","above","chain"] ["self","word","above"] (aN ve):=gQ
theorem tS:bf ["self","word","chain"] ["self","word"] (aN vf):=gQ
theorem AX:bf ["self"] ["self"] (aN tE):=gQ
theorem j5:bf ["self","chain"] ["self"] (aN om):=gQ
theorem yz:bf ["self"] ["self"] (aN p4):=gQ
theorem Iz:bf ["self","cell"] ["self","cell"] (aN BF):=gQ
theorem BP:bf ["self","cell","level","chain"] ["self","cell","level"] (aN DL):=gQ
theorem KJ:bf ["self","columns","secret_name","secret_values"] ["self","columns","secret_name","secret_values"] (aN DM):=gQ
theorem kE:bf ["self","column"] ["self"] (aN oY):=gQ
theorem wQ:bf ["self","secret"] ["self","secret"] (aN oZ):=gQ
theorem jo:bf ["self","cells","column","cell"] ["self","cells"] (aN p5):=gQ
theorem iU:bf ["self","levels","level","levels_here"] ["self","levels"] (aN o4):=gQ
theorem lB:bf ["self","asked","mark"] ["self","asked"] (aN p6):=gQ
theorem jx:bf ["self","cells","levels","column","cell","level"] ["self","cells","levels"] (aN vg):=gQ
theorem mh:bf ["self","levels","column","level"] ["self","levels"] (aN xy):=gQ
theorem KL:bf ["self"] ["self"] (aN DN):=gQ
theorem nJ:bf ["self","data","lines","number","line","words"] ["self","data"] (aN DO):=gQ
theorem yA:bf ["self"] ["self"] (aN p7):=gQ
theorem AY:bf ["self"] ["self"] (aN tF):=gQ
theorem AZ:bf ["self","words"] ["self","words"] (aN tG):=gQ
theorem rp:bf ["self","words"] ["self","words"] (aN mf):=gQ
theorem lC:bf ["self","word","column"] ["self","word"] (aN p8):=gQ
theorem wR:bf ["self","column"] ["self","column"] (aN o5):=gQ
theorem iV:bf ["self","words","steps","step"] ["self","words"] (aN o6):=gQ
theorem zG:bf ["self","words"] ["self","words"] (aN rb):=gQ
theorem mY:bf ["self","words","column","above"] ["self","words"] (aN tH):=gQ
theorem yB:bf ["self","words"] ["self","words"] (aN p9):=gQ
theorem iD:bf ["self","words","column","costs","cost"] ["self","words"] (aN rf):=gQ
theorem pj:bf ["self","words","secrets"] ["self","words"] (aN jI):=gQ
theorem KN:bf ["self"] ["self"] (aN DP):=gQ
theorem IA:bf ["self","form"] ["self","form"] (aN BG):=gQ
theorem vC:bf ["self"] ["self"] (aN oo):=gQ
theorem kF:bf ["self","row","release"] ["self","row"] (aN o7):=gQ
theorem Gh:bf ["self","w"] ["self","w"] (aN zr):=gQ
theorem mi:bf ["rows","row"] ["rows"] (aN rg):=gQ
theorem g0:bf ["rows","value_count","secrets","row","value"] ["rows","value_count"] (aN tI):=gQ
theorem Gi:bf ["rows","k","u"] ["rows","k","u"] (aN zt):=gQ
theorem qm:bf ["form","rows","row","levels","looks","other"] ["form","rows","row","levels"] (aN DQ):=gQ
theorem nh:bf ["form","rows","levels","classes","row","looks"] ["form","rows","levels"] (aN zu):=gQ
theorem kQ:bf ["form","rows","levels","k","u","looks_of_sleepers","looks","alike","row"] ["form","rows","levels","k","u"] (aN zv):=gQ
theorem mj:bf ["hiding","release","looks","among","row"] ["hiding","release"] (aN xA):=gQ
theorem oF:bf ["row","rows","releases","hiding","release"] ["row","rows","releases"] (aN BH):=gQ
theorem qD:bf ["rows","releases","row"] ["rows","releases"] (aN zw):=gQ
theorem tT:bf ["hidings","release","hiding"] ["hidings","release"] (aN vh):=gQ
theorem dG:bf ["form","asked","found","levels_here","mark","least","longer","levels","level"] ["form","asked"] (aN o8):=gQ
theorem jF:bf ["form","rows","k","u","asked","levels"] ["form","rows","k","u","asked"] (aN nv):=gQ
theorem qE:bf ["looked_at","m","release"] ["looked_at","m"] (aN zx):=gQ
theorem jq:bf ["looked_at","m","rows","releases","hidings","release"] ["looked_at","m","rows","releases"] (aN qd):=gQ
theorem tU:bf ["form","rows","releases","numbers","asked","looked_at"] ["form","rows","releases","numbers","asked"] (aN ia):=gQ
theorem pk:bf ["form","rows","releases","numbers","asked","looked_at","m"] ["form","rows","releases","numbers","asked"] (aN xB):=gQ
theorem Nw:bf ["byte"] ["byte"] (aN Hc):=gQ
theorem vD:bf ["text","sign"] ["text"] (aN DR):=gQ
theorem nK:bf ["data","lines","line","byte"] ["data"] (aN DS):=gQ
theorem lS:bf ["line","text","byte","word"] ["line"] (aN DT):=gQ
theorem yC:bf ["word","sign"] ["word"] (aN Hd):=gQ
theorem sG:bf ["words","word"] ["words"] (aN BI):=gQ
theorem sI:bf ["word","sign"] ["word"] (aN BJ):=gQ
theorem wU:bf ["word","least","most"] ["word","least","most"] (aN o9):=gQ
theorem jG:bf ["words","least","most","word"] ["words","least","most"] (aN nB):=gQ
theorem sJ:bf ["steps","before","step"] ["steps"] (aN BK):=gQ
theorem ni:bf ["costs","before","cost"] ["costs"] (aN zy):=gQ
theorem Eh:bf ["lines","line"] ["lines"] (aN O7):=gQ
theorem ml:bf ["form","lines","column","cost"] ["form"] (aN BL):=gQ
theorem n6:bf ["looks","counts","count"] ["looks","counts"] (aN vi):=gQ
theorem gJ:bf ["form","rows","release","classes","value_count","row","looks"] ["form","rows","release"] (aN vj):=gQ
theorem zH:bf ["form","w","s","cells"] ["form","w","s","cells"] (aN rh):=gQ
theorem sL:bf ["k","u"] ["k","u"] (aN mP):=gQ
theorem yD:bf ["form","numbers","asked"] ["form","numbers","asked"] (aN qe):=gQ
theorem A1:bf ["text"] ["text"] (aN tJ):=gQ
theorem mm:bf ["house","numbers","data","reader","wrong","form"] ["house","numbers","data"] (aN xC):=gQ
theorem mn:bf ["house","numbers","cells","w","s"] ["house","numbers","cells"] (aN rj):=gQ
theorem mZ:bf ["house","numbers","cells","w","s"] ["house","numbers","cells"] (aN tK):=gQ
theorem mq:bf ["house","numbers","levels","w","answer","look"] ["house","numbers","levels"] (aN xD):=gQ
theorem n8:bf ["house","numbers","levels","w","alike"] ["house","numbers","levels"] (aN vk):=gQ
theorem gK:bf ["house","numbers","levels","k","u","rows","release","sleepers","row"] ["house","numbers","levels"] (aN vm):=gQ
theorem vE:bf ["house","numbers","asked","release"] ["house","numbers","asked"] (aN xE):=gQ
theorem qo:bf ["house","numbers","asked","release"] ["house","numbers","asked"] (aN rk):=gQ
theorem vF:bf ["house","numbers","row","q"] ["house","numbers","row"] (aN xF):=gQ
theorem lD:bf ["house","numbers","row","answer","release"] ["house","numbers","row"] (aN qf):=gQ
theorem m5:bf ["house","numbers","row","w","hiding"] ["house","numbers","row"] (aN tL):=gQ
theorem tV:bf ["house","numbers","row","w"] ["house","numbers","row"] (aN vo):=gQ
theorem Ei:bf ["house","numbers","levels"] ["house","numbers","levels"] (aN xG):=gQ
theorem Ej:bf ["house","numbers","asked"] ["house","numbers","asked"] (aN xH):=gQ
theorem Cd:bf ["house","numbers","row"] ["house","numbers","row"] (aN vp):=gQ
theorem rq:bf ["house","numbers","row","form"] ["house","numbers","row"] (aN tM):=gQ
theorem Ek:bf ["house","call","numbers","row"] ["house","call","numbers","row"] (aN xI):=gQ
theorem gL:bf ["calls","house","given","place","call","behind","numbers","row","answer"] ["calls"] (aN He):=gQ
end Bp
namespace Bp
open PySem PySem.Spec PyProof.Rows L2 Bm
abbrev fW:=Vbslai.Row
def sN(l:aG):Str:=⟨l.toArray⟩
def eO(ls:List aG):List V:=ls.map λl=>V.str (sN l)
def gP(ns:List Nat):List V:=ns.map λ(n:Nat)=>V.int (n:Int)
def iJ(as:List af):List V:=as.map V.ref
theorem vG{a b:aG}(h:sN a=sN b):a=b:=by
 unfold sN at h;have e:a.toArray=b.toArray:=by injection h
 have:=congrArg Fd e;simpa using this
theorem lE(a:aG):(sN a).cps.toList=a:=by unfold sN;simp
theorem i5(a:aG):(sN a).length=a.length:=by show(sN a).cps.size=a.length;unfold sN;simp
theorem d9(ls:List aG):(eO ls).length=ls.length:=aa ..
theorem eh(ls:List Nat):(gP ls).length=ls.length:=aa ..
theorem ck(ls:List af):(iJ ls).length=ls.length:=aa ..
theorem Paired.vH{α β:Type}{R:α->β->Prop}:∀{l:List α}{m:List β}{i:Nat}{a:α},dh R l m->l[i]? =some a->∃b,m[i]? =some b/\R a b
 |_,_,i,a,.nil,h=>by simp at h
 |_,_,0,a,.cons r t,h=>by simp at h;subst h;exact⟨_,rfl,r⟩
 |_,_,i+1,a,.cons r t,h=>Paired.vH (i:=i) t (by simpa using h)
theorem Paired.ab6{α β:Type}{R:α->β->Prop}:∀{l:List α}{m:List β}{i:Nat}{b:β},dh R l m->m[i]? =some b->∃a,l[i]? =some a/\R a b
 |_,_,i,a,.nil,h=>by simp at h
 |_,_,0,a,.cons r t,h=>by simp at h;subst h;exact⟨_,rfl,r⟩
 |_,_,i+1,a,.cons r t,h=>Paired.ab6 (i:=i) t (by simpa using h)
theorem Paired.len{α β:Type}{R:α->β->Prop}:∀{l:List α}{m:List β},dh R l m->l.length=m.length
 |_,_,.nil=>rfl
 |_,_,.cons _ t=>by rw[aV,aV,Paired.len t]
theorem Paired.mono{α β:Type}{R S:α->β->Prop}(h:∀a b,R a b->S a b):∀{l:List α}{m:List β},dh R l m->dh S l m
 |_,_,.nil=>.nil
 |_,_,.cons r t=>.cons (h _ _ r) (Paired.mono h t)
theorem Paired.app{α β:Type}{R:α->β->Prop}:∀{l l':List α}{m m':List β},dh R l m->dh R l' m'->dh R (l++l') (m++m')
 |_,_,_,_,.nil,s=>s
 |_,_,_,_,.cons r t,s=>.cons r (Paired.app t s)
theorem Paired.snoc{α β:Type}{R:α->β->Prop}{l:List α}{m:List β}{a:α}{b:β}(h:dh R l m)(r:R a b):dh R (l++[a]) (m++[b]):=Paired.app h (.cons r .nil)
def qp(H:Hp)(a:af)(c:List aG):Prop:=H a=some (.lst (eO c))
def xN(A:Cl)(H:Hp)(a:af)(name:aG)(s costs:List Nat):Prop:=∃dx l m,H a=some (.ins A.num dx (oq (.str (sN name)) (.ref l) (.ref m)))/\H l=some (.lst (gP s))/\H m=some (.lst (gP costs))
def pw(A:Cl)(H:Hp)(a:af)(name:aG)(up:Up)(costs:List Nat):Prop:=∃dx l m as,H a=some (.ins A.eW dx (jX (.str (sN name)) (.ref l) (.int (longest (fY up):Nat)) (.ref m)))/\H l=some (.lst (iJ as))/\dh (qp H) as (fY up)/\H m=some (.lst (gP costs))
def iL(A:Cl)(H:Hp)(a:af)(c:bw):Prop:=match c.kind with
 |.numbers s=>xN A H a c.name s c.costs
 |.words up=>pw A H a c.name up c.costs
theorem qp.mono{H H':Hp}(e:aS H H'){a:af}{c:List aG}(h:qp H a c):qp H' a c:=e _ _ h
theorem xN.mono{A:Cl}{H H':Hp}(e:aS H H'){a:af}{n:aG}{s c:List Nat}(h:xN A H a n s c):xN A H' a n s c:=by obtain⟨dx,l,m,h1,h2,h3⟩:=h;exact⟨dx,l,m,e _ _ h1,e _ _ h2,e _ _ h3⟩
theorem pw.mono{A:Cl}{H H':Hp}(e:aS H H'){a:af}{n:aG}{s:Up}{c:List Nat}(h:pw A H a n s c):pw A H' a n s c:=by obtain⟨dx,l,m,as,h1,h2,h3,h4⟩:=h;exact⟨dx,l,m,as,e _ _ h1,e _ _ h2,Paired.mono (λ_ _ q=>q.mono e) h3,e _ _ h4⟩
theorem iL.mono{A:Cl}{H H':Hp}(e:aS H H'){a:af}{c:bw}(h:iL A H a c):iL A H' a c:=by
 unfold iL at h⊢
 cases q:c.kind with
 |numbers s=>rw[q] at h;exact xN.mono e h
 |words up=>rw[q] at h;exact pw.mono e h
theorem iL.num{A:Cl}{H:Hp}{a:af}{c:bw}{s:List Nat}(h:iL A H a c)(k:c.kind=.numbers s):xN A H a c.name s c.costs:=by unfold iL at h;rw[k] at h;exact h
theorem iL.eW{A:Cl}{H:Hp}{a:af}{c:bw}{up:Up}(h:iL A H a c)(k:c.kind=.words up):pw A H a c.name up c.costs:=by unfold iL at h;rw[k] at h;exact h
def gM(A:Cl)(H:Hp)(a:af)(f:dY):Prop:=∃dx lc lv as,H a=some (.ins A.fZ dx (rn (.ref lc) (.str (sN f.secret)) (.ref lv)))/\H lc=some (.lst (iJ as))/\dh (iL A H) as f.columns/\H lv=some (.lst (eO f.values))
theorem gM.mono{A:Cl}{H H':Hp}(e:aS H H'){a:af}{f:dY}(h:gM A H a f):gM A H' a f:=by obtain⟨dx,lc,lv,as,h1,h2,h3,h4⟩:=h;exact⟨dx,lc,lv,as,e _ _ h1,e _ _ h2,Paired.mono (λ_ _ q=>q.mono e) h3,e _ _ h4⟩
def rz(A:Cl)(H:Hp)(a:af)(r:fW):Prop:=∃dx l,H a=some (.ins A.row dx (xK (.int (r.who:Nat)) (.int (r.secret:Nat)) (.ref l)))/\H l=some (.lst (gP r.cells))
theorem rz.mono{A:Cl}{H H':Hp}(e:aS H H'){a:af}{r:fW}(h:rz A H a r):rz A H' a r:=by obtain⟨dx,l,h1,h2⟩:=h;exact⟨dx,l,e _ _ h1,e _ _ h2⟩
abbrev vI(A:Cl)(H:Hp)(as:List af)(rows:List fW):Prop:=dh (rz A H) as rows
theorem vI.mono{A:Cl}{H H':Hp}(e:aS H H'){as:List af}{rows:List fW}(h:vI A H as rows):vI A H' as rows:=Paired.mono (λ_ _ q=>q.mono e) h
def Ce(H:Hp)(d:af)(lk:List (Nat×List aG)):Prop:=∃kvs:List (Key×V),H d=some (.dK kvs)/\dh (λ(kv:Key×V)(p:Nat×List aG)=>kv.1=cC (p.1:Int)/\∃t,kv.2=.ref t/\H t=some (.tup (eO p.2))) kvs lk
theorem Ce.mono{H H':Hp}(e:aS H H'){d:af}{lk:List (Nat×List aG)}(h:Ce H d lk):Ce H' d lk:=by obtain⟨kvs,h1,h2⟩:=h;exact⟨kvs,e _ _ h1,Paired.mono (λ_ _ ⟨q1,t,q2,q3⟩=>⟨q1,t,q2,e _ _ q3⟩) h2⟩
def mR(A:Cl)(H:Hp)(a:af)(z:Rl):Prop:=∃dx ll ld,H a=some (.ins A.rel dx (vq (.ref ll) (.int (z.k:Nat)) (.int (z.u:Nat)) (.ref ld) (.int (z.left:Nat))))/\H ll=some (.lst (gP z.levels))/\Ce H ld z.lk
theorem mR.mono{A:Cl}{H H':Hp}(e:aS H H'){a:af}{z:Rl}(h:mR A H a z):mR A H' a z:=by obtain⟨dx,ll,ld,h1,h2,h3⟩:=h;exact⟨dx,ll,ld,e _ _ h1,e _ _ h2,h3.mono e⟩
abbrev gN(A:Cl)(H:Hp)(as:List af)(zs:List Rl):Prop:=dh (mR A H) as zs
theorem gN.mono{A:Cl}{H H':Hp}(e:aS H H'){as:List af}{zs:List Rl}(h:gN A H as zs):gN A H' as zs:=Paired.mono (λ_ _ q=>q.mono e) h
theorem Ce.val{H:Hp}{kvs:List (Key×V)}{lk:List (Nat×List aG)}(w:Nat):dh (λ(kv:Key×V)(p:Nat×List aG)=>kv.1=cC (p.1:Int)/\∃t,kv.2=.ref t/\H t=some (.tup (eO p.2))) kvs lk->
  match lk.lookup w with
  |none=>iP kvs (cC (w:Int):Key)=none
  |some y=>∃t,iP kvs (cC (w:Int):Key)=some (.ref t)/\H t=some (.tup (eO y)):=by
 intro h
 induction h with
 |nil=>rfl
 |cons r t ih=>
  rename_i kv p kvs lk;obtain⟨e1,t',e2,e3⟩:=r;obtain⟨a,b⟩:=p;rw[di];by_cases q:w=a
  ·subst q;simp only[beq_self_eq_true];refine⟨t',?_,e3⟩;unfold iP;rw[hJ];have:decide (kv.1=(cC ((w:Nat):Int):Key))=true:=decide_eq_true e1;rw[this];show some kv.2=_;rw[e2]
  ·have q':(w==a)=false:=by simpa using q
   rw[q'];dsimp only;have n:decide (kv.1=(cC ((w:Nat):Int):Key))=false:=by rw[e1];refine decide_eq_false λz=>q ?_;have:=Ao z;exact(aex this).symm
   have ev:iP (kv::kvs) (cC (w:Int):Key)=iP kvs (cC (w:Int):Key):=by unfold iP;rw[hJ,n]
   rw[ev];exact ih
def Tr(M:List af)(H:Hp):Prop:=∀m∈M,∃o,H m=some o
theorem Tr.mono{M:List af}{H H':Hp}(e:aS H H')(h:Tr M H):Tr M H':=λm hm=>let⟨o,q⟩:=h m hm;⟨o,e _ _ q⟩
theorem Tr.not{M:List af}{H:Hp}(h:Tr M H){p:af}(e:H p=none):¬p∈M:=λq=>by
 obtain⟨o,z⟩:=h p q;rw[z] at e;cases e
theorem Tr.cons{M:List af}{H:Hp}{p:af}{o:HO}(h:Tr M H)(e:H p=some o):Tr (p::M) H:=λm hm=>by
 rcases aA.mp hm with q|q
 ·rw[q];exact⟨o,e⟩
 ·exact h m q
theorem Tr.nil{H:Hp}:Tr [] H:=λ_ h=>nomatch h
theorem TH{H:Hp}{M:List af}{p:af}:aS (cut H (p::M)) (cut H M):=λb o e=>by obtain⟨n,e⟩:=cY e;rw[cX (λq=>n (.tail _ q))];exact e
theorem qr{H H':Hp}{M:List af}(t:Tr M H){p:af}{o:HO}(n:H p=none)(e:H' p=some o):cut H' M p=some o:=by rw[cX (t.not n)];exact e
theorem sO(H:Hp):cut H []=H:=by funext b;rw[cX (by simp)]
end Bp
namespace Bp
open PySem PySem.Spec PyProof.Rows L2 Bm
section
variable{J:It}{n:Nat}{g:TG}{tt:TT}{te:TE}{vs:List Nat}{σ:L2.St}{H:Hp}{Q:VK}
theorem TJ{H1:Hp}{D:af}{Qd:Hp->Prop}(Pv:Nat->Hp->Prop)(h0:Pv 0 (upd H1 D (.lst [])))(El:∀i H,i<n->Pv i H->J.go i H)(gu:∀H,Pv n H->J.stop n H)(hs:∀i x H H',i<n->Pv i H->J.FH i H x H'->g x (wipe σ vs) H' λσ2 H2=>wipe σ2 vs=wipe σ vs/\tt σ2 H2 λb H3=>if b=true then te σ2 H3 λy H4=>∃acc,H4 D=some (.lst acc)/\acc.length<az/\Pv (i+1) (upd H4 D (.lst (acc++[y]))) else Pv (i+1) H3)(hd:∀H,Pv n H->Qd H):
  ∃W:Nat->Nat->Hp->Prop,(∃m,W 0 m (upd H1 D (.lst [])))/\∀i m H,W i m H->
   (J.stop i H/\Qd H)∨(J.go i H/\∃Nx:Hp->Prop,(∀H',Nx H'->∃m',m'<m/\W (i+1) m' H')/\∀x H',J.FH i H x H'->g x (wipe σ vs) H' λσ2 H2=>wipe σ2 vs=wipe σ vs/\tt σ2 H2 λb H3=>if b=true then te σ2 H3 λy H4=>∃acc,H4 D=some (.lst acc)/\acc.length<az/\Nx (upd H4 D (.lst (acc++[y]))) else Nx H3):=by
 refine⟨λi m H=>m=n-i/\i<=n/\Pv i H,⟨n,by simp,bB _,h0⟩,?_⟩;rintro i m H ⟨rfl,hi,p⟩;by_cases og:i<n
 ·exact .inr ⟨El i H og p,Pv (i+1),λH' p'=>⟨n-(i+1),by omega,rfl,og,p'⟩,λx H' y=>hs i x H H' og p y⟩
 ·have e:i=n:=by omega
  subst e;exact .inl ⟨gu H p,hd H p⟩
theorem lcv{f:Nat->V}(hn:n<=az)(El:∀i H',i<n->aS H H'->J.go i H')(gu:∀H',aS H H'->J.stop n H')(hs:∀(i:Nat)(x:V)(H' nL:Hp)(R:VK),i<n->aS H H'->J.FH i H' x nL->(∀H4,aS H' H4->R (f i) H4)->g x (wipe σ vs) nL λσ2 H2=>wipe σ2 vs=wipe σ vs/\te σ2 H2 R)(hd:∀D H',H D=none->aS H H'->H' D=some (.lst ((bY n).map f))->Q (.ref D) H'):
  ∀D,H D=none->∃W:Nat->Nat->Hp->Prop,(∃m,W 0 m (upd H D (.lst [])))/\∀i m H,W i m H->
   (J.stop i H/\Q (.ref D) H)∨(J.go i H/\∃Nx:Hp->Prop,(∀H',Nx H'->∃m',m'<m/\W (i+1) m' H')/\∀x H',J.FH i H x H'->g x (wipe σ vs) H' λσ2 H2=>wipe σ2 vs=wipe σ vs/\HL σ2 H2 λb H3=>if b=true then te σ2 H3 λy H4=>∃acc,H4 D=some (.lst acc)/\acc.length<az/\Nx (upd H4 D (.lst (acc++[y]))) else Nx H3):=λD hD=>by
 refine TJ (Qd:=λH'=>Q (.ref D) H') (λi H'=>aS H H'/\H' D=some (.lst ((bY i).map f))) ⟨aB hD,ag⟩ (λi H' hi p=>El i H' hi p.1) (λH' p=>gu H' p.1) (λi x H' nL hi p y=>?_) (λH' p=>hd D H' hD p.1 p.2);refine hs i x H' nL (λy H4=>∃acc,H4 D=some (.lst acc)/\acc.length<az/\aS H (upd H4 D (.lst (acc++[y])))/\(upd H4 D (.lst (acc++[y]))) D=some (.lst ((bY (i+1)).map f))) hi p.1 y (λH4 k=>?_);refine⟨_,k _ _ p.2,by rw[aa,dU];omega,λb o e=>?_,?_⟩
 ·rw[ax (aQ e hD)];exact k _ _ (p.1 _ _ e)
 ·rw[ag,pN,br];rfl
theorem lcf{f:Nat->V}{p:Nat->Bool}(hn:n<=az)(El:∀i H',i<n->aS H H'->J.go i H')(gu:∀H',aS H H'->J.stop n H')(hs:∀(i:Nat)(x:V)(H' nL:Hp)(R:VK)(S:Hp->Prop),i<n->aS H H'->J.FH i H' x nL->(p i=true->∀H4,aS H' H4->R (f i) H4)->(p i=false->∀H4,aS H' H4->S H4)->g x (wipe σ vs) nL λσ2 H2=>wipe σ2 vs=wipe σ vs/\tt σ2 H2 λb H3=>if b=true then te σ2 H3 R else S H3)
  (hd:∀D H',H D=none->aS H H'->H' D=some (.lst (((bY n).filter p).map f))->Q (.ref D) H'):
  ∀D,H D=none->∃W:Nat->Nat->Hp->Prop,(∃m,W 0 m (upd H D (.lst [])))/\∀i m H,W i m H->
   (J.stop i H/\Q (.ref D) H)∨(J.go i H/\∃Nx:Hp->Prop,(∀H',Nx H'->∃m',m'<m/\W (i+1) m' H')/\∀x H',J.FH i H x H'->g x (wipe σ vs) H' λσ2 H2=>wipe σ2 vs=wipe σ vs/\tt σ2 H2 λb H3=>if b=true then te σ2 H3 λy H4=>∃acc,H4 D=some (.lst acc)/\acc.length<az/\Nx (upd H4 D (.lst (acc++[y]))) else Nx H3):=λD hD=>by
 refine TJ (Qd:=λH'=>Q (.ref D) H') (λi H'=>aS H H'/\H' D=some (.lst (((bY i).filter p).map f))) ⟨aB hD,ag⟩ (λi H' hi p=>El i H' hi p.1) (λH' p=>gu H' p.1) (λi x H' nL hi q y=>?_) (λH' p=>hd D H' hD p.1 p.2);refine hs i x H' nL _ _ hi q.1 y (λpi H4 k=>?_) (λpi H4 k=>?_)
 ·refine⟨_,k _ _ q.2,?_,λb o e=>?_,?_⟩
  ·rw[aa];refine bW (dO _ _) ?_;rw[dU];omega
  ·rw[ax (aQ e hD)];exact k _ _ (q.1 _ _ e)
  ·rw[ag,pN,jO,br];have:[i].filter p=[i]:=by simp[pi]
   rw[this];rfl
 ·refine⟨q.1.trans k,?_⟩;rw[k _ _ q.2,pN,jO];have:[i].filter p=[]:=by simp[pi]
  rw[this,dE]
theorem lcr{Rel:Nat->V->Hp->Prop}(mono:∀i y H1 H2,aS H1 H2->Rel i y H1->Rel i y H2)(hn:n<=az)(El:∀i H',i<n->aS H H'->J.go i H')(gu:∀H',aS H H'->J.stop n H')(hs:∀(D:af)(i:Nat)(x:V)(H' nL:Hp)(R:VK),H D=none->i<n->aS H H'->(∃acc,H' D=some (.lst acc))->J.FH i H' x nL->(∀y H4,aS H' H4->Rel i y (cut H4 [D])->R y H4)->g x (wipe σ vs) nL λσ2 H2=>wipe σ2 vs=wipe σ vs/\te σ2 H2 R)(hd:∀D H' ys,H D=none->aS H H'->H' D=some (.lst ys)->ys.length=n->(∀i y,ys[i]? =some y->Rel i y (cut H' [D]))->Q (.ref D) H'):
  ∀D,H D=none->∃W:Nat->Nat->Hp->Prop,(∃m,W 0 m (upd H D (.lst [])))/\∀i m H,W i m H->
   (J.stop i H/\Q (.ref D) H)∨(J.go i H/\∃Nx:Hp->Prop,(∀H',Nx H'->∃m',m'<m/\W (i+1) m' H')/\∀x H',J.FH i H x H'->g x (wipe σ vs) H' λσ2 H2=>wipe σ2 vs=wipe σ vs/\HL σ2 H2 λb H3=>if b=true then te σ2 H3 λy H4=>∃acc,H4 D=some (.lst acc)/\acc.length<az/\Nx (upd H4 D (.lst (acc++[y]))) else Nx H3):=λD hD=>by
 refine TJ (Qd:=λH'=>Q (.ref D) H') (λi H'=>aS H H'/\∃ys,H' D=some (.lst ys)/\ys.length=i/\∀j y,ys[j]? =some y->Rel j y (cut H' [D])) ⟨aB hD,[],ag,rfl,λj y e=>by simp at e⟩
  (λi H' hi p=>El i H' hi p.1) (λH' p=>gu H' p.1) (λi x H' nL hi p y=>?_) (λH' ⟨p,ys,a,b,c⟩=>hd D H' ys hD p a b c)
 obtain⟨p1,ys,a,b,c⟩:=p;refine hs D i x H' nL _ hD hi p1 ⟨ys,a⟩ y (λv H4 k r=>?_);refine⟨ys,k _ _ a,by rw[b];omega,λb' o e=>?_,ys++[v],ag,by rw[aO,b];rfl,λj z e=>?_⟩
 ·rw[ax (aQ e hD)];exact k _ _ (p1 _ _ e)
 ·rw[sm (by simp)];by_cases hj:j<ys.length
  ·rw[Mq hj] at e;exact mono _ _ _ _ (dJ k) (c j z e)
  ·have hj2:j=ys.length:=by have:=(b9.mp e).1;rw[aO] at this;simp at this;omega
   subst hj2;have:z=v:=by simpa using e.symm
   subst this;rw[b];exact r
end
theorem sP{K:ah}{H:Hp}{a:af}{xs:List V}(h:bD K H a xs):∀i H',i<xs.length->aS H H'->(Va K a).go i H':=λi H' hi k=>⟨xs,xs[i],k.seq h,au hi⟩
theorem m6{K:ah}{H:Hp}{a:af}{xs:List V}(h:bD K H a xs):∀H',aS H H'->(Va K a).stop xs.length H':=λH' k=>⟨xs,k.seq h,aJ _⟩
theorem Ny{K:ah}{H:Hp}{a b:af}{xs ys:List V}{n:Nat}(h:bD K H a xs)(h':bD K H b ys)(hx:n<=xs.length)(hy:n<=ys.length):∀i H',i<n->aS H H'->(Itz K a b).go i H':=λi H' hi k=>⟨xs,ys,xs[i],ys[i],k.seq h,k.seq h',au (by omega),au (by omega)⟩
theorem Em{K:ah}{H:Hp}{a b:af}{xs ys:List V}{n:Nat}(h:bD K H a xs)(h':bD K H b ys)(hn:xs.length<=n∨ys.length<=n):∀H',aS H H'->(Itz K a b).stop n H':=λH' k=>⟨xs,ys,k.seq h,k.seq h',hn⟩
theorem IB{J:It}{n:Nat}{g:TG}{tb:TS}{D:Ends}{σ:L2.St}{H:Hp}(Pv:Nat->L2.St->Hp->Prop)(h0:Pv 0 σ H)(El:∀i σ H,i<n->Pv i σ H->J.go i H)(gu:∀σ H,Pv n σ H->J.stop n H)(hs:∀i x σ H H',i<n->Pv i σ H->J.FH i H x H'->g x σ H' λσ2 H2=>tb {D with nx:=Pv (i+1),ct:=Pv (i+1),bk:=D.nx} σ2 H2)(hd:∀σ H,Pv n σ H->D.nx σ H):
  ∃W:Nat->Nat->L2.St->Hp->Prop,(∃m,W 0 m σ H)/\∀i m σ H,W i m σ H->
   (J.stop i H/\D.nx σ H)∨(J.go i H/\∃N:L2.St->Hp->Prop,(∀σ' H',N σ' H'->∃m',m'<m/\W (i+1) m' σ' H')/\∀x H',J.FH i H x H'->g x σ H' λσ2 H2=>tb {D with nx:=N,ct:=N,bk:=D.nx} σ2 H2):=by
 refine⟨λi m σ H=>m=n-i/\i<=n/\Pv i σ H,⟨n,by simp,bB _,h0⟩,?_⟩;rintro i m σ H ⟨rfl,hi,p⟩;by_cases og:i<n
 ·exact .inr ⟨El i σ H og p,Pv (i+1),λσ' H' p'=>⟨n-(i+1),by omega,rfl,og,p'⟩,λx H' y=>hs i x σ H H' og p y⟩
 ·have e:i=n:=by omega
  subst e;exact .inl ⟨gu σ H p,hd σ H p⟩
theorem jC{α:Type}(l:List α)(f:Nat->V)(g:α->V)(h:∀i x,l[i]? =some x->f i=g x):(bY l.length).map f=l.map g:=by
 apply nU;intro i;rw[aU,aU];by_cases hi:i<l.length
 ·rw[Br hi,au hi];show some (f i)=some (g l[i]);rw[h i _ (au hi)]
 ·rw[c6 (by rw[dU];omega),c6 (by omega)];rfl
section
variable{J:It}{n:Nat}{wi:TI}{g:TG}{tt:TT}{te:TE}{vs:List Nat}{σ:L2.St}{H0 H:Hp}{Q:VK}
theorem Pe(hw:∀R:It->Hp->Prop,R J H->wi σ H0 R){f:Nat->V}(hn:n<=az)(El:∀i H',i<n->aS H H'->J.go i H')(gu:∀H',aS H H'->J.stop n H')(hs:∀(i:Nat)(x:V)(H' nL:Hp)(R:VK),i<n->aS H H'->J.FH i H' x nL->(∀H4,aS H' H4->R (f i) H4)->g x (wipe σ vs) nL λσ2 H2=>wipe σ2 vs=wipe σ vs/\te σ2 H2 R)(hd:∀D H',H D=none->aS H H'->H' D=some (.lst ((bY n).map f))->Q (.ref D) H'):tLc wi g HL te vs σ H0 Q:=hw _ (lcv hn El gu hs hd)
end
theorem kf{r:List V->Hp->VK->Prop}{te:TE}{σ:L2.St}{H:Hp}{Q:VK}(h:te σ H λx H1=>r [x] H1 Q):tCB r (qR te uI) σ H Q:=h
theorem iW{te:TE}{D:Ends}{σ:L2.St}{H:Hp}(h:te σ H D.rt):X2 te D σ H:=h
theorem IC{te:TE}{g:TG}{D:Ends}{σ:L2.St}{H:Hp}(h:te σ H λx H1=>g x σ H1 D.nx):X5 te g D σ H:=h
theorem b8{t:L2.St->Hp->Prop}{rt:VK}{bk ct:L2.St->Hp->Prop}{σ:L2.St}{H:Hp}{i:Nat}{v:V}(h:t (σ.set i (some v)) H):JK i v σ H (Ends.nx ⟨t,rt,bk,ct⟩):=h
theorem aZ{t u:TS}{D:Ends}{σ:L2.St}{H:Hp}(h:t {D with nx:=u D} σ H):R9 t u D σ H:=h
def Xi(g:TG)(tt:TT)(te:TE)(vs:List Nat)(σ:L2.St)(Q:VK)(J:It)(H1:Hp):Prop:=∀D,H1 D=none->∃W:Nat->Nat->Hp->Prop,(∃m,W 0 m (upd H1 D (.lst [])))/\∀i m H,W i m H->
 (J.stop i H/\Q (.ref D) H)∨(J.go i H/\∃Nx:Hp->Prop,(∀H',Nx H'->∃m',m'<m/\W (i+1) m' H')/\∀x H',J.FH i H x H'->g x (wipe σ vs) H' λσ2 H2=>wipe σ2 vs=wipe σ vs/\tt σ2 H2 λb H3=>if b=true then te σ2 H3 λy H4=>∃acc,H4 D=some (.lst acc)/\acc.length<az/\Nx (upd H4 D (.lst (acc++[y]))) else Nx H3)
theorem fw{wi:TI}{g:TG}{tt:TT}{te:TE}{vs:List Nat}{σ:L2.St}{H:Hp}{Q:VK}(h:wi σ H (Xi g tt te vs σ Q)):tLc wi g tt te vs σ H Q:=h
section
variable{J:It}{n:Nat}{g:TG}{tt:TT}{te:TE}{vs:List Nat}{σ:L2.St}{H:Hp}{Q:VK}
theorem En{f:Nat->V}(hn:n<=az)(El:∀i H',i<n->aS H H'->J.go i H')(gu:∀H',aS H H'->J.stop n H')(hs:∀(i:Nat)(x:V)(H' nL:Hp)(R:VK),i<n->aS H H'->J.FH i H' x nL->(∀H4,aS H' H4->R (f i) H4)->g x (wipe σ vs) nL λσ2 H2=>wipe σ2 vs=wipe σ vs/\te σ2 H2 R)(hd:∀D H',H D=none->aS H H'->H' D=some (.lst ((bY n).map f))->Q (.ref D) H'):Xi g HL te vs σ Q J H:=lcv hn El gu hs hd
theorem ab7{f:Nat->V}{p:Nat->Bool}(hn:n<=az)(El:∀i H',i<n->aS H H'->J.go i H')(gu:∀H',aS H H'->J.stop n H')(hs:∀(i:Nat)(x:V)(H' nL:Hp)(R:VK)(S:Hp->Prop),i<n->aS H H'->J.FH i H' x nL->(p i=true->∀H4,aS H' H4->R (f i) H4)->(p i=false->∀H4,aS H' H4->S H4)->g x (wipe σ vs) nL λσ2 H2=>wipe σ2 vs=wipe σ vs/\tt σ2 H2 λb H3=>if b=true then te σ2 H3 R else S H3)
  (hd:∀D H',H D=none->aS H H'->H' D=some (.lst (((bY n).filter p).map f))->Q (.ref D) H'):Xi g tt te vs σ Q J H:=lcf hn El gu hs hd
theorem Xj{Rel:Nat->V->Hp->Prop}(mono:∀i y H1 H2,aS H1 H2->Rel i y H1->Rel i y H2)(hn:n<=az)(El:∀i H',i<n->aS H H'->J.go i H')(gu:∀H',aS H H'->J.stop n H')(hs:∀(D:af)(i:Nat)(x:V)(H' nL:Hp)(R:VK),H D=none->i<n->aS H H'->(∃acc,H' D=some (.lst acc))->J.FH i H' x nL->(∀y H4,aS H' H4->Rel i y (cut H4 [D])->R y H4)->g x (wipe σ vs) nL λσ2 H2=>wipe σ2 vs=wipe σ vs/\te σ2 H2 R)(hd:∀D H' ys,H D=none->aS H H'->H' D=some (.lst ys)->ys.length=n->(∀i y,ys[i]? =some y->Rel i y (cut H' [D]))->Q (.ref D) H'):Xi g HL te vs σ Q J H:=lcr mono hn El gu hs hd
theorem jL{α:Type}{K:ah}{a:af}{l:List α}{enc f:α->V}(hl:bD K H a (l.map enc))(hn:l.length<=az)(hs:∀(i:Nat)(x:α)(H':Hp)(R:VK),l[i]? =some x->aS H H'->(∀H4,aS H' H4->R (f x) H4)->g (enc x) (wipe σ vs) H' λσ2 H2=>wipe σ2 vs=wipe σ vs/\te σ2 H2 R)(hd:∀D H',H D=none->aS H H'->H' D=some (.lst (l.map f))->Q (.ref D) H'):Xi g HL te vs σ Q (Va K a) H:=by
 have hlen:(l.map enc).length=l.length:=aa ..;refine En (n:=l.length) (f:=λi=>((l[i]?).map f).getD .gT) hn (by rw[<-hlen];exact sP hl) (by rw[<-hlen];exact m6 hl) (λi x H' nL R hi k y hR=>?_) (λD H' h1 h2 h3=>hd D H' h1 h2 ?_)
 ·obtain⟨rfl,y⟩:=y;have e:=y _ (k.seq hl);rw[aU] at e
  cases q:l[i]? with
  |none=>rw[q] at e;cases e
  |some z=>
   rw[q] at e;cases e;refine hs i z nL R q k λH4 k4=>?_;have:=hR H4 k4;rw[q] at this;exact this
 ·rw[h3];refine congrArg (λz=>some (HO.lst z)) (jC l _ _ λi x hx=>?_);rw[hx];rfl
theorem lF{α:Type}{K:ah}{a:af}{l:List α}{enc f:α->V}{p:α->Bool}(hl:bD K H a (l.map enc))(hn:l.length<=az)(hs:∀(i:Nat)(x:α)(H':Hp)(R:VK)(S:Hp->Prop),l[i]? =some x->aS H H'->(p x=true->∀H4,aS H' H4->R (f x) H4)->(p x=false->∀H4,aS H' H4->S H4)->g (enc x) (wipe σ vs) H' λσ2 H2=>wipe σ2 vs=wipe σ vs/\tt σ2 H2 λb H3=>if b=true then te σ2 H3 R else S H3)
  (hd:∀D H',H D=none->aS H H'->H' D=some (.lst ((l.filter p).map f))->Q (.ref D) H'):Xi g tt te vs σ Q (Va K a) H:=by
 have hlen:(l.map enc).length=l.length:=aa ..;refine ab7 (n:=l.length) (f:=λi=>((l[i]?).map f).getD .gT) (p:=λi=>((l[i]?).map p).getD false) hn (by rw[<-hlen];exact sP hl) (by rw[<-hlen];exact m6 hl) (λi x H' nL R S hi k y hR hS=>?_) (λD H' h1 h2 h3=>hd D H' h1 h2 ?_)
 ·obtain⟨rfl,y⟩:=y;have e:=y _ (k.seq hl);rw[aU] at e
  cases q:l[i]? with
  |none=>rw[q] at e;cases e
  |some z=>
   rw[q] at e;cases e;refine hs i z nL R S q k (λhp H4 k4=>?_) (λhp H4 k4=>?_)
   ·have:=hR (by rw[q];exact hp) H4 k4;rw[q] at this;exact this
   ·exact hS (by rw[q];exact hp) H4 k4
 ·rw[h3];refine congrArg (λz=>some (HO.lst z)) ?_;clear h3 hd hs hn hlen hl;have key:∀k,k<=l.length->((bY k).filter λi=>((l[i]?).map p).getD false).map (λi=>((l[i]?).map f).getD .gT)=((l.take k).filter p).map f:=by
   intro k
   induction k with
   |zero=>intro _;rfl
   |succ k ih=>
    intro hk;have e1:l[k]? =some l[k]:=au (by omega);rw[pN,jO,br,ih (by omega),dq,e1,jO,br];congr 1
    cases hp:p l[k] with
    |true=>rw[PQ (by rw[e1];exact hp)];show _=wc f (aiX p [l[k]]);rw[PQ (by exact hp)];simp[e1]
    |false=>rw[PU (by rw[e1];simp[hp])];show _=wc f (aiX p [l[k]]);rw[PU (by simp[hp])];rfl
  have:=key l.length (aJ _);rw[GC] at this;exact this
end
end Bp
namespace Bp
open PySem PySem.Spec PyProof.Rows L2 Bm
section
variable{X:Cx}
theorem zI(hu:X.A.units<lW):xq X (d8 .NotEq) (λx y H Q=>∃a b xs,x=.ref a/\y=.ref b/\bD X.K H a xs/\bD X.K H b []/\Q (.bl (!decide (xs=[]))) H):=by
 intro pins s σ H x y v u Q I rx ry h;obtain⟨a,b,xs,rfl,rfl,ha,hb,q⟩:=h;cases rx;cases ry;obtain⟨its,rv,p,_⟩:=I.list ha;obtain⟨pJ,MR,p2,_⟩:=I.list hb;have l1:=rv.length;have l2:=MR.length;have fin:∀bb:Bool,bb=(!decide (xs=[]))->EP X pins σ Q (.bool bb) s:=λbb e=>⟨.bl bb,H,I,rfl,by rw[e];exact q⟩;have e2:pJ=[]:=fT.mp (by simpa using l2.symm);subst e2;by_cases hx:xs=[]
 ·subst hx;have e1:its=[]:=fT.mp (by simpa using l1.symm);subst e1;exact SeqAt.RcNeAt.lists (e:=λ_=>true) p.isList p2.isList rfl hu (λj h1=>absurd h1 (by simp)) X.prog X.w X.xe _ (fin _ (by simp))
 ·refine SeqAt.RcNeAt.lists_lengths p.isList p2.isList ?_ hu X.prog X.w X.xe _ (fin _ (by simp[hx]));have:its.length≠0:=λe=>hx (fT.mp (by omega));simpa using this
theorem Pf{ls:List aG}{its:List aj}(rv:Vals (eO ls) its){j:Nat}(hj:j<its.length):∃l t,ls[j]? =some l/\its[j]? =some (.str (sN l) t):=by
 have hl:=rv.length;rw[d9] at hl;have e:(eO ls)[j]? =some (V.str (sN ls[j])):=by unfold eO;rw[aU,au (by omega)];rfl
 obtain⟨u,hu,t,rfl⟩:=rv.get e;exact⟨ls[j],t,au (by omega),hu⟩
theorem ID{ls ms:List aG}:((bY (min ls.length ms.length)).all (λj=>decide (ls[j]? =ms[j]?))&&ls.length==ms.length)=decide (ls=ms):=by
 by_cases h:ls=ms
 ·subst h;simp
 ·rw[decide_eq_false h];rw[gE];by_cases hl:ls.length=ms.length
  ·left;rw[<-GD,b0];intro q;refine h (nU λi=>?_);by_cases hi:i<ls.length
   ·have:=q i (kU.mpr (by rw[aiY];split<;>omega));exact of_decide_eq_true this
   ·rw[c6 (by omega),c6 (by omega)]
  ·right;simpa using hl
theorem Pg(hu:X.A.units<lW):xq X (d8 .Eq) (λx y H Q=>∃a b ls ms,x=.ref a/\y=.ref b/\nj X.K H a (eO ls)/\nj X.K H b (eO ms)/\Q (.bl (decide (ls=ms))) H):=by
 intro pins s σ H x y v u Q I rx ry h;obtain⟨a,b,ls,ms,rfl,rfl,ha,hb,q⟩:=h;cases rx;cases ry;obtain⟨its,rv,p,_⟩:=I.tuple ha;obtain⟨pJ,MR,p2,_⟩:=I.tuple hb;have l1:=rv.length;have l2:=MR.length;rw[d9] at l1 l2;have key:((bY (min its.toArray.size pJ.toArray.size)).all (λj=>decide (ls[j]? =ms[j]?))&&its.toArray.size==pJ.toArray.size)=decide (ls=ms):=by rw[bA,bA,<-l1,<-l2];exact ID
 refine SeqAt.eq_tupleAt (e:=λj=>decide (ls[j]? =ms[j]?)) p p2 hu (λj h1 h2=>?_) ?_
 ·obtain⟨l,t,el,ei⟩:=Pf rv (j:=j) (by simpa using h1);obtain⟨m,t2,em,ei2⟩:=Pf MR (j:=j) (by simpa using h2);have e1:its.toArray[j]=.str (sN l) t:=by
   have:its[j]? =some its.toArray[j]:=by rw[au (by simpa using h1)];simp
   rw[ei] at this;exact(aW this).symm
  have e2:pJ.toArray[j]=.str (sN m) t2:=by
   have:pJ[j]? =some pJ.toArray[j]:=by rw[au (by simpa using h2)];simp
   rw[ei2] at this;exact(aW this).symm
  rw[e1,e2,el,em];have eb:decide (some l=some m)=(sN l==sN m):=by
   by_cases z:l=m
   ·subst z;simp
   ·have n1:¬some l=some m:=λq=>z (aW q);have n2:¬sN l=sN m:=λq=>z (vG q);rw[decide_eq_false n1];symm;simpa using n2
  rw[eb];exact ahb _ _ _ _
 ·rw[key];exact⟨.bl (decide (ls=ms)),H,I,rfl,q⟩
theorem V9(hu:X.A.units<lW):xq X (d8 .Eq) (λx y H Q=>∃b ms,y=.ref b/\nj X.K H b (eO ms)/\((x=.gT/\Q (.bl false) H)∨∃a ls,x=.ref a/\nj X.K H a (eO ls)/\Q (.bl (decide (ls=ms))) H)):=by
 intro pins s σ H x y v u Q I rx ry h;obtain⟨b,ms,rfl,hb,h⟩:=h;rcases h with⟨rfl,q⟩|⟨a,ls,rfl,ha,q⟩
 ·cases rx;cases ry;obtain⟨pJ,MR,p2,_⟩:=I.tuple hb;exact SeqAt.RcAt.none_tuple p2 hu X.prog X.w X.xe _ ⟨.bl false,H,I,rfl,q⟩
 ·exact Pg hu pins s σ H _ _ v u Q I rx ry ⟨a,b,ls,ms,rfl,rfl,ha,hb,q⟩
end
end Bp
namespace Bp
open PySem PySem.Spec PyProof.Rows L2 Bm
section
variable{X:Cx}{K:ah}
theorem kg{e:Expr}{f:Str}{pos:Pos}{ta:TE}(hK:X.K=K)(he:PE X e ta)(hb:fU e f X.env (eval e X.env)=eval e X.env):PE X (.Attribute e f pos) (abr K ta f):=hK▸bj he hb
theorem TK(hK:X.K=K):IxR X (Yg K):=hK▸cO
theorem TM(hK:X.K=K):SlR X (abA K):=hK▸pQ
theorem YV{o e:Expr}{to te:TE}{apos pos:Pos}(hK:X.K=K)(ho:PE X o to)(he:PE X e te)(hn:O5 e=true:=by rfl)(nt:fU o "join" X.env (eval o X.env)=eval o X.env:=by rfl)(gC:(apos.endLine==pos.line)=true:=by rfl):
  PE X (.Call (.Attribute o "join" apos) [e] [] pos) (tM1 (λx xs H Q=>∃a p,∃ys:List Str,x=.str a/\xs=[.ref p]/\(bD K H p (ys.map V.str)∨nj K H p (ys.map V.str))/\(ys.map (·.length)).sum+ys.length*a.length<=16777216/\Q (.str (wb a ys)) H) to te):=hK▸DB ho he hn nt gC
theorem TN(hK:X.K=K)(hu:X.A.units<lW):xq X (d8 .Eq) (λx y H Q=>∃a b ls ms,x=.ref a/\y=.ref b/\nj K H a (eO ls)/\nj K H b (eO ms)/\Q (.bl (decide (ls=ms))) H):=hK▸Pg hu
theorem TQ(hK:X.K=K)(hu:X.A.units<lW):xq X (d8 .Eq) (λx y H Q=>∃b ms,y=.ref b/\nj K H b (eO ms)/\((x=.gT/\Q (.bl false) H)∨∃a ls,x=.ref a/\nj K H a (eO ls)/\Q (.bl (decide (ls=ms))) H)):=hK▸V9 hu
theorem zJ{es:List Expr}{k:Nat}{pos:Pos}{t:W2}{n:Nat}(hK:X.K=K)(hc:X.calm=true)(h:PGs X es t)(hn:(vZ es X.env).length=n:=by rfl)(gu:(vZ es X.env).findIdx? (·.1)=none:=by rfl):PG X (.Tuple es k pos) (abj K n t):=hK▸CY hc h hn gu
end
end Bp
namespace Bp
open PySem PySem.Spec PyProof.Rows L2
theorem TR(a b c:aj):WN "zip" ⟨[a,b,c],[]⟩=pure ():=by kernel_rfl
theorem QO(a b c:aj):Ot "zip.__new__" ⟨[.type "zip",a,b,c],[]⟩=pure ():=by kernel_rfl
theorem oi4(a b c d:aj):U3 "object.__init__" ⟨[a,b,c,d],[]⟩:=by unfold U3;rw[signature?_of (id:="object.__init__") (n:=['_','_','t','i','n','i','_','_']) (o:=['t','c','e','j','b','o']) (by kernel_rfl) F.owner_object];kernel_rfl
abbrev Fp(h:cu)(T:af)(a b c:aj):Prop:=h.get? T=some {cls:=.type "tuple",data:=.seq #[a,b,c]}
abbrev li0(l:af):Obj:={cls:=.type "list_iterator",data:=.fields #[.ref l,.int 0 0]}
abbrev z3a(h:cu)(l1:af):cu:=h.push (li0 l1)
abbrev z3b(h:cu)(l1 l2:af):cu:=(z3a h l1).push (li0 l2)
abbrev z3c(h:cu)(l1 l2 l3:af):cu:=(z3b h l1 l2).push (li0 l3)
abbrev z3d(h:cu)(l1 l2 l3:af):cu:=(z3c h l1 l2 l3).push {cls:=.type "tuple",data:=.seq #[.ref h.objs.size,.ref (z3a h l1).objs.size,.ref (z3b h l1 l2).objs.size]}
abbrev z3e(h:cu)(l1 l2 l3:af):cu:=(z3d h l1 l2 l3).push {cls:=.type "tuple",data:=.seq #[.none,.none,.none]}
abbrev YW(h:cu)(l1 l2 l3:af):cu:=(z3e h l1 l2 l3).push {cls:=.type "zip",data:=.fields #[.none,.bool false,.bool false,.ref (z3c h l1 l2 l3).objs.size,.ref (z3d h l1 l2 l3).objs.size]}
theorem mz3(l1 l2 l3:af)(xs ys zs:Array aj):
  adI (Builtin.«zip.__new__» ⟨[.type "zip",.ref l1,.ref l2,.ref l3],[]⟩) (λ_ R s=>s.heap.IsList l1 xs/\s.heap.IsList l2 ys/\s.heap.IsList l3 zs/\R (.ok (.ret (.ref (z3e s.heap l1 l2 l3).objs.size))) {s with heap:=YW s.heap l1 l2 l3}):=
 .of_wp λprog w A R s h=>by obtain⟨hp,g,d,tk,os⟩:=s;obtain⟨zb,MK,Xk,h⟩:=h;have sQ:=sub_zip;have hL1:P0 (P1 ⟨hp,g,d,tk,os⟩) l1 xs:=zb;have hL2:P0 (P1 ⟨hp.push (li0 l1),g,d,tk,os⟩) l2 ys:=MK.push _;have hL3:P0 (P1 ⟨(hp.push (li0 l1)).push (li0 l2),g,d,tk,os⟩) l3 zs:=(Xk.push _).push _;wp_walk using fK hL1,fK hL2,fK hL3;exact⟨_,rfl,h⟩
section
variable{prog:bo}{w:bM}{A:cp}{E:aj->ay->Prop}{s:ay}
theorem QP{l1 l2 l3:af}{xs ys zs:Array aj}{Q:aj->ay->Prop}(zb:s.heap.IsList l1 xs)(MK:s.heap.IsList l2 ys)(Xk:s.heap.IsList l3 zs)(h:∀h',x3 h' (s.heap.objs.size+5) (s.heap.objs.size+3) (s.heap.objs.size+4) .none->Fp h' (s.heap.objs.size+3) (.ref s.heap.objs.size) (.ref (s.heap.objs.size+1)) (.ref (s.heap.objs.size+2))->Fp h' (s.heap.objs.size+4) .none .none .none->h'.IsListIter s.heap.objs.size l1 0->h'.IsListIter (s.heap.objs.size+1) l2 0->h'.IsListIter (s.heap.objs.size+2) l3 0->(∀c o,s.heap.get? c=some o->h'.get? c=some o)->Q (.ref (s.heap.objs.size+5)) {s with heap:=h'}):
  bg (model prog w) A (call (.type "zip") [.ref l1,.ref l2,.ref l3]) Q E s:=by
 refine callType_new F.called_zip (by decide) (TR _ _ _) (QO _ _ _) (λobj=>oi4 obj _ _ _) F.entry_zip_new (mz3 l1 l2 l3 xs ys zs) ⟨zb,MK,Xk,?_⟩;have z1:(z3a s.heap l1).objs.size=s.heap.objs.size+1:=cH ..;have z2:(z3b s.heap l1 l2).objs.size=s.heap.objs.size+2:=by rw[cH,z1]
 have z3:(z3c s.heap l1 l2 l3).objs.size=s.heap.objs.size+3:=by rw[cH,z2]
 have z4:(z3d s.heap l1 l2 l3).objs.size=s.heap.objs.size+4:=by rw[cH,z3]
 have z5:(z3e s.heap l1 l2 l3).objs.size=s.heap.objs.size+5:=by rw[cH,z4]
 have g6:(YW s.heap l1 l2 l3).get? (z3e s.heap l1 l2 l3).objs.size=some _:=aT _ rfl;have g5:(YW s.heap l1 l2 l3).get? (z3d s.heap l1 l2 l3).objs.size=some _:=ai _ (aT _ rfl);have g4:(YW s.heap l1 l2 l3).get? (z3c s.heap l1 l2 l3).objs.size=some _:=ai _ (ai _ (aT _ rfl));have g3:(YW s.heap l1 l2 l3).get? (z3b s.heap l1 l2).objs.size=some _:=ai _ (ai _ (ai _ (aT _ rfl)));have g2:(YW s.heap l1 l2 l3).get? (z3a s.heap l1).objs.size=some _:=ai _ (ai _ (ai _ (ai _ (aT _ rfl))));have g1:(YW s.heap l1 l2 l3).get? s.heap.objs.size=some _:=ai _ (ai _ (ai _ (ai _ (ai _ (aT _ rfl)))));show _/\_;rw[z3,z4,z5] at g6;rw[z1,z2,z3] at g4;rw[z4] at g5;rw[z2] at g3;rw[z1] at g2;rw[z5];exact⟨⟨_,g6,rfl⟩,h _ g6 g4 g5 ⟨_,g1,rfl,rfl⟩ ⟨_,g2,rfl,rfl⟩ ⟨_,g3,rfl,rfl⟩ λc o x=>ai _ (ai _ (ai _ (ai _ (ai _ (ai _ x)))))⟩
theorem nA{a b:Nat}(h:a<b∨b<a):@Ne af a b:=λq=>by have q:(a:Nat)=b:=q;omega
structure Z3(n l1 l2 l3:Nat):Prop where
 a:l1<n
 b:l2<n
 c:l3<n
theorem YX{T:af}{a b c x:aj}{k:Nat}{Q:Unit->ay->Prop}(hT:Fp s.heap T a b c)(h:∀h',h'.get? T=some {cls:=.type "tuple",data:=.seq ((#[a,b,c]:Array aj).setIfInBounds k x)}->eE T s.heap h'->Q () {s with heap:=h'}):
  bg (model prog w) A (FA T (·.setIfInBounds k x)) Q E s:=by
 refine B3 hT rfl (h _ ?_ (t9 ..));rw[aaV _ hT rfl];simp[Jy]
theorem ab9{n l1 l2 l3:Nat}{k:Nat}{xs ys zs:Array aj}{x y z a b c:aj}{Q:aj->ay->Prop}(D:Z3 n l1 l2 l3)(hz:x3 s.heap (n+5) (n+3) (n+4) .none)(y9:Fp s.heap (n+3) (.ref n) (.ref (n+1)) (.ref (n+2)))(De:Fp s.heap (n+4) a b c)(h1:s.heap.IsListIter n l1 k)(h2:s.heap.IsListIter (n+1) l2 k)(h3:s.heap.IsListIter (n+2) l3 k)(zb:s.heap.IsList l1 xs)(MK:s.heap.IsList l2 ys)(Xk:s.heap.IsList l3 zs)(hx:xs[k]? =some x)(hy:ys[k]? =some y)(Nz:zs[k]? =some z)(hQ:∀h',x3 h' (n+5) (n+3) (n+4) (eQ s.heap.objs.size)->Fp h' (n+4) x y z->h'.IsListIter n l1 (k+1)->h'.IsListIter (n+1) l2 (k+1)->h'.IsListIter (n+2) l3 (k+1)->Fp h' s.heap.objs.size x y z->(∀c o,c≠n+5->c≠n+4->c≠n->c≠n+1->c≠n+2->s.heap.get? c=some o->h'.get? c=some o)->Q (.ref s.heap.objs.size) {s with heap:=h'}):
  bg (model prog w) A (Builtin.«zip.__next__» ⟨[.ref (n+5)],[]⟩) (λfin s'=>∃v,fin=.done (.ret v)/\Q v s') E s:=by
 have D1:=D.a;have D2:=D.b;have D3:=D.c;show bg _ _ (field (.ref (n+5)) 2 >>= _) _ _ _;refine ae (eV hz rfl (x:=.bool false) rfl ?_);show bg _ _ (field (.ref (n+5)) 3 >>= _) _ _ _;refine ae (eV hz rfl (x:=.ref (n+3)) rfl ?_);refine ae (jb y9 rfl ?_);show bg _ _ (eB (.ref (n+5)) >>= _) _ _ _;refine ae ?_;unfold eB;refine ae (eV hz rfl (x:=.none) rfl (aI ?_));simp only[if_true];refine ae (ahi ?_);refine ae (eV hz rfl (x:=.ref (n+4)) rfl ?_);refine ae (cV hz (by simp) λg1 YY QQ=>?_);replace YY:x3 g1 (n+5) (n+3) (n+4) .ellipsis:=YY;refine ae ?_;simp only[Z6,aa3,JB,An];refine ae (ae (Hu ?_));show bg _ _ (mU (.ref n) >>= _) _ _ _;refine ae (pH (h1.extBut QQ.extBut (nA (by omega))) (zb.extBut QQ.extBut (nA (by omega))) hx λg2 i1 TU=>aI ?_);have t2:Fp g2 (n+4) a b c:=TU.extBut _ _ (nA (by omega)) (QQ.extBut _ _ (nA (by omega)) De);refine ae (jb t2 rfl ?_);refine ae (YX t2 λg3 t3 Qq=>?_);replace t3:Fp g3 (n+4) x b c:=t3;refine ae (mC (aI ?_));refine ae (ae (Hu ?_));show bg _ _ (mU (.ref (n+1)) >>= _) _ _ _;refine ae (pH (((h2.extBut QQ.extBut (nA (by omega))).extBut TU.extBut (nA (by omega))).extBut Qq.extBut (nA (by omega))) (((MK.extBut QQ.extBut (nA (by omega))).extBut TU.extBut (nA (by omega))).extBut Qq.extBut (nA (by omega))) hy λg4 i2 YZ=>aI ?_);have t4:Fp g4 (n+4) x b c:=YZ.extBut _ _ (nA (by omega)) t3;refine ae (jb t4 rfl ?_);refine ae (YX t4 λg5 t5 Y0=>?_);replace t5:Fp g5 (n+4) x y c:=t5;refine ae (mC (aI ?_));refine ae (ae (Hu ?_));show bg _ _ (mU (.ref (n+2)) >>= _) _ _ _;refine ae (pH (((((h3.extBut QQ.extBut (nA (by omega))).extBut TU.extBut (nA (by omega))).extBut Qq.extBut (nA (by omega))).extBut YZ.extBut (nA (by omega))).extBut Y0.extBut (nA (by omega))) (((((Xk.extBut QQ.extBut (nA (by omega))).extBut TU.extBut (nA (by omega))).extBut Qq.extBut (nA (by omega))).extBut YZ.extBut (nA (by omega))).extBut Y0.extBut (nA (by omega))) Nz λg6 i3 sb6=>aI ?_);have t6:Fp g6 (n+4) x y c:=sb6.extBut _ _ (nA (by omega)) t5;refine ae (jb t6 rfl ?_);refine ae (YX t6 λg7 t7 sb7=>?_);replace t7:Fp g7 (n+4) x y z:=t7;refine ae (mC (aI (aI ?_)));refine ae (jb t7 rfl ?_);refine ae (UZ ?_);have hsz:g7.objs.size=s.heap.objs.size:=by rw[sb7.1,sb6.1,Y0.1,YZ.1,Qq.1,TU.1,QQ.1]
 have zz7:x3 g7 (n+5) (n+3) (n+4) .ellipsis:=sb7.extBut _ _ (nA (by omega)) (sb6.extBut _ _ (nA (by omega)) (Y0.extBut _ _ (nA (by omega)) (YZ.extBut _ _ (nA (by omega)) (Qq.extBut _ _ (nA (by omega)) (TU.extBut _ _ (nA (by omega)) YY)))));have hk:∀c o,c≠n+5->c≠n+4->c≠n->c≠n+1->c≠n+2->s.heap.get? c=some o->g7.get? c=some o:=λc o c1 c2 c3 c4 c5 e=>sb7.extBut _ _ c2 (sb6.extBut _ _ c5 (Y0.extBut _ _ c2 (YZ.extBut _ _ c4 (Qq.extBut _ _ c2 (TU.extBut _ _ c3 (QQ.extBut _ _ c1 e))))));have j1:g7.IsListIter n l1 (k+1):=((((i1.extBut Qq.extBut (nA (by omega))).extBut YZ.extBut (nA (by omega))).extBut Y0.extBut (nA (by omega))).extBut sb6.extBut (nA (by omega))).extBut sb7.extBut (nA (by omega));have j2:g7.IsListIter (n+1) l2 (k+1):=((i2.extBut Y0.extBut (nA (by omega))).extBut sb6.extBut (nA (by omega))).extBut sb7.extBut (nA (by omega));have j3:g7.IsListIter (n+2) l3 (k+1):=i3.extBut sb7.extBut (nA (by omega));have zlt:n+5<g7.objs.size:=bc zz7;show bg _ _ (iF (.ref (n+5)) (.ref g7.objs.size) >>= _) _ _ _;refine ae ?_;unfold iF;have zz8:x3 (g7.push {cls:=.type "tuple",data:=.seq #[x,y,z]}) (n+5) (n+3) (n+4) .ellipsis:=ai _ zz7;refine ae (cV zz8 (by simp) λg9 zz9 sb9=>?_);replace zz9:x3 g9 (n+5) (n+3) (n+4) (eQ g7.objs.size):=zz9;refine cV zz9 (by simp) λga zza sba=>?_;replace zza:x3 ga (n+5) (n+3) (n+4) (eQ g7.objs.size):=zza;have up:∀c o,c≠n+5->g7.get? c=some o->ga.get? c=some o:=λc o c1 e=>sba.extBut _ _ c1 (sb9.extBut _ _ c1 (ai _ e));have hT:Fp ga g7.objs.size x y z:=sba.extBut _ _ (dw zlt) (sb9.extBut _ _ (dw zlt) (aT _ rfl));rw[hsz] at zza hT;refine aI ⟨_,rfl,?_⟩;show Q (.ref g7.objs.size) _;rw[hsz];exact hQ ga zza (up _ _ (nA (by omega)) t7) (j1.at λo e=>up _ o (nA (by omega)) e) (j2.at λo e=>up _ o (nA (by omega)) e) (j3.at λo e=>up _ o (nA (by omega)) e) hT λc o c1 c2 c3 c4 c5 e=>up c o c1 (hk c o c1 c2 c3 c4 c5 e)
end
end Bp
namespace Bp
open PySem PySem.Spec PyProof.Rows L2
section
variable{prog:bo}{w:bM}{A:cp}{E:aj->ay->Prop}{s:ay}
theorem aft{n l1 l2 l3:Nat}{k:Nat}{xs:Array aj}{Q:Fin->ay->Prop}(hh:A.handled=none)(D:Z3 n l1 l2 l3)(hz:x3 s.heap (n+5) (n+3) (n+4) .none)(y9:Fp s.heap (n+3) (.ref n) (.ref (n+1)) (.ref (n+2)))(h1:s.heap.IsListIter n l1 k)(zb:s.heap.IsList l1 xs)(hx:xs[k]? =none)(hE:∀h' e,(∀c o,c≠n+5->c≠n->s.heap.get? c=some o->h'.get? c=some o)->(∃o,h'.get? e=some o/\o.cls=.type "StopIteration")->E (.ref e) {s with heap:=h'}):
  bg (model prog w) A (Builtin.«zip.__next__» ⟨[.ref (n+5)],[]⟩) Q E s:=by
 have D1:=D.a;show bg _ _ (field (.ref (n+5)) 2 >>= _) _ _ _;refine ae (eV hz rfl (x:=.bool false) rfl ?_);show bg _ _ (field (.ref (n+5)) 3 >>= _) _ _ _;refine ae (eV hz rfl (x:=.ref (n+3)) rfl ?_);refine ae (jb y9 rfl ?_);show bg _ _ (eB (.ref (n+5)) >>= _) _ _ _;refine ae ?_;unfold eB;refine ae (eV hz rfl (x:=.none) rfl (aI ?_));simp only[if_true];refine ae (ahi ?_);refine ae (eV hz rfl (x:=.ref (n+4)) rfl ?_);refine ae (cV hz (by simp) λg1 YY QQ=>?_);replace YY:x3 g1 (n+5) (n+3) (n+4) .ellipsis:=YY;refine ae ?_;simp only[Z6,aa3,JB,An];refine ae (ae (Hu ?_));show bg _ _ (mU (.ref n) >>= _) _ _ _;refine ae (aaW hh (h1.extBut QQ.extBut (nA (by omega))) (zb.extBut QQ.extBut (nA (by omega))) hx λg2 e TU he=>?_);obtain⟨oe,Wa,hce⟩:=he;have zz2:x3 g2 (n+5) (n+3) (n+4) .ellipsis:=TU _ _ (nA (by omega)) YY;have hez:e≠n+5:=λx=>by subst x;rw[zz2] at Wa;cases Wa;simp at hce
 exact cV zz2 (by simp) λg3 _ Qq=>hE g3 e (λc o c1 c3 x=>Qq.extBut _ _ c1 (TU _ _ c3 (QQ.extBut _ _ c1 x))) ⟨oe,Qq.extBut _ _ hez Wa,hce⟩
theorem IE{n l1 l2 l3:Nat}{k:Nat}{xs ys zs:Array aj}{x y z a b c:aj}{Q:Option aj->ay->Prop}(D:Z3 n l1 l2 l3)(hz:x3 s.heap (n+5) (n+3) (n+4) .none)(y9:Fp s.heap (n+3) (.ref n) (.ref (n+1)) (.ref (n+2)))(De:Fp s.heap (n+4) a b c)(h1:s.heap.IsListIter n l1 k)(h2:s.heap.IsListIter (n+1) l2 k)(h3:s.heap.IsListIter (n+2) l3 k)(zb:s.heap.IsList l1 xs)(MK:s.heap.IsList l2 ys)(Xk:s.heap.IsList l3 zs)(hx:xs[k]? =some x)(hy:ys[k]? =some y)(Nz:zs[k]? =some z)(hQ:∀h',x3 h' (n+5) (n+3) (n+4) (eQ s.heap.objs.size)->Fp h' (n+4) x y z->h'.IsListIter n l1 (k+1)->h'.IsListIter (n+1) l2 (k+1)->h'.IsListIter (n+2) l3 (k+1)->Fp h' s.heap.objs.size x y z->(∀c o,c≠n+5->c≠n+4->c≠n->c≠n+1->c≠n+2->s.heap.get? c=some o->h'.get? c=some o)->Q (some (.ref s.heap.objs.size)) {s with heap:=h'}):
  bg (model prog w) A (js (.ref (n+5))) Q E s:=by
 have hT:s.TypeIs (.ref (n+5)) "zip":=⟨_,hz,rfl⟩;unfold js;exact ae (lj (eZ (name:=aR "__next__") hT B4 (fz B4 hT al6 (ab9 D hz y9 De h1 h2 h3 zb MK Xk hx hy Nz λh' b1 b2 b3 b4 b5 b6 b7=>aI (hQ h' b1 b2 b3 b4 b5 b6 b7)) (aiO _))))
theorem KO{n l1 l2 l3:Nat}{k:Nat}{xs:Array aj}{Q:Option aj->ay->Prop}(hh:A.handled=none)(D:Z3 n l1 l2 l3)(hz:x3 s.heap (n+5) (n+3) (n+4) .none)(y9:Fp s.heap (n+3) (.ref n) (.ref (n+1)) (.ref (n+2)))(h1:s.heap.IsListIter n l1 k)(zb:s.heap.IsList l1 xs)(hx:xs[k]? =none)(hQ:∀h',(∀c o,c≠n+5->c≠n->s.heap.get? c=some o->h'.get? c=some o)->Q none {s with heap:=h'}):bg (model prog w) A (js (.ref (n+5))) Q E s:=by have hT:s.TypeIs (.ref (n+5)) "zip":=⟨_,hz,rfl⟩;unfold js;refine ae (lj (eZ (name:=aR "__next__") hT B4 (fz B4 hT al6 (aft hh D hz y9 h1 zb hx λh' e hk he=>?_) (aiO _))));obtain⟨o,ho,hc⟩:=he;exact ae (Ad (T:="StopIteration") (b:=true) ⟨o,ho,hc⟩ E6 (aI (hQ _ hk)))
end
def It3(K:ah)(a b c:af):It:=⟨λi H=>∃(xs ys zs:List V)(x y z:V),bD K H a xs/\bD K H b ys/\bD K H c zs/\xs[i]? =some x/\ys[i]? =some y/\zs[i]? =some z,λi H v H'=>∃T x y z,v=.ref T/\H T=none/\H'=upd H T (.tup [x,y,z])/\(∀xs,bD K H a xs->xs[i]? =some x)/\(∀ys,bD K H b ys->ys[i]? =some y)/\∀zs,bD K H c zs->zs[i]? =some z,λi H=>∃xs:List V,bD K H a xs/\xs.length<=i⟩
theorem aca{n c:Nat}(h:c∈([n+5,n+3,n+4,n,n+1,n+2]:List af)):n<=c/\c<=n+5:=by
 have h':c=n+5∨c=n+3∨c=n+4∨c=n∨c=n+1∨c=n+2:=by simpa using h
 omega
theorem acb{P:bo}{w:bM}{K:ah}{elts:List Expr}{kk:Nat}{ug:Pos}{a b c n:Nat}(D:Z3 n a b c):
  Turn P w K (.Tuple elts kk ug) (It3 K a b c) [n+5,n+3,n+4,n,n+1,n+2] (n+5) (λi h=>x3 h (n+5) (n+3) (n+4) .none/\Fp h (n+3) (.ref n) (.ref (n+1)) (.ref (n+2))/\(∃x y z,Fp h (n+4) x y z)/\h.IsListIter n a i/\h.IsListIter (n+1) b i/\h.IsListIter (n+2) c i) where
 mem:=by simp
 obj:=λi h st d hd=>by
  obtain⟨hz,y9,⟨x,y,z,De⟩,⟨o1,e1,_,d1⟩,⟨o2,e2,_,d2⟩,⟨o3,e3,_,d3⟩⟩:=st;have e':d=n+5∨d=n+3∨d=n+4∨d=n∨d=n+1∨d=n+2:=by simpa using hd
  rcases e' with q|q|q|q|q|q
  ·rw[q];exact⟨_,hz,λv q=>nomatch q⟩
  ·rw[q];exact⟨_,y9,λv q=>nomatch q⟩
  ·rw[q];exact⟨_,De,λv q=>nomatch q⟩
  ·rw[q];exact⟨o1,e1,λv q=>by rw[d1] at q;cases q⟩
  ·rw[q];exact⟨o2,e2,λv q=>by rw[d2] at q;cases q⟩
  ·rw[q];exact⟨o3,e3,λv q=>by rw[d3] at q;cases q⟩
 keep:=λi h h' st k=>by obtain⟨hz,y9,⟨x,y,z,De⟩,h1,h2,h3⟩:=st;exact⟨k _ (by simp) _ hz,k _ (by simp) _ y9,⟨x,y,z,k _ (by simp) _ De⟩,h1.at λo q=>k _ (by simp) o q,h2.at λo q=>k _ (by simp) o q,h3.at λo q=>k _ (by simp) o q⟩
 item:=by
  intro X hP hw hK hc i pins s σ H E I hf st hg;subst hP hw hK;obtain⟨hz,y9,⟨x0,y0,z0,De⟩,h1,h2,h3⟩:=st;obtain⟨xs,ys,zs,x,y,z,MQ,SJ,hqz,hx,hy,Nz⟩:=hg;obtain⟨its,rv,p,_⟩:=I.list MQ;obtain⟨pJ,MR,p2,_⟩:=I.list SJ;obtain⟨afv,rv3,p3,_⟩:=I.list hqz;obtain⟨u,hu,ru⟩:=rv.get hx;obtain⟨u2,hu2,ru2⟩:=MR.get hy;obtain⟨u3,hu3,ru3⟩:=rv3.get Nz;have OR:n+5<s.heap.objs.size:=bc hz;refine IE D hz y9 De h1 h2 h3 p.isList p2.isList p3.isList (x:=u) (y:=u2) (z:=u3) (by simpa using hu) (by simpa using hu2) (by simpa using hu3) λh' z' TO' h1' h2' h3' hT hk=>?_;refine⟨_,rfl,Vk (s:={s with heap:=h'}) z' λMm z'' sb=>?_⟩;have VR:Mm.get? s.heap.objs.size=some {cls:=.type "tuple",data:=.seq #[u,u2,u3]}:=(sb.2 _ (dw OR)).trans hT;have new:fB X.prog X.w (upd H s.heap.objs.size (.tup [x,y,z])) Mm s.heap.objs.size (.tup [x,y,z]):=⟨by show 3<=az;decide,[u,u2,u3],.cons ru (.cons ru2 (.cons ru3 .nil)),⟨_,VR,rfl,_,rfl⟩⟩;have I1:Inv X pins σ (upd H s.heap.objs.size (.tup [x,y,z])) {s with heap:=Mm}:=I.wk (t':=s.toks) (ch:=[n+5,n+3,n+4,n,n+1,n+2]) (λc o hb q=>(sb.2 c (λq'=>hb (by simp[q']))).trans (hk c o (λq'=>hb (by simp[q'])) (λq'=>hb (by simp[q'])) (λq'=>hb (by simp[q'])) (λq'=>hb (by simp[q'])) (λq'=>hb (by simp[q'])) q)) hf (aJ _) new;refine⟨.ref s.heap.objs.size,_,I1,rfl,⟨_,x,y,z,rfl,I.dI.fresh (aJ _),rfl,λl hl=>by rw[I.oT hl MQ];exact hx,λl hl=>by rw[I.oT hl SJ];exact hy,λl hl=>by rw[I.oT hl hqz];exact Nz⟩,⟨z'',?_,⟨u,u2,u3,?_⟩,?_,?_,?_⟩,λd hdm=>?_⟩
  ·exact(sb.2 _ (nA (by omega))).trans (hk _ _ (nA (by omega)) (nA (by omega)) (nA (by omega)) (nA (by omega)) (nA (by omega)) y9)
  ·exact(sb.2 _ (nA (by omega))).trans TO'
  ·exact h1'.at λo q=>(sb.2 _ (nA (by omega))).trans q
  ·exact h2'.at λo q=>(sb.2 _ (nA (by omega))).trans q
  ·exact h3'.at λo q=>(sb.2 _ (nA (by omega))).trans q
  ·have:=aca hdm;rw[ax (nA (.inl (bW this.2 OR)))];exact(hf d hdm).1
 done:=by
  intro X hP hw hK hc i pins s σ H E I hf st hg;subst hP hw hK;obtain⟨hz,y9,⟨x0,y0,z0,De⟩,h1,h2,h3⟩:=st;obtain⟨xs,MQ,abS⟩:=hg;obtain⟨its,rv,p,_⟩:=I.list MQ;have l1:=rv.length;have he:its.toArray[i]? =none:=by simp;omega
  exact KO (I.ok.hd hc) D hz y9 h1 p.isList he λh' hk=>⟨rfl,I.OP (t':=s.toks) (ch:=[n+5,n+3,n+4,n,n+1,n+2]) (λc o hb q=>hk c o (λq'=>hb (by simp[q'])) (λq'=>hb (by simp[q'])) q) hf⟩
 self:=λA i s Q E st h=>Ae st.1 h
def acd(K:ah)(ta:TA):TI:=λσ H R=>ta σ H λvs H1=>∃a b c xs ys zs,vs=[.ref a,.ref b,.ref c]/\bD K H1 a xs/\bD K H1 b ys/\bD K H1 c zs/\R (It3 K a b c) H1
theorem Wb{X:Cx}{e e2 e3:Expr}{ta:TA}{p pos ug:Pos}{elts:List Expr}{kk:Nat}(hg:Gl X "zip")(hm:X.mg "zip"=none)(ha:PA X [e,e2,e3] ta)(hn:[e,e2,e3].all O5=true:=by rfl):
  PI X (.Tuple elts kk ug) (.Call (.Name "zip" p) [e,e2,e3] [] pos) (acd X.K ta):=by
 intro pins s σ H R I h;rw[dW,aK] at hn;refine Call_ (uE I hg hm GR (il (iw (ha pos pins s σ H _ I h) λus s1 ⟨vs,H1,I1,r1,q1⟩=>?_) (va hn.1) (pY hn.2)));obtain⟨a,b,c,xs,ys,zs,ex,MQ,SJ,hqz,q⟩:=q1;subst ex
 cases r1 with
 |cons r rr=>
  cases rr with
  |cons r' rr=>
   cases rr with
   |cons r'' rr=>
    cases rr;cases r;cases r';cases r'';obtain⟨its,rv,p1,_⟩:=I1.list MQ;obtain⟨pJ,MR,p2,_⟩:=I1.list SJ;obtain⟨afv,rv3,p3,_⟩:=I1.list hqz;refine QP p1.isList p2.isList p3.isList λh' hz y9 De h1 h2 h3 hk=>Ae hz ?_;have I2:Inv X pins σ H1 {s1 with heap:=h'}:=I1.kept (t':=s1.toks) hk;refine⟨s1.heap.objs.size+5,[s1.heap.objs.size+5,s1.heap.objs.size+3,s1.heap.objs.size+4,s1.heap.objs.size,s1.heap.objs.size+1,s1.heap.objs.size+2],_,_,H1,rfl,I2,acb ⟨p1.lt,p2.lt,p3.lt⟩,⟨hz,y9,⟨_,_,_,De⟩,h1,h2,h3⟩,λd hdm=>?_,q⟩;have:=aca hdm;exact I1.HA this.1 (I1.dI.fresh this.1)
section
variable{g:TG}{te:TE}{vs:List Nat}{σ:L2.St}{H:Hp}{Q:VK}{K:ah}{a b c:af}
theorem range_list{n:Nat}{f:Nat->V}{r:List V}(hl:r.length=n)(h:∀i,i<n->r[i]? =some (f i)):(bY n).map f=r:=by
 apply nU;intro i;rw[aU];by_cases hi:i<n
 ·rw[Br hi,h i hi];rfl
 ·rw[c6 (by rw[dU];omega),c6 (by omega)];rfl
theorem IF{xs ys r:List V}(h1:bD K H a xs)(h2:bD K H b ys)(hlen:xs.length=ys.length)(hr:r.length=xs.length)(hn:xs.length<=az)(hs:∀(i:Nat)(x y v:V)(T:af)(H':Hp)(R:VK),xs[i]? =some x->ys[i]? =some y->r[i]? =some v->aS H H'->H' T=none->(∀H4,aS H' H4->R v H4)->g (.ref T) (wipe σ vs) (upd H' T (.tup [x,y])) λσ2 H2=>wipe σ2 vs=wipe σ vs/\te σ2 H2 R)
  (hd:∀D H',H D=none->aS H H'->H' D=some (.lst r)->Q (.ref D) H'):Xi g HL te vs σ Q (Itz K a b) H:=by
 refine En (n:=xs.length) (f:=λi=>(r[i]?).getD .gT) hn (Ny h1 h2 (aJ _) (by omega)) (Em h1 h2 (.inl (aJ _))) (λi x H' nL R hi k y hR=>?_) (λD H' d1 d2 d3=>hd D H' d1 d2 ?_)
 ·obtain⟨T,x,y,rfl,hT,rfl,ex,ey⟩:=y;have er:r[i]? =some r[i]:=au (by omega);refine hs i x y r[i] T H' R (ex _ (k.seq h1)) (ey _ (k.seq h2)) er k hT λH4 k4=>?_;have:=hR H4 k4;rw[er] at this;exact this
 ·rw[d3];refine congrArg (λz=>some (HO.lst z)) (range_list hr λi hi=>?_);rw[au (by omega)];rfl
theorem TV{xs ys zs r:List V}(h1:bD K H a xs)(h2:bD K H b ys)(h3:bD K H c zs)(MK:xs.length=ys.length)(Xk:xs.length=zs.length)(hr:r.length=xs.length)(hn:xs.length<=az)(hs:∀(i:Nat)(x y z v:V)(T:af)(H':Hp)(R:VK),xs[i]? =some x->ys[i]? =some y->zs[i]? =some z->r[i]? =some v->aS H H'->H' T=none->(∀H4,aS H' H4->R v H4)->g (.ref T) (wipe σ vs) (upd H' T (.tup [x,y,z])) λσ2 H2=>wipe σ2 vs=wipe σ vs/\te σ2 H2 R)
  (hd:∀D H',H D=none->aS H H'->H' D=some (.lst r)->Q (.ref D) H'):Xi g HL te vs σ Q (It3 K a b c) H:=by
 refine En (n:=xs.length) (f:=λi=>(r[i]?).getD .gT) hn (λi H' hi k=>?_) (λH' k=>⟨xs,k.seq h1,aJ _⟩) (λi x H' nL R hi k y hR=>?_) (λD H' d1 d2 d3=>hd D H' d1 d2 ?_)
 ·exact⟨xs,ys,zs,xs[i],ys[i],zs[i],k.seq h1,k.seq h2,k.seq h3,au (by omega),au (by omega),au (by omega)⟩
 ·obtain⟨T,x,y,z,rfl,hT,rfl,ex,ey,ez⟩:=y;have er:r[i]? =some r[i]:=au (by omega);refine hs i x y z r[i] T H' R (ex _ (k.seq h1)) (ey _ (k.seq h2)) (ez _ (k.seq h3)) er k hT λH4 k4=>?_;have:=hR H4 k4;rw[er] at this;exact this
 ·rw[d3];refine congrArg (λz=>some (HO.lst z)) (range_list hr λi hi=>?_);rw[au (by omega)];rfl
end
end Bp
namespace Bp
open PySem PySem.Spec PyProof.Rows L2
section
variable{prog:bo}{w:bM}{A:cp}{E:aj->ay->Prop}{s:ay}
theorem NA{v d:af}{o:Obj}{es:Array gR}{ep:Nat}{Q:aj->ay->Prop}(hv:s.heap.IsItemsView v d)(ho:s.heap.get? d=some o)(SF:o.data=.dict es ep)(hQ:Q (.ref s.heap.objs.size) {s with heap:=s.heap.push {cls:=.type "dict_itemiterator",data:=.fields #[.none,.bool false,.ref d,.int 0 0,.int es.size 0,.int ep 0,.none,.none]}}):
  bg (model prog w) A (OC (.ref v)) Q E s:=by
 obtain⟨ov,hov,hcv,hdv⟩:=id hv;refine aiN hv.typeIs ZP (fz ZP hv.typeIs F.entry_dict_items_iter ?_ (F.args_dict_items_iter_1 _));unfold Builtin.«dict_items.__iter__»;refine ae (aI ?_);refine ae ?_;unfold Builtin.Dict_items.dictOf;refine ae (eV hov hdv (x:=.ref d) rfl (aI ?_));refine ae ?_;unfold Builtin.Dict_items.newIterator;refine ae (lU ho SF ?_);refine ae (nY ho SF ?_);have HP:iA "dict_itemiterator"=true:=by decide
 simp only[HP,if_true];refine ir (aI ⟨_,rfl,"dict_itemiterator",_,⟨_,aT _ rfl,rfl⟩,ie.lookup,?_⟩) (by simp only[sizeOk,Hr,bA,aO,aV,aa0,PX];omega);simpa[eQ,Hr] using hQ
theorem NB{it d:af}{i ep n:Nat}{od:Obj}{es:Array gR}{en:gR}{ok ov:aj}{Q:Option aj->ay->Prop}(hit:qG s.heap it d i n ep ok ov)(Fm:s.heap.get? d=some od)(SG:od.data=.dict es ep)(hsz:es.size=n)(hx:es[i]? =some en)(hQ:∀h',WO h' it d (i+1) n ep en.key en.val s.heap.objs.size->h'.get? s.heap.objs.size=some {cls:=.type "tuple",data:=.seq #[en.key,en.val]}->(∀b o,b≠it->s.heap.get? b=some o->h'.get? b=some o)->Q (some (.ref s.heap.objs.size)) {s with heap:=h'}):
  bg (model prog w) A (js (.ref it)) Q E s:=by
 obtain⟨hp,g,dr,tk,os⟩:=s;have hT:Hv ⟨hp,g,dr,tk,os⟩ (.ref it) "dict_itemiterator":=⟨_,hit,rfl⟩;obtain⟨SH,hen⟩:=L9.mp hx;subst hen;unfold js;refine ae (lj (eZ (name:=aR "__next__") hT ie (fz ie hT Oo ?_ (Mp _))));refine ae (aI ?_);refine ae ?_;refine ae ?_;first|(refine ae (j6 hT (aI ?_)))|(refine ae (mV hT (aI ?_)))
 refine ae (E4 hit rfl ?_);have HP:iA "dict_itemiterator"=true:=by decide
 simp only[HP,if_true];show bg _ _ (if(bu d==gF)=true then _ else _) _ _ _;rw[if_neg (show¬((bu d==gF)=true) from aY)];refine ae (aI ?_);refine ae (lU Fm SG ?_);rw[if_neg (by rw[hsz];simp)];refine ae (aI ?_);refine ae (nY Fm SG ?_);rw[if_neg (by simp)];refine aI ?_;simp only[show¬((i:Int)<0) from by omega,if_false,nT,Mr SH];refine ae ?_;first|(refine ae (j6 hT (aI ?_)))|(refine ae (mV hT (aI ?_)))
 refine ae (Bl hT ?_);show bg _ _ (Me (.ref it) 3 (eQ ((i:Int)+1)) >>= _) _ _ ⟨hp,g,dr,tk,os⟩;refine ae (cV hit (by simp) λa1 e1 b1=>?_);replace b1:eE it hp a1:=b1;replace e1:qG a1 it d (i+1) n ep ok ov:=by
  have e:((i+1:Nat):Int)=(i:Int)+1:=by omega
  unfold qG;rw[e];simpa[eQ] using e1
 have Hf:Hv ⟨a1,g,dr,tk,os⟩ (.ref it) "dict_itemiterator":=⟨_,e1,rfl⟩;refine ae (gz ?_);refine ae (Bl Hf ?_);refine ae (Bl Hf ?_);show bg _ _ (L8 (.ref it) 6 es[i].key es[i].val) _ _ ⟨a1,g,dr,tk,os⟩;unfold L8;refine ae (UZ ?_);have e2:qG (a1.push {cls:=.type "tuple",data:=.seq #[es[i].key,es[i].val]}) it d (i+1) n ep ok ov:=ai _ e1;have z1:a1.objs.size=hp.objs.size:=b1.1;have Xl:it<hp.objs.size:=bc hit;have t2:(a1.push {cls:=.type "tuple",data:=.seq #[es[i].key,es[i].val]}).get? hp.objs.size=some {cls:=.type "tuple",data:=.seq #[es[i].key,es[i].val]}:=by rw[<-z1];exact aT _ rfl
 have k2:∀b o,b≠it->hp.get? b=some o->(a1.push {cls:=.type "tuple",data:=.seq #[es[i].key,es[i].val]}).get? b=some o:=λb o hb e=>ai _ (b1.extBut b o hb e);generalize a1.push {cls:=.type "tuple",data:=.seq #[es[i].key,es[i].val]}=a2 at e2 t2 k2;show bg _ _ (Hs (.ref it) >>= _) _ _ ⟨a2,g,dr,tk,os⟩;rw[z1];refine ae ?_;unfold Hs;refine ae (eV e2 rfl (x:=.none) rfl (aI ?_));simp only[if_true];refine ae (eV e2 rfl (x:=ok) rfl ?_);refine ae (eV e2 rfl (x:=ov) rfl ?_);refine ae (cV e2 (by simp) λa3 e3 b3=>?_);replace b3:eE it a2 a3:=b3;replace e3:qG a3 it d (i+1) n ep es[i].key ov:=e3;refine ae (cV e3 (by simp) λa4 e4 b4=>?_);replace b4:eE it a3 a4:=b4;replace e4:qG a4 it d (i+1) n ep es[i].key es[i].val:=e4;refine ae (cV e4 (by simp) λa5 e5 b5=>?_);replace b5:eE it a4 a5:=b5;replace e5:WO a5 it d (i+1) n ep es[i].key es[i].val hp.objs.size:=e5;refine ae (cV e5 (by simp) λa6 e6 b6=>?_);replace b6:eE it a5 a6:=b6;replace e6:WO a6 it d (i+1) n ep es[i].key es[i].val hp.objs.size:=e6;refine ae (mC (aI (aI ⟨_,rfl,aI (hQ a6 e6 ?_ ?_)⟩)))
 ·exact b6.extBut _ _ (dw Xl) (b5.extBut _ _ (dw Xl) (b4.extBut _ _ (dw Xl) (b3.extBut _ _ (dw Xl) t2)))
 ·exactλb o hb e=>b6.extBut b o hb (b5.extBut b o hb (b4.extBut b o hb (b3.extBut b o hb (k2 b o hb e))))
end
end Bp
namespace Bp
open PySem PySem.Spec PyProof.Rows L2
section
variable{prog:bo}{w:bM}{A:cp}{E:aj->ay->Prop}{s:ay}
theorem QR{it d:af}{i ep n:Nat}{od:Obj}{es:Array gR}{ok ov:aj}{Q:Option aj->ay->Prop}(hh:A.handled=none)(hit:qG s.heap it d i n ep ok ov)(Fm:s.heap.get? d=some od)(SG:od.data=.dict es ep)(hsz:es.size=n)(hx:n<=i)(hQ:∀h',adA it s.heap h'->Q none {s with heap:=h'}):bg (model prog w) A (js (.ref it)) Q E s:=by
 have hT:Hv s (.ref it) "dict_itemiterator":=⟨_,hit,rfl⟩;unfold js;refine ae (lj (eZ (name:=aR "__next__") hT ie (fz ie hT Oo ?_ (Mp _))));refine ae (aI ?_);refine ae ?_;refine ae ?_;first|(refine ae (j6 hT (aI ?_)))|(refine ae (mV hT (aI ?_)))
 refine ae (E4 hit rfl ?_);have HP:iA "dict_itemiterator"=true:=by decide
 simp only[HP,if_true];show bg _ _ (if(bu d==gF)=true then _ else _) _ _ s;rw[if_neg (show¬((bu d==gF)=true) from aY)];refine ae (aI ?_);refine ae (lU Fm SG ?_);rw[if_neg (by rw[hsz];simp)];refine ae (aI ?_);refine ae (nY Fm SG ?_);rw[if_neg (by simp)];refine aI ?_;simp only[show¬((i:Int)<0) from by omega,if_false,nT,xl (show es.size<=i by rw[hsz];exact hx)];refine ae ?_;first|(refine ae (j6 hT (aI ?_)))|(refine ae (mV hT (aI ?_)))
 show bg _ _ (Me (.ref it) 2 .none >>= _) _ _ s;refine ae (UU hit rfl (by simp) ?_);show bg _ _ (newExc (.type "StopIteration") [] >>= _) _ _ _;refine ae ?_;simp only[newExc,newTuple];refine ae (ir ?_ (by size_fits));refine ae (m:=E5 _ _) (PZ (a:=gF) (by first|rfl|(simp only[E5];rfl)) ?_);refine ir ?_ (by size_fits);simp only[raiseNew];refine ae (wpAny_handled ?_);rw[show A.in1.handled=none from hh];refine ae (aI (wpAny_throw ?_));refine ae (Ad (T:="StopIteration") (b:=true) ⟨_,aT _ rfl,rfl⟩ E6 ?_);exact aI (hQ _ (((t9 ..).extBut.push _).push _))
end
theorem IG{prog:bo}{w:bM}(d:af)(hd:(d==gb)=false):MeetsIn prog w (Builtin.«dict.items» ⟨[.ref d],[]⟩) (λ_ R s=>s.TypeIs (.ref d) "dict"/\R (.ok (.ret (.ref s.heap.objs.size))) {s with heap:=s.heap.push {cls:=.type "dict_items",data:=.fields #[.ref d]}}):=.of_wp λA R s ⟨hT,h⟩=>by unfold Builtin.«dict.items»;refine ae ?_;unfold Builtin.Dict.noArgs;refine ae (aaT hT ?_);show bg _ _ (pure d) _ _ s;refine aI ?_;show bg _ _ (qx d >>= _) _ _ s;unfold qx;rw[if_neg (by rw[hd];exact aY)];exact ae (aI (ae (ir (aI ⟨_,rfl,h⟩))))
def ace(d:af)(o:Obj)(kvs:List (List Key×V)):It:=⟨λi H=>H d=some (.uD o (.dT kvs))/\i<kvs.length,λi H x H'=>∃(T q:af)(k:List Key)(v:V),kvs[i]? =some (k,v)/\x=.ref T/\H q=some (.tup (k.map kV))/\H T=none/\H'=upd H T (.tup [.ref q,v]),λi H=>H d=some (.uD o (.dT kvs))/\kvs.length<=i⟩
theorem TX{X:Cx}{pins:List (af×Obj)}{σ:L2.St}{H:Hp}{s:ay}{d:af}{o:Obj}{kvs:List (List Key×V)}(I:Inv X pins σ H s)(h:H d=some (.uD o (.dT kvs))):(d==gb)=false/\s.heap.get? d=some o/\o.ExactDict/\∃(es:Array gR)(ep:Nat),o.data=.dict es ep/\es.size=kvs.length/\
   ∀(i:Nat)(k:List Key)(v:V),kvs[i]? =some (k,v)->∃(en:gR)(q:af),es[i]? =some en/\en.key=.ref q/\H q=some (.tup (k.map kV))/\RelV v en.val:=by
 obtain⟨hd,z,hs,xs,pr,o',es,ep,ho,hx,Fq,he,_⟩:=I.dI d _ h;rw[hd] at ho;cases ho;refine⟨hs,hd,hx,es,ep,Fq,?_,λi k v e=>?_⟩
 ·have l1:es.size=xs.length:=am5 he;have l2:kvs.length=xs.length:=qL pr;omega
 ·obtain⟨b,hb,e1,e2,e3⟩:=MP pr e;have q:=entry_at he i;rw[hb] at q;exact⟨_,b.2.1,q,rfl,e2,e3⟩
section
variable{P:bo}{w:bM}{K:ah}{d:af}{o:Obj}{es:Array gR}{ep:Nat}
theorem KP{kvs:List (List Key×V)}{elts:List Expr}{kk:Nat}{ug:Pos}(it:af)(Fm:o.data=.dict es ep):
  Turn P w K (.Tuple elts kk ug) (ace d o kvs) [it] it (λi h=>∃ok ov,qG h it d i kvs.length ep ok ov) where
 mem:=by simp
 obj:=λi h st b hb=>by
  have e:b=it:=by simpa using hb
  subst e;obtain⟨ok,ov,e⟩:=st;exact⟨_,e,λv z=>nomatch z⟩
 keep:=λi h h' st k=>let⟨ok,ov,e⟩:=st;⟨ok,ov,k it (by simp) _ e⟩
 item:=by
  intro X hP hw hK hc i pins s σ H E I hf st hg;subst hP hw hK;obtain⟨hd,hi⟩:=hg;obtain⟨hs,Y1,hx,WV,WW,Fq,hsz,ent⟩:=TX I hd;obtain⟨rfl,rfl⟩:=OQ Fm Fq;obtain⟨⟨k,v⟩,RA⟩:∃p,kvs[i]? =some p:=⟨kvs[i],au hi⟩;obtain⟨en,q,hen,HB,hq,rv⟩:=ent i k v RA;obtain⟨ok,ov,he⟩:=st;have og:it<s.heap.objs.size:=bc he;refine NB he Y1 Fq hsz hen λh' ho hT hk=>?_;refine⟨_,rfl,wpAny_letOwnedTupleGo_items (s:={s with heap:=h'}) ho λMm qB sb=>?_⟩;have VR:Mm.get? s.heap.objs.size=some {cls:=.type "tuple",data:=.seq #[en.key,en.val]}:=(sb.2 _ (dw og)).trans hT;have new:fB X.prog X.w (upd H s.heap.objs.size (.tup [.ref q,v])) Mm s.heap.objs.size (.tup [.ref q,v]):=⟨by show 2<=az;decide,[en.key,en.val],.cons HB (.cons rv .nil),⟨_,VR,rfl,_,rfl⟩⟩;have I1:Inv X pins σ (upd H s.heap.objs.size (.tup [.ref q,v])) {s with heap:=Mm}:=I.wk (t':=s.toks) (ch:=[it]) (λb ob hb e=>(sb.2 b (by simpa using hb)).trans (hk b ob (by simpa using hb) e)) hf (aJ _) new;refine⟨.ref s.heap.objs.size,_,I1,rfl,⟨_,q,k,v,RA,rfl,hq,I.dI.fresh (aJ _),rfl⟩,⟨en.key,en.val,qB⟩,λb hb=>?_⟩;have e:b=it:=by simpa using hb
  rw[e,ax (bR og)];exact(hf it (by simp)).1
 done:=by intro X hP hw hK hc i pins s σ H E I hf st hg;subst hP hw hK;obtain⟨hd,hi⟩:=hg;obtain⟨f0,f1,f2,f3,f4,f5⟩:=hf it (by simp);obtain⟨hs,Y1,hx,WV,WW,Fq,hsz,ent⟩:=TX I hd;obtain⟨rfl,rfl⟩:=OQ Fm Fq;obtain⟨ok,ov,he⟩:=st;exact QR (I.ok.hd hc) he Y1 Fq hsz hi λh' eb=>⟨rfl,I.turned (t':=s.toks) (λb ob hb e=>eb b ob hb e) f0 f1 f3 f4 f5⟩
 self:=λA i s Q E st h=>let⟨_,_,e⟩:=st;PySem.W.kcp_self e h
end
def afx(td:TE):TE:=λσ H Q=>td σ H λx H1=>∃d u,x=.ref d/\H1 d=some u/\XU (some u)/\∀od,Q (.ref d) (upd H1 d (.uD od u))
def Wc(td:TE):TI:=λσ H R=>td σ H λx H1=>∃d o kvs,x=.ref d/\H1 d=some (.uD o (.dT kvs))/\R (ace d o kvs) H1
section
variable{X:Cx}{tg e:Expr}{td:TE}{apos l5:Pos}
theorem Y2(he:PE X e td):PE X e (afx td):=λpins s σ H Q I h=>iw (he pins s σ H _ I h) λu s1 ⟨x,H1,I1,rx,d,ob,ex,hd,mu,q⟩=>by subst ex;obtain⟨od,I2⟩:=I1.lock hd mu;exact⟨.ref d,_,I2,rx,q od⟩
theorem QS{elts:List Expr}{kk:Nat}{ug:Pos}(he:PE X e td)(nt:fU e "items" X.env (eval e X.env)=eval e X.env:=by rfl)(gC:(apos.endLine==l5.line)=true:=by rfl):
  PI X (.Tuple elts kk ug) (.Call (.Attribute e "items" apos) [] [] l5) (Wc td):=by
 intro pins s σ H R I h;refine Mb (T:="dict") (id:="dict.items") nt rfl gC aiP aiQ F.type_dict_items (iw (he pins s σ H _ I h) λu s1 ⟨x,H1,I1,rx,d,o,kvs,ex,hd,q⟩=>?_);subst ex;obtain rfl:u=bu d:=rx;obtain⟨hs,Y1,hx,es,ep,Fq,hsz,ent⟩:=TX I1 hd;have hT:s1.TypeIs (.ref d) "dict":=⟨o,Y1,hx.1⟩;refine⟨hT,λa ea=>?_,?_⟩
 ·cases ea;exact⟨o,Y1,hx.2.1⟩
 have I2:Inv X pins σ H1 {s1 with heap:=s1.heap.push {cls:=.type "dict_items",data:=.fields #[.ref d]}}:=I1.kept (t':=s1.toks) λb ob q=>ai _ q;have fin:bg (model X.prog X.w) X.A (OC (.ref s1.heap.objs.size)) (PIE X pins σ (.Tuple elts kk ug) R) X.xe {s1 with heap:=s1.heap.push {cls:=.type "dict_items",data:=.fields #[.ref d]}}:=by refine NA (d:=d) ⟨_,aT _ rfl,rfl,rfl⟩ (ai _ Y1) Fq (MN (tk:=s1.toks) I2 _ (KP _ Fq) ⟨.none,.none,?_⟩ q);rw[<-hsz];exact aT _ rfl
 show bg _ _ (pI l5 (.builtin "dict.items") [.ref d] [] []) _ X.xe s1;exact method_meetsIn aiQ F.entry_dict_items rfl (Vp ⟨rfl,hT,F.args_dict_items_1 _,_,IG d hs,hT,fin⟩)
end
end Bp
namespace Bp
open PySem PySem.Spec PyProof.Rows L2 Bm
theorem TY{k:Key}{v:aj}(h:xp k v=true):v.scannable=true:=by rcases gS h with⟨i,t,rfl,rfl⟩|⟨x,t,rfl,rfl⟩<;>rfl
section
variable{prog:bo}{w:bM}{A:cp}{R:aaf->ay->Prop}{I:af}{fp wr:List af}{G:Array adB->Array adB->Prop}{n:Nat}{P:Nat->aj->Prop}{St:Nat->ay->Prop}
abbrev Eo(prog:bo)(w:bM)(h:cu)(S:af)(l:List Key):Prop:=h.SetOf (gc prog w) S (λk=>l.any λx=>decide (x=k)) l.length
theorem TZ{h:cu}{a:af}{S S':Key->Bool}{n n':Nat}(hS:h.SetOf (gc prog w) a S n)(e:∀k,S k=S' k)(en:n=n'):h.SetOf (gc prog w) a S' n':=by obtain rfl:S=S':=funext e;subst en;exact hS
theorem Wd{l:List Key}{k:Key}:(l.any λx=>decide (x=k))=true↔k∈l:=by simp
theorem Eo.keep{h h':cu}{S:af}{l:List Key}(x:Eo prog w h S l)(k:∀o,h.get? S=some o->h'.get? S=some o):Eo prog w h' S l:=by obtain⟨o,es,ep,t,ho,rest⟩:=x;exact⟨o,es,ep,t,k _ ho,rest⟩
theorem Y3(W:WalksS prog w A.in1 I fp wr G n P St)(S:af)(hSf:S∉fp)(ks:List Key)(hn:ks.length=n)(afy:∀i v,P i v->∃k,ks[i]? =some k/\xp k v=true)(hb:n+1<FC):
  ∀(k i:Nat)(s:ay),n-i=k->i<=n->St i s->Eo prog w s.heap S (dd (ks.take i))->
   (∀s',Moved (S::wr) G s s'->Eo prog w s'.heap S (dd ks)->R (.ok (.ret .none)) s')->qO (model prog w) A (.builtin "set.update.loop" ⟨[.ref S,.ref I],[]⟩) R s:=by
 have hSw:S∉wr:=λh=>hSf (W.sub _ h);have sQ:∀b∈wr,b∈S::wr:=λb hb=>.tail _ hb;intro k
 induction k with
 |zero=>
  intro i s hk hi gu hS hR;have hin:i=n:=by omega
  subst hin;refine fX al2 ?_;rw[gf Fw _];show bg _ A.in1 (js (.ref I) >>= _) _ _ s;refine ae (W.done s _ _ gu λs' hm=>?_);show bg _ A.in1 (ret gF) _ _ s';refine aI (hR s' (hm.mono sQ) ?_);rw[bH (by omega)] at hS;exact hS.keep λo ho=>hm.heap S o hSw ho
 |succ k ih=>
  intro i s hk hi gu hS hR;have og:i<n:=by omega
  refine fX al2 ?_;rw[gf Fw _];show bg _ A.in1 (js (.ref I) >>= _) _ _ s;refine ae (W.item i s _ _ og gu λv s' hP n9 hm=>?_);obtain⟨ky,hky,RA⟩:=afy i v hP;have Vf:Eo prog w s'.heap S (dd (ks.take i)):=hS.keep λo ho=>hm.heap S o hSw ho;show bg _ A.in1 (holding [v] (setAdd S v) >>= _) _ _ s';refine ae (gz ?_);unfold setAdd;refine gz ?_;refine ae ((gc prog w).pyHash (k:=ky) RA ?_);have KQ:(dd (ks.take i)).length+1<FC:=by have h1:=S2 (ks.take i);rw[cK] at h1;have:min i ks.length<=i:=aa4 ..;omega
  refine wpAny_setAddHashed_of (knd:=gc prog w) (s:={s' with toks:=s'.toks+1}) RA (TY RA) Vf KQ λh' hsb RB=>?_;have et:ks.take (i+1)=ks.take i++[ky]:=by rw[dq,hky];rfl
  have hSi:Eo prog w h' S (dd (ks.take (i+1))):=by
   rw[et,HV];refine TZ RB (λk'=>?_) ?_
   ·rw[mI,g8,Wd,Wd,OX,decide_eq_true_eq]
   ·unfold BB;by_cases q:ky∈dd (ks.take i)
    ·rw[if_pos q];show(if(_:Bool)=true then _ else _)=_;rw[if_pos (Wd.mpr q)]
    ·rw[if_neg q];show(if(_:Bool)=true then _ else _)=_;rw[if_neg (λz=>q (Wd.mp z)),aO];rfl
  refine aI ⟨nR Fw _,ih (i+1) _ (by omega) og (W.frame _ s' _ _ n9 (U4 _) λb hb o e=>?_) hSi λs'' afA afB=>?_⟩
  ·rw[hsb.2 b (λh:b=S=>hSf (by rw[<-h];exact hb))];exact e
  ·refine hR s'' (Moved.trans W.gtrans ((hm.mono sQ).then_heap (U4 _) λb o hb e=>?_) afA) afB;rw[hsb.2 b (λh:b=S=>hb (by rw[h];exact c7))];exact e
end
section
variable{prog:bo}{w:bM}{A:cp}{E:aj->ay->Prop}{s:ay}
theorem KR{l:af}{items:Array aj}{ks:List Key}{Q:aj->ay->Prop}(hh:A.handled=none)(hl:s.heap.IsList l items)(hn:ks.length=items.size)(hi:∀(i:Nat)(v:aj),items[i]? =some v->∃k,ks[i]? =some k/\xp k v=true)(hb:items.size+1<FC)(h:∀(h':cu)(tk:Nat),Eo prog w h' s.heap.objs.size (dd ks)->(∀b o,b<s.heap.objs.size->s.heap.get? b=some o->h'.get? b=some o)->Q (.ref s.heap.objs.size) {s with heap:=h',toks:=tk}):
  bg (model prog w) A (call (.type "set") [.ref l]) Q E s:=by
 obtain⟨c,tl,afC⟩:=mO.mro;have acg:=mO.made;have sQ:=mO.sub;refine Jx (am6 ?_);show bg _ _ (callAny (.type "set") _) _ _ _;refine aI ⟨Jv _ (by decide+kernel),fX aiR ?_⟩;rw[ahd (aaX "set" [.ref l] []) rfl];have h1:=mO.notType;have h2:=mO.canCreate;have hct:=F.typeCall_set_1 (.ref l)
 repeat (any_goals(first|assumption|wp_step))
 refine kH (code_set_new_1 (.ref l) (E:=E) (Q₁:=λobj s₁=>∃led:Bool,obj=.ref s.heap.objs.size/\s₁={s with heap:=s.heap.push {cls:=.type "set",dict:=none,data:=.set #[] 0 (.fresh 0 0 led)}}) λled=>⟨led,rfl,rfl⟩) λr s1 hr=>?_
 cases r with
 |error e=>exact hr
 |ok fl=>
  cases fl with
  |ret obj=>
   obtain⟨led,rfl,rfl⟩:=hr;generalize hso:({cls:=.type "set",dict:=none,data:=.set #[] 0 (.fresh 0 0 led)}:Obj)=so;have hS:(s.heap.push so).get? s.heap.objs.size=some so:=aT _ (by subst hso;rfl);have hT:Hv {s with heap:=s.heap.push so} (.ref s.heap.objs.size) "set":=⟨_,hS,by subst hso;rfl⟩;have hli:=mO.init.lookup;have hbi:=mO.init.bind (.ref s.heap.objs.size)
   repeat (any_goals(first|assumption|wp_step))
   refine kH (E3 (R:=wants (λr s2=>r=.none/\∃h' tk,s2={s with heap:=h',toks:=tk}/\Eo prog w h' s.heap.objs.size (dd ks)/\(∀b o,b<s.heap.objs.size->s.heap.get? b=some o->h'.get? b=some o)) E) mO.init.plain F.entry_set_init (check_set_init_1 hT ?_)) λr2 s2 JD=>?_
   ·obtain⟨ol,We,uB,nl,Y4⟩:=hl;obtain⟨ajO,ach,ahP,Y5⟩:=ol;simp only at uB Y4;subst uB;subst Y4;subst hso;have afE:(s.heap.push {cls:=.type "set",dict:=none,data:=.set #[] 0 (.fresh 0 0 led)}).get? l=some {cls:=.type "list",dict:=ach,data:=.seq items nl,slots:=Y5}:=ai _ We;have ajP:=F.sub_list_set;have ajQ:=F.sub_list_frozenset;have kJ:(mE "list"==mE "dict")=false:=by decide
    have zb:(s.heap.push {cls:=.type "set",dict:=none,data:=.set #[] 0 (.fresh 0 0 led)}).IsList l items:=⟨_,afE,rfl,nl,rfl⟩;unfold Builtin.«set.__init__» noKeywords Builtin.Frozenset.updateFrom;generalize hPI:OC=PI;wp_walk;subst hPI;refine fK zb ?_;refine ae (wpAny_runValue ?_);have hlS:l<s.heap.objs.size:=bc We;have hh3:A.in1.in1.in1.handled=none:=by simp[hh]
    have afF:l≠(s.heap.push {cls:=.type "set",dict:=none,data:=.set #[] 0 (.fresh 0 0 led)}).objs.size:=by rw[cH];exact bR (kr hlS)
    have hSf:s.heap.objs.size∉[(s.heap.push {cls:=.type "set",dict:=none,data:=.set #[] 0 (.fresh 0 0 led)}).objs.size,l]:=by rw[cH];simp only[aA,bX,ff,or_false,not_or];exact⟨bR (oH _),dw hlS⟩
    refine Y3 ((Jz hh3 _ l afF items).toS) s.heap.objs.size hSf ks hn hi hb (items.size-0) 0 _ (by omega) (bB _) ⟨⟨_,aT _ rfl,rfl,rfl⟩,(zb.push _)⟩ ?_ ?_
    ·have KS:((s.heap.push {cls:=.type "set",dict:=none,data:=.set #[] 0 (.fresh 0 0 led)}).push {cls:=.type "list_iterator",data:=.fields #[.ref l,.int 0 0]}).get? s.heap.objs.size=some {cls:=.type "set",dict:=none,data:=.set #[] 0 (.fresh 0 0 led)}:=ai _ hS;exact⟨_,_,_,_,KS,⟨rfl,rfl,rfl⟩,rfl,λe he=>(by simp at he),λk=>⟨λz=>(by cases z),λ⟨e,he,_⟩=>(by simp at he)⟩,(by show 0<FC;decide),rfl,rfl⟩
    ·intro s' hm Vf;obtain⟨h',g',d',Wf,os'⟩:=s';have eg:g'=s.gens:=hm.gens;have ed:d'=s.drawn:=hm.drawn;have eo:os'=s.os:=hm.os;subst eg;subst ed;subst eo;show bg _ _ _ _ _ _;refine aI ?_;show bg _ _ (ret gF) _ _ _;refine aI ⟨rfl,h',Wf,rfl,Vf,λb o hb e=>?_⟩;have hb1:b≠s.heap.objs.size:=bR hb;have hb2:b≠(s.heap.push {cls:=.type "set",dict:=none,data:=.set #[] 0 (.fresh 0 0 led)}).objs.size:=by rw[cH];exact bR (kr hb)
     exact hm.heap b o (by simp only[aA,bX,ff,or_false,not_or];exact⟨hb1,hb2⟩) (ai _ (ai _ e))
   ·cases r2 with
    |error e=>exact JD
    |ok fl2=>
     cases fl2 with
     |ret r=>
      obtain⟨rfl,h',tk,rfl,Vf,JY⟩:=JD
      repeat (any_goals(first|assumption|wp_step))
      exact h _ _ Vf JY
     |_=>exact JD.elim
  |_=>exact hr.elim
end
end Bp
namespace Bp
open PySem PySem.Spec PyProof.Rows L2 Bm
section
variable{X:Cx}
def T2(P:bo)(w:bM)(a:af)(l:List Key):HO:=.ext λh=>Eo P w h a l
theorem Wg(P:bo)(w:bM){ks:List Key}{its:List aj}(rv:Vals (ks.map kV) its)(i:Nat)(v:aj)(h:its.toArray[i]? =some v):∃k,ks[i]? =some k/\xp k v=true:=by
 have hl:=rv.length;rw[aa] at hl;have h':its[i]? =some v:=by simpa using h
 have hi:i<its.length:=(b9.mp h').1;have e:(ks.map kV)[i]? =some (kV ks[i]):=by rw[aU,au (by omega)];rfl
 obtain⟨u,hu,r⟩:=rv.get e;rw[h'] at hu;cases hu;exact⟨ks[i],au (by omega),C9 (P:=P) (w:=w) r⟩
theorem KU(hc:X.calm=true):kj X (.type "set") (λxs H Q=>∃(a:af)(ks:List Key),xs=[.ref a]/\bD X.K H a (ks.map kV)/\ks.length<4000/\∀p,H p=none->Q (.ref p) (upd H p (T2 X.prog X.w p (dd ks)))):=by intro pins s σ H xs us Q I r h;obtain⟨a,ks,rfl,hs,hn,q⟩:=h;rw[Vals.HJ r];obtain⟨its,rv,pl,_⟩:=I.list hs;have hl:=rv.length;rw[aa] at hl;refine KR (I.ok.hd hc) pl.isList (by simpa using hl) (λi v h=>Wg X.prog X.w rv i v h) (by unfold FC;simp;omega) λh' tk hS hk=>?_;have kp:∀b u,s.heap.get? b=some u->h'.get? b=some u:=λb u e=>hk b u (bc e) e;have Vf:=hS;obtain⟨o,es,ep,t,ho,_⟩:=Vf;exact⟨.ref s.heap.objs.size,_,I.laid (t':=tk) kp (aJ _) (show fB X.prog X.w _ h' _ (T2 X.prog X.w s.heap.objs.size (dd ks)) from⟨hS,⟨o,ho⟩,λh1 h2 x k=>Eo.keep x k⟩),rfl,q _ (I.dI.fresh (aJ _))⟩
theorem Hg:kj X (.builtin "len") (λxs H Q=>∃(a:af)(ks:List Key),xs=[.ref a]/\H a=some (T2 X.prog X.w a ks)/\Q (.int ks.length) H):=by intro pins s σ H xs us Q I r h;obtain⟨a,ks,rfl,hs,q⟩:=h;rw[Vals.HJ r];have ok:fB X.prog X.w H s.heap a (T2 X.prog X.w a ks):=I.dI a _ hs;obtain⟨⟨o,es,ep,t,ho,hx,hd,Y6,hm,hb,hf,hn⟩,_⟩:=ok;exact call_len_set ho hx hd hf (by unfold FC at hb;omega) ⟨.int ks.length,H,I.tok _,⟨_,by rw[hn]⟩,q⟩
theorem QT:MtR X "list.count" (λx xs H Q=>∃(a:af)(ys:List V)(y:V),x=V.ref a/\xs=[y]/\bD X.K H a ys/\pR y=true/\ys.all pR=true/\Q (.int ((ys.countP λz=>OM z y:Nat):Int)) H):=by
 intro pins s σ H x xs v us Q I rx rxs h;obtain⟨a,ys,y,rfl,rfl,hs,fy,fys,q⟩:=h;cases rx;obtain⟨uy,rfl,ry⟩:=vals1 rxs;obtain⟨its,rv,⟨⟨cls,dd,data,sl⟩,n,ho,hc,hdn,hd⟩,hlen⟩:=I.list hs;simp only at hc hd;subst hc hd;refine Bt PV ⟨_,ho,rfl⟩ PySem.F.entry_list_count (PySem.F.args_list_count_2 _ _) (SeqAt.list_countAt a its.toArray n dd sl uy (Rz y)) ⟨ho,λu' hu'=>zd ry fy rv fys u' (by simpa using hu'),?_⟩;have e:its.toArray.toList.countP (Rz y)=ys.countP λz=>OM z y:=by
  clear ho hlen hs q hdn;show its.countP (Rz y)=_
  induction rv with
  |nil=>rfl
  |cons r t ih=>rename_i z u zs us;rw[dW,aK] at fys;rw[Z7,Z7,ih fys.2,MJ r fys.1]
 exact⟨.int _,H,I.tok _,⟨_,by rw[e]⟩,q⟩
def VwO(p d:af):HO:=.ext λh=>h.IsValuesView p d
theorem Wh{e:Expr}{td:TE}{apos l5:Pos}(he:PE X e td)(nt:fU e "values" X.env (eval e X.env)=eval e X.env:=by rfl)(gC:(apos.endLine==l5.line)=true:=by rfl):
  PE X (.Call (.Attribute e "values" apos) [] [] l5) (λσ H Q=>td σ H λx H1=>∃d kvs,x=.ref d/\H1 d=some (.dK kvs)/\∀p,H1 p=none->Q (.ref p) (upd H1 p (VwO p d))):=by
 intro pins s σ H Q I h;refine Mb (T:="dict") (id:="dict.values") nt rfl gC aiP ahe F.type_dict_values (iw (he pins s σ H _ I h) λu s1 ⟨x,H1,I1,rx,d,kvs,ex,hd,q⟩=>?_);subst ex;obtain rfl:u=bu d:=rx;obtain⟨_,hs,vs,kv,hm⟩:=Sx I1.dI hd;refine⟨hm.typeIs,hm.mapOf.noDict,?_⟩;have fin:EP X pins σ Q (.ref s1.heap.objs.size) {s1 with heap:=s1.heap.push {cls:=.type "dict_values",data:=.fields #[.ref d]}}:=by refine⟨.ref s1.heap.objs.size,_,I1.laid (t':=s1.toks) (λb ob q=>ai _ q) (aJ _) ?_,rfl,q _ (I1.dI.fresh (aJ _))⟩;refine⟨⟨_,aT _ rfl,rfl,rfl⟩,⟨_,aT _ rfl⟩,λh1 h2 ⟨o,ho,x⟩ k=>⟨o,k o ho,x⟩⟩
 show bg _ _ (pI l5 (.builtin "dict.values") [.ref d] [] []) _ X.xe s1;exact method_meetsIn ahe F.entry_dict_values rfl (Vp ⟨rfl,hm.typeIs,F.args_dict_values_1 _,_,meets_dict_values (gc X.prog X.w) d hs,⟨vs,hm⟩,fin⟩)
theorem Ep(hc:X.calm=true):kj X (.type "list") (λxs H Q=>∃p d kvs,xs=[.ref p]/\H p=some (VwO p d)/\H d=some (.dK kvs)/\∀l,H l=none->Q (.ref l) (upd H l (.lst (kvs.map (·.2))))):=by
 intro pins s σ H xs us Q I r h;obtain⟨p,d,kvs,rfl,hp,hd,q⟩:=h;rw[Vals.HJ r];obtain⟨hz,_,vs,kv,hm⟩:=Sx I.dI hd;obtain⟨ep,hat⟩:=hm.dictAt;have okv:fB X.prog X.w H s.heap p (VwO p d):=I.dI p _ hp;have hl:kvs.length=vs.length:=qL kv;refine PySem.W.kdl_call (PySem.W.kdl_values (knd:=gc X.prog X.w) (kvs:=vs) (ep:=ep)) (I.ok.hd hc) ⟨okv.1,hat⟩ (by omega) λh' tk acc c hk hD wV=>?_;have ev:acc.toList=vs.map (·.2):=PySem.W.kdl_vals_eq acc.toList (by rw[ig];exact wV.1) λj v e=>wV.2 j v (by rw[<-oy];exact e);have hv:Vals (kvs.map (·.2)) acc.toList:=by
  rw[ev];unfold KV at kv;clear hz hl hm hat hd q ev wV
  induction kv with
  |nil=>exact .nil
  |cons r t ih=>exact .cons r.2 ih
 refine⟨.ref s.heap.objs.size,_,I.laid (t':=tk) hk (aJ _) (show fB X.prog X.w _ h' _ (.lst (kvs.map (·.2))) from⟨by rw[aa];exact hz,acc.toList,c,hv,?_⟩),rfl,q _ (I.dI.fresh (aJ _))⟩;rw[hD]
theorem QU:kj X (.builtin "isinstance") (λxs H Q=>∃(x:V)(C:af)(t:aj)(b:Bool),xs=[x,.ref C]/\AB X.K H x t/\Al X.K t (.ref C)=some b/\Q (.bl b) H):=by
 intro pins s σ H xs us Q I r h;obtain⟨x,C,t,b,rfl,ty,e,q⟩:=h;obtain⟨u,w',rfl,rx,rc⟩:=vals2 r;cases rc;exact Qi I rx ty e λtk=>⟨.bl b,H,I.tok tk,rfl,q⟩
end
end Bp
namespace Bp
open PySem PySem.Spec PyProof.Rows L2 Bm
section
variable{P:bo}{w:bM}{K:ah}{mg:Str->Option aj}{base:cu}{A:Cl}
def NC:Sp:=λvs H Q _=>∃b:Nat,vs=[.int (b:Nat)]/\Q (.str (sN [sg b])) H
abbrev Wi:Str:="abcdefghijklmnopqrstuvwxyz"
abbrev Wj:Str:="0123456789"
theorem ND{b:Nat}(h:97<=b)(h':b<=122):Qm Wi.cps.toList ((b:Int)-97)=some b:=by
 obtain⟨j,hj⟩:∃j:Nat,b=97+j:=⟨b-97,by omega⟩;subst hj;have hj:j<26:=by omega
 have all:∀j:_root_.Fin 26,Qm Wi.cps.toList (((97+j.val:Nat):Int)-97)=some (97+j.val):=by decide+kernel
 exact all ⟨j,hj⟩
theorem QV{b:Nat}(h:48<=b)(h':b<=57):Qm Wj.cps.toList ((b:Int)-48)=some b:=by
 obtain⟨j,hj⟩:∃j:Nat,b=48+j:=⟨b-48,by omega⟩;subst hj;have hj:j<10:=by omega
 have all:∀j:_root_.Fin 10,Qm Wj.cps.toList (((48+j.val:Nat):Int)-48)=some (48+j.val):=by decide+kernel
 exact all ⟨j,hj⟩
theorem NF(T:Txt K mg A):Def P w K mg base "sign_of" 1 ["byte"] NC:=by
 refine T.zB.sign_of.ok Nw (λvs H Q E h=>?_) (λf eC A' outer s H vs Q E hr h=>?_)
 ·obtain⟨b,rfl,_⟩:=h;rfl
 ·obtain⟨b,rfl,k⟩:=h;refine⟨_,(aw (dj (cB ji (pv 0) (cU T.k.ab2 rfl) (cx _)) (aF (aX eX)) bO) (aw (dj (zc ip ip (cD oV (by rfl) T.b.D7 yl (aH eX ao)) (pv 0) (cD oV (by rfl) T.b.D7 yl (aH eX ao))) (aF (aX (eG MI (cU T.k.O9 rfl) (fh uG (pv 0) (cD oV (by rfl) T.b.D7 yl (aH eX ao))) (λ_ _=>rfl)))) bO) (aw (dj (zc ip ip (cD oV (by rfl) T.b.D7 yl (aH eX ao)) (pv 0) (cD oV (by rfl) T.b.D7 yl (aH eX ao))) (aF (aX (eG MI (cU T.k.Tx rfl) (fh uG (pv 0) (cD oV (by rfl) T.b.D7 yl (aH eX ao))) (λ_ _=>rfl)))) bO) (aF (aX eX))))),?_⟩;refine⟨_,rfl,rfl,_,rfl,fC (λh1=>?_) (λh1=>?_)⟩
  ·have e:b=32:=by
    injection h1 with this
    omega
   subst e;exact k
  ·have e:¬b=32:=λe=>h1 (by rw[e];rfl);have hl:∀c:Nat,sg b=c->Q (.str (sN [c])) H:=λc q=>by rw[<-q];exact k
   refine⟨_,rfl,by decide,_,rfl,_,_,rfl,rfl,_,rfl,fC (λh2=>?_) (λh2=>?_)⟩
   ·have h2:97<=b:=by have:(97:Int)<=b:=h2;omega
    refine⟨_,rfl,by decide,_,_,rfl,rfl,_,rfl,fC (λh3=>?_) (λh3=>?_)⟩
    ·have h3:b<=122:=by have:(b:Int)<=122:=h3;omega
     refine⟨_,rfl,_,rfl,by decide,_,_,rfl,rfl,_,_,_,rfl,rfl,by decide,ND h2 h3,hl b ?_⟩;unfold sg;rw[if_neg e,if_pos ⟨h2,h3⟩]
    ·have h3:¬b<=122:=by have:¬(b:Int)<=122:=h3;omega
     refine⟨_,rfl,by decide,_,rfl,_,_,rfl,rfl,_,rfl,fC (λh4=>?_) (λh4=>?_)⟩
     ·refine⟨_,rfl,by decide,_,_,rfl,rfl,_,rfl,fC (λh5=>?_) (λh5=>?_)⟩
      ·have h5:(b:Int)<=57:=h5;omega
      ·refine hl 63 ?_;unfold sg;rw[if_neg e,if_neg (by omega),if_neg (by omega)]
     ·refine⟨_,rfl,kK ?_⟩;have h4:¬(48:Int)<=b:=h4;omega
   ·have h2:¬97<=b:=by have:¬(97:Int)<=b:=h2;omega
    refine⟨_,rfl,kK ?_⟩;refine⟨_,rfl,by decide,_,rfl,_,_,rfl,rfl,_,rfl,fC (λh4=>?_) (λh4=>?_)⟩
    ·have h4:48<=b:=by have:(48:Int)<=b:=h4;omega
     refine⟨_,rfl,by decide,_,_,rfl,rfl,_,rfl,fC (λh5=>?_) (λh5=>?_)⟩
     ·have h5:b<=57:=by have:(b:Int)<=57:=h5;omega
      refine⟨_,rfl,_,rfl,by decide,_,_,rfl,rfl,_,_,_,rfl,rfl,by decide,QV h4 h5,hl b ?_⟩;unfold sg;rw[if_neg e,if_neg (by omega),if_pos ⟨h4,h5⟩]
     ·have h5:¬b<=57:=by have:¬(b:Int)<=57:=h5;omega
      refine hl 63 ?_;unfold sg;rw[if_neg e,if_neg (by omega),if_neg (by omega)]
    ·have h4:¬48<=b:=by have:¬(48:Int)<=b:=h4;omega
     refine⟨_,rfl,kK ?_⟩;refine hl 63 ?_;unfold sg;rw[if_neg e,if_neg (by omega),if_neg (by omega)]
def KW:Sp:=λvs H Q _=>∃l:aG,vs=[.str (sN l)]/\l.length<=az/\∀D H',H D=none->aS H H'->H' D=some (.lst (gP l))->Q (.ref D) H'
theorem wz(l:aG):(sN l).cps.size=l.length:=by unfold sN;simp
theorem NG{l:aG}{i c:Nat}(h:(sN l).cps[i]? =some c):l[i]? =some c:=by unfold sN at h;simpa using h
theorem KY(T:Txt K mg A):Def P w K mg base "bytes_of" 1 ["text"] KW:=by
 refine T.zB.Tu.ok vD (λvs H Q E h=>?_) (λf eC A' outer s H vs Q E hr h=>?_)
 ·obtain⟨b,rfl,_⟩:=h;rfl
 ·obtain⟨l,rfl,hl,k⟩:=h;refine⟨_,(aF (aX (gU rfl (own:=[("sign",1)]) vD.nd (MO (pv 0)) (cM (by kernel_rfl)) (λ_ _ _ _ _=>(bQ (i:=1) vD.nd rfl fo)) (λ_ _ _ _ _=>eK) (λ_ _ _ _ _=>(cD oV (by rfl) T.b.D7 yl (aH (pv 1) ao)))))),?_⟩;refine Pe (J:=Its (sN l)) (n:=l.length) (λR h=>⟨_,rfl,_,rfl,h⟩) (f:=λi=>.int ((l.getD i 0:Nat):Int)) hl (λi H' hi _=>?_) (λH' _=>?_) (λi x H' nL R hi k' y hR=>?_) (λD H' hD hs he=>?_)
  ·show i<(sN l).cps.size;rw[wz];exact hi
  ·show(sN l).cps.size<=l.length;rw[wz];exact aJ _
  ·obtain⟨rfl,c,hc,rfl⟩:=y;refine⟨rfl,_,rfl,_,rfl,rfl,?_⟩;have e:l.getD i 0=c:=by rw[cn,NG hc];rfl
   have:=hR nL (aS.refl _);rw[e] at this;exact this
  ·refine k D H' hD hs ?_;rw[he];refine congrArg (λz=>some (HO.lst z)) (jC l _ _ λi x hx=>?_);rw[cn,hx];rfl
theorem KZ(c:Nat):decide (c∈Wi.cps.toList)=iN c:=by
 have e:Wi.cps.toList=(bY 26).map (97+·):=by decide+kernel
 unfold iN;rw[e];by_cases h:97<=c/\c<=122
 ·have:c∈(bY 26).map (97+·):=aq.mpr ⟨c-97,kU.mpr (by omega),by omega⟩;simp[this,h]
 ·have:¬c∈(bY 26).map (97+·):=λq=>by obtain⟨j,hj,e⟩:=aq.mp q;have:=kU.mp hj;omega
  rw[decide_eq_false this];symm;rw[gE];by_cases h2:97<=c
  ·right;simp;omega
  ·left;simp;omega
theorem NH(c:Nat):decide (c∈Wj.cps.toList)=eJ c:=by
 have e:Wj.cps.toList=(bY 10).map (48+·):=by decide+kernel
 unfold eJ;rw[e];by_cases h:48<=c/\c<=57
 ·have:c∈(bY 10).map (48+·):=aq.mpr ⟨c-48,kU.mpr (by omega),by omega⟩;simp[this,h]
 ·have:¬c∈(bY 10).map (48+·):=λq=>by obtain⟨j,hj,e⟩:=aq.mp q;have:=kU.mp hj;omega
  rw[decide_eq_false this];symm;rw[gE];by_cases h2:48<=c
  ·right;simp;omega
  ·left;simp;omega
def NI:Sp:=λvs H Q _=>∃l:aG,vs=[.str (sN l)]/\l.length<=az/\∀H',aS H H'->Q (.bl (dN l)) H'
theorem Ph{l:List Nat}{p:Nat->Bool}:((bY l.length).map λi=>p (l.getD i 0)).all id=l.all p:=by
 have:(bY l.length).map (λi=>p (l.getD i 0))=l.map p:=by
  apply nU;intro i;rw[aU,aU];by_cases hi:i<l.length
  ·rw[Br hi,au hi];show some (p (l.getD i 0))=some (p l[i]);rw[cn,au hi];rfl
  ·rw[c6 (by rw[dU];omega),c6 (by omega)];rfl
 rw[this,qK];rfl
theorem yE(T:Txt K mg A):Def P w K mg base "is_name" 1 ["word"] NI:=by
 refine T.zB.V5.ok yC (λvs H Q E h=>?_) (λf eC A' outer s H vs Q E hr h=>?_)
 ·obtain⟨b,rfl,_⟩:=h;rfl
 ·obtain⟨l,rfl,hl,k⟩:=h;have eT:∀b H',aS H H'->dN l=b->Q (.bl b) H':=λb H' h1 h2=>by rw[<-h2];exact k H' h1
  refine⟨_,(aF (aX (lY (jR ip ip bx (cD rT (by rfl) T.b.dM cJ (aH (pv 0) ao)) (cU T.k.Ip rfl)) (oS (cD (uL rfl) (by rfl) T.b.BM vb (aH (gU rfl (own:=[("sign",1)]) yC.nd (MO (pv 0)) (cM (by kernel_rfl)) (λ_ _ _ _ _=>(bQ (i:=1) yC.nd rfl fo)) (λ_ _ _ _ _=>eK) (λ_ _ _ _ _=>(iT Dg (pv 1) (cU T.k.O9 rfl) rfl))) ao)))))),?_⟩;refine⟨_,rfl,_,rfl,by rw[i5];exact hl,_,_,rfl,rfl,_,rfl,fC (λh1=>⟨_,_,rfl,rfl,_,rfl,fC (λh2=>?_) (λh2=>?_)⟩) (λh1=>⟨_,rfl,kK ?_⟩)⟩
  ·rw[i5] at h1 h2;have h2:l.length<=10:=by have:(l.length:Int)<=10:=h2;omega
   refine kf (Pe (J:=Its (sN l)) (n:=l.length) (λR h=>⟨_,rfl,_,rfl,h⟩) (f:=λi=>.bl (iN (l.getD i 0))) hl (λi H' hi _=>?_) (λH' _=>?_) (λi x H' nL R hi k' y hR=>?_) (λD H' hD hs he=>?_))
   ·show i<(sN l).cps.size;rw[wz];exact hi
   ·show(sN l).cps.size<=l.length;rw[wz];exact aJ _
   ·obtain⟨rfl,c,hc,rfl⟩:=y;refine⟨rfl,_,rfl,_,_,rfl,rfl,?_⟩;have e:l.getD i 0=c:=by rw[cn,NG hc];rfl
    have:=hR nL (aS.refl _);rw[e] at this;rw[KZ];exact this
   ·refine⟨D,(bY l.length).map (λi=>iN (l.getD i 0)),rfl,bD.of (by rw[he,aP];rfl),eT _ H' hs ?_⟩;rw[Ph];unfold dN;have h1:1<=l.length:=by have:(1:Int)<=l.length:=h1;omega
    simp[h1,h2]
  ·rw[i5] at h1 h2;have h2:¬l.length<=10:=by have:¬(l.length:Int)<=10:=h2;omega
   refine eT _ H (aS.refl _) ?_;unfold dN;simp[h2]
  ·rw[i5] at h1;have h1:¬1<=l.length:=by have:¬(1:Int)<=l.length:=h1;omega
   refine eT _ H (aS.refl _) ?_;unfold dN;simp[h1]
def Y7(H:Hp)(a:af)(l:aG):Prop:=H a=some (.lst (gP l))
def K0:Sp:=λvs H Q _=>∃(a:af)(t:aG),vs=[.ref a]/\bD K H a (gP t)/\t.length<=100000/\
 ∀(D:af)(as:List af)(H':Hp),H D=none->aS H H'->(∀x∈as,H x=none)->H' D=some (.lst (iJ as))->dh (Y7 H') as (adE t)->Q (.ref D) H'
theorem A2:∀(t:aG)(st:List aG×aG),(t.foldl jj st).1.length<=st.1.length+t.length/\(t.foldl jj st).2.length<=st.2.length+t.length
 |[],st=>⟨aJ _,aJ _⟩
 |b::t,st=>by
  rw[bI];have ih:=A2 t (jj st b);have h1:(jj st b).1.length<=st.1.length+1/\(jj st b).2.length<=st.2.length+1:=by
   unfold jj;split
   ·simp
   ·simp
  rw[aV];omega
theorem Wk(l:List Nat)(b:Nat):gP l++[V.int (b:Nat)]=gP (l++[b]):=by unfold gP;rw[br];rfl
theorem IH(l:List af)(b:af):iJ l++[V.ref b]=iJ (l++[b]):=by unfold iJ;rw[br];rfl
theorem Hh{t:aG}{i b:Nat}(h:t[i]? =some b)(st:List aG×aG):(t.take (i+1)).foldl jj st=jj ((t.take i).foldl jj st) b:=by rw[dq,h,jc];rfl
theorem k8{l:List Nat}{i:Nat}{x:V}(h:(gP l)[i]? =some x):∃n,l[i]? =some n/\x=.int (n:Nat):=by
 unfold gP at h;rw[aU] at h
 cases e:l[i]? with
 |none=>rw[e] at h;cases h
 |some n=>rw[e] at h;exact⟨n,rfl,(aW h).symm⟩
theorem kh{l:List af}{i:Nat}{x:V}(h:(iJ l)[i]? =some x):∃n,l[i]? =some n/\x=.ref n:=by
 unfold iJ at h;rw[aU] at h
 cases e:l[i]? with
 |none=>rw[e] at h;cases h
 |some n=>rw[e] at h;exact⟨n,rfl,(aW h).symm⟩
theorem T3{l:List aG}{i:Nat}{x:V}(h:(eO l)[i]? =some x):∃n,l[i]? =some n/\x=.str (sN n):=by
 unfold eO at h;rw[aU] at h
 cases e:l[i]? with
 |none=>rw[e] at h;cases h
 |some n=>rw[e] at h;exact⟨n,rfl,(aW h).symm⟩
theorem K1(T:Txt K mg A):Def P w K mg base "lines_of" 1 ["data"] (K0 (K:=K)):=by
 refine T.zB.Tv.ok nK (λvs H Q E h=>?_) (λf eC A' outer s H vs Q E hr h=>?_)
 ·obtain⟨a,t,rfl,_⟩:=h;rfl
 ·obtain⟨a,t,rfl,hS,ht,k⟩:=h;refine⟨_,(aw (bZ (i:=1) nK.nd rfl fo (bV ao)) (aw (bZ (i:=2) nK.nd rfl fo (bV ao)) (aw (lA dz rfl (dC (pv 0)) (bQ (i:=3) nK.nd rfl fo) (aF (dj (cB ji (pv 3) (cU T.k.Tw rfl) (cx _)) (aw (iC (oh bP cQ cR iZ (pv 1) (aH (pv 2) ao))) (aF (bZ (i:=2) nK.nd rfl fo (bV ao)))) (aF (iC (oh bP cQ cR iZ (pv 2) (aH (pv 3) ao))))))) (aw (dj (cB (zI hr.AD) (pv 2) (bV ao) (cx _)) (aF (iC (oh bP cQ cR iZ (pv 1) (aH (pv 2) ao)))) bO) (aF (aX (pv 1))))))),?_⟩;refine⟨bB _,λD hD=>⟨bB _,λL hL=>?_⟩⟩;have nDL:D≠L:=aQ ag hL;have K2:H L=none:=by rw[ax nDL.symm] at hL;exact hL
  have s0:aS H (upd (upd H D (.lst [])) L (.lst [])):=(aB hD).trans (aB hL);refine⟨_,rfl,a,rfl,⟨_,s0.seq hS⟩,lZ (K:=K) (a:=a) (xs:=gP t) (λi σ H'=>∃(L:af)(as:List af)(v:Option V),σ=[some (.ref a),some (.ref D),some (.ref L),v]/\aS H H'/\H L=none/\¬L=D/\¬L∈as/\(∀x∈as,H x=none)/\H' D=some (.lst (iJ as))/\H' L=some (.lst (gP ((t.take i).foldl jj ([],[])).2))/\dh (Y7 (cut H' [D,L])) as ((t.take i).foldl jj ([],[])).1) ⟨L,[],none,rfl,s0,K2,nDL.symm,by simp,λx h=>(nomatch h),by rw[ax nDL,ag];rfl,ag,.nil⟩ (λi σ H' _ ⟨_,_,_,_,s1,_⟩=>s1.seq hS) ?_ ?_⟩
  ·rintro i x σ H' hi ⟨L,as,v,rfl,s1,K2,nLD,nLa,MM,RC,yF,hP⟩;obtain⟨b,hb,rfl⟩:=k8 hi;have Xl:i<t.length:=(b9.mp hb).1;have hlen:=A2 (t.take i) ([],[]);rw[cK] at hlen;refine⟨_,rfl,rfl,_,rfl,fC (λh1=>?_) (λh1=>?_)⟩
   ·have e:b=10:=by injection h1 with this;omega
    refine⟨_,rfl,.inl ⟨rfl,_,bD.of RC⟩,_,rfl,D,_,_,rfl,rfl,RC,?_,bB _,λN hN=>?_⟩
    ·rw[ck,Paired.len hP];refine bW hlen.1 ?_;show 0+min i t.length<az;exact bW (by omega:0+min i t.length<=100000) (by decide)
    ·have Y8:N≠D:=λe=>by rw[e,ag] at hN;cases hN
     have hN1:H' N=none:=by rw[ax Y8] at hN;exact hN
     have nNL:N≠L:=λe=>by rw[e,yF] at hN1;cases hN1
     have nNa:¬N∈as++[L]:=λhm=>by
      rcases aD.mp hm with q|q
      ·obtain⟨j,hj,ej⟩:=jt q;obtain⟨l,_,hl⟩:=Paired.vH hP (i:=j) (a:=N) (by rw[au hj,ej]);have:=(cY hl).2;rw[hN1] at this;cases this
      ·exact nNL (bX.mp q)
     have ef:(t.take (i+1)).foldl jj ([],[])=(((t.take i).foldl jj ([],[])).1++[((t.take i).foldl jj ([],[])).2],[]):=by rw[Hh hb];unfold jj;rw[if_pos e]
     refine⟨N,as++[L],_,rfl,?_,s1.free hN1,Y8,nNa,λx hx=>by
       rcases aD.mp hx with q|q
       ·exact MM x q
       ·rw[bX.mp q];exact K2,?_,?_,?_⟩
     ·exactλc o e=>by
       rw[ax (λq=>by rw[q] at e;rw[s1.free hN1] at e;cases e),ax (λq=>by rw[q,hD] at e;cases e)];exact s1 c o e
     ·rw[ax Y8.symm,ag,IH]
     ·rw[ag,ef];rfl
     ·rw[ef];have afL:aS (cut H' [D,L]) (cut (upd (upd H' D (.lst (iJ as++[.ref L]))) N (.lst [])) [D,N]):=λc o e=>by
       obtain⟨n,e⟩:=cY e;have nc:c≠N:=λq=>by rw[q,hN1] at e;cases e
       have nD:c≠D:=λq=>n (by simp[q]);rw[cX (by simp[nc,nD]),ax nc,ax nD];exact e
      refine Paired.snoc (Paired.mono (λx y q=>afL _ _ q) hP) ?_;show cut _ _ _=_;rw[cX (by simp[nLD,nNL.symm]),ax nNL.symm,ax nLD];exact yF
   ·have e:¬b=10:=λe=>h1 (by rw[e];rfl);have ef:(t.take (i+1)).foldl jj ([],[])=(((t.take i).foldl jj ([],[])).1,((t.take i).foldl jj ([],[])).2++[b]):=by rw[Hh hb];unfold jj;rw[if_neg e]
    refine⟨_,rfl,.inl ⟨rfl,_,bD.of yF⟩,_,rfl,L,_,_,rfl,rfl,yF,?_,?_⟩
    ·rw[eh];refine bW hlen.2 ?_;show 0+min i t.length<az;exact bW (by omega:0+min i t.length<=100000) (by decide)
    ·refine⟨L,as,_,rfl,?_,K2,nLD,nLa,MM,?_,?_,?_⟩
     ·exactλc o e=>by
       rw[ax (λq=>by rw[q,K2] at e;cases e)];exact s1 c o e
     ·rw[ax (λq=>nLD q.symm)];exact RC
     ·rw[ag,ef,Wk]
     ·rw[ef,sm (by simp)];exact hP
  ·rintro σ H' ⟨L,as,v,rfl,s1,K2,nLD,nLa,MM,RC,yF,hP⟩;rw[eh,GC] at yF hP;have hlen:=A2 t ([],[]);refine⟨_,rfl,bB _,λN hN=>?_⟩;have Y8:N≠D:=λe=>by rw[e,RC] at hN;cases hN
   have nNL:N≠L:=λe=>by rw[e,yF] at hN;cases hN
   refine⟨L,N,_,rfl,rfl,bD.of (by rw[ax nNL.symm];exact yF),bD.of ag,_,rfl,vc (λh1=>?_) (λh1=>?_)⟩
   ·refine⟨_,rfl,.inl ⟨rfl,_,bD.of (by rw[ax Y8.symm];exact RC)⟩,_,rfl,D,_,_,rfl,rfl,(by rw[ax Y8.symm];exact RC),?_,?_⟩
    ·rw[ck,Paired.len hP];refine bW hlen.1 ?_;exact bW (by show 0+t.length<=100000;omega) (by decide)
    ·refine⟨_,rfl,k D (as++[L]) _ hD ?_ (λx hx=>by
      rcases aD.mp hx with q|q
      ·exact MM x q
      ·rw[bX.mp q];exact K2) ?_ ?_⟩
     ·exactλc o e=>by
       rw[ax (λq=>by rw[q,hD] at e;cases e),ax (λq=>by rw[q] at e;rw[s1.free hN] at e;cases e)];exact s1 c o e
     ·rw[ag,IH]
     ·rw[Ka];unfold Qy;rw[if_pos (λq=>h1 (by rw[q];rfl))];refine Paired.snoc (Paired.mono (λx y q=>?_) hP) ?_
      ·obtain⟨n,q⟩:=cY q;show upd _ _ _ x=_;rw[ax (λz=>n (by simp[z])),ax (λz=>by rw[z,hN] at q;cases q)];exact q
      ·show upd _ _ _ L=_;rw[ax nLD,ax nNL.symm];exact yF
   ·refine⟨_,rfl,k D as _ hD (s1.trans (aB hN)) MM ?_ ?_⟩
    ·rw[ax Y8.symm];exact RC
    ·rw[Ka];unfold Qy;have:((t.foldl jj ([],[]))).2=[]:=by unfold gP at h1;exact ju.mp h1
     rw[if_neg (by rw[this];simp)];refine Paired.mono (λx y q=>?_) hP;obtain⟨n,q⟩:=cY q;show upd _ _ _ x=_;rw[ax (λz=>by rw[z,hN] at q;cases q)];exact q
def K3:Sp:=λvs H Q _=>∃(a:af)(l:aG),vs=[.ref a]/\bD K H a (gP l)/\l.length<=100000/\
 ∀(D:af)(H':Hp),H D=none->aS H H'->H' D=some (.lst (eO ((adF l).map iq)))->Q (.ref D) H'
theorem A3:∀(l acc:List Nat),TL.B7 [32] 0 acc l=glue acc (df 32 l)
 |[],acc=>by rw[TL.CL];show[acc]=[acc++[]];rw[dE]
 |c::r,acc=>by
  have hp:TL.pre [32] (c::r)=decide (c=32):=by
   unfold TL.pre;show([c]==[32])=_;by_cases h:c=32
   ·subst h;rfl
   ·rw[decide_eq_false h];simpa using h
  conv=>rhs;unfold df
  by_cases h:c=32
  ·rw[TL.OS (by rw[hp];exact decide_eq_true h),if_pos h];show acc::TL.B7 [32] 0 [] r=(acc++[])::df 32 r;rw[A3 r,dE];have kJ:=jT 32 r
   cases q:df 32 r with
   |nil=>exact absurd q kJ
   |cons a s=>rfl
  ·rw[TL.J2 (by rw[hp];exact decide_eq_false h),if_neg h,A3 r];have kJ:=jT 32 r
   cases q:df 32 r with
   |nil=>exact absurd q kJ
   |cons a s=>simp[glue]
theorem K4(l:aG):(qH (sN l) " ").map V.str=eO (df 32 l):=by
 have h:=TL.Qv (sN l) " " (by decide+kernel) (TL.VT (by decide+kernel));rw[show TL.tl (aR " ")=[32] by decide+kernel,show TL.tl (sN l)=l from lE l,A3] at h;have eg:glue [] (df 32 l)=df 32 l:=by
  cases q:df 32 l with
  |nil=>exact absurd q (jT 32 l)
  |cons a s=>rfl
 rw[eg] at h;unfold eO;rw[<-h,aP];apply dc;intro x _;show V.str x=V.str (sN (TL.tl x));rw[show sN (TL.tl x)=x from TL.abT x]
theorem NJ:∀l:List Nat,wb (aR "") (l.map λb=>sN [sg b])=sN (iq l):=λl=>by
 rw[TL.join_eq];apply TL.uR;rw[TL.zh];show TL.pT (TL.tl (aR "")) _=iq l;rw[show TL.tl (aR "")=[] by decide+kernel]
 induction l with
 |nil=>rfl
 |cons a r ih=>
  cases r with
  |nil=>rfl
  |cons b r=>show[sg a]++([]++TL.pT [] (wc TL.tl (wc (λb=>sN [sg b]) (b::r))))=_;rw[ih];rfl
theorem BQ{l:aG}:(V.str (sN l)=V.str (aR ""))↔l=[]:=by
 constructor
 ·intro h;injection h with h
  have:sN l=sN []:=h.trans (by decide+kernel);exact vG this
 ·intro h;subst h;exact congrArg V.str (by decide+kernel)
theorem K5(T:Txt K mg A):Def P w K mg base "words_of" 2 ["line"] (K3 (K:=K)):=by
 refine T.zB.words_of.ok lS (λvs H Q E h=>?_) (λf eC A' outer s H vs Q E hr h=>?_)
 ·obtain⟨a,t,rfl,_⟩:=h;rfl
 ·obtain⟨a,l,rfl,hS,hl,k⟩:=h;have aci:l.length<=az:=ak hl (by decide);refine⟨_,(aw (bZ (i:=1) lS.nd rfl fo (DB eX (gU rfl (own:=[("byte",2)]) lS.nd (dC (pv 0)) (cM (by kernel_rfl)) (λ_ _ _ _ _=>(bQ (i:=2) lS.nd rfl fo)) (λ_ _ _ _ _=>eK) (λ_ _ _ _ _=>(bC (NF T) hr.mono rfl (aH (pv 2) ao)))))) (aF (aX (gU rfl (own:=[("word",3)]) lS.nd (dC (SR (pv 1) eX)) (cM (by kernel_rfl)) (λ_ _ _ _ _=>(bQ (i:=3) lS.nd rfl fo)) (λ_ _ _ _ _=>(rU (cB C0 (pv 3) eX (cx _)))) (λ_ _ _ _ _=>(pv 3)))))),?_⟩;refine⟨⟨_,rfl⟩,Pe (J:=Va K a) (n:=l.length) (H:=H) (λR h=>⟨_,rfl,a,rfl,⟨_,hS⟩,h⟩) (f:=λi=>.str (sN [sg (l.getD i 0)])) aci ?_ ?_ (λi x H' nL R hi k' y hR=>?_) (λD H' hD hs he=>?_)⟩
  ·have:=sP (K:=K) (xs:=gP l) hS;rw[eh] at this;exact this
  ·have:=m6 (K:=K) (xs:=gP l) hS;rw[eh] at this;exact this
  ·obtain⟨rfl,y⟩:=y;obtain⟨n,hn,rfl⟩:=k8 (y _ (k'.seq hS));refine⟨rfl,_,rfl,n,rfl,?_⟩;have e:l.getD i 0=n:=by rw[cn,hn];rfl
   have:=hR nL (aS.refl _);rw[e] at this;exact this
  ·have qB:H' D=some (.lst ((l.map λb=>sN [sg b]).map V.str)):=by rw[he,aP];refine congrArg (λz=>some (HO.lst z)) (jC l _ _ λi x hx=>?_);rw[cn,hx];rfl
   refine⟨_,D,l.map λb=>sN [sg b],rfl,rfl,.inl (bD.of qB),?_,?_⟩
   ·rw[aP];have:(wc ((λx=>x.length)∘λb=>sN [sg b]) l)=l.map λ_=>1:=dc λb _=>rfl;rw[this];have s1:(l.map λ_=>1).sum=l.length:=by
     clear hS hl aci k he qB this
     induction l with
     |nil=>rfl
     |cons a r ih=>simp[ih];omega
    rw[s1,show(aR "").length=0 by decide+kernel,Nat.mul_zero];omega
   ·rw[NJ];have hp:(df 32 (iq l)).length<=l.length+1:=by
     have:∀m:aG,(df 32 m).length<=m.length+1:=by
      intro m
      induction m with
      |nil=>decide
      |cons c r ih=>
       unfold df;split
       ·simp;omega
       ·have kJ:=jT 32 r
        cases q:df 32 r with
        |nil=>exact absurd q kJ
        |cons a s=>rw[q] at ih;simp at ih⊢;omega
     have:=this (iq l);rw[m9] at this;exact this
    refine b8 ?_;refine iW ?_;refine fw ?_;refine⟨_,rfl,⟨_,rfl⟩,_,_,rfl,rfl,by decide+kernel,by rw[i5,m9];exact ak (by omega:l.length+2<=100002) (by decide),λS Vf=>⟨S,rfl,⟨_,bD.of ag⟩,?_⟩⟩;refine lF (l:=df 32 (iq l)) (enc:=λl=>.str (sN l)) (f:=λl=>.str (sN l)) (p:=λl=>!l.isEmpty) (bD.of (by rw[ag,K4];rfl)) (ak hp (ak (by omega:l.length+1<=100001) (by decide)))
     (λi x H1 R S hx k' hR hS=>?_) (λD2 H2 BR Fl Wl=>?_)
    ·refine⟨rfl,_,rfl,rfl,_,rfl,vc (λh1=>?_) (λh1=>?_)⟩
     ·refine⟨_,rfl,hR ?_ _ (aS.refl _)⟩;have:¬x=[]:=λe=>h1 (BQ.mpr e)
      cases x with
      |nil=>exact absurd rfl this
      |cons _ _=>rfl
     ·have:x=[]:=BQ.mp h1;subst this;exact hS rfl _ (aS.refl _)
    ·have s1:aS H H2:=(hs.trans (aB Vf)).trans Fl;refine k D2 H2 (aS.free (hs.trans (aB Vf)) BR) s1 ?_;rw[Wl,<-SY];rfl
end
end Bp
namespace Bp
open PySem PySem.Spec PyProof.Rows L2 Bm
open Vbslai (value)
section
variable{P:bo}{w:bM}{K:ah}{mg:Str->Option aj}{base:cu}{A:Cl}
theorem Er{α:Type}(l:List α)(p:α->Bool):(l.map p).all id=l.all p:=by rw[qK];rfl
def II:Sp:=λvs H Q _=>∃(a:af)(ws:List aG),vs=[.ref a]/\bD K H a (eO ws)/\ws.length<=az/\(∀l∈ws,l.length<=az)/\∀H',aS H H'->Q (.bl (ws.all dN)) H'
theorem IJ(T:Txt K mg A):Def P w K mg base "are_names" 2 ["words"] (II (K:=K)):=by
 refine T.zB.QK.ok sG (λvs H Q E h=>?_) (λf eC A' outer s H vs Q E hr h=>?_)
 ·obtain⟨b,ws,rfl,_⟩:=h;rfl
 ·obtain⟨a,ws,rfl,hS,hl,hw,k⟩:=h;refine⟨_,(aF (aX (cD (uL rfl) (by rfl) T.b.BM vb (aH (gU rfl (own:=[("word",1)]) sG.nd (dC (pv 0)) (cM (by kernel_rfl)) (λ_ _ _ _ _=>(bQ (i:=1) sG.nd rfl fo)) (λ_ _ _ _ _=>eK) (λ_ _ _ _ _=>(bC (yE T) hr.mono rfl (aH (pv 1) ao)))) ao)))),?_⟩;refine kf ?_;refine fw ?_;refine⟨_,rfl,a,rfl,⟨_,hS⟩,?_⟩;refine jL (l:=ws) (enc:=λl=>.str (sN l)) (f:=λl=>.bl (dN l)) hS hl (λi x H' R hx k' hR=>?_) (λD H' hD hs he=>?_)
  ·exact⟨rfl,_,rfl,x,rfl,hw x (aL hx),λH4 k4=>hR H4 k4⟩
  ·refine⟨D,ws.map dN,rfl,bD.of (by rw[he,aP];rfl),?_⟩;rw[Er];exact k H' hs
def IK:Sp:=λvs H Q _=>∃l:aG,vs=[.str (sN l)]/\l.length<=az/\∀H',aS H H'->Q (.bl (isNum l)) H'
theorem str0:aR "0"=sN [48]:=by decide+kernel
theorem Pj:aR ""=sN []:=by decide+kernel
theorem Es{a b:aG}:(V.str (sN a)=V.str (sN b))↔a=b:=⟨λh=>by injection h with h;exact vG h,λh=>by rw[h]⟩
theorem IL(T:Txt K mg A):Def P w K mg base "is_number" 1 ["word"] IK:=by
 refine T.zB.QL.ok sI (λvs H Q E h=>?_) (λf eC A' outer s H vs Q E hr h=>?_)
 ·obtain⟨b,rfl,_⟩:=h;rfl
 ·obtain⟨l,rfl,hl,k⟩:=h;have eT:∀b H',aS H H'->isNum l=b->Q (.bl b) H':=λb H' h1 h2=>by rw[<-h2];exact k H' h1
  refine⟨_,(aw (dj (PW.pt (qP (cB ji (pv 0) eX (cx _)) (nZ (gB (fQ (cD (uL rfl) (by rfl) T.b.BM vb (aH (gU rfl (own:=[("sign",1)]) sI.nd (MO (pv 0)) (cM (by kernel_rfl)) (λ_ _ _ _ _=>(bQ (i:=1) sI.nd rfl fo)) (λ_ _ _ _ _=>eK) (λ_ _ _ _ _=>(iT Dg (pv 1) (cU T.k.Tx rfl) rfl))) ao))))))) (aF (aX jQ)) bO) (aF (aX (abg (iT ji (pv 0) eX (cx _)) (oS (iT C0 (eG MI (pv 0) bx (λ_ _=>rfl)) eX (cx _))))))),?_⟩;refine⟨_,rfl,rfl,_,rfl,fC (λh1=>?_) (λh1=>?_)⟩
  ·
   refine kC ?_;refine eT false H (aS.refl _) ?_;rw[Pj] at h1;have:l=[]:=Es.mp h1;subst this;rfl
  ·have kJ:¬l=[]:=λe=>h1 (by rw[Pj];exact Es.mpr e);refine kf ?_;refine Pe (J:=Its (sN l)) (n:=l.length) (λR h=>⟨_,rfl,_,rfl,h⟩) (f:=λi=>.bl (eJ (l.getD i 0))) hl (λi H' hi _=>?_) (λH' _=>?_) (λi x H' nL R hi k' y hR=>?_) (λD H' hD hs he=>?_)
   ·show i<(sN l).cps.size;rw[wz];exact hi
   ·show(sN l).cps.size<=l.length;rw[wz];exact aJ _
   ·obtain⟨rfl,c,hc,rfl⟩:=y;refine⟨rfl,_,rfl,_,_,rfl,rfl,?_⟩;have e:l.getD i 0=c:=by rw[cn,NG hc];rfl
    have:=hR nL (aS.refl _);rw[e] at this;rw[NH];exact this
   ·refine⟨D,(bY l.length).map (λi=>eJ (l.getD i 0)),rfl,bD.of (by rw[he,aP];rfl),_,rfl,?_⟩;rw[Ph];refine km (λhd=>?_) (λhd=>?_)
    ·refine eT false H' hs ?_;unfold isNum;rw[hd];simp
    ·refine⟨_,rfl,rfl,_,rfl,fC (λh2=>?_) (λh2=>?_)⟩
     ·refine eT true H' hs ?_;rw[str0] at h2;have:l=[48]:=Es.mp h2;subst this;rfl
     ·have h48:¬l=[48]:=λe=>h2 (by rw[str0];exact Es.mpr e)
      cases l with
      |nil=>exact absurd rfl kJ
      |cons c r=>
       refine⟨_,rfl,_,_,c,rfl,rfl,by rw[i5];exact hl,(show Qm (sN (c::r)).cps.toList ((0:Nat):Int)=some c from cG (by rw[lE];rfl)),rfl,?_⟩;refine eT _ H' hs ?_;unfold isNum;rw[hd];have e1:(c::r==[48])=false:=by simpa using h48
       rw[e1];have e2:decide (V.str {cps:=#[c]}=V.str (aR "0"))=decide (c=48):=by
        rw[str0];by_cases z:c=48
        ·subst z;rfl
        ·rw[decide_eq_false z,decide_eq_false λq=>z ?_];have:=Es.mp (show V.str (sN [c])=V.str (sN [48]) from q);simpa using this
       rw[e2];by_cases z:c=48
       ·subst z;simp
       ·simp[z]
def wW:Sp:=λvs H Q _=>∃(l:aG)(lo hi:Nat),vs=[.str (sN l),.int (lo:Nat),.int (hi:Nat)]/\l.length<=az/\∀H',aS H H'->Q (.bl (fq lo hi l)) H'
theorem Et:∀(l:aG)(n:Nat),l.foldl (λacc c=>acc*10+(c-48)) n=l.foldl (λn c=>10*n+(c-48)) n
 |[],n=>rfl
 |a::l,n=>by rw[bI,bI,Et l,Rv]
theorem Eu{l:aG}(hd:l.all eJ=true)(kJ:l≠[])(h7:l.length<=7):adC (sN l)=some ((value l:Nat):Int):=by have e:=PySem.intText_digits (x:=sN l) (by rw[lE];intro c hc;have:=b0.mp hd c hc;unfold eJ at this;simpa using this) (by rw[lE];exact kJ) (by rw[i5];omega);rw[lE] at e;rw[e];unfold NumText.digitsVal value;rw[Et]
theorem wX(T:Txt K mg A):Def P w K mg base "is_number_within" 2 ["word","least","most"] wW:=by
 refine T.zB.AR.ok wU (λvs H Q E h=>?_) (λf eC A' outer s H vs Q E hr h=>?_)
 ·obtain⟨b,lo,hi,rfl,_⟩:=h;rfl
 ·obtain⟨l,lo,hi,rfl,hl,k⟩:=h;have eT:∀b H',aS H H'->fq lo hi l=b->Q (.bl b) H':=λb H' h1 h2=>by rw[<-h2];exact k H' h1
  refine⟨_,(aF (aX (lY (bC (IL T) hr.mono rfl (aH (pv 0) ao)) (lY (iT ip (cD rT (by rfl) T.b.dM cJ (aH (pv 0) ao)) (cU T.k.D5 rfl) (cx _)) (oS (jR ip ip (pv 1) (qZ rX (by rfl) T.b.Tz MY (aH (pv 0) ao)) (pv 2))))))),?_⟩;refine⟨_,rfl,l,rfl,hl,λH1 s1=>⟨_,rfl,DD (λh1=>?_) (λh1=>?_)⟩⟩
  ·refine⟨_,rfl,_,rfl,by rw[i5];exact hl,_,_,rfl,rfl,_,rfl,fC (λh2=>?_) (λh2=>?_)⟩
   ·rw[i5] at h2;have h7:l.length<=7:=by have:(l.length:Int)<=7:=h2;omega
    have hd:l.all eJ=true/\l≠[]:=by unfold isNum at h1;simp only[aK,jd,Mt] at h1;exact⟨h1.2.1,h1.1⟩
    refine⟨_,rfl,_,rfl,_,_,rfl,Eu hd.1 hd.2 h7,by rw[i5];omega,_,_,rfl,rfl,_,rfl,fC (λh3=>⟨_,rfl,_,_,rfl,rfl,eT _ H1 s1 ?_⟩) (λh3=>eT _ H1 s1 ?_)⟩
    ·unfold fq;rw[h1];have h3:lo<=value l:=by omega
     simp[h7,h3]
    ·unfold fq;have h3:¬lo<=value l:=by omega
     simp[h3]
   ·refine eT _ H1 s1 ?_;rw[i5] at h2;have h7:¬l.length<=7:=by have:¬(l.length:Int)<=7:=h2;omega
    unfold fq;simp[h7]
  ·refine eT _ H1 s1 ?_;unfold fq;rw[h1];rfl
def um:Sp:=λvs H Q _=>∃(a:af)(ws:List aG)(lo hi:Nat),vs=[.ref a,.int (lo:Nat),.int (hi:Nat)]/\bD K H a (eO ws)/\ws.length<=az/\(∀l∈ws,l.length<=az)/\∀H',aS H H'->Q (.bl (ws.all (fq lo hi))) H'
theorem mS(T:Txt K mg A):Def P w K mg base "are_numbers_within" 3 ["words","least","most"] (um (K:=K)):=by
 refine T.zB.yp.ok jG (λvs H Q E h=>?_) (λf eC A' outer s H vs Q E hr h=>?_)
 ·obtain⟨b,ws,lo,hi,rfl,_⟩:=h;rfl
 ·obtain⟨a,ws,lo,hi,rfl,hS,hl,hw,k⟩:=h;refine⟨_,(aF (aX (cD (uL rfl) (by rfl) T.b.BM vb (aH (gU rfl (own:=[("word",3)]) jG.nd (dC (pv 0)) (cM (by kernel_rfl)) (λ_ _ _ _ _=>(bQ (i:=3) jG.nd rfl fo)) (λ_ _ _ _ _=>eK) (λ_ _ _ _ _=>(bC (wX T) hr.mono rfl (aH (pv 3) (aH (pv 1) (aH (pv 2) ao)))))) ao)))),?_⟩;refine kf ?_;refine fw ?_;refine⟨_,rfl,a,rfl,⟨_,hS⟩,?_⟩;refine jL (l:=ws) (enc:=λl=>.str (sN l)) (f:=λl=>.bl (fq lo hi l)) hS hl (λi x H' R hx k' hR=>?_) (λD H' hD hs he=>?_)
  ·exact⟨rfl,_,rfl,_,rfl,_,rfl,x,lo,hi,rfl,hw x (aL hx),λH4 k4=>hR H4 k4⟩
  ·refine⟨D,ws.map (fq lo hi),rfl,bD.of (by rw[he,aP];rfl),?_⟩;rw[Er];exact k H' hs
end
end Bp
namespace Bp
open PySem PySem.Spec PyProof.Rows L2 Bm
open Vbslai (digits)
theorem A4{f:Str}{v:V}{k N:Nat}:∀{fs:List (Str×V)},fs.length+(k+1)<=N->(dX f v fs).length+k<=N
 |[],h=>by show 1+k<=N;simp at h;omega
 |(g,x)::r,h=>by
  unfold dX;split
  ·simp at h⊢;omega
  ·have:=A4 (f:=f) (v:=v) (k:=k+1) (N:=N) (fs:=r) (by simp at h;omega);simp;omega
theorem K6{f:Str}{v:V}:(dX f v []).length<1000:=by show 1<1000;decide
theorem put2{f g:Str}{v w:V}:(dX g w (dX f v [])).length<1000:=A4 (k:=1) (N:=1000) (A4 (k:=2) (N:=1000) (fs:=[]) (by decide))
theorem put3{f g h:Str}{v w x:V}:(dX h x (dX g w (dX f v []))).length<1000:=A4 (k:=1) (N:=1000) (A4 (k:=2) (N:=1000) (A4 (k:=3) (N:=1000) (fs:=[]) (by decide)))
theorem Pk(n:Nat):TL.VU n=digits n:=by unfold TL.VU digits;show _=wc (λc=>c.toNat) (Nat.repr n).toList;unfold Nat.repr;simp
theorem zK(n:Nat):aR (lV ((n:Nat):Int))=sN (digits n):=by apply TL.uR;rw[TL.SN,Pk];exact(lE _).symm
theorem rA{n:Nat}(h:n<=1000000):((n:Nat):Int).natAbs.log2<1920:=by
 show n.log2<1920;by_cases e:n=0
 ·subst e;decide
 ·have:n.log2<20:=(Nat.log2_lt e).mpr (bW h (by decide));omega
theorem jr{n k:Nat}(hk:0<k)(h:n<10^k):(digits n).length<=k:=by rw[<-Pk];exact TL.SO hk h
section
variable{P:bo}{w:bM}{K:ah}{mg:Str->Option aj}{base:cu}{A:Cl}
def K7(A:Cl):Sp:=λvs H Q _=>∃(p dx l:af)(t:V),vs=[.ref p,t,.ref l]/\H p=some (.ins A.num dx [])/\
 ∀(m:af)(H':Hp),H m=none->H' p=some (.ins A.num dx (oq t (.ref l) (.ref m)))->H' m=some (.lst [])->(∀b o,H b=some o->b≠p->H' b=some o)->Q .gT H'
theorem K8(T:Txt K mg A):DA P w K mg base "NumbersColumn" A.num 1 ["self","title","steps"] (K7 A):=by
 refine T.num.init.ok KH (λvs H Q E h=>?_) (λf eC A' outer s H vs Q E hr h=>?_)
 ·obtain⟨p,dx,l,t,rfl,_⟩:=h;rfl
 ·obtain⟨p,dx,l,t,rfl,hp,k⟩:=h;refine⟨_,(aw (dZ (pv 0) (pv 1) rfl) (aw (dZ (pv 0) (pv 2) rfl) (aF (dZ (pv 0) (bV ao) rfl)))),?_⟩;refine⟨_,rfl,_,rfl,p,A.num,dx,[],rfl,hp,T.num.cl,T.num.sx,by decide,_,rfl,_,rfl,p,A.num,dx,_,rfl,ag,T.num.cl,T.num.CQ,K6,bB _,λm hm=>?_⟩;have Vg:p≠m:=aQ ag hm;refine⟨_,rfl,p,A.num,dx,_,rfl,by rw[ax Vg,ag],T.num.cl,T.num.oC,put2,?_⟩;have IM:H m=none:=by rw[ax Vg.symm,ax Vg.symm] at hm;exact hm
  refine k m _ IM ?_ ?_ λb o e hb=>?_
  ·rw[ag,Nn]
  ·rw[ax Vg.symm,ag]
  ·rw[ax hb,ax (aQ e IM),ax hb,ax hb];exact e
def rB(A:Cl):Sp:=λvs H Q _=>∃a,vs=[.ref a]/\Q (.bl true) H
theorem A5(T:Txt K mg A):iR P w K mg base A.num "is_filled" 1 ["self"] (rB A):=by
 refine T.num.ym.ok AW (λvs H Q E h=>?_) (λf eC A' outer s H vs Q E hr h=>?_)
 ·obtain⟨a,rfl,_⟩:=h;rfl
 ·obtain⟨a,rfl,k⟩:=h;exact⟨_,(aF (aX jQ)),k⟩
def px(A:Cl):Sp:=λvs H Q _=>∃a n s c,vs=[.ref a]/\xN A H a n s c/\Q (.int ((s.length+2:Nat):Int)) H
theorem lG(T:Txt K mg A):iR P w K mg base A.num "level_count" 1 ["self"] (px A):=by
 refine T.num.sA.ok yy (λvs H Q E h=>?_) (λf eC A' outer s H vs Q E hr h=>?_)
 ·obtain⟨a,_,_,_,rfl,_⟩:=h;rfl
 ·obtain⟨a,n,s',c,rfl,⟨dx,l,m,h1,h2,h3⟩,k⟩:=h;refine⟨_,(aF (aX (fh oU (cD bt (by rfl) T.b.dM cJ (aH (bj (pv 0) rfl) ao)) bx))),?_⟩;refine⟨_,rfl,a,A.num,dx,_,_,rfl,h1,T.num.cl,T.num.CQ,vv,l,_,rfl,.inl (bD.of h2),_,_,rfl,rfl,?_⟩;rw[eh];exact k
def IP(A:Cl):Sp:=λvs H Q _=>∃a c,vs=[.ref a,.int c]/\Q (.bl (cE c 0 1000000)) H
theorem IQ(T:Txt K mg A):iR P w K mg base A.num "holds" 1 ["self","cell"] (IP A):=by
 refine T.num.MZ.ok Iy (λvs H Q E h=>?_) (λf eC A' outer s H vs Q E hr h=>?_)
 ·obtain⟨a,_,rfl,_⟩:=h;rfl
 ·obtain⟨a,c,rfl,k⟩:=h;have eT:∀b,cE c 0 1000000=b->Q (.bl b) H:=λb h2=>by rw[<-h2];exact k
  refine⟨_,(aF (aX (jR ip ip bx (pv 1) (cU T.k.Cc rfl)))),?_⟩;refine⟨_,rfl,_,_,rfl,rfl,_,rfl,fC (λh1=>⟨_,_,rfl,rfl,eT _ ?_⟩) (λh1=>eT _ ?_)⟩
  ·unfold cE;rw[decide_eq_true h1];rfl
  ·unfold cE;rw[decide_eq_false h1];rfl
def Pl(s:List Nat):Prop:=∀x∈s,2<=x/\x<=1000000
def K9(A:Cl):Sp:=λvs H Q _=>∃(a:af)(n:aG)(s c:List Nat)(cell level:Nat),vs=[.ref a,.int (cell:Nat),.int (level:Nat)]/\xN A H a n s c/\Pl s/\cell<=1000000/\level<s.length+2/\
 Q (.str (sN (j7 (.numbers s) level cell))) H
theorem Pn:aR "*"=sN Vbslai.STAR:=by decide+kernel
theorem La(T:Txt K mg A):iR P w K mg base A.num "look" 2 ["self","cell","level"] (K9 A):=by
 refine T.num.Tp.ok BO (λvs H Q E h=>?_) (λf eC A' outer s H vs Q E hr h=>?_)
 ·obtain⟨a,_,_,_,_,_,rfl,_⟩:=h;rfl
 ·obtain⟨a,n,st,c,cell,level,rfl,N0,gu,lM,Lb,k⟩:=h;obtain⟨dx,l,m,h1,h2,h3⟩:=id N0;have eT:∀b,j7 (.numbers st) level cell=b->Q (.str (sN b)) H:=λb h2=>by rw[<-h2];exact k
  refine⟨_,(aw (dj (cB ji (pv 2) (fh uG (dk (pv 0) T.num.cl (lG T) hr.mono) bx) (cx _)) (aF (aX (cU T.k.D0 rfl))) bO) (aw (dj (cB ji (pv 2) bx (cx _)) (aF (aX (qZ l4 (by rfl) T.b.Kx DC (aH (pv 1) ao)))) bO) (aw (bZ (i:=3) BO.nd rfl fo (eG cO (bj (pv 0) rfl) (fh uG (pv 2) bx) (λ_ _=>rfl))) (aF (aX (qZ l4 (by rfl) T.b.Kx DC (aH (fh Ya (fh VA (pv 1) (pv 3)) (pv 3)) ao))))))),?_⟩;refine⟨_,rfl,_,rfl,a,dx,_,rfl,h1,jW,a,n,st,c,rfl,N0,_,_,rfl,rfl,rfl,_,rfl,fC (λe1=>?_) (λe1=>?_)⟩
  ·have e:level=st.length+1:=by injection e1 with e1;omega
   show Q (.str (aR "*")) H;rw[Pn];refine eT _ ?_;unfold j7;dsimp only;rw[if_pos (by omega)]
  ·have e:¬level=st.length+1:=λe=>e1 (by rw[e];refine congrArg V.int ?_;omega);have Y9:j7 (.numbers st) level cell=if level=0 then digits cell else digits (cell/st.getD (level-1) 1*st.getD (level-1) 1):=by unfold j7;dsimp only;rw[if_neg (by omega)]
   refine⟨_,rfl,rfl,_,rfl,fC (λe2=>?_) (λe2=>?_)⟩
   ·have e0:level=0:=by injection e2 with e2;omega
    refine⟨_,rfl,_,rfl,rA lM,?_⟩;show Q (.str (aR (lV ((cell:Nat):Int)))) H;rw[zK];refine eT _ ?_;rw[Y9,if_pos e0]
   ·have e0:¬level=0:=λe=>e2 (by rw[e];rfl);obtain⟨j,hj⟩:∃j,level=j+1:=⟨level-1,by omega⟩;subst hj;have hjl:j<st.length:=by omega
    have KS:(gP st)[j]? =some (.int ((st[j]:Nat):Int)):=by unfold gP;rw[aU,au hjl];rfl
    have hb:=gu st[j] (GF hjl);refine⟨_,rfl,a,A.num,dx,_,_,rfl,h1,T.num.cl,T.num.CQ,vv,_,rfl,_,_,rfl,rfl,l,_,_,_,rfl,rfl,bD.of h2,at_of (j:=j) (by omega) KS,?_⟩;refine⟨_,rfl,_,rfl,_,_,rfl,rfl,⟨by omega,by omega⟩,_,rfl,_,_,rfl,rfl,.inr ⟨by omega,by omega⟩,?_⟩;have ev:((cell:Nat):Int)/((st[j]:Nat):Int)*((st[j]:Nat):Int)=((cell/st[j]*st[j]:Nat):Int):=by rw[Int.natCast_mul,Int.natCast_ediv]
    have hle:cell/st[j]*st[j]<=1000000:=ak (Vq _ _) lM;refine⟨_,rfl,?_,?_⟩
    ·rw[ev];exact rA hle
    ·show Q (.str (aR (lV (((cell:Nat):Int)/((st[j]:Nat):Int)*((st[j]:Nat):Int))))) H;rw[ev,zK];refine eT _ ?_;rw[Y9,if_neg (by omega)];have:st.getD (j+1-1) 1=st[j]:=by show st.getD j 1=_;rw[cn,au hjl];rfl
     rw[this]
end
end Bp
namespace Bp
open PySem PySem.Spec PyProof.Rows L2 Bm
open Vbslai (digits spaced)
theorem zL:∀ls:List aG,TL.pT [32] ls=spaced ls
 |[]=>rfl
 |[w]=>rfl
 |w::v::l=>by show w++([32]++TL.pT [32] (v::l))=w++(32::spaced (v::l));rw[zL (v::l)];rfl
theorem A6(ls:List aG):(ls.map sN).map TL.tl=ls:=by
 rw[aP];have:(TL.tl∘sN)=id:=by funext l;exact lE l
 rw[this,Ar]
theorem qt(ls:List aG):wb (aR " ") (ls.map sN)=sN (spaced ls):=by rw[TL.join_eq];apply TL.uR;rw[TL.zh,show TL.tl (aR " ")=[32] by decide+kernel,A6,zL];exact(lE _).symm
theorem IS(ls:List aG):eO ls=(ls.map sN).map V.str:=by unfold eO;rw[aP];rfl
theorem T4{B:Nat}:∀(ls:List aG),(∀l∈ls,l.length<=B)->((ls.map sN).map (·.length)).sum<=ls.length*B
 |[],_=>bB _
 |a::l,h=>by have ih:=T4 l λx hx=>h x (.tail _ hx);have h1:=h a (.head _);rw[bp,bp,B5,i5,aV,Rw];omega
theorem oO{B N:Nat}{ls:List aG}{a:Str}(h:∀l∈ls,l.length<=B)(hn:ls.length<=N)(hb:N*(B+a.length)<=16777216):((ls.map sN).map (·.length)).sum+(ls.map sN).length*a.length<=16777216:=by have h1:=T4 ls h;rw[aa];have h2:ls.length*B+ls.length*a.length=ls.length*(B+a.length):=(Nat.mul_add _ _ _).symm;have h3:ls.length*(B+a.length)<=N*(B+a.length):=d7 _ hn;omega
theorem yG(a b:aG):sN a++sN b=sN (a++b):=by apply TL.uR;rw[TL.AJ];show _=TL.tl (sN (a++b));rw[show TL.tl (sN a)=a from lE a,show TL.tl (sN b)=b from lE b,show TL.tl (sN (a++b))=a++b from lE _]
section
variable{P:bo}{w:bM}{K:ah}{mg:Str->Option aj}{base:cu}{A:Cl}
def nM(A:Cl):Sp:=λvs H Q _=>∃(a:af)(n:aG)(s c:List Nat),vs=[.ref a]/\xN A H a n s c/\Pl s/\s.length<=2/\n.length<=10/\
 ∀D H',H D=none->aS H H'->H' D=some (.lst (eO [spaced (c9 "numbers"::n::s.map digits)]))->Q (.ref D) H'
theorem vJ(T:Txt K mg A):iR P w K mg base A.num "opening_lines" 1 ["self"] (nM A):=by
 refine T.num.pd.ok j4 (λvs H Q E h=>?_) (λf eC A' outer s H vs Q E hr h=>?_)
 ·obtain⟨a,_,_,_,rfl,_⟩:=h;rfl
 ·obtain⟨a,n,st,c,rfl,⟨dx,l,m,h1,h2,h3⟩,gu,Fl,hn,k⟩:=h;refine⟨_,(aF (aX (bV (aH (DB eX (fh jD (bV (aH eX (aH (bj (pv 0) rfl) ao))) (gU rfl (own:=[("step",1)]) j4.nd (dC (bj (pv 0) rfl)) (cM (by kernel_rfl)) (λ_ _ _ _ _=>(bQ (i:=1) j4.nd rfl fo)) (λ_ _ _ _ _=>eK) (λ_ _ _ _ _=>(qZ l4 (by rfl) T.b.Kx DC (aH (pv 1) ao)))))) ao)))),?_⟩;refine⟨⟨_,rfl⟩,_,rfl,a,A.num,dx,_,_,rfl,h1,T.num.cl,T.num.sx,vt,(by show 2<=az;decide),λp hp=>?_⟩;have zb:(upd H p (.lst [.str (aR "numbers"),.str (sN n)])) l=some (.lst (gP st)):=aB hp _ _ h2;have ha1:(upd H p (.lst [.str (aR "numbers"),.str (sN n)])) a=some (.ins A.num dx (oq (.str (sN n)) (.ref l) (.ref m))):=aB hp _ _ h1;refine fw ?_;refine⟨_,rfl,a,A.num,dx,_,_,rfl,ha1,T.num.cl,T.num.CQ,vv,l,rfl,⟨_,bD.of zb⟩,?_⟩;refine jL (l:=st) (enc:=λ(x:Nat)=>.int (x:Int)) (f:=λx=>.str (sN (digits x))) (bD.of zb) (ak Fl (by decide)) (λi x H' R hx k' hR=>?_) (λD H' hD hs he=>?_)
  ·refine⟨rfl,_,rfl,_,rfl,rA (gu x (aL hx)).2,?_⟩;show R (.str (aR (lV ((x:Nat):Int)))) H';rw[zK];exact hR H' (aS.refl _)
  ·have s1:aS H H':=(aB hp).trans hs;have Hi:H' p=some (.lst [.str (aR "numbers"),.str (sN n)]):=hs _ _ ag;refine⟨p,D,_,_,rfl,rfl,Hi,he,?_,λq hq=>?_⟩
   ·rw[aa];show 2+st.length<=az;exact ak (by omega:2+st.length<=4) (by decide)
   ·have e:[V.str (aR "numbers"),V.str (sN n)]++st.map (λx=>V.str (sN (digits x)))=((c9 "numbers"::n::st.map digits).map sN).map V.str:=by rw[bp,bp,bp,bp,aP,aP];show V.str (aR "numbers")::V.str (sN n)::_=V.str (sN (c9 "numbers"))::V.str (sN n)::_;rw[show aR "numbers"=sN (c9 "numbers") by decide+kernel];rfl
    rw[e];refine⟨_,q,_,rfl,rfl,.inl (bD.of ag),oO (B:=10) (N:=4) ?_ ?_ (by decide+kernel),?_⟩
    ·intro x hx;rcases aA.mp hx with z|z
     ·rw[z];decide
     ·rcases aA.mp z with z|z
      ·rw[z];exact hn
      ·obtain⟨y,hy,rfl⟩:=aq.mp z;exact ak (jr (k:=7) (by decide) (by have:=(gu y hy).2;omega)) (by decide)
    ·simp;omega
    ·rw[qt];refine⟨by show 1<=az;decide,λD2 BR=>k D2 _ ?_ ((s1.trans (aB hq)).trans (aB BR)) ag⟩;exact(s1.trans (aB hq)).free BR
def Lc(A:Cl):Sp:=λvs H Q _=>∃(p dx:af)(t:V),vs=[.ref p,t]/\H p=some (.ins A.eW dx [])/\
 ∀(l m:af)(H':Hp),H l=none->H m=none->l≠m->H' p=some (.ins A.eW dx (jX t (.ref l) (.int 0) (.ref m)))->H' l=some (.lst [])->H' m=some (.lst [])->(∀b o,H b=some o->b≠p->H' b=some o)->Q .gT H'
theorem Ld(T:Txt K mg A):DA P w K mg base "WordsColumn" A.eW 1 ["self","title"] (Lc A):=by
 refine T.eW.init.ok KI (λvs H Q E h=>?_) (λf eC A' outer s H vs Q E hr h=>?_)
 ·obtain⟨p,dx,t,rfl,_⟩:=h;rfl
 ·obtain⟨p,dx,t,rfl,hp,k⟩:=h;refine⟨_,(aw (dZ (pv 0) (pv 1) rfl) (aw (dZ (pv 0) (bV ao) rfl) (aw (dZ (pv 0) bx rfl) (aF (dZ (pv 0) (bV ao) rfl))))),?_⟩;refine⟨_,rfl,_,rfl,p,A.eW,dx,[],rfl,hp,T.eW.cl,T.eW.sx,by decide,bB _,λl hl=>?_⟩;have npl:p≠l:=aQ ag hl;have Wm:H l=none:=by rw[ax npl.symm] at hl;exact hl
  refine⟨_,rfl,p,A.eW,dx,_,rfl,by rw[ax npl,ag],T.eW.cl,T.eW.nE,K6,?_⟩;refine⟨_,rfl,p,A.eW,dx,_,rfl,ag,T.eW.cl,T.eW.k5,put2,bB _,λm hm=>?_⟩;have Vg:p≠m:=aQ ag hm;have hm1:(upd (upd H p (.ins A.eW dx (dX "title" t []))) l (.lst [])) m=none:=by rw[ax Vg.symm,ax Vg.symm] at hm;exact hm
  have nlm:l≠m:=aQ ag hm1;have IM:H m=none:=by rw[ax nlm.symm,ax Vg.symm] at hm1;exact hm1
  refine⟨_,rfl,p,A.eW,dx,_,rfl,by rw[ax Vg,ag],T.eW.cl,T.eW.oC,put3,?_⟩;refine k l m _ Wm IM nlm ?_ ?_ ?_ λb o e hb=>?_
  ·rw[ag,Np]
  ·rw[ax npl.symm,ax nlm,ax npl.symm,ax npl.symm,ag]
  ·rw[ax Vg.symm,ag]
  ·rw[ax hb,ax (aQ e IM),ax hb,ax hb,ax (aQ e Wm),ax hb];exact e
def tW(A:Cl):Sp:=λvs H Q _=>∃(a dx l m ab:af)(as:List af)(t:V)(n:aG)(av:List aG)(lg:Nat),vs=[.ref a,.str (sN n),.ref ab]/\H a=some (.ins A.eW dx (jX t (.ref l) (.int (lg:Nat)) (.ref m)))/\H l=some (.lst (iJ as))/\H ab=some (.lst (eO av))/\av.length<=100/\as.length<=100/\
 ∀(N:af)(H':Hp),H N=none->H' N=some (.lst (eO (n::av)))->H' l=some (.lst (iJ (as++[N])))->H' a=some (.ins A.eW dx (jX t (.ref l) (.int ((max lg (av.length+1):Nat):Int)) (.ref m)))->(∀b o,H b=some o->b≠a->b≠l->H' b=some o)->Q .gT H'
theorem Cf(T:Txt K mg A):iR P w K mg base A.eW "add_word" 1 ["self","word","above"] (tW A):=by
 refine T.eW.QG.ok tR (λvs H Q E h=>?_) (λf eC A' outer s H vs Q E hr h=>?_)
 ·obtain⟨a,dx,l,m,ab,as,t,n,av,lg,rfl,_⟩:=h;rfl
 ·obtain⟨a,dx,l,m,ab,as,t,n,av,lg,rfl,h1,h2,h3,hav,has,k⟩:=h;have nal:a≠l:=gA h1 h2 (by intro q;cases q);refine⟨_,(aw (bZ (i:=3) tR.nd rfl fo (fh jD (bV (aH (pv 1) ao)) (pv 2))) (aw (iC (oh bP cQ cR iZ (bj (pv 0) rfl) (aH (pv 3) ao))) (aF (dZ (pv 0) (cD (Az rfl) (by rfl) T.b.TC MX (aH (bj (pv 0) rfl) (aH (cD bt (by rfl) T.b.dM cJ (aH (pv 3) ao)) ao))) rfl)))),?_⟩;refine⟨_,rfl,by show 1<=az;decide,λp hp=>?_⟩;refine⟨_,rfl,p,ab,_,_,rfl,rfl,ag,aB hp _ _ h3,?_,λN hN=>?_⟩
  ·rw[d9];show 1+av.length<=az;exact ak (by omega:1+av.length<=101) (by decide)
  ·have s1:aS H (upd (upd H p (.lst [.str (sN n)])) N (.lst ([.str (sN n)]++eO av))):=(aB hp).trans (aB hN);have Wn:H N=none:=(aB hp).free hN;have nNl:N≠l:=λe=>by rw[e,h2] at Wn;cases Wn
   have nNa:N≠a:=λe=>by rw[e,h1] at Wn;cases Wn
   have npl:p≠l:=λe=>by rw[e,h2] at hp;cases hp
   have npa:p≠a:=λe=>by rw[e,h1] at hp;cases hp
   have ha1:=s1 _ _ h1;have zb:=s1 _ _ h2;refine⟨_,rfl,a,A.eW,dx,_,_,rfl,ha1,T.eW.cl,T.eW.nE,jn,.inl ⟨rfl,_,bD.of zb⟩,_,rfl,l,_,_,rfl,rfl,zb,?_,?_⟩
   ·rw[ck];exact bW has (by decide)
   ·have ha2:(upd (upd (upd H p (.lst [.str (sN n)])) N (.lst ([.str (sN n)]++eO av))) l (.lst (iJ as++[.ref N]))) a=some (.ins A.eW dx (jX t (.ref l) (.int (lg:Nat)) (.ref m))):=by rw[ax nal];exact ha1
    refine⟨_,rfl,a,A.eW,dx,_,_,rfl,ha2,T.eW.cl,T.eW.k5,ou,_,rfl,N,_,rfl,.inl (bD.of (by rw[ax nNl,ag])),_,_,rfl,_,rfl,a,A.eW,dx,_,rfl,ha2,T.eW.cl,T.eW.k5,by show 4<1000;decide,?_⟩;refine k N _ Wn ?_ ?_ ?_ λb o e hb hbl=>?_
    ·rw[ax nNa,ax nNl,ag];rfl
    ·rw[ax nal.symm,ag,IH]
    ·rw[ag,rm];have:(if(([V.str (sN n)]++eO av).length:Int)>(lg:Int) then(([V.str (sN n)]++eO av).length:Int) else(lg:Int))=((max lg (av.length+1):Nat):Int):=by
      have el:([V.str (sN n)]++eO av).length=av.length+1:=by rw[aO,d9];show 1+_=_;omega
      rw[el];split<;>omega
     rw[this]
    ·rw[ax hb,ax hbl,ax (aQ e Wn),ax (aQ e hp)];exact e
end
end Bp
namespace Bp
open PySem PySem.Spec PyProof.Rows L2 Bm
open Vbslai (spaced height)
section
variable{P:bo}{w:bM}{K:ah}{mg:Str->Option aj}{base:cu}{A:Cl}
theorem Ew{up:Up}{i:Nat}{c:List aG}(h:(fY up)[i]? =some c):∃x,up[i]? =some x/\c=chainOf up x.1:=by
 unfold fY at h;rw[aU] at h
 cases e:up[i]? with
 |none=>rw[e] at h;cases h
 |some x=>rw[e] at h;exact⟨x,rfl,(aW h).symm⟩
def Cg(A:Cl):Sp:=λvs H Q _=>∃(a:af)(n:aG)(up:Up)(c:List Nat)(wd:aG),vs=[.ref a,.str (sN wd)]/\pw A H a n up c/\
 (¬wd∈up.map (·.1)->Q .gT H)/\(∀b,wd∈up.map (·.1)->qp H b (chainOf up wd)->Q (.ref b) H)
theorem tX(T:Txt K mg A):iR P w K mg base A.eW "chain_of" 1 ["self","word"] (Cg A):=by
 refine T.eW.QH.ok tS (λvs H Q E h=>?_) (λf eC A' outer s H vs Q E hr h=>?_)
 ·obtain⟨a,_,_,_,_,rfl,_⟩:=h;rfl
 ·obtain⟨a,n,up,c,wd,rfl,⟨dx,l,m,as,h1,h2,h3,h4⟩,k1,k2⟩:=h;have hlen:=Paired.len h3;have uB:(fY up).length=up.length:=aa ..;refine⟨_,(aw (lA dz rfl (dC (bj (pv 0) rfl)) (bQ (i:=2) tS.nd rfl fo) (aF (dj (cB ji (eG cO (pv 2) bx (λ_ _=>rfl)) (pv 1) (cx _)) (aF (aX (pv 2))) bO))) (aF (aX lu))),?_⟩;refine⟨_,rfl,a,A.eW,dx,_,_,rfl,h1,T.eW.cl,T.eW.nE,jn,l,rfl,⟨_,bD.of h2⟩,lZ (K:=K) (a:=l) (xs:=iJ as) (λi σ H'=>H'=H/\(∃v:Option V,σ=[some (.ref a),some (.str (sN wd)),v])/\∀j x,j<i->up[j]? =some x->¬x.1=wd) ⟨rfl,⟨none,rfl⟩,λj x hj=>absurd hj (Nat.not_lt_zero _)⟩ (λi σ H' _ p=>by rw[p.1];exact bD.of h2) ?_ ?_⟩
  ·rintro i x σ H' hi ⟨rfl,⟨v,rfl⟩,hno⟩;obtain⟨b,hb,rfl⟩:=kh hi;obtain⟨ch,As,Hj⟩:=Paired.vH h3 hb;obtain⟨x,hx,rfl⟩:=Ew As;have e0:(eO (chainOf up x.1))[0]? =some (.str (sN x.1)):=rfl;refine⟨_,rfl,b,_,_,_,rfl,rfl,bD.of Hj,cG (j:=0) e0,_,rfl,rfl,_,rfl,fC (λe1=>?_) (λe1=>?_)⟩
   ·have e:x.1=wd:=Es.mp e1;refine⟨_,rfl,?_⟩;rw[e] at Hj;exact k2 b (aq.mpr ⟨x,aL hx,e⟩) Hj
   ·have e:¬x.1=wd:=λq=>e1 (Es.mpr q);refine⟨rfl,⟨_,rfl⟩,λj y hj hy=>?_⟩;by_cases hji:j=i
    ·subst hji;rw[hx] at hy;cases hy;exact e
    ·exact hno j y (by omega) hy
  ·rintro σ H' ⟨rfl,⟨v,rfl⟩,hno⟩;refine k1 λhm=>?_;obtain⟨x,hx,e⟩:=aq.mp hm;obtain⟨j,hj,ej⟩:=jt hx;exact hno j x (by rw[ck,hlen,uB];exact hj) (by rw[au hj,ej]) e
def rE(A:Cl):Sp:=λvs H Q _=>∃(a:af)(n:aG)(up:Up)(c:List Nat),vs=[.ref a]/\pw A H a n up c/\∀H',aS H H'->Q (.bl (!up.isEmpty)) H'
theorem A7(T:Txt K mg A):iR P w K mg base A.eW "is_filled" 1 ["self"] (rE A):=by
 refine T.eW.ym.ok AX (λvs H Q E h=>?_) (λf eC A' outer s H vs Q E hr h=>?_)
 ·obtain⟨a,_,_,_,rfl,_⟩:=h;rfl
 ·obtain⟨a,n,up,c,rfl,⟨dx,l,m,as,h1,h2,h3,h4⟩,k⟩:=h;have hlen:=Paired.len h3;have uB:(fY up).length=up.length:=aa ..;refine⟨_,(aF (aX (iT (zI hr.AD) (bj (pv 0) rfl) (bV ao) (cx _)))),?_⟩;refine⟨_,rfl,a,A.eW,dx,_,_,rfl,h1,T.eW.cl,T.eW.nE,jn,bB _,λq hq=>⟨l,q,_,rfl,rfl,bD.of (aB hq _ _ h2),bD.of ag,?_⟩⟩;have e:decide (iJ as=[])=up.isEmpty:=by
   cases up with
   |nil=>have:as=[]:=fT.mp (by rw[hlen,uB];rfl);subst this;rfl
   |cons x r=>
    cases as with
    |nil=>simp at hlen;rw[uB] at hlen;simp at hlen
    |cons y s=>rfl
  rw[e];exact k _ (aB hq)
def pA(A:Cl):Sp:=λvs H Q _=>∃(a:af)(n:aG)(up:Up)(c:List Nat),vs=[.ref a]/\pw A H a n up c/\Q (.int ((longest (fY up)+1:Nat):Int)) H
theorem lH(T:Txt K mg A):iR P w K mg base A.eW "level_count" 1 ["self"] (pA A):=by
 refine T.eW.sA.ok yz (λvs H Q E h=>?_) (λf eC A' outer s H vs Q E hr h=>?_)
 ·obtain⟨a,_,_,_,rfl,_⟩:=h;rfl
 ·obtain⟨a,n,up,c,rfl,⟨dx,l,m,as,h1,h2,h3,h4⟩,k⟩:=h;refine⟨_,(aF (aX (fh oU (bj (pv 0) rfl) bx))),?_⟩;exact⟨_,rfl,a,A.eW,dx,_,_,rfl,h1,T.eW.cl,T.eW.k5,ou,_,_,rfl,rfl,k⟩
def IT(A:Cl):Sp:=λvs H Q _=>∃(a:af)(n:aG)(up:Up)(c:List Nat)(v:Int),vs=[.ref a,.int v]/\pw A H a n up c/\Q (.bl (cE v 0 ((up.length:Int)-1))) H
theorem IU(T:Txt K mg A):iR P w K mg base A.eW "holds" 1 ["self","cell"] (IT A):=by
 refine T.eW.MZ.ok Iz (λvs H Q E h=>?_) (λf eC A' outer s H vs Q E hr h=>?_)
 ·obtain⟨a,_,_,_,_,rfl,_⟩:=h;rfl
 ·obtain⟨a,n,up,c,v,rfl,⟨dx,l,m,as,h1,h2,h3,h4⟩,k⟩:=h;have hlen:(iJ as).length=up.length:=by rw[ck,Paired.len h3];exact aa ..
  have eT:∀b,cE v 0 ((up.length:Int)-1)=b->Q (.bl b) H:=λb h2=>by rw[<-h2];exact k
  refine⟨_,(aF (aX (jR ip C1 bx (pv 1) (cD bt (by rfl) T.b.dM cJ (aH (bj (pv 0) rfl) ao))))),?_⟩;refine⟨_,rfl,_,_,rfl,rfl,_,rfl,fC (λe1=>⟨_,rfl,a,A.eW,dx,_,_,rfl,h1,T.eW.cl,T.eW.nE,jn,l,_,rfl,.inl (bD.of h2),_,_,rfl,rfl,eT _ ?_⟩) (λe1=>eT _ ?_)⟩
  ·rw[hlen];unfold cE;rw[decide_eq_true e1,mG];by_cases q:v<(up.length:Int)
   ·rw[decide_eq_true q,decide_eq_true (by omega)]
   ·rw[decide_eq_false q,decide_eq_false (by omega)]
  ·unfold cE;rw[decide_eq_false e1];rfl
def Le(A:Cl):Sp:=λvs H Q _=>∃(a:af)(n:aG)(up:Up)(c:List Nat)(cell level:Nat),vs=[.ref a,.int (cell:Nat),.int (level:Nat)]/\pw A H a n up c/\cell<up.length/\level<height up+2/\
 Q (.str (sN (j7 (.words up) level cell))) H
theorem Lf(T:Txt K mg A):iR P w K mg base A.eW "look" 2 ["self","cell","level"] (Le A):=by
 refine T.eW.Tp.ok BP (λvs H Q E h=>?_) (λf eC A' outer s H vs Q E hr h=>?_)
 ·obtain⟨a,_,_,_,_,_,rfl,_⟩:=h;rfl
 ·obtain⟨a,n,up,c,cell,level,rfl,W0,lM,Lb,k⟩:=h;obtain⟨dx,l,m,as,h1,h2,h3,h4⟩:=id W0;have kJ:up≠[]:=λe=>by rw[e] at lM;simp at lM
  have hlg:=u1 kJ;have eT:∀b,j7 (.words up) level cell=b->Q (.str (sN b)) H:=λb h2=>by rw[<-h2];exact k
  refine⟨_,(aw (dj (cB ji (pv 2) (fh uG (dk (pv 0) T.eW.cl (lH T) hr.mono) bx) (cx _)) (aF (aX (cU T.k.D0 rfl))) bO) (aw (bZ (i:=3) BP.nd rfl fo (eG cO (bj (pv 0) rfl) (pv 1) (λ_ _=>rfl))) (aF (aX (eG cO (pv 3) (cD (Qe rfl) (by rfl) T.b.Xf Ti (aH (pv 2) (aH (fh uG (cD bt (by rfl) T.b.dM cJ (aH (pv 3) ao)) bx) ao))) (λ_ _=>rfl)))))),?_⟩;refine⟨_,rfl,_,rfl,a,dx,_,rfl,h1,jY,a,n,up,c,rfl,W0,_,_,rfl,rfl,rfl,_,rfl,fC (λe1=>?_) (λe1=>?_)⟩
  ·have e:level=height up+1:=by injection e1 with e1;omega
   show Q (.str (aR "*")) H;rw[Pn];refine eT _ ?_;unfold j7;dsimp only;rw[if_pos (by omega)]
  ·have e:¬level=height up+1:=λe=>e1 (by rw[e];refine congrArg V.int ?_;omega);have hx:up[cell]? =some up[cell]:=au lM;have As:(fY up)[cell]? =some (chainOf up up[cell].1):=by unfold fY;rw[aU,hx];rfl
   obtain⟨b,hb,Hj⟩:=Paired.ab6 h3 As;have KS:(iJ as)[cell]? =some (.ref b):=by unfold iJ;rw[aU,hb];rfl
   refine⟨_,rfl,a,A.eW,dx,_,_,rfl,h1,T.eW.cl,T.eW.nE,jn,_,rfl,l,_,_,_,rfl,rfl,bD.of h2,cG KS,?_⟩;have uB:(chainOf up up[cell].1).length=(Ff up Fg up[cell].1).length+1:=rfl;obtain⟨t,ht⟩:∃t,(chainOf up up[cell].1)[min level (Ff up Fg up[cell].1).length]? =some t:=⟨_,au (show min level (Ff up Fg up[cell].1).length<(chainOf up up[cell].1).length by rw[uB];omega)⟩;have afO:(if((eO (chainOf up up[cell].1)).length:Int)-1<(level:Int) then((eO (chainOf up up[cell].1)).length:Int)-1 else(level:Int))=((min level (Ff up Fg up[cell].1).length:Nat):Int):=by rw[d9,uB];split<;>omega
   refine⟨_,rfl,_,rfl,_,rfl,b,_,rfl,.inl (bD.of Hj),_,_,rfl,rfl,_,_,rfl,?_⟩;refine⟨b,_,_,.str (sN t),rfl,rfl,bD.of Hj,?_,?_⟩
   ·rw[afO];refine cG ?_;unfold eO;rw[aU,ht];rfl
   ·refine eT _ ?_;unfold j7;dsimp only;rw[if_neg (by omega),hx];dsimp only;show(chainOf up up[cell].1).getD _ _=t;rw[cn,ht];rfl
def qu(x:aG×Option aG):aG:=match x.2 with
 |some v=>spaced [c9 "word",x.1,c9 "of",v]
 |none=>spaced [c9 "word",x.1]
def nN(A:Cl):Sp:=λvs H Q _=>∃(a:af)(n:aG)(up:Up)(c:List Nat),vs=[.ref a]/\pw A H a n up c/\l8 up/\n.length<=10/\
 ∀D H',H D=none->aS H H'->H' D=some (.lst (eO (spaced [c9 "words",n]::up.map qu)))->Q (.ref D) H'
theorem sS{up:Up}(ok:l8 up){x:aG×Option aG}(hx:x∈up):(chainOf up x.1).take 2=match x.2 with|some v=>[x.1,v]|none=>[x.1]:=by
 unfold chainOf;rw[MT ok hx]
 cases x.2 with
 |none=>rfl
 |some v=>rfl
theorem Po(s:String):aR s=sN (c9 s):=by apply TL.uR;rw[TL.J1];exact(lE _).symm
theorem Wo(ls:List aG):wb (aR " of ") (ls.map sN)=sN (TL.pT [32,111,102,32] ls):=by rw[TL.join_eq];apply TL.uR;rw[TL.zh,show TL.tl (aR " of ")=[32,111,102,32] by decide+kernel,A6];exact(lE _).symm
theorem Lg{up:Up}(ok:l8 up){x:aG×Option aG}(hx:x∈up):c9 "word "++TL.pT [32,111,102,32] ((chainOf up x.1).take 2)=qu x:=by
 rw[sS ok hx];unfold qu;have e1:c9 "word "=c9 "word"++[32]:=by decide
 have e2:([32,111,102,32]:List Nat)=32::(c9 "of"++[32]):=by decide
 cases x.2 with
 |none=>show c9 "word "++x.1=c9 "word"++(32::x.1);rw[e1,dn];rfl
 |some v=>show c9 "word "++(x.1++([32,111,102,32]++v))=c9 "word"++(32::(x.1++(32::(c9 "of"++(32::v)))));rw[e1,e2];simp
theorem vK(T:Txt K mg A):iR P w K mg base A.eW "opening_lines" 1 ["self"] (nN A):=by
 refine T.eW.pd.ok j5 (λvs H Q E h=>?_) (λf eC A' outer s H vs Q E hr h=>?_)
 ·obtain⟨a,_,_,_,rfl,_⟩:=h;rfl
 ·obtain⟨a,n,up,c,rfl,⟨dx,l,m,as,h1,h2,h3,h4⟩,ok,hn,k⟩:=h;have hlen:=Paired.len h3;have uB:(fY up).length=up.length:=aa ..;have IV:as.length<=30:=by rw[hlen,uB];exact ok.le
  refine⟨_,(aF (aX (fh jD (bV (aH (fh x6 eX (bj (pv 0) rfl)) ao)) (gU rfl (own:=[("chain",1)]) j5.nd (dC (bj (pv 0) rfl)) (cM (by kernel_rfl)) (λ_ _ _ _ _=>(bQ (i:=1) j5.nd rfl fo)) (λ_ _ _ _ _=>eK) (λ_ _ _ _ _=>(fh x6 eX (YV (K:=K) rfl eX (nq (TM (K:=K) rfl) (pv 1) we (m8 bx))))))))),?_⟩;refine⟨_,rfl,a,A.eW,dx,_,_,rfl,h1,T.eW.cl,T.eW.sx,vw,_,_,rfl,rfl,?_,(by show 1<=az;decide),λp hp=>?_⟩
  ·rw[i5];exact ak (by show 6+n.length<=16;omega) (by decide)
  ·have ha1:=aB (o:=.lst [V.str (aR "words "++sN n)]) hp _ _ h1;have zb:=aB (o:=.lst [V.str (aR "words "++sN n)]) hp _ _ h2;have s1:=aB (o:=.lst [V.str (aR "words "++sN n)]) hp;refine fw ?_;refine⟨_,rfl,a,A.eW,dx,_,_,rfl,ha1,T.eW.cl,T.eW.nE,jn,l,rfl,⟨_,bD.of zb⟩,?_⟩;refine En (n:=as.length) (f:=λi=>.str (sN (((up[i]?).map qu).getD []))) (ak IV (by decide)) ?_ ?_ (λi x H' nL R hi k' y hR=>?_) (λD H' hD hs he=>?_)
   ·have:=sP (K:=K) (bD.of zb);rw[ck] at this;exact this
   ·have:=m6 (K:=K) (bD.of zb);rw[ck] at this;exact this
   ·obtain⟨rfl,y⟩:=y;obtain⟨b,hb,rfl⟩:=kh (y _ (bD.of (k' _ _ zb)));obtain⟨ch,As,Hj⟩:=Paired.vH h3 hb;obtain⟨x,hx,rfl⟩:=Ew As;have afP:nL b=some (.lst (eO (chainOf up x.1))):=k' _ _ (s1 _ _ Hj);have Za:=aL hx;refine⟨rfl,⟨_,rfl⟩,_,rfl,_,rfl,b,_,rfl,bD.of afP,λq hq=>?_⟩;have Zb:uK (eO (chainOf up x.1)) none (some 2)=(((chainOf up x.1).take 2).map sN).map V.str:=by
     unfold uK;rw[HT.JR];have e2:HT.JC (eO (chainOf up x.1)).length (eO (chainOf up x.1)).length (some 2)=min 2 (eO (chainOf up x.1)).length:=HT.CJ _ _ 2;rw[e2,Nat.sub_zero,Mf,<-IS];unfold eO;rw[<-aey];congr 1;rw[aa,aiY];split
     ·rfl
     ·rw[GC,bH (by omega)]
    rw[Zb];have T5:∀l∈(chainOf up x.1).take 2,l.length<=10:=λl hl=>by
     rw[sS ok Za] at hl
     cases ex:x.2 with
     |none=>rw[ex] at hl;rw[bX.mp hl];exact gn (ok.nm x Za)
     |some v=>
      rw[ex] at hl;rcases aA.mp hl with z|z
      ·rw[z];exact gn (ok.nm x Za)
      ·rw[bX.mp z];obtain⟨y,hy,ey⟩:=aq.mp (ok.cl x Za v ex);rw[<-ey];exact gn (ok.nm y hy)
    refine⟨_,q,_,rfl,rfl,.inl (bD.of ag),oO (B:=10) (N:=2) T5 (by rw[cK];omega) (by decide+kernel),?_⟩;rw[Wo,Po];refine⟨_,_,rfl,rfl,?_,?_⟩
    ·rw[i5,i5];have:TL.pT [32,111,102,32] ((chainOf up x.1).take 2)=TL.pT [32,111,102,32] (match x.2 with|some v=>[x.1,v]|none=>[x.1]):=by rw[sS ok Za]
     have hh:=T5;rw[sS ok Za] at hh;rw[this];refine ak ?_ (by decide:100<=az)
     cases ex:x.2 with
     |none=>rw[ex] at hh;have:=hh x.1 (by simp);show 5+x.1.length<=100;omega
     |some v=>rw[ex] at hh;have q1:=hh x.1 (by simp);have q2:=hh v (by simp);show 5+(x.1++([32,111,102,32]++v)).length<=100;rw[aO,aO];show 5+(x.1.length+(4+v.length))<=100;omega
    ·rw[yG,Lg ok Za];have:=hR (upd nL q (.lst ((((chainOf up x.1).take 2).map sN).map V.str))) (aB hq);rw[hx] at this;exact this
   ·have qB:H' D=some (.lst (eO (up.map qu))):=by rw[he,hlen,uB];refine congrArg (λz=>some (HO.lst z)) ?_;rw[jC up _ (λx=>V.str (sN (qu x))) (λi x hx=>by rw[hx];rfl)];unfold eO;rw[aP];rfl
    refine⟨p,D,_,_,rfl,rfl,hs _ _ ag,qB,?_,λq hq=>?_⟩
    ·rw[d9,aa];have:=ok.le;exact ak (by show 1+up.length<=31;have h30:up.length<=30:=this;omega) (by decide)
    ·have s2:aS H H':=s1.trans hs;refine k q _ (s2.free hq) (s2.trans (aB hq)) ?_;rw[ag,Po,yG];have:c9 "words "++n=spaced [c9 "words",n]:=by show c9 "words "++n=c9 "words"++(32::n);rw[show c9 "words "=c9 "words"++[32] by decide,dn];rfl
     rw[this];rfl
end
end Bp
namespace Bp
open PySem PySem.Spec PyProof.Rows L2 Bm
open Vbslai (levels)
theorem cN{t:L2.St->Hp->Prop}{rt:VK}{bk ct:L2.St->Hp->Prop}{σ:L2.St}{H:Hp}(h:t σ H):WY ⟨t,rt,bk,ct⟩ σ H:=h
section
variable{P:bo}{w:bM}{K:ah}{mg:Str->Option aj}{base:cu}{A:Cl}
def Lh(A:Cl):Sp:=λvs H Q _=>∃(p dx:af)(c n v:V),vs=[.ref p,c,n,v]/\H p=some (.ins A.fZ dx [])/\
 ∀(H':Hp),H' p=some (.ins A.fZ dx (rn c n v))->(∀b o,H b=some o->b≠p->H' b=some o)->Q .gT H'
theorem Li(T:Txt K mg A):DA P w K mg base "Form" A.fZ 1 ["self","columns","secret_name","secret_values"] (Lh A):=by
 refine T.fZ.init.ok KJ (λvs H Q E h=>?_) (λf eC A' outer s H vs Q E hr h=>?_)
 ·obtain⟨p,dx,c,n,v,rfl,_⟩:=h;rfl
 ·obtain⟨p,dx,c,n,v,rfl,hp,k⟩:=h;refine⟨_,(aw (dZ (pv 0) (pv 1) rfl) (aw (dZ (pv 0) (pv 2) rfl) (aF (dZ (pv 0) (pv 3) rfl)))),?_⟩;refine⟨_,rfl,_,rfl,p,A.fZ,dx,[],rfl,hp,T.fZ.cl,T.fZ.fg,by decide,_,rfl,_,rfl,p,A.fZ,dx,_,rfl,ag,T.fZ.cl,T.fZ.gw,K6,_,rfl,_,rfl,p,A.fZ,dx,_,rfl,ag,T.fZ.cl,T.fZ.d4,put2,?_⟩;refine k _ ?_ λb o e hb=>?_
  ·rw[ag,Nq]
  ·rw[ax hb,ax hb,ax hb];exact e
theorem Hk{up:Up}(h:filled (.words up)=true):longest (fY up)+1=levels (.words up):=by
 have kJ:up≠[]:=λe=>by subst e;exact absurd h (by decide)
 rw[u1 kJ];rfl
def wY(A:Cl):Sp:=λvs H Q _=>∃(a:af)(f:dY),vs=[.ref a]/\gM A H a f/\iy f/\
 ∀D H',H D=none->aS H H'->H' D=some (.lst (gP (f.columns.map λc=>levels c.kind)))->Q (.ref D) H'
theorem kG(T:Txt K mg A):iR P w K mg base A.fZ "level_counts" 2 ["self"] (wY A):=by
 refine T.fZ.FT.ok kE (λvs H Q E h=>?_) (λf eC A' outer s H vs Q E hr h=>?_)
 ·obtain⟨a,fm,rfl,_⟩:=h;rfl
 ·obtain⟨a,fm,rfl,⟨dx,lc,lv,as,h1,h2,h3,h4⟩,ok,k⟩:=h;have hlen:=Paired.len h3;refine⟨_,(aF (aX (gU rfl (own:=[("column",1)]) kE.nd (dC (bj (pv 0) rfl)) (cM (by kernel_rfl)) (λ_ _ _ _ _=>(bQ (i:=1) kE.nd rfl fo)) (λ_ _ _ _ _=>eK) (λ_ _ _ _ _=>(PE.or (dk (pv 1) T.num.cl (lG T) hr.mono) (dk (pv 1) T.eW.cl (lH T) hr.mono)))))),?_⟩;refine fw ?_;refine⟨_,rfl,a,A.fZ,dx,_,_,rfl,h1,T.fZ.cl,T.fZ.fg,fP,lc,rfl,⟨_,bD.of h2⟩,?_⟩;refine En (n:=as.length) (f:=λi=>.int ((((fm.columns[i]?).map λc=>levels c.kind).getD 0:Nat):Int)) (by rw[hlen];exact ak ok.len (by decide)) ?_ ?_ (λi x H' nL R hi k' y hR=>?_) (λD H' hD hs he=>?_)
  ·have:=sP (K:=K) (bD.of h2);rw[ck] at this;exact this
  ·have:=m6 (K:=K) (bD.of h2);rw[ck] at this;exact this
  ·obtain⟨rfl,y⟩:=y;obtain⟨b,hb,rfl⟩:=kh (y _ (bD.of (k' _ _ h2)));obtain⟨c,hc,Hj⟩:=Paired.vH h3 hb;have Fs:=ok.cols c (aL hc);have:=hR nL (aS.refl _);rw[hc] at this;refine⟨rfl,?_⟩
   cases ek:c.kind with
   |numbers st=>have hn:=(Hj.mono k').num ek;obtain⟨NK,l,m,g1,g2,g3⟩:=id hn;refine .inl ⟨_,rfl,b,NK,_,rfl,g1,jW,b,_,st,_,rfl,hn,?_⟩;simp only[aa5,Z8,ek] at this;exact this
   |words up=>have hw:=(Hj.mono k').eW ek;obtain⟨NK,l,m,as',g1,g2,g3,g4⟩:=id hw;refine .inr ⟨_,rfl,b,NK,_,rfl,g1,jY,b,_,up,_,rfl,hw,?_⟩;rw[Hk (by rw[<-ek];exact Fs.fl)];simp only[aa5,Z8,ek] at this;exact this
  ·refine k D H' hD hs ?_;rw[he,hlen];refine congrArg (λz=>some (HO.lst z)) ?_;rw[jC fm.columns _ (λc=>V.int ((levels c.kind:Nat):Int)) (λi x hx=>by rw[hx];rfl)];unfold gP;rw[aP];rfl
def wZ(A:Cl):Sp:=λvs H Q _=>∃(a:af)(f:dY)(s:Int),vs=[.ref a,.int s]/\gM A H a f/\Q (.bl (pO f s)) H
theorem w6(T:Txt K mg A):iR P w K mg base A.fZ "takes_secret" 1 ["self","secret"] (wZ A):=by
 refine T.fZ.FU.ok wQ (λvs H Q E h=>?_) (λf eC A' outer s H vs Q E hr h=>?_)
 ·obtain⟨a,fm,s',rfl,_⟩:=h;rfl
 ·obtain⟨a,fm,v,rfl,⟨dx,lc,lv,as,h1,h2,h3,h4⟩,k⟩:=h;have eT:∀b,pO fm v=b->Q (.bl b) H:=λb h2=>by rw[<-h2];exact k
  refine⟨_,(aF (aX (jR ip C1 bx (pv 1) (cD bt (by rfl) T.b.dM cJ (aH (bj (pv 0) rfl) ao))))),?_⟩;refine⟨_,rfl,_,_,rfl,rfl,_,rfl,fC (λe1=>⟨_,rfl,a,A.fZ,dx,_,_,rfl,h1,T.fZ.cl,T.fZ.d4,fV,lv,_,rfl,.inl (bD.of h4),_,_,rfl,rfl,eT _ ?_⟩) (λe1=>eT _ ?_)⟩
  ·rw[d9];unfold pO cE;rw[decide_eq_true e1,mG];by_cases q:v<(fm.values.length:Int)
   ·rw[decide_eq_true q,decide_eq_true (by omega)]
   ·rw[decide_eq_false q,decide_eq_false (by omega)]
  ·unfold pO cE;rw[decide_eq_false e1];rfl
def jN(l:List Int):List V:=l.map V.int
theorem gH(l:List Int):(jN l).length=l.length:=aa ..
theorem IW{l:List Int}{i:Nat}{x:V}(h:(jN l)[i]? =some x):∃n,l[i]? =some n/\x=.int n:=by
 unfold jN at h;rw[aU] at h
 cases e:l[i]? with
 |none=>rw[e] at h;cases h
 |some n=>rw[e] at h;exact⟨n,rfl,(aW h).symm⟩
theorem Wq(l:List Nat):jN (l.map λ(n:Nat)=>(n:Int))=gP l:=by unfold jN gP;rw[aP];rfl
def yH(K:ah)(A:Cl):Sp:=λvs H Q _=>∃(a b:af)(f:dY)(l:List Int),vs=[.ref a,.ref b]/\gM A H a f/\iy f/\bD K H b (jN l)/\l.length<=100/\∀H',aS H H'->Q (.bl (rR f.columns l)) H'
theorem yI(T:Txt K mg A):iR P w K mg base A.fZ "takes_cells" 2 ["self","cells"] (yH K A):=by
 refine T.fZ.HZ.ok jo (λvs H Q E h=>?_) (λf eC A' outer s H vs Q E hr h=>?_)
 ·obtain⟨a,b,fm,l,rfl,_⟩:=h;rfl
 ·obtain⟨a,b,fm,l,rfl,⟨dx,lc,lv,as,h1,h2,h3,h4⟩,ok,hS,hl,k⟩:=h;have hlen:=Paired.len h3;refine⟨_,(aw (dj (cB C0 (cD bt (by rfl) T.b.dM cJ (aH (pv 1) ao)) (cD bt (by rfl) T.b.dM cJ (aH (bj (pv 0) rfl) ao)) (cx _)) (aF (aX jQ)) bO) (aF (aX (cD (uL rfl) (by rfl) T.b.BM vb (aH (gU rfl (own:=[("column",2),("cell",3)]) jo.nd (AI (by rfl) T.b.D8 (aH (bj (pv 0) rfl) (aH (pv 1) ao))) (cM (by kernel_rfl)) (λ_ _ _ _ _=>(zJ (K:=K) rfl (n:=2) rfl (fR (bQ (i:=2) jo.nd rfl fo) (fR (bQ (i:=3) jo.nd rfl fo) oz)))) (λ_ _ _ _ _=>eK) (λ_ _ _ _ _=>(PE.or (cg (pv 2) T.num.cl (IQ T) hr.mono (aH (pv 3) ao)) (cg (pv 2) T.eW.cl (IU T) hr.mono (aH (pv 3) ao))))) ao))))),?_⟩;refine⟨_,rfl,b,_,rfl,.inl hS,_,rfl,a,A.fZ,dx,_,_,rfl,h1,T.fZ.cl,T.fZ.fg,fP,lc,_,rfl,.inl (bD.of h2),rfl,_,rfl,vc (λe1=>?_) (λe1=>?_)⟩
  ·have:¬l.length=fm.columns.length:=λq=>e1 (by rw[gH,ck,hlen,q]);have e:rR fm.columns l=false:=by unfold rR;rw[show(l.length==fm.columns.length)=false by simpa using this];rfl
   have:=k H (aS.refl _);rw[e] at this;exact this
  ·have Pp:l.length=fm.columns.length:=by
    rw[gH,ck,hlen] at e1;injection e1 with e1
    omega
   refine cN ?_;refine iW ?_;refine kf ?_;refine fw ?_;refine⟨_,rfl,a,A.fZ,dx,_,_,rfl,h1,T.fZ.cl,T.fZ.fg,fP,_,rfl,lc,b,_,_,rfl,bD.of h2,hS,?_⟩;refine IF (xs:=iJ as) (ys:=jN l) (r:=(fm.columns.zip l).map λx=>V.bl (oP x.1 x.2)) (bD.of h2) hS (by rw[ck,gH,hlen,Pp]) (by rw[aa,eD,ck,hlen];omega) (by rw[ck,hlen];exact ak ok.len (by decide)) (λi x y v T' H' R hx hy hv k' hT hR=>?_) (λD H' hD hs he=>?_)
   ·obtain⟨ca,Zc,rfl⟩:=kh hx;obtain⟨n,hn,rfl⟩:=IW hy;obtain⟨c,hc,Hj⟩:=Paired.vH h3 Zc;have Fs:=ok.cols c (aL hc);have ev:v=.bl (oP c n):=by rw[aU,show(fm.columns.zip l)[i]? =some (c,n) from c8.mpr ⟨hc,hn⟩] at hv;exact(aW hv).symm
    subst ev;have k2:aS H (upd H' T' (.tup [.ref ca,.int n])):=k'.trans (aB hT);have Ex:=hR _ (aB (o:=.tup [.ref ca,.int n]) hT);refine⟨T',_,rfl,nj.of ag,rfl,_,_,rfl,_,_,rfl,rfl,rfl,?_⟩
    cases ek:c.kind with
    |numbers st=>obtain⟨NK,l',m,g1,g2,g3⟩:=(Hj.mono k2).num ek;refine .inl ⟨_,rfl,ca,NK,_,rfl,g1,Eb,_,rfl,ca,n,rfl,?_⟩;unfold oP at Ex;rw[ek] at Ex;exact Ex
    |words up=>have hw:=(Hj.mono k2).eW ek;obtain⟨NK,l',m,as',g1,g2,g3,g4⟩:=id hw;refine .inr ⟨_,rfl,ca,NK,_,rfl,g1,Ec,_,rfl,ca,_,up,_,n,rfl,hw,?_⟩;unfold oP at Ex;rw[ek] at Ex;exact Ex
   ·refine⟨D,(fm.columns.zip l).map λx=>oP x.1 x.2,rfl,bD.of (by rw[he,aP];rfl),?_⟩;rw[Er];have e:rR fm.columns l=(fm.columns.zip l).all λx=>oP x.1 x.2:=by unfold rR;rw[show(l.length==fm.columns.length)=true by simpa using Pp];rfl
    rw[<-e];exact k H' hs
def w8(K:ah)(A:Cl):Sp:=λvs H Q _=>∃(a b:af)(f:dY)(l:List Int),vs=[.ref a,.ref b]/\gM A H a f/\iy f/\bD K H b (jN l)/\l.length<=100/\∀H',aS H H'->Q (.bl (pP f.columns l)) H'
theorem iX(T:Txt K mg A):iR P w K mg base A.fZ "takes_levels" 3 ["self","levels"] (w8 K A):=by
 refine T.fZ.FV.ok iU (λvs H Q E h=>?_) (λf eC A' outer s H vs Q E hr h=>?_)
 ·obtain⟨a,b,fm,l,rfl,_⟩:=h;rfl
 ·obtain⟨a,b,fm,l,rfl,F0,ok,hS,hl,k⟩:=h;obtain⟨dx,lc,lv,as,h1,h2,h3,h4⟩:=id F0;have hlen:=Paired.len h3;refine⟨_,(aw (dj (cB C0 (cD bt (by rfl) T.b.dM cJ (aH (pv 1) ao)) (cD bt (by rfl) T.b.dM cJ (aH (bj (pv 0) rfl) ao)) (cx _)) (aF (aX jQ)) bO) (aF (aX (cD (uL rfl) (by rfl) T.b.BM vb (aH (gU rfl (own:=[("level",2),("levels_here",3)]) iU.nd (AI (by rfl) T.b.D8 (aH (pv 1) (aH (dk (pv 0) T.fZ.cl (kG T) hr.mono) ao))) (cM (by kernel_rfl)) (λ_ _ _ _ _=>(zJ (K:=K) rfl (n:=2) rfl (fR (bQ (i:=2) iU.nd rfl fo) (fR (bQ (i:=3) iU.nd rfl fo) oz)))) (λ_ _ _ _ _=>eK) (λ_ _ _ _ _=>(jR ip C1 bx (pv 2) (pv 3)))) ao))))),?_⟩;refine⟨_,rfl,b,_,rfl,.inl hS,_,rfl,a,A.fZ,dx,_,_,rfl,h1,T.fZ.cl,T.fZ.fg,fP,lc,_,rfl,.inl (bD.of h2),rfl,_,rfl,vc (λe1=>?_) (λe1=>?_)⟩
  ·have:¬l.length=fm.columns.length:=λq=>e1 (by rw[gH,ck,hlen,q]);have e:pP fm.columns l=false:=by unfold pP;rw[show(l.length==fm.columns.length)=false by simpa using this];rfl
   have:=k H (aS.refl _);rw[e] at this;exact this
  ·have Pp:l.length=fm.columns.length:=by
    rw[gH,ck,hlen] at e1;injection e1 with e1
    omega
   refine cN ?_;refine iW ?_;refine kf ?_;refine fw ?_;refine⟨_,rfl,_,rfl,a,dx,_,rfl,h1,jE,a,fm,rfl,F0,ok,λD1 H1 Zd s1 Xm=>?_⟩;refine⟨b,D1,_,_,rfl,s1.seq hS,bD.of Xm,?_⟩;refine IF (xs:=jN l) (ys:=gP (fm.columns.map λc=>levels c.kind)) (r:=(fm.columns.zip l).map λx=>V.bl (cE x.2 0 ((levels x.1.kind:Int)-1))) (s1.seq hS) (bD.of Xm) (by rw[gH,eh,aa,Pp]) (by rw[aa,eD,gH];omega) (by rw[gH];exact ak hl (by decide)) (λi x y v T' H' R hx hy hv k' hT hR=>?_) (λD H' hD hs he=>?_)
   ·obtain⟨n,hn,rfl⟩:=IW hx;obtain⟨lv',yJ,rfl⟩:=k8 hy;rw[aU] at yJ
    cases hc:fm.columns[i]? with
    |none=>rw[hc] at yJ;cases yJ
    |some c=>
     rw[hc] at yJ;cases yJ;have ev:v=.bl (cE n 0 ((levels c.kind:Int)-1)):=by rw[aU,show(fm.columns.zip l)[i]? =some (c,n) from c8.mpr ⟨hc,hn⟩] at hv;exact(aW hv).symm
     subst ev;have Ex:=hR _ (aB (o:=.tup [.int n,.int ((levels c.kind:Nat):Int)]) hT);have eT:∀bb,cE n 0 ((levels c.kind:Int)-1)=bb->R (.bl bb) (upd H' T' (.tup [.int n,.int ((levels c.kind:Nat):Int)])):=λbb h2=>by rw[<-h2];exact Ex
     refine⟨T',_,rfl,nj.of ag,rfl,_,_,rfl,_,_,rfl,rfl,rfl,?_⟩;refine⟨_,rfl,_,_,rfl,rfl,_,rfl,fC (λq1=>⟨_,rfl,_,_,rfl,rfl,eT _ ?_⟩) (λq1=>eT _ ?_)⟩
     ·unfold cE;rw[decide_eq_true q1,mG];by_cases q:n<((levels c.kind:Nat):Int)
      ·rw[decide_eq_true q,decide_eq_true (by omega)]
      ·rw[decide_eq_false q,decide_eq_false (by omega)]
     ·unfold cE;rw[decide_eq_false q1];rfl
   ·refine⟨D,(fm.columns.zip l).map λx=>cE x.2 0 ((levels x.1.kind:Int)-1),rfl,bD.of (by rw[he,aP];rfl),?_⟩;rw[Er];have e:pP fm.columns l=(fm.columns.zip l).all λx=>cE x.2 0 ((levels x.1.kind:Int)-1):=by unfold pP;rw[show(l.length==fm.columns.length)=true by simpa using Pp];rfl
    rw[<-e];exact k H' (s1.trans hs)
def yK(K:ah)(A:Cl):Sp:=λvs H Q _=>∃(a b:af)(f:dY)(l:List Int),vs=[.ref a,.ref b]/\gM A H a f/\bD K H b (jN l)/\l.length<=100/\∀H',aS H H'->Q (.bl (nX f.columns l)) H'
theorem yL(T:Txt K mg A):iR P w K mg base A.fZ "takes_asked" 1 ["self","asked"] (yK K A):=by
 refine T.fZ.Ia.ok lB (λvs H Q E h=>?_) (λf eC A' outer s H vs Q E hr h=>?_)
 ·obtain⟨a,b,fm,l,rfl,_⟩:=h;rfl
 ·obtain⟨a,b,fm,l,rfl,⟨dx,lc,lv,as,h1,h2,h3,h4⟩,hS,hl,k⟩:=h;have hlen:=Paired.len h3;refine⟨_,(aF (aX (lY (iT ji (cD bt (by rfl) T.b.dM cJ (aH (pv 1) ao)) (cD bt (by rfl) T.b.dM cJ (aH (bj (pv 0) rfl) ao)) (cx _)) (oS (cD (uL rfl) (by rfl) T.b.BM vb (aH (gU rfl (own:=[("mark",2)]) lB.nd (dC (pv 1)) (cM (by kernel_rfl)) (λ_ _ _ _ _=>(bQ (i:=2) lB.nd rfl fo)) (λ_ _ _ _ _=>eK) (λ_ _ _ _ _=>(jR ip ip bx (pv 2) bx))) ao)))))),?_⟩;refine⟨_,rfl,b,_,rfl,.inl hS,_,rfl,a,A.fZ,dx,_,_,rfl,h1,T.fZ.cl,T.fZ.fg,fP,lc,_,rfl,.inl (bD.of h2),rfl,_,rfl,fC (λe1=>?_) (λe1=>?_)⟩
  ·have Pp:l.length=fm.columns.length:=by
    rw[gH,ck,hlen] at e1;injection e1 with e1
    omega
   refine kf ?_;refine fw ?_;refine⟨_,rfl,b,rfl,⟨_,hS⟩,?_⟩;refine jL (l:=l) (enc:=V.int) (f:=λx=>.bl (cE x 0 1)) hS (ak hl (by decide)) (λi x H' R hx k' hR=>?_) (λD H' hD hs he=>?_)
   ·have eT:∀bb,cE x 0 1=bb->R (.bl bb) H':=λbb h2=>by rw[<-h2];exact hR H' (aS.refl _)
    refine⟨rfl,_,rfl,_,_,rfl,rfl,_,rfl,fC (λq1=>⟨_,_,rfl,rfl,eT _ ?_⟩) (λq1=>eT _ ?_)⟩
    ·unfold cE;rw[decide_eq_true q1];rfl
    ·unfold cE;rw[decide_eq_false q1];rfl
   ·refine⟨D,l.map λx=>cE x 0 1,rfl,bD.of (by rw[he,aP];rfl),?_⟩;rw[Er];have e:nX fm.columns l=l.all λx=>cE x 0 1:=by unfold nX;rw[show(l.length==fm.columns.length)=true by simpa using Pp];rfl
    rw[<-e];exact k H' hs
  ·have:¬l.length=fm.columns.length:=λq=>e1 (by rw[gH,ck,hlen,q]);have e:nX fm.columns l=false:=by unfold nX;rw[show(l.length==fm.columns.length)=false by simpa using this];rfl
   have:=k H (aS.refl _);rw[e] at this;exact this
end
end Bp
namespace Bp
open PySem PySem.Spec PyProof.Rows L2 Bm
section
variable{P:bo}{w:bM}{K:ah}{mg:Str->Option aj}{base:cu}{A:Cl}
def vL(cs:List bw)(ls cells:List Nat):List aG:=((cs.zip ls).zip cells).map λx=>j7 x.1.1.kind x.1.2 x.2
theorem NL(cs:List bw)(ls:List Nat)(r:fW):vL cs ls r.cells=aE cs ls r:=rfl
theorem NM{cs:List bw}{ls cells:List Nat}(h1:ls.length=cs.length)(h2:cells.length=cs.length):(vL cs ls cells).length=cs.length:=by unfold vL;rw[aa,eD,eD];omega
theorem NO{cs:List bw}{ls cells:List Nat}{i:Nat}{c:bw}{l v:Nat}(hc:cs[i]? =some c)(hl:ls[i]? =some l)(hv:cells[i]? =some v):(vL cs ls cells)[i]? =some (j7 c.kind l v):=by
 unfold vL;rw[aU];have:((cs.zip ls).zip cells)[i]? =some ((c,l),v):=by rw[c8,c8];exact⟨⟨hc,hl⟩,hv⟩
 rw[this];rfl
def Ci(K:ah)(A:Cl):Sp:=λvs H Q _=>∃(a b c:af)(f:dY)(cells ls:List Nat),vs=[.ref a,.ref b,.ref c]/\gM A H a f/\iy f/\bD K H b (gP cells)/\bD K H c (gP ls)/\yj f.columns cells/\kZ f.columns ls/\
 ∀(p:af)(H':Hp),H p=none->aS H H'->H' p=some (.tup (eO (vL f.columns ls cells)))->Q (.ref p) H'
theorem k9(T:Txt K mg A):iR P w K mg base A.fZ "looks_of" 3 ["self","cells","levels"] (Ci K A):=by
 refine T.fZ.QI.ok jx (λvs H Q E h=>?_) (λf eC A' outer s H vs Q E hr h=>?_)
 ·obtain⟨a,b,c,fm,cells,ls,rfl,_⟩:=h;rfl
 ·obtain⟨a,b,c,fm,cells,ls,rfl,⟨dx,lc,lv,as,h1,h2,h3,h4⟩,ok,hb,hc,Ze,Ey,k⟩:=h;have hlen:=Paired.len h3;have RD:=ok.len;refine⟨_,(aF (aX (qZ FK (by rfl) T.b.V8 Tn (aH (gU rfl (own:=[("column",3),("cell",4),("level",5)]) jx.nd (Wb (by rfl) T.b.D8 (aH (bj (pv 0) rfl) (aH (pv 1) (aH (pv 2) ao)))) (cM (by kernel_rfl)) (λ_ _ _ _ _=>(zJ (K:=K) rfl (n:=3) rfl (fR (bQ (i:=3) jx.nd rfl fo) (fR (bQ (i:=4) jx.nd rfl fo) (fR (bQ (i:=5) jx.nd rfl fo) oz))))) (λ_ _ _ _ _=>eK) (λ_ _ _ _ _=>(PE.or (cg (pv 3) T.num.cl (La T) hr.mono (aH (pv 4) (aH (pv 5) ao))) (cg (pv 3) T.eW.cl (Lf T) hr.mono (aH (pv 4) (aH (pv 5) ao)))))) ao)))),?_⟩;refine kf ?_;refine fw ?_;refine⟨_,rfl,a,A.fZ,dx,_,_,rfl,h1,T.fZ.cl,T.fZ.fg,fP,_,rfl,_,rfl,lc,b,c,_,_,_,rfl,bD.of h2,hb,hc,?_⟩;refine TV (xs:=iJ as) (ys:=gP cells) (zs:=gP ls) (r:=eO (vL fm.columns ls cells)) (bD.of h2) hb hc (by rw[ck,eh,hlen,Ze.1]) (by rw[ck,eh,hlen,Ey.1]) (by rw[d9,ck,hlen,NM Ey.1 Ze.1]) (by rw[ck,hlen];exact ak RD (by decide))
   (λi x y z v T' H' R hx hy hz hv k' hT hR=>?_) (λD H' hD hs he=>?_)
  ·obtain⟨ca,Zc,rfl⟩:=kh hx;obtain⟨n,hn,rfl⟩:=k8 hy;obtain⟨l,hl,rfl⟩:=k8 hz;obtain⟨col,Gj,Hj⟩:=Paired.vH h3 Zc;have Fs:=ok.cols col (aL Gj);have lM:=Ze.2 i col n Gj hn;have Lb:=Ey.2 i col l Gj hl;obtain⟨sh,Y9,rfl⟩:=T3 hv;rw[NO Gj hl hn] at Y9;cases Y9;have k2:aS H (upd H' T' (.tup [.ref ca,.int ((n:Nat):Int),.int ((l:Nat):Int)])):=k'.trans (aB hT);have Ex:=hR _ (aB (o:=.tup [.ref ca,.int ((n:Nat):Int),.int ((l:Nat):Int)]) hT);refine⟨T',_,rfl,nj.of ag,rfl,_,_,rfl,_,_,rfl,_,_,rfl,rfl,rfl,?_⟩
   cases ek:col.kind with
   |numbers st=>have Wr:=(Hj.mono k2).num ek;obtain⟨NK,l',m,g1,g2,g3⟩:=id Wr;rw[ek] at Ex Lb lM;have hkd:=Fs.kd;rw[ek] at hkd;exact .inl ⟨_,rfl,ca,NK,_,rfl,g1,Ge,_,rfl,_,rfl,ca,_,st,_,n,l,rfl,Wr,hkd.2,lM,Lb,Ex⟩
   |words up=>have hw:=(Hj.mono k2).eW ek;obtain⟨NK,l',m,as',g1,g2,g3,g4⟩:=id hw;rw[ek] at Ex Lb lM;exact .inr ⟨_,rfl,ca,NK,_,rfl,g1,Gf,_,rfl,_,rfl,ca,_,up,_,n,l,rfl,hw,lM,Lb,Ex⟩
  ·exact⟨D,_,rfl,.inl ⟨bD.of he,λq hq=>k q _ (hs.free hq) (hs.trans (aB hq)) ag⟩⟩
def Ez(K:ah)(A:Cl):Sp:=λvs H Q _=>∃(a b:af)(f:dY)(ls:List Nat),vs=[.ref a,.ref b]/\gM A H a f/\iy f/\bD K H b (gP ls)/\kZ f.columns ls/\
 ∀(H':Hp),aS H H'->Q (.int ((Vbslai.costOf f.columns ls:Nat):Int)) H'
theorem Lj:∀l:List Nat,(l.map λ(n:Nat)=>(n:Int)).sum=((l.sum:Nat):Int)
 |[]=>rfl
 |a::l=>by rw[bp,B5,B5,Lj l];omega
theorem mr(T:Txt K mg A):iR P w K mg base A.fZ "cost_at" 1 ["self","levels"] (Ez K A):=by
 refine T.fZ.Tq.ok mh (λvs H Q E h=>?_) (λf eC A' outer s H vs Q E hr h=>?_)
 ·obtain⟨a,b,fm,ls,rfl,_⟩:=h;rfl
 ·obtain⟨a,b,fm,ls,rfl,⟨dx,lc,lv,as,h1,h2,h3,h4⟩,ok,hb,Ey,k⟩:=h;have hlen:=Paired.len h3;have RD:=ok.len;refine⟨_,(aF (aX (cD (Ym rfl) (by rfl) T.b.ab5 YF (aH (gU rfl (own:=[("column",2),("level",3)]) mh.nd (AI (by rfl) T.b.D8 (aH (bj (pv 0) rfl) (aH (pv 1) ao))) (cM (by kernel_rfl)) (λ_ _ _ _ _=>(zJ (K:=K) rfl (n:=2) rfl (fR (bQ (i:=2) mh.nd rfl fo) (fR (bQ (i:=3) mh.nd rfl fo) oz)))) (λ_ _ _ _ _=>eK) (λ_ _ _ _ _=>(eG (TK (K:=K) rfl) (kg (K:=K) rfl (pv 2) rfl) (pv 3) (λ_ _=>rfl)))) ao)))),?_⟩;refine kf ?_;refine fw ?_;refine⟨_,rfl,a,A.fZ,dx,_,_,rfl,h1,T.fZ.cl,T.fZ.fg,fP,_,rfl,lc,b,_,_,rfl,bD.of h2,hb,?_⟩;refine IF (xs:=iJ as) (ys:=gP ls) (r:=gP ((fm.columns.zip ls).map λx=>x.1.costs.getD x.2 0)) (bD.of h2) hb (by rw[ck,eh,hlen,Ey.1]) (by rw[eh,aa,eD,ck,hlen,Ey.1];omega) (by rw[ck,hlen];exact ak RD (by decide))
   (λi x y v T' H' R hx hy hv k' hT hR=>?_) (λD H' hD hs he=>?_)
  ·obtain⟨ca,Zc,rfl⟩:=kh hx;obtain⟨l,hl,rfl⟩:=k8 hy;obtain⟨col,Gj,Hj⟩:=Paired.vH h3 Zc;have Fs:=ok.cols col (aL Gj);have Lb:=Ey.2 i col l Gj hl;obtain⟨cv,hcv,rfl⟩:=k8 hv;rw[aU,show(fm.columns.zip ls)[i]? =some (col,l) from c8.mpr ⟨Gj,hl⟩] at hcv;cases hcv;have k2:aS H (upd H' T' (.tup [.ref ca,.int ((l:Nat):Int)])):=k'.trans (aB hT);have Ex:=hR _ (aB (o:=.tup [.ref ca,.int ((l:Nat):Int)]) hT);have KS:(gP col.costs)[l]? =some (.int ((col.costs.getD l 0:Nat):Int)):=by
    have:l<col.costs.length:=by rw[Fs.cl];exact Lb
    unfold gP;rw[aU,cn,au this];rfl
   refine⟨T',_,rfl,nj.of ag,rfl,_,_,rfl,_,_,rfl,rfl,rfl,?_⟩
   cases ek:col.kind with
   |numbers st=>obtain⟨NK,l',m,g1,g2,g3⟩:=(Hj.mono k2).num ek;exact⟨_,rfl,ca,A.num,NK,_,_,rfl,g1,T.num.cl,T.num.oC,qi,_,rfl,m,_,_,_,rfl,rfl,bD.of g3,cG KS,Ex⟩
   |words up=>obtain⟨NK,l',m,as',g1,g2,g3,g4⟩:=(Hj.mono k2).eW ek;exact⟨_,rfl,ca,A.eW,NK,_,_,rfl,g1,T.eW.cl,T.eW.oC,qj,_,rfl,m,_,_,_,rfl,rfl,bD.of g4,cG KS,Ex⟩
  ·refine⟨D,((fm.columns.zip ls).map λx=>x.1.costs.getD x.2 0).map λ(n:Nat)=>(n:Int),rfl,bD.of (by rw[he,<-Wq];rfl),?_⟩;rw[Lj,<-QE];exact k H' hs
end
end Bp
namespace Bp
open PySem PySem.Spec PyProof.Rows L2 Bm
theorem Paired.unzip{α β:Type}{R:α->β->Prop}{as:List α}{bs:List β}(h:dh R as bs):∃l:List (α×β),as=l.map (·.1)/\bs=l.map (·.2)/\∀p∈l,R p.1 p.2:=by
 induction h with
 |nil=>exact⟨[],rfl,rfl,λp h=>nomatch h⟩
 |cons r t ih=>
  rename_i a b as bs;obtain⟨l,rfl,rfl,h⟩:=ih;exact⟨(a,b)::l,rfl,rfl,λp hp=>by
   rcases aA.mp hp with q|q
   ·subst q;exact r
   ·exact h p q⟩
theorem Paired.NP{α β:Type}{R:α->β->Prop}:∀{l:List (α×β)},(∀p∈l,R p.1 p.2)->dh R (l.map (·.1)) (l.map (·.2))
 |[],_=>.nil
 |p::l,h=>.cons (h p (.head _)) (Paired.NP λq hq=>h q (.tail _ hq))
theorem zN{β:Type}(l:List (af×β)):iJ (l.map (·.1))=l.map λp=>V.ref p.1:=by unfold iJ;rw[aP];rfl
theorem ib{α β:Type}(p:β->Bool)(l:List (α×β)):(l.filter λx=>p x.2).map (·.2)=(l.map (·.2)).filter p:=by rw[mJ];rfl
theorem T6{α β:Type}[DecidableEq α][DecidableEq β]{f:α->β}(hf:∀x y,f x=f y->x=y)(l:List α):dd (l.map f)=(dd l).map f:=by
 have key:∀(l acc:List α),(l.map f).foldl BB (acc.map f)=(l.foldl BB acc).map f:=by
  intro l
  induction l with
  |nil=>intro acc;rfl
  |cons a l ih=>
   intro acc;rw[bp,bI,bI,<-ih];congr 1;unfold BB;by_cases q:a∈acc
   ·rw[if_pos q,if_pos (aq.mpr ⟨a,q,rfl⟩)]
   ·rw[if_neg q,if_neg (λz=>by obtain⟨b,hb,e⟩:=aq.mp z;exact q (by rw[<-hf _ _ e];exact hb)),br];rfl
 exact key l []
def Ft(n:Nat):Key:=cC (n:Int)
theorem Ws:∀x y,Ft x=Ft y->x=y:=λx y h=>by have:=Ao h;exact aex this
def zO(b:aG):Key:=gZ (sN b)
theorem Pq:∀x y,zO x=zO y->x=y:=λx y h=>vG (aiU h)
theorem Lk(l:List aG):eO l=(l.map zO).map kV:=by unfold eO;rw[aP];rfl
theorem T7(l:List Nat):(gP l).all pR=true:=by rw[b0];intro x hx;unfold gP at hx;obtain⟨n,_,rfl⟩:=aq.mp hx;rfl
section
variable{X:Cx}{K:ah}
theorem NQ{o e:Expr}{to te:TE}{apos l5:Pos}(hK:X.K=K)(ho:PE X o to)(he:PE X e te)(hn:O5 e=true:=by rfl)(nt:fU o "count" X.env (eval o X.env)=eval o X.env:=by rfl)(gC:(apos.endLine==l5.line)=true:=by rfl)(Yk:((fH l5 (bL [e] X.env)).all (λx=>!x.1)&&(iH l5 (eU [] X.env)).all (λx=>x.1.isSome)&&decide (([e]).length+([]:List Bu).length+(if([]:List Bu).isEmpty then 0 else 1)<30))=true:=by rfl):
  PE X (.Call (.Attribute o "count" apos) [e] [] l5) (tBM K "list" (λx xs H Q=>∃(a:af)(ys:List V)(y:V),x=V.ref a/\xs=[y]/\bD K H a ys/\pR y=true/\ys.all pR=true/\Q (.int ((ys.countP λz=>OM z y:Nat):Int)) H) to (qR te uI)):=by
 subst hK;exact oh bP PV PySem.F.type_list_count QT ho (aH he ao hn) nt Yk gC (va hn)
end
end Bp
namespace Bp
open PySem PySem.Spec PyProof.Rows PyProof.Rows.G L2 Bm
open PySem.W (KdlSrc)
section
variable{prog:bo}{w:bM}{A:cp}{E:aj->ay->Prop}{s:ay}
theorem T8{o:Obj}{es:Array gR}{ep:Nat}(Fq:o.data=.dict es ep)(hh:A.handled=none)(I d:af)(kJ:d≠I):
  Walks prog w A I [I,d] [I] es.size (λi v=>∃en,es[i]? =some en/\v=en.key) (λi h=>h.IsKeyIter I d i es.size ep/\h.get? d=some o) where
 sub:=λb hb=>by simp at hb;simp[hb]
 frame:=λ_ _ _ st hk=>⟨st.1.at λo e=>hk I (by simp) o e,hk d (by simp) _ st.2⟩
 item:=λi s Q E hi st hQ=>by obtain⟨en,hx⟩:∃p,es[i]? =some p:=⟨es[i],by simp[hi]⟩;exact FO st.1 st.2 Fq rfl hx λh' Qu QD=>hQ en.key h' s.toks ⟨en,hx,rfl⟩ ⟨Qu,(QD.2 d kJ).trans st.2⟩ λb o hb e=>QD.extBut b o (λh=>hb (by simp[h])) e
 done:=λs Q E st hQ=>HQ hh st.1 st.2 Fq rfl (aJ _) λh' qB=>hQ h' s.toks λb o hb e=>qB b o (λh=>hb (by simp[h])) e
 self:=λ_ _ _ _ st hQ=>wpAny_pyIter_keyiter st.1 hQ
theorem Zf{o:Obj}{es:Array gR}{ep:Nat}{d:af}(lo:(d==gb)=false)(hx:o.ExactDict)(Fq:o.data=.dict es ep):
  KdlSrc prog w "dict" d d es.size (λi v=>∃en,es[i]? =some en/\v=en.key) (λh=>h.get? d=some o) where
 type:=λ_ hm=>⟨o,hm,hx.1⟩
 there:=λ_ hm=>⟨bc hm,bc hm⟩
 keep:=λ_ _ hm hk=>hk d (.inl rfl) o hm
 notList:=by decide
 notTuple:=by decide
 hint:=λ_ _ _ _ hm hq=>PySem.W.kdl_hint_dict ⟨o,hm,hx.1⟩ hq
 iter:=λ_ _ hh hm=>⟨_,_,λ_ _ hq=>Qt lo hm hx Fq hq,T8 Fq hh _ d (bR (bc hm)),⟨⟨_,aT _ rfl,rfl,rfl⟩,ai _ hm⟩⟩
theorem NR{o:Obj}{es:Array gR}{ep:Nat}{d:af}{Q:List aj->ay->Prop}(hh:A.handled=none)(lo:(d==gb)=false)(ho:s.heap.get? d=some o)(hx:o.ExactDict)(Fq:o.data=.dict es ep)(hsz:es.size<=az)(h:∀h' tk,s.heap.objs.size<h'.objs.size->(∀b o,s.heap.get? b=some o->h'.get? b=some o)->Q (es.toList.map (·.key)) {s with heap:=h',toks:=tk}):bg (model prog w) A (collect (.ref d)) Q E s:=by
 unfold collect;refine ae (wpAny_runValue (fX entry_proto_collect' ?_));show bg _ _ (do again (.builtin "list.__iadd__" ⟨[<-newList [],.ref d],[]⟩)) _ _ s;refine ae (WQ (aI ⟨Jv _ (by decide+kernel),fX entry_list_iadd' ?_⟩));have og:d<s.heap.objs.size:=bc ho;rw[gf (show plainId "list.__iadd__"=true by decide+kernel) _];refine PySem.W.kdl_extend (prog:=prog) (w:=w) (A:=A) (R:=wants (λv s'=>bg (model prog w) A (match v with|.ref a=>(do let o <-load a;match o.data with|.seq xs _=>pure xs.toList|_=>unsupported "internal:collect")|_=>unsupported "internal:collect") Q E s') E) (s:={s with heap:=s.heap.push (RP "list" #[] 0)}) (Zf lo hx Fq) hh (ai _ ho) s.heap.objs.size (dw og) (dw og) (.ref s.heap.objs.size) 0 (aT _ rfl) (λh' tk acc c hk hS wV=>?_) hsz;have ev:acc.toList=es.toList.map (·.key):=by
  apply nU;intro i;by_cases hi:i<es.size
  ·obtain⟨v,h1⟩:∃v,acc[i]? =some v:=⟨acc[i]'(by rw[wV.1];exact hi),by simp[wV.1,hi]⟩
   obtain⟨en,e1,e2⟩:=wV.2 i _ h1;rw[oy,h1,aU,oy,e1,e2];rfl
  ·rw[c6 (by rw[ig,wV.1];omega),c6 (by rw[aa,ig];omega)]
 show bg (model prog w) A (do
   let o <-load s.heap.objs.size
   match o.data with
   |.seq xs _=>pure xs.toList
   |_=>unsupported "internal:collect") Q E _
 refine ae (wpAny_load hS ?_);show bg _ _ (pure acc.toList) Q E _;rw[ev];exact aI (h h' tk (bc hS) λb o e=>hk b o (bR (bc e)) (ai _ e))
theorem QW{o:Obj}{es:Array gR}{ep:Nat}{d:af}{fs:List aj}{Q:aj->ay->Prop}(hh:A.handled=none)(lo:(d==gb)=false)(ho:s.heap.get? d=some o)(hx:o.ExactDict)(Fq:o.data=.dict es ep)(hsz:es.size<=az)(ht:TupsOf s.heap (λ_=>true) (es.toList.map (·.key)) fs)(hk:∀v,v∈es.toList.map (·.key)->∃l,tupKeyC s.heap (λ_=>true) v=some l)(h:∀(st:SortSt)(p:af)(h':cu)(tk:Nat)(n:Nat),(al7 st).Perm (pairsOf (es.toList.map (·.key)))->SortedToK (tupKindC s.heap λ_=>true) (al7 st) (pairsOf (es.toList.map (·.key))).size->s.heap.objs.size<=p->h'.get? p=some (RP "list" ((al7 st).map (·.2)) n)->(∀b o,s.heap.get? b=some o->h'.get? b=some o)->Q (.ref p) {s with heap:=h',toks:=tk}):bg (model prog w) A (call (.builtin "sorted") [.ref d]) Q E s:=by
 generalize hvs:es.toList.map (·.key)=vs at ht hk h;have hvl:vs.length<=az:=by rw[<-hvs,aa,ig];exact hsz
 refine Calls.call_function_entry kind_sorted plain_sorted entry_sorted (args_sorted1 _) ?_;unfold Builtin.«sorted»;refine ae (m:=checkCount "sorted" 1 1 _) (aI ?_);refine ae (NR (A:=_) hh lo ho hx Fq hsz λh1 tk hle k1=>?_);rw[hvs];refine ae (WQ ?_);have hoL:(h1.push (RP "list" vs.toArray 0)).get? h1.objs.size=some (RP "list" vs.toArray 0):=aT _ rfl;have k0:KeepsTups s.heap (h1.push (RP "list" vs.toArray 0)):=λb o e c=>ai _ (k1 b o e);have k6:=k0.trans (keeps_sort6 (vs:=vs) hoL);show bg _ _ _ _ _ {s with heap:=h1.push (RP "list" vs.toArray 0),toks:=tk};refine ae (gz (fz slot_list_sort ⟨_,hoL,rfl⟩ entry_list_sort (list_sort_treeG (κ:=tupKindC s.heap λ_=>true) (kd:=tuples' true) hoL (tupKeys hk) ?_ ?_ hvl λst a1 a2 a3=>⟨_,rfl,?_⟩) (args_list_sort _)))
 ·exact tupC_ltAt (s:={s with heap:=sortHeap6 (h1.push (RP "list" vs.toArray 0)) h1.objs.size vs,toks:=tk}) true k6
 ·intro h2 R hq;exact tup_kind (s:={s with heap:=sortHeap6 (h1.push (RP "list" vs.toArray 0)) h1.objs.size vs,toks:=tk}) (by rw[TupsOf.length ht];omega) (TupsOf.keep k6 ht) hq
 ·obtain⟨n,hn⟩:=sortedHeap_at (out:=(al7 st).map (·.2)) hoL;exact aI ⟨_,rfl,h st h1.objs.size _ tk n a1 a2 (cT hle) hn λb o e=>by have hb:b<h1.objs.size:=bc (k1 b o e);rw[sortedHeap_old (bR hb) (by rw[size_push'];exact kr hb)];exact ai _ (k1 b o e)⟩
end
theorem Ll:∀x y:List aG,lexLt am7 (x.map gZ) (y.map gZ)=gk x y
 |[],[]=>rfl
 |[],_::_=>rfl
 |_::_,[]=>rfl
 |a::x,b::y=>by
  show(am7.blt (gZ a) (gZ b)||(!am7.blt (gZ b) (gZ a)&&lexLt am7 (x.map gZ) (y.map gZ)))=(uz a b||(a==b&&gk x y));rw[Ll x y];show(decide (a<b)||(!decide (b<a)&&gk x y))=_;rw[<-Dy,<-Dy];by_cases e:a=b
  ·subst e;rw[se];simp
  ·rw[show(a==b)=false by simpa using e]
   cases h1:uz a b with
   |true=>rfl
   |false=>rw[u5 e h1];rfl
theorem T9{α β:Type}{f:α->β}{l:List β}{m:List β}(h:l.Perm m):∀{L:List α},m=L.map f->∃L':List α,L'.Perm L/\l=L'.map f:=by
 induction h with
 |nil=>intro L e;exact⟨[],by rw[ju.mp e.symm],rfl⟩
 |cons x _ ih=>
  intro L e
  cases L with
  |nil=>cases e
  |cons a L=>
   rw[bp] at e;cases e;obtain⟨L',h1,h2⟩:=ih rfl;exact⟨a::L',h1.cons a,by rw[h2];rfl⟩
 |swap x y l=>
  intro L e
  cases L with
  |nil=>cases e
  |cons a L=>cases L with
   |nil=>cases e
   |cons b L=>
    cases e;exact⟨b::a::L,List.Perm.swap _ _ _,rfl⟩
 |trans _ _ ih1 ih2=>intro L e;obtain⟨L1,h1,e1⟩:=ih2 e;obtain⟨L2,h2,e2⟩:=ih1 e1;exact⟨L2,h2.trans h1,e2⟩
theorem Hl:∀(x:List aG)(us:List aj)(i:Nat),Vals (eO x) us->tupItems (λ_=>true) i us=some (x.map gZ)
 |[],us,i,h=>by cases h;rfl
 |a::x,us,i,h=>by
  cases h with
  |cons r t=>obtain⟨tk,rfl⟩:=r;show(if(true:Bool)=true then(tupItems (λ_=>true) (i+1) _).map (gZ (sN a).cps.toList::·) else none)=_;rw[if_pos rfl,Hl x _ (i+1) t,lE];rfl
section
variable{X:Cx}
theorem NS(hc:X.calm=true):kj X (.builtin "sorted") (λxs H Q=>∃(d:af)(kvs:List (List Key×V))(ks:List (List aG)),xs=[.ref d]/\H d=some (.dT kvs)/\kvs.map (·.1)=ks.map (·.map zO)/\ks.Nodup/\(∀x∈ks,x≠[])/\∀(L:List (List aG×af))(p:af),(L.map (·.1)).Perm ks->md (L.map (·.1))->(∀y∈L,H y.2=some (.tup (eO y.1)))->H p=none->Q (.ref p) (upd H p (.lst (L.map λy=>.ref y.2)))):=by
 intro pins s σ H vs us Q I r h;obtain⟨d,kvs,ks,rfl,hd,hks,Ve,kJ,q⟩:=h;rw[Vals.HJ r];obtain⟨hz,lo,xs,pr,o,es,ep,ho,hx,Fq,he,hnx⟩:=I.dI d _ hd;have hes:es.toList.map (·.key)=xs.map λz=>bu z.2.1:=by rw[he,aP];rfl
 have zb:es.size=xs.length:=am5 he;have MK:kvs.length=xs.length:=qL pr;obtain⟨L0,e1,e2,K2⟩:∃L0:List (List aG×af),L0.map (·.1)=ks/\L0.map (·.2)=xs.map (·.2.1)/\∀y∈L0,H y.2=some (.tup (eO y.1)):=by
  clear hz he hes zb MK hd Ve kJ q hnx
  induction pr generalizing ks with
  |nil=>have:ks=[]:=ju.mp hks.symm;exact⟨[],by rw[this];rfl,rfl,λy h=>nomatch h⟩
  |cons a t ih=>
   rename_i kv z NT xs'
   cases ks with
   |nil=>cases hks
   |cons k ks=>
    rw[bp,bp] at hks;injection hks with h1 h2
    obtain⟨L0,f1,f2,f3⟩:=ih ks h2;refine⟨(k,z.2.1)::L0,by rw[bp,f1],by rw[bp,bp,f2],λy hy=>?_⟩;rcases aA.mp hy with e|e
    ·subst e;have:=a.2.1;rw[h1,<-Lk] at this;exact this
    ·exact f3 y e
 have hv:es.toList.map (·.key)=L0.map λy=>bu y.2:=by
  rw[hes];have:(L0.map λy=>bu y.2)=(L0.map (·.2)).map bu:=by rw[aP];rfl
  rw[this,e2,aP];rfl
 have Xn:∀y∈L0,∃(it:List aj)(ot:Obj)(n:Nat),Vals (eO y.1) it/\s.heap.get? y.2=some ot/\ot.cls=.type "tuple"/\ot.data=.seq it.toArray n:=λy hy=>by obtain⟨_,it,rv,ot,h1,h2,n,h3⟩:=I.dI y.2 _ (K2 y hy);exact⟨it,ot,n,rv,h1,h2,h3⟩
 have Xo:∀y∈L0,tupKeyC s.heap (λ_=>true) (.ref y.2)=some (y.1.map gZ):=λy hy=>by
  obtain⟨it,ot,n,rv,h1,h2,h3⟩:=Xn y hy;have hc:isTupObj s.heap (.ref y.2)=true:=by simp only[isTupObj,h1,h2];rfl
  unfold tupKeyC;rw[if_pos hc];unfold tupKey;simp only[h1,h3];exact Hl y.1 it 0 rv
 obtain⟨fs,hfs⟩:∃fs,TupsOf s.heap (λ_=>true) (L0.map λy=>bu y.2) fs:=by
  have:∀L:List (List aG×af),(∀y∈L,y∈L0)->∃fs,TupsOf s.heap (λ_=>true) (L.map λy=>bu y.2) fs:=by
   intro L
   induction L with
   |nil=>exactλ_=>⟨[],.nil⟩
   |cons y L ih=>
    intro hs;obtain⟨fs,hf⟩:=ih λz hz=>hs z (.tail _ hz);have hy:=hs y (.head _);obtain⟨it,ot,n,rv,h1,h2,h3⟩:=Xn y hy;have afQ:y.1≠[]:=kJ y.1 (by rw[<-e1];exact aq.mpr ⟨y,hy,rfl⟩)
    cases hyc:y.1 with
    |nil=>exact absurd hyc afQ
    |cons b x=>
     rw[hyc] at rv
     cases rv with
     |cons r t=>rename_i u us;obtain⟨tk,rfl⟩:=r;exact⟨.str (sN b) tk::fs,.cons ⟨y.2,ot,_,n,rfl,h1,h2,h3,rfl,λz=>by simp at z,λ_=>⟨_,_,rfl⟩⟩ hf⟩
  exact this L0 λy hy=>hy
 refine QW (I.ok.hd hc) lo ho hx Fq (by omega) (by rw[hv];exact hfs) (λv hm=>?_) λst p h' tk n a1 a2 hp hL hkk=>?_
 ·rw[hv] at hm;obtain⟨y,hy,rfl⟩:=aq.mp hm;exact⟨_,Xo y hy⟩
 ·rw[hv] at a1 a2;have Hm:(al7 st).toList.Perm (L0.map λy=>(bu y.2,bu y.2)):=by
   have:=Array.perm_iff_toList_perm.mp a1;rw[pairsOf_toList] at this;have e3:(L0.map λy=>bu y.2).zip (L0.map λy=>bu y.2)=L0.map λy=>(bu y.2,bu y.2):=by rw[List.zip_map']
   rw[e3] at this;exact this
  obtain⟨L,hLp,Zg⟩:=T9 Hm rfl;have hLm:∀y∈L,y∈L0:=λy hy=>hLp.mem_iff.mp hy;have acn:((al7 st).map (·.2))=(L.map λy=>bu y.2).toArray:=by apply Array.ext';rw[Array.toList_map,Zg,aP];rfl
  have aco:(L.map (·.1)).Nodup:=by refine(List.Perm.nodup_iff (hLp.map (·.1))).mpr ?_;rw[e1];exact Ve
  have Pr:md (L.map (·.1)):=by
   unfold md;rw[List.pairwise_iff_getElem];intro i j hi hj hij;rw[aa] at hi hj;have hn0:(pairsOf (L0.map λy=>bu y.2)).size=L.length:=by rw[pairsOf_size,aa,hLp.length_eq]
   have hs:=a2 i j (cT hij) (by rw[hn0];exact hj);have kk:∀i(h:i<L.length),KK (tupKindC s.heap λ_=>true) (al7 st) i=L[i].1.map gZ:=λi h=>by
    have:(al7 st)[i]? =some (bu L[i].2,bu L[i].2):=by rw[<-oy,Zg,aU,au h];rfl
    unfold KK;rw[this];show((tupKeyC s.heap (λ_=>true) (.ref L[i].2)).getD [])=_;rw[Xo _ (hLm _ (GF h))];rfl
   rw[kk i hi,kk j hj] at hs;have QD:lexLt am7 (L[j].1.map gZ) (L[i].1.map gZ)=false:=hs;rw[Ll] at QD;rw[Z9,Z9];have afS:L[j].1≠L[i].1:=λe=>by have:=abX aco (i:=j) (j:=i) (x:=L[i].1) (by rw[aU,au hj];exact congrArg some e) (by rw[aU,au hi];rfl);omega
   exact u7 afS QD
  have acp:Vals (L.map λy=>V.ref y.2) (L.map λy=>bu y.2):=by
   clear hLp Zg hLm acn aco Pr
   induction L with
   |nil=>exact .nil
   |cons y L ih=>exact .cons rfl ih
  refine⟨.ref p,_,I.laid (t':=tk) hkk hp (show fB X.prog X.w _ h' _ (.lst (L.map λy=>V.ref y.2)) from⟨?_,_,n,acp,?_⟩),rfl,q L p ?_ Pr (λy hy=>K2 y (hLm y hy)) (I.dI.fresh hp)⟩
  ·rw[aa,hLp.length_eq];have:L0.length=ks.length:=by rw[<-e1,aa]
   have h2:ks.length=kvs.length:=by have:=congrArg Ap hks;rw[aa,aa] at this;exact this.symm
   omega
  ·rw[hL,acn]
  ·rw[<-e1];exact hLp.map (·.1)
end
end Bp
namespace Bp
open PySem PySem.Spec PyProof.Rows L2
theorem Lm(l:af)(items:Array aj)(n:Nat)(w9:Option af)(sl:Array (Option aj))(t:Tok):
  adI (Builtin.«enumerate.__new__» ⟨[.type "enumerate",.ref l],[("start",.int 1 t)]⟩) (λ_ R s=>s.heap.get? l=some {cls:=.type "list",dict:=w9,data:=.seq items n,slots:=sl}/\R (.ok (.ret (.ref (s.heap.push {cls:=.type "list_iterator",data:=.fields #[.ref l,.int 0 0]}).objs.size))) {s with heap:=(s.heap.push {cls:=.type "list_iterator",data:=.fields #[.ref l,.int 0 0]}).push {cls:=.type "enumerate",data:=.fields #[.none,.bool false,.ref s.heap.objs.size,eQ 1,.none,.none]}}):=
 .of_wp λprog w A R s h=>by
  obtain⟨hp,g,d,tk,os⟩:=s;obtain⟨hl,h⟩:=h;have sQ:=sub_enumerate;have hL:P0 (P1 ⟨hp,g,d,tk,os⟩) l items:=⟨_,hl,rfl,n,rfl⟩;wp_walk using dA hl;refine wpAny_stack_any λst=>aI ?_;split
  ·rename_i c _ _ _ _ _;cases(c==mE "enumerate")
   ·wp_walk using dA hl,fK hL;exact⟨_,rfl,h⟩
   ·wp_walk using dA hl,fK hL;exact⟨_,rfl,h⟩
  ·wp_walk using dA hl,fK hL;exact⟨_,rfl,h⟩
theorem Ua(a:aj)(t:Tok):WN "enumerate" ⟨[a],[("start",.int 1 t)]⟩=pure ():=by kernel_rfl
theorem Ub(a:aj)(t:Tok):Ot "enumerate.__new__" ⟨[.type "enumerate",a],[("start",.int 1 t)]⟩=pure ():=by kernel_rfl
theorem Uc(a b:aj)(t:Tok):U3 "object.__init__" ⟨[a,b],[("start",.int 1 t)]⟩:=by unfold U3;rw[signature?_of (id:="object.__init__") (n:=['_','_','t','i','n','i','_','_']) (o:=['t','c','e','j','b','o']) (by kernel_rfl) F.owner_object];kernel_rfl
section
variable{prog:bo}{w:bM}{A:cp}{E:aj->ay->Prop}{s:ay}
theorem Ud{T newId:String}{self a:aj}{kw:List (Str×aj)}(hl:ahh (.type T) "__init__"=pure (some (.builtin "object.__init__")))(hm:Bind.madeBy (.type T)=pure (some newId))(kJ:(some newId !=some "object.__new__")=true):
  adI (Builtin.«object.__init__» ⟨[self,a],kw⟩) (λ_ R s=>s.TypeIs self T/\R (.ok (.ret .none)) s):=by
 refine Meets.of_wp λprog w A R s hs=>?_;obtain⟨hT,hq⟩:=hs
 repeat (any_goals(first|assumption|wp_step))
 exact⟨_,rfl,hq⟩
theorem Wt{T newId:String}{Bn:Builtin}{a:aj}{kw:List (Str×aj)}{S:PySem.Spec}{Q:aj->ay->Prop}(ft:TypeCalled T newId "object.__init__")(kJ:(some newId !=some "object.__new__")=true)(hct:WN T ⟨[a],kw⟩=pure ())(Ze:Ot newId ⟨[.type T,a],kw⟩=pure ())(dI:∀obj,U3 "object.__init__" ⟨[obj,a],kw⟩)(Zh:entryFor table newId=some Bn)(g:adI (Bn ⟨[.type T,a],kw⟩) S)(h:S A.in1 (wants (λobj s1=>s1.TypeIs obj T/\Q obj s1) E) s):bg (model prog w) A (call (.type T) [a] kw) Q E s:=by
 obtain⟨c,tl,afC⟩:=ft.mro;have acg:=ft.made;have sQ:=ft.sub;refine Jx (am6 ?_);show bg _ _ (callAny (.type T) _) _ _ _;refine aI ⟨Jv _ (by decide+kernel),fX aiR ?_⟩;rw[ahd (aaX T [a] kw) (units_type_call_type T [a] kw)];have h1:=ft.notType;have h2:=ft.canCreate
 repeat (any_goals(first|assumption|wp_step))
 refine kH (E3 ft.plain Zh (PZ Ze (g prog w A.in1 _ s h))) λr s1 hr=>?_
 cases r with
 |error e=>exact hr
 |ok fl=>
  cases fl with
  |ret obj=>
   obtain⟨hT,hQ⟩:=hr;have hli:=ft.init.lookup;have hbi:=ft.init.bind obj
   repeat (any_goals(first|assumption|wp_step))
   refine kH (E3 (R:=wants (λr s2=>r=.none/\Q obj s2) E) ft.init.plain F.entry_object_init (ft.init.check _ _ _ _ _ _ _ _ hT (dI obj) (Ud ft.init.lookup ft.made kJ prog w A.in1 _ s1 ⟨hT,rfl,hQ⟩))) λr2 s2 JD=>?_
   cases r2 with
   |error e=>exact JD
   |ok fl2=>
    cases fl2 with
    |ret r=>
     obtain⟨rfl,hq⟩:=JD
     repeat (any_goals(first|assumption|wp_step))
    |_=>exact JD.elim
  |_=>exact hr.elim
theorem NU{l:af}{items:Array aj}{t:Tok}{Q:aj->ay->Prop}(hL:s.heap.IsList l items)(h:∀h',Fh h' (s.heap.objs.size+1) s.heap.objs.size 1 .none->h'.IsListIter s.heap.objs.size l 0->(∀b o,s.heap.get? b=some o->h'.get? b=some o)->Q (.ref (s.heap.objs.size+1)) {s with heap:=h'}):
  bg (model prog w) A (call (.type "enumerate") [.ref l] [("start",.int 1 t)]) Q E s:=by
 obtain⟨⟨c,w9,dt,sl⟩,hl,hc,n,hd⟩:=hL;replace hc:c=.type "list":=hc;replace hd:dt=.seq items n:=hd;subst hc hd;refine Wt F.called_enumerate (by decide) (Ua _ _) (Ub _ _) (λobj=>Uc obj _ _) F.entry_enumerate_new (Lm l items n w9 sl t) ⟨hl,?_⟩;have hz:(s.heap.push {cls:=.type "list_iterator",data:=.fields #[.ref l,.int 0 0]}).objs.size=s.heap.objs.size+1:=cH ..;show _/\_;rw[hz];have he:Fh ((s.heap.push {cls:=.type "list_iterator",data:=.fields #[.ref l,.int 0 0]}).push {cls:=.type "enumerate",data:=.fields #[.none,.bool false,.ref s.heap.objs.size,eQ 1,.none,.none]}) (s.heap.objs.size+1) s.heap.objs.size 1 .none:=by have:=aT (s.heap.push {cls:=.type "list_iterator",data:=.fields #[.ref l,.int 0 0]}) (o:={cls:=.type "enumerate",data:=.fields #[.none,.bool false,.ref s.heap.objs.size,eQ 1,.none,.none]}) rfl;rw[hz] at this;exact this
 exact⟨⟨_,he,rfl⟩,h _ he ⟨_,ai _ (aT _ rfl),rfl,rfl⟩ λb o x=>ai _ (ai _ x)⟩
theorem NV{e it l:af}{i:Nat}{c:Int}{items:Array aj}{x old:aj}{Q:Option aj->ay->Prop}(he:Fh s.heap e it c old)(hit:s.heap.IsListIter it l i)(hl:s.heap.IsList l items)(hx:items[i]? =some x)(kJ:e≠it)(hQ:∀h',al9 h' e it (c+1) x s.heap.objs.size->h'.IsListIter it l (i+1)->h'.get? s.heap.objs.size=some {cls:=.type "tuple",data:=.seq #[.int c s.toks,x]}->(∀b o,b≠e->b≠it->s.heap.get? b=some o->h'.get? b=some o)->Q (some (.ref s.heap.objs.size)) {s with heap:=h',toks:=s.toks+1}):bg (model prog w) A (js (.ref e)) Q E s:=by
 have hT:s.TypeIs (.ref e) "enumerate":=⟨_,he,rfl⟩;unfold js;refine ae (lj (eZ (name:=aR "__next__") hT qy (fz qy hT ZQ ?_ (Xz _))));obtain⟨hp,g,d,tk,os⟩:=s;show bg _ _ (field (.ref e) 2 >>= _) _ _ _;refine ae (eV he rfl (x:=.ref it) rfl ?_);refine ae (pH hit hl hx λa1 afT b1=>?_);replace b1:eE it hp a1:=b1;have e1:Fh a1 e it c old:=(b1.2 e kJ).trans he;show bg _ _ (field (.ref e) 3 >>= _) _ _ ⟨a1,g,d,tk,os⟩;refine ae (eV e1 rfl (x:=eQ c) rfl ?_);show bg _ _ (field (.ref e) 4 >>= _) _ _ ⟨a1,g,d,tk,os⟩;refine ae (eV e1 rfl (x:=.none) rfl ?_);show bg _ _ (mkInt c >>= _) _ _ ⟨a1,g,d,tk,os⟩;refine ae (wpAny_mkInt ?_);show bg _ _ (Me (.ref e) 3 (eQ (c+1)) >>= _) _ _ ⟨a1,g,d,tk+1,os⟩;refine ae (cV e1 (by simp) λa2 e2 b2=>?_);replace b2:eE e a1 a2:=b2;replace e2:Fh a2 e it (c+1) old:=e2;show bg _ _ (Me (.ref e) 4 .none >>= _) _ _ ⟨a2,g,d,tk+1,os⟩;refine ae (cV e2 (by simp) λa3 e3 b3=>?_);replace b3:eE e a2 a3:=b3;replace e3:Fh a3 e it (c+1) old:=e3;show bg _ _ (newTuple [.int c tk,x] >>= _) _ _ ⟨a3,g,d,tk+1,os⟩;refine ae (UZ ?_);have e4:Fh (a3.push {cls:=.type "tuple",data:=.seq #[.int c tk,x]}) e it (c+1) old:=ai _ e3;have hsz:a3.objs.size=hp.objs.size:=by rw[b3.1,b2.1,b1.1]
 have Y6:e<hp.objs.size:=bc he;have t4:(a3.push {cls:=.type "tuple",data:=.seq #[.int c tk,x]}).get? hp.objs.size=some {cls:=.type "tuple",data:=.seq #[.int c tk,x]}:=by rw[<-hsz];exact aT _ rfl
 have k4:∀b o,b≠e->b≠it->hp.get? b=some o->(a3.push {cls:=.type "tuple",data:=.seq #[.int c tk,x]}).get? b=some o:=λb o h1 h2 hb=>ai _ (b3.extBut b o h1 (b2.extBut b o h1 (b1.extBut b o h2 hb)));have i4:(a3.push {cls:=.type "tuple",data:=.seq #[.int c tk,x]}).IsListIter it l (i+1):=by obtain⟨o,ho,r⟩:=(afT.extBut b2.extBut (mM kJ)).extBut b3.extBut (mM kJ);exact⟨o,ai _ ho,r⟩
 generalize a3.push {cls:=.type "tuple",data:=.seq #[.int c tk,x]}=a4 at e4 t4 k4 i4;show bg _ _ (eB (.ref e) >>= _) _ _ ⟨a4,g,d,tk+1,os⟩;rw[hsz];refine ae ?_;unfold eB;refine ae (eV e4 rfl (x:=.none) rfl (aI ?_));simp only[if_true];refine ae (ahi ?_);refine ae (eV e4 rfl (x:=old) rfl ?_);refine ae (cV e4 (by simp) λa5 e5 b5=>?_);replace b5:eE e a4 a5:=b5;replace e5:Fh a5 e it (c+1) x:=e5;show bg _ _ (iF (.ref e) (.ref hp.objs.size) >>= _) _ _ ⟨a5,g,d,tk+1,os⟩;refine ae ?_;unfold iF;refine ae (cV e5 (by simp) λa6 e6 b6=>?_);replace b6:eE e a5 a6:=b6;replace e6:al9 a6 e it (c+1) x hp.objs.size:=e6;refine cV e6 (by simp) λa7 e7 b7=>?_;replace b7:eE e a6 a7:=b7;replace e7:al9 a7 e it (c+1) x hp.objs.size:=e7;refine ae (mC (aI ⟨_,rfl,aI (hQ a7 e7 ?_ ?_ ?_)⟩))
 ·exact((i4.extBut b5.extBut (mM kJ)).extBut b6.extBut (mM kJ)).extBut b7.extBut (mM kJ)
 ·exact b7.extBut _ _ (dw Y6) (b6.extBut _ _ (dw Y6) (b5.extBut _ _ (dw Y6) t4))
 ·exactλb o h1 h2 hb=>b7.extBut b o h1 (b6.extBut b o h1 (b5.extBut b o h1 (k4 b o h1 h2 hb)))
theorem QX{e it l:af}{i:Nat}{c:Int}{items:Array aj}{old:aj}{Q:Option aj->ay->Prop}(hh:A.handled=none)(he:Fh s.heap e it c old)(hit:s.heap.IsListIter it l i)(hl:s.heap.IsList l items)(hx:items[i]? =none)(hQ:∀h',adA it s.heap h'->Q none {s with heap:=h'}):bg (model prog w) A (js (.ref e)) Q E s:=by have hT:s.TypeIs (.ref e) "enumerate":=⟨_,he,rfl⟩;unfold js;refine ae (lj (eZ (name:=aR "__next__") hT qy (fz qy hT ZQ ?_ (Xz _))));show bg _ _ (field (.ref e) 2 >>= _) _ _ _;refine ae (eV he rfl (x:=.ref it) rfl ?_);refine ae (aaW hh hit hl hx λh' x qB YD=>?_);obtain⟨o,ho,hc⟩:=YD;exact ae (Ad (T:="StopIteration") (b:=true) ⟨o,ho,hc⟩ E6 (aI (hQ _ qB)))
end
def acq(K:ah)(a:af):It:=⟨λi H=>∃(xs:List V)(x:V),bD K H a xs/\xs[i]? =some x,λi H v H'=>∃T x,v=.ref T/\H T=none/\H'=upd H T (.tup [.int ((i+1:Nat):Int),x])/\∀xs,bD K H a xs->xs[i]? =some x,λi H=>∃xs:List V,bD K H a xs/\xs.length<=i⟩
theorem NW{P:bo}{w:bM}{K:ah}{elts:List Expr}{kk:Nat}{ug:Pos}(a e it:af):
  Turn P w K (.Tuple elts kk ug) (acq K a) [e,it] e (λi h=>(∃old,Fh h e it ((i+1:Nat):Int) old)/\h.IsListIter it a i/\e≠it) where
 mem:=by simp
 obj:=λi h st b hb=>by
  obtain⟨⟨old,he⟩,⟨o,ho,hc,hd⟩,_⟩:=st;have e':b=e∨b=it:=by simpa using hb
  rcases e' with z|z
  ·rw[z];exact⟨_,he,λv q=>nomatch q⟩
  ·rw[z];exact⟨o,ho,λv q=>by rw[hd] at q;cases q⟩
 keep:=λi h h' st k=>let⟨⟨old,he⟩,hi,kJ⟩:=st;⟨⟨old,k e (by simp) _ he⟩,hi.at λo q=>k it (by simp) o q,kJ⟩
 item:=by
  intro X hP hw hK hc i pins s σ H E I hf st hg;subst hP hw hK;obtain⟨⟨old,he⟩,hit,kJ⟩:=st;obtain⟨xs,x,hq,hx⟩:=hg;obtain⟨its,rv,p,hz⟩:=I.list hq;obtain⟨u,hu,ru⟩:=rv.get hx;have Y6:e<s.heap.objs.size:=bc he;have Xl:it<s.heap.objs.size:=by obtain⟨_,q,_⟩:=hit;exact bc q
  refine NV he hit p.isList (x:=u) (by simpa using hu) kJ λh' ho Qu hT hk=>?_;refine⟨_,rfl,wpAny_letOwnedTupleGo_enum (s:={s with heap:=h',toks:=s.toks+1}) ho λMm qB sb=>?_⟩;have VR:Mm.get? s.heap.objs.size=some {cls:=.type "tuple",data:=.seq #[.int ((i+1:Nat):Int) s.toks,u]}:=(sb.2 _ (dw Y6)).trans hT;have new:fB X.prog X.w (upd H s.heap.objs.size (.tup [.int ((i+1:Nat):Int),x])) Mm s.heap.objs.size (.tup [.int ((i+1:Nat):Int),x]):=⟨by show 2<=az;decide,[.int ((i+1:Nat):Int) s.toks,u],.cons ⟨_,rfl⟩ (.cons ru .nil),⟨_,VR,rfl,_,rfl⟩⟩;have I1:Inv X pins σ (upd H s.heap.objs.size (.tup [.int ((i+1:Nat):Int),x])) {s with heap:=Mm,toks:=s.toks+1}:=I.wk (ch:=[e,it]) (λb ob hb q=>(sb.2 b (λz=>hb (by simp[z]))).trans (hk b ob (λz=>hb (by simp[z])) (λz=>hb (by simp[z])) q)) hf (aJ _) new;refine⟨.ref s.heap.objs.size,_,I1,rfl,⟨_,x,rfl,I.dI.fresh (aJ _),rfl,λys hy=>by rw[I.oT hy hq];exact hx⟩,⟨⟨u,?_⟩,Qu.at λo q=>(sb.2 it (mM kJ)).trans q,kJ⟩,λb hb=>?_⟩
  ·have e1:((i+1+1:Nat):Int)=((i+1:Nat):Int)+1:=by omega
   rw[e1];exact qB
  ·have Cj:b<s.heap.objs.size:=by
    have e':b=e∨b=it:=by simpa using hb
    rcases e' with z|z
    ·rw[z];exact Y6
    ·rw[z];exact Xl
   rw[ax (bR Cj)];exact(hf b hb).1
 done:=by intro X hP hw hK hc i pins s σ H E I hf st hg;subst hP hw hK;obtain⟨⟨old,he⟩,hit,kJ⟩:=st;obtain⟨xs,hq,hx⟩:=hg;obtain⟨its,rv,p,hz⟩:=I.list hq;obtain⟨f0,f1,f2,f3,f4,f5⟩:=hf it (by simp);have hl:=rv.length;exact QX (I.ok.hd hc) he hit p.isList (by simp;omega) λh' eb=>⟨rfl,I.turned (t':=s.toks) (λb o hb q=>eb b o hb q) f0 f1 f3 f4 f5⟩
 self:=λA i s Q E st h=>let⟨⟨_,he⟩,_⟩:=st;aiS he h
end Bp
namespace Bp
open PySem PySem.Spec PyProof.Rows L2
def Zi(K:ah)(ta:TA):TI:=λσ H R=>ta σ H λvs H1=>∃a xs,vs=[.ref a]/\bD K H1 a xs/\R (acq K a) H1
theorem IX{M:XH}{A:cp}{E:aj->ay->Prop}{s:ay}{env:Env}{pos:Pos}{T:String}{e:Expr}{kws:List Bu}{Q:aj->ay->Prop}(h:bg M A (spliced (fH pos (bL [e] env))) (λvs s1=>bg M A (evalAll ((iH pos (eU kws env)).map (·.2))) (λkvs s2=>bg M A (call (.type T) vs (((iH pos (eU kws env)).filterMap (·.1)).zip kvs)) Q E s2) E s1) E s)(he:fH pos (bL [e] env)=(false,eval e env)::fH pos (bL [] env):=by rfl)(kL:(iH pos (eU kws env)).all (·.1.isSome)=true:=by rfl)(hkw:(iH pos (eU kws env)).any (·.1.isNone)=false:=by rfl):
  bg M A (pI pos (.type T) [] (fH pos (bL [e] env)) (iH pos (eU kws env))) Q E s:=by
 unfold pI;rw[he] at h⊢;refine ae (gz (fj (evalArgs_kwB (Q:=λa s1=>bg M A (call (.type T) a.pos a.kw) Q E s1) kL h) (λa s1 h1=>ae (Ht ?_)) λ_ _ x=>x));simp only[hkw,show((false,eval e env)::fH pos (bL [] env)).any (·.1)=false from rfl,Oy];refine ae (aI ?_);exact ae (fj h1 (λr s2 hr=>ae (gz (wpAny_point (aI hr)))) λ_ _ x=>x)
theorem Ue{X:Cx}{e:Expr}{ta:TA}{p pos ug kp Qj:Pos}{elts:List Expr}{kk j:Nat}(hg:Gl X "enumerate")(hm:X.mg "enumerate"=none)(ha:PA X [e] ta)(hb:fH pos (bL [e] X.env)=(false,eval e X.env)::fH pos (bL [] X.env):=by rfl):
  PI X (.Tuple elts kk ug) (.Call (.Name "enumerate" p) [e] [⟨some "start",.Constant (.int 1) j Qj,kp⟩] pos) (Zi X.K ta):=by
 intro pins s σ H R I h;refine i9 (uE I hg hm boot_enumerate (IX (kws:=[⟨some "start",.Constant (.int 1) j Qj,kp⟩]) (iw (ha pos pins s σ H _ I h) λus s1 ⟨vs,H1,I1,r1,q1⟩=>?_) hb));obtain⟨a,xs,ex,hq,q⟩:=q1;subst ex;rw[Vals.HJ r1];refine kws_cons (aha (kws_nil ?_));obtain⟨its,rv,p',hz⟩:=I1.list hq;refine NU (s:={s1 with toks:=s1.toks+1}) p'.isList λh' he hit hk=>aiS he ?_;have I2:Inv X pins σ H1 {s1 with heap:=h',toks:=s1.toks+1}:=I1.kept (t':=s1.toks+1) hk;refine⟨s1.heap.objs.size+1,[s1.heap.objs.size+1,s1.heap.objs.size],_,_,H1,rfl,I2,NW a (s1.heap.objs.size+1) s1.heap.objs.size,⟨⟨.none,he⟩,hit,Nat.succ_ne_self _⟩,λb hb=>?_,q⟩;have e':b=s1.heap.objs.size+1∨b=s1.heap.objs.size:=by simpa using hb
 have hle:s1.heap.objs.size<=b:=by
  rcases e' with z|z
  ·rw[z];exact oJ _ _
  ·rw[z];exact aJ _
 exact I1.HA hle (I1.dI.fresh hle)
end Bp
namespace Bp
open PySem PySem.Spec PyProof.Rows L2 Bm
open Vbslai (enough)
section
variable{P:bo}{w:bM}{K:ah}{mg:Str->Option aj}{base:cu}{A:Cl}
def Ln(A:Cl):Sp:=λvs H Q _=>∃(p dx:af)(c n v:V),vs=[.ref p,c,n,v]/\H p=some (.ins A.row dx [])/\
 ∀(H':Hp),H' p=some (.ins A.row dx (xK c n v))->(∀b o,H b=some o->b≠p->H' b=some o)->Q .gT H'
theorem BS(T:Txt K mg A):DA P w K mg base "Row" A.row 1 ["self","sleeper","secret","cells"] (Ln A):=by
 refine T.row.init.ok KA (λvs H Q E h=>?_) (λf eC A' outer s H vs Q E hr h=>?_)
 ·obtain⟨p,dx,c,n,v,rfl,_⟩:=h;rfl
 ·obtain⟨p,dx,c,n,v,rfl,hp,k⟩:=h;refine⟨_,(aw (dZ (pv 0) (pv 1) rfl) (aw (dZ (pv 0) (pv 2) rfl) (aF (dZ (pv 0) (pv 3) rfl)))),?_⟩;refine⟨_,rfl,_,rfl,p,A.row,dx,[],rfl,hp,T.row.cl,T.row.oN,by decide,_,rfl,_,rfl,p,A.row,dx,_,rfl,ag,T.row.cl,T.row.DU,K6,_,rfl,_,rfl,p,A.row,dx,_,rfl,ag,T.row.cl,T.row.zz,put2,?_⟩;refine k _ ?_ λb o e hb=>?_
  ·rw[ag,Nk]
  ·rw[ax hb,ax hb,ax hb];exact e
def zP(A:Cl):Sp:=λvs H Q _=>∃(a:af)(as:List af)(rows:List fW),vs=[.ref a]/\H a=some (.lst (iJ as))/\vI A H as rows/\rows.length<=100/\∀H',aS H H'->Q (.int (((Av rows).length:Nat):Int)) H'
theorem mv(T:Txt K mg A):Def P w K mg base "unlike_secrets" 1 ["rows"] (zP A):=by
 refine T.Kz.DW.ok mi (λvs H Q E h=>?_) (λf eC A' outer s H vs Q E hr h=>?_)
 ·obtain⟨a,as,rows,rfl,_⟩:=h;rfl
 ·obtain⟨a,as,rows,rfl,ha,hR,hn,k⟩:=h;obtain⟨l,rfl,rfl,hl⟩:=Paired.unzip hR;rw[zN] at ha;rw[aa] at hn;refine⟨_,(aF (aX (cD Hg (by rfl) T.b.dM cJ (aH (qZ (KU rfl) (by rfl) T.b.Xg Tj (aH (gU rfl (own:=[("row",1)]) mi.nd (dC (pv 0)) (cM (by kernel_rfl)) (λ_ _ _ _ _=>(bQ (i:=1) mi.nd rfl fo)) (λ_ _ _ _ _=>eK) (λ_ _ _ _ _=>(kg (K:=K) rfl (pv 1) rfl))) ao)) ao)))),?_⟩;refine kf ?_;refine kf ?_;refine fw ?_;refine⟨_,rfl,a,rfl,⟨_,bD.of ha⟩,?_⟩;refine jL (enc:=λp:af×fW=>V.ref p.1) (f:=λp=>.int ((p.2.secret:Nat):Int)) (bD.of ha) (ak hn (by decide)) (λi x H' R hi k' Qp=>?_) (λD H' hD hs he=>?_)
  ·obtain⟨dx,cl,g1,g2⟩:=(hl x (aL hi)).mono k';exact⟨rfl,_,rfl,x.1,A.row,dx,_,_,rfl,g1,T.row.cl,T.row.DU,zC,Qp _ (aS.refl _)⟩
  ·have e:(l.map λp=>V.int ((p.2.secret:Nat):Int))=((l.map λp=>p.2.secret).map Ft).map kV:=by rw[aP,aP];rfl
   refine⟨D,(l.map λp=>p.2.secret).map Ft,rfl,bD.of (by rw[he,e]),by rw[aa,aa];omega,λp hp=>?_⟩;refine⟨p,_,rfl,ag,?_⟩;rw[T6 Ws,aa];have e2:dd (l.map λp=>p.2.secret)=Av (l.map (·.2)):=by rw[HW,aP];rfl
   rw[e2];exact k _ (hs.trans (aB hp))
def A8(A:Cl):Sp:=λvs H Q _=>∃(a:af)(as:List af)(rows:List fW)(n:Nat),vs=[.ref a,.int (n:Nat)]/\H a=some (.lst (iJ as))/\vI A H as rows/\rows.length<=100/\n<=100/\
 ∀D H',H D=none->aS H H'->H' D=some (.lst (gP (j8 n rows)))->Q (.ref D) H'
theorem count_eq(l:List Nat)(v:Nat):(gP l).countP (λz=>OM z (.int (v:Int)))=(l.filter λx=>x==v).length:=by
 unfold gP;rw[List.countP_map,<-List.countP_eq_length_filter];congr 1;funext x;show OM (.int (x:Int)) (.int (v:Int))=(x==v);show((x:Int)==(v:Int))=(x==v);by_cases q:x=v
 ·subst q;simp
 ·rw[show(x==v)=false by simpa using q];simp;omega
theorem rF(T:Txt K mg A):Def P w K mg base "secret_counts" 1 ["rows","value_count"] (A8 A):=by
 refine T.Kz.FZ.ok g0 (λvs H Q E h=>?_) (λf eC A' outer s H vs Q E hr h=>?_)
 ·obtain⟨a,as,rows,n,rfl,_⟩:=h;rfl
 ·obtain⟨a,as,rows,n,rfl,ha,hR,hn,hn2,k⟩:=h;obtain⟨l,rfl,rfl,hl⟩:=Paired.unzip hR;rw[zN] at ha;rw[aa] at hn;refine⟨_,(aw (bZ (i:=2) g0.nd rfl fo (gU rfl (own:=[("row",3)]) g0.nd (dC (pv 0)) (cM (by kernel_rfl)) (λ_ _ _ _ _=>(bQ (i:=3) g0.nd rfl fo)) (λ_ _ _ _ _=>eK) (λ_ _ _ _ _=>(kg (K:=K) rfl (pv 3) rfl)))) (aF (aX (gU rfl (own:=[("value",4)]) g0.nd (P9 (by rfl) T.b.Pa (aH (pv 1) ao)) (cM (by kernel_rfl)) (λ_ _ _ _ _=>(bQ (i:=4) g0.nd rfl fo)) (λ_ _ _ _ _=>eK) (λ_ _ _ _ _=>(NQ (K:=K) rfl (pv 2) (pv 4))))))),?_⟩;refine aZ ?_;refine fw ?_;refine⟨_,rfl,a,rfl,⟨_,bD.of ha⟩,?_⟩;refine jL (enc:=λp:af×fW=>V.ref p.1) (f:=λp=>.int ((p.2.secret:Nat):Int)) (bD.of ha) (ak hn (by decide)) (λi x H' R hi k' Qp=>?_) (λD H' hD hs he=>?_)
  ·obtain⟨dx,cl,g1,g2⟩:=(hl x (aL hi)).mono k';exact⟨rfl,_,rfl,x.1,A.row,dx,_,_,rfl,g1,T.row.cl,T.row.DU,zC,Qp _ (aS.refl _)⟩
  ·have e:(l.map λp=>V.int ((p.2.secret:Nat):Int))=gP ((l.map (·.2)).map (·.secret)):=by unfold gP;rw[aP,aP];rfl
   rw[e] at he;refine b8 ?_;refine iW ?_;refine fw ?_;refine⟨_,rfl,(n:Int),rfl,by omega,by omega,?_⟩;refine En (n:=n) (f:=λi=>.int (((((l.map (·.2)).map (·.secret)).filter λx=>x==i).length:Nat):Int)) (ak hn2 (by decide)) (λi H' hi _=>by show i<_;simpa using hi) (λH' _=>by show _<=n;simp) (λi x H' nL R hi k' y Qp=>?_) (λD2 H2 BR Fl Wl=>?_)
   ·obtain⟨rfl,rfl⟩:=y;refine⟨rfl,_,rfl,.inl ⟨rfl,_,bD.of (k' _ _ he)⟩,_,rfl,D,_,_,rfl,rfl,bD.of (k' _ _ he),rfl,T7 _,?_⟩;rw[Int.zero_add,count_eq];exact Qp _ (aS.refl _)
   ·refine k D2 H2 (hs.free BR) (hs.trans Fl) ?_;rw[Wl];refine congrArg (λz=>some (HO.lst z)) ?_;unfold j8 gP
    conv=>rhs;rw[aP]
    refine dc λi _=>?_;show V.int _=V.int _;rw[mJ,aa];rfl
def Gk(A:Cl):Sp:=λvs H Q _=>∃(a:af)(as:List af)(rows:List fW)(x u:Nat),vs=[.ref a,.int (x:Nat),.int (u:Nat)]/\H a=some (.lst (iJ as))/\vI A H as rows/\rows.length<=100/\∀H',aS H H'->Q (.bl (enough x u rows)) H'
theorem xO(T:Txt K mg A):Def P w K mg base "are_enough" 2 ["rows","k","u"] (Gk A):=by
 refine T.Kz.M5.ok Gi (λvs H Q E h=>?_) (λf eC A' outer s H vs Q E hr h=>?_)
 ·obtain⟨a,as,rows,x,u,rfl,_⟩:=h;rfl
 ·obtain⟨a,as,rows,x,u,rfl,ha,hR,hn,k⟩:=h;have hl:(iJ as).length=rows.length:=by rw[ck,Paired.len hR]
  have eT:∀b H',enough x u rows=b->aS H H'->Q (.bl b) H':=λb H' h2 h3=>by rw[<-h2];exact k H' h3
  refine⟨_,(aF (aX (lY (iT W3 (cD bt (by rfl) T.b.dM cJ (aH (pv 0) ao)) (pv 1) (cx _)) (oS (iT W3 (bC (mv T) hr.mono rfl (aH (pv 0) ao)) (pv 2) (cx _)))))),?_⟩;refine⟨_,rfl,a,_,rfl,.inl (bD.of ha),_,rfl,_,_,rfl,rfl,_,rfl,fC (λe1=>?_) (λe1=>?_)⟩
  ·refine⟨_,rfl,a,as,rows,rfl,ha,hR,hn,λH' hs=>⟨_,rfl,_,_,rfl,rfl,eT _ _ ?_ hs⟩⟩;unfold enough;rw[hl] at e1;rw[decide_eq_true (show x<=rows.length by omega),mG];by_cases q:u<=(Av rows).length
   ·rw[decide_eq_true q,decide_eq_true (by omega)]
   ·rw[decide_eq_false q,decide_eq_false (by omega)]
  ·refine eT _ _ ?_ (aS.refl _);unfold enough;rw[hl] at e1;rw[decide_eq_false (show¬x<=rows.length by omega),iG]
end
end Bp
namespace Bp
open PySem PySem.Spec PyProof.Rows L2 Bm
abbrev PR:=af×fW
structure gr(A:Cl)(cs:List bw)(H:Hp)(l:List PR):Prop where
 at':∀p∈l,rz A H p.1 p.2
 cells:∀p∈l,yj cs p.2.cells
 len:l.length<=40
theorem gr.mono{A:Cl}{cs:List bw}{H H':Hp}{l:List PR}(e:aS H H')(h:gr A cs H l):gr A cs H' l:=⟨λp hp=>(h.at' p hp).mono e,h.cells,h.len⟩
abbrev pB(l:List PR):List V:=l.map λp=>V.ref p.1
theorem IY{l:List PR}{i:Nat}{x:V}(h:(pB l)[i]? =some x):∃p,l[i]? =some p/\x=.ref p.1:=by
 unfold pB at h;rw[aU] at h
 cases e:l[i]? with
 |none=>rw[e] at h;cases h
 |some p=>rw[e] at h;exact⟨p,rfl,(aW h).symm⟩
theorem wA(l:List PR):pB l=iJ (l.map (·.1)):=(zN l).symm
theorem gr.sub{A:Cl}{cs:List bw}{H:Hp}{l m:List PR}(h:gr A cs H l)(s:m.Sublist l):gr A cs H m:=⟨λp hp=>h.at' p (s.subset hp),λp hp=>h.cells p (s.subset hp),ak s.length_le h.len⟩
theorem gr.rows{A:Cl}{cs:List bw}{H:Hp}{l:List PR}(h:gr A cs H l):vI A H (l.map (·.1)) (l.map (·.2)):=Paired.NP h.at'
section
variable{P:bo}{w:bM}{K:ah}{mg:Str->Option aj}{base:cu}{A:Cl}
def Lo(K:ah)(A:Cl):Sp:=λvs H Q _=>∃(a b d:af)(fm:dY)(l:List PR)(p:PR)(ls:List Nat),vs=[.ref a,.ref b,.ref p.1,.ref d]/\gM A H a fm/\iy fm/\H b=some (.lst (pB l))/\gr A fm.columns H l/\p∈l/\
 bD K H d (gP ls)/\kZ fm.columns ls/\∀D H',H D=none->aS H H'->H' D=some (.lst (pB (l.filter λx=>aE fm.columns ls x.2==aE fm.columns ls p.2)))->Q (.ref D) H'
theorem Lp(T:Txt K mg A):Def P w K mg base "class_of" 4 ["form","rows","row","levels"] (Lo K A):=by
 refine T.Kz.Ts.ok qm (λvs H Q E h=>?_) (λf eC A' outer s H vs Q E hr h=>?_)
 ·obtain⟨a,b,d,fm,l,p,ls,rfl,_⟩:=h;rfl
 ·obtain⟨a,b,d,fm,l,p,ls,rfl,F0,ok,hb,hl,hp,hd,Ey,k⟩:=h;obtain⟨ur,lc,lv,as,RE,hf2,hf3,hf4⟩:=id F0;obtain⟨dx,cl,g1,g2⟩:=hl.at' p hp;refine⟨_,(aw (bZ (i:=4) qm.nd rfl fo (cg (pv 0) T.fZ.cl (k9 T) hr.mono (aH (bj (pv 2) rfl) (aH (pv 3) ao)))) (aF (aX (gU rfl (own:=[("other",5)]) qm.nd (dC (pv 1)) (cM (by kernel_rfl)) (λ_ _ _ _ _=>(bQ (i:=5) qm.nd rfl fo)) (λ_ _ _ _ _=>(rU (cB (TN (K:=K) rfl hr.AD) (cg (pv 0) T.fZ.cl (k9 T) hr.mono (aH (kg (K:=K) rfl (pv 5) rfl) (aH (pv 3) ao))) (pv 4) (cx _)))) (λ_ _ _ _ _=>(pv 5)))))),?_⟩;refine aZ ?_;refine⟨_,rfl,a,ur,_,rfl,RE,jJ,_,rfl,p.1,A.row,dx,_,_,rfl,g1,T.row.cl,T.row.zz,qh,_,rfl,a,cl,d,fm,p.2.cells,ls,rfl,F0,ok,bD.of g2,hd,hl.cells p hp,Ey,λq H1 hq s1 e1=>?_⟩;refine b8 ?_;refine iW ?_;refine fw ?_;refine⟨_,rfl,b,rfl,⟨_,bD.of (s1 _ _ hb)⟩,?_⟩;refine lF (enc:=λp:PR=>V.ref p.1) (f:=λp=>V.ref p.1) (p:=λx=>aE fm.columns ls x.2==aE fm.columns ls p.2) (bD.of (s1 _ _ hb)) (ak hl.len (by decide)) (λi x H' R S hi k' hR hS=>?_) (λD H' hD hs he=>?_)
  ·have hx:=aL hi;have s2:=s1.trans k';obtain⟨RF,cl2,g3,g4⟩:=(hl.at' x hx).mono s2;refine⟨rfl,_,rfl,a,ur,_,rfl,s2 _ _ RE,jJ,_,rfl,x.1,A.row,RF,_,_,rfl,g3,T.row.cl,T.row.zz,qh,_,rfl,a,cl2,d,fm,x.2.cells,ls,rfl,F0.mono s2,ok,bD.of g4,s2.seq hd,hl.cells x hx,Ey,λq2 H3 hq2 s3 e3=>?_⟩;refine⟨_,rfl,q2,q,_,_,rfl,rfl,nj.of e3,nj.of (s3 _ _ (k' _ _ e1)),_,rfl,fC (λe=>⟨_,rfl,hR ?_ _ s3⟩) (λe=>hS ?_ _ s3)⟩
   ·exact beq_iff_eq.mpr e
   ·exact beq_eq_false_iff_ne.mpr e
  ·exact k D H' (s1.free hD) (s1.trans hs) he
structure CI(H:Hp)(look:fW->List aG)(D:af)(l:List PR)(ks:List (List aG))(ps:List (List aG×af×List PR))(H2:Hp):Prop where
 same:aS H H2
 dict:H2 D=some (.dT (ps.map λp=>(p.1.map zO,V.ref p.2.1)))
 nd:(ps.map (·.2.1)).Nodup
 new:∀p∈ps,H p.2.1=none/\p.2.1≠D
 lst:∀p∈ps,H2 p.2.1=some (.lst (pB p.2.2))
 rows:∀p∈ps,p.2.2=l.filter λx=>look x.2==p.1
 keys:ps.map (·.1)=ks
 kn:ks.Nodup
theorem BU{x y:List aG}(h:x.map zO=y.map zO):x=y:=(List.map_inj_right (λa b e=>Pq a b e)).mp h
theorem Pu{ps:List (List aG×af×List PR)}{x:List aG}(h:¬x∈ps.map (·.1)):iP (ps.map λp=>(p.1.map zO,V.ref p.2.1)) (x.map zO)=none:=by
 induction ps with
 |nil=>rfl
 |cons p r ih=>rw[bp];rw[bp,aA,not_or] at h;rw[qT (λe=>h.1 (BU e).symm)];exact ih h.2
theorem EA{ps:List (List aG×af×List PR)}{x:List aG}{q:List aG×af×List PR}(kn:(ps.map (·.1)).Nodup)(hq:q∈ps)(e:q.1=x):iP (ps.map λp=>(p.1.map zO,V.ref p.2.1)) (x.map zO)=some (.ref q.2.1):=by
 induction ps with
 |nil=>cases hq
 |cons p r ih=>
  rw[bp];rw[bp,dQ] at kn;rcases aA.mp hq with h|h
  ·subst h;rw[uQ (by rw[e])]
  ·rw[qT (λz=>kn.1 (aq.mpr ⟨q,h,by rw[e];exact(BU z).symm⟩))];exact ih kn.2 h
theorem CI.fresh{H H2:Hp}{look:fW->List aG}{D z:af}{l:List PR}{ks:List (List aG)}{ps:List (List aG×af×List PR)}{x:List aG}(c:CI H look D l ks ps H2)(hD:H D=none)(hx:¬x∈ks)(hz:H2 z=none)(hl:∀p∈l,look p.2≠x):
  CI H look D l (ks++[x]) (ps++[(x,z,[])]) (upd (upd H2 z (.lst [])) D (.dT (putK (ps.map λp=>(p.1.map zO,V.ref p.2.1)) (x.map zO) (.ref z)))):=by
 have zD:z≠D:=(aQ c.dict hz).symm;have pz:∀p∈ps,p.2.1≠z:=λp hp=>aQ (c.lst p hp) hz;refine⟨λb o e=>?_,?_,?_,λp hp=>?_,λp hp=>?_,λp hp=>?_,?_,wm c.kn hx⟩
 ·rw[ax (aQ e hD),ax (aQ (c.same _ _ e) hz)];exact c.same _ _ e
 ·rw[ag,C8 _ (Pu (by rw[c.keys];exact hx)),br];rfl
 ·rw[br];exact wm c.nd λq=>by obtain⟨p,hp,e⟩:=aq.mp q;exact pz p hp e
 ·rcases aD.mp hp with q|q
  ·exact c.new p q
  ·have:p=(x,z,[]):=by simpa using q
   subst this;exact⟨c.same.free hz,zD⟩
 ·rcases aD.mp hp with q|q
  ·rw[ax (c.new p q).2,ax (pz p q)];exact c.lst p q
  ·have:p=(x,z,[]):=by simpa using q
   subst this;rw[ax zD,ag];rfl
 ·rcases aD.mp hp with q|q
  ·exact c.rows p q
  ·have:p=(x,z,[]):=by simpa using q
   subst this;symm;rw[List.filter_eq_nil_iff];intro p hp e;exact hl p hp (by simpa using e)
 ·rw[br,c.keys];rfl
theorem CI.app{H H2:Hp}{look:fW->List aG}{D:af}{l:List PR}{ks:List (List aG)}{ps:List (List aG×af×List PR)}{p:PR}{q:List aG×af×List PR}(c:CI H look D l ks ps H2)(hq:q∈ps)(e:q.1=look p.2):
  CI H look D (l++[p]) ks (ps.map λr=>if r.1=look p.2 then(r.1,r.2.1,r.2.2++[p]) else r) (upd H2 q.2.1 (.lst (pB q.2.2++[V.ref p.1]))):=by
 have kn:(ps.map (·.1)).Nodup:=by rw[c.keys];exact c.kn
 have m1:(ps.map λr=>if r.1=look p.2 then(r.1,r.2.1,r.2.2++[p]) else r).map (·.2.1)=ps.map (·.2.1):=by rw[aP];refine dc λr _=>?_;show(if r.1=look p.2 then(r.1,r.2.1,r.2.2++[p]) else r).2.1=r.2.1;split<;>rfl
 have m0:(ps.map λr=>if r.1=look p.2 then(r.1,r.2.1,r.2.2++[p]) else r).map (·.1)=ps.map (·.1):=by rw[aP];refine dc λr _=>?_;show(if r.1=look p.2 then(r.1,r.2.1,r.2.2++[p]) else r).1=r.1;split<;>rfl
 have mD:(ps.map λr=>if r.1=look p.2 then(r.1,r.2.1,r.2.2++[p]) else r).map (λp=>(p.1.map zO,V.ref p.2.1))=ps.map λp=>(p.1.map zO,V.ref p.2.1):=by rw[aP];refine dc λr _=>?_;show((if r.1=look p.2 then(r.1,r.2.1,r.2.2++[p]) else r).1.map zO,V.ref (if r.1=look p.2 then(r.1,r.2.1,r.2.2++[p]) else r).2.1)=_;split<;>rfl
 have uq:∀r∈ps,r.1=look p.2->r=q:=λr hr er=>uW kn hr hq (by rw[er,e]);have ua:∀r∈ps,r.1≠look p.2->r.2.1≠q.2.1:=λr hr er z=>er (by rw[uW c.nd hr hq z,e]);refine⟨λb o eb=>?_,?_,?_,λr hr=>?_,λr hr=>?_,λr hr=>?_,?_,c.kn⟩
 ·rw[ax (aQ eb (c.new q hq).1)];exact c.same _ _ eb
 ·rw[ax (c.new q hq).2.symm,mD];exact c.dict
 ·rw[m1];exact c.nd
 ·obtain⟨t,ht,rfl⟩:=aq.mp hr;have:=c.new t ht;split<;>exact this
 ·obtain⟨t,ht,rfl⟩:=aq.mp hr;by_cases z:t.1=look p.2
  ·rw[if_pos z];have:t=q:=uq t ht z;subst this;show upd H2 t.2.1 _ t.2.1=_;rw[ag];unfold pB;rw[br];rfl
  ·rw[if_neg z,ax (ua t ht z)];exact c.lst t ht
 ·obtain⟨t,ht,rfl⟩:=aq.mp hr;by_cases z:t.1=look p.2
  ·rw[if_pos z];show t.2.2++[p]=_;rw[jO,<-c.rows t ht];have:[p].filter (λx=>look x.2==t.1)=[p]:=by simp[z]
   rw[this]
  ·rw[if_neg z,jO,<-c.rows t ht];have:[p].filter (λx=>look x.2==t.1)=[]:=by have z':¬look p.2=t.1:=λh=>z h.symm;simp[z']
   rw[this,dE]
 ·rw[m0];exact c.keys
def Gm(K:ah)(A:Cl):Sp:=λvs H Q _=>∃(a b d:af)(fm:dY)(l:List PR)(ls:List Nat),vs=[.ref a,.ref b,.ref d]/\gM A H a fm/\iy fm/\H b=some (.lst (pB l))/\gr A fm.columns H l/\
 bD K H d (gP ls)/\kZ fm.columns ls/\∀D H' ps,H D=none->CI H (aE fm.columns ls) D l (dd (l.map λp=>aE fm.columns ls p.2)) ps H'->Q (.ref D) H'
theorem xP(T:Txt K mg A):Def P w K mg base "classes_at" 4 ["form","rows","levels"] (Gm K A):=by
 refine T.Kz.M6.ok nh (λvs H Q E h=>?_) (λf eC A' outer s H vs Q E hr h=>?_)
 ·obtain⟨a,b,d,fm,l,ls,rfl,_⟩:=h;rfl
 ·obtain⟨a,b,d,fm,l,ls,rfl,F0,ok,hb,hl,hd,Ey,k⟩:=h;obtain⟨ur,lc,lv,as,RE,hf2,hf3,hf4⟩:=id F0;have hu:=tm hr;refine⟨_,(aw (bZ (i:=3) nh.nd rfl fo SD) (aw (lA dz rfl (dC (pv 1)) (bQ (i:=4) nh.nd rfl fo) (aw (bZ (i:=5) nh.nd rfl fo (cg (pv 0) T.fZ.cl (k9 T) hr.mono (aH (bj (pv 4) rfl) (aH (pv 2) ao)))) (aw (dj (x4 (oK hu (pv 5) (pv 3))) (aF (CK hu (pv 3) (pv 5) (bV ao) rfl)) bO) (aF (iC (oh bP cQ cR iZ (rV hu (pv 3) (pv 5) (λ_ _=>rfl)) (aH (pv 4) ao))))))) (aF (aX (pv 3))))),?_⟩;refine aZ ?_;refineλD hD=>?_;refine b8 ?_;have s0:aS H (upd H D (.dT [])):=aB hD;refine⟨_,rfl,b,rfl,⟨_,bD.of (s0 _ _ hb)⟩,lZ (K:=K) (a:=b) (xs:=pB l) (λi σ H'=>(∃v4 v5:Option V,σ=[some (.ref a),some (.ref b),some (.ref d),some (.ref D),v4,v5])/\∃ps,CI H (aE fm.columns ls) D (l.take i) (dd ((l.take i).map λp=>aE fm.columns ls p.2)) ps H') ⟨⟨_,_,rfl⟩,[],⟨s0,ag,by simp,λp h=>(nomatch h),λp h=>(nomatch h),λp h=>(nomatch h),rfl,by simp[dd]⟩⟩ (λi σ H' _ p=>bD.of (p.2.choose_spec.same _ _ hb)) ?_ ?_⟩
  ·rintro i x σ H' hi ⟨⟨v4,v5,rfl⟩,ps,c⟩;obtain⟨p,hp,rfl⟩:=IY hi;have Lq:=aL hp;have et:l.take (i+1)=l.take i++[p]:=by rw[dq,hp];rfl
   obtain⟨dx,cl,g1,g2⟩:=(hl.at' p Lq).mono c.same;have Xl:i<l.length:=(b9.mp hp).1;refine⟨_,rfl,a,ur,_,rfl,c.same _ _ RE,jJ,_,rfl,p.1,A.row,dx,_,_,rfl,g1,T.row.cl,T.row.zz,qh,_,rfl,a,cl,d,fm,p.2.cells,ls,rfl,F0.mono c.same,ok,bD.of g2,c.same.seq hd,hl.cells p Lq,Ey,λq H1 hq s1 e1=>?_⟩;refine b8 ?_;have c1:CI H (aE fm.columns ls) D (l.take i) (dd ((l.take i).map λp=>aE fm.columns ls p.2)) ps H1:=⟨c.same.trans s1,s1 _ _ c.dict,c.nd,c.new,λp hp=>s1 _ _ (c.lst p hp),c.rows,c.keys,c.kn⟩;have ek:eO (vL fm.columns ls p.2.cells)=((aE fm.columns ls p.2).map zO).map kV:=Lk _;rw[ek] at e1;have wJ:ps.length<=40:=by
    have h1:ps.length=(dd ((l.take i).map λp=>aE fm.columns ls p.2)).length:=by rw[<-c.keys,aa]
    have h2:=S2 ((l.take i).map λp=>aE fm.columns ls p.2);rw[aa,cK] at h2;have h3:=hl.len;omega
   have fin:∀(QY:List (List aG×af×List PR))(H2:Hp),CI H (aE fm.columns ls) D (l.take i) (dd ((l.take (i+1)).map λp=>aE fm.columns ls p.2)) QY H2->H2 q=some (.tup (((aE fm.columns ls p.2).map zO).map kV))->
     ∃r∈QY,r.1=aE fm.columns ls p.2:=λQY H2 c2 _=>by
    have:aE fm.columns ls p.2∈QY.map (·.1):=by rw[c2.keys,Dp,et,br];exact aD.mpr (.inr (by simp))
    obtain⟨r,hr,e⟩:=aq.mp this;exact⟨r,hr,e⟩
   have go:∀(QY:List (List aG×af×List PR))(H2:Hp)(r:List aG×af×List PR),CI H (aE fm.columns ls) D (l.take i) (dd ((l.take (i+1)).map λp=>aE fm.columns ls p.2)) QY H2->r∈QY->r.1=aE fm.columns ls p.2->
     CI H (aE fm.columns ls) D (l.take (i+1)) (dd ((l.take (i+1)).map λp=>aE fm.columns ls p.2)) (QY.map λr=>if r.1=aE fm.columns ls p.2 then(r.1,r.2.1,r.2.2++[p]) else r) (upd H2 r.2.1 (.lst (pB r.2.2++[V.ref p.1]))):=λQY H2 r c2 hr er=>by
    have:=c2.app hr er;rw[et] at this⊢;exact this
   have small:∀(QY:List (List aG×af×List PR))(H2:Hp)(ks:List (List aG))(r:List aG×af×List PR),CI H (aE fm.columns ls) D (l.take i) ks QY H2->r∈QY->(pB r.2.2).length<az:=λQY H2 ks r c2 hr=>by unfold pB;rw[aa,c2.rows r hr];refine dB (ak (dO ..) ?_);rw[cK];have:=hl.len;omega
   refine⟨_,rfl,_,rfl,D,_,rfl,jv.t c1.dict e1,_,rfl,?_⟩;by_cases hk:aE fm.columns ls p.2∈ps.map (·.1)
   ·obtain⟨r,hr,er⟩:=aq.mp hk;have hv:=EA (by rw[c.keys];exact c.kn) hr er;rw[hv];refine kK ?_;have ee:dd ((l.take (i+1)).map λp=>aE fm.columns ls p.2)=dd ((l.take i).map λp=>aE fm.columns ls p.2):=by rw[et,br];show dd (_++[aE fm.columns ls p.2])=_;rw[HV];unfold BB;rw[if_pos (by rw[<-c.keys];exact hk)]
    have c2:=c1;rw[<-ee] at c2;refine⟨_,rfl,_,rfl,D,.ref r.2.1,rfl,?_,.inl ⟨rfl,_,bD.of (c1.lst r hr)⟩,_,rfl,r.2.1,_,_,rfl,rfl,c1.lst r hr,small _ _ _ r c1 hr,⟨_,_,rfl⟩,_,go ps _ r c2 hr er⟩;rw[<-hv];exact jv.t c1.dict e1
   ·have hv:=Pu hk;rw[hv];refine kC ?_;refine⟨bB _,λz hz=>⟨_,rfl,_,rfl,D,_,rfl,FN.t (k:=(aE fm.columns ls p.2).map zO) (by rw[ax (aQ c1.dict hz)];exact c1.dict) (by rw[ax (aQ e1 hz)];exact e1) (by rw[aa];exact dB (by omega)),?_⟩⟩;have ee:dd ((l.take (i+1)).map λp=>aE fm.columns ls p.2)=dd ((l.take i).map λp=>aE fm.columns ls p.2)++[aE fm.columns ls p.2]:=by rw[et,br];show dd (_++[aE fm.columns ls p.2])=_;rw[HV];unfold BB;rw[if_neg (by rw[<-c.keys];exact hk)]
    have c2:=c1.fresh hD (by rw[<-c.keys];exact hk) hz (λp' Hi e=>hk (by rw[c.keys,Dp];exact aq.mpr ⟨p',Hi,e⟩));rw[<-ee] at c2;have hq2:(upd (upd H1 z (.lst [])) D (.dT (putK (ps.map λp=>(p.1.map zO,V.ref p.2.1)) ((aE fm.columns ls p.2).map zO) (.ref z)))) q=some (.tup (((aE fm.columns ls p.2).map zO).map kV)):=by rw[ax (gA e1 c1.dict (λz=>nomatch z)),ax (aQ e1 hz)];exact e1
    have hr:(aE fm.columns ls p.2,z,([]:List PR))∈ps++[(aE fm.columns ls p.2,z,[])]:=aD.mpr (.inr (by simp));refine⟨_,rfl,_,rfl,D,.ref z,rfl,?_,.inl ⟨rfl,_,bD.of (c2.lst _ hr)⟩,_,rfl,z,_,_,rfl,rfl,c2.lst _ hr,small _ _ _ _ c2 hr,⟨_,_,rfl⟩,_,go _ _ _ c2 hr rfl⟩;rw[<-EA (q:=(aE fm.columns ls p.2,z,([]:List PR))) (by rw[c2.keys];exact c2.kn) hr rfl];exact jv.t c2.dict hq2
  ·rintro σ H' ⟨⟨v4,v5,rfl⟩,ps,c⟩;refine⟨_,rfl,k D H' ps hD ?_⟩;have:l.take (pB l).length=l:=bH (by unfold pB;rw[aa];exact aJ _);rw[this] at c;exact c
end
end Bp
namespace Bp
open PySem PySem.Spec PyProof.Rows L2 Bm
open Vbslai (enough)
def QZ(M:List af)(H:Hp):Prop:=∀m∈M,∃o,H m=some o/\∀xs,o≠.tup xs
theorem QZ.tr{M:List af}{H:Hp}(h:QZ M H):Tr M H:=λm hm=>let⟨o,e,_⟩:=h m hm;⟨o,e⟩
theorem QZ.mono{M:List af}{H H':Hp}(e:aS H H')(h:QZ M H):QZ M H':=λm hm=>let⟨o,q,n⟩:=h m hm;⟨o,e _ _ q,n⟩
theorem acs{f1 f2 f3 f4:Str}{v1 v2 v3 v4:V}:(dX f4 v4 (dX f3 v3 (dX f2 v2 (dX f1 v1 [])))).length<1000:=by have a:=lO f4 v4 (dX f3 v3 (dX f2 v2 (dX f1 v1 [])));have b:=lO f3 v3 (dX f2 v2 (dX f1 v1 []));have c:=lO f2 v2 (dX f1 v1 []);have d:=lO f1 v1 [];have e:([]:List (Str×V)).length=0:=rfl;omega
section
variable{P:bo}{w:bM}{K:ah}{mg:Str->Option aj}{base:cu}{A:Cl}
def Lr(A:Cl):Sp:=λvs H Q _=>∃(p dx:af)(v1 v2 v3 v4 v5:V),vs=[.ref p,v1,v2,v3,v4,v5]/\H p=some (.ins A.rel dx [])/\
 ∀(H':Hp),H' p=some (.ins A.rel dx (vq v1 v2 v3 v4 v5))->(∀b o,H b=some o->b≠p->H' b=some o)->Q .gT H'
theorem Ls(T:Txt K mg A):DA P w K mg base "Release" A.rel 1 ["self","levels","k","u","looks","left_out"] (Lr A):=by
 refine T.rel.init.ok KC (λvs H Q E h=>?_) (λf eC A' outer s H vs Q E hr h=>?_)
 ·obtain⟨p,dx,v1,v2,v3,v4,v5,rfl,_⟩:=h;rfl
 ·obtain⟨p,dx,v1,v2,v3,v4,v5,rfl,hp,k⟩:=h;refine⟨_,(aw (dZ (pv 0) (pv 1) rfl) (aw (dZ (pv 0) (pv 2) rfl) (aw (dZ (pv 0) (pv 3) rfl) (aw (dZ (pv 0) (pv 4) rfl) (aF (dZ (pv 0) (pv 5) rfl)))))),?_⟩;refine⟨_,rfl,_,rfl,p,A.rel,dx,[],rfl,hp,T.rel.cl,T.rel.pb,by decide,_,rfl,_,rfl,p,A.rel,dx,_,rfl,ag,T.rel.cl,T.rel.Xc,K6,_,rfl,_,rfl,p,A.rel,dx,_,rfl,ag,T.rel.cl,T.rel.Xd,put2,_,rfl,_,rfl,p,A.rel,dx,_,rfl,ag,T.rel.cl,T.rel.wx,put3,_,rfl,_,rfl,p,A.rel,dx,_,rfl,ag,T.rel.cl,T.rel.sv,acs,?_⟩;refine k _ ?_ λb o e hb=>?_
  ·rw[ag,Nl]
  ·rw[ax hb,ax hb,ax hb,ax hb,ax hb];exact e
theorem Ce.get{H:Hp}{d:af}{lk:List (Nat×List aG)}(h:Ce H d lk)(n:Nat):∃o:Option V,jv H d (.int (n:Int)) o/\match lk.lookup n with
  |none=>o=none
  |some y=>∃t,o=some (.ref t)/\H t=some (.tup (eO y)):=by
 obtain⟨kvs,h1,h2⟩:=h;have:=Ce.val n h2;refine⟨iP kvs (cC (n:Int):Key),jv.k (k:=(cC (n:Int):Key)) h1,?_⟩
 cases e:lk.lookup n with
 |none=>rw[e] at this;exact this
 |some y=>rw[e] at this;exact this
theorem Ce.len{H:Hp}{d:af}{lk:List (Nat×List aG)}(h:Ce H d lk):∃kvs,H d=some (.dK kvs)/\kvs.length=lk.length:=let⟨kvs,h1,h2⟩:=h;⟨kvs,h1,Paired.len h2⟩
def NX(A:Cl):Sp:=λvs H Q _=>∃(a p:af)(z:Rl)(r:fW),vs=[.ref a,.ref p]/\mR A H a z/\rz A H p r/\Q (.bl (z.lk.lookup r.who).isSome) H
theorem sU(T:Txt K mg A):iR P w K mg base A.rel "has" 1 ["self","row"] (NX A):=by
 refine T.rel.afp.ok Nv (λvs H Q E h=>?_) (λf eC A' outer s H vs Q E hr h=>?_)
 ·obtain⟨a,p,z,r,rfl,_⟩:=h;rfl
 ·obtain⟨a,p,z,r,rfl,⟨dx,ll,ld,h1,h2,h3⟩,⟨Ug,lr,g1,g2⟩,k⟩:=h;have hu:=tm hr;obtain⟨o,hg,ho⟩:=h3.get r.who;refine⟨_,(aF (aX (X0 (Sy hu (bj (pv 1) rfl) (bj (pv 0) rfl))))),?_⟩;refine⟨_,rfl,p,A.row,Ug,_,_,rfl,g1,T.row.cl,T.row.oN,kM,_,rfl,a,A.rel,dx,_,_,rfl,h1,T.rel.cl,T.rel.wx,nG,ld,o,rfl,hg,?_⟩;have e:o.isSome=(z.lk.lookup r.who).isSome:=by
   cases e:z.lk.lookup r.who with
   |none=>rw[e] at ho;rw[show o=none from ho];rfl
   |some y=>rw[e] at ho;obtain⟨t,rfl,_⟩:=ho;rfl
  rw[e];exact k
def Lu(A:Cl):Sp:=λvs H Q _=>∃(a:af)(z:Rl),vs=[.ref a]/\mR A H a z/\z.levels.length<=100/\
 ∀D H',H D=none->aS H H'->H' D=some (.lst (gP (z.levels++[z.k,z.u,z.lk.length,z.left])))->Q (.ref D) H'
theorem vM(T:Txt K mg A):iR P w K mg base A.rel "told" 1 ["self"] (Lu A):=by
 refine T.rel.ab0.ok KD (λvs H Q E h=>?_) (λf eC A' outer s H vs Q E hr h=>?_)
 ·obtain⟨a,z,rfl,_⟩:=h;rfl
 ·obtain⟨a,z,rfl,⟨dx,ll,ld,h1,h2,h3⟩,hl,k⟩:=h;obtain⟨kvs,hk1,hk2⟩:=h3.len;refine⟨_,(aF (aX (fh jD (bj (pv 0) rfl) (bV (aH (bj (pv 0) rfl) (aH (bj (pv 0) rfl) (aH (cD qV (by rfl) T.b.dM cJ (aH (bj (pv 0) rfl) ao)) (aH (bj (pv 0) rfl) ao)))))))),?_⟩;refine⟨_,rfl,a,A.rel,dx,_,_,rfl,h1,T.rel.cl,T.rel.pb,ka,_,rfl,a,A.rel,dx,_,_,rfl,h1,T.rel.cl,T.rel.Xc,Pc,_,rfl,a,A.rel,dx,_,_,rfl,h1,T.rel.cl,T.rel.Xd,Pd,_,rfl,a,A.rel,dx,_,_,rfl,h1,T.rel.cl,T.rel.wx,nG,ld,kvs,rfl,hk1,_,rfl,a,A.rel,dx,_,_,rfl,h1,T.rel.cl,T.rel.sv,ph,?_⟩;refine⟨by show 4<=az;decide,λq hq=>⟨ll,q,_,_,rfl,rfl,aB hq _ _ h2,ag,?_,λD hD=>?_⟩⟩
  ·rw[eh];show z.levels.length+4<=az;exact cT (dB (by omega))
  ·refine k D _ (aB hq |>.free hD) ((aB hq).trans (aB hD)) ?_;rw[ag,hk2];unfold gP;rw[br];rfl
def Lv(A:Cl):Sp:=λvs H Q _=>∃(p dx:af)(v1 v2 v3 v4:V),vs=[.ref p,v1,v2,v3,v4]/\H p=some (.ins A.jg dx [])/\
 ∀(H':Hp),H' p=some (.ins A.jg dx (BN v1 v2 v3 v4))->(∀b o,H b=some o->b≠p->H' b=some o)->Q .gT H'
theorem BV(T:Txt K mg A):DA P w K mg base "Hiding" A.jg 1 ["self","row","among","k","u"] (Lv A):=by
 refine T.jg.init.ok KG (λvs H Q E h=>?_) (λf eC A' outer s H vs Q E hr h=>?_)
 ·obtain⟨p,dx,v1,v2,v3,v4,rfl,_⟩:=h;rfl
 ·obtain⟨p,dx,v1,v2,v3,v4,rfl,hp,k⟩:=h;refine⟨_,(aw (dZ (pv 0) (pv 1) rfl) (aw (dZ (pv 0) (pv 2) rfl) (aw (dZ (pv 0) (pv 3) rfl) (aF (dZ (pv 0) (pv 4) rfl))))),?_⟩;refine⟨_,rfl,_,rfl,p,A.jg,dx,[],rfl,hp,T.jg.cl,T.jg.O8,by decide,_,rfl,_,rfl,p,A.jg,dx,_,rfl,ag,T.jg.cl,T.jg.wy,K6,_,rfl,_,rfl,p,A.jg,dx,_,rfl,ag,T.jg.cl,T.jg.Xc,put2,_,rfl,_,rfl,p,A.jg,dx,_,rfl,ag,T.jg.cl,T.jg.Xd,put3,?_⟩;refine k _ ?_ λb o e hb=>?_
  ·rw[ag,Nm]
  ·rw[ax hb,ax hb,ax hb,ax hb];exact e
def BW(A:Cl)(H:Hp)(a:af)(p:PR)(l:List PR)(k:Nat×Nat):Prop:=∃dx la,H a=some (.ins A.jg dx (BN (.ref p.1) (.ref la) (.int (k.1:Nat)) (.int (k.2:Nat))))/\H la=some (.lst (pB l))
theorem BW.mono{A:Cl}{H H':Hp}(e:aS H H'){a:af}{p:PR}{l:List PR}{k:Nat×Nat}(h:BW A H a p l k):BW A H' a p l k:=let⟨dx,la,h1,h2⟩:=h;⟨dx,la,e _ _ h1,e _ _ h2⟩
def EB(A:Cl):Sp:=λvs H Q _=>∃(a:af)(cs:List bw)(p:PR)(l:List PR)(k:Nat×Nat),vs=[.ref a]/\BW A H a p l k/\gr A cs H l/\∀H',aS H H'->Q (.bl (enough k.1 k.2 (l.map (·.2)))) H'
theorem EC(T:Txt K mg A):iR P w K mg base A.jg "is_safe" 3 ["self"] (EB A):=by
 refine T.jg.To.ok Eg (λvs H Q E h=>?_) (λf eC A' outer s H vs Q E hr h=>?_)
 ·obtain⟨a,cs,p,l,k,rfl,_⟩:=h;rfl
 ·obtain⟨a,cs,p,l,kk,rfl,⟨dx,la,h1,h2⟩,hl,k⟩:=h;refine⟨_,(aF (aX (bC (xO T) hr.mono rfl (aH (bj (pv 0) rfl) (aH (bj (pv 0) rfl) (aH (bj (pv 0) rfl) ao)))))),?_⟩;rw[wA] at h2;exact⟨_,rfl,a,A.jg,dx,_,_,rfl,h1,T.jg.cl,T.jg.wy,nH,_,rfl,a,A.jg,dx,_,_,rfl,h1,T.jg.cl,T.jg.Xc,Iv,_,rfl,a,A.jg,dx,_,_,rfl,h1,T.jg.cl,T.jg.Xd,Iw,la,_,_,_,_,rfl,h2,hl.rows,by rw[aa];exact ak hl.len (by decide),k⟩
def ED(A:Cl):Sp:=λvs H Q _=>∃(a b:af)(cs:List bw)(p:PR)(l:List PR)(kk:Nat×Nat)(z:Rl)(M:List af),vs=[.ref a,.ref b]/\Tr M H/\BW A (cut H M) a p l kk/\rz A H p.1 p.2/\gr A cs H l/\mR A H b z/\
 ∀(x:af)(H':Hp)(m:List PR),aS H H'->BW A (cut H' M) x p m (j9 z p.2 kk)->m.Sublist l->m.map (·.2)=kY z p.2 (l.map (·.2))->Q (.ref x) H'
theorem vN(T:Txt K mg A):Def P w K mg base "hiding_with" 3 ["hiding","release"] (ED A):=by
 refine T.xJ.Kn.ok mj (λvs H Q E h=>?_) (λf eC A' outer s H vs Q E hr h=>?_)
 ·obtain⟨a,b,cs,p,l,kk,z,M,rfl,_⟩:=h;rfl
 ·obtain⟨a,b,cs,p,l,kk,z,M,rfl,tr,H0,hp,hl,Z0,k⟩:=h;obtain⟨dx,la,h1,h2⟩:=BW.mono (bU H M) H0;obtain⟨Au,ll,ld,z1,z2,z3⟩:=id Z0;obtain⟨Ug,lr,r1,r2⟩:=id hp;obtain⟨o,hg,ho⟩:=z3.get p.2.who;have hu:=tm hr;refine⟨_,(aw (dj (gB (fQ (cg (pv 1) T.rel.cl (sU T) hr.mono (aH (bj (pv 0) rfl) ao)))) (aF (aX (pv 0))) bO) (aw (bZ (i:=2) mj.nd rfl fo (rV hu (bj (pv 1) rfl) (bj (bj (pv 0) rfl) rfl) (λ_ _=>rfl))) (aw (C7 (i:=3) rfl mj.nd rfl rfl (HN rfl rfl rfl (by decide+kernel)) (own:=[("row",4)]) (dC (bj (pv 0) rfl)) (cM (by kernel_rfl)) (λ_ _ _ _ _=>(bQ (i:=4) mj.nd rfl fo)) (λ_ _ _ _ _=>(rU (cB (TQ (K:=K) rfl hr.AD) (SE hu (kg (K:=K) rfl (pv 1) rfl) (kg (K:=K) rfl (pv 4) rfl) ⟨rfl,rfl,rfl,rfl⟩) (pv 2) (cx _)))) (λ_ _ _ _ _=>(pv 4))) (aF (aX (nu (BV T) hr.mono rfl (aH (bj (pv 0) rfl) (aH (pv 3) (aH (cD (Az rfl) (by rfl) T.b.TC MX (aH (bj (pv 0) rfl) (aH (bj (pv 1) rfl) ao))) (aH (cD (Az rfl) (by rfl) T.b.TC MX (aH (bj (pv 0) rfl) (aH (bj (pv 1) rfl) ao))) ao)))))))))),?_⟩;refine⟨_,rfl,b,Au,_,rfl,z1,oE,_,rfl,a,A.jg,dx,_,_,rfl,h1,T.jg.cl,T.jg.O8,AU,b,p.1,z,p.2,rfl,Z0,hp,_,rfl,?_⟩
  cases e:z.lk.lookup p.2.who with
  |none=>
   refine kC ⟨_,rfl,k a H l (aS.refl _) ?_ (Fc _) ?_⟩
   ·unfold j9;rw[e];exact H0
   ·unfold kY;rw[e]
  |some y=>
   rw[e] at ho;obtain⟨t,rfl,ht⟩:=ho;refine kK ?_;refine cN ?_;refine⟨_,rfl,b,A.rel,Au,_,_,rfl,z1,T.rel.cl,T.rel.wx,nG,_,rfl,a,A.jg,dx,_,_,rfl,h1,T.jg.cl,T.jg.O8,AU,p.1,A.row,Ug,_,_,rfl,r1,T.row.cl,T.row.oN,kM,ld,_,rfl,hg,?_⟩;refine b8 ?_;refine aZ ?_;refine IC ?_;refine fw ?_;refine⟨_,rfl,a,A.jg,dx,_,_,rfl,h1,T.jg.cl,T.jg.wy,nH,la,rfl,⟨_,bD.of h2⟩,?_⟩;refine lF (enc:=λp:PR=>V.ref p.1) (f:=λp=>V.ref p.1) (p:=λx=>z.lk.lookup x.2.who==some y) (bD.of h2) (ak hl.len (by decide)) (λi x H' R S hi k' hR hS=>?_) (λD H' hD hs he=>?_)
   ·have hx:=aL hi;obtain⟨RF,cl2,g3,g4⟩:=(hl.at' x hx).mono k';obtain⟨o2,hg2,IZ⟩:=(z3.mono k').get x.2.who;obtain⟨kvs,hk1,_⟩:=(z3.mono k').len;refine⟨rfl,_,rfl,b,A.rel,Au,_,_,rfl,k' _ _ z1,T.rel.cl,T.rel.wx,nG,ld,rfl,.inl ⟨_,.inl hk1⟩,_,rfl,x.1,A.row,RF,_,_,rfl,g3,T.row.cl,T.row.oN,kM,o2,hg2,_,rfl,t,y,rfl,nj.of (k' _ _ ht),?_⟩
    cases e2:z.lk.lookup x.2.who with
    |none=>rw[e2] at IZ;rw[show o2=none from IZ];exact .inl ⟨rfl,_,rfl,kK (hS (by rw[e2];rfl) _ (aS.refl _))⟩
    |some y2=>
     rw[e2] at IZ;obtain⟨t2,rfl,ht2⟩:=IZ;refine .inr ⟨t2,y2,rfl,nj.of ht2,_,rfl,fC (λe3=>⟨_,rfl,hR ?_ _ (aS.refl _)⟩) (λe3=>hS ?_ _ (aS.refl _))⟩
     ·rw[e2,e3];exact beq_self_eq_true _
     ·rw[e2];exact beq_eq_false_iff_ne.mpr λq=>e3 (aW q)
   ·refine b8 ?_;refine iW ?_;refine⟨_,rfl,a,A.jg,dx,_,_,rfl,hs _ _ h1,T.jg.cl,T.jg.O8,AU,_,rfl,_,rfl,a,A.jg,dx,_,_,rfl,hs _ _ h1,T.jg.cl,T.jg.Xc,Iv,_,rfl,b,A.rel,Au,_,_,rfl,hs _ _ z1,T.rel.cl,T.rel.Xc,Pc,_,_,rfl,_,rfl,a,A.jg,dx,_,_,rfl,hs _ _ h1,T.jg.cl,T.jg.Xd,Iw,_,rfl,b,A.rel,Au,_,_,rfl,hs _ _ z1,T.rel.cl,T.rel.Xd,Pd,_,_,rfl,?_⟩;intro x dx3 nx nd ne;refine⟨x,dx3,_,_,_,_,rfl,ag,λH4 e4 k4=>⟨rfl,?_⟩⟩;have s4:aS H' H4:=aS.made nx nd k4;refine k x H4 _ (hs.trans s4) ⟨dx3,D,?_,qr tr hD (s4 _ _ he)⟩ (fk) ?_
    ·rw[qr tr (hs.free nx) e4];have em:∀i j:Nat,(if(j:Int)>(i:Int) then(j:Int) else(i:Int))=((max i j:Nat):Int):=λi j=>by rw[aiW];split<;>split<;>omega
     rw[em,em];unfold j9;rw[e];rfl
    ·unfold kY;rw[e];exact ib (λx:fW=>z.lk.lookup x.who==some y) l
end
end Bp
namespace Bp
open PySem PySem.Spec PyProof.Rows L2 Bm
open Vbslai (enough)
def Lw(look:fW->List aG)(l:List PR)(k u:Nat)(x:List aG):List (Nat×List aG):=if enough k u ((l.filter λp=>look p.2==x).map (·.2))=true then(l.filter λp=>look p.2==x).map λp=>(p.2.who,x) else[]
theorem Ja(look:fW->List aG)(l:List PR)(k u:Nat):(dd (l.map λp=>look p.2)).flatMap (Lw look l k u)=yg look (l.map (·.2)) k u:=by
 unfold yg;rw[aP];show _=((dd (l.map λp=>look p.2)).filter _).flatMap _;generalize dd (l.map λp=>look p.2)=ks;have e1:∀x,((l.filter λp=>look p.2==x).map (·.2))=Vd look (l.map (·.2)) x:=λx=>ib (λr:fW=>look r==x) l
 induction ks with
 |nil=>rfl
 |cons x ks ih=>
  rw[gY,wa,ih];unfold Lw classOk;rw[e1];by_cases h:enough k u (Vd look (l.map (·.2)) x)=true
  ·rw[if_pos h,if_pos h,gY,<-e1,aP];rfl
  ·rw[if_neg h,if_neg h];rfl
def Q0(M:List af)(H:Hp)(kv:Key×V)(p:Nat×List aG):Prop:=kv.1=cC (p.1:Int)/\∃t,kv.2=.ref t/\¬t∈M/\H t=some (.tup (eO p.2))
theorem Q0.lk{M:List af}{H:Hp}{D:af}{kvs:List (Key×V)}{lk:List (Nat×List aG)}(hD:¬D∈M)(h:H D=some (.dK kvs))(p:dh (Q0 M H) kvs lk):Ce (cut H M) D lk:=⟨kvs,by rw[cX hD];exact h,Paired.mono (λ_ _ ⟨a,t,b,c,d⟩=>⟨a,t,b,by rw[cX c];exact d⟩) p⟩
theorem Q0.step{M:List af}{H H':Hp}{D:af}(s:cW [D] H H')(hD:∀xs,H D≠some (.tup xs)){kvs:List (Key×V)}{lk:List (Nat×List aG)}(p:dh (Q0 M H) kvs lk):dh (Q0 M H') kvs lk:=Paired.mono (λ_ _ ⟨a,t,b,c,d⟩=>⟨a,t,b,c,s.at d (by simp;intro e;subst e;exact hD _ d)⟩) p
theorem Lx{look:fW->List aG}{rows:List fW}{k u:Nat}(nd:(rows.map (·.who)).Nodup):(yg look rows k u).length<=rows.length:=by have:=OY (zp (look:=look) (k:=k) (u:=u) nd) (m:=rows.map (·.who)) (λx hx=>by obtain⟨⟨w,y⟩,hm,e⟩:=aq.mp hx;obtain⟨r,hr,e1,_⟩:=zo.mp hm;exact aq.mpr ⟨r,hr,by rw[e1];exact e⟩);rw[aa,aa] at this;exact this
theorem Zj{M:List af}{H:Hp}{kvs:List (Key×V)}{lk:List (Nat×List aG)}(p:dh (Q0 M H) kvs lk){n:Nat}(h:¬n∈lk.map (·.1)):iP kvs (cC (n:Int):Key)=none:=by have:=Ce.val (H:=H) n (Paired.mono (λ_ _ ⟨a,t,b,c,d⟩=>⟨a,t,b,d⟩) p);rw[lookup_none.mpr h] at this;exact this
section
variable{P:bo}{w:bM}{K:ah}{mg:Str->Option aj}{base:cu}{A:Cl}
def Gn(K:ah)(A:Cl):Sp:=λvs H Q _=>∃(a b d:af)(fm:dY)(l:List PR)(ls:List Nat)(x u:Nat)(M:List af),vs=[.ref a,.ref b,.ref d,.int (x:Nat),.int (u:Nat)]/\gM A H a fm/\iy fm/\H b=some (.lst (pB l))/\gr A fm.columns H l/\
 (l.map (·.2.who)).Nodup/\QZ M H/\cut H M d=some (.lst (gP ls))/\kZ fm.columns ls/\∀z H',H z=none->aS H H'->mR A (cut H' M) z (ik fm.columns (l.map (·.2)) ls x u)->Q (.ref z) H'
theorem xQ(T:Txt K mg A):Def P w K mg base "release_at" 5 ["form","rows","levels","k","u"] (Gn K A):=by
 refine T.xJ.M8.ok kQ (λvs H Q E h=>?_) (λf eC A' outer s H vs Q E hr h=>?_)
 ·obtain⟨a,b,d,fm,l,ls,x,u,M,rfl,_⟩:=h;rfl
 ·obtain⟨a,b,d,fm,l,ls,kx,ku,M,rfl,F0,ok,hb,hl,nd,tr,hd,Ey,k⟩:=h;have hu:=tm hr;have hd0:H d=some (.lst (gP ls)):=(cY hd).2;refine⟨_,(aw (bZ (i:=5) kQ.nd rfl fo Dd) (aw (lA dz rfl (QS (Y2 (bC (xP T) hr.mono rfl (aH (pv 0) (aH (pv 1) (aH (pv 2) ao)))))) (CY (n:=2) rfl (fR (bQ (i:=6) kQ.nd rfl fo) (fR (bQ (i:=7) kQ.nd rfl fo) oz))) (aF (dj (fQ (bC (xO T) hr.mono rfl (aH (pv 7) (aH (pv 3) (aH (pv 4) ao))))) (aF (lA dz rfl (dC (pv 7)) (bQ (i:=8) kQ.nd rfl fo) (aF (CK hu (pv 5) (bj (pv 8) rfl) (pv 6) rfl)))) bO))) (aF (aX (nu (Ls T) hr.mono rfl (aH (pv 2) (aH (pv 3) (aH (pv 4) (aH (pv 5) (aH (fh uG (cD bt (by rfl) T.b.dM cJ (aH (pv 1) ao)) (cD qV (by rfl) T.b.dM cJ (aH (pv 5) ao))) ao)))))))))),?_⟩;refine aZ ?_;refineλD hD=>?_;refine b8 ?_;have hDM:¬D∈M:=tr.tr.not hD;have s0:aS H (upd H D (.dK [])):=aB hD;refine aZ ?_;refine⟨_,rfl,_,rfl,_,rfl,a,b,d,fm,l,ls,rfl,F0.mono s0,ok,s0 _ _ hb,hl.mono s0,bD.of (s0 _ _ hd0),Ey,λC H2 ps hC c=>⟨C,_,rfl,c.dict,jh,λod=>⟨C,od,_,rfl,ag,?_⟩⟩⟩;have hCD:C≠D:=(aQ (ag (H:=H) (a:=D)) hC).symm;have hC0:H C=none:=s0.free hC;have sC:cW [D] H (upd H2 C (.uD od (.dT (ps.map λp=>(p.1.map zO,V.ref p.2.1))))):=λb o e=>by obtain⟨n,e⟩:=cY e;rw[ax (aQ e hC0)];exact c.same _ _ (s0 _ _ e)
  refine IB (n:=ps.length) (λi σ H'=>(∃v6 v7 v8:Option V,σ=[some (.ref a),some (.ref b),some (.ref d),some (.int (kx:Nat)),some (.int (ku:Nat)),some (.ref D),v6,v7,v8])/\cW [D] (upd H2 C (.uD od (.dT (ps.map λp=>(p.1.map zO,V.ref p.2.1))))) H'/\∃kvs,H' D=some (.dK kvs)/\dh (Q0 M H') kvs (((ps.map (·.1)).take i).flatMap (Lw (aE fm.columns ls) l kx ku))) ⟨⟨_,_,_,rfl⟩,cW.of (aS.refl _),[],?_,.nil⟩ (λi σ H' hi p=>?_) (λσ H' p=>?_) (λi xv σ H' nL hi p y=>?_) (λσ H' p=>?_)
  ·rw[ax hCD.symm];exact c.same _ _ ag
  ·exact⟨p.2.1.at ag (by simp;exact hCD),by rw[aa];exact hi⟩
  ·exact⟨p.2.1.at ag (by simp;exact hCD),by rw[aa];exact aJ _⟩
  ·
   obtain⟨⟨v6,v7,v8,rfl⟩,sB,kvs,hDk,hP⟩:=p;obtain⟨T1,q,kk,v,RA,rfl,hq,Hf,rfl⟩:=y;rw[aU] at RA
   cases Uh:ps[i]? with
   |none=>rw[Uh] at RA;cases RA
   |some p=>
    rw[Uh] at RA;cases RA;have Lq:=aL Uh;have hT0:T1≠D:=(aQ hDk Hf).symm;have e1:((ps.map (·.1)).take (i+1))=(ps.map (·.1)).take i++[p.1]:=by rw[dq,aU,Uh];rfl
    have MQ:(p.1.map zO).map kV=eO p.1:=(Lk _).symm;rw[MQ] at hq;have sB1:cW [D] (upd H2 C (.uD od (.dT (ps.map λp=>(p.1.map zO,V.ref p.2.1))))) (upd H' T1 (.tup [.ref q,.ref p.2.1])):=sB.trans (cW.of (aB Hf));have NY:(upd H' T1 (.tup [.ref q,.ref p.2.1])) D=some (.dK kvs):=by rw[ax hT0.symm];exact hDk
    have Vh:(upd H' T1 (.tup [.ref q,.ref p.2.1])) q=some (.tup (eO p.1)):=aB Hf _ _ hq;have hP1:=Q0.step (cW.of (aB (o:=.tup [.ref q,.ref p.2.1]) Hf)) (λxs e=>by rw[hDk] at e;cases e) hP;have sH:cW [D] H (upd H' T1 (.tup [.ref q,.ref p.2.1])):=sC.trans sB1;have hpC:p.2.1≠C:=(c.new p Lq).2;have hpD:p.2.1≠D:=(aQ (ag (H:=H) (a:=D)) (c.new p Lq).1).symm;have Pw:(upd H' T1 (.tup [.ref q,.ref p.2.1])) p.2.1=some (.lst (pB p.2.2)):=sB1.at (by rw[ax hpC];exact c.lst p Lq) (by simp;exact hpD);have hqM:¬q∈M:=λhm=>by
     obtain⟨o,eo,no⟩:=tr q hm;have:q≠D:=λz=>by rw[z,hD] at eo;cases eo
     have:=sH.at eo (by simp;exact this);rw[Vh] at this;exact no _ (aW this).symm
    have hTT:(upd H' T1 (.tup [.ref q,.ref p.2.1])) T1=some (.tup [.ref q,.ref p.2.1]):=ag;generalize upd H' T1 (.tup [.ref q,.ref p.2.1])=G at sB1 NY Vh hP1 sH Pw hTT⊢;have wJ:p.2.2=l.filter λx=>aE fm.columns ls x.2==p.1:=c.rows p Lq;have hRg:gr A fm.columns H p.2.2:=by rw[wJ];exact hl.sub fk
    have acz:∀G':Hp,cW [D] H G'->∀r∈p.2.2,rz A G' r.1 r.2:=λG' sg r hr=>by have:aS (cut H [D]) G':=sg;refine rz.mono this ?_;obtain⟨dx,lr,g1,g2⟩:=hRg.at' r hr;exact⟨dx,lr,by rw[cX (by simp;exact aQ g1 hD)];exact g1,by rw[cX (by simp;exact aQ g2 hD)];exact g2⟩
    have ndF:((((ps.map (·.1)).take (i+1)).flatMap (Lw (aE fm.columns ls) l kx ku)).map (·.1)).Nodup:=by
     have h1:((yg (aE fm.columns ls) (l.map (·.2)) kx ku).map (·.1)).Nodup:=zp (by rw[aP];exact nd);rw[<-Ja,<-c.keys] at h1;refine h1.sublist (List.Sublist.map _ ?_);have h2:=RO (i+1) (ps.map (·.1))
     conv=>rhs;rw[<-h2]
     rw[gj];exact uw ..
    have acA:p.2.2.length<=40:=hRg.len;have fl:∀(L:List (Nat×List aG)),L.Sublist (((ps.map (·.1)).take (i+1)).flatMap (Lw (aE fm.columns ls) l kx ku))->L.length<=40:=λL hL=>by
     have h1:(((ps.map (·.1)).take (i+1)).flatMap (Lw (aE fm.columns ls) l kx ku)).Sublist (yg (aE fm.columns ls) (l.map (·.2)) kx ku):=by
      rw[<-Ja,<-c.keys];have h2:=RO (i+1) (ps.map (·.1))
      conv=>rhs;rw[<-h2]
      rw[gj];exact uw ..
     have h3:=Lx (look:=aE fm.columns ls) (rows:=l.map (·.2)) (k:=kx) (u:=ku) (by rw[aP];exact nd);rw[aa] at h3;exact ak hL.length_le (ak h1.length_le (ak h3 hl.len))
    refine⟨T1,_,rfl,nj.of hTT,rfl,_,_,rfl,_,_,rfl,rfl,?_⟩;refine⟨_,rfl,_,rfl,_,rfl,p.2.1,p.2.2.map (·.1),p.2.2.map (·.2),kx,ku,rfl,by rw[<-wA];exact Pw,Paired.NP (acz G sH),by rw[aa];omega,λG1 s1=>⟨_,rfl,DD (λen=>?_) (λen=>?_)⟩⟩
    ·have eF:Lw (aE fm.columns ls) l kx ku p.1=p.2.2.map λr=>(r.2.who,p.1):=by unfold Lw;rw[<-wJ,if_pos en]
     have eA:((ps.map (·.1)).take (i+1)).flatMap (Lw (aE fm.columns ls) l kx ku)=((ps.map (·.1)).take i).flatMap (Lw (aE fm.columns ls) l kx ku)++p.2.2.map λr=>(r.2.who,p.1):=by rw[e1,gj,<-eF];simp
     have hP2:=Q0.step (cW.of s1) (λxs e=>by rw[NY] at e;cases e) hP1;refine⟨_,rfl,p.2.1,rfl,⟨_,bD.of (s1 _ _ Pw)⟩,lZ (K:=K) (a:=p.2.1) (xs:=pB p.2.2) (λj σ G'=>(∃v8:Option V,σ=[some (.ref a),some (.ref b),some (.ref d),some (.int (kx:Nat)),some (.int (ku:Nat)),some (.ref D),some (.ref q),some (.ref p.2.1),v8])/\cW [D] G1 G'/\∃NT,G' D=some (.dK NT)/\dh (Q0 M G') NT (((ps.map (·.1)).take i).flatMap (Lw (aE fm.columns ls) l kx ku)++(p.2.2.take j).map λr=>(r.2.who,p.1))) ⟨⟨_,rfl⟩,cW.of (aS.refl _),kvs,s1 _ _ NY,by simpa using hP2⟩ (λj σ G' _ pp=>bD.of (pp.2.1.at (s1 _ _ Pw) (by simp;exact hpD))) ?_ ?_⟩
     ·rintro j xv σ G' hj ⟨⟨v8',rfl⟩,sg,NT,JY,RG⟩;obtain⟨r,JD,rfl⟩:=IY hj;have hrm:=aL JD;obtain⟨Ug,lr,g1,g2⟩:=acz G' ((sH.trans (cW.of s1)).trans sg) r hrm;have et:p.2.2.take (j+1)=p.2.2.take j++[r]:=by rw[dq,JD];rfl
      have sQ:(((ps.map (·.1)).take i).flatMap (Lw (aE fm.columns ls) l kx ku)++(p.2.2.take (j+1)).map λr=>(r.2.who,p.1)).Sublist (((ps.map (·.1)).take (i+1)).flatMap (Lw (aE fm.columns ls) l kx ku)):=by rw[eA];exact List.Sublist.append (Fc _) ((XE ..).map _)
      have NZ:¬r.2.who∈(((ps.map (·.1)).take i).flatMap (Lw (aE fm.columns ls) l kx ku)++(p.2.2.take j).map λr=>(r.2.who,p.1)).map (·.1):=by have h1:=ndF.sublist (sQ.map (·.1));rw[et,br (f:=λr:PR=>(r.2.who,p.1)),<-dn,br,kz] at h1;exactλhm=>h1.2.2 _ hm r.2.who (by simp) rfl
      have hlk:NT.length<=40:=by rw[Paired.len RG];refine fl _ (List.Sublist.trans ?_ sQ);rw[et,br (f:=λr:PR=>(r.2.who,p.1)),<-dn];exact uw ..
      refine⟨_,rfl,_,rfl,_,rfl,r.1,A.row,Ug,_,_,rfl,g1,T.row.cl,T.row.oN,kM,D,_,rfl,FN.k (k:=(cC (r.2.who:Int):Key)) JY (dB (by omega)),?_⟩;rw[C8 _ (Zj RG NZ)];refine⟨⟨_,rfl⟩,sg.upd (by simp),_,ag,?_⟩;rw[et,br (f:=λr:PR=>(r.2.who,p.1)),<-dn];have hqG:G' q=some (.tup (eO p.1)):=sg.at (s1 _ _ Vh) (by simp;exact gA Vh NY (λz=>nomatch z));refine Paired.snoc (Q0.step (D:=D) ((cW.of (aS.refl _)).upd (by simp)) (λxs e=>by rw[JY] at e;cases e) RG) ⟨rfl,q,rfl,hqM,?_⟩;rw[ax (gA Vh NY (λz=>nomatch z))];exact hqG
     ·rintro σ G' ⟨⟨v8',rfl⟩,sg,NT,JY,RG⟩;refine⟨⟨_,_,_,rfl⟩,(sB1.trans (cW.of s1)).trans sg,NT,JY,?_⟩;have:p.2.2.take (pB p.2.2).length=p.2.2:=bH (by unfold pB;rw[aa];exact aJ _);rw[this] at RG;rw[eA];exact RG
    ·refine cN ?_;have eF:Lw (aE fm.columns ls) l kx ku p.1=[]:=by unfold Lw;rw[<-wJ,if_neg (by rw[en];exact aY)]
     refine⟨⟨_,_,_,rfl⟩,sB1.trans (cW.of s1),kvs,s1 _ _ NY,?_⟩;rw[e1,gj];have:[p.1].flatMap (Lw (aE fm.columns ls) l kx ku)=[]:=by simp[eF]
     rw[this,dE];exact Q0.step (cW.of s1) (λxs e=>by rw[NY] at e;cases e) hP1
  ·obtain⟨⟨v6,v7,v8,rfl⟩,sB,kvs,hDk,hP⟩:=p;rw[bH (by rw[aa];exact aJ _),c.keys,Ja] at hP;have s1:aS H H':=aS.cutD hD (sC.trans sB);have hkl:=Paired.len hP;have h3:=Lx (look:=aE fm.columns ls) (rows:=l.map (·.2)) (k:=kx) (u:=ku) (by rw[aP];exact nd);refine⟨_,rfl,_,rfl,_,rfl,_,rfl,_,rfl,b,_,rfl,.inl (bD.of (s1 _ _ hb)),_,rfl,D,kvs,rfl,hDk,_,_,rfl,rfl,λz Au nz ndz ne=>⟨z,Au,_,_,_,_,_,rfl,ag,λH4 e4 k4=>⟨rfl,?_⟩⟩⟩;have s4:aS H' H4:=aS.made nz ndz k4;have zM:¬z∈M:=tr.tr.not (s1.free nz);refine k z H4 (s1.free nz) (s1.trans s4) ⟨Au,d,D,?_,?_,?_⟩
   ·rw[cX zM,e4];have e5:(((pB l).length:Nat):Int)-((kvs.length:Nat):Int)=(((l.map (·.2)).length-(yg (aE fm.columns ls) (l.map (·.2)) kx ku).length:Nat):Int):=by unfold pB;rw[aa] at h3;rw[aa,aa,hkl];omega
    show some (HO.ins A.rel Au (vq (V.ref d) (V.int (kx:Nat)) (V.int (ku:Nat)) (V.ref D) (V.int ((((pB l).length:Nat):Int)-((kvs.length:Nat):Int)))))=_;rw[e5];rfl
   ·rw[cX (cY hd).1];exact s4 _ _ (s1 _ _ hd0)
   ·exact Q0.lk hDM (s4 _ _ hDk) (Paired.mono (λ_ _ ⟨a,t,b,c,d⟩=>⟨a,t,b,c,s4 _ _ d⟩) hP)
end
end Bp
namespace Bp
open PySem PySem.Spec PyProof.Rows L2 Bm
open Vbslai (enough)
theorem Wu(H:Hp)(D:af)(M:List af):cut (cut H [D]) M=cut H (D::M):=by
 funext b;by_cases h1:b∈M
 ·rw[vd h1,vd (.tail _ h1)]
 ·rw[cX h1];by_cases h2:b=D
  ·subst h2;rw[vd (by simp),vd (by simp)]
  ·rw[cX (by simpa using h2),cX (by simp;exact⟨h2,h1⟩)]
theorem Ly(zs:List Rl)(z:Rl)(r:fW):ask (zs++[z]) r=j9 z r (ask zs r):=by unfold Bm.ask;rw[jc];rfl
theorem Lz(zs:List Rl)(z:Rl)(rows:List fW)(r:fW):jg (zs++[z]) rows r=kY z r (jg zs rows r):=by unfold jg;rw[jc];rfl
def xR(A:Cl)(H:Hp)(l:List PR)(zs:List Rl)(x:af)(p:PR):Prop:=∃m:List PR,BW A H x p m (ask zs p.2)/\m.Sublist l/\m.map (·.2)=jg zs (l.map (·.2)) p.2
theorem xR.mono{A:Cl}{H H':Hp}(e:aS H H'){l:List PR}{zs:List Rl}{x:af}{p:PR}(h:xR A H l zs x p):xR A H' l zs x p:=let⟨m,a,b,c⟩:=h;⟨m,a.mono e,b,c⟩
section
variable{P:bo}{w:bM}{K:ah}{mg:Str->Option aj}{base:cu}{A:Cl}
def Jb(A:Cl):Sp:=λvs H Q _=>∃(b c:af)(cs:List bw)(p:PR)(l:List PR)(gx:List af)(zs:List Rl)(M:List af),vs=[.ref p.1,.ref b,.ref c]/\Tr M H/\rz A H p.1 p.2/\cut H M b=some (.lst (pB l))/\gr A cs H l/\
 H c=some (.lst (iJ gx))/\gN A H gx zs/\∀(x:af)(H':Hp),aS H H'->xR A (cut H' M) l zs x p->Q (.ref x) H'
theorem zQ(T:Txt K mg A):Def P w K mg base "hiding_of" 4 ["row","rows","releases"] (Jb A):=by
 refine T.xJ.QJ.ok oF (λvs H Q E h=>?_) (λf eC A' outer s H vs Q E hr h=>?_)
 ·obtain⟨b,c,cs,p,l,gx,zs,M,rfl,_⟩:=h;rfl
 ·obtain⟨b,c,cs,p,l,gx,zs,M,rfl,tr,hp,hb,hl,hc,hz,k⟩:=h;have hlen:=Paired.len hz;refine⟨_,(aw (bZ (i:=3) oF.nd rfl fo (nu (BV T) hr.mono rfl (aH (pv 0) (aH (pv 1) (aH bx (aH bx ao)))))) (aw (lA dz rfl (dC (pv 2)) (bQ (i:=4) oF.nd rfl fo) (aF (bZ (i:=3) oF.nd rfl fo (bC (vN T) hr.mono rfl (aH (pv 3) (aH (pv 4) ao)))))) (aF (aX (pv 3))))),?_⟩;refine aZ ?_;refine⟨_,rfl,_,rfl,?_⟩;intro x dx nx nd ne;refine⟨x,dx,_,_,_,_,rfl,ag,λH4 e4 k4=>⟨rfl,?_⟩⟩;have s4:aS H H4:=aS.made nx nd k4;refine b8 ?_;refine⟨_,rfl,c,rfl,⟨_,bD.of (s4 _ _ hc)⟩,lZ (K:=K) (a:=c) (xs:=iJ gx) (λi σ H'=>∃(v4:Option V)(y:af),σ=[some (.ref p.1),some (.ref b),some (.ref c),some (.ref y),v4]/\aS H H'/\xR A (cut H' M) l (zs.take i) y p) ⟨none,x,rfl,s4,l,⟨dx,b,qr tr nx e4,?_⟩,Fc _,rfl⟩ (λi σ H' _ pp=>by obtain⟨_,_,_,s,_⟩:=pp;exact bD.of (s _ _ hc)) ?_ ?_⟩
  ·exact dJ s4 _ _ hb
  ·rintro i xv σ H' hi ⟨v4,y,rfl,s',m,hm,sQ,Xp⟩;obtain⟨za,hza,rfl⟩:=kh hi;obtain⟨z,hzi,Nz⟩:=Paired.vH hz hza;have et:zs.take (i+1)=zs.take i++[z]:=by rw[dq,hzi];rfl
   refine⟨_,rfl,_,rfl,y,za,cs,p,m,_,z,M,rfl,tr.mono s',hm,hp.mono s',(hl.mono s').sub sQ,Nz.mono s',λx2 H2 m2 s2 h2 Fl hm2=>?_⟩;refine⟨_,_,rfl,s'.trans s2,m2,?_,Fl.trans sQ,?_⟩
   ·rw[et,Ly];exact h2
   ·rw[et,Lz,<-Xp];exact hm2
  ·rintro σ H' ⟨v4,y,rfl,s',h'⟩;rw[bH (by rw[ck];omega)] at h';exact⟨_,rfl,k y H' s' h'⟩
def Gp(A:Cl):Sp:=λvs H Q _=>∃(b c:af)(cs:List bw)(l:List PR)(gx:List af)(zs:List Rl),vs=[.ref b,.ref c]/\H b=some (.lst (pB l))/\gr A cs H l/\
 H c=some (.lst (iJ gx))/\gN A H gx zs/\∀(D:af)(H':Hp)(xs:List af),H D=none->aS H H'->H' D=some (.lst (iJ xs))->dh (xR A H' l zs) xs l->Q (.ref D) H'
theorem Px{n:Nat}{R:Nat->af->Prop}{ys:List V}(hl:ys.length=n)(h:∀i y,ys[i]? =some y->∃x,y=.ref x/\R i x):∃xs:List af,ys=iJ xs/\xs.length=n/\∀i x,xs[i]? =some x->R i x:=by
 induction n generalizing ys R with
 |zero=>exact⟨[],fT.mp hl,rfl,λi x e=>by simp at e⟩
 |succ n ih=>
  cases ys with
  |nil=>simp at hl
  |cons y ys=>
   obtain⟨x,rfl,hx⟩:=h 0 y rfl;obtain⟨xs,rfl,h1,h2⟩:=ih (R:=λi=>R (i+1)) (ys:=ys) (by simpa using hl) (λi y e=>h (i+1) y (by simpa using e));refine⟨x::xs,rfl,by simp[h1],λi z e=>?_⟩
   cases i with
   |zero=>simp at e;subst e;exact hx
   |succ i=>exact h2 i z (by simpa using e)
theorem wB{α β:Type}{R:α->β->Prop}:∀{l:List α}{m:List β},l.length=m.length->(∀(i:Nat)(a:α)(b:β),l[i]? =some a->m[i]? =some b->R a b)->dh R l m
 |[],[],_,_=>.nil
 |a::l,b::m,hl,h=>.cons (h 0 a b rfl rfl) (wB (by simpa using hl) λi x y e1 e2=>h (i+1) x y (by simpa using e1) (by simpa using e2))
 |[],_::_,hl,_=>by simp at hl
 |_::_,[],hl,_=>by simp at hl
theorem Gq(T:Txt K mg A):Def P w K mg base "hidings_of" 5 ["rows","releases"] (Gp A):=by
 refine T.xJ.M9.ok qD (λvs H Q E h=>?_) (λf eC A' outer s H vs Q E hr h=>?_)
 ·obtain⟨b,c,cs,l,gx,zs,rfl,_⟩:=h;rfl
 ·obtain⟨b,c,cs,l,gx,zs,rfl,hb,hl,hc,hz,k⟩:=h;have El:=sP (K:=K) (bD.of hb);have gu:=m6 (K:=K) (bD.of hb);have Ey:(pB l).length=l.length:=aa ..;rw[Ey] at El gu;refine⟨_,(aF (aX (gU rfl (own:=[("row",2)]) qD.nd (dC (pv 0)) (cM (by kernel_rfl)) (λ_ _ _ _ _=>(bQ (i:=2) qD.nd rfl fo)) (λ_ _ _ _ _=>eK) (λ_ _ _ _ _=>(bC (zQ T) hr.mono rfl (aH (pv 2) (aH (pv 0) (aH (pv 1) ao)))))))),?_⟩;refine iW ?_;refine fw ?_;refine⟨_,rfl,b,rfl,⟨_,bD.of hb⟩,?_⟩;refine Xj (n:=l.length) (Rel:=λi y H=>∃x,y=.ref x/\∃p,l[i]? =some p/\xR A H l zs x p) (λi y H1 H2 s ⟨x,e,p,hp,h⟩=>⟨x,e,p,hp,h.mono s⟩) (ak hl.len (by decide)) El gu (λD i xv H' nL R hD hi k' wV y hR=>?_) (λD H' ys hD hs he Vc hys=>?_)
  ·obtain⟨rfl,y⟩:=y;obtain⟨p,hp,rfl⟩:=IY (y _ (bD.of (k' _ _ hb)));obtain⟨acc,wV⟩:=wV;refine⟨rfl,_,rfl,_,rfl,_,rfl,b,c,cs,p,l,gx,zs,[D],rfl,Tr.cons Tr.nil wV,(hl.at' p (aL hp)).mono k',?_,hl.mono k',k' _ _ hc,gN.mono k' hz,λx H4 s4 h4=>hR _ _ s4 ⟨x,rfl,p,hp,h4⟩⟩;rw[cX (by simp;exact aQ hb hD)];exact k' _ _ hb
  ·obtain⟨xs,rfl,h1,h2⟩:=Px (R:=λi x=>∃p,l[i]? =some p/\xR A (cut H' [D]) l zs x p) Vc hys;refine k D H' xs hD hs he (wB h1 λi x p e1 e2=>?_);obtain⟨p',e3,h3⟩:=h2 i x e1;rw[e2] at e3;cases e3;exact h3.mono (bU _ _)
def Ck(A:Cl):Sp:=λvs H Q _=>∃(a b:af)(cs:List bw)(l:List PR)(xs:List af)(zs:List Rl)(z:Rl),vs=[.ref a,.ref b]/\H a=some (.lst (iJ xs))/\dh (xR A H l zs) xs l/\gr A cs H l/\mR A H b z/\∀H',aS H H'->Q (.bl (lP (zs++[z]) (l.map (·.2)))) H'
theorem Cm(T:Txt K mg A):Def P w K mg base "is_safe_with" 4 ["hidings","release"] (Ck A):=by
 refine T.xJ.Ih.ok tT (λvs H Q E h=>?_) (λf eC A' outer s H vs Q E hr h=>?_)
 ·obtain⟨a,b,cs,l,xs,zs,z,rfl,_⟩:=h;rfl
 ·obtain⟨a,b,cs,l,xs,zs,z,rfl,ha,hx,hl,hz,k⟩:=h;have hlen:=Paired.len hx;have eT:∀bb H',lP (zs++[z]) (l.map (·.2))=bb->aS H H'->Q (.bl bb) H':=λbb H' h2 h3=>by rw[<-h2];exact k H' h3
  refine⟨_,(aw (lA dz rfl (dC (pv 0)) (bQ (i:=2) tT.nd rfl fo) (aF (dj (gB (fQ (dk (bC (vN T) hr.mono rfl (aH (pv 2) (aH (pv 1) ao))) T.jg.cl (EC T) hr.mono))) (aF (aX jQ)) bO))) (aF (aX jQ))),?_⟩;refine⟨_,rfl,a,rfl,⟨_,bD.of ha⟩,lZ (K:=K) (a:=a) (xs:=iJ xs) (λi σ H'=>(∃v2:Option V,σ=[some (.ref a),some (.ref b),v2])/\aS H H'/\∀p∈l.take i,enough (ask (zs++[z]) p.2).1 (ask (zs++[z]) p.2).2 (jg (zs++[z]) (l.map (·.2)) p.2)=true) ⟨⟨_,rfl⟩,aS.refl _,λp hp=>by simp at hp⟩ (λi σ H' _ pp=>bD.of (pp.2.1 _ _ ha)) ?_ ?_⟩
  ·rintro i xv σ H' hi ⟨⟨v2,rfl⟩,s',kL⟩;obtain⟨x,hxi,rfl⟩:=kh hi;obtain⟨p,hp,IM⟩:=Paired.vH hx hxi;obtain⟨m,hm,sQ,Xp⟩:=IM.mono s';have Lq:=aL hp;have et:l.take (i+1)=l.take i++[p]:=by rw[dq,hp];rfl
   refine⟨_,rfl,_,rfl,x,b,cs,p,m,_,z,[],rfl,Tr.nil,by rw[sO];exact hm,(hl.at' p Lq).mono s',(hl.mono s').sub sQ,hz.mono s',λx2 H2 m2 s2 h2 Fl hm2=>?_⟩;rw[sO] at h2;obtain⟨RF,la2,g1,g2⟩:=id h2;refine⟨x2,RF,_,rfl,g1,AV,x2,cs,p,m2,_,rfl,h2,(hl.mono (s'.trans s2)).sub (Fl.trans sQ),λH3 s3=>?_⟩;have e1:enough (j9 z p.2 (ask zs p.2)).1 (j9 z p.2 (ask zs p.2)).2 (m2.map (·.2))=enough (ask (zs++[z]) p.2).1 (ask (zs++[z]) p.2).2 (jg (zs++[z]) (l.map (·.2)) p.2):=by rw[Ly,Lz,hm2,Xp]
   rw[e1];refine⟨_,rfl,km (λe=>?_) (λe=>?_)⟩
   ·refine eT _ _ ?_ ((s'.trans s2).trans s3);unfold lP;rw[XG];exact⟨p.2,aq.mpr ⟨p,Lq,rfl⟩,by rw[e];exact aY⟩
   ·refine cN ?_;refine⟨⟨_,rfl⟩,(s'.trans s2).trans s3,λq hq=>?_⟩;rw[et] at hq;rcases aD.mp hq with h|h
    ·exact kL q h
    ·have:q=p:=by simpa using h
     subst this;exact e
  ·rintro σ H' ⟨⟨v2,rfl⟩,s',kL⟩;refine eT _ _ ?_ s';unfold lP;rw[b0];intro r JD;obtain⟨p,hp,rfl⟩:=aq.mp JD;exact kL p (by rw[bH (by rw[ck];omega)];exact hp)
end
end Bp
namespace Bp
open PySem PySem.Spec PyProof.Rows L2 Bm
open Vbslai (levels choices)
theorem Ui{σ:L2.St}{H:Hp}{Q:VK}{n v:Int}(h3:σ[3]? =some (some (.int n)))(h4:σ[4]? =some (some (.int v)))(h:Q (.int (if v=1 then 0 else n-1)) H):
  tIf (Sg (Vx rEq (qA 4) (tC (.int 1)))) (tC (.int 0)) (Vx (Vy λi j=>.int (i-j)) (qA 3) (tC (.int 1))) σ H Q:=by
 refine⟨_,h4,rfl,_,rfl,fC (λe=>?_) (λe=>?_)⟩
 ·have:v=1:=by injection e
  rw[if_pos this] at h;exact h
 ·have:¬v=1:=λq=>e (by rw[q]);rw[if_neg this] at h;exact⟨_,h3,_,_,rfl,rfl,h⟩
def zR(M:List af)(H:Hp)(x:af)(ls:List Nat):Prop:=cut H M x=some (.lst (gP ls))
theorem zR.mono{M:List af}{H H':Hp}(e:aS H H'){x:af}{ls:List Nat}(h:zR M H x ls):zR M H' x ls:=dJ e _ _ h
section
variable{P:bo}{w:bM}{K:ah}{mg:Str->Option aj}{base:cu}{A:Cl}
def xa(K:ah)(A:Cl):Sp:=λvs H Q _=>∃(a b:af)(fm:dY)(q:List Int)(M:List af),vs=[.ref a,.ref b]/\Tr M H/\gM A H a fm/\iy fm/\bD K H b (jN q)/\q.length=fm.columns.length/\
 ∀(D:af)(H':Hp)(xs:List af),aS H H'->H' D=some (.lst (iJ xs))->dh (zR M H') xs (choices (fm.columns.zip (q.map λb=>b==1)))->Q (.ref D) H'
theorem xb(T:Txt K mg A):Def P w K mg base "levels_looked_at" 3 ["form","asked"] (xa K A):=by
 refine T.xJ.AQ.ok dG (λvs H Q E h=>?_) (λf eC A' outer s H vs Q E hr h=>?_)
 ·obtain⟨a,b,fm,q,M,rfl,_⟩:=h;rfl
 ·obtain⟨a,b,fm,q,M,rfl,tr,F0,ok,hb,hq,k⟩:=h;obtain⟨ur,lc,lv,as,RE,hf2,hf3,hf4⟩:=id F0;obtain⟨pq,epq⟩:∃pq:List (Nat×Bool),pq=(fm.columns.zip (q.map λb=>b==1)).map λc=>(levels c.1.kind,c.2):=⟨_,rfl⟩;have wJ:pq.length=fm.columns.length:=by rw[epq,aa,eD,aa,hq];omega
  have hp4:∀p∈pq,1<=p.1/\p.1<=4:=λp hp=>by rw[epq] at hp;obtain⟨c,hc,rfl⟩:=aq.mp hp;exact⟨ak (by decide) (sd c.1.kind),pX (ok.cols c.1 (pM hc).1)⟩
  have RD:=ok.len;refine⟨_,(aw (bZ (i:=2) dG.nd rfl fo (bV (aH (bV ao) ao))) (aw (lA dz rfl (AI (by rfl) T.b.D8 (aH (dk (pv 0) T.fZ.cl (kG T) hr.mono) (aH (pv 1) ao))) (CY (n:=2) rfl (fR (bQ (i:=3) dG.nd rfl fo) (fR (bQ (i:=4) dG.nd rfl fo) oz))) (aw (bZ (i:=5) dG.nd rfl fo (R8 (cB ji (pv 4) bx (cx _)) bx (fh uG (pv 3) bx))) (aw (bZ (i:=6) dG.nd rfl fo (bV ao)) (aw (lA dz rfl (dC (pv 2)) (bQ (i:=7) dG.nd rfl fo) (aF (lA dz rfl (Qa (by rfl) T.b.Pa (aH (pv 5) (aH (pv 3) ao))) (bQ (i:=8) dG.nd rfl fo) (aF (iC (oh bP cQ cR iZ (pv 6) (aH (fh jD (pv 7) (bV (aH (pv 8) ao))) ao))))))) (aF (bZ (i:=2) dG.nd rfl fo (pv 6))))))) (aF (aX (pv 2))))),?_⟩;refine aZ ?_;refine⟨bB _,λI0 Uj=>⟨by show 1<=az;decide,λF0' hF0=>?_⟩⟩;refine b8 ?_;have s0:aS H (upd (upd H I0 (.lst [])) F0' (.lst [.ref I0])):=(aB Uj).trans (aB hF0);have hIM:¬I0∈M:=tr.not Uj;refine aZ ?_;refine⟨_,rfl,a,ur,_,rfl,s0 _ _ RE,jE,a,fm,rfl,F0.mono s0,ok,λD1 H1 Zd s1 e1=>?_⟩;have Fu:=s0.trans s1;refine⟨_,rfl,D1,b,_,_,rfl,bD.of e1,Fu.seq hb,?_⟩;refine IB (n:=fm.columns.length) (λi σ H'=>∃(v3 v4 v5 v6 v7 v8:Option V)(F:af)(xs:List af),σ=[some (.ref a),some (.ref b),some (.ref F),v3,v4,v5,v6,v7,v8]/\aS H1 H'/\H' F=some (.lst (iJ xs))/\dh (zR M H') xs ((pq.take i).foldl kD [[]])) ?_ (λi σ H' hi p=>?_) (λσ H' p=>?_) (λi xv σ H' nL hi p y=>?_) (λσ H' p=>?_)
  ·refine⟨none,none,none,none,none,none,F0',[I0],rfl,aS.refl _,s1 _ _ ag,.cons ?_ .nil⟩;show cut H1 M I0=_;rw[cX hIM];exact s1 _ _ (by rw[ax (aQ ag hF0)];exact ag)
  ·obtain⟨_,_,_,_,_,_,F,xs,rfl,s2,_⟩:=p;exact⟨_,_,_,_,bD.of (s2 _ _ e1),(Fu.trans s2).seq hb,au (by rw[eh,aa];exact hi),au (by rw[gH,hq];exact hi)⟩
  ·obtain⟨_,_,_,_,_,_,F,xs,rfl,s2,_⟩:=p;exact⟨_,_,bD.of (s2 _ _ e1),(Fu.trans s2).seq hb,.inl (by rw[eh,aa];exact aJ _)⟩
  ·obtain⟨v3,v4,v5,v6,v7,v8,F,xs,rfl,s2,hF,hP⟩:=p;obtain⟨T1,xn,yn,rfl,Hf,rfl,hxn,hyn⟩:=y;obtain⟨n,hn,rfl⟩:=k8 (hxn _ (bD.of (s2 _ _ e1)));obtain⟨v,hv,rfl⟩:=IW (hyn _ ((Fu.trans s2).seq hb));rw[aU] at hn
   cases hc:fm.columns[i]? with
   |none=>rw[hc] at hn;cases hn
   |some c=>
    rw[hc] at hn;cases hn;have Uh:pq[i]? =some (levels c.kind,v==1):=by rw[epq,aU,show(fm.columns.zip (q.map λb=>b==1))[i]? =some (c,v==1) from c8.mpr ⟨hc,by rw[aU,hv];rfl⟩];rfl
    have Lq:=hp4 _ (aL Uh);have et:(pq.take (i+1)).foldl kD [[]]=kD ((pq.take i).foldl kD [[]]) (levels c.kind,v==1):=by rw[dq,Uh,jc];rfl
    obtain⟨fd,hfd⟩:∃fd,fd=(pq.take i).foldl kD [[]]:=⟨_,rfl⟩;rw[<-hfd] at hP et;have hfl:∀ls∈fd,ls.length<=4:=λls Xq=>by have:=Th (pq.take i) [[]] 0 (λx hx=>by simp at hx;subst hx;exact aJ _) ls (by rw[<-hfd];exact Xq);rw[cK] at this;omega
    have hfc:fd.length<=256:=by
     have h1:=MW (pq.take i) [[]] (λp hp=>hp4 p (kT hp));rw[<-hfd] at h1;have h2:(pq.take i).length<=4:=by rw[cK];omega
     have h3:(4:Nat)^(pq.take i).length<=4^4:=U0 (by decide) h2;have h4:([[]]:List (List Nat)).length=1:=rfl;rw[h4,U6] at h1;exact ak h1 (ak h3 (by decide))
    have RH:=Paired.len hP;refine⟨T1,_,rfl,nj.of ag,rfl,_,_,rfl,_,_,rfl,rfl,?_⟩;refine aZ ?_;refine Ui (n:=((levels c.kind:Nat):Int)) (v:=v) rfl rfl ?_;refine b8 ?_;refine aZ ?_;refine⟨bB _,λL hL=>?_⟩;refine b8 ?_;refine aZ ?_;have s3:aS H' (upd (upd H' T1 (.tup [.int ((levels c.kind:Nat):Int),.int v])) L (.lst [])):=(aB Hf).trans (aB hL);have hLL:(upd (upd H' T1 (.tup [.int ((levels c.kind:Nat):Int),.int v])) L (.lst [])) L=some (.lst []):=ag;have K2:H' L=none:=(aB Hf).free hL;generalize upd (upd H' T1 (.tup [.int ((levels c.kind:Nat):Int),.int v])) L (.lst [])=G0 at s3 hLL⊢;obtain⟨lw,hlw⟩:∃lw:Nat,lw=if(v==1)=true then 0 else levels c.kind-1:=⟨_,rfl⟩
    have hz:(if v=1 then(0:Int) else((levels c.kind:Nat):Int)-1)=(lw:Int):=by
     rw[hlw];by_cases e:v=1
     ·rw[if_pos e,if_pos (by simpa using e)];rfl
     ·rw[if_neg e,if_neg (by simpa using e)];omega
    have akl:lw<=4:=by rw[hlw];split<;>omega
    have how:zq (levels c.kind) (v==1)=(bY (levels c.kind-lw)).map λj=>lw+j:=by rw[hlw];exact Tg Lq.1 _
    rw[hz];have trM:Tr (L::M) G0:=Tr.cons (tr.mono (Fu.trans (s2.trans s3))) hLL;have hFL:F≠L:=aQ hF K2;refine⟨_,rfl,F,rfl,⟨_,bD.of (s3 _ _ hF)⟩,lZ (K:=K) (a:=F) (xs:=iJ xs) (λj σ G=>∃(v7 v8:Option V)(ys:List af),σ=[some (.ref a),some (.ref b),some (.ref F),some (.int ((levels c.kind:Nat):Int)),some (.int v),some (.int (lw:Int)),some (.ref L),v7,v8]/\cW [L] G0 G/\G L=some (.lst (iJ ys))/\dh (zR (L::M) G) ys ((fd.take j).flatMap λls=>(zq (levels c.kind) (v==1)).map λk=>ls++[k])) ⟨_,_,[],rfl,cW.of (aS.refl _),hLL,.nil⟩ (λj σ G _ pp=>by obtain⟨_,_,_,_,sg,_⟩:=pp;exact bD.of (sg.at (s3 _ _ hF) (by simp;exact hFL))) ?_ ?_⟩
    ·rintro j xv σ G hj ⟨v7',v8',ys,rfl,sg,hG,hPy⟩;obtain⟨x,hx,rfl⟩:=kh hj;obtain⟨ls,Xq,Wv⟩:=Paired.vH hP hx;have hlm:=hfl ls (aL Xq);have hjf:j<fd.length:=(b9.mp Xq).1;have ej:fd.take (j+1)=fd.take j++[ls]:=by rw[dq,Xq];rfl
     have hxL:x≠L:=aQ (cY Wv).2 K2;have Zk:G0 x=some (.lst (gP ls)):=s3 _ _ (cY Wv).2;have cnt:((fd.take j).flatMap λls=>(zq (levels c.kind) (v==1)).map λk=>ls++[k]).length<=1024:=by have h1:=yk (p:=(levels c.kind,v==1)) Lq.1 Lq.2 (fd.take j);rw[AN,cK] at h1;exact ak h1 (by omega)
     have akp:=G9 (n:=levels c.kind) Lq.1 Lq.2 (v==1);refine⟨_,rfl,_,rfl,(lw:Int),((levels c.kind:Nat):Int),rfl,⟨by omega,by omega,by omega,by omega⟩,?_⟩;have en:(((levels c.kind:Nat):Int)-(lw:Int)).toNat=levels c.kind-lw:=by omega
     rw[en];refine Qc (λt σ G'=>∃(v8:Option V)(Zl:List af),σ=[some (.ref a),some (.ref b),some (.ref F),some (.int ((levels c.kind:Nat):Int)),some (.int v),some (.int (lw:Int)),some (.ref L),some (.ref x),v8]/\cW [L] G0 G'/\G' L=some (.lst (iJ Zl))/\dh (zR (L::M) G') Zl (((fd.take j).flatMap λls=>(zq (levels c.kind) (v==1)).map λk=>ls++[k])++((bY t).map λj=>lw+j).map λk=>ls++[k])) ⟨_,ys,rfl,sg,hG,by simpa using hPy⟩ ?_ ?_
     ·rintro t σ G' ht ⟨af6,Zl,rfl,sg',hG',Uk⟩;have hxG:G' x=some (.lst (gP ls)):=sg'.at Zk (by simp;exact hxL);have Vc:Zl.length<=1100:=by rw[Paired.len Uk,aO,aa,aa,dU];have:levels c.kind<=4:=Lq.2;omega
      refine⟨_,rfl,.inl ⟨rfl,_,bD.of hG'⟩,_,rfl,_,rfl,by show 1<=az;decide,λq1 Vh=>⟨x,q1,_,_,rfl,rfl,aB Vh _ _ hxG,ag,?_,λr hr1=>⟨L,_,_,rfl,rfl,aB hr1 _ _ (aB Vh _ _ hG'),?_,?_⟩⟩⟩
      ·rw[eh];show ls.length+1<=az;exact cT (dB (by omega))
      ·rw[ck];exact bW Vc (by decide)
      ·have sr:aS G' (upd (upd G' q1 (.lst [V.int ((lw:Int)+(t:Nat))])) r (.lst (gP ls++[V.int ((lw:Int)+(t:Nat))]))):=(aB Vh).trans (aB hr1);refine⟨_,Zl++[r],rfl,(sg'.trans (cW.of sr)).upd (by simp),?_,?_⟩
       ·rw[ag];unfold iJ;rw[br];rfl
       ·rw[pN,br,br,<-dn];have hcu:∀o,cut (upd (upd (upd G' q1 (.lst [V.int ((lw:Int)+(t:Nat))])) r (.lst (gP ls++[V.int ((lw:Int)+(t:Nat))]))) L o) (L::M)=cut (upd (upd G' q1 (.lst [V.int ((lw:Int)+(t:Nat))])) r (.lst (gP ls++[V.int ((lw:Int)+(t:Nat))]))) (L::M):=λo=>sm (by simp);refine Paired.snoc (Paired.mono (λy ms hy=>?_) Uk) ?_
        ·unfold zR;rw[hcu];exact hy.mono sr
        ·unfold zR;rw[hcu];have trG:Tr (L::M) G':=λm hm=>by
          rcases aA.mp hm with e|e
          ·subst e;exact⟨_,hG'⟩
          ·obtain⟨o,eo⟩:=(tr.mono (Fu.trans (s2.trans s3))) m e;by_cases z:m=L
           ·subst z;exact⟨_,hG'⟩
           ·exact⟨o,sg'.at eo (by simp;exact z)⟩
         rw[cX ((trG.mono (aB Vh)).not hr1),ag];unfold gP;rw[br];refine congrArg (λz=>some (HO.lst (_++[V.int z]))) ?_;show(lw:Int)+(t:Nat)=((lw+t:Nat):Int);omega
     ·rintro σ G' ⟨af6,Zl,rfl,sg',hG',Uk⟩;refine⟨_,_,Zl,rfl,sg',hG',?_⟩;rw[ej,gj,gY,List.flatMap_nil,dE,how];rw[how] at Uk;exact Uk
    ·rintro σ G ⟨v7',v8',ys,rfl,sg,hG,hPy⟩;refine⟨_,rfl,?_⟩;rw[bH (by rw[ck];omega)] at hPy;refine⟨_,_,_,_,_,_,L,ys,rfl,?_,hG,?_⟩
     ·exact s2.trans (aS.cutD K2 (λb o e=>by obtain⟨n,e⟩:=cY e;exact sg.at (s3 _ _ e) n))
     ·rw[et];exact Paired.mono (λy ms hy=>TH _ _ hy) hPy
  ·obtain⟨v3,v4,v5,v6,v7,v8,F,xs,rfl,s2,hF,hP⟩:=p;refine⟨_,rfl,k F H' xs (Fu.trans s2) hF ?_⟩;rw[bH (by omega),epq,<-Xb] at hP;exact hP
def uu(K:ah)(A:Cl):Sp:=λvs H Q _=>∃(a b e:af)(fm:dY)(l:List PR)(q:List Int)(x u:Nat)(M:List af),vs=[.ref a,.ref b,.int (x:Nat),.int (u:Nat),.ref e]/\QZ M H/\gM A H a fm/\iy fm/\H b=some (.lst (pB l))/\gr A fm.columns H l/\(l.map (·.2.who)).Nodup/\
 bD K H e (jN q)/\q.length=fm.columns.length/\∀(D:af)(H':Hp)(xs:List af),H D=none->aS H H'->H' D=some (.lst (iJ xs))->dh (mR A (cut H' M)) xs ((choices (fm.columns.zip (q.map λb=>b==1))).map λls=>ik fm.columns (l.map (·.2)) ls x u)->Q (.ref D) H'
theorem vO{fm:dY}(ok:iy fm)(qb:List Bool):(choices (fm.columns.zip qb)).length<=256:=by
 rw[Xb];have h1:=MW ((fm.columns.zip qb).map λc=>(levels c.1.kind,c.2)) [[]] (λp hp=>by obtain⟨c,hc,rfl⟩:=aq.mp hp;exact⟨ak (by decide) (sd c.1.kind),pX (ok.cols c.1 (pM hc).1)⟩);have h2:((fm.columns.zip qb).map λc=>(levels c.1.kind,c.2)).length<=4:=by rw[aa,eD];have:=ok.len;omega
 have h3:=U0 (show 0<4 by decide) h2;have h4:([[]]:List (List Nat)).length=1:=rfl;rw[h4,U6] at h1;exact ak h1 (ak h3 (by decide))
theorem mT(T:Txt K mg A):Def P w K mg base "releases_looked_at" 6 ["form","rows","k","u","asked"] (uu K A):=by
 refine T.xJ.yo.ok jF (λvs H Q E h=>?_) (λf eC A' outer s H vs Q E hr h=>?_)
 ·obtain⟨a,b,e,fm,l,q,x,u,M,rfl,_⟩:=h;rfl
 ·obtain⟨a,b,e,fm,l,q,kx,ku,M,rfl,tr,F0,ok,hb,hl,nd,he0,hq,k⟩:=h;have Zm:=vO ok (q.map λb=>b==1);refine⟨_,(aF (aX (gU rfl (own:=[("levels",5)]) jF.nd (dC (bC (xb T) hr.mono rfl (aH (pv 0) (aH (pv 4) ao)))) (cM (by kernel_rfl)) (λ_ _ _ _ _=>(bQ (i:=5) jF.nd rfl fo)) (λ_ _ _ _ _=>eK) (λ_ _ _ _ _=>(bC (xQ T) hr.mono rfl (aH (pv 0) (aH (pv 1) (aH (pv 5) (aH (pv 2) (aH (pv 3) ao)))))))))),?_⟩;refine iW ?_;refine fw ?_;refine⟨_,rfl,_,rfl,a,e,fm,q,M,rfl,tr.tr,F0,ok,he0,hq,λF H1 xs s1 hF hP=>⟨F,rfl,⟨_,bD.of hF⟩,?_⟩⟩;have RH:=Paired.len hP;have El:=sP (K:=K) (bD.of hF);have gu:=m6 (K:=K) (bD.of hF);rw[ck,RH] at El gu;refine Xj (n:=(choices (fm.columns.zip (q.map λb=>b==1))).length) (Rel:=λi y H=>∃x,y=.ref x/\∃ls,(choices (fm.columns.zip (q.map λb=>b==1)))[i]? =some ls/\mR A (cut H M) x (ik fm.columns (l.map λp:PR=>p.2) ls kx ku)) (λi y H1 H2 s ⟨x,e,p,hp,h⟩=>⟨x,e,p,hp,h.mono (dJ s)⟩) (ak Zm (by decide)) El gu (λD i xv H' nL R hD hi k' wV y hR=>?_) (λD H' ys hD hs he Vc hys=>?_)
  ·obtain⟨rfl,y⟩:=y;obtain⟨x,hx,rfl⟩:=kh (y _ (bD.of (k' _ _ hF)));obtain⟨ls,Xq,Wv⟩:=Paired.vH hP hx;obtain⟨acc,wV⟩:=wV;have s2:=s1.trans k';refine⟨rfl,_,rfl,_,rfl,_,rfl,_,rfl,_,rfl,a,b,x,fm,l,ls,kx,ku,D::M,rfl,F0.mono s2,ok,s2 _ _ hb,hl.mono s2,nd,?_,?_,?_,λz H4 hz s4 h4=>?_⟩
   ·intro m hm;rcases aA.mp hm with e|e
    ·subst e;exact⟨_,wV,λxs z=>nomatch z⟩
    ·exact(tr.mono s2) m e
   ·have h1:cut H1 M x=some (.lst (gP ls)):=Wv;obtain⟨n1,h1⟩:=cY h1;rw[cX (by simp;exact⟨aQ h1 hD,n1⟩)];exact k' _ _ h1
   ·have h1:=tw (aL Xq);have e:(fm.columns.zip (q.map λb=>b==1)).map (·.1)=fm.columns:=by rw[aaa];rw[aa,hq];exact aJ _
    rw[e] at h1;exact h1
   ·refine hR _ _ s4 ⟨z,rfl,ls,Xq,?_⟩;rw[Wu];exact h4
  ·obtain⟨xs',rfl,h1,h2⟩:=Px (R:=λi x=>∃ls,(choices (fm.columns.zip (q.map λb=>b==1)))[i]? =some ls/\mR A (cut (cut H' [D]) M) x (ik fm.columns (l.map λp:PR=>p.2) ls kx ku)) Vc hys;refine k D H' xs' (s1.free hD) (s1.trans hs) he (wB (by rw[aa];exact h1) λi x z e1 e2=>?_);obtain⟨ls,e3,h3⟩:=h2 i x e1;rw[aU,e3] at e2;cases e2;exact h3.mono (dJ (bU _ _))
structure vP(A:Cl)(H:Hp)(l:List (af×Rl)):Prop where
 at':∀p∈l,mR A H p.1 p.2
 len:l.length<=300
theorem vP.mono{A:Cl}{H H':Hp}{l:List (af×Rl)}(e:aS H H')(h:vP A H l):vP A H' l:=⟨λp hp=>(h.at' p hp).mono e,h.len⟩
theorem vP.sub{A:Cl}{H:Hp}{l m:List (af×Rl)}(h:vP A H l)(s:m.Sublist l):vP A H m:=⟨λp hp=>h.at' p (s.subset hp),ak s.length_le h.len⟩
abbrev N1(l:List (af×Rl)):List V:=l.map λp=>V.ref p.1
def ic(m:Nat)(z:Rl):Bool:=decide (z.left<=m)&&decide (0<z.lk.length)
def Gr(A:Cl):Sp:=λvs H Q _=>∃(a:af)(l:List (af×Rl))(m:Nat),vs=[.ref a,.int (m:Nat)]/\H a=some (.lst (N1 l))/\vP A H l/\
 ∀(D:af)(H':Hp),H D=none->aS H H'->H' D=some (.lst (N1 (l.filter λp=>ic m p.2)))->Q (.ref D) H'
theorem xS(T:Txt K mg A):Def P w K mg base "safe_alone" 1 ["looked_at","m"] (Gr A):=by
 refine T.xJ.Na.ok qE (λvs H Q E h=>?_) (λf eC A' outer s H vs Q E hr h=>?_)
 ·obtain⟨a,l,m,rfl,_⟩:=h;rfl
 ·obtain⟨a,l,m,rfl,ha,hl,k⟩:=h;refine⟨_,(aF (aX (gU rfl (own:=[("release",2)]) qE.nd (dC (pv 0)) (cM (by kernel_rfl)) (λ_ _ _ _ _=>(bQ (i:=2) qE.nd rfl fo)) (λ_ _ _ _ _=>(rU (PW.pt (Hz (cB ip (kg (K:=K) rfl (pv 2) rfl) (pv 1) (cx _)) (CF (cB OK (cD qV (by rfl) T.b.dM cJ (aH (kg (K:=K) rfl (pv 2) rfl) ao)) bx (cx _))))))) (λ_ _ _ _ _=>(pv 2))))),?_⟩;refine iW ?_;refine fw ?_;refine⟨_,rfl,a,rfl,⟨_,bD.of ha⟩,?_⟩;refine lF (enc:=λp:af×Rl=>V.ref p.1) (f:=λp=>V.ref p.1) (p:=λp=>ic m p.2) (bD.of ha) (ak hl.len (by decide)) (λi x H' R S hi k' hR hS=>?_) (λD H' hD hs he=>k D H' hD hs he);obtain⟨dx,ll,ld,z1,z2,z3⟩:=(hl.at' x (aL hi)).mono k';obtain⟨kvs,hk1,hk2⟩:=z3.len;refine⟨rfl,_,rfl,x.1,A.rel,dx,_,_,rfl,z1,T.rel.cl,T.rel.sv,ph,_,rfl,_,_,rfl,rfl,_,rfl,fC (λe1=>?_) (λe1=>?_)⟩
  ·refine⟨_,rfl,x.1,A.rel,dx,_,_,rfl,z1,T.rel.cl,T.rel.wx,nG,ld,kvs,rfl,hk1,_,_,rfl,rfl,_,rfl,fC (λe2=>⟨_,rfl,hR ?_ _ (aS.refl _)⟩) (λe2=>hS ?_ _ (aS.refl _))⟩
   ·unfold ic;rw[decide_eq_true (by omega),decide_eq_true (by omega)];rfl
   ·unfold ic;rw[decide_eq_false (show¬0<x.2.lk.length by omega),iI]
  ·refine kK (hS ?_ _ (aS.refl _));unfold ic;rw[decide_eq_false (by omega),iG]
def yM(A:Cl):Sp:=λvs H Q _=>∃(a b c:af)(cs:List bw)(o:List (af×Rl))(m:Nat)(l:List PR)(gx:List af)(zs:List Rl),vs=[.ref a,.int (m:Nat),.ref b,.ref c]/\H a=some (.lst (N1 o))/\vP A H o/\H b=some (.lst (pB l))/\gr A cs H l/\
 H c=some (.lst (iJ gx))/\gN A H gx zs/\∀(D:af)(H':Hp),H D=none->aS H H'->H' D=some (.lst (N1 ((o.filter λp=>ic m p.2).filter λp=>lP (zs++[p.2]) (l.map (·.2)))))->Q (.ref D) H'
theorem pC(T:Txt K mg A):Def P w K mg base "that_may_go_out" 6 ["looked_at","m","rows","releases"] (yM A):=by
 refine T.xJ.B9.ok jq (λvs H Q E h=>?_) (λf eC A' outer s H vs Q E hr h=>?_)
 ·obtain⟨a,b,c,cs,o,m,l,gx,zs,rfl,_⟩:=h;rfl
 ·obtain⟨a,b,c,cs,o,m,l,gx,zs,rfl,ha,ho,hb,hl,hc,hz,k⟩:=h;refine⟨_,(aw (bZ (i:=4) jq.nd rfl fo (bC (Gq T) hr.mono rfl (aH (pv 2) (aH (pv 3) ao)))) (aF (aX (gU rfl (own:=[("release",5)]) jq.nd (dC (bC (xS T) hr.mono rfl (aH (pv 0) (aH (pv 1) ao)))) (cM (by kernel_rfl)) (λ_ _ _ _ _=>(bQ (i:=5) jq.nd rfl fo)) (λ_ _ _ _ _=>(rU (fQ (bC (Cm T) hr.mono rfl (aH (pv 4) (aH (pv 5) ao)))))) (λ_ _ _ _ _=>(pv 5)))))),?_⟩;refine aZ ?_;refine⟨_,rfl,_,rfl,b,c,cs,l,gx,zs,rfl,hb,hl,hc,hz,λX1 H1 xs hX1 s1 e1 hx=>?_⟩;refine b8 ?_;refine iW ?_;refine fw ?_;refine⟨_,rfl,_,rfl,a,o,m,rfl,s1 _ _ ha,ho.mono s1,λD2 H2 BR s2 e2=>⟨D2,rfl,⟨_,bD.of e2⟩,?_⟩⟩;have IZ:vP A H2 (o.filter λp=>ic m p.2):=(ho.mono (s1.trans s2)).sub fk;refine lF (enc:=λp:af×Rl=>V.ref p.1) (f:=λp=>V.ref p.1) (p:=λp=>lP (zs++[p.2]) (l.map (·.2))) (bD.of e2) (ak IZ.len (by decide)) (λi x H' R S hi k' hR hS=>?_) (λD H' hD hs he=>k D H' (s1.free (s2.free hD)) ((s1.trans s2).trans hs) he);have s3:=(s1.trans s2).trans k';refine⟨rfl,_,rfl,_,rfl,X1,x.1,cs,l,xs,zs,x.2,rfl,k' _ _ (s2 _ _ e1),Paired.mono (λ_ _ h=>h.mono (s2.trans k')) hx,hl.mono s3,(IZ.at' x (aL hi)).mono k',λH4 s4=>⟨_,rfl,DD (λe=>⟨_,rfl,hR e _ s4⟩) (λe=>hS e _ s4)⟩⟩
end
end Bp
namespace Bp
open PySem PySem.Spec PyProof.Rows L2 Bm
theorem rG(xs:List V)(k:Nat):uK xs (some (k:Int)) none=xs.drop k:=by
 unfold uK;rw[HT.CJ,HT.JR];by_cases h:k<=xs.length
 ·rw[Nat.min_eq_left h];exact bH (by rw[fc];exact aJ _)
 ·rw[Nat.min_eq_right (by omega),fb (aJ _),fb (by omega)];simp
theorem LA(s:List Nat)(k:Nat):(gP s).drop k=gP (s.drop k):=by unfold gP;rw[ux]
theorem EE(s:List aG)(k:Nat):(eO s).drop k=eO (s.drop k):=by unfold eO;rw[ux]
section
variable{P:bo}{w:bM}{K:ah}{mg:Str->Option aj}{base:cu}{A:Cl}
def Jc(K:ah):Sp:=λvs H Q _=>∃(a:af)(l:List Nat),vs=[.ref a]/\bD K H a (gP l)/\l.length<=100/\(∀x∈l,0<x)/\∀H',aS H H'->Q (.bl (oA l)) H'
theorem zS{l:List Nat}{i a b:Nat}(h1:l[i]? =some a)(h2:(l.drop 1)[i]? =some b):(l.zip l.tail)[i]? =some (a,b):=c8.mpr ⟨h1,by rw[<-OB];exact h2⟩
theorem Jd(T:Txt K mg A):Def P w K mg base "are_steps" 1 ["steps"] (Jc K):=by
 refine T.Xh.QM.ok sJ (λvs H Q E h=>?_) (λf eC A' outer s H vs Q E hr h=>?_)
 ·obtain⟨a,l,rfl,_⟩:=h;rfl
 ·obtain⟨a,l,rfl,ha,hl,af7,k⟩:=h;have eT:∀bb H',oA l=bb->aS H H'->Q (.bl bb) H':=λbb H' h2 h3=>by rw[<-h2];exact k H' h3
  refine⟨_,(aw (lA dz rfl (AI (by rfl) T.b.D8 (aH (pv 0) (aH (nq pQ (pv 0) (m8 bx) we) ao))) (CY (n:=2) rfl (fR (bQ (i:=1) sJ.nd rfl fo) (fR (bQ (i:=2) sJ.nd rfl fo) oz))) (aF (dj (PW.pt (qP (cB ip (pv 2) (pv 1) (cx _)) (nZ (cB C0 (fh Yb (pv 2) (pv 1)) bx (cx _))))) (aF (aX jQ)) bO))) (aF (aX jQ))),?_⟩;refine⟨_,rfl,_,rfl,_,rfl,a,_,rfl,ha,λD hD=>?_⟩;rw[show uK (gP l) (some 1) none=gP (l.drop 1) from by rw[<-LA];exact rG _ 1];have s0:aS H (upd H D (.lst (gP (l.drop 1)))):=aB hD;have hlz:(l.zip l.tail).length=(l.drop 1).length:=by rw[eD,OB,aab];omega
  have Y4:(l.drop 1).length<=l.length:=by rw[fc];omega
  refine⟨a,D,_,_,rfl,s0.seq ha,bD.of ag,IB (n:=(l.drop 1).length) (λi σ H'=>(∃v1 v2:Option V,σ=[some (.ref a),v1,v2])/\aS (upd H D (.lst (gP (l.drop 1)))) H'/\∀p∈(l.zip l.tail).take i,(decide (p.1<p.2)&&p.2%p.1==0)=true) ⟨⟨_,_,rfl⟩,aS.refl _,λp hp=>by simp at hp⟩ (λi σ H' hi pp=>Ny (s0.seq ha) (bD.of ag) (by rw[eh];exact Y4) (by rw[eh];exact aJ _) i H' hi pp.2.1) (λσ H' pp=>Em (s0.seq ha) (bD.of ag) (.inr (by rw[eh];exact aJ _)) H' pp.2.1) ?_ ?_⟩
  ·rintro i xv σ H' nL hi ⟨⟨v1,v2,rfl⟩,s1,kL⟩ y;obtain⟨T1,x,y,rfl,Hf,rfl,hx,hy⟩:=y;obtain⟨m,hm,rfl⟩:=k8 (hx _ ((s0.trans s1).seq ha));obtain⟨n,hn,rfl⟩:=k8 (hy _ (bD.of (s1 _ _ ag)));have hz:=zS hm hn;have hmp:=af7 m (aL hm);have s2:=(s0.trans s1).trans (aB (o:=.tup [.int ((m:Nat):Int),.int ((n:Nat):Int)]) Hf);have bad:(decide (m<n)&&n%m==0)=false->oA l=false:=λe=>by unfold oA;rw[XG];exact⟨(m,n),aL hz,by dsimp only;rw[e];exact aY⟩
   refine⟨T1,_,rfl,nj.of ag,rfl,_,_,rfl,_,_,rfl,rfl,?_⟩;refine⟨_,rfl,_,rfl,_,_,rfl,rfl,_,rfl,fC (λe1=>kC ?_) (λe1=>?_)⟩
   ·exact eT _ _ (bad (by rw[decide_eq_false (show¬m<n by omega),iG])) s2
   ·refine⟨_,rfl,_,rfl,_,_,rfl,rfl,by omega,rfl,_,rfl,vc (λe2=>?_) (λe2=>?_)⟩
    ·have:¬n%m=0:=λq=>e2 (by refine congrArg V.int ?_;omega);exact eT _ _ (bad (by rw[show(n%m==0)=false by simpa using this,iI])) s2
    ·have e3:n%m=0:=by injection e2 with e2;omega
     refine cN ?_;refine⟨⟨_,_,rfl⟩,s1.trans (aB Hf),λp hp=>?_⟩;rw[dq,hz] at hp;rcases aD.mp hp with h|h
     ·exact kL p h
     ·have:p=(m,n):=by simpa using h
      subst this;rw[decide_eq_true (show m<n by omega),e3];rfl
  ·rintro σ H' ⟨⟨v1,v2,rfl⟩,s1,kL⟩;refine eT _ _ ?_ (s0.trans s1);unfold oA;rw[b0];intro p hp;exact kL p (by rw[bH (by omega)];exact hp)
def Gs(K:ah):Sp:=λvs H Q _=>∃(a:af)(l:List Nat),vs=[.ref a]/\bD K H a (gP l)/\l.length<=100/\∀H',aS H H'->Q (.bl (l6 l)) H'
theorem Gu(T:Txt K mg A):Def P w K mg base "never_fall" 1 ["costs"] (Gs K):=by
 refine T.Xh.Nb.ok ni (λvs H Q E h=>?_) (λf eC A' outer s H vs Q E hr h=>?_)
 ·obtain⟨a,l,rfl,_⟩:=h;rfl
 ·obtain⟨a,l,rfl,ha,hl,k⟩:=h;refine⟨_,(aF (aX (cD (uL rfl) (by rfl) T.b.BM vb (aH (gU rfl (own:=[("before",1),("cost",2)]) ni.nd (AI (by rfl) T.b.D8 (aH (pv 0) (aH (nq pQ (pv 0) (m8 bx) we) ao))) (cM (by kernel_rfl)) (λ_ _ _ _ _=>(zJ (K:=K) rfl (n:=2) rfl (fR (bQ (i:=1) ni.nd rfl fo) (fR (bQ (i:=2) ni.nd rfl fo) oz)))) (λ_ _ _ _ _=>eK) (λ_ _ _ _ _=>(iT ip (pv 1) (pv 2) (cx _)))) ao)))),?_⟩;refine iW ?_;refine kf ?_;refine fw ?_;refine⟨_,rfl,_,rfl,_,rfl,a,_,rfl,ha,λD hD=>?_⟩;rw[show uK (gP l) (some 1) none=gP (l.drop 1) from by rw[<-LA];exact rG _ 1];have s0:aS H (upd H D (.lst (gP (l.drop 1)))):=aB hD;have hlz:(l.zip l.tail).length=(l.drop 1).length:=by rw[eD,OB,aab];omega
  have Y4:(l.drop 1).length<=l.length:=by rw[fc];omega
  refine⟨a,D,_,_,rfl,s0.seq ha,bD.of ag,?_⟩;refine En (n:=(l.drop 1).length) (f:=λi=>.bl ((((l.zip l.tail)[i]?).map λp=>decide (p.1<=p.2)).getD false)) (ak (ak Y4 hl) (by decide)) (Ny (s0.seq ha) (bD.of ag) (by rw[eh];exact Y4) (by rw[eh];exact aJ _))
   (Em (s0.seq ha) (bD.of ag) (.inr (by rw[eh];exact aJ _))) (λi xv H' nL R hi s1 y hR=>?_) (λD2 H2 BR Fl Wl=>?_)
  ·obtain⟨T1,x,y,rfl,Hf,rfl,hx,hy⟩:=y;obtain⟨m,hm,rfl⟩:=k8 (hx _ ((s0.trans s1).seq ha));obtain⟨n,hn,rfl⟩:=k8 (hy _ (bD.of (s1 _ _ ag)));have hz:=zS hm hn;have:=hR _ (aB (o:=.tup [.int ((m:Nat):Int),.int ((n:Nat):Int)]) Hf);rw[hz] at this;refine⟨T1,_,rfl,nj.of ag,rfl,_,_,rfl,_,_,rfl,rfl,rfl,_,rfl,_,rfl,_,_,rfl,rfl,?_⟩;have e:decide ((m:Int)<=(n:Int))=decide (m<=n):=by
    by_cases q:m<=n
    ·rw[decide_eq_true q,decide_eq_true (by omega)]
    ·rw[decide_eq_false q,decide_eq_false (by omega)]
   show R (V.bl (decide ((m:Int)<=(n:Int)))) _;rw[e];exact this
  ·refine⟨D2,(l.zip l.tail).map λp=>decide (p.1<=p.2),rfl,bD.of ?_,?_⟩
   ·rw[Wl,<-hlz,jC (l.zip l.tail) _ (λp=>V.bl (decide (p.1<=p.2))) (λi x hx=>by rw[hx];rfl),aP];rfl
   ·have e:((l.zip l.tail).map λp=>decide (p.1<=p.2)).all id=l6 l:=by unfold l6;rw[qK];rfl
    rw[e];exact k _ (s0.trans Fl)
end
end Bp
namespace Bp
open PySem PySem.Spec PyProof.Rows L2 Bm
open Vbslai (settled)
def Cn(f:dY):V:=if f.secret=[] then .gT else .str (sN f.secret)
def Ul(A:Cl)(H:Hp)(a:af)(c:bw)(N W X:List af):Prop:=match c.kind with
 |.numbers s=>∃dx l m,H a=some (.ins A.num dx (oq (.str (sN c.name)) (.ref l) (.ref m)))/\cut H W l=some (.lst (gP s))/\cut H W m=some (.lst [])
 |.words up=>∃dx l m CS,l∈N/\¬l∈X/\H a=some (.ins A.eW dx (jX (.str (sN c.name)) (.ref l) (.int (longest (fY up):Nat)) (.ref m)))/\H l=some (.lst (iJ CS))/\dh (qp (cut H W)) CS (fY up)/\cut H W m=some (.lst [])
def Je(A:Cl)(H:Hp)(a:af)(c:bw)(N W X:List af):Prop:=¬a∈X/\Ul A H a c N W X
structure rH(A:Cl)(M:List af)(H0 H:Hp)(r:af)(f:dY)(N:List af)(dx lc lv:af)(as:List af)(un:V):Prop where
 same:aS H0 H
 new:∀b∈N,H0 b=none
 held:Tr N H
 rN:r∈N
 lN:lc∈N
 ins:H r=some (.ins A.eM dx (gG (.ref lc) un (Cn f) (.ref lv)))
 cols:H lc=some (.lst (iJ as))
 vals:cut H (N++M) lv=some (.lst (eO f.values))
 st:(settled f=true/\un=.gT/\dh (iL A (cut H (N++M))) as f.columns)∨
  (∃cs c JE a,Open f cs c/\as=JE++[a]/\un=.ref a/\a∈N/\dh (iL A (cut H (N++M))) JE cs/\Je A H a c N (N++M) [r,lc])
def JF(A:Cl)(M:List af)(H0 H:Hp)(r:af)(f:dY):Prop:=∃N dx lc lv as un,rH A M H0 H r f N dx lc lv as un
theorem wC{H H':Hp}{W X:List af}(h:∀b o,H b=some o->¬b∈W->H' b=some o)(n:∀b∈X,H b=none∨b∈W):aS (cut H W) (cut H' X):=λb o e=>by
 obtain⟨nb,e⟩:=cY e;have:¬b∈X:=λq=>by
  rcases n b q with z|z
  ·rw[e] at z;cases z
  ·exact nb z
 rw[cX this];exact h b o e nb
theorem Je.keep{A:Cl}{H H':Hp}{a:af}{c:bw}{N W X:List af}(s:∀b o,H b=some o->¬b∈X->H' b=some o)(hX:∀b∈X,b∈W)(h:Je A H a c N W X):Je A H' a c N W X:=by
 obtain⟨h0,h⟩:=h;refine⟨h0,?_⟩;have sc:aS (cut H W) (cut H' W):=wC (λb o e n=>s b o e λq=>n (hX b q)) (λb hb=>.inr hb);unfold Ul at h⊢
 cases q:c.kind with
 |numbers t=>rw[q] at h;obtain⟨dx,l,m,h1,h2,h3⟩:=h;exact⟨dx,l,m,s _ _ h1 h0,sc _ _ h2,sc _ _ h3⟩
 |words up=>rw[q] at h;obtain⟨dx,l,m,CS,hl,hx,h1,h2,h3,h4⟩:=h;exact⟨dx,l,m,CS,hl,hx,s _ _ h1 h0,s _ _ h2 hx,Paired.mono (λ_ _ z=>z.mono sc) h3,sc _ _ h4⟩
theorem Je.mono{A:Cl}{H H':Hp}{a:af}{c:bw}{N W X:List af}(s:aS H H')(h:Je A H a c N W X):Je A H' a c N W X:=by
 obtain⟨h0,h⟩:=h;refine⟨h0,?_⟩;unfold Ul at h⊢
 cases q:c.kind with
 |numbers t=>rw[q] at h;obtain⟨dx,l,m,h1,h2,h3⟩:=h;exact⟨dx,l,m,s _ _ h1,dJ s _ _ h2,dJ s _ _ h3⟩
 |words up=>rw[q] at h;obtain⟨dx,l,m,CS,hl,hx,h1,h2,h3,h4⟩:=h;exact⟨dx,l,m,CS,hl,hx,s _ _ h1,s _ _ h2,Paired.mono (λ_ _ z=>z.mono (dJ s)) h3,dJ s _ _ h4⟩
theorem rH.mono{A:Cl}{M:List af}{H0 H H':Hp}{r:af}{f:dY}{N:List af}{dx lc lv:af}{as:List af}{un:V}(s:aS H H')(h:rH A M H0 H r f N dx lc lv as un):rH A M H0 H' r f N dx lc lv as un:=by
 refine⟨h.same.trans s,h.new,h.held.mono s,h.rN,h.lN,s _ _ h.ins,s _ _ h.cols,dJ s _ _ h.vals,?_⟩;rcases h.st with⟨a,b,c⟩|⟨cs,c,JE,a,h1,h2,h3,h4,h5,h6⟩
 ·exact .inl ⟨a,b,Paired.mono (λ_ _ z=>z.mono (dJ s)) c⟩
 ·exact .inr ⟨cs,c,JE,a,h1,h2,h3,h4,Paired.mono (λ_ _ z=>z.mono (dJ s)) h5,h6.mono s⟩
theorem JF.mono{A:Cl}{M:List af}{H0 H H':Hp}{r:af}{f:dY}(s:aS H H')(h:JF A M H0 H r f):JF A M H0 H' r f:=let⟨N,dx,lc,lv,as,un,q⟩:=h;⟨N,dx,lc,lv,as,un,q.mono s⟩
theorem mw{H0 H:Hp}{a:af}{o:HO}(s:aS H0 H)(n:H0 a=none):aS H0 (upd H a o):=λb u e=>by rw[ax (aQ e n)];exact s _ _ e
theorem iL.title{A:Cl}{H:Hp}{a:af}{c:bw}(h:iL A H a c):∃C dx fs,H a=some (.ins C dx fs)/\(C=A.num∨C=A.eW)/\fs.lookup ("title":Str)=some (.str (sN c.name)):=by
 cases ek:c.kind with
 |numbers s=>obtain⟨dx,l,m,h1,_⟩:=h.num ek;exact⟨_,dx,_,h1,.inl rfl,vt⟩
 |words up=>obtain⟨dx,l,m,as,h1,_⟩:=h.eW ek;exact⟨_,dx,_,h1,.inr rfl,vw⟩
theorem Je.num{A:Cl}{H:Hp}{a:af}{c:bw}{N W X:List af}{s:List Nat}(h:Je A H a c N W X)(k:c.kind=.numbers s):∃dx l m,H a=some (.ins A.num dx (oq (.str (sN c.name)) (.ref l) (.ref m)))/\cut H W l=some (.lst (gP s))/\cut H W m=some (.lst []):=by have:=h.2;unfold Ul at this;rw[k] at this;exact this
theorem Je.eW{A:Cl}{H:Hp}{a:af}{c:bw}{N W X:List af}{up:Up}(h:Je A H a c N W X)(k:c.kind=.words up):∃dx l m CS,l∈N/\¬l∈X/\H a=some (.ins A.eW dx (jX (.str (sN c.name)) (.ref l) (.int (longest (fY up):Nat)) (.ref m)))/\H l=some (.lst (iJ CS))/\dh (qp (cut H W)) CS (fY up)/\cut H W m=some (.lst []):=by have:=h.2;unfold Ul at this;rw[k] at this;exact this
theorem Je.title{A:Cl}{H:Hp}{a:af}{c:bw}{N W X:List af}(h:Je A H a c N W X):∃C dx fs,H a=some (.ins C dx fs)/\(C=A.num∨C=A.eW)/\fs.lookup ("title":Str)=some (.str (sN c.name)):=by
 cases q:c.kind with
 |numbers t=>obtain⟨dx,l,m,h1,_⟩:=h.num q;exact⟨_,dx,_,h1,.inl rfl,vt⟩
 |words up=>obtain⟨dx,l,m,CS,_,_,h1,_⟩:=h.eW q;exact⟨_,dx,_,h1,.inr rfl,vw⟩
theorem rH.Um{A:Cl}{M:List af}{H0 H:Hp}{r:af}{f:dY}{N:List af}{dx lc lv:af}{as:List af}{un:V}(h:rH A M H0 H r f N dx lc lv as un):
  dh (λa(c:bw)=>∃C dx fs,H a=some (.ins C dx fs)/\(C=A.num∨C=A.eW)/\fs.lookup ("title":Str)=some (.str (sN c.name))) as f.columns:=by
 have m:∀a c,iL A (cut H (N++M)) a c->∃C dx fs,H a=some (.ins C dx fs)/\(C=A.num∨C=A.eW)/\fs.lookup ("title":Str)=some (.str (sN c.name)):=λa c z=>(z.mono (bU _ _)).title;rcases h.st with⟨a,b,c⟩|⟨cs,c,JE,a,h1,h2,h3,h4,h5,h6⟩
 ·exact Paired.mono m c
 ·rw[h1.1,h2];exact Paired.snoc (Paired.mono m h5) h6.title
section
variable{P:bo}{w:bM}{K:ah}{mg:Str->Option aj}{base:cu}{A:Cl}
theorem LB(T:Txt K mg A){C:af}(h:C=A.num∨C=A.eW):C4 K C/\dR K C "title":=by
 rcases h with rfl|rfl
 ·exact⟨T.num.cl,T.num.sx⟩
 ·exact⟨T.eW.cl,T.eW.sx⟩
def LC(A:Cl):Sp:=λvs H Q _=>∃(p dx:af),vs=[.ref p]/\H p=some (.ins A.eM dx [])/\
 ∀(lc lv:af)(H':Hp),H lc=none->H lv=none->lc≠lv->H' p=some (.ins A.eM dx (gG (.ref lc) .gT .gT (.ref lv)))->H' lc=some (.lst [])->H' lv=some (.lst [])->(∀b o,H b=some o->b≠p->H' b=some o)->Q .gT H'
theorem LD(T:Txt K mg A):DA P w K mg base "FormReader" A.eM 1 ["self"] (LC A):=by
 refine T.eM.init.ok KL (λvs H Q E h=>?_) (λf eC A' outer s H vs Q E hr h=>?_)
 ·obtain⟨p,dx,rfl,_⟩:=h;rfl
 ·obtain⟨p,dx,rfl,hp,k⟩:=h;refine⟨_,(aw (dZ (pv 0) (bV ao) rfl) (aw (dZ (pv 0) lu rfl) (aw (dZ (pv 0) lu rfl) (aF (dZ (pv 0) (bV ao) rfl))))),?_⟩;refine aZ ?_;refine⟨bB _,λlc hlc=>?_⟩;have p1:p≠lc:=aQ hp hlc;refine⟨_,rfl,p,A.eM,dx,[],rfl,by rw[ax p1];exact hp,T.eM.cl,T.eM.fg,by decide,?_⟩;refine⟨_,rfl,p,A.eM,dx,_,rfl,ag,T.eM.cl,T.eM.lQ,K6,_,rfl,p,A.eM,dx,_,rfl,ag,T.eM.cl,T.eM.gw,put2,?_⟩;refine⟨bB _,λlv yJ=>?_⟩;have p2:p≠lv:=aQ ag yJ;have p3:lc≠lv:=λe=>by
   subst e;rw[ax p1.symm,ax p1.symm,ax p1.symm,ag] at yJ;cases yJ
  refine⟨_,rfl,p,A.eM,dx,_,rfl,by rw[ax p2];exact ag,T.eM.cl,T.eM.d4,put3,?_⟩;have acG:H lv=none:=by rw[ax p2.symm,ax p2.symm,ax p2.symm,ax p3.symm] at yJ;exact yJ
  refine k lc lv _ hlc acG p3 ?_ ?_ ?_ λb o e hb=>?_
  ·rw[ag,Nt]
  ·rw[ax p1.symm,ax p3,ax p1.symm,ax p1.symm,ax p1.symm,ag]
  ·rw[ax p2.symm,ag]
  ·rw[ax hb,ax (aQ e acG),ax hb,ax hb,ax hb,ax (aQ e hlc)];exact e
def yN(A:Cl):Sp:=λvs H Q _=>∃(r:af)(M:List af)(H0:Hp)(f:dY),vs=[.ref r]/\JF A M H0 H r f/\∀H',aS H H'->Q (.bl (!f.columns.isEmpty&&(settled f&&decide (f.secret≠[])))) H'
theorem LF(f:dY):decide (Cn f=.gT)=decide (f.secret=[]):=by
 unfold Cn;by_cases h:f.secret=[]
 ·rw[if_pos h,decide_eq_true h];rfl
 ·rw[if_neg h,decide_eq_false h];rfl
theorem rH.un{A:Cl}{M:List af}{H0 H:Hp}{r:af}{f:dY}{N:List af}{dx lc lv:af}{as:List af}{un:V}(h:rH A M H0 H r f N dx lc lv as un):decide (un=.gT)=settled f:=by
 rcases h.st with⟨a,b,c⟩|⟨cs,c,JE,a,h1,h2,h3,h4,h5,h6⟩
 ·rw[a,b];rfl
 ·rw[hU h1,h3];rfl
theorem rH.len{A:Cl}{M:List af}{H0 H:Hp}{r:af}{f:dY}{N:List af}{dx lc lv:af}{as:List af}{un:V}(h:rH A M H0 H r f N dx lc lv as un):as.length=f.columns.length:=Paired.len h.Um
theorem yO(T:Txt K mg A):iR P w K mg base A.eM "is_complete" 1 ["self"] (yN A):=by
 refine T.eM.Ib.ok yA (λvs H Q E h=>?_) (λf eC A' outer s H vs Q E hr h=>?_)
 ·obtain⟨r,M,H0,f,rfl,_⟩:=h;rfl
 ·obtain⟨r,M,H0,fm,rfl,⟨N,dx,lc,lv,as,un,R⟩,k⟩:=h;have eT:∀bb H',(!fm.columns.isEmpty&&(settled fm&&decide (fm.secret≠[])))=bb->aS H H'->Q (.bl bb) H':=λbb H' h2 h3=>by rw[<-h2];exact k H' h3
  have e0:(!decide (iJ as=[]))=!fm.columns.isEmpty:=by
   have:=R.len
   cases as with
   |nil=>cases e:fm.columns with
    |nil=>rfl
    |cons c cs=>rw[e] at this;simp at this
   |cons a t=>cases e:fm.columns with
    |nil=>rw[e] at this;simp at this
    |cons c cs=>rfl
  refine⟨_,(aF (aX (lY (iT (zI hr.AD) (bj (pv 0) rfl) (bV ao) (cx _)) (lY (iT C2 (bj (pv 0) rfl) lu (cx _)) (oS (iT CG (bj (pv 0) rfl) lu (cx _))))))),?_⟩;refine⟨_,rfl,r,A.eM,dx,_,_,rfl,R.ins,T.eM.cl,T.eM.fg,kN,bB _,λq hq=>?_⟩;have s1:aS H (upd H q (.lst [])):=aB hq;refine⟨lc,q,_,rfl,rfl,bD.of (s1 _ _ R.cols),bD.of ag,_,rfl,?_⟩;rw[e0];refine DD (λe1=>?_) (λe1=>eT _ _ (by rw[e1];rfl) s1);refine⟨_,rfl,r,A.eM,dx,_,_,rfl,s1 _ _ R.ins,T.eM.cl,T.eM.lQ,kO,rfl,_,rfl,?_⟩;rw[R.un];refine DD (λe2=>?_) (λe2=>eT _ _ (by rw[e1,e2];rfl) s1);refine⟨_,rfl,r,A.eM,dx,_,_,rfl,s1 _ _ R.ins,T.eM.cl,T.eM.gw,jK,rfl,?_⟩;refine eT _ _ ?_ s1;rw[LF,e1,e2];by_cases h:fm.secret=[]
  ·rw[decide_eq_true h,decide_eq_false (λz=>z h)];rfl
  ·rw[decide_eq_false h,decide_eq_true h];rfl
def A9(A:Cl):Sp:=λvs H Q _=>∃(r:af)(M:List af)(H0:Hp)(f:dY),vs=[.ref r]/\Tr M H0/\JF A M H0 H r f/\settled f=true/\f.secret≠[]/\∀x H',H0 x=none->aS H H'->gM A (cut H' M) x f->Q (.ref x) H'
theorem Ba(T:Txt K mg A):iR P w K mg base A.eM "made_form" 3 ["self"] (A9 A):=by
 refine T.eM.M0.ok AY (λvs H Q E h=>?_) (λf eC A' outer s H vs Q E hr h=>?_)
 ·obtain⟨r,M,H0,f,rfl,_⟩:=h;rfl
 ·obtain⟨r,M,H0,fm,rfl,tr,⟨N,dx,lc,lv,as,un,R⟩,gu,af8,k⟩:=h;refine⟨_,(aF (aX (nu (Li T) hr.mono rfl (aH (bj (pv 0) rfl) (aH (bj (pv 0) rfl) (aH (bj (pv 0) rfl) ao)))))),?_⟩;refine⟨_,rfl,r,A.eM,dx,_,_,rfl,R.ins,T.eM.cl,T.eM.fg,kN,_,rfl,r,A.eM,dx,_,_,rfl,R.ins,T.eM.cl,T.eM.gw,jK,_,rfl,r,A.eM,dx,_,_,rfl,R.ins,T.eM.cl,T.eM.d4,wM,?_⟩;intro x RF nx nd ne;refine⟨x,RF,_,_,_,rfl,ag,λH4 e4 k4=>⟨rfl,?_⟩⟩;have s4:aS H H4:=aS.made nx nd k4;have sub:aS (cut H (N++M)) (cut H4 M):=wC (λb o e _=>s4 _ _ e) (λb hb=>.inr (aD.mpr (.inr hb)));have Vi:dh (iL A (cut H (N++M))) as fm.columns:=by
   rcases R.st with⟨_,_,c⟩|⟨cs,c,JE,a,h1,_⟩
   ·exact c
   ·rw[hU h1] at gu;cases gu
  refine k x H4 (R.same.free nx) s4 ⟨RF,lc,lv,as,?_,?_,Paired.mono (λ_ _ z=>z.mono sub) Vi,sub _ _ R.vals⟩
  ·rw[qr tr (R.same.free nx) e4];unfold Cn;rw[if_neg af8]
  ·exact qr tr (R.new lc R.lN) (s4 _ _ R.cols)
def yP(A:Cl):Sp:=λvs H Q _=>∃(r:af)(M:List af)(H0:Hp)(f:dY)(n:aG),vs=[.ref r,.str (sN n)]/\JF A M H0 H r f/\f.columns.length<=100/\n.length<=100000/\∀H',aS H H'->Q (.bl (newName f n)) H'
theorem Zn(n:aG)(ls:List aG):inV (.str (sN n)) (eO ls)=ls.contains n:=by
 unfold inV eO;rw[qJ,uv];congr 1;funext x;show OM (.str (sN x)) (.str (sN n))=(n==x);show(sN x==sN n)=(n==x);by_cases h:n=x
 ·subst h;simp
 ·rw[show(n==x)=false by simpa using h];have:¬sN x=sN n:=λq=>h (vG q).symm;simpa using this
theorem Uo(l:List aG):(eO l).all pR=true:=by rw[b0];intro x hx;unfold eO at hx;obtain⟨n,_,rfl⟩:=aq.mp hx;rfl
theorem pD(T:Txt K mg A):iR P w K mg base A.eM "is_new_name" 2 ["self","word"] (yP A):=by
 refine T.eM.Ic.ok lC (λvs H Q E h=>?_) (λf eC A' outer s H vs Q E hr h=>?_)
 ·obtain⟨r,M,H0,f,n,rfl,_⟩:=h;rfl
 ·obtain⟨r,M,H0,fm,n,rfl,⟨N,dx,lc,lv,as,un,R⟩,uB,hn,k⟩:=h;have eT:∀bb H',newName fm n=bb->aS H H'->Q (.bl bb) H':=λbb H' h2 h3=>by rw[<-h2];exact k H' h3
  refine⟨_,(aw (dj (PW.pt (qP (gB (fQ (bC (yE T) hr.mono rfl (aH (pv 1) ao)))) (nZ (cB ji (pv 1) (bj (pv 0) rfl) (cx _))))) (aF (aX jQ)) bO) (aF (aX (iT HH (pv 1) (gU rfl (own:=[("column",2)]) lC.nd (dC (bj (pv 0) rfl)) (cM (by kernel_rfl)) (λ_ _ _ _ _=>(bQ (i:=2) lC.nd rfl fo)) (λ_ _ _ _ _=>eK) (λ_ _ _ _ _=>(kg (K:=K) rfl (pv 2) rfl))) rfl)))),?_⟩;refine⟨_,rfl,n,rfl,ak hn (by decide),λH1 s1=>⟨_,rfl,km (λe1=>kC ?_) (λe1=>?_)⟩⟩
  ·exact eT _ _ (by unfold newName;rw[e1];rfl) s1
  ·have kJ:n≠[]:=AL e1;refine⟨_,rfl,_,rfl,r,A.eM,dx,_,_,rfl,s1 _ _ R.ins,T.eM.cl,T.eM.gw,jK,?_,?_⟩
   ·unfold Cn;split<;>rfl
   ·have e2:decide (V.str (sN n)=Cn fm)=decide (n=fm.secret):=by
     unfold Cn;by_cases q:fm.secret=[]
     ·rw[if_pos q,q,decide_eq_false kJ];rfl
     ·rw[if_neg q];by_cases q2:n=fm.secret
      ·rw[decide_eq_true q2,q2];simp
      ·rw[decide_eq_false q2];refine decide_eq_false λz=>q2 ?_;injection z with z
       exact vG z
    rw[e2];refine⟨_,rfl,fC (λe3=>?_) (λe3=>?_)⟩
    ·exact eT _ _ (by unfold newName;rw[e1,decide_eq_false (λz=>z e3)];rfl) s1
    ·refine cN ?_;refine iW ?_;refine⟨_,rfl,?_⟩;refine fw ?_;refine⟨_,rfl,r,A.eM,dx,_,_,rfl,s1 _ _ R.ins,T.eM.cl,T.eM.fg,kN,lc,rfl,⟨_,bD.of (s1 _ _ R.cols)⟩,?_⟩;obtain⟨l,e4,e5,hl⟩:=Paired.unzip R.Um;have Pp:l.length<=100:=by rw[e5,aa] at uB;exact uB
     have Xr:=s1 _ _ R.cols;rw[e4,zN] at Xr;refine jL (enc:=λp:af×bw=>V.ref p.1) (f:=λp=>.str (sN p.2.name)) (bD.of Xr) (ak Pp (by decide)) (λi x H' RR hi k' Qp=>?_) (λD H' hD hs he=>?_)
     ·obtain⟨C,RF,fs,g1,g2,g3⟩:=hl x (aL hi);obtain⟨c1,c2⟩:=LB T g2;exact⟨rfl,_,rfl,x.1,C,RF,fs,_,rfl,k' _ _ (s1 _ _ g1),c1,c2,g3,Qp _ (aS.refl _)⟩
     ·have e6:(l.map λp=>V.str (sN p.2.name))=eO (fm.columns.map (·.name)):=by rw[e5];unfold eO;rw[aP,aP];rfl
      rw[e6] at he;refine⟨D,_,rfl,.inl (bD.of he),rfl,Uo _,?_⟩;refine eT _ _ ?_ (s1.trans hs);rw[Zn];unfold newName;rw[e1,decide_eq_true e3];rfl
end
end Bp
namespace Bp
open PySem PySem.Spec PyProof.Rows L2 Bm
open Vbslai (settled text value)
section
variable{P:bo}{w:bM}{K:ah}{mg:Str->Option aj}{base:cu}{A:Cl}
def xc(A:Cl):Sp:=λvs H Q _=>∃(r a:af)(M:List af)(H0:Hp)(f:dY)(c:bw)(N:List af)(dx lc lv:af)(as:List af)(un:V),vs=[.ref r,.ref a]/\rH A M H0 H r f N dx lc lv as un/\settled f=true/\Fo f/\a∈N/\c.costs=[]/\c.name.length<=100000/\
 Je A H a c N (N++M) [r,lc]/\((decide (f.columns.length<4)&&newName f c.name)=false->∀H',aS H0 H'->Q (.bl false) H')/\((decide (f.columns.length<4)&&newName f c.name)=true->∀H',JF A M H0 H' r {f with columns:=f.columns++[c]}->Q (.bl true) H')
theorem ow(T:Txt K mg A):iR P w K mg base A.eM "begin_column" 3 ["self","column"] (xc A):=by
 refine T.eM.FW.ok wR (λvs H Q E h=>?_) (λf eC A' outer s H vs Q E hr h=>?_)
 ·obtain⟨r,a,M,H0,f,c,N,dx,lc,lv,as,un,rfl,_⟩:=h;rfl
 ·obtain⟨r,a,M,H0,fm,c,N,dx,lc,lv,as,un,rfl,R,gu,wf,Py,R5,Ze,ho,k1,k2⟩:=h;have hlen:=R.len;have h4:=wf.len;obtain⟨C,dxc,fs,g1,g2,g3⟩:=ho.title;obtain⟨c1,c2⟩:=LB T g2;refine⟨_,(aw (dj (PW.pt (qP (cB ji (cD bt (by rfl) T.b.dM cJ (aH (bj (pv 0) rfl) ao)) (cU T.k.Iq rfl) (cx _)) (nZ (gB (fQ (cg (pv 0) T.eM.cl (pD T) hr.mono (aH (bj (pv 1) rfl) ao))))))) (aF (aX jQ)) bO) (aw (iC (oh bP cQ cR iZ (bj (pv 0) rfl) (aH (pv 1) ao))) (aw (dZ (pv 0) (pv 1) rfl) (aF (aX jQ))))),?_⟩;refine⟨_,rfl,r,A.eM,dx,_,_,rfl,R.ins,T.eM.cl,T.eM.fg,kN,lc,_,rfl,.inl (bD.of R.cols),rfl,_,rfl,fC (λe1=>kC ?_) (λe1=>?_)⟩
  ·have:fm.columns.length=4:=by
    have e2:(((iJ as).length:Nat):Int)=4:=by injection e1
    rw[ck] at e2;omega
   exact k1 (by rw[decide_eq_false (by omega),iG]) H R.same
  ·have RD:fm.columns.length<4:=by
    have:¬fm.columns.length=4:=λq=>e1 (by
     have:(((iJ as).length:Nat):Int)=4:=by rw[ck];omega
     rw[this])
    omega
   refine⟨_,rfl,r,dx,_,rfl,R.ins,nI,_,rfl,a,C,dxc,fs,_,rfl,g1,c1,c2,g3,r,M,H0,fm,c.name,rfl,⟨N,dx,lc,lv,as,un,R⟩,by omega,Ze,λH1 s1=>⟨_,rfl,km (λe2=>?_) (λe2=>?_)⟩⟩
   ·exact k1 (by rw[e2,iI]) H1 (R.same.trans s1)
   ·refine cN ?_;have R1:=R.mono s1;have Ww:=ho.mono s1;refine⟨_,rfl,r,A.eM,dx,_,_,rfl,R1.ins,T.eM.cl,T.eM.fg,kN,.inl ⟨rfl,_,bD.of R1.cols⟩,_,rfl,lc,_,_,rfl,rfl,R1.cols,dB (by rw[ck];omega),?_⟩;have rl:r≠lc:=gA R1.ins R1.cols (λz=>nomatch z);refine⟨_,rfl,_,rfl,r,A.eM,dx,_,rfl,by rw[ax rl];exact R1.ins,T.eM.cl,T.eM.lQ,by show 4<1000;decide,?_⟩;rw[ql];refine k2 (by rw[decide_eq_true RD,e2];rfl) _ ⟨N,dx,lc,lv,as++[a],.ref a,?_⟩;have out:∀b o,H1 b=some o->¬b∈[r,lc]->(upd (upd H1 lc (.lst (iJ as++[V.ref a]))) r (.ins A.eM dx (gG (.ref lc) (.ref a) (Cn fm) (.ref lv)))) b=some o:=λb o e n=>by simp only[aA,ff,or_false,not_or] at n;rw[ax n.1,ax n.2];exact e
    have hX:∀b∈[r,lc],b∈N++M:=λb hb=>by
     simp only[aA,ff,or_false] at hb;rcases hb with rfl|rfl
     ·exact aD.mpr (.inl R.rN)
     ·exact aD.mpr (.inl R.lN)
    have sc:aS (cut H1 (N++M)) (cut (upd (upd H1 lc (.lst (iJ as++[V.ref a]))) r (.ins A.eM dx (gG (.ref lc) (.ref a) (Cn fm) (.ref lv)))) (N++M)):=wC (λb o e n=>out b o e λq=>n (hX b q)) (λb hb=>.inr hb);have Vi:dh (iL A (cut H1 (N++M))) as fm.columns:=by
     rcases R1.st with⟨_,_,c⟩|⟨cs,c,JE,a,h1,_⟩
     ·exact c
     ·rw[hU h1] at gu;cases gu
    refine⟨mw (mw R1.same (R.new lc R.lN)) (R.new r R.rN),R.new,λb hb=>?_,R.rN,R.lN,ag,?_,sc _ _ R1.vals,.inr ⟨fm.columns,c,as,a,⟨rfl,R5⟩,rfl,rfl,Py,Paired.mono (λ_ _ z=>z.mono sc) Vi,Ww.keep out hX⟩⟩
    ·obtain⟨o,eo⟩:=R1.held b hb;by_cases z1:b=r
     ·rw[z1];exact⟨_,ag⟩
     ·rw[ax z1];by_cases z2:b=lc
      ·rw[z2];exact⟨_,ag⟩
      ·rw[ax z2];exact⟨o,eo⟩
    ·rw[ax rl.symm,ag];unfold iJ;rw[br];rfl
def sV(A:Cl)(pre:dY->List aG->Prop):Sp:=λvs H Q _=>∃(r b:af)(M:List af)(H0:Hp)(f:dY)(ws:List aG),vs=[.ref r,.ref b]/\Tr M H0/\JF A M H0 H r f/\Fo f/\H b=some (.lst (eO (ws.map iq)))/\ws.length<=3000/\(∀x∈ws,x.length<=3000)/\pre f ws/\
 (kl f ws=none->∀H',aS H0 H'->Q (.bl false) H')/\(∀g,kl f ws=some g->∀H',JF A M H0 H' r g->Q (.bl true) H')
theorem nO(f:dY)(n:aG):newName f (iq n)=newName f n:=by
 unfold newName;rw[yb]
 cases h:dN n with
 |false=>rfl
 |true=>rw[jS h]
theorem Jf{lo hi:Nat}(ws:List aG):(ws.map iq).all (fq lo hi)=ws.all (fq lo hi):=by rw[qK];congr 1;funext x;exact QB lo hi x
theorem Hn{lo hi:Nat}{x:aG}(h:fq lo hi x=true):iq x=x:=wo (uV h)
theorem LG{lo hi:Nat}{x:aG}(h:fq lo hi x=true):x≠[]/\x.length<=7:=by unfold fq isNum at h;simp only[aK,jd,Mt,decide_eq_true_eq] at h;exact⟨h.1.1,h.2.1⟩
theorem rH.more{A:Cl}{M:List af}{H0 H H':Hp}{r:af}{f:dY}{N X:List af}{dx lc lv:af}{as:List af}{un:V}(R:rH A M H0 H r f N dx lc lv as un)(gu:settled f=true)(s:aS H H')(hX:∀b∈X,H b=none)(hh:Tr X H'):rH A M H0 H' r f (X++N) dx lc lv as un:=by
 have sc:aS (cut H (N++M)) (cut H' (X++N++M)):=wC (λb o e _=>s _ _ e) (λb hb=>by
  rw[dn] at hb;rcases aD.mp hb with q|q
  ·exact .inl (hX b q)
  ·exact .inr q)
 refine⟨R.same.trans s,λb hb=>?_,λb hb=>?_,aD.mpr (.inr R.rN),aD.mpr (.inr R.lN),s _ _ R.ins,s _ _ R.cols,sc _ _ R.vals,?_⟩
 ·rcases aD.mp hb with q|q
  ·exact R.same.free (hX b q)
  ·exact R.new b q
 ·rcases aD.mp hb with q|q
  ·exact hh b q
  ·exact(R.held.mono s) b q
 ·rcases R.st with⟨a,b,c⟩|⟨cs,c,JE,a,h1,_⟩
  ·exact .inl ⟨a,b,Paired.mono (λ_ _ z=>z.mono sc) c⟩
  ·rw[hU h1] at gu;cases gu
theorem xf(T:Txt K mg A):iR P w K mg base A.eM "take_numbers" 4 ["self","words"] (sV A λf ws=>settled f=true/\∃rest,ws=text "numbers"::rest):=by
 refine T.eM.FX.ok iV (λvs H Q E h=>?_) (λf eC A' outer s H vs Q E hr h=>?_)
 ·obtain⟨r,b,M,H0,f,ws,rfl,_⟩:=h;rfl
 ·obtain⟨r,b,M,H0,fm,ws,rfl,tr,⟨N,dx,lc,lv,as,un,R⟩,wf,hb,CT,Jg,⟨gu,lT,CU⟩,k1,k2⟩:=h;have hws:(eO (ws.map iq)).length=ws.length:=by rw[d9,aa]
  refine⟨_,(aw (bZ (i:=2) iV.nd rfl fo (nq pQ (pv 1) (m8 bx) we)) (aw (dj (PW.pt (qP (cB C1 (cD bt (by rfl) T.b.dM cJ (aH (pv 1) ao)) bx (cx _)) (nZ (cB OK (cD bt (by rfl) T.b.dM cJ (aH (pv 2) ao)) (cU T.k.Nc rfl) (cx _))))) (aF (aX jQ)) bO) (aw (dj (gB (fQ (bC (mS T) hr.mono rfl (aH (pv 2) (aH (cU T.k.Nd rfl) (aH (cU T.k.F9 rfl) ao)))))) (aF (aX jQ)) bO) (aw (C7 (i:=2) rfl iV.nd rfl rfl (HN rfl rfl rfl (by decide+kernel)) (own:=[("step",3)]) (dC (pv 2)) (cM (by kernel_rfl)) (λ_ _ _ _ _=>(bQ (i:=3) iV.nd rfl fo)) (λ_ _ _ _ _=>eK) (λ_ _ _ _ _=>(qZ rX (by rfl) T.b.Tz MY (aH (pv 3) ao)))) (aF (aX (lY (bC (Jd T) hr.mono rfl (aH (pv 2) ao)) (oS (cg (pv 0) T.eM.cl (ow T) hr.mono (aH (nu (K8 T) hr.mono rfl (aH (eG cO (pv 1) bx (λ_ _=>rfl)) (aH (pv 2) ao))) ao)))))))))),?_⟩;refine aZ ?_;refine⟨_,rfl,_,rfl,b,_,rfl,bD.of hb,λD hD=>?_⟩;rw[show uK (eO (ws.map iq)) (some 2) none=eO ((ws.drop 2).map iq) from by rw[ux,<-EE];exact rG _ 2];refine b8 ?_;have s0:aS H (upd H D (.lst (eO ((ws.drop 2).map iq)))):=aB hD;have Gv:(upd H D (.lst (eO ((ws.drop 2).map iq)))) D=some (.lst (eO ((ws.drop 2).map iq))):=ag;generalize upd H D (.lst (eO ((ws.drop 2).map iq)))=G at s0 Gv⊢;refine aZ ?_;refine⟨_,rfl,b,_,rfl,.inl (bD.of (s0 _ _ hb)),_,_,rfl,rfl,_,rfl,?_⟩;rw[hws];refine fC (λe1=>kC ?_) (λe1=>?_)
  ·have Pz:lT=[]:=by
    rw[CU] at e1
    cases lT with
    |nil=>rfl
    |cons x t=>simp at e1;omega
   refine k1 ?_ _ (R.same.trans s0);rw[CU,Pz,fO gu,qY]
  ·obtain⟨n,rest,zT⟩:∃n rest,lT=n::rest:=by
    cases lT with
    |nil=>rw[CU] at e1;simp at e1
    |cons x t=>exact⟨x,t,rfl⟩
   subst zT;subst CU;have gC:=zl fm n rest;rw[<-fO gu] at gC;have mx:(decide (rest.length<=2)&&(rest.all (fq 2 1000000)&&(oA (rest.map value)&&(decide (fm.columns.length<4)&&newName fm n))))=false->∀H',aS H0 H'->Q (.bl false) H':=λe=>k1 (by rw[gC,e];rfl);have hdr:((text "numbers"::n::rest).drop 2).map iq=rest.map iq:=rfl;rw[hdr] at Gv;have wD:rest.length<=3000:=by simp at CT;omega
   have hrx:∀x∈rest,x.length<=3000:=λx hx=>Jg x (.tail _ (.tail _ hx));refine⟨_,rfl,D,_,rfl,.inl (bD.of Gv),_,_,rfl,rfl,_,rfl,?_⟩;rw[d9,aa];refine fC (λe2=>?_) (λe2=>?_)
   ·exact mx (by rw[decide_eq_false (show¬rest.length<=2 by have:(2:Int)<(rest.length:Nat):=e2;omega),iG]) _ (R.same.trans s0)
   ·have h2:rest.length<=2:=by have:¬(2:Int)<(rest.length:Nat):=e2;omega
    refine cN ?_;refine aZ ?_;refine⟨_,rfl,D,rest.map iq,2,1000000,rfl,bD.of Gv,by rw[aa];exact ak wD (by decide),λx hx=>?_,λH1 s1=>⟨_,rfl,?_⟩⟩
    ·obtain⟨y,hy,rfl⟩:=aq.mp hx;rw[m9];exact ak (hrx y hy) (by decide)
    rw[Jf];refine km (λe3=>?_) (λe3=>?_)
    ·exact mx (by rw[e3,iG,iI]) _ (R.same.trans (s0.trans s1))
    ·refine cN ?_;refine aZ ?_;refine IC ?_;refine fw ?_;have Uq:rest.map iq=rest:=by
      conv=>rhs;rw[<-Ar rest]
      refine dc λx hx=>?_;exact Hn (b0.mp e3 x hx)
     rw[Uq] at Gv;refine⟨_,rfl,D,rfl,⟨_,bD.of (s1 _ _ Gv)⟩,?_⟩;refine jL (l:=rest) (enc:=λl=>.str (sN l)) (f:=λl=>.int ((value l:Nat):Int)) (bD.of (s1 _ _ Gv)) (ak wD (by decide)) (λi x H' RR hx k' Qp=>?_) (λD2 H2 BR s2 e4=>?_)
     ·have dI:=b0.mp e3 x (aL hx);obtain⟨q1,q2⟩:=LG dI;exact⟨rfl,_,rfl,_,_,rfl,Eu (uV dI) q1 q2,by rw[i5];omega,Qp _ (aS.refl _)⟩
     ·refine b8 ?_;have e5:(rest.map λl=>V.int ((value l:Nat):Int))=gP (rest.map value):=by unfold gP;rw[aP];rfl
      rw[e5] at e4;have Q3:aS H H2:=s0.trans (s1.trans s2);refine⟨_,rfl,D2,rest.map value,rfl,bD.of e4,by rw[aa];omega,λx hx=>?_,λH3 s3=>⟨_,rfl,DD (λe6=>?_) (λe6=>?_)⟩⟩
      ·have:=yi e3 x hx;omega
      ·have RI:(eO ((text "numbers"::n::rest).map iq))[1]? =some (.str (sN (iq n))):=rfl;have s03:=Q3.trans s3;have R3:=R.mono s03;refine⟨_,rfl,r,dx,_,rfl,R3.ins,mQ,_,rfl,b,_,_,_,rfl,rfl,bD.of (s03 _ _ hb),cG (j:=1) RI,_,rfl,?_⟩;intro a pL na nda ne;refine⟨a,pL,D2,_,rfl,ag,λm H4 hm e7 e8 k4=>⟨rfl,?_⟩⟩;have s4:aS H3 H4:=aS.made na nda k4;have na0:H a=none:=s03.free na;have hm3:H3 m=none:=by
        have:m≠a:=λz=>by rw[z,ag] at hm;cases hm
        rw[ax this] at hm;have:m≠pL:=λz=>by rw[z,ag] at hm;cases hm
        rw[ax this] at hm;exact hm
       have EF:H D2=none:=s0.free (s1.free BR);have R4:=R.more (X:=[a]) gu (s03.trans s4) (λb hb=>by simp at hb;rw[hb];exact na0) (Tr.cons Tr.nil e7);have agb:¬D2∈[a]++N++M:=λz=>by
        rw[dn] at z;rcases aD.mp z with q|q
        ·have:D2=a:=by simpa using q
         rw[this] at e4;exact absurd (s3 _ _ e4) (by rw[na];exactλz=>nomatch z)
        ·rcases aD.mp q with q|q
         ·exact R.held.not EF q
         ·exact tr.not (R.same.free EF) q
       have hmW:¬m∈[a]++N++M:=λz=>by
        have IM:H m=none:=s03.free hm3;rw[dn] at z;rcases aD.mp z with q|q
        ·have:m=a:=by simpa using q
         rw[this,ag] at hm;cases hm
        ·rcases aD.mp q with q|q
         ·exact R.held.not IM q
         ·exact tr.not (R.same.free IM) q
       refine⟨r,a,M,H0,fm,{name:=iq n,kind:=.numbers (rest.map value),costs:=[]},[a]++N,dx,lc,lv,as,un,rfl,R4,gu,wf,by simp,rfl,by show(iq n).length<=_;rw[m9];exact ak (Jg n (by simp)) (by decide),⟨?_,pL,D2,m,e7,?_,?_⟩,λef=>?_,λet=>?_⟩
       ·simp only[aA,ff,or_false,not_or];exact⟨(aQ R.ins na0).symm,(aQ R.cols na0).symm⟩
       ·rw[cX agb];exact s4 _ _ (s3 _ _ e4)
       ·rw[cX hmW];exact e8
       ·rw[show newName fm (iq n)=newName fm n from nO fm n] at ef;exact mx (by rw[ef];simp)
       ·have ef:(decide (fm.columns.length<4)&&newName fm (iq n))=true:=et;rw[nO] at ef;have Wr:dN n=true:=by rw[aK] at ef;have:=ef.2;unfold newName at this;rw[aK] at this;exact this.1
        rw[jS Wr];exact k2 _ (by rw[gC,decide_eq_true h2,e3,e6,ef];rfl)
      ·exact mx (by rw[e6];simp) _ (R.same.trans (Q3.trans s3))
end
end Bp
namespace Bp
open PySem PySem.Spec PyProof.Rows L2 Bm
open Vbslai (settled text)
theorem AO.cst{K:ah}{mg:Str->Option aj}{c qual:Str}{C:af}{st:cy}{ps:List Str}(h:AO K mg c C qual st ps):sk mg c (.ref C):=by obtain⟨f,fd,_,_,_,g⟩:=h.ex;exact⟨.ref C,g,rfl⟩
structure Zo(K:ah)(A:Cl):Prop where
 acK:fE K (.ref A.num) "__class__"=some (some (.builtin "object.__class__"))
 acL:fE K (.ref A.eW) "__class__"=some (some (.builtin "object.__class__"))
 sp:XB K (.builtin "object.__class__") "__get__"=some (some (.builtin "getset_descriptor.__get__"))
 tk:aaZ K (.builtin "object.__class__")=some true
 acM:Ox K A.num (.type "object")=some true
 acN:Ox K A.eW (.type "object")=some true
 acO:Al K (.ref A.num) (.ref A.eW)=some false
 acP:Al K (.ref A.eW) (.ref A.eW)=some true
section
variable{P:bo}{w:bM}{K:ah}{mg:Str->Option aj}{base:cu}{A:Cl}
theorem zU(T:Txt K mg A):iR P w K mg base A.eM "take_words" 4 ["self","words"] (sV A λf ws=>settled f=true/\∃rest,ws=text "words"::rest):=by
 refine T.eM.Kl.ok zG (λvs H Q E h=>?_) (λf eC A' outer s H vs Q E hr h=>?_)
 ·obtain⟨r,b,M,H0,f,ws,rfl,_⟩:=h;rfl
 ·obtain⟨r,b,M,H0,fm,ws,rfl,tr,⟨N,dx,lc,lv,as,un,R⟩,wf,hb,CT,Jg,⟨gu,lT,CU⟩,k1,k2⟩:=h;have hws:(eO (ws.map iq)).length=ws.length:=by rw[d9,aa]
  refine⟨_,(aF (aX (lY (iT ji (cD bt (by rfl) T.b.dM cJ (aH (pv 1) ao)) bx (cx _)) (oS (cg (pv 0) T.eM.cl (ow T) hr.mono (aH (nu (Ld T) hr.mono rfl (aH (eG cO (pv 1) bx (λ_ _=>rfl)) ao)) ao)))))),?_⟩;refine⟨_,rfl,b,_,rfl,.inl (bD.of hb),rfl,_,rfl,?_⟩;rw[hws];refine fC (λe1=>?_) (λe1=>?_)
  ·have e2:ws.length=2:=by injection e1 with e1;have:((ws.length:Nat):Int)=2:=e1;omega
   obtain⟨n,zT⟩:∃n,lT=[n]:=by
    rw[CU] at e2
    cases lT with
    |nil=>simp at e2
    |cons x t=>cases t with
     |nil=>exact⟨x,rfl⟩
     |cons y t=>simp at e2
   subst zT;subst CU;have gC:=yd fm n [];rw[<-fO gu] at gC;have RI:(eO ([text "words",n].map iq))[1]? =some (.str (sN (iq n))):=rfl;refine⟨_,rfl,r,dx,_,rfl,R.ins,mQ,_,rfl,b,_,_,_,rfl,rfl,bD.of hb,cG (j:=1) RI,?_⟩;intro a pL na nda ne;refine⟨a,pL,_,rfl,ag,λl m H4 hl hm hlm e7 e8 e9 k4=>⟨rfl,?_⟩⟩;have s4:aS H H4:=aS.made na nda k4;have fr:∀x,(upd (upd H pL (.own a)) a (.ins A.eW pL [])) x=none->x≠a/\H x=none:=λx hx=>by
    have h1:x≠a:=λz=>by rw[z,ag] at hx;cases hx
    rw[ax h1] at hx;have h2:x≠pL:=λz=>by rw[z,ag] at hx;cases hx
    rw[ax h2] at hx;exact⟨h1,hx⟩
   obtain⟨la,Wm⟩:=fr l hl;obtain⟨ma,IM⟩:=fr m hm;have R4:=R.more (X:=[l,a]) gu s4 (λb hb=>by
    simp at hb;rcases hb with rfl|rfl
    ·exact Wm
    ·exact na) (Tr.cons (Tr.cons Tr.nil e7) e8)
   have hmW:¬m∈[l,a]++N++M:=λz=>by
    rw[dn] at z;rcases aD.mp z with q|q
    ·simp at q;rcases q with q|q
     ·exact hlm q.symm
     ·exact ma q
    ·rcases aD.mp q with q|q
     ·exact R.held.not IM q
     ·exact tr.not (R.same.free IM) q
   refine⟨r,a,M,H0,fm,{name:=iq n,kind:=.words [],costs:=[]},[l,a]++N,dx,lc,lv,as,un,rfl,R4,gu,wf,by simp,rfl,by show(iq n).length<=_;rw[m9];exact ak (Jg n (by simp)) (by decide),⟨?_,pL,l,m,[],by simp,?_,e7,e8,.nil,?_⟩,λef=>?_,λet=>?_⟩
   ·simp only[aA,ff,or_false,not_or];exact⟨(aQ R.ins na).symm,(aQ R.cols na).symm⟩
   ·simp only[aA,ff,or_false,not_or];exact⟨(aQ R.ins Wm).symm,(aQ R.cols Wm).symm⟩
   ·rw[cX hmW];exact e9
   ·rw[show newName fm (iq n)=newName fm n from nO fm n] at ef;exact k1 (by rw[gC,ef];rfl)
   ·have ef:(decide (fm.columns.length<4)&&newName fm (iq n))=true:=et;rw[nO] at ef;have Wr:dN n=true:=by rw[aK] at ef;have:=ef.2;unfold newName at this;rw[aK] at this;exact this.1
    rw[jS Wr];exact k2 _ (by rw[gC,ef];rfl)
  ·refine k1 ?_ H R.same;rw[CU]
   cases lT with
   |nil=>rw[fO gu,qY]
   |cons n rest=>
    rw[fO gu,yd]
    cases rest with
    |nil=>exact absurd (by rw[CU];rfl) e1
    |cons x t=>rfl
def yQ(A:Cl):Sp:=λvs H Q _=>∃(r b a dx lc lv:af)(sec:V)(n:aG)(up:Up)(us:List aG),vs=[.ref r,.ref b]/\H r=some (.ins A.eM dx (gG (.ref lc) (.ref a) sec (.ref lv)))/\pw A H a n up []/\H b=some (.lst (eO us))/\
 (us.length=2->∀D H',H D=none->aS H H'->H' D=some (.lst (eO []))->Q (.ref D) H')/\
 (us.length=4->us[2]? =some (text "of")->∀v,us[3]? =some v->(¬v∈up.map (·.1)->Q .gT H)/\(∀x,v∈up.map (·.1)->qp H x (chainOf up v)->Q (.ref x) H))/\
 (us.length≠2->¬(us.length=4/\us[2]? =some (text "of"))->Q .gT H)
theorem of_eq:aR "of"=sN (text "of"):=by decide+kernel
theorem Ur{us:List aG}{i:Nat}{u:aG}(h:us[i]? =some u):(eO us)[i]? =some (.str (sN u)):=by unfold eO;rw[aU,h];rfl
theorem yR(T:Txt K mg A):iR P w K mg base A.eM "chain_above" 2 ["self","words"] (yQ A):=by
 refine T.eM.Ie.ok yB (λvs H Q E h=>?_) (λf eC A' outer s H vs Q E hr h=>?_)
 ·obtain⟨r,b,a,dx,lc,lv,sec,n,up,us,rfl,_⟩:=h;rfl
 ·obtain⟨r,b,a,dx,lc,lv,sec,n,up,us,rfl,hr1,hw,hb,k1,k2,k3⟩:=h;obtain⟨pL,l,m,CS,w1,w2,w3,w4⟩:=id hw;refine⟨_,(aw (dj (cB ji (cD bt (by rfl) T.b.dM cJ (aH (pv 1) ao)) bx (cx _)) (aF (aX (bV ao))) bO) (aw (dj (PW.pt (Hz (cB ji (cD bt (by rfl) T.b.dM cJ (aH (pv 1) ao)) bx (cx _)) (CF (cB ji (eG cO (pv 1) bx (λ_ _=>rfl)) eX (cx _))))) (aF (aX (cg (bj (pv 0) rfl) T.eW.cl (tX T) hr.mono (aH (eG cO (pv 1) bx (λ_ _=>rfl)) ao)))) bO) (aF (aX lu)))),?_⟩;refine⟨_,rfl,b,_,rfl,.inl (bD.of hb),rfl,_,rfl,?_⟩;rw[d9];refine fC (λe1=>?_) (λe1=>?_)
  ·have e2:us.length=2:=by injection e1 with e1;have:((us.length:Nat):Int)=2:=e1;omega
   exact⟨bB _,λD hD=>k1 e2 D _ hD (aB hD) ag⟩
  ·have n2:us.length≠2:=λq=>e1 (by rw[q];rfl);refine cN ?_;refine⟨_,rfl,b,_,rfl,.inl (bD.of hb),rfl,_,rfl,?_⟩;rw[d9];refine fC (λe2=>?_) (λe2=>?_)
   ·have e4:us.length=4:=by injection e2 with e2;have:((us.length:Nat):Int)=4:=e2;omega
    have h2:us[2]? =some us[2]:=au (by omega);have h3:us[3]? =some us[3]:=au (by omega);refine⟨_,rfl,b,_,_,_,rfl,rfl,bD.of hb,cG (j:=2) (Ur h2),rfl,_,rfl,fC (λe5=>?_) (λe5=>?_)⟩
    ·have e6:us[2]=text "of":=by
      have:V.str (sN us[2])=V.str (sN (text "of")):=by rw[e5,of_eq]
      injection this with this
      exact vG this
     obtain⟨q1,q2⟩:=k2 e4 (by rw[h2,e6]) us[3] h3;exact⟨_,rfl,r,A.eM,dx,_,_,rfl,hr1,T.eM.cl,T.eM.lQ,kO,a,pL,_,rfl,w1,qk,_,rfl,b,_,_,_,rfl,rfl,bD.of hb,cG (j:=3) (Ur h3),a,n,up,[],us[3],rfl,hw,q1,q2⟩
    ·refine cN (k3 n2 λ⟨_,q⟩=>e5 ?_);rw[h2] at q;rw[aW q,of_eq]
   ·exact cN (k3 n2 λ⟨q,_⟩=>e2 (by rw[q];rfl))
end
end Bp
namespace Bp
open PySem PySem.Spec PyProof.Rows L2 Bm
open Vbslai (settled text above)
section
variable{P:bo}{w:bM}{K:ah}{mg:Str->Option aj}{base:cu}{A:Cl}
theorem Je.Us{A:Cl}{H:Hp}{a:af}{c:bw}{N W X:List af}{up:Up}(h:Je A H a c N W X)(k:c.kind=.words up):pw A H a c.name up []:=by obtain⟨dx,l,m,CS,_,_,h1,h2,h3,h4⟩:=h.eW k;exact⟨dx,l,m,CS,h1,h2,Paired.mono (λ_ _ z=>z.mono (bU _ _)) h3,bU _ _ _ _ h4⟩
theorem Ut{up:Up}(ok:l8 up)(v:aG):iq v∈up.map (·.1)↔v∈up.map (·.1):=by
 constructor
 ·intro h;obtain⟨x,hx,e⟩:=aq.mp h;have:v=x.1:=(rZ (zk (ok.nm x hx))).mp e.symm;rw[this];exact aq.mpr ⟨x,hx,rfl⟩
 ·intro h;obtain⟨x,hx,rfl⟩:=aq.mp h;rw[jS (ok.nm x hx)];exact h
theorem oG(up:Up)(n o v:aG):l9 up n [o,v]=if o=text "of"/\v∈up.map (·.1)/\(above up jP v).length<2 then some (n,some v) else none:=rfl
theorem Zp{up:Up}(ok:l8 up){v:aG}(h:v∈up.map (·.1)):iq v=v:=by obtain⟨x,hx,rfl⟩:=aq.mp h;exact jS (ok.nm x hx)
theorem rH.Uu{A:Cl}{M:List af}{H0 H:Hp}{r:af}{f:dY}{N:List af}{dx lc lv:af}{as:List af}{un:V}(R:rH A M H0 H r f N dx lc lv as un)(h:settled f=false):
  ∃cs c JE a,Open f cs c/\as=JE++[a]/\un=.ref a/\a∈N/\dh (iL A (cut H (N++M))) JE cs/\Je A H a c N (N++M) [r,lc]:=by
 rcases R.st with⟨a,_⟩|q
 ·rw[h] at a;cases a
 ·exact q
theorem Bb(T:Txt K mg A)(Y:Zo K A):iR P w K mg base A.eM "take_word" 3 ["self","words"] (sV A λf ws=>settled f=false/\∃rest,ws=text "word"::rest):=by
 refine T.eM.M4.ok mY (λvs H Q E h=>?_) (λf eC A' outer s H vs Q E hr h=>?_)
 ·obtain⟨r,b,M,H0,f,ws,rfl,_⟩:=h;rfl
 ·obtain⟨r,b,M,H0,fm,ws,rfl,tr,⟨N,dx,lc,lv,as,un,R⟩,wf,hb,CT,Jg,⟨gu,lT,CU⟩,k1,k2⟩:=h;obtain⟨cs,c,JE,a,op,has,hun,Py,Vi,ho⟩:=R.Uu gu;subst hun;have hws:(eO (ws.map iq)).length=ws.length:=by rw[d9,aa]
  have W7:c∈fm.columns:=by rw[op.1];simp
  have cw:=wf.cols c W7;refine⟨_,(aw (bZ (i:=2) mY.nd rfl fo (bj (pv 0) rfl)) (aw (dj (PW.pt (qP (gB (fQ (cD QU (by rfl) T.b.Iu FR (aH (pv 2) (aH (cU T.eW.init.cst rfl) ao))))) (nZ (cB ji (cD bt (by rfl) T.b.dM cJ (aH (bj (pv 2) rfl) ao)) (cU T.k.Nf rfl) (cx _))))) (aF (aX jQ)) bO) (aw (dj (PW.pt (qP (cB C1 (cD bt (by rfl) T.b.dM cJ (aH (pv 1) ao)) bx (cx _)) (qP (gB (fQ (bC (yE T) hr.mono rfl (aH (eG cO (pv 1) bx (λ_ _=>rfl)) ao)))) (nZ (cB CG (cg (pv 2) T.eW.cl (tX T) hr.mono (aH (eG cO (pv 1) bx (λ_ _=>rfl)) ao)) lu (cx _)))))) (aF (aX jQ)) bO) (aw (bZ (i:=3) mY.nd rfl fo (cg (pv 0) T.eM.cl (yR T) hr.mono (aH (pv 1) ao))) (aw (dj (PW.pt (qP (cB C2 (pv 3) lu (cx _)) (nZ (cB OK (cD bt (by rfl) T.b.dM cJ (aH (pv 3) ao)) (cU T.k.Ng rfl) (cx _))))) (aF (aX jQ)) bO) (aw (iC (cg (pv 2) T.eW.cl (Cf T) hr.mono (aH (eG cO (pv 1) bx (λ_ _=>rfl)) (aH (pv 3) ao)))) (aF (aX jQ)))))))),?_⟩;refine aZ ?_;refine⟨_,rfl,r,A.eM,dx,_,_,rfl,R.ins,T.eM.cl,T.eM.lQ,kO,?_⟩;refine b8 ?_;refine aZ ?_
  cases ek:c.kind with
  |numbers st=>obtain⟨pL,l,m,g1,_⟩:=ho.num ek;refine⟨_,rfl,.ref a,A.eW,_,_,rfl,.ins g1 T.num.cl Y.acK Y.sp Y.tk Y.acM,Y.acO,_,rfl,kC (k1 ?_ _ R.same)⟩;rw[CU,sj,xr op.1 ek]
  |words up=>
   obtain⟨pL,l,m,CS,hlN,hlX,g1,g2,g3,g4⟩:=ho.eW ek;have PB:l8 up:=by have:=cw.kd;rw[ek] at this;exact this
   have hW:=ho.Us ek;have uB:CS.length=up.length:=by rw[Paired.len g3];exact aa ..
   have gC:∀n rest,kl fm (text "word"::n::rest)=if(dN n&&(decide (up.length<30)&&!(up.map (·.1)).contains n))=true then(l9 up n rest).map λx=>{fm with columns:=cs++[{c with kind:=.words (up++[x])}]} else none:=λn rest=>by rw[sj];exact G5 op.1 ek op.2 n rest
   have Uv:lT=[]->kl fm ws=none:=λe=>by rw[CU,e,sj,qY]
   have LH:∀n rest,lT=n::rest->(dN n&&(decide (up.length<30)&&!(up.map (·.1)).contains n))=false->kl fm ws=none:=λn rest e e2=>by rw[CU,e,gC,e2];rfl
   refine⟨_,rfl,.ref a,A.eW,_,_,rfl,.ins g1 T.eW.cl Y.acL Y.sp Y.tk Y.acN,Y.acP,_,rfl,kK ?_⟩;refine⟨_,rfl,a,A.eW,pL,_,_,rfl,g1,T.eW.cl,T.eW.nE,jn,l,_,rfl,.inl (bD.of g2),rfl,_,rfl,?_⟩;rw[ck,uB];refine fC (λe1=>?_) (λe1=>?_)
   ·have e2:up.length=30:=by injection e1 with e1;have:((up.length:Nat):Int)=30:=e1;omega
    refine k1 ?_ _ R.same
    cases Pz:lT with
    |nil=>exact Uv Pz
    |cons n rest=>exact LH n rest Pz (by rw[decide_eq_false (by omega),iG,iI])
   ·have hup:up.length<30:=by have h1:up.length<=30:=PB.le;have:¬up.length=30:=λq=>e1 (by rw[q];rfl);omega
    refine cN ?_;refine aZ ?_;refine⟨_,rfl,b,_,rfl,.inl (bD.of hb),_,_,rfl,rfl,_,rfl,?_⟩;rw[hws];refine fC (λe2=>kC (k1 (Uv ?_) _ R.same)) (λe2=>?_)
    ·rw[CU] at e2
     cases lT with
     |nil=>rfl
     |cons x t=>simp at e2;omega
    ·obtain⟨n,rest,zT⟩:∃n rest,lT=n::rest:=by
      cases lT with
      |nil=>rw[CU] at e2;simp at e2
      |cons x t=>exact⟨x,t,rfl⟩
     subst zT;subst CU;have RI:(eO ((text "word"::n::rest).map iq))[1]? =some (.str (sN (iq n))):=rfl;have Zq:n.length<=3000:=Jg n (by simp);refine⟨_,rfl,b,_,_,_,rfl,rfl,bD.of hb,cG (j:=1) RI,iq n,rfl,by rw[m9];exact ak Zq (by decide),λH1 s1=>⟨_,rfl,?_⟩⟩;rw[yb];refine km (λe3=>kC (k1 (LH n rest rfl (by rw[e3];rfl)) _ (R.same.trans s1))) (λe3=>?_);rw[jS e3] at RI;have bad:n∈up.map (·.1)->kl fm (text "word"::n::rest)=none:=λh=>LH n rest rfl (by rw[show(up.map (·.1)).contains n=true by simpa using h];simp);refine⟨_,rfl,a,pL,_,rfl,s1 _ _ g1,qk,_,rfl,b,_,_,_,rfl,rfl,bD.of (s1 _ _ hb),cG (j:=1) RI,a,c.name,up,[],n,rfl,hW.mono s1,λe4=>?_,λx e4 _=>?_⟩
     ·refine⟨rfl,_,rfl,abW rfl ?_⟩;refine cN ?_;refine aZ ?_;have Jh:kl fm (text "word"::n::rest)=(l9 up n rest).map λx=>{fm with columns:=cs++[{c with kind:=.words (up++[x])}]}:=by rw[gC,if_pos (by rw[e3,decide_eq_true hup,show(up.map (·.1)).contains n=false by simpa using e4];rfl)]
      have fin:∀(H2:Hp)(ab:af)(av:List aG)(x:aG×Option aG),aS H H2->H2 ab=some (.lst (eO av))->av.length<=2->l9 up n rest=some x->fY (up++[x])=fY up++[n::av]->
        R9 (WZ (uJ A.eW "add_word" (tW A) [] E0 (qA 2) (qR (Vx (Yg K) (qA 1) (tC (.int 1))) (qR (qA 3) uI)))) (X2 (tC (.bl true))) ⟨λ_ H'=>Q .gT H',Q,λ_ _=>False,λ_ _=>False⟩ [some (.ref r),some (.ref b),some (.ref a),some (.ref ab)] H2:=λH2 ab av x s2 hab hav hx As=>by
       refine⟨_,rfl,a,pL,_,rfl,s2 _ _ g1,zE,_,rfl,b,_,_,_,rfl,rfl,bD.of (s2 _ _ hb),cG (j:=1) RI,_,rfl,a,pL,l,m,ab,CS,_,n,av,longest (fY up),rfl,s2 _ _ g1,s2 _ _ g2,hab,by omega,by omega,λNN H3 hN e5 e6 e7 k4=>?_⟩;refine k2 _ (by rw[Jh,hx];rfl) H3 ⟨N,dx,lc,lv,as,.ref a,?_⟩;have R2:=R.mono s2;have hNW:¬NN∈N++M:=λz=>by
        have Wn:H NN=none:=s2.free hN;rcases aD.mp z with q|q
        ·exact R.held.not Wn q
        ·exact tr.not (R.same.free Wn) q
       have out:∀b' o,H2 b'=some o->¬b'∈N++M->H3 b'=some o:=λb' o e n=>k4 b' o e (λz=>n (by rw[z];exact aD.mpr (.inl Py))) (λz=>n (by rw[z];exact aD.mpr (.inl hlN)));have sc:aS (cut H2 (N++M)) (cut H3 (N++M)):=wC out (λb hb=>.inr hb);have ra:r≠a:=λz=>ho.1 (by rw[z];simp);have la:lc≠l:=λz=>hlX (by rw[z];simp);have rl:r≠l:=λz=>hlX (by rw[z];simp);have lca:lc≠a:=λz=>ho.1 (by rw[z];simp);refine⟨λb' o e=>?_,R.new,λb' Cj=>?_,R.rN,R.lN,k4 _ _ R2.ins ra rl,k4 _ _ R2.cols lca la,sc _ _ R2.vals,.inr ⟨cs,{c with kind:=.words (up++[x])},JE,a,⟨rfl,op.2⟩,has,rfl,Py,Paired.mono (λ_ _ z=>z.mono ((dJ s2).trans sc)) Vi,ho.1,pL,l,m,CS++[NN],hlN,hlX,?_,e6,?_,sc _ _ (dJ s2 _ _ g4)⟩⟩
       ·exact k4 b' o (R2.same _ _ e) (aQ e (R.new a Py)) (aQ e (R.new l hlN))
       ·obtain⟨o,eo⟩:=R2.held b' Cj;by_cases z1:b'=a
        ·rw[z1];exact⟨_,e7⟩
        ·by_cases z2:b'=l
         ·rw[z2];exact⟨_,e6⟩
         ·exact⟨o,k4 _ _ eo z1 z2⟩
       ·rw[e7,As,HU];rfl
       ·rw[As];refine Paired.snoc (Paired.mono (λ_ _ z=>z.mono ((dJ s2).trans sc)) g3) ?_;show cut H3 (N++M) NN=_;rw[cX hNW];exact e5
      have hul:((text "word"::n::rest).map iq).length=rest.length+2:=by rw[aa];rfl
      refine⟨_,rfl,r,dx,_,rfl,s1 _ _ R.ins,vA,_,rfl,r,b,a,dx,lc,lv,_,c.name,up,(text "word"::n::rest).map iq,rfl,s1 _ _ R.ins,hW.mono s1,s1 _ _ hb,λe5 D H2 hD s2 e6=>?_,λe5 e6 v e7=>?_,λe5 e6=>?_⟩
      ·have Pz:rest=[]:=by rw[hul] at e5;exact fT.mp (by omega)
       refine b8 ?_;refine aZ ?_;refine⟨_,rfl,rfl,_,rfl,kK ?_⟩;refine⟨_,rfl,D,_,rfl,.inl (bD.of e6),_,_,rfl,rfl,_,rfl,kK ?_⟩;refine cN ?_;exact fin H2 D [] (n,none) (s1.trans s2) e6 (by decide) (by rw[Pz];rfl) (by rw[Ke PB e4])
      ·obtain⟨o,v',hr4⟩:∃o v',rest=[o,v']:=by
        rw[hul] at e5
        cases rest with
        |nil=>simp at e5
        |cons o t=>cases t with
         |nil=>simp at e5
         |cons v t=>cases t with
          |nil=>exact⟨o,v,rfl⟩
          |cons _ _=>simp at e5
       subst hr4;have eo:iq o=text "of":=aW e6;have eo2:o=text "of":=(rZ (by decide+kernel)).mp eo;have ev:iq v'=v:=aW e7;subst ev;refine⟨λe8=>?_,λx e8 hx=>?_⟩
       ·refine b8 ?_;refine aZ ?_;refine⟨_,rfl,rfl,_,rfl,kC (k1 ?_ _ (R.same.trans s1))⟩;rw[Jh];have:¬v'∈up.map (·.1):=λq=>e8 ((Ut PB v').mpr q);rw[oG,if_neg (λq=>this q.2.1)];rfl
       ·have hv:v'∈up.map (·.1):=(Ut PB v').mp e8;have hvf:=Zp PB hv;rw[hvf] at hx;have RH:H1 x=some (.lst (eO (chainOf up v'))):=hx;have hlen:(chainOf up v').length=(above up jP v').length+1:=rfl;refine b8 ?_;refine aZ ?_;refine⟨_,rfl,rfl,_,rfl,kK ?_⟩;refine⟨_,rfl,x,_,rfl,.inl (bD.of RH),_,_,rfl,rfl,_,rfl,?_⟩;rw[d9,hlen];refine fC (λe9=>?_) (λe9=>?_)
        ·refine k1 ?_ _ (R.same.trans s1);have e10:(2:Int)<(((above up jP v').length+1:Nat):Int):=e9;rw[Jh];rw[oG,if_neg (λq=>by have:=q.2.2;omega)];rfl
        ·have e10:¬(2:Int)<(((above up jP v').length+1:Nat):Int):=e9;refine cN ?_;refine fin H1 x (chainOf up v') (n,some v') s1 RH (by rw[hlen];omega) ?_ (by rw[Kf PB e4 hv]);rw[oG,if_pos ⟨eo2,hv,by omega⟩]
      ·refine b8 ?_;refine aZ ?_;refine⟨_,rfl,rfl,_,rfl,kC (k1 ?_ _ (R.same.trans s1))⟩;rw[Jh]
       cases rest with
       |nil=>exact absurd rfl e5
       |cons o t=>cases t with
        |nil=>rfl
        |cons v t=>cases t with
         |nil=>rw[oG,if_neg (λq=>e6 ⟨rfl,by show some (iq o)=_;rw[q.1];rw[oM (by decide+kernel)]⟩)];rfl
         |cons _ _=>rfl
     ·refine⟨rfl,_,rfl,?_⟩;exact kC (k1 (bad e4) _ (R.same.trans s1))
end
end Bp
namespace Bp
open PySem PySem.Spec PyProof.Rows L2 Bm
open Vbslai (levels settled text value)
theorem LI{f:dY}{cs:List bw}{c:bw}{costs:List Nat}(wf:Fo f)(op:Open f cs c)(hc:costs≠[]):settled {f with columns:=cs++[{c with costs:=costs}]}=true:=by
 rw[jk];intro d hd;rcases aD.mp hd with q|q
 ·exact wf.ini d (by rw[op.1,ja];exact q)
 ·have:d={c with costs:=costs}:=by simpa using q
  rw[this];exact hc
theorem N3{c:bw}(h:O3 c):levels c.kind<=4:=by
 have kd:=h.kd
 cases e:c.kind with
 |numbers s=>rw[e] at kd;have:=kd.1;show s.length+2<=4;omega
 |words up=>rw[e] at kd;have ok:l8 up:=kd;show aez up+2<=4;have:aez up<=2:=n4 _ 0 2 (bB _) (λx hx=>by obtain⟨y,hy,rfl⟩:=aq.mp hx;exact ok.sh y hy);omega
theorem iL.ofNum{A:Cl}{H:Hp}{a:af}{c:bw}{s:List Nat}(k:c.kind=.numbers s)(h:xN A H a c.name s c.costs):iL A H a c:=by unfold iL;rw[k];exact h
theorem iL.acQ{A:Cl}{H:Hp}{a:af}{c:bw}{up:Up}(k:c.kind=.words up)(h:pw A H a c.name up c.costs):iL A H a c:=by unfold iL;rw[k];exact h
theorem wF(c:bw):(∃s,c.kind=.numbers s)∨∃up,c.kind=.words up:=by
 cases c.kind with
 |numbers s=>exact .inl ⟨s,rfl⟩
 |words up=>exact .inr ⟨up,rfl⟩
theorem Q4{A:Cl}{σ:L2.St}{G:Hp}{Q:VK}{a:af}{c:bw}{N W X:List af}(hv:σ[2]? =some (some (.ref a)))(ho:Je A G a c N W X)(h:∀G1,aS G G1->Q (.bl (filled c.kind)) G1):
  uJ A.num "is_filled" (rB A) [] E0 (qA 2) uI σ G Q∨uJ A.eW "is_filled" (rE A) [] E0 (qA 2) uI σ G Q:=by
 rcases wF c with⟨st,ek⟩|⟨up,ek⟩
 ·obtain⟨pL,l,m,g1,_⟩:=ho.num ek;rw[ek] at h;exact .inl ⟨_,hv,a,pL,_,rfl,g1,yq,a,rfl,h G (aS.refl _)⟩
 ·obtain⟨pL,l,m,CS,_,_,g1,_⟩:=ho.eW ek;rw[ek] at h;exact .inr ⟨_,hv,a,pL,_,rfl,g1,yr,a,c.name,up,[],rfl,ho.Us ek,h⟩
theorem Uw{A:Cl}{σ:L2.St}{G:Hp}{Q:VK}{a:af}{c:bw}{N W X:List af}(hv:σ[2]? =some (some (.ref a)))(ho:Je A G a c N W X)(hf:filled c.kind=true)(h:Q (.int ((levels c.kind:Nat):Int)) G):
  uJ A.num "level_count" (px A) [] E0 (qA 2) uI σ G Q∨uJ A.eW "level_count" (pA A) [] E0 (qA 2) uI σ G Q:=by
 rcases wF c with⟨st,ek⟩|⟨up,ek⟩
 ·obtain⟨pL,l,m,g1,g2,g3⟩:=ho.num ek;rw[ek] at h;exact .inl ⟨_,hv,a,pL,_,rfl,g1,jW,a,c.name,st,[],rfl,⟨pL,l,m,g1,bU _ _ _ _ g2,bU _ _ _ _ g3⟩,h⟩
 ·obtain⟨pL,l,m,CS,_,_,g1,_⟩:=ho.eW ek;rw[ek] at h hf;rw[<-Hk hf] at h;exact .inr ⟨_,hv,a,pL,_,rfl,g1,jY,a,c.name,up,[],rfl,ho.Us ek,h⟩
section
variable{P:bo}{w:bM}{K:ah}{mg:Str->Option aj}{base:cu}{A:Cl}
theorem zV(T:Txt K mg A):iR P w K mg base A.eM "take_costs" 4 ["self","words"] (sV A λf ws=>settled f=false/\∃rest,ws=text "costs"::rest):=by
 refine T.eM.Km.ok iD (λvs H Q E h=>?_) (λf eC A' outer s H vs Q E hr h=>?_)
 ·obtain⟨r,b,M,H0,f,ws,rfl,_⟩:=h;rfl
 ·obtain⟨r,b,M,H0,fm,ws,rfl,tr,⟨N,dx,lc,lv,as,un,R⟩,wf,hb,CT,Jg,⟨gu,rest,CU⟩,k1,k2⟩:=h;obtain⟨cs,c,JE,a,op,has,hun,Py,Vi,ho⟩:=R.Uu gu;subst hun;subst CU;have W7:c∈fm.columns:=by rw[op.1];simp
  have cw:=wf.cols c W7;have gC:kl fm (text "costs"::rest)=if(filled c.kind&&(decide (rest.length=levels c.kind)&&(rest.all (fq 0 10000)&&l6 (rest.map value))))=true then some {fm with columns:=cs++[{c with costs:=rest.map value}]} else none:=by rw[BD];exact Dn op.1 op.2 rest
  have mx:(filled c.kind&&(decide (rest.length=levels c.kind)&&(rest.all (fq 0 10000)&&l6 (rest.map value))))=false->∀H',aS H0 H'->Q (.bl false) H':=λe=>k1 (by rw[gC,e];rfl);have wD:rest.length<=3000:=by simp at CT;omega
  have hrx:∀x∈rest,x.length<=3000:=λx hx=>Jg x (.tail _ hx);refine⟨_,(aw (bZ (i:=2) iD.nd rfl fo (bj (pv 0) rfl)) (aw (bZ (i:=3) iD.nd rfl fo (nq pQ (pv 1) (m8 bx) we)) (aw (dj (PW.pt (qP (gB (fQ (PE.or (dk (pv 2) T.num.cl (A5 T) hr.mono) (dk (pv 2) T.eW.cl (A7 T) hr.mono)))) (nZ (cB C0 (cD bt (by rfl) T.b.dM cJ (aH (pv 3) ao)) (PE.or (dk (pv 2) T.num.cl (lG T) hr.mono) (dk (pv 2) T.eW.cl (lH T) hr.mono)) (cx _))))) (aF (aX jQ)) bO) (aw (dj (gB (fQ (bC (mS T) hr.mono rfl (aH (pv 3) (aH bx (aH (cU T.k.Ga rfl) ao)))))) (aF (aX jQ)) bO) (aw (dZ (pv 2) (gU rfl (own:=[("cost",4)]) iD.nd (dC (pv 3)) (cM (by kernel_rfl)) (λ_ _ _ _ _=>(bQ (i:=4) iD.nd rfl fo)) (λ_ _ _ _ _=>eK) (λ_ _ _ _ _=>(qZ rX (by rfl) T.b.Tz MY (aH (pv 4) ao)))) rfl) (aw (dZ (pv 0) lu rfl) (aF (aX (bC (Gu T) hr.mono rfl (aH (bj (pv 2) rfl) ao)))))))))),?_⟩;refine aZ ?_;refine⟨_,rfl,r,A.eM,dx,_,_,rfl,R.ins,T.eM.cl,T.eM.lQ,kO,?_⟩;refine b8 ?_;refine aZ ?_;refine⟨_,rfl,_,rfl,b,_,rfl,bD.of hb,λD hD=>?_⟩;rw[show uK (eO ((text "costs"::rest).map iq)) (some 1) none=eO (rest.map iq) from by rw[show(1:Int)=((1:Nat):Int) from rfl,rG,EE];rfl];refine b8 ?_;have s0:aS H (upd H D (.lst (eO (rest.map iq)))):=aB hD;have Gv:(upd H D (.lst (eO (rest.map iq)))) D=some (.lst (eO (rest.map iq))):=ag;generalize upd H D (.lst (eO (rest.map iq)))=G at s0 Gv⊢;refine aZ ?_;have main:∀(G1:Hp),aS G G1->filled c.kind=true->rest.length=levels c.kind->
    ∀H1,aS G1 H1->(rest.map iq).all (fq 0 10000)=true->∀(D2:af)(H2:Hp),H1 D2=none->aS H1 H2->H2 D2=some (.lst (gP (rest.map value)))->
    ∃C pL fs,H2 a=some (.ins C pL fs)/\C4 K C/\dR K C "costs"/\fs.length<1000/\
    (∀y,(dX "costs" y fs).lookup ("costs":Str)=some y)/\
    (l6 (rest.map value)=true->∀H3,aS (upd (upd H2 a (.ins C pL (dX "costs" (.ref D2) fs))) r (.ins A.eM dx (gG (.ref lc) .gT (Cn fm) (.ref lv)))) H3->JF A M H0 H3 r {fm with columns:=cs++[{c with costs:=rest.map value}]}):=λG1 sg hf yJ H1 s1 kL D2 H2 BR s2 e2=>by
   have Q3:aS H H2:=s0.trans (sg.trans (s1.trans s2));have R2:=R.mono Q3;have IZ:=ho.mono Q3;have EF:H D2=none:=s0.free (sg.free (s1.free BR));have ra:r≠a:=λz=>ho.1 (by rw[z];simp);have lca:lc≠a:=λz=>ho.1 (by rw[z];simp);have rlc:r≠lc:=gA R.ins R.cols (λz=>nomatch z);have kJ:rest.map value≠[]:=λz=>by have h1:=sd c.kind;have:rest=[]:=ju.mp z;rw[this] at yJ;simp at yJ;omega
   have aM:¬a∈M:=tr.not (R.new a Py);have fin:∀(C pL:af)(fs:List (Str×V)),H2 a=some (.ins C pL fs)->
     (∀H3:Hp,H3 a=some (.ins C pL (dX "costs" (.ref D2) fs))->aS (cut H2 (N++M)) (cut H3 ([r,lc]++M))->H3 D2=some (.lst (gP (rest.map value)))->(∀l,l∈N->¬l∈[r,lc]->l≠a->∀o,H2 l=some o->H3 l=some o)->iL A (cut H3 ([r,lc]++M)) a {c with costs:=rest.map value})->
     ∀H3,aS (upd (upd H2 a (.ins C pL (dX "costs" (.ref D2) fs))) r (.ins A.eM dx (gG (.ref lc) .gT (Cn fm) (.ref lv)))) H3->JF A M H0 H3 r {fm with columns:=cs++[{c with costs:=rest.map value}]}:=λC pL fs g1 Gj H3 s3=>by
    have e3:H3 a=some (.ins C pL (dX "costs" (.ref D2) fs)):=s3 _ _ (by rw[ax ra.symm,ag]);have out:∀b' o,H2 b'=some o->b'≠a->b'≠r->H3 b'=some o:=λb' o e n1 n2=>s3 _ _ (by rw[ax n2,ax n1];exact e);have sc:aS (cut H2 (N++M)) (cut H3 ([r,lc]++M)):=wC (λb' o e n=>out b' o e (λz=>n (by rw[z];exact aD.mpr (.inl Py))) (λz=>n (by rw[z];exact aD.mpr (.inl R.rN)))) (λb' Cj=>by
     refine .inr ?_;rcases aD.mp Cj with q|q
     ·simp at q;rcases q with rfl|rfl
      ·exact aD.mpr (.inl R.rN)
      ·exact aD.mpr (.inl R.lN)
     ·exact aD.mpr (.inr q))
    have hc3:=Gj H3 e3 sc (out _ _ e2 (λz=>by rw[<-z] at Py;exact R.held.not EF Py) (λz=>by have:=R.ins;rw[<-z,EF] at this;cases this)) (λl hl hx ha o e=>out l o e ha (λz=>hx (by rw[z];simp)));refine⟨[r,lc],dx,lc,lv,as,.gT,λb' o e=>?_,λb' Cj=>?_,λb' Cj=>?_,by simp,by simp,s3 _ _ ag,out _ _ R2.cols lca rlc.symm,sc _ _ R2.vals,.inl ⟨LI wf op kJ,rfl,?_⟩⟩
    ·exact out b' o (R2.same _ _ e) (aQ e (R.new a Py)) (aQ e (R.new r R.rN))
    ·simp at Cj;rcases Cj with rfl|rfl
     ·exact R.new _ R.rN
     ·exact R.new _ R.lN
    ·simp at Cj;rcases Cj with rfl|rfl
     ·exact⟨_,s3 _ _ ag⟩
     ·exact⟨_,out _ _ R2.cols lca rlc.symm⟩
    ·show dh _ as (cs++[{c with costs:=rest.map value}]);rw[has];exact Paired.snoc (Paired.mono (λ_ _ z=>z.mono ((dJ Q3).trans sc)) Vi) hc3
   have acR:∀H3:Hp,∀o,H3 a=some o->cut H3 ([r,lc]++M) a=some o:=λH3 o e=>by
    rw[cX (λz=>by
     rcases aD.mp z with q|q
     ·exact ho.1 q
     ·exact aM q)]
    exact e
   have cutD:∀H3:Hp,∀o,H3 D2=some o->cut H3 ([r,lc]++M) D2=some o:=λH3 o e=>by
    rw[cX (λz=>by
     rcases aD.mp z with q|q
     ·simp at q;rcases q with q|q
      ·have:=R.ins;rw[<-q,EF] at this;cases this
      ·have:=R.cols;rw[<-q,EF] at this;cases this
     ·exact tr.not (R.same.free EF) q)]
    exact e
   rcases wF c with⟨st,ek⟩|⟨up,ek⟩
   ·obtain⟨pL,l,m,g1,g2,g3⟩:=IZ.num ek;refine⟨A.num,pL,_,g1,T.num.cl,T.num.oC,by show 3<1000;decide,λy=>by rw[tO,qi],λ_=>fin _ _ _ g1 λH3 e3 sc e4 _=>?_⟩;rw[tO] at e3;exact iL.ofNum (s:=st) ek ⟨pL,l,D2,acR _ _ e3,sc _ _ g2,cutD _ _ e4⟩
   ·obtain⟨pL,l,m,CS,hlN,hlX,g1,g2,g3,g4⟩:=IZ.eW ek;have la:l≠a:=gA g2 g1 (λz=>nomatch z);refine⟨A.eW,pL,_,g1,T.eW.cl,T.eW.oC,by show 4<1000;decide,λy=>by rw[tP,qj],λ_=>fin _ _ _ g1 λH3 e3 sc e4 hl=>?_⟩;rw[tP] at e3;refine iL.acQ (up:=up) ek ⟨pL,l,D2,CS,acR _ _ e3,?_,Paired.mono (λ_ _ z=>z.mono sc) g3,cutD _ _ e4⟩;rw[cX (λz=>by
     rcases aD.mp z with q|q
     ·exact hlX q
     ·exact tr.not (R.new l hlN) q)]
    exact hl l hlN hlX la _ g2
  have R0:=R.mono s0;refine Q4 (c:=c) rfl (ho.mono s0) (λG1 sg=>⟨_,rfl,km (λe1=>kC ?_) (λe1=>?_)⟩)
  ·exact mx (by rw[e1];rfl) _ (R.same.trans (s0.trans sg))
  ·refine⟨_,rfl,D,_,rfl,.inl (bD.of (sg _ _ Gv)),Uw (c:=c) rfl (ho.mono (s0.trans sg)) e1 ⟨rfl,_,rfl,?_⟩⟩;rw[d9,aa];refine vc (λe2=>?_) (λe2=>?_)
   ·have:¬rest.length=levels c.kind:=λq=>e2 (by rw[q]);exact mx (by rw[decide_eq_false this,iG,iI]) _ (R.same.trans (s0.trans sg))
   ·have yJ:rest.length=levels c.kind:=by injection e2 with e2;omega
    refine cN ?_;refine aZ ?_;refine⟨_,rfl,D,rest.map iq,0,10000,rfl,bD.of (sg _ _ Gv),by rw[aa];exact ak wD (by decide),λx hx=>?_,λH1 s1=>⟨_,rfl,km (λe3=>?_) (λe3=>?_)⟩⟩
    ·obtain⟨y,hy,rfl⟩:=aq.mp hx;rw[m9];exact ak (hrx y hy) (by decide)
    ·rw[Jf] at e3;exact mx (by rw[e3];simp) _ (R.same.trans (s0.trans (sg.trans s1)))
    ·refine cN ?_;refine aZ ?_;have RJ:rest.all (fq 0 10000)=true:=by rw[<-Jf];exact e3
     have Uq:rest.map iq=rest:=by
      conv=>rhs;rw[<-Ar rest]
      refine dc λx hx=>?_;exact Hn (b0.mp RJ x hx)
     rw[Uq] at Gv;refine fw ?_;refine⟨_,rfl,D,rfl,⟨_,bD.of (s1 _ _ (sg _ _ Gv))⟩,?_⟩;refine jL (l:=rest) (enc:=λl=>.str (sN l)) (f:=λl=>.int ((value l:Nat):Int)) (bD.of (s1 _ _ (sg _ _ Gv))) (ak wD (by decide)) (λi x H' RR hx k' Qp=>?_) (λD2 H2 BR s2 e4=>?_)
     ·have dI:=b0.mp RJ x (aL hx);obtain⟨q1,q2⟩:=LG dI;exact⟨rfl,_,rfl,_,_,rfl,Eu (uV dI) q1 q2,by rw[i5];omega,Qp _ (aS.refl _)⟩
     ·have e5:(rest.map λl=>V.int ((value l:Nat):Int))=gP (rest.map value):=by unfold gP;rw[aP];rfl
      rw[e5] at e4;obtain⟨C,pL,fs,g1,c1,c2,c3,c4,c5⟩:=main G1 sg e1 yJ H1 s1 e3 D2 H2 BR s2 e4;have Q3:aS H H2:=s0.trans (sg.trans (s1.trans s2));have ra:r≠a:=λz=>ho.1 (by rw[z];simp);have EF:H D2=none:=s0.free (sg.free (s1.free BR));have agf:D2≠a:=λz=>by rw[<-z] at Py;exact R.held.not EF Py
      have agg:D2≠r:=λz=>by have:=R.ins;rw[<-z,EF] at this;cases this
      refine⟨_,rfl,a,C,pL,fs,rfl,g1,c1,c2,c3,?_⟩;refine⟨_,rfl,r,A.eM,dx,_,rfl,by rw[ax ra];exact Q3 _ _ R.ins,T.eM.cl,T.eM.lQ,by show 4<1000;decide,?_⟩;rw[ql];refine⟨_,rfl,a,C,pL,_,_,rfl,by rw[ax ra.symm];exact ag,c1,c2,c4 _,D2,rest.map value,rfl,bD.of (by rw[ax agg,ax agf];exact e4),by rw[aa];have:=N3 cw;omega,λH3 s3=>?_⟩
      cases e6:l6 (rest.map value) with
      |true=>exact k2 _ (by rw[gC,e1,decide_eq_true yJ,RJ,e6];rfl) H3 (c5 e6 H3 s3)
      |false=>exact mx (by rw[e6];simp) H3 (aS.trans (mw (mw (R.same.trans Q3) (R.new a Py)) (R.new r R.rN)) s3)
end
end Bp
namespace Bp
open PySem PySem.Spec PyProof.Rows L2 Bm
open Vbslai (settled text distinct)
section
variable{P:bo}{w:bM}{K:ah}{mg:Str->Option aj}{base:cu}{A:Cl}
theorem Gw(ws:List aG):(ws.map iq).all dN=ws.all dN:=by rw[qK];congr 1;funext x;exact yb x
theorem yS(T:Txt K mg A):iR P w K mg base A.eM "take_secret" 3 ["self","words"] (sV A λf ws=>settled f=true/\∃rest,ws=text "secret"::rest):=by
 refine T.eM.Ig.ok pj (λvs H Q E h=>?_) (λf eC A' outer s H vs Q E hr h=>?_)
 ·obtain⟨r,b,M,H0,f,ws,rfl,_⟩:=h;rfl
 ·obtain⟨r,b,M,H0,fm,ws,rfl,tr,⟨N,dx,lc,lv,as,un,R⟩,wf,hb,CT,Jg,⟨gu,lT,CU⟩,k1,k2⟩:=h;refine⟨_,(aw (bZ (i:=2) pj.nd rfl fo (nq pQ (pv 1) (m8 bx) we)) (aw (dj (PW.pt (qP (cB CG (bj (pv 0) rfl) lu (cx _)) (nZ (gB (zc ip ip (cU T.k.D6 rfl) (cD bt (by rfl) T.b.dM cJ (aH (pv 2) ao)) (cU T.k.Ir rfl)))))) (aF (aX jQ)) bO) (aw (dj (PW.pt (qP (gB (fQ (cg (pv 0) T.eM.cl (pD T) hr.mono (aH (eG cO (pv 1) bx (λ_ _=>rfl)) ao)))) (nZ (gB (fQ (bC (IJ T) hr.mono rfl (aH (pv 2) ao))))))) (aF (aX jQ)) bO) (aw (dZ (pv 0) (eG cO (pv 1) bx (λ_ _=>rfl)) rfl) (aw (dZ (pv 0) (pv 2) rfl) (aF (aX (iT ji (cD Hg (by rfl) T.b.dM cJ (aH (qZ (KU rfl) (by rfl) T.b.Xg Tj (aH (pv 2) ao)) ao)) (cD bt (by rfl) T.b.dM cJ (aH (pv 2) ao)) (cx _))))))))),?_⟩;refine aZ ?_;refine⟨_,rfl,_,rfl,b,_,rfl,bD.of hb,λD hD=>?_⟩;rw[show uK (eO (ws.map iq)) (some 2) none=eO ((ws.drop 2).map iq) from by rw[ux,<-EE];exact rG _ 2];refine b8 ?_;have s0:aS H (upd H D (.lst (eO ((ws.drop 2).map iq)))):=aB hD;have Gv:(upd H D (.lst (eO ((ws.drop 2).map iq)))) D=some (.lst (eO ((ws.drop 2).map iq))):=ag;generalize upd H D (.lst (eO ((ws.drop 2).map iq)))=G at s0 Gv⊢;refine aZ ?_;have R0:=R.mono s0;have Y9:¬2<=(ws.drop 2).length->kl fm ws=none:=λh=>by
   rw[fO gu,CU];rw[CU] at h
   cases lT with
   |nil=>exact qY ..
   |cons n rest=>have h':¬2<=rest.length:=h;rw[pV,decide_eq_false h'];simp
  refine⟨_,rfl,r,A.eM,dx,_,_,rfl,R0.ins,T.eM.cl,T.eM.gw,jK,rfl,_,rfl,?_⟩;rw[LF];refine vc (λe1=>kC ?_) (λe1=>?_)
  ·refine k1 ?_ _ (R.same.trans s0);rw[fO gu,CU]
   cases lT with
   |nil=>exact qY ..
   |cons n rest=>rw[pV,decide_eq_false e1];simp
  ·refine⟨_,rfl,D,_,rfl,.inl (bD.of Gv),_,_,rfl,rfl,_,rfl,?_⟩;rw[d9,aa];refine fC (λe2=>?_) (λe2=>?_)
   ·have h2:2<=(ws.drop 2).length:=by have:(2:Int)<=((ws.drop 2).length:Nat):=e2;omega
    obtain⟨n,rest,zT⟩:∃n rest,lT=n::rest:=by
     cases lT with
     |nil=>rw[CU] at h2;simp at h2
     |cons x t=>exact⟨x,t,rfl⟩
    subst zT;subst CU;have hdr:(text "secret"::n::rest).drop 2=rest:=rfl;rw[hdr] at h2 Gv;have gC:=pV fm n rest;rw[<-fO gu] at gC;have mx:(decide (fm.secret=[])&&(decide (2<=rest.length)&&(decide (rest.length<=12)&&(newName fm n&&(rest.all dN&&distinct rest)))))=false->∀H',aS H0 H'->Q (.bl false) H':=λe=>k1 (by rw[gC,e];rfl);have wD:rest.length<=3000:=by simp at CT;omega
    have hrx:∀x∈rest,x.length<=3000:=λx hx=>Jg x (.tail _ (.tail _ hx));refine⟨_,_,rfl,rfl,_,rfl,?_⟩;rw[hdr];refine vc (λe3=>?_) (λe3=>?_)
    ·have:¬rest.length<=12:=λq=>e3 (by show((rest.length:Nat):Int)<=12;omega);exact mx (by rw[decide_eq_false this];simp) _ (R.same.trans s0)
    ·have h12:rest.length<=12:=by have:((rest.length:Nat):Int)<=12:=e3;omega
     refine cN ?_;refine aZ ?_;have RI:(eO ((text "secret"::n::rest).map iq))[1]? =some (.str (sN (iq n))):=rfl;have Zq:n.length<=3000:=Jg n (by simp);refine⟨_,rfl,r,dx,_,rfl,R0.ins,nI,_,rfl,b,_,_,_,rfl,rfl,bD.of (s0 _ _ hb),cG (j:=1) RI,r,M,H0,fm,iq n,rfl,⟨N,dx,lc,lv,as,un,R0⟩,by have:=wf.len;omega,by rw[m9];omega,λH1 s1=>⟨_,rfl,?_⟩⟩;rw[nO];refine km (λe4=>kC ?_) (λe4=>?_)
     ·exact mx (by rw[e4];simp) _ (R.same.trans (s0.trans s1))
     ·refine⟨_,rfl,D,rest.map iq,rfl,bD.of (s1 _ _ Gv),by rw[aa];exact ak wD (by decide),λx hx=>?_,λH2 s2=>⟨_,rfl,?_⟩⟩
      ·obtain⟨y,hy,rfl⟩:=aq.mp hx;rw[m9];exact ak (hrx y hy) (by decide)
      ·rw[Gw];refine km (λe5=>?_) (λe5=>?_)
       ·exact mx (by rw[e5];simp) _ (R.same.trans (s0.trans (s1.trans s2)))
       ·refine cN ?_;have Wr:dN n=true:=by have:=e4;unfold newName at this;rw[aK] at this;exact this.1
        have Uq:rest.map iq=rest:=by
         conv=>rhs;rw[<-Ar rest]
         refine dc λx hx=>?_;exact jS (b0.mp e5 x hx)
        rw[Uq] at Gv;rw[jS Wr] at RI;have Q3:=s0.trans (s1.trans s2);have R2:=R.mono Q3;have hD0:D≠r:=(aQ R.ins hD).symm;have RC:D≠lc:=(aQ R.cols hD).symm;refine⟨_,rfl,b,_,_,_,rfl,rfl,bD.of (Q3 _ _ hb),cG (j:=1) RI,_,rfl,r,A.eM,dx,_,rfl,R2.ins,T.eM.cl,T.eM.gw,by show 4<1000;decide,?_⟩;rw[uj];refine⟨_,rfl,_,rfl,r,A.eM,dx,_,rfl,ag,T.eM.cl,T.eM.d4,by show 4<1000;decide,?_⟩;rw[ro,OE];have BR:H2 D=some (.lst (eO rest)):=s2 _ _ (s1 _ _ Gv);have hD3:(upd H2 r (.ins A.eM dx (gG (.ref lc) un (.str (sN n)) (.ref D)))) D=some (.lst (eO rest)):=by rw[ax hD0];exact BR
        refine⟨_,rfl,D,rest.map zO,rfl,bD.of (by rw[<-Lk];exact hD3),by rw[aa];omega,λp hp=>?_⟩;refine⟨p,_,rfl,ag,?_⟩;refine⟨_,rfl,D,_,rfl,.inl (bD.of (aB hp _ _ hD3)),rfl,?_⟩;rw[T6 Pq,aa,d9];have sF:aS H0 (upd (upd H2 r (.ins A.eM dx (gG (.ref lc) un (.str (sN n)) (.ref D)))) p (T2 (FI SS P w K mg base ["self","words","secrets"] "FormReader.take_secret" (aN jI) f eC A' outer s H E).Vv.prog (FI SS P w K mg base ["self","words","secrets"] "FormReader.take_secret" (aN jI) f eC A' outer s H E).Vv.w p ((dd rest).map zO))):=(mw (R.same.trans Q3) (R.new r R.rN)).trans (aB hp);by_cases Wx:rest.Nodup
        ·have e6:(dd rest).length=rest.length:=Dq.mpr Wx;rw[e6,decide_eq_true rfl];refine k2 {fm with secret:=n,values:=rest} (by rw[gC,decide_eq_true e1,decide_eq_true h2,decide_eq_true h12,e4,e5,(r8 rest).mpr Wx];rfl) _ ⟨N,dx,lc,D,as,un,?_⟩;refine rH.mono (aB hp) ?_;have rlc:r≠lc:=gA R.ins R.cols (λz=>nomatch z);have sc:aS (cut H2 (N++M)) (cut (upd H2 r (.ins A.eM dx (gG (.ref lc) un (.str (sN n)) (.ref D)))) (N++M)):=by rw[sm (aD.mpr (.inl R.rN))];exact aS.refl _
         refine⟨mw R2.same (R.new r R.rN),R.new,λb' Cj=>?_,R.rN,R.lN,?_,by rw[ax rlc.symm];exact R2.cols,?_,.inl ⟨?_,?_,?_⟩⟩
         ·obtain⟨o,eo⟩:=R2.held b' Cj;by_cases z:b'=r
          ·rw[z];exact⟨_,ag⟩
          ·rw[ax z];exact⟨o,eo⟩
         ·rw[ag];unfold Cn;rw[if_neg (AL Wr)]
         ·rw[cX (λz=>by
           rcases aD.mp z with q|q
           ·exact R.held.not hD q
           ·exact tr.not (R.same.free hD) q)]
          exact hD3
         ·exact gu
         ·rcases R2.st with⟨_,q,_⟩|⟨cs,c,JE,a,h1,_⟩
          ·exact q
          ·rw[hU h1] at gu;cases gu
         ·rcases R2.st with⟨_,_,q⟩|⟨cs,c,JE,a,h1,_⟩
          ·exact Paired.mono (λ_ _ z=>z.mono sc) q
          ·rw[hU h1] at gu;cases gu
        ·have e6:¬(dd rest).length=rest.length:=λq=>Wx (Dq.mp q);rw[decide_eq_false (λz=>e6 (by injection z with z;omega))];refine mx ?_ _ sF;rw[show distinct rest=false by rw[<-GD,r8];exact Wx];simp
   ·have:¬2<=(ws.drop 2).length:=λq=>e2 (by show(2:Int)<=((ws.drop 2).length:Nat);omega);exact⟨_,rfl,kC (k1 (Y9 this) _ (R.same.trans s0))⟩
theorem kR{x:aG}{s:String}(hs:(text s).all Vbslai.isSmall=true)(e:aR s=sN (text s)):V.str (sN (iq x))=V.str (aR s)↔x=text s:=by
 rw[e];constructor
 ·intro h;injection h with h
  exact(rZ hs).mp (vG h)
 ·intro h;rw[h,oM hs]
theorem EG:aR "numbers"=sN (text "numbers"):=by decide+kernel
theorem LJ:aR "words"=sN (text "words"):=by decide+kernel
theorem PD:aR "word"=sN (text "word"):=by decide+kernel
theorem EH:aR "costs"=sN (text "costs"):=by decide+kernel
theorem Bc:aR "secret"=sN (text "secret"):=by decide+kernel
theorem rJ(T:Txt K mg A)(Y:Zo K A):iR P w K mg base A.eM "take_line_within" 5 ["self","words"] (sV A λf ws=>settled f=false/\ws≠[]):=by
 refine T.eM.zA.ok rp (λvs H Q E h=>?_) (λf eC A' outer s H vs Q E hr h=>?_)
 ·obtain⟨r,b,M,H0,f,ws,rfl,_⟩:=h;rfl
 ·obtain⟨r,b,M,H0,fm,ws,rfl,tr,hR,wf,hb,CT,Jg,⟨gu,kJ⟩,k1,k2⟩:=h;obtain⟨N,dx,lc,lv,as,un,R⟩:=id hR
  cases ws with
  |nil=>exact absurd rfl kJ
  |cons x rest=>
   have h0:(eO ((x::rest).map iq))[0]? =some (.str (sN (iq x))):=rfl;obtain⟨cs,c,JE,a,op,_⟩:=R.Uu gu;refine⟨_,(aw (dj (cB ji (eG cO (pv 1) bx (λ_ _=>rfl)) eX (cx _)) (aF (aX (cg (pv 0) T.eM.cl (Bb T Y) hr.mono (aH (pv 1) ao)))) bO)
   (aw (dj (cB ji (eG cO (pv 1) bx (λ_ _=>rfl)) eX (cx _)) (aF (aX (cg (pv 0) T.eM.cl (zV T) hr.mono (aH (pv 1) ao)))) bO)
   (aF (aX jQ)))),?_⟩
   refine⟨_,rfl,b,_,_,_,rfl,rfl,bD.of hb,cG (j:=0) h0,rfl,_,rfl,fC (λe1=>?_) (λe1=>?_)⟩
   ·have e2:=(kR (by decide+kernel) PD).mp e1;exact⟨_,rfl,r,dx,_,rfl,R.ins,yw,_,rfl,r,b,M,H0,fm,x::rest,rfl,tr,hR,wf,hb,CT,Jg,⟨gu,rest,by rw[e2]⟩,k1,k2⟩
   ·have n1:x≠text "word":=λq=>e1 ((kR (by decide+kernel) PD).mpr q);refine cN ?_;refine⟨_,rfl,b,_,_,_,rfl,rfl,bD.of hb,cG (j:=0) h0,rfl,_,rfl,fC (λe2=>?_) (λe2=>?_)⟩
    ·have e3:=(kR (by decide+kernel) EH).mp e2;exact⟨_,rfl,r,dx,_,rfl,R.ins,wO,_,rfl,r,b,M,H0,fm,x::rest,rfl,tr,hR,wf,hb,CT,Jg,⟨gu,rest,by rw[e3]⟩,k1,k2⟩
    ·have n2:x≠text "costs":=λq=>e2 ((kR (by decide+kernel) EH).mpr q);exact k1 (Dz op n1 n2) H R.same
theorem Bd(T:Txt K mg A)(Y:Zo K A):iR P w K mg base A.eM "take_line" 6 ["self","words"] (sV A λf ws=>ws≠[]):=by
 refine T.eM.M3.ok AZ (λvs H Q E h=>?_) (λf eC A' outer s H vs Q E hr h=>?_)
 ·obtain⟨r,b,M,H0,f,ws,rfl,_⟩:=h;rfl
 ·obtain⟨r,b,M,H0,fm,ws,rfl,tr,hR,wf,hb,CT,Jg,kJ,k1,k2⟩:=h;obtain⟨N,dx,lc,lv,as,un,R⟩:=id hR;refine⟨_,(aw (dj (cB CG (bj (pv 0) rfl) lu (cx _)) (aF (aX (cg (pv 0) T.eM.cl (rJ T Y) hr.mono (aH (pv 1) ao)))) bO) (aw (dj (cB ji (eG cO (pv 1) bx (λ_ _=>rfl)) eX (cx _)) (aF (aX (cg (pv 0) T.eM.cl (xf T) hr.mono (aH (pv 1) ao)))) bO) (aw (dj (cB ji (eG cO (pv 1) bx (λ_ _=>rfl)) eX (cx _)) (aF (aX (cg (pv 0) T.eM.cl (zU T) hr.mono (aH (pv 1) ao)))) bO) (aw (dj (cB ji (eG cO (pv 1) bx (λ_ _=>rfl)) eX (cx _)) (aF (aX (cg (pv 0) T.eM.cl (yS T) hr.mono (aH (pv 1) ao)))) bO) (aF (aX jQ)))))),?_⟩;refine⟨_,rfl,r,A.eM,dx,_,_,rfl,R.ins,T.eM.cl,T.eM.lQ,kO,rfl,_,rfl,?_⟩;rw[R.un];refine km (λe1=>?_) (λe1=>?_)
  ·exact⟨_,rfl,r,dx,_,rfl,R.ins,pK,_,rfl,r,b,M,H0,fm,ws,rfl,tr,hR,wf,hb,CT,Jg,⟨e1,kJ⟩,k1,k2⟩
  ·refine cN ?_
   cases ws with
   |nil=>exact absurd rfl kJ
   |cons x rest=>
    have h0:(eO ((x::rest).map iq))[0]? =some (.str (sN (iq x))):=rfl;refine⟨_,rfl,b,_,_,_,rfl,rfl,bD.of hb,cG (j:=0) h0,rfl,_,rfl,fC (λe2=>?_) (λe2=>?_)⟩
    ·have e3:=(kR (by decide+kernel) EG).mp e2;exact⟨_,rfl,r,dx,_,rfl,R.ins,ui,_,rfl,r,b,M,H0,fm,x::rest,rfl,tr,hR,wf,hb,CT,Jg,⟨e1,rest,by rw[e3]⟩,k1,k2⟩
    ·have n1:x≠text "numbers":=λq=>e2 ((kR (by decide+kernel) EG).mpr q);refine cN ?_;refine⟨_,rfl,b,_,_,_,rfl,rfl,bD.of hb,cG (j:=0) h0,rfl,_,rfl,fC (λe3=>?_) (λe3=>?_)⟩
     ·have e4:=(kR (by decide+kernel) LJ).mp e3;exact⟨_,rfl,r,dx,_,rfl,R.ins,wN,_,rfl,r,b,M,H0,fm,x::rest,rfl,tr,hR,wf,hb,CT,Jg,⟨e1,rest,by rw[e4]⟩,k1,k2⟩
     ·have n2:x≠text "words":=λq=>e3 ((kR (by decide+kernel) LJ).mpr q);refine cN ?_;refine⟨_,rfl,b,_,_,_,rfl,rfl,bD.of hb,cG (j:=0) h0,rfl,_,rfl,fC (λe4=>?_) (λe4=>?_)⟩
      ·have e5:=(kR (by decide+kernel) Bc).mp e4;exact⟨_,rfl,r,dx,_,rfl,R.ins,vB,_,rfl,r,b,M,H0,fm,x::rest,rfl,tr,hR,wf,hb,CT,Jg,⟨e1,rest,by rw[e5]⟩,k1,k2⟩
      ·have n3:x≠text "secret":=λq=>e4 ((kR (by decide+kernel) Bc).mpr q);refine k1 ?_ H R.same;rw[fO e1];by_cases q1:x=text "word"
       ·rw[q1];exact pW wf e1 rest
       ·by_cases q2:x=text "costs"
        ·rw[q2];exact oX e1 rest
        ·exact ye fm x rest n1 n2 q1 q2 n3
end
end Bp
namespace Bp
open PySem PySem.Spec PyProof.Rows L2 Bm
open Vbslai (settled linesOf wordsOf)
theorem rH.base{A:Cl}{M:List af}{H0 H:Hp}{r:af}{f:dY}{N:List af}{dx lc lv:af}{as:List af}{un:V}(R:rH A M H0 H r f N dx lc lv as un):rH A M (cut H N) H r f N dx lc lv as un:=⟨bU _ _,λb hb=>vd hb,R.held,R.rN,R.lN,R.ins,R.cols,R.vals,R.st⟩
theorem vQ(c:Nat):∀l:aG,(∀x∈df c l,x.length<=l.length)/\(df c l).length<=l.length+1
 |[]=>by simp[df]
 |a::l=>by
  have ih:=vQ c l;unfold df;split
  ·refine⟨λx hx=>?_,by simp;omega⟩;rcases aA.mp hx with q|q
   ·rw[q];simp
   ·have:=ih.1 x q;rw[aV];omega
  ·split
   ·exact⟨λx hx=>by simp at hx;subst hx;simp,by simp⟩
   ·rename_i w r e;rw[e] at ih;refine⟨λx hx=>?_,by have:=ih.2;simp at this⊢;omega⟩;rcases aA.mp hx with q|q
    ·rw[q];have:=ih.1 w (by simp);simp;omega
    ·have:=ih.1 x (.tail _ q);rw[aV];omega
theorem Q5(l:aG):(wordsOf l).length<=l.length+1/\∀x∈wordsOf l,x.length<=l.length:=by unfold adF;have h:=vQ 32 l;exact⟨ak (dO ..) h.2,λx hx=>h.1 x (bE.mp hx).1⟩
theorem Q6(t:aG):(linesOf t).length<=t.length+1/\∀x∈linesOf t,x.length<=t.length:=by
 unfold adE;have h:=vQ 10 t;dsimp only;split
 ·exact⟨by rw[List.length_dropLast];omega,λx hx=>h.1 x ((List.dropLast_sublist _).subset hx)⟩
 ·exact⟨h.2,h.1⟩
section
variable{P:bo}{w:bM}{K:ah}{mg:Str->Option aj}{base:cu}{A:Cl}
def LK(K:ah)(A:Cl):Sp:=λvs H Q _=>∃(r b:af)(M:List af)(H0:Hp)(t:aG),vs=[.ref r,.ref b]/\Tr M H0/\JF A M H0 H r {}/\bD K H b (gP t)/\t.length<=2100/\
 (∀i,rS t=.error i->∀H',aS H0 H'->Q (.int (i:Nat)) H')/\(∀f,rS t=.ok f->∀H',JF A M H0 H' r f->Q (.int 0) H')
theorem LL(T:Txt K mg A)(Y:Zo K A):iR P w K mg base A.eM "read" 7 ["self","data"] (LK K A):=by
 refine T.eM.ab1.ok nJ (λvs H Q E h=>?_) (λf eC A' outer s H vs Q E hr h=>?_)
 ·obtain⟨r,b,M,H0,t,rfl,_⟩:=h;rfl
 ·obtain⟨r,b,M,H0,t,rfl,tr,⟨N,dx,lc,lv,as,un,R⟩,hb,ht,k1,k2⟩:=h;have Pp:=Q6 t;refine⟨_,(aw (bZ (i:=2) nJ.nd rfl fo (bC (K1 T) hr.mono rfl (aH (pv 1) ao))) (aw (lA dz rfl (Ue (by rfl) T.b.Kw (aH (pv 2) ao)) (CY (n:=2) rfl (fR (bQ (i:=3) nJ.nd rfl fo) (fR (bQ (i:=4) nJ.nd rfl fo) oz))) (aw (bZ (i:=5) nJ.nd rfl fo (bC (K5 T) hr.mono rfl (aH (pv 4) ao))) (aF (dj (PW.pt (Hz (cB (zI hr.AD) (pv 5) (bV ao) (cx _)) (CF (gB (fQ (cg (pv 0) T.eM.cl (Bd T Y) hr.mono (aH (pv 5) ao))))))) (aF (aX (pv 3))) bO)))) (aw (dj (fQ (dk (pv 0) T.eM.cl (yO T) hr.mono)) (aF (aX bx)) bO) (aF (aX (fh oU (cD bt (by rfl) T.b.dM cJ (aH (pv 2) ao)) bx)))))),?_⟩;refine aZ ?_;refine⟨_,rfl,b,t,rfl,hb,by omega,λD ls H1 hD s1 MM RC hP=>?_⟩;refine b8 ?_;refine aZ ?_;have R1:=R.mono s1;have trN:Tr M (cut H1 N):=λm hm=>by
   obtain⟨o,eo⟩:=tr m hm;have:¬m∈N:=λq=>by rw[R.new m q] at eo;cases eo
   exact⟨o,by rw[cX this];exact R1.same _ _ eo⟩
  have h00:aS H0 (cut H1 N):=λc o e=>by
   rw[cX (λq=>by rw[R.new c q] at e;cases e)];exact R1.same _ _ e
  have hDN:(cut H1 N) D=some (.lst (iJ ls)):=by rw[cX (R.held.not hD)];exact RC
  have hPN:dh (Y7 (cut H1 N)) ls (linesOf t):=wB (Paired.len hP) λi a l e1 e2=>by
   obtain⟨l',e3,h3⟩:=Paired.vH hP e1;rw[e2] at e3;cases e3;show cut H1 N a=_;rw[cX (R.held.not (MM a (aL e1)))];exact h3
  have Ey:=Paired.len hP;refine⟨_,rfl,D,_,rfl,bD.of RC,IB (n:=(linesOf t).length) (λi σ H'=>∃(v3 v4 v5:Option V)(fi:dY),σ=[some (.ref r),some (.ref b),some (.ref D),v3,v4,v5]/\JF A M (cut H1 N) H' r fi/\Fo fi/\mK (i+1) fi ((linesOf t).drop i)=rS t) ⟨none,none,none,{},rfl,⟨N,dx,lc,lv,as,un,R1.base⟩,Fo.start,rfl⟩ (λi σ H' hi p=>?_) (λσ H' p=>?_) (λi xv σ H' nL hi p y=>?_) (λσ H' p=>?_)⟩
  ·obtain⟨_,_,_,fi,rfl,⟨_,_,_,_,_,_,R'⟩,_⟩:=p;exact⟨_,_,bD.of (R'.same _ _ hDN),au (by rw[ck];omega)⟩
  ·obtain⟨_,_,_,fi,rfl,⟨_,_,_,_,_,_,R'⟩,_⟩:=p;exact⟨_,bD.of (R'.same _ _ hDN),by rw[ck];omega⟩
  ·obtain⟨v3,v4,v5,fi,rfl,Ex,wf,tY⟩:=p;obtain⟨T1,x,rfl,Hf,rfl,hx⟩:=y;have sR:aS (cut H1 N) H':=by obtain⟨_,_,_,_,_,_,R'⟩:=Ex;exact R'.same
   obtain⟨la,hla,rfl⟩:=kh (hx _ (bD.of (sR _ _ hDN)));obtain⟨l,hl,agh⟩:=Paired.vH hPN hla;have hlm:=aL hl;have og:=Pp.2 l hlm;have hw:=Q5 l;have sT:aS H' (upd H' T1 (.tup [.int ((i+1:Nat):Int),.ref la])):=aB Hf;have acS:(linesOf t).drop i=l::(linesOf t).drop (i+1):=by obtain⟨h1,h2⟩:=b9.mp hl;rw[<-h2];exact dD h1
   rw[acS,xw] at tY;refine⟨T1,_,rfl,nj.of ag,rfl,_,_,rfl,_,_,rfl,rfl,?_⟩;refine aZ ?_;refine⟨_,rfl,la,l,rfl,bD.of (sT _ _ (sR _ _ agh)),by omega,λW H3 hW s3 e3=>?_⟩;refine b8 ?_;have hR3:JF A M (cut H1 N) H3 r fi:=JF.mono (sT.trans s3) Ex;have cont:mK (i+1+1) fi ((linesOf t).drop (i+1))=rS t->∀H4,aS H3 H4->∃(v3 v4 v5:Option V)(fi:dY),[some (V.ref r),some (.ref b),some (.ref D),some (.int ((i+1:Nat):Int)),some (.ref la),some (.ref W)]=[some (.ref r),some (.ref b),some (.ref D),v3,v4,v5]/\JF A M (cut H1 N) H4 r fi/\Fo fi/\mK (i+1+1) fi ((linesOf t).drop (i+1))=rS t:=λe H4 s4=>⟨_,_,_,fi,rfl,hR3.mono s4,wf,e⟩;refine⟨_,rfl,bB _,λq hq=>?_⟩;have s4:aS H3 (upd H3 q (.lst [])):=aB hq;refine⟨W,q,_,rfl,rfl,bD.of (s4 _ _ e3),bD.of ag,_,rfl,vc (λe1=>?_) (λe1=>?_)⟩
   ·have kJ:wordsOf l≠[]:=λz=>e1 (by rw[z];rfl);have agi:(wordsOf l).isEmpty=false:=by simpa using kJ
    rw[if_neg (by rw[agi];exact aY)] at tY;obtain⟨_,dx3,_,_,_,_,R3⟩:=id (hR3.mono s4);refine⟨_,rfl,r,dx3,_,rfl,R3.ins,yu,_,rfl,r,W,M,cut H1 N,fi,wordsOf l,rfl,trN,hR3.mono s4,wf,s4 _ _ e3,by omega,λx hx=>by have:=hw.2 x hx;omega,kJ,λLH H5 s5=>⟨_,rfl,?_⟩,λg hg H5 hR5=>⟨_,rfl,?_⟩⟩
    ·refine kC ⟨_,rfl,k1 (i+1) ?_ _ (h00.trans s5)⟩;rw[LH] at tY;exact tY.symm
    ·refine kK ?_;refine cN ?_;rw[hg] at tY;exact⟨_,_,_,g,rfl,hR5,wf.step hg,tY⟩
   ·refine kK ?_;refine cN ?_;have hE:wordsOf l=[]:=by
     have:(wordsOf l).map iq=[]:=by unfold eO at e1;exact ju.mp e1
     exact ju.mp this
    rw[if_pos (by rw[hE];rfl)] at tY;exact⟨_,_,_,fi,rfl,hR3.mono s4,wf,tY⟩
  ·obtain⟨v3,v4,v5,fi,rfl,Ex,wf,tY⟩:=p;rw[fb (aJ _)] at tY;obtain⟨N2,RF,lc2,lv2,as2,un2,R2⟩:=id Ex;refine⟨_,rfl,r,RF,_,rfl,R2.ins,vz,r,M,cut H1 N,fi,rfl,Ex,λH4 s4=>⟨_,rfl,DD (λe1=>?_) (λe1=>?_)⟩⟩
   ·have dI:rS t=.ok fi:=by rw[<-tY];unfold mK;simp only[aK,jd,decide_eq_true_eq] at e1;rw[if_pos ⟨e1.1,e1.2.1,e1.2.2⟩]
    refine k2 fi dI H4 ?_;obtain⟨N4,dx4,lc4,lv4,as4,un4,R4⟩:=Ex.mono s4;exact⟨N4,dx4,lc4,lv4,as4,un4,h00.trans R4.same,λb' Cj=>h00.free (R4.new b' Cj),R4.held,R4.rN,R4.lN,R4.ins,R4.cols,R4.vals,R4.st⟩
   ·refine cN ?_;have agj:rS t=.error ((linesOf t).length+1):=by
     rw[<-tY];unfold mK;rw[if_neg];intro q;have:(!fi.columns.isEmpty&&(settled fi&&decide (fi.secret≠[])))=true:=by rw[q.1,q.2.1,decide_eq_true q.2.2];rfl
     rw[this] at e1;cases e1
    have Fv:aS (cut H1 N) H4:=R2.same.trans s4;refine⟨_,rfl,D,_,rfl,.inl (bD.of (Fv _ _ hDN)),_,_,rfl,rfl,?_⟩;have:=k1 _ agj H4 (h00.trans Fv);show Q (V.int ((((iJ ls).length:Nat):Int)+1)) H4;rw[show(((iJ ls).length:Nat):Int)+1=(((linesOf t).length+1:Nat):Int) by rw[ck,Ey];omega];exact this
end
end Bp
namespace Bp
open PySem PySem.Spec PyProof.Rows L2 Bm
open Vbslai (text digits spaced)
theorem Ho:∀ls:List aG,TL.pT [] ls=ls.flatten
 |[]=>rfl
 |[w]=>by simp[TL.pT]
 |w::v::l=>by show w++([]++TL.pT [] (v::l))=_;rw[Ho (v::l)];simp
theorem Q7(ls:List aG):wb (aR "") (ls.map sN)=sN ls.flatten:=by rw[TL.join_eq];apply TL.uR;rw[TL.zh,show TL.tl (aR "")=[] by decide+kernel,A6,Ho];exact(lE _).symm
theorem iK{B:Nat}:∀ws:List aG,(∀x∈ws,x.length<=B)->(spaced ws).length<=ws.length*(B+1)
 |[],_=>bB _
 |[x],h=>by have h1:x.length<=B:=h x (by simp);show x.length<=1*(B+1);omega
 |x::y::l,h=>by have ih:=iK (y::l) λz hz=>h z (.tail _ hz);have h1:x.length<=B:=h x (by simp);show(x++(32::spaced (y::l))).length<=_;rw[aO,aV,aV (as:=y::l),Rw];omega
section
variable{P:bo}{w:bM}{K:ah}{mg:Str->Option aj}{base:cu}{A:Cl}
def Ux(K:ah):Sp:=λvs H Q _=>∃(a:af)(ls:List aG),vs=[.ref a]/\bD K H a (eO ls)/\(∀x∈ls,x.length<=1000)/\ls.length<=5000/\∀H',aS H H'->Q (.str (sN (ls.flatMap λl=>l++[10]))) H'
theorem LM(T:Txt K mg A):Def P w K mg base "ended" 1 ["lines"] (Ux K):=by
 refine T.Pb.ended.ok Eh (λvs H Q E h=>?_) (λf eC A' outer s H vs Q E hr h=>?_)
 ·obtain⟨a,ls,rfl,_⟩:=h;rfl
 ·obtain⟨a,ls,rfl,ha,hx,hn,k⟩:=h;refine⟨_,(aF (aX (DB eX (gU rfl (own:=[("line",1)]) Eh.nd (dC (pv 0)) (cM (by kernel_rfl)) (λ_ _ _ _ _=>(bQ (i:=1) Eh.nd rfl fo)) (λ_ _ _ _ _=>eK) (λ_ _ _ _ _=>(fh x6 (pv 1) eX)))))),?_⟩;refine⟨⟨_,rfl⟩,?_⟩;refine fw ?_;refine⟨_,rfl,a,rfl,⟨_,ha⟩,?_⟩;refine jL (l:=ls) (enc:=λl=>.str (sN l)) (f:=λl=>.str (sN (l++[10]))) ha (ak hn (by decide)) (λi x H' R hi k' hR=>?_) (λD H' hD hs he=>?_)
  ·have RH:=hx x (aL hi);refine⟨rfl,_,rfl,_,_,rfl,rfl,?_,?_⟩
   ·rw[i5];have:(aR "\n").length=1:=by decide+kernel
    rw[this];exact cT (dB (n:=1000) (by decide)|>λh=>bW (by omega:x.length+1<=1001) (by decide))
   ·rw[show aR "\n"=sN [10] by decide+kernel,yG];exact hR _ (aS.refl _)
  ·have e:(ls.map λl=>V.str (sN (l++[10])))=((ls.map λl=>l++[10]).map sN).map V.str:=by rw[aP,aP];rfl
   refine⟨_,D,_,rfl,rfl,.inl (bD.of (by rw[he,e])),oO (B:=1001) (N:=5000) ?_ ?_ (by decide+kernel),?_⟩
   ·intro x hx2;obtain⟨y,hy,rfl⟩:=aq.mp hx2;have:=hx y hy;rw[aO];show y.length+1<=1001;omega
   ·rw[aa];exact hn
   ·rw[Q7,<-List.flatMap_def];exact k H' hs
theorem Uy:aR ":"=sN (text ":"):=by decide+kernel
def Co(K:ah):Sp:=λvs H Q _=>∃(a b:af)(ls:List aG)(ns:List Nat),vs=[.ref a,.ref b]/\nj K H a (eO ls)/\H b=some (.lst (gP ns))/\ls.length<=10/\(∀x∈ls,x.length<=20)/\ns.length<=20/\(∀x∈ns,x<=1000000)/\
 ∀H',aS H H'->Q (.str (sN (spaced (ls++[text ":"]++ns.map digits)))) H'
theorem Cp(T:Txt K mg A):Def P w K mg base "release_line" 1 ["looks","counts"] (Co K):=by
 refine T.Pb.Ii.ok n6 (λvs H Q E h=>?_) (λf eC A' outer s H vs Q E hr h=>?_)
 ·obtain⟨a,b,ls,ns,rfl,_⟩:=h;rfl
 ·obtain⟨a,b,ls,ns,rfl,ha,hb,hl,hlx,hn,hnx,k⟩:=h;refine⟨_,(aF (aX (DB eX (fh jD (fh jD (qZ HI (by rfl) T.b.TB O6 (aH (pv 0) ao)) (bV (aH eX ao))) (gU rfl (own:=[("count",2)]) n6.nd (dC (pv 1)) (cM (by kernel_rfl)) (λ_ _ _ _ _=>(bQ (i:=2) n6.nd rfl fo)) (λ_ _ _ _ _=>eK) (λ_ _ _ _ _=>(qZ l4 (by rfl) T.b.Kx DC (aH (pv 2) ao)))))))),?_⟩;refine⟨⟨_,rfl⟩,_,rfl,a,_,rfl,.inr ha,λp hp=>?_⟩;refine⟨by show 1<=az;decide,λq hq=>⟨p,q,_,_,rfl,rfl,aB hq _ _ ag,ag,?_,λz hz=>?_⟩⟩
  ·rw[d9];show ls.length+1<=az;exact cT (dB (by omega))
  have s1:aS H (upd (upd (upd H p (.lst (eO ls))) q (.lst [V.str (aR ":")])) z (.lst (eO ls++[V.str (aR ":")]))):=((aB hp).trans (aB hq)).trans (aB hz);have Nz:(upd (upd (upd H p (.lst (eO ls))) q (.lst [V.str (aR ":")])) z (.lst (eO ls++[V.str (aR ":")]))) z=some (.lst (eO ls++[V.str (aR ":")])):=ag;generalize upd (upd (upd H p (.lst (eO ls))) q (.lst [V.str (aR ":")])) z (.lst (eO ls++[V.str (aR ":")]))=G at s1 Nz⊢;refine fw ?_;refine⟨_,rfl,b,rfl,⟨_,bD.of (s1 _ _ hb)⟩,?_⟩;refine jL (l:=ns) (enc:=λ(x:Nat)=>.int (x:Int)) (f:=λx=>.str (sN (digits x))) (bD.of (s1 _ _ hb)) (ak hn (by decide)) (λi x H' R hx k' hR=>?_) (λD H' hD hs he=>?_)
  ·refine⟨rfl,_,rfl,_,rfl,rA (hnx x (aL hx)),?_⟩;show R (.str (aR (lV ((x:Nat):Int)))) H';rw[zK];exact hR H' (aS.refl _)
  ·have e:(eO ls++[V.str (aR ":")])++ns.map (λx=>V.str (sN (digits x)))=((ls++[text ":"]++ns.map digits).map sN).map V.str:=by simp only[br,aP,IS,Uy];rfl
   refine⟨z,D,_,_,rfl,rfl,hs _ _ Nz,he,?_,λy hy=>?_⟩
   ·rw[aO,d9,aa];show ls.length+1+ns.length<=az;exact cT (dB (by omega))
   ·rw[e];refine⟨_,y,_,rfl,rfl,.inl (bD.of ag),oO (B:=20) (N:=40) ?_ ?_ (by decide+kernel),?_⟩
    ·intro x hx;rcases aD.mp hx with h|h
     ·rcases aD.mp h with h|h
      ·exact hlx x h
      ·have:x=text ":":=by simpa using h
       rw[this];decide
     ·obtain⟨v,hv,rfl⟩:=aq.mp h;exact ak (jr (k:=7) (by decide) (by have:=hnx v hv;omega)) (by decide)
    ·rw[aO,aO,aa];show ls.length+1+ns.length<=40;omega
    ·rw[qt];exact k _ ((s1.trans hs).trans (aB hy))
theorem jy{c:bw}(ok:O4 c):(dv c).length<=40/\∀x∈dv c,x.length<=200:=by
 have hn:=gn ok.nm;have h4:=pX ok;have hc:(spaced (text "costs"::c.costs.map digits)).length<=200:=by
  refine ak (iK (B:=10) _ λx hx=>?_) ?_
  ·rcases aA.mp hx with z|z
   ·rw[z];decide
   ·obtain⟨y,hy,rfl⟩:=aq.mp z;exact ak (jr (k:=7) (by decide) (by have:=ok.cb y hy;omega)) (by decide)
  ·rw[aV,aa,ok.cl];omega
 unfold dv;have kd:=ok.kd
 cases ek:c.kind with
 |numbers st=>
  rw[ek] at kd;refine⟨by simp,λx hx=>?_⟩;rcases aD.mp hx with h|h
  ·have:x=spaced (text "numbers"::c.name::st.map digits):=by simpa using h
   rw[this];refine ak (iK (B:=10) _ λx hx=>?_) ?_
   ·rcases aA.mp hx with z|z
    ·rw[z];decide
    ·rcases aA.mp z with z|z
     ·rw[z];exact hn
     ·obtain⟨y,hy,rfl⟩:=aq.mp z;exact ak (jr (k:=7) (by decide) (by have:=(kd.2 y hy).2;omega)) (by decide)
   ·rw[aV,aV,aa];have:=kd.1;omega
  ·have:x=spaced (text "costs"::c.costs.map digits):=by simpa using h
   rw[this];exact hc
 |words up=>
  rw[ek] at kd;have PB:l8 up:=kd;have hu:up.length<=30:=PB.le;refine⟨by simp;omega,λx hx=>?_⟩;rcases aD.mp hx with h|h
  ·rcases aA.mp h with z|z
   ·rw[z];refine ak (iK (B:=10) _ λx hx=>?_) (show 2*11<=200 by decide);rcases aA.mp hx with z|z
    ·rw[z];decide
    ·have:x=c.name:=by simpa using z
     rw[this];exact hn
   ·obtain⟨y,hy,rfl⟩:=aq.mp z;have hy1:=gn (PB.nm y hy)
    cases e2:y.2 with
    |none=>
     refine ak (iK (B:=10) _ λx hx=>?_) (show 2*11<=200 by decide);rcases aA.mp hx with z|z
     ·rw[z];decide
     ·have:x=y.1:=by simpa using z
      rw[this];exact hy1
    |some v=>
     have hv:v.length<=10:=by obtain⟨u,hu2,e⟩:=aq.mp (PB.cl y hy v e2);rw[<-e];exact gn (PB.nm u hu2)
     refine ak (iK (B:=10) _ λx hx=>?_) (show 4*11<=200 by decide);simp only[aA,ff,or_false] at hx;rcases hx with rfl|rfl|rfl|rfl
     ·decide
     ·exact hy1
     ·decide
     ·exact hv
  ·have:x=spaced (text "costs"::c.costs.map digits):=by simpa using h
   rw[this];exact hc
theorem pE(c:bw):dv c=(match c.kind with
  |.numbers s=>[spaced (text "numbers"::c.name::s.map digits)]
  |.words up=>spaced [text "words",c.name]::up.map qu)++[spaced (text "costs"::c.costs.map digits)]:=by
 unfold dv
 cases c.kind with
 |numbers s=>rfl
 |words up=>rfl
theorem pF{α β:Type}{f:α->List β}{B:Nat}:∀l:List α,(∀x∈l,(f x).length<=B)->(l.flatMap f).length<=l.length*B
 |[],_=>by simp
 |a::l,h=>by have ih:=pF l λx hx=>h x (.tail _ hx);have:=h a (.head _);rw[gY,aO,aV,Rw];omega
def Ji(A:Cl):Sp:=λvs H Q _=>∃(a:af)(fm:dY),vs=[.ref a]/\gM A H a fm/\iy fm/\∀H',aS H H'->Q (.str (sN (qN fm))) H'
theorem Jj(T:Txt K mg A):Def P w K mg base "form_text" 2 ["form"] (Ji A):=by
 refine T.Pb.QN.ok ml (λvs H Q E h=>?_) (λf eC A' outer s H vs Q E hr h=>?_)
 ·obtain⟨a,fm,rfl,_⟩:=h;rfl
 ·obtain⟨a,fm,rfl,F0,ok,k⟩:=h;obtain⟨ur,lc,lv,as,RE,hf2,hf3,hf4⟩:=id F0;have hlen:=Paired.len hf3;have RD:=ok.len;have bnd:∀i,(((fm.columns.take i).flatMap dv).length<=200)/\∀x∈(fm.columns.take i).flatMap dv,x.length<=200:=λi=>by
   constructor
   ·have h1:=pF (f:=dv) (B:=40) (fm.columns.take i) (λc hc=>(jy (ok.cols c (kT hc))).1);rw[cK] at h1;have:min i fm.columns.length*40<=4*40:=d7 _ (by omega);omega
   ·intro x hx;obtain⟨c,hc,hm⟩:=jz.mp hx;exact(jy (ok.cols c (kT hc))).2 x hm
  refine⟨_,(aw (bZ (i:=1) ml.nd rfl fo (bV ao)) (aw (lA dz rfl (dC (bj (pv 0) rfl)) (bQ (i:=2) ml.nd rfl fo) (aw (iC (oh bP mz mB wg (pv 1) (aH (PE.or (dk (pv 2) T.num.cl (vJ T) hr.mono) (dk (pv 2) T.eW.cl (vK T) hr.mono)) ao))) (aF (iC (oh bP cQ cR iZ (pv 1) (aH (DB eX (fh jD (bV (aH eX ao)) (gU rfl (own:=[("cost",3)]) ml.nd (dC (bj (pv 2) rfl)) (cM (by kernel_rfl)) (λ_ _ _ _ _=>(bQ (i:=3) ml.nd rfl fo)) (λ_ _ _ _ _=>eK) (λ_ _ _ _ _=>(qZ l4 (by rfl) T.b.Kx DC (aH (pv 3) ao)))))) ao)))))) (aw (iC (oh bP cQ cR iZ (pv 1) (aH (DB eX (fh jD (bV (aH eX (aH (bj (pv 0) rfl) ao))) (bj (pv 0) rfl))) ao))) (aF (aX (bC (LM T) hr.mono rfl (aH (pv 1) ao))))))),?_⟩;refine aZ ?_;refine⟨bB _,λL hL=>?_⟩;refine b8 ?_;refine aZ ?_;have s0:aS H (upd H L (.lst [])):=aB hL;refine⟨_,rfl,a,A.fZ,ur,_,_,rfl,s0 _ _ RE,T.fZ.cl,T.fZ.fg,fP,lc,rfl,⟨_,bD.of (s0 _ _ hf2)⟩,lZ (K:=K) (a:=lc) (xs:=iJ as) (λi σ H'=>(∃v2 v3:Option V,σ=[some (.ref a),some (.ref L),v2,v3])/\aS H H'/\H' L=some (.lst (eO ((fm.columns.take i).flatMap dv)))) ⟨⟨_,_,rfl⟩,s0,ag⟩ (λi σ H' _ p=>bD.of (p.2.1 _ _ hf2)) ?_ ?_⟩
  ·rintro i xv σ H' hi ⟨⟨v2,v3,rfl⟩,s1,yF⟩;obtain⟨ca,Zc,rfl⟩:=kh hi;obtain⟨c,hc,R5⟩:=Paired.vH hf3 Zc;have Fs:=ok.cols c (aL hc);have et:fm.columns.take (i+1)=fm.columns.take i++[c]:=by rw[dq,hc];rfl
   have hbi:=bnd i;have uB:=jy Fs;obtain⟨ol,We⟩:∃ol:List aG,dv c=ol++[spaced (text "costs"::c.costs.map digits)]:=⟨_,pE c⟩;have akL:ol.length<=40:=by have:=uB.1;rw[We,aO] at this;simp at this;omega
   obtain⟨C,dxc,fs,g1,hC,g3⟩:∃C dxc fs,H' ca=some (.ins C dxc fs)/\(C4 K C/\dR K C "costs")/\∃m,fs.lookup ("costs":Str)=some (.ref m)/\H' m=some (.lst (gP c.costs)):=by
    rcases wF c with⟨st,ek⟩|⟨up,ek⟩
    ·obtain⟨dx,l,m,g1,g2,g3⟩:=(R5.mono s1).num ek;exact⟨_,dx,_,g1,⟨T.num.cl,T.num.oC⟩,m,qi,g3⟩
    ·obtain⟨dx,l,m,CS,g1,g2,g3,g4⟩:=(R5.mono s1).eW ek;exact⟨_,dx,_,g1,⟨T.eW.cl,T.eW.oC⟩,m,qj,g4⟩
   obtain⟨m,g4,g5⟩:=g3;refine aZ ?_;refine⟨_,rfl,.inl ⟨rfl,_,bD.of yF⟩,?_⟩;have Wy:∀(Q':VK),(∀D H2,H' D=none->aS H' H2->H2 D=some (.lst (eO ol))->Q' (.ref D) H2)->
     uJ A.num "opening_lines" (nM A) [] E0 (qA 2) uI [some (.ref a),some (.ref L),some (.ref ca),v3] H' Q'∨uJ A.eW "opening_lines" (nN A) [] E0 (qA 2) uI [some (.ref a),some (.ref L),some (.ref ca),v3] H' Q':=λQ' hQ=>by
    rcases wF c with⟨st,ek⟩|⟨up,ek⟩
    ·have hn:=(R5.mono s1).num ek;obtain⟨dx,l,m,q1,q2,q3⟩:=id hn;have kd:=Fs.kd;rw[ek] at kd;have e0:ol=[spaced (text "numbers"::c.name::st.map digits)]:=by rw[pE,ek] at We;exact(Oq We).symm
     rw[e0] at hQ;exact .inl ⟨_,rfl,ca,dx,_,rfl,q1,sD,ca,c.name,st,c.costs,rfl,hn,kd.2,kd.1,gn Fs.nm,hQ⟩
    ·have hw:=(R5.mono s1).eW ek;obtain⟨dx,l,m,CS,q1,q2,q3,q4⟩:=id hw;have kd:=Fs.kd;rw[ek] at kd;have e0:ol=spaced [text "words",c.name]::up.map qu:=by rw[pE,ek] at We;exact(Oq We).symm
     rw[e0] at hQ;exact .inr ⟨_,rfl,ca,dx,_,rfl,q1,sE,ca,c.name,up,c.costs,rfl,hw,kd,gn Fs.nm,hQ⟩
   refine Wy _ λD H2 hD s2 e2=>?_;have hL2:=s2 _ _ yF;have hDL:D≠L:=(aQ yF hD).symm;have caL:ca≠L:=gA g1 yF (λz=>nomatch z);have mL:m≠L:=λz=>by
    have h0:H m=none:=by rw[z];exact hL
    rcases wF c with⟨st,ek⟩|⟨up,ek⟩
    ·obtain⟨dx,l,m',q1,q2,q3⟩:=R5.num ek;have q1':=s1 _ _ q1;rw[g1] at q1';cases q1';rw[qi] at g4;cases g4;rw[h0] at q3;cases q3
    ·obtain⟨dx,l,m',CS,q1,q2,q3,q4⟩:=R5.eW ek;have q1':=s1 _ _ q1;rw[g1] at q1';cases q1';rw[qj] at g4;cases g4;rw[h0] at q4;cases q4
   refine⟨L,D,_,_,rfl,rfl,hL2,e2,?_,?_⟩
   ·rw[d9,d9];exact cT (dB (by omega))
   ·
    have hLu:(upd H2 L (.lst (eO ((fm.columns.take i).flatMap dv)++eO ol))) L=some (.lst (eO ((fm.columns.take i).flatMap dv++ol))):=by rw[ag];unfold eO;rw[br]
    have hcu:(upd H2 L (.lst (eO ((fm.columns.take i).flatMap dv)++eO ol))) ca=some (.ins C dxc fs):=by rw[ax caL];exact s2 _ _ g1
    have hmu:(upd H2 L (.lst (eO ((fm.columns.take i).flatMap dv)++eO ol))) m=some (.lst (gP c.costs)):=by rw[ax mL];exact s2 _ _ g5
    have su:aS H (upd H2 L (.lst (eO ((fm.columns.take i).flatMap dv)++eO ol))):=mw (s1.trans s2) hL;generalize upd H2 L (.lst (eO ((fm.columns.take i).flatMap dv)++eO ol))=G at hLu hcu hmu su⊢;refine⟨_,rfl,.inl ⟨rfl,_,bD.of hLu⟩,⟨_,rfl⟩,by show 1<=az;decide,λp hp=>?_⟩;have Xs:aS G (upd G p (.lst [.str (aR "costs")])):=aB hp;refine fw ?_;refine⟨_,rfl,ca,C,dxc,fs,_,rfl,Xs _ _ hcu,hC.1,hC.2,g4,m,rfl,⟨_,bD.of (Xs _ _ hmu)⟩,?_⟩;have agl:c.costs.length<=4:=by rw[Fs.cl];exact pX Fs
    refine jL (l:=c.costs) (enc:=λ(x:Nat)=>.int (x:Int)) (f:=λx=>.str (sN (digits x))) (bD.of (Xs _ _ hmu)) (ak agl (by decide)) (λi x H' R hx k' hR=>?_) (λD2 H3 BR s3 e3=>?_)
    ·refine⟨rfl,_,rfl,_,rfl,rA (by have:=Fs.cb x (aL hx);omega),?_⟩;show R (.str (aR (lV ((x:Nat):Int)))) H';rw[zK];exact hR H' (aS.refl _)
    ·have e:[V.str (aR "costs")]++c.costs.map (λx=>V.str (sN (digits x)))=((text "costs"::c.costs.map digits).map sN).map V.str:=by rw[EH];simp only[bp,aP];rfl
     refine⟨p,D2,_,_,rfl,rfl,s3 _ _ ag,e3,?_,λy hy=>?_⟩
     ·rw[aa];show 1+c.costs.length<=az;exact cT (dB (by omega))
     ·rw[e];refine⟨_,y,_,rfl,rfl,.inl (bD.of ag),oO (B:=10) (N:=10) ?_ ?_ (by decide+kernel),?_⟩
      ·intro x hx;rcases aA.mp hx with z|z
       ·rw[z];decide
       ·obtain⟨v,hv,rfl⟩:=aq.mp z;exact ak (jr (k:=7) (by decide) (by have:=Fs.cb v hv;omega)) (by decide)
      ·rw[aV,aa];omega
      ·rw[qt];have sy:=Xs.trans (s3.trans (aB (o:=.lst (((text "costs"::c.costs.map digits).map sN).map V.str)) hy));refine⟨L,_,_,rfl,rfl,sy _ _ hLu,?_,⟨_,_,rfl⟩,mw (su.trans sy) hL,?_⟩
       ·rw[d9,aO];exact dB (by omega)
       ·rw[ag,et,gj];refine congrArg (λz=>some (HO.lst z)) ?_;show eO _++[V.str _]=_;rw[show([c].flatMap dv)=dv c by simp,We];unfold eO;simp only[br,bp,Fe,dn]
  ·rintro σ H' ⟨⟨v2,v3,rfl⟩,s1,yF⟩;rw[bH (by rw[ck];omega)] at yF;have hba:=bnd fm.columns.length;rw[bH (aJ _)] at hba;have hvx:∀x∈fm.values,x.length<=10:=λx hx=>gn (b0.mp ok.vn x hx);have acV:=ok.v12;refine⟨_,rfl,.inl ⟨rfl,_,bD.of yF⟩,⟨_,rfl⟩,_,rfl,a,A.fZ,ur,_,_,rfl,s1 _ _ RE,T.fZ.cl,T.fZ.gw,zF,by show 2<=az;decide,λp hp=>?_⟩;have Xs:aS H' (upd H' p (.lst [.str (aR "secret"),.str (sN fm.secret)])):=aB hp;refine⟨_,rfl,a,A.fZ,ur,_,_,rfl,Xs _ _ (s1 _ _ RE),T.fZ.cl,T.fZ.d4,fV,p,lv,_,_,rfl,rfl,ag,Xs _ _ (s1 _ _ hf4),?_,λy hy=>?_⟩
   ·rw[d9];show 2+fm.values.length<=az;exact cT (dB (by omega))
   ·have e:[V.str (aR "secret"),V.str (sN fm.secret)]++eO fm.values=((text "secret"::fm.secret::fm.values).map sN).map V.str:=by rw[Bc,IS];rfl
    rw[e];have CT:∀x∈text "secret"::fm.secret::fm.values,x.length<=10:=λx hx=>by
     rcases aA.mp hx with z|z
     ·rw[z];decide
     ·rcases aA.mp z with z|z
      ·rw[z];exact gn ok.sec
      ·exact hvx x z
    refine⟨_,y,_,rfl,rfl,.inl (bD.of ag),oO (B:=10) (N:=20) CT ?_ (by decide+kernel),?_⟩
    ·rw[aV,aV];omega
    ·rw[qt];have sy:=Xs.trans (aB (o:=.lst (((text "secret"::fm.secret::fm.values).map sN).map V.str)) hy);refine⟨L,_,_,rfl,rfl,sy _ _ yF,by rw[d9];exact dB (by omega),?_⟩;refine⟨_,rfl,L,fm.columns.flatMap dv++[spaced (text "secret"::fm.secret::fm.values)],rfl,bD.of ?_,λx hx=>?_,?_,λH5 s5=>k H5 (aS.trans (mw (s1.trans sy) hL) s5)⟩
     ·rw[ag];unfold eO;rw[br];rfl
     ·rcases aD.mp hx with h|h
      ·exact ak (hba.2 x h) (by decide)
      ·have:x=spaced (text "secret"::fm.secret::fm.values):=by simpa using h
       rw[this];refine ak (iK (B:=10) _ CT) ?_;rw[aV,aV];omega
     ·rw[aO];have:=hba.1;show _+1<=5000;omega
end
end Bp
namespace Bp
open PySem PySem.Spec PyProof.Rows L2 Bm
open Vbslai (text digits spaced above)
theorem Q8{sp:Sp}{te:TE}{E:XK}{σ:L2.St}{H:Hp}{Q:VK}(h:te σ H λx H1=>sp [x] H1 Q E):Sk sp [] E (qR te uI) σ H Q:=h
theorem LN{up:Up}(ok:l8 up):∀(f:Nat)(x:aG),∀y∈above up f x,y∈up.map (·.1)
 |0,x,y,h=>by simp[above] at h
 |f+1,x,y,h=>by
  unfold above at h;split at h
  ·rename_i a v e;have hm:=iS e;rcases aA.mp h with q|q
   ·rw[q];exact ok.cl _ hm v rfl
   ·exact LN ok f v y q
  ·simp at h
theorem Q9{c:bw}(ok:O4 c){lv v:Nat}(hv:Te c.kind v):(j7 c.kind lv v).length<=10:=by
 have kd:=ok.kd;unfold j7
 cases ek:c.kind with
 |numbers st=>
  rw[ek] at hv;have uH:v<=1000000:=hv;dsimp only;split
  ·decide
  ·split
   ·exact ak (jr (k:=7) (by decide) (by omega)) (by decide)
   ·have:v/st.getD (lv-1) 1*st.getD (lv-1) 1<=v:=Vq _ _;exact ak (jr (k:=7) (by decide) (by omega)) (by decide)
 |words up=>
  rw[ek] at kd;have PB:l8 up:=kd;dsimp only;split
  ·decide
  ·split
   ·decide
   ·rename_i x e;have hx:=aL e;have key:∀y∈x.1::above up jP x.1,y.length<=10:=λy hy=>by
     have hm:y∈up.map (·.1):=by
      rcases aA.mp hy with q|q
      ·rw[q];exact aq.mpr ⟨x,hx,rfl⟩
      ·exact LN PB _ _ y q
     obtain⟨z,hz,e⟩:=aq.mp hm;rw[<-e];exact gn (PB.nm z hz)
    rw[cn]
    cases e2:(x.1::above up jP x.1)[min lv (above up jP x.1).length]? with
    |none=>decide
    |some y=>exact key y (aL e2)
theorem CV{fm:dY}(ok:iy fm){ls:List Nat}{r:fW}(hc:yj fm.columns r.cells):∀x∈aE fm.columns ls r,x.length<=10:=λx hx=>by
 unfold aE at hx;obtain⟨y,hy,rfl⟩:=aq.mp hx;obtain⟨i,hi,e⟩:=jt hy;have h1:((fm.columns.zip ls).zip r.cells)[i]? =some y:=by rw[au hi,e]
 obtain⟨h2,h3⟩:=c8.mp h1;obtain⟨h4,h5⟩:=c8.mp h2;exact Q9 (ok.cols _ (aL h4)) (hc.2 i _ _ h4 h3)
section
variable{P:bo}{w:bM}{K:ah}{mg:Str->Option aj}{base:cu}{A:Cl}
def Cq(A:Cl):Sp:=λvs H Q _=>∃(a b c:af)(fm:dY)(l:List PR)(z:Rl)(q:fN),vs=[.ref a,.ref b,.ref c]/\gM A H a fm/\iy fm/\H b=some (.lst (pB l))/\gr A fm.columns H l/\mR A H c z/\yh fm.columns (l.map (·.2)) z q/\kZ fm.columns z.levels/\
 ∀H',aS H H'->Q (.str (sN (iM fm q (l.map (·.2))))) H'
theorem Cr(T:Txt K mg A):Def P w K mg base "release_text" 5 ["form","rows","release"] (Cq A):=by
 refine T.Pb.Ij.ok gJ (λvs H Q E h=>?_) (λf eC A' outer s H vs Q E hr h=>?_)
 ·obtain⟨a,b,c,fm,l,z,q,rfl,_⟩:=h;rfl
 ·obtain⟨a,b,c,fm,l,z,q,rfl,F0,ok,hb,hl,Z0,Mn,Ey,k⟩:=h;obtain⟨ur,lc,lv,as,RE,hf2,hf3,hf4⟩:=id F0;obtain⟨Au,ll,ld,z1,z2,z3⟩:=id Z0;have hu:=tm hr;have acV:=ok.v12;refine⟨_,(aw (bZ (i:=3) gJ.nd rfl fo (bC (xP T) hr.mono rfl (aH (pv 0) (aH (gU rfl (own:=[("row",5)]) gJ.nd (dC (pv 1)) (cM (by kernel_rfl)) (λ_ _ _ _ _=>(bQ (i:=5) gJ.nd rfl fo)) (λ_ _ _ _ _=>(rU (fQ (cg (pv 2) T.rel.cl (sU T) hr.mono (aH (pv 5) ao))))) (λ_ _ _ _ _=>(pv 5))) (aH (bj (pv 2) rfl) ao))))) (aw (bZ (i:=4) gJ.nd rfl fo (cD bt (by rfl) T.b.dM cJ (aH (bj (pv 0) rfl) ao))) (aF (aX (bC (LM T) hr.mono rfl (aH (gU rfl (own:=[("looks",6)]) gJ.nd (dC (cD (NS rfl) (by rfl) T.b.TF QF (aH (pv 3) ao))) (cM (by kernel_rfl)) (λ_ _ _ _ _=>(bQ (i:=6) gJ.nd rfl fo)) (λ_ _ _ _ _=>eK) (λ_ _ _ _ _=>(bC (Cp T) hr.mono rfl (aH (pv 6) (aH (bC (rF T) hr.mono rfl (aH (rV hu (pv 3) (pv 6) (λ_ _=>rfl)) (aH (pv 4) ao))) ao))))) ao)))))),?_⟩;refine aZ ?_;refine⟨_,rfl,?_⟩;refine fw ?_;refine⟨_,rfl,b,rfl,⟨_,bD.of hb⟩,?_⟩;refine lF (enc:=λp:PR=>V.ref p.1) (f:=λp=>V.ref p.1) (p:=λx=>(z.lk.lookup x.2.who).isSome) (bD.of hb) (ak hl.len (by decide)) (λi x H' R S hi k' hR hS=>?_) (λD H1 hD s1 e1=>?_)
  ·refine⟨rfl,_,rfl,c,Au,_,rfl,k' _ _ z1,oE,_,rfl,c,x.1,z,x.2,rfl,Z0.mono k',(hl.at' x (aL hi)).mono k',_,rfl,DD (λe=>⟨_,rfl,hR e _ (aS.refl _)⟩) (λe=>hS e _ (aS.refl _))⟩
  ·obtain⟨l',RZ⟩:∃l':List PR,l'=l.filter λx=>(z.lk.lookup x.2.who).isSome:=⟨_,rfl⟩;have Xm:H1 D=some (.lst (pB l')):=by rw[e1,RZ]
   have Pw:gr A fm.columns H1 l':=by rw[RZ];exact(hl.mono s1).sub fk
   refine⟨_,rfl,c,A.rel,Au,_,_,rfl,s1 _ _ z1,T.rel.cl,T.rel.pb,ka,a,D,ll,fm,l',z.levels,rfl,F0.mono s1,ok,Xm,Pw,bD.of (s1 _ _ z2),Ey,λC H2 ps hC ci=>?_⟩;refine b8 ?_;refine aZ ?_;have yT:aS H H2:=s1.trans ci.same;refine⟨_,rfl,a,A.fZ,ur,_,_,rfl,yT _ _ RE,T.fZ.cl,T.fZ.d4,fV,lv,_,rfl,.inl (bD.of (yT _ _ hf4)),?_⟩;refine b8 ?_;refine iW ?_;have HB:∀r∈ps,∃p∈l',aE fm.columns z.levels p.2=r.1:=λr hr=>by
    have:r.1∈dd (l'.map λp=>aE fm.columns z.levels p.2):=by rw[<-ci.keys];exact aq.mpr ⟨r,hr,rfl⟩
    rw[Dp] at this;obtain⟨p,hp,e⟩:=aq.mp this;exact⟨p,hp,e⟩
   have akO:0<fm.columns.length:=Bq.mpr ok.ne;refine Q8 ?_;refine fw ?_;refine⟨_,rfl,C,ps.map λp=>(p.1.map zO,V.ref p.2.1),ps.map (·.1),rfl,ci.dict,by rw[aP,aP];rfl,by rw[ci.keys];exact ci.kn,λx hx=>?_,λL p Hm Pr hLt hp=>?_⟩
   ·obtain⟨r,hr,rfl⟩:=aq.mp hx;obtain⟨p,hp,e⟩:=HB r hr;rw[<-e];intro z0;have h1:=me (cs:=fm.columns) (ls:=z.levels) (r:=p.2) Ey.1 (Pw.cells p hp).1;rw[z0] at h1;simp at h1;omega
   ·have s2:aS H2 (upd H2 p (.lst (L.map λy=>.ref y.2))):=aB hp;refine⟨p,rfl,⟨_,bD.of ag⟩,?_⟩;have acW:L.length<=40:=by
     have h1:=Hm.length_eq;rw[aa,aa] at h1;have h2:ps.length=(dd (l'.map λp=>aE fm.columns z.levels p.2)).length:=by rw[<-ci.keys,aa]
     have h3:=S2 (l'.map λp=>aE fm.columns z.levels p.2);rw[aa] at h3;have:=Pw.len;omega
    refine jL (l:=L) (enc:=λy:List aG×af=>V.ref y.2) (f:=λy=>.str (sN (spaced (y.1++[text ":"]++(j8 fm.values.length ((l'.filter λx=>aE fm.columns z.levels x.2==y.1).map (·.2))).map digits)))) (bD.of ag) (ak acW (by decide)) (λi y H' R hi k' hR=>?_) (λD2 H3 BR s3 e3=>?_)
    ·have hy:=aL hi;have hyk:y.1∈ps.map (·.1):=Hm.mem_iff.mp (aq.mpr ⟨y,hy,rfl⟩);obtain⟨r,hr,er⟩:=aq.mp hyk;obtain⟨p0,RK,ep0⟩:=HB r hr;have Cs:=s2.trans k';have hyt:H' y.2=some (.tup (eO y.1)):=Cs _ _ (hLt y hy);have hrr:r.2.2=l'.filter λx=>aE fm.columns z.levels x.2==y.1:=by rw[ci.rows r hr,er]
     have hRr:gr A fm.columns H1 r.2.2:=by rw[hrr];exact Pw.sub fk
     have hg:jv H' C (.ref y.2) (some (.ref r.2.1)):=by rw[<-EA (q:=r) (by rw[ci.keys];exact ci.kn) hr er];exact jv.t (Cs _ _ ci.dict) (by rw[hyt,Lk])
     refine⟨rfl,_,rfl,_,rfl,_,rfl,C,_,rfl,hg,_,rfl,r.2.1,r.2.2.map (·.1),r.2.2.map (·.2),fm.values.length,?_,?_,vI.mono (ci.same.trans Cs) hRr.rows,?_,by omega,λD4 H4 hD4 s4 e4=>?_⟩
     ·rw[d9];rfl
     ·rw[<-wA];exact Cs _ _ (ci.lst r hr)
     ·rw[aa];exact ak hRr.len (by decide)
     ·refine⟨y.2,D4,y.1,j8 fm.values.length (r.2.2.map (·.2)),rfl,nj.of (s4 _ _ hyt),e4,?_,λx hx=>?_,?_,λx hx=>?_,λH5 s5=>?_⟩
      ·rw[<-er,<-ep0,me Ey.1 (Pw.cells p0 RK).1];have:=ok.len;omega
      ·rw[<-er,<-ep0] at hx;exact ak (CV ok (Pw.cells p0 RK) x hx) (by decide)
      ·unfold j8;rw[aa,dU];omega
      ·unfold j8 at hx;obtain⟨v,_,rfl⟩:=aq.mp hx;have h1:=dO (λr:fW=>r.secret==v) (r.2.2.map (·.2));rw[aa] at h1;have:=hRr.len;exact ak h1 (by omega)
      ·rw[hrr];exact hR _ (s4.trans s5)
    ·refine⟨D2,L.map λy=>spaced (y.1++[text ":"]++(j8 fm.values.length ((l'.filter λx=>aE fm.columns z.levels x.2==y.1).map (·.2))).map digits),rfl,bD.of (by rw[e3];unfold eO;rw[aP];rfl),λx hx=>?_,by rw[aa];omega,λH4 s4=>?_⟩
     ·obtain⟨y,hy,rfl⟩:=aq.mp hx;have hyk:y.1∈ps.map (·.1):=Hm.mem_iff.mp (aq.mpr ⟨y,hy,rfl⟩);obtain⟨r,hr,er⟩:=aq.mp hyk;obtain⟨p0,RK,ep0⟩:=HB r hr;have Vc:y.1.length<=4:=by rw[<-er,<-ep0,me Ey.1 (Pw.cells p0 RK).1];exact ok.len
      refine ak (iK (B:=10) _ λx hx=>?_) ?_
      ·rcases aD.mp hx with h|h
       ·rcases aD.mp h with h|h
        ·rw[<-er,<-ep0] at h;exact CV ok (Pw.cells p0 RK) x h
        ·have:x=text ":":=by simpa using h
         rw[this];decide
       ·obtain⟨v,hv,rfl⟩:=aq.mp h;unfold j8 at hv;obtain⟨u,_,rfl⟩:=aq.mp hv;have h1:=dO (λr:fW=>r.secret==u) ((l'.filter λx=>aE fm.columns z.levels x.2==y.1).map (·.2));have h2:=dO (λx:PR=>aE fm.columns z.levels x.2==y.1) l';rw[aa] at h1;have:=Pw.len;exact ak (jr (k:=7) (by decide) (bW h1 (by omega))) (by decide)
      ·rw[aO,aO,aa];unfold j8;rw[aa,dU];show(y.1.length+1+fm.values.length)*11<=1000;have:y.1.length+1+fm.values.length<=17:=by omega
       omega
     ·have N5:l'.map (·.2)=(l.map (·.2)).filter λr=>q.has.contains r.who:=by rw[RZ,ib (λr:fW=>(z.lk.lookup r.who).isSome)];refine gX λr _=>?_;exact Mn.isSome r.who
      have XY:GB fm.columns q (l.map (·.2))=L.map (·.1):=by
       refine MV fm.columns q (l.map (·.2)) Pr λy=>?_;rw[Hm.mem_iff,ci.keys,Dp,aq];constructor
       ·rintro⟨p,hp,e⟩;have hm:p.2∈l'.map (·.2):=aq.mpr ⟨p,hp,rfl⟩;rw[N5,bE] at hm;exact⟨p.2,hm.1,hm.2,by rw[<-Mn.lv];exact e⟩
       ·rintro⟨r,hr,hh,e⟩;have hm:r∈l'.map (·.2):=by rw[N5,bE];exact⟨hr,hh⟩
        obtain⟨p,hp,rfl⟩:=aq.mp hm;exact⟨p,hp,by rw[Mn.lv];exact e⟩
      have:=k H4 ((yT.trans s2).trans (s3.trans s4));have e:iM fm q (l.map (·.2))=(L.map λy=>spaced (y.1++[text ":"]++(j8 fm.values.length ((l'.filter λx=>aE fm.columns z.levels x.2==y.1).map (·.2))).map digits)).flatMap λl=>l++[10]:=by unfold iM;rw[XY,GA,GA];congr 1;funext y;congr 3;congr 1;congr 1;rw[ib (λr:fW=>aE fm.columns z.levels r==y.1),N5,CB,Mn.lv];refine gX λr _=>?_;exact OA ..
      rw[<-e];exact this
end
end Bp
namespace Bp
open PySem PySem.Spec PyProof.Rows L2
def LtA(A:cp)(s:ay)(y x:aj)(b:Bool):Prop:=∀(prog:bo)(w:bM)(E:aj->ay->Prop)(Q:aj->ay->Prop),Q (.bool b) s->bg (model prog w) A (PY .Lt y x) Q E s
theorem LtA.int(A:cp)(s:ay)(a c:Int)(t u:Tok):LtA A s (.int a t) (.int c u) (decide (a<c)):=λprog w E Q h=>HT.JQ A s a t c u prog w E Q h
def Zr(e lt:Nat->Bool)(d:Bool):List Nat->Bool
 |[]=>d
 |j::r=>if e j=true then Zr e lt d r else lt j
section
open PySem.SeqAt
open PySem.MeetsSeq PySem.MeetsSeq2 PySem.MeetsSeq3
theorem Uz(l b:af)(items dP:Array aj)(n n2:Nat)(dd Xt:Option af)(sl Vj:Array (Option aj))(ns ms:List Int)(hi:Vm items.toList ns)(hj:Vm dP.toList ms)(hsz:items.size=dP.size)(k:Nat):
  ∀i:Nat,items.size-i=k->adI (Builtin.«list.__eq__.loop» ⟨[.ref l,.ref b,eQ i,eQ 0],[]⟩)
   (λ_ R s=>s.heap.get? l=some {cls:=.type "list",dict:=dd,data:=.seq items n,slots:=sl}/\s.heap.get? b=some {cls:=.type "list",dict:=Xt,data:=.seq dP n2,slots:=Vj}/\R (.ok (.ret (.bool (HT.lexLt (ns.drop i) (ms.drop i))))) s):=by
 have z1:items.size=ns.length:=by rw[<-hi.length];simp
 have z2:dP.size=ms.length:=by rw[<-hj.length];simp
 induction k with
 |zero=>
  intro i hk prog w A R s h;obtain⟨hp,g,d,tk,os⟩:=s;obtain⟨hl,hb,h⟩:=h;wp_walk using dA hl,dA hb;have hi1:items[((i:Nat):Int).toNat]? =none:=by simp;omega
  have hi2:dP[((i:Nat):Int).toNat]? =none:=by simp;omega
  rw[fb (by omega),fb (by omega)] at h;rw[hi1,hi2];wp_walk using dA hl,dA hb;show R (.ok (.ret (.bool (decide (items.size<dP.size))))) _;rw[decide_eq_false (by omega)];exact h
 |succ k ih=>
  intro i hk prog w A R s h;obtain⟨hp,g,d,tk,os⟩:=s;obtain⟨hl,hb,h⟩:=h;wp_walk using dA hl,dA hb;have og:i<items.size:=by omega
  have acZ:i<dP.size:=by omega
  have hi1:items[((i:Nat):Int).toNat]? =some items[i]:=by simp[og]
  have hi2:dP[((i:Nat):Int).toNat]? =some dP[i]:=by simp[acZ]
  have hc:((i:Int)+1)=((i+1:Nat):Int):=by push_cast;rfl
  obtain⟨t,ht⟩:=hi.get i ns[i] (au (by omega));obtain⟨u,hu⟩:=hj.get i ms[i] (au (by omega));have e1:items[i]=.int ns[i] t:=by
   have:items.toList[i]? =some items[i]:=by simp[og]
   rw[ht] at this;exact(aW this).symm
  have e2:dP[i]=.int ms[i] u:=by
   have:dP.toList[i]? =some dP[i]:=by simp[acZ]
   rw[hu] at this;exact(aW this).symm
  rw[dD (show i<ns.length by omega),dD (show i<ms.length by omega),HT.x8] at h;rw[hi1,hi2,e1,e2];obtain⟨e,he,ac0⟩:=HT.Sq A.in1 ⟨hp,g,d,tk,os⟩ ns[i] t ms[i] u;refine ae (he prog w _ _ ?_)
  cases e with
  |true=>rw[if_pos (ac0.mp rfl)] at h;wp_walk;rw[hc];exact⟨nR plain_eq_loop _,fX entry_eq_loop (by rw[gf plain_eq_loop _];exact ih (i+1) (by omega) prog w A R _ ⟨hl,hb,h⟩)⟩
  |false=>rw[if_neg (λq=>absurd (ac0.mpr q) aY)] at h;wp_walk using dA hl,dA hb;rw[hi1,hi2,e1,e2];have hri:=HT.JQ A.in1 ⟨hp,g,d,tk,os⟩ ns[i] t ms[i] u prog w;wp_walk using hri;exact h
theorem UA(l b:af)(items dP:Array aj)(n n2:Nat)(dd Xt:Option af)(sl Vj:Array (Option aj))(ns ms:List Int)(hi:Vm items.toList ns)(hj:Vm dP.toList ms)(hsz:items.size=dP.size):
  adI (Builtin.«list.__lt__» ⟨[.ref l,.ref b],[]⟩)
   (λ_ R s=>s.heap.get? l=some {cls:=.type "list",dict:=dd,data:=.seq items n,slots:=sl}/\s.heap.get? b=some {cls:=.type "list",dict:=Xt,data:=.seq dP n2,slots:=Vj}/\R (.ok (.ret (.bool (HT.lexLt ns ms)))) s):=by
 intro prog w A R s h;obtain⟨hp,g,d,tk,os⟩:=s;obtain⟨hl,hb,h⟩:=h;have f3:=AutoSeq1.sub_list_list;wp_walk using dA hl,dA hb;exact⟨nR plain_eq_loop _,fX entry_eq_loop (by rw[gf plain_eq_loop _];exact Uz l b items dP n n2 dd Xt sl Vj ns ms hi hj hsz _ 0 rfl prog w A R _ ⟨hl,hb,by simpa using h⟩)⟩
theorem N6(l b:af)(items dP:Array aj)(n n2:Nat)(dd Xt:Option af)(sl Vj:Array (Option aj))(e lt:Nat->Bool):
  adI (Builtin.«tuple.__lt__» ⟨[.ref l,.ref b],[]⟩)
   (λA R s=>s.heap.get? l=some {cls:=.type "tuple",dict:=dd,data:=.seq items n,slots:=sl}/\s.heap.get? b=some {cls:=.type "tuple",dict:=Xt,data:=.seq dP n2,slots:=Vj}/\(∀j(h1:j<items.size)(h2:j<dP.size),EqAt A.in1 s items[j] dP[j] (e j))/\(∀j(h1:j<items.size)(h2:j<dP.size),e j=false->LtA A.in1 s items[j] dP[j] (lt j))/\R (.ok (.ret (.bool (Zr e lt (decide (items.size<dP.size)) (bY (min items.size dP.size)))))) s):=
 .of_wp λprog w A R s h=>by
  obtain⟨hp,g,d,tk,os⟩:=s;obtain⟨hl,hb,he,SH,h⟩:=h;have f2:=AutoSeq1.sub_tuple_tuple;have hZ:(items.toList.zip dP.toList).length=min items.size dP.size:=by simp
  wp_walk using dA hl,dA hb,wpAny_forIn_list _ (λrest b s'=>b.1=none/\s'=⟨hp,g,d,tk,os⟩/\∃i,rest=(items.toList.zip dP.toList).drop i/\R (.ok (.ret (.bool (Zr e lt (decide (items.size<dP.size)) ((bY (min items.size dP.size)).drop i))))) ⟨hp,g,d,tk,os⟩) _
  case turn=>
   rintro⟨y,x⟩ rest b s' ⟨Cj,rfl,i,hz,hR⟩;have og:i<(items.toList.zip dP.toList).length:=by
    rcases ahn i (items.toList.zip dP.toList).length with h'|h'
    ·exact h'
    ·rw[fb h'] at hz;cases hz
   have hm:i<min items.size dP.size:=hZ▸og;have h1:i<items.size:=bJ hm (aa4 _ _);have h2:i<dP.size:=bJ hm (Nat.min_le_right _ _);rw[dD og] at hz;injection hz with hyx zT
   have hy:y=items[i]:=by have:=congrArg Prod.fst hyx;simpa using this
   have hx:x=dP[i]:=by have:=congrArg Prod.snd hyx;simpa using this
   subst hy hx;have hd:(bY (min items.size dP.size)).drop i=i::(bY (min items.size dP.size)).drop (i+1):=by simp[dD,hm]
   rw[hd] at hR;unfold Zr at hR;refine ae (he i h1 h2 prog w _ _ ?_)
   cases hy:e i with
   |true=>rw[if_pos hy] at hR;wp_walk;exact⟨rfl,rfl,i+1,zT,hR⟩
   |false=>rw[if_neg (by rw[hy];exact aY)] at hR;have hri:=SH i h1 h2 hy prog w;wp_walk using hri;exact⟨_,rfl,by simpa using hR⟩
  case fin=>
   rintro⟨b1,b2⟩ s' ⟨Cj,rfl,i,hz,hR⟩;simp only at Cj;subst Cj;have hdr:(bY (min items.size dP.size)).drop i=[]:=by
    have h1:(items.toList.zip dP.toList).length<=i:=by
     rcases ahn i (items.toList.zip dP.toList).length with h'|h'
     ·rw[dD h'] at hz;cases hz
     ·exact h'
    rw[hZ] at h1;exact fb (by rw[dU];exact h1)
   rw[hdr] at hR;unfold Zr at hR;wp_walk;exact⟨_,rfl,by simpa[Builtin.Tuple.tupleCompareSizes] using hR⟩
  case h=>exact⟨rfl,rfl,0,rfl,h⟩
end
abbrev Ky:=Int×Int×List Int
def klt(a b:Ky):Bool:=if a.1=b.1 then(if a.2.1=b.2.1 then HT.lexLt a.2.2 b.2.2 else decide (a.2.1<b.2.1)) else decide (a.1<b.1)
theorem zW:∀l:List Int,HT.lexLt l l=false
 |[]=>rfl
 |a::l=>by rw[HT.x8,if_pos rfl];exact zW l
theorem LO:∀ns ms:List Int,WR (ns.map iB) (ms.map iB)=decide (ns=ms)
 |[],[]=>rfl
 |[],_::_=>rfl
 |_::_,[]=>rfl
 |a::ns,b::ms=>by
  rw[bp,bp];show(ahj (.int a) (.int b)&&WR (ns.map iB) (ms.map iB))=_;rw[LO ns ms];have:ahj (.int a) (.int b)=(a==b):=by simp[ahj]
  rw[this];by_cases h:a=b
  ·subst h;simp
  ·simp[h]
theorem yU{h:cu}:∀{us:List aj}{ns:List Int},Vm us ns->∃as,ReadsAll h us (ns.map iB) as
 |_,_,.nil=>⟨_,ReadsAll.nil⟩
 |_,_,.cons n t r=>by obtain⟨as,x⟩:=yU r;exact⟨_,ReadsAll.cons (Reads.int n t) x⟩
end Bp
namespace Bp
open PySem PySem.Spec PyProof.Rows L2
theorem qv{α:Type}{f:α->af}:∀{L:List α}{us:List aj},Vals (L.map λp=>V.ref (f p)) us->us=L.map λp=>bu (f p)
 |[],us,h=>by cases h;rfl
 |a::L,us,h=>by
  cases h with
  |cons r t=>cases r;rw[qv t];rfl
theorem lay_ints:∀ns:List Int,PyData.canLay0 (.list (ns.map iB))=true:=λns=>by
 show aiT (ns.map iB)=true
 induction ns with
 |nil=>rfl
 |cons a l ih=>show(PyData.canLay0 (.int a)&&aiT (l.map iB))=true;rw[ih];rfl
theorem N7:∀ns:List Int,PyData.depth (.list (ns.map iB))=1:=λns=>by
 have:Rr (ns.map iB)=0:=by
  induction ns with
  |nil=>rfl
  |cons a l ih=>show max (PyData.depth (.int a)) (Rr (l.map iB))=0;rw[ih];rfl
 show Rr (ns.map iB)+1=1;rw[this]
def pickK{α:Type}(key:α->Ky)(a:α)(l:List α):α:=l.foldl (λb x=>if klt (key x) (key b)=true then x else b) a
def bestOf{α:Type}(key:α->Ky):List α->Option α
 |[]=>none
 |a::l=>some (pickK key a l)
theorem vR{α:Type}(key:α->Ky)(l:List α)(x:α):bestOf key (l++[x])=some (match bestOf key l with|none=>x|some b=>if klt (key x) (key b)=true then x else b):=by
 cases l with
 |nil=>rfl
 |cons a l=>show some (pickK key a (l++[x]))=_;unfold pickK;rw[jc];rfl
def tZ(H0 H:Hp)(t:af)(k:Ky):Prop:=∃l,H t=some (.tup [.int k.1,.int k.2.1,.ref l])/\H0 l=some (.lst (k.2.2.map V.int))
theorem tZ.mono{H0 H H':Hp}(e:aS H H'){t:af}{k:Ky}(h:tZ H0 H t k):tZ H0 H' t k:=let⟨l,a,b⟩:=h;⟨l,e _ _ a,b⟩
theorem tZ.off{H0 H:Hp}{t S:af}{k:Ky}{o:HO}(h:tZ H0 H t k)(n:∀xs,H S≠some (.tup xs)):tZ H0 (upd H S o) t k:=let⟨l,a,b⟩:=h;⟨l,by rw[ax (λe=>n _ (by rw[<-e];exact a))];exact a,b⟩
theorem Be{α:Type}(key:α->Ky):∀(a:α)(l:List α),pickK key a l∈a::l
 |a,[]=>.head _
 |a,x::l=>by
  have:=Be key (if klt (key x) (key a)=true then x else a) l;show pickK key (if klt (key x) (key a)=true then x else a) l∈a::x::l;rcases aA.mp this with e|e
  ·rw[e];split
   ·exact .tail _ (.head _)
   ·exact .head _
  ·exact .tail _ (.tail _ e)
def Zs(H0 H:Hp)(S:af):Option (af×Ky)->Prop
 |none=>H S=some (.lst [])
 |some b=>∃t,H S=some (.lst [.ref b.1,.ref t])/\tZ H0 H t b.2
section
variable{X:Cx}{pins:List (af×Obj)}{σ:L2.St}{H H0:Hp}{s:ay}
theorem Wz{A:cp}{t1 t2:af}{a b:Ky}(I:Inv X pins σ H s)(s0:aS H0 H)(h1:tZ H0 H t1 a)(h2:tZ H0 H t2 b)(hl:a.2.2.length=b.2.2.length)(hu:A.units+10<lW):LtA A s (.ref t1) (.ref t2) (klt a b):=by
 obtain⟨l1,k1,g1⟩:=h1;obtain⟨l2,k2,g2⟩:=h2;obtain⟨_,it1,rv1,o1,e1,c1,n1,d1⟩:=I.dI t1 _ k1;obtain⟨_,it2,MR,o2,e2,c2,n2,d2⟩:=I.dI t2 _ k2;obtain⟨_,js1,m1,rw1,f1⟩:=I.dI l1 _ (s0 _ _ g1);obtain⟨_,js2,m2,rw2,f2⟩:=I.dI l2 _ (s0 _ _ g2);obtain⟨cls,dd,data,sl⟩:=o1;obtain⟨akT,Xt,data2,Vj⟩:=o2;simp only at c1 d1 c2 d2;subst c1 d1 c2 d2
 cases rv1 with
 |cons r1 q1=>cases q1 with
  |cons r2 q2=>cases q2 with
   |cons r3 q3=>
    cases q3
    cases MR with
    |cons r1' q1=>cases q1 with
     |cons r2' q2=>cases q2 with
      |cons r3' q3=>
       cases q3;obtain⟨t1',rfl⟩:=r1;obtain⟨t2',rfl⟩:=r2;cases r3;obtain⟨u1',rfl⟩:=r1';obtain⟨u2',rfl⟩:=r2';cases r3';intro prog w E Q hq;have i1:=Vals.ints rw1;have i2:=Vals.ints rw2;have z1:=i1.length;have z2:=i2.length;have R1:Reads s.heap (.ref l1) (.list (a.2.2.map iB)) _:=Reads.list f1 rfl rfl (by simpa using(yU i1).choose_spec);have R2:Reads s.heap (.ref l2) (.list (b.2.2.map iB)) _:=Reads.list f2 rfl rfl (by simpa using(yU i2).choose_spec)
       let e:Nat->Bool:=λj=>if j=0 then a.1==b.1 else if j=1 then a.2.1==b.2.1 else decide (a.2.2=b.2.2)
       let lt:Nat->Bool:=λj=>if j=0 then decide (a.1<b.1) else if j=1 then decide (a.2.1<b.2.1) else HT.lexLt a.2.2 b.2.2
       refine ZR (op:=.Lt) ⟨_,e1,rfl⟩ ⟨_,e2,rfl⟩ PySem.F.slot_tuple_lt PySem.F.entry_tuple_lt (PySem.F.args_tuple_lt_2 _ _) (N6 t1 t2 _ _ n1 n2 dd Xt sl Vj e lt)
        ⟨e1,e2,λj h1 h2=>?_,λj h1 h2 he=>?_,?_⟩ (by omega)
       ·rcases j with _|_|_|j
        ·exact vW _ _ _ _
        ·exact vW _ _ _ _
        ·intro prog w E Q hq;refine SeqAt.eqBoolOverData prog w _ E s _ _ _ _ _ _ Q R1 R2 ?_ ?_ ?_ ?_
         ·exact lay_ints _
         ·exact lay_ints _
         ·have d1:=N7 a.2.2;show A.units+1+min _ _<lW;rw[d1];omega
         ·show Q (WR _ _) s;rw[LO];exact hq
        ·exact absurd h1 (by simp)
       ·rcases j with _|_|_|j
        ·exact LtA.int _ _ _ _ _ _
        ·exact LtA.int _ _ _ _ _ _
        ·intro prog w E Q hq;refine ZR (op:=.Lt) ⟨_,f1,rfl⟩ ⟨_,f2,rfl⟩ PySem.F.slot_list_lt PySem.F.entry_list_lt (PySem.F.args_list_lt_2 _ _) (UA l1 l2 _ _ m1 m2 none none #[] #[] _ _ (by simpa using i1) (by simpa using i2) (by simp;omega))
          ⟨f1,f2,show kI _≠ady/\Q (.bool _) s from⟨(λx=>nomatch x),hq⟩⟩ ?_
         show A.units+1<lW;omega
        ·exact absurd h1 (by simp)
       ·show kI _≠ady/\Q (.bool _) s;refine⟨(λx=>nomatch x),?_⟩;have hkl:Zr e lt false [0,1,2]=klt a b:=by
         show(if(a.1==b.1)=true then(if(a.2.1==b.2.1)=true then(if decide (a.2.2=b.2.2)=true then false else HT.lexLt a.2.2 b.2.2) else decide (a.2.1<b.2.1)) else decide (a.1<b.1))=_;unfold klt;by_cases q1:a.1=b.1
         ·rw[if_pos q1,if_pos (by simpa using q1)];by_cases q2:a.2.1=b.2.1
          ·rw[if_pos q2,if_pos (by simpa using q2)];by_cases q3:a.2.2=b.2.2
           ·rw[decide_eq_true q3,if_pos rfl,q3,zW]
           ·rw[decide_eq_false q3,if_neg aY]
          ·rw[if_neg q2,if_neg (by simpa using q2)]
         ·rw[if_neg q1,if_neg (by simpa using q1)]
        show Q (.bool (Zr e lt false [0,1,2])) s;rw[hkl];exact hq
end
end Bp
namespace Bp
open PySem PySem.Spec PyProof.Rows L2
theorem EI{H H':Hp}{a:af}{o:HO}(e:aS H H')(h:H a=none):aS H (upd H' a o):=λb u q=>by rw[ax (aQ q h)];exact e b u q
def UB(X:Cx)(pins:List (af×Obj))(σ:L2.St)(Q:VK)(r:aaf)(s:ay):Prop:=match r with
 |.ok (.ret u)=>EP X pins σ Q u s
 |_=>False
section
variable{X:Cx}{pins:List (af×Obj)}{σ:L2.St}{H0:Hp}{l It q S:af}{L:List (af×Ky)}{nl:Nat}{Q:VK}
theorem UC(hc:X.calm=true)(hu:X.A.units+20<lW)(Wm:H0 l=some (.lst (L.map λp=>V.ref p.1)))(hS0:H0 S=none)(hlen:∀p∈L,p.2.2.2.length=nl)(hIt:∀H:Hp,H It=none->Ay X pins H It)(ac2:l≠It)(turn:∀p∈L,∀(GH:List (af×Obj))(s:ay)(H:Hp),Inv X (pins++GH) σ H s->aS H0 H->bg (model X.prog X.w) X.A.in1 (call (.ref q) [.ref p.1]) (EP X (pins++GH) σ λx H'=>aS H H'/\∃t,x=.ref t/\tZ H0 H' t p.2) (λ_ _=>False) s)
  (fin:∀(H:Hp)(v:V),aS H0 H->v=(match bestOf (λp:af×Ky=>p.2) L with|none=>.gT|some b=>.ref b.1)->Q v H):
  ∀(rest pre:List (af×Ky))(s:ay)(H:Hp),L=pre++rest->Inv X pins σ H s->aS H0 H->Zs H0 H S (bestOf (λp:af×Ky=>p.2) pre)->s.heap.IsListIter It l pre.length->H It=none->
   qO (model X.prog X.w) X.A (.builtin "min.loop" ⟨[.ref It,.ref q,.ref S],[("default",.none)]⟩) (UB X pins σ Q) s:=by
 have LP:(lV "min"++lV ".loop":String)="min.loop":=by decide
 intro rest
 induction rest with
 |nil=>
  intro pre s H eL I s0 hb hit Uj;rw[dE] at eL;subst eL;have hh:X.A.in1.handled=none:=I.ok.hd hc;have W:=Jz (prog:=X.prog) (w:=X.w) (A:=X.A.in1) hh It l ac2 (L.map λp=>bu p.1).toArray;obtain⟨_,its,n,rv,el⟩:=I.dI l _ (s0 _ _ Wm);rw[qv rv] at el;have PF:s.heap.IsList l (L.map λp=>bu p.1).toArray:=⟨_,el,rfl,_,rfl⟩;have hsz:(L.map λp=>bu p.1).toArray.size=L.length:=by rw[bA,aa]
  obtain⟨f0,f1,f2,f3,f4,f5⟩:=hIt H Uj
  cases eb:bestOf (λp:af×Ky=>p.2) L with
  |none=>
   rw[eb] at hb fin;have hS:H S=some (.lst []):=hb;obtain⟨_,itS,nS,UD,eS⟩:=I.dI S _ hS;cases UD;refine fX xm ?_;rw[gf gg _];show bg _ X.A.in1 (ama (.ref S) >>= _) _ _ _;refine ae (jb eS rfl ?_);show bg _ X.A.in1 (tryCatch (js (.ref It)) _ >>= _) _ _ _;refine ae (vY (W.done _ _ _ ⟨by rw[hsz];exact hit,PF⟩ λh' Wf JY=>?_));have I1:Inv X pins σ H {s with heap:=h',toks:=Wf}:=I.turned (it:=It) (λb o hb e=>JY b o (by simpa using hb) e) Uj f1 f3 f4 f5;wp_walk;exact⟨.gT,H,I1,rfl,fin H _ s0 rfl⟩
  |some b=>
   rw[eb] at hb fin;obtain⟨t,hS,hk⟩:=hb;obtain⟨_,itS,nS,UD,eS⟩:=I.dI S _ hS
   cases UD with
   |cons r1 q1=>cases q1 with
    |cons r2 q2=>
     cases q2;cases r1;cases r2;refine fX xm ?_;rw[gf gg _];show bg _ X.A.in1 (ama (.ref S) >>= _) _ _ _;refine ae (jb eS rfl ?_);show bg _ X.A.in1 (tryCatch (js (.ref It)) _ >>= _) _ _ _;refine ae (vY (W.done _ _ _ ⟨by rw[hsz];exact hit,PF⟩ λh' Wf JY=>?_));have I1:Inv X pins σ H {s with heap:=h',toks:=Wf}:=I.turned (it:=It) (λb o hb e=>JY b o (by simpa using hb) e) Uj f1 f3 f4 f5;have Zt:S≠It:=aQ hS Uj;have eS':=JY S _ (by simpa using Zt) eS;show bg _ X.A.in1 (FA S (λ_=>#[]) >>= _) _ _ _;refine ae ?_;refine B3 eS' rfl (ae (mC (aI ?_)));refine⟨.ref b.1,upd H S (.lst []),I1.Ss (its':=[]) (t':=Wf) hS eS' rfl .nil (bB _),rfl,fin _ _ (EI s0 hS0) rfl⟩
 |cons p rest ih=>
  intro pre s H eL I s0 hb hit Uj;have hh:X.A.in1.handled=none:=I.ok.hd hc;have W:=Jz (prog:=X.prog) (w:=X.w) (A:=X.A.in1) hh It l ac2 (L.map λp=>bu p.1).toArray;obtain⟨_,its,n,rv,el⟩:=I.dI l _ (s0 _ _ Wm);rw[qv rv] at el;have PF:s.heap.IsList l (L.map λp=>bu p.1).toArray:=⟨_,el,rfl,_,rfl⟩;have hsz:(L.map λp=>bu p.1).toArray.size=L.length:=by rw[bA,aa]
  have hpL:p∈L:=by rw[eL];simp
  have Uh:L[pre.length]? =some p:=by rw[eL];simp
  have og:pre.length<L.length:=by rw[eL];simp
  obtain⟨f0,f1,f2,f3,f4,f5⟩:=hIt H Uj;have go:∀(old:List aj)(nS:Nat),s.heap.get? S=some {cls:=.type "list",data:=.seq old.toArray nS}->H S≠none->
    (∀(s2:ay)(H2:Hp)(t:af),Inv X pins σ H2 s2->aS H H2->s2.heap.IsListIter It l (pre.length+1)->H2 It=none->tZ H0 H2 t p.2->bg (model X.prog X.w) X.A.in1 (do
      match old with
      |[WA,UE]=>
       let better <-(Sem.tryCatch (holding [.ref p.1,.ref t] (do
        let answer <-PY .Lt (.ref t) UE
        let yes <-holding [answer] (truthy answer)
        letGo [answer]
        pure yes)) λe=>do
         FA S λ_=>#[]
         letGo ([.ref t,.ref p.1]++old.reverse) [e]
         throw e)
       if better then
        FA S λ_=>#[.ref p.1,.ref t]
        letGo [UE,WA]
       else letGo [.ref p.1,.ref t]
      |_=>FA S λ_=>#[.ref p.1,.ref t]
      again (.builtin (lV "min"++lV ".loop") ⟨[.ref It,.ref q,.ref S],[("default",.none)]⟩)) (λfin s'=>match fin with
   |.done f=>UB X pins σ Q (.ok f) s'
   |.again c'=>c'.quiet=true/\qO (model X.prog X.w) X.A c' (UB X pins σ Q) s') (λe s'=>UB X pins σ Q (.error e) s') s2)->
    qO (model X.prog X.w) X.A (.builtin "min.loop" ⟨[.ref It,.ref q,.ref S],[("default",.none)]⟩) (UB X pins σ Q) s:=by
   intro old nS eS hSn k;refine fX xm ?_;rw[gf gg _];show bg _ X.A.in1 (ama (.ref S) >>= _) _ _ _;refine ae (jb eS rfl ?_);show bg _ X.A.in1 (tryCatch (js (.ref It)) _ >>= _) _ _ _;refine ae (vY (W.item pre.length _ _ _ (by rw[hsz];exact og) ⟨hit,PF⟩ λv h' Wf hP n9 JY=>?_));have hv:v=.ref p.1:=by
    have:(L.map λp=>bu p.1)[pre.length]? =some v:=by simpa using hP
    rw[aU,Uh] at this;exact(aW this).symm
   subst hv;have I1:Inv X pins σ H {s with heap:=h',toks:=Wf}:=I.turned (it:=It) (λb o hb e=>JY b o (by simpa using hb) e) Uj f1 f3 f4 f5;obtain⟨oI,hoI,Vt,Fm⟩:=id n9.1;have I2:Inv X (pins++[(It,oI)]) σ H {s with heap:=h',toks:=Wf}:=I1.CC λz hz=>(aD.mp hz).elim (λy=>I1.pin z (cZ _ y)) λy=>by
    have e:z=(It,oI):=by simpa using y
    subst e;exact⟨hoI,Uj,f1,f2,λv e=>by rw[Fm] at e;cases e⟩
   show bg _ X.A.in1 (tryCatch (holding [.ref p.1] (call (.ref q) [.ref p.1])) _ >>= _) _ _ _;refine ae (vY (gz (fj (turn p hpL [(It,oI)] _ H I2 s0) (λx s2 he=>?_) λ_ _ hF=>hF.elim)));obtain⟨y,H2,I3,ry,LQ,t,rfl,hk⟩:=he;cases ry;obtain⟨p1,p2,_⟩:=I3.pin (It,oI) (by simp);exact k s2 H2 t I3.qQ LQ ⟨oI,p1,Vt,Fm⟩ p2 hk
  cases eb:bestOf (λp:af×Ky=>p.2) pre with
  |none=>
   rw[eb] at hb;have hS:H S=some (.lst []):=hb;obtain⟨_,itS,nS,UD,eS⟩:=I.dI S _ hS;cases UD;refine go [] nS eS (by rw[hS];simp) λs2 H2 t I2 LQ Zu hI2 hk=>?_;have RB:=LQ _ _ hS;obtain⟨_,itS,nS2,UD,eS2⟩:=I2.dI S _ RB;cases UD;have Zt:S≠It:=aQ RB hI2;show bg _ X.A.in1 (FA S (λ_=>#[.ref p.1,.ref t]) >>= _) _ _ _;refine ae ?_;refine B3 eS2 rfl ?_;rw[LP];have I3:Inv X pins σ (upd H2 S (.lst [.ref p.1,.ref t])) {s2 with heap:=s2.heap.update S (Jy λ_=>#[.ref p.1,.ref t]),toks:=s2.toks}:=I2.Ss (its':=[.ref p.1,.ref t]) RB eS2 rfl (.cons rfl (.cons rfl .nil)) (by show 2<=az;decide);obtain⟨oI,hoI,Vt,Fm⟩:=Zu;refine aI ⟨nR gg _,ih (pre++[p]) _ _ (by rw[eL];simp) I3 (EI (s0.trans LQ) hS0) ?_ ⟨oI,?_,Vt,by rw[aO];exact Fm⟩ ?_⟩
   ·rw[vR,eb];exact⟨t,ag,hk.off (λo z=>by rw[RB] at z;cases z)⟩
   ·exact(Bk s2.heap _ Zt).trans hoI
   ·rw[ax Zt.symm];exact hI2
  |some b=>
   rw[eb] at hb;obtain⟨tb,hS,hkb⟩:=hb;obtain⟨_,itS,nS,UD,eS⟩:=I.dI S _ hS
   cases UD with
   |cons r1 q1=>cases q1 with
    |cons r2 q2=>
     cases q2;cases r1;cases r2;refine go [.ref b.1,.ref tb] nS eS (by rw[hS];simp) λs2 H2 t I2 LQ Zu hI2 hk=>?_;have RB:=LQ _ _ hS;obtain⟨_,itS,nS2,UD,eS2⟩:=I2.dI S _ RB;have Zt:S≠It:=aQ RB hI2;have hbm:b∈L:=by
      rw[eL];refine d6 _ ?_
      cases pre with
      |nil=>cases eb
      |cons a r=>have eb':pickK (λp:af×Ky=>p.2) a r=b:=aW eb;rw[<-eb'];exact Be _ _ _
     show bg _ X.A.in1 (Sem.tryCatch (holding [.ref p.1,.ref t] (PY .Lt (.ref t) (.ref tb) >>= _)) _ >>= _) _ _ _;refine ae (vY (gz (ae (Wz (A:=X.A.in1) I2 (s0.trans LQ) hk (hkb.mono LQ) (by rw[hlen p hpL,hlen b hbm]) (by show X.A.units+1+10<lW;omega) _ _ _ _ ?_))));refine ae (gz (fJ ?_));refine ae (mC (aI ?_));obtain⟨oI,hoI,Vt,Fm⟩:=Zu;by_cases Cj:klt p.2 b.2=true
     ·rw[Cj];simp only[if_true];refine ae ?_
      cases UD with
      |cons r1 q1=>cases q1 with
       |cons r2 q2=>
        cases q2;cases r1;cases r2;refine B3 eS2 rfl (ae (mC ?_));rw[LP];have I3:Inv X pins σ (upd H2 S (.lst [.ref p.1,.ref t])) {s2 with heap:=s2.heap.update S (Jy λ_=>#[.ref p.1,.ref t]),toks:=s2.toks}:=I2.Ss (its':=[.ref p.1,.ref t]) RB eS2 rfl (.cons rfl (.cons rfl .nil)) (by show 2<=az;decide);refine aI ⟨nR gg _,ih (pre++[p]) _ _ (by rw[eL];simp) I3 (EI (s0.trans LQ) hS0) ?_ ⟨oI,?_,Vt,by rw[aO];exact Fm⟩ ?_⟩
        ·rw[vR,eb];dsimp only;rw[if_pos Cj];exact⟨t,ag,hk.off (λo z=>by rw[RB] at z;cases z)⟩
        ·exact(Bk s2.heap _ Zt).trans hoI
        ·rw[ax Zt.symm];exact hI2
     ·rw[GD] at Cj;rw[Cj];simp only[rP,if_false];refine ae (mC ?_);rw[LP];refine aI ⟨nR gg _,ih (pre++[p]) _ _ (by rw[eL];simp) I2 (s0.trans LQ) ?_ ⟨oI,hoI,Vt,by rw[aO];exact Fm⟩ hI2⟩;rw[vR,eb];dsimp only;rw[if_neg (by rw[Cj];exact aY)];exact⟨tb,RB,hkb.mono LQ⟩
end
end Bp
namespace Bp
open PySem PySem.Spec PyProof.Rows L2
open PySem.W (kla_obj kla_fn CodeHd tabObj envX kla_eval kla_makeFunction kla_makeFunctionHit kla_callFunE kla_codeExpr)
abbrev fI:Str:="form"
abbrev xg:Str:="release"
def zX(c:af)(lq:Str):HO:=.ext λh=>h.CodeRec (.ref c) lq
def pG(lp:Pos)(lq:Str)(P:af)(H:Hp):Prop:=H P=some (.uA #[])∨∃c,H P=some (.uA #[eQ lp.line,eQ lp.col,.ref c])/\H c=some (zX c lq)
theorem pG.mono{lp:Pos}{lq:Str}{P:af}{H H':Hp}(e:aS H H')(h:pG lp lq P H):pG lp lq P H':=h.elim (λz=>.inl (e _ _ z)) λ⟨c,a,b⟩=>.inr ⟨c,e _ _ a,e _ _ b⟩
def BMain(mg:Str->Option aj)(h:cu):Prop:=∃bm o,mg "__builtins__"=some (.ref bm)/\bm≠Jw/\bm≠bF/\h.get? bm=some o/\o.cls=.type "module"/\o.dict=some Jw/\o.data=.plain
section
variable{X:Cx}{pins:List (af×Obj)}{σ:L2.St}{H:Hp}{s:ay}{params:Ow}{body:Expr}{scope:Scope}{lp:Pos}{lq:Str}{c P cf:af}{Q:aj->ay->Prop}{E:aj->ay->Prop}
theorem UG(I:Inv X pins σ H s){h':cu}{tk:Nat}{o:Obj}{fd:je}(hf:o.isFreed=false)(ho:o.data=.func fd)(hsz:s.heap.objs.size<=h'.objs.size){H':Hp}(J:Inv X pins σ H' {s with heap:=h'.push o,toks:=tk})(hn:H' h'.objs.size=none):
  Inv X (pins++[(h'.objs.size,o)]) σ H' {s with heap:=h'.push o,toks:=tk}:=J.CC λz hz=>(aD.mp hz).elim (λy=>J.pin z (cZ _ y)) λy=>by
 have e:z=(h'.objs.size,o):=by simpa using y
 subst e;exact⟨aT _ hf,hn,dw (bJ I.lt hsz),I.abb hsz,λv e=>by rw[ho] at e;cases e⟩
theorem UH(I:Inv X pins σ H s)(Zv:defaultsOf params X.env=([],[]))(hq:X.env.qual++("<lambda>":Str)=lq)(uB:U2 scope X.env=pure [(fI,cf)])(PH:X.env.code=.ref c)(C:CodeHd X.base c P)(hB:BMain X.mg X.base)(hT:pG lp lq P H)(k:∀(qa c':af)(Jk:aj)(h':cu)(tk:Nat)(H':Hp),cW [P] H H'->pG lp lq P H'->H' c'=some (zX c' lq)->Inv X (pins++[(qa,kla_obj "<lambda>" lq params body scope [(fI,cf)] ((X.mg "__name__").getD .none) c' Jk)]) σ H' {s with heap:=h',toks:=tk}->Q (.ref qa) {s with heap:=h',toks:=tk}):
  bg (model X.prog X.w) X.A (eval (.Lambda params body scope lp) X.env) Q E s:=by
 refine kla_eval Zv ?_;rw[hq];have hg:=I.mod.glob.keeps I.bk;have C':=C.keeps I.bk;have Zw:H P≠none:=λz=>by rcases hT with e|⟨_,e,_⟩<;>(rw[z] at e;cases e)
 have hgP:bF≠P:=λz=>by obtain⟨o,es,ep,e,_⟩:=I.mod.glob;exact Zw (by rw[<-z];exact(I.bs _ _ e).2)
 have hBA:s.heap.BuiltinsAt X.mg P:=by obtain⟨bm,o,b1,b2,b3,b4,b5,b6,b7⟩:=hB;exact⟨bm,o,b1,b2,b3,λz=>Zw (by rw[<-z];exact(I.bs _ _ b4).2),I.bk _ _ b4,b5,b6,b7⟩
 rcases hT with e|⟨c',e,ec⟩
 ·have hP:s.heap.get? P=some (tabObj #[]):=I.dI P _ e;refine kla_makeFunction (mg:=X.mg) uB I.ok.glob hg PH C' hP trivial rfl hgP hBA λc' Jk h' tk hx hge og UI RG=>?_;have hsz:s.heap.objs.size<=h'.objs.size:=ak hge (cT og);have hc0:H c'=none:=I.dI.fresh hge;have hcP:c'≠P:=λz=>Zw (by rw[<-z];exact hc0);have agr:P<s.heap.objs.size:=bc hP;have e1:∀b o,H b=some o->b≠P->upd (upd H P (.uA #[eQ lp.line,eQ lp.col,.ref c'])) c' (zX c' lq) b=some o:=λb o q n=>by rw[ax (aQ q hc0),ax n];exact q
  have atP:upd (upd H P (.uA #[eQ lp.line,eQ lp.col,.ref c'])) c' (zX c' lq) P=some (.uA #[eQ lp.line,eQ lp.col,.ref c']):=by rw[ax hcP.symm,ag]
  have kp:∀b u,b≠P->s.heap.get? b=some u->(h'.push (kla_obj "<lambda>" lq params body scope [(fI,cf)] ((X.mg "__name__").getD .none) c' Jk)).get? b=some u:=λb u n q=>ai _ (hx b u n q);have un:Un X.fs [] H (upd (upd H P (.uA #[eQ lp.line,eQ lp.col,.ref c'])) c' (zX c' lq)) s.heap (h'.push (kla_obj "<lambda>" lq params body scope [(fI,cf)] ((X.mg "__name__").getD .none) c' Jk)):=by
   have neP:∀b,H b=none->b≠P:=λb q z=>Zw (by rw[<-z];exact q);refine⟨λb o q n _ _=>kp b o (neP b n) q,λb o q n _ _=>⟨o.slots,kp b o (neP b n) q⟩,λb o q n _=>?_,λb o q _=>?_,λb xs q=>e1 b _ q (gA q e (λz=>nomatch z)),λb o u q=>e1 b _ q (gA q e (λz=>nomatch z)),λb ps q=>?_⟩
   ·rw[ax (bR (bJ (bc q) hge)),ax (neP b n)];exact n
   ·by_cases z:b=P
    ·rw[z];exact⟨_,ai _ RG⟩
    ·exact⟨o,kp b o z q⟩
   ·by_cases z:b=P
    ·subst z;rw[e] at q;cases q;exact⟨#[eQ lp.line,eQ lp.col,.ref c'],by rw[atP];simp⟩
    ·exact⟨#[],by rw[e1 b _ q z];simp⟩
  have dI:uf X.prog X.w (upd (upd H P (.uA #[eQ lp.line,eQ lp.col,.ref c'])) c' (zX c' lq)) (h'.push (kla_obj "<lambda>" lq params body scope [(fI,cf)] ((X.mg "__name__").getD .none) c' Jk)):=λb o q=>by
   by_cases z:b=c'
   ·subst z;rw[ag] at q;cases q;obtain⟨c2,oc,vs,t,y1,y2,y3,y4⟩:=UI;cases y1;refine⟨⟨b,oc,vs,t,rfl,ai _ y2,y3,y4⟩,⟨oc,ai _ y2⟩,λh1 h2 hh kk=>?_⟩;obtain⟨c2,oc,vs,t,y1,y2,y3,y4⟩:=hh;cases y1;exact⟨b,oc,vs,t,rfl,kk _ y2,y3,y4⟩
   ·by_cases z2:b=P
    ·subst z2;rw[atP] at q;cases q;have:=ai (kla_obj "<lambda>" lq params body scope [(fI,cf)] ((X.mg "__name__").getD .none) c' Jk) RG;rw[show(#[]:Array aj)++#[eQ lp.line,eQ lp.col,.ref c']=#[eQ lp.line,eQ lp.col,.ref c'] by simp] at this;exact this
    ·rw[ax z,ax z2] at q;refine(I.dI b o q).FD (λd v hd y=>kp d v ?_ y) (λd y=>e1 d _ y (gA y e (λz=>nomatch z))) λd xs y=>e1 d _ y (gA y e (λz=>nomatch z));rcases hd with z|z
     ·rw[z];exact z2
     ·exact gA z e (λz=>nomatch z)
  have J:=I.un (t':=tk) un dI;refine k _ c' Jk _ tk _ (λb o q=>?_) (.inr ⟨c',atP,ag⟩) ag (UG I rfl rfl hsz J ?_)
  ·obtain⟨n,q⟩:=cY q;exact e1 b o q (by simpa using n)
  ·rw[ax (dw og),ax (dw (bJ agr hsz))];exact I.dI.fresh hsz
 ·have hP:s.heap.get? P=some (tabObj #[eQ lp.line,eQ lp.col,.ref c']):=I.dI P _ e;refine kla_makeFunctionHit (mg:=X.mg) uB I.ok.glob hg PH C' hP trivial (codeAmong_snoc [] trivial rfl) hBA λJk h' tk hk hsz=>?_;have J:Inv X pins σ H {s with heap:=h'.push (kla_obj "<lambda>" lq params body scope [(fI,cf)] ((X.mg "__name__").getD .none) c' Jk),toks:=tk}:=I.kept λb u q=>ai _ (hk b u q);exact k _ c' Jk _ tk H (cW.of (aS.refl _)) (.inr ⟨c',e,ec⟩) ec (UG I rfl rfl hsz J (I.dI.fresh hsz))
end
def PJ(X:Cx)(A:cp)(N:List Str)(lq:Str)(scope:Scope)(s:ay)(H:Hp)(qa c':af)(cl:List (Str×af)):Cx where
 prog:=X.prog
 w:=X.w
 K:=X.K
 mg:=X.mg
 base:=X.base
 A:=A.deeper (envX lq scope s.heap.objs.size qa (.ref c') cl)
 N:=N
 FF:=s
 H_0:=H
 env:=envX lq scope s.heap.objs.size qa (.ref c') cl
 outer:=X.stack
 stack:=envX lq scope s.heap.objs.size qa (.ref c') cl::X.stack
 ex:=[]
 calm:=true
 fn:=λ_=>false
 pn:=[]
 xe:=λ_ _=>False
section
variable{X:Cx}{pins:List (af×Obj)}{σ:L2.St}{H:Hp}{s:ay}{params:Ow}{body:Expr}{scope:Scope}{lq:Str}{qa c' cf:af}{pm Jk:aj}
theorem WB(I:Inv X pins σ H s){A:cp}(hA:A.frames=X.A.frames)(hh:A.handled=none)(Qn:scope.names=[(xg,NameKind.local),(fI,jH)])(hk:scope.kind=.function)(hcf:X.env.cells.lookup fI=some cf){u v:aj}{x y:V}(rx:RelV x u)(ry:RelV y v)(lM:s.heap.IsCell cf (some v)){h1:cu}{tk:Nat}(WC:h1.Ns s.heap.objs.size (λz=>[(xg,u)].reverse.lookup z))(Zx:∀b o,s.heap.get? b=some o->h1.get? b=some o):
  Inv (PJ X A [xg,fI] lq scope s H qa c' [(fI,cf)]) [] [some x,some y] H {s with heap:=h1,toks:=tk}:=by
 have cl1:∀z d,([(fI,cf)]:List (Str×af)).lookup z=some d->d=cf:=λz d q=>by
  rw[di] at q;split at q
  ·exact(aW q).symm
  ·cases q
 have cl2:∀z d,([(fI,cf)]:List (Str×af)).lookup z=some d->z=fI:=λz d q=>by
  rw[di] at q;split at q
  ·rename_i h;exact eq_of_beq h
  ·cases q
 have hc1:h1.IsCell cf (some v):=let⟨o,a,b⟩:=lM;⟨o,Zx _ _ a,b⟩;have Yf:∀b:af,b∉(PJ X A [xg,fI] lq scope s H qa c' [(fI,cf)]).ex:=λb z=>absurd (show b∈([]:List af) from z) (by simp);refine⟨⟨I.ok.mod,hk,rfl,rfl,aJ _,λz1 z2 d q1 q2=>?_,λz hz=>?_,λz d q _=>?_,λ_=>hh,?_,.inr ⟨rfl,rfl⟩,λb z=>absurd z (Yf b),I.bs,ak I.ok.U9 I.sz,λb _ _=>Yf b,λb z=>absurd z (Yf b),I.stack,I.Hy⟩,rfl,I.bare,Un.kept Zx,⟨_,WC,λi z w q1 q2 q3=>?_⟩,λz d q=>?_,I.dI.fresh (aJ _),λz d q=>?_,λp hp=>absurd (show p∈([]:List (af×Obj)) from hp) (by simp),I.dI.kept Zx,rfl⟩
 ·rw[cl2 z1 d q1,cl2 z2 d q2]
 ·have GP:scope.names.lookup z=some .cell∨scope.names.lookup z=some .free:=hz;rw[Qn] at GP;by_cases q:z=fI
  ·subst q;exact⟨cf,by rfl⟩
  ·exfalso;rw[di] at GP;by_cases q2:z=xg
   ·subst q2;rcases GP with h|h<;>cases h
   ·rw[show(z==xg)=false from beq_eq_false_iff_ne.mpr q2,di,show(z==fI)=false from beq_eq_false_iff_ne.mpr q] at GP;rcases GP with h|h<;>cases h
 ·exact absurd (show false=true from q) aY
 ·refine adx ?_;rw[hA];exact I.ok.frames
 ·rcases i with _|_|i
  ·have:xg=z:=aW q1;subst this;have:x=w:=aW (aW q2);subst this;refine⟨u,rx,.inl ⟨?_,rfl⟩⟩;show scope.names.lookup xg=some .local;rw[Qn];rfl
  ·have:fI=z:=aW q1;subst this;have:y=w:=aW (aW q2);subst this;refine⟨v,ry,.inr ⟨.inr ?_,cf,rfl,hc1⟩⟩;show scope.names.lookup fI=some .free;rw[Qn];rfl
  ·exact absurd q1 (by show([xg,fI]:List Str)[i+2]? ≠some z;simp)
 ·rw[cl1 z d q];exact⟨_,hc1⟩
 ·rw[cl1 z d q];exact I.tj _ _ hcf
theorem UJ(I:Inv X pins σ H s){A:cp}(hA:A.frames=X.A.frames)(hh:A.handled=none)(KQ:A.depth<vX)(Qn:scope.names=[(xg,NameKind.local),(fI,jH)])(hk:scope.kind=.function)(hco:scope.isCoroutine=false)(Zy:scope.isGenerator=false)(hcf:X.env.cells.lookup fI=some cf){u v:aj}{x y:V}(rx:RelV x u)(ry:RelV y v)(lM:s.heap.IsCell cf (some v))(agv:(qa,kla_obj "<lambda>" lq params body scope [(fI,cf)] pm c' Jk)∈pins)(hc:H c'=some (zX c' lq))(LR:Am (kla_fn "<lambda>" lq params body scope [(fI,cf)] pm (.ref c') Jk) ⟨[u],[]⟩=pure [(xg,u)]){t:TE}{Q:VK}(hb:PE (PJ X A [xg,fI] lq scope s H qa c' [(fI,cf)]) body t)(ht:t [some x,some y] H Q):
  bg (model X.prog X.w) A (call (.ref qa) [u]) (EP X pins σ Q) (λ_ _=>False) s:=by
 have agw:=(I.pin _ (cZ _ agv)).1;obtain⟨UI,_⟩:=I.dI c' _ hc;refine Jx (kla_callFunE KQ agw rfl hco Zy rfl UI ?_);rw[LR];refine aI (wpAny_newFunctionEnv (λz hz=>?_) (λz hz=>?_) (λh1 WC hsb=>⟨(I.nolimit).keeps λb o e=>?_,?_⟩) hk)
 ·have GP:z∈scope.names:=hz;rw[Qn] at GP;simp only[aA,ff,or_false] at GP;rcases GP with rfl|rfl<;>exactλq=>nomatch q
 ·have e:z=(xg,u):=by simpa using hz
  subst e;show scope.names.lookup xg=some .local;rw[Qn];rfl
 ·exact hsb.extBut b o (bR (bc e)) (ai _ e)
 ·show qO _ _ (.expr body (envX lq scope s.heap.objs.size qa (.ref c') [(fI,cf)])) _ _;have Zx:∀b o,s.heap.get? b=some o->h1.get? b=some o:=λb o e=>hsb.extBut b o (bR (bc e)) (ai _ e);have J:=WB (lq:=lq) (qa:=qa) (c':=c') (tk:=s.toks+1) I hA hh Qn hk hcf rx ry lM WC Zx;refine kla_codeExpr (fj (hb [] _ _ H Q J ht) (λu' s' hq=>?_) λ_ _ z=>dH z);obtain⟨v',H',J',rv,q⟩:=hq;exact I.after ⟨v',H',J'.os,J'.bare,J'.base,J'.dI,rv,q⟩
end
end Bp
namespace Bp
open PySem PySem.Spec PyProof.Rows L2
open PySem.W (kla_obj kla_fn CodeHd)
theorem Jl{M:XH}{A:cp}{E:aj->ay->Prop}{s:ay}{env:Env}{pos:Pos}{T:String}{e:Expr}{kws:List Bu}{Q:aj->ay->Prop}(h:bg M A (spliced (fH pos (bL [e] env))) (λvs s1=>bg M A (evalAll ((iH pos (eU kws env)).map (·.2))) (λkvs s2=>bg M A (call (.builtin T) vs (((iH pos (eU kws env)).filterMap (·.1)).zip kvs)) Q E s2) E s1) E s)(he:fH pos (bL [e] env)=(false,eval e env)::fH pos (bL [] env):=by rfl)(kL:(iH pos (eU kws env)).all (·.1.isSome)=true:=by rfl)(hkw:(iH pos (eU kws env)).any (·.1.isNone)=false:=by rfl):
  bg M A (pI pos (.builtin T) [] (fH pos (bL [e] env)) (iH pos (eU kws env))) Q E s:=by
 unfold pI;rw[he] at h⊢;refine ae (gz (fj (evalArgs_kwB (Q:=λa s1=>bg M A (call (.builtin T) a.pos a.kw) Q E s1) kL h) (λa s1 h1=>ae (Ht ?_)) λ_ _ x=>x));simp only[hkw,show((false,eval e env)::fH pos (bL [] env)).any (·.1)=false from rfl,Oy];refine ae (aI ?_);exact ae (fj h1 (λr s2 hr=>ae (gz (wpAny_point (aI hr)))) λ_ _ x=>x)
theorem Zz(a v d:aj):U3 "min" ⟨[a],[(aR "key",v),(aR "default",d)]⟩:=by unfold U3;kernel_rfl
def agx(ta:TA)(tb:TE)(lp:Pos)(lq:Str)(P:af)(i:Nat):TE:=λσ H Q=>ta σ H λvs H1=>∃(l:af)(L:List (af×Ky))(nl:Nat)(y:V),vs=[.ref l]/\H1 l=some (.lst (L.map λp=>V.ref p.1))/\pG lp lq P H1/\σ[i]? =some (some y)/\(∀p∈L,p.2.2.2.length=nl)/\
 (∀p∈L,∀H2 H,cW [P] H1 H2->aS H2 H->tb [some (.ref p.1),some y] H λx H'=>aS H H'/\∃t,x=.ref t/\tZ H2 H' t p.2)/\
 ∀(H:Hp),cW [P] H1 H->pG lp lq P H->Q (match bestOf (λp:af×Ky=>p.2) L with|none=>.gT|some b=>.ref b.1) H
section
variable{X:Cx}{e:Expr}{ta:TA}{tb:TE}{p pos kp1 kp2 Qj lp:Pos}{j i:Nat}{params:Ow}{body:Expr}{scope:Scope}{lq:Str}{c P cf:af}
theorem WD(hc:X.calm=true)(hu:X.A.units+20<lW)(KQ:X.A.depth<vX)(hg:Gl X "min")(hm:X.mg "min"=none)(C:CodeHd X.base c P)(hB:BMain X.mg X.base)(PH:X.env.code=.ref c)(he:PA X [e] ta)(JP:∀(s:ay)(H:Hp)(qa c':af),PE (PJ X X.A.in1 ["release","form"] lq scope s H qa c' [("form",cf)]) body tb)(hN:X.N[i]? =some fI)(hkf:X.env.kindOf fI=some .cell)(Yo:Vis X.env.scope fI)(hcf:X.env.cells.lookup fI=some cf)(Zv:defaultsOf params X.env=([],[]))(hq:X.env.qual++("<lambda>":Str)=lq)(uB:U2 scope X.env=pure [(fI,cf)])(Qn:scope.names=[(xg,NameKind.local),(fI,jH)])(hk:scope.kind=.function)(hco:scope.isCoroutine=false)(Zy:scope.isGenerator=false)(LR:∀pm c' Jk u,Am (kla_fn "<lambda>" lq params body scope [(fI,cf)] pm (.ref c') Jk) ⟨[u],[]⟩=pure [(xg,u)])(hb:fH pos (bL [e] X.env)=(false,eval e X.env)::fH pos (bL [] X.env):=by rfl):
  PE X (.Call (.Name "min" p) [e] [⟨some "key",.Lambda params body scope lp,kp1⟩,⟨some "default",.Constant .none j Qj,kp2⟩] pos) (agx ta tb lp lq P i):=by
 intro pins s σ H Q I h;have LP:(lV "min"++lV ".loop":String)="min.loop":=by decide
 refine i9 (uE I hg hm Ti (Jl (kws:=[⟨some "key",.Lambda params body scope lp,kp1⟩,⟨some "default",.Constant .none j Qj,kp2⟩]) (iw (he pos pins s σ H _ I h) λus s1 ⟨vs,H1,I1,r1,q1⟩=>?_) hb));obtain⟨l,L,nl,y,ex,zb,Hf,hy,hlen,HB,eT⟩:=q1;subst ex;rw[Vals.HJ r1];refine kws_cons (UH I1 Zv hq uB PH C hB Hf λqa c' Jk h2 ZA H2 sB2 VR hc2 I2=>?_);refine kws_cons (Constant_none (kws_nil ?_));have ZC:∀xs,H1 P≠some (.lst xs):=λxs z=>by rcases Hf with e|⟨_,e,_⟩<;>(rw[z] at e;cases e)
 have hlP:l≠P:=λz=>ZC _ (by rw[<-z];exact zb);have MK:H2 l=some (.lst (L.map λp=>V.ref p.1)):=sB2.at zb (by simpa using hlP);obtain⟨_,its,n,rv,el⟩:=I2.dI l _ MK;rw[qv rv] at el;refine kmk_tree PySem.F.kind_min PySem.F.plain_min PySem.F.entry_min (Zz _ _ _) ?_;show bg _ X.A.in1 (RM "min" ["key","default"] 0 ⟨[],[(aR "key",.ref qa),(aR "default",.none)]⟩ >>= _) _ _ _;refine ae (PZ (show RM "min" ["key","default"] 0 ⟨[],[(aR "key",.ref qa),(aR "default",.none)]⟩=pure [some (.ref qa),some .none] from rfl) ?_);refine ae (aI ?_);refine ae (fK (s:={s1 with heap:=h2,toks:=ZA}) ⟨_,el,rfl,_,rfl⟩ ?_);refine ae (WQ ?_ (bB _));rw[LP];have Pp:l<h2.objs.size:=bc el;have hS:(h2.push {cls:=.type "list_iterator",data:=.fields #[.ref l,.int 0 0]}).objs.size=h2.objs.size+1:=size_push' ..;have I3:Inv X (pins++[(qa,kla_obj "<lambda>" lq params body scope [(fI,cf)] ((X.mg "__name__").getD .none) c' Jk)]) σ H2 {s1 with heap:=h2.push {cls:=.type "list_iterator",data:=.fields #[.ref l,.int 0 0]},toks:=ZA}:=I2.kept (s:={s1 with heap:=h2,toks:=ZA}) (t':=ZA) λb u q=>ai _ q;have hSn:H2 (h2.push {cls:=.type "list_iterator",data:=.fields #[.ref l,.int 0 0]}).objs.size=none:=I3.dI.fresh (aJ _);have I4:Inv X (pins++[(qa,kla_obj "<lambda>" lq params body scope [(fI,cf)] ((X.mg "__name__").getD .none) c' Jk)]) σ (upd H2 (h2.push {cls:=.type "list_iterator",data:=.fields #[.ref l,.int 0 0]}).objs.size (.lst [])) {s1 with heap:=(h2.push {cls:=.type "list_iterator",data:=.fields #[.ref l,.int 0 0]}).push (RP "list" #[] 0),toks:=ZA}:=I3.laid (s:={s1 with heap:=h2.push {cls:=.type "list_iterator",data:=.fields #[.ref l,.int 0 0]},toks:=ZA}) (t':=ZA) (λb u q=>ai _ q) (aJ _) ⟨bB _,[],0,.nil,aT _ rfl⟩;refine aI ⟨nR gg _,?_⟩;have hIn:H2 h2.objs.size=none:=I2.dI.fresh (aJ _);refine kH (UC (pins:=pins++[(qa,kla_obj "<lambda>" lq params body scope [(fI,cf)] ((X.mg "__name__").getD .none) c' Jk)]) (σ:=σ) (H0:=H2) (l:=l) (It:=h2.objs.size) (q:=qa) (L:=L) (nl:=nl) (Q:=Q) hc hu MK hSn hlen (λH' hn=>I2.HA (aJ _) hn) (bR Pp) (λz hz GH s' H' I' LQ=>?_) (λH' v LQ hv=>?_) L [] _ _ rfl I4 (aB hSn) ag ⟨_,ai _ (aT _ rfl),rfl,rfl⟩ ?_) λr s' hr=>?_
 ·obtain⟨m,hn,hlk⟩:=I'.loc;obtain⟨u,ru,lk⟩:=hlk i fI y hN hy Yo;obtain⟨d,hd,lM⟩:∃d,X.env.cells.lookup fI=some d/\s'.heap.IsCell d (some u):=by
   rcases lk with⟨h1,_⟩|⟨_,d,h1,h2⟩
   ·rw[hkf] at h1;cases h1
   ·exact⟨d,h1,h2⟩
  rw[hcf] at hd;cases hd;exact UJ (A:=X.A.in1) I' rfl (I'.ok.hd hc) KQ Qn hk hco Zy hcf (x:=.ref z.1) (y:=y) rfl ru lM (d6 _ (cZ _ (.head _))) (LQ _ _ hc2) (LR _ _ _ _) (JP _ _ _ _) (HB z hz H2 H' sB2 LQ)
 ·rw[hv];exact eT H' (sB2.trans (cW.of LQ)) (VR.mono LQ)
 ·rw[ax (by rw[hS];exact bR (oH _))];exact hIn
 ·cases r with
  |error e=>exact dH hr
  |ok fl=>
   cases fl with
   |ret u=>obtain⟨v,H',J,rv,q⟩:=hr;exact⟨v,H',J.qQ,rv,q⟩
   |next=>exact dH hr
   |brk=>exact dH hr
   |cont=>exact dH hr
end
end Bp
namespace Bp
open PySem PySem.Spec PyProof.Rows L2 Bm
open Vbslai (may plans best better choices)
def keyOf(cs:List bw)(z:Rl):Ky:=((iO cs z.levels:Nat),(z.left:Nat),z.levels.map λ(n:Nat)=>(n:Int))
theorem LS:∀a b:List Nat,HT.lexLt (a.map λ(n:Nat)=>(n:Int)) (b.map λ(n:Nat)=>(n:Int))=wK a b
 |[],[]=>rfl
 |[],_::_=>rfl
 |_::_,[]=>rfl
 |x::a,y::b=>by
  rw[bp,bp,HT.x8,LS a b];show _=(decide (x<y)||(x==y&&wK a b));by_cases h:x=y
  ·subst h;rw[if_pos rfl];simp
  ·rw[if_neg (by omega),show(x==y)=false by simpa using h];simp
def i6(cs:List bw)(rows:List fW)(k u:Nat)(z:Rl):aeB:={cost:=iO cs z.levels,release:=cA cs rows z.levels k u}
theorem N8{cs:List bw}{rows:List fW}{k u:Nat}{x y:Rl}(nd:(rows.map (·.who)).Nodup)(hx:x=ik cs rows x.levels k u)(hy:y=ik cs rows y.levels k u)(h:wK y.levels x.levels=true):klt (keyOf cs x) (keyOf cs y)=better (i6 cs rows k u x) (i6 cs rows k u y):=by
 have lx:x.left=(cA cs rows x.levels k u).out.length:=by rw[hx];exact(oB nd).left
 have ly:y.left=(cA cs rows y.levels k u).out.length:=by rw[hy];exact(oB nd).left
 have key:better (i6 cs rows k u x) (i6 cs rows k u y)=(decide (iO cs x.levels<iO cs y.levels)||(iO cs x.levels==iO cs y.levels&&decide (x.left<y.left))):=by rw[lx,ly];rfl
 rw[key];unfold klt keyOf;dsimp only;rw[LS,Dt h];by_cases c:iO cs x.levels=iO cs y.levels
 ·rw[if_pos (by omega),show(iO cs x.levels==iO cs y.levels)=true by simpa using c,decide_eq_false (show¬iO cs x.levels<iO cs y.levels by omega)];by_cases l:x.left=y.left
  ·rw[if_pos (by omega),decide_eq_false (show¬x.left<y.left by omega)];rfl
  ·rw[if_neg (by omega)];by_cases q:x.left<y.left
   ·rw[decide_eq_true q,decide_eq_true (by omega)];rfl
   ·rw[decide_eq_false q,decide_eq_false (by omega)];rfl
 ·rw[if_neg (by omega),show(iO cs x.levels==iO cs y.levels)=false by simpa using c];by_cases q:iO cs x.levels<iO cs y.levels
  ·rw[decide_eq_true q,decide_eq_true (by omega)];rfl
  ·rw[decide_eq_false q,decide_eq_false (by omega)];rfl
theorem EJ{cs:List bw}{rows:List fW}{k u:Nat}(nd:(rows.map (·.who)).Nodup):∀(l:List (af×Rl))(a:af×Rl),(∀p∈a::l,p.2=ik cs rows p.2.levels k u)->(a::l).Pairwise (λp q=>wK p.2.levels q.2.levels=true)->
  i6 cs rows k u (pickK (λp:af×Rl=>keyOf cs p.2) a l).2=pick (i6 cs rows k u a.2) (l.map λp=>i6 cs rows k u p.2)
 |[],_,_,_=>rfl
 |x::l,a,h,hp=>by
  have Hi:=fL.mp hp;have e:=N8 nd (h x (by simp)) (h a (by simp)) (Hi.1 x (by simp));show i6 cs rows k u (pickK _ (if klt (keyOf cs x.2) (keyOf cs a.2)=true then x else a) l).2=pick (if better (i6 cs rows k u x.2) (i6 cs rows k u a.2)=true then i6 cs rows k u x.2 else i6 cs rows k u a.2) (l.map λp=>i6 cs rows k u p.2);rw[e];by_cases q:better (i6 cs rows k u x.2) (i6 cs rows k u a.2)=true
  ·rw[if_pos q,if_pos q];exact EJ nd l x (λp hp=>h p (.tail _ hp)) Hi.2
  ·rw[if_neg q,if_neg q];refine EJ nd l a (λp hp=>h p ?_) ?_
   ·rcases aA.mp hp with z|z
    ·rw[z];exact .head _
    ·exact .tail _ (.tail _ z)
   ·exact fL.mpr ⟨λq hq=>Hi.1 q (.tail _ hq),(fL.mp Hi.2).2⟩
theorem ZD{cs:List bw}{rows:List fW}{zs:List Rl}{qs:List fN}(nd:(rows.map (·.who)).Nodup)(h:jU cs rows zs qs)(ls:List Nat)(k u m:Nat):
  may cs qs rows m (cA cs rows ls k u)=(ic m (ik cs rows ls k u)&&lP (zs++[ik cs rows ls k u]) rows):=by
 have ok:=oB (cs:=cs) (ls:=ls) (k:=k) (u:=u) nd;unfold may ic;rw[HX nd (h.snoc ok),ok.left,ok.len,nW];congr 2
 cases(cA cs rows ls k u).has with
 |nil=>rfl
 |cons a l=>rfl
theorem EK{cs:List bw}{rows:List fW}{zs:List Rl}{qs:List fN}(nd:(rows.map (·.who)).Nodup)(h:jU cs rows zs qs)(ask:List Bool)(k u m:Nat):
  plans cs qs rows ask k u m=((((choices (cs.zip ask)).map λls=>ik cs rows ls k u).filter λz=>ic m z).filter λz=>lP (zs++[z]) rows).map (i6 cs rows k u):=by
 unfold plans;rw[CB]
 induction choices (cs.zip ask) with
 |nil=>rfl
 |cons ls l ih=>
  rw[qz,bp,wa];dsimp only;rw[ZD nd h,OA];by_cases q:(lP (zs++[ik cs rows ls k u]) rows&&ic m (ik cs rows ls k u))=true
  ·rw[if_pos q,if_pos q,bp,ih];rfl
  ·rw[if_neg q,if_neg q];exact ih
theorem LU{cs:List bw}{rows:List fW}(nd:(rows.map (·.who)).Nodup)(ask:List Bool)(k u m:Nat):(plans cs [] rows ask k u m).length=(((choices (cs.zip ask)).map λls=>ik cs rows ls k u).filter λz=>ic m z).length:=by rw[EK nd .nil,aa];congr 1;refine List.filter_eq_self.mpr λz hz=>?_;obtain⟨ls,_,rfl⟩:=aq.mp (bE.mp hz).1;have:=Ta (cs:=cs) (ls:=ls) (k:=k) (u:=u) nd;rw[HX nd (.cons (oB nd) .nil)] at this;exact this
theorem N9{α β:Type}{f:α->β}{key:β->Ky}:∀l:List α,bestOf key (l.map f)=(bestOf (λa=>key (f a)) l).map f
 |[]=>rfl
 |a::l=>by
  show some (pickK key (f a) (l.map f))=some (f (pickK (λa=>key (f a)) a l));congr 1;unfold pickK
  induction l generalizing a with
  |nil=>rfl
  |cons x l ih=>rw[bp,bI,bI,<-ih];congr 1;split<;>rfl
theorem Ra{cs:List bw}{rows:List fW}{zs:List Rl}{qs:List fN}(nd:(rows.map (·.who)).Nodup)(h:jU cs rows zs qs)(ask:List Bool)(k u m:Nat){L:List (af×Rl)}(hL:L.map (·.2)=(((choices (cs.zip ask)).map λls=>ik cs rows ls k u).filter λz=>ic m z).filter λz=>lP (zs++[z]) rows):
  uc cs qs rows ask k u m=(bestOf (λp:af×Rl=>keyOf cs p.2) L).map λp=>i6 cs rows k u p.2:=by
 unfold uc;rw[EK nd h,<-hL,aP];have kL:∀z∈L.map (·.2),∃ls∈choices (cs.zip ask),z=ik cs rows ls k u:=λz hz=>by rw[hL] at hz;obtain⟨ls,h1,h2⟩:=aq.mp (bE.mp (bE.mp hz).1).1;exact⟨ls,h1,h2.symm⟩
 have hpw:L.Pairwise λp q=>wK p.2.levels q.2.levels=true:=by
  have h1:((choices (cs.zip ask)).map λls=>ik cs rows ls k u).Pairwise λa b=>wK a.levels b.levels=true:=by rw[Fb];exact u4 _
  have h2:=(h1.filter λz=>ic m z).filter λz=>lP (zs++[z]) rows;rw[<-hL,Fb] at h2;exact h2
 cases L with
 |nil=>rfl
 |cons a l=>
  show best (i6 cs rows k u a.2::l.map _)=some (i6 cs rows k u (pickK (λp:af×Rl=>keyOf cs p.2) a l).2);rw[G8,EJ nd l a (λp hp=>?_) hpw]
  ·rfl
  ·obtain⟨ls,_,e⟩:=kL p.2 (aq.mpr ⟨p,hp,rfl⟩);rw[e];rfl
theorem WE{H:Hp}{S S':List af}(h:∀b∈S,b∈S'):aS (cut H S') (cut H S):=λb o e=>by obtain⟨n,e⟩:=cY e;rw[cX λq=>n (h b q)];exact e
theorem LV{H H':Hp}{P:af}{M:List af}(h:cW [P] H H')(hP:P∈M):aS (cut H M) (cut H' M):=λb o e=>by obtain⟨n,e⟩:=cY e;rw[cX n];exact h.at e (by simp;exactλz=>n (by rw[z];exact hP))
theorem UK(l:List Nat):gP l=(l.map λ(n:Nat)=>(n:Int)).map V.int:=by unfold gP;rw[aP];rfl
end Bp
namespace Bp
open PySem PySem.Spec PyProof.Rows L2 Bm
open Vbslai (choices)
open PySem.W (CodeHd)
theorem yV{α β:Type}{R:α->β->Prop}:∀{l:List α}{m:List β},dh R l m->∀p∈l.zip m,R p.1 p.2
 |_,_,.nil,p,h=>by simp at h
 |_,_,.cons r t,p,h=>by
  rw[CA] at h;rcases aA.mp h with e|e
  ·rw[e];exact r
  ·exact yV t p e
theorem Jm:∀{xs:List af}{ys:List Rl},xs.length=ys.length->iJ xs=N1 (xs.zip ys)
 |[],[],_=>rfl
 |x::xs,y::ys,h=>by show V.ref x::iJ xs=V.ref x::N1 (xs.zip ys);rw[Jm (by simpa using h)]
 |[],_::_,h=>by simp at h
 |_::_,[],h=>by simp at h
theorem Oa{α:Type}{key:α->Ky}{l:List α}{b:α}(h:bestOf key l=some b):b∈l:=by
 cases l with
 |nil=>cases h
 |cons a l=>rw[<-aW h];exact Be _ _ _
structure UL(K:ah)(mg:Str->Option aj)(x qual:Str)(st:cy)(ps:List Str)(c Pt:af):Prop where
 ex:∃(f:af)(fd:je),VX K x qual st f fd/\mg x=some (.ref f)/\Binds K fd ps []/\fd.code=.ref c
 hd:∀h:cu,K.In h->CodeHd h c Pt
section
variable{P:bo}{w:bM}{K:ah}{mg:Str->Option aj}{base:cu}{A:Cl}
theorem UL.ok{x qual:Str}{st:cy}{N ps:List Str}{k:Nat}{sp:Sp}{c Pt:af}(R:UL K mg x qual st ps c Pt)(S:bf N ps (aN st))(len:∀vs H Q E,sp vs H Q E->vs.length=ps.length)(hb:∀(f:af)(A:cp)(outer:List Env)(s:ay)(H:Hp)(vs:List V)(Q:VK)(E:XK),jf k (A.deeper (xV qual (aN st) s.heap.objs.size f (.ref c)))->sp vs H Q E->∃t,Mx (FI SS P w K mg base N qual (aN st) f (.ref c) A outer s H E).Vv (jl st) t/\t {nx:=λ_ H'=>Q .gT H',rt:=Q} (start N vs) H):Def P w K mg base x (k+1) ps sp:=by obtain⟨f,fd,F,m,b,ec⟩:=R.ex;refine⟨f,fd,?_,m,F.kp,b⟩;obtain⟨oc,od,kV,doc,pm,an,eC,ct,JO,rfl,lk,R6⟩:=F.ex;have ec':eC=.ref c:=ec;subst ec';refine W4 lk R6 S len λA outer s H vs Q E hr Ry=>?_;obtain⟨t,h,q⟩:=hb f A outer s H vs Q E hr Ry;exact⟨t,h.Vv,q⟩
abbrev LW:Pos:=⟨95,75,95,155⟩
abbrev LX:Str:="best_release"++".<locals>."++"<lambda>"
def lh(K:ah)(A:Cl)(Pt:af):Sp:=λvs H Q _=>∃(a b c d e:af)(fm:dY)(l:List PR)(gx:List af)(zs:List Rl)(qs:List fN)(q:List Int)(x u m:Nat)(M:List af),vs=[.ref a,.ref b,.ref c,.ref d,.ref e]/\QZ M H/\Pt∈M/\pG LW LX Pt H/\
 gM A (cut H M) a fm/\iy fm/\H b=some (.lst (pB l))/\gr A fm.columns H l/\(l.map (·.2.who)).Nodup/\H c=some (.lst (iJ gx))/\gN A H gx zs/\jU fm.columns (l.map (·.2)) zs qs/\bD K H d (jN [(x:Int),(u:Int),(m:Int)])/\bD K H e (jN q)/\q.length=fm.columns.length/\
 (∀H',cW [Pt] H H'->pG LW LX Pt H'->uc fm.columns qs (l.map (·.2)) (q.map λb=>b==1) x u m=none->Q .gT H')/\
 ∀(z:af)(r:Rl)(H':Hp),cW [Pt] H H'->pG LW LX Pt H'->uc fm.columns qs (l.map (·.2)) (q.map λb=>b==1) x u m=some (i6 fm.columns (l.map (·.2)) x u r)->r=ik fm.columns (l.map (·.2)) r.levels x u->kZ fm.columns r.levels->mR A (cut H' M) z r->Q (.ref z) H'
theorem Ct(T:Txt K mg A){c0 Pt:af}(R:UL K mg "best_release" "best_release" ia ["form","rows","releases","numbers","asked"] c0 Pt)(hK:K.In base)(hBM:BMain mg base):
  Def P w K mg base "best_release" 9 ["form","rows","releases","numbers","asked"] (lh K A Pt):=by
 have hCD:CodeHd base c0 Pt:=R.hd base hK;refine R.ok tU (λvs H Q E h=>?_) (λf A' outer s H vs Q E hr h=>?_)
 ·obtain⟨a,b,c,d,e,fm,l,gx,zs,qs,q,x,u,m,M,rfl,_⟩:=h;rfl
 ·obtain⟨a,b,c,d,e,fm,l,gx,zs,qs,q,kx,ku,m,M,rfl,tr,hPM,tg,F0,ok,hb,hl,nd,hc,hz,kL,hd,he,hq,kn,ks⟩:=h;have hmu:(A'.deeper (xV "best_release" (aN ia) s.heap.objs.size f (.ref c0))).units+20<lW:=by have:=hr.un;omega
  have hmd:(A'.deeper (xV "best_release" (aN ia) s.heap.objs.size f (.ref c0))).depth<vX:=hr.depth;have hrL:∀{env:Env},jf 1 ((A'.deeper (xV "best_release" (aN ia) s.heap.objs.size f (.ref c0))).in1.deeper env):=λ{env}=>((hr.mono (show 3<=8 by decide)).in1).deeper env;refine⟨_,(aw (bZ (i:=5) tU.nd rfl fo (bC (mT T) hr.mono rfl (aH (pv 0) (aH (pv 1) (aH (eG cO (pv 3) bx (λ_ _=>rfl)) (aH (eG cO (pv 3) bx (λ_ _=>rfl)) (aH (pv 4) ao))))))) (aF (aX (WD (i:=0) rfl hmu hmd rfl T.b.Xf hCD hBM rfl (aH (bC (pC T) hr.mono rfl (aH (pv 5) (aH (eG cO (pv 3) bx (λ_ _=>rfl)) (aH (pv 1) (aH (pv 2) ao))))) ao) (λ_ _ _ _=>(Yd (aH (cg (pv 1) T.fZ.cl (mr T) hrL (aH (kg (K:=K) rfl (pv 0) rfl) ao)) (aH (kg (K:=K) rfl (pv 0) rfl) (aH (kg (K:=K) rfl (pv 0) rfl) ao))))) rfl rfl (Rx (WU rfl)) rfl rfl rfl rfl rfl rfl rfl rfl (λ_ _ _ _=>rfl))))),?_⟩;refine aZ ?_;refine⟨_,rfl,_,rfl,_,rfl,d,_,_,_,rfl,rfl,hd,cG (j:=0) rfl,_,rfl,d,_,_,_,rfl,rfl,hd,cG (j:=1) rfl,_,rfl,a,b,e,fm,l,q,kx,ku,M,rfl,tr,F0.mono (bU H M),ok,hb,hl,nd,he,hq,λD H1 xs hD s1 e1 hP=>?_⟩;refine b8 ?_;refine iW ?_;have RH:=Paired.len hP;have Zm:=vO ok (q.map λb=>b==1);have Ww:vP A (cut H1 M) (xs.zip ((choices (fm.columns.zip (q.map λb=>b==1))).map λls=>ik fm.columns (l.map (·.2)) ls kx ku)):=⟨yV hP,by rw[eD,aa];omega⟩;have Wa:iJ xs=N1 (xs.zip ((choices (fm.columns.zip (q.map λb=>b==1))).map λls=>ik fm.columns (l.map (·.2)) ls kx ku)):=Jm RH;have IZ:(xs.zip ((choices (fm.columns.zip (q.map λb=>b==1))).map λls=>ik fm.columns (l.map (·.2)) ls kx ku)).map (·.2)=(choices (fm.columns.zip (q.map λb=>b==1))).map λls=>ik fm.columns (l.map (·.2)) ls kx ku:=aac (by rw[RH];exact aJ _);generalize xs.zip ((choices (fm.columns.zip (q.map λb=>b==1))).map λls=>ik fm.columns (l.map (·.2)) ls kx ku)=o at Ww Wa IZ;rw[Wa] at e1;refine⟨_,rfl,_,rfl,d,_,_,_,rfl,rfl,s1.seq hd,cG (j:=2) rfl,_,rfl,_,rfl,D,b,c,fm.columns,o,m,l,gx,zs,rfl,e1,Ww.mono (bU _ _),s1 _ _ hb,hl.mono s1,s1 _ _ hc,gN.mono s1 hz,λD2 H2 BR s2 e2=>?_⟩;obtain⟨L,Zg⟩:∃L,L=(o.filter λp=>ic m p.2).filter λp=>lP (zs++[p.2]) (l.map (·.2)):=⟨_,rfl⟩;rw[<-Zg] at e2;have hLo:∀p∈L,p∈o:=λp hp=>by rw[Zg] at hp;exact(bE.mp (bE.mp hp).1).1
  have hL2:L.map (·.2)=(((choices (fm.columns.zip (q.map λb=>b==1))).map λls=>ik fm.columns (l.map (·.2)) ls kx ku).filter λz=>ic m z).filter λz=>lP (zs++[z]) (l.map (·.2)):=by rw[Zg,ib (λz:Rl=>lP (zs++[z]) (l.map (·.2))),ib (λz:Rl=>ic m z),IZ]
  have yJ:∀p∈L,p.2=ik fm.columns (l.map (·.2)) p.2.levels kx ku/\kZ fm.columns p.2.levels:=λp hp=>by
   have h1:p.2∈o.map (·.2):=aq.mpr ⟨p,hLo p hp,rfl⟩;rw[IZ] at h1;obtain⟨ls,h2,h3⟩:=aq.mp h1;have h4:=tw h2;have e4:(fm.columns.zip (q.map λb=>b==1)).map (·.1)=fm.columns:=by rw[aaa];rw[aa,hq];exact aJ _
   rw[e4] at h4;rw[<-h3];exact⟨rfl,h4⟩
  have ac6:∀p∈L,mR A (cut H2 M) p.1 p.2:=λp hp=>(Ww.at' p (hLo p hp)).mono (dJ s2);have yT:=s1.trans s2;have Xu:=Ra (cs:=fm.columns) (rows:=l.map (·.2)) (by rw[aP];exact nd) kL (q.map λb=>b==1) kx ku m hL2;refine⟨D2,L.map λp=>(p.1,keyOf fm.columns p.2),fm.columns.length,.ref a,rfl,by rw[e2];unfold N1;rw[aP];rfl,tg.mono yT,rfl,λp hp=>?_,λp hp H3 H4 s3 s4=>?_,λH3 s3 tg3=>?_⟩
  ·obtain⟨z,GP,rfl⟩:=aq.mp hp;show(z.2.levels.map _).length=_;rw[aa];exact(yJ z GP).2.1
  ·obtain⟨z,GP,rfl⟩:=aq.mp hp;have sM:aS (cut H2 M) H3:=(WE (S:=[Pt]) λb hb=>by rw[show b=Pt by simpa using hb];exact hPM).trans s3;obtain⟨Au,ll,ld,z1,z2,z3⟩:=(ac6 z GP).mono sM;have F4:gM A H4 a fm:=((F0.mono (dJ yT)).mono sM).mono s4;obtain⟨ur,lc,lv,as,f1,f2,f3,f4⟩:=id F4;refine⟨_,rfl,a,ur,_,rfl,f1,ke,_,rfl,z.1,A.rel,Au,_,_,rfl,s4 _ _ z1,T.rel.cl,T.rel.pb,ka,a,ll,fm,z.2.levels,rfl,F4,ok,bD.of (s4 _ _ z2),(yJ z GP).2,λH5 s5=>⟨_,rfl,z.1,A.rel,Au,_,_,rfl,s5 _ _ (s4 _ _ z1),T.rel.cl,T.rel.sv,ph,_,rfl,z.1,A.rel,Au,_,_,rfl,s5 _ _ (s4 _ _ z1),T.rel.cl,T.rel.pb,ka,by show 3<=az;decide,λt ht=>⟨s5.trans (aB ht),t,rfl,ll,ag,?_⟩⟩⟩;rw[z2,UK];rfl
  ·rw[N9]
   cases eb:bestOf (λp:af×Rl=>keyOf fm.columns p.2) L with
   |none=>exact kn H3 ((cW.of yT).trans s3) tg3 (by rw[Xu,eb];rfl)
   |some p=>have hpL:=Oa eb;exact ks p.1 p.2 H3 ((cW.of yT).trans s3) tg3 (by rw[Xu,eb];rfl) (yJ p hpL).1 (yJ p hpL).2 ((ac6 p hpL).mono (LV s3 hPM))
end
end Bp
namespace Bp
open PySem PySem.Spec PyProof.Rows L2 Bm
abbrev lI:=Vbslai.House
abbrev t8(l:List PR):List (Key×V):=l.map λp=>(Ft p.2.who,V.ref p.1)
section
variable{P:bo}{w:bM}{K:ah}{mg:Str->Option aj}{base:cu}{A:Cl}
def LY(A:Cl):Sp:=λvs H Q _=>∃(p dx:af),vs=[.ref p]/\H p=some (.ins A.cP dx [])/\
 ∀(rd rl:af)(H':Hp),H rd=none->H rl=none->rd≠rl->H' p=some (.ins A.cP dx (kP .gT (.ref rd) (.ref rl)))->H' rd=some (.dK [])->H' rl=some (.lst [])->(∀b o,H b=some o->b≠p->H' b=some o)->Q .gT H'
theorem LZ(T:Txt K mg A):DA P w K mg base "House" A.cP 1 ["self"] (LY A):=by
 refine T.cP.init.ok KN (λvs H Q E h=>?_) (λf eC A' outer s H vs Q E hr h=>?_)
 ·obtain⟨p,dx,rfl,_⟩:=h;rfl
 ·obtain⟨p,dx,rfl,hp,k⟩:=h;refine⟨_,(aw (dZ (pv 0) lu rfl) (aw (dZ (pv 0) Dd rfl) (aF (dZ (pv 0) (bV ao) rfl)))),?_⟩;refine aZ ?_;refine⟨_,rfl,p,A.cP,dx,[],rfl,hp,T.cP.cl,T.cP.gD,by decide,?_⟩;refine aZ ?_;refineλrd RL=>?_;have p1:p≠rd:=aQ ag RL;refine⟨_,rfl,p,A.cP,dx,_,rfl,by rw[ax p1];exact ag,T.cP.cl,T.cP.jV,K6,?_⟩;refine⟨bB _,λrl wD=>?_⟩;have p2:p≠rl:=aQ ag wD;have p3:rd≠rl:=λe=>by
   subst e;rw[ax p1.symm,ag] at wD;cases wD
  refine⟨_,rfl,p,A.cP,dx,_,rfl,by rw[ax p2];exact ag,T.cP.cl,T.cP.fS,put2,?_⟩;have h1:H rd=none:=by rw[ax p1.symm] at RL;exact RL
  have h2:H rl=none:=by rw[ax p2.symm,ax p3.symm,ax p2.symm] at wD;exact wD
  refine k rd rl _ h1 h2 p3 ?_ ?_ ?_ λb o e hb=>?_
  ·rw[ag,Nu]
  ·rw[ax p1.symm,ax p3,ax p1.symm,ag]
  ·rw[ax p2.symm,ag]
  ·rw[ax hb,ax (aQ e h2),ax hb,ax (aQ e h1),ax hb];exact e
def Jn(A:Cl):Sp:=λvs H Q _=>∃(p dx:af)(v v1 v2 v3:V),vs=[.ref p,v]/\H p=some (.ins A.cP dx (kP v1 v2 v3))/\
 ∀(rd rl:af)(H':Hp),H rd=none->H rl=none->rd≠rl->H' p=some (.ins A.cP dx (kP v (.ref rd) (.ref rl)))->H' rd=some (.dK [])->H' rl=some (.lst [])->(∀b o,H b=some o->b≠p->H' b=some o)->Q .gT H'
theorem Jo(T:Txt K mg A):iR P w K mg base A.cP "begin" 1 ["self","form"] (Jn A):=by
 refine T.cP.begin_.ok IA (λvs H Q E h=>?_) (λf eC A' outer s H vs Q E hr h=>?_)
 ·obtain⟨p,dx,v,v1,v2,v3,rfl,_⟩:=h;rfl
 ·obtain⟨p,dx,v,v1,v2,v3,rfl,hp,k⟩:=h;refine⟨_,(aw (dZ (pv 0) (pv 1) rfl) (aw (dZ (pv 0) Dd rfl) (aF (dZ (pv 0) (bV ao) rfl)))),?_⟩;refine aZ ?_;refine⟨_,rfl,_,rfl,p,A.cP,dx,_,rfl,hp,T.cP.cl,T.cP.gD,by show 3<1000;decide,?_⟩;rw[Ee];refine aZ ?_;refineλrd RL=>?_;have p1:p≠rd:=aQ ag RL;refine⟨_,rfl,p,A.cP,dx,_,rfl,by rw[ax p1];exact ag,T.cP.cl,T.cP.jV,by show 3<1000;decide,?_⟩;rw[Ef];refine⟨bB _,λrl wD=>?_⟩;have p2:p≠rl:=aQ ag wD;have p3:rd≠rl:=λe=>by
   subst e;rw[ax p1.symm,ag] at wD;cases wD
  refine⟨_,rfl,p,A.cP,dx,_,rfl,by rw[ax p2];exact ag,T.cP.cl,T.cP.fS,by show 3<1000;decide,?_⟩;rw[yx];have h1:H rd=none:=by rw[ax p1.symm] at RL;exact RL
  have h2:H rl=none:=by rw[ax p2.symm,ax p3.symm,ax p2.symm] at wD;exact wD
  refine k rd rl _ h1 h2 p3 ag ?_ ?_ λb o e hb=>?_
  ·rw[ax p1.symm,ax p3,ax p1.symm,ag]
  ·rw[ax p2.symm,ag]
  ·rw[ax hb,ax (aQ e h2),ax hb,ax (aQ e h1),ax hb];exact e
def vS(A:Cl):Sp:=λvs H Q _=>∃(p dx rd:af)(v1 v3:V)(kvs:List (Key×V)),vs=[.ref p]/\H p=some (.ins A.cP dx (kP v1 (.ref rd) v3))/\H rd=some (.dK kvs)/\
 ∀D H',H D=none->aS H H'->H' D=some (.lst (kvs.map (·.2)))->Q (.ref D) H'
theorem eP(T:Txt K mg A):iR P w K mg base A.cP "rows_in_order" 1 ["self"] (vS A):=by
 refine T.cP.DV.ok vC (λvs H Q E h=>?_) (λf eC A' outer s H vs Q E hr h=>?_)
 ·obtain⟨p,dx,rd,v1,v3,kvs,rfl,_⟩:=h;rfl
 ·obtain⟨p,dx,rd,v1,v3,kvs,rfl,hp,hd,k⟩:=h;refine⟨_,(aF (aX (qZ (Ep rfl) (by rfl) T.b.TB O6 (aH (Wh (bj (pv 0) rfl)) ao)))),?_⟩;refine⟨_,rfl,p,A.cP,dx,_,_,rfl,hp,T.cP.cl,T.cP.jV,fu,rd,kvs,rfl,hd,λq hq=>⟨q,rd,kvs,rfl,ag,aB hq _ _ hd,λD hD=>?_⟩⟩;exact k D _ ((aB hq).free hD) ((aB hq).trans (aB hD)) ag
def xh(A:Cl):Sp:=λvs H Q _=>∃(p dx ra rl:af)(v1 v2:V)(gx:List af)(zs:List Rl)(r:fW),vs=[.ref p,.ref ra]/\H p=some (.ins A.cP dx (kP v1 v2 (.ref rl)))/\H rl=some (.lst (iJ gx))/\gN A H gx zs/\zs.length<=100/\rz A H ra r/\
 ∀H',aS H H'->Q (.bl (zs.any λz=>(z.lk.lookup r.who).isSome)) H'
theorem xi(T:Txt K mg A):iR P w K mg base A.cP "has_released" 2 ["self","row"] (xh A):=by
 refine T.cP.FY.ok kF (λvs H Q E h=>?_) (λf eC A' outer s H vs Q E hr h=>?_)
 ·obtain⟨p,dx,ra,rl,v1,v2,gx,zs,r,rfl,_⟩:=h;rfl
 ·obtain⟨p,dx,ra,rl,v1,v2,gx,zs,r,rfl,hp,wD,hz,OR,Pz,k⟩:=h;obtain⟨o,e1,e2,hat⟩:=Paired.unzip hz;subst e1 e2;have Rb:H rl=some (.lst (o.map λp=>V.ref p.1)):=by rw[wD,zN]
  refine⟨_,(aF (aX (cD (Yn rfl) (by rfl) T.b.ab4 YE (aH (gU rfl (own:=[("release",2)]) kF.nd (dC (bj (pv 0) rfl)) (cM (by kernel_rfl)) (λ_ _ _ _ _=>(bQ (i:=2) kF.nd rfl fo)) (λ_ _ _ _ _=>eK) (λ_ _ _ _ _=>(cg (pv 2) T.rel.cl (sU T) hr.mono (aH (pv 1) ao)))) ao)))),?_⟩;refine kf ?_;refine fw ?_;refine⟨_,rfl,p,A.cP,dx,_,_,rfl,hp,T.cP.cl,T.cP.fS,d5,rl,rfl,⟨_,bD.of Rb⟩,?_⟩;rw[aa] at OR;refine jL (l:=o) (enc:=λp:af×Rl=>V.ref p.1) (f:=λp=>.bl (p.2.lk.lookup r.who).isSome) (bD.of Rb) (ak OR (by decide)) (λi x H' R hx k' hR=>?_) (λD H' hD hs he=>?_)
  ·have YD:=(hat x (aL hx)).mono k';obtain⟨Au,ll,ld,z1,z2,z3⟩:=id YD;exact⟨rfl,_,rfl,x.1,Au,_,rfl,z1,oE,_,rfl,x.1,ra,x.2,r,rfl,YD,Pz.mono k',hR _ (aS.refl _)⟩
  ·refine⟨D,o.map λp=>(p.2.lk.lookup r.who).isSome,rfl,bD.of (by rw[he,aP];rfl),?_⟩;have e:(o.map λp=>(p.2.lk.lookup r.who).isSome).any id=(o.map (·.2)).any λz=>(z.lk.lookup r.who).isSome:=by rw[qJ,qJ];rfl
   rw[e];exact k H' hs
def Gx(A:Cl):Sp:=λvs H Q _=>∃(p dx rd rl:af)(v1:V)(cs:List bw)(l:List PR)(r:PR)(gx:List af)(zs:List Rl),vs=[.ref p,.int (r.2.who:Nat)]/\H p=some (.ins A.cP dx (kP v1 (.ref rd) (.ref rl)))/\H rd=some (.dK (t8 l))/\iP (t8 l) (Ft r.2.who)=some (.ref r.1)/\rz A H r.1 r.2/\gr A cs H l/\
 H rl=some (.lst (iJ gx))/\gN A H gx zs/\∀(x:af)(H':Hp),aS H H'->xR A H' l zs x r->Q (.ref x) H'
theorem xT(T:Txt K mg A):iR P w K mg base A.cP "hiding" 5 ["self","w"] (Gx A):=by
 refine T.cP.V3.ok Gh (λvs H Q E h=>?_) (λf eC A' outer s H vs Q E hr h=>?_)
 ·obtain⟨p,dx,rd,rl,v1,cs,l,r,gx,zs,rfl,_⟩:=h;rfl
 ·obtain⟨p,dx,rd,rl,v1,cs,l,r,gx,zs,rfl,hp,hd,hv,Pz,hl,wD,hz,k⟩:=h;have hu:=tm hr;have hg:jv H rd (.int (r.2.who:Nat)) (some (.ref r.1)):=by rw[<-hv];exact jv.k (k:=Ft r.2.who) hd
  refine⟨_,(aF (aX (bC (zQ T) hr.mono rfl (aH (rV hu (bj (pv 0) rfl) (pv 1) (λ_ _=>rfl)) (aH (dk (pv 0) T.cP.cl (eP T) hr.mono) (aH (bj (pv 0) rfl) ao)))))),?_⟩;refine⟨_,rfl,p,A.cP,dx,_,_,rfl,hp,T.cP.cl,T.cP.jV,fu,_,rfl,rd,_,rfl,hg,_,rfl,p,dx,_,rfl,hp,dS,p,dx,rd,_,_,_,rfl,hp,hd,λD H1 hD s1 e1=>?_⟩;have Xm:H1 D=some (.lst (pB l)):=by rw[e1];unfold t8 pB;rw[aP];rfl
  refine⟨_,rfl,p,A.cP,dx,_,_,rfl,s1 _ _ hp,T.cP.cl,T.cP.fS,d5,D,rl,cs,r,l,gx,zs,[],rfl,Tr.nil,Pz.mono s1,by rw[sO];exact Xm,hl.mono s1,s1 _ _ wD,gN.mono s1 hz,λx H2 s2 h2=>?_⟩;rw[sO] at h2;exact k x H2 (s1.trans s2) h2
end
end Bp
namespace Bp
open PySem PySem.Spec PyProof.Rows L2 Bm
open Vbslai (choices within askedOk)
theorem rK{x lo hi:Int}(h:¬lo<=x):within x lo hi=false:=by unfold within;rw[decide_eq_false h];rfl
theorem ki{x lo hi:Int}(h:lo<=x):within x lo hi=decide (x<=hi):=by unfold within;rw[decide_eq_true h];rfl
theorem EL{f:dY}{k u m:Int}{l:List Int}(h:lK f k u m l=true):0<=k/\0<=u/\0<=m/\l.length=f.columns.length:=by have ew:lK f k u m l=(within k 1 40&&(within u 1 12&&(within m 0 40&&askedOk f.columns l))):=rfl;rw[ew] at h;simp only[aK,h9] at h;obtain⟨h1,h2,h3,h4⟩:=h;unfold nX at h4;rw[aK] at h4;exact⟨by omega,by omega,by omega,by simpa using h4.1⟩
section
variable{P:bo}{w:bM}{K:ah}{mg:Str->Option aj}{base:cu}{A:Cl}
def zY(K:ah)(A:Cl):Sp:=λvs H Q _=>∃(a b:af)(f:dY)(w s:Int)(l:List Int),vs=[.ref a,.int w,.int s,.ref b]/\gM A H a f/\iy f/\bD K H b (jN l)/\l.length<=100/\
 ∀H',aS H H'->Q (.bl (within w 0 999&&(Vr f s&&Mv f.columns l))) H'
theorem qw(T:Txt K mg A):Def P w K mg base "is_row_as_told" 3 ["form","w","s","cells"] (zY K A):=by
 refine T.ko.DX.ok zH (λvs H Q E h=>?_) (λf eC A' outer s H vs Q E hr h=>?_)
 ·obtain⟨a,b,f,w,s,l,rfl,_⟩:=h;rfl
 ·obtain⟨a,b,fm,w0,s0,l,rfl,F0,ok,hS,hl,k⟩:=h;obtain⟨dx,lc,lv,as,h1,h2,h3,h4⟩:=id F0;have eT:∀bb H',(within w0 0 999&&(Vr fm s0&&Mv fm.columns l))=bb->aS H H'->Q (.bl bb) H':=λbb H' h2 h3=>by rw[<-h2];exact k H' h3
  refine⟨_,(aF (aX (lY (jR ip ip bx (pv 1) (cU T.k.AS rfl)) (lY (cg (pv 0) T.fZ.cl (w6 T) hr.mono (aH (pv 2) ao)) (oS (cg (pv 0) T.fZ.cl (yI T) hr.mono (aH (pv 3) ao))))))),?_⟩;refine⟨_,rfl,_,_,rfl,rfl,_,rfl,fC (λq1=>⟨_,_,rfl,rfl,_,rfl,fC (λq2=>?_) (λq2=>?_)⟩) (λq1=>?_)⟩
  ·refine⟨_,rfl,a,dx,_,rfl,h1,uh,_,rfl,a,fm,s0,rfl,F0,_,rfl,DD (λq3=>?_) (λq3=>?_)⟩
   ·refine⟨_,rfl,a,dx,_,rfl,h1,vx,_,rfl,a,b,fm,l,rfl,F0,ok,hS,hl,λH' s'=>eT _ H' ?_ s'⟩;rw[ki q1,decide_eq_true q2,q3];rfl
   ·refine eT _ H ?_ (aS.refl _);rw[q3];simp
  ·refine eT _ H ?_ (aS.refl _);rw[ki q1,decide_eq_false q2];rfl
  ·refine⟨_,rfl,kK (eT _ H ?_ (aS.refl _))⟩;rw[rK q1];rfl
def sW:Sp:=λvs H Q _=>∃(k u:Int),vs=[.int k,.int u]/\Q (.bl (within k 1 40&&within u 1 12)) H
theorem my(T:Txt K mg A):Def P w K mg base "are_k_and_u_as_told" 1 ["k","u"] sW:=by
 refine T.ko.wL.ok sL (λvs H Q E h=>?_) (λf eC A' outer s H vs Q E hr h=>?_)
 ·obtain⟨k,u,rfl,_⟩:=h;rfl
 ·obtain⟨k0,u0,rfl,k⟩:=h;have eT:∀bb,(within k0 1 40&&within u0 1 12)=bb->Q (.bl bb) H:=λbb h2=>by rw[<-h2];exact k
  refine⟨_,(aF (aX (lY (jR ip ip bx (pv 0) (cU T.k.Nh rfl)) (oS (jR ip ip bx (pv 1) (cU T.k.Ni rfl)))))),?_⟩;refine⟨_,rfl,_,_,rfl,rfl,_,rfl,fC (λq1=>⟨_,_,rfl,rfl,_,rfl,fC (λq2=>?_) (λq2=>?_)⟩) (λq1=>?_)⟩
  ·refine⟨_,rfl,_,_,rfl,rfl,_,rfl,fC (λq3=>⟨_,_,rfl,rfl,eT _ ?_⟩) (λq3=>eT _ ?_)⟩
   ·rw[ki q1,decide_eq_true q2,ki q3];rfl
   ·rw[rK q3,iI]
  ·refine eT _ ?_;rw[ki q1,decide_eq_false q2];rfl
  ·refine⟨_,rfl,kK (eT _ ?_)⟩;rw[rK q1];rfl
def yW(K:ah)(A:Cl):Sp:=λvs H Q _=>∃(a b c:af)(f:dY)(k u m:Int)(l:List Int),vs=[.ref a,.ref b,.ref c]/\gM A H a f/\bD K H b (jN [k,u,m])/\bD K H c (jN l)/\l.length<=100/\
 ∀H',aS H H'->Q (.bl (lK f k u m l)) H'
theorem lJ(T:Txt K mg A):Def P w K mg base "is_plan_as_told" 2 ["form","numbers","asked"] (yW K A):=by
 refine T.ko.Ca.ok yD (λvs H Q E h=>?_) (λf eC A' outer s H vs Q E hr h=>?_)
 ·obtain⟨a,b,c,f,k,u,m,l,rfl,_⟩:=h;rfl
 ·obtain⟨a,b,c,fm,k0,u0,m0,l,rfl,F0,hb,hc,hl,k⟩:=h;obtain⟨dx,lc,lv,as,h1,h2,h3,h4⟩:=id F0;have ew:lK fm k0 u0 m0 l=(within k0 1 40&&(within u0 1 12&&(within m0 0 40&&askedOk fm.columns l))):=rfl;have eT:∀bb H',lK fm k0 u0 m0 l=bb->aS H H'->Q (.bl bb) H':=λbb H' h2 h3=>by rw[<-h2];exact k H' h3
  refine⟨_,(aF (aX (lY (bC (my T) hr.mono rfl (aH (eG cO (pv 1) bx (λ_ _=>rfl)) (aH (eG cO (pv 1) bx (λ_ _=>rfl)) ao))) (lY (jR ip ip bx (eG cO (pv 1) bx (λ_ _=>rfl)) (cU T.k.Nj rfl)) (oS (cg (pv 0) T.fZ.cl (yL T) hr.mono (aH (pv 2) ao))))))),?_⟩;refine⟨_,rfl,b,_,_,_,rfl,rfl,hb,cG (j:=0) rfl,_,rfl,b,_,_,_,rfl,rfl,hb,cG (j:=1) rfl,k0,u0,rfl,_,rfl,DD (λq1=>?_) (λq1=>?_)⟩
  ·rw[aK] at q1;refine⟨_,rfl,b,_,_,_,rfl,rfl,hb,cG (j:=2) rfl,_,_,rfl,rfl,_,rfl,fC (λq2=>⟨_,_,rfl,rfl,_,rfl,fC (λq3=>?_) (λq3=>?_)⟩) (λq2=>?_)⟩
   ·refine⟨_,rfl,a,dx,_,rfl,h1,vy,_,rfl,a,c,fm,l,rfl,F0,hc,hl,λH' s'=>eT _ H' ?_ s'⟩;rw[ew,q1.1,q1.2,ki q2,decide_eq_true q3];rfl
   ·refine eT _ H ?_ (aS.refl _);rw[ew,ki q2,decide_eq_false q3];simp
   ·refine⟨_,rfl,kK (eT _ H ?_ (aS.refl _))⟩;rw[ew,rK q2];simp
  ·refine eT _ H ?_ (aS.refl _);rw[ew,<-nW,q1];rfl
def Bf:Sp:=λvs H Q _=>∃l:aG,vs=[.str (sN l)]/\l.length<az/\∀D H',H D=none->aS H H'->H' D=some (.lst (gP (l.length::l)))->Q (.ref D) H'
theorem m7(T:Txt K mg A):Def P w K mg base "counted_bytes" 2 ["text"] Bf:=by
 refine T.ko.F2.ok A1 (λvs H Q E h=>?_) (λf eC A' outer s H vs Q E hr h=>?_)
 ·obtain⟨l,rfl,_⟩:=h;rfl
 ·obtain⟨l,rfl,hl,k⟩:=h;refine⟨_,(aF (aX (fh jD (bV (aH (cD rT (by rfl) T.b.dM cJ (aH (pv 0) ao)) ao)) (bC (KY T) hr.mono rfl (aH (pv 0) ao))))),?_⟩;refine⟨_,rfl,_,rfl,by rw[i5];exact cT hl,by show 1<=az;decide,λq hq=>⟨_,rfl,l,rfl,cT hl,λD H1 hD s1 e1=>?_⟩⟩;refine⟨q,D,_,_,rfl,rfl,s1 _ _ ag,e1,?_,λz hz=>?_⟩
  ·rw[eh];show 1+l.length<=az;omega
  ·refine k z _ ((aB hq).free (s1.free hz)) (((aB hq).trans s1).trans (aB hz)) ?_;rw[ag,i5];rfl
def EM(K:ah)(A:Cl):Sp:=λvs H Q _=>∃(a b c d e:af)(fm:dY)(l:List PR)(gx:List af)(zs:List Rl)(qs:List fN)(q:List Int)(x u m:Nat),vs=[.ref a,.ref b,.ref c,.ref d,.ref e]/\
 gM A H a fm/\iy fm/\H b=some (.lst (pB l))/\gr A fm.columns H l/\(l.map (·.2.who)).Nodup/\H c=some (.lst (iJ gx))/\gN A H gx zs/\jU fm.columns (l.map (·.2)) zs qs/\bD K H d (jN [(x:Int),(u:Int),(m:Int)])/\bD K H e (jN q)/\q.length=fm.columns.length/\
 ∀D H',H D=none->aS H H'->H' D=some (.lst (gP [(choices (fm.columns.zip (q.map λb=>b==1))).length,(Fi fm.columns qs (l.map (·.2)) (q.map λb=>b==1) x u m).length,(Fi fm.columns [] (l.map (·.2)) (q.map λb=>b==1) x u m).length]))->Q (.ref D) H'
theorem EN(T:Txt K mg A):Def P w K mg base "next_counts" 7 ["form","rows","releases","numbers","asked"] (EM K A):=by
 refine T.xJ.Ko.ok pk (λvs H Q E h=>?_) (λf eC A' outer s H vs Q E hr h=>?_)
 ·obtain⟨a,b,c,d,e,fm,l,gx,zs,qs,q,x,u,m,rfl,_⟩:=h;rfl
 ·obtain⟨a,b,c,d,e,fm,l,gx,zs,qs,q,kx,ku,m,rfl,F0,ok,hb,hl,nd,hc,hz,kL,hd,he,hq,k⟩:=h;refine⟨_,(aw (bZ (i:=5) pk.nd rfl fo (bC (mT T) hr.mono rfl (aH (pv 0) (aH (pv 1) (aH (eG cO (pv 3) bx (λ_ _=>rfl)) (aH (eG cO (pv 3) bx (λ_ _=>rfl)) (aH (pv 4) ao))))))) (aw (bZ (i:=6) pk.nd rfl fo (eG cO (pv 3) bx (λ_ _=>rfl))) (aF (aX (bV (aH (cD bt (by rfl) T.b.dM cJ (aH (pv 5) ao)) (aH (cD bt (by rfl) T.b.dM cJ (aH (bC (pC T) hr.mono rfl (aH (pv 5) (aH (pv 6) (aH (pv 1) (aH (pv 2) ao))))) ao)) (aH (cD bt (by rfl) T.b.dM cJ (aH (bC (xS T) hr.mono rfl (aH (pv 5) (aH (pv 6) ao))) ao)) ao)))))))),?_⟩;refine aZ ?_;refine⟨_,rfl,_,rfl,_,rfl,d,_,_,_,rfl,rfl,hd,cG (j:=0) rfl,_,rfl,d,_,_,_,rfl,rfl,hd,cG (j:=1) rfl,_,rfl,a,b,e,fm,l,q,kx,ku,[],rfl,(λm hm=>nomatch hm),F0,ok,hb,hl,nd,he,hq,λD H1 xs hD s1 e1 hP=>?_⟩;refine b8 ?_;refine aZ ?_;refine⟨_,rfl,d,_,_,_,rfl,rfl,s1.seq hd,cG (j:=2) rfl,?_⟩;refine b8 ?_;refine iW ?_;rw[sO] at hP;have RH:=Paired.len hP;have Zm:=vO ok (q.map λb=>b==1);have Ww:vP A H1 (xs.zip ((choices (fm.columns.zip (q.map λb=>b==1))).map λls=>ik fm.columns (l.map (·.2)) ls kx ku)):=⟨yV hP,by rw[eD,aa];omega⟩;have Wa:iJ xs=N1 (xs.zip ((choices (fm.columns.zip (q.map λb=>b==1))).map λls=>ik fm.columns (l.map (·.2)) ls kx ku)):=Jm RH;have IZ:(xs.zip ((choices (fm.columns.zip (q.map λb=>b==1))).map λls=>ik fm.columns (l.map (·.2)) ls kx ku)).map (·.2)=(choices (fm.columns.zip (q.map λb=>b==1))).map λls=>ik fm.columns (l.map (·.2)) ls kx ku:=aac (by rw[RH];exact aJ _);generalize xs.zip ((choices (fm.columns.zip (q.map λb=>b==1))).map λls=>ik fm.columns (l.map (·.2)) ls kx ku)=o at Ww Wa IZ;rw[Wa] at e1;have ndr:((l.map (·.2)).map (·.who)).Nodup:=by rw[aP];exact nd
  refine⟨_,rfl,D,_,rfl,.inl (bD.of e1),_,rfl,_,rfl,_,rfl,_,rfl,D,b,c,fm.columns,o,m,l,gx,zs,rfl,e1,Ww,s1 _ _ hb,hl.mono s1,s1 _ _ hc,gN.mono s1 hz,λD2 H2 BR s2 e2=>⟨D2,_,rfl,.inl (bD.of e2),?_⟩⟩;refine⟨_,rfl,_,rfl,D,o,m,rfl,s2 _ _ e1,Ww.mono s2,λD3 H3 hD3 s3 e3=>⟨D3,_,rfl,.inl (bD.of e3),by show 3<=az;decide,λz hz=>?_⟩⟩;refine k z _ (s1.free (s2.free (s3.free hz))) (((s1.trans s2).trans s3).trans (aB hz)) ?_;have l0:(N1 o).length=(choices (fm.columns.zip (q.map λb=>b==1))).length:=by unfold N1;rw[aa];have:=congrArg Ap IZ;rw[aa,aa] at this;exact this
  have l1:(N1 ((o.filter λp=>ic m p.2).filter λp=>lP (zs++[p.2]) (l.map (·.2)))).length=((((choices (fm.columns.zip (q.map λb=>b==1))).map λls=>ik fm.columns (l.map (·.2)) ls kx ku).filter λz=>ic m z).filter λz=>lP (zs++[z]) (l.map (·.2))).length:=by rw[<-IZ,<-ib (λz:Rl=>ic m z),<-ib (λz:Rl=>lP (zs++[z]) (l.map (·.2)))];unfold N1;rw[aa,aa]
  have l2:(N1 (o.filter λp=>ic m p.2)).length=(((choices (fm.columns.zip (q.map λb=>b==1))).map λls=>ik fm.columns (l.map (·.2)) ls kx ku).filter λz=>ic m z).length:=by rw[<-IZ,<-ib (λz:Rl=>ic m z)];unfold N1;rw[aa,aa]
  have lp:=congrArg Ap (EK ndr kL (q.map λb=>b==1) kx ku m);rw[aa] at lp;rw[ag,LU ndr,lp,l0,l1,l2];rfl
end
end Bp
namespace Bp
open PySem PySem.Spec PyProof.Rows L2 Bm
open Vbslai (nums)
structure Rc(A:Cl)(M:List af)(H:Hp)(f:dY)(fv:V)(l:List PR)(zs:List Rl)(h:lI):Prop where
 ex:∃fa,fv=.ref fa/\gM A (cut H M) fa f
 ok:iy f
 rows:gr A f.columns (cut H M) l
 rl:jU f.columns h.rows zs h.releases
 lv:∀z∈zs,kZ f.columns z.levels
 has:∀q∈h.releases,∀w∈q.has,w∈h.rows.map (·.who)
structure qF(A:Cl)(Pt g:af)(M:List af)(H:Hp)(hs:af)(h:lI)(dx rd rl:af)(l:List PR)(gx:List af)(zs:List Rl)(fv:V):Prop where
 tr:QZ M H
 pm:Pt∈M
 gm:g∈M
 hm:hs∈M
 dm:rd∈M
 lm:rl∈M
 gh:hs≠g
 gd:rd≠g
 gl:rl≠g
 gp:Pt≠g
 tg:pG LW LX Pt H
 ins:H hs=some (.ins A.cP dx (kP fv (.ref rd) (.ref rl)))
 w9:H rd=some (.dK (t8 l))
 lst:H rl=some (.lst (iJ gx))
 rows:l.map (·.2)=h.rows
 nd:(h.rows.map (·.who)).Nodup
 xj:gN A (cut H M) gx zs
 Rf:zs.length<=4
 fZ:match h.form with
  |none=>fv=.gT
  |some f=>Rc A M H f fv l zs h
def Rg(A:Cl)(Pt g:af)(M:List af)(H:Hp)(hs:af)(h:lI):Prop:=∃dx rd rl l gx zs fv,qF A Pt g M H hs h dx rd rl l gx zs fv
theorem Rc.mono{A:Cl}{M:List af}{H H':Hp}{f:dY}{fv:V}{l:List PR}{zs:List Rl}{h:lI}(e:aS (cut H M) (cut H' M))(x:Rc A M H f fv l zs h):Rc A M H' f fv l zs h:=⟨let⟨fa,a,b⟩:=x.ex;⟨fa,a,b.mono e⟩,x.ok,x.rows.mono e,x.rl,x.lv,x.has⟩
section
variable{A:Cl}{Pt g hs dx rd rl:af}{M:List af}{H H':Hp}{h:lI}{l:List PR}{gx:List af}{zs:List Rl}{fv:V}
theorem qF.keep(S:qF A Pt g M H hs h dx rd rl l gx zs fv)(tr:QZ M H')(tg:pG LW LX Pt H')(e1:H' hs=H hs)(e2:H' rd=H rd)(e3:H' rl=H rl)(e:aS (cut H M) (cut H' M)):qF A Pt g M H' hs h dx rd rl l gx zs fv where
 tr:=tr
 pm:=S.pm
 gm:=S.gm
 hm:=S.hm
 dm:=S.dm
 lm:=S.lm
 gh:=S.gh
 gd:=S.gd
 gl:=S.gl
 gp:=S.gp
 tg:=tg
 ins:=by rw[e1];exact S.ins
 w9:=by rw[e2];exact S.w9
 lst:=by rw[e3];exact S.lst
 rows:=S.rows
 nd:=S.nd
 xj:=gN.mono e S.xj
 Rf:=S.Rf
 fZ:=by
  have:=S.fZ
  cases q:h.form with
  |none=>rw[q] at this;exact this
  |some f=>rw[q] at this;exact Rc.mono e this
theorem qF.mono(S:qF A Pt g M H hs h dx rd rl l gx zs fv)(e:aS H H'):qF A Pt g M H' hs h dx rd rl l gx zs fv:=S.keep (S.tr.mono e) (S.tg.mono e) (by rw[S.ins];exact e _ _ S.ins) (by rw[S.w9];exact e _ _ S.w9) (by rw[S.lst];exact e _ _ S.lst) (dJ e)
theorem qF.form{f:dY}(S:qF A Pt g M H hs h dx rd rl l gx zs fv)(q:h.form=some f):Rc A M H f fv l zs h:=by have:=S.fZ;rw[q] at this;exact this
theorem qF.ndl(S:qF A Pt g M H hs h dx rd rl l gx zs fv):(l.map (·.2.who)).Nodup:=by have:=S.nd;rw[<-S.rows,aP] at this;exact this
theorem Rg.mono(S:Rg A Pt g M H hs h)(e:aS H H'):Rg A Pt g M H' hs h:=let⟨dx,rd,rl,l,gx,zs,fv,x⟩:=S;⟨dx,rd,rl,l,gx,zs,fv,x.mono e⟩
theorem pG.off{lp:Pos}{lq:Str}{o:HO}{xs:List V}(hg:H g=some (.lst xs))(x:pG lp lq Pt H):pG lp lq Pt (upd H g o):=by
 rcases x with e|⟨c,e,ec⟩
 ·exact .inl (by rw[ax (gA e hg (λz=>nomatch z))];exact e)
 ·exact .inr ⟨c,by rw[ax (gA e hg (λz=>nomatch z))];exact e,by rw[ax (gA ec hg (λz=>by unfold zX at z;cases z))];exact ec⟩
theorem pG.ac7{lp:Pos}{lq:Str}{a:af}{o u:HO}(hg:H a=some u)(n1:∀ps,u≠.uA ps)(n2:∀φ,u≠.ext φ)(x:pG lp lq Pt H):pG lp lq Pt (upd H a o):=by
 rcases x with e|⟨c,e,ec⟩
 ·exact .inl (by rw[ax (gA e hg (λz=>n1 _ z.symm))];exact e)
 ·exact .inr ⟨c,by rw[ax (gA e hg (λz=>n1 _ z.symm))];exact e,by rw[ax (gA ec hg (λz=>n2 _ z.symm))];exact ec⟩
theorem QZ.upd{a:af}{o:HO}(t:QZ M H)(n:∀xs,o≠.tup xs):QZ M (upd H a o):=λm hm=>by
 by_cases z:m=a
 ·rw[z,ag];exact⟨o,rfl,n⟩
 ·rw[ax z];exact t m hm
theorem Rg.put{xs ys:List V}(S:Rg A Pt g M H hs h)(hg:H g=some (.lst xs)):Rg A Pt g M (upd H g (.lst ys)) hs h:=by obtain⟨dx,rd,rl,l,gx,zs,fv,x⟩:=S;exact⟨dx,rd,rl,l,gx,zs,fv,x.keep (x.tr.upd (λ_ z=>nomatch z)) (x.tg.off hg) (ax x.gh) (ax x.gd) (ax x.gl) (by rw[sm x.gm];exact aS.refl _)⟩
theorem pG.uA{lp:Pos}{lq:Str}(x:pG lp lq Pt H):∃ps,H Pt=some (.uA ps):=x.elim (λe=>⟨_,e⟩) λ⟨_,e,_⟩=>⟨_,e⟩
theorem qF.tab(S:qF A Pt g M H hs h dx rd rl l gx zs fv)(e:cW [Pt] H H')(tg:pG LW LX Pt H'):qF A Pt g M H' hs h dx rd rl l gx zs fv/\H' g=H g:=by
 obtain⟨ps,hp⟩:=S.tg.uA;obtain⟨ps',Hi⟩:=tg.uA;have at':∀b o,H b=some o->b≠Pt->H' b=H b:=λb o q n=>by rw[q];exact e.at q (by simpa using n)
 have h1:hs≠Pt:=gA S.ins hp (λz=>nomatch z);have h2:rd≠Pt:=gA S.w9 hp (λz=>nomatch z);have h3:rl≠Pt:=gA S.lst hp (λz=>nomatch z);refine⟨S.keep (λm hm=>?_) tg (at' _ _ S.ins h1) (at' _ _ S.w9 h2) (at' _ _ S.lst h3) (LV e S.pm),?_⟩
 ·by_cases z:m=Pt
  ·rw[z];exact⟨_,Hi,λxs q=>nomatch q⟩
  ·obtain⟨o,ho,n⟩:=S.tr m hm;exact⟨o,by rw[at' m o ho z];exact ho,n⟩
 ·obtain⟨o,ho,n⟩:=S.tr g S.gm;exact at' g o ho S.gp.symm
theorem cW.UM{a:af}{ps:Array aj}(e:cW [Pt] H H')(hp:H' Pt=some (.uA ps))(q:H' a=none):H a=none:=by
 cases z:H a with
 |none=>rfl
 |some o=>
  by_cases n:a=Pt
  ·rw[n,hp] at q;cases q
  ·have:=e.at z (by simpa using n);rw[this] at q;cases q
def Ans(A:Cl)(Pt g:af)(M:List af)(H:Hp)(hs:af)(r:lI×List Int)(D:af)(H':Hp):Prop:=∃M',Rg A Pt g M' H' hs r.1/\H' g=H g/\(∀b∈M',b∈M∨H b=none)/\H D=none/\H' D=some (.lst (jN r.2))/\cW M H H'
theorem Ans.same{ans:List Int}{D:af}(S:Rg A Pt g M H hs h)(e:aS H H')(hD:H D=none)(q:H' D=some (.lst (jN ans))):Ans A Pt g M H hs (h,ans) D H':=by obtain⟨dx,rd,rl,l,gx,zs,fv,x⟩:=id S;obtain⟨o,ho,_⟩:=x.tr g x.gm;exact⟨M,S.mono e,by rw[ho];exact e _ _ ho,λb hb=>.inl hb,hD,q,cW.of e⟩
end
def Mo(K:ah)(A:Cl)(Pt:af)(pre:List Int->List Int->Prop)(c:List Int->List Int->U7):Sp:=λvs H Q _=>∃(hs d e g:af)(M:List af)(h:lI)(fm:dY)(ns row:List Int),
 vs=[.ref hs,.ref d,.ref e]/\Rg A Pt g M H hs h/\h.form=some fm/\H d=some (.lst (jN ns))/\cut H M e=some (.lst (jN row))/\pre ns row/\∀D H',Ans A Pt g M H hs (bT h (c ns row)) D H'->Q (.ref D) H'
theorem i7(l:List Nat):jN (nums l)=gP l:=by unfold jN nums gP;rw[aP];rfl
theorem sX(w:Int):∀l:List PR,match(l.map (·.2)).find? (λr=>(r.who:Int)==w) with
  |none=>iP (t8 l) (cC w:Key)=none
  |some r=>∃a,(a,r)∈l/\iP (t8 l) (cC w:Key)=some (.ref a)/\(r.who:Int)=w
 |[]=>rfl
 |p::l=>by
  have ih:=sX w l;rw[bp,hJ];by_cases q:(p.2.who:Int)=w
  ·rw[show((p.2.who:Int)==w)=true by simpa using q];exact⟨p.1,.head _,uQ (p:=(Ft p.2.who,V.ref p.1)) (by unfold Ft;rw[q]),q⟩
  ·rw[show((p.2.who:Int)==w)=false by simpa using q];have e:iP (t8 (p::l)) (cC w:Key)=iP (t8 l) (cC w:Key):=qT (p:=(Ft p.2.who,V.ref p.1)) λz=>q (Ao z);rw[e];dsimp only
   cases q2:(l.map (·.2)).find? (λr=>(r.who:Int)==w) with
   |none=>rw[q2] at ih;exact ih
   |some r=>rw[q2] at ih;obtain⟨a,h1,h2,h3⟩:=ih;exact⟨a,.tail _ h1,h2,h3⟩
section
variable{P:bo}{w:bM}{K:ah}{mg:Str->Option aj}{base:cu}{A:Cl}{Pt:af}
theorem Bg(T:Txt K mg A):Def P w K mg base "answer_counts" 1 ["house","numbers","row"] (Mo K A Pt (λ_ _=>True) λ_ _=>.counts):=by
 refine T.ko.F8.ok rq (λvs H Q E h=>?_) (λf eC A' outer s H vs Q E hr h=>?_)
 ·obtain⟨hs,d,e,g,M,h,fm,ns,row,rfl,_⟩:=h;rfl
 ·obtain⟨hs,d,e,g,M,h,fm,ns,row,rfl,S0,hf,hd,he,hp,k⟩:=h;obtain⟨dx,rd,rl,l,gx,zs,fv,S⟩:=id S0;have X:=S.form hf;obtain⟨fa,rfl,F0⟩:=X.ex;obtain⟨ur,lc,lv,as,f1,f2,f3,f4⟩:=F0.mono (bU _ _);have gu:bT h .counts=(h,0::nums [fm.columns.length,fm.values.length,h.rows.length,h.releases.length]):=by show bG h _=_;unfold bG;rw[hf]
  rw[gu] at k;refine⟨_,(aw (bZ (i:=3) rq.nd rfl fo (bj (pv 0) rfl)) (aF (aX (bV (aH bx (aH (cD bt (by rfl) T.b.dM cJ (aH (bj (pv 3) rfl) ao)) (aH (cD bt (by rfl) T.b.dM cJ (aH (bj (pv 3) rfl) ao)) (aH (cD qV (by rfl) T.b.dM cJ (aH (bj (pv 0) rfl) ao)) (aH (cD bt (by rfl) T.b.dM cJ (aH (bj (pv 0) rfl) ao)) ao))))))))),?_⟩;refine⟨_,rfl,hs,A.cP,dx,_,_,rfl,S.ins,T.cP.cl,T.cP.gD,da,?_⟩;refine⟨_,rfl,fa,A.fZ,ur,_,_,rfl,f1,T.fZ.cl,T.fZ.fg,fP,lc,_,rfl,.inl (bD.of f2),_,rfl,fa,A.fZ,ur,_,_,rfl,f1,T.fZ.cl,T.fZ.d4,fV,lv,_,rfl,.inl (bD.of f4),_,rfl,hs,A.cP,dx,_,_,rfl,S.ins,T.cP.cl,T.cP.jV,fu,rd,_,rfl,S.w9,_,rfl,hs,A.cP,dx,_,_,rfl,S.ins,T.cP.cl,T.cP.fS,d5,rl,_,rfl,.inl (bD.of S.lst),by show 5<=az;decide,λD hD=>k D _ (Ans.same S0 (aB hD) hD ?_)⟩;rw[ag];have e1:=Paired.len f3;have e2:=Paired.len S.xj;have e3:=X.rl.len;have e4:l.length=h.rows.length:=by rw[<-S.rows,aa]
  rw[ck,d9,aa,ck,e1,e2,e3,e4];rfl
theorem EO(T:Txt K mg A):Def P w K mg base "answer_cost" 4 ["house","numbers","levels"] (Mo K A Pt (λ_ row=>row.length<=100) λ_ row=>.cost row):=by
 refine T.ko.Kt.ok Ei (λvs H Q E h=>?_) (λf eC A' outer s H vs Q E hr h=>?_)
 ·obtain⟨hs,d,e,g,M,h,fm,ns,row,rfl,_⟩:=h;rfl
 ·obtain⟨hs,d,e,g,M,h,fm,ns,row,rfl,S0,hf,hd,he,hp,k⟩:=h;obtain⟨dx,rd,rl,l,gx,zs,fv,S⟩:=id S0;have X:=S.form hf;obtain⟨fa,rfl,F0⟩:=X.ex;have F1:=F0.mono (bU _ _);obtain⟨ur,lc,lv,as,f1,f2,f3,f4⟩:=id F1;have qB:=(cY he).2;have gu:bT h (.cost row)=if Fz fm.columns row=false then(h,[-1]) else(h,[0,(iO fm.columns (bz row):Int)]):=by show bG h _=_;unfold bG;rw[hf];rfl
  rw[gu] at k;refine⟨_,(aw (dj (gB (fQ (cg (bj (pv 0) rfl) T.fZ.cl (iX T) hr.mono (aH (pv 2) ao)))) (aF (aX (bV (aH (cU T.k.gW rfl) ao)))) bO) (aF (aX (bV (aH bx (aH (cg (bj (pv 0) rfl) T.fZ.cl (mr T) hr.mono (aH (pv 2) ao)) ao)))))),?_⟩;refine⟨_,rfl,hs,A.cP,dx,_,_,rfl,S.ins,T.cP.cl,T.cP.gD,da,fa,ur,_,rfl,f1,ij,_,rfl,fa,e,fm,row,rfl,F1,X.ok,bD.of qB,hp,λH1 s1=>⟨_,rfl,km (λq=>?_) (λq=>?_)⟩⟩
  ·rw[if_pos q] at k;exact⟨by show 1<=az;decide,λD hD=>k D _ (Ans.same S0 (s1.trans (aB hD)) (s1.free hD) (by rw[ag];rfl))⟩
  ·rw[if_neg (by rw[q];exact bK)] at k;obtain⟨Xv,lz⟩:=wu q;refine cN ?_;refine⟨_,rfl,hs,A.cP,dx,_,_,rfl,s1 _ _ S.ins,T.cP.cl,T.cP.gD,da,fa,ur,_,rfl,s1 _ _ f1,ke,_,rfl,fa,e,fm,bz row,rfl,F1.mono s1,X.ok,bD.of ?_,Xv,λH2 s2=>⟨by show 2<=az;decide,λD hD=>k D _ (Ans.same S0 ((s1.trans s2).trans (aB hD)) (s1.free (s2.free hD)) (by rw[ag];rfl))⟩⟩;rw[s1 _ _ qB,<-i7];exact congrArg (λz=>some (HO.lst (jN z))) lz
end
end Bp
namespace Bp
open PySem PySem.Spec PyProof.Rows L2 Bm
open Vbslai (choices nums rowOf hidden spaced text)
theorem Rh{fm:dY}(ok:iy fm):(qN fm).length<=100000:=by
 unfold qN;have h1:(fm.columns.flatMap dv).length<=160:=by have h:=pF (f:=dv) (B:=40) fm.columns (λc hc=>(jy (ok.cols c hc)).1);have:=d7 40 ok.len;omega
 have h2:∀x∈fm.columns.flatMap dv++[spaced (text "secret"::fm.secret::fm.values)],(x++[10]).length<=201:=λx hx=>by
  rw[aO];show x.length+1<=201;rcases aD.mp hx with h|h
  ·obtain⟨c,hc,hm⟩:=jz.mp h;have:=(jy (ok.cols c hc)).2 x hm;omega
  ·have e:x=spaced (text "secret"::fm.secret::fm.values):=by simpa using h
   have hh:(spaced (text "secret"::fm.secret::fm.values)).length<=(text "secret"::fm.secret::fm.values).length*11:=iK (B:=10) _ λx hx=>by
    rcases aA.mp hx with z|z
    ·rw[z];decide
    ·rcases aA.mp z with z|z
     ·rw[z];exact gn ok.sec
     ·exact gn (b0.mp ok.vn x z)
   rw[aV,aV] at hh;have:=ok.v12;rw[e];omega
 have h3:=pF (f:=λl:aG=>l++[10]) (B:=201) _ h2;rw[aO (as:=fm.columns.flatMap dv),ox] at h3;refine ak h3 (ak (d7 201 (show _<=161 by omega)) (by decide))
section
variable{P:bo}{w:bM}{K:ah}{mg:Str->Option aj}{base:cu}{A:Cl}{Pt:af}
theorem Cu(T:Txt K mg A):Def P w K mg base "answer_print" 3 ["house","numbers","row"] (Mo K A Pt (λ_ _=>True) λ_ _=>.print):=by
 refine T.ko.Io.ok Cd (λvs H Q E h=>?_) (λf eC A' outer s H vs Q E hr h=>?_)
 ·obtain⟨hs,d,e,g,M,h,fm,ns,row,rfl,_⟩:=h;rfl
 ·obtain⟨hs,d,e,g,M,h,fm,ns,row,rfl,S0,hf,hd,he,hp,k⟩:=h;obtain⟨dx,rd,rl,l,gx,zs,fv,S⟩:=id S0;have X:=S.form hf;obtain⟨fa,rfl,F0⟩:=X.ex;have F1:=F0.mono (bU _ _);have gu:bT h .print=(h,0::Aw (qN fm)):=by show bG h _=_;unfold bG;rw[hf]
  rw[gu] at k;have hlen:=Rh X.ok;refine⟨_,(aF (aX (fh jD (bV (aH bx ao)) (bC (m7 T) hr.mono rfl (aH (bC (Jj T) hr.mono rfl (aH (bj (pv 0) rfl) ao)) ao))))),?_⟩;refine⟨by show 1<=az;decide,λq hq=>⟨_,rfl,hs,A.cP,dx,_,_,rfl,aB hq _ _ S.ins,T.cP.cl,T.cP.gD,da,fa,fm,rfl,F1.mono (aB hq),X.ok,λH1 s1=>⟨qN fm,rfl,bW hlen (by decide),λD H2 hD s2 e2=>⟨q,D,_,_,rfl,rfl,s2 _ _ (s1 _ _ ag),e2,?_,λz hz=>k z _ (Ans.same S0 ((((aB hq).trans s1).trans s2).trans (aB hz)) ((aB hq).free (s1.free (s2.free hz))) ?_)⟩⟩⟩⟩
  ·rw[eh,aV];show 1+((qN fm).length+1)<=az;exact ak (show _<=100002 by omega) (by decide)
  ·rw[ag,show(0::Aw (qN fm))=nums (0::(qN fm).length::qN fm) from rfl,i7];rfl
theorem ER(T:Txt K mg A):Def P w K mg base "answer_next" 8 ["house","numbers","asked"] (Mo K A Pt (λns row=>(∃x u m,ns=[x,u,m])/\row.length<=100) λns row=>.next (ns.getD 0 0) (ns.getD 1 0) (ns.getD 2 0) row):=by
 refine T.ko.Ku.ok Ej (λvs H Q E h=>?_) (λf eC A' outer s H vs Q E hr h=>?_)
 ·obtain⟨hs,d,e,g,M,h,fm,ns,row,rfl,_⟩:=h;rfl
 ·obtain⟨hs,d,e,g,M,h,fm,ns,row,rfl,S0,hf,hd,he,⟨⟨x,u,m,rfl⟩,hp⟩,k⟩:=h;obtain⟨dx,rd,rl,l,gx,zs,fv,S⟩:=id S0;have X:=S.form hf;obtain⟨fa,rfl,F0⟩:=X.ex;have F1:=F0.mono (bU _ _);have qB:=(cY he).2;have gu:bT h (.next x u m row)=if lK fm x u m row=false then(h,[-1]) else(h,0::nums [(choices (fm.columns.zip (row.map λb=>b==1))).length,(Fi fm.columns h.releases h.rows (row.map λb=>b==1) x.toNat u.toNat m.toNat).length,(Fi fm.columns [] h.rows (row.map λb=>b==1) x.toNat u.toNat m.toNat).length]):=by show bG h _=_;unfold bG;rw[hf];rfl
  have n9:bT h (.next (([x,u,m]:List Int).getD 0 0) (([x,u,m]:List Int).getD 1 0) (([x,u,m]:List Int).getD 2 0) row)=_:=gu;rw[n9] at k;refine⟨_,(aw (dj (gB (fQ (bC (lJ T) hr.mono rfl (aH (bj (pv 0) rfl) (aH (pv 1) (aH (pv 2) ao)))))) (aF (aX (bV (aH (cU T.k.gW rfl) ao)))) bO) (aF (aX (fh jD (bV (aH bx ao)) (bC (EN T) hr.mono rfl (aH (bj (pv 0) rfl) (aH (dk (pv 0) T.cP.cl (eP T) hr.mono) (aH (bj (pv 0) rfl) (aH (pv 1) (aH (pv 2) ao)))))))))),?_⟩;refine⟨_,rfl,hs,A.cP,dx,_,_,rfl,S.ins,T.cP.cl,T.cP.gD,da,_,rfl,_,rfl,fa,d,e,fm,x,u,m,row,rfl,F1,bD.of hd,bD.of qB,hp,λH1 s1=>⟨_,rfl,km (λq=>?_) (λq=>?_)⟩⟩
  ·rw[if_pos q] at k;exact⟨by show 1<=az;decide,λD hD=>k D _ (Ans.same S0 (s1.trans (aB hD)) (s1.free hD) (by rw[ag];rfl))⟩
  ·rw[if_neg (by rw[q];exact bK)] at k;obtain⟨Zk,hu0,IM,IV⟩:=EL q;refine cN ?_;refine⟨by show 1<=az;decide,λy hy=>?_⟩;have s2:=s1.trans (aB (o:=HO.lst [V.int 0]) hy);refine⟨_,rfl,hs,A.cP,dx,_,_,rfl,s2 _ _ S.ins,T.cP.cl,T.cP.gD,da,_,rfl,hs,dx,_,rfl,s2 _ _ S.ins,dS,hs,dx,rd,_,_,_,rfl,s2 _ _ S.ins,s2 _ _ S.w9,λD1 H3 Zd s3 e3=>?_⟩;have RJ:H3 D1=some (.lst (pB l)):=by rw[e3];unfold t8 pB;rw[aP];rfl
   have Cs:=s2.trans s3;refine⟨_,rfl,hs,A.cP,dx,_,_,rfl,Cs _ _ S.ins,T.cP.cl,T.cP.fS,d5,_,rfl,_,rfl,fa,D1,rl,d,e,fm,l,gx,zs,h.releases,row,x.toNat,u.toNat,m.toNat,rfl,F1.mono Cs,X.ok,RJ,(X.rows.mono (bU _ _)).mono Cs,S.ndl,Cs _ _ S.lst,gN.mono ((bU _ _).trans Cs) S.xj,?_,bD.of ?_,bD.of (Cs _ _ qB),IV,λD2 H4 BR s4 e4=>?_⟩
   ·rw[S.rows];exact X.rl
   ·rw[Cs _ _ hd,eI Zk,eI hu0,eI IM]
   ·refine⟨y,D2,_,_,rfl,rfl,s4 _ _ (s3 _ _ ag),e4,by show 4<=az;decide,λz hz=>k z _ (Ans.same S0 ((Cs.trans s4).trans (aB hz)) (Cs.free (s4.free hz)) ?_)⟩;rw[ag,show∀a b c:Nat,(0:Int)::nums [a,b,c]=nums [0,a,b,c] fromλ_ _ _=>rfl,i7,S.rows];rfl
theorem Bh(T:Txt K mg A):Def P w K mg base "answer_hidden" 6 ["house","numbers","row"] (Mo K A Pt (λns _=>∃x,ns=[x]) λns _=>.hidden (ns.getD 0 0)):=by
 refine T.ko.F7.ok m5 (λvs H Q E h=>?_) (λf eC A' outer s H vs Q E hr h=>?_)
 ·obtain⟨hs,d,e,g,M,h,fm,ns,row,rfl,_⟩:=h;rfl
 ·obtain⟨hs,d,e,g,M,h,fm,ns,row,rfl,S0,hf,hd,he,⟨x,rfl⟩,k⟩:=h;obtain⟨dx,rd,rl,l,gx,zs,fv,S⟩:=id S0;have X:=S.form hf;have hu:=tm hr;have gu:bT h (.hidden x)=match rowOf h x with
    |none=>(h,[-4])
    |some r=>(h,0::nums [(amb h.releases r).1,(amb h.releases r).2,(hidden fm.columns h.releases h.rows r).length,(Av (hidden fm.columns h.releases h.rows r)).length]):=by
   show bG h _=_;unfold bG;rw[hf];rfl
  have n9:bT h (.hidden (([x]:List Int).getD 0 0))=_:=gu;rw[n9] at k;have hv:=sX x l;rw[S.rows] at hv;have hg:jv H rd (.int x) (iP (t8 l) (cC x:Key)):=jv.k (k:=(cC x:Key)) S.w9;refine⟨_,(aw (bZ (i:=3) m5.nd rfl fo (eG cO (pv 1) bx (λ_ _=>rfl))) (aw (dj (x4 (oK hu (pv 3) (bj (pv 0) rfl))) (aF (aX (bV (aH (cU T.k.pf rfl) ao)))) bO) (aw (bZ (i:=4) m5.nd rfl fo (cg (pv 0) T.cP.cl (xT T) hr.mono (aH (pv 3) ao))) (aF (aX (bV (aH bx (aH (bj (pv 4) rfl) (aH (bj (pv 4) rfl) (aH (cD bt (by rfl) T.b.dM cJ (aH (bj (pv 4) rfl) ao)) (aH (bC (mv T) hr.mono rfl (aH (bj (pv 4) rfl) ao)) ao))))))))))),?_⟩;refine aZ ?_;refine⟨_,rfl,d,_,_,_,rfl,rfl,bD.of hd,cG (j:=0) rfl,?_⟩;refine b8 ?_;refine aZ ?_;refine⟨_,rfl,_,rfl,hs,A.cP,dx,_,_,rfl,S.ins,T.cP.cl,T.cP.jV,fu,rd,_,rfl,hg,_,rfl,?_⟩
  cases er:rowOf h x with
  |none=>rw[er] at k;have BX:h.rows.find? (λr=>(r.who:Int)==x)=none:=er;rw[BX] at hv;have uH:iP (t8 l) (cC x:Key)=none:=hv;rw[uH];exact kC ⟨by show 1<=az;decide,λD hD=>k D _ (Ans.same S0 (aB hD) hD (by rw[ag];rfl))⟩
  |some r=>
   rw[er] at k;have BX:h.rows.find? (λr=>(r.who:Int)==x)=some r:=er;rw[BX] at hv;obtain⟨a,IV,uH,hw⟩:=hv;rw[uH];refine kK ?_;refine cN ?_;have R1:gr A fm.columns H l:=X.rows.mono (bU _ _);have hrm:r∈h.rows:=iS BX;have hvr:iP (t8 l) (Ft r.who)=some (.ref a):=by unfold Ft;rw[hw];exact uH
   subst hw;refine aZ ?_;refine⟨_,rfl,hs,dx,_,rfl,S.ins,tQ,_,rfl,hs,dx,rd,rl,_,fm.columns,l,(a,r),gx,zs,rfl,S.ins,S.w9,hvr,R1.at' _ IV,R1,S.lst,gN.mono (bU _ _) S.xj,λy H1 s1 hh=>?_⟩;obtain⟨m,⟨dxh,la,g1,g2⟩,sQ,Xp⟩:=hh;refine b8 ?_;have g2':H1 la=some (.lst (iJ (m.map (·.1)))):=by rw[g2,wA]
   have Rm:gr A fm.columns H1 m:=(R1.mono s1).sub sQ;refine⟨_,rfl,y,A.jg,dxh,_,_,rfl,g1,T.jg.cl,T.jg.Xc,Iv,_,rfl,y,A.jg,dxh,_,_,rfl,g1,T.jg.cl,T.jg.Xd,Iw,_,rfl,y,A.jg,dxh,_,_,rfl,g1,T.jg.cl,T.jg.wy,nH,la,_,rfl,.inl (bD.of g2'),_,rfl,y,A.jg,dxh,_,_,rfl,g1,T.jg.cl,T.jg.wy,nH,la,_,_,rfl,g2',Rm.rows,by rw[aa];exact ak Rm.len (by decide),λH2 s2=>⟨by show 5<=az;decide,λD hD=>k D _ (Ans.same S0 ((s1.trans s2).trans (aB hD)) (s1.free (s2.free hD)) ?_)⟩⟩;rw[ag,show∀a b c d:Nat,(0:Int)::nums [a,b,c,d]=nums [0,a,b,c,d] fromλ_ _ _ _=>rfl,i7,S9 X.rl,MU S.nd hrm X.rl,ck,<-S.rows,<-Xp,aa,aa];rfl
theorem Cv(T:Txt K mg A):Def P w K mg base "answer_could" 6 ["house","numbers","row"] (Mo K A Pt (λns _=>∃x,ns=[x]) λns _=>.could (ns.getD 0 0)):=by
 refine T.ko.Im.ok tV (λvs H Q E h=>?_) (λf eC A' outer s H vs Q E hr h=>?_)
 ·obtain⟨hs,d,e,g,M,h,fm,ns,row,rfl,_⟩:=h;rfl
 ·obtain⟨hs,d,e,g,M,h,fm,ns,row,rfl,S0,hf,hd,he,⟨x,rfl⟩,k⟩:=h;obtain⟨dx,rd,rl,l,gx,zs,fv,S⟩:=id S0;have X:=S.form hf;obtain⟨fa,rfl,F0⟩:=X.ex;have F1:=F0.mono (bU _ _);obtain⟨ur,lc,lv,as,f1,f2,f3,f4⟩:=id F1;have hu:=tm hr;have gu:bT h (.could x)=match rowOf h x with
    |none=>(h,[-4])
    |some r=>(h,0::nums (j8 fm.values.length (hidden fm.columns h.releases h.rows r))):=by
   show bG h _=_;unfold bG;rw[hf];rfl
  have n9:bT h (.could (([x]:List Int).getD 0 0))=_:=gu;rw[n9] at k;have hv:=sX x l;rw[S.rows] at hv;have hg:jv H rd (.int x) (iP (t8 l) (cC x:Key)):=jv.k (k:=(cC x:Key)) S.w9;refine⟨_,(aw (bZ (i:=3) tV.nd rfl fo (eG cO (pv 1) bx (λ_ _=>rfl))) (aw (dj (x4 (oK hu (pv 3) (bj (pv 0) rfl))) (aF (aX (bV (aH (cU T.k.pf rfl) ao)))) bO) (aF (aX (fh jD (bV (aH bx ao)) (bC (rF T) hr.mono rfl (aH (bj (cg (pv 0) T.cP.cl (xT T) hr.mono (aH (pv 3) ao)) rfl) (aH (cD bt (by rfl) T.b.dM cJ (aH (bj (bj (pv 0) rfl) rfl) ao)) ao)))))))),?_⟩;refine aZ ?_;refine⟨_,rfl,d,_,_,_,rfl,rfl,bD.of hd,cG (j:=0) rfl,?_⟩;refine b8 ?_;refine aZ ?_;refine⟨_,rfl,_,rfl,hs,A.cP,dx,_,_,rfl,S.ins,T.cP.cl,T.cP.jV,fu,rd,_,rfl,hg,_,rfl,?_⟩
  cases er:rowOf h x with
  |none=>rw[er] at k;have BX:h.rows.find? (λr=>(r.who:Int)==x)=none:=er;rw[BX] at hv;have uH:iP (t8 l) (cC x:Key)=none:=hv;rw[uH];exact kC ⟨by show 1<=az;decide,λD hD=>k D _ (Ans.same S0 (aB hD) hD (by rw[ag];rfl))⟩
  |some r=>
   rw[er] at k;have BX:h.rows.find? (λr=>(r.who:Int)==x)=some r:=er;rw[BX] at hv;obtain⟨a,IV,uH,hw⟩:=hv;rw[uH];refine kK ?_;refine cN ?_;have R1:gr A fm.columns H l:=X.rows.mono (bU _ _);have hrm:r∈h.rows:=iS BX;have hvr:iP (t8 l) (Ft r.who)=some (.ref a):=by unfold Ft;rw[hw];exact uH
   subst hw;refine⟨by show 1<=az;decide,λq hq=>?_⟩;have s0:aS H (upd H q (.lst [.int 0])):=aB hq;refine⟨_,rfl,hs,dx,_,rfl,s0 _ _ S.ins,tQ,_,rfl,hs,dx,rd,rl,_,fm.columns,l,(a,r),gx,zs,rfl,s0 _ _ S.ins,s0 _ _ S.w9,hvr,(R1.at' _ IV).mono s0,R1.mono s0,s0 _ _ S.lst,gN.mono ((bU _ _).trans s0) S.xj,λy H1 s1 hh=>?_⟩;obtain⟨m,⟨dxh,la,g1,g2⟩,sQ,Xp⟩:=hh;have g2':H1 la=some (.lst (iJ (m.map (·.1)))):=by rw[g2,wA]
   have Fu:=s0.trans s1;have Rm:gr A fm.columns H1 m:=(R1.mono Fu).sub sQ;have acV:=X.ok.v12;refine⟨y,A.jg,dxh,_,_,rfl,g1,T.jg.cl,T.jg.wy,nH,_,rfl,hs,A.cP,dx,_,_,rfl,Fu _ _ S.ins,T.cP.cl,T.cP.gD,da,fa,A.fZ,ur,_,_,rfl,Fu _ _ f1,T.fZ.cl,T.fZ.d4,fV,lv,_,rfl,.inl (bD.of (Fu _ _ f4)),la,_,_,fm.values.length,by rw[d9];rfl,g2',Rm.rows,by rw[aa];exact ak Rm.len (by decide),by omega,λD H2 hD s2 e2=>⟨q,D,_,_,rfl,rfl,s2 _ _ (s1 _ _ ag),e2,?_,λz hz=>k z _ (Ans.same S0 ((Fu.trans s2).trans (aB hz)) (Fu.free (s2.free hz)) ?_)⟩⟩
   ·rw[eh];unfold j8;rw[aa,dU];show 1+fm.values.length<=az;exact cT (dB (by omega))
   ·rw[ag,show∀a:List Nat,(0:Int)::nums a=nums (0::a) fromλ_=>rfl,i7,MU S.nd hrm X.rl,<-S.rows,<-Xp];rfl
end
end Bp
namespace Bp
open PySem PySem.Spec PyProof.Rows L2 Bm
open Vbslai (within nums spaced digits text)
theorem zZ(x:List aG):∀l:List (List aG),(xY x l).length<=l.length+1
 |[]=>aJ _
 |y::l=>by
  unfold xY;have ih:=zZ x l;split
  ·simp
  ·split
   ·simp
   ·simp;omega
theorem z6:∀(xs l:List (List aG)),(xs.foldl (λl x=>xY x l) l).length<=l.length+xs.length
 |[],l=>aJ _
 |x::xs,l=>by rw[bI];have h1:=z6 xs (xY x l);have h2:=zZ x l;rw[aV];omega
theorem text_len{fm:dY}(ok:iy fm){q:fN}{rows:List fW}(hl:rows.length<=40)(hc:∀r∈rows,yj fm.columns r.cells)(hv:kZ fm.columns q.levels):(iM fm q rows).length<=100000:=by
 unfold iM;have h1:(GB fm.columns q rows).length<=40:=by unfold GB;refine ak (z6 _ _) ?_;rw[aa];refine ak (xo (Nat.zero_add _)) (ak (dO _ _) hl)
 have h2:∀c∈GB fm.columns q rows,(spaced (c++[text ":"]++(j8 fm.values.length (rows.filter λr=>q.has.contains r.who&&aE fm.columns q.levels r==c)).map digits)++[10]).length<=200:=λc hm=>by
  have hcr:∃r∈rows,aE fm.columns q.levels r=c:=by
   unfold GB at hm;rw[(Dv _ [] (by simp)).2] at hm;rcases hm with h|h
   ·simp at h
   ·obtain⟨r,hr,e⟩:=aq.mp h;exact⟨r,(bE.mp hr).1,e⟩
  obtain⟨r,hr,rfl⟩:=hcr;have uB:(aE fm.columns q.levels r).length<=4:=by rw[me hv.1 (hc r hr).1];exact ok.len
  rw[aO];refine ak (Nat.add_le_add_right (iK (B:=10) _ λx hx=>?_) 1) ?_
  ·rcases aD.mp hx with h|h
   ·rcases aD.mp h with h|h
    ·exact CV ok (hc r hr) x h
    ·have:x=text ":":=by simpa using h
     rw[this];decide
   ·obtain⟨v,hv,rfl⟩:=aq.mp h;unfold j8 at hv;obtain⟨u,_,rfl⟩:=aq.mp hv;have h1:=dO (λr:fW=>r.secret==u) (rows.filter λr'=>q.has.contains r'.who&&aE fm.columns q.levels r'==aE fm.columns q.levels r);have h2:=dO (λr':fW=>q.has.contains r'.who&&aE fm.columns q.levels r'==aE fm.columns q.levels r) rows;exact ak (jr (k:=7) (by decide) (bW h1 (by omega))) (by decide)
  ·rw[aO,aO,aa];unfold j8;rw[aa,dU];have:=ok.v12;show((aE fm.columns q.levels r).length+1+fm.values.length)*11+1<=200;omega
 have h3:=pF _ h2;exact ak h3 (ak (d7 200 h1) (by decide))
theorem Jp{cs:List bw}{rows:List fW}:∀{zs:List Rl}{qs:List fN}{i:Nat}{z:Rl},jU cs rows zs qs->zs[i]? =some z->∃q,qs[i]? =some q/\yh cs rows z q
 |_,_,i,z,.nil,h=>by simp at h
 |_,_,0,z,.cons r t,h=>by simp at h;subst h;exact⟨_,rfl,r⟩
 |_,_,i+1,z,.cons r t,h=>by obtain⟨q,h1,h2⟩:=Jp (i:=i) t (by simpa using h);exact⟨q,by simpa using h1,h2⟩
theorem z7{cs:List bw}{rows:List fW}{z:Rl}{q:fN}(ok:yh cs rows z q):mH q=nums (z.levels++[z.k,z.u,z.lk.length,z.left]):=by unfold mH nums;rw[br,ok.lv,ok.k,ok.u,ok.left,ok.len]
section
variable{P:bo}{w:bM}{K:ah}{mg:Str->Option aj}{base:cu}{A:Cl}{Pt:af}
theorem ES(T:Txt K mg A):Def P w K mg base "answer_text" 6 ["house","numbers","row"] (Mo K A Pt (λns _=>∃x,ns=[x]) λns _=>.text (ns.getD 0 0)):=by
 refine T.ko.Ks.ok vF (λvs H Q E h=>?_) (λf eC A' outer s H vs Q E hr h=>?_)
 ·obtain⟨hs,d,e,g,M,h,fm,ns,row,rfl,_⟩:=h;rfl
 ·obtain⟨hs,d,e,g,M,h,fm,ns,row,rfl,S0,hf,hd,he,⟨x,rfl⟩,k⟩:=h;obtain⟨dx,rd,rl,l,gx,zs,fv,S⟩:=id S0;have X:=S.form hf;obtain⟨fa,rfl,F0⟩:=X.ex;have F1:=F0.mono (bU _ _);have OR:=Paired.len S.xj;have wD:=X.rl.len;have gu:bT h (.text x)=if within x 0 ((h.releases.length:Int)-1)=false then(h,[-1]) else(match h.releases[x.toNat]? with
    |some y=>(h,0::Aw (iM fm y h.rows))
    |none=>(h,[-1])):=by
   show bG h _=_;unfold bG;rw[hf];rfl
  have n9:bT h (.text (([x]:List Int).getD 0 0))=_:=gu;rw[n9] at k;have ref:within x 0 ((h.releases.length:Int)-1)=false->∀D H',aS H H'->H D=none->H' D=some (.lst (jN [-1]))->Q (.ref D) H':=λq D H' s1 hD e1=>by rw[if_pos q] at k;exact k D H' (Ans.same S0 s1 hD e1)
  refine⟨_,(aw (bZ (i:=3) vF.nd rfl fo (eG cO (pv 1) bx (λ_ _=>rfl))) (aw (dj (gB (zc ip C1 bx (pv 3) (cD bt (by rfl) T.b.dM cJ (aH (bj (pv 0) rfl) ao)))) (aF (aX (bV (aH (cU T.k.gW rfl) ao)))) bO) (aF (aX (fh jD (bV (aH bx ao)) (bC (m7 T) hr.mono rfl (aH (bC (Cr T) hr.mono rfl (aH (bj (pv 0) rfl) (aH (dk (pv 0) T.cP.cl (eP T) hr.mono) (aH (eG cO (bj (pv 0) rfl) (pv 3) (λ_ _=>rfl)) ao)))) ao))))))),?_⟩;refine aZ ?_;refine⟨_,rfl,d,_,_,_,rfl,rfl,bD.of hd,cG (j:=0) rfl,?_⟩;refine b8 ?_;refine aZ ?_;refine⟨_,rfl,_,_,rfl,rfl,_,rfl,fC (λq1=>⟨_,rfl,hs,A.cP,dx,_,_,rfl,S.ins,T.cP.cl,T.cP.fS,d5,rl,_,rfl,.inl (bD.of S.lst),_,_,rfl,rfl,_,rfl,vc (λq2=>?_) (λq2=>?_)⟩) (λq1=>⟨_,rfl,kC ?_⟩)⟩
  ·refine⟨by show 1<=az;decide,λD hD=>ref ?_ D _ (aB hD) hD ag⟩;rw[ck,OR,wD] at q2;rw[ki q1,decide_eq_false (by omega)]
  ·rw[ck,OR,wD] at q2;rw[if_neg (by rw[ki q1,decide_eq_true (by omega)];exact bK)] at k;refine cN ?_;refine⟨by show 1<=az;decide,λq hq=>?_⟩;have s0:aS H (upd H q (.lst [.int 0])):=aB hq;refine⟨_,rfl,hs,A.cP,dx,_,_,rfl,s0 _ _ S.ins,T.cP.cl,T.cP.gD,da,_,rfl,hs,dx,_,rfl,s0 _ _ S.ins,dS,hs,dx,rd,_,_,_,rfl,s0 _ _ S.ins,s0 _ _ S.w9,λD1 H1 Zd s1 e1=>?_⟩;have Xm:H1 D1=some (.lst (pB l)):=by rw[e1];unfold t8 pB;rw[aP];rfl
   have Fu:=s0.trans s1;have hxi:x.toNat<gx.length:=by omega
   obtain⟨z,hz,Nz⟩:=Paired.vH S.xj (au hxi);obtain⟨y,hy,Mn⟩:=Jp X.rl hz;rw[hy] at k;have WG:=X.lv z (aL hz);have ex:x=((x.toNat:Nat):Int):=by omega
   refine⟨_,rfl,hs,A.cP,dx,_,_,rfl,Fu _ _ S.ins,T.cP.cl,T.cP.fS,d5,_,rfl,rl,_,_,_,rfl,rfl,bD.of (Fu _ _ S.lst),at_of (v:=.ref gx[x.toNat]) ex (by unfold iJ;rw[aU,au hxi];rfl),fa,D1,gx[x.toNat],fm,l,z,y,rfl,F1.mono Fu,X.ok,Xm,(X.rows.mono (bU _ _)).mono Fu,Nz.mono ((bU _ _).trans Fu),by rw[S.rows];exact Mn,WG,λH2 s2=>?_⟩;have hlen:(iM fm y (l.map (·.2))).length<=100000:=text_len X.ok (by rw[aa];exact X.rows.len) (λr hr=>by obtain⟨p,hp,rfl⟩:=aq.mp hr;exact X.rows.cells p hp) (by rw[<-Mn.lv];exact WG);refine⟨_,rfl,bW hlen (by decide),λD H3 hD s3 e3=>⟨q,D,_,_,rfl,rfl,s3 _ _ (s2 _ _ (s1 _ _ ag)),e3,?_,λv hv=>k v _ (Ans.same S0 (((Fu.trans s2).trans s3).trans (aB hv)) (Fu.free (s2.free (s3.free hv))) ?_)⟩⟩
   ·rw[eh,aV];show 1+((iM fm y (l.map (·.2))).length+1)<=az;exact ak (show _<=100002 by omega) (by decide)
   ·rw[ag,S.rows,show(0::Aw (iM fm y h.rows))=nums (0::(iM fm y h.rows).length::iM fm y h.rows) from rfl,i7];rfl
  ·refine⟨by show 1<=az;decide,λD hD=>ref ?_ D _ (aB hD) hD ag⟩;rw[rK q1]
theorem yX(T:Txt K mg A):Def P w K mg base "answer_releases" 2 ["house","numbers","row"] (Mo K A Pt (λ_ _=>True) λ_ _=>.releases):=by
 refine T.ko.Cb.ok lD (λvs H Q E h=>?_) (λf eC A' outer s H vs Q E hr h=>?_)
 ·obtain⟨hs,d,e,g,M,h,fm,ns,row,rfl,_⟩:=h;rfl
 ·obtain⟨hs,d,e,g,M,h,fm,ns,row,rfl,S0,hf,hd,he,hp,k⟩:=h;obtain⟨dx,rd,rl,l,gx,zs,fv,S⟩:=id S0;have X:=S.form hf;have OR:=Paired.len S.xj;have wD:=X.rl.len;have hr4:=S.Rf;have gu:bT h .releases=(h,0::(h.releases.length:Int)::h.releases.flatMap mH):=by show bG h _=_;unfold bG;rw[hf]
  rw[gu] at k;have Z1:gN A H gx zs:=gN.mono (bU _ _) S.xj;have lvl:∀z∈zs,z.levels.length<=4:=λz hz=>by rw[(X.lv z hz).1];exact X.ok.len
  have ZE:∀i,((h.releases.take i).flatMap mH).length<=100:=λi=>by
   have h1:=pF (f:=mH) (B:=8) (h.releases.take i) (λq hq=>by
    obtain⟨j,hj,e⟩:=jt (kT hq);have hz:zs[j]? =some zs[j]:=au (by omega);obtain⟨q',Sm,Mn⟩:=Jp X.rl hz;rw[au hj,e] at Sm;cases Sm;rw[z7 Mn];unfold nums;rw[aa,aO];have:=lvl _ (GF (by omega:j<zs.length));show _+4<=8;omega)
   rw[cK] at h1;have:min i h.releases.length*8<=4*8:=d7 _ (by omega);omega
  refine⟨_,(aw (bZ (i:=3) lD.nd rfl fo (bV (aH bx (aH (cD bt (by rfl) T.b.dM cJ (aH (bj (pv 0) rfl) ao)) ao)))) (aw (lA dz rfl (dC (bj (pv 0) rfl)) (bQ (i:=4) lD.nd rfl fo) (aF (iC (oh bP mz mB wg (pv 3) (aH (dk (pv 4) T.rel.cl (vM T) hr.mono) ao))))) (aF (aX (pv 3))))),?_⟩;refine aZ ?_;refine⟨_,rfl,hs,A.cP,dx,_,_,rfl,S.ins,T.cP.cl,T.cP.fS,d5,rl,_,rfl,.inl (bD.of S.lst),by show 2<=az;decide,λL hL=>?_⟩;refine b8 ?_;have s0:aS H (upd H L (.lst [.int 0,.int (iJ gx).length])):=aB hL;refine aZ ?_;refine⟨_,rfl,hs,A.cP,dx,_,_,rfl,s0 _ _ S.ins,T.cP.cl,T.cP.fS,d5,rl,rfl,⟨_,bD.of (s0 _ _ S.lst)⟩,lZ (K:=K) (a:=rl) (xs:=iJ gx) (λi σ H'=>(∃v4:Option V,σ=[some (.ref hs),some (.ref d),some (.ref e),some (.ref L),v4])/\aS H H'/\H' L=some (.lst (jN (0::(h.releases.length:Int)::(h.releases.take i).flatMap mH)))) ⟨⟨_,rfl⟩,s0,by rw[ag,ck,OR,wD];rfl⟩ (λi σ H' _ p=>bD.of (p.2.1 _ _ S.lst)) ?_ ?_⟩
  ·rintro i xv σ H' hi ⟨⟨v4,rfl⟩,s1,yF⟩;obtain⟨za,hza,rfl⟩:=kh hi;obtain⟨z,hzi,Nz⟩:=Paired.vH Z1 hza;obtain⟨q,hqi,Mn⟩:=Jp X.rl hzi;have GP:=Nz.mono s1;obtain⟨Au,ll,ld,z1,z2,z3⟩:=id GP;have et:h.releases.take (i+1)=h.releases.take i++[q]:=by rw[dq,hqi];rfl
   have WG:=lvl z (aL hzi);have hri:=ZE i;refine⟨_,rfl,.inl ⟨rfl,_,bD.of yF⟩,_,rfl,za,Au,_,rfl,z1,qC,za,z,rfl,GP,ak WG (by decide),λD H2 hD s2 e2=>?_⟩;refine⟨L,D,_,_,rfl,rfl,s2 _ _ yF,e2,?_,⟨_,rfl⟩,mw (s1.trans s2) hL,?_⟩
   ·rw[eh,gH,aV,aV,aO];show _+1+1+(z.levels.length+4)<=az;exact cT (dB (by omega))
   ·rw[ag,et,gj,<-i7,<-z7 Mn];unfold jN;simp
  ·rintro σ H' ⟨⟨v4,rfl⟩,s1,yF⟩;rw[bH (by rw[ck];omega)] at yF;exact⟨_,rfl,k L H' (Ans.same S0 s1 hL yF)⟩
end
end Bp
namespace Bp
open PySem PySem.Spec PyProof.Rows L2 Bm
open Vbslai (within nums rowOf cellsRow)
theorem rL{H:Hp}{e:af}{row:List Int}(he:H e=some (.lst (jN row)))(lz:row=(bz row).map λ(n:Nat)=>(n:Int)):H e=some (.lst (gP (bz row))):=by rw[he,<-i7];exact congrArg (λz=>some (HO.lst (jN z))) lz
theorem Ri{cs:List bw}{rows:List fW}{ls:List Nat}{k u:Nat}(nd:(rows.map (·.who)).Nodup){r:fW}(hr:r∈rows):((ik cs rows ls k u).lk.lookup r.who).isSome=classOk (aE cs ls) rows k u (aE cs ls r):=by
 rw[(oB (cs:=cs) (ls:=ls) (k:=k) (u:=u) nd).isSome r.who];have:=wq (cs:=cs) (ls:=ls) (k:=k) (u:=u) nd hr
 cases h:classOk (aE cs ls) rows k u (aE cs ls r) with
 |true=>rw[h] at this;simpa using this.mpr rfl
 |false=>rw[h] at this;have n:¬r.who∈(cA cs rows ls k u).has:=λq=>bK (this.mp q);simpa using n
section
variable{P:bo}{w:bM}{K:ah}{mg:Str->Option aj}{base:cu}{A:Cl}{Pt:af}
theorem ET(T:Txt K mg A):Def P w K mg base "answer_show" 4 ["house","numbers","levels"] (Mo K A Pt (λns row=>(∃x,ns=[x])/\row.length<=100) λns row=>.show_ (ns.getD 0 0) row):=by
 refine T.ko.Kq.ok mq (λvs H Q E h=>?_) (λf eC A' outer s H vs Q E hr h=>?_)
 ·obtain⟨hs,d,e,g,M,h,fm,ns,row,rfl,_⟩:=h;rfl
 ·obtain⟨hs,d,e,g,M,h,fm,ns,row,rfl,S0,hf,hd,he,⟨⟨x,rfl⟩,hp⟩,k⟩:=h;obtain⟨dx,rd,rl,l,gx,zs,fv,S⟩:=id S0;have X:=S.form hf;obtain⟨fa,rfl,F0⟩:=X.ex;have F1:=F0.mono (bU _ _);obtain⟨ur,lc,lv,as,f1,f2,f3,f4⟩:=id F1;have qB:=(cY he).2;have hu:=tm hr;have gu:bT h (.show_ x row)=if Fz fm.columns row=false then(h,[-1]) else(match rowOf h x with
    |none=>(h,[-4])
    |some r=>(h,0::cellsRow (aE fm.columns (bz row) r))):=by
   show bG h _=_;unfold bG;rw[hf];rfl
  have n9:bT h (.show_ (([x]:List Int).getD 0 0) row)=_:=gu;rw[n9] at k;have hv:=sX x l;rw[S.rows] at hv;refine⟨_,(aw (bZ (i:=3) mq.nd rfl fo (eG cO (pv 1) bx (λ_ _=>rfl))) (aw (dj (gB (fQ (cg (bj (pv 0) rfl) T.fZ.cl (iX T) hr.mono (aH (pv 2) ao)))) (aF (aX (bV (aH (cU T.k.gW rfl) ao)))) bO) (aw (dj (x4 (oK hu (pv 3) (bj (pv 0) rfl))) (aF (aX (bV (aH (cU T.k.pf rfl) ao)))) bO) (aw (bZ (i:=4) mq.nd rfl fo (bV (aH bx ao))) (aw (lA dz rfl (X7 (cg (bj (pv 0) rfl) T.fZ.cl (k9 T) hr.mono (aH (bj (rV hu (bj (pv 0) rfl) (pv 3) (λ_ _=>rfl)) rfl) (aH (pv 2) ao)))) (bQ (i:=5) mq.nd rfl fo) (aF (iC (oh bP mz mB wg (pv 4) (aH (bC (m7 T) hr.mono rfl (aH (pv 5) ao)) ao))))) (aF (aX (pv 4)))))))),?_⟩;refine aZ ?_;refine⟨_,rfl,d,_,_,_,rfl,rfl,bD.of hd,cG (j:=0) rfl,?_⟩;refine b8 ?_;refine aZ ?_;refine⟨_,rfl,hs,A.cP,dx,_,_,rfl,S.ins,T.cP.cl,T.cP.gD,da,fa,ur,_,rfl,f1,ij,_,rfl,fa,e,fm,row,rfl,F1,X.ok,bD.of qB,hp,λH1 s1=>⟨_,rfl,km (λq=>?_) (λq=>?_)⟩⟩
  ·rw[if_pos q] at k;exact⟨by show 1<=az;decide,λD hD=>k D _ (Ans.same S0 (s1.trans (aB hD)) (s1.free hD) (by rw[ag];rfl))⟩
  ·rw[if_neg (by rw[q];exact bK)] at k;obtain⟨Xv,lz⟩:=wu q;refine cN ?_;refine aZ ?_;have hg:jv H1 rd (.int x) (iP (t8 l) (cC x:Key)):=jv.k (k:=(cC x:Key)) (s1 _ _ S.w9);refine⟨_,rfl,_,rfl,hs,A.cP,dx,_,_,rfl,s1 _ _ S.ins,T.cP.cl,T.cP.jV,fu,rd,_,rfl,hg,_,rfl,?_⟩
   cases er:rowOf h x with
   |none=>rw[er] at k;have BX:h.rows.find? (λr=>(r.who:Int)==x)=none:=er;rw[BX] at hv;have uH:iP (t8 l) (cC x:Key)=none:=hv;rw[uH];exact kC ⟨by show 1<=az;decide,λD hD=>k D _ (Ans.same S0 (s1.trans (aB hD)) (s1.free hD) (by rw[ag];rfl))⟩
   |some r=>
    rw[er] at k;have BX:h.rows.find? (λr=>(r.who:Int)==x)=some r:=er;rw[BX] at hv;obtain⟨a,IV,uH,hw⟩:=hv;rw[uH] at hg⊢;refine kK ?_;refine cN ?_;have R1:gr A fm.columns H l:=X.rows.mono (bU _ _);have hcr:=X.rows.cells _ IV;obtain⟨Ug,lr,r1,r2⟩:=R1.at' _ IV;refine aZ ?_;refine⟨by show 1<=az;decide,λL hL=>?_⟩;refine b8 ?_;have s2:=s1.trans (aB (o:=HO.lst [V.int 0]) hL);have K2:H L=none:=s1.free hL;have hg2:jv (upd H1 L (.lst [.int 0])) rd (.int x) (some (.ref a)):=by rw[<-uH];exact jv.k (k:=(cC x:Key)) (s2 _ _ S.w9)
    refine aZ ?_;refine⟨_,rfl,hs,A.cP,dx,_,_,rfl,s2 _ _ S.ins,T.cP.cl,T.cP.gD,da,fa,ur,_,rfl,s2 _ _ f1,jJ,_,rfl,hs,A.cP,dx,_,_,rfl,s2 _ _ S.ins,T.cP.cl,T.cP.jV,fu,_,rfl,rd,_,rfl,hg2,a,A.row,Ug,_,_,rfl,s2 _ _ r1,T.row.cl,T.row.zz,qh,_,rfl,fa,lr,e,fm,r.cells,bz row,rfl,F1.mono s2,X.ok,bD.of (s2 _ _ r2),bD.of (rL (s2 _ _ qB) lz),hcr,Xv,λt H3 ht s3 e3=>⟨t,rfl,⟨_,nj.of e3⟩,?_⟩⟩;rw[NL] at e3;have hlk:=me (r:=r) Xv.1 hcr.1;have RD:=X.ok.len;have wD:=CV X.ok (ls:=bz row) hcr;have ZE:∀i,(((aE fm.columns (bz row) r).take i).flatMap Aw).length<=100:=λi=>by have h1:=pF (f:=Aw) (B:=11) ((aE fm.columns (bz row) r).take i) (λq hq=>by have:=wD q (kT hq);unfold Aw nums;rw[aV,aa];omega);rw[cK] at h1;have:min i (aE fm.columns (bz row) r).length*11<=4*11:=d7 _ (by omega);omega
    refine Vw (K:=K) (a:=t) (xs:=eO (aE fm.columns (bz row) r)) (λi σ H'=>(∃v5:Option V,σ=[some (.ref hs),some (.ref d),some (.ref e),some (.int x),some (.ref L),v5])/\aS H H'/\H' t=some (.tup (eO (aE fm.columns (bz row) r)))/\H' L=some (.lst (jN (0::((aE fm.columns (bz row) r).take i).flatMap Aw))))
     ⟨⟨_,rfl⟩,s2.trans s3,e3,s3 _ _ ag⟩ (λi σ H' _ p=>nj.of p.2.2.1) ?_ ?_
    ·rintro i xv σ H' hi ⟨⟨v5,rfl⟩,s4,ht4,yF⟩;have hi2:∃y,(aE fm.columns (bz row) r)[i]? =some y/\xv=.str (sN y):=by
      unfold eO at hi;rw[aU] at hi
      cases q2:(aE fm.columns (bz row) r)[i]? with
      |none=>rw[q2] at hi;cases hi
      |some y=>rw[q2] at hi;exact⟨y,rfl,(aW hi).symm⟩
     obtain⟨y,hy,rfl⟩:=hi2;have Vc:=wD y (aL hy);have et:(aE fm.columns (bz row) r).take (i+1)=(aE fm.columns (bz row) r).take i++[y]:=by rw[dq,hy];rfl
     have hri:=ZE i;refine⟨_,rfl,.inl ⟨rfl,_,bD.of yF⟩,_,rfl,y,rfl,dB (by omega),λD H5 hD s5 e5=>?_⟩;refine⟨L,D,_,_,rfl,rfl,s5 _ _ yF,e5,?_,⟨_,rfl⟩,mw (s4.trans s5) K2,?_,?_⟩
     ·rw[eh,gH,aV,aV];exact cT (dB (by omega))
     ·rw[ax (gA ht4 yF (λz=>nomatch z))];exact s5 _ _ ht4
     ·rw[ag,et,gj,<-i7];unfold jN;simp;rfl
    ·rintro σ H' ⟨⟨v5,rfl⟩,s4,ht4,yF⟩;rw[bH (by rw[d9];exact aJ _)] at yF;exact⟨_,rfl,k L H' (Ans.same S0 s4 K2 yF)⟩
theorem Cw(T:Txt K mg A):Def P w K mg base "answer_alike" 5 ["house","numbers","levels"] (Mo K A Pt (λns row=>(∃x,ns=[x])/\row.length<=100) λns row=>.alike (ns.getD 0 0) row):=by
 refine T.ko.Ik.ok n8 (λvs H Q E h=>?_) (λf eC A' outer s H vs Q E hr h=>?_)
 ·obtain⟨hs,d,e,g,M,h,fm,ns,row,rfl,_⟩:=h;rfl
 ·obtain⟨hs,d,e,g,M,h,fm,ns,row,rfl,S0,hf,hd,he,⟨⟨x,rfl⟩,hp⟩,k⟩:=h;obtain⟨dx,rd,rl,l,gx,zs,fv,S⟩:=id S0;have X:=S.form hf;obtain⟨fa,rfl,F0⟩:=X.ex;have F1:=F0.mono (bU _ _);obtain⟨ur,lc,lv,as,f1,f2,f3,f4⟩:=id F1;have qB:=(cY he).2;have hu:=tm hr;have gu:bT h (.alike x row)=if Fz fm.columns row=false then(h,[-1]) else(match rowOf h x with
    |none=>(h,[-4])
    |some r=>(h,0::nums [(amc fm.columns (bz row) h.rows r).length,(Av (amc fm.columns (bz row) h.rows r)).length])):=by
   show bG h _=_;unfold bG;rw[hf];rfl
  have n9:bT h (.alike (([x]:List Int).getD 0 0) row)=_:=gu;rw[n9] at k;have hv:=sX x l;rw[S.rows] at hv;refine⟨_,(aw (bZ (i:=3) n8.nd rfl fo (eG cO (pv 1) bx (λ_ _=>rfl))) (aw (dj (gB (fQ (cg (bj (pv 0) rfl) T.fZ.cl (iX T) hr.mono (aH (pv 2) ao)))) (aF (aX (bV (aH (cU T.k.gW rfl) ao)))) bO) (aw (dj (x4 (oK hu (pv 3) (bj (pv 0) rfl))) (aF (aX (bV (aH (cU T.k.pf rfl) ao)))) bO) (aw (bZ (i:=4) n8.nd rfl fo (bC (Lp T) hr.mono rfl (aH (bj (pv 0) rfl) (aH (dk (pv 0) T.cP.cl (eP T) hr.mono) (aH (rV hu (bj (pv 0) rfl) (pv 3) (λ_ _=>rfl)) (aH (pv 2) ao)))))) (aF (aX (bV (aH bx (aH (cD bt (by rfl) T.b.dM cJ (aH (pv 4) ao)) (aH (bC (mv T) hr.mono rfl (aH (pv 4) ao)) ao)))))))))),?_⟩;refine aZ ?_;refine⟨_,rfl,d,_,_,_,rfl,rfl,bD.of hd,cG (j:=0) rfl,?_⟩;refine b8 ?_;refine aZ ?_;refine⟨_,rfl,hs,A.cP,dx,_,_,rfl,S.ins,T.cP.cl,T.cP.gD,da,fa,ur,_,rfl,f1,ij,_,rfl,fa,e,fm,row,rfl,F1,X.ok,bD.of qB,hp,λH1 s1=>⟨_,rfl,km (λq=>?_) (λq=>?_)⟩⟩
  ·rw[if_pos q] at k;exact⟨by show 1<=az;decide,λD hD=>k D _ (Ans.same S0 (s1.trans (aB hD)) (s1.free hD) (by rw[ag];rfl))⟩
  ·rw[if_neg (by rw[q];exact bK)] at k;obtain⟨Xv,lz⟩:=wu q;refine cN ?_;refine aZ ?_;have hg:jv H1 rd (.int x) (iP (t8 l) (cC x:Key)):=jv.k (k:=(cC x:Key)) (s1 _ _ S.w9);refine⟨_,rfl,_,rfl,hs,A.cP,dx,_,_,rfl,s1 _ _ S.ins,T.cP.cl,T.cP.jV,fu,rd,_,rfl,hg,_,rfl,?_⟩
   cases er:rowOf h x with
   |none=>rw[er] at k;have BX:h.rows.find? (λr=>(r.who:Int)==x)=none:=er;rw[BX] at hv;have uH:iP (t8 l) (cC x:Key)=none:=hv;rw[uH];exact kC ⟨by show 1<=az;decide,λD hD=>k D _ (Ans.same S0 (s1.trans (aB hD)) (s1.free hD) (by rw[ag];rfl))⟩
   |some r=>
    rw[er] at k;have BX:h.rows.find? (λr=>(r.who:Int)==x)=some r:=er;rw[BX] at hv;obtain⟨a,IV,uH,hw⟩:=hv;rw[uH];refine kK ?_;refine cN ?_;have R1:gr A fm.columns H1 l:=(X.rows.mono (bU _ _)).mono s1;refine aZ ?_;refine⟨_,rfl,hs,A.cP,dx,_,_,rfl,s1 _ _ S.ins,T.cP.cl,T.cP.gD,da,_,rfl,hs,dx,_,rfl,s1 _ _ S.ins,dS,hs,dx,rd,_,_,_,rfl,s1 _ _ S.ins,s1 _ _ S.w9,λD1 H2 Zd s2 e2=>?_⟩;have e2':H2 D1=some (.lst (pB l)):=by rw[e2];unfold t8 pB;rw[aP];rfl
    have yT:=s1.trans s2;have hg2:jv H2 rd (.int x) (some (.ref a)):=by rw[<-uH];exact jv.k (k:=(cC x:Key)) (yT _ _ S.w9)
    refine⟨_,rfl,hs,A.cP,dx,_,_,rfl,yT _ _ S.ins,T.cP.cl,T.cP.jV,fu,_,rfl,rd,_,rfl,hg2,_,rfl,fa,D1,e,fm,l,(a,r),bz row,rfl,F1.mono yT,X.ok,e2',R1.mono s2,IV,bD.of (rL (yT _ _ qB) lz),Xv,λD2 H3 BR s3 e3=>?_⟩;obtain⟨m,hm⟩:∃m,m=l.filter λy=>aE fm.columns (bz row) y.2==aE fm.columns (bz row) r:=⟨_,rfl⟩;rw[<-hm] at e3;have RJ:H3 D2=some (.lst (iJ (m.map (·.1)))):=by rw[e3,wA]
    have Rm:gr A fm.columns H3 m:=by rw[hm];exact((R1.mono s2).mono s3).sub fk
    have uB:amc fm.columns (bz row) h.rows r=m.map (·.2):=by unfold amc;rw[yf,hm,ib (λy:fW=>aE fm.columns (bz row) y==aE fm.columns (bz row) r),S.rows]
    refine b8 ?_;refine⟨_,rfl,D2,_,rfl,.inl (bD.of RJ),_,rfl,D2,_,_,rfl,RJ,Rm.rows,by rw[aa];exact ak Rm.len (by decide),λH4 s4=>⟨by show 3<=az;decide,λD hD=>k D _ (Ans.same S0 (((yT.trans s3).trans s4).trans (aB hD)) (yT.free (s3.free (s4.free hD))) ?_)⟩⟩;rw[ag,show∀a b:Nat,(0:Int)::nums [a,b]=nums [0,a,b] fromλ_ _=>rfl,i7,uB,ck,aa,aa];rfl
theorem Cy(T:Txt K mg A):Def P w K mg base "answer_short" 6 ["house","numbers","levels"] (Mo K A Pt (λns row=>(∃x u,ns=[x,u])/\row.length<=100) λns row=>.short (ns.getD 0 0) (ns.getD 1 0) row):=by
 refine T.ko.Il.ok gK (λvs H Q E h=>?_) (λf eC A' outer s H vs Q E hr h=>?_)
 ·obtain⟨hs,d,e,g,M,h,fm,ns,row,rfl,_⟩:=h;rfl
 ·obtain⟨hs,d,e,g,M,h,fm,ns,row,rfl,S0,hf,hd,he,⟨⟨x,u,rfl⟩,hp⟩,k⟩:=h;obtain⟨dx,rd,rl,l,gx,zs,fv,S⟩:=id S0;have X:=S.form hf;obtain⟨fa,rfl,F0⟩:=X.ex;have F1:=F0.mono (bU _ _);obtain⟨ur,lc,lv,as,f1,f2,f3,f4⟩:=id F1;have qB:=(cY he).2;have gu:bT h (.short x u row)=if(within x 1 40&&(within u 1 12&&Fz fm.columns row))=false then(h,[-1]) else(h,0::((aa8 fm.columns (bz row) x.toNat u.toNat h.rows).length:Int)::(aa8 fm.columns (bz row) x.toNat u.toNat h.rows).map λr=>(r.who:Int)):=by show bG h _=_;unfold bG;rw[hf];rfl
  have n9:bT h (.short (([x,u]:List Int).getD 0 0) (([x,u]:List Int).getD 1 0) row)=_:=gu;rw[n9] at k;have ref:(within x 1 40&&(within u 1 12&&Fz fm.columns row))=false->∀D H',aS H H'->H D=none->H' D=some (.lst (jN [-1]))->Q (.ref D) H':=λq D H' s1 hD e1=>by rw[if_pos q] at k;exact k D H' (Ans.same S0 s1 hD e1)
  refine⟨_,(aw (bZ (i:=3) gK.nd rfl fo (eG cO (pv 1) bx (λ_ _=>rfl))) (aw (bZ (i:=4) gK.nd rfl fo (eG cO (pv 1) bx (λ_ _=>rfl))) (aw (dj (PW.pt (qP (gB (fQ (bC (my T) hr.mono rfl (aH (pv 3) (aH (pv 4) ao))))) (nZ (gB (fQ (cg (bj (pv 0) rfl) T.fZ.cl (iX T) hr.mono (aH (pv 2) ao))))))) (aF (aX (bV (aH (cU T.k.gW rfl) ao)))) bO) (aw (bZ (i:=5) gK.nd rfl fo (dk (pv 0) T.cP.cl (eP T) hr.mono)) (aw (bZ (i:=6) gK.nd rfl fo (bC (xQ T) hr.mono rfl (aH (bj (pv 0) rfl) (aH (pv 5) (aH (pv 2) (aH (pv 3) (aH (pv 4) ao))))))) (aw (C7 (i:=7) rfl gK.nd rfl rfl (HN rfl rfl rfl (by decide+kernel)) (own:=[("row",8)]) (dC (pv 5)) (cM (by kernel_rfl)) (λ_ _ _ _ _=>(bQ (i:=8) gK.nd rfl fo)) (λ_ _ _ _ _=>(rU (gB (fQ (cg (pv 6) T.rel.cl (sU T) hr.mono (aH (pv 8) ao)))))) (λ_ _ _ _ _=>(kg (K:=K) rfl (pv 8) rfl))) (aF (aX (fh jD (bV (aH bx (aH (cD bt (by rfl) T.b.dM cJ (aH (pv 7) ao)) ao))) (pv 7)))))))))),?_⟩;refine aZ ?_;refine⟨_,rfl,d,_,_,_,rfl,rfl,bD.of hd,cG (j:=0) rfl,?_⟩;refine b8 ?_;refine aZ ?_;refine⟨_,rfl,d,_,_,_,rfl,rfl,bD.of hd,cG (j:=1) rfl,?_⟩;refine b8 ?_;refine aZ ?_;refine⟨_,rfl,_,rfl,x,u,rfl,_,rfl,km (λq1=>kC ?_) (λq1=>?_)⟩
  ·refine⟨by show 1<=az;decide,λD hD=>ref ?_ D _ (aB hD) hD ag⟩;rw[<-nW,q1];rfl
  ·refine⟨_,rfl,hs,A.cP,dx,_,_,rfl,S.ins,T.cP.cl,T.cP.gD,da,fa,ur,_,rfl,f1,ij,_,rfl,fa,e,fm,row,rfl,F1,X.ok,bD.of qB,hp,λH1 s1=>⟨_,rfl,km (λq=>?_) (λq=>?_)⟩⟩
   ·refine⟨by show 1<=az;decide,λD hD=>ref ?_ D _ (s1.trans (aB hD)) (s1.free hD) ag⟩;rw[<-nW,q,iI]
   ·rw[if_neg (by rw[<-nW,q1,q];exact bK)] at k;obtain⟨Xv,lz⟩:=wu q;rw[aK,h9,h9] at q1;have ex:x=((x.toNat:Nat):Int):=by omega
    have eu:u=((u.toNat:Nat):Int):=by omega
    refine cN ?_;refine aZ ?_;refine⟨_,rfl,hs,dx,_,rfl,s1 _ _ S.ins,dS,hs,dx,rd,_,_,_,rfl,s1 _ _ S.ins,s1 _ _ S.w9,λD1 H2 Zd s2 e2=>?_⟩;have e2':H2 D1=some (.lst (pB l)):=by rw[e2];unfold t8 pB;rw[aP];rfl
    have yT:=s1.trans s2;have R2:gr A fm.columns H2 l:=(X.rows.mono (bU _ _)).mono yT;refine b8 ?_;refine aZ ?_;refine⟨_,rfl,hs,A.cP,dx,_,_,rfl,yT _ _ S.ins,T.cP.cl,T.cP.gD,da,_,rfl,_,rfl,_,rfl,_,rfl,fa,D1,e,fm,l,bz row,x.toNat,u.toNat,[],by rw[<-ex,<-eu];rfl,F1.mono yT,X.ok,e2',R2,S.ndl,(λm hm=>nomatch hm),by rw[sO];exact rL (yT _ _ qB) lz,Xv,λz H3 hz s3 Z3=>?_⟩;rw[sO] at Z3;have z8:=yT.trans s3;obtain⟨Au,ll,ld,z1,z2,z3⟩:=id Z3;refine b8 ?_;refine aZ ?_;refine IC ?_;refine fw ?_;refine⟨_,rfl,D1,rfl,⟨_,bD.of (s3 _ _ e2')⟩,?_⟩;have R3:=R2.mono s3;refine lF (enc:=λp:PR=>V.ref p.1) (f:=λp=>V.int (p.2.who:Nat)) (p:=λp=>!((ik fm.columns (l.map (·.2)) (bz row) x.toNat u.toNat).lk.lookup p.2.who).isSome) (bD.of (s3 _ _ e2')) (ak R3.len (by decide)) (λi y H' R S' hi k' hR hS=>?_) (λD H' hD QD Wl=>?_)
    ·have hy:=(R3.at' y (aL hi)).mono k';obtain⟨Ug,lr,r1,r2⟩:=id hy;refine⟨rfl,_,rfl,z,Au,_,rfl,k' _ _ z1,oE,_,rfl,z,y.1,_,y.2,rfl,Z3.mono k',hy,_,rfl,km (λq3=>⟨_,rfl,y.1,A.row,Ug,_,_,rfl,r1,T.row.cl,T.row.oN,kM,hR ?_ _ (aS.refl _)⟩) (λq3=>hS ?_ _ (aS.refl _))⟩
     ·rw[q3];rfl
     ·rw[q3];rfl
    ·have adb:(l.filter λp=>!((ik fm.columns (l.map (·.2)) (bz row) x.toNat u.toNat).lk.lookup p.2.who).isSome).map (·.2)=aa8 fm.columns (bz row) x.toNat u.toNat h.rows:=by rw[ib (λr:fW=>!((ik fm.columns (l.map (·.2)) (bz row) x.toNat u.toNat).lk.lookup r.who).isSome),AM,S.rows];refine gX λr hr=>?_;rw[Ri S.nd hr]
     obtain⟨m,hm⟩:∃m,m=l.filter λp=>!((ik fm.columns (l.map (·.2)) (bz row) x.toNat u.toNat).lk.lookup p.2.who).isSome:=⟨_,rfl⟩;rw[<-hm] at Wl adb;have Xp:m.length<=40:=by rw[hm];exact ak (dO _ _) R3.len
     refine b8 ?_;refine iW ?_;refine⟨_,rfl,D,_,rfl,.inl (bD.of Wl),by show 2<=az;decide,λy hy=>⟨_,rfl,y,D,_,_,rfl,rfl,ag,aB hy _ _ Wl,?_,λv hv=>k v _ (Ans.same S0 (((z8.trans QD).trans (aB hy)).trans (aB hv)) (z8.free (QD.free ((aB hy).free hv))) ?_)⟩⟩
     ·rw[aa];show 2+m.length<=az;exact cT (dB (by omega))
     ·rw[ag,<-adb,aa,aa,aP];unfold jN;rw[bp,bp,aP];rfl
end
end Bp
namespace Bp
open PySem PySem.Spec PyProof.Rows L2 Bm
open Vbslai (within rowOf released)
theorem Rj{cs:List bw}{rows L3:List fW}{z:Rl}{q:fN}(h:yh cs rows z q)(k:∀r∈L3,r.who∈q.has->r∈rows):yh cs L3 z q:=⟨h.lv,h.k,h.u,h.left,h.nd,h.Ve,h.mem,λr hr hh=>h.look r (k r hr hh) hh⟩
theorem EU{cs:List bw}{rows L3:List fW}:∀{zs:List Rl}{qs:List fN},jU cs rows zs qs->(∀q∈qs,∀r∈L3,r.who∈q.has->r∈rows)->jU cs L3 zs qs
 |_,_,.nil,_=>.nil
 |_,_,.cons h t,k=>.cons (Rj h (k _ (.head _))) (EU t λq hq=>k q (.tail _ hq))
theorem BY{cs:List bw}{rows:List fW}(r:fW):∀{zs:List Rl}{qs:List fN},jU cs rows zs qs->(zs.any λz=>(z.lk.lookup r.who).isSome)=qs.any λq=>q.has.any λw=>(w:Int)==(r.who:Int)
 |_,_,.nil=>rfl
 |_,_,.cons h t=>by
  rw[iu,iu,BY r t,h.isSome r.who];congr 1;rw[mI,GG];simp;constructor
  ·intro q;exact⟨_,q,rfl⟩
  ·rintro⟨x,hx,e⟩;have:x=r.who:=by omega
   rw[<-this];exact hx
section
variable{A:Cl}{Pt g hs dx rd rl:af}{M:List af}{H H':Hp}{h:lI}{l:List PR}{gx:List af}{zs:List Rl}{fv:V}
theorem qF.dput{h':lI}{l':List PR}{f:dY}(S:qF A Pt g M H hs h dx rd rl l gx zs fv)(hf:h.form=some f)(e:aS H H')(hr:l'.map (·.2)=h'.rows)(Ve:(h'.rows.map (·.who)).Nodup)(hff:h'.form=some f)(WH:h'.releases=h.releases)(ade:gr A f.columns (cut H' M) l')(hk:∀q∈h.releases,∀r∈h'.rows,r.who∈q.has->r∈h.rows)(hw:∀w∈h.rows.map (·.who),w∈h'.rows.map (·.who)):qF A Pt g M (upd H' rd (.dK (t8 l'))) hs h' dx rd rl l' gx zs fv:=by
 have X:=S.form hf;have ec:cut (upd H' rd (.dK (t8 l'))) M=cut H' M:=sm S.dm;have hd:=e _ _ S.w9;refine⟨(S.tr.mono e).upd (λ_ z=>nomatch z),S.pm,S.gm,S.hm,S.dm,S.lm,S.gh,S.gd,S.gl,S.gp,(S.tg.mono e).ac7 hd (λ_ z=>nomatch z) (λ_ z=>nomatch z),?_,ag,?_,hr,Ve,?_,S.Rf,?_⟩
 ·rw[ax (gA (e _ _ S.ins) hd (λz=>nomatch z))];exact e _ _ S.ins
 ·rw[ax (gA (e _ _ S.lst) hd (λz=>nomatch z))];exact e _ _ S.lst
 ·rw[ec];exact gN.mono (dJ e) S.xj
 ·rw[hff];refine⟨?_,X.ok,by rw[ec];exact ade,?_,X.lv,?_⟩
  ·obtain⟨fa,a,b⟩:=X.ex;exact⟨fa,a,by rw[ec];exact b.mono (dJ e)⟩
  ·rw[WH];exact EU X.rl hk
  ·rw[WH];exactλq hq w WI=>hw w (X.has q hq w WI)
end
theorem L4{f:dY}{w s:Int}{row:List Int}(q:(within w 0 999&&(Vr f s&&Mv f.columns row))=true):w=((w.toNat:Nat):Int)/\s=((s.toNat:Nat):Int)/\yj f.columns (bz row)/\row=(bz row).map λ(n:Nat)=>(n:Int):=by rw[aK,aK,h9] at q;obtain⟨h1,h2,h3⟩:=q;unfold pO at h2;rw[h9] at h2;obtain⟨h4,h5⟩:=Tf h3;exact⟨by omega,by omega,h4,h5⟩
section
variable{P:bo}{w:bM}{K:ah}{mg:Str->Option aj}{base:cu}{A:Cl}{Pt:af}
theorem z9(T:Txt K mg A):Def P w K mg base "answer_sleeper" 4 ["house","numbers","cells"] (Mo K A Pt (λns row=>(∃x u,ns=[x,u])/\row.length<=100) λns row=>.sleeper (ns.getD 0 0) (ns.getD 1 0) row):=by
 refine T.ko.DY.ok mn (λvs H Q E h=>?_) (λf eC A' outer s H vs Q E hr h=>?_)
 ·obtain⟨hs,d,e,g,M,h,fm,ns,row,rfl,_⟩:=h;rfl
 ·obtain⟨hs,d,e,g,M,h,fm,ns,row,rfl,S0,hf,hd,he,⟨⟨x,u,rfl⟩,hp⟩,k⟩:=h;obtain⟨dx,rd,rl,l,gx,zs,fv,S⟩:=id S0;have X:=S.form hf;obtain⟨fa,rfl,F0⟩:=X.ex;have F1:=F0.mono (bU _ _);have qB:=(cY he).2;have hu:=tm hr;have gu:bT h (.sleeper x u row)=if(within x 0 999&&(Vr fm u&&Mv fm.columns row))=false then(h,[-1]) else if(rowOf h x).isSome=true then(h,[-5]) else if 40<=h.rows.length then(h,[-6]) else({h with rows:=h.rows++[{who:=x.toNat,cells:=bz row,secret:=u.toNat}]},[0]):=by show bG h _=_;unfold bG;rw[hf];rfl
  have n9:bT h (.sleeper (([x,u]:List Int).getD 0 0) (([x,u]:List Int).getD 1 0) row)=_:=gu;rw[n9] at k;have hv:=sX x l;rw[S.rows] at hv;have Pp:l.length=h.rows.length:=by rw[<-S.rows,aa]
  have adf:=X.rows.len;refine⟨_,(aw (bZ (i:=3) mn.nd rfl fo (eG cO (pv 1) bx (λ_ _=>rfl))) (aw (bZ (i:=4) mn.nd rfl fo (eG cO (pv 1) bx (λ_ _=>rfl))) (aw (dj (gB (fQ (bC (qw T) hr.mono rfl (aH (bj (pv 0) rfl) (aH (pv 3) (aH (pv 4) (aH (pv 2) ao))))))) (aF (aX (bV (aH (cU T.k.gW rfl) ao)))) bO) (aw (dj (x4 (Sy hu (pv 3) (bj (pv 0) rfl))) (aF (aX (bV (aH (cU T.k.Xe rfl) ao)))) bO) (aw (dj (cB ji (cD qV (by rfl) T.b.dM cJ (aH (bj (pv 0) rfl) ao)) (cU T.k.Gb rfl) (cx _)) (aF (aX (bV (aH (cU T.k.ab3 rfl) ao)))) bO) (aw (CK hu (bj (pv 0) rfl) (pv 3) (nu (BS T) hr.mono rfl (aH (pv 3) (aH (pv 4) (aH (pv 2) ao)))) rfl) (aF (aX (bV (aH bx ao)))))))))),?_⟩;refine aZ ?_;refine⟨_,rfl,d,_,_,_,rfl,rfl,bD.of hd,cG (j:=0) rfl,?_⟩;refine b8 ?_;refine aZ ?_;refine⟨_,rfl,d,_,_,_,rfl,rfl,bD.of hd,cG (j:=1) rfl,?_⟩;refine b8 ?_;refine aZ ?_;refine⟨_,rfl,hs,A.cP,dx,_,_,rfl,S.ins,T.cP.cl,T.cP.gD,da,_,rfl,_,rfl,_,rfl,fa,e,fm,x,u,row,rfl,F1,X.ok,bD.of qB,hp,λH1 s1=>⟨_,rfl,km (λq=>?_) (λq=>?_)⟩⟩
  ·rw[if_pos q] at k;exact⟨by show 1<=az;decide,λD hD=>k D _ (Ans.same S0 (s1.trans (aB hD)) (s1.free hD) (by rw[ag];rfl))⟩
  ·rw[if_neg (by rw[q];exact bK)] at k;obtain⟨ex,eu,Fs,cz⟩:=L4 q;refine cN ?_;refine aZ ?_;have hg:jv H1 rd (.int x) (iP (t8 l) (cC x:Key)):=jv.k (k:=(cC x:Key)) (s1 _ _ S.w9);refine⟨_,rfl,_,rfl,hs,A.cP,dx,_,_,rfl,s1 _ _ S.ins,T.cP.cl,T.cP.jV,fu,rd,_,rfl,hg,_,rfl,?_⟩
   cases er:rowOf h x with
   |some r=>rw[er,if_pos (show(some r:Option fW).isSome=true from rfl)] at k;have BX:h.rows.find? (λr=>(r.who:Int)==x)=some r:=er;rw[BX] at hv;obtain⟨a,IV,uH,hw⟩:=hv;rw[uH];exact kC ⟨by show 1<=az;decide,λD hD=>k D _ (Ans.same S0 (s1.trans (aB hD)) (s1.free hD) (by rw[ag];rfl))⟩
   |none=>
    rw[er,if_neg (show¬(none:Option fW).isSome=true fromλz=>nomatch z)] at k;have BX:h.rows.find? (λr=>(r.who:Int)==x)=none:=er;rw[BX] at hv;have uH:iP (t8 l) (cC x:Key)=none:=hv;rw[uH];refine kK ?_;refine cN ?_;refine aZ ?_;refine⟨_,rfl,hs,A.cP,dx,_,_,rfl,s1 _ _ S.ins,T.cP.cl,T.cP.jV,fu,rd,_,rfl,s1 _ _ S.w9,rfl,_,rfl,fC (λq2=>?_) (λq2=>?_)⟩
    ·have q3:40<=h.rows.length:=by
      rw[aa] at q2;injection q2 with q2
      omega
     rw[if_pos q3] at k;exact⟨by show 1<=az;decide,λD hD=>k D _ (Ans.same S0 (s1.trans (aB hD)) (s1.free hD) (by rw[ag];rfl))⟩
    ·have q3:¬40<=h.rows.length:=λz=>q2 (by
      rw[aa];have:l.length=40:=by omega
      rw[this];rfl)
     rw[if_neg q3] at k;refine cN ?_;refine aZ ?_;refine⟨_,rfl,_,rfl,_,rfl,λy dy ny nd ne=>⟨y,dy,_,_,_,rfl,ag,λH4 e4 k4=>⟨rfl,?_⟩⟩⟩;have s4:aS H1 H4:=aS.made ny nd k4;have Fv:=s1.trans s4;refine⟨_,rfl,hs,A.cP,dx,_,_,rfl,Fv _ _ S.ins,T.cP.cl,T.cP.jV,fu,_,rfl,rd,_,rfl,FN.k (k:=(cC x:Key)) (Fv _ _ S.w9) (by rw[aa];exact dB (by omega)),?_⟩;rw[C8 _ uH];have hny:H y=none:=s1.free ny;have eL:t8 l++[((cC x:Key),V.ref y)]=t8 (l++[(y,{who:=x.toNat,cells:=bz row,secret:=u.toNat})]):=by unfold t8;rw[br];show _=_++[(Ft x.toNat,V.ref y)];unfold Ft;rw[<-ex]
     rw[eL];have NZ:∀r∈h.rows,r.who≠x.toNat:=λr hr z=>by have:=mN.mp BX r hr;apply this;rw[z,<-ex];simp
     have S':qF A Pt g M (upd H4 rd (.dK (t8 (l++[(y,{who:=x.toNat,cells:=bz row,secret:=u.toNat})])))) hs {h with rows:=h.rows++[{who:=x.toNat,cells:=bz row,secret:=u.toNat}]} dx rd rl (l++[(y,{who:=x.toNat,cells:=bz row,secret:=u.toNat})]) gx zs (.ref fa):=by
      refine S.dput hf Fv (by rw[br,S.rows];rfl) ?_ hf rfl ⟨λp Hi=>?_,λp Hi=>?_,?_⟩ (λq' hq r hr hh=>?_) (λw' WI=>?_)
      ·show((h.rows++[_]).map _).Nodup;rw[br,kz];refine⟨S.nd,by simp,λa ha b hb=>?_⟩;obtain⟨r,hr,rfl⟩:=aq.mp ha;have:b=x.toNat:=by simpa using hb
       rw[this];exact NZ r hr
      ·rcases aD.mp Hi with z|z
       ·exact(X.rows.at' p z).mono (dJ Fv)
       ·have z':p=(y,{who:=x.toNat,cells:=bz row,secret:=u.toNat}):=by simpa using z
        subst z';refine⟨dy,e,?_,?_⟩
        ·rw[qr S.tr.tr hny e4];show some (HO.ins A.row dy (xK (V.int x) (V.int u) (V.ref e)))=some (HO.ins A.row dy (xK (V.int (x.toNat:Nat)) (V.int (u.toNat:Nat)) (V.ref e)));rw[<-ex,<-eu]
        ·exact rL (dJ Fv _ _ he) cz
      ·rcases aD.mp Hi with z|z
       ·exact X.rows.cells p z
       ·have z':p=(y,{who:=x.toNat,cells:=bz row,secret:=u.toNat}):=by simpa using z
        subst z';exact Fs
      ·rw[aO];show l.length+1<=40;omega
      ·rcases aD.mp hr with z|z
       ·exact z
       ·have z':r={who:=x.toNat,cells:=bz row,secret:=u.toNat}:=by simpa using z
        subst z';obtain⟨r',ZF,e'⟩:=aq.mp (X.has q' hq _ hh);exact absurd e' (NZ r' ZF)
      ·show w'∈(h.rows++[_]).map _;rw[br];exact d6 _ WI
     refine⟨by show 1<=az;decide,λD hD=>k D _ ?_⟩;obtain⟨o,ho,_⟩:=S.tr g S.gm;have Ob:H4 D=none:=by rw[ax (λz=>by rw[z,ag] at hD;cases hD)] at hD;exact hD
     refine⟨M,⟨dx,rd,rl,_,gx,zs,_,S'.mono (aB hD)⟩,?_,λb hb=>.inl hb,Fv.free Ob,ag,((cW.of Fv).upd S.dm).trans (cW.of (aB hD))⟩;have hgD:g≠D:=λz=>by rw[<-z,Fv _ _ ho] at Ob;cases Ob
     rw[ax hgD,ax S.gd.symm,ho];exact Fv _ _ ho
theorem Bi(T:Txt K mg A):Def P w K mg base "answer_change" 4 ["house","numbers","cells"] (Mo K A Pt (λns row=>(∃x u,ns=[x,u])/\row.length<=100) λns row=>.change (ns.getD 0 0) (ns.getD 1 0) row):=by
 refine T.ko.F6.ok mZ (λvs H Q E h=>?_) (λf eC A' outer s H vs Q E hr h=>?_)
 ·obtain⟨hs,d,e,g,M,h,fm,ns,row,rfl,_⟩:=h;rfl
 ·obtain⟨hs,d,e,g,M,h,fm,ns,row,rfl,S0,hf,hd,he,⟨⟨x,u,rfl⟩,hp⟩,k⟩:=h;obtain⟨dx,rd,rl,l,gx,zs,fv,S⟩:=id S0;have X:=S.form hf;obtain⟨fa,rfl,F0⟩:=X.ex;have F1:=F0.mono (bU _ _);have qB:=(cY he).2;have hu:=tm hr;have gu:bT h (.change x u row)=if(within x 0 999&&(Vr fm u&&Mv fm.columns row))=false then(h,[-1]) else if(rowOf h x).isNone=true then(h,[-4]) else if released h x=true then(h,[-5]) else({h with rows:=h.rows.map λr=>if(r.who:Int)=x then{r with cells:=bz row,secret:=u.toNat} else r},[0]):=by show bG h _=_;unfold bG;rw[hf];rfl
  have n9:bT h (.change (([x,u]:List Int).getD 0 0) (([x,u]:List Int).getD 1 0) row)=_:=gu;rw[n9] at k;have hv:=sX x l;rw[S.rows] at hv;have adf:=X.rows.len;refine⟨_,(aw (bZ (i:=3) mZ.nd rfl fo (eG cO (pv 1) bx (λ_ _=>rfl))) (aw (bZ (i:=4) mZ.nd rfl fo (eG cO (pv 1) bx (λ_ _=>rfl))) (aw (dj (gB (fQ (bC (qw T) hr.mono rfl (aH (bj (pv 0) rfl) (aH (pv 3) (aH (pv 4) (aH (pv 2) ao))))))) (aF (aX (bV (aH (cU T.k.gW rfl) ao)))) bO) (aw (dj (x4 (oK hu (pv 3) (bj (pv 0) rfl))) (aF (aX (bV (aH (cU T.k.pf rfl) ao)))) bO) (aw (dj (fQ (cg (pv 0) T.cP.cl (xi T) hr.mono (aH (rV hu (bj (pv 0) rfl) (pv 3) (λ_ _=>rfl)) ao))) (aF (aX (bV (aH (cU T.k.Xe rfl) ao)))) bO) (aw (CK hu (bj (pv 0) rfl) (pv 3) (nu (BS T) hr.mono rfl (aH (pv 3) (aH (pv 4) (aH (pv 2) ao)))) rfl) (aF (aX (bV (aH bx ao)))))))))),?_⟩;refine aZ ?_;refine⟨_,rfl,d,_,_,_,rfl,rfl,bD.of hd,cG (j:=0) rfl,?_⟩;refine b8 ?_;refine aZ ?_;refine⟨_,rfl,d,_,_,_,rfl,rfl,bD.of hd,cG (j:=1) rfl,?_⟩;refine b8 ?_;refine aZ ?_;refine⟨_,rfl,hs,A.cP,dx,_,_,rfl,S.ins,T.cP.cl,T.cP.gD,da,_,rfl,_,rfl,_,rfl,fa,e,fm,x,u,row,rfl,F1,X.ok,bD.of qB,hp,λH1 s1=>⟨_,rfl,km (λq=>?_) (λq=>?_)⟩⟩
  ·rw[if_pos q] at k;exact⟨by show 1<=az;decide,λD hD=>k D _ (Ans.same S0 (s1.trans (aB hD)) (s1.free hD) (by rw[ag];rfl))⟩
  ·rw[if_neg (by rw[q];exact bK)] at k;obtain⟨ex,eu,Fs,cz⟩:=L4 q;refine cN ?_;refine aZ ?_;have hg:jv H1 rd (.int x) (iP (t8 l) (cC x:Key)):=jv.k (k:=(cC x:Key)) (s1 _ _ S.w9);refine⟨_,rfl,_,rfl,hs,A.cP,dx,_,_,rfl,s1 _ _ S.ins,T.cP.cl,T.cP.jV,fu,rd,_,rfl,hg,_,rfl,?_⟩
   cases er:rowOf h x with
   |none=>rw[er,if_pos (show(none:Option fW).isNone=true from rfl)] at k;have BX:h.rows.find? (λr=>(r.who:Int)==x)=none:=er;rw[BX] at hv;have uH:iP (t8 l) (cC x:Key)=none:=hv;rw[uH];exact kC ⟨by show 1<=az;decide,λD hD=>k D _ (Ans.same S0 (s1.trans (aB hD)) (s1.free hD) (by rw[ag];rfl))⟩
   |some r=>
    rw[er,if_neg (show¬(some r:Option fW).isNone=true fromλz=>nomatch z)] at k;have BX:h.rows.find? (λr=>(r.who:Int)==x)=some r:=er;rw[BX] at hv;obtain⟨a,IV,uH,hw⟩:=hv;rw[uH] at hg⊢;refine kK ?_;refine cN ?_;refine aZ ?_;have R1:gr A fm.columns H l:=X.rows.mono (bU _ _);refine⟨_,rfl,hs,dx,_,rfl,s1 _ _ S.ins,uk,_,rfl,hs,A.cP,dx,_,_,rfl,s1 _ _ S.ins,T.cP.cl,T.cP.jV,fu,_,rfl,rd,_,rfl,hg,hs,dx,a,rl,_,_,gx,zs,r,rfl,s1 _ _ S.ins,s1 _ _ S.lst,gN.mono ((bU _ _).trans s1) S.xj,ak S.Rf (by decide),(R1.at' _ IV).mono s1,λH2 s2=>⟨_,rfl,?_⟩⟩;have WH:(zs.any λz=>(z.lk.lookup r.who).isSome)=released h x:=by rw[BY r X.rl,hw];rfl
    rw[WH];have yT:=s1.trans s2;refine DD (λq2=>?_) (λq2=>?_)
    ·rw[if_pos q2] at k;exact⟨by show 1<=az;decide,λD hD=>k D _ (Ans.same S0 (yT.trans (aB hD)) (yT.free hD) (by rw[ag];rfl))⟩
    ·rw[if_neg (by rw[q2];exact bK)] at k;refine cN ?_;refine aZ ?_;refine⟨_,rfl,_,rfl,_,rfl,λy dy ny nd ne=>⟨y,dy,_,_,_,rfl,ag,λH4 e4 k4=>⟨rfl,?_⟩⟩⟩;have s4:aS H2 H4:=aS.made ny nd k4;have Fv:=yT.trans s4;refine⟨_,rfl,hs,A.cP,dx,_,_,rfl,Fv _ _ S.ins,T.cP.cl,T.cP.jV,fu,_,rfl,rd,_,rfl,FN.k (k:=(cC x:Key)) (Fv _ _ S.w9) (by rw[aa];exact dB (by omega)),?_⟩;have hny:H y=none:=yT.free ny;obtain⟨ch,As⟩:∃ch:fW->fW,ch=λr=>if(r.who:Int)=x then{r with cells:=bz row,secret:=u.toNat} else r:=⟨_,rfl⟩
     have chw:∀r,(ch r).who=r.who:=λr=>by rw[As];dsimp only;split<;>rfl
     obtain⟨l',RZ⟩:∃l':List PR,l'=l.map λp=>(if(p.2.who:Int)=x then y else p.1,ch p.2):=⟨_,rfl⟩;have eL:putK (t8 l) (cC x:Key) (V.ref y)=t8 l':=by
      unfold putK;rw[zf,uH,if_pos (show(some (V.ref a)).isSome=true from rfl),RZ];unfold t8;rw[aP,aP];refine dc λp _=>?_;show(if Ft p.2.who=cC x then(Ft p.2.who,V.ref y) else(Ft p.2.who,V.ref p.1))=(Ft (ch p.2).who,V.ref (if(p.2.who:Int)=x then y else p.1));rw[chw];by_cases z:(p.2.who:Int)=x
      ·rw[if_pos (by unfold Ft;rw[z]),if_pos z]
      ·have n:¬Ft p.2.who=(cC x:Key):=λz2=>z (Ao z2);rw[if_neg n,if_neg z]
     rw[eL];have hnh:∀q'∈h.releases,¬r.who∈q'.has:=λq' hq hh=>by
      have:released h x=true:=by unfold Vbslai.released;exact GG.mpr ⟨q',hq,GG.mpr ⟨r.who,hh,by rw[hw];simp⟩⟩
      rw[q2] at this;cases this
     have S':qF A Pt g M (upd H4 rd (.dK (t8 l'))) hs {h with rows:=h.rows.map ch} dx rd rl l' gx zs (.ref fa):=by
      refine S.dput hf Fv ?_ ?_ hf rfl ⟨λp Hi=>?_,λp Hi=>?_,?_⟩ (λq' hq r' ZF hh=>?_) (λw' WI=>?_)
      ·show _=h.rows.map ch;rw[<-S.rows,RZ,aP,aP];rfl
      ·show((h.rows.map ch).map _).Nodup;rw[aP,show((λr:fW=>r.who)∘ch)=λr=>r.who from funext chw];exact S.nd
      ·rw[RZ] at Hi;obtain⟨p0,RK,rfl⟩:=aq.mp Hi;by_cases z:(p0.2.who:Int)=x
       ·refine⟨dy,e,?_,?_⟩
        ·show cut H4 M (if(p0.2.who:Int)=x then y else p0.1)=_;rw[if_pos z,qr S.tr.tr hny e4];have e1:(ch p0.2).secret=u.toNat:=by rw[As];dsimp only;rw[if_pos z]
         show some (HO.ins A.row dy (xK (V.int x) (V.int u) (V.ref e)))=some (HO.ins A.row dy (xK (V.int ((ch p0.2).who:Nat)) (V.int ((ch p0.2).secret:Nat)) (V.ref e)));rw[e1,<-eu,chw,z]
        ·have e1:(ch p0.2).cells=bz row:=by rw[As];dsimp only;rw[if_pos z]
         show cut H4 M e=some (.lst (gP (ch p0.2).cells));rw[e1];exact rL (dJ Fv _ _ he) cz
       ·have e1:ch p0.2=p0.2:=by rw[As];dsimp only;rw[if_neg z]
        show rz A (cut H4 M) (if(p0.2.who:Int)=x then y else p0.1) (ch p0.2);rw[if_neg z,e1];exact(X.rows.at' p0 RK).mono (dJ Fv)
      ·rw[RZ] at Hi;obtain⟨p0,RK,rfl⟩:=aq.mp Hi;show yj fm.columns (ch p0.2).cells;by_cases z:(p0.2.who:Int)=x
       ·have e1:(ch p0.2).cells=bz row:=by rw[As];dsimp only;rw[if_pos z]
        rw[e1];exact Fs
       ·have e1:ch p0.2=p0.2:=by rw[As];dsimp only;rw[if_neg z]
        rw[e1];exact X.rows.cells p0 RK
      ·rw[RZ,aa];exact adf
      ·obtain⟨r0,Pz,rfl⟩:=aq.mp ZF;by_cases z:(r0.who:Int)=x
       ·rw[chw,show r0.who=r.who by omega] at hh;exact absurd hh (hnh q' hq)
       ·have e1:ch r0=r0:=by rw[As];dsimp only;rw[if_neg z]
        rw[e1];exact Pz
      ·show w'∈(h.rows.map ch).map _;rw[aP,show((λr:fW=>r.who)∘ch)=λr=>r.who from funext chw];exact WI
     refine⟨by show 1<=az;decide,λD hD=>k D _ ?_⟩;obtain⟨o,ho,_⟩:=S.tr g S.gm;have Ob:H4 D=none:=by rw[ax (λz=>by rw[z,ag] at hD;cases hD)] at hD;exact hD
     have S'':=S'.mono (aB (o:=HO.lst [V.int 0]) hD);rw[As] at S'';refine⟨M,⟨dx,rd,rl,_,gx,zs,_,S''⟩,?_,λb hb=>.inl hb,Fv.free Ob,ag,((cW.of Fv).upd S.dm).trans (cW.of (aB hD))⟩;have hgD:g≠D:=λz=>by rw[<-z,Fv _ _ ho] at Ob;cases Ob
     rw[ax hgD,ax S.gd.symm,ho];exact Fv _ _ ho
end
end Bp
namespace Bp
open PySem PySem.Spec PyProof.Rows L2 Bm
section
variable{P:bo}{w:bM}{K:ah}{mg:Str->Option aj}{base:cu}{A:Cl}{Pt:af}
theorem EV(T:Txt K mg A)(i8:Def P w K mg base "best_release" 9 ["form","rows","releases","numbers","asked"] (lh K A Pt)):
  Def P w K mg base "answer_plan" 10 ["house","numbers","asked"] (Mo K A Pt (λns row=>(∃x u m,ns=[x,u,m])/\row.length<=100) λns row=>.plan (ns.getD 0 0) (ns.getD 1 0) (ns.getD 2 0) row):=by
 refine T.ko.Kr.ok vE (λvs H Q E h=>?_) (λf eC A' outer s H vs Q E hr h=>?_)
 ·obtain⟨hs,d,e,g,M,h,fm,ns,row,rfl,_⟩:=h;rfl
 ·obtain⟨hs,d,e,g,M,h,fm,ns,row,rfl,S0,hf,hd,he,⟨⟨x,u,m,rfl⟩,hp⟩,k⟩:=h;obtain⟨dx,rd,rl,l,gx,zs,fv,S⟩:=id S0;have X:=S.form hf;obtain⟨fa,rfl,F0⟩:=X.ex;have F1:=F0.mono (bU _ _);have qB:=(cY he).2;have gu:bT h (.plan x u m row)=if lK fm x u m row=false then(h,[-1]) else(match uc fm.columns h.releases h.rows (row.map λb=>b==1) x.toNat u.toNat m.toNat with
    |some p=>(h,0::1::(p.cost:Int)::mH p.release)
    |none=>(h,[0,0])):=by
   show bG h _=_;unfold bG;rw[hf];rfl
  have n9:bT h (.plan (([x,u,m]:List Int).getD 0 0) (([x,u,m]:List Int).getD 1 0) (([x,u,m]:List Int).getD 2 0) row)=_:=gu;rw[n9] at k;refine⟨_,(aw (dj (gB (fQ (bC (lJ T) hr.mono rfl (aH (bj (pv 0) rfl) (aH (pv 1) (aH (pv 2) ao)))))) (aF (aX (bV (aH (cU T.k.gW rfl) ao)))) bO) (aw (bZ (i:=3) vE.nd rfl fo (bC i8 hr.mono rfl (aH (bj (pv 0) rfl) (aH (dk (pv 0) T.cP.cl (eP T) hr.mono) (aH (bj (pv 0) rfl) (aH (pv 1) (aH (pv 2) ao))))))) (aw (dj (cB C2 (pv 3) lu (cx _)) (aF (aX (bV (aH bx (aH bx ao))))) bO) (aF (aX (fh jD (bV (aH bx (aH bx (aH (cg (bj (pv 0) rfl) T.fZ.cl (mr T) hr.mono (aH (bj (pv 3) rfl) ao)) ao)))) (dk (pv 3) T.rel.cl (vM T) hr.mono))))))),?_⟩;refine aZ ?_;refine⟨_,rfl,hs,A.cP,dx,_,_,rfl,S.ins,T.cP.cl,T.cP.gD,da,_,rfl,_,rfl,fa,d,e,fm,x,u,m,row,rfl,F1,bD.of hd,bD.of qB,hp,λH1 s1=>⟨_,rfl,km (λq=>?_) (λq=>?_)⟩⟩
  ·rw[if_pos q] at k;exact⟨by show 1<=az;decide,λD hD=>k D _ (Ans.same S0 (s1.trans (aB hD)) (s1.free hD) (by rw[ag];rfl))⟩
  ·rw[if_neg (by rw[q];exact bK)] at k;obtain⟨Zk,hu0,IM,IV⟩:=EL q;refine cN ?_;refine aZ ?_;refine⟨_,rfl,hs,A.cP,dx,_,_,rfl,s1 _ _ S.ins,T.cP.cl,T.cP.gD,da,_,rfl,hs,dx,_,rfl,s1 _ _ S.ins,dS,hs,dx,rd,_,_,_,rfl,s1 _ _ S.ins,s1 _ _ S.w9,λD1 H3 Zd s3 e3=>?_⟩;have RJ:H3 D1=some (.lst (pB l)):=by rw[e3];unfold t8 pB;rw[aP];rfl
   have z8:=s1.trans s3;have S3:=S.mono z8;have X3:=S3.form hf;obtain⟨o,ho,_⟩:=S.tr g S.gm;have fin:∀(ans:List Int)(H4 H5:Hp)(D:af),cW [Pt] H3 H4->pG LW LX Pt H4->aS H4 H5->H4 D=none->H5 D=some (.lst (jN ans))->Ans A Pt g M H hs (h,ans) D H5:=λans H4 H5 D sB tg s5 hD e5=>by
    obtain⟨S4,eg⟩:=S3.tab sB tg;obtain⟨ps,WJ⟩:=tg.uA;have ZG:H4 g=some o:=by rw[eg];exact z8 _ _ ho
    exact⟨M,⟨dx,rd,rl,l,gx,zs,_,S4.mono s5⟩,by rw[ho];exact s5 _ _ ZG,λb hb=>.inl hb,z8.free (sB.UM WJ hD),e5,((cW.of z8).trans (sB.sub λb hb=>by rw[show b=Pt by simpa using hb];exact S.pm)).trans (cW.of s5)⟩
   refine⟨_,rfl,hs,A.cP,dx,_,_,rfl,z8 _ _ S.ins,T.cP.cl,T.cP.fS,d5,_,rfl,_,rfl,fa,D1,rl,d,e,fm,l,gx,zs,h.releases,row,x.toNat,u.toNat,m.toNat,M,rfl,S3.tr,S3.pm,S3.tg,F0.mono (dJ z8),X.ok,RJ,(X.rows.mono (bU _ _)).mono z8,S.ndl,z8 _ _ S.lst,gN.mono ((bU _ _).trans z8) S.xj,by rw[S.rows];exact X.rl,bD.of (by rw[z8 _ _ hd,eI Zk,eI hu0,eI IM]),bD.of (z8 _ _ qB),IV,λH4 sB tg wJ=>?_,λz r H4 sB tg wJ JD yJ hz=>?_⟩
   ·rw[S.rows] at wJ;rw[wJ] at k;refine b8 ?_;refine aZ ?_;refine⟨_,rfl,rfl,_,rfl,kC ⟨by show 2<=az;decide,λD hD=>k D _ (fin _ H4 _ D sB tg (aB hD) hD (by rw[ag];rfl))⟩⟩
   ·rw[S.rows] at wJ JD;rw[wJ] at k;obtain⟨S4,_⟩:=S3.tab sB tg;have X4:=S4.form hf;obtain⟨fa',efa,F4⟩:=X4.ex;cases efa;have F4':=F4.mono (bU _ _);obtain⟨ur,lc,lv,as,f1,f2,f3,f4⟩:=id F4';have Z4:=hz.mono (bU _ _);obtain⟨Au,ll,ld,z1,z2,z3⟩:=id Z4;have Mn:yh fm.columns h.rows r (cA fm.columns h.rows r.levels x.toNat u.toNat):=by have:=oB (cs:=fm.columns) (ls:=r.levels) (k:=x.toNat) (u:=u.toNat) S.nd;rw[<-JD] at this;exact this
    refine b8 ?_;refine aZ ?_;refine⟨_,rfl,rfl,_,rfl,kK ?_⟩;refine cN ?_;refine⟨_,rfl,hs,A.cP,dx,_,_,rfl,S4.ins,T.cP.cl,T.cP.gD,da,fa,ur,_,rfl,f1,ke,_,rfl,z,A.rel,Au,_,_,rfl,z1,T.rel.cl,T.rel.pb,ka,fa,ll,fm,r.levels,rfl,F4',X.ok,bD.of z2,yJ,λH5 s5=>⟨by show 3<=az;decide,λy hy=>?_⟩⟩;have s5':=s5.trans (aB (o:=HO.lst [V.int 0,V.int 1,V.int ((iO fm.columns r.levels:Nat):Int)]) hy);have RD:r.levels.length<=4:=by rw[yJ.1];exact X.ok.len
    refine⟨_,rfl,z,Au,_,rfl,s5' _ _ z1,qC,z,r,rfl,Z4.mono s5',ak RD (by decide),λD2 H6 BR s6 e6=>⟨y,D2,_,_,rfl,rfl,s6 _ _ ag,e6,?_,λv hv=>k v _ (fin _ H4 _ v sB tg ((s5'.trans s6).trans (aB hv)) (s5'.free (s6.free hv)) ?_)⟩⟩
    ·rw[eh,aO];show 3+(r.levels.length+4)<=az;exact cT (dB (by omega))
    ·rw[ag];refine congrArg (λz=>some (HO.lst z)) ?_;show[V.int 0,V.int 1,V.int ((iO fm.columns r.levels:Nat):Int)]++gP _=jN (0::1::((iO fm.columns r.levels:Nat):Int)::mH (cA fm.columns h.rows r.levels x.toNat u.toNat));rw[z7 Mn,<-i7];rfl
theorem Aa(T:Txt K mg A)(i8:Def P w K mg base "best_release" 9 ["form","rows","releases","numbers","asked"] (lh K A Pt)):
  Def P w K mg base "answer_release" 10 ["house","numbers","asked"] (Mo K A Pt (λns row=>(∃x u m,ns=[x,u,m])/\row.length<=100) λns row=>.release (ns.getD 0 0) (ns.getD 1 0) (ns.getD 2 0) row):=by
 refine T.ko.DZ.ok qo (λvs H Q E h=>?_) (λf eC A' outer s H vs Q E hr h=>?_)
 ·obtain⟨hs,d,e,g,M,h,fm,ns,row,rfl,_⟩:=h;rfl
 ·obtain⟨hs,d,e,g,M,h,fm,ns,row,rfl,S0,hf,hd,he,⟨⟨x,u,m,rfl⟩,hp⟩,k⟩:=h;obtain⟨dx,rd,rl,l,gx,zs,fv,S⟩:=id S0;have X:=S.form hf;obtain⟨fa,rfl,F0⟩:=X.ex;have F1:=F0.mono (bU _ _);have qB:=(cY he).2;have OR:=Paired.len S.xj;have wD:=X.rl.len;have hr4:=S.Rf;have gu:bT h (.release x u m row)=if lK fm x u m row=false then(h,[-1]) else if 4<=h.releases.length then(h,[-6]) else(match uc fm.columns h.releases h.rows (row.map λb=>b==1) x.toNat u.toNat m.toNat with
    |some p=>({h with releases:=h.releases++[p.release]},0::(p.cost:Int)::mH p.release)
    |none=>(h,[-8])):=by
   show bG h _=_;unfold bG;rw[hf];rfl
  have n9:bT h (.release (([x,u,m]:List Int).getD 0 0) (([x,u,m]:List Int).getD 1 0) (([x,u,m]:List Int).getD 2 0) row)=_:=gu;rw[n9] at k;refine⟨_,(aw (dj (gB (fQ (bC (lJ T) hr.mono rfl (aH (bj (pv 0) rfl) (aH (pv 1) (aH (pv 2) ao)))))) (aF (aX (bV (aH (cU T.k.gW rfl) ao)))) bO) (aw (dj (cB ji (cD bt (by rfl) T.b.dM cJ (aH (bj (pv 0) rfl) ao)) (cU T.k.Gd rfl) (cx _)) (aF (aX (bV (aH (cU T.k.ab3 rfl) ao)))) bO) (aw (bZ (i:=3) qo.nd rfl fo (bC i8 hr.mono rfl (aH (bj (pv 0) rfl) (aH (dk (pv 0) T.cP.cl (eP T) hr.mono) (aH (bj (pv 0) rfl) (aH (pv 1) (aH (pv 2) ao))))))) (aw (dj (cB C2 (pv 3) lu (cx _)) (aF (aX (bV (aH (cU T.k.V7 rfl) ao)))) bO) (aw (iC (oh bP cQ cR iZ (bj (pv 0) rfl) (aH (pv 3) ao))) (aF (aX (fh jD (bV (aH bx (aH (cg (bj (pv 0) rfl) T.fZ.cl (mr T) hr.mono (aH (bj (pv 3) rfl) ao)) ao))) (dk (pv 3) T.rel.cl (vM T) hr.mono))))))))),?_⟩;refine aZ ?_;refine⟨_,rfl,hs,A.cP,dx,_,_,rfl,S.ins,T.cP.cl,T.cP.gD,da,_,rfl,_,rfl,fa,d,e,fm,x,u,m,row,rfl,F1,bD.of hd,bD.of qB,hp,λH1 s1=>⟨_,rfl,km (λq=>?_) (λq=>?_)⟩⟩
  ·rw[if_pos q] at k;exact⟨by show 1<=az;decide,λD hD=>k D _ (Ans.same S0 (s1.trans (aB hD)) (s1.free hD) (by rw[ag];rfl))⟩
  ·rw[if_neg (by rw[q];exact bK)] at k;obtain⟨Zk,hu0,IM,IV⟩:=EL q;refine cN ?_;refine aZ ?_;refine⟨_,rfl,hs,A.cP,dx,_,_,rfl,s1 _ _ S.ins,T.cP.cl,T.cP.fS,d5,rl,_,rfl,.inl (bD.of (s1 _ _ S.lst)),rfl,_,rfl,fC (λq2=>?_) (λq2=>?_)⟩
   ·have q3:4<=h.releases.length:=by
     rw[ck] at q2;injection q2 with q2
     omega
    rw[if_pos q3] at k;exact⟨by show 1<=az;decide,λD hD=>k D _ (Ans.same S0 (s1.trans (aB hD)) (s1.free hD) (by rw[ag];rfl))⟩
   ·have q3:¬4<=h.releases.length:=λz=>q2 (by
     rw[ck];have:gx.length=4:=by omega
     rw[this];rfl)
    rw[if_neg q3] at k;refine cN ?_;refine aZ ?_;refine⟨_,rfl,hs,A.cP,dx,_,_,rfl,s1 _ _ S.ins,T.cP.cl,T.cP.gD,da,_,rfl,hs,dx,_,rfl,s1 _ _ S.ins,dS,hs,dx,rd,_,_,_,rfl,s1 _ _ S.ins,s1 _ _ S.w9,λD1 H3 Zd s3 e3=>?_⟩;have RJ:H3 D1=some (.lst (pB l)):=by rw[e3];unfold t8 pB;rw[aP];rfl
    have z8:=s1.trans s3;have S3:=S.mono z8;have X3:=S3.form hf;obtain⟨o,ho,_⟩:=S.tr g S.gm;refine⟨_,rfl,hs,A.cP,dx,_,_,rfl,z8 _ _ S.ins,T.cP.cl,T.cP.fS,d5,_,rfl,_,rfl,fa,D1,rl,d,e,fm,l,gx,zs,h.releases,row,x.toNat,u.toNat,m.toNat,M,rfl,S3.tr,S3.pm,S3.tg,F0.mono (dJ z8),X.ok,RJ,(X.rows.mono (bU _ _)).mono z8,S.ndl,z8 _ _ S.lst,gN.mono ((bU _ _).trans z8) S.xj,by rw[S.rows];exact X.rl,bD.of (by rw[z8 _ _ hd,eI Zk,eI hu0,eI IM]),bD.of (z8 _ _ qB),IV,λH4 sB tg wJ=>?_,λz r H4 sB tg wJ JD yJ hz=>?_⟩
    ·rw[S.rows] at wJ;rw[wJ] at k;obtain⟨S4,eg⟩:=S3.tab sB tg;obtain⟨ps,WJ⟩:=tg.uA;have ZG:H4 g=some o:=by rw[eg];exact z8 _ _ ho
     refine b8 ?_;refine aZ ?_;exact⟨_,rfl,rfl,_,rfl,kC ⟨by show 1<=az;decide,λD hD=>k D _ ⟨M,⟨dx,rd,rl,l,gx,zs,_,S4.mono (aB hD)⟩,by rw[ho];exact aB hD _ _ ZG,λb hb=>.inl hb,z8.free (sB.UM WJ hD),by rw[ag];rfl,((cW.of z8).trans (sB.sub λb hb=>by rw[show b=Pt by simpa using hb];exact S.pm)).trans (cW.of (aB hD))⟩⟩⟩
    ·rw[S.rows] at wJ JD;rw[wJ] at k;obtain⟨S4,eg⟩:=S3.tab sB tg;obtain⟨ps,WJ⟩:=tg.uA;have ZG:H4 g=some o:=by rw[eg];exact z8 _ _ ho
     have X4:=S4.form hf;have Mn:yh fm.columns h.rows r (cA fm.columns h.rows r.levels x.toNat u.toNat):=by have:=oB (cs:=fm.columns) (ls:=r.levels) (k:=x.toNat) (u:=u.toNat) S.nd;rw[<-JD] at this;exact this
     refine b8 ?_;refine aZ ?_;refine⟨_,rfl,rfl,_,rfl,kK ?_⟩;refine cN ?_;refine aZ ?_;refine⟨_,rfl,hs,A.cP,dx,_,_,rfl,S4.ins,T.cP.cl,T.cP.fS,d5,.inl ⟨rfl,_,bD.of S4.lst⟩,_,rfl,rl,_,_,rfl,rfl,S4.lst,by rw[ck];exact dB (by omega),?_⟩;have eR:iJ gx++[V.ref z]=iJ (gx++[z]):=by unfold iJ;rw[br];rfl
     rw[eR];have ec:cut (upd H4 rl (.lst (iJ (gx++[z])))) M=cut H4 M:=sm S4.lm;have S5:qF A Pt g M (upd H4 rl (.lst (iJ (gx++[z])))) hs {h with releases:=h.releases++[cA fm.columns h.rows r.levels x.toNat u.toNat]} dx rd rl l (gx++[z]) (zs++[r]) (.ref fa):=by
      refine⟨S4.tr.upd (λ_ z=>nomatch z),S4.pm,S4.gm,S4.hm,S4.dm,S4.lm,S4.gh,S4.gd,S4.gl,S4.gp,S4.tg.ac7 S4.lst (λ_ z=>nomatch z) (λ_ z=>nomatch z),?_,?_,ag,S4.rows,S4.nd,?_,?_,?_⟩
      ·rw[ax (gA S4.ins S4.lst (λz=>nomatch z))];exact S4.ins
      ·rw[ax (gA S4.w9 S4.lst (λz=>nomatch z))];exact S4.w9
      ·rw[ec];exact Paired.snoc S4.xj hz
      ·rw[aO];show zs.length+1<=4;omega
      ·show match h.form with|none=>_|some f=>_
       rw[hf];refine⟨?_,X.ok,by rw[ec];exact X4.rows,X4.rl.snoc Mn,λz' GP=>?_,λq' hq w' WI=>?_⟩
       ·obtain⟨fa',a,b⟩:=X4.ex;exact⟨fa',a,by rw[ec];exact b⟩
       ·rcases aD.mp GP with y|y
        ·exact X.lv z' y
        ·rw[show z'=r by simpa using y];exact yJ
       ·rcases aD.mp hq with y|y
        ·exact X.has q' y w' WI
        ·rw[show q'=cA fm.columns h.rows r.levels x.toNat u.toNat by simpa using y] at WI;obtain⟨r',ZF,e'⟩:=O1 WI;exact aq.mpr ⟨r',ZF,e'⟩
     have hg5:(upd H4 rl (.lst (iJ (gx++[z])))) g=some o:=by rw[ax S4.gl.symm];exact ZG
     have Z5:mR A (upd H4 rl (.lst (iJ (gx++[z])))) z r:=by
      have:mR A (cut (upd H4 rl (.lst (iJ (gx++[z])))) M) z r:=by rw[ec];exact hz
      exact this.mono (bU _ _)
     have fresh:∀v,(upd H4 rl (.lst (iJ (gx++[z])))) v=none->H v=none:=λv hv=>by
      have:H4 v=none:=by rw[ax (λy=>by rw[y,ag] at hv;cases hv)] at hv;exact hv
      exact z8.free (sB.UM WJ this)
     have sB5:cW M H (upd H4 rl (.lst (iJ (gx++[z])))):=((cW.of z8).trans (sB.sub λb hb=>by rw[show b=Pt by simpa using hb];exact S.pm)).upd S.lm;have S5f:=S5.form (f:=fm) hf;obtain⟨fa',efa,F5⟩:=S5f.ex;cases efa;have F5':=F5.mono (bU _ _);have adi:=S5.ins;generalize upd H4 rl (.lst (iJ (gx++[z])))=H5 at S5 hg5 Z5 fresh F5' adi sB5⊢;obtain⟨ur,lc,lv,as,f1,f2,f3,f4⟩:=id F5';obtain⟨Au,ll,ld,z1,z2,z3⟩:=id Z5;refine⟨_,rfl,hs,A.cP,dx,_,_,rfl,adi,T.cP.cl,T.cP.gD,da,fa,ur,_,rfl,f1,ke,_,rfl,z,A.rel,Au,_,_,rfl,z1,T.rel.cl,T.rel.pb,ka,fa,ll,fm,r.levels,rfl,F5',X.ok,bD.of z2,yJ,λH6 s6=>⟨by show 2<=az;decide,λy hy=>?_⟩⟩;have s6':=s6.trans (aB (o:=HO.lst [V.int 0,V.int ((iO fm.columns r.levels:Nat):Int)]) hy);have RD:r.levels.length<=4:=by rw[yJ.1];exact X.ok.len
     refine⟨_,rfl,z,Au,_,rfl,s6' _ _ z1,qC,z,r,rfl,Z5.mono s6',ak RD (by decide),λD2 H7 BR s7 e7=>⟨y,D2,_,_,rfl,rfl,s7 _ _ ag,e7,?_,λv hv=>?_⟩⟩
     ·rw[eh,aO];show 2+(r.levels.length+4)<=az;exact cT (dB (by omega))
     ·have s8:=(s6'.trans s7).trans (aB (o:=HO.lst ([V.int 0,V.int ((iO fm.columns r.levels:Nat):Int)]++gP (r.levels++[r.k,r.u,r.lk.length,r.left]))) hv);refine k v _ ⟨M,⟨dx,rd,rl,l,_,_,_,S5.mono s8⟩,by rw[ho];exact s8 _ _ hg5,λb hb=>.inl hb,fresh v (s6'.free (s7.free hv)),?_,sB5.trans (cW.of s8)⟩;rw[ag];refine congrArg (λz=>some (HO.lst z)) ?_;show[V.int 0,V.int ((iO fm.columns r.levels:Nat):Int)]++gP _=jN (0::((iO fm.columns r.levels:Nat):Int)::mH (cA fm.columns h.rows r.levels x.toNat u.toNat));rw[z7 Mn,<-i7];rfl
end
end Bp
namespace Bp
open PySem PySem.Spec PyProof.Rows L2 Bm
open Vbslai (levels nums settled)
theorem sY:∀(r:List aG)(i:Nat)(f:dY)(j:Nat),mK i f r=.error j->i<=j
 |[],i,f,j,h=>by
  unfold xZ at h;split at h
  ·cases h
  ·cases h;exact aJ _
 |l::r,i,f,j,h=>by
  unfold xZ at h;split at h
  ·have:=sY r _ _ _ h;omega
  ·split at h
   ·cases h;exact aJ _
   ·split at h
    ·have:=sY r _ _ _ h;omega
    ·cases h;exact aJ _
theorem sZ:∀(r:List aG)(i:Nat)(f g:dY),mK i f r=.ok g->settled g=true/\g.secret≠[]
 |[],i,f,g,h=>by
  unfold xZ at h;split at h
  ·rename_i q;cases h;exact q.2
  ·cases h
 |l::r,i,f,g,h=>by
  unfold xZ at h;split at h
  ·exact sZ r _ _ _ h
  ·split at h
   ·cases h
   ·split at h
    ·exact sZ r _ _ _ h
    ·cases h
def SpF(A:Cl)(Pt:af):Sp:=λvs H Q _=>∃(hs d e g:af)(M:List af)(h:lI)(t:aG),
 vs=[.ref hs,.ref d,.ref e]/\Rg A Pt g M H hs h/\cut H M e=some (.lst (gP t))/\t.length<=2000/\∀D H',Ans A Pt g M H hs (bT h (.form t)) D H'->Q (.ref D) H'
section
variable{P:bo}{w:bM}{K:ah}{mg:Str->Option aj}{base:cu}{A:Cl}{Pt:af}
theorem EW(T:Txt K mg A)(Y:Zo K A):Def P w K mg base "answer_form" 8 ["house","numbers","data"] (SpF A Pt):=by
 refine T.ko.Kp.ok mm (λvs H Q E h=>?_) (λf eC A' outer s H vs Q E hr h=>?_)
 ·obtain⟨hs,d,e,g,M,h,t,rfl,_⟩:=h;rfl
 ·obtain⟨hs,d,e,g,M,h,t,rfl,S0,he,ht,k⟩:=h;obtain⟨dx,rd,rl,l,gx,zs,fv,S⟩:=id S0;have qB:=(cY he).2;obtain⟨o,ho,_⟩:=S.tr g S.gm;refine⟨_,(aw (bZ (i:=3) mm.nd rfl fo (Ha (LD T) hr.mono rfl)) (aw (bZ (i:=4) mm.nd rfl fo (cg (pv 3) T.eM.cl (LL T Y) hr.mono (aH (pv 2) ao))) (aw (dj (cB OK (pv 4) bx (cx _)) (aF (aX (bV (aH bx (aH (pv 4) ao))))) bO) (aw (iC (cg (pv 0) T.cP.cl (Jo T) hr.mono (aH (dk (pv 3) T.eM.cl (Ba T) hr.mono) ao))) (aw (bZ (i:=5) mm.nd rfl fo (bj (pv 0) rfl)) (aF (aX (fh jD (bV (aH bx (aH (cD bt (by rfl) T.b.dM cJ (aH (bj (pv 5) rfl) ao)) (aH (cD bt (by rfl) T.b.dM cJ (aH (bj (pv 5) rfl) ao)) ao)))) (dk (pv 5) T.fZ.cl (kG T) hr.mono))))))))),?_⟩;refine aZ ?_;refineλr dr nr ndr ner=>⟨r,dr,rfl,ag,λlc lv H1 hlc yJ kJ e1 e2 e3 k1=>⟨rfl,?_⟩⟩;have s1:aS H H1:=aS.made nr ndr k1;have n1:∀b,upd (upd H dr (.own r)) r (.ins A.eM dr []) b=none->H b=none/\b≠r:=λb q=>by
   have hb:b≠r:=λz=>by rw[z,ag] at q;cases q
   rw[ax hb] at q;rw[ax (λz=>by rw[z,ag] at q;cases q)] at q;exact⟨q,hb⟩
  obtain⟨c0,cr⟩:=n1 lc hlc;obtain⟨v0,vr⟩:=n1 lv yJ;have R0:JF A M H H1 r {}:=by
   refine⟨[r,lc],dr,lc,lv,[],.gT,s1,λb hb=>?_,λb hb=>?_,.head _,.tail _ (.head _),e1,e2,?_,.inl ⟨rfl,rfl,.nil⟩⟩
   ·rcases aA.mp hb with z|z
    ·rw[z];exact nr
    ·rw[show b=lc by simpa using z];exact c0
   ·rcases aA.mp hb with z|z
    ·rw[z];exact⟨_,e1⟩
    ·rw[show b=lc by simpa using z];exact⟨_,e2⟩
   ·rw[cX ?_]
    ·exact e3
    ·intro z;rcases aD.mp z with z|z
     ·rcases aA.mp z with z|z
      ·exact vr z
      ·exact kJ (show lv=lc by simpa using z).symm
     ·exact S.tr.tr.not v0 z
  refine b8 ?_;refine aZ ?_;refine⟨_,rfl,r,dr,_,rfl,e1,Gg,_,rfl,r,e,M,H,t,rfl,S.tr.tr,R0,bD.of (s1 _ _ qB),by omega,λi hi H2 s2=>?_,λfm hfm H2 R2=>?_⟩
  ·have gu:bT h (.form t)=(h,[1,(i:Int)]):=by show(match rS t with|.error i=>(h,[1,(i:Int)])|.ok f=>_)=_;rw[hi]
   rw[gu] at k;have hi1:=sY _ _ _ _ hi;refine b8 ?_;refine aZ ?_;refine⟨_,rfl,_,_,rfl,rfl,_,rfl,fC (λ_=>?_) (λz=>absurd (show(0:Int)<(i:Int) by omega) z)⟩;exact⟨_,rfl,by show 2<=az;decide,λD hD=>k D _ (Ans.same S0 (s2.trans (aB hD)) (s2.free hD) (by rw[ag];rfl))⟩
  ·have gu:bT h (.form t)=({form:=some fm},0::nums (fm.columns.length::fm.values.length::fm.columns.map λc=>levels c.kind)):=by show(match rS t with|.error i=>(h,[1,(i:Int)])|.ok f=>_)=_;rw[hfm]
   rw[gu] at k;have fok:=Kj hfm;obtain⟨fs,agH⟩:=sZ _ _ _ _ hfm;have s2:aS H H2:=let⟨_,_,_,_,_,_,x⟩:=R2;x.same;refine b8 ?_;refine aZ ?_;refine⟨_,rfl,_,_,rfl,rfl,_,rfl,fC (λz=>absurd (show(0:Int)<0 from z) (by decide)) (λ_=>?_)⟩;refine cN ?_;refine aZ ?_;obtain⟨Nr,Ug,lcr,lvr,asr,unr,RS⟩:=id R2;refine⟨_,rfl,hs,dx,_,rfl,s2 _ _ S.ins,Ed,_,rfl,r,Ug,_,rfl,RS.ins,yt,r,M,H,fm,rfl,S.tr.tr,R2,fs,agH,λx H3 hx s3 F3=>?_⟩;have Cs:=s2.trans s3;refine⟨hs,dx,.ref x,fv,.ref rd,.ref rl,rfl,Cs _ _ S.ins,λrd' rl' H4 ZH Rb ale i1 i2 i3 k4=>?_⟩;have adl:∀b o,H3 b=some o->b∉M->b≠hs:=λb o _ n z=>n (by rw[z];exact S.hm);have hM3:=S.tr.mono Cs;have hg3:=Cs _ _ ho;have ZG:H4 g=some o:=k4 _ _ hg3 S.gh.symm;have sc:aS (cut H3 M) (cut H4 (rd'::rl'::M)):=λb ob q=>by
    obtain⟨n,q⟩:=cY q;rw[cX λz=>?_]
    ·exact k4 _ _ q (adl b ob q n)
    ·rcases aA.mp z with y|y
     ·rw[y,ZH] at q;cases q
     ·rcases aA.mp y with y|y
      ·rw[y,Rb] at q;cases q
      ·exact n y
   have S4:qF A Pt g (rd'::rl'::M) H4 hs {form:=some fm} dx rd' rl' [] [] [] (.ref x):=by
    refine⟨λm hm=>?_,.tail _ (.tail _ S.pm),.tail _ (.tail _ S.gm),.tail _ (.tail _ S.hm),.head _,.tail _ (.head _),S.gh,(aQ hg3 ZH).symm,(aQ hg3 Rb).symm,S.gp,?_,i1,i2,i3,rfl,by simp,.nil,by decide,?_⟩
    ·rcases aA.mp hm with y|y
     ·rw[y];exact⟨_,i2,λxs z=>nomatch z⟩
     ·rcases aA.mp y with y|y
      ·rw[y];exact⟨_,i3,λxs z=>nomatch z⟩
      ·by_cases z:m=hs
       ·rw[z];exact⟨_,i1,λxs z=>nomatch z⟩
       ·obtain⟨ob,q,n⟩:=hM3 m y;exact⟨ob,k4 _ _ q z,n⟩
    ·have tg3:=S.tg.mono Cs;have hi3:=Cs _ _ S.ins;rcases tg3 with q|⟨c,q,qc⟩
     ·exact .inl (k4 _ _ q (gA q hi3 (λz=>nomatch z)))
     ·exact .inr ⟨c,k4 _ _ q (gA q hi3 (λz=>nomatch z)),k4 _ _ qc (gA qc hi3 (λz=>by unfold zX at z;cases z))⟩
    ·exact⟨⟨x,rfl,F3.mono sc⟩,fok,⟨λp hp=>(nomatch hp),λp hp=>(nomatch hp),by decide⟩,.nil,λz hz=>(nomatch hz),λq hq=>(nomatch hq)⟩
   have F4:gM A H4 x fm:=(F3.mono sc).mono (bU _ _);obtain⟨ur,lcf,lvf,asf,f1,f2,f3,f4⟩:=id F4;have hM':∀b∈rd'::rl'::M,b∈M∨H b=none:=λb hb=>by
    rcases aA.mp hb with y|y
    ·rw[y];exact .inr (Cs.free ZH)
    ·rcases aA.mp y with y|y
     ·rw[y];exact .inr (Cs.free Rb)
     ·exact .inl y
   have fr4:∀b,H4 b=none->H b=none:=λb q=>by
    cases z:H3 b with
    |none=>exact Cs.free z
    |some ob=>
     by_cases y:b=hs
     ·rw[y,i1] at q;cases q
     ·rw[k4 _ _ z y] at q;cases q
   refine aZ ?_;refine⟨_,rfl,hs,A.cP,dx,_,_,rfl,i1,T.cP.cl,T.cP.gD,da,?_⟩;refine b8 ?_;refine⟨_,rfl,x,A.fZ,ur,_,_,rfl,f1,T.fZ.cl,T.fZ.fg,fP,lcf,_,rfl,.inl (bD.of f2),_,rfl,x,A.fZ,ur,_,_,rfl,f1,T.fZ.cl,T.fZ.d4,fV,lvf,_,rfl,.inl (bD.of f4),by show 3<=az;decide,λy hy=>?_⟩;have s5:aS H4 (upd H4 y (.lst [.int 0,.int (iJ asf).length,.int (eO fm.values).length])):=aB hy;refine⟨_,rfl,x,ur,_,rfl,s5 _ _ f1,jE,x,fm,rfl,F4.mono s5,fok,λD2 H6 BR s6 e6=>⟨y,D2,_,_,rfl,rfl,s6 _ _ ag,e6,?_,λv hv=>?_⟩⟩
   ·rw[eh,aa];show 3+fm.columns.length<=az;have:=fok.len;exact cT (dB (by omega))
   ·have s8:=(s5.trans s6).trans (aB (o:=HO.lst ([.int 0,.int (iJ asf).length,.int (eO fm.values).length]++gP (fm.columns.map λc=>levels c.kind))) hv);refine k v _ ⟨_,⟨dx,rd',rl',_,_,_,_,S4.mono s8⟩,by rw[ho];exact s8 _ _ ZG,hM',fr4 v (s5.free (s6.free hv)),?_,cW.trans (λb ob q=>?_) (cW.of s8)⟩;rw[ag,ck,d9,Paired.len f3,show∀a:List Nat,(0:Int)::nums a=nums (0::a) fromλ_=>rfl,i7]
    ·rfl
    ·obtain⟨n,q⟩:=cY q;exact k4 _ _ (Cs _ _ q) (adl b ob (Cs _ _ q) n)
end
end Bp
namespace Bp
open PySem PySem.Spec PyProof.Rows L2 Bm
def FnD(P:bo)(w:bM)(K:ah)(mg:Str->Option aj)(base:cu)(f:af)(k:Nat)(ps:List Str)(sp:Sp):Prop:=∃fd,wI P w K mg base SS k f fd ps sp/\kW K (.ref f)=true/\Binds K fd ps []
theorem Def.fnD{P:bo}{w:bM}{K:ah}{mg:Str->Option aj}{base:cu}{x:Str}{k kk:Nat}{ps:List Str}{sp:Sp}{f:af}(D:Def P w K mg base x k ps sp)(h:mg x=some (.ref f))(hk:k<=kk):FnD P w K mg base f kk ps sp:=by
 obtain⟨f',fd,F,hm,Zx,hb⟩:=D.ex;rw[h] at hm;cases hm;exact⟨fd,F.mono hk,Zx,hb⟩
def Oc(P:bo)(w:bM)(K:ah)(mg:Str->Option aj)(base:cu)(k:Nat)(tf:TE)(t:TA):TE:=λσ H Q=>tf σ H λx H1=>∃f ps sp,x=.ref f/\FnD P w K mg base f k ps sp/\t σ H1 λvs H2=>sp (vs++[]) H2 Q E0
theorem UN{X:Cx}{k:Nat}{fe e:Expr}{es:List Expr}{tf:TE}{t:TA}{pos:Pos}(hr:jf k X.A)(hf:PE X fe tf)(ha:PA X (e::es) t)(hn:(e::es).all O5=true:=by rfl)(he:eval (.Call fe (e::es) [] pos) X.env=(do pI pos (<-eval fe X.env) [] (fH pos (bL (e::es) X.env)) (iH pos (eU [] X.env))):=by rfl):
  PE X (.Call fe (e::es) [] pos) (Oc X.prog X.w X.K X.mg X.base k tf t):=by
 rw[dW,aK] at hn;intro pins s σ H Q I h;refine Call_ (iw (hf pins s σ H _ I h) λu s1 ⟨x,H1,I1,rx,f,ps,sp,ex,⟨fd,F,hk,hb⟩,q⟩=>?_) he;subst ex;cases rx;refine rO (h₀:=X.base) I1.ok.mod.kin hk (iw (ha pos pins s1 σ H1 _ I1 q) λus s2 ⟨vs,H2,I2,r,q⟩=>⟨I2.Ax,?_⟩) (va hn.1) (pY hn.2);exact HC F hr hb .nil GX I2 r q
def Hq(c:Nat)(ns row:List Int):U7:=match c with
 |0=>.form (row.map am8)
 |1=>.sleeper (ns.getD 0 0) (ns.getD 1 0) row
 |2=>.change (ns.getD 0 0) (ns.getD 1 0) row
 |3=>.show_ (ns.getD 0 0) row
 |4=>.alike (ns.getD 0 0) row
 |5=>.short (ns.getD 0 0) (ns.getD 1 0) row
 |6=>.plan (ns.getD 0 0) (ns.getD 1 0) (ns.getD 2 0) row
 |7=>.release (ns.getD 0 0) (ns.getD 1 0) (ns.getD 2 0) row
 |8=>.text (ns.getD 0 0)
 |9=>.releases
 |10=>.hidden (ns.getD 0 0)
 |11=>.could (ns.getD 0 0)
 |12=>.cost row
 |13=>.next (ns.getD 0 0) (ns.getD 1 0) (ns.getD 2 0) row
 |14=>.print
 |_=>.counts
def gy:List Nat:=[0,2,2,1,1,2,3,3,1,0,1,1,0,3,0,0]
def iE:List Nat:=[1,1,1,1,1,1,1,1,0,0,0,0,1,1,0,0]
structure Od(c:Nat)(ns row:List Int):Prop where
 lt:c<16
 len:ns.length=gy.getD c 0
 agK:c≠0->row.length<=10
 txt:c=0->row.length<=2000/\∀x∈row,0<=x
theorem ZI{h:lI}(hf:h.form=none){c:Nat}(hc:c<16)(h0:c≠0)(ns row:List Int):bT h (Hq c ns row)=(h,[-9]):=by
 rcases c with _|_|_|_|_|_|_|_|_|_|_|_|_|_|_|_|c
 ·exact absurd rfl h0
 all_goals first
  |(exfalso;omega)
  |(show bG h _=_;unfold bG;rw[hf];rfl)
theorem EX{ns:List Int}(h:ns.length=1):∃x,ns=[x]:=match ns,h with|[x],_=>⟨x,rfl⟩
theorem Oe{ns:List Int}(h:ns.length=2):∃x u,ns=[x,u]:=match ns,h with|[x,u],_=>⟨x,u,rfl⟩
theorem EY{ns:List Int}(h:ns.length=3):∃x u m,ns=[x,u,m]:=match ns,h with|[x,u,m],_=>⟨x,u,m,rfl⟩
def vT:List Str:=["answer_form","answer_sleeper","answer_change","answer_show","answer_alike","answer_short","answer_plan","answer_release","answer_text","answer_releases","answer_hidden","answer_could","answer_cost","answer_next","answer_print","answer_counts"]
structure Tt(K:ah)(mg:Str->Option aj):Prop where
 nc:∃t,sk mg "NUMBER_COUNTS" (.ref t)/\∀H,nj K H t (gP gy)
 lc:∃t,sk mg "LIST_COUNTS" (.ref t)/\∀H,nj K H t (gP iE)
 an:∃(t:af)(fs:List af),sk mg "ANSWERERS" (.ref t)/\(∀H,nj K H t (iJ fs))/\∀(i:Nat)(n:Str),vT[i]? =some n->∃f,fs[i]? =some f/\mg n=some (.ref f)
end Bp
namespace Bp
open PySem PySem.Spec PyProof.Rows L2 Bm
section
variable{P:bo}{w:bM}{K:ah}{mg:Str->Option aj}{base:cu}{A:Cl}{Pt:af}
def vU(A:Cl)(Pt:af):Sp:=λvs H Q _=>∃(hs d e g:af)(M:List af)(h:lI)(c:Nat)(ns row:List Int),
 vs=[.ref hs,.int (c:Nat),.ref d,.ref e]/\Rg A Pt g M H hs h/\H d=some (.lst (jN ns))/\cut H M e=some (.lst (jN row))/\Od c ns row/\∀D H',Ans A Pt g M H hs (bT h (Hq c ns row)) D H'->Q (.ref D) H'
theorem EZ(T:Txt K mg A)(Y:Zo K A)(U:Tt K mg)(i8:Def P w K mg base "best_release" 9 ["form","rows","releases","numbers","asked"] (lh K A Pt)):
  Def P w K mg base "answer_call" 11 ["house","call","numbers","row"] (vU A Pt):=by
 obtain⟨ta,fs,L5,hT,hN⟩:=U.an;refine T.ko.Kv.ok Ek (λvs H Q E h=>?_) (λf eC A' outer s H vs Q E hr h=>?_)
 ·obtain⟨hs,d,e,g,M,h,c,ns,row,rfl,_⟩:=h;rfl
 ·obtain⟨hs,d,e,g,M,h,c,ns,row,rfl,S0,hd,he,co,k⟩:=h;obtain⟨dx,rd,rl,l,gx,zs,fv,S⟩:=id S0;refine⟨_,(aw (dj (PW.pt (Hz (cB C0 (pv 1) (cU T.k.afq rfl) (cx _)) (CF (cB C2 (bj (pv 0) rfl) lu (cx _))))) (aF (aX (bV (aH (cU T.k.V6 rfl) ao)))) bO) (aF (aX (UN (hr.mono (show 10<=_ by decide)) (eG MH (cU L5 rfl) (pv 1) (λ_ _=>rfl)) (aH (pv 0) (aH (pv 2) (aH (pv 3) ao))))))),?_⟩;refine aZ ?_;have go:∀{nm:Str}{kk:Nat}{ps:List Str}{sp:Sp},kk<=10->vT[c]? =some nm->Def P w K mg base nm kk ps sp->sp [.ref hs,.ref d,.ref e] H Q E0->
    Oc P w K mg base 10 (Vx (Yh K) (tC (.ref ta)) (qA 1)) (qR (qA 0) (qR (qA 2) (qR (qA 3) uI))) [some (.ref hs),some (.int (c:Nat)),some (.ref d),some (.ref e)] H Q:=λ{nm kk ps sp} hk hn D Ry=>by
   obtain⟨f,hf,hm⟩:=hN c nm hn;exact⟨_,rfl,ta,_,_,_,rfl,rfl,hT H,cG (j:=c) (v:=.ref f) (by unfold iJ;rw[aU,hf];rfl),f,ps,sp,rfl,D.fnD hm hk,_,rfl,_,rfl,_,rfl,Ry⟩
  have Of:∀{nm:Str}{kk:Nat}{ps:List Str}{pre:List Int->List Int->Prop}{cl:List Int->List Int->U7}{fm:dY},kk<=10->vT[c]? =some nm->Def P w K mg base nm kk ps (Mo K A Pt pre cl)->h.form=some fm->pre ns row->Hq c ns row=cl ns row->
    Oc P w K mg base 10 (Vx (Yh K) (tC (.ref ta)) (qA 1)) (qR (qA 0) (qR (qA 2) (qR (qA 3) uI))) [some (.ref hs),some (.int (c:Nat)),some (.ref d),some (.ref e)] H Q:=λ{nm kk ps pre cl fm} hk hn D hf hp hc=>by
   rw[hc] at k;exact go hk hn D ⟨hs,d,e,g,M,h,fm,ns,row,rfl,S0,hf,hd,he,hp,k⟩
  refine⟨_,rfl,rfl,_,rfl,vc (λq0=>?_) (λq0=>?_)⟩
  ·have c0:c≠0:=λz=>q0 (by rw[z];rfl);have alk:=co.agK c0;have Ab:row.length<=100:=by omega
   have hlen:=co.len;have og:=co.lt;refine⟨_,rfl,hs,A.cP,dx,_,_,rfl,S.ins,T.cP.cl,T.cP.gD,da,rfl,_,rfl,?_⟩
   cases hf:h.form with
   |none=>have MM:=S.fZ;rw[hf] at MM;have hfv:fv=.gT:=MM;subst hfv;rw[ZI hf og c0] at k;exact kC ⟨by show 1<=az;decide,λD hD=>k D _ (Ans.same S0 (aB hD) hD (by rw[ag];rfl))⟩
   |some fm=>
    obtain⟨fa,rfl,_⟩:=(S.form hf).ex;refine kK ?_;refine cN ?_;rcases c with _|_|_|_|_|_|_|_|_|_|_|_|_|_|_|_|c
    ·exact absurd rfl c0
    ·exact Of (by decide) rfl (z9 T) hf ⟨Oe hlen,Ab⟩ rfl
    ·exact Of (by decide) rfl (Bi T) hf ⟨Oe hlen,Ab⟩ rfl
    ·exact Of (by decide) rfl (ET T) hf ⟨EX hlen,Ab⟩ rfl
    ·exact Of (by decide) rfl (Cw T) hf ⟨EX hlen,Ab⟩ rfl
    ·exact Of (by decide) rfl (Cy T) hf ⟨Oe hlen,Ab⟩ rfl
    ·exact Of (by decide) rfl (EV T i8) hf ⟨EY hlen,Ab⟩ rfl
    ·exact Of (by decide) rfl (Aa T i8) hf ⟨EY hlen,Ab⟩ rfl
    ·exact Of (by decide) rfl (ES T) hf (EX hlen) rfl
    ·exact Of (by decide) rfl (yX T) hf trivial rfl
    ·exact Of (by decide) rfl (Bh T) hf (EX hlen) rfl
    ·exact Of (by decide) rfl (Cv T) hf (EX hlen) rfl
    ·exact Of (by decide) rfl (EO T) hf Ab rfl
    ·exact Of (by decide) rfl (ER T) hf ⟨EY hlen,Ab⟩ rfl
    ·exact Of (by decide) rfl (Cu T) hf trivial rfl
    ·exact Of (by decide) rfl (Bg T) hf trivial rfl
    ·exfalso;omega
  ·have c0:c=0:=by
    injection q0 with q0
    omega
   subst c0;obtain⟨ht1,ht2⟩:=co.txt rfl;refine kK ?_;refine cN ?_;refine go (by decide) rfl (EW T Y) ⟨hs,d,e,g,M,h,row.map am8,rfl,S0,?_,by rw[aa];exact ht1,k⟩;exact rL he (wt ht2)
end
end Bp
namespace Bp
open PyFlat PyVbslai
theorem UO(c:List (List Int)):whole c=c:=by unfold whole;split<;>rfl
theorem Og{p:Int}{n k:Nat}(h:shape p=some (n,k)):∃i:Nat,p=(i:Int)/\i<16/\n=gy.getD i 0/\k=iE.getD i 0:=by
 have key:p=0∨p=1∨p=2∨p=3∨p=4∨p=5∨p=6∨p=7∨p=8∨p=9∨p=10∨p=11∨p=12∨p=13∨p=14∨p=15:=by
  refine Mu λq=>?_;simp only[not_or] at q;obtain⟨q0,q1,q2,q3,q4,q5,q6,q7,q8,q9,q10,q11,q12,q13,q14,q15⟩:=q;unfold shape at h;rw[if_neg q0,if_neg q1,if_neg q2,if_neg q3,if_neg q4,if_neg q5,if_neg q6,if_neg q7,if_neg q8,if_neg q9,if_neg q10,if_neg q11,if_neg q12,if_neg q13,if_neg q14,if_neg q15] at h;cases h
 rcases key with e|e|e|e|e|e|e|e|e|e|e|e|e|e|e|e<;>subst e
 ·exact⟨0,rfl,by decide,by cases h;rfl,by cases h;rfl⟩
 ·exact⟨1,rfl,by decide,by cases h;rfl,by cases h;rfl⟩
 ·exact⟨2,rfl,by decide,by cases h;rfl,by cases h;rfl⟩
 ·exact⟨3,rfl,by decide,by cases h;rfl,by cases h;rfl⟩
 ·exact⟨4,rfl,by decide,by cases h;rfl,by cases h;rfl⟩
 ·exact⟨5,rfl,by decide,by cases h;rfl,by cases h;rfl⟩
 ·exact⟨6,rfl,by decide,by cases h;rfl,by cases h;rfl⟩
 ·exact⟨7,rfl,by decide,by cases h;rfl,by cases h;rfl⟩
 ·exact⟨8,rfl,by decide,by cases h;rfl,by cases h;rfl⟩
 ·exact⟨9,rfl,by decide,by cases h;rfl,by cases h;rfl⟩
 ·exact⟨10,rfl,by decide,by cases h;rfl,by cases h;rfl⟩
 ·exact⟨11,rfl,by decide,by cases h;rfl,by cases h;rfl⟩
 ·exact⟨12,rfl,by decide,by cases h;rfl,by cases h;rfl⟩
 ·exact⟨13,rfl,by decide,by cases h;rfl,by cases h;rfl⟩
 ·exact⟨14,rfl,by decide,by cases h;rfl,by cases h;rfl⟩
 ·exact⟨15,rfl,by decide,by cases h;rfl,by cases h;rfl⟩
def vV(i:Nat)(ns row:List Int):List (List Int):=((i:Int)::ns)::(if iE.getD i 0=0 then[] else[row])
structure Stp(fuel i:Nat)(r:List Int)(cs:List (List (List Int)))(ns row t:List Int)(rest:List (List (List Int))):Prop where
 lt:i<16
 nsE:ns=r.take (gy.getD i 0)
 nl:gy.getD i 0<=r.length
 csE:cs=vV i ns row::rest
 rsE:lL shape fuel t=some rest
 no:iE.getD i 0=0->row=[]/\t=r.drop (gy.getD i 0)
 yes:iE.getD i 0≠0->∃m:Nat,r[gy.getD i 0]? =some (m:Int)/\row=(r.drop (gy.getD i 0+1)).take m/\row.length=m/\t=r.drop (gy.getD i 0+1+m)
theorem Xw:∀i,i<16->iE.getD i 0=0∨iE.getD i 0=1:=by decide
theorem Oh{fuel:Nat}{p:Int}{r:List Int}{cs:List (List (List Int))}(h:lL shape fuel (p::r)=some cs):∃f i ns row t rest,p=(i:Nat)/\Stp f i r cs ns row t rest:=by
 cases fuel with
 |zero=>cases h
 |succ fuel=>
  have h':(match aiZ shape (p::r) with
   |none=>none
   |some (c,t)=>match lL shape fuel t with
    |none=>none
    |some cs=>some (c::cs))=some cs:=h
  cases hc:aiZ shape (p::r) with
  |none=>rw[hc] at h';cases h'
  |some ct=>
   obtain⟨c,t⟩:=ct;rw[hc] at h';dsimp only at h'
   cases hr:lL shape fuel t with
   |none=>rw[hr] at h';cases h'
   |some rest=>
    rw[hr] at h';have ecs:c::rest=cs:=aW h';have Fj:(match shape p with
     |none=>none
     |some (n,k)=>if r.length<n then none else match U8 k (r.drop n) with
      |none=>none
      |some (xs,t)=>some ((p::r.take n)::xs,t))=some (c,t):=hc
    cases hs:shape p with
    |none=>rw[hs] at Fj;cases Fj
    |some nk=>
     obtain⟨n,k⟩:=nk;rw[hs] at Fj;dsimp only at Fj;obtain⟨i,ei,hi,en,ek⟩:=Og hs;by_cases hl:r.length<n
     ·rw[if_pos hl] at Fj;cases Fj
     ·rw[if_neg hl] at Fj;rcases Xw i hi with l0|l1
      ·rw[ek,l0] at Fj;have e2:=aW Fj;have e3:((p::r.take n)::([]:List (List Int)),r.drop n)=(c,t):=e2;injection e3 with e4 e5
       refine⟨fuel,i,r.take n,[],t,rest,ei,hi,by rw[en],by omega,?_,hr,λ_=>⟨rfl,by rw[<-e5,en]⟩,λz=>absurd l0 z⟩;rw[<-ecs,<-e4];unfold vV;rw[if_pos l0,ei]
      ·rw[ek,l1] at Fj;have e0:U8 1 (r.drop n)=match Mj (r.drop n) with
        |none=>none
        |some (x,s)=>some ([x],s):=by
        show(match Mj (r.drop n) with
         |none=>none
         |some (x,s)=>match U8 0 s with
          |none=>none
          |some (xs,t)=>some (x::xs,t))=_
        cases Mj (r.drop n) with
        |none=>rfl
        |some y=>rfl
       rw[e0] at Fj
       cases hd:r.drop n with
       |nil=>
        rw[hd] at Fj;cases Fj
       |cons m r'=>
        rw[hd] at Fj;have e6:Mj (m::r')=if 0<=m/\m.toNat<=r'.length then some (r'.take m.toNat,r'.drop m.toNat) else none:=rfl
        rw[e6] at Fj;by_cases hm:0<=m/\m.toNat<=r'.length
        ·rw[if_pos hm] at Fj;have e3:((p::r.take n)::[r'.take m.toNat],r'.drop m.toNat)=(c,t):=aW Fj;injection e3 with e4 e5
         have Zq:n<r.length:=by
          refine Mu λz=>?_;rw[fb (by omega)] at hd;cases hd
         have hdc:=dD Zq;rw[hd] at hdc;injection hdc with d1 d2
         refine⟨fuel,i,r.take n,r'.take m.toNat,t,rest,ei,hi,by rw[en],by omega,?_,hr,λz=>?_,λ_=>⟨m.toNat,?_,?_,?_,?_⟩⟩
         ·rw[<-ecs,<-e4];unfold vV;rw[if_neg (by rw[l1];decide),ei]
         ·rw[l1] at z;cases z
         ·rw[<-en,au Zq,<-d1,eI hm.1]
         ·rw[<-en,d2]
         ·rw[cK];omega
         ·rw[<-e5,d2,nV,<-en]
        ·rw[if_neg hm] at Fj;cases Fj
theorem Rk{i:Nat}{ns row:List Int}(hi:i<16)(hn:ns.length=gy.getD i 0):U1 (vV i ns row)=Hq i ns row:=by
 rcases i with _|_|_|_|_|_|_|_|_|_|_|_|_|_|_|_|i
 ·match ns,hn with|[],_=>rfl
 ·match ns,hn with|[a,b],_=>rfl
 ·match ns,hn with|[a,b],_=>rfl
 ·match ns,hn with|[a],_=>rfl
 ·match ns,hn with|[a],_=>rfl
 ·match ns,hn with|[a,b],_=>rfl
 ·match ns,hn with|[a,b,c],_=>rfl
 ·match ns,hn with|[a,b,c],_=>rfl
 ·match ns,hn with|[a],_=>rfl
 ·match ns,hn with|[],_=>rfl
 ·match ns,hn with|[a],_=>rfl
 ·match ns,hn with|[a],_=>rfl
 ·match ns,hn with|[],_=>rfl
 ·match ns,hn with|[a,b,c],_=>rfl
 ·match ns,hn with|[],_=>rfl
 ·match ns,hn with|[],_=>rfl
 ·exfalso;omega
theorem WK{lo hi:Int}{a b:Nat}{row:List Int}(h:adG [(lo,hi,a,b)] [row]=true):row.length<=b/\∀x∈row,lo<=x:=by have e:(decide (a<=row.length)&&decide (row.length<=b)&&row.all (aa6 lo hi)&&true)=true:=h;simp only[aK,decide_eq_true_eq,Oz] at e;refine⟨e.1.2,λx hx=>?_⟩;have:=b0.mp e.2 x hx;unfold aa6 at this;simp at this;exact this.1
theorem call_in{i:Nat}{ns row:List Int}(hi:i<16)(hn:ns.length=gy.getD i 0)(h0:iE.getD i 0=0->row=[])(h:oQ bound (vV i ns row)=true):Od i ns row:=by
 have key:∀(lo hi:Int)(b:Nat),(bound i).2=[(lo,hi,0,b)]->iE.getD i 0≠0->row.length<=b/\∀x∈row,lo<=x:=λlo hi' b eb l1=>by
  have e:oQ bound (vV i ns row)=(PyInside.each (bound (i:Int)).1 ns&&adG (bound (i:Int)).2 [row]):=by unfold vV;rw[if_neg l1];rfl
  rw[e,aK,eb] at h;exact WK h.2
 have short:iE.getD i 0=0->row.length<=10:=λz=>by rw[h0 z];exact bB _
 refine⟨hi,hn,λn0=>?_,λz=>?_⟩
 ·rcases i with _|_|_|_|_|_|_|_|_|_|_|_|_|_|_|_|i
  ·exact absurd rfl n0
  all_goals first
   |exact(key _ _ _ rfl (by decide)).1
   |exact short rfl
   |(exfalso;omega)
 ·subst z;exact key _ _ _ rfl (by decide)
end Bp
namespace Bp
open PySem PySem.Spec PyProof.Rows L2 Bm
theorem UP(l:List Int)(n:Nat):(jN l).drop n=jN (l.drop n):=by unfold jN;rw[ux]
theorem UQ(l:List Int)(n:Nat):(jN l).take n=jN (l.take n):=by unfold jN;rw[aey]
theorem L6{l:List Int}{a b:Nat}(hb:b<=l.length)(hab:a<=b){x y:Int}(hx:x=(a:Int))(hy:y=(b:Int)):uK (jN l) (some x) (some y)=jN ((l.drop a).take (b-a)):=by subst hx hy;unfold uK;rw[HT.CJ,HT.CJ,gH];rw[show min a l.length=a by omega,show min b l.length=b by omega,UP,UQ]
theorem L7{l:List Int}{i:Nat}{x:Int}(h:l[i]? =some x):(jN l)[i]? =some (.int x):=by unfold jN;rw[aU,h];rfl
theorem PK{l:List Nat}{i x:Nat}(h:l[i]? =some x):(gP l)[i]? =some (.int (x:Nat)):=by unfold gP;rw[aU,h];rfl
def E1(K:ah)(M:List af)(H:Hp)(a:af)(l:List Int):Prop:=(¬a∈M/\Rd H a (.lst (jN l)))∨∀H',bD K H' a (jN l)
theorem E1.sq{K:ah}{M:List af}{H:Hp}{a:af}{l:List Int}(h:E1 K M H a l):bD K H a (jN l):=h.elim (λz=>.inl z.2) λz=>z H
theorem E1.step{K:ah}{M M':List af}{H H':Hp}{a:af}{l:List Int}(h:E1 K M H a l)(e:cW M H H')(hM:∀b∈M',b∈M∨H b=none):E1 K M' H' a l:=by
 rcases h with⟨n,q⟩|q
 ·refine .inl ⟨λz=>?_,?_⟩
  ·rcases hM a z with y|y
   ·exact n y
   ·rcases q with q|⟨o,q⟩<;>(rw[y] at q;cases q)
  ·rcases q with q|⟨o,q⟩
   ·exact .inl (e.at q n)
   ·exact .inr ⟨o,e.at q n⟩
 ·exact .inr q
theorem via{a rest:TS}{D:Ends}{σ:L2.St}{H:Hp}(C:L2.St->Hp->Prop)(h:(∀σ' H',C σ' H'->rest D σ' H')->R9 a rest D σ H)(k:∀σ' H',C σ' H'->rest D σ' H'):R9 a rest D σ H:=h k
theorem ZJ:∀i,i<16->gy[i]? =some (gy.getD i 0):=by decide
theorem ZK:∀i,i<16->iE[i]? =some (iE.getD i 0):=by decide
def placeOf(n:Nat)(σ:L2.St):Nat:=match σ[3]? with
 |some (some (V.int p))=>((n:Int)-p).toNat
 |_=>0
section
variable{P:bo}{w:bM}{K:ah}{mg:Str->Option aj}{base:cu}{A:Cl}{Pt:af}
structure ZL(K:ah)(A:Cl)(Pt a hs g:af)(l:List Int)(p:Nat)(M:List af)(h:lI)(out:List Int)(fuel:Nat)(rest:List (List (List Int)))(H:Hp):Prop where
 le:p<=l.length
 cP:Rg A Pt g M H hs h
 giv:H g=some (.lst (jN out))
 arg:E1 K M H a l
 cs:lL adH fuel (l.drop p)=some rest
 inn:∀c∈rest,oQ Mh c=true
 eq:jA l=out++ud (oR fM h rest)
def yY(K:ah)(Pt:af):Sp:=λvs H Q _=>∃(a:af)(l:List Int)(cs:List (List (List Int))),vs=[.ref a]/\pG LW LX Pt H/\bD K H a (jN l)/\lL adH l.length l=some cs/\(∀c∈cs,oQ Mh c=true)/\(jA l).length<=10000000/\
 ∀D H',H' D=some (.lst (jN (jA l)))->Q (.ref D) H'
theorem Oi(T:Txt K mg A)(U:Tt K mg)(Gy:Def P w K mg base "answer_call" 11 ["house","call","numbers","row"] (vU A Pt)):
  Def P w K mg base "answers" 12 ["calls"] (yY K Pt):=by
 obtain⟨tn,Cz,hTn⟩:=U.nc;obtain⟨tl,Gz,hTl⟩:=U.lc;refine T.ko.answers.ok gL (λvs H Q E h=>?_) (λf eC A' outer s H vs Q E hr h=>?_)
 ·obtain⟨a,l,cs,rfl,_⟩:=h;rfl
 ·obtain⟨a,l,cs,rfl,tg,sq,Vi,hin,hlen,k⟩:=h;refine⟨_,(aw (bZ (i:=1) gL.nd rfl fo (Ha (LZ T) hr.mono rfl)) (aw (bZ (i:=2) gL.nd rfl fo (bV ao)) (aw (bZ (i:=3) gL.nd rfl fo bx) (aw (Sb dz (cB C1 (pv 3) (cD bt (by rfl) T.b.dM cJ (aH (pv 0) ao)) (cx _)) (aw (bZ (i:=4) gL.nd rfl fo (eG cO (pv 0) (pv 3) (λ_ _=>rfl))) (aw (bZ (i:=5) gL.nd rfl fo (fh oU (fh oU (pv 3) bx) (eG MH (cU Cz rfl) (pv 4) (λ_ _=>rfl)))) (aw (bZ (i:=6) gL.nd rfl fo (nq pQ (pv 0) (m8 (fh oU (pv 3) bx)) (m8 (pv 5)))) (aw (bZ (i:=7) gL.nd rfl fo (bV ao)) (aw (dj (cB ji (eG MH (cU Gz rfl) (pv 4) (λ_ _=>rfl)) bx (cx _)) (aw (bZ (i:=7) gL.nd rfl fo (nq pQ (pv 0) (m8 (fh oU (pv 5) bx)) (m8 (fh oU (fh oU (pv 5) bx) (eG cO (pv 0) (pv 5) (λ_ _=>rfl)))))) (aF (bZ (i:=5) gL.nd rfl fo (fh oU (fh oU (pv 5) bx) (cD bt (by rfl) T.b.dM cJ (aH (pv 7) ao)))))) bO) (aw (bZ (i:=8) gL.nd rfl fo (bC Gy hr.mono rfl (aH (pv 1) (aH (pv 4) (aH (pv 6) (aH (pv 7) ao)))))) (aw (iC (oh bP cQ cR iZ (pv 2) (aH (cD bt (by rfl) T.b.dM cJ (aH (pv 8) ao)) ao))) (aw (iC (oh bP mz mB wg (pv 2) (aH (pv 8) ao))) (aF (bZ (i:=3) gL.nd rfl fo (pv 5)))))))))))) (aF (aX (pv 2))))))),?_⟩;refine aZ ?_;refineλhs dx nx ndx ne=>⟨hs,dx,rfl,ag,λrd rl H1 RL wD kJ i1 i2 i3 k1=>⟨rfl,?_⟩⟩;have s1:aS H H1:=aS.made nx ndx k1;refine b8 ?_;refine aZ ?_;refine⟨bB _,λg hg=>?_⟩;refine b8 ?_;have s2:aS H1 (upd H1 g (.lst [])):=aB hg;have yT:=s1.trans s2;have tg2:=tg.mono yT;obtain⟨ps,WJ⟩:=tg2.uA;refine aZ ?_;refine b8 ?_;refine aZ ?_;have hgv:(upd H1 g (.lst [])) g=some (.lst []):=ag;generalize upd H1 g (.lst [])=H2 at s2 yT tg2 WJ hgv⊢;have j1:=s2 _ _ i1;have j2:=s2 _ _ i2;have j3:=s2 _ _ i3;have n1:hs≠g:=aQ i1 hg;have n2:rd≠g:=aQ i2 hg;have n3:rl≠g:=aQ i3 hg;have S0:Rg A Pt g [Pt,g,hs,rd,rl] H2 hs {}:=by
   refine⟨dx,rd,rl,[],[],[],.gT,⟨λm hm=>?_,.head _,.tail _ (.head _),.tail _ (.tail _ (.head _)),.tail _ (.tail _ (.tail _ (.head _))),.tail _ (.tail _ (.tail _ (.tail _ (.head _)))),n1,n2,n3,gA WJ hgv (λz=>nomatch z),tg2,j1,j2,j3,rfl,by simp,.nil,by decide,rfl⟩⟩;simp only[aA,ff,or_false] at hm;rcases hm with rfl|rfl|rfl|rfl|rfl
   ·exact⟨_,WJ,λxs z=>nomatch z⟩
   ·exact⟨_,hgv,λxs z=>nomatch z⟩
   ·exact⟨_,j1,λxs z=>nomatch z⟩
   ·exact⟨_,j2,λxs z=>nomatch z⟩
   ·exact⟨_,j3,λxs z=>nomatch z⟩
  have NZ:∀b o,H b=some o->b≠Pt->¬b∈[Pt,g,hs,rd,rl]:=λb o q nP hm=>by
   simp only[aA,ff,or_false] at hm;rcases hm with e|e|e|e|e
   ·exact nP e
   ·have:=s1 _ _ q;rw[e,hg] at this;cases this
   ·rw[e,nx] at q;cases q
   ·have h0:=RL;have q':H rd=some o:=by rw[<-e];exact q
    rw[ax (aQ q' nx),ax (aQ q' ndx),q'] at h0;cases h0
   ·have h0:=wD;have q':H rl=some o:=by rw[<-e];exact q
    rw[ax (aQ q' nx),ax (aQ q' ndx),q'] at h0;cases h0
  have A0:E1 K [Pt,g,hs,rd,rl] H2 a l:=by
   obtain⟨ps0,RK⟩:=tg.uA;rcases sq with(q|⟨o,q⟩)|q
   ·exact .inl ⟨NZ a _ q (gA q RK (λz=>nomatch z)),.inl (yT _ _ q)⟩
   ·exact .inl ⟨NZ a _ q (gA q RK (λz=>nomatch z)),.inr ⟨o,yT _ _ q⟩⟩
   ·exact .inr λH'=>.inr q
  have e0:jA l=[]++ud (oR fM ({}:lI) cs):=by unfold jA PyVbslai.calls;rw[Vi];dsimp only;rw[show cs.map PyVbslai.whole=cs from(dc λc _=>UO c).trans (Ar _)];rfl
  refine Se (λσ H'=>∃(v4 v5 v6 v7 v8:Option V)(p:Nat)(M:List af)(h:lI)(out:List Int)(fuel:Nat)(rest:List (List (List Int))),σ=[some (.ref a),some (.ref hs),some (.ref g),some (.int (p:Nat)),v4,v5,v6,v7,v8]/\ZL K A Pt a hs g l p M h out fuel rest H')
   (λσ _=>placeOf l.length σ) ⟨none,none,none,none,none,0,_,_,[],_,_,rfl,bB _,S0,hgv,A0,Vi,hin,e0⟩ ?_ ?_
  ·rintro σ H3 ⟨v4,v5,v6,v7,v8,p,M,h,out,fuel,rest,rfl,Z⟩;have sqa:=Z.arg.sq;refine⟨_,rfl,_,rfl,a,_,rfl,.inl sqa,_,_,rfl,rfl,_,rfl,fC (λq=>?_) (λq=>?_)⟩
   ·
    rw[gH] at q;have hp:p<l.length:=by omega
    have hdp:=dD hp;have adm:=Z.cs;rw[hdp] at adm;obtain⟨f2,i,ns,row,t,PL,ei,St⟩:=Oh adm;have hi:=St.lt;have Uh:l[p]? =some ((i:Nat):Int):=by rw[au hp,ei]
    obtain⟨n,hn⟩:∃n,n=gy.getD i 0:=⟨_,rfl⟩;have Zq:=St.nl;rw[<-hn,fc] at Zq;have WC:ns.length=gy.getD i 0:=by rw[St.nsE,cK,fc,<-hn];omega
    have adn:oQ Mh (vV i ns row)=true:=Z.inn _ (by rw[St.csE];exact .head _);have Fs:Od i ns row:=call_in hi WC (λz=>(St.no z).1) adn;obtain⟨dx3,rd3,rl3,l3,alB,zs3,fv3,S3⟩:=id Z.cP;refine aZ ?_;refine⟨_,rfl,_,rfl,a,_,_,_,rfl,rfl,sqa,cG (j:=p) (L7 Uh),?_⟩;refine b8 ?_;refine aZ ?_;refine⟨_,rfl,_,_,rfl,rfl,_,rfl,tn,_,_,_,rfl,rfl,hTn H3,cG (j:=i) (PK (ZJ i hi)),_,_,rfl,rfl,?_⟩;refine b8 ?_;refine aZ ?_;refine⟨_,rfl,_,rfl,_,_,rfl,rfl,_,rfl,_,rfl,_,rfl,a,_,rfl,sqa,λd hd=>?_⟩;have Zb:uK (jN l) (some ((p:Nat)+1:Int)) (some ((p:Nat)+1+((gy.getD i 0:Nat):Int)))=jN ns:=by rw[L6 (a:=p+1) (b:=p+1+n) (by omega) (by omega) (by omega) (by rw[hn];omega),St.nsE,<-hn];congr 2;omega
    rw[Zb];refine b8 ?_;have s4:aS H3 (upd H3 d (.lst (jN ns))):=aB hd;have hd4:(upd H3 d (.lst (jN ns))) d=some (.lst (jN ns)):=ag;generalize upd H3 d (.lst (jN ns))=H4 at s4 hd4⊢;refine aZ ?_;refine⟨bB _,λe5 he5=>?_⟩;refine b8 ?_;have s5:aS H4 (upd H4 e5 (.lst [])):=aB he5;have ado:(upd H4 e5 (.lst [])) e5=some (.lst (jN [])):=ag;have hf5:H3 e5=none:=s4.free he5;generalize upd H4 e5 (.lst [])=H5 at s5 ado⊢;have s45:=s4.trans s5;have adp:=(Z.arg.step (M':=M) (cW.of s45) (λb hb=>.inl hb)).sq;obtain⟨bh,hbh⟩:∃bh:Nat,l.drop bh=t/\p<bh/\bh<=l.length/\((iE.getD i 0=0/\bh=p+1+n)∨(iE.getD i 0≠0/\bh=p+1+n+1+row.length)):=by
     by_cases z:iE.getD i 0=0
     ·refine⟨p+1+n,?_,by omega,by omega,.inl ⟨z,rfl⟩⟩;rw[(St.no z).2,nV,<-hn]
     ·obtain⟨m,m1,m2,m3,m4⟩:=St.yes z;have:n<(l.drop (p+1)).length:=by rw[hn];exact(b9.mp m1).1
      have hm5:row.length<=(l.drop (p+1)).length-(n+1):=by rw[m2,cK,fc,<-hn];omega
      rw[fc] at this hm5;refine⟨p+1+n+1+row.length,?_,by omega,by omega,.inr ⟨z,rfl⟩⟩;rw[m4,nV,m3,<-hn];congr 1;omega
    obtain⟨hb1,hb2,hb3,hb4⟩:=hbh;refine via (C:=λσ' H6=>∃e,σ'=[some (.ref a),some (.ref hs),some (.ref g),some (.int (p:Nat)),some (.int (i:Nat)),some (.int (bh:Nat)),some (.ref d),some (.ref e),v8]/\aS H3 H6/\H6 d=some (.lst (jN ns))/\H3 e=none/\H6 e=some (.lst (jN row))) (λkk=>?_) (λσ' H6 hC=>?_)
    ·refine aZ ?_;refine⟨_,rfl,tl,_,_,_,rfl,rfl,hTl H5,cG (j:=i) (PK (ZK i hi)),rfl,_,rfl,fC (λq1=>?_) (λq1=>?_)⟩
     ·have l1:iE.getD i 0≠0:=λz=>by rw[z] at q1;cases q1
      obtain⟨m,m1,m2,m3,m4⟩:=St.yes l1;have RU:bh=p+1+n+1+row.length:=by
       rcases hb4 with⟨z,_⟩|⟨_,z⟩
       ·exact absurd z l1
       ·exact z
      have hm1:l[p+1+n]? =some ((m:Nat):Int):=by rw[<-hn,List.getElem?_drop] at m1;exact m1
      have eb:((p:Nat):Int)+1+((gy.getD i 0:Nat):Int)=((p+1+n:Nat):Int):=by rw[hn];omega
      refine aZ ?_;refine⟨_,rfl,_,rfl,_,_,rfl,rfl,_,rfl,_,rfl,_,_,rfl,rfl,_,rfl,_,rfl,a,_,_,_,rfl,rfl,adp,at_of (j:=p+1+n) eb (L7 hm1),_,_,rfl,rfl,_,rfl,a,_,rfl,adp,λe6 he6=>?_⟩;have ads:uK (jN l) (some (((p:Nat):Int)+1+((gy.getD i 0:Nat):Int)+1)) (some (((p:Nat):Int)+1+((gy.getD i 0:Nat):Int)+1+((m:Nat):Int)))=jN row:=by rw[L6 (a:=p+1+n+1) (b:=p+1+n+1+m) (by omega) (by omega) (by rw[eb];omega) (by rw[eb];omega),m2,<-hn,nV];congr 2;omega
      rw[ads];refine b8 ?_;refine⟨_,rfl,_,_,rfl,rfl,_,rfl,e6,_,rfl,.inl (bD.of ag),_,_,rfl,rfl,?_⟩;refine b8 ?_;refine kk _ _ ⟨e6,?_,s45.trans (aB he6),aB he6 _ _ (s5 _ _ hd4),s45.free he6,ag⟩;have ebh:((p:Nat):Int)+1+((gy.getD i 0:Nat):Int)+1+((jN row).length:Int)=((bh:Nat):Int):=by rw[eb,gH,RU];omega
      rw[<-ebh];rfl
     ·have l0:iE.getD i 0=0:=by
       rcases Xw i hi with z|z
       ·exact z
       ·exact absurd (by rw[z];rfl) q1
      have RU:bh=p+1+n:=by
       rcases hb4 with⟨_,z⟩|⟨z,_⟩
       ·exact z
       ·exact absurd l0 z
      refine cN ?_;refine kk _ _ ⟨e5,?_,s45,s5 _ _ hd4,hf5,by rw[ado,(St.no l0).1]⟩;have ebh:((p:Nat):Int)+1+((gy.getD i 0:Nat):Int)=((bh:Nat):Int):=by rw[RU,hn];omega
      rw[<-ebh];rfl
    ·obtain⟨e,rfl,s6,hd6,hfe,he6⟩:=hC;have agR:=Z.cP.mono s6;have Xx:=s6 _ _ Z.giv;have agS:=Z.arg.step (M':=M) (cW.of s6) (λb hb=>.inl hb);refine aZ ?_;refine⟨_,rfl,_,rfl,_,rfl,_,rfl,hs,d,e,g,M,h,i,ns,row,rfl,agR,hd6,qr S3.tr.tr hfe he6,Fs,λD H7 an=>?_⟩;obtain⟨M7,ZM,eg7,hM7,hD7,eD7,sB7⟩:=an;have UR:H7 g=some (.lst (jN out)):=by rw[eg7];exact Xx
     have hgD:g≠D:=aQ Xx hD7;have Xy:fM h (vV i ns row)=bT h (Hq i ns row):=by show bT h (U1 _)=_;rw[Rk hi WC]
     obtain⟨r,ZF⟩:∃r,r=bT h (Hq i ns row):=⟨_,rfl⟩;rw[<-ZF] at ZM eD7 Xy;have adt:ud (oR fM h rest)=((r.2.length:Int)::r.2)++ud (oR fM r.1 PL):=by rw[St.csE];show ud ((fM h (vV i ns row)).2::oR fM (fM h (vV i ns row)).1 PL)=_;rw[Xy];rfl
     have heq:jA l=(out++((r.2.length:Int)::r.2))++ud (oR fM r.1 PL):=by rw[Z.eq,adt,dn]
     have acA:out.length+(r.2.length+1)<=10000000:=by have:=hlen;rw[heq,aO,aO,aV] at this;omega
     refine b8 ?_;refine aZ ?_;refine⟨_,rfl,.inl ⟨rfl,_,bD.of UR⟩,_,rfl,D,_,rfl,.inl (bD.of eD7),g,_,_,rfl,rfl,UR,?_,?_⟩
     ·rw[gH];exact bW (show out.length<=10000000 by omega) (by decide)
     have eD8:(upd H7 g (.lst (jN out++[.int (jN r.2).length]))) D=some (.lst (jN r.2)):=by rw[ax hgD.symm];exact eD7
     refine aZ ?_;refine⟨_,rfl,.inl ⟨rfl,_,bD.of ag⟩,_,rfl,g,D,_,_,rfl,rfl,ag,eD8,?_,?_⟩
     ·rw[aO,gH,gH];exact ak (show out.length+1+r.2.length<=10000000 by omega) (by decide)
     rw[OE];refine⟨_,rfl,?_⟩;refine⟨⟨_,_,_,_,_,bh,M7,r.1,out++((r.2.length:Int)::r.2),f2,PL,rfl,hb3,?_,?_,?_,by rw[hb1];exact St.rsE,λc hc=>Z.inn c (by rw[St.csE];exact .tail _ hc),heq⟩,?_⟩
     ·exact ZM.put UR
     ·rw[ag];refine congrArg (λz=>some (HO.lst z)) ?_;unfold jN;simp
     ·obtain⟨dx7,rd7,rl7,l7,alN,zs7,fv7,S7⟩:=id ZM;refine(agS.step sB7 hM7).step (M':=M7) ((cW.of (aS.refl _)).upd S7.gm) (λb hb=>.inl hb)
     ·show((l.length:Int)-(bh:Nat)).toNat<((l.length:Int)-(p:Nat)).toNat;omega
   ·
    rw[gH] at q;have hpe:p=l.length:=by have:=Z.le;omega
    have Pz:rest=[]:=by
     have:=Z.cs;rw[hpe,ZX] at this;cases fuel<;>(cases this;rfl)
    have he0:=Z.eq;rw[Pz] at he0;have he1:jA l=out:=by rw[he0];exact dE _
    refine⟨_,rfl,k g H3 ?_⟩;rw[he1];exact Z.giv
  ·rintro σ H3 Q1 Q2 hq ⟨v,e,v2,e2,p,ys,e3,e4,i,j,e5,e6,b,e7,q⟩;exact⟨v,e,v2,e2,p,ys,e3,e4,i,j,e5,e6,b,e7,hq _ _ q⟩
end
end Bp
namespace Bp
open PySem PySem.Spec PyProof.Rows L2
open PySem.W (WData Codec OpenSpec WellAll ReadsW CodeHd tabObj)
theorem Oj{P:bo}{w:bM}{K:ah}{mg mb:Str->Option aj}{k:Nat}{fa c Pt:af}{x:Str}{ps:List Str}{sp:Sp}{s1:ay}{vals:List aj}{ds:List WData}{R:ZZ}{cl:Str->Option af}{d0:WData}(KX:K.In s1.heap)(WC:s1.heap.Ns bF mg)(hb:s1.heap.Ns Jw mb)(hbb:∀x:Str,x≠"__name__"->mb x=de x)(agU:s1.heap.NoLimit)(hg:s1.gens=#[])(CT:WellAll w.params s1.heap vals ds)(wJ:B8 ds=true)(hwt:∀d∈ds,d.weight<=1048576)(hr:jf k aae)(hC:CodeHd s1.heap c Pt)(hP:s1.heap.get? Pt=some (tabObj #[]))(hKP:K.lookup Pt=none)(hBM:BMain mg s1.heap)(hmg:mg x=some (.ref fa))(F:∀base:cu,K.In base->base.Ns bF mg->BMain mg base->Def P w K mg base x k ps sp)(hlen:ds.length=ps.length)(Ry:∀(H0 H:Hp)(xs:List V),uT K H0 xs ds->aS H0 H->H Pt=some (.uA #[])->sp xs H (λv H'=>Dw K H' v d0) E0):
  qO (model P w) aae (.call (.ref fa) ⟨vals,[]⟩) (λr s'=>∃u as,r=.ok (.ret u)/\ReadsW R cl s'.heap u d0 as/\OldK s1.heap s'.heap/\s'.os=s1.os/\Vl s'.gens) s1:=by
 obtain⟨A,ho,ar⟩:=zi ds vals CT wJ hwt;have hO:Xa (qX K s1.heap A):=Qx ar;have adu:uf P w (qX K s1.heap A) s1.heap:=V0 ar;have hS:=HS KX ar ds vals CT wJ ho;have hV:=qW ho;have hK:∀b u,qX K s1.heap A b=some u->K.lookup b=none:=λb u q=>(CN ar q).1;have noC:∀{b:af}{o:Obj},s1.heap.get? b=some o->(∀its n,o.data≠.seq its n)->qX K s1.heap A b=none:=λ{b o} e d=>by
  cases q:qX K s1.heap A b with
  |none=>rfl
  |some u=>
   obtain⟨_,vs,_,_,⟨e2,_⟩|⟨e2,_⟩⟩:=CN ar q
   ·rw[e2] at e;cases e;exact absurd rfl (d _ _)
   ·rw[e2] at e;cases e;exact absurd rfl (d _ _)
 have Zw:qX K s1.heap A Pt=none:=noC hP (λits n z=>by cases z);generalize qX K s1.heap A=H0 at hO adu hS hK noC Zw;have s0:aS H0 (upd H0 Pt (.uA #[])):=aB Zw;have dI:uf P w (upd H0 Pt (.uA #[])) s1.heap:=λb u q=>by
  by_cases z:b=Pt
  ·subst z;rw[ag] at q;cases q;exact hP
  ·rw[ax z] at q;exact(adu b u q).FD (λ_ _ _ y=>y) (λb y=>s0 _ _ y) λb xs y=>s0 _ _ y
 have hHn:∀{b:af}{o:Obj},s1.heap.get? b=some o->(∀its n,o.data≠.seq its n)->o≠tabObj #[]->upd H0 Pt (.uA #[]) b=none:=λ{b o} e d n=>by rw[ax (λz=>by rw[z,hP] at e;exact n (aW e).symm)];exact noC e d
 have ZC:upd H0 Pt (.uA #[]) Pt=some (.uA #[]):=ag;have hH:∀b u,upd H0 Pt (.uA #[]) b=some u->b≠Pt->∃ob u3,upd H0 Pt (.uA #[]) b=some (.uD ob u3):=λb u q z=>by
  rw[ax z] at q⊢;rcases hO b with y|⟨ob,u3,y⟩
  ·rw[q] at y;cases y
  ·exact⟨ob,u3,y⟩
 have hK':∀b o,K.lookup b=some o->upd H0 Pt (.uA #[]) b=none:=λb o e=>by
  rw[ax (λz=>by rw[z,hKP] at e;cases e)]
  cases q:H0 b with
  |none=>rfl
  |some u=>rw[hK b u q] at e;cases e
 generalize upd H0 Pt (.uA #[])=H at s0 dI hHn ZC hH hK';have Jq:∀{b:af}{o:Obj},s1.heap.get? b=some o->H b=none->(FE s1.heap H).get? b=some o:=λe n=>RV e n;have nsK:∀{b:af}{m:Str->Option aj},s1.heap.Ns b m->(FE s1.heap H).Ns b m:=λ{b m} ⟨o,es,ep,e,d,r⟩=>⟨o,es,ep,Jq e (hHn e (λits n z=>by rw[d] at z;cases z) (λz=>by rw[z] at d;cases d)),d,r⟩;have hKb:K.In (FE s1.heap H):=λb o e=>Jq (KX b o e) (hK' b o e);have hM:Mod K mg (FE s1.heap H):=⟨hKb,nsK WC,⟨mb,nsK hb,hbb⟩,let⟨mc,h1,h2⟩:=agU;⟨mc,nsK h1,h2⟩⟩;have hBb:BMain mg (FE s1.heap H):=by
  obtain⟨bm,o,b1,b2,b3,b4,b5,b6,b7⟩:=hBM;exact⟨bm,o,b1,b2,b3,Jq b4 (hHn b4 (λits n z=>by rw[b7] at z;cases z) (λz=>by rw[z] at b7;cases b7)),b5,b6,b7⟩
 have e0:MG P w K mg (FE s1.heap H) aae [] s1 H:=⟨rfl,hM,λb o e=>Vs e,xo (P5 _ _),trivial,λb hb=>absurd (show b∈([]:List af) from hb) (by simp),dI,.of_eq hg⟩;have hl:vals.length=ps.length:=by rw[pU CT];exact hlen
 obtain⟨f',fd,Fn,hm,_,hbd⟩:=(F _ hKb (nsK WC) hBb).ex;rw[hmg] at hm;cases hm;have LR:BindsTo s1 fd ⟨vals,[]⟩ (ps.zip vals):=by have:=hbd s1 vals KX (by rw[dE];exact hl);rw[dE] at this;exact this
 refine kH (Fn.run aae [] s1 H ⟨vals,[]⟩ vals (vals.map toV) _ _ hr e0 LR hV (Ry H0 H _ hS s0 ZC)) λr s' y=>?_
 cases r with
 |error e=>exact dH y
 |ok fl=>
  cases fl with
  |next=>exact dH y
  |brk=>exact dH y
  |cont=>exact dH y
  |ret u=>
   obtain⟨v,H',os,bare,un,ZN,r',q⟩:=y;have kept:∀b o,s1.heap.get? b=some o->b≠Pt->s'.heap.get? b=some o:=λb o e nP=>by
    cases q2:H b with
    |none=>exact un.keep b o e q2 (by intro z;exact absurd (show b∈([]:List af) from z) (by simp)) (by simp)
    |some u2=>
     obtain⟨ob,u3,z⟩:=hH b u2 q2 nP;have z2:=un.Hw b ob _ z;obtain⟨e1,_⟩:=dI b _ z;obtain⟨e2,_⟩:=ZN b _ z2;rw[e] at e1;cases e1;exact e2
   obtain⟨more,adv⟩:=un.Hx Pt _ ZC;have RG:s'.heap.get? Pt=some (tabObj (#[]++more)):=ZN Pt _ adv;have KX':K.In s'.heap:=λb o e=>kept b o (KX b o e) (λz=>by rw[z,hKP] at e;cases e);obtain⟨as,RL⟩:=Dw.reads (R:=R) (cl:=cl) ZN KX' d0 v u q r';refine⟨u,as,rfl,RL,⟨λb o e=>?_,λb o e=>?_⟩,os,bare⟩
   ·by_cases z:b=Pt
    ·subst z;rw[hP] at e;cases e;exact .inr (.inl ⟨(hC.tab hP).isCodeTable,rfl,#[],more,rfl,RG⟩)
    ·exact .inl (kept b o e z)
   ·by_cases z:b=Pt
    ·rw[z];exact⟨_,RG⟩
    ·exact⟨o,kept b o e z⟩
theorem Ol{r:OpenSpec}{k:Nat}{q:bo}{loose:List Str}{XP:(Str->Option aj)->cu->Prop}{YP:bM->cu->Prop}{d d1:DefRec}{K:OD->ah}{ps:List Str}{sp:ah->af->Sp}(adw:r.wellSaid=true)(hdf:d.params.defaults=[])(hlen:r.args.length=ps.length)(hr:jf k aae)(UI:(recsOf q).find? (λe=>e.name==("best_release":Str))=some d1)(hY:∀(w:bM)(h:cu),YP w h->(K w.params).In h)(F:∀(w:bM)(mg:Str->Option aj)(h:cu),(K w.params).In h->h.Ns bF mg->∃c Pt:af,aeA (K w.params) "best_release"=some (c,Pt)/\(K w.params).lookup Pt=none/\∀base:cu,(K w.params).In base->base.Ns bF mg->BMain mg base->Def r.prog w (K w.params) mg base d.name k ps (sp (K w.params) Pt))
  (Ry:∀(K:ah)(Pt:af)(H0 H:Hp)(xs:List V)(a:Codec.denoteAll r.args),Codec.withinAll r.args a=true->Codec.app r.args r.asked a=true->uT K H0 xs (Codec.encAll r.args a)->aS H0 H->H Pt=some (.uA #[])->sp K Pt xs H (λv H'=>Dw K H' v (r.ret.enc (Codec.app r.args r.f a))) E0):
  PySem.W.WalkOS q loose XP YP r d [] (λf vs=>PySem.call f vs):=by
 intro w FF s1 mg mb G Y fa o pm cd doc dV kV ho hd R6 hD hmg hg args vals as agY agZ RL CT hlo;obtain⟨a,e1,e2⟩:=PySem.W.os_pre_some agY;obtain⟨e3,hwi⟩:=Codec.encAll_of_decAll r.args args a e1;subst e3;have KX:=hY w _ Y;obtain⟨c,Pt,ht,hKP,hF⟩:=F w mg _ KX G.T.g;obtain⟨hC,hP⟩:=PySem.W.tab_of G.T KX UI ht;have hBM:BMain mg s1.heap:=by
  obtain⟨bm,ob,b1,b2,b3,b4,b5,b6⟩:=G.T.bmain;refine⟨bm,ob,b1,b2,λz=>?_,b3,b4,b5,b6⟩;obtain⟨o,es,ep,e,d,_⟩:=G.T.g;rw[z,e] at b3;cases b3;rw[d] at b6;cases b6
 refine PySem.W.enter_call (kH (Oj (R:=[]) (cl:=classAt FF.heap) (d0:=r.ret.enc (Codec.app r.args r.f a)) KX G.T.g G.T.b G.T.builtins G.T.nolimit hg CT (GY _ _) (Di agZ) hr hC hP hKP hBM hmg hF (by rw[Dj];exact hlen) (λH0 H xs hS s0 ZC=>Ry _ Pt H0 H xs a hwi e2 hS s0 ZC)) λr' s' hq=>?_);obtain⟨u,as',rfl,h1,h2,h3,h4⟩:=hq;exact⟨.inl ⟨u,_,as',rfl,λ_=>rfl,h1,(OpenSpec.post_iff adw hwi _ _).mpr rfl,λz=>bK (show false=true from z)⟩,h2,h3,h4⟩
end Bp
namespace Bp
open PySem PySem.Spec PyProof.Rows L2
open PySem.W (nsIn findIn isFn makesIn keepIn codeIn fnOf mg_of tabIn)
section
variable{K:ah}{h:cu}{mg:Str->Option aj}{x qual m:Str}{C f:af}{st:cy}{ps:List Str}{oc kV doc pm eC ct:aj}{od an:Option af}{JO:Array (Option aj)}
theorem na(e:findIn K (.ref C) m=some none):dR K C m:=e
theorem cI{i:Int}{t:Tok}(X:K.In h)(G:h.Ns bF mg)(a:nsIn K bF x=some (some (.int i t))):sk mg x (.int i):=⟨⟨_,mg_of X G a,t,rfl⟩⟩
theorem cS{i:Str}{t:Tok}(X:K.In h)(G:h.Ns bF mg)(a:nsIn K bF x=some (some (.str i t))):sk mg x (.str i):=⟨⟨_,mg_of X G a,t,rfl⟩⟩
theorem rD(X:K.In h)(G:h.Ns bF mg)(a:nsIn K bF x=some (some (.ref f)))(l:K.lookup f=some ⟨oc,od,.func (fnOf x qual (kX st) (jl st) (aN st) .none kV doc pm an eC ct),JO⟩)(c:codeIn K eC qual=true)(k:keepIn K (.ref f)=true)(hb:∀(kV doc pm:aj)(an:Option af)(eC ct:aj)(us:List aj),us.length=ps.length->Am (fnOf x qual (kX st) (jl st) (aN st) .none kV doc pm an eC ct) ⟨us,[]⟩=pure (ps.zip us)):Raw K mg x qual st ps:=⟨f,_,uS l c k,mg_of X G a,(uS l c k).binds hb⟩
theorem rM(a:findIn K (.ref C) x=some (some (.ref f)))(i:isFn K (.ref f)=true)(l:K.lookup f=some ⟨oc,od,.func (fnOf x qual (kX st) (jl st) (aN st) .none kV doc pm an eC ct),JO⟩)(c:codeIn K eC qual=true)(k:keepIn K (.ref f)=true)(hb:∀(kV doc pm:aj)(an:Option af)(eC ct:aj)(us:List aj),us.length=ps.length->Am (fnOf x qual (kX st) (jl st) (aN st) .none kV doc pm an eC ct) ⟨us,[]⟩=pure (ps.zip us)):iQ K C x qual st ps:=⟨f,_,uS l c k,⟨a,i,k⟩,(uS l c k).binds hb⟩
theorem rI(X:K.In h)(G:h.Ns bF mg)(aC:nsIn K bF m=some (some (.ref C)))(mk:makesIn K C=true)(a:findIn K (.ref C) "__init__"=some (some (.ref f)))(i:isFn K (.ref f)=true)(kc:keepIn K (.ref C)=true)(l:K.lookup f=some ⟨oc,od,.func (fnOf "__init__" qual (kX st) (jl st) (aN st) .none kV doc pm an eC ct),JO⟩)(c:codeIn K eC qual=true)(k:keepIn K (.ref f)=true)(hb:∀(kV doc pm:aj)(an:Option af)(eC ct:aj)(us:List aj),us.length=ps.length->Am (fnOf "__init__" qual (kX st) (jl st) (aN st) .none kV doc pm an eC ct) ⟨us,[]⟩=pure (ps.zip us)):AO K mg m C qual st ps:=⟨f,_,uS l c k,⟨mk,a,i,kc⟩,(uS l c k).binds hb,mg_of X G aC⟩
theorem rC{c Pt:af}{vs:Array aj}{od2:Option af}{Vj:Array (Option aj)}{file:Str}{tf tg tt:Tok}{flags txt:Int}{inF:Bool}(X:K.In h)(G:h.Ns bF mg)(a:nsIn K bF x=some (some (.ref f)))(l:K.lookup f=some ⟨oc,od,.func (fnOf x qual (kX st) (jl st) (aN st) .none kV doc pm an (.ref c) ct),JO⟩)(cc:codeIn K (.ref c) qual=true)(k:keepIn K (.ref f)=true)(hb:∀(kV doc pm:aj)(an:Option af)(eC ct:aj)(us:List aj),us.length=ps.length->Am (fnOf x qual (kX st) (jl st) (aN st) .none kV doc pm an eC ct) ⟨us,[]⟩=pure (ps.zip us))(lc:K.lookup c=some ⟨.type "code",od2,.fields vs,Vj⟩)(v1:vs[11]? =some (.ref Pt))(v2:vs.getD 18 .none=.str file tf)(v3:vs.getD 7 .none=.int flags tg)(v4:vs.getD 9 .none=.bool inF)(v5:vs.getD 10 .none=.int txt tt)(ne:(c==Pt)=false):
  UL K mg x qual st ps c Pt/\tabIn K x=some (c,Pt):=by
 refine⟨⟨⟨f,_,uS l cc k,mg_of X G a,(uS l cc k).binds hb,rfl⟩,λh X=>⟨_,vs,file,tf,flags,tg,inF,txt,tt,X _ _ lc,rfl,rfl,v1,?_,v2,v3,v4,v5,beq_eq_false_iff_ne.mp ne⟩⟩,?_⟩
 ·rw[Array.getD_eq_getD_getElem?,v1];rfl
 ·unfold aeA;rw[a];dsimp only;rw[l];dsimp only;rw[lc];dsimp only;rw[v1]
def Jr:List aj->List Nat->Bool
 |[],[]=>true
 |.int i _::us,n::ns=>i==(n:Int)&&Jr us ns
 |_,_=>false
theorem BZ:∀{us:List aj}{ns:List Nat},Jr us ns=true->Vals (gP ns) us
 |[],[],_=>.nil
 |.int i t::us,n::ns,e=>by have e':(i==(n:Int)&&Jr us ns)=true:=e;rw[aK,beq_iff_eq] at e';exact .cons ⟨t,by rw[e'.1]⟩ (BZ e'.2)
theorem tN{t:af}{its:Array aj}{n:Nat}{ns:List Nat}(X:K.In h)(G:h.Ns bF mg)(a:nsIn K bF x=some (some (.ref t)))(l:K.lookup t=some ⟨.type "tuple",od,.seq its n,JO⟩)(hl:ns.length<=100)(e:Jr its.toList ns=true):
  ∃t,sk mg x (.ref t)/\∀H,nj K H t (gP ns):=by
 have v:=BZ e;have:=v.length;rw[eh] at this;exact⟨t,⟨⟨_,mg_of X G a,rfl⟩⟩,λH=>.inr ⟨_,its,n,l,rfl,rfl,by rw[<-ig,<-this];exact ak hl (by decide),v⟩⟩
end
theorem tA{K:ah}{h:cu}{mg:Str->Option aj}{t f0 f1 f2 f3 f4 f5 f6 f7 f8 f9 f10 f11 f12 f13 f14 f15:af}{od:Option af}{JO:Array (Option aj)}{n:Nat}(X:K.In h)(G:h.Ns bF mg)(a:nsIn K bF "ANSWERERS"=some (some (.ref t)))(a0:nsIn K bF "answer_form"=some (some (.ref f0)))(a1:nsIn K bF "answer_sleeper"=some (some (.ref f1)))(a2:nsIn K bF "answer_change"=some (some (.ref f2)))(a3:nsIn K bF "answer_show"=some (some (.ref f3)))(a4:nsIn K bF "answer_alike"=some (some (.ref f4)))(a5:nsIn K bF "answer_short"=some (some (.ref f5)))(a6:nsIn K bF "answer_plan"=some (some (.ref f6)))(a7:nsIn K bF "answer_release"=some (some (.ref f7)))(a8:nsIn K bF "answer_text"=some (some (.ref f8)))(a9:nsIn K bF "answer_releases"=some (some (.ref f9)))(a10:nsIn K bF "answer_hidden"=some (some (.ref f10)))(a11:nsIn K bF "answer_could"=some (some (.ref f11)))(a12:nsIn K bF "answer_cost"=some (some (.ref f12)))(a13:nsIn K bF "answer_next"=some (some (.ref f13)))(a14:nsIn K bF "answer_print"=some (some (.ref f14)))(a15:nsIn K bF "answer_counts"=some (some (.ref f15)))(l:K.lookup t=some ⟨.type "tuple",od,.seq #[.ref f0,.ref f1,.ref f2,.ref f3,.ref f4,.ref f5,.ref f6,.ref f7,.ref f8,.ref f9,.ref f10,.ref f11,.ref f12,.ref f13,.ref f14,.ref f15] n,JO⟩):
  ∃(t:af)(fs:List af),sk mg "ANSWERERS" (.ref t)/\(∀H,nj K H t (iJ fs))/\∀(i:Nat)(n:Str),vT[i]? =some n->∃f,fs[i]? =some f/\mg n=some (.ref f):=by
 refine⟨t,[f0,f1,f2,f3,f4,f5,f6,f7,f8,f9,f10,f11,f12,f13,f14,f15],⟨⟨_,mg_of X G a,rfl⟩⟩,λH=>.inr ⟨_,_,n,l,rfl,rfl,by show 16<=az;decide,?_⟩,λi n hn=>?_⟩
 ·exact .cons rfl (.cons rfl (.cons rfl (.cons rfl (.cons rfl (.cons rfl (.cons rfl (.cons rfl (.cons rfl (.cons rfl (.cons rfl (.cons rfl (.cons rfl (.cons rfl (.cons rfl (.cons rfl .nil)))))))))))))))
 ·rcases i with _|_|_|_|_|_|_|_|_|_|_|_|_|_|_|_|i
  ·cases hn;exact⟨_,rfl,mg_of X G a0⟩
  ·cases hn;exact⟨_,rfl,mg_of X G a1⟩
  ·cases hn;exact⟨_,rfl,mg_of X G a2⟩
  ·cases hn;exact⟨_,rfl,mg_of X G a3⟩
  ·cases hn;exact⟨_,rfl,mg_of X G a4⟩
  ·cases hn;exact⟨_,rfl,mg_of X G a5⟩
  ·cases hn;exact⟨_,rfl,mg_of X G a6⟩
  ·cases hn;exact⟨_,rfl,mg_of X G a7⟩
  ·cases hn;exact⟨_,rfl,mg_of X G a8⟩
  ·cases hn;exact⟨_,rfl,mg_of X G a9⟩
  ·cases hn;exact⟨_,rfl,mg_of X G a10⟩
  ·cases hn;exact⟨_,rfl,mg_of X G a11⟩
  ·cases hn;exact⟨_,rfl,mg_of X G a12⟩
  ·cases hn;exact⟨_,rfl,mg_of X G a13⟩
  ·cases hn;exact⟨_,rfl,mg_of X G a14⟩
  ·cases hn;exact⟨_,rfl,mg_of X G a15⟩
  ·exact absurd hn (by show vT[i+16]? ≠some n;rw[c6 (by show 16<=i+16;omega)];exactλz=>nomatch z)
theorem ZO{P:bo}{w:bM}{K:ah}{mg:Str->Option aj}{A:Cl}{c Pt:af}(T:Txt K mg A)(Y:Zo K A)(U:Tt K mg)(R:UL K mg "best_release" "best_release" ia ["form","rows","releases","numbers","asked"] c Pt/\tabIn K "best_release"=some (c,Pt))(hK:K.lookup Pt=none):
  ∃c Pt:af,tabIn K "best_release"=some (c,Pt)/\K.lookup Pt=none/\∀base:cu,K.In base->base.Ns bF mg->BMain mg base->Def P w K mg base "answers" 12 ["calls"] (yY K Pt):=
 ⟨c,Pt,R.2,hK,λbase kb nb bm=>Oi T U (EZ T Y U (Ct T R.1 kb bm))⟩
end Bp
namespace Bp
open PyVbslai
theorem US{l:List Int}(h:answers_asked l=true):∃cs,lL shape l.length l=some cs/\(∀c∈cs,oQ bound c=true)/\(answers l).length<=10000000:=by
 unfold answers_asked at h
 cases e:lL shape l.length l with
 |none=>rw[e] at h;cases h
 |some raw=>rw[e] at h;dsimp only at h;simp only[aK] at h;obtain⟨⟨⟨⟨_,_⟩,h1⟩,_⟩,h2⟩:=h;refine⟨raw,rfl,λc hc=>b0.mp h1 c hc,?_⟩;unfold PyFlat.short at h2;exact of_decide_eq_true h2
end Bp
open PySem PySem.W PyProof.Rows
open Bp (na cI cS rD rM rI rC tN tA)
set_option maxRecDepth 100000 in
set_option maxHeartbeats 0 in
theorem PySem.Challenge.cw_blindrelease_s01_answers_holds : PySem.Challenge.rw_blindrelease_s01_answers.Holds := by
 w_on;k_headS;(case hw=>exact⟨[.list [.int 15]],by decide+kernel,by decide+kernel⟩)
 k_fillS
 refine Bp.Ol (r:=wG) (k:=12) (ps:=["calls"]) (sp:=Bp.yY) (by decide+kernel) rfl rfl ⟨rfl,by decide,by decide⟩ rfl (λw h Y=>PySem.W.kIn_of Y) ?F ?S
 case F=>
  intro w mg h KX G;refine' Bp.ZO (A:=⟨?_,?_,?_,?_,?_,?_,?_,?_⟩)
   ⟨⟨⟨?_,?_,?_,?_⟩,(na ?_),(na ?_),(na ?_),(rI KX G ?_ ?_ ?_ ?_ ?_ ?_ ?_ ?_ (λ_ _ _ _ _ _ us hl=>match us,hl with|[_,_,_,_],_=>rfl))⟩,
   ⟨⟨?_,?_,?_,?_⟩,(na ?_),(na ?_),(na ?_),(na ?_),(na ?_),(rI KX G ?_ ?_ ?_ ?_ ?_ ?_ ?_ ?_ (λ_ _ _ _ _ _ us hl=>match us,hl with|[_,_,_,_,_,_],_=>rfl)),(rM ?_ ?_ ?_ ?_ ?_ (λ_ _ _ _ _ _ us hl=>match us,hl with|[_,_],_=>rfl)),(rM ?_ ?_ ?_ ?_ ?_ (λ_ _ _ _ _ _ us hl=>match us,hl with|[_],_=>rfl))⟩,
   ⟨⟨?_,?_,?_,?_⟩,(na ?_),(na ?_),(na ?_),(na ?_),(rI KX G ?_ ?_ ?_ ?_ ?_ ?_ ?_ ?_ (λ_ _ _ _ _ _ us hl=>match us,hl with|[_,_,_,_,_],_=>rfl)),(rM ?_ ?_ ?_ ?_ ?_ (λ_ _ _ _ _ _ us hl=>match us,hl with|[_],_=>rfl))⟩,
   ⟨⟨?_,?_,?_,?_⟩,(na ?_),(na ?_),(na ?_),(rI KX G ?_ ?_ ?_ ?_ ?_ ?_ ?_ ?_ (λ_ _ _ _ _ _ us hl=>match us,hl with|[_,_,_],_=>rfl)),(rM ?_ ?_ ?_ ?_ ?_ (λ_ _ _ _ _ _ us hl=>match us,hl with|[_],_=>rfl)),(rM ?_ ?_ ?_ ?_ ?_ (λ_ _ _ _ _ _ us hl=>match us,hl with|[_],_=>rfl)),(rM ?_ ?_ ?_ ?_ ?_ (λ_ _ _ _ _ _ us hl=>match us,hl with|[_],_=>rfl)),(rM ?_ ?_ ?_ ?_ ?_ (λ_ _ _ _ _ _ us hl=>match us,hl with|[_,_],_=>rfl)),(rM ?_ ?_ ?_ ?_ ?_ (λ_ _ _ _ _ _ us hl=>match us,hl with|[_,_,_],_=>rfl))⟩,
   ⟨⟨?_,?_,?_,?_⟩,(na ?_),(na ?_),(na ?_),(na ?_),(rI KX G ?_ ?_ ?_ ?_ ?_ ?_ ?_ ?_ (λ_ _ _ _ _ _ us hl=>match us,hl with|[_,_],_=>rfl)),(rM ?_ ?_ ?_ ?_ ?_ (λ_ _ _ _ _ _ us hl=>match us,hl with|[_,_,_],_=>rfl)),(rM ?_ ?_ ?_ ?_ ?_ (λ_ _ _ _ _ _ us hl=>match us,hl with|[_,_],_=>rfl)),(rM ?_ ?_ ?_ ?_ ?_ (λ_ _ _ _ _ _ us hl=>match us,hl with|[_],_=>rfl)),(rM ?_ ?_ ?_ ?_ ?_ (λ_ _ _ _ _ _ us hl=>match us,hl with|[_],_=>rfl)),(rM ?_ ?_ ?_ ?_ ?_ (λ_ _ _ _ _ _ us hl=>match us,hl with|[_],_=>rfl)),(rM ?_ ?_ ?_ ?_ ?_ (λ_ _ _ _ _ _ us hl=>match us,hl with|[_,_],_=>rfl)),(rM ?_ ?_ ?_ ?_ ?_ (λ_ _ _ _ _ _ us hl=>match us,hl with|[_,_,_],_=>rfl))⟩,
   ⟨⟨?_,?_,?_,?_⟩,(na ?_),(na ?_),(na ?_),(rI KX G ?_ ?_ ?_ ?_ ?_ ?_ ?_ ?_ (λ_ _ _ _ _ _ us hl=>match us,hl with|[_,_,_,_],_=>rfl)),(rM ?_ ?_ ?_ ?_ ?_ (λ_ _ _ _ _ _ us hl=>match us,hl with|[_],_=>rfl)),(rM ?_ ?_ ?_ ?_ ?_ (λ_ _ _ _ _ _ us hl=>match us,hl with|[_,_],_=>rfl)),(rM ?_ ?_ ?_ ?_ ?_ (λ_ _ _ _ _ _ us hl=>match us,hl with|[_,_],_=>rfl)),(rM ?_ ?_ ?_ ?_ ?_ (λ_ _ _ _ _ _ us hl=>match us,hl with|[_,_],_=>rfl)),(rM ?_ ?_ ?_ ?_ ?_ (λ_ _ _ _ _ _ us hl=>match us,hl with|[_,_],_=>rfl)),(rM ?_ ?_ ?_ ?_ ?_ (λ_ _ _ _ _ _ us hl=>match us,hl with|[_,_,_],_=>rfl)),(rM ?_ ?_ ?_ ?_ ?_ (λ_ _ _ _ _ _ us hl=>match us,hl with|[_,_],_=>rfl))⟩,
   ⟨⟨?_,?_,?_,?_⟩,(na ?_),(na ?_),(na ?_),(na ?_),(rI KX G ?_ ?_ ?_ ?_ ?_ ?_ ?_ ?_ (λ_ _ _ _ _ _ us hl=>match us,hl with|[_],_=>rfl)),(rM ?_ ?_ ?_ ?_ ?_ (λ_ _ _ _ _ _ us hl=>match us,hl with|[_,_],_=>rfl)),(rM ?_ ?_ ?_ ?_ ?_ (λ_ _ _ _ _ _ us hl=>match us,hl with|[_],_=>rfl)),(rM ?_ ?_ ?_ ?_ ?_ (λ_ _ _ _ _ _ us hl=>match us,hl with|[_],_=>rfl)),(rM ?_ ?_ ?_ ?_ ?_ (λ_ _ _ _ _ _ us hl=>match us,hl with|[_,_],_=>rfl)),(rM ?_ ?_ ?_ ?_ ?_ (λ_ _ _ _ _ _ us hl=>match us,hl with|[_,_],_=>rfl)),(rM ?_ ?_ ?_ ?_ ?_ (λ_ _ _ _ _ _ us hl=>match us,hl with|[_,_],_=>rfl)),(rM ?_ ?_ ?_ ?_ ?_ (λ_ _ _ _ _ _ us hl=>match us,hl with|[_,_],_=>rfl)),(rM ?_ ?_ ?_ ?_ ?_ (λ_ _ _ _ _ _ us hl=>match us,hl with|[_,_],_=>rfl)),(rM ?_ ?_ ?_ ?_ ?_ (λ_ _ _ _ _ _ us hl=>match us,hl with|[_,_],_=>rfl)),(rM ?_ ?_ ?_ ?_ ?_ (λ_ _ _ _ _ _ us hl=>match us,hl with|[_,_],_=>rfl)),(rM ?_ ?_ ?_ ?_ ?_ (λ_ _ _ _ _ _ us hl=>match us,hl with|[_,_],_=>rfl)),(rM ?_ ?_ ?_ ?_ ?_ (λ_ _ _ _ _ _ us hl=>match us,hl with|[_,_],_=>rfl)),(rM ?_ ?_ ?_ ?_ ?_ (λ_ _ _ _ _ _ us hl=>match us,hl with|[_,_],_=>rfl))⟩,
   ⟨⟨?_,?_,?_,?_⟩,(na ?_),(na ?_),(na ?_),(rI KX G ?_ ?_ ?_ ?_ ?_ ?_ ?_ ?_ (λ_ _ _ _ _ _ us hl=>match us,hl with|[_],_=>rfl)),(rM ?_ ?_ ?_ ?_ ?_ (λ_ _ _ _ _ _ us hl=>match us,hl with|[_,_],_=>rfl)),(rM ?_ ?_ ?_ ?_ ?_ (λ_ _ _ _ _ _ us hl=>match us,hl with|[_],_=>rfl)),(rM ?_ ?_ ?_ ?_ ?_ (λ_ _ _ _ _ _ us hl=>match us,hl with|[_,_],_=>rfl)),(rM ?_ ?_ ?_ ?_ ?_ (λ_ _ _ _ _ _ us hl=>match us,hl with|[_,_],_=>rfl))⟩,
   ⟨(rD KX G ?_ ?_ ?_ ?_ (λ_ _ _ _ _ _ us hl=>match us,hl with|[_],_=>rfl)),(rD KX G ?_ ?_ ?_ ?_ (λ_ _ _ _ _ _ us hl=>match us,hl with|[_,_],_=>rfl)),(rD KX G ?_ ?_ ?_ ?_ (λ_ _ _ _ _ _ us hl=>match us,hl with|[_,_,_],_=>rfl)),(rD KX G ?_ ?_ ?_ ?_ (λ_ _ _ _ _ _ us hl=>match us,hl with|[_,_,_,_],_=>rfl)),(rD KX G ?_ ?_ ?_ ?_ (λ_ _ _ _ _ _ us hl=>match us,hl with|[_,_,_],_=>rfl))⟩,
   ⟨(rD KX G ?_ ?_ ?_ ?_ (λ_ _ _ _ _ _ us hl=>match us,hl with|[_,_,_,_,_],_=>rfl)),(rD KX G ?_ ?_ ?_ ?_ (λ_ _ _ _ _ _ us hl=>match us,hl with|[_,_],_=>rfl)),(rD KX G ?_ ?_ ?_ ?_ (λ_ _ _ _ _ _ us hl=>match us,hl with|[_,_,_],_=>rfl)),(rD KX G ?_ ?_ ?_ ?_ (λ_ _ _ _ _ _ us hl=>match us,hl with|[_,_],_=>rfl)),(rD KX G ?_ ?_ ?_ ?_ (λ_ _ _ _ _ _ us hl=>match us,hl with|[_,_],_=>rfl)),(rD KX G ?_ ?_ ?_ ?_ (λ_ _ _ _ _ _ us hl=>match us,hl with|[_,_],_=>rfl)),(rD KX G ?_ ?_ ?_ ?_ (λ_ _ _ _ _ _ us hl=>match us,hl with|[_,_,_,_,_],_=>rfl)),(rD KX G ?_ ?_ ?_ ?_ (λ_ _ _ _ _ _ us hl=>match us,hl with|[_,_],_=>rfl)),(rD KX G ?_ ?_ ?_ ?_ (λ_ _ _ _ _ _ us hl=>match us,hl with|[_,_,_,_],_=>rfl)),(rD KX G ?_ ?_ ?_ ?_ (λ_ _ _ _ _ _ us hl=>match us,hl with|[_,_,_,_,_],_=>rfl)),(rD KX G ?_ ?_ ?_ ?_ (λ_ _ _ _ _ _ us hl=>match us,hl with|[_,_,_,_,_],_=>rfl))⟩,
   ⟨(rD KX G ?_ ?_ ?_ ?_ (λ_ _ _ _ _ _ us hl=>match us,hl with|[_],_=>rfl)),(rD KX G ?_ ?_ ?_ ?_ (λ_ _ _ _ _ _ us hl=>match us,hl with|[_],_=>rfl)),(rD KX G ?_ ?_ ?_ ?_ (λ_ _ _ _ _ _ us hl=>match us,hl with|[_],_=>rfl)),(rD KX G ?_ ?_ ?_ ?_ (λ_ _ _ _ _ _ us hl=>match us,hl with|[_],_=>rfl)),(rD KX G ?_ ?_ ?_ ?_ (λ_ _ _ _ _ _ us hl=>match us,hl with|[_],_=>rfl)),(rD KX G ?_ ?_ ?_ ?_ (λ_ _ _ _ _ _ us hl=>match us,hl with|[_],_=>rfl)),(rD KX G ?_ ?_ ?_ ?_ (λ_ _ _ _ _ _ us hl=>match us,hl with|[_],_=>rfl)),(rD KX G ?_ ?_ ?_ ?_ (λ_ _ _ _ _ _ us hl=>match us,hl with|[_,_,_],_=>rfl)),(rD KX G ?_ ?_ ?_ ?_ (λ_ _ _ _ _ _ us hl=>match us,hl with|[_,_,_],_=>rfl))⟩,
   ⟨(rD KX G ?_ ?_ ?_ ?_ (λ_ _ _ _ _ _ us hl=>match us,hl with|[_],_=>rfl)),(rD KX G ?_ ?_ ?_ ?_ (λ_ _ _ _ _ _ us hl=>match us,hl with|[_],_=>rfl))⟩,
   ⟨(rD KX G ?_ ?_ ?_ ?_ (λ_ _ _ _ _ _ us hl=>match us,hl with|[_],_=>rfl)),(rD KX G ?_ ?_ ?_ ?_ (λ_ _ _ _ _ _ us hl=>match us,hl with|[_],_=>rfl)),(rD KX G ?_ ?_ ?_ ?_ (λ_ _ _ _ _ _ us hl=>match us,hl with|[_,_],_=>rfl)),(rD KX G ?_ ?_ ?_ ?_ (λ_ _ _ _ _ _ us hl=>match us,hl with|[_,_,_],_=>rfl))⟩,
   ⟨(rD KX G ?_ ?_ ?_ ?_ (λ_ _ _ _ _ _ us hl=>match us,hl with|[_,_,_,_],_=>rfl)),(rD KX G ?_ ?_ ?_ ?_ (λ_ _ _ _ _ _ us hl=>match us,hl with|[_,_],_=>rfl)),(rD KX G ?_ ?_ ?_ ?_ (λ_ _ _ _ _ _ us hl=>match us,hl with|[_,_,_],_=>rfl)),(rD KX G ?_ ?_ ?_ ?_ (λ_ _ _ _ _ _ us hl=>match us,hl with|[_],_=>rfl)),(rD KX G ?_ ?_ ?_ ?_ (λ_ _ _ _ _ _ us hl=>match us,hl with|[_,_,_],_=>rfl)),(rD KX G ?_ ?_ ?_ ?_ (λ_ _ _ _ _ _ us hl=>match us,hl with|[_,_,_],_=>rfl)),(rD KX G ?_ ?_ ?_ ?_ (λ_ _ _ _ _ _ us hl=>match us,hl with|[_,_,_],_=>rfl)),(rD KX G ?_ ?_ ?_ ?_ (λ_ _ _ _ _ _ us hl=>match us,hl with|[_,_,_],_=>rfl)),(rD KX G ?_ ?_ ?_ ?_ (λ_ _ _ _ _ _ us hl=>match us,hl with|[_,_,_],_=>rfl)),(rD KX G ?_ ?_ ?_ ?_ (λ_ _ _ _ _ _ us hl=>match us,hl with|[_,_,_],_=>rfl)),(rD KX G ?_ ?_ ?_ ?_ (λ_ _ _ _ _ _ us hl=>match us,hl with|[_,_,_],_=>rfl)),(rD KX G ?_ ?_ ?_ ?_ (λ_ _ _ _ _ _ us hl=>match us,hl with|[_,_,_],_=>rfl)),(rD KX G ?_ ?_ ?_ ?_ (λ_ _ _ _ _ _ us hl=>match us,hl with|[_,_,_],_=>rfl)),(rD KX G ?_ ?_ ?_ ?_ (λ_ _ _ _ _ _ us hl=>match us,hl with|[_,_,_],_=>rfl)),(rD KX G ?_ ?_ ?_ ?_ (λ_ _ _ _ _ _ us hl=>match us,hl with|[_,_,_],_=>rfl)),(rD KX G ?_ ?_ ?_ ?_ (λ_ _ _ _ _ _ us hl=>match us,hl with|[_,_,_],_=>rfl)),(rD KX G ?_ ?_ ?_ ?_ (λ_ _ _ _ _ _ us hl=>match us,hl with|[_,_,_],_=>rfl)),(rD KX G ?_ ?_ ?_ ?_ (λ_ _ _ _ _ _ us hl=>match us,hl with|[_,_,_],_=>rfl)),(rD KX G ?_ ?_ ?_ ?_ (λ_ _ _ _ _ _ us hl=>match us,hl with|[_,_,_],_=>rfl)),(rD KX G ?_ ?_ ?_ ?_ (λ_ _ _ _ _ _ us hl=>match us,hl with|[_,_,_],_=>rfl)),(rD KX G ?_ ?_ ?_ ?_ (λ_ _ _ _ _ _ us hl=>match us,hl with|[_,_,_,_],_=>rfl)),(rD KX G ?_ ?_ ?_ ?_ (λ_ _ _ _ _ _ us hl=>match us,hl with|[_],_=>rfl))⟩,
   ⟨cI KX G ?_,cS KX G ?_,cI KX G ?_,cI KX G ?_,cS KX G ?_,cS KX G ?_,cI KX G ?_,cI KX G ?_,cI KX G ?_,cI KX G ?_,cI KX G ?_,cI KX G ?_,cI KX G ?_,cI KX G ?_,cI KX G ?_,cI KX G ?_,cI KX G ?_,cI KX G ?_,cI KX G ?_,cI KX G ?_,cI KX G ?_,cI KX G ?_,cI KX G ?_,cI KX G ?_,cI KX G ?_,cI KX G ?_,cI KX G ?_,cI KX G ?_,cI KX G ?_,cI KX G ?_⟩,
   ⟨cq KX G ?_,cq KX G ?_,cq KX G ?_,cq KX G ?_,cq KX G ?_,cq KX G ?_,cq KX G ?_,cq KX G ?_,cq KX G ?_,cq KX G ?_,cq KX G ?_,cq KX G ?_,cq KX G ?_,cq KX G ?_,cq KX G ?_,cq KX G ?_,cq KX G ?_⟩⟩
   ⟨?_,?_,?_,?_,?_,?_,?_,?_⟩
   ⟨tN KX G ?_ ?_ (by decide) ?_,tN KX G ?_ ?_ (by decide) ?_,tA KX G ?_ ?_ ?_ ?_ ?_ ?_ ?_ ?_ ?_ ?_ ?_ ?_ ?_ ?_ ?_ ?_ ?_ ?_⟩
   (rC KX G ?_ ?_ ?_ ?_ (λ_ _ _ _ _ _ us hl=>match us,hl with|[_,_,_,_,_],_=>rfl) ?_ ?_ ?_ ?_ ?_ ?_ ?_) ?_
  all_goals try k_is
  all_goals try k_is
  all_goals try k_is
  all_goals try rfl
  all_goals kernel_rfl
 case S=>
  intro K Pt H0 H xs a hwi ag7 hx s0 hP
  cases hx with
  |cons h1 h2=>
   cases h2
   cases h1 with
   |lst hs ha=>have e:=L2.OU a.1 _ ha;subst e;obtain⟨cs,h1,h2,h3⟩:=Bp.US ag7;exact⟨_,a.1,cs,rfl,.inl hP,s0.seq hs,h1,h2,h3,λD H' hp=>.lst (L2.bD.of hp) (L2.OT _)⟩
