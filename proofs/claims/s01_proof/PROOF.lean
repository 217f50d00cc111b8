import PyProof.Rows.All
import Wide.All
import OpenK.AllK
import Wide.FinOn
import PyProof.EqAt
import PyProof.EqKinds
import PyProof.TupleCall
import KE.BitLaws
import KE.KSortTupG
import KE.KDictList
import PyProof.ListRange
import Open.SpecLaws
import KE.OsHead
import KE.OsGo
import PyVbsoab
import PySem.Challenge.RW_provinceboard_s01_answers
set_option Elab.async false
set_option linter.all false
set_option maxRecDepth 100000
set_option maxHeartbeats 4000000
open List renaming length_map->aa,mem_append_right->au,getElem?_eq_some_iff->ax,length_append->aA,mem_cons_of_mem->aE,mem_cons->aF,length_cons->aG,mem_of_getElem?->aN,getElem?_eq_getElem->aR,getElem?_map->aX,mem_singleton->aY,map_cons->a7,mem_map->a9,range->be,map_append->bh,mem_append->bx,mem_cons_self->bz,mem_append_left->bJ,take_length->bM,mem_range->bN,length_singleton->bS,size_toArray->bZ,getD_eq_getElem?_getD->b_,length_take->cx,map_map->cz,length_range->cB,append_assoc->cF,all_eq_true->cI,length_filter_le->cY,nodup_cons->c7,mem_filter->c8,append_nil->dw,getElem?_append_left->dC,getElem?_of_mem->dG,getElem?_append_right->eO,filter_append->eP,find?_cons->eR,map_congr_left->eX,not_mem_nil->fE,map_nil->fN,length_nil->fP,contains_iff_mem->fS,flatMap_append->gB,findIdx?_eq_some_iff_getElem->gU,flatMap_cons->hU,lookup_cons->iL,cons_append->iM,pairwise_cons->jc,any_cons->ju,pairwise_map->jO,length->j_,drop_eq_getElem_cons->kU,lookup->mK,length_eq_zero_iff->mL,take_of_length_le->mR,getElem?_set_self->mS,drop_zero->mT,all_map->mU,take_append_drop->om,length_drop->oq,getElem?_set_ne->o8,nil_append->pH,length_set->pI,findIdx?_cons->rb,findIdx?_eq_none_iff->sD,take_append_getElem->tJ,isEmpty_iff->vx,getElem?_cons_zero->vy,filter_cons->vA,drop_length->vB,any_eq_true->vC,pairwise_lt_range->vU,length_pos_of_mem->vV,flatMap_singleton->vW,getElem?_toArray->yZ,getElem?_eq_none->y6,take_zero->zN,forIn_nil->zO,take_succ_cons->Bs,getElem?_range->Bt,filterMap_cons->Bu,map_take->Cs,all_cons->Ct,zip_cons_cons->Cv,find?_eq_none->Cw,nodup_append->Et,flatten_cons->Eu,all_eq_false->Ew,mem_flatMap->FP,of_mem_zip->Ib,forIn_cons->Ic,length_erase_of_mem->L4,getElem?_cons_succ->OI,range_succ_eq_map->OR,any_map->OS,pairwise_flatMap->QR,range'->R9,mem_of_mem_take->R_,mem_erase_of_ne->R',map_id->Sa,toList_toArray->TK,length_pos_iff->TM,eraseDups_cons->TN,mem_filterMap->T_,take_sublist->Ww,filter_congr->Wx,getElem_inj->WL,find?_some->Ys,take_succ->YU,drop_drop->YV,sum_cons->aao
open PySem.W renaming Frag->ae,nsIn->aM,mg_of->aU,findIn->dm,mg_none_of->dI,fnOf->fe,keepIn->fH,emptyDict->fI,instObj->gQ,WData->lR,codeIn->mJ,callWith_K->qD,plainGet->tu,isFn->uW,methodCall_KW->vN,lookIn->yy,plainGet_of->zi,methodObj->Cq,hasDictIn->Cr,WellAll->Ep,takerIn->Fb,makesIn->Fc,length_le_weightAllW->Fd,cellsFrom_some->LP,callWith_K0->OP,plainOver->R7,handedIn->TF,WRecords->TH,WalkOS->Wt
open PySem renaming Addr->af,wpAny_bind->ah,Value->ai,sizeLine->ao,Shared->ay,wpAny_pure->aH,mainGlobals->aI,FuncData->aZ,boot_len->bf,Program->bj,wpAny->bD,sizeLine_eq->bI,World->bV,starEach->cM,mem_of_lookup->cO,Around->cQ,Heap->cX,Stmt->c_,sysModules->eB,compareOp->e_,cellsFrom->fc,wpAny_truthy_bool->fk,DictEntry->fT,wpAny_call_entry->gw,codeAny_builtin->gH,wpAny_mono->gX,wpAny_Call_Name_kw->gY,NameKind->iH,wpAny_holding->iT,attributeBase->iU,wpAny_typeNameOfWhole_keyiter->jv,tupleKind_room_in1->jN,wpAny_passesOwn->j2,backTo->kC,wpAny_pyIter_list->kD,wpAny_newObj_type->kE,valueAt->kF,Scope->kG,compEnvC->lQ,codeAny_mono->lY,wpAny_typeNameOf_keyiter->mO,wpAny_setField_rec->nO,wpAny_callSpecial?_slot->n_,pyNext->oY,cLine->pE,typeIs_str->qC,plainId_quiet->qF,sliceBounds->qG,keywordEach->qH,codeAny->tf,call_meetsIn->tj,bootBuiltins->tm,argBest->tq,pushCells->tG,rawInt->uU,call_meets->uV,wpAny_pyIter_enum->vO,wpAny_field->vP,wpAny_dictEntries->vQ,wpAny_Call_method->vR,IsEnum->yz,wpAny_eqBool_str->ze,tupleKind->zf,swapsWith->zg,wpAny_execs_nil->Bo,pushCells_keeps->Bp,letOwnedTupleGo->Br,wpAny_tryCatch->DF,wpAny_letGo->DG,codeAny_call_builtin->DH,bindArgs->DI,backToKw->DJ,PyData->DN,wpAny_standAt->FF,wpAny_attempt->FG,atKey->FH,assignEach->HU,Params->HV,wpAny_pyIter_slot->IS,Keyword->IY,scanBound->LN,getMethod->LO,wpAny_updateSeq->OE,wpAny_dictEpoch->OF,size_of_entries->OG,Within->OH,notedBy->OM,getItem->ON,callerA->OO,BindsTo->OV,wpAny_seqItems->QJ,wpAny_letOwnedTupleGo_enum->QK,wpAny_call->QL,intKind_is->QM,binaryOp->QN,Result->QO,Operator->QP,CmpOp->QT,seqItems?->T3,bindL->T4,bindC->T5,IsEnumOut->T',standAt->Wq,pyIter->Wr,meets_dict_get_default->Ws,wpAny_notOrdered_dict->WG,wpAny_isTrue_Compare1->WH,wpAny_isOneOf_keyiter->WI,weight_type_call_type->WJ,wpAny_of_eq->Yk,wpAny_loadName_local->Yl,storedH_new->Ym,setField->Yn,richCompare->Yo,callWith->Yp,GenState->Yt,wpAny_loadName_cell->YO,wpAny_rule->aad,wpAny_load->aae,wpAny_Name->aaf,wpAny_Constant_int->aag,isTrue->aah,builtinsNs->aai,wpAny_assign_Name->aat,slot_list_getitem->aau,Model->aaD,wpAny_pyIter_zip->abu,wpAny_isInstance->abv,wpAny_getItem_of->abw,wpAny_execs_cons->abx,wpAny_Dict_empty->aby,strValues->abz,storeName->abA,inplaceOp->abB,call->abD,codeAny_of_tree->ab5
open Vbsoab renaming provAt->ag,Map->aB,exactly->a8,linesOf->cC,Province->cJ,wordsIn->dE,centre->dS,powerOf->eZ,Bytes->fC,anyNear->gd,isPlace->gM,addStart->gZ,no->iF,Start->iX,placeWord->ji,little->jj,named->j9,isProv->kx,nearBy->lP,symmetry->o7,print->pF,addProvince->qI,sail->r_,join->yX,armyNear->zh,fleetNear->Eo,read->E9,optional->FI,kindWord->IT,PROVINCES->LQ,shoreName->T6,plainByte->T7,great->YQ,Call->aaj,POWERS->aan
open PySem.Str renaming ofString->ak,length->DK,join->E_,empty->Yq
open Nat renaming le_refl->aC,zero_le->cu,ne_of_lt->cv,lt_of_lt_of_le->cE,le_trans->dA,lt_irrefl->fj,ne_of_gt->gI,lt_succ_of_lt->hZ,le_add_right->kT,lt_succ_self->oZ,sub_self->qJ,le_of_lt->qK,le_succ->tH,le_of_succ_le->tI,le_of_ble_eq_true->zj,le_of_eq->Fg,succ_ne_self->HW,min_eq_left->IX,zero_add->QQ,lt_trans->abS,add_zero->abT,add_comm->abU,le_zero->acG
open PySem.Heap renaming get?_push_of_some->aD,lt_size->bo,get?_push_size->bp,size_push->cR,get?_update_other->eV,SameBut->gf,get?_update_self->oo,ExtBut->abW
open Bool renaming eq_iff_iff->bq,false_ne_true->bu,and_eq_true->bL,noConfusion->dR,or_eq_true->hC,true_and->il,false_eq_true->l7,false_and->rg,and_eq_true_iff->zP,eq_false_iff->Ey,and_false->J',or_false->L5,false_or->L6,and_true->aaq,or_true->aaG
open Sum renaming inr->bB,inl->dU
open Or renaming inl->bC,inr->mN
open PySem.Value renaming ref->bE,str->dJ,none->i9,type->j3,bool->j7,int->l6,isStrOf->YR,isInt->aaw,float->aax,bytes->aay
open PySem.F renaming plainAttrs_list->bG,type_list_append->cG,slot_list_append->cH,slot_dict_keyiterator_next->eG,plain_min_loop->fJ,type_list_extend->fX,slot_list_extend->fY,slot_dict_get->jk,slot_dict_keyiterator_iter->jP,plainAttrs_dict->lW,slot_enumerate_next->o9,called_enumerate->sf,slot_list_index->tw,args_dict_get_3->tD,entry_min_loop->uX,entry_dict_get->uY,slot_str_split->yA,slot_dict_setdefault->Fe,args_str_split_2->Fh,type_str_startswith->FK,slot_str_startswith->FL,entry_str_split->HX,slot_dict_getitem->HZ,slot_dict_delitem->H_,slot_tuple_index->IV,args_dict_keyiterator_next_1->IZ,args_dict_keyiterator_iter_1->I0,type_list_index->J5,plain_list_iadd->J6,entry_dict_keyiterator_next->J9,entry_dict_keyiterator_iter->J_,type_dict_get->LY,slot_dict_pop->LZ,args_enumerate_next_1->Sb,entry_enumerate_next->TQ,slot_str_partition->Wy,slot_dict_iter->aap
open Ne renaming symm->bK
open Option.some renaming inj->bQ,injEq->pG
open Vbsoaa renaming linked->bU
open PySem.PassesOwn renaming never->cS
open Int renaming toNat_natCast->cZ,toNat_of_nonneg->Cu,toNat->OT,le_refl->acH
open PySem.Builtin.Str renaming strSliceIndices->da,strKind->eT,occurrences->kI,partsBetween->Fj
open VbsoabNeutral renaming bytesOf->dM,step->gy,callOf->mI,start->abC
open PySem.Paired renaming length->eK,snoc->sv
open False renaming elim->fo
open PySem.Calls renaming spliced_cons->fu,callWith_builtin->gE,evalArgs_plain->g_,spliced_nil->jx,Name_function_global->I_
open PySem.StrLaws renaming sliceText->fR,subAt_eq->abG,strSliceIndices_plain->abH,sliceText_nat->abI,found_one->abJ
open PyVbsoab renaming shape->fZ,answers->jQ,bound->FJ,answers_asked->J4,whole->T8
open PySem.Around renaming under_plainId->gh,under->L7,under_plain->Se
open Array renaming getElem?_eq_getElem->gW,length_toList->iG,getElem?_eq_none->mP,getElem?_toList->yB,toList->OJ
open True renaming intro->ij
open PySem.Txt renaming partition->iD,startswith->iV,split->mM,join->vM
open PyProof.Rows renaming callWith_type1->iW,IntsAre->tE,lex_false->FN,envOfC->HS,TupsOf->IW,AllBare->Ja,seqObj->LM,subscriptTail->TB,Constant_none->TR,subscriptTail_builtinR->Wp,Subscript_->aak,arrOf->aav,tupKey->aco,split_le->acp,sorted_ints->acq,sortedAll_old->acr,sortedAll_at->acs,setObjOf_fresh->acu,partition_whole->acv,lt_int->acw,lexLt->acx,join_tuple->acy,join_list->acz,itemOrd->acA,in_str->acB,iadd_int->acC,evalArgs_kw2->acD,callWith_builtin1->acE,TupOf->acF
open PySem.PyData renaming int->iY,canLayAll0->su,eqvAll->sC,eqv->vt,depthAll->FO,canLay0->WK
open Option renaming map_some->jb,isSome_map->sx,map_eq_some_iff->vw,none->Ff,isSome_iff_exists->J8,isSome_some->R8,getD_none->T9
open PySem.Heap.SameBut renaming update->jw
open PyProof.Rows.G renaming tupKeyC->kH,isTupObj->DM,tupKindC->aaz,list_sort_tups->aaA
open PySem.NameKind renaming free->nP,cell->Ia
open PySem.Challenge renaming rw_provinceboard_s01_answers->ph,pw_provinceboard_s01_answers->aal
open PySem.Builtin.List renaming listTooLong->pJ,listExtendWith->acI
open PySem.W.Codec renaming encAll->qE,denoteAll->vX,app->Fi,withinAll->WM
open PySem.Builtin.SmallTypes renaming ownedTupleHandOut->rf,ownedTupleIsFree->sA
open PySem.AutoSeq1 renaming wpAny_loadPart'->rh
open ForInStep renaming yield->tK
open PySem.W.WData renaming weightAll->vS,int->ab6
open PyInside renaming lists->vT,within->Es,call->Wu
open PySem.Builtin.Dict_items renaming ownsTuple->vY
open Sum.inr renaming inj->yx
open PyFlat renaming told->yY,played->Bm,calls->L3,rows->OQ,call->aam,row->aaB
open PySem.Builtin.Builtins renaming bindParams->zk
open PySem.SeqAt renaming shaped->DL,EqAt->TC
open Sum.inl renaming inj->Er
open PySem.Builtin.Range renaming rangeSize->Ex
open PySem.Builtin.Dict renaming showsAll->HY,keyAndDefault->acJ,dictSlotNone->acK
open PySem.Walks renaming list->IU
open Prod renaming ext->J7
open PySem.SeqAt.EqAt renaming str_int->LU,int_str->LV,int_int->LX
open PySem.Code renaming isFrame->OU,quiet_builtin->Ua,frames->abX
open Function renaming comp_def->QS
open PySem.Value.type renaming inj->R6
open PySem.Data renaming seq->Sd
open PySem.Obj renaming data_mapDictKeys->TJ,data_mapFields->Wv,mapFields->aaC
open PySem.Shared renaming TypeIs->Yr
open PySem.Builtin.Frozenset renaming updateFrom->Yu
open Std.Legacy.Range renaming size->YS,forIn_eq_forIn_range'->YT
open PySem.IsRange renaming new->YW
open PySem.Heap.IsSliceOf renaming new->aaE
open PySem.CmpOp renaming NotIn->aaF
open PySem.W.Looks renaming of_pure->abE,here->abF
open PySem.EqMixed renaming ne_str_int->abK,ne_str_bool->abL,ne_int_str->abM,ne_bool_str->abN,eq_str_int->abO,eq_str_bool->abP,eq_int_str->abQ,eq_bool_str->abR
open List.Pairwise renaming imp_of_mem->abV
open PySem.Builtin.Tuple renaming tupleItemsOf->abY,tupleCompareSizes->abZ
open PySem.Within renaming cons->ab7
open PySem.EqNone renaming ne_str_none->ab8,ne_none_str->ab9,ne_none_none->aca,ne_none_int->acb,ne_none_bool->acd,ne_int_none->ace,ne_bool_none->acf,eq_str_none->acg,eq_none_str->ach,eq_none_none->aci,eq_none_int->acj,eq_none_bool->ack,eq_int_none->acm,eq_bool_none->acn
namespace Pb
open Vbsoab
def sg (b:Nat):Nat:=
 if 97<=b/\b<=122 then b else if 65<=b/\b<=90 then b else if b=10 then 10 else if b<32\/126<b then 9
 else if b=32\/b=35\/b=47 then b else 63
def PM (b:Nat):Bool:=great b||little b
theorem C8 {b:Nat}:great b=true<->65<=b/\b<=90:=by simp[great]
theorem Ax {b:Nat}:little b=true<->97<=b/\b<=122:=by simp[little]
theorem BW {b:Nat}:PM b=true<->(65<=b/\b<=90)\/(97<=b/\b<=122):=by simp[PM,great,little]
theorem pU (b:Nat):(PM b=true/\sg b=b)\/(PM b=false/\((b=10/\sg b=10)\/(b≠10/\(b<32\/126<b)/\sg b=9)\/((b=32\/b=35\/b=47)/\sg b=b)\/(32<=b/\b<=126/\b≠32/\b≠35/\b≠47/\sg b=63))):=by
 have h0:PM b=true<->(65<=b/\b<=90)\/(97<=b/\b<=122):=BW
 unfold sg
 by_cases h1:97<=b/\b<=122
 ·rw[if_pos h1];exact .inl ⟨h0.mpr (.inr h1),rfl⟩
 ·rw[if_neg h1]
  by_cases h2:65<=b/\b<=90
  ·rw[if_pos h2];exact .inl ⟨h0.mpr (.inl h2),rfl⟩
  ·rw[if_neg h2]
   have hl:PM b=false:=by
    cases e:PM b with
    | false=>rfl
    | true=>rcases h0.mp e with q | q;exact absurd q h2;exact absurd q h1
   refine .inr ⟨hl,?_⟩
   by_cases h3:b=10
   ·rw[if_pos h3];exact .inl ⟨h3,rfl⟩
   ·rw[if_neg h3]
    by_cases h4:b<32\/126<b
    ·rw[if_pos h4];exact .inr (.inl ⟨h3,h4,rfl⟩)
    ·rw[if_neg h4]
     by_cases h5:b=32\/b=35\/b=47
     ·rw[if_pos h5];exact .inr (.inr (.inl ⟨h5,rfl⟩))
     ·rw[if_neg h5];exact .inr (.inr (.inr ⟨by omega,by omega,by omega,by omega,by omega,rfl⟩))
theorem Zh {b:Nat} (h:PM b=true):sg b=b:=by
 rcases pU b with ⟨_,e⟩ | ⟨q,_⟩
 ·exact e
 ·rw[h] at q;cases q
theorem SM {b c:Nat} (h:PM c=true) (e:sg b=c):b=c:=by
 have hc:=BW.mp h
 rcases pU b with ⟨_,q⟩ | ⟨_,⟨_,q⟩ | ⟨_,_,q⟩ | ⟨z,q⟩ | ⟨_,_,_,_,_,q⟩⟩ <;> omega
theorem Vy (b:Nat):great (sg b)=great b:=by
 rw[bq,C8,C8]
 rcases pU b with ⟨h,q⟩ | ⟨h,z⟩
 ·rw[q]
 ·have hn:¬ ((65<=b/\b<=90)\/(97<=b/\b<=122)):=fun e=>by rw[BW.mpr e] at h;cases h
  rcases z with ⟨_,q⟩ | ⟨_,_,q⟩ | ⟨z,q⟩ | ⟨_,_,_,_,_,q⟩ <;> omega
theorem JC (b:Nat):little (sg b)=little b:=by
 rw[bq,Ax,Ax]
 rcases pU b with ⟨h,q⟩ | ⟨h,z⟩
 ·rw[q]
 ·have hn:¬ ((65<=b/\b<=90)\/(97<=b/\b<=122)):=fun e=>by rw[BW.mpr e] at h;cases h
  rcases z with ⟨_,q⟩ | ⟨_,_,q⟩ | ⟨z,q⟩ | ⟨_,_,_,_,_,q⟩ <;> omega
theorem UX (b:Nat):plainByte (sg b)=plainByte b:=by
 have p:∀c,plainByte c=true<->32<=c/\c<=126:=fun c=>by simp[plainByte]
 rw[bq,p,p]
 rcases pU b with ⟨h,q⟩ | ⟨h,z⟩
 ·rw[q]
 ·rcases z with ⟨_,q⟩ | ⟨_,_,q⟩ | ⟨z,q⟩ | ⟨_,_,_,_,_,q⟩ <;> omega
theorem F5 {b c:Nat} (hc:c=10\/c=32\/c=35\/c=47):sg b=c<->b=c:=by
 rcases pU b with ⟨h,q⟩ | ⟨h,⟨_,q⟩ | ⟨_,_,q⟩ | ⟨z,q⟩ | ⟨_,_,_,_,_,q⟩⟩
 ·rw[q]
 all_goals omega
theorem UK (b:Nat):PM (sg b)=true\/sg b=9\/sg b=10\/sg b=32\/sg b=35\/sg b=47\/sg b=63:=by
 rcases pU b with ⟨h,q⟩ | ⟨h,⟨_,q⟩ | ⟨_,_,q⟩ | ⟨z,q⟩ | ⟨_,_,_,_,_,q⟩⟩
 ·rw[q];exact .inl h
 all_goals omega
abbrev iZ (w:fC):fC:=w.map sg
theorem uE:∀t,linesOf t≠[]
 | []=>by simp[linesOf]
 | b::r=>by
  simp only[linesOf]
  split
  ·simp
  ·split <;> simp
theorem NM:∀t,linesOf (iZ t)=(linesOf t).map iZ
 | []=>rfl
 | b::r=>by
  have ih:=NM r
  show linesOf (sg b::iZ r)=_
  simp only[linesOf]
  rw[ih]
  cases e:linesOf r with
  | nil=>exact absurd e (uE r)
  | cons l ls=>
   simp only[a7]
   by_cases h:b=10
   ·rw[if_pos ((F5 (.inl rfl)).mpr h),if_pos h];rfl
   ·rw[if_neg (fun q=>h ((F5 (.inl rfl)).mp q)),if_neg h];rfl
theorem tM:∀t,wordsIn t≠[]
 | []=>by simp[wordsIn]
 | b::r=>by
  simp only[wordsIn]
  split
  ·simp
  ·split <;> simp
theorem FR:∀t,wordsIn (iZ t)=(wordsIn t).map iZ
 | []=>rfl
 | b::r=>by
  have ih:=FR r
  show wordsIn (sg b::iZ r)=_
  simp only[wordsIn]
  rw[ih]
  cases e:wordsIn r with
  | nil=>exact absurd e (tM r)
  | cons l ls=>
   simp only[a7]
   by_cases h:b=32
   ·rw[if_pos ((F5 (.inr (.inl rfl))).mpr h),if_pos h];rfl
   ·rw[if_neg (fun q=>h ((F5 (.inr (.inl rfl))).mp q)),if_neg h];rfl
theorem L8 (l:fC):wordsOf (iZ l)=(wordsOf l).map iZ:=by
 unfold wordsOf
 rw[FR,List.filter_map]
 congr 1
 refine Wx fun w _=>?_
 cases w <;> rfl
theorem QE {p:Nat->Bool} (h:∀b,p (sg b)=p b) (w:fC):(iZ w).all p=w.all p:=by
 rw[mU]
 congr 1
 funext b
 exact h b
theorem qg (lo hi:Nat) (w:fC):named lo hi (iZ w)=named lo hi w:=by
 cases w with
 | nil=>rfl
 | cons c r=>
  show (great (sg c)&&(decide (lo<=(iZ r).length)&&(decide ((iZ r).length<=hi)&&(iZ r).all little)))=_
  rw[Vy,QE JC,aa]
  rfl
theorem UJ (w:fC):shoreName (iZ w)=shoreName w:=by
 unfold shoreName
 rw[QE JC,aa]
def LW (w:fC):Prop:=∀c∈w,PM c=true
theorem LW.iZ {w:fC} (h:LW w):iZ w=w:=by
 induction w with
 | nil=>rfl
 | cons c r ih=>rw[show Pb.iZ (c::r)=sg c::Pb.iZ r from rfl,Zh (h c (by simp)),ih fun x hx=>h x (aE _ hx)]
theorem LW.of:∀{n w:fC},LW n->(Pb.iZ w=n<->w=n)
 | n,w,h=>by
  refine⟨fun e=>?_,fun e=>by rw[e];exact h.iZ⟩
  induction w generalizing n with
  | nil=>exact e
  | cons c r ih=>
   cases n with
   | nil=>cases e
   | cons d n'=>
    have e':sg c::Pb.iZ r=d::n':=e
    injection e' with e1 e2
    rw[SM (h d (by simp)) e1,ih n' (fun x hx=>h x (aE _ hx)) e2]
theorem LW.beq {n w:fC} (h:LW n):(n==Pb.iZ w)=(n==w):=by
 rw[bq,beq_iff_eq,beq_iff_eq]
 exact⟨fun e=>(h.of.mp e.symm).symm,fun e=>(h.of.mpr e.symm).symm⟩
theorem LW.take {n:fC} (h:LW n) (k:Nat):LW (n.take k):=fun c hc=>h c (R_ hc)
theorem kP {lo hi:Nat} {w:fC} (h:named lo hi w=true):LW w:=by
 cases w with
 | nil=>cases h
 | cons c r=>
  simp only[named,bL,cI] at h
  intro x hx
  rcases aF.mp hx with e | hx
  ·rw[e];unfold PM;rw[h.1];rfl
  ·unfold PM;rw[h.2.2.2 x hx,aaG]
theorem F4 {w:fC} (h:shoreName w=true):LW w:=by
 simp only[shoreName,bL,cI] at h
 intro x hx
 unfold PM;rw[h.2.2 x hx,aaG]
theorem nQ (s:String) (h:(word s).all PM=true):LW (word s):=cI.mp h
theorem V1:∀w,cutAt (iZ w)=(iZ (cutAt w).1,(cutAt w).2.map iZ)
 | []=>rfl
 | b::r=>by
  have ih:=V1 r
  show cutAt (sg b::iZ r)=_
  simp only[cutAt]
  by_cases h:b=47
  ·rw[if_pos ((F5 (.inr (.inr (.inr rfl)))).mpr h),if_pos h];rfl
  ·rw[if_neg (fun q=>h ((F5 (.inr (.inr (.inr rfl)))).mp q)),if_neg h,ih];rfl
structure GN (m:Map):Prop where
 pw:∀w∈m.powers,LW w
 nm:∀p∈m.provinces,LW p.name/\LW p.short/\∀s∈p.shores,LW s
theorem nV {α:Type} {p q:α->Bool}:∀{l:List α},(∀x∈l,p x=q x)->l.findIdx? p=l.findIdx? q
 | [],_=>rfl
 | a::l,h=>by
  rw[rb,rb,h a (by simp),nV fun x hx=>h x (aE _ hx)]
theorem nD {m:Map} (g:GN m) (w:fC):a8 m (iZ w)=a8 m w:=
 nV fun p hp=>by
  unfold called
  rw[(g.nm p hp).1.beq,(g.nm p hp).2.1.beq]
theorem Ah {m:Map} (g:GN m) (w:fC):eZ m (iZ w)=eZ m w:=nV fun p hp=>(g.pw p hp).beq
theorem dZ {m:Map} {i:Nat} (h:i<m.provinces.length):ag m i∈m.provinces:=by
 unfold ag
 rw[b_,aR h]
 exact List.getElem_mem h
theorem DX {m:Map} {i:Nat} (h:¬ i<m.provinces.length):ag m i={ name:=[],short:=[],kind:=0 }:=by
 unfold ag
 rw[b_,y6 (by omega)]
 rfl
theorem Pc {m:Map} (g:GN m) (i:Nat) (s:Option fC):shoreOf (ag m i) (s.map iZ)=shoreOf (ag m i) s:=by
 cases s with
 | none=>rfl
 | some w=>
  show (ag m i).shores.findIdx? _=(ag m i).shores.findIdx? _
  by_cases h:i<m.provinces.length
  ·exact nV fun x hx=>((g.nm _ (dZ h)).2.2 x hx).beq
  ·rw[DX h];rfl
theorem Aj {m:Map} (g:GN m) (w:fC):placeOf m (iZ w)=placeOf m w:=by
 unfold placeOf
 simp only[V1,nD g]
 cases a8 m (cutAt w).1 with
 | none=>rfl
 | some i=>simp only[Pc g]
theorem X2 {m:Map} (g:GN m) (w:fC):find m (iZ w)=find m w:=by
 unfold find
 rw[nD g]
 cases a8 m w with
 | some i=>rfl
 | none=>
  simp only
  have e:(iZ w=[])<->(w=[]):=by cases w <;> simp
  by_cases h:w=[]
  ·rw[if_pos h,if_pos (e.mpr h)]
  ·rw[if_neg h,if_neg (fun q=>h (e.mp q))]
   refine Wx fun i hi=>?_
   have hlt:i<m.provinces.length:=by simpa using hi
   unfold begins
   rw[aa]
   exact ((g.nm _ (dZ hlt)).1.take _).beq
theorem GL {ws:List fC} (h:∀w∈ws,LW w):ws.map iZ=ws:=by
 induction ws with
 | nil=>rfl
 | cons w r ih=>rw[a7,(h w (by simp)).iZ,ih fun x hx=>h x (aE _ hx)]
theorem NI:LW (word "power"):=nQ _ (by decide)
theorem Rt:LW (word "land"):=nQ _ (by decide)
theorem PL:LW (word "sea"):=nQ _ (by decide)
theorem NJ:LW (word "coast"):=nQ _ (by decide)
theorem Ru:LW (word "join"):=nQ _ (by decide)
theorem Rr:LW (word "sail"):=nQ _ (by decide)
theorem JB:LW (word "centre"):=nQ _ (by decide)
theorem NH:LW (word "start"):=nQ _ (by decide)
theorem XN:LW (word "army"):=nQ _ (by decide)
theorem Vh:LW (word "fleet"):=nQ _ (by decide)
end Pb
namespace Pb
open Vbsoab
theorem Pn {n s:fC}:(named 1 15 (iZ n)&&named 2 2 (iZ s))=(named 1 15 n&&named 2 2 s):=by rw[qg,qg]
theorem K7 {c d:Prop} [Decidable c] [Decidable d] {α:Type} {x y:α} (h:c<->d):(if c then x else y)=if d then x else y:=by
 by_cases hd:d
 ·rw[if_pos hd,if_pos (h.mpr hd)]
 ·rw[if_neg hd,if_neg (fun q=>hd (h.mp q))]
theorem V5 (n s:fC) (sh:List fC) :
  (named 1 15 (iZ n)&&(named 2 2 (iZ s)&&((sh.map iZ).all shoreName&&(distinctWords (sh.map iZ)&&((sh.map iZ).length != 1&&decide ((sh.map iZ).length<=4)))))) =
  (named 1 15 n&&(named 2 2 s&&(sh.all shoreName&&(distinctWords sh&&(sh.length != 1&&decide (sh.length<=4)))))):=by
 have h1:(sh.map iZ).all shoreName=sh.all shoreName:=by
  rw[mU]
  congr 1
  funext w
  exact UJ w
 rw[qg,qg,h1,aa]
 cases e:sh.all shoreName with
 | false=>simp
 | true=>rw[GL fun w hw=>F4 (cI.mp e w hw)]
theorem Kf {m:Map} (g:GN m) (ws:List fC):statement m (ws.map iZ)=statement m ws:=by
 cases ws with
 | nil=>rfl
 | cons k r=>
  show statement m (iZ k::r.map iZ)=_
  unfold statement
  dsimp only
  by_cases h1:k=word "power"
  ·rw[if_pos h1,if_pos (NI.of.mpr h1)]
   match r with
   | []=>rfl
   | [n]=>
    simp only[a7,fN]
    rw[qg,Ah g]
    cases e:named 1 11 n with
    | false=>rfl
    | true=>rw[(kP e).iZ]
   | _::_::_=>rfl
  ·rw[if_neg h1,if_neg (fun q=>h1 (NI.of.mp q))]
   by_cases h2:k=word "land"\/k=word "sea"
   ·rw[if_pos h2,if_pos (by rcases h2 with h2 | h2;exact .inl (Rt.of.mpr h2);exact .inr (PL.of.mpr h2))]
    match r with
    | []=>rfl
    | [_]=>rfl
    | [n,s]=>
     simp only[a7,fN]
     rw[Pn]
     cases e:(named 1 15 n&&named 2 2 s) with
     | false=>rfl
     | true=>
      rw[bL] at e
      rw[(kP e.1).iZ,(kP e.2).iZ]
      simp only[K7 (PL.of (w:=k))]
    | _::_::_::_=>rfl
   ·rw[if_neg h2,if_neg (by rintro (q | q);exact h2 (.inl (Rt.of.mp q));exact h2 (.inr (PL.of.mp q)))]
    by_cases h3:k=word "coast"
    ·rw[if_pos h3,if_pos (NJ.of.mpr h3)]
     match r with
     | []=>rfl
     | [_]=>rfl
     | n::s::sh=>
      simp only[a7]
      rw[V5]
      cases e:(named 1 15 n&&(named 2 2 s&&(sh.all shoreName&&(distinctWords sh&&(sh.length != 1&&decide (sh.length<=4)))))) with
      | false=>rfl
      | true=>
       simp only[bL] at e
       rw[(kP e.1).iZ,(kP e.2.1).iZ,GL fun w hw=>F4 (cI.mp e.2.2.1 w hw)]
    ·rw[if_neg h3,if_neg (fun q=>h3 (NJ.of.mp q))]
     by_cases h4:k=word "join"
     ·rw[if_pos h4,if_pos (Ru.of.mpr h4)]
      match r with
      | []=>rfl
      | [_]=>rfl
      | [a,b]=>simp only[a7,fN,join,nD g]
      | _::_::_::_=>rfl
     ·rw[if_neg h4,if_neg (fun q=>h4 (Ru.of.mp q))]
      by_cases h5:k=word "sail"
      ·rw[if_pos h5,if_pos (Rr.of.mpr h5)]
       match r with
       | []=>rfl
       | [_]=>rfl
       | [a,b]=>simp only[a7,fN,sail,Aj g]
       | _::_::_::_=>rfl
      ·rw[if_neg h5,if_neg (fun q=>h5 (Rr.of.mp q))]
       by_cases h6:k=word "centre"
       ·rw[if_pos h6,if_pos (JB.of.mpr h6)]
        match r with
        | []=>rfl
        | [a]=>simp only[a7,fN,centre,nD g]
        | [a,h]=>simp only[a7,fN,centre,nD g,Ah g]
        | _::_::_::_=>rfl
       ·rw[if_neg h6,if_neg (fun q=>h6 (JB.of.mp q))]
        by_cases h7:k=word "start"
        ·rw[if_pos h7,if_pos (NH.of.mpr h7)]
         match r with
         | []=>rfl
         | [_]=>rfl
         | [_,_]=>rfl
         | [w,u,a]=>
          simp only[a7,fN]
          rw[K7 (XN.of (w:=u)),K7 (Vh.of (w:=u)),Ah g,nD g,Aj g]
         | _::_::_::_::_=>rfl
        ·rw[if_neg h7,if_neg (fun q=>h7 (NH.of.mp q))]
theorem SE (l:fC):silent (iZ l)=silent l:=by
 unfold silent
 rw[L8]
 cases wordsOf l with
 | nil=>rfl
 | cons w r=>
  cases w with
  | nil=>rfl
  | cons c t=>
   show (some (sg c)==some 35)=(some c==some 35)
   rw[bq,beq_iff_eq,beq_iff_eq,pG,pG]
   exact F5 (.inr (.inr (.inl rfl)))
theorem XO {m:Map} (g:GN m) (l:fC):line m (iZ l)=line m l:=by
 unfold line
 rw[QE UX,SE,L8,Kf g]
def placeOk (m:Map) (y:Nat):Prop:=y / 4<m.provinces.length/\y % 4<max 1 (ag m (y / 4)).shores.length
structure Wh (np:Nat) (p:cJ):Prop where
 nm:named 1 15 p.name=true
 sh:named 2 2 p.short=true
 ne:p.name≠p.short
 TV:p.shores.all shoreName=true
 dst:distinctWords p.shores=true
 one:p.shores.length≠1
 four:p.shores.length<=4
 kd:p.kind<=2
 hm:∀k,p.home=some k->k<np
 ch:p.centre=false->p.home=none
structure WF (m:Map):Prop where
 pw:∀w∈m.powers,named 1 11 w=true
 pwd:m.powers.Nodup
 pwl:m.powers.length<=7
 pv:∀p∈m.provinces,Wh m.powers.length p
 LR:m.provinces.length<=40
 uq:∀i j w,i<m.provinces.length->j<m.provinces.length->called (ag m i) w=true->called (ag m j) w=true->i=j
 ld:m.land.Pairwise (fun a b=>lessPair a b=true)
 OL:∀x∈m.land,x.1<x.2/\x.2<m.provinces.length
 ZC:m.land.length<=300
 se:m.sea.Pairwise (fun a b=>lessPair a b=true)
 Ra:∀x∈m.sea,x.1<x.2/\placeOk m x.1/\placeOk m x.2/\x.1 / 4≠x.2 / 4
 sel:m.sea.length<=300
 st:∀s∈m.starts,s.power<m.powers.length/\s.prov<m.provinces.length/\s.shore<max 1 (ag m s.prov).shores.length
 stl:m.starts.length<=24
theorem WF.gn {m:Map} (h:WF m):GN m:=⟨fun w hw=>kP (h.pw w hw),fun p hp=>⟨kP (h.pv p hp).nm,kP (h.pv p hp).sh,fun s hs=>F4 (cI.mp (h.pv p hp).TV s hs)⟩⟩
theorem WF.empty:WF {}:=⟨by simp,by simp,by decide,by simp,by decide,by intro i j w h;simp at h,by simp,by simp,by decide,by simp,by simp,by decide,by simp,by decide⟩
theorem dX {m:Map} {w:fC} {i:Nat} (h:a8 m w=some i):i<m.provinces.length/\called (ag m i) w=true:=by
 obtain⟨hlt,h1,_⟩:=gU.mp h
 refine⟨hlt,?_⟩
 unfold ag
 rw[b_,aR hlt]
 exact h1
theorem jZ {m:Map} {w:fC} (h:a8 m w=none) {i:Nat} (hi:i<m.provinces.length):called (ag m i) w=false:=sD.mp h _ (dZ hi)
theorem uj {m:Map} {w:fC} {k:Nat} (h:eZ m w=some k):k<m.powers.length/\m.powers[k]?=some w:=by
 obtain⟨hlt,h1,_⟩:=gU.mp h
 exact⟨hlt,by rw[aR hlt,eq_of_beq h1]⟩
theorem jD {m:Map} {w:fC} {x:Nat×Nat} (h:placeOf m w=some x):x.1<m.provinces.length/\x.2<max 1 (ag m x.1).shores.length:=by
 unfold placeOf at h
 simp only at h
 cases e:a8 m (cutAt w).1 with
 | none=>rw[e] at h;cases h
 | some i=>
  rw[e] at h
  simp only[vw] at h
  obtain⟨s,hs,rfl⟩:=h
  refine⟨(dX e).1,?_⟩
  show s<max 1 (ag m i).shores.length
  cases q:(cutAt w).2 with
  | none=>
   rw[q] at hs
   simp only[shoreOf] at hs
   split at hs
   ·cases hs;omega
   ·cases hs
  | some z=>
   rw[q] at hs
   obtain⟨hlt,_⟩:=gU.mp hs
   omega
end Pb
namespace Pb
open Vbsoab
theorem GX {a b:Nat×Nat}:lessPair a b=true<->a.1<b.1\/(a.1=b.1/\a.2<b.2):=by simp[lessPair]
theorem PX {a b c:Nat×Nat} (h1:lessPair a b=true) (h2:lessPair b c=true):lessPair a c=true:=by
 rw[GX] at *;omega
theorem PY {a b:Nat×Nat} (h:¬ lessPair a b=true) (hn:a≠b):lessPair b a=true:=by
 rw[GX] at *
 have:¬ (a.1=b.1/\a.2=b.2):=fun e=>hn (J7 e.1 e.2)
 omega
theorem lU {a x:Nat×Nat}:∀{l:List (Nat×Nat)},x∈putPair a l<->x=a\/x∈l
 | []=>by simp[putPair]
 | b::l=>by
  unfold putPair
  split
  ·simp
  ·rw[aF,lU,aF]
   constructor
   ·rintro (h | h | h)
    ·exact .inr (.inl h)
    ·exact .inl h
    ·exact .inr (.inr h)
   ·rintro (h | h | h)
    ·exact .inr (.inl h)
    ·exact .inl h
    ·exact .inr (.inr h)
theorem fG {a:Nat×Nat}:∀{l:List (Nat×Nat)},(putPair a l).length=l.length+1
 | []=>rfl
 | b::l=>by
  unfold putPair
  split
  ·rfl
  ·rw[aG,fG,aG]
theorem pT {a:Nat×Nat}:∀{l:List (Nat×Nat)},l.Pairwise (fun a b=>lessPair a b=true)->a∉l->(putPair a l).Pairwise (fun a b=>lessPair a b=true)
 | [],_,_=>by simp[putPair]
 | b::l,h,hn=>by
  obtain⟨h1,h2⟩:=jc.mp h
  unfold putPair
  split
  ·rename_i hl
   exact jc.mpr ⟨fun x hx=>by
    rcases aF.mp hx with rfl | hx
    ·exact hl
    ·exact PX hl (h1 x hx),h⟩
  ·rename_i hl
   refine jc.mpr ⟨fun x hx=>?_,pT h2 fun q=>hn (aE _ q)⟩
   rcases lU.mp hx with rfl | hx
   ·exact PY hl fun e=>hn (by rw[e];exact bz)
   ·exact h1 x hx
theorem kJ {α:Type} {R:α->α->Prop} (irr:∀a,¬ R a a) (tr:∀a b c,R a b->R b c->R a c):∀{l k:List α},l.Pairwise R->k.Pairwise R->(∀x,x∈l<->x∈k)->l=k
 | [],[],_,_,_=>rfl
 | [],b::k,_,_,h=>absurd ((h b).mpr bz) (by simp)
 | a::l,[],_,_,h=>absurd ((h a).mp bz) (by simp)
 | a::l,b::k,hl,hk,h=>by
  obtain⟨hl1,hl2⟩:=jc.mp hl
  obtain⟨hk1,hk2⟩:=jc.mp hk
  have e:a=b:=by
   rcases aF.mp ((h a).mp bz) with e | e
   ·exact e
   ·rcases aF.mp ((h b).mpr bz) with e' | e'
    ·exact e'.symm
    ·exact absurd (tr _ _ _ (hk1 a e) (hl1 b e')) (irr b)
  subst e
  congr 1
  refine kJ irr tr hl2 hk2 fun x=>?_
  have na:∀{m:List α},(∀y∈m,R a y)->a∉m:=fun hm q=>irr a (hm a q)
  constructor
  ·intro hx
   rcases aF.mp ((h x).mp (aE _ hx)) with e | e
   ·subst e;exact absurd hx (na hl1)
   ·exact e
  ·intro hx
   rcases aF.mp ((h x).mpr (aE _ hx)) with e | e
   ·subst e;exact absurd hx (na hk1)
   ·exact e
theorem rE {m:Map} {p:cJ} {i:Nat}:ag { m with provinces:=m.provinces++[p] } i=if i<m.provinces.length then ag m i else if i=m.provinces.length then p else { name:=[],short:=[],kind:=0 }:=by
 unfold ag
 simp only[b_]
 by_cases h:i<m.provinces.length
 ·rw[if_pos h,dC h]
 ·rw[if_neg h]
  by_cases h2:i=m.provinces.length
  ·rw[if_pos h2,h2];simp
  ·rw[if_neg h2,y6 (by simp;omega)];rfl
theorem Ag {m:Map} {p:cJ} {i:Nat} (h:i<m.provinces.length):ag { m with provinces:=m.provinces++[p] } i=ag m i:=by rw[rE,if_pos h]
theorem Ph {m:Map} {p:cJ}:ag { m with provinces:=m.provinces++[p] } m.provinces.length=p:=by rw[rE,if_neg (fj _),if_pos rfl]
theorem jC {m:Map} {p:cJ} {i j:Nat} (hi:i<m.provinces.length):ag (setProvince m i p) j=if j=i then p else ag m j:=by
 unfold ag setProvince
 simp only[b_]
 by_cases h:j=i
 ·subst h;rw[if_pos rfl,mS hi];rfl
 ·rw[if_neg h,o8 (fun e=>h e.symm)]
theorem Wh.mono {n k:Nat} {p:cJ} (h:Wh n p) (hk:n<=k):Wh k p:=⟨h.nm,h.sh,h.ne,h.TV,h.dst,h.one,h.four,h.kd,fun a e=>cE (h.hm a e) hk,h.ch⟩
theorem Ue {m:Map} (h:WF m) {n:fC} (hn:named 1 11 n=true) (ho:eZ m n=none) (hl:m.powers.length<7):WF { m with powers:=m.powers++[n] }:=by
 have len:(m.powers++[n]).length=m.powers.length+1:=by simp
 refine { h with pw:=?_,pwd:=?_,pwl:=by simp only[len];omega,pv:=fun p hp=>(h.pv p hp).mono (by simp only[len];omega),st:=fun s hs=>?_ }
 ·intro w hw
  rcases bx.mp hw with q | q
  ·exact h.pw w q
  ·rw[aY.mp q];exact hn
 ·have hnot:n∉m.powers:=fun q=>by
   have:=sD.mp ho n q
   simp at this
  rw[Et]
  refine⟨h.pwd,by simp,fun a ha b hb=>?_⟩
  rw[aY.mp hb]
  exact fun e=>hnot (e▸ha)
 ·obtain⟨a,b,c⟩:=h.st s hs
  exact⟨by simp only[len];omega,b,c⟩
theorem L9 {m:Map} (h:WF m) {kd:Nat} {n s:fC} {sh:List fC} (hk:kd<=2) (hn:named 1 15 n=true) (hs:named 2 2 s=true) (ha:sh.all shoreName=true) (hd:distinctWords sh=true) (h1:sh.length≠1) (h4:sh.length<=4)
  (ns:n≠s) (en:a8 m n=none) (es:a8 m s=none) (hl:m.provinces.length<40) :
  WF { m with provinces:=m.provinces++[{ name:=n,short:=s,kind:=kd,shores:=sh }] }:=by
 have len:(m.provinces++[({ name:=n,short:=s,kind:=kd,shores:=sh }:cJ)]).length=m.provinces.length+1:=by simp
 have plk:∀y,placeOk m y->placeOk { m with provinces:=m.provinces++[{ name:=n,short:=s,kind:=kd,shores:=sh }] } y:=fun y ⟨a,b⟩=>by
  refine⟨by simp only[len];omega,?_⟩
  rw[Ag a];exact b
 refine { h with pv:=?_,LR:=by simp only[len];omega,uq:=?_,OL:=fun x hx=>⟨(h.OL x hx).1,by simp only[len];have:=(h.OL x hx).2;omega⟩,Ra:=?_,st:=?_ }
 ·intro p hp
  rcases bx.mp hp with q | q
  ·exact h.pv p q
  ·rw[aY.mp q]
   exact⟨hn,hs,ns,ha,hd,h1,h4,hk,(fun _ e=>nomatch e),fun _=>rfl⟩
 ·have key:∀i w,i<m.provinces.length->called (ag m i) w=true->¬ called ({ name:=n,short:=s,kind:=kd,shores:=sh }:cJ) w=true:=by
   intro i w hi hc hq
   unfold called at hq
   simp only[hC,beq_iff_eq] at hq
   rcases hq with e | e
   ·rw[<- e,jZ en hi] at hc;cases hc
   ·rw[<- e,jZ es hi] at hc;cases hc
  intro i j w hi hj ci cj
  simp only[len] at hi hj
  rw[rE] at ci cj
  by_cases a:i<m.provinces.length
  ·rw[if_pos a] at ci
   by_cases b:j<m.provinces.length
   ·rw[if_pos b] at cj;exact h.uq i j w a b ci cj
   ·rw[if_neg b,if_pos (by omega)] at cj;exact absurd cj (key i w a ci)
  ·rw[if_neg a,if_pos (by omega)] at ci
   by_cases b:j<m.provinces.length
   ·rw[if_pos b] at cj;exact absurd ci (key j w b cj)
   ·omega
 ·intro x hx
  obtain⟨a,b,c,d⟩:=h.Ra x hx
  exact⟨a,plk _ b,plk _ c,d⟩
 ·intro x hx
  obtain⟨a,b,c⟩:=h.st x hx
  exact⟨a,by simp only[len];omega,by rw[Ag b];exact c⟩
theorem Gm (x y:Nat) (h:x≠y):(pair x y).1<(pair x y).2/\((pair x y=(x,y))\/pair x y=(y,x)):=by
 unfold pair
 split
 ·exact⟨by show x<y;omega,.inl rfl⟩
 ·exact⟨by show y<x;omega,.inr rfl⟩
theorem WO {m:Map} (h:WF m) {i j:Nat} (hi:i<m.provinces.length) (hj:j<m.provinces.length) (hn:i≠j) (hc:m.land.contains (pair i j)=false) (hl:m.land.length<300):WF { m with land:=putPair (pair i j) m.land }:=by
 obtain⟨lt,e⟩:=Gm i j hn
 have hnot:pair i j∉m.land:=fun q=>by rw[fS.mpr q] at hc;cases hc
 refine { h with ld:=pT h.ld hnot,OL:=fun x hx=>?_,ZC:=by simp only[fG];omega }
 rcases lU.mp hx with rfl | hx
 ·refine⟨lt,?_⟩
  rcases e with e | e <;> rw[e] <;> assumption
 ·exact h.OL x hx
theorem WN {m:Map} (h:WF m) {x y:Nat×Nat} (hx:x.1<m.provinces.length/\x.2<max 1 (ag m x.1).shores.length) (hy:y.1<m.provinces.length/\y.2<max 1 (ag m y.1).shores.length) (hn:x.1≠y.1)
  (hc:m.sea.contains (pair (4*x.1+x.2) (4*y.1+y.2))=false) (hl:m.sea.length<300):WF { m with sea:=putPair (pair (4*x.1+x.2) (4*y.1+y.2)) m.sea }:=by
 have four:∀z:Nat×Nat,z.1<m.provinces.length->z.2<max 1 (ag m z.1).shores.length->z.2<4:=fun z a b=>by
  have:=(h.pv _ (dZ a)).four
  omega
 have x4:=four x hx.1 hx.2
 have y4:=four y hy.1 hy.2
 have ok:∀z:Nat×Nat,z.1<m.provinces.length->z.2<max 1 (ag m z.1).shores.length->z.2<4->placeOk m (4*z.1+z.2):=fun z a b c=>by
  have e1:(4*z.1+z.2) / 4=z.1:=by omega
  have e2:(4*z.1+z.2) % 4=z.2:=by omega
  unfold placeOk
  rw[e1,e2];exact⟨a,b⟩
 obtain⟨lt,e⟩:=Gm (4*x.1+x.2) (4*y.1+y.2) (by omega)
 have hnot:pair (4*x.1+x.2) (4*y.1+y.2)∉m.sea:=fun q=>by rw[fS.mpr q] at hc;cases hc
 refine { h with se:=pT h.se hnot,Ra:=fun z hz=>?_,sel:=by simp only[fG];omega }
 rcases lU.mp hz with rfl | hz
 ·refine⟨lt,?_⟩
  have d1:(4*x.1+x.2) / 4=x.1:=by omega
  have d2:(4*y.1+y.2) / 4=y.1:=by omega
  rcases e with e | e <;> rw[e]
  ·exact⟨ok x hx.1 hx.2 x4,ok y hy.1 hy.2 y4,by show (4*x.1+x.2) / 4≠(4*y.1+y.2) / 4;omega⟩
  ·exact⟨ok y hy.1 hy.2 y4,ok x hx.1 hx.2 x4,by show (4*y.1+y.2) / 4≠(4*x.1+x.2) / 4;omega⟩
 ·exact h.Ra z hz
theorem Ud {m:Map} (h:WF m) {i:Nat} (hi:i<m.provinces.length) {p:cJ} (hp:Wh m.powers.length p) (hs:p.shores=(ag m i).shores)
  (hu:∀j w,j<m.provinces.length->j≠i->called (ag m j) w=true->¬ called p w=true):WF (setProvince m i p):=by
 have len:(setProvince m i p).provinces.length=m.provinces.length:=by simp[setProvince]
 have TV:∀j,(ag (setProvince m i p) j).shores=(ag m j).shores:=fun j=>by
  rw[jC hi]
  split
  ·rename_i e;rw[e,hs]
  ·rfl
 have plk:∀y,placeOk m y->placeOk (setProvince m i p) y:=fun y ⟨a,b⟩=>⟨by rw[len];exact a,by rw[TV];exact b⟩
 refine⟨h.pw,h.pwd,h.pwl,?_,by rw[len];exact h.LR,?_,h.ld,fun x hx=>⟨(h.OL x hx).1,by rw[len];exact (h.OL x hx).2⟩,h.ZC,h.se,fun x hx=>?_,h.sel,fun s hs=>?_,h.stl⟩
 ·intro q hq
  rcases List.mem_or_eq_of_mem_set hq with z | z
  ·exact h.pv q z
  ·rw[z];exact hp
 ·intro j k w hj hk cj ck
  rw[len] at hj hk
  rw[jC hi] at cj ck
  by_cases a:j=i
  ·rw[if_pos a] at cj
   by_cases b:k=i
   ·omega
   ·rw[if_neg b] at ck;exact absurd cj (hu k w hk b ck)
  ·rw[if_neg a] at cj
   by_cases b:k=i
   ·rw[if_pos b] at ck;exact absurd ck (hu j w hj a cj)
   ·rw[if_neg b] at ck;exact h.uq j k w hj hk cj ck
 ·obtain⟨a,b,c,d⟩:=h.Ra x hx
  exact⟨a,plk _ b,plk _ c,d⟩
 ·obtain⟨a,b,c⟩:=h.st s hs
  exact⟨a,by rw[len];exact b,by rw[TV];exact c⟩
theorem yC {m:Map} (h:WF m) {i:Nat} (hi:i<m.provinces.length) {o:Option Nat} (ho:∀k,o=some k->k<m.powers.length):WF (setProvince m i { ag m i with centre:=true,home:=o }):=by
 have q:=h.pv _ (dZ hi)
 exact Ud h hi ⟨q.nm,q.sh,q.ne,q.TV,q.dst,q.one,q.four,q.kd,ho,fun z=>nomatch z⟩ rfl fun j w hj hn c c'=>hn (h.uq j i w hj hi c c')
theorem OW {m:Map} (h:WF m) {i:Nat} (hi:i<m.provinces.length):WF (setProvince m i { ag m i with centre:=true }):=
 yC h hi fun k e=>(h.pv _ (dZ hi)).hm k e
theorem Uc {m:Map} (h:WF m) {k i s:Nat} {f:Bool} (hk:k<m.powers.length) (hi:i<m.provinces.length) (hs:s<max 1 (ag m i).shores.length) (hl:m.starts.length<24) :
  WF { m with starts:=m.starts++[{ power:=k,fleet:=f,prov:=i,shore:=s }] }:=by
 refine { h with st:=fun x hx=>?_,stl:=by simp;omega }
 rcases bx.mp hx with q | q
 ·exact h.st x q
 ·rw[aY.mp q];exact⟨hk,hi,hs⟩
theorem Gn {α:Type} {o:Option α} (h:¬ o.isSome=true):o=none:=by cases o <;> simp_all
theorem DO {m m':Map} (h:WF m) {k i s:Nat} {f:Bool} (hk:k<m.powers.length) (hi:i<m.provinces.length) (hs:s<max 1 (ag m i).shores.length) (e:gZ m k f i s=.ok m'):WF m':=by
 unfold gZ at e
 dsimp only at e
 split at e
 ·cases e
 ·split at e
  ·cases e
  ·split at e
   ·cases e
   ·rename_i hl
    cases e
    exact Uc h hk hi hs (by unfold UNITS at hl;omega)
theorem v_ {m m':Map} (h:WF m) {kd:Nat} {n s:fC} {sh:List fC} (hk:kd<=2) (hn:named 1 15 n=true) (hs:named 2 2 s=true) (ha:sh.all shoreName=true) (hd:distinctWords sh=true) (h1:sh.length≠1) (h4:sh.length<=4)
  (e:qI m kd n s sh=.ok m'):WF m':=by
 unfold qI at e
 split at e
 ·cases e
 ·rename_i hq
  split at e
  ·cases e
  ·rename_i hl
   cases e
   exact L9 h hk hn hs ha hd h1 h4 (fun z=>hq (.inl z)) (Gn fun z=>hq (.inr (.inl z))) (Gn fun z=>hq (.inr (.inr z))) (by unfold LQ at hl;omega)
theorem qA {b:Bool} (h:¬ b=false):b=true:=by cases b <;> simp_all
theorem zH {b:Bool} (h:¬ b=true):b=false:=by cases b <;> simp_all
theorem Ka {m m':Map} (h:WF m) {ws:List fC} (e:statement m ws=.ok m'):WF m':=by
 match ws with
 | []=>cases e;exact h
 | k::r=>
  unfold statement at e
  dsimp only at e
  split at e
  ·split at e
   ·rename_i n
    split at e
    ·cases e
    ·rename_i hn
     split at e
     ·cases e
     ·rename_i ho
      split at e
      ·cases e
      ·rename_i hl
       cases e
       exact Ue h (qA hn) (Gn ho) (by unfold aan at hl;omega)
   ·cases e
  ·split at e
   ·split at e
    ·rename_i n s
     split at e
     ·cases e
     ·rename_i hn
      have hn:=qA hn
      rw[bL] at hn
      refine v_ h ?_ hn.1 hn.2 rfl rfl (by decide) (by decide) e
      split <;> omega
    ·cases e
   ·split at e
    ·split at e
     ·rename_i n s sh
      split at e
      ·cases e
      ·rename_i hn
       have hn:=qA hn
       simp only[bL,bne_iff_ne,decide_eq_true_eq] at hn
       exact v_ h (by decide) hn.1 hn.2.1 hn.2.2.1 hn.2.2.2.1 hn.2.2.2.2.1 hn.2.2.2.2.2 e
     ·cases e
    ·split at e
     ·split at e
      ·rename_i a b
       unfold join at e
       split at e
       ·rename_i i j hi hj
        split at e
        ·cases e
        ·rename_i hq
         split at e
         ·cases e
         ·rename_i hc
          split at e
          ·cases e
          ·rename_i hl
           cases e
           exact WO h (dX hi).1 (dX hj).1 (fun z=>hq (.inl z)) (zH hc) (by unfold LINKS at hl;omega)
       ·cases e
      ·cases e
     ·split at e
      ·split at e
       ·rename_i a b
        unfold sail at e
        split at e
        ·rename_i x y hx hy
         dsimp only at e
         split at e
         ·cases e
         ·rename_i hq
          split at e
          ·cases e
          ·rename_i hc
           split at e
           ·cases e
           ·rename_i hl
            cases e
            exact WN h (jD hx) (jD hy) (fun z=>hq (.inl z)) (zH hc) (by unfold LINKS at hl;omega)
        ·cases e
       ·cases e
      ·split at e
       ·split at e
        ·unfold centre at e
         split at e
         ·cases e
         ·rename_i i hi
          dsimp only at e
          split at e
          ·cases e
          ·split at e
           ·cases e
           ·cases e
            exact OW h (dX hi).1
        ·unfold centre at e
         split at e
         ·cases e
         ·rename_i i hi
          dsimp only at e
          split at e
          ·cases e
          ·rename_i k hk
           split at e
           ·cases e
           ·split at e
            ·cases e
            ·cases e
             exact yC h (dX hi).1 fun k' z=>by cases z;exact (uj hk).1
        ·cases e
       ·split at e
        ·split at e
         ·split at e
          ·split at e
           ·rename_i x i hx hi
            exact DO h (uj hx).1 (dX hi).1 (by omega) e
           ·cases e
          ·split at e
           ·split at e
            ·rename_i x i hx hi
             exact DO h (uj hx).1 (jD hi).1 (jD hi).2 e
            ·cases e
           ·cases e
         ·cases e
        ·cases e
theorem QU {m m':Map} (h:WF m) {l:fC} (e:line m l=.ok m'):WF m':=by
 unfold line at e
 split at e
 ·cases e
 ·split at e
  ·cases e;exact h
  ·exact Ka h e
theorem DW:∀(ls:List fC) (k:Nat) {m:Map},WF m->readFrom k m (ls.map iZ)=readFrom k m ls
 | [],_,_,_=>rfl
 | l::r,k,m,h=>by
  show readFrom k m (iZ l::r.map iZ)=readFrom k m (l::r)
  unfold readFrom
  rw[XO h.gn]
  cases e:line m l with
  | error _=>rfl
  | ok m1=>exact DW r (k+1) (QU h e)
theorem Xm (t:fC):read (iZ t)=read t:=by
 unfold E9
 rw[NM]
 exact DW _ 1 WF.empty
theorem Sg {m:Map} (h:WF m) {i:Nat} (hi:i<m.provinces.length) {n s:fC} (hn:named 1 15 n=true) (hs:named 2 2 s=true) (ns:n≠s)
  (ho:a8 (setProvince m i { ag m i with name:=[],short:=[] }) n=none) (hp:a8 (setProvince m i { ag m i with name:=[],short:=[] }) s=none) :
  WF (setProvince m i { ag m i with name:=n,short:=s }):=by
 have q:=h.pv _ (dZ hi)
 refine Ud h hi ⟨hn,hs,ns,q.TV,q.dst,q.one,q.four,q.kd,q.hm,q.ch⟩ rfl fun j w hj hne c c'=>?_
 have len:(setProvince m i { ag m i with name:=[],short:=[] }).provinces.length=m.provinces.length:=by simp[setProvince]
 have a:=jZ ho (i:=j) (by rw[len];exact hj)
 have b:=jZ hp (i:=j) (by rw[len];exact hj)
 rw[jC hi,if_neg hne] at a b
 unfold called at c'
 simp only[hC,beq_iff_eq] at c'
 rcases c' with e | e
 ·rw[e] at a;rw[a] at c;cases c
 ·rw[e] at b;rw[b] at c;cases c
end Pb
namespace Pb
open Vbsoab
def yW (near:Nat->List Nat) (x:Nat):Nat->Nat->Prop
 | 0,y=>y=x
 | n+1,y=>yW near x n y\/∃z,yW near x n z/\y∈near z
section
variable {near:Nat->List Nat} {x y:Nat}
theorem yW.succ {n:Nat} (h:yW near x n y):yW near x (n+1) y:=.inl h
theorem yW.mono {n k:Nat} (h:yW near x n y) (hk:n<=k):yW near x k y:=by
 induction k with
 | zero=>rw[acG.mp hk] at h;exact h
 | succ k ih=>
  by_cases e:n=k+1
  ·subst e;exact h
  ·exact (ih (by omega)).succ
theorem yW.trans {z:Nat} {n k:Nat} (h:yW near x n y):yW near y k z->yW near x (n+k) z:=by
 induction k generalizing z with
 | zero=>intro q;rw[show z=y from q];exact h
 | succ k ih=>
  rintro (q | ⟨u,q,m⟩)
  ·exact (ih q).succ
  ·exact .inr ⟨u,ih q,m⟩
theorem yW.symm (sy:∀a b,b∈near a->a∈near b):∀{n x y:Nat},yW near x n y->yW near y n x
 | 0,_,_,h=>(show _=_ from h).symm
 | n+1,x,y,h=>by
  rcases h with h | ⟨z,h,m⟩
  ·exact (yW.symm sy h).succ
  ·have h1:yW near y 1 z:=.inr ⟨y,rfl,sy _ _ m⟩
   have h2:=h1.trans (yW.symm sy h)
   rw[abU] at h2
   exact h2
def Lev (near:Nat->List Nat) (x n:Nat) (l:List Nat):Prop:=∀y,y∈l<->yW near x n y
theorem abc:Lev near x 0 [x]:=fun y=>by simp[yW]
theorem IG {l:List Nat} {a:Nat}:a∈l.eraseDups<->a∈l:=List.mem_eraseDups
theorem JD {n:Nat} {l:List Nat} (h:Lev near x n l):Lev near x (n+1) (widen near l):=fun y=>by
 unfold widen
 rw[bx,IG,c8,FP]
 constructor
 ·rintro (q | ⟨⟨z,hz,m⟩,_⟩)
  ·exact .inl ((h y).mp q)
  ·exact .inr ⟨z,(h z).mp hz,m⟩
 ·rintro (q | ⟨z,q,m⟩)
  ·exact .inl ((h y).mpr q)
  ·by_cases c:y∈l
   ·exact .inl c
   ·exact .inr ⟨⟨z,(h z).mpr q,m⟩,by simpa using c⟩
theorem VJ {n d k:Nat} {l:List Nat} (h:Lev near x d l) (e:far near y n d l=some k):d<=k/\k<=d+n/\yW near x k y/\∀j,d<=j->j<k->¬ yW near x j y:=by
 induction n generalizing d l with
 | zero=>
  unfold far at e
  split at e
  ·rename_i c
   cases e
   exact⟨aC _,aC _,(h y).mp (fS.mp c),fun j a b=>absurd b (by omega)⟩
  ·cases e
 | succ n ih=>
  unfold far at e
  split at e
  ·rename_i c
   cases e
   exact⟨aC _,by omega,(h y).mp (fS.mp c),fun j a b=>absurd b (by omega)⟩
  ·rename_i c
   obtain⟨a,b,r,u⟩:=ih (JD h) e
   refine⟨by omega,by omega,r,fun j h1 h2 q=>?_⟩
   by_cases z:j=d
   ·subst z;exact c (fS.mpr ((h y).mpr q))
   ·exact u j (by omega) h2 q
theorem VL {n d:Nat} {l:List Nat} (h:Lev near x d l) (e:far near y n d l=none):¬ yW near x (d+n) y:=by
 induction n generalizing d l with
 | zero=>
  unfold far at e
  split at e
  ·cases e
  ·rename_i c
   exact fun q=>c (fS.mpr ((h y).mpr q))
 | succ n ih=>
  unfold far at e
  split at e
  ·cases e
  ·have:=ih (JD h) e
   rw[show d+(n+1)=d+1+n by omega]
   exact this
def OC (near:Nat->List Nat) (x y d:Nat):Prop:=yW near x d y/\∀j,j<d->¬ yW near x j y
theorem OC.uniq {d e:Nat} (h:OC near x y d) (k:OC near x y e):d=e:=by
 by_cases h1:d<e
 ·exact absurd h.1 (k.2 d h1)
 ·by_cases h2:e<d
  ·exact absurd k.1 (h.2 e h2)
  ·omega
theorem iA {d:Nat} (e:distance near x y=some d):OC near x y d/\d<=160:=by
 obtain⟨_,b,r,u⟩:=VJ abc e
 exact⟨⟨r,fun j hj=>u j (cu _) hj⟩,by omega⟩
theorem JR (e:distance near x y=none):¬ yW near x 160 y:=by
 have:=VL abc e
 rw[QQ] at this
 exact this
theorem yR {d:Nat} (h:OC near x y d) (hd:d<=160):distance near x y=some d:=by
 cases e:distance near x y with
 | none=>exact absurd (h.1.mono hd) (JR e)
 | some k=>rw[(iA e).1.uniq h]
theorem RV (h:¬ ∃n,yW near x n y):distance near x y=none:=by
 cases e:distance near x y with
 | none=>rfl
 | some k=>exact absurd ⟨k,(iA e).1.1⟩ h
theorem OC.symm (sy:∀a b,b∈near a->a∈near b) {d:Nat} (h:OC near x y d):OC near y x d:=⟨h.1.symm sy,fun j hj q=>h.2 j hj (q.symm sy)⟩
theorem yQ (sy:∀a b,b∈near a->a∈near b):distance near x y=distance near y x:=by
 cases e:distance near x y with
 | some d=>rw[yR ((iA e).1.symm sy) (iA e).2]
 | none=>
  cases e':distance near y x with
  | none=>rfl
  | some d=>exact absurd (((iA e').1.1.symm sy).mono (iA e').2) (JR e)
end
structure R5 (near:Nat->List Nat) (x:Nat) (q:List (Nat×Nat)) (at_:Nat):Prop where
 hd:q[0]?=some (x,0)
 nd:(q.map (·.1)).Nodup
 ex:∀p∈q,OC near x p.1 p.2
 mono:∀(i j:Nat) (a b:Nat×Nat),i<=j->q[i]?=some a->q[j]?=some b->a.2<=b.2
 one:∀(i:Nat) (a b:Nat×Nat),q[at_]?=some a->q[i]?=some b->b.2<=a.2+1
 done:∀(i:Nat) (a:Nat×Nat),i<at_->q[i]?=some a->∀y∈near a.1,y∈q.map (·.1)
 le:at_<=q.length
section
variable {near:Nat->List Nat} {x:Nat} {q:List (Nat×Nat)} {at_:Nat}
theorem R5.start:R5 near x [(x,0)] 0 where
 hd:=rfl
 nd:=by simp
 ex:=fun p hp=>by rw[aY.mp hp];exact⟨rfl,fun j h=>absurd h (by omega)⟩
 mono:=fun i j a b _ h1 h2=>by
  have e1:i=0:=by have:=(ax.mp h1).1;simp at this;omega
  have e2:j=0:=by have:=(ax.mp h2).1;simp at this;omega
  subst e1 e2
  rw[h1] at h2;cases h2;exact aC _
 one:=fun i a b h1 h2=>by
  have e2:i=0:=by have:=(ax.mp h2).1;simp at this;omega
  subst e2
  rw[h1] at h2;cases h2;omega
 done:=fun i a h=>absurd h (by omega)
 le:=cu _
theorem R5.met (B:R5 near x q at_) {d:Nat} (hd:∀(i:Nat) (a:Nat×Nat),at_<=i->q[i]?=some a->d<=a.2):∀{k y:Nat},k<=d->yW near x k y->y∈q.map (·.1)
 | 0,y,_,h=>by
  have e:y=x:=h
  subst e
  exact a9.mpr ⟨_,aN B.hd,rfl⟩
 | k+1,y,hk,h=>by
  rcases h with h | ⟨z,h,m⟩
  ·exact B.met hd (by omega) h
  ·obtain⟨p,hp,rfl⟩:=a9.mp (B.met hd (by omega) h)
   obtain⟨i,hi⟩:=dG hp
   have hp2:p.2<=k:=by
    by_cases c:p.2<=k
    ·exact c
    ·exact absurd h ((B.ex p hp).2 k (by omega))
   have hlt:i<at_:=by
    by_cases c:i<at_
    ·exact c
    ·have:=hd i p (by omega) hi;omega
   exact B.done i p hlt hi y m
theorem R5.all (B:R5 near x q q.length) {k y:Nat} (h:yW near x k y):y∈q.map (·.1):=
 B.met (d:=k) (fun i a h1 h2=>absurd (ax.mp h2).1 (by omega)) (aC _) h
structure vo (near:Nat->List Nat) (x:Nat) (q:List (Nat×Nat)) (at_:Nat) (a:Nat×Nat) (seen:List Nat):Prop where
 hd:q[0]?=some (x,0)
 nd:(q.map (·.1)).Nodup
 ex:∀p∈q,OC near x p.1 p.2
 mono:∀(i j:Nat) (a b:Nat×Nat),i<=j->q[i]?=some a->q[j]?=some b->a.2<=b.2
 now:q[at_]?=some a
 one:∀(i:Nat) (b:Nat×Nat),q[i]?=some b->b.2<=a.2+1
 done:∀(i:Nat) (a:Nat×Nat),i<at_->q[i]?=some a->∀y∈near a.1,y∈q.map (·.1)
 part:∀y∈seen,y∈q.map (·.1)
theorem R5.go (B:R5 near x q at_) {a:Nat×Nat} (h:q[at_]?=some a):vo near x q at_ a []:=
 ⟨B.hd,B.nd,B.ex,B.mono,h,fun i b hb=>B.one i a b h hb,B.done,fun y hy=>absurd hy (by simp)⟩
theorem vo.met {a:Nat×Nat} {seen:List Nat} (B:vo near x q at_ a seen) {k y:Nat} (hk:k<=a.2) (h:yW near x k y):y∈q.map (·.1):=by
 induction k generalizing y with
 | zero=>
  have e:y=x:=h
  subst e
  exact a9.mpr ⟨_,aN B.hd,rfl⟩
 | succ k ih=>
  rcases h with h | ⟨z,h,m⟩
  ·exact ih (by omega) h
  ·obtain⟨p,hp,rfl⟩:=a9.mp (ih (by omega) h)
   obtain⟨i,hi⟩:=dG hp
   have hp2:p.2<=k:=by
    by_cases c:p.2<=k
    ·exact c
    ·exact absurd h ((B.ex p hp).2 k (by omega))
   have hlt:i<at_:=by
    by_cases c:i<at_
    ·exact c
    ·have:=B.mono at_ i a p (by omega) B.now hi;omega
   exact B.done i p hlt hi y m
theorem vo.old {a:Nat×Nat} {seen:List Nat} {y:Nat} (B:vo near x q at_ a seen) (h:y∈q.map (·.1)):vo near x q at_ a (seen++[y]):=
 ⟨B.hd,B.nd,B.ex,B.mono,B.now,B.one,B.done,fun z hz=>by
  rcases bx.mp hz with hz | hz
  ·exact B.part z hz
  ·rw[aY.mp hz];exact h⟩
theorem vo.new {a:Nat×Nat} {seen:List Nat} {y:Nat} (B:vo near x q at_ a seen) (hy:y∈near a.1) (h:y∉q.map (·.1)):vo near x (q++[(y,a.2+1)]) at_ a (seen++[y]):=by
 have hat:at_<q.length:=(ax.mp B.now).1
 have mem':∀z,z∈q.map (·.1)->z∈(q++[(y,a.2+1)]).map (·.1):=fun z hz=>by rw[bh];exact bJ _ hz
 have ca:a∈q:=aN B.now
 have get:∀{i:Nat} {b:Nat×Nat},(q++[(y,a.2+1)])[i]?=some b->(i<q.length/\q[i]?=some b)\/(i=q.length/\b=(y,a.2+1)):=fun {i b} e=>by
  by_cases c:i<q.length
  ·rw[dC c] at e;exact .inl ⟨c,e⟩
  ·have hi:=(ax.mp e).1
   rw[aA,bS] at hi
   have e2:i=q.length:=by omega
   subst e2
   rw[eO (aC _),qJ] at e
   exact .inr ⟨rfl,(bQ e).symm⟩
 refine⟨?_,?_,?_,?_,?_,?_,?_,?_⟩
 ·rw[dC (by omega)];exact B.hd
 ·rw[bh,Et]
  refine⟨B.nd,by simp,fun u hu v hv=>?_⟩
  simp at hv
  rw[hv]
  exact fun e=>h (e▸hu)
 ·intro p hp
  rcases bx.mp hp with hp | hp
  ·exact B.ex p hp
  ·rw[aY.mp hp]
   refine⟨.inr ⟨a.1,(B.ex a ca).1,hy⟩,fun j hj r=>h (B.met (by show j<=a.2;have:j<a.2+1:=hj;omega) r)⟩
 ·intro i j c d hij hc hd
  rcases get hc with ⟨l1,e1⟩ | ⟨l1,e1⟩ <;> rcases get hd with ⟨l2,e2⟩ | ⟨l2,e2⟩
  ·exact B.mono i j c d hij e1 e2
  ·rw[e2];exact B.one i c e1
  ·omega
  ·rw[e1,e2];exact aC _
 ·rw[dC hat];exact B.now
 ·intro i b hb
  rcases get hb with ⟨_,e1⟩ | ⟨_,e1⟩
  ·exact B.one i b e1
  ·rw[e1];exact aC _
 ·intro i c hi hc z hz
  rcases get hc with ⟨_,e1⟩ | ⟨l1,_⟩
  ·exact mem' z (B.done i c hi e1 z hz)
  ·omega
 ·intro z hz
  rcases bx.mp hz with hz | hz
  ·exact mem' z (B.part z hz)
  ·rw[aY.mp hz,bh];exact au _ (by simp)
theorem vo.next {a:Nat×Nat} (B:vo near x q at_ a (near a.1)):R5 near x q (at_+1) where
 hd:=B.hd
 nd:=B.nd
 ex:=B.ex
 mono:=B.mono
 one:=fun i c b hc hb=>by
  have h1:=B.mono at_ (at_+1) a c (by omega) B.now hc
  have h2:=B.one i b hb
  omega
 done:=fun i c hi hc y hy=>by
  by_cases e:i=at_
  ·subst e
   rw[B.now] at hc;cases hc
   exact B.part y hy
  ·exact B.done i c (by omega) hc y hy
 le:=(ax.mp B.now).1
theorem my:∀{l U:List Nat},l.Nodup->(∀y∈l,y∈U)->l.length<=U.length
 | [],_,_,_=>cu _
 | a::l,U,h,hu=>by
  obtain⟨h1,h2⟩:=c7.mp h
  have ha:a∈U:=hu a (by simp)
  have:=my (l:=l) (U:=U.erase a) h2 fun y hy=>(R' (fun e:y=a=>h1 (e▸hy))).mpr (hu y (aE _ hy))
  rw[L4 ha] at this
  have hp:0<U.length:=vV ha
  rw[aG];omega
theorem Qk {U:List Nat} (hx:x∈U) (hn:∀a∈U,∀y∈near a,y∈U) {y d:Nat} (h:OC near x y d):d<U.length:=by
 have step:∀{d y:Nat},OC near x y (d+1)->∃z,OC near x z d/\y∈near z:=fun {d y} h=>by
  rcases h.1 with r | ⟨z,r,m⟩
  ·exact absurd r (h.2 d (by omega))
  ·refine⟨z,⟨r,fun j hj q=>?_⟩,m⟩
   exact h.2 (j+1) (by omega) (.inr ⟨z,q,m⟩)
 have inU:∀{d y:Nat},yW near x d y->y∈U:=fun {d}=>by
  induction d with
  | zero=>intro y r;rw[show y=x from r];exact hx
  | succ n ih=>
   rintro y (r | ⟨z,r,m⟩)
   ·exact ih r
   ·exact hn z (ih r) y m
 have chain:∀{d y:Nat},OC near x y d->∃l:List Nat,l.length=d+1/\l.Nodup/\∀z∈l,z∈U/\∃k,k<=d/\OC near x z k:=fun {d}=>by
  induction d with
  | zero=>intro y h;exact⟨[y],rfl,by simp,fun z hz=>by rw[aY.mp hz];exact⟨inU h.1,0,aC _,h⟩⟩
  | succ d ih=>
   intro y h
   obtain⟨z,hz,m⟩:=step h
   obtain⟨l,l1,l2,l3⟩:=ih hz
   refine⟨y::l,by rw[aG,l1],c7.mpr ⟨fun q=>?_,l2⟩,fun u hu=>?_⟩
   ·obtain⟨_,k,hk,dk⟩:=l3 y q
    have:=dk.uniq h;omega
   ·rcases aF.mp hu with e | hu
    ·rw[e];exact⟨inU h.1,d+1,aC _,h⟩
    ·obtain⟨a,k,hk,dk⟩:=l3 u hu
     exact⟨a,k,by omega,dk⟩
 obtain⟨l,l1,l2,l3⟩:=chain h
 have:=my l2 fun z hz=>(l3 z hz).1
 omega
end
end Pb
namespace Pb
open Vbsoab
theorem fg {l:List (Nat×Nat)} {p q:Nat}:bU l p q=true<->(p,q)∈l\/(q,p)∈l:=by
 unfold bU
 rw[vC]
 constructor
 ·rintro ⟨k,hk,h⟩
  simp only[hC,bL,beq_iff_eq] at h
  rcases h with ⟨a,b⟩ | ⟨a,b⟩
  ·left;rw[<- a,<- b];exact hk
  ·right;rw[<- a,<- b];exact hk
 ·rintro (h | h)
  ·exact⟨_,h,by simp⟩
  ·exact⟨_,h,by simp⟩
theorem lV {l:List (Nat×Nat)} {p q:Nat}:bU l p q=bU l q p:=by
 rw[bq,fg,fg]
 exact Or.comm
theorem eW {l:List (Nat×Nat)} {x y p q:Nat}:bU (putPair (pair x y) l) p q=true<->(p=x/\q=y)\/(p=y/\q=x)\/bU l p q=true:=by
 rw[fg,fg,lU,lU]
 have e:∀a b:Nat,(a,b)=pair x y->(a=x/\b=y)\/(a=y/\b=x):=fun a b h=>by
  unfold pair at h
  split at h
  ·injection h with h1 h2;exact .inl ⟨h1,h2⟩
  ·injection h with h1 h2;exact .inr ⟨h1,h2⟩
 have f:pair x y=(x,y)\/pair x y=(y,x):=by unfold pair;split <;> simp
 constructor
 ·rintro ((h | h) | (h | h))
  ·rcases e _ _ h with z | z
   ·exact .inl z
   ·exact .inr (.inl z)
  ·exact .inr (.inr (.inl h))
  ·rcases e _ _ h with z | z
   ·exact .inr (.inl ⟨z.2,z.1⟩)
   ·exact .inl ⟨z.2,z.1⟩
  ·exact .inr (.inr (.inr h))
 ·rintro (⟨rfl,rfl⟩ | ⟨rfl,rfl⟩ | h | h)
  ·rcases f with f | f
   ·exact .inl (.inl f.symm)
   ·exact .inr (.inl f.symm)
  ·rcases f with f | f
   ·exact .inr (.inl f.symm)
   ·exact .inl (.inl f.symm)
  ·exact .inl (.inr h)
  ·exact .inr (.inr h)
theorem zG {l:List (Nat×Nat)} (ho:∀x∈l,x.1<x.2) {x y:Nat} (h:x≠y):l.contains (pair x y)=bU l x y:=by
 rw[bq,fg,fS]
 unfold pair
 split
 ·constructor
  ·exact .inl
  ·rintro (q | q)
   ·exact q
   ·have:=ho _ q;simp at this;omega
 ·constructor
  ·exact .inr
  ·rintro (q | q)
   ·have:=ho _ q;simp at this;omega
   ·exact q
theorem t7 (n:Nat):(be n).Pairwise (· < ·):=vU
section
variable {m:Map}
theorem HI (h:WF m) {p q:Nat}:q∈zh m p<->bU m.land p q=true:=by
 unfold zh
 rw[c8,bN]
 refine⟨fun z=>z.2,fun z=>⟨?_,z⟩⟩
 rcases fg.mp z with e | e
 ·exact (h.OL _ e).2
 ·have:=h.OL _ e;simp at this;omega
theorem Tp (p:Nat):(zh m p).Pairwise (· < ·):=(t7 _).filter _
theorem To (h:WF m) (a b:Nat) (q:b∈zh m a):a∈zh m b:=by rw[HI h] at *;rw[lV];exact q
theorem Ye (h:WF m) {p q:Nat} (z:q∈zh m p):q<m.provinces.length:=by unfold zh at z;exact bN.mp (c8.mp z).1
theorem Ai {y:Nat} (h:WF m):y∈placesOf m<->placeOk m y:=by
 unfold placesOf placeOk
 rw[FP]
 constructor
 ·rintro ⟨i,hi,hy⟩
  obtain⟨s,hs,rfl⟩:=a9.mp hy
  rw[bN] at hi hs
  have f:=(h.pv _ (dZ hi)).four
  have e1:(4*i+s) / 4=i:=by omega
  have e2:(4*i+s) % 4=s:=by omega
  rw[e1,e2];exact⟨hi,hs⟩
 ·rintro ⟨a,b⟩
  exact⟨y / 4,bN.mpr a,a9.mpr ⟨y % 4,bN.mpr b,by omega⟩⟩
theorem MT (h:WF m):(placesOf m).Pairwise (· < ·):=by
 unfold placesOf
 rw[QR]
 constructor
 ·intro i _
  rw[jO]
  exact (t7 _).imp fun h=>by omega
 ·refine abV (fun {a b} ha hb hab=>?_) (t7 m.provinces.length)
  intro x hx y hy
  obtain⟨s,hs,rfl⟩:=a9.mp hx
  obtain⟨u,hu,rfl⟩:=a9.mp hy
  rw[bN] at ha hs
  have f:=(h.pv _ (dZ ha)).four
  omega
theorem yN (h:WF m) {p q:Nat}:q∈Eo m p<->bU m.sea p q=true:=by
 unfold Eo
 rw[c8,Ai h]
 refine⟨fun z=>z.2,fun z=>⟨?_,z⟩⟩
 rcases fg.mp z with e | e
 ·exact (h.Ra _ e).2.2.1
 ·exact (h.Ra _ e).2.1
theorem Qi (h:WF m) (p:Nat):(Eo m p).Pairwise (· < ·):=(MT h).filter _
theorem Qh (h:WF m) (a b:Nat) (q:b∈Eo m a):a∈Eo m b:=by rw[yN h] at *;rw[lV];exact q
def Z' (m:Map) (p q:Nat):Prop:=bU m.land p q=true\/∃x y,bU m.sea x y=true/\x / 4=p/\y / 4=q
theorem yV (h:WF m) {p q:Nat}:q∈gd m p<->Z' m p q:=by
 unfold gd
 rw[c8,bN,hC,vC]
 constructor
 ·rintro ⟨_,z | ⟨k,hk,z⟩⟩
  ·exact .inl z
  ·simp only[hC,bL,beq_iff_eq] at z
   rcases z with ⟨a,b⟩ | ⟨a,b⟩
   ·exact .inr ⟨k.1,k.2,fg.mpr (.inl hk),a,b⟩
   ·exact .inr ⟨k.2,k.1,fg.mpr (.inr hk),b,a⟩
 ·rintro (z | ⟨x,y,z,e1,e2⟩)
  ·refine⟨?_,.inl z⟩
   rcases fg.mp z with e | e
   ·exact (h.OL _ e).2
   ·have:=h.OL _ e;simp at this;omega
  ·rcases fg.mp z with e | e
   ·refine⟨by have:=(h.Ra _ e).2.2.1.1;simp at this;omega,.inr ⟨_,e,?_⟩⟩
    simp[e1,e2]
   ·refine⟨by have:=(h.Ra _ e).2.1.1;simp at this;omega,.inr ⟨_,e,?_⟩⟩
    simp[e1,e2]
theorem Wc (p:Nat):(gd m p).Pairwise (· < ·):=(t7 _).filter _
theorem HK (h:WF m) (a b:Nat) (q:b∈gd m a):a∈gd m b:=by
 rw[yV h] at *
 rcases q with z | ⟨x,y,z,e1,e2⟩
 ·exact .inl (by rw[lV];exact z)
 ·exact .inr ⟨y,x,by rw[lV];exact z,e2,e1⟩
theorem QD {p q:Nat} (z:q∈gd m p):q<m.provinces.length:=by unfold gd at z;exact bN.mp (c8.mp z).1
end
end Pb
namespace Pb
def gb (rows:List (List Int)):List Int:=rows.flatMap fun x=>(x.length:Int)::x
def o5 (c:List (List Int)):List Int:=match c with
 | []=>[]
 | h::rows=>h++gb rows
theorem UQ {s x t:List Int} (h:aaB s=some (x,t)):s=(x.length:Int)::x++t:=by
 cases s with
 | nil=>cases h
 | cons n r=>
  simp only[aaB] at h
  split at h
  ·rename_i q
   obtain⟨q1,q2⟩:=q
   injection h with h
   injection h with h1 h2
   subst h1 h2
   have e:(r.take n.toNat).length=n.toNat:=by rw[cx];omega
   rw[e,Cu q1,iM,om]
  ·cases h
theorem Jt:∀{k:Nat} {s t:List Int} {xs:List (List Int)},OQ k s=some (xs,t)->s=gb xs++t/\xs.length=k
 | 0,s,t,xs,h=>by
  unfold OQ at h
  injection h with h
  injection h with h1 h2
  subst h1 h2
  exact⟨rfl,rfl⟩
 | k+1,s,t,xs,h=>by
  unfold OQ at h
  split at h
  ·cases h
  ·rename_i x s' e
   split at h
   ·cases h
   ·rename_i ys t' e'
    injection h with h
    injection h with h1 h2
    subst h1 h2
    obtain⟨a,b⟩:=Jt e'
    refine⟨?_,by rw[aG,b]⟩
    rw[UQ e,a]
    simp[gb]
theorem Th {l t:List Int} {c:List (List Int)} (h:aam fZ l=some (c,t)) :
  l=o5 c++t/\∃p xs rows,c=(p::xs)::rows/\fZ p=some (xs.length,rows.length):=by
 cases l with
 | nil=>cases h
 | cons p r=>
  simp only[aam] at h
  split at h
  ·cases h
  ·rename_i n k e
   split at h
   ·cases h
   ·rename_i hn
    split at h
    ·cases h
    ·rename_i ys t' e'
     injection h with h
     injection h with h1 h2
     subst h1 h2
     obtain⟨a,b⟩:=Jt e'
     refine⟨?_,p,r.take n,ys,rfl,?_⟩
     ·show p::r=(p::r.take n)++gb ys++t'
      rw[cF,<- a,iM,om]
     ·rw[e,b,cx,IX (by omega)]
theorem Hs:∀{f:Nat} {l:List Int} {cs:List (List (List Int))},L3 fZ f l=some cs ->
  l=cs.flatMap o5/\∀c∈cs,∃p xs rows,c=(p::xs)::rows/\fZ p=some (xs.length,rows.length)
 | f,[],cs,h=>by
  cases f <;> (unfold L3 at h;injection h with h;subst h;exact⟨rfl,fun c hc=>absurd hc (by simp)⟩)
 | 0,_::_,cs,h=>by cases h
 | f+1,p::r,cs,h=>by
  unfold L3 at h
  split at h
  ·cases h
  ·rename_i c t e
   split at h
   ·cases h
   ·rename_i cs' e'
    injection h with h
    subst h
    obtain⟨a,b⟩:=Th e
    obtain⟨a',b'⟩:=Hs e'
    refine⟨by rw[a,a',hU],fun x hx=>?_⟩
    rcases aF.mp hx with rfl | hx
    ·exact b
    ·exact b' x hx
inductive Is:Int->List Int->List (List Int)->aaj->Prop
 | read (t):Is 0 [] [t] (.read (dM t))
 | print:Is 1 [] [] .print
 | find (w):Is 2 [] [w] (.find (dM w))
 | place (w):Is 3 [] [w] (.place (dM w))
 | province (i):Is 4 [i] [] (.province i)
 | power (k):Is 5 [k] [] (.power k)
 | near (how i s):Is 6 [how,i,s] [] (.near how i s)
 | far (how i s j u):Is 7 [how,i,s,j,u] [] (.far how i s j u)
 | way (how i s j u):Is 8 [how,i,s,j,u] [] (.way how i s j u)
 | symmetry (l):Is 9 [] [l] (.symmetry l)
 | rename (i n s):Is 10 [i] [n,s] (.rename i (dM n) (dM s))
 | starts:Is 11 [] [] .starts
 | homes (k):Is 12 [k] [] (.homes k)
 | parts:Is 13 [] [] .parts
 | counts:Is 14 [] [] .counts
theorem Mz {p:Int} {xs:List Int} {rows:List (List Int)} (h:fZ p=some (xs.length,rows.length)) :
  ∃c,Is p xs rows c/\mI ((p::xs)::rows)=c/\T8 ((p::xs)::rows)=(p::xs)::rows:=by
 have cut:∀{a b:Nat},some (a,b)=some (xs.length,rows.length)->a=xs.length/\b=rows.length:=fun e=>by
  injection e with e;injection e with e1 e2;exact⟨e1,e2⟩
 unfold fZ at h
 by_cases q:p=0
 ·subst q;obtain⟨h1,h2⟩:=cut h
  match xs,rows,h1,h2 with | [],[t],_,_=>exact⟨_,Is.read t,rfl,rfl⟩
 rw[if_neg q] at h;clear q;by_cases q:p=1
 ·subst q;obtain⟨h1,h2⟩:=cut h
  match xs,rows,h1,h2 with | [],[],_,_=>exact⟨_,Is.print,rfl,rfl⟩
 rw[if_neg q] at h;clear q;by_cases q:p=2
 ·subst q;obtain⟨h1,h2⟩:=cut h
  match xs,rows,h1,h2 with | [],[t],_,_=>exact⟨_,Is.find t,rfl,rfl⟩
 rw[if_neg q] at h;clear q;by_cases q:p=3
 ·subst q;obtain⟨h1,h2⟩:=cut h
  match xs,rows,h1,h2 with | [],[t],_,_=>exact⟨_,Is.place t,rfl,rfl⟩
 rw[if_neg q] at h;clear q;by_cases q:p=4
 ·subst q;obtain⟨h1,h2⟩:=cut h
  match xs,rows,h1,h2 with | [i],[],_,_=>exact⟨_,Is.province i,rfl,rfl⟩
 rw[if_neg q] at h;clear q;by_cases q:p=5
 ·subst q;obtain⟨h1,h2⟩:=cut h
  match xs,rows,h1,h2 with | [i],[],_,_=>exact⟨_,Is.power i,rfl,rfl⟩
 rw[if_neg q] at h;clear q;by_cases q:p=6
 ·subst q;obtain⟨h1,h2⟩:=cut h
  match xs,rows,h1,h2 with | [i,j,k],[],_,_=>exact⟨_,Is.near i j k,rfl,rfl⟩
 rw[if_neg q] at h;clear q;by_cases q:p=7
 ·subst q;obtain⟨h1,h2⟩:=cut h
  match xs,rows,h1,h2 with | [i,j,k,l,m],[],_,_=>exact⟨_,Is.far i j k l m,rfl,rfl⟩
 rw[if_neg q] at h;clear q;by_cases q:p=8
 ·subst q;obtain⟨h1,h2⟩:=cut h
  match xs,rows,h1,h2 with | [i,j,k,l,m],[],_,_=>exact⟨_,Is.way i j k l m,rfl,rfl⟩
 rw[if_neg q] at h;clear q;by_cases q:p=9
 ·subst q;obtain⟨h1,h2⟩:=cut h
  match xs,rows,h1,h2 with | [],[t],_,_=>exact⟨_,Is.symmetry t,rfl,rfl⟩
 rw[if_neg q] at h;clear q;by_cases q:p=10
 ·subst q;obtain⟨h1,h2⟩:=cut h
  match xs,rows,h1,h2 with | [i],[n,s],_,_=>exact⟨_,Is.rename i n s,rfl,rfl⟩
 rw[if_neg q] at h;clear q;by_cases q:p=11
 ·subst q;obtain⟨h1,h2⟩:=cut h
  match xs,rows,h1,h2 with | [],[],_,_=>exact⟨_,Is.starts,rfl,rfl⟩
 rw[if_neg q] at h;clear q;by_cases q:p=12
 ·subst q;obtain⟨h1,h2⟩:=cut h
  match xs,rows,h1,h2 with | [i],[],_,_=>exact⟨_,Is.homes i,rfl,rfl⟩
 rw[if_neg q] at h;clear q;by_cases q:p=13
 ·subst q;obtain⟨h1,h2⟩:=cut h
  match xs,rows,h1,h2 with | [],[],_,_=>exact⟨_,Is.parts,rfl,rfl⟩
 rw[if_neg q] at h;clear q;by_cases q:p=14
 ·subst q;obtain⟨h1,h2⟩:=cut h
  match xs,rows,h1,h2 with | [],[],_,_=>exact⟨_,Is.counts,rfl,rfl⟩
 rw[if_neg q] at h;cases h
structure YN (l:List Int) (cs:List (List (List Int))):Prop where
 flat:l=cs.flatMap o5
 each:∀c∈cs,∃p xs rows k,c=(p::xs)::rows/\Is p xs rows k/\mI c=k/\fZ p=some (xs.length,rows.length)
 inside:∀c∈cs,Wu FJ c=true
 due:jQ l=yY (Bm gy abC cs)
 size:(jQ l).length<=10000000
theorem Wa {l:List Int} (h:J4 l=true):∃cs,YN l cs:=by
 unfold J4 at h
 split at h
 ·cases h
 ·rename_i raw e
  simp only[bL] at h
  obtain⟨⟨⟨⟨_,_⟩,h3⟩,_⟩,h5⟩:=h
  obtain⟨a,b⟩:=Hs e
  have wid:raw.map T8=raw:=by
   rw[eX (g:=id) fun c hc=>?_,Sa]
   obtain⟨p,xs,rows,rfl,hs⟩:=b c hc
   obtain⟨k,_,_,i3⟩:=Mz hs
   exact i3
  refine⟨raw,a,fun c hc=>?_,fun c hc=>cI.mp h3 c hc,?_,of_decide_eq_true h5⟩
  ·obtain⟨p,xs,rows,rfl,hs⟩:=b c hc
   obtain⟨k,i1,i2,_⟩:=Mz hs
   exact⟨p,xs,rows,k,rfl,i1,i2,hs⟩
  ·unfold jQ PyVbsoab.calls
   rw[e]
   simp only[wid]
end Pb
namespace Pb
open Vbsoab
theorem lS {lo hi:Nat} {w:fC} (h:named lo hi w=true):w.length<=hi+1:=by
 cases w with
 | nil=>simp
 | cons c r=>
  simp only[named,bL,decide_eq_true_eq] at h
  simp;omega
theorem Jq {w:fC} (h:shoreName w=true):w.length<=8:=by
 simp only[shoreName,bL,decide_eq_true_eq] at h
 omega
def Fit (r:List fC):Prop:=r.length<=7/\∀x∈r,x.length<=20
theorem G9 {l:List fC} {n:Nat} (h:∀x∈l,x.length<=n) (i:Nat):(l.getD i []).length<=n:=by
 rw[b_]
 cases e:l[i]? with
 | none=>simp
 | some x=>exact h x (aN e)
theorem sP {m:Map} (wf:WF m) (i:Nat):(ag m i).name.length<=16/\(ag m i).short.length<=3/\(ag m i).shores.length<=4/\∀s∈(ag m i).shores,s.length<=8:=by
 by_cases h:i<m.provinces.length
 ·have q:=wf.pv _ (dZ h)
  exact⟨lS q.nm,lS q.sh,q.four,fun s hs=>Jq (cI.mp q.TV s hs)⟩
 ·rw[DX h];simp
theorem place_len {m:Map} (wf:WF m) (i s:Nat):(ji m i s).length<=12:=by
 obtain⟨_,h2,_,h4⟩:=sP wf i
 unfold ji
 simp only[aA]
 split
 ·simp;omega
 ·have:=G9 h4 s
  simp only[aG];omega
theorem CJ {m:Map} (wf:WF m) (k:Nat):(m.powers.getD k []).length<=12:=G9 (fun x hx=>lS (wf.pw x hx)) k
theorem kind_len (k:Nat):(IT k).length<=5:=by unfold IT;split;decide;split <;> decide
theorem MM {m:Map} (wf:WF m):∀r∈rowsOf m,Fit r:=by
 intro r hr
 unfold rowsOf at hr
 simp only[bx,a9] at hr
 rcases hr with ⟨w,hw,rfl⟩ | ⟨p,hp,rfl⟩ | ⟨x,hx,rfl⟩ | ⟨x,hx,rfl⟩ | ⟨p,hp,rfl⟩ | ⟨s,hs,rfl⟩
 ·refine⟨by simp,fun y hy=>?_⟩
  simp only[aF,fE,or_false] at hy
  rcases hy with rfl | rfl
  ·decide
  ·have:=lS (wf.pw _ hw);omega
 ·have q:=wf.pv p hp
  refine⟨by have:=q.four;simp;omega,fun y hy=>?_⟩
  simp only[bx,aF,fE,or_false] at hy
  rcases hy with (rfl | rfl | rfl) | h
  ·have:=kind_len p.kind;omega
  ·have:=lS q.nm;omega
  ·have:=lS q.sh;omega
  ·have:=Jq (cI.mp q.TV y h);omega
 ·refine⟨by simp,fun y hy=>?_⟩
  simp only[aF,fE,or_false] at hy
  rcases hy with rfl | rfl | rfl
  ·decide
  ·have:=(sP wf x.1).2.1;omega
  ·have:=(sP wf x.2).2.1;omega
 ·refine⟨by simp,fun y hy=>?_⟩
  simp only[aF,fE,or_false] at hy
  rcases hy with rfl | rfl | rfl
  ·decide
  ·have:=place_len wf (x.1 / 4) (x.1 % 4);omega
  ·have:=place_len wf (x.2 / 4) (x.2 % 4);omega
 ·have q:=wf.pv p (c8.mp hp).1
  cases p.home with
  | none=>
   refine⟨by simp,fun y hy=>?_⟩
   simp at hy
   rcases hy with rfl | rfl
   ·decide
   ·have:=lS q.sh;omega
  | some k=>
   refine⟨by simp,fun y hy=>?_⟩
   simp only[iM,pH,aF,fE,or_false] at hy
   rcases hy with rfl | rfl | rfl
   ·decide
   ·have:=lS q.sh;omega
   ·have:=CJ wf k;omega
 ·refine⟨by simp,fun y hy=>?_⟩
  simp only[aF,fE,or_false] at hy
  rcases hy with rfl | rfl | rfl | rfl
  ·decide
  ·have:=CJ wf s.power;omega
  ·split <;> decide
  ·split
   ·have:=place_len wf s.prov s.shore;omega
   ·have:=(sP wf s.prov).2.1;omega
theorem F_ {m:Map} (wf:WF m):(rowsOf m).length<=800:=by
 unfold rowsOf
 simp only[aA,aa]
 have h1:=wf.pwl
 have h2:=wf.LR
 have h3:=wf.ZC
 have h4:=wf.sel
 have h5:=wf.stl
 have h6:=cY (fun p:cJ=>p.centre) m.provinces
 omega
theorem zX:∀{r:List fC},(∀x∈r,x.length<=20)->(spaced r).length<=21*r.length
 | [],_=>by simp[spaced]
 | [w],h=>by have:=h w (by simp);simp[spaced];omega
 | w::v::l,h=>by
  have h1:=h w (by simp)
  have h2:=zX (r:=v::l) fun x hx=>h x (aE _ hx)
  simp only[spaced,aA,aG] at h2 ⊢
  omega
theorem Jy {m:Map} (wf:WF m):(print m).length<=150*800:=by
 have key:∀l:List (List fC),(∀r∈l,Fit r)->(l.flatMap fun r=>spaced r++[10]).length<=150*l.length:=fun l=>by
  induction l with
  | nil=>intro _;simp
  | cons r l ih=>
   intro h
   have h1:=h r (by simp)
   have h2:=ih fun x hx=>h x (aE _ hx)
   have h3:=zX h1.2
   have h4:=h1.1
   rw[hU,aA,aA,bS,aG]
   omega
 have:=key (rowsOf m) (MM wf)
 have:=F_ wf
 unfold print
 omega
end Pb
namespace Pb
open Vbsoab
section
variable {near:Nat->List Nat} {y:Nat} {q:List (Nat×Nat)} {U:List Nat}
theorem Ht (B:R5 near y q q.length) (sy:∀a b,b∈near a->a∈near b) (hy:y∈U) (Hq:∀a∈U,∀z∈near a,z∈U) (hE:U.length<=160) {p:Nat×Nat} (hp:p∈q):distance near p.1 y=some p.2:=by
 rw[yQ sy]
 have d:=B.ex p hp
 exact yR d (by have:=Qk hy Hq d;omega)
theorem Ol (B:R5 near y q q.length) (sy:∀a b,b∈near a->a∈near b) {z:Nat} (hz:z∉q.map (·.1)):distance near z y=none:=by
 rw[yQ sy]
 refine RV ?_
 rintro ⟨n,h⟩
 exact hz (B.all h)
theorem S' {z:Nat} (h:distance near z y=some 0):z=y:=by
 have:=(iA h).1.1
 exact (show y=z from this).symm
theorem JQ:distance near y y=some 0:=yR ⟨rfl,fun j hj=>absurd hj (by omega)⟩ (by omega)
theorem Ug (sy:∀a b,b∈near a->a∈near b) {c r:Nat} (h:distance near c y=some (r+1)):∃z,(near c).find? (fun z=>distance near z y==some r)=some z:=by
 obtain⟨d,le⟩:=iA h
 have d:=d.symm sy
 obtain⟨z,dz,hz⟩:∃z,OC near y z r/\c∈near z:=by
  rcases d.1 with q | ⟨z,q,mem⟩
  ·exact absurd q (d.2 r (by omega))
  ·exact⟨z,⟨q,fun j hj w=>d.2 (j+1) (by omega) (.inr ⟨z,w,mem⟩)⟩,mem⟩
 have e:distance near z y=some r:=by rw[yQ sy];exact yR dz (by omega)
 cases f:(near c).find? (fun z=>distance near z y==some r) with
 | some z=>exact⟨z,rfl⟩
 | none=>
  have:=Cw.mp f z (sy _ _ hz)
  rw[e] at this
  simp at this
theorem AE {p:Nat->Bool}:∀{l:List Nat} {z:Nat},l.Pairwise (· < ·)->l.find? p=some z->∀w∈l,p w=true->z<=w
 | [],z,_,h=>by cases h
 | a::l,z,h,f=>by
  rw[eR] at f
  obtain⟨h1,h2⟩:=jc.mp h
  intro w hw pw
  cases e:p a with
  | true=>
   rw[e] at f
   cases f
   rcases aF.mp hw with z | z
   ·rw[z];exact aC _
   ·exact qK (h1 w z)
  | false=>
   rw[e] at f
   rcases aF.mp hw with z | z
   ·rw[z,e] at pw;cases pw
   ·exact AE h2 f w z pw
def Ik (near:Nat->List Nat) (i j:Nat):Prop:=(distance near i j).isSome=true
theorem Fp (Hq:∀a∈U,∀z∈near a,z∈U) (hE:U.length<=160) {i j:Nat} (hi:i∈U):Ik near i j<->∃n,yW near i n j:=by
 unfold Ik
 constructor
 ·intro h
  cases e:distance near i j with
  | none=>rw[e] at h;cases h
  | some d=>exact⟨d,(iA e).1.1⟩
 ·rintro ⟨n,h⟩
  have least:∀n,yW near i n j->∃d,OC near i j d:=fun n=>by
   induction n using Nat.strongRecOn with
   | ind n ih=>
    intro h
    by_cases c:∃k,k<n/\yW near i k j
    ·obtain⟨k,lk,hk⟩:=c
     exact ih k lk hk
    ·exact⟨n,h,fun k lk hk=>c ⟨k,lk,hk⟩⟩
  obtain⟨d,dd⟩:=least n h
  rw[yR dd (by have:=Qk hi Hq dd;omega)]
  rfl
theorem Zj (Hq:∀a∈U,∀z∈near a,z∈U) (hE:U.length<=160) {i j k:Nat} (hi:i∈U) (hj:j∈U) (h1:Ik near i j) (h2:Ik near j k):Ik near i k:=by
 obtain⟨n,a⟩:=(Fp Hq hE hi).mp h1
 obtain⟨n',b⟩:=(Fp Hq hE hj).mp h2
 exact (Fp Hq hE hi).mpr ⟨n+n',a.trans b⟩
theorem Ks (sy:∀a b,b∈near a->a∈near b) {i j:Nat} (h:Ik near i j):Ik near j i:=by unfold Ik at *;rw[yQ sy];exact h
end
theorem Xz {m:Map} (wf:WF m) {i k:Nat} (hi:i<m.provinces.length) (hk:k<m.provinces.length) (h1:Ik (gd m) i k) (h2:∀j,j<k->¬ Ik (gd m) i j):part m i=k:=by
 unfold part
 have:(be m.provinces.length).find? (fun j=>(distance (gd m) i j).isSome)=some k:=by
  cases f:(be m.provinces.length).find? (fun j=>(distance (gd m) i j).isSome) with
  | none=>exact absurd h1 (Cw.mp f k (bN.mpr hk))
  | some z=>
   have hz:=Ys f
   have le:=AE vU f k (bN.mpr hk) h1
   by_cases c:z<k
   ·exact absurd hz (h2 z c)
   ·congr 1;omega
 rw[this];rfl
end Pb
namespace Pb
open Vbsoab
theorem N5:∀(n:Nat) (l:List Nat),l.length<=n->l.eraseDups.length<=l.length
 | 0,[],_=>by simp
 | n+1,[],_=>by simp
 | n+1,a::l,h=>by
  rw[TN,aG,aG]
  have h1:=cY (fun b=>!b==a) l
  have h2:=N5 n (l.filter fun b=>!b==a) (by simp at h;omega)
  omega
theorem uL:∀(n:Nat) (l:List Nat),l.length<=n->(l.eraseDups.length=l.length<->l.Nodup)
 | 0,[],_=>by simp
 | n+1,[],_=>by simp
 | n+1,a::l,h=>by
  rw[TN,aG,aG,c7]
  have h1:=cY (fun b=>!b==a) l
  have hl:l.length<=n:=by simp at h;omega
  have h2:=N5 n (l.filter fun b=>!b==a) (by omega)
  have same:a∉l->l.filter (fun b=>!b==a)=l:=fun na=>List.filter_eq_self.mpr fun b hb=>by
   have:b≠a:=fun e=>na (e▸hb)
   simpa using this
  constructor
  ·intro e
   have fl:(l.filter fun b=>!b==a).length=l.length:=by omega
   have na:a∉l:=fun ha=>by
    have:=List.length_filter_eq_length_iff.mp fl a ha
    simp at this
   rw[same na] at e
   exact⟨na,(uL n l hl).mp (by omega)⟩
  ·rintro ⟨na,nl⟩
   rw[same na,(uL n l hl).mpr nl]
theorem Gg {n:Nat} {l k:List Nat} (p:k.Perm l) (s:k.Pairwise (·<=·)):k=be n<->(l.length=n/\(∀x∈l,x<n)/\l.Nodup):=by
 constructor
 ·intro e
  rw[e] at p
  refine⟨by rw[<- p.length_eq,cB],fun x hx=>bN.mp (p.mem_iff.mpr hx),p.nodup_iff.mp List.nodup_range⟩
 ·rintro ⟨h1,h2,h3⟩
  have nk:k.Nodup:=p.nodup_iff.mpr h3
  have sk:k.Pairwise (· < ·):=(s.and nk).imp fun z=>by
   have:=z.1
   have:=z.2
   omega
  refine kJ (R:=(· < ·)) (fun a=>fj a) (fun a b c=>abS) sk vU fun x=>?_
  rw[p.mem_iff,bN]
  refine⟨h2 x,fun hx=>?_⟩
  by_cases c:x∈l
  ·exact c
  ·have:(x::l).Nodup:=c7.mpr ⟨c,h3⟩
   have le:=my this (U:=be n) fun y hy=>by
    rcases aF.mp hy with e | e
    ·rw[e];exact bN.mpr hx
    ·exact bN.mpr (h2 y e)
   rw[cB,aG] at le
   omega
def alike (p q:cJ):Bool:=p.kind==q.kind&&(p.shores.length==q.shores.length&&p.centre==q.centre)
def im (f:Bool) (l:List Nat) (x:Nat):Nat:=if f=true then 4*l.getD (x / 4) 0+x % 4 else l.getD x 0
theorem Ut (m:Map) (l:List Nat):symmetry m l=(l.length==m.provinces.length&&(l.all (fun i=>decide (i<m.provinces.length))&&(l.eraseDups.length==m.provinces.length&&((be m.provinces.length).all (fun i=>alike (ag m i) (ag m (l.getD i 0))) &&
  (m.land.all (fun x=>bU m.land (im false l x.1) (im false l x.2))&&m.sea.all fun x=>bU m.sea (im true l x.1) (im true l x.2)))))):=rfl
theorem Y7 {m:Map} {l:List Nat} (h:¬ (l.length=m.provinces.length/\(∀x∈l,x<m.provinces.length)/\l.Nodup)):symmetry m l=false:=by
 rw[Ey]
 intro z
 rw[Ut] at z
 simp only[bL,beq_iff_eq,cI,decide_eq_true_eq] at z
 obtain⟨a,b,c,_⟩:=z
 exact h ⟨a,b,(uL l.length l (aC _)).mp (by omega)⟩
theorem W1 {m:Map} {l:List Nat} (h:l.length=m.provinces.length/\(∀x∈l,x<m.provinces.length)/\l.Nodup):symmetry m l=((be m.provinces.length).all (fun i=>alike (ag m i) (ag m (l.getD i 0))) &&
  (m.land.all (fun x=>bU m.land (im false l x.1) (im false l x.2))&&m.sea.all fun x=>bU m.sea (im true l x.1) (im true l x.2))):=by
 rw[Ut]
 obtain⟨a,b,c⟩:=h
 have e1:(l.length==m.provinces.length)=true:=beq_iff_eq.mpr a
 have e2:l.all (fun i=>decide (i<m.provinces.length))=true:=cI.mpr fun x hx=>decide_eq_true (b x hx)
 have e3:(l.eraseDups.length==m.provinces.length)=true:=beq_iff_eq.mpr (by rw[(uL l.length l (aC _)).mpr c,a])
 rw[e1,e2,e3]
 simp
end Pb
namespace L2
open PySem PySem.Spec PyProof.Rows
abbrev Key:=Sum Int Str
def Ec:Key->ai->Bool
 | .inl k,v=>aaw k v
 | .inr x,v=>YR x v
def ac9 (w:bV):Key->Int
 | .inl k=>hashInt k
 | .inr x=>hashStr w x
theorem gA:∀{k:Key} {v:ai},Ec k v=true->(∃i t,k=dU i/\v=l6 i t)\/(∃x t,k=bB x/\v=dJ x t)
 | .inl i,v,h=>by
  obtain⟨t,e⟩:=Value.isInt_shape (k:=i) (v:=v) h
  exact .inl ⟨i,t,rfl,e⟩
 | .inr x,v,h=>by
  obtain⟨t,e⟩:=Value.isStrOf_shape (x:=x) (v:=v) h
  exact .inr ⟨x,t,rfl,e⟩
theorem SX (i:Int) (t:Tok):Ec (.inl i) (.int i t)=true:=by simp[Ec,aaw]
theorem SW (x:Str) (t:Tok):Ec (.inr x) (.str x t)=true:=by simp[Ec,YR]
theorem ZH (a b:Int):decide ((dU a:Key)=dU b)=(a==b):=by
 by_cases e:a=b
 ·subst e;simp
 ·have h:¬ (dU a:Key)=dU b:=fun q=>e (Er q)
  rw[decide_eq_false h]
  exact (beq_eq_false_iff_ne.mpr e).symm
theorem ZE (a b:Str):decide ((bB a:Key)=bB b)=decide (a=b):=by
 by_cases e:a=b
 ·subst e;simp
 ·have h:¬ (bB a:Key)=bB b:=fun q=>e (yx q)
  rw[decide_eq_false h,decide_eq_false e]
theorem ZG (a:Int) (b:Str):decide ((dU a:Key)=bB b)=false:=decide_eq_false (fun q=>nomatch q)
theorem ZF (a:Str) (b:Int):decide ((bB a:Key)=dU b)=false:=decide_eq_false (fun q=>nomatch q)
def gz (prog:bj) (w:bV):PySem.KeyKind prog w Key where
 is:=Ec
 hash:=ac9 w
 inj:=fun v a b ha hb=>by
  rcases gA ha with ⟨i,t,rfl,rfl⟩ | ⟨x,t,rfl,rfl⟩
  ·rcases gA hb with ⟨j,u,rfl,e⟩ | ⟨y,u,rfl,e⟩
   ·injection e with e1 _;rw[e1]
   ·exact nomatch e
  ·rcases gA hb with ⟨j,u,rfl,e⟩ | ⟨y,u,rfl,e⟩
   ·exact nomatch e
   ·injection e with e1 _;rw[e1]
 byValue:=fun k v h=>by
  rcases gA h with ⟨i,t,rfl,rfl⟩ | ⟨x,t,rfl,rfl⟩ <;> rfl
 pyHash:=fun hv h=>by
  rcases gA hv with ⟨i,t,rfl,rfl⟩ | ⟨x,t,rfl,rfl⟩
  ·exact wpAny_pyHash_int h
  ·exact wpAny_pyHash_str h
 eqBool:=fun hu hv h=>by
  rcases gA hu with ⟨i,t,rfl,rfl⟩ | ⟨x,t,rfl,rfl⟩
  ·rcases gA hv with ⟨j,u,rfl,rfl⟩ | ⟨y,u,rfl,rfl⟩
   ·rw[ZH] at h;exact wpAny_eqBool_int h
   ·rw[ZG] at h;exact LV i t y u _ _ _ _ h
  ·rcases gA hv with ⟨j,u,rfl,rfl⟩ | ⟨y,u,rfl,rfl⟩
   ·rw[ZF] at h;exact LU x t j u _ _ _ _ h
   ·rw[ZE] at h;exact ze h
 «strs»:=fun k x t v h=>by
  rcases gA h with ⟨i,u,rfl,e⟩ | ⟨y,u,rfl,e⟩
  ·exact nomatch e
  ·injection e with e1 _
   subst e1
   cases v <;> rfl
theorem NG (prog:bj) (w:bV) (i:Int) (t:Tok):(gz prog w).is (.inl i) (.int i t)=true:=SX i t
theorem NF (prog:bj) (w:bV) (x:Str) (t:Tok):(gz prog w).is (.inr x) (.str x t)=true:=SW x t
end L2
namespace L2
open PySem PySem.Spec PyProof.Rows
inductive V where
 | iE | bl (b:Bool) | int (i:Int) | str (x:Str) | Oi (b:Array UInt8) | flt (b:UInt64) | ref (a:af) | ty (n:String)
 deriving DecidableEq
def RelV:V->ai->Prop
 | .iE,u=>u=i9
 | .bl b,u=>u=j7 b
 | .int i,u=>∃t,u=l6 i t
 | .str x,u=>∃t,u=dJ x t
 | .Oi b,u=>∃t,u=aay b t
 | .flt b,u=>∃t,u=aax b t
 | .ref a,u=>u=bE a
 | .ty n,u=>u=j3 n
abbrev dF:List V->List ai->Prop:=Paired RelV
theorem dF.length {xs:List V} {us:List ai} (r:dF xs us):xs.length=us.length:=eK r
theorem dF.get:∀{xs:List V} {us:List ai} {i:Nat} {x:V},dF xs us->xs[i]?=some x->∃u,us[i]?=some u/\RelV x u
 | _,_,_,_,.nil,e=>by simp at e
 | _,_,0,_,.cons r _,e=>by simp at e;subst e;exact⟨_,rfl,r⟩
 | _,_,i+1,x,.cons _ t,e=>by
  obtain⟨u,h1,h2⟩:=dF.get (i:=i) (x:=x) t (by simpa using e)
  exact⟨u,by simpa using h1,h2⟩
theorem dF.append:∀{xs ys:List V} {us ws:List ai},dF xs us->dF ys ws->dF (xs++ys) (us++ws)
 | _,_,_,_,.nil,s=>s
 | _,_,_,_,.cons r t,s=>.cons r (dF.append t s)
theorem dF.take:∀{xs:List V} {us:List ai} (n:Nat),dF xs us->dF (xs.take n) (us.take n)
 | _,_,0,_=>.nil
 | _,_,_+1,.nil=>.nil
 | _,_,n+1,.cons r t=>.cons r (dF.take n t)
theorem dF.drop:∀{xs:List V} {us:List ai} (n:Nat),dF xs us->dF (xs.drop n) (us.drop n)
 | _,_,0,r=>r
 | _,_,_+1,.nil=>.nil
 | _,_,n+1,.cons _ t=>dF.drop n t
def oj:Option V->Option ai->Prop
 | some v,some u=>RelV v u
 | none,none=>True
 | _,_=>False
def KV {κ:Type}:List (κ×V)->List (κ×ai)->Prop:=Paired fun (p:κ×V) (q:κ×ai)=>p.1=q.1/\RelV p.2 q.2
def kV:Key->V
 | .inl i=>.int i
 | .inr x=>.str x
inductive HO where
 | lst (xs:List V)
 | tup (xs:List V)
 | dK (kvs:List (Key×V)) | dT (kvs:List (List Key×V))
 | set (S:Int->Bool) (n:Nat)
 | ins (C dx:af) (fs:List (Str×V))
 | own (x:af)
 | xd (fs:List (Str×V))
 | met (f x:af)
 | rng (lo hi:Int)
 | zc (o:Obj) (u:HO)
 | YZ (ps:Array ai)
 | ext (φ:cX->Prop)
abbrev Hp:=af->Option HO
def upd (H:Hp) (a:af) (o:HO):Hp:=fun b=>if b=a then some o else H b
theorem aw {H:Hp} {a:af} {o:HO}:upd H a o a=some o:=by unfold upd;rw[if_pos rfl]
theorem aQ {H:Hp} {a b:af} {o:HO} (h:b≠a):upd H a o b=H b:=by unfold upd;rw[if_neg h]
theorem tO {H:Hp} {a:af} {o u:HO}:upd (upd H a o) a u=upd H a u:=by
 funext b;unfold upd;split <;> rfl
theorem eD {H:Hp} {a b:af} {o u:HO} (h:H a=some o) (h':H b=some u) (d:o≠u):a≠b:=by
 intro e;subst e;rw[h] at h';exact d (bQ h')
theorem aT {H:Hp} {a b:af} {o:HO} (h:H a=some o) (h':H b=none):a≠b:=by
 intro e;subst e;rw[h] at h';cases h'
section
variable (P:bj) (w:bV)
def gG (H:Hp) (h:cX) (a:af):HO->Prop
 | .lst xs=>xs.length<=ao/\∃(its:List ai) (n:Nat),dF xs its/\h.get? a=some { cls:=.type "list",data:=.seq its.toArray n }
 | .tup xs=>xs.length<=ao/\∃its:List ai,dF xs its/\IsTup h a its.toArray
 | .dK kvs=>kvs.length<=ao/\(a==eB)=false/\∃vs,KV kvs vs/\h.DictOf (gz P w) a vs
 | .dT kvs=>kvs.length<=ao/\(a==eB)=false/\∃xs:List (List Key×af×ai),
   Paired (fun (p:List Key×V) (q:List Key×af×ai)=>p.1=q.1/\H q.2.1=some (.tup (p.1.map kV))/\RelV p.2 q.2.2) kvs xs /\
   ∃o es ep,h.get? a=some o/\o.ExactDict/\o.data=.dict es ep/\es.toList=xs.map (entryOfKey (zf (gz P w)))/\(xs.map (·.1)).Nodup
 | .set S n=>h.SetOf (intKind P w) a S n
 | .ins C dx fs=>H dx=some (.own a)/\fs.length<=1000/\dx≠a/\h.get? a=some (gQ C dx) /\
   ∃mA,h.Ns1 dx mA/\(∀f,oj (fs.lookup f) (mA f))/\OH mA (fs.map (·.1))
 | .own _=>∃o,h.get? a=some o
 | .xd fs=>∃mA,h.Ns1 a mA/\∀f,oj (fs.lookup f) (mA f)
 | .rng lo hi=>∃t u v,h.get? a=some { cls:=.type "range",data:=.fields #[.int lo t,.int hi u,.int 1 v] }
 | .zc o u=>h.get? a=some o/\gG H h a u
 | .YZ ps=>h.get? a=some { cls:=.none,data:=.fields ps }
 | .met f x=>h.get? a=some (Cq (.ref f) (.ref x))
 | .ext φ=>φ h/\(∃o,h.get? a=some o)/\∀h1 h2:cX,φ h1->(∀o,h1.get? a=some o->h2.get? a=some o)->φ h2
def yw (H:Hp) (h:cX):Prop:=∀a o,H a=some o->gG P w H h a o
end
section
variable {P:bj} {w:bV} {H H':Hp} {h h':cX} {a:af} {o:HO}
theorem gG.lt (x:gG P w H h a o):a<h.objs.size:=by
 cases o with
 | lst xs=>obtain⟨_,_,_,_,e⟩:=x;exact bo e
 | tup xs=>obtain⟨_,_,_,p⟩:=x;exact p.lt
 | dK kvs=>obtain⟨_,_,_,_,o,_,_,e,_⟩:=x;exact bo e
 | dT kvs=>obtain⟨_,_,_,_,o,_,_,e,_⟩:=x;exact bo e
 | set S n=>obtain⟨o,_,_,_,e,_⟩:=x;exact bo e
 | ins C dx fs=>obtain⟨_,_,_,e,_⟩:=x;exact bo e
 | own y=>obtain⟨_,e⟩:=x;exact bo e
 | xd fs=>obtain⟨_,⟨_,_,_,e,_⟩,_⟩:=x;exact bo e
 | rng lo hi=>obtain⟨_,_,_,e⟩:=x;exact bo e
 | zc ob u=>obtain⟨e,_⟩:=x;exact bo e
 | YZ ps=>exact bo (show h.get? a=some _ from x)
 | met f y=>exact bo (show h.get? a=some _ from x)
 | ext φ=>obtain⟨_,⟨_,e⟩,_⟩:=x;exact bo e
theorem Paired.PF {α β:Type} {F G:α->β->Prop}:∀{l₁:List α} {l₂:List β},Paired F l₁ l₂->(∀a b,F a b->G a b)->Paired G l₁ l₂
 | _,_,.nil,_=>.nil
 | _,_,.cons r t,f=>.cons (f _ _ r) (Paired.PF t f)
theorem gG.stay (x:gG P w H h a o) (k:∀b u,(b=a\/H b=some (.own a))->h.get? b=some u->h'.get? b=some u)
  (ho:∀b,H b=some (.own a)->H' b=some (.own a)) (ht:∀b xs,H b=some (.tup xs)->H' b=some (.tup xs)):gG P w H' h' a o:=by
 induction o with
 | lst xs=>obtain⟨z,its,n,r,e⟩:=x;exact⟨z,its,n,r,k _ _ (.inl rfl) e⟩
 | tup xs=>obtain⟨z,its,r,ob,e,c⟩:=x;exact⟨z,its,r,ob,k _ _ (.inl rfl) e,c⟩
 | dK kvs=>obtain⟨z,y,vs,r,ob,es,ep,e,c⟩:=x;exact⟨z,y,vs,r,ob,es,ep,k _ _ (.inl rfl) e,c⟩
 | dT kvs=>
  obtain⟨z,y,xs,r,ob,es,ep,e,c⟩:=x
  exact⟨z,y,xs,Paired.PF r fun p q z=>⟨z.1,ht _ _ z.2.1,z.2.2⟩,ob,es,ep,k _ _ (.inl rfl) e,c⟩
 | set S n=>obtain⟨ob,es,ep,t,e,c⟩:=x;exact⟨ob,es,ep,t,k _ _ (.inl rfl) e,c⟩
 | ins C dx fs=>
  obtain⟨d,z,ne,e,mA,⟨od,es,ep,e2,c⟩,r⟩:=x
  exact⟨ho _ d,z,ne,k _ _ (.inl rfl) e,mA,⟨od,es,ep,k _ _ (.inr d) e2,c⟩,r⟩
 | own y=>obtain⟨ob,e⟩:=x;exact⟨ob,k _ _ (.inl rfl) e⟩
 | xd fs=>obtain⟨mA,⟨od,es,ep,e,c⟩,r⟩:=x;exact⟨mA,⟨od,es,ep,k _ _ (.inl rfl) e,c⟩,r⟩
 | rng lo hi=>obtain⟨t,u,v,e⟩:=x;exact⟨t,u,v,k _ _ (.inl rfl) e⟩
 | zc ob u ih=>obtain⟨e,q⟩:=x;exact⟨k _ _ (.inl rfl) e,ih q⟩
 | YZ ps=>
  have e:h.get? a=some { cls:=.none,data:=.fields ps }:=x
  show h'.get? a=some { cls:=.none,data:=.fields ps }
  exact k a _ (.inl rfl) e
 | met f y=>
  have e:h.get? a=some (Cq (.ref f) (.ref y)):=x
  show h'.get? a=some (Cq (.ref f) (.ref y))
  exact k a _ (.inl rfl) e
 | ext φ=>obtain⟨p,⟨o,e⟩,st⟩:=x;exact⟨st _ _ p fun o q=>k _ _ (.inl rfl) q,⟨o,k _ _ (.inl rfl) e⟩,st⟩
theorem yw.lt (x:yw P w H h) (e:H a=some o):a<h.objs.size:=(x a o e).lt
theorem yw.fresh (x:yw P w H h) (e:h.objs.size<=a):H a=none:=by
 cases q:H a with
 | none=>rfl
 | some u=>exact absurd (cE (x.lt q) e) (fj _)
theorem yw.kept (x:yw P w H h) (k:∀b u,h.get? b=some u->h'.get? b=some u):yw P w H h':=fun a o e=>
 (x a o e).stay (fun b u _ q=>k b u q) (fun _ q=>q) fun _ _ q=>q
theorem yw.laid (x:yw P w H h) (k:∀b u,h.get? b=some u->h'.get? b=some u) (hp:h.objs.size<=a) (new:gG P w (upd H a o) h' a o):yw P w (upd H a o) h':=fun b u e=>by
 have hn:=x.fresh hp
 by_cases hb:b=a
 ·subst hb;rw[aw] at e;cases e;exact new
 ·rw[aQ hb] at e
  exact (x b u e).stay (fun c v _ q=>k c v q) (fun c q=>by rw[aQ (aT q hn)];exact q) fun c xs q=>by rw[aQ (aT q hn)];exact q
end
def Rd (H:Hp) (a:af) (u:HO):Prop:=H a=some u\/∃o,H a=some (.zc o u)
theorem Rd.ok {P:bj} {w:bV} {H:Hp} {h:cX} {a:af} {u:HO} (r:Rd H a u) (x:yw P w H h):gG P w H h a u:=by
 rcases r with r | ⟨o,r⟩
 ·exact x a u r
 ·obtain⟨_,q⟩:=x a _ r
  exact q
def Mut:Option HO->Prop
 | some (.lst _)=>True
 | some (.dK _)=>True
 | some (.dT _)=>True
 | some (.set _ _)=>True
 | some (.ins _ _ _)=>True
 | some (.ext _)=>True
 | _=>False
section
variable {P:bj} {w:bV} {H:Hp} {h h':cX} {x e:af} {o':HO}
theorem yw.write (ok:yw P w H h) (mu:Mut (H x)) (he:e=x\/H e=some (.own x)) (k:∀b u,b≠e->h.get? b=some u->h'.get? b=some u) (heo:∃u,h'.get? e=some u)
  (new:gG P w (upd H x o') h' x o'):yw P w (upd H x o') h':=fun b u q=>by
 have nown:∀c y,H c=some (.own y)->c≠x:=fun c y r z=>by subst z;rw[r] at mu;exact mu
 have ntup:∀c xs,H c=some (.tup xs)->c≠x:=fun c xs r z=>by subst z;rw[r] at mu;exact mu
 by_cases hb:b=x
 ·subst hb;rw[aw] at q;cases q;exact new
 ·rw[aQ hb] at q
  by_cases hbe:b=e
  ·have q':H b=some (.own x):=by
    rcases he with z | z
    ·exact absurd (hbe.trans z) hb
    ·rw[hbe];exact z
   rw[q] at q';cases q'
   obtain⟨v,hv⟩:=heo
   exact⟨v,by rw[hbe];exact hv⟩
  ·refine (ok b u q).stay (fun c v hc r=>k c v ?_ r) (fun c r=>by rw[aQ (nown c b r)];exact r) fun c xs r=>by rw[aQ (ntup c xs r)];exact r
   rcases hc with rfl | hc
   ·exact hbe
   ·rintro rfl
    rcases he with z | z
    ·exact nown c b hc z
    ·rw[hc] at z;cases z;exact hb rfl
end
structure Un (fs ex:List af) (H H':Hp) (h h':cX):Prop where
 keep:∀b o,h.get? b=some o->H b=none->b∉fs->b∉ex->h'.get? b=some o
 slot:∀b o,h.get? b=some o->H b=none->b∈fs->b∉ex->∃sl,h'.get? b=some { o with slots:=sl }
 free:∀b o,h.get? b=some o->H b=none->b∉ex->H' b=none
 there:∀b o,h.get? b=some o->b∉ex->∃o',h'.get? b=some o'
 Md:∀b xs,H b=some (.tup xs)->H' b=some (.tup xs)
 Ll:∀b o u,H b=some (.zc o u)->H' b=some (.zc o u)
 Mf:∀b ps,H b=some (.YZ ps)->∃more,H' b=some (.YZ (ps++more))
section
variable {fs fs' ex ex':List af} {H H1 H2:Hp} {h h1 h2 h':cX} {a x e:af} {o:HO}
theorem Un.any (u:Un fs ex H H1 h h1) {b:af} {ob:Obj} (q:h.get? b=some ob) (n:H b=none) (hx:b∉ex):∃sl,h1.get? b=some { ob with slots:=sl }:=by
 by_cases hb:b∈fs
 ·exact u.slot b ob q n hb hx
 ·exact⟨ob.slots,u.keep b ob q n hb hx⟩
theorem Un.kept (k:∀b u,h.get? b=some u->h'.get? b=some u):Un fs ex H H h h':=
 ⟨fun b ob q _ _ _=>k b ob q,fun b ob q _ _ _=>⟨ob.slots,k b ob q⟩,fun _ _ _ n _=>n,fun b ob q _=>⟨ob,k b ob q⟩,fun _ _ q=>q,fun _ _ _ q=>q,fun _ ps q=>⟨#[],by rw[q];simp⟩⟩
theorem Un.refl:Un fs ex H H h h:=Un.kept fun _ _ q=>q
theorem Un.laid (k:∀b u,h.get? b=some u->h'.get? b=some u) (hp:h.objs.size<=a) (hn:H a=none):Un fs ex H (upd H a o) h h' where
 keep:=fun b u q _ _ _=>k b u q
 slot:=fun b u q _ _ _=>⟨u.slots,k b u q⟩
 free:=fun b u q n _=>by rw[aQ (cv (cE (bo q) hp))];exact n
 there:=fun b u q _=>⟨u,k b u q⟩
 Md:=fun b xs q=>by rw[aQ (aT q hn)];exact q
 Ll:=fun b u xs q=>by rw[aQ (aT q hn)];exact q
 Mf:=fun b ps q=>⟨#[],by rw[aQ (aT q hn),q];simp⟩
theorem Un.write (mu:Mut (H x)) (he:e=x\/H e=some (.own x)) (k:∀b u,b≠e->h.get? b=some u->h'.get? b=some u) (heo:∃u,h'.get? e=some u):Un fs ex H (upd H x o) h h':=by
 have hx:∀b,H b=none->b≠x:=fun b n z=>by subst z;rw[n] at mu;exact mu
 have hb:∀b,H b=none->b≠e:=fun b n z=>by
  subst z
  rcases he with r | r
  ·exact hx b n r
  ·rw[n] at r;cases r
 have hm:∀b u,H b=some u->¬ Mut (some u)->b≠x:=fun b u q nm z=>by subst z;rw[q] at mu;exact nm mu
 refine⟨fun b u q n _ _=>k b u (hb b n) q,fun b u q n _ _=>⟨u.slots,k b u (hb b n) q⟩,fun b u q n _=>by rw[aQ (hx b n)];exact n,fun b u q _=>?_,
  fun b xs q=>by rw[aQ (hm b _ q fun z=>z)];exact q,fun b u xs q=>by rw[aQ (hm b _ q fun z=>z)];exact q,fun b ps q=>⟨#[],by rw[aQ (hm b _ q fun z=>z),q];simp⟩⟩
 by_cases hbe:b=e
 ·subst hbe;exact heo
 ·exact⟨u,k b u hbe q⟩
end
def trk (h:cX) (H:Hp):List af:=(be h.objs.size).filter fun a=>(H a).isSome
def K_ (h:cX) (H:Hp):cX:=PySem.W.hideAll h (trk h H)
theorem S1 (h:cX) (H:Hp):(K_ h H).objs.size=h.objs.size:=PySem.W.hideAll_size _ _
theorem Vx {h:cX} {H:Hp} {b:af} {o:Obj} (e:h.get? b=some o) (n:H b=none):(K_ h H).get? b=some o:=
 PySem.W.hideAll_get _ e fun hm=>by
  have q:(H b).isSome=true:=(c8.mp hm).2
  rw[n] at q;simp at q
theorem XB {h:cX} {H:Hp} {b:af} {o:Obj} (e:(K_ h H).get? b=some o):h.get? b=some o/\H b=none:=by
 have e':h.get? b=some o:=PySem.W.of_hideAll (trk h H) e
 refine⟨e',?_⟩
 cases q:H b with
 | none=>rfl
 | some x=>
  have hm:b∈trk h H:=c8.mpr ⟨bN.mpr (bo e'),by simp[q]⟩
  have z:(K_ h H).get? b=none:=PySem.W.hideAll_none (trk h H) hm
  rw[z] at e;cases e
end L2
namespace L2
open PySem PySem.Spec PyProof.Rows
structure Mod (K:ae) (mg:Str->Option ai) (base:cX):Prop where
 YG:K.In base
 glob:base.Ns aI mg
 blt:∃mb,base.Ns aai mb/\∀x:Str,x≠"__name__"->mb x=tm x
 nolimit:base.NoLimit
structure Cx where
 prog:bj
 w:bV
 K:ae
 mg:Str->Option ai
 base:cX
 A:cQ
 N:List Str
 Js:ay
 H_0:Hp
 env:Env
 outer:List Env
 stack:List Env
 ex:List af
 fn:Str->Bool
 calm:Bool
 pn:List (af×Obj)
 xe:ai->ay->Prop
def VI (l:List Env):List af:=l.filterMap (·.frame)
abbrev Cx.fs (X:Cx):List af:=VI X.outer
def Vis (sc:kG) (x:Str):Prop:=sc.names.lookup x=some .local\/sc.names.lookup x=some .cell\/sc.names.lookup x=some .free
def Loc (sc:kG) (x:Str):Prop:=sc.names.lookup x=some .local\/sc.names.lookup x=some .cell
def Look (env:Env) (h:cX) (m:Str->Option ai) (x:Str) (u:ai):Prop:=
 (env.kindOf x=some .local/\m x=some u)\/((env.kindOf x=some .cell\/env.kindOf x=some .free)/\∃c,env.cells.lookup x=some c/\h.IsCell c (some u))
structure Cx.Ok (X:Cx):Prop where
 mod:Mod X.K X.mg X.base
 kind:X.env.scope.kind=.function
 glob:X.env.globals=aI
 blt:X.env.builtins=aai
 above:X.Js.heap.objs.size<=X.env.locals
 inj:∀x y c,X.env.cells.lookup x=some c->X.env.cells.lookup y=some c->x=y
 has:∀x,(X.env.kindOf x=some .cell\/X.env.kindOf x=some .free)->∃c,X.env.cells.lookup x=some c
 cab:∀x c,X.fn x=true->X.env.cells.lookup x=some c->X.Js.heap.objs.size<=c
 hd:X.calm=true->X.A.handled=none
 frames:X.A.frames=some X.stack
 stk:X.stack=X.outer\/(X.stack=X.env::X.outer/\X.env.frame=some X.env.locals)
 exf:∀b∈X.ex,b≠X.env.locals/\∀x c,X.env.cells.lookup x=some c->c≠b
 bs:∀b o,X.base.get? b=some o->X.Js.heap.get? b=some o/\X.H_0 b=none
 WE:X.base.objs.size<=X.Js.heap.objs.size
 U_:∀b o,X.base.get? b=some o->b∉X.ex
 VN:∀b∈X.ex,b∉X.fs
 E3:X.Js.heap.FunFrames X.base X.outer
 ZT:∀b∈X.fs,X.H_0 b=none
structure Inv (X:Cx) (pins:List (af×Obj)) (σ:List (Option V)) (H:Hp) (s:ay):Prop where
 ok:X.Ok
 os:s.os=X.Js.os
 bare:Ja s.gens
 base:Un X.fs X.ex X.H_0 H X.Js.heap s.heap
 loc:∃m,s.heap.Ns X.env.locals m/\∀(i:Nat) (x:Str) (v:V),X.N[i]?=some x->σ[i]?=some (some v)->Vis X.env.scope x->∃u,RelV v u/\Look X.env s.heap m x u
 cell:∀x c,X.env.cells.lookup x=some c->∃v,s.heap.IsCell c v
 free:H X.env.locals=none
 xP:∀x c,X.env.cells.lookup x=some c->H c=none
 pin:∀p∈X.pn++pins,s.heap.get? p.1=some p.2/\H p.1=none/\p.1≠X.env.locals/\p.1∉X.fs/\∀v,p.2.data≠.cell v
 fw:yw X.prog X.w H s.heap
 len:σ.length=X.N.length
section
variable {X:Cx} {pins:List (af×Obj)} {σ:List (Option V)} {H H':Hp} {s:ay} {h':cX}
theorem Cx.Ok.ac4 (ok:X.Ok) {b:af} {o:Obj} (e:X.base.get? b=some o):b∉X.fs:=fun hb=>by
 have:=(ok.E3.mem hb).1
 rw[e] at this;cases this
theorem Inv.bs (I:Inv X pins σ H s):∀b o,X.base.get? b=some o->s.heap.get? b=some o/\H b=none:=fun b o e=>
 ⟨I.base.keep b o (I.ok.bs b o e).1 (I.ok.bs b o e).2 (I.ok.ac4 e) (I.ok.U_ b o e),I.base.free b o (I.ok.bs b o e).1 (I.ok.bs b o e).2 (I.ok.U_ b o e)⟩
theorem Inv.bk (I:Inv X pins σ H s):∀b o,X.base.get? b=some o->s.heap.get? b=some o:=fun b o e=>(I.bs b o e).1
theorem Inv.mod (I:Inv X pins σ H s):Mod X.K X.mg X.base:=I.ok.mod
theorem Inv.K5 (I:Inv X pins σ H s):X.K.In s.heap:=I.ok.mod.YG.keeps I.bk
theorem Inv.fr (I:Inv X pins σ H s):∃m,Fr X.base X.env.locals s.heap m:=
 let ⟨m,hn,_⟩:=I.loc
 ⟨m,hn,I.bk,dA I.ok.WE I.ok.above⟩
theorem Inv.lt (I:Inv X pins σ H s):X.env.locals<s.heap.objs.size:=let ⟨_,hn,_⟩:=I.loc;hn.lt
theorem Inv.sz (I:Inv X pins σ H s):X.Js.heap.objs.size<=s.heap.objs.size:=dA I.ok.above (qK I.lt)
theorem Inv.ac3 (I:Inv X pins σ H s) {a:af} (h:s.heap.objs.size<=a):a∉X.fs:=fun hb=>by
 obtain⟨_,o,ho,_⟩:=I.ok.E3.mem hb
 exact absurd (cE (bo ho) (dA I.sz h)) (fj _)
theorem Inv.Z5 (I:Inv X pins σ H s):∀x c,X.env.cells.lookup x=some c->c≠X.env.locals:=fun x c e z=>by
 obtain⟨v,o,ho,hd⟩:=I.cell x c e
 obtain⟨m,⟨o',es,ep,ho',hd',_⟩,_⟩:=I.loc
 rw[z,ho'] at ho;cases ho;rw[hd'] at hd;cases hd
theorem Inv.E3 (I:Inv X pins σ H s):s.heap.FunFrames X.base X.outer:=by
 have all:∀(l:List Env),(∀b∈VI l,b∈X.fs)->X.Js.heap.FunFrames X.base l->s.heap.FunFrames X.base l:=by
  intro l
  induction l with
  | nil=>intro _ _;trivial
  | cons env r ih=>
   intro hs hl
   obtain⟨hk,⟨L,o,hf,hn,ho,hd⟩,hr⟩:=hl
   have hL:L∈X.fs:=hs L (by unfold VI;rw[Bu,hf];exact bz)
   obtain⟨sl,e⟩:=I.base.slot L o ho (I.ok.ZT L hL) hL fun z=>I.ok.VN L z hL
   exact⟨hk,⟨L,_,hf,hn,e,hd⟩,ih (fun b hb=>hs b (by unfold VI;rw[Bu,hf];exact aE _ hb)) hr⟩
 exact all X.outer (fun _ hb=>hb) I.ok.E3
theorem Inv.stack (I:Inv X pins σ H s):s.heap.FunFrames X.base X.stack:=by
 rcases I.ok.stk with e | ⟨e,hf⟩
 ·rw[e];exact I.E3
 ·rw[e]
  obtain⟨m,hn,_⟩:=I.loc
  refine .cons (by rw[I.ok.kind];decide) hf hn ?_ I.E3
  exact Heap.get?_none_of_le (dA I.ok.WE I.ok.above)
theorem Inv.O6 (I:Inv X pins σ H s):∀b∈VI X.stack,b∈X.env.locals::X.fs:=fun b hb=>by
 rcases I.ok.stk with e | ⟨e,hf⟩
 ·rw[e] at hb;exact aE _ hb
 ·rw[e] at hb
  unfold VI at hb
  rw[Bu,hf] at hb
  exact hb
theorem Inv.Q5 (I:Inv X pins σ H s):∀b∈VI X.stack,H b=none:=fun b hb=>by
 rcases aF.mp (I.O6 b hb) with e | hb
 ·rw[e];exact I.free
 ·obtain⟨_,o,ho,_⟩:=I.ok.E3.mem hb
  exact I.base.free b o ho (I.ok.ZT b hb) fun z=>I.ok.VN b z hb
theorem Inv.step {g':Array Yt} {t':Nat} {d':Drawn} {ch:List af} (I:Inv X pins σ H s)
  (hch:∀b∈ch,(b∈X.ex\/X.Js.heap.objs.size<=b)/\b≠X.env.locals/\(∀x c,X.env.cells.lookup x=some c->c≠b)/\∀p∈X.pn++pins,p.1≠b)
  (keep:∀b o,b≠X.env.locals->b∉X.fs->b∉ch->s.heap.get? b=some o->H b=none->h'.get? b=some o)
  (slot:∀b o,b≠X.env.locals->b∈X.fs->b∉ch->s.heap.get? b=some o->H b=none->∃sl,h'.get? b=some { o with slots:=sl }) (free:∀b o,b∉ch->s.heap.get? b=some o->H b=none->H' b=none)
  (there:∀b o,b∉ch->s.heap.get? b=some o->∃o',h'.get? b=some o')
  (Md:∀b xs,H b=some (.tup xs)->H' b=some (.tup xs)) (Ll:∀b o u,H b=some (.zc o u)->H' b=some (.zc o u)) (Mf:∀b ps,H b=some (.YZ ps)->∃more,H' b=some (.YZ (ps++more)))
  (ns:∀m,s.heap.Ns X.env.locals m->h'.Ns X.env.locals m) (fw:yw X.prog X.w H' h') (hg:Ja g') :
  Inv X pins σ H' { s with heap:=h',gens:=g',drawn:=d',toks:=t' }:=by
 have neL:∀b o,X.Js.heap.get? b=some o->b≠X.env.locals:=fun b o e=>cv (cE (bo e) I.ok.above)
 have neC:∀b o,X.Js.heap.get? b=some o->b∉X.ex->b∉ch:=fun b o e hx hb=>by
  rcases (hch b hb).1 with z | z
  ·exact hx z
  ·exact absurd (cE (bo e) z) (fj _)
 have cellK:∀x c,X.env.cells.lookup x=some c->∀v,s.heap.IsCell c v->h'.IsCell c v:=fun x c e v ⟨o,ho,hd⟩=>by
  have nch:c∉ch:=fun z=>(hch c z).2.2.1 x c e rfl
  by_cases hc:c∈X.fs
  ·obtain⟨sl,q⟩:=slot c o (I.Z5 x c e) hc nch ho (I.xP x c e)
   exact⟨_,q,hd⟩
  ·exact⟨o,keep c o (I.Z5 x c e) hc nch ho (I.xP x c e),hd⟩
 refine⟨I.ok,I.os,hg,⟨fun b o e n hb hx=>?_,fun b o e n hb hx=>?_,fun b o e n hx=>?_,fun b o e hx=>?_,fun b xs e=>Md b xs (I.base.Md b xs e),fun b o xs e=>Ll b o xs (I.base.Ll b o xs e),fun b ps e=>?_⟩,?_,fun x c e=>?_,?_,fun x c e=>?_,fun p hp=>?_,fw,I.len⟩
 ·exact keep b o (neL b o e) hb (neC b o e hx) (I.base.keep b o e n hb hx) (I.base.free b o e n hx)
 ·obtain⟨sl,e1⟩:=I.base.slot b o e n hb hx
  obtain⟨sl',e2⟩:=slot b _ (neL b o e) hb (neC b o e hx) e1 (I.base.free b o e n hx)
  exact⟨sl',e2⟩
 ·obtain⟨o',e1⟩:=I.base.there b o e hx
  exact free b o' (neC b o e hx) e1 (I.base.free b o e n hx)
 ·obtain⟨o',e1⟩:=I.base.there b o e hx
  exact there b o' (neC b o e hx) e1
 ·obtain⟨m1,e1⟩:=I.base.Mf b ps e
  obtain⟨m2,e2⟩:=Mf b _ e1
  exact⟨m1++m2,by rw[e2,Array.append_assoc]⟩
 ·obtain⟨m,hn,hl⟩:=I.loc
  refine⟨m,ns m hn,fun i x v e1 e2 e3=>?_⟩
  obtain⟨u,r,l⟩:=hl i x v e1 e2 e3
  refine⟨u,r,?_⟩
  rcases l with l | ⟨k,c,e,z⟩
  ·exact .inl l
  ·exact .inr ⟨k,c,e,cellK x c e _ z⟩
 ·obtain⟨v,z⟩:=I.cell x c e
  exact⟨v,cellK x c e v z⟩
 ·obtain⟨m,⟨o,_,_,ho,_⟩,_⟩:=I.loc
  exact free _ o (fun z=>(hch _ z).2.1 rfl) ho I.free
 ·obtain⟨v,o,ho,hd⟩:=I.cell x c e
  exact free c o (fun z=>(hch c z).2.2.1 x c e rfl) ho (I.xP x c e)
 ·obtain⟨e,n,ne,nf,d⟩:=I.pin p hp
  have nch:p.1∉ch:=fun z=>(hch p.1 z).2.2.2 p hp rfl
  exact⟨keep p.1 p.2 ne nf nch e n,free p.1 p.2 nch e n,ne,nf,d⟩
theorem Inv.un {t':Nat} (I:Inv X pins σ H s) (u:Un X.fs [] H H' s.heap h') (fw:yw X.prog X.w H' h'):Inv X pins σ H' { s with heap:=h',toks:=t' }:=by
 obtain⟨m,⟨o,es,ep,ho,r⟩,_⟩:=id I.loc
 obtain⟨sl,hL⟩:=u.any ho I.free (by simp)
 exact I.step (g':=s.gens) (d':=s.drawn) (ch:=[]) (fun _ z=>nomatch z) (fun b o _ hb _ e n=>u.keep b o e n hb (by simp)) (fun b o _ hb _ e n=>u.slot b o e n hb (by simp)) (fun b o _ e n=>u.free b o e n (by simp)) (fun b o _ e=>u.there b o e (by simp)) u.Md u.Ll u.Mf (fun m' hm=>by
  obtain⟨o',es',ep',ho',r'⟩:=hm
  rw[ho] at ho';cases ho'
  exact⟨_,es',ep',hL,r'⟩) fw I.bare
theorem Inv.call {g':Array Yt} {t':Nat} {d':Drawn} {ch:List af} (I:Inv X pins σ H s) (u:Un (VI X.stack) ch H H' s.heap h') (fw:yw X.prog X.w H' h') (hg:Ja g')
  (hch:∀b∈ch,(b∈X.ex\/X.Js.heap.objs.size<=b)/\b≠X.env.locals/\(∀x c,X.env.cells.lookup x=some c->c≠b)/\∀p∈X.pn++pins,p.1≠b) :
  Inv X pins σ H' { s with heap:=h',gens:=g',drawn:=d',toks:=t' }:=by
 obtain⟨m,⟨o,es,ep,ho,r⟩,_⟩:=id I.loc
 obtain⟨sl,hL⟩:=u.any ho I.free fun z=>(hch _ z).2.1 rfl
 exact I.step (ch:=ch) hch (fun b o hL hb hc e n=>u.keep b o e n (fun z=>(aF.mp (I.O6 b z)).elim hL hb) hc) (fun b o _ _ hc e n=>u.any e n hc) (fun b o hc e n=>u.free b o e n hc) (fun b o hc e=>u.there b o e hc) u.Md u.Ll u.Mf (fun m' hm=>by
  obtain⟨o',es',ep',ho',r'⟩:=hm
  rw[ho] at ho';cases ho'
  exact⟨_,es',ep',hL,r'⟩) fw hg
theorem Inv.turned {t':Nat} {it:af} (I:Inv X pins σ H s) (k:∀b o,b≠it->s.heap.get? b=some o->h'.get? b=some o) (hn:H it=none) (hL:it≠X.env.locals)
  (h1:it∈X.ex\/X.Js.heap.objs.size<=it) (h2:∀x c,X.env.cells.lookup x=some c->c≠it) (h3:∀p∈X.pn++pins,p.1≠it):Inv X pins σ H { s with heap:=h',toks:=t' }:=by
 have nit:∀b u,H b=some u->b≠it:=fun b u e z=>by rw[z,hn] at e;cases e
 refine I.step (g':=s.gens) (d':=s.drawn) (ch:=[it]) (fun b hb=>?_) (fun b o _ _ hc e _=>k b o (fun z=>hc (by simp[z])) e) (fun b o _ _ hc e _=>⟨o.slots,k b o (fun z=>hc (by simp[z])) e⟩) (fun _ _ _ _ n=>n)
  (fun b o hc e=>⟨o,k b o (fun z=>hc (by simp[z])) e⟩) (fun _ _ e=>e) (fun _ _ _ e=>e) (fun b ps e=>⟨#[],by rw[e];simp⟩) (fun m hm=>?_) (fun b u e=>?_) I.bare
 ·have e:b=it:=by simpa using hb
  subst e
  exact⟨h1,hL,h2,h3⟩
 ·obtain⟨o,es,ep,ho,r⟩:=hm
  exact⟨o,es,ep,k _ o (bK hL) ho,r⟩
 ·refine (I.fw b u e).stay (fun c v hc q=>k c v ?_ q) (fun _ q=>q) fun _ _ q=>q
  rcases hc with z | z
  ·rw[z];exact nit b u e
  ·exact nit c _ z
theorem Inv.tok (I:Inv X pins σ H s) (t:Nat):Inv X pins σ H { s with toks:=t }:=I.un (h':=s.heap) (t':=t) Un.refl I.fw
theorem Inv.kept {t':Nat} (I:Inv X pins σ H s) (k:∀b u,s.heap.get? b=some u->h'.get? b=some u):Inv X pins σ H { s with heap:=h',toks:=t' }:=I.un (Un.kept k) (I.fw.kept k)
theorem Inv.laid {a:af} {o:HO} {t':Nat} (I:Inv X pins σ H s) (k:∀b u,s.heap.get? b=some u->h'.get? b=some u) (hp:s.heap.objs.size<=a) (new:gG X.prog X.w (upd H a o) h' a o) :
  Inv X pins σ (upd H a o) { s with heap:=h',toks:=t' }:=I.un (Un.laid k hp (I.fw.fresh hp)) (I.fw.laid k hp new)
theorem Inv.write {x e:af} {o:HO} {t':Nat} (I:Inv X pins σ H s) (mu:Mut (H x)) (he:e=x\/H e=some (.own x)) (k:∀b u,b≠e->s.heap.get? b=some u->h'.get? b=some u) (heo:∃u,h'.get? e=some u)
  (new:gG X.prog X.w (upd H x o) h' x o):Inv X pins σ (upd H x o) { s with heap:=h',toks:=t' }:=I.un (Un.write mu he k heo) (I.fw.write mu he k heo new)
theorem Inv.weak {σ':List (Option V)} (I:Inv X pins σ H s) (hl:σ'.length=σ.length) (w:∀(i:Nat) v,σ'[i]?=some (some v)->σ[i]?=some (some v)):Inv X pins σ' H s:=
 ⟨I.ok,I.os,I.bare,I.base,let ⟨m,hn,hl'⟩:=I.loc;⟨m,hn,fun i x v e1 e2 e3=>hl' i x v e1 (w i v e2) e3⟩,I.cell,I.free,I.xP,I.pin,I.fw,hl.trans I.len⟩
theorem Inv.Rh {pins':List (af×Obj)} (I:Inv X pins σ H s) (h:∀p∈pins',s.heap.get? p.1=some p.2/\H p.1=none/\p.1≠X.env.locals/\p.1∉X.fs/\∀v,p.2.data≠.cell v):Inv X pins' σ H s:=
 ⟨I.ok,I.os,I.bare,I.base,I.loc,I.cell,I.free,I.xP,fun p hp=>(bx.mp hp).elim (fun z=>I.pin p (bJ _ z)) (h p),I.fw,I.len⟩
theorem GA {N:List Str} (hN:N.Nodup) {i j:Nat} {x:Str} (a:N[i]?=some x) (b:N[j]?=some x):i=j:=by
 obtain⟨h1,e1⟩:=ax.mp a
 obtain⟨h2,e2⟩:=ax.mp b
 exact (WL hN).mp (e1.trans e2.symm)
theorem Jj {M:aaD} {A:cQ} {E:ai->ay->Prop} {i:Nat} {x:Str} {v:V} {u:ai} {Q:Unit->ay->Prop} (I:Inv X pins σ H s) (hN:X.N.Nodup) (hi:X.N[i]?=some x) (hx:Loc X.env.scope x) (r:RelV v u)
  (h:∀s',Inv X pins (σ.set i (some v)) H s'->(∃a,gf a s.heap s'.heap/\(a=X.env.locals\/X.env.cells.lookup x=some a))->Q () s') (hf:X.fn x=true\/X.env.scope.names.lookup x=some .local:=by first | exact .inl rfl | exact .inr rfl | assumption):bD M A (abA X.env x u) Q E s:=by
 obtain⟨m,hn,hl⟩:=id I.loc
 have hcls:(X.env.scope.kind==.class||(X.env.scope.kind==.module&&X.env.locals != X.env.globals))=false:=by rw[I.ok.kind];rfl
 have hiσ:i < σ.length:=by rw[I.len];exact (ax.mp hi).1
 have Z5:=I.Z5
 have tracked:∀{a:af} {h':cX},(∃o,s.heap.get? a=some o/\H a=none)->gf a s.heap h'->yw X.prog X.w H h':=fun {a h'} ha hs b ob e=>by
  obtain⟨_,_,hfree⟩:=ha
  refine (I.fw b ob e).stay (fun c w' hc q=>(hs.2 c ?_).trans q) (fun _ q=>q) fun _ _ q=>q
  rintro rfl
  rcases hc with rfl | hc
  ·rw[hfree] at e;cases e
  ·rw[hfree] at hc;cases hc
 rcases hx with hk | hk
 ·refine wpAny_storeName_local hk hn (fun h' hn' hs=>?_) hcls
  obtain⟨oL,_,_,hoL,_⟩:=id hn
  refine h _ ⟨I.ok,I.os,I.bare,⟨fun b o e n hb hx=>?_,fun b o e n hb hx=>?_,I.base.free,fun b o e hx=>?_,I.base.Md,I.base.Ll,I.base.Mf⟩,⟨_,hn',fun j y v' e1 e2 e3=>?_⟩,fun y c e=>?_,I.free,I.xP,fun p hp=>?_,tracked ⟨oL,hoL,I.free⟩ hs,by simpa using I.len⟩ ⟨_,hs,.inl rfl⟩
  ·exact (hs.2 b (cv (cE (bo e) I.ok.above))).trans (I.base.keep b o e n hb hx)
  ·obtain⟨sl,e1⟩:=I.base.slot b o e n hb hx
   exact⟨sl,(hs.2 b (cv (cE (bo e) I.ok.above))).trans e1⟩
  ·obtain⟨o',e1⟩:=I.base.there b o e hx
   exact⟨o',(hs.2 b (cv (cE (bo e) I.ok.above))).trans e1⟩
  ·by_cases hj:j=i
   ·subst hj
    rw[hi] at e1;cases e1
    rw[mS hiσ] at e2
    cases e2
    exact⟨u,r,.inl ⟨hk,by simp⟩⟩
   ·rw[o8 (bK hj)] at e2
    obtain⟨u',r',q⟩:=hl j y v' e1 e2 e3
    refine⟨u',r',?_⟩
    rcases q with ⟨k,e⟩ | ⟨k,c,e,z⟩
    ·refine .inl ⟨k,?_⟩
     have:y≠x:=fun e=>hj (GA hN e1 (e▸hi))
     simp[this,e]
    ·exact .inr ⟨k,c,e,z.sameBut hs (Z5 y c e)⟩
  ·obtain⟨w',z⟩:=I.cell y c e
   exact⟨w',z.sameBut hs (Z5 y c e)⟩
  ·obtain⟨e,n,ne,nf,d⟩:=I.pin p hp
   exact⟨(hs.2 p.1 ne).trans e,n,ne,nf,d⟩
 ·have hfn:X.fn x=true:=by
   rcases hf with z | z
   ·exact z
   ·rw[z] at hk;cases hk
  obtain⟨c,hc⟩:=I.ok.has x (.inl hk)
  obtain⟨w',z⟩:=I.cell x c hc
  refine wpAny_storeName_cell I.ok.kind hk hc z (fun h' hc' hs=>?_)
  obtain⟨oc,hoc,hocd⟩:=id z
  refine h { s with heap:=h' } ⟨I.ok,I.os,I.bare,⟨fun b o e n hb hx=>?_,fun b o e n hb hx=>?_,I.base.free,fun b o e hx=>?_,I.base.Md,I.base.Ll,I.base.Mf⟩,⟨m,hn.sameBut hs (bK (Z5 x c hc)),fun j y v' e1 e2 e3=>?_⟩,fun y c' e=>?_,I.free,I.xP,fun p hp=>?_,tracked ⟨oc,hoc,I.xP x c hc⟩ hs,by simpa using I.len⟩ ⟨c,hs,.inr hc⟩
  ·exact (hs.2 b (cv (cE (bo e) (I.ok.cab x c hfn hc)))).trans (I.base.keep b o e n hb hx)
  ·obtain⟨sl,e1⟩:=I.base.slot b o e n hb hx
   exact⟨sl,(hs.2 b (cv (cE (bo e) (I.ok.cab x c hfn hc)))).trans e1⟩
  ·obtain⟨o',e1⟩:=I.base.there b o e hx
   exact⟨o',(hs.2 b (cv (cE (bo e) (I.ok.cab x c hfn hc)))).trans e1⟩
  ·by_cases hj:j=i
   ·subst hj
    rw[hi] at e1;cases e1
    rw[mS hiσ] at e2
    cases e2
    exact⟨u,r,.inr ⟨.inl hk,c,hc,hc'⟩⟩
   ·rw[o8 (bK hj)] at e2
    obtain⟨u',r',q⟩:=hl j y v' e1 e2 e3
    refine⟨u',r',?_⟩
    rcases q with q | ⟨k,c',e,z'⟩
    ·exact .inl q
    ·refine .inr ⟨k,c',e,z'.sameBut hs ?_⟩
     rintro rfl
     exact hj (GA hN e1 (I.ok.inj _ _ _ e hc▸hi))
  ·by_cases hcc:c'=c
   ·subst hcc;exact⟨_,hc'⟩
   ·obtain⟨w2,z2⟩:=I.cell y c' e
    exact⟨w2,z2.sameBut hs hcc⟩
  ·obtain⟨e,n,ne,nf,d⟩:=I.pin p hp
   refine⟨(hs.2 p.1 ?_).trans e,n,ne,nf,d⟩
   intro q
   rw[q,hoc] at e
   have q':oc=p.2:=bQ e
   exact d w' (by rw[<- q'];exact hocd)
theorem F0 {M:aaD} {A:cQ} {E:ai->ay->Prop} {i:Nat} {x:Str} {v:V} {u:ai} {Q:Unit->ay->Prop} (I:Inv X pins σ H s) (hN:X.N.Nodup) (hi:X.N[i]?=some x) (hx:Loc X.env.scope x) (r:RelV v u)
  (h:∀s',Inv X pins (σ.set i (some v)) H s'->Q () s') (hf:X.fn x=true\/X.env.scope.names.lookup x=some .local:=by first | exact .inl rfl | exact .inr rfl | assumption):bD M A (abA X.env x u) Q E s:=
 Jj I hN hi hx r (fun s' I' _=>h s' I') hf
theorem Inv.abl {s':ay} {ch:List af} (I:Inv X pins σ H s) (ho:s'.os=s.os) (u:Un (VI X.stack) ch H H' s.heap s'.heap) (fw:yw X.prog X.w H' s'.heap) (hg:Ja s'.gens)
  (hch:∀b∈ch,(b∈X.ex\/X.Js.heap.objs.size<=b)/\b≠X.env.locals/\(∀x c,X.env.cells.lookup x=some c->c≠b)/\∀p∈X.pn++pins,p.1≠b):Inv X pins σ H' s':=by
 obtain⟨h',g',d',t',o'⟩:=s'
 have e:o'=s.os:=ho
 subst e
 exact I.call (g':=g') (t':=t') (d':=d') u fw hg hch
end
abbrev XK:=ai->Option af->Hp->Prop
abbrev St:=List (Option V)
abbrev VK:=V->Hp->Prop
abbrev TE:=St->Hp->VK->Prop
abbrev TT:=St->Hp->(Bool->Hp->Prop)->Prop
abbrev TA:=St->Hp->(List V->Hp->Prop)->Prop
structure Ends where
 nx:St->Hp->Prop
 rt:VK
 bk:St->Hp->Prop:=fun _ _=>False
 ct:St->Hp->Prop:=fun _ _=>False
abbrev TS:=Ends->St->Hp->Prop
def EP (X:Cx) (pins:List (af×Obj)) (σ:St) (Q:VK) (u:ai) (s':ay):Prop:=∃v H',Inv X pins σ H' s'/\RelV v u/\Q v H'
def TP (X:Cx) (pins:List (af×Obj)) (σ:St) (Q:Bool->Hp->Prop) (b:Bool) (s':ay):Prop:=∃H',Inv X pins σ H' s'/\Q b H'
def AP (X:Cx) (pins:List (af×Obj)) (σ:St) (Q:List V->Hp->Prop) (us:List ai) (s':ay):Prop:=∃vs H',Inv X pins σ H' s'/\dF vs us/\Q vs H'
def SP (X:Cx) (pins:List (af×Obj)) (D:Ends) (f:Flow) (s':ay):Prop:=
 match f with
 | .next=>∃σ' H',Inv X pins σ' H' s'/\D.nx σ' H'
 | .brk=>∃σ' H',Inv X pins σ' H' s'/\D.bk σ' H'
 | .cont=>∃σ' H',Inv X pins σ' H' s'/\D.ct σ' H'
 | .ret u=>∃v σ' H',Inv X pins σ' H' s'/\RelV v u/\D.rt v H'
def PE (X:Cx) (e:Expr) (t:TE):Prop:=
 ∀(pins:List (af×Obj)) (s:ay) (σ:St) (H:Hp) (Q:VK),Inv X pins σ H s->t σ H Q->bD (model X.prog X.w) X.A (eval e X.env) (EP X pins σ Q) X.xe s
def PT (X:Cx) (e:Expr) (t:TT):Prop:=
 ∀(pins:List (af×Obj)) (s:ay) (σ:St) (H:Hp) (Q:Bool->Hp->Prop),Inv X pins σ H s->t σ H Q->bD (model X.prog X.w) X.A (aah e X.env (eval e X.env)) (TP X pins σ Q) X.xe s
def PW (X:Cx) (e:Expr) (t:TT):Prop:=
 ∀(whole:Sem ai) (pins:List (af×Obj)) (s:ay) (σ:St) (H:Hp) (Q:Bool->Hp->Prop),Inv X pins σ H s->t σ H Q->bD (model X.prog X.w) X.A (aah e X.env whole) (TP X pins σ Q) X.xe s
theorem PW.pt {X:Cx} {e:Expr} {t:TT} (h:PW X e t):PT X e t:=h _
def PA (X:Cx) (es:List Expr) (t:TA):Prop:=
 ∀(pos:Pos) (pins:List (af×Obj)) (s:ay) (σ:St) (H:Hp) (Q:List V->Hp->Prop),Inv X pins σ H s->t σ H Q->bD (model X.prog X.w) X.A (spliced (kC pos (cM es X.env))) (AP X pins σ Q) X.xe s
def PS (X:Cx) (st:c_) (t:TS):Prop:=
 ∀(pins:List (af×Obj)) (s:ay) (σ:St) (H:Hp) (D:Ends),Inv X pins σ H s->t D σ H->bD (model X.prog X.w) X.A (exec st X.env) (SP X pins D) X.xe s
def Tr (X:Cx) (st:List c_) (t:TS):Prop:=
 ∀(pins:List (af×Obj)) (s:ay) (σ:St) (H:Hp) (D:Ends),Inv X pins σ H s->t D σ H->bD (model X.prog X.w) X.A (execs st X.env) (SP X pins D) X.xe s
theorem fU {α:Type} {t:Sem α} {Q Q':α->ay->Prop} {M:aaD} {A:cQ} {E:ai->ay->Prop} {s:ay} (h:bD M A t Q E s) (hQ:∀a s,Q a s->Q' a s):bD M A t Q' E s:=gX h hQ fun _ _ x=>x
end L2
namespace L2
open PySem PySem.Spec PyProof.Rows
section
variable {X:Cx}
theorem bin {a b:Expr} {ta tb:TE} (ha:PE X a ta) (hb:PE X b tb) {pins:List (af×Obj)} {s:ay} {σ:St} {H:Hp} {R:V->V->Hp->Prop} (I:Inv X pins σ H s) (h:ta σ H fun x H1=>tb σ H1 fun y H2=>R x y H2)
  {α:Type} {Q:α->ay->Prop} {f:ai->ai->Sem α}
  (hf:∀v u s2 x y H2,Inv X pins σ H2 s2->RelV x v->RelV y u->R x y H2->bD (model X.prog X.w) X.A (f v u) Q X.xe s2) :
  bD (model X.prog X.w) X.A (eval a X.env) (fun v s₁=>bD (model X.prog X.w) X.A (eval b X.env) (fun u s₂=>bD (model X.prog X.w) X.A (f v u) Q X.xe s₂) X.xe s₁) X.xe s:=by
 refine fU (ha pins s σ H _ I h) fun v s1 ⟨x,H1,I1,r1,q1⟩=>?_
 refine fU (hb pins s1 σ H1 _ I1 q1) fun u s2 ⟨y,H2,I2,r2,q2⟩=>?_
 exact hf v u s2 x y H2 I2 r1 r2 q2
inductive adw (i:Nat) (σ:St) (H:Hp) (Q:VK):Prop
 | mk (v:V) (e:σ[i]?=some (some v)) (q:Q v H)
def pN (i:Nat):TE:=fun σ H Q=>adw i σ H Q
theorem FW {i:Nat} {σ:St} {H:Hp} {Q:VK}:pN i σ H Q<->∃v,σ[i]?=some (some v)/\Q v H:=⟨fun ⟨v,e,q⟩=>⟨v,e,q⟩,fun ⟨v,e,q⟩=>⟨v,e,q⟩⟩
inductive IBl (x:V) (H:Hp) (Q:Bool->Hp->Prop):Prop
 | mk (k:Bool) (e:x=.bl k) (q:Q k H)
theorem LK {x:V} {H:Hp} {Q:Bool->Hp->Prop}:IBl x H Q<->∃k,x=.bl k/\Q k H:=⟨fun ⟨v,e,q⟩=>⟨v,e,q⟩,fun ⟨v,e,q⟩=>⟨v,e,q⟩⟩
def tC (v:V):TE:=fun _ H Q=>Q v H
theorem U0 {i:Nat} {x:Str} {pos:Pos} (hN:X.N[i]?=some x) (hv:Vis X.env.scope x) (hd:(x==("__debug__":Str))=false:=by decide) (hcd:(x==("__classdict__":Str))=false:=by decide):PE X (.Name x pos) (pN i):=by
 intro pins s σ H Q I h
 obtain⟨v,e,h⟩:=h
 obtain⟨m,hn,hl⟩:=I.loc
 obtain⟨u,r,l⟩:=hl i x v hN e hv
 have fin:EP X pins σ Q u s:=⟨v,H,I,r,h⟩
 rcases l with ⟨hk,hm⟩ | ⟨hk,c,hc,hcell⟩
 ·exact aaf (Yl I.ok.kind hk hn hm fin) hd
 ·rcases hk with hk | hk
  ·exact aaf (YO I.ok.kind hk hc hcell fin) hd
  ·exact aaf (wpAny_loadName_free I.ok.kind hk hc hcell fin hcd) hd
theorem aS {i j pos}:PE X (.Constant (.int i) j pos) (tC (.int i)):=fun _ _ _ H _ I h=>aag ⟨.int i,H,I.tok _,⟨_,rfl⟩,h⟩
theorem vc {b j pos}:PE X (.Constant (.bool b) j pos) (tC (.bl b)):=fun _ _ _ H _ I h=>Constant_bool ⟨.bl b,H,I,rfl,h⟩
theorem xl {j pos}:PE X (.Constant .none j pos) (tC .iE):=fun _ _ _ H _ I h=>TR ⟨.iE,H,I,rfl,h⟩
theorem ff {x j pos}:PE X (.Constant (.str x) j pos) (tC (.str x)):=fun _ _ _ H _ I h=>Calls.Constant_str ⟨.str x,H,I.tok _,⟨_,rfl⟩,h⟩
def Gl (X:Cx) (x:Str):Prop:=X.env.kindOf x=some .globalImplicit
theorem Fw {E:ai->ay->Prop} {pins:List (af×Obj)} {s:ay} {σ:St} {H:Hp} {x:Str} {u:ai} {pos:Pos} {Q:ai->ay->Prop} (I:Inv X pins σ H s) (hg:Gl X x) (hm:X.mg x=some u) (h:Q u s)
  (hd:(x==("__debug__":Str))=false:=by decide):bD (model X.prog X.w) X.A (eval (.Name x pos) X.env) Q E s:=
 I_ I.ok.kind hg (Calls.loadGlobal_global (by rw[I.ok.glob];exact I.mod.glob.keeps I.bk) hm h) hd
theorem C3 {E:ai->ay->Prop} {pins:List (af×Obj)} {s:ay} {σ:St} {H:Hp} {x:Str} {u:ai} {pos:Pos} {Q:ai->ay->Prop} (I:Inv X pins σ H s) (hg:Gl X x) (hm:X.mg x=none) (hv:tm x=some u) (h:Q u s)
  (hn:x≠"__name__":=by decide) (hd:(x==("__debug__":Str))=false:=by decide):bD (model X.prog X.w) X.A (eval (.Name x pos) X.env) Q E s:=by
 obtain⟨mb,h1,h2⟩:=I.mod.blt
 exact I_ I.ok.kind hg (Calls.loadGlobal_builtin (by rw[I.ok.glob];exact I.mod.glob.keeps I.bk) hm (by rw[I.ok.blt];exact h1.keeps I.bk) ((h2 x hn).trans hv) h) hd
theorem KA {x:Str} {v:V} {u:ai} {pos:Pos} (hg:Gl X x) (hm:X.mg x=some u) (r:RelV v u) (hd:(x==("__debug__":Str))=false:=by decide):PE X (.Name x pos) (tC v):=
 fun _ _ _ H _ I h=>Fw I hg hm ⟨v,H,I,r,h⟩ hd
variable {a b:Expr} {ta tb:TE} {pos:Pos}
def PC (X:Cx) (op:QT) (a b:Expr) (t:TE):Prop:=
 ∀(pins:List (af×Obj)) (s:ay) (σ:St) (H:Hp) (Q:VK),Inv X pins σ H s->t σ H Q ->
  bD (model X.prog X.w) X.A (eval a X.env) (fun v s₁=>bD (model X.prog X.w) X.A (eval b X.env) (fun u s₂=>bD (model X.prog X.w) X.A (e_ op v u) (EP X pins σ Q) X.xe s₂) X.xe s₁) X.xe s
theorem Nh (b:Expr) {op:QT} (h:op≠.In) (h2:op≠.NotIn):behindInMarks op b=false:=by
 have e1:(op==CmpOp.In)=false:=by cases op <;> first | rfl | exact absurd rfl h
 have e2:(op==aaF)=false:=by cases op <;> first | rfl | exact absurd rfl h2
 cases b <;> simp[behindInMarks,e1,e2]
def acM (ta:TE):TE:=fun σ H Q=>ta σ H fun x H1=>Q (.bl (decide (x=.iE))) H1
def aaK (ta:TE):TE:=fun σ H Q=>ta σ H fun x H1=>Q (.bl (!decide (x=.iE))) H1
theorem RelV.Ng {x:V} {v:ai} (r:RelV x v):(v==i9)=decide (x=.iE):=by
 cases x with
 | iE=>cases r;rfl
 | bl _=>cases r;rfl
 | int _=>obtain⟨t,rfl⟩:=r;rfl
 | str _=>obtain⟨t,rfl⟩:=r;rfl
 | Oi _=>obtain⟨t,rfl⟩:=r;rfl
 | flt _=>obtain⟨t,rfl⟩:=r;rfl
 | ref _=>cases r;rfl
 | ty _=>cases r;rfl
theorem rG {j pos'} (ha:PE X a ta):PC X .Is a (.Constant .none j pos') (acM ta):=by
 intro pins s σ H Q I h
 refine fU (ha pins s σ H _ I h) fun v s1 ⟨x,H1,I1,r1,q1⟩=>?_
 exact TR (is_none_gen ⟨.bl _,H1,I1,by rw[r1.Ng];rfl,q1⟩)
theorem Xy {j pos'} (ha:PE X a ta):PC X .IsNot a (.Constant .none j pos') (aaK ta):=by
 intro pins s σ H Q I h
 refine fU (ha pins s σ H _ I h) fun v s1 ⟨x,H1,I1,r1,q1⟩=>?_
 exact TR (isnot_none_gen ⟨.bl _,H1,I1,by rw[r1.Ng];rfl,q1⟩)
def tB (t:TE):TT:=fun σ H Q=>t σ H fun x H1=>IBl x H1 Q
theorem Zs {op:QT} {t:TE} (h:PC X op a b t) (h1:behindInMarks op b=false:=by first | exact Nh _ (by decide) (by decide) | rfl):PE X (.Compare a [op] [b] pos) t:=fun pins s σ H Q I hw=>wpAny_Compare1 (h pins s σ H Q I hw) h1
theorem ip {op:QT} {t:TE} (h:PC X op a b t) (h1:behindInMarks op b=false:=by first | exact Nh _ (by decide) (by decide) | rfl):PT X (.Compare a [op] [b] pos) (tB t):=by
 intro pins s σ H Q I hw
 refine WH (fU (h pins s σ H _ I hw) fun v s1 h1=>fU h1 fun u s2 h2=>fU h2 fun c s3 ⟨x,H1,I1,r1,q1⟩=>?_) h1
 obtain⟨d,rfl,q⟩:=q1
 cases r1
 exact fk ⟨H1,I1,q⟩
theorem fB {e:Expr} {t:TE} (h:PE X e t) (he:∀whole,aah e X.env whole=(do let v <- whole;Wq e.pos;holding [v] (truthy v)):=by intro _;rfl):PT X e (tB t):=by
 intro pins s σ H Q I hw
 refine isTrue_plain (fU (h pins s σ H _ I hw) fun v s1 ⟨x,H1,I1,r1,q1⟩=>?_) (he _)
 obtain⟨d,rfl,q⟩:=q1
 cases r1
 exact fk ⟨H1,I1,q⟩
variable {tA tB':TT} {rest:List Expr}
def tOr (t u:TT):TT:=fun σ H Q=>t σ H fun c H1=>if c=true then Q true H1 else u σ H1 Q
def acL (t:TT):TT:=fun σ H Q=>t σ H fun c H1=>Q (!c) H1
theorem lD (ha:PT X a tA):PW X (.BoolOp .Or [a] pos) tA:=by
 intro wh pins s σ H Q I h
 refine isTrue_or (fU (ha pins s σ H Q I h) fun c s1 e=>?_)
 cases c with
 | false=>exact isTrue_or_nil e
 | true=>exact e
theorem kK (ha:PT X a tA) (hb:PW X (.BoolOp .Or (b::rest) pos) tB'):PW X (.BoolOp .Or (a::b::rest) pos) (tOr tA tB'):=by
 intro wh pins s σ H Q I h
 refine isTrue_or (fU (ha pins s σ H _ I h) fun c s1 ⟨H1,I1,q1⟩=>?_)
 cases c with
 | true=>exact⟨H1,I1,q1⟩
 | false=>exact hb wh pins s1 σ H1 Q I1 q1
theorem kf (ha:PT X a tA):PT X (.UnaryOp .Not a pos) (acL tA):=by
 intro pins s σ H Q I h
 exact isTrue_not (ha pins s σ H (fun c H1=>Q (!c) H1) I h)
def Q3 (ta tb:TE):TE:=fun σ H Q=>ta σ H fun x H1=>∃c,x=.bl c/\if c=true then tb σ H1 Q else Q (.bl false) H1
def WW (ta tb:TE):TE:=fun σ H Q=>ta σ H fun x H1=>∃c,x=.bl c/\if c=true then Q (.bl true) H1 else tb σ H1 Q
def Up (ta:TE):TE:=fun σ H Q=>ta σ H fun x H1=>∃c,x=.bl c/\Q (.bl (!c)) H1
theorem Al {op} {t:TE} (h:PE X a t):PE X (.BoolOp op [a] pos) t:=fun pins s σ H Q I hw=>BoolOp_one (h pins s σ H Q I hw)
theorem Am (ha:PE X a ta) (hb:PE X (.BoolOp .And (b::rest) pos) tb):PE X (.BoolOp .And (a::b::rest) pos) (Q3 ta tb):=by
 intro pins s σ H Q I h
 refine BoolOp_and (fU (ha pins s σ H _ I h) fun v s1 ⟨x,H1,I1,r1,q1⟩=>?_)
 obtain⟨c,rfl,q1⟩:=q1
 cases r1
 refine fk ?_
 cases c with
 | true=>exact hb pins s1 σ H1 Q I1 q1
 | false=>exact⟨.bl false,H1,I1,rfl,q1⟩
theorem aa0 (ha:PE X a ta) (hb:PE X (.BoolOp .Or (b::rest) pos) tb):PE X (.BoolOp .Or (a::b::rest) pos) (WW ta tb):=by
 intro pins s σ H Q I h
 refine BoolOp_or (fU (ha pins s σ H _ I h) fun v s1 ⟨x,H1,I1,r1,q1⟩=>?_)
 obtain⟨c,rfl,q1⟩:=q1
 cases r1
 refine fk ?_
 cases c with
 | false=>exact hb pins s1 σ H1 Q I1 q1
 | true=>exact⟨.bl true,H1,I1,rfl,q1⟩
def tIf (t:TT) (ta tb:TE):TE:=fun σ H Q=>t σ H fun c H1=>if c=true then ta σ H1 Q else tb σ H1 Q
theorem kM {c:Expr} (hc:PT X c tA) (ha:PE X a ta) (hb:PE X b tb):PE X (.IfExp c a b pos) (tIf tA ta tb):=by
 intro pins s σ H Q I h
 refine wpAny_IfExp (fU (hc pins s σ H _ I h) fun d s1 ⟨H1,I1,q1⟩=>?_)
 cases d with
 | true=>exact ha pins s1 σ H1 Q I1 q1
 | false=>exact hb pins s1 σ H1 Q I1 q1
end
end L2
namespace L2
open PySem PySem.Spec PyProof.Rows
def cP (K:ae) (H:Hp) (a:af) (xs:List V):Prop:=
 Rd H a (.lst xs) \/
  ∃(o:Obj) (its:Array ai) (n:Nat),K.lookup a=some o/\o.cls=.type "list"/\o.dict=none/\o.data=.seq its n/\its.size<=ao/\dF xs its.toList
def iC (K:ae) (H:Hp) (a:af) (xs:List V):Prop:=
 Rd H a (.tup xs) \/
  ∃(o:Obj) (its:Array ai) (n:Nat),K.lookup a=some o/\o.cls=.type "tuple"/\o.data=.seq its n/\its.size<=ao/\dF xs its.toList
def adm:ai->Option V
 | .none=>some .iE
 | .bool b=>some (.bl b)
 | .int i _=>some (.int i)
 | .str x _=>some (.str x)
 | .bytes b _=>some (.Oi b)
 | .float b _=>some (.flt b)
 | .ref a=>some (.ref a)
 | .type n=>some (.ty n)
 | _=>none
theorem RelV.abs {x:V} {u:ai} (r:RelV x u):adm u=some x:=by
 cases x with
 | iE=>cases r;rfl
 | bl _=>cases r;rfl
 | int _=>obtain⟨t,rfl⟩:=r;rfl
 | str _=>obtain⟨t,rfl⟩:=r;rfl
 | Oi _=>obtain⟨t,rfl⟩:=r;rfl
 | flt _=>obtain⟨t,rfl⟩:=r;rfl
 | ref _=>cases r;rfl
 | ty _=>cases r;rfl
theorem RelV.inj {x y:V} {u:ai} (r:RelV x u) (q:RelV y u):x=y:=bQ (r.abs.symm.trans q.abs)
theorem dF.inj:∀{xs ys:List V} {us:List ai},dF xs us->dF ys us->xs=ys
 | _,_,_,.nil,.nil=>rfl
 | _,_,_,.cons r t,.cons r' t'=>by rw[r.inj r',dF.inj t t']
section
variable {X:Cx} {pins:List (af×Obj)} {σ:St} {H:Hp} {s:ay} {a:af} {xs ys:List V}
theorem cP.of {K:ae} (h:H a=some (.lst xs)):cP K H a xs:=.inl (.inl h)
theorem iC.of {K:ae} (h:H a=some (.tup xs)):iC K H a xs:=.inl (.inl h)
theorem Inv.list (I:Inv X pins σ H s) (h:cP X.K H a xs):∃its:List ai,dF xs its/\PlainL s.heap a its.toArray/\xs.length<=ao:=by
 rcases h with h | ⟨o,its,n,hk,hc,hd,hs,hz,r⟩
 ·obtain⟨z,its,n,r,e⟩:=h.ok I.fw
  exact⟨its,r,⟨_,n,e,rfl,rfl,rfl⟩,z⟩
 ·refine⟨its.toList,r,⟨o,n,I.K5 a o hk,hc,hd,by simpa using hs⟩,?_⟩
  have e:=r.length
  simp only[iG] at e
  omega
theorem Inv.tuple (I:Inv X pins σ H s) (h:iC X.K H a xs):∃its:List ai,dF xs its/\IsTup s.heap a its.toArray/\xs.length<=ao:=by
 rcases h with h | ⟨o,its,n,hk,hc,hs,hz,r⟩
 ·obtain⟨z,its,r,p⟩:=h.ok I.fw
  exact⟨its,r,p,z⟩
 ·refine⟨its.toList,r,⟨o,I.K5 a o hk,hc,n,by simpa using hs⟩,?_⟩
  have e:=r.length
  simp only[iG] at e
  omega
theorem Inv.xF (I:Inv X pins σ H s) (h:cP X.K H a xs) (h':cP X.K H a ys):xs=ys:=by
 obtain⟨its,r,⟨o,n,e,_,_,d⟩,_⟩:=I.list h
 obtain⟨its',r',⟨o',n',e',_,_,d'⟩,_⟩:=I.list h'
 rw[e] at e';cases e'
 rw[d] at d'
 injection d' with d1 _
 have:its=its':=by simpa using congrArg OJ d1
 subst this
 exact r.inj r'
theorem Inv.Sl (I:Inv X pins σ H s) (h:iC X.K H a xs) (h':iC X.K H a ys):xs=ys:=by
 obtain⟨its,r,⟨o,e,_,n,d⟩,_⟩:=I.tuple h
 obtain⟨its',r',⟨o',e',_,n',d'⟩,_⟩:=I.tuple h'
 rw[e] at e';cases e'
 rw[d] at d'
 injection d' with d1 _
 have:its=its':=by simpa using congrArg OJ d1
 subst this
 exact r.inj r'
end
abbrev Cx.Ie (X:Cx) (E:ai->ay->Prop):Cx:={ X with xe:=E }
abbrev Cx.nox (X:Cx):Cx:=X.Ie fun _ _=>False
theorem Cx.Ok.Ie {X:Cx} (ok:X.Ok) (E:ai->ay->Prop):(X.Ie E).Ok:=
 ⟨ok.mod,ok.kind,ok.glob,ok.blt,ok.above,ok.inj,ok.has,ok.cab,ok.hd,ok.frames,ok.stk,ok.exf,ok.bs,ok.WE,ok.U_,ok.VN,ok.E3,ok.ZT⟩
theorem Cx.Ok.wa {X:Cx} {E:ai->ay->Prop} (ok:(X.Ie E).Ok):X.Ok:=
 ⟨ok.mod,ok.kind,ok.glob,ok.blt,ok.above,ok.inj,ok.has,ok.cab,ok.hd,ok.frames,ok.stk,ok.exf,ok.bs,ok.WE,ok.U_,ok.VN,ok.E3,ok.ZT⟩
section
variable {X:Cx} {pins:List (af×Obj)} {σ:St} {H:Hp} {s:ay} {E:ai->ay->Prop}
theorem Inv.Ie (I:Inv X pins σ H s) (E:ai->ay->Prop):Inv (X.Ie E) pins σ H s:=⟨I.ok.Ie E,I.os,I.bare,I.base,I.loc,I.cell,I.free,I.xP,I.pin,I.fw,I.len⟩
theorem Inv.wa (I:Inv (X.Ie E) pins σ H s):Inv X pins σ H s:=⟨I.ok.wa,I.os,I.bare,I.base,I.loc,I.cell,I.free,I.xP,I.pin,I.fw,I.len⟩
theorem SP.wa {D:Ends} {f:Flow} {s':ay} (h:SP (X.Ie E) pins D f s'):SP X pins D f s':=by
 cases f with
 | next=>obtain⟨σ',H',I,q⟩:=h;exact⟨σ',H',I.wa,q⟩
 | brk=>obtain⟨σ',H',I,q⟩:=h;exact⟨σ',H',I.wa,q⟩
 | cont=>obtain⟨σ',H',I,q⟩:=h;exact⟨σ',H',I.wa,q⟩
 | ret u=>obtain⟨v,σ',H',I,r,q⟩:=h;exact⟨v,σ',H',I.wa,r,q⟩
theorem Tr.nox {st:List c_} {t:TS} (h:Tr X.nox st t):Tr X st t:=fun pins s σ H D I hw=>
 gX (h pins s σ H D (I.Ie _) hw) (fun _ _ q=>q.wa) fun _ _ z=>fo z
end
section
variable {X:Cx} {st:c_} {rest:List c_} {t u:TS} {e:Expr} {te:TE} {pos:Pos}
def Q0:TS:=fun D σ H=>D.nx σ H
def WU (t u:TS):TS:=fun D σ H=>t { D with nx:=u D } σ H
theorem bO:Tr X [] Q0:=fun _ _ σ H _ I h=>Bo ⟨σ,H,I,h⟩
theorem aj (h1:PS X st t) (h2:Tr X rest u):Tr X (st::rest) (WU t u):=by
 intro pins s σ H D I h
 refine abx (fU (h1 pins s σ H { D with nx:=u D } I h) fun f s1 q=>?_)
 cases f with
 | next=>
  obtain⟨σ',H',I',q⟩:=q
  exact h2 pins s1 σ' H' D I' q
 | ret v=>exact q
 | brk=>exact q
 | cont=>exact q
theorem az (h1:PS X st t):Tr X [st] t:=by
 intro pins s σ H D I h
 refine abx (fU (h1 pins s σ H D I h) fun f s1 q=>?_)
 cases f with
 | next=>exact Bo q
 | ret v=>exact q
 | brk=>exact q
 | cont=>exact q
theorem Inv.quiet {pins:List (af×Obj)} {σ:St} {H:Hp} {s:ay} (I:Inv X pins σ H s):interactive X.env=false:=by simp[interactive,I.ok.kind]
def aaN (te:TE):TS:=fun D σ H=>te σ H fun _ H1=>D.nx σ H1
theorem eI (he:PE X e te) (hs:zg e none pos.line X.env=pure false:=by rfl):PS X (.Expr e pos) (aaN te):=by
 intro pins s σ H D I h
 exact wpAny_Expr_any (fU (he pins s σ H _ I h) fun v s1 ⟨x,H1,I1,r1,q1⟩=>⟨σ,H1,I1,q1⟩) I.quiet hs
def WV (te:TE):TS:=fun D σ H=>te σ H D.rt
theorem a_ (he:PE X e te):PS X (.Return (some e) pos) (WV te):=by
 intro pins s σ H D I h
 exact wpAny_Return_some (fU (he pins s σ H _ I h) fun v s1 ⟨x,H1,I1,r1,q1⟩=>⟨x,σ,H1,I1,r1,q1⟩)
def aaJ:TS:=fun D _ H=>D.rt .iE H
theorem Xt:PS X (.Return none pos) aaJ:=fun _ _ σ H _ I h=>wpAny_Return_none ⟨.iE,σ,H,I,rfl,h⟩
def Uq (c:TT) (t u:TS):TS:=fun D σ H=>c σ H fun b H1=>if b=true then t D σ H1 else u D σ H1
theorem cV {c:Expr} {a b:List c_} {tc:TT} (hc:PT X c tc) (ha:Tr X a t) (hb:Tr X b u):PS X (.If c a b pos) (Uq tc t u):=by
 intro pins s σ H D I h
 refine wpAny_If (fU (hc pins s σ H _ I h) fun d s1 ⟨H1,I1,q1⟩=>?_)
 cases d with
 | true=>exact ha pins s1 σ H1 D I1 q1
 | false=>exact hb pins s1 σ H1 D I1 q1
end
abbrev TG:=V->St->Hp->(St->Hp->Prop)->Prop
abbrev Yg:=List V->St->Hp->(St->Hp->Prop)->Prop
def PG (X:Cx) (target:Expr) (t:TG):Prop:=
 ∀(pins:List (af×Obj)) (s:ay) (σ:St) (H:Hp) (v:V) (u:ai) (Q:St->Hp->Prop),Inv X pins σ H s->RelV v u->t v σ H Q ->
  bD (model X.prog X.w) X.A (assign target X.env u) (fun _ s'=>∃σ' H',Inv X pins σ' H' s'/\Q σ' H') X.xe s
def PGs (X:Cx) (ts:List Expr) (t:Yg):Prop:=
 ∀(pins:List (af×Obj)) (s:ay) (σ:St) (H:Hp) (vs:List V) (us:List ai) (Q:St->Hp->Prop),Inv X pins σ H s->dF vs us->t vs σ H Q ->
  bD (model X.prog X.w) X.A (assignInOrder ((HU ts X.env).map (·.2)) us) (fun _ s'=>∃σ' H',Inv X pins σ' H' s'/\Q σ' H') X.xe s
abbrev TIp:=V->V->Hp->VK->Prop
def PIp (X:Cx) (op:QP) (t:TIp):Prop:=
 ∀(pins:List (af×Obj)) (s:ay) (σ:St) (H:Hp) (x y:V) (v u:ai) (Q:VK),Inv X pins σ H s->RelV x v->RelV y u->t x y H Q ->
  bD (model X.prog X.w) X.A (abB op v u) (EP X pins σ Q) X.xe s
section
variable {X:Cx} {pos:Pos}
def xO (i:Nat):TG:=fun v σ H Q=>Q (σ.set i (some v)) H
theorem df {i:Nat} {x:Str} (hN:X.N.Nodup) (hi:X.N[i]?=some x) (hx:Loc X.env.scope x) (hf:X.fn x=true\/X.env.scope.names.lookup x=some .local:=by first | exact .inl rfl | exact .inr rfl | assumption):PG X (.Name x pos) (xO i):=by
 intro pins s σ H v u Q I r h
 exact aat (F0 I hN hi hx r (fun s' I'=>⟨_,H,I',h⟩) hf)
def ZQ:Yg:=fun vs σ H Q=>vs=[]/\Q σ H
inductive aac (t:TG) (u:Yg) (vs:List V) (σ:St) (H:Hp) (Q:St->Hp->Prop):Prop
 | mk (v:V) (r:List V) (e:vs=v::r) (q:t v σ H fun σ' H'=>u r σ' H' Q)
def N1 (t:TG) (u:Yg):Yg:=fun vs σ H Q=>aac t u vs σ H Q
theorem ur:PGs X [] ZQ:=by
 intro pins s σ H vs us Q I r h
 obtain⟨e,h⟩:=h
 subst e
 cases r
 exact assignInOrder_nil ⟨σ,H,I,h⟩
theorem gR {e:Expr} {es:List Expr} {t:TG} {u:Yg} (h1:PG X e t) (h2:PGs X es u)
  (hs:(HU (e::es) X.env).map (·.2)=assign e X.env::(HU es X.env).map (·.2):=by rfl):PGs X (e::es) (N1 t u):=by
 intro pins s σ H vs us Q I r h
 obtain⟨v,vr,e1,h⟩:=h
 subst e1
 cases r with
 | cons r rr=>
  rw[hs]
  refine assignInOrder_cons (fU (h1 pins s σ H _ _ _ I r h) fun _ s1 ⟨σ1,H1,I1,q1⟩=>?_)
  exact h2 pins s1 σ1 H1 _ _ Q I1 rr q1
inductive abq (K:ae) (n:Nat) (t:Yg) (v:V) (σ:St) (H:Hp) (Q:St->Hp->Prop):Prop
 | mk (a:af) (xs:List V) (e:v=.ref a) (h:iC K H a xs) (l:xs.length=n) (q:t xs σ H Q)
def ZP (K:ae) (n:Nat) (t:Yg):TG:=fun v σ H Q=>abq K n t v σ H Q
theorem Ak {es:List Expr} {k:Nat} {t:Yg} {n:Nat} (hc:X.calm=true) (h:PGs X es t)
  (hn:(HU es X.env).length=n:=by rfl) (hst:(HU es X.env).findIdx? (·.1)=none:=by rfl):PG X (.Tuple es k pos) (ZP X.K n t):=by
 intro pins s σ H v u Q I r hw
 obtain⟨a,xs,e1,hq,hl,hw⟩:=hw
 subst e1
 cases r
 obtain⟨its,rv,ht,hz⟩:=I.tuple hq
 refine assign_Tuple_tuple (I.ok.hd hc) ht (by simp[hn,<- hl,rv.length]) hst fun h' hx=>?_
 have I1:Inv X pins σ H { s with heap:=h' }:=I.kept (t':=s.toks) fun b o e=>hx b o (cv (bo e)) e
 exact h pins _ σ H xs _ Q I1 (by simpa using rv) hw
def aaP (te:TE) (g:TG):TS:=fun D σ H=>te σ H fun x H1=>g x σ H1 D.nx
theorem cA {i:Nat} {x:Str} {e:Expr} {te:TE} {pos':Pos} (hN:X.N.Nodup) (hi:X.N[i]?=some x) (hx:Loc X.env.scope x) (he:PE X e te) (hs:zg e (some (.Name x pos')) pos.line X.env=pure false:=by rfl) (hf:X.fn x=true\/X.env.scope.names.lookup x=some .local:=by first | exact .inl rfl | exact .inr rfl | assumption) :
  PS X (.Assign [.Name x pos'] e pos) (aaP te (xO i)):=by
 intro pins s σ H D I h
 refine wpAny_Assign_Name (fU (he pins s σ H _ I h) fun v s1 ⟨y,H1,I1,r1,q1⟩=>?_) hs
 exact F0 I1 hN hi hx r1 (fun s2 I2=>⟨_,H1,I2,q1⟩) hf
def acP (i:Nat) (te:TE) (ti:TIp):TS:=fun D σ H=>∃x,σ[i]?=some (some x)/\te σ H fun y H1=>ti x y H1 fun z H2=>D.nx (σ.set i (some z)) H2
theorem Zp {i:Nat} {x:Str} {e:Expr} {te:TE} {op:QP} {ti:TIp} {pos':Pos} (hN:X.N.Nodup) (hi:X.N[i]?=some x) (hx:Loc X.env.scope x) (he:PE X e te) (ho:PIp X op ti) (hf:X.fn x=true\/X.env.scope.names.lookup x=some .local:=by first | exact .inl rfl | exact .inr rfl | assumption) :
  PS X (.AugAssign (.Name x pos') op e pos) (acP i te ti):=by
 intro pins s σ H D I h
 obtain⟨v,e1,h⟩:=h
 obtain⟨m,hn,hl⟩:=I.loc
 have vis:Vis X.env.scope x:=by rcases hx with k | k;exact .inl k;exact .inr (.inl k)
 obtain⟨u,r,l⟩:=hl i x v hi e1 vis
 refine wpAny_AugAssign_Name ?_
 have go:bD (model X.prog X.w) X.A (eval e X.env) (fun w s₂=>bD (model X.prog X.w) X.A (abB op u w) (fun r s₃=>bD (model X.prog X.w) X.A (abA X.env x r) (fun _=>SP X pins D .next) X.xe s₃) X.xe s₂) X.xe s:=by
  refine fU (he pins s σ H _ I h) fun w s1 ⟨y,H1,I1,r1,q1⟩=>?_
  refine fU (ho pins s1 σ H1 v y u w _ I1 r r1 q1) fun z s2 ⟨zv,H2,I2,r2,q2⟩=>?_
  exact F0 I2 hN hi hx r2 (fun s3 I3=>⟨_,H2,I3,q2⟩) hf
 rcases l with ⟨hk,hm⟩ | ⟨hk,c,hc,hcell⟩
 ·exact Yl I.ok.kind hk hn hm go
 ·rcases hk with hk | hk
  ·exact YO I.ok.kind hk hc hcell go
  ·rcases hx with k | k
   ·have:X.env.scope.names.lookup x=some .free:=hk
    rw[k] at this;cases this
   ·have:X.env.scope.names.lookup x=some .free:=hk
    rw[k] at this;cases this
def ipI (f:Int->Int->Int):TIp:=fun x y H Q=>∃i j,x=.int i/\y=.int j/\Q (.int (f i j)) H
theorem ZJ:PIp X .Add (ipI fun i j=>i+j):=by
 intro pins s σ H x y v u Q I r1 r2 h
 obtain⟨i,j,e1,e2,q⟩:=h
 subst e1;subst e2
 obtain⟨t,rfl⟩:=r1
 obtain⟨t',rfl⟩:=r2
 exact iadd_int ⟨.int _,H,I.tok _,⟨_,rfl⟩,q⟩
end
section
variable {X:Cx} {pos:Pos}
def Um (c:TT) (tb:TS):TS:=fun D σ H=>∃W:Nat->St->Hp->Prop,(∃m,W m σ H)/\∀m σ H,W m σ H ->
 c σ H fun b H1=>if b=true then ∃N:St->Hp->Prop,(∀σ' H',N σ' H'->∃m',m'<m/\W m' σ' H')/\tb { D with nx:=N,ct:=N,bk:=D.nx } σ H1 else D.nx σ H1
theorem Gd {c:Expr} {body:List c_} {tc:TT} {tb:TS} (hp:PassesOwn (model X.prog X.w) X.A X.env X.xe) (hc:PT X c tc) (hb:Tr X body tb):PS X (.While c body [] pos) (Um tc tb):=by
 intro pins s σ H D I h
 obtain⟨W,⟨m0,w0⟩,turn⟩:=h
 refine wpAny_While (codeAny_whileLoop (fun n s'=>∃σ' H',Inv X pins σ' H' s'/\W n σ' H') ?_ m0 ⟨σ,H,I,w0⟩)
 rintro n s1 ⟨σ1,H1,I1,w1⟩
 refine j2 hp (fU (hc pins s1 σ1 H1 _ I1 (turn n σ1 H1 w1)) fun b s2 ⟨H2,I2,q2⟩=>?_)
 cases b with
 | true=>
  obtain⟨N,hN,q2⟩:=q2
  rw[if_pos rfl]
  refine j2 hp (fU (hb pins s2 σ1 H2 _ I2 q2) fun f s3 q3=>?_)
  cases f with
  | next=>
   obtain⟨σ3,H3,I3,n3⟩:=q3
   obtain⟨m',hm,w3⟩:=hN σ3 H3 n3
   exact⟨m',hm,σ3,H3,I3,w3⟩
  | cont=>
   obtain⟨σ3,H3,I3,n3⟩:=q3
   obtain⟨m',hm,w3⟩:=hN σ3 H3 n3
   exact⟨m',hm,σ3,H3,I3,w3⟩
  | brk=>exact q3
  | ret v=>exact q3
 | false=>
  rw[if_neg bu]
  exact Bo ⟨σ1,H2,I2,q2⟩
end
structure It where
 go:Nat->Hp->Prop
 Sf:Nat->Hp->V->Hp->Prop
 stop:Nat->Hp->Prop
def E8 (X:Cx) (pins:List (af×Obj)) (H:Hp) (b:af):Prop:=
 H b=none/\b≠X.env.locals/\b∉X.fs/\(b∈X.ex\/X.Js.heap.objs.size<=b)/\(∀x c,X.env.cells.lookup x=some c->c≠b)/\∀p∈X.pn++pins,p.1≠b
theorem Inv.N2 {X:Cx} {pins:List (af×Obj)} {σ:St} {H H':Hp} {s:ay} {b:af} (I:Inv X pins σ H s) (hb:s.heap.objs.size<=b) (hn:H' b=none):E8 X pins H' b:=by
 refine⟨hn,gI (cE I.lt hb),I.ac3 hb,.inr (dA I.sz hb),fun x c e z=>?_,fun p hp z=>?_⟩
 ·obtain⟨v,q⟩:=I.cell x c e
  exact absurd (cE q.lt (by rw[z];exact hb)) (fj _)
 ·exact absurd (cE (bo (I.pin p hp).1) (by rw[z];exact hb)) (fj _)
structure Turn (P:bj) (w:bV) (K:ae) (tg:Expr) (J:It) (fp:List af) (it:af) (tn:Nat->cX->Prop):Prop where
 mem:it∈fp
 obj:∀i h,tn i h->∀b∈fp,∃o,h.get? b=some o/\∀v,o.data≠.cell v
 keep:∀i h h',tn i h->(∀b∈fp,∀o,h.get? b=some o->h'.get? b=some o)->tn i h'
 item:∀(X:Cx),X.prog=P->X.w=w->X.K=K->X.calm=true->∀(i:Nat) (pins:List (af×Obj)) (s:ay) (σ:St) (H:Hp) (E:ai->ay->Prop),Inv X pins σ H s->(∀b∈fp,E8 X pins H b)->tn i s.heap->J.go i H ->
  bD (model P w) X.A (oY (.ref it)) (fun r s1=>∃u,r=some u /\
   bD (model P w) X.A (Br tg (.ref it) u) (fun _ s2=>∃x H',Inv X pins σ H' s2/\RelV x u/\J.Sf i H x H'/\tn (i+1) s2.heap/\∀b∈fp,H' b=none) E s1) E s
 done:∀(X:Cx),X.prog=P->X.w=w->X.K=K->X.calm=true->∀(i:Nat) (pins:List (af×Obj)) (s:ay) (σ:St) (H:Hp) (E:ai->ay->Prop),Inv X pins σ H s->(∀b∈fp,E8 X pins H b)->tn i s.heap->J.stop i H ->
  bD (model P w) X.A (oY (.ref it)) (fun r s1=>r=none/\Inv X pins σ H s1) E s
 self:∀(A:cQ) (i:Nat) (s:ay) (Q:ai->ay->Prop) (E:ai->ay->Prop),tn i s.heap->Q (.ref it) s->bD (model P w) A (Wr (.ref it)) Q E s
abbrev TI:=St->Hp->(It->Hp->Prop)->Prop
def PIE (X:Cx) (pins:List (af×Obj)) (σ:St) (tg:Expr) (R:It->Hp->Prop) (itv:ai) (s2:ay):Prop:=
 ∃(it:af) (fp:List af) (tn:Nat->cX->Prop) (J:It) (H':Hp),itv=.ref it/\Inv X pins σ H' s2/\Turn X.prog X.w X.K tg J fp it tn/\tn 0 s2.heap/\(∀b∈fp,E8 X pins H' b)/\R J H'
def PI (X:Cx) (tg iter:Expr) (wi:TI):Prop:=
 ∀(pins:List (af×Obj)) (s:ay) (σ:St) (H:Hp) (R:It->Hp->Prop),Inv X pins σ H s->wi σ H R ->
  bD (model X.prog X.w) X.A (eval iter X.env) (fun v s1=>bD (model X.prog X.w) X.A (Wr v) (PIE X pins σ tg R) X.xe s1) X.xe s
theorem JJ {M:aaD} {A:cQ} {E:ai->ay->Prop} {s:ay} {tg:Expr} {it:af} {u:ai} {o:Obj} {n:String} {vs:Array ai} {Q:Unit->ay->Prop} (ho:s.heap.get? it=some o) (hc:o.cls=.type n) (hd:o.data=.fields vs)
  (hn:["enumerate","zip","dict_itemiterator","dict_reverseitemiterator","odict_iterator","itertools.zip_longest","itertools.pairwise"].contains n=false) (hQ:Q () s):bD M A (Br tg (.ref it) u) Q E s:=by
 unfold Br
 cases tg <;> first
  | exact aH hQ
  | (cases u <;> first
    | exact aH hQ
    | (refine ah (aae ho ?_)
       rw[hc,hd]
       show bD M A (if (["enumerate","zip","dict_itemiterator","dict_reverseitemiterator","odict_iterator","itertools.zip_longest","itertools.pairwise"].contains n&&vs[0]?==some (uU _))=true then _ else _) Q E s
       rw[if_neg (by intro h;rw[hn,rg] at h;cases h)]
       exact aH hQ))
def YM (K:ae) (a:af):It:=
 ⟨fun i H=>∃xs x,cP K H a xs/\xs[i]?=some x,fun i H x H'=>H'=H/\∀xs,cP K H a xs->xs[i]?=some x,fun i H=>∃xs,cP K H a xs/\xs.length<=i⟩
def Itt (K:ae) (a:af):It:=
 ⟨fun i H=>∃xs x,iC K H a xs/\xs[i]?=some x,fun i H x H'=>H'=H/\∀xs,iC K H a xs->xs[i]?=some x,fun i H=>∃xs,iC K H a xs/\xs.length<=i⟩
def Yj (lo:Int) (n:Nat):It:=⟨fun i _=>i<n,fun i H x H'=>H'=H/\x=.int (lo+i),fun i _=>n<=i⟩
theorem Si {P:bj} {w:bV} {K:ae} {tg:Expr} (a it:af):Turn P w K tg (YM K a) [it] it (fun i h=>h.IsListIter it a i) where
 mem:=by simp
 obj:=fun i h st b hb=>by
  have e:b=it:=by simpa using hb
  subst e
  obtain⟨o,e,c,d⟩:=st
  exact⟨o,e,fun v z=>by rw[d] at z;cases z⟩
 keep:=fun i h h' st k=>st.at fun o e=>k it (by simp) o e
 item:=by
  intro X hP hw hK hc i pins s σ H E I hf st hg
  subst hP hw hK
  obtain⟨xs,x,hq,hx⟩:=hg
  obtain⟨its,rv,p,hz⟩:=I.list hq
  obtain⟨u,hu,ru⟩:=rv.get hx
  obtain⟨f0,f1,f2,f3,f4,f5⟩:=hf it (by simp)
  refine wpAny_pyNext_list_item st p.isList (x:=u) (by simpa using hu) fun h' st' sb=>?_
  have I1:Inv X pins σ H { s with heap:=h' }:=I.turned (t':=s.toks) (fun b o hb e=>(sb.2 b hb).trans e) f0 f1 f3 f4 f5
  obtain⟨o,e,c,d⟩:=id st'
  exact⟨u,rfl,JJ (s:={ s with heap:=h' }) e c d (by decide) ⟨x,H,I1,ru,⟨rfl,fun ys hy=>by rw[I.xF hy hq];exact hx⟩,st',fun b hb=>(hf b hb).1⟩⟩
 done:=by
  intro X hP hw hK hc i pins s σ H E I hf st hg
  subst hP hw hK
  obtain⟨xs,hq,hx⟩:=hg
  obtain⟨its,rv,p,hz⟩:=I.list hq
  obtain⟨f0,f1,f2,f3,f4,f5⟩:=hf it (by simp)
  have hl:=rv.length
  exact wpAny_pyNext_list_end (I.ok.hd hc) st p.isList (by simp;omega) fun h' eb=>⟨rfl,I.turned (t':=s.toks) (fun b o hb e=>eb b o hb e) f0 f1 f3 f4 f5⟩
 self:=fun _ _ _ _ _ st h=>wpAny_pyIter_listiter st h
theorem O1 {P:bj} {w:bV} {K:ae} {tg:Expr} (a it:af):Turn P w K tg (Itt K a) [it] it (fun i h=>h.IsTupleIter it a i) where
 mem:=by simp
 obj:=fun i h st b hb=>by
  have e:b=it:=by simpa using hb
  subst e
  obtain⟨o,e,c,d⟩:=st
  exact⟨o,e,fun v z=>by rw[d] at z;cases z⟩
 keep:=fun i h h' st k=>st.at fun o e=>k it (by simp) o e
 item:=by
  intro X hP hw hK hc i pins s σ H E I hf st hg
  subst hP hw hK
  obtain⟨xs,x,hq,hx⟩:=hg
  obtain⟨its,rv,p,hz⟩:=I.tuple hq
  obtain⟨u,hu,ru⟩:=rv.get hx
  obtain⟨f0,f1,f2,f3,f4,f5⟩:=hf it (by simp)
  refine wpAny_pyNext_tuple_item st (show s.heap.IsTuple a its.toArray from p) (x:=u) (by simpa using hu) fun h' st' sb=>?_
  have I1:Inv X pins σ H { s with heap:=h' }:=I.turned (t':=s.toks) (fun b o hb e=>(sb.2 b hb).trans e) f0 f1 f3 f4 f5
  obtain⟨o,e,c,d⟩:=id st'
  exact⟨u,rfl,JJ (s:={ s with heap:=h' }) e c d (by decide) ⟨x,H,I1,ru,⟨rfl,fun ys hy=>by rw[I.Sl hy hq];exact hx⟩,st',fun b hb=>(hf b hb).1⟩⟩
 done:=by
  intro X hP hw hK hc i pins s σ H E I hf st hg
  subst hP hw hK
  obtain⟨xs,hq,hx⟩:=hg
  obtain⟨its,rv,p,hz⟩:=I.tuple hq
  obtain⟨f0,f1,f2,f3,f4,f5⟩:=hf it (by simp)
  have hl:=rv.length
  exact wpAny_pyNext_tuple_end (I.ok.hd hc) st (show s.heap.IsTuple a its.toArray from p) (by simp;omega) fun h' eb=>⟨rfl,I.turned (t':=s.toks) (fun b o hb e=>eb b o hb e) f0 f1 f3 f4 f5⟩
 self:=fun _ _ _ _ _ st h=>wpAny_pyIter_tupleiter st h
theorem O2 {P:bj} {w:bV} {K:ae} {tg:Expr} (it:af) (lo:Int) (n:Nat):Turn P w K tg (Yj lo n) [it] it (fun i h=>IsRangeIter h it (lo+(i:Nat)*1) ((n:Int)-(i:Nat)) 1) where
 mem:=by simp
 obj:=fun i h st b hb=>by
  have e:b=it:=by simpa using hb
  subst e
  exact⟨_,st,fun v z=>by
   have z':Data.fields _=Data.cell v:=z
   cases z'⟩
 keep:=fun i h h' st k=>k it (by simp) _ st
 item:=by
  intro X hP hw hK hc i pins s σ H E I hf st hg
  subst hP hw hK
  obtain⟨f0,f1,f2,f3,f4,f5⟩:=hf it (by simp)
  have W:=Walks.range (prog:=X.prog) (w:=X.w) (I.ok.hd hc) it lo 1 n
  refine W.item i s _ _ hg st fun v h' tk hv st' kk=>?_
  obtain⟨t,rfl⟩:=hv
  have I1:Inv X pins σ H { s with heap:=h',toks:=tk }:=I.turned (fun b o hb e=>kk b o (by simpa using hb) e) f0 f1 f3 f4 f5
  refine⟨_,rfl,JJ (s:={ s with heap:=h',toks:=tk }) (n:="range_iterator") st' rfl rfl (by decide) ⟨.int (lo+i),H,I1,⟨t,?_⟩,⟨rfl,rfl⟩,st',fun b hb=>(hf b hb).1⟩⟩
  rw[Int.mul_one]
 done:=by
  intro X hP hw hK hc i pins s σ H E I hf st hg
  subst hP hw hK
  obtain⟨f0,f1,f2,f3,f4,f5⟩:=hf it (by simp)
  exact wpAny_pyNext_range_end (I.ok.hd hc) st (by have:n<=i:=hg;omega) fun h' eb=>⟨rfl,I.turned (t':=s.toks) (fun b o hb e=>eb b o hb e) f0 f1 f3 f4 f5⟩
 self:=fun _ _ _ _ _ st h=>wpAny_pyIter_rangeiter st h
end L2
namespace L2
open PySem PySem.Spec PyProof.Rows
section
variable {X:Cx} {tg:Expr}
def RE (K:ae) (tl:TE):TI:=fun σ H R=>tl σ H fun x H1=>∃a,x=.ref a/\(∃xs,cP K H1 a xs)/\R (YM K a) H1
def adb (K:ae) (tl:TE):TI:=fun σ H R=>tl σ H fun x H1=>∃a,x=.ref a/\(∃xs,iC K H1 a xs)/\R (Itt K a) H1
theorem fV {l:Expr} {tl:TE} (hl:PE X l tl):PI X tg l (RE X.K tl):=by
 intro pins s σ H R I h
 refine fU (hl pins s σ H _ I h) fun v s1 ⟨x,H1,I1,r1,q1⟩=>?_
 obtain⟨a,e,⟨xs,hq⟩,q⟩:=q1
 subst e
 cases r1
 obtain⟨its,rv,p,hz⟩:=I1.list hq
 refine kD p.isList ?_
 refine⟨s1.heap.objs.size,[s1.heap.objs.size],_,_,H1,rfl,I1.kept (t':=s1.toks) fun b o e=>aD _ e,Si a _,⟨_,bp _ rfl,rfl,rfl⟩,fun b hb=>?_,q⟩
 have e:b=s1.heap.objs.size:=by simpa using hb
 subst e
 exact I1.N2 (aC _) (I1.fw.fresh (aC _))
theorem Zr {l:Expr} {tl:TE} (hl:PE X l tl):PI X tg l (adb X.K tl):=by
 intro pins s σ H R I h
 refine fU (hl pins s σ H _ I h) fun v s1 ⟨x,H1,I1,r1,q1⟩=>?_
 obtain⟨a,e,⟨xs,hq⟩,q⟩:=q1
 subst e
 cases r1
 obtain⟨its,rv,p,hz⟩:=I1.tuple hq
 refine wpAny_pyIter_tuple (show s1.heap.IsTuple a its.toArray from p) ?_
 refine⟨s1.heap.objs.size,[s1.heap.objs.size],_,_,H1,rfl,I1.kept (t':=s1.toks) fun b o e=>aD _ e,O1 a _,⟨_,bp _ rfl,rfl,rfl⟩,fun b hb=>?_,q⟩
 have e:b=s1.heap.objs.size:=by simpa using hb
 subst e
 exact I1.N2 (aC _) (I1.fw.fresh (aC _))
theorem UU {pins:List (af×Obj)} {σ:St} {H:Hp} {s:ay} {R:It->Hp->Prop} {E:ai->ay->Prop} {lo hi:Int} {t u v:Tok} {tk:Nat} (I:Inv X pins σ H s) (h1:-(2 ^ 62)<=lo) (h2:lo<2 ^ 62) (h3:-(2 ^ 62)<=hi) (h4:hi<2 ^ 62)
  (q:R (Yj lo (hi-lo).toNat) H):bD (model X.prog X.w) X.A (Wr (.ref s.heap.objs.size)) (PIE X pins σ tg R) E { s with heap:=s.heap.push { cls:=.type "range",data:=.fields #[.int lo t,.int hi u,.int 1 v] },toks:=tk }:=by
 refine wpAny_pyIter_range (YW ..) (small_one h1 h2 h3 h4) ?_
 have I1:Inv X pins σ H { s with heap:=s.heap.push { cls:=.type "range",data:=.fields #[.int lo t,.int hi u,.int 1 v] },toks:=tk }:=I.kept fun b o e=>aD _ e
 refine⟨(s.heap.push { cls:=.type "range",data:=.fields #[.int lo t,.int hi u,.int 1 v] }).objs.size,[(s.heap.push { cls:=.type "range",data:=.fields #[.int lo t,.int hi u,.int 1 v] }).objs.size],_,_,H,rfl,
  I1.kept (t':=tk) fun b o e=>aD _ e,O2 _ lo (hi-lo).toNat,?_,fun b hb=>?_,q⟩
 ·have e1:lo+((0:Nat):Int)*1=lo:=by simp
  have e2:(((hi-lo).toNat:Nat):Int)-((0:Nat):Int)=Ex lo hi 1:=by rw[rangeSize_one];split <;> omega
  show IsRangeIter _ _ (lo+((0:Nat):Int)*1) ((((hi-lo).toNat:Nat):Int)-((0:Nat):Int)) 1
  rw[e1,e2]
  exact bp _ rfl
 ·have e:b=(s.heap.push { cls:=.type "range",data:=.fields #[.int lo t,.int hi u,.int 1 v] }).objs.size:=by simpa using hb
  subst e
  exact I1.N2 (aC _) (I1.fw.fresh (aC _))
def abd (ta:TA):TI:=fun σ H R=>ta σ H fun vs H1=>∃j:Int,vs=[.int j]/\-(2 ^ 62)<=j/\j<2 ^ 62/\R (Yj 0 j.toNat) H1
theorem CK {a:Expr} {ta:TA} {p pos:Pos} (hg:Gl X "range") (hm:X.mg "range"=none) (ha:PA X [a] ta) (hs:cM [a] X.env=[(false,eval a X.env)]:=by rfl):PI X tg (.Call (.Name "range" p) [a] [] pos) (abd ta):=by
 intro pins s σ H R I h
 refine Call_ (C3 I hg hm boot_range (iW (fU (ha pos pins s σ H _ I h) fun us s1 ⟨vs,H1,I1,r1,q1⟩=>?_) hs rfl))
 obtain⟨j,e,q1,q2,q⟩:=q1
 subst e
 cases r1 with
 | cons r rr=>
  cases rr
  obtain⟨t,rfl⟩:=r
  exact call_range_1 (UU I1 (by omega) (by omega) q1 q2 (by simpa using q))
def acN (wi:TI) (g:TG) (tb:TS):TS:=fun D σ H=>wi σ H fun J H1=>∃W:Nat->Nat->St->Hp->Prop,(∃m,W 0 m σ H1)/\∀i m σ H,W i m σ H ->
 (J.stop i H/\D.nx σ H)\/(J.go i H/\∃N:St->Hp->Prop,(∀σ' H',N σ' H'->∃m',m'<m/\W (i+1) m' σ' H')/\∀x H',J.Sf i H x H'->g x σ H' fun σ2 H2=>tb { D with nx:=N,ct:=N,bk:=D.nx } σ2 H2)
def Gf (fp:List af) (h:cX):List (af×Obj):=fp.filterMap fun b=>(h.get? b).map fun o=>(b,o)
theorem Aw {fp:List af} {h:cX} {b:af} {o:Obj} (hb:b∈fp) (e:h.get? b=some o):(b,o)∈Gf fp h:=T_.mpr ⟨b,hb,by rw[e];rfl⟩
theorem SN {fp:List af} {h:cX} {p:af×Obj} (hp:p∈Gf fp h):p.1∈fp/\h.get? p.1=some p.2:=by
 obtain⟨b,hb,e⟩:=T_.mp hp
 cases q:h.get? b with
 | none=>rw[q] at e;cases e
 | some o=>
  rw[q] at e
  have e':(b,o)=p:=bQ e
  subst e'
  exact⟨hb,q⟩
theorem Inv.pinned {pins:List (af×Obj)} {σ:St} {H:Hp} {s:ay} {fp:List af} (I:Inv X pins σ H s) (hf:∀b∈fp,E8 X pins H b) (ho:∀b∈fp,∃o,s.heap.get? b=some o/\∀v,o.data≠.cell v):Inv X (pins++Gf fp s.heap) σ H s:=
 I.Rh fun p hp=>(bx.mp hp).elim (fun z=>I.pin p (au _ z)) fun z=>by
  obtain⟨hb,e⟩:=SN z
  obtain⟨f0,f1,f2,_⟩:=hf p.1 hb
  obtain⟨o,e',d⟩:=ho p.1 hb
  rw[e] at e';cases e'
  exact⟨e,f0,f1,f2,d⟩
theorem Inv.Bx {pins pl:List (af×Obj)} {σ:St} {H:Hp} {s:ay} (I:Inv X (pins++pl) σ H s):Inv X pins σ H s:=I.Rh fun p hp=>I.pin p (au _ (bJ _ hp))
theorem lF {iter:Expr} {body:List c_} {wi:TI} {g:TG} {tb:TS} {pos:Pos} (hp:PassesOwn (model X.prog X.w) X.A X.env X.xe) (hc:X.calm=true) (hi:PI X tg iter wi) (hg:PG X tg g) (hb:Tr X body tb)
  (hs:∀x,foldedSetIterable iter X.env x=pure x:=by intro _;rfl):PS X (.For tg iter body [] pos) (acN wi g tb):=by
 intro pins s σ H D I h
 refine wpAny_For (fU (hi pins s σ H _ I h) fun v s1 h1=>fU h1 fun itv s2 h2=>?_) hs
 obtain⟨it,fp,tn,J,H2,e,I2,T,st2,f2,W,⟨m0,w0⟩,turn⟩:=h2
 subst e
 have stat:∀{H':Hp},(∀b∈fp,H' b=none)->∀b∈fp,E8 X pins H' b:=fun hn b hb=>⟨hn b hb,(f2 b hb).2⟩
 refine codeAny_forLoop_any (fun n s'=>∃i σ' H',Inv X pins σ' H' s'/\tn i s'.heap/\(∀b∈fp,H' b=none)/\W i n σ' H') ?_ m0 ⟨0,σ,H2,I2,st2,fun b hb=>(f2 b hb).1,w0⟩
 rintro n s3 ⟨i,σ3,H3,I3,st3,fr3,w3⟩
 rcases turn i n σ3 H3 w3 with ⟨stop,qn⟩ | ⟨go,N,hN,step⟩
 ·refine j2 hp (fU (T.done X rfl rfl rfl hc i pins s3 σ3 H3 X.xe I3 (stat fr3) st3 stop) fun r s4 ⟨hr,I4⟩=>?_)
  subst hr
  exact Bo ⟨σ3,H3,I4,qn⟩
 ·refine j2 hp (fU (T.item X rfl rfl rfl hc i pins s3 σ3 H3 X.xe I3 (stat fr3) st3 go) fun r s4 ⟨u,hr,h4⟩=>?_)
  subst hr
  refine j2 hp (fU h4 fun _ s5 ⟨x,H5,I5,r5,y5,st5,fr5⟩=>?_)
  have I5':=I5.pinned (stat fr5) (T.obj _ _ st5)
  refine j2 hp (fU (hg _ s5 σ3 H5 x u _ I5' r5 (step x H5 y5)) fun _ s6 ⟨σ6,H6,I6,q6⟩=>?_)
  refine j2 hp (fU (hb _ s6 σ6 H6 _ I6 q6) fun f s7 q7=>?_)
  have again:∀{σ7:St} {H7:Hp},Inv X (pins++Gf fp s5.heap) σ7 H7 s7->N σ7 H7->∃m,m<n/\∃i σ' H',Inv X pins σ' H' s7/\tn i s7.heap/\(∀b∈fp,H' b=none)/\W i m σ' H':=fun {σ7 H7} I7 n7=>by
   obtain⟨m',hm,w7⟩:=hN σ7 H7 n7
   refine⟨m',hm,i+1,σ7,H7,I7.Bx,T.keep _ _ _ st5 fun b hb o e=>(I7.pin (b,o) (au _ (au _ (Aw hb e)))).1,fun b hb=>?_,w7⟩
   obtain⟨o,e,d⟩:=T.obj _ _ st5 b hb
   exact (I7.pin (b,o) (au _ (au _ (Aw hb e)))).2.1
  cases f with
  | next=>obtain⟨σ7,H7,I7,n7⟩:=q7;exact again I7 n7
  | cont=>obtain⟨σ7,H7,I7,n7⟩:=q7;exact again I7 n7
  | brk=>obtain⟨σ7,H7,I7,q7⟩:=q7;exact⟨σ7,H7,I7.Bx,q7⟩
  | ret v=>obtain⟨x7,σ7,H7,I7,r7,q7⟩:=q7;exact⟨x7,σ7,H7,I7.Bx,r7,q7⟩
end
theorem kS {K:ae} {a:af} {xs:List V} {g:TG} {tb:TS} {D:Ends} {σ:St} {H:Hp} (Pv:Nat->St->Hp->Prop) (h0:Pv 0 σ H) (hl:∀i σ H,i<=xs.length->Pv i σ H->cP K H a xs)
  (hs:∀i x σ H,xs[i]?=some x->Pv i σ H->g x σ H fun σ2 H2=>tb { D with nx:=Pv (i+1),ct:=Pv (i+1),bk:=D.nx } σ2 H2) (hd:∀σ H,Pv xs.length σ H->D.nx σ H) :
  ∃W:Nat->Nat->St->Hp->Prop,(∃m,W 0 m σ H)/\∀i m σ H,W i m σ H ->
   ((YM K a).stop i H/\D.nx σ H)\/((YM K a).go i H/\∃N:St->Hp->Prop,(∀σ' H',N σ' H'->∃m',m'<m/\W (i+1) m' σ' H')/\∀x H',(YM K a).Sf i H x H'->g x σ H' fun σ2 H2=>tb { D with nx:=N,ct:=N,bk:=D.nx } σ2 H2):=by
 refine⟨fun i m σ H=>m=xs.length-i/\i<=xs.length/\Pv i σ H,⟨xs.length,by simp,cu _,h0⟩,?_⟩
 rintro i m σ H ⟨rfl,hi,p⟩
 have q:=hl i σ H hi p
 by_cases hlt:i<xs.length
 ·refine .inr ⟨⟨xs,xs[i],q,by simp[hlt]⟩,Pv (i+1),fun σ' H' p'=>⟨xs.length-(i+1),by omega,rfl,hlt,p'⟩,fun x H' y=>?_⟩
  obtain⟨e,y⟩:=y
  subst e
  exact hs i x σ _ (y xs q) p
 ·have e:i=xs.length:=by omega
  subst e
  exact .inl ⟨⟨xs,q,aC _⟩,hd σ H p⟩
theorem X1 {K:ae} {a:af} {xs:List V} {g:TG} {tb:TS} {D:Ends} {σ:St} {H:Hp} (Pv:Nat->St->Hp->Prop) (h0:Pv 0 σ H) (hl:∀i σ H,i<=xs.length->Pv i σ H->iC K H a xs)
  (hs:∀i x σ H,xs[i]?=some x->Pv i σ H->g x σ H fun σ2 H2=>tb { D with nx:=Pv (i+1),ct:=Pv (i+1),bk:=D.nx } σ2 H2) (hd:∀σ H,Pv xs.length σ H->D.nx σ H) :
  ∃W:Nat->Nat->St->Hp->Prop,(∃m,W 0 m σ H)/\∀i m σ H,W i m σ H ->
   ((Itt K a).stop i H/\D.nx σ H)\/((Itt K a).go i H/\∃N:St->Hp->Prop,(∀σ' H',N σ' H'->∃m',m'<m/\W (i+1) m' σ' H')/\∀x H',(Itt K a).Sf i H x H'->g x σ H' fun σ2 H2=>tb { D with nx:=N,ct:=N,bk:=D.nx } σ2 H2):=by
 refine⟨fun i m σ H=>m=xs.length-i/\i<=xs.length/\Pv i σ H,⟨xs.length,by simp,cu _,h0⟩,?_⟩
 rintro i m σ H ⟨rfl,hi,p⟩
 have q:=hl i σ H hi p
 by_cases hlt:i<xs.length
 ·refine .inr ⟨⟨xs,xs[i],q,by simp[hlt]⟩,Pv (i+1),fun σ' H' p'=>⟨xs.length-(i+1),by omega,rfl,hlt,p'⟩,fun x H' y=>?_⟩
  obtain⟨e,y⟩:=y
  subst e
  exact hs i x σ _ (y xs q) p
 ·have e:i=xs.length:=by omega
  subst e
  exact .inl ⟨⟨xs,q,aC _⟩,hd σ H p⟩
theorem JN {lo:Int} {n:Nat} {g:TG} {tb:TS} {D:Ends} {σ:St} {H:Hp} (Pv:Nat->St->Hp->Prop) (h0:Pv 0 σ H)
  (hs:∀i σ H,i<n->Pv i σ H->g (.int (lo+i)) σ H fun σ2 H2=>tb { D with nx:=Pv (i+1),ct:=Pv (i+1),bk:=D.nx } σ2 H2) (hd:∀σ H,Pv n σ H->D.nx σ H) :
  ∃W:Nat->Nat->St->Hp->Prop,(∃m,W 0 m σ H)/\∀i m σ H,W i m σ H ->
   ((Yj lo n).stop i H/\D.nx σ H)\/((Yj lo n).go i H/\∃N:St->Hp->Prop,(∀σ' H',N σ' H'->∃m',m'<m/\W (i+1) m' σ' H')/\∀x H',(Yj lo n).Sf i H x H'->g x σ H' fun σ2 H2=>tb { D with nx:=N,ct:=N,bk:=D.nx } σ2 H2):=by
 refine⟨fun i m σ H=>m=n-i/\i<=n/\Pv i σ H,⟨n,by simp,cu _,h0⟩,?_⟩
 rintro i m σ H ⟨rfl,hi,p⟩
 by_cases hlt:i<n
 ·refine .inr ⟨hlt,Pv (i+1),fun σ' H' p'=>⟨n-(i+1),by omega,rfl,hlt,p'⟩,fun x H' y=>?_⟩
  obtain⟨e,y⟩:=y
  subst e y
  exact hs i σ _ hlt p
 ·have e:i=n:=by omega
  subst e
  exact .inl ⟨aC _,hd σ H p⟩
theorem Ub {c:TT} {tb:TS} {D:Ends} {σ:St} {H:Hp} (Pv:St->Hp->Prop) (μ:St->Hp->Nat) (h0:Pv σ H)
  (hs:∀σ H,Pv σ H->c σ H fun b H1=>if b=true then tb { D with nx:=fun σ' H'=>Pv σ' H'/\μ σ' H' < μ σ H,ct:=fun σ' H'=>Pv σ' H'/\μ σ' H' < μ σ H,bk:=D.nx } σ H1 else D.nx σ H1)
  (mono:∀σ H Q Q',(∀b H1,Q b H1->Q' b H1)->c σ H Q->c σ H Q'):Um c tb D σ H:=by
 refine⟨fun m σ H=>m=μ σ H/\Pv σ H,⟨_,rfl,h0⟩,?_⟩
 rintro m σ H ⟨rfl,p⟩
 refine mono σ H _ _ (fun b H1 q=>?_) (hs σ H p)
 cases b with
 | true=>exact⟨_,fun σ' H' ⟨p',l⟩=>⟨_,l,rfl,p'⟩,q⟩
 | false=>exact q
end L2
namespace L2
open PySem PySem.Spec PyProof.Rows
abbrev R2:=V->V->Hp->VK->Prop
def HN (X:Cx) (f:ai->ai->Sem ai) (r:R2):Prop:=
 ∀(pins:List (af×Obj)) (s:ay) (σ:St) (H:Hp) (x y:V) (v u:ai) (Q:VK),Inv X pins σ H s->RelV x v->RelV y u->r x y H Q ->
  bD (model X.prog X.w) X.A (f v u) (EP X pins σ Q) X.xe s
def qB (X:Cx) (f:ai) (r:List V->Hp->VK->Prop):Prop:=
 ∀(pins:List (af×Obj)) (s:ay) (σ:St) (H:Hp) (xs:List V) (us:List ai) (Q:VK),Inv X pins σ H s->dF xs us->r xs H Q ->
  bD (model X.prog X.w) X.A (call f us) (EP X pins σ Q) X.xe s
def TU (r:R2) (ta tb:TE):TE:=fun σ H Q=>ta σ H fun x H1=>tb σ H1 fun y H2=>r x y H2 Q
inductive ady (g:Int->Int->V) (x y:V) (H:Hp) (Q:VK):Prop
 | mk (i j:Int) (e:x=.int i) (f:y=.int j) (q:Q (g i j) H)
def Xp (g:Int->Int->V):R2:=fun x y H Q=>ady g x y H Q
theorem Kt {g:Int->Int->V} {x y:V} {H:Hp} {Q:VK}:Xp g x y H Q<->∃i j,x=.int i/\y=.int j/\Q (g i j) H:=⟨fun ⟨v,e,q,h,r⟩=>⟨v,e,q,h,r⟩,fun ⟨v,e,q,h,r⟩=>⟨v,e,q,h,r⟩⟩
section
variable {X:Cx} {a b c:Expr} {ta tb tc:TE} {pos:Pos}
theorem Z6 (ha:PE X a ta) (hb:PE X b tb) {pins:List (af×Obj)} {s:ay} {σ:St} {H:Hp} {R:V->V->Hp->Prop} (I:Inv X pins σ H s)
  (h:ta σ H fun x H1=>tb σ H1 fun y H2=>R x y H2) {Q:ai->ay->Prop} {f:ai->ai->Sem ai}
  (hf:∀v u s2 x y H2,Inv X pins σ H2 s2->RelV x v->RelV y u->R x y H2->bD (model X.prog X.w) X.A (f v u) Q X.xe s2) :
  bD (model X.prog X.w) X.A (eval a X.env) (fun v s₁=>bD (model X.prog X.w) X.A (eval b X.env) (fun u s₂=>bD (model X.prog X.w) X.A (f v u) Q X.xe s₂) X.xe s₁) X.xe s:=by
 refine fU (ha pins s σ H _ I h) fun v s1 ⟨x,H1,I1,r1,q1⟩=>?_
 refine fU (hb pins s1 σ H1 _ I1 q1) fun u s2 ⟨y,H2,I2,r2,q2⟩=>?_
 exact hf v u s2 x y H2 I2 r1 r2 q2
theorem jo {op:QP} {r:R2} (ho:HN X (QN op) r) (ha:PE X a ta) (hb:PE X b tb):PE X (.BinOp a op b pos) (TU r ta tb):=by
 intro pins s σ H Q I h
 exact wpAny_BinOp (Z6 ha hb I h fun v u s2 x y H2 I2 rx ry q=>ho pins s2 σ H2 x y v u Q I2 rx ry q)
theorem aa2 {f:ai->ai->Sem ai} {g:Int->Int->Int}
  (rule:∀(i j:Int) (t u:Tok) (s:ay) (Q:ai->ay->Prop) (E:ai->ay->Prop),Q (.int (g i j) s.toks) { s with toks:=s.toks+1 }->bD (model X.prog X.w) X.A (f (.int i t) (.int j u)) Q E s) :
  HN X f (Xp fun i j=>.int (g i j)):=by
 intro pins s σ H x y v u Q I rx ry h
 obtain⟨i,j,rfl,rfl,q⟩:=h
 obtain⟨t,rfl⟩:=rx
 obtain⟨t',rfl⟩:=ry
 exact rule i j t t' s _ _ ⟨.int (g i j),H,I.tok _,⟨_,rfl⟩,q⟩
theorem XA {f:ai->ai->Sem ai} {g:Int->Int->Bool}
  (rule:∀(i j:Int) (t u:Tok) (s:ay) (Q:ai->ay->Prop) (E:ai->ay->Prop),Q (.bool (g i j)) s->bD (model X.prog X.w) X.A (f (.int i t) (.int j u)) Q E s) :
  HN X f (Xp fun i j=>.bl (g i j)):=by
 intro pins s σ H x y v u Q I rx ry h
 obtain⟨i,j,rfl,rfl,q⟩:=h
 obtain⟨t,rfl⟩:=rx
 obtain⟨t',rfl⟩:=ry
 exact rule i j t t' s _ _ ⟨.bl (g i j),H,I,rfl,q⟩
theorem xo:HN X (QN .Add) (Xp fun i j=>.int (i+j)):=aa2 fun _ _ _ _ _ _ _ q=>add_int q
theorem Po:HN X (QN .Sub) (Xp fun i j=>.int (i-j)):=aa2 fun _ _ _ _ _ _ _ q=>sub_int q
end
def SI:V->V->Bool
 | .iE,.iE=>true | .iE,.int _=>true | .int _,.iE=>true | .iE,.bl _=>true | .bl _,.iE=>true | .iE,.str _=>true | .str _,.iE=>true
 | .int _,.int _=>true | .bl _,.bl _=>true | .str _,.str _=>true | .Oi _,.Oi _=>true
 | .int _,.str _=>true | .str _,.int _=>true | .bl _,.str _=>true | .str _,.bl _=>true
 | _,_=>false
def Zo:R2:=fun x y H Q=>SI x y=true/\Q (.bl (decide (x=y))) H
def rNe:R2:=fun x y H Q=>SI x y=true/\Q (.bl (!decide (x=y))) H
theorem RX {i j:Int}:decide (V.int i=V.int j)=(i==j):=by
 rw[bq]
 simp
theorem VY {i j:Bool}:decide (V.bl i=V.bl j)=(i==j):=by
 rw[bq]
 simp
theorem RW {i j:Str}:decide (V.str i=V.str j)=(i==j):=by
 rw[bq]
 simp
theorem RY {i j:Array UInt8}:decide (V.Oi i=V.Oi j)=(i.toList==j.toList):=by
 rw[bq]
 cases i
 cases j
 simp
section
variable {X:Cx} {a b c:Expr} {ta tb tc:TE} {pos:Pos}
theorem fh {pins:List (af×Obj)} {σ:St} {H:Hp} {s:ay} {Q:VK} {k k':Bool} (I:Inv X pins σ H s) (q:Q (.bl k) H) (e:k=k'):EP X pins σ Q (.bool k') s:=by
 subst e
 exact⟨.bl k,H,I,rfl,q⟩
theorem eM:HN X (e_ .Eq) Zo:=by
 intro pins s σ H x y v u Q I rx ry h
 obtain⟨hs,q⟩:=h
 cases x with
 | iE=>
  cases rx
  cases y with
  | iE=>cases ry;exact aci (fh I q (by simp))
  | bl j=>cases ry;exact ack (fh I q (by simp))
  | int j=>obtain⟨t',rfl⟩:=ry;exact acj (fh I q (by simp))
  | str j=>obtain⟨t',rfl⟩:=ry;exact ach (fh I q (by simp))
  | _=>exact absurd (show false=true from hs) bu
 | bl i=>
  cases rx
  cases y with
  | iE=>cases ry;exact acn (fh I q (by simp))
  | bl j=>cases ry;exact eq_bool (fh I q VY)
  | str j=>obtain⟨t',rfl⟩:=ry;exact abR (fh I q (by simp))
  | _=>exact absurd (show false=true from hs) bu
 | int i=>
  obtain⟨t,rfl⟩:=rx
  cases y with
  | iE=>cases ry;exact acm (fh I q (by simp))
  | int j=>obtain⟨t',rfl⟩:=ry;exact eq_int (fh I q RX)
  | str j=>obtain⟨t',rfl⟩:=ry;exact abQ (fh I q (by simp))
  | _=>exact absurd (show false=true from hs) bu
 | str i=>
  obtain⟨t,rfl⟩:=rx
  cases y with
  | iE=>cases ry;exact acg (fh I q (by simp))
  | bl j=>cases ry;exact abP (fh I q (by simp))
  | int j=>obtain⟨t',rfl⟩:=ry;exact abO (fh I q (by simp))
  | str j=>obtain⟨t',rfl⟩:=ry;exact eq_str (fh I q RW)
  | _=>exact absurd (show false=true from hs) bu
 | Oi i=>
  obtain⟨t,rfl⟩:=rx
  cases y with
  | Oi j=>obtain⟨t',rfl⟩:=ry;exact PySem.W.eq_bytes (fh I q RY)
  | _=>exact absurd (show false=true from hs) bu
 | _=>cases y <;> exact absurd (show false=true from hs) bu
theorem Gp:HN X (e_ .NotEq) rNe:=by
 intro pins s σ H x y v u Q I rx ry h
 obtain⟨hs,q⟩:=h
 cases x with
 | iE=>
  cases rx
  cases y with
  | iE=>cases ry;exact aca (fh I q (by simp))
  | bl j=>cases ry;exact acd (fh I q (by simp))
  | int j=>obtain⟨t',rfl⟩:=ry;exact acb (fh I q (by simp))
  | str j=>obtain⟨t',rfl⟩:=ry;exact ab9 (fh I q (by simp))
  | _=>exact absurd (show false=true from hs) bu
 | bl i=>
  cases rx
  cases y with
  | iE=>cases ry;exact acf (fh I q (by simp))
  | bl j=>cases ry;exact ne_bool (fh I q (congrArg not VY))
  | str j=>obtain⟨t',rfl⟩:=ry;exact abN (fh I q (by simp))
  | _=>exact absurd (show false=true from hs) bu
 | int i=>
  obtain⟨t,rfl⟩:=rx
  cases y with
  | iE=>cases ry;exact ace (fh I q (by simp))
  | int j=>obtain⟨t',rfl⟩:=ry;exact ne_int (fh I q (congrArg not RX))
  | str j=>obtain⟨t',rfl⟩:=ry;exact abM (fh I q (by simp))
  | _=>exact absurd (show false=true from hs) bu
 | str i=>
  obtain⟨t,rfl⟩:=rx
  cases y with
  | iE=>cases ry;exact ab8 (fh I q (by simp))
  | bl j=>cases ry;exact abL (fh I q (by simp))
  | int j=>obtain⟨t',rfl⟩:=ry;exact abK (fh I q (by simp))
  | str j=>obtain⟨t',rfl⟩:=ry;exact ne_str (fh I q (congrArg not RW))
  | _=>exact absurd (show false=true from hs) bu
 | Oi i=>
  obtain⟨t,rfl⟩:=rx
  cases y with
  | Oi j=>obtain⟨t',rfl⟩:=ry;exact PySem.W.ne_bytes (fh I q (congrArg not RY))
  | _=>exact absurd (show false=true from hs) bu
 | _=>cases y <;> exact absurd (show false=true from hs) bu
theorem DZ:HN X (e_ .Lt) (Xp fun i j=>.bl (decide (i<j))):=XA fun _ _ _ _ _ _ _ q=>lt_int q
theorem D0:HN X (e_ .LtE) (Xp fun i j=>.bl (decide (i<=j))):=XA fun _ _ _ _ _ _ _ q=>le_int q
theorem Rl:HN X (e_ .Gt) (Xp fun i j=>.bl (decide (j<i))):=XA fun _ _ _ _ _ _ _ q=>gt_int q
theorem aa1:HN X (e_ .GtE) (Xp fun i j=>.bl (decide (j<=i))):=XA fun _ _ _ _ _ _ _ q=>ge_int q
theorem cD (b:Expr) {op:QT} (h:op≠.In:=by decide) (h2:op≠.NotIn:=by decide):behindInMarks op b=false:=by
 have e1:(op==CmpOp.In)=false:=by cases op <;> first | rfl | exact absurd rfl h
 have e2:(op==aaF)=false:=by cases op <;> first | rfl | exact absurd rfl h2
 cases b <;> simp[behindInMarks,e1,e2]
theorem h_ {op:QT} {r:R2} (ho:HN X (e_ op) r) (ha:PE X a ta) (hb:PE X b tb) (hm:behindInMarks op b=false):PE X (.Compare a [op] [b] pos) (TU r ta tb):=by
 intro pins s σ H Q I h
 exact wpAny_Compare1 (Z6 ha hb I h fun v u s2 x y H2 I2 rx ry q=>ho pins s2 σ H2 x y v u Q I2 rx ry q) hm
def FX (t:TE):TT:=fun σ H Q=>t σ H fun x H'=>IBl x H' Q
theorem cg {op:QT} {r:R2} (ho:HN X (e_ op) r) (ha:PE X a ta) (hb:PE X b tb) (hm:behindInMarks op b=false):PT X (.Compare a [op] [b] pos) (FX (TU r ta tb)):=by
 intro pins s σ H Q I h
 refine WH (fU (ha pins s σ H _ I h) fun v s1 ⟨x,H1,I1,r1,q1⟩=>fU (hb pins s1 σ H1 _ I1 q1) fun u s2 ⟨y,H2,I2,r2,q2⟩=>
  fU (ho pins s2 σ H2 x y v u _ I2 r1 r2 q2) fun c s3 ⟨z,H3,I3,r3,k,e,q3⟩=>?_) hm
 subst e
 cases r3
 exact fk ⟨H3,I3,q3⟩
def FY (r r':R2) (ta tb tc:TE):TE:=fun σ H Q=>ta σ H fun x H1=>tb σ H1 fun y H2=>r x y H2 fun z H3=>∃k,z=.bl k /\
 (if k=true then tc σ H3 fun w' H4=>r' y w' H4 Q else Q (.bl false) H3)
theorem Gj {op op':QT} {r r':R2} (ho:HN X (e_ op) r) (ho':HN X (e_ op') r') (ha:PE X a ta) (hb:PE X b tb) (hc:PE X c tc)
  (hm:lastMarks [op,op'] [b,c]=false:=by with_unfolding_all rfl):PE X (.Compare a [op,op'] [b,c] pos) (FY r r' ta tb tc):=by
 intro pins s σ H Q I h
 refine Compare_chain (fU (ha pins s σ H _ I h) fun v s1 ⟨x,H1,I1,r1,q1⟩=>chain_link (fU (hb pins s1 σ H1 _ I1 q1) fun u s2 ⟨y,H2,I2,r2,q2⟩=>
  fU (ho pins s2 σ H2 x y v u _ I2 r1 r2 q2) fun d s3 ⟨z,H3,I3,r3,k,e,q3⟩=>?_)) hm
 subst e
 cases r3
 refine fk ?_
 cases k with
 | false=>exact ite_ff ⟨.bl false,H3,I3,rfl,q3⟩
 | true=>exact ite_tt (chain_last (fU (hc pins s3 σ H3 _ I3 q3) fun w' s4 ⟨z',H4,I4,r4,q4⟩=>ho' pins s4 σ H4 y z' u w' Q I4 r2 r4 q4))
theorem MS {op op':QT} {r r':R2} (ho:HN X (e_ op) r) (ho':HN X (e_ op') r') (ha:PE X a ta) (hb:PE X b tb) (hc:PE X c tc)
  (hm:lastMarks [op,op'] [b,c]=false:=by with_unfolding_all rfl):PT X (.Compare a [op,op'] [b,c] pos) (FX (FY r r' ta tb tc)):=by
 intro pins s σ H Q I h
 refine isTrue_chain (fU (ha pins s σ H _ I h) fun v s1 ⟨x,H1,I1,r1,q1⟩=>test_link (fU (hb pins s1 σ H1 _ I1 q1) fun u s2 ⟨y,H2,I2,r2,q2⟩=>
  fU (ho pins s2 σ H2 x y v u _ I2 r1 r2 q2) fun d s3 ⟨z,H3,I3,r3,k,e,q3⟩=>?_)) hm
 subst e
 cases r3
 refine fk ?_
 cases k with
 | false=>
  obtain⟨k',e',q'⟩:=q3
  cases e'
  exact ite_ff ⟨H3,I3,q'⟩
 | true=>
  refine ite_tt (test_last (fU (hc pins s3 σ H3 _ I3 q3) fun w' s4 ⟨z',H4,I4,r4,q4⟩=>fU (ho' pins s4 σ H4 y z' u w' _ I4 r2 r4 q4) fun d' s5 ⟨z2,H5,I5,r5,k2,e2,q5⟩=>?_))
  subst e2
  cases r5
  exact fk ⟨H5,I5,q5⟩
theorem GU:(ao:Nat)<2 ^ 63:=by rw[bI];decide
theorem Ap:HN X (QN .Add) (fun x y H Q=>∃i j,x=.str i/\y=.str j/\i.length+j.length<=ao/\Q (.str (i++j)) H):=by
 intro pins s σ H x y v u Q I rx ry h
 obtain⟨i,j,rfl,rfl,hz,q⟩:=h
 obtain⟨t,rfl⟩:=rx
 obtain⟨t',rfl⟩:=ry
 exact add_str (fun t' tk=>⟨.str (i++j),H,I.tok _,⟨_,rfl⟩,q⟩) hz
theorem vals1 {x:V} {us:List ai} (r:dF [x] us):∃u,us=[u]/\RelV x u:=by
 cases r with
 | cons r1 r2=>cases r2;exact⟨_,rfl,r1⟩
theorem vals2 {x y:V} {us:List ai} (r:dF [x,y] us):∃u w',us=[u,w']/\RelV x u/\RelV y w':=by
 cases r with
 | cons r1 r2=>
  cases r2 with
  | cons r3 r4=>cases r4;exact⟨_,_,rfl,r1,r3⟩
theorem Tg (hc:X.calm=true):qB X (.builtin "max") (fun xs H Q=>∃i j,xs=[.int i,.int j]/\Q (.int (if j > i then j else i)) H):=by
 intro pins s σ H xs us Q I r h
 obtain⟨i,j,rfl,q⟩:=h
 obtain⟨u,w',rfl,⟨t,rfl⟩,⟨t',rfl⟩⟩:=vals2 r
 refine max_two_ints (I.ok.hd hc) fun h' tk k=>⟨_,H,I.kept k,?_,q⟩
 by_cases hj:j > i
 ·rw[if_pos hj,if_pos hj];exact⟨_,rfl⟩
 ·rw[if_neg hj,if_neg hj];exact⟨_,rfl⟩
theorem V6:qB X (.builtin "ord") (fun xs H Q=>∃x,xs=[.str x]/\x.length=1/\Q (.int (x.cps.getD 0 0:Nat)) H):=by
 intro pins s σ H xs us Q I r h
 obtain⟨x,rfl,hz,q⟩:=h
 obtain⟨u,rfl,t,rfl⟩:=vals1 r
 exact ord_of_one hz ⟨.int _,H,I.tok _,⟨_,rfl⟩,q⟩
end
end L2
namespace L2
open PySem PySem.Spec PyProof.Rows
structure QG (h:cX) (x dx C:af) (mA:Str->Option ai):Prop where
 obj:h.get? x=some (gQ C dx)
 ns:h.Ns1 dx mA
 ne:dx≠x
theorem SR {h:cX} {dx:af} {mA:Str->Option ai} (n:h.Ns1 dx mA):∃od,h.get? dx=some od/\∀name,yy name od=some (mA name):=by
 obtain⟨o,es,ep,ho,hd,hk,_,hm⟩:=n
 refine⟨o,ho,fun name=>?_⟩
 have e:=hm name
 unfold nsFind findBy at e
 rw[<- Array.find?_toList] at e
 unfold yy
 rw[hd]
 dsimp only
 split
 ·rename_i y q
  rw[q] at e
  exact congrArg some e
 ·rename_i q
  rw[q] at e
  have a:es.toList.any (·.refKey)=false:=by
   rw[List.any_eq_false]
   intro y hy
   obtain⟨z,t,hkey⟩:=hk y (Array.mem_toList_iff.mp hy)
   simp[DictEntry.refKey,hkey]
  have a':¬ es.toList.any (·.refKey)=true:=by rw[a];exact bu
  rw[if_neg a']
  exact congrArg some e
theorem QG.look {h:cX} {x dx C:af} {mA:Str->Option ai} (I:QG h x dx C mA):∃od,PySem.W.InstAt h x (gQ C dx) C (some od)/\∀name,yy name od=some (mA name):=
 let ⟨od,ho,hl⟩:=SR I.ns
 ⟨od,⟨I.obj,rfl,rfl,ho⟩,hl⟩
section
variable {prog:bj} {w:bV} {A:cQ} {E:ai->ay->Prop} {s:ay} {K:ae} {x dx C f:af} {mA:Str->Option ai} {name:Str} {v:ai}
theorem get_map {expr:Bool} {Q:ai->ay->Prop} (X:K.In s.heap) (I:QG s.heap x dx C mA) (hg:tu K C name=true) (hh:Cr K C=true)
  (ha:dm K (.ref C) name=some none) (hv:mA name=some v) (hv':TF v=true) (h:Q v { s with toks:=s.toks+1 }) :
  bD (model prog w) A (getAttr (.ref x) name expr) Q E s:=by
 obtain⟨od,J,hl⟩:=I.look
 exact PySem.W.get_value X J (zi hg).1 (PySem.W.findObj_own hh ha rfl (by rw[hl,hv])) hv' h
theorem Vz {pl:Sem Bool} {Q:ai×List ai->ay->Prop} (X:K.In s.heap) (I:QG s.heap x dx C mA) (hg:tu K C name=true)
  (hf:dm K (.ref C) name=some (some (.ref f))) (ht:uW K (.ref f)=true) (hv:mA name=none) (h:Q (.ref f,[.ref x]) s) :
  bD (model prog w) A (LO (.ref x) name pl) Q E s:=by
 obtain⟨od,J,hl⟩:=I.look
 exact PySem.W.method_fn X J (zi hg).1 (zi hg).2 hf (beq_iff_eq.mp ht) (by show (yy name od).map (·.isSome)=some false;rw[hl,hv];rfl) h
theorem Xi {ns:List Str} {Q:Unit->ay->Prop} (X:K.In s.heap) (I:QG s.heap x dx C mA)
  (hs:dm K (.ref C) "__setattr__"=some (some (.builtin "object.__setattr__"))) (hp:R7 K C=true) (ht:Fb K C name=some none) (hh:Cr K C=true)
  (hw:OH mA ns) (hsz:ns.length<=ao)
  (h:∀h',QG h' x dx C (fun y=>if y=name then some v else mA y)->gf dx s.heap h'->Q () { s with heap:=h',toks:=s.toks+2 }) :
  bD (model prog w) A (setAttr (.ref x) name v) Q E s:=by
 obtain⟨od,J,hl⟩:=I.look
 refine PySem.W.set_plain X J hs (PySem.W.osa_open (s:={ s with toks:=s.toks+1 }) (r:=none) X J hp ht fun b=>?_)
 obtain⟨cd,hc,hd'⟩:=PySem.W.any_some hh
 have hx:s.heap.get? x=some ⟨.ref C,some dx,.plain,#[]⟩:=I.obj
 refine ah (aH (ah (ah (wpAny_loadPart hx (ah (abF (s:={ s with toks:=s.toks+1 }) (PySem.W.looks_clsIn X hc) ?_))))))
 rw[hd']
 refine aH (a:=some dx) (ah (aH (ah ?_)))
 refine wpAny_nsSet1 (s:={ s with toks:=s.toks+1 }) I.ns fun h' hn2 hs2=>?_
 obtain⟨oD,esD,epD,hoD,hdD,hcD⟩:=hn2.count (ab7 name v hw)
 refine ah (wpAny_lookBehind hoD (by rw[hdD];exact pastItsLine_dict (dA hcD (by rw[aG];omega))) ?_)
 exact aH (h _ ⟨(hs2.2 _ (bK I.ne)).trans I.obj,hn2,I.ne⟩ hs2)
theorem Vg {R:QO->ay->Prop} {vs:List ai} {kw:List (Str×ai)} (X:K.In s.heap) (hm:Fc K C=true)
  (hi:dm K (.ref C) "__init__"=some (some (.ref f))) (hf:PySem.W.typeIn K (.ref f)=some (.type "function"))
  (h:tf (model prog w) (A.under (.builtin "type.__call__" ⟨.ref C::vs,kw⟩)) (.call (.ref f) ⟨.ref (s.heap.objs.size+1)::vs,kw⟩) (PySem.W.InitBack (s.heap.objs.size+1) R)
   { s with heap:=(s.heap.push fI).push (gQ C s.heap.objs.size) }) :
  tf (model prog w) A (.call (.ref C) ⟨vs,kw⟩) R s:=by
 obtain⟨hh,g,d,t,os⟩:=s
 exact PySem.W.make_core (PySem.W.makes_of X hm) (PySem.W.looks_findIn X hi) (fun self=>PySem.W.bind_fn X self hf) (.inl rfl) h
end
def de (f:Str) (v:V):List (Str×V)->List (Str×V)
 | []=>[(f,v)]
 | (g,x)::r=>if g=f then (g,v)::r else (g,x)::de f v r
theorem D_ (f g:Str) (v:V):∀fs:List (Str×V),(de f v fs).lookup g=if g=f then some v else fs.lookup g
 | []=>by
  show mK g [(f,v)]=_
  by_cases h:g=f
  ·have hb:(g==f)=true:=beq_iff_eq.mpr h
   simp only[mK,hb,if_pos h]
  ·have hb:(g==f)=false:=beq_eq_false_iff_ne.mpr h
   simp only[mK,hb,if_neg h]
 | (k,x)::r=>by
  have ih:=D_ f g v r
  rw[show de f v ((k,x)::r)=(if k=f then (k,v)::r else (k,x)::de f v r) from rfl]
  by_cases hk:k=f
  ·rw[if_pos hk]
   by_cases h:g=k
   ·have hb:(g==k)=true:=beq_iff_eq.mpr h
    simp only[mK,hb,if_pos (h.trans hk)]
   ·have hb:(g==k)=false:=beq_eq_false_iff_ne.mpr h
    simp only[mK,hb,if_neg (fun e:g=f=>h (e.trans hk.symm))]
  ·rw[if_neg hk]
   by_cases h:g=k
   ·have hb:(g==k)=true:=beq_iff_eq.mpr h
    simp only[mK,hb,if_neg (fun e:g=f=>hk (h.symm.trans e))]
   ·have hb:(g==k)=false:=beq_eq_false_iff_ne.mpr h
    simp only[mK,hb]
    exact ih
theorem C5 (f:Str) (v:V):∀fs:List (Str×V),f∈(de f v fs).map (·.1)/\∀g,g∈fs.map (·.1)->g∈(de f v fs).map (·.1)
 | []=>⟨by simp[de],fun g h=>by simp at h⟩
 | (k,x)::r=>by
  obtain⟨i1,i2⟩:=C5 f v r
  rw[show de f v ((k,x)::r)=(if k=f then (k,v)::r else (k,x)::de f v r) from rfl]
  by_cases hk:k=f
  ·rw[if_pos hk]
   subst hk
   exact⟨by simp,fun g h=>by simpa using h⟩
  ·rw[if_neg hk]
   refine⟨?_,fun g h=>?_⟩
   ·rw[a7]
    exact aE _ i1
   ·rw[a7] at h ⊢
    rcases aF.mp h with e | e
    ·exact aF.mpr (.inl e)
    ·exact aE _ (i2 g e)
theorem Eb (f:Str) (v:V):∀fs:List (Str×V),(de f v fs).length<=fs.length+1
 | []=>by simp[de]
 | (k,x)::r=>by
  have ih:=Eb f v r
  rw[show de f v ((k,x)::r)=(if k=f then (k,v)::r else (k,x)::de f v r) from rfl]
  by_cases hk:k=f
  ·rw[if_pos hk,aG,aG];omega
  ·rw[if_neg hk,aG,aG];omega
theorem oj.some_of {v:V} {o:Option ai} (r:oj (some v) o):∃u,o=some u/\RelV v u:=by
 cases o with
 | none=>exact (show False from r).elim
 | some u=>exact⟨u,rfl,r⟩
theorem oj.none_of {o:Option ai} (r:oj none o):o=none:=by
 cases o with
 | none=>rfl
 | some u=>exact (show False from r).elim
theorem S2 {v:V} {u:ai} (r:RelV v u):TF u=true:=by
 cases v with
 | iE=>cases (show u=i9 from r);rfl
 | bl b=>cases (show u=j7 b from r);rfl
 | int i=>obtain⟨t,e⟩:=(show ∃t,u=l6 i t from r);cases e;rfl
 | str x=>obtain⟨t,e⟩:=(show ∃t,u=dJ x t from r);cases e;rfl
 | Oi b=>obtain⟨t,e⟩:=(show ∃t,u=aay b t from r);cases e;rfl
 | flt b=>obtain⟨t,e⟩:=(show ∃t,u=aax b t from r);cases e;rfl
 | ref a=>cases (show u=bE a from r);rfl
 | ty n=>cases (show u=j3 n from r);rfl
section
variable {P:bj} {w:bV} {H H':Hp} {h h':cX} {a C dx:af} {fs fs':List (Str×V)}
theorem K9 (fw:yw P w H h) (e:H a=some (.ins C dx fs)):∃mA,QG h a dx C mA/\(∀f,oj (fs.lookup f) (mA f))/\OH mA (fs.map (·.1))/\fs.length<=1000/\H dx=some (.own a):=by
 obtain⟨d,z,ne,ob,mA,n,r,q⟩:=(show gG P w H h a (.ins C dx fs) from fw a _ e)
 exact⟨mA,⟨ob,n,ne⟩,r,q,z,d⟩
end
structure HP (K:ae) (C:af):Prop where
 pg:tu K C Yq=true
 hd:Cr K C=true
 po:R7 K C=true
 sa:dm K (.ref C) "__setattr__"=some (some (.builtin "object.__setattr__"))
theorem HP.get {K:ae} {C:af} (c:HP K C) (f:Str):tu K C f=true:=c.pg
def cW (K:ae) (C:af) (f:Str):Prop:=dm K (.ref C) f=some none
theorem cW.aaI {K:ae} {C:af} {f:Str} (n:cW K C f):Fb K C f=some none:=by
 unfold Fb
 rw[show dm K (.ref C) f=some none from n]
 rfl
structure uT (K:ae) (C:af) (m:Str) (f:af):Prop where
 at_:dm K (.ref C) m=some (some (.ref f))
 fn:uW K (.ref f)=true
 kp:fH K (.ref f)=true
section
variable {X:Cx} {pins:List (af×Obj)} {σ:St} {H:Hp} {s:ay} {a C dx:af} {fs:List (Str×V)} {f:Str} {v:V} {A:cQ} {E:ai->ay->Prop}
theorem G8 {b:Bool} {Q:ai->ay->Prop} (I:Inv X pins σ H s) (e:H a=some (.ins C dx fs)) (c:HP X.K C) (n:cW X.K C f) (l:fs.lookup f=some v)
  (h:∀u s',Inv X pins σ H s'->RelV v u->Q u s'):bD (model X.prog X.w) A (getAttr (.ref a) f b) Q E s:=by
 obtain⟨mA,O,r,_,_,_⟩:=K9 I.fw e
 obtain⟨u,hu,ru⟩:=oj.some_of (v:=v) (o:=mA f) (by rw[<- l];exact r f)
 exact get_map I.K5 O (c.get f) c.hd n hu (S2 ru) (h u _ (I.tok _) ru)
theorem Az {m:Str} {g:af} {pl:Sem Bool} {Q:ai×List ai->ay->Prop} (I:Inv X pins σ H s) (e:H a=some (.ins C dx fs)) (c:HP X.K C) (k:uT X.K C m g) (l:fs.lookup m=none)
  (h:Q (.ref g,[.ref a]) s):bD (model X.prog X.w) A (LO (.ref a) m pl) Q E s:=by
 obtain⟨mA,O,r,_,_,_⟩:=K9 I.fw e
 have hn:mA m=none:=oj.none_of (by rw[<- l];exact r m)
 exact Vz I.K5 O (c.get m) k.at_ k.fn hn h
theorem F6 {y:V} {u:ai} {Q:Unit->ay->Prop} (I:Inv X pins σ H s) (e:H a=some (.ins C dx fs)) (c:HP X.K C) (n:cW X.K C f) (hl:fs.length<1000) (ry:RelV y u)
  (h:∀s',Inv X pins σ (upd H a (.ins C dx (de f y fs))) s'->Q () s'):bD (model X.prog X.w) A (setAttr (.ref a) f u) Q E s:=by
 obtain⟨mA,O,r,wi,_,ho⟩:=K9 I.fw e
 have hz:(fs.map (·.1)).length<=ao:=by rw[aa,bI];omega
 refine Xi I.K5 O c.sa c.po n.aaI c.hd wi hz fun h' O' sb=>h _ ?_
 have hd:∃o,h'.get? dx=some o:=let ⟨o,_,_,e',_⟩:=O'.ns;⟨o,e'⟩
 refine I.write (x:=a) (e:=dx) (by rw[e];exact ij) (.inr ho) (fun b q hb z=>(sb.2 b hb).trans z) hd ?_
 refine⟨by rw[aQ O.ne];exact ho,?_,O.ne,O'.obj,_,O'.ns,fun g=>?_,fun g hg=>?_⟩
 ·have:=Eb f y fs;omega
 ·show oj ((de f y fs).lookup g) (if g=f then some u else mA g)
  rw[D_]
  by_cases q:g=f
  ·rw[if_pos q,if_pos q];exact ry
  ·rw[if_neg q,if_neg q];exact r g
 ·by_cases q:g=f
  ·rw[q];exact (C5 f y fs).1
  ·refine (C5 f y fs).2 g (wi g fun z=>hg ?_)
   show (if g=f then some u else mA g)=none
   rw[if_neg q];exact z
theorem Inv.made (I:Inv X pins σ H s):Inv X pins σ (upd (upd H s.heap.objs.size (.own (s.heap.objs.size+1))) (s.heap.objs.size+1) (.ins C s.heap.objs.size []))
  { s with heap:=(s.heap.push fI).push (gQ C s.heap.objs.size) }:=by
 have e1:(s.heap.push fI).get? s.heap.objs.size=some fI:=bp s.heap rfl
 have e2:((s.heap.push fI).push (gQ C s.heap.objs.size)).get? (s.heap.objs.size+1)=some (gQ C s.heap.objs.size):=by
  have:=bp (s.heap.push fI) (o:=gQ C s.heap.objs.size) rfl
  rwa [cR] at this
 have e3:(s.heap.push fI).Ns s.heap.objs.size (fun _=>none):=⟨fI,#[],_,e1,rfl,(fun e he=>absurd he (by simp)),fun _=>rfl⟩
 have I1:=I.laid (a:=s.heap.objs.size) (o:=.own (s.heap.objs.size+1)) (h':=s.heap.push fI) (t':=s.toks) (fun b u q=>aD _ q) (aC _) ⟨_,e1⟩
 refine I1.laid (a:=s.heap.objs.size+1) (o:=.ins C s.heap.objs.size []) (t':=s.toks) (fun b u q=>aD _ q) (Fg (cR _ _)) ?_
 have ne:s.heap.objs.size≠s.heap.objs.size+1:=cv (oZ _)
 refine⟨by rw[aQ ne,aw],cu _,ne,e2,fun _=>none,(Heap.Ns1.of_empty e3).at fun o q=>aD _ q,fun _=>ij,fun y hy=>absurd rfl hy⟩
theorem Yd {prog:bj} {w:bV} {env:Env} {e:Expr} {f:Str} {pos:Pos} {s:ay} {Q:ai->ay->Prop} (hb:iU e f env (eval e env)=eval e env)
  (h:bD (model prog w) A (eval e env) (fun o s₁=>bD (model prog w) A (getAttr o f true) Q E s₁) E s):bD (model prog w) A (eval (.Attribute e f pos) env) Q E s:=
 Attribute_any_ h (by rw[arm_eval_Attribute,hb])
end
inductive adz (K:ae) (f:Str) (x:V) (H1:Hp) (Q:VK):Prop
 | mk (a C dx:af) (fs:List (Str×V)) (v:V) (e:x=.ref a) (h:H1 a=some (.ins C dx fs)) (c:HP K C) (n:cW K C f) (l:fs.lookup f=some v) (q:Q v H1)
def Mg (K:ae) (ta:TE) (f:Str):TE:=fun σ H Q=>ta σ H fun x H1=>adz K f x H1 Q
inductive adx (K:ae) (f:Str) (x y:V) (H2:Hp) (Q:Hp->Prop):Prop
 | mk (a C dx:af) (fs:List (Str×V)) (e:x=.ref a) (h:H2 a=some (.ins C dx fs)) (c:HP K C) (n:cW K C f) (l:fs.length<1000) (q:Q (upd H2 a (.ins C dx (de f y fs))))
def acR (K:ae) (ta tv:TE) (f:Str):TS:=fun D σ H=>tv σ H fun y H1=>ta σ H1 fun x H2=>adx K f x y H2 (D.nx σ)
def abp (X:Cx) (op:QP) (rd:V->V->Hp->VK->Prop):Prop:=
 ∀(pins:List (af×Obj)) (s:ay) (σ:St) (H:Hp) (x y:V) (u v:ai) (Q:VK),Inv X pins σ H s->RelV x u->RelV y v->rd x y H Q->bD (model X.prog X.w) X.A (abB op u v) (EP X pins σ Q) X.xe s
def Xk (K:ae) (ta tv:TE) (rd:V->V->Hp->VK->Prop) (f:Str):TS:=fun D σ H=>ta σ H fun x H1=>∃a C dx fs v,x=.ref a/\H1 a=some (.ins C dx fs)/\HP K C/\cW K C f/\fs.lookup f=some v /\
 tv σ H1 fun y H2=>rd v y H2 fun z H3=>∃dx' fs',H3 a=some (.ins C dx' fs')/\fs'.length<1000/\D.nx σ (upd H3 a (.ins C dx' (de f z fs')))
section
variable {X:Cx} {o e value:Expr} {f:Str} {pos pos' tpos:Pos} {ta tv:TE}
theorem aJ (he:PE X e ta) (hb:iU e f X.env (eval e X.env)=eval e X.env):PE X (.Attribute e f pos) (Mg X.K ta f):=by
 intro pins s σ H Q I h
 refine Yd hb (fU (he pins s σ H _ I h) fun u s1 ⟨x,H1,I1,rx,a,C,dx,fs,v,ex,ea,c,n,l,q⟩=>?_)
 subst ex
 obtain rfl:u=bE a:=rx
 exact G8 I1 ea c n l fun u' s2 I2 ru=>⟨v,H1,I2,ru,q⟩
theorem fO (ha:PE X o ta) (hv:PE X value tv) (hs:zg value (some (.Attribute o f pos')) pos.line X.env=pure false):PS X (.Assign [.Attribute o f pos'] value pos) (acR X.K ta tv f):=by
 intro pins s σ H D I h
 refine plainObj_wpAny_Assign_Attribute (fU (hv pins s σ H _ I h) fun u s1 ⟨y,H1,I1,ry,q⟩=>fU (ha pins s1 σ H1 _ I1 q) fun ov s2 ⟨x,H2,I2,rx,a,C,dx,fs,ex,ea,c,n,l,q2⟩=>?_) hs
 subst ex
 obtain rfl:ov=bE a:=rx
 exact F6 I2 ea c n l ry fun s3 I3=>⟨σ,_,I3,q2⟩
theorem Jx {op:QP} {rd:V->V->Hp->VK->Prop} (ha:PE X o ta) (hv:PE X value tv) (hop:abp X op rd):PS X (.AugAssign (.Attribute o f tpos) op value pos) (Xk X.K ta tv rd f):=by
 intro pins s σ H D I h
 refine wpAny_AugAssign_AttributeAny (fU (ha pins s σ H _ I h) fun ov s1 ⟨x,H1,I1,rx,a,C,dx,fs,v,ex,ea,c,n,l,q⟩=>?_)
 subst ex
 obtain rfl:ov=bE a:=rx
 refine G8 I1 ea c n l fun u s2 I2 ru=>fU (hv pins s2 σ H1 _ I2 q) fun w3 s3 ⟨y,H2,I3,ry,q3⟩=>fU (hop pins s3 σ H2 v y u w3 _ I3 ru ry q3) fun w4 s4 ⟨z,H3,I4,rz,dx',fs',ea',l',q4⟩=>?_
 exact F6 I4 ea' c n l' rz fun s5 I5=>⟨σ,_,I5,q4⟩
def ac1:V->V->Hp->VK->Prop:=fun x y H Q=>∃i j,x=.int i/\y=.int j/\Q (.int (i+j)) H
theorem Vv:abp X .Add ac1:=by
 rintro pins s σ H x y u v Q I rx ry ⟨i,j,rfl,rfl,q⟩
 obtain⟨t,rfl⟩:=(show ∃t,u=l6 i t from rx)
 obtain⟨t',rfl⟩:=(show ∃t',v=l6 j t' from ry)
 exact acC ⟨.int (i+j),H,I.tok _,⟨_,rfl⟩,q⟩
theorem YE {pl:Sem Bool} {m:Str} {apos:Pos} {args:List Expr} {pins:List (af×Obj)} {s:ay} {σ:St} {H:Hp} {Q:ai->ay->Prop} {te:TE} (he:PE X e te) (I:Inv X pins σ H s)
  (h:te σ H fun x H1=>∃a C dx fs g,x=.ref a/\H1 a=some (.ins C dx fs)/\HP X.K C/\uT X.K C m g/\fs.lookup m=none /\
   ∀s1,Inv X pins σ H1 s1->bD (model X.prog X.w) X.A (Yp pos (.ref g) [.ref a] (kC pos (cM args X.env)) (DJ pos (qH [] X.env))) Q X.xe s1)
  (ht:eval (.Call (.Attribute e m apos) args [] pos) X.env=(do
   let ov <- eval e X.env
   Wq apos.atName
   let (f,first) <- holding [ov] (LO ov m pl)
   Yp pos f first (kC pos (cM args X.env)) (DJ pos (qH [] X.env)))) :
  bD (model X.prog X.w) X.A (eval (.Call (.Attribute e m apos) args [] pos) X.env) Q X.xe s:=by
 refine vN (pl:=pl) (fU (he pins s σ H _ I h) fun u s1 ⟨x,H1,I1,rx,a,C,dx,fs,g,ex,ea,c,k,l,q⟩=>?_) ht
 subst ex
 obtain rfl:u=bE a:=rx
 exact Az I1 ea c k l (q s1 I1)
end
section
variable {X:Cx} {pins:List (af×Obj)} {σ:St} {H:Hp} {s:ay} {A:cQ} {E:ai->ay->Prop} {Q:ai->ay->Prop} {c:ai} {b:Bool}
end
end L2
namespace L2
open PySem PySem.Spec PyProof.Rows
structure lX (k:Nat) (A:cQ):Prop where
 hd:A.handled=none
 dp:A.depth+3*k+5<recursionLimit
 un:A.units+16*k+200<pE
theorem lX.mono {j k:Nat} {A:cQ} (r:lX k A) (h:j<=k):lX j A:=⟨r.hd,by have:=r.dp;omega,by have:=r.un;omega⟩
theorem lX.deeper {k:Nat} {A:cQ} (r:lX (k+1) A) (env:Env):lX k (A.deeper env):=
 ⟨r.hd,by have:=r.dp;show A.depth+1+3*k+5<_;omega,by have:=r.un;show A.units+3+16*k+200<_;omega⟩
theorem PJ {A:cQ} {C:af} {us:List ai} {kw:List (Str×ai)}:(A.under (.builtin "type.__call__" ⟨.ref C::us,kw⟩)).depth=A.depth+1:=by
 first | rfl | simp[L7,Code.weight,Code.isCreation,Code.isGuard,Code.isCaller,abX,OU,guardIds]
theorem PH {A:cQ} {C:af} {us:List ai} {kw:List (Str×ai)}:(A.under (.builtin "type.__call__" ⟨.ref C::us,kw⟩)).units=A.units+1:=by
 first | rfl | simp[L7,Code.cUnits,abX,OU]
theorem lX.make {k:Nat} {A:cQ} (r:lX (k+1) A) (C:af) (us:List ai) (kw:List (Str×ai)):lX k (A.under (.builtin "type.__call__" ⟨.ref C::us,kw⟩)):=
 ⟨r.hd,by have:=r.dp;rw[PJ];omega,by have:=r.un;rw[PH];omega⟩
theorem lX.depth {k:Nat} {A:cQ} (r:lX k A):A.depth<recursionLimit:=by have:=r.dp;omega
theorem lX.units {k:Nat} {A:cQ} (r:lX k A):A.units+64<pE:=by have:=r.un;omega
theorem lX.YX {k:Nat} {A:cQ} (r:lX k A):A.units<pE:=by have:=r.un;omega
def O5:TA:=fun _ H Q=>Q [] H
def Ji (ta:TE) (tr:TA):TA:=fun σ H Q=>ta σ H fun x H1=>tr σ H1 fun xs H2=>Q (x::xs) H2
section
variable {X:Cx} {e:Expr} {es:List Expr} {te:TE} {t:TA} {pos:Pos}
theorem aq:PA X [] O5:=fun _ _ _ _ H Q I h=>jx ⟨[],H,I,.nil,h⟩
theorem ab (ha:PE X e te) (hr:PA X es t) (hs:cM (e::es) X.env=(false,eval e X.env)::cM es X.env:=by rfl):PA X (e::es) (Ji te t):=by
 intro pos pins s σ H Q I h
 rw[hs]
 show bD _ _ (spliced ((false,eval e X.env)::kC pos (cM es X.env))) _ _ s
 refine fu (fU (ha pins s σ H _ I h) fun u s1 ⟨x,H1,I1,r1,q1⟩=>?_)
 exact fU (hr pos pins s1 σ H1 _ I1 q1) fun us s2 ⟨xs,H2,I2,r2,q2⟩=>⟨x::xs,H2,I2,.cons r1 r2,q2⟩
def WT (t:TA):TE:=fun σ H Q=>t σ H fun xs H1=>xs.length<=ao/\∀p,H1 p=none->Q (.ref p) (upd H1 p (.tup xs))
def WY (t:TA):TE:=fun σ H Q=>t σ H fun xs H1=>xs.length<=ao/\∀p,H1 p=none->Q (.ref p) (upd H1 p (.lst xs))
theorem ki {x1} (h:PA X es t):PE X (.Tuple es x1 pos) (WT t):=by
 intro pins s σ H Q I hq
 refine wpAny_Tuple_spliced (fU (h pos pins s σ H _ I hq) fun us s1 ⟨xs,H1,I1,r,z,q⟩=>⟨by rw[<- r.length];exact z,?_⟩)
 have hf:H1 s1.heap.objs.size=none:=I1.fw.fresh (aC _)
 refine⟨.ref s1.heap.objs.size,upd H1 s1.heap.objs.size (.tup xs),I1.laid (t':=s1.toks) (fun b u e=>aD _ e) (aC _) ?_,rfl,q _ hf⟩
 exact⟨z,us,r,⟨_,bp _ rfl,rfl,_,rfl⟩⟩
theorem c9 (h:PA X es t):PE X (.List es pos) (WY t):=by
 intro pins s σ H Q I hq
 refine wpAny_List_spliced (fU (h pos pins s σ H _ I hq) fun us s1 ⟨xs,H1,I1,r,z,q⟩=>⟨by rw[<- r.length];exact z,?_⟩)
 have hf:H1 s1.heap.objs.size=none:=I1.fw.fresh (aC _)
 refine⟨.ref s1.heap.objs.size,upd H1 s1.heap.objs.size (.lst xs),I1.laid (t':=s1.toks) (fun b u e=>aD _ e) (aC _) ?_,rfl,q _ hf⟩
 exact⟨z,us,0,r,bp _ rfl⟩
end
abbrev Sp:=List V->Hp->VK->XK->Prop
abbrev R4:=List Env->Hp->ay->XK->ai->ay->Prop
structure QI (P:bj) (w:bV) (K:ae) (mg:Str->Option ai) (base:cX) (A:cQ) (outer:List Env) (s:ay) (H:Hp):Prop where
 frames:A.frames=some outer
 mod:Mod K mg base
 bs:∀b o,base.get? b=some o->s.heap.get? b=some o/\H b=none
 WE:base.objs.size<=s.heap.objs.size
 E3:s.heap.FunFrames base outer
 ZT:∀b∈VI outer,H b=none
 fw:yw P w H s.heap
 bare:Ja s.gens
def CE (outer:List Env) (P:bj) (w:bV) (H:Hp) (s:ay) (Q:VK) (u:ai) (s':ay):Prop:=
 ∃v H',s'.os=s.os/\Ja s'.gens/\Un (VI outer) [] H H' s.heap s'.heap/\yw P w H' s'.heap/\RelV v u/\Q v H'
def CR (CX:R4) (outer:List Env) (P:bj) (w:bV) (H:Hp) (s:ay) (Q:VK) (E:XK) (r:QO) (s':ay):Prop:=
 match r with
 | .ok (.ret u)=>CE outer P w H s Q u s'
 | .ok _=>False
 | .error e=>CX outer H s E e s'
structure dy (P:bj) (w:bV) (K:ae) (mg:Str->Option ai) (base:cX) (CX:R4) (k:Nat) (f:af) (fd:aZ) (ps:List Str) (sp:Sp):Prop where
 len:∀vs H Q E,sp vs H Q E->vs.length=ps.length
 run:∀(A:cQ) (outer:List Env) (s:ay) (H:Hp) (args:Args) (us:List ai) (vs:List V) (Q:VK) (E:XK),lX k A->QI P w K mg base A outer s H->OV s fd args (ps.zip us)->dF vs us->sp vs H Q E ->
  tf (model P w) A (.call (.ref f) args) (CR CX outer P w H s Q E) s
theorem QI.make {P:bj} {w:bV} {K:ae} {mg:Str->Option ai} {base:cX} {A:cQ} {outer:List Env} {s:ay} {H:Hp} (e:QI P w K mg base A outer s H) (C:af) (us:List ai) (kw:List (Str×ai)) :
  QI P w K mg base (A.under (.builtin "type.__call__" ⟨.ref C::us,kw⟩)) outer s H:=⟨by first | exact e.frames | (simpa [L7,Code.envs,OU,pushEnvs] using e.frames),e.mod,e.bs,e.WE,e.E3,e.ZT,e.fw,e.bare⟩
section
variable {X:Cx} {pins:List (af×Obj)} {σ:St} {H:Hp} {s s':ay}
theorem Inv.abi (I:Inv X pins σ H s):QI X.prog X.w X.K X.mg X.base X.A X.stack s H:=
 ⟨I.ok.frames,I.ok.mod,I.bs,dA I.ok.WE I.sz,I.stack,I.Q5,I.fw,I.bare⟩
theorem Inv.after {Q:VK} {u:ai} (I:Inv X pins σ H s) (h:CE X.stack X.prog X.w H s Q u s'):EP X pins σ Q u s':=by
 obtain⟨v,H',os,bare,un,fw,r,q⟩:=h
 obtain⟨hh,g,d,t,os'⟩:=s'
 obtain rfl:os'=s.os:=os
 exact⟨v,H',I.call (h':=hh) (g':=g) (d':=d) (t':=t) (ch:=[]) un fw bare (fun b z=>absurd z (by simp)),r,q⟩
end
def Mh (sp:Sp) (dvs:List V) (E:XK) (t:TA):TE:=fun σ H Q=>t σ H fun vs H1=>sp (vs++dvs) H1 Q E
inductive abr (C:af) (m:Str) (x:V) (H1:Hp) (q:Prop):Prop
 | mk (a dx:af) (fs:List (Str×V)) (e:x=.ref a) (h:H1 a=some (.ins C dx fs)) (l:fs.lookup m=none) (z:q)
def Yx (C:af) (m:Str) (sp:Sp) (dvs:List V) (E:XK) (ta:TE) (t:TA):TE:=fun σ H Q=>ta σ H fun x H1=>abr C m x H1 (t σ H1 fun vs H2=>sp (x::(vs++dvs)) H2 Q E)
def Yy (C:af) (sp:Sp) (dvs:List V) (E:XK) (t:TA):TE:=fun σ H Q=>t σ H fun vs H1=>∀x dx,H1 x=none->H1 dx=none->dx≠x ->
 sp (.ref x::(vs++dvs)) (upd (upd H1 dx (.own x)) x (.ins C dx [])) (fun v H2=>v=.iE/\Q (.ref x) H2) E
def Binds (K:ae) (fd:aZ) (ps:List Str) (ds:List ai):Prop:=
 ∀(s:ay) (us:List ai),K.In s.heap->(us++ds).length=ps.length->OV s fd ⟨us,[]⟩ (ps.zip (us++ds))
theorem Binds.all {K:ae} {fd:aZ} {ps:List Str} (h:∀us:List ai,us.length=ps.length->DI fd ⟨us,[]⟩=pure (ps.zip us)):Binds K fd ps []:=fun s us _ hl=>by
 rw[dw] at hl ⊢
 exact .of_eq (h us hl)
def yr (CX:R4) (X:Cx) (E:XK):Prop:=∀(pins:List (af×Obj)) (σ:St) (H:Hp) (s:ay) (e:ai) (s':ay),Inv X pins σ H s->CX X.stack H s E e s'->X.xe e s'
section
variable {X:Cx} {CX:R4} {k:Nat} {f C:af} {fd:aZ} {ps:List Str} {sp:Sp} {dvs:List V} {ds:List ai} {E:XK} {x m:Str} {p pos apos:Pos} {e o:Expr} {es:List Expr} {ta:TE} {t:TA}
theorem Kq {pins:List (af×Obj)} {σ:St} {H:Hp} {s:ay} {Q:VK} {us:List ai} {vs:List V} (F:dy X.prog X.w X.K X.mg X.base CX k f fd ps sp) (hr:lX k X.A) (hb:Binds X.K fd ps ds) (hd:dF dvs ds) (hx:yr CX X E)
  (I:Inv X pins σ H s) (r:dF vs us) (h:sp (vs++dvs) H Q E):bD (model X.prog X.w) X.A (call (.ref f) us) (EP X pins σ Q) X.xe s:=by
 have r2:dF (vs++dvs) (us++ds):=r.append hd
 have hl:(us++ds).length=ps.length:=by rw[<- r2.length];exact F.len _ _ _ _ h
 refine QL (lY (F.run X.A X.stack s H ⟨us,[]⟩ (us++ds) (vs++dvs) Q E hr I.abi (hb s us I.K5 hl) r2 h) fun r s' hq=>?_)
 cases r with
 | error e=>exact hx pins σ H s e s' I hq
 | ok fl=>
  cases fl with
  | ret u=>exact I.after hq
  | next=>exact fo hq
  | brk=>exact fo hq
  | cont=>exact fo hq
theorem bP (F:dy X.prog X.w X.K X.mg X.base CX k f fd ps sp) (hr:lX k X.A) (hg:Gl X x) (hm:X.mg x=some (.ref f)) (hk:fH X.K (.ref f)=true) (hb:Binds X.K fd ps ds) (hd:dF dvs ds) (hx:yr CX X E)
  (ha:PA X (e::es) t) (hdb:(x==("__debug__":Str))=false:=by decide) (he:cM (e::es) X.env=(false,eval e X.env)::cM es X.env:=by rfl) (hpl:(kC pos (cM es X.env)).any (·.1)=false:=by rfl) :
  PE X (.Call (.Name x p) (e::es) [] pos) (Mh sp dvs E t):=by
 intro pins s σ H Q I h
 refine gY (Fw I hg hm ?_ hdb)
 refine qD (h₀:=X.base) I.ok.mod.YG hk (fU (ha pos pins s σ H _ I h) fun us s1 ⟨vs,H1,I1,r,q⟩=>⟨I1.K5,?_⟩) he hpl
 exact Kq F hr hb hd hx I1 r q
theorem dY {pl:Sem Bool} (he:PE X o ta) (c:HP X.K C) (hm:uT X.K C m f) (F:dy X.prog X.w X.K X.mg X.base CX k f fd ps sp) (hr:lX k X.A) (hb:Binds X.K fd ps ds) (hd:dF dvs ds) (hx:yr CX X E) (ha:PA X (e::es) t)
  (hst:cM (e::es) X.env=(false,eval e X.env)::cM es X.env:=by rfl) (hpl:(kC pos (cM es X.env)).any (·.1)=false:=by rfl)
  (ht:eval (.Call (.Attribute o m apos) (e::es) [] pos) X.env=(do
   let ov <- eval o X.env
   Wq apos.atName
   let (f,first) <- holding [ov] (LO ov m pl)
   Yp pos f first (kC pos (cM (e::es) X.env)) (DJ pos (qH [] X.env))):=by rfl) :
  PE X (.Call (.Attribute o m apos) (e::es) [] pos) (Yx C m sp dvs E ta t):=by
 intro pins s σ H Q I h
 refine vN (pl:=pl) (fU (he pins s σ H _ I h) fun u s1 ⟨x,H1,I1,rx,a,dx,fs,ex,ea,l,q⟩=>?_) ht
 subst ex
 obtain rfl:u=bE a:=rx
 refine Az I1 ea c hm l ?_
 refine qD (first:=[.ref a]) (h₀:=X.base) I.ok.mod.YG hm.kp (fU (ha pos pins s1 σ H1 _ I1 q) fun us s2 ⟨vs,H2,I2,r,q2⟩=>⟨I2.K5,?_⟩) hst hpl
 exact Kq (us:=.ref a::us) (vs:=.ref a::vs) F hr hb hd hx I2 (.cons rfl r) q2
theorem Gh {pl:Sem Bool} (he:PE X o ta) (c:HP X.K C) (hm:uT X.K C m f) (F:dy X.prog X.w X.K X.mg X.base CX k f fd ps sp) (hr:lX k X.A) (hb:Binds X.K fd ps ds) (hd:dF dvs ds) (hx:yr CX X E)
  (ht:eval (.Call (.Attribute o m apos) [] [] pos) X.env=(do
   let ov <- eval o X.env
   Wq apos.atName
   let (f,first) <- holding [ov] (LO ov m pl)
   Yp pos f first (kC pos (cM [] X.env)) (DJ pos (qH [] X.env))):=by rfl) :
  PE X (.Call (.Attribute o m apos) [] [] pos) (Yx C m sp dvs E ta O5):=by
 intro pins s σ H Q I h
 refine vN (pl:=pl) (fU (he pins s σ H _ I h) fun u s1 ⟨x,H1,I1,rx,a,dx,fs,ex,ea,l,q⟩=>?_) ht
 subst ex
 obtain rfl:u=bE a:=rx
 refine Az I1 ea c hm l ?_
 exact OP (first:=[.ref a]) I1.K5 hm.kp (Kq (us:=[.ref a]) (vs:=[.ref a]) F hr hb hd hx I1 (.cons rfl .nil) q)
structure Mk (K:ae) (C f:af):Prop where
 makes:Fc K C=true
 init:dm K (.ref C) "__init__"=some (some (.ref f))
 fn:uW K (.ref f)=true
 kp:fH K (.ref C)=true
theorem ML {pins:List (af×Obj)} {σ:St} {H:Hp} {s:ay} {Q:VK} {us:List ai} {vs:List V} (M:Mk X.K C f) (F:dy X.prog X.w X.K X.mg X.base CX k f fd ps sp) (hr:lX (k+1) X.A) (hb:Binds X.K fd ps ds) (hd:dF dvs ds)
  (hx:yr CX X E) (I:Inv X pins σ H s) (r:dF vs us)
  (h:∀x dx,H x=none->H dx=none->dx≠x->sp (.ref x::(vs++dvs)) (upd (upd H dx (.own x)) x (.ins C dx [])) (fun v H2=>v=.iE/\Q (.ref x) H2) E) :
  bD (model X.prog X.w) X.A (call (.ref C) us) (EP X pins σ Q) X.xe s:=by
 have hq:=h (s.heap.objs.size+1) s.heap.objs.size (I.fw.fresh (tH _)) (I.fw.fresh (aC _)) (cv (oZ _))
 have I2:=Inv.made (C:=C) I
 have r2:dF (V.ref (s.heap.objs.size+1)::(vs++dvs)) (bE (s.heap.objs.size+1)::(us++ds)):=.cons rfl (r.append hd)
 have hl:(bE (s.heap.objs.size+1)::us++ds).length=ps.length:=by
  have e:=r2.length
  rw[F.len _ _ _ _ hq] at e
  exact e.symm
 refine QL (Vg (f:=f) I.K5 M.makes M.init (beq_iff_eq.mp M.fn) (lY (F.run _ X.stack _ _ ⟨bE (s.heap.objs.size+1)::us,[]⟩ (bE (s.heap.objs.size+1)::(us++ds)) _ _ E (hr.make C us [])
  (I2.abi.make C us []) (hb _ (bE (s.heap.objs.size+1)::us) I2.K5 hl) r2 hq) fun r s' hq'=>?_))
 cases r with
 | error e=>exact hx pins σ _ _ e s' I2 hq'
 | ok fl=>
  cases fl with
  | ret u=>
   obtain⟨v,H',I3,rv,ev,q3⟩:=I2.after hq'
   subst ev
   exact⟨rv,⟨V.ref (s.heap.objs.size+1),H',I3,rfl,q3⟩⟩
  | next=>exact fo hq'
  | brk=>exact fo hq'
  | cont=>exact fo hq'
theorem Ky (M:Mk X.K C f) (F:dy X.prog X.w X.K X.mg X.base CX k f fd ps sp) (hr:lX (k+1) X.A) (hg:Gl X x) (hm:X.mg x=some (.ref C)) (hb:Binds X.K fd ps ds) (hd:dF dvs ds) (hx:yr CX X E)
  (ha:PA X (e::es) t) (hdb:(x==("__debug__":Str))=false:=by decide) (he:cM (e::es) X.env=(false,eval e X.env)::cM es X.env:=by rfl) (hpl:(kC pos (cM es X.env)).any (·.1)=false:=by rfl) :
  PE X (.Call (.Name x p) (e::es) [] pos) (Yy C sp dvs E t):=by
 intro pins s σ H Q I h
 refine gY (Fw I hg hm ?_ hdb)
 refine qD (h₀:=X.base) I.ok.mod.YG M.kp (fU (ha pos pins s σ H _ I h) fun us s1 ⟨vs,H1,I1,r,q⟩=>⟨I1.K5,?_⟩) he hpl
 exact ML M F hr hb hd hx I1 r q
theorem sQ (M:Mk X.K C f) (F:dy X.prog X.w X.K X.mg X.base CX k f fd ps sp) (hr:lX (k+1) X.A) (hg:Gl X x) (hm:X.mg x=some (.ref C)) (hb:Binds X.K fd ps ds) (hd:dF dvs ds) (hx:yr CX X E)
  (hdb:(x==("__debug__":Str))=false:=by decide):PE X (.Call (.Name x p) [] [] pos) (Yy C sp dvs E O5):=by
 intro pins s σ H Q I h
 refine gY (Fw I hg hm ?_ hdb)
 exact OP I.K5 M.kp (ML (us:=[]) M F hr hb hd hx I .nil h)
end
section
variable {X:Cx} {CX:R4} {k:Nat} {f C:af} {fd:aZ} {ps ks:List Str} {sp:Sp} {E:XK} {x m:Str} {p pos apos kpos:Pos} {e o:Expr} {es:List Expr} {kws:List IY} {te ta:TE} {t tk:TA} {nm:Option Str}
variable {g:List ai->List ai->List ai} {gV:List V->List V->List V}
end
structure bH (N P:List Str) (sc:kG):Prop where
 kind:sc.kind=.function
 co:sc.isCoroutine=false
 gen:sc.isGenerator=false
 nd:N.Nodup
 pre:N.take P.length=P
 par:∀x∈P,sc.names.lookup x=some .local\/sc.names.lookup x=some .cell
 Zv:∀y∈sc.names,y.2≠.free
theorem JU {kindOf:Str->Option iH} {x:Str}:∀{binds:List (Str×ai)} {m:Str->Option ai},(∀v,(x,v)∉binds)->T4 kindOf binds m x=m x
 | [],_,_=>rfl
 | (n,v)::r,m,h=>by
  unfold T4
  rw[JU fun w hw=>h w (aE _ hw)]
  split
  ·have:x≠n:=by rintro rfl;exact h v bz
   simp[this]
  ·rfl
theorem JW {kindOf:Str->Option iH} {x:Str}:∀{binds:List (Str×ai)} {m:Str->Option ai},(∀v,(x,v)∉binds)->T5 kindOf binds m x=m x
 | [],_,_=>rfl
 | (n,v)::r,m,h=>by
  unfold T5
  rw[JW fun w hw=>h w (aE _ hw)]
  split
  ·rfl
  ·have:x≠n:=by rintro rfl;exact h v bz
   simp[this]
theorem JV {kindOf:Str->Option iH} {x:Str} {v:ai}:∀{P:List Str} {vs:List ai} {i:Nat} {m:Str->Option ai},P.Nodup->P[i]?=some x->vs[i]?=some v->kindOf x=some .local ->
  T4 kindOf (P.zip vs) m x=some v
 | [],_,_,_,_,h,_,_=>by simp at h
 | _::_,[],_,_,_,_,h,_=>by simp at h
 | p::P,w::vs,0,m,nd,h1,h2,hk=>by
  simp at h1 h2;subst h1;subst h2
  show T4 kindOf ((p,w)::P.zip vs) m p=_
  unfold T4
  rw[JU fun v hv=>(c7.mp nd).1 (Ib hv).1,if_pos hk]
  simp
 | p::P,w::vs,i+1,m,nd,h1,h2,hk=>by
  show T4 kindOf ((p,w)::P.zip vs) m x=_
  unfold T4
  exact JV (i:=i) (c7.mp nd).2 (by simpa using h1) (by simpa using h2) hk
theorem JX {kindOf:Str->Option iH} {x:Str} {v:ai}:∀{P:List Str} {vs:List ai} {i:Nat} {m:Str->Option ai},P.Nodup->P[i]?=some x->vs[i]?=some v->kindOf x≠some .local ->
  T5 kindOf (P.zip vs) m x=some v
 | [],_,_,_,_,h,_,_=>by simp at h
 | _::_,[],_,_,_,_,h,_=>by simp at h
 | p::P,w::vs,0,m,nd,h1,h2,hk=>by
  simp at h1 h2;subst h1;subst h2
  show T5 kindOf ((p,w)::P.zip vs) m p=_
  unfold T5
  rw[JW fun v hv=>(c7.mp nd).1 (Ib hv).1,if_neg hk]
  simp
 | p::P,w::vs,i+1,m,nd,h1,h2,hk=>by
  show T5 kindOf ((p,w)::P.zip vs) m x=_
  unfold T5
  exact JX (i:=i) (c7.mp nd).2 (by simpa using h1) (by simpa using h2) hk
def start (N:List Str) (vs:List V):St:=vs.map some++List.replicate (N.length-vs.length) none
def N' (CX:R4) (P:bj) (w:bV) (K:ae) (mg:Str->Option ai) (base:cX) (N:List Str) (qual:Str) (scope:kG) (f:af) (cd:ai) (A:cQ) (outer:List Env) (s:ay) (H:Hp) (E:XK):Cx where
 prog:=P
 w:=w
 K:=K
 mg:=mg
 base:=base
 A:=A.deeper (HS qual scope s.heap.objs.size f cd)
 N:=N
 Js:=s
 H_0:=H
 env:=HS qual scope s.heap.objs.size f cd
 outer:=outer
 stack:=HS qual scope s.heap.objs.size f cd::outer
 ex:=[]
 calm:=true
 fn:=fun _=>true
 pn:=[]
 xe:=fun e s'=>bD (model P w) (A.deeper (HS qual scope s.heap.objs.size f cd)) (leaving (HS qual scope s.heap.objs.size f cd) e) (fun _ s''=>CX outer H s E e s'') (fun e' s''=>CX outer H s E e' s'') s'
theorem Og {sc:kG} {n:Nat} {x:Str} (h:sc.names.lookup x=some .cell):∃c,(fc n sc.names []).lookup x=some c:=by
 have q:=LP sc.names n [] (.inl h)
 exact J8.mp q
theorem SY {CX:R4} {P:bj} {w:bV} {K:ae} {mg:Str->Option ai} {base:cX} {N ps:List Str} {qual:Str} {scope:kG} {f:af} {cd:ai} {A:cQ} {outer:List Env} {s s1:ay} {H:Hp} {E:XK} {us:List ai} {vs:List V}
  (S:bH N ps scope) (hd:A.handled=none) (e0:QI P w K mg base A outer s H) (hl:vs.length=ps.length) (r:dF vs us)
  (x:InCallC s s.heap.objs.size (T4 (HS qual scope s.heap.objs.size f cd).kindOf (ps.zip us) fun _=>none) (fc (s.heap.objs.size+1) scope.names []) (T5 (HS qual scope s.heap.objs.size f cd).kindOf (ps.zip us) fun _=>none) s1) :
  Inv (N' CX P w K mg base N qual scope f cd A outer s H E) [] (start N vs) H s1:=by
 have hpl:ps.length<=N.length:=by have:=congrArg j_ S.pre;rw[cx] at this;omega
 obtain⟨h1,tk,rfl,hk⟩:=x.done
 have noA:∀b:af,b∉(N' CX P w K mg base N qual scope f cd A outer s H E).ex:=fun b z=>absurd (show b∈([]:List af) from z) (by simp)
 refine⟨⟨e0.mod,S.kind,rfl,rfl,aC _,fun y z c h1 h2=>?_,fun y hy=>?_,fun y c _ h=>?_,fun _=>hd,Around.frames_deeper e0.frames,.inr ⟨rfl,rfl⟩,fun b z=>absurd z (noA b),e0.bs,e0.WE,fun b _ _=>noA b,fun b z=>absurd z (noA b),e0.E3,e0.ZT⟩,
  rfl,e0.bare,Un.kept hk,⟨_,x.toInCall.ns,fun i y v h1 h2 h3=>?_⟩,fun y c h=>⟨_,x.cell y c h⟩,e0.fw.fresh (aC _),fun y c h=>?_,fun p hp=>absurd (show p∈([]:List (af×Obj)) from hp) (by simp),e0.fw.kept hk,?_⟩
 ·exact name_of_addr x.apart (cO h1) (cO h2)
 ·have hy:scope.names.lookup y=some .cell\/scope.names.lookup y=some .free:=hy
  rcases hy with hy | hy
  ·exact Og hy
  ·exact absurd rfl (S.Zv _ (cO hy))
 ·exact qK (x.above y c (cO h))
 ·have hi:i<vs.length:=by
   unfold start at h2
   by_cases hi:i<vs.length
   ·exact hi
   ·rw[eO (by simpa using hi)] at h2
    rw[List.getElem?_replicate] at h2
    split at h2 <;> cases h2
  have ha:vs[i]?=some v:=by
   unfold start at h2
   rw[dC (by simpa using hi),aX] at h2
   cases e:vs[i]? with
   | none=>rw[e] at h2;cases h2
   | some a=>rw[e] at h2;cases h2;rfl
  obtain⟨u,hu,rv⟩:=r.get ha
  have hp:ps[i]?=some y:=by
   rw[<- S.pre,List.getElem?_take_of_lt (by omega)];exact h1
  have ndP:ps.Nodup:=by rw[<- S.pre];exact S.nd.sublist (Ww _ _)
  refine⟨u,rv,?_⟩
  rcases S.par y (aN hp) with k | k
  ·exact .inl ⟨k,JV ndP hp hu k⟩
  ·obtain⟨c,e⟩:=Og (n:=s.heap.objs.size+1) k
   refine .inr ⟨.inl k,c,e,?_⟩
   have q:=x.cell y c e
   rw[JX ndP hp hu (by show scope.names.lookup y≠_;rw[k];decide)] at q
   exact q
 ·exact e0.fw.fresh (qK (x.above y c (cO h)))
 ·unfold start
  show _=N.length
  rw[aA,aa,List.length_replicate]
  omega
theorem abg {CX:R4} {P:bj} {w:bV} {K:ae} {mg:Str->Option ai} {base:cX} {k:Nat} {f:af} {name qual:Str} {params:Arguments} {body:List c_} {scope:kG} {dV kV doc pm cdv ct oc:ai} {an od:Option af}
  {osl:Array (Option ai)} {N ps:List Str} {sp:Sp} (lk:K.lookup f=some ⟨oc,od,.func (fe name qual params body scope dV kV doc pm an cdv ct),osl⟩) (hcd:mJ K cdv qual=true) (S:bH N ps scope)
  (len:∀vs H Q E,sp vs H Q E->vs.length=ps.length)
  (hbody:∀(A:cQ) (outer:List Env) (s:ay) (H:Hp) (vs:List V) (Q:VK) (E:XK),lX k (A.deeper (HS qual scope s.heap.objs.size f cdv))->sp vs H Q E ->
   ∃t,Tr (N' CX P w K mg base N qual scope f cdv A outer s H E) body t/\t { nx:=fun _ H'=>Q .iE H',rt:=Q } (start N vs) H) :
  dy P w K mg base CX (k+1) f (fe name qual params body scope dV kV doc pm an cdv ct) ps sp:=by
 refine⟨len,fun A outer s H args us vs Q E hr e0 hb r hsp=>?_⟩
 have hl:=len _ _ _ _ hsp
 have KX:K.In s.heap:=e0.mod.YG.keeps fun b o e=>(e0.bs b o e).1
 have lim:s.heap.NoLimit:=e0.mod.nolimit.keeps fun b o e=>(e0.bs b o e).1
 have hkind:∀y∈ps.zip us,scope.names.lookup y.1=some .local\/(scope.names.lookup y.1=some .cell/\((fc (s.heap.objs.size+1) scope.names []).lookup y.1).isSome=true):=fun ⟨n,v⟩ hy=>by
  rcases S.par n (Ib hy).1 with q | q
  ·exact .inl q
  ·exact .inr ⟨q,LP _ _ _ (.inl q)⟩
 refine codeAny_call_function hr.depth (KX _ _ lk) rfl S.co S.gen rfl (PySem.W.codeRec_of KX hcd) (hb _ _ _ _ ?_)
 refine wpAny_newFunctionEnv_cells S.kind hkind fun env he s1 x=>?_
 subst he
 refine⟨lim.keeps x.toInCall.keep,codeAny_func ?_⟩
 obtain⟨t,ht,hq⟩:=hbody A outer s H vs Q E (hr.deeper _) hsp
 have I:Inv (N' CX P w K mg base N qual scope f cdv A outer s H E) [] (start N vs) H s1:=SY S hr.hd e0 hl r x
 refine gX (ht [] s1 (start N vs) H _ I hq) (fun fl s' hs=>?_) fun e s' hs=>hs
 have fin:∀{σ':St} {H':Hp} {v:V} {u:ai},Inv (N' CX P w K mg base N qual scope f cdv A outer s H E) [] σ' H' s'->RelV v u->Q v H'->CE outer P w H s Q u s':=
  fun {σ' H' v u} J rv q=>⟨v,H',J.os,J.bare,J.base,J.fw,rv,q⟩
 cases fl with
 | ret u=>
  obtain⟨v,σ',H',J,rv,q⟩:=hs
  exact fin J rv q
 | next=>
  obtain⟨σ',H',J,q⟩:=hs
  exact fin (v:=V.iE) (u:=i9) J rfl q
 | brk=>
  obtain⟨_,_,_,q⟩:=hs
  exact fo q
 | cont=>
  obtain⟨_,_,_,q⟩:=hs
  exact fo q
end L2
namespace L2
open PySem PySem.Spec PyProof.Rows
section
variable {X:Cx} {x:Str} {p pos:Pos} {e:Expr} {es:List Expr} {t:TA} {id T:String} {r:List V->Hp->VK->Prop}
def tCB (r:List V->Hp->VK->Prop) (t:TA):TE:=fun σ H Q=>t σ H fun vs H1=>r vs H1 Q
theorem bT (hc:qB X (.builtin id) r) (hg:Gl X x) (hm:X.mg x=none) (hv:tm x=some (.builtin id)) (ha:PA X (e::es) t) (hn:x≠"__name__":=by decide) (hdb:(x==("__debug__":Str))=false:=by decide)
  (he:cM (e::es) X.env=(false,eval e X.env)::cM es X.env:=by rfl) (hpl:(kC pos (cM es X.env)).any (·.1)=false:=by rfl):PE X (.Call (.Name x p) (e::es) [] pos) (tCB r t):=by
 intro pins s σ H Q I h
 refine gY (C3 I hg hm hv ?_ hn hdb)
 exact acE (fU (ha pos pins s σ H _ I h) fun us s1 ⟨vs,H1,I1,r1,q1⟩=>hc pins s1 σ H1 vs us Q I1 r1 q1) he hpl
theorem CL (hc:qB X (.type T) r) (hg:Gl X x) (hm:X.mg x=none) (hv:tm x=some (.type T)) (ha:PA X (e::es) t) (hn:x≠"__name__":=by decide) (hdb:(x==("__debug__":Str))=false:=by decide)
  (he:cM (e::es) X.env=(false,eval e X.env)::cM es X.env:=by rfl) (hpl:(kC pos (cM es X.env)).any (·.1)=false:=by rfl):PE X (.Call (.Name x p) (e::es) [] pos) (tCB r t):=by
 intro pins s σ H Q I h
 refine gY (C3 I hg hm hv ?_ hn hdb)
 exact iW (fU (ha pos pins s σ H _ I h) fun us s1 ⟨vs,H1,I1,r1,q1⟩=>hc pins s1 σ H1 vs us Q I1 r1 q1) he hpl
end
end L2
namespace HT
open PySem PyProof.Rows
def lexLt:List Int->List Int->Bool
 | [],[]=>false
 | [],_::_=>true
 | _::_,[]=>false
 | x::xs,y::ys=>if x=y then lexLt xs ys else decide (x<y)
theorem PV (x y:Int) (xs ys:List Int):lexLt (x::xs) (y::ys)=if x=y then lexLt xs ys else decide (x<y):=rfl
theorem IB:lexLt [] []=false:=rfl
theorem GV (y:Int) (ys:List Int):lexLt [] (y::ys)=true:=rfl
theorem GW (x:Int) (xs:List Int):lexLt (x::xs) []=false:=rfl
theorem VP (A:cQ) (s:ay) (a:Int) (t:Tok) (c:Int) (u:Tok):∃e,TC A s (.int a t) (.int c u) e/\(e=true<->a=c):=
 ⟨(a==c),LX a t c u,by simp⟩
theorem UT (A:cQ) (s:ay) (a:Int) (t:Tok) (c:Int) (u:Tok) (prog:bj) (w:bV) (E:ai->ay->Prop) (Q:ai->ay->Prop) (h:Q (.bool (decide (a<c))) s) :
  bD (model prog w) A (Yo .Lt (.int a t) (.int c u)) Q E s:=
 (acw h:bD (model prog w) A (e_ .Lt (.int a t) (.int c u)) Q E s)
section
open PySem.SeqAt
open PySem.AutoSeq1 (wpAny_loadPart')
open PySem.MeetsSeq PySem.MeetsSeq2 PySem.MeetsSeq3
theorem Ig (l b:af) (items items2:Array ai) (n n2:Nat) (dd dd2:Option af) (sl sl2:Array (Option ai)) (ns ms:List Int) (hi:tE items.toList ns) (hj:tE items2.toList ms) :
  Meets (Builtin.«tuple.__lt__» ⟨[.ref l,.ref b],[]⟩)
   (fun _ R s=>s.heap.get? l=some { cls:=.type "tuple",dict:=dd,data:=.seq items n,slots:=sl }/\s.heap.get? b=some { cls:=.type "tuple",dict:=dd2,data:=.seq items2 n2,slots:=sl2 } /\
    R (.ok (.ret (.bool (lexLt ns ms)))) s):=
 .of_wp fun prog w A R s h=>by
  obtain⟨hp,g,d,tk,os⟩:=s;obtain⟨hl,hb,h⟩:=h
  have f2:=AutoSeq1.sub_tuple_tuple
  have z1:items.size=ns.length:=by rw[<- hi.length];simp
  have z2:items2.size=ms.length:=by rw[<- hj.length];simp
  wp_walk using wpAny_loadPart' hl,wpAny_loadPart' hb,wpAny_forIn_list _ (fun rest b s'=>b.1=none/\s'=⟨hp,g,d,tk,os⟩/\∃(vs ws:List ai) (ns' ms':List Int),rest=vs.zip ws /\
   tE vs ns'/\tE ws ms'/\ns'.length+items2.size=ms'.length+items.size/\R (.ok (.ret (.bool (lexLt ns' ms')))) ⟨hp,g,d,tk,os⟩) _
  case turn=>
   rintro ⟨y,x⟩ rest b s' ⟨hb',rfl,vs,ws,ns',ms',hz,hvi,hwi,hlen,hR⟩
   cases hvi with
   | nil=>rw[List.zip_nil_left] at hz;cases hz
   | cons a t hvi'=>
    cases hwi with
    | nil=>rw[List.zip_nil_right] at hz;cases hz
    | cons c u hwi'=>
     rw[Cv] at hz
     injection hz with hyx hrest
     injection hyx with hy hx
     subst hy hx
     rw[PV] at hR
     simp only[aG] at hlen
     obtain⟨e,he,hiff⟩:=VP A.in1 ⟨hp,g,d,tk,os⟩ a t c u
     refine ah (he prog w _ _ ?_)
     cases e with
     | true=>
      rw[if_pos (hiff.mp rfl)] at hR
      wp_walk
      exact⟨rfl,rfl,_,_,_,_,hrest,hvi',hwi',by omega,hR⟩
     | false=>
      rw[if_neg (fun q=>absurd (hiff.mpr q) bu)] at hR
      have hri:=UT A.in1 ⟨hp,g,d,tk,os⟩ a t c u prog w
      wp_walk using hri
      exact⟨_,rfl,by simpa using hR⟩
  case fin=>
   rintro ⟨b1,b2⟩ s' ⟨hb',rfl,vs,ws,ns',ms',hz,hvi,hwi,hlen,hR⟩
   simp only at hb'
   subst hb'
   have hv:lexLt ns' ms'=decide (items.size<items2.size):=by
    cases hvi with
    | nil=>
     cases hwi with
     | nil=>
      simp only[fP] at hlen
      rw[IB]
      exact (decide_eq_false (by omega)).symm
     | cons c u hw=>
      simp only[fP,aG] at hlen
      rw[GV]
      exact (decide_eq_true (by omega)).symm
    | cons a t hv=>
     cases hwi with
     | nil=>
      simp only[fP,aG] at hlen
      rw[GW]
      exact (decide_eq_false (by omega)).symm
     | cons c u hw=>
      rw[Cv] at hz
      cases hz
   rw[hv] at hR
   wp_walk
   exact⟨_,rfl,by simpa [abZ] using hR⟩
  case h=>
   exact⟨rfl,rfl,items.toList,items2.toList,ns,ms,rfl,hi,hj,by omega,h⟩
end
section
variable {prog:bj} {w:bV} {A:cQ} {E:ai->ay->Prop} {s:ay}
theorem GP {l b:af} {items items2:Array ai} {ns ms:List Int} {Q:ai->ay->Prop} (hl:IsTup s.heap l items) (hb:IsTup s.heap b items2) (hi:tE items.toList ns) (hj:tE items2.toList ms)
  (hu:A.units<pE) (h:Q (.bool (lexLt ns ms)) s):bD (model prog w) A (e_ .Lt (.ref l) (.ref b)) Q E s:=by
 obtain⟨⟨cls,dd,data,sl⟩,ho,hc,n,hd⟩:=id hl
 obtain⟨⟨cls2,dd2,data2,sl2⟩,ho2,hc2,n2,hd2⟩:=id hb
 simp only at hc hd hc2 hd2
 subst hc hd hc2 hd2
 exact richCompare_meets_room (op:=.Lt) ⟨_,ho,rfl⟩ ⟨_,ho2,rfl⟩ PySem.F.slot_tuple_lt PySem.F.entry_tuple_lt (PySem.F.args_tuple_lt_2 _ _) (Ig l b items items2 n n2 dd dd2 sl sl2 ns ms hi hj)
  ⟨ho,ho2,show j7 (lexLt ns ms)≠Value.notImplemented/\Q (.bool (lexLt ns ms)) s from ⟨(fun x=>nomatch x),h⟩⟩ hu
def oG (n d:Nat):Option Int->Nat
 | none=>d
 | some v=>if v<0 then (v+(n:Int)).toNat else min v.toNat n
theorem Rc (n d k:Nat):oG n d (some (k:Int))=min k n:=by
 show (if (k:Int)<0 then ((k:Int)+(n:Int)).toNat else min (k:Int).toNat n)=min k n
 rw[if_neg (by omega),cZ]
theorem UN (n d:Nat) (hd:d<=n) (o:Option Int):oG n d o<=n:=by
 cases o with
 | none=>exact hd
 | some v=>
  show (if v<0 then (v+(n:Int)).toNat else min v.toNat n)<=n
  by_cases hv:v<0
  ·rw[if_pos hv];omega
  ·rw[if_neg hv];exact Nat.min_le_right _ _
end
end HT
namespace L2
open PySem PySem.Spec PyProof.Rows
abbrev TO:=St->Hp->(Option Int->Hp->Prop)->Prop
def PO (X:Cx) (e:Option Expr) (t:TO):Prop:=
 ∀(pins:List (af×Obj)) (s:ay) (σ:St) (H:Hp) (Q:Option Int->Hp->Prop),Inv X pins σ H s->t σ H Q ->
  bD (model X.prog X.w) X.A (evalPart e X.env) (fun u s'=>∃o H',Inv X pins σ H' s'/\IsPart u o/\Q o H') X.xe s
def Kd:TO:=fun _ H Q=>Q none H
def Uo (t:TE):TO:=fun σ H Q=>t σ H fun x H1=>∃i,x=.int i/\Q (some i) H1
theorem intsAre_of {ns:List Int}:∀{us:List ai},dF (ns.map V.int) us->tE us ns:=by
 induction ns with
 | nil=>intro us r;rw[fN] at r;cases r;exact .nil
 | cons n ns ih=>
  intro us r
  rw[a7] at r
  cases r with
  | cons r1 r2=>
   obtain⟨t,e⟩:=r1
   subst e
   exact .cons n t (ih r2)
section
variable {X:Cx} {e:Expr} {te:TE} {lo hi:Option Expr} {tl th:TO} {pos p2:Pos}
theorem Kv:PO X none Kd:=by
 intro pins s σ H Q I h
 rw[evalPart_none]
 exact aH ⟨none,H,I,.none,h⟩
theorem uk (h:PE X e te):PO X (some e) (Uo te):=by
 intro pins s σ H Q I hw
 rw[evalPart_some]
 refine fU (h pins s σ H _ I hw) fun u s1 ⟨x,H1,I1,r1,q1⟩=>?_
 obtain⟨i,rfl,q⟩:=q1
 obtain⟨t,rfl⟩:=r1
 exact⟨some i,H1,I1,.int i t,q⟩
def SlR (X:Cx) (r:V->Option Int->Option Int->Hp->VK->Prop):Prop:=
 ∀(pins:List (af×Obj)) (s:ay) (σ:St) (H:Hp) (x:V) (v vl vu:ai) (lo hi:Option Int) (sl:af) (Q:VK),Inv X pins σ H s->RelV x v->s.heap.IsSliceOf sl vl vu .none->IsPart vl lo->IsPart vu hi->r x lo hi H Q ->
  ∃T id,typeLookup (.type T) "__getitem__"=pure (some (.builtin id))/\s.TypeIs v T/\bD (model X.prog X.w) X.A (ON v (.ref sl)) (EP X pins σ Q) X.xe s
def tSl (r:V->Option Int->Option Int->Hp->VK->Prop) (te:TE) (tl th:TO):TE:=fun σ H Q=>te σ H fun x H1=>tl σ H1 fun l H2=>th σ H2 fun u H3=>r x l u H3 Q
theorem xk {r:V->Option Int->Option Int->Hp->VK->Prop} (hr:SlR X r) (he:PE X e te) (hl:PO X lo tl) (hu:PO X hi th):PE X (.Subscript e (.Slice lo hi none p2) pos) (tSl r te tl th):=by
 intro pins s σ H Q I h
 refine aak (fU (he pins s σ H _ I h) fun v s1 ⟨x,H1,I1,r1,q1⟩=>?_)
 refine wpAny_Slice (fU (hl pins s1 σ H1 _ I1 q1) fun vl s2 ⟨l,H2,I2,pl,q2⟩=>fU (hu pins s2 σ H2 _ I2 q2) fun vu s3 ⟨u,H3,I3,pu,q3⟩=>?_)
 rw[evalPart_none]
 refine aH ?_
 have I4:Inv X pins σ H3 { s3 with heap:=s3.heap.push { cls:=.type "slice",data:=.fields #[vl,vu,.none] } }:=I3.kept (t':=s3.toks) fun b ob q=>aD _ q
 obtain⟨T,id,hT,ht,hg⟩:=hr pins { s3 with heap:=s3.heap.push { cls:=.type "slice",data:=.fields #[vl,vu,.none] } } σ H3 x v vl vu l u s3.heap.objs.size Q I4 r1 (aaE ..) pl pu q3
 show bD (model X.prog X.w) X.A (TB e (.Slice lo hi none p2) v (.ref s3.heap.objs.size)) (EP X pins σ Q) X.xe { s3 with heap:=s3.heap.push { cls:=.type "slice",data:=.fields #[vl,vu,.none] } }
 exact tail_any (ops:=[.ref s3.heap.objs.size,v]) ht hT hg (by with_unfolding_all rfl)
def E4 (xs:List V) (lo hi:Option Int):List V:=(xs.drop (HT.oG xs.length 0 lo)).take (HT.oG xs.length xs.length hi-HT.oG xs.length 0 lo)
theorem Ob (xs:List V) (lo hi:Option Int):(E4 xs lo hi).length<=xs.length:=by
 unfold E4
 rw[cx,oq]
 omega
def acW (K:ae):R2:=fun x y H Q=>∃a b ns ms,x=.ref a/\y=.ref b/\iC K H a (ns.map V.int)/\iC K H b (ms.map V.int)/\Q (.bl (HT.lexLt ns ms)) H
theorem Zu (hu:X.A.units<pE):HN X (e_ .Lt) (acW X.K):=by
 intro pins s σ H x y v u Q I rx ry h
 obtain⟨a,b,ns,ms,rfl,rfl,ha,hb,q⟩:=h
 cases rx
 cases ry
 obtain⟨its,r1,p1,_⟩:=I.tuple ha
 obtain⟨its2,r2,p2,_⟩:=I.tuple hb
 have i1:tE its.toArray.toList ns:=intsAre_of r1
 have i2:tE its2.toArray.toList ms:=intsAre_of r2
 exact HT.GP p1 p2 i1 i2 hu ⟨.bl (HT.lexLt ns ms),H,I,rfl,q⟩
end
end L2
namespace L2
open PySem PySem.Spec PyProof.Rows
def ixN (n:Nat) (i:Int):Option Nat:=if 0<=i then (if i<n then some i.toNat else none) else if -(n:Int)<=i then some (i+n).toNat else none
def V' {α:Type} (xs:List α) (i:Int):Option α:=(ixN xs.length i).bind fun j=>xs[j]?
theorem XR {n:Nat} {i:Int} {j:Nat} (h:ixN n i=some j):seqIndex? i n=some j/\j<n/\-(n:Int)<=i/\i<n:=by
 unfold ixN at h
 by_cases h0:0<=i
 ·rw[if_pos h0] at h
  by_cases h1:i<n
  ·rw[if_pos h1] at h
   have e:i.toNat=j:=bQ h
   exact⟨by rw[seqIndex_of h0 h1,e],by omega,by omega,h1⟩
  ·rw[if_neg h1] at h;cases h
 ·rw[if_neg h0] at h
  by_cases h1:-(n:Int)<=i
  ·rw[if_pos h1] at h
   have e:(i+n).toNat=j:=bQ h
   exact⟨by rw[seqIndex_neg (by omega) h1,e],by omega,h1,by omega⟩
  ·rw[if_neg h1] at h;cases h
theorem LC {α:Type} {xs:List α} {i:Int} {v:α} (h:V' xs i=some v):∃j,seqIndex? i xs.length=some j/\xs[j]?=some v/\j<xs.length/\-(xs.length:Int)<=i/\i<xs.length:=by
 unfold V' at h
 cases e:ixN xs.length i with
 | none=>rw[e] at h;cases h
 | some j=>
  rw[e] at h
  obtain⟨h1,h2,h3,h4⟩:=XR e
  exact⟨j,h1,h,h2,h3,h4⟩
theorem aW {α:Type} {xs:List α} {j:Nat} {v:α} (h:xs[j]?=some v):V' xs (j:Int)=some v:=by
 have hj:j<xs.length:=(ax.mp h).1
 have e:ixN xs.length (j:Int)=some j:=by
  unfold ixN
  rw[if_pos (by omega),if_pos (by omega)];simp
 unfold V';rw[e];exact h
def Yh (b:Expr):Prop:=∀o i,subscripted b false o i=operate [o,i] (ON o i)
def IxR (X:Cx) (r:R2):Prop:=
 ∀(value slice:Expr) (pins:List (af×Obj)) (s:ay) (σ:St) (H:Hp) (x y:V) (v u:ai) (Q:VK),Inv X pins σ H s->RelV x v->RelV y u->r x y H Q ->
  subscripted slice false v u=operate [v,u] (ON v u)->bD (model X.prog X.w) X.A (TB value slice v u) (EP X pins σ Q) X.xe s
def Yi (X:Cx) (id:String) (r:V->List V->Hp->VK->Prop):Prop:=
 ∀(pins:List (af×Obj)) (s:ay) (σ:St) (H:Hp) (x:V) (xs:List V) (v:ai) (us:List ai) (Q:VK),Inv X pins σ H s->RelV x v->dF xs us->r x xs H Q ->
  bD (model X.prog X.w) X.A (call (.builtin id) (v::us)) (EP X pins σ Q) X.xe s
section
variable {X:Cx} {a b:Expr} {ta tb:TE} {pos:Pos}
theorem bW {r:R2} (hr:IxR X r) (ha:PE X a ta) (hb:PE X b tb) (hs:Yh b):PE X (.Subscript a b pos) (TU r ta tb):=by
 intro pins s σ H Q I h
 exact aak (Z6 ha hb I h fun v u s2 x y H2 I2 rx ry q=>hr a b pins s2 σ H2 x y v u Q I2 rx ry q (hs _ _))
inductive abo (K:ae) (x y:V) (H:Hp) (Q:VK):Prop
 | mk (p:af) (xs:List V) (i:Int) (v:V) (e:x=.ref p) (f:y=.int i) (h:cP K H p xs) (g:V' xs i=some v) (q:Q v H)
def acX (K:ae):R2:=fun x y H Q=>abo K x y H Q
inductive abn (K:ae) (x y:V) (H:Hp) (Q:VK):Prop
 | mk (p:af) (xs:List V) (i:Int) (v:V) (e:x=.ref p) (f:y=.int i) (h:iC K H p xs) (g:V' xs i=some v) (q:Q v H)
def aaX (K:ae):R2:=fun x y H Q=>abn K x y H Q
def Xo:R2:=fun x y H Q=>∃z i c,x=.str z/\y=.int i/\z.length<=ao/\V' z.cps.toList i=some c/\Q (.str ⟨#[c]⟩) H
theorem b8:IxR X (acX X.K):=by
 intro value slice pins s σ H x y v u Q I rx ry h hs
 obtain⟨p,xs,i,z,rfl,rfl,hq,he,q⟩:=h
 cases rx
 obtain⟨t,rfl⟩:=ry
 obtain⟨its,r,pl,hz⟩:=I.list hq
 obtain⟨j,h1,h2,h3,h4,h5⟩:=LC he
 obtain⟨w,ew,rw'⟩:=r.get h2
 have hl:=r.length
 have hn:=GU
 have fin:EP X pins σ Q w s:=⟨z,H,I,rw',q⟩
 by_cases h0:0<=i
 ·have hj:i.toNat=j:=by
   rw[seqIndex_of h0 h5] at h1
   exact bQ h1
  exact item_listR pl.isList h0 (by omega) (by rw[hj];simpa using ew) fin hs
 ·have hj:(i+(its.toArray.size:Int)).toNat=j:=by
   rw[seqIndex_neg (by omega) h4] at h1
   rw[bZ,<- hl]
   exact bQ h1
  exact Wp (x:=w) pl.isList.typeIs aau.lookup
   (wpAny_getItem_list_neg (Q:=fun r s'=>r=w/\EP X pins σ Q r s') pl.isList (by omega) (by rw[bZ] <;> omega) (by omega) (by rw[hj];simpa using ew) ⟨rfl,fin⟩) hs
theorem dH:IxR X (aaX X.K):=by
 intro value slice pins s σ H x y v u Q I rx ry h hs
 obtain⟨p,xs,i,z,rfl,rfl,hq,he,q⟩:=h
 cases rx
 obtain⟨t,rfl⟩:=ry
 obtain⟨its,r,pl,hz⟩:=I.tuple hq
 obtain⟨j,h1,h2,h3,h4,h5⟩:=LC he
 obtain⟨w,ew,rw'⟩:=r.get h2
 have hl:=r.length
 have hn:=GU
 have fin:EP X pins σ Q w s:=⟨z,H,I,rw',q⟩
 exact Wp (x:=w) pl.typeIs slot_tuple_getitem.lookup
  (getItem_tuple (j:=j) (Q:=fun r s'=>r=w/\EP X pins σ Q r s') pl (by omega) (by omega) (by rw[bZ,<- hl];exact h1) (by simpa using ew) ⟨rfl,fin⟩) hs
theorem P0:IxR X Xo:=by
 intro value slice pins s σ H x y v u Q I rx ry h hs
 obtain⟨z,i,c,rfl,rfl,hz,he,q⟩:=h
 obtain⟨t,rfl⟩:=rx
 obtain⟨t',rfl⟩:=ry
 obtain⟨j,h1,h2,h3,h4,h5⟩:=LC he
 have hl:z.cps.toList.length=z.length:=by simp[DK]
 rw[hl] at h1 h4 h5
 have hn:=GU
 exact tail_any (qC s z t) slot_str_getitem.lookup (getItem_str (c:=c) (by
  have e1:decide (i < -(2 ^ 63:Int))=false:=decide_eq_false (by omega)
  have e2:decide (i>=2 ^ 63)=false:=decide_eq_false (by omega)
  rw[e1,e2,L5]) (by rw[h1];simpa using h2) ⟨.str ⟨#[c]⟩,H,I.tok _,⟨_,rfl⟩,q⟩) hs
theorem Ki (lo hi:Option Int) (n:Nat):(qG lo hi none n).1=((HT.oG n 0 lo:Nat):Int)/\(qG lo hi none n).2.1=((HT.oG n n hi:Nat):Int)/\(qG lo hi none n).2.2=1:=by
 refine⟨?_,?_,rfl⟩
 ·cases lo with
  | none=>simp[qG,HT.oG]
  | some i=>
   simp only[qG,HT.oG,T9,show (1:Int) > 0 by decide,if_true]
   by_cases h:i<0
   ·simp only[h,if_true] <;> omega
   ·simp only[h,if_false] <;> omega
 ·cases hi with
  | none=>simp[qG,HT.oG]
  | some i=>
   simp only[qG,HT.oG,T9,show (1:Int) > 0 by decide,if_true]
   by_cases h:i<0
   ·simp only[h,if_true] <;> omega
   ·simp only[h,if_false] <;> omega
theorem Ij (its:List ai) (lo hi:Option Int):slicePick its.toArray lo hi none=((its.drop (HT.oG its.length 0 lo)).take (HT.oG its.length its.length hi-HT.oG its.length 0 lo)).toArray:=by
 obtain⟨h1,h2,h3⟩:=Ki lo hi its.toArray.size
 unfold slicePick
 rw[h1,h2,h3]
 simp only[sliceRange_one,pick_run,bZ] <;> rfl
def acU (K:ae):V->Option Int->Option Int->Hp->VK->Prop:=fun x lo hi H Q=>∃a xs,x=.ref a/\cP K H a xs/\∀p,H p=none->Q (.ref p) (upd H p (.lst (E4 xs lo hi)))
theorem Fl:SlR X (acU X.K):=by
 intro pins s σ H x v vl vu lo hi sl Q I rx hs pl pu h
 obtain⟨a,xs,rfl,hx,q⟩:=h
 cases rx
 obtain⟨its,r,ht,hz⟩:=I.list hx
 have hlen:=r.length
 refine⟨"list",_,aau.lookup,ht.isList.typeIs,?_⟩
 refine wpAny_getItem_list_slice ht.isList hs pl pu .none (by simp) ?_ (by rw[bZ] <;> omega)
 rw[Ij,<- hlen]
 refine⟨.ref s.heap.objs.size,_,I.laid (t':=s.toks) (o:=.lst (E4 xs lo hi)) (fun b ob q=>aD _ q) (aC _) ?_,rfl,q _ (I.fw.fresh (aC _))⟩
 exact⟨dA (Ob xs lo hi) hz,_,0,(r.drop (HT.oG xs.length 0 lo)).take (HT.oG xs.length xs.length hi-HT.oG xs.length 0 lo),bp _ rfl⟩
def sY:V->Bool
 | .iE=>true
 | .bl _=>true
 | .int _=>true
 | .str _=>true
 | _=>false
def LS:V->V->Bool
 | .iE,.iE=>true
 | .bl a,.bl b=>a==b
 | .bl a,.int b=>(if a then 1 else 0)==b
 | .int a,.bl b=>a==(if b then 1 else 0)
 | .int a,.int b=>a==b
 | .str a,.str b=>a==b
 | _,_=>false
theorem ZV {A:cQ} {s:ay} {y x:V} {u v:ai} (ry:RelV y u) (rx:RelV x v) (fy:sY y=true) (fx:sY x=true):TC A s u v (LS y x):=by
 cases y with
 | iE=>
  cases ry
  cases x with
  | iE=>cases rx;exact SeqAt.EqAt.same _
  | bl b=>cases rx;exact SeqAt.EqAt.none_bool b
  | int b=>obtain⟨t,rfl⟩:=rx;exact SeqAt.EqAt.none_int b t
  | str b=>obtain⟨t,rfl⟩:=rx;exact SeqAt.EqAt.none_str b t
  | _=>exact absurd (show false=true from fx) bu
 | bl a=>
  cases ry
  cases x with
  | iE=>cases rx;exact SeqAt.EqAt.bool_none a
  | bl b=>cases rx;exact SeqAt.EqAt.bool_bool a b
  | int b=>obtain⟨t,rfl⟩:=rx;exact SeqAt.EqAt.bool_int a b t
  | str b=>obtain⟨t,rfl⟩:=rx;exact SeqAt.EqAt.bool_str a b t
  | _=>exact absurd (show false=true from fx) bu
 | int a=>
  obtain⟨t',rfl⟩:=ry
  cases x with
  | iE=>cases rx;exact SeqAt.EqAt.int_none a t'
  | bl b=>cases rx;exact SeqAt.EqAt.int_bool a t' b
  | int b=>obtain⟨t,rfl⟩:=rx;exact LX a t' b t
  | str b=>obtain⟨t,rfl⟩:=rx;exact LV a t' b t
  | _=>exact absurd (show false=true from fx) bu
 | str a=>
  obtain⟨t',rfl⟩:=ry
  cases x with
  | iE=>cases rx;exact SeqAt.EqAt.str_none a t'
  | bl b=>cases rx;exact SeqAt.EqAt.str_bool a t' b
  | int b=>obtain⟨t,rfl⟩:=rx;exact LU a t' b t
  | str b=>obtain⟨t,rfl⟩:=rx;exact SeqAt.EqAt.str_str a t' b t
  | _=>exact absurd (show false=true from fx) bu
 | _=>exact absurd (show false=true from fy) bu
def WD (x:V) (u:ai):Bool:=match u with
 | .none=>LS .iE x
 | .bool b=>LS (.bl b) x
 | .int i _=>LS (.int i) x
 | .str z _=>LS (.str z) x
 | _=>false
theorem Lo {x y:V} {u:ai} (r:RelV y u) (f:sY y=true):WD x u=LS y x:=by
 cases y with
 | iE=>cases r;rfl
 | bl b=>cases r;rfl
 | int i=>obtain⟨t,rfl⟩:=r;rfl
 | str z=>obtain⟨t,rfl⟩:=r;rfl
 | _=>exact absurd (show false=true from f) bu
theorem LD {x:V}:∀{xs:List V} {us:List ai},dF xs us->xs.all sY=true->us.any (WD x)=xs.any fun y=>LS y x
 | _,_,.nil,_=>rfl
 | y::xs,u::us,.cons r t,f=>by
  rw[Ct,bL] at f
  rw[ju,ju,Lo r f.1,LD t f.2]
theorem BV {A:cQ} {s:ay} {x:V} {v:ai} (rx:RelV x v) (fx:sY x=true):∀{xs:List V} {us:List ai},dF xs us->xs.all sY=true->∀u∈us,TC A s u v (WD x u)
 | _,_,.nil,_=>fun u hu=>by cases hu
 | y::xs,u::us,.cons r t,f=>fun u' hu=>by
  rw[Ct,bL] at f
  rcases aF.mp hu with rfl | hu
  ·rw[Lo r f.1];exact ZV r rx f.1 fx
  ·exact BV rx fx t f.2 u' hu
def JI (x:V) (xs:List V):Bool:=xs.any fun y=>LS y x
def rIn (K:ae) (neg:Bool):R2:=fun x y H Q=>∃p xs,y=.ref p/\(cP K H p xs\/iC K H p xs)/\sY x=true/\xs.all sY=true/\Q (.bl (if neg then !JI x xs else JI x xs)) H
theorem pA:HN X (e_ .In) (rIn X.K false):=by
 intro pins s σ H x y v u Q I rx ry h
 obtain⟨p,xs,rfl,hq,fx,fs,q⟩:=h
 cases ry
 rcases hq with hq | hq
 ·obtain⟨its,r,pl,hz⟩:=I.list hq
  refine SeqAt.in_listAt (WD x) pl.isList (fun w hw=>BV rx fx r fs w (by simpa using hw)) ⟨.bl _,H,I,rfl,?_⟩
  rw[show its.toArray.any (WD x)=its.any (WD x) by simp,LD r fs]
  exact q
 ·obtain⟨its,r,pl,hz⟩:=I.tuple hq
  refine SeqAt.in_tupleAt (WD x) pl (fun w hw=>BV rx fx r fs w (by simpa using hw)) ⟨.bl _,H,I,rfl,?_⟩
  rw[show its.toArray.any (WD x)=its.any (WD x) by simp,LD r fs]
  exact q
theorem bF:qB X (.builtin "len") (fun xs H Q=>∃p ys,xs=[.ref p]/\(cP X.K H p ys\/iC X.K H p ys)/\Q (.int ys.length) H):=by
 intro pins s σ H xs us Q I r h
 obtain⟨p,ys,rfl,hq,q⟩:=h
 obtain⟨u,rfl,rx⟩:=vals1 r
 cases rx
 have hn:=GU
 rcases hq with hq | hq
 ·obtain⟨its,r',pl,hz⟩:=I.list hq
  have hlen:=r'.length
  exact Calls.call_len_list pl.isList (by simp only[bZ] <;> omega) ⟨.int ys.length,H,I.tok _,⟨s.toks+1,by rw[bZ,hlen]⟩,q⟩
 ·obtain⟨its,r',pl,hz⟩:=I.tuple hq
  have hlen:=r'.length
  exact len_tuple pl (by simp only[bZ] <;> omega) ⟨.int ys.length,H,I.tok _,⟨s.toks+1,by rw[bZ,hlen]⟩,q⟩
theorem Cc:qB X (.builtin "len") (fun xs H Q=>∃z,xs=[.str z]/\z.length<=ao/\Q (.int z.length) H):=by
 intro pins s σ H xs us Q I r h
 obtain⟨z,rfl,hz,q⟩:=h
 obtain⟨u,rfl,t,rfl⟩:=vals1 r
 have hn:=GU
 exact len_str (by omega) ⟨.int z.length,H,I.tok _,⟨_,rfl⟩,q⟩
def tyV (K:ae) (T:String) (x:V) (H:Hp):Prop:=match x with
 | .str _=>T="str"
 | .int _=>T="int"
 | .ref p=>(T="list"/\∃xs,cP K H p xs)\/(T="tuple"/\∃o,K.lookup p=some o/\o.cls=.type "tuple"/\o.dict=none) \/
   (T="dict"/\((∃kvs,H p=some (.dK kvs))\/∃kvs,H p=some (.dT kvs)))\/(T="set"/\∃S n,H p=some (.set S n))
 | _=>False
theorem YY {pins:List (af×Obj)} {σ:St} {H:Hp} {s:ay} {T:String} {x:V} {v:ai} (I:Inv X pins σ H s) (r:RelV x v) (ty:tyV X.K T x H) :
  s.TypeIs v T/\∀a,v=.ref a->∃ob,s.heap.get? a=some ob/\ob.dict=none:=by
 cases x with
 | str z=>
  obtain⟨t,rfl⟩:=r
  cases (show T="str" from ty)
  exact⟨qC s z t,fun _ e=>nomatch e⟩
 | int i=>
  obtain⟨t,rfl⟩:=r
  cases (show T="int" from ty)
  exact⟨typeIs_int s i t,fun _ e=>nomatch e⟩
 | ref p=>
  cases r
  rcases ty with ⟨rfl,xs,hq⟩ | ⟨rfl,o,hk,hc,hd⟩ | ⟨rfl,hk⟩ | ⟨rfl,S,n,hk⟩
  ·obtain⟨its,_,pl,_⟩:=I.list hq
   refine⟨pl.isList.typeIs,fun a e=>?_⟩
   cases e
   obtain⟨o,n,e,c,hd,_⟩:=pl
   exact⟨o,e,hd⟩
  ·refine⟨⟨o,I.K5 p o hk,hc⟩,fun a e=>?_⟩
   cases e
   exact⟨o,I.K5 _ o hk,hd⟩
  ·have z:∃o,s.heap.get? p=some o/\o.ExactDict:=by
    rcases hk with ⟨kvs,hk⟩ | ⟨kvs,hk⟩
    ·obtain⟨_,_,_,_,o,_,_,e,ex,_⟩:=I.fw p _ hk
     exact⟨o,e,ex⟩
    ·obtain⟨_,_,_,_,o,_,_,e,ex,_⟩:=I.fw p _ hk
     exact⟨o,e,ex⟩
   obtain⟨o,e,ex⟩:=z
   refine⟨⟨o,e,ex.1⟩,fun a e2=>?_⟩
   cases e2
   exact⟨o,e,ex.2.1⟩
  ·obtain⟨o,_,_,_,e,ex,_⟩:=I.fw p _ hk
   refine⟨⟨o,e,ex.1⟩,fun a e2=>?_⟩
   cases e2
   exact⟨o,e,ex.2.1⟩
 | _=>exact fo ty
def tBM (K:ae) (T:String) (r:V->List V->Hp->VK->Prop) (to:TE) (t:TA):TE:=fun σ H Q=>to σ H fun x H1=>tyV K T x H1/\t σ H1 fun xs H2=>r x xs H2 Q
variable {o e:Expr} {es:List Expr} {to:TE} {t:TA} {name:Str} {apos cpos:Pos} {T id:String} {r:V->List V->Hp->VK->Prop}
theorem j8 (pa:PlainAttrs T) (slot:Slot T name id) (hty:typeOf (.builtin id)=pure (.type "method_descriptor")) (hm:Yi X id r) (ho:PE X o to) (ha:PA X (e::es) t)
  (hbase:iU o name X.env (eval o X.env)=eval o X.env:=by rfl)
  (hfew:((kC cpos (cM (e::es) X.env)).all (fun x=>!x.1)&&(DJ cpos (qH [] X.env)).all (fun x=>x.1.isSome)
   && decide ((e::es).length+([]:List IY).length+(if ([]:List IY).isEmpty then 0 else 1)<30))=true:=by rfl)
  (hline:(apos.endLine==cpos.line)=true:=by rfl) (hs:cM (e::es) X.env=(false,eval e X.env)::cM es X.env:=by rfl) (hplain:(kC cpos (cM es X.env)).any (·.1)=false:=by rfl) :
  PE X (.Call (.Attribute o name apos) (e::es) [] cpos) (tBM X.K T r to t):=by
 intro pins s σ H Q I h
 refine wpAny_Call_method_late hbase hfew hline rfl (fU (ho pins s σ H _ I h) fun v s1 ⟨x,H1,I1,r1,ty,q1⟩=>?_)
 obtain⟨h1,h2⟩:=YY I1 r1 ty
 refine⟨T,id,pa,slot,hty,h1,h2,?_⟩
 have hA:=ha cpos pins s1 σ H1 _ I1 q1
 rw[hs] at hA ⊢
 refine gE (by show (false||(kC cpos (cM es X.env)).any (·.1))=false;rw[hplain] <;> rfl) (g_ ?_)
 exact fU hA fun us s2 ⟨vs,H2,I2,r2,q2⟩=>hm pins s2 σ H2 x vs v us Q I2 r1 r2 q2
end
end L2
namespace L2
open PySem PySem.Spec PyProof.Rows
def MtM (X:Cx) (id:String) (r:V->List V->Hp->VK->Prop):Prop:=
 ∀(pins:List (af×Obj)) (s:ay) (σ:St) (H:Hp) (x:V) (xs:List V) (v:ai) (us:List ai) (Q:VK),Inv X pins σ H s->RelV x v->dF xs us->r x xs H Q ->
  bD (model X.prog X.w) X.A (call (.builtin id) (v::us)) (EP X pins σ Q) X.xe s
theorem dF.one:∀{x:V} {us:List ai},dF [x] us->∃u,us=[u]/\RelV x u
 | _,_,.cons r .nil=>⟨_,rfl,r⟩
section
variable {X:Cx} {pins:List (af×Obj)} {σ:St} {H:Hp} {s:ay} {l b:af} {xs ys zs:List V}
theorem Inv.aba {its its':List ai} {n:Nat} {f:Array ai->Array ai} {t':Nat} (I:Inv X pins σ H s) (hH:H l=some (.lst xs))
  (e:s.heap.get? l=some { cls:=.type "list",data:=.seq its.toArray n }) (hf:f its.toArray=its'.toArray) (hv:dF ys its') (hz:ys.length<=ao) :
  Inv X pins σ (upd H l (.lst ys)) { s with heap:=s.heap.update l (Obj.mapSeq f),toks:=t' }:=by
 have q:=PySem.IsL.update e f
 rw[hf] at q
 refine I.write (x:=l) (e:=l) (by rw[hH];exact trivial) (.inl rfl) (fun b' u hb hu=>(eV s.heap (Obj.mapSeq f) (bK hb)).trans hu) ⟨_,q⟩ ?_
 exact⟨hz,its',_,hv,q⟩
theorem Inv.ac6 {its:List ai} {t':Nat} (I:Inv X pins σ H s) (hv:dF ys its) (hz:ys.length<=ao) :
  Inv X pins σ (upd H s.heap.objs.size (.lst ys)) { s with heap:=s.heap.push { cls:=.type "list",data:=.seq its.toArray },toks:=t' }:=
 I.laid (fun _ _ q=>aD _ q) (aC _) ⟨hz,its,0,hv,bp _ rfl⟩
theorem Inv.fresh (I:Inv X pins σ H s):H s.heap.objs.size=none:=I.fw.fresh (aC _)
theorem Inv.Vk (I:Inv X pins σ H s) (hH:H l=some (.lst xs)):xs.length<=ao/\∃(its:List ai) (n:Nat),dF xs its/\xs.length=its.length/\s.heap.get? l=some { cls:=.type "list",data:=.seq its.toArray n }:=by
 obtain⟨z,its,n,r,e⟩:=I.fw l _ hH
 exact⟨z,its,n,r,r.length,e⟩
theorem U9 {n:Nat} (h:n<=ao):pJ n=false:=by
 unfold pJ
 exact decide_eq_false (by omega)
end
section
variable {X:Cx}
inductive adA (x:V) (vs:List V) (H:Hp) (Q:VK):Prop
 | mk (l:af) (xs:List V) (y:V) (e:x=.ref l) (f:vs=[y]) (h:H l=some (.lst xs)) (n:xs.length<ao) (q:Q .iE (upd H l (.lst (xs++[y]))))
def Xs:V->List V->Hp->VK->Prop:=fun x vs H Q=>adA x vs H Q
theorem gC:MtM X "list.append" Xs:=by
 intro pins s σ H x vs v us Q I rx rv h
 obtain⟨l,xs,y,rfl,rfl,hH,hz,q⟩:=h
 cases rx
 obtain⟨u,rfl,ru⟩:=rv.one
 obtain⟨z,its,n,r,hl,e⟩:=I.Vk hH
 refine uV F.slot_list_append ⟨_,e,rfl⟩ F.entry_list_append (F.args_list_append_2 _ _) (PySem.list_append l its.toArray n u (by rw[bZ];omega)) ⟨e,?_⟩
 refine⟨.iE,_,I.aba (its':=its++[u]) hH e (by simp) (r.append (.cons ru .nil)) ?_,rfl,q⟩
 rw[aA,bS]
 omega
def Xq:V->List V->Hp->VK->Prop:=fun x vs H Q=>∃l b xs zs,x=.ref l/\vs=[.ref b]/\H l=some (.lst xs)/\H b=some (.lst zs)/\xs.length+zs.length<=ao/\Q .iE (upd H l (.lst (xs++zs)))
theorem pC:MtM X "list.extend" Xq:=by
 intro pins s σ H x vs v us Q I rx rv h
 obtain⟨l,b,xs,zs,rfl,rfl,hH,hB,hz,q⟩:=h
 cases rx
 obtain⟨u,rfl,ru⟩:=rv.one
 cases ru
 obtain⟨z,its,n,r,hl,e⟩:=I.Vk hH
 obtain⟨z2,its2,n2,r2,hl2,e2⟩:=I.Vk hB
 have hsz:its.toArray.size+its2.toArray.size<=ao:=by rw[bZ,bZ];omega
 have hlong:¬ (!its.toArray.isEmpty&&pJ (its.toArray.size+its2.toArray.size))=true:=by
  rw[U9 hsz,J']
  exact bu
 refine uV F.slot_list_extend ⟨_,e,rfl⟩ F.entry_list_extend (F.args_list_extend_2 _ _)
  (AutoSeq1.list_extend_list_list_0 l its.toArray n b its2.toArray n2 hlong (by rw[bZ];omega) (by omega)) ⟨e,e2,?_⟩
 refine⟨.iE,_,I.aba (its':=its++its2) hH e (by simp) (r.append r2) ?_,rfl,q⟩
 rw[aA]
 omega
def Xr:R2:=fun x y H Q=>∃l b xs zs,x=.ref l/\y=.ref b/\H l=some (.lst xs)/\H b=some (.lst zs)/\xs.length+zs.length<=ao/\∀p,H p=none->Q (.ref p) (upd H p (.lst (xs++zs)))
theorem rH:HN X (QN .Add) Xr:=by
 intro pins s σ H x y v u Q I rx ry h
 obtain⟨l,b,xs,zs,rfl,rfl,hH,hB,hz,q⟩:=h
 cases rx
 cases ry
 obtain⟨z,its,n,r,hl,e⟩:=I.Vk hH
 obtain⟨z2,its2,n2,r2,hl2,e2⟩:=I.Vk hB
 refine PySem.P.add_list e e2 ?_ (by rw[bZ,bZ];omega)
 have ea:its.toArray++its2.toArray=(its++its2).toArray:=by simp
 rw[ea]
 exact⟨.ref _,_,I.ac6 (t':=s.toks) (r.append r2) (by rw[aA];omega),rfl,q _ I.fresh⟩
end
section
variable {prog:bj} {w:bV} {A:cQ} {E:ai->ay->Prop} {s:ay}
end
section
variable {X:Cx}
end
end L2
namespace L2
open PySem PySem.Spec PyProof.Rows
theorem dF.ints:∀{ns:List Int} {us:List ai},dF (ns.map V.int) us->tE us ns
 | [],us,h=>by
  rw[fN] at h
  cases h
  exact IntsAre.nil
 | n::ns,us,h=>by
  rw[a7] at h
  cases h with
  | cons r t=>
   obtain⟨k,rfl⟩:=r
   exact IntsAre.cons n k (dF.ints t)
theorem Bw:∀{us:List ai} {ns:List Int},tE us ns->dF (ns.map V.int) us
 | _,_,.nil=>by rw[fN];exact Paired.nil
 | _,_,.cons n t h=>by rw[a7];exact Paired.cons (show RelV (V.int n) (l6 n t) from ⟨t,rfl⟩) (Bw h)
theorem dF.bls:∀{bs:List Bool} {us:List ai},dF (bs.map V.bl) us->us=bs.map j7
 | [],us,h=>by
  rw[fN] at h
  cases h
  rfl
 | b::bs,us,h=>by
  rw[a7] at h
  cases h with
  | cons r t=>
   cases r
   rw[dF.bls t,a7]
theorem dF.MN {a:af} {us:List ai} (r:dF [V.ref a] us):us=[bE a]:=by
 cases r with
 | cons r t=>
  cases t
  cases r
  rfl
section
variable {prog:bj} {w:bV} {A:cQ} {E:ai->ay->Prop} {s:ay} {l:af} {its:List ai} {ns:List Int} {Q:ai->ay->Prop}
end
section
variable {X:Cx}
def Xn (K:ae):List V->Hp->VK->Prop:=fun vs H Q=>∃(a:af) (ns:List Int),vs=[V.ref a]/\cP K H a (ns.map V.int)/\ns.length<64 /\
 ∀(ns':List Int) (p:af),ns'.Perm ns->ns'.Pairwise (·<=·)->H p=none->Q (.ref p) (upd H p (.lst (ns'.map V.int)))
theorem Xh {n:Nat} (h:n<64):n<=ao:=by rw[bI];omega
theorem Te:qB X (.builtin "sorted") (Xn X.K):=by
 intro pins s σ H vs us Q I r h
 obtain⟨a,ns,rfl,hs,h64,q⟩:=h
 obtain⟨its,rv,hl,_⟩:=I.list hs
 rw[dF.MN r]
 have hi:=rv.ints
 refine acq hl.isList hi (by rw[hi.length];exact h64) fun out ns' h1 h2 h3=>?_
 obtain⟨ep,he'⟩:=acs s.heap its out
 have hlen:(ns'.map V.int).length<=ao:=by rw[aa,h2.length_eq];exact Xh h64
 exact⟨.ref _,upd H (s.heap.objs.size+1) (.lst (ns'.map V.int)),I.laid (t':=s.toks) (fun _ _=>acr) (tH _) ⟨hlen,out.toList,ep,Bw h1,he'⟩,rfl,q ns' _ h2 h3 (I.fw.fresh (tH _))⟩
end
section
variable {X:Cx}
def Zn (K:ae):V->List V->Hp->VK->Prop:=fun x xs H Q=>∃(a:af) (ys:List V) (y:V) (j:Nat) (z:V),x=V.ref a/\xs=[y]/\cP K H a ys/\sY y=true/\ys.all sY=true/\ys[j]?=some z/\LS z y=true /\
 (∀(m:Nat) (z':V),m<j->ys[m]?=some z'->LS z' y=false)/\Q (.int (j:Nat)) H
theorem RR {ys:List V} (f:ys.all sY=true) {j:Nat} {z:V} (h:ys[j]?=some z):sY z=true:=cI.mp f z (aN h)
theorem NB:Yi X "list.index" (Zn X.K):=by
 intro pins s σ H x xs v us Q I rx rxs h
 obtain⟨a,ys,y,j,z,rfl,rfl,hs,fy,fys,hz,hzj,hno,q⟩:=h
 cases rx
 cases rxs with
 | cons ry rt=>
  rename_i uy ut
  cases rt
  obtain⟨its,rv,⟨⟨cls,dd,data,sl⟩,n,ho,hc,hdn,hd⟩,hlen⟩:=I.list hs
  simp only at hc hd
  subst hc hd
  obtain⟨u,hu,ru⟩:=rv.get hz
  obtain⟨hjl,hje⟩:=ax.mp hu
  have hvl:=rv.length
  have hj:j<its.toArray.size:=by simpa using hjl
  have hsl:=bI
  refine uV tw ⟨_,ho,rfl⟩ PySem.F.entry_list_index (PySem.F.args_list_index_2 _ _)
   (SeqAt.list_indexAt a its.toArray n dd sl uy (WD y) j hj (by omega) ?_ ?_) ⟨ho,fun u' hu'=>BV ry fy rv fys u' (by simpa using hu'),?_⟩
  ·have e1:its.toArray[j]=u:=by simpa using hje
   rw[e1,Lo ru (RR fys hz)]
   exact hzj
  ·intro m hm hmj
   have hml:m<its.length:=by simpa using hm
   have hmy:m<ys.length:=by omega
   have hy':ys[m]?=some ys[m]:=aR hmy
   obtain⟨u2,hu2,ru2⟩:=rv.get hy'
   obtain⟨_,hme⟩:=ax.mp hu2
   have e1:its.toArray[m]=u2:=by simpa using hme
   rw[e1,Lo ru2 (RR fys hy')]
   exact hno m _ hmj hy'
  ·exact⟨.int (j:Nat),H,I.tok _,⟨_,rfl⟩,q⟩
end
section
variable {X:Cx}
end
theorem NO {prog:bj} {w:bV} {A:cQ} {E:ai->ay->Prop} {s:ay} {l:af} {items:Array ai} {Q:ai->ay->Prop} (hl:s.heap.IsList l items)
  (h:∀s₂:ay,s₂={ s with heap:=s.heap.push { cls:=.type "list_iterator",data:=.fields #[.ref l,.int 0 0] } } ->
   (s₂.heap.IsListIter s.heap.objs.size l 0/\s₂.heap.IsList l items)->l≠s.heap.objs.size->Q (.ref s.heap.objs.size) s₂):bD (model prog w) A (Wr (.ref l)) Q E s:=by
 have hlt:l<s.heap.objs.size:=by obtain⟨_,e,_⟩:=hl;exact bo e
 exact kD hl (h _ rfl ⟨⟨_,bp _ rfl,rfl,rfl⟩,hl.push _⟩ (cv hlt))
theorem DP {prog:bj} {w:bV} {A:cQ} {bs:List Bool} {its:List ai} (e:its=bs.map j7) :
  TruthOf prog w A (fun i v=>its.toArray[i]?=some v) (fun i=>bs.getD i false):=fun i v s Q E hv hq=>by
 have hv':its[i]?=some v:=by simpa using hv
 rw[e,aX] at hv'
 obtain⟨b,hb,rfl⟩:=vw.mp hv'
 have hg:bs.getD i false=b:=by rw[b_,hb] <;> rfl
 have hq':Q (bs.getD i false) s:=hq
 rw[hg] at hq'
 exact fk hq'
theorem any_range:∀bs:List Bool,(be bs.length).any (fun i=>bs.getD i false)=bs.any id
 | []=>rfl
 | b::bs=>by
  rw[aG,OR,ju,OS,ju,<- any_range bs]
  all_goals rfl
theorem all_range:∀bs:List Bool,(be bs.length).all (fun i=>bs.getD i false)=bs.all id
 | []=>rfl
 | b::bs=>by
  rw[aG,OR,Ct,mU,Ct,<- all_range bs]
  all_goals rfl
section
variable {X:Cx}
def acZ (K:ae):List V->Hp->VK->Prop:=fun vs H Q=>∃(a:af) (bs:List Bool),vs=[V.ref a]/\cP K H a (bs.map V.bl)/\Q (.bl (bs.any id)) H
def ac0 (K:ae):List V->Hp->VK->Prop:=fun vs H Q=>∃(a:af) (bs:List Bool),vs=[V.ref a]/\cP K H a (bs.map V.bl)/\Q (.bl (bs.all id)) H
theorem Z4 (hc:X.calm=true):qB X (.builtin "any") (acZ X.K):=by
 intro pins s σ H vs us Q I r h
 obtain⟨a,bs,rfl,hs,q⟩:=h
 obtain⟨its,rv,hl,_⟩:=I.list hs
 rw[dF.MN r]
 have hb:=rv.bls
 refine call_any_walk (NO hl.isList fun s₂ e2 st hne=>?_)
 subst e2
 refine⟨_,_,_,_,_,_,_,rfl,IU (A:=X.A.in1) (I.ok.hd hc) _ a hne its.toArray,st,DP hb,fun h' tk hk=>?_⟩
 refine⟨.bl _,H,I.kept fun b o eo=>hk b o (fun hmem=>?_) (aD _ eo),?_,q⟩
 ·rcases aF.mp hmem with e1 | hmem
  ·exact absurd (e1▸bo eo) (fj _)
  ·cases hmem
 ·show j7 _=j7 _
  rw[<- any_range,hb,bZ,aa]
theorem Qn (hc:X.calm=true):qB X (.builtin "all") (ac0 X.K):=by
 intro pins s σ H vs us Q I r h
 obtain⟨a,bs,rfl,hs,q⟩:=h
 obtain⟨its,rv,hl,_⟩:=I.list hs
 rw[dF.MN r]
 have hb:=rv.bls
 refine call_all_walk (NO hl.isList fun s₂ e2 st hne=>?_)
 subst e2
 refine⟨_,_,_,_,_,_,_,rfl,IU (A:=X.A.in1) (I.ok.hd hc) _ a hne its.toArray,st,DP hb,fun h' tk hk=>?_⟩
 refine⟨.bl _,H,I.kept fun b o eo=>hk b o (fun hmem=>?_) (aD _ eo),?_,q⟩
 ·rcases aF.mp hmem with e1 | hmem
  ·exact absurd (e1▸bo eo) (fj _)
  ·cases hmem
 ·show j7 _=j7 _
  rw[<- all_range,hb,bZ,aa]
end
mutual
inductive Dp (K:ae) (H:Hp):V->DN->Prop
 | iE:Dp K H .iE .none
 | bl (b:Bool):Dp K H (.bl b) (.bool b)
 | int (i:Int):Dp K H (.int i) (.int i)
 | str (x:Str):Dp K H (.str x) (.str x)
 | lst {a:af} {xs:List V} {ds:List DN}:cP K H a xs->J3 K H xs ds->Dp K H (.ref a) (.list ds)
 | tup {a:af} {xs:List V} {ds:List DN}:iC K H a xs->J3 K H xs ds->Dp K H (.ref a) (.tuple ds)
inductive J3 (K:ae) (H:Hp):List V->List DN->Prop
 | nil:J3 K H [] []
 | cons {v:V} {vs:List V} {d:DN} {ds:List DN}:Dp K H v d->J3 K H vs ds->J3 K H (v::vs) (d::ds)
end
section
variable {X:Cx} {pins:List (af×Obj)} {σ:St} {H:Hp} {s:ay}
mutual
theorem Dp.reads (I:Inv X pins σ H s):∀(d:DN) (v:V) (u:ai),Dp X.K H v d->RelV v u->∃as,Reads s.heap u d as
 | .none,_,_,h,r=>by
  cases h
  cases r
  exact⟨_,Reads.none⟩
 | .bool b,_,_,h,r=>by
  cases h
  cases r
  exact⟨_,Reads.bool b⟩
 | .int i,_,_,h,r=>by
  cases h
  obtain⟨t,rfl⟩:=r
  exact⟨_,Reads.int i t⟩
 | .str x,_,_,h,r=>by
  cases h
  obtain⟨t,rfl⟩:=r
  exact⟨_,Reads.str x t⟩
 | .list ds,_,_,h,r=>by
  cases h with
  | lst hs ha=>
   cases r
   obtain⟨its,rv,⟨o,n,ho,hc,_,hd⟩,_⟩:=I.list hs
   obtain⟨as,hr⟩:=Dp.readsAll I ds _ its ha rv
   exact⟨_,Reads.list ho hc hd hr⟩
 | .tuple ds,_,_,h,r=>by
  cases h with
  | tup hs ha=>
   cases r
   obtain⟨its,rv,⟨o,ho,hc,n,hd⟩,_⟩:=I.tuple hs
   obtain⟨as,hr⟩:=Dp.readsAll I ds _ its ha rv
   exact⟨_,Reads.tuple ho hc hd hr⟩
 | .dict _,_,_,h,_=>by cases h
theorem Dp.readsAll (I:Inv X pins σ H s):∀(ds:List DN) (vs:List V) (us:List ai),J3 X.K H vs ds->dF vs us->∃as,ReadsAll s.heap us ds as
 | [],_,_,h,r=>by
  cases h
  cases r
  exact⟨_,ReadsAll.nil⟩
 | d::ds,_,_,h,r=>by
  cases h with
  | cons h1 h2=>
   cases r with
   | cons r1 r2=>
    obtain⟨as,q1⟩:=Dp.reads I d _ _ h1 r1
    obtain⟨bs,q2⟩:=Dp.readsAll I ds _ _ h2 r2
    exact⟨_,ReadsAll.cons q1 q2⟩
end
end
section
variable {X:Cx}
def acV (K:ae):R2:=fun x y H Q=>∃d e,Dp K H x d/\Dp K H y e/\DL d=true/\DL e=true/\Q (.bl (!vt d e)) H
theorem U7 (hu:X.A.units+64<pE):HN X (e_ .NotEq) (acV X.K):=by
 intro pins s σ H x y v u Q I rx ry h
 obtain⟨d,e,hd,he,sd,se,q⟩:=h
 obtain⟨as,r1⟩:=Dp.reads I d x v hd rx
 obtain⟨bs,r2⟩:=Dp.reads I e y u he ry
 exact SeqAt.compareNe_shaped r1 r2 sd se hu ⟨.bl _,H,I,rfl,q⟩
end
end L2
namespace L2
open PySem PySem.Spec PyProof.Rows
abbrev Wn (h:cX) (c:af) (v:Option ai):Prop:=h.IsCell c v
def acT (scope sc:kG):kG:=
 { scope with names:=scope.names.map fun (n,k)=>if (k==.free&&sc.kind==.function&&sc.names.lookup n==some .cell) then (n,.cell) else (n,k) }
def fW (cells:List (Str×af)):List (Str×iH)->List (Str×af)->List (Str×af)
 | [],acc=>acc
 | (n,k)::r,acc=>if k==.free then fW cells r ((n,(cells.lookup n).getD 0)::acc) else fW cells r acc
theorem Ca (env:Env) (f:Str×iH->List (Str×af)->Sem (ForInStep (List (Str×af))))
  (hf:∀n k c,f (n,k) c=if k==.free then (do let a <- cellOf env n;pure (.yield ((n,a)::c))) else pure (.yield c)) :
  ∀(names:List (Str×iH)) (acc:List (Str×af)),(∀y∈names,y.2=.free->∃c,env.cells.lookup y.1=some c)->forIn names acc f=pure (fW env.cells names acc)
 | [],acc,_=>by rw[zO];rfl
 | (n,k)::r,acc,h=>by
  rw[Ic,hf]
  have ih:=fun acc=>Ca env f hf r acc fun y hy=>h y (aE _ hy)
  unfold fW
  by_cases hk:(k==nP)=true
  ·rw[if_pos hk,if_pos hk]
   obtain⟨c,hc⟩:=h (n,k) bz (by simpa using hk)
   have e:cellOf env n=pure c:=by unfold cellOf;rw[hc]
   rw[e]
   have e2:(env.cells.lookup n).getD 0=c:=by rw[hc];rfl
   rw[e2]
   exact ih _
  ·rw[if_neg hk,if_neg hk]
   exact ih _
theorem Qo {scope:kG} {env:Env} (h:∀y∈scope.names,y.2=.free->∃c,env.cells.lookup y.1=some c):closureFor scope env=pure (fW env.cells scope.names []):=by
 simp only[closureFor]
 rw[Ca env _ (fun n k c=>rfl) scope.names [] h]
 rfl
theorem mem_lookup {α:Type}:∀{l:List (Str×α)} {n:Str} {c:α},(n,c)∈l->∃c',l.lookup n=some c'
 | (k,v)::r,n,c,h=>by
  rw[iL]
  cases hb:n==k with
  | true=>exact⟨_,rfl⟩
  | false=>
   rcases aF.mp h with e | h
   ·cases e;simp at hb
   ·exact mem_lookup h
theorem q_ {cells:List (Str×af)}:∀{names:List (Str×iH)} {acc:List (Str×af)} {n:Str} {c:af},(n,c)∈fW cells names acc->(n,c)∈acc\/((n,.free)∈names/\c=(cells.lookup n).getD 0)
 | [],_,_,_,h=>.inl h
 | (m,k)::r,acc,n,c,h=>by
  unfold fW at h
  split at h
  ·rename_i hk
   have hk:k=.free:=by simpa using hk
   rcases q_ h with h | ⟨h1,h2⟩
   ·rcases aF.mp h with e | h
    ·cases e;exact .inr ⟨hk▸bz,rfl⟩
    ·exact .inl h
   ·exact .inr ⟨aE _ h1,h2⟩
  ·rcases q_ h with h | ⟨h1,h2⟩
   ·exact .inl h
   ·exact .inr ⟨aE _ h1,h2⟩
theorem yk {cells:List (Str×af)}:∀{names:List (Str×iH)} {acc:List (Str×af)} {p:Str×af},p∈acc->p∈fW cells names acc
 | [],_,_,h=>h
 | (m,k)::r,acc,p,h=>by
  unfold fW
  split
  ·exact yk (aE _ h)
  ·exact yk h
theorem yj {cells:List (Str×af)}:∀{names:List (Str×iH)} {acc:List (Str×af)} {n:Str},(n,.free)∈names->(n,(cells.lookup n).getD 0)∈fW cells names acc
 | (m,k)::r,acc,n,h=>by
  unfold fW
  rcases aF.mp h with e | h
  ·cases e
   exact yk bz
  ·split
   ·exact yj h
   ·exact yj h
theorem sZ:∀{names:List (Str×iH)} {h:cX} {acc:List (Str×af)} {x:Str} {c:af},(x,c)∈fc h.objs.size names acc ->
  (x,c)∈acc\/((x,.cell)∈names/\h.objs.size<=c/\Wn (tG h names) c none)
 | [],_,_,_,_,h=>.inl h
 | (n,k)::r,h,acc,x,c,hm=>by
  unfold fc at hm
  unfold tG
  split at hm
  ·rename_i hk
   rw[if_pos hk]
   have hk:k=.cell:=by simpa using hk
   rw[<- cR h { cls:=.type "cell",data:=.cell none }] at hm
   rcases sZ hm with hm | ⟨h1,h2,h3⟩
   ·rcases aF.mp hm with e | hm
    ·cases e
     exact .inr ⟨hk▸bz,aC _,_,Bp r _ _ _ (bp _ rfl),rfl⟩
    ·exact .inl hm
   ·rw[cR] at h2
    exact .inr ⟨aE _ h1,tI h2,h3⟩
  ·rename_i hk
   rw[if_neg hk]
   rcases sZ hm with hm | ⟨h1,h2,h3⟩
   ·exact .inl hm
   ·exact .inr ⟨aE _ h1,h2,h3⟩
theorem yU:∀{names:List (Str×iH)} {n:Nat} {acc:List (Str×af)} {p:Str×af},p∈acc->p∈fc n names acc
 | [],_,_,_,h=>h
 | (m,k)::r,n,acc,p,h=>by
  unfold fc
  split
  ·exact yU (aE _ h)
  ·exact yU h
theorem Dx:∀{names:List (Str×iH)} {n:Nat} {acc:List (Str×af)} {x:Str},(x,.cell)∈names->∃c,(x,c)∈fc n names acc
 | (m,k)::r,n,acc,x,h=>by
  unfold fc
  rcases aF.mp h with e | h
  ·cases e
   exact⟨n,yU bz⟩
  ·split
   ·exact Dx h
   ·exact Dx h
theorem Dv:∀{names:List (Str×iH)} {h:cX} {acc:List (Str×af)} {x y:Str} {c:af},(∀p∈acc,p.2<h.objs.size)->(∀x y c,(x,c)∈acc->(y,c)∈acc->x=y) ->
  (x,c)∈fc h.objs.size names acc->(y,c)∈fc h.objs.size names acc->x=y
 | [],_,_,_,_,_,_,hi,h1,h2=>hi _ _ _ h1 h2
 | (n,k)::r,h,acc,x,y,c,hl,hi,h1,h2=>by
  unfold fc at h1 h2
  split at h1
  ·rename_i hk
   rw[if_pos hk] at h2
   rw[<- cR h { cls:=.type "cell",data:=.cell none }] at h1 h2
   refine Dv (h:=h.push _) (fun p hp=>?_) (fun x y c a b=>?_) h1 h2
   ·rw[cR]
    rcases aF.mp hp with rfl | hp
    ·exact oZ _
    ·exact hZ (hl p hp)
   ·rcases aF.mp a with e | a <;> rcases aF.mp b with e' | b
    ·cases e;cases e';rfl
    ·cases e;exact absurd (hl _ b) (fj _)
    ·cases e';exact absurd (hl _ a) (fj _)
    ·exact hi _ _ _ a b
  ·rename_i hk
   rw[if_neg hk] at h2
   exact Dv hl hi h1 h2
theorem NA {M:aaD} {A:cQ} {E:ai->ay->Prop} {s:ay} {scope:kG} {globals:af} {closure:List (Str×af)} {qual:Str} {func:Option af} {code:ai} {around:Env} {builtins:af} {Q:Env->ay->Prop}
  (h:Q (newEnv scope s.heap.objs.size globals (fc (s.heap.objs.size+1) scope.names closure) qual func code (some around) builtins)
   { s with heap:=tG (s.heap.push { cls:=.type "dict",data:=.dict #[] }) scope.names }) :
  bD M A (newFunctionEnv scope globals closure [] qual func code (some around) builtins) Q E s:=by
 simp only[newFunctionEnv,R8,if_true]
 refine ah (wpAny_alloc ?_)
 refine ah (wpAny_layCells _ (fun n k c=>rfl) scope.names closure _ _ ?_)
 rw[show ({ s with heap:=s.heap.push { cls:=.type "dict",data:=.dict #[] } }:ay).heap.objs.size=s.heap.objs.size+1 from cR ..]
 rw[zO]
 exact ah (aH (aH h))
theorem xE {sc:kG}:∀{names:List (Str×iH)} {x:Str} {k:iH},
  (names.map fun (n,k)=>if (k==nP&&sc.kind==.function&&sc.names.lookup n==some .cell) then (n,Ia) else (n,k)).lookup x=some k ->
  ∃k',names.lookup x=some k'/\(k=k'\/(k'=.free/\k=.cell))
 | [],_,_,h=>by simp at h
 | (n,k₀)::r,x,k,h=>by
  have ih:=@xE sc r x k
  have h':mK x ((if (k₀==nP&&sc.kind==.function&&sc.names.lookup n==some .cell)=true then (n,Ia) else (n,k₀))::(r.map _))=some k:=h
  cases hx:x==n with
  | true=>
   simp only[iL,hx]
   by_cases hc:(k₀==nP&&sc.kind==.function&&sc.names.lookup n==some .cell)=true
   ·rw[if_pos hc] at h'
    simp only[iL,hx] at h'
    cases h'
    simp only[bL,beq_iff_eq] at hc
    exact⟨k₀,rfl,.inr ⟨hc.1.1,rfl⟩⟩
   ·rw[if_neg hc] at h'
    simp only[iL,hx] at h'
    cases h'
    exact⟨_,rfl,.inl rfl⟩
  | false=>
   simp only[iL,hx]
   by_cases hc:(k₀==nP&&sc.kind==.function&&sc.names.lookup n==some .cell)=true
   ·rw[if_pos hc] at h'
    simp only[iL,hx] at h'
    exact ih h'
   ·rw[if_neg hc] at h'
    simp only[iL,hx] at h'
    exact ih h'
structure OD (N:List Str) (sc scope:kG) (own:List (Str×Nat)):Prop where
 kind:scope.kind=.function
 uniq:∀y∈scope.names,scope.names.lookup y.1=some y.2
 ix:∀p∈own,N[p.2]?=some p.1
 free:∀y∈scope.names,y.2=.free->sc.names.lookup y.1=some .cell\/sc.names.lookup y.1=some .free
 own:∀y∈scope.names,y.2=.local\/y.2=.cell->y.1∈own.map (·.1)\/y.1∉N
def wipe (σ:St):List Nat->St
 | []=>σ
 | v::vs=>(wipe σ vs).set v none
theorem v9 (σ:St):∀vs:List Nat,(wipe σ vs).length=σ.length
 | []=>rfl
 | v::vs=>by unfold wipe;rw[pI,v9 σ vs]
theorem Cy {σ:St} {i:Nat} {x:V}:∀{vs:List Nat},(wipe σ vs)[i]?=some (some x)->σ[i]?=some (some x)/\i∉vs
 | [],h=>⟨h,by simp⟩
 | v::vs,h=>by
  unfold wipe at h
  by_cases hi:v=i
  ·subst hi
   by_cases hv:v<(wipe σ vs).length
   ·rw[mS hv] at h;cases h
   ·rw[y6 (by simpa using hv)] at h;cases h
  ·rw[o8 hi] at h
   obtain⟨h1,h2⟩:=Cy h
   exact⟨h1,by simp only[aF,not_or];exact⟨fun e=>hi e.symm,h2⟩⟩
abbrev Cx.Lv (X:Cx) (s:ay) (H:Hp) (scope:kG) (cenv:Env) (fp:List af):Cx:={ X with Js:=s,H_0:=H,env:=cenv,outer:=X.stack,ex:=fp,fn:=fun x=>scope.names.lookup x==some .cell,pn:=[],xe:=fun _ _=>False }
section
variable {X:Cx} {pins:List (af×Obj)} {σ:St} {H:Hp} {s:ay}
theorem Oj {scope:kG} {own:List (Str×Nat)} {fp:List af} (I:Inv X pins σ H s) (ok:OD X.N X.env.scope scope own) (hN:X.N.Nodup) (hfp:∀b∈fp,E8 X pins H b/\b<s.heap.objs.size) :
  Inv (X.Lv s H scope (lQ scope (fc (s.heap.objs.size+1) scope.names (fW X.env.cells scope.names [])) s.heap.objs.size X.env) fp) [] (wipe σ (own.map (·.2))) H { s with heap:=tG (s.heap.push { cls:=.type "dict",data:=.dict #[] }) scope.names }:=by
 have hfree:∀y∈scope.names,y.2=.free->∃c,X.env.cells.lookup y.1=some c:=fun y hy e=>by
  rcases ok.free y hy e with k | k
  ·exact I.ok.has _ (.inl k)
  ·exact I.ok.has _ (.inr k)
 generalize hcenv:lQ scope (fc (s.heap.objs.size+1) scope.names (fW X.env.cells scope.names [])) s.heap.objs.size X.env=cenv
 have kp:∀b o,s.heap.get? b=some o->(tG (s.heap.push { cls:=.type "dict",data:=.dict #[] }) scope.names).get? b=some o:=fun b o e=>Bp _ _ _ _ (aD _ e)
 have hL:cenv.locals=s.heap.objs.size:=by rw[<- hcenv];rfl
 have hcl:cenv.cells=fc (s.heap.objs.size+1) scope.names (fW X.env.cells scope.names []):=by rw[<- hcenv];rfl
 have hsc:cenv.scope=acT scope X.env.scope:=by rw[<- hcenv];rfl
 rw[<- cR s.heap { cls:=.type "dict",data:=.dict #[] }] at hcl
 have cm:∀{y c},(y,c)∈fW X.env.cells scope.names []->X.env.cells.lookup y=some c/\c<s.heap.objs.size:=fun {y c} hm=>by
  rcases q_ hm with hm | ⟨h1,rfl⟩
  ·cases hm
  ·obtain⟨c,hc⟩:=hfree _ h1 rfl
   rw[hc]
   obtain⟨w,z⟩:=I.cell _ _ hc
   exact⟨rfl,z.lt⟩
 have mem:∀{y c},cenv.cells.lookup y=some c->(X.env.cells.lookup y=some c/\c<s.heap.objs.size)\/(s.heap.objs.size+1<=c/\Wn (tG (s.heap.push { cls:=.type "dict",data:=.dict #[] }) scope.names) c none):=fun {y c} e=>by
  rw[hcl] at e
  rcases sZ (cO e) with hm | ⟨_,h2,h3⟩
  ·exact .inl (cm hm)
  ·rw[cR] at h2;exact .inr ⟨h2,h3⟩
 have look:∀{y},scope.names.lookup y=some .free->∃c,cenv.cells.lookup y=some c/\X.env.cells.lookup y=some c:=fun {y} hl=>by
  have hy:(y,nP)∈scope.names:=cO hl
  obtain⟨c',e'⟩:=mem_lookup (yU (names:=scope.names) (n:=(s.heap.push { cls:=.type "dict",data:=.dict #[] }).objs.size) (yj (cells:=X.env.cells) (acc:=[]) hy))
  rw[<- hcl] at e'
  refine⟨c',e',?_⟩
  rw[hcl] at e'
  rcases sZ (cO e') with hm | ⟨h1,_,_⟩
  ·exact (cm hm).1
  ·have:=ok.uniq _ h1
   rw[hl] at this;cases this
 have okB:(X.Lv s H scope cenv fp).Ok:=by
  refine⟨I.ok.mod,by show cenv.scope.kind=_;rw[hsc];exact ok.kind,by show cenv.globals=_;rw[<- hcenv];exact I.ok.glob,by show cenv.builtins=_;rw[<- hcenv];exact I.ok.blt,by show s.heap.objs.size<=cenv.locals;rw[hL];exact aC _,
   fun y z c e1 e2=>?_,fun y hy=>?_,fun y c z e=>?_,I.ok.hd,I.ok.frames,.inl rfl,fun b hb=>⟨?_,fun y c e z=>?_⟩,I.bs,dA I.ok.WE I.sz,fun b o e hb=>?_,fun b hb z=>?_,I.stack,I.Q5⟩
  ·have e1:cenv.cells.lookup y=some c:=e1
   have e2:cenv.cells.lookup z=some c:=e2
   rw[hcl] at e1 e2
   refine Dv (fun p hp=>?_) (fun y z c a b=>I.ok.inj y z c (cm a).1 (cm b).1) (cO e1) (cO e2)
   rw[cR]
   exact hZ (cm (y:=p.1) (c:=p.2) hp).2
  ·show ∃c,cenv.cells.lookup y=some c
   have key:∀k,cenv.kindOf y=some k->(k=.cell\/k=.free)->∃c,cenv.cells.lookup y=some c:=fun k hk hk'=>by
    unfold Env.kindOf at hk
    rw[hsc] at hk
    obtain⟨k',e,r⟩:=xE hk
    have:k'=.cell\/k'=.free:=by
     rcases r with rfl | ⟨rfl,_⟩
     ·exact hk'
     ·exact .inr rfl
    rcases this with rfl | rfl
    ·obtain⟨c,hm⟩:=Dx (n:=(s.heap.push { cls:=.type "dict",data:=.dict #[] }).objs.size) (acc:=fW X.env.cells scope.names []) (cO e)
     obtain⟨c',e'⟩:=mem_lookup hm
     exact⟨c',by rw[hcl];exact e'⟩
    ·obtain⟨c,h1,_⟩:=look e
     exact⟨c,h1⟩
   rcases hy with hy | hy
   ·exact key _ hy (.inl rfl)
   ·exact key _ hy (.inr rfl)
  ·have z:(scope.names.lookup y==some Ia)=true:=z
   have z:scope.names.lookup y=some .cell:=by simpa using z
   have e:cenv.cells.lookup y=some c:=e
   rw[hcl] at e
   rcases sZ (cO e) with hm | ⟨_,h2,_⟩
   ·rcases q_ hm with hm | ⟨h1,_⟩
    ·cases hm
    ·have q:=ok.uniq _ h1
     rw[z] at q;cases q
   ·rw[cR] at h2
    exact tI h2
  ·show b≠cenv.locals
   rw[hL];exact cv (hfp b hb).2
  ·have e:cenv.cells.lookup y=some c:=e
   rcases mem e with ⟨h1,_⟩ | ⟨h1,_⟩
   ·exact (hfp b hb).1.2.2.2.2.1 y c h1 z
   ·have h2:s.heap.objs.size+1<=b:=by rw[<- z];exact h1
    exact absurd (cE (hfp b hb).2 (tI h2)) (fj _)
  ·rcases (hfp b hb).1.2.2.2.1 with z | z
   ·exact I.ok.U_ b o e z
   ·exact absurd (cE (bo e) (dA I.ok.WE z)) (fj _)
  ·rcases aF.mp (I.O6 b z) with z | z
   ·exact (hfp b hb).1.2.1 z
   ·exact (hfp b hb).1.2.2.1 z
 refine⟨okB,rfl,I.bare,Un.kept kp,⟨fun _=>none,?_,fun i y av e1 e2 e3=>?_⟩,fun y c e=>?_,?_,fun y c e=>?_,fun p hp=>?_,I.fw.kept kp,by rw[v9];exact I.len⟩
 ·show Heap.Ns _ cenv.locals _
  rw[hL]
  exact Heap.Ns.keeps (Heap.Ns.new ..) fun b o e=>Bp _ _ _ _ e
 ·obtain⟨e2,hne⟩:=Cy e2
  have hfr:scope.names.lookup y=some .free/\(cenv.kindOf y=some .cell\/cenv.kindOf y=some .free):=by
   have key:∀k,cenv.scope.names.lookup y=some k->k=.local\/k=.cell\/k=.free->scope.names.lookup y=some .free/\(cenv.kindOf y=some .cell\/cenv.kindOf y=some .free):=fun k hk hk'=>by
    have hk0:=hk
    rw[hsc] at hk
    obtain⟨k',e,r⟩:=xE hk
    have no:¬ (k'=.local\/k'=.cell):=fun hh=>by
     rcases ok.own _ (cO e) hh with e' | e'
     ·obtain⟨p,hp,hpy⟩:=a9.mp e'
      have e3:=ok.ix p hp
      have:p.1=y:=hpy
      rw[this] at e3
      exact hne (a9.mpr ⟨p,hp,GA hN e3 e1⟩)
     ·exact e' (aN e1)
    rcases r with rfl | ⟨rfl,rfl⟩
    ·rcases hk' with rfl | rfl | rfl
     ·exact absurd (.inl rfl) no
     ·exact absurd (.inr rfl) no
     ·exact⟨e,.inr hk0⟩
    ·exact⟨e,.inl hk0⟩
   have e3:Vis cenv.scope y:=e3
   rcases e3 with e3 | e3 | e3
   ·exact key _ e3 (.inl rfl)
   ·exact key _ e3 (.inr (.inl rfl))
   ·exact key _ e3 (.inr (.inr rfl))
  obtain⟨m,hn,hl⟩:=I.loc
  have hvis:Vis X.env.scope y:=(ok.free _ (cO hfr.1) rfl).elim (fun k=>.inr (.inl k)) (fun k=>.inr (.inr k))
  obtain⟨w,r,q⟩:=hl i y av e1 e2 hvis
  refine⟨w,r,.inr ⟨hfr.2,?_⟩⟩
  obtain⟨c,h1,h2⟩:=look hfr.1
  rcases q with ⟨k,_⟩ | ⟨_,c',e',z⟩
  ·have k:X.env.scope.names.lookup y=some .local:=k
   rcases ok.free _ (cO hfr.1) rfl with k' | k' <;> rw[show X.env.scope.names.lookup y=_ from k'] at k <;> cases k
  ·rw[h2] at e';cases e'
   exact⟨c,h1,z.keeps kp⟩
 ·have e:cenv.cells.lookup y=some c:=e
  rcases mem e with ⟨h1,_⟩ | ⟨_,z⟩
  ·obtain⟨w,z⟩:=I.cell y c h1
   exact⟨w,z.keeps kp⟩
  ·exact⟨_,z⟩
 ·show H cenv.locals=none
  rw[hL];exact I.fw.fresh (aC _)
 ·have e:cenv.cells.lookup y=some c:=e
  rcases mem e with ⟨h1,_⟩ | ⟨h1,_⟩
  ·exact I.xP y c h1
  ·exact I.fw.fresh (tI h1)
 ·exact absurd (show p∈([]:List (af×Obj))++[] from hp) (by simp)
theorem Z_ {E:ai->ay->Prop} {D:af} {xs:List V} {y:V} {v:ai} {Q:ai->ay->Prop} (I:Inv X pins σ H s) (hD:H D=some (.lst xs)) (hz:xs.length<ao) (r:RelV y v)
  (h:∀s',Inv X pins σ (upd H D (.lst (xs++[y]))) s'->Q .none s'):bD (model X.prog X.w) X.A (call (.builtin "list.append") [.ref D,v]) Q E s:=by
 obtain⟨hz',its,n,ri,e⟩:=I.fw D _ hD
 have hl:=ri.length
 refine append_at (hsz:=by rw[bZ];omega) e fun h' sb ho'=>?_
 refine h { s with heap:=h' } (I.write (t':=s.toks) (by rw[hD];trivial) (.inl rfl) (fun b u hb q=>(sb.2 b hb).trans q) ⟨_,ho'⟩ ⟨by rw[aA];exact hz,its++[v],n+1,ri.append (.cons r .nil),?_⟩)
 rw[ho']
 simp
def PTs (X:Cx) (ifs:List Expr) (t:TT):Prop:=
 ∀(pins:List (af×Obj)) (s:ay) (σ:St) (H:Hp) (Q:Bool->Hp->Prop),Inv X pins σ H s->t σ H Q ->
  bD (model X.prog X.w) X.A (forIn ifs true fun c r=>if r=true then do let ok <- aah c X.env (eval c X.env);pure (tK ok) else pure (tK r)) (TP X pins σ Q) X.xe s
def WS:TT:=fun _ H Q=>Q true H
theorem mh:PTs X [] WS:=fun _ _ _ H _ I h=>wpAny_tests_nil ⟨H,I,h⟩
theorem yG {c:Expr} {t:TT} (h:PT X c t):PTs X [c] t:=fun pins s σ H Q I hw=>wpAny_tests_one (h pins s σ H Q I hw)
end
theorem Sn {α:Type} {t:Sem α} {Q Q':α->ay->Prop} {M:aaD} {A:cQ} {E:ai->ay->Prop} {s:ay} (h:bD M A t Q (fun _ _=>False) s) (hQ:∀a s,Q a s->Q' a s):bD M A t Q' E s:=gX h hQ fun _ _ z=>fo z
theorem Ls {prog:bj} {w:bV} {A:cQ} {R:QO->ay->Prop} {s:ay} {elt target iter:Expr} {ifs:List Expr} {scope:kG} {pos:Pos} {it acc:ai} {env:Env} (I:Nat->ay->Prop)
  (turn:∀n s,I n s->bD (model prog w) A (oY it) (fun r s₁=>match r with
   | none=>R (.ok .next) s₁
   | some v=>bD (model prog w) A (Br target it v) (fun _ s₁'=>bD (model prog w) A (assign target env v) (fun _ s₂=>
     bD (model prog w) A (forIn ifs true fun c r=>if r=true then do let ok <- aah c env (eval c env);pure (tK ok) else pure (tK r)) (fun ok s₃=>
      if ok=true then bD (model prog w) A (eval elt env) (fun x s₄=>
       bD (model prog w) A (call (.builtin "list.append") [acc,x]) (fun _ s₅=>∃m,m<n/\I m s₅) (OM (model prog w) A env fun e s'=>R (.error e) s') s₄) (OM (model prog w) A env fun e s'=>R (.error e) s') s₃
      else ∃m,m<n/\I m s₃) (OM (model prog w) A env fun e s'=>R (.error e) s') s₂) (OM (model prog w) A env fun e s'=>R (.error e) s') s₁') (OM (model prog w) A env fun e s'=>R (.error e) s') s₁) (OM (model prog w) A env fun e s'=>R (.error e) s') s)
  (n:Nat) (h:I n s) :
  tf (model prog w) A (.compLoop (.ListComp elt [⟨target,iter,ifs,0⟩] scope pos) 0 it acc env) R s:=by
 refine codeAny_loop rfl I (fun n s hI=>?_) n h
 show bD _ A ((compTurn (.ListComp elt [⟨target,iter,ifs,0⟩] scope pos) 0 it acc env).onRaise (fun x=>do noteFrame x env;theTreesLotGoes x)) _ _ s
 refine wpAny_noted ?_
 rw[compTurn_list]
 refine ah (FF (ah (gX (turn n s hI) (fun r s₁ h₁=>?_) fun _ _ h'=>h')))
 cases r with
 | none=>exact aH h₁
 | some v=>
  refine ah (gX h₁ (fun _ s₁' h₁'=>?_) fun _ _ h'=>h')
  refine ah (gX h₁' (fun _ s₂ h₂=>ah (gX h₂ (fun ok s₃ h₃=>?_) fun _ _ h'=>h')) fun _ _ h'=>h')
  cases ok with
  | false=>exact aH ⟨rfl,h₃⟩
  | true=>
   exact ah (ah (gX h₃ (fun x s₄ h₄=>ah (gX h₄ (fun _ s₅ h₅=>aH (aH ⟨rfl,h₅⟩)) fun _ _ h'=>h')) fun _ _ h'=>h'))
section
variable {X:Cx}
def Y1 (wi:TI) (g:TG) (tt:TT) (te:TE) (vs:List Nat):TE:=fun σ H Q=>wi σ H fun J H1=>∀D,H1 D=none->∃W:Nat->Nat->Hp->Prop,(∃m,W 0 m (upd H1 D (.lst [])))/\∀i m H,W i m H ->
 (J.stop i H/\Q (.ref D) H)\/(J.go i H/\∃Nx:Hp->Prop,(∀H',Nx H'->∃m',m'<m/\W (i+1) m' H')/\∀x H',J.Sf i H x H'->g x (wipe σ vs) H' fun σ2 H2=>wipe σ2 vs=wipe σ vs/\tt σ2 H2 fun b H3=>
  if b=true then te σ2 H3 fun y H4=>∃acc,H4 D=some (.lst acc)/\acc.length<ao/\Nx (upd H4 D (.lst (acc++[y]))) else Nx H3)
theorem Rz {pins:List (af×Obj)} {s:ay} {σ:St} {H:Hp} {Q:VK} {elt tg iter:Expr} {ifs:List Expr} {scope:kG} {own:List (Str×Nat)} {pos pos':Pos} {wi:TI} {g:TG} {tt:TT} {te:TE} {use:Option (ai->Sem Unit)} {Qf:ai->ay->Prop}
  (hc:X.calm=true) (hN:X.N.Nodup) (I:Inv X pins σ H s) (hi:PI X tg iter wi) (ok:OD X.N X.env.scope scope own)
  (hg:∀(s:ay) (H:Hp) (C:af) (cl:List (Str×af)) (fp:List af),PG (X.Lv s H scope (lQ scope cl C X.env) fp) tg g) (ht:∀(s:ay) (H:Hp) (C:af) (cl:List (Str×af)) (fp:List af),PTs (X.Lv s H scope (lQ scope cl C X.env) fp) ifs tt)
  (he:∀(s:ay) (H:Hp) (C:af) (cl:List (Str×af)) (fp:List af),PE (X.Lv s H scope (lQ scope cl C X.env) fp) elt te) (hs:∀x,foldedSetIterable iter X.env x=pure x)
  (h:Y1 wi g tt te (own.map (·.2)) σ H Q)
  (hRR:∀D C s' m H',Inv X pins σ H' s'->Q (.ref D) H'->s'.heap.Ns C m->E8 X pins H' C->compPost (model X.prog X.w) X.A X.xe use Qf (.ref D) C (.ok .next) s') :
  bD (model X.prog X.w) X.A (comprehension (.ListComp elt [⟨tg,iter,ifs,0⟩] scope pos) scope X.env pos' (newList []) false (eval iter X.env) use) Qf X.xe s:=by
 have hfree:∀y∈scope.names,y.2=.free->∃c,X.env.cells.lookup y.1=some c:=fun y hy e=>by
  rcases ok.free y hy e with k | k
  ·exact I.ok.has _ (.inl k)
  ·exact I.ok.has _ (.inr k)
 refine wpAny_comprehension_free (use:=use) rfl hs (Qo hfree) ok.kind (fun y hy e=>by rw[ok.uniq y hy,e])
  (fU (hi pins s σ H _ I h) fun xv s1 hx=>fU hx fun itv s2 h2=>?_)
 obtain⟨it,fp,tn,J,H2,e,I2,T,st2,f2,q⟩:=h2
 subst e
 refine kE (NA ?_) (by show 0<=ao;decide)
 generalize hD:s2.heap.objs.size=D
 have hDn:H2 D=none:=I2.fw.fresh (Fg hD)
 obtain⟨W,⟨m0,w0⟩,turn⟩:=q D hDn
 generalize hs3:({ s2 with heap:=s2.heap.push { cls:=.type "list",data:=.seq ([]:List ai).toArray } }:ay)=s3
 have I3:Inv X pins σ (upd H2 D (.lst [])) s3:=by
  rw[<- hs3]
  refine I2.laid (t':=s2.toks) (fun b o e=>aD _ e) (Fg hD) ⟨cu _,[],0,.nil,?_⟩
  rw[<- hD]
  exact bp _ rfl
 have h3:s3.heap=s2.heap.push { cls:=.type "list",data:=.seq ([]:List ai).toArray }:=by rw[<- hs3]
 have sz:∀b∈fp,b<s2.heap.objs.size:=fun b hb=>by
  obtain⟨o,e,_⟩:=T.obj _ _ st2 b hb
  exact bo e
 have f3:∀b∈fp,E8 X pins (upd H2 D (.lst [])) b/\b<s3.heap.objs.size:=fun b hb=>by
  have hlt:=sz b hb
  refine⟨⟨?_,(f2 b hb).2⟩,by rw[h3,cR];exact hZ hlt⟩
  rw[aQ (by rw[<- hD];exact cv hlt)]
  exact (f2 b hb).1
 have st3:tn 0 s3.heap:=T.keep _ _ _ st2 fun b _ o e=>by rw[h3];exact aD _ e
 have I4:=Oj I3 ok hN f3
 have pg:=hg s3 (upd H2 D (.lst [])) s3.heap.objs.size (fc (s3.heap.objs.size+1) scope.names (fW X.env.cells scope.names [])) fp
 have pt:=ht s3 (upd H2 D (.lst [])) s3.heap.objs.size (fc (s3.heap.objs.size+1) scope.names (fW X.env.cells scope.names [])) fp
 have pe:=he s3 (upd H2 D (.lst [])) s3.heap.objs.size (fc (s3.heap.objs.size+1) scope.names (fW X.env.cells scope.names [])) fp
 show tf _ _ (.compStart (.ListComp elt [⟨tg,iter,ifs,0⟩] scope pos) 0 (.ref it) (.ref D) (lQ scope (fc (s3.heap.objs.size+1) scope.names (fW X.env.cells scope.names [])) s3.heap.objs.size X.env)) (compPost (model X.prog X.w) X.A X.xe use Qf (.ref D) s3.heap.objs.size) { s3 with heap:=tG (s3.heap.push { cls:=.type "dict",data:=.dict #[] }) scope.names }
 have nfp:∀b∈fp,(upd H2 D (.lst [])) b=none:=fun b hb=>(f3 b hb).1.1
 generalize hce:lQ scope (fc (s3.heap.objs.size+1) scope.names (fW X.env.cells scope.names [])) s3.heap.objs.size X.env=ce at I4 pg pt pe ⊢
 have cL:ce.locals=s3.heap.objs.size:=by subst hce;rfl
 generalize hH3:upd H2 D (.lst [])=H3 at I3 I4 pg pt pe w0 nfp f3
 generalize hs4:({ s3 with heap:=tG (s3.heap.push { cls:=.type "dict",data:=.dict #[] }) scope.names }:ay)=s4 at I4 ⊢
 have st4:tn 0 s4.heap:=T.keep _ _ _ st3 fun b _ o e=>by rw[<- hs4];exact Bp _ _ _ _ (aD _ e)
 have stat:∀{σ':St} {H':Hp} {s':ay},Inv (X.Lv s3 H3 scope ce fp) [] σ' H' s'->(∀b∈fp,H' b=none)->∀b∈fp,E8 (X.Lv s3 H3 scope ce fp) [] H' b:=fun {σ' H' s'} I' hn b hb=>
  ⟨hn b hb,(I'.ok.exf b hb).1,I'.ok.VN b hb,.inl hb,fun x c e=>(I'.ok.exf b hb).2 x c e,fun p hp=>absurd (show p∈([]:List (af×Obj))++[] from hp) (by simp)⟩
 have loop:tf (model X.prog X.w) X.A (.compLoop (.ListComp elt [⟨tg,iter,ifs,0⟩] scope pos) 0 (.ref it) (.ref D) ce) (compPost (model X.prog X.w) X.A X.xe use Qf (.ref D) s3.heap.objs.size) s4:=by
  refine Ls (fun n s'=>∃i H',Inv (X.Lv s3 H3 scope ce fp) [] (wipe σ (own.map (·.2))) H' s'/\tn i s'.heap/\(∀b∈fp,H' b=none)/\W i n H') ?_ m0 ⟨0,H3,I4,st4,nfp,w0⟩
  rintro n s5 ⟨i,H5,I5,st5,n5,w5⟩
  rcases turn i n H5 w5 with ⟨stop,qq⟩ | ⟨go,Nx,hNx,step⟩
  ·have td:=T.done (X.Lv s3 H3 scope ce fp) rfl rfl rfl hc i [] s5 _ H5 (fun _ _=>False) I5 (stat I5 n5) st5 stop
   refine Sn td fun r s6 ⟨hr,I6⟩=>?_
   subst hr
   have I7:Inv X pins σ H5 s6:=I3.abl (ch:=fp) I6.os I6.base I6.fw I6.bare fun b hb=>⟨(f3 b hb).1.2.2.2.1,(f3 b hb).1.2.1,(f3 b hb).1.2.2.2.2.1,(f3 b hb).1.2.2.2.2.2⟩
   have nC:H5 s3.heap.objs.size=none:=by
    have z:H5 ce.locals=none:=I6.free
    rw[cL] at z
    exact z
   obtain⟨m,hn,_⟩:=I6.loc
   have hn:s6.heap.Ns ce.locals m:=hn
   rw[cL] at hn
   exact hRR D s3.heap.objs.size s6 m H5 I7 qq hn (I3.N2 (aC _) nC)
  ·have ti:=T.item (X.Lv s3 H3 scope ce fp) rfl rfl rfl hc i [] s5 _ H5 (fun _ _=>False) I5 (stat I5 n5) st5 go
   refine Sn ti fun r s6 ⟨u,hr,h6⟩=>?_
   subst hr
   refine Sn h6 fun _ s7 ⟨x,H7,I7,r7,y7,st7,n7⟩=>?_
   have I7':=I7.pinned (stat I7 n7) (T.obj _ _ st7)
   refine Sn (pg _ s7 _ H7 x u _ I7' r7 (step x H7 y7)) fun _ s8 ⟨σ8,H8,I8,hw8,q8⟩=>?_
   refine Sn (pt _ s8 σ8 H8 _ I8 q8) fun b s9 ⟨H9,I9,q9⟩=>?_
   have fin:∀{s':ay} {H':Hp},Inv (X.Lv s3 H3 scope ce fp) ([]++Gf fp s7.heap) σ8 H' s'->Nx H'->∃m,m<n/\∃i H',Inv (X.Lv s3 H3 scope ce fp) [] (wipe σ (own.map (·.2))) H' s'/\tn i s'.heap/\(∀b∈fp,H' b=none)/\W i m H':=fun {s' H'} I' nx=>by
    obtain⟨m',hm,w'⟩:=hNx H' nx
    have pin':∀b∈fp,∀o,s7.heap.get? b=some o->s'.heap.get? b=some o/\H' b=none:=fun b hb o e=>
     let z:=I'.pin (b,o) (au _ (au _ (Aw hb e)))
     ⟨z.1,z.2.1⟩
    have hl:(wipe σ (own.map (·.2))).length=σ8.length:=by rw[<- hw8,v9]
    refine⟨m',hm,i+1,H',(I'.Bx (pins:=[])).weak hl (fun j v e=>?_),T.keep _ _ _ st7 fun b hb o e=>(pin' b hb o e).1,fun b hb=>?_,w'⟩
    ·rw[<- hw8] at e
     exact (Cy e).1
    ·obtain⟨o,e,_⟩:=T.obj _ _ st7 b hb
     exact (pin' b hb o e).2
   cases b with
   | false=>
    simp only[l7,if_false] at q9 ⊢
    exact fin I9 q9
   | true=>
    simp only[if_true] at q9 ⊢
    refine Sn (pe _ s9 σ8 H9 _ I9 q9) fun z s10 ⟨yv,H10,I10,r10,acc,hD10,hz10,nx⟩=>?_
    exact Z_ (X:=X.Lv s3 H3 scope ce fp) I10 hD10 hz10 r10 fun s11 I11=>fin I11 nx
 exact codeAny_compStart_list loop (T.self X.A 0 _ _ _ st4 loop)
theorem sR {elt tg iter:Expr} {ifs:List Expr} {scope:kG} {own:List (Str×Nat)} {pos:Pos} {wi:TI} {g:TG} {tt:TT} {te:TE} (hc:X.calm=true) (hN:X.N.Nodup) (hi:PI X tg iter wi) (ok:OD X.N X.env.scope scope own)
  (hg:∀(s:ay) (H:Hp) (C:af) (cl:List (Str×af)) (fp:List af),PG (X.Lv s H scope (lQ scope cl C X.env) fp) tg g) (ht:∀(s:ay) (H:Hp) (C:af) (cl:List (Str×af)) (fp:List af),PTs (X.Lv s H scope (lQ scope cl C X.env) fp) ifs tt)
  (he:∀(s:ay) (H:Hp) (C:af) (cl:List (Str×af)) (fp:List af),PE (X.Lv s H scope (lQ scope cl C X.env) fp) elt te) (hs:∀x,foldedSetIterable iter X.env x=pure x:=by intro _;rfl) :
  PE X (.ListComp elt [⟨tg,iter,ifs,0⟩] scope pos) (Y1 wi g tt te (own.map (·.2))):=by
 intro pins s σ H Q I h
 rw[eval_ListComp]
 refine Rz hc hN I hi ok hg ht he hs h fun D C s' m H' I' q hn f=>⟨m,hn,fun h'' sb=>?_⟩
 obtain⟨f0,f1,f2,f3,f4,f5⟩:=f
 exact⟨.ref D,H',I'.turned (t':=s'.toks) (fun b o hb e=>(sb.2 b hb).trans e) f0 f1 f3 f4 f5,rfl,q⟩
theorem BJ {i:Nat} {y:Str} {py:Pos} {elt tg iter:Expr} {ifs:List Expr} {scope:kG} {own:List (Str×Nat)} {pos spos:Pos} {wi:TI} {g:TG} {tt:TT} {te:TE} (hc:X.calm=true) (hN:X.N.Nodup) (hy:X.N[i]?=some y) (hyl:X.env.scope.names.lookup y=some .local)
  (hsw:zg (.ListComp elt [⟨tg,iter,ifs,0⟩] scope pos) (some (.Name y py)) spos.line X.env=pure true) (hi:PI X tg iter wi) (ok:OD X.N X.env.scope scope own)
  (hg:∀(s:ay) (H:Hp) (C:af) (cl:List (Str×af)) (fp:List af),PG (X.Lv s H scope (lQ scope cl C X.env) fp) tg g) (ht:∀(s:ay) (H:Hp) (C:af) (cl:List (Str×af)) (fp:List af),PTs (X.Lv s H scope (lQ scope cl C X.env) fp) ifs tt)
  (he:∀(s:ay) (H:Hp) (C:af) (cl:List (Str×af)) (fp:List af),PE (X.Lv s H scope (lQ scope cl C X.env) fp) elt te) (hs:∀x,foldedSetIterable iter X.env x=pure x:=by intro _;rfl) :
  PS X (.Assign [.Name y py] (.ListComp elt [⟨tg,iter,ifs,0⟩] scope pos) spos) (aaP (Y1 wi g tt te (own.map (·.2))) (xO i)):=by
 intro pins s σ H D I h
 rw[exec_Assign_Name_used _ _ _ _ hsw]
 refine ah (FF (ah ?_))
 show bD _ X.A (do let _ <- comprehension (.ListComp elt [⟨tg,iter,ifs,0⟩] scope pos) scope X.env (firstIterPos [⟨tg,iter,ifs,0⟩] pos) (newList []) false (eval iter X.env) (some (assign (.Name y py) X.env))) _ _ s
 have h:Y1 wi g tt te (own.map (·.2)) σ H (fun x H1=>xO i x σ H1 D.nx):=h
 refine ah (fU (Rz (Qf:=fun _ s'=>SP X pins D .next s') hc hN I hi ok hg ht he hs h fun L C s' m H' I' q hn f=>?_) fun _ s' hq=>aH (aH hq))
 show bD _ _ (assign (.Name y py) X.env (.ref L)) _ _ _
 refine aat (Jj (v:=V.ref L) I' hN hy (.inl hyl) rfl (fun s2 I2 ⟨a,sb,ha⟩=>?_) (.inr hyl))
 obtain⟨f0,f1,f2,f3,f4,f5⟩:=f
 have haC:C≠a:=by
  rcases ha with z | z
  ·rw[z];exact f1
  ·exact fun e=>f4 y a z e.symm
 refine⟨m,hn.sameBut sb haC,fun h3 sb3=>?_⟩
 exact⟨_,H',I2.turned (t':=s2.toks) (fun b o hb e=>(sb3.2 b hb).trans e) f0 f1 f3 f4 f5,q⟩
theorem Fk {elt:Expr} {gs:List Comprehension} {scope:kG} {pos py:Pos} {y:Str} {l:Nat} {env:Env} (hk:env.scope.kind=.function) (hy:env.scope.names.lookup y=some .local) (hl:(py.line==pos.line)=true)
  (ha:(scope.names.any fun (n,k)=>n==y&&(k==.local||k==.cell))=false):zg (.ListComp elt gs scope pos) (some (.Name y py)) l env=pure true:=by
 have ky:env.kindOf y=some .local:=hy
 have hb:env.blockKind=.function:=by unfold Env.blockKind;rw[hk];rfl
 unfold zg
 simp only[hb,ky,ha,Expr.pos,hl]
 rfl
end
theorem Vo {lo:Int} {n:Nat} {g:TG} {tt:TT} {te:TE} {vs:List Nat} {σ:St} {H1:Hp} {D:af} {Qd:Hp->Prop} (Pv:Nat->Hp->Prop) (h0:Pv 0 (upd H1 D (.lst [])))
  (hs:∀i H,i<n->Pv i H->g (.int (lo+i)) (wipe σ vs) H fun σ2 H2=>wipe σ2 vs=wipe σ vs/\tt σ2 H2 fun b H3=>
   if b=true then te σ2 H3 fun y H4=>∃acc,H4 D=some (.lst acc)/\acc.length<ao/\Pv (i+1) (upd H4 D (.lst (acc++[y]))) else Pv (i+1) H3) (hd:∀H,Pv n H->Qd H) :
  ∃W:Nat->Nat->Hp->Prop,(∃m,W 0 m (upd H1 D (.lst [])))/\∀i m H,W i m H ->
   ((Yj lo n).stop i H/\Qd H)\/((Yj lo n).go i H/\∃Nx:Hp->Prop,(∀H',Nx H'->∃m',m'<m/\W (i+1) m' H')/\∀x H',(Yj lo n).Sf i H x H'->g x (wipe σ vs) H' fun σ2 H2=>wipe σ2 vs=wipe σ vs/\tt σ2 H2 fun b H3=>
    if b=true then te σ2 H3 fun y H4=>∃acc,H4 D=some (.lst acc)/\acc.length<ao/\Nx (upd H4 D (.lst (acc++[y]))) else Nx H3):=by
 refine⟨fun i m H=>m=n-i/\i<=n/\Pv i H,⟨n,by simp,cu _,h0⟩,?_⟩
 rintro i m H ⟨rfl,hi,p⟩
 by_cases hlt:i<n
 ·refine .inr ⟨hlt,Pv (i+1),fun H' p'=>⟨n-(i+1),by omega,rfl,hlt,p'⟩,fun x H' y=>?_⟩
  obtain⟨e,y⟩:=y
  subst e y
  exact hs i _ hlt p
 ·have e:i=n:=by omega
  subst e
  exact .inl ⟨aC _,hd H p⟩
theorem k_ {K:ae} {a:af} {xs:List V} {g:TG} {tt:TT} {te:TE} {vs:List Nat} {σ:St} {H1:Hp} {D:af} {Qd:Hp->Prop} (Pv:Nat->Hp->Prop) (h0:Pv 0 (upd H1 D (.lst []))) (hl:∀i H,i<=xs.length->Pv i H->cP K H a xs)
  (hs:∀i x H,xs[i]?=some x->Pv i H->g x (wipe σ vs) H fun σ2 H2=>wipe σ2 vs=wipe σ vs/\tt σ2 H2 fun b H3=>
   if b=true then te σ2 H3 fun y H4=>∃acc,H4 D=some (.lst acc)/\acc.length<ao/\Pv (i+1) (upd H4 D (.lst (acc++[y]))) else Pv (i+1) H3) (hd:∀H,Pv xs.length H->Qd H) :
  ∃W:Nat->Nat->Hp->Prop,(∃m,W 0 m (upd H1 D (.lst [])))/\∀i m H,W i m H ->
   ((YM K a).stop i H/\Qd H)\/((YM K a).go i H/\∃Nx:Hp->Prop,(∀H',Nx H'->∃m',m'<m/\W (i+1) m' H')/\∀x H',(YM K a).Sf i H x H'->g x (wipe σ vs) H' fun σ2 H2=>wipe σ2 vs=wipe σ vs/\tt σ2 H2 fun b H3=>
    if b=true then te σ2 H3 fun y H4=>∃acc,H4 D=some (.lst acc)/\acc.length<ao/\Nx (upd H4 D (.lst (acc++[y]))) else Nx H3):=by
 refine⟨fun i m H=>m=xs.length-i/\i<=xs.length/\Pv i H,⟨xs.length,by simp,cu _,h0⟩,?_⟩
 rintro i m H ⟨rfl,hi,p⟩
 have q:=hl i H hi p
 by_cases hlt:i<xs.length
 ·refine .inr ⟨⟨xs,xs[i],q,by simp[hlt]⟩,Pv (i+1),fun H' p'=>⟨xs.length-(i+1),by omega,rfl,hlt,p'⟩,fun x H' y=>?_⟩
  obtain⟨e,y⟩:=y
  subst e
  exact hs i x _ (y xs q) p
 ·have e:i=xs.length:=by omega
  subst e
  exact .inl ⟨⟨xs,q,aC _⟩,hd H p⟩
def abm (N:List Str) (sc scope:kG) (own:List (Str×Nat)):Bool:=
 (match scope.kind with | .function=>true | _=>false)&&(scope.names.all fun y=>decide (scope.names.lookup y.1=some y.2))&&(own.all fun p=>decide (N[p.2]?=some p.1)) &&
  (scope.names.all fun y=>match y.2 with
   | .free=>(match sc.names.lookup y.1 with | some .cell=>true | some .free=>true | _=>false)
   | .local=>decide (y.1∈own.map (·.1))||decide (y.1∉N)
   | .cell=>decide (y.1∈own.map (·.1))||decide (y.1∉N)
   | _=>true)
theorem gc {N:List Str} {sc scope:kG} {own:List (Str×Nat)} (h:abm N sc scope own=true):OD N sc scope own:=by
 unfold abm at h
 simp only[bL,cI,decide_eq_true_eq] at h
 obtain⟨⟨⟨h1,h2⟩,h3⟩,h4⟩:=h
 refine⟨?_,h2,h3,fun y hy e=>?_,fun y hy e=>?_⟩
 ·split at h1
  ·assumption
  ·cases h1
 ·have q:=h4 y hy
  simp only[e] at q
  split at q <;> first | exact .inl (by assumption) | exact .inr (by assumption) | cases q
 ·have q:=h4 y hy
  rcases e with e | e <;> (simp only[e,hC,decide_eq_true_eq] at q;exact q)
end L2
namespace L2
open PySem PySem.Spec PyProof.Rows
section
variable {prog:bj} {w:bV} {A:cQ} {R:QO->ay->Prop} {s:ay} {elt t0 i0 t1 i1:Expr} {ifs0 ifs1:List Expr} {scope:kG} {pos:Pos} {it acc:ai} {env:Env}
end
section
variable {X:Cx}
end
end L2
namespace L2
open PySem PySem.Spec PyProof.Rows
section
variable {κ:Type} [DecidableEq κ]
def dW (kvs:List (κ×V)) (k:κ):Option V:=(kvs.find? fun kv=>decide (kv.1=k)).map (·.2)
def putK (kvs:List (κ×V)) (k:κ) (v:V):List (κ×V):=
 if (kvs.any fun kv=>decide (kv.1=k))=true then kvs.map (fun kv=>if kv.1=k then (kv.1,v) else kv) else kvs++[(k,v)]
def fQ (kvs:List (κ×V)) (k:κ):List (κ×V):=kvs.filter fun kv=>decide (kv.1≠k)
theorem Uj {k:κ}:dW ([]:List (κ×V)) k=none:=rfl
theorem gx {p:κ×V} {r:List (κ×V)} {k:κ} (e:p.1=k):dW (p::r) k=some p.2:=by simp[dW,eR,e]
theorem f_ {p:κ×V} {r:List (κ×V)} {k:κ} (e:¬ p.1=k):dW (p::r) k=dW r k:=by simp[dW,eR,e]
theorem pK (k:κ):∀kvs:List (κ×V),(kvs.any fun kv=>decide (kv.1=k))=(dW kvs k).isSome
 | []=>rfl
 | p::r=>by
  rw[ju]
  by_cases e:p.1=k
  ·simp only[gx e,decide_eq_true e,Bool.true_or,R8]
  ·rw[f_ e,decide_eq_false e,L6];exact pK k r
theorem Mb (k j:κ) (y:V):∀kvs:List (κ×V),dW (kvs.map fun kv=>if kv.1=k then (kv.1,y) else kv) j=(dW kvs j).map fun x=>if j=k then y else x
 | []=>rfl
 | p::r=>by
  have ih:=Mb k j y r
  rw[a7]
  by_cases h:p.1=k
  ·rw[if_pos h]
   by_cases e:p.1=j
   ·rw[gx (p:=(p.1,y)) e,gx e,jb,if_pos (e.symm.trans h)]
   ·rw[f_ (p:=(p.1,y)) e,f_ e,ih]
  ·rw[if_neg h]
   by_cases e:p.1=j
   ·rw[gx (p:=p) e,gx e,jb,if_neg (fun z=>h (e.trans z))]
   ·rw[f_ (p:=p) e,f_ e,ih]
theorem Jg (k j:κ) (y:V):∀kvs:List (κ×V),dW kvs k=none->dW (kvs++[(k,y)]) j=if j=k then some y else dW kvs j
 | [],_=>by
  by_cases e:k=j
  ·rw[if_pos e.symm];exact gx (p:=(k,y)) e
  ·rw[if_neg (fun z=>e z.symm)];exact f_ (p:=(k,y)) e
 | p::r,hn=>by
  rw[iM]
  have hk:¬ p.1=k:=fun z=>by rw[gx z] at hn;cases hn
  rw[f_ hk] at hn
  have ih:=Jg k j y r hn
  by_cases e:p.1=j
  ·rw[gx e,gx e,if_neg (fun z=>hk (e.trans z))]
  ·rw[f_ e,f_ e,ih]
theorem sF (kvs:List (κ×V)) (k j:κ) (y:V):dW (putK kvs k y) j=if j=k then some y else dW kvs j:=by
 unfold putK
 by_cases a:(kvs.any fun kv=>decide (kv.1=k))=true
 ·rw[if_pos a,Mb]
  rw[pK] at a
  by_cases e:j=k
  ·obtain⟨x,hx⟩:=J8.mp a
   rw[if_pos e,e,hx,jb,if_pos rfl]
  ·rw[if_neg e]
   cases dW kvs j with
   | none=>rfl
   | some x=>rw[jb,if_neg e]
 ·rw[if_neg a]
  refine Jg k j y kvs ?_
  rw[pK] at a
  cases q:dW kvs k with
  | none=>rfl
  | some x=>rw[q] at a;exact (a rfl).elim
theorem qX (kvs:List (κ×V)) (k:κ) (v:V):(putK kvs k v).length<=kvs.length+1:=by
 unfold putK
 split
 ·rw[aa];omega
 ·rw[aA,aG,fP];omega
theorem kL {kvs:List (κ×V)} {k:κ} (v:V) (h:dW kvs k=none):putK kvs k v=kvs++[(k,v)]:=by
 unfold putK
 rw[pK,h]
 exact if_neg (by decide)
theorem oj.pD {o:Option V} {u:Option ai} (r:oj o u):o.isSome=u.isSome:=by
 cases o with
 | none=>cases u with
  | none=>rfl
  | some _=>exact (show False from r).elim
 | some _=>cases u with
  | none=>exact (show False from r).elim
  | some _=>rfl
theorem oj.getD {o:Option V} {u:Option ai} {d:V} {d':ai} (r:oj o u) (rd:RelV d d'):RelV (o.getD d) (u.getD d'):=by
 cases o with
 | none=>cases u with
  | none=>exact rd
  | some _=>exact (show False from r).elim
 | some _=>cases u with
  | none=>exact (show False from r).elim
  | some _=>exact r
theorem KV.val {kvs:List (κ×V)} {vs:List (κ×ai)} (r:KV kvs vs) (k:κ):oj (dW kvs k) (kF vs k):=by
 unfold KV at r
 induction r with
 | nil=>exact ij
 | @cons p q ps qs h t ih=>
  obtain⟨h1,h2⟩:=h
  by_cases e:p.1=k
  ·have e':q.1=k:=h1.symm.trans e
   have b:kF (q::qs) k=some q.2:=by simp[kF,eR,e']
   rw[gx e,b];exact h2
  ·have e':¬ q.1=k:=fun z=>e (h1.trans z)
   have b:kF (q::qs) k=kF qs k:=by simp[kF,eR,e']
   rw[f_ e,b];exact ih
theorem KV.any {kvs:List (κ×V)} {vs:List (κ×ai)} (r:KV kvs vs) (k:κ):(kvs.any fun kv=>decide (kv.1=k))=vs.any fun kv=>decide (kv.1=k):=by
 unfold KV at r
 induction r with
 | nil=>rfl
 | cons h t ih=>rw[ju,ju,ih,h.1]
theorem KV.Zi {kvs:List (κ×V)} {vs:List (κ×ai)} (r:KV kvs vs) (k:κ) {y:V} {u:ai} (ry:RelV y u) :
  KV (kvs.map fun kv=>if kv.1=k then (kv.1,y) else kv) (vs.map fun kv=>if kv.1=k then (kv.1,u) else kv):=by
 unfold KV at r ⊢
 induction r with
 | nil=>exact .nil
 | @cons p q ps qs h t ih=>
  rw[a7,a7]
  refine .cons ?_ ih
  obtain⟨h1,h2⟩:=h
  by_cases e:p.1=k
  ·rw[if_pos e,if_pos (h1.symm.trans e)];exact⟨h1,ry⟩
  ·rw[if_neg e,if_neg (fun z=>e (h1.trans z))];exact⟨h1,h2⟩
theorem KV.put {kvs:List (κ×V)} {vs:List (κ×ai)} (r:KV kvs vs) (k:κ) {y:V} {u:ai} (ry:RelV y u):KV (putK kvs k y) (stored vs k u):=by
 unfold putK stored
 rw[r.any k]
 by_cases e:(vs.any fun kv=>decide (kv.1=k))=true
 ·rw[if_pos e,if_pos e];exact r.Zi k ry
 ·rw[if_neg e,if_neg e];exact sv r ⟨rfl,ry⟩
theorem KV.drop {kvs:List (κ×V)} {vs:List (κ×ai)} (r:KV kvs vs) (k:κ):KV (fQ kvs k) (without vs k):=by
 unfold KV at r ⊢
 unfold fQ without
 induction r with
 | nil=>exact .nil
 | @cons p q ps qs h t ih=>
  obtain⟨h1,h2⟩:=h
  rw[vA,vA]
  by_cases e:p.1=k
  ·have a:¬ decide (p.1≠k)=true:=by simp[e]
   have b:¬ decide (q.1≠k)=true:=by simp[h1.symm.trans e]
   rw[if_neg a,if_neg b];exact ih
  ·have e':¬ q.1=k:=fun z=>e (h1.trans z)
   have a:decide (p.1≠k)=true:=by simp[e]
   have b:decide (q.1≠k)=true:=by simp[e']
   rw[if_pos a,if_pos b];exact .cons ⟨h1,h2⟩ ih
theorem KV.length {kvs:List (κ×V)} {vs:List (κ×ai)} (r:KV kvs vs):kvs.length=vs.length:=eK r
theorem N9 (kvs:List (κ×V)) (k:κ):(fQ kvs k).length<=kvs.length:=cY _ _
end
theorem Ed {P:bj} {w:bV} {k:Key} {u:ai} (r:RelV (kV k) u):(gz P w).is k u=true:=by
 cases k with
 | inl i=>obtain⟨t,e⟩:=(show ∃t,u=l6 i t from r);subst e;exact NG P w i t
 | inr x=>obtain⟨t,e⟩:=(show ∃t,u=dJ x t from r);subst e;exact NF P w x t
theorem JF {P:bj} {w:bV}:∀{ks:List Key} {us:List ai},dF (ks.map kV) us->ItemsAre (gz P w) ks us
 | [],_,r=>by rw[fN] at r;cases r;exact .nil
 | k::ks,_,r=>by
  rw[a7] at r
  cases r with
  | cons h t=>exact .cons (Ed h) (JF t)
abbrev KT (H:Hp):List (List Key×V)->List (List Key×af×ai)->Prop:=Paired fun p q=>p.1=q.1/\H q.2.1=some (.tup (p.1.map kV))/\RelV p.2 q.2.2
theorem KT.val {H:Hp} {kvs:List (List Key×V)} {xs:List (List Key×af×ai)} (r:KT H kvs xs) (k:List Key):oj (dW kvs k) ((FH xs k).map (·.2)):=by
 induction r with
 | nil=>exact ij
 | @cons p q ps qs h t ih=>
  obtain⟨h1,_,h2⟩:=h
  by_cases e:p.1=k
  ·have e':q.1=k:=h1.symm.trans e
   have b:FH (q::qs) k=some q.2:=by simp[FH,eR,e']
   rw[gx e,b];exact h2
  ·have e':¬ q.1=k:=fun z=>e (h1.trans z)
   have b:FH (q::qs) k=FH qs k:=by simp[FH,eR,e']
   rw[f_ e,b];exact ih
theorem KT.Zi {H:Hp} {kvs:List (List Key×V)} {xs:List (List Key×af×ai)} (r:KT H kvs xs) (k:List Key) {y:V} {u:ai} (ry:RelV y u) :
  KT H (kvs.map fun kv=>if kv.1=k then (kv.1,y) else kv) (xs.map (putAt k u)):=by
 induction r with
 | nil=>exact .nil
 | @cons p q ps qs h t ih=>
  rw[a7,a7]
  refine .cons ?_ ih
  obtain⟨h1,h2,h3⟩:=h
  unfold putAt
  by_cases e:p.1=k
  ·rw[if_pos e,if_pos (h1.symm.trans e)];exact⟨h1,h2,ry⟩
  ·rw[if_neg e,if_neg (fun z=>e (h1.trans z))];exact⟨h1,h2,h3⟩
theorem KT.put {H:Hp} {kvs:List (List Key×V)} {xs:List (List Key×af×ai)} (r:KT H kvs xs) (k:List Key) {b:af} {y:V} {u:ai} (hb:H b=some (.tup (k.map kV))) (ry:RelV y u) :
  KT H (putK kvs k y) (storedH xs k b u):=by
 have e:(kvs.any fun kv=>decide (kv.1=k))=(FH xs k).isSome:=by
  rw[pK,(r.val k).pD,sx]
 unfold putK storedH
 rw[e]
 by_cases q:(FH xs k).isSome=true
 ·rw[if_pos q,if_pos q];exact r.Zi k ry
 ·rw[if_neg q,if_neg q];exact sv r ⟨rfl,hb,ry⟩
theorem KT.keeps {H H':Hp} {kvs:List (List Key×V)} {xs:List (List Key×af×ai)} (r:KT H kvs xs) (ht:∀b ys,H b=some (.tup ys)->H' b=some (.tup ys)):KT H' kvs xs:=
 Paired.PF r fun _ _ z=>⟨z.1,ht _ _ z.2.1,z.2.2⟩
section
variable {P:bj} {w:bV} {H:Hp} {h:cX} {a:af}
theorem Yz {u:HO} (ok:yw P w H h) (e:Rd H a u):gG P w H h a u:=e.ok ok
theorem Ho {kvs:List (Key×V)} (ok:yw P w H h) (e:Rd H a (.dK kvs)):kvs.length<=ao/\(a==eB)=false/\∃vs,KV kvs vs/\h.DictOf (gz P w) a vs:=
 show gG P w H h a (.dK kvs) from Yz ok e
theorem VW {kvs:List (Key×V)} (ok:yw P w H h) (e:H a=some (.dK kvs)):kvs.length<=ao/\(a==eB)=false/\∃vs,KV kvs vs/\h.DictOf (gz P w) a vs:=Ho ok (.inl e)
theorem xJ {ks:List Key} (ok:yw P w H h) (e:H a=some (.tup (ks.map kV))):(zf (gz P w)).is h ks a:=by
 obtain⟨_,its,r,o,h1,h2,n,h3⟩:=(show gG P w H h a (.tup (ks.map kV)) from ok a _ e)
 exact⟨o,its.toArray,n,h1,h2,h3,by simpa using JF r⟩
theorem Ef {kvs:List (List Key×V)} (ok:yw P w H h) (e:Rd H a (.dT kvs)):kvs.length<=ao/\(a==eB)=false /\
  ∃xs,KT H kvs xs/\h.DictOfH (zf (gz P w)) a xs:=by
 obtain⟨z,y,xs,r,o,es,ep,h1,h2,h3,h4,h5⟩:=(show gG P w H h a (.dT kvs) from Yz ok e)
 refine⟨z,y,xs,r,o,es,ep,h1,h2,h3,h4,fun x hx=>?_,h5⟩
 have all:∀{l:List (List Key×V)} {m:List (List Key×af×ai)},KT H l m->∀x∈m,(zf (gz P w)).is h x.1 x.2.1:=by
  intro l m q
  induction q with
  | nil=>intro x hx;exact nomatch hx
  | @cons p q ps qs hq t ih=>
   intro x hx
   rcases aF.mp hx with e | hx
   ·subst e
    exact xJ ok (by rw[<- hq.1];exact hq.2.1)
   ·exact ih x hx
 exact all r x hx
theorem VU {kvs:List (List Key×V)} (ok:yw P w H h) (e:H a=some (.dT kvs)):kvs.length<=ao/\(a==eB)=false /\
  ∃xs,KT H kvs xs/\h.DictOfH (zf (gz P w)) a xs:=Ef ok (.inl e)
end
def gK (H:Hp) (a:af) (y:V) (r:Option V):Prop:=
 (∃kvs k,Rd H a (.dK kvs)/\y=kV k/\r=dW kvs k)\/∃kvs k b,Rd H a (.dT kvs)/\y=.ref b/\H b=some (.tup (k.map kV))/\r=dW kvs k
def Cn (H:Hp) (a:af) (y v:V) (H':Hp):Prop:=
 (∃kvs k,H a=some (.dK kvs)/\y=kV k/\kvs.length<ao/\H'=upd H a (.dK (putK kvs k v))) \/
 ∃kvs k b,H a=some (.dT kvs)/\y=.ref b/\H b=some (.tup (k.map kV))/\kvs.length<ao/\H'=upd H a (.dT (putK kvs k v))
theorem gK.k {H:Hp} {a:af} {kvs:List (Key×V)} {k:Key} (e:H a=some (.dK kvs)):gK H a (kV k) (dW kvs k):=.inl ⟨kvs,k,.inl e,rfl,rfl⟩
theorem gK.t {H:Hp} {a b:af} {kvs:List (List Key×V)} {k:List Key} (e:H a=some (.dT kvs)) (eb:H b=some (.tup (k.map kV))):gK H a (.ref b) (dW kvs k):=.inr ⟨kvs,k,b,.inl e,rfl,eb,rfl⟩
theorem Cn.k {H:Hp} {a:af} {kvs:List (Key×V)} {k:Key} {v:V} (e:H a=some (.dK kvs)) (hl:kvs.length<ao):Cn H a (kV k) v (upd H a (.dK (putK kvs k v))):=.inl ⟨kvs,k,e,rfl,hl,rfl⟩
theorem Cn.t {H:Hp} {a b:af} {kvs:List (List Key×V)} {k:List Key} {v:V} (e:H a=some (.dT kvs)) (eb:H b=some (.tup (k.map kV))) (hl:kvs.length<ao) :
  Cn H a (.ref b) v (upd H a (.dT (putK kvs k v))):=.inr ⟨kvs,k,b,e,rfl,eb,hl,rfl⟩
section
variable {X:Cx} {pins:List (af×Obj)} {σ:St} {H:Hp} {s:ay} {a:af} {y v:V} {u r:ai} {o:Option V} {A:cQ} {E:ai->ay->Prop}
theorem Inv.big (I:Inv X pins σ H s):eB<s.heap.objs.size:=by
 have h:aI<s.heap.objs.size:=(I.mod.glob.keeps I.bk).lt
 exact abS (by decide) h
theorem Tb {Q:ai->ay->Prop} (hu:A.units+1<pE) (I:Inv X pins σ H s) (g:gK H a y (some v)) (ry:RelV y u) (h:∀w' s',Inv X pins σ H s'->RelV v w'->Q w' s') :
  bD (model X.prog X.w) A (ON (.ref a) u) Q E s:=by
 rcases g with ⟨kvs,k,e,ey,l⟩ | ⟨kvs,k,b,e,ey,eb,l⟩
 ·subst ey
  obtain⟨z,hd,vs,rel,dd⟩:=Ho I.fw e
  obtain⟨w',hw,rw'⟩:=oj.some_of (v:=v) (o:=kF vs k) (by rw[l];exact rel.val k)
  exact abw (Ed ry) dd.mapOf hw (h w' _ (I.tok _) rw')
 ·subst ey
  cases (show u=bE b from ry)
  obtain⟨z,hd,xs,rel,dd⟩:=Ef I.fw e
  obtain⟨w',hw,rw'⟩:=oj.some_of (v:=v) (o:=(FH xs k).map (·.2)) (by rw[l];exact rel.val k)
  obtain⟨p,hp,hp2⟩:=vw.mp hw
  refine wpAny_getItem_heap (jN hu) (xJ I.fw eb) dd hp ?_
  rw[hp2]
  exact h w' _ (I.tok _) rw'
theorem adi {Q:ai->ay->Prop} (hu:A.units+1<pE) (I:Inv X pins σ H s) (g:gK H a y o) (ry:RelV y u) (h:∀s',Inv X pins σ H s'->Q (.bool o.isSome) s') :
  bD (model X.prog X.w) A (e_ .In u (.ref a)) Q E s:=by
 rcases g with ⟨kvs,k,e,ey,l⟩ | ⟨kvs,k,b,e,ey,eb,l⟩
 ·subst ey
  obtain⟨z,hd,vs,rel,dd⟩:=Ho I.fw e
  refine wpAny_in_of (Ed ry) hd dd.mapOf ?_
  rw[<- (rel.val k).pD,<- l]
  exact h _ (I.tok _)
 ·subst ey
  cases (show u=bE b from ry)
  obtain⟨z,hd,xs,rel,dd⟩:=Ef I.fw e
  refine wpAny_in_heap (jN hu) (xJ I.fw eb) hd dd ?_
  have q:=(rel.val k).pD
  rw[sx] at q
  rw[<- q,<- l]
  exact h _ (I.tok _)
theorem X_ {Q:ai->ay->Prop} (hu:A.units+1<pE) (I:Inv X pins σ H s) (g:gK H a y o) (ry:RelV y u) (h:∀s',Inv X pins σ H s'->Q (.bool (!o.isSome)) s') :
  bD (model X.prog X.w) A (e_ .NotIn u (.ref a)) Q E s:=by
 rcases g with ⟨kvs,k,e,ey,l⟩ | ⟨kvs,k,b,e,ey,eb,l⟩
 ·subst ey
  obtain⟨z,hd,vs,rel,dd⟩:=Ho I.fw e
  refine wpAny_notIn_of (Ed ry) hd dd.mapOf ?_
  rw[<- (rel.val k).pD,<- l]
  exact h _ (I.tok _)
 ·subst ey
  cases (show u=bE b from ry)
  obtain⟨z,hd,xs,rel,dd⟩:=Ef I.fw e
  refine wpAny_notIn_heap (jN hu) (xJ I.fw eb) hd dd ?_
  have q:=(rel.val k).pD
  rw[sx] at q
  rw[<- q,<- l]
  exact h _ (I.tok _)
theorem yS {h':cX} {t':Nat} {ob:HO} (I:Inv X pins σ H s) (mu:Mut (H a)) (hs:gf a s.heap h') (he:∃q,h'.get? a=some q) (new:gG X.prog X.w (upd H a ob) h' a ob) :
  Inv X pins σ (upd H a ob) { s with heap:=h',toks:=t' }:=
 I.write (x:=a) (e:=a) mu (.inl rfl) (fun b q hb z=>(hs.2 b hb).trans z) he new
theorem Qm {P:bj} {w:bV} {H':Hp} {h':cX} {kvs:List (Key×V)} {vs:List (Key×ai)} (z:kvs.length<=ao) (hd:(a==eB)=false) (rel:KV kvs vs) (dd:h'.DictOf (gz P w) a vs) :
  gG P w H' h' a (.dK kvs):=⟨z,hd,vs,rel,dd⟩
theorem Ta {H':Hp} {Q:Unit->ay->Prop} (hu:A.units+1<pE) (I:Inv X pins σ H s) (g:Cn H a y v H') (ry:RelV y u) (rv:RelV v r) (h:∀s',Inv X pins σ H' s'->Q () s') :
  bD (model X.prog X.w) A (setItem (.ref a) u r) Q E s:=by
 rcases g with ⟨kvs,k,e,ey,l,eH⟩ | ⟨kvs,k,b,e,ey,eb,l,eH⟩
 ·subst ey eH
  obtain⟨z,hd,vs,rel,dd⟩:=VW I.fw e
  have hz:vs.length<=ao:=by rw[<- rel.length];exact z
  have hl:(putK kvs k v).length<=ao:=by have:=qX kvs k v;omega
  refine wpAny_setItem_pairs (hsz:=hz) (Ed ry) dd fun h' dd' hs=>h _ ?_
  have he:∃q,h'.get? a=some q:=let ⟨q,_,_,hq,_⟩:=dd';⟨q,hq⟩
  exact yS I (by rw[e];exact ij) hs he (Qm hl hd (rel.put k rv) dd')
 ·subst ey eH
  cases (show u=bE b from ry)
  obtain⟨z,hd,xs,rel,dd⟩:=VU I.fw e
  have hz:xs.length<=ao:=by rw[<- eK rel];exact z
  have hl:(putK kvs k v).length<=ao:=by have:=qX kvs k v;omega
  refine wpAny_setItem_heap (hsz:=hz) (jN hu) (xJ I.fw eb) dd fun h' dd' hs=>h _ ?_
  obtain⟨q,es,ep,hq,h2,h3,h4,_,h5⟩:=dd'
  refine yS I (by rw[e];exact ij) hs ⟨q,hq⟩ ⟨hl,hd,_,(rel.put k eb rv).keeps fun c ys ec=>?_,q,es,ep,hq,h2,h3,h4,h5⟩
  rw[aQ (eD ec e (fun z=>nomatch z))]
  exact ec
end
section
variable {X:Cx} {pins:List (af×Obj)} {σ:St} {H:Hp} {s:ay} {a:af} {kvs:List (Key×V)} {k:Key} {u:ai} {A:cQ} {E:ai->ay->Prop}
theorem aar {Q:Unit->ay->Prop} (I:Inv X pins σ H s) (e:H a=some (.dK kvs)) (ry:RelV (kV k) u) (l:(dW kvs k).isSome=true) (h:∀s',Inv X pins σ (upd H a (.dK (fQ kvs k))) s'->Q () s') :
  bD (model X.prog X.w) A (delItem (.ref a) u) Q E s:=by
 obtain⟨z,hd,vs,rel,dd⟩:=VW I.fw e
 refine wpAny_delItem_slot dd.typeIs (by decide) H_
  (tj H_ dd.typeIs PySem.F.entry_dict_delitem (PySem.F.args_dict_delitem_2 _ _) (meets_dict_delitem_pairs (gz X.prog X.w) a (Ed ry)) ⟨vs,dd,by rw[<- rel.length];exact z,by rw[<- (rel.val k).pD];exact l,fun h' dd' hs=>h _ ?_⟩)
 have he:∃q,h'.get? a=some q:=let ⟨q,_,_,hq,_⟩:=dd';⟨q,hq⟩
 exact yS I (by rw[e];exact ij) hs he (Qm (dA (N9 kvs k) z) hd (rel.drop k) dd')
theorem abj {v:V} {more:List ai} {Q:ai->ay->Prop} (I:Inv X pins σ H s) (e:H a=some (.dK kvs)) (ry:RelV (kV k) u) (l:dW kvs k=some v) (hm:more=[]\/∃x,more=[x])
  (h:∀w' s',Inv X pins σ (upd H a (.dK (fQ kvs k))) s'->RelV v w'->Q w' s'):bD (model X.prog X.w) A (call (.builtin "dict.pop") (.ref a::u::more)) Q E s:=by
 obtain⟨z,hd,vs,rel,dd⟩:=VW I.fw e
 obtain⟨w',hw,rw'⟩:=oj.some_of (v:=v) (o:=kF vs k) (by rw[<- l];exact rel.val k)
 have hp:(keyPart u).isSome=true:=by
  cases k with
  | inl i=>obtain⟨t,q⟩:=(show ∃t,u=l6 i t from ry);subst q;rfl
  | inr x=>obtain⟨t,q⟩:=(show ∃t,u=dJ x t from ry);subst q;rfl
 have ha:argsOk "dict.pop" ⟨.ref a::u::more,[]⟩:=by
  rcases hm with q | ⟨x,q⟩
  ·subst q;exact PySem.F.args_dict_pop_2 _ _
  ·subst q;exact PySem.F.args_dict_pop_3 _ _ _
 refine tj LZ dd.typeIs PySem.F.entry_dict_pop ha (meets_dict_pop_there (gz X.prog X.w) a (Ed ry) more hm hp)
  ⟨vs,w',dd,by rw[<- rel.length];exact z,hw,fun h' dd' hs=>h w' _ ?_ rw'⟩
 have he:∃q,h'.get? a=some q:=let ⟨q,_,_,hq,_⟩:=dd';⟨q,hq⟩
 exact yS I (by rw[e];exact ij) hs he (Qm (dA (N9 kvs k) z) hd (rel.drop k) dd')
end
def aaa (i:Expr):Prop:=∀ov iv,subscripted i false ov iv=operate [ov,iv] (ON ov iv)
theorem Q4 {prog:bj} {w:bV} {A:cQ} {E:ai->ay->Prop} {s:ay} {env:Env} {value slice:Expr} {pos:Pos} {T id:String} {Q:ai->ay->Prop}
  (hl:typeLookup (.type T) "__getitem__"=pure (some (.builtin id))) (hs:aaa slice)
  (h:bD (model prog w) A (eval value env) (fun o s₁=>bD (model prog w) A (eval slice env) (fun i s₂=>s₂.TypeIs o T/\bD (model prog w) A (ON o i) Q E s₂) E s₁) E s) :
  bD (model prog w) A (eval (.Subscript value slice pos) env) Q E s:=by
 refine aak (gX h (fun o s₁ h₁=>gX h₁ (fun i s₂ h₂=>?_) fun _ _ x=>x) fun _ _ x=>x)
 obtain⟨hT,h₂⟩:=h₂
 unfold TB
 refine ah ?_
 rw[getitemInPython_of_ne hT.not_modules]
 refine ah (wpAny_specialOf hT hl ?_)
 have fin:bD (model prog w) A (subscripted slice false o i) (fun r s₃=>bD (model prog w) A (letTemporaryGo value o r >>= fun _=>pure r) Q E s₃) E s₂:=by
  rw[hs o i]
  exact wpAny_operating (gX h₂ (fun r s₃ h₃=>ah (wpAny_letTemporaryGo (aH h₃))) fun _ _ x=>x)
 first
  | exact aH (ah fin)
  | exact ah (aH (ah fin))
  | exact ah fin
theorem N_ {X:Cx} {pins:List (af×Obj)} {σ:St} {H:Hp} {s:ay} {a:af} {y:V} {o:Option V} (I:Inv X pins σ H s) (g:gK H a y o):s.TypeIs (.ref a) "dict":=by
 rcases g with ⟨kvs,k,e,_,_⟩ | ⟨kvs,k,b,e,_,_,_⟩
 ·obtain⟨_,_,vs,_,dd⟩:=Ho I.fw e
  exact dd.typeIs
 ·obtain⟨_,_,xs,_,dd⟩:=Ef I.fw e
  exact dd.typeIs
inductive abt (x y:V) (H2:Hp) (Q:VK):Prop
 | mk (a:af) (v:V) (e:x=.ref a) (g:gK H2 a y (some v)) (q:Q v H2)
def Ur (td ty:TE):TE:=fun σ H Q=>td σ H fun x H1=>ty σ H1 fun y H2=>abt x y H2 Q
def acO (ty td:TE):TE:=fun σ H Q=>ty σ H fun y H1=>td σ H1 fun x H2=>∃a o,x=.ref a/\gK H2 a y o/\Q (.bl o.isSome) H2
def W0 (ty td:TE):TE:=fun σ H Q=>ty σ H fun y H1=>td σ H1 fun x H2=>∃a o,x=.ref a/\gK H2 a y o/\Q (.bl (!o.isSome)) H2
def aaV (td ty tv:TE):TS:=fun D σ H=>tv σ H fun v H1=>td σ H1 fun x H2=>ty σ H2 fun y H3=>∃a H4,x=.ref a/\Cn H3 a y v H4/\D.nx σ H4
section
variable {X:Cx} {o i e value:Expr} {pos pos' tpos:Pos} {td ty tv:TE}
theorem qR (hu:X.A.units+1<pE) (ho:PE X o td) (hi:PE X i ty) (hs:aaa i):PE X (.Subscript o i pos) (Ur td ty):=by
 intro pins s σ H Q I h
 refine Q4 HZ.lookup hs (fU (ho pins s σ H _ I h) fun u s1 ⟨x,H1,I1,rx,q1⟩=>fU (hi pins s1 σ H1 _ I1 q1) fun iv s2 ⟨y,H2,I2,ry,a,v,ex,g,q2⟩=>?_)
 subst ex
 obtain rfl:u=bE a:=rx
 exact⟨N_ I2 g,Tb hu I2 g ry fun w' s3 I3 rw'=>⟨v,H2,I3,rw',q2⟩⟩
theorem CM (hu:X.A.units+1<pE) (hi:PE X i ty) (ho:PE X o td):PC X .In i o (acO ty td):=by
 intro pins s σ H Q I h
 refine fU (hi pins s σ H _ I h) fun iv s1 ⟨y,H1,I1,ry,q1⟩=>fU (ho pins s1 σ H1 _ I1 q1) fun u s2 ⟨x,H2,I2,rx,a,ov,ex,g,q2⟩=>?_
 subst ex
 obtain rfl:u=bE a:=rx
 exact adi hu I2 g ry fun s3 I3=>⟨.bl ov.isSome,H2,I3,rfl,q2⟩
theorem yH (hu:X.A.units+1<pE) (hi:PE X i ty) (ho:PE X o td):PC X .NotIn i o (W0 ty td):=by
 intro pins s σ H Q I h
 refine fU (hi pins s σ H _ I h) fun iv s1 ⟨y,H1,I1,ry,q1⟩=>fU (ho pins s1 σ H1 _ I1 q1) fun u s2 ⟨x,H2,I2,rx,a,ov,ex,g,q2⟩=>?_
 subst ex
 obtain rfl:u=bE a:=rx
 exact X_ hu I2 g ry fun s3 I3=>⟨.bl (!ov.isSome),H2,I3,rfl,q2⟩
theorem uc (hu:X.A.units+1<pE) (ho:PE X o td) (hi:PE X i ty) (hv:PE X value tv) (hs:zg value (some (.Subscript o i pos')) pos.line X.env=pure false) :
  PS X (.Assign [.Subscript o i pos'] value pos) (aaV td ty tv):=by
 intro pins s σ H D I h
 refine wpAny_Assign_Subscript (fU (hv pins s σ H _ I h) fun r s1 ⟨v,H1,I1,rv,q1⟩=>fU (ho pins s1 σ H1 _ I1 q1) fun u s2 ⟨x,H2,I2,rx,q2⟩=>fU (hi pins s2 σ H2 _ I2 q2) fun iv s3 ⟨y,H3,I3,ry,a,H4,ex,g,q3⟩=>?_) hs
 subst ex
 obtain rfl:u=bE a:=rx
 exact Ta hu I3 g ry rv fun s4 I4=>⟨σ,H4,I4,q3⟩
end
theorem VX {P:bj} {w:bV} {H:Hp} (h:cX) (hb:eB<h.objs.size):gG P w H (h.push { cls:=.type "dict",data:=.dict #[] }) h.objs.size (.dK []):=
 ⟨cu _,beq_eq_false_iff_ne.mpr (bK (cv hb)),[],.nil,Heap.DictOf.new h⟩
theorem N6 {P:bj} {w:bV} {H:Hp} (h:cX) (hb:eB<h.objs.size):gG P w H (h.push { cls:=.type "dict",data:=.dict #[] }) h.objs.size (.dT []):=
 ⟨cu _,beq_eq_false_iff_ne.mpr (bK (cv hb)),[],.nil,_,#[],0,bp _ rfl,⟨rfl,rfl,rfl⟩,rfl,rfl,List.nodup_nil⟩
def Y4:TE:=fun _ H Q=>∀p,H p=none->Q (.ref p) (upd H p (.dK []))
def Y3:TE:=fun _ H Q=>∀p,H p=none->Q (.ref p) (upd H p (.dT []))
section
variable {X:Cx} {pos:Pos}
theorem MZ:PE X (.Dict [] [] pos) Y4:=fun pins s σ H Q I h=>
 aby ⟨.ref s.heap.objs.size,_,I.laid (a:=s.heap.objs.size) (o:=.dK []) (t':=s.toks) (fun _ _ q=>aD _ q) (aC _) (VX s.heap I.big),rfl,h _ (I.fw.fresh (aC _))⟩
theorem BK:PE X (.Dict [] [] pos) Y3:=fun pins s σ H Q I h=>
 aby ⟨.ref s.heap.objs.size,_,I.laid (a:=s.heap.objs.size) (o:=.dT []) (t':=s.toks) (fun _ _ q=>aD _ q) (aC _) (N6 s.heap I.big),rfl,h _ (I.fw.fresh (aC _))⟩
end
structure M1 (X:Cx) (o:Expr) (m:Str) (apos:Pos) (e:Expr) (cpos:Pos):Prop where
 base:iU o m X.env (eval o X.env)=eval o X.env
 hE:((kC cpos (cM [e] X.env)).all (fun x=>!x.1)&&(DJ cpos (qH [] X.env)).all (fun x=>x.1.isSome)
  && decide (([e]:List Expr).length+([]:List IY).length+(if ([]:List IY).isEmpty then 0 else 1)<30))=true
 line:(apos.endLine==cpos.line)=true
 trees:kC cpos (cM [e] X.env)=[(false,eval e X.env)]
structure M2 (X:Cx) (o:Expr) (m:Str) (apos:Pos) (e f:Expr) (cpos:Pos):Prop where
 base:iU o m X.env (eval o X.env)=eval o X.env
 hE:((kC cpos (cM [e,f] X.env)).all (fun x=>!x.1)&&(DJ cpos (qH [] X.env)).all (fun x=>x.1.isSome)
  && decide (([e,f]:List Expr).length+([]:List IY).length+(if ([]:List IY).isEmpty then 0 else 1)<30))=true
 line:(apos.endLine==cpos.line)=true
 trees:kC cpos (cM [e,f] X.env)=[(false,eval e X.env),(false,eval f X.env)]
def IsD (H:Hp) (a:af):Prop:=(∃kvs,Rd H a (.dK kvs))\/∃kvs,Rd H a (.dT kvs)
theorem P1 {X:Cx} {pins:List (af×Obj)} {σ:St} {H:Hp} {s:ay} {a:af} (I:Inv X pins σ H s) (d:IsD H a) :
  s.TypeIs (.ref a) "dict"/\(∀b,bE a=.ref b->∃ob,s.heap.get? b=some ob/\ob.dict=none)/\(a==eB)=false:=by
 rcases d with ⟨kvs,e⟩ | ⟨kvs,e⟩
 ·obtain⟨_,hd,vs,_,dd⟩:=Ho I.fw e
  refine⟨dd.typeIs,fun b q=>?_,hd⟩
  cases q
  obtain⟨ob,_,_,h1,h2,_⟩:=dd
  exact⟨ob,h1,h2.2.1⟩
 ·obtain⟨_,hd,xs,_,dd⟩:=Ef I.fw e
  refine⟨dd.typeIs,fun b q=>?_,hd⟩
  cases q
  obtain⟨ob,_,_,h1,h2,_⟩:=dd
  exact⟨ob,h1,h2.2.1⟩
section
variable {X:Cx} {pins:List (af×Obj)} {σ:St} {H:Hp} {s:ay} {a:af} {y d:V} {u r:ai} {o:Option V} {A:cQ} {E:ai->ay->Prop}
theorem Z2 {Q:ai->ay->Prop} (hu:A.units+1<pE) (I:Inv X pins σ H s) (g:gK H a y o) (ry:RelV y u) (rd:RelV d r) (h:∀w' s',Inv X pins σ H s'->RelV (o.getD d) w'->Q w' s') :
  bD (model X.prog X.w) A (call (.builtin "dict.get") [.ref a,u,r]) Q E s:=by
 rcases g with ⟨kvs,k,e,ey,l⟩ | ⟨kvs,k,b,e,ey,eb,l⟩
 ·subst ey
  obtain⟨z,hd,vs,rel,dd⟩:=Ho I.fw e
  refine tj jk dd.typeIs uY (tD _ _ _) (Ws (gz X.prog X.w) a (Ed ry) hd r) ⟨_,dd.mapOf,h _ _ (I.tok _) ?_⟩
  rw[l]
  exact (rel.val k).getD rd
 ·subst ey
  cases (show u=bE b from ry)
  obtain⟨z,hd,xs,rel,dd⟩:=Ef I.fw e
  refine tj jk dd.typeIs uY (tD _ _ _) (meetsH_dict_get_default (zf (gz X.prog X.w)) a b hd r) ⟨jN hu,k,xs,xJ I.fw eb,dd,h _ _ (I.tok _) ?_⟩
  rw[l]
  exact (rel.val k).getD rd
end
def Y5 (td ty tx:TE):TE:=fun σ H Q=>td σ H fun x H1=>∃a,x=.ref a/\IsD H1 a/\ty σ H1 fun y H2=>tx σ H2 fun z H3=>∃o,gK H3 a y o/\Q (o.getD z) H3
def Y2 (td ty:TE):TE:=fun σ H Q=>td σ H fun x H1=>∃a,x=.ref a/\IsD H1 a/\ty σ H1 fun y H2=>∃kvs k v,H2 a=some (.dK kvs)/\y=kV k/\dW kvs k=some v/\Q v (upd H2 a (.dK (fQ kvs k)))
section
variable {X:Cx} {o e f:Expr} {apos cpos:Pos} {td ty tx:TE}
theorem Gi (hu:X.A.units+1<pE) (ho:PE X o td) (he:PE X e ty) (hf:PE X f tx) (m:M2 X o "get" apos e f cpos):PE X (.Call (.Attribute o "get" apos) [e,f] [] cpos) (Y5 td ty tx):=by
 intro pins s σ H Q I h
 refine vR m.base m.hE m.line lW jk LY (fU (ho pins s σ H _ I h) fun u s1 ⟨x,H1,I1,rx,a,ex,d,q1⟩=>?_)
 subst ex
 obtain rfl:u=bE a:=rx
 obtain⟨t1,t2,_⟩:=P1 I1 d
 refine⟨t1,t2,?_⟩
 rw[m.trees]
 refine gE rfl (g_ (fu (fU (he pins s1 σ H1 _ I1 q1) fun iv s2 ⟨y,H2,I2,ry,q2⟩=>
  fu (fU (hf pins s2 σ H2 _ I2 q2) fun fv s3 ⟨z,H3,I3,rz,ov,g,q3⟩=>jx ?_))))
 exact Z2 hu I3 g ry rz fun w' s4 I4 rw'=>⟨_,H3,I4,rw',q3⟩
theorem MY (ho:PE X o td) (he:PE X e ty) (m:M1 X o "pop" apos e cpos):PE X (.Call (.Attribute o "pop" apos) [e] [] cpos) (Y2 td ty):=by
 intro pins s σ H Q I h
 refine vR m.base m.hE m.line lW LZ PySem.F.type_dict_pop (fU (ho pins s σ H _ I h) fun u s1 ⟨x,H1,I1,rx,a,ex,d,q1⟩=>?_)
 subst ex
 obtain rfl:u=bE a:=rx
 obtain⟨t1,t2,_⟩:=P1 I1 d
 refine⟨t1,t2,?_⟩
 rw[m.trees]
 refine gE rfl (g_ (fu (fU (he pins s1 σ H1 _ I1 q1) fun iv s2 ⟨y,H2,I2,ry,kvs,k,v,ea,ey,l,q2⟩=>jx ?_)))
 subst ey
 exact abj I2 ea ry l (.inl rfl) fun w' s3 I3 rw'=>⟨v,_,I3,rw',q2⟩
end
section
variable {X:Cx} {pins:List (af×Obj)} {σ:St} {H:Hp} {s:ay} {a:af} {kvs:List (Key×V)} {A:cQ} {E:ai->ay->Prop}
end
section
variable {X:Cx} {pins:List (af×Obj)} {σ:St} {H:Hp} {s:ay} {a:af} {y:V} {u:ai} {A:cQ} {E:ai->ay->Prop}
end
end L2
namespace L2
open PySem PySem.Spec PyProof.Rows
section
variable {prog:bj} {w:bV} {A:cQ} {E:ai->ay->Prop}
end
section
variable {X:Cx}
end
end L2
namespace L2
open PySem PySem.Spec PyProof.Rows
section
variable {X:Cx} {pins:List (af×Obj)} {σ:St} {H:Hp} {s:ay} {h':cX}
theorem Inv.WQ {t':Nat} {ch:List af} (I:Inv X pins σ H s) (k:∀b o,b∉ch->s.heap.get? b=some o->h'.get? b=some o) (hf:∀b∈ch,E8 X pins H b):Inv X pins σ H { s with heap:=h',toks:=t' }:=by
 have nit:∀b u,H b=some u->b∉ch:=fun b u e z=>by
  have q:=(hf b z).1
  rw[q] at e;cases e
 refine I.step (g':=s.gens) (d':=s.drawn) (ch:=ch) (fun b hb=>⟨(hf b hb).2.2.2.1,(hf b hb).2.1,(hf b hb).2.2.2.2.1,(hf b hb).2.2.2.2.2⟩) (fun b o _ _ hc e _=>k b o hc e) (fun b o _ _ hc e _=>⟨o.slots,k b o hc e⟩)
  (fun _ _ _ _ n=>n) (fun b o hc e=>⟨o,k b o hc e⟩) (fun _ _ e=>e) (fun _ _ _ e=>e) (fun b ps e=>⟨#[],by rw[e];simp⟩) (fun m hm=>?_) (fun b u e=>?_) I.bare
 ·obtain⟨o,es,ep,ho,r⟩:=hm
  exact⟨o,es,ep,k _ o (fun z=>(hf _ z).2.1 rfl) ho,r⟩
 ·refine (I.fw b u e).stay (fun c v hc q=>k c v ?_ q) (fun _ q=>q) fun _ _ q=>q
  rcases hc with z | z
  ·rw[z];exact nit b u e
  ·exact nit c _ z
theorem Inv.Cz {t':Nat} {ch:List af} {T:af} {ob:HO} (I:Inv X pins σ H s) (k:∀b o,b∉ch->s.heap.get? b=some o->h'.get? b=some o) (hf:∀b∈ch,E8 X pins H b) (hT:s.heap.objs.size<=T)
  (new:gG X.prog X.w (upd H T ob) h' T ob):Inv X pins σ (upd H T ob) { s with heap:=h',toks:=t' }:=by
 have hn:H T=none:=I.fw.fresh hT
 have nit:∀b u,H b=some u->b∉ch:=fun b u e z=>by
  have q:=(hf b z).1
  rw[q] at e;cases e
 refine I.step (g':=s.gens) (d':=s.drawn) (ch:=ch) (fun b hb=>⟨(hf b hb).2.2.2.1,(hf b hb).2.1,(hf b hb).2.2.2.2.1,(hf b hb).2.2.2.2.2⟩) (fun b o _ _ hc e _=>k b o hc e) (fun b o _ _ hc e _=>⟨o.slots,k b o hc e⟩)
  (fun b o _ e n=>?_) (fun b o hc e=>⟨o,k b o hc e⟩) (fun b xs e=>?_) (fun b o u e=>?_) (fun b ps e=>⟨#[],?_⟩) (fun m hm=>?_) (fun b u e=>?_) I.bare
 ·rw[aQ (cv (cE (bo e) hT))];exact n
 ·rw[aQ (aT e hn)];exact e
 ·rw[aQ (aT e hn)];exact e
 ·rw[aQ (aT e hn),e];simp
 ·obtain⟨o,es,ep,ho,r⟩:=hm
  exact⟨o,es,ep,k _ o (fun z=>(hf _ z).2.1 rfl) ho,r⟩
 ·by_cases hb:b=T
  ·subst hb
   rw[aw] at e
   cases e
   exact new
  ·rw[aQ hb] at e
   refine (I.fw b u e).stay (fun c v hc q=>k c v ?_ q) (fun c q=>by rw[aQ (aT q hn)];exact q) fun c xs q=>by rw[aQ (aT q hn)];exact q
   rcases hc with z | z
   ·rw[z];exact nit b u e
   ·exact nit c _ z
theorem Inv.lock {d:af} {u:HO} (I:Inv X pins σ H s) (h:H d=some u) (mu:Mut (some u)):∃od,Inv X pins σ (upd H d (.zc od u)) s:=by
 have x:=I.fw d u h
 have ex:∃od,s.heap.get? d=some od:=by
  cases u with
  | lst xs=>obtain⟨_,_,_,_,e⟩:=x;exact⟨_,e⟩
  | dK kvs=>obtain⟨_,_,_,_,o,_,_,e,_⟩:=x;exact⟨o,e⟩
  | dT kvs=>obtain⟨_,_,_,_,o,_,_,e,_⟩:=x;exact⟨o,e⟩
  | set S n=>obtain⟨o,_,_,_,e,_⟩:=x;exact⟨o,e⟩
  | ins C dx fs=>obtain⟨_,_,_,e,_⟩:=x;exact⟨_,e⟩
  | ext φ=>obtain⟨_,⟨_,e⟩,_⟩:=x;exact⟨_,e⟩
  | _=>exact fo mu
 obtain⟨od,e⟩:=ex
 have new:gG X.prog X.w (upd H d (.zc od u)) s.heap d (.zc od u):=by
  refine⟨e,x.stay (fun b v _ q=>q) (fun b q=>?_) fun b xs q=>?_⟩
  ·rw[aQ (fun z=>by rw[z,h] at q;cases q;exact mu)];exact q
  ·rw[aQ (fun z=>by rw[z,h] at q;cases q;exact mu)];exact q
 exact⟨od,I.write (x:=d) (e:=d) (t':=s.toks) (h':=s.heap) (by rw[h];exact mu) (.inl rfl) (fun b v _ q=>q) ⟨od,e⟩ new⟩
end
section
variable {X:Cx}
theorem Kw {tg:Expr} {pins:List (af×Obj)} {σ:St} {H:Hp} {s:ay} {R:It->Hp->Prop} {J:It} {tn:Nat->cX->Prop} {tk:Nat} (I:Inv X pins σ H s) (o:Obj)
  (T:Turn X.prog X.w X.K tg J [s.heap.objs.size] s.heap.objs.size tn) (st:tn 0 (s.heap.push o)) (q:R J H):PIE X pins σ tg R (.ref s.heap.objs.size) { s with heap:=s.heap.push o,toks:=tk }:=by
 refine⟨s.heap.objs.size,[s.heap.objs.size],tn,J,H,rfl,I.kept fun b ob e=>aD _ e,T,st,fun b hb=>?_,q⟩
 have e:b=s.heap.objs.size:=by simpa using hb
 subst e
 exact I.N2 (aC _) (I.fw.fresh (aC _))
end
section
variable {X:Cx} {tg:Expr}
end
section
variable {X:Cx} {tg:Expr}
end
def Its (x:Str):It:=⟨fun i _=>i<x.cps.size,fun i H v H'=>H'=H/\∃c,x.cps[i]?=some c/\v=.str ⟨#[c]⟩,fun i _=>x.cps.size<=i⟩
theorem Mc {P:bj} {w:bV} {K:ae} {tg:Expr} (it:af) (x:Str) (t:Tok) (ty:String) (hty:ty="str_ascii_iterator"\/ty="str_iterator") :
  Turn P w K tg (Its x) [it] it (fun i h=>h.IsStrIter it ty x t i) where
 mem:=by simp
 obj:=fun i h st b hb=>by
  have e:b=it:=by simpa using hb
  subst e
  obtain⟨o,e,c,d⟩:=st
  exact⟨o,e,fun v z=>by rw[d] at z;cases z⟩
 keep:=fun i h h' st k=>let ⟨o,ho,r⟩:=st;⟨o,k it (by simp) o ho,r⟩
 item:=by
  intro X hP hw hK hc i pins s σ H E I hf st hg
  subst hP hw hK
  obtain⟨f0,f1,f2,f3,f4,f5⟩:=hf it (by simp)
  have W:Walks X.prog X.w X.A it [it] [it] x.cps.size (SignAt x) (fun i h=>h.IsStrIter it ty x t i):=by
   rcases hty with e | e
   ·rw[e];exact Walks.strAscii (I.ok.hd hc) it x t
   ·rw[e];exact Walks.strWide (I.ok.hd hc) it x t
  have hno:["enumerate","zip","dict_itemiterator","dict_reverseitemiterator","odict_iterator","itertools.zip_longest","itertools.pairwise"].contains ty=false:=by
   rcases hty with e | e
   ·rw[e];decide
   ·rw[e];decide
  refine W.item i s _ _ hg st fun v h' tk hv st' kk=>?_
  obtain⟨c,u,hcx,rfl⟩:=hv
  have I1:Inv X pins σ H { s with heap:=h',toks:=tk }:=I.turned (fun b o hb e=>kk b o (by simpa using hb) e) f0 f1 f3 f4 f5
  obtain⟨oi,e,cc,dd⟩:=id st'
  exact⟨_,rfl,JJ (s:={ s with heap:=h',toks:=tk }) e cc dd hno ⟨.str ⟨#[c]⟩,H,I1,⟨u,rfl⟩,⟨rfl,c,hcx,rfl⟩,st',fun b hb=>(hf b hb).1⟩⟩
 done:=by
  intro X hP hw hK hc i pins s σ H E I hf st hg
  subst hP hw hK
  obtain⟨f0,f1,f2,f3,f4,f5⟩:=hf it (by simp)
  have hx:x.cps[i]?=none:=mP hg
  rcases hty with e | e
  ·rw[e] at st
   exact wpAny_pyNext_ascii_end (I.ok.hd hc) st hx fun h' eb=>⟨rfl,I.turned (t':=s.toks) (fun b o hb e=>eb b o hb e) f0 f1 f3 f4 f5⟩
  ·rw[e] at st
   exact wpAny_pyNext_wide_end (I.ok.hd hc) st hx fun h' eb=>⟨rfl,I.turned (t':=s.toks) (fun b o hb e=>eb b o hb e) f0 f1 f3 f4 f5⟩
 self:=fun A i s Q E st h=>by
  rcases hty with e | e
  ·rw[e] at st;exact wpAny_pyIter_striter_ascii st h
  ·rw[e] at st;exact wpAny_pyIter_striter_wide st h
def XS (te:TE):TI:=fun σ H R=>te σ H fun v H1=>∃x,v=.str x/\R (Its x) H1
theorem UY {X:Cx} {tg e:Expr} {te:TE} (he:PE X e te):PI X tg e (XS te):=by
 intro pins s σ H R I h
 refine fU (he pins s σ H _ I h) fun v s1 ⟨y,H1,I1,r1,x,ex,q⟩=>?_
 subst ex
 obtain⟨t,rfl⟩:=r1
 cases ha:x.cps.all (· < 128)
 ·exact wpAny_pyIter_wide ha (Kw (tk:=s1.toks) I1 _ (Mc _ x t "str_iterator" (.inr rfl)) ⟨_,bp _ rfl,rfl,rfl⟩ q)
 ·exact wpAny_pyIter_ascii ha (Kw (tk:=s1.toks) I1 _ (Mc _ x t "str_ascii_iterator" (.inl rfl)) ⟨_,bp _ rfl,rfl,rfl⟩ q)
section
variable {prog:bj} {w:bV} {A:cQ} {E:ai->ay->Prop} {s:ay}
theorem C7 {d:af} {o:Obj} {es:Array fT} {ep:Nat} {Q:ai->ay->Prop} (hd:(d==eB)=false) (ho:s.heap.get? d=some o) (hc:o.ExactDict) (hdat:o.data=.dict es ep)
  (hQ:Q (.ref s.heap.objs.size) { s with heap:=s.heap.push { cls:=.type "dict_keyiterator",data:=.fields #[.ref d,.int 0 0,.int es.size 0,.int ep 0] } }) :
  bD (model prog w) A (Wr (.ref d)) Q E s:=by
 have hT:s.TypeIs (.ref d) "dict":=⟨o,ho,hc.1⟩
 refine IS hT aap (gw aap hT F.entry_dict_iter ?_ (F.args_dict_iter_1 _))
 unfold Builtin.«dict.__iter__»
 refine ah ?_
 unfold acK
 refine ah (WG hT ?_)
 show bD _ _ (pure (bE d)) _ _ s
 refine aH ?_
 show bD _ _ (HY d >>= _) _ _ s
 unfold HY
 rw[if_neg (by rw[hd];exact bu)]
 refine ah (aH ?_)
 refine ah (vQ ho hdat ?_)
 refine ah (OF ho hdat ?_)
 refine ah (kE (aH ⟨_,rfl,"dict_keyiterator",_,⟨_,bp _ rfl,rfl⟩,eG.lookup,?_⟩))
 simpa [uU] using hQ
theorem zA {it d:af} {i n ep:Nat} {od:Obj} {es:Array fT} {en:fT} {Q:Option ai->ay->Prop} (hit:s.heap.IsKeyIter it d i n ep) (hod:s.heap.get? d=some od) (hdd:od.data=.dict es ep)
  (hsz:es.size=n) (hx:es[i]?=some en) (hQ:∀h',h'.IsKeyIter it d (i+1) n ep->gf it s.heap h'->Q (some en.key) { s with heap:=h' }):bD (model prog w) A (oY (.ref it)) Q E s:=by
 obtain⟨o,ho,hc,hd⟩:=id hit
 unfold oY
 refine ah (FG (n_ (name:=ak "__next__") hit.typeIs eG
  (gw eG hit.typeIs J9 ?_ (IZ _))))
 refine ah (aH ?_)
 refine ah ?_
 refine ah ?_
 first | refine ah (jv hit.typeIs (aH ?_)) | refine ah (mO hit.typeIs (aH ?_))
 refine ah (wpAny_fieldsOf ho hd ?_)
 have hown:vY "dict_keyiterator"=false:=by decide
 simp only[hown,l7,if_false]
 show bD _ _ (if (bE d==i9)=true then _ else _) _ _ s
 rw[if_neg (show ¬ ((bE d==i9)=true) from bu)]
 refine ah (aH ?_)
 refine ah (vQ hod hdd ?_)
 rw[if_neg (by rw[hsz];simp)]
 refine ah (aH ?_)
 refine ah (OF hod hdd ?_)
 rw[if_neg (by simp)]
 refine aH ?_
 obtain⟨hlt',hen⟩:=Array.getElem?_eq_some_iff.mp hx
 simp only[show ¬ ((i:Int)<0) from by omega,if_false,cZ,gW hlt']
 refine ah ?_
 first | refine ah (jv hit.typeIs (aH ?_)) | refine ah (mO hit.typeIs (aH ?_))
 refine ah (WI hit.typeIs ?_)
 show bD _ _ (Yn (.ref it) 1 (uU ((i:Int)+1)) >>= _) _ _ s
 refine ah (wpAny_setField ho hd (by simp) ?_)
 have hit':(s.heap.update it (aaC (·.setIfInBounds 1 (uU ((i:Int)+1))))).IsKeyIter it d (i+1) n ep:=
  ⟨_,oo _ ho (Obj.isFreed_of_fields (Wv hd _)),(Obj.cls_mapFields ..).trans hc,by rw[Wv hd];simp[uU]⟩
 refine ah (iT ?_)
 refine ah (WI (s:={ s with heap:=s.heap.update it (aaC (·.setIfInBounds 1 (uU ((i:Int)+1)))) }) hit'.typeIs ?_)
 show bD _ _ (pure es[i].key) _ _ _
 rw[hen]
 exact aH (aH ⟨_,rfl,aH (hQ _ hit' (jw ..))⟩)
theorem uB {it d:af} {i n ep:Nat} {od:Obj} {es:Array fT} {Q:Option ai->ay->Prop} (hh:A.handled=none) (hit:s.heap.IsKeyIter it d i n ep) (hod:s.heap.get? d=some od) (hdd:od.data=.dict es ep)
  (hsz:es.size=n) (hge:n<=i) (hQ:∀h',abW it s.heap h'->Q none { s with heap:=h' }):bD (model prog w) A (oY (.ref it)) Q E s:=by
 obtain⟨o,ho,hc,hd⟩:=id hit
 unfold oY
 refine ah (FG (n_ (name:=ak "__next__") hit.typeIs eG
  (gw eG hit.typeIs J9 ?_ (IZ _))))
 refine ah (aH ?_)
 refine ah ?_
 refine ah ?_
 first | refine ah (jv hit.typeIs (aH ?_)) | refine ah (mO hit.typeIs (aH ?_))
 refine ah (wpAny_fieldsOf ho hd ?_)
 have hown:vY "dict_keyiterator"=false:=by decide
 simp only[hown,l7,if_false]
 show bD _ _ (if (bE d==i9)=true then _ else _) _ _ s
 rw[if_neg (show ¬ ((bE d==i9)=true) from bu)]
 refine ah (aH ?_)
 refine ah (vQ hod hdd ?_)
 rw[if_neg (by rw[hsz];simp)]
 refine ah (aH ?_)
 refine ah (OF hod hdd ?_)
 rw[if_neg (by simp)]
 refine aH ?_
 have hge':es.size<=i:=by rw[hsz];exact hge
 simp only[show ¬ ((i:Int)<0) from by omega,if_false,cZ,mP hge']
 refine ah ?_
 first | refine ah (jv hit.typeIs (aH ?_)) | refine ah (mO hit.typeIs (aH ?_))
 show bD _ _ (Yn (.ref it) 0 .none >>= _) _ _ s
 refine ah (wpAny_setField ho hd (by simp) ?_)
 show bD _ _ (newExc (.type "StopIteration") [] >>= _) _ _ _
 refine ah ?_
 simp only[newExc,newTuple]
 refine ah (kE ?_ (by size_fits))
 refine ah (m:=firstArgMember _ _) (Yk (a:=i9) (by first | rfl | (simp only[firstArgMember];rfl)) ?_)
 refine kE ?_ (by size_fits)
 simp only[raiseNew]
 refine ah (wpAny_handled ?_)
 rw[show A.in1.handled=none from hh]
 refine ah (aH (wpAny_throw ?_))
 refine ah (abv (T:="StopIteration") (b:=true) ⟨_,bp _ rfl,rfl⟩ isSubtype_stop ?_)
 exact aH (hQ _ (((jw ..).extBut.push _).push _))
end
theorem ZD {κ:Type} {kvs:List (κ×V)} {vs:List (κ×ai)} (h:KV kvs vs):∀{i:Nat} {k:κ} {v:V},kvs[i]?=some (k,v)->∃u,vs[i]?=some (k,u)/\RelV v u:=by
 unfold KV at h
 induction h with
 | nil=>intro i k v e;simp at e
 | @cons a b l₁ l₂ r t ih=>
  intro i k v e
  cases i with
  | zero=>
   simp only[vy,pG] at e
   subst e
   refine⟨b.2,?_,r.2⟩
   simp only[vy]
   exact congrArg some (J7 r.1.symm rfl)
  | succ j=>
   simp only[OI] at e ⊢
   exact ih e
theorem jE {α β:Type} {G:α->β->Prop} {l₁:List α} {l₂:List β} (h:Paired G l₁ l₂):∀{i:Nat} {a:α},l₁[i]?=some a->∃b,l₂[i]?=some b/\G a b:=by
 induction h with
 | nil=>intro i a e;simp at e
 | @cons a b l₁ l₂ r t ih=>
  intro i a' e
  cases i with
  | zero=>
   simp only[vy,pG] at e
   subst e
   exact⟨b,rfl,r⟩
  | succ j=>
   simp only[OI] at e ⊢
   exact ih e
theorem US {k:Key} {u:ai} (h:Ec k u=true):RelV (kV k) u:=by
 rcases gA h with ⟨i,t,rfl,rfl⟩ | ⟨x,t,rfl,rfl⟩
 ·exact⟨t,rfl⟩
 ·exact⟨t,rfl⟩
section
variable {X:Cx} {pins:List (af×Obj)} {σ:St} {H:Hp} {s:ay} {d:af} {o:Obj}
theorem Inv.ZS {kvs:List (Key×V)} (I:Inv X pins σ H s) (h:H d=some (.zc o (.dK kvs))) :
  (d==eB)=false/\s.heap.get? d=some o/\o.ExactDict/\∃(es:Array fT) (ep:Nat) (vs:List (Key×ai)),o.data=.dict es ep/\es.size=kvs.length/\KV kvs vs/\s.heap.DictAt (gz X.prog X.w) d vs ep:=by
 obtain⟨hd,z,hs,vs,kv,o',es,ep,ho,hx,hdt,r⟩:=I.fw d _ h
 rw[hd] at ho
 cases ho
 refine⟨hs,hd,hx,es,ep,vs,hdt,?_,kv,o,es,hd,hx,hdt,r⟩
 have l1:=r.2.1.length
 have l2:kvs.length=vs.length:=eK kv
 rw[iG] at l1
 omega
theorem Inv.ZR {kvs:List (List Key×V)} (I:Inv X pins σ H s) (h:H d=some (.zc o (.dT kvs))) :
  (d==eB)=false/\s.heap.get? d=some o/\o.ExactDict/\∃(es:Array fT) (ep:Nat),o.data=.dict es ep/\es.size=kvs.length /\
   ∀(i:Nat) (k:List Key) (v:V),kvs[i]?=some (k,v)->∃(en:fT) (q:af),es[i]?=some en/\en.key=.ref q/\H q=some (.tup (k.map kV)):=by
 obtain⟨hd,z,hs,xs,pr,o',es,ep,ho,hx,hdt,he,_⟩:=I.fw d _ h
 rw[hd] at ho
 cases ho
 refine⟨hs,hd,hx,es,ep,hdt,?_,fun i k v e=>?_⟩
 ·have l1:es.size=xs.length:=OG he
  have l2:kvs.length=xs.length:=eK pr
  omega
 ·obtain⟨b,hb,e1,e2,_⟩:=jE pr e
  have q:=entry_at he i
  rw[hb] at q
  exact⟨_,b.2.1,q,rfl,e2⟩
end
def Itk (d:af) (o:Obj) (kvs:List (Key×V)):It:=
 ⟨fun i H=>H d=some (.zc o (.dK kvs))/\i<kvs.length,fun i H x H'=>H'=H/\∃k v,kvs[i]?=some (k,v)/\x=kV k,fun i H=>H d=some (.zc o (.dK kvs))/\kvs.length<=i⟩
def Wk (d:af) (o:Obj) (kvs:List (List Key×V)):It:=
 ⟨fun i H=>H d=some (.zc o (.dT kvs))/\i<kvs.length,fun i H x H'=>H'=H/\∃(k:List Key) (v:V) (q:af),kvs[i]?=some (k,v)/\x=.ref q/\H q=some (.tup (k.map kV)),fun i H=>H d=some (.zc o (.dT kvs))/\kvs.length<=i⟩
theorem Fx {o:Obj} {es es':Array fT} {ep ep':Nat} (h:o.data=.dict es ep) (h':o.data=.dict es' ep'):es'=es/\ep'=ep:=by
 rw[h] at h'
 cases h'
 exact⟨rfl,rfl⟩
section
variable {P:bj} {w:bV} {K:ae} {tg:Expr} {d:af} {o:Obj} {es:Array fT} {ep:Nat}
theorem Sj {kvs:List (Key×V)} (it:af) (hod:o.data=.dict es ep):Turn P w K tg (Itk d o kvs) [it] it (fun i h=>h.IsKeyIter it d i kvs.length ep) where
 mem:=by simp
 obj:=fun i h st b hb=>by
  have e:b=it:=by simpa using hb
  subst e
  obtain⟨oi,e,c,dd⟩:=st
  exact⟨oi,e,fun v z=>by rw[dd] at z;cases z⟩
 keep:=fun i h h' st k=>st.at fun oi e=>k it (by simp) oi e
 item:=by
  intro X hP hw hK hc i pins s σ H E I hf st hg
  subst hP hw hK
  obtain⟨hd,hi⟩:=hg
  obtain⟨f0,f1,f2,f3,f4,f5⟩:=hf it (by simp)
  obtain⟨hs,hgd,hx,es',ep',vs,hdt,hsz,kv,hm⟩:=I.ZS hd
  obtain⟨rfl,rfl⟩:=Fx hod hdt
  obtain⟨⟨k,v⟩,hkv⟩:∃p,kvs[i]?=some p:=⟨kvs[i],aR hi⟩
  obtain⟨u,hu,ru⟩:=ZD kv hkv
  have hl:kvs.length=vs.length:=eK kv
  rw[hl] at st
  refine wpAny_pyNext_dict_item st hm hu fun key h' hkey st' sb=>?_
  have I1:Inv X pins σ H { s with heap:=h' }:=I.turned (t':=s.toks) (fun b ob hb e=>(sb.2 b hb).trans e) f0 f1 f3 f4 f5
  obtain⟨oi,e,c,dd⟩:=id st'
  refine⟨key,rfl,JJ (s:={ s with heap:=h' }) e c dd (by decide) ⟨kV k,H,I1,US (show Ec k key=true from hkey),⟨rfl,k,v,hkv,rfl⟩,?_,fun b hb=>(hf b hb).1⟩⟩
  show h'.IsKeyIter it d (i+1) kvs.length _
  rw[hl]
  exact st'
 done:=by
  intro X hP hw hK hc i pins s σ H E I hf st hg
  subst hP hw hK
  obtain⟨hd,hi⟩:=hg
  obtain⟨f0,f1,f2,f3,f4,f5⟩:=hf it (by simp)
  obtain⟨hs,hgd,hx,es',ep',vs,hdt,hsz,kv,hm⟩:=I.ZS hd
  obtain⟨rfl,rfl⟩:=Fx hod hdt
  exact uB (I.ok.hd hc) st hgd hdt hsz hi fun h' eb=>⟨rfl,I.turned (t':=s.toks) (fun b ob hb e=>eb b ob hb e) f0 f1 f3 f4 f5⟩
 self:=fun A i s Q E st h=>wpAny_pyIter_keyiter st h
theorem O3 {kvs:List (List Key×V)} (it:af) (hod:o.data=.dict es ep):Turn P w K tg (Wk d o kvs) [it] it (fun i h=>h.IsKeyIter it d i kvs.length ep) where
 mem:=by simp
 obj:=fun i h st b hb=>by
  have e:b=it:=by simpa using hb
  subst e
  obtain⟨oi,e,c,dd⟩:=st
  exact⟨oi,e,fun v z=>by rw[dd] at z;cases z⟩
 keep:=fun i h h' st k=>st.at fun oi e=>k it (by simp) oi e
 item:=by
  intro X hP hw hK hc i pins s σ H E I hf st hg
  subst hP hw hK
  obtain⟨hd,hi⟩:=hg
  obtain⟨f0,f1,f2,f3,f4,f5⟩:=hf it (by simp)
  obtain⟨hs,hgd,hx,es',ep',hdt,hsz,ent⟩:=I.ZR hd
  obtain⟨rfl,rfl⟩:=Fx hod hdt
  obtain⟨⟨k,v⟩,hkv⟩:∃p,kvs[i]?=some p:=⟨kvs[i],aR hi⟩
  obtain⟨en,q,hen,hkey,hq⟩:=ent i k v hkv
  refine zA st hgd hdt hsz hen fun h' st' sb=>?_
  have I1:Inv X pins σ H { s with heap:=h' }:=I.turned (t':=s.toks) (fun b ob hb e=>(sb.2 b hb).trans e) f0 f1 f3 f4 f5
  obtain⟨oi,e,c,dd⟩:=id st'
  exact⟨en.key,rfl,JJ (s:={ s with heap:=h' }) e c dd (by decide) ⟨.ref q,H,I1,hkey,⟨rfl,k,v,q,hkv,rfl,hq⟩,st',fun b hb=>(hf b hb).1⟩⟩
 done:=by
  intro X hP hw hK hc i pins s σ H E I hf st hg
  subst hP hw hK
  obtain⟨hd,hi⟩:=hg
  obtain⟨f0,f1,f2,f3,f4,f5⟩:=hf it (by simp)
  obtain⟨hs,hgd,hx,es',ep',hdt,hsz,ent⟩:=I.ZR hd
  obtain⟨rfl,rfl⟩:=Fx hod hdt
  exact uB (I.ok.hd hc) st hgd hdt hsz hi fun h' eb=>⟨rfl,I.turned (t':=s.toks) (fun b ob hb e=>eb b ob hb e) f0 f1 f3 f4 f5⟩
 self:=fun A i s Q E st h=>by
  refine IS st.typeIs jP (gw jP st.typeIs J_ ?_ (I0 _))
  show bD _ _ (ret (.ref it)) _ _ s
  exact aH ⟨_,rfl,"dict_keyiterator",_,st.typeIs,eG.lookup,h⟩
end
def abe (td:TE):TI:=fun σ H R=>td σ H fun x H1=>∃d o,x=.ref d/\((∃kvs,H1 d=some (.zc o (.dK kvs))/\R (Itk d o kvs) H1)\/∃kvs,H1 d=some (.zc o (.dT kvs))/\R (Wk d o kvs) H1)
section
variable {X:Cx} {tg e:Expr} {td:TE} {apos cpos:Pos}
theorem Xu (he:PE X e td):PI X tg e (abe td):=by
 intro pins s σ H R I h
 refine fU (he pins s σ H _ I h) fun u s1 ⟨x,H1,I1,rx,d,o,ex,q⟩=>?_
 subst ex
 obtain rfl:u=bE d:=rx
 rcases q with ⟨kvs,hd,q⟩ | ⟨kvs,hd,q⟩
 ·obtain⟨hs,hgd,hx,es,ep,vs,hdt,hsz,kv,hm⟩:=I1.ZS hd
  refine C7 hs hgd hx hdt (Kw (tk:=s1.toks) I1 _ (Sj _ hdt) ⟨_,bp _ rfl,rfl,?_⟩ q)
  rw[hsz] <;> rfl
 ·obtain⟨hs,hgd,hx,es,ep,hdt,hsz,ent⟩:=I1.ZR hd
  refine C7 hs hgd hx hdt (Kw (tk:=s1.toks) I1 _ (O3 _ hdt) ⟨_,bp _ rfl,rfl,?_⟩ q)
  rw[hsz] <;> rfl
end
def Ite (K:ae) (a:af):It:=
 ⟨fun i H=>∃(xs:List V) (x:V),cP K H a xs/\xs[i]?=some x,fun i H v H'=>∃T x,v=.ref T/\H T=none/\H'=upd H T (.tup [.int (i:Nat),x])/\∀xs,cP K H a xs->xs[i]?=some x,fun i H=>∃xs:List V,cP K H a xs/\xs.length<=i⟩
theorem Sk {P:bj} {w:bV} {K:ae} {elts:List Expr} {kk:Nat} {tpos:Pos} (a e it:af) :
  Turn P w K (.Tuple elts kk tpos) (Ite K a) [e,it] e (fun i h=>(∃old,yz h e it ((i:Nat):Int) old)/\h.IsListIter it a i/\e≠it) where
 mem:=by simp
 obj:=fun i h st b hb=>by
  obtain⟨⟨old,he⟩,⟨o,ho,hc,hd⟩,_⟩:=st
  have e':b=e\/b=it:=by simpa using hb
  rcases e' with z | z
  ·rw[z];exact⟨_,he,fun v q=>nomatch q⟩
  ·rw[z];exact⟨o,ho,fun v q=>by rw[hd] at q;cases q⟩
 keep:=fun i h h' st k=>let ⟨⟨old,he⟩,hi,hne⟩:=st;⟨⟨old,k e (by simp) _ he⟩,hi.at fun o q=>k it (by simp) o q,hne⟩
 item:=by
  intro X hP hw hK hc i pins s σ H E I hf st hg
  subst hP hw hK
  obtain⟨⟨old,he⟩,hit,hne⟩:=st
  obtain⟨xs,x,hq,hx⟩:=hg
  obtain⟨its,rv,p,hz⟩:=I.list hq
  obtain⟨u,hu,ru⟩:=rv.get hx
  have hel:e<s.heap.objs.size:=bo he
  have hil:it<s.heap.objs.size:=by obtain⟨_,q,_⟩:=hit;exact bo q
  refine wpAny_pyNext_enum_item he hit p.isList (x:=u) (by simpa using hu) hne fun h' ho hit' hT hsz hk=>?_
  refine⟨_,rfl,QK (s:={ s with heap:=h',toks:=s.toks+1 }) ho fun h'' he' sb=>?_⟩
  have hT2:h''.get? s.heap.objs.size=some { cls:=.type "tuple",data:=.seq #[.int i s.toks,u] }:=(sb.2 _ (gI hel)).trans hT
  have new:gG X.prog X.w (upd H s.heap.objs.size (.tup [.int (i:Nat),x])) h'' s.heap.objs.size (.tup [.int (i:Nat),x]):=
   ⟨by show 2<=ao;decide,[.int i s.toks,u],.cons ⟨_,rfl⟩ (.cons ru .nil),⟨_,hT2,rfl,_,rfl⟩⟩
  have I1:Inv X pins σ (upd H s.heap.objs.size (.tup [.int (i:Nat),x])) { s with heap:=h'',toks:=s.toks+1 }:=
   I.Cz (ch:=[e,it]) (fun b ob hb q=>(sb.2 b (fun z=>hb (by simp[z]))).trans (hk b ob (fun z=>hb (by simp[z])) (fun z=>hb (by simp[z])) q)) hf (aC _) new
  refine⟨.ref s.heap.objs.size,_,I1,rfl,⟨_,x,rfl,I.fw.fresh (aC _),rfl,fun ys hy=>by rw[I.xF hy hq];exact hx⟩,⟨⟨u,?_⟩,hit'.at fun o q=>(sb.2 it (bK hne)).trans q,hne⟩,fun b hb=>?_⟩
  ·have e1:((i+1:Nat):Int)=(i:Int)+1:=by omega
   rw[e1];exact he'
  ·have hb':b<s.heap.objs.size:=by
    have e':b=e\/b=it:=by simpa using hb
    rcases e' with z | z
    ·rw[z];exact hel
    ·rw[z];exact hil
   rw[aQ (cv hb')]
   exact (hf b hb).1
 done:=by
  intro X hP hw hK hc i pins s σ H E I hf st hg
  subst hP hw hK
  obtain⟨⟨old,he⟩,hit,hne⟩:=st
  obtain⟨xs,hq,hx⟩:=hg
  obtain⟨its,rv,p,hz⟩:=I.list hq
  obtain⟨f0,f1,f2,f3,f4,f5⟩:=hf it (by simp)
  have hl:=rv.length
  exact wpAny_pyNext_enum_end (I.ok.hd hc) he hit p.isList (by simp;omega) fun h' eb=>⟨rfl,I.turned (t':=s.toks) (fun b o hb q=>eb b o hb q) f0 f1 f3 f4 f5⟩
 self:=fun A i s Q E st h=>let ⟨⟨_,he⟩,_⟩:=st;vO he h
def abf (K:ae) (ta:TA):TI:=fun σ H R=>ta σ H fun vs H1=>∃a xs,vs=[.ref a]/\cP K H1 a xs/\R (Ite K a) H1
theorem Ri {X:Cx} {e:Expr} {ta:TA} {p pos tpos:Pos} {elts:List Expr} {kk:Nat} (hg:Gl X "enumerate") (hm:X.mg "enumerate"=none) (ha:PA X [e] ta) (hs:cM [e] X.env=[(false,eval e X.env)]:=by rfl) :
  PI X (.Tuple elts kk tpos) (.Call (.Name "enumerate" p) [e] [] pos) (abf X.K ta):=by
 intro pins s σ H R I h
 refine Call_ (C3 I hg hm boot_enumerate (iW (fU (ha pos pins s σ H _ I h) fun us s1 ⟨vs,H1,I1,r1,q1⟩=>?_) hs rfl))
 obtain⟨a,xs,ex,hq,q⟩:=q1
 subst ex
 cases r1 with
 | cons r rr=>
  cases rr
  cases r
  obtain⟨its,rv,p',hz⟩:=I1.list hq
  refine call_enumerate_list p'.isList fun h' he hit hsz hk=>vO he ?_
  have I2:Inv X pins σ H1 { s1 with heap:=h' }:=I1.kept (t':=s1.toks) hk
  refine⟨s1.heap.objs.size+1,[s1.heap.objs.size+1,s1.heap.objs.size],_,_,H1,rfl,I2,Sk a (s1.heap.objs.size+1) s1.heap.objs.size,⟨⟨.none,he⟩,hit,HW _⟩,fun b hb=>?_,q⟩
  have e':b=s1.heap.objs.size+1\/b=s1.heap.objs.size:=by simpa using hb
  have hle:s1.heap.objs.size<=b:=by
   rcases e' with z | z
   ·rw[z];exact kT _ _
   ·rw[z];exact aC _
  exact I1.N2 hle (I1.fw.fresh hle)
theorem Ti:tm "zip"=some (.type "zip"):=by decide +kernel
def Itz (K:ae) (a b:af):It:=
 ⟨fun i H=>∃(xs ys:List V) (x y:V),cP K H a xs/\cP K H b ys/\xs[i]?=some x/\ys[i]?=some y,
  fun i H v H'=>∃T x y,v=.ref T/\H T=none/\H'=upd H T (.tup [x,y])/\(∀xs,cP K H a xs->xs[i]?=some x)/\∀ys,cP K H b ys->ys[i]?=some y,
  fun i H=>∃xs ys:List V,cP K H a xs/\cP K H b ys/\(xs.length<=i\/ys.length<=i)⟩
theorem Ul {P:bj} {w:bV} {K:ae} {elts:List Expr} {kk:Nat} {tpos:Pos} {a b z TI TO i1 i2:af} (D:ZipApart z TI TO i1 i2 a b) :
  Turn P w K (.Tuple elts kk tpos) (Itz K a b) [z,TI,TO,i1,i2] z (fun i h=>IsZip h z TI TO .none/\IsPair h TI (.ref i1) (.ref i2)/\(∃x y,IsPair h TO x y)/\h.IsListIter i1 a i/\h.IsListIter i2 b i) where
 mem:=by simp
 obj:=fun i h st c hc=>by
  obtain⟨hz,hTI,⟨x,y,hTO⟩,⟨o1,e1,_,d1⟩,⟨o2,e2,_,d2⟩⟩:=st
  have e':c=z\/c=TI\/c=TO\/c=i1\/c=i2:=by simpa using hc
  rcases e' with q | q | q | q | q
  ·rw[q];exact⟨_,hz,fun v q=>nomatch q⟩
  ·rw[q];exact⟨_,hTI,fun v q=>nomatch q⟩
  ·rw[q];exact⟨_,hTO,fun v q=>nomatch q⟩
  ·rw[q];exact⟨o1,e1,fun v q=>by rw[d1] at q;cases q⟩
  ·rw[q];exact⟨o2,e2,fun v q=>by rw[d2] at q;cases q⟩
 keep:=fun i h h' st k=>by
  obtain⟨hz,hTI,⟨x,y,hTO⟩,h1,h2⟩:=st
  exact⟨k z (by simp) _ hz,k TI (by simp) _ hTI,⟨x,y,k TO (by simp) _ hTO⟩,h1.at fun o q=>k i1 (by simp) o q,h2.at fun o q=>k i2 (by simp) o q⟩
 item:=by
  intro X hP hw hK hc i pins s σ H E I hf st hg
  subst hP hw hK
  obtain⟨hz,hTI,⟨x0,y0,hTO⟩,h1,h2⟩:=st
  obtain⟨xs,ys,x,y,hqx,hqy,hx,hy⟩:=hg
  obtain⟨its,rv,p,_⟩:=I.list hqx
  obtain⟨its2,rv2,p2,_⟩:=I.list hqy
  obtain⟨u,hu,ru⟩:=rv.get hx
  obtain⟨u2,hu2,ru2⟩:=rv2.get hy
  have hzl:z<s.heap.objs.size:=bo hz
  refine wpAny_pyNext_zip_item D hz hTI hTO h1 h2 p.isList p2.isList (x:=u) (y:=u2) (by simpa using hu) (by simpa using hu2) fun h' z' TO' h1' h2' hT hsz hk=>?_
  refine⟨_,rfl,wpAny_letOwnedTupleGo_zip (s:={ s with heap:=h' }) z' fun h'' z'' sb=>?_⟩
  have hT2:h''.get? s.heap.objs.size=some { cls:=.type "tuple",data:=.seq #[u,u2] }:=(sb.2 _ (gI hzl)).trans hT
  have new:gG X.prog X.w (upd H s.heap.objs.size (.tup [x,y])) h'' s.heap.objs.size (.tup [x,y]):=
   ⟨by show 2<=ao;decide,[u,u2],.cons ru (.cons ru2 .nil),⟨_,hT2,rfl,_,rfl⟩⟩
  have I1:Inv X pins σ (upd H s.heap.objs.size (.tup [x,y])) { s with heap:=h'' }:=
   I.Cz (t':=s.toks) (ch:=[z,TI,TO,i1,i2]) (fun c o hb q=>(sb.2 c (fun q'=>hb (by simp[q']))).trans (hk c o (fun q'=>hb (by simp[q'])) (fun q'=>hb (by simp[q'])) (fun q'=>hb (by simp[q'])) (fun q'=>hb (by simp[q'])) q)) hf (aC _) new
  refine⟨.ref s.heap.objs.size,_,I1,rfl,⟨_,x,y,rfl,I.fw.fresh (aC _),rfl,fun l hl=>by rw[I.xF hl hqx];exact hx,fun l hl=>by rw[I.xF hl hqy];exact hy⟩,⟨z'',?_,⟨u,u2,?_⟩,?_,?_⟩,fun c hcm=>?_⟩
  ·exact (sb.2 _ D.TIz).trans (hk _ _ D.TIz D.TITO D.TIi1 D.TIi2 hTI)
  ·exact (sb.2 _ D.TOz).trans TO'
  ·exact h1'.at fun o q=>(sb.2 _ D.i1z).trans q
  ·exact h2'.at fun o q=>(sb.2 _ D.i2z).trans q
  ·have hlt:c<s.heap.objs.size:=by
    have e':c=z\/c=TI\/c=TO\/c=i1\/c=i2:=by simpa using hcm
    rcases e' with q | q | q | q | q
    ·rw[q];exact hzl
    ·rw[q];exact bo hTI
    ·rw[q];exact bo hTO
    ·rw[q];obtain⟨_,e1,_⟩:=h1;exact bo e1
    ·rw[q];obtain⟨_,e2,_⟩:=h2;exact bo e2
   rw[aQ (cv hlt)]
   exact (hf c hcm).1
 done:=by
  intro X hP hw hK hc i pins s σ H E I hf st hg
  subst hP hw hK
  obtain⟨hz,hTI,⟨x0,y0,hTO⟩,h1,h2⟩:=st
  obtain⟨xs,ys,hqx,hqy,hend⟩:=hg
  obtain⟨its,rv,p,_⟩:=I.list hqx
  obtain⟨its2,rv2,p2,_⟩:=I.list hqy
  have l1:=rv.length
  have l2:=rv2.length
  have he:its.toArray[i]?=none\/its2.toArray[i]?=none:=by
   rcases hend with q | q
   ·exact .inl (by simp;omega)
   ·exact .inr (by simp;omega)
  exact wpAny_pyNext_zip_end (I.ok.hd hc) D hz hTI hTO h1 h2 p.isList p2.isList he fun h' hk=>⟨rfl,I.WQ (t':=s.toks) (ch:=[z,TI,TO,i1,i2]) (fun c o hb q=>
   hk c o (fun q'=>hb (by simp[q'])) (fun q'=>hb (by simp[q'])) (fun q'=>hb (by simp[q'])) (fun q'=>hb (by simp[q'])) q) hf⟩
 self:=fun A i s Q E st h=>abu st.1 h
def ada (K:ae) (ta:TA):TI:=fun σ H R=>ta σ H fun vs H1=>∃a b xs ys,vs=[.ref a,.ref b]/\cP K H1 a xs/\cP K H1 b ys/\R (Itz K a b) H1
theorem Zq {X:Cx} {e e2:Expr} {ta:TA} {p pos tpos:Pos} {elts:List Expr} {kk:Nat} (hg:Gl X "zip") (hm:X.mg "zip"=none) (ha:PA X [e,e2] ta)
  (hs:cM [e,e2] X.env=(false,eval e X.env)::cM [e2] X.env:=by rfl) (hpl:(kC pos (cM [e2] X.env)).any (·.1)=false:=by rfl) :
  PI X (.Tuple elts kk tpos) (.Call (.Name "zip" p) [e,e2] [] pos) (ada X.K ta):=by
 intro pins s σ H R I h
 refine Call_ (C3 I hg hm Ti (iW (fU (ha pos pins s σ H _ I h) fun us s1 ⟨vs,H1,I1,r1,q1⟩=>?_) hs hpl))
 obtain⟨a,b,xs,ys,ex,hqx,hqy,q⟩:=q1
 subst ex
 cases r1 with
 | cons r rr=>
  cases rr with
  | cons r' rr=>
   cases rr
   cases r
   cases r'
   obtain⟨its,rv,p1,_⟩:=I1.list hqx
   obtain⟨its2,rv2,p2,_⟩:=I1.list hqy
   have la:a<s1.heap.objs.size:=p1.lt
   have lb:b<s1.heap.objs.size:=p2.lt
   refine call_zip_2 p1.isList p2.isList fun h' hz hTI hTO h1 h2 hsz hk=>abu hz ?_
   have I2:Inv X pins σ H1 { s1 with heap:=h' }:=I1.kept (t':=s1.toks) hk
   refine⟨s1.heap.objs.size+4,[s1.heap.objs.size+4,s1.heap.objs.size+2,s1.heap.objs.size+3,s1.heap.objs.size,s1.heap.objs.size+1],_,_,H1,rfl,I2,Ul (PySem.W.ktu_apart s1.heap.objs.size a b la lb),⟨hz,hTI,⟨_,_,hTO⟩,h1,h2⟩,fun c hcm=>?_,q⟩
   have e':c=s1.heap.objs.size+4\/c=s1.heap.objs.size+2\/c=s1.heap.objs.size+3\/c=s1.heap.objs.size\/c=s1.heap.objs.size+1:=by simpa using hcm
   have hle:s1.heap.objs.size<=c:=by
    rcases e' with z | z | z | z | z
    ·rw[z];exact kT _ _
    ·rw[z];exact kT _ _
    ·rw[z];exact kT _ _
    ·rw[z];exact aC _
    ·rw[z];exact kT _ _
   exact I1.N2 hle (I1.fw.fresh hle)
end L2
section
namespace adB
open PySem PyProof.Rows
end adB
end
section
namespace TL
open PySem PySem.Builtin PySem.Builtin.Str PySem.StrLaws
abbrev tl (x:Str):List Nat:=x.cps.toList
theorem xG (x:Str):x.length=(tl x).length:=by simp[tl,DK]
theorem VM {x y:Str} (h:tl x=tl y):x=y:=Str.ext' (Array.toList_inj.mp h)
theorem Jh (x y:Str):tl (x++y)=tl x++tl y:=by
 show (x++y).cps.toList=_
 rw[Str.cps_append,Array.toList_append]
def pre (S l:List Nat):Bool:=l.take S.length==S
def CD (S:List Nat):Nat->List Nat->List Nat->List (List Nat)
 | _,acc,[]=>[acc]
 | 0,acc,c::r=>if pre S (c::r)=true then acc::CD S (S.length-1) [] r else CD S 0 (acc++[c]) r
 | k+1,acc,_::r=>CD S k acc r
def par (S:List Nat):List Nat->List Nat->Option (List Nat×List Nat)
 | _,[]=>none
 | acc,c::r=>if pre S (c::r)=true then some (acc,(c::r).drop S.length) else par S (acc++[c]) r
theorem Bz (S:List Nat) (k:Nat) (acc:List Nat):CD S k acc []=[acc]:=by cases k <;> rfl
theorem Kh {S acc r:List Nat} {c:Nat} (h:pre S (c::r)=true):CD S 0 acc (c::r)=acc::CD S (S.length-1) [] r:=by
 show (if pre S (c::r)=true then acc::CD S (S.length-1) [] r else CD S 0 (acc++[c]) r)=_
 rw[if_pos h]
theorem F2 {S acc r:List Nat} {c:Nat} (h:pre S (c::r)=false):CD S 0 acc (c::r)=CD S 0 (acc++[c]) r:=by
 show (if pre S (c::r)=true then acc::CD S (S.length-1) [] r else CD S 0 (acc++[c]) r)=_
 rw[if_neg (by rw[h];exact bu)]
theorem Mm (S:List Nat):∀(k:Nat) (acc l:List Nat),CD S k acc l=CD S 0 acc (l.drop k)
 | 0,_,_=>by rw[mT]
 | k+1,acc,[]=>by rw[List.drop_nil,Bz,Bz]
 | k+1,acc,c::r=>by
  show CD S k acc r=CD S 0 acc (r.drop k)
  exact Mm S k acc r
theorem Rj {S acc r:List Nat} {c:Nat} (h:pre S (c::r)=true):par S acc (c::r)=some (acc,(c::r).drop S.length):=by
 show (if pre S (c::r)=true then some (acc,(c::r).drop S.length) else par S (acc++[c]) r)=_
 rw[if_pos h]
theorem M0 {S acc r:List Nat} {c:Nat} (h:pre S (c::r)=false):par S acc (c::r)=par S (acc++[c]) r:=by
 show (if pre S (c::r)=true then some (acc,(c::r).drop S.length) else par S (acc++[c]) r)=_
 rw[if_neg (by rw[h];exact bu)]
theorem Rf {S:List Nat} (hS:S≠[]):pre S []=false:=by
 cases S with
 | nil=>exact absurd rfl hS
 | cons s S=>rfl
theorem xi {s c:Nat} (S r:List Nat) (h:c≠s):pre (s::S) (c::r)=false:=by
 cases hp:pre (s::S) (c::r) with
 | false=>rfl
 | true=>
  have e:(c::r).take (s::S).length=s::S:=eq_of_beq hp
  rw[aG,Bs] at e
  injection e with e1 e2
  exact absurd e1 h
theorem qY {L:List Nat} {a:Nat} (h:a<L.length):∃c,L.drop a=c::L.drop (a+1):=⟨L[a],kU h⟩
theorem Kg (S L:List Nat):∀(m a:Nat) (acc:List Nat),a+m<=L.length->(∀k,a<=k->k<a+m->pre S (L.drop k)=false) ->
  CD S 0 acc (L.drop a)=CD S 0 (acc++(L.drop a).take m) (L.drop (a+m))
 | 0,a,acc,_,_=>by rw[zN,dw,abT]
 | m+1,a,acc,h,hn=>by
  have hlt:a<L.length:=by omega
  obtain⟨c,e⟩:=qY hlt
  have h0:=hn a (aC _) (by omega)
  have ih:=Kg S L m (a+1) (acc++[c]) (by omega) (fun k h1 h2=>hn k (by omega) (by omega))
  have e2:a+1+m=a+(m+1):=by omega
  rw[e2] at ih
  rw[e] at h0
  rw[e,F2 h0,ih,Bs,cF] <;> rfl
theorem KC (S L:List Nat):∀(m a:Nat) (acc:List Nat),a+m<=L.length->(∀k,a<=k->k<a+m->pre S (L.drop k)=false) ->
  par S acc (L.drop a)=par S (acc++(L.drop a).take m) (L.drop (a+m))
 | 0,a,acc,_,_=>by rw[zN,dw,abT]
 | m+1,a,acc,h,hn=>by
  have hlt:a<L.length:=by omega
  obtain⟨c,e⟩:=qY hlt
  have h0:=hn a (aC _) (by omega)
  have ih:=KC S L m (a+1) (acc++[c]) (by omega) (fun k h1 h2=>hn k (by omega) (by omega))
  have e2:a+1+m=a+(m+1):=by omega
  rw[e2] at ih
  rw[e] at h0
  rw[e,M0 h0,ih,Bs,cF] <;> rfl
theorem N7 (L:List Nat) (a b:Nat):(L.drop a).drop b=L.drop (a+b):=by
 first
  | rw[YV]
  | rw[YV,abU]
theorem Y_ {S L:List Nat} (hS:S≠[]) {c:Nat} {acc:List Nat} (h:pre S (L.drop c)=true):CD S 0 acc (L.drop c)=acc::CD S 0 [] (L.drop (c+S.length)):=by
 rw[<- N7]
 cases e:L.drop c with
 | nil=>rw[e,Rf hS] at h;cases h
 | cons d r=>
  rw[e] at h
  rw[Kh h,Mm]
  cases S with
  | nil=>exact absurd rfl hS
  | cons s S=>rfl
theorem Zt {S L:List Nat} (hS:S≠[]) {c:Nat} {acc:List Nat} (h:pre S (L.drop c)=true):par S acc (L.drop c)=some (acc,L.drop (c+S.length)):=by
 rw[<- N7]
 cases e:L.drop c with
 | nil=>rw[e,Rf hS] at h;cases h
 | cons d r=>
  rw[e] at h
  rw[Rj h]
theorem QC {x y:Str} (hy:tl y≠[]) (i:Nat):At x y x.length i<->pre (tl y) ((tl x).drop i)=true:=by
 have hx:=xG x
 have hl:=xG y
 constructor
 ·intro h
  have h2:=h.2
  rw[subAt_eq,hl] at h2
  exact h2
 ·intro h
  have e:((tl x).drop i).take (tl y).length=tl y:=eq_of_beq h
  have e1:=congrArg j_ e
  rw[cx,oq] at e1
  have e2:0<(tl y).length:=TM.mpr hy
  refine⟨by omega,?_⟩
  rw[subAt_eq,hl]
  exact h
theorem Rp {x y:Str} (hy:tl y≠[]) {i:Nat} (h:¬ At x y x.length i):pre (tl y) ((tl x).drop i)=false:=by
 cases hp:pre (tl y) ((tl x).drop i) with
 | false=>rfl
 | true=>exact absurd ((QC hy i).mpr hp) h
theorem ac8 {y:Str} (hy:tl y≠[]):1<=y.length:=by
 have e2:0<(tl y).length:=TM.mpr hy
 rw[xG y]
 exact e2
theorem CA (x:Str) (i j:Nat):tl (strSub x i j)=((tl x).drop i).take (j-i):=strSub_toList x i j
theorem zo (x:Str) (i:Nat):tl (strSub x i x.length)=(tl x).drop i:=by
 rw[CA,xG x]
 exact mR (by rw[oq] <;> omega)
theorem JA {x y:Str} (hy:tl y≠[]):∀(cuts:List Nat) (a f:Nat),a<=(tl x).length->ChainG x y x.length a cuts f->(∀k,f<=k->¬ At x y x.length k) ->
  (partsFrom x y.length a cuts).map tl=CD (tl y) 0 [] ((tl x).drop a)
 | [],a,f,ha,h,hn=>by
  have e:f=a:=h
  subst e
  show [tl (strSub x f x.length)]=_
  have run:=Kg (tl y) (tl x) ((tl x).length-f) f [] (by omega) (fun k h1 _=>Rp hy (hn k h1))
  have e2:f+((tl x).length-f)=(tl x).length:=by omega
  rw[e2,vB,Bz,pH,mR (by rw[oq] <;> omega)] at run
  rw[run,zo]
 | c::r,a,f,ha,h,hn=>by
  obtain⟨h1,h2,h3,h4⟩:=h
  have hc:c+y.length<=x.length:=h2.1
  have hx:=xG x
  have hl:=xG y
  have ih:=JA hy r (c+y.length) f (by omega) h4 hn
  show tl (strSub x a c)::(partsFrom x y.length (c+y.length) r).map tl=_
  have run:=Kg (tl y) (tl x) (c-a) a [] (by omega) (fun k k1 k2=>Rp hy (h3 k k1 (by omega)))
  have e2:a+(c-a)=c:=by omega
  rw[e2,pH,Y_ hy ((QC hy c).mp h2)] at run
  rw[run,ih,CA,hl]
theorem Jm (x y:Str) (hy:tl y≠[]) (hk:¬ eT x<eT y):(mM x y).map tl=CD (tl y) 0 [] (tl x):=by
 obtain⟨f,g,hn⟩:=occ_tight x y (ac8 hy)
 have key:=JA hy _ 0 f (cu _) g hn
 rw[mT] at key
 have none_case:occurrences x y 0 x.length (x.length+1)=[]->[x].map tl=CD (tl y) 0 [] (tl x):=fun ho=>by
  rw[ho] at key
  rw[<- key]
  show [tl x]=[tl (strSub x 0 x.length)]
  rw[sub_whole]
 unfold mM
 by_cases h1:(decide (x.length<y.length)||decide (eT x<eT y))=true
 ·rw[if_pos h1]
  have hlt:x.length<y.length:=by
   simp only[hC,decide_eq_true_eq] at h1
   rcases h1 with h | h
   ·exact h
   ·exact absurd h hk
  refine none_case ?_
  cases ho:occurrences x y 0 x.length (x.length+1) with
  | nil=>rfl
  | cons c r=>
   rw[ho] at g
   have hc:c+y.length<=x.length:=g.2.1.1
   omega
 ·rw[if_neg h1]
  by_cases h2:(occurrences x y 0 x.length (x.length+1)).isEmpty=true
  ·rw[if_pos h2]
   exact none_case (vx.mp h2)
  ·rw[if_neg h2,partsBetween_eq]
   exact key
theorem RB {x y:Str} (h:y.cps.all (· < 256)=true):¬ eT x<eT y:=by
 have e:eT y=1:=by unfold eT;rw[if_pos h]
 rw[e]
 unfold eT
 split
 ·omega
 ·split <;> omega
theorem Im (x y:Str) (hy:tl y≠[]) :
  iD x y=(match par (tl y) [] (tl x) with | some (a,b)=>(⟨a.toArray⟩,y,⟨b.toArray⟩) | none=>(x,Yq,Yq)):=by
 have hx:=xG x
 have hl:=xG y
 rcases acv x y with ⟨e,hn⟩ | ⟨i,e,hi,hn⟩
 ·have run:=KC (tl y) (tl x) (tl x).length 0 [] (by omega) (fun k _ _=>Rp hy (hn k))
  rw[mT,QQ,vB] at run
  rw[e,run] <;> rfl
 ·have hb:i+y.length<=x.length:=hi.1
  have run:=KC (tl y) (tl x) i 0 [] (by omega) (fun k _ k2=>Rp hy (hn k (by omega)))
  rw[mT,QQ,pH,Zt hy ((QC hy i).mp hi)] at run
  rw[e,run]
  have e1:strSub x 0 i=⟨((tl x).take i).toArray⟩:=VM (by rw[CA,mT,Nat.sub_zero])
  have e2:strSub x (i+y.length) x.length=⟨((tl x).drop (i+(tl y).length)).toArray⟩:=VM (by rw[zo,hl])
  rw[e1,e2] <;> rfl
def zD (S:List Nat):List (List Nat)->List Nat
 | []=>[]
 | [p]=>p
 | p::q::r=>p++(S++zD S (q::r))
theorem QZ (y:Str):∀parts:List Str,tl (E_ y parts)=zD (tl y) (parts.map tl)
 | []=>rfl
 | [_]=>rfl
 | x::z::r=>by
  show tl (x++y++E_ y (z::r))=tl x++(tl y++zD (tl y) ((z::r).map tl))
  rw[Jh,Jh,QZ y (z::r),cF]
theorem join_eq (y:Str) (parts:List Str):vM y parts=E_ y parts:=glued_eq_join y parts
end TL
end
namespace L2
open PySem PySem.Spec PyProof.Rows
theorem Je:∀l:List (Str×Tok),dF ((l.map (·.1)).map V.str) (abz l)
 | []=>.nil
 | p::r=>.cons ⟨p.2,rfl⟩ (Je r)
theorem tQ:∀{ys:List Str} {us:List ai},dF (ys.map V.str) us->StrsAre us ys
 | [],_,.nil=>.nil
 | y::ys,_,.cons r t=>by
  obtain⟨k,rfl⟩:=r
  exact .cons y k (tQ t)
def F' (ys:List Str):Hp->VK->Prop:=fun H Q=>∀p,H p=none->Q (.ref p) (upd H p (.lst (ys.map V.str)))
section
variable {X:Cx} {pins:List (af×Obj)} {σ:St} {H:Hp} {s:ay} {Q:VK}
theorem C4 {l:List (Str×Tok)} {ys:List Str} {k:Nat} (I:Inv X pins σ H s) (e:l.map (·.1)=ys) (hz:ys.length<=ao) (h:F' ys H Q) :
  EP X pins σ Q (.ref s.heap.objs.size) { s with toks:=k,heap:=s.heap.push { cls:=.type "list",data:=.seq (abz l).toArray } }:=by
 have hp:=I.fw.fresh (aC _)
 refine⟨.ref s.heap.objs.size,upd H s.heap.objs.size (.lst (ys.map V.str)),I.laid (fun b u q=>aD _ q) (aC _) ⟨by rw[aa];exact hz,abz l,_,?_,bp _ rfl⟩,rfl,h _ hp⟩
 rw[<- e]
 exact Je l
theorem GZ {x y z:Str} {t u v:Tok} {k:Nat} (I:Inv X pins σ H s) (h:∀p,H p=none->Q (.ref p) (upd H p (.tup [.str x,.str y,.str z]))) :
  EP X pins σ Q (.ref s.heap.objs.size) { s with toks:=k,heap:=s.heap.push { cls:=.type "tuple",data:=.seq [dJ x t,.str y u,.str z v].toArray } }:=by
 have hp:=I.fw.fresh (aC _)
 exact⟨.ref s.heap.objs.size,upd H s.heap.objs.size (.tup [.str x,.str y,.str z]),I.laid (fun b u q=>aD _ q) (aC _)
  ⟨by show 3<=ao;decide,[dJ x t,.str y u,.str z v],.cons ⟨t,rfl⟩ (.cons ⟨u,rfl⟩ (.cons ⟨v,rfl⟩ .nil)),_,bp _ rfl,rfl,_,rfl⟩,rfl,h _ hp⟩
end
section
variable {X:Cx}
theorem Ve:Yi X "str.split" (fun x xs H Q=>∃a b,x=.str a/\xs=[.str b]/\(b.length==0)=false/\a.length+2<=ao/\F' (mM a b) H Q):=by
 intro pins s σ H x xs v us Q I rx rs h
 obtain⟨a,b,rfl,rfl,hb,hz,h⟩:=h
 obtain⟨t,rfl⟩:=rx
 cases rs with
 | cons r1 rs=>
  cases rs
  obtain⟨u,rfl⟩:=r1
  have hl:(mM a b).length<=ao:=dA (acp a b) hz
  have hn:(Fj a (kI a b 0 a.length (a.length+1)) b.length).length<=ao:=by
   have e1:=StrLaws.occ_length_le a b 0 a.length (a.length+1)
   rw[length_partsBetween];omega
  cases h1:(decide (a.length<b.length)||decide (eT a<eT b))
  ·cases hf:(kI a b 0 a.length (a.length+1)).isEmpty
   ·refine uV yA (qC _ _ _) HX (Fh _ _) (meets_str_split_sep a b t u h1 hb hf (by omega) hn) ?_
    show EP X pins σ Q (.ref s.heap.objs.size) { s with toks:=_,heap:=s.heap.push { cls:=.type "list",data:=.seq (strsFrom s.toks (Fj a (kI a b 0 a.length (a.length+1)) b.length)).toArray } }
    rw[strsFrom_eq]
    exact C4 (ys:=mM a b) I ((numbered_texts _ _).trans ((if_neg (ne_true_of_eq_false h1)).trans (if_neg (ne_true_of_eq_false hf))).symm) hl h
   ·refine uV yA (qC _ _ _) HX (Fh _ _) (meets_str_split_not_found a b t u h1 hb hf) ?_
    exact C4 (l:=[(a,t)]) (ys:=mM a b) (k:=s.toks) I ((if_neg (ne_true_of_eq_false h1)).trans (if_pos hf)).symm hl h
  ·refine uV yA (qC _ _ _) HX (Fh _ _) (meets_str_split_cannot_occur a b t u h1) ?_
   exact C4 (l:=[(a,t)]) (ys:=mM a b) (k:=s.toks) I (if_pos h1).symm hl h
theorem K0:Yi X "str.partition" (fun x xs H Q=>∃a b,x=.str a/\xs=[.str b]/\(b.length==0)=false/\a.length<=ao /\
  ∀p,H p=none->Q (.ref p) (upd H p (.tup [.str (iD a b).1,.str (iD a b).2.1,.str (iD a b).2.2]))):=by
 intro pins s σ H x xs v us Q I rx rs h
 obtain⟨a,b,rfl,rfl,hb,hz,h⟩:=h
 obtain⟨t,rfl⟩:=rx
 cases rs with
 | cons r1 rs=>
  cases rs
  obtain⟨u,rfl⟩:=r1
  refine uV Wy (qC _ _ _) F.entry_str_partition (F.args_str_partition_2 _ _) (meets_str_partition a b t u hb hz) ?_
  unfold iD at h
  revert h
  cases kI a b 0 a.length 1 with
  | nil=>intro h;exact GZ I h
  | cons i r=>intro h;exact GZ I h
theorem XE:Yi X "str.join" (fun x xs H Q=>∃a p,∃ys:List Str,x=.str a/\xs=[.ref p]/\(cP X.K H p (ys.map V.str)\/iC X.K H p (ys.map V.str)) /\
  (ys.map (·.length)).sum+ys.length*a.length<=16777216/\Q (.str (vM a ys)) H):=by
 intro pins s σ H x xs v us Q I rx rs h
 obtain⟨a,p,ys,rfl,rfl,hp,hz,h⟩:=h
 obtain⟨t,rfl⟩:=rx
 cases rs with
 | cons r1 rs=>
  cases rs
  cases r1
  rcases hp with hp | hp
  ·obtain⟨its,r,⟨o,n,ho,hc,_,hd⟩,_⟩:=I.list hp
   exact acz (items:=its.toArray) ⟨o,ho,hc,n,hd⟩ (by rw[TK];exact tQ r) hz fun t' k=>⟨.str _,H,I.tok k,⟨t',rfl⟩,h⟩
  ·obtain⟨its,r,ht,_⟩:=I.tuple hp
   exact acy (items:=its.toArray) ht (by rw[TK];exact tQ r) hz fun t' k=>⟨.str _,H,I.tok k,⟨t',rfl⟩,h⟩
theorem mt1 {id:String} {g:Str->Str->V} (rule:∀(a b:Str) (t u:Tok) (s:ay) (Q:ai->ay->Prop),(∀(v:ai) (k:Nat),RelV (g a b) v->Q v { s with toks:=k }) ->
  bD (model X.prog X.w) X.A (call (.builtin id) [.str a t,.str b u]) Q X.xe s):Yi X id (fun x xs H Q=>∃a b,x=.str a/\xs=[.str b]/\Q (g a b) H):=by
 intro pins s σ H x xs v us Q I rx rs h
 obtain⟨a,b,rfl,rfl,h⟩:=h
 obtain⟨t,rfl⟩:=rx
 cases rs with
 | cons r1 rs=>
  cases rs
  obtain⟨u,rfl⟩:=r1
  exact rule a b t u s _ fun v k r=>⟨g a b,H,I.tok k,r,h⟩
theorem zC:Yi X "str.startswith" (fun x xs H Q=>∃a b,x=.str a/\xs=[.str b]/\Q (.bl (iV a b)) H):=
 mt1 (g:=fun a b=>.bl (iV a b)) fun _ _ _ _ s _ h=>PySem.SC.startswith (h _ s.toks rfl)
end
section
variable {X:Cx} {o e:Expr} {to te:TE}
def WX (r:V->List V->Hp->VK->Prop) (to te:TE):TE:=fun σ H Q=>to σ H fun x H1=>(∃a,x=.str a)/\te σ H1 fun y H2=>r x [y] H2 Q
theorem MX {id:String} {name:Str} {apos pos:Pos} {r:V->List V->Hp->VK->Prop} (slot:Slot "str" name id) (ty:typeOf (.builtin id)=pure (.type "method_descriptor")) (rule:Yi X id r) (ho:PE X o to) (he:PE X e te)
  (hs:cM [e] X.env=[(false,eval e X.env)]:=by rfl) (hbase:iU o name X.env (eval o X.env)=eval o X.env:=by rfl) (hline:(apos.endLine==pos.line)=true:=by rfl) :
  PE X (.Call (.Attribute o name apos) [e] [] pos) (WX r to te):=by
 intro pins s σ H Q I h
 refine PySem.Call_method1 hbase hs hline (fU (ho pins s σ H _ I h) fun v s1 ⟨x,H1,I1,r1,q1⟩=>?_)
 obtain⟨⟨a,rfl⟩,q1⟩:=q1
 obtain⟨t,rfl⟩:=_root_.id r1
 refine⟨"str",_,F.plainAttrs_str,slot,ty,qC _ _ _,(fun _ e=>nomatch e),gE rfl (g_ (fu ?_))⟩
 exact fU (he pins s1 σ H1 _ I1 q1) fun u s2 ⟨y,H2,I2,r2,q2⟩=>jx (rule pins s2 σ H2 _ [y] _ [u] Q I2 r1 (.cons r2 .nil) q2)
theorem MW {apos pos:Pos} (ho:PE X o to) (he:PE X e te) (hs:cM [e] X.env=[(false,eval e X.env)]:=by rfl) (hbase:iU o "split" X.env (eval o X.env)=eval o X.env:=by rfl) (hline:(apos.endLine==pos.line)=true:=by rfl) :
  PE X (.Call (.Attribute o "split" apos) [e] [] pos) (WX (fun x xs H Q=>∃a b,x=.str a/\xs=[.str b]/\(b.length==0)=false/\a.length+2<=ao/\F' (mM a b) H Q) to te):=
 MX yA F.type_str_split Ve ho he hs hbase hline
theorem Kx {apos pos:Pos} (ho:PE X o to) (he:PE X e te) (hs:cM [e] X.env=[(false,eval e X.env)]:=by rfl) (hbase:iU o "partition" X.env (eval o X.env)=eval o X.env:=by rfl) (hline:(apos.endLine==pos.line)=true:=by rfl) :
  PE X (.Call (.Attribute o "partition" apos) [e] [] pos) (WX (fun x xs H Q=>∃a b,x=.str a/\xs=[.str b]/\(b.length==0)=false/\a.length<=ao /\
   ∀p,H p=none->Q (.ref p) (upd H p (.tup [.str (iD a b).1,.str (iD a b).2.1,.str (iD a b).2.2]))) to te):=
 MX Wy F.type_str_partition K0 ho he hs hbase hline
theorem Kz {apos pos:Pos} (ho:PE X o to) (he:PE X e te) (hs:cM [e] X.env=[(false,eval e X.env)]:=by rfl) (hbase:iU o "join" X.env (eval o X.env)=eval o X.env:=by rfl) (hline:(apos.endLine==pos.line)=true:=by rfl) :
  PE X (.Call (.Attribute o "join" apos) [e] [] pos) (WX (fun x xs H Q=>∃a p,∃ys:List Str,x=.str a/\xs=[.ref p]/\(cP X.K H p (ys.map V.str)\/iC X.K H p (ys.map V.str)) /\
   (ys.map (·.length)).sum+ys.length*a.length<=16777216/\Q (.str (vM a ys)) H) to te):=
 MX F.slot_str_join F.type_str_join XE ho he hs hbase hline
end
end L2
namespace L2
open PySem PySem.Spec PyProof.Rows
section
variable {X:Cx}
theorem Ao:HN X (e_ .In) (fun x y H Q=>∃(c:Nat) (z:Str),x=.str ⟨#[c]⟩/\y=.str z/\Q (.bl (decide (c∈z.cps.toList))) H):=by
 intro pins s σ H x y v u Q I rx ry h
 obtain⟨c,z,rfl,rfl,q⟩:=h
 obtain⟨t,rfl⟩:=rx
 obtain⟨t',rfl⟩:=ry
 exact acB (fh I q (abJ z c).symm)
end
theorem IsPart.raw {v:ai} {o:Option Int} (p:IsPart v o):∃l:Option (Int×Tok),v=partValue l/\l.map (·.1)=o:=by
 cases p with
 | none=>exact⟨none,rfl,rfl⟩
 | int i t=>exact⟨some (i,t),rfl,rfl⟩
def Of (n d:Nat):Option Int->Int
 | none=>(d:Int)
 | some i=>max 0 (min (if i<0 then i+(n:Int) else i) (n:Int))
theorem Oe (n d:Nat) (o:Option Int):Of n d o=((HT.oG n d o:Nat):Int):=by
 cases o with
 | none=>rfl
 | some v=>
  show max (0:Int) (min (if v<0 then v+(n:Int) else v) (n:Int))=(((if v<0 then (v+(n:Int)).toNat else min v.toNat n):Nat):Int)
  by_cases hv:v<0
  ·simp only[if_pos hv]
   omega
  ·simp only[if_neg hv]
   omega
theorem SG (a b:Option Int) (n:Nat):da a b 1 n=sliceRange (Of n 0 a) (Of n n b) 1:=by
 have h1:((1:Int) > 0)=True:=by simp
 cases a <;> cases b <;> first
  | rfl
  | (simp only[da,Of,h1,if_true];rfl)
  | simp[da,Of]
theorem acQ (a b:Option Int) (n:Nat):da a b 1 n=(be (HT.oG n n b-HT.oG n 0 a)).map (fun k=>HT.oG n 0 a+k):=by
 rw[SG,Oe,Oe]
 generalize HT.oG n 0 a=p
 generalize HT.oG n n b=q
 simp only[sliceRange,show ((1:Int) > 0)=True from by simp,if_true]
 by_cases hlt:(p:Int)<q
 ·have e3:(((q:Int)-p+1-1) / 1).toNat=q-p:=by first | omega | (simp;done) | (simp;omega)
  simp only[hlt,if_true,e3]
  refine eX fun k _=>?_
  omega
 ·have:q-p=0:=by omega
  simp[hlt,this]
def V2 (z:Str) (lo hi:Option Int):Str:=
 ⟨((z.cps.toList.drop (HT.oG z.length 0 lo)).take (HT.oG z.length z.length hi-HT.oG z.length 0 lo)).toArray⟩
theorem zp (z:Str) (lo hi:Option Int):fR z lo hi=V2 z lo hi:=by
 have h1:HT.oG z.length 0 lo<=z.length:=HT.UN _ _ (cu _) _
 have h2:HT.oG z.length z.length hi<=z.length:=HT.UN _ _ (aC _) _
 have hp:HT.oG z.length 0 lo<=max (HT.oG z.length 0 lo) (HT.oG z.length z.length hi):=Nat.le_max_left _ _
 have hq:max (HT.oG z.length 0 lo) (HT.oG z.length z.length hi)<=z.length:=Nat.max_le.mpr ⟨h1,h2⟩
 have hd:max (HT.oG z.length 0 lo) (HT.oG z.length z.length hi)-HT.oG z.length 0 lo=HT.oG z.length z.length hi-HT.oG z.length 0 lo:=by omega
 have e:da lo hi 1 z.length =
   da (some ((HT.oG z.length 0 lo:Nat):Int)) (some ((max (HT.oG z.length 0 lo) (HT.oG z.length z.length hi):Nat):Int)) 1 z.length:=by
  rw[abH hp hq,hd,acQ]
 have e2:fR z lo hi =
   fR z (some ((HT.oG z.length 0 lo:Nat):Int)) (some ((max (HT.oG z.length 0 lo) (HT.oG z.length z.length hi):Nat):Int)):=by
  unfold fR
  rw[e]
 rw[e2,abI z hp hq,hd]
 rfl
theorem Oc (z:Str) (lo hi:Option Int):(V2 z lo hi).length<=z.length:=by
 show (((z.cps.toList.drop (HT.oG z.length 0 lo)).take (HT.oG z.length z.length hi-HT.oG z.length 0 lo)).toArray).size<=z.cps.size
 rw[bZ,cx,oq,iG]
 omega
def Zm:V->Option Int->Option Int->Hp->VK->Prop:=fun x lo hi H Q=>∃z,x=.str z/\z.length<=ao/\Q (.str (V2 z lo hi)) H
theorem Zf {X:Cx}:SlR X Zm:=by
 intro pins s σ H x v vl vu lo hi sl Q I rx hs pl pu h
 obtain⟨z,rfl,hz,q⟩:=h
 obtain⟨t,rfl⟩:=rx
 obtain⟨os,hos,hcs,hds⟩:=hs
 obtain⟨l,rfl,rfl⟩:=IsPart.raw pl
 obtain⟨u,rfl,rfl⟩:=IsPart.raw pu
 refine⟨"str",_,F.slot_str_getitem.lookup,qC _ _ _,?_⟩
 refine wpAny_getItem_str_slice (l:=l) (u:=u) (st:=none) ⟨os,hos,hcs,hds⟩ rfl ?_
 have hl:(fR z (l.map (·.1)) (u.map (·.1))).length<=ao:=by
  rw[zp]
  exact dA (Oc z _ _) hz
 rw[<- zp] at q
 unfold fR at q hl
 show Made.post (if ((1:Int)==1&&(da (l.map (·.1)) (u.map (·.1)) 1 z.length).length==z.length)=true then Made.val (.str z t)
  else Made.str ⟨((da (l.map (·.1)) (u.map (·.1)) 1 z.length).filterMap (z.cps[·]?)).toArray⟩) (EP X pins σ Q) s
 by_cases c:((1:Int)==1&&(da (l.map (·.1)) (u.map (·.1)) 1 z.length).length==z.length)=true
 ·rw[if_pos c] at q ⊢
  exact⟨.str z,H,I,⟨t,rfl⟩,q⟩
 ·rw[if_neg c] at q hl ⊢
  exact⟨hl,.str _,H,I.tok _,⟨_,rfl⟩,q⟩
end L2
namespace Att
open PySem PySem.W PySem.Calls PyProof.Rows
section
variable {prog:bj} {w:bV} {A:cQ} {E:ai->ay->Prop} {s:ay} {K:Frag}
end
end Att
namespace L2
open PySem PySem.Spec PyProof.Rows
end L2
namespace L2
open PySem PySem.Spec PyProof.Rows
end L2
namespace L2
open PySem PySem.Spec PyProof.Rows
def inClass (s:c_) (j:Nat):c_:=match s with
 | .ClassDef _ _ _ body _ _ _ _ _ _ _=>body.getD j (.Pass ⟨0,0,0,0⟩)
 | _=>.Pass ⟨0,0,0,0⟩
def lh (s:c_):Arguments:=match s with
 | .FunctionDef _ a _ _ _ _ _ _ _ _=>a
 | _=>{ posonlyargs:=[],args:=[],vararg:=none,kwonlyargs:=[],kw_defaults:=[],kwarg:=none,defaults:=[] }
def j1 (s:c_):List c_:=match s with
 | .FunctionDef _ _ b _ _ _ _ _ _ _=>b
 | _=>[]
def aP (s:c_):kG:=match s with
 | .FunctionDef _ _ _ _ _ _ sc _ _ _=>sc
 | _=>{ kind:=.function,names:=[],isGenerator:=false,isCoroutine:=false }
abbrev hX:R4:=fun _ _ _ _ _ _=>False
abbrev E0:XK:=fun _ _ _=>False
theorem bR {X:Cx}:yr hX X E0:=fun _ _ _ _ _ _ _ h=>h.elim
structure gL (K:ae) (x qual:Str) (st:c_) (f:af) (fd:aZ):Prop where
 ex:∃(oc:ai) (od:Option af) (kV doc pm:ai) (an:Option af) (cdv ct:ai) (osl:Array (Option ai)),
  fd=fe x qual (lh st) (j1 st) (aP st) .none kV doc pm an cdv ct/\K.lookup f=some ⟨oc,od,.func fd,osl⟩/\mJ K cdv qual=true
 kp:fH K (.ref f)=true
section
variable {P:bj} {w:bV} {K:ae} {mg:Str->Option ai} {base:cX}
theorem gL.ok {x qual:Str} {st:c_} {f:af} {fd:aZ} {N ps:List Str} {k:Nat} {sp:Sp} (F:gL K x qual st f fd) (S:bH N ps (aP st)) (len:∀vs H Q E,sp vs H Q E->vs.length=ps.length)
  (hbody:∀(cdv:ai) (A:cQ) (outer:List Env) (s:ay) (H:Hp) (vs:List V) (Q:VK) (E:XK),lX k (A.deeper (HS qual (aP st) s.heap.objs.size f cdv))->sp vs H Q E ->
   ∃t,Tr (N' hX P w K mg base N qual (aP st) f cdv A outer s H E).nox (j1 st) t/\t { nx:=fun _ H'=>Q .iE H',rt:=Q } (start N vs) H):dy P w K mg base hX (k+1) f fd ps sp:=by
 obtain⟨oc,od,kV,doc,pm,an,cdv,ct,osl,rfl,lk,hcd⟩:=F.ex
 refine abg lk hcd S len fun A outer s H vs Q E hr hsp=>?_
 obtain⟨t,h,q⟩:=hbody cdv A outer s H vs Q E hr hsp
 exact⟨t,h.nox,q⟩
theorem gL.binds {x qual:Str} {st:c_} {f:af} {fd:aZ} {ps:List Str} (F:gL K x qual st f fd)
  (h:∀(kV doc pm:ai) (an:Option af) (cdv ct:ai) (us:List ai),us.length=ps.length->DI (fe x qual (lh st) (j1 st) (aP st) .none kV doc pm an cdv ct) ⟨us,[]⟩=pure (ps.zip us)):Binds K fd ps []:=by
 obtain⟨oc,od,kV,doc,pm,an,cdv,ct,osl,rfl,lk,hcd⟩:=F.ex
 exact .all (h kV doc pm an cdv ct)
theorem Qg {x qual:Str} {st:c_} {f:af} {oc:ai} {od an:Option af} {osl:Array (Option ai)} {kV doc pm cdv ct:ai} (l:K.lookup f=some ⟨oc,od,.func (fe x qual (lh st) (j1 st) (aP st) .none kV doc pm an cdv ct),osl⟩)
  (c:mJ K cdv qual=true) (k:fH K (.ref f)=true):gL K x qual st f (fe x qual (lh st) (j1 st) (aP st) .none kV doc pm an cdv ct):=⟨⟨oc,od,kV,doc,pm,an,cdv,ct,osl,rfl,l,c⟩,k⟩
end
theorem qi {A:cQ} {k:Nat} (hr:lX k A):A.units+1<pE:=Nat.lt_of_le_of_lt (Nat.add_le_add_left (by decide:1<=64) _) hr.units
section
variable {X:Cx}
theorem pv (i:Nat) {x:Str} {pos:Pos} (hN:X.N[i]?=some x:=by rfl) (hv:Vis X.env.scope x:=by first | exact bC rfl | exact mN (bC rfl) | exact mN (mN rfl)) (hd:(x==("__debug__":Str))=false:=by decide)
  (hcd:(x==("__classdict__":Str))=false:=by decide):PE X (.Name x pos) (pN i):=U0 hN hv hd hcd
end
theorem bY {A B:Prop} (h:B):if false=true then A else B:=by
 rw[if_neg bu]
 exact h
theorem b9 {A B:Prop} (h:A):if true=true then A else B:=by
 rw[if_pos rfl]
 exact h
def bX (H H':Hp):Prop:=∀b o,H b=some o->H' b=some o
theorem bX.refl (H:Hp):bX H H:=fun _ _ h=>h
theorem bX.trans {H H1 H2:Hp} (a:bX H H1) (b:bX H1 H2):bX H H2:=fun c o h=>b c o (a c o h)
theorem bX.free {H H':Hp} (e:bX H H') {l:af} (h:H' l=Ff):H l=Ff:=by
 cases q:H l with
 | none=>rfl
 | some o=>
  rw[e l o q] at h
  cases h
theorem bX.seq {K:ae} {H H':Hp} {a:af} {xs:List V} (e:bX H H') (h:cP K H a xs):cP K H' a xs:=by
 rcases h with (h | ⟨o,h⟩) | h
 ·exact .inl (.inl (e _ _ h))
 ·exact .inl (.inr ⟨o,e _ _ h⟩)
 ·exact .inr h
section
variable {κ:Type} [DecidableEq κ]
theorem Ui {kvs:List (κ×V)} {k:κ} (h:dW kvs k=none):¬ k∈kvs.map (·.1):=by
 intro m
 obtain⟨p,hp,e⟩:=a9.mp m
 have q:(kvs.any fun kv=>decide (kv.1=k))=true:=vC.mpr ⟨p,hp,decide_eq_true e⟩
 rw[pK,h] at q
 exact absurd q (by simp)
theorem QW {kvs:List (κ×V)} {k:κ} {v:V} (h:dW kvs k=some v):k∈kvs.map (·.1):=by
 have q:(kvs.any fun kv=>decide (kv.1=k))=true:=by
  rw[pK,h]
  all_goals rfl
 obtain⟨p,hp,e⟩:=vC.mp q
 exact a9.mpr ⟨p,hp,of_decide_eq_true e⟩
theorem yJ:∀{l:List κ} {k:κ},l.Nodup->¬ k∈l->(l++[k]).Nodup
 | [],k,_,_=>by simp
 | a::r,k,h,hk=>by
  obtain⟨h1,h2⟩:=c7.mp h
  show (a::(r++[k])).Nodup
  refine c7.mpr ⟨fun m=>?_,yJ h2 fun m=>hk (aF.mpr (mN m))⟩
  rcases bx.mp m with q | q
  ·exact h1 q
  ·exact hk (aF.mpr (bC (aY.mp q).symm))
theorem Ft {kvs:List (κ×V)} {k:κ} (v:V) (hn:(kvs.map (·.1)).Nodup) (h:dW kvs k=none):((putK kvs k v).map (·.1)).Nodup:=by
 rw[kL v h,bh]
 exact yJ hn (Ui h)
theorem JP {p:κ×V} {r:List (κ×V)} {k:κ} (e:p.1=k):fQ (p::r) k=fQ r k:=by
 unfold fQ
 rw[vA,if_neg (by simp[e])]
theorem Dl {p:κ×V} {r:List (κ×V)} {k:κ} (e:¬ p.1=k):fQ (p::r) k=p::fQ r k:=by
 unfold fQ
 rw[vA,if_pos (by simp[e])]
theorem N8:∀{kvs:List (κ×V)} {k:κ},¬ k∈kvs.map (·.1)->fQ kvs k=kvs
 | [],_,_=>rfl
 | p::r,k,h=>by
  have h':¬ k∈r.map (·.1):=fun m=>by
   obtain⟨q,hq,e⟩:=a9.mp m
   exact h (a9.mpr ⟨q,aF.mpr (mN hq),e⟩)
  rw[Dl fun e=>h (a9.mpr ⟨p,aF.mpr (bC rfl),e⟩),N8 h']
theorem Dm:∀{kvs:List (κ×V)} {k:κ},(kvs.map (·.1)).Nodup->k∈kvs.map (·.1)->(fQ kvs k).length+1=kvs.length
 | [],_,_,m=>by simp at m
 | p::r,k,h,m=>by
  have h:(p.1::r.map (·.1)).Nodup:=h
  have m:k=p.1\/k∈r.map (·.1):=aF.mp m
  obtain⟨h1,h2⟩:=c7.mp h
  by_cases e:p.1=k
  ·subst e
   rw[JP rfl,N8 h1]
   all_goals rfl
  ·have m':k∈r.map (·.1):=m.resolve_left fun z=>e z.symm
   have q:=Dm h2 m'
   rw[Dl e,aG,aG]
   omega
end
theorem Vb {α:Type} {l:List α} (hN:l.Nodup) {i j:Nat} {x:α} (a:l[i]?=some x) (b:l[j]?=some x):i=j:=by
 obtain⟨h1,e1⟩:=ax.mp a
 obtain⟨h2,e2⟩:=ax.mp b
 exact (WL hN).mp (e1.trans e2.symm)
theorem bX.made {H H1:Hp} {x dx C:af} (nx:H x=Ff) (nd:H dx=Ff) (k:∀b o,(upd (upd H dx (.own x)) x (.ins C dx [])) b=some o->b≠x->H1 b=some o):bX H H1:=fun b o e=>
 k b o (by rw[aQ (aT e nx),aQ (aT e nd)];exact e) (aT e nx)
end L2
section
namespace L2
open PySem PySem.Spec PyProof.Rows
open PySem.W (WData Codec OpenSpec Well WellAll ReadsW ReadsAllW)
mutual
inductive Dw (K:ae) (H:Hp):V->lR->Prop
 | iE:Dw K H .iE .none
 | bl (b:Bool):Dw K H (.bl b) (.bool b)
 | int (i:Int):Dw K H (.int i) (.int i)
 | str (x:Str):Dw K H (.str x) (.str x)
 | Oi (b:Array UInt8):Dw K H (.Oi b) (.bytes b.toList)
 | lst {a:af} {xs:List V} {ds:List lR}:cP K H a xs->vm K H xs ds->Dw K H (.ref a) (.list ds)
 | tup {a:af} {xs:List V} {ds:List lR}:iC K H a xs->vm K H xs ds->Dw K H (.ref a) (.tuple ds)
inductive vm (K:ae) (H:Hp):List V->List lR->Prop
 | nil:vm K H [] []
 | cons {v:V} {vs:List V} {d:lR} {ds:List lR}:Dw K H v d->vm K H vs ds->vm K H (v::vs) (d::ds)
end
theorem RT {K:ae} {H:Hp}:∀ns:List Int,vm K H (ns.map V.int) (ns.map ab6)
 | []=>.nil
 | n::r=>.cons (.int n) (RT r)
theorem RD {K:ae} {H:Hp}:∀(ns:List Int) (xs:List V),vm K H xs (ns.map ab6)->xs=ns.map V.int
 | [],xs,h=>by
  cases h
  rfl
 | n::r,xs,h=>by
  cases h with
  | cons h1 h2=>
   cases h1
   rw[RD r _ h2] <;> rfl
section
variable {P:bj} {w:bV} {K:ae} {H:Hp} {h:cX} {R:TH} {cl:Str->Option af}
theorem Y9 {a:af} {xs:List V} (fw:yw P w H h) (KX:K.In h) (q:cP K H a xs):∃(its:List ai) (o:Obj) (n:Nat),dF xs its/\h.get? a=some o/\o.cls=.type "list"/\o.data=.seq its.toArray n:=by
 rcases q with q | ⟨o,its,n,e,hc,_,hd,_,hv⟩
 ·obtain⟨_,its,n,hv,e⟩:=(show gG P w H h a (.lst xs) from q.ok fw)
  exact⟨its,_,n,hv,e,rfl,rfl⟩
 ·exact⟨its.toList,o,n,hv,KX _ _ e,hc,by simp[hd]⟩
theorem Y8 {a:af} {xs:List V} (fw:yw P w H h) (KX:K.In h) (q:iC K H a xs):∃(its:List ai) (o:Obj) (n:Nat),dF xs its/\h.get? a=some o/\o.cls=.type "tuple"/\o.data=.seq its.toArray n:=by
 rcases q with q | ⟨o,its,n,e,hc,hd,_,hv⟩
 ·obtain⟨_,its,hv,o,e,hc,n,hd⟩:=(show gG P w H h a (.tup xs) from q.ok fw)
  exact⟨its,o,n,hv,e,hc,hd⟩
 ·exact⟨its.toList,o,n,hv,KX _ _ e,hc,by simp[hd]⟩
mutual
theorem Dw.reads (fw:yw P w H h) (KX:K.In h):∀(d:lR) (v:V) (u:ai),Dw K H v d->RelV v u->∃as,ReadsW R cl h u d as
 | .none,_,_,x,r=>by
  cases x
  cases r
  exact⟨_,ReadsW.none⟩
 | .bool b,_,_,x,r=>by
  cases x
  cases r
  exact⟨_,ReadsW.bool b⟩
 | .int i,_,_,x,r=>by
  cases x
  obtain⟨t,rfl⟩:=r
  exact⟨_,ReadsW.int i t⟩
 | .str s,_,_,x,r=>by
  cases x
  obtain⟨t,rfl⟩:=r
  exact⟨_,ReadsW.str s t⟩
 | .bytes b,_,_,x,r=>by
  cases x
  obtain⟨t,rfl⟩:=r
  exact⟨_,ReadsW.bytes _ t⟩
 | .list ds,_,_,x,r=>by
  cases x with
  | lst hs ha=>
   cases r
   obtain⟨its,o,n,rv,ho,hc,hd⟩:=Y9 fw KX hs
   obtain⟨as,hr⟩:=Dw.readsAll fw KX ds _ its ha rv
   exact⟨_,ReadsW.list ho hc hd hr⟩
 | .tuple ds,_,_,x,r=>by
  cases x with
  | tup hs ha=>
   cases r
   obtain⟨its,o,n,rv,ho,hc,hd⟩:=Y8 fw KX hs
   obtain⟨as,hr⟩:=Dw.readsAll fw KX ds _ its ha rv
   exact⟨_,ReadsW.tuple ho hc hd hr⟩
 | .float _,_,_,x,_=>by cases x
 | .dict _,_,_,x,_=>by cases x
 | .bytearray _,_,_,x,_=>by cases x
 | .set _,_,_,x,_=>by cases x
 | .frozenset _,_,_,x,_=>by cases x
 | .obj _ _,_,_,x,_=>by cases x
theorem Dw.readsAll (fw:yw P w H h) (KX:K.In h):∀(ds:List lR) (vs:List V) (us:List ai),vm K H vs ds->dF vs us->∃as,ReadsAllW R cl h us ds as
 | [],_,_,x,r=>by
  cases x
  cases r
  exact⟨_,ReadsAllW.nil⟩
 | d::ds,_,_,x,r=>by
  cases x with
  | cons h1 h2=>
   cases r with
   | cons r1 r2=>
    obtain⟨as,q1⟩:=Dw.reads fw KX d _ _ h1 r1
    obtain⟨bs,q2⟩:=Dw.readsAll fw KX ds _ _ h2 r2
    exact⟨_,ReadsAllW.cons q1 q2⟩
end
end
mutual
def Rg:lR->Bool
 | .none=>true
 | .bool _=>true
 | .int _=>true
 | .str _=>true
 | .bytes _=>true
 | .list xs=>ED xs
 | .tuple xs=>ED xs
 | _=>false
def ED:List lR->Bool
 | []=>true
 | x::r=>Rg x&&ED r
end
theorem MU {α:Type} {f:α->lR} (h:∀a,Rg (f a)=true):∀l:List α,ED (l.map f)=true
 | []=>rfl
 | x::r=>by
  show (Rg (f x)&&ED (r.map f))=true
  rw[h x,MU h r] <;> rfl
theorem xj:∀(c:Codec) (a:c.denote),Rg (c.enc a)=true
 | .unit,_=>rfl
 | .bool,_=>rfl
 | .int _ _,_=>rfl
 | .nat _ _,_=>rfl
 | .u8,_=>rfl
 | .bytes _ _,_=>rfl
 | .text _ _ _ _,_=>rfl
 | .list _ _ c,a=>MU (fun x=>xj c x) a
 | .pair c d,a=>by
  show (Rg (c.enc a.1)&&(Rg (d.enc a.2)&&true))=true
  rw[xj c a.1,xj d a.2] <;> rfl
 | .triple c d e,a=>by
  show (Rg (c.enc a.1)&&(Rg (d.enc a.2.1)&&(Rg (e.enc a.2.2)&&true)))=true
  rw[xj c a.1,xj d a.2.1,xj e a.2.2] <;> rfl
 | .option c,none=>rfl
 | .option c,some x=>xj c x
theorem Jz:∀(cs:List Codec) (a:vX cs),ED (qE cs a)=true
 | [],_=>rfl
 | c::cs,a=>by
  show (Rg (c.enc a.1)&&ED (qE cs a.2))=true
  rw[xj c a.1,Jz cs a.2] <;> rfl
theorem zQ:∀{xs:List lR} {d:lR},d∈xs->d.weight<=vS xs
 | [],d,h=>absurd h (by simp)
 | x::r,d,h=>by
  show d.weight<=x.weight+1+vS r
  rcases aF.mp h with e | m
  ·rw[e]
   omega
  ·have z:=zQ m
   omega
def toV:ai->V
 | .none=>.iE
 | .bool b=>.bl b
 | .int i _=>.int i
 | .str x _=>.str x
 | .bytes b _=>.Oi b
 | .ref a=>.ref a
 | _=>.iE
def Ts (A:List af):ai->Prop
 | .none=>True
 | .bool _=>True
 | .int _ _=>True
 | .str _ _=>True
 | .bytes _ _=>True
 | .ref a=>a∈A
 | _=>False
theorem Ts.mono {A B:List af} (h:∀a∈A,a∈B):∀{u:ai},Ts A u->Ts B u:=fun {u} x=>by
 cases u with
 | ref a=>exact h a x
 | none=>trivial
 | bool b=>trivial
 | int i t=>trivial
 | str s t=>trivial
 | bytes b t=>trivial
 | _=>exact fo x
theorem UR {A:List af} {u:ai} (x:Ts A u):RelV (toV u) u:=by
 cases u with
 | ref a=>rfl
 | none=>rfl
 | bool b=>rfl
 | int i t=>exact⟨t,rfl⟩
 | str s t=>exact⟨t,rfl⟩
 | bytes b t=>exact⟨t,rfl⟩
 | _=>exact fo x
theorem sE {A:List af}:∀{vs:List ai},(∀u∈vs,Ts A u)->dF (vs.map toV) vs
 | [],_=>.nil
 | u::r,h=>.cons (UR (h u (bz ..))) (sE fun x hx=>h x (aE _ hx))
def vp (h:cX) (A:List af) (a:af):Prop:=∃vs:List ai,vs.length<=ao/\(∀u∈vs,Ts A u) /\
 (h.get? a=some { cls:=.type "list",data:=.seq vs.toArray }\/h.get? a=some { cls:=.type "tuple",data:=.seq vs.toArray })
theorem vp.mono {h:cX} {A B:List af} {a:af} (k:∀a∈A,a∈B) (x:vp h A a):vp h B a:=by
 obtain⟨vs,h1,h2,h3⟩:=x
 exact⟨vs,h1,fun u hu=>(h2 u hu).mono k,h3⟩
theorem qM {P:HV} {h:cX}:∀{vs:List ai} {ds:List lR},Ep P h vs ds->vs.length=ds.length
 | _,_,.nil=>rfl
 | _,_,.cons _ b=>by
  show _+1=_+1
  rw[qM b]
theorem Jc {P:HV} {h:cX} {v:ai} {ds:List lR} (x:Well P h v (.list ds)):∃(a:af) (vs:List ai),v=.ref a/\h.get? a=some { cls:=.type "list",data:=.seq vs.toArray }/\Ep P h vs ds:=by
 cases x with
 | list ho hall=>exact⟨_,_,rfl,ho,hall⟩
theorem FT {P:HV} {h:cX} {v:ai} {ds:List lR} (x:Well P h v (.tuple ds)):∃(a:af) (vs:List ai),v=.ref a/\h.get? a=some { cls:=.type "tuple",data:=.seq vs.toArray }/\Ep P h vs ds:=by
 cases x with
 | tuple ho hall=>exact⟨_,_,rfl,ho,hall⟩
theorem Jd {P:HV} {h:cX} {us:List ai} {d:lR} {ds:List lR} (x:Ep P h us (d::ds)):∃(v:ai) (vs:List ai),us=v::vs/\Well P h v d/\Ep P h vs ds:=by
 cases x with
 | cons a b=>exact⟨_,_,rfl,a,b⟩
theorem Rx {n:Nat} (h:n<=1048576):n<=ao:=dA h (by decide)
section
variable {P:HV} {h:cX}
mutual
theorem Wb:∀(d:lR) (v:ai),Well P h v d->Rg d=true->d.weight<=1048576->∃A:List af,Ts A v/\∀a∈A,vp h A a
 | .none,_,x,_,_=>by
  cases x
  exact⟨[],trivial,fun a m=>absurd m (by simp)⟩
 | .bool b,_,x,_,_=>by
  cases x
  exact⟨[],trivial,fun a m=>absurd m (by simp)⟩
 | .int i,_,x,_,_=>by
  cases x
  exact⟨[],trivial,fun a m=>absurd m (by simp)⟩
 | .str s,_,x,_,_=>by
  cases x
  exact⟨[],trivial,fun a m=>absurd m (by simp)⟩
 | .bytes b,_,x,_,_=>by
  cases x
  exact⟨[],trivial,fun a m=>absurd m (by simp)⟩
 | .list ds,_,x,p,z=>by
  obtain⟨a,vs,rfl,ho,hall⟩:=Jc x
  have z2:vS ds<=1048576:=z
  obtain⟨A,h1,h2⟩:=Cf ds _ hall p fun d hd=>dA (zQ hd) z2
  have k:∀b∈A,b∈a::A:=fun b hb=>aE _ hb
  refine⟨a::A,bz ..,fun b hb=>?_⟩
  rcases aF.mp hb with e | m
  ·rw[e]
   exact⟨vs,Rx (by rw[qM hall];exact dA (Fd ds) z2),fun u hu=>(h1 u hu).mono k,.inl ho⟩
  ·exact (h2 b m).mono k
 | .tuple ds,_,x,p,z=>by
  obtain⟨a,vs,rfl,ho,hall⟩:=FT x
  have z2:vS ds<=1048576:=z
  obtain⟨A,h1,h2⟩:=Cf ds _ hall p fun d hd=>dA (zQ hd) z2
  have k:∀b∈A,b∈a::A:=fun b hb=>aE _ hb
  refine⟨a::A,bz ..,fun b hb=>?_⟩
  rcases aF.mp hb with e | m
  ·rw[e]
   exact⟨vs,Rx (by rw[qM hall];exact dA (Fd ds) z2),fun u hu=>(h1 u hu).mono k,.inr ho⟩
  ·exact (h2 b m).mono k
 | .float _,_,_,p,_=>dR (show false=true from p)
 | .dict _,_,_,p,_=>dR (show false=true from p)
 | .bytearray _,_,_,p,_=>dR (show false=true from p)
 | .set _,_,_,p,_=>dR (show false=true from p)
 | .frozenset _,_,_,p,_=>dR (show false=true from p)
 | .obj _ _,_,_,p,_=>dR (show false=true from p)
theorem Cf:∀(ds:List lR) (vs:List ai),Ep P h vs ds->ED ds=true->(∀d∈ds,d.weight<=1048576)->∃A:List af,(∀u∈vs,Ts A u)/\∀a∈A,vp h A a
 | [],_,x,_,_=>by
  cases x
  exact⟨[],fun u m=>absurd m (by simp),fun a m=>absurd m (by simp)⟩
 | d::ds,_,x,p,z=>by
  obtain⟨v,vs,rfl,x1,x2⟩:=Jd x
  have q:Rg d=true/\ED ds=true:=zP.mp p
  obtain⟨A,a1,a2⟩:=Wb d v x1 q.1 (z d (bz ..))
  obtain⟨B,b1,b2⟩:=Cf ds vs x2 q.2 fun e he=>z e (aE _ he)
  have kA:∀b∈A,b∈A++B:=fun b hb=>bx.mpr (.inl hb)
  have kB:∀b∈B,b∈A++B:=fun b hb=>bx.mpr (.inr hb)
  refine⟨A++B,fun u hu=>?_,fun b hb=>?_⟩
  ·rcases aF.mp hu with e | m
   ·rw[e]
    exact a1.mono kA
   ·exact (b1 u m).mono kB
  ·rcases bx.mp hb with m | m
   ·exact (a2 b m).mono kA
   ·exact (b2 b m).mono kB
end
end
def XT (o:Obj):Option HO:=match o.data with
 | .seq vs _=>if (o.cls==j3 "list")=true then some (.zc o (.lst (vs.toList.map toV))) else some (.zc o (.tup (vs.toList.map toV)))
 | _=>none
def uS (K:ae) (h:cX) (A:List af):Hp:=fun b=>if b∈A then (if (K.lookup b).isNone=true then (h.get? b).bind XT else none) else none
def Oz (H:Hp):Prop:=∀b,H b=none\/∃o u,H b=some (.zc o u)
theorem NS (vs:List ai):XT { cls:=.type "list",data:=.seq vs.toArray }=some (.zc { cls:=.type "list",data:=.seq vs.toArray } (.lst (vs.map toV))):=by
 show (if (j3 "list"==j3 "list")=true then some (HO.zc { cls:=.type "list",data:=.seq vs.toArray } (.lst (vs.toArray.toList.map toV))) else some (HO.zc { cls:=.type "list",data:=.seq vs.toArray } (.tup (vs.toArray.toList.map toV))))=_
 rw[if_pos (beq_self_eq_true _)]
theorem NR (vs:List ai):XT { cls:=.type "tuple",data:=.seq vs.toArray }=some (.zc { cls:=.type "tuple",data:=.seq vs.toArray } (.tup (vs.map toV))):=by
 show (if (j3 "tuple"==j3 "list")=true then some (HO.zc { cls:=.type "tuple",data:=.seq vs.toArray } (.lst (vs.toArray.toList.map toV))) else some (HO.zc { cls:=.type "tuple",data:=.seq vs.toArray } (.tup (vs.toArray.toList.map toV))))=_
 rw[if_neg (by decide)]
section
variable {P:bj} {w:bV} {K:ae} {h:cX} {A:List af}
theorem FD {b:af} {o:Obj} (hb:b∈A) (hk:K.lookup b=none) (e:h.get? b=some o):uS K h A b=XT o:=by
 unfold uS
 rw[if_pos hb,hk,if_pos (show (none:Option Obj).isNone=true from rfl),e] <;> rfl
theorem XC {b:af} {u:HO} (q:uS K h A b=some u):b∈A/\K.lookup b=none:=by
 unfold uS at q
 by_cases hb:b∈A
 ·rw[if_pos hb] at q
  cases hk:K.lookup b with
  | none=>exact⟨hb,rfl⟩
  | some o=>
   rw[hk,if_neg (by simp)] at q
   cases q
 ·rw[if_neg hb] at q
  cases q
theorem FC (ar:∀a∈A,vp h A a) {b:af} {u:HO} (q:uS K h A b=some u):K.lookup b=none/\∃vs:List ai,vs.length<=ao/\(∀u∈vs,Ts A u) /\
  ((h.get? b=some { cls:=.type "list",data:=.seq vs.toArray }/\u=.zc { cls:=.type "list",data:=.seq vs.toArray } (.lst (vs.map toV))) \/
   (h.get? b=some { cls:=.type "tuple",data:=.seq vs.toArray }/\u=.zc { cls:=.type "tuple",data:=.seq vs.toArray } (.tup (vs.map toV)))):=by
 obtain⟨hb,hk⟩:=XC q
 obtain⟨vs,h1,h2,h3⟩:=ar b hb
 refine⟨hk,vs,h1,h2,?_⟩
 rcases h3 with e | e
 ·rw[FD hb hk e,NS] at q
  exact .inl ⟨e,(bQ q).symm⟩
 ·rw[FD hb hk e,NR] at q
  exact .inr ⟨e,(bQ q).symm⟩
theorem Tq (ar:∀a∈A,vp h A a):Oz (uS K h A):=fun b=>by
 cases q:uS K h A b with
 | none=>exact .inl rfl
 | some u=>
  obtain⟨_,vs,_,_,⟨_,e⟩ | ⟨_,e⟩⟩:=FC ar q
  ·exact .inr ⟨_,_,by rw[e]⟩
  ·exact .inr ⟨_,_,by rw[e]⟩
theorem Yf (ar:∀a∈A,vp h A a):yw P w (uS K h A) h:=fun b u q=>by
 obtain⟨_,vs,h1,h2,⟨e,rfl⟩ | ⟨e,rfl⟩⟩:=FC ar q
 ·exact⟨e,by rw[aa];exact h1,vs,_,sE h2,e⟩
 ·exact⟨e,by rw[aa];exact h1,vs,sE h2,_,e,rfl,_,rfl⟩
theorem Fo {c c':ai} {vs us:List ai} (e:(some { cls:=c,data:=.seq vs.toArray }:Option Obj)=some { cls:=c',data:=.seq us.toArray }):c=c'/\vs=us:=by
 have e1:=bQ e
 have e2:c=c':=congrArg Obj.cls e1
 have e3:Sd vs.toArray=Sd us.toArray:=congrArg Obj.data e1
 injection e3 with e4
 refine⟨e2,?_⟩
 have e5:=congrArg OJ e4
 simpa using e5
theorem adk (KX:K.In h) (ar:∀a∈A,vp h A a) {a:af} {vs:List ai} (ha:a∈A) (e:h.get? a=some { cls:=.type "list",data:=.seq vs.toArray }):(∀u∈vs,Ts A u)/\cP K (uS K h A) a (vs.map toV):=by
 obtain⟨us,h1,h2,h3⟩:=ar a ha
 have hu:us=vs:=by
  rcases h3 with q | q
  ·rw[e] at q
   exact (Fo q).2.symm
  ·rw[e] at q
   exact absurd (R6 (Fo q).1) (by decide)
 subst hu
 refine⟨h2,?_⟩
 cases hk:K.lookup a with
 | none=>exact .inl (.inr ⟨_,by rw[FD ha hk e,NS]⟩)
 | some o=>
  have e2:=KX a o hk
  rw[e] at e2
  obtain rfl:=bQ e2
  exact .inr ⟨_,us.toArray,_,hk,rfl,rfl,rfl,by rw[bZ];exact h1,by simpa using sE h2⟩
theorem adj (KX:K.In h) (ar:∀a∈A,vp h A a) {a:af} {vs:List ai} (ha:a∈A) (e:h.get? a=some { cls:=.type "tuple",data:=.seq vs.toArray }):(∀u∈vs,Ts A u)/\iC K (uS K h A) a (vs.map toV):=by
 obtain⟨us,h1,h2,h3⟩:=ar a ha
 have hu:us=vs:=by
  rcases h3 with q | q
  ·rw[e] at q
   exact absurd (R6 (Fo q).1) (by decide)
  ·rw[e] at q
   exact (Fo q).2.symm
 subst hu
 refine⟨h2,?_⟩
 cases hk:K.lookup a with
 | none=>exact .inl (.inr ⟨_,by rw[FD ha hk e,NR]⟩)
 | some o=>
  have e2:=KX a o hk
  rw[e] at e2
  obtain rfl:=bQ e2
  exact .inr ⟨_,us.toArray,_,hk,rfl,rfl,by rw[bZ];exact h1,by simpa using sE h2⟩
mutual
theorem ZZ {Pm:HV} (KX:K.In h) (ar:∀a∈A,vp h A a):∀(d:lR) (v:ai),Well Pm h v d->Rg d=true->Ts A v->Dw K (uS K h A) (toV v) d
 | .none,_,x,_,_=>by
  cases x
  exact .iE
 | .bool b,_,x,_,_=>by
  cases x
  exact .bl b
 | .int i,_,x,_,_=>by
  cases x
  exact .int i
 | .str s,_,x,_,_=>by
  cases x
  exact .str s
 | .bytes b,_,x,_,_=>by
  cases x
  have z:=Dw.Oi (K:=K) (H:=uS K h A) b.toArray
  exact z
 | .list ds,_,x,p,hu=>by
  obtain⟨a,vs,rfl,ho,hall⟩:=Jc x
  obtain⟨h2,hs⟩:=adk KX ar hu ho
  exact .lst hs (Lq KX ar ds _ hall p h2)
 | .tuple ds,_,x,p,hu=>by
  obtain⟨a,vs,rfl,ho,hall⟩:=FT x
  obtain⟨h2,hs⟩:=adj KX ar hu ho
  exact .tup hs (Lq KX ar ds _ hall p h2)
 | .float _,_,_,p,_=>dR (show false=true from p)
 | .dict _,_,_,p,_=>dR (show false=true from p)
 | .bytearray _,_,_,p,_=>dR (show false=true from p)
 | .set _,_,_,p,_=>dR (show false=true from p)
 | .frozenset _,_,_,p,_=>dR (show false=true from p)
 | .obj _ _,_,_,p,_=>dR (show false=true from p)
theorem Lq {Pm:HV} (KX:K.In h) (ar:∀a∈A,vp h A a):∀(ds:List lR) (vs:List ai),Ep Pm h vs ds->ED ds=true->(∀u∈vs,Ts A u)->vm K (uS K h A) (vs.map toV) ds
 | [],_,x,_,_=>by
  cases x
  exact .nil
 | d::ds,_,x,p,hu=>by
  obtain⟨v,vs,rfl,x1,x2⟩:=Jd x
  have q:Rg d=true/\ED ds=true:=zP.mp p
  exact .cons (ZZ KX ar d v x1 q.1 (hu _ (bz ..))) (Lq KX ar ds vs x2 q.2 fun u m=>hu u (aE _ m))
end
end
theorem Sr {P:bj} {w:bV} {K:ae} {mg mb:Str->Option ai} {CX:R4} {k:Nat} {fa:af} {fd:aZ} {ps:List Str} {sp:Sp} {s₁:ay} {vals:List ai} {ds:List lR} {R:TH} {cl:Str->Option af} {d0:lR}
  (KX:K.In s₁.heap) (hns:s₁.heap.Ns aI mg) (hb:s₁.heap.Ns aai mb) (hbb:∀x:Str,x≠"__name__"->mb x=tm x) (hlim:s₁.heap.NoLimit) (hg:s₁.gens=#[])
  (hwl:Ep w.params s₁.heap vals ds) (hpl:ED ds=true) (hwt:∀d∈ds,d.weight<=1048576) (hr:lX k OO)
  (F:∀base:cX,K.In base->base.Ns aI mg->dy P w K mg base CX k fa fd ps sp) (hbind:∀(s:ay) (us:List ai),us.length=ps.length->OV s fd ⟨us,[]⟩ (ps.zip us)) (hlen:ds.length=ps.length)
  (hsp:∀(H:Hp) (xs:List V),Oz H->vm K H xs ds->sp xs H (fun v H'=>Dw K H' v d0) fun _ _ _=>False)
  (hCX:∀H e s',CX [] H s₁ (fun _ _ _=>False) e s'->False) :
  tf (model P w) OO (.call (.ref fa) ⟨vals,[]⟩) (fun r s'=>∃u as,r=.ok (.ret u)/\ReadsW R cl s'.heap u d0 as/\OldK s₁.heap s'.heap/\s'.os=s₁.os/\Ja s'.gens) s₁:=by
 obtain⟨A,ho,ar⟩:=Cf ds vals hwl hpl hwt
 have hO:Oz (uS K s₁.heap A):=Tq ar
 have fw:yw P w (uS K s₁.heap A) s₁.heap:=Yf ar
 have hS:=Lq KX ar ds vals hwl hpl ho
 have hV:=sE ho
 have hK:∀b u,uS K s₁.heap A b=some u->K.lookup b=none:=fun b u q=>(FC ar q).1
 have noA:∀{b:af} {o:Obj} {es:Array fT} {ep:Nat},s₁.heap.get? b=some o->o.data=.dict es ep->uS K s₁.heap A b=none:=fun {b o es ep} e d=>by
  cases q:uS K s₁.heap A b with
  | none=>rfl
  | some u=>
   obtain⟨_,vs,_,_,⟨e2,_⟩ | ⟨e2,_⟩⟩:=FC ar q
   ·rw[e2] at e
    cases e
    have d':Sd vs.toArray _=Data.dict es ep:=d
    cases d'
   ·rw[e2] at e
    cases e
    have d':Sd vs.toArray _=Data.dict es ep:=d
    cases d'
 generalize uS K s₁.heap A=H at hO fw hS hK noA
 have base_of:∀{b:af} {o:Obj},s₁.heap.get? b=some o->H b=none->(K_ s₁.heap H).get? b=some o:=fun e n=>Vx e n
 have nsK:∀{b:af} {m:Str->Option ai},s₁.heap.Ns b m->(K_ s₁.heap H).Ns b m:=fun {b m} ⟨o,es,ep,e,d,r⟩=>⟨o,es,ep,base_of e (noA e d),d,r⟩
 have nK:∀b o,K.lookup b=some o->H b=none:=fun b o e=>by
  cases q:H b with
  | none=>rfl
  | some u=>
   rw[hK b u q] at e
   cases e
 have hKb:K.In (K_ s₁.heap H):=fun b o e=>base_of (KX b o e) (nK b o e)
 have hM:Mod K mg (K_ s₁.heap H):=⟨hKb,nsK hns,⟨mb,nsK hb,hbb⟩,let ⟨mc,h1,h2⟩:=hlim;⟨mc,nsK h1,h2⟩⟩
 have e0:QI P w K mg (K_ s₁.heap H) OO [] s₁ H:=⟨rfl,hM,fun b o e=>XB e,Fg (S1 _ _),trivial,fun b hb=>absurd (show b∈([]:List af) from hb) (by simp),fw,.of_eq hg⟩
 have hl:vals.length=ps.length:=by rw[qM hwl];exact hlen
 refine lY ((F _ hKb (nsK hns)).run OO [] s₁ H ⟨vals,[]⟩ vals (vals.map toV) _ _ hr e0 (hbind s₁ vals hl) hV (hsp H _ hO hS)) fun r s' x=>?_
 cases r with
 | error e=>exact (hCX H e s' x).elim
 | ok fl=>
  cases fl with
  | next=>exact fo x
  | brk=>exact fo x
  | cont=>exact fo x
  | ret u=>
   obtain⟨v,H',os,bare,un,hok',r',q⟩:=x
   have kept:∀b o,s₁.heap.get? b=some o->s'.heap.get? b=some o:=fun b o e=>by
    cases q2:H b with
    | none=>exact un.keep b o e q2 (by intro z;exact absurd (show b∈([]:List af) from z) (by simp)) (by simp)
    | some u2=>
     rcases hO b with z | ⟨ob,u3,z⟩
     ·rw[q2] at z
      cases z
     ·have z2:=un.Ll b ob _ z
      obtain⟨e1,_⟩:=fw b _ z
      obtain⟨e2,_⟩:=hok' b _ z2
      rw[e] at e1
      cases e1
      exact e2
   have KX':K.In s'.heap:=fun b o e=>kept b o (KX b o e)
   obtain⟨as,hrd⟩:=Dw.reads (R:=R) (cl:=cl) hok' KX' d0 v u q r'
   exact⟨u,as,rfl,hrd,OldK.of_keep kept,os,bare⟩
theorem GY {ds:List lR} (h:WData.layableAll ds=true):∀d∈ds,d.weight<=1048576:=fun d hd=>
 (PySem.W.layableW_iff.mp (cI.mp h d hd)).2.2
theorem Hm:∀(cs:List Codec) (a:vX cs),(qE cs a).length=cs.length
 | [],_=>rfl
 | c::cs,a=>by
  show (qE cs a.2).length+1=cs.length+1
  rw[Hm cs a.2]
theorem Sh {r:OpenSpec} {k:Nat} {q:bj} {loose:List Str} {XP:(Str->Option ai)->cX->Prop} {YP:bV->cX->Prop} {d:DefRec} {K:HV->ae} {CX:bV->R4} {ps:List Str} {sp:bV->Sp}
  (hwell:r.wellSaid=true) (hdf:d.params.defaults=[]) (hlen:r.args.length=ps.length) (hr:lX k OO)
  (hY:∀(w:bV) (h:cX),YP w h->(K w.params).In h)
  (F:∀(w:bV) (mg:Str->Option ai) (fa:af) (h:cX),YP w h->(K w.params).In h->h.Ns aI mg->mg d.name=some (.ref fa) ->
   ∃fd:aZ,(∀(s:ay) (us:List ai),us.length=ps.length->OV s fd ⟨us,[]⟩ (ps.zip us)) /\
    ∀base:cX,(K w.params).In base->base.Ns aI mg->dy r.prog w (K w.params) mg base (CX w) k fa fd ps (sp w))
  (hsp:∀(w:bV) (H:Hp) (xs:List V) (a:vX r.args),Oz H->WM r.args a=true->Fi r.args r.asked a=true->vm (K w.params) H xs (qE r.args a) ->
   sp w xs H (fun v H'=>Dw (K w.params) H' v (r.ret.enc (Fi r.args r.f a))) fun _ _ _=>False)
  (hCX:∀(w:bV) (H:Hp) (s:ay) (e:ai) (s':ay),CX w [] H s (fun _ _ _=>False) e s'->False) :
  Wt q loose XP YP r d [] (fun f vs=>abD f vs):=by
 intro w Js s₁ mg mb G Y fa o pm cd doc dV kV ho hd hcd hD hmg hg args vals as hpre hlay hrd hwl hlo
 obtain⟨a,e1,e2⟩:=PySem.W.os_pre_some hpre
 obtain⟨e3,hwi⟩:=Codec.encAll_of_decAll r.args args a e1
 subst e3
 have KX:=hY w _ Y
 obtain⟨fd,hb,hF⟩:=F w mg fa _ Y KX G.T.g hmg
 refine PySem.W.enter_call (lY (Sr (R:=[]) (cl:=classAt Js.heap) (d0:=r.ret.enc (Fi r.args r.f a)) KX G.T.g G.T.b G.T.builtins G.T.nolimit hg hwl (Jz _ _) (GY hlay) hr hF hb (by rw[Hm];exact hlen)
  (fun H xs hO hS=>hsp w H xs a hO hwi e2 hS) fun H e s'=>hCX w H s₁ e s') fun r' s' hq=>?_)
 obtain⟨u,as',rfl,h1,h2,h3,h4⟩:=hq
 exact⟨.inl ⟨u,_,as',rfl,fun _=>rfl,h1,(OpenSpec.post_iff hwell hwi _ _).mpr rfl,fun z=>dR (show false=true from z)⟩,h2,h3,h4⟩
theorem OX {r:OpenSpec} {k:Nat} {q:bj} {loose:List Str} {XP:(Str->Option ai)->cX->Prop} {YP:bV->cX->Prop} {d:DefRec} {K:HV->ae} {CX:R4} {ps:List Str} {sp:ae->Sp}
  (hwell:r.wellSaid=true) (hdf:d.params.defaults=[]) (hlen:r.args.length=ps.length) (hr:lX k OO)
  (hY:∀(w:bV) (h:cX),YP w h->(K w.params).In h)
  (F:∀(w:bV) (mg:Str->Option ai) (fa:af) (h:cX),YP w h->(K w.params).In h->h.Ns aI mg->mg d.name=some (.ref fa) ->
   ∃fd:aZ,(∀(s:ay) (us:List ai),us.length=ps.length->OV s fd ⟨us,[]⟩ (ps.zip us)) /\
    ∀base:cX,(K w.params).In base->base.Ns aI mg->dy r.prog w (K w.params) mg base CX k fa fd ps (sp (K w.params)))
  (hsp:∀(K:ae) (H:Hp) (xs:List V) (a:vX r.args),Oz H->WM r.args a=true->Fi r.args r.asked a=true->vm K H xs (qE r.args a) ->
   sp K xs H (fun v H'=>Dw K H' v (r.ret.enc (Fi r.args r.f a))) fun _ _ _=>False)
  (hCX:∀(H:Hp) (s:ay) (e:ai) (s':ay),CX [] H s (fun _ _ _=>False) e s'->False) :
  Wt q loose XP YP r d [] (fun f vs=>abD f vs):=
 Sh (K:=K) (CX:=fun _=>CX) (sp:=fun w=>sp (K w.params)) hwell hdf hlen hr hY F (fun w H xs a h1 h2 h3 h4=>hsp (K w.params) H xs a h1 h2 h3 h4) fun _ H s e s'=>hCX H s e s'
end L2
end
section
namespace L2
open PySem PySem.Spec PyProof.Rows
section
variable {prog:bj} {w:bV} {κ:Type} [DecidableEq κ]
theorem UM (knd:HeapKind prog w κ) (dd kk:af) (xu:(dd==eB)=false) (x:ai) :
  MeetsIn prog w (Builtin.«dict.setdefault» ⟨[.ref dd,.ref kk,x],[]⟩) (fun Ar R st=>knd.room Ar.in1/\∃ky ents,knd.is st.heap ky kk/\st.heap.DictOfH knd dd ents/\ents.length<=ao /\
   (∀p,FH ents ky=some p->R (.ok (.ret p.2)) { st with toks:=st.toks+knd.draws ky }) /\
   (FH ents ky=none->∀hp2,hp2.DictOfH knd dd (storedH ents ky kk x)->gf dd st.heap hp2->R (.ok (.ret x)) { st with heap:=hp2,toks:=st.toks+knd.draws ky })):=
 .of_wp fun Ar R st ⟨room,ky,ents,isk,dof,hE,there,absent⟩=>by
  have tyd:=dof.typeIs (s:=st)
  unfold Builtin.«dict.setdefault»
  refine ah ?_
  unfold acJ
  refine ah (WG tyd ?_)
  show bD _ _ (pure (dd,bE kk,some x)) _ _ st
  refine aH ?_
  show bD _ _ (if (dd==eB)=true then _ else (dictSetDefault dd (.ref kk) x >>= _)) _ _ st
  rw[if_neg (by rw[xu];exact bu)]
  refine ah ?_
  obtain⟨ob,es,ep,g1,g2,g3,g4,g5,g6⟩:=dof
  unfold dictSetDefault
  refine iT ?_
  refine ah (knd.pyHash room isk ?_)
  refine ah (wpAny_dictFind_heap (s:={ st with toks:=st.toks+knd.draws ky }) room isk g1 g3 g4 g5 g6 ?_ ?_)
  ·intro nowhere
   have fresh:ky∉ents.map (·.1):=not_mem_keys_of_get nowhere
   have nk:FH ents ky=none:=atKey_none_of_get nowhere
   refine ah (aad (ah (wpAny_updateDictKeys (hz:=by have q:=OG g4;omega) (s:={ st with toks:=st.toks+knd.draws ky }) g1 g3 (aH (aH ⟨x,rfl,absent nk _ ?_ (jw ..)⟩)))))
   refine⟨_,_,ep+1,oo _ g1 (Obj.isFreed_of_dict (TJ g3 _)),g2.mapDictKeys _,TJ g3 _,?_,fun y hy=>?_,?_⟩
   ·rw[Ym nk]
    simp[g4,entryOfKey]
   ·rw[Ym nk] at hy
    rcases bx.mp hy with hy | hy
    ·exact knd.keeps (g5 y hy) g1 g3 (jw ..)
    ·rw[aY.mp hy]
     exact knd.keeps isk g1 g3 (jw ..)
   ·rw[Ym nk,bh,Et]
    refine⟨g6,by simp,fun y hy z hz=>?_⟩
    rw[show z=ky from by simpa using hz]
    exact fun q=>fresh (q▸hy)
  ·intro j p at_j
   refine ah (vQ (s:={ st with toks:=st.toks+knd.draws ky }) g1 g3 ?_)
   rw[entry_at g4 j,at_j]
   exact ah (aad (aH (aH ⟨_,rfl,there p (atKey_of_get g6 at_j)⟩)))
end
section
variable {X:Cx} {o e f:Expr} {apos cpos:Pos} {td ty tx:TE}
def aaO (td ty tx:TE):TE:=fun σ H Q=>td σ H fun v H1=>∃a,v=.ref a/\IsD H1 a/\ty σ H1 fun y H2=>tx σ H2 fun z H3=>∃kvs k b,H3 a=some (.dT kvs)/\y=.ref b/\H3 b=some (.tup (k.map kV))/\kvs.length<ao /\
 (∀v,dW kvs k=some v->Q v H3)/\(dW kvs k=none->Q z (upd H3 a (.dT (putK kvs k z))))
theorem Xx (hu:X.A.units+1<pE) (ho:PE X o td) (he:PE X e ty) (hf:PE X f tx) (m:M2 X o "setdefault" apos e f cpos):PE X (.Call (.Attribute o "setdefault" apos) [e,f] [] cpos) (aaO td ty tx):=by
 intro pins s σ H Q I h
 refine vR m.base m.hE m.line lW Fe PySem.F.type_dict_setdefault (fU (ho pins s σ H _ I h) fun u s1 ⟨x,H1,I1,rx,a,ex,d,q1⟩=>?_)
 subst ex
 obtain rfl:u=bE a:=rx
 obtain⟨t1,t2,_⟩:=P1 I1 d
 refine⟨t1,t2,?_⟩
 rw[m.trees]
 refine gE rfl (g_ (fu (fU (he pins s1 σ H1 _ I1 q1) fun iv s2 ⟨y,H2,I2,ry,q2⟩=>
  fu (fU (hf pins s2 σ H2 _ I2 q2) fun fv s3 ⟨z,H3,I3,rz,kvs,k,b,ea,ey,eb,hE,q3,q4⟩=>jx ?_))))
 subst ey
 cases (show iv=bE b from ry)
 obtain⟨zl,hd,xs,rel,dd⟩:=VU I3.fw ea
 have lx:xs.length<=ao:=by rw[<- eK rel];exact zl
 refine tj Fe dd.typeIs PySem.F.entry_dict_setdefault (PySem.F.args_dict_setdefault_3 _ _ _) (UM (zf (gz X.prog X.w)) a b hd fv)
  ⟨jN hu,k,xs,xJ I3.fw eb,dd,lx,fun p hp=>?_,fun hn h' dd' hs=>?_⟩
 ·have rv:=rel.val k
  rw[hp] at rv
  cases l:dW kvs k with
  | none=>rw[l] at rv;exact (show False from rv).elim
  | some v=>rw[l] at rv;exact⟨v,H3,I3.tok _,rv,q3 v l⟩
 ·have rv:=rel.val k
  rw[hn] at rv
  have l:dW kvs k=none:=by
   cases l:dW kvs k with
   | none=>rfl
   | some v=>rw[l] at rv;exact (show False from rv).elim
  have hl:(putK kvs k z).length<=ao:=by have:=qX kvs k z;omega
  obtain⟨q,es,ep,hq,h2,h3,h4,_,h5⟩:=dd'
  refine⟨z,_,yS (ob:=.dT (putK kvs k z)) I3 (by rw[ea];exact ij) hs ⟨q,hq⟩ ⟨hl,hd,_,(rel.put k eb rz).keeps fun c ys ec=>?_,q,es,ep,hq,h2,h3,h4,h5⟩,rz,q4 l⟩
  rw[aQ (eD ec ea (fun z=>nomatch z))]
  exact ec
def Y6 (X:Cx) (i:Nat) (t:TA):TE:=fun σ H Q=>∃(fa:af) (fd:aZ) (k:Nat) (ps:List Str) (sp:Sp),σ[i]?=some (some (.ref fa))/\dy X.prog X.w X.K X.mg X.base hX k fa fd ps sp/\lX k X.A/\fH X.K (.ref fa)=true/\Binds X.K fd ps [] /\
 t σ H fun vs H1=>sp vs H1 Q E0
theorem U2 (i:Nat) {x:Str} {p pos:Pos} {es:List Expr} {t:TA} (ha:PA X (e::es) t) (hN:X.N[i]?=some x:=by rfl) (hv:Vis X.env.scope x:=by first | exact bC rfl | exact mN (bC rfl) | exact mN (mN rfl)) (hdb:(x==("__debug__":Str))=false:=by decide)
  (hcd:(x==("__classdict__":Str))=false:=by decide) (hst:cM (e::es) X.env=(false,eval e X.env)::cM es X.env:=by rfl) (hpl:(kC pos (cM es X.env)).any (·.1)=false:=by rfl) :
  PE X (.Call (.Name x p) (e::es) [] pos) (Y6 X i t):=by
 intro pins s σ H Q I h
 obtain⟨fa,fd,k,ps,sp,hσ,F,hr,hk,hb,h⟩:=h
 refine gY (fU (U0 (pos:=p) hN hv hdb hcd pins s σ H (fun v H1=>v=.ref fa/\H1=H) I ⟨_,hσ,rfl,rfl⟩) fun u s1 ⟨v,H1,I1,r1,e1,e2⟩=>?_)
 subst e1 e2
 obtain rfl:u=bE fa:=r1
 refine qD (h₀:=X.base) I.ok.mod.YG hk (fU (ha pos pins s1 σ H1 _ I1 h) fun us s2 ⟨vs,H2,I2,r,q⟩=>⟨I2.K5,?_⟩) hst hpl
 exact Kq (dvs:=[]) (ds:=[]) F hr hb .nil bR I2 r (by rw[dw];exact q)
end
end L2
namespace L2
open PySem PySem.Spec PyProof.Rows
section
variable {prog:bj} {w:bV}
theorem VT {Ar:cQ} (calm:Ar.handled=none) (it dd:af) (apart:it≠dd) (ob:Obj) (es:Array fT) (ep:Nat) (dat:ob.data=.dict es ep) :
  Walks prog w Ar it [it,dd] [it] es.size (fun i v=>∃en,es[i]?=some en/\v=en.key) (fun i hp=>hp.IsKeyIter it dd i es.size ep/\hp.get? dd=some ob) where
 sub:=fun b hb=>aF.mpr (.inl (aY.mp hb))
 frame:=fun i hp hp' st k=>⟨st.1.at fun oi q=>k it (by simp) oi q,k dd (by simp) ob st.2⟩
 item:=fun i s Q E lt st k=>zA st.1 st.2 dat rfl (gW lt) fun hp' st' sb=>
  k _ hp' s.toks ⟨_,gW lt,rfl⟩ ⟨st',(sb.2 dd (bK apart)).trans st.2⟩ fun b o nb q=>(sb.2 b fun z=>nb (aY.mpr z)).trans q
 done:=fun s Q E st k=>uB calm st.1 st.2 dat rfl (aC _) fun hp' eb=>k hp' s.toks fun b o nb q=>eb b o (fun z=>nb (aY.mpr z)) q
 self:=fun i s Q E st k=>by
  refine IS st.1.typeIs jP (gw jP st.1.typeIs J_ ?_ (I0 _))
  show bD _ _ (ret (.ref it)) _ _ s
  exact aH ⟨_,rfl,"dict_keyiterator",_,st.1.typeIs,eG.lookup,k⟩
theorem ZY (dd:af) (xu:(dd==eB)=false) (ob:Obj) (ex:ob.ExactDict) (es:Array fT) (ep:Nat) (dat:ob.data=.dict es ep) :
  PySem.W.KdlSrc prog w "dict" dd dd es.size (fun i v=>∃en,es[i]?=some en/\v=en.key) (fun hp=>hp.get? dd=some ob) where
 type:=fun s q=>⟨ob,q,ex.1⟩
 there:=fun hp q=>⟨bo q,bo q⟩
 keep:=fun hp hp' q k=>k dd (.inl rfl) ob q
 notList:=by decide
 notTuple:=by decide
 hint:=fun Ar E s Q q k=>PySem.W.kdl_hint_dict (s:=s) ⟨ob,q,ex.1⟩ k
 iter:=fun Ar s calm q=>⟨_,_,fun E Q k=>C7 xu q ex dat k,VT calm _ dd (gI (bo q)) ob es ep dat,⟨⟨_,bp _ rfl,rfl,rfl⟩,aD _ q⟩⟩
theorem X8 {Ar:cQ} {R:QO->ay->Prop} {s:ay} {dd:af} (calm:Ar.handled=none) (xu:(dd==eB)=false) {ob:Obj} (q:s.heap.get? dd=some ob) (ex:ob.ExactDict) {es:Array fT} {ep:Nat}
  (dat:ob.data=.dict es ep) (hE:es.size<=ao)
  (k:∀hp tk acc c,(∀b o,s.heap.get? b=some o->hp.get? b=some o)->hp.get? s.heap.objs.size=some { cls:=.type "list",dict:=none,data:=.seq acc c,slots:=#[] }->ItemsOf (fun i v=>∃en,es[i]?=some en/\v=en.key) acc es.size ->
   R (.ok (.ret (.ref s.heap.objs.size))) { s with heap:=hp,toks:=tk }):tf (model prog w) Ar (.builtin "proto.collect" ⟨[.ref dd],[]⟩) R s:=by
 refine gH PySem.F.entry_proto_collect ?_
 rw[gh PySem.F.plain_proto_collect _]
 show bD _ Ar.in1 (newList [] >>= fun l=>again (.builtin "list.__iadd__" ⟨[l,.ref dd],[]⟩)) _ _ s
 refine ah (kE ?_)
 refine aH ⟨qF J6 _,gH PySem.F.entry_list_iadd ?_⟩
 rw[gh J6 _]
 show bD _ Ar.in1 (acI (.ref s.heap.objs.size) (.ref dd) (.ref s.heap.objs.size)) _ _ _
 have lt:=bo q
 have at0:(s.heap.push { cls:=.type "list",data:=.seq ([]:List ai).toArray }).get? s.heap.objs.size=some { cls:=.type "list",data:=.seq #[] 0 }:=bp _ rfl
 exact PySem.W.kdl_extend (A:=Ar) (R:=R) (s:={ s with heap:=s.heap.push { cls:=.type "list",data:=.seq ([]:List ai).toArray } }) (ZY dd xu ob ex es ep dat) calm (aD _ q) s.heap.objs.size (gI lt) (gI lt) (.ref s.heap.objs.size) 0 at0
  (fun hp tk acc c kept at_ its=>k hp tk acc c (fun b o z=>kept b o (cv (bo z)) (aD _ z)) at_ its) hE
theorem Qj {Ar:cQ} {E:ai->ay->Prop} {s:ay} {dd:af} {Q:List ai->ay->Prop} (calm:Ar.handled=none) (xu:(dd==eB)=false) {ob:Obj} (q:s.heap.get? dd=some ob) (ex:ob.ExactDict) {es:Array fT} {ep:Nat}
  (dat:ob.data=.dict es ep) (hE:es.size<=ao)
  (k:∀hp tk,(∀b o,s.heap.get? b=some o->hp.get? b=some o)->Q (es.toList.map fun en=>en.key) { s with heap:=hp,toks:=tk }):bD (model prog w) Ar (collect (.ref dd)) Q E s:=by
 unfold collect
 refine ah (wpAny_runValue (X8 calm xu q ex dat hE fun hp tk acc c kept at_ its=>?_))
 show bD _ Ar (load s.heap.objs.size >>= _) _ _ _
 refine ah (aae at_ (aH ?_))
 have e:acc.toList=es.toList.map fun en=>en.key:=by
  apply List.ext_getElem?
  intro j
  obtain⟨n1,n2⟩:=its
  rw[yB,aX,yB]
  by_cases lj:j<es.size
  ·have lj':j<acc.size:=by omega
   obtain⟨en,a1,a2⟩:=n2 j acc[j] (gW lj')
   rw[gW lj',a1,a2]
   rfl
  ·rw[mP (by omega),mP (by omega)]
   rfl
 show Q acc.toList _
 rw[e]
 exact k hp tk kept
end
end L2
namespace L2
open PySem PySem.Spec PyProof.Rows
theorem MV {α β:Type} {g:α->β} {l k:List β} (p:l.Perm k):∀{L:List α},k=L.map g->∃L':List α,L'.Perm L/\l=L'.map g:=by
 induction p with
 | nil=>intro L e;exact⟨[],by rw[List.map_eq_nil_iff.mp e.symm],rfl⟩
 | cons x _ ih=>
  intro L e
  cases L with
  | nil=>cases e
  | cons y L=>
   rw[a7] at e
   injection e with e1 e2
   obtain⟨L',p',q⟩:=ih e2
   exact⟨y::L',p'.cons y,by rw[a7,<- q,e1]⟩
 | swap x y l=>
  intro L e
  cases L with
  | nil=>cases e
  | cons a L=>
   cases L with
   | nil=>simp at e
   | cons b L=>
    rw[a7,a7] at e
    injection e with e1 e2
    injection e2 with e2 e3
    exact⟨b::a::L,List.Perm.swap _ _ _,by rw[a7,a7,e1,e2,e3]⟩
 | trans _ _ ih1 ih2=>
  intro L e
  obtain⟨L2,p2,q2⟩:=ih2 e
  obtain⟨L1,p1,q1⟩:=ih1 q2
  exact⟨L1,p1.trans p2,q1⟩
theorem zip_map_self {α β:Type} (g:α->β):∀l:List α,(l.map g).zip (l.map g)=l.map fun x=>(g x,g x)
 | []=>rfl
 | a::l=>by rw[a7,Cv,zip_map_self g l,a7]
theorem Jf:∀l:List (af×(Int×Int)),dF (l.map fun x=>V.ref x.1) (l.map fun x=>bE x.1)
 | []=>.nil
 | _::l=>.cons rfl (Jf l)
def TX (a b:Int×Int):Prop:=a.1<b.1\/(a.1=b.1/\a.2<=b.2)
def eJ (H:Hp) (a:af) (p:Int×Int):Prop:=H a=some (.tup [.int p.1,.int p.2])
section
variable {X:Cx}
abbrev My:Nat->Bool:=fun _=>false
theorem Me {pins:List (af×Obj)} {σ:St} {H:Hp} {s:ay} {a:af} {p:Int×Int} (I:Inv X pins σ H s) (h:eJ H a p) :
  kH s.heap My (.ref a)=some [dU p.1,dU p.2]/\∃f,acF s.heap My (.ref a) f:=by
 obtain⟨_,its,r,o,ho,hc,n,hd⟩:=I.fw a _ h
 cases r with
 | cons r1 t=>
  cases t with
  | cons r2 t=>
   cases t
   obtain⟨t1,rfl⟩:=r1
   obtain⟨t2,rfl⟩:=r2
   refine⟨?_,.int p.1 t1,a,o,_,n,rfl,ho,hc,hd,rfl,fun _=>⟨_,_,rfl⟩,fun z=>nomatch z⟩
   unfold kH
   have e1:DM s.heap (.ref a)=true:=by simp[DM,ho,hc]
   rw[if_pos e1]
   simp only[aco,ho,hd]
   rfl
def Zl:List V->Hp->VK->Prop:=fun xs H Q=>∃(d:af) (kvs:List (List Key×V)) (pr:List (Int×Int)),xs=[V.ref d]/\Rd H d (.dT kvs)/\kvs.map (·.1)=pr.map (fun p=>[dU p.1,dU p.2]) /\
 ∀(L:List (af×(Int×Int))) (q:af),(L.map (·.2)).Perm pr->(L.map (·.2)).Pairwise TX->(∀x∈L,eJ H x.1 x.2)->H q=none->Q (.ref q) (upd H q (.lst (L.map fun x=>V.ref x.1)))
theorem Od (hc:X.calm=true):qB X (.builtin "sorted") Zl:=by
 intro pins s σ H xs us Q I r h
 obtain⟨d,kvs,pr,rfl,hd,ek,k⟩:=h
 rw[dF.MN r]
 obtain⟨z,xu,xs,rel,o,es,ep,ho,hx,hdat,hen,his,hnd⟩:=Ef I.fw hd
 have lx:es.size=xs.length:=OG hen
 have lk:kvs.length=xs.length:=eK rel
 obtain⟨L0,eL,tL,aL⟩:∃L0:List (af×(Int×Int)),L0.map (·.2)=pr/\(∀x∈L0,eJ H x.1 x.2)/\es.toList.map (fun en=>en.key)=L0.map fun x=>bE x.1:=by
  rw[hen,cz]
  clear k hen lx lk hnd his hd z ho hdat
  induction rel generalizing pr with
  | nil=>
   cases pr with
   | nil=>exact⟨[],rfl,fun x hx=>absurd hx (by simp),rfl⟩
   | cons p pr=>cases ek
  | @cons a b l₁ l₂ rr t ih=>
   cases pr with
   | nil=>cases ek
   | cons p pr=>
    rw[a7,a7] at ek
    injection ek with e1 e2
    obtain⟨L0,h1,h2,h3⟩:=ih pr e2
    refine⟨(b.2.1,p)::L0,by rw[a7,h1],fun x hx=>?_,by rw[a7,a7,h3];rfl⟩
    rcases aF.mp hx with e | hx
    ·rw[e]
     have q:=rr.2.1
     rw[e1] at q
     exact q
    ·exact h2 x hx
 have lL:L0.length=es.size:=by
  have e:=congrArg j_ aL
  rw[aa,aa,iG] at e
  exact e.symm
 refine Calls.call_function_entry kind_sorted plain_sorted entry_sorted (args_sorted1 _) ?_
 unfold Builtin.«sorted»
 refine ah (m:=checkCount "sorted" 1 1 _) (aH ?_)
 have calm:X.A.handled=none:=I.ok.hd hc
 refine ah (Qj (by simpa using calm) xu ho hx hdat (by omega) fun hp tk kept=>?_)
 rw[aL]
 refine ah (wpAny_newList ?_)
 have I1:Inv X pins σ H { s with heap:=hp,toks:=tk }:=I.kept kept
 have kept2:∀b u,hp.get? b=some u->(hp.push (LM "list" (L0.map fun x=>bE x.1).toArray 0)).get? b=some u:=fun b u e=>aD _ e
 have I2:Inv X pins σ H { s with heap:=hp.push (LM "list" (L0.map fun x=>bE x.1).toArray 0),toks:=tk }:=I1.kept (t':=tk) kept2
 have hoL:(hp.push (LM "list" (L0.map fun x=>bE x.1).toArray 0)).get? hp.objs.size=some (LM "list" (L0.map fun x=>bE x.1).toArray 0):=bp _ rfl
 have small:(L0.map fun x=>bE x.1).length<=ao:=by rw[aa];omega
 have keys:∀x∈L0,kH (hp.push (LM "list" (L0.map fun x=>bE x.1).toArray 0)) My (.ref x.1)=some [dU x.2.1,dU x.2.2]:=fun x hx=>(Me I2 (tL x hx)).1
 obtain⟨fs,hfs⟩:∃fs,IW (hp.push (LM "list" (L0.map fun x=>bE x.1).toArray 0)) My (L0.map fun x=>bE x.1) fs:=by
  have go:∀M:List (af×(Int×Int)),(∀x∈M,eJ H x.1 x.2)->∃fs,IW (hp.push (LM "list" (L0.map fun x=>bE x.1).toArray 0)) My (M.map fun x=>bE x.1) fs:=by
   intro M
   induction M with
   | nil=>intro _;exact⟨[],.nil⟩
   | cons x M ih=>
    intro hM
    obtain⟨fs,h⟩:=ih fun y hy=>hM y (aE _ hy)
    obtain⟨f,hf⟩:=(Me I2 (hM x (by simp))).2
    exact⟨f::fs,.cons hf h⟩
  exact go L0 tL
 refine ah (iT (gw slot_list_sort ⟨_,hoL,rfl⟩ entry_list_sort (aaA (shape:=My) hoL hfs (fun v hv=>?kk) small fun st' a1 a2 _=>⟨_,rfl,?rr⟩) (args_list_sort _)))
 case kk=>
  obtain⟨x,hx,rfl⟩:=a9.mp hv
  exact⟨_,keys x hx⟩
 case rr=>
  have pl:(aav st').toList.Perm (L0.map fun x=>((bE x.1,bE x.1):Keyed)):=by
   have e:=Array.perm_iff_toList_perm.mp a1
   rw[pairsOf_toList] at e
   rw[zip_map_self] at e
   exact e
  obtain⟨L,pL,eA⟩:=MV pl rfl
  have mem:∀x∈L,x∈L0:=fun x hx=>pL.mem_iff.mp hx
  have out:(((aav st').map (·.2)).toList)=L.map fun x=>bE x.1:=by
   rw[Array.toList_map,eA,cz]
   rfl
  obtain⟨ep',hat⟩:=sortedHeap_at (vs:=L0.map fun x=>bE x.1) (out:=(aav st').map (·.2)) hoL
  have sz:(pairsOf (L0.map fun x=>bE x.1)).size=L.length:=by
   rw[pairsOf_size,aa]
   exact pL.length_eq.symm
  have kkk:∀(i:Nat) (x:af×(Int×Int)),L[i]?=some x->KK (aaz (hp.push (LM "list" (L0.map fun x=>bE x.1).toArray 0)) My) (aav st') i=[dU x.2.1,dU x.2.2]:=fun i x hx=>by
   have e0:(aav st')[i]?=some (bE x.1,bE x.1):=by
    rw[<- yB,eA,aX,hx]
    rfl
   unfold KK
   rw[e0]
   show ((kH _ My (.ref x.1)).getD _)=_
   rw[keys x (mem x (aN hx))]
   rfl
  have sorted:(L.map (·.2)).Pairwise TX:=by
   rw[jO,List.pairwise_iff_getElem]
   intro i j hi hj hij
   have q:=a2 i j (qK hij) (by rw[sz];exact hj)
   rw[kkk i _ (aR hi),kkk j _ (aR hj)] at q
   have q':acx acA [dU L[j].2.1,dU L[j].2.2] [dU L[i].2.1,dU L[i].2.2]=false:=q
   obtain⟨b1,b2⟩:=FN.mp q'
   have c1:¬ L[j].2.1<L[i].2.1:=of_decide_eq_false (show decide (L[j].2.1<L[i].2.1)=false from b1)
   show L[i].2.1<L[j].2.1\/(L[i].2.1=L[j].2.1/\L[i].2.2<=L[j].2.2)
   rcases b2 with b2 | b2
   ·exact .inl (of_decide_eq_true (show decide (L[i].2.1<L[j].2.1)=true from b2))
   ·obtain⟨d1,_⟩:=FN.mp b2
    have c2:¬ L[j].2.2<L[i].2.2:=of_decide_eq_false (show decide (L[j].2.2<L[i].2.2)=false from d1)
    omega
  have nn:H hp.objs.size=none:=I1.fw.fresh (aC _)
  refine aH ⟨_,rfl,.ref hp.objs.size,upd H hp.objs.size (.lst (L.map fun x=>V.ref x.1)),?_,rfl,k L _ (by rw[<- eL];exact pL.map _) sorted (fun x hx=>tL x (mem x hx)) nn⟩
  have ea:(aav st').map (·.2)=(L.map fun x=>bE x.1).toArray:=by rw[<- out,Array.toArray_toList]
  rw[ea] at hat ⊢
  refine I1.laid (t':=tk) (fun b u e=>?_) (aC _) ⟨by rw[aa,pL.length_eq];omega,_,ep',Jf L,hat⟩
  ·rw[sortedHeap_old (cv (bo e)) (by rw[cR];exact hZ (bo e))]
   exact kept2 b u e
end
end L2
namespace L2
open PySem PySem.Spec PyProof.Rows
def YH (p:Int×Tok×ai):fT:=⟨hashInt p.1,.int p.1 p.2.1,p.2.2⟩
abbrev RC:List (Int×V)->List (Int×Tok×ai)->Prop:=Paired fun a b=>a.1=b.1/\RelV a.2 b.2.2
structure yu (K:ae) (d:af) (kvs:List (Int×V)):Prop where
 xu:(d==eB)=false
 nd:(kvs.map (·.1)).Nodup
 ex:∃(o:Obj) (es:Array fT) (ep:Nat) (us:List (Int×Tok×ai)),K.lookup d=some o/\o.ExactDict/\o.data=.dict es ep/\es.toList=us.map YH/\RC kvs us
def E1:List (Int×V)->Int->Option V
 | [],_=>none
 | p::r,i=>if p.1=i then some p.2 else E1 r i
theorem XQ {kvs:List (Int×V)} {us:List (Int×Tok×ai)} (r:RC kvs us):(us.map fun p=>(p.1,p.2.2)).map (·.1)=kvs.map (·.1):=by
 induction r with
 | nil=>rfl
 | cons r t ih=>rw[a7,a7,a7,ih,r.1]
theorem ZI {kvs:List (Int×V)} {us:List (Int×Tok×ai)} (r:RC kvs us) (i:Int):oj (E1 kvs i) (kF (us.map fun p=>(p.1,p.2.2)) i):=by
 induction r with
 | nil=>exact ij
 | @cons a b l m r t ih=>
  by_cases e:a.1=i
  ·have e':b.1=i:=r.1.symm.trans e
   have q:kF ((b::m).map fun p=>(p.1,p.2.2)) i=some b.2.2:=by simp[kF,eR,e']
   rw[q]
   show oj (if a.1=i then some a.2 else E1 l i) _
   rw[if_pos e]
   exact r.2
  ·have e':¬ b.1=i:=fun z=>e (r.1.trans z)
   have q:kF ((b::m).map fun p=>(p.1,p.2.2)) i=kF (m.map fun p=>(p.1,p.2.2)) i:=by simp[kF,eR,e']
   rw[q]
   show oj (if a.1=i then some a.2 else E1 l i) _
   rw[if_neg e]
   exact ih
section
variable {X:Cx} {pins:List (af×Obj)} {σ:St} {H:Hp} {s:ay} {d:af} {kvs:List (Int×V)}
theorem yu.of (D:yu X.K d kvs) (I:Inv X pins σ H s):∃vs:List (Int×ai),s.heap.DictOf (intKind X.prog X.w) d vs/\∀i,oj (E1 kvs i) (kF vs i):=by
 obtain⟨o,es,ep,us,lk,ex,dat,ent,rel⟩:=D.ex
 refine⟨us.map fun p=>(p.1,p.2.2),⟨o,es,ep,I.K5 d o lk,ex,dat,fun e he=>?_,?_,?_⟩,ZI rel⟩
 ·have he:e∈es.toList:=by simpa using he
  rw[ent] at he
  obtain⟨p,_,rfl⟩:=a9.mp he
  exact⟨p.1,QM _ _ _ _,rfl⟩
 ·rw[ent]
  clear ent rel
  induction us with
  | nil=>exact .nil
  | cons p us ih=>exact .cons (QM _ _ _ _) rfl ih
 ·rw[XQ rel]
  exact D.nd
theorem yu.noDict (D:yu X.K d kvs) (I:Inv X pins σ H s):s.TypeIs (.ref d) "dict"/\∀b,bE d=.ref b->∃ob,s.heap.get? b=some ob/\ob.dict=none:=by
 obtain⟨o,es,ep,us,lk,ex,_⟩:=D.ex
 refine⟨⟨o,I.K5 d o lk,ex.1⟩,fun b q=>?_⟩
 cases q
 exact⟨o,I.K5 d o lk,ex.2.1⟩
end
def aaL (K:ae) (td ty:TE):TE:=fun σ H Q=>td σ H fun x H1=>ty σ H1 fun y H2=>∃d kvs i v,x=.ref d/\yu K d kvs/\y=.int i/\E1 kvs i=some v/\Q v H2
def Ke (K:ae) (td ty tx:TE):TE:=fun σ H Q=>td σ H fun x H1=>∃d kvs,x=.ref d/\yu K d kvs/\ty σ H1 fun y H2=>tx σ H2 fun z H3=>∃i,y=.int i/\Q ((E1 kvs i).getD z) H3
section
variable {X:Cx} {o i e f:Expr} {pos apos cpos:Pos} {td ty tx:TE}
theorem Xv (ho:PE X o td) (hi:PE X i ty) (hs:aaa i):PE X (.Subscript o i pos) (aaL X.K td ty):=by
 intro pins s σ H Q I h
 refine Q4 HZ.lookup hs (fU (ho pins s σ H _ I h) fun u s1 ⟨x,H1,I1,rx,q1⟩=>fU (hi pins s1 σ H1 _ I1 q1) fun iv s2 ⟨y,H2,I2,ry,d,kvs,j,v,ex,D,ey,at_,q2⟩=>?_)
 subst ex ey
 obtain rfl:u=bE d:=rx
 obtain⟨t,rfl⟩:=ry
 obtain⟨vs,dd,rel⟩:=D.of I2
 obtain⟨w',hw,rw'⟩:=oj.some_of (v:=v) (o:=kF vs j) (by rw[<- at_];exact rel j)
 exact⟨(D.noDict I2).1,abw (QM _ _ _ _) dd.mapOf hw ⟨v,H2,I2.tok _,rw',q2⟩⟩
theorem U1 (ho:PE X o td) (he:PE X e ty) (hf:PE X f tx) (m:M2 X o "get" apos e f cpos):PE X (.Call (.Attribute o "get" apos) [e,f] [] cpos) (Ke X.K td ty tx):=by
 intro pins s σ H Q I h
 refine vR m.base m.hE m.line lW jk LY (fU (ho pins s σ H _ I h) fun u s1 ⟨x,H1,I1,rx,d,kvs,ex,D,q1⟩=>?_)
 subst ex
 obtain rfl:u=bE d:=rx
 obtain⟨t1,t2⟩:=D.noDict I1
 refine⟨t1,t2,?_⟩
 rw[m.trees]
 refine gE rfl (g_ (fu (fU (he pins s1 σ H1 _ I1 q1) fun iv s2 ⟨y,H2,I2,ry,q2⟩=>
  fu (fU (hf pins s2 σ H2 _ I2 q2) fun fv s3 ⟨z,H3,I3,rz,j,ey,q3⟩=>jx ?_))))
 subst ey
 obtain⟨t,rfl⟩:=ry
 obtain⟨vs,dd,rel⟩:=D.of I3
 refine tj jk dd.typeIs uY (tD _ _ _) (Ws (intKind X.prog X.w) d (QM _ _ _ _) D.xu fv) ⟨_,dd.mapOf,?_⟩
 refine⟨_,H3,I3.tok _,?_,q3⟩
 have r:=rel j
 cases a:E1 kvs j with
 | none=>
  rw[a] at r
  rw[oj.none_of r]
  exact rz
 | some v=>
  rw[a] at r
  obtain⟨u,hu,ru⟩:=oj.some_of r
  rw[hu]
  exact ru
end
section
variable {X:Cx}
end
end L2
namespace L2
open PySem PySem.Spec PyProof.Rows
section
variable {X:Cx}
def acY (K:ae):V->List V->Hp->VK->Prop:=fun x xs H Q=>∃(a:af) (y0 y1 y2 y:Str),x=V.ref a/\xs=[.str y]/\iC K H a [.str y0,.str y1,.str y2] /\
 ((y=y0/\Q (.int 0) H)\/(y0≠y/\y=y1/\Q (.int 1) H)\/(y0≠y/\y1≠y/\y=y2/\Q (.int 2) H))
theorem Zz:Yi X "tuple.index" (acY X.K):=by
 intro pins s σ H x xs v us Q I rx rxs h
 obtain⟨a,y0,y1,y2,y,rfl,rfl,hs,h⟩:=h
 cases rx
 cases rxs with
 | cons ry rt=>
  cases rt
  obtain⟨ty,rfl⟩:=ry
  obtain⟨its,rv,⟨o,ho,hc,n,hd⟩,_⟩:=I.tuple hs
  cases rv with
  | cons r0 rv=>
  cases rv with
  | cons r1 rv=>
  cases rv with
  | cons r2 rv=>
  cases rv
  obtain⟨t0,rfl⟩:=r0
  obtain⟨t1,rfl⟩:=r1
  obtain⟨t2,rfl⟩:=r2
  refine gw IV ⟨o,ho,hc⟩ PySem.F.entry_tuple_index ?_ (PySem.F.args_tuple_index_2 _ _)
  unfold Builtin.«tuple.index»
  refine ah (aH ?_)
  dsimp only
  refine ah ?_
  unfold abY
  refine ah ?_
  unfold T3
  refine ah (aae ho ?_)
  rw[hd]
  refine aH (aH ?_)
  refine ah (aH ?_)
  refine ah (aH ?_)
  simp only[YT,YS]
  rw[show (R9 0 ((min (#[dJ y0 t0,dJ y1 t1,dJ y2 t2]:Array ai).size (#[dJ y0 t0,dJ y1 t1,dJ y2 t2]:Array ai).size-0+1-1) / 1))=[0,1,2] from by simp[R9]]
  simp only[Ic,zO]
  have g0:(#[dJ y0 t0,dJ y1 t1,dJ y2 t2]:Array ai)[0]?=some (dJ y0 t0):=rfl
  have g1:(#[dJ y0 t0,dJ y1 t1,dJ y2 t2]:Array ai)[1]?=some (dJ y1 t1):=rfl
  have g2:(#[dJ y0 t0,dJ y1 t1,dJ y2 t2]:Array ai)[2]?=some (dJ y2 t2):=rfl
  rw[g0,g1,g2]
  dsimp only
  have fin:∀{R:Fin->ay->Prop} {E:ai->ay->Prop} (k:Nat),R (.done (.ret (.int (k:Int) s.toks))) { s with toks:=s.toks+1 }->bD (model X.prog X.w) X.A.in1 (retInt (k:Int)) R E s:=fun {R E} k h=>by
   unfold retInt
   refine ah (wpAny_mkInt ?_)
   exact aH h
  have ends:∀k:Nat,Q (.int (k:Int)) H->∃v,Fin.done (Flow.ret (l6 (k:Int) s.toks))=Fin.done (Flow.ret v)/\EP X pins σ Q v { s with toks:=s.toks+1 }:=fun k q=>⟨_,rfl,.int (k:Int),H,I.tok _,⟨_,rfl⟩,q⟩
  refine ah (ah (ah (ze ?_)))
  by_cases e0:y0=y
  ·rw[decide_eq_true e0,if_pos rfl]
   have q:Q (.int 0) H:=by
    rcases h with h | h | h
    ·exact h.2
    ·exact absurd e0 h.1
    ·exact absurd e0 h.1
   exact ah (fin 0 (aH (aH (aH (ends 0 q)))))
  rw[decide_eq_false e0,if_neg bu]
  refine aH (ah (ah (ze ?_)))
  by_cases e1:y1=y
  ·rw[decide_eq_true e1,if_pos rfl]
   have q:Q (.int 1) H:=by
    rcases h with h | h | h
    ·exact absurd h.1.symm e0
    ·exact h.2.2
    ·exact absurd e1 h.2.1
   exact ah (fin 1 (aH (aH (aH (ends 1 q)))))
  rw[decide_eq_false e1,if_neg bu]
  refine aH (ah (ah (ze ?_)))
  have e2:y2=y/\Q (.int 2) H:=by
   rcases h with h | h | h
   ·exact absurd h.1.symm e0
   ·exact absurd h.2.1.symm e1
   ·exact⟨h.2.2.1.symm,h.2.2.2⟩
  rw[decide_eq_true e2.1,if_pos rfl]
  exact ah (fin 2 (aH (aH (aH (ends 2 e2.2)))))
end
end L2
namespace L2
open PySem PySem.Spec PyProof.Rows
theorem X3 (a v:ai):checkTypeCall "enumerate" ⟨[a],[("start",v)]⟩=pure ():=by kernel_rfl
theorem ZW (a v:ai):checkBuiltinCall "enumerate.__new__" ⟨[.type "enumerate",a],[("start",v)]⟩=pure ():=by kernel_rfl
theorem VR (lst:af) (cells:Array ai) (k:Nat) (od:Option af) (osl:Array (Option ai)) (tt:Tok) :
  Meets (Builtin.«enumerate.__new__» ⟨[.type "enumerate",.ref lst],[("start",.int 1 tt)]⟩) (fun _ R st=>st.heap.get? lst=some { cls:=.type "list",dict:=od,data:=.seq cells k,slots:=osl } /\
   R (.ok (.ret (.ref (st.heap.push { cls:=.type "list_iterator",data:=.fields #[.ref lst,.int 0 0] }).objs.size)))
    { st with heap:=(st.heap.push { cls:=.type "list_iterator",data:=.fields #[.ref lst,.int 0 0] }).push { cls:=.type "enumerate",data:=.fields #[.none,.bool false,.ref st.heap.objs.size,uU 1,.none,.none] } }):=
 .of_wp fun prog w Ar R st hyp=>by
  obtain⟨hp,gg,dd,tk,os⟩:=st
  obtain⟨at_l,go⟩:=hyp
  have hsub:=sub_enumerate
  have isl:Heap.IsList (Shared.heap ⟨hp,gg,dd,tk,os⟩) lst cells:=⟨_,at_l,rfl,k,rfl⟩
  wp_walk using rh at_l
  refine wpAny_stack_any fun stk=>aH ?_
  split
  ·rename_i cc _ _ _ _ _
   cases (cc==j3 "enumerate")
   all_goals
    wp_walk using rh at_l,kD isl
    exact⟨_,rfl,go⟩
  ·wp_walk using rh at_l,kD isl
   exact⟨_,rfl,go⟩
end L2
namespace L2
open PySem PySem.Spec PyProof.Rows
section
variable {prog:bj} {w:bV} {Ar:cQ} {E:ai->ay->Prop} {s:ay}
theorem X6 (self a v:ai):argsOk "object.__init__" ⟨[self,a],[("start",v)]⟩:=by
 unfold argsOk
 kernel_rfl
theorem VS {self a v:ai} :
  Meets (Builtin.«object.__init__» ⟨[self,a],[("start",v)]⟩) (fun _ R st=>st.TypeIs self "enumerate"/\R (.ok (.ret .none)) st):=by
 refine Meets.of_wp fun prog w Ar R st hs=>?_
 obtain⟨hT,hq⟩:=hs
 have hl:=sf.init.lookup
 have hm:=sf.made
 have hne:(some "enumerate.__new__" != some "object.__new__")=true:=by decide
 repeat (any_goals (first | assumption | wp_step))
 exact⟨_,rfl,hq⟩
theorem X7 {l:af} {cells:Array ai} {tt:Tok} {Q:ai->ay->Prop} (hL:s.heap.IsList l cells)
  (k:∀hp,yz hp (s.heap.objs.size+1) s.heap.objs.size 1 .none->hp.IsListIter s.heap.objs.size l 0->hp.objs.size=s.heap.objs.size+2->(∀b o,s.heap.get? b=some o->hp.get? b=some o)->Q (.ref (s.heap.objs.size+1)) { s with heap:=hp }) :
  bD (model prog w) Ar (call (.type "enumerate") [.ref l] [("start",.int 1 tt)]) Q E s:=by
 obtain⟨⟨c,dct,dt,sl⟩,hl,hc,n,hd⟩:=hL
 replace hc:c=.type "list":=hc
 replace hd:dt=.seq cells n:=hd
 subst hc hd
 have ft:=sf
 obtain⟨cc,tl,hmro⟩:=ft.mro
 have hmade:=ft.made
 have hsub:=ft.sub
 have hct:=X3 (.ref l) (.int 1 tt)
 refine QL (ab5 ?_)
 show bD _ _ (callAny (.type "enumerate") _) _ _ _
 refine aH ⟨Ua _ (by decide +kernel),gH PySem.F.entry_type_call ?_⟩
 rw[Se (WJ "enumerate" [.ref l] [("start",.int 1 tt)]) (units_type_call_type "enumerate" [.ref l] [("start",.int 1 tt)])]
 have h1:=ft.notType
 have h2:=ft.canCreate
 repeat (any_goals (first | assumption | wp_step))
 refine lY (DH (R:=wants (fun obj st=>obj=.ref (s.heap.push { cls:=.type "list_iterator",data:=.fields #[.ref l,.int 0 0] }).objs.size/\st={ s with heap:=(s.heap.push { cls:=.type "list_iterator",data:=.fields #[.ref l,.int 0 0] }).push { cls:=.type "enumerate",data:=.fields #[.none,.bool false,.ref s.heap.objs.size,uU 1,.none,.none] } }) E) ft.plain PySem.F.entry_enumerate_new (Yk (ZW (.ref l) (.int 1 tt)) (VR l cells n dct sl tt prog w Ar.in1 _ s ⟨hl,rfl,rfl⟩))) fun r s₁ hr=>?_
 cases r with
 | error e=>exact hr
 | ok fl=>
  cases fl with
  | ret obj=>
   obtain⟨rfl,rfl⟩:=hr
   have hz:(s.heap.push { cls:=.type "list_iterator",data:=.fields #[.ref l,.int 0 0] }).objs.size=s.heap.objs.size+1:=cR ..
   have he:yz ((s.heap.push { cls:=.type "list_iterator",data:=.fields #[.ref l,.int 0 0] }).push { cls:=.type "enumerate",data:=.fields #[.none,.bool false,.ref s.heap.objs.size,uU 1,.none,.none] }) (s.heap.objs.size+1) s.heap.objs.size 1 .none:=by
    have q:=bp (s.heap.push { cls:=.type "list_iterator",data:=.fields #[.ref l,.int 0 0] }) (o:={ cls:=.type "enumerate",data:=.fields #[.none,.bool false,.ref s.heap.objs.size,uU 1,.none,.none] }) rfl
    rw[hz] at q
    exact q
   have fin:=k _ he ⟨_,aD _ (bp _ rfl),rfl,rfl⟩ (by rw[cR,hz]) fun b o z=>aD _ (aD _ z)
   rw[hz]
   have hT:Yr { s with heap:=(s.heap.push { cls:=.type "list_iterator",data:=.fields #[.ref l,.int 0 0] }).push { cls:=.type "enumerate",data:=.fields #[.none,.bool false,.ref s.heap.objs.size,uU 1,.none,.none] } } (.ref (s.heap.objs.size+1)) "enumerate":=⟨_,he,rfl⟩
   have hli:=ft.init.lookup
   have hbi:=ft.init.bind (.ref (s.heap.objs.size+1))
   repeat (any_goals (first | assumption | wp_step))
   refine lY (DH (R:=wants (fun r st=>r=.none/\Q (.ref (s.heap.objs.size+1)) st) E) ft.init.plain PySem.F.entry_object_init (ft.init.check _ _ _ _ _ _ _ _ hT (X6 _ _ _) (VS prog w Ar.in1 _ _ ⟨hT,rfl,fin⟩))) fun r₂ s₂ hr₂=>?_
   cases r₂ with
   | error e=>exact hr₂
   | ok fl₂=>
    cases fl₂ with
    | ret r=>
     obtain⟨rfl,hq⟩:=hr₂
     repeat (any_goals (first | assumption | wp_step))
    | _=>exact hr₂.elim
  | _=>exact hr.elim
end
end L2
namespace L2
open PySem PySem.Spec PyProof.Rows
section
variable {prog:bj} {w:bV} {Ar:cQ} {E:ai->ay->Prop} {s:ay}
theorem X4 {en it l:af} {i:Nat} {c:Int} {cells:Array ai} {x old:ai} {Q:ai->ay->Prop} (he:yz s.heap en it c old) (hit:s.heap.IsListIter it l i) (hl:s.heap.IsList l cells) (hx:cells[i]?=some x) (hne:en≠it)
  (k:∀hp,T' hp en it (c+1) x s.heap.objs.size->hp.IsListIter it l (i+1)->hp.get? s.heap.objs.size=some { cls:=.type "tuple",data:=.seq #[.int c s.toks,x] }->hp.objs.size=s.heap.objs.size+1 ->
   (∀b o,b≠en->b≠it->s.heap.get? b=some o->hp.get? b=some o)->Q (.ref s.heap.objs.size) { s with heap:=hp,toks:=s.toks+1 }) :
  bD (model prog w) Ar (Builtin.«enumerate.__next__» ⟨[.ref en],[]⟩) (fun fin st=>∃v,fin=.done (.ret v)/\Q v st) E s:=by
 obtain⟨h0,gg,dd,tk,os⟩:=s
 show bD _ _ (field (.ref en) 2 >>= _) _ _ _
 refine ah (vP he rfl (x:=.ref it) rfl ?_)
 refine ah (wpAny_nextOf_list_item hit hl hx fun h1 it1 sb1=>?_)
 replace sb1:gf it h0 h1:=sb1
 have en1:yz h1 en it c old:=(sb1.2 en hne).trans he
 show bD _ _ (field (.ref en) 3 >>= _) _ _ ⟨h1,gg,dd,tk,os⟩
 refine ah (vP en1 rfl (x:=uU c) rfl ?_)
 show bD _ _ (field (.ref en) 4 >>= _) _ _ ⟨h1,gg,dd,tk,os⟩
 refine ah (vP en1 rfl (x:=.none) rfl ?_)
 show bD _ _ (mkInt c >>= _) _ _ ⟨h1,gg,dd,tk,os⟩
 refine ah (wpAny_mkInt ?_)
 show bD _ _ (Yn (.ref en) 3 (uU (c+1)) >>= _) _ _ ⟨h1,gg,dd,tk+1,os⟩
 refine ah (nO en1 (by simp) fun h2 en2 sb2=>?_)
 replace sb2:gf en h1 h2:=sb2
 replace en2:yz h2 en it (c+1) old:=en2
 show bD _ _ (Yn (.ref en) 4 .none >>= _) _ _ ⟨h2,gg,dd,tk+1,os⟩
 refine ah (nO en2 (by simp) fun h3 en3 sb3=>?_)
 replace sb3:gf en h2 h3:=sb3
 replace en3:yz h3 en it (c+1) old:=en3
 show bD _ _ (newTuple [.int c tk,x] >>= _) _ _ ⟨h3,gg,dd,tk+1,os⟩
 refine ah (wpAny_newTuple ?_)
 have en4:yz (h3.push { cls:=.type "tuple",data:=.seq #[.int c tk,x] }) en it (c+1) old:=aD _ en3
 generalize eh4:h3.push { cls:=.type "tuple",data:=.seq #[.int c tk,x] }=h4 at en4
 have sz3:h3.objs.size=h0.objs.size:=by rw[sb3.1,sb2.1,sb1.1]
 have lte:en<h0.objs.size:=bo he
 have tup4:h4.get? h0.objs.size=some { cls:=.type "tuple",data:=.seq #[.int c tk,x] }:=by rw[<- eh4,<- sz3];exact bp _ rfl
 have sz4:h4.objs.size=h0.objs.size+1:=by rw[<- eh4,cR,sz3]
 have keep4:∀b o,b≠en->b≠it->h0.get? b=some o->h4.get? b=some o:=fun b o n1 n2 z=>by
  rw[<- eh4];exact aD _ (sb3.extBut b o n1 (sb2.extBut b o n1 (sb1.extBut b o n2 z)))
 have it4:h4.IsListIter it l (i+1):=by
  rw[<- eh4];obtain⟨o,ho,r⟩:=(it1.extBut sb2.extBut (bK hne)).extBut sb3.extBut (bK hne);exact⟨o,aD _ ho,r⟩
 show bD _ _ (sA (.ref en) >>= _) _ _ ⟨h4,gg,dd,tk+1,os⟩
 rw[sz3]
 refine ah ?_
 unfold sA
 refine ah (vP en4 rfl (x:=.none) rfl (aH ?_))
 simp only[if_true]
 refine ah (aad ?_)
 refine ah (vP en4 rfl (x:=old) rfl ?_)
 refine ah (nO en4 (by simp) fun h5 en5 sb5=>?_)
 replace sb5:gf en h4 h5:=sb5
 replace en5:yz h5 en it (c+1) x:=en5
 show bD _ _ (rf (.ref en) (.ref h0.objs.size) >>= _) _ _ ⟨h5,gg,dd,tk+1,os⟩
 refine ah ?_
 unfold rf
 refine ah (nO en5 (by simp) fun h6 en6 sb6=>?_)
 replace sb6:gf en h5 h6:=sb6
 replace en6:T' h6 en it (c+1) x h0.objs.size:=en6
 refine nO en6 (by simp) fun h7 en7 sb7=>?_
 replace sb7:gf en h6 h7:=sb7
 replace en7:T' h7 en it (c+1) x h0.objs.size:=en7
 refine ah (DG (aH ⟨_,rfl,k h7 en7 ?_ ?_ ?_ ?_⟩))
 ·exact ((it4.extBut sb5.extBut (bK hne)).extBut sb6.extBut (bK hne)).extBut sb7.extBut (bK hne)
 ·exact sb7.extBut _ _ (gI lte) (sb6.extBut _ _ (gI lte) (sb5.extBut _ _ (gI lte) tup4))
 ·rw[sb7.1,sb6.1,sb5.1,sz4]
 ·exact fun b o n1 n2 z=>sb7.extBut b o n1 (sb6.extBut b o n1 (sb5.extBut b o n1 (keep4 b o n1 n2 z)))
theorem X5 {en it l:af} {i:Nat} {c:Int} {cells:Array ai} {x old:ai} {Q:Option ai->ay->Prop} (he:yz s.heap en it c old) (hit:s.heap.IsListIter it l i) (hl:s.heap.IsList l cells) (hx:cells[i]?=some x) (hne:en≠it)
  (k:∀hp,T' hp en it (c+1) x s.heap.objs.size->hp.IsListIter it l (i+1)->hp.get? s.heap.objs.size=some { cls:=.type "tuple",data:=.seq #[.int c s.toks,x] }->hp.objs.size=s.heap.objs.size+1 ->
   (∀b o,b≠en->b≠it->s.heap.get? b=some o->hp.get? b=some o)->Q (some (.ref s.heap.objs.size)) { s with heap:=hp,toks:=s.toks+1 }) :
  bD (model prog w) Ar (oY (.ref en)) Q E s:=by
 have ty:s.TypeIs (.ref en) "enumerate":=⟨_,he,rfl⟩
 unfold oY
 exact ah (FG (n_ (name:=ak "__next__") ty o9
  (gw o9 ty TQ (X4 he hit hl hx hne fun hp a b c d z=>aH (k hp a b c d z)) (Sb _))))
theorem ZX {en it l:af} {i:Nat} {c:Int} {cells:Array ai} {old:ai} {Q:Option ai->ay->Prop} (calm:Ar.handled=none) (he:yz s.heap en it c old) (hit:s.heap.IsListIter it l i) (hl:s.heap.IsList l cells) (hx:cells[i]?=none)
  (k:∀hp,abW it s.heap hp->Q none { s with heap:=hp }):bD (model prog w) Ar (oY (.ref en)) Q E s:=by
 have ty:s.TypeIs (.ref en) "enumerate":=⟨_,he,rfl⟩
 unfold oY
 refine ah (FG (n_ (name:=ak "__next__") ty o9 (gw o9 ty TQ ?_ (Sb _))))
 show bD _ _ (field (.ref en) 2 >>= _) _ _ _
 refine ah (vP he rfl (x:=.ref it) rfl ?_)
 refine ah (wpAny_nextOf_list_end calm hit hl hx fun hp ex eb hc=>?_)
 obtain⟨o,ho,hc⟩:=hc
 refine ah (abv (T:="StopIteration") (b:=true) ⟨o,ho,hc⟩ isSubtype_stop ?_)
 exact aH (k _ eb)
end
def Wl (K:ae) (a:af):It:=
 ⟨fun i H=>∃(xs:List V) (x:V),cP K H a xs/\xs[i]?=some x,fun i H v H'=>∃T x,v=.ref T/\H T=none/\H'=upd H T (.tup [.int ((i:Nat)+1),x])/\∀xs,cP K H a xs->xs[i]?=some x,fun i H=>∃xs:List V,cP K H a xs/\xs.length<=i⟩
theorem O4 {P:bj} {w:bV} {K:ae} {elts:List Expr} {kk:Nat} {tpos:Pos} (a e it:af) :
  Turn P w K (.Tuple elts kk tpos) (Wl K a) [e,it] e (fun i h=>(∃old,yz h e it ((i:Nat)+1:Int) old)/\h.IsListIter it a i/\e≠it) where
 mem:=by simp
 obj:=fun i h st b hb=>by
  obtain⟨⟨old,he⟩,⟨o,ho,hc,hd⟩,_⟩:=st
  have e':b=e\/b=it:=by simpa using hb
  rcases e' with z | z
  ·rw[z];exact⟨_,he,fun v q=>nomatch q⟩
  ·rw[z];exact⟨o,ho,fun v q=>by rw[hd] at q;cases q⟩
 keep:=fun i h h' st k=>let ⟨⟨old,he⟩,hi,hne⟩:=st;⟨⟨old,k e (by simp) _ he⟩,hi.at fun o q=>k it (by simp) o q,hne⟩
 item:=by
  intro X hP hw hK hc i pins s σ H E I hf st hg
  subst hP hw hK
  obtain⟨⟨old,he⟩,hit,hne⟩:=st
  obtain⟨xs,x,hq,hx⟩:=hg
  obtain⟨its,rv,p,hz⟩:=I.list hq
  obtain⟨u,hu,ru⟩:=rv.get hx
  have hel:e<s.heap.objs.size:=bo he
  have hil:it<s.heap.objs.size:=by obtain⟨_,q,_⟩:=hit;exact bo q
  refine X5 he hit p.isList (x:=u) (by simpa using hu) hne fun h' ho hit' hT hsz hk=>?_
  refine⟨_,rfl,QK (s:={ s with heap:=h',toks:=s.toks+1 }) ho fun h'' he' sb=>?_⟩
  have hT2:h''.get? s.heap.objs.size=some { cls:=.type "tuple",data:=.seq #[.int ((i:Nat)+1) s.toks,u] }:=(sb.2 _ (gI hel)).trans hT
  have new:gG X.prog X.w (upd H s.heap.objs.size (.tup [.int ((i:Nat)+1),x])) h'' s.heap.objs.size (.tup [.int ((i:Nat)+1),x]):=
   ⟨by show 2<=ao;decide,[.int ((i:Nat)+1) s.toks,u],.cons ⟨_,rfl⟩ (.cons ru .nil),⟨_,hT2,rfl,_,rfl⟩⟩
  have I1:Inv X pins σ (upd H s.heap.objs.size (.tup [.int ((i:Nat)+1),x])) { s with heap:=h'',toks:=s.toks+1 }:=
   I.Cz (ch:=[e,it]) (fun b ob hb q=>(sb.2 b (fun z=>hb (by simp[z]))).trans (hk b ob (fun z=>hb (by simp[z])) (fun z=>hb (by simp[z])) q)) hf (aC _) new
  refine⟨.ref s.heap.objs.size,_,I1,rfl,⟨_,x,rfl,I.fw.fresh (aC _),rfl,fun ys hy=>by rw[I.xF hy hq];exact hx⟩,⟨⟨u,?_⟩,hit'.at fun o q=>(sb.2 it (bK hne)).trans q,hne⟩,fun b hb=>?_⟩
  ·have e1:(((i+1:Nat):Int)+1)=((i:Int)+1)+1:=by omega
   rw[e1];exact he'
  ·have hb':b<s.heap.objs.size:=by
    have e':b=e\/b=it:=by simpa using hb
    rcases e' with z | z
    ·rw[z];exact hel
    ·rw[z];exact hil
   rw[aQ (cv hb')]
   exact (hf b hb).1
 done:=by
  intro X hP hw hK hc i pins s σ H E I hf st hg
  subst hP hw hK
  obtain⟨⟨old,he⟩,hit,hne⟩:=st
  obtain⟨xs,hq,hx⟩:=hg
  obtain⟨its,rv,p,hz⟩:=I.list hq
  obtain⟨f0,f1,f2,f3,f4,f5⟩:=hf it (by simp)
  have hl:=rv.length
  exact ZX (I.ok.hd hc) he hit p.isList (by simp;omega) fun h' eb=>⟨rfl,I.turned (t':=s.toks) (fun b o hb q=>eb b o hb q) f0 f1 f3 f4 f5⟩
 self:=fun A i s Q E st h=>let ⟨⟨_,he⟩,_⟩:=st;vO he h
end L2
namespace L2
open PySem PySem.Spec PyProof.Rows
section
variable {X:Cx}
def ZK (K:ae) (ta:TA):TI:=fun σ H R=>ta σ H fun vs H1=>∃a xs,vs=[.ref a]/\cP K H1 a xs/\R (Wl K a) H1
theorem UZ {e:Expr} {ta:TA} {p pos tpos kpos vpos:Pos} {j kk:Nat} {elts:List Expr} (hg:Gl X "enumerate") (hm:X.mg "enumerate"=none) (ha:PA X [e] ta) (hs:cM [e] X.env=[(false,eval e X.env)]:=by rfl) :
  PI X (.Tuple elts kk tpos) (.Call (.Name "enumerate" p) [e] [⟨some "start",.Constant (.int 1) j vpos,kpos⟩] pos) (ZK X.K ta):=by
 intro pins s σ H R I h
 refine gY (C3 I hg hm boot_enumerate ?_)
 refine PySem.W.callWith_of (P:=fun _=>True) (by rw[hs];rfl) (fun hp _=>⟨Keeper.machine,.inr (.inl rfl),abE rfl⟩) (acD (by rfl) (fU (ha pos pins s σ H _ I h) fun us s1 ⟨vs,H1,I1,r1,q1⟩=>?_) hs)
 obtain⟨a,xs,ex,hq,q⟩:=q1
 subst ex
 cases r1 with
 | cons r rr=>
  cases rr
  cases r
  show bD _ _ (evalAll [(do let v <- eval (.Constant (.int 1) j vpos) X.env;Wq pos;pure v)]) _ _ s1
  refine wpAny_evalAll_cons (ah (aag (ah (FF (aH (wpAny_evalAll_nil ⟨trivial,?_⟩))))))
  have I1':Inv X pins σ H1 { s1 with toks:=s1.toks+1 }:=I1.tok _
  obtain⟨its,rv,p',hz⟩:=I1'.list hq
  refine X7 p'.isList fun h' he hit hsz hk=>vO he ?_
  have I2:Inv X pins σ H1 { s1 with heap:=h',toks:=s1.toks+1 }:=I1'.kept (t':=s1.toks+1) hk
  refine⟨s1.heap.objs.size+1,[s1.heap.objs.size+1,s1.heap.objs.size],_,_,H1,rfl,I2,O4 a (s1.heap.objs.size+1) s1.heap.objs.size,⟨⟨.none,he⟩,hit,HW _⟩,fun b hb=>?_,q⟩
  have e':b=s1.heap.objs.size+1\/b=s1.heap.objs.size:=by simpa using hb
  have hle:s1.heap.objs.size<=b:=by
   rcases e' with z | z
   ·rw[z];exact kT _ _
   ·rw[z];exact aC _
  exact I1'.N2 hle (I1'.fw.fresh hle)
end
end L2
namespace L2
open PySem PySem.Spec PyProof.Rows
def qe (seen:List Str):List Str->Nat
 | []=>0
 | x::r=>(if x∈seen then 0 else 1)+qe (seen++[x]) r
theorem Ro (seen:List Str):∀l,qe seen l<=l.length
 | []=>aC _
 | x::r=>by
  have:=Ro (seen++[x]) r
  unfold qe
  rw[aG]
  split <;> omega
theorem SO (seen:List Str):∀l,qe seen l=l.length<->l.Nodup/\∀x∈l,x∉seen:=by
 intro l
 induction l generalizing seen with
 | nil=>simp[qe]
 | cons x r ih=>
  have le:=Ro (seen++[x]) r
  have ih':=ih (seen++[x])
  unfold qe
  rw[aG,c7]
  by_cases m:x∈seen
  ·rw[if_pos m]
   constructor
   ·intro e;omega
   ·intro h;exact absurd m (h.2 x (by simp))
  ·rw[if_neg m]
   constructor
   ·intro e
    obtain⟨h1,h2⟩:=ih'.mp (by omega)
    refine⟨⟨fun q=>(h2 x q) (by simp),h1⟩,fun y hy=>?_⟩
    rcases aF.mp hy with e | hy
    ·rw[e];exact m
    ·exact fun q=>h2 y hy (bJ _ q)
   ·rintro ⟨⟨h1,h2⟩,h3⟩
    have:=ih'.mpr ⟨h2,fun y hy q=>by
     rcases bx.mp q with q | q
     ·exact h3 y (aE _ hy) q
     ·rw[aY.mp q] at hy;exact h1 hy⟩
    omega
section
variable {prog:bj} {w:bV} {Ar:cQ} {R:QO->ay->Prop} {it:af} {fp wr:List af} {G:Array Yt->Array Yt->Prop} {Pr:Nat->ai->Prop} {St:Nat->ay->Prop}
theorem Mi:entryFor table "set.update.loop"=some Builtin.«set.update.loop»:=entryFor_of_tree (by kernel_rfl)
theorem F1:plainId "set.update.loop"=true:=by decide +kernel
theorem W2 (ws:List Str) (W:WalksS prog w Ar.in1 it fp wr G ws.length Pr St) (dst:af) (out:dst∉fp) (val:∀i v,Pr i v->∃x t,ws[i]?=some x/\v=.str x t) (hE:ws.length+1<LN) :
  ∀(k i:Nat) (s:ay) (n:Nat),ws.length-i=k->i<=ws.length->St i s->n<=i->n+qe (ws.take i) (ws.drop i)=qe [] ws ->
   s.heap.SetOf (strKind prog w) dst (fun y=>decide (y∈ws.take i)) n ->
   (∀s',Moved (dst::wr) G s s'->s'.heap.SetOf (strKind prog w) dst (fun y=>decide (y∈ws)) (qe [] ws)->R (.ok (.ret .none)) s') ->
   tf (model prog w) Ar (.builtin "set.update.loop" ⟨[.ref dst,.ref it],[]⟩) R s:=by
 have nw:dst∉wr:=fun z=>out (W.sub _ z)
 have sub:∀b∈wr,b∈dst::wr:=fun b hb=>aE _ hb
 intro k
 induction k with
 | zero=>
  intro i s n hk hi st hn hsum hS kR
  have ei:i=ws.length:=by omega
  subst ei
  refine gH Mi ?_
  rw[gh F1 _]
  show bD _ Ar.in1 (oY (.ref it) >>= _) _ _ s
  refine ah (W.done s _ _ st fun s' mv=>?_)
  show bD _ Ar.in1 (ret i9) _ _ s'
  rw[vB] at hsum
  have en:n=qe [] ws:=by simpa [qe] using hsum
  rw[bM,en] at hS
  exact aH (kR s' (mv.mono sub) (by
   obtain⟨o,es,ep,t,ho,rest⟩:=hS
   exact⟨o,es,ep,t,mv.heap dst _ nw ho,rest⟩))
 | succ k ih=>
  intro i s n hk hi st hn hsum hS kR
  have lt:i<ws.length:=by omega
  refine gH Mi ?_
  rw[gh F1 _]
  show bD _ Ar.in1 (oY (.ref it) >>= _) _ _ s
  refine ah (W.item i s _ _ lt st fun v s' pv st' mv=>?_)
  obtain⟨x,t,hx,rfl⟩:=val i v pv
  have hS':s'.heap.SetOf (strKind prog w) dst (fun y=>decide (y∈ws.take i)) n:=by
   obtain⟨o,es,ep,tb,ho,rest⟩:=hS
   exact⟨o,es,ep,tb,mv.heap dst _ nw ho,rest⟩
  show bD _ Ar.in1 (holding [dJ x t] (setAdd dst (.str x t)) >>= _) _ _ s'
  refine ah (iT ?_)
  unfold setAdd
  refine iT ?_
  refine ah ((strKind prog w).pyHash (k:=x) (strKind_is _ _ _ _) ?_)
  refine wpAny_setAddHashed_of (knd:=strKind prog w) (s:={ s' with toks:=s'.toks+1 }) (strKind_is _ _ _ _) rfl hS' (by omega) fun h' sb hS2=>?_
  have ex:ws[i]=x:=by
   rw[aR lt] at hx
   exact bQ hx
  have tk:ws.take (i+1)=ws.take i++[x]:=by rw[YU,aR lt,ex];rfl
  have dr:ws.drop i=x::ws.drop (i+1):=by rw[kU lt,ex]
  have hS3:h'.SetOf (strKind prog w) dst (fun y=>decide (y∈ws.take (i+1))) (if decide (x∈ws.take i)=true then n else n+1):=by
   obtain⟨o,es,ep,tb,a1,a2,a3,a4,a5,a6⟩:=hS2
   refine⟨o,es,ep,tb,a1,a2,a3,a4,fun y=>?_,a6⟩
   rw[<- a5 y,tk]
   simp[bx]
  rw[dr] at hsum
  rw[show qe (ws.take i) (x::ws.drop (i+1))=(if x∈ws.take i then 0 else 1)+qe (ws.take i++[x]) (ws.drop (i+1)) from rfl] at hsum
  have hsum':(if decide (x∈ws.take i)=true then n else n+1)+qe (ws.take (i+1)) (ws.drop (i+1))=qe [] ws:=by
   rw[tk]
   by_cases m:x∈ws.take i
   ·rw[if_pos m] at hsum
    rw[if_pos (decide_eq_true m)];omega
   ·rw[if_neg m] at hsum
    rw[if_neg (by simpa using m)];omega
  refine aH ⟨qF F1 _,ih (i+1) _ _ (by omega) lt (W.frame _ s' _ _ st' (tH _) fun b hb o e=>?_) (by split <;> omega) hsum' hS3 fun s2 mv2 hS4=>?_⟩
  ·rw[sb.2 b (fun z:b=dst=>out (by rw[<- z];exact hb))];exact e
  ·refine kR s2 (Moved.trans W.gtrans ((mv.mono sub).then_heap (tH _) fun b o hb e=>?_) mv2) hS4
   rw[sb.2 b (fun z:b=dst=>hb (by rw[z];exact bz))];exact e
end
end L2
namespace L2
open PySem PySem.Spec PyProof.Rows
theorem L_:∀{ws:List Str} {us:List ai},dF (ws.map V.str) us->∀(i:Nat) (v:ai),us[i]?=some v->∃x t,ws[i]?=some x/\v=.str x t
 | [],_,r,i,v,h=>by rw[fN] at r;cases r;simp at h
 | x::ws,_,r,i,v,h=>by
  rw[a7] at r
  cases r with
  | cons r1 r2=>
   obtain⟨t,rfl⟩:=r1
   cases i with
   | zero=>simp at h;exact⟨x,t,rfl,h.symm⟩
   | succ i=>exact L_ r2 i v (by simpa using h)
section
variable {prog:bj} {w:bV} {Ar:cQ} {E:ai->ay->Prop} {s:ay}
theorem W3 {l:af} {its:List ai} {ws:List Str} {Q:ai->ay->Prop} (calm:Ar.handled=none) (hl:s.heap.IsList l its.toArray) (rv:dF (ws.map V.str) its) (hE:ws.length+1<LN)
  (k:∀(hp:cX) (tk:Nat),hp.SetOf (strKind prog w) s.heap.objs.size (fun y=>decide (y∈ws)) (qe [] ws)->(∀b o,s.heap.get? b=some o->hp.get? b=some o)->Q (.ref s.heap.objs.size) { s with heap:=hp,toks:=tk }) :
  bD (model prog w) Ar (call (.type "set") [.ref l]) Q E s:=by
 have len:its.length=ws.length:=by rw[<- rv.length,aa]
 have ft:=F.called_set
 obtain⟨cc,tl,hmro⟩:=ft.mro
 have hmade:=ft.made
 have hsub:=ft.sub
 refine QL (ab5 ?_)
 show bD _ _ (callAny (.type "set") _) _ _ _
 refine aH ⟨Ua _ (by decide +kernel),gH F.entry_type_call ?_⟩
 rw[Se (WJ "set" [.ref l] []) rfl]
 have h1:=ft.notType
 have h2:=ft.canCreate
 have hct:=F.typeCall_set_1 (.ref l)
 repeat (any_goals (first | assumption | wp_step))
 refine lY (code_set_new_1 (.ref l) (E:=E) (Q₁:=fun obj st=>∃led:Bool,obj=.ref s.heap.objs.size/\st={ s with heap:=s.heap.push { cls:=.type "set",dict:=none,data:=.set #[] 0 (.fresh 0 0 led) } }) fun led=>⟨led,rfl,rfl⟩) fun r s1 hr=>?_
 cases r with
 | error e=>exact hr
 | ok fl=>
  cases fl with
  | ret obj=>
   obtain⟨led,rfl,rfl⟩:=hr
   have at0:(s.heap.push { cls:=.type "set",dict:=none,data:=.set #[] 0 (.fresh 0 0 led) }).get? s.heap.objs.size=some { cls:=.type "set",dict:=none,data:=.set #[] 0 (.fresh 0 0 led) }:=bp _ rfl
   have ty:Yr { s with heap:=s.heap.push { cls:=.type "set",dict:=none,data:=.set #[] 0 (.fresh 0 0 led) } } (.ref s.heap.objs.size) "set":=⟨_,at0,rfl⟩
   have hli:=ft.init.lookup
   have hbi:=ft.init.bind (.ref s.heap.objs.size)
   repeat (any_goals (first | assumption | wp_step))
   refine lY (DH (R:=wants (fun r st=>r=.none/\∃hp tk,st={ s with heap:=hp,toks:=tk }/\hp.SetOf (strKind prog w) s.heap.objs.size (fun y=>decide (y∈ws)) (qe [] ws)/\(∀b o,s.heap.get? b=some o->hp.get? b=some o)) E)
    ft.init.plain F.entry_set_init (check_set_init_1 ty ?_)) fun r2 s2 hr2=>?_
   ·obtain⟨ol,hol,hcl,nl,hdl⟩:=hl
    obtain⟨ocls,odict,odata,oslots⟩:=ol
    simp only at hcl hdl
    subst hcl;subst hdl
    have at_l:(s.heap.push { cls:=.type "set",dict:=none,data:=.set #[] 0 (.fresh 0 0 led) }).get? l=some { cls:=.type "list",dict:=odict,data:=.seq its.toArray nl,slots:=oslots }:=aD _ hol
    have q1:=F.sub_list_set
    have q2:=F.sub_list_frozenset
    have q3:(j3 "list"==j3 "dict")=false:=by decide
    have isl:(s.heap.push { cls:=.type "set",dict:=none,data:=.set #[] 0 (.fresh 0 0 led) }).IsList l its.toArray:=⟨_,at_l,rfl,nl,rfl⟩
    unfold Builtin.«set.__init__» noKeywords Yu
    generalize ePI:Wr=PI
    wp_walk
    subst ePI
    refine kD isl ?_
    refine ah (wpAny_runValue ?_)
    have lts:l<s.heap.objs.size:=bo hol
    have calm3:Ar.in1.in1.in1.handled=none:=by simp[calm]
    have ne1:l≠(s.heap.push { cls:=.type "set",dict:=none,data:=.set #[] 0 (.fresh 0 0 led) }).objs.size:=by
     rw[cR];exact cv (hZ lts)
    have out:s.heap.objs.size∉[(s.heap.push { cls:=.type "set",dict:=none,data:=.set #[] 0 (.fresh 0 0 led) }).objs.size,l]:=by
     rw[cR];simp only[aF,aY,fE,or_false,not_or]
     exact⟨cv (oZ _),gI lts⟩
    have W:=(IU (prog:=prog) (w:=w) calm3 (s.heap.push { cls:=.type "set",dict:=none,data:=.set #[] 0 (.fresh 0 0 led) }).objs.size l ne1 its.toArray).toS
    rw[show its.toArray.size=ws.length by rw[bZ,len]] at W
    refine W2 ws W s.heap.objs.size out (fun i v hv=>L_ rv i v (by simpa using hv)) hE (ws.length-0) 0 _ 0 rfl (cu _) ⟨⟨_,bp _ rfl,rfl,rfl⟩,(isl.push _)⟩ (aC _) (by simp) ?_ ?_
    ·have g0:((s.heap.push { cls:=.type "set",dict:=none,data:=.set #[] 0 (.fresh 0 0 led) }).push { cls:=.type "list_iterator",data:=.fields #[.ref l,.int 0 0] }).get? s.heap.objs.size
       = some { cls:=.type "set",dict:=none,data:=.set #[] 0 (.fresh 0 0 led) }:=aD _ at0
     have z:=(acu (knd:=strKind prog w) led).setOf g0 (by unfold LN;omega)
     simpa using z
    ·intro s' mv hS'
     obtain⟨h',g',d',tk',os'⟩:=s'
     have eg:g'=s.gens:=mv.gens
     have ed:d'=s.drawn:=mv.drawn
     have eo:os'=s.os:=mv.os
     subst eg;subst ed;subst eo
     show bD _ _ _ _ _ _
     refine aH ?_
     show bD _ _ (ret i9) _ _ _
     refine aH ⟨rfl,h',tk',rfl,hS',fun b o e=>?_⟩
     have lb:=bo e
     have b1:b≠s.heap.objs.size:=cv lb
     have b2:b≠(s.heap.push { cls:=.type "set",dict:=none,data:=.set #[] 0 (.fresh 0 0 led) }).objs.size:=by
      rw[cR];exact cv (hZ lb)
     exact mv.heap b o (by simp only[aF,aY,fE,or_false,not_or];exact⟨b1,b2⟩) (aD _ (aD _ e))
   ·cases r2 with
    | error e=>exact hr2
    | ok fl2=>
     cases fl2 with
     | ret r=>
      obtain⟨rfl,hp,tk,rfl,hS',kept⟩:=hr2
      repeat (any_goals (first | assumption | wp_step))
      exact k _ _ hS' kept
     | _=>exact hr2.elim
  | _=>exact hr.elim
end
def Wg (P:bj) (w:bV) (a:af) (ws:List Str):HO:=.ext fun hp=>hp.SetOf (strKind P w) a (fun y=>decide (y∈ws)) (qe [] ws)
section
variable {X:Cx}
theorem X' (hc:X.calm=true):qB X (.type "set") (fun xs H Q=>∃p ws,xs=[.ref p]/\cP X.K H p (ws.map V.str)/\ws.length+1<LN/\∀a,H a=none->Q (.ref a) (upd H a (Wg X.prog X.w a ws))):=by
 intro pins s σ H xs us Q I r h
 obtain⟨p,ws,rfl,hs,hE,q⟩:=h
 obtain⟨its,rv,pl,_⟩:=I.list hs
 rw[dF.MN r]
 refine W3 (I.ok.hd hc) pl.isList rv hE fun hp tk hS kept=>?_
 have hS':=hS
 obtain⟨o,es,ep,t,ho,_⟩:=hS'
 have new:gG X.prog X.w (upd H s.heap.objs.size (Wg X.prog X.w s.heap.objs.size ws)) hp s.heap.objs.size (Wg X.prog X.w s.heap.objs.size ws):=by
  refine (show _/\_/\_ from ⟨hS,⟨o,ho⟩,fun h1 h2 z kk=>?_⟩)
  obtain⟨o,es,ep,t,ho,rest⟩:=z
  exact⟨o,es,ep,t,kk o ho,rest⟩
 exact⟨.ref s.heap.objs.size,_,I.laid (t':=tk) kept (aC _) new,rfl,q _ (I.fw.fresh (aC _))⟩
theorem Yb:qB X (.builtin "len") (fun xs H Q=>∃a ws,xs=[.ref a]/\H a=some (Wg X.prog X.w a ws)/\Q (.int (qe [] ws)) H):=by
 intro pins s σ H xs us Q I r h
 obtain⟨a,ws,rfl,hs,q⟩:=h
 rw[dF.MN r]
 obtain⟨⟨o,es,ep,t,ho,ex,hd,_,_,hE,fits,en⟩,_⟩:=I.fw a _ hs
 refine call_len_set ho ex hd fits (by have:LN=4096:=rfl;omega) ?_
 rw[en]
 exact⟨.int (qe [] ws),H,I.tok _,⟨_,rfl⟩,q⟩
end
end L2
namespace L2
open PySem PySem.Spec PyProof.Rows
section
variable {prog:bj} {w:bV} {Ar:cQ} {R:QO->ay->Prop} {it:af} {fp wr:List af} {n:Nat} {Pr:Nat->ai->Prop} {St:Nat->cX->Prop}
def LtAt (prog:bj) (w:bV) (Ar:cQ) (h0:cX) (Pr:Nat->ai->Prop) (lt:Nat->Nat->Bool):Prop:=
 ∀(i j:Nat) (u v:ai) (s:ay) (Q:ai->ay->Prop) (E:ai->ay->Prop),(∀b o,h0.get? b=some o->s.heap.get? b=some o)->Pr i u->Pr j v->Q (.bool (lt i j)) s->bD (model prog w) Ar (Yo .Lt u v) Q E s
theorem XF (W:Walks prog w Ar.in1 it fp wr n Pr St) {lt:Nat->Nat->Bool} {h0:cX} (cmp:LtAt prog w Ar.in1 h0 Pr lt) {S:af} (out:S∉fp) (old:∀b o,h0.get? b=some o->b∉wr/\b≠S) :
  ∀(k j:Nat) (s:ay) (best:ai) (c:Nat),n-(j+1)=k->j+1<=n->St (j+1) s.heap->Pr (tq lt j) best->(∀b o,h0.get? b=some o->s.heap.get? b=some o) ->
   s.heap.get? S=some { cls:=.type "list",dict:=none,data:=.seq #[best,best] c,slots:=#[] } ->
   (∀v hp tk,Pr (tq lt (n-1)) v->(∀b o,b∉wr->b≠S->s.heap.get? b=some o->hp.get? b=some o)->R (.ok (.ret v)) { s with heap:=hp,toks:=tk }) ->
   tf (model prog w) Ar (.builtin "min.loop" ⟨[.ref it,.none,.ref S],[]⟩) R s:=by
 have outw:S∉wr:=fun q=>out (W.sub _ q)
 have nm:(toString "min"++toString ".loop":String)="min.loop":=by decide
 intro k
 induction k with
 | zero=>
  intro j s best c ek lj st pb kept at_ fin
  have e:j+1=n:=by omega
  refine gH uX ?_
  rw[gh fJ _]
  show bD _ Ar.in1 (T3 (.ref S) >>= _) _ _ s
  refine ah (QJ at_ rfl ?_)
  show bD _ Ar.in1 (tryCatch (oY (.ref it)) _ >>= _) _ _ s
  refine ah (DF (W.done s _ _ (e▸st) fun hp tk kp=>?_))
  have at1:=kp S _ outw at_
  show bD _ Ar.in1 (updateSeq S (fun _=>#[]) >>= _) _ _ _
  refine ah (OE at1 rfl (ah (DG (aH ?_))))
  exact fin best _ tk (by rw[<- e];exact pb) fun b o nb nS q=>(eV _ _ (bK nS)).trans (kp b o nb q)
 | succ k ih=>
  intro j s best c ek lj st pb kept at_ fin
  have lt1:j+1<n:=by omega
  refine gH uX ?_
  rw[gh fJ _]
  show bD _ Ar.in1 (T3 (.ref S) >>= _) _ _ s
  refine ah (QJ at_ rfl ?_)
  show bD _ Ar.in1 (tryCatch (oY (.ref it)) _ >>= _) _ _ s
  refine ah (DF (W.item (j+1) s _ _ lt1 st fun v hp tk pv st1 kp=>?_))
  have at1:=kp S _ outw at_
  have kept1:∀b o,h0.get? b=some o->hp.get? b=some o:=fun b o q=>kp b o (old b o q).1 (kept b o q)
  show bD _ Ar.in1 (tryCatch (holding [v,v] (Yo .Lt v best >>= _)) _ >>= _) _ _ _
  refine ah (DF (iT (ah (cmp (j+1) (tq lt j) v best _ _ _ kept1 pv pb ?_))))
  refine ah (iT (fk ?_))
  refine ah (DG (aH ?_))
  cases eb:lt (j+1) (tq lt j) with
  | true=>
   simp only[if_true]
   refine ah (OE at1 rfl (ah (DG ?_)))
   rw[nm]
   refine aH ⟨qF fJ _,ih (j+1) _ v _ (by omega) lt1 (W.frame _ _ _ st1 fun b hb o q=>?_) (by simp only[tq,eb,if_true];exact pv) (fun b o q=>?_) (oo _ at1 rfl)
    fun v' hp2 tk2 pv' kp2=>?_⟩
   ·exact (eV _ _ (fun z:S=b=>out (by rw[z];exact hb))).trans q
   ·exact (eV _ _ (bK (old b o q).2)).trans (kept1 b o q)
   ·exact fin v' hp2 tk2 pv' fun b o nb nS q=>kp2 b o nb nS ((eV _ _ (bK nS)).trans (kp b o nb q))
  | false=>
   simp only[l7,if_false]
   refine ah (DG ?_)
   rw[nm]
   refine aH ⟨qF fJ _,ih (j+1) _ best c (by omega) lt1 st1 (by simp only[tq,eb,l7,if_false];exact pb) kept1 at1 fun v' hp2 tk2 pv' kp2=>?_⟩
   exact fin v' hp2 tk2 pv' fun b o nb nS q=>kp2 b o nb nS (kp b o nb q)
theorem Vf (W:Walks prog w Ar.in1 it fp wr n Pr St) {lt:Nat->Nat->Bool} {h0:cX} (cmp:LtAt prog w Ar.in1 h0 Pr lt) {S:af} (out:S∉fp) (old:∀b o,h0.get? b=some o->b∉wr/\b≠S) (some_:0<n) {s:ay} {c:Nat} (st:St 0 s.heap)
  (kept:∀b o,h0.get? b=some o->s.heap.get? b=some o) (at_:s.heap.get? S=some { cls:=.type "list",dict:=none,data:=.seq #[] c,slots:=#[] })
  (fin:∀v hp tk,Pr (tq lt (n-1)) v->(∀b o,b∉wr->b≠S->s.heap.get? b=some o->hp.get? b=some o)->R (.ok (.ret v)) { s with heap:=hp,toks:=tk }) :
  tf (model prog w) Ar (.builtin "min.loop" ⟨[.ref it,.none,.ref S],[]⟩) R s:=by
 have outw:S∉wr:=fun q=>out (W.sub _ q)
 have nm:(toString "min"++toString ".loop":String)="min.loop":=by decide
 refine gH uX ?_
 rw[gh fJ _]
 show bD _ Ar.in1 (T3 (.ref S) >>= _) _ _ s
 refine ah (QJ at_ rfl ?_)
 show bD _ Ar.in1 (tryCatch (oY (.ref it)) _ >>= _) _ _ s
 refine ah (DF (W.item 0 s _ _ some_ st fun v hp tk pv st1 kp=>?_))
 have at1:=kp S _ outw at_
 show bD _ Ar.in1 (updateSeq S (fun _=>#[v,v]) >>= _) _ _ _
 refine ah (OE at1 rfl ?_)
 rw[nm]
 refine aH ⟨qF fJ _,XF W cmp out old _ 0 _ v _ rfl some_ (W.frame _ _ _ st1 fun b hb o q=>?_) pv (fun b o q=>?_) (oo _ at1 rfl) fun v' hp2 tk2 pv' kp2=>?_⟩
 ·exact (eV _ _ (fun z:S=b=>out (by rw[z];exact hb))).trans q
 ·exact (eV _ _ (bK (old b o q).2)).trans (kp b o (old b o q).1 (kept b o q))
 ·exact fin v' hp2 tk2 pv' fun b o nb nS q=>kp2 b o nb nS ((eV _ _ (bK nS)).trans (kp b o nb q))
end
section
variable {prog:bj} {w:bV} {Ar:cQ} {E:ai->ay->Prop} {s:ay}
theorem XG {l:af} {its:Array ai} {lt:Nat->Nat->Bool} {Q:ai->ay->Prop} (calm:Ar.handled=none) (hl:s.heap.IsList l its) (ne:0<its.size) (cmp:LtAt prog w Ar.in1 s.heap (fun i v=>its[i]?=some v) lt)
  (k:∀v hp tk,its[tq lt (its.size-1)]?=some v->(∀b o,s.heap.get? b=some o->hp.get? b=some o)->Q v { s with heap:=hp,toks:=tk }):bD (model prog w) Ar (call (.builtin "min") [.ref l]) Q E s:=by
 have nm:(toString "min"++toString ".loop":String)="min.loop":=by decide
 have ltl:l<s.heap.objs.size:=by obtain⟨_,e,_⟩:=hl;exact bo e
 refine call_function_tree PySem.F.kind_min PySem.F.plain_min PySem.F.entry_min (PySem.F.args_min1 _) ?_
 show bD _ Ar.in1 (zk "min" ["key","default"] 0 ⟨[],[]⟩ >>= _) _ _ s
 refine ah (Yk (show zk "min" ["key","default"] 0 ⟨[],[]⟩=pure [none,none] from rfl) ?_)
 refine ah (aH ?_)
 refine ah (kD hl ?_)
 generalize hi:s.heap.objs.size=I at ltl
 have st0:(s.heap.push { cls:=.type "list_iterator",data:=.fields #[.ref l,.int 0 0] }).IsListIter I l 0/\(s.heap.push { cls:=.type "list_iterator",data:=.fields #[.ref l,.int 0 0] }).IsList l its:=by
  rw[<- hi];exact⟨⟨_,bp _ rfl,rfl,rfl⟩,hl.push _⟩
 have W:=IU (prog:=prog) (w:=w) (A:=Ar.in1) calm I l (cv ltl) its
 refine ah (kE ?_)
 have sz:(s.heap.push { cls:=.type "list_iterator",data:=.fields #[.ref l,.int 0 0] }).objs.size=I+1:=by rw[cR,hi]
 have out:I+1∉[I,l]:=fun q=>by
  rcases aF.mp q with z | z
  ·exact absurd z (HW _)
  ·have e:=aY.mp z
   rw[<- e] at ltl
   exact absurd ltl (Nat.not_lt.mpr (tH _))
 rw[nm]
 have old:∀b o,s.heap.get? b=some o->b∉[I]/\b≠I+1:=fun b o q=>by
  have:=bo q
  rw[hi] at this
  exact⟨fun z=>cv this (aY.mp z),cv (hZ this)⟩
 refine aH ⟨qF fJ _,?_⟩
 rw[sz]
 have push2:∀b o,s.heap.get? b=some o->((s.heap.push { cls:=.type "list_iterator",data:=.fields #[.ref l,.int 0 0] }).push { cls:=.type "list",data:=.seq #[] }).get? b=some o:=fun b o q=>aD _ (aD _ q)
 refine Vf (h0:=s.heap) W cmp out old ne (W.frame _ _ _ st0 fun b _ o q=>aD _ q) push2 (by rw[<- sz];exact bp _ rfl) fun v hp tk pv kp=>?_
 exact k v hp tk pv fun b o q=>kp b o (old b o q).1 (old b o q).2 (push2 b o q)
end
theorem abb (p q:Int×Int):HT.lexLt [p.1,p.2] [q.1,q.2]=decide (p.1<q.1\/(p.1=q.1/\p.2<q.2)):=by
 rw[bq,decide_eq_true_eq]
 by_cases h1:p.1=q.1
 ·by_cases h2:p.2=q.2
  ·simp[HT.lexLt,h1,h2]
  ·simp[HT.lexLt,h1,h2]
 ·simp[HT.lexLt,h1]
theorem Om (p:Nat->Int×Int):∀(n i:Nat),i<=n->TX (p (tq (fun i j=>HT.lexLt [(p i).1,(p i).2] [(p j).1,(p j).2]) n)) (p i)
 | 0,i,h=>by rw[acG.mp h];exact .inr ⟨rfl,acH _⟩
 | n+1,i,h=>by
  have ih:=Om p n
  unfold tq
  split
  ·rename_i c
   rw[abb,decide_eq_true_eq] at c
   by_cases e:i=n+1
   ·rw[e];exact .inr ⟨rfl,acH _⟩
   ·have:=ih i (by omega)
    unfold TX at *
    omega
  ·rename_i c
   rw[abb,decide_eq_true_eq] at c
   by_cases e:i=n+1
   ·rw[e]
    unfold TX
    omega
   ·exact ih i (by omega)
def aaW (K:ae):List V->Hp->VK->Prop:=fun vs H Q=>∃(a:af) (L:List (af×(Int×Int))),vs=[V.ref a]/\cP K H a (L.map fun x=>V.ref x.1)/\(∀x∈L,eJ H x.1 x.2)/\0<L.length/\∀x,x∈L->(∀y,y∈L->TX x.2 y.2)->Q (.ref x.1) H
theorem Ya {X:Cx} (hc:X.calm=true) (hu:X.A.in1.units<pE):qB X (.builtin "min") (aaW X.K):=by
 intro pins s σ H vs us Q I r h
 obtain⟨a,L,rfl,hs,tL,some_,q⟩:=h
 obtain⟨its,rv,hl,hz⟩:=I.list hs
 rw[dF.MN r]
 have el:its=L.map fun x=>bE x.1:=by
  clear hs hl q tL some_ hz
  induction L generalizing its with
  | nil=>cases rv;rfl
  | cons x L ih=>
   cases rv with
   | cons r1 r2=>
    cases r1
    rw[a7,<- ih _ r2]
 subst el
 let p:Nat->Int×Int:=fun i=>(L[i]?.map (·.2)).getD (0,0)
 refine XG (lt:=fun i j=>HT.lexLt [(p i).1,(p i).2] [(p j).1,(p j).2]) (I.ok.hd hc) hl.isList (by simpa using some_) (fun i j u v s' Q' E' kept hu' hv' fin=>?_) fun v hp tk hv kp=>?_
 ·obtain⟨x,hx,ex⟩:∃x,L[i]?=some x/\u=.ref x.1:=by
   have hu':(L.map fun x=>bE x.1).toArray[i]?=some u:=hu'
   rw[yZ,aX] at hu'
   cases e:L[i]? with
   | none=>rw[e] at hu';cases hu'
   | some x=>rw[e] at hu';exact⟨x,rfl,(bQ hu').symm⟩
  obtain⟨y,hy,ey⟩:∃y,L[j]?=some y/\v=.ref y.1:=by
   have hv':(L.map fun x=>bE x.1).toArray[j]?=some v:=hv'
   rw[yZ,aX] at hv'
   cases e:L[j]? with
   | none=>rw[e] at hv';cases hv'
   | some x=>rw[e] at hv';exact⟨x,rfl,(bQ hv').symm⟩
  subst ex ey
  have px:p i=x.2:=by show (L[i]?.map (·.2)).getD (0,0)=_;rw[hx];rfl
  have py:p j=y.2:=by show (L[j]?.map (·.2)).getD (0,0)=_;rw[hy];rfl
  have fin:Q' (j7 (HT.lexLt [(p i).1,(p i).2] [(p j).1,(p j).2])) s':=fin
  rw[px,py] at fin
  obtain⟨_,i1,r1,o1,ho1,hc1,n1,hd1⟩:=I.fw x.1 _ (tL x (aN hx))
  obtain⟨_,i2,r2,o2,ho2,hc2,n2,hd2⟩:=I.fw y.1 _ (tL y (aN hy))
  exact HT.GP (ns:=[x.2.1,x.2.2]) (ms:=[y.2.1,y.2.2]) ⟨o1,kept _ _ ho1,hc1,n1,hd1⟩ ⟨o2,kept _ _ ho2,hc2,n2,hd2⟩ (intsAre_of r1) (intsAre_of r2) hu fin
 ·have len:(L.map fun x=>bE x.1).toArray.size=L.length:=by simp
  rw[len,yZ,aX] at hv
  generalize eb:tq (fun i j=>HT.lexLt [(p i).1,(p i).2] [(p j).1,(p j).2]) (L.length-1)=b at hv
  cases e:L[b]? with
  | none=>rw[e] at hv;cases hv
  | some x=>
   rw[e] at hv
   have ev:v=.ref x.1:=(bQ hv).symm
   subst ev
   refine⟨.ref x.1,H,I.kept kp,rfl,q x (aN e) fun y hy=>?_⟩
   obtain⟨j,hj⟩:=dG hy
   have lj:=(ax.mp hj).1
   have z:=Om p (L.length-1) j (by omega)
   rw[eb] at z
   have px:p b=x.2:=by show (L[b]?.map (·.2)).getD (0,0)=_;rw[e];rfl
   have py:p j=y.2:=by show (L[j]?.map (·.2)).getD (0,0)=_;rw[hj];rfl
   rw[px,py] at z
   exact z
def LH (a:af) (n:Nat):HO:=.ext fun hp=>∃t u v,IsRange hp a 0 (n:Int) 1 t u v
section
variable {X:Cx}
theorem Tf:qB X (.type "range") (fun xs H Q=>∃n:Nat,xs=[.int n]/\∀a,H a=none->Q (.ref a) (upd H a (LH a n))):=by
 intro pins s σ H xs us Q I r h
 obtain⟨n,rfl,q⟩:=h
 cases r with
 | cons r rr=>
  cases rr
  obtain⟨t,rfl⟩:=r
  refine call_range_1 ?_
  have nw:=YW s.heap 0 (n:Int) 1 s.toks t (s.toks+1)
  have new:gG X.prog X.w (upd H s.heap.objs.size (LH s.heap.objs.size n)) (s.heap.push { cls:=.type "range",data:=.fields #[.int 0 s.toks,.int (n:Int) t,.int 1 (s.toks+1)] }) s.heap.objs.size (LH s.heap.objs.size n):=by
   refine (show _/\_/\_ from ⟨⟨_,_,_,nw⟩,⟨_,nw⟩,fun h1 h2 z kk=>?_⟩)
   obtain⟨t1,t2,t3,z⟩:=z
   exact⟨t1,t2,t3,kk _ z⟩
  exact⟨.ref s.heap.objs.size,_,I.laid (t':=s.toks+1+1) (fun b o e=>aD _ e) (aC _) new,rfl,q _ (I.fw.fresh (aC _))⟩
theorem V3 (hc:X.calm=true):qB X (.type "list") (fun xs H Q=>∃a n,xs=[.ref a]/\H a=some (LH a n)/\n<=1000000/\∀p,H p=none->Q (.ref p) (upd H p (.lst ((be n).map fun i:Nat=>V.int i)))):=by
 intro pins s σ H xs us Q I r h
 obtain⟨a,n,rfl,hr,hE,q⟩:=h
 rw[dF.MN r]
 obtain⟨⟨t,u,v,ir⟩,_⟩:=I.fw a _ hr
 have sz:Ex 0 (n:Int) 1=(n:Nat):=by rw[rangeSize_one];split <;> omega
 refine call_list_range (I.ok.hd hc) ir (small_one (by omega) (by omega) (by omega) (by omega)) sz (by omega) fun hp tk acc c kept at_ its=>?_
 have sl:ao=16777216:=bI
 have vals:dF ((be n).map fun i:Nat=>V.int i) acc.toList:=by
  obtain⟨n1,n2⟩:=its
  have key:∀(l:List ai) (lo:Nat),(∀j v,l[j]?=some v->∃t,v=l6 ((lo:Int)+(j:Nat)) t)->dF ((R9 lo l.length).map fun i:Nat=>V.int i) l:=fun l=>by
   induction l with
   | nil=>intro lo _;exact .nil
   | cons x l ih=>
    intro lo hh
    rw[aG,List.range'_succ,a7]
    refine .cons ?_ (ih (lo+1) fun j v hv=>?_)
    ·obtain⟨t,ht⟩:=hh 0 x rfl
     exact⟨t,by rw[ht];simp⟩
    ·obtain⟨t,ht⟩:=hh (j+1) v (by simpa using hv)
     exact⟨t,by rw[ht];congr 1;omega⟩
  have:=key acc.toList 0 fun j v hv=>by
   obtain⟨t,ht⟩:=n2 j v (by simpa using hv)
   exact⟨t,by rw[ht];congr 1;omega⟩
  rw[iG,n1,<- List.range_eq_range'] at this
  exact this
 have new:gG X.prog X.w (upd H s.heap.objs.size (.lst ((be n).map fun i:Nat=>V.int i))) hp s.heap.objs.size (.lst ((be n).map fun i:Nat=>V.int i)):=
  ⟨by rw[aa,cB];omega,acc.toList,c,vals,by rw[at_]⟩
 exact⟨.ref s.heap.objs.size,_,I.laid (t':=tk) kept (aC _) new,rfl,q _ (I.fw.fresh (aC _))⟩
def aaM (t:TE):TE:=fun σ H Q=>t σ H fun x H1=>∃d u,H1 d=some u/\Mut (some u)/\∀od,Q x (upd H1 d (.zc od u))
theorem Xw {e:Expr} {t:TE} (h:PE X e t):PE X e (aaM t):=by
 intro pins s σ H Q I hw
 refine fU (h pins s σ H _ I hw) fun v s1 ⟨x,H1,I1,r,d,u,hd,mu,q⟩=>?_
 obtain⟨od,I2⟩:=I1.lock hd mu
 exact⟨x,_,I2,r,q od⟩
end
section
variable {K:ae} {a b:af} {xs ys:List V} {g:TG} {tb:TS} {D:Ends} {σ:St} {H:Hp}
theorem S9 (Pv:Nat->St->Hp->Prop) (h0:Pv 0 σ H) (hl:∀i σ H,i<=xs.length->Pv i σ H->cP K H a xs)
  (hs:∀i x σ H T,xs[i]?=some x->Pv i σ H->H T=none->g (.ref T) σ (upd H T (.tup [.int ((i:Nat)+1),x])) fun σ2 H2=>tb { D with nx:=Pv (i+1),ct:=Pv (i+1),bk:=D.nx } σ2 H2) (hd:∀σ H,Pv xs.length σ H->D.nx σ H) :
  ∃W:Nat->Nat->St->Hp->Prop,(∃m,W 0 m σ H)/\∀i m σ H,W i m σ H ->
   ((Wl K a).stop i H/\D.nx σ H)\/((Wl K a).go i H/\∃N:St->Hp->Prop,(∀σ' H',N σ' H'->∃m',m'<m/\W (i+1) m' σ' H')/\∀x H',(Wl K a).Sf i H x H'->g x σ H' fun σ2 H2=>tb { D with nx:=N,ct:=N,bk:=D.nx } σ2 H2):=by
 refine⟨fun i m σ H=>m=xs.length-i/\i<=xs.length/\Pv i σ H,⟨xs.length,by simp,cu _,h0⟩,?_⟩
 rintro i m σ H ⟨rfl,hi,p⟩
 have q:=hl i σ H hi p
 by_cases lt:i<xs.length
 ·refine .inr ⟨⟨xs,xs[i],q,by simp[lt]⟩,Pv (i+1),fun σ' H' p'=>⟨xs.length-(i+1),by omega,rfl,lt,p'⟩,fun x H' y=>?_⟩
  obtain⟨T,z,rfl,hT,rfl,y⟩:=y
  exact hs i z σ _ T (y xs q) p hT
 ·have e:i=xs.length:=by omega
  subst e
  exact .inl ⟨⟨xs,q,aC _⟩,hd σ H p⟩
theorem X0 (Pv:Nat->St->Hp->Prop) (h0:Pv 0 σ H) (el:xs.length=ys.length) (hl:∀i σ H,i<=xs.length->Pv i σ H->cP K H a xs/\cP K H b ys)
  (hs:∀i x y σ H T,xs[i]?=some x->ys[i]?=some y->Pv i σ H->H T=none->g (.ref T) σ (upd H T (.tup [x,y])) fun σ2 H2=>tb { D with nx:=Pv (i+1),ct:=Pv (i+1),bk:=D.nx } σ2 H2) (hd:∀σ H,Pv xs.length σ H->D.nx σ H) :
  ∃W:Nat->Nat->St->Hp->Prop,(∃m,W 0 m σ H)/\∀i m σ H,W i m σ H ->
   ((Itz K a b).stop i H/\D.nx σ H)\/((Itz K a b).go i H/\∃N:St->Hp->Prop,(∀σ' H',N σ' H'->∃m',m'<m/\W (i+1) m' σ' H')/\∀x H',(Itz K a b).Sf i H x H'->g x σ H' fun σ2 H2=>tb { D with nx:=N,ct:=N,bk:=D.nx } σ2 H2):=by
 refine⟨fun i m σ H=>m=xs.length-i/\i<=xs.length/\Pv i σ H,⟨xs.length,by simp,cu _,h0⟩,?_⟩
 rintro i m σ H ⟨rfl,hi,p⟩
 obtain⟨q1,q2⟩:=hl i σ H hi p
 by_cases lt:i<xs.length
 ·refine .inr ⟨⟨xs,ys,xs[i],ys[i]'(by omega),q1,q2,by simp[lt],by simp⟩,Pv (i+1),fun σ' H' p'=>⟨xs.length-(i+1),by omega,rfl,lt,p'⟩,fun x H' y=>?_⟩
  obtain⟨T,z1,z2,rfl,hT,rfl,y1,y2⟩:=y
  exact hs i z1 z2 σ _ T (y1 xs q1) (y2 ys q2) p hT
 ·have e:i=xs.length:=by omega
  subst e
  exact .inl ⟨⟨xs,ys,q1,q2,.inl (aC _)⟩,hd σ H p⟩
theorem S8 {d:af} {o:Obj} {kvs:List (List Key×V)} (Pv:Nat->St->Hp->Prop) (h0:Pv 0 σ H) (hl:∀i σ H,i<=kvs.length->Pv i σ H->H d=some (.zc o (.dT kvs)))
  (hs:∀i k v t σ H,kvs[i]?=some (k,v)->Pv i σ H->H t=some (.tup (k.map kV))->g (.ref t) σ H fun σ2 H2=>tb { D with nx:=Pv (i+1),ct:=Pv (i+1),bk:=D.nx } σ2 H2) (hd:∀σ H,Pv kvs.length σ H->D.nx σ H) :
  ∃W:Nat->Nat->St->Hp->Prop,(∃m,W 0 m σ H)/\∀i m σ H,W i m σ H ->
   ((Wk d o kvs).stop i H/\D.nx σ H)\/((Wk d o kvs).go i H/\∃N:St->Hp->Prop,(∀σ' H',N σ' H'->∃m',m'<m/\W (i+1) m' σ' H')/\∀x H',(Wk d o kvs).Sf i H x H'->g x σ H' fun σ2 H2=>tb { D with nx:=N,ct:=N,bk:=D.nx } σ2 H2):=by
 refine⟨fun i m σ H=>m=kvs.length-i/\i<=kvs.length/\Pv i σ H,⟨kvs.length,by simp,cu _,h0⟩,?_⟩
 rintro i m σ H ⟨rfl,hi,p⟩
 have q:=hl i σ H hi p
 by_cases lt:i<kvs.length
 ·refine .inr ⟨⟨q,lt⟩,Pv (i+1),fun σ' H' p'=>⟨kvs.length-(i+1),by omega,rfl,lt,p'⟩,fun x H' y=>?_⟩
  obtain⟨rfl,k,v,t,hk,rfl,ht⟩:=y
  exact hs i k v t σ _ hk p ht
 ·have e:i=kvs.length:=by omega
  subst e
  exact .inl ⟨⟨q,aC _⟩,hd σ H p⟩
end
theorem Ry {K:ae} {a:af} {xs:List V} {g:TG} {tt:TT} {te:TE} {vs:List Nat} {σ:St} {H1:Hp} {D:af} {Qd:Hp->Prop} (Pv:Nat->Hp->Prop) (h0:Pv 0 (upd H1 D (.lst []))) (hl:∀i H,i<=xs.length->Pv i H->cP K H a xs)
  (hs:∀i x H T,xs[i]?=some x->Pv i H->H T=none->g (.ref T) (wipe σ vs) (upd H T (.tup [.int (i:Nat),x])) fun σ2 H2=>wipe σ2 vs=wipe σ vs/\tt σ2 H2 fun b H3=>
   if b=true then te σ2 H3 fun y H4=>∃acc,H4 D=some (.lst acc)/\acc.length<ao/\Pv (i+1) (upd H4 D (.lst (acc++[y]))) else Pv (i+1) H3) (hd:∀H,Pv xs.length H->Qd H) :
  ∃W:Nat->Nat->Hp->Prop,(∃m,W 0 m (upd H1 D (.lst [])))/\∀i m H,W i m H ->
   ((Ite K a).stop i H/\Qd H)\/((Ite K a).go i H/\∃Nx:Hp->Prop,(∀H',Nx H'->∃m',m'<m/\W (i+1) m' H')/\∀x H',(Ite K a).Sf i H x H'->g x (wipe σ vs) H' fun σ2 H2=>wipe σ2 vs=wipe σ vs/\tt σ2 H2 fun b H3=>
    if b=true then te σ2 H3 fun y H4=>∃acc,H4 D=some (.lst acc)/\acc.length<ao/\Nx (upd H4 D (.lst (acc++[y]))) else Nx H3):=by
 refine⟨fun i m H=>m=xs.length-i/\i<=xs.length/\Pv i H,⟨xs.length,by simp,cu _,h0⟩,?_⟩
 rintro i m H ⟨rfl,hi,p⟩
 have q:=hl i H hi p
 by_cases lt:i<xs.length
 ·refine .inr ⟨⟨xs,xs[i],q,by simp[lt]⟩,Pv (i+1),fun H' p'=>⟨xs.length-(i+1),by omega,rfl,lt,p'⟩,fun x H' y=>?_⟩
  obtain⟨T,z,rfl,hT,rfl,y⟩:=y
  exact hs i z _ T (y xs q) p hT
 ·have e:i=xs.length:=by omega
  subst e
  exact .inl ⟨⟨xs,q,aC _⟩,hd H p⟩
end L2
namespace L2
open PySem PySem.Spec PyProof.Rows
def WZ (tk tv:TE):TE:=fun σ H Q=>∀p,H p=none->tk σ (upd H p (.dT [])) fun x H1=>tv σ H1 fun y H2=>H2 p=some (.dT [])/\∃(b:af) (k:List Key),x=.ref b/\H2 b=some (.tup (k.map kV))/\Q (.ref p) (upd H2 p (.dT [(k,y)]))
theorem SK {X:Cx} {pos:Pos} {k v:Expr} {tk tv:TE} (hu:X.A.units+1<pE) (hk:PE X k tk) (hv:PE X v tv):PE X (.Dict [some k] [v] pos) (WZ tk tv):=by
 intro pins s σ H Q I q
 have hn:=I.fw.fresh (aC s.heap.objs.size)
 have I1:=I.laid (a:=s.heap.objs.size) (o:=.dT []) (h':=s.heap.push { cls:=.type "dict",data:=.dict #[] }) (t':=s.toks) (fun _ _ q=>aD _ q) (aC _) (N6 s.heap I.big)
 have pl:=pairTrees_length [some k] [v] X.env pos rfl rfl
 rw[arm_eval_Dict,zip_pairTrees [some k] [v] X.env pos rfl rfl,dictDisplay_pairs _ (fun e=>by rw[e] at pl;cases pl) (by rw[pl];show 1<17;decide)]
 refine ah (FF (ah ?_))
 unfold subDict
 refine ah (wpAny_alloc (ah (iT ?_)))
 rw[if_pos (by rw[pl];show 1<=15;decide)]
 refine ah (pairTrees_cons_walk (fU (hk pins _ σ _ _ I1 (q _ hn)) fun u s1 ⟨x,H1,I2,rx,q1⟩=>fU (hv pins s1 σ H1 _ I2 q1) fun r s2 ⟨y,H2,I3,ry,q2⟩=>pairTrees_nil_walk ?_))
 obtain⟨e,b,kk,ex,eb,q3⟩:=q2
 subst ex
 cases (show u=bE b from rx)
 refine iT (ah ?_)
 rw[Ic]
 obtain⟨z,hd,xs,rel,dd⟩:=VU I3.fw e
 cases rel
 refine ah (ah (wpAny_dictSet_heap (hsz:=cu _) (Nat.lt_of_succ_lt hu) (xJ I3.fw eb) dd fun h' dd' hs=>aH ?_))
 simp only[zO]
 refine aH (aH (aH (aH ?_)))
 obtain⟨ob,es,ep,hq,h2,h3,h4,_,h5⟩:=dd'
 refine⟨.ref s.heap.objs.size,_,?_,rfl,q3⟩
 refine yS I3 (by rw[e];exact ij) hs ⟨ob,hq⟩ ⟨qK (by show 1<ao;decide),hd,_,((show KT H2 [] [] from .nil).put kk eb ry).keeps fun c ys ec=>?_,ob,es,ep,hq,h2,h3,h4,h5⟩
 rw[aQ (eD ec e (fun z=>nomatch z))]
 exact ec
end L2
local macro_rules | `(tactic| walk_at "s")=>`(tactic| exact⟨rfl,rfl,rfl,by decide +kernel,rfl,by decide +kernel,by decide +kernel⟩)
set_option hygiene false in
local macro_rules | `(tactic| exists $a,$b,"o")=>`(tactic| refine ($a).ok $b (fun vs H Q E h=>?_) (fun cdv Ar outer s H vs Q E hr h=>?_))
namespace Pb
open PySem PySem.Spec PyProof.Rows L2
def oX (K:ae) (a:af) (xs:List V):Prop:=∃(o:Obj) (its:Array ai) (n:Nat),K.lookup a=some o/\o.cls=.type "tuple"/\o.dict=none/\o.data=.seq its n/\its.size<=ao/\dF xs its.toList
def Wj (K:ae) (a:af) (rows:List (List V)):Prop:=∃as:List af,oX K a (as.map V.ref)/\Paired (fun b r=>oX K b r) as rows
theorem oX.sq {K:ae} {a:af} {xs:List V} (h:oX K a xs) (H:Hp):iC K H a xs:=by
 obtain⟨o,its,n,h1,h2,_,h3,h4,h5⟩:=h
 exact .inr ⟨o,its,n,h1,h2,h3,h4,h5⟩
theorem oX.ty {K:ae} {a:af} {xs:List V} (h:oX K a xs) (H:Hp):tyV K "tuple" (.ref a) H:=by
 obtain⟨o,its,n,h1,h2,h3,_⟩:=h
 exact .inr (.inl ⟨rfl,o,h1,h2,h3⟩)
def top (i:Nat):c_:=aal.main.body.getD i (.Pass ⟨0,0,0,0⟩)
abbrev zR:c_:=top 11
abbrev z_:List Str:=["byte"]
abbrev Px:List Str:=["byte"]
theorem Pd:bH Px z_ (aP zR):=by walk_at "s"
abbrev tR:c_:=top 12
abbrev zZ:List Str:=["row"]
abbrev GB:List Str:=["row","byte"]
theorem zY:bH GB zZ (aP tR):=by walk_at "s"
abbrev qP:c_:=top 13
abbrev xb:List Str:=["text"]
abbrev D8:List Str:=["text","sign"]
theorem wH:bH D8 xb (aP qP):=by walk_at "s"
abbrev zU:c_:=top 14
abbrev Ae:List Str:=["text"]
abbrev PB:List Str:=["text"]
theorem Pf:bH PB Ae (aP zU):=by walk_at "s"
abbrev qN:c_:=top 15
abbrev wN:List Str:=["line"]
abbrev D6:List Str:=["line","word"]
theorem wC:bH D6 wN (aP qN):=by walk_at "s"
abbrev qO:c_:=top 16
abbrev wZ:List Str:=["word","least","most"]
abbrev D7:List Str:=["word","least","most","sign"]
theorem wG:bH D7 wZ (aP qO):=by walk_at "s"
abbrev wx:c_:=top 17
abbrev w_:List Str:=["word","least","most"]
abbrev Nu:List Str:=["word","least","most"]
theorem MI:bH Nu w_ (aP wx):=by walk_at "s"
abbrev wu:c_:=top 18
abbrev w9:List Str:=["word"]
abbrev Nt:List Str:=["word"]
theorem MH:bH Nt w9 (aP wu):=by walk_at "s"
abbrev zS:c_:=top 19
abbrev Ab:List Str:=["word"]
abbrev Py:List Str:=["word"]
theorem Pe:bH Py Ab (aP zS):=by walk_at "s"
abbrev wq:c_:=top 20
abbrev w6:List Str:=["word"]
abbrev Nq:List Str:=["word"]
theorem MF:bH Nq w6 (aP wq):=by walk_at "s"
abbrev wt:c_:=top 21
abbrev w8:List Str:=["word"]
abbrev Nr:List Str:=["word"]
theorem MG:bH Nr w8 (aP wt):=by walk_at "s"
abbrev oC:c_:=inClass (top 28) 0
abbrev oM:List Str:=["self","kind","name","short","shores"]
abbrev EX:List Str:=["self","kind","name","short","shores"]
theorem EB:bH EX oM (aP oC):=by walk_at "s"
abbrev wz:c_:=inClass (top 29) 0
abbrev xc:List Str:=["self","power","fleet","place"]
abbrev Nw:List Str:=["self","power","fleet","place"]
theorem MJ:bH Nw xc (aP wz):=by walk_at "s"
abbrev t4:c_:=inClass (top 30) 0
abbrev ug:List Str:=["self"]
abbrev KS:List Str:=["self"]
theorem Kn:bH KS ug (aP t4):=by walk_at "s"
abbrev t5:c_:=inClass (top 30) 1
abbrev uh:List Str:=["self","first","second"]
abbrev KU:List Str:=["self","first","second"]
theorem Ko:bH KU uh (aP t5):=by walk_at "s"
abbrev tZ:c_:=inClass (top 30) 2
abbrev uf:List Str:=["self","first","second"]
abbrev KR:List Str:=["self","first","second"]
theorem Km:bH KR uf (aP tZ):=by walk_at "s"
abbrev mY:c_:=inClass (top 30) 3
abbrev ng:List Str:=["self","place","other"]
abbrev CV:List Str:=["self","place","other","others"]
theorem sN:bH CV ng (aP mY):=by walk_at "s"
abbrev oE:c_:=inClass (top 30) 4
abbrev oN:List Str:=["self","place"]
abbrev EY:List Str:=["self","place"]
theorem EC:bH EY oN (aP oE):=by walk_at "s"
abbrev pS:c_:=inClass (top 30) 5
abbrev p_:List Str:=["self"]
abbrev GI:List Str:=["self","found","first","second"]
theorem me:bH GI p_ (aP pS):=by walk_at "s"
abbrev t6:c_:=inClass (top 31) 0
abbrev ui:List Str:=["self"]
abbrev KW:List Str:=["self"]
theorem Kp:bH KW ui (aP t6):=by walk_at "s"
abbrev mZ:c_:=inClass (top 31) 1
abbrev nh:List Str:=["self","place"]
abbrev CW:List Str:=["self","place"]
theorem CH:bH CW nh (aP mZ):=by walk_at "s"
abbrev jf:c_:=inClass (top 31) 2
abbrev jh:List Str:=["self","word"]
abbrev vJ:List Str:=["self","word"]
theorem vF:bH vJ jh (aP jf):=by walk_at "s"
abbrev ka:c_:=inClass (top 31) 3
abbrev kh:List Str:=["self","word"]
abbrev za:List Str:=["self","word"]
theorem y9:bH za kh (aP ka):=by walk_at "s"
abbrev jz:c_:=inClass (top 31) 4
abbrev jB:List Str:=["self","word"]
abbrev xy:List Str:=["self","word","cut","number","shores"]
theorem oa:bH xy jB (aP jz):=by walk_at "s"
abbrev jm:c_:=inClass (top 31) 5
abbrev mx:List Str:=["self","number"]
abbrev qW:List Str:=["self","number","unit"]
theorem mf:bH qW mx (aP jm):=by walk_at "s"
abbrev je:c_:=inClass (top 31) 6
abbrev jg:List Str:=["self","province"]
abbrev vI:List Str:=["self","province"]
theorem vE:bH vI jg (aP je):=by walk_at "s"
abbrev jy:c_:=inClass (top 31) 7
abbrev jA:List Str:=["self","number","word"]
abbrev xx:List Str:=["self","number","word"]
theorem wM:bH xx jA (aP jy):=by walk_at "s"
abbrev oF:c_:=inClass (top 31) 8
abbrev oO:List Str:=["self","number","name","short"]
abbrev EZ:List Str:=["self","number","name","short","province"]
theorem vb:bH EZ oO (aP oF):=by walk_at "s"
abbrev l_:c_:=inClass (top 31) 9
abbrev mw:List Str:=["self","links","first","second"]
abbrev BS:List Str:=["self","links","first","second"]
theorem BG:bH BS mw (aP l_):=by walk_at "s"
abbrev wc:c_:=top 33
abbrev wO:List Str:=["board","place"]
abbrev Ni:List Str:=["board","place"]
theorem MA:bH Ni wO (aP wc):=by walk_at "s"
abbrev rm:c_:=top 34
abbrev rC:List Str:=["board","place"]
abbrev Iy:List Str:=["board","place","province"]
theorem zt:bH Iy rC (aP rm):=by walk_at "s"
abbrev l8:c_:=top 35
abbrev mj:List Str:=["province"]
abbrev BR:List Str:=["province"]
theorem BE:bH BR mj (aP l8):=by walk_at "s"
abbrev ox:c_:=top 36
abbrev oK:List Str:=["board","province"]
abbrev ES:List Str:=["board","province","words"]
theorem u6:bH ES oK (aP ox):=by walk_at "s"
abbrev rk:c_:=top 37
abbrev rA:List Str:=["board","unit"]
abbrev Iv:List Str:=["board","unit","power"]
theorem zq:bH Iv rA (aP rk):=by walk_at "s"
abbrev gF:c_:=top 38
abbrev pZ:List Str:=["board"]
abbrev jF:List Str:=["board","lines","name","province","first","second","unit"]
theorem wI:bH jF pZ (aP gF):=by walk_at "s"
abbrev tV:c_:=top 39
abbrev Aa:List Str:=["board"]
abbrev GC:List Str:=["board","words"]
theorem F7:bH GC Aa (aP tV):=by walk_at "s"
abbrev nR:c_:=top 52
abbrev rD:List Str:=["words"]
abbrev zy:List Str:=["words","word"]
theorem zu:bH zy rD (aP nR):=by walk_at "s"
abbrev j':c_:=top 53
abbrev kg:List Str:=["words"]
abbrev y':List Str:=["words"]
theorem y8:bH y' kg (aP j'):=by walk_at "s"
abbrev wy:c_:=top 54
abbrev xa:List Str:=["words"]
abbrev Nv:List Str:=["words","first"]
theorem DU:bH Nv xa (aP wy):=by walk_at "s"
abbrev tU:c_:=top 55
abbrev t_:List Str:=["board","name"]
abbrev KN:List Str:=["board","name"]
theorem Kj:bH KN t_ (aP tU):=by walk_at "s"
abbrev ot:c_:=top 56
abbrev oI:List Str:=["board","words"]
abbrev EO:List Str:=["board","words","name","short"]
theorem u5:bH EO oI (aP ot):=by walk_at "s"
abbrev wj:c_:=top 57
abbrev wU:List Str:=["board","links","first","second","barred"]
abbrev Nl:List Str:=["board","links","first","second","barred"]
theorem MC:bH Nl wU (aP wj):=by walk_at "s"
abbrev wm:c_:=top 58
abbrev wX:List Str:=["board","words"]
abbrev Nn:List Str:=["board","words"]
theorem MD:bH Nn wX (aP wm):=by walk_at "s"
abbrev wg:c_:=top 59
abbrev wR:List Str:=["board","words"]
abbrev Nk:List Str:=["board","words"]
theorem MB:bH Nk wR (aP wg):=by walk_at "s"
abbrev rl:c_:=top 60
abbrev rB:List Str:=["board","words"]
abbrev Iw:List Str:=["board","words","place","home","province"]
theorem zr:bH Iw rB (aP rl):=by walk_at "s"
abbrev tT:c_:=top 61
abbrev t9:List Str:=["board","words"]
abbrev KL:List Str:=["board","words","fleet","power","place"]
theorem BD:bH KL t9 (aP tT):=by walk_at "s"
abbrev tS:c_:=top 62
abbrev t8:List Str:=["board","words"]
abbrev KJ:List Str:=["board","words","first"]
theorem BC:bH KJ t8 (aP tS):=by walk_at "s"
abbrev wk:c_:=top 63
abbrev wW:List Str:=["board","line"]
abbrev Nm:List Str:=["board","line","words"]
theorem DT:bH Nm wW (aP wk):=by walk_at "s"
abbrev we:c_:=top 64
abbrev wQ:List Str:=["board","text"]
abbrev Nj:List Str:=["board","text","number","line","why"]
theorem DS:bH Nj wQ (aP we):=by walk_at "s"
abbrev tW:c_:=top 69
abbrev ub:List Str:=["board","how"]
abbrev KO:List Str:=["board","how"]
theorem Kk:bH KO ub (aP tW):=by walk_at "s"
abbrev wo:c_:=top 70
abbrev wY:List Str:=["board","how","number","shore"]
abbrev Np:List Str:=["board","how","number","shore"]
theorem ME:bH Np wY (aP wo):=by walk_at "s"
abbrev tX:c_:=top 71
abbrev ud:List Str:=["links","start"]
abbrev KP:List Str:=["links","start","far","reached","at","place","other"]
theorem BF:bH KP ud (aP tX):=by walk_at "s"
abbrev kX:c_:=top 72
abbrev oH:List Str:=["links","start","goal"]
abbrev vd:List Str:=["links","start","goal","far","place","way","left","other"]
theorem uZ:bH vd oH (aP kX):=by walk_at "s"
abbrev jl:c_:=top 73
abbrev mn:List Str:=["board"]
abbrev qV:List Str:=["board","least","number","place"]
theorem qQ:bH qV mn (aP jl):=by walk_at "s"
abbrev tY:c_:=top 75
abbrev ue:List Str:=["province","other"]
abbrev KQ:List Str:=["province","other"]
theorem Kl:bH KQ ue (aP tY):=by walk_at "s"
abbrev pO:c_:=top 76
abbrev pX:List Str:=["links","numbers"]
abbrev GD:List Str:=["links","numbers","first","second"]
theorem wD:bH GD pX (aP pO):=by walk_at "s"
abbrev pP:c_:=top 77
abbrev pY:List Str:=["board","numbers"]
abbrev GF:List Str:=["board","numbers","province","number"]
theorem wF:bH GF pY (aP pP):=by walk_at "s"
abbrev wA:c_:=inClass (top 86) 0
abbrev xf:List Str:=["self"]
abbrev Ny:List Str:=["self"]
theorem MK:bH Ny xf (aP wA):=by walk_at "s"
abbrev wB:c_:=inClass (top 87) 0
abbrev xg:List Str:=["self","calls","begin"]
abbrev Nz:List Str:=["self","calls","begin","form","which","size"]
theorem DV:bH Nz xg (aP wB):=by walk_at "s"
abbrev ou:c_:=top 88
abbrev oJ:List Str:=["number","things"]
abbrev ER:List Str:=["number","things"]
theorem Ez:bH ER oJ (aP ou):=by walk_at "s"
abbrev pQ:c_:=top 89
abbrev mo:List Str:=["desk","call"]
abbrev GG:List Str:=["desk","call","board","wrong"]
theorem wJ:bH GG mo (aP pQ):=by walk_at "s"
abbrev oy:c_:=top 90
abbrev kZ:List Str:=["desk","call"]
abbrev ET:List Str:=["desk","call"]
theorem EA:bH ET kZ (aP oy):=by walk_at "s"
abbrev l9:c_:=top 91
abbrev mr:List Str:=["desk","call"]
abbrev xw:List Str:=["desk","call","word","board","found","i","province"]
theorem wL:bH xw mr (aP l9):=by walk_at "s"
abbrev oA:c_:=top 92
abbrev k6:List Str:=["desk","call"]
abbrev EV:List Str:=["desk","call","place"]
theorem u9:bH EV k6 (aP oA):=by walk_at "s"
abbrev lC:c_:=top 93
abbrev iQ:List Str:=["desk","call"]
abbrev Av:List Str:=["desk","call","number","province","answer","word"]
theorem pW:bH Av iQ (aP lC):=by walk_at "s"
abbrev oz:c_:=top 94
abbrev k5:List Str:=["desk","call"]
abbrev EU:List Str:=["desk","call","number"]
theorem u7:bH EU k5 (aP oz):=by walk_at "s"
abbrev mV:c_:=top 95
abbrev m_:List Str:=["how","places"]
abbrev CS:List Str:=["how","places","answer","place"]
theorem sG:bH CS m_ (aP mV):=by walk_at "s"
abbrev pR:c_:=top 96
abbrev mq:List Str:=["desk","call"]
abbrev GH:List Str:=["desk","call","how","place"]
theorem wK:bH GH mq (aP pR):=by walk_at "s"
abbrev zT:c_:=top 97
abbrev Ac:List Str:=["desk","call"]
abbrev Pz:List Str:=["desk","call","how","start","goal","place"]
theorem F8:bH Pz Ac (aP zT):=by walk_at "s"
abbrev rq:c_:=top 98
abbrev nU:List Str:=["desk","call"]
abbrev IA:List Str:=["desk","call","ends","far"]
theorem zx:bH IA nU (aP rq):=by walk_at "s"
abbrev rp:c_:=top 99
abbrev nT:List Str:=["desk","call"]
abbrev Iz:List Str:=["desk","call","ends","how","places"]
theorem zw:bH Iz nT (aP rp):=by walk_at "s"
abbrev iO:c_:=top 100
abbrev iP:List Str:=["desk","call"]
abbrev qf:List Str:=["desk","call","numbers","number"]
theorem pV:bH qf iP (aP iO):=by walk_at "s"
abbrev mX:c_:=top 101
abbrev jT:List Str:=["desk","call"]
abbrev CU:List Str:=["desk","call","board","number","name","short"]
theorem sJ:bH CU jT (aP mX):=by walk_at "s"
abbrev mW:c_:=top 102
abbrev jS:List Str:=["desk","call"]
abbrev CT:List Str:=["desk","call","answer","unit"]
theorem sI:bH CT jS (aP mW):=by walk_at "s"
abbrev kY:c_:=top 103
abbrev k8:List Str:=["desk","call"]
abbrev ve:List Str:=["desk","call","power","found","i","province"]
theorem va:bH ve k8 (aP kY):=by walk_at "s"
abbrev oB:c_:=top 104
abbrev k7:List Str:=["desk","call"]
abbrev EW:List Str:=["desk","call","least"]
theorem u_:bH EW k7 (aP oB):=by walk_at "s"
abbrev jR:c_:=top 105
abbrev jU:List Str:=["desk","call"]
abbrev sV:List Str:=["desk","call","board","centres","province","links"]
theorem sM:bH sV jU (aP jR):=by walk_at "s"
abbrev zW:c_:=top 107
abbrev Af:List Str:=["calls"]
abbrev PD:List Str:=["calls","desk","given","at","call","answer_call","answer"]
theorem F9:bH PD Af (aP zW):=by walk_at "s"
set_option genInjectivity false in
set_option genSizeOf false in
structure Ad where
 Df:af
 Dq:aZ
 De:af
 Dn:aZ
 AV:af
 Bb:aZ
 Dj:af
 Du:aZ
 AF:af
 AZ:aZ
 AN:af
 A7:aZ
 AS:af
 A':aZ
 AR:af
 A_:aZ
 Dh:af
 Ds:aZ
 AO:af
 A8:aZ
 AQ:af
 A9:aZ
 qo:af
 qx:aZ
 AW:af
 Bc:aZ
 xX:af
 yg:aZ
 xY:af
 yh:aZ
 xW:af
 yf:aZ
 oR:af
 oU:aZ
 qp:af
 qy:aZ
 rQ:af
 rW:aZ
 xZ:af
 yi:aZ
 oS:af
 oV:aZ
 jJ:af
 jL:aZ
 lK:af
 lN:aZ
 ko:af
 ku:aZ
 nB:af
 nL:aZ
 jI:af
 jK:aZ
 kj:af
 kr:aZ
 qr:af
 qz:aZ
 nz:af
 nJ:aZ
 AG:af
 A0:aZ
 uJ:af
 uP:aZ
 nv:af
 nE:aZ
 qm:af
 qw:aZ
 uH:af
 uM:aZ
 rP:af
 rV:aZ
 Dg:af
 Dr:aZ
 uK:af
 uQ:aZ
 lJ:af
 lM:aZ
 AU:af
 Ba:aZ
 xS:af
 yb:aZ
 qk:af
 qu:aZ
 AJ:af
 A3:aZ
 AL:af
 A5:aZ
 AI:af
 A2:aZ
 uI:af
 uO:aZ
 xR:af
 ya:aZ
 xQ:af
 x':aZ
 AK:af
 A4:aZ
 AH:af
 A1:aZ
 xT:af
 yc:aZ
 AM:af
 A6:aZ
 xU:af
 yd:aZ
 qj:af
 qt:aZ
 ny:af
 nI:aZ
 xV:af
 ye:aZ
 rN:af
 rS:aZ
 rO:af
 rT:aZ
 AX:af
 Be:aZ
 AY:af
 Bf:aZ
 ql:af
 qv:aZ
 i_:af
 nW:aZ
 iq:af
 mC:aZ
 ja:af
 nY:aZ
 iw:af
 mE:aZ
 gk:af
 jr:aZ
 iu:af
 mD:aZ
 oQ:af
 oT:aZ
 i':af
 nX:aZ
 Di:af
 Dt:aZ
 jY:af
 pd:aZ
 jX:af
 o_:aZ
 gi:af
 jq:aZ
 gO:af
 lr:aZ
 gN:af
 lp:aZ
 iz:af
 mG:aZ
 iy:af
 mF:aZ
 gP:af
 lA:aZ
 Dk:af
 yT:aZ
 aO:af
 gr:af
 eF:af
 aK:af
 d_:af
 cK:af
 jt:af
 LG:af
 Wd:af
 DD:af
structure Tx (K:ae) (mg:Str->Option ai) (A:Ad):Prop where
 sign_of:gL K "sign_of" "sign_of" zR A.Df A.Dq
 Tj:Binds K A.Dq z_ []
 S3:mg "sign_of"=some (.ref A.Df)
 yF:gL K "text_of" "text_of" tR A.De A.Dn
 s_:Binds K A.Dn zZ []
 sX:mg "text_of"=some (.ref A.De)
 Oh:gL K "bytes_of" "bytes_of" qP A.AV A.Bb
 Qy:Binds K A.Bb xb []
 P':mg "bytes_of"=some (.ref A.AV)
 Fz:gL K "counted" "counted" zU A.Dj A.Du
 DA:Binds K A.Du Ae []
 C':mg "counted"=some (.ref A.Dj)
 words_of:gL K "words_of" "words_of" qN A.AF A.AZ
 Qq:Binds K A.AZ wN []
 P2:mg "words_of"=some (.ref A.AF)
 G1:gL K "is_small" "is_small" qO A.AN A.A7
 Hy:Binds K A.A7 wZ []
 Hc:mg "is_small"=some (.ref A.AN)
 BX:gL K "is_great" "is_great" wx A.AS A.A'
 Bj:Binds K A.A' w_ []
 AD:mg "is_great"=some (.ref A.AS)
 NQ:gL K "is_power" "is_power" wu A.AR A.A_
 Qw:Binds K A.A_ w9 []
 P9:mg "is_power"=some (.ref A.AR)
 K8:gL K "is_name" "is_name" zS A.Dh A.Ds
 JY:Binds K A.Ds Ab []
 JK:mg "is_name"=some (.ref A.Dh)
 G2:gL K "is_short" "is_short" wq A.AO A.A8
 Hz:Binds K A.A8 w6 []
 Hd:mg "is_short"=some (.ref A.AO)
 NP:gL K "is_shore" "is_shore" wt A.AQ A.A9
 Qv:Binds K A.A9 w8 []
 P8:mg "is_shore"=some (.ref A.AQ)
 LI:gL K "__init__" "Province.__init__" oC A.qo A.qx
 HG:Binds K A.qx oM []
 We:gL K "__init__" "Unit.__init__" wz A.AW A.Bc
 Qz:Binds K A.Bc xc []
 Tv:gL K "__init__" "Links.__init__" t4 A.xX A.yg
 yo:Binds K A.yg ug []
 Tw:gL K "has" "Links.has" t5 A.xY A.yh
 yp:Binds K A.yh uh []
 xC:uT K A.eF "has" A.xY
 Tu:gL K "put" "Links.put" tZ A.xW A.yf
 Eh:Binds K A.yf uf []
 D9:uT K A.eF "put" A.xW
 IP:gL K "put_end" "Links.put_end" mY A.oR A.oU
 vi:Binds K A.oU ng []
 vf:uT K A.eF "put_end" A.oR
 LJ:gL K "beside" "Links.beside" oE A.qp A.qy
 mH:Binds K A.qy oN []
 mB:uT K A.eF "beside" A.qp
 OB:gL K "pairs" "Links.pairs" pS A.rQ A.rW
 rY:Binds K A.rW p_ []
 rL:uT K A.eF "pairs" A.rQ
 Tz:gL K "__init__" "Board.__init__" t6 A.xZ A.yi
 Ei:Binds K A.yi ui []
 IQ:gL K "kind_at" "Board.kind_at" mZ A.oS A.oV
 oW:Binds K A.oV nh []
 oP:uT K A.aK "kind_at" A.oS
 Bl:gL K "power_called" "Board.power_called" jf A.jJ A.jL
 oh:Binds K A.jL jh []
 og:uT K A.aK "power_called" A.jJ
 DE:gL K "army_place" "Board.army_place" ka A.lK A.lN
 iS:Binds K A.lN kh []
 iR:uT K A.aK "army_place" A.lK
 Cp:gL K "fleet_place" "Board.fleet_place" jz A.ko A.ku
 ig:Binds K A.ku jB []
 ie:uT K A.aK "fleet_place" A.ko
 HR:gL K "has_unit" "Board.has_unit" jm A.nB A.nL
 DC:Binds K A.nL mx []
 C1:uT K A.aK "has_unit" A.nB
 Bk:gL K "put_province" "Board.put_province" je A.jI A.jK
 yq:Binds K A.jK jg []
 xD:uT K A.aK "put_province" A.jI
 Co:gL K "is_free_for" "Board.is_free_for" jy A.kj A.kr
 o6:Binds K A.kr jA []
 o4:uT K A.aK "is_free_for" A.kj
 LL:gL K "rename" "Board.rename" oF A.qr A.qz
 HH:Binds K A.qz oO []
 GO:uT K A.aK "rename" A.qr
 HQ:gL K "put_link" "Board.put_link" l_ A.nz A.nJ
 DB:Binds K A.nJ mw []
 C0:uT K A.aK "put_link" A.nz
 BB:gL K "short_of" "short_of" wc A.AG A.A0
 Bg:Binds K A.A0 wO []
 AA:mg "short_of"=some (.ref A.AG)
 uo:gL K "place_word" "place_word" rm A.uJ A.uP
 uR:Binds K A.uP rC []
 uF:mg "place_word"=some (.ref A.uJ)
 xh:gL K "province_words" "province_words" l8 A.nv A.nE
 Dy:Binds K A.nE mj []
 C9:mg "province_words"=some (.ref A.nv)
 Cb:gL K "centre_words" "centre_words" ox A.qm A.qw
 HA:Binds K A.qw oK []
 He:mg "centre_words"=some (.ref A.qm)
 FV:gL K "unit_words" "unit_words" rk A.uH A.uM
 Lx:Binds K A.uM rA []
 K':mg "unit_words"=some (.ref A.uH)
 Eg:gL K "board_lines" "board_lines" gF A.rP A.rV
 IJ:Binds K A.rV pZ []
 ID:mg "board_lines"=some (.ref A.rP)
 printed:gL K "printed" "printed" tV A.Dg A.Dr
 Tn:Binds K A.Dr Aa []
 S4:mg "printed"=some (.ref A.Dg)
 HJ:gL K "are_shores" "are_shores" nR A.uK A.uQ
 Lz:Binds K A.uQ rD []
 Lb:mg "are_shores"=some (.ref A.uK)
 sW:gL K "is_province_line" "is_province_line" j' A.lJ A.lM
 Bh:Binds K A.lM kg []
 AB:mg "is_province_line"=some (.ref A.lJ)
 NT:gL K "has_form" "has_form" wy A.AU A.Ba
 Qx:Binds K A.Ba xa []
 P_:mg "has_form"=some (.ref A.AU)
 Jw:gL K "put_power" "put_power" tU A.xS A.yb
 Ou:Binds K A.yb t_ []
 NW:mg "put_power"=some (.ref A.xS)
 BI:gL K "put_province" "put_province" ot A.qk A.qu
 Hv:Binds K A.qu oI []
 G':mg "put_province"=some (.ref A.qk)
 Ga:gL K "put_link" "put_link" wj A.AJ A.A3
 Hw:Binds K A.A3 wU []
 Ha:mg "put_link"=some (.ref A.AJ)
 MR:gL K "put_join" "put_join" wm A.AL A.A5
 Qu:Binds K A.A5 wX []
 P7:mg "put_join"=some (.ref A.AL)
 MP:gL K "put_sail" "put_sail" wg A.AI A.A2
 Qs:Binds K A.A2 wR []
 P5:mg "put_sail"=some (.ref A.AI)
 Gb:gL K "put_centre" "put_centre" rl A.uI A.uO
 Ly:Binds K A.uO rB []
 La:mg "put_centre"=some (.ref A.uI)
 Jv:gL K "put_start" "put_start" tT A.xR A.ya
 Ot:Binds K A.ya t9 []
 NV:mg "put_start"=some (.ref A.xR)
 Ju:gL K "put_words" "put_words" tS A.xQ A.x'
 Oq:Binds K A.x' t8 []
 NU:mg "put_words"=some (.ref A.xQ)
 MQ:gL K "put_line" "put_line" wk A.AK A.A4
 Qt:Binds K A.A4 wW []
 P6:mg "put_line"=some (.ref A.AK)
 MO:gL K "put_text" "put_text" we A.AH A.A1
 Qr:Binds K A.A1 wQ []
 P4:mg "put_text"=some (.ref A.AH)
 yM:gL K "links_for" "links_for" tW A.xT A.yc
 yl:Binds K A.yc ub []
 xM:mg "links_for"=some (.ref A.xT)
 G0:gL K "is_stand" "is_stand" wo A.AM A.A6
 Hx:Binds K A.A6 wY []
 Hb:mg "is_stand"=some (.ref A.AM)
 yP:gL K "distances" "distances" tX A.xU A.yd
 ym:Binds K A.yd ud []
 xN:mg "distances"=some (.ref A.xU)
 BA:gL K "shortest_way" "shortest_way" kX A.qj A.qt
 Hu:Binds K A.qt oH []
 G_:mg "shortest_way"=some (.ref A.qj)
 xI:gL K "least_of_parts" "least_of_parts" jl A.ny A.nI
 Dz:Binds K A.nI mn []
 C_:mg "least_of_parts"=some (.ref A.ny)
 J0:gL K "are_alike" "are_alike" tY A.xV A.ye
 Ov:Binds K A.ye ue []
 NX:mg "are_alike"=some (.ref A.xV)
 xK:gL K "keeps_links" "keeps_links" pO A.rN A.rS
 zI:Binds K A.rS pX []
 zF:mg "keeps_links"=some (.ref A.rN)
 Ee:gL K "is_symmetry" "is_symmetry" pP A.rO A.rT
 II:Binds K A.rT pY []
 IC:mg "is_symmetry"=some (.ref A.rO)
 Wm:gL K "__init__" "Desk.__init__" wA A.AX A.Be
 QA:Binds K A.Be xf []
 Wo:gL K "__init__" "Call.__init__" wB A.AY A.Bf
 QB:Binds K A.Bf xg []
 jW:gL K "is_number_of" "is_number_of" ou A.ql A.qv
 jM:Binds K A.qv oJ []
 jH:mg "is_number_of"=some (.ref A.ql)
 Ej:gL K "answer_read" "answer_read" pQ A.i_ A.nW
 IK:Binds K A.nW mo []
 WA:mg "answer_read"=some (.ref A.i_)
 Cg:gL K "answer_print" "answer_print" oy A.iq A.mC
 HB:Binds K A.mC kZ []
 VA:mg "answer_print"=some (.ref A.iq)
 El:gL K "answer_find" "answer_find" l9 A.ja A.nY
 IM:Binds K A.nY mr []
 WC:mg "answer_find"=some (.ref A.ja)
 Cj:gL K "answer_place" "answer_place" oA A.iw A.mE
 HD:Binds K A.mE k6 []
 VC:mg "answer_place"=some (.ref A.iw)
 vk:gL K "answer_province" "answer_province" lC A.gk A.jr
 Ce:Binds K A.jr iQ []
 RH:mg "answer_province"=some (.ref A.gk)
 Ci:gL K "answer_power" "answer_power" oz A.iu A.mD
 HC:Binds K A.mD k5 []
 VB:mg "answer_power"=some (.ref A.iu)
 rF:gL K "places_answer" "places_answer" mV A.oQ A.oT
 vh:Binds K A.oT m_ []
 vg:mg "places_answer"=some (.ref A.oQ)
 Ek:gL K "answer_near" "answer_near" pR A.i' A.nX
 IL:Binds K A.nX mq []
 WB:mg "answer_near"=some (.ref A.i')
 Lp:gL K "ends_of" "ends_of" zT A.Di A.Dt
 JZ:Binds K A.Dt Ac []
 JL:mg "ends_of"=some (.ref A.Di)
 HM:gL K "answer_far" "answer_far" rq A.jY A.pd
 LB:Binds K A.pd nU []
 XW:mg "answer_far"=some (.ref A.jY)
 HL:gL K "answer_way" "answer_way" rp A.jX A.o_
 LA:Binds K A.o_ nT []
 XU:mg "answer_way"=some (.ref A.jX)
 vj:gL K "answer_symmetry" "answer_symmetry" iO A.gi A.jq
 Cd:Binds K A.jq iP []
 RG:mg "answer_symmetry"=some (.ref A.gi)
 zK:gL K "answer_rename" "answer_rename" mX A.gO A.lr
 E6:Binds K A.lr jT []
 TZ:mg "answer_rename"=some (.ref A.gO)
 zJ:gL K "answer_starts" "answer_starts" mW A.gN A.lp
 E5:Binds K A.lp jS []
 TY:mg "answer_starts"=some (.ref A.gN)
 Cm:gL K "answer_homes" "answer_homes" kY A.iz A.mG
 HF:Binds K A.mG k8 []
 VE:mg "answer_homes"=some (.ref A.iz)
 Ck:gL K "answer_parts" "answer_parts" oB A.iy A.mF
 HE:Binds K A.mF k7 []
 VD:mg "answer_parts"=some (.ref A.iy)
 zL:gL K "answer_counts" "answer_counts" jR A.gP A.lA
 E7:Binds K A.lA jU []
 T1:mg "answer_counts"=some (.ref A.gP)
 answers:gL K "answers" "answers" zW A.Dk A.yT
 aas:Binds K A.yT Af []
 S5:mg "answers"=some (.ref A.Dk)
 bg:HP K A.aO
 Qa:mg "Province"=some (.ref A.aO)
 NC:Mk K A.aO A.qo
 fL:cW K A.aO "kind"
 fK:cW K A.aO "name"
 dN:cW K A.aO "short"
 dh:cW K A.aO "shores"
 dP:cW K A.aO "centre"
 fM:cW K A.aO "home"
 js:HP K A.gr
 ZL:mg "Unit"=some (.ref A.gr)
 XH:Mk K A.gr A.AW
 uC:cW K A.gr "power"
 uD:cW K A.gr "fleet"
 gT:cW K A.gr "place"
 eE:HP K A.eF
 Li:mg "Links"=some (.ref A.eF)
 GK:Mk K A.eF A.xX
 jG:cW K A.eF "joined"
 kQ:cW K A.eF "total"
 aV:HP K A.aK
 RM:mg "Board"=some (.ref A.aK)
 ND:Mk K A.aK A.xZ
 dO:cW K A.aK "powers"
 bA:cW K A.aK "provinces"
 cT:cW K A.aK "by_word"
 jV:cW K A.aK "land"
 lT:cW K A.aK "sea"
 mz:cW K A.aK "either"
 fF:cW K A.aK "units"
 fA:HP K A.d_
 ZN:mg "Desk"=some (.ref A.d_)
 XI:Mk K A.d_ A.AX
 cN:cW K A.d_ "board"
 dQ:HP K A.cK
 ZO:mg "Call"=some (.ref A.cK)
 XJ:Mk K A.cK A.AY
 zB:cW K A.cK "number"
 lH:cW K A.cK "end"
 di:cW K A.cK "numbers"
 iI:cW K A.cK "rows"
 RL:∃t,mg "GREAT"=some (.str "ABCDEFGHIJKLMNOPQRSTUVWXYZ" t)
 RK:∃t,mg "SMALL"=some (.str "abcdefghijklmnopqrstuvwxyz" t)
 NY:∃t,mg "STROKE"=some (.str "/" t)
 VG:∃t,mg "REMARK"=some (.str "#" t)
 RI:∃t,mg "WRONG"=some (.str "\t" t)
 XX:∃t,mg "OTHER"=some (.str "?" t)
 Qc:∃t,mg "LINE_END"=some (.int (10) t)
 E2:∃t,mg "LEAST_PRINTED"=some (.int (32) t)
 Hg:∃t,mg "MOST_PRINTED"=some (.int (126) t)
 VH:∃t,mg "LAND"=some (.int (0) t)
 VF:∃t,mg "SEA"=some (.int (1) t)
 XZ:∃t,mg "COAST"=some (.int (2) t)
 Hf:∃t,mg "NOBODY"=some (.int (-1) t)
 uG:∃t,mg "RIGHT"=some (.int (0) t)
 JM:∃t,mg "NO_FORM"=some (.int (1) t)
 RJ:∃t,mg "TAKEN"=some (.int (2) t)
 Dc:∃t,mg "UNKNOWN"=some (.int (3) t)
 Lc:∃t,mg "UNFIT"=some (.int (4) t)
 Ld:∃t,mg "TWICE"=some (.int (5) t)
 Lj:∃t,mg "FULL"=some (.int (6) t)
 IE:∃t,mg "MOST_POWERS"=some (.int (7) t)
 Dd:∃t,mg "MOST_PROVINCES"=some (.int (40) t)
 Lh:∃t,mg "MOST_LINKS"=some (.int (300) t)
 Lg:∃t,mg "MOST_UNITS"=some (.int (24) t)
 N0:∃t,mg "ARMIES"=some (.int (0) t)
 Hi:∃t,mg "FLEETS"=some (.int (1) t)
 Qe:∃t,mg "ANY_LINK"=some (.int (2) t)
 f':∃t,mg "OUT_OF_RANGE"=some (.int (-1) t)
 S6:∃t,mg "NO_NAME"=some (.int (-2) t)
 Qb:∃t,mg "NO_PLACE"=some (.int (-3) t)
 Le:∃t,mg "TAKEN_NAME"=some (.int (-4) t)
 NZ:∃t,mg "NO_WAY"=some (.int (-5) t)
 Hh:∃t,mg "MOST_IN_LIST"=some (.int (40) t)
 BZ:mg "KINDS"=some (.ref A.jt)
 kW:oX K A.jt [.str "land",.str "sea",.str "coast"]
 XY:mg "FORMS"=some (.ref A.LG)
 WR:Wj K A.LG [[.int 0,.int 1],[.int 0,.int 0],[.int 0,.int 1],[.int 0,.int 1],[.int 1,.int 0],[.int 1,.int 0],[.int 3,.int 0],[.int 5,.int 0],[.int 5,.int 0],[.int 0,.int 1],[.int 1,.int 2],[.int 0,.int 0],[.int 1,.int 0],[.int 0,.int 0],[.int 0,.int 0]]
 ZM:mg "KEPT"=some (.ref A.Wd)
 Y0:yu K A.Wd [(32,.str " "),(35,.str "#"),(47,.str "/")]
 S7:mg "ANSWERS"=some (.ref A.DD)
 So:yu K A.DD [(0,.ref A.i_),(1,.ref A.iq),(2,.ref A.ja),(3,.ref A.iw),(4,.ref A.gk),(5,.ref A.iu),(6,.ref A.i'),(7,.ref A.jY),(8,.ref A.jX),(9,.ref A.gi),(10,.ref A.gO),(11,.ref A.gN),(12,.ref A.iz),(13,.ref A.iy),(14,.ref A.gP)]
 eU:mg "len"=none
 aa5:mg "ord"=none
 Fu:mg "range"=none
 xB:mg "enumerate"=none
 Vc:mg "all"=none
 aa8:mg "any"=none
 aa4:mg "set"=none
 GJ:mg "sorted"=none
 aa7:mg "max"=none
 aa6:mg "min"=none
 Zy:mg "list"=none
 aa3:mg "zip"=none
end Pb
variable {P:PySem.Program} {w:PySem.World} {K:ae} {mg:PySem.Str->Option PySem.Value} {base:PySem.Heap} {A:Pb.Ad}
namespace Pb
open PySem PySem.Spec PyProof.Rows L2
section
variable {X:Cx} {x:Str} {pos:Pos}
theorem lZ {i:Int} (g:∃t,X.mg x=some (.int i t)) (hg:Gl X x:=by rfl) (hd:(x==("__debug__":Str))=false:=by decide):PE X (.Name x pos) (tC (.int i)):=by
 obtain⟨t,g⟩:=g
 exact KA (v:=.int i) hg g ⟨_,rfl⟩ hd
theorem Wz {z:Str} (g:∃t,X.mg x=some (.str z t)) (hg:Gl X x:=by rfl) (hd:(x==("__debug__":Str))=false:=by decide):PE X (.Name x pos) (tC (.str z)):=by
 obtain⟨t,g⟩:=g
 exact KA (v:=.str z) hg g ⟨_,rfl⟩ hd
theorem YB {a:af} (g:X.mg x=some (.ref a)) (hg:Gl X x:=by rfl) (hd:(x==("__debug__":Str))=false:=by decide):PE X (.Name x pos) (tC (.ref a)):=
 KA (v:=.ref a) hg g rfl hd
end
abbrev tx (w:List Nat):Str:=⟨w.toArray⟩
theorem Yw (x:Str):tx x.cps.toList=x:=by cases x;rfl
theorem iN (w:List Nat):(tx w).length=w.length:=by simp[tx,DK]
theorem pM {a b:List Nat} (h:tx a=tx b):a=b:=by
 have:=congrArg (fun s:Str=>s.cps.toList) h
 simpa using this
theorem O0 {a b:List Nat}:tx a=tx b<->a=b:=⟨pM,fun h=>by rw[h]⟩
theorem get_map {α:Type} {f:α->V} {l:List α} {i:Nat} {x:V} (h:(l.map f)[i]?=some x):∃y,l[i]?=some y/\x=f y:=by
 rw[aX] at h
 cases e:l[i]? with
 | none=>rw[e] at h;cases h
 | some y=>rw[e] at h;exact⟨y,rfl,(bQ h).symm⟩
theorem take_snoc {α:Type} {l:List α} {i:Nat} {x:α} (h:l[i]?=some x):l.take (i+1)=l.take i++[x]:=by rw[YU,h];rfl
theorem br {H:Hp} {p:af} {o:HO} (h:H p=none):bX H (upd H p o):=fun b u e=>by rw[aQ (aT e h)];exact e
theorem pj {H0 H:Hp} {D:af} {o:HO} (s:bX H0 H) (h:H0 D=none):bX H0 (upd H D o):=fun b u e=>by rw[aQ (aT e h)];exact s b u e
end Pb
namespace Pb
open PySem PySem.Spec PyProof.Rows L2 TL
theorem cxK {CX:R4} {P:bj} {w:bV} {K:ae} {mg:Str->Option ai} {base:cX} {N:List Str} {qual:Str} {scope:kG} {f:af} {cd:ai} {A:cQ} {outer:List Env} {s:ay} {H:Hp} {E:XK}:(N' CX P w K mg base N qual scope f cd A outer s H E).K=K:=rfl
theorem Z3 {CX:R4} {P:bj} {w:bV} {K:ae} {mg:Str->Option ai} {base:cX} {N:List Str} {qual:Str} {scope:kG} {f:af} {cd:ai} {A:cQ} {outer:List Env} {s:ay} {H:Hp} {E:XK}:((N' CX P w K mg base N qual scope f cd A outer s H E).nox).K=K:=rfl
def J1 (H1:Hp) (D:af) (acc:List V) (H:Hp):Prop:=bX H1 H/\H D=some (.lst acc)
theorem C2 {H1:Hp} {D:af} (hD:H1 D=none):J1 H1 D [] (upd H1 D (.lst [])):=⟨br hD,aw⟩
theorem qh {H1 H4:Hp} {D:af} {acc acc':List V} {y:V} (l:J1 H1 D acc H4) (hD:H1 D=none) (hz:acc.length<ao) (e:acc'=acc++[y]) :
  ∃ac,H4 D=some (.lst ac)/\ac.length<ao/\J1 H1 D acc' (upd H4 D (.lst (ac++[y]))):=
 ⟨acc,l.2,hz,pj l.1 hD,by rw[aw,e]⟩
theorem J1.same {H1 H H':Hp} {D:af} {acc:List V} (l:J1 H1 D acc H) (s:bX H H'):J1 H1 D acc H':=⟨l.1.trans s,s _ _ l.2⟩
theorem map_take {α:Type} (f:α->V) {l:List α} {i:Nat} {x:α} (h:l[i]?=some x):(l.take (i+1)).map f=(l.take i).map f++[f x]:=by rw[take_snoc h,bh];rfl
theorem iJ {α β:Type} (f:α->β) {l:List α} {i n:Nat} {x:α} (h:l[i]?=some x) (hn:l.length<=n):((l.take i).map f).length<n:=by
 have:=(ax.mp h).1
 rw[aa,cx];omega
theorem joined (parts:List (List Nat)) (sep:List Nat):vM (tx sep) (parts.map tx)=tx (zD sep parts):=by
 rw[join_eq]
 have e:tl (E_ (tx sep) (parts.map tx))=zD sep parts:=by
  rw[QZ]
  have e2:(parts.map tx).map tl=parts:=by
   rw[cz]
   conv=>rhs;rw[<- Sa parts]
   refine eX fun p _=>?_
   simp[tl,tx]
  rw[e2]
 have z:=congrArg tx e
 rw[show tx (tl (E_ (tx sep) (parts.map tx)))=E_ (tx sep) (parts.map tx) from Yw _] at z
 exact z
theorem C6:∀parts:List (List Nat),zD [] parts=parts.flatten
 | []=>rfl
 | [p]=>by simp[zD]
 | p::q::r=>by
  show p++([]++zD [] (q::r))=_
  rw[pH,C6 (q::r)]
  simp
theorem S_ (l:List Nat):(l.map fun c=>[c]).flatten=l:=by
 induction l with
 | nil=>rfl
 | cons a l ih=>rw[a7,Eu,ih];rfl
end Pb
namespace Pb
open PySem PySem.Spec PyProof.Rows L2
local macro_rules | `(tactic| walk_at "rd")=>`(tactic| simp[-Cs,-tJ,WU,Uq,FX,↓LK,FY,tC,↓FW,WV,TU,↓Kt,Xo,Zo,tOr,Q0,Ke,L2.start,SI,cxK,Z3,Y1,RE,XS,xO,Mh,Ji,O5,WS,WX,wipe,WY,WT,Xr,rNe,Up,Q3,WW])
inductive Za (vs:List V) (H:Hp) (Q:VK) (E':XK):Prop
 | mk (b:Nat) (_:vs=[.int b]) (_:Q (.str (tx [sg b])) H)
theorem V9 (b:Nat) (h:97<=b/\b<=122):V' ("abcdefghijklmnopqrstuvwxyz":Str).cps.toList ((b:Int)-97)=some b:=by
 obtain⟨k,rfl⟩:∃k,b=97+k:=⟨b-97,by omega⟩
 have hk:k<26:=by omega
 have e:(((97+k:Nat):Int)-97)=(k:Int):=by omega
 rw[e]
 refine aW ?_
 have all:∀k:Fin 26,("abcdefghijklmnopqrstuvwxyz":Str).cps.toList[k.val]?=some (97+k.val):=by decide +kernel
 exact all ⟨k,hk⟩
theorem V_ (b:Nat) (h:65<=b/\b<=90):V' ("ABCDEFGHIJKLMNOPQRSTUVWXYZ":Str).cps.toList ((b:Int)-65)=some b:=by
 obtain⟨k,rfl⟩:∃k,b=65+k:=⟨b-65,by omega⟩
 have hk:k<26:=by omega
 have e:(((65+k:Nat):Int)-65)=(k:Int):=by omega
 rw[e]
 refine aW ?_
 have all:∀k:Fin 26,("ABCDEFGHIJKLMNOPQRSTUVWXYZ":Str).cps.toList[k.val]?=some (65+k.val):=by decide +kernel
 exact all ⟨k,hk⟩
section
theorem Pp (T:Tx K mg A):dy P w K mg base hX 1 A.Df A.Dq z_ Za:=by
 exists T.sign_of,Pd,"o"
 ·obtain⟨b,rfl,_⟩:=h
  rfl
 ·obtain⟨b,rfl,k⟩:=h
  refine⟨_,aj (cV (MS D0 D0 aS (pv 0) aS) (az (a_ (bW P0 (Wz T.RK) (jo Po (pv 0) aS) (fun _ _=>rfl)))) bO)
   (aj (cV (MS D0 D0 aS (pv 0) aS) (az (a_ (bW P0 (Wz T.RL) (jo Po (pv 0) aS) (fun _ _=>rfl)))) bO)
   (aj (cV (cg eM (pv 0) (lZ T.Qc) (cD _)) (az (a_ ff)) bO)
   (aj (cV (PW.pt (kK (cg DZ (pv 0) (lZ T.E2) (cD _)) (lD (cg Rl (pv 0) (lZ T.Hg) (cD _))))) (az (a_ (Wz T.RI))) bO)
   (az (a_ (U1 (YB T.ZM) (pv 0) (Wz T.XX) ⟨rfl,rfl,rfl,rfl⟩)))))),?_⟩
  walk_at "rd"
  have kept:¬ (97<=b/\b<=122)->¬ (65<=b/\b<=90)->b≠10->¬ b<32->¬ 126<b->Q ((E1 [(32,V.str " "),(35,V.str "#"),(47,V.str "/")] (b:Int)).getD (V.str (ak "?"))) H:=by
   intro h1 h2 h3 h4 h5
   have e:sg b=if b=32\/b=35\/b=47 then b else 63:=by
    unfold sg
    rw[if_neg h1,if_neg h2,if_neg h3,if_neg (by omega)]
   rw[e] at k
   by_cases c:b=32\/b=35\/b=47
   ·rw[if_pos c] at k
    rcases c with rfl | rfl | rfl <;> exact k
   ·rw[if_neg c] at k
    have e2:E1 [(32,V.str " "),(35,V.str "#"),(47,V.str "/")] (b:Int)=none:=by
     simp only[E1]
     rw[if_neg (by omega),if_neg (by omega),if_neg (by omega)]
    rw[e2]
    exact k
  have nine:b≠10->(b<32\/126<b)->Q (V.str (ak "\t")) H:=fun h1 h2=>by
   have e:sg b=9:=by unfold sg;rw[if_neg (by omega),if_neg (by omega),if_neg h1,if_pos h2]
   rw[e] at k;exact k
  have ten:b=10->Q (V.str (ak "\n")) H:=fun h1=>by subst h1;exact k
  have lg:65<=b->b<=90->(ak "ABCDEFGHIJKLMNOPQRSTUVWXYZ").length<=ao/\∃x,V' (ak "ABCDEFGHIJKLMNOPQRSTUVWXYZ").cps.toList ((b:Int)-65)=some x/\Q (V.str { cps:=#[x] }) H:=fun h1 h2=>by
   have e:sg b=b:=by unfold sg;rw[if_neg (by omega),if_pos ⟨h1,h2⟩]
   rw[e] at k
   exact⟨by decide +kernel,b,V_ b ⟨h1,h2⟩,k⟩
  have ls:97<=b->b<=122->(ak "abcdefghijklmnopqrstuvwxyz").length<=ao/\∃x,V' (ak "abcdefghijklmnopqrstuvwxyz").cps.toList ((b:Int)-97)=some x/\Q (V.str { cps:=#[x] }) H:=fun h1 h2=>by
   have e:sg b=b:=by unfold sg;rw[if_pos ⟨h1,h2⟩]
   rw[e] at k
   exact⟨by decide +kernel,b,V9 b ⟨h1,h2⟩,k⟩
  repeat' split
  all_goals first
   | exact ls (by omega) (by omega)
   | exact lg (by omega) (by omega)
   | exact ten (by omega)
   | exact nine (by omega) (by omega)
   | exact⟨_,T.Y0,kept (by omega) (by omega) (by omega) (by omega) (by omega)⟩
   | (exfalso;omega)
inductive Y' (K:ae) (vs:List V) (H:Hp) (Q:VK) (E':XK):Prop
 | mk (a:af) (bs:List Nat) (_:vs=[.ref a]) (_:cP K H a (bs.map fun b:Nat=>V.int b)) (_:bs.length<=1000000) (_:∀H',bX H H'->Q (.str (tx (iZ bs))) H')
theorem qc (T:Tx K mg A):dy P w K mg base hX 2 A.De A.Dn zZ (Y' K):=by
 exists T.yF,zY,"o"
 ·obtain⟨a,bs,rfl,_⟩:=h
  rfl
 ·obtain⟨a,bs,rfl,hs,hE,k⟩:=h
  refine⟨_,az (a_ (Kz ff (sR rfl zY.nd (fV (pv 0)) (gc (N:=GB) (sc:=aP tR) (own:=[("byte",1)]) (by decide +kernel)) (fun _ _ _ _ _=>df (i:=1) zY.nd rfl (bC rfl)) (fun _ _ _ _ _=>mh)
   (fun _ _ _ _ _=>bP (Pp T) hr rfl T.S3 T.sign_of.kp T.Tj .nil bR (ab (pv 1) aq))))),?_⟩
  refine⟨⟨_,rfl⟩,_,rfl,a,rfl,⟨_,hs⟩,fun D hD=>k_ (K:=K) (a:=a) (xs:=bs.map fun b:Nat=>V.int b) (fun i H'=>J1 H D ((bs.take i).map fun b=>V.str (tx [sg b])) H') (C2 hD) (fun i H' _ l=>l.1.seq hs) ?_ ?_⟩
  ·intro i x H' hx l
   obtain⟨b,hb,rfl⟩:=get_map hx
   walk_at "rd"
   exact⟨b,rfl,qh l hD (iJ _ hb (by rw[bI];omega)) (map_take _ hb)⟩
  ·intro H' l
   rw[aa,bM] at l
   have e:vM (ak "") (bs.map fun b=>tx [sg b])=tx (iZ bs):=by
    have z:=joined (bs.map fun b=>[sg b]) []
    rw[C6,cz] at z
    have e2:(bs.map fun b=>[sg b]).flatten=iZ bs:=by
     rw[<- S_ (iZ bs),cz]
     rfl
    rw[e2] at z
    exact z
   refine⟨_,_,bs.map (fun b=>tx [sg b]),rfl,rfl,.inl (cP.of (by rw[cz];exact l.2)),?_,?_⟩
   ·have e3:((bs.map fun b=>tx [sg b]).map (·.length)).sum=bs.length:=by
     rw[cz]
     clear l k hs hE hD e
     induction bs with
     | nil=>rfl
     | cons b bs ih=>rw[a7,aao,ih,aG];show 1+_=_;omega
    rw[e3]
    show bs.length+_*0<=_
    omega
   ·rw[e]
    exact k H' l.1
end
end Pb
namespace Pb
open PySem PySem.Spec PyProof.Rows L2 TL
local macro_rules | `(tactic| walk_at "rd")=>`(tactic| simp[-Cs,-tJ,WU,Uq,FX,↓LK,FY,tC,↓FW,WV,TU,↓Kt,Xo,Zo,tOr,Q0,Ke,L2.start,SI,cxK,Z3,Y1,RE,XS,xO,Mh,Ji,O5,WS,WX,wipe,WY,WT,Xr,rNe,Up,Q3,WW,tCB,tSl,Uo,Kd,Zm])
theorem Vn {x:Str} {g:TG} {tt:TT} {te:TE} {vs:List Nat} {σ:L2.St} {H1:Hp} {D:af} {Qd:Hp->Prop} (Pv:Nat->Hp->Prop) (h0:Pv 0 (upd H1 D (.lst [])))
  (hs:∀i c H,x.cps[i]?=some c->Pv i H->g (.str ⟨#[c]⟩) (wipe σ vs) H fun σ2 H2=>wipe σ2 vs=wipe σ vs/\tt σ2 H2 fun b H3=>
   if b=true then te σ2 H3 fun y H4=>∃acc,H4 D=some (.lst acc)/\acc.length<ao/\Pv (i+1) (upd H4 D (.lst (acc++[y]))) else Pv (i+1) H3) (hd:∀H,Pv x.cps.size H->Qd H) :
  ∃W:Nat->Nat->Hp->Prop,(∃m,W 0 m (upd H1 D (.lst [])))/\∀i m H,W i m H ->
   ((Its x).stop i H/\Qd H)\/((Its x).go i H/\∃Nx:Hp->Prop,(∀H',Nx H'->∃m',m'<m/\W (i+1) m' H')/\∀y H',(Its x).Sf i H y H'->g y (wipe σ vs) H' fun σ2 H2=>wipe σ2 vs=wipe σ vs/\tt σ2 H2 fun b H3=>
    if b=true then te σ2 H3 fun y H4=>∃acc,H4 D=some (.lst acc)/\acc.length<ao/\Nx (upd H4 D (.lst (acc++[y]))) else Nx H3):=by
 refine⟨fun i m H=>m=x.cps.size-i/\i<=x.cps.size/\Pv i H,⟨x.cps.size,by simp,cu _,h0⟩,?_⟩
 rintro i m H ⟨rfl,hi,p⟩
 by_cases hlt:i<x.cps.size
 ·refine .inr ⟨hlt,Pv (i+1),fun H' p'=>⟨x.cps.size-(i+1),by omega,rfl,hlt,p'⟩,fun y H' z=>?_⟩
  obtain⟨e,c,hc,e2⟩:=z
  subst e e2
  exact hs i c _ hc p
 ·have e:i=x.cps.size:=by omega
  subst e
  exact .inl ⟨aC _,hd H p⟩
theorem Uk {w:List Nat} {i c:Nat} (h:(tx w).cps[i]?=some c):w[i]?=some c:=by simpa [tx] using h
theorem QX (w:List Nat):(tx w).cps.size=w.length:=by simp[tx]
theorem CB:∀(l acc:List Nat),CD [32] 0 acc l=match dE l with | []=>[acc] | h::t=>(acc++h)::t
 | [],acc=>by simp[Bz,dE]
 | c::r,acc=>by
  have ne:=tM r
  by_cases h:c=32
  ·subst h
   rw[Kh (by simp[pre])]
   show acc::CD [32] 0 [] r=_
   rw[CB r []]
   simp only[dE]
   cases e:dE r with
   | nil=>exact absurd e ne
   | cons a b=>simp
  ·rw[F2 (xi [] r h),CB r (acc++[c])]
   simp only[dE]
   cases e:dE r with
   | nil=>exact absurd e ne
   | cons a b=>simp[h]
theorem CC:∀(l acc:List Nat),CD [10] 0 acc l=match cC l with | []=>[acc] | h::t=>(acc++h)::t
 | [],acc=>by simp[Bz,cC]
 | c::r,acc=>by
  have ne:=uE r
  by_cases h:c=10
  ·subst h
   rw[Kh (by simp[pre])]
   show acc::CD [10] 0 [] r=_
   rw[CC r []]
   simp only[cC]
   cases e:cC r with
   | nil=>exact absurd e ne
   | cons a b=>simp
  ·rw[F2 (xi [] r h),CC r (acc++[c])]
   simp only[cC]
   cases e:cC r with
   | nil=>exact absurd e ne
   | cons a b=>simp[h]
theorem FZ {l:List Str} {w:List (List Nat)} (h:l.map tl=w):l=w.map tx:=by
 rw[<- h,cz]
 conv=>lhs;rw[<- Sa l]
 exact eX fun x _=>(Yw x).symm
theorem Mj (l:List Nat):mM (tx l) (ak " ")=(dE l).map tx:=by
 refine FZ ?_
 rw[Jm _ _ (by decide +kernel) (RB (by decide +kernel))]
 have e1:tl (ak " ")=[32]:=by decide +kernel
 have e2:tl (tx l)=l:=by simp[tl,tx]
 rw[e1,e2,CB]
 cases e:dE l with
 | nil=>exact absurd e (tM l)
 | cons a b=>simp
theorem Ml (l:List Nat):mM (tx l) (ak "\n")=(cC l).map tx:=by
 refine FZ ?_
 rw[Jm _ _ (by decide +kernel) (RB (by decide +kernel))]
 have e1:tl (ak "\n")=[10]:=by decide +kernel
 have e2:tl (tx l)=l:=by simp[tl,tx]
 rw[e1,e2,CC]
 cases e:cC l with
 | nil=>exact absurd e (uE l)
 | cons a b=>simp
section
def OA (H:Hp) (Q:VK) (ys:List V):Prop:=∀H' D,bX H H'->H' D=some (.lst ys)->H D=none->Q (.ref D) H'
inductive Xe (vs:List V) (H:Hp) (Q:VK) (E':XK):Prop
 | mk (t:List Nat) (_:vs=[.str (tx t)]) (_:t.length<=10000000) (_:OA H Q (t.map fun c:Nat=>V.int c))
theorem M' (T:Tx K mg A):dy P w K mg base hX 1 A.AV A.Bb xb Xe:=by
 exists T.Oh,wH,"o"
 ·obtain⟨t,rfl,_⟩:=h
  rfl
 ·obtain⟨t,rfl,hE,k⟩:=h
  refine⟨_,az (a_ (sR rfl wH.nd (UY (pv 0)) (gc (N:=D8) (sc:=aP qP) (own:=[("sign",1)]) (by decide +kernel)) (fun _ _ _ _ _=>df (i:=1) wH.nd rfl (bC rfl)) (fun _ _ _ _ _=>mh)
   (fun _ _ _ _ _=>bT V6 rfl T.aa5 (by decide +kernel) (ab (pv 1) aq)))),?_⟩
  refine⟨_,rfl,_,rfl,fun D hD=>Vn (x:=tx t) (fun i H'=>J1 H D ((t.take i).map fun c:Nat=>V.int c) H') (C2 hD) ?_ ?_⟩
  ·intro i c H' hc l
   have hc:=Uk hc
   walk_at "rd"
   refine⟨by simp[DK],?_⟩
   exact qh l hD (iJ _ hc (by rw[bI];omega)) (map_take _ hc)
  ·intro H' l
   rw[QX,bM] at l
   exact k H' D l.1 l.2 hD
inductive SA (vs:List V) (H:Hp) (Q:VK) (E':XK):Prop
 | mk (t:List Nat) (_:vs=[.str (tx t)]) (_:t.length<=10000000) (_:OA H Q (V.int t.length::t.map fun c:Nat=>V.int c))
theorem Aq (T:Tx K mg A):dy P w K mg base hX 2 A.Dj A.Du Ae SA:=by
 exists T.Fz,Pf,"o"
 ·obtain⟨t,rfl,_⟩:=h
  rfl
 ·obtain⟨t,rfl,hE,k⟩:=h
  refine⟨_,az (a_ (jo rH (c9 (ab (bT Cc rfl T.eU bf (ab (pv 0) aq)) aq)) (bP (M' T) hr rfl T.P' T.Oh.kp T.Qy .nil bR (ab (pv 0) aq)))),?_⟩
  walk_at "rd"
  rw[iN]
  refine⟨by rw[bI];omega,by rw[bI];omega,fun p hp=>⟨t,rfl,hE,fun H' D s1 h1 h2=>?_⟩⟩
  have np:p≠D:=fun e=>by rw[e,aw] at h2;cases h2
  refine⟨D,rfl,_,s1 _ _ aw,_,h1,by rw[aa,bI];show 1+_<=_;omega,fun q hq=>k _ q ?_ aw ?_⟩
  ·exact ((br hp).trans s1).trans (br hq)
  ·exact bX.free ((br hp).trans s1) hq
inductive W4 (vs:List V) (H:Hp) (Q:VK) (E':XK):Prop
 | mk (t:List Nat) (_:vs=[.str (tx t)]) (_:t.length<=1000000) (_:OA H Q ((Vbsoab.wordsOf t).map fun x=>V.str (tx x)))
theorem vZ:∀t:List Nat,(dE t).length<=t.length+1
 | []=>by simp[dE]
 | c::r=>by
  have ih:=vZ r
  simp only[dE]
  cases e:dE r with
  | nil=>simp
  | cons a b=>
   rw[e] at ih
   simp only
   split
   ·simp at ih ⊢;omega
   ·simp at ih ⊢;omega
theorem M3 (T:Tx K mg A):dy P w K mg base hX 1 A.AF A.AZ wN W4:=by
 exists T.words_of,wC,"o"
 ·obtain⟨t,rfl,_⟩:=h
  rfl
 ·obtain⟨t,rfl,hE,k⟩:=h
  refine⟨_,az (a_ (sR rfl wC.nd (fV (MW (pv 0) ff)) (gc (N:=D6) (sc:=aP qN) (own:=[("word",1)]) (by decide +kernel)) (fun _ _ _ _ _=>df (i:=1) wC.nd rfl (bC rfl)) (fun _ _ _ _ _=>yG (cg Gp (pv 1) ff (cD _)))
   (fun _ _ _ _ _=>pv 1))),?_⟩
  have wl:=vZ t
  refine⟨_,rfl,⟨_,rfl⟩,_,_,rfl,rfl,by decide +kernel,by rw[iN,bI];omega,?_⟩
  rw[Mj]
  intro p hp
  rw[cz]
  refine⟨p,rfl,⟨_,cP.of aw⟩,fun D hD=>k_ (K:=K) (a:=p) (xs:=(dE t).map (V.str∘tx)) (fun i H'=>J1 (upd H p (.lst ((dE t).map (V.str∘tx)))) D ((((dE t).take i).filter fun x=>x != []).map fun x=>V.str (tx x)) H') (C2 hD) (fun i H' _ l=>cP.of (l.1 _ _ aw)) ?_ ?_⟩
  ·intro i x H' hx l
   obtain⟨y,hy,rfl⟩:=get_map hx
   have lt:=(ax.mp hy).1
   have tk:=take_snoc hy
   walk_at "rd"
   have dec:(tx y=ak "")<->y=[]:=by
    have e:ak ""=tx []:=by decide +kernel
    rw[e,O0]
   by_cases c:y=[]
   ·refine .inl ⟨dec.mpr c,?_⟩
    rw[tk,eP]
    have e:([y].filter fun x=>x != [])=[]:=by simp[c]
    rw[e,dw]
    exact l
   ·refine .inr ⟨fun z=>c (dec.mp z),qh l hD ?_ ?_⟩
    ·have h1:=cY (fun x=>x != []) ((dE t).take i)
     rw[aa,bI]
     rw[cx] at h1
     omega
    ·rw[tk,eP,bh]
     have e:([y].filter fun x=>x != [])=[y]:=by simp[c]
     rw[e]
     rfl
  ·intro H' l
   rw[aa,bM] at l
   exact k H' D ((br hp).trans l.1) l.2 ((br hp).free hD)
end
end Pb
namespace Pb
open PySem PySem.Spec PyProof.Rows L2 TL
local macro_rules | `(tactic| walk_at "rd")=>`(tactic| simp[-Cs,-tJ,WU,Uq,FX,↓LK,FY,tC,↓FW,WV,TU,↓Kt,Xo,Zo,tOr,Q0,Ke,L2.start,SI,cxK,Z3,Y1,RE,XS,xO,Mh,Ji,O5,WS,WX,wipe,WY,WT,Xr,rNe,Up,Q3,WW,tCB,tSl,Uo,Kd,Zm])
theorem Vt (c:Nat):decide (c∈(ak "abcdefghijklmnopqrstuvwxyz").cps.toList)=jj c:=by
 have e:(ak "abcdefghijklmnopqrstuvwxyz").cps.toList=(be 26).map (97 + ·):=by decide +kernel
 rw[e,bq,Ax,decide_eq_true_eq,a9]
 constructor
 ·rintro ⟨k,hk,rfl⟩;rw[bN] at hk;omega
 ·rintro ⟨h1,h2⟩;exact⟨c-97,bN.mpr (by omega),by omega⟩
theorem Vu (c:Nat):decide (c∈(ak "ABCDEFGHIJKLMNOPQRSTUVWXYZ").cps.toList)=YQ c:=by
 have e:(ak "ABCDEFGHIJKLMNOPQRSTUVWXYZ").cps.toList=(be 26).map (65 + ·):=by decide +kernel
 rw[e,bq,C8,decide_eq_true_eq,a9]
 constructor
 ·rintro ⟨k,hk,rfl⟩;rw[bN] at hk;omega
 ·rintro ⟨h1,h2⟩;exact⟨c-65,bN.mpr (by omega),by omega⟩
section
def zM (H:Hp) (Q:VK) (b:Bool):Prop:=∀H',bX H H'->Q (.bl b) H'
def small (lo hi:Nat) (t:List Nat):Bool:=decide (lo<=t.length)&&(decide (t.length<=hi)&&t.all jj)
inductive W7 (vs:List V) (H:Hp) (Q:VK) (E':XK):Prop
 | mk (t:List Nat) (lo hi:Nat) (_:vs=[.str (tx t),.int lo,.int hi]) (_:t.length<=1000000) (_:zM H Q (small lo hi t))
theorem D3 (T:Tx K mg A):dy P w K mg base hX 1 A.AN A.A7 wZ W7:=by
 exists T.G1,wG,"o"
 ·obtain⟨t,lo,hi,rfl,_⟩:=h
  rfl
 ·obtain⟨t,lo,hi,rfl,hE,k⟩:=h
  refine⟨_,az (a_ (Am (Gj D0 D0 (pv 1) (bT Cc rfl T.eU bf (ab (pv 0) aq)) (pv 2))
   (Al (bT (Qn rfl) rfl T.Vc (by decide +kernel) (ab (sR rfl wG.nd (UY (pv 0)) (gc (N:=D7) (sc:=aP qO) (own:=[("sign",3)]) (by decide +kernel)) (fun _ _ _ _ _=>df (i:=3) wG.nd rfl (bC rfl)) (fun _ _ _ _ _=>mh)
    (fun _ _ _ _ _=>h_ Ao (pv 3) (Wz T.RK) (by with_unfolding_all rfl))) aq))))),?_⟩
  have hl:(tx t).length<=ao:=by rw[iN,bI];omega
  refine⟨_,rfl,_,rfl,_,rfl,hl,_,_,rfl,rfl,_,rfl,?_⟩
  have rest:decide ((lo:Int)<=(tx t).length)=true->decide (((tx t).length:Int)<=hi)=true->∀H0,bX H H0->∀D,H0 D=none->∀H',J1 H0 D (t.map fun c=>V.bl (jj c)) H'->Q (.bl ((t.map jj).all id)) H':=fun h1 h2 H0 s0 D hD H' l=>by
   have z:=k H' (s0.trans l.1)
   have e:small lo hi t=(t.map jj).all id:=by
    rw[iN] at h1 h2
    have a1:lo<=t.length:=by have:=of_decide_eq_true h1;omega
    have a2:t.length<=hi:=by have:=of_decide_eq_true h2;omega
    unfold small
    rw[decide_eq_true a1,decide_eq_true a2,il,il,mU]
    rfl
   rw[e] at z
   exact z
  have no:¬ ((lo:Int)<=(tx t).length/\((tx t).length:Int)<=hi)->Q (.bl false) H:=fun h=>by
   have z:=k H (bX.refl H)
   have e:small lo hi t=false:=by
    rw[iN] at h
    unfold small
    by_cases a1:lo<=t.length
    ·rw[decide_eq_false (show ¬ t.length<=hi by omega)];simp
    ·rw[decide_eq_false a1];rfl
   rw[e] at z
   exact z
  by_cases c1:(lo:Int)<=(tx t).length
  ·rw[decide_eq_true c1]
   refine b9 ⟨_,rfl,_,_,rfl,rfl,_,rfl,?_⟩
   by_cases c2:((tx t).length:Int)<=hi
   ·rw[decide_eq_true c2]
    refine b9 ⟨_,rfl,_,rfl,fun D hD=>Vn (x:=tx t) (fun i H'=>J1 H D ((t.take i).map fun c=>V.bl (jj c)) H') (C2 hD) ?_ ?_⟩
    ·intro i c H' hc l
     have hc:=Uk hc
     walk_at "rd"
     have e:decide (c∈(ak "abcdefghijklmnopqrstuvwxyz").cps)=jj c:=by rw[<- Vt c];simp
     rw[e]
     exact qh l hD (iJ _ hc (by rw[bI];omega)) (map_take _ hc)
    ·intro H' l
     rw[QX,bM] at l
     exact⟨D,t.map jj,rfl,cP.of (by rw[cz];exact l.2),rest (decide_eq_true c1) (decide_eq_true c2) H (bX.refl H) D hD H' l⟩
   ·rw[decide_eq_false c2]
    exact bY (no fun z=>c2 z.2)
  ·rw[decide_eq_false c1]
   exact bY ⟨_,rfl,bY (no fun z=>c1 z.1)⟩
inductive Xd (vs:List V) (H:Hp) (Q:VK) (E':XK):Prop
 | mk (t:List Nat) (lo hi:Nat) (_:vs=[.str (tx t),.int lo,.int hi]) (_:t.length<=1000000) (_:zM H Q (j9 lo hi t))
theorem V0 (c:Nat) (r:List Nat):V2 (tx (c::r)) (some 1) none=tx r:=by
 unfold V2
 simp[HT.oG,tx,DK]
theorem xr (T:Tx K mg A):dy P w K mg base hX 2 A.AS A.A' w_ Xd:=by
 exists T.BX,MI,"o"
 ·obtain⟨t,lo,hi,rfl,_⟩:=h
  rfl
 ·obtain⟨t,lo,hi,rfl,hE,k⟩:=h
  refine⟨_,az (a_ (Am (h_ Gp (pv 0) ff (cD _)) (Am (h_ Ao (bW P0 (pv 0) aS (fun _ _=>rfl)) (Wz T.RL) (by with_unfolding_all rfl))
   (Al (bP (D3 T) hr rfl T.Hc T.G1.kp T.Hy .nil bR (ab (xk Zf (pv 0) (uk aS) Kv) (ab (pv 1) (ab (pv 2) aq)))))))),?_⟩
  have hl:(tx t).length<=ao:=by rw[iN,bI];omega
  refine⟨_,rfl,rfl,_,rfl,?_⟩
  have e0:ak ""=tx []:=by decide +kernel
  cases t with
  | nil=>
   have e:(!decide (V.str (tx [])=V.str (ak "")))=false:=by rw[e0];simp
   rw[e]
   exact bY (k H (bX.refl H))
  | cons c r=>
   have e:(!decide (V.str (tx (c::r))=V.str (ak "")))=true:=by
    rw[e0]
    simp only[V.str.injEq,O0]
    simp
   rw[e]
   refine b9 ⟨_,rfl,_,0,c,rfl,rfl,hl,aW (j:=0) rfl,c,_,rfl,rfl,_,rfl,?_⟩
   rw[Vu]
   cases g:YQ c with
   | false=>
    have z:=k H (bX.refl H)
    have e:j9 lo hi (c::r)=false:=by simp[j9,g]
    rw[e] at z
    exact bY z
   | true=>
    refine b9 ⟨_,rfl,1,rfl,_,rfl,hl,_,rfl,_,rfl,r,lo,hi,?_,by simp at hE;omega,fun H' s1=>?_⟩
    ·rw[V0]
     rfl
    ·have z:=k H' s1
     have e:j9 lo hi (c::r)=small lo hi r:=by simp[j9,small,g]
     rw[e] at z
     exact z
inductive Xc (p:List Nat->Bool) (vs:List V) (H:Hp) (Q:VK) (E':XK):Prop
 | mk (t:List Nat) (_:vs=[.str (tx t)]) (_:t.length<=1000000) (_:zM H Q (p t))
theorem M9 (T:Tx K mg A):dy P w K mg base hX 3 A.AR A.A_ w9 (Xc (j9 1 11)):=by
 exists T.NQ,MH,"o"
 ·obtain⟨t,rfl,_⟩:=h
  rfl
 ·obtain⟨t,rfl,hE,k⟩:=h
  exact⟨_,az (a_ (bP (xr T) hr rfl T.AD T.BX.kp T.Bj .nil bR (ab (pv 0) (ab aS (ab aS aq))))),_,rfl,t,1,11,rfl,hE,k⟩
theorem Gs (T:Tx K mg A):dy P w K mg base hX 3 A.Dh A.Ds Ab (Xc (j9 1 15)):=by
 exists T.K8,Pe,"o"
 ·obtain⟨t,rfl,_⟩:=h
  rfl
 ·obtain⟨t,rfl,hE,k⟩:=h
  exact⟨_,az (a_ (bP (xr T) hr rfl T.AD T.BX.kp T.Bj .nil bR (ab (pv 0) (ab aS (ab aS aq))))),_,rfl,t,1,15,rfl,hE,k⟩
theorem D4 (T:Tx K mg A):dy P w K mg base hX 3 A.AO A.A8 w6 (Xc (j9 2 2)):=by
 exists T.G2,MF,"o"
 ·obtain⟨t,rfl,_⟩:=h
  rfl
 ·obtain⟨t,rfl,hE,k⟩:=h
  exact⟨_,az (a_ (bP (xr T) hr rfl T.AD T.BX.kp T.Bj .nil bR (ab (pv 0) (ab aS (ab aS aq))))),_,rfl,t,2,2,rfl,hE,k⟩
theorem M8 (T:Tx K mg A):dy P w K mg base hX 2 A.AQ A.A9 w8 (Xc T6):=by
 exists T.NP,MG,"o"
 ·obtain⟨t,rfl,_⟩:=h
  rfl
 ·obtain⟨t,rfl,hE,k⟩:=h
  exact⟨_,az (a_ (bP (D3 T) hr rfl T.Hc T.G1.kp T.Hy .nil bR (ab (pv 0) (ab aS (ab aS aq))))),_,rfl,t,1,8,rfl,hE,k⟩
end
end Pb
namespace Pb
open PySem PySem.Spec PyProof.Rows L2 TL
abbrev Pl:=Int×Int
abbrev kk (p:Pl):List Key:=[dU p.1,dU p.2]
theorem PZ {p q:Pl} (h:kk p=kk q):p=q:=by
 injection h with h1 h2
 injection h2 with h2 _
 exact J7 (Er h1) (Er h2)
abbrev Ent:=Pl×af×List Pl
structure Lk where
 dx:af
 j:af
 ent:List Ent
 vD:Int
def OK (j:af) (t:Int):List (Str×V):=de "total" (.int t) (de "joined" (.ref j) [])
def Bn:List Ent->Pl->Option Ent
 | [],_=>none
 | e::r,p=>if e.1=p then some e else Bn r p
def nb (l:List Ent) (p:Pl):List Pl:=match Bn l p with
 | some e=>e.2.2
 | none=>[]
abbrev vG (l:List Ent):List (List Key×V):=l.map fun e=>(kk e.1,V.ref e.2.1)
abbrev S0 (l:List Pl):List (List Key×V):=l.map fun q=>(kk q,V.bl true)
structure gD (A:Ad) (H:Hp) (a:af) (L:Lk):Prop where
 ins:H a=some (.ins A.eF L.dx (OK L.j L.vD))
 jd:H L.j=some (.dT (vG L.ent))
 JH:∀e∈L.ent,H e.2.1=some (.dT (S0 e.2.2))
 nd:(L.ent.map (·.1)).Nodup
 nda:(L.ent.map (·.2.1)).Nodup
 Zw:∀e∈L.ent,e.2.2.Nodup
 nj:∀e∈L.ent,e.2.1≠L.j
theorem gD.same {A:Ad} {H H':Hp} {a:af} {L:Lk} (l:gD A H a L) (s:bX H H'):gD A H' a L:=⟨s _ _ l.ins,s _ _ l.jd,fun e he=>s _ _ (l.JH e he),l.nd,l.nda,l.Zw,l.nj⟩
theorem qZ {p:Pl} {e:Ent}:∀{l:List Ent},Bn l p=some e->e∈l/\e.1=p
 | [],h=>by cases h
 | x::r,h=>by
  unfold Bn at h
  split at h
  ·rename_i q;cases h;exact⟨by simp,q⟩
  ·obtain⟨a,b⟩:=qZ h;exact⟨aE _ a,b⟩
theorem N3 {p:Pl}:∀{l:List Ent},Bn l p=none->∀e∈l,e.1≠p
 | [],_,e,he=>by cases he
 | x::r,h,e,he=>by
  unfold Bn at h
  split at h
  ·cases h
  ·rename_i q
   rcases aF.mp he with z | z
   ·rw[z];exact q
   ·exact N3 h e z
theorem yD (p:Pl):∀l:List Ent,dW (vG l) (kk p)=(Bn l p).map fun e=>V.ref e.2.1
 | []=>rfl
 | e::r=>by
  by_cases h:e.1=p
  ·rw[show vG (e::r)=(kk e.1,V.ref e.2.1)::vG r from rfl,gx (by rw[h])]
   unfold Bn;rw[if_pos h];rfl
  ·rw[show vG (e::r)=(kk e.1,V.ref e.2.1)::vG r from rfl,f_ (fun z=>h (PZ z)),yD p r]
   conv=>rhs;unfold Bn
   rw[if_neg h]
theorem OY (q:Pl):∀l:List Pl,dW (S0 l) (kk q)=if q∈l then some (V.bl true) else none
 | []=>rfl
 | x::r=>by
  by_cases h:x=q
  ·rw[show S0 (x::r)=(kk x,V.bl true)::S0 r from rfl,gx (by rw[h]),if_pos (by rw[h];simp)]
  ·rw[show S0 (x::r)=(kk x,V.bl true)::S0 r from rfl,f_ (fun z=>h (PZ z)),OY q r]
   by_cases m:q∈r
   ·rw[if_pos m,if_pos (aE _ m)]
   ·rw[if_neg m,if_neg (fun z=>by rcases aF.mp z with z | z;exact h z.symm;exact m z)]
section
inductive W' (A:Ad) (vs:List V) (H:Hp) (Q:VK) (E':XK):Prop
 | mk (p dx:af) (_:vs=[.ref p]) (_:H p=some (.ins A.eF dx [])) (_:∀H' j,H j=none->H' p=some (.ins A.eF dx (OK j 0))->H' j=some (.dT [])->(∀b o,H b=some o->b≠p->H' b=some o)->Q .iE H')
theorem uw (T:Tx K mg A):dy P w K mg base hX 1 A.xX A.yg ug (W' A):=by
 exists T.Tv,Kn,"o"
 ·obtain⟨p,dx,rfl,_⟩:=h
  rfl
 ·obtain⟨p,dx,rfl,hp,k⟩:=h
  refine⟨_,aj (fO (pv 0) BK rfl) (az (fO (pv 0) aS rfl)),?_⟩
  intro d hd
  have np:p≠d:=aT hp hd
  refine⟨_,rfl,p,A.eF,dx,[],rfl,by rw[aQ np];exact hp,T.eE,T.jG,by show 0<1000;decide,?_⟩
  refine⟨_,rfl,p,A.eF,dx,_,rfl,aw,T.eE,T.kQ,by show 1<1000;decide,?_⟩
  refine k _ d hd aw ?_ fun b o e nb=>?_
  ·rw[aQ (bK np),aQ (bK np),aw]
  ·rw[aQ nb,aQ nb,aQ (aT e hd)];exact e
inductive aaT (A:Ad) (vs:List V) (H:Hp) (Q:VK) (E':XK):Prop
 | mk (a t1 t2:af) (L:Lk) (p q:Pl) (_:vs=[.ref a,.ref t1,.ref t2]) (_:gD A H a L) (_:eJ H t1 p) (_:eJ H t2 q) (_:zM H Q (decide (q∈nb L.ent p)))
theorem ux (T:Tx K mg A):dy P w K mg base hX 1 A.xY A.yh uh (aaT A):=by
 exists T.Tw,Ko,"o"
 ·obtain⟨a,t1,t2,L,p,q,rfl,_⟩:=h
  rfl
 ·obtain⟨a,t1,t2,L,p,q,rfl,l,h1,h2,k⟩:=h
  have hu:=qi hr
  refine⟨_,az (a_ (Zs (CM hu (pv 2) (Gi hu (aJ (pv 0) rfl) (pv 1) BK ⟨rfl,rfl,rfl,rfl⟩)) (by with_unfolding_all rfl))),?_⟩
  refine⟨_,rfl,_,rfl,a,A.eF,L.dx,_,_,rfl,l.ins,T.eE,T.jG,rfl,L.j,rfl,.inr ⟨_,.inl l.jd⟩,_,rfl,fun d hd=>?_⟩
  have s1:bX H (upd H d (.dT [])):=br hd
  refine⟨_,gK.t (k:=kk p) (s1 _ _ l.jd) (s1 _ _ h1),?_⟩
  rw[yD]
  have z:=k _ s1
  cases e:Bn L.ent p with
  | none=>
   refine⟨d,none,rfl,?_,?_⟩
   ·exact gK.t (kvs:=[]) (k:=kk q) aw (s1 _ _ h2)
   ·have e2:nb L.ent p=[]:=by unfold nb;rw[e]
    rw[e2] at z
    exact z
  | some x=>
   obtain⟨hx,ex⟩:=qZ e
   refine⟨x.2.1,_,rfl,gK.t (kvs:=S0 x.2.2) (k:=kk q) (s1 _ _ (l.JH x hx)) (s1 _ _ h2),?_⟩
   rw[OY]
   have e2:nb L.ent p=x.2.2:=by unfold nb;rw[e]
   rw[e2] at z
   by_cases m:q∈x.2.2
   ·rw[if_pos m];rw[decide_eq_true m] at z;exact z
   ·rw[if_neg m];rw[decide_eq_false m] at z;exact z
end
end Pb
namespace Pb
open PySem PySem.Spec PyProof.Rows L2 TL
def iB (l:List Ent) (p q:Pl) (d:af):List Ent:=match Bn l p with
 | some _=>l.map fun e=>if e.1=p then (e.1,e.2.1,e.2.2++[q]) else e
 | none=>l++[(p,d,[q])]
theorem Lm (p q x:Pl):∀l:List Ent,Bn (l.map fun e=>if e.1=p then (e.1,e.2.1,e.2.2++[q]) else e) x=(Bn l x).map fun e=>if e.1=p then (e.1,e.2.1,e.2.2++[q]) else e
 | []=>rfl
 | e::r=>by
  rw[a7]
  have k1:(if e.1=p then (e.1,e.2.1,e.2.2++[q]) else e).1=e.1:=by split <;> rfl
  unfold Bn
  rw[k1]
  by_cases h:e.1=x
  ·rw[if_pos h,if_pos h];rfl
  ·rw[if_neg h,if_neg h];exact Lm p q x r
theorem Hl (e0:Ent) (x:Pl):∀l:List Ent,Bn (l++[e0]) x=match Bn l x with | some e=>some e | none=>if e0.1=x then some e0 else none
 | []=>by simp[Bn]
 | e::r=>by
  rw[iM]
  unfold Bn
  by_cases h:e.1=x
  ·rw[if_pos h,if_pos h]
  ·rw[if_neg h,if_neg h];exact Hl e0 x r
theorem Rq (l:List Ent) (p q:Pl) (d:af) (x:Pl):nb (iB l p q d) x=if x=p then nb l p++[q] else nb l x:=by
 unfold iB
 cases e:Bn l p with
 | some e0=>
  simp only
  have n0:nb l p=e0.2.2:=by unfold nb;rw[e]
  by_cases h:x=p
  ·subst h
   rw[if_pos rfl,n0]
   unfold nb
   rw[Lm,e]
   have z:=(qZ e).2
   simp only[jb]
   rw[if_pos z]
  ·rw[if_neg h]
   unfold nb
   rw[Lm]
   cases e2:Bn l x with
   | none=>rfl
   | some e1=>
    have z:=(qZ e2).2
    simp only[jb]
    rw[if_neg (by rw[z];exact h)]
 | none=>
  simp only
  have n0:nb l p=[]:=by unfold nb;rw[e]
  by_cases h:x=p
  ·subst h
   rw[if_pos rfl,n0]
   unfold nb
   rw[Hl,e]
   simp
  ·rw[if_neg h]
   unfold nb
   rw[Hl]
   cases e2:Bn l x with
   | none=>
    simp only
    rw[if_neg (fun z:p=x=>h z.symm)]
   | some e1=>rfl
theorem U5 (p q:Pl) (l:List Ent):vG (l.map fun e=>if e.1=p then (e.1,e.2.1,e.2.2++[q]) else e)=vG l:=by
 unfold vG
 rw[cz]
 refine eX fun e _=>?_
 show (kk (if e.1=p then (e.1,e.2.1,e.2.2++[q]) else e).1,V.ref (if e.1=p then (e.1,e.2.1,e.2.2++[q]) else e).2.1)=_
 split <;> rfl
theorem keys_map (p q:Pl) (l:List Ent):(l.map fun e=>if e.1=p then (e.1,e.2.1,e.2.2++[q]) else e).map (·.1)=l.map (·.1)/\(l.map fun e=>if e.1=p then (e.1,e.2.1,e.2.2++[q]) else e).map (·.2.1)=l.map (·.2.1):=by
 constructor
 ·rw[cz]
  refine eX fun e _=>?_
  show (if e.1=p then (e.1,e.2.1,e.2.2++[q]) else e).1=_
  split <;> rfl
 ·rw[cz]
  refine eX fun e _=>?_
  show (if e.1=p then (e.1,e.2.1,e.2.2++[q]) else e).2.1=_
  split <;> rfl
theorem RS {l:List Ent} (nd:(l.map (·.1)).Nodup) {e f:Ent} (he:e∈l) (hf:f∈l) (h:e.1=f.1):e=f:=by
 obtain⟨i,hi⟩:=dG he
 obtain⟨j,hj⟩:=dG hf
 have a:(l.map (·.1))[i]?=some e.1:=by rw[aX,hi];rfl
 have b:(l.map (·.1))[j]?=some e.1:=by rw[aX,hj,h];rfl
 have:=Vb nd a b
 subst this
 rw[hi] at hj;exact bQ hj
theorem VQ {l:List Ent} (nd:(l.map (·.2.1)).Nodup) {e f:Ent} (he:e∈l) (hf:f∈l) (h:e.2.1=f.2.1):e=f:=by
 obtain⟨i,hi⟩:=dG he
 obtain⟨j,hj⟩:=dG hf
 have a:(l.map (·.2.1))[i]?=some e.2.1:=by rw[aX,hi];rfl
 have b:(l.map (·.2.1))[j]?=some e.2.1:=by rw[aX,hj,h];rfl
 have:=Vb nd a b
 subst this
 rw[hi] at hj;exact bQ hj
section
def aab (L:Lk) (H H':Hp):Prop:=∀b o,H b=some o->b≠L.j->b∉L.ent.map (·.2.1)->H' b=some o
inductive Uy (A:Ad) (vs:List V) (H:Hp) (Q:VK) (E':XK):Prop
 | mk (a t1 t2:af) (L:Lk) (p q:Pl) (_:vs=[.ref a,.ref t1,.ref t2]) (_:gD A H a L) (_:eJ H t1 p) (_:eJ H t2 q) (_:q∉nb L.ent p) (_:L.ent.length<=10000) (_:(nb L.ent p).length<=10000) (_:∀H' d,H d=none->gD A H' a { L with ent:=iB L.ent p q d }->aab L H H'->Q .iE H')
theorem sU (T:Tx K mg A):dy P w K mg base hX 1 A.oR A.oU ng (Uy A):=by
 exists T.IP,sN,"o"
 ·obtain⟨a,t1,t2,L,p,q,rfl,_⟩:=h
  rfl
 ·obtain⟨a,t1,t2,L,p,q,rfl,l,h1,h2,hq,hE,IF,k⟩:=h
  have hu:=qi hr
  have sl:ao=16777216:=bI
  refine⟨_,aj (cA (i:=3) sN.nd rfl (bC rfl) (Xx hu (aJ (pv 0) rfl) (pv 1) BK ⟨rfl,rfl,rfl,rfl⟩)) (az (uc hu (pv 3) (pv 2) vc rfl)),?_⟩
  refine⟨_,rfl,a,A.eF,L.dx,_,_,rfl,l.ins,T.eE,T.jG,rfl,L.j,rfl,.inr ⟨_,.inl l.jd⟩,_,rfl,fun d hd=>?_⟩
  have s1:bX H (upd H d (.dT [])):=br hd
  have nad:a≠d:=aT l.ins hd
  have njd:L.j≠d:=aT l.jd hd
  have naj:a≠L.j:=eD l.ins l.jd (by intro z;cases z)
  refine⟨vG L.ent,kk p,t1,s1 _ _ l.jd,rfl,s1 _ _ h1,by rw[aa];omega,fun v hv=>?_,fun hv=>?_⟩
  ·rw[yD] at hv
   cases e:Bn L.ent p with
   | none=>rw[e] at hv;cases hv
   | some x=>
    rw[e] at hv
    cases hv
    obtain⟨hx,ex⟩:=qZ e
    have enb:nb L.ent p=x.2.2:=by unfold nb;rw[e]
    rw[enb] at hq IF
    have ndx:x.2.1≠d:=aT (l.JH x hx) hd
    have nax:a≠x.2.1:=eD l.ins (l.JH x hx) (by intro z;cases z)
    have new:putK (S0 x.2.2) (kk q) (V.bl true)=S0 (x.2.2++[q]):=by
     rw[kL _ (by rw[OY,if_neg hq])]
     simp[S0]
    refine⟨_,rfl,_,rfl,x.2.1,_,rfl,Cn.t (kvs:=S0 x.2.2) (k:=kk q) (s1 _ _ (l.JH x hx)) (s1 _ _ h2) (by rw[aa];omega),?_⟩
    rw[new]
    refine k _ d hd ?_ fun b o hb n1 n2=>?_
    ·have ea:iB L.ent p q d=L.ent.map fun e=>if e.1=p then (e.1,e.2.1,e.2.2++[q]) else e:=by unfold iB;rw[e]
     refine⟨?_,?_,?_,?_,?_,?_,?_⟩
     ·rw[aQ nax];exact s1 _ _ l.ins
     ·show upd _ _ _ L.j=some (.dT (vG (iB L.ent p q d)))
      rw[aQ (bK (l.nj x hx)),ea,U5];exact s1 _ _ l.jd
     ·intro f hf
      have hf:f∈iB L.ent p q d:=hf
      rw[ea] at hf
      obtain⟨g,hg,rfl⟩:=a9.mp hf
      by_cases c:g.1=p
      ·have eg:g=x:=RS l.nd hg hx (c.trans ex.symm)
       subst eg
       rw[if_pos c]
       exact aw
      ·rw[if_neg c]
       have ne:g.2.1≠x.2.1:=fun z=>c (by rw[VQ l.nda hg hx z];exact ex)
       rw[aQ ne];exact s1 _ _ (l.JH g hg)
     ·show ((iB L.ent p q d).map (·.1)).Nodup
      rw[ea,(keys_map p q L.ent).1];exact l.nd
     ·show ((iB L.ent p q d).map (·.2.1)).Nodup
      rw[ea,(keys_map p q L.ent).2];exact l.nda
     ·intro f hf
      have hf:f∈iB L.ent p q d:=hf
      rw[ea] at hf
      obtain⟨g,hg,rfl⟩:=a9.mp hf
      by_cases c:g.1=p
      ·have eg:g=x:=RS l.nd hg hx (c.trans ex.symm)
       subst eg
       rw[if_pos c]
       show (g.2.2++[q]).Nodup
       exact yJ (l.Zw g hg) hq
      ·rw[if_neg c];exact l.Zw g hg
     ·intro f hf
      have hf:f∈iB L.ent p q d:=hf
      rw[ea] at hf
      obtain⟨g,hg,rfl⟩:=a9.mp hf
      have z:=l.nj g hg
      show (if g.1=p then (g.1,g.2.1,g.2.2++[q]) else g).2.1≠L.j
      split <;> exact z
    ·rw[aQ (fun z=>n2 (by rw[z];exact a9.mpr ⟨x,hx,rfl⟩))]
     exact s1 _ _ hb
  ·rw[yD] at hv
   have e:Bn L.ent p=none:=by
    cases e:Bn L.ent p with
    | none=>rfl
    | some x=>rw[e] at hv;cases hv
   have new:putK (vG L.ent) (kk p) (V.ref d)=vG (L.ent++[(p,d,[q])]):=by
    rw[kL _ (by rw[yD,e];rfl)]
    simp[vG]
   rw[new]
   have hdd:upd (upd H d (.dT [])) L.j (.dT (vG (L.ent++[(p,d,[q])]))) d=some (.dT []):=by rw[aQ (bK njd),aw]
   have h2':upd (upd H d (.dT [])) L.j (.dT (vG (L.ent++[(p,d,[q])]))) t2=some (.tup ((kk q).map kV)):=by
    rw[aQ (eD h2 l.jd (by intro z;cases z))];exact s1 _ _ h2
   refine⟨_,rfl,_,rfl,d,_,rfl,Cn.t (kvs:=[]) (k:=kk q) hdd h2' (by rw[sl];decide),?_⟩
   refine k _ d hd ?_ fun b o hb n1 n2=>?_
   ·have ea:iB L.ent p q d=L.ent++[(p,d,[q])]:=by unfold iB;rw[e]
    have mem:∀f,f∈iB L.ent p q d->f∈L.ent\/f=(p,d,[q]):=fun f hf=>by
     rw[ea] at hf
     rcases bx.mp hf with z | z
     ·exact .inl z
     ·exact .inr (aY.mp z)
    have nd0:d∉L.ent.map (·.2.1):=fun z=>by
     obtain⟨g,hg,eg⟩:=a9.mp z
     exact aT (l.JH g hg) hd eg
    refine⟨?_,?_,?_,?_,?_,?_,?_⟩
    ·rw[aQ nad,aQ naj];exact s1 _ _ l.ins
    ·show upd _ _ _ L.j=some (.dT (vG (iB L.ent p q d)))
     rw[aQ njd,aw,ea]
    ·intro f hf
     rcases mem f hf with z | z
     ·have n1:f.2.1≠d:=aT (l.JH f z) hd
      rw[aQ n1,aQ (l.nj f z)];exact s1 _ _ (l.JH f z)
     ·rw[z];exact aw
    ·show ((iB L.ent p q d).map (·.1)).Nodup
     rw[ea,bh]
     exact yJ l.nd fun z=>by
      obtain⟨g,hg,eg⟩:=a9.mp z
      exact N3 e g hg eg
    ·show ((iB L.ent p q d).map (·.2.1)).Nodup
     rw[ea,bh]
     exact yJ l.nda nd0
    ·intro f hf
     rcases mem f hf with z | z
     ·exact l.Zw f z
     ·rw[z];simp
    ·intro f hf
     rcases mem f hf with z | z
     ·exact l.nj f z
     ·rw[z];exact bK njd
   ·rw[aQ (aT hb hd),aQ n1];exact s1 _ _ hb
inductive UB (A:Ad) (vs:List V) (H:Hp) (Q:VK) (E':XK):Prop
 | mk (a t:af) (L:Lk) (p:Pl) (_:vs=[.ref a,.ref t]) (_:gD A H a L) (_:eJ H t p) (_:∀(H':Hp) (D:af) (M:List (af×Pl)),bX H H'->(M.map (·.2)).Perm (nb L.ent p)->(M.map (·.2)).Pairwise TX->(∀x∈M,eJ H' x.1 x.2)->H' D=some (.lst (M.map fun x=>V.ref x.1))->H D=none->Q (.ref D) H')
theorem k9 (T:Tx K mg A):dy P w K mg base hX 1 A.qp A.qy oN (UB A):=by
 exists T.LJ,EC,"o"
 ·obtain⟨a,t,L,p,rfl,_⟩:=h
  rfl
 ·obtain⟨a,t,L,p,rfl,l,h1,k⟩:=h
  have hu:=qi hr
  refine⟨_,az (a_ (bT (Od rfl) rfl T.GJ (by decide +kernel) (ab (Gi hu (aJ (pv 0) rfl) (pv 1) BK ⟨rfl,rfl,rfl,rfl⟩) aq))),?_⟩
  refine⟨_,rfl,a,A.eF,L.dx,_,_,rfl,l.ins,T.eE,T.jG,rfl,L.j,rfl,.inr ⟨_,.inl l.jd⟩,_,rfl,fun d hd=>?_⟩
  have s1:bX H (upd H d (.dT [])):=br hd
  refine⟨_,gK.t (k:=kk p) (s1 _ _ l.jd) (s1 _ _ h1),?_⟩
  rw[yD]
  have fin:∀(M:List (af×Pl)) (q:af),(M.map (·.2)).Perm (nb L.ent p)->(M.map (·.2)).Pairwise TX->(∀x∈M,eJ (upd H d (.dT [])) x.1 x.2)->upd H d (.dT []) q=none->Q (.ref q) (upd (upd H d (.dT [])) q (.lst (M.map fun x=>V.ref x.1))):=fun M q a1 a2 a3 a4=>
   k _ q M (s1.trans (br a4)) a1 a2 (fun x hx=>br a4 _ _ (a3 x hx)) aw (s1.free a4)
  cases e:Bn L.ent p with
  | none=>
   have enb:nb L.ent p=[]:=by unfold nb;rw[e]
   rw[enb] at fin
   exact⟨d,[],[],rfl,.inl aw,rfl,fin⟩
  | some x=>
   obtain⟨hx,ex⟩:=qZ e
   have enb:nb L.ent p=x.2.2:=by unfold nb;rw[e]
   rw[enb] at fin
   exact⟨x.2.1,S0 x.2.2,x.2.2,rfl,.inl (s1 _ _ (l.JH x hx)),by rw[cz];rfl,fin⟩
end
end Pb
namespace Pb
open PySem PySem.Spec PyProof.Rows L2 TL
theorem Ox (l:List Ent) (p q:Pl) (d:af):(iB l p q d).length<=l.length+1:=by
 unfold iB
 split <;> simp
theorem LF {l:List Ent} {p q:Pl} {d x:af} (h:x∈(iB l p q d).map (·.2.1)):x∈l.map (·.2.1)\/x=d:=by
 unfold iB at h
 split at h
 ·rw[(keys_map p q l).2] at h;exact .inl h
 ·rw[bh] at h
  rcases bx.mp h with z | z
  ·exact .inl z
  ·exact .inr (by simpa using z)
theorem Ow {l:List Ent} {p q:Pl} {d x:af} (h:x∈l.map (·.2.1)):x∈(iB l p q d).map (·.2.1):=by
 unfold iB
 split
 ·rw[(keys_map p q l).2];exact h
 ·rw[bh];exact bJ _ h
section
structure Wi (L L':Lk) (p q:Pl) (H:Hp):Prop where
 j:L'.j=L.j
 dx:L'.dx=L.dx
 vD:L'.vD=L.vD+1
 nb:∀x,nb L'.ent x=if x=q then nb L.ent q++[p] else if x=p then nb L.ent p++[q] else nb L.ent x
 len:L'.ent.length<=L.ent.length+2
 ad:∀x∈L'.ent.map (·.2.1),x∈L.ent.map (·.2.1)\/H x=none
 old:∀x∈L.ent.map (·.2.1),x∈L'.ent.map (·.2.1)
inductive aaS (A:Ad) (vs:List V) (H:Hp) (Q:VK) (E':XK):Prop
 | mk (a t1 t2:af) (L:Lk) (p q:Pl) (_:vs=[.ref a,.ref t1,.ref t2]) (_:gD A H a L) (_:eJ H t1 p) (_:eJ H t2 q) (_:p≠q) (_:∀x y,y∈nb L.ent x->x∈nb L.ent y) (_:L.ent.length<=9000) (_:∀x,(nb L.ent x).length<=9000) (_:q∈nb L.ent p->∀H',bX H H'->Q .iE H') (_:q∉nb L.ent p->∀H' L',gD A H' a L'->Wi L L' p q H->(∀b o,H b=some o->b≠a->b≠L.j->b∉L.ent.map (·.2.1)->H' b=some o)->Q .iE H')
theorem BN (T:Tx K mg A):dy P w K mg base hX 2 A.xW A.yf uf (aaS A):=by
 exists T.Tu,Km,"o"
 ·obtain⟨a,t1,t2,L,p,q,rfl,_⟩:=h
  rfl
 ·obtain⟨a,t1,t2,L,p,q,rfl,l,h1,h2,npq,sy,hE,IF,k1,k2⟩:=h
  refine⟨_,aj (cV (fB (dY (pv 0) T.eE T.xC (ux T) hr T.yp .nil bR (ab (pv 1) (ab (pv 2) aq)))) (az Xt) bO)
   (aj (eI (dY (pv 0) T.eE T.vf (sU T) hr T.vi .nil bR (ab (pv 1) (ab (pv 2) aq))))
   (aj (eI (dY (pv 0) T.eE T.vf (sU T) hr T.vi .nil bR (ab (pv 2) (ab (pv 1) aq))))
   (az (Jx (pv 0) aS Vv)))),?_⟩
  refine⟨_,rfl,a,L.dx,_,rfl,l.ins,rfl,_,rfl,_,rfl,a,t1,t2,L,p,q,rfl,l,h1,h2,fun H1 s1=>⟨_,rfl,?_⟩⟩
  by_cases m:q∈nb L.ent p
  ·rw[decide_eq_true m]
   exact b9 (k1 m H1 s1)
  ·rw[decide_eq_false m]
   have l1:=l.same s1
   refine bY ⟨_,rfl,a,L.dx,_,rfl,l1.ins,rfl,_,rfl,_,rfl,a,t1,t2,L,p,q,rfl,l1,s1 _ _ h1,s1 _ _ h2,m,by omega,by have:=IF p;omega,fun H2 d2 hd2 l2 kp2=>?_⟩
   have t1j:∀{t:af} {x:Pl},eJ H1 t x->eJ H2 t x:=fun {t x} ht=>kp2 _ _ ht (eD ht l1.jd (by intro z;cases z)) fun z=>by
    obtain⟨g,hg,eg⟩:=a9.mp z
    exact eD ht (l1.JH g hg) (by intro z;cases z) eg.symm
   have n1:∀x,nb (iB L.ent p q d2) x=if x=p then nb L.ent p++[q] else nb L.ent x:=Rq L.ent p q d2
   have pq:p∉nb (iB L.ent p q d2) q:=by
    rw[n1,if_neg (bK npq)]
    exact fun z=>m (sy _ _ z)
   have ZA:=Ox L.ent p q d2
   refine⟨_,rfl,a,L.dx,_,rfl,l2.ins,rfl,_,rfl,_,rfl,a,t2,t1,{ L with ent:=iB L.ent p q d2 },q,p,rfl,l2,t1j (s1 _ _ h2),t1j (s1 _ _ h1),pq,by show (iB L.ent p q d2).length<=_;omega,?_,fun H3 d3 hd3 l3 kp3=>?_⟩
   ·show (nb (iB L.ent p q d2) q).length<=_
    rw[n1,if_neg (bK npq)]
    have:=IF q;omega
   refine⟨_,rfl,a,A.eF,L.dx,_,_,rfl,l3.ins,T.eE,T.kQ,rfl,_,_,rfl,rfl,L.dx,_,l3.ins,by show 2<1000;decide,?_⟩
   have n2:∀x,nb (iB (iB L.ent p q d2) q p d3) x=if x=q then nb (iB L.ent p q d2) q++[p] else nb (iB L.ent p q d2) x:=Rq _ q p d3
   refine k2 m _ { L with ent:=iB (iB L.ent p q d2) q p d3,vD:=L.vD+1 } ?_ ⟨rfl,rfl,rfl,fun x=>?_,?_,fun x hx=>?_,fun x hx=>Ow (Ow hx)⟩ fun b o hb na nj nn=>?_
   ·have nja:L.j≠a:=fun z=>eD l3.ins l3.jd (by intro z;cases z) z.symm
    refine⟨aw,by rw[aQ nja];exact l3.jd,fun e he=>?_,l3.nd,l3.nda,l3.Zw,l3.nj⟩
    have ne:e.2.1≠a:=fun z=>eD l3.ins (l3.JH e he) (by intro z;cases z) z.symm
    rw[aQ ne];exact l3.JH e he
   ·show nb (iB (iB L.ent p q d2) q p d3) x=_
    rw[n2 x,n1 q,if_neg (bK npq)]
    by_cases c:x=q
    ·rw[if_pos c,if_pos c]
    ·rw[if_neg c,if_neg c,n1 x]
   ·have:=Ox (iB L.ent p q d2) q p d3
    show (iB (iB L.ent p q d2) q p d3).length<=_
    omega
   ·have hx:x∈(iB (iB L.ent p q d2) q p d3).map (·.2.1):=hx
    have old:∀{y:af},H2 y=none->y∈L.ent.map (·.2.1)\/H y=none:=fun {y} hy=>by
     by_cases c:y∈L.ent.map (·.2.1)
     ·exact .inl c
     ·refine .inr ?_
      cases e:H y with
      | none=>rfl
      | some o=>
       have e1:=s1 _ _ e
       by_cases cj:y=L.j
       ·subst cj
        have:=l2.jd
        rw[hy] at this;cases this
       ·have:=kp2 _ _ e1 cj c
        rw[hy] at this;cases this
    rcases LF hx with z | z
    ·rcases LF z with z | z
     ·exact .inl z
     ·rw[z];exact .inr (s1.free hd2)
    ·rw[z];exact old hd3
   ·rw[aQ na]
    have b2:=kp2 _ _ (s1 _ _ hb) nj nn
    refine kp3 _ _ b2 nj fun z=>?_
    rcases LF z with z | z
    ·exact nn z
    ·rw[z] at hb
     have:=s1 _ _ hb
     rw[hd2] at this;cases this
end
end Pb
namespace Pb
open PySem PySem.Spec PyProof.Rows L2 TL
def vK (p q:Pl):Prop:=p.1<q.1\/(p.1=q.1/\p.2<q.2)
instance (p q:Pl):Decidable (vK p q):=by unfold vK;infer_instance
theorem K2 (p:Pl):¬ vK p p:=by unfold vK;omega
theorem PN (p q r:Pl) (h1:vK p q) (h2:vK q r):vK p r:=by unfold vK at *;omega
theorem Vi {p q:Pl} (h:TX p q) (n:p≠q):vK p q:=by
 unfold TX at h
 unfold vK
 have:¬ (p.1=q.1/\p.2=q.2):=fun e=>n (J7 e.1 e.2)
 omega
def NL (a b:Pl×Pl):Prop:=vK a.1 b.1\/(a.1=b.1/\vK a.2 b.2)
theorem NK (a:Pl×Pl):¬ NL a a:=by
 rintro (h | ⟨_,h⟩)
 ·exact K2 _ h
 ·exact K2 _ h
theorem Rv (a b c:Pl×Pl) (h1:NL a b) (h2:NL b c):NL a c:=by
 rcases h1 with h1 | ⟨e1,h1⟩ <;> rcases h2 with h2 | ⟨e2,h2⟩
 ·exact .inl (PN _ _ _ h1 h2)
 ·exact .inl (e2▸h1)
 ·exact .inl (e1▸h2)
 ·exact .inr ⟨e1.trans e2,PN _ _ _ h1 h2⟩
theorem Kr {l k:List Pl} (h:l.Pairwise TX) (p:l.Perm k) (nd:k.Nodup):l.Pairwise vK:=
 (h.and (p.nodup_iff.mpr nd)).imp fun z=>Vi z.1 z.2
theorem xA {A:Ad} {H:Hp} {a:af} {L:Lk} (l:gD A H a L) (p:Pl):(nb L.ent p).Nodup:=by
 unfold nb
 cases e:Bn L.ent p with
 | none=>simp
 | some x=>exact l.Zw x (qZ e).1
theorem Zx {l:List Ent} {p q:Pl} (h:q∈nb l p):p∈l.map (·.1):=by
 unfold nb at h
 cases e:Bn l p with
 | none=>rw[e] at h;cases h
 | some x=>obtain⟨a,b⟩:=qZ e;exact a9.mpr ⟨x,a,b⟩
abbrev Pw (R:List (Pl×Pl)) (p:Pl):List (Pl×Pl):=R.filter fun r=>decide (r.1=p)
theorem Vr {R:List (Pl×Pl)} {l:List Ent} (hs:R.Pairwise NL) (hm:∀p q,(p,q)∈R<->q∈nb l p/\vK p q) (p:Pl) {ms:List Pl} (h1:ms.Pairwise vK) (h2:∀q,q∈ms<->q∈nb l p) :
  (ms.filter fun q=>decide (vK p q)).map (fun q=>(p,q))=Pw R p:=by
 refine kJ NK Rv ?_ (hs.filter _) fun x=>?_
 ·rw[jO]
  exact (h1.filter _).imp fun z=>.inr ⟨rfl,z⟩
 ·rw[a9,c8]
  constructor
  ·rintro ⟨q,hq,rfl⟩
   rw[c8] at hq
   exact⟨(hm p q).mpr ⟨(h2 q).mp hq.1,of_decide_eq_true hq.2⟩,decide_eq_true rfl⟩
  ·rintro ⟨hx,e⟩
   obtain⟨y,q⟩:=x
   have e:y=p:=of_decide_eq_true e
   subst e
   obtain⟨a,b⟩:=(hm y q).mp hx
   exact⟨q,c8.mpr ⟨(h2 q).mpr a,decide_eq_true b⟩,rfl⟩
theorem U4 {R:List (Pl×Pl)} {l:List Ent} (hs:R.Pairwise NL) (hm:∀p q,(p,q)∈R<->q∈nb l p/\vK p q) {ns:List Pl} (h1:ns.Pairwise vK) (h2:∀p,p∈ns<->p∈l.map (·.1)):ns.flatMap (Pw R)=R:=by
 refine kJ NK Rv ?_ hs fun x=>?_
 ·rw[QR]
  refine⟨fun p _=>hs.filter _,h1.imp fun {a b} z x hx y hy=>?_⟩
  have e1:x.1=a:=of_decide_eq_true (c8.mp hx).2
  have e2:y.1=b:=of_decide_eq_true (c8.mp hy).2
  exact .inl (by rw[e1,e2];exact z)
 ·rw[FP]
  constructor
  ·rintro ⟨p,_,hx⟩;exact (c8.mp hx).1
  ·intro hx
   obtain⟨p,q⟩:=x
   exact⟨p,(h2 p).mpr (Zx ((hm p q).mp hx).1),c8.mpr ⟨hx,decide_eq_true rfl⟩⟩
theorem ac7 (p q:Pl):HT.lexLt [p.1,p.2] [q.1,q.2]=decide (vK p q):=by
 rw[bq,decide_eq_true_eq]
 unfold vK
 by_cases h1:p.1=q.1
 ·by_cases h2:p.2=q.2
  ·simp[HT.lexLt,h1,h2]
  ·simp[HT.lexLt,h1,h2]
 ·simp[HT.lexLt,h1]
def nZ (H:Hp) (as:List af) (R:List (Pl×Pl)):Prop:=Paired (fun a r=>∃t1 t2,H a=some (.tup [.ref t1,.ref t2])/\eJ H t1 r.1/\eJ H t2 r.2) as R
theorem nZ.keep {H H':Hp} {as:List af} {R:List (Pl×Pl)} (h:nZ H as R) (k:∀b xs,H b=some (.tup xs)->H' b=some (.tup xs)):nZ H' as R:=
 Paired.PF h fun a r ⟨t1,t2,h1,h2,h3⟩=>⟨t1,t2,k _ _ h1,k _ _ h2,k _ _ h3⟩
theorem nZ.len {H:Hp} {as:List af} {R:List (Pl×Pl)} (h:nZ H as R):as.length=R.length:=eK h
section
inductive W_ (A:Ad) (vs:List V) (H:Hp) (Q:VK) (E':XK):Prop
 | mk (a:af) (L:Lk) (R:List (Pl×Pl)) (_:vs=[.ref a]) (_:gD A H a L) (_:R.Pairwise NL) (_:∀p q,(p,q)∈R<->q∈nb L.ent p/\vK p q) (_:R.length<=1000000) (_:∀H' D as,bX H H'->H' D=some (.lst (as.map V.ref))->nZ H' as R->H D=none->Q (.ref D) H')
theorem qd (T:Tx K mg A):dy P w K mg base hX 2 A.rQ A.rW p_ (W_ A):=by
 exists T.OB,me,"o"
 ·obtain⟨a,L,R,rfl,_⟩:=h
  rfl
 ·obtain⟨a,L,R,rfl,l,hs,hm,hE,k⟩:=h
  have hu:=qi hr
  have sl:ao=16777216:=bI
  refine⟨_,aj (cA (i:=1) me.nd rfl (bC rfl) (c9 aq))
   (aj (lF cS rfl (fV (bT (Od rfl) rfl T.GJ (by decide +kernel) (ab (aJ (pv 0) rfl) aq))) (df (i:=2) me.nd rfl (bC rfl))
    (az (lF cS rfl (fV (dY (pv 0) T.eE T.mB (k9 T) hr T.mH .nil bR (ab (pv 2) aq))) (df (i:=3) me.nd rfl (bC rfl))
     (az (cV (cg (Zu hr.YX) (pv 2) (pv 3) (cD _))
      (az (eI (j8 bG cH cG gC (pv 1) (ab (ki (ab (pv 2) (ab (pv 3) aq))) aq)))) bO)))))
   (az (a_ (pv 1)))),?_⟩
  refine⟨cu _,fun F hF=>?_⟩
  have s0:bX H (upd H F (.lst [])):=br hF
  have l0:=l.same s0
  refine⟨_,rfl,a,A.eF,L.dx,_,_,rfl,l0.ins,T.eE,T.jG,rfl,L.j,vG L.ent,L.ent.map (·.1),rfl,.inl l0.jd,by rw[cz,cz];rfl,fun N qa p1 p2 p3 hq=>?_⟩
  have sq:bX (upd H F (.lst [])) (upd (upd H F (.lst [])) qa (.lst (N.map fun x=>V.ref x.1))):=br hq
  have nFq:F≠qa:=fun z=>by rw[<- z,aw] at hq;cases hq
  have hqH:H qa=none:=s0.free hq
  have rise:(N.map (·.2)).Pairwise vK:=Kr p2 p1 l.nd
  have whole:(N.map (·.2)).flatMap (Pw R)=R:=U4 hs hm rise fun p=>p1.mem_iff
  have fm:∀M:List (af×Pl),(M.map (·.2)).flatMap (Pw R)=M.flatMap fun x=>Pw R x.2:=fun M=>by rw[List.flatMap_map]
  rw[fm] at whole
  have pre:∀i,((N.take i).flatMap fun x=>Pw R x.2).length<=R.length:=fun i=>by
   have e:(N.take i).flatMap (fun x=>Pw R x.2)++(N.drop i).flatMap (fun x=>Pw R x.2)=R:=by rw[<- gB,om,whole]
   have:=congrArg j_ e
   rw[aA] at this
   omega
  refine⟨qa,rfl,⟨_,cP.of aw⟩,kS (K:=K) (a:=qa) (xs:=N.map fun x=>V.ref x.1) (fun i σ H'=>∃(v2 v3:Option V) (as:List af),σ=[some (.ref a),some (.ref F),v2,v3]/\bX H H'/\H' qa=some (.lst (N.map fun x=>V.ref x.1))/\H' F=some (.lst (as.map V.ref)) /\
    nZ H' as ((N.take i).flatMap fun x=>Pw R x.2)/\∀x∈N,eJ H' x.1 x.2)
   ⟨none,none,[],rfl,s0.trans sq,aw,by rw[aQ nFq,aw];rfl,.nil,fun x hx=>sq _ _ (p3 x hx)⟩ (fun i σ H' _ ⟨_,_,_,_,_,z,_⟩=>cP.of z) ?_ ?_⟩
  ·rintro i y σ H' hy ⟨v2,v3,as,rfl,s1,hqa,hFl,pa,tN⟩
   obtain⟨x,hx,rfl⟩:=get_map hy
   have tx0:=tN x (aN hx)
   have l1:=l.same s1
   refine⟨_,rfl,a,L.dx,_,rfl,l1.ins,rfl,_,rfl,a,x.1,L,x.2,rfl,l1,tx0,fun H2 D M s2 m1 m2 m3 hD hD0=>?_⟩
   have riseM:(M.map (·.2)).Pairwise vK:=Kr m2 m1 (xA l x.2)
   have JH:((M.map (·.2)).filter fun q=>decide (vK x.2 q)).map (fun q=>(x.2,q))=Pw R x.2:=Vr hs hm x.2 riseM fun q=>m1.mem_iff
   have tk:(N.take (i+1)).flatMap (fun x=>Pw R x.2)=(N.take i).flatMap (fun x=>Pw R x.2)++Pw R x.2:=by rw[take_snoc hx,gB];simp
   have nFD:F≠D:=aT hFl hD0
   have nqD:qa≠D:=aT hqa hD0
   refine⟨D,rfl,⟨_,cP.of hD⟩,kS (K:=K) (a:=D) (xs:=M.map fun x=>V.ref x.1) (fun j σ H3=>∃(v3:Option V) (as:List af),σ=[some (.ref a),some (.ref F),some (.ref x.1),v3]/\bX H H3/\H3 qa=some (.lst (N.map fun x=>V.ref x.1))/\H3 D=some (.lst (M.map fun x=>V.ref x.1))/\H3 F=some (.lst (as.map V.ref)) /\
     nZ H3 as ((N.take i).flatMap (fun x=>Pw R x.2)++(((M.take j).map (·.2)).filter fun q=>decide (vK x.2 q)).map fun q=>(x.2,q))/\(∀y∈N,eJ H3 y.1 y.2)/\∀y∈M,eJ H3 y.1 y.2)
    ⟨v3,as,rfl,s1.trans s2,s2 _ _ hqa,hD,s2 _ _ hFl,by simpa using pa.keep fun b xs z=>s2 _ _ z,fun y hy=>s2 _ _ (tN y hy),m3⟩ (fun j σ H3 _ ⟨_,_,_,_,_,z,_⟩=>cP.of z) ?_ ?_⟩
   ·rintro j y σ H3 hy ⟨v3',as',rfl,s3,hqa3,hD3,hF3,pa3,tN3,tM3⟩
    obtain⟨z,hz,rfl⟩:=get_map hy
    have tz:=tM3 z (aN hz)
    have tx3:=tN3 x (aN hx)
    have tkj:(M.take (j+1)).map (·.2)=(M.take j).map (·.2)++[z.2]:=by rw[take_snoc hz,bh];rfl
    refine⟨_,rfl,_,rfl,x.1,z.1,[x.2.1,x.2.2],[z.2.1,z.2.2],rfl,rfl,iC.of tx3,iC.of tz,_,rfl,?_⟩
    rw[ac7]
    by_cases c:vK x.2 z.2
    ·rw[decide_eq_true c]
     refine b9 ⟨_,rfl,.inl ⟨rfl,_,cP.of hF3⟩,_,rfl,_,rfl,by show 2<=ao;decide,fun t ht=>?_⟩
     have st:bX H3 (upd H3 t (.tup [.ref x.1,.ref z.1])):=br ht
     have nFt:F≠t:=aT hF3 ht
     have lenA:as'.length<2000000:=by
      rw[pa3.len,aA]
      have h1:=pre (i+1)
      rw[tk,aA] at h1
      have h2:((((M.take j).map (·.2)).filter fun q=>decide (vK x.2 q)).map fun q=>(x.2,q)).length<=(Pw R x.2).length:=by
       rw[<- JH,aa,aa]
       exact (((Ww j M).map (·.2)).filter _).length_le
      omega
     refine⟨F,_,_,rfl,rfl,st _ _ hF3,by rw[aa];omega,?_⟩
     have kt:∀b xs,H3 b=some (.tup xs)->upd (upd H3 t (.tup [.ref x.1,.ref z.1])) F (.lst (as'.map V.ref++[.ref t])) b=some (.tup xs):=fun b xs e=>by
      rw[aQ (eD e hF3 (by intro z;cases z))];exact st _ _ e
     have keep:∀b o,H3 b=some o->b≠F->upd (upd H3 t (.tup [.ref x.1,.ref z.1])) F (.lst (as'.map V.ref++[.ref t])) b=some o:=fun b o e n=>by rw[aQ n];exact st _ _ e
     refine⟨_,as'++[t],rfl,fun b o e=>keep b o (s3 b o e) (aT e hF),keep _ _ hqa3 (bK nFq),keep _ _ hD3 (bK nFD),by rw[aw,bh];rfl,?_,fun y hy=>kt _ _ (tN3 y hy),fun y hy=>kt _ _ (tM3 y hy)⟩
     rw[tkj,eP,bh]
     have e1:([z.2].filter fun q=>decide (vK x.2 q))=[z.2]:=by simp[c]
     rw[e1,<- cF]
     refine sv (pa3.keep kt) ⟨x.1,z.1,?_,kt _ _ tx3,kt _ _ tz⟩
     rw[aQ (bK nFt),aw]
    ·rw[decide_eq_false c]
     refine bY ⟨_,as',rfl,s3,hqa3,hD3,hF3,?_,tN3,tM3⟩
     rw[tkj,eP]
     have e1:([z.2].filter fun q=>decide (vK x.2 q))=[]:=by simp[c]
     rw[e1,dw]
     exact pa3
   ·rintro σ H3 ⟨v3',as',rfl,s3,hqa3,hD3,hF3,pa3,tN3,tM3⟩
    rw[aa,bM,JH] at pa3
    exact⟨_,_,as',rfl,s3,hqa3,hF3,by rw[tk];exact pa3,tN3⟩
  ·rintro σ H' ⟨v2,v3,as,rfl,s1,hqa,hFl,pa,tN⟩
   rw[aa,bM,whole] at pa
   exact⟨_,rfl,k H' F as s1 hFl pa hF⟩
end
end Pb
namespace Pb
open PySem PySem.Spec PyProof.Rows L2 TL
open Vbsoab (provAt exactly powerOf placeOf cutAt shoreOf)
abbrev wV (x:List Nat):V:=.str (tx x)
def zE:Option Nat->V
 | none=>.int (-1)
 | some k=>.int k
def Il (p:cJ) (s:af):List (Str×V):=[("kind",.int p.kind),("name",wV p.name),("short",wV p.short),("shores",.ref s),("centre",.bl p.centre),("home",zE p.home)]
def unF (u:iX) (t:af):List (Str×V):=[("power",.int u.power),("fleet",.bl u.fleet),("place",.ref t)]
structure Bd where
 b:af
 dx:af
 pw:af
 pv:af
 bw:af
 ld:af
 se:af
 ei:af
 un:af
 ps:List af
 sh:List af
 us:List af
 L0:Lk
 L1:Lk
 L2:Lk
 kw:List (Key×V)
def Z8 (B:Bd):List (Str×V):=[("powers",.ref B.pw),("provinces",.ref B.pv),("by_word",.ref B.bw),("land",.ref B.ld),("sea",.ref B.se),("either",.ref B.ei),("units",.ref B.un)]
def nA (x:Nat):Pl:=((x:Int),0)
def nF (x:Nat):Pl:=(((x / 4:Nat):Int),((x % 4:Nat):Int))
abbrev eQ (L:Lk):List af:=L.j::L.ent.map (·.2.1)
structure dB (A:Ad) (H:Hp) (B:Bd) (m:aB):Prop where
 ins:H B.b=some (.ins A.aK B.dx (Z8 B))
 pw:H B.pw=some (.lst (m.powers.map wV))
 pv:H B.pv=some (.lst (B.ps.map V.ref))
 bw:H B.bw=some (.dK B.kw)
 un:H B.un=some (.lst (B.us.map V.ref))
 l0:gD A H B.ld B.L0
 l1:gD A H B.se B.L1
 l2:gD A H B.ei B.L2
 tF:B.ps.length=m.provinces.length
 shl:B.sh.length=m.provinces.length
 FU:B.us.length=m.starts.length
 prov:∀(i:Nat) (a s:af),B.ps[i]?=some a->B.sh[i]?=some s->(∃dx,H a=some (.ins A.aO dx (Il (ag m i) s)))/\H s=some (.lst ((ag m i).shores.map wV))
 unit:∀(i:Nat) (a:af) (u:iX),B.us[i]?=some a->m.starts[i]?=some u->∃dx t,H a=some (.ins A.gr dx (unF u t))/\eJ H t ((u.prov:Int),(u.shore:Int))
 words:∀x,dW B.kw (bB (tx x))=(a8 m x).map fun i=>V.int i
 PU:∀p q,q∈nb B.L0.ent p<->∃x y,p=nA x/\q=nA y/\bU m.land x y=true
 PR:∀p q,q∈nb B.L1.ent p<->∃x y,p=nF x/\q=nF y/\bU m.sea x y=true
 SS:∀p q,q∈nb B.L2.ent p<->∃x y,p=nA x/\q=nA y/\Z' m x y
 t0:B.L0.vD=m.land.length
 t1:B.L1.vD=m.sea.length
 dl:B.pw≠B.pv/\B.pw≠B.un/\B.pv≠B.un/\∀s∈B.sh,s≠B.pw/\s≠B.pv/\s≠B.un
 dp:B.ps.Nodup
 Td:∀x∈eQ B.L0,x∉eQ B.L1
 VZ:∀x∈eQ B.L0,x∉eQ B.L2
 Tc:∀x∈eQ B.L1,x∉eQ B.L2
 SV:(B.kw.map (·.1)).Nodup
 RA:B.kw.length<=2*m.provinces.length
 e0:B.L0.ent.length<=2*m.land.length
 e1:B.L1.ent.length<=2*m.sea.length
 e2:B.L2.ent.length<=2*(m.land.length+m.sea.length)
theorem dB.same {A:Ad} {H H':Hp} {B:Bd} {m:aB} (l:dB A H B m) (s:bX H H'):dB A H' B m:=
 ⟨s _ _ l.ins,s _ _ l.pw,s _ _ l.pv,s _ _ l.bw,s _ _ l.un,l.l0.same s,l.l1.same s,l.l2.same s,l.tF,l.shl,l.FU,
  fun i a t h1 h2=>let ⟨⟨dx,z⟩,y⟩:=l.prov i a t h1 h2;⟨⟨dx,s _ _ z⟩,s _ _ y⟩,
  fun i a u h1 h2=>let ⟨dx,t,z,y⟩:=l.unit i a u h1 h2;⟨dx,t,s _ _ z,s _ _ y⟩,
  l.words,l.PU,l.PR,l.SS,l.t0,l.t1,l.dl,l.dp,l.Td,l.VZ,l.Tc,l.SV,l.RA,l.e0,l.e1,l.e2⟩
theorem dB.pa {A:Ad} {H:Hp} {B:Bd} {m:aB} (l:dB A H B m) {i:Nat} (hi:i<m.provinces.length) :
  ∃a s dx,B.ps[i]?=some a/\B.sh[i]?=some s/\H a=some (.ins A.aO dx (Il (ag m i) s))/\H s=some (.lst ((ag m i).shores.map wV)):=by
 have h1:i<B.ps.length:=by rw[l.tF];exact hi
 have h2:i<B.sh.length:=by rw[l.shl];exact hi
 obtain⟨⟨dx,z⟩,y⟩:=l.prov i _ _ (aR h1) (aR h2)
 exact⟨_,_,dx,aR h1,aR h2,z,y⟩
theorem B6 (l:List (List Nat)):(l.map wV).all sY=true:=by rw[mU];exact cI.mpr fun _ _=>rfl
theorem B8 (x y:List Nat):LS (wV x) (wV y)=(x==y):=by
 show (tx x==tx y)=(x==y)
 rw[bq,beq_iff_eq,beq_iff_eq,O0]
theorem Vw (x:List Nat) (l:List (List Nat)):JI (wV x) (l.map wV)=(l.findIdx? fun y=>y==x).isSome:=by
 unfold JI
 rw[OS]
 induction l with
 | nil=>rfl
 | cons a r ih=>
  rw[ju,rb]
  show (LS (wV a) (wV x)||_)=_
  rw[B8]
  cases a==x with
  | true=>rfl
  | false=>
   rw[L6,if_neg bu,sx]
   exact ih
theorem YI {x:List Nat} {l:List (List Nat)} {k:Nat} (h:(l.findIdx? fun y=>y==x)=some k) :
  (l.map wV)[k]?=some (wV x)/\∀(j:Nat) (z':V),j<k->(l.map wV)[j]?=some z'->LS z' (wV x)=false:=by
 obtain⟨hlt,h1,h2⟩:=gU.mp h
 refine⟨by rw[aX,aR hlt,eq_of_beq h1];rfl,fun j z' hj hz=>?_⟩
 have hjl:j<l.length:=by omega
 rw[aX,aR hjl] at hz
 have e:wV l[j]=z':=bQ hz
 rw[<- e,B8]
 have:=h2 j hj
 simpa using this
section
inductive UA (A:Ad) (vs:List V) (H:Hp) (Q:VK) (E':XK):Prop
 | mk (B:Bd) (m:aB) (t:af) (i:Nat) (s:Int) (_:vs=[.ref B.b,.ref t]) (_:dB A H B m) (_:eJ H t ((i:Int),s)) (_:i<m.provinces.length) (_:Q (.int (ag m i).kind) H)
theorem nu (T:Tx K mg A):dy P w K mg base hX 1 A.oS A.oV nh (UA A):=by
 exists T.IQ,CH,"o"
 ·obtain⟨B,m,t,i,s,rfl,_⟩:=h
  rfl
 ·obtain⟨B,m,t,i,s,rfl,l,ht,hi,k⟩:=h
  obtain⟨a,sa,dx,e1,e2,e3,e4⟩:=l.pa hi
  refine⟨_,az (a_ (aJ (bW b8 (aJ (pv 0) rfl) (bW dH (pv 1) aS (fun _ _=>rfl)) (fun _ _=>rfl)) rfl)),?_⟩
  exact⟨_,rfl,B.b,A.aK,B.dx,_,_,rfl,l.ins,T.aV,T.bA,rfl,_,rfl,t,_,0,_,rfl,rfl,iC.of ht,aW (j:=0) rfl,B.pv,_,_,_,rfl,rfl,cP.of l.pv,aW (j:=i) (by rw[aX,e1];rfl),
   a,A.aO,dx,_,_,rfl,e3,T.bg,T.fL,rfl,k⟩
def ac2:Option Nat->V
 | none=>.iE
 | some k=>.int k
inductive Ih (A:Ad) (vs:List V) (H:Hp) (Q:VK) (E':XK):Prop
 | mk (B:Bd) (m:aB) (x:List Nat) (_:vs=[.ref B.b,wV x]) (_:dB A H B m) (_:Q (ac2 (eZ m x)) H)
theorem mQ (T:Tx K mg A):dy P w K mg base hX 1 A.jJ A.jL jh (Ih A):=by
 exists T.Bl,vF,"o"
 ·obtain⟨B,m,x,rfl,_⟩:=h
  rfl
 ·obtain⟨B,m,x,rfl,l,k⟩:=h
  refine⟨_,aj (cV (cg pA (pv 1) (aJ (pv 0) rfl) (by with_unfolding_all rfl)) (az (a_ (j8 bG tw J5 NB (aJ (pv 0) rfl) (ab (pv 1) aq)))) bO) (az (a_ xl)),?_⟩
  refine⟨_,rfl,_,rfl,B.b,A.aK,B.dx,_,_,rfl,l.ins,T.aV,T.dO,rfl,B.pw,_,rfl,.inl (cP.of l.pw),rfl,B6 _,_,rfl,?_⟩
  show if JI (wV x) (m.powers.map wV)=true then _ else _
  rw[Vw]
  cases e:(m.powers.findIdx? fun y=>y==x) with
  | none=>
   refine bY ?_
   have z:eZ m x=none:=e
   rw[z] at k
   exact k
  | some j=>
   obtain⟨z1,z2⟩:=YI e
   have z:eZ m x=some j:=e
   rw[z] at k
   refine b9 ⟨_,rfl,B.b,A.aK,B.dx,_,_,rfl,l.ins,T.aV,T.dO,rfl,.inl ⟨rfl,_,cP.of l.pw⟩,_,rfl,B.pw,_,wV x,j,wV x,rfl,rfl,cP.of l.pw,rfl,B6 _,z1,by rw[B8];simp,z2,k⟩
inductive UE (A:Ad) (vs:List V) (H:Hp) (Q:VK) (E':XK):Prop
 | mk (B:Bd) (m:aB) (x:List Nat) (_:vs=[.ref B.b,wV x]) (_:dB A H B m) (_:a8 m x=none->Q .iE H) (_:∀i,a8 m x=some i->∀H' t,bX H H'->eJ H' t ((i:Int),0)->H t=none->Q (.ref t) H')
theorem ic (T:Tx K mg A):dy P w K mg base hX 1 A.lK A.lN kh (UE A):=by
 exists T.DE,y9,"o"
 ·obtain⟨B,m,x,rfl,_⟩:=h
  rfl
 ·obtain⟨B,m,x,rfl,l,k1,k2⟩:=h
  have hu:=qi hr
  refine⟨_,aj (cV (ip (CM hu (pv 1) (aJ (pv 0) rfl)) (by with_unfolding_all rfl)) (az (a_ (ki (ab (qR hu (aJ (pv 0) rfl) (pv 1) (fun _ _=>rfl)) (ab aS aq))))) bO) (az (a_ xl)),?_⟩
  refine⟨_,rfl,_,rfl,B.b,A.aK,B.dx,_,_,rfl,l.ins,T.aV,T.cT,rfl,B.bw,_,rfl,gK.k (k:=bB (tx x)) l.bw,_,rfl,?_⟩
  rw[l.words]
  cases e:a8 m x with
  | none=>exact bY (k1 e)
  | some i=>
   refine b9 ⟨_,rfl,B.b,A.aK,B.dx,_,_,rfl,l.ins,T.aV,T.cT,rfl,_,rfl,B.bw,.int i,rfl,?_,by show 2<=ao;decide,fun t ht=>k2 i e _ t (br ht) aw ht⟩
   have z:gK H B.bw (kV (bB (tx x))) (dW B.kw (bB (tx x))):=gK.k (k:=bB (tx x)) l.bw
   rw[l.words,e] at z
   exact z
end
end Pb
namespace Pb
open PySem PySem.Spec PyProof.Rows L2 TL
open Vbsoab (provAt exactly powerOf placeOf cutAt shoreOf)
theorem Rk:∀(l acc:List Nat),par [47] acc l=(cutAt l).2.map fun r=>(acc++(cutAt l).1,r)
 | [],acc=>rfl
 | c::r,acc=>by
  by_cases h:c=47
  ·subst h
   rw[Rj (by simp[pre])]
   simp[cutAt]
  ·rw[M0 (xi [] r h),Rk r (acc++[c])]
   simp[cutAt,h]
theorem Oa:∀{l:List Nat},(cutAt l).2=none->(cutAt l).1=l
 | [],_=>rfl
 | c::r,h=>by
  by_cases e:c=47
  ·simp[cutAt,e] at h
  ·simp only[cutAt,if_neg e] at h ⊢
   rw[Oa h]
theorem U3 (x:List Nat):iD (tx x) (ak "/")=(tx (cutAt x).1,tx (if (cutAt x).2.isSome=true then [47] else []),tx ((cutAt x).2.getD [])):=by
 have e1:tl (ak "/")=[47]:=by decide +kernel
 have e2:tl (tx x)=x:=by simp[tl,tx]
 rw[Im _ _ (by rw[e1];simp),e1,e2,Rk]
 cases e:(cutAt x).2 with
 | none=>rw[Oa e];rfl
 | some r=>
  have e3:ak "/"=tx [47]:=by decide +kernel
  rw[e3]
  simp
section
inductive Q7 (A:Ad) (vs:List V) (H:Hp) (Q:VK) (E':XK):Prop
 | mk (B:Bd) (m:aB) (x:List Nat) (_:vs=[.ref B.b,wV x]) (_:dB A H B m) (_:WF m) (_:x.length<=1000000) (_:placeOf m x=none->∀H',bX H H'->Q .iE H') (_:∀y,placeOf m x=some y->∀H' t,bX H H'->eJ H' t ((y.1:Int),(y.2:Int))->H t=none->Q (.ref t) H')
theorem gS (T:Tx K mg A):dy P w K mg base hX 1 A.ko A.ku jB (Q7 A):=by
 exists T.Cp,oa,"o"
 ·obtain⟨B,m,x,rfl,_⟩:=h
  rfl
 ·obtain⟨B,m,x,rfl,l,wf,hE,k1,k2⟩:=h
  have hu:=qi hr
  have nd:=oa.nd
  have sl:ao=16777216:=bI
  refine⟨_,aj (cA (i:=2) nd rfl (bC rfl) (Kx (pv 1) (Wz T.NY)))
   (aj (cV (ip (yH hu (bW dH (pv 2) aS (fun _ _=>rfl)) (aJ (pv 0) rfl)) (by with_unfolding_all rfl)) (az (a_ xl)) bO)
   (aj (cA (i:=3) nd rfl (bC rfl) (qR hu (aJ (pv 0) rfl) (bW dH (pv 2) aS (fun _ _=>rfl)) (fun _ _=>rfl)))
   (aj (cA (i:=4) nd rfl (bC rfl) (aJ (bW b8 (aJ (pv 0) rfl) (pv 3) (fun _ _=>rfl)) rfl))
   (aj (cV (cg eM (bT bF rfl T.eU bf (ab (pv 4) aq)) aS (cD _)) (az (a_ (kM (cg eM (bW dH (pv 2) aS (fun _ _=>rfl)) ff (cD _)) (ki (ab (pv 3) (ab aS aq))) xl))) bO)
   (aj (cV (cg pA (bW dH (pv 2) aS (fun _ _=>rfl)) (pv 4) (by with_unfolding_all rfl)) (az (a_ (ki (ab (pv 3) (ab (j8 bG tw J5 NB (pv 4) (ab (bW dH (pv 2) aS (fun _ _=>rfl)) aq)) aq))))) bO)
   (az (a_ xl))))))),?_⟩
  refine⟨_,rfl,⟨_,rfl⟩,_,_,rfl,rfl,by decide +kernel,by rw[iN];omega,fun c hc=>?_⟩
  rw[U3]
  have sc:bX H (upd H c (.tup [wV (cutAt x).1,wV (if (cutAt x).2.isSome=true then [47] else []),wV ((cutAt x).2.getD [])])):=br hc
  have hcut:upd H c (.tup [wV (cutAt x).1,wV (if (cutAt x).2.isSome=true then [47] else []),wV ((cutAt x).2.getD [])]) c=some (.tup [wV (cutAt x).1,wV (if (cutAt x).2.isSome=true then [47] else []),wV ((cutAt x).2.getD [])]):=aw
  generalize upd H c (.tup [wV (cutAt x).1,wV (if (cutAt x).2.isSome=true then [47] else []),wV ((cutAt x).2.getD [])])=H1 at sc hcut
  have l1:=l.same sc
  have wd:=l1.words (cutAt x).1
  have dg:gK H1 B.bw (wV (cutAt x).1) (dW B.kw (bB (tx (cutAt x).1))):=gK.k (k:=bB (tx (cutAt x).1)) l1.bw
  rw[wd] at dg
  have pl:placeOf m x=match a8 m (cutAt x).1 with | none=>none | some i=>(shoreOf (ag m i) (cutAt x).2).map fun s=>(i,s):=rfl
  refine⟨_,rfl,c,_,0,_,rfl,rfl,iC.of hcut,aW (j:=0) rfl,_,rfl,B.b,A.aK,B.dx,_,_,rfl,l1.ins,T.aV,T.cT,rfl,B.bw,_,rfl,dg,_,rfl,?_⟩
  cases e:a8 m (cutAt x).1 with
  | none=>
   rw[e] at pl
   exact b9 (k1 pl H1 sc)
  | some i=>
   rw[e] at pl dg
   have hi:=(dX e).1
   obtain⟨a,sa,dx,e1,e2,e3,e4⟩:=l1.pa hi
   have pok:=wf.pv _ (dZ hi)
   refine bY ⟨_,rfl,B.b,A.aK,B.dx,_,_,rfl,l1.ins,T.aV,T.cT,rfl,_,rfl,c,_,0,_,rfl,rfl,iC.of hcut,aW (j:=0) rfl,B.bw,_,rfl,dg,?_⟩
   refine⟨_,rfl,B.b,A.aK,B.dx,_,_,rfl,l1.ins,T.aV,T.bA,rfl,_,rfl,B.pv,_,_,_,rfl,rfl,cP.of l1.pv,aW (j:=i) (by rw[aX,e1];rfl),a,A.aO,dx,_,_,rfl,e3,T.bg,T.dh,rfl,?_⟩
   refine⟨_,rfl,sa,_,rfl,.inl (cP.of e4),rfl,_,rfl,?_⟩
   cases es:(ag m i).shores with
   | nil=>
    refine b9 ⟨_,rfl,c,_,1,_,rfl,rfl,iC.of hcut,aW (j:=1) rfl,rfl,_,rfl,?_⟩
    have e0:ak ""=tx []:=by decide +kernel
    cases ec:(cutAt x).2 with
    | none=>
     have pl2:placeOf m x=some (i,0):=by rw[pl,ec];simp[shoreOf,es]
     refine b9 ⟨_,rfl,by show 2<=ao;decide,fun t ht=>k2 _ pl2 _ t (sc.trans (br ht)) aw (sc.free ht)⟩
    | some r=>
     have pl2:placeOf m x=none:=by rw[pl,ec];simp[shoreOf,es]
     have ne:decide (V.str (tx [47])=V.str (ak ""))=false:=by decide +kernel
     show if decide (V.str (tx [47])=V.str (ak ""))=true then _ else _
     rw[ne]
     exact bY (k1 pl2 H1 sc)
   | cons s0 sr=>
    have ne:decide (V.int (((s0::sr).map wV).length:Nat)=V.int 0)=false:=by
     refine decide_eq_false fun z=>?_
     injection z with z
     simp at z
     omega
    rw[es] at e4
    show if decide (V.int (((s0::sr).map wV).length:Nat)=V.int 0)=true then _ else _
    rw[ne]
    refine bY ⟨_,rfl,c,_,2,_,rfl,rfl,iC.of hcut,aW (j:=2) rfl,_,rfl,sa,_,rfl,.inl (cP.of e4),rfl,B6 _,_,rfl,?_⟩
    show if JI (wV ((cutAt x).2.getD [])) ((s0::sr).map wV)=true then _ else _
    rw[Vw]
    have TV:∀y∈s0::sr,y≠[]:=fun y hy=>by
     have q:=cI.mp pok.TV y (by rw[es];exact hy)
     intro z
     rw[z] at q
     simp[T6] at q
    cases ec:(cutAt x).2 with
    | none=>
     have pl2:placeOf m x=none:=by rw[pl,ec];simp[shoreOf,es]
     have nf:((s0::sr).findIdx? fun y=>y==[])=none:=sD.mpr fun y hy=>by simpa using TV y hy
     show if ((s0::sr).findIdx? fun y=>y==[]).isSome=true then _ else _
     rw[nf]
     exact bY (k1 pl2 H1 sc)
    | some r=>
     show if ((s0::sr).findIdx? fun y=>y==r).isSome=true then _ else _
     have so:shoreOf (ag m i) (some r)=(s0::sr).findIdx? fun y=>y==r:=by show (ag m i).shores.findIdx? _=_;rw[es]
     cases ef:((s0::sr).findIdx? fun y=>y==r) with
     | none=>
      have pl2:placeOf m x=none:=by rw[pl,ec];simp only;rw[so,ef];rfl
      exact bY (k1 pl2 H1 sc)
     | some j=>
      have pl2:placeOf m x=some (i,j):=by rw[pl,ec];simp only;rw[so,ef];rfl
      obtain⟨z1,z2⟩:=YI ef
      rw[ec] at hcut
      refine b9 ⟨_,rfl,_,rfl,.inl ⟨rfl,_,cP.of e4⟩,_,rfl,c,_,2,_,rfl,rfl,iC.of hcut,aW (j:=2) rfl,sa,_,wV r,j,wV r,rfl,rfl,cP.of e4,rfl,B6 _,z1,by rw[B8];simp,z2,by show 2<=ao;decide,fun t ht=>k2 _ pl2 _ t (sc.trans (br ht)) aw (sc.free ht)⟩
inductive Sy (A:Ad) (vs:List V) (H:Hp) (Q:VK) (E':XK):Prop
 | mk (B:Bd) (m:aB) (i:Nat) (_:vs=[.ref B.b,.int i]) (_:dB A H B m) (_:m.starts.length<=1000) (_:zM H Q (m.starts.any fun u=>u.prov==i))
theorem BQ (T:Tx K mg A):dy P w K mg base hX 1 A.nB A.nL mx (Sy A):=by
 exists T.HR,mf,"o"
 ·obtain⟨B,m,i,rfl,_⟩:=h
  rfl
 ·obtain⟨B,m,i,rfl,l,hE,k⟩:=h
  have sl:ao=16777216:=bI
  refine⟨_,az (a_ (bT (Z4 rfl) rfl T.aa8 (by decide +kernel) (ab (sR (te:=TU Zo (TU (aaX K) (Mg K (pN 2) "place") (tC (.int 0))) (pN 1)) rfl mf.nd (fV (aJ (pv 0) rfl)) (gc (N:=qW) (sc:=aP jm) (own:=[("unit",2)]) (by decide +kernel)) (fun _ _ _ _ _=>df (i:=2) mf.nd rfl (bC rfl)) (fun _ _ _ _ _=>mh)
   (fun _ _ _ _ _=>h_ eM (bW dH (aJ (pv 2) (by rfl)) aS (fun _ _=>rfl)) (pv 1) (cD _))) aq))),?_⟩
  refine⟨_,rfl,B.b,A.aK,B.dx,_,_,rfl,l.ins,T.aV,T.fF,rfl,B.un,rfl,⟨_,cP.of l.un⟩,fun D hD=>k_ (K:=K) (a:=B.un) (xs:=B.us.map V.ref) (fun j H'=>J1 H D ((m.starts.take j).map fun u=>V.bl (u.prov==i)) H') (C2 hD) (fun j H' _ z=>cP.of (z.1 _ _ l.un)) ?_ ?_⟩
  ·intro j y H' hy z
   obtain⟨a,ha,rfl⟩:=get_map hy
   have lt:j<m.starts.length:=by rw[<- l.FU];exact (ax.mp ha).1
   have hu:m.starts[j]?=some m.starts[j]:=aR lt
   obtain⟨dx,t,h1,h2⟩:=l.unit j a _ ha hu
   refine⟨rfl,_,rfl,a,A.gr,dx,_,_,rfl,z.1 _ _ h1,T.js,T.gT,rfl,t,_,0,_,rfl,rfl,iC.of (z.1 _ _ h2),aW (j:=0) rfl,_,rfl,rfl,?_⟩
   refine qh z hD (iJ _ hu (by omega)) ?_
   rw[map_take _ hu]
   congr 2
   show V.bl (m.starts[j].prov==i)=V.bl (decide (V.int (m.starts[j].prov:Int)=V.int (i:Int)))
   congr 1
   rw[bq,beq_iff_eq,decide_eq_true_eq]
   constructor
   ·intro e;rw[e]
   ·intro e;injection e with e;omega
  ·intro H' z
   rw[aa,l.FU,bM] at z
   refine⟨D,m.starts.map (fun u=>u.prov==i),rfl,cP.of (by rw[cz];exact z.2),?_⟩
   rw[OS]
   exact k H' z.1
end
end Pb
namespace Pb
open PySem PySem.Spec PyProof.Rows L2 TL
open Vbsoab (provAt exactly powerOf placeOf cutAt shoreOf)
def En (p:af) (H H':Hp):Prop:=∀b o,H b=some o->b≠p->H' b=some o
theorem En.trans {p:af} {H H1 H2:Hp} (a:En p H H1) (b:En p H1 H2):En p H H2:=fun c o e n=>b c o (a c o e n) n
theorem Lu {p:af} {H H1:Hp} (a:bX H H1):En p H H1:=fun c o e _=>a c o e
theorem gm {p:af} {H:Hp} {o:HO}:En p H (upd H p o):=fun c u e n=>by rw[aQ n];exact e
theorem En.free {p q:af} {H H1:Hp} (a:En p H H1) (hp:∃o,H1 p=some o) (h:H1 q=none):H q=none:=by
 cases e:H q with
 | none=>rfl
 | some o=>
  by_cases c:q=p
  ·obtain⟨u,hu⟩:=hp;rw[c] at h;rw[hu] at h;cases h
  ·rw[a q o e c] at h;cases h
section
inductive Q6 (A:Ad) (vs:List V) (H:Hp) (Q:VK) (E':XK):Prop
 | mk (p dx:af) (v1 v2 v3 v4:V) (_:vs=[.ref p,v1,v2,v3,v4]) (_:H p=some (.ins A.aO dx [])) (_:∀H',H' p=some (.ins A.aO dx [("kind",v1),("name",v2),("short",v3),("shores",v4),("centre",.bl false),("home",.int (-1))])->En p H H'->Q .iE H')
theorem EM (T:Tx K mg A):dy P w K mg base hX 1 A.qo A.qx oM (Q6 A):=by
 exists T.LI,EB,"o"
 ·obtain⟨p,dx,v1,v2,v3,v4,rfl,_⟩:=h
  rfl
 ·obtain⟨p,dx,v1,v2,v3,v4,rfl,hp,k⟩:=h
  refine⟨_,aj (fO (pv 0) (pv 1) rfl) (aj (fO (pv 0) (pv 2) rfl) (aj (fO (pv 0) (pv 3) rfl) (aj (fO (pv 0) (pv 4) rfl) (aj (fO (pv 0) vc rfl) (az (fO (pv 0) (lZ T.Hf) rfl)))))),?_⟩
  refine⟨_,rfl,_,rfl,p,A.aO,dx,[],rfl,hp,T.bg,T.fL,by show 0<1000;decide,?_⟩
  refine⟨_,rfl,_,rfl,p,A.aO,dx,_,rfl,aw,T.bg,T.fK,by show 1<1000;decide,?_⟩
  refine⟨_,rfl,_,rfl,p,A.aO,dx,_,rfl,aw,T.bg,T.dN,by show 2<1000;decide,?_⟩
  refine⟨_,rfl,_,rfl,p,A.aO,dx,_,rfl,aw,T.bg,T.dh,by show 3<1000;decide,?_⟩
  refine⟨_,rfl,p,A.aO,dx,_,rfl,aw,T.bg,T.dP,by show 4<1000;decide,?_⟩
  refine⟨_,rfl,p,A.aO,dx,_,rfl,aw,T.bg,T.fM,by show 5<1000;decide,?_⟩
  exact k _ aw (((((gm.trans gm).trans gm).trans gm).trans gm).trans gm)
inductive W5 (A:Ad) (vs:List V) (H:Hp) (Q:VK) (E':XK):Prop
 | mk (p dx:af) (v1 v2 v3:V) (_:vs=[.ref p,v1,v2,v3]) (_:H p=some (.ins A.gr dx [])) (_:∀H',H' p=some (.ins A.gr dx [("power",v1),("fleet",v2),("place",v3)])->En p H H'->Q .iE H')
theorem Na (T:Tx K mg A):dy P w K mg base hX 1 A.AW A.Bc xc (W5 A):=by
 exists T.We,MJ,"o"
 ·obtain⟨p,dx,v1,v2,v3,rfl,_⟩:=h
  rfl
 ·obtain⟨p,dx,v1,v2,v3,rfl,hp,k⟩:=h
  refine⟨_,aj (fO (pv 0) (pv 1) rfl) (aj (fO (pv 0) (pv 2) rfl) (az (fO (pv 0) (pv 3) rfl))),?_⟩
  refine⟨_,rfl,_,rfl,p,A.gr,dx,[],rfl,hp,T.js,T.uC,by show 0<1000;decide,?_⟩
  refine⟨_,rfl,_,rfl,p,A.gr,dx,_,rfl,aw,T.js,T.uD,by show 1<1000;decide,?_⟩
  refine⟨_,rfl,_,rfl,p,A.gr,dx,_,rfl,aw,T.js,T.gT,by show 2<1000;decide,?_⟩
  exact k _ aw ((gm.trans gm).trans gm)
def own (B:Bd):List af:=[B.b,B.pw,B.pv,B.bw,B.ld,B.se,B.ei,B.un]++(B.ps++(eQ B.L0++(eQ B.L1++eQ B.L2)))
abbrev pw3 (a b c:af):List (Str×V):=de "by_word" (.ref a) (de "provinces" (.ref b) (de "powers" (.ref c) []))
inductive Xf (A:Ad) (vs:List V) (H:Hp) (Q:VK) (E':XK):Prop
 | mk (p dx:af) (_:vs=[.ref p]) (_:H p=some (.ins A.aK dx [])) (_:∀H' B,B.b=p->dB A H' B {}->(∀x∈own B,x=p\/H x=none)->En p H H'->Q .iE H')
theorem BP (T:Tx K mg A):dy P w K mg base hX 3 A.xZ A.yi ui (Xf A):=by
 exists T.Tz,Kp,"o"
 ·obtain⟨p,dx,rfl,_⟩:=h
  rfl
 ·obtain⟨p,dx,rfl,hp,k⟩:=h
  refine⟨_,aj (fO (pv 0) (c9 aq) rfl) (aj (fO (pv 0) (c9 aq) rfl) (aj (fO (pv 0) MZ rfl)
   (aj (fO (pv 0) (sQ T.GK (uw T) hr rfl T.Li T.yo .nil bR) rfl)
   (aj (fO (pv 0) (sQ T.GK (uw T) hr rfl T.Li T.yo .nil bR) rfl)
   (aj (fO (pv 0) (sQ T.GK (uw T) hr rfl T.Li T.yo .nil bR) rfl)
   (az (fO (pv 0) (c9 aq) rfl))))))),?_⟩
  refine⟨cu _,fun pw hpw=>⟨_,rfl,p,A.aK,dx,[],rfl,by rw[aQ (aT hp hpw)];exact hp,T.aV,T.dO,by show 0<1000;decide,?_⟩⟩
  have i1:=@aw (upd H pw (.lst [])) p (.ins A.aK dx (de "powers" (.ref pw) []))
  have b1:En p H (upd (upd H pw (.lst [])) p (.ins A.aK dx (de "powers" (.ref pw) []))):=(Lu (br hpw)).trans gm
  have w1:(upd (upd H pw (.lst [])) p (.ins A.aK dx (de "powers" (.ref pw) []))) pw=some (.lst []):=by rw[aQ (bK (aT hp hpw)),aw]
  generalize upd (upd H pw (.lst [])) p (.ins A.aK dx (de "powers" (.ref pw) []))=H1 at i1 b1 w1
  have npw:p≠pw:=aT hp hpw
  refine⟨cu _,fun pv' hpv=>⟨_,rfl,p,A.aK,dx,_,rfl,by rw[aQ (aT i1 hpv)];exact i1,T.aV,T.bA,by show 1<1000;decide,?_⟩⟩
  have i2:=@aw (upd H1 pv' (.lst [])) p (.ins A.aK dx (de "provinces" (.ref pv') (de "powers" (.ref pw) [])))
  have b2:En p H1 (upd (upd H1 pv' (.lst [])) p (.ins A.aK dx (de "provinces" (.ref pv') (de "powers" (.ref pw) [])))):=(Lu (br hpv)).trans gm
  have w2:(upd (upd H1 pv' (.lst [])) p (.ins A.aK dx (de "provinces" (.ref pv') (de "powers" (.ref pw) [])))) pv'=some (.lst []):=by rw[aQ (bK (aT i1 hpv)),aw]
  generalize upd (upd H1 pv' (.lst [])) p (.ins A.aK dx (de "provinces" (.ref pv') (de "powers" (.ref pw) [])))=H2 at i2 b2 w2
  have npv:p≠pv':=aT i1 hpv
  have npwpv:pw≠pv':=aT w1 hpv
  refine fun bw hbw=>⟨_,rfl,p,A.aK,dx,_,rfl,by rw[aQ (aT i2 hbw)];exact i2,T.aV,T.cT,by show 2<1000;decide,?_⟩
  have i3:=@aw (upd H2 bw (.dK [])) p (.ins A.aK dx (pw3 bw pv' pw))
  have b3:En p H2 (upd (upd H2 bw (.dK [])) p (.ins A.aK dx (pw3 bw pv' pw))):=(Lu (br hbw)).trans gm
  have w3:(upd (upd H2 bw (.dK [])) p (.ins A.aK dx (pw3 bw pv' pw))) bw=some (.dK []):=by rw[aQ (bK (aT i2 hbw)),aw]
  generalize upd (upd H2 bw (.dK [])) p (.ins A.aK dx (pw3 bw pv' pw))=H3 at i3 b3 w3
  have npbw:p≠bw:=aT i2 hbw
  have one:∀{Hk Hn:Hp} {x dx' j:af},Hk x=none->Hk dx'=none->Hn x=some (.ins A.eF dx' (OK j 0))->Hn j=some (.dT [])->(∀b o,upd (upd Hk dx' (.own x)) x (.ins A.eF dx' []) b=some o->b≠x->Hn b=some o)->bX Hk Hn:=
   fun {Hk Hn x dx' j} h1 h2 _ _ kp=>bX.made h1 h2 kp
  intro x4 d4 hx4 hd4 ne4
  refine⟨x4,d4,rfl,aw,fun H4 j4 hj4 ix4 jd4 kp4=>⟨rfl,?_⟩⟩
  have s4:=one hx4 hd4 ix4 jd4 kp4
  have nj4:H3 j4=none:=by
   cases e:H3 j4 with
   | none=>rfl
   | some o=>
    have n1:j4≠x4:=aT e hx4
    have n2:j4≠d4:=aT e hd4
    rw[aQ n1,aQ n2,e] at hj4;cases hj4
  refine⟨_,rfl,p,A.aK,dx,_,rfl,s4 _ _ i3,T.aV,T.jV,by show 3<1000;decide,?_⟩
  have npx4:p≠x4:=aT i3 hx4
  have npj4:p≠j4:=aT i3 nj4
  have i4:=@aw H4 p (.ins A.aK dx (de "land" (.ref x4) (pw3 bw pv' pw)))
  have b4:En p H3 (upd H4 p (.ins A.aK dx (de "land" (.ref x4) (pw3 bw pv' pw)))):=(Lu s4).trans gm
  have x4a:(upd H4 p (.ins A.aK dx (de "land" (.ref x4) (pw3 bw pv' pw)))) x4=some (.ins A.eF d4 (OK j4 0)):=by rw[aQ (bK npx4)];exact ix4
  have j4a:(upd H4 p (.ins A.aK dx (de "land" (.ref x4) (pw3 bw pv' pw)))) j4=some (.dT []):=by rw[aQ (bK npj4)];exact jd4
  generalize upd H4 p (.ins A.aK dx (de "land" (.ref x4) (pw3 bw pv' pw)))=G4 at i4 b4 x4a j4a
  intro x5 d5 hx5 hd5 ne5
  refine⟨x5,d5,rfl,aw,fun H5 j5 hj5 ix5 jd5 kp5=>⟨rfl,?_⟩⟩
  have s5:=one hx5 hd5 ix5 jd5 kp5
  have nj5:G4 j5=none:=by
   cases e:G4 j5 with
   | none=>rfl
   | some o=>
    have n1:j5≠x5:=aT e hx5
    have n2:j5≠d5:=aT e hd5
    rw[aQ n1,aQ n2,e] at hj5;cases hj5
  refine⟨_,rfl,p,A.aK,dx,_,rfl,s5 _ _ i4,T.aV,T.lT,by show 4<1000;decide,?_⟩
  have npx5:p≠x5:=aT i4 hx5
  have npj5:p≠j5:=aT i4 nj5
  have i5:=@aw H5 p (.ins A.aK dx (de "sea" (.ref x5) (de "land" (.ref x4) (pw3 bw pv' pw))))
  have b5:En p G4 (upd H5 p (.ins A.aK dx (de "sea" (.ref x5) (de "land" (.ref x4) (pw3 bw pv' pw))))):=(Lu s5).trans gm
  have x5a:(upd H5 p (.ins A.aK dx (de "sea" (.ref x5) (de "land" (.ref x4) (pw3 bw pv' pw))))) x5=some (.ins A.eF d5 (OK j5 0)):=by rw[aQ (bK npx5)];exact ix5
  have j5a:(upd H5 p (.ins A.aK dx (de "sea" (.ref x5) (de "land" (.ref x4) (pw3 bw pv' pw))))) j5=some (.dT []):=by rw[aQ (bK npj5)];exact jd5
  generalize upd H5 p (.ins A.aK dx (de "sea" (.ref x5) (de "land" (.ref x4) (pw3 bw pv' pw))))=G5 at i5 b5 x5a j5a
  intro x6 d6 hx6 hd6 ne6
  refine⟨x6,d6,rfl,aw,fun H6 j6 hj6 ix6 jd6 kp6=>⟨rfl,?_⟩⟩
  have s6:=one hx6 hd6 ix6 jd6 kp6
  have nj6:G5 j6=none:=by
   cases e:G5 j6 with
   | none=>rfl
   | some o=>
    have n1:j6≠x6:=aT e hx6
    have n2:j6≠d6:=aT e hd6
    rw[aQ n1,aQ n2,e] at hj6;cases hj6
  refine⟨_,rfl,p,A.aK,dx,_,rfl,s6 _ _ i5,T.aV,T.mz,by show 5<1000;decide,?_⟩
  have npx6:p≠x6:=aT i5 hx6
  have npj6:p≠j6:=aT i5 nj6
  have i6:=@aw H6 p (.ins A.aK dx (de "either" (.ref x6) (de "sea" (.ref x5) (de "land" (.ref x4) (pw3 bw pv' pw)))))
  have b6:En p G5 (upd H6 p (.ins A.aK dx (de "either" (.ref x6) (de "sea" (.ref x5) (de "land" (.ref x4) (pw3 bw pv' pw)))))):=(Lu s6).trans gm
  have x6a:(upd H6 p (.ins A.aK dx (de "either" (.ref x6) (de "sea" (.ref x5) (de "land" (.ref x4) (pw3 bw pv' pw)))))) x6=some (.ins A.eF d6 (OK j6 0)):=by rw[aQ (bK npx6)];exact ix6
  have j6a:(upd H6 p (.ins A.aK dx (de "either" (.ref x6) (de "sea" (.ref x5) (de "land" (.ref x4) (pw3 bw pv' pw)))))) j6=some (.dT []):=by rw[aQ (bK npj6)];exact jd6
  generalize upd H6 p (.ins A.aK dx (de "either" (.ref x6) (de "sea" (.ref x5) (de "land" (.ref x4) (pw3 bw pv' pw)))))=G6 at i6 b6 x6a j6a
  refine⟨cu _,fun un hun=>⟨_,rfl,p,A.aK,dx,_,rfl,by rw[aQ (aT i6 hun)];exact i6,T.aV,T.fF,by show 6<1000;decide,?_⟩⟩
  have b7:En p G6 (upd (upd G6 un (.lst [])) p (.ins A.aK dx (de "units" (.ref un) (de "either" (.ref x6) (de "sea" (.ref x5) (de "land" (.ref x4) (pw3 bw pv' pw))))))):=(Lu (br hun)).trans gm
  have npun:p≠un:=aT i6 hun
  have t1:=(((b2.trans b3).trans b4).trans b5).trans b6
  have t2:=((b3.trans b4).trans b5).trans b6
  have t3:=(b4.trans b5).trans b6
  have pw6:=t1 _ _ w1 (bK npw)
  have pv6:=t2 _ _ w2 (bK npv)
  have bw6:=t3 _ _ w3 (bK npbw)
  have x46:=b6 _ _ (b5 _ _ x4a (bK npx4)) (bK npx4)
  have j46:=b6 _ _ (b5 _ _ j4a (bK npj4)) (bK npj4)
  have x56:=b6 _ _ x5a (bK npx5)
  have j56:=b6 _ _ j5a (bK npj5)
  have j45:j4≠j5:=aT j4a nj5
  have j4_6:j4≠j6:=aT (b5 _ _ j4a (bK npj4)) nj6
  have j5_6:j5≠j6:=aT j5a nj6
  have f0:∀{q:af},H1 q=none->H q=none:=fun {q} h=>b1.free ⟨_,i1⟩ h
  have f1:∀{q:af},H2 q=none->H q=none:=fun {q} h=>f0 (b2.free ⟨_,i2⟩ h)
  have f2:∀{q:af},H3 q=none->H q=none:=fun {q} h=>f1 (b3.free ⟨_,i3⟩ h)
  have f3:∀{q:af},G4 q=none->H q=none:=fun {q} h=>f2 (b4.free ⟨_,i4⟩ h)
  have f4:∀{q:af},G5 q=none->H q=none:=fun {q} h=>f3 (b5.free ⟨_,i5⟩ h)
  have f5:∀{q:af},G6 q=none->H q=none:=fun {q} h=>f4 (b6.free ⟨_,i6⟩ h)
  refine k _ { b:=p,dx:=dx,pw:=pw,pv:=pv',bw:=bw,ld:=x4,se:=x5,ei:=x6,un:=un,ps:=[],sh:=[],us:=[],L0:=⟨d4,j4,[],0⟩,L1:=⟨d5,j5,[],0⟩,L2:=⟨d6,j6,[],0⟩,kw:=[] } rfl ?_ ?_ ((((((b1.trans b2).trans b3).trans b4).trans b5).trans b6).trans b7)
  ·have lk:∀{x d j:af},G6 x=some (.ins A.eF d (OK j 0))->G6 j=some (.dT [])->x≠p->j≠p->gD A (upd (upd G6 un (.lst [])) p (.ins A.aK dx (de "units" (.ref un) (de "either" (.ref x6) (de "sea" (.ref x5) (de "land" (.ref x4) (pw3 bw pv' pw))))))) x ⟨d,j,[],0⟩:=fun h1 h2 n1 n2=>
    ⟨b7 _ _ h1 n1,b7 _ _ h2 n2,fun e he=>absurd he (by simp),by simp,by simp,fun e he=>absurd he (by simp),fun e he=>absurd he (by simp)⟩
   refine⟨aw,b7 _ _ pw6 (bK npw),b7 _ _ pv6 (bK npv),b7 _ _ bw6 (bK npbw),by show upd _ _ _ un=_;rw[aQ (bK npun),aw];rfl,lk x46 j46 (bK npx4) (bK npj4),lk x56 j56 (bK npx5) (bK npj5),lk x6a j6a (bK npx6) (bK npj6),rfl,rfl,rfl,
    fun i a s h=>by simp at h,fun i a u h=>by simp at h,fun x=>rfl,fun p q=>?_,fun p q=>?_,fun p q=>?_,rfl,rfl,⟨npwpv,aT pw6 hun,aT pv6 hun,fun s hs=>absurd hs (by simp)⟩,by simp,?_,?_,?_,by simp,cu _,cu _,cu _,cu _⟩
   ·simp[nb,Bn,bU]
   ·simp[nb,Bn,bU]
   ·simp[nb,Bn,Z',bU]
   ·intro x hx;simp[eQ] at hx ⊢;rw[hx];exact j45
   ·intro x hx;simp[eQ] at hx ⊢;rw[hx];exact j4_6
   ·intro x hx;simp[eQ] at hx ⊢;rw[hx];exact j5_6
  ·intro x hx
   simp[own,eQ] at hx
   rcases hx with rfl | rfl | rfl | rfl | rfl | rfl | rfl | rfl | rfl | rfl | rfl
   ·exact .inl rfl
   ·exact .inr hpw
   ·exact .inr (f0 hpv)
   ·exact .inr (f1 hbw)
   ·exact .inr (f2 hx4)
   ·exact .inr (f3 hx5)
   ·exact .inr (f4 hx6)
   ·exact .inr (f5 hun)
   ·exact .inr (f2 nj4)
   ·exact .inr (f3 nj5)
   ·exact .inr (f4 nj6)
end
end Pb
namespace Pb
open PySem PySem.Spec PyProof.Rows L2 TL
open Vbsoab (provAt exactly powerOf placeOf cutAt shoreOf called setProvince putPair pair)
def Out (B:Bd) (H H':Hp):Prop:=∀x o,H x=some o->x∉own B->H' x=some o
structure Mv (B B':Bd) (H H':Hp):Prop where
 b:B'.b=B.b
 out:Out B H H'
 own:∀x∈own B',x∈own B\/H x=none
 sh:∀x∈B'.sh,x∈B.sh\/x∈Pb.own B\/H x=none
theorem Mv.same {B:Bd} {H H':Hp} (s:bX H H'):Mv B B H H':=⟨rfl,fun x o e _=>s x o e,fun x h=>.inl h,fun x h=>.inl h⟩
theorem Out.free {B:Bd} {H H':Hp} (k:Out B H H') {x:af} (h:H' x=none):x∈own B\/H x=none:=by
 by_cases c:x∈own B
 ·exact .inl c
 ·refine .inr ?_
  cases e:H x with
  | none=>rfl
  | some o=>rw[k x o e c] at h;cases h
theorem Mv.trans {B B1 B2:Bd} {H H1 H2:Hp} (a:Mv B B1 H H1) (b:Mv B1 B2 H1 H2):Mv B B2 H H2 where
 b:=b.b.trans a.b
 out:=fun x o e n=>b.out x o (a.out x o e n) fun z=>by
  rcases a.own x z with q | q
  ·exact n q
  ·rw[q] at e;cases e
 own:=fun x h=>by
  rcases b.own x h with q | q
  ·exact a.own x q
  ·exact a.out.free q
 sh:=fun x h=>by
  rcases b.sh x h with q | q | q
  ·exact a.sh x q
  ·exact .inr (a.own x q)
  ·exact .inr (a.out.free q)
theorem Mv.BH {B B':Bd} {H H1 H2:Hp} (s:bX H H1) (a:Mv B B' H1 H2):Mv B B' H H2:=(Mv.same s).trans a
theorem Mv.aaU {B B':Bd} {H H1 H2:Hp} (a:Mv B B' H H1) (s:bX H1 H2):Mv B B' H H2:=a.trans (Mv.same s)
theorem gD.keep {A:Ad} {H H':Hp} {a:af} {L:Lk} (l:gD A H a L) (k:∀x o,H x=some o->x=a\/x∈eQ L->H' x=some o):gD A H' a L:=
 ⟨k _ _ l.ins (.inl rfl),k _ _ l.jd (.inr (by simp[eQ])),fun e he=>k _ _ (l.JH e he) (.inr (aE _ (a9.mpr ⟨e,he,rfl⟩))),l.nd,l.nda,l.Zw,l.nj⟩
theorem gD.Fy {A:Ad} {H:Hp} {a x:af} {L:Lk} (l:gD A H a L) (h:x∈eQ L):∃kvs,H x=some (.dT kvs):=by
 rcases aF.mp h with e | e
 ·rw[e];exact⟨_,l.jd⟩
 ·obtain⟨en,he,rfl⟩:=a9.mp e;exact⟨_,l.JH en he⟩
theorem BY {c c' d d':af} {f g:List (Str×V)} (h:(f.map (·.1)).head?≠(g.map (·.1)).head?):HO.ins c d f≠HO.ins c' d' g:=by
 intro z
 injection z with _ _ z
 exact h (by rw[z])
theorem YA {c c' d d':af} {p:cJ} {s:af} {B:Bd}:HO.ins c d (Z8 B)≠HO.ins c' d' (Il p s):=BY (by show (some ("powers":Str))≠some "kind";decide)
theorem UW {c c' d d':af} {p:cJ} {s j:af} {t:Int}:HO.ins c d (OK j t)≠HO.ins c' d' (Il p s):=BY (by show (some ("joined":Str))≠some "kind";decide)
theorem aaZ {c c' d d':af} {p:cJ} {s t:af} {u:iX}:HO.ins c d (unF u t)≠HO.ins c' d' (Il p s):=BY (by show (some ("power":Str))≠some "kind";decide)
theorem Vl {c c' d d':af} {B:Bd} {j:af} {t:Int}:HO.ins c d (Z8 B)≠HO.ins c' d' (OK j t):=BY (by show (some ("powers":Str))≠some "joined";decide)
theorem YF {c c' d d':af} {j t:af} {i:Int} {u:iX}:HO.ins c d (unF u t)≠HO.ins c' d' (OK j i):=BY (by show (some ("power":Str))≠some "joined";decide)
section
variable {A:Ad} {H H':Hp} {B:Bd} {m:aB}
theorem V7 (l:dB A H B m) (n:List Nat):dB A (upd H B.pw (.lst ((m.powers++[n]).map wV))) B { m with powers:=m.powers++[n] }:=by
 have kp:∀{x:af} {o:HO},H x=some o->(∀z,o≠.lst z)->upd H B.pw (.lst ((m.powers++[n]).map wV)) x=some o:=fun e ne=>by rw[aQ (eD e l.pw (ne _))];exact e
 have kl:∀{x:af} {o:HO},H x=some o->x≠B.pw->upd H B.pw (.lst ((m.powers++[n]).map wV)) x=some o:=fun e ne=>by rw[aQ ne];exact e
 have lk:∀{a:af} {L:Lk},gD A H a L->gD A (upd H B.pw (.lst ((m.powers++[n]).map wV))) a L:=fun q=>q.keep fun x o e h=>by
  rcases h with h | h
  ·rw[h] at e ⊢;rw[q.ins] at e;cases e;exact kp q.ins (fun z w=>nomatch w)
  ·obtain⟨kvs,hk⟩:=q.Fy h
   rw[hk] at e;cases e;exact kp hk (fun z w=>nomatch w)
 obtain⟨d1,d2,d3,d4⟩:=l.dl
 refine⟨kp l.ins (fun z w=>nomatch w),aw,kl l.pv (bK d1),kp l.bw (fun z w=>nomatch w),kl l.un (bK d2),lk l.l0,lk l.l1,lk l.l2,l.tF,l.shl,l.FU,fun i a s h1 h2=>?_,fun i a u h1 h2=>?_,
  l.words,l.PU,l.PR,l.SS,l.t0,l.t1,l.dl,l.dp,l.Td,l.VZ,l.Tc,l.SV,l.RA,l.e0,l.e1,l.e2⟩
 ·obtain⟨⟨dx,z⟩,y⟩:=l.prov i a s h1 h2
  exact⟨⟨dx,kp z (fun z w=>nomatch w)⟩,kl y (d4 s (aN h2)).1⟩
 ·obtain⟨dx,t,z,y⟩:=l.unit i a u h1 h2
  exact⟨dx,t,kp z (fun z w=>nomatch w),kp y (fun z w=>nomatch w)⟩
theorem R1 (l:dB A H B m) (st:iX) {u dx t:af} (hu:H u=some (.ins A.gr dx (unF st t))) (ht:eJ H t ((st.prov:Int),(st.shore:Int))) :
  dB A (upd H B.un (.lst ((B.us++[u]).map V.ref))) { B with us:=B.us++[u] } { m with starts:=m.starts++[st] }:=by
 have kp:∀{x:af} {o:HO},H x=some o->(∀z,o≠.lst z)->upd H B.un (.lst ((B.us++[u]).map V.ref)) x=some o:=fun e ne=>by rw[aQ (eD e l.un (ne _))];exact e
 have kl:∀{x:af} {o:HO},H x=some o->x≠B.un->upd H B.un (.lst ((B.us++[u]).map V.ref)) x=some o:=fun e ne=>by rw[aQ ne];exact e
 have lk:∀{a:af} {L:Lk},gD A H a L->gD A (upd H B.un (.lst ((B.us++[u]).map V.ref))) a L:=fun q=>q.keep fun x o e h=>by
  rcases h with h | h
  ·rw[h] at e ⊢;rw[q.ins] at e;cases e;exact kp q.ins (fun z w=>nomatch w)
  ·obtain⟨kvs,hk⟩:=q.Fy h
   rw[hk] at e;cases e;exact kp hk (fun z w=>nomatch w)
 obtain⟨d1,d2,d3,d4⟩:=l.dl
 refine⟨kp l.ins (fun z w=>nomatch w),kl l.pw d2,kl l.pv d3,kp l.bw (fun z w=>nomatch w),aw,lk l.l0,lk l.l1,lk l.l2,l.tF,l.shl,by show (B.us++[u]).length=(m.starts++[st]).length;rw[aA,aA,l.FU];rfl,fun i a s h1 h2=>?_,fun i a v h1 h2=>?_,
  l.words,l.PU,l.PR,l.SS,l.t0,l.t1,l.dl,l.dp,l.Td,l.VZ,l.Tc,l.SV,l.RA,l.e0,l.e1,l.e2⟩
 ·obtain⟨⟨dx,z⟩,y⟩:=l.prov i a s h1 h2
  exact⟨⟨dx,kp z (fun z w=>nomatch w)⟩,kl y (d4 s (aN h2)).2.2⟩
 ·have h1:(B.us++[u])[i]?=some a:=h1
  have h2:(m.starts++[st])[i]?=some v:=h2
  by_cases c:i<B.us.length
  ·rw[dC c] at h1
   rw[dC (by rw[<- l.FU];exact c)] at h2
   obtain⟨dx,t,z,y⟩:=l.unit i a v h1 h2
   exact⟨dx,t,kp z (fun z w=>nomatch w),kp y (fun z w=>nomatch w)⟩
  ·have hi:=(ax.mp h1).1
   rw[aA,bS] at hi
   have e:i=B.us.length:=by omega
   subst e
   rw[eO (aC _),qJ] at h1
   rw[l.FU,eO (aC _),qJ] at h2
   cases h1
   cases h2
   exact⟨dx,t,kp hu (fun z w=>nomatch w),kp ht (fun z w=>nomatch w)⟩
theorem Qp (l:dB A H B m) {i:Nat} {a s dx:af} (p:cJ) (hs:p.shores=(ag m i).shores) (ha:B.ps[i]?=some a) (hsa:B.sh[i]?=some s) {kw:List (Key×V)} (hk:H' B.bw=some (.dK kw))
  (hw:∀x,dW kw (bB (tx x))=(a8 (setProvince m i p) x).map fun i=>V.int i) (hd:(kw.map (·.1)).Nodup) (hl:kw.length<=2*m.provinces.length)
  (hp:H' a=some (.ins A.aO dx (Il p s))) (keep:∀x o,H x=some o->x≠a->x≠B.bw->H' x=some o):dB A H' { B with kw:=kw } (setProvince m i p):=by
 have hi:i<m.provinces.length:=by rw[<- l.tF];exact (ax.mp ha).1
 obtain⟨⟨dx0,ea⟩,es⟩:=l.prov i a s ha hsa
 have kp:∀{x:af} {o:HO},H x=some o->o≠.ins A.aO dx0 (Il (ag m i) s)->(∀z,o≠.dK z)->H' x=some o:=fun e n1 n2=>keep _ _ e (eD e ea n1) (eD e l.bw (n2 _))
 have lk:∀{c:af} {L:Lk},gD A H c L->gD A H' c L:=fun q=>q.keep fun x o e h=>by
  rcases h with h | h
  ·rw[h] at e ⊢;rw[q.ins] at e;cases e;exact kp q.ins UW (fun z w=>nomatch w)
  ·obtain⟨kvs,hk⟩:=q.Fy h
   rw[hk] at e;cases e;exact kp hk (fun w=>nomatch w) (fun z w=>nomatch w)
 have len:(setProvince m i p).provinces.length=m.provinces.length:=by unfold setProvince;exact pI
 refine⟨kp l.ins YA (fun z w=>nomatch w),kp l.pw (fun w=>nomatch w) (fun z w=>nomatch w),kp l.pv (fun w=>nomatch w) (fun z w=>nomatch w),hk,kp l.un (fun w=>nomatch w) (fun z w=>nomatch w),lk l.l0,lk l.l1,lk l.l2,l.tF.trans len.symm,l.shl.trans len.symm,l.FU,fun j b u h1 h2=>?_,fun j b u h1 h2=>?_,
  hw,l.PU,l.PR,l.SS,l.t0,l.t1,l.dl,l.dp,l.Td,l.VZ,l.Tc,hd,by rw[len];exact hl,l.e0,l.e1,l.e2⟩
 ·have h1:B.ps[j]?=some b:=h1
  have h2:B.sh[j]?=some u:=h2
  obtain⟨⟨dx',z⟩,y⟩:=l.prov j b u h1 h2
  rw[jC hi]
  by_cases c:j=i
  ·subst c
   rw[ha] at h1;cases h1
   rw[hsa] at h2;cases h2
   rw[if_pos rfl]
   exact⟨⟨dx,hp⟩,by rw[hs];exact kp y (fun w=>nomatch w) (fun z w=>nomatch w)⟩
  ·rw[if_neg c]
   have nb:b≠a:=fun e=>by
    rw[e] at h1
    exact c (Vb l.dp h1 ha)
   exact⟨⟨dx',keep _ _ z nb (eD z l.bw (fun w=>nomatch w))⟩,kp y (fun w=>nomatch w) (fun z w=>nomatch w)⟩
 ·obtain⟨dx',t,z,y⟩:=l.unit j b u h1 h2
  exact⟨dx',t,kp z aaZ (fun z w=>nomatch w),kp y (fun w=>nomatch w) (fun z w=>nomatch w)⟩
theorem Ln (p:cJ) (x:List Nat):a8 { m with provinces:=m.provinces++[p] } x=match a8 m x with | some i=>some i | none=>if called p x=true then some m.provinces.length else none:=by
 unfold a8
 rw[List.findIdx?_append]
 cases e:m.provinces.findIdx? (fun p=>called p x) with
 | some i=>rfl
 | none=>
  simp only[Option.none_or,rb,List.findIdx?_nil]
  by_cases c:called p x=true
  ·rw[if_pos c,if_pos c];simp
  ·rw[if_neg c,if_neg c];simp
theorem gq (p:cJ) (x:List Nat):called p x=true<->p.name=x\/p.short=x:=by unfold called;simp
theorem Oo (l:dB A H B m) {a s dx:af} (p:cJ) (n1:a8 m p.name=none) (n2:a8 m p.short=none) (ns:p.name≠p.short)
  (hk:H' B.bw=some (.dK (putK (putK B.kw (bB (tx p.name)) (.int m.provinces.length)) (bB (tx p.short)) (.int m.provinces.length)))) (hv:H' B.pv=some (.lst ((B.ps++[a]).map V.ref)))
  (hp0:H a=some (.ins A.aO dx (Il p s))) (hsh0:H s=some (.lst (p.shores.map wV))) (fa:a∉B.ps) (fs:s≠B.pw/\s≠B.pv/\s≠B.un) (keep:∀x o,H x=some o->x≠B.pv->x≠B.bw->H' x=some o) :
  dB A H' { B with ps:=B.ps++[a],sh:=B.sh++[s],kw:=putK (putK B.kw (bB (tx p.name)) (.int m.provinces.length)) (bB (tx p.short)) (.int m.provinces.length) } { m with provinces:=m.provinces++[p] }:=by
 have kp:∀{x:af} {o:HO},H x=some o->(∀z,o≠.lst z)->(∀z,o≠.dK z)->H' x=some o:=fun e n1 n2=>keep _ _ e (eD e l.pv (n1 _)) (eD e l.bw (n2 _))
 have kl:∀{x:af} {z:List V},H x=some (.lst z)->x≠B.pv->H' x=some (.lst z):=fun e n=>keep _ _ e n (eD e l.bw (fun w=>nomatch w))
 have lk:∀{c:af} {L:Lk},gD A H c L->gD A H' c L:=fun q=>q.keep fun x o e h=>by
  rcases h with h | h
  ·rw[h] at e ⊢;rw[q.ins] at e;cases e;exact kp q.ins (fun z w=>nomatch w) (fun z w=>nomatch w)
  ·obtain⟨kvs,hk⟩:=q.Fy h
   rw[hk] at e;cases e;exact kp hk (fun z w=>nomatch w) (fun z w=>nomatch w)
 obtain⟨d1,d2,d3,d4⟩:=l.dl
 have v1:dW B.kw (bB (tx p.name))=none:=by rw[l.words,n1];rfl
 have v2:dW (putK B.kw (bB (tx p.name)) (.int m.provinces.length)) (bB (tx p.short))=none:=by
  rw[sF,if_neg (fun e=>ns (pM (yx e)).symm),l.words,n2];rfl
 have len:(m.provinces++[p]).length=m.provinces.length+1:=by simp
 refine⟨kp l.ins (fun z w=>nomatch w) (fun z w=>nomatch w),kl l.pw d1,hv,hk,kl l.un (bK d3),lk l.l0,lk l.l1,lk l.l2,by show (B.ps++[a]).length=(m.provinces++[p]).length;rw[aA,len,l.tF];rfl,by show (B.sh++[s]).length=(m.provinces++[p]).length;rw[aA,len,l.shl];rfl,l.FU,fun j b u h1 h2=>?_,fun j b u h1 h2=>?_,
  fun x=>?_,l.PU,l.PR,l.SS,l.t0,l.t1,⟨d1,d2,d3,fun u hu=>?_⟩,?_,l.Td,l.VZ,l.Tc,?_,?_,l.e0,l.e1,l.e2⟩
 ·have h1:(B.ps++[a])[j]?=some b:=h1
  have h2:(B.sh++[s])[j]?=some u:=h2
  by_cases c:j<m.provinces.length
  ·rw[dC (by rw[l.tF];exact c)] at h1
   rw[dC (by rw[l.shl];exact c)] at h2
   obtain⟨⟨dx',z⟩,y⟩:=l.prov j b u h1 h2
   rw[Ag c]
   exact⟨⟨dx',kp z (fun z w=>nomatch w) (fun z w=>nomatch w)⟩,kl y (d4 u (aN h2)).2.1⟩
  ·have hi:=(ax.mp h1).1
   rw[aA,bS,l.tF] at hi
   have e:j=m.provinces.length:=by omega
   subst e
   rw[<- l.tF,eO (aC _),qJ] at h1
   rw[<- l.shl,eO (aC _),qJ] at h2
   cases h1
   cases h2
   rw[Ph]
   exact⟨⟨dx,kp hp0 (fun z w=>nomatch w) (fun z w=>nomatch w)⟩,kl hsh0 fs.2.1⟩
 ·obtain⟨dx',t,z,y⟩:=l.unit j b u h1 h2
  exact⟨dx',t,kp z (fun z w=>nomatch w) (fun z w=>nomatch w),kp y (fun z w=>nomatch w) (fun z w=>nomatch w)⟩
 ·show dW (putK (putK B.kw (bB (tx p.name)) (.int m.provinces.length)) (bB (tx p.short)) (.int m.provinces.length)) (bB (tx x))=_
  rw[sF,sF,Ln]
  by_cases c2:x=p.short
  ·subst c2
   rw[if_pos rfl,n2]
   simp only
   rw[if_pos ((gq p _).mpr (.inr rfl))]
   rfl
  ·rw[if_neg (fun e=>c2 (pM (yx e)))]
   by_cases c1:x=p.name
   ·subst c1
    rw[if_pos rfl,n1]
    simp only
    rw[if_pos ((gq p _).mpr (.inl rfl))]
    rfl
   ·rw[if_neg (fun e=>c1 (pM (yx e))),l.words]
    cases e:a8 m x with
    | some i=>rfl
    | none=>
     simp only
     rw[if_neg (fun z=>by rcases (gq p x).mp z with q | q;exact c1 q.symm;exact c2 q.symm)]
 ·have hu:u∈B.sh++[s]:=hu
  rcases bx.mp hu with q | q
  ·exact d4 u q
  ·rw[aY.mp q]
   exact fs
 ·show (B.ps++[a]).Nodup
  exact yJ l.dp fa
 ·show ((putK (putK B.kw (bB (tx p.name)) (.int m.provinces.length)) (bB (tx p.short)) (.int m.provinces.length)).map (·.1)).Nodup
  exact Ft _ (Ft _ l.SV v1) v2
 ·show (putK (putK B.kw (bB (tx p.name)) (.int m.provinces.length)) (bB (tx p.short)) (.int m.provinces.length)).length<=2*(m.provinces++[p]).length
  rw[kL _ v2,kL _ v1,len]
  have:=l.RA
  simp
  omega
end
end Pb
namespace Pb
open PySem PySem.Spec PyProof.Rows L2 TL
open Vbsoab (provAt exactly powerOf placeOf cutAt shoreOf called setProvince putPair pair)
structure FE (A:Ad) (H H':Hp) (a ei:af) (L L2 L' L2':Lk) (p q:Pl):Prop where
 k:gD A H' a L'
 k2:gD A H' ei L2'
 nb:∀u v,v∈nb L'.ent u<->v∈nb L.ent u\/(u=p/\v=q)\/(u=q/\v=p)
 nb2:∀u v,v∈Pb.nb L2'.ent u<->v∈Pb.nb L2.ent u\/(u=(p.1,0)/\v=(q.1,0))\/(u=(q.1,0)/\v=(p.1,0))
 vD:L'.vD=L.vD+1
 len:L'.ent.length<=L.ent.length+2
 ZA:L2'.ent.length<=L2.ent.length+2
 ad:∀x∈eQ L',x∈eQ L\/H x=none
 ad2:∀x∈eQ L2',x∈eQ L2\/H x=none
 dj:∀x∈eQ L',x∉eQ L2'
 keep:∀x o,H x=some o->x≠a->x≠ei->x∉eQ L->x∉eQ L2->H' x=some o
section
variable {A:Ad} {H H':Hp} {B:Bd} {m:aB}
theorem Yc (l:dB A H B m) {x y:Nat} {L' L2':Lk} (o:FE A H H' B.ld B.ei B.L0 B.L2 L' L2' (nA x) (nA y)) :
  dB A H' { B with L0:=L',L2:=L2' } { m with land:=putPair (pair x y) m.land }:=by
 have nld:∀{z:af} {u:HO},H z=some u->(∀c d j t,u≠.ins c d (OK j t))->z≠B.ld:=fun e n=>eD e l.l0.ins (n _ _ _ _)
 have nei:∀{z:af} {u:HO},H z=some u->(∀c d j t,u≠.ins c d (OK j t))->z≠B.ei:=fun e n=>eD e l.l2.ins (n _ _ _ _)
 have nin:∀{z c:af} {L:Lk} {u:HO},gD A H c L->H z=some u->(∀kvs,u≠.dT kvs)->z∉eQ L:=fun q e n h=>by
  obtain⟨kvs,hk⟩:=q.Fy h
  rw[hk] at e;cases e;exact n _ rfl
 have kp:∀{z:af} {u:HO},H z=some u->(∀c d j t,u≠.ins c d (OK j t))->(∀kvs,u≠.dT kvs)->H' z=some u:=fun e n1 n2=>o.keep _ _ e (nld e n1) (nei e n1) (nin l.l0 e n2) (nin l.l2 e n2)
 have Fy:∀{z c:af} {L:Lk},gD A H c L->z∈eQ L->H z≠none:=fun q h e=>by
  obtain⟨kvs,hk⟩:=q.Fy h
  rw[hk] at e;cases e
 have oth:gD A H' B.se B.L1:=l.l1.keep fun z u e h=>by
  rcases h with h | h
  ·rw[h] at e ⊢
   have n1:B.se≠B.ld:=fun q=>by
    have a1:=l.l1.ins
    rw[q,l.l0.ins] at a1
    injection a1 with a1
    injection a1 with _ _ a1
    have a2:=congrArg (fun f=>f.lookup ("joined":Str)) a1
    have a3:(some (V.ref B.L0.j))=some (V.ref B.L1.j):=a2
    injection a3 with a3
    injection a3 with a3
    exact l.Td _ (bz) (by rw[a3];exact bz)
   have n2:B.se≠B.ei:=fun q=>by
    have a1:=l.l1.ins
    rw[q,l.l2.ins] at a1
    injection a1 with a1
    injection a1 with _ _ a1
    have a2:=congrArg (fun f=>f.lookup ("joined":Str)) a1
    have a3:(some (V.ref B.L2.j))=some (V.ref B.L1.j):=a2
    injection a3 with a3
    injection a3 with a3
    exact l.Tc _ (bz) (by rw[<- a3];exact bz)
   have e':=l.l1.ins
   rw[e'] at e;cases e
   exact o.keep _ _ e' n1 n2 (nin l.l0 e' (fun _ w=>nomatch w)) (nin l.l2 e' (fun _ w=>nomatch w))
  ·obtain⟨kvs,hk⟩:=l.l1.Fy h
   rw[hk] at e;cases e
   exact o.keep _ _ hk (nld hk (fun _ _ _ _ w=>nomatch w)) (nei hk (fun _ _ _ _ w=>nomatch w)) (fun q=>l.Td _ q h) (fun q=>l.Tc _ h q)
 refine⟨kp l.ins (fun _ _ _ _=>Vl) (fun _ w=>nomatch w),kp l.pw (fun _ _ _ _ w=>nomatch w) (fun _ w=>nomatch w),kp l.pv (fun _ _ _ _ w=>nomatch w) (fun _ w=>nomatch w),kp l.bw (fun _ _ _ _ w=>nomatch w) (fun _ w=>nomatch w),kp l.un (fun _ _ _ _ w=>nomatch w) (fun _ w=>nomatch w),o.k,oth,o.k2,l.tF,l.shl,l.FU,fun j b u h1 h2=>?_,fun j b u h1 h2=>?_,
  l.words,fun p q=>by
   show q∈nb L'.ent p<->_
   rw[o.nb p q,l.PU]
   constructor
   ·rintro (⟨u,v,e1,e2,h⟩ | ⟨e1,e2⟩ | ⟨e1,e2⟩)
    ·exact⟨u,v,e1,e2,eW.mpr (.inr (.inr h))⟩
    ·exact⟨x,y,e1,e2,eW.mpr (.inl ⟨rfl,rfl⟩)⟩
    ·exact⟨y,x,e1,e2,eW.mpr (.inr (.inl ⟨rfl,rfl⟩))⟩
   ·rintro ⟨u,v,e1,e2,h⟩
    rcases eW.mp h with ⟨r1,r2⟩ | ⟨r1,r2⟩ | h
    ·rw[r1] at e1;rw[r2] at e2;exact .inr (.inl ⟨e1,e2⟩)
    ·rw[r1] at e1;rw[r2] at e2;exact .inr (.inr ⟨e1,e2⟩)
    ·exact .inl ⟨u,v,e1,e2,h⟩,l.PR,fun p q=>?_,by show L'.vD=_;rw[o.vD,l.t0,fG];simp,l.t1,l.dl,l.dp,?_,?_,?_,l.SV,l.RA,by show L'.ent.length<=_;rw[fG];have:=o.len;have:=l.e0;omega,l.e1,?_⟩
 ·obtain⟨⟨dx',z⟩,w⟩:=l.prov j b u h1 h2
  exact⟨⟨dx',kp z (fun _ _ _ _=>fun q=>UW q.symm) (fun _ w=>nomatch w)⟩,kp w (fun _ _ _ _ w=>nomatch w) (fun _ w=>nomatch w)⟩
 ·obtain⟨dx',t,z,w⟩:=l.unit j b u h1 h2
  exact⟨dx',t,kp z (fun _ _ _ _=>YF) (fun _ w=>nomatch w),kp w (fun _ _ _ _ w=>nomatch w) (fun _ w=>nomatch w)⟩
 ·show q∈nb L2'.ent p<->_
  rw[o.nb2 p q,l.SS]
  constructor
  ·rintro (⟨u,v,e1,e2,h⟩ | ⟨e1,e2⟩ | ⟨e1,e2⟩)
   ·refine⟨u,v,e1,e2,?_⟩
    rcases h with h | h
    ·exact .inl (eW.mpr (.inr (.inr h)))
    ·exact .inr h
   ·exact⟨x,y,e1,e2,.inl (eW.mpr (.inl ⟨rfl,rfl⟩))⟩
   ·exact⟨y,x,e1,e2,.inl (eW.mpr (.inr (.inl ⟨rfl,rfl⟩)))⟩
  ·rintro ⟨u,v,e1,e2,h⟩
   rcases h with h | h
   ·rcases eW.mp h with ⟨r1,r2⟩ | ⟨r1,r2⟩ | h
    ·rw[r1] at e1;rw[r2] at e2;exact .inr (.inl ⟨e1,e2⟩)
    ·rw[r1] at e1;rw[r2] at e2;exact .inr (.inr ⟨e1,e2⟩)
    ·exact .inl ⟨u,v,e1,e2,.inl h⟩
   ·exact .inl ⟨u,v,e1,e2,.inr h⟩
 ·intro z h1 h2
  rcases o.ad z h1 with q | q
  ·exact l.Td z q h2
  ·exact Fy l.l1 h2 q
 ·intro z h1 h2
  exact o.dj z h1 h2
 ·intro z h1 h2
  rcases o.ad2 z h2 with q | q
  ·exact l.Tc z h1 q
  ·exact Fy l.l1 h1 q
 ·show L2'.ent.length<=2*((putPair (pair x y) m.land).length+m.sea.length)
  rw[fG]
  have:=o.ZA
  have:=l.e2
  omega
theorem Z7 (l:dB A H B m) {x y:Nat} {L' L2':Lk} (o:FE A H H' B.se B.ei B.L1 B.L2 L' L2' (nF x) (nF y)) :
  dB A H' { B with L1:=L',L2:=L2' } { m with sea:=putPair (pair x y) m.sea }:=by
 have nld:∀{z:af} {u:HO},H z=some u->(∀c d j t,u≠.ins c d (OK j t))->z≠B.se:=fun e n=>eD e l.l1.ins (n _ _ _ _)
 have nei:∀{z:af} {u:HO},H z=some u->(∀c d j t,u≠.ins c d (OK j t))->z≠B.ei:=fun e n=>eD e l.l2.ins (n _ _ _ _)
 have nin:∀{z c:af} {L:Lk} {u:HO},gD A H c L->H z=some u->(∀kvs,u≠.dT kvs)->z∉eQ L:=fun q e n h=>by
  obtain⟨kvs,hk⟩:=q.Fy h
  rw[hk] at e;cases e;exact n _ rfl
 have kp:∀{z:af} {u:HO},H z=some u->(∀c d j t,u≠.ins c d (OK j t))->(∀kvs,u≠.dT kvs)->H' z=some u:=fun e n1 n2=>o.keep _ _ e (nld e n1) (nei e n1) (nin l.l1 e n2) (nin l.l2 e n2)
 have Fy:∀{z c:af} {L:Lk},gD A H c L->z∈eQ L->H z≠none:=fun q h e=>by
  obtain⟨kvs,hk⟩:=q.Fy h
  rw[hk] at e;cases e
 have oth:gD A H' B.ld B.L0:=l.l0.keep fun z u e h=>by
  rcases h with h | h
  ·rw[h] at e ⊢
   have n1:B.ld≠B.se:=fun q=>by
    have a1:=l.l0.ins
    rw[q,l.l1.ins] at a1
    injection a1 with a1
    injection a1 with _ _ a1
    have a2:=congrArg (fun f=>f.lookup ("joined":Str)) a1
    have a3:(some (V.ref B.L1.j))=some (V.ref B.L0.j):=a2
    injection a3 with a3
    injection a3 with a3
    exact l.Td _ (bz) (by rw[<- a3];exact bz)
   have n2:B.ld≠B.ei:=fun q=>by
    have a1:=l.l0.ins
    rw[q,l.l2.ins] at a1
    injection a1 with a1
    injection a1 with _ _ a1
    have a2:=congrArg (fun f=>f.lookup ("joined":Str)) a1
    have a3:(some (V.ref B.L2.j))=some (V.ref B.L0.j):=a2
    injection a3 with a3
    injection a3 with a3
    exact l.VZ _ (bz) (by rw[<- a3];exact bz)
   have e':=l.l0.ins
   rw[e'] at e;cases e
   exact o.keep _ _ e' n1 n2 (nin l.l1 e' (fun _ w=>nomatch w)) (nin l.l2 e' (fun _ w=>nomatch w))
  ·obtain⟨kvs,hk⟩:=l.l0.Fy h
   rw[hk] at e;cases e
   exact o.keep _ _ hk (nld hk (fun _ _ _ _ w=>nomatch w)) (nei hk (fun _ _ _ _ w=>nomatch w)) (fun q=>l.Td _ h q) (fun q=>l.VZ _ h q)
 refine⟨kp l.ins (fun _ _ _ _=>Vl) (fun _ w=>nomatch w),kp l.pw (fun _ _ _ _ w=>nomatch w) (fun _ w=>nomatch w),kp l.pv (fun _ _ _ _ w=>nomatch w) (fun _ w=>nomatch w),kp l.bw (fun _ _ _ _ w=>nomatch w) (fun _ w=>nomatch w),kp l.un (fun _ _ _ _ w=>nomatch w) (fun _ w=>nomatch w),oth,o.k,o.k2,l.tF,l.shl,l.FU,fun j b u h1 h2=>?_,fun j b u h1 h2=>?_,
  l.words,l.PU,fun p q=>by
   show q∈nb L'.ent p<->_
   rw[o.nb p q,l.PR]
   constructor
   ·rintro (⟨u,v,e1,e2,h⟩ | ⟨e1,e2⟩ | ⟨e1,e2⟩)
    ·exact⟨u,v,e1,e2,eW.mpr (.inr (.inr h))⟩
    ·exact⟨x,y,e1,e2,eW.mpr (.inl ⟨rfl,rfl⟩)⟩
    ·exact⟨y,x,e1,e2,eW.mpr (.inr (.inl ⟨rfl,rfl⟩))⟩
   ·rintro ⟨u,v,e1,e2,h⟩
    rcases eW.mp h with ⟨r1,r2⟩ | ⟨r1,r2⟩ | h
    ·rw[r1] at e1;rw[r2] at e2;exact .inr (.inl ⟨e1,e2⟩)
    ·rw[r1] at e1;rw[r2] at e2;exact .inr (.inr ⟨e1,e2⟩)
    ·exact .inl ⟨u,v,e1,e2,h⟩,fun p q=>?_,l.t0,by show L'.vD=_;rw[o.vD,l.t1,fG];simp,l.dl,l.dp,?_,?_,?_,l.SV,l.RA,l.e0,by show L'.ent.length<=_;rw[fG];have:=o.len;have:=l.e1;omega,?_⟩
 ·obtain⟨⟨dx',z⟩,w⟩:=l.prov j b u h1 h2
  exact⟨⟨dx',kp z (fun _ _ _ _=>fun q=>UW q.symm) (fun _ w=>nomatch w)⟩,kp w (fun _ _ _ _ w=>nomatch w) (fun _ w=>nomatch w)⟩
 ·obtain⟨dx',t,z,w⟩:=l.unit j b u h1 h2
  exact⟨dx',t,kp z (fun _ _ _ _=>YF) (fun _ w=>nomatch w),kp w (fun _ _ _ _ w=>nomatch w) (fun _ w=>nomatch w)⟩
 ·show q∈nb L2'.ent p<->_
  rw[o.nb2 p q,l.SS]
  constructor
  ·rintro (⟨u,v,e1,e2,h⟩ | ⟨e1,e2⟩ | ⟨e1,e2⟩)
   ·refine⟨u,v,e1,e2,?_⟩
    rcases h with h | ⟨a,b,h,h1,h2⟩
    ·exact .inl h
    ·exact .inr ⟨a,b,eW.mpr (.inr (.inr h)),h1,h2⟩
   ·exact⟨x / 4,y / 4,e1,e2,.inr ⟨x,y,eW.mpr (.inl ⟨rfl,rfl⟩),rfl,rfl⟩⟩
   ·exact⟨y / 4,x / 4,e1,e2,.inr ⟨y,x,eW.mpr (.inr (.inl ⟨rfl,rfl⟩)),rfl,rfl⟩⟩
  ·rintro ⟨u,v,e1,e2,h⟩
   rcases h with h | ⟨a,b,h,h1,h2⟩
   ·exact .inl ⟨u,v,e1,e2,.inl h⟩
   ·rcases eW.mp h with ⟨r1,r2⟩ | ⟨r1,r2⟩ | h
    ·rw[<- h1,r1] at e1;rw[<- h2,r2] at e2;exact .inr (.inl ⟨e1,e2⟩)
    ·rw[<- h1,r1] at e1;rw[<- h2,r2] at e2;exact .inr (.inr ⟨e1,e2⟩)
    ·exact .inl ⟨u,v,e1,e2,.inr ⟨a,b,h,h1,h2⟩⟩
 ·intro z h1 h2
  rcases o.ad z h2 with q | q
  ·exact l.Td z h1 q
  ·exact Fy l.l0 h1 q
 ·intro z h1 h2
  rcases o.ad2 z h2 with q | q
  ·exact l.VZ z h1 q
  ·exact Fy l.l0 h1 q
 ·intro z h1 h2
  exact o.dj z h1 h2
 ·show L2'.ent.length<=2*(m.land.length+(putPair (pair x y) m.sea).length)
  rw[fG]
  have:=o.ZA
  have:=l.e2
  omega
end
end Pb
namespace Pb
open PySem PySem.Spec PyProof.Rows L2 TL
open Vbsoab (provAt exactly powerOf placeOf cutAt shoreOf called setProvince putPair pair)
theorem Pg {L L':Lk} {p q:Pl} {H:Hp} (h:Wi L L' p q H) (ne:p≠q) (u v:Pl):v∈nb L'.ent u<->v∈nb L.ent u\/(u=p/\v=q)\/(u=q/\v=p):=by
 rw[h.nb u]
 by_cases c1:u=q
 ·subst c1
  rw[if_pos rfl,bx,aY]
  constructor
  ·rintro (z | z)
   ·exact .inl z
   ·exact .inr (.inr ⟨rfl,z⟩)
  ·rintro (z | ⟨z,_⟩ | ⟨_,z⟩)
   ·exact .inl z
   ·exact absurd z.symm ne
   ·exact .inr z
 ·rw[if_neg c1]
  by_cases c2:u=p
  ·subst c2
   rw[if_pos rfl,bx,aY]
   constructor
   ·rintro (z | z)
    ·exact .inl z
    ·exact .inr (.inl ⟨rfl,z⟩)
   ·rintro (z | ⟨_,z⟩ | ⟨z,_⟩)
    ·exact .inl z
    ·exact .inr z
    ·exact absurd z c1
  ·rw[if_neg c2]
   constructor
   ·exact .inl
   ·rintro (z | ⟨z,_⟩ | ⟨z,_⟩)
    ·exact z
    ·exact absurd z c2
    ·exact absurd z c1
theorem Gc {A:Ad} {L L':Lk} {p q:Pl} {H:Hp} (h:Wi L L' p q H):∀x∈eQ L',x∈eQ L\/H x=none:=fun x hx=>by
 rcases aF.mp hx with e | e
 ·rw[e,h.j];exact .inl bz
 ·rcases h.ad x e with z | z
  ·exact .inl (aE _ z)
  ·exact .inr z
theorem kO {L:Lk} {x:af} (h:x∉eQ L):x≠L.j/\x∉L.ent.map (·.2.1):=⟨fun e=>h (by rw[e];exact bz),fun e=>h (aE _ e)⟩
section
structure J2 (L:Lk):Prop where
 sy:∀x y,y∈nb L.ent x->x∈nb L.ent y
 hE:L.ent.length<=9000
 IF:∀x,(nb L.ent x).length<=9000
inductive UD (A:Ad) (vs:List V) (H:Hp) (Q:VK) (E':XK):Prop
 | mk (B:Bd) (a t1 t2:af) (L:Lk) (p q:Pl) (_:vs=[.ref B.b,.ref a,.ref t1,.ref t2]) (_:H B.b=some (.ins A.aK B.dx (Z8 B))) (_:gD A H a L) (_:gD A H B.ei B.L2) (_:a≠B.ei) (_:∀x∈eQ L,x∉eQ B.L2) (_:eJ H t1 p) (_:eJ H t2 q) (_:J2 L) (_:J2 B.L2) (_:q∉nb L.ent p) (_:p.1≠q.1) (_:∀H' L' L2',FE A H H' a B.ei L B.L2 L' L2' p q->Q .iE H')
theorem BO (T:Tx K mg A):dy P w K mg base hX 3 A.nz A.nJ mw (UD A):=by
 exists T.HQ,BG,"o"
 ·obtain⟨B,a,t1,t2,L,p,q,rfl,_⟩:=h
  rfl
 ·obtain⟨B,a,t1,t2,L,p,q,rfl,hb,l,l2,nae,dj,h1,h2,f1,f2,hq,npq,k⟩:=h
  refine⟨_,aj (eI (dY (pv 1) T.eE T.D9 (BN T) hr T.Eh .nil bR (ab (pv 2) (ab (pv 3) aq))))
   (az (eI (dY (aJ (pv 0) rfl) T.eE T.D9 (BN T) hr T.Eh .nil bR
    (ab (ki (ab (bW dH (pv 2) aS (fun _ _=>rfl)) (ab aS aq))) (ab (ki (ab (bW dH (pv 3) aS (fun _ _=>rfl)) (ab aS aq))) aq))))),?_⟩
  have ne0:p≠q:=fun e=>npq (by rw[e])
  refine⟨_,rfl,a,L.dx,_,rfl,l.ins,rfl,_,rfl,_,rfl,a,t1,t2,L,p,q,rfl,l,h1,h2,ne0,f1.sy,f1.hE,f1.IF,fun z=>absurd z hq,fun _ H1 L' l' pt kp=>?_⟩
  have kpn:∀{x:af} {o:HO},H x=some o->x≠a->(∀kvs,o≠.dT kvs)->H1 x=some o:=fun {x o} e n n2=>by
   have ni:x∉eQ L:=fun z=>by
    obtain⟨kvs,hk⟩:=l.Fy z
    rw[hk] at e;cases e;exact n2 _ rfl
   exact kp x o e n (kO ni).1 (kO ni).2
  have hb1:=kpn hb (eD hb l.ins Vl) (fun _ z=>nomatch z)
  have t11:eJ H1 t1 p:=kpn h1 (eD h1 l.ins (fun z=>nomatch z)) (fun _ z=>nomatch z)
  have t21:eJ H1 t2 q:=kpn h2 (eD h2 l.ins (fun z=>nomatch z)) (fun _ z=>nomatch z)
  have l21:gD A H1 B.ei B.L2:=l2.keep fun x o e h=>by
   rcases h with h | h
   ·rw[h] at e ⊢
    have e':=l2.ins
    rw[e'] at e;cases e
    exact kpn e' (bK nae) (fun _ z=>nomatch z)
   ·have ni:x∉eQ L:=fun z=>dj x z h
    obtain⟨kvs,hk⟩:=l2.Fy h
    rw[hk] at e;cases e
    exact kp x _ hk (eD hk l.ins (fun z=>nomatch z)) (kO ni).1 (kO ni).2
  refine⟨_,rfl,B.b,A.aK,B.dx,_,_,rfl,hb1,T.aV,T.mz,rfl,B.ei,B.L2.dx,_,rfl,l21.ins,rfl,?_⟩
  refine⟨_,rfl,t1,_,0,_,rfl,rfl,iC.of t11,aW (j:=0) rfl,by show 2<=ao;decide,fun u1 hu1=>?_⟩
  have s1:bX H1 (upd H1 u1 (.tup [.int p.1,.int 0])):=br hu1
  refine⟨_,rfl,t2,_,0,_,rfl,rfl,iC.of (s1 _ _ t21),aW (j:=0) rfl,by show 2<=ao;decide,fun u2 hu2=>?_⟩
  have s2:bX (upd H1 u1 (.tup [.int p.1,.int 0])) (upd (upd H1 u1 (.tup [.int p.1,.int 0])) u2 (.tup [.int q.1,.int 0])):=br hu2
  have w1:eJ (upd (upd H1 u1 (.tup [.int p.1,.int 0])) u2 (.tup [.int q.1,.int 0])) u1 (p.1,0):=s2 _ _ aw
  have w2:eJ (upd (upd H1 u1 (.tup [.int p.1,.int 0])) u2 (.tup [.int q.1,.int 0])) u2 (q.1,0):=aw
  have s12:=s1.trans s2
  generalize upd (upd H1 u1 (.tup [.int p.1,.int 0])) u2 (.tup [.int q.1,.int 0])=H2 at s12 w1 w2
  have l22:=l21.same s12
  have l12:=l'.same s12
  have ne2:((p.1,0):Pl)≠(q.1,0):=fun e=>npq (by injection e)
  have keep1:∀x o,H x=some o->x≠a->x≠B.ei->x∉eQ L->x∉eQ B.L2->H2 x=some o:=fun x o e n1 _ n3 _=>s12 _ _ (kp x o e n1 (kO n3).1 (kO n3).2)
  have free1:∀{x:af},H1 x=none->x∉eQ L->x≠a->H x=none:=fun {x} hx n1 n2=>by
   cases e:H x with
   | none=>rfl
   | some o=>rw[kp x o e n2 (kO n1).1 (kO n1).2] at hx;cases hx
  have dj1:∀x∈eQ L',x∉eQ B.L2:=fun x h1 h2=>by
   rcases Gc (A:=A) pt x h1 with z | z
   ·exact dj x z h2
   ·obtain⟨kvs,hk⟩:=l2.Fy h2
    rw[hk] at z;cases z
  refine⟨B.ei,u1,u2,B.L2,(p.1,0),(q.1,0),rfl,l22,w1,w2,ne2,f2.sy,f2.hE,f2.IF,fun mem H3 s3=>?_,fun nmem H3 L2' l2' pt2 kp2=>?_⟩
  ·refine k H3 L' B.L2 ⟨l12.same s3,l22.same s3,Pg pt ne0,fun u v=>⟨fun z=>.inl z,fun z=>?_⟩,pt.vD,pt.len,by omega,Gc (A:=A) pt,fun x hx=>.inl hx,dj1,fun x o e n1 n2 n3 n4=>s3 _ _ (keep1 x o e n1 n2 n3 n4)⟩
   rcases z with z | ⟨e1,e2⟩ | ⟨e1,e2⟩
   ·exact z
   ·rw[e1,e2];exact mem
   ·rw[e1,e2];exact f2.sy _ _ mem
  ·have kpx:∀{x:af} {o:HO},H2 x=some o->x≠B.ei->x∉eQ B.L2->H3 x=some o:=fun {x o} e n1 n2=>kp2 x o e n1 (kO n2).1 (kO n2).2
   have l13:gD A H3 a L':=l12.keep fun x o e h=>by
    rcases h with h | h
    ·rw[h] at e ⊢
     refine kpx e nae fun z=>?_
     obtain⟨kvs,hk⟩:=l22.Fy z
     rw[l12.ins] at hk;cases hk
    ·obtain⟨kvs,hk⟩:=l12.Fy h
     exact kpx e (fun z=>by rw[z,l22.ins] at hk;cases hk) (dj1 x h)
   refine k H3 L' L2' ⟨l13,l2',Pg pt ne0,Pg pt2 ne2,pt.vD,pt.len,pt2.len,Gc (A:=A) pt,fun x hx=>?_,fun x h1 h2=>?_,fun x o e n1 n2 n3 n4=>kpx (keep1 x o e n1 n2 n3 n4) n2 n4⟩
   ·rcases Gc (A:=A) pt2 x hx with z | z
    ·exact .inl z
    ·have z1:=s12.free z
     by_cases c:x∈eQ L
     ·rcases aF.mp c with e | e
      ·have:=l'.jd
       rw[pt.j,<- e,z1] at this;cases this
      ·refine absurd z1 fun z1=>?_
       obtain⟨en,hen,een⟩:=a9.mp e
       have hx:H x=some (.dT (S0 en.2.2)):=by rw[<- een];exact l.JH en hen
       have:∃o,H1 x=some o:=by
        have key:x∈L'.ent.map (·.2.1):=pt.old x e
        obtain⟨e2,he2,ee2⟩:=a9.mp key
        exact⟨_,by rw[<- ee2];exact l'.JH e2 he2⟩
       obtain⟨o,ho⟩:=this
       rw[z1] at ho;cases ho
     ·exact .inr (free1 z1 c fun e=>by rw[e,l'.ins] at z1;cases z1)
   ·rcases Gc (A:=A) pt2 x h2 with z | z
    ·exact dj1 x h1 z
    ·obtain⟨kvs,hk⟩:=l12.Fy h1
     rw[hk] at z;cases z
end
end Pb
namespace Pb
open PySem PySem.Spec PyProof.Rows L2 TL
open Vbsoab (provAt exactly powerOf placeOf cutAt shoreOf called setProvince putPair pair named)
theorem yE {κ:Type} [DecidableEq κ] (k j:κ):∀kvs:List (κ×V),dW (fQ kvs k) j=if j=k then none else dW kvs j
 | []=>by simp[fQ,Uj]
 | p::r=>by
  by_cases c:p.1=k
  ·rw[JP c,yE k j r]
   by_cases d:j=k
   ·rw[if_pos d,if_pos d]
   ·rw[if_neg d,if_neg d,f_ (fun e=>d (e.symm.trans c))]
  ·rw[Dl c]
   by_cases e:p.1=j
   ·rw[gx e,gx e,if_neg (fun z=>c (e.trans z))]
   ·rw[f_ e,f_ e,yE k j r]
theorem iK {m:aB} (wf:WF m) {x:List Nat} {i:Nat}:a8 m x=some i<->i<m.provinces.length/\called (ag m i) x=true:=by
 refine⟨dX,fun ⟨h1,h2⟩=>?_⟩
 cases e:a8 m x with
 | none=>have:=jZ e h1;rw[h2] at this;cases this
 | some j=>
  obtain⟨a,b⟩:=dX e
  rw[wf.uq j i x a h1 b h2]
theorem B7 {m:aB} (wf:WF m) {i:Nat} (hi:i<m.provinces.length):a8 m (ag m i).name=some i:=(iK wf).mpr ⟨hi,(gq _ _).mpr (.inl rfl)⟩
theorem rR {m:aB} (wf:WF m) {i:Nat} (hi:i<m.provinces.length):a8 m (ag m i).short=some i:=(iK wf).mpr ⟨hi,(gq _ _).mpr (.inr rfl)⟩
theorem KY {κ:Type} [DecidableEq κ] {kvs:List (κ×V)} (k:κ) (h:(kvs.map (·.1)).Nodup):((fQ kvs k).map (·.1)).Nodup:=by
 unfold fQ
 exact h.sublist (List.filter_sublist.map _)
section
inductive UC (A:Ad) (vs:List V) (H:Hp) (Q:VK) (E':XK):Prop
 | mk (B:Bd) (m:aB) (p:cJ) (a s dx:af) (_:vs=[.ref B.b,.ref a]) (_:dB A H B m) (_:H a=some (.ins A.aO dx (Il p s))) (_:H s=some (.lst (p.shores.map wV))) (_:a∉B.ps) (_:s≠B.pw/\s≠B.pv/\s≠B.un) (_:a8 m p.name=none) (_:a8 m p.short=none) (_:p.name≠p.short) (_:m.provinces.length<=1000) (_:∀H' kw,dB A H' { B with ps:=B.ps++[a],sh:=B.sh++[s],kw:=kw } { m with provinces:=m.provinces++[p] }->(∀x o,H x=some o->x≠B.pv->x≠B.bw->H' x=some o)->Q .iE H')
theorem vH (T:Tx K mg A):dy P w K mg base hX 1 A.jI A.jK jg (UC A):=by
 exists T.Bk,vE,"o"
 ·obtain⟨B,m,p,a,s,dx,rfl,_⟩:=h
  rfl
 ·obtain⟨B,m,p,a,sa,dx,rfl,l,hp,hs,fa,fs,n1,n2,ns,hE,k⟩:=h
  have hu:=qi hr
  have sl:ao=16777216:=bI
  refine⟨_,aj (uc hu (aJ (pv 0) rfl) (aJ (pv 1) rfl) (bT bF rfl T.eU bf (ab (aJ (pv 0) rfl) aq)) rfl)
   (aj (uc hu (aJ (pv 0) rfl) (aJ (pv 1) rfl) (bT bF rfl T.eU bf (ab (aJ (pv 0) rfl) aq)) rfl)
   (az (eI (j8 bG cH cG gC (aJ (pv 0) rfl) (ab (pv 1) aq))))),?_⟩
  have lenp:(B.ps.map V.ref).length=m.provinces.length:=by rw[aa,l.tF]
  have RA:=l.RA
  refine⟨_,rfl,B.b,A.aK,B.dx,_,_,rfl,l.ins,T.aV,T.bA,rfl,B.pv,_,rfl,.inl (cP.of l.pv),_,rfl,B.b,A.aK,B.dx,_,_,rfl,l.ins,T.aV,T.cT,rfl,_,rfl,a,A.aO,dx,_,_,rfl,hp,T.bg,T.fK,rfl,B.bw,_,rfl,Cn.k (k:=bB (tx p.name)) l.bw (by omega),?_⟩
  rw[lenp]
  have o1:∀{x:af} {o:HO},H x=some o->(∀z,o≠.dK z)->upd H B.bw (.dK (putK B.kw (bB (tx p.name)) (.int (m.provinces.length:Nat)))) x=some o:=fun e n=>by rw[aQ (eD e l.bw (n _))];exact e
  have i1:=o1 l.ins (fun _ z=>nomatch z)
  have v1:=o1 l.pv (fun _ z=>nomatch z)
  have p1:=o1 hp (fun _ z=>nomatch z)
  refine⟨_,rfl,B.b,A.aK,B.dx,_,_,rfl,i1,T.aV,T.bA,rfl,B.pv,_,rfl,.inl (cP.of v1),_,rfl,B.b,A.aK,B.dx,_,_,rfl,i1,T.aV,T.cT,rfl,_,rfl,a,A.aO,dx,_,_,rfl,p1,T.bg,T.dN,rfl,B.bw,_,rfl,Cn.k (k:=bB (tx p.short)) aw ?_,?_⟩
  ·have v0:dW B.kw (bB (tx p.name))=none:=by rw[l.words,n1];rfl
   rw[kL _ v0,aA,bS]
   omega
  rw[lenp,tO]
  have o2:∀{x:af} {o:HO},H x=some o->(∀z,o≠.dK z)->upd H B.bw (.dK (putK (putK B.kw (bB (tx p.name)) (.int (m.provinces.length:Nat))) (bB (tx p.short)) (.int (m.provinces.length:Nat)))) x=some o:=fun e n=>by rw[aQ (eD e l.bw (n _))];exact e
  have w2:=@aw H B.bw (.dK (putK (putK B.kw (bB (tx p.name)) (.int (m.provinces.length:Nat))) (bB (tx p.short)) (.int (m.provinces.length:Nat))))
  have kb:∀x o,H x=some o->x≠B.bw->upd H B.bw (.dK (putK (putK B.kw (bB (tx p.name)) (.int (m.provinces.length:Nat))) (bB (tx p.short)) (.int (m.provinces.length:Nat)))) x=some o:=fun x o e n=>by rw[aQ n];exact e
  generalize upd H B.bw (.dK (putK (putK B.kw (bB (tx p.name)) (.int (m.provinces.length:Nat))) (bB (tx p.short)) (.int (m.provinces.length:Nat))))=H2 at o2 w2 kb
  have v2:=o2 l.pv (fun _ z=>nomatch z)
  refine⟨_,rfl,B.b,A.aK,B.dx,_,_,rfl,o2 l.ins (fun _ z=>nomatch z),T.aV,T.bA,rfl,.inl ⟨rfl,_,cP.of v2⟩,_,rfl,B.pv,_,_,rfl,rfl,v2,by rw[lenp];omega,?_⟩
  have kp:∀x o,H x=some o->x≠B.pv->x≠B.bw->upd H2 B.pv (.lst (B.ps.map V.ref++[V.ref a])) x=some o:=fun x o e c1 c2=>by rw[aQ c1];exact kb x o e c2
  refine k _ _ (Oo l p n1 n2 ns ?_ ?_ hp hs fa fs kp) kp
  ·rw[aQ (eD l.bw l.pv (fun z=>nomatch z))];exact w2
  ·rw[aw,bh];rfl
inductive Zb (A:Ad) (vs:List V) (H:Hp) (Q:VK) (E':XK):Prop
 | mk (B:Bd) (m:aB) (i:Nat) (x:List Nat) (_:vs=[.ref B.b,.int i,wV x]) (_:dB A H B m) (_:Q (.bl (decide (a8 m x=none\/a8 m x=some i))) H)
theorem oe (T:Tx K mg A):dy P w K mg base hX 1 A.kj A.kr jA (Zb A):=by
 exists T.Co,wM,"o"
 ·obtain⟨B,m,i,x,rfl,_⟩:=h
  rfl
 ·obtain⟨B,m,i,x,rfl,l,k⟩:=h
  have hu:=qi hr
  refine⟨_,az (a_ (h_ eM (Gi hu (aJ (pv 0) rfl) (pv 2) (pv 1) ⟨rfl,rfl,rfl,rfl⟩) (pv 1) (cD _))),?_⟩
  have dg:gK H B.bw (wV x) (dW B.kw (bB (tx x))):=gK.k (k:=bB (tx x)) l.bw
  rw[l.words] at dg
  refine⟨_,rfl,B.b,A.aK,B.dx,_,_,rfl,l.ins,T.aV,T.cT,rfl,B.bw,rfl,.inl ⟨_,.inl l.bw⟩,_,rfl,_,rfl,_,dg,_,rfl,?_⟩
  cases e:a8 m x with
  | none=>
   rw[e] at k
   exact⟨rfl,by simpa using k⟩
  | some j=>
   rw[e] at k
   refine⟨rfl,?_⟩
   show Q (.bl (decide (V.int (j:Nat)=V.int (i:Nat)))) H
   have q:decide (V.int ((j:Nat):Int)=V.int ((i:Nat):Int))=decide (some j=none\/some j=some i):=by
    rw[bq,decide_eq_true_eq,decide_eq_true_eq]
    constructor
    ·intro z;injection z with z;exact .inr (by congr 1;omega)
    ·rintro (z | z)
     ·cases z
     ·injection z with z;rw[z]
   rw[q]
   exact k
inductive Uw (A:Ad) (vs:List V) (H:Hp) (Q:VK) (E':XK):Prop
 | mk (B:Bd) (m:aB) (i:Nat) (n s:List Nat) (_:vs=[.ref B.b,.int i,wV n,wV s]) (_:dB A H B m) (_:WF m) (_:WF (setProvince m i { ag m i with name:=n,short:=s })) (_:i<m.provinces.length) (_:n≠s) (_:a8 m n=none\/a8 m n=some i) (_:a8 m s=none\/a8 m s=some i) (_:∀H' B',Mv B B' H H'->dB A H' B' (setProvince m i { ag m i with name:=n,short:=s })->Q .iE H')
theorem EN (T:Tx K mg A):dy P w K mg base hX 1 A.qr A.qz oO (Uw A):=by
 exists T.LL,vb,"o"
 ·obtain⟨B,m,i,n,s,rfl,_⟩:=h
  rfl
 ·obtain⟨B,m,i,n,t,rfl,l,wf,wf',hi,nt,fn,ft,k⟩:=h
  have hu:=qi hr
  have nd:=vb.nd
  have sl:ao=16777216:=bI
  obtain⟨a,sa,dx,e1,e2,e3,e4⟩:=l.pa hi
  refine⟨_,aj (cA (i:=4) nd rfl (bC rfl) (bW b8 (aJ (pv 0) rfl) (pv 1) (fun _ _=>rfl)))
   (aj (eI (MY (aJ (pv 0) rfl) (aJ (pv 4) rfl) ⟨rfl,rfl,rfl,rfl⟩))
   (aj (eI (MY (aJ (pv 0) rfl) (aJ (pv 4) rfl) ⟨rfl,rfl,rfl,rfl⟩))
   (aj (fO (pv 4) (pv 2) rfl) (aj (fO (pv 4) (pv 3) rfl)
   (aj (uc hu (aJ (pv 0) rfl) (pv 2) (pv 1) rfl) (az (uc hu (aJ (pv 0) rfl) (pv 3) (pv 1) rfl))))))),?_⟩
  have wn:dW B.kw (bB (tx (ag m i).name))=some (.int i):=by rw[l.words,B7 wf hi];rfl
  have ws:dW B.kw (bB (tx (ag m i).short))=some (.int i):=by rw[l.words,rR wf hi];rfl
  have pok:=wf.pv _ (dZ hi)
  have tne:∀{x y:List Nat},x≠y->(bB (tx x):Key)≠bB (tx y):=fun h e=>h (pM (yx e))
  have RA:=l.RA
  have plen:=wf.LR
  have g1:∀x,dW (fQ B.kw (bB (tx (ag m i).name))) (bB (tx x))=if x=(ag m i).name then none else (a8 m x).map fun i=>V.int i:=fun x=>by
   rw[yE]
   by_cases c:x=(ag m i).name
   ·rw[if_pos c,if_pos (by rw[c])]
   ·rw[if_neg c,if_neg (tne c),l.words]
  have g1s:dW (fQ B.kw (bB (tx (ag m i).name))) (bB (tx (ag m i).short))=some (.int i):=by rw[g1,if_neg (bK pok.ne),rR wf hi];rfl
  have g2:∀x,dW (fQ (fQ B.kw (bB (tx (ag m i).name))) (bB (tx (ag m i).short))) (bB (tx x))=if x=(ag m i).short\/x=(ag m i).name then none else (a8 m x).map fun i=>V.int i:=fun x=>by
   rw[yE,g1]
   by_cases c:x=(ag m i).short
   ·rw[if_pos (by rw[c]),if_pos (.inl c)]
   ·rw[if_neg (tne c)]
    by_cases d:x=(ag m i).name
    ·rw[if_pos d,if_pos (.inr d)]
    ·rw[if_neg d,if_neg (not_or.mpr ⟨c,d⟩)]
  have ln1:=Dm l.SV (QW wn)
  have ln2:=Dm (KY _ l.SV) (QW g1s)
  have nd2:=KY (bB (tx (ag m i).short)) (KY (bB (tx (ag m i).name)) l.SV)
  have old:∀x,(a8 m x=none\/a8 m x=some i)->dW (fQ (fQ B.kw (bB (tx (ag m i).name))) (bB (tx (ag m i).short))) (bB (tx x))=none:=fun x h=>by
   rw[g2]
   by_cases c:x=(ag m i).short\/x=(ag m i).name
   ·rw[if_pos c]
   ·rw[if_neg c]
    rcases h with h | h
    ·rw[h];rfl
    ·obtain⟨_,q⟩:=dX h
     rcases (gq _ _).mp q with q | q
     ·exact absurd (.inr q.symm) c
     ·exact absurd (.inl q.symm) c
  have g3:=sF (fQ (fQ B.kw (bB (tx (ag m i).name))) (bB (tx (ag m i).short))) (bB (tx n))
  have o3:dW (putK (fQ (fQ B.kw (bB (tx (ag m i).name))) (bB (tx (ag m i).short))) (bB (tx n)) (.int i)) (bB (tx t))=none:=by rw[g3,if_neg (tne (bK nt)),old t ft]
  have words:∀x,dW (putK (putK (fQ (fQ B.kw (bB (tx (ag m i).name))) (bB (tx (ag m i).short))) (bB (tx n)) (.int i)) (bB (tx t)) (.int i)) (bB (tx x))=(a8 (setProvince m i { ag m i with name:=n,short:=t }) x).map fun i=>V.int i:=fun x=>by
   have len:(setProvince m i { ag m i with name:=n,short:=t }).provinces.length=m.provinces.length:=by unfold setProvince;exact pI
   have hit:x=n\/x=t->a8 (setProvince m i { ag m i with name:=n,short:=t }) x=some i:=fun h=>by
    rw[iK wf',len,jC hi,if_pos rfl,gq]
    refine⟨hi,?_⟩
    rcases h with h | h
    ·exact .inl h.symm
    ·exact .inr h.symm
   rw[sF]
   by_cases c1:x=t
   ·rw[if_pos (by rw[c1]),hit (.inr c1)];rfl
   ·rw[if_neg (tne c1),g3]
    by_cases c2:x=n
    ·rw[if_pos (by rw[c2]),hit (.inl c2)];rfl
    ·rw[if_neg (tne c2),g2]
     have out:∀j,a8 (setProvince m i { ag m i with name:=n,short:=t }) x=some j<->j≠i/\a8 m x=some j:=fun j=>by
      rw[iK wf',len,jC hi,iK wf]
      by_cases cj:j=i
      ·rw[if_pos cj,gq]
       constructor
       ·rintro ⟨_,h | h⟩
        ·exact absurd h.symm c2
        ·exact absurd h.symm c1
       ·rintro ⟨h,_⟩;exact absurd cj h
      ·rw[if_neg cj]
       exact⟨fun h=>⟨cj,h⟩,fun h=>h.2⟩
     by_cases c3:x=(ag m i).short\/x=(ag m i).name
     ·rw[if_pos c3]
      have ei:a8 m x=some i:=by
       rcases c3 with h | h
       ·rw[h];exact rR wf hi
       ·rw[h];exact B7 wf hi
      cases e:a8 (setProvince m i { ag m i with name:=n,short:=t }) x with
      | none=>rfl
      | some j=>
       obtain⟨a1,a2⟩:=(out j).mp e
       rw[ei] at a2;injection a2 with a2;exact absurd a2.symm a1
     ·rw[if_neg c3]
      cases e:a8 m x with
      | none=>
       cases e':a8 (setProvince m i { ag m i with name:=n,short:=t }) x with
       | none=>rfl
       | some j=>have:=((out j).mp e').2;rw[e] at this;cases this
      | some j=>
       have:j≠i:=fun z=>by
        obtain⟨_,q⟩:=dX e
        rw[z] at q
        rcases (gq _ _).mp q with q | q
        ·exact c3 (.inr q.symm)
        ·exact c3 (.inl q.symm)
       rw[(out j).mpr ⟨this,e⟩]
  have nbw:a≠B.bw:=eD e3 l.bw (fun z=>nomatch z)
  refine⟨_,rfl,B.b,A.aK,B.dx,_,_,rfl,l.ins,T.aV,T.bA,rfl,_,rfl,B.pv,_,_,_,rfl,rfl,cP.of l.pv,aW (j:=i) (by rw[aX,e1];rfl),?_⟩
  have bb:∀(kw:List (Key×V)),upd H B.bw (.dK kw) B.b=some (.ins A.aK B.dx (Z8 B)):=fun kw=>by rw[aQ (eD l.ins l.bw (fun z=>nomatch z))];exact l.ins
  have ba:∀(kw:List (Key×V)),upd H B.bw (.dK kw) a=some (.ins A.aO dx (Il (ag m i) sa)):=fun kw=>by rw[aQ nbw];exact e3
  refine⟨_,rfl,B.b,A.aK,B.dx,_,_,rfl,l.ins,T.aV,T.cT,rfl,B.bw,rfl,.inl ⟨_,.inl l.bw⟩,_,rfl,a,A.aO,dx,_,_,rfl,e3,T.bg,T.fK,rfl,_,bB (tx (ag m i).name),_,l.bw,rfl,wn,?_⟩
  refine⟨_,rfl,B.b,A.aK,B.dx,_,_,rfl,bb _,T.aV,T.cT,rfl,B.bw,rfl,.inl ⟨_,.inl aw⟩,_,rfl,a,A.aO,dx,_,_,rfl,ba _,T.bg,T.dN,rfl,_,bB (tx (ag m i).short),_,aw,rfl,g1s,?_⟩
  rw[tO]
  refine⟨_,rfl,_,rfl,a,A.aO,dx,_,rfl,ba _,T.bg,T.fK,by show 6<1000;decide,?_⟩
  refine⟨_,rfl,_,rfl,a,A.aO,dx,_,rfl,aw,T.bg,T.dN,by show 6<1000;decide,?_⟩
  rw[tO]
  have pf:de "short" (wV t) (de "name" (wV n) (Il (ag m i) sa))=Il { ag m i with name:=n,short:=t } sa:=rfl
  rw[pf]
  have bw3:∀(kw:List (Key×V)) (o:HO),upd (upd H B.bw (.dK kw)) a o B.bw=some (.dK kw):=fun kw o=>by rw[aQ (bK nbw),aw]
  have bb3:∀(kw:List (Key×V)) (dx':af) (p:cJ),upd (upd H B.bw (.dK kw)) a (.ins A.aO dx' (Il p sa)) B.b=some (.ins A.aK B.dx (Z8 B)):=fun kw dx' p=>by rw[aQ (eD l.ins e3 YA)];exact bb kw
  have nb:B.b≠B.bw:=eD l.ins l.bw (fun z=>nomatch z)
  refine⟨_,rfl,_,rfl,B.b,A.aK,B.dx,_,_,rfl,bb3 _ _ _,T.aV,T.cT,rfl,_,rfl,B.bw,_,rfl,Cn.k (k:=bB (tx n)) (bw3 _ _) (by omega),?_⟩
  refine⟨_,rfl,_,rfl,B.b,A.aK,B.dx,_,_,rfl,by rw[aQ nb];exact bb3 _ _ _,T.aV,T.cT,rfl,_,rfl,B.bw,_,rfl,Cn.k (k:=bB (tx t)) aw (by rw[kL _ (old n fn),aA,bS];omega),?_⟩
  rw[tO]
  have kp:∀x o,H x=some o->x≠a->x≠B.bw->upd (upd (upd H B.bw (.dK (fQ (fQ B.kw (bB (tx (ag m i).name))) (bB (tx (ag m i).short))))) a (.ins A.aO dx (Il { ag m i with name:=n,short:=t } sa))) B.bw
    (.dK (putK (putK (fQ (fQ B.kw (bB (tx (ag m i).name))) (bB (tx (ag m i).short))) (bB (tx n)) (.int i)) (bB (tx t)) (.int i))) x=some o:=fun x o e c1 c2=>by rw[aQ c2,aQ c1,aQ c2];exact e
  have len4:(putK (putK (fQ (fQ B.kw (bB (tx (ag m i).name))) (bB (tx (ag m i).short))) (bB (tx n)) (.int i)) (bB (tx t)) (.int i)).length<=2*m.provinces.length:=by
   rw[kL _ o3,kL _ (old n fn),aA,aA,bS,bS]
   omega
  have bs:=Qp l { ag m i with name:=n,short:=t } rfl e1 e2 aw words (Ft _ (Ft _ nd2 (old n fn)) o3) len4 (by rw[aQ nbw,aw]) kp
  refine k _ _ ?_ bs
  refine⟨rfl,fun x o e no=>kp x o e (fun z=>no ?_) (fun z=>no ?_),fun x hx=>.inl hx,fun x hx=>.inl hx⟩
  ·rw[z]
   have:a∈B.ps:=aN e1
   simp[own,this]
  ·rw[z];simp[own]
end
end Pb
namespace Pb
open PySem PySem.Spec PyProof.Rows L2 TL
open Vbsoab (provAt exactly powerOf placeOf cutAt shoreOf named shoreName distinctWords word)
theorem B_:∀l:List (List Nat),distinctWords l=true<->l.Nodup
 | []=>by simp[distinctWords]
 | x::l=>by
  rw[c7,<- B_ l]
  simp[distinctWords]
theorem U' (l:List (List Nat)):(l.map tx).Nodup<->l.Nodup:=by
 induction l with
 | nil=>simp
 | cons a l ih=>
  rw[a7,c7,c7,ih]
  have e:tx a∈l.map tx<->a∈l:=by
   constructor
   ·intro h
    obtain⟨b,hb,e⟩:=a9.mp h
    rw[<- pM e];exact hb
   ·exact fun h=>a9.mpr ⟨a,h,rfl⟩
  rw[e]
theorem Xj (l:List (List Nat)):decide (qe [] (l.map tx)=l.length)=distinctWords l:=by
 rw[bq,decide_eq_true_eq,B_]
 have h:=SO [] (l.map tx)
 rw[aa] at h
 rw[h,U']
 simp
def md (l:List (List Nat)):Bool:=l.all shoreName&&(distinctWords l&&(l.length != 1&&decide (l.length<=4)))
section
def lB (K:ae) (H:Hp) (a:af) (ws:List (List Nat)):Prop:=cP K H a (ws.map wV)/\ws.length<=100000/\∀x∈ws,x.length<=1000000
theorem lB.same {H H':Hp} {a:af} {ws:List (List Nat)} (h:lB K H a ws) (s:bX H H'):lB K H' a ws:=⟨s.seq h.1,h.2⟩
inductive Mr (K:ae) (vs:List V) (H:Hp) (Q:VK) (E':XK):Prop
 | mk (a:af) (ws:List (List Nat)) (_:vs=[.ref a]) (_:lB K H a ws) (_:zM H Q (md ws))
theorem Iq (T:Tx K mg A):dy P w K mg base hX 3 A.uK A.uQ rD (Mr K):=by
 exists T.HJ,zu,"o"
 ·obtain⟨a,ws,rfl,_⟩:=h
  rfl
 ·obtain⟨a,ws,rfl,⟨hs,hE,each⟩,k⟩:=h
  have sl:ao=16777216:=bI
  have nd:=zu.nd
  refine⟨_,aj (cV (PW.pt (kK (cg eM (bT bF rfl T.eU bf (ab (pv 0) aq)) aS (cD _)) (lD (cg Rl (bT bF rfl T.eU bf (ab (pv 0) aq)) aS (cD _))))) (az (a_ vc)) bO)
   (az (a_ (Am (bT (Qn rfl) rfl T.Vc (by decide +kernel) (ab (sR rfl nd (fV (pv 0)) (gc (N:=zy) (sc:=aP nR) (own:=[("word",1)]) (by decide +kernel)) (fun _ _ _ _ _=>df (i:=1) nd rfl (bC rfl)) (fun _ _ _ _ _=>mh)
     (fun _ _ _ _ _=>bP (M8 T) hr rfl T.P8 T.NP.kp T.Qv .nil bR (ab (pv 1) aq))) aq))
    (Al (h_ eM (bT Yb rfl T.eU bf (ab (CL (X' rfl) rfl T.aa4 (by decide +kernel) (ab (pv 0) aq)) aq)) (bT bF rfl T.eU bf (ab (pv 0) aq)) (cD _)))))),?_⟩
  have ll:(ws.map wV).length=ws.length:=aa _
  refine⟨_,rfl,a,_,rfl,.inl hs,rfl,_,rfl,?_⟩
  rw[ll]
  have no:¬ (ws.length≠1/\ws.length<=4)->Q (.bl false) H:=fun h=>by
   have z:=k H (bX.refl H)
   have e:md ws=false:=by
    unfold md
    by_cases c:ws.length=1
    ·simp[c]
    ·have:¬ ws.length<=4:=fun d=>h ⟨c,d⟩
     simp[this]
   rw[e] at z
   exact z
  by_cases c1:ws.length=1
  ·have e:decide (V.int (ws.length:Nat)=V.int 1)=true:=by rw[c1];rfl
   rw[e]
   refine b9 (b9 (no fun z=>z.1 c1))
  ·have e:decide (V.int (ws.length:Nat)=V.int 1)=false:=decide_eq_false fun z=>by injection z with z;omega
   rw[e]
   refine bY ⟨_,rfl,a,_,rfl,.inl hs,_,_,rfl,rfl,_,rfl,?_⟩
   rw[ll]
   by_cases c2:ws.length<=4
   ·have e2:decide ((4:Int)<(ws.length:Nat))=false:=decide_eq_false (by omega)
    rw[e2]
    refine bY ⟨_,rfl,a,rfl,⟨_,hs⟩,fun D hD=>k_ (K:=K) (a:=a) (xs:=ws.map wV) (fun j H'=>J1 H D ((ws.take j).map fun x=>V.bl (shoreName x)) H') (C2 hD) (fun j H' _ z=>z.1.seq hs) ?_ ?_⟩
    ·intro j y H' hy z
     obtain⟨x,hx,rfl⟩:=get_map hy
     refine⟨rfl,_,rfl,x,rfl,each x (aN hx),fun H2 s2=>?_⟩
     exact qh (z.same s2) hD (iJ _ hx (by omega)) (map_take _ hx)
    ·intro H' z
     rw[aa,bM] at z
     refine⟨D,ws.map shoreName,rfl,cP.of (by rw[cz];exact z.2),_,rfl,?_⟩
     have eall:(ws.map shoreName).all id=ws.all shoreName:=by rw[mU];rfl
     rw[eall]
     have kz:=k H' z.1
     have full:md ws=(ws.all shoreName&&distinctWords ws):=by
      unfold md
      have b1:(ws.length != 1)=true:=by simpa using c1
      rw[b1,decide_eq_true c2]
      simp
     cases ea:ws.all shoreName with
     | false=>
      rw[full,ea] at kz
      exact bY kz
     | true=>
      refine b9 ⟨_,rfl,a,ws.map tx,rfl,by rw[cz];exact z.1.seq hs,by rw[aa];show _<4096;omega,fun S hS=>⟨S,ws.map tx,rfl,aw,?_⟩⟩
      refine⟨_,rfl,a,_,rfl,.inl ((br hS).seq (z.1.seq hs)),rfl,?_⟩
      rw[ll]
      have kz2:=k _ (z.1.trans (br (o:=Wg P w S (ws.map tx)) hS))
      rw[full,ea,il,<- Xj] at kz2
      have ed:decide (V.int (qe [] (ws.map tx):Nat)=V.int (ws.length:Nat))=decide (qe [] (ws.map tx)=ws.length):=by
       rw[bq,decide_eq_true_eq,decide_eq_true_eq]
       constructor
       ·intro q;injection q with q;omega
       ·intro q;rw[q]
      rw[ed]
      exact kz2
   ·have e2:decide ((4:Int)<(ws.length:Nat))=true:=decide_eq_true (by omega)
    rw[e2]
    exact b9 (no fun z=>c2 z.2)
end
end Pb
namespace Pb
open PySem PySem.Spec PyProof.Rows L2 TL
open Vbsoab (provAt exactly powerOf placeOf cutAt shoreOf named shoreName distinctWords word)
def lE:List (List Nat)->Bool
 | k::n::s::sh=>named 1 15 n&&(named 2 2 s&&(if k=word "coast" then md sh else sh.isEmpty))
 | _=>false
theorem Ku {ws:List (List Nat)} (h:ws.length<3):lE ws=false:=by
 match ws with
 | []=>rfl
 | [_]=>rfl
 | [_,_]=>rfl
 | _::_::_::_=>simp at h;omega
theorem abk (a b c:V) (l:List V):E4 (a::b::c::l) (some 3) none=l:=by
 have e:HT.oG (l.length+1+1+1) 0 (some 3)=3:=by unfold HT.oG;simp
 simp[E4,e,HT.oG]
section
theorem qL {s:String} (h:ak s=tx (word s)) (k:List Nat):decide (wV k=V.str (ak s))=decide (k=word s):=by
 rw[h,bq,decide_eq_true_eq,decide_eq_true_eq]
 constructor
 ·intro q
  injection q with q
  exact pM q
 ·intro q;rw[q]
inductive Ux (K:ae) (vs:List V) (H:Hp) (Q:VK) (E':XK):Prop
 | mk (a:af) (ws:List (List Nat)) (_:vs=[.ref a]) (_:lB K H a ws) (_:zM H Q (lE ws))
theorem y_ (T:Tx K mg A):dy P w K mg base hX 4 A.lJ A.lM kg (Ux K):=by
 exists T.sW,y8,"o"
 ·obtain⟨a,ws,rfl,_⟩:=h
  rfl
 ·obtain⟨a,ws,rfl,hw,k⟩:=h
  have hs:=hw.1
  refine⟨_,aj (cV (PW.pt (kK (cg DZ (bT bF rfl T.eU bf (ab (pv 0) aq)) aS (cD _))
    (kK (kf (fB (bP (Gs T) hr rfl T.JK T.K8.kp T.JY .nil bR (ab (bW b8 (pv 0) aS (fun _ _=>rfl)) aq))))
    (lD (kf (fB (bP (D4 T) hr rfl T.Hd T.G2.kp T.Hz .nil bR (ab (bW b8 (pv 0) aS (fun _ _=>rfl)) aq)))))))) (az (a_ vc)) bO)
   (az (a_ (kM (cg eM (bW b8 (pv 0) aS (fun _ _=>rfl)) (bW dH (YB T.BZ) (lZ T.XZ) (fun _ _=>rfl)) (cD _))
    (bP (Iq T) hr rfl T.Lb T.HJ.kp T.Lz .nil bR (ab (xk Fl (pv 0) (uk aS) Kv) aq))
    (h_ eM (bT bF rfl T.eU bf (ab (pv 0) aq)) aS (cD _))))),?_⟩
  refine⟨_,rfl,a,_,rfl,.inl hs,_,_,rfl,rfl,_,rfl,?_⟩
  rw[aa]
  by_cases c:ws.length<3
  ·rw[decide_eq_true (show ((ws.length:Nat):Int)<3 by omega)]
   have z:=k H (bX.refl H)
   rw[Ku c] at z
   exact b9 (b9 z)
  ·rw[decide_eq_false (show ¬ ((ws.length:Nat):Int)<3 by omega)]
   match ws,c with
   | [],c=>exact absurd (by decide) c
   | [_],c=>exact absurd (show 1<3 by decide) c
   | [_,_],c=>exact absurd (show 2<3 by decide) c
   | kk::n::sh::r,c=>
    have each:=hw.2.2
    have hl:=hw.2.1
    refine bY ⟨_,rfl,a,_,1,_,rfl,rfl,hs,aW (j:=1) rfl,n,rfl,each n (by simp),fun H1 s1=>⟨_,rfl,?_⟩⟩
    cases e1:named 1 15 n with
    | false=>
     have z:=k H1 s1
     have e:lE (kk::n::sh::r)=false:=by simp[lE,e1]
     rw[e] at z
     exact b9 (b9 z)
    | true=>
     refine bY ⟨_,rfl,a,_,2,_,rfl,rfl,s1.seq hs,aW (j:=2) rfl,sh,rfl,each sh (by simp),fun H2 s2=>⟨_,rfl,?_⟩⟩
     cases e2:named 2 2 sh with
     | false=>
      have z:=k H2 (s1.trans s2)
      have e:lE (kk::n::sh::r)=false:=by simp[lE,e1,e2]
      rw[e] at z
      exact b9 z
     | true=>
      have hs2:=(s1.trans s2).seq hs
      refine bY ⟨_,rfl,a,_,0,_,rfl,rfl,hs2,aW (j:=0) rfl,A.jt,_,2,_,rfl,rfl,T.kW.sq _,aW (j:=2) rfl,rfl,_,rfl,?_⟩
      show if decide (wV kk=V.str (ak "coast"))=true then _ else _
      rw[qL (by decide +kernel)]
      by_cases ck:kk=word "coast"
      ·rw[decide_eq_true ck]
       refine b9 ⟨_,rfl,3,rfl,a,_,rfl,hs2,fun p hp=>⟨p,r,rfl,⟨cP.of ?_,by simp at hl;omega,fun x hx=>each x (by simp[hx])⟩,fun H3 s3=>?_⟩⟩
       ·rw[aw]
        show some (HO.lst (E4 (wV kk::wV n::wV sh::r.map wV) (some 3) none))=_
        rw[abk]
       ·have z:=k H3 ((s1.trans s2).trans ((br hp).trans s3))
        have e:lE (kk::n::sh::r)=md r:=by simp[lE,e1,e2,ck]
        rw[e] at z
        exact z
      ·rw[decide_eq_false ck]
       refine bY ⟨_,rfl,a,_,rfl,.inl hs2,rfl,?_⟩
       have z:=k H2 (s1.trans s2)
       have e:lE (kk::n::sh::r)=decide (V.int (((kk::n::sh::r).map wV).length:Nat)=V.int 3):=by
        have q:decide (V.int (((kk::n::sh::r).map wV).length:Nat)=V.int 3)=r.isEmpty:=by
         rw[bq,decide_eq_true_eq,vx]
         constructor
         ·intro q
          injection q with q
          simp at q
          exact mL.mp (by omega)
         ·intro q;rw[q];rfl
        rw[q]
        simp[lE,e1,e2,ck]
       rw[e] at z
       exact z
end
end Pb
namespace Pb
open PySem PySem.Spec PyProof.Rows L2 TL
open Vbsoab (provAt exactly powerOf placeOf cutAt shoreOf named shoreName distinctWords word)
def rM (k:List Nat):Bool:=decide (k=word "land")||(decide (k=word "sea")||decide (k=word "coast"))
def eY (ws:List (List Nat)):Bool:=match ws with
 | []=>false
 | k::r=>
  if k=word "power" then (match r with | [n]=>named 1 11 n | _=>false)
  else if rM k=true then lE ws
  else if k=word "join"\/k=word "sail" then r.length==2
  else if k=word "centre" then r.length==1||r.length==2
  else if k=word "start" then (match r with | [_,u,_]=>decide (u=word "army")||decide (u=word "fleet") | _=>false)
  else false
theorem Rm:ak "land"=tx (word "land"):=by decide +kernel
theorem U8:ak "sea"=tx (word "sea"):=by decide +kernel
theorem Nf:ak "coast"=tx (word "coast"):=by decide +kernel
theorem Rn:ak "army"=tx (word "army"):=by decide +kernel
theorem Nd:ak "fleet"=tx (word "fleet"):=by decide +kernel
theorem kN:ak "power"=tx (word "power"):=by decide +kernel
theorem qT:ak "join"=tx (word "join"):=by decide +kernel
theorem uA:ak "sail"=tx (word "sail"):=by decide +kernel
theorem pB:ak "centre"=tx (word "centre"):=by decide +kernel
theorem Gz:ak "start"=tx (word "start"):=by decide +kernel
theorem x_ (k x:List Nat):(x==k)=decide (k=x):=by
 rw[bq,beq_iff_eq,decide_eq_true_eq]
 exact⟨fun h=>h.symm,fun h=>h.symm⟩
theorem G7 (k:List Nat):JI (wV k) [.str "land",.str "sea",.str "coast"]=rM k:=by
 show JI (wV k) [.str (ak "land"),.str (ak "sea"),.str (ak "coast")]=_
 rw[Rm,U8,Nf]
 show (LS (wV (word "land")) (wV k)||(LS (wV (word "sea")) (wV k)||(LS (wV (word "coast")) (wV k)||false)))=_
 rw[B8,B8,B8,x_,x_,x_,L5]
 rfl
theorem Vs (k:List Nat):JI (wV k) [.str (ak "army"),.str (ak "fleet")]=(decide (k=word "army")||decide (k=word "fleet")):=by
 rw[Rn,Nd]
 show (LS (wV (word "army")) (wV k)||(LS (wV (word "fleet")) (wV k)||false))=_
 rw[B8,B8,x_,x_,L5]
theorem len_eq (n m:Nat):decide (V.int ((n:Nat):Int)=V.int ((m:Nat):Int))=(n==m):=by
 rw[bq,decide_eq_true_eq,beq_iff_eq]
 constructor
 ·intro q
  injection q with q
  omega
 ·intro q;rw[q]
section
inductive Zc (K:ae) (vs:List V) (H:Hp) (Q:VK) (E':XK):Prop
 | mk (a:af) (ws:List (List Nat)) (_:vs=[.ref a]) (_:lB K H a ws) (_:ws≠[]) (_:zM H Q (eY ws))
theorem M_ (T:Tx K mg A):dy P w K mg base hX 5 A.AU A.Ba xa (Zc K):=by
 exists T.NT,DU,"o"
 ·obtain⟨a,ws,rfl,_⟩:=h
  rfl
 ·obtain⟨a,ws,rfl,hw,ne,g⟩:=h
  obtain⟨k,r,rfl⟩:∃k r,ws=k::r:=List.exists_cons_of_ne_nil ne
  have hs:=hw.1
  have nd:=DU.nd
  have each:=hw.2.2
  refine⟨_,aj (cA (i:=1) nd rfl (bC rfl) (bW b8 (pv 0) aS (fun _ _=>rfl)))
   (aj (cV (cg eM (pv 1) ff (cD _)) (az (a_ (Am (h_ eM (bT bF rfl T.eU bf (ab (pv 0) aq)) aS (cD _)) (Al (bP (M9 T) (hr.mono (by decide)) rfl T.P9 T.NQ.kp T.Qw .nil bR (ab (bW b8 (pv 0) aS (fun _ _=>rfl)) aq)))))) bO)
   (aj (cV (cg pA (pv 1) (YB T.BZ) (by with_unfolding_all rfl)) (az (a_ (bP (y_ T) hr rfl T.AB T.sW.kp T.Bh .nil bR (ab (pv 0) aq)))) bO)
   (aj (cV (PW.pt (kK (cg eM (pv 1) ff (cD _)) (lD (cg eM (pv 1) ff (cD _))))) (az (a_ (h_ eM (bT bF rfl T.eU bf (ab (pv 0) aq)) aS (cD _)))) bO)
   (aj (cV (cg eM (pv 1) ff (cD _)) (az (a_ (aa0 (h_ eM (bT bF rfl T.eU bf (ab (pv 0) aq)) aS (cD _)) (Al (h_ eM (bT bF rfl T.eU bf (ab (pv 0) aq)) aS (cD _)))))) bO)
   (aj (cV (cg eM (pv 1) ff (cD _)) (az (a_ (Am (h_ eM (bT bF rfl T.eU bf (ab (pv 0) aq)) aS (cD _)) (Al (h_ pA (bW b8 (pv 0) aS (fun _ _=>rfl)) (ki (ab ff (ab ff aq))) (by with_unfolding_all rfl)))))) bO)
   (az (a_ vc))))))),?_⟩
  have k0:=g H (bX.refl H)
  refine⟨_,rfl,a,_,0,_,rfl,rfl,hs,aW (j:=0) rfl,_,rfl,rfl,_,rfl,?_⟩
  show if decide (wV k=V.str (ak "power"))=true then _ else _
  rw[qL kN]
  have ll:((k::r).map wV).length=r.length+1:=by simp
  by_cases c1:k=word "power"
  ·rw[decide_eq_true c1]
   refine b9 ⟨_,rfl,a,_,rfl,.inl hs,rfl,_,rfl,?_⟩
   rw[ll]
   have e:=len_eq (r.length+1) 2
   rw[show ((2:Nat):Int)=2 from rfl] at e
   rw[e]
   match r with
   | []=>rw[show eY [k]=false by simp[eY,c1]] at k0;exact bY k0
   | n::x::y=>rw[show eY (k::n::x::y)=false by simp[eY,c1]] at k0;exact bY k0
   | [n]=>
    refine b9 ⟨_,rfl,a,_,1,_,rfl,rfl,hs,aW (j:=1) rfl,n,rfl,each n (by simp),fun H1 s1=>?_⟩
    have z:=g H1 s1
    rw[show eY [k,n]=named 1 11 n by simp[eY,c1]] at z
    exact z
  ·rw[decide_eq_false c1]
   refine bY ⟨_,rfl,A.jt,_,rfl,.inr (T.kW.sq _),rfl,rfl,_,rfl,?_⟩
   show if JI (wV k) [.str "land",.str "sea",.str "coast"]=true then _ else _
   rw[G7]
   cases c2:rM k with
   | true=>
    refine b9 ⟨_,rfl,a,_,rfl,hw,fun H1 s1=>?_⟩
    have z:=g H1 s1
    rw[show eY (k::r)=lE (k::r) by simp[eY,c1,c2]] at z
    exact z
   | false=>
    refine bY ⟨_,rfl,rfl,_,rfl,?_⟩
    show if decide (wV k=V.str (ak "join"))=true then _ else _
    rw[qL qT]
    have three:k=word "join"\/k=word "sail"->Q (V.bl (decide (V.int (((k::r).map wV).length:Nat)=V.int 3))) H:=fun c3=>by
     rw[ll]
     have e:=len_eq (r.length+1) 3
     rw[show ((3:Nat):Int)=3 from rfl] at e
     rw[e]
     have q:eY (k::r)=(r.length==2):=by simp[eY,c1,c2,c3]
     rw[q] at k0
     have q2:(r.length+1==3)=(r.length==2):=by rw[bq,beq_iff_eq,beq_iff_eq];omega
     rw[q2]
     exact k0
    by_cases c3:k=word "join"
    ·rw[decide_eq_true c3]
     exact b9 (b9 ⟨_,rfl,a,_,rfl,.inl hs,rfl,three (.inl c3)⟩)
    ·rw[decide_eq_false c3]
     refine bY ⟨_,rfl,rfl,_,rfl,?_⟩
     show if decide (wV k=V.str (ak "sail"))=true then _ else _
     rw[qL uA]
     by_cases c4:k=word "sail"
     ·rw[decide_eq_true c4]
      exact b9 ⟨_,rfl,a,_,rfl,.inl hs,rfl,three (.inr c4)⟩
     ·rw[decide_eq_false c4]
      refine bY ⟨_,rfl,rfl,_,rfl,?_⟩
      show if decide (wV k=V.str (ak "centre"))=true then _ else _
      rw[qL pB]
      by_cases c5:k=word "centre"
      ·rw[decide_eq_true c5]
       refine b9 ⟨_,rfl,a,_,rfl,.inl hs,rfl,_,rfl,?_⟩
       have q:eY (k::r)=(r.length==1||r.length==2):=by simp only[eY];rw[if_neg c1,if_neg (by rw[c2];decide),if_neg (not_or.mpr ⟨c3,c4⟩),if_pos c5]
       rw[q] at k0
       have e:=len_eq (r.length+1) 2
       have e':=len_eq (r.length+1) 3
       rw[show ((2:Nat):Int)=2 from rfl] at e
       rw[show ((3:Nat):Int)=3 from rfl] at e'
       have q2:(r.length+1==2)=(r.length==1):=by rw[bq,beq_iff_eq,beq_iff_eq];omega
       have q3:(r.length+1==3)=(r.length==2):=by rw[bq,beq_iff_eq,beq_iff_eq];omega
       rw[ll,e,q2]
       cases o:(r.length==1) with
       | true=>
        rw[o] at k0
        exact b9 k0
       | false=>
        rw[o,L6] at k0
        refine bY ⟨_,rfl,a,_,rfl,.inl hs,rfl,?_⟩
        rw[ll,e',q3]
        exact k0
      ·rw[decide_eq_false c5]
       refine bY ⟨_,rfl,rfl,_,rfl,?_⟩
       show if decide (wV k=V.str (ak "start"))=true then _ else _
       rw[qL Gz]
       by_cases c6:k=word "start"
       ·rw[decide_eq_true c6]
        refine b9 ⟨_,rfl,a,_,rfl,.inl hs,rfl,_,rfl,?_⟩
        rw[ll]
        have e:=len_eq (r.length+1) 4
        rw[show ((4:Nat):Int)=4 from rfl] at e
        rw[e]
        match r with
        | []=>rw[show eY [k]=false by simp[eY,c1,c2,c3,c4,c5]] at k0;exact bY k0
        | [_]=>rw[show eY [k,_]=false by simp[eY,c1,c2,c3,c4,c5]] at k0;exact bY k0
        | [_,_]=>rw[show eY [k,_,_]=false by simp[eY,c1,c2,c3,c4,c5]] at k0;exact bY k0
        | x1::x2::x3::x4::l=>
         rw[show eY (k::x1::x2::x3::x4::l)=false by simp[eY,c1,c2,c3,c4,c5]] at k0
         have q:((x1::x2::x3::x4::l).length+1==4)=false:=by simp
         rw[q]
         exact bY k0
        | [x,u,y]=>
         refine b9 ⟨_,rfl,a,_,2,_,rfl,rfl,hs,aW (j:=2) rfl,by show 2<=ao;decide,fun p hp=>⟨p,_,rfl,.inr (iC.of aw),rfl,rfl,?_⟩⟩
         show Q (V.bl (JI (wV u) [.str (ak "army"),.str (ak "fleet")])) _
         rw[Vs]
         have z:=g _ (br (o:=.tup [.str (ak "army"),.str (ak "fleet")]) hp)
         rw[show eY [k,x,u,y]=(decide (u=word "army")||decide (u=word "fleet")) by simp only[eY];rw[if_neg c1,if_neg (by rw[c2];decide),if_neg (not_or.mpr ⟨c3,c4⟩),if_neg c5,if_pos c6]] at z
         exact z
       ·rw[decide_eq_false c6]
        rw[show eY (k::r)=false by simp[eY,c1,c2,c3,c4,c5,c6]] at k0
        exact bY k0
end
end Pb
namespace Pb
open Vbsoab
def Ay (k:List Nat):Nat:=if k=word "land" then 0 else if k=word "sea" then 1 else 2
theorem lI {k:List Nat}:rM k=true<->k=word "land"\/k=word "sea"\/k=word "coast":=by simp[rM]
inductive Form (m:Map):List (List Nat)->Except Nat Map->Prop
 | power (n):named 1 11 n=true->Form m [word "power",n] (if (eZ m n).isSome=true then .error 2 else if aan<=m.powers.length then .error 6 else .ok { m with powers:=m.powers++[n] })
 | prov (k n s sh):rM k=true->k≠word "power"->named 1 15 n=true->named 2 2 s=true->md sh=true->Form m (k::n::s::sh) (qI m (Ay k) n s sh)
 | join (a b):Form m [word "join",a,b] (yX m a b)
 | sail (a b):Form m [word "sail",a,b] (r_ m a b)
 | centre (a):Form m [word "centre",a] (dS m a none)
 | home (a h):Form m [word "centre",a,h] (dS m a (some h))
 | Z9 (x a):Form m [word "start",x,word "army",a] (match eZ m x,a8 m a with | some x,some i=>gZ m x false i 0 | _,_=>.error 3)
 | fleet (x a):Form m [word "start",x,word "fleet",a] (match eZ m x,placeOf m a with | some x,some i=>gZ m x true i.1 i.2 | _,_=>.error 3)
theorem RN {m:Map} {ws:List (List Nat)} (h:eY ws=true):Form m ws (statement m ws):=by
 match ws,h with
 | k::r,h=>
  simp only[eY] at h
  by_cases c1:k=word "power"
  ·subst c1
   rw[if_pos rfl] at h
   match r,h with
   | [n],h=>
    have e:statement m [word "power",n]=if (eZ m n).isSome=true then .error 2 else if aan<=m.powers.length then .error 6 else .ok { m with powers:=m.powers++[n] }:=by
     have gen:∀k,k=word "power"->statement m [k,n]=if (eZ m n).isSome=true then .error 2 else if aan<=m.powers.length then .error 6 else .ok { m with powers:=m.powers++[n] }:=fun k hk=>by
      show (if k=word "power" then _ else _)=_
      rw[if_pos hk]
      show (if named 1 11 n=false then _ else _)=_
      rw[if_neg (by rw[show named 1 11 n=true from h];decide)]
     exact gen _ rfl
    rw[e]
    exact .power n h
  ·rw[if_neg c1] at h
   by_cases c2:rM k=true
   ·rw[if_pos c2] at h
    match r,h with
    | n::s::sh,h=>
     simp only[lE,bL] at h
     obtain⟨hn,hs,hh⟩:=h
     have hsh:md sh=true:=by
      by_cases c:k=word "coast"
      ·rw[if_pos c] at hh;exact hh
      ·rw[if_neg c] at hh;rw[vx.mp hh];decide
     have e:statement m (k::n::s::sh)=qI m (Ay k) n s sh:=by
      show (if k=word "power" then _ else _)=_
      rw[if_neg c1]
      by_cases c:k=word "coast"
      ·subst c
       rw[if_neg (by decide),if_pos rfl]
       have:(named 1 15 n&&(named 2 2 s&&(sh.all shoreName&&(distinctWords sh&&(sh.length != 1&&decide (sh.length<=4))))))=true:=by
        rw[hn,hs];exact hsh
       exact (if_neg (by rw[this];decide)).trans rfl
      ·rw[if_neg c] at hh
       have e0:sh=[]:=vx.mp hh
       subst e0
       have c3:k=word "land"\/k=word "sea":=by
        rcases lI.mp c2 with q | q | q
        ·exact .inl q
        ·exact .inr q
        ·exact absurd q c
       rw[if_pos c3]
       show (if (named 1 15 n&&named 2 2 s)=false then _ else _)=_
       rw[if_neg (by rw[hn,hs];decide)]
       rcases c3 with q | q
       ·subst q;rw[if_neg (by decide)];rfl
       ·subst q;rw[if_pos rfl];rfl
     rw[e]
     exact .prov k n s sh c2 c1 hn hs hsh
   ·rw[if_neg c2] at h
    have nk:¬ (k=word "land"\/k=word "sea")/\k≠word "coast":=⟨fun q=>c2 (lI.mpr (by rcases q with q | q;exact .inl q;exact .inr (.inl q))),fun q=>c2 (lI.mpr (.inr (.inr q)))⟩
    by_cases c3:k=word "join"\/k=word "sail"
    ·rw[if_pos c3] at h
     match r,h with
     | [a,b],_=>
      rcases c3 with q | q
      ·have e:statement m [k,a,b]=yX m a b:=by
        show (if k=word "power" then _ else _)=_
        rw[if_neg c1,if_neg nk.1,if_neg nk.2,if_pos q] <;> try rfl
       rw[e,q];exact .join a b
      ·have e:statement m [k,a,b]=r_ m a b:=by
        show (if k=word "power" then _ else _)=_
        rw[if_neg c1,if_neg nk.1,if_neg nk.2,if_neg (by rw[q];decide),if_pos q] <;> try rfl
       rw[e,q];exact .sail a b
    ·rw[if_neg c3] at h
     have n3:k≠word "join":=fun q=>c3 (.inl q)
     have n4:k≠word "sail":=fun q=>c3 (.inr q)
     by_cases c5:k=word "centre"
     ·rw[if_pos c5] at h
      match r,h with
      | [a],_=>
       have e:statement m [k,a]=dS m a none:=by
        show (if k=word "power" then _ else _)=_
        rw[if_neg c1,if_neg nk.1,if_neg nk.2,if_neg n3,if_neg n4,if_pos c5] <;> try rfl
       rw[e,c5];exact .centre a
      | [a,b],_=>
       have e:statement m [k,a,b]=dS m a (some b):=by
        show (if k=word "power" then _ else _)=_
        rw[if_neg c1,if_neg nk.1,if_neg nk.2,if_neg n3,if_neg n4,if_pos c5] <;> try rfl
       rw[e,c5];exact .home a b
     ·rw[if_neg c5] at h
      by_cases c6:k=word "start"
      ·rw[if_pos c6] at h
       match r,h with
       | [x,u,a],h=>
        simp only[hC,decide_eq_true_eq] at h
        rcases h with q | q
        ·have e:statement m [k,x,u,a]=(match eZ m x,a8 m a with | some x,some i=>gZ m x false i 0 | _,_=>.error 3):=by
          show (if k=word "power" then _ else _)=_
          rw[if_neg c1,if_neg nk.1,if_neg nk.2,if_neg n3,if_neg n4,if_neg c5,if_pos c6]
          show (if u=word "army" then _ else _)=_
          rw[if_pos q] <;> try rfl
         rw[e,c6,q];exact .Z9 x a
        ·have e:statement m [k,x,u,a]=(match eZ m x,placeOf m a with | some x,some i=>gZ m x true i.1 i.2 | _,_=>.error 3):=by
          show (if k=word "power" then _ else _)=_
          rw[if_neg c1,if_neg nk.1,if_neg nk.2,if_neg n3,if_neg n4,if_neg c5,if_pos c6]
          show (if u=word "army" then _ else _)=_
          rw[if_neg (by rw[q];decide),if_pos q] <;> try rfl
         rw[e,c6,q];exact .fleet x a
      ·rw[if_neg c6] at h;cases h
theorem RO {m:Map} {ws:List (List Nat)} (hne:ws≠[]) (h:eY ws=false):statement m ws=.error 1:=by
 match ws,hne,h with
 | k::r,_,h=>
  simp only[eY] at h
  show (if k=word "power" then _ else _)=_
  by_cases c1:k=word "power"
  ·subst c1
   rw[if_pos rfl] at h ⊢
   match r,h with
   | [],_=>rfl
   | [n],h=>simp only at h ⊢;rw[if_pos h]
   | _::_::_,_=>rfl
  ·rw[if_neg c1] at h ⊢
   by_cases c2:rM k=true
   ·rw[if_pos c2] at h
    by_cases c:k=word "coast"
    ·subst c
     rw[if_neg (by decide),if_pos rfl]
     match r,h with
     | [],_=>rfl
     | [_],_=>rfl
     | n::s::sh,h=>
      simp only[lE,if_true] at h
      exact if_pos h
    ·have c3:k=word "land"\/k=word "sea":=by
      rcases lI.mp c2 with q | q | q
      ·exact .inl q
      ·exact .inr q
      ·exact absurd q c
     rw[if_pos c3]
     match r,h with
     | [],_=>rfl
     | [_],_=>rfl
     | [n,s],h=>
      simp only[lE] at h
      rw[if_neg c] at h
      simp only
      rw[if_pos]
      simpa using h
     | _::_::_::_,_=>rfl
   ·rw[if_neg c2] at h
    have nk:¬ (k=word "land"\/k=word "sea")/\k≠word "coast":=⟨fun q=>c2 (lI.mpr (by rcases q with q | q;exact .inl q;exact .inr (.inl q))),fun q=>c2 (lI.mpr (.inr (.inr q)))⟩
    rw[if_neg nk.1,if_neg nk.2]
    by_cases c3:k=word "join"
    ·rw[if_pos (.inl c3)] at h
     rw[if_pos c3]
     match r,h with
     | [],_=>rfl
     | [_],_=>rfl
     | [_,_],h=>cases h
     | _::_::_::_,_=>rfl
    ·rw[if_neg c3]
     by_cases c4:k=word "sail"
     ·rw[if_pos (.inr c4)] at h
      rw[if_pos c4]
      match r,h with
      | [],_=>rfl
      | [_],_=>rfl
      | [_,_],h=>cases h
      | _::_::_::_,_=>rfl
     ·rw[if_neg (not_or.mpr ⟨c3,c4⟩)] at h
      rw[if_neg c4]
      by_cases c5:k=word "centre"
      ·rw[if_pos c5] at h ⊢
       match r,h with
       | [],_=>rfl
       | [_],h=>cases h
       | [_,_],h=>cases h
       | _::_::_::_,_=>rfl
      ·rw[if_neg c5] at h ⊢
       by_cases c6:k=word "start"
       ·rw[if_pos c6] at h ⊢
        match r,h with
        | [],_=>rfl
        | [_],_=>rfl
        | [_,_],_=>rfl
        | [x,u,a],h=>
         simp only[Bool.or_eq_false_iff,decide_eq_false_iff_not] at h
         simp only
         rw[if_neg h.1,if_neg h.2]
        | _::_::_::_::_,_=>rfl
       ·rw[if_neg c6]
def pz (f:Bool) (x:Nat):Nat:=if f=true then x / 4 else x
def bar (f:Bool):Nat:=if f=true then 0 else 1
def yL (f:Bool) (m:Map):List (Nat×Nat):=if f=true then m.sea else m.land
def UL (f:Bool) (m:Map) (l:List (Nat×Nat)):Map:=if f=true then { m with sea:=l } else { m with land:=l }
def GS (f:Bool) (m:Map) (o1 o2:Option Nat):Except Nat Map:=match o1,o2 with
 | some x,some y=>
  if pz f x=pz f y\/(ag m (pz f x)).kind=bar f\/(ag m (pz f y)).kind=bar f then .error 4
  else if (yL f m).contains (pair x y)=true then .error 5
  else if LINKS<=(yL f m).length then .error 6
  else .ok (UL f m (putPair (pair x y) (yL f m)))
 | _,_=>.error 3
theorem JE (m:Map) (a b:List Nat):yX m a b=GS false m (a8 m a) (a8 m b):=by
 unfold yX GS
 cases a8 m a <;> cases a8 m b <;> rfl
def T2 (x:Nat×Nat):Nat:=4*x.1+x.2
theorem FA {m:Map} (wf:WF m) {w:List Nat} {x:Nat×Nat} (h:placeOf m w=some x):T2 x / 4=x.1/\T2 x % 4=x.2:=by
 obtain⟨h1,h2⟩:=jD h
 have:=(wf.pv _ (dZ h1)).four
 unfold T2
 omega
theorem SJ {m:Map} (wf:WF m) (a b:List Nat):r_ m a b=GS true m ((placeOf m a).map T2) ((placeOf m b).map T2):=by
 unfold r_ GS
 cases ea:placeOf m a with
 | none=>cases placeOf m b <;> rfl
 | some x=>
  cases eb:placeOf m b with
  | none=>rfl
  | some y=>
   have h1:=(FA wf ea).1
   have h2:=(FA wf eb).1
   simp only[jb,pz,if_true]
   rw[h1,h2]
   rfl
end Pb
namespace Pb
open PySem PySem.Spec PyProof.Rows L2 TL
open Vbsoab (provAt exactly powerOf placeOf cutAt shoreOf named shoreName distinctWords word setProvince putPair pair addProvince addStart POWERS PROVINCES LINKS UNITS)
def Puts (A:Ad) (H:Hp) (Q:VK) (B:Bd) (r:Except Nat aB):Prop:=(∀e,r=.error e->∀H',Out B H H'->Q (.int e) H')/\∀m,r=.ok m->∀H' B',Mv B B' H H'->dB A H' B' m->Q (.int 0) H'
theorem _root_.L2.bX.out {B:Bd} {H H':Hp} (s:bX H H'):Out B H H':=fun x o e _=>s x o e
theorem Out.refl {B:Bd} {H:Hp}:Out B H H:=fun _ _ e _=>e
theorem yI:∀{l U:List Pl},l.Nodup->(∀y∈l,y∈U)->l.length<=U.length
 | [],_,_,_=>cu _
 | a::l,U,h,hu=>by
  obtain⟨h1,h2⟩:=c7.mp h
  have ha:a∈U:=hu a (by simp)
  have:=yI (l:=l) (U:=U.erase a) h2 fun y hy=>(R' (fun e:y=a=>h1 (e▸hy))).mpr (hu y (aE _ hy))
  rw[L4 ha] at this
  have hp:0<U.length:=vV ha
  rw[aG];omega
section
variable {A:Ad} {H:Hp} {B:Bd} {m:aB}
theorem SU (wf:WF m) {x y:Nat} (h:bU m.land x y=true):x<m.provinces.length/\y<m.provinces.length:=by
 rcases fg.mp h with e | e
 ·have:=wf.OL _ e;simp at this;omega
 ·have:=wf.OL _ e;simp at this;omega
theorem GR (wf:WF m) {x y:Nat} (h:bU m.sea x y=true):placeOk m x/\placeOk m y:=by
 rcases fg.mp h with e | e
 ·have:=wf.Ra _ e;exact⟨this.2.1,this.2.2.1⟩
 ·have:=wf.Ra _ e;exact⟨this.2.2.1,this.2.1⟩
theorem dB.adg (l:dB A H B m) (wf:WF m):J2 B.L0 where
 sy:=fun x y h=>by
  obtain⟨u,v,e1,e2,q⟩:=(l.PU x y).mp h
  exact (l.PU y x).mpr ⟨v,u,e2,e1,by rw[lV];exact q⟩
 hE:=by have:=l.e0;have:=wf.ZC;omega
 IF:=fun x=>by
  have:=yI (U:=(be 40).map nA) (xA l.l0 x) fun y hy=>by
   obtain⟨u,v,e1,e2,q⟩:=(l.PU x y).mp hy
   have:=(SU wf q).2
   have:=wf.LR
   rw[e2];exact a9.mpr ⟨v,bN.mpr (by omega),rfl⟩
  rw[aa,cB] at this
  omega
theorem dB.adf (l:dB A H B m) (wf:WF m):J2 B.L1 where
 sy:=fun x y h=>by
  obtain⟨u,v,e1,e2,q⟩:=(l.PR x y).mp h
  exact (l.PR y x).mpr ⟨v,u,e2,e1,by rw[lV];exact q⟩
 hE:=by have:=l.e1;have:=wf.sel;omega
 IF:=fun x=>by
  have:=yI (U:=(be 160).map nF) (xA l.l1 x) fun y hy=>by
   obtain⟨u,v,e1,e2,q⟩:=(l.PR x y).mp hy
   have:=(GR wf q).2.1
   have:=wf.LR
   rw[e2];exact a9.mpr ⟨v,bN.mpr (by omega),rfl⟩
  rw[aa,cB] at this
  omega
theorem dB.ade (l:dB A H B m) (wf:WF m):J2 B.L2 where
 sy:=fun x y h=>by
  obtain⟨u,v,e1,e2,q⟩:=(l.SS x y).mp h
  exact (l.SS y x).mpr ⟨v,u,e2,e1,(yV wf).mp (HK wf _ _ ((yV wf).mpr q))⟩
 hE:=by have:=l.e2;have:=wf.ZC;have:=wf.sel;omega
 IF:=fun x=>by
  have:=yI (U:=(be 40).map nA) (xA l.l2 x) fun y hy=>by
   obtain⟨u,v,e1,e2,q⟩:=(l.SS x y).mp hy
   have:=QD ((yV wf).mpr q)
   have:=wf.LR
   rw[e2];exact a9.mpr ⟨v,bN.mpr (by omega),rfl⟩
  rw[aa,cB] at this
  omega
end
section
inductive O9 (A:Ad) (vs:List V) (H:Hp) (Q:VK) (E':XK):Prop
 | mk (B:Bd) (m:aB) (n:List Nat) (_:vs=[.ref B.b,wV n]) (_:dB A H B m) (_:WF m) (_:Puts A H Q B (if (eZ m n).isSome=true then .error 2 else if aan<=m.powers.length then .error 6 else .ok { m with powers:=m.powers++[n] }))
theorem KH (T:Tx K mg A):dy P w K mg base hX 1 A.xS A.yb t_ (O9 A):=by
 exists T.Jw,Kj,"o"
 ·obtain⟨B,m,n,rfl,_⟩:=h
  rfl
 ·obtain⟨B,m,n,rfl,l,wf,k1,k2⟩:=h
  have sl:ao=16777216:=bI
  refine⟨_,aj (cV (cg pA (pv 1) (aJ (pv 0) rfl) (by with_unfolding_all rfl)) (az (a_ (lZ T.RJ))) bO)
   (aj (cV (cg eM (bT bF rfl T.eU bf (ab (aJ (pv 0) rfl) aq)) (lZ T.IE) (cD _)) (az (a_ (lZ T.Lj))) bO)
   (aj (eI (j8 bG cH cG gC (aJ (pv 0) rfl) (ab (pv 1) aq)))
   (az (a_ (lZ T.uG))))),?_⟩
  refine⟨_,rfl,_,rfl,B.b,A.aK,B.dx,_,_,rfl,l.ins,T.aV,T.dO,rfl,B.pw,_,rfl,.inl (cP.of l.pw),rfl,B6 _,_,rfl,?_⟩
  show if JI (wV n) (m.powers.map wV)=true then _ else _
  rw[Vw]
  have ep:(m.powers.findIdx? fun y=>y==n)=eZ m n:=rfl
  rw[ep]
  cases e:(eZ m n).isSome with
  | true=>exact b9 (k1 2 (by rw[if_pos e]) H Out.refl)
  | false=>
   have en:¬ (eZ m n).isSome=true:=by rw[e];decide
   rw[if_neg en] at k1 k2
   refine bY ⟨_,rfl,B.b,A.aK,B.dx,_,_,rfl,l.ins,T.aV,T.dO,rfl,B.pw,_,rfl,.inl (cP.of l.pw),rfl,_,rfl,?_⟩
   rw[aa]
   have e7:decide (V.int ((m.powers.length:Nat):Int)=V.int 7)=(m.powers.length==7):=len_eq m.powers.length 7
   rw[e7]
   have hw:=wf.pwl
   by_cases c:m.powers.length=7
   ·rw[show (m.powers.length==7)=true from beq_iff_eq.mpr c]
    exact b9 (k1 6 (if_pos (by show 7<=_;omega)) H Out.refl)
   ·rw[show (m.powers.length==7)=false from beq_eq_false_iff_ne.mpr c]
    refine bY ⟨_,rfl,B.b,A.aK,B.dx,_,_,rfl,l.ins,T.aV,T.dO,rfl,.inl ⟨rfl,_,cP.of l.pw⟩,_,rfl,B.pw,_,_,rfl,rfl,l.pw,by rw[aa];omega,?_⟩
    refine k2 _ (if_neg (by show ¬ 7<=_;omega)) _ B ⟨rfl,fun x o hx no=>?_,fun x hx=>.inl hx,fun x hx=>.inl hx⟩ ?_
    ·rw[aQ (fun z=>no (by rw[z];simp[own]))];exact hx
    ·have z:=V7 l n
     rw[bh] at z
     exact z
def U6 (H:Hp) (f:Bool) (o:Option Nat) (v:V):Prop:=match o with
 | none=>v=.iE
 | some x=>∃t,v=.ref t/\eJ H t (if f=true then nF x else nA x)
def zb (f:Bool) (B:Bd):af:=if f=true then B.se else B.ld
inductive CF (A:Ad) (vs:List V) (H:Hp) (Q:VK) (E':XK):Prop
 | mk (B:Bd) (m:aB) (f:Bool) (o1 o2:Option Nat) (v1 v2:V) (_:vs=[.ref B.b,.ref (zb f B),v1,v2,.int (bar f)]) (_:dB A H B m) (_:WF m) (_:U6 H f o1 v1) (_:U6 H f o2 v2) (_:∀x,o1=some x->pz f x<m.provinces.length) (_:∀x,o2=some x->pz f x<m.provinces.length) (_:Puts A H Q B (GS f m o1 o2))
theorem Vd (x:Nat):(nA x).1=(x:Int):=rfl
theorem CZ {x y:Nat} (h:nA x=nA y):x=y:=by have:=congrArg Prod.fst h;rw[Vd,Vd] at this;omega
theorem KZ {x y:Nat} (h:nF x=nF y):x=y:=by
 have h1:=congrArg Prod.fst h
 have h2:=congrArg Prod.snd h
 have h1:((x / 4:Nat):Int)=((y / 4:Nat):Int):=h1
 have h2:((x % 4:Nat):Int)=((y % 4:Nat):Int):=h2
 omega
def rK (f:Bool) (x:Nat):Pl:=if f=true then nF x else nA x
theorem CY (f:Bool) (x:Nat):(rK f x).1=((pz f x:Nat):Int):=by cases f <;> rfl
def Lf (f:Bool) (B:Bd):Lk:=if f=true then B.L1 else B.L0
theorem dB.lf {H:Hp} {B:Bd} {m:aB} (l:dB A H B m) (f:Bool):gD A H (zb f B) (Lf f B):=by cases f;exact l.l0;exact l.l1
theorem dB.lkf {H:Hp} {B:Bd} {m:aB} (l:dB A H B m) (f:Bool) (x y:Nat):rK f y∈nb (Lf f B).ent (rK f x)<->bU (yL f m) x y=true:=by
 cases f with
 | false=>
  show nA y∈nb B.L0.ent (nA x)<->_
  rw[l.PU]
  exact⟨fun ⟨u,v,e1,e2,h⟩=>by rw[CZ e1,CZ e2];exact h,fun h=>⟨x,y,rfl,rfl,h⟩⟩
 | true=>
  show nF y∈nb B.L1.ent (nF x)<->_
  rw[l.PR]
  exact⟨fun ⟨u,v,e1,e2,h⟩=>by rw[KZ e1,KZ e2];exact h,fun h=>⟨x,y,rfl,rfl,h⟩⟩
theorem dB.apart {H:Hp} {B:Bd} {m:aB} (l:dB A H B m) (f:Bool):zb f B≠B.ei/\∀x∈eQ (Lf f B),x∉eQ B.L2:=by
 have dj:∀x∈eQ (Lf f B),x∉eQ B.L2:=by cases f;exact l.VZ;exact l.Tc
 refine⟨fun q=>?_,dj⟩
 have a1:=(l.lf f).ins
 rw[q,l.l2.ins] at a1
 injection a1 with a1
 injection a1 with _ _ a1
 have a2:=congrArg (fun g=>g.lookup ("joined":Str)) a1
 have a3:(some (V.ref B.L2.j))=some (V.ref (Lf f B).j):=a2
 injection a3 with a3
 injection a3 with a3
 exact dj _ bz (by rw[<- a3];exact bz)
theorem Fv {m:aB} (wf:WF m) (f:Bool):∀x∈yL f m,x.1<x.2:=by
 cases f
 ·exact fun x h=>(wf.OL x h).1
 ·exact fun x h=>(wf.Ra x h).1
theorem dB.UL {H H':Hp} {B:Bd} {m:aB} (l:dB A H B m) (f:Bool) {x y:Nat} {L' L2':Lk} (o:FE A H H' (zb f B) B.ei (Lf f B) B.L2 L' L2' (rK f x) (rK f y)) :
  ∃B',Mv B B' H H'/\dB A H' B' (Pb.UL f m (putPair (pair x y) (yL f m))):=by
 have own_in:∀z,z=zb f B\/z=B.ei\/z∈eQ (Lf f B)\/z∈eQ B.L2->z∈own B:=fun z h=>by
  rcases h with h | h | h | h
  ·cases f <;> (rw[h];simp[own,zb])
  ·rw[h];simp[own]
  ·cases f
   ·have h:z∈eQ B.L0:=h
    exact au _ (au _ (bJ _ h))
   ·have h:z∈eQ B.L1:=h
    exact au _ (au _ (au _ (bJ _ h)))
  ·exact au _ (au _ (au _ (au _ h)))
 have out:Out B H H':=fun z u e n=>o.keep z u e (fun q=>n (own_in z (.inl q))) (fun q=>n (own_in z (.inr (.inl q)))) (fun q=>n (own_in z (.inr (.inr (.inl q))))) (fun q=>n (own_in z (.inr (.inr (.inr q)))))
 cases f with
 | false=>
  refine⟨{ B with L0:=L',L2:=L2' },⟨rfl,out,fun z hz=>?_,fun z hz=>.inl hz⟩,Yc l o⟩
  have hz:z∈[B.b,B.pw,B.pv,B.bw,B.ld,B.se,B.ei,B.un]++(B.ps++(eQ L'++(eQ B.L1++eQ L2'))):=hz
  simp only[bx] at hz
  rcases hz with h | h | h | h | h
  ·exact .inl (bJ _ h)
  ·exact .inl (au _ (bJ _ h))
  ·rcases o.ad z h with q | q
   ·exact .inl (own_in z (.inr (.inr (.inl q))))
   ·exact .inr q
  ·exact .inl (au _ (au _ (au _ (bJ _ h))))
  ·rcases o.ad2 z h with q | q
   ·exact .inl (own_in z (.inr (.inr (.inr q))))
   ·exact .inr q
 | true=>
  refine⟨{ B with L1:=L',L2:=L2' },⟨rfl,out,fun z hz=>?_,fun z hz=>.inl hz⟩,Z7 l o⟩
  have hz:z∈[B.b,B.pw,B.pv,B.bw,B.ld,B.se,B.ei,B.un]++(B.ps++(eQ B.L0++(eQ L'++eQ L2'))):=hz
  simp only[bx] at hz
  rcases hz with h | h | h | h | h
  ·exact .inl (bJ _ h)
  ·exact .inl (au _ (bJ _ h))
  ·exact .inl (au _ (au _ (bJ _ h)))
  ·rcases o.ad z h with q | q
   ·exact .inl (own_in z (.inr (.inr (.inl q))))
   ·exact .inr q
  ·rcases o.ad2 z h with q | q
   ·exact .inl (own_in z (.inr (.inr (.inr q))))
   ·exact .inr q
theorem D1 (T:Tx K mg A):dy P w K mg base hX 4 A.AJ A.A3 wU (CF A):=by
 exists T.Ga,MC,"o"
 ·obtain⟨B,m,f,o1,o2,v1,v2,rfl,_⟩:=h
  rfl
 ·obtain⟨B,m,f,o1,o2,v1,v2,rfl,l,wf,r1,r2,b1,b2,k1,k2⟩:=h
  refine⟨_,aj (cV (PW.pt (kK (ip (rG (pv 2))) (lD (ip (rG (pv 3)))))) (az (a_ (lZ T.Dc))) bO)
   (aj (cV (PW.pt (kK (cg eM (bW dH (pv 2) aS (fun _ _=>rfl)) (bW dH (pv 3) aS (fun _ _=>rfl)) (cD _))
    (kK (cg eM (dY (pv 0) T.aV T.oP (nu T) (hr.mono (by decide)) T.oW .nil bR (ab (pv 2) aq)) (pv 4) (cD _))
    (lD (cg eM (dY (pv 0) T.aV T.oP (nu T) (hr.mono (by decide)) T.oW .nil bR (ab (pv 3) aq)) (pv 4) (cD _)))))) (az (a_ (lZ T.Lc))) bO)
   (aj (cV (fB (dY (pv 1) T.eE T.xC (ux T) (hr.mono (by decide)) T.yp .nil bR (ab (pv 2) (ab (pv 3) aq)))) (az (a_ (lZ T.Ld))) bO)
   (aj (cV (cg eM (aJ (pv 1) rfl) (lZ T.Lh) (cD _)) (az (a_ (lZ T.Lj))) bO)
   (aj (eI (dY (pv 0) T.aV T.C0 (BO T) hr T.DB .nil bR (ab (pv 1) (ab (pv 2) (ab (pv 3) aq)))))
   (az (a_ (lZ T.uG))))))),?_⟩
  refine⟨_,rfl,_,rfl,?_⟩
  cases o1 with
  | none=>
   have e1:v1=.iE:=r1
   subst e1
   exact b9 (b9 (k1 3 rfl H Out.refl))
  | some x=>
   obtain⟨t1,e1,h1⟩:=r1
   subst e1
   refine bY ⟨_,rfl,_,rfl,?_⟩
   cases o2 with
   | none=>
    have e2:v2=.iE:=r2
    subst e2
    exact b9 (k1 3 rfl H Out.refl)
   | some y=>
    obtain⟨t2,e2,h2⟩:=r2
    subst e2
    have h1:eJ H t1 (rK f x):=h1
    have h2:eJ H t2 (rK f y):=h2
    have hx:=b1 x rfl
    have hy:=b2 y rfl
    have q1:eJ H t1 (((pz f x:Nat):Int),(rK f x).2):=by rw[<- CY];exact h1
    have q2:eJ H t2 (((pz f y:Nat):Int),(rK f y).2):=by rw[<- CY];exact h2
    refine bY ⟨_,rfl,t1,_,0,_,rfl,rfl,iC.of q1,aW (j:=0) rfl,_,rfl,t2,_,0,_,rfl,rfl,iC.of q2,aW (j:=0) rfl,rfl,_,rfl,?_⟩
    show if decide (V.int ((pz f x:Nat):Int)=V.int ((pz f y:Nat):Int))=true then _ else _
    rw[len_eq]
    have R:GS f m (some x) (some y)=if pz f x=pz f y\/(ag m (pz f x)).kind=bar f\/(ag m (pz f y)).kind=bar f then .error 4
     else if (yL f m).contains (pair x y)=true then .error 5 else if LINKS<=(yL f m).length then .error 6 else .ok (UL f m (putPair (pair x y) (yL f m))):=rfl
    rw[R] at k1 k2
    by_cases c1:pz f x=pz f y
    ·rw[show (pz f x==pz f y)=true from beq_iff_eq.mpr c1]
     exact b9 (b9 (k1 4 (if_pos (.inl c1)) H Out.refl))
    ·rw[show (pz f x==pz f y)=false from beq_eq_false_iff_ne.mpr c1]
     refine bY ⟨_,rfl,B.b,B.dx,_,rfl,l.ins,rfl,_,rfl,B,m,t1,pz f x,_,rfl,l,q1,hx,_,rfl,rfl,_,rfl,?_⟩
     rw[len_eq]
     by_cases c2:(ag m (pz f x)).kind=bar f
     ·rw[show ((ag m (pz f x)).kind==bar f)=true from beq_iff_eq.mpr c2]
      exact b9 (b9 (k1 4 (if_pos (.inr (.inl c2))) H Out.refl))
     ·rw[show ((ag m (pz f x)).kind==bar f)=false from beq_eq_false_iff_ne.mpr c2]
      refine bY ⟨_,rfl,B.b,B.dx,_,rfl,l.ins,rfl,_,rfl,B,m,t2,pz f y,_,rfl,l,q2,hy,_,rfl,rfl,_,rfl,?_⟩
      rw[len_eq]
      by_cases c3:(ag m (pz f y)).kind=bar f
      ·rw[show ((ag m (pz f y)).kind==bar f)=true from beq_iff_eq.mpr c3]
       exact b9 (k1 4 (if_pos (.inr (.inr c3))) H Out.refl)
      ·rw[show ((ag m (pz f y)).kind==bar f)=false from beq_eq_false_iff_ne.mpr c3]
       have cn:¬ (pz f x=pz f y\/(ag m (pz f x)).kind=bar f\/(ag m (pz f y)).kind=bar f):=by rintro (z | z | z);exact c1 z;exact c2 z;exact c3 z
       rw[if_neg cn] at k1 k2
       have nxy:x≠y:=fun e=>c1 (by rw[e])
       refine bY ⟨_,rfl,zb f B,(Lf f B).dx,_,rfl,(l.lf f).ins,rfl,_,rfl,_,rfl,zb f B,t1,t2,Lf f B,rK f x,rK f y,rfl,l.lf f,h1,h2,fun H1 s1=>⟨_,rfl,?_⟩⟩
       have ec:decide (rK f y∈nb (Lf f B).ent (rK f x))=(yL f m).contains (pair x y):=by
        rw[zG (Fv wf f) nxy,bq,decide_eq_true_eq,l.lkf f]
       rw[ec]
       cases c4:(yL f m).contains (pair x y) with
       | true=>exact b9 (k1 5 (if_pos c4) H1 s1.out)
       | false=>
        have c4n:¬ (yL f m).contains (pair x y)=true:=by rw[c4];decide
        rw[if_neg c4n] at k1 k2
        have l1:=l.same s1
        have vD:(Lf f B).vD=(yL f m).length:=by cases f;exact l.t0;exact l.t1
        refine bY ⟨_,rfl,zb f B,A.eF,(Lf f B).dx,_,_,rfl,(l1.lf f).ins,T.eE,T.kQ,rfl,rfl,_,rfl,?_⟩
        show if decide (V.int (Lf f B).vD=V.int 300)=true then _ else _
        rw[vD]
        have e3:decide (V.int (((yL f m).length:Nat):Int)=V.int 300)=((yL f m).length==300):=len_eq _ 300
        rw[e3]
        have hE:(yL f m).length<=300:=by cases f;exact wf.ZC;exact wf.sel
        by_cases c5:(yL f m).length=300
        ·rw[show ((yL f m).length==300)=true from beq_iff_eq.mpr c5]
         exact b9 (k1 6 (if_pos (by show 300<=_;omega)) H1 s1.out)
        ·rw[show ((yL f m).length==300)=false from beq_eq_false_iff_ne.mpr c5]
         have nin:rK f y∉nb (Lf f B).ent (rK f x):=fun z=>by
          rw[l.lkf f] at z
          rw[zG (Fv wf f) nxy,z] at c4;cases c4
         have fit:J2 (Lf f B):=by cases f;exact l1.adg wf;exact l1.adf wf
         obtain⟨ap1,ap2⟩:=l1.apart f
         refine bY ⟨_,rfl,B.b,B.dx,_,rfl,l1.ins,rfl,_,rfl,_,rfl,_,rfl,B,zb f B,t1,t2,Lf f B,rK f x,rK f y,rfl,l1.ins,l1.lf f,l1.l2,ap1,ap2,s1 _ _ h1,s1 _ _ h2,fit,l1.ade wf,nin,?_,fun H2 L' L2' lo=>?_⟩
         ·rw[CY,CY];omega
         ·obtain⟨B',mv,l'⟩:=l1.UL f lo
          exact k2 _ (if_neg (by show ¬ 300<=_;omega)) H2 B' (mv.BH s1) l'
end
end Pb
namespace Pb
open PySem PySem.Spec PyProof.Rows L2 TL
open Vbsoab (provAt exactly powerOf placeOf cutAt shoreOf named shoreName distinctWords word setProvince putPair pair addProvince addStart POWERS PROVINCES LINKS UNITS)
theorem Uh (x y:List Nat):decide (wV x=wV y)=decide (x=y):=by
 rw[bq,decide_eq_true_eq,decide_eq_true_eq]
 exact⟨fun q=>by injection q with q;exact pM q,fun q=>by rw[q]⟩
theorem Kb (m:aB) (x:List Nat):((a8 m x).map fun i=>V.int i).isSome=(a8 m x).isSome:=by cases a8 m x <;> rfl
section
inductive W8 (K:ae) (A:Ad) (vs:List V) (H:Hp) (Q:VK) (E':XK):Prop
 | mk (B:Bd) (m:aB) (a:af) (k n s:List Nat) (sh:List (List Nat)) (_:vs=[.ref B.b,.ref a]) (_:dB A H B m) (_:WF m) (_:lB K H a (k::n::s::sh)) (_:rM k=true) (_:Puts A H Q B (qI m (Ay k) n s sh))
theorem EF (T:Tx K mg A):dy P w K mg base hX 3 A.qk A.qu oI (W8 K A):=by
 exists T.BI,u5,"o"
 ·obtain⟨B,m,a,k,n,s,sh,rfl,_⟩:=h
  rfl
 ·obtain⟨B,m,a,k,n,t,sh,rfl,l,wf,hw,ik,k1,k2⟩:=h
  have hu:=qi hr
  have nd:=u5.nd
  have hs:=hw.1
  have sl:ao=16777216:=bI
  refine⟨_,aj (cA (i:=2) nd rfl (bC rfl) (bW b8 (pv 1) aS (fun _ _=>rfl)))
   (aj (cA (i:=3) nd rfl (bC rfl) (bW b8 (pv 1) aS (fun _ _=>rfl)))
   (aj (cV (PW.pt (kK (cg eM (pv 2) (pv 3) (cD _)) (kK (ip (CM hu (pv 2) (aJ (pv 0) rfl)) (by with_unfolding_all rfl)) (lD (ip (CM hu (pv 3) (aJ (pv 0) rfl)) (by with_unfolding_all rfl)))))) (az (a_ (lZ T.RJ))) bO)
   (aj (cV (cg eM (bT bF rfl T.eU bf (ab (aJ (pv 0) rfl) aq)) (lZ T.Dd) (cD _)) (az (a_ (lZ T.Lj))) bO)
   (aj (eI (dY (pv 0) T.aV T.xD (vH T) (hr.mono (by decide)) T.yq .nil bR
    (ab (Ky T.NC (EM T) hr rfl T.Qa T.HG .nil bR
     (ab (j8 PySem.F.plainAttrs_tuple IV PySem.F.type_tuple_index Zz (YB T.BZ) (ab (bW b8 (pv 1) aS (fun _ _=>rfl)) aq))
     (ab (pv 2) (ab (pv 3) (ab (xk Fl (pv 1) (uk aS) Kv) aq))))) aq)))
   (az (a_ (lZ T.uG))))))),?_⟩
  refine⟨_,rfl,a,_,1,_,rfl,rfl,hs,aW (j:=1) rfl,_,rfl,a,_,2,_,rfl,rfl,hs,aW (j:=2) rfl,_,rfl,_,rfl,rfl,_,rfl,?_⟩
  show if decide (wV n=wV t)=true then _ else _
  rw[Uh]
  have R:qI m (Ay k) n t sh=if n=t\/(a8 m n).isSome=true\/(a8 m t).isSome=true then .error 2 else if LQ<=m.provinces.length then .error 6
   else .ok { m with provinces:=m.provinces++[{ name:=n,short:=t,kind:=Ay k,shores:=sh }] }:=rfl
  rw[R] at k1 k2
  by_cases c1:n=t
  ·rw[decide_eq_true c1]
   exact b9 (b9 (k1 2 (if_pos (.inl c1)) H Out.refl))
  ·rw[decide_eq_false c1]
   have dgn:gK H B.bw (wV n) (dW B.kw (bB (tx n))):=gK.k (k:=bB (tx n)) l.bw
   have dgt:gK H B.bw (wV t) (dW B.kw (bB (tx t))):=gK.k (k:=bB (tx t)) l.bw
   rw[l.words] at dgn dgt
   refine bY ⟨_,rfl,_,rfl,B.b,A.aK,B.dx,_,_,rfl,l.ins,T.aV,T.cT,rfl,B.bw,_,rfl,dgn,_,rfl,?_⟩
   show if ((a8 m n).map fun i=>V.int i).isSome=true then _ else _
   rw[Kb]
   cases c2:(a8 m n).isSome with
   | true=>exact b9 (b9 (k1 2 (if_pos (.inr (.inl c2))) H Out.refl))
   | false=>
    refine bY ⟨_,rfl,_,rfl,B.b,A.aK,B.dx,_,_,rfl,l.ins,T.aV,T.cT,rfl,B.bw,_,rfl,dgt,_,rfl,?_⟩
    show if ((a8 m t).map fun i=>V.int i).isSome=true then _ else _
    rw[Kb]
    cases c3:(a8 m t).isSome with
    | true=>exact b9 (k1 2 (if_pos (.inr (.inr c3))) H Out.refl)
    | false=>
     have cn:¬ (n=t\/(a8 m n).isSome=true\/(a8 m t).isSome=true):=by
      rintro (z | z | z)
      ·exact c1 z
      ·rw[c2] at z;cases z
      ·rw[c3] at z;cases z
     rw[if_neg cn] at k1 k2
     refine bY ⟨_,rfl,B.b,A.aK,B.dx,_,_,rfl,l.ins,T.aV,T.bA,rfl,B.pv,_,rfl,.inl (cP.of l.pv),rfl,_,rfl,?_⟩
     rw[aa,l.tF]
     have e4:decide (V.int ((m.provinces.length:Nat):Int)=V.int 40)=(m.provinces.length==40):=len_eq _ 40
     rw[e4]
     have hE:=wf.LR
     by_cases c5:m.provinces.length=40
     ·rw[show (m.provinces.length==40)=true from beq_iff_eq.mpr c5]
      exact b9 (k1 6 (if_pos (by show 40<=_;omega)) H Out.refl)
     ·rw[show (m.provinces.length==40)=false from beq_eq_false_iff_ne.mpr c5]
      have k2:=k2 _ (if_neg (by show ¬ 40<=_;omega))
      have xn:a8 m n=none:=by cases e:a8 m n with | none=>rfl | some i=>rw[e] at c2;cases c2
      have xt:a8 m t=none:=by cases e:a8 m t with | none=>rfl | some i=>rw[e] at c3;cases c3
      refine bY ⟨_,rfl,B.b,B.dx,_,rfl,l.ins,rfl,?_⟩
      have rest:∀kn:Nat,kn=Ay k->∀p,H p=none->∀x dx,upd H p (.lst (sh.map wV)) x=none->upd H p (.lst (sh.map wV)) dx=none->dx≠x->Q6 A (.ref x::([.int (kn:Nat),wV n,wV t,.ref p]++[]))
        (upd (upd (upd H p (.lst (sh.map wV))) dx (.own x)) x (.ins A.aO dx [])) (fun v H2=>v=.iE/\UC A (.ref B.b::([.ref x]++[])) H2 (fun _ H3=>Q (.int 0) H3) E0) E0:=fun kn ekn p hp x dx hx hdx ndx=>by
       refine⟨x,dx,.int (kn:Nat),wV n,wV t,.ref p,rfl,aw,fun H2 i2 b2=>⟨rfl,?_⟩⟩
       have s2:bX (upd H p (.lst (sh.map wV))) H2:=bX.made hx hdx b2
       have s1:bX H H2:=(br hp).trans s2
       have l2:=l.same s1
       have hpn:H2 p=some (.lst (sh.map wV)):=s2 _ _ aw
       have xH:H x=none:=(br hp).free hx
       refine⟨B,m,{ name:=n,short:=t,kind:=Ay k,shores:=sh },x,p,dx,rfl,l2,?_,hpn,?_,⟨(fun e=>by rw[e,l.pw] at hp;cases hp),(fun e=>by rw[e,l.pv] at hp;cases hp),(fun e=>by rw[e,l.un] at hp;cases hp)⟩,xn,xt,c1,by omega,fun H3 kw l3 kp=>?_⟩
       ·rw[i2,ekn];rfl
       ·intro z
        obtain⟨i,hi⟩:=dG z
        have lt:i<B.sh.length:=by rw[l.shl,<- l.tF];exact (ax.mp hi).1
        obtain⟨⟨dx',q⟩,_⟩:=l.prov i x _ hi (aR lt)
        rw[xH] at q;cases q
       ·refine k2 H3 _ ?_ l3
        refine⟨rfl,fun y o hy no=>kp y o (s1 y o hy) (fun z=>no (by rw[z];simp[own])) (fun z=>no (by rw[z];simp[own])),fun y hy=>?_,fun y hy=>by
         rcases bx.mp (show y∈B.sh++[p] from hy) with q | q
         ·exact .inl q
         ·rw[aY.mp q];exact .inr (.inr hp)⟩
        have hy:y∈[B.b,B.pw,B.pv,B.bw,B.ld,B.se,B.ei,B.un]++((B.ps++[x])++(eQ B.L0++(eQ B.L1++eQ B.L2))):=hy
        simp only[bx,aY] at hy
        rcases hy with q | (q | q) | q | q | q
        ·exact .inl (bJ _ q)
        ·exact .inl (au _ (bJ _ q))
        ·rw[q];exact .inr xH
        ·exact .inl (au _ (au _ (bJ _ q)))
        ·exact .inl (au _ (au _ (au _ (bJ _ q))))
        ·exact .inl (au _ (au _ (au _ (au _ q))))
      have cut:E4 ((k::n::t::sh).map wV) (some 3) none=sh.map wV:=abk (wV k) (wV n) (wV t) (sh.map wV)
      have YG:=lI.mp ik
      have nls:tx (word "land")≠tx (word "sea"):=fun e=>absurd (pM e) (by decide)
      have nlc:tx (word "land")≠tx (word "coast"):=fun e=>absurd (pM e) (by decide)
      have nsc:tx (word "sea")≠tx (word "coast"):=fun e=>absurd (pM e) (by decide)
      have kq:iC K H A.jt [.str (tx (word "land")),.str (tx (word "sea")),.str (tx (word "coast"))]:=by
       rw[<- Rm,<- U8,<- Nf];exact T.kW.sq H
      refine⟨T.kW.ty H,_,rfl,a,_,0,_,rfl,rfl,hs,aW (j:=0) rfl,A.jt,tx (word "land"),tx (word "sea"),tx (word "coast"),tx k,rfl,rfl,kq,?_⟩
      rcases YG with e | e | e
      ·refine .inl ⟨by rw[e],_,rfl,_,rfl,_,rfl,3,rfl,a,_,rfl,hs,fun p hp=>?_⟩
       rw[cut]
       exact rest 0 (by rw[e];rfl) p hp
      ·refine .inr (.inl ⟨by rw[e];exact nls,by rw[e],_,rfl,_,rfl,_,rfl,3,rfl,a,_,rfl,hs,fun p hp=>?_⟩)
       rw[cut]
       exact rest 1 (by rw[e];rfl) p hp
      ·refine .inr (.inr ⟨by rw[e];exact nlc,by rw[e];exact nsc,by rw[e],_,rfl,_,rfl,_,rfl,3,rfl,a,_,rfl,hs,fun p hp=>?_⟩)
       rw[cut]
       exact rest 2 (by rw[e];rfl) p hp
inductive Mo (K:ae) (A:Ad) (k:String) (g:aB->List Nat->List Nat->Except Nat aB) (vs:List V) (H:Hp) (Q:VK) (E':XK):Prop
 | mk (B:Bd) (m:aB) (a:af) (x y:List Nat) (_:vs=[.ref B.b,.ref a]) (_:dB A H B m) (_:WF m) (_:lB K H a [word k,x,y]) (_:Puts A H Q B (g m x y))
theorem Puts.BH {H H1:Hp} {Q:VK} {B:Bd} {r:Except Nat aB} (p:Puts A H Q B r) (s:bX H H1):Puts A H1 Q B r:=
 ⟨fun e h H' o=>p.1 e h H' fun x u q n=>o x u (s x u q) n,fun m h H' B' mv l=>p.2 m h H' B' (mv.BH s) l⟩
theorem M7 (T:Tx K mg A):dy P w K mg base hX 5 A.AL A.A5 wX (Mo K A "join" yX):=by
 exists T.MR,MD,"o"
 ·obtain⟨B,m,a,x,y,rfl,_⟩:=h
  rfl
 ·obtain⟨B,m,a,x,y,rfl,l,wf,hw,k⟩:=h
  have hs:=hw.1
  refine⟨_,az (a_ (bP (D1 T) hr rfl T.Ha T.Ga.kp T.Hw .nil bR (ab (pv 0) (ab (aJ (pv 0) rfl)
   (ab (dY (pv 0) T.aV T.iR (ic T) (hr.mono (by decide)) T.iS .nil bR (ab (bW b8 (pv 1) aS (fun _ _=>rfl)) aq))
   (ab (dY (pv 0) T.aV T.iR (ic T) (hr.mono (by decide)) T.iS .nil bR (ab (bW b8 (pv 1) aS (fun _ _=>rfl)) aq))
   (ab (lZ T.VF) aq))))))),?_⟩
  rw[JE] at k
  refine⟨_,rfl,_,rfl,B.b,A.aK,B.dx,_,_,rfl,l.ins,T.aV,T.jV,rfl,_,rfl,B.b,B.dx,_,rfl,l.ins,rfl,_,rfl,a,_,1,_,rfl,rfl,hs,aW (j:=1) rfl,?_⟩
  have step2:∀H1,bX H H1->∀v1,U6 H1 false (a8 m x) v1->UE A (.ref B.b::([wV y]++[])) H1 (fun v2 H2=>CF A ([.ref B.b,.ref B.ld,v1,v2,.int 1]++[]) H2 Q E0) E0:=fun H1 s1 v1 r1=>by
   have l1:=l.same s1
   refine⟨B,m,y,rfl,l1,fun e=>?_,fun j e H2 t2 s2 ht2 _=>?_⟩
   ·exact⟨B,m,false,a8 m x,a8 m y,v1,.iE,rfl,l1,wf,r1,by rw[e];rfl,fun i h=>(dX h).1,fun i h=>(dX h).1,k.BH s1⟩
   ·refine⟨B,m,false,a8 m x,a8 m y,v1,.ref t2,rfl,l1.same s2,wf,?_,?_,fun i h=>(dX h).1,fun i h=>(dX h).1,k.BH (s1.trans s2)⟩
    ·cases e1:a8 m x with
     | none=>rw[e1] at r1;exact r1
     | some i=>rw[e1] at r1;obtain⟨t,q1,q2⟩:=r1;exact⟨t,q1,s2 _ _ q2⟩
    ·rw[e];exact⟨t2,rfl,ht2⟩
  refine⟨B,m,x,rfl,l,fun e=>?_,fun i e H1 t1 s1 ht1 _=>?_⟩
  ·exact⟨_,rfl,B.b,B.dx,_,rfl,l.ins,rfl,_,rfl,a,_,2,_,rfl,rfl,hs,aW (j:=2) rfl,step2 H (bX.refl H) .iE (by rw[e];rfl)⟩
  ·exact⟨_,rfl,B.b,B.dx,_,rfl,s1 _ _ l.ins,rfl,_,rfl,a,_,2,_,rfl,rfl,s1.seq hs,aW (j:=2) rfl,step2 H1 s1 (.ref t1) (by rw[e];exact⟨t1,rfl,ht1⟩)⟩
theorem V4 {m:aB} (wf:WF m) {x:List Nat} {y:Nat×Nat} (h:placeOf m x=some y):nF (T2 y)=((y.1:Int),(y.2:Int)):=by
 obtain⟨a,b⟩:=FA wf h
 unfold nF
 rw[a,b]
theorem M5 (T:Tx K mg A):dy P w K mg base hX 5 A.AI A.A2 wR (Mo K A "sail" r_):=by
 exists T.MP,MB,"o"
 ·obtain⟨B,m,a,x,y,rfl,_⟩:=h
  rfl
 ·obtain⟨B,m,a,x,y,rfl,l,wf,hw,k⟩:=h
  have hs:=hw.1
  have lx:=hw.2.2 x (by simp)
  have ly:=hw.2.2 y (by simp)
  refine⟨_,az (a_ (bP (D1 T) hr rfl T.Ha T.Ga.kp T.Hw .nil bR (ab (pv 0) (ab (aJ (pv 0) rfl)
   (ab (dY (pv 0) T.aV T.ie (gS T) (hr.mono (by decide)) T.ig .nil bR (ab (bW b8 (pv 1) aS (fun _ _=>rfl)) aq))
   (ab (dY (pv 0) T.aV T.ie (gS T) (hr.mono (by decide)) T.ig .nil bR (ab (bW b8 (pv 1) aS (fun _ _=>rfl)) aq))
   (ab (lZ T.VH) aq))))))),?_⟩
  rw[SJ wf] at k
  have bd:∀(z:List Nat) (i:Nat),(placeOf m z).map T2=some i->pz true i<m.provinces.length:=fun z i h=>by
   cases e:placeOf m z with
   | none=>rw[e] at h;cases h
   | some q=>
    rw[e] at h
    injection h with h
    have:=(FA wf e).1
    show i / 4<_
    rw[<- h,this]
    exact (jD e).1
  refine⟨_,rfl,_,rfl,B.b,A.aK,B.dx,_,_,rfl,l.ins,T.aV,T.lT,rfl,_,rfl,B.b,B.dx,_,rfl,l.ins,rfl,_,rfl,a,_,1,_,rfl,rfl,hs,aW (j:=1) rfl,?_⟩
  have step2:∀H1,bX H H1->∀v1,U6 H1 true ((placeOf m x).map T2) v1->Q7 A (.ref B.b::([wV y]++[])) H1 (fun v2 H2=>CF A ([.ref B.b,.ref B.se,v1,v2,.int 0]++[]) H2 Q E0) E0:=fun H1 s1 v1 r1=>by
   have l1:=l.same s1
   have r1':∀H2,bX H1 H2->U6 H2 true ((placeOf m x).map T2) v1:=fun H2 s2=>by
    cases e1:(placeOf m x).map T2 with
    | none=>rw[e1] at r1;exact r1
    | some i=>rw[e1] at r1;obtain⟨t,q1,q2⟩:=r1;exact⟨t,q1,s2 _ _ q2⟩
   refine⟨B,m,y,rfl,l1,wf,ly,fun e H2 s2=>?_,fun j e H2 t2 s2 ht2 _=>?_⟩
   ·exact⟨B,m,true,_,_,v1,.iE,rfl,l1.same s2,wf,r1' H2 s2,by rw[e];rfl,bd x,bd y,k.BH (s1.trans s2)⟩
   ·refine⟨B,m,true,_,_,v1,.ref t2,rfl,l1.same s2,wf,r1' H2 s2,?_,bd x,bd y,k.BH (s1.trans s2)⟩
    rw[e]
    refine⟨t2,rfl,?_⟩
    show eJ H2 t2 (nF (T2 j))
    rw[V4 wf e];exact ht2
  refine⟨B,m,x,rfl,l,wf,lx,fun e H1 s1=>?_,fun i e H1 t1 s1 ht1 _=>?_⟩
  ·exact⟨_,rfl,B.b,B.dx,_,rfl,s1 _ _ l.ins,rfl,_,rfl,a,_,2,_,rfl,rfl,s1.seq hs,aW (j:=2) rfl,step2 H1 s1 .iE (by rw[e];rfl)⟩
  ·refine⟨_,rfl,B.b,B.dx,_,rfl,s1 _ _ l.ins,rfl,_,rfl,a,_,2,_,rfl,rfl,s1.seq hs,aW (j:=2) rfl,step2 H1 s1 (.ref t1) ?_⟩
   rw[e]
   refine⟨t1,rfl,?_⟩
   show eJ H1 t1 (nF (T2 i))
   rw[V4 wf e];exact ht1
end
end Pb
namespace Pb
open PySem PySem.Spec PyProof.Rows L2 TL
open Vbsoab (provAt exactly powerOf placeOf cutAt shoreOf named shoreName distinctWords word setProvince putPair pair addProvince addStart POWERS PROVINCES LINKS UNITS)
theorem N4 {m:aB} {i:Nat} {p:cJ} (wf:WF m) (wf':WF (setProvince m i p)) (hi:i<m.provinces.length) (hn:p.name=(ag m i).name) (hs:p.short=(ag m i).short) (x:List Nat):a8 (setProvince m i p) x=a8 m x:=by
 have len:(setProvince m i p).provinces.length=m.provinces.length:=by unfold setProvince;exact pI
 have key:∀j,a8 (setProvince m i p) x=some j<->a8 m x=some j:=fun j=>by
  rw[iK wf',iK wf,len,jC hi]
  by_cases c:j=i
  ·rw[if_pos c,gq,gq,hn,hs,c]
  ·rw[if_neg c]
 cases e:a8 m x with
 | none=>
  cases e':a8 (setProvince m i p) x with
  | none=>rfl
  | some j=>have:=(key j).mp e';rw[e] at this;cases this
 | some j=>exact (key j).mpr e
theorem Jb {m:aB} {i:Nat} {p:cJ} {kw:List (Key×V)} (wf:WF m) (wf':WF (setProvince m i p)) (hi:i<m.provinces.length) (hn:p.name=(ag m i).name) (hs:p.short=(ag m i).short)
  (h:∀x,dW kw (bB (tx x))=(a8 m x).map fun i=>V.int i) (x:List Nat):dW kw (bB (tx x))=(a8 (setProvince m i p) x).map fun i=>V.int i:=by rw[N4 wf wf' hi hn hs,h]
section
inductive Mp (K:ae) (A:Ad) (vs:List V) (H:Hp) (Q:VK) (E':XK):Prop
 | mk (B:Bd) (m:aB) (a:af) (x:List Nat) (h:Option (List Nat)) (_:vs=[.ref B.b,.ref a]) (_:dB A H B m) (_:WF m) (_:lB K H a (word "centre"::x::h.toList)) (_:Puts A H Q B (dS m x h))
theorem Ip (T:Tx K mg A):dy P w K mg base hX 2 A.uI A.uO rB (Mp K A):=by
 exists T.Gb,zr,"o"
 ·obtain⟨B,m,a,x,h,rfl,_⟩:=h
  rfl
 ·obtain⟨B,m,a,x,h,rfl,l,wf,hw,k1,k2⟩:=h
  have nd:=zr.nd
  have hs:=hw.1
  refine⟨_,aj (cA (i:=2) nd rfl (bC rfl) (dY (pv 0) T.aV T.iR (ic T) hr T.iS .nil bR (ab (bW b8 (pv 1) aS (fun _ _=>rfl)) aq)))
   (aj (cA (i:=3) nd rfl (bC rfl) (kM (cg eM (bT bF rfl T.eU bf (ab (pv 1) aq)) aS (cD _)) (dY (pv 0) T.aV T.og (mQ T) hr T.oh .nil bR (ab (bW b8 (pv 1) aS (fun _ _=>rfl)) aq)) (lZ T.Hf)))
   (aj (cV (PW.pt (kK (ip (rG (pv 2))) (lD (ip (rG (pv 3)))))) (az (a_ (lZ T.Dc))) bO)
   (aj (cA (i:=4) nd rfl (bC rfl) (bW b8 (aJ (pv 0) rfl) (bW dH (pv 2) aS (fun _ _=>rfl)) (fun _ _=>rfl)))
   (aj (cV (cg eM (aJ (pv 4) rfl) (lZ T.VF) (cD _)) (az (a_ (lZ T.Lc))) bO)
   (aj (cV (fB (aJ (pv 4) rfl)) (az (a_ (lZ T.Ld))) bO)
   (aj (fO (pv 4) vc rfl) (aj (fO (pv 4) (pv 3) rfl) (az (a_ (lZ T.uG)))))))))),?_⟩
  refine⟨_,rfl,B.b,B.dx,_,rfl,l.ins,rfl,_,rfl,a,_,1,_,rfl,rfl,hs,aW (j:=1) rfl,B,m,x,rfl,l,fun e=>?_,fun i e H1 t s1 ht _=>?_⟩
  ·have R:dS m x h=.error 3:=by unfold dS;rw[e]
   cases h with
   | none=>exact⟨_,rfl,a,_,rfl,.inl hs,rfl,_,rfl,bY ⟨_,rfl,_,rfl,b9 (b9 (k1 3 R H Out.refl))⟩⟩
   | some y=>
    exact⟨_,rfl,a,_,rfl,.inl hs,rfl,_,rfl,b9 ⟨_,rfl,B.b,B.dx,_,rfl,l.ins,rfl,_,rfl,a,_,2,_,rfl,rfl,hs,aW (j:=2) rfl,B,m,y,rfl,l,⟨_,rfl,_,rfl,b9 (b9 (k1 3 R H Out.refl))⟩⟩⟩
  ·have hi:=(dX e).1
   have l1:=l.same s1
   have hs1:=s1.seq hs
   obtain⟨pa,sa,dx,e1,e2,e3,e4⟩:=l1.pa hi
   cases h with
   | none=>
    have R:dS m x none=if (ag m i).kind=1 then .error 4 else if (ag m i).centre=true then .error 5 else .ok (setProvince m i { ag m i with centre:=true,home:=none }):=by
     have R0:dS m x none=if (ag m i).kind=1 then .error 4 else if (ag m i).centre=true then .error 5 else .ok (setProvince m i { ag m i with centre:=true }):=by unfold dS;rw[e]
     rw[R0]
     by_cases c2:(ag m i).centre=true
     ·rw[if_pos c2,if_pos c2]
     ·have hn:=(wf.pv _ (dZ hi)).ch (by simpa using c2)
      have ep:{ ag m i with centre:=true }=({ ag m i with centre:=true,home:=none }:cJ):=by rw[<- hn]
      rw[ep]
    refine⟨_,rfl,a,_,rfl,.inl hs1,rfl,_,rfl,bY ⟨_,rfl,_,rfl,?_⟩⟩
    refine bY ⟨_,rfl,_,rfl,bY ?_⟩
    refine⟨_,rfl,B.b,A.aK,B.dx,_,_,rfl,l1.ins,T.aV,T.bA,rfl,_,rfl,t,_,0,_,rfl,rfl,iC.of ht,aW (j:=0) rfl,B.pv,_,_,_,rfl,rfl,cP.of l1.pv,aW (j:=i) (by rw[aX,e1];rfl),?_⟩
    refine⟨_,rfl,pa,A.aO,dx,_,_,rfl,e3,T.bg,T.fL,rfl,rfl,_,rfl,?_⟩
    show if decide (V.int (((ag m i).kind:Nat):Int)=V.int 1)=true then _ else _
    rw[show decide (V.int (((ag m i).kind:Nat):Int)=V.int 1)=((ag m i).kind==1) from len_eq _ 1]
    by_cases c1:(ag m i).kind=1
    ·rw[show ((ag m i).kind==1)=true from beq_iff_eq.mpr c1]
     exact b9 (k1 4 (by rw[R,if_pos c1]) H1 s1.out)
    ·rw[show ((ag m i).kind==1)=false from beq_eq_false_iff_ne.mpr c1]
     refine bY ⟨_,rfl,pa,A.aO,dx,_,_,rfl,e3,T.bg,T.dP,rfl,_,rfl,?_⟩
     cases c2:(ag m i).centre with
     | true=>exact b9 (k1 5 (by rw[R,if_neg c1,if_pos c2]) H1 s1.out)
     | false=>
      refine bY ⟨_,rfl,pa,A.aO,dx,_,rfl,e3,T.bg,T.dP,by show 6<1000;decide,?_⟩
      refine⟨_,rfl,_,rfl,pa,A.aO,dx,_,rfl,aw,T.bg,T.fM,by show 6<1000;decide,?_⟩
      rw[tO]
      have kp:∀x o,H1 x=some o->x≠pa->x≠B.bw->upd H1 pa (.ins A.aO dx (Il { ag m i with centre:=true,home:=none } sa)) x=some o:=fun x o e n1 _=>by rw[aQ n1];exact e
      have wf':WF (setProvince m i { ag m i with centre:=true,home:=none }):=yC wf hi (fun k e=>nomatch e)
      refine k2 _ (by rw[R,if_neg c1,if_neg (by rw[c2];decide)]) _ _ ((Mv.same s1).trans ⟨rfl,fun x o e no=>kp x o e (fun z=>no ?_) (fun z=>no ?_),fun x hx=>.inl hx,fun x hx=>.inl hx⟩) (Qp l1 { ag m i with centre:=true,home:=none } rfl e1 e2 (kw:=B.kw) ?_ (Jb wf wf' hi rfl rfl l1.words) l1.SV l1.RA aw kp)
      ·rw[z]
       have:pa∈B.ps:=aN e1
       simp[own,this]
      ·rw[z];simp[own]
      ·rw[aQ (bK (eD e3 l1.bw (fun z=>nomatch z)))];exact l1.bw
   | some y=>
    refine⟨_,rfl,a,_,rfl,.inl hs1,rfl,_,rfl,b9 ⟨_,rfl,B.b,B.dx,_,rfl,l1.ins,rfl,_,rfl,a,_,2,_,rfl,rfl,hs1,aW (j:=2) rfl,B,m,y,rfl,l1,?_⟩⟩
    cases ep:eZ m y with
    | none=>
     have R:dS m x (some y)=.error 3:=by unfold dS;rw[e];simp only;rw[ep]
     exact⟨_,rfl,_,rfl,bY ⟨_,rfl,_,rfl,b9 (k1 3 R H1 s1.out)⟩⟩
    | some kk=>
     have R:dS m x (some y)=if (ag m i).kind=1 then .error 4 else if (ag m i).centre=true then .error 5 else .ok (setProvince m i { ag m i with centre:=true,home:=some kk }):=by unfold dS;rw[e];simp only;rw[ep]
     refine⟨_,rfl,_,rfl,?_⟩
     refine bY ⟨_,rfl,_,rfl,bY ?_⟩
     refine⟨_,rfl,B.b,A.aK,B.dx,_,_,rfl,l1.ins,T.aV,T.bA,rfl,_,rfl,t,_,0,_,rfl,rfl,iC.of ht,aW (j:=0) rfl,B.pv,_,_,_,rfl,rfl,cP.of l1.pv,aW (j:=i) (by rw[aX,e1];rfl),?_⟩
     refine⟨_,rfl,pa,A.aO,dx,_,_,rfl,e3,T.bg,T.fL,rfl,rfl,_,rfl,?_⟩
     show if decide (V.int (((ag m i).kind:Nat):Int)=V.int 1)=true then _ else _
     rw[show decide (V.int (((ag m i).kind:Nat):Int)=V.int 1)=((ag m i).kind==1) from len_eq _ 1]
     by_cases c1:(ag m i).kind=1
     ·rw[show ((ag m i).kind==1)=true from beq_iff_eq.mpr c1]
      exact b9 (k1 4 (by rw[R,if_pos c1]) H1 s1.out)
     ·rw[show ((ag m i).kind==1)=false from beq_eq_false_iff_ne.mpr c1]
      refine bY ⟨_,rfl,pa,A.aO,dx,_,_,rfl,e3,T.bg,T.dP,rfl,_,rfl,?_⟩
      cases c2:(ag m i).centre with
      | true=>exact b9 (k1 5 (by rw[R,if_neg c1,if_pos c2]) H1 s1.out)
      | false=>
       refine bY ⟨_,rfl,pa,A.aO,dx,_,rfl,e3,T.bg,T.dP,by show 6<1000;decide,?_⟩
       refine⟨_,rfl,_,rfl,pa,A.aO,dx,_,rfl,aw,T.bg,T.fM,by show 6<1000;decide,?_⟩
       rw[tO]
       have kp:∀x o,H1 x=some o->x≠pa->x≠B.bw->upd H1 pa (.ins A.aO dx (Il { ag m i with centre:=true,home:=(some kk) } sa)) x=some o:=fun x o e n1 _=>by rw[aQ n1];exact e
       have wf':WF (setProvince m i { ag m i with centre:=true,home:=(some kk) }):=yC wf hi (fun k e=>by injection e with e;rw[<- e];exact (uj ep).1)
       refine k2 _ (by rw[R,if_neg c1,if_neg (by rw[c2];decide)]) _ _ ((Mv.same s1).trans ⟨rfl,fun x o e no=>kp x o e (fun z=>no ?_) (fun z=>no ?_),fun x hx=>.inl hx,fun x hx=>.inl hx⟩) (Qp l1 { ag m i with centre:=true,home:=(some kk) } rfl e1 e2 (kw:=B.kw) ?_ (Jb wf wf' hi rfl rfl l1.words) l1.SV l1.RA aw kp)
       ·rw[z]
        have:pa∈B.ps:=aN e1
        simp[own,this]
       ·rw[z];simp[own]
       ·rw[aQ (bK (eD e3 l1.bw (fun z=>nomatch z)))];exact l1.bw
end
end Pb
namespace Pb
open PySem PySem.Spec PyProof.Rows L2 TL
open Vbsoab (provAt exactly powerOf placeOf cutAt shoreOf named shoreName distinctWords word setProvince putPair pair addProvince addStart POWERS PROVINCES LINKS UNITS statement)
def rs (m:aB) (x:List Nat) (f:Bool) (o:Option (Nat×Nat)):Except Nat aB:=match eZ m x,o with
 | some k,some y=>gZ m k f y.1 y.2
 | _,_=>.error 3
theorem Xl (m:aB) (x a:List Nat):(match eZ m x,a8 m a with | some x,some i=>gZ m x false i 0 | _,_=>.error 3)=rs m x false ((a8 m a).map fun i=>(i,0)):=by
 unfold rs
 cases eZ m x <;> cases a8 m a <;> rfl
theorem UO (m:aB) (x a:List Nat):(match eZ m x,placeOf m a with | some x,some i=>gZ m x true i.1 i.2 | _,_=>.error 3)=rs m x true (placeOf m a):=by
 unfold rs
 cases eZ m x <;> cases placeOf m a <;> rfl
section
inductive O8 (K:ae) (A:Ad) (vs:List V) (H:Hp) (Q:VK) (E':XK):Prop
 | mk (B:Bd) (m:aB) (a:af) (x z:List Nat) (f:Bool) (_:vs=[.ref B.b,.ref a]) (_:dB A H B m) (_:WF m) (_:lB K H a [word "start",x,if f=true then word "fleet" else word "army",z]) (_:Puts A H Q B (rs m x f (if f=true then placeOf m z else (a8 m z).map fun i=>(i,0))))
theorem KG (T:Tx K mg A):dy P w K mg base hX 3 A.xR A.ya t9 (O8 K A):=by
 exists T.Jv,BD,"o"
 ·obtain⟨B,m,a,x,z,f,rfl,_⟩:=h
  rfl
 ·obtain⟨B,m,a,x,z,f,rfl,l,wf,hw,k1,k2⟩:=h
  have nd:=BD.nd
  have hs:=hw.1
  have lz:=hw.2.2 z (by simp)
  have sl:ao=16777216:=bI
  refine⟨_,aj (cA (i:=2) nd rfl (bC rfl) (h_ eM (bW b8 (pv 1) aS (fun _ _=>rfl)) ff (cD _)))
   (aj (cA (i:=3) nd rfl (bC rfl) (dY (pv 0) T.aV T.og (mQ T) (hr.mono (by decide)) T.oh .nil bR (ab (bW b8 (pv 1) aS (fun _ _=>rfl)) aq)))
   (aj (cA (i:=4) nd rfl (bC rfl) (kM (fB (pv 2)) (dY (pv 0) T.aV T.ie (gS T) (hr.mono (by decide)) T.ig .nil bR (ab (bW b8 (pv 1) aS (fun _ _=>rfl)) aq)) (dY (pv 0) T.aV T.iR (ic T) (hr.mono (by decide)) T.iS .nil bR (ab (bW b8 (pv 1) aS (fun _ _=>rfl)) aq))))
   (aj (cV (PW.pt (kK (ip (rG (pv 3))) (lD (ip (rG (pv 4)))))) (az (a_ (lZ T.Dc))) bO)
   (aj (cV (cg eM (dY (pv 0) T.aV T.oP (nu T) (hr.mono (by decide)) T.oW .nil bR (ab (pv 4) aq)) (kM (fB (pv 2)) (lZ T.VH) (lZ T.VF)) (cD _)) (az (a_ (lZ T.Lc))) bO)
   (aj (cV (fB (dY (pv 0) T.aV T.C1 (BQ T) (hr.mono (by decide)) T.DC .nil bR (ab (bW dH (pv 4) aS (fun _ _=>rfl)) aq))) (az (a_ (lZ T.Ld))) bO)
   (aj (cV (cg eM (bT bF rfl T.eU bf (ab (aJ (pv 0) rfl) aq)) (lZ T.Lg) (cD _)) (az (a_ (lZ T.Lj))) bO)
   (aj (eI (j8 bG cH cG gC (aJ (pv 0) rfl) (ab (Ky T.XH (Na T) hr rfl T.ZL T.Qz .nil bR (ab (pv 3) (ab (pv 2) (ab (pv 4) aq)))) aq)))
   (az (a_ (lZ T.uG)))))))))),?_⟩
  refine⟨_,rfl,a,_,2,_,rfl,rfl,hs,aW (j:=2) rfl,rfl,?_⟩
  refine⟨_,rfl,B.b,B.dx,_,rfl,l.ins,rfl,_,rfl,a,_,1,_,rfl,rfl,hs,aW (j:=1) rfl,B,m,x,rfl,l,?_⟩
  have nul:∀(f:Bool) (o:Option (Nat×Nat)),o=none->rs m x f o=.error 3:=fun f o e=>by unfold rs;rw[e];cases eZ m x <;> rfl
  cases f with
  | true=>
   have ef:decide (wV (word "fleet")=V.str (ak "fleet"))=true:=by decide +kernel
   refine⟨_,rfl,_,rfl,?_⟩
   show if decide (wV (word "fleet")=V.str (ak "fleet"))=true then _ else _
   rw[ef]
   refine b9 ⟨_,rfl,B.b,B.dx,_,rfl,l.ins,rfl,_,rfl,a,_,3,_,rfl,rfl,hs,aW (j:=3) rfl,B,m,z,rfl,l,wf,lz,fun e H1 s1=>?_,fun y e H1 t s1 ht _=>?_⟩
   ·have R:=nul true (placeOf m z) e
    cases ep:eZ m x with
    | none=>exact⟨_,rfl,_,rfl,b9 (b9 (k1 3 R H1 s1.out))⟩
    | some kp=>exact⟨_,rfl,_,rfl,bY ⟨_,rfl,_,rfl,b9 (k1 3 R H1 s1.out)⟩⟩
   ·rw[if_pos rfl,e] at k1 k2
    have l1:=l.same s1
    have hi:y.1<m.provinces.length:=(jD e).1
    have hy:y.2<max 1 (ag m y.1).shores.length:=(jD e).2
    cases ep:eZ m x with
    | none=>
     have R:rs m x true (some y)=.error 3:=by unfold rs;rw[ep]
     exact⟨_,rfl,_,rfl,b9 (b9 (k1 3 R H1 s1.out))⟩
    | some kp=>
     have R:rs m x true (some y)=gZ m kp true y.1 y.2:=by unfold rs;rw[ep]
     rw[R] at k1 k2
     refine⟨_,rfl,_,rfl,bY ⟨_,rfl,_,rfl,bY ?_⟩⟩
     refine⟨_,rfl,B.b,B.dx,_,rfl,l1.ins,rfl,_,rfl,B,m,t,y.1,_,rfl,l1,ht,hi,_,rfl,_,rfl,b9 ⟨rfl,_,rfl,?_⟩⟩
     rw[show decide (V.int (((ag m y.1).kind:Nat):Int)=V.int 0)=((ag m y.1).kind==0) from len_eq _ 0]
     have R2:gZ m kp true y.1 y.2=if (ag m y.1).kind=0 then .error 4 else if (m.starts.any fun u=>u.prov==y.1)=true then .error 5 else if UNITS<=m.starts.length then .error 6
      else .ok { m with starts:=m.starts++[{ power:=kp,fleet:=true,prov:=y.1,shore:=y.2 }] }:=by unfold gZ;simp
     rw[R2] at k1 k2
     by_cases c1:(ag m y.1).kind=0
     ·rw[show ((ag m y.1).kind==0)=true from beq_iff_eq.mpr c1]
      exact b9 (k1 4 (if_pos c1) H1 s1.out)
     ·rw[show ((ag m y.1).kind==0)=false from beq_eq_false_iff_ne.mpr c1]
      rw[if_neg c1] at k1 k2
      have hE:=wf.stl
      refine bY ⟨_,rfl,B.b,B.dx,_,rfl,l1.ins,rfl,_,rfl,t,_,0,_,rfl,rfl,iC.of ht,aW (j:=0) rfl,B,m,y.1,rfl,l1,by omega,fun H2 s2=>⟨_,rfl,?_⟩⟩
      cases c2:(m.starts.any fun u=>u.prov==y.1) with
      | true=>exact b9 (k1 5 (if_pos c2) H2 (s1.trans s2).out)
      | false=>
       rw[if_neg (by rw[c2];decide)] at k1 k2
       have l2:=l1.same s2
       refine bY ⟨_,rfl,B.b,A.aK,B.dx,_,_,rfl,l2.ins,T.aV,T.fF,rfl,B.un,_,rfl,.inl (cP.of l2.un),rfl,_,rfl,?_⟩
       rw[aa,l2.FU]
       rw[show decide (V.int ((m.starts.length:Nat):Int)=V.int 24)=(m.starts.length==24) from len_eq _ 24]
       by_cases c3:m.starts.length=24
       ·rw[show (m.starts.length==24)=true from beq_iff_eq.mpr c3]
        exact b9 (k1 6 (if_pos (by show 24<=_;omega)) H2 (s1.trans s2).out)
       ·rw[show (m.starts.length==24)=false from beq_eq_false_iff_ne.mpr c3]
        have k2:=k2 _ (if_neg (by show ¬ 24<=_;omega))
        refine bY ⟨_,rfl,B.b,A.aK,B.dx,_,_,rfl,l2.ins,T.aV,T.fF,rfl,.inl ⟨rfl,_,cP.of l2.un⟩,_,rfl,_,rfl,_,rfl,fun u du hu hdu ndu=>?_⟩
        refine⟨u,du,_,_,_,rfl,aw,fun H3 i3 b3=>⟨rfl,?_⟩⟩
        have s3:bX H2 H3:=bX.made hu hdu b3
        have l3:=l2.same s3
        refine⟨B.un,_,_,rfl,rfl,l3.un,by rw[aa,l3.FU];omega,?_⟩
        have s13:=(s1.trans s2).trans s3
        have z:=R1 l3 { power:=kp,fleet:=true,prov:=y.1,shore:=y.2 } (u:=u) (dx:=du) (t:=t) i3 (s3 _ _ (s2 _ _ ht))
        rw[bh] at z
        refine k2 _ _ ?_ z
        refine (Mv.same s13).trans ⟨rfl,fun q o e no=>?_,fun q hq=>.inl hq,fun q hq=>.inl hq⟩
        rw[aQ (fun e'=>no (by rw[e'];simp[own]))];exact e
  | false=>
   have ef:decide (wV (word "army")=V.str (ak "fleet"))=false:=by decide +kernel
   refine⟨_,rfl,_,rfl,?_⟩
   show if decide (wV (word "army")=V.str (ak "fleet"))=true then _ else _
   rw[ef]
   refine bY ⟨_,rfl,B.b,B.dx,_,rfl,l.ins,rfl,_,rfl,a,_,3,_,rfl,rfl,hs,aW (j:=3) rfl,B,m,z,rfl,l,fun e=>?_,fun i e H1 t s1 ht _=>?_⟩
   ·have R:=nul false ((a8 m z).map fun i=>(i,0)) (by rw[e];rfl)
    cases ep:eZ m x with
    | none=>exact⟨_,rfl,_,rfl,b9 (b9 (k1 3 R H Out.refl))⟩
    | some kp=>exact⟨_,rfl,_,rfl,bY ⟨_,rfl,_,rfl,b9 (k1 3 R H Out.refl)⟩⟩
   ·rw[if_neg (by decide),e] at k1 k2
    obtain⟨y,ey⟩:∃y:Nat×Nat,y=(i,0):=⟨_,rfl⟩
    have ht:eJ H1 t ((y.1:Int),(y.2:Int)):=by rw[ey];exact ht
    have k1:∀e,rs m x false (some y)=.error e->∀H',Out B H H'->Q (.int e) H':=by rw[ey];exact k1
    have k2:∀m',rs m x false (some y)=.ok m'->∀H' B',Mv B B' H H'->dB A H' B' m'->Q (.int 0) H':=by rw[ey];exact k2
    have l1:=l.same s1
    have hi:y.1<m.provinces.length:=by rw[ey];exact (dX e).1
    have hy:y.2<max 1 (ag m y.1).shores.length:=by rw[ey];show 0<max 1 _;omega
    cases ep:eZ m x with
    | none=>
     have R:rs m x false (some y)=.error 3:=by unfold rs;rw[ep]
     exact⟨_,rfl,_,rfl,b9 (b9 (k1 3 R H1 s1.out))⟩
    | some kp=>
     have R:rs m x false (some y)=gZ m kp false y.1 y.2:=by unfold rs;rw[ep]
     rw[R] at k1 k2
     refine⟨_,rfl,_,rfl,bY ⟨_,rfl,_,rfl,bY ?_⟩⟩
     refine⟨_,rfl,B.b,B.dx,_,rfl,l1.ins,rfl,_,rfl,B,m,t,y.1,_,rfl,l1,ht,hi,_,rfl,_,rfl,bY ⟨rfl,_,rfl,?_⟩⟩
     rw[show decide (V.int (((ag m y.1).kind:Nat):Int)=V.int 1)=((ag m y.1).kind==1) from len_eq _ 1]
     have R2:gZ m kp false y.1 y.2=if (ag m y.1).kind=1 then .error 4 else if (m.starts.any fun u=>u.prov==y.1)=true then .error 5 else if UNITS<=m.starts.length then .error 6
      else .ok { m with starts:=m.starts++[{ power:=kp,fleet:=false,prov:=y.1,shore:=y.2 }] }:=by unfold gZ;simp
     rw[R2] at k1 k2
     by_cases c1:(ag m y.1).kind=1
     ·rw[show ((ag m y.1).kind==1)=true from beq_iff_eq.mpr c1]
      exact b9 (k1 4 (if_pos c1) H1 s1.out)
     ·rw[show ((ag m y.1).kind==1)=false from beq_eq_false_iff_ne.mpr c1]
      rw[if_neg c1] at k1 k2
      have hE:=wf.stl
      refine bY ⟨_,rfl,B.b,B.dx,_,rfl,l1.ins,rfl,_,rfl,t,_,0,_,rfl,rfl,iC.of ht,aW (j:=0) rfl,B,m,y.1,rfl,l1,by omega,fun H2 s2=>⟨_,rfl,?_⟩⟩
      cases c2:(m.starts.any fun u=>u.prov==y.1) with
      | true=>exact b9 (k1 5 (if_pos c2) H2 (s1.trans s2).out)
      | false=>
       rw[if_neg (by rw[c2];decide)] at k1 k2
       have l2:=l1.same s2
       refine bY ⟨_,rfl,B.b,A.aK,B.dx,_,_,rfl,l2.ins,T.aV,T.fF,rfl,B.un,_,rfl,.inl (cP.of l2.un),rfl,_,rfl,?_⟩
       rw[aa,l2.FU]
       rw[show decide (V.int ((m.starts.length:Nat):Int)=V.int 24)=(m.starts.length==24) from len_eq _ 24]
       by_cases c3:m.starts.length=24
       ·rw[show (m.starts.length==24)=true from beq_iff_eq.mpr c3]
        exact b9 (k1 6 (if_pos (by show 24<=_;omega)) H2 (s1.trans s2).out)
       ·rw[show (m.starts.length==24)=false from beq_eq_false_iff_ne.mpr c3]
        have k2:=k2 _ (if_neg (by show ¬ 24<=_;omega))
        refine bY ⟨_,rfl,B.b,A.aK,B.dx,_,_,rfl,l2.ins,T.aV,T.fF,rfl,.inl ⟨rfl,_,cP.of l2.un⟩,_,rfl,_,rfl,_,rfl,fun u du hu hdu ndu=>?_⟩
        refine⟨u,du,_,_,_,rfl,aw,fun H3 i3 b3=>⟨rfl,?_⟩⟩
        have s3:bX H2 H3:=bX.made hu hdu b3
        have l3:=l2.same s3
        refine⟨B.un,_,_,rfl,rfl,l3.un,by rw[aa,l3.FU];omega,?_⟩
        have s13:=(s1.trans s2).trans s3
        have z:=R1 l3 { power:=kp,fleet:=false,prov:=y.1,shore:=y.2 } (u:=u) (dx:=du) (t:=t) i3 (s3 _ _ (s2 _ _ ht))
        rw[bh] at z
        refine k2 _ _ ?_ z
        refine (Mv.same s13).trans ⟨rfl,fun q o e no=>?_,fun q hq=>.inl hq,fun q hq=>.inl hq⟩
        rw[aQ (fun e'=>no (by rw[e'];simp[own]))];exact e
end
end Pb
namespace Pb
open PySem PySem.Spec PyProof.Rows L2 TL
open Vbsoab (provAt exactly powerOf placeOf cutAt shoreOf named shoreName distinctWords word setProvince putPair pair addProvince addStart POWERS PROVINCES LINKS UNITS statement line silent wordsOf wordsIn readFrom plainByte)
theorem gJ {s:String} (h:ak s=tx (word s)) {k:List Nat} (n:k≠word s):decide (wV k=V.str (ak s))=false:=by rw[qL h];exact decide_eq_false n
theorem v8 {s:String} (h:ak s=tx (word s)) {k:List Nat} (n:k=word s):decide (wV k=V.str (ak s))=true:=by rw[qL h];exact decide_eq_true n
theorem Bv:∀{t x:List Nat},x∈wordsIn t->x.length<=t.length
 | [],x,h=>by rw[show wordsIn []=[[]] from rfl,aY] at h;rw[h];exact aC _
 | c::r,x,h=>by
  simp only[wordsIn] at h
  cases e:wordsIn r with
  | nil=>exact absurd e (tM r)
  | cons a b=>
   rw[e] at h
   have ih:∀y,y∈a::b->y.length<=r.length:=fun y hy=>Bv (by rw[e];exact hy)
   simp only at h
   split at h
   ·rcases aF.mp h with q | q
    ·rw[q];exact cu _
    ·have:=ih x q;rw[aG];omega
   ·rcases aF.mp h with q | q
    ·rw[q,aG,aG];have:=ih a (by simp);omega
    ·have:=ih x (aE _ q);rw[aG];omega
theorem Ea:∀{t x:List Nat},x∈cC t->x.length<=t.length/\∀c∈x,c∈t/\c≠10
 | [],x,h=>by rw[show cC []=[[]] from rfl,aY] at h;rw[h];exact⟨aC _,fun c hc=>by cases hc⟩
 | c::r,x,h=>by
  simp only[cC] at h
  cases e:cC r with
  | nil=>exact absurd e (uE r)
  | cons a b=>
   rw[e] at h
   have ih:∀y,y∈a::b->y.length<=r.length/\∀c∈y,c∈r/\c≠10:=fun y hy=>Ea (by rw[e];exact hy)
   simp only at h
   split at h
   ·rcases aF.mp h with q | q
    ·rw[q];exact⟨cu _,fun c hc=>by cases hc⟩
    ·obtain⟨i1,i2⟩:=ih x q
     exact⟨by rw[aG];omega,fun d hd=>⟨aE _ (i2 d hd).1,(i2 d hd).2⟩⟩
   ·rename_i nc
    rcases aF.mp h with q | q
    ·obtain⟨i1,i2⟩:=ih a (by simp)
     rw[q]
     refine⟨by rw[aG,aG];omega,fun d hd=>?_⟩
     rcases aF.mp hd with z | z
     ·rw[z];exact⟨by simp,nc⟩
     ·exact⟨aE _ (i2 d z).1,(i2 d z).2⟩
    ·obtain⟨i1,i2⟩:=ih x (aE _ q)
     exact⟨by rw[aG];omega,fun d hd=>⟨aE _ (i2 d hd).1,(i2 d hd).2⟩⟩
theorem Jk (n w:List Nat):iV (tx n) (tx w)=(n.take w.length==w):=by
 unfold iV
 rw[abG,iN,iN]
 show (decide (0+w.length<=n.length)&&((n.drop 0).take w.length==w))=_
 rw[mT]
 by_cases c:(n.take w.length==w)=true
 ·rw[c]
  have:=congrArg j_ (eq_of_beq c)
  rw[cx] at this
  simp
  omega
 ·rw[Bool.not_eq_true] at c
  rw[c];simp
theorem CN {A:Ad} {H:Hp} {B:Bd} {m:aB} (l:dB A H B m):∀x∈own B,H x≠none:=fun x hx=>by
 have lk:∀{a:af} {L:Lk},gD A H a L->x∈eQ L->H x≠none:=fun q h=>by
  obtain⟨kvs,hk⟩:=q.Fy h
  rw[hk];exact fun z=>nomatch z
 unfold own at hx
 simp only[bx,aF,fE,or_false] at hx
 rcases hx with (h | h | h | h | h | h | h | h) | h | h | h | h
 ·rw[h,l.ins];exact fun z=>nomatch z
 ·rw[h,l.pw];exact fun z=>nomatch z
 ·rw[h,l.pv];exact fun z=>nomatch z
 ·rw[h,l.bw];exact fun z=>nomatch z
 ·rw[h,l.l0.ins];exact fun z=>nomatch z
 ·rw[h,l.l1.ins];exact fun z=>nomatch z
 ·rw[h,l.l2.ins];exact fun z=>nomatch z
 ·rw[h,l.un];exact fun z=>nomatch z
 ·obtain⟨i,hi⟩:=dG h
  have lt:i<B.sh.length:=by rw[l.shl,<- l.tF];exact (ax.mp hi).1
  obtain⟨⟨dx',q⟩,_⟩:=l.prov i x _ hi (aR lt)
  rw[q];exact fun z=>nomatch z
 ·exact lk l.l0 (by simpa [eQ] using h)
 ·exact lk l.l1 (by simpa [eQ] using h)
 ·exact lk l.l2 (by simpa [eQ] using h)
theorem Jl {m:aB} {k i s:Nat} {f:Bool} {e:Nat} (h:gZ m k f i s=.error e):e≠0:=by
 unfold gZ at h
 simp only at h
 repeat' split at h
 all_goals first | cases h;decide | cases h
theorem Uv {m:aB} {ws:List (List Nat)} {e:Nat} (h:statement m ws=.error e):e≠0:=by
 by_cases hn:ws=[]
 ·subst hn;cases h
 cases c:eY ws with
 | false=>rw[RO hn c] at h;cases h;decide
 | true=>
  have F:=RN (m:=m) c
  rw[h] at F
  generalize hr:(Except.error e:Except Nat aB)=r at F
  cases F with
  | power n hn=>split at hr;(cases hr;decide);split at hr;(cases hr;decide);cases hr
  | prov kk n t sh ik np hn ht hsh=>unfold qI at hr;split at hr;(cases hr;decide);split at hr;(cases hr;decide);cases hr
  | join x y=>
   rw[JE] at hr;unfold GS at hr
   repeat' split at hr
   all_goals first | cases hr;decide | cases hr
  | sail x y=>
   unfold r_ at hr
   simp only at hr
   repeat' split at hr
   all_goals first | cases hr;decide | cases hr
  | centre x=>
   unfold dS at hr
   simp only at hr
   repeat' split at hr
   all_goals first | cases hr;decide | cases hr
  | home x y=>
   unfold dS at hr
   simp only at hr
   repeat' split at hr
   all_goals first | cases hr;decide | cases hr
  | Z9 x z=>
   split at hr
   ·exact Jl hr.symm
   ·cases hr;decide
  | fleet x z=>
   split at hr
   ·exact Jl hr.symm
   ·cases hr;decide
theorem Vm {m:aB} {t:List Nat} {e:Nat} (h:line m t=.error e):e≠0:=by
 unfold line at h
 split at h
 ·cases h;decide
 ·split at h
  ·cases h
  ·exact Uv h
section
inductive O7 (K:ae) (A:Ad) (vs:List V) (H:Hp) (Q:VK) (E':XK):Prop
 | mk (B:Bd) (m:aB) (a:af) (ws:List (List Nat)) (_:vs=[.ref B.b,.ref a]) (_:dB A H B m) (_:WF m) (_:lB K H a ws) (_:eY ws=true) (_:Puts A H Q B (statement m ws))
theorem KD (T:Tx K mg A):dy P w K mg base hX 6 A.xQ A.x' t8 (O7 K A):=by
 exists T.Ju,BC,"o"
 ·obtain⟨B,m,a,ws,rfl,_⟩:=h
  rfl
 ·obtain⟨B,m,a,ws,rfl,l,wf,hw,hf,k⟩:=h
  have nd:=BC.nd
  refine⟨_,aj (cA (i:=2) nd rfl (bC rfl) (bW b8 (pv 1) aS (fun _ _=>rfl)))
   (aj (cV (cg eM (pv 2) ff (cD _)) (az (a_ (bP (KH T) (hr.mono (by decide)) rfl T.NW T.Jw.kp T.Ou .nil bR (ab (pv 0) (ab (bW b8 (pv 1) aS (fun _ _=>rfl)) aq))))) bO)
   (aj (cV (cg pA (pv 2) (YB T.BZ) (by with_unfolding_all rfl)) (az (a_ (bP (EF T) (hr.mono (by decide)) rfl T.G' T.BI.kp T.Hv .nil bR (ab (pv 0) (ab (pv 1) aq))))) bO)
   (aj (cV (cg eM (pv 2) ff (cD _)) (az (a_ (bP (M7 T) hr rfl T.P7 T.MR.kp T.Qu .nil bR (ab (pv 0) (ab (pv 1) aq))))) bO)
   (aj (cV (cg eM (pv 2) ff (cD _)) (az (a_ (bP (M5 T) hr rfl T.P5 T.MP.kp T.Qs .nil bR (ab (pv 0) (ab (pv 1) aq))))) bO)
   (aj (cV (cg eM (pv 2) ff (cD _)) (az (a_ (bP (Ip T) (hr.mono (by decide)) rfl T.La T.Gb.kp T.Ly .nil bR (ab (pv 0) (ab (pv 1) aq))))) bO)
   (az (a_ (bP (KG T) (hr.mono (by decide)) rfl T.NV T.Jv.kp T.Ot .nil bR (ab (pv 0) (ab (pv 1) aq)))))))))),?_⟩
  have F:=RN (m:=m) hf
  generalize statement m ws=r at F k
  have noKind:∀k:List Nat,rM k=false->JI (wV k) [.str "land",.str "sea",.str "coast"]=false:=fun k h=>by rw[G7,h]
  cases F with
  | power n hn=>
   refine⟨_,rfl,a,_,0,_,rfl,rfl,hw.1,aW (j:=0) rfl,_,rfl,rfl,_,rfl,?_⟩
   show if decide (wV (word "power")=V.str (ak "power"))=true then _ else _
   rw[v8 kN rfl]
   exact b9 ⟨_,rfl,_,rfl,a,_,1,_,rfl,rfl,hw.1,aW (j:=1) rfl,B,m,n,rfl,l,wf,k⟩
  | prov kk n t sh ik np hn ht hsh=>
   refine⟨_,rfl,a,_,0,_,rfl,rfl,hw.1,aW (j:=0) rfl,_,rfl,rfl,_,rfl,?_⟩
   show if decide (wV kk=V.str (ak "power"))=true then _ else _
   rw[gJ kN np]
   refine bY ⟨_,rfl,A.jt,_,rfl,.inr (T.kW.sq _),rfl,rfl,_,rfl,?_⟩
   show if JI (wV kk) [.str "land",.str "sea",.str "coast"]=true then _ else _
   rw[G7,ik]
   exact b9 ⟨_,rfl,_,rfl,B,m,a,kk,n,t,sh,rfl,l,wf,hw,ik,k⟩
  | join x y=>
   refine⟨_,rfl,a,_,0,_,rfl,rfl,hw.1,aW (j:=0) rfl,_,rfl,rfl,_,rfl,?_⟩
   show if decide (wV (word "join")=V.str (ak "power"))=true then _ else _
   rw[gJ kN (by decide)]
   refine bY ⟨_,rfl,A.jt,_,rfl,.inr (T.kW.sq _),rfl,rfl,_,rfl,?_⟩
   show if JI (wV (word "join")) [.str "land",.str "sea",.str "coast"]=true then _ else _
   rw[noKind _ (by decide)]
   refine bY ⟨_,rfl,rfl,_,rfl,?_⟩
   show if decide (wV (word "join")=V.str (ak "join"))=true then _ else _
   rw[v8 qT rfl]
   exact b9 ⟨_,rfl,_,rfl,B,m,a,x,y,rfl,l,wf,hw,k⟩
  | sail x y=>
   refine⟨_,rfl,a,_,0,_,rfl,rfl,hw.1,aW (j:=0) rfl,_,rfl,rfl,_,rfl,?_⟩
   show if decide (wV (word "sail")=V.str (ak "power"))=true then _ else _
   rw[gJ kN (by decide)]
   refine bY ⟨_,rfl,A.jt,_,rfl,.inr (T.kW.sq _),rfl,rfl,_,rfl,?_⟩
   show if JI (wV (word "sail")) [.str "land",.str "sea",.str "coast"]=true then _ else _
   rw[noKind _ (by decide)]
   refine bY ⟨_,rfl,rfl,_,rfl,?_⟩
   show if decide (wV (word "sail")=V.str (ak "join"))=true then _ else _
   rw[gJ qT (by decide)]
   refine bY ⟨_,rfl,rfl,_,rfl,?_⟩
   show if decide (wV (word "sail")=V.str (ak "sail"))=true then _ else _
   rw[v8 uA rfl]
   exact b9 ⟨_,rfl,_,rfl,B,m,a,x,y,rfl,l,wf,hw,k⟩
  | centre x=>
   refine⟨_,rfl,a,_,0,_,rfl,rfl,hw.1,aW (j:=0) rfl,_,rfl,rfl,_,rfl,?_⟩
   show if decide (wV (word "centre")=V.str (ak "power"))=true then _ else _
   rw[gJ kN (by decide)]
   refine bY ⟨_,rfl,A.jt,_,rfl,.inr (T.kW.sq _),rfl,rfl,_,rfl,?_⟩
   show if JI (wV (word "centre")) [.str "land",.str "sea",.str "coast"]=true then _ else _
   rw[noKind _ (by decide)]
   refine bY ⟨_,rfl,rfl,_,rfl,?_⟩
   show if decide (wV (word "centre")=V.str (ak "join"))=true then _ else _
   rw[gJ qT (by decide)]
   refine bY ⟨_,rfl,rfl,_,rfl,?_⟩
   show if decide (wV (word "centre")=V.str (ak "sail"))=true then _ else _
   rw[gJ uA (by decide)]
   refine bY ⟨_,rfl,rfl,_,rfl,?_⟩
   show if decide (wV (word "centre")=V.str (ak "centre"))=true then _ else _
   rw[v8 pB rfl]
   exact b9 ⟨_,rfl,_,rfl,B,m,a,x,none,rfl,l,wf,hw,k⟩
  | home x y=>
   refine⟨_,rfl,a,_,0,_,rfl,rfl,hw.1,aW (j:=0) rfl,_,rfl,rfl,_,rfl,?_⟩
   show if decide (wV (word "centre")=V.str (ak "power"))=true then _ else _
   rw[gJ kN (by decide)]
   refine bY ⟨_,rfl,A.jt,_,rfl,.inr (T.kW.sq _),rfl,rfl,_,rfl,?_⟩
   show if JI (wV (word "centre")) [.str "land",.str "sea",.str "coast"]=true then _ else _
   rw[noKind _ (by decide)]
   refine bY ⟨_,rfl,rfl,_,rfl,?_⟩
   show if decide (wV (word "centre")=V.str (ak "join"))=true then _ else _
   rw[gJ qT (by decide)]
   refine bY ⟨_,rfl,rfl,_,rfl,?_⟩
   show if decide (wV (word "centre")=V.str (ak "sail"))=true then _ else _
   rw[gJ uA (by decide)]
   refine bY ⟨_,rfl,rfl,_,rfl,?_⟩
   show if decide (wV (word "centre")=V.str (ak "centre"))=true then _ else _
   rw[v8 pB rfl]
   exact b9 ⟨_,rfl,_,rfl,B,m,a,x,some y,rfl,l,wf,hw,k⟩
  | Z9 x z=>
   refine⟨_,rfl,a,_,0,_,rfl,rfl,hw.1,aW (j:=0) rfl,_,rfl,rfl,_,rfl,?_⟩
   show if decide (wV (word "start")=V.str (ak "power"))=true then _ else _
   rw[gJ kN (by decide)]
   refine bY ⟨_,rfl,A.jt,_,rfl,.inr (T.kW.sq _),rfl,rfl,_,rfl,?_⟩
   show if JI (wV (word "start")) [.str "land",.str "sea",.str "coast"]=true then _ else _
   rw[noKind _ (by decide)]
   refine bY ⟨_,rfl,rfl,_,rfl,?_⟩
   show if decide (wV (word "start")=V.str (ak "join"))=true then _ else _
   rw[gJ qT (by decide)]
   refine bY ⟨_,rfl,rfl,_,rfl,?_⟩
   show if decide (wV (word "start")=V.str (ak "sail"))=true then _ else _
   rw[gJ uA (by decide)]
   refine bY ⟨_,rfl,rfl,_,rfl,?_⟩
   show if decide (wV (word "start")=V.str (ak "centre"))=true then _ else _
   rw[gJ pB (by decide)]
   have k:Puts A H Q B (rs m x false ((a8 m z).map fun i=>(i,0))):=by rw[<- Xl];exact k
   exact bY ⟨_,rfl,_,rfl,B,m,a,x,z,false,rfl,l,wf,hw,k⟩
  | fleet x z=>
   refine⟨_,rfl,a,_,0,_,rfl,rfl,hw.1,aW (j:=0) rfl,_,rfl,rfl,_,rfl,?_⟩
   show if decide (wV (word "start")=V.str (ak "power"))=true then _ else _
   rw[gJ kN (by decide)]
   refine bY ⟨_,rfl,A.jt,_,rfl,.inr (T.kW.sq _),rfl,rfl,_,rfl,?_⟩
   show if JI (wV (word "start")) [.str "land",.str "sea",.str "coast"]=true then _ else _
   rw[noKind _ (by decide)]
   refine bY ⟨_,rfl,rfl,_,rfl,?_⟩
   show if decide (wV (word "start")=V.str (ak "join"))=true then _ else _
   rw[gJ qT (by decide)]
   refine bY ⟨_,rfl,rfl,_,rfl,?_⟩
   show if decide (wV (word "start")=V.str (ak "sail"))=true then _ else _
   rw[gJ uA (by decide)]
   refine bY ⟨_,rfl,rfl,_,rfl,?_⟩
   show if decide (wV (word "start")=V.str (ak "centre"))=true then _ else _
   rw[gJ pB (by decide)]
   have k:Puts A H Q B (rs m x true (placeOf m z)):=by rw[<- UO];exact k
   exact bY ⟨_,rfl,_,rfl,B,m,a,x,z,true,rfl,l,wf,hw,k⟩
def YL (l:List Nat):Prop:=∀c∈l,plainByte c=true\/c=9
theorem SF {l:List Nat} (h:YL l):decide (9∈l) = !(l.all plainByte):=by
 rw[bq,decide_eq_true_eq,Bool.not_eq_true',Ew]
 constructor
 ·intro q;exact⟨9,q,by decide⟩
 ·rintro ⟨c,hc,hn⟩
  rcases h c hc with q | q
  ·exact absurd q hn
  ·rw[<- q];exact hc
inductive Sw (K:ae) (A:Ad) (vs:List V) (H:Hp) (Q:VK) (E':XK):Prop
 | mk (B:Bd) (m:aB) (t:List Nat) (_:vs=[.ref B.b,wV t]) (_:dB A H B m) (_:WF m) (_:t.length<=50000) (_:YL t) (_:Puts A H Q B (line m t))
theorem Sq (x:List Nat):iV (tx x) (ak "#")=(x.head?==some 35):=by
 have e:ak "#"=tx [35]:=by decide +kernel
 rw[e,Jk]
 cases x with
 | nil=>rfl
 | cons c r=>
  show ([c]==[35])=(some c==some 35)
  rw[bq];simp
theorem M6 (T:Tx K mg A):dy P w K mg base hX 7 A.AK A.A4 wW (Sw K A):=by
 exists T.MQ,DT,"o"
 ·obtain⟨B,m,t,rfl,_⟩:=h
  rfl
 ·obtain⟨B,m,t,rfl,l,wf,hE,sg,k1,k2⟩:=h
  have nd:=DT.nd
  refine⟨_,aj (cV (cg Ao (Wz T.RI) (pv 1) (by with_unfolding_all rfl)) (az (a_ (lZ T.JM))) bO)
   (aj (cA (i:=2) nd rfl (bC rfl) (bP (M3 T) (hr.mono (by decide)) rfl T.P2 T.words_of.kp T.Qq .nil bR (ab (pv 1) aq)))
   (aj (cV (PW.pt (kK (cg eM (bT bF rfl T.eU bf (ab (pv 2) aq)) aS (cD _)) (lD (fB (MX FL FK zC (bW b8 (pv 2) aS (fun _ _=>rfl)) (Wz T.VG)))))) (az (a_ (lZ T.uG))) bO)
   (aj (cV (kf (fB (bP (M_ T) (hr.mono (by decide)) rfl T.P_ T.NT.kp T.Qx .nil bR (ab (pv 2) aq)))) (az (a_ (lZ T.JM))) bO)
   (az (a_ (bP (KD T) hr rfl T.NU T.Ju.kp T.Oq .nil bR (ab (pv 0) (ab (pv 2) aq)))))))),?_⟩
  refine⟨_,rfl,9,tx t,by decide +kernel,rfl,_,rfl,?_⟩
  show if decide (9∈t)=true then _ else _
  rw[SF sg]
  have R:line m t=if t.all plainByte=false then .error 1 else if silent t=true then .ok m else statement m (wordsOf t):=rfl
  rw[R] at k1 k2
  cases c1:t.all plainByte with
  | false=>exact b9 (k1 1 (if_pos c1) H Out.refl)
  | true=>
   rw[if_neg (by rw[c1];decide)] at k1 k2
   refine bY ⟨_,rfl,t,rfl,by omega,fun H1 D s1 hD hD0=>?_⟩
   have hq:cP K H1 D ((wordsOf t).map wV):=cP.of hD
   have l1:=l.same s1
   have wsz:∀x∈wordsOf t,x.length<=t.length:=fun x hx=>Bv (c8.mp hx).1
   have wln:(wordsOf t).length<=t.length+1:=dA (cY _ _) (vZ t)
   have hwd:lB K H1 D (wordsOf t):=⟨hq,by omega,fun x hx=>by have:=wsz x hx;omega⟩
   refine⟨_,rfl,D,_,rfl,.inl hq,rfl,_,rfl,?_⟩
   have sil:silent t=match wordsOf t with | []=>true | x::_=>x.head?==some 35:=rfl
   cases ew:wordsOf t with
   | nil=>
    rw[ew] at sil
    exact b9 (b9 (k2 m (if_pos sil) H1 B (Mv.same s1) l1))
   | cons x r=>
    rw[ew] at sil hq hwd
    have sil:silent t=(x.head?==some 35):=sil
    refine bY ⟨_,rfl,D,_,0,_,rfl,rfl,hq,aW (j:=0) rfl,⟨_,rfl⟩,_,_,rfl,rfl,_,rfl,?_⟩
    show if iV (tx x) (ak "#")=true then _ else _
    rw[Sq]
    cases c2:(x.head?==some 35) with
    | true=>exact b9 (k2 m (if_pos (by rw[sil];exact c2)) H1 B (Mv.same s1) l1)
    | false=>
     rw[if_neg (by rw[sil,c2];decide),ew] at k1 k2
     refine bY ⟨_,rfl,D,_,rfl,hwd,by simp,fun H2 s2=>⟨_,rfl,?_⟩⟩
     have l2:=l1.same s2
     cases c3:eY (x::r) with
     | false=>exact b9 (k1 1 (RO (by simp) c3) H2 (s1.trans s2).out)
     | true=>exact bY ⟨_,rfl,_,rfl,B,m,D,x::r,rfl,l2,wf,hwd.same s2,c3,Puts.BH ⟨k1,k2⟩ (s1.trans s2)⟩
inductive Sv (K:ae) (A:Ad) (vs:List V) (H:Hp) (Q:VK) (E':XK):Prop
 | mk (B:Bd) (m:aB) (t:List Nat) (_:vs=[.ref B.b,wV t]) (_:dB A H B m) (_:WF m) (_:t.length<=50000) (_:∀c∈t,plainByte c=true\/c=9\/c=10) (_:∀p,readFrom 1 m (cC t)=.error p->∀H' a,Out B H H'->H' a=some (.tup [.int p.1,.int p.2])->Q (.ref a) H') (_:∀m',readFrom 1 m (cC t)=.ok m'->∀H' B',Mv B B' H H'->dB A H' B' m'->WF m'->Q .iE H')
theorem M4 (T:Tx K mg A):dy P w K mg base hX 8 A.AH A.A1 wQ (Sv K A):=by
 exists T.MO,DS,"o"
 ·obtain⟨B,m,t,rfl,_⟩:=h
  rfl
 ·obtain⟨B,m,t,rfl,l,wf,hE,sg,k1,k2⟩:=h
  have nd:=DS.nd
  have sl:ao=16777216:=bI
  refine⟨_,aj (lF cS rfl (UZ rfl T.xB (ab (MW (pv 1) ff) aq)) (Ak rfl (gR (df (i:=2) nd rfl (bC rfl)) (gR (df (i:=3) nd rfl (bC rfl)) ur)))
    (aj (cA (i:=4) nd rfl (bC rfl) (bP (M6 T) hr rfl T.P6 T.MQ.kp T.Qt .nil bR (ab (pv 0) (ab (pv 3) aq))))
    (az (cV (cg Gp (pv 4) (lZ T.uG) (cD _)) (az (a_ (ki (ab (pv 2) (ab (pv 4) aq))))) bO))))
   (az (a_ xl)),?_⟩
  refine⟨_,rfl,⟨_,rfl⟩,_,_,rfl,rfl,by decide +kernel,by rw[iN];omega,?_⟩
  rw[Ml]
  intro p hp
  rw[cz]
  have s0:bX H (upd H p (.lst ((cC t).map (V.str∘tx)))):=br hp
  have npo:p∉own B:=fun q=>by
   have ex:∀x∈own B,H x≠none:=CN l
   exact ex p q hp
  refine⟨p,_,rfl,cP.of aw,S9 (K:=K) (a:=p) (xs:=(cC t).map (V.str∘tx)) (fun i σ H'=>∃(v2 v3 v4:Option V) (Bi:Bd) (mi:aB),σ=[some (.ref B.b),some (wV t),v2,v3,v4]/\H' p=some (.lst ((cC t).map (V.str∘tx)))/\p∉own Bi/\Mv B Bi H H'/\dB A H' Bi mi/\WF mi /\
    readFrom 1 m (cC t)=readFrom (i+1) mi ((cC t).drop i))
   ⟨none,none,none,B,m,rfl,aw,npo,Mv.same s0,l.same s0,wf,rfl⟩ (fun i σ H' _ ⟨_,_,_,_,_,_,z,_⟩=>cP.of z) ?_ ?_⟩
  ·rintro i y σ H' Tt hy ⟨v2,v3,v4,Bi,mi,rfl,hpi,npi,mv,li,wfi,rd⟩ hT
   obtain⟨ln,hln,rfl⟩:=get_map hy
   have lm:=Ea (aN hln)
   have sT:bX H' (upd H' Tt (.tup [.int ((i:Nat)+1),(V.str∘tx) ln])):=br hT
   have hTT:upd H' Tt (.tup [.int ((i:Nat)+1),(V.str∘tx) ln]) Tt=some (.tup [.int ((i:Nat)+1),(V.str∘tx) ln]):=aw
   refine⟨Tt,_,rfl,iC.of hTT,rfl,_,_,rfl,_,_,rfl,rfl,?_⟩
   generalize upd H' Tt (.tup [.int ((i:Nat)+1),(V.str∘tx) ln])=H1 at sT hTT
   have l1:=li.same sT
   have dr:(cC t).drop i=ln::(cC t).drop (i+1):=by
    have lt:=(ax.mp hln).1
    rw[kU lt]
    have e:=(ax.mp hln).2
    rw[e]
   rw[dr] at rd
   have rd2:readFrom (i+1) mi (ln::(cC t).drop (i+1))=match line mi ln with | .error e=>.error (i+1,e) | .ok m=>readFrom (i+1+1) m ((cC t).drop (i+1)):=rfl
   rw[rd2] at rd
   have bb:=mv.b
   refine⟨_,rfl,_,rfl,Bi,mi,ln,by rw[bb];rfl,l1,wfi,by omega,fun c hc=>?_,fun e he H2 o2=>?_,fun m2 hm2 H2 B2 mv2 l2=>?_⟩
   ·rcases sg c (lm.2 c hc).1 with q | q | q
    ·exact .inl q
    ·exact .inr q
    ·exact absurd q (lm.2 c hc).2
   ·rw[he] at rd
    have ne:e≠0:=Vm he
    refine⟨_,rfl,rfl,_,rfl,?_⟩
    show if (!decide (V.int ((e:Nat):Int)=V.int 0))=true then _ else _
    rw[show decide (V.int ((e:Nat):Int)=V.int 0)=(e==0) from len_eq e 0,show (e==0)=false from beq_eq_false_iff_ne.mpr ne]
    refine b9 ⟨_,rfl,_,rfl,by show 2<=ao;decide,fun q hq=>?_⟩
    have out2:Out B H H2:=fun x o ex nx=>o2 x o (sT _ _ (mv.out x o ex nx)) fun z=>by
     rcases mv.own x z with q | q
     ·exact nx q
     ·rw[q] at ex;cases ex
    refine k1 _ rd _ q (fun x o ex nx=>by rw[aQ (aT (out2 x o ex nx) hq)];exact out2 x o ex nx) ?_
    rw[aw]
    rfl
   ·rw[hm2] at rd
    refine⟨_,rfl,rfl,_,rfl,?_⟩
    refine bY ⟨_,_,_,B2,m2,rfl,?_,?_,(mv.aaU sT).trans mv2,l2,QU wfi hm2,rd⟩
    ·exact mv2.out _ _ (sT _ _ hpi) npi
    ·intro z
     rcases mv2.own p z with q | q
     ·exact npi q
     ·rw[sT _ _ hpi] at q;cases q
  ·rintro σ H' ⟨v2,v3,v4,Bi,mi,rfl,hpi,npi,mv,li,wfi,rd⟩
   rw[aa,vB] at rd
   exact k2 mi rd H' Bi mv li wfi
end
end Pb
namespace Pb
open PySem PySem.Spec PyProof.Rows L2 TL
open Vbsoab (provAt exactly powerOf placeOf named shoreName word placeWord kindWord spaced rowsOf)
theorem Kc (a b:List Nat):tx a++tx b=tx (a++b):=by
 show (⟨a.toArray++b.toArray⟩:Str)=⟨(a++b).toArray⟩
 simp
theorem Vq {k:Nat} (h:k<=2):([.str "land",.str "sea",.str "coast"]:List V)[k]?=some (wV (IT k)):=by
 have:k=0\/k=1\/k=2:=by omega
 rcases this with rfl | rfl | rfl <;> decide +kernel
section
inductive Ss (A:Ad) (vs:List V) (H:Hp) (Q:VK) (E':XK):Prop
 | mk (B:Bd) (m:aB) (t:af) (i:Nat) (s:Int) (_:vs=[.ref B.b,.ref t]) (_:dB A H B m) (_:eJ H t ((i:Int),s)) (_:i<m.provinces.length) (_:Q (wV (ag m i).short) H)
theorem xp (T:Tx K mg A):dy P w K mg base hX 1 A.AG A.A0 wO (Ss A):=by
 exists T.BB,MA,"o"
 ·obtain⟨B,m,t,i,s,rfl,_⟩:=h
  rfl
 ·obtain⟨B,m,t,i,s,rfl,l,ht,hi,k⟩:=h
  obtain⟨a,sa,dx,e1,e2,e3,e4⟩:=l.pa hi
  refine⟨_,az (a_ (aJ (bW b8 (aJ (pv 0) rfl) (bW dH (pv 1) aS (fun _ _=>rfl)) (fun _ _=>rfl)) rfl)),?_⟩
  exact⟨_,rfl,B.b,A.aK,B.dx,_,_,rfl,l.ins,T.aV,T.bA,rfl,_,rfl,t,_,0,_,rfl,rfl,iC.of ht,aW (j:=0) rfl,B.pv,_,_,_,rfl,rfl,cP.of l.pv,aW (j:=i) (by rw[aX,e1];rfl),
   a,A.aO,dx,_,_,rfl,e3,T.bg,T.dN,rfl,k⟩
inductive Mq (A:Ad) (vs:List V) (H:Hp) (Q:VK) (E':XK):Prop
 | mk (B:Bd) (m:aB) (t:af) (i s:Nat) (_:vs=[.ref B.b,.ref t]) (_:dB A H B m) (_:WF m) (_:eJ H t ((i:Int),(s:Int))) (_:i<m.provinces.length) (_:s<max 1 (ag m i).shores.length) (_:Q (wV (ji m i s)) H)
theorem rJ (T:Tx K mg A):dy P w K mg base hX 1 A.uJ A.uP rC (Mq A):=by
 exists T.uo,zt,"o"
 ·obtain⟨B,m,t,i,s,rfl,_⟩:=h
  rfl
 ·obtain⟨B,m,t,i,u,rfl,l,wf,ht,hi,hu,k⟩:=h
  obtain⟨a,sa,dx,e1,e2,e3,e4⟩:=l.pa hi
  have nd:=zt.nd
  have sl:ao=16777216:=bI
  obtain⟨f1,f2,f3,f4⟩:=sP wf i
  refine⟨_,aj (cA (i:=2) nd rfl (bC rfl) (bW b8 (aJ (pv 0) rfl) (bW dH (pv 1) aS (fun _ _=>rfl)) (fun _ _=>rfl)))
   (aj (cV (cg eM (bT bF rfl T.eU bf (ab (aJ (pv 2) rfl) aq)) aS (cD _)) (az (a_ (aJ (pv 2) rfl))) bO)
   (az (a_ (jo Ap (jo Ap (aJ (pv 2) rfl) (Wz T.NY)) (bW b8 (aJ (pv 2) rfl) (bW dH (pv 1) aS (fun _ _=>rfl)) (fun _ _=>rfl)))))),?_⟩
  refine⟨_,rfl,B.b,A.aK,B.dx,_,_,rfl,l.ins,T.aV,T.bA,rfl,_,rfl,t,_,0,_,rfl,rfl,iC.of ht,aW (j:=0) rfl,B.pv,_,_,_,rfl,rfl,cP.of l.pv,aW (j:=i) (by rw[aX,e1];rfl),?_⟩
  refine⟨_,rfl,a,A.aO,dx,_,_,rfl,e3,T.bg,T.dh,rfl,sa,_,rfl,.inl (cP.of e4),rfl,_,rfl,?_⟩
  rw[aa]
  rw[show decide (V.int (((ag m i).shores.length:Nat):Int)=V.int 0)=((ag m i).shores.length==0) from len_eq _ 0]
  by_cases c:(ag m i).shores=[]
  ·rw[show ((ag m i).shores.length==0)=true from by rw[c];rfl]
   have e:ji m i u=(ag m i).short:=by unfold ji;simp[c]
   rw[e] at k
   exact b9 ⟨_,rfl,a,A.aO,dx,_,_,rfl,e3,T.bg,T.dN,rfl,k⟩
  ·have c':(ag m i).shores.length≠0:=fun z=>c (mL.mp z)
   rw[show ((ag m i).shores.length==0)=false from beq_eq_false_iff_ne.mpr c']
   have lu:u<(ag m i).shores.length:=by omega
   have gu:(ag m i).shores[u]?=some ((ag m i).shores.getD u []):=by rw[b_,aR lu];rfl
   have es:ak "/"=tx [47]:=by decide +kernel
   refine bY ⟨_,rfl,a,A.aO,dx,_,_,rfl,e3,T.bg,T.dN,rfl,_,_,rfl,rfl,?_,_,rfl,a,A.aO,dx,_,_,rfl,e3,T.bg,T.dh,rfl,_,rfl,t,_,1,_,rfl,rfl,iC.of ht,aW (j:=1) rfl,sa,_,_,_,rfl,rfl,cP.of e4,aW (j:=u) (by rw[aX,gu];rfl),_,_,rfl,rfl,?_,?_⟩
   ·show (tx (ag m i).short).length+(ak "/").length<=_
    rw[es,iN,iN,bS];omega
   ·show (tx (ag m i).short++ak "/").length+(tx ((ag m i).shores.getD u [])).length<=_
    have:=G9 f4 u
    rw[es,Kc,iN,iN,aA,bS];omega
   ·show Q (.str (tx (ag m i).short++ak "/"++tx ((ag m i).shores.getD u []))) H
    rw[es,Kc,Kc]
    have e:ji m i u=(ag m i).short++[47]++(ag m i).shores.getD u []:=by unfold ji;simp[c]
    rw[e] at k
    exact k
inductive Su (A:Ad) (vs:List V) (H:Hp) (Q:VK) (E':XK):Prop
 | mk (p dx sa:af) (pr:cJ) (_:vs=[.ref p]) (_:H p=some (.ins A.aO dx (Il pr sa))) (_:H sa=some (.lst (pr.shores.map wV))) (_:pr.kind<=2) (_:pr.shores.length<=4) (_:OA H Q (([IT pr.kind,pr.name,pr.short]++pr.shores).map wV))
theorem BL (T:Tx K mg A):dy P w K mg base hX 1 A.nv A.nE mj (Su A):=by
 exists T.xh,BE,"o"
 ·obtain⟨p,dx,sa,pr,rfl,_⟩:=h
  rfl
 ·obtain⟨p,dx,sa,pr,rfl,hp,hs,hk,h4,k⟩:=h
  have sl:ao=16777216:=bI
  refine⟨_,az (a_ (jo rH (c9 (ab (bW dH (YB T.BZ) (aJ (pv 0) rfl) (fun _ _=>rfl)) (ab (aJ (pv 0) rfl) (ab (aJ (pv 0) rfl) aq)))) (aJ (pv 0) rfl))),?_⟩
  refine⟨_,rfl,p,A.aO,dx,_,_,rfl,hp,T.bg,T.fL,rfl,A.jt,_,_,_,rfl,rfl,T.kW.sq _,aW (j:=pr.kind) (Vq hk),_,rfl,p,A.aO,dx,_,_,rfl,hp,T.bg,T.fK,rfl,_,rfl,p,A.aO,dx,_,_,rfl,hp,T.bg,T.dN,rfl,by show 3<=ao;decide,fun q hq=>?_⟩
  have s1:bX H (upd H q (.lst [wV (IT pr.kind),wV pr.name,wV pr.short])):=br hq
  refine⟨_,rfl,p,A.aO,dx,_,_,rfl,s1 _ _ hp,T.bg,T.dh,rfl,q,sa,_,_,rfl,rfl,aw,s1 _ _ hs,by rw[aa];show 3+_<=_;omega,fun r hr2=>k _ r (s1.trans (br hr2)) ?_ (s1.free hr2)⟩
  rw[aw,bh]
  rfl
inductive Ii (A:Ad) (vs:List V) (H:Hp) (Q:VK) (E':XK):Prop
 | mk (B:Bd) (m:aB) (p dx sa:af) (pr:cJ) (_:vs=[.ref B.b,.ref p]) (_:dB A H B m) (_:H p=some (.ins A.aO dx (Il pr sa))) (_:∀k,pr.home=some k->k<m.powers.length) (_:OA H Q (([word "centre",pr.short]++(match pr.home with | some k=>[m.powers.getD k []] | none=>[])).map wV))
theorem EG (T:Tx K mg A):dy P w K mg base hX 1 A.qm A.qw oK (Ii A):=by
 exists T.Cb,u6,"o"
 ·obtain⟨B,m,p,dx,sa,pr,rfl,_⟩:=h
  rfl
 ·obtain⟨B,m,p,dx,sa,pr,rfl,l,hp,hh,k⟩:=h
  have nd:=u6.nd
  have sl:ao=16777216:=bI
  refine⟨_,aj (cA (i:=2) nd rfl (bC rfl) (c9 (ab ff (ab (aJ (pv 1) rfl) aq))))
   (aj (cV (cg Gp (aJ (pv 1) rfl) (lZ T.Hf) (cD _)) (az (eI (j8 bG cH cG gC (pv 2) (ab (bW b8 (aJ (pv 0) rfl) (aJ (pv 1) rfl) (fun _ _=>rfl)) aq)))) bO)
   (az (a_ (pv 2)))),?_⟩
  refine⟨_,rfl,p,A.aO,dx,_,_,rfl,hp,T.bg,T.dN,rfl,by show 2<=ao;decide,fun q hq=>?_⟩
  have s1:bX H (upd H q (.lst [V.str (ak "centre"),wV pr.short])):=br hq
  have hqq:upd H q (.lst [V.str (ak "centre"),wV pr.short]) q=some (.lst [V.str (ak "centre"),wV pr.short]):=aw
  generalize upd H q (.lst [V.str (ak "centre"),wV pr.short])=H1 at s1 hqq
  rw[pB] at hqq
  refine⟨_,rfl,p,A.aO,dx,_,_,rfl,s1 _ _ hp,T.bg,T.fM,rfl,?_⟩
  cases eh:pr.home with
  | none=>
   rw[eh] at k
   exact⟨rfl,_,rfl,bY ⟨_,rfl,k H1 q s1 hqq hq⟩⟩
  | some j=>
   rw[eh] at k
   have ne:(!decide (V.int ((j:Nat):Int)=V.int (-1)))=true:=by
    have:decide (V.int ((j:Nat):Int)=V.int (-1))=false:=decide_eq_false fun z=>by injection z with z;omega
    rw[this];rfl
   refine⟨rfl,_,rfl,?_⟩
   show if (!decide (V.int ((j:Nat):Int)=V.int (-1)))=true then _ else _
   rw[ne]
   have hj:=hh j eh
   have gj:m.powers[j]?=some (m.powers.getD j []):=by rw[b_,aR hj];rfl
   have l1:=l.same s1
   have hpv:(Il pr sa).lookup ("home":Str)=some (.int (j:Nat)):=by show some (zE pr.home)=_;rw[eh];rfl
   refine b9 ⟨_,rfl,.inl ⟨rfl,_,cP.of hqq⟩,_,rfl,B.b,A.aK,B.dx,_,_,rfl,l1.ins,T.aV,T.dO,rfl,_,rfl,p,A.aO,dx,_,_,rfl,s1 _ _ hp,T.bg,T.fM,hpv,B.pw,_,_,_,rfl,rfl,cP.of l1.pw,aW (j:=j) (by rw[aX,gj];rfl),q,_,_,rfl,rfl,hqq,by show 2<ao;decide,?_⟩
   refine⟨_,rfl,k _ q ?_ ?_ hq⟩
   ·exact fun b o e=>by rw[aQ (aT e hq)];exact s1 b o e
   ·rw[aw];rfl
def tP (m:aB) (s:iX):List (List Nat):=[word "start",m.powers.getD s.power [],(if s.fleet=true then word "fleet" else word "army"),(if s.fleet=true then ji m s.prov s.shore else (ag m s.prov).short)]
inductive Mn (A:Ad) (vs:List V) (H:Hp) (Q:VK) (E':XK):Prop
 | mk (B:Bd) (m:aB) (u dx t:af) (st:iX) (_:vs=[.ref B.b,.ref u]) (_:dB A H B m) (_:WF m) (_:H u=some (.ins A.gr dx (unF st t))) (_:eJ H t ((st.prov:Int),(st.shore:Int))) (_:st.power<m.powers.length) (_:st.prov<m.provinces.length) (_:st.shore<max 1 (ag m st.prov).shores.length) (_:OA H Q ((tP m st).map wV))
theorem Io (T:Tx K mg A):dy P w K mg base hX 2 A.uH A.uM rA (Mn A):=by
 exists T.FV,zq,"o"
 ·obtain⟨B,m,u,dx,t,st,rfl,_⟩:=h
  rfl
 ·obtain⟨B,m,u,dx,t,st,rfl,l,wf,hu,ht,hp,hi,hs,k⟩:=h
  have nd:=zq.nd
  refine⟨_,aj (cA (i:=2) nd rfl (bC rfl) (bW b8 (aJ (pv 0) rfl) (aJ (pv 1) rfl) (fun _ _=>rfl)))
   (aj (cV (fB (aJ (pv 1) rfl)) (az (a_ (c9 (ab ff (ab (pv 2) (ab ff (ab (bP (rJ T) hr rfl T.uF T.uo.kp T.uR .nil bR (ab (pv 0) (ab (aJ (pv 1) rfl) aq))) aq))))))) bO)
   (az (a_ (c9 (ab ff (ab (pv 2) (ab ff (ab (bP (xp T) hr rfl T.AA T.BB.kp T.Bg .nil bR (ab (pv 0) (ab (aJ (pv 1) rfl) aq))) aq)))))))),?_⟩
  have gj:m.powers[st.power]?=some (m.powers.getD st.power []):=by rw[b_,aR hp];rfl
  refine⟨_,rfl,B.b,A.aK,B.dx,_,_,rfl,l.ins,T.aV,T.dO,rfl,_,rfl,u,A.gr,dx,_,_,rfl,hu,T.js,T.uC,rfl,B.pw,_,_,_,rfl,rfl,cP.of l.pw,aW (j:=st.power) (by rw[aX,gj];rfl),?_⟩
  refine⟨_,rfl,u,A.gr,dx,_,_,rfl,hu,T.js,T.uD,rfl,_,rfl,?_⟩
  cases ef:st.fleet with
  | true=>
   have er:(tP m st).map wV=[V.str (ak "start"),wV (m.powers.getD st.power []),V.str (ak "fleet"),wV (ji m st.prov st.shore)]:=by
    rw[Gz,Nd];unfold tP;rw[ef];rfl
   rw[er] at k
   exact b9 ⟨_,rfl,_,rfl,_,rfl,u,A.gr,dx,_,_,rfl,hu,T.js,T.gT,rfl,B,m,t,st.prov,st.shore,rfl,l,wf,ht,hi,hs,by show 4<=ao;decide,fun q hq=>k _ q (br hq) aw hq⟩
  | false=>
   have er:(tP m st).map wV=[V.str (ak "start"),wV (m.powers.getD st.power []),V.str (ak "army"),wV (ag m st.prov).short]:=by
    rw[Gz,Rn];unfold tP;rw[ef];rfl
   rw[er] at k
   exact bY ⟨_,rfl,_,rfl,_,rfl,u,A.gr,dx,_,_,rfl,hu,T.js,T.gT,rfl,B,m,t,st.prov,_,rfl,l,ht,hi,by show 4<=ao;decide,fun q hq=>k _ q (br hq) aw hq⟩
end
end Pb
namespace Pb
open PySem PySem.Spec PyProof.Rows L2 TL
open Vbsoab (provAt exactly powerOf placeOf named shoreName word placeWord kindWord spaced rowsOf)
abbrev Row:=List (List Nat)
def Rows (H:Hp) (as:List af) (rs:List Row):Prop:=Paired (fun a r=>H a=some (.lst (r.map wV))) as rs
theorem Rows.same {H H':Hp} {as:List af} {rs:List Row} (h:Rows H as rs) (s:bX H H'):Rows H' as rs:=Paired.PF h fun a r q=>s _ _ q
theorem jE {α β:Type} {F:α->β->Prop}:∀{l:List α} {k:List β},Paired F l k->∀{i:Nat} {a:α},l[i]?=some a->∃b,k[i]?=some b/\F a b
 | _,_,.nil,i,a,h=>by cases i <;> cases h
 | _,_,.cons q r,0,a,h=>by cases h;exact⟨_,rfl,q⟩
 | _,_,.cons q r,i+1,a,h=>by simpa using jE r (i:=i) (by simpa using h)
theorem qb {α β:Type} {F G:α->β->Prop}:∀{l:List α} {k:List β},Paired F l k->(∀a b,a∈l->F a b->G a b)->Paired G l k
 | _,_,.nil,_=>.nil
 | _,_,.cons q r,h=>.cons (h _ _ (by simp) q) (qb r fun a b m z=>h a b (aE _ m) z)
theorem Gk {α β:Type} {F:α->β->Prop}:∀{l:List α} {k:List β} {l2:List α} {k2:List β},Paired F l k->Paired F l2 k2->Paired F (l++l2) (k++k2)
 | _,_,_,_,.nil,q=>q
 | _,_,_,_,.cons a r,q=>.cons a (Gk r q)
def rZ (H0:Hp) (G:af) (rs:List Row) (H:Hp):Prop:=∃as,bX H0 H/\H G=some (.lst (as.map V.ref))/\Rows H as rs/\∀a∈as,a≠G/\H0 a=none
theorem Rw {H0:Hp} {D:af} (hD:H0 D=none):rZ H0 D [] (upd H0 D (.lst [])):=⟨[],br hD,aw,.nil,fun a h=>by cases h⟩
theorem rZ.len {H0:Hp} {G:af} {rs:List Row} {H:Hp} {xs:List V} (l:rZ H0 G rs H) (h:H G=some (.lst xs)):xs.length=rs.length:=by
 obtain⟨as,_,h2,h3,_⟩:=l
 rw[h2] at h;cases h
 rw[aa];exact eK h3
theorem rZ.sm {H0:Hp} {G:af} {rs:List Row} {H:Hp} (l:rZ H0 G rs H):bX H0 H:=by obtain⟨as,h,_⟩:=l;exact h
theorem rZ.at_ {H0:Hp} {G:af} {rs:List Row} {H:Hp} (l:rZ H0 G rs H):∃xs,H G=some (.lst xs):=by obtain⟨as,_,h,_⟩:=l;exact⟨_,h⟩
theorem rZ.same {H0:Hp} {G:af} {rs:List Row} {H H':Hp} (l:rZ H0 G rs H) (s:bX H H'):rZ H0 G rs H':=by
 obtain⟨as,h1,h2,h3,h4⟩:=l
 exact⟨as,h1.trans s,s _ _ h2,h3.same s,h4⟩
theorem yK {H0 H:Hp} {G q:af} {rs:List Row} {r:Row} {xs:List V} (hG:H0 G=none) (l:rZ H0 G rs H) (hq:H q=some (.lst (r.map wV))) (nq:q≠G) (fq:H0 q=none) (hx:H G=some (.lst xs)):rZ H0 G (rs++[r]) (upd H G (.lst (xs++[.ref q]))):=by
 obtain⟨as,h1,h2,h3,h4⟩:=l
 rw[h2] at hx;cases hx
 refine⟨as++[q],pj h1 hG,by rw[aw,bh];rfl,sv (qb h3 fun a b m z=>?_) ?_,fun a ha=>?_⟩
 ·rw[aQ (h4 a m).1];exact z
 ·rw[aQ nq];exact hq
 ·rcases bx.mp ha with z | z
  ·exact h4 a z
  ·rw[aY.mp z];exact⟨nq,fq⟩
theorem GQ {H0 H1 H2:Hp} {G D:af} {rs r2:List Row} {xs zs:List V} (hG:H0 G=none) (l:rZ H0 G rs H1) (l2:rZ H1 D r2 H2) (hx:H2 G=some (.lst xs)) (hz:H2 D=some (.lst zs)):rZ H0 G (rs++r2) (upd H2 G (.lst (xs++zs))):=by
 have s0:=l.sm
 obtain⟨ys,hG1⟩:=l.at_
 have l:=l.same l2.sm
 obtain⟨as,h1,h2,h3,h4⟩:=l
 obtain⟨bs,k1,k2,k3,k4⟩:=l2
 rw[h2] at hx;cases hx
 rw[k2] at hz;cases hz
 have fr:∀b∈bs,b≠G/\H0 b=none:=fun b hb=>by
  have z:=(k4 b hb).2
  exact⟨fun e=>(by rw[e,hG1] at z;exact nomatch z),s0.free z⟩
 refine⟨as++bs,pj h1 hG,by rw[aw,bh],Gk (qb h3 fun a b m z=>?_) (qb k3 fun a b m z=>?_),fun a ha=>?_⟩
 ·rw[aQ (h4 a m).1];exact z
 ·rw[aQ (fr a m).1];exact z
 ·rcases bx.mp ha with z | z
  ·exact h4 a z
  ·exact fr a z
theorem PQ {x y:Nat}:vK (nA x) (nA y)<->x<y:=by unfold vK nA;simp only;omega
theorem Vj {x y:Nat}:vK (nF x) (nF y)<->x<y:=by unfold vK nF;simp only;omega
section
variable {A:Ad} {H:Hp} {B:Bd} {m:aB}
def pairsOf (f:Bool) (m:aB):List (Pl×Pl):=(yL f m).map fun x=>(rK f x.1,rK f x.2)
theorem K1 (f:Bool) {x y:Nat}:vK (rK f x) (rK f y)<->x<y:=by cases f;exact PQ;exact Vj
theorem An (wf:WF m) (f:Bool):(pairsOf f m).Pairwise NL:=by
 unfold pairsOf
 rw[jO]
 have hs:(yL f m).Pairwise (fun a b=>Vbsoab.lessPair a b=true):=by cases f;exact wf.ld;exact wf.se
 refine hs.imp fun {a b} h=>?_
 rcases GX.mp h with q | ⟨q1,q2⟩
 ·exact .inl ((K1 f).mpr q)
 ·exact .inr ⟨by show rK f a.1=rK f b.1;rw[q1],(K1 f).mpr q2⟩
theorem dB.nbf (l:dB A H B m) (f:Bool) (p q:Pl):q∈nb (Lf f B).ent p<->∃x y,p=rK f x/\q=rK f y/\bU (yL f m) x y=true:=by
 cases f
 ·exact l.PU p q
 ·exact l.PR p q
theorem dB.pairs (l:dB A H B m) (wf:WF m) (f:Bool) (p q:Pl):(p,q)∈pairsOf f m<->q∈nb (Lf f B).ent p/\vK p q:=by
 unfold pairsOf
 rw[a9,l.nbf]
 constructor
 ·rintro ⟨x,hx,e⟩
  injection e with e1 e2
  refine⟨⟨x.1,x.2,e1.symm,e2.symm,fg.mpr (.inl hx)⟩,?_⟩
  rw[<- e1,<- e2]
  exact (K1 f).mpr (Fv wf f x hx)
 ·rintro ⟨⟨x,y,e1,e2,h⟩,lt⟩
  rw[e1,e2] at lt
  have lt:=(K1 f).mp lt
  rcases fg.mp h with z | z
  ·exact⟨(x,y),z,by rw[e1,e2]⟩
  ·have:=Fv wf f _ z
   simp at this
   omega
theorem K3 (wf:WF m) (f:Bool):(yL f m).length<=300:=by cases f;exact wf.ZC;exact wf.sel
end
theorem DQ:∀r:Row,zD [32] r=spaced r
 | []=>rfl
 | [w]=>rfl
 | w::v::l=>by
  show w++([32]++zD [32] (v::l))=w++(32::spaced (v::l))
  rw[DQ (v::l)]
  rfl
def Fq (p:cJ):Row:=[IT p.kind,p.name,p.short]++p.shores
def K6 (m:aB) (x:Nat×Nat):Row:=[word "join",(ag m x.1).short,(ag m x.2).short]
def Rb (m:aB) (x:Nat×Nat):Row:=[word "sail",ji m (x.1 / 4) (x.1 % 4),ji m (x.2 / 4) (x.2 % 4)]
def JS (m:aB) (p:cJ):Row:=[word "centre",p.short]++(match p.home with | some k=>[m.powers.getD k []] | none=>[])
theorem UP (m:aB):rowsOf m=m.powers.map (fun w=>[word "power",w])++(m.provinces.map Fq++(m.land.map (K6 m)++(m.sea.map (Rb m)++((m.provinces.filter fun p=>p.centre).map (JS m)++m.starts.map (tP m))))):=rfl
theorem Pj {m:aB} {i:Nat} {p:cJ} (h:m.provinces[i]?=some p):ag m i=p:=by
 unfold ag
 rw[b_,h];rfl
theorem Ge {m:aB} {i:Nat} (h:i<m.provinces.length):m.provinces[i]?=some (ag m i):=by
 rw[aR h]
 congr 1
 rw[Pj (aR h)]
section
inductive Xa (A:Ad) (vs:List V) (H:Hp) (Q:VK) (E':XK):Prop
 | mk (B:Bd) (m:aB) (_:vs=[.ref B.b]) (_:dB A H B m) (_:WF m) (_:∀H' D as,bX H H'->H' D=some (.lst (as.map V.ref))->Rows H' as (rowsOf m)->H D=none->Q (.ref D) H')
theorem Gv (T:Tx K mg A):dy P w K mg base hX 3 A.rP A.rV pZ (Xa A):=by
 exists T.Eg,wI,"o"
 ·obtain⟨B,m,rfl,_⟩:=h
  rfl
 ·obtain⟨B,m,rfl,l,wf,k⟩:=h
  have nd:=wI.nd
  have sl:ao=16777216:=bI
  have hE:=F_ wf
  rw[UP] at hE k
  simp only[aA,aa] at hE
  refine⟨_,aj (BJ (i:=1) rfl nd rfl rfl (Fk rfl rfl rfl rfl) (fV (aJ (pv 0) rfl)) (gc (N:=jF) (sc:=aP gF) (own:=[("name",2)]) (by decide +kernel)) (fun _ _ _ _ _=>df (i:=2) nd rfl (bC rfl)) (fun _ _ _ _ _=>mh) (fun _ _ _ _ _=>c9 (ab ff (ab (pv 2) aq))))
   (aj (eI (j8 bG fY fX pC (pv 1) (ab (sR rfl nd (fV (aJ (pv 0) rfl)) (gc (N:=jF) (sc:=aP gF) (own:=[("province",3)]) (by decide +kernel)) (fun _ _ _ _ _=>df (i:=3) nd rfl (bC rfl)) (fun _ _ _ _ _=>mh) (fun _ _ _ _ _=>bP (BL T) (hr.mono (by decide)) rfl T.C9 T.xh.kp T.Dy .nil bR (ab (pv 3) aq))) aq)))
   (aj (lF cS rfl (fV (Gh (aJ (pv 0) rfl) T.eE T.rL (qd T) (hr.mono (by decide)) T.rY .nil bR)) (Ak rfl (gR (df (i:=4) nd rfl (bC rfl)) (gR (df (i:=5) nd rfl (bC rfl)) ur)))
    (az (eI (j8 bG cH cG gC (pv 1) (ab (c9 (ab ff (ab (bP (xp T) (hr.mono (by decide)) rfl T.AA T.BB.kp T.Bg .nil bR (ab (pv 0) (ab (pv 4) aq))) (ab (bP (xp T) (hr.mono (by decide)) rfl T.AA T.BB.kp T.Bg .nil bR (ab (pv 0) (ab (pv 5) aq))) aq)))) aq)))))
   (aj (lF cS rfl (fV (Gh (aJ (pv 0) rfl) T.eE T.rL (qd T) (hr.mono (by decide)) T.rY .nil bR)) (Ak rfl (gR (df (i:=4) nd rfl (bC rfl)) (gR (df (i:=5) nd rfl (bC rfl)) ur)))
    (az (eI (j8 bG cH cG gC (pv 1) (ab (c9 (ab ff (ab (bP (rJ T) (hr.mono (by decide)) rfl T.uF T.uo.kp T.uR .nil bR (ab (pv 0) (ab (pv 4) aq))) (ab (bP (rJ T) (hr.mono (by decide)) rfl T.uF T.uo.kp T.uR .nil bR (ab (pv 0) (ab (pv 5) aq))) aq)))) aq)))))
   (aj (eI (j8 bG fY fX pC (pv 1) (ab (sR (tt:=tB (Mg K (pN 3) "centre")) rfl nd (fV (aJ (pv 0) rfl)) (gc (N:=jF) (sc:=aP gF) (own:=[("province",3)]) (by decide +kernel)) (fun _ _ _ _ _=>df (i:=3) nd rfl (bC rfl)) (fun _ _ _ _ _=>yG (fB (aJ (pv 3) (by rfl)))) (fun _ _ _ _ _=>bP (EG T) (hr.mono (by decide)) rfl T.He T.Cb.kp T.HA .nil bR (ab (pv 0) (ab (pv 3) aq)))) aq)))
   (aj (eI (j8 bG fY fX pC (pv 1) (ab (sR rfl nd (fV (aJ (pv 0) rfl)) (gc (N:=jF) (sc:=aP gF) (own:=[("unit",6)]) (by decide +kernel)) (fun _ _ _ _ _=>df (i:=6) nd rfl (bC rfl)) (fun _ _ _ _ _=>mh) (fun _ _ _ _ _=>bP (Io T) hr rfl T.K' T.FV.kp T.Lx .nil bR (ab (pv 0) (ab (pv 6) aq)))) aq)))
   (az (a_ (pv 1)))))))),?_⟩
  refine⟨_,rfl,B.b,A.aK,B.dx,_,_,rfl,l.ins,T.aV,T.dO,rfl,B.pw,rfl,⟨_,cP.of l.pw⟩,fun G hG=>k_ (K:=K) (a:=B.pw) (xs:=m.powers.map wV) (fun j H'=>rZ H G ((m.powers.take j).map fun w=>[word "power",w]) H') (Rw hG) (fun j H' _ z=>cP.of (z.sm _ _ l.pw)) ?_ ?_⟩
  ·intro j y H' hy z
   obtain⟨x,hx,rfl⟩:=get_map hy
   refine⟨rfl,_,rfl,by show 2<=ao;decide,fun q hq=>?_⟩
   obtain⟨xs,hxs⟩:=z.at_
   have z1:=z.same (br (o:=.lst [V.str (ak "power"),wV x]) hq)
   have nq:q≠G:=fun e=>by rw[e,hxs] at hq;cases hq
   refine⟨xs,by rw[aQ (bK nq)];exact hxs,?_,?_⟩
   ·have:=z.len hxs;rw[this,aa,cx];omega
   ·rw[take_snoc hx,bh]
    exact yK hG z1 (by rw[aw,kN];rfl) nq (z.sm.free hq) (by rw[aQ (bK nq)];exact hxs)
  intro H1 z1
  rw[aa,bM] at z1
  have l1:=l.same z1.sm
  obtain⟨x1,hx1⟩:=z1.at_
  refine⟨_,rfl,.inl ⟨rfl,_,cP.of hx1⟩,_,rfl,B.b,A.aK,B.dx,_,_,rfl,l1.ins,T.aV,T.bA,rfl,B.pv,rfl,⟨_,cP.of l1.pv⟩,fun D hD=>k_ (K:=K) (a:=B.pv) (xs:=B.ps.map V.ref) (fun j H'=>rZ H1 D ((m.provinces.take j).map Fq) H') (Rw hD) (fun j H' _ z=>cP.of (z.sm _ _ l1.pv)) ?_ ?_⟩
  ·intro j y H' hy z
   obtain⟨pa,hpa,rfl⟩:=get_map hy
   have lj:j<m.provinces.length:=by rw[<- l.tF];exact (ax.mp hpa).1
   have l':=l1.same z.sm
   obtain⟨a,sa,dx,e1,e2,e3,e4⟩:=l'.pa lj
   rw[hpa] at e1;cases e1
   have pok:=wf.pv _ (dZ lj)
   refine⟨rfl,_,rfl,pa,dx,sa,ag m j,rfl,e3,e4,pok.kd,pok.four,fun H2 q s2 hq hq0=>?_⟩
   obtain⟨xs,hxs⟩:=z.at_
   have nq:q≠D:=fun e=>by rw[e,hxs] at hq0;cases hq0
   refine⟨xs,s2 _ _ hxs,?_,?_⟩
   ·have:=z.len hxs;rw[this,aa,cx];omega
   ·rw[take_snoc (Ge lj),bh]
    exact yK hD (z.same s2) hq nq (z.sm.free hq0) (s2 _ _ hxs)
  intro H2 z2
  rw[aa,l.tF,bM] at z2
  obtain⟨x2,hx2⟩:=z2.at_
  have g2:=z2.sm _ _ hx1
  refine⟨G,D,_,_,rfl,rfl,g2,hx2,by have:=z1.len hx1;have:=z2.len hx2;simp only[aa] at *;omega,?_⟩
  have z3:=GQ hG z1 z2 g2 hx2
  generalize upd H2 G (.lst (x1++x2))=H3 at z3
  clear z1 z2 g2 hx1 hx2 x1 x2 hD D H1 H2 l1
  have l3:=l.same z3.sm
  obtain⟨x3,hx3⟩:=z3.at_
  refine⟨_,rfl,B.b,A.aK,B.dx,_,_,rfl,l3.ins,T.aV,T.jV,rfl,B.ld,B.L0.dx,_,rfl,l3.l0.ins,rfl,B.ld,B.L0,pairsOf false m,rfl,l3.l0,An wf false,l3.pairs wf false,by unfold pairsOf;rw[aa];have:=K3 wf false;omega,fun H4 D as s4 hD pa hD0=>?_⟩
  have nDG:D≠G:=fun e=>by rw[e,hx3] at hD0;cases hD0
  refine⟨D,rfl,⟨_,cP.of hD⟩,kS (K:=K) (a:=D) (xs:=as.map V.ref) (fun i σ H'=>∃(v2 v3 v4 v5 v6:Option V),σ=[some (.ref B.b),some (.ref G),v2,v3,v4,v5,v6]/\rZ H G (m.powers.map (fun w=>[word "power",w])++m.provinces.map Fq++(m.land.take i).map (K6 m)) H'/\H' D=some (.lst (as.map V.ref))/\nZ H' as (pairsOf false m))
   ⟨_,_,_,_,_,rfl,by simpa using z3.same s4,hD,pa⟩ (fun i σ H' _ ⟨_,_,_,_,_,_,_,z,_⟩=>cP.of z) ?_ ?_⟩
  ·rintro i y σ H' hy ⟨v2,v3,v4,v5,v6,rfl,z,hDi,pai⟩
   obtain⟨a,ha,rfl⟩:=get_map hy
   obtain⟨r,hr1,t1,t2,ht,ht1,ht2⟩:=jE pai ha
   obtain⟨x,hx,er⟩:∃x,m.land[i]?=some x/\r=(nA x.1,nA x.2):=by
    have hr1:(m.land.map fun x=>(nA x.1,nA x.2))[i]?=some r:=hr1
    rw[aX] at hr1
    cases e:m.land[i]? with
    | none=>rw[e] at hr1;cases hr1
    | some x=>rw[e] at hr1;exact⟨x,rfl,(bQ hr1).symm⟩
   subst er
   have ok:=wf.OL x (aN hx)
   have l':=l.same z.sm
   obtain⟨xs,hxs⟩:=z.at_
   refine⟨a,_,rfl,iC.of ht,rfl,_,_,rfl,_,_,rfl,rfl,?_⟩
   refine⟨_,rfl,.inl ⟨rfl,_,cP.of hxs⟩,_,rfl,_,rfl,B,m,t1,x.1,0,rfl,l',ht1,by omega,_,rfl,_,rfl,B,m,t2,x.2,0,rfl,l',ht2,by omega,by show 3<=ao;decide,fun q hq=>?_⟩
   have sq:bX H' (upd H' q (.lst [V.str (ak "join"),wV (ag m x.1).short,wV (ag m x.2).short])):=br hq
   have nq:q≠G:=fun e=>by rw[e,hxs] at hq;cases hq
   refine⟨G,_,_,rfl,rfl,sq _ _ hxs,?_,?_⟩
   ·have:=z.len hxs
    rw[this];simp only[aA,aa,cx];omega
   ·refine⟨_,_,_,_,_,rfl,?_,by rw[aQ nDG];exact sq _ _ hDi,pai.keep fun b xs e=>by rw[aQ (eD (sq _ _ e) (sq _ _ hxs) (fun z=>nomatch z))];exact sq _ _ e⟩
    rw[take_snoc hx,bh,<- cF]
    exact yK hG (z.same sq) (by rw[aw,qT];rfl) nq (z.sm.free hq) (sq _ _ hxs)
  rintro σ H5 ⟨v2,v3,v4,v5,v6,rfl,z5,hD5,pa5⟩
  have la:as.length=m.land.length:=by rw[pa5.len];unfold pairsOf;rw[aa];rfl
  rw[aa,la,bM] at z5
  clear la hD5 z3 hx3 x3 hD pa hD0 nDG pa5 s4 H4 D as H3 l3
  have l3:=l.same z5.sm
  obtain⟨x3,hx3⟩:=z5.at_
  refine⟨_,rfl,B.b,A.aK,B.dx,_,_,rfl,l3.ins,T.aV,T.lT,rfl,B.se,B.L1.dx,_,rfl,l3.l1.ins,rfl,B.se,B.L1,pairsOf true m,rfl,l3.l1,An wf true,l3.pairs wf true,by unfold pairsOf;rw[aa];have:=K3 wf true;omega,fun H4 D as s4 hD pa hD0=>?_⟩
  have nDG:D≠G:=fun e=>by rw[e,hx3] at hD0;cases hD0
  refine⟨D,rfl,⟨_,cP.of hD⟩,kS (K:=K) (a:=D) (xs:=as.map V.ref) (fun i σ H'=>∃(v2 v3 v4 v5 v6:Option V),σ=[some (.ref B.b),some (.ref G),v2,v3,v4,v5,v6]/\rZ H G (m.powers.map (fun w=>[word "power",w])++m.provinces.map Fq++m.land.map (K6 m)++(m.sea.take i).map (Rb m)) H'/\H' D=some (.lst (as.map V.ref))/\nZ H' as (pairsOf true m))
   ⟨_,_,_,_,_,rfl,by simpa using z5.same s4,hD,pa⟩ (fun i σ H' _ ⟨_,_,_,_,_,_,_,z,_⟩=>cP.of z) ?_ ?_⟩
  ·rintro i y σ H' hy ⟨v2,v3,v4,v5,v6,rfl,z,hDi,pai⟩
   obtain⟨a,ha,rfl⟩:=get_map hy
   obtain⟨r,hr1,t1,t2,ht,ht1,ht2⟩:=jE pai ha
   obtain⟨x,hx,er⟩:∃x,m.sea[i]?=some x/\r=(nF x.1,nF x.2):=by
    have hr1:(m.sea.map fun x=>(nF x.1,nF x.2))[i]?=some r:=hr1
    rw[aX] at hr1
    cases e:m.sea[i]? with
    | none=>rw[e] at hr1;cases hr1
    | some x=>rw[e] at hr1;exact⟨x,rfl,(bQ hr1).symm⟩
   subst er
   obtain⟨_,ok1,ok2,_⟩:=wf.Ra x (aN hx)
   have l':=l.same z.sm
   obtain⟨xs,hxs⟩:=z.at_
   refine⟨a,_,rfl,iC.of ht,rfl,_,_,rfl,_,_,rfl,rfl,?_⟩
   refine⟨_,rfl,.inl ⟨rfl,_,cP.of hxs⟩,_,rfl,_,rfl,B,m,t1,x.1 / 4,x.1 % 4,rfl,l',wf,ht1,ok1.1,ok1.2,_,rfl,_,rfl,B,m,t2,x.2 / 4,x.2 % 4,rfl,l',wf,ht2,ok2.1,ok2.2,by show 3<=ao;decide,fun q hq=>?_⟩
   have sq:bX H' (upd H' q (.lst [V.str (ak "sail"),wV (ji m (x.1 / 4) (x.1 % 4)),wV (ji m (x.2 / 4) (x.2 % 4))])):=br hq
   have nq:q≠G:=fun e=>by rw[e,hxs] at hq;cases hq
   refine⟨G,_,_,rfl,rfl,sq _ _ hxs,?_,?_⟩
   ·have:=z.len hxs
    rw[this];simp only[aA,aa,cx];omega
   ·refine⟨_,_,_,_,_,rfl,?_,by rw[aQ nDG];exact sq _ _ hDi,pai.keep fun b xs e=>by rw[aQ (eD (sq _ _ e) (sq _ _ hxs) (fun z=>nomatch z))];exact sq _ _ e⟩
    rw[take_snoc hx,bh,<- cF]
    exact yK hG (z.same sq) (by rw[aw,uA];rfl) nq (z.sm.free hq) (sq _ _ hxs)
  rintro σ H6 ⟨v2,v3,v4,v5,v6,rfl,z6,hD5,pa5⟩
  have la:as.length=m.sea.length:=by rw[pa5.len];unfold pairsOf;rw[aa];rfl
  rw[aa,la,bM] at z6
  clear la hD5 z5 hx3 x3 hD pa hD0 nDG pa5 s4 H4 D as H5 l3
  have l1:=l.same z6.sm
  obtain⟨x1,hx1⟩:=z6.at_
  refine⟨_,rfl,.inl ⟨rfl,_,cP.of hx1⟩,_,rfl,B.b,A.aK,B.dx,_,_,rfl,l1.ins,T.aV,T.bA,rfl,B.pv,rfl,⟨_,cP.of l1.pv⟩,fun D hD=>k_ (K:=K) (a:=B.pv) (xs:=B.ps.map V.ref) (fun j H'=>rZ H6 D (((m.provinces.take j).filter fun p=>p.centre).map (JS m)) H') (Rw hD) (fun j H' _ z=>cP.of (z.sm _ _ l1.pv)) ?_ ?_⟩
  ·intro j y H' hy z
   obtain⟨pa,hpa,rfl⟩:=get_map hy
   have lj:j<m.provinces.length:=by rw[<- l.tF];exact (ax.mp hpa).1
   have l':=l1.same z.sm
   obtain⟨a,sa,dx,e1,e2,e3,e4⟩:=l'.pa lj
   rw[hpa] at e1;cases e1
   have pok:=wf.pv _ (dZ lj)
   refine⟨rfl,_,rfl,pa,A.aO,dx,_,_,rfl,e3,T.bg,T.dP,rfl,_,rfl,?_⟩
   have tk:(m.provinces.take (j+1)).filter (fun p=>p.centre)=(m.provinces.take j).filter (fun p=>p.centre)++[ag m j].filter (fun p=>p.centre):=by rw[take_snoc (Ge lj),eP]
   cases ec:(ag m j).centre with
   | false=>
    refine bY ?_
    rw[tk,show [ag m j].filter (fun p=>p.centre)=[] by simp[ec],dw]
    exact z
   | true=>
    refine b9 ⟨_,rfl,_,rfl,B,m,pa,dx,sa,ag m j,rfl,l',e3,pok.hm,fun H2 q s2 hq hq0=>?_⟩
    obtain⟨xs,hxs⟩:=z.at_
    have nq:q≠D:=fun e=>by rw[e,hxs] at hq0;cases hq0
    refine⟨xs,s2 _ _ hxs,?_,?_⟩
    ·have:=z.len hxs
     have h1:=cY (fun p:cJ=>p.centre) (m.provinces.take j)
     rw[cx] at h1
     rw[this,aa];omega
    ·rw[tk,show [ag m j].filter (fun p=>p.centre)=[ag m j] by simp[ec],bh]
     exact yK hD (z.same s2) hq nq (z.sm.free hq0) (s2 _ _ hxs)
  intro H7 z7
  rw[aa,l.tF,bM] at z7
  obtain⟨x2,hx2⟩:=z7.at_
  have g2:=z7.sm _ _ hx1
  refine⟨G,D,_,_,rfl,rfl,g2,hx2,by have:=z6.len hx1;have:=z7.len hx2;simp only[aa,aA] at *;omega,?_⟩
  have z8:=GQ hG z6 z7 g2 hx2
  generalize upd H7 G (.lst (x1++x2))=H8 at z8
  clear z6 z7 g2 hx1 hx2 x1 x2 hD D H6 H7 l1
  have l1:=l.same z8.sm
  obtain⟨x1,hx1⟩:=z8.at_
  refine⟨_,rfl,.inl ⟨rfl,_,cP.of hx1⟩,_,rfl,B.b,A.aK,B.dx,_,_,rfl,l1.ins,T.aV,T.fF,rfl,B.un,rfl,⟨_,cP.of l1.un⟩,fun D hD=>k_ (K:=K) (a:=B.un) (xs:=B.us.map V.ref) (fun j H'=>rZ H8 D ((m.starts.take j).map (tP m)) H') (Rw hD) (fun j H' _ z=>cP.of (z.sm _ _ l1.un)) ?_ ?_⟩
  ·intro j y H' hy z
   obtain⟨ua,hua,rfl⟩:=get_map hy
   have lj:j<m.starts.length:=by rw[<- l.FU];exact (ax.mp hua).1
   have hst:m.starts[j]?=some m.starts[j]:=aR lj
   have l':=l1.same z.sm
   obtain⟨dx,t,e3,e4⟩:=l'.unit j ua _ hua hst
   obtain⟨w1,w2,w3⟩:=wf.st _ (aN hst)
   refine⟨rfl,_,rfl,_,rfl,B,m,ua,dx,t,m.starts[j],rfl,l',wf,e3,e4,w1,w2,w3,fun H2 q s2 hq hq0=>?_⟩
   obtain⟨xs,hxs⟩:=z.at_
   have nq:q≠D:=fun e=>by rw[e,hxs] at hq0;cases hq0
   refine⟨xs,s2 _ _ hxs,?_,?_⟩
   ·have:=z.len hxs;rw[this,aa,cx];omega
   ·rw[take_snoc hst,bh]
    exact yK hD (z.same s2) hq nq (z.sm.free hq0) (s2 _ _ hxs)
  intro H9 z9
  rw[aa,l.FU,bM] at z9
  obtain⟨x2,hx2⟩:=z9.at_
  have g2:=z9.sm _ _ hx1
  refine⟨G,D,_,_,rfl,rfl,g2,hx2,by have:=z8.len hx1;have:=z9.len hx2;simp only[aa,aA] at *;omega,?_⟩
  have zz:=GQ hG z8 z9 g2 hx2
  obtain⟨as,y1,y2,y3,_⟩:=zz
  refine⟨_,rfl,k _ G as y1 y2 ?_ hG⟩
  simpa only[cF] using y3
end
end Pb
namespace Pb
open PySem PySem.Spec PyProof.Rows L2 TL
open Vbsoab (provAt exactly powerOf placeOf named shoreName word placeWord kindWord spaced rowsOf)
theorem YC:ak " "=tx [32]:=by decide +kernel
theorem YD:ak "\n"=tx [10]:=by decide +kernel
theorem Pu:ak ""=tx []:=by decide +kernel
theorem Uu (l:List (List Nat)):((l.map tx).map (·.length)).sum=l.flatten.length:=by
 induction l with
 | nil=>rfl
 | cons a l ih=>rw[a7,a7,aao,ih,iN,Eu,aA]
theorem RQ:∀{r:Row} {n:Nat},(∀x∈r,x.length<=n)->r.flatten.length<=n*r.length
 | [],n,_=>by simp
 | a::r,n,h=>by
  have h1:=h a (by simp)
  have h2:=RQ (r:=r) fun x hx=>h x (aE _ hx)
  rw[Eu,aA,aG,Nat.mul_succ]
  omega
def aaY:R2:=fun x y H Q=>∃i j,x=.str i/\y=.str j/\i.length+j.length<=ao/\Q (.str (i++j)) H
def rJoin (K:ae):V->List V->Hp->VK->Prop:=fun x xs H Q=>∃a p,∃ys:List Str,x=.str a/\xs=[.ref p]/\(cP K H p (ys.map V.str)\/iC K H p (ys.map V.str))/\(ys.map (·.length)).sum+ys.length*a.length<=16777216/\Q (.str (vM a ys)) H
section
inductive Sx (A:Ad) (vs:List V) (H:Hp) (Q:VK) (E':XK):Prop
 | mk (B:Bd) (m:aB) (_:vs=[.ref B.b]) (_:dB A H B m) (_:WF m) (_:∀H',bX H H'->Q (wV (pF m)) H')
theorem Pq (T:Tx K mg A):dy P w K mg base hX 4 A.Dg A.Dr Aa (Sx A):=by
 exists T.printed,F7,"o"
 ·obtain⟨B,m,rfl,_⟩:=h
  rfl
 ·obtain⟨B,m,rfl,l,wf,k⟩:=h
  have nd:=F7.nd
  have sl:ao=16777216:=bI
  have hE:=F_ wf
  refine⟨_,az (a_ (Kz ff (sR (te:=TU aaY (WX (rJoin K) (tC (.str (ak " "))) (pN 1)) (tC (.str (ak "\n")))) rfl nd (fV (bP (Gv T) hr rfl T.ID T.Eg.kp T.IJ .nil bR (ab (pv 0) aq))) (gc (N:=GC) (sc:=aP tV) (own:=[("words",1)]) (by decide +kernel)) (fun _ _ _ _ _=>df (i:=1) nd rfl (bC rfl)) (fun _ _ _ _ _=>mh)
   (fun _ _ _ _ _=>jo Ap (Kz ff (pv 1)) ff)))),?_⟩
  refine⟨⟨_,rfl⟩,_,rfl,B,m,rfl,l,wf,fun H1 L as s1 hL rows hL0=>⟨L,rfl,⟨_,cP.of hL⟩,fun D hD=>k_ (K:=K) (a:=L) (xs:=as.map V.ref) (fun j H'=>J1 H1 D (((rowsOf m).take j).map fun r=>wV (spaced r++[10])) H') (C2 hD) (fun j H' _ z=>cP.of (z.1 _ _ hL)) ?_ ?_⟩⟩
  ·intro j y H' hy z
   obtain⟨a,ha,rfl⟩:=get_map hy
   obtain⟨r,hr1,hra⟩:=jE (rows.same z.1) ha
   have fit:=MM wf r (aN hr1)
   have lt:=(ax.mp hr1).1
   have jn:vM (ak " ") (r.map tx)=tx (spaced r):=by rw[YC,joined r [32],DQ]
   have fl:=RQ fit.2
   have fr:=fit.1
   refine⟨rfl,⟨_,rfl⟩,_,rfl,_,a,r.map tx,rfl,rfl,.inl (cP.of (by rw[cz];exact hra)),?_,_,_,rfl,rfl,?_,?_⟩
   ·rw[Uu,aa,YC,iN,bS]
    omega
   ·have:=zX fit.2
    rw[jn,YD,iN,iN,bS]
    omega
   ·show ∃acc,_
    rw[jn,YD,Kc]
    refine qh z hD (iJ _ hr1 (by omega)) (map_take (fun r=>wV (spaced r++[10])) hr1)
  ·intro H' z
   have la:as.length=(rowsOf m).length:=eK rows
   rw[aa,la,bM] at z
   have fl:((rowsOf m).map fun r=>spaced r++[10]).flatten=pF m:=by unfold pF;rw[List.flatMap_def]
   have pl:=Jy wf
   have jn:vM (ak "") (((rowsOf m).map fun r=>spaced r++[10]).map tx)=tx (pF m):=by rw[Pu,joined _ [],C6,fl]
   refine⟨_,_,((rowsOf m).map fun r=>spaced r++[10]).map tx,rfl,rfl,.inl (cP.of (by rw[cz,cz];exact z.2)),?_,?_⟩
   ·rw[Uu,fl,Pu,iN]
    show _+_*0<=_
    omega
   ·rw[jn]
    exact k H' (s1.trans z.1)
end
end Pb
namespace Pb
open PySem PySem.Spec PyProof.Rows L2 TL
open Vbsoab (provAt exactly powerOf placeOf within isProv isPlace)
def D' (B:Bd) (h:Int):af:=if h=0 then B.ld else if h=1 then B.se else B.ei
section
theorem G3 (a b:Int):decide (V.int a=V.int b)=decide (a=b):=by
 rw[bq,decide_eq_true_eq,decide_eq_true_eq]
 exact⟨fun q=>by injection q,fun q=>by rw[q]⟩
inductive O_ (A:Ad) (vs:List V) (H:Hp) (Q:VK) (E':XK):Prop
 | mk (B:Bd) (m:aB) (h:Int) (_:vs=[.ref B.b,.int h]) (_:dB A H B m) (_:Q (.ref (D' B h)) H)
theorem uu (T:Tx K mg A):dy P w K mg base hX 1 A.xT A.yc ub (O_ A):=by
 exists T.yM,Kk,"o"
 ·obtain⟨B,m,h,rfl,_⟩:=h
  rfl
 ·obtain⟨B,m,h,rfl,l,k⟩:=h
  refine⟨_,aj (cV (cg eM (pv 1) (lZ T.N0) (cD _)) (az (a_ (aJ (pv 0) rfl))) bO)
   (aj (cV (cg eM (pv 1) (lZ T.Hi) (cD _)) (az (a_ (aJ (pv 0) rfl))) bO)
   (az (a_ (aJ (pv 0) rfl)))),?_⟩
  unfold D' at k
  refine⟨_,rfl,rfl,_,rfl,?_⟩
  rw[G3]
  by_cases c0:h=0
  ·rw[if_pos c0] at k
   rw[decide_eq_true c0]
   exact b9 ⟨_,rfl,B.b,A.aK,B.dx,_,_,rfl,l.ins,T.aV,T.jV,rfl,k⟩
  ·rw[if_neg c0] at k
   rw[decide_eq_false c0]
   refine bY ⟨_,rfl,rfl,_,rfl,?_⟩
   rw[G3]
   by_cases c1:h=1
   ·rw[if_pos c1] at k
    rw[decide_eq_true c1]
    exact b9 ⟨_,rfl,B.b,A.aK,B.dx,_,_,rfl,l.ins,T.aV,T.lT,rfl,k⟩
   ·rw[if_neg c1] at k
    rw[decide_eq_false c1]
    exact bY ⟨_,rfl,B.b,A.aK,B.dx,_,_,rfl,l.ins,T.aV,T.mz,rfl,k⟩
inductive W6 (A:Ad) (vs:List V) (H:Hp) (Q:VK) (E':XK):Prop
 | mk (B:Bd) (m:aB) (h n s:Int) (_:vs=[.ref B.b,.int h,.int n,.int s]) (_:dB A H B m) (_:Q (.bl (within h 0 2&&gM m h n s)) H)
theorem D2 (T:Tx K mg A):dy P w K mg base hX 1 A.AM A.A6 wY (W6 A):=by
 exists T.G0,ME,"o"
 ·obtain⟨B,m,h,n,s,rfl,_⟩:=h
  rfl
 ·obtain⟨B,m,h,n,u,rfl,l,k⟩:=h
  refine⟨_,aj (cV (PW.pt (kK (cg DZ (pv 1) (lZ T.N0) (cD _)) (kK (cg Rl (pv 1) (lZ T.Qe) (cD _)) (kK (cg DZ (pv 2) aS (cD _)) (lD (cg aa1 (pv 2) (bT bF rfl T.eU bf (ab (aJ (pv 0) rfl) aq)) (cD _))))))) (az (a_ vc)) bO)
   (aj (cV (cg Gp (pv 1) (lZ T.Hi) (cD _)) (az (a_ (h_ eM (pv 3) aS (cD _)))) bO)
   (az (a_ (Gj D0 DZ aS (pv 3) (bT (Tg rfl) rfl T.aa7 (by decide +kernel) (ab aS (ab (bT bF rfl T.eU bf (ab (aJ (bW b8 (aJ (pv 0) rfl) (pv 2) (fun _ _=>rfl)) rfl) aq)) aq))))))),?_⟩
  have no:¬ (0<=h/\h<=2/\0<=n/\n<m.provinces.length)->Q (.bl false) H:=fun c=>by
   have e:(within h 0 2&&gM m h n u)=false:=by
    unfold gM kx within
    rw[Ey]
    intro z
    simp only[bL,decide_eq_true_eq] at z
    exact c ⟨z.1.1,z.1.2,z.2.1.1,by have:=z.2.1.2;omega⟩
   rw[e] at k;exact k
  refine⟨_,rfl,_,_,rfl,rfl,_,rfl,?_⟩
  by_cases c1:h<0
  ·rw[decide_eq_true c1];exact b9 (b9 (no fun z=>by omega))
  ·rw[decide_eq_false c1]
   refine bY ⟨_,rfl,_,_,rfl,rfl,_,rfl,?_⟩
   by_cases c2:2<h
   ·rw[decide_eq_true c2];exact b9 (b9 (no fun z=>by omega))
   ·rw[decide_eq_false c2]
    refine bY ⟨_,rfl,_,_,rfl,rfl,_,rfl,?_⟩
    by_cases c3:n<0
    ·rw[decide_eq_true c3];exact b9 (b9 (no fun z=>by omega))
    ·rw[decide_eq_false c3]
     refine bY ⟨_,rfl,_,rfl,B.b,A.aK,B.dx,_,_,rfl,l.ins,T.aV,T.bA,rfl,B.pv,_,rfl,.inl (cP.of l.pv),_,_,rfl,rfl,_,rfl,?_⟩
     rw[aa,l.tF]
     by_cases c4:(m.provinces.length:Int)<=n
     ·rw[decide_eq_true c4];exact b9 (no fun z=>by omega)
     ·rw[decide_eq_false c4]
      have hw:within h 0 2=true:=by unfold within;simp;omega
      have hp:kx m n=true:=by unfold kx within;simp;omega
      have e:(within h 0 2&&gM m h n u)=(if h=1 then within u 0 ((max 1 (ag m n.toNat).shores.length:Nat)-1) else u==0):=by
       unfold gM;rw[hw,hp];simp
      rw[e] at k
      refine bY ⟨_,rfl,rfl,_,rfl,?_⟩
      rw[G3]
      by_cases c5:h=1
      ·rw[if_pos c5] at k
       rw[decide_eq_true c5]
       obtain⟨j,rfl⟩:∃j:Nat,n=j:=⟨n.toNat,by omega⟩
       have hj:j<m.provinces.length:=by omega
       obtain⟨a,sa,dx,e1,e2,e3,e4⟩:=l.pa hj
       rw[cZ] at k
       refine bY ⟨_,rfl,_,_,rfl,rfl,_,rfl,?_⟩
       unfold within at k
       by_cases c6:(0:Int)<=u
       ·rw[decide_eq_true c6]
        refine b9 ⟨_,rfl,B.b,A.aK,B.dx,_,_,rfl,l.ins,T.aV,T.bA,rfl,_,rfl,B.pv,_,_,_,rfl,rfl,cP.of l.pv,aW (j:=j) (by rw[aX,e1];rfl),a,A.aO,dx,_,_,rfl,e3,T.bg,T.dh,rfl,sa,_,rfl,.inl (cP.of e4),_,_,rfl,_,_,rfl,rfl,?_⟩
        rw[aa]
        have q:decide (u<if (((ag m j).shores.length:Nat):Int) > 1 then (((ag m j).shores.length:Nat):Int) else 1)=(decide ((0:Int)<=u)&&decide (u<=((max 1 (ag m j).shores.length:Nat):Int)-1)):=by
         rw[decide_eq_true c6,il,bq,decide_eq_true_eq,decide_eq_true_eq]
         split <;> omega
        show Q (.bl (decide (u<if (((ag m j).shores.length:Nat):Int) > 1 then (((ag m j).shores.length:Nat):Int) else 1))) H
        rw[q]
        exact k
       ·rw[decide_eq_false c6]
        rw[decide_eq_false c6] at k
        exact bY k
      ·rw[if_neg c5] at k
       rw[decide_eq_false c5]
       refine b9 ⟨_,rfl,rfl,?_⟩
       rw[G3]
       have q:decide (u=0)=(u==0):=by rw[bq];simp
       rw[q]
       exact k
end
end Pb
namespace Pb
open PySem PySem.Spec PyProof.Rows L2 TL
structure Gr (A:Ad) (H:Hp) (a:af) (L:Lk) (near:Nat->List Nat) (nd:Nat->Pl) (U:List Nat):Prop where
 lk:gD A H a L
 mono:∀x y,vK (nd x) (nd y)<->x<y
 inj:∀x y,nd x=nd y->x=y
 nbs:∀x q,q∈nb L.ent (nd x)<->∃y,y∈near x/\q=nd y
 rise:∀x,(near x).Pairwise (· < ·)
 Hq:∀a∈U,∀y∈near a,y∈U
 hE:U.length<=160
theorem Gr.same {A:Ad} {H H':Hp} {a:af} {L:Lk} {near:Nat->List Nat} {nd:Nat->Pl} {U:List Nat} (g:Gr A H a L near nd U) (s:bX H H'):Gr A H' a L near nd U:=⟨g.lk.same s,g.mono,g.inj,g.nbs,g.rise,g.Hq,g.hE⟩
theorem Gr.list {A:Ad} {H:Hp} {a:af} {L:Lk} {near:Nat->List Nat} {nd:Nat->Pl} {U:List Nat} (g:Gr A H a L near nd U) {x:Nat} {M:List (af×Pl)} (h1:(M.map (·.2)).Perm (nb L.ent (nd x))) (h2:(M.map (·.2)).Pairwise TX):M.map (·.2)=(near x).map nd:=by
 refine kJ K2 PN (Kr h2 h1 (xA g.lk _)) ?_ fun q=>?_
 ·rw[jO]
  exact (g.rise x).imp fun h=>(g.mono _ _).mpr h
 ·rw[h1.mem_iff,g.nbs,a9]
  constructor
  ·rintro ⟨y,hy,e⟩;exact⟨y,hy,e.symm⟩
  ·rintro ⟨y,hy,e⟩;exact⟨y,hy,e.symm⟩
abbrev dq (nd:Nat->Pl) (q:List (Nat×Nat)):List (List Key×V):=q.map fun p=>(kk (nd p.1),V.int (p.2:Nat))
theorem OZ {nd:Nat->Pl} (inj:∀x y,nd x=nd y->x=y) (y:Nat):∀q:List (Nat×Nat),dW (dq nd q) (kk (nd y))=(q.find? fun p=>decide (p.1=y)).map fun p=>V.int (p.2:Nat)
 | []=>rfl
 | p::r=>by
  by_cases h:p.1=y
  ·rw[show dq nd (p::r)=(kk (nd p.1),V.int (p.2:Nat))::dq nd r from rfl,gx (by rw[h]),eR,show decide (p.1=y)=true from decide_eq_true h]
   rfl
  ·rw[show dq nd (p::r)=(kk (nd p.1),V.int (p.2:Nat))::dq nd r from rfl,f_ (fun z=>h (inj _ _ (PZ z))),OZ inj y r,eR,show decide (p.1=y)=false from decide_eq_false h]
theorem B9 {nd:Nat->Pl} (inj:∀x y,nd x=nd y->x=y) {y:Nat} {q:List (Nat×Nat)}:dW (dq nd q) (kk (nd y))=none<->y∉q.map (·.1):=by
 rw[OZ inj,Option.map_eq_none_iff,Cw]
 constructor
 ·intro h z
  obtain⟨p,hp,e⟩:=a9.mp z
  exact h p hp (decide_eq_true e)
 ·intro h p hp z
  exact h (a9.mpr ⟨p,hp,of_decide_eq_true z⟩)
theorem Lr {nd:Nat->Pl} (inj:∀x y,nd x=nd y->x=y) {q:List (Nat×Nat)} (hn:(q.map (·.1)).Nodup) {p:Nat×Nat} (hp:p∈q):dW (dq nd q) (kk (nd p.1))=some (V.int (p.2:Nat)):=by
 rw[OZ inj]
 have:(q.find? fun r=>decide (r.1=p.1))=some p:=by
  induction q with
  | nil=>cases hp
  | cons r q ih=>
   rw[eR]
   obtain⟨h1,h2⟩:=c7.mp hn
   rcases aF.mp hp with e | e
   ·rw[<- e];simp
   ·have ne:¬ r.1=p.1:=fun z=>h1 (a9.mpr ⟨p,e,z.symm⟩)
    rw[decide_eq_false ne]
    exact ih h2 e
 rw[this]
 rfl
theorem X9 (nd:Nat->Pl) (q:List (Nat×Nat)) (y d:Nat):dq nd (q++[(y,d)])=dq nd q++[(kk (nd y),V.int (d:Nat))]:=by unfold dq;rw[bh];rfl
def Wf (H:Hp) (nd:Nat->Pl) (ts:List af) (q:List (Nat×Nat)):Prop:=Paired (fun t p=>eJ H t (nd p.1)) ts q
theorem Wf.keep {H H':Hp} {nd:Nat->Pl} {ts:List af} {q:List (Nat×Nat)} (h:Wf H nd ts q) (k:∀b xs,H b=some (.tup xs)->H' b=some (.tup xs)):Wf H' nd ts q:=Paired.PF h fun a p z=>k _ _ z
def ac5 (σ:L2.St):Nat:=match σ[4]? with
 | some (some (V.int i))=>200-i.toNat
 | _=>0
section
inductive Ze (A:Ad) (vs:List V) (H:Hp) (Q:VK) (E':XK):Prop
 | mk (a t:af) (L:Lk) (near:Nat->List Nat) (nd:Nat->Pl) (U:List Nat) (x:Nat) (_:vs=[.ref a,.ref t]) (_:Gr A H a L near nd U) (_:eJ H t (nd x)) (_:x∈U) (_:∀H' D q,bX H H'->R5 near x q q.length->(∀y∈q.map (·.1),y∈U)->H' D=some (.dT (dq nd q))->H D=none->Q (.ref D) H')
theorem uv (T:Tx K mg A):dy P w K mg base hX 2 A.xU A.yd ud (Ze A):=by
 exists T.yP,BF,"o"
 ·obtain⟨a,t,L,near,nd,U,x,rfl,_⟩:=h
  rfl
 ·obtain⟨a,t,L,near,nd',U,x,rfl,g,ht,hx,k⟩:=h
  have hu:=qi hr
  have nd:=BF.nd
  have sl:ao=16777216:=bI
  refine⟨_,aj (cA (i:=2) nd rfl (bC rfl) (SK hu (pv 1) aS))
   (aj (cA (i:=3) nd rfl (bC rfl) (c9 (ab (pv 1) aq)))
   (aj (cA (i:=4) nd rfl (bC rfl) aS)
   (aj (Gd cS (cg DZ (pv 4) (bT bF rfl T.eU bf (ab (pv 3) aq)) (cD _))
    (aj (cA (i:=5) nd rfl (bC rfl) (bW b8 (pv 3) (pv 4) (fun _ _=>rfl)))
    (aj (lF cS rfl (fV (dY (pv 0) T.eE T.mB (k9 T) hr T.mH .nil bR (ab (pv 5) aq))) (df (i:=6) nd rfl (bC rfl))
     (az (cV (ip (yH hu (pv 6) (pv 2)) (by with_unfolding_all rfl))
      (aj (uc hu (pv 2) (pv 6) (jo xo (qR hu (pv 2) (pv 5) (fun _ _=>rfl)) aS) rfl)
      (az (eI (j8 bG cH cG gC (pv 3) (ab (pv 6) aq))))) bO)))
    (az (Zp (i:=4) nd rfl (bC rfl) aS ZJ)))))
   (az (a_ (pv 2)))))),?_⟩
  intro F hF
  have htF:upd H F (.dT []) t=some (.tup ((kk (nd' x)).map kV)):=by rw[aQ (aT ht hF)];exact ht
  refine⟨_,rfl,aw,t,kk (nd' x),rfl,htF,?_⟩
  rw[tO]
  have s1:bX H (upd H F (.dT [(kk (nd' x),V.int 0)])):=br hF
  have f1:upd H F (.dT [(kk (nd' x),V.int 0)]) F=some (.dT (dq nd' [(x,0)])):=aw
  generalize upd H F (.dT [(kk (nd' x),V.int 0)])=H1 at s1 f1
  refine⟨_,rfl,by show 1<=ao;decide,fun R hR=>?_⟩
  have s2:bX H1 (upd H1 R (.lst [.ref t])):=br hR
  have r2:upd H1 R (.lst [.ref t]) R=some (.lst ([t].map V.ref)):=aw
  have hR0:H R=none:=s1.free hR
  generalize upd H1 R (.lst [.ref t])=H2 at s2 r2
  have s12:=s1.trans s2
  refine Ub (fun σ H'=>∃(v5 v6:Option V) (q:List (Nat×Nat)) (i:Nat) (ts:List af),σ=[some (.ref a),some (.ref t),some (.ref F),some (.ref R),some (.int (i:Nat)),v5,v6]/\bX H H'/\H' F=some (.dT (dq nd' q))/\H' R=some (.lst (ts.map V.ref))/\Wf H' nd' ts q/\R5 near x q i/\∀y∈q.map (·.1),y∈U)
   (fun σ _=>ac5 σ) ⟨none,none,[(x,0)],0,[t],rfl,s12,s2 _ _ f1,r2,.cons (s12 _ _ ht) .nil,R5.start,fun y hy=>by rw[aY.mp hy];exact hx⟩ ?_ ?_
  ·rintro σ H' ⟨v5,v6,q,i,ts,rfl,sH,hf,hr',tsa,B,inU⟩
   have lts:ts.length=q.length:=eK tsa
   have qU:q.length<=U.length:=by have:=my B.nd inU;rw[aa] at this;exact this
   have fewU:=g.hE
   refine⟨_,rfl,_,rfl,R,_,rfl,.inl (cP.of hr'),_,_,rfl,rfl,_,rfl,?_⟩
   rw[aa,lts]
   by_cases c:i<q.length
   ·rw[show decide (((i:Nat):Int)<((q.length:Nat):Int))=true from decide_eq_true (by omega)]
    obtain⟨ta,hta⟩:∃ta,ts[i]?=some ta:=⟨_,aR (by omega)⟩
    obtain⟨pa,hpa,htp⟩:=jE tsa hta
    refine b9 ⟨_,rfl,_,rfl,R,_,_,_,rfl,rfl,cP.of hr',aW (j:=i) (by rw[aX,hta];rfl),?_⟩
    have g':=g.same sH
    refine⟨_,rfl,a,L.dx,_,rfl,g'.lk.ins,rfl,_,rfl,a,ta,L,nd' pa.1,rfl,g'.lk,htp,fun H3 D M s3 m1 m2 m3 hD hD0=>?_⟩
    have ml:=g'.list m1 m2
    have nDF:D≠F:=fun e=>by rw[e,hf] at hD0;cases hD0
    have nDR:D≠R:=fun e=>by rw[e,hr'] at hD0;cases hD0
    have paU:pa.1∈U:=inU _ (a9.mpr ⟨pa,aN hpa,rfl⟩)
    refine⟨D,rfl,⟨_,cP.of hD⟩,kS (K:=K) (a:=D) (xs:=M.map fun z=>V.ref z.1) (fun j σ H'=>∃(v6:Option V) (q:List (Nat×Nat)) (ts:List af),σ=[some (.ref a),some (.ref t),some (.ref F),some (.ref R),some (.int (i:Nat)),some (.ref ta),v6]/\bX H H'/\H' D=some (.lst (M.map fun z=>V.ref z.1))/\H' F=some (.dT (dq nd' q))/\H' R=some (.lst (ts.map V.ref))/\Wf H' nd' ts q /\
      vo near x q i pa ((near pa.1).take j)/\(∀y∈q.map (·.1),y∈U)/\(∀z∈M,eJ H' z.1 z.2)/\eJ H' ta (nd' pa.1))
     ⟨v6,q,ts,rfl,sH.trans s3,hD,s3 _ _ hf,s3 _ _ hr',tsa.keep fun b xs e=>s3 _ _ e,by rw[zN];exact B.go hpa,inU,m3,s3 _ _ htp⟩ (fun j σ H' _ ⟨_,_,_,_,_,z,_⟩=>cP.of z) ?_ ?_⟩
    ·rintro j y σ H4 hy ⟨v6',q',ts',rfl,s4,hD4,hf4,hr4,tsa4,B4,inU4,m4,ht4⟩
     obtain⟨z,hz,rfl⟩:=get_map hy
     obtain⟨yn,hyn,ez⟩:∃yn,(near pa.1)[j]?=some yn/\z.2=nd' yn:=by
      have h1:(M.map (·.2))[j]?=some z.2:=by rw[aX,hz];rfl
      rw[ml,aX] at h1
      cases e:(near pa.1)[j]? with
      | none=>rw[e] at h1;cases h1
      | some yn=>rw[e] at h1;exact⟨yn,rfl,(bQ h1).symm⟩
     have tz:eJ H4 z.1 (nd' yn):=by rw[<- ez];exact m4 z (aN hz)
     have ymem:yn∈near pa.1:=aN hyn
     have lts4:ts'.length=q'.length:=eK tsa4
     have qU4:q'.length<=U.length:=by have:=my B4.nd inU4;rw[aa] at this;exact this
     have dg:gK H4 F (.ref z.1) (dW (dq nd' q') (kk (nd' yn))):=gK.t (k:=kk (nd' yn)) hf4 tz
     have tk:(near pa.1).take (j+1)=(near pa.1).take j++[yn]:=take_snoc hyn
     refine⟨_,rfl,_,rfl,F,_,rfl,dg,_,rfl,?_⟩
     by_cases c2:yn∈q'.map (·.1)
     ·have sm:(dW (dq nd' q') (kk (nd' yn))).isSome=true:=by
       cases e:dW (dq nd' q') (kk (nd' yn)) with
       | none=>exact absurd c2 ((B9 g.inj).mp e)
       | some v=>rfl
      rw[sm]
      refine bY ⟨_,q',ts',rfl,s4,hD4,hf4,hr4,tsa4,?_,inU4,m4,ht4⟩
      rw[tk];exact B4.old c2
     ·have nn:=(B9 g.inj).mpr c2
      rw[nn]
      have pm:pa∈q':=aN B4.now
      have dgp:gK H4 F (.ref ta) (some (V.int (pa.2:Nat))):=by
       have:=gK.t (k:=kk (nd' pa.1)) hf4 ht4
       rw[Lr g.inj B4.nd pm] at this;exact this
      refine b9 ⟨_,rfl,_,rfl,F,_,rfl,dgp,_,_,rfl,rfl,_,rfl,_,rfl,F,_,rfl,Cn.t (k:=kk (nd' yn)) hf4 tz (by rw[aa];omega),?_⟩
      rw[kL _ nn]
      have e2:dq nd' q'++[(kk (nd' yn),V.int (((pa.2:Nat):Int)+1))]=dq nd' (q'++[(yn,pa.2+1)]):=by rw[X9];rfl
      rw[e2]
      have nRF:R≠F:=eD hr4 hf4 (fun z=>nomatch z)
      have r5:upd H4 F (.dT (dq nd' (q'++[(yn,pa.2+1)]))) R=some (.lst (ts'.map V.ref)):=by rw[aQ nRF];exact hr4
      refine⟨_,rfl,.inl ⟨rfl,_,cP.of r5⟩,_,rfl,R,_,_,rfl,rfl,r5,by rw[aa];omega,?_⟩
      have kp:∀b o,H4 b=some o->b≠F->b≠R->upd (upd H4 F (.dT (dq nd' (q'++[(yn,pa.2+1)])))) R (.lst (ts'.map V.ref++[.ref z.1])) b=some o:=fun b o e n1 n2=>by rw[aQ n2,aQ n1];exact e
      have kt:∀b xs,H4 b=some (.tup xs)->upd (upd H4 F (.dT (dq nd' (q'++[(yn,pa.2+1)])))) R (.lst (ts'.map V.ref++[.ref z.1])) b=some (.tup xs):=fun b xs e=>kp b _ e (eD e hf4 (fun z=>nomatch z)) (eD e hr4 (fun z=>nomatch z))
      refine⟨_,q'++[(yn,pa.2+1)],ts'++[z.1],rfl,fun b o e=>kp b o (s4 b o e) (aT e hF) (aT e hR0),kp _ _ hD4 nDF nDR,by rw[aQ (bK nRF),aw],by rw[aw,bh];rfl,sv (tsa4.keep kt) (kt _ _ tz),?_,?_,fun z hz=>kt _ _ (m4 z hz),kt _ _ ht4⟩
      ·rw[tk];exact B4.new ymem c2
      ·intro y hy
       rw[bh] at hy
       rcases bx.mp hy with h | h
       ·exact inU4 y h
       ·rw[aY.mp h];exact g.Hq _ paU _ ymem
    ·rintro σ H4 ⟨v6',q',ts',rfl,s4,hD4,hf4,hr4,tsa4,B4,inU4,m4,ht4⟩
     have lm:(M.map fun z=>V.ref z.1).length=(near pa.1).length:=by
      have:=congrArg j_ ml
      rw[aa,aa] at this
      rw[aa];exact this
     rw[lm,bM] at B4
     have B5:=B4.next
     have qU4:q'.length<=U.length:=by have:=my B4.nd inU4;rw[aa] at this;exact this
     have li:i<q'.length:=(ax.mp B4.now).1
     refine⟨_,rfl,_,_,rfl,rfl,?_⟩
     refine⟨⟨_,_,q',i+1,ts',rfl,s4,hf4,hr4,tsa4,B5,inU4⟩,?_⟩
     show 200-(((i:Nat):Int)+1).toNat<200-((i:Nat):Int).toNat
     omega
   ·rw[show decide (((i:Nat):Int)<((q.length:Nat):Int))=false from decide_eq_false (by omega)]
    have e:i=q.length:=by have:=B.le;omega
    subst e
    exact bY ⟨_,rfl,k H' F q sH B inU hf hF⟩
  ·intro σ H0 Q1 Q2 h c
   obtain⟨v4,e4,v3,e3,p,ys,e5,e6,i,j,e7,e8,b,e9,z⟩:=c
   exact⟨v4,e4,v3,e3,p,ys,e5,e6,i,j,e7,e8,b,e9,h _ _ z⟩
end
end Pb
namespace Pb
open PySem PySem.Spec PyProof.Rows L2 TL
open Vbsoab (distance wayTo)
def plD (p:Pl):DN:=.tuple [.int p.1,.int p.2]
theorem ZU (p q:Pl):vt (plD p) (plD q)=decide (p=q):=by
 show vt (.tuple [.int p.1,.int p.2]) (.tuple [.int q.1,.int q.2])=_
 simp only[vt,sC,aaq]
 rw[bq,bL,beq_iff_eq,beq_iff_eq,decide_eq_true_eq]
 exact⟨fun h=>J7 h.1 h.2,fun h=>by rw[h];exact⟨rfl,rfl⟩⟩
theorem Jr (p:Pl):DL (plD p)=true:=rfl
theorem YJ {K:ae} {H:Hp} {t:af} {p:Pl} (h:eJ H t p):Dp K H (.ref t) (plD p):=.tup (iC.of h) (.cons (.int _) (.cons (.int _) .nil))
section
inductive aaQ (A:Ad) (vs:List V) (H:Hp) (Q:VK) (E':XK):Prop
 | mk (a t1 t2:af) (L:Lk) (near:Nat->List Nat) (nd:Nat->Pl) (U:List Nat) (x y:Nat) (_:vs=[.ref a,.ref t1,.ref t2]) (_:Gr A H a L near nd U) (_:∀a b,b∈near a->a∈near b) (_:eJ H t1 (nd x)) (_:eJ H t2 (nd y)) (_:x∈U) (_:y∈U) (_:distance near x y=none->∀H',bX H H'->Q .iE H') (_:∀d,distance near x y=some d->∀(H':Hp) (D:af) (M:List (af×Pl)),bX H H'->H' D=some (.lst (M.map fun z=>V.ref z.1))->(∀z∈M,eJ H' z.1 z.2)->M.map (·.2)=(wayTo near y d x).map nd->H D=none->Q (.ref D) H')
theorem EE (T:Tx K mg A):dy P w K mg base hX 3 A.qj A.qt oH (aaQ A):=by
 exists T.BA,uZ,"o"
 ·obtain⟨a,t1,t2,L,near,nd,U,x,y,rfl,_⟩:=h
  rfl
 ·obtain⟨a,t1,t2,L,near,nd',U,x,y,rfl,g,sy,h1,h2,hx,hy,k1,k2⟩:=h
  have hu:=qi hr
  have nd:=uZ.nd
  have sl:ao=16777216:=bI
  refine⟨_,aj (cA (i:=3) nd rfl (by first | exact bC rfl | exact mN rfl) (bP (uv T) hr rfl T.xN T.yP.kp T.ym .nil bR (ab (pv 0) (ab (pv 2) aq))))
   (aj (cV (ip (yH hu (pv 1) (pv 3)) (by with_unfolding_all rfl)) (az (a_ xl)) bO)
   (aj (cA (i:=4) nd rfl (bC rfl) (pv 1))
   (aj (cA (i:=5) nd rfl (bC rfl) (c9 (ab (pv 1) aq)))
   (aj (Gd cS (cg (U7 hr.units) (pv 4) (pv 2) (cD _))
    (aj (cA (i:=6) nd rfl (by first | exact bC rfl | exact mN rfl) (jo Po (qR hu (pv 3) (pv 4) (fun _ _=>rfl)) aS))
    (aj (cA (i:=4) nd rfl (bC rfl) (bT (Ya rfl hu) rfl T.aa6 (by decide +kernel) (ab (sR (tt:=FX (TU Zo (Ur (pN 3) (pN 7)) (pN 6))) (te:=pN 7) rfl nd (fV (dY (pv 0) T.eE T.mB (k9 T) (hr.mono (by decide)) T.mH .nil bR (ab (pv 4) aq)))
      (gc (N:=vd) (sc:=aP kX) (own:=[("other",7)]) (by decide +kernel)) (fun _ _ _ _ _=>df (i:=7) nd rfl (bC rfl)) (fun _ _ _ _ _=>yG (cg eM (qR hu (pv 3) (pv 7) (fun _ _=>rfl)) (pv 6) (cD _))) (fun _ _ _ _ _=>pv 7)) aq)))
    (az (eI (j8 bG cH cG gC (pv 5) (ab (pv 4) aq)))))))
   (az (a_ (pv 5))))))),?_⟩
  refine⟨_,rfl,_,rfl,a,t2,L,near,nd',U,y,rfl,g,h2,hy,fun H1 F q s1 B inU hf hF=>?_⟩
  have dgx:gK H1 F (.ref t1) (dW (dq nd' q) (kk (nd' x))):=gK.t (k:=kk (nd' x)) hf (s1 _ _ h1)
  refine⟨_,rfl,_,rfl,F,_,rfl,dgx,_,rfl,?_⟩
  by_cases c:x∈q.map (·.1)
  ·have sm:(dW (dq nd' q) (kk (nd' x))).isSome=true:=by
    cases e:dW (dq nd' q) (kk (nd' x)) with
    | none=>exact absurd c ((B9 g.inj).mp e)
    | some v=>rfl
   rw[sm]
   obtain⟨px,hpx,epx⟩:=a9.mp c
   have dx:distance near x y=some px.2:=by rw[<- epx];exact Ht B sy hy g.Hq g.hE hpx
   have dle:px.2<=160:=(iA dx).2
   refine bY ⟨_,rfl,_,rfl,by show 1<=ao;decide,fun W hW=>?_⟩
   have s2:bX H1 (upd H1 W (.lst [.ref t1])):=br hW
   have w2:upd H1 W (.lst [.ref t1]) W=some (.lst ([(t1,nd' x)].map fun z=>V.ref z.1)):=aw
   have hW0:H W=none:=s1.free hW
   generalize upd H1 W (.lst [.ref t1])=H2 at s2 w2
   have s12:=s1.trans s2
   refine⟨fun r σ H'=>∃(v6 v7:Option V) (c:Nat) (pre:List Nat) (tc:af) (M:List (af×Pl)),σ=[some (.ref a),some (.ref t1),some (.ref t2),some (.ref F),some (.ref tc),some (.ref W),v6,v7]/\bX H H'/\H' F=some (.dT (dq nd' q))/\H' W=some (.lst (M.map fun z=>V.ref z.1))/\(∀z∈M,eJ H' z.1 z.2)/\eJ H' tc (nd' c)/\c∈U /\
     distance near c y=some r/\M.map (·.2)=(pre++[c]).map nd'/\wayTo near y px.2 x=pre++wayTo near y r c/\pre.length+r=px.2,
    ⟨px.2,none,none,x,[],t1,[(t1,nd' x)],rfl,s12,s2 _ _ hf,w2,fun z hz=>by rw[aY.mp hz];exact s12 _ _ h1,s12 _ _ h1,hx,dx,rfl,rfl,by simp⟩,?_⟩
   rintro r σ H' ⟨v6,v7,cn,pre,tc,M,rfl,sH,hf',hw',mt,htc,cU,dc,em,ew,el⟩
   refine⟨_,rfl,_,rfl,plD (nd' cn),plD (nd' y),YJ htc,YJ (sH _ _ h2),Jr _,Jr _,_,rfl,?_⟩
   rw[ZU]
   by_cases cy:cn=y
   ·subst cy
    rw[decide_eq_true rfl]
    have r0:r=0:=by rw[JQ] at dc;injection dc with dc;exact dc.symm
    subst r0
    refine bY ⟨_,rfl,k2 _ dx H' W M sH hw' mt ?_ hW0⟩
    rw[em,ew];rfl
   ·rw[decide_eq_false (fun e=>cy (g.inj _ _ e))]
    obtain⟨r',rfl⟩:∃r',r=r'+1:=by
     cases r with
     | zero=>exact absurd (S' dc) cy
     | succ r'=>exact⟨r',rfl⟩
    obtain⟨z,fz⟩:=Ug sy dc
    have zm:=List.mem_of_find?_eq_some fz
    have zd:distance near z y=some r':=by have:=Ys fz;simpa using this
    have cq:cn∈q.map (·.1):=by
     by_cases h:cn∈q.map (·.1)
     ·exact h
     ·rw[Ol B sy h] at dc;cases dc
    have val:∀v,v∈q.map (·.1)->∀d,distance near v y=some d->dW (dq nd' q) (kk (nd' v))=some (V.int (d:Nat)):=fun v hv d hd=>by
     obtain⟨p,hp,ep⟩:=a9.mp hv
     have:=Ht B sy hy g.Hq g.hE hp
     rw[ep] at this
     rw[this] at hd
     injection hd with hd
     rw[<- hd,<- ep]
     exact Lr g.inj B.nd hp
    have g':=g.same sH
    have dgc:gK H' F (.ref tc) (some (V.int ((r'+1:Nat):Int))):=by
     have:=gK.t (k:=kk (nd' cn)) hf' htc
     rw[val cn cq _ dc] at this;exact this
    refine b9 ⟨_,fun σ' H'' n=>⟨r',oZ _,n⟩,?_⟩
    refine⟨_,rfl,_,rfl,F,_,rfl,dgc,_,_,rfl,rfl,?_⟩
    have er:(((r'+1:Nat):Int)-1)=((r':Nat):Int):=by omega
    refine⟨_,rfl,a,L.dx,_,rfl,g'.lk.ins,rfl,_,rfl,a,tc,L,nd' cn,rfl,g'.lk,htc,fun H3 D N s3 m1 m2 m3 hD hD0=>?_⟩
    have nl:=g'.list m1 m2
    have allq:∀u∈N,∃v,v∈near cn/\u.2=nd' v/\v∈q.map (·.1):=fun u hu2=>by
     have:u.2∈N.map (·.2):=a9.mpr ⟨u,hu2,rfl⟩
     rw[nl] at this
     obtain⟨v,hv,ev⟩:=a9.mp this
     obtain⟨p,hp,ep⟩:=a9.mp cq
     obtain⟨i,hi⟩:=dG hp
     exact⟨v,hv,ev.symm,B.done i p (ax.mp hi).1 hi v (by rw[ep];exact hv)⟩
    have ln:N.length=(near cn).length:=by have:=congrArg j_ nl;rw[aa,aa] at this;exact this
    refine⟨D,rfl,⟨_,cP.of hD⟩,fun G hG=>k_ (K:=K) (a:=D) (xs:=N.map fun u=>V.ref u.1) (fun j H4=>∃S:List (af×Pl),J1 H3 G (S.map fun u=>V.ref u.1) H4/\S.length<=j/\∀u,u∈S<->u∈N.take j/\∃v,u.2=nd' v/\distance near v y=some r') ⟨[],C2 hG,cu _,fun u=>by simp⟩ (fun j H4 _ ⟨S,z,_⟩=>cP.of (z.1 _ _ hD)) ?_ ?_⟩
    ·rintro j yv H4 hyv ⟨S,zl,sle,smem⟩
     obtain⟨u,hu2,rfl⟩:=get_map hyv
     have um:=aN hu2
     obtain⟨v,hv,ev,vq⟩:=allq u um
     have ut:eJ H4 u.1 (nd' v):=by rw[<- ev];exact zl.1 _ _ (m3 u um)
     obtain⟨pv',hpv,epv⟩:=a9.mp vq
     have dv:distance near v y=some pv'.2:=by rw[<- epv];exact Ht B sy hy g.Hq g.hE hpv
     have dgv:gK H4 F (.ref u.1) (some (V.int (pv'.2:Nat))):=by
      have:=gK.t (k:=kk (nd' v)) (zl.1 _ _ (s3 _ _ hf')) ut
      rw[val v vq _ dv] at this;exact this
     have tk:N.take (j+1)=N.take j++[u]:=take_snoc hu2
     refine⟨rfl,_,rfl,_,rfl,F,_,rfl,dgv,_,rfl,rfl,_,rfl,?_⟩
     show if decide (V.int ((pv'.2:Nat):Int)=V.int (((r'+1:Nat):Int)-1))=true then _ else _
     rw[er,len_eq]
     by_cases ce:pv'.2=r'
     ·rw[show (pv'.2==r')=true from beq_iff_eq.mpr ce]
      have lj:j<N.length:=(ax.mp hu2).1
      refine b9 ⟨_,rfl,S.map (fun u=>V.ref u.1),zl.2,?_,S++[u],?_,?_,fun w=>?_⟩
      ·rw[aa]
       have:=my ((g.rise cn).imp (fun h=>cv h)) (g.Hq cn cU)
       have:=g.hE
       omega
      ·exact⟨pj zl.1 hG,by rw[aw,bh];rfl⟩
      ·rw[aA,bS];omega
      ·rw[bx,aY,smem,tk,bx,aY]
       constructor
       ·rintro (⟨h1,h2⟩ | h)
        ·exact⟨.inl h1,h2⟩
        ·exact⟨.inr h,v,by rw[h];exact ev,by rw[dv,ce]⟩
       ·rintro ⟨h1 | h1,h2⟩
        ·exact .inl ⟨h1,h2⟩
        ·exact .inr h1
     ·rw[show (pv'.2==r')=false from beq_eq_false_iff_ne.mpr ce]
      refine bY ⟨S,zl,by omega,fun w=>?_⟩
      rw[smem,tk,bx,aY]
      constructor
      ·rintro ⟨h1,h2⟩;exact⟨.inl h1,h2⟩
      ·rintro ⟨h1 | h1,v',e',d'⟩
       ·exact⟨h1,v',e',d'⟩
       ·rw[h1,ev] at e'
        rw[<- g.inj _ _ e',dv] at d'
        injection d' with d'
        exact absurd d' ce
    ·rintro H4 ⟨S,zl,sle,smem⟩
     rw[aa,bM] at smem
     have stup:∀u∈S,eJ H4 u.1 u.2:=fun u hu2=>zl.1 _ _ (m3 u ((smem u).mp hu2).1)
     obtain⟨uz,huz,euz⟩:∃u∈N,u.2=nd' z:=by
      have:nd' z∈N.map (·.2):=by rw[nl];exact a9.mpr ⟨z,zm,rfl⟩
      obtain⟨u,hu2,e⟩:=a9.mp this
      exact⟨u,hu2,e⟩
     have inS:uz∈S:=(smem uz).mpr ⟨huz,z,euz,zd⟩
     refine⟨G,S,rfl,cP.of zl.2,stup,vV inS,fun u hu2 least=>?_⟩
     obtain⟨uN,v,ev,dv⟩:=(smem u).mp hu2
     have vz:v=z:=by
      have vn:v∈near cn:=by
       obtain⟨v',hv',ev',_⟩:=allq u uN
       rw[ev] at ev'
       rw[g.inj _ _ ev'];exact hv'
      have le1:=AE (g.rise cn) fz v vn (by simpa using dv)
      have le2:=least uz inS
      rw[ev,euz] at le2
      by_cases e:v=z
      ·exact e
      ·have lt:vK (nd' v) (nd' z):=Vi le2 (fun q=>e (g.inj _ _ q))
       have:=(g.mono _ _).mp lt
       omega
     subst vz
     have s4:=s3.trans zl.1
     have hw4:=s4 _ _ hw'
     refine⟨_,rfl,.inl ⟨rfl,_,cP.of hw4⟩,_,rfl,W,_,_,rfl,rfl,hw4,?_,?_⟩
     ·have:=congrArg j_ em
      rw[aa,aa,aA,bS] at this
      rw[aa];omega
     ·have kt:∀b xs,H4 b=some (.tup xs)->upd H4 W (.lst ((M.map fun z=>V.ref z.1)++[.ref u.1])) b=some (.tup xs):=fun b xs e=>by rw[aQ (eD e hw4 (fun z=>nomatch z))];exact e
      have ut:eJ H4 u.1 (nd' v):=by rw[<- ev];exact stup u hu2
      refine⟨_,_,v,pre++[cn],u.1,M++[u],rfl,fun b o e=>by rw[aQ (aT e hW0)];exact s4 _ _ (sH b o e),?_,by rw[aw,bh];rfl,fun z hz=>?_,kt _ _ ut,g.Hq cn cU v zm,dv,?_,?_,?_⟩
      ·rw[aQ (eD (s4 _ _ hf') hw4 (fun z=>nomatch z))];exact s4 _ _ hf'
      ·rcases bx.mp hz with h | h
       ·exact kt _ _ (s4 _ _ (mt z h))
       ·rw[aY.mp h];exact kt _ _ (stup u hu2)
      ·rw[bh,em,bh (l₁:=pre++[cn])]
       show _++[u.2]=_++[nd' v]
       rw[ev]
      ·rw[ew]
       show pre++(match (near cn).find? (fun z=>distance near z y==some r') with | none=>[cn] | some z=>cn::wayTo near y r' z)=_
       rw[fz]
       simp
      ·rw[aA,bS];omega
  ·have nn:=(B9 g.inj).mpr c
   rw[nn]
   exact b9 (k1 (Ol B sy c) H1 s1)
end
end Pb
namespace Pb
open PySem PySem.Spec PyProof.Rows L2 TL
open Vbsoab (distance wayTo anyNear armyNear fleetNear placesOf part provAt)
section
variable {A:Ad} {H:Hp} {B:Bd} {m:aB}
theorem dB.gr0 (l:dB A H B m) (wf:WF m):Gr A H B.ld B.L0 (zh m) nA (be m.provinces.length) where
 lk:=l.l0
 mono:=fun x y=>PQ
 inj:=fun x y h=>CZ h
 nbs:=fun x q=>by
  rw[l.PU]
  constructor
  ·rintro ⟨u,v,e1,e2,h⟩
   rw[<- CZ e1] at h
   exact⟨v,(HI wf).mpr h,e2⟩
  ·rintro ⟨y,hy,e⟩
   exact⟨x,y,rfl,e,(HI wf).mp hy⟩
 rise:=Tp
 Hq:=fun a _ y hy=>bN.mpr (Ye wf hy)
 hE:=by rw[cB];have:=wf.LR;omega
theorem dB.gr2 (l:dB A H B m) (wf:WF m):Gr A H B.ei B.L2 (gd m) nA (be m.provinces.length) where
 lk:=l.l2
 mono:=fun x y=>PQ
 inj:=fun x y h=>CZ h
 nbs:=fun x q=>by
  rw[l.SS]
  constructor
  ·rintro ⟨u,v,e1,e2,h⟩
   rw[<- CZ e1] at h
   exact⟨v,(yV wf).mpr h,e2⟩
  ·rintro ⟨y,hy,e⟩
   exact⟨x,y,rfl,e,(yV wf).mp hy⟩
 rise:=Wc
 Hq:=fun a _ y hy=>bN.mpr (QD hy)
 hE:=by rw[cB];have:=wf.LR;omega
theorem Pk (wf:WF m):(placesOf m).length<=160:=by
 unfold placesOf
 have key:∀n,n<=m.provinces.length->((be n).flatMap fun i=>(be (max 1 (ag m i).shores.length)).map fun s=>4*i+s).length<=4*n:=fun n=>by
  induction n with
  | zero=>intro _;simp
  | succ n ih=>
   intro hn
   have f:=(wf.pv _ (dZ (show n<m.provinces.length by omega))).four
   have:=ih (by omega)
   rw[List.range_succ,gB,aA,vW,aa,cB]
   omega
 have:=key _ (aC _)
 have:=wf.LR
 omega
theorem dB.gr1 (l:dB A H B m) (wf:WF m):Gr A H B.se B.L1 (Eo m) nF (placesOf m) where
 lk:=l.l1
 mono:=fun x y=>Vj
 inj:=fun x y h=>KZ h
 nbs:=fun x q=>by
  rw[l.PR]
  constructor
  ·rintro ⟨u,v,e1,e2,h⟩
   rw[<- KZ e1] at h
   exact⟨v,(yN wf).mpr h,e2⟩
  ·rintro ⟨y,hy,e⟩
   exact⟨x,y,rfl,e,(yN wf).mp hy⟩
 rise:=Qi wf
 Hq:=fun a _ y hy=>(Ai wf).mpr (GR wf ((yN wf).mp hy)).2
 hE:=Pk wf
end
section
theorem Ma (kvs:List (Key×V)) (u j:Nat) (v:V):dW (putK kvs (dU (u:Int)) v) (dU (j:Int))=if j=u then some v else dW kvs (dU (j:Int)):=by
 rw[sF]
 by_cases c:j=u
 ·rw[if_pos c,if_pos (by rw[c])]
 ·rw[if_neg c,if_neg (fun z=>c (by have:=Er z;omega))]
inductive W9 (A:Ad) (vs:List V) (H:Hp) (Q:VK) (E':XK):Prop
 | mk (B:Bd) (m:aB) (_:vs=[.ref B.b]) (_:dB A H B m) (_:WF m) (_:OA H Q ((be m.provinces.length).map fun i=>V.int (part m i:Nat)))
theorem BM (T:Tx K mg A):dy P w K mg base hX 3 A.ny A.nI mn (W9 A):=by
 exists T.xI,qQ,"o"
 ·obtain⟨B,m,rfl,_⟩:=h
  rfl
 ·obtain⟨B,m,rfl,l,wf,k⟩:=h
  have hu:=qi hr
  have nd:=qQ.nd
  have sl:ao=16777216:=bI
  have pl:=wf.LR
  refine⟨_,aj (cA (i:=1) nd rfl (by first | exact bC rfl | exact mN rfl) MZ)
   (aj (lF cS rfl (CK rfl T.Fu (ab (bT bF rfl T.eU bf (ab (aJ (pv 0) rfl) aq)) aq)) (df (i:=2) nd rfl (by first | exact bC rfl | exact mN rfl))
    (az (cV (ip (yH hu (pv 2) (pv 1)) (by with_unfolding_all rfl))
     (az (lF cS rfl (Xu (Xw (bP (uv T) hr rfl T.xN T.yP.kp T.ym .nil bR (ab (aJ (pv 0) rfl) (ab (ki (ab (pv 2) (ab aS aq))) aq))))) (df (i:=3) nd rfl (by first | exact bC rfl | exact mN rfl))
      (az (uc hu (pv 1) (bW dH (pv 3) aS (fun _ _=>rfl)) (pv 2) rfl)))) bO)))
   (az (a_ (sR (te:=Ur (pN 1) (pN 2)) rfl nd (CK rfl T.Fu (ab (bT bF rfl T.eU bf (ab (aJ (pv 0) rfl) aq)) aq)) (gc (N:=qV) (sc:=aP jl) (own:=[("number",2)]) (by decide +kernel)) (fun _ _ _ _ _=>df (i:=2) nd rfl (bC rfl)) (fun _ _ _ _ _=>mh) (fun _ _ _ _ _=>qR hu (pv 1) (pv 2) (fun _ _=>rfl)))))),?_⟩
  intro F hF
  have s1:bX H (upd H F (.dK [])):=br hF
  have f1:upd H F (.dK []) F=some (.dK []):=aw
  generalize upd H F (.dK [])=H1 at s1 f1
  have l1:=l.same s1
  have nr:(B.ps.map V.ref).length=m.provinces.length:=by rw[aa,l.tF]
  refine⟨_,rfl,B.b,A.aK,B.dx,_,_,rfl,l1.ins,T.aV,T.bA,rfl,B.pv,_,rfl,.inl (cP.of l1.pv),_,rfl,by rw[nr];omega,by rw[nr];omega,?_⟩
  rw[nr,cZ]
  have sy:=HK wf
  have Hq:∀a∈be m.provinces.length,∀z∈gd m a,z∈be m.provinces.length:=fun a _ z hz=>bN.mpr (QD hz)
  have hE:(be m.provinces.length).length<=160:=by rw[cB];omega
  have tr:∀{i j k:Nat},i<m.provinces.length->j<m.provinces.length->Ik (gd m) i j->Ik (gd m) j k->Ik (gd m) i k:=fun hi hj=>Zj Hq hE (bN.mpr hi) (bN.mpr hj)
  refine JN (lo:=0) (n:=m.provinces.length) (fun i σ H'=>∃(v2 v3:Option V) (kvs:List (Key×V)),σ=[some (.ref B.b),some (.ref F),v2,v3]/\bX H H'/\H' F=some (.dK kvs)/\kvs.length<=200*i/\(∀j,j<m.provinces.length->∀k,k<i->Ik (gd m) k j->dW kvs (dU (j:Int))=some (V.int (part m j:Nat)))/\∀j,j<m.provinces.length->(∀k,k<i->¬ Ik (gd m) k j)->dW kvs (dU (j:Int))=none)
   ⟨none,none,[],rfl,s1,f1,aC _,fun j _ k hk=>absurd hk (by omega),fun j _ _=>rfl⟩ ?_ ?_
  ·rintro i σ H2 hi ⟨v2,v3,kvs,rfl,s2,hf,lk,ia,ib⟩
   have e0:(0:Int)+(i:Nat)=(i:Nat):=by omega
   show Uq _ _ _ _ _ _
   have dg:gK H2 F (.int ((0:Int)+(i:Nat))) (dW kvs (dU ((i:Nat):Int))):=by rw[e0];exact gK.k (k:=dU ((i:Nat):Int)) hf
   refine⟨_,rfl,_,rfl,F,_,rfl,dg,_,rfl,?_⟩
   cases ev:dW kvs (dU ((i:Nat):Int)) with
   | some v=>
    refine bY ⟨_,_,kvs,rfl,s2,hf,by omega,fun j hj k hk hr=>?_,fun j hj hn=>ib j hj fun k hk=>hn k (by omega)⟩
    by_cases c:k<i
    ·exact ia j hj k c hr
    ·have ek:k=i:=by omega
     subst ek
     have:∃k0,k0<k/\Ik (gd m) k0 k:=by
      by_cases c:∃k0,k0<k/\Ik (gd m) k0 k
      ·exact c
      ·have:=ib k hi fun k0 h0 h1=>c ⟨k0,h0,h1⟩
       rw[ev] at this;cases this
     obtain⟨k0,h0,h1⟩:=this
     exact ia j hj k0 h0 (tr (by omega) hi h1 hr)
   | none=>
    have nok:∀k,k<i->¬ Ik (gd m) k i:=fun k hk h=>by rw[ia i hi k hk h] at ev;cases ev
    have l2:=l.same s2
    refine b9 ⟨_,rfl,B.b,A.aK,B.dx,_,_,rfl,l2.ins,T.aV,T.mz,rfl,_,rfl,by show 2<=ao;decide,fun tt htt=>?_⟩
    have s3:bX H2 (upd H2 tt (.tup [.int ((0:Int)+(i:Nat)),.int 0])):=br htt
    have t3:eJ (upd H2 tt (.tup [.int ((0:Int)+(i:Nat)),.int 0])) tt (nA i):=by
     show upd _ _ _ tt=some (.tup [.int ((i:Nat):Int),.int 0])
     rw[aw,e0]
    generalize upd H2 tt (.tup [.int ((0:Int)+(i:Nat)),.int 0])=H3 at s3 t3
    have l3:=l2.same s3
    refine⟨B.ei,tt,B.L2,gd m,nA,be m.provinces.length,i,rfl,l3.gr2 wf,t3,bN.mpr hi,fun H4 D q s4 Bq inU hD hD0=>⟨D,_,hD,ij,fun od=>⟨D,od,rfl,.inr ⟨_,aw,?_⟩⟩⟩⟩
    have s24:=s3.trans s4
    have nDF:D≠F:=fun e=>by rw[e,s3 _ _ hf] at hD0;cases hD0
    have HD0:H D=none:=s2.free (s3.free hD0)
    have inq:∀u,u<m.provinces.length->(u∈q.map (·.1)<->Ik (gd m) i u):=fun u hu'=>by
     rw[Fp Hq hE (bN.mpr hi)]
     constructor
     ·intro h
      obtain⟨p,hp,e⟩:=a9.mp h
      rw[<- e]
      exact⟨_,(Bq.ex p hp).1⟩
     ·rintro ⟨n,h⟩;exact Bq.all h
    have qU:q.length<=m.provinces.length:=by have:=my Bq.nd inU;rw[aa,cB] at this;exact this
    refine S8 (d:=D) (o:=od) (kvs:=dq nA q) (fun j σ H'=>∃(v3:Option V) (kv:List (Key×V)),σ=[some (.ref B.b),some (.ref F),some (.int ((0:Int)+(i:Nat))),v3]/\bX H H'/\H' D=some (.zc od (.dT (dq nA q)))/\H' F=some (.dK kv)/\kv.length<=200*i+j/\∀u,dW kv (dU ((u:Nat):Int))=if u∈(q.take j).map (·.1) then some (V.int ((0:Int)+(i:Nat))) else dW kvs (dU ((u:Nat):Int)))
     ⟨_,kvs,rfl,pj (s2.trans s24) HD0,aw,by rw[aQ (bK nDF)];exact s24 _ _ hf,by omega,fun u=>by simp⟩ (fun j σ H' _ ⟨_,_,_,_,z,_⟩=>z) ?_ ?_
    ·rintro j ky vv t σ H5 hk ⟨v3',kv,rfl,s5,hD5,hf5,lk5,iv⟩ ht
     obtain⟨p,hp,ep⟩:∃p,q[j]?=some p/\(ky,vv)=(kk (nA p.1),V.int (p.2:Nat)):=by
      rw[aX] at hk
      cases e:q[j]? with
      | none=>rw[e] at hk;cases hk
      | some p=>rw[e] at hk;exact⟨p,rfl,(bQ hk).symm⟩
     injection ep with ek ev2
     subst ek
     have ht:eJ H5 t (nA p.1):=ht
     have lq:=(ax.mp hp).1
     refine⟨_,rfl,_,rfl,_,rfl,t,_,0,_,rfl,rfl,iC.of ht,aW (j:=0) rfl,F,_,rfl,Cn.k (k:=dU ((p.1:Nat):Int)) hf5 (by omega),?_⟩
     refine⟨_,_,rfl,fun b o e=>by rw[aQ (aT e hF)];exact s5 b o e,by rw[aQ nDF];exact hD5,aw,by have:=qX kv (dU ((p.1:Nat):Int)) (V.int ((0:Int)+(i:Nat)));omega,fun u=>?_⟩
     rw[Ma,iv u,take_snoc hp,bh]
     by_cases c:u=p.1
     ·rw[if_pos c,if_pos (au _ (by rw[c];simp))]
     ·rw[if_neg c]
      by_cases d:u∈(q.take j).map (·.1)
      ·rw[if_pos d,if_pos (bJ _ d)]
      ·rw[if_neg d,if_neg (fun z=>by rcases bx.mp z with z | z;exact d z;exact c (by simpa using z))]
    ·rintro σ H5 ⟨v3',kv,rfl,s5,hD5,hf5,lk5,iv⟩
     rw[aa] at lk5 iv
     rw[bM] at iv
     refine⟨_,_,kv,rfl,s5,hf5,by omega,fun j hj k hk hr=>?_,fun j hj hn=>?_⟩
     ·by_cases c:k<i
      ·have nq:j∉q.map (·.1):=fun z=>nok k c (tr (by omega) hj hr (Ks sy ((inq j hj).mp z)))
       rw[iv j,if_neg nq]
       exact ia j hj k c hr
      ·have ek:k=i:=by omega
       subst ek
       have pk:part m j=k:=Xz wf hj hi (Ks sy hr) fun j0 h0 h1=>nok j0 h0 (tr (by omega) hj (Ks sy h1) (Ks sy hr))
       rw[iv j,if_pos ((inq j hj).mpr hr),pk,e0]
     ·have nq:j∉q.map (·.1):=fun z=>hn i (by omega) ((inq j hj).mp z)
      rw[iv j,if_neg nq]
      exact ib j hj fun k hk=>hn k (by omega)
  ·rintro σ H2 ⟨v2,v3,kvs,rfl,s2,hf,lk,ia,ib⟩
   have l2:=l.same s2
   refine⟨_,rfl,B.b,A.aK,B.dx,_,_,rfl,l2.ins,T.aV,T.bA,rfl,B.pv,_,rfl,.inl (cP.of l2.pv),_,rfl,by rw[nr];omega,by rw[nr];omega,fun D hD=>?_⟩
   rw[nr,cZ]
   refine Vo (lo:=0) (n:=m.provinces.length) (fun j H'=>J1 H2 D (((be m.provinces.length).take j).map fun i=>V.int (part m i:Nat)) H') (C2 hD) ?_ ?_
   ·intro j H' hj z
    have e0:(0:Int)+(j:Nat)=(j:Nat):=by omega
    have rj:Ik (gd m) j j:=by unfold Ik;rw[JQ];rfl
    have dg:gK H' F (.int ((0:Int)+(j:Nat))) (some (V.int (part m j:Nat))):=by
     rw[e0]
     have:=gK.k (k:=dU ((j:Nat):Int)) (z.1 _ _ hf)
     rw[ia j hj j hj rj] at this
     exact this
    refine⟨rfl,_,rfl,_,rfl,F,_,rfl,dg,?_⟩
    have gj:(be m.provinces.length)[j]?=some j:=by rw[Bt hj]
    exact qh z hD (iJ _ gj (by rw[cB];omega)) (map_take (fun i=>V.int (part m i:Nat)) gj)
   ·intro H' z
    have:(be m.provinces.length).take m.provinces.length=be m.provinces.length:=by
     conv=>lhs;arg 1;rw[<- cB (n:=m.provinces.length)]
     exact bM
    rw[this] at z
    exact k H' D (s2.trans z.1) z.2 (s2.free hD)
end
end Pb
namespace Pb
open PySem PySem.Spec PyProof.Rows L2 TL
open Vbsoab (provAt)
def JG (l:List Int):DN:=.list (l.map iY)
theorem VO:∀a b:List Int,vt (JG a) (JG b)=decide (a=b):=fun a b=>by
 show sC (a.map iY) (b.map iY)=_
 induction a generalizing b with
 | nil=>cases b <;> simp[sC]
 | cons x a ih=>
  cases b with
  | nil=>simp[sC]
  | cons y b=>
   show (vt (.int x) (.int y)&&sC (a.map iY) (b.map iY))=_
   rw[ih]
   show ((x==y)&&decide (a=b))=_
   rw[bq]
   simp
theorem shaped_ints (l:List Int):DL (JG l)=true:=by
 have h1:su (l.map iY)=true:=by
  induction l with
  | nil=>rfl
  | cons x l ih=>show (WK (.int x)&&su (l.map iY))=true;rw[ih];rfl
 have h2:FO (l.map iY)=0:=by
  induction l with
  | nil=>rfl
  | cons x l ih=>show max 0 (FO (l.map iY))=0;rw[ih (by simpa [su,WK] using h1)];rfl
 show (su (l.map iY)&&decide (FO (l.map iY)+1<=64))=true
 rw[h1,h2]
 rfl
theorem RU {K:ae} {H:Hp} {a:af} {l:List Int} (h:cP K H a (l.map V.int)):Dp K H (.ref a) (JG l):=by
 refine .lst h ?_
 clear h
 induction l with
 | nil=>exact .nil
 | cons x l ih=>exact .cons (.int x) ih
section
inductive Xg (A:Ad) (vs:List V) (H:Hp) (Q:VK) (E':XK):Prop
 | mk (p q d1 d2 sa sb:af) (p1 p2:cJ) (_:vs=[.ref p,.ref q]) (_:H p=some (.ins A.aO d1 (Il p1 sa))) (_:H q=some (.ins A.aO d2 (Il p2 sb))) (_:H sa=some (.lst (p1.shores.map wV))) (_:H sb=some (.lst (p2.shores.map wV))) (_:Q (.bl (alike p1 p2)) H)
theorem KI (T:Tx K mg A):dy P w K mg base hX 1 A.xV A.ye ue (Xg A):=by
 exists T.J0,Kl,"o"
 ·obtain⟨p,q,d1,d2,sa,sb,p1,p2,rfl,_⟩:=h
  rfl
 ·obtain⟨p,q,d1,d2,sa,sb,p1,p2,rfl,hp,hq,ha,hb,k⟩:=h
  refine⟨_,aj (cV (PW.pt (kK (cg Gp (aJ (pv 0) rfl) (aJ (pv 1) rfl) (cD _)) (lD (cg Gp (aJ (pv 0) rfl) (aJ (pv 1) rfl) (cD _))))) (az (a_ vc)) bO)
   (az (a_ (h_ eM (bT bF rfl T.eU bf (ab (aJ (pv 0) rfl) aq)) (bT bF rfl T.eU bf (ab (aJ (pv 1) rfl) aq)) (cD _)))),?_⟩
  unfold alike at k
  refine⟨_,rfl,p,A.aO,d1,_,_,rfl,hp,T.bg,T.fL,rfl,_,rfl,q,A.aO,d2,_,_,rfl,hq,T.bg,T.fL,rfl,rfl,_,rfl,?_⟩
  show if (!decide (V.int ((p1.kind:Nat):Int)=V.int ((p2.kind:Nat):Int)))=true then _ else _
  rw[len_eq]
  cases c1:(p1.kind==p2.kind) with
  | false=>
   rw[c1] at k
   exact b9 (b9 k)
  | true=>
   rw[c1,il] at k
   refine bY ⟨_,rfl,p,A.aO,d1,_,_,rfl,hp,T.bg,T.dP,rfl,_,rfl,q,A.aO,d2,_,_,rfl,hq,T.bg,T.dP,rfl,rfl,_,rfl,?_⟩
   show if (!decide (V.bl p1.centre=V.bl p2.centre))=true then _ else _
   have eb:decide (V.bl p1.centre=V.bl p2.centre)=(p1.centre==p2.centre):=by
    rw[bq,decide_eq_true_eq,beq_iff_eq]
    exact⟨fun z=>by injection z,fun z=>by rw[z]⟩
   rw[eb]
   cases c2:(p1.centre==p2.centre) with
   | false=>
    rw[c2,J'] at k
    exact b9 k
   | true=>
    rw[c2,aaq] at k
    refine bY ⟨_,rfl,p,A.aO,d1,_,_,rfl,hp,T.bg,T.dh,rfl,sa,_,rfl,.inl (cP.of ha),_,rfl,q,A.aO,d2,_,_,rfl,hq,T.bg,T.dh,rfl,sb,_,rfl,.inl (cP.of hb),rfl,?_⟩
    show Q (.bl (decide (V.int (((p1.shores.map wV).length:Nat):Int)=V.int (((p2.shores.map wV).length:Nat):Int)))) H
    rw[len_eq,aa,aa]
    exact k
def lG (l:List Nat):List V:=l.map fun n:Nat=>V.int n
inductive Xb (K:ae) (A:Ad) (vs:List V) (H:Hp) (Q:VK) (E':XK):Prop
 | mk (B:Bd) (m:aB) (f:Bool) (a:af) (ns:List Nat) (_:vs=[.ref (zb f B),.ref a]) (_:dB A H B m) (_:WF m) (_:cP K H a (lG ns)) (_:ns.length=m.provinces.length) (_:zM H Q ((yL f m).all fun x=>bU (yL f m) (im f ns x.1) (im f ns x.2)))
theorem xq (T:Tx K mg A):dy P w K mg base hX 3 A.rN A.rS pX (Xb K A):=by
 exists T.xK,wD,"o"
 ·obtain⟨B,m,f,a,ns,rfl,_⟩:=h
  rfl
 ·obtain⟨B,m,f,a,ns,rfl,l,wf,hn,ln,k⟩:=h
  have nd:=wD.nd
  refine⟨_,aj (lF cS rfl (fV (Gh (pv 0) T.eE T.rL (qd T) hr T.rY .nil bR)) (Ak rfl (gR (df (i:=2) nd rfl (bC rfl)) (gR (df (i:=3) nd rfl (bC rfl)) ur)))
    (az (cV (kf (fB (dY (pv 0) T.eE T.xC (ux T) (hr.mono (by decide)) T.yp .nil bR
     (ab (ki (ab (bW b8 (pv 1) (bW dH (pv 2) aS (fun _ _=>rfl)) (fun _ _=>rfl)) (ab (bW dH (pv 2) aS (fun _ _=>rfl)) aq)))
     (ab (ki (ab (bW b8 (pv 1) (bW dH (pv 3) aS (fun _ _=>rfl)) (fun _ _=>rfl)) (ab (bW dH (pv 3) aS (fun _ _=>rfl)) aq))) aq))))) (az (a_ vc)) bO)))
   (az (a_ vc)),?_⟩
  refine⟨_,rfl,zb f B,(Lf f B).dx,_,rfl,(l.lf f).ins,rfl,zb f B,Lf f B,pairsOf f m,rfl,l.lf f,An wf f,l.pairs wf f,by unfold pairsOf;rw[aa];have:=K3 wf f;omega,fun H1 D as s1 hD pa hD0=>?_⟩
  have la:as.length=(yL f m).length:=by rw[pa.len];unfold pairsOf;rw[aa]
  refine⟨D,rfl,⟨_,cP.of hD⟩,kS (K:=K) (a:=D) (xs:=as.map V.ref) (fun i σ H'=>∃(v2 v3:Option V),σ=[some (.ref (zb f B)),some (.ref a),v2,v3]/\bX H1 H'/\∀x∈(yL f m).take i,bU (yL f m) (im f ns x.1) (im f ns x.2)=true)
   ⟨none,none,rfl,bX.refl _,fun x hx=>by simp at hx⟩ (fun i σ H' _ ⟨_,_,_,z,_⟩=>cP.of (z _ _ hD)) ?_ ?_⟩
  ·rintro i y σ H2 hy ⟨v2,v3,rfl,s2,good⟩
   obtain⟨ta,hta,rfl⟩:=get_map hy
   obtain⟨r,hr1,t1,t2,ht,ht1,ht2⟩:=jE pa hta
   obtain⟨x,hx,er⟩:∃x,(yL f m)[i]?=some x/\r=(rK f x.1,rK f x.2):=by
    unfold pairsOf at hr1
    rw[aX] at hr1
    cases e:(yL f m)[i]? with
    | none=>rw[e] at hr1;cases hr1
    | some x=>rw[e] at hr1;exact⟨x,rfl,(bQ hr1).symm⟩
   subst er
   have s12:=s1.trans s2
   have l2:=l.same s12
   have hn2:=s12.seq hn
   have ok:pz f x.1<m.provinces.length/\pz f x.2<m.provinces.length:=by
    have xm:=aN hx
    cases f
    ·have:=wf.OL x xm;exact⟨by show x.1<_;omega,this.2⟩
    ·have:=wf.Ra x xm;exact⟨this.2.1.1,this.2.2.1.1⟩
   have gt:∀i,i<m.provinces.length->(lG ns)[i]?=some (V.int (ns.getD i 0:Nat)):=fun i hi=>by
    unfold lG
    rw[aX,b_,aR (by rw[ln];exact hi)];rfl
   have q1:eJ H2 t1 (((pz f x.1:Nat):Int),(rK f x.1).2):=by rw[<- CY];exact s2 _ _ ht1
   have q2:eJ H2 t2 (((pz f x.2:Nat):Int),(rK f x.2).2):=by rw[<- CY];exact s2 _ _ ht2
   have imp:∀x:Nat,(((ns.getD (pz f x) 0:Nat):Int),(rK f x).2)=rK f (im f ns x):=fun x=>by
    cases f
    ·rfl
    ·show (((ns.getD (x / 4) 0:Nat):Int),((x % 4:Nat):Int))=nF (4*ns.getD (x / 4) 0+x % 4)
     unfold nF
     rw[show (4*ns.getD (x / 4) 0+x % 4) / 4=ns.getD (x / 4) 0 by omega,show (4*ns.getD (x / 4) 0+x % 4) % 4=x % 4 by omega]
   refine⟨ta,_,rfl,iC.of (s2 _ _ ht),rfl,_,_,rfl,_,_,rfl,rfl,?_⟩
   refine⟨_,rfl,zb f B,(Lf f B).dx,_,rfl,(l2.lf f).ins,rfl,_,rfl,_,rfl,t1,_,0,_,rfl,rfl,iC.of q1,aW (j:=0) rfl,a,_,_,_,rfl,rfl,hn2,aW (j:=pz f x.1) (gt _ ok.1),_,rfl,t1,_,1,_,rfl,rfl,iC.of q1,aW (j:=1) rfl,by show 2<=ao;decide,fun u1 hu1=>?_⟩
   have s3:bX H2 (upd H2 u1 (.tup [.int (ns.getD (pz f x.1) 0:Nat),.int (rK f x.1).2])):=br hu1
   have w1:eJ (upd H2 u1 (.tup [.int (ns.getD (pz f x.1) 0:Nat),.int (rK f x.1).2])) u1 (rK f (im f ns x.1)):=by rw[<- imp];exact aw
   generalize upd H2 u1 (.tup [.int (ns.getD (pz f x.1) 0:Nat),.int (rK f x.1).2])=H3 at s3 w1
   refine⟨_,rfl,_,rfl,t2,_,0,_,rfl,rfl,iC.of (s3 _ _ q2),aW (j:=0) rfl,a,_,_,_,rfl,rfl,s3.seq hn2,aW (j:=pz f x.2) (gt _ ok.2),_,rfl,t2,_,1,_,rfl,rfl,iC.of (s3 _ _ q2),aW (j:=1) rfl,by show 2<=ao;decide,fun u2 hu2=>?_⟩
   have s4:bX H3 (upd H3 u2 (.tup [.int (ns.getD (pz f x.2) 0:Nat),.int (rK f x.2).2])):=br hu2
   have w2:eJ (upd H3 u2 (.tup [.int (ns.getD (pz f x.2) 0:Nat),.int (rK f x.2).2])) u2 (rK f (im f ns x.2)):=by rw[<- imp];exact aw
   have w1':=s4 _ _ w1
   generalize upd H3 u2 (.tup [.int (ns.getD (pz f x.2) 0:Nat),.int (rK f x.2).2])=H4 at s4 w2 w1'
   have s24:=s3.trans s4
   have l4:=l2.same s24
   refine⟨zb f B,u1,u2,Lf f B,rK f (im f ns x.1),rK f (im f ns x.2),rfl,l4.lf f,w1',w2,fun H5 s5=>⟨_,rfl,?_⟩⟩
   have eb:decide (rK f (im f ns x.2)∈nb (Lf f B).ent (rK f (im f ns x.1)))=bU (yL f m) (im f ns x.1) (im f ns x.2):=by
    rw[bq,decide_eq_true_eq,l.lkf f]
   rw[eb]
   have tk:=take_snoc hx
   cases c:bU (yL f m) (im f ns x.1) (im f ns x.2) with
   | true=>
    refine bY ⟨_,_,rfl,(s2.trans s24).trans s5,fun z hz=>?_⟩
    rw[tk] at hz
    rcases bx.mp hz with h | h
    ·exact good z h
    ·rw[aY.mp h];exact c
   | false=>
    have e:((yL f m).all fun x=>bU (yL f m) (im f ns x.1) (im f ns x.2))=false:=by
     rw[Ew]
     exact⟨x,aN hx,by rw[c];decide⟩
    have z:=k H5 ((s12.trans s24).trans s5)
    rw[e] at z
    exact b9 z
  ·rintro σ H2 ⟨v2,v3,rfl,s2,good⟩
   rw[aa,la,bM] at good
   have z:=k H2 (s1.trans s2)
   rw[cI.mpr good] at z
   exact z
end
end Pb
namespace Pb
open PySem PySem.Spec PyProof.Rows L2 TL
open Vbsoab (provAt)
abbrev Sm (n:Nat):Int:=(n:Int)
theorem SQ (l:List Nat):lG l=(l.map Sm).map V.int:=by unfold lG;rw[cz];rfl
theorem QY:∀{a b:List Nat},a.map Sm=b.map Sm->a=b
 | [],[],_=>rfl
 | [],_::_,h=>by cases h
 | _::_,[],h=>by cases h
 | x::a,y::b,h=>by
  rw[a7,a7] at h
  injection h with h1 h2
  have h1:((x:Nat):Int)=((y:Nat):Int):=h1
  rw[QY h2,show x=y by omega]
section
inductive aaR (K:ae) (A:Ad) (vs:List V) (H:Hp) (Q:VK) (E':XK):Prop
 | mk (B:Bd) (m:aB) (a:af) (ns:List Nat) (_:vs=[.ref B.b,.ref a]) (_:dB A H B m) (_:WF m) (_:cP K H a (lG ns)) (_:ns.length<=40) (_:zM H Q (o7 m ns))
theorem Gq (T:Tx K mg A):dy P w K mg base hX 4 A.rO A.rT pY (aaR K A):=by
 exists T.Ee,wF,"o"
 ·obtain⟨B,m,a,ns,rfl,_⟩:=h
  rfl
 ·obtain⟨B,m,a,ns,rfl,l,wf,hn,hE,k⟩:=h
  have nd:=wF.nd
  refine⟨_,aj (cV (cg (U7 hr.units) (bT Te rfl T.GJ (by decide +kernel) (ab (pv 1) aq)) (CL (V3 rfl) rfl T.Zy (by decide +kernel) (ab (CL Tf rfl T.Fu (by decide +kernel) (ab (bT bF rfl T.eU bf (ab (aJ (pv 0) rfl) aq)) aq)) aq)) (cD _)) (az (a_ vc)) bO)
   (aj (lF cS rfl (Zq rfl T.aa3 (ab (aJ (pv 0) rfl) (ab (pv 1) aq))) (Ak rfl (gR (df (i:=2) nd rfl (bC rfl)) (gR (df (i:=3) nd rfl (bC rfl)) ur)))
    (az (cV (kf (fB (bP (KI T) (hr.mono (by decide)) rfl T.NX T.J0.kp T.Ov .nil bR (ab (pv 2) (ab (bW b8 (aJ (pv 0) rfl) (pv 3) (fun _ _=>rfl)) aq))))) (az (a_ vc)) bO)))
   (az (a_ (Am (bP (xq T) hr rfl T.zF T.xK.kp T.zI .nil bR (ab (aJ (pv 0) rfl) (ab (pv 1) aq))) (Al (bP (xq T) hr rfl T.zF T.xK.kp T.zI .nil bR (ab (aJ (pv 0) rfl) (ab (pv 1) aq)))))))),?_⟩
  have hz:cP K H a ((ns.map Sm).map V.int):=by rw[<- SQ];exact hn
  have pl:=wf.LR
  refine⟨_,rfl,a,ns.map Sm,rfl,hz,by rw[aa];omega,fun ns' p pm pw hp=>?_⟩
  obtain⟨kk',kp,ek⟩:=L2.MV pm (g:=Sm) (L:=ns) rfl
  subst ek
  have ks:kk'.Pairwise (·<=·):=by
   rw[jO] at pw
   exact pw.imp fun {x y} h=>by have h:((x:Nat):Int)<=((y:Nat):Int):=h;omega
  have s1:bX H (upd H p (.lst ((kk'.map Sm).map V.int))):=br hp
  have p1:upd H p (.lst ((kk'.map Sm).map V.int)) p=some (.lst ((kk'.map Sm).map V.int)):=aw
  generalize upd H p (.lst ((kk'.map Sm).map V.int))=H1 at s1 p1
  have l1:=l.same s1
  refine⟨_,rfl,B.b,A.aK,B.dx,_,_,rfl,l1.ins,T.aV,T.bA,rfl,B.pv,_,rfl,.inl (cP.of l1.pv),m.provinces.length,by rw[aa,l.tF],fun r hr2=>?_⟩
  have s2:bX H1 (upd H1 r (LH r m.provinces.length)):=br hr2
  refine⟨r,m.provinces.length,rfl,aw,by omega,fun q hq=>?_⟩
  have s3:bX (upd H1 r (LH r m.provinces.length)) (upd (upd H1 r (LH r m.provinces.length)) q (.lst ((be m.provinces.length).map fun i:Nat=>V.int i))):=br hq
  have q3:upd (upd H1 r (LH r m.provinces.length)) q (.lst ((be m.provinces.length).map fun i:Nat=>V.int i)) q=some (.lst ((be m.provinces.length).map fun i:Nat=>V.int i)):=aw
  have s23:=s2.trans s3
  generalize upd (upd H1 r (LH r m.provinces.length)) q (.lst ((be m.provinces.length).map fun i:Nat=>V.int i))=H3 at s23 q3
  have s13:=s1.trans s23
  have q3':H3 q=some (.lst (((be m.provinces.length).map Sm).map V.int)):=by rw[cz];exact q3
  refine⟨JG (kk'.map Sm),JG ((be m.provinces.length).map Sm),RU (cP.of (s23 _ _ p1)),RU (cP.of q3'),shaped_ints _,shaped_ints _,_,rfl,?_⟩
  rw[VO]
  by_cases c:kk'=be m.provinces.length
  ·rw[decide_eq_true (by rw[c])]
   have full:=(Gg kp ks).mp c
   have sym:=W1 full
   obtain⟨ln,lt,nod⟩:=full
   have l3:=l.same s13
   have hn3:=s13.seq hn
   refine bY ⟨_,rfl,B.b,A.aK,B.dx,_,_,rfl,l3.ins,T.aV,T.bA,rfl,_,rfl,B.pv,a,_,_,rfl,cP.of l3.pv,hn3,X0 (K:=K) (a:=B.pv) (b:=a) (xs:=B.ps.map V.ref) (ys:=lG ns) (fun i σ H'=>∃(v2 v3:Option V),σ=[some (.ref B.b),some (.ref a),v2,v3]/\bX H H'/\∀j,j<i->alike (ag m j) (ag m (ns.getD j 0))=true)
    ⟨none,none,rfl,s13,fun j hj=>absurd hj (by omega)⟩ (by unfold lG;rw[aa,aa,l.tF,ln]) (fun i σ H' _ ⟨_,_,_,z,_⟩=>⟨cP.of (z _ _ l.pv),z.seq hn⟩) ?_ ?_⟩
   ·rintro i x y σ H4 Tt hx hy ⟨v2,v3,rfl,s4,good⟩ hT
    obtain⟨pa,hpa,rfl⟩:=get_map hx
    obtain⟨n,hn4,rfl⟩:∃n,ns[i]?=some n/\y=V.int (n:Nat):=get_map hy
    have li:i<m.provinces.length:=by rw[<- l.tF];exact (ax.mp hpa).1
    have ln':=lt n (aN hn4)
    have gn:ns.getD i 0=n:=by rw[b_,hn4];rfl
    have sT:bX H4 (upd H4 Tt (.tup [V.ref pa,V.int (n:Nat)])):=br hT
    have hTT:upd H4 Tt (.tup [V.ref pa,V.int (n:Nat)]) Tt=some (.tup [V.ref pa,V.int (n:Nat)]):=aw
    refine⟨Tt,_,rfl,iC.of hTT,rfl,_,_,rfl,_,_,rfl,rfl,?_⟩
    generalize upd H4 Tt (.tup [V.ref pa,V.int (n:Nat)])=H5 at sT hTT
    have l5:=l.same (s4.trans sT)
    obtain⟨a1,sa,d1,x1,x2,x3,x4⟩:=l5.pa li
    rw[hpa] at x1;cases x1
    obtain⟨a2,sb,d2,y1,y2,y3,y4⟩:=l5.pa ln'
    refine⟨_,rfl,_,rfl,B.b,A.aK,B.dx,_,_,rfl,l5.ins,T.aV,T.bA,rfl,_,rfl,B.pv,_,_,_,rfl,rfl,cP.of l5.pv,aW (j:=n) (by rw[aX,y1];rfl),pa,a2,d1,d2,sa,sb,ag m i,ag m n,rfl,x3,y3,x4,y4,_,rfl,?_⟩
    cases ca:alike (ag m i) (ag m n) with
    | true=>
     refine bY ⟨_,_,rfl,s4.trans sT,fun j hj=>?_⟩
     by_cases cj:j<i
     ·exact good j cj
     ·have ej:j=i:=by omega
      rw[ej,gn];exact ca
    | false=>
     have e:o7 m ns=false:=by
      rw[sym,Bool.and_eq_false_iff]
      left
      rw[Ew]
      exact⟨i,bN.mpr li,by rw[gn,ca];decide⟩
     have z:=k H5 (s4.trans sT)
     rw[e] at z
     exact b9 z
   ·rintro σ H4 ⟨v2,v3,rfl,s4,good⟩
    rw[aa,l.tF] at good
    have e1:(be m.provinces.length).all (fun i=>alike (ag m i) (ag m (ns.getD i 0)))=true:=cI.mpr fun i hi=>good i (bN.mp hi)
    rw[e1,il] at sym
    have l4:=l.same s4
    refine⟨_,rfl,B.b,A.aK,B.dx,_,_,rfl,l4.ins,T.aV,T.jV,rfl,_,rfl,B,m,false,a,ns,rfl,l4,wf,s4.seq hn,ln,fun H5 s5=>⟨_,rfl,?_⟩⟩
    show if (m.land.all fun x=>bU m.land (im false ns x.1) (im false ns x.2))=true then _ else _
    cases cl:(m.land.all fun x=>bU m.land (im false ns x.1) (im false ns x.2)) with
    | false=>
     rw[cl,rg] at sym
     have z:=k H5 (s4.trans s5)
     rw[sym] at z
     exact bY z
    | true=>
     rw[cl,il] at sym
     have l5:=l4.same s5
     refine b9 ⟨_,rfl,B.b,A.aK,B.dx,_,_,rfl,l5.ins,T.aV,T.lT,rfl,_,rfl,B,m,true,a,ns,rfl,l5,wf,(s4.trans s5).seq hn,ln,fun H6 s6=>?_⟩
     have z:=k H6 ((s4.trans s5).trans s6)
     rw[sym] at z
     exact z
  ·rw[decide_eq_false (fun e=>c (QY e))]
   have e:o7 m ns=false:=Y7 fun h=>c ((Gg kp ks).mpr h)
   have z:=k H3 s13
   rw[e] at z
   exact b9 z
end
end Pb
namespace Pb
open PySem PySem.Spec PyProof.Rows L2 TL
open Vbsoab (provAt within)
abbrev zV (l:List Int):List V:=l.map V.int
def Z0 (b:af):List (Str×V):=[("board",.ref b)]
def clF (p e:Int) (na ra:af):List (Str×V):=[("number",.int p),("end",.int e),("numbers",.ref na),("rows",.ref ra)]
structure nN (A:Ad) (H:Hp) (d:af) (B:Bd) (m:aB):Prop where
 ins:∃dx,H d=some (.ins A.d_ dx (Z0 B.b))
 bd:dB A H B m
 wf:WF m
structure vL (A:Ad) (H:Hp) (c:af) (p e:Int) (xs:List Int) (rows:List (List Int)):Prop where
 at_:∃dx na ra as,H c=some (.ins A.cK dx (clF p e na ra))/\H na=some (.lst (zV xs))/\H ra=some (.lst (as.map V.ref))/\Paired (fun a r=>H a=some (.lst (zV r))) as rows
theorem vL.same {A:Ad} {H H':Hp} {c:af} {p e:Int} {xs:List Int} {rows:List (List Int)} (h:vL A H c p e xs rows) (s:bX H H'):vL A H' c p e xs rows:=by
 obtain⟨dx,na,ra,as,h1,h2,h3,h4⟩:=h.at_
 exact⟨dx,na,ra,as,s _ _ h1,s _ _ h2,s _ _ h3,Paired.PF h4 fun a r z=>s _ _ z⟩
theorem nN.same {A:Ad} {H H':Hp} {d:af} {B:Bd} {m:aB} (h:nN A H d B m) (s:bX H H'):nN A H' d B m:=⟨let ⟨dx,z⟩:=h.ins;⟨dx,s _ _ z⟩,h.bd.same s,h.wf⟩
theorem Ql {A:Ad} {H:Hp} {d:af} {B:Bd} {m:aB} (h:nN A H d B m):d∉own B:=fun hx=>by
 obtain⟨dx,hd⟩:=h.ins
 have l:=h.bd
 have lk:∀{a:af} {L:Lk},gD A H a L->d∈eQ L->False:=fun q h=>by
  obtain⟨kvs,hk⟩:=q.Fy h
  rw[hd] at hk;cases hk
 have hn:∀{c c' e e':af} {f g:List (Str×V)},(some (HO.ins c e f))=some (HO.ins c' e' g)->(f.map (·.1)).head?=(g.map (·.1)).head?:=fun z=>by
  injection z with z
  injection z with _ _ z
  rw[z]
 unfold own at hx
 simp only[bx,aF,fE,or_false] at hx
 rcases hx with (h | h | h | h | h | h | h | h) | h | h | h | h
 ·rw[h,l.ins] at hd;exact absurd (hn hd) (by show (some ("powers":Str))≠some "board";decide)
 ·rw[h,l.pw] at hd;cases hd
 ·rw[h,l.pv] at hd;cases hd
 ·rw[h,l.bw] at hd;cases hd
 ·rw[h,l.l0.ins] at hd;exact absurd (hn hd) (by show (some ("joined":Str))≠some "board";decide)
 ·rw[h,l.l1.ins] at hd;exact absurd (hn hd) (by show (some ("joined":Str))≠some "board";decide)
 ·rw[h,l.l2.ins] at hd;exact absurd (hn hd) (by show (some ("joined":Str))≠some "board";decide)
 ·rw[h,l.un] at hd;cases hd
 ·obtain⟨i,hi⟩:=dG h
  have lt:i<B.sh.length:=by rw[l.shl,<- l.tF];exact (ax.mp hi).1
  obtain⟨⟨dx',q⟩,_⟩:=l.prov i d _ hi (aR lt)
  rw[q] at hd;exact absurd (hn hd) (by show (some ("kind":Str))≠some "board";decide)
 ·exact lk l.l0 (by simpa [eQ] using h)
 ·exact lk l.l1 (by simpa [eQ] using h)
 ·exact lk l.l2 (by simpa [eQ] using h)
def hJ (A:Ad) (H:Hp) (d:af) (B:Bd) (m:aB) (ans:List Int) (Q:VK):Prop:=∀(H':Hp) (B':Bd) (D:af),nN A H' d B' m->(∀x o,H x=some o->x∉own B->x≠d->H' x=some o)->(∀x∈own B',x∈own B\/H x=none)->(∀x∈B'.sh,x∈B.sh\/x∈own B\/H x=none)->H' D=some (.lst (zV ans))->(D∈own B\/H D=none)->Q (.ref D) H'
theorem hJ.same {A:Ad} {H:Hp} {d:af} {B:Bd} {m:aB} {ans:List Int} {Q:VK} (h:hJ A H d B m ans Q) (dk:nN A H d B m) {H':Hp} {D:af} (s:bX H H') (hD:H' D=some (.lst (zV ans))) (fr:H D=none):Q (.ref D) H':=
 h H' B D (dk.same s) (fun x o e _ _=>s x o e) (fun x hx=>.inl hx) (fun x hx=>.inl hx) hD (.inr fr)
def out (a:Vbsoab.Answer):List Int:=a.nums++a.rows.flatMap fun r=>(r.length:Int)::Vbsoab.nums r
theorem eC {A:Ad} {H:Hp} {d:af} {B:Bd} {m:aB} {ans:List Int} {Q:VK} (h:hJ A H d B m ans Q) (dk:nN A H d B m) {H1:Hp} (s:bX H H1) {q:af} (hq:H1 q=none) {vs:List V} (e:vs=zV ans):Q (.ref q) (upd H1 q (.lst vs)):=
 h.same dk (s.trans (br hq)) (by rw[aw,e]) (s.free hq)
theorem V8 {A:Ad} {H:Hp} {B:Bd} {m:aB} (l:dB A H B m) {p:af} {o:HO} (hp:∀u,H p=some u->∃c d f,u=.ins c d f/\(f.map (·.1)).head?≠some "power") (np:p∉own B):dB A (upd H p o) B m:=by
 have kp:∀{x:af} {u:HO},H x=some u->x≠p->upd H p o x=some u:=fun e n=>by rw[aQ n];exact e
 have no:∀{x:af},x∈own B->x≠p:=fun h e=>np (e▸h)
 have nk:∀{x:af} {u:HO},H x=some u->(∀c d f,u=.ins c d f->(f.map (·.1)).head?=some "power")->x≠p:=fun {x u} e h q=>by
  rw[q] at e
  obtain⟨c,d,f,e1,e2⟩:=hp u e
  exact e2 (h c d f e1)
 have lk:∀{a:af} {L:Lk},gD A H a L->a∈own B->(∀x∈eQ L,x∈own B)->gD A (upd H p o) a L:=fun q h1 h2=>q.keep fun x u e h=>by
  rcases h with h | h
  ·rw[h] at e ⊢;exact kp e (no h1)
  ·exact kp e (no (h2 x h))
 refine⟨kp l.ins (no (by simp[own])),kp l.pw (no (by simp[own])),kp l.pv (no (by simp[own])),kp l.bw (no (by simp[own])),kp l.un (no (by simp[own])),lk l.l0 (by simp[own]) (fun x hx=>au _ (au _ (bJ _ hx))),lk l.l1 (by simp[own]) (fun x hx=>au _ (au _ (au _ (bJ _ hx)))),
  lk l.l2 (by simp[own]) (fun x hx=>au _ (au _ (au _ (au _ hx)))),l.tF,l.shl,l.FU,fun i a s h1 h2=>?_,fun i a u h1 h2=>?_,l.words,l.PU,l.PR,l.SS,l.t0,l.t1,l.dl,l.dp,l.Td,l.VZ,l.Tc,l.SV,l.RA,l.e0,l.e1,l.e2⟩
 ·obtain⟨⟨dx,z⟩,y⟩:=l.prov i a s h1 h2
  have ha:a∈own B:=au _ (bJ _ (aN h1))
  exact⟨⟨dx,kp z (no ha)⟩,kp y (nk y fun c d f e=>nomatch e)⟩
 ·obtain⟨dx,t,z,y⟩:=l.unit i a u h1 h2
  refine⟨dx,t,kp z (nk z fun c d f e=>?_),kp y (nk y fun c d f e=>nomatch e)⟩
  injection e with _ _ e
  rw[<- e];rfl
theorem R3 {A:Ad} {H:Hp} {B:Bd} {m:aB} (l:dB A H B m) {p:af} {ys:List V} {o:HO} (hp:H p=some (.lst ys)) (np:p∉own B) (ns:p∉B.sh):dB A (upd H p o) B m:=by
 have kp:∀{x:af} {u:HO},H x=some u->x≠p->upd H p o x=some u:=fun e n=>by rw[aQ n];exact e
 have no:∀{x:af},x∈own B->x≠p:=fun h e=>np (e▸h)
 have nk:∀{x:af} {u:HO},H x=some u->(∀z,u≠.lst z)->x≠p:=fun {x u} e h=>eD e hp (h _)
 have lk:∀{a:af} {L:Lk},gD A H a L->a∈own B->(∀x∈eQ L,x∈own B)->gD A (upd H p o) a L:=fun q h1 h2=>q.keep fun x u e h=>by
  rcases h with h | h
  ·rw[h] at e ⊢;exact kp e (no h1)
  ·exact kp e (no (h2 x h))
 refine⟨kp l.ins (no (by simp[own])),kp l.pw (no (by simp[own])),kp l.pv (no (by simp[own])),kp l.bw (no (by simp[own])),kp l.un (no (by simp[own])),lk l.l0 (by simp[own]) (fun x hx=>au _ (au _ (bJ _ hx))),lk l.l1 (by simp[own]) (fun x hx=>au _ (au _ (au _ (bJ _ hx)))),
  lk l.l2 (by simp[own]) (fun x hx=>au _ (au _ (au _ (au _ hx)))),l.tF,l.shl,l.FU,fun i a s h1 h2=>?_,fun i a u h1 h2=>?_,l.words,l.PU,l.PR,l.SS,l.t0,l.t1,l.dl,l.dp,l.Td,l.VZ,l.Tc,l.SV,l.RA,l.e0,l.e1,l.e2⟩
 ·obtain⟨⟨dx,z⟩,y⟩:=l.prov i a s h1 h2
  exact⟨⟨dx,kp z (nk z fun c w=>nomatch w)⟩,kp y fun e=>ns (e▸aN h2)⟩
 ·obtain⟨dx,t,z,y⟩:=l.unit i a u h1 h2
  exact⟨dx,t,kp z (nk z fun c w=>nomatch w),kp y (nk y fun c w=>nomatch w)⟩
theorem RZ (pre mid post:List Int) {a b:Int} (ha:a=(pre.length:Nat)) (hb:b=((pre.length+mid.length:Nat):Int)):E4 (zV (pre++mid++post)) (some a) (some b)=zV mid:=by
 subst ha hb
 unfold E4
 rw[HT.Rc,HT.Rc]
 have len:(zV (pre++mid++post)).length=pre.length+mid.length+post.length:=by rw[aa,aA,aA]
 rw[len,IX (by omega),IX (by omega)]
 rw[show pre.length+mid.length-pre.length=mid.length by omega,<- List.map_drop,<- Cs,cF,List.drop_left,List.take_left]
section
inductive Sz (A:Ad) (vs:List V) (H:Hp) (Q:VK) (E':XK):Prop
 | mk (p dx:af) (_:vs=[.ref p]) (_:H p=some (.ins A.d_ dx [])) (_:∀H' B,nN A H' p B {}->(∀x∈own B,H x=none)->En p H H'->Q .iE H')
theorem Nb (T:Tx K mg A):dy P w K mg base hX 5 A.AX A.Be xf (Sz A):=by
 exists T.Wm,MK,"o"
 ·obtain⟨p,dx,rfl,_⟩:=h
  rfl
 ·obtain⟨p,dx,rfl,hp,k⟩:=h
  refine⟨_,az (fO (pv 0) (sQ T.ND (BP T) hr rfl T.RM T.Ei .nil bR) rfl),?_⟩
  intro x dx' hx hdx ne
  refine⟨x,dx',rfl,aw,fun H1 B eb l ow bt=>⟨rfl,?_⟩⟩
  have s1:bX H H1:=bX.made hx hdx bt
  have free:∀y∈own B,H y=none:=fun y hy=>by
   rcases ow y hy with e | e
   ·rw[e];exact hx
   ·cases h:H y with
    | none=>rfl
    | some o=>
     have n1:y≠x:=aT h hx
     have n2:y≠dx':=aT h hdx
     rw[aQ n1,aQ n2,h] at e;cases e
  refine⟨_,rfl,p,A.d_,dx,[],rfl,s1 _ _ hp,T.fA,T.cN,by show 0<1000;decide,?_⟩
  have np:p∉own B:=fun z=>by rw[free p z] at hp;cases hp
  have l2:dB A (upd H1 p (.ins A.d_ dx (de "board" (.ref x) []))) B {}:=V8 l (fun u e=>by rw[s1 _ _ hp] at e;cases e;exact⟨_,_,_,rfl,fun z=>nomatch z⟩) np
  refine k _ B ⟨⟨dx,by rw[aw,<- eb];rfl⟩,l2,WF.empty⟩ free fun c u e n=>by rw[aQ n];exact s1 c u e
inductive F3 (K:ae) (vs:List V) (H:Hp) (Q:VK) (E':XK):Prop
 | mk (n:Int) (a:af) (xs:List V) (_:vs=[.int n,.ref a]) (_:cP K H a xs) (_:Q (.bl (within n 0 ((xs.length:Int)-1))) H)
theorem i7 (T:Tx K mg A):dy P w K mg base hX 1 A.ql A.qv oJ (F3 K):=by
 exists T.jW,Ez,"o"
 ·obtain⟨n,a,xs,rfl,_⟩:=h
  rfl
 ·obtain⟨n,a,xs,rfl,hs,k⟩:=h
  refine⟨_,az (a_ (Gj D0 DZ aS (pv 0) (bT bF rfl T.eU bf (ab (pv 1) aq)))),?_⟩
  unfold within at k
  refine⟨_,rfl,_,_,rfl,rfl,_,rfl,?_⟩
  by_cases c:(0:Int)<=n
  ·rw[decide_eq_true c] at k ⊢
   refine b9 ⟨_,rfl,a,_,rfl,.inl hs,_,_,rfl,rfl,?_⟩
   show Q (.bl (decide (n<(xs.length:Int)))) H
   rw[show decide (n<(xs.length:Int))=decide (n<=(xs.length:Int)-1) by rw[bq,decide_eq_true_eq,decide_eq_true_eq];omega]
   exact k
  ·rw[decide_eq_false c] at k ⊢
   exact bY k
end
end Pb
namespace Pb
open PySem PySem.Spec PyProof.Rows L2 TL
open Vbsoab (provAt within)
theorem DY {α β:Type} {F:α->β->Prop}:∀{l:List α} {k:List β},Paired F l k->∀{i:Nat} {b:β},k[i]?=some b->∃a,l[i]?=some a/\F a b
 | _,_,.nil,i,a,h=>by cases i <;> cases h
 | _,_,.cons q r,0,a,h=>by cases h;exact⟨_,rfl,q⟩
 | _,_,.cons q r,i+1,a,h=>by simpa using DY r (i:=i) (by simpa using h)
def Hj:List (List V):=[[.int 0,.int 1],[.int 0,.int 0],[.int 0,.int 1],[.int 0,.int 1],[.int 1,.int 0],[.int 1,.int 0],[.int 3,.int 0],[.int 5,.int 0],[.int 5,.int 0],[.int 0,.int 1],[.int 1,.int 2],[.int 0,.int 0],[.int 1,.int 0],[.int 0,.int 0],[.int 0,.int 0]]
theorem RP {p:Int} {n k:Nat} (h:fZ p=some (n,k)):∃i:Nat,p=(i:Int)/\Hj[i]?=some [V.int (n:Nat),V.int (k:Nat)]:=by
 unfold fZ at h
 have cut:∀{a b:Nat},some (a,b)=some (n,k)->n=a/\k=b:=fun e=>by injection e with e;injection e with e1 e2;exact⟨e1.symm,e2.symm⟩
 by_cases c:p=0
 ·rw[if_pos c] at h;obtain⟨rfl,rfl⟩:=cut h;exact⟨0,c,rfl⟩
 rw[if_neg c] at h;clear c;by_cases c:p=1
 ·rw[if_pos c] at h;obtain⟨rfl,rfl⟩:=cut h;exact⟨1,c,rfl⟩
 rw[if_neg c] at h;clear c;by_cases c:p=2
 ·rw[if_pos c] at h;obtain⟨rfl,rfl⟩:=cut h;exact⟨2,c,rfl⟩
 rw[if_neg c] at h;clear c;by_cases c:p=3
 ·rw[if_pos c] at h;obtain⟨rfl,rfl⟩:=cut h;exact⟨3,c,rfl⟩
 rw[if_neg c] at h;clear c;by_cases c:p=4
 ·rw[if_pos c] at h;obtain⟨rfl,rfl⟩:=cut h;exact⟨4,c,rfl⟩
 rw[if_neg c] at h;clear c;by_cases c:p=5
 ·rw[if_pos c] at h;obtain⟨rfl,rfl⟩:=cut h;exact⟨5,c,rfl⟩
 rw[if_neg c] at h;clear c;by_cases c:p=6
 ·rw[if_pos c] at h;obtain⟨rfl,rfl⟩:=cut h;exact⟨6,c,rfl⟩
 rw[if_neg c] at h;clear c;by_cases c:p=7
 ·rw[if_pos c] at h;obtain⟨rfl,rfl⟩:=cut h;exact⟨7,c,rfl⟩
 rw[if_neg c] at h;clear c;by_cases c:p=8
 ·rw[if_pos c] at h;obtain⟨rfl,rfl⟩:=cut h;exact⟨8,c,rfl⟩
 rw[if_neg c] at h;clear c;by_cases c:p=9
 ·rw[if_pos c] at h;obtain⟨rfl,rfl⟩:=cut h;exact⟨9,c,rfl⟩
 rw[if_neg c] at h;clear c;by_cases c:p=10
 ·rw[if_pos c] at h;obtain⟨rfl,rfl⟩:=cut h;exact⟨10,c,rfl⟩
 rw[if_neg c] at h;clear c;by_cases c:p=11
 ·rw[if_pos c] at h;obtain⟨rfl,rfl⟩:=cut h;exact⟨11,c,rfl⟩
 rw[if_neg c] at h;clear c;by_cases c:p=12
 ·rw[if_pos c] at h;obtain⟨rfl,rfl⟩:=cut h;exact⟨12,c,rfl⟩
 rw[if_neg c] at h;clear c;by_cases c:p=13
 ·rw[if_pos c] at h;obtain⟨rfl,rfl⟩:=cut h;exact⟨13,c,rfl⟩
 rw[if_neg c] at h;clear c;by_cases c:p=14
 ·rw[if_pos c] at h;obtain⟨rfl,rfl⟩:=cut h;exact⟨14,c,rfl⟩
 rw[if_neg c] at h;cases h
theorem JO (a b:List (List Int)):gb (a++b)=gb a++gb b:=by unfold gb;rw[gB]
theorem RF (pre post:List Int) (x:Int):(zV (pre++x::post))[pre.length]?=some (V.int x):=by
 rw[aX,eO (aC _),qJ];rfl
section
abbrev pe3 (a b:List Int) (p:Int):List (Str×V):=de "end" (.int (((a.length:Nat):Int)+1+((b.length:Nat):Int))) (de "number" (.int p) [])
inductive SD (K:ae) (A:Ad) (vs:List V) (H:Hp) (Q:VK) (E':XK):Prop
 | mk (c dx ca:af) (l pre post:List Int) (p:Int) (xs:List Int) (rows:List (List Int)) (_:vs=[.ref c,.ref ca,.int (pre.length:Nat)]) (_:H c=some (.ins A.cK dx [])) (_:cP K H ca (zV l)) (_:l=pre++((p::xs)++gb rows)++post) (_:fZ p=some (xs.length,rows.length)) (_:rows.length<=1000) (_:∀H',vL A H' c p ((pre.length+((p::xs)++gb rows).length:Nat):Int) xs rows->En c H H'->Q .iE H')
theorem Nc (T:Tx K mg A):dy P w K mg base hX 1 A.AY A.Bf xg (SD K A):=by
 exists T.Wo,DV,"o"
 ·obtain⟨c,dx,ca,l,pre,post,p,xs,rows,rfl,_⟩:=h
  rfl
 ·obtain⟨c,dx,ca,l,pre,post,p,xs,rows,rfl,hc,hl,el,sh,hE,k⟩:=h
  have nd:=DV.nd
  have sl:ao=16777216:=bI
  refine⟨_,aj (cA (i:=3) nd rfl (bC rfl) (bW dH (YB T.XY) (bW b8 (pv 1) (pv 2) (fun _ _=>rfl)) (fun _ _=>rfl)))
   (aj (fO (pv 0) (bW b8 (pv 1) (pv 2) (fun _ _=>rfl)) rfl)
   (aj (fO (pv 0) (jo xo (jo xo (pv 2) aS) (bW dH (pv 3) aS (fun _ _=>rfl))) rfl)
   (aj (fO (pv 0) (xk Fl (pv 1) (uk (jo xo (pv 2) aS)) (uk (aJ (pv 0) rfl))) rfl)
   (aj (fO (pv 0) (c9 aq) rfl)
   (az (lF cS rfl (CK rfl T.Fu (ab (bW dH (pv 3) aS (fun _ _=>rfl)) aq)) (df (i:=4) nd rfl (bC rfl))
    (aj (cA (i:=5) nd rfl (bC rfl) (bW b8 (pv 1) (aJ (pv 0) rfl) (fun _ _=>rfl)))
    (aj (eI (j8 bG cH cG gC (aJ (pv 0) rfl) (ab (xk Fl (pv 1) (uk (jo xo (aJ (pv 0) rfl) aS)) (uk (jo xo (jo xo (aJ (pv 0) rfl) aS) (pv 5)))) aq)))
    (az (Jx (pv 0) (jo xo aS (pv 5)) Vv)))))))))),?_⟩
  obtain⟨i,ep,fr⟩:=RP sh
  obtain⟨fas,ft,fp⟩:=T.WR
  obtain⟨fb,hfb,kfb⟩:=DY fp fr
  have gp:(zV l)[pre.length]?=some (V.int p):=by rw[el,cF,iM,iM];exact RF _ _ _
  refine⟨_,rfl,_,rfl,ca,_,_,_,rfl,rfl,hl,aW (j:=pre.length) gp,A.LG,_,_,_,rfl,rfl,ft.sq _,by rw[ep];exact aW (j:=i) (by rw[aX,hfb];rfl),?_⟩
  refine⟨_,rfl,_,rfl,ca,_,_,_,rfl,rfl,hl,aW (j:=pre.length) gp,_,rfl,c,A.cK,dx,_,rfl,hc,T.dQ,T.zB,by show 0<1000;decide,?_⟩
  have i1:=@aw H c (.ins A.cK dx (de "number" (.int p) []))
  have b1:En c H (upd H c (.ins A.cK dx (de "number" (.int p) []))):=gm
  generalize upd H c (.ins A.cK dx (de "number" (.int p) []))=H1 at i1 b1
  have ncl:∀{H':Hp},En c H H'->cP K H' ca (zV l):=fun {H'} b=>by
   rcases hl with (h | ⟨o,h⟩) | h
   ·exact .inl (.inl (b _ _ h (eD h hc (fun z=>nomatch z))))
   ·exact .inl (.inr ⟨o,b _ _ h (eD h hc (fun z=>nomatch z))⟩)
   ·exact .inr h
  have k0:=kfb.sq H1
  refine⟨_,rfl,_,_,rfl,rfl,_,rfl,fb,_,0,_,rfl,rfl,kfb.sq _,aW (j:=0) rfl,_,_,rfl,rfl,_,rfl,c,A.cK,dx,_,rfl,i1,T.dQ,T.lH,by show 1<1000;decide,?_⟩
  have ee:((pre.length:Nat):Int)+1+((xs.length:Nat):Int)=((pre.length+1+xs.length:Nat):Int):=by omega
  have i2:=@aw H1 c (.ins A.cK dx (pe3 pre xs p))
  have b2:En c H (upd H1 c (.ins A.cK dx (pe3 pre xs p))):=b1.trans gm
  generalize upd H1 c (.ins A.cK dx (pe3 pre xs p))=H2 at i2 b2
  refine⟨_,rfl,_,rfl,_,_,rfl,rfl,_,rfl,_,rfl,c,A.cK,dx,_,_,rfl,i2,T.dQ,T.lH,rfl,_,rfl,ca,_,rfl,ncl b2,fun na hna=>?_⟩
  have cm:E4 (zV l) (some (((pre.length:Nat):Int)+1)) (some (((pre.length:Nat):Int)+1+((xs.length:Nat):Int)))=zV xs:=by
   have e1:l=(pre++[p])++xs++(gb rows++post):=by rw[el];simp
   rw[e1]
   exact RZ _ _ _ (by rw[aA,bS];omega) (by rw[aA,bS];omega)
  rw[cm]
  have nca:c≠na:=aT i2 hna
  have i3:upd H2 na (.lst (zV xs)) c=some (.ins A.cK dx (pe3 pre xs p)):=by rw[aQ nca];exact i2
  refine⟨_,rfl,c,A.cK,dx,_,rfl,i3,T.dQ,T.di,by show 2<1000;decide,?_⟩
  have n4:upd (upd H2 na (.lst (zV xs))) c (.ins A.cK dx (de "numbers" (.ref na) (pe3 pre xs p))) na=some (.lst (zV xs)):=by rw[aQ (bK nca),aw]
  have i4:=@aw (upd H2 na (.lst (zV xs))) c (.ins A.cK dx (de "numbers" (.ref na) (pe3 pre xs p)))
  have b4:En c H (upd (upd H2 na (.lst (zV xs))) c (.ins A.cK dx (de "numbers" (.ref na) (pe3 pre xs p)))):=(b2.trans (Lu (br hna))).trans gm
  generalize upd (upd H2 na (.lst (zV xs))) c (.ins A.cK dx (de "numbers" (.ref na) (pe3 pre xs p)))=H4 at n4 i4 b4
  refine⟨cu _,fun ra hra=>?_⟩
  have ncr:c≠ra:=aT i4 hra
  have nnr:na≠ra:=aT n4 hra
  refine⟨_,rfl,c,A.cK,dx,_,rfl,by rw[aQ ncr];exact i4,T.dQ,T.iI,by show 3<1000;decide,?_⟩
  have i5:upd (upd H4 ra (.lst [])) c (.ins A.cK dx (de "rows" (.ref ra) (de "numbers" (.ref na) (pe3 pre xs p)))) c=some (.ins A.cK dx (clF p (((pre.length:Nat):Int)+1+((xs.length:Nat):Int)) na ra)):=aw
  have n5:upd (upd H4 ra (.lst [])) c (.ins A.cK dx (de "rows" (.ref ra) (de "numbers" (.ref na) (pe3 pre xs p)))) na=some (.lst (zV xs)):=by rw[aQ (bK nca),aQ nnr];exact n4
  have r5:upd (upd H4 ra (.lst [])) c (.ins A.cK dx (de "rows" (.ref ra) (de "numbers" (.ref na) (pe3 pre xs p)))) ra=some (.lst []):=by rw[aQ (bK ncr),aw]
  have b5:En c H (upd (upd H4 ra (.lst [])) c (.ins A.cK dx (de "rows" (.ref ra) (de "numbers" (.ref na) (pe3 pre xs p))))):=(b4.trans (Lu (br hra))).trans gm
  have hra0:H ra=none:=b4.free ⟨_,i4⟩ hra
  generalize upd (upd H4 ra (.lst [])) c (.ins A.cK dx (de "rows" (.ref ra) (de "numbers" (.ref na) (pe3 pre xs p))))=H5 at i5 n5 r5 b5
  refine⟨_,rfl,fb,_,1,_,rfl,rfl,kfb.sq _,aW (j:=1) rfl,_,rfl,by omega,by omega,?_⟩
  rw[cZ]
  refine JN (lo:=0) (n:=rows.length) (fun j σ H'=>∃(v4 v5:Option V) (as:List af),σ=[some (.ref c),some (.ref ca),some (.int (pre.length:Nat)),some (.ref fb),v4,v5]/\En c H H'/\H' c=some (.ins A.cK dx (clF p ((pre.length+1+xs.length+(gb (rows.take j)).length:Nat):Int) na ra))/\H' na=some (.lst (zV xs))/\H' ra=some (.lst (as.map V.ref))/\Paired (fun a r=>H' a=some (.lst (zV r))) as (rows.take j)/\∀a∈as,a≠ra)
   ⟨none,none,[],rfl,b5,by rw[i5,ee];simp[gb],n5,r5,by rw[zN];exact .nil,fun a ha=>by cases ha⟩ ?_ ?_
  ·rintro j σ H6 hj ⟨v4,v5,as,rfl,b6,i6,n6,r6,pa,nra⟩
   have hrj:rows[j]?=some rows[j]:=aR hj
   generalize rows[j]=r at hrj
   have dr:rows=rows.take j++r::rows.drop (j+1):=by
    conv=>lhs;rw[<- om j rows,kU hj]
    rw[(ax.mp hrj).2]
   have fl:gb rows=gb (rows.take j)++((r.length:Int)::r)++gb (rows.drop (j+1)):=by
    conv=>lhs;rw[dr]
    rw[JO]
    simp[gb]
   have ge:(zV l)[pre.length+1+xs.length+(gb (rows.take j)).length]?=some (V.int (r.length:Nat)):=by
    have e1:l=(pre++p::xs++gb (rows.take j))++(r.length:Int)::(r++gb (rows.drop (j+1))++post):=by rw[el,fl];simp
    have:=RF (pre++p::xs++gb (rows.take j)) (r++gb (rows.drop (j+1))++post) (r.length:Int)
    rw[<- e1] at this
    have e2:(pre++p::xs++gb (rows.take j)).length=pre.length+1+xs.length+(gb (rows.take j)).length:=by simp;omega
    rw[e2] at this
    exact this
   have cr:E4 (zV l) (some (((pre.length+1+xs.length+(gb (rows.take j)).length:Nat):Int)+1)) (some (((pre.length+1+xs.length+(gb (rows.take j)).length:Nat):Int)+1+((r.length:Nat):Int)))=zV r:=by
    have e1:l=(pre++p::xs++gb (rows.take j)++[(r.length:Int)])++r++(gb (rows.drop (j+1))++post):=by rw[el,fl];simp
    rw[e1]
    exact RZ _ _ _ (by simp;omega) (by simp;omega)
   refine⟨_,rfl,_,rfl,c,A.cK,dx,_,_,rfl,i6,T.dQ,T.lH,rfl,ca,_,_,_,rfl,rfl,ncl b6,aW ge,?_⟩
   refine⟨_,rfl,c,A.cK,dx,_,_,rfl,i6,T.dQ,T.iI,rfl,.inl ⟨rfl,_,cP.of r6⟩,_,rfl,_,rfl,c,A.cK,dx,_,_,rfl,i6,T.dQ,T.lH,rfl,_,_,rfl,rfl,_,rfl,_,rfl,c,A.cK,dx,_,_,rfl,i6,T.dQ,T.lH,rfl,_,_,rfl,rfl,_,rfl,_,_,rfl,rfl,_,rfl,ca,_,rfl,ncl b6,fun q hq=>?_⟩
   rw[cr]
   have sq:bX H6 (upd H6 q (.lst (zV r))):=br hq
   have q7:upd H6 q (.lst (zV r)) q=some (.lst (zV r)):=aw
   have nqr:q≠ra:=fun e=>by rw[e,r6] at hq;cases hq
   have nqc:q≠c:=fun e=>by rw[e,i6] at hq;cases hq
   generalize upd H6 q (.lst (zV r))=H7 at sq q7
   have lna:as.length<=rows.length:=by have:=eK pa;rw[cx] at this;omega
   refine⟨ra,_,_,rfl,rfl,sq _ _ r6,by rw[aa];omega,?_⟩
   have i8:upd H7 ra (.lst (as.map V.ref++[.ref q])) c=some (.ins A.cK dx (clF p ((pre.length+1+xs.length+(gb (rows.take j)).length:Nat):Int) na ra)):=by rw[aQ ncr];exact sq _ _ i6
   refine⟨_,rfl,c,A.cK,dx,_,_,rfl,i8,T.dQ,T.lH,rfl,_,rfl,_,_,rfl,rfl,_,_,rfl,rfl,dx,_,i8,by show 4<1000;decide,?_⟩
   have kp:∀x o,H6 x=some o->x≠c->x≠ra->∀u,upd (upd H7 ra (.lst (as.map V.ref++[.ref q]))) c u x=some o:=fun x o e n1 n2 u=>by rw[aQ n1,aQ n2];exact sq x o e
   refine⟨_,_,as++[q],rfl,fun x o e n=>kp x o (b6 x o e n) n (aT e hra0) _,?_,kp _ _ n6 (bK nca) nnr _,by rw[aQ (bK ncr),aw,bh];rfl,?_,fun a ha=>?_⟩
   ·rw[aw]
    have e3:((pre.length+1+xs.length+(gb (rows.take j)).length:Nat):Int)+(1+((r.length:Nat):Int))=((pre.length+1+xs.length+(gb (rows.take (j+1))).length:Nat):Int):=by
     rw[take_snoc hrj,JO]
     simp[gb]
     omega
    show some (HO.ins A.cK dx (clF p (((pre.length+1+xs.length+(gb (rows.take j)).length:Nat):Int)+(1+((r.length:Nat):Int))) na ra))=_
    rw[e3]
   ·rw[take_snoc hrj]
    refine sv (qb pa fun a b ma z=>kp _ _ z (eD z i6 (fun z=>nomatch z)) (nra a ma) _) ?_
    rw[aQ nqc,aQ nqr];exact q7
   ·rcases bx.mp ha with z | z
    ·exact nra a z
    ·rw[aY.mp z];exact nqr
  ·rintro σ H6 ⟨v4,v5,as,rfl,b6,i6,n6,r6,pa,nra⟩
   rw[bM] at i6 pa
   refine k H6 ⟨dx,na,ra,as,?_,n6,r6,pa⟩ b6
   rw[i6]
   congr 4
   simp
   omega
end
end Pb
namespace Pb
open PySem PySem.Spec PyProof.Rows L2 TL
open Vbsoab (provAt within exactly placeOf powerOf isProv step nums bit)
open VbsoabNeutral (bytesOf)
def Em (n:Nat) (r:List Int):Prop:=r.length<=n/\∀x∈r,0<=x/\x<=255
theorem sO {n:Nat} {r:List Int} (h:Em n r):zV r=(dM r).map fun b:Nat=>V.int b:=by
 unfold dM
 rw[cz]
 refine eX fun x hx=>?_
 have:=(h.2 x hx).1
 show V.int x=V.int ((x.toNat:Nat):Int)
 rw[Cu this]
theorem nM {n:Nat} {r:List Int} (h:Em n r):(dM r).length<=n:=by unfold dM;rw[aa];exact h.1
theorem Fs (l:List Nat):zV (nums l)=lG l:=by unfold nums lG zV;rw[cz];rfl
theorem Fn (l:List Nat):(iZ l).length=l.length:=by unfold iZ;rw[aa]
theorem SH {l:List Nat}:∀c∈iZ l,T7 c=true\/c=9\/c=10:=fun c hc=>by
 obtain⟨b,hb,rfl⟩:=a9.mp hc
 rcases UK b with h | h | h | h | h | h | h
 ·left
  have:=BW.mp h
  simp[T7]
  omega
 ·exact .inr (.inl h)
 ·exact .inr (.inr h)
 all_goals (left;rw[h];decide)
theorem Hr {A:Ad} {H:Hp} {c:af} {p e:Int} {xs:List Int} {r:List Int} {rest:List (List Int)} (h:vL A H c p e xs (r::rest)):∃dx na ra as a,H c=some (.ins A.cK dx (clF p e na ra))/\H ra=some (.lst ((a::as).map V.ref))/\H a=some (.lst (zV r))/\Paired (fun a r=>H a=some (.lst (zV r))) as rest/\H na=some (.lst (zV xs)):=by
 obtain⟨dx,na,ra,as,h1,h2,h3,h4⟩:=h.at_
 cases h4 with
 | cons q t=>exact⟨dx,na,ra,_,_,h1,h3,q,t,h2⟩
section
inductive Q8 (A:Ad) (vs:List V) (H:Hp) (Q:VK) (E':XK):Prop
 | mk (d c:af) (B:Bd) (m:aB) (e:Int) (t:List Int) (_:vs=[.ref d,.ref c]) (_:nN A H d B m) (_:vL A H c 0 e [] [t]) (_:Em 16900 t) (_:hJ A H d B (step m (.read (dM t))).1 (out (step m (.read (dM t))).2) Q)
theorem Gw (T:Tx K mg A):dy P w K mg base hX 9 A.i_ A.nW mo (Q8 A):=by
 exists T.Ej,wJ,"o"
 ·obtain⟨d,c,B,m,e,t,rfl,_⟩:=h
  rfl
 ·obtain⟨d,c,B,m,e,t,rfl,dk,cl,ro,k⟩:=h
  have nd:=wJ.nd
  refine⟨_,aj (cA (i:=2) nd rfl (bC rfl) (sQ T.ND (BP T) (hr.mono (by decide)) rfl T.RM T.Ei .nil bR))
   (aj (cA (i:=3) nd rfl (bC rfl) (bP (M4 T) hr rfl T.P4 T.MO.kp T.Qr .nil bR (ab (pv 2) (ab (bP (qc T) (hr.mono (by decide)) rfl T.sX T.yF.kp T.s_ .nil bR (ab (bW b8 (aJ (pv 1) rfl) aS (fun _ _=>rfl)) aq)) aq))))
   (aj (cV (ip (Xy (pv 3))) (az (a_ (c9 (ab aS (ab (bW dH (pv 3) aS (fun _ _=>rfl)) (ab (bW dH (pv 3) aS (fun _ _=>rfl)) aq)))))) bO)
   (aj (fO (pv 0) (pv 2) rfl)
   (az (a_ (c9 (ab aS (ab (bT bF rfl T.eU bf (ab (aJ (pv 2) rfl) aq)) aq)))))))),?_⟩
  intro x dx' hx hdx ne
  refine⟨x,dx',rfl,aw,fun H1 B2 eb l2 ow bt=>⟨rfl,?_⟩⟩
  have s1:bX H H1:=bX.made hx hdx bt
  have free:∀y∈own B2,H y=none:=fun y hy=>by
   rcases ow y hy with e | e
   ·rw[e];exact hx
   ·cases h:H y with
    | none=>rfl
    | some o=>
     have n1:y≠x:=aT h hx
     have n2:y≠dx':=aT h hdx
     rw[aQ n1,aQ n2,h] at e;cases e
  obtain⟨cdx,na,ra,as,ta,hc,hra,hta,_,_⟩:=Hr (cl.same s1)
  refine⟨_,rfl,_,rfl,c,A.cK,cdx,_,_,rfl,hc,T.dQ,T.iI,rfl,ra,_,0,_,rfl,rfl,cP.of hra,aW (j:=0) rfl,ta,dM t,rfl,cP.of (by rw[<- sO ro];exact hta),by have:=nM ro;omega,fun H2 s2=>?_⟩
  have rd:Vbsoab.readFrom 1 {} (cC (iZ (dM t)))=E9 (dM t):=Xm (dM t)
  have l22:=l2.same s2
  have s12:=s1.trans s2
  refine⟨B2,{},iZ (dM t),by rw[eb];rfl,l22,WF.empty,by rw[Fn];have:=nM ro;omega,SH,fun p hp H3 a o3 ha=>?_,fun m' hm H3 B3 mv l3 wf3=>?_⟩
  ·rw[rd] at hp
   have e1:step m (.read (dM t))=(m,{ nums:=[1,(p.1:Int),(p.2:Int)] }):=by show (match E9 (dM t) with | .error e=>_ | .ok x=>_)=_;rw[hp]
   rw[e1] at k
   have s3:bX H H3:=fun y o ey=>o3 y o (s12 y o ey) fun z=>by rw[free y z] at ey;cases ey
   refine⟨_,rfl,_,rfl,b9 ⟨_,rfl,a,_,0,_,rfl,rfl,iC.of ha,aW (j:=0) rfl,_,rfl,a,_,1,_,rfl,rfl,iC.of ha,aW (j:=1) rfl,by show 3<=ao;decide,fun q hq=>?_⟩⟩
   exact eC k dk s3 hq rfl
  ·rw[rd] at hm
   have e1:step m (.read (dM t))=(m',{ nums:=[0,(m'.provinces.length:Int)] }):=by show (match E9 (dM t) with | .error e=>_ | .ok x=>_)=_;rw[hm]
   rw[e1] at k
   have s3:bX H H3:=fun y o ey=>mv.out y o (s12 y o ey) fun z=>by rw[free y z] at ey;cases ey
   obtain⟨ddx,hd⟩:=dk.ins
   have own3:∀y∈own B3,H y=none:=fun y hy=>by
    rcases mv.own y hy with z | z
    ·exact free y z
    ·exact s12.free z
   have sh3:∀y∈B3.sh,H y=none:=fun y hy=>by
    rcases mv.sh y hy with z | z | z
    ·have e0:B2.sh=[]:=mL.mp l2.shl
     rw[e0] at z;cases z
    ·exact free y z
    ·exact s12.free z
   have nd3:d∉own B3:=fun z=>by rw[own3 d z] at hd;cases hd
   refine⟨_,rfl,_,rfl,bY ⟨_,rfl,_,rfl,d,A.d_,ddx,_,rfl,s3 _ _ hd,T.fA,T.cN,by show 1<1000;decide,?_⟩⟩
   have l4:dB A (upd H3 d (.ins A.d_ ddx (de "board" (.ref x) (Z0 B.b)))) B3 m':=V8 l3 (fun u eu=>by rw[s3 _ _ hd] at eu;cases eu;exact⟨_,_,_,rfl,by show (some ("board":Str))≠some "power";decide⟩) nd3
   have b3:B3.b=x:=mv.b.trans eb
   have d4:upd H3 d (.ins A.d_ ddx (de "board" (.ref x) (Z0 B.b))) d=some (.ins A.d_ ddx (Z0 B3.b)):=by rw[aw,b3];rfl
   have kp:∀y o,H y=some o->y≠d->upd H3 d (.ins A.d_ ddx (de "board" (.ref x) (Z0 B.b))) y=some o:=fun y o ey n=>by rw[aQ n];exact s3 y o ey
   have fr:∀y,upd H3 d (.ins A.d_ ddx (de "board" (.ref x) (Z0 B.b))) y=none->H y=none:=fun y hy=>by
    by_cases c:y=d
    ·rw[c,aw] at hy;cases hy
    ·rw[aQ c] at hy;exact s3.free hy
   generalize upd H3 d (.ins A.d_ ddx (de "board" (.ref x) (Z0 B.b)))=H4 at l4 d4 kp fr
   have hb4:H4 x=some (.ins A.aK B3.dx (Z8 B3)):=by rw[<- b3];exact l4.ins
   refine⟨_,rfl,x,A.aK,B3.dx,_,_,rfl,hb4,T.aV,T.bA,rfl,B3.pv,_,rfl,.inl (cP.of l4.pv),by show 2<=ao;decide,fun q hq=>?_⟩
   have sq:bX H4 (upd H4 q (.lst [V.int 0,V.int (((B3.ps.map V.ref).length:Nat):Int)])):=br hq
   refine k _ B3 q ⟨⟨ddx,sq _ _ d4⟩,l4.same sq,wf3⟩ (fun y o ey _ n=>sq _ _ (kp y o ey n)) (fun y hy=>.inr (own3 y hy)) (fun y hy=>.inr (.inr (sh3 y hy))) ?_ (.inr (fr q hq))
   rw[aw,aa,l4.tF]
   rfl
inductive Ms (A:Ad) (vs:List V) (H:Hp) (Q:VK) (E':XK):Prop
 | mk (d c:af) (B:Bd) (m:aB) (_:vs=[.ref d,.ref c]) (_:nN A H d B m) (_:hJ A H d B (step m .print).1 (out (step m .print).2) Q)
theorem EH (T:Tx K mg A):dy P w K mg base hX 5 A.iq A.mC kZ (Ms A):=by
 exists T.Cg,EA,"o"
 ·obtain⟨d,c,B,m,rfl,_⟩:=h
  rfl
 ·obtain⟨d,c,B,m,rfl,dk,k⟩:=h
  have sl:ao=16777216:=bI
  refine⟨_,az (a_ (jo rH (c9 (ab aS aq)) (bP (Aq T) (hr.mono (by decide)) rfl T.C' T.Fz.kp T.DA .nil bR (ab (bP (Pq T) hr rfl T.S4 T.printed.kp T.Tn .nil bR (ab (aJ (pv 0) rfl) aq)) aq)))),?_⟩
  obtain⟨ddx,hd⟩:=dk.ins
  have pl:=Jy dk.wf
  refine⟨by show 1<=ao;decide,fun q hq=>?_⟩
  have s1:bX H (upd H q (.lst [V.int 0])):=br hq
  have q1:upd H q (.lst [V.int 0]) q=some (.lst [V.int 0]):=aw
  generalize upd H q (.lst [V.int 0])=H1 at s1 q1
  refine⟨_,rfl,d,A.d_,ddx,_,_,rfl,s1 _ _ hd,T.fA,T.cN,rfl,B,m,rfl,dk.bd.same s1,dk.wf,fun H2 s2=>⟨pF m,rfl,by omega,fun H3 D s3 hD hD0=>?_⟩⟩
  have s23:=s2.trans s3
  refine⟨q,D,_,_,rfl,rfl,s23 _ _ q1,hD,by simp;omega,fun r hr2=>eC k dk (s1.trans s23) hr2 ?_⟩
  show [V.int 0]++_=zV ([0]++[pF m].flatMap fun r=>(r.length:Int)::nums r)
  simp[nums,QS]
inductive Mu (A:Ad) (vs:List V) (H:Hp) (Q:VK) (E':XK):Prop
 | mk (d c:af) (B:Bd) (m:aB) (e:Int) (t:List Int) (_:vs=[.ref d,.ref c]) (_:nN A H d B m) (_:vL A H c 3 e [] [t]) (_:Em 40 t) (_:hJ A H d B (step m (.place (dM t))).1 (out (step m (.place (dM t))).2) Q)
theorem EJ (T:Tx K mg A):dy P w K mg base hX 3 A.iw A.mE k6 (Mu A):=by
 exists T.Cj,u9,"o"
 ·obtain⟨d,c,B,m,e,t,rfl,_⟩:=h
  rfl
 ·obtain⟨d,c,B,m,e,t,rfl,dk,cl,ro,k⟩:=h
  have nd:=u9.nd
  refine⟨_,aj (cA (i:=2) nd rfl (bC rfl) (dY (aJ (pv 0) rfl) T.aV T.ie (gS T) (hr.mono (by decide)) T.ig .nil bR (ab (bP (qc T) hr rfl T.sX T.yF.kp T.s_ .nil bR (ab (bW b8 (aJ (pv 1) rfl) aS (fun _ _=>rfl)) aq)) aq)))
   (aj (cV (ip (rG (pv 2))) (az (a_ (c9 (ab (lZ T.Qb) aq)))) bO)
   (az (a_ (c9 (ab aS (ab (bW dH (pv 2) aS (fun _ _=>rfl)) (ab (bW dH (pv 2) aS (fun _ _=>rfl)) aq))))))),?_⟩
  obtain⟨ddx,hd⟩:=dk.ins
  obtain⟨cdx,na,ra,as,ta,hc,hra,hta,_,_⟩:=Hr cl
  have pe:placeOf m (iZ (dM t))=placeOf m (dM t):=Aj dk.wf.gn _
  have st:step m (.place (dM t))=match placeOf m (dM t) with | none=>(m,iF (-3)) | some x=>(m,{ nums:=0::nums [x.1,x.2] }):=rfl
  refine⟨_,rfl,d,A.d_,ddx,_,_,rfl,hd,T.fA,T.cN,rfl,B.b,B.dx,_,rfl,dk.bd.ins,rfl,_,rfl,c,A.cK,cdx,_,_,rfl,hc,T.dQ,T.iI,rfl,ra,_,0,_,rfl,rfl,cP.of hra,aW (j:=0) rfl,ta,dM t,rfl,cP.of (by rw[<- sO ro];exact hta),by have:=nM ro;omega,fun H1 s1=>?_⟩
  refine⟨B,m,iZ (dM t),rfl,dk.bd.same s1,dk.wf,by rw[Fn];have:=nM ro;omega,fun e0 H2 s2=>?_,fun y e0 H2 tt s2 htt _=>?_⟩
  ·rw[pe] at e0
   rw[st,e0] at k
   exact⟨_,rfl,_,rfl,b9 ⟨by show 1<=ao;decide,fun q hq=>eC k dk (s1.trans s2) hq rfl⟩⟩
  ·rw[pe] at e0
   rw[st,e0] at k
   exact⟨_,rfl,_,rfl,bY ⟨_,rfl,tt,_,0,_,rfl,rfl,iC.of htt,aW (j:=0) rfl,_,rfl,tt,_,1,_,rfl,rfl,iC.of htt,aW (j:=1) rfl,by show 3<=ao;decide,fun q hq=>eC k dk (s1.trans s2) hq rfl⟩⟩
inductive Mt (A:Ad) (vs:List V) (H:Hp) (Q:VK) (E':XK):Prop
 | mk (d c:af) (B:Bd) (m:aB) (e i:Int) (_:vs=[.ref d,.ref c]) (_:nN A H d B m) (_:vL A H c 5 e [i] []) (_:hJ A H d B (step m (.power i)).1 (out (step m (.power i)).2) Q)
theorem EI (T:Tx K mg A):dy P w K mg base hX 3 A.iu A.mD k5 (Mt A):=by
 exists T.Ci,u7,"o"
 ·obtain⟨d,c,B,m,e,i,rfl,_⟩:=h
  rfl
 ·obtain⟨d,c,B,m,e,i,rfl,dk,cl,k⟩:=h
  have nd:=u7.nd
  have sl:ao=16777216:=bI
  refine⟨_,aj (cA (i:=2) nd rfl (bC rfl) (bW b8 (aJ (pv 1) rfl) aS (fun _ _=>rfl)))
   (aj (cV (kf (fB (bP (i7 T) (hr.mono (by decide)) rfl T.jH T.jW.kp T.jM .nil bR (ab (pv 2) (ab (aJ (aJ (pv 0) rfl) rfl) aq))))) (az (a_ (c9 (ab (lZ T.f') aq)))) bO)
   (az (a_ (jo rH (c9 (ab aS aq)) (bP (Aq T) hr rfl T.C' T.Fz.kp T.DA .nil bR (ab (bW b8 (aJ (aJ (pv 0) rfl) rfl) (pv 2) (fun _ _=>rfl)) aq)))))),?_⟩
  obtain⟨ddx,hd⟩:=dk.ins
  obtain⟨cdx,na,ra,as,hc,hna,_,_⟩:=cl.at_
  have l:=dk.bd
  have st:step m (.power i)=if within i 0 ((m.powers.length:Int)-1)=false then (m,iF (-1)) else (m,{ nums:=[0],rows:=[m.powers.getD i.toNat []] }):=rfl
  rw[st] at k
  refine⟨_,rfl,c,A.cK,cdx,_,_,rfl,hc,T.dQ,T.di,rfl,na,_,0,_,rfl,rfl,cP.of hna,aW (j:=0) rfl,?_⟩
  refine⟨_,rfl,_,rfl,d,A.d_,ddx,_,_,rfl,hd,T.fA,T.cN,rfl,B.b,A.aK,B.dx,_,_,rfl,l.ins,T.aV,T.dO,rfl,i,B.pw,_,rfl,cP.of l.pw,_,rfl,?_⟩
  rw[aa]
  cases cw:within i 0 ((m.powers.length:Int)-1) with
  | false=>
   rw[if_pos cw] at k
   exact b9 ⟨by show 1<=ao;decide,fun q hq=>eC k dk (bX.refl H) hq rfl⟩
  | true=>
   rw[if_neg (by rw[cw];decide)] at k
   have hw:0<=i/\i<=(m.powers.length:Int)-1:=by unfold within at cw;simpa using cw
   obtain⟨j,rfl⟩:∃j:Nat,i=j:=⟨i.toNat,by omega⟩
   have hj:j<m.powers.length:=by omega
   rw[cZ] at k
   have gj:m.powers[j]?=some (m.powers.getD j []):=by rw[b_,aR hj];rfl
   have pw:=CJ dk.wf j
   refine bY ⟨by show 1<=ao;decide,fun q hq=>?_⟩
   have s1:bX H (upd H q (.lst [V.int 0])):=br hq
   have q1:upd H q (.lst [V.int 0]) q=some (.lst [V.int 0]):=aw
   generalize upd H q (.lst [V.int 0])=H1 at s1 q1
   have l1:=l.same s1
   refine⟨_,rfl,d,A.d_,ddx,_,_,rfl,s1 _ _ hd,T.fA,T.cN,rfl,B.b,A.aK,B.dx,_,_,rfl,l1.ins,T.aV,T.dO,rfl,_,rfl,B.pw,_,_,_,rfl,rfl,cP.of l1.pw,aW (j:=j) (by rw[aX,gj];rfl),m.powers.getD j [],rfl,by omega,fun H2 D s2 hD hD0=>?_⟩
   refine⟨q,D,_,_,rfl,rfl,s2 _ _ q1,hD,by simp only[aG,aa,fP];omega,fun r hr2=>eC k dk (s1.trans s2) hr2 ?_⟩
   show [V.int 0]++_=zV ([0]++[m.powers.getD j []].flatMap fun r=>(r.length:Int)::nums r)
   simp[nums,QS]
end
end Pb
namespace Pb
open PySem PySem.Spec PyProof.Rows L2 TL
open Vbsoab (provAt within exactly placeOf powerOf isProv step nums bit find begins row shown)
open VbsoabNeutral (bytesOf)
def Zk:V->List V->Hp->VK->Prop:=fun x xs H Q=>∃a b,x=.str a/\xs=[.str b]/\Q (.bl (iV a b)) H
theorem acS (l:List Nat):row 0 l=(l.length:Int)::nums l:=rfl
theorem yO {α:Type} (f:α->List Int) {l:List α} {i:Nat} {x:α} (h:l[i]?=some x):(l.take (i+1)).flatMap f=(l.take i).flatMap f++f x:=by rw[take_snoc h,gB,vW]
section
inductive Q_ (A:Ad) (vs:List V) (H:Hp) (Q:VK) (E':XK):Prop
 | mk (d c:af) (B:Bd) (m:aB) (e:Int) (t:List Int) (_:vs=[.ref d,.ref c]) (_:nN A H d B m) (_:vL A H c 2 e [] [t]) (_:Em 40 t) (_:hJ A H d B (step m (.find (dM t))).1 (out (step m (.find (dM t))).2) Q)
theorem Gy (T:Tx K mg A):dy P w K mg base hX 3 A.ja A.nY mr (Q_ A):=by
 exists T.El,wL,"o"
 ·obtain⟨d,c,B,m,e,t,rfl,_⟩:=h
  rfl
 ·obtain⟨d,c,B,m,e,t,rfl,dk,cl,ro,k⟩:=h
  have nd:=wL.nd
  have hu:=qi hr
  have sl:ao=16777216:=bI
  refine⟨_,aj (cA (i:=2) nd rfl (by first | exact bC rfl | exact mN rfl) (bP (qc T) hr rfl T.sX T.yF.kp T.s_ .nil bR (ab (bW b8 (aJ (pv 1) rfl) aS (fun _ _=>rfl)) aq)))
   (aj (cA (i:=3) nd rfl (by first | exact bC rfl | exact mN rfl) (aJ (pv 0) rfl))
   (aj (cV (ip (CM hu (pv 2) (aJ (pv 3) rfl)) (by with_unfolding_all rfl)) (az (a_ (c9 (ab aS (ab aS (ab (qR hu (aJ (pv 3) rfl) (pv 2) (fun _ _=>rfl)) aq)))))) bO)
   (aj (cV (cg eM (pv 2) ff (cD _)) (az (a_ (c9 (ab aS (ab aS aq))))) bO)
   (aj (BJ (i:=4) (tt:=tB (WX Zk (Mg K (pN 6) "name") (pN 2))) (te:=pN 5) (g:=ZP K 2 (N1 (xO 5) (N1 (xO 6) ZQ))) rfl nd rfl rfl (Fk rfl rfl rfl rfl) (Ri rfl T.xB (ab (aJ (pv 3) rfl) aq)) (gc (N:=xw) (sc:=aP l9) (own:=[("i",5),("province",6)]) (by decide +kernel)) (fun _ _ _ _ _=>Ak rfl (gR (df (i:=5) nd rfl (bC rfl)) (gR (df (i:=6) nd rfl (bC rfl)) ur))) (fun _ _ _ _ _=>yG (fB (MX FL FK zC (aJ (pv 6) (by rfl)) (pv 2)))) (fun _ _ _ _ _=>pv 5))
   (az (a_ (jo rH (c9 (ab aS (ab (bT bF rfl T.eU bf (ab (pv 4) aq)) aq))) (pv 4)))))))),?_⟩
  obtain⟨ddx,hd⟩:=dk.ins
  obtain⟨cdx,na,ra,as,ta,hc,hra,hta,_,_⟩:=Hr cl
  have st:step m (.find (dM t))=(m,{ nums:=0::row 0 (find m (dM t)) }):=rfl
  rw[st,<- X2 dk.wf.gn] at k
  refine⟨_,rfl,c,A.cK,cdx,_,_,rfl,hc,T.dQ,T.iI,rfl,ra,_,0,_,rfl,rfl,cP.of hra,aW (j:=0) rfl,ta,dM t,rfl,cP.of (by rw[<- sO ro];exact hta),by have:=nM ro;omega,fun H1 s1=>?_⟩
  generalize iZ (dM t)=x at k
  have l1:=dk.bd.same s1
  refine⟨_,rfl,d,A.d_,ddx,_,_,rfl,s1 _ _ hd,T.fA,T.cN,rfl,?_⟩
  have dg:gK H1 B.bw (wV x) (dW B.kw (bB (tx x))):=gK.k (k:=bB (tx x)) l1.bw
  rw[l1.words] at dg
  refine⟨_,rfl,_,rfl,B.b,A.aK,B.dx,_,_,rfl,l1.ins,T.aV,T.cT,rfl,B.bw,_,rfl,dg,_,rfl,?_⟩
  show if ((a8 m x).map fun i=>V.int i).isSome=true then _ else _
  rw[Kb]
  have fi:find m x=match a8 m x with | some i=>[i] | none=>if x=[] then [] else (be m.provinces.length).filter fun i=>begins x (ag m i).name:=rfl
  rw[fi] at k
  cases ex:a8 m x with
  | some i=>
   rw[ex] at k dg
   refine b9 ⟨_,rfl,B.b,A.aK,B.dx,_,_,rfl,l1.ins,T.aV,T.cT,rfl,_,rfl,B.bw,_,rfl,dg,by show 3<=ao;decide,fun q hq=>eC k dk s1 hq rfl⟩
  | none=>
   rw[ex] at k
   refine bY ⟨_,rfl,rfl,_,rfl,?_⟩
   show if decide (wV x=V.str (ak ""))=true then _ else _
   rw[Pu,Uh]
   by_cases c0:x=[]
   ·rw[decide_eq_true c0]
    have k:hJ A H d B m (out { nums:=0::row 0 (if x=[] then [] else (be m.provinces.length).filter fun i=>begins x (ag m i).name) }) Q:=k
    rw[if_pos c0] at k
    exact b9 ⟨by show 2<=ao;decide,fun q hq=>eC k dk s1 hq rfl⟩
   ·rw[decide_eq_false c0]
    have k:hJ A H d B m (out { nums:=0::row 0 (if x=[] then [] else (be m.provinces.length).filter fun i=>begins x (ag m i).name) }) Q:=k
    rw[if_neg c0] at k
    refine bY ⟨_,rfl,B.b,A.aK,B.dx,_,_,rfl,l1.ins,T.aV,T.bA,rfl,B.pv,_,rfl,cP.of l1.pv,fun D hD=>Ry (K:=K) (a:=B.pv) (xs:=B.ps.map V.ref) (fun j H'=>J1 H1 D (lG (((be m.provinces.length).take j).filter fun i=>begins x (ag m i).name)) H') (C2 hD) (fun j H' _ z=>cP.of (z.1 _ _ l1.pv)) ?_ ?_⟩
    ·intro j y H' Tt hy z hT
     obtain⟨pa,hpa,rfl⟩:=get_map hy
     have lj:j<m.provinces.length:=by rw[<- l1.tF];exact (ax.mp hpa).1
     have gj:(be m.provinces.length)[j]?=some j:=by rw[Bt lj]
     have sT:bX H' (upd H' Tt (.tup [V.int (j:Nat),V.ref pa])):=br hT
     have hTT:upd H' Tt (.tup [V.int (j:Nat),V.ref pa]) Tt=some (.tup [V.int (j:Nat),V.ref pa]):=aw
     refine⟨Tt,_,rfl,iC.of hTT,rfl,_,_,rfl,_,_,rfl,rfl,rfl,?_⟩
     generalize upd H' Tt (.tup [V.int (j:Nat),V.ref pa])=H2 at sT hTT
     have z2:=z.same sT
     obtain⟨a,sa,dx,e1,e2,e3,e4⟩:=(l1.same z2.1).pa lj
     rw[hpa] at e1;cases e1
     refine⟨_,rfl,pa,A.aO,dx,_,_,rfl,e3,T.bg,T.fK,rfl,⟨_,rfl⟩,_,rfl,_,_,rfl,rfl,_,rfl,?_⟩
     show if iV (tx (ag m j).name) (tx x)=true then _ else _
     rw[Jk]
     have tk:=take_snoc gj
     cases cb:((ag m j).name.take x.length==x) with
     | false=>
      refine bY ?_
      rw[tk,eP,show [j].filter (fun i=>begins x (ag m i).name)=[] by simp[begins,cb],dw]
      exact z2
     | true=>
      refine b9 ⟨_,rfl,qh z2 hD ?_ ?_⟩
      ·unfold lG
       have h1:=cY (fun i=>begins x (ag m i).name) ((be m.provinces.length).take j)
       have pl:=dk.wf.LR
       rw[cx,cB] at h1
       rw[aa];omega
      ·rw[tk,eP,show [j].filter (fun i=>begins x (ag m i).name)=[j] by simp[begins,cb]]
       unfold lG
       rw[bh]
       rfl
    ·intro H' z
     have tl:(be m.provinces.length).take m.provinces.length=be m.provinces.length:=mR (by rw[cB];exact aC _)
     rw[aa,l1.tF,tl] at z
     refine⟨_,rfl,D,_,rfl,.inl (cP.of z.2),by show 2<=ao;decide,fun q hq=>?_⟩
     have sq:bX H' (upd H' q (.lst [V.int 0,V.int (((lG ((be m.provinces.length).filter fun i=>begins x (ag m i).name)).length:Nat):Int)])):=br hq
     refine⟨_,rfl,q,D,_,_,rfl,rfl,aw,sq _ _ z.2,?_,fun r hr2=>eC k dk ((s1.trans z.1).trans sq) hr2 ?_⟩
     ·have h1:=cY (fun i=>begins x (ag m i).name) (be m.provinces.length)
      have pl:=dk.wf.LR
      rw[cB] at h1
      unfold lG
      rw[aa]
      show 2+_<=_
      omega
     ·unfold out
      rw[acS]
      show _=zV ((0::((((be m.provinces.length).filter fun i=>begins x (ag m i).name).length:Nat):Int)::nums ((be m.provinces.length).filter fun i=>begins x (ag m i).name))++[])
      rw[dw,show ∀(a b:Int) (l:List Int),zV (a::b::l)=[V.int a,V.int b]++zV l from fun _ _ _=>rfl,Fs]
      unfold lG
      rw[aa]
abbrev p5 (m:aB) (j:Nat):List Int:=[0,((ag m j).kind:Int),bit (ag m j).centre,FI (ag m j).home,((ag m j).shores.length:Int)]
abbrev p6 (m:aB) (j:Nat):=(ag m j).name::(ag m j).short::(ag m j).shores
inductive DR (A:Ad) (vs:List V) (H:Hp) (Q:VK) (E':XK):Prop
 | mk (d c:af) (B:Bd) (m:aB) (e i:Int) (_:vs=[.ref d,.ref c]) (_:nN A H d B m) (_:vL A H c 4 e [i] []) (_:hJ A H d B (step m (.province i)).1 (out (step m (.province i)).2) Q)
theorem Au (T:Tx K mg A):dy P w K mg base hX 3 A.gk A.jr iQ (DR A):=by
 exists T.vk,pW,"o"
 ·obtain⟨d,c,B,m,e,i,rfl,_⟩:=h
  rfl
 ·obtain⟨d,c,B,m,e,i,rfl,dk,cl,k⟩:=h
  have nd:=pW.nd
  have sl:ao=16777216:=bI
  refine⟨_,aj (cA (i:=2) nd rfl (bC rfl) (bW b8 (aJ (pv 1) rfl) aS (fun _ _=>rfl)))
   (aj (cV (kf (fB (bP (i7 T) (hr.mono (by decide)) rfl T.jH T.jW.kp T.jM .nil bR (ab (pv 2) (ab (aJ (aJ (pv 0) rfl) rfl) aq))))) (az (a_ (c9 (ab (lZ T.f') aq)))) bO)
   (aj (cA (i:=3) nd rfl (bC rfl) (bW b8 (aJ (aJ (pv 0) rfl) rfl) (pv 2) (fun _ _=>rfl)))
   (aj (cA (i:=4) nd rfl (bC rfl) (c9 (ab aS (ab (aJ (pv 3) rfl) (ab (kM (fB (aJ (pv 3) rfl)) aS aS) (ab (aJ (pv 3) rfl) (ab (bT bF rfl T.eU bf (ab (aJ (pv 3) rfl) aq)) aq)))))))
   (aj (lF cS rfl (fV (jo rH (c9 (ab (aJ (pv 3) rfl) (ab (aJ (pv 3) rfl) aq))) (aJ (pv 3) rfl))) (df (i:=5) nd rfl (bC rfl))
    (az (eI (j8 bG fY fX pC (pv 4) (ab (bP (Aq T) hr rfl T.C' T.Fz.kp T.DA .nil bR (ab (pv 5) aq)) aq)))))
   (az (a_ (pv 4))))))),?_⟩
  obtain⟨ddx,hd⟩:=dk.ins
  obtain⟨cdx,na,ra,as,hc,hna,_,_⟩:=cl.at_
  have l:=dk.bd
  have st:step m (.province i)=if kx m i=false then (m,iF (-1)) else (m,{ nums:=[0,((ag m i.toNat).kind:Int),bit (ag m i.toNat).centre,FI (ag m i.toNat).home,((ag m i.toNat).shores.length:Int)],rows:=(ag m i.toNat).name::(ag m i.toNat).short::(ag m i.toNat).shores }):=rfl
  rw[st] at k
  refine⟨_,rfl,c,A.cK,cdx,_,_,rfl,hc,T.dQ,T.di,rfl,na,_,0,_,rfl,rfl,cP.of hna,aW (j:=0) rfl,?_⟩
  refine⟨_,rfl,_,rfl,d,A.d_,ddx,_,_,rfl,hd,T.fA,T.cN,rfl,B.b,A.aK,B.dx,_,_,rfl,l.ins,T.aV,T.bA,rfl,i,B.pv,_,rfl,cP.of l.pv,_,rfl,?_⟩
  rw[aa,l.tF]
  show if (!(kx m i))=true then _ else _
  cases cw:kx m i with
  | false=>
   rw[if_pos cw] at k
   exact b9 ⟨by show 1<=ao;decide,fun q hq=>eC k dk (bX.refl H) hq rfl⟩
  | true=>
   rw[if_neg (by rw[cw];decide)] at k
   have hw:0<=i/\i<=(m.provinces.length:Int)-1:=by unfold kx within at cw;simpa using cw
   obtain⟨j,rfl⟩:∃j:Nat,i=j:=⟨i.toNat,by omega⟩
   have hj:j<m.provinces.length:=by omega
   rw[cZ] at k
   obtain⟨pa,sa,dx,e1,e2,e3,e4⟩:=l.pa hj
   obtain⟨f1,f2,f3,f4⟩:=sP dk.wf j
   refine bY ⟨_,rfl,d,A.d_,ddx,_,_,rfl,hd,T.fA,T.cN,rfl,B.b,A.aK,B.dx,_,_,rfl,l.ins,T.aV,T.bA,rfl,_,rfl,B.pv,_,_,_,rfl,rfl,cP.of l.pv,aW (j:=j) (by rw[aX,e1];rfl),?_⟩
   refine⟨_,rfl,pa,A.aO,dx,_,_,rfl,e3,T.bg,T.fL,rfl,_,rfl,pa,A.aO,dx,_,_,rfl,e3,T.bg,T.dP,rfl,_,rfl,?_⟩
   have home:zE (ag m j).home=V.int (FI (ag m j).home):=by cases (ag m j).home <;> rfl
   have gv:∀b:Int,b=bit (ag m j).centre->[V.int 0,V.int (((ag m j).kind:Nat):Int),V.int b,zE (ag m j).home,V.int ((((ag m j).shores.map wV).length:Nat):Int)]=zV (p5 m j):=fun b hb=>by rw[home,hb,aa];rfl
   have go:∀(vs:List V),vs=zV (p5 m j)->∀G,H G=none->∀(H1:Hp),H1=upd H G (.lst vs)->bX H H1/\H1 G=some (.lst (zV ((p5 m j)++(((p6 m j).take 0).flatMap fun r=>(r.length:Int)::nums r)))):=fun vs ev G hG H1 eH=>by
    subst eH ev
    exact⟨br hG,by rw[aw];simp⟩
   have rest:∀(G:af) (H1:Hp),H G=none->(bX H H1/\H1 G=some (.lst (zV ((p5 m j)++(((p6 m j).take 0).flatMap fun r=>(r.length:Int)::nums r))))) ->
     ∀Lw,H1 Lw=none->∀H2,H2=upd H1 Lw (.lst [wV (ag m j).name,wV (ag m j).short])->∀L2',H2 L2'=none->∀H3,H3=upd H2 L2' (.lst ([wV (ag m j).name,wV (ag m j).short]++(ag m j).shores.map wV))->bX H H3/\H3 L2'=some (.lst (((ag m j).name::(ag m j).short::(ag m j).shores).map wV))/\L2'≠G/\H3 G=some (.lst (zV ((p5 m j)++(((p6 m j).take 0).flatMap fun r=>(r.length:Int)::nums r)))):=fun G H1 hG ⟨s1,g1⟩ Lw hL H2 e2' L2' hL2 H3 e3'=>by
    have s2:bX H1 H2:=by rw[e2'];exact br hL
    have s3:bX H2 H3:=by rw[e3'];exact br hL2
    refine⟨(s1.trans s2).trans s3,by rw[e3',aw];rfl,fun z=>?_,s3 _ _ (s2 _ _ g1)⟩
    have:=s2 _ _ g1
    rw[<- z,hL2] at this;cases this
   have small:∀i,(((p6 m j).take i).flatMap fun r=>(r.length:Int)::nums r).length<=200:=fun i=>by
    have key:∀l:List (List Nat),(∀x∈l,x.length<=16)->(l.flatMap fun r=>(r.length:Int)::nums r).length<=17*l.length:=fun l=>by
     induction l with
     | nil=>intro _;simp
     | cons a l ih=>
      intro h
      have h1:=h a (by simp)
      have h2:=ih fun x hx=>h x (aE _ hx)
      rw[hU,aA,aG,aG]
      unfold nums
      rw[aa]
      unfold nums at h2
      omega
    have h1:=key ((p6 m j).take i) fun x hx=>by
     rcases aF.mp (R_ hx) with q | q
     ·rw[q];exact f1
     ·rcases aF.mp q with q | q
      ·rw[q];omega
      ·have:=f4 x q;omega
    have h2:((p6 m j).take i).length<=6:=by rw[cx,aG,aG];omega
    omega
   cases cc:(ag m j).centre with
   | true=>
    refine b9 ⟨_,rfl,pa,A.aO,dx,_,_,rfl,e3,T.bg,T.fM,rfl,_,rfl,pa,A.aO,dx,_,_,rfl,e3,T.bg,T.dh,rfl,sa,_,rfl,.inl (cP.of e4),by show 5<=ao;decide,fun G hG=>?_⟩
    have g:=go [V.int 0,V.int (((ag m j).kind:Nat):Int),V.int 1,zE (ag m j).home,V.int ((((ag m j).shores.map wV).length:Nat):Int)] (gv 1 (by rw[cc];rfl)) G hG _ rfl
    generalize upd H G (.lst [V.int 0,V.int (((ag m j).kind:Nat):Int),V.int 1,zE (ag m j).home,V.int ((((ag m j).shores.map wV).length:Nat):Int)])=H1 at g
    have e31:=g.1 _ _ e3
    have e41:=g.1 _ _ e4
    refine⟨_,rfl,pa,A.aO,dx,_,_,rfl,e31,T.bg,T.fK,rfl,_,rfl,pa,A.aO,dx,_,_,rfl,e31,T.bg,T.dN,rfl,by show 2<=ao;decide,fun Lw hL=>?_⟩
    have sL:bX H1 (upd H1 Lw (.lst [wV (ag m j).name,wV (ag m j).short])):=br hL
    refine⟨_,rfl,pa,A.aO,dx,_,_,rfl,sL _ _ e31,T.bg,T.dh,rfl,Lw,sa,_,_,rfl,rfl,aw,sL _ _ e41,by rw[aa];show 2+_<=_;omega,fun L2' hL2=>?_⟩
    have r:=rest G H1 hG g Lw hL _ rfl L2' hL2 _ rfl
    generalize upd (upd H1 Lw (.lst [wV (ag m j).name,wV (ag m j).short])) L2' (.lst ([wV (ag m j).name,wV (ag m j).short]++(ag m j).shores.map wV))=H3 at r
    obtain⟨s3,h3,nLG,g3⟩:=r
    refine⟨L2',rfl,⟨_,cP.of h3⟩,kS (K:=K) (a:=L2') (xs:=((ag m j).name::(ag m j).short::(ag m j).shores).map wV) (fun i σ H'=>∃v5,σ=[some (.ref d),some (.ref c),some (.int (j:Nat)),some (.ref pa),some (.ref G),v5]/\bX H H'/\H' L2'=some (.lst (((ag m j).name::(ag m j).short::(ag m j).shores).map wV))/\H' G=some (.lst (zV ((p5 m j)++(((p6 m j).take i).flatMap fun r=>(r.length:Int)::nums r)))))
     ⟨none,rfl,s3,h3,g3⟩ (fun i σ H' _ ⟨_,_,_,z,_⟩=>cP.of z) ?_ ?_⟩
    ·rintro i y σ H4 hy ⟨v5,rfl,s4,h4,g4⟩
     obtain⟨x,hx,rfl⟩:=get_map hy
     have lx:x.length<=100:=by
      rcases aF.mp (aN hx) with q | q
      ·rw[q];omega
      ·rcases aF.mp q with q | q
       ·rw[q];omega
       ·have:=f4 x q;omega
     refine⟨_,rfl,.inl ⟨rfl,_,cP.of g4⟩,_,rfl,x,rfl,by omega,fun H5 D s5 hD hD0=>?_⟩
     have nDG:D≠G:=fun z=>by rw[z,g4] at hD0;cases hD0
     refine⟨G,D,_,_,rfl,rfl,s5 _ _ g4,hD,?_,?_⟩
     ·have:=small i
      simp only[aa,aA,aG,fP] at this ⊢
      omega
     ·refine⟨_,rfl,fun b o eb=>by rw[aQ (aT eb hG)];exact s5 _ _ (s4 b o eb),by rw[aQ nLG];exact s5 _ _ h4,?_⟩
      rw[aw,yO _ hx,<- cF,show zV (((p5 m j)++(((p6 m j).take i).flatMap fun r=>(r.length:Int)::nums r))++((x.length:Int)::nums x))=zV ((p5 m j)++(((p6 m j).take i).flatMap fun r=>(r.length:Int)::nums r))++zV ((x.length:Int)::nums x) from bh,show zV ((x.length:Int)::nums x)=V.int (x.length:Int)::zV (nums x) from rfl,Fs]
      rfl
    ·rintro σ H4 ⟨v5,rfl,s4,h4,g4⟩
     rw[aa,bM] at g4
     exact⟨_,rfl,k.same dk s4 g4 hG⟩
   | false=>
    refine bY ⟨_,rfl,pa,A.aO,dx,_,_,rfl,e3,T.bg,T.fM,rfl,_,rfl,pa,A.aO,dx,_,_,rfl,e3,T.bg,T.dh,rfl,sa,_,rfl,.inl (cP.of e4),by show 5<=ao;decide,fun G hG=>?_⟩
    have g:=go [V.int 0,V.int (((ag m j).kind:Nat):Int),V.int 0,zE (ag m j).home,V.int ((((ag m j).shores.map wV).length:Nat):Int)] (gv 0 (by rw[cc];rfl)) G hG _ rfl
    generalize upd H G (.lst [V.int 0,V.int (((ag m j).kind:Nat):Int),V.int 0,zE (ag m j).home,V.int ((((ag m j).shores.map wV).length:Nat):Int)])=H1 at g
    have e31:=g.1 _ _ e3
    have e41:=g.1 _ _ e4
    refine⟨_,rfl,pa,A.aO,dx,_,_,rfl,e31,T.bg,T.fK,rfl,_,rfl,pa,A.aO,dx,_,_,rfl,e31,T.bg,T.dN,rfl,by show 2<=ao;decide,fun Lw hL=>?_⟩
    have sL:bX H1 (upd H1 Lw (.lst [wV (ag m j).name,wV (ag m j).short])):=br hL
    refine⟨_,rfl,pa,A.aO,dx,_,_,rfl,sL _ _ e31,T.bg,T.dh,rfl,Lw,sa,_,_,rfl,rfl,aw,sL _ _ e41,by rw[aa];show 2+_<=_;omega,fun L2' hL2=>?_⟩
    have r:=rest G H1 hG g Lw hL _ rfl L2' hL2 _ rfl
    generalize upd (upd H1 Lw (.lst [wV (ag m j).name,wV (ag m j).short])) L2' (.lst ([wV (ag m j).name,wV (ag m j).short]++(ag m j).shores.map wV))=H3 at r
    obtain⟨s3,h3,nLG,g3⟩:=r
    refine⟨L2',rfl,⟨_,cP.of h3⟩,kS (K:=K) (a:=L2') (xs:=((ag m j).name::(ag m j).short::(ag m j).shores).map wV) (fun i σ H'=>∃v5,σ=[some (.ref d),some (.ref c),some (.int (j:Nat)),some (.ref pa),some (.ref G),v5]/\bX H H'/\H' L2'=some (.lst (((ag m j).name::(ag m j).short::(ag m j).shores).map wV))/\H' G=some (.lst (zV ((p5 m j)++(((p6 m j).take i).flatMap fun r=>(r.length:Int)::nums r)))))
     ⟨none,rfl,s3,h3,g3⟩ (fun i σ H' _ ⟨_,_,_,z,_⟩=>cP.of z) ?_ ?_⟩
    ·rintro i y σ H4 hy ⟨v5,rfl,s4,h4,g4⟩
     obtain⟨x,hx,rfl⟩:=get_map hy
     have lx:x.length<=100:=by
      rcases aF.mp (aN hx) with q | q
      ·rw[q];omega
      ·rcases aF.mp q with q | q
       ·rw[q];omega
       ·have:=f4 x q;omega
     refine⟨_,rfl,.inl ⟨rfl,_,cP.of g4⟩,_,rfl,x,rfl,by omega,fun H5 D s5 hD hD0=>?_⟩
     have nDG:D≠G:=fun z=>by rw[z,g4] at hD0;cases hD0
     refine⟨G,D,_,_,rfl,rfl,s5 _ _ g4,hD,?_,?_⟩
     ·have:=small i
      simp only[aa,aA,aG,fP] at this ⊢
      omega
     ·refine⟨_,rfl,fun b o eb=>by rw[aQ (aT eb hG)];exact s5 _ _ (s4 b o eb),by rw[aQ nLG];exact s5 _ _ h4,?_⟩
      rw[aw,yO _ hx,<- cF,show zV (((p5 m j)++(((p6 m j).take i).flatMap fun r=>(r.length:Int)::nums r))++((x.length:Int)::nums x))=zV ((p5 m j)++(((p6 m j).take i).flatMap fun r=>(r.length:Int)::nums r))++zV ((x.length:Int)::nums x) from bh,show zV ((x.length:Int)::nums x)=V.int (x.length:Int)::zV (nums x) from rfl,Fs]
      rfl
    ·rintro σ H4 ⟨v5,rfl,s4,h4,g4⟩
     rw[aa,bM] at g4
     exact⟨_,rfl,k.same dk s4 g4 hG⟩
end
end Pb
namespace Pb
open PySem PySem.Spec PyProof.Rows L2 TL
open Vbsoab (provAt within exactly placeOf powerOf isProv step nums bit find begins row shown part)
open VbsoabNeutral (bytesOf)
theorem FQ (a b:List Int):zV (a++b)=zV a++zV b:=bh
section
def By (s:iX):List Int:=[(s.power:Int),bit s.fleet,(s.prov:Int),(s.shore:Int)]
inductive Jn (A:Ad) (vs:List V) (H:Hp) (Q:VK) (E':XK):Prop
 | mk (d c:af) (B:Bd) (m:aB) (_:vs=[.ref d,.ref c]) (_:nN A H d B m) (_:hJ A H d B (step m .starts).1 (out (step m .starts).2) Q)
theorem CO (T:Tx K mg A):dy P w K mg base hX 1 A.gN A.lp jS (Jn A):=by
 exists T.zJ,sI,"o"
 ·obtain⟨d,c,B,m,rfl,_⟩:=h
  rfl
 ·obtain⟨d,c,B,m,rfl,dk,k⟩:=h
  have nd:=sI.nd
  have sl:ao=16777216:=bI
  refine⟨_,aj (cA (i:=2) nd rfl (bC rfl) (c9 (ab aS (ab (bT bF rfl T.eU bf (ab (aJ (aJ (pv 0) rfl) rfl) aq)) aq))))
   (aj (lF cS rfl (fV (aJ (aJ (pv 0) rfl) rfl)) (df (i:=3) nd rfl (bC rfl))
    (az (eI (j8 bG fY fX pC (pv 2) (ab (c9 (ab (aJ (pv 3) rfl) (ab (kM (fB (aJ (pv 3) rfl)) aS aS) (ab (bW dH (aJ (pv 3) rfl) aS (fun _ _=>rfl)) (ab (bW dH (aJ (pv 3) rfl) aS (fun _ _=>rfl)) aq))))) aq)))))
   (az (a_ (pv 2)))),?_⟩
  obtain⟨ddx,hd⟩:=dk.ins
  have l:=dk.bd
  have hE:=dk.wf.stl
  have st:out (step m .starts).2=[0,(m.starts.length:Int)]++m.starts.flatMap By:=by show (0::(m.starts.length:Int)::m.starts.flatMap By)++[]=_;simp
  rw[st] at k
  refine⟨_,rfl,d,A.d_,ddx,_,_,rfl,hd,T.fA,T.cN,rfl,B.b,A.aK,B.dx,_,_,rfl,l.ins,T.aV,T.fF,rfl,B.un,_,rfl,.inl (cP.of l.un),by show 2<=ao;decide,fun G hG=>?_⟩
  rw[aa,l.FU]
  have s1:bX H (upd H G (.lst [V.int 0,V.int ((m.starts.length:Nat):Int)])):=br hG
  have g1:upd H G (.lst [V.int 0,V.int ((m.starts.length:Nat):Int)]) G=some (.lst (zV ([0,(m.starts.length:Int)]++(m.starts.take 0).flatMap By))):=by rw[aw];rfl
  generalize upd H G (.lst [V.int 0,V.int ((m.starts.length:Nat):Int)])=H1 at s1 g1
  have l1:=l.same s1
  refine⟨_,rfl,d,A.d_,ddx,_,_,rfl,s1 _ _ hd,T.fA,T.cN,rfl,B.b,A.aK,B.dx,_,_,rfl,l1.ins,T.aV,T.fF,rfl,B.un,rfl,⟨_,cP.of l1.un⟩,kS (K:=K) (a:=B.un) (xs:=B.us.map V.ref) (fun i σ H'=>∃v3,σ=[some (.ref d),some (.ref c),some (.ref G),v3]/\bX H H'/\H' G=some (.lst (zV ([0,(m.starts.length:Int)]++(m.starts.take i).flatMap By))))
   ⟨none,rfl,s1,g1⟩ (fun i σ H' _ ⟨_,_,z,_⟩=>cP.of (z _ _ l.un)) ?_ ?_⟩
  ·rintro i y σ H2 hy ⟨v3,rfl,s2,g2⟩
   obtain⟨ua,hua,rfl⟩:=get_map hy
   have li:i<m.starts.length:=by rw[<- l.FU];exact (ax.mp hua).1
   have hst:m.starts[i]?=some m.starts[i]:=aR li
   generalize m.starts[i]=u at hst
   obtain⟨dx,t,e3,e4⟩:=(l.same s2).unit i ua u hua hst
   have len:((m.starts.take i).flatMap By).length<=4*i:=by
    have key:∀q:List iX,(q.flatMap By).length=4*q.length:=fun q=>by
     induction q with
     | nil=>rfl
     | cons a q ih=>rw[hU,aA,ih,aG];show 4+_=_;omega
    rw[key,cx];omega
   have fin:∀b:Int,b=bit u.fleet->∀q,H2 q=none->∃l' b' xs zs,V.ref G=V.ref l'/\[V.ref q]=[V.ref b']/\upd H2 q (.lst [V.int (u.power:Nat),V.int b,V.int (u.prov:Nat),V.int (u.shore:Nat)]) l'=some (.lst xs)/\upd H2 q (.lst [V.int (u.power:Nat),V.int b,V.int (u.prov:Nat),V.int (u.shore:Nat)]) b'=some (.lst zs)/\xs.length+zs.length<=ao /\
     ∃v3,[some (V.ref d),some (V.ref c),some (V.ref G),some (V.ref ua)]=[some (.ref d),some (.ref c),some (.ref G),v3]/\bX H (upd (upd H2 q (.lst [V.int (u.power:Nat),V.int b,V.int (u.prov:Nat),V.int (u.shore:Nat)])) l' (.lst (xs++zs)))/\upd (upd H2 q (.lst [V.int (u.power:Nat),V.int b,V.int (u.prov:Nat),V.int (u.shore:Nat)])) l' (.lst (xs++zs)) G=some (.lst (zV ([0,(m.starts.length:Int)]++(m.starts.take (i+1)).flatMap By))):=fun b eb q hq=>by
    have nqG:q≠G:=fun z=>by rw[z,g2] at hq;cases hq
    have sq:bX H2 (upd H2 q (.lst [V.int (u.power:Nat),V.int b,V.int (u.prov:Nat),V.int (u.shore:Nat)])):=br hq
    refine⟨G,q,_,_,rfl,rfl,sq _ _ g2,aw,?_,_,rfl,fun x o ex=>?_,?_⟩
    ·simp only[aa,aA,aG,fP] at len ⊢
     omega
    ·rw[aQ (aT ex hG)];exact sq _ _ (s2 x o ex)
    ·rw[aw,yO _ hst,<- cF,FQ ([0,(m.starts.length:Int)]++(m.starts.take i).flatMap By) (By u),eb]
     rfl
   refine⟨_,rfl,.inl ⟨rfl,_,cP.of g2⟩,_,rfl,ua,A.gr,dx,_,_,rfl,e3,T.js,T.uC,rfl,_,rfl,ua,A.gr,dx,_,_,rfl,e3,T.js,T.uD,rfl,_,rfl,?_⟩
   cases cf:u.fleet with
   | true=>
    exact b9 ⟨_,rfl,ua,A.gr,dx,_,_,rfl,e3,T.js,T.gT,rfl,t,_,0,_,rfl,rfl,iC.of e4,aW (j:=0) rfl,_,rfl,ua,A.gr,dx,_,_,rfl,e3,T.js,T.gT,rfl,t,_,1,_,rfl,rfl,iC.of e4,aW (j:=1) rfl,by show 4<=ao;decide,fin 1 (by rw[cf];rfl)⟩
   | false=>
    exact bY ⟨_,rfl,ua,A.gr,dx,_,_,rfl,e3,T.js,T.gT,rfl,t,_,0,_,rfl,rfl,iC.of e4,aW (j:=0) rfl,_,rfl,ua,A.gr,dx,_,_,rfl,e3,T.js,T.gT,rfl,t,_,1,_,rfl,rfl,iC.of e4,aW (j:=1) rfl,by show 4<=ao;decide,fin 0 (by rw[cf];rfl)⟩
  ·rintro σ H2 ⟨v3,rfl,s2,g2⟩
   rw[aa,l.FU,bM] at g2
   exact⟨_,rfl,k.same dk s2 g2 hG⟩
theorem JT {H:Hp} {d:af} {B:Bd} {m:aB} {Q:VK} {fs:List Nat} (k:hJ A H d B m (0::(fs.length:Int)::nums fs) Q) (dk:nN A H d B m) {H1:Hp} {D:af} (s1:bX H H1) (hD:H1 D=some (.lst (lG fs))) (hE:fs.length<=1000) {q:af} (hq:H1 q=none) :
  ∃l b xs zs,V.ref q=V.ref l/\V.ref D=V.ref b/\upd H1 q (.lst [V.int 0,V.int (((lG fs).length:Nat):Int)]) l=some (.lst xs)/\upd H1 q (.lst [V.int 0,V.int (((lG fs).length:Nat):Int)]) b=some (.lst zs)/\xs.length+zs.length<=ao/\∀p,upd H1 q (.lst [V.int 0,V.int (((lG fs).length:Nat):Int)]) p=none->Q (.ref p) (upd (upd H1 q (.lst [V.int 0,V.int (((lG fs).length:Nat):Int)])) p (.lst (xs++zs))):=by
 have sl:ao=16777216:=bI
 have sq:bX H1 (upd H1 q (.lst [V.int 0,V.int (((lG fs).length:Nat):Int)])):=br hq
 refine⟨q,D,_,_,rfl,rfl,aw,sq _ _ hD,?_,fun p hp=>eC k dk (s1.trans sq) hp ?_⟩
 ·unfold lG;rw[aa];show 2+_<=_;omega
 ·rw[show ∀(a b:Int) (l:List Int),zV (a::b::l)=[V.int a,V.int b]++zV l from fun _ _ _=>rfl,Fs]
  unfold lG
  rw[aa]
inductive Mx (A:Ad) (vs:List V) (H:Hp) (Q:VK) (E':XK):Prop
 | mk (d c:af) (B:Bd) (m:aB) (e i:Int) (_:vs=[.ref d,.ref c]) (_:nN A H d B m) (_:vL A H c 12 e [i] []) (_:hJ A H d B (step m (.homes i)).1 (out (step m (.homes i)).2) Q)
theorem EL (T:Tx K mg A):dy P w K mg base hX 2 A.iz A.mG k8 (Mx A):=by
 exists T.Cm,va,"o"
 ·obtain⟨d,c,B,m,e,i,rfl,_⟩:=h
  rfl
 ·obtain⟨d,c,B,m,e,i,rfl,dk,cl,k⟩:=h
  have nd:=va.nd
  have sl:ao=16777216:=bI
  refine⟨_,aj (cA (i:=2) nd rfl (by first | exact bC rfl | exact mN rfl) (bW b8 (aJ (pv 1) rfl) aS (fun _ _=>rfl)))
   (aj (cV (kf (fB (bP (i7 T) hr rfl T.jH T.jW.kp T.jM .nil bR (ab (pv 2) (ab (aJ (aJ (pv 0) rfl) rfl) aq))))) (az (a_ (c9 (ab (lZ T.f') aq)))) bO)
   (aj (BJ (i:=3) (tt:=FX (TU Zo (Mg K (pN 5) "home") (pN 2))) (te:=pN 4) (g:=ZP K 2 (N1 (xO 4) (N1 (xO 5) ZQ))) rfl nd rfl rfl (Fk rfl rfl rfl rfl) (Ri rfl T.xB (ab (aJ (aJ (pv 0) rfl) rfl) aq)) (gc (N:=ve) (sc:=aP kY) (own:=[("i",4),("province",5)]) (by decide +kernel)) (fun _ _ _ _ _=>Ak rfl (gR (df (i:=4) nd rfl (bC rfl)) (gR (df (i:=5) nd rfl (bC rfl)) ur))) (fun _ _ _ _ _=>yG (cg eM (aJ (pv 5) (by rfl)) (pv 2) (cD _))) (fun _ _ _ _ _=>pv 4))
   (az (a_ (jo rH (c9 (ab aS (ab (bT bF rfl T.eU bf (ab (pv 3) aq)) aq))) (pv 3)))))),?_⟩
  obtain⟨ddx,hd⟩:=dk.ins
  obtain⟨cdx,na,ra,as,hc,hna,_,_⟩:=cl.at_
  have l:=dk.bd
  have pl:=dk.wf.LR
  have st:step m (.homes i)=if within i 0 ((m.powers.length:Int)-1)=false then (m,iF (-1)) else (m,{ nums:=0::row 0 ((be m.provinces.length).filter fun j=>(ag m j).home==some i.toNat) }):=rfl
  rw[st] at k
  refine⟨_,rfl,c,A.cK,cdx,_,_,rfl,hc,T.dQ,T.di,rfl,na,_,0,_,rfl,rfl,cP.of hna,aW (j:=0) rfl,?_⟩
  refine⟨_,rfl,_,rfl,d,A.d_,ddx,_,_,rfl,hd,T.fA,T.cN,rfl,B.b,A.aK,B.dx,_,_,rfl,l.ins,T.aV,T.dO,rfl,i,B.pw,_,rfl,cP.of l.pw,_,rfl,?_⟩
  rw[aa]
  cases cw:within i 0 ((m.powers.length:Int)-1) with
  | false=>
   rw[if_pos cw] at k
   exact b9 ⟨by show 1<=ao;decide,fun q hq=>eC k dk (bX.refl H) hq rfl⟩
  | true=>
   rw[if_neg (by rw[cw];decide)] at k
   have hw:0<=i/\i<=(m.powers.length:Int)-1:=by unfold within at cw;simpa using cw
   obtain⟨j0,rfl⟩:∃j:Nat,i=j:=⟨i.toNat,by omega⟩
   rw[cZ] at k
   refine bY ⟨_,rfl,d,A.d_,ddx,_,_,rfl,hd,T.fA,T.cN,rfl,B.b,A.aK,B.dx,_,_,rfl,l.ins,T.aV,T.bA,rfl,B.pv,_,rfl,cP.of l.pv,fun D hD=>Ry (K:=K) (a:=B.pv) (xs:=B.ps.map V.ref) (fun j H'=>J1 H D (lG (((be m.provinces.length).take j).filter fun j=>(ag m j).home==some j0)) H') (C2 hD) (fun j H' _ z=>cP.of (z.1 _ _ l.pv)) ?_ ?_⟩
   ·intro j y H' Tt hy z hT
    obtain⟨pa,hpa,rfl⟩:=get_map hy
    have lj:j<m.provinces.length:=by rw[<- l.tF];exact (ax.mp hpa).1
    have gj:(be m.provinces.length)[j]?=some j:=by rw[Bt lj]
    have sT:bX H' (upd H' Tt (.tup [V.int (j:Nat),V.ref pa])):=br hT
    have hTT:upd H' Tt (.tup [V.int (j:Nat),V.ref pa]) Tt=some (.tup [V.int (j:Nat),V.ref pa]):=aw
    refine⟨Tt,_,rfl,iC.of hTT,rfl,_,_,rfl,_,_,rfl,rfl,rfl,?_⟩
    generalize upd H' Tt (.tup [V.int (j:Nat),V.ref pa])=H2 at sT hTT
    have z2:=z.same sT
    obtain⟨a,sa,dx,e1,e2,e3,e4⟩:=(l.same z2.1).pa lj
    rw[hpa] at e1;cases e1
    have eh:SI (zE (ag m j).home) (V.int (j0:Nat))=true/\decide (zE (ag m j).home=V.int (j0:Nat))=((ag m j).home==some j0):=by
     cases (ag m j).home with
     | none=>
      refine⟨rfl,?_⟩
      show decide (V.int (-1)=V.int (j0:Nat))=false
      exact decide_eq_false fun z=>by injection z with z;omega
     | some h=>
      refine⟨rfl,?_⟩
      show decide (V.int (h:Nat)=V.int (j0:Nat))=_
      rw[len_eq,bq]
      simp
    refine⟨_,rfl,pa,A.aO,dx,_,_,rfl,e3,T.bg,T.fM,rfl,_,rfl,eh.1,_,rfl,?_⟩
    rw[eh.2]
    have tk:=take_snoc gj
    cases cb:((ag m j).home==some j0) with
    | false=>
     refine bY ?_
     rw[tk,eP,show [j].filter (fun j=>(ag m j).home==some j0)=[] by simp[cb],dw]
     exact z2
    | true=>
     refine b9 ⟨_,rfl,qh z2 hD ?_ ?_⟩
     ·unfold lG
      have h1:=cY (fun j=>(ag m j).home==some j0) ((be m.provinces.length).take j)
      rw[cx,cB] at h1
      rw[aa];omega
     ·rw[tk,eP,show [j].filter (fun j=>(ag m j).home==some j0)=[j] by simp[cb]]
      unfold lG
      rw[bh]
      rfl
   ·intro H' z
    have tl:(be m.provinces.length).take m.provinces.length=be m.provinces.length:=mR (by rw[cB];exact aC _)
    rw[aa,l.tF,tl] at z
    have h1:=cY (fun j=>(ag m j).home==some j0) (be m.provinces.length)
    rw[cB] at h1
    have k2:hJ A H d B m (0::((((be m.provinces.length).filter fun j=>(ag m j).home==some j0).length:Nat):Int)::nums ((be m.provinces.length).filter fun j=>(ag m j).home==some j0)) Q:=by
     have k:hJ A H d B m ((0::row 0 ((be m.provinces.length).filter fun j=>(ag m j).home==some j0))++[]) Q:=k
     rw[dw] at k;exact k
    exact⟨_,rfl,D,_,rfl,.inl (cP.of z.2),by show 2<=ao;decide,fun q hq=>⟨_,rfl,JT k2 dk z.1 z.2 (by omega) hq⟩⟩
inductive Mw (A:Ad) (vs:List V) (H:Hp) (Q:VK) (E':XK):Prop
 | mk (d c:af) (B:Bd) (m:aB) (_:vs=[.ref d,.ref c]) (_:nN A H d B m) (_:hJ A H d B (step m .parts).1 (out (step m .parts).2) Q)
theorem EK (T:Tx K mg A):dy P w K mg base hX 4 A.iy A.mF k7 (Mw A):=by
 exists T.Ck,u_,"o"
 ·obtain⟨d,c,B,m,rfl,_⟩:=h
  rfl
 ·obtain⟨d,c,B,m,rfl,dk,k⟩:=h
  have nd:=u_.nd
  refine⟨_,aj (cA (i:=2) nd rfl (bC rfl) (bP (BM T) hr rfl T.C_ T.xI.kp T.Dz .nil bR (ab (aJ (pv 0) rfl) aq)))
   (az (a_ (jo rH (c9 (ab aS (ab (bT bF rfl T.eU bf (ab (pv 2) aq)) aq))) (pv 2)))),?_⟩
  obtain⟨ddx,hd⟩:=dk.ins
  have pl:=dk.wf.LR
  have k2:hJ A H d B m (0::((((be m.provinces.length).map (part m)).length:Nat):Int)::nums ((be m.provinces.length).map (part m))) Q:=by
   have k:hJ A H d B m ((0::row 0 ((be m.provinces.length).map (part m)))++[]) Q:=k
   rw[dw] at k;exact k
  refine⟨_,rfl,d,A.d_,ddx,_,_,rfl,hd,T.fA,T.cN,rfl,B,m,rfl,dk.bd,dk.wf,fun H1 D s1 hD hD0=>?_⟩
  have hD:H1 D=some (.lst (lG ((be m.provinces.length).map (part m)))):=by unfold lG;rw[cz];exact hD
  refine⟨_,rfl,D,_,rfl,.inl (cP.of hD),by show 2<=ao;decide,fun q hq=>⟨_,rfl,JT k2 dk s1 hD (by rw[aa,cB];omega) hq⟩⟩
inductive Jp (A:Ad) (vs:List V) (H:Hp) (Q:VK) (E':XK):Prop
 | mk (d c:af) (B:Bd) (m:aB) (_:vs=[.ref d,.ref c]) (_:nN A H d B m) (_:hJ A H d B (step m .counts).1 (out (step m .counts).2) Q)
theorem CQ (T:Tx K mg A):dy P w K mg base hX 1 A.gP A.lA jU (Jp A):=by
 exists T.zL,sM,"o"
 ·obtain⟨d,c,B,m,rfl,_⟩:=h
  rfl
 ·obtain⟨d,c,B,m,rfl,dk,k⟩:=h
  have nd:=sM.nd
  have sl:ao=16777216:=bI
  refine⟨_,aj (cA (i:=2) nd rfl (bC rfl) (aJ (pv 0) rfl))
   (aj (BJ (i:=3) (tt:=tB (Mg K (pN 4) "centre")) (te:=pN 4) rfl nd rfl rfl (Fk rfl rfl rfl rfl) (fV (aJ (pv 2) rfl)) (gc (N:=sV) (sc:=aP jR) (own:=[("province",4)]) (by decide +kernel)) (fun _ _ _ _ _=>df (i:=4) nd rfl (bC rfl)) (fun _ _ _ _ _=>yG (fB (aJ (pv 4) (by rfl)))) (fun _ _ _ _ _=>pv 4))
   (aj (cA (i:=5) nd rfl (bC rfl) (c9 (ab (aJ (aJ (pv 2) rfl) rfl) (ab (aJ (aJ (pv 2) rfl) rfl) aq))))
   (az (a_ (jo rH (jo rH (c9 (ab aS (ab (bT bF rfl T.eU bf (ab (aJ (pv 2) rfl) aq)) (ab (bT bF rfl T.eU bf (ab (aJ (pv 2) rfl) aq)) aq)))) (pv 5)) (c9 (ab (bT bF rfl T.eU bf (ab (pv 3) aq)) (ab (bT bF rfl T.eU bf (ab (aJ (pv 2) rfl) aq)) aq)))))))),?_⟩
  obtain⟨ddx,hd⟩:=dk.ins
  have l:=dk.bd
  have pl:=dk.wf.LR
  refine⟨_,rfl,d,A.d_,ddx,_,_,rfl,hd,T.fA,T.cN,rfl,?_⟩
  refine⟨_,rfl,B.b,A.aK,B.dx,_,_,rfl,l.ins,T.aV,T.bA,rfl,B.pv,rfl,⟨_,cP.of l.pv⟩,fun D hD=>k_ (K:=K) (a:=B.pv) (xs:=B.ps.map V.ref) (fun j H'=>∃vs,J1 H D vs H'/\vs.length=((m.provinces.take j).filter fun p=>p.centre).length) ⟨[],C2 hD,rfl⟩ (fun j H' _ ⟨_,z,_⟩=>cP.of (z.1 _ _ l.pv)) ?_ ?_⟩
  ·rintro j y H' hy ⟨vs,z,zl⟩
   obtain⟨pa,hpa,rfl⟩:=get_map hy
   have lj:j<m.provinces.length:=by rw[<- l.tF];exact (ax.mp hpa).1
   obtain⟨a,sa,dx,e1,e2,e3,e4⟩:=(l.same z.1).pa lj
   rw[hpa] at e1;cases e1
   have tk:(m.provinces.take (j+1)).filter (fun p=>p.centre)=(m.provinces.take j).filter (fun p=>p.centre)++[ag m j].filter (fun p=>p.centre):=by rw[take_snoc (Ge lj),eP]
   refine⟨rfl,_,rfl,pa,A.aO,dx,_,_,rfl,e3,T.bg,T.dP,rfl,_,rfl,?_⟩
   cases ec:(ag m j).centre with
   | false=>
    refine bY ⟨vs,z,?_⟩
    rw[tk,show [ag m j].filter (fun p=>p.centre)=[] by simp[ec],dw];exact zl
   | true=>
    refine b9 ⟨_,rfl,vs,z.2,?_,vs++[.ref pa],⟨pj z.1 hD,aw⟩,?_⟩
    ·have h1:=cY (fun p:cJ=>p.centre) (m.provinces.take j)
     rw[cx] at h1
     omega
    ·rw[tk,show [ag m j].filter (fun p=>p.centre)=[ag m j] by simp[ec],aA,aA,zl]
     rfl
  ·rintro H1 ⟨vs,z,zl⟩
   rw[aa,l.tF,bM] at zl
   have l1:=l.same z.1
   refine⟨_,rfl,B.b,A.aK,B.dx,_,_,rfl,l1.ins,T.aV,T.jV,rfl,B.ld,A.eF,B.L0.dx,_,_,rfl,l1.l0.ins,T.eE,T.kQ,rfl,_,rfl,B.b,A.aK,B.dx,_,_,rfl,l1.ins,T.aV,T.lT,rfl,B.se,A.eF,B.L1.dx,_,_,rfl,l1.l1.ins,T.eE,T.kQ,rfl,by show 2<=ao;decide,fun p hp=>?_⟩
   have s2:bX H1 (upd H1 p (.lst [V.int B.L0.vD,V.int B.L1.vD])):=br hp
   have p2:upd H1 p (.lst [V.int B.L0.vD,V.int B.L1.vD]) p=some (.lst [V.int B.L0.vD,V.int B.L1.vD]):=aw
   generalize upd H1 p (.lst [V.int B.L0.vD,V.int B.L1.vD])=H2 at s2 p2
   have l2:=l1.same s2
   refine⟨_,rfl,B.b,A.aK,B.dx,_,_,rfl,l2.ins,T.aV,T.dO,rfl,B.pw,_,rfl,.inl (cP.of l2.pw),_,rfl,B.b,A.aK,B.dx,_,_,rfl,l2.ins,T.aV,T.bA,rfl,B.pv,_,rfl,.inl (cP.of l2.pv),by show 3<=ao;decide,fun q hq=>?_⟩
   have s3:bX H2 (upd H2 q (.lst [V.int 0,V.int (((m.powers.map wV).length:Nat):Int),V.int (((B.ps.map V.ref).length:Nat):Int)])):=br hq
   refine⟨_,rfl,q,p,_,_,rfl,rfl,aw,s3 _ _ p2,by show 3+2<=ao;decide,fun r hr2=>?_⟩
   have s4:bX (upd H2 q (.lst [V.int 0,V.int (((m.powers.map wV).length:Nat):Int),V.int (((B.ps.map V.ref).length:Nat):Int)])) (upd (upd H2 q (.lst [V.int 0,V.int (((m.powers.map wV).length:Nat):Int),V.int (((B.ps.map V.ref).length:Nat):Int)])) r (.lst ([V.int 0,V.int (((m.powers.map wV).length:Nat):Int),V.int (((B.ps.map V.ref).length:Nat):Int)]++[V.int B.L0.vD,V.int B.L1.vD]))):=br hr2
   have r4:upd (upd H2 q (.lst [V.int 0,V.int (((m.powers.map wV).length:Nat):Int),V.int (((B.ps.map V.ref).length:Nat):Int)])) r (.lst ([V.int 0,V.int (((m.powers.map wV).length:Nat):Int),V.int (((B.ps.map V.ref).length:Nat):Int)]++[V.int B.L0.vD,V.int B.L1.vD])) r=some (.lst ([V.int 0,V.int (((m.powers.map wV).length:Nat):Int),V.int (((B.ps.map V.ref).length:Nat):Int)]++[V.int B.L0.vD,V.int B.L1.vD])):=aw
   have s24:=s3.trans s4
   generalize upd (upd H2 q (.lst [V.int 0,V.int (((m.powers.map wV).length:Nat):Int),V.int (((B.ps.map V.ref).length:Nat):Int)])) r (.lst ([V.int 0,V.int (((m.powers.map wV).length:Nat):Int),V.int (((B.ps.map V.ref).length:Nat):Int)]++[V.int B.L0.vD,V.int B.L1.vD]))=H4 at s24 r4
   have s14:=s2.trans s24
   have l4:=l1.same s14
   refine⟨_,rfl,D,_,rfl,.inl (cP.of (s14 _ _ z.2)),_,rfl,B.b,A.aK,B.dx,_,_,rfl,l4.ins,T.aV,T.fF,rfl,B.un,_,rfl,.inl (cP.of l4.un),by show 2<=ao;decide,fun u hu=>?_⟩
   have s5:bX H4 (upd H4 u (.lst [V.int ((vs.length:Nat):Int),V.int (((B.us.map V.ref).length:Nat):Int)])):=br hu
   refine⟨r,u,_,_,rfl,rfl,s5 _ _ r4,aw,by show 5+2<=ao;decide,fun v hv=>eC k dk ((z.1.trans s14).trans s5) hv ?_⟩
   rw[aa,aa,aa,l.tF,l.FU,zl,l.t0,l.t1]
   rfl
end
end Pb
namespace Pb
open PySem PySem.Spec PyProof.Rows L2 TL
open Vbsoab (provAt within exactly placeOf powerOf isProv isPlace step nums bit row shown nearBy at_ distance wayTo armyNear fleetNear anyNear placesOf)
def nH (h:Int) (x:Nat):Pl:=if h=1 then nF x else nA x
def Fm (h:Int) (x:Nat):List Int:=if h=1 then [((x / 4:Nat):Int),((x % 4:Nat):Int)] else [(x:Int)]
theorem Pa (h:Int) (l:List Nat):shown h l=l.flatMap (Fm h):=by
 unfold Vbsoab.shown
 by_cases c:h=1
 ·rw[if_pos c]
  have:Fm h=fun x=>nums [x / 4,x % 4]:=by funext x;unfold Fm;rw[if_pos c];rfl
  rw[this]
 ·rw[if_neg c]
  have:Fm h=fun (x:Nat)=>[(x:Int)]:=by funext x;unfold Fm;rw[if_neg c]
  rw[this]
  induction l with
  | nil=>rfl
  | cons a l ih=>rw[hU,<- ih];rfl
theorem Zg (h:Int) (x:Nat):(if h=1 then [(nH h x).1,(nH h x).2] else [(nH h x).1])=Fm h x:=by
 unfold nH Fm
 by_cases c:h=1
 ·rw[if_pos c,if_pos c,if_pos c];rfl
 ·rw[if_neg c,if_neg c,if_neg c];rfl
def Us (m:aB) (h:Int):List Nat:=if h=1 then placesOf m else be m.provinces.length
def LkH (B:Bd) (h:Int):Lk:=if h=0 then B.L0 else if h=1 then B.L1 else B.L2
theorem dB.grH {A:Ad} {H:Hp} {B:Bd} {m:aB} (l:dB A H B m) (wf:WF m) (h:Int):Gr A H (D' B h) (LkH B h) (lP m h) (nH h) (Us m h):=by
 unfold D' LkH lP Us
 by_cases c0:h=0
 ·subst c0
  have e:nH 0=nA:=by funext x;rfl
  rw[e]
  exact l.gr0 wf
 ·rw[if_neg c0,if_neg c0,if_neg c0]
  by_cases c1:h=1
  ·subst c1
   have e:nH 1=nF:=by funext x;rfl
   rw[e]
   exact l.gr1 wf
  ·rw[if_neg c1,if_neg c1,if_neg c1,if_neg c1]
   have e:nH h=nA:=by funext x;unfold nH;rw[if_neg c1]
   rw[e]
   exact l.gr2 wf
theorem XD {m:aB} (wf:WF m) (h:Int):∀a b,b∈lP m h a->a∈lP m h b:=by
 unfold lP
 by_cases c0:h=0
 ·rw[if_pos c0];exact To wf
 ·rw[if_neg c0]
  by_cases c1:h=1
  ·rw[if_pos c1];exact Qh wf
  ·rw[if_neg c1];exact HK wf
theorem wb {m:aB} (wf:WF m) {h i s:Int} (hp:gM m h i s=true):nH h (at_ h i s)=(i,s)/\at_ h i s∈Us m h:=by
 unfold gM at hp
 rw[bL] at hp
 obtain⟨h1,h2⟩:=hp
 have hi:0<=i/\i<=(m.provinces.length:Int)-1:=by unfold kx within at h1;simpa using h1
 obtain⟨j,rfl⟩:∃j:Nat,i=j:=⟨i.toNat,by omega⟩
 have hj:j<m.provinces.length:=by omega
 unfold nH at_ Us
 by_cases c:h=1
 ·rw[if_pos c] at h2
  rw[if_pos c,if_pos c,if_pos c]
  have hs:0<=s/\s<=((max 1 (ag m j).shores.length:Nat):Int)-1:=by unfold within at h2;rw[cZ] at h2;simpa using h2
  obtain⟨u,rfl⟩:∃u:Nat,s=u:=⟨s.toNat,by omega⟩
  have f:=(wf.pv _ (dZ hj)).four
  rw[cZ,cZ]
  have e1:(4*j+u) / 4=j:=by omega
  have e2:(4*j+u) % 4=u:=by omega
  refine⟨by unfold nF;rw[e1,e2],(Ai wf).mpr ⟨by rw[e1];exact hj,by rw[e1,e2];omega⟩⟩
 ·rw[if_neg c] at h2
  rw[if_neg c,if_neg c,if_neg c]
  have hs:s=0:=by simpa using h2
  subst hs
  rw[cZ]
  exact⟨rfl,bN.mpr hj⟩
section
inductive Uz (vs:List V) (H:Hp) (Q:VK) (E':XK):Prop
 | mk (h:Int) (a:af) (M:List (af×Pl)) (xs:List Nat) (_:vs=[.int h,.ref a]) (_:H a=some (.lst (M.map fun z=>V.ref z.1))) (_:∀z∈M,eJ H z.1 z.2) (_:M.map (·.2)=xs.map (nH h)) (_:xs.length<=1000) (_:OA H Q (zV (0::row h xs)))
theorem sS (T:Tx K mg A):dy P w K mg base hX 1 A.oQ A.oT m_ Uz:=by
 exists T.rF,sG,"o"
 ·obtain⟨h,a,M,xs,rfl,_⟩:=h
  rfl
 ·obtain⟨h,a,M,xs,rfl,ha,mt,em,hE,k⟩:=h
  have nd:=sG.nd
  have sl:ao=16777216:=bI
  have lm:M.length=xs.length:=by have:=congrArg j_ em;rw[aa,aa] at this;exact this
  refine⟨_,aj (cA (i:=2) nd rfl (bC rfl) (c9 (ab aS (ab (bT bF rfl T.eU bf (ab (pv 1) aq)) aq))))
   (aj (lF cS rfl (fV (pv 1)) (df (i:=3) nd rfl (bC rfl))
    (aj (eI (j8 bG cH cG gC (pv 2) (ab (bW dH (pv 3) aS (fun _ _=>rfl)) aq)))
    (az (cV (cg eM (pv 0) (lZ T.Hi) (cD _)) (az (eI (j8 bG cH cG gC (pv 2) (ab (bW dH (pv 3) aS (fun _ _=>rfl)) aq)))) bO))))
   (az (a_ (pv 2)))),?_⟩
  have er:(0:Int)::row h xs=[0,(xs.length:Int)]++xs.flatMap (Fm h):=by show 0::(xs.length:Int)::shown h xs=_;rw[Pa];rfl
  rw[er] at k
  refine⟨_,rfl,a,_,rfl,.inl (cP.of ha),by show 2<=ao;decide,fun G hG=>?_⟩
  rw[aa,lm]
  have s1:bX H (upd H G (.lst [V.int 0,V.int ((xs.length:Nat):Int)])):=br hG
  have g1:upd H G (.lst [V.int 0,V.int ((xs.length:Nat):Int)]) G=some (.lst (zV ([0,(xs.length:Int)]++(xs.take 0).flatMap (Fm h)))):=by rw[aw];rfl
  generalize upd H G (.lst [V.int 0,V.int ((xs.length:Nat):Int)])=H1 at s1 g1
  refine⟨_,rfl,a,rfl,⟨_,cP.of (s1 _ _ ha)⟩,kS (K:=K) (a:=a) (xs:=M.map fun z=>V.ref z.1) (fun i σ H'=>∃v3,σ=[some (.int h),some (.ref a),some (.ref G),v3]/\bX H H'/\H' G=some (.lst (zV ([0,(xs.length:Int)]++(xs.take i).flatMap (Fm h)))))
   ⟨none,rfl,s1,g1⟩ (fun i σ H' _ ⟨_,_,z,_⟩=>cP.of (z _ _ ha)) ?_ ?_⟩
  ·rintro i y σ H2 hy ⟨v3,rfl,s2,g2⟩
   obtain⟨z,hz,rfl⟩:=get_map hy
   obtain⟨x,hx,ez⟩:∃x,xs[i]?=some x/\z.2=nH h x:=by
    have h1:(M.map (·.2))[i]?=some z.2:=by rw[aX,hz];rfl
    rw[em,aX] at h1
    cases e:xs[i]? with
    | none=>rw[e] at h1;cases h1
    | some x=>rw[e] at h1;exact⟨x,rfl,(bQ h1).symm⟩
   have li:=(ax.mp hx).1
   have tz:eJ H2 z.1 z.2:=s2 _ _ (mt z (aN hz))
   have len:((xs.take i).flatMap (Fm h)).length<=2*i:=by
    have key:∀q:List Nat,(q.flatMap (Fm h)).length<=2*q.length:=fun q=>by
     induction q with
     | nil=>simp
     | cons a q ih=>
      have:(Fm h a).length<=2:=by unfold Fm;split <;> simp
      rw[hU,aA,aG];omega
    have:=key (xs.take i)
    rw[cx] at this;omega
   have ft:=yO (Fm h) hx
   have es:=Zg h x
   rw[<- ez] at es
   refine⟨_,rfl,.inl ⟨rfl,_,cP.of g2⟩,_,rfl,z.1,_,0,_,rfl,rfl,iC.of tz,aW (j:=0) rfl,G,_,_,rfl,rfl,g2,by simp only[aa,aA,aG,fP] at len ⊢;omega,?_⟩
   have kp:∀b o,H b=some o->upd H2 G (.lst (zV ([0,(xs.length:Int)]++(xs.take i).flatMap (Fm h))++[V.int z.2.1])) b=some o:=fun b o eb=>by rw[aQ (aT eb hG)];exact s2 b o eb
   have g3:upd H2 G (.lst (zV ([0,(xs.length:Int)]++(xs.take i).flatMap (Fm h))++[V.int z.2.1])) G=some (.lst (zV ([0,(xs.length:Int)]++(xs.take i).flatMap (Fm h))++[V.int z.2.1])):=aw
   have t3:eJ (upd H2 G (.lst (zV ([0,(xs.length:Int)]++(xs.take i).flatMap (Fm h))++[V.int z.2.1]))) z.1 z.2:=by
    show upd _ _ _ _=_
    rw[aQ (eD tz g2 (fun z=>nomatch z))];exact tz
   generalize upd H2 G (.lst (zV ([0,(xs.length:Int)]++(xs.take i).flatMap (Fm h))++[V.int z.2.1]))=H3 at kp g3 t3
   refine⟨_,rfl,rfl,_,rfl,?_⟩
   rw[G3]
   by_cases c:h=1
   ·rw[decide_eq_true c]
    rw[if_pos c] at es
    refine b9 ⟨_,rfl,.inl ⟨rfl,_,cP.of g3⟩,_,rfl,z.1,_,1,_,rfl,rfl,iC.of t3,aW (j:=1) rfl,G,_,_,rfl,rfl,g3,by simp only[aa,aA,aG,fP] at len ⊢;omega,_,rfl,fun b o eb=>by rw[aQ (aT eb hG)];exact kp b o eb,?_⟩
    rw[aw,ft,<- cF,FQ ([0,(xs.length:Int)]++(xs.take i).flatMap (Fm h)) (Fm h x),<- es,cF]
    rfl
   ·rw[decide_eq_false c]
    rw[if_neg c] at es
    refine bY ⟨_,rfl,kp,?_⟩
    rw[g3,ft,<- cF,FQ ([0,(xs.length:Int)]++(xs.take i).flatMap (Fm h)) (Fm h x),<- es]
    rfl
  ·rintro σ H2 ⟨v3,rfl,s2,g2⟩
   rw[aa,lm,bM] at g2
   exact⟨_,rfl,k H2 G s2 g2 hG⟩
theorem Va {m:aB} {H:Hp} {B:Bd} (l:dB A H B m) (wf:WF m) (h:Int) {x:Nat} (hx:x∈Us m h):(lP m h x).length<=160:=by
 have g:=l.grH wf h
 have:=my ((g.rise x).imp (fun h=>cv h)) (g.Hq x hx)
 have:=g.hE
 omega
inductive Q9 (A:Ad) (vs:List V) (H:Hp) (Q:VK) (E':XK):Prop
 | mk (d c:af) (B:Bd) (m:aB) (e h i s:Int) (_:vs=[.ref d,.ref c]) (_:nN A H d B m) (_:vL A H c 6 e [h,i,s] []) (_:hJ A H d B (step m (.near h i s)).1 (out (step m (.near h i s)).2) Q)
theorem Gx (T:Tx K mg A):dy P w K mg base hX 2 A.i' A.nX mq (Q9 A):=by
 exists T.Ek,wK,"o"
 ·obtain⟨d,c,B,m,e,h,i,s,rfl,_⟩:=h
  rfl
 ·obtain⟨d,c,B,m,e,h,i,u,rfl,dk,cl,k⟩:=h
  have nd:=wK.nd
  refine⟨_,aj (cA (i:=2) nd rfl (bC rfl) (bW b8 (aJ (pv 1) rfl) aS (fun _ _=>rfl)))
   (aj (cA (i:=3) nd rfl (bC rfl) (ki (ab (bW b8 (aJ (pv 1) rfl) aS (fun _ _=>rfl)) (ab (bW b8 (aJ (pv 1) rfl) aS (fun _ _=>rfl)) aq))))
   (aj (cV (kf (fB (bP (D2 T) hr rfl T.Hb T.G0.kp T.Hx .nil bR (ab (aJ (pv 0) rfl) (ab (pv 2) (ab (bW dH (pv 3) aS (fun _ _=>rfl)) (ab (bW dH (pv 3) aS (fun _ _=>rfl)) aq))))))) (az (a_ (c9 (ab (lZ T.f') aq)))) bO)
   (az (a_ (bP (sS T) hr rfl T.vg T.rF.kp T.vh .nil bR (ab (pv 2) (ab (dY (bP (uu T) hr rfl T.xM T.yM.kp T.yl .nil bR (ab (aJ (pv 0) rfl) (ab (pv 2) aq))) T.eE T.mB (k9 T) hr T.mH .nil bR (ab (pv 3) aq)) aq))))))),?_⟩
  obtain⟨ddx,hd⟩:=dk.ins
  obtain⟨cdx,na,ra,as,hc,hna,_,_⟩:=cl.at_
  have st:step m (.near h i u)=if (within h 0 2&&gM m h i u)=false then (m,iF (-1)) else (m,{ nums:=0::row h (lP m h (at_ h i u)) }):=rfl
  rw[st] at k
  refine⟨_,rfl,c,A.cK,cdx,_,_,rfl,hc,T.dQ,T.di,rfl,na,_,0,_,rfl,rfl,cP.of hna,aW (j:=0) rfl,?_⟩
  refine⟨_,rfl,c,A.cK,cdx,_,_,rfl,hc,T.dQ,T.di,rfl,na,_,1,_,rfl,rfl,cP.of hna,aW (j:=1) rfl,_,rfl,c,A.cK,cdx,_,_,rfl,hc,T.dQ,T.di,rfl,na,_,2,_,rfl,rfl,cP.of hna,aW (j:=2) rfl,by show 2<=ao;decide,fun tp htp=>?_⟩
  have s1:bX H (upd H tp (.tup [V.int i,V.int u])):=br htp
  have t1:eJ (upd H tp (.tup [V.int i,V.int u])) tp (i,u):=aw
  generalize upd H tp (.tup [V.int i,V.int u])=H1 at s1 t1
  have l1:=dk.bd.same s1
  refine⟨_,rfl,d,A.d_,ddx,_,_,rfl,s1 _ _ hd,T.fA,T.cN,rfl,_,rfl,_,rfl,tp,_,0,_,rfl,rfl,iC.of t1,aW (j:=0) rfl,_,rfl,tp,_,1,_,rfl,rfl,iC.of t1,aW (j:=1) rfl,B,m,h,i,u,rfl,l1,_,rfl,?_⟩
  cases cw:(within h 0 2&&gM m h i u) with
  | false=>
   rw[if_pos cw] at k
   exact b9 ⟨by show 1<=ao;decide,fun q hq=>eC k dk s1 hq rfl⟩
  | true=>
   rw[if_neg (by rw[cw];decide)] at k
   rw[bL] at cw
   obtain⟨en,eu⟩:=wb dk.wf cw.2
   have g1:=l1.grH dk.wf h
   refine bY ⟨_,rfl,_,rfl,d,A.d_,ddx,_,_,rfl,s1 _ _ hd,T.fA,T.cN,rfl,_,rfl,B,m,h,rfl,l1,D' B h,(LkH B h).dx,_,rfl,g1.lk.ins,rfl,_,rfl,D' B h,tp,LkH B h,(i,u),rfl,g1.lk,t1,fun H2 D M s2 m1 m2 m3 hD hD0=>?_⟩
   rw[<- en] at m1
   have ml:=g1.list m1 m2
   refine⟨h,D,M,lP m h (at_ h i u),rfl,hD,m3,ml,by have:=Va l1 dk.wf h eu;omega,fun H3 r s3 hr3 hr0=>?_⟩
   have k:hJ A H d B m ((0::row h (lP m h (at_ h i u)))++[]) Q:=k
   rw[dw] at k
   exact k.same dk ((s1.trans s2).trans s3) hr3 ((s1.trans s2).free hr0)
inductive Zd (A:Ad) (vs:List V) (H:Hp) (Q:VK) (E':XK):Prop
 | mk (d c:af) (B:Bd) (m:aB) (p e h i s j u:Int) (_:vs=[.ref d,.ref c]) (_:nN A H d B m) (_:vL A H c p e [h,i,s,j,u] []) (_:(within h 0 2&&(gM m h i s&&gM m h j u))=false->∀H',bX H H'->Q .iE H') (_:(within h 0 2&&(gM m h i s&&gM m h j u))=true->∀H' r t1 t2,bX H H'->H' r=some (.tup [.ref t1,.ref t2])->eJ H' t1 (i,s)->eJ H' t2 (j,u)->Q (.ref r) H')
theorem Gu (T:Tx K mg A):dy P w K mg base hX 2 A.Di A.Dt Ac (Zd A):=by
 exists T.Lp,F8,"o"
 ·obtain⟨d,c,B,m,p,e,h,i,s,j,u,rfl,_⟩:=h
  rfl
 ·obtain⟨d,c,B,m,p,e,h,i,si,j,sj,rfl,dk,cl,k1,k2⟩:=h
  have nd:=F8.nd
  refine⟨_,aj (cA (i:=2) nd rfl (bC rfl) (bW b8 (aJ (pv 1) rfl) aS (fun _ _=>rfl)))
   (aj (cA (i:=3) nd rfl (bC rfl) (ki (ab (bW b8 (aJ (pv 1) rfl) aS (fun _ _=>rfl)) (ab (bW b8 (aJ (pv 1) rfl) aS (fun _ _=>rfl)) aq))))
   (aj (cA (i:=4) nd rfl (bC rfl) (ki (ab (bW b8 (aJ (pv 1) rfl) aS (fun _ _=>rfl)) (ab (bW b8 (aJ (pv 1) rfl) aS (fun _ _=>rfl)) aq))))
   (aj (lF cS rfl (Zr (ki (ab (pv 3) (ab (pv 4) aq)))) (df (i:=5) nd rfl (bC rfl))
    (az (cV (kf (fB (bP (D2 T) hr rfl T.Hb T.G0.kp T.Hx .nil bR (ab (aJ (pv 0) rfl) (ab (pv 2) (ab (bW dH (pv 5) aS (fun _ _=>rfl)) (ab (bW dH (pv 5) aS (fun _ _=>rfl)) aq))))))) (az (a_ xl)) bO)))
   (az (a_ (ki (ab (pv 3) (ab (pv 4) aq)))))))),?_⟩
  obtain⟨ddx,hd⟩:=dk.ins
  obtain⟨cdx,na,ra,as,hc,hna,_,_⟩:=cl.at_
  refine⟨_,rfl,c,A.cK,cdx,_,_,rfl,hc,T.dQ,T.di,rfl,na,_,0,_,rfl,rfl,cP.of hna,aW (j:=0) rfl,?_⟩
  refine⟨_,rfl,c,A.cK,cdx,_,_,rfl,hc,T.dQ,T.di,rfl,na,_,1,_,rfl,rfl,cP.of hna,aW (j:=1) rfl,_,rfl,c,A.cK,cdx,_,_,rfl,hc,T.dQ,T.di,rfl,na,_,2,_,rfl,rfl,cP.of hna,aW (j:=2) rfl,by show 2<=ao;decide,fun t1 ht1=>?_⟩
  have s1:bX H (upd H t1 (.tup [V.int i,V.int si])):=br ht1
  have w1:eJ (upd H t1 (.tup [V.int i,V.int si])) t1 (i,si):=aw
  generalize upd H t1 (.tup [V.int i,V.int si])=H1 at s1 w1
  refine⟨_,rfl,c,A.cK,cdx,_,_,rfl,s1 _ _ hc,T.dQ,T.di,rfl,na,_,3,_,rfl,rfl,cP.of (s1 _ _ hna),aW (j:=3) rfl,_,rfl,c,A.cK,cdx,_,_,rfl,s1 _ _ hc,T.dQ,T.di,rfl,na,_,4,_,rfl,rfl,cP.of (s1 _ _ hna),aW (j:=4) rfl,by show 2<=ao;decide,fun t2 ht2=>?_⟩
  have s2:bX H1 (upd H1 t2 (.tup [V.int j,V.int sj])):=br ht2
  have w2:eJ (upd H1 t2 (.tup [V.int j,V.int sj])) t2 (j,sj):=aw
  have w12:=s2 _ _ w1
  have s12:=s1.trans s2
  generalize upd H1 t2 (.tup [V.int j,V.int sj])=H2 at w2 w12 s12
  refine⟨_,rfl,_,rfl,by show 2<=ao;decide,fun tt htt=>?_⟩
  have s3:bX H2 (upd H2 tt (.tup [.ref t1,.ref t2])):=br htt
  have w3:upd H2 tt (.tup [.ref t1,.ref t2]) tt=some (.tup [.ref t1,.ref t2]):=aw
  generalize upd H2 tt (.tup [.ref t1,.ref t2])=H3 at s3 w3
  have s13:=s12.trans s3
  refine⟨tt,rfl,⟨_,iC.of w3⟩,X1 (K:=K) (a:=tt) (xs:=[.ref t1,.ref t2]) (fun n σ H'=>∃v5,σ=[some (.ref d),some (.ref c),some (.int h),some (.ref t1),some (.ref t2),v5]/\H'=H3/\(1<=n->(within h 0 2&&gM m h i si)=true)/\(2<=n->(within h 0 2&&gM m h j sj)=true))
   ⟨none,rfl,rfl,fun q=>absurd q (by omega),fun q=>absurd q (by omega)⟩ (fun n σ H' _ ⟨_,_,z,_⟩=>by rw[z];exact iC.of w3) ?_ ?_⟩
  ·rintro n y σ H' hy ⟨v5,rfl,rfl,a1,a2⟩
   have l3:=dk.bd.same s13
   have lt:n<2:=(ax.mp hy).1
   have:n=0\/n=1:=by omega
   rcases this with rfl | rfl
   ·have ey:y=V.ref t1:=by simpa using hy.symm
    subst ey
    refine⟨_,rfl,d,A.d_,ddx,_,_,rfl,s13 _ _ hd,T.fA,T.cN,rfl,_,rfl,_,rfl,t1,_,0,_,rfl,rfl,iC.of (s3 _ _ w12),aW (j:=0) rfl,_,rfl,t1,_,1,_,rfl,rfl,iC.of (s3 _ _ w12),aW (j:=1) rfl,B,m,h,i,si,rfl,l3,_,rfl,?_⟩
    cases cw:(within h 0 2&&gM m h i si) with
    | false=>
     refine b9 (k1 ?_ _ s13)
     rw[<- Bool.and_assoc,cw,rg]
    | true=>exact bY ⟨_,rfl,rfl,fun _=>rfl,fun q=>absurd q (by omega)⟩
   ·have ey:y=V.ref t2:=by simpa using hy.symm
    subst ey
    have b1:=a1 (aC _)
    refine⟨_,rfl,d,A.d_,ddx,_,_,rfl,s13 _ _ hd,T.fA,T.cN,rfl,_,rfl,_,rfl,t2,_,0,_,rfl,rfl,iC.of (s3 _ _ w2),aW (j:=0) rfl,_,rfl,t2,_,1,_,rfl,rfl,iC.of (s3 _ _ w2),aW (j:=1) rfl,B,m,h,j,sj,rfl,l3,_,rfl,?_⟩
    rw[bL] at b1
    cases cw:(within h 0 2&&gM m h j sj) with
    | false=>
     refine b9 (k1 ?_ _ s13)
     rw[b1.1,il] at cw
     rw[b1.1,b1.2,cw];rfl
    | true=>exact bY ⟨_,rfl,rfl,fun _=>by rw[b1.1,b1.2];rfl,fun _=>rfl⟩
  ·rintro σ H' ⟨v5,rfl,rfl,a1,a2⟩
   have b1:=a1 (by show 1<=2;decide)
   have b2:=a2 (aC _)
   rw[bL] at b1 b2
   refine⟨_,rfl,_,rfl,by show 2<=ao;decide,fun r hr2=>?_⟩
   have s4:=br (o:=.tup [.ref t1,.ref t2]) hr2
   exact k2 (by rw[b1.1,b1.2,b2.2];rfl) _ r t1 t2 (s13.trans s4) aw (s4 _ _ (s3 _ _ w12)) (s4 _ _ (s3 _ _ w2))
inductive UI (A:Ad) (vs:List V) (H:Hp) (Q:VK) (E':XK):Prop
 | mk (d c:af) (B:Bd) (m:aB) (e h i s j u:Int) (_:vs=[.ref d,.ref c]) (_:nN A H d B m) (_:vL A H c 7 e [h,i,s,j,u] []) (_:hJ A H d B (step m (.far h i s j u)).1 (out (step m (.far h i s j u)).2) Q)
theorem Iu (T:Tx K mg A):dy P w K mg base hX 3 A.jY A.pd nU (UI A):=by
 exists T.HM,zx,"o"
 ·obtain⟨d,c,B,m,e,h,i,s,j,u,rfl,_⟩:=h
  rfl
 ·obtain⟨d,c,B,m,e,h,i,si,j,sj,rfl,dk,cl,k⟩:=h
  have nd:=zx.nd
  have hu:=qi hr
  refine⟨_,aj (cA (i:=2) nd rfl (bC rfl) (bP (Gu T) hr rfl T.JL T.Lp.kp T.JZ .nil bR (ab (pv 0) (ab (pv 1) aq))))
   (aj (cV (ip (rG (pv 2))) (az (a_ (c9 (ab (lZ T.f') aq)))) bO)
   (aj (cA (i:=3) nd rfl (bC rfl) (bP (uv T) hr rfl T.xN T.yP.kp T.ym .nil bR (ab (bP (uu T) (hr.mono (by decide)) rfl T.xM T.yM.kp T.yl .nil bR (ab (aJ (pv 0) rfl) (ab (bW b8 (aJ (pv 1) rfl) aS (fun _ _=>rfl)) aq))) (ab (bW dH (pv 2) aS (fun _ _=>rfl)) aq))))
   (az (a_ (kM (ip (CM hu (bW dH (pv 2) aS (fun _ _=>rfl)) (pv 3)) (by with_unfolding_all rfl)) (c9 (ab aS (ab (qR hu (pv 3) (bW dH (pv 2) aS (fun _ _=>rfl)) (fun _ _=>rfl)) aq))) (c9 (ab (lZ T.NZ) aq))))))),?_⟩
  obtain⟨ddx,hd⟩:=dk.ins
  obtain⟨cdx,na,ra,as,hc,hna,_,_⟩:=cl.at_
  have st:step m (.far h i si j sj)=if (within h 0 2&&(gM m h i si&&gM m h j sj))=false then (m,iF (-1)) else match distance (lP m h) (at_ h i si) (at_ h j sj) with | none=>(m,iF (-5)) | some d=>(m,{ nums:=[0,(d:Int)] }):=rfl
  rw[st] at k
  refine⟨_,rfl,_,rfl,d,c,B,m,7,e,h,i,si,j,sj,rfl,dk,cl,fun cw H1 s1=>?_,fun cw H1 r t1 t2 s1 hr1 ht1 ht2=>?_⟩
  ·rw[if_pos cw] at k
   exact⟨_,rfl,_,rfl,b9 ⟨by show 1<=ao;decide,fun q hq=>eC k dk s1 hq rfl⟩⟩
  ·rw[if_neg (by rw[cw];decide)] at k
   simp only[bL] at cw
   obtain⟨en1,eu1⟩:=wb dk.wf cw.2.1
   obtain⟨en2,eu2⟩:=wb dk.wf cw.2.2
   have l1:=dk.bd.same s1
   have g1:=l1.grH dk.wf h
   refine⟨_,rfl,_,rfl,bY ⟨_,rfl,d,A.d_,ddx,_,_,rfl,s1 _ _ hd,T.fA,T.cN,rfl,_,rfl,c,A.cK,cdx,_,_,rfl,s1 _ _ hc,T.dQ,T.di,rfl,na,_,0,_,rfl,rfl,cP.of (s1 _ _ hna),aW (j:=0) rfl,B,m,h,rfl,l1,_,rfl,r,_,0,_,rfl,rfl,iC.of hr1,aW (j:=0) rfl,D' B h,t1,LkH B h,lP m h,nH h,Us m h,at_ h i si,rfl,g1,by rw[en1];exact ht1,eu1,fun H2 F q s2 Bq inU hF hF0=>?_⟩⟩
   have dg:gK H2 F (.ref t2) (dW (dq (nH h) q) (kk (nH h (at_ h j sj)))):=by rw[en2];exact gK.t (k:=kk (j,sj)) hF (s2 _ _ ht2)
   refine⟨_,rfl,r,_,1,_,rfl,rfl,iC.of (s2 _ _ hr1),aW (j:=1) rfl,_,rfl,F,_,rfl,dg,_,rfl,?_⟩
   by_cases cq:at_ h j sj∈q.map (·.1)
   ·obtain⟨p,hp,ep⟩:=a9.mp cq
    have dst:=Bq.ex p hp
    have dd:distance (lP m h) (at_ h i si) (at_ h j sj)=some p.2:=by rw[<- ep];exact yR dst (by have:=Qk eu1 g1.Hq dst;have:=g1.hE;omega)
    rw[dd] at k
    have vs:=Lr g1.inj Bq.nd hp
    have ep:p.1=at_ h j sj:=ep
    rw[ep] at vs
    rw[vs] at dg ⊢
    exact b9 ⟨_,rfl,_,rfl,r,_,1,_,rfl,rfl,iC.of (s2 _ _ hr1),aW (j:=1) rfl,F,_,rfl,dg,by show 2<=ao;decide,fun x hx=>eC k dk (s1.trans s2) hx rfl⟩
   ·have dd:distance (lP m h) (at_ h i si) (at_ h j sj)=none:=RV fun ⟨n,hn⟩=>cq (Bq.all hn)
    rw[dd] at k
    rw[(B9 g1.inj).mpr cq]
    exact bY ⟨by show 1<=ao;decide,fun x hx=>eC k dk (s1.trans s2) hx rfl⟩
theorem QV {near:Nat->List Nat} {y:Nat}:∀(d x:Nat),(wayTo near y d x).length<=d+1
 | 0,x=>by simp[wayTo]
 | d+1,x=>by
  unfold wayTo
  split
  ·simp
  ·rename_i z _
   have:=QV (near:=near) (y:=y) d z
   rw[aG];omega
inductive UG (A:Ad) (vs:List V) (H:Hp) (Q:VK) (E':XK):Prop
 | mk (d c:af) (B:Bd) (m:aB) (e h i s j u:Int) (_:vs=[.ref d,.ref c]) (_:nN A H d B m) (_:vL A H c 8 e [h,i,s,j,u] []) (_:hJ A H d B (step m (.way h i s j u)).1 (out (step m (.way h i s j u)).2) Q)
theorem Ir (T:Tx K mg A):dy P w K mg base hX 4 A.jX A.o_ nT (UG A):=by
 exists T.HL,zw,"o"
 ·obtain⟨d,c,B,m,e,h,i,s,j,u,rfl,_⟩:=h
  rfl
 ·obtain⟨d,c,B,m,e,h,i,si,j,sj,rfl,dk,cl,k⟩:=h
  have nd:=zw.nd
  refine⟨_,aj (cA (i:=2) nd rfl (bC rfl) (bP (Gu T) (hr.mono (by decide)) rfl T.JL T.Lp.kp T.JZ .nil bR (ab (pv 0) (ab (pv 1) aq))))
   (aj (cV (ip (rG (pv 2))) (az (a_ (c9 (ab (lZ T.f') aq)))) bO)
   (aj (cA (i:=3) nd rfl (bC rfl) (bW b8 (aJ (pv 1) rfl) aS (fun _ _=>rfl)))
   (aj (cA (i:=4) nd rfl (bC rfl) (bP (EE T) hr rfl T.G_ T.BA.kp T.Hu .nil bR (ab (bP (uu T) (hr.mono (by decide)) rfl T.xM T.yM.kp T.yl .nil bR (ab (aJ (pv 0) rfl) (ab (pv 3) aq))) (ab (bW dH (pv 2) aS (fun _ _=>rfl)) (ab (bW dH (pv 2) aS (fun _ _=>rfl)) aq)))))
   (az (a_ (kM (ip (rG (pv 4))) (c9 (ab (lZ T.NZ) aq)) (bP (sS T) (hr.mono (by decide)) rfl T.vg T.rF.kp T.vh .nil bR (ab (pv 3) (ab (pv 4) aq))))))))),?_⟩
  obtain⟨ddx,hd⟩:=dk.ins
  obtain⟨cdx,na,ra,as,hc,hna,_,_⟩:=cl.at_
  have st:step m (.way h i si j sj)=if (within h 0 2&&(gM m h i si&&gM m h j sj))=false then (m,iF (-1)) else match distance (lP m h) (at_ h i si) (at_ h j sj) with | none=>(m,iF (-5)) | some d=>(m,{ nums:=0::row h (wayTo (lP m h) (at_ h j sj) d (at_ h i si)) }):=rfl
  rw[st] at k
  refine⟨_,rfl,_,rfl,d,c,B,m,8,e,h,i,si,j,sj,rfl,dk,cl,fun cw H1 s1=>?_,fun cw H1 r t1 t2 s1 hr1 ht1 ht2=>?_⟩
  ·rw[if_pos cw] at k
   exact⟨_,rfl,_,rfl,b9 ⟨by show 1<=ao;decide,fun q hq=>eC k dk s1 hq rfl⟩⟩
  ·rw[if_neg (by rw[cw];decide)] at k
   simp only[bL] at cw
   obtain⟨en1,eu1⟩:=wb dk.wf cw.2.1
   obtain⟨en2,eu2⟩:=wb dk.wf cw.2.2
   have l1:=dk.bd.same s1
   have g1:=l1.grH dk.wf h
   refine⟨_,rfl,_,rfl,bY ⟨_,rfl,c,A.cK,cdx,_,_,rfl,s1 _ _ hc,T.dQ,T.di,rfl,na,_,0,_,rfl,rfl,cP.of (s1 _ _ hna),aW (j:=0) rfl,?_⟩⟩
   refine⟨_,rfl,d,A.d_,ddx,_,_,rfl,s1 _ _ hd,T.fA,T.cN,rfl,_,rfl,B,m,h,rfl,l1,_,rfl,r,_,0,_,rfl,rfl,iC.of hr1,aW (j:=0) rfl,_,rfl,r,_,1,_,rfl,rfl,iC.of hr1,aW (j:=1) rfl,D' B h,t1,t2,LkH B h,lP m h,nH h,Us m h,at_ h i si,at_ h j sj,rfl,g1,XD dk.wf h,by rw[en1];exact ht1,by rw[en2];exact ht2,eu1,eu2,fun dd H2 s2=>?_,fun dn dd H2 D M s2 hD mt em hD0=>?_⟩
   ·rw[dd] at k
    exact⟨_,rfl,_,rfl,b9 ⟨by show 1<=ao;decide,fun x hx=>eC k dk (s1.trans s2) hx rfl⟩⟩
   ·rw[dd] at k
    have dle:=(iA dd).2
    have wl:=QV (near:=lP m h) (y:=at_ h j sj) dn (at_ h i si)
    refine⟨_,rfl,_,rfl,bY ⟨_,rfl,_,rfl,h,D,M,wayTo (lP m h) (at_ h j sj) dn (at_ h i si),rfl,hD,mt,em,by omega,fun H3 x s3 hx hx0=>?_⟩⟩
    have k:hJ A H d B m ((0::row h (wayTo (lP m h) (at_ h j sj) dn (at_ h i si)))++[]) Q:=k
    rw[dw] at k
    exact k.same dk ((s1.trans s2).trans s3) hx ((s1.trans s2).free hx0)
end
end Pb
namespace Pb
open PySem PySem.Spec PyProof.Rows L2 TL
open Vbsoab (provAt within exactly placeOf powerOf isProv step nums bit named called setProvince PROVINCES)
open VbsoabNeutral (bytesOf)
theorem qS {m:aB} (wf:WF m) {i:Nat} (hi:i<m.provinces.length) {n:List Nat} (hn:n≠[]) :
  (a8 (setProvince m i { ag m i with name:=[],short:=[] }) n).isSome = !decide (a8 m n=none\/a8 m n=some i):=by
 have len:(setProvince m i { ag m i with name:=[],short:=[] }).provinces.length=m.provinces.length:=by unfold setProvince;exact pI
 have key:∀j,j<m.provinces.length->called (ag (setProvince m i { ag m i with name:=[],short:=[] }) j) n=(if j=i then false else called (ag m j) n):=fun j hj=>by
  rw[jC hi]
  by_cases c:j=i
  ·rw[if_pos c,if_pos c,Ey]
   intro z
   rcases (gq _ _).mp z with q | q
   ·exact hn q.symm
   ·exact hn q.symm
  ·rw[if_neg c,if_neg c]
 cases eo:a8 (setProvince m i { ag m i with name:=[],short:=[] }) n with
 | none=>
  have:a8 m n=none\/a8 m n=some i:=by
   cases em:a8 m n with
   | none=>exact .inl rfl
   | some j=>
    right
    obtain⟨hj,cj⟩:=dX em
    have h1:=jZ eo (i:=j) (by rw[len];exact hj)
    rw[key j hj] at h1
    by_cases c:j=i
    ·rw[c]
    ·rw[if_neg c,cj] at h1;cases h1
  rw[decide_eq_true this];rfl
 | some j=>
  obtain⟨hj,cj⟩:=dX eo
  rw[len] at hj
  rw[key j hj] at cj
  have c:j≠i:=fun c=>by rw[if_pos c] at cj;cases cj
  rw[if_neg c] at cj
  have em:=(iK wf).mpr ⟨hj,cj⟩
  rw[em,decide_eq_false (fun z=>by rcases z with z | z;cases z;injection z with z;exact c z)]
  rfl
theorem BU {lo hi:Nat} {n:List Nat} (h:named lo hi n=true):n≠[]:=fun e=>by rw[e] at h;cases h
section
inductive UH (A:Ad) (vs:List V) (H:Hp) (Q:VK) (E':XK):Prop
 | mk (d c:af) (B:Bd) (m:aB) (e:Int) (l:List Int) (_:vs=[.ref d,.ref c]) (_:nN A H d B m) (_:vL A H c 9 e [] [l]) (_:l.length<=100) (_:hJ A H d B (step m (.symmetry l)).1 (out (step m (.symmetry l)).2) Q)
theorem As (T:Tx K mg A):dy P w K mg base hX 5 A.gi A.jq iP (UH A):=by
 exists T.vj,pV,"o"
 ·obtain⟨d,c,B,m,e,l,rfl,_⟩:=h
  rfl
 ·obtain⟨d,c,B,m,e,l,rfl,dk,cl,hE,k⟩:=h
  have nd:=pV.nd
  have sl:ao=16777216:=bI
  refine⟨_,aj (cA (i:=2) nd rfl (by first | exact bC rfl | exact mN rfl) (bW b8 (aJ (pv 1) rfl) aS (fun _ _=>rfl)))
   (aj (cV (PW.pt (kK (cg Rl (bT bF rfl T.eU bf (ab (pv 2) aq)) (lZ T.Hh) (cD _)) (lD (kf (fB (bT (Qn rfl) rfl T.Vc (by decide +kernel) (ab (sR (te:=Mh (F3 K) [] E0 (Ji (pN 3) (Ji (Mg K (Mg K (pN 0) "board") "provinces") O5))) rfl nd (fV (pv 2)) (gc (N:=qf) (sc:=aP iO) (own:=[("number",3)]) (by decide +kernel)) (fun _ _ _ _ _=>df (i:=3) nd rfl (bC rfl)) (fun _ _ _ _ _=>mh)
     (fun _ _ _ _ _=>bP (i7 T) (hr.mono (by decide)) rfl T.jH T.jW.kp T.jM .nil bR (ab (pv 3) (ab (aJ (aJ (pv 0) (by rfl)) (by rfl)) aq)))) aq))))))) (az (a_ (c9 (ab (lZ T.f') aq)))) bO)
   (az (a_ (c9 (ab aS (ab (kM (fB (bP (Gq T) hr rfl T.IC T.Ee.kp T.II .nil bR (ab (aJ (pv 0) rfl) (ab (pv 2) aq)))) aS aS) aq)))))),?_⟩
  obtain⟨ddx,hd⟩:=dk.ins
  obtain⟨cdx,na,ra,as,ta,hc,hra,hta,_,_⟩:=Hr cl
  have b:=dk.bd
  have st:step m (.symmetry l)=if (decide (l.length<=LQ)&&l.all (kx m))=false then (m,iF (-1)) else (m,{ nums:=[0,bit (o7 m (l.map OT))] }):=rfl
  rw[st] at k
  refine⟨_,rfl,c,A.cK,cdx,_,_,rfl,hc,T.dQ,T.iI,rfl,ra,_,0,_,rfl,rfl,cP.of hra,aW (j:=0) rfl,?_⟩
  refine⟨_,rfl,ta,_,rfl,.inl (cP.of hta),_,_,rfl,rfl,_,rfl,?_⟩
  rw[aa]
  by_cases c1:l.length<=40
  ·rw[show decide ((40:Int)<((l.length:Nat):Int))=false from decide_eq_false (by omega)]
   have e1:decide (l.length<=LQ)=true:=decide_eq_true c1
   rw[e1,il] at k
   refine bY ⟨_,rfl,ta,rfl,⟨_,cP.of hta⟩,fun D hD=>k_ (K:=K) (a:=ta) (xs:=zV l) (fun j H'=>J1 H D ((l.take j).map fun x=>V.bl (kx m x)) H') (C2 hD) (fun j H' _ z=>cP.of (z.1 _ _ hta)) ?_ ?_⟩
   ·intro j y H' hy z
    obtain⟨x,hx,rfl⟩:=get_map hy
    have b':=b.same z.1
    refine⟨rfl,_,rfl,_,rfl,d,A.d_,ddx,_,_,rfl,z.1 _ _ hd,T.fA,T.cN,rfl,B.b,A.aK,B.dx,_,_,rfl,b'.ins,T.aV,T.bA,rfl,x,B.pv,_,rfl,cP.of b'.pv,?_⟩
    rw[aa,b.tF]
    exact qh z hD (iJ _ hx (by omega)) (map_take (fun x=>V.bl (kx m x)) hx)
   ·intro H1 z
    rw[aa,bM] at z
    refine⟨D,l.map (kx m),rfl,cP.of (by rw[cz];exact z.2),_,rfl,?_⟩
    have ea:(l.map (kx m)).all id=l.all (kx m):=by rw[mU];rfl
    rw[ea]
    cases c2:l.all (kx m) with
    | false=>
     rw[if_pos c2] at k
     exact b9 ⟨by show 1<=ao;decide,fun q hq=>eC k dk z.1 hq rfl⟩
    | true=>
     rw[if_neg (by rw[c2];decide)] at k
     have ez:zV l=lG (l.map OT):=by
      unfold lG
      rw[cz]
      refine eX fun x hx=>?_
      have:=cI.mp c2 x hx
      have h0:0<=x:=by unfold kx within at this;simp at this;omega
      show V.int x=V.int ((x.toNat:Nat):Int)
      rw[Cu h0]
     have b1:=b.same z.1
     refine bY ⟨_,rfl,d,A.d_,ddx,_,_,rfl,z.1 _ _ hd,T.fA,T.cN,rfl,_,rfl,B,m,ta,l.map OT,rfl,b1,dk.wf,cP.of (by rw[<- ez];exact z.1 _ _ hta),by rw[aa];exact c1,fun H2 s2=>⟨_,rfl,?_⟩⟩
     cases c3:o7 m (l.map OT) with
     | true=>
      rw[c3] at k
      exact b9 ⟨by show 2<=ao;decide,fun q hq=>eC k dk (z.1.trans s2) hq rfl⟩
     | false=>
      rw[c3] at k
      exact bY ⟨by show 2<=ao;decide,fun q hq=>eC k dk (z.1.trans s2) hq rfl⟩
  ·rw[show decide ((40:Int)<((l.length:Nat):Int))=true from decide_eq_true (by omega)]
   have e1:decide (l.length<=LQ)=false:=decide_eq_false c1
   rw[e1,rg,if_pos rfl] at k
   exact b9 (b9 ⟨by show 1<=ao;decide,fun q hq=>eC k dk (bX.refl H) hq rfl⟩)
inductive Jo (A:Ad) (vs:List V) (H:Hp) (Q:VK) (E':XK):Prop
 | mk (d c:af) (B:Bd) (m:aB) (e i:Int) (n t:List Int) (_:vs=[.ref d,.ref c]) (_:nN A H d B m) (_:vL A H c 10 e [i] [n,t]) (_:Em 40 n) (_:Em 40 t) (_:hJ A H d B (step m (.rename i (dM n) (dM t))).1 (out (step m (.rename i (dM n) (dM t))).2) Q)
theorem CP (T:Tx K mg A):dy P w K mg base hX 4 A.gO A.lr jT (Jo A):=by
 exists T.zK,sJ,"o"
 ·obtain⟨d,c,B,m,e,i,n,t,rfl,_⟩:=h
  rfl
 ·obtain⟨d,c,B,m,e,i,n,t,rfl,dk,cl,rn,rt,k⟩:=h
  have nd:=sJ.nd
  refine⟨_,aj (cA (i:=2) nd rfl (bC rfl) (aJ (pv 0) rfl))
   (aj (cA (i:=3) nd rfl (bC rfl) (bW b8 (aJ (pv 1) rfl) aS (fun _ _=>rfl)))
   (aj (cA (i:=4) nd rfl (bC rfl) (bP (qc T) (hr.mono (by decide)) rfl T.sX T.yF.kp T.s_ .nil bR (ab (bW b8 (aJ (pv 1) rfl) aS (fun _ _=>rfl)) aq)))
   (aj (cA (i:=5) nd rfl (bC rfl) (bP (qc T) (hr.mono (by decide)) rfl T.sX T.yF.kp T.s_ .nil bR (ab (bW b8 (aJ (pv 1) rfl) aS (fun _ _=>rfl)) aq)))
   (aj (cV (kf (fB (bP (i7 T) (hr.mono (by decide)) rfl T.jH T.jW.kp T.jM .nil bR (ab (pv 3) (ab (aJ (pv 2) rfl) aq))))) (az (a_ (c9 (ab (lZ T.f') aq)))) bO)
   (aj (cV (PW.pt (kK (kf (fB (bP (Gs T) hr rfl T.JK T.K8.kp T.JY .nil bR (ab (pv 4) aq)))) (lD (kf (fB (bP (D4 T) hr rfl T.Hd T.G2.kp T.Hz .nil bR (ab (pv 5) aq))))))) (az (a_ (c9 (ab (lZ T.S6) aq)))) bO)
   (aj (cV (PW.pt (kK (cg eM (pv 4) (pv 5) (cD _)) (kK (kf (fB (dY (pv 2) T.aV T.o4 (oe T) (hr.mono (by decide)) T.o6 .nil bR (ab (pv 3) (ab (pv 4) aq))))) (lD (kf (fB (dY (pv 2) T.aV T.o4 (oe T) (hr.mono (by decide)) T.o6 .nil bR (ab (pv 3) (ab (pv 5) aq))))))))) (az (a_ (c9 (ab (lZ T.Le) aq)))) bO)
   (aj (eI (dY (pv 2) T.aV T.GO (EN T) (hr.mono (by decide)) T.HH .nil bR (ab (pv 3) (ab (pv 4) (ab (pv 5) aq)))))
   (az (a_ (c9 (ab aS aq))))))))))),?_⟩
  obtain⟨ddx,hd⟩:=dk.ins
  obtain⟨cdx,na,ra,as,a1,hc,hra,h1,pr,hna⟩:=Hr cl
  obtain⟨a2,as',eas,h2⟩:∃a2 as',as=a2::as'/\H a2=some (.lst (zV t)):=by
   cases pr with
   | cons q r=>exact⟨_,_,rfl,q⟩
  subst eas
  have b:=dk.bd
  have wf:=dk.wf
  have ln:=nM rn
  have lt:=nM rt
  refine⟨_,rfl,d,A.d_,ddx,_,_,rfl,hd,T.fA,T.cN,rfl,_,rfl,c,A.cK,cdx,_,_,rfl,hc,T.dQ,T.di,rfl,na,_,0,_,rfl,rfl,cP.of hna,aW (j:=0) rfl,?_⟩
  refine⟨_,rfl,c,A.cK,cdx,_,_,rfl,hc,T.dQ,T.iI,rfl,ra,_,0,_,rfl,rfl,cP.of hra,aW (j:=0) rfl,a1,dM n,rfl,cP.of (by rw[<- sO rn];exact h1),by omega,fun H1 s1=>?_⟩
  refine⟨_,rfl,c,A.cK,cdx,_,_,rfl,s1 _ _ hc,T.dQ,T.iI,rfl,ra,_,1,_,rfl,rfl,cP.of (s1 _ _ hra),aW (j:=1) rfl,a2,dM t,rfl,cP.of (by rw[<- sO rt];exact s1 _ _ h2),by omega,fun H2 s2=>?_⟩
  have s12:=s1.trans s2
  have b2:=b.same s12
  generalize en:dM n=N at k ln
  generalize et:dM t=S at k lt
  have st:step m (.rename i N S)=if kx m i=false then (m,iF (-1)) else if (named 1 15 N&&named 2 2 S)=false then (m,iF (-2))
   else if N=S\/(a8 (setProvince m i.toNat { ag m i.toNat with name:=[],short:=[] }) N).isSome=true\/(a8 (setProvince m i.toNat { ag m i.toNat with name:=[],short:=[] }) S).isSome=true then (m,iF (-4))
   else (setProvince m i.toNat { ag m i.toNat with name:=N,short:=S },{ nums:=[0] }):=rfl
  rw[st] at k
  refine⟨_,rfl,_,rfl,B.b,A.aK,B.dx,_,_,rfl,b2.ins,T.aV,T.bA,rfl,i,B.pv,_,rfl,cP.of b2.pv,_,rfl,?_⟩
  rw[aa,b.tF]
  show if (!(kx m i))=true then _ else _
  cases cw:kx m i with
  | false=>
   rw[if_pos cw] at k
   exact b9 ⟨by show 1<=ao;decide,fun q hq=>eC k dk s12 hq rfl⟩
  | true=>
   rw[if_neg (by rw[cw];decide)] at k
   have hw:0<=i/\i<=(m.provinces.length:Int)-1:=by unfold kx within at cw;simpa using cw
   obtain⟨j,rfl⟩:∃j:Nat,i=j:=⟨i.toNat,by omega⟩
   have hj:j<m.provinces.length:=by omega
   rw[cZ] at k
   refine bY ⟨_,rfl,iZ N,rfl,by rw[Fn];omega,fun H3 s3=>⟨_,rfl,?_⟩⟩
   rw[qg]
   cases c1:named 1 15 N with
   | false=>
    rw[c1,rg,if_pos rfl] at k
    exact b9 (b9 ⟨by show 1<=ao;decide,fun q hq=>eC k dk (s12.trans s3) hq rfl⟩)
   | true=>
    refine bY ⟨_,rfl,iZ S,rfl,by rw[Fn];omega,fun H4 s4=>⟨_,rfl,?_⟩⟩
    rw[qg]
    have s14:=(s12.trans s3).trans s4
    cases c2:named 2 2 S with
    | false=>
     rw[c1,c2,J',if_pos rfl] at k
     exact b9 ⟨by show 1<=ao;decide,fun q hq=>eC k dk s14 hq rfl⟩
    | true=>
     rw[if_neg (by rw[c1,c2];decide),qS wf hj (BU c1),qS wf hj (BU c2)] at k
     have eN:iZ N=N:=(kP c1).iZ
     have eS:iZ S=S:=(kP c2).iZ
     have b4:=b.same s14
     refine bY ⟨_,rfl,_,rfl,rfl,_,rfl,?_⟩
     show if decide (wV (iZ N)=wV (iZ S))=true then _ else _
     rw[Uh,eN,eS]
     by_cases c3:N=S
     ·rw[decide_eq_true c3]
      rw[if_pos (.inl c3)] at k
      exact b9 (b9 ⟨by show 1<=ao;decide,fun q hq=>eC k dk s14 hq rfl⟩)
     ·rw[decide_eq_false c3]
      refine bY ⟨_,rfl,B.b,B.dx,_,rfl,b4.ins,rfl,_,rfl,_,rfl,B,m,j,N,by rw[<- eN];rfl,b4,_,rfl,?_⟩
      by_cases f1:a8 m N=none\/a8 m N=some j
      ·rw[decide_eq_true f1]
       refine bY ⟨_,rfl,B.b,B.dx,_,rfl,b4.ins,rfl,_,rfl,_,rfl,B,m,j,S,by rw[<- eS];rfl,b4,_,rfl,?_⟩
       by_cases f2:a8 m S=none\/a8 m S=some j
       ·rw[decide_eq_true f2]
        rw[decide_eq_true f1,decide_eq_true f2,if_neg (by rintro (z | z | z);exact c3 z;cases z;cases z)] at k
        have o1:a8 (setProvince m j { ag m j with name:=[],short:=[] }) N=none:=by
         have:=qS wf hj (BU c1)
         rw[decide_eq_true f1] at this
         cases e:a8 (setProvince m j { ag m j with name:=[],short:=[] }) N with
         | none=>rfl
         | some x=>rw[e] at this;cases this
        have o2:a8 (setProvince m j { ag m j with name:=[],short:=[] }) S=none:=by
         have:=qS wf hj (BU c2)
         rw[decide_eq_true f2] at this
         cases e:a8 (setProvince m j { ag m j with name:=[],short:=[] }) S with
         | none=>rfl
         | some x=>rw[e] at this;cases this
        have wf':=Sg wf hj c1 c2 c3 o1 o2
        refine bY ⟨_,rfl,B.b,B.dx,_,rfl,b4.ins,rfl,_,rfl,_,rfl,_,rfl,B,m,j,N,S,by rw[<- eN,<- eS];rfl,b4,wf,wf',hj,c3,f1,f2,fun H5 B5 mv b5=>⟨by show 1<=ao;decide,fun q hq=>?_⟩⟩
        have sq:=br (o:=.lst [V.int 0]) hq
        have nod:=Ql dk
        have mv14:=mv.BH s14
        refine k _ B5 q ⟨⟨ddx,sq _ _ (by rw[mv14.b];exact mv14.out _ _ hd nod)⟩,b5.same sq,wf'⟩ (fun x o ex n1 _=>sq _ _ (mv14.out x o ex n1)) mv14.own mv14.sh aw (mv14.out.free hq)
       ·rw[decide_eq_false f2]
        rw[decide_eq_false f2,if_pos (.inr (.inr rfl))] at k
        exact b9 ⟨by show 1<=ao;decide,fun q hq=>eC k dk s14 hq rfl⟩
      ·rw[decide_eq_false f1]
       rw[decide_eq_false f1,if_pos (.inr (.inl rfl))] at k
       exact b9 (b9 ⟨by show 1<=ao;decide,fun q hq=>eC k dk s14 hq rfl⟩)
end
end Pb
namespace Pb
open PySem PySem.Spec PyProof.Rows L2 TL
open Vbsoab (provAt within step)
open VbsoabNeutral (bytesOf)
def adl (A:Ad):List (Int×V):=[(0,.ref A.i_),(1,.ref A.iq),(2,.ref A.ja),(3,.ref A.iw),(4,.ref A.gk),(5,.ref A.iu),(6,.ref A.i'),(7,.ref A.jY),(8,.ref A.jX),(9,.ref A.gi),(10,.ref A.gO),(11,.ref A.gN),(12,.ref A.iz),(13,.ref A.iy),(14,.ref A.gP)]
theorem CI {n:Nat} {t:List Int} {bs:List (Int×Int×Nat×Nat)} {rs:List (List Int)} (h:vT ((0,255,0,n)::bs) (t::rs)=true):Em n t/\vT bs rs=true:=by
 have h:(decide (0<=t.length)&&decide (t.length<=n)&&t.all (Es 0 255)&&vT bs rs)=true:=h
 simp only[bL,decide_eq_true_eq,cI] at h
 refine⟨⟨h.1.1.2,fun x hx=>?_⟩,h.2⟩
 have:=h.1.2 x hx
 unfold Es at this
 simpa using this
section
theorem adh (T:Tx K mg A) {H:Hp} {d c:af} {B:Bd} {m:aB} {p e:Int} {xs:List Int} {rows:List (List Int)} {call:aaj} (hi:Is p xs rows call) (hb:Wu FJ ((p::xs)::rows)=true) (dk:nN A H d B m) (cl:vL A H c p e xs rows) :
  ∃(fa:af) (fd:aZ) (k:Nat) (ps:List Str) (sp:Sp),E1 (adl A) p=some (.ref fa)/\dy P w K mg base hX k fa fd ps sp/\k<=9/\fH K (.ref fa)=true/\Binds K fd ps []/\∀Q,hJ A H d B (step m call).1 (out (step m call).2) Q->sp [.ref d,.ref c] H Q E0:=by
 have hr:vT (FJ p).2 rows=true:=(zP.mp hb).2
 cases hi with
 | read t=>exact⟨A.i_,A.nW,9,mo,Q8 A,rfl,Gw T,by decide,T.Ej.kp,T.IK,fun Q k=>⟨d,c,B,m,e,t,rfl,dk,cl,(CI (bs:=[]) hr).1,k⟩⟩
 | print=>exact⟨A.iq,A.mC,5,kZ,Ms A,rfl,EH T,by decide,T.Cg.kp,T.HB,fun Q k=>⟨d,c,B,m,rfl,dk,k⟩⟩
 | find t=>exact⟨A.ja,A.nY,3,mr,Q_ A,rfl,Gy T,by decide,T.El.kp,T.IM,fun Q k=>⟨d,c,B,m,e,t,rfl,dk,cl,(CI (bs:=[]) hr).1,k⟩⟩
 | place t=>exact⟨A.iw,A.mE,3,k6,Mu A,rfl,EJ T,by decide,T.Cj.kp,T.HD,fun Q k=>⟨d,c,B,m,e,t,rfl,dk,cl,(CI (bs:=[]) hr).1,k⟩⟩
 | province i=>exact⟨A.gk,A.jr,3,iQ,DR A,rfl,Au T,by decide,T.vk.kp,T.Ce,fun Q k=>⟨d,c,B,m,e,i,rfl,dk,cl,k⟩⟩
 | power i=>exact⟨A.iu,A.mD,3,k5,Mt A,rfl,EI T,by decide,T.Ci.kp,T.HC,fun Q k=>⟨d,c,B,m,e,i,rfl,dk,cl,k⟩⟩
 | near h i s=>exact⟨A.i',A.nX,2,mq,Q9 A,rfl,Gx T,by decide,T.Ek.kp,T.IL,fun Q k=>⟨d,c,B,m,e,h,i,s,rfl,dk,cl,k⟩⟩
 | far h i s j u=>exact⟨A.jY,A.pd,3,nU,UI A,rfl,Iu T,by decide,T.HM.kp,T.LB,fun Q k=>⟨d,c,B,m,e,h,i,s,j,u,rfl,dk,cl,k⟩⟩
 | way h i s j u=>exact⟨A.jX,A.o_,4,nT,UG A,rfl,Ir T,by decide,T.HL.kp,T.LA,fun Q k=>⟨d,c,B,m,e,h,i,s,j,u,rfl,dk,cl,k⟩⟩
 | symmetry l=>
  refine⟨A.gi,A.jq,5,iP,UH A,rfl,As T,by decide,T.vj.kp,T.Cd,fun Q k=>⟨d,c,B,m,e,l,rfl,dk,cl,?_,k⟩⟩
  have hr:(decide (0<=l.length)&&decide (l.length<=100)&&l.all (Es (-1000000000000000000) 1000000000000000000)&&true)=true:=hr
  simp only[bL,decide_eq_true_eq] at hr
  exact hr.1.1.2
 | rename i n t=>exact⟨A.gO,A.lr,4,jT,Jo A,rfl,CP T,by decide,T.zK.kp,T.E6,fun Q k=>⟨d,c,B,m,e,i,n,t,rfl,dk,cl,(CI (bs:=[(0,255,0,40)]) hr).1,(CI (bs:=[]) (CI (bs:=[(0,255,0,40)]) hr).2).1,k⟩⟩
 | starts=>exact⟨A.gN,A.lp,1,jS,Jn A,rfl,CO T,by decide,T.zJ.kp,T.E5,fun Q k=>⟨d,c,B,m,rfl,dk,k⟩⟩
 | homes i=>exact⟨A.iz,A.mG,2,k8,Mx A,rfl,EL T,by decide,T.Cm.kp,T.HF,fun Q k=>⟨d,c,B,m,e,i,rfl,dk,cl,k⟩⟩
 | parts=>exact⟨A.iy,A.mF,4,k7,Mw A,rfl,EK T,by decide,T.Ck.kp,T.HE,fun Q k=>⟨d,c,B,m,rfl,dk,k⟩⟩
 | counts=>exact⟨A.gP,A.lA,1,jU,Jp A,rfl,CQ T,by decide,T.zL.kp,T.E7,fun Q k=>⟨d,c,B,m,rfl,dk,k⟩⟩
inductive CG (K:ae) (vs:List V) (H:Hp) (Q:VK) (E':XK):Prop
 | mk (ca:af) (l:List Int) (cs:List (List (List Int))) (_:vs=[.ref ca]) (_:cP K H ca (zV l)) (_:YN l cs) (_:l.length<=17000) (_:∀(H':Hp) (G:af),bX H H'->H' G=some (.lst (zV (jQ l)))->H G=none->Q (.ref G) H')
theorem Pt (T:Tx K mg A):dy P w K mg base hX 10 A.Dk A.yT Af (CG K):=by
 exists T.answers,F9,"o"
 ·obtain⟨ca,l,cs,rfl,_⟩:=h
  rfl
 ·obtain⟨ca,l,cs,rfl,hl,ask,hE,k⟩:=h
  have nd:=F9.nd
  have sl:ao=16777216:=bI
  refine⟨_,aj (cA (i:=1) nd rfl (bC rfl) (sQ T.XI (Nb T) (hr.mono (by decide)) rfl T.ZN T.QA .nil bR))
   (aj (cA (i:=2) nd rfl (bC rfl) (c9 aq))
   (aj (cA (i:=3) nd rfl (bC rfl) aS)
   (aj (Gd cS (cg DZ (pv 3) (bT bF rfl T.eU bf (ab (pv 0) aq)) (cD _))
    (aj (cA (i:=4) nd rfl (bC rfl) (Ky T.XJ (Nc T) (hr.mono (by decide)) rfl T.ZO T.QB .nil bR (ab (pv 0) (ab (pv 3) aq))))
    (aj (cA (i:=5) nd rfl (bC rfl) (Xv (YB T.S7) (aJ (pv 4) rfl) (fun _ _=>rfl)))
    (aj (cA (i:=6) nd rfl (bC rfl) (U2 5 (ab (pv 1) (ab (pv 4) aq))))
    (aj (eI (j8 bG cH cG gC (pv 2) (ab (bT bF rfl T.eU bf (ab (pv 6) aq)) aq)))
    (aj (eI (j8 bG fY fX pC (pv 2) (ab (pv 6) aq)))
    (az (cA (i:=3) nd rfl (bC rfl) (aJ (pv 4) rfl)))))))))
   (az (a_ (pv 2)))))),?_⟩
  intro d ddx hd hddx ned
  refine⟨d,ddx,rfl,aw,fun H1 B0 dk0 fr0 bt=>⟨rfl,?_⟩⟩
  have s1:bX H H1:=bX.made hd hddx bt
  have own0:∀x∈own B0,H x=none:=fun x hx=>by
   have:=fr0 x hx
   cases h:H x with
   | none=>rfl
   | some o=>
    rw[aQ (aT h hd),aQ (aT h hddx),h] at this;cases this
  refine⟨cu _,fun G hG=>?_⟩
  have s2:bX H1 (upd H1 G (.lst [])):=br hG
  have g2:upd H1 G (.lst []) G=some (.lst (zV [])):=aw
  have hG0:H G=none:=s1.free hG
  have dk2:=dk0.same s2
  have nG0:G∉own B0:=fun z=>CN dk0.bd G z hG
  have nS0:G∉B0.sh:=fun z=>by
   have e0:B0.sh=[]:=mL.mp dk0.bd.shl
   rw[e0] at z;cases z
  generalize upd H1 G (.lst [])=H2 at s2 g2 dk2
  have due:=ask.due
  refine⟨fun n σ H'=>∃(v4 v5 v6:Option V) (dn rest:List (List (List Int))) (B:Bd) (mm:aB) (acc:List Int),σ=[some (.ref ca),some (.ref d),some (.ref G),some (.int ((dn.flatMap o5).length:Nat)),v4,v5,v6]/\cs=dn++rest/\rest.length=n/\bX H H'/\nN A H' d B mm/\(∀x∈own B,H x=none)/\G∉own B/\G∉B.sh/\H' G=some (.lst (zV acc))/\jQ l=acc++yY (Bm gy mm rest),
   ⟨cs.length,none,none,none,[],cs,B0,{},[],rfl,rfl,rfl,s1.trans s2,dk2,own0,nG0,nS0,g2,due⟩,?_⟩
  rintro n σ H' ⟨v4,v5,v6,dn,rest,B,mm,acc,rfl,ec,en,sH,dk,ow,nG,nS,hg,ea⟩
  have hl':=sH.seq hl
  have lf:l=dn.flatMap o5++rest.flatMap o5:=by rw[ask.flat,ec,gB]
  refine⟨_,rfl,_,rfl,ca,_,rfl,.inl hl',_,_,rfl,rfl,_,rfl,?_⟩
  rw[aa]
  cases rest with
  | nil=>
   have ll:l.length=(dn.flatMap o5).length:=by rw[lf];simp
   rw[show decide ((((dn.flatMap o5).length:Nat):Int)<((l.length:Nat):Int))=false from decide_eq_false (by omega)]
   refine bY ⟨_,rfl,k H' G sH ?_ hG0⟩
   rw[hg,ea]
   show _=some (HO.lst (zV (acc++[])))
   rw[dw]
  | cons c rest=>
   have cm:c∈cs:=by rw[ec];simp
   obtain⟨p,xs,rows,call,rfl,is,co,sh⟩:=ask.each c cm
   have ins:=ask.inside _ cm
   have lf2:l=dn.flatMap o5++((p::xs)++gb rows)++rest.flatMap o5:=by rw[lf,hU,<- cF];rfl
   have ll:(dn.flatMap o5).length<l.length:=by rw[lf2];simp
   rw[show decide ((((dn.flatMap o5).length:Nat):Int)<((l.length:Nat):Int))=true from decide_eq_true (by omega)]
   have fr:rows.length<=1000:=by
    obtain⟨i,_,fr⟩:=RP sh
    have:i<15:=(ax.mp fr).1
    have all:∀i:Fin 15,∃a b:Nat,Hj[i.val]?=some [V.int (a:Nat),V.int (b:Nat)]/\b<=2:=by
     intro i
     match i with
     | ⟨0,_⟩=>exact⟨0,1,rfl,by decide⟩
     | ⟨1,_⟩=>exact⟨0,0,rfl,by decide⟩
     | ⟨2,_⟩=>exact⟨0,1,rfl,by decide⟩
     | ⟨3,_⟩=>exact⟨0,1,rfl,by decide⟩
     | ⟨4,_⟩=>exact⟨1,0,rfl,by decide⟩
     | ⟨5,_⟩=>exact⟨1,0,rfl,by decide⟩
     | ⟨6,_⟩=>exact⟨3,0,rfl,by decide⟩
     | ⟨7,_⟩=>exact⟨5,0,rfl,by decide⟩
     | ⟨8,_⟩=>exact⟨5,0,rfl,by decide⟩
     | ⟨9,_⟩=>exact⟨0,1,rfl,by decide⟩
     | ⟨10,_⟩=>exact⟨1,2,rfl,by decide⟩
     | ⟨11,_⟩=>exact⟨0,0,rfl,by decide⟩
     | ⟨12,_⟩=>exact⟨1,0,rfl,by decide⟩
     | ⟨13,_⟩=>exact⟨0,0,rfl,by decide⟩
     | ⟨14,_⟩=>exact⟨0,0,rfl,by decide⟩
    obtain⟨a,b,e1,e2⟩:=all ⟨i,this⟩
    have e1:Hj[i]?=some [V.int (a:Nat),V.int (b:Nat)]:=e1
    rw[fr] at e1
    injection e1 with e1
    injection e1 with _ e1
    injection e1 with e1 _
    injection e1 with e1
    omega
   refine b9 ⟨_,fun σ' H'' z=>⟨rest.length,by simp at en;omega,z⟩,?_⟩
   refine⟨_,rfl,_,rfl,fun cc cdx hcc hcdx nec=>?_⟩
   have sm:bX H' (upd (upd H' cdx (.own cc)) cc (.ins A.cK cdx [])):=bX.made hcc hcdx fun b o e _=>e
   refine⟨cc,cdx,ca,l,dn.flatMap o5,rest.flatMap o5,p,xs,rows,rfl,aw,sm.seq hl',lf2,sh,fr,fun H3 cl bc=>⟨rfl,?_⟩⟩
   have s3:bX H' H3:=bX.made hcc hcdx bc
   have dk3:=dk.same s3
   obtain⟨cdx',na,ra,as,hc3,_,_,_⟩:=cl.at_
   obtain⟨fa,fd,lv,ps,sp,kd,fok,lvl,kp,bd,run⟩:=adh (P:=P) (w:=w) (base:=base) T is ins dk3 cl
   refine⟨_,rfl,cc,A.cK,cdx',_,_,rfl,hc3,T.dQ,T.zB,rfl,A.DD,_,_,_,rfl,T.So,rfl,kd,?_⟩
   refine⟨fa,fd,lv,ps,sp,rfl,fok,hr.mono lvl,kp,bd,_,rfl,_,rfl,run _ ?_⟩
   intro H4 B4 D dk4 kp4 ow4 sh4 hD fD
   have g3:=s3 _ _ hg
   obtain⟨ddx',hdd⟩:=dk3.ins
   have ndG:G≠d:=fun z=>by rw[z,hdd] at g3;cases g3
   have g4:=kp4 _ _ g3 nG ndG
   have nDG:D≠G:=fun z=>by
    rcases fD with q | q
    ·exact nG (z▸q)
    ·rw[z,g3] at q;cases q
   have ncd:cc≠d:=fun z=>by
    obtain⟨_,h⟩:=dk.ins
    rw[<- z,hcc] at h;cases h
   have ncB:cc∉own B:=fun z=>CN dk.bd cc z hcc
   have c4:=kp4 _ _ hc3 ncB ncd
   have st:gy mm ((p::xs)::rows)=((step mm call).1,out (step mm call).2):=by show ((step mm (mI ((p::xs)::rows))).1,out (step mm (mI ((p::xs)::rows))).2)=_;rw[co]
   have ea2:jQ l=acc++(((out (step mm call).2).length:Int)::out (step mm call).2)++yY (Bm gy (step mm call).1 rest):=by
    rw[ea]
    show acc++yY ((gy mm ((p::xs)::rows)).2::Bm gy (gy mm ((p::xs)::rows)).1 rest)=_
    rw[st]
    show acc++(((out (step mm call).2).length:Int)::out (step mm call).2++yY _)=_
    rw[cF]
   have sz:=ask.size
   have sz2:acc.length+((out (step mm call).2).length+1)<=10000000:=by
    rw[ea2] at sz
    simp only[aA,aG] at sz
    omega
   refine⟨_,rfl,.inl ⟨rfl,_,cP.of g4⟩,_,rfl,D,_,rfl,.inl (cP.of hD),G,_,_,rfl,rfl,g4,by rw[aa];omega,?_⟩
   rw[aa]
   have nG4:G∉own B4:=fun z=>by
    rcases ow4 G z with q | q
    ·exact nG q
    ·rw[g3] at q;cases q
   have nS4:G∉B4.sh:=fun z=>by
    rcases sh4 G z with q | q | q
    ·exact nS q
    ·exact nG q
    ·rw[g3] at q;cases q
   have g5:upd H4 G (.lst (zV acc++[V.int ((out (step mm call).2).length:Nat)])) G=some (.lst (zV acc++[V.int ((out (step mm call).2).length:Nat)])):=aw
   have kp5:∀x o,H4 x=some o->x≠G->upd H4 G (.lst (zV acc++[V.int ((out (step mm call).2).length:Nat)])) x=some o:=fun x o ex n=>by rw[aQ n];exact ex
   have bd5:dB A (upd H4 G (.lst (zV acc++[V.int ((out (step mm call).2).length:Nat)]))) B4 (step mm call).1:=R3 dk4.bd g4 nG4 nS4
   generalize upd H4 G (.lst (zV acc++[V.int ((out (step mm call).2).length:Nat)]))=H5 at g5 kp5 bd5
   have D5:=kp5 _ _ hD nDG
   refine⟨_,rfl,.inl ⟨rfl,_,cP.of g5⟩,_,rfl,G,D,_,_,rfl,rfl,g5,D5,by simp only[aA,aa,bS];omega,?_⟩
   have kp6:∀x o,H5 x=some o->x≠G->upd H5 G (.lst (zV acc++[V.int ((out (step mm call).2).length:Nat)]++zV (out (step mm call).2))) x=some o:=fun x o ex n=>by rw[aQ n];exact ex
   have bd6:dB A (upd H5 G (.lst (zV acc++[V.int ((out (step mm call).2).length:Nat)]++zV (out (step mm call).2)))) B4 (step mm call).1:=R3 bd5 g5 nG4 nS4
   have ncG:cc≠G:=eD c4 g4 (fun z=>nomatch z)
   have c6:=kp6 _ _ (kp5 _ _ c4 ncG) ncG
   obtain⟨dx4,hd4⟩:=dk4.ins
   have ndG':d≠G:=bK ndG
   refine⟨_,rfl,cc,A.cK,cdx',_,_,rfl,c6,T.dQ,T.lH,rfl,?_⟩
   refine⟨some (.ref cc),some (.ref fa),some (.ref D),dn++[(p::xs)::rows],rest,B4,(step mm call).1,acc++(((out (step mm call).2).length:Int)::out (step mm call).2),?_,by rw[ec];simp,rfl,fun x o ex=>?_,⟨⟨dx4,kp6 _ _ (kp5 _ _ hd4 ndG') ndG'⟩,bd6,dk4.wf⟩,fun x hx=>?_,nG4,nS4,?_,ea2⟩
   ·have e3:((dn++[(p::xs)::rows]).flatMap o5).length=(dn.flatMap o5).length+((p::xs)++gb rows).length:=by
     rw[gB,aA,vW];rfl
    rw[e3]
    rfl
   ·have n1:x≠G:=aT ex hG0
    have n2:x≠d:=aT ex hd
    have n3:x∉own B:=fun z=>by rw[ow x z] at ex;cases ex
    exact kp6 _ _ (kp5 _ _ (kp4 x o (s3 _ _ (sH x o ex)) n3 n2) n1) n1
   ·rcases ow4 x hx with q | q
    ·exact ow x q
    ·exact (sH.trans s3).free q
   ·rw[aw,cF]
    show _=some (HO.lst (zV (acc++([((out (step mm call).2).length:Int)]++out (step mm call).2))))
    rw[FQ,FQ]
    rfl
end
end Pb
namespace Pb
open PySem PySem.Spec PyProof.Rows L2
section
variable {K:ae} {mg:Str->Option ai} {h:cX}
def dD (K:ae) (mg:Str->Option ai) (x:Str) (st:c_):Prop:=∃f d,gL K x x st f d/\mg x=some (.ref f)
def lO (K:ae) (C:af) (x q:Str) (st:c_):Prop:=∃f d,gL K x q st f d/\uT K C x f
def QH (K:ae) (C:af) (q:Str) (st:c_):Prop:=∃f d,gL K "__init__" q st f d/\Mk K C f
section
variable {C f:af} {x q:Str} {st:c_} {oc:ai} {od an:Option af} {osl:Array (Option ai)} {kV doc pm cdv ct:ai}
theorem Z1 (X:K.In h) (G:h.Ns aI mg) (a:aM K aI x=some (some (.ref f))) (l:K.lookup f=some ⟨oc,od,.func (fe x x (lh st) (j1 st) (aP st) .none kV doc pm an cdv ct),osl⟩) (c:mJ K cdv x=true) (k:fH K (.ref f)=true):dD K mg x st:=⟨f,_,Qg l c k,aU X G a⟩
theorem XM (a:dm K (.ref C) x=some (some (.ref f))) (i:uW K (.ref f)=true) (l:K.lookup f=some ⟨oc,od,.func (fe x q (lh st) (j1 st) (aP st) .none kV doc pm an cdv ct),osl⟩) (c:mJ K cdv q=true) (k:fH K (.ref f)=true):lO K C x q st:=⟨f,_,Qg l c k,a,i,k⟩
theorem aa9 (m:Fc K C=true) (kc:fH K (.ref C)=true) (a:dm K (.ref C) "__init__"=some (some (.ref f))) (i:uW K (.ref f)=true) (l:K.lookup f=some ⟨oc,od,.func (fe "__init__" q (lh st) (j1 st) (aP st) .none kV doc pm an cdv ct),osl⟩) (c:mJ K cdv q=true) (k:fH K (.ref f)=true):QH K C q st:=⟨f,_,Qg l c k,m,a,i,kc⟩
end
theorem abh {α:Type} {p:α->Prop} {a:α} (h:p a):∃t,p t:=⟨a,h⟩
def Yv (e:fT):Int×Tok×ai:=match e.key with
 | .int i t=>(i,t,e.val)
 | _=>(0,0,e.val)
theorem NN {d:af} {kvs:List (Int×V)} {es:Array fT} {ep:Nat} (l:K.lookup d=some ⟨.type "dict",none,.dict es ep,#[]⟩) (n:(d==eB)=false) (nd:(kvs.map (·.1)).Nodup) (e:es.toList=(es.toList.map Yv).map YH) (r:RC kvs (es.toList.map Yv)):yu K d kvs:=⟨n,nd,_,_,ep,_,l,⟨rfl,rfl,rfl⟩,rfl,e,r⟩
theorem K4 {a:af} {xs:List V} {its:Array ai} {n:Nat} {sl:Array (Option ai)} (l:K.lookup a=some ⟨.type "tuple",none,.seq its n,sl⟩) (s:its.size<=ao) (v:dF xs its.toList):oX K a xs:=⟨_,_,n,l,rfl,rfl,rfl,s,v⟩
theorem ke {a b:af} {o:Option ai} (p:o=some (.ref a)) (q:o=some (.ref b)):a=b:=by
 rw[p] at q
 injection q with q
 injection q
theorem Vp {a x0 x1 x2 x3 x4 x5 x6 x7 x8 x9 x10 x11 x12 x13 x14:af} {r0 r1 r2 r3 r4 r5 r6 r7 r8 r9 r10 r11 r12 r13 r14:List V} (t:oX K a [.ref x0,.ref x1,.ref x2,.ref x3,.ref x4,.ref x5,.ref x6,.ref x7,.ref x8,.ref x9,.ref x10,.ref x11,.ref x12,.ref x13,.ref x14]) (p0:oX K x0 r0) (p1:oX K x1 r1) (p2:oX K x2 r2) (p3:oX K x3 r3) (p4:oX K x4 r4) (p5:oX K x5 r5) (p6:oX K x6 r6) (p7:oX K x7 r7) (p8:oX K x8 r8) (p9:oX K x9 r9) (p10:oX K x10 r10) (p11:oX K x11 r11) (p12:oX K x12 r12) (p13:oX K x13 r13) (p14:oX K x14 r14):Wj K a [r0,r1,r2,r3,r4,r5,r6,r7,r8,r9,r10,r11,r12,r13,r14]:=⟨[x0,x1,x2,x3,x4,x5,x6,x7,x8,x9,x10,x11,x12,x13,x14],t,(.cons p0 (.cons p1 (.cons p2 (.cons p3 (.cons p4 (.cons p5 (.cons p6 (.cons p7 (.cons p8 (.cons p9 (.cons p10 (.cons p11 (.cons p12 (.cons p13 (.cons p14 .nil)))))))))))))))⟩
def Fin (K:ae) (mg:Str->Option ai) (P:bj) (w:bV) (fa:af):Prop:=∃fd:aZ,(∀(s:ay) (us:List ai),us.length=(["calls"]:List Str).length->OV s fd ⟨us,[]⟩ ((["calls"]:List Str).zip us))/\∀base:cX,K.In base->base.Ns aI mg->dy P w K mg base hX 10 fa fd ["calls"] (CG K)
theorem fin {A:Ad} {P:bj} {w:bV} {fa:af} (T:Tx K mg A) (e:mg "answers"=some (.ref fa)):Fin K mg P w fa:=by
 cases ke e T.S5
 refine⟨A.yT,?_,fun base _ _=>Pt T⟩
 obtain⟨oc,od,kV,doc,pm,an,cdv,ct,osl,e,_⟩:=T.answers.ex
 rw[e]
 exact fun s us hu=>match us,hu with | [_],_=>.of_eq rfl
theorem IH {x qual:Str} {st:c_} {f:af} {fd:aZ} {p0:Str} (F:gL K x qual st f fd) (h:∀(kV doc pm:ai) (an:Option af) (cdv ct u0:ai),DI (fe x qual (lh st) (j1 st) (aP st) .none kV doc pm an cdv ct) ⟨[u0],[]⟩=pure (([p0]:List Str).zip [u0])):Binds K fd [p0] []:=F.binds fun kV doc pm an cdv ct us hl=>match us,hl with | [u0],_=>h kV doc pm an cdv ct u0
theorem rX {x qual:Str} {st:c_} {f:af} {fd:aZ} {p0 p1:Str} (F:gL K x qual st f fd) (h:∀(kV doc pm:ai) (an:Option af) (cdv ct u0 u1:ai),DI (fe x qual (lh st) (j1 st) (aP st) .none kV doc pm an cdv ct) ⟨[u0,u1],[]⟩=pure (([p0,p1]:List Str).zip [u0,u1])):Binds K fd [p0,p1] []:=F.binds fun kV doc pm an cdv ct us hl=>match us,hl with | [u0,u1],_=>h kV doc pm an cdv ct u0 u1
theorem YK {x qual:Str} {st:c_} {f:af} {fd:aZ} {p0 p1 p2:Str} (F:gL K x qual st f fd) (h:∀(kV doc pm:ai) (an:Option af) (cdv ct u0 u1 u2:ai),DI (fe x qual (lh st) (j1 st) (aP st) .none kV doc pm an cdv ct) ⟨[u0,u1,u2],[]⟩=pure (([p0,p1,p2]:List Str).zip [u0,u1,u2])):Binds K fd [p0,p1,p2] []:=F.binds fun kV doc pm an cdv ct us hl=>match us,hl with | [u0,u1,u2],_=>h kV doc pm an cdv ct u0 u1 u2
theorem bd4 {x qual:Str} {st:c_} {f:af} {fd:aZ} {p0 p1 p2 p3:Str} (F:gL K x qual st f fd) (h:∀(kV doc pm:ai) (an:Option af) (cdv ct u0 u1 u2 u3:ai),DI (fe x qual (lh st) (j1 st) (aP st) .none kV doc pm an cdv ct) ⟨[u0,u1,u2,u3],[]⟩=pure (([p0,p1,p2,p3]:List Str).zip [u0,u1,u2,u3])):Binds K fd [p0,p1,p2,p3] []:=F.binds fun kV doc pm an cdv ct us hl=>match us,hl with | [u0,u1,u2,u3],_=>h kV doc pm an cdv ct u0 u1 u2 u3
theorem bd5 {x qual:Str} {st:c_} {f:af} {fd:aZ} {p0 p1 p2 p3 p4:Str} (F:gL K x qual st f fd) (h:∀(kV doc pm:ai) (an:Option af) (cdv ct u0 u1 u2 u3 u4:ai),DI (fe x qual (lh st) (j1 st) (aP st) .none kV doc pm an cdv ct) ⟨[u0,u1,u2,u3,u4],[]⟩=pure (([p0,p1,p2,p3,p4]:List Str).zip [u0,u1,u2,u3,u4])):Binds K fd [p0,p1,p2,p3,p4] []:=F.binds fun kV doc pm an cdv ct us hl=>match us,hl with | [u0,u1,u2,u3,u4],_=>h kV doc pm an cdv ct u0 u1 u2 u3 u4
theorem aaH {P:bj} {w:bV} {fa:af} (X:K.In h) (G:h.Ns aI mg) (e:mg "answers"=some (.ref fa))
  {c0:af} (a0:aM K aI "Province"=some (some (.ref c0))) (l0:HP K c0) (n0:cW K c0 "kind") (n1:cW K c0 "name") (n2:cW K c0 "short") (n3:cW K c0 "shores") (n4:cW K c0 "centre") (n5:cW K c0 "home") {c1:af} (a1:aM K aI "Unit"=some (some (.ref c1))) (l1:HP K c1) (n6:cW K c1 "power") (n7:cW K c1 "fleet") (n8:cW K c1 "place") {c2:af} (a2:aM K aI "Links"=some (some (.ref c2))) (l2:HP K c2) (n9:cW K c2 "joined") (n10:cW K c2 "total") {c3:af} (a3:aM K aI "Board"=some (some (.ref c3))) (l3:HP K c3) (n11:cW K c3 "powers") (n12:cW K c3 "provinces") (n13:cW K c3 "by_word") (n14:cW K c3 "land") (n15:cW K c3 "sea") (n16:cW K c3 "either") (n17:cW K c3 "units") {c4:af} (a4:aM K aI "Desk"=some (some (.ref c4))) (l4:HP K c4) (n18:cW K c4 "board") {c5:af} (a5:aM K aI "Call"=some (some (.ref c5))) (l5:HP K c5) (n19:cW K c5 "number") (n20:cW K c5 "end") (n21:cW K c5 "numbers") (n22:cW K c5 "rows") (h0:dD K mg "sign_of" zR) (h1:dD K mg "text_of" tR) (h2:dD K mg "bytes_of" qP) (h3:dD K mg "counted" zU) (h4:dD K mg "words_of" qN) (h5:dD K mg "is_small" qO) (h6:dD K mg "is_great" wx) (h7:dD K mg "is_power" wu) (h8:dD K mg "is_name" zS) (h9:dD K mg "is_short" wq) (h10:dD K mg "is_shore" wt) (h11:QH K c0 "Province.__init__" oC) (h12:QH K c1 "Unit.__init__" wz) (h13:QH K c2 "Links.__init__" t4) (h14:lO K c2 "has" "Links.has" t5) (h15:lO K c2 "put" "Links.put" tZ) (h16:lO K c2 "put_end" "Links.put_end" mY) (h17:lO K c2 "beside" "Links.beside" oE) (h18:lO K c2 "pairs" "Links.pairs" pS) (h19:QH K c3 "Board.__init__" t6) (h20:lO K c3 "kind_at" "Board.kind_at" mZ) (h21:lO K c3 "power_called" "Board.power_called" jf) (h22:lO K c3 "army_place" "Board.army_place" ka) (h23:lO K c3 "fleet_place" "Board.fleet_place" jz) (h24:lO K c3 "has_unit" "Board.has_unit" jm) (h25:lO K c3 "put_province" "Board.put_province" je) (h26:lO K c3 "is_free_for" "Board.is_free_for" jy) (h27:lO K c3 "rename" "Board.rename" oF) (h28:lO K c3 "put_link" "Board.put_link" l_) (h29:dD K mg "short_of" wc) (h30:dD K mg "place_word" rm) (h31:dD K mg "province_words" l8) (h32:dD K mg "centre_words" ox) (h33:dD K mg "unit_words" rk) (h34:dD K mg "board_lines" gF) (h35:dD K mg "printed" tV) (h36:dD K mg "are_shores" nR) (h37:dD K mg "is_province_line" j') (h38:dD K mg "has_form" wy) (h39:dD K mg "put_power" tU) (h40:dD K mg "put_province" ot) (h41:dD K mg "put_link" wj) (h42:dD K mg "put_join" wm) (h43:dD K mg "put_sail" wg) (h44:dD K mg "put_centre" rl) (h45:dD K mg "put_start" tT) (h46:dD K mg "put_words" tS) (h47:dD K mg "put_line" wk) (h48:dD K mg "put_text" we) (h49:dD K mg "links_for" tW) (h50:dD K mg "is_stand" wo) (h51:dD K mg "distances" tX) (h52:dD K mg "shortest_way" kX) (h53:dD K mg "least_of_parts" jl) (h54:dD K mg "are_alike" tY) (h55:dD K mg "keeps_links" pO) (h56:dD K mg "is_symmetry" pP) (h57:QH K c4 "Desk.__init__" wA) (h58:QH K c5 "Call.__init__" wB) (h59:dD K mg "is_number_of" ou) (h60:dD K mg "answer_read" pQ) (h61:dD K mg "answer_print" oy) (h62:dD K mg "answer_find" l9) (h63:dD K mg "answer_place" oA) (h64:dD K mg "answer_province" lC) (h65:dD K mg "answer_power" oz) (h66:dD K mg "places_answer" mV) (h67:dD K mg "answer_near" pR) (h68:dD K mg "ends_of" zT) (h69:dD K mg "answer_far" rq) (h70:dD K mg "answer_way" rp) (h71:dD K mg "answer_symmetry" iO) (h72:dD K mg "answer_rename" mX) (h73:dD K mg "answer_starts" mW) (h74:dD K mg "answer_homes" kY) (h75:dD K mg "answer_parts" oB) (h76:dD K mg "answer_counts" jR) (h77:dD K mg "answers" zW) (g0:∃t,aM K aI "GREAT"=some (some (.str "ABCDEFGHIJKLMNOPQRSTUVWXYZ" t))) (g1:∃t,aM K aI "SMALL"=some (some (.str "abcdefghijklmnopqrstuvwxyz" t))) (g2:∃t,aM K aI "STROKE"=some (some (.str "/" t))) (g3:∃t,aM K aI "REMARK"=some (some (.str "#" t))) (g4:∃t,aM K aI "WRONG"=some (some (.str "\t" t))) (g5:∃t,aM K aI "OTHER"=some (some (.str "?" t))) (g6:∃t,aM K aI "LINE_END"=some (some (.int (10) t))) (g7:∃t,aM K aI "LEAST_PRINTED"=some (some (.int (32) t))) (g8:∃t,aM K aI "MOST_PRINTED"=some (some (.int (126) t))) (g9:∃t,aM K aI "LAND"=some (some (.int (0) t))) (g10:∃t,aM K aI "SEA"=some (some (.int (1) t))) (g11:∃t,aM K aI "COAST"=some (some (.int (2) t))) (g12:∃t,aM K aI "NOBODY"=some (some (.int (-1) t))) (g13:∃t,aM K aI "RIGHT"=some (some (.int (0) t))) (g14:∃t,aM K aI "NO_FORM"=some (some (.int (1) t))) (g15:∃t,aM K aI "TAKEN"=some (some (.int (2) t))) (g16:∃t,aM K aI "UNKNOWN"=some (some (.int (3) t))) (g17:∃t,aM K aI "UNFIT"=some (some (.int (4) t))) (g18:∃t,aM K aI "TWICE"=some (some (.int (5) t))) (g19:∃t,aM K aI "FULL"=some (some (.int (6) t))) (g20:∃t,aM K aI "MOST_POWERS"=some (some (.int (7) t))) (g21:∃t,aM K aI "MOST_PROVINCES"=some (some (.int (40) t))) (g22:∃t,aM K aI "MOST_LINKS"=some (some (.int (300) t))) (g23:∃t,aM K aI "MOST_UNITS"=some (some (.int (24) t))) (g24:∃t,aM K aI "ARMIES"=some (some (.int (0) t))) (g25:∃t,aM K aI "FLEETS"=some (some (.int (1) t))) (g26:∃t,aM K aI "ANY_LINK"=some (some (.int (2) t))) (g27:∃t,aM K aI "OUT_OF_RANGE"=some (some (.int (-1) t))) (g28:∃t,aM K aI "NO_NAME"=some (some (.int (-2) t))) (g29:∃t,aM K aI "NO_PLACE"=some (some (.int (-3) t))) (g30:∃t,aM K aI "TAKEN_NAME"=some (some (.int (-4) t))) (g31:∃t,aM K aI "NO_WAY"=some (some (.int (-5) t))) (g32:∃t,aM K aI "MOST_IN_LIST"=some (some (.int (40) t))) {b0:af} (k0:aM K aI "KINDS"=some (some (.ref b0))) (t0:oX K b0 [.str "land",.str "sea",.str "coast"]) {b1:af} (k1:aM K aI "FORMS"=some (some (.ref b1))) (t1:Wj K b1 [[.int 0,.int 1],[.int 0,.int 0],[.int 0,.int 1],[.int 0,.int 1],[.int 1,.int 0],[.int 1,.int 0],[.int 3,.int 0],[.int 5,.int 0],[.int 5,.int 0],[.int 0,.int 1],[.int 1,.int 2],[.int 0,.int 0],[.int 1,.int 0],[.int 0,.int 0],[.int 0,.int 0]]) {b2:af} (k2:aM K aI "KEPT"=some (some (.ref b2))) (t2:yu K b2 [(32,.str " "),(35,.str "#"),(47,.str "/")]) {b3:af} (k3:aM K aI "ANSWERS"=some (some (.ref b3))) {r0 r1 r2 r3 r4 r5 r6 r7 r8 r9 r10 r11 r12 r13 r14:af} (t3:yu K b3 [(0,.ref r0),(1,.ref r1),(2,.ref r2),(3,.ref r3),(4,.ref r4),(5,.ref r5),(6,.ref r6),(7,.ref r7),(8,.ref r8),(9,.ref r9),(10,.ref r10),(11,.ref r11),(12,.ref r12),(13,.ref r13),(14,.ref r14)]) (q0:aM K aI "answer_read"=some (some (.ref r0))) (q1:aM K aI "answer_print"=some (some (.ref r1))) (q2:aM K aI "answer_find"=some (some (.ref r2))) (q3:aM K aI "answer_place"=some (some (.ref r3))) (q4:aM K aI "answer_province"=some (some (.ref r4))) (q5:aM K aI "answer_power"=some (some (.ref r5))) (q6:aM K aI "answer_near"=some (some (.ref r6))) (q7:aM K aI "answer_far"=some (some (.ref r7))) (q8:aM K aI "answer_way"=some (some (.ref r8))) (q9:aM K aI "answer_symmetry"=some (some (.ref r9))) (q10:aM K aI "answer_rename"=some (some (.ref r10))) (q11:aM K aI "answer_starts"=some (some (.ref r11))) (q12:aM K aI "answer_homes"=some (some (.ref r12))) (q13:aM K aI "answer_parts"=some (some (.ref r13))) (q14:aM K aI "answer_counts"=some (some (.ref r14))) (z0:aM K aI "len"=some none) (z1:aM K aI "ord"=some none) (z2:aM K aI "range"=some none) (z3:aM K aI "enumerate"=some none) (z4:aM K aI "all"=some none) (z5:aM K aI "any"=some none) (z6:aM K aI "set"=some none) (z7:aM K aI "sorted"=some none) (z8:aM K aI "max"=some none) (z9:aM K aI "min"=some none) (z10:aM K aI "list"=some none) (z11:aM K aI "zip"=some none):Fin K mg P w fa:=by
 obtain⟨f0,d0,h0,m0⟩:=h0
 obtain⟨f1,d1,h1,m1⟩:=h1
 obtain⟨f2,d2,h2,m2⟩:=h2
 obtain⟨f3,d3,h3,m3⟩:=h3
 obtain⟨f4,d4,h4,m4⟩:=h4
 obtain⟨f5,d5,h5,m5⟩:=h5
 obtain⟨f6,d6,h6,m6⟩:=h6
 obtain⟨f7,d7,h7,m7⟩:=h7
 obtain⟨f8,d8,h8,m8⟩:=h8
 obtain⟨f9,d9,h9,m9⟩:=h9
 obtain⟨f10,d10,h10,m10⟩:=h10
 obtain⟨f11,d11,h11,m11⟩:=h11
 obtain⟨f12,Tc,h12,m12⟩:=h12
 obtain⟨f13,d13,h13,m13⟩:=h13
 obtain⟨f14,d14,h14,m14⟩:=h14
 obtain⟨f15,d15,h15,m15⟩:=h15
 obtain⟨f16,d16,h16,m16⟩:=h16
 obtain⟨f17,d17,h17,m17⟩:=h17
 obtain⟨f18,d18,h18,m18⟩:=h18
 obtain⟨f19,d19,h19,m19⟩:=h19
 obtain⟨f20,d20,h20,m20⟩:=h20
 obtain⟨f21,d21,h21,m21⟩:=h21
 obtain⟨f22,d22,h22,m22⟩:=h22
 obtain⟨f23,d23,h23,m23⟩:=h23
 obtain⟨f24,d24,h24,m24⟩:=h24
 obtain⟨f25,d25,h25,m25⟩:=h25
 obtain⟨f26,d26,h26,m26⟩:=h26
 obtain⟨f27,d27,h27,m27⟩:=h27
 obtain⟨f28,d28,h28,m28⟩:=h28
 obtain⟨f29,d29,h29,m29⟩:=h29
 obtain⟨f30,d30,h30,m30⟩:=h30
 obtain⟨f31,d31,h31,m31⟩:=h31
 obtain⟨f32,d32,h32,m32⟩:=h32
 obtain⟨f33,d33,h33,m33⟩:=h33
 obtain⟨f34,d34,h34,m34⟩:=h34
 obtain⟨f35,d35,h35,m35⟩:=h35
 obtain⟨f36,d36,h36,m36⟩:=h36
 obtain⟨f37,d37,h37,m37⟩:=h37
 obtain⟨f38,d38,h38,m38⟩:=h38
 obtain⟨f39,d39,h39,m39⟩:=h39
 obtain⟨f40,d40,h40,m40⟩:=h40
 obtain⟨f41,d41,h41,m41⟩:=h41
 obtain⟨f42,d42,h42,m42⟩:=h42
 obtain⟨f43,d43,h43,m43⟩:=h43
 obtain⟨f44,d44,h44,m44⟩:=h44
 obtain⟨f45,d45,h45,m45⟩:=h45
 obtain⟨f46,d46,h46,m46⟩:=h46
 obtain⟨f47,d47,h47,m47⟩:=h47
 obtain⟨f48,d48,h48,m48⟩:=h48
 obtain⟨f49,d49,h49,m49⟩:=h49
 obtain⟨f50,d50,h50,m50⟩:=h50
 obtain⟨f51,d51,h51,m51⟩:=h51
 obtain⟨f52,d52,h52,m52⟩:=h52
 obtain⟨f53,d53,h53,m53⟩:=h53
 obtain⟨f54,d54,h54,m54⟩:=h54
 obtain⟨f55,d55,h55,m55⟩:=h55
 obtain⟨f56,d56,h56,m56⟩:=h56
 obtain⟨f57,d57,h57,m57⟩:=h57
 obtain⟨f58,d58,h58,m58⟩:=h58
 obtain⟨f59,d59,h59,m59⟩:=h59
 obtain⟨f60,d60,h60,m60⟩:=h60
 cases ke m60 (aU X G q0)
 obtain⟨f61,d61,h61,m61⟩:=h61
 cases ke m61 (aU X G q1)
 obtain⟨f62,d62,h62,m62⟩:=h62
 cases ke m62 (aU X G q2)
 obtain⟨f63,d63,h63,m63⟩:=h63
 cases ke m63 (aU X G q3)
 obtain⟨f64,d64,h64,m64⟩:=h64
 cases ke m64 (aU X G q4)
 obtain⟨f65,d65,h65,m65⟩:=h65
 cases ke m65 (aU X G q5)
 obtain⟨f66,d66,h66,m66⟩:=h66
 obtain⟨f67,d67,h67,m67⟩:=h67
 cases ke m67 (aU X G q6)
 obtain⟨f68,d68,h68,m68⟩:=h68
 obtain⟨f69,d69,h69,m69⟩:=h69
 cases ke m69 (aU X G q7)
 obtain⟨f70,d70,h70,m70⟩:=h70
 cases ke m70 (aU X G q8)
 obtain⟨f71,d71,h71,m71⟩:=h71
 cases ke m71 (aU X G q9)
 obtain⟨f72,d72,h72,m72⟩:=h72
 cases ke m72 (aU X G q10)
 obtain⟨f73,d73,h73,m73⟩:=h73
 cases ke m73 (aU X G q11)
 obtain⟨f74,d74,h74,m74⟩:=h74
 cases ke m74 (aU X G q12)
 obtain⟨f75,d75,h75,m75⟩:=h75
 cases ke m75 (aU X G q13)
 obtain⟨f76,d76,h76,m76⟩:=h76
 cases ke m76 (aU X G q14)
 obtain⟨f77,d77,h77,m77⟩:=h77
 exact fin (A:=⟨f0,d0,f1,d1,f2,d2,f3,d3,f4,d4,f5,d5,f6,d6,f7,d7,f8,d8,f9,d9,f10,d10,f11,d11,f12,Tc,f13,d13,f14,d14,f15,d15,f16,d16,f17,d17,f18,d18,f19,d19,f20,d20,f21,d21,f22,d22,f23,d23,f24,d24,f25,d25,f26,d26,f27,d27,f28,d28,f29,d29,f30,d30,f31,d31,f32,d32,f33,d33,f34,d34,f35,d35,f36,d36,f37,d37,f38,d38,f39,d39,f40,d40,f41,d41,f42,d42,f43,d43,f44,d44,f45,d45,f46,d46,f47,d47,f48,d48,f49,d49,f50,d50,f51,d51,f52,d52,f53,d53,f54,d54,f55,d55,f56,d56,f57,d57,f58,d58,f59,d59,r0,d60,r1,d61,r2,d62,r3,d63,r4,d64,r5,d65,f66,d66,r6,d67,f68,d68,r7,d69,r8,d70,r9,d71,r10,d72,r11,d73,r12,d74,r13,d75,r14,d76,f77,d77,c0,c1,c2,c3,c4,c5,b0,b1,b2,b3⟩) ⟨h0,IH h0 fun _ _ _ _ _ _ _=>rfl,m0,h1,IH h1 fun _ _ _ _ _ _ _=>rfl,m1,h2,IH h2 fun _ _ _ _ _ _ _=>rfl,m2,h3,IH h3 fun _ _ _ _ _ _ _=>rfl,m3,h4,IH h4 fun _ _ _ _ _ _ _=>rfl,m4,h5,YK h5 fun _ _ _ _ _ _ _ _ _=>rfl,m5,h6,YK h6 fun _ _ _ _ _ _ _ _ _=>rfl,m6,h7,IH h7 fun _ _ _ _ _ _ _=>rfl,m7,h8,IH h8 fun _ _ _ _ _ _ _=>rfl,m8,h9,IH h9 fun _ _ _ _ _ _ _=>rfl,m9,h10,IH h10 fun _ _ _ _ _ _ _=>rfl,m10,h11,bd5 h11 fun _ _ _ _ _ _ _ _ _ _ _=>rfl,h12,bd4 h12 fun _ _ _ _ _ _ _ _ _ _=>rfl,h13,IH h13 fun _ _ _ _ _ _ _=>rfl,h14,YK h14 fun _ _ _ _ _ _ _ _ _=>rfl,m14,h15,YK h15 fun _ _ _ _ _ _ _ _ _=>rfl,m15,h16,YK h16 fun _ _ _ _ _ _ _ _ _=>rfl,m16,h17,rX h17 fun _ _ _ _ _ _ _ _=>rfl,m17,h18,IH h18 fun _ _ _ _ _ _ _=>rfl,m18,h19,IH h19 fun _ _ _ _ _ _ _=>rfl,h20,rX h20 fun _ _ _ _ _ _ _ _=>rfl,m20,h21,rX h21 fun _ _ _ _ _ _ _ _=>rfl,m21,h22,rX h22 fun _ _ _ _ _ _ _ _=>rfl,m22,h23,rX h23 fun _ _ _ _ _ _ _ _=>rfl,m23,h24,rX h24 fun _ _ _ _ _ _ _ _=>rfl,m24,h25,rX h25 fun _ _ _ _ _ _ _ _=>rfl,m25,h26,YK h26 fun _ _ _ _ _ _ _ _ _=>rfl,m26,h27,bd4 h27 fun _ _ _ _ _ _ _ _ _ _=>rfl,m27,h28,bd4 h28 fun _ _ _ _ _ _ _ _ _ _=>rfl,m28,h29,rX h29 fun _ _ _ _ _ _ _ _=>rfl,m29,h30,rX h30 fun _ _ _ _ _ _ _ _=>rfl,m30,h31,IH h31 fun _ _ _ _ _ _ _=>rfl,m31,h32,rX h32 fun _ _ _ _ _ _ _ _=>rfl,m32,h33,rX h33 fun _ _ _ _ _ _ _ _=>rfl,m33,h34,IH h34 fun _ _ _ _ _ _ _=>rfl,m34,h35,IH h35 fun _ _ _ _ _ _ _=>rfl,m35,h36,IH h36 fun _ _ _ _ _ _ _=>rfl,m36,h37,IH h37 fun _ _ _ _ _ _ _=>rfl,m37,h38,IH h38 fun _ _ _ _ _ _ _=>rfl,m38,h39,rX h39 fun _ _ _ _ _ _ _ _=>rfl,m39,h40,rX h40 fun _ _ _ _ _ _ _ _=>rfl,m40,h41,bd5 h41 fun _ _ _ _ _ _ _ _ _ _ _=>rfl,m41,h42,rX h42 fun _ _ _ _ _ _ _ _=>rfl,m42,h43,rX h43 fun _ _ _ _ _ _ _ _=>rfl,m43,h44,rX h44 fun _ _ _ _ _ _ _ _=>rfl,m44,h45,rX h45 fun _ _ _ _ _ _ _ _=>rfl,m45,h46,rX h46 fun _ _ _ _ _ _ _ _=>rfl,m46,h47,rX h47 fun _ _ _ _ _ _ _ _=>rfl,m47,h48,rX h48 fun _ _ _ _ _ _ _ _=>rfl,m48,h49,rX h49 fun _ _ _ _ _ _ _ _=>rfl,m49,h50,bd4 h50 fun _ _ _ _ _ _ _ _ _ _=>rfl,m50,h51,rX h51 fun _ _ _ _ _ _ _ _=>rfl,m51,h52,YK h52 fun _ _ _ _ _ _ _ _ _=>rfl,m52,h53,IH h53 fun _ _ _ _ _ _ _=>rfl,m53,h54,rX h54 fun _ _ _ _ _ _ _ _=>rfl,m54,h55,rX h55 fun _ _ _ _ _ _ _ _=>rfl,m55,h56,rX h56 fun _ _ _ _ _ _ _ _=>rfl,m56,h57,IH h57 fun _ _ _ _ _ _ _=>rfl,h58,YK h58 fun _ _ _ _ _ _ _ _ _=>rfl,h59,rX h59 fun _ _ _ _ _ _ _ _=>rfl,m59,h60,rX h60 fun _ _ _ _ _ _ _ _=>rfl,m60,h61,rX h61 fun _ _ _ _ _ _ _ _=>rfl,m61,h62,rX h62 fun _ _ _ _ _ _ _ _=>rfl,m62,h63,rX h63 fun _ _ _ _ _ _ _ _=>rfl,m63,h64,rX h64 fun _ _ _ _ _ _ _ _=>rfl,m64,h65,rX h65 fun _ _ _ _ _ _ _ _=>rfl,m65,h66,rX h66 fun _ _ _ _ _ _ _ _=>rfl,m66,h67,rX h67 fun _ _ _ _ _ _ _ _=>rfl,m67,h68,rX h68 fun _ _ _ _ _ _ _ _=>rfl,m68,h69,rX h69 fun _ _ _ _ _ _ _ _=>rfl,m69,h70,rX h70 fun _ _ _ _ _ _ _ _=>rfl,m70,h71,rX h71 fun _ _ _ _ _ _ _ _=>rfl,m71,h72,rX h72 fun _ _ _ _ _ _ _ _=>rfl,m72,h73,rX h73 fun _ _ _ _ _ _ _ _=>rfl,m73,h74,rX h74 fun _ _ _ _ _ _ _ _=>rfl,m74,h75,rX h75 fun _ _ _ _ _ _ _ _=>rfl,m75,h76,rX h76 fun _ _ _ _ _ _ _ _=>rfl,m76,h77,IH h77 fun _ _ _ _ _ _ _=>rfl,m77,l0,aU X G a0,m11,n0,n1,n2,n3,n4,n5,l1,aU X G a1,m12,n6,n7,n8,l2,aU X G a2,m13,n9,n10,l3,aU X G a3,m19,n11,n12,n13,n14,n15,n16,n17,l4,aU X G a4,m57,n18,l5,aU X G a5,m58,n19,n20,n21,n22,g0.imp fun _ z=>aU X G z,g1.imp fun _ z=>aU X G z,g2.imp fun _ z=>aU X G z,g3.imp fun _ z=>aU X G z,g4.imp fun _ z=>aU X G z,g5.imp fun _ z=>aU X G z,g6.imp fun _ z=>aU X G z,g7.imp fun _ z=>aU X G z,g8.imp fun _ z=>aU X G z,g9.imp fun _ z=>aU X G z,g10.imp fun _ z=>aU X G z,g11.imp fun _ z=>aU X G z,g12.imp fun _ z=>aU X G z,g13.imp fun _ z=>aU X G z,g14.imp fun _ z=>aU X G z,g15.imp fun _ z=>aU X G z,g16.imp fun _ z=>aU X G z,g17.imp fun _ z=>aU X G z,g18.imp fun _ z=>aU X G z,g19.imp fun _ z=>aU X G z,g20.imp fun _ z=>aU X G z,g21.imp fun _ z=>aU X G z,g22.imp fun _ z=>aU X G z,g23.imp fun _ z=>aU X G z,g24.imp fun _ z=>aU X G z,g25.imp fun _ z=>aU X G z,g26.imp fun _ z=>aU X G z,g27.imp fun _ z=>aU X G z,g28.imp fun _ z=>aU X G z,g29.imp fun _ z=>aU X G z,g30.imp fun _ z=>aU X G z,g31.imp fun _ z=>aU X G z,g32.imp fun _ z=>aU X G z,aU X G k0,t0,aU X G k1,t1,aU X G k2,t2,aU X G k3,t3,dI X G z0,dI X G z1,dI X G z2,dI X G z3,dI X G z4,dI X G z5,dI X G z6,dI X G z7,dI X G z8,dI X G z9,dI X G z10,dI X G z11⟩ e
end
end Pb
open PySem PySem.W PyProof.Rows
local macro_rules | `(tactic| walk_at "kd")=>`(tactic| (refine' Pb.Z1 (by assumption) (by assumption) ?a ?l ?c ?k;(case a=>k_is);(case l=>k_is);(case c=>k_is);(case k=>k_is)))
local macro_rules | `(tactic| walk_at "km")=>`(tactic| (refine' Pb.XM ?a ?i ?l ?c ?k;(case a=>k_is);(case i=>k_is);(case l=>k_is);(case c=>k_is);(case k=>k_is)))
local macro_rules | `(tactic| walk_at "kn")=>`(tactic| (refine' Pb.aa9 ?m ?kc ?a ?i ?l ?c ?k;(case m=>k_is);(case kc=>k_is);(case a=>k_is);(case i=>k_is);(case l=>k_is);(case c=>k_is);(case k=>k_is)))
local macro_rules | `(tactic| walk_at "kt")=>`(tactic| (refine' Pb.K4 ?l ?s ?v;(case l=>k_is);(case s=>exact zj rfl);(case v=>exact (.cons ⟨_,rfl⟩ (.cons ⟨_,rfl⟩ .nil)))))
local macro_rules | `(tactic| walk_at "kc")=>`(tactic| (refine' Pb.abh ?e;(case e=>k_is)))
namespace PySem.W.Fast
def tw17247440589810129856:=0
def tw10310438501122352747:=0
def tw15218044273439005818:=0
def tw5195172394139050356:=0
def tw2360520773806933949:=0
def tw4328108890569744146:=0
def tw16815677730135893753:=0
def tw7157663307466970220:=0
def tw15539378334268406614:=0
def tw5765599405758122654:=0
def tw10852840024139166454:=0
def tw8005130125143168498:=0
def tw11215301941086966233:=0
def tw1273210978707627312:=0
def tw6218779854806034161:=0
def tw1098468689808558530:=0
def tw13035691132555819983:=0
def tw9397062423658842803:=0
def tw11021069299342113980:=0
def tw16548750536440288677:=0
def tw11038733935302160383:=0
def tw12146908719006411646:=0
def tw1621284698354877893:=0
def tw131049558332480179:=0
def tw2243822349015825453:=0
def tw12559100784566505092:=0
def tw6610274078557426931:=0
def tw16404260316898533502:=0
def tw8986922073782172674:=0
def tw4943874773508616901:=0
def tw3414146820636345589:=0
def tw1806196143482748122:=0
def tw636677562296419309:=0
def tw4474165845198219039:=0
def tw10245995551375949931:=0
def tw6888423454363672769:=0
def tw2404268940494708629:=0
def tw11101165861600001064:=0
def tw10373985980757661913:=0
def tw13346792488159589961:=0
def tw3528608718046623684:=0
def tw2448818179792026983:=0
def tw7027570939675447677:=0
def tw9981850411040199979:=0
def tw6994252287703489643:=0
def tw17812228472055385004:=0
def tw9787704262351835989:=0
def tw645246544690952818:=0
def tw7985776990615032766:=0
def tw17930744439274360223:=0
def tw4132333589749820030:=0
def tw11756140690646625281:=0
def tw3666183911950467382:=0
def tw4554771840520290601:=0
def tw10375667110835031047:=0
def tw14499409416517934005:=0
def tw253911898676920263:=0
def tw13698882201615862681:=0
def tw3804828330418626499:=0
def tw11530648350527260100:=0
def tw14642294740363774872:=0
def tw4428840633649252585:=0
def tw7755251644326031171:=0
def tw17768546893729034734:=0
def tw15650188432567138094:=0
def tw10193310434558674954:=0
def tw682342609690157015:=0
def tw1520759077800808741:=0
def tw12553359454226118027:=0
def tw6500935888370047923:=0
def tw591853486687626671:=0
def tw16756145039005972922:=0
def tw13692349029643019653:=0
def tw17384098032692657296:=0
def tw2316527370865097567:=0
def tw6106152332177287564:=0
def tw15532721979221044436:=0
def tw3484830440427706898:=0
def tw2390276010307361687:=0
def tw249830692588332317:=0
def tw16043184740868490440:=0
def tw8035050285891595064:=0
def tw3510178134990120234:=0
def tw4535065866132271655:=0
def tw6498568173745484525:=0
def tw11082223273384645885:=0
def tw13852182969735055445:=0
def tw12095358496188492008:=0
def tw13040968963194779816:=0
def tw3502503392680306338:=0
def tw7766557682115621923:=0
def tw6642315316682153503:=0
def tw4238659872867177268:=0
def tw8611017123121142985:=0
def tw2975049128442414248:=0
def tw11106258564484865280:=0
def tw3038617582532904119:=0
def tw8064932222618551042:=0
def tw9404125635764549845:=0
def tw14549733302295532679:=0
def tw348691145338717676:=0
def tw8592247873298377449:=0
def tw8909390689715627871:=0
def tw7175320733977758877:=0
def tw15328205700579952851:=0
def tw3350729379475655728:=0
def tw104522292352196525:=0
def tw2096945492609733107:=0
def tw4142270830404479512:=0
def tw10258967378935569180:=0
def tw10180804286992078890:=0
def tw2303153443805763854:=0
def tw16685270468389499187:=0
def tw16645175785967260372:=0
def tw10555299195310088426:=0
def tw2278527189266049011:=0
def tw12435619405270551190:=0
def tw9481304588842169408:=0
def tw13282092026986767770:=0
def tw9992874904189378606:=0
def tw17277638822285031839:=0
def tw16757456907360022718:=0
def tw7544392533512366541:=0
def tw11153835282749318382:=0
def tw10738812665658637487:=0
def tw8952883202144130296:=0
def tw12112724453424188154:=0
def tw7860191444154625395:=0
def tw15679020191433957989:=0
def tw1716145600974906389:=0
def tw10205946366905600541:=0
def tw10609923893808817180:=0
def tw9546732967732623558:=0
def tw2382238836898126772:=0
def tw10760840187809147484:=0
def tw2536751332683572054:=0
def tw2440422017089653780:=0
def tw6459762243326450728:=0
def tw15526839456158258666:=0
def tw16545265683128864217:=0
def tw11436557817424227539:=0
def tw9739591955926203575:=0
def tw13789111790447971698:=0
def tw3091062736345942864:=0
def tw4493486864953359859:=0
def tw9193155264748146795:=0
def tw3154931936129482096:=0
def tw5127862084008981175:=0
def tw7015554312395333499:=0
def tw15875672428765913230:=0
def tw17555644515667366381:=0
def tw8277461537117737353:=0
def tw10445043943364535978:=0
def tw4359634610003695393:=0
def tw16944235733477160255:=0
def tw10834789143393118124:=0
def tw1950247055032704606:=0
def tw15402429874811843503:=0
def tw2385128214838427375:=0
def tw12895486256640043976:=0
def tw10053175858728111887:=0
def tw15545543358510866199:=0
def tw13275670448961021753:=0
def tw15191312318873544843:=0
def tw966196859144751047:=0
def tw7125287289034565065:=0
def tw9992274783434474983:=0
def tw592350899809287634:=0
def tw17348220258094516787:=0
def tw15157843928749915711:=0
def tw9637451213475423807:=0
def tw10415634649143709708:=0
def tw12844705697977900482:=0
def tw8848558011598149099:=0
def tw4302727214193322199:=0
def tw11124312211266014529:=0
def tw3475120138051723761:=0
def tw6587496050975580083:=0
end PySem.W.Fast
set_option maxRecDepth 100000 in
set_option maxHeartbeats 0 in
theorem PySem.Challenge.cw_provinceboard_s01_answers_holds : PySem.Challenge.rw_provinceboard_s01_answers.Holds := by
 w_on;k_headS;(case hw=>exact⟨[.list [.int 1]],by decide +kernel,by decide +kernel⟩)
 k_fillS
 refine L2.OX (r:=ph) (k:=10) (CX:=L2.hX) (ps:=["calls"]) (sp:=Pb.CG) (by decide +kernel) rfl rfl ⟨rfl,by decide,by decide⟩ (fun w h Y=>PySem.W.kIn_of Y) ?F ?S (fun _ _ _ _ z=>z)
 case F=>
  intro w mg fa h Y KX G hmg
  refine' Pb.aaH KX G hmg ?ya0 ?yl0 ?yn0 ?yn1 ?yn2 ?yn3 ?yn4 ?yn5 ?ya1 ?yl1 ?yn6 ?yn7 ?yn8 ?ya2 ?yl2 ?yn9 ?yn10 ?ya3 ?yl3 ?yn11 ?yn12 ?yn13 ?yn14 ?yn15 ?yn16 ?yn17 ?ya4 ?yl4 ?yn18 ?ya5 ?yl5 ?yn19 ?yn20 ?yn21 ?yn22 ?yh0 ?yh1 ?yh2 ?yh3 ?yh4 ?yh5 ?yh6 ?yh7 ?yh8 ?yh9 ?yh10 ?yh11 ?yh12 ?yh13 ?yh14 ?yh15 ?yh16 ?yh17 ?yh18 ?yh19 ?yh20 ?yh21 ?yh22 ?yh23 ?yh24 ?yh25 ?yh26 ?yh27 ?yh28 ?yh29 ?yh30 ?yh31 ?yh32 ?yh33 ?yh34 ?yh35 ?yh36 ?yh37 ?yh38 ?yh39 ?yh40 ?yh41 ?yh42 ?yh43 ?yh44 ?yh45 ?yh46 ?yh47 ?yh48 ?yh49 ?yh50 ?yh51 ?yh52 ?yh53 ?yh54 ?yh55 ?yh56 ?yh57 ?yh58 ?yh59 ?yh60 ?yh61 ?yh62 ?yh63 ?yh64 ?yh65 ?yh66 ?yh67 ?yh68 ?yh69 ?yh70 ?yh71 ?yh72 ?yh73 ?yh74 ?yh75 ?yh76 ?yh77 ?yg0 ?yg1 ?yg2 ?yg3 ?yg4 ?yg5 ?yg6 ?yg7 ?yg8 ?yg9 ?yg10 ?yg11 ?yg12 ?yg13 ?yg14 ?yg15 ?yg16 ?yg17 ?yg18 ?yg19 ?yg20 ?yg21 ?yg22 ?yg23 ?yg24 ?yg25 ?yg26 ?yg27 ?yg28 ?yg29 ?yg30 ?yg31 ?yg32 ?yk0 ?yt0 ?yk1 ?yt1 ?yk2 ?yt2 ?yk3 ?yt3 ?yq0 ?yq1 ?yq2 ?yq3 ?yq4 ?yq5 ?yq6 ?yq7 ?yq8 ?yq9 ?yq10 ?yq11 ?yq12 ?yq13 ?yq14 ?yz0 ?yz1 ?yz2 ?yz3 ?yz4 ?yz5 ?yz6 ?yz7 ?yz8 ?yz9 ?yz10 ?yz11
  (case ya0=>k_is)
  (case yl0=>exact⟨by k_is,by k_is,by k_is,by k_is⟩)
  (case yn0 | yn1 | yn2 | yn3 | yn4 | yn5=>show dm _ _ _=_;k_is)
  (case ya1=>k_is)
  (case yl1=>exact⟨by k_is,by k_is,by k_is,by k_is⟩)
  (case yn6 | yn7 | yn8=>show dm _ _ _=_;k_is)
  (case ya2=>k_is)
  (case yl2=>exact⟨by k_is,by k_is,by k_is,by k_is⟩)
  (case yn9 | yn10=>show dm _ _ _=_;k_is)
  (case ya3=>k_is)
  (case yl3=>exact⟨by k_is,by k_is,by k_is,by k_is⟩)
  (case yn11 | yn12 | yn13 | yn14 | yn15 | yn16 | yn17=>show dm _ _ _=_;k_is)
  (case ya4=>k_is)
  (case yl4=>exact⟨by k_is,by k_is,by k_is,by k_is⟩)
  (case yn18=>show dm _ _ _=_;k_is)
  (case ya5=>k_is)
  (case yl5=>exact⟨by k_is,by k_is,by k_is,by k_is⟩)
  (case yn19 | yn20 | yn21 | yn22=>show dm _ _ _=_;k_is)
  (case yh0 | yh1 | yh2 | yh3 | yh4 | yh5 | yh6 | yh7 | yh8 | yh9 | yh10=>walk_at "kd")
  (case yh11 | yh12 | yh13=>walk_at "kn")
  (case yh14 | yh15 | yh16 | yh17 | yh18=>walk_at "km")
  (case yh19=>walk_at "kn")
  (case yh20 | yh21 | yh22 | yh23 | yh24 | yh25 | yh26 | yh27 | yh28=>walk_at "km")
  (case yh29 | yh30 | yh31 | yh32 | yh33 | yh34 | yh35 | yh36 | yh37 | yh38 | yh39 | yh40 | yh41 | yh42 | yh43 | yh44 | yh45 | yh46 | yh47 | yh48 | yh49 | yh50 | yh51 | yh52 | yh53 | yh54 | yh55 | yh56=>walk_at "kd")
  (case yh57 | yh58=>walk_at "kn")
  (case yh59 | yh60 | yh61 | yh62 | yh63 | yh64 | yh65 | yh66 | yh67 | yh68 | yh69 | yh70 | yh71 | yh72 | yh73 | yh74 | yh75 | yh76 | yh77=>walk_at "kd")
  (case yg0 | yg1 | yg2 | yg3 | yg4 | yg5 | yg6 | yg7 | yg8 | yg9 | yg10 | yg11 | yg12 | yg13 | yg14 | yg15 | yg16 | yg17 | yg18 | yg19 | yg20 | yg21 | yg22 | yg23 | yg24 | yg25 | yg26 | yg27 | yg28 | yg29 | yg30 | yg31 | yg32=>walk_at "kc")
  (case yk0=>k_is)
  (case yt0=>refine' Pb.K4 ?zl1 ?zs1 ?zv1;(case zl1=>k_is);(case zs1=>exact zj rfl);(case zv1=>exact (.cons ⟨_,rfl⟩ (.cons ⟨_,rfl⟩ (.cons ⟨_,rfl⟩ .nil)))))
  (case yk1=>k_is)
  (case yt1=>refine' Pb.Vp ?yt ?yp0 ?yp1 ?yp2 ?yp3 ?yp4 ?yp5 ?yp6 ?yp7 ?yp8 ?yp9 ?yp10 ?yp11 ?yp12 ?yp13 ?yp14;(case yt=>refine' Pb.K4 ?zl2 ?zs2 ?zv2;(case zl2=>k_is);(case zs2=>exact zj rfl);(case zv2=>exact (.cons rfl (.cons rfl (.cons rfl (.cons rfl (.cons rfl (.cons rfl (.cons rfl (.cons rfl (.cons rfl (.cons rfl (.cons rfl (.cons rfl (.cons rfl (.cons rfl (.cons rfl .nil)))))))))))))))));(case yp0 | yp1 | yp2 | yp3 | yp4 | yp5 | yp6 | yp7 | yp8 | yp9 | yp10 | yp11 | yp12 | yp13 | yp14=>walk_at "kt"))
  (case yk2=>k_is)
  (case yt2=>refine' Pb.NN ?zl3 ?zn3 ?zd3 ?ze3 ?zr3;(case zl3=>k_is);(case zn3=>first | exact rfl | decide);(case ze3=>first | exact rfl | decide);(case zr3=>exact (.cons ⟨rfl,_,rfl⟩ (.cons ⟨rfl,_,rfl⟩ (.cons ⟨rfl,_,rfl⟩ .nil))));(case zd3=>decide))
  (case yk3=>k_is)
  (case yt3=>refine' Pb.NN ?zl4 ?zn4 ?zd4 ?ze4 ?zr4;(case zl4=>k_is);(case zn4=>first | exact rfl | decide);(case ze4=>first | exact rfl | decide);(case zr4=>exact (.cons ⟨rfl,rfl⟩ (.cons ⟨rfl,rfl⟩ (.cons ⟨rfl,rfl⟩ (.cons ⟨rfl,rfl⟩ (.cons ⟨rfl,rfl⟩ (.cons ⟨rfl,rfl⟩ (.cons ⟨rfl,rfl⟩ (.cons ⟨rfl,rfl⟩ (.cons ⟨rfl,rfl⟩ (.cons ⟨rfl,rfl⟩ (.cons ⟨rfl,rfl⟩ (.cons ⟨rfl,rfl⟩ (.cons ⟨rfl,rfl⟩ (.cons ⟨rfl,rfl⟩ (.cons ⟨rfl,rfl⟩ .nil))))))))))))))));(case zd4=>decide))
  (case yq0 | yq1 | yq2 | yq3 | yq4 | yq5 | yq6 | yq7 | yq8 | yq9 | yq10 | yq11 | yq12 | yq13 | yq14 | yz0 | yz1 | yz2 | yz3 | yz4 | yz5 | yz6 | yz7 | yz8 | yz9 | yz10 | yz11=>k_is)
 case S=>
  intro K H xs a hO hwi hask hx
  cases hx with
  | cons h1 h2=>
   cases h2
   cases h1 with
   | lst hs ha=>
    have e:=L2.RD a.1 _ ha
    subst e
    have q:((Codec.inLen 0 17000 a.1&&a.1.all (Codec.inInt (Int.negSucc 999999999999999999) (Int.ofNat 1000000000000000000)))&&true)=true:=hwi
    rw[bL,bL] at q
    obtain⟨cs,as⟩:=Pb.Wa (l:=a.1) hask
    exact⟨_,a.1,cs,rfl,hs,as,(Codec.inNat_iff.mp q.1.1).2,fun H' p _ hp _=>.lst (L2.cP.of hp) (L2.RT _)⟩
