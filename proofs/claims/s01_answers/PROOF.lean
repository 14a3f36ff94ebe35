import PyProof.Rows.All
import Wide.All
import OpenK.AllK
import Wide.FinOn
import PyProof.EqAt
import PyProof.EqKinds
import PyProof.TupleCall
import KE.BitLaws
import PyRa32
import KE.KTryMore
import PySem.Challenge.RW_textmill_s01_answers
import KE.KDictList
import KE.OsGo
import Open.SpecLaws
set_option Elab.async false
set_option linter.all false
set_option maxRecDepth 100000
set_option maxHeartbeats 0
set_option genSizeOf false
set_option compiler.extract_closed false
set_option bootstrap.genMatcherCode false
local macro_rules | `(command| #check $s:str) => do
  let f := fun n : Lean.Name => `(command| theorem $(Lean.mkIdent (.str `PySem.W.Fast ("tw" ++ toString n.hash))) : True := trivial)
  match s.getString.splitOn " " with
  | [x] => f x.toName
  | k :: l => do
    let mut c := #[]
    for x in l do
      let p := x.splitOn "-"
      let a := p.head!.toNat!
      for i in [a:p.getLast!.toNat! + 1] do c := c.push (← f (.str `HeadX (k ++ "_" ++ toString i)))
    return Lean.mkNullNode c
  | [] => Lean.Macro.throwUnsupported
#check "PySem.Challenge.rw_textmill_s01_answers"
#check "PySem.Challenge.pw_textmill_s01_answers"
#check "PySem.Challenge.nm_textmill_s01_answers"
#check "o 5 7-8 11-12 14-17 19-28 30-33 35-46 48-57 59-62 64-73 75-78 80 82-87 89-94 96-101 103-108 110-115 117-122 124-129 131-136 138-143 145-150 152-155 157-159 161-166 168-180 182-187 189-194 196-199 201-206 208 210-215 217-222 224-229 231-236 238-241 243-246 248-250 252-264 266-271 273-276 278-280 282-287 289-294 296-301 303-308 310-315 317-322 324-336 338 340-345 347-352 354-359 361-366 368-373 375-380 382-387 389-394 396-401 403-408 410-415 417-422 424-429 431 433-438 440-445 447-452 454-459 461-466 468-473 475-480 482-487 489-494 496-539 543-544 547 549-552 554-556 558-563 565-570 572-577 579-584 586-591 593-605 607 609-614 616-621 623-628 630-635 637-642 644-649 651-656 658-663 665-670 672-677 679-684 686-691 693 695-700 702-707 709-714 716-721 723-728 730-735 737-742 744-749 751-756 758-763 765-771 774 776 778-783 785-788 790-792 794-799 801-806 808-813 815-820 822-827 829-834 836-841 843-848 850-855 857-862 864-876 878 880-885 887-892 894-897 899-901 903-906 908-913 915-920 922-927 929-934 936-948 950-953 955-957 959-971 973-976 978-980 982-987 989-994 996-1001 1003-1008 1010-1015 1017-1022 1024-1029 1031-1036 1038-1043 1045-1050 1052-1057 1059-1064 1066-1071 1073-1078 1080-1089 1091-1094 1096-1098 1100-1105 1107-1112 1114-1119 1121-1126 1128-1133 1135-1140 1142-1147 1149-1154 1156-1161 1163-1168 1170-1174 1178 1180 1182-1187 1189-1193"
#check "sts 11 27 56 78 150 206 241 271 336 429 501 543 547 605 691 768 774 783 876 892 948 971 1178"
#check "tree 9 26 55 77 149 205 240 270 335 428 500 539 544 604 690 767 771 782 875 891 947 970 1089 1174 1193"
#check "heap 1 8 1194"
#check "view 1"
#check "env 3"
structure HeadI (R : Prop) : Prop where
  out : R
theorem HeadK {R T G : Prop} (h : R) (_ : let _x := h; T) (m : G) : G := m
noncomputable def HeadX : (R : Prop) ×' (HeadI R → PySem.Challenge.rw_textmill_s01_answers.Holds) := ⟨_, fun h => by
  refine' HeadK h ?hc ?m
  case m =>
    w_on; k_headS
    case hw => exact ⟨[.list [.int 0]], by decide +kernel, by decide +kernel⟩
  intro _; exact h.out⟩
theorem HeadU {H R : Prop} {x : (R : Prop) ×' (HeadI R → H)} {p : HeadI R → H} (e : x = ⟨R, p⟩) (r : R) : H := by subst e; exact p ⟨r⟩
local macro_rules | `(tactic| exists $e,*) => `(tactic| refine ⟨$e,*, ?_⟩)
local macro_rules | `(command| def $i:declId $s:optDeclSig $v:declVal) => `(command| noncomputable def $i:declId $s:optDeclSig $v:declVal)
local macro_rules | `(tactic| walk_at "au") => let i := Lean.mkIdent; `(tactic| first | exact .inl rfl | exact .inr rfl | exact .inr (.inl rfl) | exact .inr (.inr rfl) | assumption | exact $(i `L2.VM) _ (by decide) (by decide) | exact $(i `L2.acw) _ | rfl)
local macro_rules | `(tactic| walk_at "ln") => `(tactic| (intro vs _ _ _ h; cases h; exact congrArg List.length ‹vs = _›))
local macro_rules | `(command| $c:declaration) => if c.raw.getPos?.isNone then Lean.Macro.throwUnsupported else return c.raw.rewriteBottomUp (·.setInfo .none)
open And renaming left->adW
open Array renaming append_assoc->SV,getElem?_eq_none->LZ,getElem?_toList->vL,length_toList->eI
open Bool renaming and_eq_true->bX,and_false->aby,eq_iff_iff->mj,false_and->GR,false_eq_true->jT,false_ne_true->a8,not_eq_true'->sA,or_eq_true->aaL,or_false->Ju,true_and->adV
open Char renaming toNat->ahK
open Except renaming map->EZ,ok->iq
open Except.ok renaming inj->ED
open False renaming elim->b7
open ForInStep renaming yield->sN
open Int renaming eq_ofNat_of_zero_le->mV,fdiv_eq_ediv_of_nonneg->Jd,natCast_nonneg->XF,negSucc->ahF,neg_tdiv->agK,tdiv->Ja,tdiv_neg->agJ,tmod->adU,toNat->Mp,toNat_natCast->dk
open Int.ofNat renaming inj->alA
open List renaming all_cons->ma,all_eq_true->uh,any_cons->l9,any_eq_false->XE,any_eq_true->Ys,any_nil->aeA,append_assoc->bu,append_nil->fU,cons_append->jw,contains_cons->zV,count_cons->pC,drop->LV,dropWhile_cons->SN,dropWhile_cons_of_neg->bH,dropWhile_cons_of_pos->fM,dropWhile_suffix->oa,drop_drop->jv,drop_eq_getElem_cons->aI,drop_eq_nil_iff->Qp,drop_eq_nil_of_le->bF,drop_left->jt,drop_length->oy,drop_succ_cons->jo,drop_suffix->CA,drop_take->abG,drop_zero->kU,eq_nil_of_length_eq_zero->be,eraseIdx_cons_succ->mR,eraseIdx_sublist->OG,filterMap_cons->lE,filter_append->TN,filter_cons->gY,filter_cons_of_pos->LS,filter_eq_self->SS,find?_cons->gE,find?_eq_none->TR,find?_some->EY,findIdx?_append->xg,findIdx?_cons->TJ,findIdx?_eq_none_iff->rE,findIdx?_eq_some_iff_getElem->ip,findIdx?_map->Xt,flatMap_cons->Bw,flatten_cons->sF,foldl->TU,foldl_append->kC,foldl_cons->dX,forIn_nil->abH,getD_eq_getElem?_getD->cK,getElem?_append_left->lz,getElem?_append_right->kW,getElem?_cons_zero->LY,getElem?_drop->qO,getElem?_eq_getElem->cy,getElem?_eq_none->hU,getElem?_eq_some_iff->aw,getElem?_map->cJ,getElem?_of_mem->Qo,getElem?_range->SO,getElem?_set_ne->xb,getElem?_set_self->uD,getElem_drop->sC,head?->uF,head?_cons->EX,length->cS,length_append->aF,length_cons->au,length_drop->aL,length_filter_le->OF,length_map->aN,length_nil->aaK,length_range->Bu,length_replicate->hV,length_reverse->fP,length_set->vM,length_singleton->d8,length_take->aQ,lookup->mS,lookup_cons->jx,map->abB,map_append->bL,map_congr_left->lG,map_cons->a4,map_drop->sM,map_inj_right->zU,map_map->gP,map_nil->qg,map_set->Bt,map_take->eB,mem_append->dW,mem_append_left->xf,mem_append_right->eW,mem_cons->a0,mem_cons_of_mem->aK,mem_cons_self->aX,mem_filter->mf,mem_filterMap->qQ,mem_iff_getElem->Qq,mem_map->eh,mem_map_of_mem->jl,mem_of_find?_eq_some->iD,mem_of_getElem?->bc,mem_of_mem_drop->kS,mem_of_mem_take->Qn,mem_range->hG,mem_reverse->Cz,mem_singleton->jR,nil_append->aaM,nodup_append->m7,nodup_cons->fe,nodup_nil->xh,not_mem_nil->dh,of_mem_zip->E2,range->c8,range_succ->EW,replicate->aS,replicate_succ->lH,reverse_append->SK,reverse_cons->b8,size_toArray->aW,suffix_iff_eq_drop->LX,suffix_of_suffix_length_le->B7,sum_cons->gp,takeWhile_append_dropWhile->jf,take_add_one->ef,take_append_drop->eV,take_append_of_le_length->dH,take_length->cQ,take_of_length_le->bA,take_succ_cons->yk,take_succ_eq_append_getElem->Bx,take_take->GY,toArray->aey
open List.Nodup renaming sublist->Jx
open List.Sublist renaming length_le->ahB
open List.cons renaming inj->m8
open Nat renaming add_assoc->jg,add_comm->B9,add_right_cancel->ye,add_sub_cancel->rA,add_sub_cancel_left->cF,add_zero->OJ,eq_of_testBit_eq->k9,le_add_right->uz,le_of_eq->Ca,le_of_lt->iR,le_of_not_lt->EC,le_of_succ_le->sO,le_refl->aE,le_succ_of_le->B5,le_trans->cj,log2_lt->SR,lt_irrefl->fc,lt_of_le_of_lt->XA,lt_of_lt_of_le->bP,lt_of_not_le->aaI,lt_succ_of_lt->B8,lt_succ_self->g7,lt_trans->agP,min_eq_left->gH,min_eq_right->ly,mod_lt->Jb,ne_of_gt->ag6,ne_of_lt->dN,not_lt->AX,or_lt_two_pow->Yr,sub_le->ake,sub_zero->vK,succ_mul->agQ,testBit_and->gG,testBit_or->yf,testBit_xor->abF,toDigits->agL,zero_add->ql,zero_le->aC,zero_testBit->aaJ
open Nat.succ renaming inj->GX
open Ne renaming symm->aD
open Option renaming getD_none->TV,isSome_iff_exists->G1,isSome_map->rB,isSome_some->Qs,map_eq_some_iff->jH,map_some->oY
open Option.some renaming inj->bo,injEq->Jz
open PLift renaming up->FV
open Prod renaming ext->ak0,snd->Qr
open Prod.mk renaming inj->LR
open PyFlat renaming call->rq,calls->kT,played->lF,row->EV,rows->we,told->oo
open PyProof.Rows renaming AllBare->uE,IntsAre->FZ,Subscript_->ad1,args_tuple_getitem->ad2,boot_range->ad4,callWith_builtin1->ahO,callWith_type1->dO,entry_tuple_getitem->abJ,iadd_int->ahQ,isInt->Jy,isub_int->ahP,nat_or_add_and->zK,signs_ofString->ahJ,slicePart_none->akm,slot_tuple_getitem->d6,subscriptTail->SW,subscriptTail_builtinR->XB,toString_length_le->ahI,tupleItemsOf_->akZ,wpAny_notIn_heap->agO
open PyProof.Rows.IsTup renaming new->ahN
open PyRa32 renaming answers->jh,answers_asked->oh,calls->abA,shape->d7,whole->abE
open PySem renaming Addr->ao,Around->cN,BindsTo->XD,Builtin->By,DictEntry->mh,ExceptHandler->akG,Expr->dQ,FuncData->gq,Heap->dg,IsPart->A2,ItemsAre->aaE,Keyword->F1,Model->TF,NameKind->jq,Operator->aaB,Paired->A3,Program->bD,PyData->AZ,Scope->ia,Shared->az,Stmt->zI,Value->ax,Within->L0,World->cP,assignEach->yc,atKey_of_get->Xv,attributeBase->mZ,backTo->jE,backToKw->uc,behindInMarks->jD,binaryOp->iM,bindArgs->aaO,bindC->TX,bindL->TY,bootBuiltins->oM,boot_len->mY,builtinsNs->adT,cLine->kO,callWith->F2,call_list_range->ahC,call_list_seq->akJ,call_meets->pY,call_meetsIn->sE,callerA->Mo,closureFor->adZ,codeAny->uL,codeAny_builtin->LU,codeAny_mono->oP,compEnvC->di,compareOp->bZ,comprehension->CB,dictSetDefault->OH,entryOfKey->EG,evalPart_none->akY,eval_ListComp->akI,firstArgMember->akg,getItem->uJ,getMethod->wK,handleBy->aaH,holding->uC,inplaceOp->agy,intBits_le_64->ak1,keywordEach->lT,lastMarks->TZ,leaving->XC,letOwnedTupleGo->yn,mainGlobals->jn,mem_of_lookup->cC,model->bf,newFunctionEnv->AY,noteFrame->wG,notedBy->uH,plainId_quiet->SQ,pushCells->sP,pushCells_keeps->yl,pyIter->ad5,pyNext->ad6,rangeSize_one->ak2,rawInt->OK,recursionLimit->akn,relabel->FY,seqIndex_of->aaN,setField->aki,sizeLine_eq->aT,size_of_entries->yj,sliceBounds->qo,slot_list_getitem->aeD,standAt->Bs,starEach->bN,storeName->agE,swapsWith->pW,sysModules->eE,tupleKind->jY,tupleKind_room_in1->fA,typeIs_int->ad0,unaryOp->XG,valueAt->FX,wpAny->a7,wpAny_Call_Name_kw->gv,wpAny_Call_method->uG,wpAny_Call_method_late->Xx,wpAny_Constant_int->adR,wpAny_Dict_empty->agN,wpAny_Expr_any->akb,wpAny_Name->adS,wpAny_Return_some->FT,wpAny_Try_except->agI,wpAny_assign_Name->aex,wpAny_attempt->akH,wpAny_bind->ay,wpAny_call->ad3,wpAny_callSpecial?_slot->wI,wpAny_call_entry->wH,wpAny_comp_letGo->agF,wpAny_dictEntries->oN,wpAny_dictEpoch->ahL,wpAny_dictFind_heap->abD,wpAny_execs_cons->pX,wpAny_execs_nil->m6,wpAny_field->uK,wpAny_holding->fV,wpAny_isTrue_Compare1->Yp,wpAny_landsW->Xw,wpAny_loadName_cell->abz,wpAny_loadName_local->aaD,wpAny_looks_onW->ahD,wpAny_mono->dZ,wpAny_newObj_type->gQ,wpAny_notIn_of->akk,wpAny_notOrdered_dict->zL,wpAny_passesOwn->kP,wpAny_pure->aU,wpAny_pyIter_enum->aeB,wpAny_rule->OI,wpAny_sequenceKey->aeF,wpAny_setField->akh,wpAny_standAt->CC,wpAny_truthy_bool->fZ,wpAny_typeNameOfWhole_keyiter->JA,wpAny_typeNameOf_keyiter->SU,wpAny_typeOf->F0,wpAny_updateDictKeys->aaG
open PySem.Around renaming under->JC,under_plainId->wc
open PySem.AutoListH renaming list___mul___list_int_3->alB
open PySem.Builtin renaming bitAnd->eQ,bitNot->en,bitOr->nO,bitXor->mT
open PySem.Builtin.Dict renaming dictSlotNone->ahM,keyAndDefault->zT,showsAll->EF,takeOut->ER
open PySem.Builtin.Dict_items renaming ownsTuple->Yt
open PySem.Builtin.List renaming listRaiseStr->ahE,listTooLong->kF
open PySem.Builtin.Range renaming rangeSize->Bz,small->agM
open PySem.Builtin.Slice renaming sliceAdjust->oO,sliceApplied->zO,sliceFields->agS,slicePartIndex->agT,slicePlaces->j8
open PySem.Builtin.Tuple renaming tupleExact->kD,tupleIsExact->agG,tupleItemsOf->zN
open PySem.Calls renaming Name_function_global->FU,callWith_builtin->fG,evalArgs_plain->iK,spliced_cons->fj,spliced_nil->iL
open PySem.Challenge renaming pw_textmill_s01_answers->jm,rw_textmill_s01_answers->jk
open PySem.CmpOp renaming In->aaC,NotIn->OE
open PySem.Code renaming frames->agV,isFrame->Mq
open PySem.DictEntry renaming refKey->alD
open PySem.EntryCells renaming newEntry->akF
open PySem.Env renaming kindOf->akl
open PySem.EqMixed renaming eq_bool_str->ag5,eq_int_str->ag4,eq_str_bool->ag3,eq_str_int->ag2,ne_bool_str->ag1,ne_int_str->ag0,ne_str_bool->agZ,ne_str_int->agY
open PySem.EqNone renaming eq_bool_none->ah1,eq_int_none->ah0,eq_none_bool->ah4,eq_none_int->ah3,eq_none_none->ah5,eq_none_str->ah2,eq_str_none->ahZ,ne_bool_none->ahU,ne_int_none->ahT,ne_none_bool->ahX,ne_none_int->ahW,ne_none_none->ahY,ne_none_str->ahV,ne_str_none->ahS
open PySem.F renaming args_dict_get_2->G0,args_dict_get_3->GZ,args_list_index_3->ES,entry_dict_get->mQ,entry_list_index->FW,excBase_Exception->EU,plainAttrs_dict->l8,plainAttrs_list->aJ,slot_dict_get->gZ,slot_dict_iter->adX,slot_dict_keyiterator_next->qm,slot_dict_pop->Jw,slot_dict_setdefault->B6,slot_int_rmul->aeC,slot_list_append->bI,slot_list_extend->dR,slot_list_index->sD,slot_list_pop->eK,type_dict_get->JB,type_list_pop->eJ
open PySem.Heap renaming FlyingW->lh,HeldW->GW,MadeExcOf->qP,SameBut->gO,get?_push_of_some->a5,get?_push_size->b9,get?_update_other->uI,get?_update_self->og,lt_size->bz,size_push->eZ
open PySem.Heap.DictOf renaming new->akj
open PySem.Heap.IsSliceOf renaming new->aeE
open PySem.Heap.SameBut renaming update->ir
open PySem.Heap.UpToSlots renaming of_keeps->AW
open PySem.IsL renaming update->alC
open PySem.IsRange renaming new->L1
open PySem.MeetsSeq.EqGives renaming int->abC
open PySem.NameKind renaming cell->E1,free->nG
open PySem.Obj renaming data_mapDictKeys->pq,data_mapFields->Xu,isFreed_of_dict->TQ,mapSeq->A0
open PySem.Paired renaming length->jZ,snoc->adY
open PySem.PassesOwn renaming leaving->fm,never->cA
open PySem.PyData renaming canLay0->ET,canLayAll0->fD,depth->pB,depthAll->fQ,eqv->ym,eqvAll->nZ,int->fE
open PySem.SeqAt renaming EqAt->agR,shaped->jO
open PySem.SeqAt.EqAt renaming bool_bool->akS,bool_int->akR,bool_none->akT,bool_str->akQ,int_bool->akO,int_int->akN,int_none->akP,int_str->JE,none_bool->akW,none_int->akV,none_str->akU,same->akX,str_bool->akL,str_int->JD,str_none->akM,str_str->akK
open PySem.SeqAt.RcNeAt renaming lists->ahH,lists_lengths->ahG
open PySem.Str renaming ofString->cB
open PySem.Value renaming bool->agX,bytes->aeI,float->aeH,int->nY,isInt->aeG,isStrOf->abI,none->mi,ref->bM,str->Jv,type->agU
open PySem.W renaming Frag->aA,callWith_K->lU,callWith_K0->wJ,cellsFrom_some->Jc,codeIn->pZ,emptyDict->fC,exmOne->bG,findIn->eP,fnOf->iu,funFrames_hide->I0,handedIn->SX,hasDictIn->zQ,hideAll->dy,hideAll_get->oX,hideAll_none->LW,instObj->ib,isFn->zP,keepIn->bW,lookIn->vN,makesIn->fN,methodCall_KW->uA,methodObj->zM,mg_none_of->dG,mg_of->Yq,nsIn->zJ,nsOkIn->Xy,of_hideAll->lS,plainGet->sG,plainGet_of->wL,plainOver->Qu,specialIn->Qt,tailIn->Xz,takerIn->Cb
open PySem.W.Codec renaming encAll_of_decAll->agD,inInt->agC,inLen->agB,inList->EB,inNat_iff->agA
open PySem.W.KIN renaming signs_num->akf
open PySem.W.Looks renaming here->agW,ld->agH
open PySem.W.ReadsAllW renaming cons->aaF
open PySem.W.WData renaming int->GS,list->agz
open PySem.Within renaming cons->ahR
open Ra32 renaming Def->dj,Frame->iU,PENDING->aez,R->eY,Sys->dw,again->om,apply->TK,ascii->bR,asideSize->bK,bare->Cy,blank->bS,bool->ju,built->gC,builtNames->gD,come->dI,decimal->Bv,digits->iP,done->oj,eval->ke,filled->fT,find->yd,first->kR,held->cw,indexOf->jS,isDigit->bb,isLetter->sL,isWord->cf,joinedBy->iV,keptSize->ba,number->iQ,numbers->fL,quoted->iO,replaced->gX,run->eX,sizeOf_->cW,text->ow,token->TH,undivertAll->lg,without->jQ,wrap->ot,write->GV
open Ra32.Def renaming text->Xs
open Ra32Neutral renaming asked->akd,asked1->IZ,natural->GU,step->cU,total->wD,whole32->akc
open Sum renaming inl->jX,inr->dM
open Sum.inl renaming inj->LQ
open Sum.inr renaming inj->abx
open True renaming intro->mo
namespace TM
section
def Hid(G g:Prop):Prop:=G->g
theorem wN{G:Prop}(k:∀g:Prop,Hid G g->g):G:=k G id
theorem wO{G g:Prop}(k:Hid G g)(h:G):g:=k h
end
end TM
local macro_rules | `(tactic| rcases $e:term with $p:rcasesPatLo) => `(tactic| (refine TM.wN fun g k => ?_; obtain $(⟨p.raw[0]⟩):rcasesPatMed := $e; refine TM.wO k ?_; clear k g))
noncomputable section
namespace L2
open PySem PySem.Spec PyProof.Rows
section
abbrev Key:=Sum Int Str
def zm:Key->ax->Bool
 | .inl k,v=>aeG k v
 | .inr x,v=>abI x v
def afE(w:cP):Key->Int
 | .inl k=>hashInt k
 | .inr x=>hashStr w x
theorem gJ:∀{k:Key} {v:ax},zm k v=true->(∃i t,k=jX i/\v=nY i t)\/(∃x t,k=dM x/\v=Jv x t)
 | .inl i,v,h=>by
   obtain⟨t,e⟩:=Value.isInt_shape (k:=i) (v:=v) h;exact .inl ⟨i,t,rfl,e⟩
 | .inr x,v,h=>by
   obtain⟨t,e⟩:=Value.isStrOf_shape (x:=x) (v:=v) h;exact .inr ⟨x,t,rfl,e⟩
theorem RG(i:Int)(t:Tok):zm (.inl i) (.int i t)=true:=by simp[zm,aeG]
theorem RF(x:Str)(t:Tok):zm (.inr x) (.str x t)=true:=by simp[zm,abI]
theorem acL(a b:Int):decide ((jX a:Key)=jX b)=(a==b):=by
 by_cases e:a=b
 ·subst e;simp
 ·have h:¬(jX a:Key)=jX b:=fun q=>e (LQ q);rw[decide_eq_false h];exact(beq_eq_false_iff_ne.mpr e).symm
theorem acI(a b:Str):decide ((dM a:Key)=dM b)=decide (a=b):=by
 by_cases e:a=b
 ·subst e;simp
 ·have h:¬(dM a:Key)=dM b:=fun q=>e (abx q);rw[decide_eq_false h,decide_eq_false e]
theorem acK(a:Int)(b:Str):decide ((jX a:Key)=dM b)=false:=decide_eq_false (fun q=>nomatch q)
theorem acJ(a:Str)(b:Int):decide ((dM a:Key)=jX b)=false:=decide_eq_false (fun q=>nomatch q)
def de(prog:bD)(w:cP):PySem.KeyKind prog w Key where
 is:=zm
 hash:=afE w
 inj:=fun v a b ha hb=>by
  obtain⟨i,t,rfl,rfl⟩|⟨x,t,rfl,rfl⟩:=gJ ha
  ·obtain⟨j,u,rfl,e⟩|⟨y,u,rfl,e⟩:=gJ hb
   ·injection e with e1 _;rw[e1]
   ·exact nomatch e
  ·obtain⟨j,u,rfl,e⟩|⟨y,u,rfl,e⟩:=gJ hb
   ·exact nomatch e
   ·injection e with e1 _;rw[e1]
 byValue:=fun k v h=>by
  obtain⟨i,t,rfl,rfl⟩|⟨x,t,rfl,rfl⟩:=gJ h<;>rfl
 pyHash:=fun hv h=>by
  obtain⟨i,t,rfl,rfl⟩|⟨x,t,rfl,rfl⟩:=gJ hv
  ·exact wpAny_pyHash_int h
  ·exact wpAny_pyHash_str h
 eqBool:=fun hu hv h=>by
  obtain⟨i,t,rfl,rfl⟩|⟨x,t,rfl,rfl⟩:=gJ hu
  ·obtain⟨j,u,rfl,rfl⟩|⟨y,u,rfl,rfl⟩:=gJ hv
   ·rw[acL]at h;exact wpAny_eqBool_int h
   ·rw[acK]at h;exact JE i t y u _ _ _ _ h
  ·obtain⟨j,u,rfl,rfl⟩|⟨y,u,rfl,rfl⟩:=gJ hv
   ·rw[acJ]at h;exact JD x t j u _ _ _ _ h
   ·rw[acI]at h;exact wpAny_eqBool_str h
 «strs» :=fun k x t v h=>by
  obtain⟨i,u,rfl,e⟩|⟨y,u,rfl,e⟩:=gJ h
  ·exact nomatch e
  ·injection e with e1 _
   subst e1
   cases v<;>rfl
theorem KR(prog:bD)(w:cP)(i:Int)(t:Tok):(de prog w).is (.inl i) (.int i t)=true:=RG i t
theorem KQ(prog:bD)(w:cP)(x:Str)(t:Tok):(de prog w).is (.inr x) (.str x t)=true:=RF x t
end
section
inductive V where
 |fI|bl (b:Bool)|int (i:Int)|str (x:Str)|TB (b:Array UInt8)|flt (b:UInt64)|ref (a:ao)|ty (n:String)
 deriving DecidableEq
def RelV:V->ax->Prop
 | .fI,u=>u=mi
 | .bl b,u=>u=agX b
 | .int i,u=>∃t,u=nY i t
 | .str x,u=>∃t,u=Jv x t
 | .TB b,u=>∃t,u=aeI b t
 | .flt b,u=>∃t,u=aeH b t
 | .ref a,u=>u=bM a
 | .ty n,u=>u=agU n
abbrev cZ:List V->List ax->Prop:=A3 RelV
theorem cZ.length{xs:List V}{us:List ax}(r:cZ xs us):xs.length=us.length:=jZ r
theorem cZ.get:∀{xs:List V} {us:List ax} {i:Nat} {x:V},cZ xs us->xs[i]? =some x->∃u,us[i]? =some u/\RelV x u
 |_,_,_,_,.nil,e=>by simp at e
 |_,_,0,_,.cons r _,e=>by simp at e;subst e;exact⟨_,rfl,r⟩
 |_,_,i+1,x,.cons _ t,e=>by
  obtain⟨u,h1,h2⟩:=cZ.get (i:=i) (x:=x) t (by simpa using e);exact⟨u,by simpa using h1,h2⟩
theorem cZ.set(r:RelV x u):∀{xs:List V} {us:List ax} (i:Nat),cZ xs us->cZ (xs.set i x) (us.set i u)
 |_,_,_,.nil=>.nil
 |_,_,0,.cons _ t=>.cons r t
 |_,_,i+1,.cons q t=>.cons q (cZ.set r i t)
theorem cZ.append:∀{xs ys:List V} {us ws:List ax},cZ xs us->cZ ys ws->cZ (xs++ys) (us++ws):=by
 intro xs ys us ws a s
 induction a with
 |nil=>exact s
 |cons r t ih=>exact .cons r ih
theorem cZ.take:∀{xs:List V} {us:List ax} (n:Nat),cZ xs us->cZ (xs.take n) (us.take n)
 |_,_,0,_=>.nil
 |_,_,_+1,.nil=>.nil
 |_,_,n+1,.cons r t=>.cons r (cZ.take n t)
theorem cZ.drop:∀{xs:List V} {us:List ax} (n:Nat),cZ xs us->cZ (xs.drop n) (us.drop n)
 |_,_,0,r=>r
 |_,_,_+1,.nil=>.nil
 |_,_,n+1,.cons _ t=>cZ.drop n t
def sv:Option V->Option ax->Prop
 |some v,some u=>RelV v u
 |none,none=>True
 |_,_=>False
def KV{κ:Type}:List (κ×V)->List (κ×ax)->Prop:=A3 fun(p:κ×V) (q:κ×ax)=>p.1=q.1/\RelV p.2 q.2
def kV:Key->V
 | .inl i=>.int i
 | .inr x=>.str x
inductive HO where
 |lst (xs:List V)
 |tup (xs:List V)
 |dK (kvs:List (Key×V))|dT (kvs:List (List Key×V))
 |set (S:Int->Bool) (n:Nat)
 |ins (C dx:ao) (fs:List (Str×V))
 |own (x:ao)
 |xd (fs:List (Str×V))
 |met (f x:ao)
 |rng (lo hi:Int)
 |PX (o:Obj) (u:HO)
 |tbl (ps:Array ax)
 |ext (φ:dg->Prop)
abbrev Hp:=ao->Option HO
def upd(H:Hp)(a:ao)(o:HO):Hp:=fun b=>if b=a then some o else H b
theorem aq:upd H a o a=some o:=by unfold upd;rw[if_pos rfl]
theorem ai(h:b≠a):upd H a o b=H b:=by unfold upd;rw[if_neg h]
theorem YF:upd (upd H a o) a u=upd H a u:=by
 funext b;unfold upd;split<;>rfl
theorem VO{H:Hp}(h:H a=some o)(h':H b=some u)(d:o≠u):a≠b:=by
 intro e;subst e;rw[h]at h';exact d (bo h')
theorem gT{H:Hp}(h:H a=some o)(h':H b=none):a≠b:=by
 intro e;subst e;rw[h]at h';cases h'
section
variable(P:bD)(w:cP)
def iw(H:Hp)(h:dg)(a:ao):HO->Prop
 | .lst xs=>xs.length<=sizeLine/\∃(cV:List ax) (n:Nat),cZ xs cV/\h.get? a=some {cls:=.type "list",data:=.seq cV.toArray n}
 | .tup xs=>xs.length<=sizeLine/\∃cV:List ax,cZ xs cV/\IsTup h a cV.toArray
 | .dK kvs=>kvs.length<=sizeLine/\(a==eE)=false/\∃vs,KV kvs vs/\h.DictOf (de P w) a vs
 | .dT kvs=>kvs.length<=sizeLine/\(a==eE)=false/\∃xs:List (List Key×ao×ax),
  A3 (fun(p:List Key×V) (q:List Key×ao×ax)=>p.1=q.1/\H q.2.1=some (.tup (p.1.map kV))/\RelV p.2 q.2.2) kvs xs/\
  ∃o es ep,h.get? a=some o/\o.ExactDict/\o.data= .dict es ep/\es.toList=xs.map (EG (jY (de P w)))/\(xs.map (·.1)).Nodup
 | .set S n=>h.SetOf (intKind P w) a S n
 | .ins C dx fs=>H dx=some (.own a)/\fs.length<=1000/\dx≠a/\h.get? a=some (ib C dx)/\
  ∃mA,h.Ns1 dx mA/\(∀f,sv (fs.lookup f) (mA f))/\L0 mA (fs.map (·.1))
 | .own _=>∃o,h.get? a=some o
 | .xd fs=>∃mA,h.Ns1 a mA/\∀f,sv (fs.lookup f) (mA f)
 | .rng lo hi=>∃t u v,h.get? a=some {cls:=.type "range",data:=.fields #[.int lo t,.int hi u,.int 1 v]}
 | .PX o u=>h.get? a=some o/\iw H h a u
 | .tbl ps=>h.get? a=some {cls:=.none,data:=.fields ps}
 | .met f x=>h.get? a=some (zM (.ref f) (.ref x))
 | .ext φ=>φ h/\(∃o,h.get? a=some o)/\∀h1 h2:dg,φ h1->(∀o,h1.get? a=some o->h2.get? a=some o)->φ h2
def vO(H:Hp)(h:dg):Prop:=∀a o,H a=some o->iw P w H h a o
end
section
variable{P:bD}{w:cP}{H H':Hp}{h h':dg}{a:ao}{o:HO}
theorem iw.lt(x:iw P w H h a o):a<h.objs.size:=by
 cases o with
 |lst xs=>obtain⟨_,_,_,_,e⟩:=x;exact bz e
 |tup xs=>obtain⟨_,_,_,p⟩:=x;exact p.lt
 |dK kvs=>obtain⟨_,_,_,_,o,_,_,e,_⟩:=x;exact bz e
 |dT kvs=>obtain⟨_,_,_,_,o,_,_,e,_⟩:=x;exact bz e
 |set S n=>obtain⟨o,_,_,_,e,_⟩:=x;exact bz e
 |ins C dx fs=>obtain⟨_,_,_,e,_⟩:=x;exact bz e
 |own y=>obtain⟨_,e⟩:=x;exact bz e
 |xd fs=>obtain⟨_,⟨_,_,_,e,_⟩,_⟩:=x;exact bz e
 |rng lo hi=>obtain⟨_,_,_,e⟩:=x;exact bz e
 |PX ob u=>obtain⟨e,_⟩:=x;exact bz e
 |tbl ps=>exact bz (show h.get? a=some _ from x)
 |met f y=>exact bz (show h.get? a=some _ from x)
 |ext φ=>obtain⟨_,⟨_,e⟩,_⟩:=x;exact bz e
theorem Paired.afA{α β:Type}{F G:α->β->Prop}:∀{l₁:List α} {l₂:List β},A3 F l₁ l₂->(∀a b,F a b->G a b)->A3 G l₁ l₂:=by
 intro l₁ l₂ h f
 induction h with
 |nil=>exact .nil
 |cons r t ih=>exact .cons (f _ _ r) ih
theorem iw.J1(x:iw P w H h a o)(k:∀b u,(b=a\/H b=some (.own a))->h.get? b=some u->h'.get? b=some u)
 (ho:∀b,H b=some (.own a)->H' b=some (.own a)) (ht:∀b xs,H b=some (.tup xs)->H' b=some (.tup xs)):iw P w H' h' a o:=by
 induction o with
 |lst xs=>obtain⟨z,cV,n,r,e⟩:=x;exact⟨z,cV,n,r,k _ _ (.inl rfl) e⟩
 |tup xs=>obtain⟨z,cV,r,ob,e,c⟩:=x;exact⟨z,cV,r,ob,k _ _ (.inl rfl) e,c⟩
 |dK kvs=>obtain⟨z,y,vs,r,ob,es,ep,e,c⟩:=x;exact⟨z,y,vs,r,ob,es,ep,k _ _ (.inl rfl) e,c⟩
 |dT kvs=>
  obtain⟨z,y,xs,r,ob,es,ep,e,c⟩:=x;exact⟨z,y,xs,Paired.afA r fun p q z=>⟨z.1,ht _ _ z.2.1,z.2.2⟩,ob,es,ep,k _ _ (.inl rfl) e,c⟩
 |set S n=>obtain⟨ob,es,ep,t,e,c⟩:=x;exact⟨ob,es,ep,t,k _ _ (.inl rfl) e,c⟩
 |ins C dx fs=>
  obtain⟨d,z,ne,e,mA,⟨od,es,ep,e2,c⟩,r⟩:=x;exact⟨ho _ d,z,ne,k _ _ (.inl rfl) e,mA,⟨od,es,ep,k _ _ (.inr d) e2,c⟩,r⟩
 |own y=>obtain⟨ob,e⟩:=x;exact⟨ob,k _ _ (.inl rfl) e⟩
 |xd fs=>obtain⟨mA,⟨od,es,ep,e,c⟩,r⟩:=x;exact⟨mA,⟨od,es,ep,k _ _ (.inl rfl) e,c⟩,r⟩
 |rng lo hi=>obtain⟨t,u,v,e⟩:=x;exact⟨t,u,v,k _ _ (.inl rfl) e⟩
 |PX ob u ih=>obtain⟨e,q⟩:=x;exact⟨k _ _ (.inl rfl) e,ih q⟩
 |tbl ps=>
  have e:h.get? a=some {cls:=.none,data:=.fields ps}:=x;show h'.get? a=some {cls:=.none,data:=.fields ps};exact k a _ (.inl rfl) e
 |met f y=>
  have e:h.get? a=some (zM (.ref f) (.ref y)):=x;show h'.get? a=some (zM (.ref f) (.ref y));exact k a _ (.inl rfl) e
 |ext φ=>obtain⟨p,⟨o,e⟩,st⟩:=x;exact⟨st _ _ p fun o q=>k _ _ (.inl rfl) q,⟨o,k _ _ (.inl rfl) e⟩,st⟩
theorem vO.lt(x:vO P w H h)(e:H a=some o):a<h.objs.size:=(x a o e).lt
theorem vO.fresh(x:vO P w H h)(e:h.objs.size<=a):H a=none:=by
 cases q:H a with
 |none=>rfl
 |some u=>exact absurd (bP (x.lt q) e) (fc _)
theorem vO.kept(x:vO P w H h)(k:∀b u,h.get? b=some u->h'.get? b=some u):vO P w H h':=fun a o e=>
 (x a o e).J1 (fun b u _ q=>k b u q) (fun _ q=>q) fun _ _ q=>q
theorem vO.laid(x:vO P w H h)(k:∀b u,h.get? b=some u->h'.get? b=some u)(hp:h.objs.size<=a)(new:iw P w (upd H a o) h' a o):vO P w (upd H a o) h':=fun b u e=>by
 have hn:=x.fresh hp
 by_cases hb:b=a
 ·subst hb;rw[aq]at e;cases e;exact new
 ·rw[ai hb]at e;exact(x b u e).J1 (fun c v _ q=>k c v q) (fun c q=>by rw[ai (gT q hn)];exact q) fun c xs q=>by rw[ai (gT q hn)];exact q
end
def Rd(H:Hp)(a:ao)(u:HO):Prop:=H a=some u\/∃o,H a=some (.PX o u)
theorem Rd.of(h:H a=some u):Rd H a u:=.inl h
theorem Rd.ok(r:Rd H a u)(x:vO P w H h):iw P w H h a u:=by
 obtain r|⟨o,r⟩:=r
 ·exact x a u r
 ·obtain⟨_,q⟩:=x a _ r;exact q
def Mut:Option HO->Prop
 |some (.lst _)=>True
 |some (.dK _)=>True
 |some (.dT _)=>True
 |some (.set _ _)=>True
 |some (.ins _ _ _)=>True
 |some (.ext _)=>True
 |_=>False
section
variable{P:bD}{w:cP}{H:Hp}{h h':dg}{x e:ao}{o':HO}
theorem vO.write(ok:vO P w H h)(mu:Mut (H x))(he:e=x\/H e=some (.own x))(k:∀b u,b≠e->h.get? b=some u->h'.get? b=some u)(heo:∃u,h'.get? e=some u)
 (new:iw P w (upd H x o') h' x o'):vO P w (upd H x o') h':=fun b u q=>by
 have afz:∀c y,H c=some (.own y)->c≠x:=fun c y r z=>by subst z;rw[r]at mu;exact mu
 have aiO:∀c xs,H c=some (.tup xs)->c≠x:=fun c xs r z=>by subst z;rw[r]at mu;exact mu
 by_cases hb:b=x
 ·subst hb;rw[aq]at q;cases q;exact new
 ·rw[ai hb]at q
  by_cases X3:b=e
  ·have q':H b=some (.own x):=by
    obtain z|z:=he
    ·exact absurd (X3.trans z) hb
    ·rw[X3];exact z
   rw[q]at q';cases q';obtain⟨v,hv⟩:=heo;exact⟨v,by rw[X3];exact hv⟩
  ·refine(ok b u q).J1 (fun c v hc r=>k c v ?_ r) (fun c r=>by rw[ai (afz c b r)];exact r) fun c xs r=>by rw[ai (aiO c xs r)];exact r
   obtain rfl|hc:=hc
   ·exact X3
   ·rintro rfl;obtain z|z:=he
    ·exact afz c b hc z
    ·rw[hc]at z;cases z;exact hb rfl
end
structure Un(fs ex:List ao)(H H':Hp)(h h':dg):Prop where
 keep:∀b o,h.get? b=some o->H b=none->b∉fs->b∉ex->h'.get? b=some o
 slot:∀b o,h.get? b=some o->H b=none->b∈fs->b∉ex->∃sl,h'.get? b=some {o with slots:=sl}
 free:∀b o,h.get? b=some o->H b=none->b∉ex->H' b=none
 there:∀b o,h.get? b=some o->b∉ex->∃o',h'.get? b=some o'
 yu:∀b xs,H b=some (.tup xs)->H' b=some (.tup xs)
 xX:∀b o u,H b=some (.PX o u)->H' b=some (.PX o u)
 yy:∀b ps,H b=some (.tbl ps)->∃more,H' b=some (.tbl (ps++more))
section
variable{fs fs' ex ex':List ao}{H H1 H2:Hp}{h h1 h2 h':dg}{a x e:ao}{o:HO}
theorem Un.any(u:Un fs ex H H1 h h1)(q:h.get? b=some ob)(n:H b=none)(hx:b∉ex):∃sl,h1.get? b=some {ob with slots:=sl}:=by
 by_cases hb:b∈fs
 ·exact u.slot b ob q n hb hx
 ·exact⟨ob.slots,u.keep b ob q n hb hx⟩
theorem Un.trans(a:Un fs ex H H1 h h1)(b:Un fs ex H1 H2 h1 h2):Un fs ex H H2 h h2 where
 keep:=fun c ob q n hc hx=>b.keep c ob (a.keep c ob q n hc hx) (a.free c ob q n hx) hc hx
 slot:=fun c ob q n hc hx=>by
  obtain⟨sl,e1⟩:=a.slot c ob q n hc hx;obtain⟨sl',e2⟩:=b.slot c _ e1 (a.free c ob q n hx) hc hx;exact⟨sl',e2⟩
 free:=fun c ob q n hx=>by
  obtain⟨o',e1⟩:=a.there c ob q hx;exact b.free c o' e1 (a.free c ob q n hx) hx
 there:=fun c ob q hx=>by
  obtain⟨o',e1⟩:=a.there c ob q hx;exact b.there c o' e1 hx
 yu:=fun c xs q=>b.yu c xs (a.yu c xs q)
 xX:=fun c ob xs q=>b.xX c ob xs (a.xX c ob xs q)
 yy:=fun c ps q=>by
  obtain⟨m1,e1⟩:=a.yy c ps q;obtain⟨m2,e2⟩:=b.yy c _ e1;exact⟨m1++m2,by rw[e2,SV]⟩
theorem Un.kept(k:∀b u,h.get? b=some u->h'.get? b=some u):Un fs ex H H h h':=
 ⟨fun b ob q _ _ _=>k b ob q,fun b ob q _ _ _=>⟨ob.slots,k b ob q⟩,fun _ _ _ n _=>n,fun b ob q _=>⟨ob,k b ob q⟩,fun _ _ q=>q,fun _ _ _ q=>q,fun _ ps q=>⟨#[],by rw[q];simp⟩⟩
theorem Un.refl:Un fs ex H H h h:=Un.kept fun _ _ q=>q
theorem Un.laid(k:∀b u,h.get? b=some u->h'.get? b=some u)(hp:h.objs.size<=a)(hn:H a=none):Un fs ex H (upd H a o) h h' where
 keep:=fun b u q _ _ _=>k b u q
 slot:=fun b u q _ _ _=>⟨u.slots,k b u q⟩
 free:=fun b u q n _=>by rw[ai (dN (bP (bz q) hp))];exact n
 there:=fun b u q _=>⟨u,k b u q⟩
 yu:=fun b xs q=>by rw[ai (gT q hn)];exact q
 xX:=fun b u xs q=>by rw[ai (gT q hn)];exact q
 yy:=fun b ps q=>⟨#[],by rw[ai (gT q hn),q];simp⟩
theorem Un.write(mu:Mut (H x))(he:e=x\/H e=some (.own x))(k:∀b u,b≠e->h.get? b=some u->h'.get? b=some u)(heo:∃u,h'.get? e=some u):Un fs ex H (upd H x o) h h':=by
 have hx:∀b,H b=none->b≠x:=fun b n z=>by subst z;rw[n]at mu;exact mu
 have hb:∀b,H b=none->b≠e:=fun b n z=>by
  subst z;obtain r|r:=he
  ·exact hx b n r
  ·rw[n]at r;cases r
 have hm:∀b u,H b=some u->¬Mut (some u)->b≠x:=fun b u q nm z=>by subst z;rw[q]at mu;exact nm mu
 refine⟨fun b u q n _ _=>k b u (hb b n) q,fun b u q n _ _=>⟨u.slots,k b u (hb b n) q⟩,fun b u q n _=>by rw[ai (hx b n)];exact n,fun b u q _=> ?_,
  fun b xs q=>by rw[ai (hm b _ q fun z=>z)];exact q,fun b u xs q=>by rw[ai (hm b _ q fun z=>z)];exact q,fun b ps q=>⟨#[],by rw[ai (hm b _ q fun z=>z),q];simp⟩⟩
 by_cases X3:b=e
 ·subst X3;exact heo
 ·exact⟨u,k b u X3 q⟩
theorem Un.mono(u:Un fs ex H H1 h h1)(hs:∀b∈fs,b∈fs')(hx:∀b∈ex,b∈ex'):Un fs' ex' H H1 h h1:=
 ⟨fun b ob q n hb he=>u.keep b ob q n (fun z=>hb (hs b z)) fun z=>he (hx b z),fun _ _ q n _ he=>u.any q n fun z=>he (hx _ z),fun b ob q n he=>u.free b ob q n fun z=>he (hx b z),fun b ob q he=>u.there b ob q fun z=>he (hx b z),u.yu,u.xX,u.yy⟩
end
def trk(h:dg)(H:Hp):List ao:=(c8 h.objs.size).filter fun a=>(H a).isSome
def Il(h:dg)(H:Hp):dg:=dy h (trk h H)
theorem RS(h:dg)(H:Hp):(Il h H).objs.size=h.objs.size:=PySem.W.hideAll_size _ _
theorem Wn{h:dg}(e:h.get? b=some o)(n:H b=none):(Il h H).get? b=some o:=
 oX _ e fun hm=>by
  have q:(H b).isSome=true:=(mf.mp hm).2;rw[n]at q;simp at q
theorem Zu{h:dg}(e:(Il h H).get? b=some o):h.get? b=some o/\H b=none:=by
 have e':h.get? b=some o:=lS (trk h H) e;exists e'
 cases q:H b with
 |none=>rfl
 |some x=>
  have hm:b∈trk h H:=mf.mpr ⟨hG.mpr (bz e'),by simp[q]⟩;have z:(Il h H).get? b=none:=LW (trk h H) hm;rw[z]at e;cases e
def aaA(g h:dg)(L:ao):List (ao×Obj):=(c8 h.objs.size).filterMap fun a=>if a=L\/(g.get? a).isSome=true then none else(h.get? a).map fun o=>(a,o)
def rest(g h:dg)(L d:ao):List (ao×Obj):=(aaA g h L).filter fun p=>decide (p.1≠d)
end
section
structure Mod(K:aA)(mg:Str->Option ax)(ag:dg):Prop where
 kin:K.In ag
 glob:ag.Ns jn mg
 blt:∃mb,ag.Ns adT mb/\∀x:Str,x≠"__name__"->mb x=oM x
 nolimit:ag.NoLimit
structure Cx where
 prog:bD
 w:cP
 K:aA
 mg:Str->Option ax
 base:dg
 A:cN
 N:List Str
 s₀:az
 H₀:Hp
 env:Env
 outer:List Env
 stack:List Env
 ex:List ao
 fn:Str->Bool
 calm:Bool
 pn:List (ao×Obj)
 xe:ax->az->Prop
def mG(l:List Env):List ao:=l.filterMap (·.frame)
abbrev Cx.fs(X:Cx):List ao:=mG X.outer
def Vis(sc:ia)(x:Str):Prop:=sc.names.lookup x=some .local\/sc.names.lookup x=some .cell\/sc.names.lookup x=some .free
def Loc(sc:ia)(x:Str):Prop:=sc.names.lookup x=some .local\/sc.names.lookup x=some .cell
def Look(env:Env)(h:dg)(m:Str->Option ax)(x:Str)(u:ax):Prop:=
 (env.kindOf x=some .local/\m x=some u)\/((env.kindOf x=some .cell\/env.kindOf x=some .free)/\∃c,env.cells.lookup x=some c/\h.IsCell c (some u))
structure Cx.Ok(X:Cx):Prop where
 mod:Mod X.K X.mg X.base
 kind:X.env.scope.kind= .function
 glob:X.env.globals=jn
 blt:X.env.builtins=adT
 above:X.s₀.heap.objs.size<=X.env.locals
 inj:∀x y c,X.env.cells.lookup x=some c->X.env.cells.lookup y=some c->x=y
 has:∀x,(X.env.kindOf x=some .cell\/X.env.kindOf x=some .free)->∃c,X.env.cells.lookup x=some c
 cab:∀x c,X.fn x=true->X.env.cells.lookup x=some c->X.s₀.heap.objs.size<=c
 hd:X.calm=true->X.A.handled=none
 frames:X.A.frames=some X.stack
 pA:X.stack=X.outer\/(X.stack=X.env::X.outer/\X.env.frame=some X.env.locals)
 exf:∀b∈X.ex,b≠X.env.locals/\∀x c,X.env.cells.lookup x=some c->c≠b
 bs:∀b o,X.base.get? b=some o->X.s₀.heap.get? b=some o/\X.H₀ b=none
 Yn:X.base.objs.size<=X.s₀.heap.objs.size
 Rm:∀b o,X.base.get? b=some o->b∉X.ex
 Sl:∀b∈X.ex,b∉X.fs
 xW:X.s₀.heap.FunFrames X.base X.outer
 frf:∀b∈X.fs,X.H₀ b=none
structure Inv(X:Cx)(ae:List (ao×Obj))(Z:List (Option V))(H:Hp)(s:az):Prop where
 ok:X.Ok
 os:s.os=X.s₀.os
 bare:uE s.gens
 base:Un X.fs X.ex X.H₀ H X.s₀.heap s.heap
 loc:∃m,s.heap.Ns X.env.locals m/\∀(i:Nat) (x:Str) (v:V),X.N[i]? =some x->Z[i]? =some (some v)->Vis X.env.scope x->∃u,RelV v u/\Look X.env s.heap m x u
 cell:∀x c,X.env.cells.lookup x=some c->∃v,s.heap.IsCell c v
 free:H X.env.locals=none
 rZ:∀x c,X.env.cells.lookup x=some c->H c=none
 pin:∀p∈X.pn++ae,s.heap.get? p.1=some p.2/\H p.1=none/\p.1≠X.env.locals/\p.1∉X.fs/\∀v,p.2.data≠.cell v
 fW:vO X.prog X.w H s.heap
 len:Z.length=X.N.length
section
variable{X:Cx}{ae:List (ao×Obj)}{Z:List (Option V)}{H H':Hp}{s:az}{h':dg}
theorem Cx.Ok.aiQ(ok:X.Ok)(e:X.base.get? b=some o):b∉X.fs:=fun hb=>by
 have:=(ok.xW.mem hb).1;rw[e]at this;cases this
theorem Inv.bs(I:Inv X ae Z H s):∀b o,X.base.get? b=some o->s.heap.get? b=some o/\H b=none:=fun b o e=>
 ⟨I.base.keep b o (I.ok.bs b o e).1 (I.ok.bs b o e).2 (I.ok.aiQ e) (I.ok.Rm b o e),I.base.free b o (I.ok.bs b o e).1 (I.ok.bs b o e).2 (I.ok.Rm b o e)⟩
theorem Inv.bk(I:Inv X ae Z H s):∀b o,X.base.get? b=some o->s.heap.get? b=some o:=fun b o e=>(I.bs b o e).1
theorem Inv.mod(I:Inv X ae Z H s):Mod X.K X.mg X.base:=I.ok.mod
theorem Inv.Ay(I:Inv X ae Z H s):X.K.In s.heap:=I.ok.mod.kin.keeps I.bk
theorem Inv.nolimit(I:Inv X ae Z H s):s.heap.NoLimit:=I.ok.mod.nolimit.keeps I.bk
theorem Inv.lt(I:Inv X ae Z H s):X.env.locals<s.heap.objs.size:=let ⟨_,hn,_⟩:=I.loc;hn.lt
theorem Inv.sz(I:Inv X ae Z H s):X.s₀.heap.objs.size<=s.heap.objs.size:=cj I.ok.above (iR I.lt)
theorem Inv.aiP(I:Inv X ae Z H s){a:ao}(h:s.heap.objs.size<=a):a∉X.fs:=fun hb=>by
 obtain⟨_,o,ho,_⟩:=I.ok.xW.mem hb;exact absurd (bP (bz ho) (cj I.sz h)) (fc _)
theorem Inv.cne(I:Inv X ae Z H s):∀x c,X.env.cells.lookup x=some c->c≠X.env.locals:=fun x c e z=>by
 obtain⟨v,o,ho,hd⟩:=I.cell x c e;obtain⟨m,⟨o',es,ep,Jk,hd',_⟩,_⟩:=I.loc;rw[z,Jk]at ho;cases ho;rw[hd']at hd;cases hd
theorem Inv.xW(I:Inv X ae Z H s):s.heap.FunFrames X.base X.outer:=by
 have all:∀(l:List Env),(∀b∈mG l,b∈X.fs)->X.s₀.heap.FunFrames X.base l->s.heap.FunFrames X.base l:=by
  intro l
  induction l with
  |nil=>intro _ _;trivial
  |cons env r ih=>
   intro hs hl;obtain⟨hk,⟨L,o,hf,hn,ho,hd⟩,hr⟩:=hl;have hL:L∈X.fs:=hs L (by unfold mG;rw[lE,hf];exact aX);obtain⟨sl,e⟩:=I.base.slot L o ho (I.ok.frf L hL) hL fun z=>I.ok.Sl L z hL;exact⟨hk,⟨L,_,hf,hn,e,hd⟩,ih (fun b hb=>hs b (by unfold mG;rw[lE,hf];exact aK _ hb)) hr⟩
 exact all X.outer (fun _ hb=>hb) I.ok.xW
theorem Inv.stack(I:Inv X ae Z H s):s.heap.FunFrames X.base X.stack:=by
 obtain e|⟨e,hf⟩:=I.ok.pA
 ·rw[e];exact I.xW
 ·rw[e];obtain⟨m,hn,_⟩:=I.loc;refine .cons (by rw[I.ok.kind];decide) hf hn ?_ I.xW;exact Heap.get?_none_of_le (cj I.ok.Yn I.ok.above)
theorem Inv.C6(I:Inv X ae Z H s):∀b∈mG X.stack,b∈X.env.locals::X.fs:=fun b hb=>by
 obtain e|⟨e,hf⟩:=I.ok.pA
 ·rw[e]at hb;exact aK _ hb
 ·rw[e]at hb;unfold mG at hb;rw[lE,hf]at hb;exact hb
theorem Inv.Ce(I:Inv X ae Z H s):∀b∈mG X.stack,H b=none:=fun b hb=>by
 obtain e|hb:=a0.mp (I.C6 b hb)
 ·rw[e];exact I.free
 ·obtain⟨_,o,ho,_⟩:=I.ok.xW.mem hb;exact I.base.free b o ho (I.ok.frf b hb) fun z=>I.ok.Sl b z hb
theorem Inv.step{g':Array GenState}{t':Nat}{d':Drawn}{ch:List ao}(I:Inv X ae Z H s)
 (NY:∀b∈ch,(b∈X.ex\/X.s₀.heap.objs.size<=b)/\b≠X.env.locals/\(∀x c,X.env.cells.lookup x=some c->c≠b)/\∀p∈X.pn++ae,p.1≠b)
 (keep:∀b o,b≠X.env.locals->b∉X.fs->b∉ch->s.heap.get? b=some o->H b=none->h'.get? b=some o)
 (slot:∀b o,b≠X.env.locals->b∈X.fs->b∉ch->s.heap.get? b=some o->H b=none->∃sl,h'.get? b=some {o with slots:=sl}) (free:∀b o,b∉ch->s.heap.get? b=some o->H b=none->H' b=none)
 (there:∀b o,b∉ch->s.heap.get? b=some o->∃o',h'.get? b=some o')
 (yu:∀b xs,H b=some (.tup xs)->H' b=some (.tup xs)) (xX:∀b o u,H b=some (.PX o u)->H' b=some (.PX o u)) (yy:∀b ps,H b=some (.tbl ps)->∃more,H' b=some (.tbl (ps++more)))
 (ns:∀m,s.heap.Ns X.env.locals m->h'.Ns X.env.locals m) (fW:vO X.prog X.w H' h') (hg:uE g'):
 Inv X ae Z H' {s with heap:=h',gens:=g',drawn:=d',toks:=t'}:=by
 have neL:∀b o,X.s₀.heap.get? b=some o->b≠X.env.locals:=fun b o e=>dN (bP (bz e) I.ok.above)
 have neC:∀b o,X.s₀.heap.get? b=some o->b∉X.ex->b∉ch:=fun b o e hx hb=>by
  obtain z|z:=(NY b hb).1
  ·exact hx z
  ·exact absurd (bP (bz e) z) (fc _)
 have cellK:∀x c,X.env.cells.lookup x=some c->∀v,s.heap.IsCell c v->h'.IsCell c v:=fun x c e v ⟨o,ho,hd⟩=>by
  have nch:c∉ch:=fun z=>(NY c z).2.2.1 x c e rfl
  by_cases hc:c∈X.fs
  ·obtain⟨sl,q⟩:=slot c o (I.cne x c e) hc nch ho (I.rZ x c e);exact⟨_,q,hd⟩
  ·exact⟨o,keep c o (I.cne x c e) hc nch ho (I.rZ x c e),hd⟩
 refine⟨I.ok,I.os,hg,⟨fun b o e n hb hx=> ?_,fun b o e n hb hx=> ?_,fun b o e n hx=> ?_,fun b o e hx=> ?_,fun b xs e=>yu b xs (I.base.yu b xs e),fun b o xs e=>xX b o xs (I.base.xX b o xs e),fun b ps e=> ?_⟩,?_,fun x c e=> ?_,?_,fun x c e=> ?_,fun p hp=> ?_,fW,I.len⟩
 ·exact keep b o (neL b o e) hb (neC b o e hx) (I.base.keep b o e n hb hx) (I.base.free b o e n hx)
 ·obtain⟨sl,e1⟩:=I.base.slot b o e n hb hx;obtain⟨sl',e2⟩:=slot b _ (neL b o e) hb (neC b o e hx) e1 (I.base.free b o e n hx);exact⟨sl',e2⟩
 ·obtain⟨o',e1⟩:=I.base.there b o e hx;exact free b o' (neC b o e hx) e1 (I.base.free b o e n hx)
 ·obtain⟨o',e1⟩:=I.base.there b o e hx;exact there b o' (neC b o e hx) e1
 ·obtain⟨m1,e1⟩:=I.base.yy b ps e;obtain⟨m2,e2⟩:=yy b _ e1;exact⟨m1++m2,by rw[e2,SV]⟩
 ·obtain⟨m,hn,hl⟩:=I.loc;refine⟨m,ns m hn,fun i x v e1 e2 e3=> ?_⟩;obtain⟨u,r,l⟩:=hl i x v e1 e2 e3;exists u,r;obtain l|⟨k,c,e,z⟩:=l
  ·exact .inl l
  ·exact .inr ⟨k,c,e,cellK x c e _ z⟩
 ·obtain⟨v,z⟩:=I.cell x c e;exact⟨v,cellK x c e v z⟩
 ·obtain⟨m,⟨o,_,_,ho,_⟩,_⟩:=I.loc;exact free _ o (fun z=>(NY _ z).2.1 rfl) ho I.free
 ·obtain⟨v,o,ho,hd⟩:=I.cell x c e;exact free c o (fun z=>(NY c z).2.2.1 x c e rfl) ho (I.rZ x c e)
 ·obtain⟨e,n,ne,nf,d⟩:=I.pin p hp;have nch:p.1∉ch:=fun z=>(NY p.1 z).2.2.2 p hp rfl;exact⟨keep p.1 p.2 ne nf nch e n,free p.1 p.2 nch e n,ne,nf,d⟩
theorem Inv.un(I:Inv X ae Z H s)(u:Un X.fs [] H H' s.heap h')(fW:vO X.prog X.w H' h'):Inv X ae Z H' {s with heap:=h',toks:=t'}:=by
 obtain⟨m,⟨o,es,ep,ho,r⟩,_⟩:=id I.loc;obtain⟨sl,hL⟩:=u.any ho I.free (by simp)
 exact I.step (g':=s.gens) (d':=s.drawn) (ch:=[]) (fun _ z=>nomatch z) (fun b o _ hb _ e n=>u.keep b o e n hb (by simp)) (fun b o _ hb _ e n=>u.slot b o e n hb (by simp)) (fun b o _ e n=>u.free b o e n (by simp)) (fun b o _ e=>u.there b o e (by simp)) u.yu u.xX u.yy (fun m' hm=>by
  obtain⟨o',es',ep',Jk,r'⟩:=hm;rw[ho]at Jk;cases Jk;exact⟨_,es',ep',hL,r'⟩) fW I.bare
theorem Inv.call(I:Inv X ae Z H s)(u:Un (mG X.stack) ch H H' s.heap h')(fW:vO X.prog X.w H' h')(hg:uE g')
 (NY:∀b∈ch,(b∈X.ex\/X.s₀.heap.objs.size<=b)/\b≠X.env.locals/\(∀x c,X.env.cells.lookup x=some c->c≠b)/\∀p∈X.pn++ae,p.1≠b):
 Inv X ae Z H' {s with heap:=h',gens:=g',drawn:=d',toks:=t'}:=by
 obtain⟨m,⟨o,es,ep,ho,r⟩,_⟩:=id I.loc;obtain⟨sl,hL⟩:=u.any ho I.free fun z=>(NY _ z).2.1 rfl
 exact I.step (ch:=ch) NY (fun b o hL hb hc e n=>u.keep b o e n (fun z=>(a0.mp (I.C6 b z)).elim hL hb) hc) (fun b o _ _ hc e n=>u.any e n hc) (fun b o hc e n=>u.free b o e n hc) (fun b o hc e=>u.there b o e hc) u.yu u.xX u.yy (fun m' hm=>by
  obtain⟨o',es',ep',Jk,r'⟩:=hm;rw[ho]at Jk;cases Jk;exact⟨_,es',ep',hL,r'⟩) fW hg
theorem Inv.turned(I:Inv X ae Z H s)(k:∀b o,b≠it->s.heap.get? b=some o->h'.get? b=some o)(hn:H it=none)(hL:it≠X.env.locals)
 (h1:it∈X.ex\/X.s₀.heap.objs.size<=it) (h2:∀x c,X.env.cells.lookup x=some c->c≠it) (h3:∀p∈X.pn++ae,p.1≠it):Inv X ae Z H {s with heap:=h',toks:=t'}:=by
 have nit:∀b u,H b=some u->b≠it:=fun b u e z=>by rw[z,hn]at e;cases e
 refine I.step (g':=s.gens) (d':=s.drawn) (ch:=[it]) (fun b hb=> ?_) (fun b o _ _ hc e _=>k b o (fun z=>hc (by simp[z])) e) (fun b o _ _ hc e _=>⟨o.slots,k b o (fun z=>hc (by simp[z])) e⟩) (fun _ _ _ _ n=>n)
  (fun b o hc e=>⟨o,k b o (fun z=>hc (by simp[z])) e⟩) (fun _ _ e=>e) (fun _ _ _ e=>e) (fun b ps e=>⟨#[],by rw[e];simp⟩) (fun m hm=> ?_) (fun b u e=> ?_) I.bare
 ·have e:b=it:=by simpa using hb
  subst e;exact⟨h1,hL,h2,h3⟩
 ·obtain⟨o,es,ep,ho,r⟩:=hm;exact⟨o,es,ep,k _ o (aD hL) ho,r⟩
 ·refine(I.fW b u e).J1 (fun c v hc q=>k c v ?_ q) (fun _ q=>q) fun _ _ q=>q;obtain z|z:=hc
  ·rw[z];exact nit b u e
  ·exact nit c _ z
theorem Inv.tok(I:Inv X ae Z H s)(t:Nat):Inv X ae Z H {s with toks:=t}:=I.un (h':=s.heap) (t':=t) Un.refl I.fW
theorem Inv.kept(I:Inv X ae Z H s)(k:∀b u,s.heap.get? b=some u->h'.get? b=some u):Inv X ae Z H {s with heap:=h',toks:=t'}:=I.un (Un.kept k) (I.fW.kept k)
theorem Inv.laid{a:ao}{o:HO}{t':Nat}(I:Inv X ae Z H s)(k:∀b u,s.heap.get? b=some u->h'.get? b=some u)(hp:s.heap.objs.size<=a)(new:iw X.prog X.w (upd H a o) h' a o):
 Inv X ae Z (upd H a o) {s with heap:=h',toks:=t'}:=I.un (Un.laid k hp (I.fW.fresh hp)) (I.fW.laid k hp new)
theorem Inv.write(I:Inv X ae Z H s)(mu:Mut (H x))(he:e=x\/H e=some (.own x))(k:∀b u,b≠e->s.heap.get? b=some u->h'.get? b=some u)(heo:∃u,h'.get? e=some u)
 (new:iw X.prog X.w (upd H x o) h' x o):Inv X ae Z (upd H x o) {s with heap:=h',toks:=t'}:=I.un (Un.write mu he k heo) (I.fW.write mu he k heo new)
theorem Inv.weak{Z':List (Option V)}(I:Inv X ae Z H s)(hl:Z'.length=Z.length)(w:∀(i:Nat) v,Z'[i]? =some (some v)->Z[i]? =some (some v)):Inv X ae Z' H s:=
 ⟨I.ok,I.os,I.bare,I.base,let ⟨m,hn,hl'⟩:=I.loc;⟨m,hn,fun i x v e1 e2 e3=>hl' i x v e1 (w i v e2) e3⟩,I.cell,I.free,I.rZ,I.pin,I.fW,hl.trans I.len⟩
theorem Inv.Pd(I:Inv X ae Z H s)(h:∀p∈pins',s.heap.get? p.1=some p.2/\H p.1=none/\p.1≠X.env.locals/\p.1∉X.fs/\∀v,p.2.data≠.cell v):Inv X pins' Z H s:=
 ⟨I.ok,I.os,I.bare,I.base,I.loc,I.cell,I.free,I.rZ,fun p hp=>(dW.mp hp).elim (fun z=>I.pin p (xf _ z)) (h p),I.fW,I.len⟩
theorem DY{N:List Str}(hN:N.Nodup){i j:Nat}(a:N[i]? =some x)(b:N[j]? =some x):i=j:=by
 obtain⟨h1,e1⟩:=aw.mp a;obtain⟨h2,e2⟩:=aw.mp b;exact(List.getElem_inj hN).mp (e1.trans e2.symm)
theorem Gb(I:Inv X ae Z H s)(hN:X.N.Nodup)(hi:X.N[i]? =some x)(hx:Loc X.env.scope x)(r:RelV v u)
 (h:∀s',Inv X ae (Z.set i (some v)) H s'->(∃a,gO a s.heap s'.heap/\(a=X.env.locals\/X.env.cells.lookup x=some a))->Q () s') (hf:X.fn x=true\/X.env.scope.names.lookup x=some .local:=by walk_at"au"):a7 M A (agE X.env x u) Q E s:=by
 obtain⟨m,hn,hl⟩:=id I.loc;have ajL:(X.env.scope.kind==.class||(X.env.scope.kind==.module&&X.env.locals != X.env.globals))=false:=by rw[I.ok.kind];rfl
 have hiσ:i<Z.length:=by rw[I.len];exact(aw.mp hi).1
 have cne:=I.cne
 have tracked:∀{a:ao} {h':dg},(∃o,s.heap.get? a=some o/\H a=none)->gO a s.heap h'->vO X.prog X.w H h':=fun{a h'} ha hs b ob e=>by
  obtain⟨_,_,Bn⟩:=ha;refine(I.fW b ob e).J1 (fun c w' hc q=>(hs.2 c ?_).trans q) (fun _ q=>q) fun _ _ q=>q;rintro rfl;obtain rfl|hc:=hc
  ·rw[Bn]at e;cases e
  ·rw[Bn]at hc;cases hc
 obtain hk|hk:=hx
 ·refine wpAny_storeName_local hk hn (fun h' NU hs=> ?_) ajL;obtain⟨oL,_,_,hoL,_⟩:=id hn;refine h _ ⟨I.ok,I.os,I.bare,⟨fun b o e n hb hx=> ?_,fun b o e n hb hx=> ?_,I.base.free,fun b o e hx=> ?_,I.base.yu,I.base.xX,I.base.yy⟩,⟨_,NU,fun j y v' e1 e2 e3=> ?_⟩,fun y c e=> ?_,I.free,I.rZ,fun p hp=> ?_,tracked ⟨oL,hoL,I.free⟩ hs,by simpa using I.len⟩ ⟨_,hs,.inl rfl⟩
  ·exact(hs.2 b (dN (bP (bz e) I.ok.above))).trans (I.base.keep b o e n hb hx)
  ·obtain⟨sl,e1⟩:=I.base.slot b o e n hb hx;exact⟨sl,(hs.2 b (dN (bP (bz e) I.ok.above))).trans e1⟩
  ·obtain⟨o',e1⟩:=I.base.there b o e hx;exact⟨o',(hs.2 b (dN (bP (bz e) I.ok.above))).trans e1⟩
  ·by_cases hj:j=i
   ·subst hj;rw[hi]at e1;cases e1;rw[uD hiσ]at e2
    cases e2
    exact⟨u,r,.inl ⟨hk,by simp⟩⟩
   ·rw[xb (aD hj)]at e2;obtain⟨u',r',q⟩:=hl j y v' e1 e2 e3;exists u',r';obtain⟨k,e⟩|⟨k,c,e,z⟩:=q
    ·refine .inl ⟨k,?_⟩;have:y≠x:=fun e=>hj (DY hN e1 (e▸hi));simp[this,e]
    ·exact .inr ⟨k,c,e,z.sameBut hs (cne y c e)⟩
  ·obtain⟨w',z⟩:=I.cell y c e;exact⟨w',z.sameBut hs (cne y c e)⟩
  ·obtain⟨e,n,ne,nf,d⟩:=I.pin p hp;exact⟨(hs.2 p.1 ne).trans e,n,ne,nf,d⟩
 ·have hfn:X.fn x=true:=by
   obtain z|z:=hf
   ·exact z
   ·rw[z]at hk;cases hk
  obtain⟨c,hc⟩:=I.ok.has x (.inl hk);obtain⟨w',z⟩:=I.cell x c hc;refine wpAny_storeName_cell I.ok.kind hk hc z (fun h' hc' hs=> ?_);obtain⟨oc,hoc,ajm⟩:=id z;refine h {s with heap:=h'} ⟨I.ok,I.os,I.bare,⟨fun b o e n hb hx=> ?_,fun b o e n hb hx=> ?_,I.base.free,fun b o e hx=> ?_,I.base.yu,I.base.xX,I.base.yy⟩,⟨m,hn.sameBut hs (aD (cne x c hc)),fun j y v' e1 e2 e3=> ?_⟩,fun y c' e=> ?_,I.free,I.rZ,fun p hp=> ?_,tracked ⟨oc,hoc,I.rZ x c hc⟩ hs,by simpa using I.len⟩ ⟨c,hs,.inr hc⟩
  ·exact(hs.2 b (dN (bP (bz e) (I.ok.cab x c hfn hc)))).trans (I.base.keep b o e n hb hx)
  ·obtain⟨sl,e1⟩:=I.base.slot b o e n hb hx;exact⟨sl,(hs.2 b (dN (bP (bz e) (I.ok.cab x c hfn hc)))).trans e1⟩
  ·obtain⟨o',e1⟩:=I.base.there b o e hx;exact⟨o',(hs.2 b (dN (bP (bz e) (I.ok.cab x c hfn hc)))).trans e1⟩
  ·by_cases hj:j=i
   ·subst hj;rw[hi]at e1;cases e1;rw[uD hiσ]at e2
    cases e2
    exact⟨u,r,.inr ⟨.inl hk,c,hc,hc'⟩⟩
   ·rw[xb (aD hj)]at e2;obtain⟨u',r',q⟩:=hl j y v' e1 e2 e3;exists u',r';obtain q|⟨k,c',e,z'⟩:=q
    ·exact .inl q
    ·refine .inr ⟨k,c',e,z'.sameBut hs ?_⟩;rintro rfl;exact hj (DY hN e1 (I.ok.inj _ _ _ e hc▸hi))
  ·by_cases Td:c'=c
   ·subst Td;exact⟨_,hc'⟩
   ·obtain⟨w2,z2⟩:=I.cell y c' e;exact⟨w2,z2.sameBut hs Td⟩
  ·obtain⟨e,n,ne,nf,d⟩:=I.pin p hp;refine⟨(hs.2 p.1 ?_).trans e,n,ne,nf,d⟩;intro q;rw[q,hoc]at e;have q':oc=p.2:=bo e;exact d w' (by rw[<-q'];exact ajm)
theorem C0(I:Inv X ae Z H s)(hN:X.N.Nodup)(hi:X.N[i]? =some x)(hx:Loc X.env.scope x)(r:RelV v u)
 (h:∀s',Inv X ae (Z.set i (some v)) H s'->Q () s') (hf:X.fn x=true\/X.env.scope.names.lookup x=some .local:=by walk_at"au"):a7 M A (agE X.env x u) Q E s:=
 Gb I hN hi hx r (fun s' I' _=>h s' I') hf
theorem Inv.GH{s':az}(I:Inv X ae Z H s)(ho:s'.os=s.os)(u:Un (mG X.stack) ch H H' s.heap s'.heap)(fW:vO X.prog X.w H' s'.heap)(hg:uE s'.gens)
 (NY:∀b∈ch,(b∈X.ex\/X.s₀.heap.objs.size<=b)/\b≠X.env.locals/\(∀x c,X.env.cells.lookup x=some c->c≠b)/\∀p∈X.pn++ae,p.1≠b):Inv X ae Z H' s':=by
 obtain⟨h',g',d',t',o'⟩:=s';have e:o'=s.os:=ho;subst e;exact I.call (g':=g') (t':=t') (d':=d') u fW hg NY
end
abbrev XK:=ax->Option ao->Hp->Prop
abbrev St:=List (Option V)
abbrev VK:=V->Hp->Prop
abbrev TE:=St->Hp->VK->Prop
abbrev TT:=St->Hp->(Bool->Hp->Prop)->Prop
abbrev TA:=St->Hp->(List V->Hp->Prop)->Prop
structure Ends where
 nx:St->Hp->Prop
 rt:VK
 bk:St->Hp->Prop:=fun _ _=>False
 ct:St->Hp->Prop:=fun _ _=>False
abbrev TS:=Ends->St->Hp->Prop
inductive EP(X:Cx)(ae:List (ao×Obj))(Z:St)(Q:VK)(u:ax)(s':az):Prop
 |mk (v:V) (H':Hp) (_:Inv X ae Z H' s') (_:RelV v u) (_:Q v H')
inductive TP(X:Cx)(ae:List (ao×Obj))(Z:St)(Q:Bool->Hp->Prop)(b:Bool)(s':az):Prop
 |mk (H':Hp) (_:Inv X ae Z H' s') (_:Q b H')
inductive AP(X:Cx)(ae:List (ao×Obj))(Z:St)(Q:List V->Hp->Prop)(us:List ax)(s':az):Prop
 |mk (vs:List V) (H':Hp) (_:Inv X ae Z H' s') (_:cZ vs us) (_:Q vs H')
inductive NP(X:Cx)(ae:List (ao×Obj))(k:St->Hp->Prop)(s':az):Prop
 |mk (Z':St) (H':Hp) (_:Inv X ae Z' H' s') (_:k Z' H')
def SP(X:Cx)(ae:List (ao×Obj))(D:Ends)(f:Flow)(s':az):Prop:=
 match f with
 | .next=>NP X ae D.nx s'
 | .brk=>NP X ae D.bk s'
 | .cont=>NP X ae D.ct s'
 | .ret u=>∃v Z' H',Inv X ae Z' H' s'/\RelV v u/\D.rt v H'
def PE(X:Cx)(e:dQ)(t:TE):Prop:=
 ∀(ae:List (ao×Obj)) (s:az) (Z:St) (H:Hp) (Q:VK),Inv X ae Z H s->t Z H Q->a7 (bf X.prog X.w) X.A (eval e X.env) (EP X ae Z Q) X.xe s
def PT(X:Cx)(e:dQ)(t:TT):Prop:=
 ∀(ae:List (ao×Obj)) (s:az) (Z:St) (H:Hp) (Q:Bool->Hp->Prop),Inv X ae Z H s->t Z H Q->a7 (bf X.prog X.w) X.A (isTrue e X.env (eval e X.env)) (TP X ae Z Q) X.xe s
def PW(X:Cx)(e:dQ)(t:TT):Prop:=
 ∀(whole:Sem ax) (ae:List (ao×Obj)) (s:az) (Z:St) (H:Hp) (Q:Bool->Hp->Prop),Inv X ae Z H s->t Z H Q->a7 (bf X.prog X.w) X.A (isTrue e X.env whole) (TP X ae Z Q) X.xe s
theorem PW.pt(h:PW X e t):PT X e t:=h _
def PA(X:Cx)(es:List dQ)(t:TA):Prop:=
 ∀(pos:Pos) (ae:List (ao×Obj)) (s:az) (Z:St) (H:Hp) (Q:List V->Hp->Prop),Inv X ae Z H s->t Z H Q->a7 (bf X.prog X.w) X.A (spliced (jE pos (bN es X.env))) (AP X ae Z Q) X.xe s
def PS(X:Cx)(st:zI)(t:TS):Prop:=
 ∀(ae:List (ao×Obj)) (s:az) (Z:St) (H:Hp) (D:Ends),Inv X ae Z H s->t D Z H->a7 (bf X.prog X.w) X.A (exec st X.env) (SP X ae D) X.xe s
def Mr(X:Cx)(st:List zI)(t:TS):Prop:=
 ∀(ae:List (ao×Obj)) (s:az) (Z:St) (H:Hp) (D:Ends),Inv X ae Z H s->t D Z H->a7 (bf X.prog X.w) X.A (execs st X.env) (SP X ae D) X.xe s
theorem ui{α:Type}{t:Sem α}{Q Q':α->az->Prop}{M:TF}{A:cN}{E:ax->az->Prop}{s:az}(h:a7 M A t Q E s)(hQ:∀a s,Q a s->Q' a s):a7 M A t Q' E s:=dZ h hQ fun _ _ x=>x
theorem mW{t:Sem ax}{Q:VK}{Q':ax->az->Prop}{X:Cx}{ae:List (ao×Obj)}{Z:St}{M:TF}{A:cN}{E:ax->az->Prop}{s:az}(h:a7 M A t (EP X ae Z Q) E s)(k:∀u s' v H',Inv X ae Z H' s'->RelV v u->Q v H'->Q' u s'):a7 M A t Q' E s:=ui h fun u s' ⟨v,H',a,b,c⟩=>k u s' v H' a b c
theorem thA{t:Sem (List ax)}{Q:List V->Hp->Prop}{Q':List ax->az->Prop}{X:Cx}{ae:List (ao×Obj)}{Z:St}{M:TF}{A:cN}{E:ax->az->Prop}{s:az}(h:a7 M A t (AP X ae Z Q) E s)(k:∀u s' v H',Inv X ae Z H' s'->cZ v u->Q v H'->Q' u s'):a7 M A t Q' E s:=ui h fun u s' ⟨v,H',a,b,c⟩=>k u s' v H' a b c
theorem thT{t:Sem Bool}{Q:Bool->Hp->Prop}{Q':Bool->az->Prop}{X:Cx}{ae:List (ao×Obj)}{Z:St}{M:TF}{A:cN}{E:ax->az->Prop}{s:az}(h:a7 M A t (TP X ae Z Q) E s)(k:∀u s' H',Inv X ae Z H' s'->Q u H'->Q' u s'):a7 M A t Q' E s:=ui h fun u s' ⟨H',a,c⟩=>k u s' H' a c
end
section
section
variable{X:Cx}
def abP(i:Nat):TE:=fun Z H Q=>∃v,Z[i]? =some (some v)/\Q v H
def tC(v:V):TE:=fun _ H Q=>Q v H
theorem xF{i:Nat}{x:Str}{pos:Pos}(hN:X.N[i]? =some x)(hv:Vis X.env.scope x)(hd:(x==("__debug__":Str))=false:=by decide)(RW:(x==("__classdict__":Str))=false:=by decide):PE X (.Name x pos) (abP i):=by
 intro ae s Z H Q I h;obtain⟨v,e,h⟩:=h;obtain⟨m,hn,hl⟩:=I.loc;obtain⟨u,r,l⟩:=hl i x v hN e hv;have fin:EP X ae Z Q u s:=⟨v,H,I,r,h⟩;obtain⟨hk,hm⟩|⟨hk,c,hc,PK⟩:=l
 ·exact adS (aaD I.ok.kind hk hn hm fin) hd
 ·obtain hk|hk:=hk
  ·exact adS (abz I.ok.kind hk hc PK fin) hd
  ·exact adS (wpAny_loadName_free I.ok.kind hk hc PK fin RW) hd
theorem aO{i j pos}:PE X (.Constant (.int i) j pos) (tC (.int i)):=fun _ _ _ H _ I h=>adR ⟨.int i,H,I.tok _,⟨_,rfl⟩,h⟩
theorem vg{b j pos}:PE X (.Constant (.bool b) j pos) (tC (.bl b)):=fun _ _ _ H _ I h=>Constant_bool ⟨.bl b,H,I,rfl,h⟩
theorem qY{j pos}:PE X (.Constant .none j pos) (tC .fI):=fun _ _ _ H _ I h=>Constant_none ⟨.fI,H,I,rfl,h⟩
theorem Ak{x j pos}:PE X (.Constant (.str x) j pos) (tC (.str x)):=fun _ _ _ H _ I h=>Calls.Constant_str ⟨.str x,H,I.tok _,⟨_,rfl⟩,h⟩
def Gl(X:Cx)(x:Str):Prop:=X.env.kindOf x=some .globalImplicit
theorem mD{E:ax->az->Prop}{ae:List (ao×Obj)}{s:az}{Z:St}{H:Hp}{x:Str}{u:ax}{pos:Pos}{Q:ax->az->Prop}(I:Inv X ae Z H s)(hg:Gl X x)(hm:X.mg x=some u)(h:Q u s)
 (hd:(x==("__debug__":Str))=false:=by decide):a7 (bf X.prog X.w) X.A (eval (.Name x pos) X.env) Q E s:=
 FU I.ok.kind hg (Calls.loadGlobal_global (by rw[I.ok.glob];exact I.mod.glob.keeps I.bk) hm h) hd
theorem tQ{E:ax->az->Prop}{ae:List (ao×Obj)}{s:az}{Z:St}{H:Hp}{x:Str}{u:ax}{pos:Pos}{Q:ax->az->Prop}(I:Inv X ae Z H s)(hg:Gl X x)(hm:X.mg x=none)(hv:oM x=some u)(h:Q u s)
 (hn:x≠"__name__":=by decide) (hd:(x==("__debug__":Str))=false:=by decide):a7 (bf X.prog X.w) X.A (eval (.Name x pos) X.env) Q E s:=by
 obtain⟨mb,h1,h2⟩:=I.mod.blt;exact FU I.ok.kind hg (Calls.loadGlobal_builtin (by rw[I.ok.glob];exact I.mod.glob.keeps I.bk) hm (by rw[I.ok.blt];exact h1.keeps I.bk) ((h2 x hn).trans hv) h) hd
theorem Pg(hg:Gl X x)(hm:X.mg x=some u)(r:RelV v u)(hd:(x==("__debug__":Str))=false:=by decide):PE X (.Name x pos) (tC v):=
 fun _ _ _ H _ I h=>mD I hg hm ⟨v,H,I,r,h⟩ hd
variable{a b:dQ}{ta tb:TE}{pos:Pos}
def PC(X:Cx)(op:CmpOp)(a b:dQ)(t:TE):Prop:=
 ∀(ae:List (ao×Obj)) (s:az) (Z:St) (H:Hp) (Q:VK),Inv X ae Z H s->t Z H Q->
  a7 (bf X.prog X.w) X.A (eval a X.env) (fun v s₁=>a7 (bf X.prog X.w) X.A (eval b X.env) (fun u s₂=>a7 (bf X.prog X.w) X.A (bZ op v u) (EP X ae Z Q) X.xe s₂) X.xe s₁) X.xe s
theorem VM(b:dQ)(h:op≠.In)(h2:op≠.NotIn):jD op b=false:=by
 have e1:(op==aaC)=false:=by cases op<;>first|rfl|exact absurd rfl h
 have e2:(op==OE)=false:=by cases op<;>first|rfl|exact absurd rfl h2
 cases b<;>first|rfl|(show (_&&(op==aaC||op==OE)&&_)=false;rw[e1,e2,Ju,aby,GR])
def tB(t:TE):TT:=fun Z H Q=>t Z H fun x H1=>∃c,x= .bl c/\Q c H1
theorem Aj(h:PC X op a b t)(h1:jD op b=false:=by walk_at"au"):PT X (.Compare a [op] [b] pos) (tB t):=by
 intro ae s Z H Q I hw;refine Yp (ui (h ae s Z H _ I hw) fun v s1 h1=>ui h1 fun u s2 h2=>ui h2 fun c s3 zq=> ?_) h1;obtain⟨x,H1,I1,r1,q1⟩:=zq;obtain⟨d,rfl,q⟩:=q1
 cases r1
 exact fZ ⟨H1,I1,q⟩
theorem iY{e:dQ}(h:PE X e t)(he:∀whole,isTrue e X.env whole=(do let v<-whole;Bs e.pos;uC [v] (truthy v)):=by intro _;rfl):PT X e (tB t):=by
 intro ae s Z H Q I hw;refine isTrue_plain (mW (h ae s Z H _ I hw) fun v s1 x H1 I1 r1 q1=> ?_) (he _);obtain⟨d,rfl,q⟩:=q1
 cases r1
 exact fZ ⟨H1,I1,q⟩
variable{tA tB':TT}{rest:List dQ}
def ae0(t u:TT):TT:=fun Z H Q=>t Z H fun c H1=>if c=true then u Z H1 Q else Q false H1
def tOr(t u:TT):TT:=fun Z H Q=>t Z H fun c H1=>if c=true then Q true H1 else u Z H1 Q
def aeU(t:TT):TT:=fun Z H Q=>t Z H fun c H1=>Q (!c) H1
theorem my(ha:PT X a tA):PW X (.BoolOp .And [a] pos) tA:=by
 intro wh ae s Z H Q I h;refine isTrue_and (ui (ha ae s Z H Q I h) fun c s1 e=> ?_)
 cases c with
 |true=>exact isTrue_and_nil e
 |false=>exact e
theorem xE(ha:PT X a tA):PW X (.BoolOp .Or [a] pos) tA:=by
 intro wh ae s Z H Q I h;refine isTrue_or (ui (ha ae s Z H Q I h) fun c s1 e=> ?_)
 cases c with
 |false=>exact isTrue_or_nil e
 |true=>exact e
theorem pJ(ha:PT X a tA)(hb:PW X (.BoolOp .And (b::rest) pos) tB'):PW X (.BoolOp .And (a::b::rest) pos) (ae0 tA tB'):=by
 intro wh ae s Z H Q I h;refine isTrue_and (thT (ha ae s Z H _ I h) fun c s1 H1 I1 q1=> ?_)
 cases c with
 |true=>exact hb wh ae s1 Z H1 Q I1 q1
 |false=>exact⟨H1,I1,q1⟩
theorem DF(ha:PT X a tA)(hb:PW X (.BoolOp .Or (b::rest) pos) tB'):PW X (.BoolOp .Or (a::b::rest) pos) (tOr tA tB'):=by
 intro wh ae s Z H Q I h;refine isTrue_or (thT (ha ae s Z H _ I h) fun c s1 H1 I1 q1=> ?_)
 cases c with
 |true=>exact⟨H1,I1,q1⟩
 |false=>exact hb wh ae s1 Z H1 Q I1 q1
theorem ab7(ha:PT X a tA):PT X (.UnaryOp .Not a pos) (aeU tA):=by
 intro ae s Z H Q I h;exact isTrue_not (thT (ha ae s Z H (fun c H1=>Q (!c) H1) I h) fun _ _ H' I' q=>⟨H',I',q⟩)
def UG(ta tb:TE):TE:=fun Z H Q=>ta Z H fun x H1=>∃c,x= .bl c/\if c=true then tb Z H1 Q else Q (.bl false) H1
def abR(ta tb:TE):TE:=fun Z H Q=>ta Z H fun x H1=>∃c,x= .bl c/\if c=true then Q (.bl true) H1 else tb Z H1 Q
def Uu(ta:TE):TE:=fun Z H Q=>ta Z H fun x H1=>∃c,x= .bl c/\Q (.bl (!c)) H1
theorem DL{op}(h:PE X a t):PE X (.BoolOp op [a] pos) t:=fun ae s Z H Q I hw=>BoolOp_one (h ae s Z H Q I hw)
theorem Al(ha:PE X a ta)(hb:PE X (.BoolOp .And (b::rest) pos) tb):PE X (.BoolOp .And (a::b::rest) pos) (UG ta tb):=by
 intro ae s Z H Q I h;refine BoolOp_and (mW (ha ae s Z H _ I h) fun v s1 x H1 I1 r1 q1=> ?_);obtain⟨c,rfl,q1⟩:=q1
 cases r1
 refine fZ ?_
 cases c with
 |true=>exact hb ae s1 Z H1 Q I1 q1
 |false=>exact⟨.bl false,H1,I1,rfl,q1⟩
theorem Vk(ha:PE X a ta)(hb:PE X (.BoolOp .Or (b::rest) pos) tb):PE X (.BoolOp .Or (a::b::rest) pos) (abR ta tb):=by
 intro ae s Z H Q I h;refine BoolOp_or (mW (ha ae s Z H _ I h) fun v s1 x H1 I1 r1 q1=> ?_);obtain⟨c,rfl,q1⟩:=q1
 cases r1
 refine fZ ?_
 cases c with
 |false=>exact hb ae s1 Z H1 Q I1 q1
 |true=>exact⟨.bl true,H1,I1,rfl,q1⟩
theorem Ng(ha:PE X a ta):PE X (.UnaryOp .Not a pos) (Uu ta):=by
 intro ae s Z H Q I h;refine UnaryOp_ (mW (ha ae s Z H _ I h) fun v s1 x H1 I1 r1 q1=> ?_);obtain⟨c,rfl,q1⟩:=q1
 cases r1
 exact not_of (fZ ⟨.bl (!c),H1,I1,rfl,q1⟩)
def tIf(t:TT)(ta tb:TE):TE:=fun Z H Q=>t Z H fun c H1=>if c=true then ta Z H1 Q else tb Z H1 Q
theorem ll(hc:PT X c tA)(ha:PE X a ta)(hb:PE X b tb):PE X (.IfExp c a b pos) (tIf tA ta tb):=by
 intro ae s Z H Q I h;refine wpAny_IfExp (thT (hc ae s Z H _ I h) fun d s1 H1 I1 q1=> ?_)
 cases d with
 |true=>exact ha ae s1 Z H1 Q I1 q1
 |false=>exact hb ae s1 Z H1 Q I1 q1
end
end
section
def kE(K:aA)(H:Hp)(a:ao)(xs:List V):Prop:=
 Rd H a (.lst xs)\/
  ∃(o:Obj) (cV:Array ax) (n:Nat),K.lookup a=some o/\o.cls= .type "list"/\o.dict=none/\o.data= .seq cV n/\cV.size<=sizeLine/\cZ xs cV.toList
def l6(K:aA)(H:Hp)(a:ao)(xs:List V):Prop:=
 Rd H a (.tup xs)\/
  ∃(o:Obj) (cV:Array ax) (n:Nat),K.lookup a=some o/\o.cls= .type "tuple"/\o.data= .seq cV n/\cV.size<=sizeLine/\cZ xs cV.toList
def aj8:ax->Option V
 | .none=>some .fI
 | .bool b=>some (.bl b)
 | .int i _=>some (.int i)
 | .str x _=>some (.str x)
 | .bytes b _=>some (.TB b)
 | .float b _=>some (.flt b)
 | .ref a=>some (.ref a)
 | .type n=>some (.ty n)
 |_=>none
theorem RelV.abs(r:RelV x u):aj8 u=some x:=by
 cases x with
 |fI=>cases r;rfl
 |bl _=>cases r;rfl
 |int _=>obtain⟨t,rfl⟩:=r;rfl
 |str _=>obtain⟨t,rfl⟩:=r;rfl
 |TB _=>obtain⟨t,rfl⟩:=r;rfl
 |flt _=>obtain⟨t,rfl⟩:=r;rfl
 |ref _=>cases r;rfl
 |ty _=>cases r;rfl
theorem RelV.inj(r:RelV x u)(q:RelV y u):x=y:=bo (r.abs.symm.trans q.abs)
theorem cZ.inj:∀{xs ys:List V} {us:List ax},cZ xs us->cZ ys us->xs=ys:=by
 intro xs ys us a
 induction a generalizing ys with
 |nil=>intro b;cases b;rfl
 |cons r t ih=>
  intro b
  cases b with
  |cons r' t'=>rw[r.inj r',ih t']
section
variable{X:Cx}{ae:List (ao×Obj)}{Z:St}{H:Hp}{s:az}{a:ao}{xs ys:List V}
theorem kE.of{K:aA}(h:H a=some (.lst xs)):kE K H a xs:=.inl (.inl h)
theorem l6.of{K:aA}(h:H a=some (.tup xs)):l6 K H a xs:=.inl (.inl h)
theorem Inv.list(I:Inv X ae Z H s)(h:kE X.K H a xs):∃cV:List ax,cZ xs cV/\PlainL s.heap a cV.toArray/\xs.length<=sizeLine:=by
 obtain h|⟨o,cV,n,hk,hc,hd,hs,hz,r⟩:=h
 ·obtain⟨z,cV,n,r,e⟩:=h.ok I.fW;exact⟨cV,r,⟨_,n,e,rfl,rfl,rfl⟩,z⟩
 ·exists cV.toList,r,(⟨o,n,I.Ay a o hk,hc,hd,by simpa using hs⟩);have e:=r.length;simp only[eI]at e;lia
theorem Inv.tuple(I:Inv X ae Z H s)(h:l6 X.K H a xs):∃cV:List ax,cZ xs cV/\IsTup s.heap a cV.toArray/\xs.length<=sizeLine:=by
 obtain h|⟨o,cV,n,hk,hc,hs,hz,r⟩:=h
 ·obtain⟨z,cV,r,p⟩:=h.ok I.fW;exact⟨cV,r,p,z⟩
 ·exists cV.toList,r,(⟨o,I.Ay a o hk,hc,n,by simpa using hs⟩);have e:=r.length;simp only[eI]at e;lia
theorem Inv.KY(I:Inv X ae Z H s)(h:kE X.K H a xs)(h':kE X.K H a ys):xs=ys:=by
 obtain⟨cV,r,⟨o,n,e,_,_,d⟩,_⟩:=I.list h;obtain⟨its',r',⟨o',n',e',_,_,d'⟩,_⟩:=I.list h';rw[e]at e';cases e';rw[d]at d';injection d' with d1 _
 have:cV=its':=by simpa using congrArg Array.toList d1
 subst this;exact r.inj r'
end
abbrev Cx.sQ(X:Cx)(E:ax->az->Prop):Cx:={X with xe:=E}
abbrev Cx.HF(X:Cx):Cx:=X.sQ fun _ _=>False
theorem Cx.Ok.sQ{X:Cx}(ok:X.Ok)(E:ax->az->Prop):(X.sQ E).Ok:=
 ⟨ok.mod,ok.kind,ok.glob,ok.blt,ok.above,ok.inj,ok.has,ok.cab,ok.hd,ok.frames,ok.pA,ok.exf,ok.bs,ok.Yn,ok.Rm,ok.Sl,ok.xW,ok.frf⟩
theorem Cx.Ok.lJ{X:Cx}(ok:(X.sQ E).Ok):X.Ok:=
 ⟨ok.mod,ok.kind,ok.glob,ok.blt,ok.above,ok.inj,ok.has,ok.cab,ok.hd,ok.frames,ok.pA,ok.exf,ok.bs,ok.Yn,ok.Rm,ok.Sl,ok.xW,ok.frf⟩
section
variable{X:Cx}{ae:List (ao×Obj)}{Z:St}{H:Hp}{s:az}{E:ax->az->Prop}
theorem Inv.sQ(I:Inv X ae Z H s)(E:ax->az->Prop):Inv (X.sQ E) ae Z H s:=⟨I.ok.sQ E,I.os,I.bare,I.base,I.loc,I.cell,I.free,I.rZ,I.pin,I.fW,I.len⟩
theorem Inv.lJ(I:Inv (X.sQ E) ae Z H s):Inv X ae Z H s:=⟨I.ok.lJ,I.os,I.bare,I.base,I.loc,I.cell,I.free,I.rZ,I.pin,I.fW,I.len⟩
theorem SP.lJ(h:SP (X.sQ E) ae D f s'):SP X ae D f s':=by
 cases f with
 |next=>obtain⟨Z',H',I,q⟩:=h;exact⟨Z',H',I.lJ,q⟩
 |brk=>obtain⟨Z',H',I,q⟩:=h;exact⟨Z',H',I.lJ,q⟩
 |cont=>obtain⟨Z',H',I,q⟩:=h;exact⟨Z',H',I.lJ,q⟩
 |ret u=>obtain⟨v,Z',H',I,r,q⟩:=h;exact⟨v,Z',H',I.lJ,r,q⟩
theorem Mr.HF{st:List zI}{t:TS}(h:Mr X.HF st t):Mr X st t:=fun ae s Z H D I hw=>
 dZ (h ae s Z H D (I.sQ _) hw) (fun _ _ q=>q.lJ) fun _ _ z=>b7 z
end
section
variable{X:Cx}{st:zI}{rest:List zI}{t u:TS}{e:dQ}{te:TE}{pos:Pos}
def aaV:TS:=fun D Z H=>D.nx Z H
def aeS(t u:TS):TS:=fun D Z H=>t {D with nx:=u D} Z H
theorem bQ:Mr X [] aaV:=fun _ _ Z H _ I h=>m6 ⟨Z,H,I,h⟩
theorem ah(h1:PS X st t)(h2:Mr X rest u):Mr X (st::rest) (aeS t u):=by
 intro ae s Z H D I h;refine pX (ui (h1 ae s Z H {D with nx:=u D} I h) fun f s1 q=> ?_)
 cases f with
 |next=>
  obtain⟨Z',H',I',q⟩:=q;exact h2 ae s1 Z' H' D I' q
 |ret v=>exact q
 |brk=>exact q
 |cont=>exact q
theorem aj(h1:PS X st t):Mr X [st] t:=by
 intro ae s Z H D I h;refine pX (ui (h1 ae s Z H D I h) fun f s1 q=> ?_)
 cases f with
 |next=>exact m6 q
 |ret v=>exact q
 |brk=>exact q
 |cont=>exact q
theorem Inv.quiet{ae:List (ao×Obj)}{Z:St}{H:Hp}{s:az}(I:Inv X ae Z H s):interactive X.env=false:=by simp[interactive,I.ok.kind]
def Uw(te:TE):TS:=fun D Z H=>te Z H fun _ H1=>D.nx Z H1
theorem bx(he:PE X e te)(hs:pW e none pos.line X.env=pure false:=by rfl):PS X (.Expr e pos) (Uw te):=by
 intro ae s Z H D I h;exact akb (mW (he ae s Z H _ I h) fun v s1 x H1 I1 r1 q1=>⟨Z,H1,I1,q1⟩) I.quiet hs
def aeT(te:TE):TS:=fun D Z H=>te Z H D.rt
theorem a6(he:PE X e te):PS X (.Return (some e) pos) (aeT te):=by
 intro ae s Z H D I h;exact FT (mW (he ae s Z H _ I h) fun v s1 x H1 I1 r1 q1=>⟨x,Z,H1,I1,r1,q1⟩)
def aaU:TS:=fun D _ H=>D.rt .fI H
theorem vR:PS X (.Return none pos) aaU:=fun _ _ Z H _ I h=>wpAny_Return_none ⟨.fI,Z,H,I,rfl,h⟩
def aeZ(c:TT)(t u:TS):TS:=fun D Z H=>c Z H fun b H1=>if b=true then t D Z H1 else u D Z H1
theorem ck(hc:PT X c tc)(ha:Mr X a t)(hb:Mr X b u):PS X (.If c a b pos) (aeZ tc t u):=by
 intro ae s Z H D I h;refine wpAny_If (thT (hc ae s Z H _ I h) fun d s1 H1 I1 q1=> ?_)
 cases d with
 |true=>exact ha ae s1 Z H1 D I1 q1
 |false=>exact hb ae s1 Z H1 D I1 q1
end
abbrev TG:=V->St->Hp->(St->Hp->Prop)->Prop
abbrev TGs:=List V->St->Hp->(St->Hp->Prop)->Prop
def PG(X:Cx)(target:dQ)(t:TG):Prop:=
 ∀(ae:List (ao×Obj)) (s:az) (Z:St) (H:Hp) (v:V) (u:ax) (Q:St->Hp->Prop),Inv X ae Z H s->RelV v u->t v Z H Q->
  a7 (bf X.prog X.w) X.A (assign target X.env u) (fun _ s'=>NP X ae Q s') X.xe s
def PGs(X:Cx)(ts:List dQ)(t:TGs):Prop:=
 ∀(ae:List (ao×Obj)) (s:az) (Z:St) (H:Hp) (vs:List V) (us:List ax) (Q:St->Hp->Prop),Inv X ae Z H s->cZ vs us->t vs Z H Q->
  a7 (bf X.prog X.w) X.A (assignInOrder ((yc ts X.env).map (·.2)) us) (fun _ s'=>NP X ae Q s') X.xe s
abbrev agw:=V->V->V->Hp->(Hp->Prop)->Prop
def ag7(X:Cx)(t:agw):Prop:=
 ∀(ae:List (ao×Obj)) (s:az) (Z:St) (H:Hp) (o i v:V) (ov iv u:ax) (Q:Hp->Prop),Inv X ae Z H s->RelV o ov->RelV i iv->RelV v u->t o i v H Q->
  a7 (bf X.prog X.w) X.A (setItem ov iv u) (fun _ s'=>∃H',Inv X ae Z H' s'/\Q H') X.xe s
abbrev TIp:=V->V->Hp->VK->Prop
def PIp(X:Cx)(op:aaB)(t:TIp):Prop:=
 ∀(ae:List (ao×Obj)) (s:az) (Z:St) (H:Hp) (x y:V) (v u:ax) (Q:VK),Inv X ae Z H s->RelV x v->RelV y u->t x y H Q->
  a7 (bf X.prog X.w) X.A (agy op v u) (EP X ae Z Q) X.xe s
section
variable{X:Cx}{pos:Pos}
def w8(i:Nat):TG:=fun v Z H Q=>Q (Z.set i (some v)) H
theorem fk(hN:X.N.Nodup)(hi:X.N[i]? =some x)(hx:Loc X.env.scope x)(hf:X.fn x=true\/X.env.scope.names.lookup x=some .local:=by walk_at"au"):PG X (.Name x pos) (w8 i):=by
 intro ae s Z H v u Q I r h;exact aex (C0 I hN hi hx r (fun s' I'=>⟨_,H,I',h⟩) hf)
def agq:TGs:=fun vs Z H Q=>vs=[]/\Q Z H
def WS(t:TG)(u:TGs):TGs:=fun vs Z H Q=>∃v r,vs=v::r/\t v Z H fun Z' H'=>u r Z' H' Q
theorem Pf:PGs X [] agq:=by
 intro ae s Z H vs us Q I r h;obtain⟨e,h⟩:=h;subst e
 cases r
 exact assignInOrder_nil ⟨Z,H,I,h⟩
theorem yX(h1:PG X e t)(h2:PGs X es u)
 (hs:(yc (e::es) X.env).map (·.2)=assign e X.env::(yc es X.env).map (·.2):=by rfl):PGs X (e::es) (WS t u):=by
 intro ae s Z H vs us Q I r h;obtain⟨v,vr,e1,h⟩:=h;subst e1
 cases r with
 |cons r rr=>
  rw[hs];refine assignInOrder_cons (ui (h1 ae s Z H _ _ _ I r h) fun _ s1 zq=> ?_);obtain⟨Z1,H1,I1,q1⟩:=zq;exact h2 ae s1 Z1 H1 _ _ Q I1 rr q1
def agp(K:aA)(n:Nat)(t:TGs):TG:=fun v Z H Q=>∃a xs,v= .ref a/\l6 K H a xs/\xs.length=n/\t xs Z H Q
theorem Vj{es:List dQ}{k:Nat}{t:TGs}{n:Nat}(hc:X.calm=true)(h:PGs X es t)
 (hn:(yc es X.env).length=n:=by rfl) (nA:(yc es X.env).findIdx? (·.1)=none:=by rfl):PG X (.Tuple es k pos) (agp X.K n t):=by
 intro ae s Z H v u Q I r hw;rcases hw with⟨a,xs,e1,hq,hl,hw⟩;subst e1
 cases r
 rcases I.tuple hq with⟨cV,rv,ht,hz⟩;refine assign_Tuple_tuple (I.ok.hd hc) ht (by simp[hn,<-hl,rv.length]) nA fun h' hx=> ?_;have I1:Inv X ae Z H {s with heap:=h'}:=I.kept (t':=s.toks) fun b o e=>hx b o (dN (bz e)) e;exact h ae _ Z H xs _ Q I1 (by simpa using rv) hw
def ajZ(to ti:TE)(t:agw):TG:=fun v Z H Q=>to Z H fun o H1=>ti Z H1 fun i H2=>t o i v H2 fun H3=>Q Z H3
theorem DK(ho:PE X o to)(hi:PE X i ti)(hs:ag7 X t)
 (ha:∀v,assign (.Subscript o i pos) X.env v=(do
  let ov<-uC [v] (eval o X.env)
  let iv<-uC [v,ov] (eval i X.env)
  Bs pos
  uC [v,ov,iv] (setItem ov iv v)
  release [v,ov,iv] []):=by intro _;rfl):PG X (.Subscript o i pos) (ajZ to ti t):=by
 intro ae s Z H v u Q I r h;rw[ha];refine ay (fV (mW (ho ae s Z H _ I h) fun ov s1 x H1 I1 r1 q1=> ?_));refine ay (fV (mW (hi ae s1 Z H1 _ I1 q1) fun iv s2 y H2 I2 r2 q2=> ?_));refine ay (CC (ay (fV (ui (hs ae s2 Z H2 x y v ov iv u _ I2 r1 r2 r q2) fun _ s3 zq=> ?_))));obtain⟨H3,I3,q3⟩:=zq;exact wpAny_release ⟨Z,H3,I3,q3⟩
def UE(te:TE)(g:TG):TS:=fun D Z H=>te Z H fun x H1=>g x Z H1 D.nx
theorem DG(he:PE X e te)(hg:PG X tg g)(hs:swapsWithSole [tg] e pos.line X.env=pure false:=by rfl)(hw:swappedStores [tg] e X.env=pure none:=by rfl)
 (h1:(yc [tg] X.env).map (·.2)=[assign tg X.env]:=by rfl):PS X (.Assign [tg] e pos) (UE te g):=by
 intro ae s Z H D I h;refine wpAny_Assign_stores (mW (he ae s Z H _ I h) fun v s1 x H1 I1 r1 q1=> ?_) hs hw;rw[h1];exact ui (hg ae s1 Z H1 x v _ I1 r1 q1) fun _ s2 q=>q
theorem bh{i:Nat}{x:Str}{e:dQ}{te:TE}{pos':Pos}(hN:X.N.Nodup)(hi:X.N[i]? =some x)(hx:Loc X.env.scope x)(he:PE X e te)(hs:pW e (some (.Name x pos')) pos.line X.env=pure false:=by rfl)(hf:X.fn x=true\/X.env.scope.names.lookup x=some .local:=by walk_at"au"):
 PS X (.Assign [.Name x pos'] e pos) (UE te (w8 i)):=by
 intro ae s Z H D I h;refine wpAny_Assign_Name (mW (he ae s Z H _ I h) fun v s1 y H1 I1 r1 q1=> ?_) hs;exact C0 I1 hN hi hx r1 (fun s2 I2=>⟨_,H1,I2,q1⟩) hf
def ah9(i:Nat)(te:TE)(ti:TIp):TS:=fun D Z H=>∃x,Z[i]? =some (some x)/\te Z H fun y H1=>ti x y H1 fun z H2=>D.nx (Z.set i (some z)) H2
theorem gR{i:Nat}{x:Str}{e:dQ}{te:TE}{op:aaB}{ti:TIp}{pos':Pos}(hN:X.N.Nodup)(hi:X.N[i]? =some x)(hx:Loc X.env.scope x)(he:PE X e te)(ho:PIp X op ti)(hf:X.fn x=true\/X.env.scope.names.lookup x=some .local:=by walk_at"au"):
 PS X (.AugAssign (.Name x pos') op e pos) (ah9 i te ti):=by
 intro ae s Z H D I h;obtain⟨v,e1,h⟩:=h;obtain⟨m,hn,hl⟩:=I.loc;have vis:Vis X.env.scope x:=by obtain k|k:=hx;exact .inl k;exact .inr (.inl k)
 obtain⟨u,r,l⟩:=hl i x v hi e1 vis;refine wpAny_AugAssign_Name ?_
 have go:a7 (bf X.prog X.w) X.A (eval e X.env) (fun w s₂=>a7 (bf X.prog X.w) X.A (agy op u w) (fun r s₃=>a7 (bf X.prog X.w) X.A (agE X.env x r) (fun _=>SP X ae D .next) X.xe s₃) X.xe s₂) X.xe s:=by
  refine mW (he ae s Z H _ I h) fun w s1 y H1 I1 r1 q1=> ?_;refine mW (ho ae s1 Z H1 v y u w _ I1 r r1 q1) fun z s2 zv H2 I2 r2 q2=> ?_;exact C0 I2 hN hi hx r2 (fun s3 I3=>⟨_,H2,I3,q2⟩) hf
 obtain⟨hk,hm⟩|⟨hk,c,hc,PK⟩:=l
 ·exact aaD I.ok.kind hk hn hm go
 ·obtain hk|hk:=hk
  ·exact abz I.ok.kind hk hc PK go
  ·obtain k|k:=hx
   ·have:X.env.scope.names.lookup x=some .free:=hk;rw[k]at this;cases this
   ·have:X.env.scope.names.lookup x=some .free:=hk;rw[k]at this;cases this
def ipI(f:Int->Int->Int):TIp:=fun x y H Q=>∃i j,x= .int i/\y= .int j/\Q (.int (f i j)) H
theorem iG:PIp X .Add (ipI fun i j=>i+j):=by
 intro ae s Z H x y v u Q I r1 r2 h;obtain⟨i,j,e1,e2,q⟩:=h;subst e1;subst e2;obtain⟨t,rfl⟩:=r1;obtain⟨t',rfl⟩:=r2;exact iadd_int ⟨.int _,H,I.tok _,⟨_,rfl⟩,q⟩
theorem Ie:PIp X .Sub (ipI fun i j=>i- j):=by
 intro ae s Z H x y v u Q I r1 r2 h;obtain⟨i,j,e1,e2,q⟩:=h;subst e1;subst e2;obtain⟨t,rfl⟩:=r1;obtain⟨t',rfl⟩:=r2;exact isub_int ⟨.int _,H,I.tok _,⟨_,rfl⟩,q⟩
end
section
variable{X:Cx}{pos:Pos}
def abO(c:TT)(tb:TS):TS:=fun D Z H=>∃W:Nat->St->Hp->Prop,(∃m,W m Z H)/\∀m Z H,W m Z H->
 c Z H fun b H1=>if b=true then ∃N:St->Hp->Prop,(∀Z' H',N Z' H'->∃m',m'<m/\W m' Z' H')/\tb {D with nx:=N,ct:=N,bk:=D.nx} Z H1 else D.nx Z H1
theorem gx(hp:PassesOwn (bf X.prog X.w) X.A X.env X.xe)(hc:PT X c tc)(hb:Mr X body tb):PS X (.While c body [] pos) (abO tc tb):=by
 intro ae s Z H D I h;obtain⟨W,⟨m0,w0⟩,turn⟩:=h;refine wpAny_While (codeAny_whileLoop (fun n s'=>∃Z' H',Inv X ae Z' H' s'/\W n Z' H') ?_ m0 ⟨Z,H,I,w0⟩);rintro n s1 ⟨Z1,H1,I1,w1⟩;refine kP hp (thT (hc ae s1 Z1 H1 _ I1 (turn n Z1 H1 w1)) fun b s2 H2 I2 q2=> ?_)
 cases b with
 |true=>
  obtain⟨N,hN,q2⟩:=q2;rw[if_pos rfl];refine kP hp (ui (hb ae s2 Z1 H2 _ I2 q2) fun f s3 q3=> ?_)
  cases f with
  |next=>
   obtain⟨Z3,H3,I3,n3⟩:=q3;obtain⟨m',hm,w3⟩:=hN Z3 H3 n3;exact⟨m',hm,Z3,H3,I3,w3⟩
  |cont=>
   obtain⟨Z3,H3,I3,n3⟩:=q3;obtain⟨m',hm,w3⟩:=hN Z3 H3 n3;exact⟨m',hm,Z3,H3,I3,w3⟩
  |brk=>exact q3
  |ret v=>exact q3
 |false=>
  rw[if_neg a8];exact m6 ⟨Z1,H2,I2,q2⟩
end
structure It where
 go:Nat->Hp->Prop
 XN:Nat->Hp->V->Hp->Prop
 stop:Nat->Hp->Prop
def zR(X:Cx)(ae:List (ao×Obj))(H:Hp)(b:ao):Prop:=
 H b=none/\b≠X.env.locals/\b∉X.fs/\(b∈X.ex\/X.s₀.heap.objs.size<=b)/\(∀x c,X.env.cells.lookup x=some c->c≠b)/\∀p∈X.pn++ae,p.1≠b
theorem Inv.WT{X:Cx}{ae:List (ao×Obj)}{Z:St}{H H':Hp}{s:az}{b:ao}(I:Inv X ae Z H s)(hb:s.heap.objs.size<=b)(hn:H' b=none):zR X ae H' b:=by
 refine⟨hn,ag6 (bP I.lt hb),I.aiP hb,.inr (cj I.sz hb),fun x c e z=> ?_,fun p hp z=> ?_⟩
 ·obtain⟨v,q⟩:=I.cell x c e;exact absurd (bP q.lt (by rw[z];exact hb)) (fc _)
 ·exact absurd (bP (bz (I.pin p hp).1) (by rw[z];exact hb)) (fc _)
structure Turn(P:bD)(w:cP)(K:aA)(tg:dQ)(J:It)(fp:List ao)(it:ao)(tn:Nat->dg->Prop):Prop where
 mem:it∈fp
 obj:∀i h,tn i h->∀b∈fp,∃o,h.get? b=some o/\∀v,o.data≠.cell v
 keep:∀i h h',tn i h->(∀b∈fp,∀o,h.get? b=some o->h'.get? b=some o)->tn i h'
 item:∀(X:Cx),X.prog=P->X.w=w->X.K=K->X.calm=true->∀(i:Nat) (ae:List (ao×Obj)) (s:az) (Z:St) (H:Hp) (E:ax->az->Prop),Inv X ae Z H s->(∀b∈fp,zR X ae H b)->tn i s.heap->J.go i H->
  a7 (bf P w) X.A (ad6 (.ref it)) (fun r s1=>∃u,r=some u/\
   a7 (bf P w) X.A (yn tg (.ref it) u) (fun _ s2=>∃x H',Inv X ae Z H' s2/\RelV x u/\J.XN i H x H'/\tn (i+1) s2.heap/\∀b∈fp,H' b=none) E s1) E s
 done:∀(X:Cx),X.prog=P->X.w=w->X.K=K->X.calm=true->∀(i:Nat) (ae:List (ao×Obj)) (s:az) (Z:St) (H:Hp) (E:ax->az->Prop),Inv X ae Z H s->(∀b∈fp,zR X ae H b)->tn i s.heap->J.stop i H->
  a7 (bf P w) X.A (ad6 (.ref it)) (fun r s1=>r=none/\Inv X ae Z H s1) E s
 self:∀(A:cN) (i:Nat) (s:az) (Q:ax->az->Prop) (E:ax->az->Prop),tn i s.heap->Q (.ref it) s->a7 (bf P w) A (ad5 (.ref it)) Q E s
abbrev TI:=St->Hp->(It->Hp->Prop)->Prop
inductive PIE(X:Cx)(ae:List (ao×Obj))(Z:St)(tg:dQ)(R:It->Hp->Prop)(itv:ax)(s2:az):Prop
 |mk (it:ao) (fp:List ao) (tn:Nat->dg->Prop) (J:It) (H':Hp) (_:itv= .ref it) (_:Inv X ae Z H' s2) (_:Turn X.prog X.w X.K tg J fp it tn) (_:tn 0 s2.heap) (_:∀b∈fp,zR X ae H' b) (_:R J H')
def PI(X:Cx)(tg iter:dQ)(wi:TI):Prop:=
 ∀(ae:List (ao×Obj)) (s:az) (Z:St) (H:Hp) (R:It->Hp->Prop),Inv X ae Z H s->wi Z H R->
  a7 (bf X.prog X.w) X.A (eval iter X.env) (fun v s1=>a7 (bf X.prog X.w) X.A (ad5 v) (PIE X ae Z tg R) X.xe s1) X.xe s
theorem PV{s:az}{o:Obj}(ho:s.heap.get? it=some o)(hc:o.cls= .type n)(hd:o.data= .fields vs)
 (hn:["enumerate","zip","dict_itemiterator","dict_reverseitemiterator","odict_iterator","itertools.zip_longest","itertools.pairwise"].contains n=false) (hQ:Q () s):a7 M A (yn tg (.ref it) u) Q E s:=by
 unfold yn
 cases tg<;>first
  |exact aU hQ
  |(cases u<;>first
   |exact aU hQ
   |(refine ay (wpAny_load ho ?_)
     rw[hc,hd];show a7 M A (if (["enumerate","zip","dict_itemiterator","dict_reverseitemiterator","odict_iterator","itertools.zip_longest","itertools.pairwise"].contains n&&vs[0]? ==some (OK _))=true then _ else _) Q E s;rw[if_neg (by intro h;rw[hn,GR]at h;cases h)];exact aU hQ))
def Qy(K:aA)(a:ao):It:=
 ⟨fun i H=>∃xs x,kE K H a xs/\xs[i]? =some x,fun i H x H'=>H'=H/\∀xs,kE K H a xs->xs[i]? =some x,fun i H=>∃xs,kE K H a xs/\xs.length<=i⟩
def Itr(lo:Int)(n:Nat):It:=⟨fun i _=>i<n,fun i H x H'=>H'=H/\x= .int (lo+i),fun i _=>n<=i⟩
theorem QF{P:bD}{w:cP}{K:aA}{tg:dQ}(a it:ao):Turn P w K tg (Qy K a) [it] it (fun i h=>h.IsListIter it a i) where
 mem:=by simp
 obj:=fun i h st b hb=>by
  have e:b=it:=by simpa using hb
  subst e;rcases st with⟨o,e,c,d⟩;exact⟨o,e,fun v z=>by rw[d]at z;cases z⟩
 keep:=fun i h h' st k=>st.at fun o e=>k it (by simp) o e
 item:=by
  intro X hP hw hK hc i ae s Z H E I hf st hg;subst hP hw hK;rcases hg with⟨xs,x,hq,hx⟩;rcases I.list hq with⟨cV,rv,p,hz⟩;rcases rv.get hx with⟨u,hu,ru⟩;rcases hf it (by simp)with⟨f0,f1,f2,f3,f4,f5⟩;refine wpAny_pyNext_list_item st p.isList (x:=u) (by simpa using hu) fun h' UI sb=> ?_;have I1:Inv X ae Z H {s with heap:=h'}:=I.turned (t':=s.toks) (fun b o hb e=>(sb.2 b hb).trans e) f0 f1 f3 f4 f5;rcases id UI with⟨o,e,c,d⟩;exact⟨u,rfl,PV (s:={s with heap:=h'}) e c d (by decide) ⟨x,H,I1,ru,⟨rfl,fun ys hy=>by rw[I.KY hy hq];exact hx⟩,UI,fun b hb=>(hf b hb).1⟩⟩
 done:=by
  intro X hP hw hK hc i ae s Z H E I hf st hg;subst hP hw hK;rcases hg with⟨xs,hq,hx⟩;rcases I.list hq with⟨cV,rv,p,hz⟩;rcases hf it (by simp)with⟨f0,f1,f2,f3,f4,f5⟩;have hl:=rv.length;exact wpAny_pyNext_list_end (I.ok.hd hc) st p.isList (by simp;lia) fun h' eb=>⟨rfl,I.turned (t':=s.toks) (fun b o hb e=>eb b o hb e) f0 f1 f3 f4 f5⟩
 self:=fun _ _ _ _ _ st h=>wpAny_pyIter_listiter st h
theorem MA{P:bD}{w:cP}{K:aA}{tg:dQ}(it:ao)(lo:Int)(n:Nat):Turn P w K tg (Itr lo n) [it] it (fun i h=>IsRangeIter h it (lo+(i:Nat)*1) ((n:Int)- (i:Nat)) 1) where
 mem:=by simp
 obj:=fun i h st b hb=>by
  have e:b=it:=by simpa using hb
  subst e
  exact⟨_,st,fun v z=>by
   have z':Data.fields _=Data.cell v:=z
   cases z'⟩
 keep:=fun i h h' st k=>k it (by simp) _ st
 item:=by
  intro X hP hw hK hc i ae s Z H E I hf st hg;subst hP hw hK;obtain⟨f0,f1,f2,f3,f4,f5⟩:=hf it (by simp);have W:=Walks.range (prog:=X.prog) (w:=X.w) (I.ok.hd hc) it lo 1 n;refine W.item i s _ _ hg st fun v h' tk hv UI kk=> ?_;obtain⟨t,rfl⟩:=hv;have I1:Inv X ae Z H {s with heap:=h',toks:=tk}:=I.turned (fun b o hb e=>kk b o (by simpa using hb) e) f0 f1 f3 f4 f5;refine⟨_,rfl,PV (s:={s with heap:=h',toks:=tk}) (n:="range_iterator") UI rfl rfl (by decide) ⟨.int (lo+i),H,I1,⟨t,?_⟩,⟨rfl,rfl⟩,UI,fun b hb=>(hf b hb).1⟩⟩;rw[Int.mul_one]
 done:=by
  intro X hP hw hK hc i ae s Z H E I hf st hg;subst hP hw hK;obtain⟨f0,f1,f2,f3,f4,f5⟩:=hf it (by simp);exact wpAny_pyNext_range_end (I.ok.hd hc) st (by have:n<=i:=hg;lia) fun h' eb=>⟨rfl,I.turned (t':=s.toks) (fun b o hb e=>eb b o hb e) f0 f1 f3 f4 f5⟩
 self:=fun _ _ _ _ _ st h=>wpAny_pyIter_rangeiter st h
end
section
section
variable{X:Cx}{tg:dQ}
def V8(K:aA)(tl:TE):TI:=fun Z H R=>tl Z H fun x H1=>∃a,x= .ref a/\(∃xs,kE K H1 a xs)/\R (Qy K a) H1
theorem jA(hl:PE X l tl):PI X tg l (V8 X.K tl):=by
 intro ae s Z H R I h;refine mW (hl ae s Z H _ I h) fun v s1 x H1 I1 r1 q1=> ?_;obtain⟨a,e,⟨xs,hq⟩,q⟩:=q1;subst e
 cases r1
 obtain⟨cV,rv,p,hz⟩:=I1.list hq;refine wpAny_pyIter_list p.isList ?_;refine⟨s1.heap.objs.size,[s1.heap.objs.size],_,_,H1,rfl,I1.kept (t':=s1.toks) fun b o e=>a5 _ e,QF a _,⟨_,b9 _ rfl,rfl,rfl⟩,fun b hb=> ?_,q⟩;have e:b=s1.heap.objs.size:=by simpa using hb
 subst e;exact I1.WT (aE _) (I1.fW.fresh (aE _))
theorem UY{ae:List (ao×Obj)}{Z:St}{H:Hp}{s:az}{R:It->Hp->Prop}{E:ax->az->Prop}{lo hi:Int}{t u v:Tok}{tk:Nat}(I:Inv X ae Z H s)(h1: -(2^62)<=lo)(h2:lo<2^62)(h3: -(2^62)<=hi)(h4:hi<2^62)
 (q:R (Itr lo (hi- lo).toNat) H):a7 (bf X.prog X.w) X.A (ad5 (.ref s.heap.objs.size)) (PIE X ae Z tg R) E {s with heap:=s.heap.push {cls:=.type "range",data:=.fields #[.int lo t,.int hi u,.int 1 v]},toks:=tk}:=by
 refine wpAny_pyIter_range (L1 ..) (small_one h1 h2 h3 h4) ?_;have I1:Inv X ae Z H {s with heap:=s.heap.push {cls:=.type "range",data:=.fields #[.int lo t,.int hi u,.int 1 v]},toks:=tk}:=I.kept fun b o e=>a5 _ e
 refine⟨(s.heap.push {cls:=.type "range",data:=.fields #[.int lo t,.int hi u,.int 1 v]}).objs.size,[(s.heap.push {cls:=.type "range",data:=.fields #[.int lo t,.int hi u,.int 1 v]}).objs.size],_,_,H,rfl,
  I1.kept (t':=tk) fun b o e=>a5 _ e,MA _ lo (hi- lo).toNat,?_,fun b hb=> ?_,q⟩
 ·have e1:lo+((0:Nat):Int)*1=lo:=by simp
  have e2:(((hi- lo).toNat:Nat):Int)- ((0:Nat):Int)=Bz lo hi 1:=by rw[ak2];split<;>lia
  show IsRangeIter _ _ (lo+((0:Nat):Int)*1) ((((hi- lo).toNat:Nat):Int)- ((0:Nat):Int)) 1;rw[e1,e2];exact b9 _ rfl
 ·have e:b=(s.heap.push {cls:=.type "range",data:=.fields #[.int lo t,.int hi u,.int 1 v]}).objs.size:=by simpa using hb
  subst e;exact I1.WT (aE _) (I1.fW.fresh (aE _))
def afH(ta:TA):TI:=fun Z H R=>ta Z H fun vs H1=>∃j:Int,vs=[.int j]/\ -(2^62)<=j/\j<2^62/\R (Itr 0 j.toNat) H1
theorem Q1(hg:Gl X "range")(hm:X.mg "range"=none)(ha:PA X [a] ta)(hs:bN [a] X.env=[(false,eval a X.env)]:=by rfl):PI X tg (.Call (.Name "range" p) [a] [] pos) (afH ta):=by
 intro ae s Z H R I h;refine Call_ (tQ I hg hm ad4 (dO (thA (ha pos ae s Z H _ I h) fun us s1 vs H1 I1 r1 q1=> ?_) hs rfl));obtain⟨j,e,q1,q2,q⟩:=q1;subst e
 cases r1 with
 |cons r rr=>
  cases rr
  obtain⟨t,rfl⟩:=r;exact call_range_1 (UY I1 (by lia) (by lia) q1 q2 (by simpa using q))
def YK(wi:TI)(g:TG)(tb:TS):TS:=fun D Z H=>wi Z H fun J H1=>∃W:Nat->Nat->St->Hp->Prop,(∃m,W 0 m Z H1)/\∀i m Z H,W i m Z H->
 (J.stop i H/\D.nx Z H)\/(J.go i H/\∃N:St->Hp->Prop,(∀Z' H',N Z' H'->∃m',m'<m/\W (i+1) m' Z' H')/\∀x H',J.XN i H x H'->g x Z H' fun Z2 H2=>tb {D with nx:=N,ct:=N,bk:=D.nx} Z2 H2)
def DJ(fp:List ao)(h:dg):List (ao×Obj):=fp.filterMap fun b=>(h.get? b).map fun o=>(b,o)
theorem xM{h:dg}(hb:b∈fp)(e:h.get? b=some o):(b,o)∈DJ fp h:=qQ.mpr ⟨b,hb,by rw[e];rfl⟩
theorem Rl{h:dg}{p:ao×Obj}(hp:p∈DJ fp h):p.1∈fp/\h.get? p.1=some p.2:=by
 obtain⟨b,hb,e⟩:=qQ.mp hp
 cases q:h.get? b with
 |none=>rw[q]at e;cases e
 |some o=>
  rw[q]at e;have e':(b,o)=p:=bo e;subst e';exact⟨hb,q⟩
theorem Inv.pinned{ae:List (ao×Obj)}{Z:St}{H:Hp}{s:az}{fp:List ao}(I:Inv X ae Z H s)(hf:∀b∈fp,zR X ae H b)(ho:∀b∈fp,∃o,s.heap.get? b=some o/\∀v,o.data≠.cell v):Inv X (ae++DJ fp s.heap) Z H s:=
 I.Pd fun p hp=>(dW.mp hp).elim (fun z=>I.pin p (eW _ z)) fun z=>by
  obtain⟨hb,e⟩:=Rl z;obtain⟨f0,f1,f2,_⟩:=hf p.1 hb;obtain⟨o,e',d⟩:=ho p.1 hb;rw[e]at e';cases e';exact⟨e,f0,f1,f2,d⟩
theorem Inv.yr{ae pl:List (ao×Obj)}{Z:St}{H:Hp}{s:az}(I:Inv X (ae++pl) Z H s):Inv X ae Z H s:=I.Pd fun p hp=>I.pin p (eW _ (xf _ hp))
theorem oE(hp:PassesOwn (bf X.prog X.w) X.A X.env X.xe)(hc:X.calm=true)(hi:PI X tg iter wi)(hg:PG X tg g)(hb:Mr X body tb)
 (hs:∀x,foldedSetIterable iter X.env x=pure x:=by intro _;rfl):PS X (.For tg iter body [] pos) (YK wi g tb):=by
 intro ae s Z H D I h;refine wpAny_For (ui (hi ae s Z H _ I h) fun v s1 h1=>ui h1 fun itv s2 h2=> ?_) hs;rcases h2 with⟨it,fp,tn,J,H2,e,I2,T,st2,f2,W,⟨m0,w0⟩,turn⟩;subst e;have MT:∀{H':Hp},(∀b∈fp,H' b=none)->∀b∈fp,zR X ae H' b:=fun hn b hb=>⟨hn b hb,(f2 b hb).2⟩;refine codeAny_forLoop_any (fun n s'=>∃i Z' H',Inv X ae Z' H' s'/\tn i s'.heap/\(∀b∈fp,H' b=none)/\W i n Z' H') ?_ m0 ⟨0,Z,H2,I2,st2,fun b hb=>(f2 b hb).1,w0⟩;rintro n s3 ⟨i,Z3,H3,I3,st3,fr3,w3⟩;obtain⟨stop,qn⟩|⟨go,N,hN,step⟩:=turn i n Z3 H3 w3
 ·refine kP hp (ui (T.done X rfl rfl rfl hc i ae s3 Z3 H3 X.xe I3 (MT fr3) st3 stop) fun r s4 ⟨hr,I4⟩=> ?_);subst hr;exact m6 ⟨Z3,H3,I4,qn⟩
 ·refine kP hp (ui (T.item X rfl rfl rfl hc i ae s3 Z3 H3 X.xe I3 (MT fr3) st3 go) fun r s4 zq=> ?_);rcases zq with⟨u,hr,h4⟩;subst hr;refine kP hp (ui h4 fun _ s5 zq=> ?_);rcases zq with⟨x,H5,I5,r5,y5,st5,fr5⟩;have I5':=I5.pinned (MT fr5) (T.obj _ _ st5);refine kP hp (ui (hg _ s5 Z3 H5 x u _ I5' r5 (step x H5 y5)) fun _ s6 zq=> ?_);rcases zq with⟨Z6,H6,I6,q6⟩;refine kP hp (ui (hb _ s6 Z6 H6 _ I6 q6) fun f s7 q7=> ?_)
  have again:∀{Z7:St} {H7:Hp},Inv X (ae++DJ fp s5.heap) Z7 H7 s7->N Z7 H7->∃m,m<n/\∃i Z' H',Inv X ae Z' H' s7/\tn i s7.heap/\(∀b∈fp,H' b=none)/\W i m Z' H':=fun{Z7 H7} I7 n7=>by
   rcases hN Z7 H7 n7 with⟨m',hm,w7⟩;refine⟨m',hm,i+1,Z7,H7,I7.yr,T.keep _ _ _ st5 fun b hb o e=>(I7.pin (b,o) (eW _ (eW _ (xM hb e)))).1,fun b hb=> ?_,w7⟩;rcases T.obj _ _ st5 b hb with⟨o,e,d⟩;exact(I7.pin (b,o) (eW _ (eW _ (xM hb e)))).2.1
  cases f with
  |next=>obtain⟨Z7,H7,I7,n7⟩:=q7;exact again I7 n7
  |cont=>obtain⟨Z7,H7,I7,n7⟩:=q7;exact again I7 n7
  |brk=>obtain⟨Z7,H7,I7,q7⟩:=q7;exact⟨Z7,H7,I7.yr,q7⟩
  |ret v=>obtain⟨x7,Z7,H7,I7,r7,q7⟩:=q7;exact⟨x7,Z7,H7,I7.yr,r7,q7⟩
end
theorem WU{K:aA}{a:ao}{xs:List V}{g:TG}{tb:TS}{D:Ends}{Z:St}{H:Hp}(Pv:Nat->St->Hp->Prop)(h0:Pv 0 Z H)(hl:∀i Z H,i<=xs.length->Pv i Z H->kE K H a xs)
 (hs:∀i x Z H,xs[i]? =some x->Pv i Z H->g x Z H fun Z2 H2=>tb {D with nx:=Pv (i+1),ct:=Pv (i+1),bk:=D.nx} Z2 H2) (hd:∀Z H,Pv xs.length Z H->D.nx Z H):
 ∃W:Nat->Nat->St->Hp->Prop,(∃m,W 0 m Z H)/\∀i m Z H,W i m Z H->
  ((Qy K a).stop i H/\D.nx Z H)\/((Qy K a).go i H/\∃N:St->Hp->Prop,(∀Z' H',N Z' H'->∃m',m'<m/\W (i+1) m' Z' H')/\∀x H',(Qy K a).XN i H x H'->g x Z H' fun Z2 H2=>tb {D with nx:=N,ct:=N,bk:=D.nx} Z2 H2):=by
 exists fun i m Z H=>m=xs.length- i/\i<=xs.length/\Pv i Z H,(⟨xs.length,by simp,aC _,h0⟩);rintro i m Z H ⟨rfl,hi,p⟩;have q:=hl i Z H hi p
 by_cases iB:i<xs.length
 ·refine .inr ⟨⟨xs,xs[i],q,by simp[iB]⟩,Pv (i+1),fun Z' H' p'=>⟨xs.length- (i+1),by omega,rfl,iB,p'⟩,fun x H' y=> ?_⟩;obtain⟨e,y⟩:=y;subst e;exact hs i x Z _ (y xs q) p
 ·have e:i=xs.length:=by lia
  subst e;exact .inl ⟨⟨xs,q,aE _⟩,hd Z H p⟩
end
section
abbrev R2:=V->V->Hp->VK->Prop
def j9(X:Cx)(f:ax->ax->Sem ax)(r:R2):Prop:=
 ∀(ae:List (ao×Obj)) (s:az) (Z:St) (H:Hp) (x y:V) (v u:ax) (Q:VK),Inv X ae Z H s->RelV x v->RelV y u->r x y H Q->
  a7 (bf X.prog X.w) X.A (f v u) (EP X ae Z Q) X.xe s
def Xq(X:Cx)(f:ax->Sem ax)(r:V->Hp->VK->Prop):Prop:=
 ∀(ae:List (ao×Obj)) (s:az) (Z:St) (H:Hp) (x:V) (v:ax) (Q:VK),Inv X ae Z H s->RelV x v->r x H Q->
  a7 (bf X.prog X.w) X.A (f v) (EP X ae Z Q) X.xe s
def qe(X:Cx)(f:ax)(r:List V->Hp->VK->Prop):Prop:=
 ∀(ae:List (ao×Obj)) (s:az) (Z:St) (H:Hp) (xs:List V) (us:List ax) (Q:VK),Inv X ae Z H s->cZ xs us->r xs H Q->
  a7 (bf X.prog X.w) X.A (call f us) (EP X ae Z Q) X.xe s
def tOp(r:R2)(ta tb:TE):TE:=fun Z H Q=>ta Z H fun x H1=>tb Z H1 fun y H2=>r x y H2 Q
def tUn(r:V->Hp->VK->Prop)(ta:TE):TE:=fun Z H Q=>ta Z H fun x H1=>r x H1 Q
def rI(C:Int->Int->Prop)(g:Int->Int->V):R2:=fun x y H Q=>∃i j,x= .int i/\y= .int j/\C i j/\Q (g i j) H
def QZ(g:Int->Int->V):R2:=fun x y H Q=>∃i j,x= .int i/\y= .int j/\Q (g i j) H
def rU(g:Int->V):V->Hp->VK->Prop:=fun x H Q=>∃i,x= .int i/\Q (g i) H
section
variable{X:Cx}{a b c:dQ}{ta tb tc:TE}{pos:Pos}
theorem adN(ha:PE X a ta)(hb:PE X b tb){ae:List (ao×Obj)}{s:az}{Z:St}{H:Hp}{R:V->V->Hp->Prop}(I:Inv X ae Z H s)
 (h:ta Z H fun x H1=>tb Z H1 fun y H2=>R x y H2) {Q:ax->az->Prop} {f:ax->ax->Sem ax}
 (hf:∀v u s2 x y H2,Inv X ae Z H2 s2->RelV x v->RelV y u->R x y H2->a7 (bf X.prog X.w) X.A (f v u) Q X.xe s2):
 a7 (bf X.prog X.w) X.A (eval a X.env) (fun v s₁=>a7 (bf X.prog X.w) X.A (eval b X.env) (fun u s₂=>a7 (bf X.prog X.w) X.A (f v u) Q X.xe s₂) X.xe s₁) X.xe s:=by
 refine mW (ha ae s Z H _ I h) fun v s1 x H1 I1 r1 q1=> ?_;refine mW (hb ae s1 Z H1 _ I1 q1) fun u s2 y H2 I2 r2 q2=> ?_;exact hf v u s2 x y H2 I2 r1 r2 q2
theorem cu(ho:j9 X (iM op) r)(ha:PE X a ta)(hb:PE X b tb):PE X (.BinOp a op b pos) (tOp r ta tb):=by
 intro ae s Z H Q I h;exact wpAny_BinOp (adN ha hb I h fun v u s2 x y H2 I2 rx ry q=>ho ae s2 Z H2 x y v u Q I2 rx ry q)
theorem pK(ho:Xq X (XG op) r)(ha:PE X a ta):PE X (.UnaryOp op a pos) (tUn r ta):=by
 intro ae s Z H Q I h;exact UnaryOp_ (mW (ha ae s Z H _ I h) fun v s1 x H1 I1 r1 q1=>ho ae s1 Z H1 x v Q I1 r1 q1)
theorem opI{f:ax->ax->Sem ax}{C:Int->Int->Prop}{g:Int->Int->Int}
 (rule:∀(i j:Int) (t u:Tok) (s:az) (Q:ax->az->Prop) (E:ax->az->Prop),C i j->Q (.int (g i j) s.toks) {s with toks:=s.toks+1}->a7 (bf X.prog X.w) X.A (f (.int i t) (.int j u)) Q E s):
 j9 X f (rI C fun i j=>.int (g i j)):=by
 intro ae s Z H x y v u Q I rx ry h;obtain⟨i,j,rfl,rfl,hc,q⟩:=h;obtain⟨t,rfl⟩:=rx;obtain⟨t',rfl⟩:=ry;exact rule i j t t' s _ _ hc ⟨.int (g i j),H,I.tok _,⟨_,rfl⟩,q⟩
theorem Vw{f:ax->ax->Sem ax}{g:Int->Int->Int}
 (rule:∀(i j:Int) (t u:Tok) (s:az) (Q:ax->az->Prop) (E:ax->az->Prop),Q (.int (g i j) s.toks) {s with toks:=s.toks+1}->a7 (bf X.prog X.w) X.A (f (.int i t) (.int j u)) Q E s):
 j9 X f (QZ fun i j=>.int (g i j)):=by
 intro ae s Z H x y v u Q I rx ry h;obtain⟨i,j,rfl,rfl,q⟩:=h;obtain⟨t,rfl⟩:=rx;obtain⟨t',rfl⟩:=ry;exact rule i j t t' s _ _ ⟨.int (g i j),H,I.tok _,⟨_,rfl⟩,q⟩
theorem Zk{f:ax->ax->Sem ax}{g:Int->Int->Bool}
 (rule:∀(i j:Int) (t u:Tok) (s:az) (Q:ax->az->Prop) (E:ax->az->Prop),Q (.bool (g i j)) s->a7 (bf X.prog X.w) X.A (f (.int i t) (.int j u)) Q E s):
 j9 X f (QZ fun i j=>.bl (g i j)):=by
 intro ae s Z H x y v u Q I rx ry h;obtain⟨i,j,rfl,rfl,q⟩:=h;obtain⟨t,rfl⟩:=rx;obtain⟨t',rfl⟩:=ry;exact rule i j t t' s _ _ ⟨.bl (g i j),H,I,rfl,q⟩
def aha(i j:Int):Prop:=0<=j/\j<=1000000/\i.natAbs<2^64
def aaS(i j:Int):Prop:=(-(2^64)<i/\i<2^64)\/(-(2^64)<j/\j<2^64)
theorem aaS.ok(h:aaS i j):IntMulOk i j:=by
 obtain⟨h1,h2⟩|⟨h1,h2⟩:=h
 ·exact .of_left (ak1 h1 h2)
 ·exact .of_right (ak1 h1 h2)
theorem Mz(k:Nat):(0:Int)<=2^k:=by
 rw[two_pow_cast];exact XF _
theorem dz:j9 X (iM .Add) (QZ fun i j=>.int (i+j)):=Vw fun _ _ _ _ _ _ _ q=>add_int q
theorem iF:j9 X (iM .Sub) (QZ fun i j=>.int (i- j)):=Vw fun _ _ _ _ _ _ _ q=>sub_int q
theorem Am:j9 X (iM .Mult) (rI aaS fun i j=>.int (i*j)):=opI fun _ _ _ _ _ _ _ hc q=>mul_int q hc.ok
theorem Vs:j9 X (iM .Mod) (rI (fun _ j=>0<j) fun i j=>.int (i%j)):=opI fun i j _ _ _ _ _ hc q=>by
 have h1:(0:Int)<j:=hc;exact mod_int' (by lia) (by rw[Int.fmod_eq_emod_of_nonneg i (by lia)];exact q)
theorem acg:j9 X (iM .LShift) (rI aha fun i j=>.int (i*2^j.toNat)):=opI fun _ _ _ _ _ _ _ hc q=>lshift_int_small hc.1 hc.2.1 hc.2.2 q
theorem acf:j9 X (iM .RShift) (rI (fun _ j=>0<=j) fun i j=>.int (i/2^j.toNat)):=opI fun i j _ _ _ _ _ hc q=>
 rshift_int hc (by rw[Jd i (Mz _)];exact q)
theorem Nl:j9 X (iM .BitAnd) (QZ fun i j=>.int (eQ i j)):=Vw fun _ _ _ _ _ _ _ q=>and_int q
theorem afv:j9 X (iM .BitOr) (QZ fun i j=>.int (nO i j)):=Vw fun _ _ _ _ _ _ _ q=>or_int q
theorem ace:j9 X (iM .BitXor) (QZ fun i j=>.int (mT i j)):=Vw fun _ _ _ _ _ _ _ q=>xor_int q
theorem unI{f:ax->Sem ax}{g:Int->Int}
 (rule:∀(i:Int) (t:Tok) (s:az) (Q:ax->az->Prop) (E:ax->az->Prop),Q (.int (g i) s.toks) {s with toks:=s.toks+1}->a7 (bf X.prog X.w) X.A (f (.int i t)) Q E s):
 Xq X f (rU fun i=>.int (g i)):=by
 intro ae s Z H x v Q I rx h;obtain⟨i,rfl,q⟩:=h;obtain⟨t,rfl⟩:=rx;exact rule i t s _ _ ⟨.int (g i),H,I.tok _,⟨_,rfl⟩,q⟩
theorem kX:Xq X (XG .USub) (rU fun i=>.int (-i)):=unI fun _ _ _ _ _ q=>neg_int q
theorem Mw:Xq X (XG .Invert) (rU fun i=>.int (en i)):=unI fun _ _ _ _ _ q=>invert_int q
end
def ae3:V->V->Bool
 | .fI,.fI=>true| .fI,.int _=>true| .int _,.fI=>true| .fI,.bl _=>true| .bl _,.fI=>true| .fI,.str _=>true| .str _,.fI=>true
 | .int _,.int _=>true| .bl _,.bl _=>true| .str _,.str _=>true| .TB _,.TB _=>true
 | .int _,.str _=>true| .str _,.int _=>true| .bl _,.str _=>true| .str _,.bl _=>true
 |_,_=>false
def rEq:R2:=fun x y H Q=>ae3 x y=true/\Q (.bl (decide (x=y))) H
def rNe:R2:=fun x y H Q=>ae3 x y=true/\Q (.bl (!decide (x=y))) H
theorem Qb:decide (V.int i=V.int j)=(i==j):=by
 rw[mj];simp
theorem Xf:decide (V.bl i=V.bl j)=(i==j):=by
 rw[mj];simp
theorem Qa:decide (V.str i=V.str j)=(i==j):=by
 rw[mj];simp
theorem Qc{i j:Array UInt8}:decide (V.TB i=V.TB j)=(i.toList==j.toList):=by
 rw[mj]
 cases i
 cases j
 simp
section
variable{X:Cx}{a b c:dQ}{ta tb tc:TE}{pos:Pos}
theorem eM{ae:List (ao×Obj)}{Z:St}{H:Hp}{s:az}{Q:VK}{k k':Bool}(I:Inv X ae Z H s)(q:Q (.bl k) H)(e:k=k'):EP X ae Z Q (.bool k') s:=by
 subst e;exact⟨.bl k,H,I,rfl,q⟩
theorem d9:j9 X (bZ .Eq) rEq:=by
 intro ae s Z H x y v u Q I rx ry h;obtain⟨hs,q⟩:=h
 cases x with
 |fI=>
  cases rx
  cases y with
  |fI=>cases ry;exact ah5 (eM I q (by simp))
  |bl j=>cases ry;exact ah4 (eM I q (by simp))
  |int j=>obtain⟨t',rfl⟩:=ry;exact ah3 (eM I q (by simp))
  |str j=>obtain⟨t',rfl⟩:=ry;exact ah2 (eM I q (by simp))
  |_=>exact absurd (show false=true from hs) a8
 |bl i=>
  cases rx
  cases y with
  |fI=>cases ry;exact ah1 (eM I q (by simp))
  |bl j=>cases ry;exact eq_bool (eM I q Xf)
  |str j=>obtain⟨t',rfl⟩:=ry;exact ag5 (eM I q (by simp))
  |_=>exact absurd (show false=true from hs) a8
 |int i=>
  obtain⟨t,rfl⟩:=rx
  cases y with
  |fI=>cases ry;exact ah0 (eM I q (by simp))
  |int j=>obtain⟨t',rfl⟩:=ry;exact eq_int (eM I q Qb)
  |str j=>obtain⟨t',rfl⟩:=ry;exact ag4 (eM I q (by simp))
  |_=>exact absurd (show false=true from hs) a8
 |str i=>
  obtain⟨t,rfl⟩:=rx
  cases y with
  |fI=>cases ry;exact ahZ (eM I q (by simp))
  |bl j=>cases ry;exact ag3 (eM I q (by simp))
  |int j=>obtain⟨t',rfl⟩:=ry;exact ag2 (eM I q (by simp))
  |str j=>obtain⟨t',rfl⟩:=ry;exact eq_str (eM I q Qa)
  |_=>exact absurd (show false=true from hs) a8
 |TB i=>
  obtain⟨t,rfl⟩:=rx
  cases y with
  |TB j=>obtain⟨t',rfl⟩:=ry;exact PySem.W.eq_bytes (eM I q Qc)
  |_=>exact absurd (show false=true from hs) a8
 |_=>cases y<;>exact absurd (show false=true from hs) a8
theorem rN:j9 X (bZ .NotEq) rNe:=by
 intro ae s Z H x y v u Q I rx ry h;obtain⟨hs,q⟩:=h
 cases x with
 |fI=>
  cases rx
  cases y with
  |fI=>cases ry;exact ahY (eM I q (by simp))
  |bl j=>cases ry;exact ahX (eM I q (by simp))
  |int j=>obtain⟨t',rfl⟩:=ry;exact ahW (eM I q (by simp))
  |str j=>obtain⟨t',rfl⟩:=ry;exact ahV (eM I q (by simp))
  |_=>exact absurd (show false=true from hs) a8
 |bl i=>
  cases rx
  cases y with
  |fI=>cases ry;exact ahU (eM I q (by simp))
  |bl j=>cases ry;exact ne_bool (eM I q (congrArg not Xf))
  |str j=>obtain⟨t',rfl⟩:=ry;exact ag1 (eM I q (by simp))
  |_=>exact absurd (show false=true from hs) a8
 |int i=>
  obtain⟨t,rfl⟩:=rx
  cases y with
  |fI=>cases ry;exact ahT (eM I q (by simp))
  |int j=>obtain⟨t',rfl⟩:=ry;exact ne_int (eM I q (congrArg not Qb))
  |str j=>obtain⟨t',rfl⟩:=ry;exact ag0 (eM I q (by simp))
  |_=>exact absurd (show false=true from hs) a8
 |str i=>
  obtain⟨t,rfl⟩:=rx
  cases y with
  |fI=>cases ry;exact ahS (eM I q (by simp))
  |bl j=>cases ry;exact agZ (eM I q (by simp))
  |int j=>obtain⟨t',rfl⟩:=ry;exact agY (eM I q (by simp))
  |str j=>obtain⟨t',rfl⟩:=ry;exact ne_str (eM I q (congrArg not Qa))
  |_=>exact absurd (show false=true from hs) a8
 |TB i=>
  obtain⟨t,rfl⟩:=rx
  cases y with
  |TB j=>obtain⟨t',rfl⟩:=ry;exact PySem.W.ne_bytes (eM I q (congrArg not Qc))
  |_=>exact absurd (show false=true from hs) a8
 |_=>cases y<;>exact absurd (show false=true from hs) a8
theorem ki:j9 X (bZ .Lt) (QZ fun i j=>.bl (decide (i<j))):=Zk fun _ _ _ _ _ _ _ q=>lt_int q
theorem y0:j9 X (bZ .LtE) (QZ fun i j=>.bl (decide (i<=j))):=Zk fun _ _ _ _ _ _ _ q=>le_int q
theorem qy:j9 X (bZ .Gt) (QZ fun i j=>.bl (decide (j<i))):=Zk fun _ _ _ _ _ _ _ q=>gt_int q
theorem Kv:j9 X (bZ .GtE) (QZ fun i j=>.bl (decide (j<=i))):=Zk fun _ _ _ _ _ _ _ q=>ge_int q
theorem xG:j9 X (bZ .Is) (fun x y H Q=>y= .fI/\Q (.bl (decide (x= .fI))) H):=by
 intro ae s Z H x y v u Q I rx ry h;obtain⟨rfl,q⟩:=h
 cases ry
 refine is_none_gen (eM I q ?_)
 cases x<;>first
  |(cases rx;rfl)
  |(obtain⟨t,rfl⟩:=rx;rfl)
theorem Zj:j9 X (bZ .IsNot) (fun x y H Q=>y= .fI/\Q (.bl (!decide (x= .fI))) H):=by
 intro ae s Z H x y v u Q I rx ry h;obtain⟨rfl,q⟩:=h
 cases ry
 refine isnot_none_gen (eM I q ?_)
 cases x<;>first
  |(cases rx;rfl)
  |(obtain⟨t,rfl⟩:=rx;rfl)
theorem acw(b:dQ)(h:op≠.In:=by decide)(h2:op≠.NotIn:=by decide):jD op b=false:=by
 have e1:(op==aaC)=false:=by cases op<;>first|rfl|exact absurd rfl h
 have e2:(op==OE)=false:=by cases op<;>first|rfl|exact absurd rfl h2
 cases b<;>simp[jD,e1,e2]
theorem f7(ho:j9 X (bZ op) r)(ha:PE X a ta)(hb:PE X b tb)(hm:jD op b=false):PE X (.Compare a [op] [b] pos) (tOp r ta tb):=by
 intro ae s Z H Q I h;exact wpAny_Compare1 (adN ha hb I h fun v u s2 x y H2 I2 rx ry q=>ho ae s2 Z H2 x y v u Q I2 rx ry q) hm
def Ur(t:TE):TT:=fun Z H Q=>t Z H fun x H'=>∃k,x= .bl k/\Q k H'
theorem aR(ho:j9 X (bZ op) r)(ha:PE X a ta)(hb:PE X b tb)(hm:jD op b=false):PT X (.Compare a [op] [b] pos) (Ur (tOp r ta tb)):=by
 intro ae s Z H Q I h
 refine Yp (mW (ha ae s Z H _ I h) fun v s1 x H1 I1 r1 q1=>mW (hb ae s1 Z H1 _ I1 q1) fun u s2 y H2 I2 r2 q2=>
  mW (ho ae s2 Z H2 x y v u _ I2 r1 r2 q2) fun c s3 z H3 I3 r3 ⟨k,e,q3⟩=> ?_) hm
 subst e
 cases r3
 exact fZ ⟨H3,I3,q3⟩
def Hf(r r':R2)(ta tb tc:TE):TE:=fun Z H Q=>ta Z H fun x H1=>tb Z H1 fun y H2=>r x y H2 fun z H3=>∃k,z= .bl k/\
 (if k=true then tc Z H3 fun w' H4=>r' y w' H4 Q else Q (.bl false) H3)
theorem yY(ho:j9 X (bZ op) r)(Jk:j9 X (bZ op') r')(ha:PE X a ta)(hb:PE X b tb)(hc:PE X c tc)
 (hm:TZ [op,op'] [b,c]=false:=by with_unfolding_all rfl):PE X (.Compare a [op,op'] [b,c] pos) (Hf r r' ta tb tc):=by
 intro ae s Z H Q I h
 refine Compare_chain (mW (ha ae s Z H _ I h) fun v s1 x H1 I1 r1 q1=>chain_link (mW (hb ae s1 Z H1 _ I1 q1) fun u s2 y H2 I2 r2 q2=>
  mW (ho ae s2 Z H2 x y v u _ I2 r1 r2 q2) fun d s3 z H3 I3 r3 ⟨k,e,q3⟩=> ?_)) hm
 subst e
 cases r3
 refine fZ ?_
 cases k with
 |false=>exact ite_ff ⟨.bl false,H3,I3,rfl,q3⟩
 |true=>exact ite_tt (chain_last (mW (hc ae s3 Z H3 _ I3 q3) fun w' s4 z' H4 I4 r4 q4=>Jk ae s4 Z H4 y z' u w' Q I4 r2 r4 q4))
theorem yW(ho:j9 X (bZ op) r)(Jk:j9 X (bZ op') r')(ha:PE X a ta)(hb:PE X b tb)(hc:PE X c tc)
 (hm:TZ [op,op'] [b,c]=false:=by with_unfolding_all rfl):PT X (.Compare a [op,op'] [b,c] pos) (Ur (Hf r r' ta tb tc)):=by
 intro ae s Z H Q I h
 refine isTrue_chain (mW (ha ae s Z H _ I h) fun v s1 x H1 I1 r1 q1=>test_link (mW (hb ae s1 Z H1 _ I1 q1) fun u s2 y H2 I2 r2 q2=>
  mW (ho ae s2 Z H2 x y v u _ I2 r1 r2 q2) fun d s3 z H3 I3 r3 ⟨k,e,q3⟩=> ?_)) hm
 subst e
 cases r3
 refine fZ ?_
 cases k with
 |false=>
  obtain⟨k',e',q'⟩:=q3
  cases e'
  exact ite_ff ⟨H3,I3,q'⟩
 |true=>
  refine ite_tt (test_last (mW (hc ae s3 Z H3 _ I3 q3) fun w' s4 z' H4 I4 r4 q4=>mW (Jk ae s4 Z H4 y z' u w' _ I4 r2 r4 q4) fun d' s5 z2 H5 I5 r5 zq=> ?_));obtain⟨k2,e2,q5⟩:=zq;subst e2
  cases r5
  exact fZ ⟨H5,I5,q5⟩
theorem HP:(sizeLine:Nat)<2^63:=by rw[aT];decide
theorem vals1(r:cZ [x] us):∃u,us=[u]/\RelV x u:=by
 cases r with
 |cons r1 r2=>cases r2;exact⟨_,rfl,r1⟩
theorem vals2(r:cZ [x,y] us):∃u w',us=[u,w']/\RelV x u/\RelV y w':=by
 cases r with
 |cons r1 r2=>
  cases r2 with
  |cons r3 r4=>cases r4;exact⟨_,_,rfl,r1,r3⟩
theorem LD:qe X (.builtin "abs") (fun xs H Q=>∃i,xs=[.int i]/\Q (.int (if i<0 then-i else i)) H):=by
 intro ae s Z H xs us Q I r h;obtain⟨i,rfl,q⟩:=h;obtain⟨u,rfl,t,rfl⟩:=vals1 r;exact call_abs_int fun u tk=>⟨.int (if i<0 then-i else i),H,I.tok _,⟨_,rfl⟩,q⟩
theorem Sz(hc:X.calm=true):qe X (.builtin "min") (fun xs H Q=>∃i j,xs=[.int i,.int j]/\Q (.int (if j<i then j else i)) H):=by
 intro ae s Z H xs us Q I r h;obtain⟨i,j,rfl,q⟩:=h;obtain⟨u,w',rfl,⟨t,rfl⟩,⟨t',rfl⟩⟩:=vals2 r;refine min_two_ints (I.ok.hd hc) fun h' tk k=>⟨_,H,I.kept k,?_,q⟩
 by_cases hj:j<i
 ·rw[if_pos hj,if_pos hj];exact⟨_,rfl⟩
 ·rw[if_neg hj,if_neg hj];exact⟨_,rfl⟩
theorem IS:qe X (.type "str") (fun xs H Q=>∃i,xs=[.int i]/\i.natAbs.log2<1920/\Q (.str (toString i)) H):=by
 intro ae s Z H xs us Q I r h;obtain⟨i,rfl,hz,q⟩:=h;obtain⟨u,rfl,t,rfl⟩:=vals1 r;exact PySem.P.str_of_int hz ⟨.str _,H,I.tok _,⟨_,rfl⟩,q⟩
theorem Xk:qe X (.builtin "ord") (fun xs H Q=>∃x,xs=[.str x]/\x.length=1/\Q (.int (x.cps.getD 0 0:Nat)) H):=by
 intro ae s Z H xs us Q I r h;obtain⟨x,rfl,hz,q⟩:=h;obtain⟨u,rfl,t,rfl⟩:=vals1 r;exact ord_of_one hz ⟨.int _,H,I.tok _,⟨_,rfl⟩,q⟩
end
end
section
structure OL(h:dg)(x dx C:ao)(mA:Str->Option ax):Prop where
 obj:h.get? x=some (ib C dx)
 ns:h.Ns1 dx mA
 ne:dx≠x
theorem Rx{h:dg}(n:h.Ns1 dx mA):∃od,h.get? dx=some od/\∀name,vN name od=some (mA name):=by
 rcases n with⟨o,es,ep,ho,hd,hk,_,hm⟩;refine⟨o,ho,fun name=> ?_⟩;have e:=hm name;unfold nsFind findBy at e;rw[<-Array.find?_toList]at e;unfold vN;rw[hd];dsimp only
 split
 ·rename_i y q;rw[q]at e;exact congrArg some e
 ·rename_i q;rw[q]at e
  have a:es.toList.any (·.refKey)=false:=by
   rw[XE];intro y hy;rcases hk y (Array.mem_toList_iff.mp hy)with⟨z,t,zr⟩;simp[alD,zr]
  have a':¬es.toList.any (·.refKey)=true:=by rw[a];exact a8
  rw[if_neg a'];exact congrArg some e
theorem OL.look(I:OL h x dx C mA):∃od,PySem.W.InstAt h x (ib C dx) C (some od)/\∀name,vN name od=some (mA name):=
 let ⟨od,ho,hl⟩:=Rx I.ns
 ⟨od,⟨I.obj,rfl,rfl,ho⟩,hl⟩
section
variable{prog:bD}{w:cP}{A:cN}{E:ax->az->Prop}{s:az}{K:aA}{x dx C f:ao}{mA:Str->Option ax}{name:Str}{v:ax}
theorem get_map(X:K.In s.heap)(I:OL s.heap x dx C mA)(hg:sG K C name=true)(hh:zQ K C=true)
 (ha:eP K (.ref C) name=some none) (hv:mA name=some v) (hv':SX v=true) (h:Q v {s with toks:=s.toks+1}):
 a7 (bf prog w) A (getAttr (.ref x) name expr) Q E s:=by
 obtain⟨od,J,hl⟩:=I.look;exact PySem.W.get_value X J (wL hg).1 (PySem.W.findObj_own hh ha rfl (by rw[hl,hv])) hv' h
theorem WR(X:K.In s.heap)(I:OL s.heap x dx C mA)(hg:sG K C name=true)
 (hf:eP K (.ref C) name=some (some (.ref f))) (ht:zP K (.ref f)=true) (hv:mA name=none) (h:Q (.ref f,[.ref x]) s):
 a7 (bf prog w) A (wK (.ref x) name pl) Q E s:=by
 obtain⟨od,J,hl⟩:=I.look;exact PySem.W.method_fn X J (wL hg).1 (wL hg).2 hf (beq_iff_eq.mp ht) (by show (vN name od).map (·.isSome)=some false;rw[hl,hv];rfl) h
theorem YZ{ns:List Str}(X:K.In s.heap)(I:OL s.heap x dx C mA)
 (hs:eP K (.ref C) "__setattr__"=some (some (.builtin "object.__setattr__"))) (hp:Qu K C=true) (ht:Cb K C name=some none) (hh:zQ K C=true)
 (hw:L0 mA ns) (hsz:ns.length<=sizeLine)
 (h:∀h',OL h' x dx C (fun y=>if y=name then some v else mA y)->gO dx s.heap h'->Q () {s with heap:=h',toks:=s.toks+2}):
 a7 (bf prog w) A (setAttr (.ref x) name v) Q E s:=by
 rcases I.look with⟨od,J,hl⟩;refine PySem.W.set_plain X J hs (PySem.W.osa_open (s:={s with toks:=s.toks+1}) (r:=none) X J hp ht fun b=> ?_);rcases PySem.W.any_some hh with⟨cd,hc,hd'⟩;have hx:s.heap.get? x=some ⟨.ref C,some dx,.plain,#[]⟩:=I.obj;refine ay (aU (ay (ay (wpAny_loadPart hx (ay (agW (s:={s with toks:=s.toks+1}) (PySem.W.looks_clsIn X hc) ?_))))));rw[hd'];refine aU (a:=some dx) (ay (aU (ay ?_)));refine wpAny_nsSet1 (s:={s with toks:=s.toks+1}) I.ns fun h' hn2 hs2=> ?_;rcases hn2.count (ahR name v hw)with⟨oD,esD,epD,hoD,hdD,hcD⟩;refine ay (wpAny_lookBehind hoD (by rw[hdD];exact pastItsLine_dict (cj hcD (by rw[au];lia))) ?_);exact aU (h _ ⟨(hs2.2 _ (aD I.ne)).trans I.obj,hn2,I.ne⟩ hs2)
theorem VW(X:K.In s.heap)(hm:fN K C=true)
 (hi:eP K (.ref C) "__init__"=some (some (.ref f))) (hf:PySem.W.typeIn K (.ref f)=some (.type "function"))
 (h:uL (bf prog w) (A.under (.builtin "type.__call__" ⟨.ref C::vs,kw⟩)) (.call (.ref f) ⟨.ref (s.heap.objs.size+1)::vs,kw⟩) (PySem.W.InitBack (s.heap.objs.size+1) R)
  {s with heap:=(s.heap.push fC).push (ib C s.heap.objs.size)}):
 uL (bf prog w) A (.call (.ref C) ⟨vs,kw⟩) R s:=by
 obtain⟨hh,g,d,t,os⟩:=s;exact PySem.W.make_core (PySem.W.makes_of X hm) (PySem.W.looks_findIn X hi) (fun self=>PySem.W.bind_fn X self hf) (.inl rfl) h
end
def dB(f:Str)(v:V):List (Str×V)->List (Str×V)
 |[]=>[(f,v)]
 |(g,x)::r=>if g=f then(g,v)::r else(g,x)::dB f v r
theorem Bh(f g:Str)(v:V):∀fs:List (Str×V),(dB f v fs).lookup g=if g=f then some v else fs.lookup g
 |[]=>by
  show mS g [(f,v)]=_
  by_cases h:g=f
  ·have hb:(g==f)=true:=beq_iff_eq.mpr h;simp only[mS,hb,if_pos h]
  ·have hb:(g==f)=false:=beq_eq_false_iff_ne.mpr h;simp only[mS,hb,if_neg h]
 |(k,x)::r=>by
  have ih:=Bh f g v r;rw[show dB f v ((k,x)::r)=(if k=f then(k,v)::r else(k,x)::dB f v r) from rfl]
  by_cases hk:k=f
  ·rw[if_pos hk]
   by_cases h:g=k
   ·have hb:(g==k)=true:=beq_iff_eq.mpr h;simp only[mS,hb,if_pos (h.trans hk)]
   ·have hb:(g==k)=false:=beq_eq_false_iff_ne.mpr h;simp only[mS,hb,if_neg (fun e:g=f=>h (e.trans hk.symm))]
  ·rw[if_neg hk]
   by_cases h:g=k
   ·have hb:(g==k)=true:=beq_iff_eq.mpr h;simp only[mS,hb,if_neg (fun e:g=f=>hk (h.symm.trans e))]
   ·have hb:(g==k)=false:=beq_eq_false_iff_ne.mpr h;simp only[mS,hb];exact ih
theorem Aw(f:Str)(v:V):∀fs:List (Str×V),f∈(dB f v fs).map (·.1)/\∀g,g∈fs.map (·.1)->g∈(dB f v fs).map (·.1)
 |[]=>⟨by simp[dB],fun g h=>by simp at h⟩
 |(k,x)::r=>by
  obtain⟨i1,i2⟩:=Aw f v r;rw[show dB f v ((k,x)::r)=(if k=f then(k,v)::r else(k,x)::dB f v r) from rfl]
  by_cases hk:k=f
  ·rw[if_pos hk];subst hk;exact⟨by simp,fun g h=>by simpa using h⟩
  ·rw[if_neg hk];refine⟨?_,fun g h=> ?_⟩
   ·rw[a4];exact aK _ i1
   ·rw[a4]at h⊢;obtain e|e:=a0.mp h
    ·exact a0.mpr (.inl e)
    ·exact aK _ (i2 g e)
theorem Bk(f:Str)(v:V):∀fs:List (Str×V),(dB f v fs).length<=fs.length+1
 |[]=>by simp[dB]
 |(k,x)::r=>by
  have ih:=Bk f v r;rw[show dB f v ((k,x)::r)=(if k=f then(k,v)::r else(k,x)::dB f v r) from rfl]
  by_cases hk:k=f
  ·rw[if_pos hk,au,au];lia
  ·rw[if_neg hk,au,au];lia
theorem sv.some_of(r:sv (some v) o):∃u,o=some u/\RelV v u:=by
 cases o with
 |none=>exact(show False from r).elim
 |some u=>exact⟨u,rfl,r⟩
theorem sv.none_of(r:sv none o):o=none:=by
 cases o with
 |none=>rfl
 |some u=>exact(show False from r).elim
theorem RX(r:RelV v u):SX u=true:=by
 cases v with
 |fI=>cases (show u=mi from r);rfl
 |bl b=>cases (show u=agX b from r);rfl
 |int i=>obtain⟨t,e⟩:=(show ∃t,u=nY i t from r);cases e;rfl
 |str x=>obtain⟨t,e⟩:=(show ∃t,u=Jv x t from r);cases e;rfl
 |TB b=>obtain⟨t,e⟩:=(show ∃t,u=aeI b t from r);cases e;rfl
 |flt b=>obtain⟨t,e⟩:=(show ∃t,u=aeH b t from r);cases e;rfl
 |ref a=>cases (show u=bM a from r);rfl
 |ty n=>cases (show u=agU n from r);rfl
section
variable{P:bD}{w:cP}{H H':Hp}{h h':dg}{a C dx:ao}{fs fs':List (Str×V)}
theorem Ig(fW:vO P w H h)(e:H a=some (.ins C dx fs)):∃mA,OL h a dx C mA/\(∀f,sv (fs.lookup f) (mA f))/\L0 mA (fs.map (·.1))/\fs.length<=1000/\H dx=some (.own a):=by
 rcases(show iw P w H h a (.ins C dx fs) from fW a _ e)with⟨d,z,ne,ob,mA,n,r,q⟩;exact⟨mA,⟨ob,n,ne⟩,r,q,z,d⟩
end
structure yh(K:aA)(C:ao):Prop where
 pg:sG K C Str.empty=true
 hd:zQ K C=true
 po:Qu K C=true
 sa:eP K (.ref C) "__setattr__"=some (some (.builtin "object.__setattr__"))
theorem yh.get{K:aA}{C:ao}(c:yh K C)(f:Str):sG K C f=true:=c.pg
def dA(K:aA)(C:ao)(f:Str):Prop:=eP K (.ref C) f=some none
theorem dA.aeO{K:aA}{C:ao}{f:Str}(n:dA K C f):Cb K C f=some none:=by
 unfold Cb;rw[show eP K (.ref C) f=some none from n];rfl
structure Con(K:aA)(C:ao)(f:Str)(v:V)(u:ax):Prop where
 at_:eP K (.ref C) f=some (some u)
 rel:RelV v u
 get:Qt K u "__get__"=some none
 cp:PySem.W.copiedNames.contains f=false
structure S0(K:aA)(C:ao)(m:Str)(f:ao):Prop where
 at_:eP K (.ref C) m=some (some (.ref f))
 fn:zP K (.ref f)=true
 kp:bW K (.ref f)=true
section
variable{X:Cx}{ae:List (ao×Obj)}{Z:St}{H:Hp}{s:az}{a C dx:ao}{fs:List (Str×V)}{f:Str}{v:V}{A:cN}{E:ax->az->Prop}
theorem Ed(I:Inv X ae Z H s)(e:H a=some (.ins C dx fs))(c:yh X.K C)(n:dA X.K C f)(l:fs.lookup f=some v)
 (h:∀u s',Inv X ae Z H s'->RelV v u->Q u s'):a7 (bf X.prog X.w) A (getAttr (.ref a) f b) Q E s:=by
 rcases Ig I.fW e with⟨mA,O,r,_,_,_⟩;obtain⟨u,hu,ru⟩:=sv.some_of (v:=v) (o:=mA f) (by rw[<-l];exact r f);exact get_map I.Ay O (c.get f) c.hd n hu (RX ru) (h u _ (I.tok _) ru)
theorem xV(I:Inv X ae Z H s)(e:H a=some (.ins C dx fs))(c:yh X.K C)(k:S0 X.K C m g)(l:fs.lookup m=none)
 (h:Q (.ref g,[.ref a]) s):a7 (bf X.prog X.w) A (wK (.ref a) m pl) Q E s:=by
 obtain⟨mA,O,r,_,_,_⟩:=Ig I.fW e;have hn:mA m=none:=sv.none_of (by rw[<-l];exact r m);exact WR I.Ay O (c.get m) k.at_ k.fn hn h
theorem Dq(I:Inv X ae Z H s)(e:H a=some (.ins C dx fs))(c:yh X.K C)(n:dA X.K C f)(hl:fs.length<1000)(ry:RelV y u)
 (h:∀s',Inv X ae Z (upd H a (.ins C dx (dB f y fs))) s'->Q () s'):a7 (bf X.prog X.w) A (setAttr (.ref a) f u) Q E s:=by
 obtain⟨mA,O,r,wi,_,ho⟩:=Ig I.fW e;have hz:(fs.map (·.1)).length<=sizeLine:=by rw[aN,aT];lia
 refine YZ I.Ay O c.sa c.po n.aeO c.hd wi hz fun h' O' sb=>h _ ?_;have hd:∃o,h'.get? dx=some o:=let ⟨o,_,_,e',_⟩:=O'.ns;⟨o,e'⟩
 refine I.write (x:=a) (e:=dx) (by rw[e];exact mo) (.inr ho) (fun b q hb z=>(sb.2 b hb).trans z) hd ?_;refine⟨by rw[ai O.ne];exact ho,?_,O.ne,O'.obj,_,O'.ns,fun g=> ?_,fun g hg=> ?_⟩
 ·have:=Bk f y fs;lia
 ·show sv ((dB f y fs).lookup g) (if g=f then some u else mA g);rw[Bh]
  by_cases q:g=f
  ·rw[if_pos q,if_pos q];exact ry
  ·rw[if_neg q,if_neg q];exact r g
 ·by_cases q:g=f
  ·rw[q];exact(Aw f y fs).1
  ·refine(Aw f y fs).2 g (wi g fun z=>hg ?_);show (if g=f then some u else mA g)=none;rw[if_neg q];exact z
theorem Inv.made(I:Inv X ae Z H s):Inv X ae Z (upd (upd H s.heap.objs.size (.own (s.heap.objs.size+1))) (s.heap.objs.size+1) (.ins C s.heap.objs.size []))
 {s with heap:=(s.heap.push fC).push (ib C s.heap.objs.size)}:=by
 have e1:(s.heap.push fC).get? s.heap.objs.size=some fC:=b9 s.heap rfl
 have e2:((s.heap.push fC).push (ib C s.heap.objs.size)).get? (s.heap.objs.size+1)=some (ib C s.heap.objs.size):=by
  have:=b9 (s.heap.push fC) (o:=ib C s.heap.objs.size) rfl
  rwa [eZ]at this
 have e3:(s.heap.push fC).Ns s.heap.objs.size (fun _=>none):=⟨fC,#[],_,e1,rfl,(fun e he=>absurd he (by simp)),fun _=>rfl⟩;have I1:=I.laid (a:=s.heap.objs.size) (o:=.own (s.heap.objs.size+1)) (h':=s.heap.push fC) (t':=s.toks) (fun b u q=>a5 _ q) (aE _) ⟨_,e1⟩;refine I1.laid (a:=s.heap.objs.size+1) (o:=.ins C s.heap.objs.size []) (t':=s.toks) (fun b u q=>a5 _ q) (Ca (eZ _ _)) ?_;have ne:s.heap.objs.size≠s.heap.objs.size+1:=dN (g7 _);refine⟨by rw[ai ne,aq],aC _,ne,e2,fun _=>none,(Heap.Ns1.of_empty e3).at fun o q=>a5 _ q,fun _=>mo,fun y hy=>absurd rfl hy⟩
theorem aay(hb:mZ e f env (eval e env)=eval e env)
 (h:a7 (bf prog w) A (eval e env) (fun o s₁=>a7 (bf prog w) A (getAttr o f true) Q E s₁) E s):a7 (bf prog w) A (eval (.Attribute e f pos) env) Q E s:=
 Attribute_any_ h (by rw[arm_eval_Attribute,hb])
end
def XI(X:Cx)(op:aaB)(rd:V->V->Hp->VK->Prop):Prop:=
 ∀(ae:List (ao×Obj)) (s:az) (Z:St) (H:Hp) (x y:V) (u v:ax) (Q:VK),Inv X ae Z H s->RelV x u->RelV y v->rd x y H Q->a7 (bf X.prog X.w) X.A (agy op u v) (EP X ae Z Q) X.xe s
section
variable{X:Cx}{o e value:dQ}{f:Str}{pos pos' Ua:Pos}{ta tv:TE}
def aiJ:V->V->Hp->VK->Prop:=fun x y H Q=>∃i j,x= .int i/\y= .int j/\Q (.int (i+j)) H
def aiz:V->V->Hp->VK->Prop:=fun x y H Q=>∃i j,x= .int i/\y= .int j/\Q (.int (i- j)) H
theorem mF:XI X .Add aiJ:=by
 rintro ae s Z H x y u v Q I rx ry ⟨i,j,rfl,rfl,q⟩;obtain⟨t,rfl⟩:=(show ∃t,u=nY i t from rx);obtain⟨t',rfl⟩:=(show ∃t',v=nY j t' from ry);exact ahQ ⟨.int (i+j),H,I.tok _,⟨_,rfl⟩,q⟩
theorem xT:XI X .Sub aiz:=by
 rintro ae s Z H x y u v Q I rx ry ⟨i,j,rfl,rfl,q⟩;obtain⟨t,rfl⟩:=(show ∃t,u=nY i t from rx);obtain⟨t',rfl⟩:=(show ∃t',v=nY j t' from ry);exact ahP ⟨.int (i- j),H,I.tok _,⟨_,rfl⟩,q⟩
end
section
variable{X:Cx}{ae:List (ao×Obj)}{Z:St}{H:Hp}{s:az}{A:cN}{E:ax->az->Prop}{Q:ax->az->Prop}{c:ax}{b:Bool}
inductive Ey(K:aA)(H:Hp):V->ax->Prop where
 |fI:Ey K H .fI (.type "NoneType")
 |bl (x:Bool):Ey K H (.bl x) (.type "bool")
 |int (i:Int):Ey K H (.int i) (.type "int")
 |str (x:Str):Ey K H (.str x) (.type "str")
 |flt (x:UInt64):Ey K H (.flt x) (.type "float")
 |lst {a:ao} {xs:List V} (e:H a=some (.lst xs)):Ey K H (.ref a) (.type "list")
 |PX {a:ao} {o:Obj} {xs:List V} (e:H a=some (.PX o (.lst xs))):Ey K H (.ref a) (.type "list")
 |tup {a:ao} {xs:List V} (e:H a=some (.tup xs)):Ey K H (.ref a) (.type "tuple")
 |dK {a:ao} {kvs:List (Key×V)} (e:H a=some (.dK kvs)):Ey K H (.ref a) (.type "dict")
 |dT {a:ao} {kvs:List (List Key×V)} (e:H a=some (.dT kvs)):Ey K H (.ref a) (.type "dict")
 |ins {a C dx:ao} {fs:List (Str×V)} (e:H a=some (.ins C dx fs)) (cl:yh K C) (ha:eP K (.ref C) "__class__"=some (some (.builtin "object.__class__")))
  (hn:Qt K (.builtin "object.__class__") "__get__"=some (some (.builtin "getset_descriptor.__get__"))) (htk:PySem.W.takesIn K (.builtin "object.__class__")=some true)
  (hm:PySem.W.mroIn K C (.type "object")=some true):Ey K H (.ref a) (.ref C)
end
end
section
structure jN(k:Nat)(A:cN):Prop where
 hd:A.handled=none
 dp:A.depth+3*k+5<akn
 un:A.units+16*k+200<kO
theorem jN.mono(r:jN k A)(h:j<=k):jN j A:=⟨r.hd,by have:=r.dp;lia,by have:=r.un;lia⟩
theorem jN.deeper{A:cN}(r:jN (k+1) A)(env:Env):jN k (A.deeper env):=
 ⟨r.hd,by have:=r.dp;show A.depth+1+3*k+5<_;lia,by have:=r.un;show A.units+3+16*k+200<_;lia⟩
theorem ND{A:cN}:(A.under (.builtin "type.__call__" ⟨.ref C::us,kw⟩)).depth=A.depth+1:=by
 first|rfl|simp[JC,Code.weight,Code.isCreation,Code.isGuard,Code.isCaller,agV,Mq,guardIds]
theorem NC{A:cN}:(A.under (.builtin "type.__call__" ⟨.ref C::us,kw⟩)).units=A.units+1:=by
 first|rfl|simp[JC,Code.cUnits,agV,Mq]
theorem jN.make{A:cN}(r:jN (k+1) A)(C:ao)(us:List ax)(kw:List (Str×ax)):jN k (A.under (.builtin "type.__call__" ⟨.ref C::us,kw⟩)):=
 ⟨r.hd,by have:=r.dp;rw[ND];lia,by have:=r.un;rw[NC];lia⟩
theorem jN.depth{A:cN}(r:jN k A):A.depth<akn:=by have:=r.dp;lia
theorem jN.units{A:cN}(r:jN k A):A.units+64<kO:=by have:=r.un;lia
theorem jN.uQ{A:cN}(r:jN k A):A.units<kO:=by have:=r.un;lia
def He:TA:=fun _ H Q=>Q [] H
def CZ(ta:TE)(tr:TA):TA:=fun Z H Q=>ta Z H fun x H1=>tr Z H1 fun xs H2=>Q (x::xs) H2
section
variable{X:Cx}{e:dQ}{es:List dQ}{te:TE}{t:TA}{pos:Pos}
theorem c9:PA X [] He:=fun _ _ _ _ H Q I h=>iL ⟨[],H,I,.nil,h⟩
theorem aV(ha:PE X e te)(hr:PA X es t)(hs:bN (e::es) X.env=(false,eval e X.env)::bN es X.env:=by rfl):PA X (e::es) (CZ te t):=by
 intro pos ae s Z H Q I h;rw[hs];show a7 _ _ (spliced ((false,eval e X.env)::jE pos (bN es X.env))) _ _ s;refine fj (mW (ha ae s Z H _ I h) fun u s1 x H1 I1 r1 q1=> ?_);exact thA (hr pos ae s1 Z H1 _ I1 q1) fun us s2 xs H2 I2 r2 q2=>⟨x::xs,H2,I2,.cons r1 r2,q2⟩
def aeQ(t:TA):TE:=fun Z H Q=>t Z H fun xs H1=>xs.length<=sizeLine/\∀p,H1 p=none->Q (.ref p) (upd H1 p (.tup xs))
def aeV(t:TA):TE:=fun Z H Q=>t Z H fun xs H1=>xs.length<=sizeLine/\∀p,H1 p=none->Q (.ref p) (upd H1 p (.lst xs))
theorem Hx{x1}(h:PA X es t):PE X (.Tuple es x1 pos) (aeQ t):=by
 intro ae s Z H Q I hq;refine wpAny_Tuple_spliced (thA (h pos ae s Z H _ I hq) fun us s1 xs H1 I1 r ⟨z,q⟩=>⟨by rw[<-r.length];exact z,?_⟩);have hf:H1 s1.heap.objs.size=none:=I1.fW.fresh (aE _);refine⟨.ref s1.heap.objs.size,upd H1 s1.heap.objs.size (.tup xs),I1.laid (t':=s1.toks) (fun b u e=>a5 _ e) (aE _) ?_,rfl,q _ hf⟩;exact⟨z,us,r,⟨_,b9 _ rfl,rfl,_,rfl⟩⟩
theorem cH(h:PA X es t):PE X (.List es pos) (aeV t):=by
 intro ae s Z H Q I hq;refine wpAny_List_spliced (thA (h pos ae s Z H _ I hq) fun us s1 xs H1 I1 r ⟨z,q⟩=>⟨by rw[<-r.length];exact z,?_⟩);have hf:H1 s1.heap.objs.size=none:=I1.fW.fresh (aE _);refine⟨.ref s1.heap.objs.size,upd H1 s1.heap.objs.size (.lst xs),I1.laid (t':=s1.toks) (fun b u e=>a5 _ e) (aE _) ?_,rfl,q _ hf⟩;exact⟨z,us,0,r,b9 _ rfl⟩
end
abbrev Sp:=List V->Hp->VK->XK->Prop
abbrev G4:=List Env->Hp->az->XK->ax->az->Prop
structure OM(P:bD)(w:cP)(K:aA)(mg:Str->Option ax)(ag:dg)(A:cN)(aH:List Env)(s:az)(H:Hp):Prop where
 frames:A.frames=some aH
 mod:Mod K mg ag
 bs:∀b o,ag.get? b=some o->s.heap.get? b=some o/\H b=none
 Yn:ag.objs.size<=s.heap.objs.size
 xW:s.heap.FunFrames ag aH
 frf:∀b∈mG aH,H b=none
 fW:vO P w H s.heap
 bare:uE s.gens
inductive CE(aH:List Env)(P:bD)(w:cP)(H:Hp)(s:az)(Q:VK)(u:ax)(s':az):Prop
 |mk (v:V) (H':Hp) (_:s'.os=s.os) (_:uE s'.gens) (_:Un (mG aH) [] H H' s.heap s'.heap) (_:vO P w H' s'.heap) (_:RelV v u) (_:Q v H')
def CR(CX:G4)(aH:List Env)(P:bD)(w:cP)(H:Hp)(s:az)(Q:VK)(E:XK)(r:Result)(s':az):Prop:=
 match r with
 | .ok (.ret u)=>CE aH P w H s Q u s'
 | .ok _=>False
 | .error e=>CX aH H s E e s'
structure eR(P:bD)(w:cP)(K:aA)(mg:Str->Option ax)(ag:dg)(CX:G4)(k:Nat)(f:ao)(fd:gq)(ps:List Str)(sp:Sp):Prop where
 len:∀vs H Q E,sp vs H Q E->vs.length=ps.length
 run:∀(A:cN) (aH:List Env) (s:az) (H:Hp) (args:Args) (us:List ax) (vs:List V) (Q:VK) (E:XK),jN k A->OM P w K mg ag A aH s H->XD s fd args (ps.zip us)->cZ vs us->sp vs H Q E->
  uL (bf P w) A (.call (.ref f) args) (CR CX aH P w H s Q E) s
theorem eR.mono{P:bD}{w:cP}{K:aA}{mg:Str->Option ax}{ag:dg}{CX:G4}{j k:Nat}{f:ao}{fd:gq}{ps:List Str}{sp:Sp}(F:eR P w K mg ag CX j f fd ps sp)(h:j<=k):
 eR P w K mg ag CX k f fd ps sp:=⟨F.len,fun A aH s H args us vs Q E hr=>F.run A aH s H args us vs Q E (hr.mono h)⟩
theorem eR.imp{P:bD}{w:cP}{K:aA}{mg:Str->Option ax}{ag:dg}{CX:G4}{k:Nat}{f:ao}{fd:gq}{ps:List Str}{sp sp':Sp}(F:eR P w K mg ag CX k f fd ps sp)
 (h:∀vs H Q E,sp' vs H Q E->sp vs H Q E):eR P w K mg ag CX k f fd ps sp':=
 ⟨fun vs H Q E q=>F.len vs H Q E (h _ _ _ _ q),fun A aH s H args us vs Q E hr he hb hv hs=>F.run A aH s H args us vs Q E hr he hb hv (h _ _ _ _ hs)⟩
theorem OM.make{P:bD}{w:cP}{K:aA}{mg:Str->Option ax}{ag:dg}{A:cN}{aH:List Env}{s:az}{H:Hp}(e:OM P w K mg ag A aH s H)(C:ao)(us:List ax)(kw:List (Str×ax)):
 OM P w K mg ag (A.under (.builtin "type.__call__" ⟨.ref C::us,kw⟩)) aH s H:=⟨by first|exact e.frames|(simpa [JC,Code.envs,Mq,pushEnvs]using e.frames),e.mod,e.bs,e.Yn,e.xW,e.frf,e.fW,e.bare⟩
section
variable{X:Cx}{ae:List (ao×Obj)}{Z:St}{H:Hp}{s s':az}
theorem Inv.adG(I:Inv X ae Z H s):OM X.prog X.w X.K X.mg X.base X.A X.stack s H:=
 ⟨I.ok.frames,I.ok.mod,I.bs,cj I.ok.Yn I.sz,I.stack,I.Ce,I.fW,I.bare⟩
theorem Inv.after(I:Inv X ae Z H s)(h:CE X.stack X.prog X.w H s Q u s'):EP X ae Z Q u s':=by
 obtain⟨v,H',os,bare,un,fW,r,q⟩:=h;obtain⟨hh,g,d,t,os'⟩:=s';obtain rfl:os'=s.os:=os;exact⟨v,H',I.call (h':=hh) (g':=g) (d':=d) (t':=t) (ch:=[]) un fW bare (fun b z=>absurd z (by simp)),r,q⟩
end
def OZ(sp:Sp)(wB:List V)(E:XK)(t:TA):TE:=fun Z H Q=>t Z H fun vs H1=>sp (vs++wB) H1 Q E
def OW(C:ao)(m:Str)(sp:Sp)(wB:List V)(E:XK)(ta:TE)(t:TA):TE:=fun Z H Q=>ta Z H fun x H1=>∃a dx fs,x= .ref a/\H1 a=some (.ins C dx fs)/\fs.lookup m=none/\
 t Z H1 fun vs H2=>sp (x::(vs++wB)) H2 Q E
def Uv(C:ao)(sp:Sp)(wB:List V)(E:XK)(t:TA):TE:=fun Z H Q=>t Z H fun vs H1=>∀x dx,H1 x=none->H1 dx=none->dx≠x->
 sp (.ref x::(vs++wB)) (upd (upd H1 dx (.own x)) x (.ins C dx [])) (fun v H2=>v= .fI/\Q (.ref x) H2) E
def Binds(K:aA)(fd:gq)(ps:List Str)(ds:List ax):Prop:=
 ∀(s:az) (us:List ax),K.In s.heap->(us++ds).length=ps.length->XD s fd ⟨us,[]⟩ (ps.zip (us++ds))
theorem Binds.all{K:aA}{fd:gq}{ps:List Str}(h:∀us:List ax,us.length=ps.length->aaO fd ⟨us,[]⟩=pure (ps.zip us)):Binds K fd ps []:=fun s us _ hl=>by
 rw[fU]at hl⊢;exact .of_eq (h us hl)
def lV(CX:G4)(X:Cx)(E:XK):Prop:=∀(ae:List (ao×Obj)) (Z:St) (H:Hp) (s:az) (e:ax) (s':az),Inv X ae Z H s->CX X.stack H s E e s'->X.xe e s'
section
variable{X:Cx}{CX:G4}{k:Nat}{f C:ao}{fd:gq}{ps:List Str}{sp:Sp}{wB:List V}{ds:List ax}{E:XK}{x m:Str}{p pos apos:Pos}{e o:dQ}{es:List dQ}{ta:TE}{t:TA}
theorem Dt{ae:List (ao×Obj)}{Z:St}{H:Hp}{s:az}{Q:VK}{us:List ax}{vs:List V}(F:eR X.prog X.w X.K X.mg X.base CX k f fd ps sp)(hr:jN k X.A)(hb:Binds X.K fd ps ds)(hd:cZ wB ds)(hx:lV CX X E)
 (I:Inv X ae Z H s) (r:cZ vs us) (h:sp (vs++wB) H Q E):a7 (bf X.prog X.w) X.A (call (.ref f) us) (EP X ae Z Q) X.xe s:=by
 have r2:cZ (vs++wB) (us++ds):=r.append hd;have hl:(us++ds).length=ps.length:=by rw[<-r2.length];exact F.len _ _ _ _ h
 refine ad3 (oP (F.run X.A X.stack s H ⟨us,[]⟩ (us++ds) (vs++wB) Q E hr I.adG (hb s us I.Ay hl) r2 h) fun r s' hq=> ?_)
 cases r with
 |error e=>exact hx ae Z H s e s' I hq
 |ok fl=>
  cases fl with
  |ret u=>exact I.after hq
  |next=>exact b7 hq
  |brk=>exact b7 hq
  |cont=>exact b7 hq
theorem Zh(F:eR X.prog X.w X.K X.mg X.base CX k f fd ps sp)(hr:jN k X.A)(hg:Gl X x)(hm:X.mg x=some (.ref f))(hk:bW X.K (.ref f)=true)(hb:Binds X.K fd ps ds)(hd:cZ wB ds)(hx:lV CX X E)
 (ha:PA X (e::es) t) (PJ:(x==("__debug__":Str))=false:=by decide) (he:bN (e::es) X.env=(false,eval e X.env)::bN es X.env:=by rfl) (Ik:(jE pos (bN es X.env)).any (·.1)=false:=by rfl):
 PE X (.Call (.Name x p) (e::es) [] pos) (OZ sp wB E t):=by
 intro ae s Z H Q I h;refine gv (mD I hg hm ?_ PJ);refine lU (h₀:=X.base) I.ok.mod.kin hk (thA (ha pos ae s Z H _ I h) fun us s1 vs H1 I1 r q=>⟨I1.Ay,?_⟩) he Ik;exact Dt F hr hb hd hx I1 r q
theorem yZ(F:eR X.prog X.w X.K X.mg X.base CX k f fd ps sp)(hr:jN k X.A)(hg:Gl X x)(hm:X.mg x=some (.ref f))(hk:bW X.K (.ref f)=true)(hb:Binds X.K fd ps ds)(hd:cZ wB ds)(hx:lV CX X E)
 (PJ:(x==("__debug__":Str))=false:=by decide):PE X (.Call (.Name x p) [] [] pos) (OZ sp wB E He):=by
 intro ae s Z H Q I h;refine gv (mD I hg hm ?_ PJ);exact wJ I.Ay hk (Dt (us:=[]) F hr hb hd hx I .nil h)
theorem Zg{pl:Sem Bool}(he:PE X o ta)(c:yh X.K C)(hm:S0 X.K C m f)(F:eR X.prog X.w X.K X.mg X.base CX k f fd ps sp)(hr:jN k X.A)(hb:Binds X.K fd ps ds)(hd:cZ wB ds)(hx:lV CX X E)(ha:PA X (e::es) t)
 (nA:bN (e::es) X.env=(false,eval e X.env)::bN es X.env:=by rfl) (Ik:(jE pos (bN es X.env)).any (·.1)=false:=by rfl)
 (ht:eval (.Call (.Attribute o m apos) (e::es) [] pos) X.env=(do
  let ov<-eval o X.env
  Bs apos.atName
  let (f,first)<-uC [ov] (wK ov m pl)
  F2 pos f first (jE pos (bN (e::es) X.env)) (uc pos (lT [] X.env))):=by rfl):
 PE X (.Call (.Attribute o m apos) (e::es) [] pos) (OW C m sp wB E ta t):=by
 intro ae s Z H Q I h;refine uA (pl:=pl) (mW (he ae s Z H _ I h) fun u s1 x H1 I1 rx zq=> ?_) ht;obtain⟨a,dx,fs,ex,ea,l,q⟩:=zq;subst ex;obtain rfl:u=bM a:=rx;refine xV I1 ea c hm l ?_;refine lU (first:=[.ref a]) (h₀:=X.base) I.ok.mod.kin hm.kp (thA (ha pos ae s1 Z H1 _ I1 q) fun us s2 vs H2 I2 r q2=>⟨I2.Ay,?_⟩) nA Ik;exact Dt (us:=.ref a::us) (vs:=.ref a::vs) F hr hb hd hx I2 (.cons rfl r) q2
theorem jI{pl:Sem Bool}(he:PE X o ta)(c:yh X.K C)(hm:S0 X.K C m f)(F:eR X.prog X.w X.K X.mg X.base CX k f fd ps sp)(hr:jN k X.A)(hb:Binds X.K fd ps ds)(hd:cZ wB ds)(hx:lV CX X E)
 (ht:eval (.Call (.Attribute o m apos) [] [] pos) X.env=(do
  let ov<-eval o X.env
  Bs apos.atName
  let (f,first)<-uC [ov] (wK ov m pl)
  F2 pos f first (jE pos (bN [] X.env)) (uc pos (lT [] X.env))):=by rfl):
 PE X (.Call (.Attribute o m apos) [] [] pos) (OW C m sp wB E ta He):=by
 intro ae s Z H Q I h;refine uA (pl:=pl) (mW (he ae s Z H _ I h) fun u s1 x H1 I1 rx zq=> ?_) ht;obtain⟨a,dx,fs,ex,ea,l,q⟩:=zq;subst ex;obtain rfl:u=bM a:=rx;refine xV I1 ea c hm l ?_;exact wJ (first:=[.ref a]) I1.Ay hm.kp (Dt (us:=[.ref a]) (vs:=[.ref a]) F hr hb hd hx I1 (.cons rfl .nil) q)
structure Mk(K:aA)(C f:ao):Prop where
 makes:fN K C=true
 init:eP K (.ref C) "__init__"=some (some (.ref f))
 fn:zP K (.ref f)=true
 kp:bW K (.ref C)=true
theorem Kl{ae:List (ao×Obj)}{Z:St}{H:Hp}{s:az}{Q:VK}{us:List ax}{vs:List V}(M:Mk X.K C f)(F:eR X.prog X.w X.K X.mg X.base CX k f fd ps sp)(hr:jN (k+1) X.A)(hb:Binds X.K fd ps ds)(hd:cZ wB ds)
 (hx:lV CX X E) (I:Inv X ae Z H s) (r:cZ vs us)
 (h:∀x dx,H x=none->H dx=none->dx≠x->sp (.ref x::(vs++wB)) (upd (upd H dx (.own x)) x (.ins C dx [])) (fun v H2=>v= .fI/\Q (.ref x) H2) E):
 a7 (bf X.prog X.w) X.A (call (.ref C) us) (EP X ae Z Q) X.xe s:=by
 have hq:=h (s.heap.objs.size+1) s.heap.objs.size (I.fW.fresh (Nat.le_succ _)) (I.fW.fresh (aE _)) (dN (g7 _));have I2:=Inv.made (C:=C) I;have r2:cZ (V.ref (s.heap.objs.size+1)::(vs++wB)) (bM (s.heap.objs.size+1)::(us++ds)):=.cons rfl (r.append hd)
 have hl:(bM (s.heap.objs.size+1)::us++ds).length=ps.length:=by
  have e:=r2.length;rw[F.len _ _ _ _ hq]at e;exact e.symm
 refine ad3 (VW (f:=f) I.Ay M.makes M.init (beq_iff_eq.mp M.fn) (oP (F.run _ X.stack _ _ ⟨bM (s.heap.objs.size+1)::us,[]⟩ (bM (s.heap.objs.size+1)::(us++ds)) _ _ E (hr.make C us [])
  (I2.adG.make C us []) (hb _ (bM (s.heap.objs.size+1)::us) I2.Ay hl) r2 hq) fun r s' hq'=> ?_))
 cases r with
 |error e=>exact hx ae Z _ _ e s' I2 hq'
 |ok fl=>
  cases fl with
  |ret u=>
   rcases I2.after hq' with⟨v,H',I3,rv,ev,q3⟩;subst ev;exact⟨rv,⟨V.ref (s.heap.objs.size+1),H',I3,rfl,q3⟩⟩
  |next=>exact b7 hq'
  |brk=>exact b7 hq'
  |cont=>exact b7 hq'
theorem mz(M:Mk X.K C f)(F:eR X.prog X.w X.K X.mg X.base CX k f fd ps sp)(hr:jN (k+1) X.A)(hg:Gl X x)(hm:X.mg x=some (.ref C))(hb:Binds X.K fd ps ds)(hd:cZ wB ds)(hx:lV CX X E)
 (ha:PA X (e::es) t) (PJ:(x==("__debug__":Str))=false:=by decide) (he:bN (e::es) X.env=(false,eval e X.env)::bN es X.env:=by rfl) (Ik:(jE pos (bN es X.env)).any (·.1)=false:=by rfl):
 PE X (.Call (.Name x p) (e::es) [] pos) (Uv C sp wB E t):=by
 intro ae s Z H Q I h;refine gv (mD I hg hm ?_ PJ);refine lU (h₀:=X.base) I.ok.mod.kin M.kp (thA (ha pos ae s Z H _ I h) fun us s1 vs H1 I1 r q=>⟨I1.Ay,?_⟩) he Ik;exact Kl M F hr hb hd hx I1 r q
theorem DM(M:Mk X.K C f)(F:eR X.prog X.w X.K X.mg X.base CX k f fd ps sp)(hr:jN (k+1) X.A)(hg:Gl X x)(hm:X.mg x=some (.ref C))(hb:Binds X.K fd ps ds)(hd:cZ wB ds)(hx:lV CX X E)
 (PJ:(x==("__debug__":Str))=false:=by decide):PE X (.Call (.Name x p) [] [] pos) (Uv C sp wB E He):=by
 intro ae s Z H Q I h;refine gv (mD I hg hm ?_ PJ);exact wJ I.Ay M.kp (Kl (us:=[]) M F hr hb hd hx I .nil h)
end
section
variable{X:Cx}{CX:G4}{k:Nat}{f C:ao}{fd:gq}{ps ks:List Str}{sp:Sp}{E:XK}{x m:Str}{p pos apos alg:Pos}{e o:dQ}{es:List dQ}{kws:List F1}{te ta:TE}{t tk:TA}{nm:Option Str}
structure ako(K:aA)(fd:gq)(ps ks:List Str)(g:List ax->List ax->List ax)(gV:List V->List V->List V):Prop where
 to:∀(s:az) (us ws:List ax),K.In s.heap->(g us ws).length=ps.length->XD s fd ⟨us,ks.zip ws⟩ (ps.zip (g us ws))
 rel:∀{vs:List V} {us:List ax} {zs:List V} {ws:List ax},cZ vs us->cZ zs ws->cZ (gV vs zs) (g us ws)
variable{g:List ax->List ax->List ax}{gV:List V->List V->List V}
end
structure wg(N P:List Str)(sc:ia):Prop where
 kind:sc.kind= .function
 co:sc.isCoroutine=false
 gen:sc.isGenerator=false
 nd:N.Nodup
 pre:N.take P.length=P
 par:∀x∈P,sc.names.lookup x=some .local\/sc.names.lookup x=some .cell
 acx:∀y∈sc.names,y.2≠.free
theorem GI{kindOf:Str->Option jq}:∀{binds:List (Str×ax)} {m:Str->Option ax},(∀v,(x,v)∉binds)->TY kindOf binds m x=m x
 |[],_,_=>rfl
 |(n,v)::r,m,h=>by
  unfold TY;rw[GI fun w hw=>h w (aK _ hw)]
  split
  ·have:x≠n:=by rintro rfl;exact h v aX
   simp[this]
  ·rfl
theorem GK{kindOf:Str->Option jq}:∀{binds:List (Str×ax)} {m:Str->Option ax},(∀v,(x,v)∉binds)->TX kindOf binds m x=m x
 |[],_,_=>rfl
 |(n,v)::r,m,h=>by
  unfold TX;rw[GK fun w hw=>h w (aK _ hw)]
  split
  ·rfl
  ·have:x≠n:=by rintro rfl;exact h v aX
   simp[this]
theorem GJ{kindOf:Str->Option jq}:∀{P:List Str} {vs:List ax} {i:Nat} {m:Str->Option ax},P.Nodup->P[i]? =some x->vs[i]? =some v->kindOf x=some .local->
 TY kindOf (P.zip vs) m x=some v
 |[],_,_,_,_,h,_,_=>by simp at h
 |_::_,[],_,_,_,_,h,_=>by simp at h
 |p::P,w::vs,0,m,nd,h1,h2,hk=>by
  simp at h1 h2;subst h1;subst h2;show TY kindOf ((p,w)::P.zip vs) m p=_;unfold TY;rw[GI fun v hv=>(fe.mp nd).1 (E2 hv).1,if_pos hk];simp
 |p::P,w::vs,i+1,m,nd,h1,h2,hk=>by
  show TY kindOf ((p,w)::P.zip vs) m x=_;unfold TY;exact GJ (i:=i) (fe.mp nd).2 (by simpa using h1) (by simpa using h2) hk
theorem GL{kindOf:Str->Option jq}:∀{P:List Str} {vs:List ax} {i:Nat} {m:Str->Option ax},P.Nodup->P[i]? =some x->vs[i]? =some v->kindOf x≠some .local->
 TX kindOf (P.zip vs) m x=some v
 |[],_,_,_,_,h,_,_=>by simp at h
 |_::_,[],_,_,_,_,h,_=>by simp at h
 |p::P,w::vs,0,m,nd,h1,h2,hk=>by
  simp at h1 h2;subst h1;subst h2;show TX kindOf ((p,w)::P.zip vs) m p=_;unfold TX;rw[GK fun v hv=>(fe.mp nd).1 (E2 hv).1,if_neg hk];simp
 |p::P,w::vs,i+1,m,nd,h1,h2,hk=>by
  show TX kindOf ((p,w)::P.zip vs) m x=_;unfold TX;exact GL (i:=i) (fe.mp nd).2 (by simpa using h1) (by simpa using h2) hk
def start(N:List Str)(vs:List V):St:=vs.map some++aS (N.length- vs.length) none
def iJ(CX:G4)(P:bD)(w:cP)(K:aA)(mg:Str->Option ax)(ag:dg)(N:List Str)(aG:Str)(af:ia)(f:ao)(cd:ax)(A:cN)(aH:List Env)(s:az)(H:Hp)(E:XK):Cx where
 prog:=P
 w:=w
 K:=K
 mg:=mg
 base:=ag
 A:=A.deeper (envOfC aG af s.heap.objs.size f cd)
 N:=N
 s₀:=s
 H₀:=H
 env:=envOfC aG af s.heap.objs.size f cd
 outer:=aH
 stack:=envOfC aG af s.heap.objs.size f cd::aH
 ex:=[]
 calm:=true
 fn:=fun _=>true
 pn:=[]
 xe:=fun e s'=>a7 (bf P w) (A.deeper (envOfC aG af s.heap.objs.size f cd)) (XC (envOfC aG af s.heap.objs.size f cd) e) (fun _ s''=>CX aH H s E e s'') (fun e' s''=>CX aH H s E e' s'') s'
theorem LC{sc:ia}(h:sc.names.lookup x=some .cell):∃c,(cellsFrom n sc.names []).lookup x=some c:=by
 have q:=Jc sc.names n [] (.inl h);exact G1.mp q
theorem RJ{CX:G4}{P:bD}{w:cP}{K:aA}{mg:Str->Option ax}{ag:dg}{N ps:List Str}{aG:Str}{af:ia}{f:ao}{cd:ax}{A:cN}{aH:List Env}{s s1:az}{H:Hp}{E:XK}{us:List ax}{vs:List V}
 (S:wg N ps af) (hd:A.handled=none) (e0:OM P w K mg ag A aH s H) (hl:vs.length=ps.length) (r:cZ vs us)
 (x:InCallC s s.heap.objs.size (TY (envOfC aG af s.heap.objs.size f cd).kindOf (ps.zip us) fun _=>none) (cellsFrom (s.heap.objs.size+1) af.names []) (TX (envOfC aG af s.heap.objs.size f cd).kindOf (ps.zip us) fun _=>none) s1):
 Inv (iJ CX P w K mg ag N aG af f cd A aH s H E) [] (start N vs) H s1:=by
 have Ik:ps.length<=N.length:=by have:=congrArg cS S.pre;rw[aQ]at this;lia
 obtain⟨h1,tk,rfl,hk⟩:=x.done;have noA:∀b:ao,b∉(iJ CX P w K mg ag N aG af f cd A aH s H E).ex:=fun b z=>absurd (show b∈([]:List ao) from z) (by simp)
 refine⟨⟨e0.mod,S.kind,rfl,rfl,aE _,fun y z c h1 h2=> ?_,fun y hy=> ?_,fun y c _ h=> ?_,fun _=>hd,Around.frames_deeper e0.frames,.inr ⟨rfl,rfl⟩,fun b z=>absurd z (noA b),e0.bs,e0.Yn,fun b _ _=>noA b,fun b z=>absurd z (noA b),e0.xW,e0.frf⟩,
  rfl,e0.bare,Un.kept hk,⟨_,x.toInCall.ns,fun i y v h1 h2 h3=> ?_⟩,fun y c h=>⟨_,x.cell y c h⟩,e0.fW.fresh (aE _),fun y c h=> ?_,fun p hp=>absurd (show p∈([]:List (ao×Obj)) from hp) (by simp),e0.fW.kept hk,?_⟩
 ·exact name_of_addr x.apart (cC h1) (cC h2)
 ·have hy:af.names.lookup y=some .cell\/af.names.lookup y=some .free:=hy;obtain hy|hy:=hy
  ·exact LC hy
  ·exact absurd rfl (S.acx _ (cC hy))
 ·exact iR (x.above y c (cC h))
 ·have hi:i<vs.length:=by
   unfold start at h2
   by_cases hi:i<vs.length
   ·exact hi
   ·rw[kW (by simpa using hi)]at h2;rw[List.getElem?_replicate]at h2
    split at h2<;>cases h2
  have ha:vs[i]? =some v:=by
   unfold start at h2;rw[lz (by simpa using hi),cJ]at h2
   cases e:vs[i]? with
   |none=>rw[e]at h2;cases h2
   |some a=>rw[e]at h2;cases h2;rfl
  obtain⟨u,hu,rv⟩:=r.get ha
  have hp:ps[i]? =some y:=by
   rw[<-S.pre,List.getElem?_take_of_lt (by lia)];exact h1
  have ndP:ps.Nodup:=by rw[<-S.pre];exact S.nd.sublist (List.take_sublist _ _)
  exists u,rv;obtain k|k:=S.par y (bc hp)
  ·exact .inl ⟨k,GJ ndP hp hu k⟩
  ·obtain⟨c,e⟩:=LC (n:=s.heap.objs.size+1) k;refine .inr ⟨.inl k,c,e,?_⟩;have q:=x.cell y c e;rw[GL ndP hp hu (by show af.names.lookup y≠_;rw[k];decide)]at q;exact q
 ·exact e0.fW.fresh (iR (x.above y c (cC h)))
 ·unfold start;show _=N.length;rw[aF,aN,hV];lia
theorem abm{CX:G4}{P:bD}{w:cP}{K:aA}{mg:Str->Option ax}{ag:dg}{k:Nat}{f:ao}{name aG:Str}{params:Arguments}{body:List zI}{af:ia}{dV kV doc pm nV ct oc:ax}{an od:Option ao}
 {Q5:Array (Option ax)} {N ps:List Str} {sp:Sp} (lk:K.lookup f=some ⟨oc,od,.func (iu name aG params body af dV kV doc pm an nV ct),Q5⟩) (RW:pZ K nV aG=true) (S:wg N ps af)
 (len:∀vs H Q E,sp vs H Q E->vs.length=ps.length)
 (La:∀(A:cN) (aH:List Env) (s:az) (H:Hp) (vs:List V) (Q:VK) (E:XK),jN k (A.deeper (envOfC aG af s.heap.objs.size f nV))->sp vs H Q E->
  ∃t,Mr (iJ CX P w K mg ag N aG af f nV A aH s H E) body t/\t {nx:=fun _ H'=>Q .fI H',rt:=Q} (start N vs) H):
 eR P w K mg ag CX (k+1) f (iu name aG params body af dV kV doc pm an nV ct) ps sp:=by
 refine⟨len,fun A aH s H args us vs Q E hr e0 hb r L4=> ?_⟩;have hl:=len _ _ _ _ L4;have KX:K.In s.heap:=e0.mod.kin.keeps fun b o e=>(e0.bs b o e).1;have lim:s.heap.NoLimit:=e0.mod.nolimit.keeps fun b o e=>(e0.bs b o e).1
 have af9:∀y∈ps.zip us,af.names.lookup y.1=some .local\/(af.names.lookup y.1=some .cell/\((cellsFrom (s.heap.objs.size+1) af.names []).lookup y.1).isSome=true):=fun⟨n,v⟩ hy=>by
  obtain q|q:=S.par n (E2 hy).1
  ·exact .inl q
  ·exact .inr ⟨q,Jc _ _ _ (.inl q)⟩
 refine codeAny_call_function hr.depth (KX _ _ lk) rfl S.co S.gen rfl (PySem.W.codeRec_of KX RW) (hb _ _ _ _ ?_);refine wpAny_newFunctionEnv_cells S.kind af9 fun env he s1 x=> ?_;subst he;refine⟨lim.keeps x.toInCall.keep,codeAny_func ?_⟩;obtain⟨t,ht,hq⟩:=La A aH s H vs Q E (hr.deeper _) L4;have I:Inv (iJ CX P w K mg ag N aG af f nV A aH s H E) [] (start N vs) H s1:=RJ S hr.hd e0 hl r x;refine dZ (ht [] s1 (start N vs) H _ I hq) (fun fl s' hs=> ?_) fun e s' hs=>hs
 have fin:∀{Z':St} {H':Hp} {v:V} {u:ax},Inv (iJ CX P w K mg ag N aG af f nV A aH s H E) [] Z' H' s'->RelV v u->Q v H'->CE aH P w H s Q u s':=
  fun{Z' H' v u} J rv q=>⟨v,H',J.os,J.bare,J.base,J.fW,rv,q⟩
 cases fl with
 |ret u=>
  obtain⟨v,Z',H',J,rv,q⟩:=hs;exact fin J rv q
 |next=>
  obtain⟨Z',H',J,q⟩:=hs;exact fin (v:=V.fI) (u:=mi) J rfl q
 |brk=>
  obtain⟨_,_,_,q⟩:=hs;exact b7 q
 |cont=>
  obtain⟨_,_,_,q⟩:=hs;exact b7 q
end
section
section
variable{X:Cx}{x:Str}{p pos:Pos}{e:dQ}{es:List dQ}{t:TA}{id T:String}{r:List V->Hp->VK->Prop}
def tCB(r:List V->Hp->VK->Prop)(t:TA):TE:=fun Z H Q=>t Z H fun vs H1=>r vs H1 Q
theorem jJ(hc:qe X (.builtin id) r)(hg:Gl X x)(hm:X.mg x=none)(hv:oM x=some (.builtin id))(ha:PA X (e::es) t)(hn:x≠"__name__":=by decide)(PJ:(x==("__debug__":Str))=false:=by decide)
 (he:bN (e::es) X.env=(false,eval e X.env)::bN es X.env:=by rfl) (Ik:(jE pos (bN es X.env)).any (·.1)=false:=by rfl):PE X (.Call (.Name x p) (e::es) [] pos) (tCB r t):=by
 intro ae s Z H Q I h;refine gv (tQ I hg hm hv ?_ hn PJ);exact ahO (thA (ha pos ae s Z H _ I h) fun us s1 vs H1 I1 r1 q1=>hc ae s1 Z H1 vs us Q I1 r1 q1) he Ik
theorem gL(hc:qe X (.type T) r)(hg:Gl X x)(hm:X.mg x=none)(hv:oM x=some (.type T))(ha:PA X (e::es) t)(hn:x≠"__name__":=by decide)(PJ:(x==("__debug__":Str))=false:=by decide)
 (he:bN (e::es) X.env=(false,eval e X.env)::bN es X.env:=by rfl) (Ik:(jE pos (bN es X.env)).any (·.1)=false:=by rfl):PE X (.Call (.Name x p) (e::es) [] pos) (tCB r t):=by
 intro ae s Z H Q I h;refine gv (tQ I hg hm hv ?_ hn PJ);exact dO (thA (ha pos ae s Z H _ I h) fun us s1 vs H1 I1 r1 q1=>hc ae s1 Z H1 vs us Q I1 r1 q1) he Ik
end
end
end L2
namespace HT
open PySem PyProof.Rows
section
open PySem.SeqAt
open PySem.AutoSeq1 (wpAny_loadPart')
open PySem.MeetsSeq PySem.MeetsSeq2 PySem.MeetsSeq3
end
section
variable{prog:bD}{w:cP}{A:cN}{E:ax->az->Prop}{s:az}
def ml(n d:Nat):Option Int->Nat
 |none=>d
 |some v=>if v<0 then(v+(n:Int)).toNat else min v.toNat n
theorem Dr(n d:Nat):ml n d none=d:=rfl
theorem sZ(n d k:Nat):ml n d (some (k:Int))=min k n:=by
 show (if (k:Int)<0 then((k:Int)+(n:Int)).toNat else min (k:Int).toNat n)=min k n;rw[if_neg (by lia),dk]
theorem abU(n d:Nat)(hd:d<=n)(o:Option Int):ml n d o<=n:=by
 cases o with
 |none=>exact hd
 |some v=>
  show (if v<0 then(v+(n:Int)).toNat else min v.toNat n)<=n
  by_cases hv:v<0
  ·rw[if_pos hv];lia
  ·rw[if_neg hv];exact Nat.min_le_right _ _
theorem Qh(v:Int)(n d:Nat):(if v<0 then max (v+(n:Int)) 0 else min v (n:Int))=((ml n d (some v):Nat):Int):=by
 show (if v<0 then max (v+(n:Int)) 0 else min v (n:Int))=(((if v<0 then(v+(n:Int)).toNat else min v.toNat n):Nat):Int)
 by_cases hv:v<0
 ·simp only[if_pos hv];lia
 ·simp only[if_neg hv];lia
theorem OC(lo hi:Option Int)(n:Nat):oO lo hi 1 (n:Int)=(((ml n 0 lo:Nat):Int),((ml n n hi:Nat):Int)):=by
 have h1:¬((1:Int)<0):=by lia
 unfold oO;simp only[h1,if_false];refine ak0 ?_ ?_
 ·cases lo with
  |none=>rfl
  |some v=>exact Qh v n 0
 ·cases hi with
  |none=>rfl
  |some v=>exact Qh v n n
theorem Na(i j:Nat):j8 (i:Int) (j:Int) 1=j- i:=by
 unfold j8;have h1:(1:Int)>0:=by lia
 simp only[h1,if_true,Int.ediv_one]
 split<;>lia
theorem Dn(p:A2 v o)(h:Q o s):a7 (bf prog w) A (agT v) Q E s:=by
 cases p with
 |none=>exact akm h
 |int i t=>exact slicePart_int h
theorem rL{sl:ao}{vl vu:ax}{lo hi:Option Int}{n:Nat}{Q:Int×Int×Nat->az->Prop}(hs:s.heap.IsSliceOf sl vl vu .none)(pl:A2 vl lo)(pu:A2 vu hi)
 (h:Q (((ml n 0 lo:Nat):Int),1,ml n n hi- ml n 0 lo) s):a7 (bf prog w) A (zO (.ref sl) (pure (n:Int))) Q E s:=by
 obtain⟨os,hos,w6,RU⟩:=id hs;unfold zO agS;refine ay (ay (uK hos RU (x:=vl) rfl (ay (uK hos RU (x:=vu) rfl (ay (uK hos RU (x:=.none) rfl (aU ?_)))))));refine ay (akm ?_);show a7 _ _ (if ((1:Int)==0)=true then _ else _) _ _ s;rw[if_neg (by decide)];refine ay (Dn pl (ay (Dn pu (ay (aU ?_)))));show a7 _ _ (match oO lo hi 1 (n:Int)with|(lo,hi)=>pure (lo,(1:Int),j8 lo hi 1)) _ _ s;rw[OC lo hi n];show a7 _ _ (pure (((ml n 0 lo:Nat):Int),(1:Int),j8 ((ml n 0 lo:Nat):Int) ((ml n n hi:Nat):Int) 1)) _ _ s;rw[Na];exact aU h
theorem Vh(xs:Array ax)(i k:Nat):((c8 k).filterMap fun(m:Nat)=>xs[((i:Int)+(m:Int)*1).toNat]?).toArray=((xs.toList.drop i).take k).toArray:=by
 have e:(fun(m:Nat)=>xs[((i:Int)+(m:Int)*1).toNat]?)=fun m=>xs[i+m]? :=by
  funext m
  have:((i:Int)+(m:Int)*1).toNat=i+m:=by lia
  rw[this]
 rw[e];have:=pick_run xs i k;rw[List.filterMap_map]at this;have e2:((fun x=>xs[x]?)∘fun x=>i+x)=fun m=>xs[i+m]? :=rfl;rw[e2]at this;rw[this]
theorem zt{t sl:ao}{items:Array ax}{vl vu:ax}{lo hi:Option Int}{Q:ax->az->Prop}(ht:IsTup s.heap t items)(hs:s.heap.IsSliceOf sl vl vu .none)(pl:A2 vl lo)(pu:A2 vu hi)
 (hw:¬(ml items.size 0 lo=0/\ml items.size items.size hi=items.size))
 (h:Q (.ref s.heap.objs.size) {s with heap:=s.heap.push {cls:=.type "tuple",data:=.seq ((items.toList.drop (ml items.size 0 lo)).take (ml items.size items.size hi- ml items.size 0 lo)).toArray}})
 (hsz:items.size<=sizeLine):a7 (bf prog w) A (uJ (.ref t) (.ref sl)) Q E s:=by
 have Px:sizeOk (.seq ((items.toList.drop (ml items.size 0 lo)).take (ml items.size items.size hi- ml items.size 0 lo)).toArray):=by
  show ((items.toList.drop (ml items.size 0 lo)).take (ml items.size items.size hi- ml items.size 0 lo)).toArray.size<=sizeLine;rw[aW,aQ,aL,eI];lia
 have hj:ml items.size items.size hi<=items.size:=abU _ _ (aE _) hi;obtain⟨os,hos,w6,RU⟩:=id hs;have hTs:s.TypeIs (.ref sl) "slice":=⟨os,hos,w6⟩;unfold uJ
 try with_reducible refine fV ?_
 first|refine ay (aU ?_)|skip
 refine ay (aeF ht.typeIs (by decide) ?_)
 refine ay (wI (name:=cB "__getitem__") ht.typeIs d6
  (wH d6 ht.typeIs abJ ?_ (ad2 _ _)))
 show a7 _ _ (zN (.ref t)>>=_) _ _ s;refine ay (akZ ht ?_);refine ay (F0 hTs ?_);rw[if_pos (by decide)];refine ay (rL hs pl pu ?_)
 have Jl:¬((((ml items.size 0 lo:Nat):Int)==0&&(1:Int)==1&&(ml items.size items.size hi- ml items.size 0 lo)==items.size)=true):=by
  intro q;rw[bX,bX]at q;have q1:((ml items.size 0 lo:Nat):Int)=0:=eq_of_beq q.1.1;have q2:ml items.size items.size hi- ml items.size 0 lo=items.size:=eq_of_beq q.2;exact hw ⟨by lia,by lia⟩
 show a7 _ _ (if (((ml items.size 0 lo:Nat):Int)==0&&(1:Int)==1&&(ml items.size items.size hi- ml items.size 0 lo)==items.size)=true then _ else _) _ _ s;rw[if_neg Jl,Vh]
 first
  |exact ay (m:=kD _) (gQ (aU ⟨_,rfl,aU h⟩) Px)
  |exact ay (m:=kD _) (gQ (ay (aU (aU ⟨_,rfl,aU h⟩))) Px)
  |exact ay (ay (m:=kD _) (gQ (aU (aU ⟨_,rfl,aU h⟩)) Px))
  |exact ay (ay (m:=kD _) (gQ (aU ⟨_,rfl,aU h⟩) Px))
end
end HT
namespace L2
open PySem PySem.Spec PyProof.Rows
section
abbrev TO:=St->Hp->(Option Int->Hp->Prop)->Prop
def PO(X:Cx)(e:Option dQ)(t:TO):Prop:=
 ∀(ae:List (ao×Obj)) (s:az) (Z:St) (H:Hp) (Q:Option Int->Hp->Prop),Inv X ae Z H s->t Z H Q->
  a7 (bf X.prog X.w) X.A (evalPart e X.env) (fun u s'=>∃o H',Inv X ae Z H' s'/\A2 u o/\Q o H') X.xe s
def OV:TO:=fun _ H Q=>Q none H
def Ut(t:TE):TO:=fun Z H Q=>t Z H fun x H1=>∃i,x= .int i/\Q (some i) H1
theorem intsAre_of{ns:List Int}:∀{us:List ax},cZ (ns.map V.int) us->FZ us ns:=by
 induction ns with
 |nil=>intro us r;rw[qg]at r;cases r;exact .nil
 |cons n ns ih=>
  intro us r;rw[a4]at r
  cases r with
  |cons r1 r2=>
   obtain⟨t,e⟩:=r1;subst e;exact .cons n t (ih r2)
section
variable{X:Cx}{e:dQ}{te:TE}{lo hi:Option dQ}{tl th:TO}{pos p2:Pos}
theorem tD:PO X none OV:=by
 intro ae s Z H Q I h;rw[akY];exact aU ⟨none,H,I,.none,h⟩
theorem d4(h:PE X e te):PO X (some e) (Ut te):=by
 intro ae s Z H Q I hw;rw[evalPart_some];refine mW (h ae s Z H _ I hw) fun u s1 x H1 I1 r1 q1=> ?_;obtain⟨i,rfl,q⟩:=q1;obtain⟨t,rfl⟩:=r1;exact⟨some i,H1,I1,.int i t,q⟩
def Xr(X:Cx)(r:V->Option Int->Option Int->Hp->VK->Prop):Prop:=
 ∀(ae:List (ao×Obj)) (s:az) (Z:St) (H:Hp) (x:V) (v vl vu:ax) (lo hi:Option Int) (sl:ao) (Q:VK),Inv X ae Z H s->RelV x v->s.heap.IsSliceOf sl vl vu .none->A2 vl lo->A2 vu hi->r x lo hi H Q->
  ∃T id,typeLookup (.type T) "__getitem__"=pure (some (.builtin id))/\s.TypeIs v T/\a7 (bf X.prog X.w) X.A (uJ v (.ref sl)) (EP X ae Z Q) X.xe s
theorem Xr.or(h:Xr X r)(h':Xr X r'):Xr X (fun x lo hi H Q=>r x lo hi H Q\/r' x lo hi H Q):=by
 intro ae s Z H x v vl vu lo hi sl Q I rx hs pl pu q;obtain q|q:=q
 ·exact h ae s Z H x v vl vu lo hi sl Q I rx hs pl pu q
 ·exact h' ae s Z H x v vl vu lo hi sl Q I rx hs pl pu q
def tSl(r:V->Option Int->Option Int->Hp->VK->Prop)(te:TE)(tl th:TO):TE:=fun Z H Q=>te Z H fun x H1=>tl Z H1 fun l H2=>th Z H2 fun u H3=>r x l u H3 Q
theorem gm(hr:Xr X r)(he:PE X e te)(hl:PO X lo tl)(hu:PO X hi th):PE X (.Subscript e (.Slice lo hi none p2) pos) (tSl r te tl th):=by
 intro ae s Z H Q I h;refine ad1 (ui (he ae s Z H _ I h) fun v s1 zq=> ?_);obtain⟨x,H1,I1,r1,q1⟩:=zq;refine wpAny_Slice (ui (hl ae s1 Z H1 _ I1 q1) fun vl s2 ⟨l,H2,I2,pl,q2⟩=>ui (hu ae s2 Z H2 _ I2 q2) fun vu s3 zq=> ?_);obtain⟨u,H3,I3,pu,q3⟩:=zq;rw[akY];refine aU ?_;have I4:Inv X ae Z H3 {s3 with heap:=s3.heap.push {cls:=.type "slice",data:=.fields #[vl,vu,.none]}}:=I3.kept (t':=s3.toks) fun b ob q=>a5 _ q;obtain⟨T,id,hT,ht,hg⟩:=hr ae {s3 with heap:=s3.heap.push {cls:=.type "slice",data:=.fields #[vl,vu,.none]}} Z H3 x v vl vu l u s3.heap.objs.size Q I4 r1 (aeE ..) pl pu q3;show a7 (bf X.prog X.w) X.A (SW e (.Slice lo hi none p2) v (.ref s3.heap.objs.size)) (EP X ae Z Q) X.xe {s3 with heap:=s3.heap.push {cls:=.type "slice",data:=.fields #[vl,vu,.none]}};exact tail_any (ops:=[.ref s3.heap.objs.size,v]) ht hT hg (by with_unfolding_all rfl)
def lr(xs:List V)(lo hi:Option Int):List V:=(xs.drop (HT.ml xs.length 0 lo)).take (HT.ml xs.length xs.length hi- HT.ml xs.length 0 lo)
theorem Bp(xs:List V)(lo hi:Option Int):(lr xs lo hi).length<=xs.length:=by
 unfold lr;rw[aQ,aL];omega
def ab2(K:aA):V->Option Int->Option Int->Hp->VK->Prop:=fun x lo hi H Q=>∃a xs,x= .ref a/\l6 K H a xs/\
 ¬(HT.ml xs.length 0 lo=0/\HT.ml xs.length xs.length hi=xs.length)/\∀p,H p=none->Q (.ref p) (upd H p (.tup (lr xs lo hi)))
theorem abT:Xr X (ab2 X.K):=by
 intro ae s Z H x v vl vu lo hi sl Q I rx hs pl pu h;obtain⟨a,xs,rfl,hx,hw,q⟩:=h
 cases rx
 obtain⟨cV,r,ht,hz⟩:=I.tuple hx;have hlen:cV.toArray.size=xs.length:=by rw[aW];exact r.length.symm
 exists "tuple",_,d6.lookup,ht.typeIs;refine HT.zt ht hs pl pu (by rw[hlen];exact hw) ?_ (by rw[hlen];exact hz);rw[hlen];refine⟨.ref s.heap.objs.size,_,I.laid (t':=s.toks) (o:=.tup (lr xs lo hi)) (fun b ob q=>a5 _ q) (aE _) ?_,rfl,q _ (I.fW.fresh (aE _))⟩;exact⟨cj (Bp xs lo hi) hz,_,(r.drop (HT.ml xs.length 0 lo)).take (HT.ml xs.length xs.length hi- HT.ml xs.length 0 lo),ahN _ _⟩
end
end
section
def HZ(n:Nat)(i:Int):Option Nat:=if 0<=i then(if i<n then some i.toNat else none)else if-(n:Int)<=i then some (i+n).toNat else none
def zF{α:Type}(xs:List α)(i:Int):Option α:=(HZ xs.length i).bind fun j=>xs[j]?
theorem Pr(h:HZ n i=some j):seqIndex? i n=some j/\j<n/\ -(n:Int)<=i/\i<n:=by
 unfold HZ at h
 by_cases h0:0<=i
 ·rw[if_pos h0]at h
  by_cases h1:i<n
  ·rw[if_pos h1]at h;have e:i.toNat=j:=bo h;exact⟨by rw[aaN h0 h1,e],by omega,by lia,h1⟩
  ·rw[if_neg h1]at h;cases h
 ·rw[if_neg h0]at h
  by_cases h1: -(n:Int)<=i
  ·rw[if_pos h1]at h;have e:(i+n).toNat=j:=bo h;exact⟨by rw[seqIndex_neg (by lia) h1,e],by lia,h1,by lia⟩
  ·rw[if_neg h1]at h;cases h
theorem Ql{α:Type}{xs:List α}{i:Int}{v:α}(h:zF xs i=some v):∃j,seqIndex? i xs.length=some j/\xs[j]? =some v/\j<xs.length/\ -(xs.length:Int)<=i/\i<xs.length:=by
 unfold zF at h
 cases e:HZ xs.length i with
 |none=>rw[e]at h;cases h
 |some j=>
  rw[e]at h;obtain⟨h1,h2,h3,h4⟩:=Pr e;exact⟨j,h1,h,h2,h3,h4⟩
theorem Cv{α:Type}{xs:List α}{j:Nat}{v:α}(h:xs[j]? =some v):zF xs (j:Int)=some v:=by
 have hj:j<xs.length:=(aw.mp h).1
 have e:HZ xs.length (j:Int)=some j:=by
  unfold HZ;rw[if_pos (by lia),if_pos (by omega)];simp
 unfold zF;rw[e];exact h
theorem LN{α:Type}(xs:List α)(v:α):zF (xs++[v]) (-1)=some v:=by
 have hl:(xs++[v]).length=xs.length+1:=by simp
 have e:HZ (xs++[v]).length (-1)=some xs.length:=by
  unfold HZ;rw[hl,if_neg (by decide),if_pos (by lia)]
  congr 1
  lia
 unfold zF;rw[e];show (xs++[v])[xs.length]? =some v;simp
def Qw(b:dQ):Prop:=∀o i,subscripted b false o i=operate [o,i] (uJ o i)
def IxR(X:Cx)(r:R2):Prop:=
 ∀(value slice:dQ) (ae:List (ao×Obj)) (s:az) (Z:St) (H:Hp) (x y:V) (v u:ax) (Q:VK),Inv X ae Z H s->RelV x v->RelV y u->r x y H Q->
  subscripted slice false v u=operate [v,u] (uJ v u)->a7 (bf X.prog X.w) X.A (SW value slice v u) (EP X ae Z Q) X.xe s
def MtR(X:Cx)(id:String)(r:V->List V->Hp->VK->Prop):Prop:=
 ∀(ae:List (ao×Obj)) (s:az) (Z:St) (H:Hp) (x:V) (xs:List V) (v:ax) (us:List ax) (Q:VK),Inv X ae Z H s->RelV x v->cZ xs us->r x xs H Q->
  a7 (bf X.prog X.w) X.A (call (.builtin id) (v::us)) (EP X ae Z Q) X.xe s
section
variable{X:Cx}{a b:dQ}{ta tb:TE}{pos:Pos}
theorem c5(hr:IxR X r)(ha:PE X a ta)(hb:PE X b tb)(hs:Qw b):PE X (.Subscript a b pos) (tOp r ta tb):=by
 intro ae s Z H Q I h;exact ad1 (adN ha hb I h fun v u s2 x y H2 I2 rx ry q=>hr a b ae s2 Z H2 x y v u Q I2 rx ry q (hs _ _))
def afi(K:aA):R2:=fun x y H Q=>∃p xs i v,x= .ref p/\y= .int i/\kE K H p xs/\zF xs i=some v/\Q v H
def aiG(K:aA):R2:=fun x y H Q=>∃p xs i v,x= .ref p/\y= .int i/\l6 K H p xs/\zF xs i=some v/\Q v H
theorem qE:IxR X (afi X.K):=by
 intro value slice ae s Z H x y v u Q I rx ry h hs;obtain⟨p,xs,i,z,rfl,rfl,hq,he,q⟩:=h
 cases rx
 obtain⟨t,rfl⟩:=ry;obtain⟨cV,r,pl,hz⟩:=I.list hq;obtain⟨j,h1,h2,h3,h4,h5⟩:=Ql he;obtain⟨w,ew,BN⟩:=r.get h2;have hl:=r.length;have hn:=HP;have fin:EP X ae Z Q w s:=⟨z,H,I,BN,q⟩
 by_cases h0:0<=i
 ·have hj:i.toNat=j:=by
   rw[aaN h0 h5]at h1;exact bo h1
  exact item_listR pl.isList h0 (by lia) (by rw[hj];simpa using ew) fin hs
 ·have hj:(i+(cV.toArray.size:Int)).toNat=j:=by
   rw[seqIndex_neg (by lia) h4]at h1;rw[aW,<-hl];exact bo h1
  exact XB (x:=w) pl.isList.typeIs aeD.lookup
   (wpAny_getItem_list_neg (Q:=fun r s'=>r=w/\EP X ae Z Q r s') pl.isList (by lia) (by rw[aW]<;>lia) (by lia) (by rw[hj];simpa using ew) ⟨rfl,fin⟩) hs
theorem D3:IxR X (aiG X.K):=by
 intro value slice ae s Z H x y v u Q I rx ry h hs;obtain⟨p,xs,i,z,rfl,rfl,hq,he,q⟩:=h
 cases rx
 obtain⟨t,rfl⟩:=ry;obtain⟨cV,r,pl,hz⟩:=I.tuple hq;obtain⟨j,h1,h2,h3,h4,h5⟩:=Ql he;obtain⟨w,ew,BN⟩:=r.get h2;have hl:=r.length;have hn:=HP;have fin:EP X ae Z Q w s:=⟨z,H,I,BN,q⟩
 exact XB (x:=w) pl.typeIs slot_tuple_getitem.lookup
  (getItem_tuple (j:=j) (Q:=fun r s'=>r=w/\EP X ae Z Q r s') pl (by lia) (by lia) (by rw[aW,<-hl];exact h1) (by simpa using ew) ⟨rfl,fin⟩) hs
theorem NB(cV:List ax)(n j:Nat)(u:ax):A0 (·.setIfInBounds j u) {cls:=.type "list",data:=.seq cV.toArray n}={cls:=.type "list",data:=.seq (cV.set j u).toArray n}:=by
 simp[A0]
theorem Inv.lst{ae:List (ao×Obj)}{Z:St}{H:Hp}{s:az}{p:ao}{xs:List V}(I:Inv X ae Z H s)(h:H p=some (.lst xs)):
 ∃(cV:List ax) (n:Nat),cZ xs cV/\s.heap.get? p=some {cls:=.type "list",data:=.seq cV.toArray n}/\xs.length<=sizeLine:=by
 obtain⟨z,cV,n,r,e⟩:=I.fW p _ h;exact⟨cV,n,r,e,z⟩
theorem Inv.acD{ae:List (ao×Obj)}{Z:St}{H:Hp}{s:az}{p:ao}{xs ys:List V}{cV its':List ax}{n n':Nat}{f:Obj->Obj}(I:Inv X ae Z H s)(h:H p=some (.lst xs))
 (ho:s.heap.get? p=some {cls:=.type "list",data:=.seq cV.toArray n}) (hf:f {cls:=.type "list",data:=.seq cV.toArray n}={cls:=.type "list",data:=.seq its'.toArray n'}) (r:cZ ys its') (hz:ys.length<=sizeLine) (t:Nat):
 Inv X ae Z (upd H p (.lst ys)) {s with heap:=s.heap.update p f,toks:=t}:=by
 have e:(s.heap.update p f).get? p=some {cls:=.type "list",data:=.seq its'.toArray n'}:=by
  rw[og f ho (by rw[hf]<;>rfl),hf]
 refine I.write (x:=p) (e:=p) (by rw[h];trivial) (.inl rfl) (fun b u hb q=>(uI _ _ (aD hb)).trans q) ⟨_,e⟩ ?_;exact⟨hz,its',n',r,e⟩
def aa2:V->V->V->Hp->(Hp->Prop)->Prop:=fun o i v H Q=>∃p xs k j,o= .ref p/\i= .int k/\H p=some (.lst xs)/\HZ xs.length k=some j/\Q (upd H p (.lst (xs.set j v)))
theorem set_list:ag7 X aa2:=by
 intro ae s Z H o i v ov iv u Q I ro ri rv h;obtain⟨p,xs,k,j,rfl,rfl,hp,hj,q⟩:=h
 cases ro
 obtain⟨t,rfl⟩:=ri;obtain⟨cV,n,r,ho,hz⟩:=I.lst hp;obtain⟨h1,h2,h3,h4⟩:=Pr hj;have hl:=r.length;have hn:=HP
 have I':Inv X ae Z (upd H p (.lst (xs.set j v))) {s with heap:=s.heap.update p (A0 (·.setIfInBounds j u))}:=
  I.acD hp ho (NB cV n j u) (r.set rv j) (by rw[vM];exact hz) s.toks
 by_cases h0:0<=k
 ·have hk:k.toNat=j:=by
   rw[aaN h0 h4]at h1;exact bo h1
  exact PySem.W.ki_setAt ho h0 (by lia) (by rw[aW,<-hl];exact h4) (by rw[hk];exact⟨_,I',q⟩)
 ·have hk:(k+(cV.toArray.size:Int)).toNat=j:=by
   rw[seqIndex_neg (by lia) h3]at h1;rw[aW,<-hl];exact bo h1
  exact PySem.W.ki_setBack ho (by lia) (by rw[aW,<-hl];exact h3) (by lia) (by rw[hk];exact⟨_,I',q⟩)
theorem Hs(lo hi:Option Int)(n:Nat):(qo lo hi none n).1=((HT.ml n 0 lo:Nat):Int)/\(qo lo hi none n).2.1=((HT.ml n n hi:Nat):Int)/\(qo lo hi none n).2.2=1:=by
 refine⟨?_,?_,rfl⟩
 ·cases lo with
  |none=>simp[qo,HT.ml]
  |some i=>
   simp only[qo,HT.ml,TV,show (1:Int)>0 by decide,if_true]
   by_cases h:i<0
   ·simp only[h,if_true]<;>lia
   ·simp only[h,if_false]<;>lia
 ·cases hi with
  |none=>simp[qo,HT.ml]
  |some i=>
   simp only[qo,HT.ml,TV,show (1:Int)>0 by decide,if_true]
   by_cases h:i<0
   ·simp only[h,if_true]<;>lia
   ·simp only[h,if_false]<;>lia
theorem Fp(cV:List ax)(lo hi:Option Int):slicePick cV.toArray lo hi none=((cV.drop (HT.ml cV.length 0 lo)).take (HT.ml cV.length cV.length hi- HT.ml cV.length 0 lo)).toArray:=by
 obtain⟨h1,h2,h3⟩:=Hs lo hi cV.toArray.size;unfold slicePick;rw[h1,h2,h3];simp only[sliceRange_one,pick_run,aW]<;>rfl
def aiA(K:aA):V->Option Int->Option Int->Hp->VK->Prop:=fun x lo hi H Q=>∃a xs,x= .ref a/\kE K H a xs/\∀p,H p=none->Q (.ref p) (upd H p (.lst (lr xs lo hi)))
theorem O3:Xr X (aiA X.K):=by
 intro ae s Z H x v vl vu lo hi sl Q I rx hs pl pu h;obtain⟨a,xs,rfl,hx,q⟩:=h
 cases rx
 obtain⟨cV,r,ht,hz⟩:=I.list hx;have hlen:=r.length;exists "list",_,aeD.lookup,ht.isList.typeIs;refine wpAny_getItem_list_slice ht.isList hs pl pu .none (by simp) ?_ (by rw[aW]<;>lia);rw[Fp,<-hlen];refine⟨.ref s.heap.objs.size,_,I.laid (t':=s.toks) (o:=.lst (lr xs lo hi)) (fun b ob q=>a5 _ q) (aE _) ?_,rfl,q _ (I.fW.fresh (aE _))⟩;exact⟨cj (Bp xs lo hi) hz,_,0,(r.drop (HT.ml xs.length 0 lo)).take (HT.ml xs.length xs.length hi- HT.ml xs.length 0 lo),b9 _ rfl⟩
def Bo:V->Bool
 | .fI=>true
 | .bl _=>true
 | .int _=>true
 | .str _=>true
 |_=>false
def Ym:V->V->Bool
 | .fI,.fI=>true
 | .bl a,.bl b=>a==b
 | .bl a,.int b=>(if a then 1 else 0)==b
 | .int a,.bl b=>a==(if b then 1 else 0)
 | .int a,.int b=>a==b
 | .str a,.str b=>a==b
 |_,_=>false
theorem adF(ry:RelV y u)(rx:RelV x v)(fy:Bo y=true)(fx:Bo x=true):agR A s u v (Ym y x):=by
 cases y with
 |fI=>
  cases ry
  cases x with
  |fI=>cases rx;exact akX _
  |bl b=>cases rx;exact akW b
  |int b=>obtain⟨t,rfl⟩:=rx;exact akV b t
  |str b=>obtain⟨t,rfl⟩:=rx;exact akU b t
  |_=>exact absurd (show false=true from fx) a8
 |bl a=>
  cases ry
  cases x with
  |fI=>cases rx;exact akT a
  |bl b=>cases rx;exact akS a b
  |int b=>obtain⟨t,rfl⟩:=rx;exact akR a b t
  |str b=>obtain⟨t,rfl⟩:=rx;exact akQ a b t
  |_=>exact absurd (show false=true from fx) a8
 |int a=>
  obtain⟨t',rfl⟩:=ry
  cases x with
  |fI=>cases rx;exact akP a t'
  |bl b=>cases rx;exact akO a t' b
  |int b=>obtain⟨t,rfl⟩:=rx;exact akN a t' b t
  |str b=>obtain⟨t,rfl⟩:=rx;exact JE a t' b t
  |_=>exact absurd (show false=true from fx) a8
 |str a=>
  obtain⟨t',rfl⟩:=ry
  cases x with
  |fI=>cases rx;exact akM a t'
  |bl b=>cases rx;exact akL a t' b
  |int b=>obtain⟨t,rfl⟩:=rx;exact JD a t' b t
  |str b=>obtain⟨t,rfl⟩:=rx;exact akK a t' b t
  |_=>exact absurd (show false=true from fx) a8
 |_=>exact absurd (show false=true from fy) a8
def Ot(x:V)(u:ax):Bool:=match u with
 | .none=>Ym .fI x
 | .bool b=>Ym (.bl b) x
 | .int i _=>Ym (.int i) x
 | .str z _=>Ym (.str z) x
 |_=>false
theorem W7(r:RelV y u)(f:Bo y=true):Ot x u=Ym y x:=by
 cases y with
 |fI=>cases r;rfl
 |bl b=>cases r;rfl
 |int i=>obtain⟨t,rfl⟩:=r;rfl
 |str z=>obtain⟨t,rfl⟩:=r;rfl
 |_=>exact absurd (show false=true from f) a8
theorem Cw:∀{xs:List V} {us:List ax},cZ xs us->xs.all Bo=true->us.any (Ot x)=xs.any fun y=>Ym y x:=by
 intro xs us h f
 induction h with
 |nil=>rfl
 |cons r t ih=>
  rw[ma,bX]at f;rw[l9,l9,W7 r f.1,ih f.2]
theorem vo(rx:RelV x v)(fx:Bo x=true):∀{xs:List V} {us:List ax},cZ xs us->xs.all Bo=true->∀u∈us,agR A s u v (Ot x u)
 |_,_,.nil,_=>fun u hu=>by cases hu
 |y::xs,u::us,.cons r t,f=>fun u' hu=>by
  rw[ma,bX]at f;obtain rfl|hu:=a0.mp hu
  ·rw[W7 r f.1];exact adF r rx f.1 fx
  ·exact vo rx fx t f.2 u' hu
def inV(x:V)(xs:List V):Bool:=xs.any fun y=>Ym y x
def rIn(K:aA)(neg:Bool):R2:=fun x y H Q=>∃p xs,y= .ref p/\(kE K H p xs\/l6 K H p xs)/\Bo x=true/\xs.all Bo=true/\Q (.bl (if neg then !inV x xs else inV x xs)) H
theorem Gi:j9 X (bZ .In) (rIn X.K false):=by
 intro ae s Z H x y v u Q I rx ry h;obtain⟨p,xs,rfl,hq,fx,fs,q⟩:=h
 cases ry
 obtain hq|hq:=hq
 ·obtain⟨cV,r,pl,hz⟩:=I.list hq;refine SeqAt.in_listAt (Ot x) pl.isList (fun w hw=>vo rx fx r fs w (by simpa using hw)) ⟨.bl _,H,I,rfl,?_⟩;rw[show cV.toArray.any (Ot x)=cV.any (Ot x) by simp,Cw r fs];exact q
 ·obtain⟨cV,r,pl,hz⟩:=I.tuple hq;refine SeqAt.in_tupleAt (Ot x) pl (fun w hw=>vo rx fx r fs w (by simpa using hw)) ⟨.bl _,H,I,rfl,?_⟩;rw[show cV.toArray.any (Ot x)=cV.any (Ot x) by simp,Cw r fs];exact q
theorem Hy:j9 X (bZ .NotIn) (rIn X.K true):=by
 intro ae s Z H x y v u Q I rx ry h;rcases h with⟨p,xs,rfl,hq,fx,fs,q⟩
 cases ry
 obtain hq|hq:=hq
 ·rcases I.list hq with⟨cV,r,pl,hz⟩;refine SeqAt.notIn_listAt (Ot x) pl.isList (fun w hw=>vo rx fx r fs w (by simpa using hw)) ⟨.bl _,H,I,rfl,?_⟩;rw[show cV.toArray.any (Ot x)=cV.any (Ot x) by simp,Cw r fs];exact q
 ·rcases I.tuple hq with⟨cV,r,pl,hz⟩;refine SeqAt.notIn_tupleAt (Ot x) pl (fun w hw=>vo rx fx r fs w (by simpa using hw)) ⟨.bl _,H,I,rfl,?_⟩;rw[show cV.toArray.any (Ot x)=cV.any (Ot x) by simp,Cw r fs];exact q
theorem tZ:qe X (.builtin "len") (fun xs H Q=>∃p ys,xs=[.ref p]/\(kE X.K H p ys\/l6 X.K H p ys)/\Q (.int ys.length) H):=by
 intro ae s Z H xs us Q I r h;obtain⟨p,ys,rfl,hq,q⟩:=h;obtain⟨u,rfl,rx⟩:=vals1 r
 cases rx
 have hn:=HP;obtain hq|hq:=hq
 ·obtain⟨cV,r',pl,hz⟩:=I.list hq;have hlen:=r'.length;exact Calls.call_len_list pl.isList (by simp only[aW]<;>lia) ⟨.int ys.length,H,I.tok _,⟨s.toks+1,by rw[aW,hlen]⟩,q⟩
 ·obtain⟨cV,r',pl,hz⟩:=I.tuple hq;have hlen:=r'.length;exact len_tuple pl (by simp only[aW]<;>lia) ⟨.int ys.length,H,I.tok _,⟨s.toks+1,by rw[aW,hlen]⟩,q⟩
theorem tY:qe X (.type "list") (fun xs H Q=>∃p ys,xs=[.ref p]/\(kE X.K H p ys\/l6 X.K H p ys)/\∀l,H l=none->Q (.ref l) (upd H l (.lst ys))):=by
 intro ae s Z H xs us Q I r h;obtain⟨p,ys,rfl,hq,q⟩:=h;obtain⟨u,rfl,rx⟩:=vals1 r
 cases rx
 have fin:∀(cV:List ax),cZ ys cV->ys.length<=sizeLine->∀(h':dg) (c':Nat),(∀b o',s.heap.get? b=some o'->h'.get? b=some o')->
  h'.get? s.heap.objs.size=some {cls:=.type "list",dict:=none,data:=.seq cV.toArray c',slots:= #[]}->EP X ae Z Q (.ref s.heap.objs.size) {s with heap:=h'}:=fun cV r' hz h' c' kp e=>
  ⟨.ref s.heap.objs.size,_,I.laid (t':=s.toks) kp (aE _) (show iw X.prog X.w _ h' _ (.lst ys) from ⟨hz,cV,c',r',e⟩),rfl,q _ (I.fW.fresh (aE _))⟩
 obtain hq|hq:=hq
 ·obtain⟨cV,r',pl,hz⟩:=I.list hq;have hlen:=r'.length;obtain⟨o,ho,hc,n,hd⟩:=pl.isList;exact akJ p (.inl rfl) ho hc hd (fun h' c' kp e=>fin cV r' hz h' c' kp e) (by simp only[aW]<;>lia)
 ·obtain⟨cV,r',pl,hz⟩:=I.tuple hq;have hlen:=r'.length;obtain⟨o,ho,hc,n,hd⟩:=pl;exact akJ p (.inr rfl) ho hc hd (fun h' c' kp e=>fin cV r' hz h' c' kp e) (by simp only[aW]<;>lia)
theorem gK:qe X (.type "tuple") (fun xs H Q=>∃p ys,xs=[.ref p]/\((kE X.K H p ys/\∀l,H l=none->Q (.ref l) (upd H l (.tup ys)))\/(l6 X.K H p ys/\Q (.ref p) H))):=by
 intro ae s Z H xs us Q I r h;obtain⟨p,ys,rfl,h⟩:=h;obtain⟨u,rfl,rx⟩:=vals1 r
 cases rx
 obtain⟨hq,q⟩|⟨hq,q⟩:=h
 ·obtain⟨cV,r',pl,hz⟩:=I.list hq;have hlen:=r'.length;refine call_tuple_list pl.isList (fun h' kp=> ?_) (by simp only[aW]<;>lia);have I1:Inv X ae Z H {s with heap:=h'}:=I.kept (t':=s.toks) kp
  have I2:Inv X ae Z (upd H h'.objs.size (.tup ys)) {s with heap:=h'.push {cls:=.type "tuple",data:=.seq cV.toArray}}:=
   I1.laid (t':=s.toks) (fun b o e=>a5 _ e) (aE _) (show iw X.prog X.w _ _ _ (.tup ys) from ⟨hz,cV,r',ahN _ _⟩)
  exact⟨.ref h'.objs.size,_,I2,rfl,q _ (I1.fW.fresh (aE _))⟩
 ·obtain⟨cV,r',pl,hz⟩:=I.tuple hq;exact call_tuple_same pl ⟨.ref p,H,I,rfl,q⟩
def tyV(K:aA)(T:String)(x:V)(H:Hp):Prop:=match x with
 | .str _=>T="str"
 | .int _=>T="int"
 | .ref p=>(T="list"/\∃xs,kE K H p xs)\/(T="tuple"/\∃o,K.lookup p=some o/\o.cls= .type "tuple"/\o.dict=none)\/
  (T="dict"/\((∃kvs,H p=some (.dK kvs))\/∃kvs,H p=some (.dT kvs)))\/(T="set"/\∃S n,H p=some (.set S n))
 |_=>False
theorem My{ae:List (ao×Obj)}{Z:St}{H:Hp}{s:az}{T:String}{x:V}{v:ax}(I:Inv X ae Z H s)(r:RelV x v)(ty:tyV X.K T x H):
 s.TypeIs v T/\∀a,v= .ref a->∃ob,s.heap.get? a=some ob/\ob.dict=none:=by
 cases x with
 |str z=>
  obtain⟨t,rfl⟩:=r
  cases (show T="str" from ty)
  exact⟨typeIs_str s z t,fun _ e=>nomatch e⟩
 |int i=>
  obtain⟨t,rfl⟩:=r
  cases (show T="int" from ty)
  exact⟨ad0 s i t,fun _ e=>nomatch e⟩
 |ref p=>
  cases r
  obtain⟨rfl,xs,hq⟩|⟨rfl,o,hk,hc,hd⟩|⟨rfl,hk⟩|⟨rfl,S,n,hk⟩:=ty
  ·obtain⟨cV,_,pl,_⟩:=I.list hq;refine⟨pl.isList.typeIs,fun a e=> ?_⟩
   cases e
   obtain⟨o,n,e,c,hd,_⟩:=pl;exact⟨o,e,hd⟩
  ·refine⟨⟨o,I.Ay p o hk,hc⟩,fun a e=> ?_⟩
   cases e
   exact⟨o,I.Ay _ o hk,hd⟩
  ·have z:∃o,s.heap.get? p=some o/\o.ExactDict:=by
    obtain⟨kvs,hk⟩|⟨kvs,hk⟩:=hk
    ·obtain⟨_,_,_,_,o,_,_,e,ex,_⟩:=I.fW p _ hk;exact⟨o,e,ex⟩
    ·obtain⟨_,_,_,_,o,_,_,e,ex,_⟩:=I.fW p _ hk;exact⟨o,e,ex⟩
   obtain⟨o,e,ex⟩:=z;refine⟨⟨o,e,ex.1⟩,fun a e2=> ?_⟩
   cases e2
   exact⟨o,e,ex.2.1⟩
  ·obtain⟨o,_,_,_,e,ex,_⟩:=I.fW p _ hk;refine⟨⟨o,e,ex.1⟩,fun a e2=> ?_⟩
   cases e2
   exact⟨o,e,ex.2.1⟩
 |_=>exact b7 ty
variable{o e:dQ}{es:List dQ}{to:TE}{t:TA}{name:Str}{apos kL:Pos}{T id:String}{r:V->List V->Hp->VK->Prop}
end
end
section
def MtM(X:Cx)(id:String)(r:V->List V->Hp->VK->Prop):Prop:=
 ∀(ae:List (ao×Obj)) (s:az) (Z:St) (H:Hp) (x:V) (xs:List V) (v:ax) (us:List ax) (Q:VK),Inv X ae Z H s->RelV x v->cZ xs us->r x xs H Q->
  a7 (bf X.prog X.w) X.A (call (.builtin id) (v::us)) (EP X ae Z Q) X.xe s
theorem cZ.one:∀{x:V} {us:List ax},cZ [x] us->∃u,us=[u]/\RelV x u:=by
 intro x us h
 cases h with
 |cons r t=>cases t;exact⟨_,rfl,r⟩
theorem cZ.zero:∀{us:List ax},cZ [] us->us=[]
 |_,.nil=>rfl
theorem cZ.dropLast{xs:List V}{us:List ax}(h:cZ xs us):cZ xs.dropLast us.dropLast:=by
 induction h with
 |nil=>exact .nil
 |cons r t ih=>
  cases t with
  |nil=>exact .nil
  |cons q t'=>exact .cons r ih
theorem cZ.rep(h:cZ xs us):∀k:Nat,cZ (aS k xs).flatten (aS k us).flatten
 |0=>.nil
 |k+1=>by
  rw[lH,lH,sF,sF];exact cZ.append h (cZ.rep h k)
theorem Oq{α:Type}(l:List α):l.eraseIdx (l.length- 1)=l.dropLast:=by
 induction l with
 |nil=>rfl
 |cons a r ih=>
  cases r with
  |nil=>rfl
  |cons b r=>
   have e:(a::b::r).length- 1=((b::r).length- 1)+1:=by
    have h1:(a::b::r).length=r.length+2:=rfl;have h2:(b::r).length=r.length+1:=rfl;lia
   rw[e,mR,ih]
   all_goals rfl
theorem foldl_rep(cV:List ax):∀(k:Nat) (acc:List ax),
 TU (fun x1 x2=>x1++x2) acc.toArray (aS k cV.toArray)=(acc++(aS k cV).flatten).toArray
 |0,acc=>by simp
 |k+1,acc=>by
  have e:acc.toArray++cV.toArray=(acc++cV).toArray:=by simp
  have e2:(acc++cV)++(aS k cV).flatten=acc++(aS (k+1) cV).flatten:=by
   rw[lH,sF,bu]
  rw[<-e2,<-foldl_rep cV k (acc++cV),<-e,lH,dX]
section
variable{X:Cx}{ae:List (ao×Obj)}{Z:St}{H:Hp}{s:az}{l b:ao}{xs ys zs:List V}
theorem Inv.acE{cV its':List ax}(I:Inv X ae Z H s)(hH:H l=some (.lst xs))
 (e:s.heap.get? l=some {cls:=.type "list",data:=.seq cV.toArray n}) (hf:f cV.toArray=its'.toArray) (hv:cZ ys its') (hz:ys.length<=sizeLine):
 Inv X ae Z (upd H l (.lst ys)) {s with heap:=s.heap.update l (A0 f),toks:=t'}:=by
 have q:=alC e f;rw[hf]at q;refine I.write (x:=l) (e:=l) (by rw[hH];exact trivial) (.inl rfl) (fun b' u hb hu=>(uI s.heap (A0 f) (aD hb)).trans hu) ⟨_,q⟩ ?_;exact⟨hz,its',_,hv,q⟩
theorem Inv.afC{cV:List ax}(I:Inv X ae Z H s)(hv:cZ ys cV)(hz:ys.length<=sizeLine):
 Inv X ae Z (upd H s.heap.objs.size (.lst ys)) {s with heap:=s.heap.push {cls:=.type "list",data:=.seq cV.toArray},toks:=t'}:=
 I.laid (fun _ _ q=>a5 _ q) (aE _) ⟨hz,cV,0,hv,b9 _ rfl⟩
theorem Inv.fresh(I:Inv X ae Z H s):H s.heap.objs.size=none:=I.fW.fresh (aE _)
theorem Inv.HN(I:Inv X ae Z H s)(hH:H l=some (.lst xs)):xs.length<=sizeLine/\∃(cV:List ax) (n:Nat),cZ xs cV/\xs.length=cV.length/\s.heap.get? l=some {cls:=.type "list",data:=.seq cV.toArray n}:=by
 rcases I.fW l _ hH with⟨z,cV,n,r,e⟩;exact⟨z,cV,n,r,r.length,e⟩
theorem KL(h:n<=sizeLine):kF n=false:=by
 unfold kF;exact decide_eq_false (by lia)
end
section
variable{X:Cx}
def Y8:V->List V->Hp->VK->Prop:=fun x vs H Q=>∃l xs y,x= .ref l/\vs=[y]/\H l=some (.lst xs)/\xs.length<sizeLine/\Q .fI (upd H l (.lst (xs++[y])))
theorem fg:MtM X "list.append" Y8:=by
 intro ae s Z H x vs v us Q I rx rv h;obtain⟨l,xs,y,rfl,rfl,hH,hz,q⟩:=h
 cases rx
 obtain⟨u,rfl,ru⟩:=rv.one;obtain⟨z,cV,n,r,hl,e⟩:=I.HN hH;refine pY F.slot_list_append ⟨_,e,rfl⟩ F.entry_list_append (F.args_list_append_2 _ _) (PySem.list_append l cV.toArray n u (by rw[aW];lia)) ⟨e,?_⟩;refine⟨.fI,_,I.acE (its':=cV++[u]) hH e (by simp) (r.append (.cons ru .nil)) ?_,rfl,q⟩;rw[aF,d8];lia
def Y7:V->List V->Hp->VK->Prop:=fun x vs H Q=>∃l b xs zs,x= .ref l/\vs=[.ref b]/\H l=some (.lst xs)/\H b=some (.lst zs)/\xs.length+zs.length<=sizeLine/\Q .fI (upd H l (.lst (xs++zs)))
theorem jP:MtM X "list.extend" Y7:=by
 intro ae s Z H x vs v us Q I rx rv h;obtain⟨l,b,xs,zs,rfl,rfl,hH,hB,hz,q⟩:=h
 cases rx
 obtain⟨u,rfl,ru⟩:=rv.one
 cases ru
 obtain⟨z,cV,n,r,hl,e⟩:=I.HN hH;obtain⟨z2,K2,n2,r2,wz,e2⟩:=I.HN hB;have hsz:cV.toArray.size+K2.toArray.size<=sizeLine:=by rw[aW,aW];lia
 have Wk:¬(!cV.toArray.isEmpty&&kF (cV.toArray.size+K2.toArray.size))=true:=by
  rw[KL hsz,aby];exact a8
 refine pY F.slot_list_extend ⟨_,e,rfl⟩ F.entry_list_extend (F.args_list_extend_2 _ _)
  (AutoSeq1.list_extend_list_list_0 l cV.toArray n b K2.toArray n2 Wk (by rw[aW];lia) (by lia)) ⟨e,e2,?_⟩
 refine⟨.fI,_,I.acE (its':=cV++K2) hH e (by simp) (r.append r2) ?_,rfl,q⟩;rw[aF];lia
def aiD:V->List V->Hp->VK->Prop:=fun x vs H Q=>∃l xs y,x= .ref l/\vs=[]/\H l=some (.lst xs)/\xs[xs.length- 1]? =some y/\Q y (upd H l (.lst xs.dropLast))
theorem q0:MtM X "list.pop" aiD:=by
 intro ae s Z H x vs v us Q I rx rv h;obtain⟨l,xs,y,rfl,rfl,hH,hy,q⟩:=h
 cases rx
 have hus:=rv.zero;subst hus;obtain⟨z,cV,n,r,hl,e⟩:=I.HN hH;obtain⟨u,hu,ru⟩:=r.get hy
 have hy':cV.toArray[cV.toArray.size- 1]? =some u:=by
  show cV.toArray[cV.length- 1]? =some u;rw[<-vL,<-hl];exact hu
 refine pY F.slot_list_pop ⟨_,e,rfl⟩ F.entry_list_pop (F.args_list_pop_1 _) (MeetsSeq.list_pop_last l cV.toArray n u hy' (by rw[aW];lia)) ⟨e,?_⟩;refine⟨y,_,I.acE (its':=cV.dropLast) hH e ?_ r.dropLast ?_,ru,q⟩
 ·show cV.toArray.eraseIdxIfInBounds (cV.toArray.size- 1)=cV.dropLast.toArray;rw[aW,List.eraseIdxIfInBounds_toArray,Oq]
 ·rw[List.length_dropLast];omega
def afl:R2:=fun x y H Q=>∃l b xs zs,x= .ref l/\y= .ref b/\H l=some (.lst xs)/\H b=some (.lst zs)/\xs.length+zs.length<=sizeLine/\∀p,H p=none->Q (.ref p) (upd H p (.lst (xs++zs)))
theorem An:j9 X (iM .Add) afl:=by
 intro ae s Z H x y v u Q I rx ry h;rcases h with⟨l,b,xs,zs,rfl,rfl,hH,hB,hz,q⟩
 cases rx
 cases ry
 rcases I.HN hH with⟨z,cV,n,r,hl,e⟩;rcases I.HN hB with⟨z2,K2,n2,r2,wz,e2⟩;refine PySem.P.add_list e e2 ?_ (by rw[aW,aW];lia);have ea:cV.toArray++K2.toArray=(cV++K2).toArray:=by simp
 rw[ea];exact⟨.ref _,_,I.afC (t':=s.toks) (r.append r2) (by rw[aF];lia),rfl,q _ I.fresh⟩
def aiC:R2:=fun x y H Q=>∃l k xs,x= .ref l/\y= .int k/\H l=some (.lst xs)/\ -(2^63)<=k/\k<2^63/\xs.length*k.toNat<=sizeLine/\
 ∀p,H p=none->Q (.ref p) (upd H p (.lst (aS k.toNat xs).flatten))
theorem len_rep{α:Type}(xs:List α)(k:Nat):(aS k xs).flatten.length=k*xs.length:=by
 induction k with
 |zero=>simp
 |succ k ih=>rw[lH,sF,aF,ih,agQ,B9]
theorem Vp:j9 X (iM .Mult) aiC:=by
 intro ae s Z H x y v u Q I rx ry h;obtain⟨l,k,xs,rfl,rfl,hH,h1,h2,hz,q⟩:=h
 cases rx
 obtain⟨t,rfl⟩:=ry;obtain⟨z,cV,n,r,hl,e⟩:=I.HN hH;have hlen:cV.toArray.size*k.toNat<=sizeLine:=by rw[aW,<-hl];exact hz
 have ajP:¬cV.toArray.size*k.toNat>(2^63- 1)/8:=by
  have:(sizeLine:Nat)<=(2^63- 1)/8:=by decide
  lia
 have K8:¬(!Builtin.List.listFitsIndex k)=true:=by
  rw[fitsIndex_both h1 h2];exact a8
 have Wk:¬kF (cV.toArray.size*k.toNat)=true:=by
  rw[KL hlen];exact a8
 have ajq:TU (fun x1 x2=>x1++x2) #[] (aS (if cV.toArray.isEmpty=true then 0 else k.toNat) cV.toArray)=(aS k.toNat cV).flatten.toArray:=by
  have f0:∀m:Nat,TU (fun x1 x2=>x1++x2) #[] (aS m cV.toArray)=(aS m cV).flatten.toArray:=fun m=>by
   have:=foldl_rep cV m [];rw[aaM]at this;exact this
  rw[f0]
  cases cV with
  |nil=>simp
  |cons a r'=>rw[if_neg (by simp)]
 refine wpAny_binaryOp_repeat_ref (T:="list") (U:="int") (by decide) ⟨_,e,rfl⟩ (fun s'=>ad0 s' k t) noFill_list_mul F.fills_int_mul aeC repeat_list F.slot_int_index.lookup
  (pY aeC (ad0 s k t) F.entry_int_rmul (F.args_int_rmul_2 _ _) (int___rmul___int_list k t l cV.toArray n)
   ⟨e,rfl,⟨_,e,rfl⟩,pY F.slot_list_mul ⟨_,e,rfl⟩ F.entry_list_mul (F.args_list_mul_2 _ _) (alB l cV.toArray n k t K8 ajP Wk) ⟨e,?_⟩⟩)
 rw[ajq];exact⟨.ref _,_,I.afC (t':=s.toks) (r.rep k.toNat) (by rw[len_rep,Nat.mul_comm];exact hz),rfl,q _ I.fresh⟩
end
section
variable{prog:bD}{w:cP}{A:cN}{E:ax->az->Prop}{s:az}
end
section
variable{X:Cx}
end
end
section
theorem cZ.ints:∀{ns:List Int} {us:List ax},cZ (ns.map V.int) us->FZ us ns
 |[],us,h=>by
  rw[qg]at h
  cases h
  exact IntsAre.nil
 |n::ns,us,h=>by
  rw[a4]at h
  cases h with
  |cons r t=>
   obtain⟨k,rfl⟩:=r;exact IntsAre.cons n k (cZ.ints t)
theorem cZ.aik(r:cZ [V.ref a] us):us=[bM a]:=by
 cases r with
 |cons r t=>
  cases t
  cases r
  rfl
section
variable{prog:bD}{w:cP}{A:cN}{E:ax->az->Prop}{s:az}{l:ao}{cV:List ax}{ns:List Int}{Q:ax->az->Prop}
theorem YN(hh:A.handled=none)(hl:s.heap.IsList l cV.toArray)(hi:FZ cV ns)
 (h:∀h' tk t',(∀b o,s.heap.get? b=some o->h'.get? b=some o)->Q (.int ns.sum t') {s with heap:=h',toks:=tk}):a7 (bf prog w) A (call (.builtin "sum") [.ref l]) Q E s:=by
 obtain⟨xs,e⟩:=hi.allInts.items;have hn:numsOf (intItems xs).toList=ns:=by rw[<-e];exact hi.numsOf
 rw[nums_intItems]at hn;rw[e]at hl;refine PySem.sum_intListG hh hl fun h' tk t' hk=> ?_;have:=h h' tk t' hk;rw[preSum_eq,bA (by simp),hn];exact this
end
section
variable{X:Cx}
def aiy(K:aA):List V->Hp->VK->Prop:=fun vs H Q=>∃(a:ao) (ns:List Int),vs=[V.ref a]/\kE K H a (ns.map V.int)/\Q (.int ns.sum) H
theorem Xi(hc:X.calm=true):qe X (.builtin "sum") (aiy X.K):=by
 intro ae s Z H vs us Q I r h;obtain⟨a,ns,rfl,hs,q⟩:=h;obtain⟨cV,rv,hl,_⟩:=I.list hs;rw[cZ.aik r];exact YN (I.ok.hd hc) hl.isList rv.ints fun h' tk t' hk=>⟨.int _,H,I.kept hk,⟨_,rfl⟩,q⟩
end
section
variable{X:Cx}
end
section
variable{X:Cx}
end
section
variable{X:Cx}
end
mutual
inductive Dp(K:aA)(H:Hp):V->AZ->Prop
 |fI:Dp K H .fI .none
 |bl (b:Bool):Dp K H (.bl b) (.bool b)
 |int (i:Int):Dp K H (.int i) (.int i)
 |str (x:Str):Dp K H (.str x) (.str x)
 |lst {a:ao} {xs:List V} {ds:List AZ}:kE K H a xs->BA K H xs ds->Dp K H (.ref a) (.list ds)
 |tup {a:ao} {xs:List V} {ds:List AZ}:l6 K H a xs->BA K H xs ds->Dp K H (.ref a) (.tuple ds)
inductive BA(K:aA)(H:Hp):List V->List AZ->Prop
 |nil:BA K H [] []
 |cons {v:V} {vs:List V} {d:AZ} {ds:List AZ}:Dp K H v d->BA K H vs ds->BA K H (v::vs) (d::ds)
end
section
variable{X:Cx}{ae:List (ao×Obj)}{Z:St}{H:Hp}{s:az}
mutual
theorem Dp.reads(I:Inv X ae Z H s):∀(d:AZ) (v:V) (u:ax),Dp X.K H v d->RelV v u->∃as,Reads s.heap u d as
 | .none,_,_,h,r=>by
   cases h
   cases r
   exact⟨_,Reads.none⟩
 | .bool b,_,_,h,r=>by
   cases h
   cases r
   exact⟨_,Reads.bool b⟩
 | .int i,_,_,h,r=>by
   cases h
   obtain⟨t,rfl⟩:=r;exact⟨_,Reads.int i t⟩
 | .str x,_,_,h,r=>by
   cases h
   obtain⟨t,rfl⟩:=r;exact⟨_,Reads.str x t⟩
 | .list ds,_,_,h,r=>by
   cases h with
   |lst hs ha=>
    cases r
    obtain⟨cV,rv,⟨o,n,ho,hc,_,hd⟩,_⟩:=I.list hs;obtain⟨as,hr⟩:=Dp.readsAll I ds _ cV ha rv;exact⟨_,Reads.list ho hc hd hr⟩
 | .tuple ds,_,_,h,r=>by
   cases h with
   |tup hs ha=>
    cases r
    obtain⟨cV,rv,⟨o,ho,hc,n,hd⟩,_⟩:=I.tuple hs;obtain⟨as,hr⟩:=Dp.readsAll I ds _ cV ha rv;exact⟨_,Reads.tuple ho hc hd hr⟩
 | .dict _,_,_,h,_=>by cases h
theorem Dp.readsAll(I:Inv X ae Z H s):∀(ds:List AZ) (vs:List V) (us:List ax),BA X.K H vs ds->cZ vs us->∃as,ReadsAll s.heap us ds as
 |[],_,_,h,r=>by
  cases h
  cases r
  exact⟨_,ReadsAll.nil⟩
 |d::ds,_,_,h,r=>by
  cases h with
  |cons h1 h2=>
   cases r with
   |cons r1 r2=>
    obtain⟨as,q1⟩:=Dp.reads I d _ _ h1 r1;obtain⟨bs,q2⟩:=Dp.readsAll I ds _ _ h2 r2;exact⟨_,ReadsAll.cons q1 q2⟩
end
end
section
variable{X:Cx}
def aiI(K:aA):R2:=fun x y H Q=>∃d e,Dp K H x d/\Dp K H y e/\jO d=true/\jO e=true/\Q (.bl (ym d e)) H
def aiE(K:aA):R2:=fun x y H Q=>∃d e,Dp K H x d/\Dp K H y e/\jO d=true/\jO e=true/\Q (.bl (!PyData.eqv d e)) H
theorem Vt(hu:X.A.units+64<kO):j9 X (bZ .Eq) (aiI X.K):=by
 intro ae s Z H x y v u Q I rx ry h;obtain⟨d,e,hd,he,sd,se,q⟩:=h;obtain⟨as,r1⟩:=Dp.reads I d x v hd rx;obtain⟨bs,r2⟩:=Dp.reads I e y u he ry;exact SeqAt.compareEq_shaped r1 r2 sd se hu ⟨.bl _,H,I,rfl,q⟩
theorem Vr(hu:X.A.units+64<kO):j9 X (bZ .NotEq) (aiE X.K):=by
 intro ae s Z H x y v u Q I rx ry h;obtain⟨d,e,hd,he,sd,se,q⟩:=h;obtain⟨as,r1⟩:=Dp.reads I d x v hd rx;obtain⟨bs,r2⟩:=Dp.reads I e y u he ry;exact SeqAt.compareNe_shaped r1 r2 sd se hu ⟨.bl _,H,I,rfl,q⟩
end
end
section
abbrev XJ(h:dg)(c:ao)(v:Option ax):Prop:=h.IsCell c v
def aij(af sc:ia):ia:=
 {af with names:=af.names.map fun(n,k)=>if (k==.free&&sc.kind==.function&&sc.names.lookup n==some .cell)then(n,.cell)else(n,k)}
def eT(cells:List (Str×ao)):List (Str×jq)->List (Str×ao)->List (Str×ao)
 |[],acc=>acc
 |(n,k)::r,acc=>if k==.free then eT cells r ((n,(cells.lookup n).getD 0)::acc)else eT cells r acc
theorem zB(env:Env)(f:Str×jq->List (Str×ao)->Sem (ForInStep (List (Str×ao))))
 (hf:∀n k c,f (n,k) c=if k==.free then(do let a<-cellOf env n;pure (.yield ((n,a)::c)))else pure (.yield c)):
 ∀(names:List (Str×jq)) (acc:List (Str×ao)),(∀y∈names,y.2= .free->∃c,env.cells.lookup y.1=some c)->forIn names acc f=pure (eT env.cells names acc)
 |[],acc,_=>by rw[abH];rfl
 |(n,k)::r,acc,h=>by
  rw[List.forIn_cons,hf];have ih:=fun acc=>zB env f hf r acc fun y hy=>h y (aK _ hy);unfold eT
  by_cases hk:(k==nG)=true
  ·rw[if_pos hk,if_pos hk];obtain⟨c,hc⟩:=h (n,k) aX (by simpa using hk);have e:cellOf env n=pure c:=by unfold cellOf;rw[hc]
   rw[e];have e2:(env.cells.lookup n).getD 0=c:=by rw[hc];rfl
   rw[e2];exact ih _
  ·rw[if_neg hk,if_neg hk];exact ih _
theorem Ej{af:ia}{env:Env}(h:∀y∈af.names,y.2= .free->∃c,env.cells.lookup y.1=some c):adZ af env=pure (eT env.cells af.names []):=by
 simp only[adZ];rw[zB env _ (fun n k c=>rfl) af.names [] h];rfl
theorem mem_lookup{α:Type}:∀{l:List (Str×α)} {n:Str} {c:α},(n,c)∈l->∃c',l.lookup n=some c'
 |(k,v)::r,n,c,h=>by
  rw[jx]
  cases hb:n==k with
  |true=>exact⟨_,rfl⟩
  |false=>
   obtain e|h:=a0.mp h
   ·cases e;simp at hb
   ·exact mem_lookup h
theorem qK{cells:List (Str×ao)}:∀{names:List (Str×jq)} {acc:List (Str×ao)} {n:Str} {c:ao},(n,c)∈eT cells names acc->(n,c)∈acc\/((n,.free)∈names/\c=(cells.lookup n).getD 0)
 |[],_,_,_,h=>.inl h
 |(m,k)::r,acc,n,c,h=>by
  unfold eT at h
  split at h
  ·rename_i hk;have hk:k= .free:=by simpa using hk
   obtain h|⟨h1,h2⟩:=qK h
   ·obtain e|h:=a0.mp h
    ·cases e;exact .inr ⟨hk▸aX,rfl⟩
    ·exact .inl h
   ·exact .inr ⟨aK _ h1,h2⟩
  ·obtain h|⟨h1,h2⟩:=qK h
   ·exact .inl h
   ·exact .inr ⟨aK _ h1,h2⟩
theorem vF:∀{names:List (Str×jq)} {acc:List (Str×ao)} {p:Str×ao},p∈acc->p∈eT cells names acc
 |[],_,_,h=>h
 |(m,k)::r,acc,p,h=>by
  unfold eT
  split
  ·exact vF (aK _ h)
  ·exact vF h
theorem vE{cells:List (Str×ao)}:∀{names:List (Str×jq)} {acc:List (Str×ao)} {n:Str},(n,.free)∈names->(n,(cells.lookup n).getD 0)∈eT cells names acc
 |(m,k)::r,acc,n,h=>by
  unfold eT;obtain e|h:=a0.mp h
  ·cases e
   exact vF aX
  ·split
   ·exact vE h
   ·exact vE h
theorem sj:∀{names:List (Str×jq)} {h:dg} {acc:List (Str×ao)} {x:Str} {c:ao},(x,c)∈cellsFrom h.objs.size names acc->
 (x,c)∈acc\/((x,.cell)∈names/\h.objs.size<=c/\XJ (sP h names) c none)
 |[],_,_,_,_,h=>.inl h
 |(n,k)::r,h,acc,x,c,hm=>by
  unfold cellsFrom at hm;unfold sP
  split at hm
  ·rename_i hk;rw[if_pos hk];have hk:k= .cell:=by simpa using hk
   rw[<-eZ h {cls:=.type "cell",data:=.cell none}]at hm;obtain hm|⟨h1,h2,h3⟩:=sj hm
   ·obtain e|hm:=a0.mp hm
    ·cases e
     exact .inr ⟨hk▸aX,aE _,_,yl r _ _ _ (b9 _ rfl),rfl⟩
    ·exact .inl hm
   ·rw[eZ]at h2;exact .inr ⟨aK _ h1,sO h2,h3⟩
  ·rename_i hk;rw[if_neg hk];obtain hm|⟨h1,h2,h3⟩:=sj hm
   ·exact .inl hm
   ·exact .inr ⟨aK _ h1,h2,h3⟩
theorem v8:∀{names:List (Str×jq)} {n:Nat} {acc:List (Str×ao)} {p:Str×ao},p∈acc->p∈cellsFrom n names acc
 |[],_,_,_,h=>h
 |(m,k)::r,n,acc,p,h=>by
  unfold cellsFrom
  split
  ·exact v8 (aK _ h)
  ·exact v8 h
theorem AO:∀{names:List (Str×jq)} {n:Nat} {acc:List (Str×ao)} {x:Str},(x,.cell)∈names->∃c,(x,c)∈cellsFrom n names acc
 |(m,k)::r,n,acc,x,h=>by
  unfold cellsFrom;obtain e|h:=a0.mp h
  ·cases e
   exact⟨n,v8 aX⟩
  ·split
   ·exact AO h
   ·exact AO h
theorem AN:∀{names:List (Str×jq)} {h:dg} {acc:List (Str×ao)} {x y:Str} {c:ao},(∀p∈acc,p.2<h.objs.size)->(∀x y c,(x,c)∈acc->(y,c)∈acc->x=y)->
 (x,c)∈cellsFrom h.objs.size names acc->(y,c)∈cellsFrom h.objs.size names acc->x=y
 |[],_,_,_,_,_,_,hi,h1,h2=>hi _ _ _ h1 h2
 |(n,k)::r,h,acc,x,y,c,hl,hi,h1,h2=>by
  unfold cellsFrom at h1 h2
  split at h1
  ·rename_i hk;rw[if_pos hk]at h2;rw[<-eZ h {cls:=.type "cell",data:=.cell none}]at h1 h2;refine AN (h:=h.push _) (fun p hp=> ?_) (fun x y c a b=> ?_) h1 h2
   ·rw[eZ];obtain rfl|hp:=a0.mp hp
    ·exact g7 _
    ·exact B8 (hl p hp)
   ·obtain e|a:=a0.mp a<;>obtain e'|b:=a0.mp b
    ·cases e;cases e';rfl
    ·cases e;exact absurd (hl _ b) (fc _)
    ·cases e';exact absurd (hl _ a) (fc _)
    ·exact hi _ _ _ a b
  ·rename_i hk;rw[if_neg hk]at h2;exact AN hl hi h1 h2
theorem KN{M:TF}{A:cN}{E:ax->az->Prop}{s:az}{af:ia}{globals:ao}{closure:List (Str×ao)}{aG:Str}{func:Option ao}{code:ax}{around:Env}{builtins:ao}{Q:Env->az->Prop}
 (h:Q (newEnv af s.heap.objs.size globals (cellsFrom (s.heap.objs.size+1) af.names closure) aG func code (some around) builtins)
  {s with heap:=sP (s.heap.push {cls:=.type "dict",data:=.dict #[]}) af.names}):
 a7 M A (AY af globals closure [] aG func code (some around) builtins) Q E s:=by
 simp only[AY,Qs,if_true];refine ay (wpAny_alloc ?_);refine ay (wpAny_layCells _ (fun n k c=>rfl) af.names closure _ _ ?_);rw[show ({s with heap:=s.heap.push {cls:=.type "dict",data:=.dict #[]}}:az).heap.objs.size=s.heap.objs.size+1 from eZ ..];rw[abH];exact ay (aU (aU h))
theorem vp{sc:ia}:∀{names:List (Str×jq)} {x:Str} {k:jq},
 (names.map fun(n,k)=>if (k==nG&&sc.kind==.function&&sc.names.lookup n==some .cell)then(n,E1)else(n,k)).lookup x=some k->
 ∃k',names.lookup x=some k'/\(k=k'\/(k'= .free/\k= .cell))
 |[],_,_,h=>by simp at h
 |(n,k₀)::r,x,k,h=>by
  have ih:= @vp sc r x k;have h':mS x ((if (k₀==nG&&sc.kind==.function&&sc.names.lookup n==some .cell)=true then(n,E1)else(n,k₀))::(r.map _))=some k:=h
  cases hx:x==n with
  |true=>
   simp only[jx,hx]
   by_cases hc:(k₀==nG&&sc.kind==.function&&sc.names.lookup n==some .cell)=true
   ·rw[if_pos hc]at h';simp only[jx,hx]at h'
    cases h'
    simp only[bX,beq_iff_eq]at hc;exact⟨k₀,rfl,.inr ⟨hc.1.1,rfl⟩⟩
   ·rw[if_neg hc]at h';simp only[jx,hx]at h'
    cases h'
    exact⟨_,rfl,.inl rfl⟩
  |false=>
   simp only[jx,hx]
   by_cases hc:(k₀==nG&&sc.kind==.function&&sc.names.lookup n==some .cell)=true
   ·rw[if_pos hc]at h';simp only[jx,hx]at h';exact ih h'
   ·rw[if_neg hc]at h';simp only[jx,hx]at h';exact ih h'
structure BB(N:List Str)(sc af:ia)(own:List (Str×Nat)):Prop where
 kind:af.kind= .function
 uniq:∀y∈af.names,af.names.lookup y.1=some y.2
 ix:∀p∈own,N[p.2]? =some p.1
 free:∀y∈af.names,y.2= .free->sc.names.lookup y.1=some .cell\/sc.names.lookup y.1=some .free
 own:∀y∈af.names,y.2= .local\/y.2= .cell->y.1∈own.map (·.1)\/y.1∉N
def wipe(Z:St):List Nat->St
 |[]=>Z
 |v::vs=>(wipe Z vs).set v none
theorem uN(Z:St):∀vs:List Nat,(wipe Z vs).length=Z.length
 |[]=>rfl
 |v::vs=>by unfold wipe;rw[vM,uN Z vs]
theorem zW:∀{vs:List Nat},(wipe Z vs)[i]? =some (some x)->Z[i]? =some (some x)/\i∉vs
 |[],h=>⟨h,by simp⟩
 |v::vs,h=>by
  unfold wipe at h
  by_cases hi:v=i
  ·subst hi
   by_cases hv:v<(wipe Z vs).length
   ·rw[uD hv]at h;cases h
   ·rw[hU (by simpa using hv)]at h;cases h
  ·rw[xb hi]at h;obtain⟨h1,h2⟩:=zW h;exact⟨h1,by simp only[a0,not_or];exact⟨fun e=>hi e.symm,h2⟩⟩
abbrev Cx.LJ(X:Cx)(s:az)(H:Hp)(af:ia)(cenv:Env)(fp:List ao):Cx:={X with s₀:=s,H₀:=H,env:=cenv,outer:=X.stack,ex:=fp,fn:=fun x=>af.names.lookup x==some .cell,pn:=[],xe:=fun _ _=>False}
section
variable{X:Cx}{ae:List (ao×Obj)}{Z:St}{H:Hp}{s:az}
theorem LI{af:ia}{own:List (Str×Nat)}(I:Inv X ae Z H s)(ok:BB X.N X.env.scope af own)(hN:X.N.Nodup)(hfp:∀b∈fp,zR X ae H b/\b<s.heap.objs.size):
 Inv (X.LJ s H af (di af (cellsFrom (s.heap.objs.size+1) af.names (eT X.env.cells af.names [])) s.heap.objs.size X.env) fp) [] (wipe Z (own.map (·.2))) H {s with heap:=sP (s.heap.push {cls:=.type "dict",data:=.dict #[]}) af.names}:=by
 have Bn:∀y∈af.names,y.2= .free->∃c,X.env.cells.lookup y.1=some c:=fun y hy e=>by
  obtain k|k:=ok.free y hy e
  ·exact I.ok.has _ (.inl k)
  ·exact I.ok.has _ (.inr k)
 generalize K9:di af (cellsFrom (s.heap.objs.size+1) af.names (eT X.env.cells af.names [])) s.heap.objs.size X.env=cenv;have kp:∀b o,s.heap.get? b=some o->(sP (s.heap.push {cls:=.type "dict",data:=.dict #[]}) af.names).get? b=some o:=fun b o e=>yl _ _ _ _ (a5 _ e);have hL:cenv.locals=s.heap.objs.size:=by rw[<-K9];rfl
 have rY:cenv.cells=cellsFrom (s.heap.objs.size+1) af.names (eT X.env.cells af.names []):=by rw[<-K9];rfl
 have hsc:cenv.scope=aij af X.env.scope:=by rw[<-K9];rfl
 rw[<-eZ s.heap {cls:=.type "dict",data:=.dict #[]}]at rY
 have cm:∀{y c},(y,c)∈eT X.env.cells af.names []->X.env.cells.lookup y=some c/\c<s.heap.objs.size:=fun{y c} hm=>by
  obtain hm|⟨h1,rfl⟩:=qK hm
  ·cases hm
  ·obtain⟨c,hc⟩:=Bn _ h1 rfl;rw[hc];obtain⟨w,z⟩:=I.cell _ _ hc;exact⟨rfl,z.lt⟩
 have mem:∀{y c},cenv.cells.lookup y=some c->(X.env.cells.lookup y=some c/\c<s.heap.objs.size)\/(s.heap.objs.size+1<=c/\XJ (sP (s.heap.push {cls:=.type "dict",data:=.dict #[]}) af.names) c none):=fun{y c} e=>by
  rw[rY]at e;obtain hm|⟨_,h2,h3⟩:=sj (cC e)
  ·exact .inl (cm hm)
  ·rw[eZ]at h2;exact .inr ⟨h2,h3⟩
 have look:∀{y},af.names.lookup y=some .free->∃c,cenv.cells.lookup y=some c/\X.env.cells.lookup y=some c:=fun{y} hl=>by
  have hy:(y,nG)∈af.names:=cC hl;obtain⟨c',e'⟩:=mem_lookup (v8 (names:=af.names) (n:=(s.heap.push {cls:=.type "dict",data:=.dict #[]}).objs.size) (vE (cells:=X.env.cells) (acc:=[]) hy));rw[<-rY]at e';exists c',e';rw[rY]at e';obtain hm|⟨h1,_,_⟩:=sj (cC e')
  ·exact(cm hm).1
  ·have:=ok.uniq _ h1;rw[hl]at this;cases this
 have okB:(X.LJ s H af cenv fp).Ok:=by
  refine⟨I.ok.mod,by show cenv.scope.kind=_;rw[hsc];exact ok.kind,by show cenv.globals=_;rw[<-K9];exact I.ok.glob,by show cenv.builtins=_;rw[<-K9];exact I.ok.blt,by show s.heap.objs.size<=cenv.locals;rw[hL];exact aE _,
   fun y z c e1 e2=> ?_,fun y hy=> ?_,fun y c z e=> ?_,I.ok.hd,I.ok.frames,.inl rfl,fun b hb=>⟨?_,fun y c e z=> ?_⟩,I.bs,cj I.ok.Yn I.sz,fun b o e hb=> ?_,fun b hb z=> ?_,I.stack,I.Ce⟩
  ·have e1:cenv.cells.lookup y=some c:=e1;have e2:cenv.cells.lookup z=some c:=e2;rw[rY]at e1 e2;refine AN (fun p hp=> ?_) (fun y z c a b=>I.ok.inj y z c (cm a).1 (cm b).1) (cC e1) (cC e2);rw[eZ];exact B8 (cm (y:=p.1) (c:=p.2) hp).2
  ·show ∃c,cenv.cells.lookup y=some c
   have key:∀k,cenv.kindOf y=some k->(k= .cell\/k= .free)->∃c,cenv.cells.lookup y=some c:=fun k hk hk'=>by
    unfold akl at hk;rw[hsc]at hk;obtain⟨k',e,r⟩:=vp hk
    have:k'= .cell\/k'= .free:=by
     obtain rfl|⟨rfl,_⟩:=r
     ·exact hk'
     ·exact .inr rfl
    obtain rfl|rfl:=this
    ·obtain⟨c,hm⟩:=AO (n:=(s.heap.push {cls:=.type "dict",data:=.dict #[]}).objs.size) (acc:=eT X.env.cells af.names []) (cC e);obtain⟨c',e'⟩:=mem_lookup hm;exact⟨c',by rw[rY];exact e'⟩
    ·obtain⟨c,h1,_⟩:=look e;exact⟨c,h1⟩
   obtain hy|hy:=hy
   ·exact key _ hy (.inl rfl)
   ·exact key _ hy (.inr rfl)
  ·have z:(af.names.lookup y==some E1)=true:=z;have z:af.names.lookup y=some .cell:=by simpa using z
   have e:cenv.cells.lookup y=some c:=e;rw[rY]at e;obtain hm|⟨_,h2,_⟩:=sj (cC e)
   ·obtain hm|⟨h1,_⟩:=qK hm
    ·cases hm
    ·have q:=ok.uniq _ h1;rw[z]at q;cases q
   ·rw[eZ]at h2;exact sO h2
  ·show b≠cenv.locals;rw[hL];exact dN (hfp b hb).2
  ·have e:cenv.cells.lookup y=some c:=e;obtain⟨h1,_⟩|⟨h1,_⟩:=mem e
   ·exact(hfp b hb).1.2.2.2.2.1 y c h1 z
   ·have h2:s.heap.objs.size+1<=b:=by rw[<-z];exact h1
    exact absurd (bP (hfp b hb).2 (sO h2)) (fc _)
  ·obtain z|z:=(hfp b hb).1.2.2.2.1
   ·exact I.ok.Rm b o e z
   ·exact absurd (bP (bz e) (cj I.ok.Yn z)) (fc _)
  ·obtain z|z:=a0.mp (I.C6 b z)
   ·exact(hfp b hb).1.2.1 z
   ·exact(hfp b hb).1.2.2.1 z
 refine⟨okB,rfl,I.bare,Un.kept kp,⟨fun _=>none,?_,fun i y av e1 e2 e3=> ?_⟩,fun y c e=> ?_,?_,fun y c e=> ?_,fun p hp=> ?_,I.fW.kept kp,by rw[uN];exact I.len⟩
 ·show Heap.Ns _ cenv.locals _;rw[hL];exact Heap.Ns.keeps (Heap.Ns.new ..) fun b o e=>yl _ _ _ _ e
 ·obtain⟨e2,vW⟩:=zW e2
  have vX:af.names.lookup y=some .free/\(cenv.kindOf y=some .cell\/cenv.kindOf y=some .free):=by
   have key:∀k,cenv.scope.names.lookup y=some k->k= .local\/k= .cell\/k= .free->af.names.lookup y=some .free/\(cenv.kindOf y=some .cell\/cenv.kindOf y=some .free):=fun k hk hk'=>by
    have hk0:=hk;rw[hsc]at hk;obtain⟨k',e,r⟩:=vp hk
    have no:¬(k'= .local\/k'= .cell):=fun hh=>by
     obtain e'|e':=ok.own _ (cC e) hh
     ·obtain⟨p,hp,hpy⟩:=eh.mp e';have e3:=ok.ix p hp;have:p.1=y:=hpy;rw[this]at e3;exact vW (eh.mpr ⟨p,hp,DY hN e3 e1⟩)
     ·exact e' (bc e1)
    obtain rfl|⟨rfl,rfl⟩:=r
    ·obtain rfl|rfl|rfl:=hk'
     ·exact absurd (.inl rfl) no
     ·exact absurd (.inr rfl) no
     ·exact⟨e,.inr hk0⟩
    ·exact⟨e,.inl hk0⟩
   have e3:Vis cenv.scope y:=e3;obtain e3|e3|e3:=e3
   ·exact key _ e3 (.inl rfl)
   ·exact key _ e3 (.inr (.inl rfl))
   ·exact key _ e3 (.inr (.inr rfl))
  obtain⟨m,hn,hl⟩:=I.loc;have ai7:Vis X.env.scope y:=(ok.free _ (cC vX.1) rfl).elim (fun k=>.inr (.inl k)) (fun k=>.inr (.inr k));obtain⟨w,r,q⟩:=hl i y av e1 e2 ai7;refine⟨w,r,.inr ⟨vX.2,?_⟩⟩;obtain⟨c,h1,h2⟩:=look vX.1;obtain⟨k,_⟩|⟨_,c',e',z⟩:=q
  ·have k:X.env.scope.names.lookup y=some .local:=k;obtain k'|k':=ok.free _ (cC vX.1) rfl<;>rw[show X.env.scope.names.lookup y=_ from k']at k<;>cases k
  ·rw[h2]at e';cases e';exact⟨c,h1,z.keeps kp⟩
 ·have e:cenv.cells.lookup y=some c:=e;obtain⟨h1,_⟩|⟨_,z⟩:=mem e
  ·obtain⟨w,z⟩:=I.cell y c h1;exact⟨w,z.keeps kp⟩
  ·exact⟨_,z⟩
 ·show H cenv.locals=none;rw[hL];exact I.fW.fresh (aE _)
 ·have e:cenv.cells.lookup y=some c:=e;obtain⟨h1,_⟩|⟨h1,_⟩:=mem e
  ·exact I.rZ y c h1
  ·exact I.fW.fresh (sO h1)
 ·exact absurd (show p∈([]:List (ao×Obj))++[] from hp) (by simp)
theorem adP{xs:List V}(I:Inv X ae Z H s)(hD:H D=some (.lst xs))(hz:xs.length<sizeLine)(r:RelV y v)
 (h:∀s',Inv X ae Z (upd H D (.lst (xs++[y]))) s'->Q .none s'):a7 (bf X.prog X.w) X.A (call (.builtin "list.append") [.ref D,v]) Q E s:=by
 obtain⟨hz',cV,n,ri,e⟩:=I.fW D _ hD;have hl:=ri.length;refine append_at (hsz:=by rw[aW];lia) e fun h' sb Jk=> ?_;refine h {s with heap:=h'} (I.write (t':=s.toks) (by rw[hD];trivial) (.inl rfl) (fun b u hb q=>(sb.2 b hb).trans q) ⟨_,Jk⟩ ⟨by rw[aF];exact hz,cV++[v],n+1,ri.append (.cons r .nil),?_⟩);rw[Jk];simp
def PTs(X:Cx)(ifs:List dQ)(t:TT):Prop:=
 ∀(ae:List (ao×Obj)) (s:az) (Z:St) (H:Hp) (Q:Bool->Hp->Prop),Inv X ae Z H s->t Z H Q->
  a7 (bf X.prog X.w) X.A (forIn ifs true fun c r=>if r=true then do let ok<-isTrue c X.env (eval c X.env);pure (sN ok)else pure (sN r)) (TP X ae Z Q) X.xe s
def aeP:TT:=fun _ H Q=>Q true H
theorem tz:PTs X [] aeP:=fun _ _ _ H _ I h=>wpAny_tests_nil ⟨H,I,h⟩
theorem Ze(h:PT X c t):PTs X [c] t:=fun ae s Z H Q I hw=>wpAny_tests_one (h ae s Z H Q I hw)
end
theorem abN{α:Type}{t:Sem α}{Q Q':α->az->Prop}{M:TF}{A:cN}{E:ax->az->Prop}{s:az}(h:a7 M A t Q (fun _ _=>False) s)(hQ:∀a s,Q a s->Q' a s):a7 M A t Q' E s:=dZ h hQ fun _ _ z=>b7 z
theorem IQ(I:Nat->az->Prop)
 (turn:∀n s,I n s->a7 (bf prog w) A (ad6 it) (fun r s₁=>match r with
  |none=>R (.ok .next) s₁
  |some v=>a7 (bf prog w) A (yn target it v) (fun _ s₁'=>a7 (bf prog w) A (assign target env v) (fun _ s₂=>
   a7 (bf prog w) A (forIn ifs true fun c r=>if r=true then do let ok<-isTrue c env (eval c env);pure (sN ok)else pure (sN r)) (fun ok s₃=>
    if ok=true then a7 (bf prog w) A (eval elt env) (fun x s₄=>
     a7 (bf prog w) A (call (.builtin "list.append") [acc,x]) (fun _ s₅=>∃m,m<n/\I m s₅) (uH (bf prog w) A env fun e s'=>R (.error e) s') s₄) (uH (bf prog w) A env fun e s'=>R (.error e) s') s₃
    else ∃m,m<n/\I m s₃) (uH (bf prog w) A env fun e s'=>R (.error e) s') s₂) (uH (bf prog w) A env fun e s'=>R (.error e) s') s₁') (uH (bf prog w) A env fun e s'=>R (.error e) s') s₁) (uH (bf prog w) A env fun e s'=>R (.error e) s') s)
 (n:Nat) (h:I n s):
 uL (bf prog w) A (.compLoop (.ListComp elt [⟨target,iter,ifs,0⟩] af pos) 0 it acc env) R s:=by
 refine codeAny_loop rfl I (fun n s hI=> ?_) n h;show a7 _ A ((compTurn (.ListComp elt [⟨target,iter,ifs,0⟩] af pos) 0 it acc env).onRaise (fun x=>do wG x env;theTreesLotGoes x)) _ _ s;refine wpAny_noted ?_;rw[compTurn_list];refine ay (CC (ay (dZ (turn n s hI) (fun r s₁ h₁=> ?_) fun _ _ h'=>h')))
 cases r with
 |none=>exact aU h₁
 |some v=>
  refine ay (dZ h₁ (fun _ s₁' h₁'=> ?_) fun _ _ h'=>h');refine ay (dZ h₁' (fun _ s₂ h₂=>ay (dZ h₂ (fun ok s₃ h₃=> ?_) fun _ _ h'=>h')) fun _ _ h'=>h')
  cases ok with
  |false=>exact aU ⟨rfl,h₃⟩
  |true=>
   exact ay (ay (dZ h₃ (fun x s₄ h₄=>ay (dZ h₄ (fun _ s₅ h₅=>aU (aU ⟨rfl,h₅⟩)) fun _ _ h'=>h')) fun _ _ h'=>h'))
section
variable{X:Cx}
def tLc(wi:TI)(g:TG)(tt:TT)(te:TE)(vs:List Nat):TE:=fun Z H Q=>wi Z H fun J H1=>∀D,H1 D=none->∃W:Nat->Nat->Hp->Prop,(∃m,W 0 m (upd H1 D (.lst [])))/\∀i m H,W i m H->
 (J.stop i H/\Q (.ref D) H)\/(J.go i H/\∃Nx:Hp->Prop,(∀H',Nx H'->∃m',m'<m/\W (i+1) m' H')/\∀x H',J.XN i H x H'->g x (wipe Z vs) H' fun Z2 H2=>wipe Z2 vs=wipe Z vs/\tt Z2 H2 fun b H3=>
  if b=true then te Z2 H3 fun y H4=>∃acc,H4 D=some (.lst acc)/\acc.length<sizeLine/\Nx (upd H4 D (.lst (acc++[y])))else Nx H3)
def TC(X:Cx)(x:ax->az->Prop)(s:az)(H:Hp)(af:ia)(ce:Env)(fp:List ao):Cx:={X.LJ s H af ce fp with xe:=x}
theorem adM{x:ax->az->Prop}{s:az}{H H1:Hp}{af:ia}{ce:Env}{fp:List ao}{ae:List (ao×Obj)}{Z:St}{s1:az}(I:Inv (X.LJ s H af ce fp) ae Z H1 s1):Inv (TC X x s H af ce fp) ae Z H1 s1:=by
 obtain⟨⟨o1,o2,o3,o4,o5,o6,o7,o8,o9,o10,o11,o12,o13,o14,o15,o16,o17,o18⟩,i2,i3,i4,i5,i6,i7,i8,i9,i10,i11⟩:=I;exact⟨⟨o1,o2,o3,o4,o5,o6,o7,o8,o9,o10,o11,o12,o13,o14,o15,o16,o17,o18⟩,i2,i3,i4,i5,i6,i7,i8,i9,i10,i11⟩
theorem lc_gen{ae:List (ao×Obj)}{s2:az}{Z:St}{Q:VK}{elt tg iter:dQ}{ifs:List dQ}{af:ia}{own:List (Str×Nat)}{pos:Pos}{g:TG}{tt:TT}{te:TE}{itv:ax}{E:ax->az->Prop}
 (x:az->Hp->Env->List ao->ax->az->Prop) (R:ax->Env->Result->az->Prop) (hc:X.calm=true) (hN:X.N.Nodup) (ok:BB X.N X.env.scope af own)
 (hg:∀(s:az) (H:Hp) (C:ao) (cl:List (Str×ao)) (fp:List ao),PG (TC X (x s H (di af cl C X.env) fp) s H af (di af cl C X.env) fp) tg g)
 (ht:∀(s:az) (H:Hp) (C:ao) (cl:List (Str×ao)) (fp:List ao),PTs (TC X (x s H (di af cl C X.env) fp) s H af (di af cl C X.env) fp) ifs tt)
 (he:∀(s:az) (H:Hp) (C:ao) (cl:List (Str×ao)) (fp:List ao),PE (TC X (x s H (di af cl C X.env) fp) s H af (di af cl C X.env) fp) elt te)
 (h2:tLc (fun _ _ k=>PIE X ae Z tg k itv s2) g tt te (own.map (·.2)) Z (fun _=>none) Q)
 (ac1:∀acc {s3:az} {H3:Hp} {fp:List ao} {cl:List (Str×ao)},Inv X ae Z H3 s3->(∀b∈fp,zR X ae H3 b)->∀{e:ax} {s':az},x s3 H3 (di af cl s3.heap.objs.size X.env) fp e s'->
  uH (bf X.prog X.w) X.A (di af cl s3.heap.objs.size X.env) (fun e s'=>R acc (di af cl s3.heap.objs.size X.env) (.error e) s') e s')
 (hRR:∀D ce s' m H',Inv X ae Z H' s'->Q (.ref D) H'->s'.heap.Ns ce.locals m->zR X ae H' ce.locals->R (.ref D) ce (.ok .next) s'):
 a7 (bf X.prog X.w) X.A (newList []) (fun acc s3=>a7 (bf X.prog X.w) X.A (AY af X.env.globals (eT X.env.cells af.names []) [] X.env.qual none .none (some X.env)) (fun ce s4=>
  uL (bf X.prog X.w) X.A (.compStart (.ListComp elt [⟨tg,iter,ifs,0⟩] af pos) 0 itv acc {ce with scope:=FY af X.env}) (R acc {ce with scope:=FY af X.env}) s4) E s3) E s2:=by
 rcases h2 with⟨it,fp,tn,J,H2,e,I2,T,st2,f2,q⟩;subst e;refine gQ (KN ?_) (by show 0<=sizeLine;decide);generalize hD:s2.heap.objs.size=D;have hDn:H2 D=none:=I2.fW.fresh (Ca hD);rcases q D hDn with⟨W,⟨m0,w0⟩,turn⟩;generalize RQ:({s2 with heap:=s2.heap.push {cls:=.type "list",data:=.seq ([]:List ax).toArray}}:az)=s3
 have I3:Inv X ae Z (upd H2 D (.lst [])) s3:=by
  rw[<-RQ];refine I2.laid (t':=s2.toks) (fun b o e=>a5 _ e) (Ca hD) ⟨aC _,[],0,.nil,?_⟩;rw[<-hD];exact b9 _ rfl
 have h3:s3.heap=s2.heap.push {cls:=.type "list",data:=.seq ([]:List ax).toArray}:=by rw[<-RQ]
 have sz:∀b∈fp,b<s2.heap.objs.size:=fun b hb=>by
  rcases T.obj _ _ st2 b hb with⟨o,e,_⟩;exact bz e
 have f3:∀b∈fp,zR X ae (upd H2 D (.lst [])) b/\b<s3.heap.objs.size:=fun b hb=>by
  have iB:=sz b hb;refine⟨⟨?_,(f2 b hb).2⟩,by rw[h3,eZ];exact B8 iB⟩;rw[ai (by rw[<-hD];exact dN iB)];exact(f2 b hb).1
 have st3:tn 0 s3.heap:=T.keep _ _ _ st2 fun b _ o e=>by rw[h3];exact a5 _ e
 have I4:=adM (x:=x s3 (upd H2 D (.lst [])) (di af (cellsFrom (s3.heap.objs.size+1) af.names (eT X.env.cells af.names [])) s3.heap.objs.size X.env) fp) (LI I3 ok hN f3);have out:=fun e s' (z:x s3 (upd H2 D (.lst [])) (di af (cellsFrom (s3.heap.objs.size+1) af.names (eT X.env.cells af.names [])) s3.heap.objs.size X.env) fp e s')=>ac1 (.ref D) I3 (fun b hb=>(f3 b hb).1) z;have pg:=hg s3 (upd H2 D (.lst [])) s3.heap.objs.size (cellsFrom (s3.heap.objs.size+1) af.names (eT X.env.cells af.names [])) fp;have pt:=ht s3 (upd H2 D (.lst [])) s3.heap.objs.size (cellsFrom (s3.heap.objs.size+1) af.names (eT X.env.cells af.names [])) fp;have pe:=he s3 (upd H2 D (.lst [])) s3.heap.objs.size (cellsFrom (s3.heap.objs.size+1) af.names (eT X.env.cells af.names [])) fp;show uL _ _ (.compStart (.ListComp elt [⟨tg,iter,ifs,0⟩] af pos) 0 (.ref it) (.ref D) (di af (cellsFrom (s3.heap.objs.size+1) af.names (eT X.env.cells af.names [])) s3.heap.objs.size X.env)) (R (.ref D) (di af (cellsFrom (s3.heap.objs.size+1) af.names (eT X.env.cells af.names [])) s3.heap.objs.size X.env)) {s3 with heap:=sP (s3.heap.push {cls:=.type "dict",data:=.dict #[]}) af.names};have nfp:∀b∈fp,(upd H2 D (.lst [])) b=none:=fun b hb=>(f3 b hb).1.1;generalize hce:di af (cellsFrom (s3.heap.objs.size+1) af.names (eT X.env.cells af.names [])) s3.heap.objs.size X.env=ce at I4 pg pt pe out⊢;have cL:ce.locals=s3.heap.objs.size:=by subst hce;rfl
 generalize zS:upd H2 D (.lst [])=H3 at I3 I4 pg pt pe w0 nfp f3 out;generalize hs4:({s3 with heap:=sP (s3.heap.push {cls:=.type "dict",data:=.dict #[]}) af.names}:az)=s4 at I4⊢;have st4:tn 0 s4.heap:=T.keep _ _ _ st3 fun b _ o e=>by rw[<-hs4];exact yl _ _ _ _ (a5 _ e)
 have MT:∀{Z':St} {H':Hp} {s':az},Inv (TC X (x s3 H3 ce fp) s3 H3 af ce fp) [] Z' H' s'->(∀b∈fp,H' b=none)->∀b∈fp,zR (TC X (x s3 H3 ce fp) s3 H3 af ce fp) [] H' b:=fun{Z' H' s'} I' hn b hb=>
  ⟨hn b hb,(I'.ok.exf b hb).1,I'.ok.Sl b hb,.inl hb,fun x c e=>(I'.ok.exf b hb).2 x c e,fun p hp=>absurd (show p∈([]:List (ao×Obj))++[] from hp) (by simp)⟩
 have loop:uL (bf X.prog X.w) X.A (.compLoop (.ListComp elt [⟨tg,iter,ifs,0⟩] af pos) 0 (.ref it) (.ref D) ce) (R (.ref D) ce) s4:=by
  refine IQ (fun n s'=>∃i H',Inv (TC X (x s3 H3 ce fp) s3 H3 af ce fp) [] (wipe Z (own.map (·.2))) H' s'/\tn i s'.heap/\(∀b∈fp,H' b=none)/\W i n H') ?_ m0 ⟨0,H3,I4,st4,nfp,w0⟩;rintro n s5 ⟨i,H5,I5,st5,n5,w5⟩;obtain⟨stop,qq⟩|⟨go,Nx,hNx,step⟩:=turn i n H5 w5
  ·have td:=T.done (TC X (x s3 H3 ce fp) s3 H3 af ce fp) rfl rfl rfl hc i [] s5 _ H5 (fun _ _=>False) I5 (MT I5 n5) st5 stop;refine abN td fun r s6 ⟨hr,I6⟩=> ?_;subst hr;have I7:Inv X ae Z H5 s6:=I3.GH (ch:=fp) I6.os I6.base I6.fW I6.bare fun b hb=>⟨(f3 b hb).1.2.2.2.1,(f3 b hb).1.2.1,(f3 b hb).1.2.2.2.2.1,(f3 b hb).1.2.2.2.2.2⟩
   have nC:H5 s3.heap.objs.size=none:=by
    have z:H5 ce.locals=none:=I6.free;rw[cL]at z;exact z
   rcases I6.loc with⟨m,hn,_⟩;have hn:s6.heap.Ns ce.locals m:=hn;exact hRR D ce s6 m H5 I7 qq hn (cL▸I3.WT (aE _) nC)
  ·have ti:=T.item (TC X (x s3 H3 ce fp) s3 H3 af ce fp) rfl rfl rfl hc i [] s5 _ H5 (fun _ _=>False) I5 (MT I5 n5) st5 go;refine abN ti fun r s6 zq=> ?_;rcases zq with⟨u,hr,h6⟩;subst hr;refine abN h6 fun _ s7 zq=> ?_;rcases zq with⟨y,H7,I7,r7,y7,st7,n7⟩;have I7':=I7.pinned (MT I7 n7) (T.obj _ _ st7);refine dZ (pg _ s7 _ H7 y u _ I7' r7 (step y H7 y7)) (fun _ s8 zq=> ?_) out;rcases zq with⟨Z8,H8,I8,hw8,q8⟩;refine dZ (pt _ s8 Z8 H8 _ I8 q8) (fun b s9 zq=> ?_) out;rcases zq with⟨H9,I9,q9⟩
   have fin:∀{s':az} {H':Hp},Inv (TC X (x s3 H3 ce fp) s3 H3 af ce fp) ([]++DJ fp s7.heap) Z8 H' s'->Nx H'->∃m,m<n/\∃i H',Inv (TC X (x s3 H3 ce fp) s3 H3 af ce fp) [] (wipe Z (own.map (·.2))) H' s'/\tn i s'.heap/\(∀b∈fp,H' b=none)/\W i m H':=fun{s' H'} I' nx=>by
    rcases hNx H' nx with⟨m',hm,w'⟩
    have aft:∀b∈fp,∀o,s7.heap.get? b=some o->s'.heap.get? b=some o/\H' b=none:=fun b hb o e=>
     let z:=I'.pin (b,o) (eW _ (eW _ (xM hb e)))
     ⟨z.1,z.2.1⟩
    have hl:(wipe Z (own.map (·.2))).length=Z8.length:=by rw[<-hw8,uN]
    refine⟨m',hm,i+1,H',(I'.yr (ae:=[])).weak hl (fun j v e=> ?_),T.keep _ _ _ st7 fun b hb o e=>(aft b hb o e).1,fun b hb=> ?_,w'⟩
    ·rw[<-hw8]at e;exact(zW e).1
    ·rcases T.obj _ _ st7 b hb with⟨o,e,_⟩;exact(aft b hb o e).2
   cases b with
   |false=>
    simp only[jT,if_false]at q9⊢;exact fin I9 q9
   |true=>
    simp only[if_true]at q9⊢;refine dZ (pe _ s9 Z8 H9 _ I9 q9) (fun z s10 zq=> ?_) out;rcases zq with⟨yv,H10,I10,r10,acc,ajX,ai3,nx⟩;exact adP (X:=TC X (x s3 H3 ce fp) s3 H3 af ce fp) I10 ajX ai3 r10 fun s11 I11=>fin I11 nx
 exact codeAny_compStart_list loop (T.self X.A 0 _ _ _ st4 loop)
theorem Pp{ae:List (ao×Obj)}{s:az}{Z:St}{H:Hp}{Q:VK}{elt tg iter:dQ}{ifs:List dQ}{af:ia}{own:List (Str×Nat)}{pos pos':Pos}{wi:TI}{g:TG}{tt:TT}{te:TE}{use:Option (ax->Sem Unit)}{Qf:ax->az->Prop}
 (hc:X.calm=true) (hN:X.N.Nodup) (I:Inv X ae Z H s) (hi:PI X tg iter wi) (ok:BB X.N X.env.scope af own)
 (hg:∀(s:az) (H:Hp) (C:ao) (cl:List (Str×ao)) (fp:List ao),PG (X.LJ s H af (di af cl C X.env) fp) tg g) (ht:∀(s:az) (H:Hp) (C:ao) (cl:List (Str×ao)) (fp:List ao),PTs (X.LJ s H af (di af cl C X.env) fp) ifs tt)
 (he:∀(s:az) (H:Hp) (C:ao) (cl:List (Str×ao)) (fp:List ao),PE (X.LJ s H af (di af cl C X.env) fp) elt te) (hs:∀x,foldedSetIterable iter X.env x=pure x)
 (h:tLc wi g tt te (own.map (·.2)) Z H Q)
 (hRR:∀D C s' m H',Inv X ae Z H' s'->Q (.ref D) H'->s'.heap.Ns C m->zR X ae H' C->compPost (bf X.prog X.w) X.A X.xe use Qf (.ref D) C (.ok .next) s'):
 a7 (bf X.prog X.w) X.A (CB (.ListComp elt [⟨tg,iter,ifs,0⟩] af pos) af X.env pos' (newList []) false (eval iter X.env) use) Qf X.xe s:=by
 have Bn:∀y∈af.names,y.2= .free->∃c,X.env.cells.lookup y.1=some c:=fun y hy e=>by
  obtain k|k:=ok.free y hy e
  ·exact I.ok.has _ (.inl k)
  ·exact I.ok.has _ (.inr k)
 refine wpAny_comprehension_free (use:=use) rfl hs (Ej Bn) ok.kind (fun y hy e=>by rw[ok.uniq y hy,e])
  (ui (hi ae s Z H _ I h) fun xv s1 hx=>ui hx fun itv s2 h2=> ?_)
 refine lc_gen (fun _ _ _ _ _ _=>False) (fun acc ce=>compPost (bf X.prog X.w) X.A X.xe use Qf acc ce.locals) hc hN ok hg ht he h2 (fun _ _ _ _ _ _ _ _ _ z=>z.elim) fun D ce s' m H' I' q n f=>hRR D ce.locals s' m H' I' q n f
theorem Gf{own:List (Str×Nat)}(hc:X.calm=true)(hN:X.N.Nodup)(hi:PI X tg iter wi)(ok:BB X.N X.env.scope af own)
 (hg:∀(s:az) (H:Hp) (C:ao) (cl:List (Str×ao)) (fp:List ao),PG (X.LJ s H af (di af cl C X.env) fp) tg g) (ht:∀(s:az) (H:Hp) (C:ao) (cl:List (Str×ao)) (fp:List ao),PTs (X.LJ s H af (di af cl C X.env) fp) ifs tt)
 (he:∀(s:az) (H:Hp) (C:ao) (cl:List (Str×ao)) (fp:List ao),PE (X.LJ s H af (di af cl C X.env) fp) elt te) (hs:∀x,foldedSetIterable iter X.env x=pure x:=by intro _;rfl):
 PE X (.ListComp elt [⟨tg,iter,ifs,0⟩] af pos) (tLc wi g tt te (own.map (·.2))):=by
 intro ae s Z H Q I h;rw[akI];refine Pp hc hN I hi ok hg ht he hs h fun D C s' m H' I' q hn f=>⟨m,hn,fun h'' sb=> ?_⟩;obtain⟨f0,f1,f2,f3,f4,f5⟩:=f;exact⟨.ref D,H',I'.turned (t':=s'.toks) (fun b o hb e=>(sb.2 b hb).trans e) f0 f1 f3 f4 f5,rfl,q⟩
theorem Ve{own:List (Str×Nat)}{pos ae1:Pos}(hc:X.calm=true)(hN:X.N.Nodup)(hy:X.N[i]? =some y)(hyl:X.env.scope.names.lookup y=some .local)
 (hsw:pW (.ListComp elt [⟨tg,iter,ifs,0⟩] af pos) (some (.Name y py)) ae1.line X.env=pure true) (hi:PI X tg iter wi) (ok:BB X.N X.env.scope af own)
 (hg:∀(s:az) (H:Hp) (C:ao) (cl:List (Str×ao)) (fp:List ao),PG (X.LJ s H af (di af cl C X.env) fp) tg g) (ht:∀(s:az) (H:Hp) (C:ao) (cl:List (Str×ao)) (fp:List ao),PTs (X.LJ s H af (di af cl C X.env) fp) ifs tt)
 (he:∀(s:az) (H:Hp) (C:ao) (cl:List (Str×ao)) (fp:List ao),PE (X.LJ s H af (di af cl C X.env) fp) elt te) (hs:∀x,foldedSetIterable iter X.env x=pure x:=by intro _;rfl):
 PS X (.Assign [.Name y py] (.ListComp elt [⟨tg,iter,ifs,0⟩] af pos) ae1) (UE (tLc wi g tt te (own.map (·.2))) (w8 i)):=by
 intro ae s Z H D I h;rw[exec_Assign_Name_used _ _ _ _ hsw];refine ay (CC (ay ?_));show a7 _ X.A (do let _<-CB (.ListComp elt [⟨tg,iter,ifs,0⟩] af pos) af X.env (firstIterPos [⟨tg,iter,ifs,0⟩] pos) (newList []) false (eval iter X.env) (some (assign (.Name y py) X.env))) _ _ s;have h:tLc wi g tt te (own.map (·.2)) Z H (fun x H1=>w8 i x Z H1 D.nx):=h;refine ay (ui (Pp (Qf:=fun _ s'=>SP X ae D .next s') hc hN I hi ok hg ht he hs h fun L C s' m H' I' q hn f=> ?_) fun _ s' hq=>aU (aU hq));show a7 _ _ (assign (.Name y py) X.env (.ref L)) _ _ _;refine aex (Gb (v:=V.ref L) I' hN hy (.inl hyl) rfl (fun s2 I2 zq=> ?_) (.inr hyl));rcases zq with⟨a,sb,ha⟩;rcases f with⟨f0,f1,f2,f3,f4,f5⟩
 have haC:C≠a:=by
  obtain z|z:=ha
  ·rw[z];exact f1
  ·exact fun e=>f4 y a z e.symm
 refine⟨m,hn.sameBut sb haC,fun h3 sb3=> ?_⟩;exact⟨_,H',I2.turned (t':=s2.toks) (fun b o hb e=>(sb3.2 b hb).trans e) f0 f1 f3 f4 f5,q⟩
theorem YM{af:ia}{pos py:Pos}{env:Env}(hk:env.scope.kind= .function)(hy:env.scope.names.lookup y=some .local)(hl:(py.line==pos.line)=true)
 (ha:(af.names.any fun(n,k)=>n==y&&(k==.local||k==.cell))=false):pW (.ListComp elt gs af pos) (some (.Name y py)) l env=pure true:=by
 have ky:env.kindOf y=some .local:=hy;have hb:env.blockKind= .function:=by unfold Env.blockKind;rw[hk];rfl
 unfold pW;simp only[hb,ky,ha,show (Expr.ListComp elt gs af pos).pos=pos from rfl,hl];rfl
end
theorem VY{lo:Int}{n:Nat}{g:TG}{tt:TT}{te:TE}{vs:List Nat}{Z:St}{H1:Hp}{D:ao}{Qd:Hp->Prop}(Pv:Nat->Hp->Prop)(h0:Pv 0 (upd H1 D (.lst [])))
 (hs:∀i H,i<n->Pv i H->g (.int (lo+i)) (wipe Z vs) H fun Z2 H2=>wipe Z2 vs=wipe Z vs/\tt Z2 H2 fun b H3=>
  if b=true then te Z2 H3 fun y H4=>∃acc,H4 D=some (.lst acc)/\acc.length<sizeLine/\Pv (i+1) (upd H4 D (.lst (acc++[y])))else Pv (i+1) H3) (hd:∀H,Pv n H->Qd H):
 ∃W:Nat->Nat->Hp->Prop,(∃m,W 0 m (upd H1 D (.lst [])))/\∀i m H,W i m H->
  ((Itr lo n).stop i H/\Qd H)\/((Itr lo n).go i H/\∃Nx:Hp->Prop,(∀H',Nx H'->∃m',m'<m/\W (i+1) m' H')/\∀x H',(Itr lo n).XN i H x H'->g x (wipe Z vs) H' fun Z2 H2=>wipe Z2 vs=wipe Z vs/\tt Z2 H2 fun b H3=>
    if b=true then te Z2 H3 fun y H4=>∃acc,H4 D=some (.lst acc)/\acc.length<sizeLine/\Nx (upd H4 D (.lst (acc++[y])))else Nx H3):=by
 exists fun i m H=>m=n- i/\i<=n/\Pv i H,(⟨n,by simp,aC _,h0⟩);rintro i m H ⟨rfl,hi,p⟩
 by_cases iB:i<n
 ·refine .inr ⟨iB,Pv (i+1),fun H' p'=>⟨n- (i+1),by omega,rfl,iB,p'⟩,fun x H' y=> ?_⟩;obtain⟨e,y⟩:=y;subst e y;exact hs i _ iB p
 ·have e:i=n:=by lia
  subst e;exact .inl ⟨aE _,hd H p⟩
theorem Zz{K:aA}{a:ao}{xs:List V}{g:TG}{tt:TT}{te:TE}{vs:List Nat}{Z:St}{H1:Hp}{D:ao}{Qd:Hp->Prop}(Pv:Nat->Hp->Prop)(h0:Pv 0 (upd H1 D (.lst [])))(hl:∀i H,i<=xs.length->Pv i H->kE K H a xs)
 (hs:∀i x H,xs[i]? =some x->Pv i H->g x (wipe Z vs) H fun Z2 H2=>wipe Z2 vs=wipe Z vs/\tt Z2 H2 fun b H3=>
  if b=true then te Z2 H3 fun y H4=>∃acc,H4 D=some (.lst acc)/\acc.length<sizeLine/\Pv (i+1) (upd H4 D (.lst (acc++[y])))else Pv (i+1) H3) (hd:∀H,Pv xs.length H->Qd H):
 ∃W:Nat->Nat->Hp->Prop,(∃m,W 0 m (upd H1 D (.lst [])))/\∀i m H,W i m H->
  ((Qy K a).stop i H/\Qd H)\/((Qy K a).go i H/\∃Nx:Hp->Prop,(∀H',Nx H'->∃m',m'<m/\W (i+1) m' H')/\∀x H',(Qy K a).XN i H x H'->g x (wipe Z vs) H' fun Z2 H2=>wipe Z2 vs=wipe Z vs/\tt Z2 H2 fun b H3=>
    if b=true then te Z2 H3 fun y H4=>∃acc,H4 D=some (.lst acc)/\acc.length<sizeLine/\Nx (upd H4 D (.lst (acc++[y])))else Nx H3):=by
 exists fun i m H=>m=xs.length- i/\i<=xs.length/\Pv i H,(⟨xs.length,by simp,aC _,h0⟩);rintro i m H ⟨rfl,hi,p⟩;have q:=hl i H hi p
 by_cases iB:i<xs.length
 ·refine .inr ⟨⟨xs,xs[i],q,by simp[iB]⟩,Pv (i+1),fun H' p'=>⟨xs.length- (i+1),by omega,rfl,iB,p'⟩,fun x H' y=> ?_⟩;obtain⟨e,y⟩:=y;subst e;exact hs i x _ (y xs q) p
 ·have e:i=xs.length:=by lia
  subst e;exact .inl ⟨⟨xs,q,aE _⟩,hd H p⟩
def FP(N:List Str)(sc af:ia)(own:List (Str×Nat)):Bool:=
 (match af.kind with| .function=>true|_=>false)&&(af.names.all fun y=>decide (af.names.lookup y.1=some y.2))&&(own.all fun p=>decide (N[p.2]? =some p.1))&&
  (af.names.all fun y=>match y.2 with
   | .free=>(match sc.names.lookup y.1 with|some .cell=>true|some .free=>true|_=>false)
   | .local=>decide (y.1∈own.map (·.1))||decide (y.1∉N)
   | .cell=>decide (y.1∈own.map (·.1))||decide (y.1∉N)
   |_=>true)
theorem nW(h:FP N sc af own=true):BB N sc af own:=by
 unfold FP at h;simp only[bX,uh,decide_eq_true_eq]at h;obtain⟨⟨⟨h1,h2⟩,h3⟩,h4⟩:=h;refine⟨?_,h2,h3,fun y hy e=> ?_,fun y hy e=> ?_⟩
 ·split at h1
  ·assumption
  ·cases h1
 ·have q:=h4 y hy;simp only[e]at q
  split at q<;>first|exact .inl (by assumption)|exact .inr (by assumption)|cases q
 ·have q:=h4 y hy;obtain e|e:=e<;>(simp only[e,aaL,decide_eq_true_eq]at q;exact q)
end
section
section
variable{prog:bD}{w:cP}{A:cN}{R:Result->az->Prop}{s:az}{elt t0 i0 t1 i1:dQ}{ali alh:List dQ}{af:ia}{pos:Pos}{it acc:ax}{env:Env}
end
section
variable{X:Cx}
end
end
section
section
variable{κ:Type}[DecidableEq κ]
def fq(kvs:List (κ×V))(k:κ):Option V:=(kvs.find? fun kv=>decide (kv.1=k)).map (·.2)
def putK(kvs:List (κ×V))(k:κ)(v:V):List (κ×V):=
 if (kvs.any fun kv=>decide (kv.1=k))=true then kvs.map (fun kv=>if kv.1=k then(kv.1,v)else kv)else kvs++[(k,v)]
def ug(kvs:List (κ×V))(k:κ):List (κ×V):=kvs.filter fun kv=>decide (kv.1≠k)
theorem gw{p:κ×V}(e:p.1=k):fq (p::r) k=some p.2:=by simp[fq,gE,e]
theorem eC{p:κ×V}(e:¬p.1=k):fq (p::r) k=fq r k:=by simp[fq,gE,e]
theorem uP(k:κ):∀kvs:List (κ×V),(kvs.any fun kv=>decide (kv.1=k))=(fq kvs k).isSome
 |[]=>rfl
 |p::r=>by
  rw[l9]
  by_cases e:p.1=k
  ·simp only[gw e,decide_eq_true e,Bool.true_or,Qs]
  ·rw[eC e,decide_eq_false e,Bool.false_or];exact uP k r
theorem JI(k j:κ)(y:V):∀kvs:List (κ×V),fq (kvs.map fun kv=>if kv.1=k then(kv.1,y)else kv) j=(fq kvs j).map fun x=>if j=k then y else x
 |[]=>rfl
 |p::r=>by
  have ih:=JI k j y r;rw[a4]
  by_cases h:p.1=k
  ·rw[if_pos h]
   by_cases e:p.1=j
   ·rw[gw (p:=(p.1,y)) e,gw e,oY,if_pos (e.symm.trans h)]
   ·rw[eC (p:=(p.1,y)) e,eC e,ih]
  ·rw[if_neg h]
   by_cases e:p.1=j
   ·rw[gw (p:=p) e,gw e,oY,if_neg (fun z=>h (e.trans z))]
   ·rw[eC (p:=p) e,eC e,ih]
theorem zZ(k j:κ)(y:V):∀kvs:List (κ×V),fq kvs k=none->fq (kvs++[(k,y)]) j=if j=k then some y else fq kvs j
 |[],_=>by
  by_cases e:k=j
  ·rw[if_pos e.symm];exact gw (p:=(k,y)) e
  ·rw[if_neg (fun z=>e z.symm)];exact eC (p:=(k,y)) e
 |p::r,hn=>by
  rw[jw];have hk:¬p.1=k:=fun z=>by rw[gw z]at hn;cases hn
  rw[eC hk]at hn;have ih:=zZ k j y r hn
  by_cases e:p.1=j
  ·rw[gw e,gw e,if_neg (fun z=>hk (e.trans z))]
  ·rw[eC e,eC e,ih]
theorem T7(kvs:List (κ×V))(k j:κ)(y:V):fq (putK kvs k y) j=if j=k then some y else fq kvs j:=by
 unfold putK
 by_cases a:(kvs.any fun kv=>decide (kv.1=k))=true
 ·rw[if_pos a,JI];rw[uP]at a
  by_cases e:j=k
  ·obtain⟨x,hx⟩:=G1.mp a;rw[if_pos e,e,hx,oY,if_pos rfl]
  ·rw[if_neg e]
   cases fq kvs j with
   |none=>rfl
   |some x=>rw[oY,if_neg e]
 ·rw[if_neg a];refine zZ k j y kvs ?_;rw[uP]at a
  cases q:fq kvs k with
  |none=>rfl
  |some x=>rw[q]at a;exact(a rfl).elim
theorem Bj(kvs:List (κ×V))(k:κ)(v:V):(putK kvs k v).length<=kvs.length+1:=by
 unfold putK
 split
 ·rw[aN];lia
 ·rw[aF,au,aaK];lia
theorem sv.nz{o:Option V}{u:Option ax}(r:sv o u):o.isSome=u.isSome:=by
 cases o with
 |none=>cases u with
  |none=>rfl
  |some _=>exact(show False from r).elim
 |some _=>cases u with
  |none=>exact(show False from r).elim
  |some _=>rfl
theorem sv.getD{o:Option V}{u:Option ax}(r:sv o u)(rd:RelV d d'):RelV (o.getD d) (u.getD d'):=by
 cases o with
 |none=>cases u with
  |none=>exact rd
  |some _=>exact(show False from r).elim
 |some _=>cases u with
  |none=>exact(show False from r).elim
  |some _=>exact r
theorem KV.val(r:KV kvs vs)(k:κ):sv (fq kvs k) (FX vs k):=by
 unfold KV at r
 induction r with
 |nil=>exact mo
 | @cons p q ps qs h t ih=>
   obtain⟨h1,h2⟩:=h
   by_cases e:p.1=k
   ·have e':q.1=k:=h1.symm.trans e;have b:FX (q::qs) k=some q.2:=by simp[FX,gE,e']
    rw[gw e,b];exact h2
   ·have e':¬q.1=k:=fun z=>e (h1.trans z);have b:FX (q::qs) k=FX qs k:=by simp[FX,gE,e']
    rw[eC e,b];exact ih
theorem KV.any{kvs:List (κ×V)}{vs:List (κ×ax)}(r:KV kvs vs)(k:κ):(kvs.any fun kv=>decide (kv.1=k))=vs.any fun kv=>decide (kv.1=k):=by
 unfold KV at r
 induction r with
 |nil=>rfl
 |cons h t ih=>rw[l9,l9,ih,h.1]
theorem KV.abZ{kvs:List (κ×V)}{vs:List (κ×ax)}(r:KV kvs vs)(k:κ)(ry:RelV y u):
 KV (kvs.map fun kv=>if kv.1=k then(kv.1,y)else kv) (vs.map fun kv=>if kv.1=k then(kv.1,u)else kv):=by
 unfold KV at r⊢
 induction r with
 |nil=>exact .nil
 | @cons p q ps qs h t ih=>
   rw[a4,a4];refine .cons ?_ ih;obtain⟨h1,h2⟩:=h
   by_cases e:p.1=k
   ·rw[if_pos e,if_pos (h1.symm.trans e)];exact⟨h1,ry⟩
   ·rw[if_neg e,if_neg (fun z=>e (h1.trans z))];exact⟨h1,h2⟩
theorem KV.put(r:KV kvs vs)(k:κ)(ry:RelV y u):KV (putK kvs k y) (stored vs k u):=by
 unfold putK stored;rw[r.any k]
 by_cases e:(vs.any fun kv=>decide (kv.1=k))=true
 ·rw[if_pos e,if_pos e];exact r.abZ k ry
 ·rw[if_neg e,if_neg e];exact adY r ⟨rfl,ry⟩
theorem KV.length{kvs:List (κ×V)}{vs:List (κ×ax)}(r:KV kvs vs):kvs.length=vs.length:=jZ r
end
theorem Bm(r:RelV (kV k) u):(de P w).is k u=true:=by
 cases k with
 |inl i=>obtain⟨t,e⟩:=(show ∃t,u=nY i t from r);subst e;exact KR P w i t
 |inr x=>obtain⟨t,e⟩:=(show ∃t,u=Jv x t from r);subst e;exact KQ P w x t
theorem Gs:∀{ks:List Key} {us:List ax},cZ (ks.map kV) us->ItemsAre (de P w) ks us
 |[],_,r=>by rw[qg]at r;cases r;exact .nil
 |k::ks,_,r=>by
  rw[a4]at r
  cases r with
  |cons h t=>exact .cons (Bm h) (Gs t)
abbrev KT(H:Hp):List (List Key×V)->List (List Key×ao×ax)->Prop:=A3 fun p q=>p.1=q.1/\H q.2.1=some (.tup (p.1.map kV))/\RelV p.2 q.2.2
theorem KT.val(r:KT H kvs xs)(k:List Key):sv (fq kvs k) ((atKey xs k).map (·.2)):=by
 induction r with
 |nil=>exact mo
 | @cons p q ps qs h t ih=>
   obtain⟨h1,_,h2⟩:=h
   by_cases e:p.1=k
   ·have e':q.1=k:=h1.symm.trans e;have b:atKey (q::qs) k=some q.2:=by simp[atKey,gE,e']
    rw[gw e,b];exact h2
   ·have e':¬q.1=k:=fun z=>e (h1.trans z);have b:atKey (q::qs) k=atKey qs k:=by simp[atKey,gE,e']
    rw[eC e,b];exact ih
theorem KT.abZ{kvs:List (List Key×V)}{xs:List (List Key×ao×ax)}(r:KT H kvs xs)(k:List Key)(ry:RelV y u):
 KT H (kvs.map fun kv=>if kv.1=k then(kv.1,y)else kv) (xs.map (putAt k u)):=by
 induction r with
 |nil=>exact .nil
 | @cons p q ps qs h t ih=>
   rw[a4,a4];refine .cons ?_ ih;obtain⟨h1,h2,h3⟩:=h;unfold putAt
   by_cases e:p.1=k
   ·rw[if_pos e,if_pos (h1.symm.trans e)];exact⟨h1,h2,ry⟩
   ·rw[if_neg e,if_neg (fun z=>e (h1.trans z))];exact⟨h1,h2,h3⟩
theorem KT.put(r:KT H kvs xs)(k:List Key)(hb:H b=some (.tup (k.map kV)))(ry:RelV y u):
 KT H (putK kvs k y) (storedH xs k b u):=by
 have e:(kvs.any fun kv=>decide (kv.1=k))=(atKey xs k).isSome:=by
  rw[uP,(r.val k).nz,rB]
 unfold putK storedH;rw[e]
 by_cases q:(atKey xs k).isSome=true
 ·rw[if_pos q,if_pos q];exact r.abZ k ry
 ·rw[if_neg q,if_neg q];exact adY r ⟨rfl,hb,ry⟩
theorem KT.keeps(r:KT H kvs xs)(ht:∀b ys,H b=some (.tup ys)->H' b=some (.tup ys)):KT H' kvs xs:=
 Paired.afA r fun _ _ z=>⟨z.1,ht _ _ z.2.1,z.2.2⟩
section
variable{P:bD}{w:cP}{H:Hp}{h:dg}{a:ao}
theorem aaZ(ok:vO P w H h)(e:Rd H a u):iw P w H h a u:=e.ok ok
theorem LA{kvs:List (Key×V)}(ok:vO P w H h)(e:Rd H a (.dK kvs)):kvs.length<=sizeLine/\(a==eE)=false/\∃vs,KV kvs vs/\h.DictOf (de P w) a vs:=
 show iw P w H h a (.dK kvs) from aaZ ok e
theorem ags{kvs:List (Key×V)}(ok:vO P w H h)(e:H a=some (.dK kvs)):kvs.length<=sizeLine/\(a==eE)=false/\∃vs,KV kvs vs/\h.DictOf (de P w) a vs:=LA ok (.inl e)
theorem rb{ks:List Key}(ok:vO P w H h)(e:H a=some (.tup (ks.map kV))):(jY (de P w)).is h ks a:=by
 rcases(show iw P w H h a (.tup (ks.map kV)) from ok a _ e)with⟨_,cV,r,o,h1,h2,n,h3⟩;exact⟨o,cV.toArray,n,h1,h2,h3,by simpa using Gs r⟩
theorem Ly{kvs:List (List Key×V)}(ok:vO P w H h)(e:Rd H a (.dT kvs)):kvs.length<=sizeLine/\(a==eE)=false/\
 ∃xs,KT H kvs xs/\h.DictOfH (jY (de P w)) a xs:=by
 rcases(show iw P w H h a (.dT kvs) from aaZ ok e)with⟨z,y,xs,r,o,es,ep,h1,h2,h3,h4,h5⟩;refine⟨z,y,xs,r,o,es,ep,h1,h2,h3,h4,fun x hx=> ?_,h5⟩
 have all:∀{l:List (List Key×V)} {m:List (List Key×ao×ax)},KT H l m->∀x∈m,(jY (de P w)).is h x.1 x.2.1:=by
  intro l m q
  induction q with
  |nil=>intro x hx;exact nomatch hx
  | @cons p q ps qs hq t ih=>
    intro x hx;obtain e|hx:=a0.mp hx
    ·subst e;exact rb ok (by rw[<-hq.1];exact hq.2.1)
    ·exact ih x hx
 exact all r x hx
theorem W8{kvs:List (List Key×V)}(ok:vO P w H h)(e:H a=some (.dT kvs)):kvs.length<=sizeLine/\(a==eE)=false/\
 ∃xs,KT H kvs xs/\h.DictOfH (jY (de P w)) a xs:=Ly ok (.inl e)
end
def sH(H:Hp)(a:ao)(y:V)(r:Option V):Prop:=
 (∃kvs k,Rd H a (.dK kvs)/\y=kV k/\r=fq kvs k)\/∃kvs k b,Rd H a (.dT kvs)/\y= .ref b/\H b=some (.tup (k.map kV))/\r=fq kvs k
def F4(H:Hp)(a:ao)(y v:V)(H':Hp):Prop:=
 (∃kvs k,H a=some (.dK kvs)/\y=kV k/\kvs.length<sizeLine/\H'=upd H a (.dK (putK kvs k v)))\/
 ∃kvs k b,H a=some (.dT kvs)/\y= .ref b/\H b=some (.tup (k.map kV))/\kvs.length<sizeLine/\H'=upd H a (.dT (putK kvs k v))
theorem sH.k{H:Hp}{a:ao}{kvs:List (Key×V)}{k:Key}(e:H a=some (.dK kvs)):sH H a (kV k) (fq kvs k):=.inl ⟨kvs,k,.inl e,rfl,rfl⟩
theorem sH.t{k:List Key}(e:H a=some (.dT kvs))(eb:H b=some (.tup (k.map kV))):sH H a (.ref b) (fq kvs k):=.inr ⟨kvs,k,b,.inl e,rfl,eb,rfl⟩
theorem F4.k{H:Hp}{a:ao}{kvs:List (Key×V)}{k:Key}{v:V}(e:H a=some (.dK kvs))(hl:kvs.length<sizeLine):F4 H a (kV k) v (upd H a (.dK (putK kvs k v))):=.inl ⟨kvs,k,e,rfl,hl,rfl⟩
theorem F4.t{kvs:List (List Key×V)}{k:List Key}(e:H a=some (.dT kvs))(eb:H b=some (.tup (k.map kV)))(hl:kvs.length<sizeLine):
 F4 H a (.ref b) v (upd H a (.dT (putK kvs k v))):=.inr ⟨kvs,k,b,e,rfl,eb,hl,rfl⟩
section
variable{X:Cx}{ae:List (ao×Obj)}{Z:St}{H:Hp}{s:az}{a:ao}{y v:V}{u r:ax}{o:Option V}{A:cN}{E:ax->az->Prop}
theorem Inv.big(I:Inv X ae Z H s):eE<s.heap.objs.size:=by
 have h:jn<s.heap.objs.size:=(I.mod.glob.keeps I.bk).lt;exact agP (by decide) h
theorem aas(hu:A.units+1<kO)(I:Inv X ae Z H s)(g:sH H a y o)(ry:RelV y u)(h:∀s',Inv X ae Z H s'->Q (.bool (!o.isSome)) s'):
 a7 (bf X.prog X.w) A (bZ .NotIn u (.ref a)) Q E s:=by
 obtain⟨kvs,k,e,ey,l⟩|⟨kvs,k,b,e,ey,eb,l⟩:=g
 ·subst ey;obtain⟨z,hd,vs,rel,dd⟩:=LA I.fW e;refine akk (Bm ry) hd dd.mapOf ?_;rw[<-(rel.val k).nz,<-l];exact h _ (I.tok _)
 ·subst ey
  cases (show u=bM b from ry)
  obtain⟨z,hd,xs,rel,dd⟩:=Ly I.fW e;refine agO (fA hu) (rb I.fW eb) hd dd ?_;have q:=(rel.val k).nz;rw[rB]at q;rw[<-q,<-l];exact h _ (I.tok _)
theorem Cr{h':dg}(I:Inv X ae Z H s)(mu:Mut (H a))(hs:gO a s.heap h')(he:∃q,h'.get? a=some q)(new:iw X.prog X.w (upd H a ob) h' a ob):
 Inv X ae Z (upd H a ob) {s with heap:=h',toks:=t'}:=
 I.write (x:=a) (e:=a) mu (.inl rfl) (fun b q hb z=>(hs.2 b hb).trans z) he new
theorem adH{h':dg}{kvs:List (Key×V)}(z:kvs.length<=sizeLine)(hd:(a==eE)=false)(rel:KV kvs vs)(dd:h'.DictOf (de P w) a vs):
 iw P w H' h' a (.dK kvs):=⟨z,hd,vs,rel,dd⟩
theorem Sv(hu:A.units+1<kO)(I:Inv X ae Z H s)(g:F4 H a y v H')(ry:RelV y u)(rv:RelV v r)(h:∀s',Inv X ae Z H' s'->Q () s'):
 a7 (bf X.prog X.w) A (setItem (.ref a) u r) Q E s:=by
 obtain⟨kvs,k,e,ey,l,eH⟩|⟨kvs,k,b,e,ey,eb,l,eH⟩:=g
 ·subst ey eH;rcases ags I.fW e with⟨z,hd,vs,rel,dd⟩;have hz:vs.length<=sizeLine:=by rw[<-rel.length];exact z
  have hl:(putK kvs k v).length<=sizeLine:=by have:=Bj kvs k v;lia
  refine wpAny_setItem_pairs (hsz:=hz) (Bm ry) dd fun h' dd' hs=>h _ ?_;have he:∃q,h'.get? a=some q:=let ⟨q,_,_,hq,_⟩:=dd';⟨q,hq⟩
  exact Cr I (by rw[e];exact mo) hs he (adH hl hd (rel.put k rv) dd')
 ·subst ey eH
  cases (show u=bM b from ry)
  rcases W8 I.fW e with⟨z,hd,xs,rel,dd⟩;have hz:xs.length<=sizeLine:=by rw[<-jZ rel];exact z
  have hl:(putK kvs k v).length<=sizeLine:=by have:=Bj kvs k v;lia
  refine wpAny_setItem_heap (hsz:=hz) (fA hu) (rb I.fW eb) dd fun h' dd' hs=>h _ ?_;rcases dd' with⟨q,es,ep,hq,h2,h3,h4,_,h5⟩;refine Cr I (by rw[e];exact mo) hs ⟨q,hq⟩ ⟨hl,hd,_,(rel.put k eb rv).keeps fun c ys ec=> ?_,q,es,ep,hq,h2,h3,h4,h5⟩;rw[ai (VO ec e (fun z=>nomatch z))];exact ec
end
section
variable{X:Cx}{ae:List (ao×Obj)}{Z:St}{H:Hp}{s:az}{a:ao}{kvs:List (Key×V)}{k:Key}{u:ax}{A:cN}{E:ax->az->Prop}
end
def ag8(i:dQ):Prop:=∀ov iv,subscripted i false ov iv=operate [ov,iv] (uJ ov iv)
theorem YO{prog:bD}{w:cP}{A:cN}{E:ax->az->Prop}{s:az}{env:Env}{value slice:dQ}{pos:Pos}{T id:String}{Q:ax->az->Prop}
 (hl:typeLookup (.type T) "__getitem__"=pure (some (.builtin id))) (hs:ag8 slice)
 (h:a7 (bf prog w) A (eval value env) (fun o s₁=>a7 (bf prog w) A (eval slice env) (fun i s₂=>s₂.TypeIs o T/\a7 (bf prog w) A (uJ o i) Q E s₂) E s₁) E s):
 a7 (bf prog w) A (eval (.Subscript value slice pos) env) Q E s:=by
 refine ad1 (dZ h (fun o s₁ h₁=>dZ h₁ (fun i s₂ h₂=> ?_) fun _ _ x=>x) fun _ _ x=>x);obtain⟨hT,h₂⟩:=h₂;unfold SW;refine ay ?_;rw[getitemInPython_of_ne hT.not_modules];refine ay (wpAny_specialOf hT hl ?_)
 have fin:a7 (bf prog w) A (subscripted slice false o i) (fun r s₃=>a7 (bf prog w) A (letTemporaryGo value o r>>=fun _=>pure r) Q E s₃) E s₂:=by
  rw[hs o i];exact wpAny_operating (dZ h₂ (fun r s₃ h₃=>ay (wpAny_letTemporaryGo (aU h₃))) fun _ _ x=>x)
 first
  |exact aU (ay fin)
  |exact ay (aU (ay fin))
  |exact ay fin
def ah8(ty td:TE):TE:=fun Z H Q=>ty Z H fun y H1=>td Z H1 fun x H2=>∃a o,x= .ref a/\sH H2 a y o/\Q (.bl o.isSome) H2
def OY(ty td:TE):TE:=fun Z H Q=>ty Z H fun y H1=>td Z H1 fun x H2=>∃a o,x= .ref a/\sH H2 a y o/\Q (.bl (!o.isSome)) H2
def aaY(td ty tv:TE):TS:=fun D Z H=>tv Z H fun v H1=>td Z H1 fun x H2=>ty Z H2 fun y H3=>∃a H4,x= .ref a/\F4 H3 a y v H4/\D.nx Z H4
section
variable{X:Cx}{o i e value:dQ}{pos pos' Ua:Pos}{td ty tv:TE}
theorem Q2(hu:X.A.units+1<kO)(hi:PE X i ty)(ho:PE X o td):PC X .NotIn i o (OY ty td):=by
 intro ae s Z H Q I h;refine mW (hi ae s Z H _ I h) fun iv s1 y H1 I1 ry q1=>mW (ho ae s1 Z H1 _ I1 q1) fun u s2 x H2 I2 rx zq=> ?_;obtain⟨a,ov,ex,g,q2⟩:=zq;subst ex;obtain rfl:u=bM a:=rx;exact aas hu I2 g ry fun s3 I3=>⟨.bl (!ov.isSome),H2,I3,rfl,q2⟩
theorem Pc(hu:X.A.units+1<kO)(ho:PE X o td)(hi:PE X i ty)(hv:PE X value tv)(hs:pW value (some (.Subscript o i pos')) pos.line X.env=pure false):
 PS X (.Assign [.Subscript o i pos'] value pos) (aaY td ty tv):=by
 intro ae s Z H D I h;refine wpAny_Assign_Subscript (mW (hv ae s Z H _ I h) fun r s1 v H1 I1 rv q1=>mW (ho ae s1 Z H1 _ I1 q1) fun u s2 x H2 I2 rx q2=>mW (hi ae s2 Z H2 _ I2 q2) fun iv s3 y H3 I3 ry zq=> ?_) hs;obtain⟨a,H4,ex,g,q3⟩:=zq;subst ex;obtain rfl:u=bM a:=rx;exact Sv hu I3 g ry rv fun s4 I4=>⟨Z,H4,I4,q3⟩
end
theorem Xc(h:dg)(hb:eE<h.objs.size):iw P w H (h.push {cls:=.type "dict",data:=.dict #[]}) h.objs.size (.dK []):=
 ⟨aC _,beq_eq_false_iff_ne.mpr (aD (dN hb)),[],.nil,akj h⟩
theorem W9(h:dg)(hb:eE<h.objs.size):iw P w H (h.push {cls:=.type "dict",data:=.dict #[]}) h.objs.size (.dT []):=
 ⟨aC _,beq_eq_false_iff_ne.mpr (aD (dN hb)),[],.nil,_,#[],0,b9 _ rfl,⟨rfl,rfl,rfl⟩,rfl,rfl,xh⟩
def UA:TE:=fun _ H Q=>∀p,H p=none->Q (.ref p) (upd H p (.dK []))
def Uz:TE:=fun _ H Q=>∀p,H p=none->Q (.ref p) (upd H p (.dT []))
section
variable{X:Cx}{pos:Pos}
theorem Ku:PE X (.Dict [] [] pos) UA:=fun ae s Z H Q I h=>
 agN ⟨.ref s.heap.objs.size,_,I.laid (a:=s.heap.objs.size) (o:=.dK []) (t':=s.toks) (fun _ _ q=>a5 _ q) (aE _) (Xc s.heap I.big),rfl,h _ (I.fW.fresh (aE _))⟩
theorem Vn:PE X (.Dict [] [] pos) Uz:=fun ae s Z H Q I h=>
 agN ⟨.ref s.heap.objs.size,_,I.laid (a:=s.heap.objs.size) (o:=.dT []) (t':=s.toks) (fun _ _ q=>a5 _ q) (aE _) (W9 s.heap I.big),rfl,h _ (I.fW.fresh (aE _))⟩
end
structure M1(X:Cx)(o:dQ)(m:Str)(apos:Pos)(e:dQ)(kL:Pos):Prop where
 base:mZ o m X.env (eval o X.env)=eval o X.env
 few:((jE kL (bN [e] X.env)).all (fun x=> !x.1)&&(uc kL (lT [] X.env)).all (fun x=>x.1.isSome)
  &&decide (([e]:List dQ).length+([]:List F1).length+(if ([]:List F1).isEmpty then 0 else 1)<30))=true
 line:(apos.endLine==kL.line)=true
 trees:jE kL (bN [e] X.env)=[(false,eval e X.env)]
structure M2(X:Cx)(o:dQ)(m:Str)(apos:Pos)(e f:dQ)(kL:Pos):Prop where
 base:mZ o m X.env (eval o X.env)=eval o X.env
 few:((jE kL (bN [e,f] X.env)).all (fun x=> !x.1)&&(uc kL (lT [] X.env)).all (fun x=>x.1.isSome)
  &&decide (([e,f]:List dQ).length+([]:List F1).length+(if ([]:List F1).isEmpty then 0 else 1)<30))=true
 line:(apos.endLine==kL.line)=true
 trees:jE kL (bN [e,f] X.env)=[(false,eval e X.env),(false,eval f X.env)]
def Yw(H:Hp)(a:ao):Prop:=(∃kvs,Rd H a (.dK kvs))\/∃kvs,Rd H a (.dT kvs)
theorem Ic{X:Cx}{ae:List (ao×Obj)}{Z:St}{H:Hp}{s:az}{a:ao}(I:Inv X ae Z H s)(d:Yw H a):
 s.TypeIs (.ref a) "dict"/\(∀b,bM a= .ref b->∃ob,s.heap.get? b=some ob/\ob.dict=none)/\(a==eE)=false:=by
 obtain⟨kvs,e⟩|⟨kvs,e⟩:=d
 ·obtain⟨_,hd,vs,_,dd⟩:=LA I.fW e;refine⟨dd.typeIs,fun b q=> ?_,hd⟩
  cases q
  obtain⟨ob,_,_,h1,h2,_⟩:=dd;exact⟨ob,h1,h2.2.1⟩
 ·obtain⟨_,hd,xs,_,dd⟩:=Ly I.fW e;refine⟨dd.typeIs,fun b q=> ?_,hd⟩
  cases q
  obtain⟨ob,_,_,h1,h2,_⟩:=dd;exact⟨ob,h1,h2.2.1⟩
section
variable{X:Cx}{ae:List (ao×Obj)}{Z:St}{H:Hp}{s:az}{a:ao}{y d:V}{u r:ax}{o:Option V}{A:cN}{E:ax->az->Prop}
theorem adK(hu:A.units+1<kO)(I:Inv X ae Z H s)(g:sH H a y o)(ry:RelV y u)(h:∀w' s',Inv X ae Z H s'->RelV (o.getD .fI) w'->Q w' s'):
 a7 (bf X.prog X.w) A (call (.builtin "dict.get") [.ref a,u]) Q E s:=by
 obtain⟨kvs,k,e,ey,l⟩|⟨kvs,k,b,e,ey,eb,l⟩:=g
 ·subst ey;rcases LA I.fW e with⟨z,hd,vs,rel,dd⟩;refine sE gZ dd.typeIs mQ (G0 _ _) (meets_dict_get (de X.prog X.w) a (Bm ry) hd) ⟨_,dd.mapOf,h _ _ (I.tok _) ?_⟩;rw[l];exact(rel.val k).getD rfl
 ·subst ey
  cases (show u=bM b from ry)
  rcases Ly I.fW e with⟨z,hd,xs,rel,dd⟩;refine sE gZ dd.typeIs mQ (G0 _ _) (meetsH_dict_get (jY (de X.prog X.w)) a b hd) ⟨fA hu,k,xs,rb I.fW eb,dd,h _ _ (I.tok _) ?_⟩;rw[l];exact(rel.val k).getD rfl
theorem adJ(hu:A.units+1<kO)(I:Inv X ae Z H s)(g:sH H a y o)(ry:RelV y u)(rd:RelV d r)(h:∀w' s',Inv X ae Z H s'->RelV (o.getD d) w'->Q w' s'):
 a7 (bf X.prog X.w) A (call (.builtin "dict.get") [.ref a,u,r]) Q E s:=by
 obtain⟨kvs,k,e,ey,l⟩|⟨kvs,k,b,e,ey,eb,l⟩:=g
 ·subst ey;obtain⟨z,hd,vs,rel,dd⟩:=LA I.fW e;refine sE gZ dd.typeIs mQ (GZ _ _ _) (meets_dict_get_default (de X.prog X.w) a (Bm ry) hd r) ⟨_,dd.mapOf,h _ _ (I.tok _) ?_⟩;rw[l];exact(rel.val k).getD rd
 ·subst ey
  cases (show u=bM b from ry)
  obtain⟨z,hd,xs,rel,dd⟩:=Ly I.fW e;refine sE gZ dd.typeIs mQ (GZ _ _ _) (meetsH_dict_get_default (jY (de X.prog X.w)) a b hd r) ⟨fA hu,k,xs,rb I.fW eb,dd,h _ _ (I.tok _) ?_⟩;rw[l];exact(rel.val k).getD rd
end
def UC(td ty:TE):TE:=fun Z H Q=>td Z H fun x H1=>∃a,x= .ref a/\Yw H1 a/\ty Z H1 fun y H2=>∃o,sH H2 a y o/\Q (o.getD .fI) H2
def UB(td ty tx:TE):TE:=fun Z H Q=>td Z H fun x H1=>∃a,x= .ref a/\Yw H1 a/\ty Z H1 fun y H2=>tx Z H2 fun z H3=>∃o,sH H3 a y o/\Q (o.getD z) H3
section
variable{X:Cx}{o e f:dQ}{apos kL:Pos}{td ty tx:TE}
theorem DN(hu:X.A.units+1<kO)(ho:PE X o td)(he:PE X e ty)(m:M1 X o "get" apos e kL):PE X (.Call (.Attribute o "get" apos) [e] [] kL) (UC td ty):=by
 intro ae s Z H Q I h;refine uG m.base m.few m.line l8 gZ JB (mW (ho ae s Z H _ I h) fun u s1 x H1 I1 rx zq=> ?_);obtain⟨a,ex,d,q1⟩:=zq;subst ex;obtain rfl:u=bM a:=rx;obtain⟨t1,t2,_⟩:=Ic I1 d;exists t1,t2;rw[m.trees];refine fG rfl (iK (fj (mW (he ae s1 Z H1 _ I1 q1) fun iv s2 y H2 I2 ry ⟨ov,g,q2⟩=>iL ?_)));exact adK hu I2 g ry fun w' s3 I3 BN=>⟨_,H2,I3,BN,q2⟩
theorem Vo(hu:X.A.units+1<kO)(ho:PE X o td)(he:PE X e ty)(hf:PE X f tx)(m:M2 X o "get" apos e f kL):PE X (.Call (.Attribute o "get" apos) [e,f] [] kL) (UB td ty tx):=by
 intro ae s Z H Q I h;refine uG m.base m.few m.line l8 gZ JB (mW (ho ae s Z H _ I h) fun u s1 x H1 I1 rx zq=> ?_);obtain⟨a,ex,d,q1⟩:=zq;subst ex;obtain rfl:u=bM a:=rx;obtain⟨t1,t2,_⟩:=Ic I1 d;exists t1,t2;rw[m.trees]
 refine fG rfl (iK (fj (mW (he ae s1 Z H1 _ I1 q1) fun iv s2 y H2 I2 ry q2=>
  fj (mW (hf ae s2 Z H2 _ I2 q2) fun fv s3 z H3 I3 rz ⟨ov,g,q3⟩=>iL ?_))))
 exact adJ hu I3 g ry rz fun w' s4 I4 BN=>⟨_,H3,I4,BN,q3⟩
end
section
variable{X:Cx}{ae:List (ao×Obj)}{Z:St}{H:Hp}{s:az}{a:ao}{kvs:List (Key×V)}{A:cN}{E:ax->az->Prop}
end
section
variable{X:Cx}{ae:List (ao×Obj)}{Z:St}{H:Hp}{s:az}{a:ao}{y:V}{u:ax}{A:cN}{E:ax->az->Prop}
end
end
section
section
variable{prog:bD}{w:cP}{A:cN}{E:ax->az->Prop}
end
section
variable{X:Cx}
end
end
section
section
variable{X:Cx}{ae:List (ao×Obj)}{Z:St}{H:Hp}{s:az}{h':dg}
theorem Inv.QE{t':Nat}{ch:List ao}{T:ao}{ob:HO}(I:Inv X ae Z H s)(k:∀b o,b∉ch->s.heap.get? b=some o->h'.get? b=some o)(hf:∀b∈ch,zR X ae H b)(hT:s.heap.objs.size<=T)
 (new:iw X.prog X.w (upd H T ob) h' T ob):Inv X ae Z (upd H T ob) {s with heap:=h',toks:=t'}:=by
 have hn:H T=none:=I.fW.fresh hT
 have nit:∀b u,H b=some u->b∉ch:=fun b u e z=>by
  have q:=(hf b z).1;rw[q]at e;cases e
 refine I.step (g':=s.gens) (d':=s.drawn) (ch:=ch) (fun b hb=>⟨(hf b hb).2.2.2.1,(hf b hb).2.1,(hf b hb).2.2.2.2.1,(hf b hb).2.2.2.2.2⟩) (fun b o _ _ hc e _=>k b o hc e) (fun b o _ _ hc e _=>⟨o.slots,k b o hc e⟩)
  (fun b o _ e n=> ?_) (fun b o hc e=>⟨o,k b o hc e⟩) (fun b xs e=> ?_) (fun b o u e=> ?_) (fun b ps e=>⟨#[],?_⟩) (fun m hm=> ?_) (fun b u e=> ?_) I.bare
 ·rw[ai (dN (bP (bz e) hT))];exact n
 ·rw[ai (gT e hn)];exact e
 ·rw[ai (gT e hn)];exact e
 ·rw[ai (gT e hn),e];simp
 ·obtain⟨o,es,ep,ho,r⟩:=hm;exact⟨o,es,ep,k _ o (fun z=>(hf _ z).2.1 rfl) ho,r⟩
 ·by_cases hb:b=T
  ·subst hb;rw[aq]at e
   cases e
   exact new
  ·rw[ai hb]at e;refine(I.fW b u e).J1 (fun c v hc q=>k c v ?_ q) (fun c q=>by rw[ai (gT q hn)];exact q) fun c xs q=>by rw[ai (gT q hn)];exact q
   obtain z|z:=hc
   ·rw[z];exact nit b u e
   ·exact nit c _ z
end
section
variable{X:Cx}
theorem Nf{tg:dQ}{ae:List (ao×Obj)}{Z:St}{H:Hp}{s:az}{R:It->Hp->Prop}{J:It}{tn:Nat->dg->Prop}{tk:Nat}(I:Inv X ae Z H s)(o:Obj)
 (T:Turn X.prog X.w X.K tg J [s.heap.objs.size] s.heap.objs.size tn) (st:tn 0 (s.heap.push o)) (q:R J H):PIE X ae Z tg R (.ref s.heap.objs.size) {s with heap:=s.heap.push o,toks:=tk}:=by
 refine⟨s.heap.objs.size,[s.heap.objs.size],tn,J,H,rfl,I.kept fun b ob e=>a5 _ e,T,st,fun b hb=> ?_,q⟩;have e:b=s.heap.objs.size:=by simpa using hb
 subst e;exact I.WT (aE _) (I.fW.fresh (aE _))
end
def RgC(i j c:Int)(n:Nat):Prop:=c≠0/\c.natAbs<1073741824/\agM i j c=true/\Bz i j c=n
theorem RgC.neg(ha: -(2^62)<=i)(ha':i<2^62)(hb: -(2^62)<=j)(X4:j<2^62):RgC i j (-1) (i- j).toNat:=
 ⟨by decide,by decide,PySem.W.small_down ha ha' hb X4,PySem.W.rangeSize_downNat i j⟩
section
variable{X:Cx}{tg:dQ}
end
section
variable{X:Cx}{tg:dQ}
end
def Its(x:Str):It:=⟨fun i _=>i<x.cps.size,fun i H v H'=>H'=H/\∃c,x.cps[i]? =some c/\v= .str ⟨#[c]⟩,fun i _=>x.cps.size<=i⟩
theorem JK{P:bD}{w:cP}{K:aA}{tg:dQ}(it:ao)(x:Str)(t:Tok)(ty:String)(hty:ty="str_ascii_iterator"\/ty="str_iterator"):
 Turn P w K tg (Its x) [it] it (fun i h=>h.IsStrIter it ty x t i) where
 mem:=by simp
 obj:=fun i h st b hb=>by
  have e:b=it:=by simpa using hb
  subst e;obtain⟨o,e,c,d⟩:=st;exact⟨o,e,fun v z=>by rw[d]at z;cases z⟩
 keep:=fun i h h' st k=>let ⟨o,ho,r⟩:=st;⟨o,k it (by simp) o ho,r⟩
 item:=by
  intro X hP hw hK hc i ae s Z H E I hf st hg;subst hP hw hK;obtain⟨f0,f1,f2,f3,f4,f5⟩:=hf it (by simp)
  have W:Walks X.prog X.w X.A it [it] [it] x.cps.size (SignAt x) (fun i h=>h.IsStrIter it ty x t i):=by
   obtain e|e:=hty
   ·rw[e];exact Walks.strAscii (I.ok.hd hc) it x t
   ·rw[e];exact Walks.strWide (I.ok.hd hc) it x t
  have Jl:["enumerate","zip","dict_itemiterator","dict_reverseitemiterator","odict_iterator","itertools.zip_longest","itertools.pairwise"].contains ty=false:=by
   obtain e|e:=hty
   ·rw[e];decide
   ·rw[e];decide
  refine W.item i s _ _ hg st fun v h' tk hv UI kk=> ?_;obtain⟨c,u,hcx,rfl⟩:=hv;have I1:Inv X ae Z H {s with heap:=h',toks:=tk}:=I.turned (fun b o hb e=>kk b o (by simpa using hb) e) f0 f1 f3 f4 f5;obtain⟨oi,e,cc,dd⟩:=id UI;exact⟨_,rfl,PV (s:={s with heap:=h',toks:=tk}) e cc dd Jl ⟨.str ⟨#[c]⟩,H,I1,⟨u,rfl⟩,⟨rfl,c,hcx,rfl⟩,UI,fun b hb=>(hf b hb).1⟩⟩
 done:=by
  intro X hP hw hK hc i ae s Z H E I hf st hg;subst hP hw hK;obtain⟨f0,f1,f2,f3,f4,f5⟩:=hf it (by simp);have hx:x.cps[i]? =none:=LZ hg;obtain e|e:=hty
  ·rw[e]at st;exact wpAny_pyNext_ascii_end (I.ok.hd hc) st hx fun h' eb=>⟨rfl,I.turned (t':=s.toks) (fun b o hb e=>eb b o hb e) f0 f1 f3 f4 f5⟩
  ·rw[e]at st;exact wpAny_pyNext_wide_end (I.ok.hd hc) st hx fun h' eb=>⟨rfl,I.turned (t':=s.toks) (fun b o hb e=>eb b o hb e) f0 f1 f3 f4 f5⟩
 self:=fun A i s Q E st h=>by
  obtain e|e:=hty
  ·rw[e]at st;exact wpAny_pyIter_striter_ascii st h
  ·rw[e]at st;exact wpAny_pyIter_striter_wide st h
def aiV(te:TE):TI:=fun Z H R=>te Z H fun v H1=>∃x,v= .str x/\R (Its x) H1
theorem ab8(he:PE X e te):PI X tg e (aiV te):=by
 intro ae s Z H R I h;refine mW (he ae s Z H _ I h) fun v s1 y H1 I1 r1 zq=> ?_;obtain⟨x,ex,q⟩:=zq;subst ex;obtain⟨t,rfl⟩:=r1
 cases ha:x.cps.all (·<128)
 ·exact wpAny_pyIter_wide ha (Nf (tk:=s1.toks) I1 _ (JK _ x t "str_iterator" (.inr rfl)) ⟨_,b9 _ rfl,rfl,rfl⟩ q)
 ·exact wpAny_pyIter_ascii ha (Nf (tk:=s1.toks) I1 _ (JK _ x t "str_ascii_iterator" (.inl rfl)) ⟨_,b9 _ rfl,rfl,rfl⟩ q)
section
variable{prog:bD}{w:cP}{A:cN}{E:ax->az->Prop}{s:az}
theorem RI{o:Obj}{es:Array mh}(hd:(d==eE)=false)(ho:s.heap.get? d=some o)(hc:o.ExactDict)(agg:o.data= .dict es ep)
 (hQ:Q (.ref s.heap.objs.size) {s with heap:=s.heap.push {cls:=.type "dict_keyiterator",data:=.fields #[.ref d,.int 0 0,.int es.size 0,.int ep 0]}}):
 a7 (bf prog w) A (ad5 (.ref d)) Q E s:=by
 have hT:s.TypeIs (.ref d) "dict":=⟨o,ho,hc.1⟩;refine wpAny_pyIter_slot hT adX (wH adX hT F.entry_dict_iter ?_ (F.args_dict_iter_1 _));unfold By.«dict.__iter__»;refine ay ?_;unfold ahM;refine ay (zL hT ?_);show a7 _ _ (pure (bM d)) _ _ s;refine aU ?_;show a7 _ _ (EF d>>=_) _ _ s;unfold EF;rw[if_neg (by rw[hd];exact a8)];refine ay (aU ?_);refine ay (oN ho agg ?_);refine ay (ahL ho agg ?_);refine ay (gQ (aU ⟨_,rfl,"dict_keyiterator",_,⟨_,b9 _ rfl,rfl⟩,qm.lookup,?_⟩));simpa [OK]using hQ
theorem HH{od:Obj}{es:Array mh}(hh:A.handled=none)(hit:s.heap.IsKeyIter it d i n ep)(hod:s.heap.get? d=some od)(hdd:od.data= .dict es ep)
 (hsz:es.size=n) (L8:n<=i) (hQ:∀h',Heap.ExtBut it s.heap h'->Q none {s with heap:=h'}):a7 (bf prog w) A (ad6 (.ref it)) Q E s:=by
 obtain⟨o,ho,hc,hd⟩:=id hit;unfold ad6
 refine ay (akH (wI (name:=cB "__next__") hit.typeIs qm
  (wH qm hit.typeIs F.entry_dict_keyiterator_next ?_ (F.args_dict_keyiterator_next_1 _))))
 refine ay (aU ?_);refine ay ?_;refine ay ?_
 first|refine ay (JA hit.typeIs (aU ?_))|refine ay (SU hit.typeIs (aU ?_))
 refine ay (wpAny_fieldsOf ho hd ?_);have aji:Yt "dict_keyiterator"=false:=by decide
 rw[aji,if_neg a8];show a7 _ _ (if (bM d==mi)=true then _ else _) _ _ s;rw[if_neg (show ¬((bM d==mi)=true) from a8)];refine ay (aU ?_);refine ay (oN hod hdd ?_);rw[if_neg (by rw[hsz];simp)];refine ay (aU ?_);refine ay (ahL hod hdd ?_);rw[if_neg (by simp)];refine aU ?_;have ajA:es.size<=i:=by rw[hsz];exact L8
 simp only[show ¬((i:Int)<0) from by lia,if_false,dk,LZ ajA];refine ay ?_
 first|refine ay (JA hit.typeIs (aU ?_))|refine ay (SU hit.typeIs (aU ?_))
 show a7 _ _ (aki (.ref it) 0 .none>>=_) _ _ s;refine ay (akh ho hd (by simp) ?_);show a7 _ _ (newExc (.type "StopIteration") []>>=_) _ _ _;refine ay ?_;unfold newExc newTuple;refine ay (gQ ?_ (by size_fits));refine ay (m:=akg _ _) (wpAny_of_eq (a:=mi) (by first|rfl|(simp only[akg];rfl)) ?_);refine gQ ?_ (by size_fits);unfold raiseNew;refine ay (wpAny_handled ?_);rw[show A.in1.handled=none from hh];refine ay (aU (wpAny_throw ?_));refine ay (wpAny_isInstance (T:="StopIteration") (b:=true) ⟨_,b9 _ rfl,rfl⟩ isSubtype_stop ?_);exact aU (hQ _ (((ir ..).extBut.push _).push _))
end
theorem acG{κ:Type}{kvs:List (κ×V)}{vs:List (κ×ax)}(h:KV kvs vs):∀{i:Nat} {k:κ} {v:V},kvs[i]? =some (k,v)->∃u,vs[i]? =some (k,u)/\RelV v u:=by
 unfold KV at h
 induction h with
 |nil=>intro i k v e;simp at e
 | @cons a b l₁ l₂ r t ih=>
   intro i k v e
   cases i with
   |zero=>
    simp only[LY,Jz]at e;subst e;refine⟨b.2,?_,r.2⟩;simp only[LY];exact congrArg some (ak0 r.1.symm rfl)
   |succ j=>
    simp only[List.getElem?_cons_succ]at e⊢;exact ih e
theorem Km(h:zm k u=true):RelV (kV k) u:=by
 obtain⟨i,t,rfl,rfl⟩|⟨x,t,rfl,rfl⟩:=gJ h
 ·exact⟨t,rfl⟩
 ·exact⟨t,rfl⟩
section
variable{X:Cx}{ae:List (ao×Obj)}{Z:St}{H:Hp}{s:az}{d:ao}{o:Obj}
end
section
variable{P:bD}{w:cP}{K:aA}{tg:dQ}{d:ao}{o:Obj}{es:Array mh}{ep:Nat}
end
section
variable{X:Cx}{tg e:dQ}{td:TE}{apos kL:Pos}
end
def Ite(K:aA)(a:ao):It:=
 ⟨fun i H=>∃(xs:List V) (x:V),kE K H a xs/\xs[i]? =some x,fun i H v H'=>∃T x,v= .ref T/\H T=none/\H'=upd H T (.tup [.int (i:Nat),x])/\∀xs,kE K H a xs->xs[i]? =some x,fun i H=>∃xs:List V,kE K H a xs/\xs.length<=i⟩
theorem QG{P:bD}{w:cP}{K:aA}{elts:List dQ}{kk:Nat}{Ua:Pos}(a e it:ao):
 Turn P w K (.Tuple elts kk Ua) (Ite K a) [e,it] e (fun i h=>(∃old,IsEnum h e it ((i:Nat):Int) old)/\h.IsListIter it a i/\e≠it) where
 mem:=by simp
 obj:=fun i h st b hb=>by
  rcases st with⟨⟨old,he⟩,⟨o,ho,hc,hd⟩,_⟩;have e':b=e\/b=it:=by simpa using hb
  obtain z|z:=e'
  ·rw[z];exact⟨_,he,fun v q=>nomatch q⟩
  ·rw[z];exact⟨o,ho,fun v q=>by rw[hd]at q;cases q⟩
 keep:=fun i h h' st k=>let ⟨⟨old,he⟩,hi,vW⟩:=st;⟨⟨old,k e (by simp) _ he⟩,hi.at fun o q=>k it (by simp) o q,vW⟩
 item:=by
  intro X hP hw hK hc i ae s Z H E I hf st hg;subst hP hw hK;rcases st with⟨⟨old,he⟩,hit,vW⟩;rcases hg with⟨xs,x,hq,hx⟩;rcases I.list hq with⟨cV,rv,p,hz⟩;rcases rv.get hx with⟨u,hu,ru⟩;have hel:e<s.heap.objs.size:=bz he;have hil:it<s.heap.objs.size:=by obtain⟨_,q,_⟩:=hit;exact bz q
  refine wpAny_pyNext_enum_item he hit p.isList (x:=u) (by simpa using hu) vW fun h' ho ajy hT hsz hk=> ?_;refine⟨_,rfl,wpAny_letOwnedTupleGo_enum (s:={s with heap:=h',toks:=s.toks+1}) ho fun h'' he' sb=> ?_⟩;have hT2:h''.get? s.heap.objs.size=some {cls:=.type "tuple",data:=.seq #[.int i s.toks,u]}:=(sb.2 _ (ag6 hel)).trans hT
  have new:iw X.prog X.w (upd H s.heap.objs.size (.tup [.int (i:Nat),x])) h'' s.heap.objs.size (.tup [.int (i:Nat),x]):=
   ⟨by show 2<=sizeLine;decide,[.int i s.toks,u],.cons ⟨_,rfl⟩ (.cons ru .nil),⟨_,hT2,rfl,_,rfl⟩⟩
  have I1:Inv X ae Z (upd H s.heap.objs.size (.tup [.int (i:Nat),x])) {s with heap:=h'',toks:=s.toks+1}:=
   I.QE (ch:=[e,it]) (fun b ob hb q=>(sb.2 b (fun z=>hb (by simp[z]))).trans (hk b ob (fun z=>hb (by simp[z])) (fun z=>hb (by simp[z])) q)) hf (aE _) new
  refine⟨.ref s.heap.objs.size,_,I1,rfl,⟨_,x,rfl,I.fW.fresh (aE _),rfl,fun ys hy=>by rw[I.KY hy hq];exact hx⟩,⟨⟨u,?_⟩,ajy.at fun o q=>(sb.2 it (aD vW)).trans q,vW⟩,fun b hb=> ?_⟩
  ·have e1:((i+1:Nat):Int)=(i:Int)+1:=by lia
   rw[e1];exact he'
  ·have X4:b<s.heap.objs.size:=by
    have e':b=e\/b=it:=by simpa using hb
    obtain z|z:=e'
    ·rw[z];exact hel
    ·rw[z];exact hil
   rw[ai (dN X4)];exact(hf b hb).1
 done:=by
  intro X hP hw hK hc i ae s Z H E I hf st hg;subst hP hw hK;rcases st with⟨⟨old,he⟩,hit,vW⟩;rcases hg with⟨xs,hq,hx⟩;rcases I.list hq with⟨cV,rv,p,hz⟩;rcases hf it (by simp)with⟨f0,f1,f2,f3,f4,f5⟩;have hl:=rv.length;exact wpAny_pyNext_enum_end (I.ok.hd hc) he hit p.isList (by simp;lia) fun h' eb=>⟨rfl,I.turned (t':=s.toks) (fun b o hb q=>eb b o hb q) f0 f1 f3 f4 f5⟩
 self:=fun A i s Q E st h=>let ⟨⟨_,he⟩,_⟩:=st;aeB he h
def abb(K:aA)(ta:TA):TI:=fun Z H R=>ta Z H fun vs H1=>∃a xs,vs=[.ref a]/\kE K H1 a xs/\R (Ite K a) H1
theorem Pe{X:Cx}(hg:Gl X "enumerate")(hm:X.mg "enumerate"=none)(ha:PA X [e] ta)(hs:bN [e] X.env=[(false,eval e X.env)]:=by rfl):
 PI X (.Tuple elts kk Ua) (.Call (.Name "enumerate" p) [e] [] pos) (abb X.K ta):=by
 intro ae s Z H R I h;refine Call_ (tQ I hg hm boot_enumerate (dO (thA (ha pos ae s Z H _ I h) fun us s1 vs H1 I1 r1 q1=> ?_) hs rfl));obtain⟨a,xs,ex,hq,q⟩:=q1;subst ex
 cases r1 with
 |cons r rr=>
  cases rr
  cases r
  obtain⟨cV,rv,p',hz⟩:=I1.list hq;refine call_enumerate_list p'.isList fun h' he hit hsz hk=>aeB he ?_;have I2:Inv X ae Z H1 {s1 with heap:=h'}:=I1.kept (t':=s1.toks) hk;refine⟨s1.heap.objs.size+1,[s1.heap.objs.size+1,s1.heap.objs.size],_,_,H1,rfl,I2,QG a (s1.heap.objs.size+1) s1.heap.objs.size,⟨⟨.none,he⟩,hit,Nat.succ_ne_self _⟩,fun b hb=> ?_,q⟩;have e':b=s1.heap.objs.size+1\/b=s1.heap.objs.size:=by simpa using hb
  have hle:s1.heap.objs.size<=b:=by
   obtain z|z:=e'
   ·rw[z];exact uz _ _
   ·rw[z];exact aE _
  exact I1.WT hle (I1.fW.fresh hle)
end
end L2
section
namespace akq
open PySem PyProof.Rows
end akq
end
section
namespace TL
open PySem PySem.Builtin PySem.Builtin.Str PySem.StrLaws
abbrev tl(x:Str):List Nat:=x.cps.toList
theorem VX(x:Str):x.length=(tl x).length:=by simp[tl,Str.length]
theorem QJ(x y:Str):tl (x++y)=tl x++tl y:=by
 show (x++y).cps.toList=_;rw[Str.cps_append,Array.toList_append]
theorem A8(s:String):tl (cB s)=s.toList.map ahK:=ahJ s
def afx(n:Nat):List Nat:=(agL 10 n).map ahK
theorem MF(n:Nat):tl (cB (toString ((n:Nat):Int)))=afx n:=akf n
theorem VL(hk:0<k)(h:n<10^k):(afx n).length<=k:=by
 have z:=ahI (v:=(n:Int)) (by lia) hk (by
  have e:((10:Int)^k)=((10^k:Nat):Int):=by
   first
    |exact(Int.natCast_pow 10 k).symm
    |simp
  rw[e]
  first|exact Int.ofNat_lt.mpr h|omega)
 rw[VX,MF]at z;exact z
end TL
end
namespace L2
open PySem PySem.Spec PyProof.Rows
section
section
variable{X:Cx}{ae:List (ao×Obj)}{Z:St}{H:Hp}{s:az}{Q:VK}
end
section
variable{X:Cx}
end
section
variable{X:Cx}{o e:dQ}{to te:TE}
end
end
section
section
variable{X:Cx}
end
end
end L2
namespace Att
open PySem PySem.W PySem.Calls PyProof.Rows
theorem BZ:∀(ns:List Int) (vs:List ax),WellAll P h vs (ns.map WData.int)->FZ vs ns:=by
 intro ns
 induction ns with
 |nil=>
  intro vs w;rw[qg]at w
  cases w
  exact .nil
 |cons n ns ih=>
  intro vs w;rw[a4]at w
  cases w with
  |cons a b=>
   cases a
   exact .cons _ _ (ih _ b)
section
variable{prog:bD}{w:cP}{A:cN}{E:ax->az->Prop}{s:az}{K:Frag}
end
end Att
namespace L2
open PySem PySem.Spec PyProof.Rows
section
theorem F5:∀{vs:List ax} {ns:List Int},FZ vs ns->cZ (ns.map V.int) vs
 |_,_,.nil=>.nil
 |_,_,.cons n t h=>.cons ⟨t,rfl⟩ (F5 h)
def aaQ(H:Hp):Prop:=∀b,H b=none\/∃o xs,H b=some (.PX o (.lst xs))
end
section
abbrev qr{K:aA}{h:dg}(_:K.In h):aA:=K
end
section
def inClass(s:zI)(j:Nat):zI:=match s with
 | .ClassDef _ _ _ body _ _ _ _ _ _ _=>body.getD j (.Pass ⟨0,0,0,0⟩)
 |_=>.Pass ⟨0,0,0,0⟩
def qJ(s:zI):Arguments:=match s with
 | .FunctionDef _ a _ _ _ _ _ _ _ _=>a
 |_=>{posonlyargs:=[],args:=[],vararg:=none,kwonlyargs:=[],kw_defaults:=[],kwarg:=none,defaults:=[]}
def lC(s:zI):List zI:=match s with
 | .FunctionDef _ _ b _ _ _ _ _ _ _=>b
 |_=>[]
def dv(s:zI):ia:=match s with
 | .FunctionDef _ _ _ _ _ _ sc _ _ _=>sc
 |_=>{kind:=.function,names:=[],isGenerator:=false,isCoroutine:=false}
abbrev iN:G4:=fun _ _ _ _ _ _=>False
abbrev E0:XK:=fun _ _ _=>False
theorem bq:lV iN X E0:=fun _ _ _ _ _ _ _ h=>h.elim
structure Fun(K:aA)(x aG:Str)(st:zI)(f:ao)(fd:gq):Prop where
 ex:∃(oc:ax) (od:Option ao) (kV doc pm:ax) (an:Option ao) (nV ct:ax) (Q5:Array (Option ax)),
  fd=iu x aG (qJ st) (lC st) (dv st) .none kV doc pm an nV ct/\K.lookup f=some ⟨oc,od,.func fd,Q5⟩/\pZ K nV aG=true
 kp:bW K (.ref f)=true
section
variable{P:bD}{w:cP}{K:aA}{mg:Str->Option ax}{ag:dg}
theorem Fun.ok{x aG:Str}{st:zI}{f:ao}{fd:gq}{N ps:List Str}{k:Nat}{sp:Sp}(F:Fun K x aG st f fd)(S:wg N ps (dv st))(len:∀vs H Q E,sp vs H Q E->vs.length=ps.length)
 (La:∀(nV:ax) (A:cN) (aH:List Env) (s:az) (H:Hp) (vs:List V) (Q:VK) (E:XK),jN k (A.deeper (envOfC aG (dv st) s.heap.objs.size f nV))->sp vs H Q E->
  ∃t,Mr (iJ iN P w K mg ag N aG (dv st) f nV A aH s H E).HF (lC st) t/\t {nx:=fun _ H'=>Q .fI H',rt:=Q} (start N vs) H):eR P w K mg ag iN (k+1) f fd ps sp:=by
 obtain⟨oc,od,kV,doc,pm,an,nV,ct,Q5,rfl,lk,RW⟩:=F.ex;refine abm lk RW S len fun A aH s H vs Q E hr L4=> ?_;obtain⟨t,h,q⟩:=La nV A aH s H vs Q E hr L4;exact⟨t,h.HF,q⟩
theorem Fun.binds{x aG:Str}{st:zI}{f:ao}{fd:gq}{ps:List Str}(F:Fun K x aG st f fd)
 (h:∀(kV doc pm:ax) (an:Option ao) (nV ct:ax) (us:List ax),us.length=ps.length->aaO (iu x aG (qJ st) (lC st) (dv st) .none kV doc pm an nV ct) ⟨us,[]⟩=pure (ps.zip us)):Binds K fd ps []:=by
 obtain⟨oc,od,kV,doc,pm,an,nV,ct,Q5,rfl,lk,RW⟩:=F.ex;exact .all (h kV doc pm an nV ct)
theorem IC{x aG:Str}{st:zI}{f:ao}{oc:ax}{od an:Option ao}{Q5:Array (Option ax)}{kV doc pm nV ct:ax}(l:K.lookup f=some ⟨oc,od,.func (iu x aG (qJ st) (lC st) (dv st) .none kV doc pm an nV ct),Q5⟩)
 (c:pZ K nV aG=true) (k:bW K (.ref f)=true):Fun K x aG st f (iu x aG (qJ st) (lC st) (dv st) .none kV doc pm an nV ct):=⟨⟨oc,od,kV,doc,pm,an,nV,ct,Q5,rfl,l,c⟩,k⟩
end
theorem oV{A:cN}(hr:jN k A):A.units+1<kO:=XA (Nat.add_le_add_left (by decide:1<=64) _) hr.units
section
variable{X:Cx}
theorem pv(i:Nat){x:Str}{pos:Pos}(hN:X.N[i]? =some x:=by rfl)(hv:Vis X.env.scope x:=by walk_at"au")(hd:(x==("__debug__":Str))=false:=by decide)
 (RW:(x==("__classdict__":Str))=false:=by decide):PE X (.Name x pos) (abP i):=xF hN hv hd RW
end
def bE(H H':Hp):Prop:=∀b o,H b=some o->H' b=some o
theorem bE.refl(H:Hp):bE H H:=fun _ _ h=>h
theorem bE.trans(a:bE H H1)(b:bE H1 H2):bE H H2:=fun c o h=>b c o (a c o h)
section
variable{κ:Type}[DecidableEq κ]
theorem T8{kvs:List (κ×V)}(h:fq kvs k=none):¬k∈kvs.map (·.1):=by
 intro m;obtain⟨p,hp,e⟩:=eh.mp m;have q:(kvs.any fun kv=>decide (kv.1=k))=true:=Ys.mpr ⟨p,hp,decide_eq_true e⟩;rw[uP,h]at q;exact absurd q (by simp)
end
end
end L2
namespace TM
section
theorem qR{p t:List Nat}(hk:k<p.length):p.take (k+1)<:+t++[c]↔p.take k<:+t/\p[k]? =some c:=by
 rw[Bx hk,cy hk];constructor
 ·rintro⟨l,h⟩;rw[<-bu]at h;have h2:=List.append_inj' h rfl;exact⟨⟨l,h2.1⟩,by have:=h2.2;simp at this;rw[this]⟩
 ·rintro⟨⟨l,h⟩,e⟩;exists l;rw[<-bu,h];simp at e;rw[e]
theorem E6{p t:List Nat}(ha:p.take a<:+t)(hb:p.take b<:+t)(h:a<=b):p.take a<:+p.take b:=
 B7 ha hb (by simp only[aQ];omega)
structure Ov(p:List Nat)(j k:Nat):Prop where
 lt:k<j
 XQ:p.take k<:+p.take j
 best:∀i,i<j->p.take i<:+p.take j->i<=k
def G2(p:List Nat)(f:List Nat):Prop:=∀j,j<f.length->∃k,f[j]? =some k/\Ov p (j+1) k
structure Yx(p t:List Nat)(c s:Nat):Prop where
 lt:s<p.length
 XQ:p.take s<:+t
 none:∀j,j<p.length->p.take j<:+t->s<j->p[j]? ≠some c
theorem Yx.back(h:Yx p t c s)(hc:p[s]? ≠some c)(o:Ov p s k):Yx p t c k:=by
 refine⟨agP o.lt h.lt,o.XQ.trans h.XQ,fun j hj hs hkj=> ?_⟩
 by_cases h1:s<j
 ·exact h.none j hj hs h1
 ·by_cases h2:j=s
  ·rw[h2];exact hc
  ·exact absurd (o.best j (by lia) (E6 hs h.XQ (by lia))) (by lia)
structure yi(p t:List Nat)(k:Nat):Prop where
 le:k<=p.length
 XQ:p.take k<:+t
 best:∀j,j<=p.length->p.take j<:+t->j<=k
theorem yi.in1{p t:List Nat}(h:yi p t k)(hk:k<p.length)(c:Nat):Yx p t c k:=
 ⟨hk,h.XQ,fun j hj hs hkj=>absurd (h.best j (iR hj) hs) (by lia)⟩
theorem Yx.hit(h:Yx p t c s)(hc:p[s]? =some c):yi p (t++[c]) (s+1):=by
 refine⟨h.lt,(qR h.lt).mpr ⟨h.XQ,hc⟩,fun j hj hs=> ?_⟩
 cases j with
 |zero=>lia
 |succ i=>
  have:=(qR (by lia)).mp hs
  by_cases h1:s<i
  ·exact absurd this.2 (h.none i (by lia) this.1 h1)
  ·lia
theorem Yx.miss(h:Yx p t c 0)(hc:p[0]? ≠some c):yi p (t++[c]) 0:=by
 refine⟨aC _,by simp,fun j hj hs=> ?_⟩
 cases j with
 |zero=>lia
 |succ i=>
  have:=(qR (by lia)).mp hs
  by_cases h1:0<i
  ·exact absurd this.2 (h.none i (by lia) this.1 h1)
  ·have:i=0:=by lia
   subst this;exact absurd this.2 hc
theorem yi.ov{p:List Nat}(hi:1<=i)(hp:i<=p.length)(h:yi p ((p.drop 1).take (i- 1)) k):Ov p i k:=by
 have hl:((p.drop 1).take (i- 1)).length=i- 1:=by simp[aQ,aL];lia
 have hd:(p.drop 1).take (i- 1)=(p.take i).drop 1:=by rw[abG]
 have hk:k<=i- 1:=by
  have:=h.XQ.length_le;rw[hl,aQ]at this;have:=h.le;lia
 refine⟨by omega,h.XQ.trans (by rw[hd];exact CA _ _),fun j hj hs=>h.best j (by lia) ?_⟩;rw[hd];refine B7 hs (CA _ _) ?_;simp only[aQ,aL];lia
theorem Eu(hp:p≠[]):yi p [] 0:=by
 refine⟨aC _,by simp,fun j hj hs=> ?_⟩;have:=hs.length_le;simp only[aQ,aaK]at this;have:p.length≠0:=by intro e;exact hp (be e)
 lia
theorem Q4(hp:p≠[]):G2 p [0]:=fun j hj=>by
 have:j=0:=by simp at hj;exact hj
 subst this;have h1:1<=p.length:=by cases p with|nil=>exact absurd rfl hp|cons a b=>simp
 exact⟨0,rfl,(Eu hp).ov (aE _) h1⟩
theorem Nh{p f:List Nat}(h:G2 p f)(o:Ov p (f.length+1) k):G2 p (f++[k]):=fun j hj=>by
 by_cases h1:j<f.length
 ·obtain⟨q,e,r⟩:=h j h1;exact⟨q,by rw[lz h1];exact e,r⟩
 ·have:j=f.length:=by simp at hj;lia
  subst this;exact⟨k,by simp,o⟩
theorem aaw{p:List Nat}(hi:i<p.length)(hi1:1<=i)(h:yi p ((p.drop 1).take (i- 1)) k):k<i:=(h.ov hi1 (by lia)).lt
structure Yv(p s:List Nat)(i k:Nat):Prop where
 lt:k<p.length
 best:yi p (s.take i) k
 none:∀e,e<=i->¬p<:+s.take e
theorem Yv.start(hp:p≠[]):Yv p s 0 0:=by
 have hl:p.length≠0:=fun e=>hp (be e);refine⟨by lia,by simpa using Eu hp,fun e he hs=> ?_⟩;have:=hs.length_le;simp at this;lia
theorem take_snoc{s:List Nat}(h:s[i]? =some c):s.take (i+1)=s.take i++[c]:=by
 rw[ef,h];rfl
theorem Yv.next{p s:List Nat}{c:Nat}(h:Yv p s i k)(hb:yi p (s.take (i+1)) k')(hk:k'≠p.length):Yv p s (i+1) k':=by
 refine⟨by have:=hb.le;lia,hb,fun e he hs=> ?_⟩
 by_cases h1:e<=i
 ·exact h.none e h1 hs
 ·have:e=i+1:=by lia
  subst this;have:=hb.best p.length (aE _) (by rw[cQ];exact hs);have:=hb.le;lia
theorem MQ{p s:List Nat}(he:e<=s.length)(hm:p.length<=e):p<:+s.take e↔(s.drop (e- p.length)).take p.length=p:=by
 rw[LX,aQ,gH he,abG];have:e- (e- p.length)=p.length:=by lia
 rw[this];exact eq_comm
theorem NK{p s:List Nat}(h:Yv p s s.length k):jS s p= -1:=by
 unfold jS
 have:((c8 (s.length+1)).find? fun i=>(s.drop i).take p.length==p)=none:=by
  rw[TR];intro i hi hm;have hm:(s.drop i).take p.length=p:=by simpa using hm
  have hi:i<s.length+1:=hG.mp hi
  have hl:p.length<=s.length- i:=by
   have:=congrArg cS hm;simp only[aQ,aL]at this;lia
  refine h.none (i+p.length) (by have:=h.lt;lia) ((MQ (by lia) (by lia)).mpr ?_);rw[rA];exact hm
 rw[this]
theorem Ef(hi:i<n)(h:P i=true)(hb:∀j,j<i->P j=false):(c8 n).find? P=some i:=by
 rw[List.find?_range_eq_some];exact⟨h,hG.mpr hi,fun j hj=>by rw[hb j hj];rfl⟩
theorem NJ{p s:List Nat}(h:Yv p s i k)(hi:i<s.length)(hb:yi p (s.take (i+1)) p.length):jS s p=((i:Int)+1- (p.length:Int)):=by
 have hs:p<:+s.take (i+1):=by have:=hb.XQ;rwa [cQ]at this
 have hm:p.length<=i+1:=by have:=hs.length_le;simp only[aQ]at this;lia
 unfold jS
 have:((c8 (s.length+1)).find? fun i=>(s.drop i).take p.length==p)=some (i+1- p.length):=by
  refine Ef (by omega) (by simpa using(MQ (by lia) hm).mp hs) fun j hj=> ?_;refine Bool.eq_false_iff.mpr fun e=> ?_;have e:(s.drop j).take p.length=p:=by simpa using e
  refine h.none (j+p.length) (by omega) ((MQ (by omega) (by lia)).mpr ?_);rw[rA];exact e
 rw[this];show ((i+1- p.length:Nat):Int)=_;omega
theorem RL(s:List Nat):jS s []=0:=by
 unfold jS;rw[Ef (i:=0) (by lia) (by simp) (by intro j hj;lia)];rfl
end
end TM
namespace TM
open Ra32
section
theorem w9(b:B):(b.dropWhile p).length<=b.length:=(oa p).length_le
def Okp(b:B)(o:Option String):Prop:=∀op,o=some op->1<=op.length/\op.length<=b.length
theorem okN:Okp b none:=fun _ h=>nomatch h
theorem VI{b:B}{s:String}{p:Prop}[Decidable p]{r:Option String}(h1:1<=s.length)(hp:p->(b.take s.length==ascii s)=true)(hr:Okp b r):Okp b (if p then some s else r):=fun op h=>by
 by_cases q:p
 ·rw[if_pos q]at h;cases h;have e2:=congrArg cS (beq_iff_eq.mp (hp q));simp only[aQ,ascii,aN,String.length_toList]at e2;exact⟨h1,by lia⟩
 ·rw[if_neg q]at h;exact hr op h
theorem Zl:∀(lv:Nat) (b:B),Okp b (opAt lv b)
 |0,_|1,_|3,_=>VI (by decide) id okN
 |2,_|4,_=>VI (by decide) adW okN
 |5,_|7,_|8,_=>VI (by decide) id (VI (by decide) id okN)
 |6,_=>VI (by decide) id (VI (by decide) id (VI (by decide) adW (VI (by decide) adW okN)))
 |9,_=>VI (by decide) id (VI (by decide) id (VI (by decide) id okN))
 |_+10,_=>okN
theorem DQ{b:B}{op:String}(h:opAt lv b=some op):1<=op.length/\op.length<=b.length:=Zl lv b op h
mutual
theorem pQ:∀(n lv:Nat) (b:B) (x:Int) (r:B),expr n lv b= .ok (x,r)->r.length<b.length
 |0,_,_,_,_,h=>by simp[expr]at h
 |n+1,lv,b,x,r,h=>by
  unfold expr at h
  split at h
  ·exact rH n b x r h
  ·split at h
   ·cases h
   ·rename_i y q e;have h1:=pQ n (lv+1) b y q e;have h2:=DR n lv y q x r h;lia
theorem DR:∀(n lv:Nat) (y:Int) (b:B) (x:Int) (r:B),onward n lv y b= .ok (x,r)->r.length<=b.length
 |0,_,_,_,_,_,h=>by simp[onward]at h
 |n+1,lv,y,b,x,r,h=>by
  unfold onward at h;dsimp only at h;have hd:=w9 (p:=blank) b
  split at h
  ·cases h;exact hd
  ·rename_i op e;have hp:=DQ e
   split at h
   ·cases h
   ·rename_i z q e2;have h1:=pQ n (lv+1) _ z q e2;rw[aL]at h1
    split at h
    ·cases h
    ·have h2:=DR n lv _ q x r h;lia
theorem rH:∀(n:Nat) (b:B) (x:Int) (r:B),unary n b= .ok (x,r)->r.length<b.length
 |0,_,_,_,h=>by simp[unary]at h
 |n+1,b,x,r,h=>by
  have hd:=w9 (p:=blank) b
  have mp:∀{f:Int×B->Int×B} {e:E (Int×B)} {x:Int} {r:B},e.map f= .ok (x,r)->∃y,e= .ok y/\f y=(x,r):=by
   intro f e x r h
   cases e with
   |error e=>cases h
   |ok y=>exact⟨y,rfl,ED h⟩
  unfold unary at h
  split at h
  ·rename_i q e;rw[e,au]at hd;obtain⟨⟨y,s⟩,e1,e2⟩:=mp h;have:=rH n q y s e1;have e3:s=r:=congrArg Qr e2;rw[<-e3];lia
  ·rename_i q e;rw[e,au]at hd;have:=rH n q x r h;lia
  ·rename_i q e;rw[e,au]at hd;obtain⟨⟨y,s⟩,e1,e2⟩:=mp h;have:=rH n q y s e1;have e3:s=r:=congrArg Qr e2;rw[<-e3];lia
  ·rename_i q e;rw[e,au]at hd;obtain⟨⟨y,s⟩,e1,e2⟩:=mp h;have:=rH n q y s e1;have e3:s=r:=congrArg Qr e2;rw[<-e3];lia
  ·rename_i q e;rw[e,au]at hd
   split at h
   ·rename_i y s e1;have h1:=pQ n 0 q y s e1;have h2:=w9 (p:=blank) s
    split at h
    ·rename_i t e3;rw[e3,au]at h2
     cases h;lia
    ·cases h
   ·cases h
  ·rename_i c q _ _ _ _ _ e;rw[e]at hd
   split at h
   ·rename_i hc;have e3:(c::q).dropWhile isDigit=r:=congrArg Qr (ED h)
    have h3:((c::q).dropWhile isDigit).length<=q.length:=by
     rw[fM hc];exact w9 q
    rw[au]at hd;rw[<-e3];lia
   ·cases h
  ·cases h
end
mutual
theorem nB:∀(n m lv:Nat) (b:B),13*b.length+12- min lv 10<=n->13*b.length+12- min lv 10<=m->expr n lv b=expr m lv b
 |0,m,lv,b,h,_=>by omega
 |n+1,0,lv,b,_,h=>by omega
 |n+1,m+1,lv,b,hn,hm=>by
  unfold expr
  by_cases hl:10<=lv
  ·rw[if_pos hl,if_pos hl];exact kg n m b (by omega) (by omega)
  ·rw[if_neg hl,if_neg hl,nB n m (lv+1) b (by omega) (by omega)]
   cases e:expr m (lv+1) b with
   |error e=>rfl
   |ok q=>
    obtain⟨x,r⟩:=q;have:=pQ _ _ _ _ _ e;exact qz n m lv x r (by omega) (by omega)
theorem qz:∀(n m lv:Nat) (y:Int) (b:B),13*b.length+1<=n->13*b.length+1<=m->onward n lv y b=onward m lv y b
 |0,m,lv,y,b,h,_=>by lia
 |n+1,0,lv,y,b,_,h=>by lia
 |n+1,m+1,lv,y,b,hn,hm=>by
  unfold onward;dsimp only;have hd:=w9 (p:=blank) b
  cases e:opAt lv (b.dropWhile blank)with
  |none=>rfl
  |some op=>
   dsimp only;have hp:=DQ e;have hl:((b.dropWhile blank).drop op.length).length+1<=b.length:=by rw[aL];lia
   rw[nB n m (lv+1) _ (by lia) (by lia)]
   cases e2:expr m (lv+1) ((b.dropWhile blank).drop op.length)with
   |error e=>rfl
   |ok q=>
    obtain⟨x,r⟩:=q;have:=pQ _ _ _ _ _ e2;dsimp only
    cases apply op y x with
    |error e=>rfl
    |ok z=>exact qz n m lv z r (by lia) (by lia)
theorem kg:∀(n m:Nat) (b:B),13*b.length+1<=n->13*b.length+1<=m->unary n b=unary m b
 |0,m,b,h,_=>by lia
 |n+1,0,b,_,h=>by lia
 |n+1,m+1,b,hn,hm=>by
  have hd:=w9 (p:=blank) b;unfold unary
  split
  ·rename_i q e;rw[e,au]at hd;rw[kg n m q (by lia) (by lia)]
  ·rename_i q e;rw[e,au]at hd;rw[kg n m q (by lia) (by lia)]
  ·rename_i q e;rw[e,au]at hd;rw[kg n m q (by lia) (by lia)]
  ·rename_i q e;rw[e,au]at hd;rw[kg n m q (by lia) (by lia)]
  ·rename_i q e;rw[e,au]at hd;rw[nB n m 0 q (by omega) (by omega)]
  ·rfl
  ·rfl
end
def W4(lv:Nat)(b:B):E (Int×B):=expr (13*b.length+12) lv b
def IM(lv:Nat)(x:Int)(b:B):E (Int×B):=onward (13*b.length+1) lv x b
def GC(b:B):E (Int×B):=unary (13*b.length+1) b
def d5{α β:Type}(a:E α)(f:α->E β):E β:=match a with
 | .error e=>.error e
 | .ok x=>f x
theorem cX{α β:Type}(x:α)(f:α->E β):d5 (.ok x) f=f x:=rfl
theorem vH{α β:Type}(e:Nat)(f:α->E β):d5 (.error e) f= .error e:=rfl
theorem fJ{α β γ:Type}(a:E α)(f:α->E β)(g:β->E γ):d5 (d5 a f) g=d5 a fun x=>d5 (f x) g:=by cases a<;>rfl
theorem aaq(b:B):W4 10 b=GC b:=by
 unfold W4 GC;show expr (13*b.length+11+1) 10 b=_;unfold expr;rw[if_pos (aE _)];exact kg _ _ b (by lia) (by lia)
theorem W3(h:lv<10)(b:B):W4 lv b=d5 (W4 (lv+1) b) fun q=>IM lv q.1 q.2:=by
 unfold W4;rw[show 13*b.length+12=(13*b.length+11)+1 from rfl]
 conv=>lhs;unfold expr
 rw[if_neg (by lia),nB (13*b.length+11) (13*b.length+11+1) (lv+1) b (by omega) (by omega)]
 cases e:expr (13*b.length+11+1) (lv+1) b with
 |error e=>rfl
 |ok q=>
  obtain⟨x,r⟩:=q;have:=pQ _ _ _ _ _ e;exact qz (13*b.length+11) (13*r.length+1) lv x r (by lia) (by lia)
theorem IL(lv:Nat)(x:Int)(b:B):IM lv x b=match opAt lv (b.dropWhile blank)with
 |none=>.ok (x,b.dropWhile blank)
 |some op=>d5 (W4 (lv+1) ((b.dropWhile blank).drop op.length)) fun q=>d5 (apply op x q.1) fun z=>IM lv z q.2:=by
 have hd:=w9 (p:=blank) b
 conv=>lhs;unfold IM onward
 dsimp only
 cases e:opAt lv (b.dropWhile blank)with
 |none=>rfl
 |some op=>
  dsimp only;have hp:=DQ e;have hl:((b.dropWhile blank).drop op.length).length+1<=b.length:=by rw[aL];lia
  unfold W4;rw[nB (13*b.length) _ (lv+1) _ (by lia) (cj (ake _ _) (aE _))]
  cases e2:expr (13*((b.dropWhile blank).drop op.length).length+12) (lv+1) ((b.dropWhile blank).drop op.length)with
  |error e=>rfl
  |ok q=>
   obtain⟨y,r⟩:=q;have:=pQ _ _ _ _ _ e2;rw[cX];dsimp only
   cases apply op x y with
   |error e=>rfl
   |ok z=>exact qz _ _ lv z r (by lia) (by lia)
def unop(c:Nat)(x:Int):Int:=if c=45 then wrap (-x)else if c=43 then x else if c=33 then bool (x==0)else-x- 1
def vy(c:Nat):Bool:=c==45||c==43||c==33||c==126
theorem So(b:B):GC (b.dropWhile blank)=GC b:=by
 unfold GC;have hd:=w9 (p:=blank) b;rw[kg (13*(b.dropWhile blank).length+1) (13*b.length+1) _ (by lia) (by lia)];unfold unary
 have:(b.dropWhile blank).dropWhile blank=b.dropWhile blank:=by
  induction b with
  |nil=>rfl
  |cons a r ih=>
   have:=w9 (p:=blank) r
   by_cases h:blank a=true
   ·rw[fM h];exact ih this
   ·rw[bH h,bH h]
 rw[this]
theorem Zv(h:33<=c):blank c=false:=by
 unfold blank;simp;lia
theorem adB{c:Nat}{r:B}(h:vy c=true):GC (c::r)=d5 (GC r) fun q=>.ok (unop c q.1,q.2):=by
 have hc:c=45\/c=43\/c=33\/c=126:=by
  unfold vy at h;simp at h;lia
 have hf:unary (13*(c::r).length) r=GC r:=kg _ _ r (by rw[au];lia) (by lia)
 conv=>lhs;unfold GC unary
 have u1:∀x,unop 45 x=wrap (-x):=fun x=>if_pos rfl;have u2:∀x,unop 43 x=x:=fun x=>by unfold unop;rw[if_neg (by decide),if_pos rfl]
 have u3:∀x,unop 33 x=bool (x==0):=fun x=>by unfold unop;rw[if_neg (by decide),if_neg (by decide),if_pos rfl]
 have u4:∀x,unop 126 x= -x- 1:=fun x=>by unfold unop;rw[if_neg (by decide),if_neg (by decide),if_neg (by decide)]
 obtain rfl|rfl|rfl|rfl:=hc<;>rw[bH (by decide)]<;>simp only[hf]<;>cases GC r with
 |error e=>rfl
 |ok q=>first|(simp only[d5,u1,EZ];done)|(simp only[d5,u2,EZ];done)|(simp only[d5,u3,EZ];done)|(simp only[d5,u4,EZ];done)
theorem Sn{c:Nat}{r:B}(h:isDigit c=true):GC (c::r)= .ok (digits ((c::r).takeWhile isDigit),(c::r).dropWhile isDigit):=by
 have hc:48<=c/\c<=57:=by unfold isDigit at h;simp at h;exact h
 conv=>lhs;unfold GC unary
 rw[bH (by rw[Zv (by lia)];decide)]
 split
 ·rename_i e;cases e;lia
 ·rename_i e;cases e;lia
 ·rename_i e;cases e;lia
 ·rename_i e;cases e;lia
 ·rename_i e;cases e;lia
 ·rename_i e;cases e;rw[if_pos h]
 ·rename_i e;cases e
theorem adD(r:B):GC (40::r)=d5 (W4 0 r) fun q=>match q.2.dropWhile blank with
 |41::s=>.ok (q.1,s)
 |_=>.error 2:=by
 conv=>lhs;unfold GC unary
 rw[bH (by decide)];simp only[];rw[nB (13*(40::r).length) (13*r.length+12) 0 r (by rw[au];omega) (by omega)];unfold W4
 cases expr (13*r.length+12) 0 r with
 |error e=>rfl
 |ok q=>rfl
theorem adC{c:Nat}{r:B}(h1:vy c=false)(h2:isDigit c=false)(h3:c≠40)(h4:blank c=false):GC (c::r)= .error 2:=by
 conv=>lhs;unfold GC unary
 rw[bH (by rw[h4];decide)];unfold vy at h1;simp at h1
 split
 ·rename_i e;cases e;lia
 ·rename_i e;cases e;lia
 ·rename_i e;cases e;lia
 ·rename_i e;cases e;omega
 ·rename_i e;cases e;lia
 ·rename_i e;cases e;rw[if_neg (by rw[h2];decide)]
 ·rfl
def lu:List (List Nat×Nat×String):=[([124,124],1,"||"),([38,38],2,"&&"),([124],3,"|"),([94],4,"^"),([38],5,"&"),([61,61],6,"=="),([33,61],6,"!="),([60,61],7,"<="),([62,61],7,">="),([60],7,"<"),([62],7,">"),([60,60],8,"<<"),([62,62],8,">>"),([43],9,"+"),([45],9,"-"),([42],10,"*"),([47],10,"/"),([37],10,"%")]
def ach(b:B):Option (List Nat×Nat×String):=match lu.find? fun e=>e.1==b.take 2 with
 |some e=>some e
 |none=>lu.find? fun e=>e.1==b.take 1
end
section
def opT(l:Nat)(t1 t2:List Nat):Option String:=match l with
 |0=>if t2=[124,124]then some "||" else none
 |1=>if t2=[38,38]then some "&&" else none
 |2=>if t1=[124]/\t2≠[124,124]then some "|" else none
 |3=>if t1=[94]then some "^" else none
 |4=>if t1=[38]/\t2≠[38,38]then some "&" else none
 |5=>if t2=[61,61]then some "==" else if t2=[33,61]then some "!=" else none
 |6=>if t2=[60,61]then some "<=" else if t2=[62,61]then some ">=" else if t1=[60]/\t2≠[60,60]then some "<" else if t1=[62]/\t2≠[62,62]then some ">" else none
 |7=>if t2=[60,60]then some "<<" else if t2=[62,62]then some ">>" else none
 |8=>if t1=[43]then some "+" else if t1=[45]then some "-" else none
 |9=>if t1=[42]then some "*" else if t1=[47]then some "/" else if t1=[37]then some "%" else none
 |_=>none
theorem NQ{α:Type}{p q:Prop}[Decidable p][Decidable q]{a x y:α}(h:p↔q)(r:x=y):(if p then a else x)=if q then a else y:=by
 by_cases hp:p
 ·rw[if_pos hp,if_pos (h.mp hp)]
 ·rw[if_neg hp,if_neg (fun z=>hp (h.mpr z)),r]
theorem tk{b:B}{s:String}{l:List Nat}{n:Nat}(e1:ascii s=l)(e2:s.length=n):(b.take s.length==ascii s)=true↔b.take n=l:=by rw[e1,e2];exact beq_iff_eq
theorem tkn{b:B}{s:String}{l:List Nat}(e:ascii s=l):b.take 2≠ascii s↔b.take 2≠l:=by rw[e]
theorem Vx:∀(l:Nat) (b:B),opAt l b=opT l (b.take 1) (b.take 2)
 |0,_|1,_|3,_=>NQ (tk (by decide) rfl) rfl
 |2,_|4,_=>NQ (and_congr (tk (by decide) rfl) (tkn (by decide))) rfl
 |5,_|7,_|8,_=>NQ (tk (by decide) rfl) (NQ (tk (by decide) rfl) rfl)
 |6,_=>NQ (tk (by decide) rfl) (NQ (tk (by decide) rfl) (NQ (and_congr (tk (by decide) rfl) (tkn (by decide))) (NQ (and_congr (tk (by decide) rfl) (tkn (by decide))) rfl)))
 |9,_=>NQ (tk (by decide) rfl) (NQ (tk (by decide) rfl) (NQ (tk (by decide) rfl) rfl))
 |_+10,_=>rfl
structure aaP(b:B)(e:List Nat×Nat×String):Prop where
 mem:e∈lu
 here:opAt (e.2.1- 1) b=some e.2.2
 only:∀l,l≠e.2.1- 1->opAt l b=none
theorem t8:∀e∈lu,e.1.length=e.2.2.length/\1<=e.2.1/\e.2.1<=10/\1<=e.1.length/\e.1.length<=2:=by decide
def opN(l:Nat)(t1:List Nat):Option String:=match l with
 |2=>if t1=[124]then some "|" else none
 |3=>if t1=[94]then some "^" else none
 |4=>if t1=[38]then some "&" else none
 |6=>if t1=[60]then some "<" else if t1=[62]then some ">" else none
 |8=>if t1=[43]then some "+" else if t1=[45]then some "-" else none
 |9=>if t1=[42]then some "*" else if t1=[47]then some "/" else if t1=[37]then some "%" else none
 |_=>none
theorem Vu(n1:t2≠[124,124])(n2:t2≠[38,38])(n3:t2≠[61,61])(n4:t2≠[33,61])(n5:t2≠[60,61])(n6:t2≠[62,61])(n7:t2≠[60,60])(n8:t2≠[62,62]):∀l:Nat,opT l t1 t2=opN l t1
 |0=>if_neg n1
 |1=>if_neg n2
 |2=>NQ (and_iff_left n1) rfl
 |4=>NQ (and_iff_left n2) rfl
 |5=>(if_neg n3).trans (if_neg n4)
 |6=>(if_neg n5).trans ((if_neg n6).trans (NQ (and_iff_left n7) (NQ (and_iff_left n8) rfl)))
 |7=>(if_neg n7).trans (if_neg n8)
 |3|8|9|_+10=>rfl
theorem pd(h:(lu.find? fun e=>e.1==k)=none){e:List Nat×Nat×String}(m:e∈lu):k≠e.1:=fun q=>
 TR.mp h e m (by rw[q];exact beq_self_eq_true _)
theorem ah6:∀e∈lu,opT (e.2.1- 1) (e.1.take 1) e.1=some e.2.2/\∀l,l<10->l≠e.2.1- 1->opT l (e.1.take 1) e.1=none:=by decide+kernel
theorem ah7:∀e∈lu,e.1.length=1->opN (e.2.1- 1) e.1=some e.2.2/\∀l,l<10->l≠e.2.1- 1->opN l e.1=none:=by decide+kernel
theorem aa9{e:List Nat×Nat×String}{g:Nat->Option String}(m:e∈lu)(h:∀l,opAt l b=g l)(d:g (e.2.1- 1)=some e.2.2/\∀l,l<10->l≠e.2.1- 1->g l=none):aaP b e:=
 ⟨m,(h _).trans d.1,fun l n=>if q:l<10 then(h l).trans (d.2 l q n)else by
  obtain⟨k,rfl⟩:∃k,l=k+10:=⟨l- 10,by lia⟩;rfl⟩
theorem Vv(h:∀e∈lu,t≠e.1):∀l,opN l t=none
 |2=>if_neg (h ([124],3,"|") (by decide))
 |3=>if_neg (h ([94],4,"^") (by decide))
 |4=>if_neg (h ([38],5,"&") (by decide))
 |6=>(if_neg (h ([60],7,"<") (by decide))).trans (if_neg (h ([62],7,">") (by decide)))
 |8=>(if_neg (h ([43],9,"+") (by decide))).trans (if_neg (h ([45],9,"-") (by decide)))
 |9=>(if_neg (h ([42],10,"*") (by decide))).trans ((if_neg (h ([47],10,"/") (by decide))).trans (if_neg (h ([37],10,"%") (by decide))))
 |0|1|5|7|_+10=>rfl
theorem Cj(b:B):(∃e,ach b=some e/\aaP b e/\b.take e.1.length=e.1/\((lu.find? fun e=>e.1==b.take 2)=some e\/((lu.find? fun e=>e.1==b.take 2)=none/\(lu.find? fun e=>e.1==b.take 1)=some e)))\/
 ((lu.find? fun e=>e.1==b.take 2)=none/\(lu.find? fun e=>e.1==b.take 1)=none/\∀l,opAt l b=none):=by
 cases f2:lu.find? fun e=>e.1==b.take 2 with
 |some e=>
  have m:=iD f2;have q:=EY f2;replace q:e.1=b.take 2:=eq_of_beq q;have lb:=t8 e m;refine .inl ⟨e,by unfold ach;rw[f2],aa9 (g:=fun l=>opT l (e.1.take 1) e.1) m (fun l=> ?_) (ah6 e m),?_,.inl rfl⟩
  ·rw[Vx,q,GY];rfl
  ·have z:(b.take 2).take e.1.length=b.take e.1.length:=by rw[GY,gH lb.2.2.2.2]
   rw[<-z,<-q,cQ]
 |none=>
  have T:=Vu (t1:=b.take 1) (pd f2 (e:=([124,124],1,"||")) (by decide)) (pd f2 (e:=([38,38],2,"&&")) (by decide)) (pd f2 (e:=([61,61],6,"==")) (by decide)) (pd f2 (e:=([33,61],6,"!=")) (by decide)) (pd f2 (e:=([60,61],7,"<=")) (by decide)) (pd f2 (e:=([62,61],7,">=")) (by decide)) (pd f2 (e:=([60,60],8,"<<")) (by decide)) (pd f2 (e:=([62,62],8,">>")) (by decide));have D:∀l,opAt l b=opN l (b.take 1):=fun l=>(Vx l b).trans (T l)
  cases f1:lu.find? fun e=>e.1==b.take 1 with
  |some e=>
   have m:=iD f1;have q:=EY f1;replace q:e.1=b.take 1:=eq_of_beq q;have lb:=t8 e m
   have l1:e.1.length=1:=by
    have:=congrArg cS q;rw[aQ]at this;lia
   rw[<-q]at D;exact .inl ⟨e,by unfold ach;rw[f2];exact f1,aa9 m D (ah7 e m l1),by rw[l1];exact q.symm,.inr ⟨rfl,rfl⟩⟩
  |none=>exact .inr ⟨rfl,rfl,fun l=>(D l).trans (Vv (fun e m=>pd f1 m) l)⟩
end
section
def jr:Nat->Nat->Int->B->E (Int×B)
 |0,_,x,b=>.ok (x,b)
 |k+1,lo,x,b=>d5 (IM (lo+k) x b) fun q=>jr k lo q.1 q.2
theorem El:∀(k lo:Nat) (x:Int) (b:B),jr (k+1) lo x b=d5 (jr k (lo+1) x b) fun q=>IM lo q.1 q.2
 |0,lo,x,b=>by
  show d5 (IM (lo+0) x b) (fun q=>.ok (q.1,q.2))=d5 (.ok (x,b)) _;rw[cX];dsimp only[OJ]
  cases IM lo x b<;>rfl
 |k+1,lo,x,b=>by
  show d5 (IM (lo+(k+1)) x b) (fun q=>jr (k+1) lo q.1 q.2)=d5 (d5 (IM (lo+1+k) x b) fun q=>jr k (lo+1) q.1 q.2) _;rw[fJ,show lo+(k+1)=lo+1+k by lia]
  congr 1
  funext q
  exact El k lo q.1 q.2
theorem v7:∀(k:Nat) (b:B),k<=10->W4 (10- k) b=d5 (GC b) fun q=>jr k (10- k) q.1 q.2
 |0,b,_=>by
  rw[show 10- 0=10 from rfl,aaq]
  cases GC b<;>rfl
 |k+1,b,h=>by
  rw[W3 (by omega),show 10- (k+1)+1=10- k by lia,v7 k b (by lia),fJ]
  congr 1
  funext q
  rw[El,show 10- (k+1)+1=10- k by lia]
theorem xZ{b:B}(hb:b.dropWhile blank=b):∀(j k lo:Nat) (x:Int),(∀l,lo+k<=l->l<lo+k+j->opAt l b=none)->jr (k+j) lo x b=jr k lo x b
 |0,_,_,_,_=>rfl
 |j+1,k,lo,x,h=>by
  rw[show k+(j+1)=(k+j)+1 by lia];show d5 (IM (lo+(k+j)) x b) (fun q=>jr (k+j) lo q.1 q.2)=_;rw[IL,hb,h (lo+(k+j)) (by lia) (by lia)];show jr (k+j) lo x b=_;exact xZ hb j k lo x fun l h1 h2=>h l h1 (by lia)
theorem Ek{b:B}(hb:b.dropWhile blank=b)(h:∀l,lo<=l->l<lo+k->opAt l b=none):jr k lo x b= .ok (x,b):=by
 have:=xZ hb k 0 lo x fun l h1 h2=>h l (by lia) (by lia);rw[ql]at this;exact this
inductive Fr where
 |br
 |un (c:Nat)
 |bin (s:Nat) (op:String)
def lj:Fr->Nat
 | .br=>0
 | .un _=>11
 | .bin s _=>s
def m9:List Fr->Nat
 |[]=>0
 |f::_=>lj f
def Ck:List Fr->List Int->Prop
 |[],ns=>ns=[]
 | .br::w,ns=>Ck w ns
 | .un c::w,ns=>vy c=true/\Ck w ns
 | .bin s op::w,ns=>∃y r,ns=y::r/\m9 w<s/\s<=10/\(∃t,(t,s,op)∈lu)/\Ck w r
def val:List Fr->List Int->Nat->Int->B->E Int
 |[],_,lv,x,b=>d5 (jr lv 0 x b) fun q=>if q.2.all blank=true then .ok q.1 else .error 2
 | .br::w,ns,lv,x,b=>d5 (jr lv 0 x b) fun q=>match q.2.dropWhile blank with
   |41::r=>val w ns 10 q.1 r
   |_=>.error 2
 | .un c::w,ns,_,x,b=>val w ns 10 (unop c x) b
 | .bin _ _::_,[],_,_,_=>.error 2
 | .bin s op::w,y::ns,lv,x,b=>d5 (jr (lv- s) s x b) fun q=>d5 (apply op y q.1) fun z=>val w ns s z q.2
def valN(w:List Fr)(ns:List Int)(b:B):E Int:=d5 (GC b) fun q=>val w ns 10 q.1 q.2
theorem W5(b:B):eval b=valN [] [] b:=by
 have e:expr (16*b.length+32) 0 b=W4 0 b:=nB _ _ 0 b (by omega) (by omega);have e2:=v7 10 b (aE _);unfold eval valN;rw[e,show (0:Nat)=10- 10 from rfl,e2]
 cases GC b with
 |error e=>rfl
 |ok q=>
  show _=d5 (jr 10 0 q.1 q.2) _;rw[cX]
  cases jr 10 (10- 10) q.1 q.2 with
  |error e=>rfl
  |ok r=>rfl
theorem GQ(h:apply op x y= .error e):e=2:=by
 have dn:∀(s:String) (v:E Int) (f:¬op=s->E Int),(v= .error e->e=2)->(∀q,f q= .error e->e=2)->dite (op=s) (Eq.ndrec_symm (motive:=fun _=>E Int) v) f= .error e->e=2:=by
  intro s v f a b
  by_cases q:op=s
  ·subst q;rw[dif_pos rfl];exact a
  ·rw[dif_neg q];exact b q
 have ok:∀z:Int,(iq z:E Int)= .error e->e=2:=fun _ h=>by cases h
 have df:∀z:Int,(if y=0 then Except.error 2 else iq z:E Int)= .error e->e=2:=by
  intro z
  by_cases q:y=0
  ·rw[if_pos q];intro h;cases h;rfl
  ·rw[if_neg q];exact ok z
 revert h
 delta apply apply.match_1
 iterate 16 refine dn _ _ _ (ok _) fun _=> ?_
 exact dn _ _ _ (df _) fun _=>df _
theorem IP(b:B):(b.dropWhile blank).dropWhile blank=b.dropWhile blank:=by
 induction b with
 |nil=>rfl
 |cons a r ih=>
  by_cases h:blank a=true
  ·rw[fM h];exact ih
  ·rw[bH h,bH h]
theorem Sq(lv:Nat)(x:Int)(b:B):IM lv x (b.dropWhile blank)=IM lv x b:=by rw[IL,IL lv x b,IP]
theorem vG(k lo:Nat)(x:Int)(b:B):jr (k+1) lo x (b.dropWhile blank)=jr (k+1) lo x b:=by
 show d5 (IM (lo+k) x (b.dropWhile blank)) _=d5 (IM (lo+k) x b) _;rw[Sq]
theorem adQ(b:B):(b.dropWhile blank).all blank=b.all blank:=by
 induction b with
 |nil=>rfl
 |cons a r ih=>
  by_cases h:blank a=true
  ·rw[fM h,ih,ma,h,adV]
  ·rw[bH h]
theorem zY:∀(w:List Fr) (ns:List Int) (lv:Nat) (x:Int) (b:B),val w ns lv x (b.dropWhile blank)=val w ns lv x b
 |[],ns,lv,x,b=>by
  unfold val
  cases lv with
  |zero=>show (if _ then _ else _)=(if _ then _ else _);rw[adQ]
  |succ k=>rw[vG]
 | .br::w,ns,lv,x,b=>by
   unfold val
   cases lv with
   |zero=>
    unfold jr;rw[cX,cX];dsimp only;rw[IP]
   |succ k=>rw[vG]
 | .un c::w,ns,lv,x,b=>by
   unfold val;exact zY w ns 10 _ b
 | .bin _ _::_,[],_,_,_=>rfl
 | .bin s op::w,y::ns,lv,x,b=>by
   unfold val
   cases lv- s with
   |zero=>
    unfold jr;rw[cX,cX];dsimp only
    congr 1
    funext z
    exact zY w ns s z b
   |succ k=>rw[vG]
theorem Mv(w:List Fr)(ns:List Int)(b:B):valN w ns (b.dropWhile blank)=valN w ns b:=by
 unfold valN;rw[So]
theorem Mu{w:List Fr}{ns:List Int}{c:Nat}{r:B}(h:isDigit c=true):valN w ns (c::r)=val w ns 10 (digits ((c::r).takeWhile isDigit)) ((c::r).dropWhile isDigit):=by
 unfold valN;rw[Sn h,cX]
theorem YC{w:List Fr}{ns:List Int}{c:Nat}{r:B}(h:vy c=true):valN w ns (c::r)=valN (.un c::w) ns r:=by
 unfold valN;rw[adB h,fJ];rfl
theorem YE{w:List Fr}{ns:List Int}{r:B}:valN w ns (40::r)=valN (.br::w) ns r:=by
 unfold valN;have e2:=v7 10 r (aE _);rw[adD,show (0:Nat)=10- 10 from rfl,e2,fJ,fJ]
 congr 1
 funext q
 show d5 (jr 10 0 q.1 q.2) _=d5 (jr 10 0 q.1 q.2) _
 congr 1
 funext q
 generalize List.dropWhile blank q.2=t
 split<;>simp[d5]
theorem YD{w:List Fr}{ns:List Int}{c:Nat}{r:B}(h1:vy c=false)(h2:isDigit c=false)(h3:c≠40)(h4:blank c=false):valN w ns (c::r)= .error 2:=by
 unfold valN;rw[adC h1 h2 h3 h4];rfl
theorem T9(w:List Fr)(ns:List Int):valN w ns []= .error 2:=rfl
def g8:List Fr->Int->List Fr×Int
 | .un c::w,x=>g8 w (unop c x)
 |w,x=>(w,x)
theorem zX:∀(w:List Fr) (ns:List Int) (x:Int) (b:B),val w ns 10 x b=val (g8 w x).1 ns 10 (g8 w x).2 b
 |[],_,_,_=>rfl
 | .br::_,_,_,_=>rfl
 | .bin _ _::_,_,_,_=>rfl
 | .un c::w,ns,x,b=>by
   show val w ns 10 (unop c x) b=val (g8 w (unop c x)).1 ns 10 (g8 w (unop c x)).2 b;exact zX w ns (unop c x) b
def settle(s:Nat):List Fr->List Int->Int->E (List Fr×List Int×Int)
 | .bin t op::w,y::ns,x=>if s<=t then d5 (apply op y x) fun z=>settle s w ns z else .ok (.bin t op::w,y::ns,x)
 |w,ns,x=>.ok (w,ns,x)
theorem sX(s:Nat):∀(w:List Fr) (ns:List Int) (x:Int) (e:Nat),settle s w ns x= .error e->e=2
 |[],_,_,_,h=>by cases h
 | .br::_,_,_,_,h=>by cases h
 | .un _::_,_,_,_,h=>by cases h
 | .bin _ _::_,[],_,_,h=>by cases h
 | .bin t op::w,y::ns,x,e,h=>by
   unfold settle at h
   split at h
   ·cases q:apply op y x with
    |error e2=>rw[q]at h;cases h;exact GQ q
    |ok z=>rw[q,cX]at h;exact sX s w ns z e h
   ·cases h
theorem kh(s:Nat)(hs:1<=s):∀(w:List Fr) (ns:List Int) (x:Int) (r:List Fr×List Int×Int),Ck w ns->m9 w<=10->settle s w ns x= .ok r->m9 r.1<s/\Ck r.1 r.2.1
 |[],ns,x,r,h,_,e=>by cases e;exact⟨by show 0<s;lia,h⟩
 | .br::w,ns,x,r,h,_,e=>by cases e;exact⟨by show 0<s;lia,h⟩
 | .un _::_,_,_,_,_,h,_=>by simp[m9,lj]at h
 | .bin _ _::_,[],_,_,⟨_,_,h,_⟩,_,_=>by cases h
 | .bin t op::w,y::ns,x,r,h,ht,e=>by
   unfold settle at e
   split at e
   ·rcases h with⟨y',r',e1,h1,h2,_,h3⟩
    cases e1
    cases q:apply op y x with
    |error e2=>rw[q]at e;cases e
    |ok z=>rw[q,cX]at e;exact kh s hs w ns z r h3 (by lia) e
   ·cases e
    exact⟨by show t<s;lia,h⟩
theorem CD{b:B}(hb:b.dropWhile blank=b)(h:∀l,s<=l->opAt l b=none)(hlv:s<=lv)(ht:m9 w<s)(acU:m9 w<=10):val w ns lv x b=val w ns s x b:=by
 have key:∀t,t<=s->jr (lv- t) t x b=jr (s- t) t x b:=fun t ht=>by
  have:=xZ hb (lv- s) (s- t) t x fun l h1 _=>h l (by lia);rw[show s- t+(lv- s)=lv- t by lia]at this;exact this
 have k0:=key 0 (aC _);rw[vK,vK]at k0
 cases w with
 |nil=>unfold val;rw[k0]
 |cons f w=>
  cases f with
  |br=>unfold val;rw[k0]
  |un c=>simp[m9,lj]at acU
  |bin t op=>
   cases ns with
   |nil=>rfl
   |cons y ns=>unfold val;rw[key t (iR ht)]
theorem xB{b:B}(hb:b.dropWhile blank=b)(hs:1<=s)(h:∀l,s<=l->opAt l b=none):∀(w:List Fr) (ns:List Int) (lv:Nat) (x:Int),Ck w ns->s<=lv->m9 w<=lv->lv<=10->
 val w ns lv x b=d5 (settle s w ns x) fun r=>val r.1 r.2.1 s r.2.2 b
 |[],ns,lv,x,_,h1,h2,h3=>CD hb h h1 (by show 0<s;lia) (by show 0<=10;lia)
 | .br::w,ns,lv,x,_,h1,h2,h3=>CD hb h h1 (by show 0<s;lia) (by show 0<=10;lia)
 | .un _::_,_,_,_,_,_,h2,h3=>by simp[m9,lj]at h2;lia
 | .bin _ _::_,[],_,_,⟨_,_,e,_⟩,_,_,_=>by cases e
 | .bin t op::w,y::ns,lv,x,hk,h1,h2,h3=>by
   rcases hk with⟨y',r',e1,k1,k2,k4,k3⟩
   cases e1
   have h2:t<=lv:=h2;unfold settle
   by_cases nA:s<=t
   ·rw[if_pos nA,fJ];have hc:jr (lv- t) t x b= .ok (x,b):=Ek hb fun l h1 _=>h l (by lia)
    conv=>lhs;unfold val
    rw[hc,cX];dsimp only
    congr 1
    funext z
    exact xB hb hs h w ns t z k3 nA (iR k1) (by lia)
   ·rw[if_neg nA,cX];exact CD hb h h1 (by show t<s;lia) (by show t<=10;lia)
theorem JH(hk:Ck w ns)(ht:m9 w<s+1)(acU:m9 w<=10):val w ns (s+1) x b=d5 (IM s x b) fun q=>val w ns s q.1 q.2:=by
 cases w with
 |nil=>
  unfold val;show d5 (d5 (IM (0+s) x b) _) _=_;rw[fJ,ql]
 |cons f w=>
  cases f with
  |br=>
   conv=>lhs;unfold val
   show d5 (d5 (IM (0+s) x b) _) _=_;rw[fJ,ql];rfl
  |un c=>simp[m9,lj]at acU
  |bin t op=>
   cases ns with
   |nil=>obtain⟨_,_,e,_⟩:=hk;cases e
   |cons y ns=>
    have ht:t<s+1:=ht
    conv=>lhs;unfold val
    rw[show s+1- t=(s- t)+1 by lia];show d5 (d5 (IM (t+(s- t)) x b) _) _=_;rw[fJ,show t+(s- t)=s by lia];rfl
theorem abL{b:B}(hb:b.dropWhile blank=b){e:List Nat×Nat×String}(o:aaP b e)(hk:Ck w ns)(ht:m9 w<=10):
 val w ns 10 x b=d5 (settle e.2.1 w ns x) fun r=>valN (.bin e.2.1 e.2.2::r.1) (r.2.2::r.2.1) (b.drop e.1.length):=by
 obtain⟨e1,e2,e3,_⟩:=t8 e o.mem;rw[xB hb e2 (fun l hl=>o.only l (by lia)) w ns 10 x hk e3 ht (aE _)]
 cases q:settle e.2.1 w ns x with
 |error e=>rfl
 |ok r=>
  obtain⟨t1,t2⟩:=kh e.2.1 e2 w ns x r hk ht q;rw[cX,cX];obtain⟨s,hs⟩:∃s,e.2.1=s+1:=⟨e.2.1- 1,by lia⟩;have t10:m9 r.1<=10:=by lia
  have ho:=o.here;rw[hs]at ho t1⊢;rw[JH t2 t1 t10,IL,hb,show s=s+1- 1 from rfl,ho];dsimp only;rw[rA,fJ,<-e1];have X:=v7 (10- (s+1)) (b.drop e.1.length) (by omega);rw[show 10- (10- (s+1))=s+1 by lia]at X;rw[X,fJ];unfold valN
  congr 1
  funext q
  conv=>rhs;unfold val
  congr 1
  funext q
  rw[fJ]
  congr 1
  funext z
  exact(JH t2 t1 t10).symm
theorem Ar{b:B}(h:∀l,opAt l b=none)(hb:b.dropWhile blank=b)(hk:Ck w ns)(ht:m9 w<=10):
 val w ns 10 x b=d5 (settle 1 w ns x) fun r=>val r.1 r.2.1 1 r.2.2 b:=xB hb (aE _) (fun l _=>h l) w ns 10 x hk (by lia) ht (aE _)
theorem yx(hk:Ck w ns)(h:m9 w<1):(w=[]/\ns=[])\/∃v,w= .br::v/\Ck v ns:=by
 cases w with
 |nil=>exact .inl ⟨rfl,hk⟩
 |cons f w=>
  cases f with
  |br=>exact .inr ⟨w,rfl,hk⟩
  |un c=>simp[m9,lj]at h
  |bin t op=>obtain⟨_,_,_,k,_⟩:=hk;simp[m9,lj]at h;omega
theorem AM{b:B}(h:∀l,opAt l b=none)(hb:b.dropWhile blank=b)(x:Int):jr 1 0 x b= .ok (x,b):=Ek hb fun l _ _=>h l
theorem QB{r:B}{w:List Fr}{ns:List Int}{x:Int}(hk:Ck w ns)(ht:m9 w<=10):
 val w ns 10 x (41::r)=d5 (settle 1 w ns x) fun q=>match q.1 with
  | .br::v=>val v q.2.1 10 q.2.2 r
  |_=>.error 2:=by
 have h:∀l,opAt l (41::r)=none:=fun l=>by
  obtain⟨e,_,o,ht,_⟩|⟨_,_,h⟩:=Cj (41::r)
  ·exfalso;have hm:=o.mem;have hh:∀e∈lu,e.1.head? ≠some 41:=by decide
   refine hh e hm ?_;rw[<-ht];have:=(t8 e hm).2.2.2.1
   cases q:e.1.length with
   |zero=>lia
   |succ k=>rfl
  ·exact h l
 have hb:(41::r).dropWhile blank=41::r:=bH (by decide);rw[Ar h hb hk ht]
 cases q:settle 1 w ns x with
 |error e=>rfl
 |ok s=>
  obtain⟨t1,t2⟩:=kh 1 (aE _) w ns x s hk ht q;obtain⟨w',ns',x'⟩:=s;rw[cX,cX];dsimp only at t1 t2⊢;obtain⟨rfl,rfl⟩|⟨v,rfl,_⟩:=yx t2 t1
  ·unfold val;rw[AM h hb,cX];rfl
  ·conv=>lhs;unfold val
   rw[AM h hb,cX];dsimp only;rw[hb];rfl
theorem YA(hk:Ck w ns)(ht:m9 w<=10):
 val w ns 10 x []=d5 (settle 1 w ns x) fun q=>match q.1 with
  |[]=>.ok q.2.2
  |_=>.error 2:=by
 have h:∀l,opAt l []=none:=fun l=>by
  obtain⟨e,_,o,ht,_⟩|⟨_,_,h⟩:=Cj []
  ·exfalso;have:=(t8 e o.mem).2.2.2.1;rw[List.take_nil]at ht;rw[<-ht]at this;exact absurd this (by decide)
  ·exact h l
 rw[Ar h rfl hk ht]
 cases q:settle 1 w ns x with
 |error e=>rfl
 |ok s=>
  obtain⟨t1,t2⟩:=kh 1 (aE _) w ns x s hk ht q;obtain⟨w',ns',x'⟩:=s;rw[cX,cX];dsimp only at t1 t2⊢;obtain⟨rfl,rfl⟩|⟨v,rfl,_⟩:=yx t2 t1
  ·unfold val;rw[AM h rfl,cX];rfl
  ·unfold val;rw[AM h rfl,cX];rfl
theorem YB{c:Nat}{r:B}{w:List Fr}{ns:List Int}{x:Int}(h:∀l,opAt l (c::r)=none)(hc:c≠41)(B0:blank c=false)(hk:Ck w ns)(ht:m9 w<=10):val w ns 10 x (c::r)= .error 2:=by
 have hb:(c::r).dropWhile blank=c::r:=bH (by rw[B0];decide);rw[Ar h hb hk ht]
 cases q:settle 1 w ns x with
 |error e=>rw[sX 1 w ns x e q];rfl
 |ok s=>
  obtain⟨t1,t2⟩:=kh 1 (aE _) w ns x s hk ht q;obtain⟨w',ns',x'⟩:=s;rw[cX];dsimp only at t1 t2⊢;obtain⟨rfl,rfl⟩|⟨v,rfl,_⟩:=yx t2 t1
  ·unfold val;rw[AM h hb,cX];dsimp only;rw[ma,B0,GR,if_neg (by decide)]
  ·unfold val;rw[AM h hb,cX];dsimp only;rw[hb]
   split
   ·rename_i e;cases e;exact absurd rfl hc
   ·rfl
end
section
def endOf(p:Nat->Bool)(t:B)(i:Nat):Nat:=t.length- ((t.drop i).dropWhile p).length
theorem lO{t:B}:t.drop (endOf p t i)=(t.drop i).dropWhile p:=by
 have h:(t.drop i).dropWhile p<:+t:=(oa p).trans (CA i t);exact(LX.mp h).symm
theorem lq(p:Nat->Bool)(t:B)(i:Nat):endOf p t i<=t.length:=ake _ _
theorem r6{t:B}(hi:i<=t.length):i<=endOf p t i:=by
 have h:=(oa p (l:=t.drop i)).length_le;rw[aL]at h;unfold endOf;omega
theorem nD{t:B}(hi:i<=t.length)(h:i=t.length\/∃c,t[i]? =some c/\p c=false):endOf p t i=i:=by
 unfold endOf;obtain h|⟨c,hc,hp⟩:=h
 ·subst h;simp
 ·have hl:i<t.length:=(aw.mp hc).1;rw[aI hl];have:t[i]=c:=(aw.mp hc).2;rw[this,bH (by rw[hp];decide)];simp only[au,aL];omega
theorem tX(hc:t[i]? =some c)(hp:p c=true):endOf p t (i+1)=endOf p t i:=by
 have hl:i<t.length:=(aw.mp hc).1;unfold endOf;rw[aI hl,(aw.mp hc).2,fM hp]
theorem GF{t:B}:endOf p t i=t.length↔((t.drop i).all p=true\/t.length=0):=by
 have h:=(oa p (l:=t.drop i)).length_le;rw[aL]at h
 have e:∀l:B,l.dropWhile p=[]↔l.all p=true:=fun l=>by
  induction l with
  |nil=>simp
  |cons a r ih=>
   by_cases ha:p a=true
   ·rw[fM ha,ih,ma,ha,adV]
   ·rw[bH ha,ma];simp[ha]
 unfold endOf;constructor
 ·intro q
  by_cases h0:t.length=0
  ·exact .inr h0
  ·exact .inl ((e _).mp (be (by lia)))
 ·rintro(q|q)
  ·rw[(e _).mpr q];rfl
  ·omega
theorem kH(z:Int):wrap z=(z+9223372036854775808)%18446744073709551616- 9223372036854775808:=by
 unfold wrap;have e1:(2:Int)^64=18446744073709551616:=by decide
 have e2:(2:Int)^63=9223372036854775808:=by decide
 have e3:(2:Nat)^63=9223372036854775808:=by decide
 simp only[e1,e2,e3]
 split<;>lia
theorem JF(z:Int):wrap (z%18446744073709551616)=wrap z:=by rw[kH,kH];lia
theorem G6(z:Int):wrap (-(z%18446744073709551616))=wrap (-z):=by rw[kH,kH];lia
theorem E3(z:Int):wrap (-(wrap z))=wrap (-z):=by rw[kH,kH,kH];lia
def Eg(l:B):Nat:=l.foldl (fun v c=>10*v+(c- 48)) 0
theorem Sr(l:B)(c:Nat):Eg (l++[c])=10*Eg l+(c- 48):=by unfold Eg;rw[kC];rfl
theorem digits_eq(l:B):digits l=wrap (Eg l):=rfl
theorem Ny{t:B}(h:t.dropWhile blank=[]):number t= .ok 0:=by unfold number;dsimp only;rw[h];rfl
theorem KJ{t r:B}(h:t.dropWhile blank=c::r)(hc:c=45\/c=43):number t=if r=[]\/r.all isDigit=false then .error 2 else .ok (if c=45 then wrap (-(digits r))else digits r):=by
 unfold number;dsimp only;rw[h];have e:(uF (c::r)=some 45\/uF (c::r)=some 43):=by obtain rfl|rfl:=hc<;>simp
 rw[if_pos e,if_neg (by simp)];simp only[jo,kU,EX,Jz]
theorem HE{t r:B}(h:t.dropWhile blank=c::r)(h1:c≠45)(h2:c≠43):number t=if (c::r).all isDigit=false then .error 2 else .ok (digits (c::r)):=by
 unfold number;dsimp only;rw[h];have e:¬(uF (c::r)=some 45\/uF (c::r)=some 43):=by simp[h1,h2]
 rw[if_neg e,if_neg (by simp)];have e3:¬(uF (c::r)=some 45):=by simp[h1]
 rw[if_neg e3];simp
theorem nk(h:number t= .error e):e=2:=by
 unfold number at h;dsimp only at h;generalize (if (t.dropWhile blank).head?=some 45\/(t.dropWhile blank).head?=some 43 then(t.dropWhile blank).drop 1 else t.dropWhile blank)=d at h
 by_cases h1:t.dropWhile blank=[]
 ·rw[if_pos h1]at h;cases h
 ·rw[if_neg h1]at h
  by_cases h2:d=[]\/d.all isDigit=false
  ·rw[if_pos h2]at h;cases h;rfl
  ·rw[if_neg h2]at h;cases h
theorem Xj:∀l:List B,(l.flatMap fun t=>44::t).drop 1=joinedBy l
 |[]=>rfl
 |[x]=>by simp[joinedBy]
 |x::y::r=>by
  have ih:=Xj (y::r);rw[Bw]at ih⊢;show (44::x++_).drop 1=x++(44::joinedBy (y::r));rw[<-ih,Bw];simp
theorem xS:∀l:List B,l≠[]->((joinedBy l).length:Int)=(l.map fun t=>(t.length:Int)+1).sum- 1
 |[],h=>absurd rfl h
 |[x],_=>by simp[joinedBy]
 |x::y::r,_=>by
  have ih:=xS (y::r) (by simp);show ((x++(44::joinedBy (y::r))).length:Int)=_;rw[a4,gp,aF,au];lia
theorem M6(y:Sys)(l:List B):((l.map (quoted y)).map fun t=>(t.length:Int)+1).sum=(l.map fun t=>(t.length:Int)+1).sum+(l.length:Int)*((y.open_.length:Int)+(y.close.length:Int)):=by
 induction l with
 |nil=>simp
 |cons x r ih=>
  rw[a4,a4,gp,ih,a4,gp,au];have:((quoted y x).length:Int)=y.open_.length+x.length+y.close.length:=by unfold quoted;simp only[aF];lia
  rw[this]
  have e:((r.length+1:Nat):Int)*((y.open_.length:Int)+(y.close.length:Int))=(r.length:Int)*((y.open_.length:Int)+(y.close.length:Int))+((y.open_.length:Int)+(y.close.length:Int)):=by
   rw[Int.natCast_add,Int.add_mul];simp
  rw[e];lia
theorem tV(y:Sys)(n:B)(as:List B):∀(p q:B),36∉p->filled y n as (p++q)=p++filled y n as q
 |[],q,_=>rfl
 |c::p,q,h=>by
  have hc:c≠36:=fun e=>h (by rw[e];exact aX);have ih:=tV y n as p q (fun m=>h (aK _ m));rw[jw,jw,<-ih]
  cases hpq:p++q with
  |nil=>simp[filled]
  |cons d r=>
   conv=>lhs;unfold filled
   split
   ·rename_i e;cases e
   ·rename_i e;cases e
   ·rename_i e;cases e;exact absurd rfl hc
   ·rename_i e;cases e;rfl
theorem tW(y:Sys)(n:B)(as:List B):filled y n as []=[]:=by unfold filled;rfl
theorem Lk(y:Sys)(n:B)(as:List B):filled y n as [36]=[36]:=by unfold filled;rfl
def standIn(y:Sys)(n:B)(as:List B)(c:Nat):Option B:=
 if c=48 then some n else if isDigit c=true then some (as.getD (c- 49) [])else if c=35 then some (decimal as.length)else if c=42 then some (joinedBy as)else if c=64 then some (joinedBy (as.map (quoted y)))else none
theorem FH(y:Sys)(n:B)(as:List B)(c:Nat)(r:B):filled y n as (36::c::r)=match standIn y n as c with
 |some p=>p++filled y n as r
 |none=>36::filled y n as (c::r):=by
 conv=>lhs;unfold filled
 show (if c=48 then n++filled y n as r else if isDigit c=true then as.getD (c- 49) []++filled y n as r else if c=35 then decimal as.length++filled y n as r else if c=42 then joinedBy as++filled y n as r
  else if c=64 then joinedBy (as.map (quoted y))++filled y n as r else 36::filled y n as (c::r))=_
 unfold standIn
 repeat' split
 all_goals first|rfl|(rename_i h _;cases h;done)|simp_all
def rg(b:B):B:=ranged (b.length+1) b
theorem vb:∀(n m:Nat) (b:B),b.length<n->b.length<m->ranged n b=ranged m b
 |0,_,_,h,_=>by lia
 |_+1,0,_,_,h=>by lia
 |n+1,m+1,b,hn,hm=>by
  unfold ranged
  split
  ·rename_i a c r;simp only[au]at hn hm;rw[vb n m (c::r) (by simp only[au];lia) (by simp only[au];lia)]
  ·rename_i a r _;simp only[au]at hn hm;rw[vb n m r (by lia) (by lia)]
  ·rfl
def span(a c:Nat):B:=if a<=c then(c8 (c- a)).map (a+ ·)else(c8 (a- c)).map (a- ·)
def A6(a c:Nat):B:=if a<=c then(c8 (c- a)).map (a+1+ ·)else(c8 (a- c)).map (a- 1- ·)
theorem UT(a c:Nat)(r:B):rg (a::45::c::r)=span a c++rg (c::r):=by
 unfold rg
 conv=>lhs;unfold ranged
 show span a c++ranged (a::45::c::r).length (c::r)=_;rw[vb (a::45::c::r).length ((c::r).length+1) (c::r) (by simp only[au];lia) (by lia)]
theorem abY(a:Nat)(r:B)(h:∀c s,r≠45::c::s):rg (a::r)=a::rg r:=by
 unfold rg
 conv=>lhs;unfold ranged
 split
 ·rename_i e;cases e;exact absurd rfl (h _ _)
 ·rename_i e;cases e;rfl
 ·rename_i e;cases e
theorem UJ(a c:Nat):a::A6 a c=span a c++[c]:=by
 unfold A6 span
 by_cases h:a<=c
 ·rw[if_pos h,if_pos h]
  have:∀n,a::(c8 n).map (a+1+ ·)=(c8 n).map (a+ ·)++[a+n]:=fun n=>by
   induction n with
   |zero=>rfl
   |succ n ih=>
    rw[EW,bL,bL,<-jw,ih];simp;lia
  rw[this,show a+(c- a)=c by lia]
 ·rw[if_neg h,if_neg h]
  have:∀n,n<=a->a::(c8 n).map (a- 1- ·)=(c8 n).map (a- ·)++[a- n]:=fun n=>by
   induction n with
   |zero=>intro _;rfl
   |succ n ih=>
    intro hn;rw[EW,bL,bL,<-jw,ih (by lia)];simp;lia
  rw[this _ (by lia),show a- (a- c)=c by omega]
def nE(t row:B)(i:Nat):Prop:=(i=0/\row=[])\/∃a M3,1<=i/\t[i- 1]? =some a/\row=M3++[a]/\rg t=M3++rg (t.drop (i- 1))
theorem nE.start(t:B):nE t [] 0:=.inl ⟨rfl,rfl⟩
theorem nE.range(h:nE t row i)(h0:0<i)(hm:t[i]? =some 45)(hc:t[i+1]? =some c):∃a,t[i- 1]? =some a/\nE t (row++A6 a c) (i+2):=by
 obtain⟨e,_⟩|⟨a,M3,h1,ha,rfl,hr⟩:=h
 ·lia
 ·refine⟨a,ha,.inr ⟨c,M3++span a c,by lia,by rw[show i+2- 1=i+1 by lia];exact hc,?_,?_⟩⟩
  ·rw[bu,bu,<-UJ];rfl
  ·have l1:=(aw.mp ha);have l2:=(aw.mp hm);have l3:=(aw.mp hc);obtain⟨l1,e1⟩:=l1;obtain⟨l2,e2⟩:=l2;obtain⟨l3,e3⟩:=l3;rw[hr,aI l1,e1,show i- 1+1=i by lia,aI l2,e2,aI l3,e3,UT,bu,show i+2- 1=i+1 by lia,aI l3,e3]
theorem nE.one(h:nE t row i)(hc:t[i]? =some c)(hn:i=0\/c≠45\/t[i+1]? =none):nE t (row++[c]) (i+1):=by
 have lc:=aw.mp hc;obtain⟨lc,ec⟩:=lc;obtain⟨rfl,rfl⟩|⟨a,M3,h1,ha,rfl,hr⟩:=h
 ·exact .inr ⟨c,[],by lia,hc,rfl,rfl⟩
 ·refine .inr ⟨c,M3++[a],by lia,hc,rfl,?_⟩;obtain⟨l1,e1⟩:=aw.mp ha;rw[hr,aI l1,e1,show i- 1+1=i by lia,show i+1- 1=i by lia,abY,bu]
  ·rfl
  ·intro d s e;rw[aI lc,ec]at e;obtain hn|hn|hn:=hn
   ·lia
   ·exact hn (m8 e).1
   ·have:=(m8 e).2
    have:t[i+1]? =some d:=by
     have q:=congrArg uF this;rw[List.head?_drop]at q;exact q
    rw[hn]at this;cases this
theorem nE.done{t row:B}(h:nE t row i)(hi:i=t.length):row=rg t:=by
 obtain⟨rfl,rfl⟩|⟨a,M3,h1,ha,rfl,hr⟩:=h
 ·rw[be hi.symm];rfl
 ·obtain⟨l1,e1⟩:=aw.mp ha;rw[hr,aI l1,e1,show i- 1+1=i by lia,hi,oy];rfl
def gg(a b:B)(c:Nat):Option Int:=match a.findIdx? (·==c)with
 |none=>none
 |some i=>some (match b[i]? with
  |some d=>(d:Int)
  |none=> -1)
theorem AQ(h:gg a b x=some z)(c:Nat):gg (a++[x]) b c=gg a b c:=by
 unfold gg at h⊢;rw[xg]
 cases e:a.findIdx? (·==c)with
 |some i=>rfl
 |none=>
  have:¬x=c:=by
   intro q;subst q;rw[e]at h
   cases h
  simp[this]
theorem AR{a b:B}(h:gg a b x=none)(c:Nat):gg (a++[x]) b c=if c=x then some (match b[a.length]? with
 |some d=>(d:Int)
 |none=> -1)else gg a b c:=by
 unfold gg at h⊢;rw[xg]
 have hx:a.findIdx? (·==x)=none:=by
  cases e:a.findIdx? (·==x)with
  |none=>rfl
  |some i=>rw[e]at h;cases h
 by_cases hc:c=x
 ·subst hc;rw[hx,if_pos rfl];simp
 ·rw[if_neg hc]
  cases e:a.findIdx? (·==c)with
  |some i=>rfl
  |none=>
   have:¬x=c:=fun q=>hc q.symm;simp[this]
theorem E5(s a b:B):(translated s a b).map (fun n:Nat=>(n:Int))=(s.map fun c:Nat=>(gg a b c).getD (c:Int)).filter fun z=>z != -1:=by
 unfold translated
 induction s with
 |nil=>rfl
 |cons c r ih=>
  rw[Bw,bL,ih,a4,gY];unfold gg
  cases e:a.findIdx? (·==c)with
  |none=>
   have:((c:Int) != -1)=true:=by simp
   simp[this]
  |some i=>
   cases e2:b[i]? with
   |none=>simp[e2]
   |some d=>
    have:((d:Int) != -1)=true:=by simp
    simp[e2,this]
theorem Bq:∀(n m:Nat) (l:List B),l.length<=n->l.length<=m->chosen n l=chosen m l
 |0,m,l,h,_=>by
  have:l=[]:=be (by lia);subst this
  cases m<;>rfl
 |n+1,0,l,_,h=>by
  have:l=[]:=be (by lia);subst this;rfl
 |n+1,m+1,l,hn,hm=>by
  unfold chosen
  split
  ·rename_i a b c r;simp only[au]at hn hm;rw[Bq n m r (by lia) (by lia)]
  ·rfl
def pick(l:List B):B:=chosen l.length l
theorem Nd{l:List B}(h:l.length<3):pick l=[]:=by
 match l,h with
 |[],_=>rfl
 |[_],_=>rfl
 |[_,_],_=>rfl
 |_::_::_::_,h=>simp only[au]at h;lia
theorem Nc(a b c:B)(r:List B):pick (a::b::c::r)=if a=b then c else if r.length=1 then r.headD []else pick r:=by
 unfold pick;show chosen (r.length+2+1) _=_
 conv=>lhs;unfold chosen
 dsimp only
 split
 ·rfl
 ·match r with
  |[]=>rfl
  |[d]=>rfl
  |d::e::s=>
   dsimp only;rw[if_neg (by simp)];exact Bq _ _ _ (by simp only[au];lia) (by simp only[au];lia)
end
section
theorem nh(y:Sys):∀(n d:Nat) (b l:B),quote y n d b l=(quote y n d b []).map fun q=>(l++q.1,q.2)
 |0,_,_,_=>rfl
 |n+1,d,b,l=>by
  unfold quote
  split
  ·split
   ·simp
   ·rw[nh y n (d- 1) _ (l++y.close),nh y n (d- 1) _ ([]++y.close)]
    cases quote y n (d- 1) (b.drop y.close.length) []<;>simp
  ·split
   ·rw[nh y n (d+1) _ (l++y.open_),nh y n (d+1) _ ([]++y.open_)]
    cases quote y n (d+1) (b.drop y.open_.length) []<;>simp
   ·cases b with
    |nil=>rfl
    |cons c r=>
     dsimp only;rw[nh y n d r (l++[c]),nh y n d r ([]++[c])]
     cases quote y n d r []<;>simp
theorem tj(y:Sys):∀(n m d:Nat) (b l:B),b.length<n->b.length<m->quote y n d b l=quote y m d b l
 |0,_,_,_,_,h,_=>by lia
 |_+1,0,_,_,_,_,h=>by lia
 |n+1,m+1,d,b,l,hn,hm=>by
  have pos:∀q:B,q≠[]->b.take q.length=q->(b.drop q.length).length<b.length:=fun q h1 h2=>by
   have h3:=congrArg cS h2;rw[aQ]at h3;have:q.length≠0:=fun e=>h1 (be e);rw[aL];lia
  unfold quote
  split
  ·rename_i h;have:=pos _ h.1 h.2
   split
   ·rfl
   ·exact tj y n m _ _ _ (by lia) (by lia)
  ·split
   ·rename_i h;have:=pos _ h.1 h.2;exact tj y n m _ _ _ (by lia) (by lia)
   ·cases b with
    |nil=>rfl
    |cons c r=>
     simp only[au]at hn hm;exact tj y n m _ _ _ (by lia) (by lia)
def qt(y:Sys)(d:Nat)(b:B):Option (B×B):=quote y (b.length+1) d b []
theorem yQ(y:Sys){b l:B}(h:b.length<n):quote y n d b l=(qt y d b).map fun q=>(l++q.1,q.2):=by
 rw[tj y n (b.length+1) d b l h (by lia),nh];rfl
def yp(q b:B):Prop:=q≠[]/\b.take q.length=q
theorem yp.lt{q b:B}(h:yp q b):(b.drop q.length).length<b.length:=by
 have h3:=congrArg cS h.2;rw[aQ]at h3;have:q.length≠0:=fun e=>h.1 (be e);rw[aL];lia
theorem DB{y:Sys}{b:B}(h:yp y.close b):qt y d b=if d=0 then some ([],b.drop y.close.length)else(qt y (d- 1) (b.drop y.close.length)).map fun q=>(y.close++q.1,q.2):=by
 conv=>lhs;unfold qt quote
 rw[if_pos (show y.close≠[]/\_ from h)]
 split
 ·rfl
 ·rw[yQ y h.lt];rfl
theorem O5{y:Sys}{b:B}(h:¬yp y.close b)(h2:yp y.open_ b):qt y d b=(qt y (d+1) (b.drop y.open_.length)).map fun q=>(y.open_++q.1,q.2):=by
 conv=>lhs;unfold qt quote
 rw[if_neg (show ¬(y.close≠[]/\_) from h),if_pos (show y.open_≠[]/\_ from h2),yQ y h2.lt];rfl
theorem UZ{y:Sys}{d c:Nat}{r:B}(h:¬yp y.close (c::r))(h2:¬yp y.open_ (c::r)):qt y d (c::r)=(qt y d r).map fun q=>(c::q.1,q.2):=by
 conv=>lhs;unfold qt quote
 rw[if_neg (show ¬(y.close≠[]/\_) from h),if_neg (show ¬(y.open_≠[]/\_) from h2)];dsimp only;rw[yQ y (by simp)];rfl
theorem M7:qt y d []=none:=by
 unfold qt quote;rw[if_neg (by rintro⟨h1,h2⟩;simp at h2;exact h1 h2),if_neg (by rintro⟨h1,h2⟩;simp at h2;exact h1 h2)]
structure yo(y:Sys)(t:B)(i d:Nat):Prop where
 le:i<=t.length
 eq:qt y 0 t=(qt y d (t.drop i)).map fun q=>(t.take i++q.1,q.2)
theorem yo.start(y:Sys)(t:B):yo y t 0 0:=⟨aC _,by simp⟩
theorem uW{t q:B}(h:(t.drop i).take q.length=q):t.take i++q=t.take (i+q.length):=by
 rw[List.take_add,h]
theorem yp.le{t q:B}(h:yp q (t.drop i)):i+q.length<=t.length/\1<=q.length:=by
 have h3:=congrArg cS h.2;rw[aQ,aL]at h3;have:q.length≠0:=fun e=>h.1 (be e);lia
theorem yo.close{y:Sys}{t:B}(h:yo y t i (d+1))(hc:yp y.close (t.drop i)):yo y t (i+y.close.length) d:=by
 exists hc.le.1;rw[h.eq,DB hc,if_neg (by lia),rA,jv,<-uW hc.2]
 cases qt y d (t.drop (i+y.close.length))<;>simp
theorem yo.done{y:Sys}{t:B}(h:yo y t i 0)(hc:yp y.close (t.drop i)):qt y 0 t=some (t.take i,t.drop (i+y.close.length)):=by
 rw[h.eq,DB hc,if_pos rfl,jv];simp
theorem yo.open{y:Sys}{t:B}(h:yo y t i d)(hc:¬yp y.close (t.drop i))(ho:yp y.open_ (t.drop i)):yo y t (i+y.open_.length) (d+1):=by
 exists ho.le.1;rw[h.eq,O5 hc ho,jv,<-uW ho.2]
 cases qt y (d+1) (t.drop (i+y.open_.length))<;>simp
theorem yo.one{y:Sys}{t:B}(h:yo y t i d)(hi:i<t.length)(hc:¬yp y.close (t.drop i))(ho:¬yp y.open_ (t.drop i)):yo y t (i+1) d:=by
 exists hi;rw[aI hi]at hc ho;rw[h.eq,aI hi,UZ hc ho];have:t.take (i+1)=t.take i++[t[i]]:=by rw[Bx hi]
 rw[this]
 cases qt y d (t.drop (i+1))with
 |none=>rfl
 |some q=>simp only[oY,bu];rfl
theorem yo.end{t:B}(h:yo y t i d)(hi:t.length<=i):qt y 0 t=none:=by
 rw[h.eq,bF hi,M7];rfl
theorem yo.skip{y:Sys}{t:B}(ho:y.open_=[o])(hc:y.close=[c]):∀(k i d:Nat),yo y t i d->i+k<=t.length->(∀j,i<=j->j<i+k->t[j]? ≠some c)->yo y t (i+k) (d+((t.drop i).take k).count o)
 |0,i,d,h,_,_=>by simpa using h
 |k+1,i,d,h,hk,hn=>by
  have hi:i<t.length:=by lia
  have hx:t[i]≠c:=fun e=>hn i (aE _) (by lia) (by rw[cy hi,e])
  have nc:¬yp y.close (t.drop i):=by
   rw[hc,aI hi];rintro⟨_,q⟩;exact hx (m8 q).1
  have e:(t.drop i).take (k+1)=t[i]::(t.drop (i+1)).take k:=by rw[aI hi,yk]
  rw[e,show i+(k+1)=i+1+k by lia]
  by_cases hox:t[i]=o
  ·have h2:=h.open nc (by
    rw[ho,aI hi];exact⟨by simp,by simp[hox]⟩)
   rw[ho]at h2;have h3:=yo.skip ho hc k (i+1) (d+1) h2 (by lia) fun j h1 h2=>hn j (by lia) (by lia);rw[pC,if_pos (by simpa using hox)]
   rwa [show d+1+((t.drop (i+1)).take k).count o=d+(((t.drop (i+1)).take k).count o+1) by lia]at h3
  ·have h2:=h.one hi nc (by
    rw[ho,aI hi];rintro⟨_,q⟩;exact hox (m8 q).1)
   have h3:=yo.skip ho hc k (i+1) d h2 (by lia) fun j h1 h2=>hn j (by lia) (by lia);rw[pC,if_neg (by simpa using hox)];exact h3
abbrev Defs:=List (B×Def)
def pA(l:Defs)(n:B):List Def:=(l.filter fun x=>x.1==n).map (·.2)
theorem O1(n:B):pA [] n=[]:=rfl
theorem eL(b:B)(d:Def)(l:Defs)(n:B):pA ((b,d)::l) n=if b=n then d::pA l n else pA l n:=by
 unfold pA;rw[gY]
 by_cases h:b=n
 ·simp[h]
 ·simp[h]
theorem Ee(y:Sys)(n:B):find y n=(pA y.defs n).head?:=by
 unfold find pA
 induction y.defs with
 |nil=>rfl
 |cons x r ih=>
  rw[gE,gY]
  cases x.1==n with
  |true=>rfl
  |false=>exact ih
theorem mr(b:B)(d:Def):∀(l:Defs) (n:B),pA (replaced b d l) n=if b=n then d::(pA l n).tail else pA l n
 |[],n=>by
  show pA [(b,d)] n=_;rw[eL,O1];rfl
 |(c,e)::r,n=>by
  unfold replaced;dsimp only
  by_cases h:c=b
  ·rw[if_pos h,eL,eL];subst h
   by_cases h2:c=n
   ·rw[if_pos h2,if_pos h2,if_pos h2];rfl
   ·rw[if_neg h2,if_neg h2,if_neg h2]
  ·rw[if_neg h,eL,mr b d r n,eL]
   by_cases h2:c=n
   ·have:¬b=n:=fun q=>h (h2.trans q.symm);rw[if_pos h2,if_neg this,if_neg this,if_pos h2]
   ·rw[if_neg h2,if_neg h2]
theorem lW(b:B):∀(l:Defs) (n:B),pA (without l b) n=if b=n then(pA l n).tail else pA l n
 |[],n=>by
  show pA [] n=_;rw[O1];split<;>rfl
 |(c,e)::r,n=>by
  unfold without;dsimp only
  by_cases h:c=b
  ·rw[if_pos h,eL];subst h
   by_cases h2:c=n
   ·rw[if_pos h2,if_pos h2];rfl
   ·rw[if_neg h2,if_neg h2]
  ·rw[if_neg h,eL,lW b r n,eL]
   by_cases h2:c=n
   ·have:¬b=n:=fun q=>h (h2.trans q.symm);rw[if_pos h2,if_neg this,if_neg this,if_pos h2]
   ·rw[if_neg h2,if_neg h2]
def wt(x:B×Def):Nat:=x.1.length+sizeOf_ x.2+16
theorem D1(l:Defs)(k:Nat):l.foldl (fun n x=>n+x.1.length+sizeOf_ x.2+16) k=k+keptSize l:=by
 unfold keptSize
 induction l generalizing k with
 |nil=>rfl
 |cons x r ih=>
  rw[dX,dX,ih,ih (0+_+_+_)];lia
theorem kept_cons(x:B×Def)(l:Defs):keptSize (x::l)=wt x+keptSize l:=by
 conv=>lhs;unfold keptSize
 rw[dX,D1];unfold wt;lia
theorem V1:keptSize []=0:=rfl
theorem rf(b:B)(d:Def):∀l:Defs,keptSize (replaced b d l)+(match (pA l b).head? with|some e=>wt (b,e)|none=>0)=keptSize l+wt (b,d)
 |[]=>by
  show keptSize [(b,d)]+0=_;rw[kept_cons,V1];lia
 |(c,e)::r=>by
  unfold replaced;dsimp only;rw[eL]
  by_cases h:c=b
  ·subst h;rw[if_pos rfl,if_pos rfl,kept_cons,kept_cons];dsimp only[EX];lia
  ·rw[if_neg h,if_neg h,kept_cons,kept_cons];have:=rf b d r;lia
theorem zo(b:B):∀l:Defs,keptSize (without l b)+(match (pA l b).head? with|some e=>wt (b,e)|none=>0)=keptSize l
 |[]=>rfl
 |(c,e)::r=>by
  unfold without;dsimp only;rw[eL]
  by_cases h:c=b
  ·subst h;rw[if_pos rfl,if_pos rfl,kept_cons];dsimp only[EX];lia
  ·rw[if_neg h,if_neg h,kept_cons,kept_cons];have:=zo b r;lia
theorem G8(h:pA l b=[]):without l b=l:=by
 induction l with
 |nil=>rfl
 |cons x r ih=>
  obtain⟨c,e⟩:=x;rw[eL]at h
  by_cases hc:c=b
  ·rw[if_pos hc]at h;cases h
  ·rw[if_neg hc]at h;unfold without;rw[if_neg hc,ih h]
def j7(l:Defs)(b:B):Defs:=l.filter fun x=> !(x.1==b)
theorem IB(l:Defs)(b:B):j7 (without l b) b=j7 l b:=by
 unfold j7
 induction l with
 |nil=>rfl
 |cons x r ih=>
  obtain⟨c,e⟩:=x;unfold without;dsimp only
  by_cases hc:c=b
  ·rw[if_pos hc,gY];simp[hc]
  ·rw[if_neg hc,gY,gY,ih]
theorem gone_none(h:pA l b=[]):j7 l b=l:=by
 unfold j7
 induction l with
 |nil=>rfl
 |cons x r ih=>
  obtain⟨c,e⟩:=x;rw[eL]at h
  by_cases hc:c=b
  ·rw[if_pos hc]at h;cases h
  ·rw[if_neg hc]at h;rw[gY,ih h];simp[hc]
theorem AG:∀(as:List B) (l:Defs),as.foldl j7 l=l.filter fun x=> !(as.contains x.1)
 |[],l=>(SS.mpr fun _ _=>rfl).symm
 |a::r,l=>by
  rw[dX,AG r];unfold j7;rw[List.filter_filter]
  congr 1
  funext x
  rw[zV,Bool.not_or,Bool.and_comm]
theorem fold_add(f:Nat->Nat):∀(l:List Nat) (n:Nat),l.foldl (fun n j=>n+f j) n=n+(l.map f).sum
 |[],_=>rfl
 |x::l,n=>by rw[dX,fold_add f l,a4,gp,jg]
theorem O0{f g:Nat->Nat}{k:Nat}(ho:∀j,j≠k->f j=g j):∀l:List Nat,l.Nodup->(k∈l->(l.map f).sum+g k=(l.map g).sum+f k)/\(k∉l->(l.map f).sum=(l.map g).sum)
 |[],_=>⟨fun h=>absurd h dh,fun _=>rfl⟩
 |x::l,nd=>by
  have ih:=O0 ho l (fe.mp nd).2;rw[a4,a4,gp,gp]
  by_cases e:x=k
  ·subst e;exact⟨fun _=>by rw[ih.2 (fe.mp nd).1];lia,fun h=>absurd aX h⟩
  ·exact⟨fun h=>by have:=ih.1 ((a0.mp h).resolve_left (aD e));rw[ho x e];lia,fun h=>by rw[ho x e,ih.2 fun q=>h (aK _ q)]⟩
theorem l5(y:Sys)(f:Nat->B){b:B}(hk:1<=k/\k<=9)(h:f k=b)(ho:∀j,j≠k->f j=y.aside j):asideSize {y with aside:=f}+(y.aside k).length=asideSize y+b.length:=by
 obtain⟨k,rfl⟩:∃i,k=i+1:=⟨k- 1,by lia⟩;have e:=(O0 (f:=fun j=>(f (j+1)).length) (g:=fun j=>(y.aside (j+1)).length) (k:=k) (fun j n=>by rw[ho _ fun q=>n (GX q)]) (c8 9) List.nodup_range).1 (hG.mpr (by lia));have e1:asideSize y=_:=fold_add (fun j=>(y.aside (j+1)).length) _ _;have e2:asideSize {y with aside:=f}=_:=fold_add (fun j=>(f (j+1)).length) _ _;rw[e1,e2,<-h];lia
end
end TM
namespace TM
open Ra32 PySem
section
def M64:Nat:=18446744073709551616
theorem A7:(2:Nat)^64=M64:=by decide
theorem wb(z:Int):((bits z:Nat):Int)=z%18446744073709551616:=by
 unfold bits;have e1:(2:Int)^64=18446744073709551616:=by decide
 rw[e1];lia
theorem Cu(z:Int):bits z<2^64:=by
 have:=wb z;rw[A7];unfold M64;lia
theorem uM(h:a%18446744073709551616=b%18446744073709551616):wrap a=wrap b:=by rw[kH,kH];lia
theorem vD{x i:Nat}(h:x<2^64):(2^64- 1- x).testBit i=(decide (i<64)&& !x.testBit i):=by
 have:=Nat.testBit_two_pow_sub_succ h i
 rwa [show 2^64- (x+1)=2^64- 1- x by lia]at this
theorem SG{a b:Nat}(ha:a<2^64)(hb:b<2^64):(a&&& b)+(a&&& (2^64- 1- b))=a:=by
 have h:=zK (a&&& b) (a&&& (2^64- 1- b))
 have e1:(a&&& b)&&& (a&&& (2^64- 1- b))=0:=by
  refine k9 fun i=> ?_;rw[gG,gG,gG,vD hb,aaJ]
  cases decide (i<64)<;>cases a.testBit i<;>cases b.testBit i<;>rfl
 have e2:(a&&& b)|||(a&&& (2^64- 1- b))=a:=by
  refine k9 fun i=> ?_;rw[yf,gG,gG,vD hb]
  by_cases hi:i<64
  ·rw[decide_eq_true hi];cases a.testBit i<;>cases b.testBit i<;>rfl
  ·rw[Nat.testBit_lt_two_pow (bP ha (Nat.pow_le_pow_right (by decide) (EC hi)))];rfl
 rw[e1,e2]at h;exact h.symm
theorem Ph(ha:a<2^64)(hb:b<2^64):(2^64- 1- a)&&& (2^64- 1- b)=2^64- 1- (a|||b):=by
 have hab:a|||b<2^64:=Yr ha hb;refine k9 fun i=> ?_;rw[gG,vD ha,vD hb,vD hab,yf]
 cases decide (i<64)<;>cases a.testBit i<;>cases b.testBit i<;>rfl
theorem Pm(a b:Nat):(a&&& b)%2^64=(a%2^64)&&& (b%2^64):=Nat.and_mod_two_pow
theorem acz(a b:Nat):(a|||b)%2^64=(a%2^64)|||(b%2^64):=Nat.or_mod_two_pow
theorem Ct{x:Int}(h:0<=x):bits x=x.toNat%2^64:=by
 have:=wb x;rw[A7];unfold M64;lia
theorem bits_neg(h:¬0<=x):bits x=2^64- 1- (en x).toNat%2^64:=by
 have:=wb x;unfold en;rw[A7];unfold M64;omega
theorem Ew(x y:Int):(eQ x y)%18446744073709551616=((bits x&&& bits y:Nat):Int)%18446744073709551616:=by
 have key:∀a b:Nat,((a:Int)- ((a&&& b:Nat):Int))%18446744073709551616=(((a%2^64)&&& (2^64- 1- b%2^64):Nat):Int)%18446744073709551616:=fun a b=>by
  have h:=SG (a:=a%2^64) (b:=b%2^64) (Jb _ (by decide)) (Jb _ (by decide));rw[<-Pm]at h;rw[A7]at h⊢;unfold M64 at h⊢;lia
 unfold eQ
 by_cases hx:0<=x<;>by_cases hy:0<=y
 ·rw[decide_eq_true hx,decide_eq_true hy,Ct hx,Ct hy,<-Pm,A7];unfold M64;dsimp only;lia
 ·rw[decide_eq_true hx,decide_eq_false hy,Ct hx,bits_neg hy,<-key];dsimp only;lia
 ·rw[decide_eq_false hx,decide_eq_true hy,bits_neg hx,Ct hy,Nat.and_comm (2^64- 1- _),<-key];dsimp only;lia
 ·rw[decide_eq_false hx,decide_eq_false hy,bits_neg hx,bits_neg hy,Ph (Jb _ (by decide)) (Jb _ (by decide)),<-acz];dsimp only;unfold en;rw[A7];unfold M64;lia
theorem LK(x:Int):bits (en x)=2^64- 1- bits x:=by
 have h1:=wb x;have h2:=wb (en x);unfold en at*;rw[A7];unfold M64;lia
theorem Pj(x y:Int):(nO x y)%18446744073709551616=((bits x|||bits y:Nat):Int)%18446744073709551616:=by
 unfold nO;have h:=Ew (en x) (en y);rw[LK,LK,Ph (Cu x) (Cu y)]at h;have hl:bits x|||bits y<2^64:=Yr (Cu x) (Cu y);generalize eQ (en x) (en y)=q at h⊢;unfold en;rw[A7]at h hl;unfold M64 at h hl;lia
theorem Ni(a b:Nat):(a|||b)=(a^^^b)+(a&&& b):=by
 have h:=zK (a^^^b) (a&&& b)
 have e1:(a^^^b)&&& (a&&& b)=0:=by
  refine k9 fun i=> ?_;rw[gG,abF,gG,aaJ]
  cases a.testBit i<;>cases b.testBit i<;>rfl
 have e2:(a^^^b)|||(a&&& b)=a|||b:=by
  refine k9 fun i=> ?_;rw[yf,abF,gG,yf]
  cases a.testBit i<;>cases b.testBit i<;>rfl
 rw[e1,e2]at h;exact h
theorem T2(x y:Int):(mT x y)%18446744073709551616=((bits x^^^bits y:Nat):Int)%18446744073709551616:=by
 unfold mT;have h1:=Pj x y;have h2:=Ew x y;have h3:=Ni (bits x) (bits y);lia
theorem T5(x y:Int):wrap (eQ x y)=wrap ((bits x&&& bits y:Nat):Int):=uM (Ew x y)
theorem Yy(x y:Int):wrap (nO x y)=wrap ((bits x|||bits y:Nat):Int):=uM (Pj x y)
theorem T4(x y:Int):wrap (mT x y)=wrap ((bits x^^^bits y:Nat):Int):=uM (T2 x y)
theorem aat(y:Int):((bits y%64:Nat):Int)=y%64:=by
 have:=wb y;lia
end
section
def xi(z:Int):Prop:= -9223372036854775808<=z/\z<9223372036854775808
theorem G7(z:Int):xi (wrap z):=by unfold xi;rw[kH];lia
theorem rG(h:xi z):wrap z=z:=by unfold xi at h;rw[kH];lia
def raw(op:String)(x y:Int):Option Int:=
 if op="||" then some (bool (x != 0||y != 0))else if op="&&" then some (bool (x != 0&&y != 0))else if op="|" then some (nO x y)else if op="^" then some (mT x y)else if op="&" then some (eQ x y)
 else if op="==" then some (bool (x==y))else if op="!=" then some (bool (x != y))else if op="<=" then some (bool (decide (x<=y)))else if op=">=" then some (bool (decide (y<=x)))else if op="<" then some (bool (decide (x<y)))else if op=">" then some (bool (decide (y<x)))
 else if op="<<" then some (x*2^(y%64).toNat)else if op=">>" then some (x/2^(y%64).toNat)else if op="+" then some (x+y)else if op="-" then some (x- y)else if op="*" then some (x*y)
 else if op="/" then(if y=0 then none else some (Ja x y))else(if y=0 then none else some (adU x y))
theorem Qi(b:Bool):xi (bool b):=by cases b<;>exact⟨by decide,by decide⟩
theorem UN(h:xi x)(k:Nat):xi (x/2^k):=by
 unfold xi at*;have hp:(0:Int)<2^k:=Int.pow_pos (by decide);have h1:(1:Int)<=2^k:=by lia
 constructor
 ·rw[Int.le_ediv_iff_mul_le hp];have:(-9223372036854775808:Int)*2^k<= -9223372036854775808*1:=Int.mul_le_mul_of_nonpos_left (by decide) h1;lia
 ·rw[Int.ediv_lt_iff_lt_mul hp];have:(9223372036854775808:Int)*1<=9223372036854775808*2^k:=Int.mul_le_mul_of_nonneg_left h1 (by decide);lia
theorem aaX(y:Int):bits y%64=(y%64).toNat:=by
 have:=aat y;lia
theorem uf{α:Type}{P:α->Prop}{x:α}{l:List α}(h:P x)(r:∀e∈l,P e):∀e∈x::l,P e:=List.forall_mem_cons.mpr ⟨h,r⟩
theorem fmn{α:Type}{P:α->Prop}:∀e∈([]:List α),P e:=fun _ h=>absurd h dh
theorem Bb:(iq (bool x):E Int)= .ok (wrap (bool x)):=congrArg iq (rG (Qi _)).symm
theorem aa0{y z:Int}:(if y=0 then .error 2 else .ok (wrap z):E Int)=match (if y=0 then none else some z)with
 |some z=>.ok (wrap z)
 |none=>.error 2:=by
 by_cases h:y=0
 ·rw[if_pos h,if_pos h]
 ·rw[if_neg h,if_neg h]
theorem SF(m:(t,s,op)∈lu)(hx:xi x):apply op x y=match raw op x y with
 |some z=>.ok (wrap z)
 |none=>.error 2:=by
 have key:∀e∈lu,apply e.2.2 x y=match raw e.2.2 x y with
  |some z=>.ok (wrap z)
  |none=>.error 2:=by
  refine uf ?_<|uf ?_<|uf ?_<|uf ?_<|uf ?_<|uf ?_<|uf ?_<|uf ?_<|uf ?_<|uf ?_<|uf ?_<|uf ?_<|uf ?_<|uf ?_<|uf ?_<|uf ?_<|uf ?_<|uf ?_ fmn
  ·exact Bb
  ·exact Bb
  ·show iq _=iq (wrap _);rw[Yy]
  ·show iq _=iq (wrap _);rw[T4]
  ·show iq _=iq (wrap _);rw[T5]
  ·exact Bb
  ·exact Bb
  ·exact Bb
  ·exact Bb
  ·exact Bb
  ·exact Bb
  ·show iq _=iq (wrap (x*2^(y%64).toNat));rw[<-aaX]
  ·show iq _=iq (wrap (x/2^(y%64).toNat));rw[rG (UN hx _),<-aaX]
  ·rfl
  ·rfl
  ·rfl
  ·exact aa0
  ·exact aa0
 exact key _ m
theorem YH(x y:Int)(hy:y≠0):Ja x y=if (decide (x<0)=decide (y<0))then((x.natAbs:Int).fdiv (y.natAbs:Int))else-((x.natAbs:Int).fdiv (y.natAbs:Int)):=by
 have hf:(x.natAbs:Int).fdiv (y.natAbs:Int)=((x.natAbs/y.natAbs:Nat):Int):=by
  rw[Jd _ (by lia)];rfl
 rw[hf]
 by_cases h1:x<0<;>by_cases h2:y<0
 ·rw[if_pos (by simp[h1,h2])];obtain⟨a,rfl⟩:∃a:Nat,x= -(a:Int):=⟨x.natAbs,by omega⟩;obtain⟨b,rfl⟩:∃b:Nat,y= -(b:Int):=⟨y.natAbs,by omega⟩;rw[agK,agJ,Int.neg_neg];simp
 ·rw[if_neg (by simp[h1,h2])];obtain⟨a,rfl⟩:∃a:Nat,x= -(a:Int):=⟨x.natAbs,by omega⟩;obtain⟨b,rfl⟩:∃b:Nat,y=(b:Int):=⟨y.natAbs,by lia⟩;rw[agK];simp
 ·rw[if_neg (by simp[h1,h2])];obtain⟨a,rfl⟩:∃a:Nat,x=(a:Int):=⟨x.natAbs,by lia⟩;obtain⟨b,rfl⟩:∃b:Nat,y= -(b:Int):=⟨y.natAbs,by omega⟩;rw[agJ];simp
 ·rw[if_pos (by simp[h1,h2])];obtain⟨a,rfl⟩:∃a:Nat,x=(a:Int):=⟨x.natAbs,by lia⟩;obtain⟨b,rfl⟩:∃b:Nat,y=(b:Int):=⟨y.natAbs,by lia⟩;simp
theorem YG(x y:Int):adU x y=x- y*Ja x y:=by
 have:=Int.tmod_add_mul_tdiv x y;omega
theorem QC(hc:vy c=true)(hx:xi x):unop c x=wrap (if c=45 then-x else if c=43 then x else if c=33 then bool (x==0)else-x- 1):=by
 have hc:c=45\/c=43\/c=33\/c=126:=by unfold vy at hc;simp at hc;lia
 unfold unop;obtain rfl|rfl|rfl|rfl:=hc
 ·rw[if_pos rfl,if_pos rfl]
 ·show x=wrap x;rw[rG hx]
 ·show ju _=wrap (ju _);rw[rG (Qi _)]
 ·show-x- 1=wrap (-x- 1);rw[rG];unfold xi at*;lia
theorem Su(l:B):xi (digits l):=G7 _
structure Fits(r:R):Prop where
 kept:keptSize r.y.defs<=KEPT
 put:asideSize r.y<=ASIDE
 out:r.out.length<=r.room
 to9:r.y.to_<=9
def moved(r:R)(k:Int):R:={r with y:={r.y with aside:=fun j=>if (j:Int)=r.y.to_ then r.y.aside j++r.y.aside k.toNat else if j=k.toNat then []else r.y.aside j}}
end
end TM
namespace TM
open Ra32
section
section
variable(r:R)(args:List B)
theorem SA:built r (ascii "len") args=again r (decimal (args.getD 0 []).length):=by kernel_rfl
theorem Ox:built r (ascii "incr") args=match number (args.getD 0 [])with
 | .error e=>.error e
 | .ok z=>again r (text (wrap (z+1))):=by kernel_rfl
theorem OA:built r (ascii "decr") args=match number (args.getD 0 [])with
 | .error e=>.error e
 | .ok z=>again r (text (wrap (z- 1))):=by kernel_rfl
theorem IW:built r (ascii "divnum") args=again r (text (max (-1) r.y.to_)):=by kernel_rfl
theorem IY:built r (ascii "define") args=if args.getD 0 []=[]then .ok r else setDefs r (replaced (args.getD 0 []) (.text (args.getD 1 [])) r.y.defs):=by kernel_rfl
theorem FO:built r (ascii "pushdef") args=if args.getD 0 []=[]then .ok r else setDefs r ((args.getD 0 [],.text (args.getD 1 []))::r.y.defs):=by kernel_rfl
theorem IU:built r (ascii "popdef") args=setDefs r (args.foldl without r.y.defs):=by kernel_rfl
theorem Er:built r (ascii "undefine") args=setDefs r (r.y.defs.filter fun x=> !(args.contains x.1)):=by kernel_rfl
theorem Oz:built r (ascii "defn") args=again r (match find r.y (args.getD 0 [])with
 |some (.text t)=>quoted r.y t
 |_=>[]):=by kernel_rfl
theorem LH:built r (ascii "ifdef") args=again r (if (find r.y (args.getD 0 [])).isSome=true then args.getD 1 []else args.getD 2 []):=by kernel_rfl
theorem IV:built r (ascii "ifelse") args=again r (pick args):=by kernel_rfl
theorem LF:built r (ascii "shift") args=again r (joinedBy ((args.drop 1).map (quoted r.y))):=by kernel_rfl
theorem Oy:built r (ascii "eval") args=match eval (args.getD 0 [])with
 | .error e=>.error e
 | .ok z=>again r (text z):=by kernel_rfl
theorem LG:built r (ascii "index") args=again r (text (indexOf (args.getD 0 []) (args.getD 1 []))):=by kernel_rfl
theorem IT:built r (ascii "substr") args=match number (args.getD 1 [])with
 | .error e=>.error e
 | .ok z=>match (if args.length<=2 then .ok ((args.getD 0 []).length:Int)else number (args.getD 2 []):E Int)with
   | .error e=>.error e
   | .ok k=>again r (if z<0\/k<0 then []else((args.getD 0 []).drop z.toNat).take k.toNat):=by kernel_rfl
theorem Es:built r (ascii "translit") args=again r (translated (args.getD 0 []) (ranged ((args.getD 1 []).length+1) (args.getD 1 [])) (ranged ((args.getD 2 []).length+1) (args.getD 2 []))):=by kernel_rfl
theorem SD:built r (ascii "dnl") args= .ok {r with input:=(r.input.dropWhile fun c=>c != 10).drop 1}:=by kernel_rfl
theorem zC:built r (ascii "changequote") args= .ok {r with y:={r.y with open_:=if args.getD 0 []=[]/\args.getD 1 []=[]then [96]else args.getD 0 [],close:=if args.getD 0 []=[]/\args.getD 1 []=[]then [39]else if args.getD 1 []=[]then [39]else args.getD 1 []}}:=by kernel_rfl
theorem IX:built r (ascii "divert") args=match number (args.getD 0 [])with
 | .error e=>.error e
 | .ok z=>.ok {r with y:={r.y with to_:=if 9<z then-1 else z}}:=by kernel_rfl
theorem Ep:built r (ascii "undivert") args=if args=[[]]\/args=[]then undivertAll r ((c8 9).map fun k=>((k+1:Nat):Int))else match numbers args with
 | .error e=>.error e
 | .ok l=>undivertAll r l:=by kernel_rfl
end
theorem AV{r:R}(h:r.input.length<=65536):again r []= .ok r:=by
 unfold again PENDING;rw[if_neg (by simp;lia)];rfl
theorem sY{r:R}(h:asideSize r.y<=65536):setDefs r l=if 65536<keptSize l then .error 4 else .ok {r with y:={r.y with defs:=l}}:=by
 unfold setDefs checked KEPT ASIDE;have e:asideSize {r.y with defs:=l}=asideSize r.y:=rfl;rw[e]
 by_cases hk:65536<keptSize l
 ·rw[if_pos (.inl hk),if_pos hk]
 ·rw[if_neg (by rintro(q|q);exact hk q;lia),if_neg hk]
theorem E4(args:List B)(l:Defs):(l.filter fun x=> !(args.contains x.1))=args.foldl j7 l:=(AG args l).symm
def Sm(b:B):Prop:=∀c∈b,c<256
theorem sW(n:Nat):Sm (decimal n):=by
 intro c hc;unfold decimal at hc;obtain⟨d,hd,rfl⟩:=eh.mp hc
 have h:∀(b:Nat) (hb:b=10) (n:Nat),∀d∈agL b n,d.toNat<256:=by
  intro b hb n d hd;subst hb;have:=Nat.isDigit_of_mem_toDigits (by decide) (by decide) hd;simp only[Char.isDigit,bX,decide_eq_true_eq]at this;have h2:=this.2;have:d.toNat<=57:=h2;lia
 exact h 10 rfl n d hd
theorem yP(z:Int):Sm (text z):=by
 unfold text
 split
 ·intro c hc;obtain rfl|h:=a0.mp hc
  ·decide
  ·exact sW _ c h
 ·exact sW _
theorem qS(ha:Sm a)(hb:Sm b):Sm (a++b):=fun c hc=>(dW.mp hc).elim (ha c) (hb c)
theorem ng:Sm []:=fun c hc=>by cases hc
theorem Af{y:Sys}(ho:Sm y.open_)(hc:Sm y.close)(hb:Sm b):Sm (quoted y b):=qS ho (qS hb hc)
theorem Ag(h:∀t∈l,Sm t):Sm (joinedBy l):=by
 induction l with
 |nil=>exact ng
 |cons x l ih=>
  cases l with
  |nil=>exact h x aX
  |cons y l=>
   unfold joinedBy;refine qS (h x aX) fun c hc=> ?_;obtain rfl|hc:=a0.mp hc
   ·decide
   ·exact ih (fun t ht=>h t (aK _ ht)) c hc
theorem YV{l:List B}(h:∀t∈l,Sm t)(i:Nat):Sm (l.getD i []):=by
 rw[cK]
 cases e:l[i]? with
 |none=>exact ng
 |some t=>exact h t (bc e)
theorem QU{y:Sys}(ho:Sm y.open_)(hc:Sm y.close)(hn:Sm name)(ha:∀t∈args,Sm t):∀b:B,Sm b->Sm (filled y name args b):=by
 intro b
 have q:∀t∈args.map (quoted y),Sm t:=fun t ht=>by
  obtain⟨u,hu,rfl⟩:=eh.mp ht;exact Af ho hc (ha u hu)
 fun_induction filled y name args b with
 |case1=>exact fun _=>ng
 |case2 c=>exact fun h=>h
 |case3 r ih=>exact fun h=>qS hn (ih fun c hc=>h c (by simp[hc]))
 |case4 c r h1 h2 ih=>exact fun h=>qS (YV ha _) (ih fun c hc=>h c (by simp[hc]))
 |case5 r h1 h2 ih=>exact fun h=>qS (sW _) (ih fun c hc=>h c (by simp[hc]))
 |case6 r h1 h2 h3 ih=>exact fun h=>qS (Ag ha) (ih fun c hc=>h c (by simp[hc]))
 |case7 r h1 h2 h3 h4 ih=>exact fun h=>qS (Ag q) (ih fun c hc=>h c (by simp[hc]))
 |case8 c r h1 h2 h3 h4 h5 ih=>
  intro h x hx;obtain rfl|hx:=a0.mp hx
  ·decide
  ·exact ih (fun c hc=>h c (aK _ hc)) x hx
 |case9 c r h1 h2 ih=>
  intro h x hx;obtain rfl|hx:=a0.mp hx
  ·exact h _ aX
  ·exact ih (fun c hc=>h c (aK _ hc)) x hx
theorem Ae:∀(n:Nat) (b:B),Sm b->Sm (ranged n b)
 |0,b,h=>h
 |n+1,b,h=>by
  unfold ranged
  split
  ·rename_i a c r
   refine qS ?_ (Ae n (c::r) fun x hx=>h x (by
    obtain rfl|hx:=a0.mp hx
    ·simp
    ·simp[hx]))
   have ha:=h a (by simp);have hc:=h c (by simp)
   split
   ·intro x hx;obtain⟨i,hi,rfl⟩:=eh.mp hx;have:=hG.mp hi;omega
   ·intro x hx;obtain⟨i,hi,rfl⟩:=eh.mp hx;have:=hG.mp hi;lia
  ·rename_i a r _;intro x hx;obtain rfl|hx:=a0.mp hx
   ·exact h _ (by simp)
   ·exact Ae n r (fun c hc=>h c (aK _ hc)) x hx
  ·exact ng
theorem Fm(hs:Sm s)(hb:Sm b):Sm (translated s a b):=by
 intro x hx;unfold translated at hx;obtain⟨c,hc,hx⟩:=List.mem_flatMap.mp hx
 split at hx
 ·have:=jR.mp hx;rw[this];exact hs c hc
 ·split at hx
  ·rename_i e;have:=jR.mp hx;rw[this];exact hb _ (bc e)
  ·cases hx
mutual
theorem zu:∀(n lv:Nat) (b:B) (e:Nat),expr n lv b= .error e->e=2
 |0,lv,b,e,h=>by unfold expr at h;cases h;rfl
 |n+1,lv,b,e,h=>by
  unfold expr at h
  split at h
  ·exact rJ n b e h
  ·split at h
   ·rename_i e' he
    cases h
    exact zu n (lv+1) b e he
   ·exact DS n lv _ _ e h
theorem DS:∀(n lv:Nat) (x:Int) (b:B) (e:Nat),onward n lv x b= .error e->e=2
 |0,lv,x,b,e,h=>by unfold onward at h;cases h;rfl
 |n+1,lv,x,b,e,h=>by
  unfold onward at h;dsimp only at h
  split at h
  ·cases h
  ·split at h
   ·rename_i e' he
    cases h
    exact zu n (lv+1) _ e he
   ·split at h
    ·rename_i e' he
     cases h
     exact GQ he
    ·exact DS n lv _ _ e h
theorem rJ:∀(n:Nat) (b:B) (e:Nat),unary n b= .error e->e=2
 |0,b,e,h=>by unfold unary at h;cases h;rfl
 |n+1,b,e,h=>by
  have mp:∀{f:Int×B->Int×B} {a:E (Int×B)},a.map f= .error e->a= .error e:=by
   intro f a h
   cases a with
   |error e'=>cases h;rfl
   |ok y=>cases h
  unfold unary at h
  split at h
  ·exact rJ n _ e (mp h)
  ·exact rJ n _ e h
  ·exact rJ n _ e (mp h)
  ·exact rJ n _ e (mp h)
  ·split at h
   ·split at h
    ·cases h
    ·cases h;rfl
   ·rename_i e' he
    cases h
    exact zu n 0 _ e he
  ·split at h
   ·cases h
   ·cases h;rfl
  ·cases h;rfl
end
theorem W6(h:ke b= .error e):e=2:=by
 unfold ke at h
 split at h
 ·rename_i e' he
  cases h
  exact zu _ _ _ _ he
 ·split at h
  ·cases h
  ·cases h;rfl
theorem Ug(n:Nat):ow (n:Int)=Bv n:=by
 unfold ow;rw[if_neg (by lia)];rfl
theorem V6(s t:B):(jS s t).natAbs<=s.length+1:=by
 unfold jS
 cases h:(c8 (s.length+1)).find? fun i=>(s.drop i).take t.length==t with
 |none=>show (-1:Int).natAbs<=_;have:(-1:Int).natAbs=1:=rfl;lia
 |some i=>
  have:=hG.mp (iD h);show (i:Int).natAbs<=_;omega
theorem JG(z:Int):(ot z).natAbs<2^64:=by rw[kH];omega
end
section
structure vP(r:R):Prop where
 ou:r.out.length<=r.room
 kp:keptSize r.y.defs<=65536
 AU:asideSize r.y<=65536
 to_:r.y.to_<=9
def sR(r:R)(k:Nat):R:={r with y:={r.y with aside:=fun j=>if j=k then []else r.y.aside j}}
theorem uV(r:R)(hk:1<=k/\k<=9):asideSize (sR r k).y+(r.y.aside k).length=asideSize r.y:=by
 have:=l5 r.y (fun j=>if j=k then []else r.y.aside j) (k:=k) (b:=[]) hk (by rw[if_pos rfl]) (fun j hj=>by rw[if_neg hj]);exact this
theorem A9(hk:1<=k/\k<=9)(g:vP r):vP (sR r k):=⟨g.ou,g.kp,by have:=uV r hk;have:=g.AU;lia,g.to_⟩
theorem pD{r:R}{k:Nat}(hk:1<=k/\k<=9)(hn:(k:Int)≠r.y.to_):undiverted r (k:Int)=write (sR r k) (r.y.aside k):=by
 unfold undiverted;rw[if_neg (by lia)];rfl
theorem uR{r:R}(h:¬((1<=n/\n<=9)/\n≠r.y.to_)):undiverted r n= .ok r:=by
 unfold undiverted;rw[if_pos (by lia)]
theorem A5{r:R}{b:B}(g:vP r):(write r b= .error 4/\((r.y.to_=0/\r.room<r.out.length+b.length)\/(1<=r.y.to_/\65536<asideSize r.y+b.length)))\/
 ∃r',write r b= .ok r'/\vP r'/\r'.y.to_=r.y.to_/\r'.y.defs=r.y.defs/\r'.room=r.room/\r'.input=r.input/\r'.frames=r.frames/\r'.y.open_=r.y.open_/\r'.y.close=r.y.close/\(∀j:Nat,(j:Int)≠r.y.to_->r'.y.aside j=r.y.aside j)/\(r.y.to_=0->r'.out=r.out++b/\r.out.length+b.length<=r.room)/\(r.y.to_≠0->r'.out=r.out)/\(1<=r.y.to_->asideSize r'.y=asideSize r.y+b.length/\asideSize r.y+b.length<=65536)/\(¬1<=r.y.to_->r'.y=r.y):=by
 unfold write
 by_cases h1:r.y.to_<0
 ·rw[if_pos h1];exact .inr ⟨r,rfl,g,rfl,rfl,rfl,rfl,rfl,rfl,rfl,fun _ _=>rfl,fun e=>by lia,fun _=>rfl,fun e=>by lia,fun _=>rfl⟩
 ·rw[if_neg h1]
  by_cases h2:r.y.to_=0
  ·rw[if_pos h2]
   by_cases h3:r.room<r.out.length+b.length
   ·rw[if_pos h3];exact .inl ⟨rfl,.inl ⟨h2,h3⟩⟩
   ·rw[if_neg h3];exact .inr ⟨_,rfl,⟨by show (r.out++b).length<=r.room;rw[aF];lia,g.kp,g.AU,g.to_⟩,rfl,rfl,rfl,rfl,rfl,rfl,rfl,fun _ _=>rfl,fun _=>⟨rfl,by lia⟩,fun e=>absurd h2 e,fun e=>by lia,fun _=>rfl⟩
  ·rw[if_neg h2];obtain⟨k,hk⟩:∃k:Nat,(k:Int)=r.y.to_:=⟨r.y.to_.toNat,by lia⟩;have g9:=g.to_;have sz:=l5 r.y (fun j=>if (j:Int)=r.y.to_ then r.y.aside j++b else r.y.aside j) (k:=k) (b:=r.y.aside k++b) (by lia) (by rw[if_pos hk]) (fun j hj=>by rw[if_neg (by lia)]);rw[aF]at sz;have sz2:asideSize {r.y with aside:=fun j=>if (j:Int)=r.y.to_ then r.y.aside j++b else r.y.aside j}=asideSize r.y+b.length:=ye (sz.trans (by lia));have gk:=g.kp;unfold checked KEPT ASIDE;rw[sz2]
   by_cases h3:65536<asideSize r.y+b.length
   ·rw[if_pos (.inr h3)];exact .inl ⟨rfl,.inr ⟨by lia,h3⟩⟩
   ·rw[if_neg (by rintro(q|q);exact absurd q (AX.mpr gk);exact h3 q)];refine .inr ⟨_,rfl,⟨g.ou,g.kp,by show asideSize {r.y with aside:=_}<=_;rw[sz2];lia,g.to_⟩,rfl,rfl,rfl,rfl,rfl,rfl,rfl,fun j hj=> ?_,fun e=>absurd e h2,fun _=>rfl,fun _=>⟨sz2,by lia⟩,fun e=>by lia⟩;show (if (j:Int)=r.y.to_ then _ else _)=_;rw[if_neg hj]
theorem z0{r:R}(g:vP r)(hk:1<=k/\k<=9)(he:r.y.aside k=[]):undiverted r (k:Int)= .ok r:=by
 by_cases hn:(k:Int)=r.y.to_
 ·exact uR (by lia)
 ·rw[pD hk hn,he]
  have ee:sR r k=r:=by
   unfold sR
   have:(fun j=>if j=k then []else r.y.aside j)=r.y.aside:=by
    funext j
    by_cases h:j=k
    ·subst h;rw[if_pos rfl,he]
    ·rw[if_neg h]
   rw[this]
  rw[ee];have go:=g.ou;have ga:=g.AU;have gk:=g.kp;unfold write
  by_cases h1:r.y.to_<0
  ·rw[if_pos h1]
  ·rw[if_neg h1]
   by_cases h2:r.y.to_=0
   ·rw[if_pos h2,if_neg (by simp;lia)];simp
   ·rw[if_neg h2]
    have e:(fun j:Nat=>if (j:Int)=r.y.to_ then r.y.aside j++[]else r.y.aside j)=r.y.aside:=by
     funext j
     split<;>simp
    rw[e];unfold checked KEPT ASIDE;rw[if_neg (by rintro(q|q);exact absurd q (AX.mpr gk);exact absurd q (AX.mpr ga))]
theorem oA{r:R}{k:Nat}(g:vP r)(hk:1<=k/\k<=9)(hn:(k:Int)≠r.y.to_):(undiverted r (k:Int)= .error 4/\r.y.to_=0/\r.room<r.out.length+(r.y.aside k).length)\/
 ∃r',undiverted r (k:Int)= .ok r'/\vP r'/\r'.y.to_=r.y.to_/\r'.room=r.room/\r'.y.aside k=[]/\(∀j:Nat,j≠k->(j:Int)≠r.y.to_->r'.y.aside j=r.y.aside j)/\(r.y.to_=0->r'.out=r.out++r.y.aside k/\r.out.length+(r.y.aside k).length<=r.room):=by
 rw[pD hk hn];have sz:=uV r hk;have ga:=g.AU;obtain⟨h1,h2⟩|⟨r',h1,h2,h3,h4,h5,h6,h7,h8,h9,h10,h11,h12,h13,h14⟩:=A5 (b:=r.y.aside k) (A9 hk g)
 ·obtain h2|h2:=h2
  ·exact .inl ⟨h1,h2⟩
  ·omega
 ·refine .inr ⟨r',h1,h2,h3,h5,?_,fun j hj hj2=> ?_,h11⟩
  ·rw[h10 k hn];exact if_pos rfl
  ·rw[h10 j hj2];exact if_neg hj
def bk(to_:Int):List Int->List Int->List Int
 |_,[]=>[]
 |l,n::ns=>if ((1<=n/\n<=9)/\n≠to_)/\n∉l then n::bk to_ (l++[n]) ns else bk to_ l ns
theorem qv:∀(ns l:List Int) (r:R),vP r->(∀m∈l,(1<=m/\m<=9)/\m≠r.y.to_)->(∀m:Nat,(m:Int)∈l->r.y.aside m=[])->undivertAll r ns=undivertAll r (bk r.y.to_ l ns)
 |[],l,r,_,_,_=>rfl
 |n::ns,l,r,g,hl,he=>by
  by_cases h:(1<=n/\n<=9)/\n≠r.y.to_
  ·obtain⟨k,rfl⟩:∃k:Nat,n=(k:Int):=⟨n.toNat,by lia⟩;have hk:1<=k/\k<=9:=by omega
   by_cases hm:(k:Int)∈l
   ·have e:bk r.y.to_ l ((k:Int)::ns)=bk r.y.to_ l ns:=by
     conv=>lhs;unfold bk
     rw[if_neg (fun q=>q.2 hm)]
    rw[e]
    conv=>lhs;unfold undivertAll
    rw[z0 g hk (he k hm)];exact qv ns l r g hl he
   ·have e:bk r.y.to_ l ((k:Int)::ns)=(k:Int)::bk r.y.to_ (l++[(k:Int)]) ns:=by
     conv=>lhs;unfold bk
     rw[if_pos ⟨h,hm⟩]
    rw[e]
    conv=>lhs;unfold undivertAll
    conv=>rhs;unfold undivertAll
    obtain⟨h1,_⟩|⟨r',h1,h2,h3,h4,h5,h6,h7⟩:=oA g hk h.2
    ·rw[h1]
    ·rw[h1];dsimp only
     have ih:=qv ns (l++[(k:Int)]) r' h2 (fun m hm=>by
      rw[h3];obtain q|q:=dW.mp hm
      ·exact hl m q
      ·have:m=(k:Int):=by simpa using q
       rw[this];exact h) (fun m hm=>by
      by_cases e:m=k
      ·subst e;exact h5
      ·obtain q|q:=dW.mp hm
       ·rw[h6 m e (hl _ q).2];exact he m q
       ·have:(m:Int)=(k:Int):=by simpa using q
        exact absurd (by lia) e)
     rw[h3]at ih;exact ih
  ·have e:bk r.y.to_ l (n::ns)=bk r.y.to_ l ns:=by
    conv=>lhs;unfold bk
    rw[if_neg (fun q=>h q.1)]
   rw[e]
   conv=>lhs;unfold undivertAll
   rw[uR h];exact qv ns l r g hl he
def vJ(y:Sys)(l:List Int):Nat:=(l.map fun n=>(y.aside n.toNat).length).sum
theorem AS(y:Sys)(n:Int)(l:List Int):vJ y (n::l)=(y.aside n.toNat).length+vJ y l:=rfl
theorem GP{y y':Sys}(h:∀n∈l,y'.aside n.toNat=y.aside n.toNat):vJ y' l=vJ y l:=by
 unfold vJ
 congr 1
 exact lG fun n hn=>by rw[h n hn]
theorem yt:∀(l:List Int) (r:R),vP r->r.y.to_=0->l.Nodup->(∀n∈l,1<=n/\n<=9)->r.room<r.out.length+vJ r.y l->undivertAll r l= .error 4
 |[],r,g,_,_,_,h=>by
  have:=g.ou;have e:vJ r.y []=0:=rfl;lia
 |n::l,r,g,h0,hd,hl,h=>by
  obtain⟨k,rfl⟩:∃k:Nat,n=(k:Int):=⟨n.toNat,by have:=hl n aX;lia⟩;have hk:1<=k/\k<=9:=by have:=hl _ aX;lia
  unfold undivertAll;rw[AS]at h;rw[fe]at hd;obtain⟨h1,_⟩|⟨r',h1,h2,h3,h4,h5,h6,h7⟩:=oA g hk (by lia)
  ·rw[h1]
  ·rw[h1];dsimp only;obtain⟨e1,e2⟩:=h7 h0;refine yt l r' h2 (h3.trans h0) hd.2 (fun n hn=>hl n (aK _ hn)) ?_
   have es:vJ r'.y l=vJ r.y l:=GP fun n hn=>h6 _ (fun e=>hd.1 (by
    have:=hl n (aK _ hn);rw[show (k:Int)=n by lia];exact hn)) (by have:=hl n (aK _ hn);lia)
   rw[es,e1,h4,aF];have:((k:Int).toNat)=k:=by lia
   rw[this]at h;lia
end
section
def ie(f:Frame):Nat:=f.name.length+sizeOf_ f.d+f.now.length+(f.args.map cS).sum
theorem JL(l:List B)(k:Nat):l.foldl (fun k a=>k+a.length) k=k+(l.map cS).sum:=by
 induction l generalizing k with
 |nil=>rfl
 |cons a l ih=>rw[dX,ih,a4,gp];lia
theorem NW(l:List Frame)(k:Nat):l.foldl (fun n f=>n+f.name.length+sizeOf_ f.d+f.now.length+f.args.foldl (fun k a=>k+a.length) 0) k=k+held l:=by
 unfold held
 induction l generalizing k with
 |nil=>rfl
 |cons f l ih=>rw[dX,dX,ih,ih (0+_+_+_+_)];lia
theorem hZ(f:Frame)(l:List Frame):held (f::l)=ie f+held l:=by
 conv=>lhs;unfold held
 rw[dX,NW,JL];unfold ie;lia
structure md(y:Sys):Prop where
 dt:∀x∈y.defs,∀b,x.2= .text b->Sm b
 db:∀x∈y.defs,∀k,x.2= .built k->k∈builtNames
 AU:asideSize y<=65536
 to_:y.to_<=9
 so:Sm y.open_
 lo:y.open_.length<=65536
 sc:Sm y.close
 lc:y.close.length<=65536
 cn:y.close≠[]
structure ag9(f:Frame):Prop where
 nm:Sm f.name
 dt:∀b,f.d= .text b->Sm b
 db:∀k,f.d= .built k->k∈builtNames
 ar:∀a∈f.args,Sm a
 nw:Sm f.now
 len:f.args.length<=1024
structure Good(r:R):Prop where
 y:md r.y
 fr:∀f∈r.frames,ag9 f
 hd:held r.frames<=65536
 dp:r.frames.length<=256
 ou:r.out.length<=r.room
 rm:r.room<=65536
theorem Ec:md first:=by
 refine⟨fun x hx b e=> ?_,fun x hx k e=> ?_,by decide,by decide,by unfold first Sm;decide,by decide,by unfold first Sm;decide,by decide,by decide⟩
 ·obtain⟨c,hc,rfl⟩:=eh.mp hx;cases e
 ·obtain⟨c,hc,rfl⟩:=eh.mp hx;cases e;exact hc
theorem Good.u{r:R}(g:Good r)(hk:keptSize r.y.defs<=65536):vP r:=⟨g.ou,hk,g.y.AU,g.y.to_⟩
theorem Eb{r r':R}(g:Good r)(hk:keptSize r.y.defs<=65536)(h:write r b= .ok r'):Good r':=by
 obtain⟨h1,_⟩|⟨r1,h1,h2,h3,h4,h5,h6,h7,h8,h9,h10,h11,h12,h13,h14⟩:=A5 (b:=b) (g.u hk)
 ·rw[h]at h1;cases h1
 ·rw[h]at h1;cases h1;exact⟨⟨by rw[h4];exact g.y.dt,by rw[h4];exact g.y.db,h2.AU,h2.to_,by rw[h8];exact g.y.so,by rw[h8];exact g.y.lo,by rw[h9];exact g.y.sc,by rw[h9];exact g.y.lc,by rw[h9];exact g.y.cn⟩,by rw[h7];exact g.fr,by rw[h7];exact g.hd,by rw[h7];exact g.dp,h2.ou,by rw[h5];exact g.rm⟩
theorem vZ{y:Sys}{defs:Defs}(g:md y)(h:∀x∈defs,x∈y.defs\/∃b,x.2= .text b/\Sm b):md {y with defs:=defs}:=
 ⟨fun x hx b e=>(h x hx).elim (fun q=>g.dt x q b e) (fun⟨c,e2,q⟩=>by rw[e2]at e;cases e;exact q),
  fun x hx k e=>(h x hx).elim (fun q=>g.db x q k e) (fun⟨c,e2,q⟩=>by rw[e2]at e;cases e),g.AU,g.to_,g.so,g.lo,g.sc,g.lc,g.cn⟩
theorem HM{b:B}{d:Def}{l:Defs}{x:B×Def}(h:x∈replaced b d l):x∈l\/x.2=d:=by
 induction l with
 |nil=>have:=jR.mp h;subst this;exact .inr rfl
 |cons z l ih=>
  unfold replaced at h
  split at h
  ·obtain rfl|h:=a0.mp h
   ·exact .inr rfl
   ·exact .inl (aK _ h)
  ·obtain rfl|h:=a0.mp h
   ·exact .inl aX
   ·exact(ih h).imp (aK _) id
theorem KS{b:B}{l:Defs}{x:B×Def}(h:x∈without l b):x∈l:=by
 induction l with
 |nil=>exact h
 |cons z l ih=>
  unfold without at h
  split at h
  ·exact aK _ h
  ·obtain rfl|h:=a0.mp h
   ·exact aX
   ·exact aK _ (ih h)
theorem HL{as:List B}{l:Defs}{x:B×Def}(h:x∈as.foldl without l):x∈l:=by
 induction as generalizing l with
 |nil=>exact h
 |cons a as ih=>exact KS (ih h)
theorem Rv{as:List B}(h:x∈as.foldl j7 l):x∈l:=by
 rw[AG]at h;exact(mf.mp h).1
theorem Lj{y:Sys}(h:find y n=some d):∃x∈y.defs,x.2=d:=by
 unfold find at h;obtain⟨x,hx,e⟩:=jH.mp h;exact⟨x,iD hx,e⟩
theorem K0{l:Defs}{x:B×Def}(h:x∈l):wt x<=keptSize l:=by
 induction l with
 |nil=>cases h
 |cons z l ih=>
  rw[kept_cons];obtain rfl|h:=a0.mp h
  ·lia
  ·have:=ih h;lia
theorem Sa{r r':R}{b:B}{f:Frame}(g:Good r)(hf:r.frames=f::l)(hb:Sm b)(h:come r b= .ok r'):held (f::l)+b.length<=65536/\r'={r with frames:={f with now:=f.now++b,begun:=true}::l}/\Good r':=by
 unfold come PENDING at h;rw[hf]at h;dsimp only at h
 split at h
 ·cases h
 ·rename_i hn
  cases h
  have gf:=g.fr f (by rw[hf];exact aX);refine⟨by lia,rfl,g.y,fun x hx=> ?_,?_,?_,g.ou,g.rm⟩
  ·obtain rfl|hx:=a0.mp hx
   ·exact⟨gf.nm,gf.dt,gf.db,gf.ar,qS gf.nw hb,gf.len⟩
   ·exact g.fr x (by rw[hf];exact aK _ hx)
  ·show held ({f with now:=f.now++b,begun:=true}::l)<=65536;rw[hZ]at hn⊢;unfold ie at hn⊢;dsimp only;rw[aF];lia
  ·have:=g.dp;rw[hf]at this;exact this
theorem T3{r:R}{b:B}(g:vP r):write r b=if r.y.to_<0 then .ok r else if r.y.to_=0 then(if r.room<r.out.length+b.length then .error 4 else .ok {r with out:=r.out++b})else if 65536<asideSize r.y+b.length then .error 4 else .ok {r with y:={r.y with aside:=fun k=>if (k:Int)=r.y.to_ then r.y.aside k++b else r.y.aside k}}:=by
 unfold write
 by_cases h1:r.y.to_<0
 ·rw[if_pos h1,if_pos h1]
 ·rw[if_neg h1,if_neg h1]
  by_cases h2:r.y.to_=0
  ·rw[if_pos h2,if_pos h2]
  ·rw[if_neg h2,if_neg h2];obtain⟨k,hk⟩:∃k:Nat,(k:Int)=r.y.to_:=⟨r.y.to_.toNat,by lia⟩;have g9:=g.to_;have sz:=l5 r.y (fun j=>if (j:Int)=r.y.to_ then r.y.aside j++b else r.y.aside j) (k:=k) (b:=r.y.aside k++b) (by lia) (by rw[if_pos hk]) (fun j hj=>by rw[if_neg (by lia)]);rw[aF]at sz;have sz2:asideSize {r.y with aside:=fun j=>if (j:Int)=r.y.to_ then r.y.aside j++b else r.y.aside j}=asideSize r.y+b.length:=ye (sz.trans (by lia));have gk:=g.kp;unfold checked KEPT ASIDE;rw[sz2]
   by_cases h3:65536<asideSize r.y+b.length
   ·rw[if_pos (.inr h3),if_pos h3]
   ·rw[if_neg (by rintro(q|q);exact absurd q (AX.mpr gk);exact h3 q),if_neg h3]
end
section
def cO(r:R)(c:Nat):E R:=match r.frames with
 |[]=>come r [c]
 |f::l=>
  if c=40 then come {r with frames:={f with deep:=f.deep+1}::l} [c]
  else if c=41 then(if f.deep=0 then done {r with frames:=l} f.name f.d (f.args++[f.now])else come {r with frames:={f with deep:=f.deep- 1}::l} [c])
  else if c=44/\f.deep=0 then(if 1024<=f.args.length then .error 4 else .ok {r with frames:={f with args:=f.args++[f.now],now:=[],begun:=false}::l})
  else if blank c=true/\f.begun=false then .ok r
  else come r [c]
def KO(d:Def):Bool:=match d with
 | .built k=> !(bare.contains k)
 | .text _=>false
def mC(r:R):E R:=match find r.y (r.input.takeWhile isWord)with
 |none=>come {r with input:=r.input.dropWhile isWord} (r.input.takeWhile isWord)
 |some d=>match r.input.dropWhile isWord with
  |40::u=>if 256<=r.frames.length\/65536<held r.frames+(r.input.takeWhile isWord).length+sizeOf_ d then .error 4 else .ok {r with input:=u,frames:=⟨r.input.takeWhile isWord,d,[],[],0,false⟩::r.frames}
  |_=>if KO d=true then come {r with input:=r.input.dropWhile isWord} (r.input.takeWhile isWord)else done {r with input:=r.input.dropWhile isWord} (r.input.takeWhile isWord) d []
def Bf(r:R)(wd sd:B):E R:=match find r.y wd with
 |none=>come {r with input:=sd} wd
 |some d=>match sd with
  |40::u=>if 256<=r.frames.length\/65536<held r.frames+wd.length+sizeOf_ d then .error 4 else .ok {r with input:=u,frames:=⟨wd,d,[],[],0,false⟩::r.frames}
  |_=>if KO d=true then come {r with input:=sd} wd else done {r with input:=sd} wd d []
theorem Rn(r:R):mC r=Bf r (r.input.takeWhile isWord) (r.input.dropWhile isWord):=rfl
theorem Nz{r:R}(h:find r.y wd=none):Bf r wd sd=come {r with input:=sd} wd:=by unfold Bf;rw[h]
theorem VP{r:R}{wd u:B}(h:find r.y wd=some d):Bf r wd (40::u)=if 256<=r.frames.length\/65536<held r.frames+wd.length+sizeOf_ d then .error 4 else .ok {r with input:=u,frames:=⟨wd,d,[],[],0,false⟩::r.frames}:=by
 unfold Bf;rw[h];rfl
theorem KP{r:R}{wd sd:B}(h:find r.y wd=some d)(hs:sd.head?≠some 40):Bf r wd sd=if KO d=true then come {r with input:=sd} wd else done {r with input:=sd} wd d []:=by
 unfold Bf;rw[h];dsimp only
 split
 ·exact absurd rfl hs
 ·rfl
theorem QI{r:R}(h:yp r.y.open_ r.input):token r=match qt r.y 0 (r.input.drop r.y.open_.length)with
 |none=>.error 1
 |some q=>come {r with input:=q.2} q.1:=by
 unfold token;dsimp only;rw[if_pos (show r.y.open_≠[]/\_ from h),yQ r.y (by have:=h.lt;lia)]
 cases qt r.y 0 (r.input.drop r.y.open_.length)with
 |none=>rfl
 |some q=>rfl
theorem Ud{r:R}{s:B}(h:¬yp r.y.open_ r.input)(hi:r.input=35::s):token r=come {r with input:=r.input.drop ((r.input.takeWhile fun x=>x != 10).length+((r.input.dropWhile fun x=>x != 10).take 1).length)} ((r.input.takeWhile fun x=>x != 10)++(r.input.dropWhile fun x=>x != 10).take 1):=by
 unfold token;dsimp only;rw[if_neg (show ¬(r.y.open_≠[]/\_) from h)];rw[hi];dsimp only;rw[if_pos rfl]
theorem Uc{r:R}{c:Nat}{s:B}(h:¬yp r.y.open_ r.input)(hi:r.input=c::s)(h1:c≠35)(h2:isLetter c=true):token r=mC r:=by
 unfold token;dsimp only;rw[if_neg (show ¬(r.y.open_≠[]/\_) from h)];unfold mC;rw[hi];dsimp only;rw[if_neg h1,if_pos h2];rfl
theorem Ue{r:R}{c:Nat}{s:B}(h:¬yp r.y.open_ r.input)(hi:r.input=c::s)(h1:c≠35)(h2:isLetter c=false):token r=cO {r with input:=s} c:=by
 unfold token;dsimp only;rw[if_neg (show ¬(r.y.open_≠[]/\_) from h)];rw[hi];dsimp only;rw[if_neg h1,if_neg (by rw[h2];decide)];unfold cO;dsimp only
 cases r.frames with
 |nil=>rfl
 |cons f l=>rfl
theorem zG{r:R}{b:B}(h:n+r.input.length=65536):again r b=if n<b.length then .error 4 else .ok {r with input:=b++r.input}:=by
 unfold again PENDING
 by_cases hb:n<b.length
 ·rw[if_pos (by lia),if_pos hb]
 ·rw[if_neg (by lia),if_neg hb]
theorem UQ{r:R}(h:r.input≠[]):run (n+1) r=match token r with
 | .error e=>(e,{r with steps:=n})
 | .ok r=>run n {r with steps:=n}:=by
 conv=>lhs;unfold run
 rw[if_neg h];rfl
theorem UR{r:R}(h:r.input≠[]):run 0 r=(3,r):=by
 unfold run;rw[if_neg (fun q=>h q.1),if_neg h]
theorem Y4{r:R}(h:r.input=[]):run n r=if r.frames=[]then(0,r)else(1,r):=by
 cases n with
 |zero=>
  unfold run
  by_cases hf:r.frames=[]
  ·rw[if_pos ⟨h,hf⟩,if_pos hf]
  ·rw[if_neg (fun q=>hf q.2),if_pos h,if_neg hf]
 |succ n=>
  unfold run;rw[if_pos h]
end
section
theorem Kk(h:d7 p=some q):(p=0/\q=(0,0))\/(p=1/\q=(2,1))\/(p=2/\q=(2,0)):=by
 unfold d7 at h
 by_cases h0:p=0
 ·rw[if_pos h0]at h;cases h;exact .inl ⟨h0,rfl⟩
 ·rw[if_neg h0]at h
  by_cases h1:p=1
  ·rw[if_pos h1]at h;cases h;exact .inr (.inl ⟨h1,rfl⟩)
  ·rw[if_neg h1]at h
   by_cases h2:p=2
   ·rw[if_pos h2]at h;cases h;exact .inr (.inr ⟨h2,rfl⟩)
   ·rw[if_neg h2]at h;cases h
theorem two{r:List Int}(h:¬r.length<2):∃b m t,r=b::m::t:=by
 obtain _|⟨b,_|⟨m,t⟩⟩:=r
 ·exact absurd (by decide) h
 ·exact absurd (g7 1) h
 ·exact⟨b,m,t,rfl⟩
theorem US(h:EV r=some (x,s)):∃n t,r=n::t/\0<=n/\n.toNat<=t.length/\x=t.take n.toNat/\s=t.drop n.toNat:=by
 cases r with
 |nil=>cases h
 |cons n t=>
  by_cases hn:0<=n/\n.toNat<=t.length
  ·cases (if_pos hn).symm.trans h;exact⟨n,t,rfl,hn.1,hn.2,rfl,rfl⟩
  ·cases (if_neg hn).symm.trans h
theorem Sy{r t:List Int}(hs:d7 p=some (n,k))(h:rq d7 (p::r)=some (c,t)):¬r.length<n/\∃xs,we k (r.drop n)=some (xs,t)/\c=(p::r.take n)::xs:=by
 unfold rq at h;dsimp only at h;rw[hs]at h;dsimp only at h
 by_cases hl:r.length<n
 ·rw[if_pos hl]at h;cases h
 ·rw[if_neg hl]at h;exists hl
  cases hr:we k (r.drop n)with
  |none=>rw[hr]at h;cases h
  |some x=>rw[hr]at h;cases h;exact⟨_,rfl,rfl⟩
theorem Eo(h:rq d7 l=some (c,t)):(l=0::t/\c=[[0]])\/(∃b m n r',l=1::b::m::n::r'/\0<=n/\n.toNat<=r'.length/\c=[[1,b,m],r'.take n.toNat]/\t=r'.drop n.toNat)\/(∃b m,l=2::b::m::t/\c=[[2,b,m]]):=by
 have key:∃p r n k xs,l=p::r/\d7 p=some (n,k)/\¬r.length<n/\we k (r.drop n)=some (xs,t)/\c=(p::r.take n)::xs:=by
  cases l with
  |nil=>cases h
  |cons p r=>
   cases hs:d7 p with
   |none=>unfold rq at h;dsimp only at h;rw[hs]at h;cases h
   |some q=>obtain⟨hl,xs,hr,e⟩:=Sy hs h;exact⟨p,r,_,_,xs,rfl,hs,hl,hr,e⟩
 clear h;obtain⟨p,r,n,k,xs,el,hs,hl,hr,ec⟩:=key;obtain⟨ep,e⟩|⟨ep,e⟩|⟨ep,e⟩:=Kk hs<;>clear hs
 ·refine .inl ?_
  cases e;cases hr;rw[el,ec,ep];exact⟨rfl,rfl⟩
 ·refine .inr (.inl ?_)
  cases e
  obtain⟨b,m,r,rfl⟩:=two hl;clear hl;rw[el,ec,ep];clear el ec ep
  cases hq:EV r with
  |none=>unfold we at hr;rw[show EV (LV 2 (b::m::r))=none from hq]at hr;cases hr
  |some y=>
   obtain⟨n,r',rfl,h1,h2,ex,es⟩:=US (x:=y.1) (s:=y.2) hq;unfold we at hr;rw[show EV (LV 2 (b::m::n::r'))=some y from hq]at hr
   cases hr
   exact⟨b,m,n,r',rfl,h1,h2,by rw[ex];rfl,es⟩
 ·refine .inr (.inr ?_)
  cases e
  obtain⟨b,m,r,rfl⟩:=two hl
  cases hr;rw[el,ec,ep]
  exact⟨b,m,rfl,rfl⟩
theorem T6(h:rq d7 l=some (c,t)):abE c=c:=by
 obtain⟨_,rfl⟩|⟨b,m,n,r,_,_,_,rfl,_⟩|⟨b,m,_,rfl⟩:=Eo h<;>rfl
theorem Em(h:kT d7 f (p::r)=some cs):∃f' c t cs',f=f'+1/\rq d7 (p::r)=some (c,t)/\kT d7 f' t=some cs'/\cs=c::cs':=by
 cases f with
 |zero=>cases h
 |succ f'=>
  unfold kT at h
  split at h
  ·cases h
  ·rename_i c t he
   split at h
   ·cases h
   ·rename_i cs' he2
    cases h
    exact⟨f',c,t,cs',rfl,he,he2,rfl⟩
theorem Qz:∀{l:List Int} {cs:List (List (List Int))},kT d7 f l=some cs->cs.map abE=cs:=by
 induction f with
 |zero=>intro l cs h;cases l<;>cases h;rfl
 |succ f ih=>
  intro l cs h
  cases l with
  |nil=>cases h;rfl
  |cons p r=>
   obtain⟨f',c,t,cs',e,h1,h2,rfl⟩:=Em h
   cases e
   rw[a4,T6 h1,ih h2]
theorem Sx:kT d7 f []=some []:=by
 cases f<;>rfl
def HQ(y:Sys)(cs:List (List (List Int))):Nat:=(oo (lF cU y cs)).length
theorem F7(a:List Int)(l:List (List Int)):oo (a::l)=((a.length:Int)::a)++oo l:=rfl
theorem zk:∀(cs:List (List (List Int))) (y:Sys),HQ y cs=cs.length+wD y cs
 |[],_=>rfl
 |c::cs,y=>by
  unfold HQ lF;rw[F7,aF,au];have ih:=zk cs (cU y c).1;unfold HQ at ih;rw[ih,au]
  conv=>rhs;unfold wD
  dsimp only;lia
theorem UH(y:Sys)(b m:Int)(a:List Int):cU y [[1,b,m],a]=let q:=run b.toNat ⟨y,a.map Mp,[],[],m.toNat,b.toNat⟩
 (q.2.y,[(q.1:Int),(q.2.out.length:Int),((b.toNat- q.2.steps:Nat):Int)]++q.2.out.map fun(n:Nat)=>(n:Int)):=rfl
theorem MS(y:Sys)(k m:Int):cU y [[2,k,m]]=if k<1\/9<k then(y,[-2])else({y with aside:=fun j=>if j=k.toNat then(y.aside j).drop m.toNat else y.aside j},(((y.aside k.toNat).take m.toNat).length:Int)::((y.aside k.toNat).take m.toNat).map fun(n:Nat)=>(n:Int)):=by
 have e:cU y [[2,k,m]]=(fun r:Ans×Sys=>(r.2,r.1.value::(Ra32Neutral.ints r.1.told++Ra32Neutral.ints r.1.out))) (spec y (.aside k m.toNat)):=rfl;rw[e];unfold spec;dsimp only
 by_cases h:k<1\/9<k
 ·rw[if_pos h,if_pos h];rfl
 ·rw[if_neg h,if_neg h];rfl
end
end TM
namespace L2
open PySem PySem.Spec PyProof.Rows
section
inductive jF(P:bD)(w:cP)(aH:List Env)(H:Hp)(s:az)(E:XK)(e:ax)(s':az):Prop
 |mk (a t:ao) (cls:ax) (H':Hp) (B:dg) (_:e= .ref a) (_:s'.os=s.os) (_:uE s'.gens) (_:Un (mG aH) [] H H' s.heap s'.heap) (_:vO P w H' s'.heap) (_:lh B aH a cls (.ref t) s'.heap) (_:∀b u,H' b=some u->∃o,B.get? b=some o) (_:∀b o,s.heap.get? b=some o->b∉mG aH->∃o',B.get? b=some o') (_:E cls none H')
theorem zA{h0 h h' B:dg}(u:Un fs [] H H' h0 h)(fW:vO P w H' h)(k:B.StaysIn h)(k':B.StaysIn h')(up:h.UpToSlots h')
 (tr:∀b v,H' b=some v->∃o,B.get? b=some o) (old:∀b o,h0.get? b=some o->b∉fs->∃o',B.get? b=some o')
 (fr:∀b∈fs,∃o,h.get? b=some o/\∀vs,o.data≠.fields vs):Un fs [] H H' h0 h'/\vO P w H' h':=by
 have mv:∀b o ob,B.get? b=some ob->h.get? b=some o->h'.get? b=some o:=fun b o ob e1 e2=>by
  have e3:=k b ob e1;rw[e2]at e3;rw[bo e3];exact k' b ob e1
 refine⟨⟨fun b o q n hb hx=> ?_,fun b o q n hb hx=> ?_,u.free,fun b o q hx=> ?_,u.yu,u.xX,u.yy⟩,fun a o e=> ?_⟩
 ·obtain⟨ob,e1⟩:=old b o q hb;exact mv b o ob e1 (u.keep b o q n hb hx)
 ·obtain⟨sl,e1⟩:=u.slot b o q n hb hx;obtain⟨o2,e2,nf⟩:=fr b hb;rw[e1]at e2
  cases e2
  obtain⟨sl2,e3⟩:=up b _ e1 nf;exact⟨sl2,e3⟩
 ·by_cases hb:b∈fs
  ·obtain⟨o2,e2,nf⟩:=fr b hb;obtain⟨sl2,e3⟩:=up b _ e2 nf;exact⟨_,e3⟩
  ·obtain⟨ob,e1⟩:=old b o q hb;exact⟨ob,k' b ob e1⟩
 ·refine(fW a o e).J1 (fun b v hb q=> ?_) (fun _ z=>z) fun _ _ z=>z;obtain rfl|hb:=hb
  ·obtain⟨ob,e1⟩:=tr _ _ e;exact mv _ _ ob e1 q
  ·obtain⟨ob,e1⟩:=tr _ _ hb;exact mv _ _ ob e1 q
theorem VJ{h:dg}:∀{o:HO},iw P w H h a o->∃ob,h.get? a=some ob:=by
 intro o x
 cases o with
 |lst _=>obtain⟨_,_,_,_,e⟩:=x;exact⟨_,e⟩
 |tup _=>obtain⟨_,_,_,ob,e,_⟩:=x;exact⟨ob,e⟩
 |dK _=>obtain⟨_,_,_,_,o,_,_,e,_⟩:=x;exact⟨o,e⟩
 |dT _=>obtain⟨_,_,_,_,o,_,_,e,_⟩:=x;exact⟨o,e⟩
 |set _ _=>obtain⟨o,_,_,_,e,_⟩:=x;exact⟨o,e⟩
 |ins _ _ _=>obtain⟨_,_,_,e,_⟩:=x;exact⟨_,e⟩
 |own _=>exact x
 |xd _=>obtain⟨_,⟨o,_,_,e,_⟩,_⟩:=x;exact⟨o,e⟩
 |rng _ _=>obtain⟨_,_,_,e⟩:=x;exact⟨_,e⟩
 |PX o _=>exact⟨o,x.1⟩
 |tbl _=>exact⟨_,x⟩
 |met _ _=>exact⟨_,x⟩
 |ext _=>exact x.2.1
theorem ID{h B:dg}(hl:h.FunFrames B (env::aH)):∀b∈mG aH,∃o,h.get? b=some o/\∀vs,o.data≠.fields vs:=fun b hb=>
 (hl.2.2.mem hb).2
section
variable{P:bD}{w:cP}{K:aA}{mg:Str->Option ax}{ag:dg}{N:List Str}{aG:Str}{af:ia}{f:ao}{cd:ax}{A:cN}{aH:List Env}{s:az}{H:Hp}{E:XK}
theorem VA{ae:List (ao×Obj)}{Z:St}{H1:Hp}{s1:az}{B:dg}(I:Inv (iJ (jF P w) P w K mg ag N aG af f cd A aH s H E) ae Z H1 s1)
 (old:∀b o,s1.heap.get? b=some o->b∉mG (envOfC aG af s.heap.objs.size f cd::aH)->∃o',B.get? b=some o'):∀b o,s.heap.get? b=some o->b∉mG aH->∃o',B.get? b=some o':=fun b o e hb=>by
 obtain⟨o1,e1⟩:=I.base.there b o e (by show b∉([]:List ao);simp);refine old b o1 e1 fun hm=> ?_;obtain q|q:=a0.mp (I.C6 b hm)
 ·have q:b=s.heap.objs.size:=q;exact absurd (bz e) (by rw[q];exact fc _)
 ·exact hb q
theorem dC:lV (jF P w) (iJ (jF P w) P w K mg ag N aG af f cd A aH s H E) E:=by
 intro ae Z H1 s1 e s2 I hx;obtain⟨a,t,cls,H',B,rfl,os,bare,un,fW,fl,tr,old,q⟩:=hx;have I2:=I.GH (ch:=[]) os un fW bare (fun b z=>absurd z (by simp));show a7 (bf P w) (A.deeper (envOfC aG af s.heap.objs.size f cd)) (XC (envOfC aG af s.heap.objs.size f cd) (.ref a)) _ _ s2;refine wpAny_leaves_onW (L:=s.heap.objs.size) I.ok.frames rfl fl fun h' fl' up=> ?_;have o2:=VA I old;obtain⟨m1,m2⟩:=zA I2.base I2.fW fl.1 fl'.1 up tr o2 (ID fl.2.2.1);exact⟨a,t,cls,H',B,rfl,I2.os,bare,m1,m2,fl',tr,o2,q⟩
theorem abM{ae:List (ao×Obj)}{Z:St}{H1:Hp}{s1:az}{e:ao}{cls:ax}{vs:List ax}{h1:dg}{tk:Nat}(I:Inv (iJ (jF P w) P w K mg ag N aG af f cd A aH s H E) ae Z H1 s1)
 (hx:qP s1.heap h1 e cls vs) (q:E cls none H1):(iJ (jF P w) P w K mg ag N aG af f cd A aH s H E).xe (.ref e) {s1 with heap:=h1,toks:=tk}:=by
 show a7 (bf P w) (A.deeper (envOfC aG af s.heap.objs.size f cd)) (XC (envOfC aG af s.heap.objs.size f cd) (.ref e)) _ _ _;have NV:∀env∈(envOfC aG af s.heap.objs.size f cd::aH),∀b,env.frame=some b->b∈mG (envOfC aG af s.heap.objs.size f cd::aH):=fun env he b hb=>qQ.mpr ⟨env,he,hb⟩;refine wpAny_leaves_madeW (base:=dy s1.heap (mG (envOfC aG af s.heap.objs.size f cd::aH))) (h:=s1.heap) (L:=s.heap.objs.size) I.ok.frames rfl (fun b o q=>lS _ q) (I0 I.stack NV) hx fun h' t fl _ _ up=> ?_;have XS:∀b o,s1.heap.get? b=some o->b∉mG (envOfC aG af s.heap.objs.size f cd::aH)->∃o',(dy s1.heap (mG (envOfC aG af s.heap.objs.size f cd::aH))).get? b=some o':=fun b o e hb=>⟨o,oX _ e hb⟩
 have tr:∀b v,H1 b=some v->∃o,(dy s1.heap (mG (envOfC aG af s.heap.objs.size f cd::aH))).get? b=some o:=fun b v e=>by
  obtain⟨o,ho⟩:=VJ (I.fW b v e);refine XS b o ho fun hm=> ?_;rw[I.Ce b hm]at e
  cases e
 have o2:=VA I XS;have sB:(dy s1.heap (mG (envOfC aG af s.heap.objs.size f cd::aH))).StaysIn s1.heap:=fun b o q=>lS _ q;obtain⟨m1,m2⟩:=zA I.base I.fW sB fl.1 ((AW hx.keeps).trans up) tr o2 (fun b hb=>(I.xW.mem hb).2);exact⟨e,t,cls,H1,_,rfl,I.os,I.bare,m1,m2,fl,tr,o2,q⟩
theorem aa8:lV (jF P w) X (fun _ _ _=>False):=by
 intro ae Z H1 s1 e s2 I hx;obtain⟨_,_,_,_,_,_,_,_,_,_,_,_,_,q⟩:=hx;exact q.elim
end
structure Cc(K:aA)(mg:Str->Option ax)(x:Str)(C:ao):Prop where
 mg:mg x=some (.ref C)
 ex:∃bm N nm q bs hd sn sub ab col dd k0 k1 k2 k3 k5,K.lookup C=some (excClassObj nm q C N bs bm hd sn sub ab col dd k0 k1 k2 k3 k5 "Exception.__new__")/\Xz K [.type "Exception",.type "BaseException",.type "object"] bm=true/\Xy K N=true/\zJ K N "__init__"=some none
theorem Cc.own{K:aA}{mg:Str->Option ax}(O:Cc K mg x C)(X:K.In h):OwnCls x C [.type "Exception",.type "BaseException",.type "object"] "Exception.__new__" mg h:=by
 rcases O.ex with⟨bm,N,nm,q,bs,hd,sn,sub,ab,col,dd,k0,k1,k2,k3,k5,l,e4,e5,e6⟩;exact⟨O.mg,bm,N,nm,q,bs,hd,sn,sub,ab,col,dd,k0,k1,k2,k3,k5,_,X _ _ l,Heap.Ns.of_isNs (PySem.W.isNs_of_in X e5),PySem.W.nsMap_none_of_in X e5 e6,PySem.W.tail_of_in X e4⟩
section
variable{P:bD}{w:cP}{K:aA}{mg:Str->Option ax}{ag:dg}{N:List Str}{aG:Str}{af:ia}{f:ao}{cd:ax}{A:cN}{aH:List Env}{s:az}{H:Hp}{E:XK}{k:Nat}{x:Str}{C:ao}{np kL pos:Pos}
def Us(E:XK)(C:ao):TS:=fun _ _ H=>E (.ref C) none H
theorem ff(O:Cc K mg x C)(hr:jN k (A.deeper (envOfC aG af s.heap.objs.size f cd)))(hg:Gl (iJ (jF P w) P w K mg ag N aG af f cd A aH s H E) x:=by rfl)(hd:(x==("__debug__":Str))=false:=by decide):
 PS (iJ (jF P w) P w K mg ag N aG af f cd A aH s H E) (.Raise (some (.Call (.Name x np) [] [] kL)) none pos) (Us E C):=by
 intro ae s1 Z H1 D I h;have KX:K.In s1.heap:=I.Ay;rcases(O.own KX).obj with⟨tl,NN,nm,q,bs,hdct,sn,sub,ab,col,dd,k0,k1,k2,k3,k5,mN,hC,hN,hni,TL⟩
 refine wpAny_Raise_call_subT (C:=C) (nm:=nm) (q:=q) (N:=NN) (bs:=bs) (bm:=tl) (hdct:=hdct) (sn:=sn) (sub:=sub) (ab:=ab) (col:=col) (dd:=dd) (k0:=k0) (k1:=k1) (k2:=k2) (k3:=k3) (k5:=k5)
  EU (mN:=mN) (TL.hasType EU.hasBase) hr.hd rfl hni (mD I hg O.mg ⟨rfl,?_⟩ hd)
 exact evalArgs_empty ⟨rfl,aC _,hC,hN,TL,fun h' e hm=>abM (tk:=s1.toks) I hm h⟩
end
theorem Fun.qj{P:bD}{w:cP}{K:aA}{mg:Str->Option ax}{ag:dg}{x aG:Str}{st:zI}{f:ao}{fd:gq}{N ps:List Str}{k:Nat}{sp:Sp}(F:Fun K x aG st f fd)(S:wg N ps (dv st))(len:∀vs H Q E,sp vs H Q E->vs.length=ps.length)
 (La:∀(nV:ax) (A:cN) (aH:List Env) (s:az) (H:Hp) (vs:List V) (Q:VK) (E:XK),jN k (A.deeper (envOfC aG (dv st) s.heap.objs.size f nV))->sp vs H Q E->
  ∃t,Mr (iJ (jF P w) P w K mg ag N aG (dv st) f nV A aH s H E) (lC st) t/\t {nx:=fun _ H'=>Q .fI H',rt:=Q} (start N vs) H):eR P w K mg ag (jF P w) (k+1) f fd ps sp:=by
 rcases F.ex with⟨oc,od,kV,doc,pm,an,nV,ct,Q5,rfl,lk,RW⟩;exact abm lk RW S len fun A aH s H vs Q E hr L4=>La nV A aH s H vs Q E hr L4
end
end L2
set_option genInjectivity false
namespace TM
open PySem PySem.Spec PyProof.Rows L2
section
def top(i:Nat):zI:=jm.main.body.getD i (.Pass ⟨0,0,0,0⟩)
structure FnAt(K:aA)(x aG:Str)(st:zI)(ps:List Str) where
 f:ao
 d:gq
 F:Fun K x aG st f d
 b:Binds K d ps []
structure jU(K:aA)(mg:Str->Option ax)(x:Str)(i:Nat)(ps:List Str) extends FnAt K x x (top i) ps where
 m:mg x=some (.ref f)
structure oz(K:aA)(C:ao)(x aG:Str)(i j:Nat)(ps:List Str) extends FnAt K x aG (inClass (top i) j) ps where
 M:S0 K C x f
structure aka(mg:Str->Option ax):Prop where
 mE:∃t,mg "BOUND"=some (.int (65536) t)
 xQ:∃t,mg "LINE_END"=some (.int (10) t)
 HV:∃t,mg "HASH"=some (.int (35) t)
 vw:∃t,mg "DOLLAR"=some (.int (36) t)
 lB:∃t,mg "FIRST_CLOSING"=some (.int (39) t)
 kj:∃t,mg "LEFT_BRACKET"=some (.int (40) t)
 jK:∃t,mg "RIGHT_BRACKET"=some (.int (41) t)
 NH:∃t,mg "STAR"=some (.int (42) t)
 NI:∃t,mg "PLUS"=some (.int (43) t)
 Cp:∃t,mg "COMMA"=some (.int (44) t)
 Co:∃t,mg "MINUS"=some (.int (45) t)
 xO:∃t,mg "ZERO"=some (.int (48) t)
 HU:∃t,mg "NINE"=some (.int (57) t)
 acO:∃t,mg "AT"=some (.int (64) t)
 vq:∃t,mg "UNDERLINE"=some (.int (95) t)
 oH:∃t,mg "FIRST_OPENING"=some (.int (96) t)
 HW:∃t,mg "HALF"=some (.int (9223372036854775808) t)
 Cn:∃t,mg "ROUND"=some (.int (18446744073709551616) t)
 HX:∃t,mg "GONE"=some (.int (-1) t)
 HY:∃t,mg "EXTRA"=some (.int (16) t)
 j5:∃t,mg "STRENGTH_BEFORE"=some (.int (11) t)
 fS:∃t,mg "STRENGTH_OF_BRACKET"=some (.int (0) t)
 V2:∃t,mg "END"=some (.int (-1) t)
 Gq:∃t,mg "OUT"=some (.int (0) t)
 vU:∃t,mg "NOWHERE"=some (.int (-1) t)
 qD:∃t,mg "LAST_TEXT"=some (.int (9) t)
 Ax:∃t,mg "REFUSED"=some (.int (-2) t)
 tR:∃t,mg "MOST_CALLS"=some (.int (256) t)
 ny:∃t,mg "MOST_ARGUMENTS"=some (.int (1025) t)
 vt:∃t,mg "OPEN_CALL"=some (.int (0) t)
 xP:∃t,mg "RUN_CALL"=some (.int (1) t)
 Bg:mg "len"=none
 VS:mg "ord"=none
 Pk:mg "sum"=none
 VT:mg "min"=none
 Pl:mg "abs"=none
 nL:mg "tuple"=none
 tM:mg "list"=none
 VR:mg "str"=none
 vT:mg "range"=none
 qC:mg "enumerate"=none
 tN:mg "ValueError"=none
structure aj9(K:aA)(mg:Str->Option ax) where
 eu:ao
 kG:Cc K mg "EndsWithin" eu
 bT:ao
 fo:Cc K mg "NotReckoned" bT
 gb:ao
 oZ:Cc K mg "NoStepLeft" gb
 c7:ao
 hW:Cc K mg "TooMuch" c7
 sf:bG K (.ref eu) (.ref eu)=some true
 FN:bG K (.ref eu) (.ref bT)=some false
 GG:bG K (.ref eu) (.ref gb)=some false
 Lx:bG K (.ref eu) (.ref c7)=some false
 rh:bG K (.ref bT) (.ref eu)=some false
 qk:bG K (.ref bT) (.ref bT)=some true
 FL:bG K (.ref bT) (.ref gb)=some false
 Js:bG K (.ref bT) (.ref c7)=some false
 r9:bG K (.ref gb) (.ref eu)=some false
 rj:bG K (.ref gb) (.ref bT)=some false
 r8:bG K (.ref gb) (.ref gb)=some true
 Lw:bG K (.ref gb) (.ref c7)=some false
 vB:bG K (.ref c7) (.ref eu)=some false
 ux:bG K (.ref c7) (.ref bT)=some false
 vA:bG K (.ref c7) (.ref gb)=some false
 zx:bG K (.ref c7) (.ref c7)=some true
 u9:ao
 KW:mg "BLANKS"=some (.ref u9)
 DE:∀H:Hp,l6 K H u9 [.int 9,.int 10,.int 11,.int 12,.int 13,.int 32]
 mq:ao
 zj:mg "WITHOUT_BRACKET"=some (.ref mq)
 yU:∀H:Hp,l6 K H mq [.str "dnl",.str "divnum"]
 gz:ao
 et:yh K gz
 As:mg "Quotes"=some (.ref gz)
 Rr:fN K gz=true
 RE:bW K (.ref gz)=true
 fh:dA K gz "opening"
 fY:dA K gz "closing"
 dr:ao
 fX:yh K dr
 xK:mg "Meaning"=some (.ref dr)
 NA:fN K dr=true
 NF:bW K (.ref dr)=true
 jb:dA K dr "word"
 kx:dA K dr "text"
 eF:ao
 dJ:yh K eF
 VV:mg "Names"=some (.ref eF)
 VU:fN K eF=true
 V0:bW K (.ref eF)=true
 gM:dA K eF "meanings"
 mJ:dA K eF "size"
 cv:ao
 aP:yh K cv
 HK:mg "Reckoning"=some (.ref cv)
 HJ:fN K cv=true
 HR:bW K (.ref cv)=true
 eA:dA K cv "text"
 cx:dA K cv "place"
 dU:dA K cv "numbers"
 cz:dA K cv "waiting"
 eO:dA K cv "wants_number"
 bU:ao
 bj:yh K bU
 Rt:mg "Source"=some (.ref bU)
 Rq:fN K bU=true
 RD:bW K (.ref bU)=true
 bV:dA K bU "place"
 ez:dA K bU "row"
 mI:dA K bU "in_names"
 cg:ao
 bJ:yh K cg
 Gk:mg "System"=some (.ref cg)
 Rp:fN K cg=true
 RC:bW K (.ref cg)=true
 gW:dA K cg "names"
 eU:dA K cg "quotes"
 fK:dA K cg "target"
 ja:dA K cg "texts"
 ij:dA K cg "size_put_by"
 dY:ao
 dE:yh K dY
 Pn:mg "Call"=some (.ref dY)
 Zw:fN K dY=true
 ZA:bW K (.ref dY)=true
 Br:dA K dY "name"
 mK:dA K dY "meaning"
 dP:dA K dY "arguments"
 pf:dA K dY "begun"
 mL:dA K dY "depth"
 qN:dA K dY "size"
 dD:ao
 bB:yh K dD
 acB:mg "Run"=some (.ref dD)
 acA:fN K dD=true
 acH:bW K (.ref dD)=true
 cb:dA K dD "system"
 ik:dA K dD "source"
 Ex:dA K dD "most"
 lx:dA K dD "written"
 il:dA K dD "calls"
 ua:dA K dD "held"
 t9:dA K dD "used"
structure Top(K:aA)(mg:Str->Option ax) extends aj9 K mg where
 rC:aka mg
 Du:jU K mg "row_of" 23 ["word"]
 ve:jU K mg "place_of" 24 ["row","byte","start"]
 overlaps:jU K mg "overlaps" 25 ["row"]
 tE:jU K mg "place_of_row" 26 ["row","part"]
 nT:jU K mg "go_round" 30 ["number"]
 decimal:jU K mg "decimal" 31 ["number"]
 vx:jU K mg "is_digit" 32 ["byte"]
 nP:jU K mg "skip_blanks" 33 ["text","place"]
 qw:jU K mg "skip_digits" 34 ["text","place"]
 lA:jU K mg "value_of_digits" 35 ["digits"]
 l0:jU K mg "number_of" 36 ["text"]
 jy:oz K gz "__init__" "Quotes.__init__" 38 0 ["self","opening","closing"]
 kQ:oz K gz "put_round" "Quotes.put_round" 38 1 ["self","text"]
 ig:jU K mg "first_quotes" 39 []
 qu:jU K mg "with_commas" 40 ["texts"]
 jz:jU K mg "quoted_with_commas" 41 ["texts","quotes","room"]
 C7:jU K mg "stand_in" 42 ["byte","call","quotes","room"]
 IE:jU K mg "fill_in" 43 ["call","quotes","room"]
 Mt:jU K mg "way_to" 46 ["first","last"]
 nK:jU K mg "spread_ranges" 47 ["text"]
 ya:jU K mg "changes_of" 48 ["before","after"]
 oJ:jU K mg "changed_letters" 49 ["text","before","after"]
 iA:oz K dr "__init__" "Meaning.__init__" 52 0 ["self","word","text"]
 weight:jU K mg "weight" 53 ["name","meaning"]
 nH:oz K eF "__init__" "Names.__init__" 54 0 ["self"]
 mU:oz K eF "latest" "Names.latest" 54 1 ["self","name"]
 lI:oz K eF "need_room" "Names.need_room" 54 2 ["self","more"]
 ud:oz K eF "define" "Names.define" 54 3 ["self","name","meaning"]
 qb:oz K eF "push" "Names.push" 54 4 ["self","name","meaning"]
 kc:oz K eF "drop_latest" "Names.drop_latest" 54 5 ["self","name"]
 qd:oz K eF "drop_all" "Names.drop_all" 54 6 ["self","name"]
 truth:jU K mg "truth" 56 ["said"]
 either:jU K mg "either" 57 ["left","right"]
 both:jU K mg "both" 58 ["left","right"]
 kq:jU K mg "bits_of_either" 59 ["left","right"]
 nX:jU K mg "bits_of_one" 60 ["left","right"]
 mH:jU K mg "bits_of_both" 61 ["left","right"]
 same:jU K mg "same" 62 ["left","right"]
 other:jU K mg "other" 63 ["left","right"]
 zE:jU K mg "at_most" 64 ["left","right"]
 vI:jU K mg "at_least" 65 ["left","right"]
 below:jU K mg "below" 66 ["left","right"]
 above:jU K mg "above" 67 ["left","right"]
 pG:jU K mg "shifted_up" 68 ["left","right"]
 mw:jU K mg "shifted_down" 69 ["left","right"]
 added:jU K mg "added" 70 ["left","right"]
 pE:jU K mg "taken_away" 71 ["left","right"]
 pP:jU K mg "multiplied" 72 ["left","right"]
 pI:jU K mg "quotient" 73 ["left","right"]
 rest:jU K mg "rest" 74 ["left","right"]
 negated:jU K mg "negated" 75 ["number"]
 unchanged:jU K mg "unchanged" 76 ["number"]
 AK:jU K mg "denied" 77 ["number"]
 turned:jU K mg "turned" 78 ["number"]
 je:oz K cv "__init__" "Reckoning.__init__" 83 0 ["self","text"]
 jC:oz K cv "work_out" "Reckoning.work_out" 83 1 ["self"]
 fz:oz K cv "read_number_side" "Reckoning.read_number_side" 83 2 ["self"]
 gh:oz K cv "read_sign_side" "Reckoning.read_sign_side" 83 3 ["self"]
 fi:oz K cv "end_number" "Reckoning.end_number" 83 4 ["self"]
 jd:oz K cv "settle" "Reckoning.settle" 83 5 ["self","strength"]
 xl:jU K mg "worked_out" 84 ["text"]
 argument:jU K mg "argument" 86 ["arguments","place"]
 define:jU K mg "define" 87 ["run","arguments"]
 yV:jU K mg "pushdef" 88 ["run","arguments"]
 DH:jU K mg "popdef" 89 ["run","arguments"]
 uT:jU K mg "undefine" 90 ["run","arguments"]
 tP:jU K mg "meaning_of" 91 ["run","arguments"]
 defn:jU K mg "defn" 92 ["run","arguments"]
 K3:jU K mg "ifdef" 93 ["run","arguments"]
 D5:jU K mg "ifelse" 94 ["run","arguments"]
 shift:jU K mg "shift" 95 ["run","arguments"]
 V7:jU K mg "incr" 96 ["run","arguments"]
 Xe:jU K mg "decr" 97 ["run","arguments"]
 length:jU K mg "length" 98 ["run","arguments"]
 index:jU K mg "index" 99 ["run","arguments"]
 substr:jU K mg "substr" 100 ["run","arguments"]
 uU:jU K mg "translit" 101 ["run","arguments"]
 vz:jU K mg "evaluate" 102 ["run","arguments"]
 dnl:jU K mg "dnl" 103 ["run","arguments"]
 nU:jU K mg "changequote" 104 ["run","arguments"]
 Ei:jU K mg "divert" 105 ["run","arguments"]
 Eh:jU K mg "divnum" 106 ["run","arguments"]
 uS:jU K mg "undivert" 107 ["run","arguments"]
 km:jU K mg "bytes_of_names" 112 []
 l7:oz K bU "__init__" "Source.__init__" 113 0 ["self","text"]
 lD:oz K bU "has_more" "Source.has_more" 113 1 ["self"]
 mM:oz K bU "put_before" "Source.put_before" 113 2 ["self","result"]
 lP:oz K bU "starts_name" "Source.starts_name" 113 3 ["self","byte"]
 kN:oz K bU "read_name" "Source.read_name" 113 4 ["self"]
 gN:oz K bU "read_line" "Source.read_line" 113 5 ["self"]
 lR:oz K bU "begins_with" "Source.begins_with" 113 6 ["self","quote"]
 jc:oz K bU "stands_at" "Source.stands_at" 113 7 ["self","quote","place"]
 lQ:oz K bU "read_quoted" "Source.read_quoted" 113 8 ["self","quotes"]
 k8:oz K bU "end_of_bytes" "Source.end_of_bytes" 113 9 ["self","place","opening","closing"]
 kA:oz K bU "end_of_quotes" "Source.end_of_quotes" 113 10 ["self","place","opening","closing"]
 ko:jU K mg "built_in_names" 119 []
 rW:jU K mg "is_put_by" 120 ["number"]
 kz:oz K cg "__init__" "System.__init__" 121 0 ["self"]
 oK:oz K cg "write_to" "System.write_to" 121 1 ["self","number"]
 rl:oz K cg "put_by" "System.put_by" 121 2 ["self","piece"]
 k7:oz K cg "to_give_back" "System.to_give_back" 121 3 ["self","numbers"]
 kM:oz K cg "take_away" "System.take_away" 121 4 ["self","number","most"]
 ub:oz K cg "aside" "System.aside" 121 5 ["self","number","most"]
 nI:oz K dY "__init__" "Call.__init__" 125 0 ["self","name","meaning","arguments"]
 su:oz K dD "__init__" "Run.__init__" 126 0 ["self","system","most","text"]
 ph:oz K dD "read_all" "Run.read_all" 126 1 ["self","steps"]
 kB:oz K dD "error_of_reading" "Run.error_of_reading" 126 2 ["self","steps"]
 mO:oz K dD "read_token" "Run.read_token" 126 3 ["self"]
 iT:oz K dD "read_name_token" "Run.read_name_token" 126 4 ["self"]
 rn:oz K dD "read_byte" "Run.read_byte" 126 5 ["self","byte"]
 zH:oz K dD "hold" "Run.hold" 126 6 ["self","more"]
 pV:oz K dD "begin_call" "Run.begin_call" 126 7 ["self","call"]
 nF:oz K dD "end_argument" "Run.end_argument" 126 8 ["self","call"]
 pj:oz K dD "end_call" "Run.end_call" 126 9 ["self"]
 mP:oz K dD "put_result" "Run.put_result" 126 10 ["self","call"]
 pU:oz K dD "take" "Run.take" 126 11 ["self","piece"]
 nM:oz K dD "need_most" "Run.need_most" 126 12 ["self","more"]
 sr:oz K dD "write" "Run.write" 126 13 ["self","piece"]
 nN:oz K dD "give_back" "Run.give_back" 126 14 ["self","numbers"]
 Ds:jU K mg "run_text" 127 ["system","steps","most","text"]
 answers:jU K mg "answers" 131 ["calls"]
section
variable{K:aA}{mg:Str->Option ax}(T:Top K mg)
theorem Top.mE(T:Top K mg):∃t,mg "BOUND"=some (.int (65536) t):=T.rC.mE
theorem Top.xQ(T:Top K mg):∃t,mg "LINE_END"=some (.int (10) t):=T.rC.xQ
theorem Top.HV(T:Top K mg):∃t,mg "HASH"=some (.int (35) t):=T.rC.HV
theorem Top.vw(T:Top K mg):∃t,mg "DOLLAR"=some (.int (36) t):=T.rC.vw
theorem Top.lB(T:Top K mg):∃t,mg "FIRST_CLOSING"=some (.int (39) t):=T.rC.lB
theorem Top.kj(T:Top K mg):∃t,mg "LEFT_BRACKET"=some (.int (40) t):=T.rC.kj
theorem Top.jK(T:Top K mg):∃t,mg "RIGHT_BRACKET"=some (.int (41) t):=T.rC.jK
theorem Top.NH(T:Top K mg):∃t,mg "STAR"=some (.int (42) t):=T.rC.NH
theorem Top.NI(T:Top K mg):∃t,mg "PLUS"=some (.int (43) t):=T.rC.NI
theorem Top.Cp(T:Top K mg):∃t,mg "COMMA"=some (.int (44) t):=T.rC.Cp
theorem Top.Co(T:Top K mg):∃t,mg "MINUS"=some (.int (45) t):=T.rC.Co
theorem Top.xO(T:Top K mg):∃t,mg "ZERO"=some (.int (48) t):=T.rC.xO
theorem Top.HU(T:Top K mg):∃t,mg "NINE"=some (.int (57) t):=T.rC.HU
theorem Top.acO(T:Top K mg):∃t,mg "AT"=some (.int (64) t):=T.rC.acO
theorem Top.vq(T:Top K mg):∃t,mg "UNDERLINE"=some (.int (95) t):=T.rC.vq
theorem Top.oH(T:Top K mg):∃t,mg "FIRST_OPENING"=some (.int (96) t):=T.rC.oH
theorem Top.HW(T:Top K mg):∃t,mg "HALF"=some (.int (9223372036854775808) t):=T.rC.HW
theorem Top.Cn(T:Top K mg):∃t,mg "ROUND"=some (.int (18446744073709551616) t):=T.rC.Cn
theorem Top.HX(T:Top K mg):∃t,mg "GONE"=some (.int (-1) t):=T.rC.HX
theorem Top.HY(T:Top K mg):∃t,mg "EXTRA"=some (.int (16) t):=T.rC.HY
theorem Top.j5(T:Top K mg):∃t,mg "STRENGTH_BEFORE"=some (.int (11) t):=T.rC.j5
theorem Top.fS(T:Top K mg):∃t,mg "STRENGTH_OF_BRACKET"=some (.int (0) t):=T.rC.fS
theorem Top.V2(T:Top K mg):∃t,mg "END"=some (.int (-1) t):=T.rC.V2
theorem Top.Gq(T:Top K mg):∃t,mg "OUT"=some (.int (0) t):=T.rC.Gq
theorem Top.vU(T:Top K mg):∃t,mg "NOWHERE"=some (.int (-1) t):=T.rC.vU
theorem Top.qD(T:Top K mg):∃t,mg "LAST_TEXT"=some (.int (9) t):=T.rC.qD
theorem Top.Ax(T:Top K mg):∃t,mg "REFUSED"=some (.int (-2) t):=T.rC.Ax
theorem Top.tR(T:Top K mg):∃t,mg "MOST_CALLS"=some (.int (256) t):=T.rC.tR
theorem Top.ny(T:Top K mg):∃t,mg "MOST_ARGUMENTS"=some (.int (1025) t):=T.rC.ny
theorem Top.vt(T:Top K mg):∃t,mg "OPEN_CALL"=some (.int (0) t):=T.rC.vt
theorem Top.xP(T:Top K mg):∃t,mg "RUN_CALL"=some (.int (1) t):=T.rC.xP
theorem Top.Bg(T:Top K mg):mg "len"=none:=T.rC.Bg
theorem Top.VS(T:Top K mg):mg "ord"=none:=T.rC.VS
theorem Top.Pk(T:Top K mg):mg "sum"=none:=T.rC.Pk
theorem Top.VT(T:Top K mg):mg "min"=none:=T.rC.VT
theorem Top.Pl(T:Top K mg):mg "abs"=none:=T.rC.Pl
theorem Top.nL(T:Top K mg):mg "tuple"=none:=T.rC.nL
theorem Top.tM(T:Top K mg):mg "list"=none:=T.rC.tM
theorem Top.VR(T:Top K mg):mg "str"=none:=T.rC.VR
theorem Top.vT(T:Top K mg):mg "range"=none:=T.rC.vT
theorem Top.qC(T:Top K mg):mg "enumerate"=none:=T.rC.qC
theorem Top.tN(T:Top K mg):mg "ValueError"=none:=T.rC.tN
theorem Top.A4:Mk K T.gz T.jy.f:=⟨T.Rr,T.jy.M.at_,T.jy.M.fn,T.RE⟩
theorem Top.yg:Mk K T.dr T.iA.f:=⟨T.NA,T.iA.M.at_,T.iA.M.fn,T.NF⟩
theorem Top.XH:Mk K T.eF T.nH.f:=⟨T.VU,T.nH.M.at_,T.nH.M.fn,T.V0⟩
theorem Top.Je:Mk K T.cv T.je.f:=⟨T.HJ,T.je.M.at_,T.je.M.fn,T.HR⟩
theorem Top.SY:Mk K T.bU T.l7.f:=⟨T.Rq,T.l7.M.at_,T.l7.M.fn,T.RD⟩
theorem Top.G3:Mk K T.cg T.kz.f:=⟨T.Rp,T.kz.M.at_,T.kz.M.fn,T.RC⟩
theorem Top.Qx:Mk K T.dY T.nI.f:=⟨T.Zw,T.nI.M.at_,T.nI.M.fn,T.ZA⟩
theorem Top.ad7:Mk K T.dD T.su.f:=⟨T.acA,T.su.M.at_,T.su.M.fn,T.acH⟩
end
end
end TM
namespace L2
open PySem PySem.Spec PyProof.Rows
section
section
variable{X:Cx}
theorem bC(hg:Gl X x)(hm:∃t,X.mg x=some (.int n t))(hd:(x==("__debug__":Str))=false:=by decide):PE X (.Name x pos) (tC (.int n)):=by
 obtain⟨t,h⟩:=hm;exact Pg hg h ⟨t,rfl⟩ hd
theorem Ci(hg:Gl X x)(hm:X.mg x=some (.ref a))(hd:(x==("__debug__":Str))=false:=by decide):PE X (.Name x pos) (tC (.ref a)):=Pg hg hm rfl hd
def rF(C:ao)(f:Str)(x:V)(H:Hp)(Q:VK):Prop:=∃a dx fs v,x= .ref a/\H a=some (.ins C dx fs)/\fs.lookup f=some v/\Q v H
def wF(C:ao)(f:Str)(x y:V)(H:Hp)(k:Hp->Prop):Prop:=∃a dx fs,x= .ref a/\H a=some (.ins C dx fs)/\fs.length<1000/\k (upd H a (.ins C dx (dB f y fs)))
def tFC(C:ao)(f:Str)(ta:TE):TE:=fun Z H Q=>ta Z H fun x H1=>rF C f x H1 Q
theorem aB(c:yh X.K C)(n:dA X.K C f)(he:PE X e ta)(hb:mZ e f X.env (eval e X.env)=eval e X.env):PE X (.Attribute e f pos) (tFC C f ta):=by
 intro ae s Z H Q I h;refine aay hb (mW (he ae s Z H _ I h) fun u s1 x H1 I1 rx zq=> ?_);obtain⟨a,dx,fs,v,ex,ea,l,q⟩:=zq;subst ex;obtain rfl:u=bM a:=rx;exact Ed I1 ea c n l fun u' s2 I2 ru=>⟨v,H1,I2,ru,q⟩
def aiH:R2:=fun x y H Q=>∃p xs i v,x= .ref p/\y= .int i/\H p=some (.lst xs)/\zF xs i=some v/\Q v H
theorem b6:IxR X aiH:=by
 intro value slice ae s Z H x y v u Q I rx ry q hs;rcases q with⟨p,xs,i,v',h1,h2,h3,h4,h5⟩;exact qE value slice ae s Z H x y v u Q I rx ry ⟨p,xs,i,v',h1,h2,kE.of h3,h4,h5⟩ hs
def aiF:R2:=fun x y H Q=>∃p xs i v,x= .ref p/\y= .int i/\H p=some (.tup xs)/\zF xs i=some v/\Q v H
def afh:List V->Hp->VK->Prop:=fun xs H Q=>∃p ys,xs=[.ref p]/\H p=some (.lst ys)/\Q (.int ys.length) H
theorem v9:qe X (.builtin "len") afh:=by
 intro ae s Z H xs us Q I r q;obtain⟨p,ys,h1,h2,h3⟩:=q;exact tZ ae s Z H xs us Q I r ⟨p,ys,h1,.inl (kE.of h2),h3⟩
def afg:List V->Hp->VK->Prop:=fun xs H Q=>∃p ys,xs=[.ref p]/\H p=some (.tup ys)/\Q (.int ys.length) H
theorem sk:qe X (.builtin "len") afg:=by
 intro ae s Z H xs us Q I r q;obtain⟨p,ys,h1,h2,h3⟩:=q;exact tZ ae s Z H xs us Q I r ⟨p,ys,h1,.inr (l6.of h2),h3⟩
def aiB:V->Option Int->Option Int->Hp->VK->Prop:=fun x lo hi H Q=>∃a xs,x= .ref a/\H a=some (.lst xs)/\∀p,H p=none->Q (.ref p) (upd H p (.lst (lr xs lo hi)))
theorem ic:Xr X aiB:=by
 intro ae s Z H x v vl vu lo hi sl Q I rx hs pl pu h;obtain⟨a,xs,h1,h2,h3⟩:=h;exact O3 ae s Z H x v vl vu lo hi sl Q I rx hs pl pu ⟨a,xs,h1,kE.of h2,h3⟩
theorem vC(K:aA)(H:Hp):∀l:List Int,BA K H (l.map V.int) (l.map fE)
 |[]=>.nil
 |x::r=>.cons (.int x) (vC K H r)
theorem zw:∀l m:List Int,nZ (l.map fE) (m.map fE)=decide (l=m)
 |[],[]=>rfl
 |[],_::_=>rfl
 |_::_,[]=>rfl
 |x::l,y::m=>by
  show (ym (.int x) (.int y)&&nZ _ _)=_;rw[zw l m];show (decide (x=y)&&_)=_
  by_cases h:x=y<;>by_cases g:l=m<;>simp[h,g]
theorem Cm:∀l:List Int,fD (l.map fE)=true
 |[]=>rfl
 |x::r=>by
  show (ET (.int x)&&fD (r.map fE))=true;rw[Cm r];rfl
theorem lL(l:List Int):jO (.list (l.map fE))=true/\jO (.tuple (l.map fE))=true:=by
 have d:∀l:List Int,fQ (l.map fE)<=1:=fun l=>by
  induction l with
  |nil=>decide
  |cons x r ih=>
   show max (pB (.int x)) (fQ (r.map fE))<=1;have:pB (.int x)<=1:=aC _;lia
 have h:=d l;unfold jO;constructor
 ·show (fD _&&decide (fQ _+1<=64))=true;rw[Cm,decide_eq_true (by lia)];rfl
 ·show (fD _&&decide (fQ _+1<=64))=true;rw[Cm,decide_eq_true (by lia)];rfl
def afk:R2:=fun x y H Q=>∃(p q:ao) (l m:List Int),x= .ref p/\y= .ref q/\H p=some (.lst (l.map V.int))/\H q=some (.lst (m.map V.int))/\Q (.bl (decide (l=m))) H
def aff:R2:=fun x y H Q=>∃(p q:ao) (l m:List Int),x= .ref p/\y= .ref q/\H p=some (.lst (l.map V.int))/\H q=some (.lst (m.map V.int))/\Q (.bl (!decide (l=m))) H
def afd:R2:=fun x y H Q=>∃(p q:ao) (l m:List Int),x= .ref p/\y= .ref q/\H p=some (.tup (l.map V.int))/\H q=some (.tup (m.map V.int))/\Q (.bl (!decide (l=m))) H
theorem Nk(hu:X.A.units+64<kO):j9 X (bZ .Eq) afk:=by
 intro ae s Z H x y v u Q I rx ry h;obtain⟨p,q,l,m,h1,h2,h3,h4,h5⟩:=h;refine Vt hu ae s Z H x y v u Q I rx ry ⟨.list (l.map .int),.list (m.map .int),h1▸.lst (kE.of h3) (vC _ _ l),h2▸.lst (kE.of h4) (vC _ _ m),(lL l).1,(lL m).1,?_⟩;show Q (.bl (nZ _ _)) H;rw[zw];exact h5
theorem Nj(hu:X.A.units+64<kO):j9 X (bZ .NotEq) aff:=by
 intro ae s Z H x y v u Q I rx ry h;obtain⟨p,q,l,m,h1,h2,h3,h4,h5⟩:=h;refine Vr hu ae s Z H x y v u Q I rx ry ⟨.list (l.map .int),.list (m.map .int),h1▸.lst (kE.of h3) (vC _ _ l),h2▸.lst (kE.of h4) (vC _ _ m),(lL l).1,(lL m).1,?_⟩;show Q (.bl (!PyData.eqvAll _ _)) H;rw[zw];exact h5
theorem Vq(hu:X.A.units+64<kO):j9 X (bZ .NotEq) afd:=by
 intro ae s Z H x y v u Q I rx ry h;obtain⟨p,q,l,m,h1,h2,h3,h4,h5⟩:=h;refine Vr hu ae s Z H x y v u Q I rx ry ⟨.tuple (l.map .int),.tuple (m.map .int),h1▸.tup (l6.of h3) (vC _ _ l),h2▸.tup (l6.of h4) (vC _ _ m),(lL l).2,(lL m).2,?_⟩;show Q (.bl (!PyData.eqvAll _ _)) H;rw[zw];exact h5
def afj:R2:=fun x y H Q=>∃p q xs,x= .ref p/\y= .ref q/\H p=some (.lst xs)/\H q=some (.lst [])/\Q (.bl (xs.isEmpty)) H
def afe:R2:=fun x y H Q=>∃p q xs,x= .ref p/\y= .ref q/\H p=some (.lst xs)/\H q=some (.lst [])/\Q (.bl (!xs.isEmpty)) H
theorem F6{ae:List (ao×Obj)}{s:az}{Z:St}{H:Hp}{p q:ao}{xs:List V}(I:Inv X ae Z H s)(h3:H p=some (.lst xs))(h4:H q=some (.lst [])):
 ∃cV:List ax,s.heap.IsList p cV.toArray/\s.heap.IsList q #[]/\cV.length=xs.length:=by
 obtain⟨cV,r,hl,_⟩:=I.list (kE.of (K:=X.K) h3);obtain⟨K2,r2,wz,_⟩:=I.list (kE.of (K:=X.K) h4)
 cases r2
 exact⟨cV,hl.isList,wz.isList,r.length.symm⟩
theorem HA(hu:X.A.units<kO):j9 X (bZ .Eq) afj:=by
 intro ae s Z H x y v u Q I rx ry h;obtain⟨p,q,xs,rfl,rfl,h3,h4,h5⟩:=h
 cases rx
 cases ry
 obtain⟨cV,l1,l2,e⟩:=F6 I h3 h4
 cases xs with
 |nil=>
  have:cV=[]:=be e;subst this;exact SeqAt.eq_listAt (e:=fun _=>true) l1 l2 rfl hu (fun j h1 _=>absurd h1 (by simp)) ⟨.bl true,H,I,rfl,h5⟩
 |cons y ys=>exact SeqAt.eq_list_lengthsAt l1 l2 (by simp[e]) hu ⟨.bl false,H,I,rfl,h5⟩
theorem Hz(hu:X.A.units<kO):j9 X (bZ .NotEq) afe:=by
 intro ae s Z H x y v u Q I rx ry h;obtain⟨p,q,xs,rfl,rfl,h3,h4,h5⟩:=h
 cases rx
 cases ry
 obtain⟨cV,l1,l2,e⟩:=F6 I h3 h4
 cases xs with
 |nil=>
  have:cV=[]:=be e;subst this;exact ahH (e:=fun _=>true) l1 l2 rfl hu (fun j h1 _=>absurd h1 (by simp)) _ _ _ _ ⟨.bl false,H,I,rfl,h5⟩
 |cons y ys=>exact ahG l1 l2 (by simp[e]) hu _ _ _ _ ⟨.bl true,H,I,rfl,h5⟩
theorem DP:j9 X (iM .FloorDiv) (rI (fun i j=>0<=i/\i<2^64/\0<j/\j<2^64) fun i j=>.int (i.fdiv j)):=opI fun i j _ _ _ _ _ hc q=>floordiv_int (by omega) q (.inl (PyProof.noPylong_of_log2 (by
 have h:j.natAbs.log2<64:=(SR (by omega)).mpr (by have:=hc.2.2.2;omega);lia)))
end
end
end L2
namespace TM
open PySem PySem.Spec PyProof.Rows L2
section
noncomputable section
class Kd(β:Type) where
 kd:β->Nat
instance:Kd HO:=⟨HO.ctorIdx⟩
def kdo{β:Type}[Kd β]:Option β->Nat
 |none=>0
 |some b=>Kd.kd b+1
theorem cE{β:Type}[Kd β]{f:ao->Option β}{x y:ao}{a b:Option β}(B:f x=b)(A:f y=a)(n:Nat.beq (kdo b) (kdo a)=false):x≠y:=fun e=>by
 rw[e,A]at B;rw[B,Nat.beq_refl]at n
 cases n
theorem gB{c:Prop}[Decidable c]{A B:Prop}(h:c)(x:A):if c then A else B:=by rw[if_pos h];exact x
theorem gn{c:Prop}[Decidable c]{A B:Prop}(h:¬c)(x:B):if c then A else B:=by rw[if_neg h];exact x
def Q6(x:V)(k:Int->Prop):Prop:=match x with| .int i=>k i|_=>False
def Vz(x:V)(k:Bool->Prop):Prop:=match x with| .bl b=>k b|_=>False
def Nm(x:V)(k:ao->Prop):Prop:=match x with| .ref p=>k p|_=>False
def onV(x:Option (Option V))(k:V->Prop):Prop:=match x with|some (some v)=>k v|_=>False
def Zm(x:Option V)(k:V->Prop):Prop:=match x with|some v=>k v|none=>False
def on0(x:Option V)(P:Prop):Prop:=match x with|none=>P|some _=>False
def Nq(x:Option HO)(k:List V->Prop):Prop:=match x with|some (.lst l)=>k l|_=>False
def onU(x:Option HO)(k:List V->Prop):Prop:=match x with|some (.tup l)=>k l|_=>False
def onN(C:ao)(x:Option HO)(k:ao->List (Str×V)->Prop):Prop:=match x with|some (.ins D dx fs)=>D=C/\k dx fs|_=>False
def on1(x:List V)(k:V->Prop):Prop:=match x with|[v]=>k v|_=>False
def onE(x:List V)(P:Prop):Prop:=match x with|[]=>P|_=>False
inductive OnL(x:Option HO)(k:List V->Prop):Prop
 |mk (l:List V) (e:x=some (.lst l)) (h:k l)
inductive OnU(x:Option HO)(k:List V->Prop):Prop
 |mk (l:List V) (e:x=some (.tup l)) (h:k l)
inductive OnO(x:Option V)(k:V->Prop):Prop
 |mk (v:V) (e:x=some v) (h:k v)
inductive OnN(C:ao)(x:Option HO)(k:ao->List (Str×V)->Prop):Prop
 |mk (d:ao) (f:List (Str×V)) (e:x=some (.ins C d f)) (h:k d f)
def sho{α:Type}:List α->Nat->Bool
 |[],_=>true
 |_::_,0=>false
 |_::l,n+1=>sho l n
def short{α:Type}(n:Nat)(l:List α):Bool:=sho l n
def onT(b:Bool)(P:Prop):Prop:=match b with|true=>P|false=>False
section
variable{x y:V}{k:Int->Prop}{kb:Bool->Prop}{kr:ao->Prop}{kv:V->Prop}{kl:List V->Prop}{kn:ao->List (Str×V)->Prop}{P:Prop}{C:ao}
theorem tG:Q6 x k=∃i,x= .int i/\k i:=propext ⟨fun h=>by cases x<;>first|exact⟨_,rfl,h⟩|exact b7 h,fun⟨_,e,h⟩=>by cases e;exact h⟩
theorem DT:Vz x kb=∃i,x= .bl i/\kb i:=propext ⟨fun h=>by cases x<;>first|exact⟨_,rfl,h⟩|exact b7 h,fun⟨_,e,h⟩=>by cases e;exact h⟩
theorem nj:Nm x kr=∃i,x= .ref i/\kr i:=propext ⟨fun h=>by cases x<;>first|exact⟨_,rfl,h⟩|exact b7 h,fun⟨_,e,h⟩=>by cases e;exact h⟩
theorem Vy{x:Option (Option V)}:onV x kv=∃i,x=some (some i)/\kv i:=propext ⟨fun h=>by obtain _|_|x:=x<;>first|exact⟨_,rfl,h⟩|exact b7 h,fun⟨_,e,h⟩=>by cases e;exact h⟩
theorem Nn{x:Option V}:Zm x kv=∃i,x=some i/\kv i:=propext ⟨fun h=>by cases x<;>first|exact⟨_,rfl,h⟩|exact b7 h,fun⟨_,e,h⟩=>by cases e;exact h⟩
theorem acu{x:Option V}:on0 x P=(x=none/\P):=propext ⟨fun h=>by cases x<;>first|exact⟨rfl,h⟩|exact b7 h,fun⟨e,h⟩=>by cases e;exact h⟩
theorem tF{x:Option HO}:Nq x kl=∃i,x=some (.lst i)/\kl i:=by
 refine propext ⟨fun h=> ?_,fun⟨_,e,h⟩=>by cases e;exact h⟩;obtain _|x:=x
 ·exact b7 h
 ·cases x<;>first|exact⟨_,rfl,h⟩|exact b7 h
theorem acj{x:Option HO}:onU x kl=∃i,x=some (.tup i)/\kl i:=by
 refine propext ⟨fun h=> ?_,fun⟨_,e,h⟩=>by cases e;exact h⟩;obtain _|x:=x
 ·exact b7 h
 ·cases x<;>first|exact⟨_,rfl,h⟩|exact b7 h
theorem Np{x:Option HO}:onN C x kn=∃dx fs,x=some (.ins C dx fs)/\kn dx fs:=by
 refine propext ⟨fun h=> ?_,fun⟨_,_,e,h⟩=>by cases e;exact⟨rfl,h⟩⟩;obtain _|x:=x
 ·exact b7 h
 ·cases x<;>first|(obtain⟨rfl,h⟩:=h;exact⟨_,_,rfl,h⟩)|exact b7 h
theorem HB{x:List V}:on1 x kv=∃i,x=[i]/\kv i:=propext ⟨fun h=>by obtain _|⟨a,_|⟨b,l⟩⟩:=x<;>first|exact⟨_,rfl,h⟩|exact b7 h,fun⟨_,e,h⟩=>by cases e;exact h⟩
theorem acs{x:List V}:onE x P=(x=[]/\P):=propext ⟨fun h=>by cases x<;>first|exact⟨rfl,h⟩|exact b7 h,fun⟨e,h⟩=>by cases e;exact h⟩
theorem Gc{α:Type}:∀(n:Nat) (l:List α),short n l=true->l.length<=n
 |_,[],_=>aC _
 |0,_::l,h=>by cases h
 |n+1,_::l,h=>Nat.succ_le_succ (Gc n l h)
theorem ack(h:onT b P):b=true/\P:=by cases b;exact b7 h;exact⟨rfl,h⟩
theorem acq{x:Option HO}{l:List V}(e:x=some (.lst l))(h:kl l):Nq x kl:=by rw[e];exact h
theorem aci{x:Option HO}{l:List V}(e:x=some (.tup l))(h:kl l):onU x kl:=by rw[e];exact h
theorem aco{x:Option HO}{dx:ao}{fs:List (Str×V)}(e:x=some (.ins C dx fs))(h:kn dx fs):onN C x kn:=by rw[e];exact⟨rfl,h⟩
theorem acm{x:Option V}{v:V}(e:x=some v)(h:kv v):Zm x kv:=by rw[e];exact h
theorem adE(h:kr p):∃a,V.ref p=V.ref a/\kr a:=⟨p,rfl,h⟩
theorem adI{p:Prop}[Decidable p]{A B:Prop}(h:if p then A else B):if decide p=true then A else B:=by by_cases q:p<;>simp_all
theorem aeL(h:P){v:V}:v=v/\P:=⟨rfl,h⟩
theorem acr{x:Option HO}(h:OnL x kl):Nq x kl:=by obtain⟨l,rfl,h⟩:=h;exact h
theorem acn{x:Option V}(h:OnO x kv):Zm x kv:=by obtain⟨l,rfl,h⟩:=h;exact h
theorem acp{x:Option HO}(h:OnN C x kn):onN C x kn:=by obtain⟨_,_,rfl,h⟩:=h;exact⟨rfl,h⟩
theorem idN{x:Option HO}(h:onN C x kn):onN C x kn:=h
theorem idL{x:Option HO}(h:Nq x kl):Nq x kl:=h
theorem idU{x:Option HO}(h:onU x kl):onU x kl:=h
theorem idO{x:Option V}(h:Zm x kv):Zm x kv:=h
theorem idT{A B:Prop}(h:A):if true=true then A else B:=h
theorem idF{A B:Prop}(h:B):if false=true then A else B:=h
theorem idB(h:Vz x kb):Vz x kb:=h
theorem idI(h:Q6 x k):Q6 x k:=h
theorem alb:Q6 (.int i) k=k i:=rfl
theorem ald:Vz (.bl b) kb=kb b:=rfl
theorem ak8:Nm (.ref p) kr=kr p:=rfl
theorem ak5:onV (some (some v)) kv=kv v:=rfl
theorem ak9:Zm (some v) kv=kv v:=rfl
theorem alf:on0 none P=P:=rfl
theorem ala:Nq (some (.lst l)) kl=kl l:=rfl
theorem ak6:onU (some (.tup l)) kl=kl l:=rfl
theorem ale:on1 [v] kv=kv v:=rfl
theorem alc:onE [] P=P:=rfl
theorem ak7:onT true P=P:=rfl
theorem sh0{α:Type}{n:Nat}:short (α:=α) n []=true:=rfl
theorem sh9{α:Type}{a:α}{l:List α}:short 9 (a::l)=short 8 l:=rfl
theorem sh8{α:Type}{a:α}{l:List α}:short 8 (a::l)=short 7 l:=rfl
theorem sh7{α:Type}{a:α}{l:List α}:short 7 (a::l)=short 6 l:=rfl
theorem sh6{α:Type}{a:α}{l:List α}:short 6 (a::l)=short 5 l:=rfl
theorem sh5{α:Type}{a:α}{l:List α}:short 5 (a::l)=short 4 l:=rfl
theorem sh4{α:Type}{a:α}{l:List α}:short 4 (a::l)=short 3 l:=rfl
theorem sh3{α:Type}{a:α}{l:List α}:short 3 (a::l)=short 2 l:=rfl
theorem lMc{α β:Type}{f:α->β}{a:α}{l:List α}:(a::l).map f=f a::l.map f:=rfl
theorem lMn{α β:Type}{f:α->β}:[].map f=[]:=rfl
theorem lAc{α:Type}{a:α}{l m:List α}:a::l++m=a::(l++m):=rfl
theorem lAn{α:Type}{m:List α}:[]++m=m:=rfl
theorem lS0{α:Type}{a b:α}{l:List α}:(a::l).set 0 b=b::l:=rfl
theorem lSs{α:Type}{a b:α}{l:List α}{n:Nat}:(a::l).set (n+1) b=a::l.set n b:=rfl
theorem lLc{α:Type}{a:α}{l:List α}:(a::l).length=l.length+1:=rfl
theorem lLn{α:Type}:([]:List α).length=0:=rfl
theorem lR0{α:Type}{a:α}:aS 0 a=[]:=rfl
theorem lRs{α:Type}{a:α}{n:Nat}:aS (n+1) a=a::aS n a:=rfl
theorem ifT{A B:Prop}:(if true=true then A else B)=A:=rfl
theorem ifF{A B:Prop}:(if false=true then A else B)=B:=rfl
end
def U3(i:Nat):TE:=fun Z H Q=>onV Z[i]? fun v=>Q v H
@[irreducible] def qB (t:TE):TT:=fun Z H Q=>t Z H fun x H1=>Vz x fun c=>Q c H1
def Vc(ta tb:TE):TE:=fun Z H Q=>ta Z H fun x H1=>Vz x fun c=>if c=true then tb Z H1 Q else Q (.bl false) H1
def ab3(ta tb:TE):TE:=fun Z H Q=>ta Z H fun x H1=>Vz x fun c=>if c=true then Q (.bl true) H1 else tb Z H1 Q
def U7(ta:TE):TE:=fun Z H Q=>ta Z H fun x H1=>Vz x fun c=>Q (.bl (!c)) H1
def qI(C:Int->Int->Prop)(g:Int->Int->V):R2:=fun x y H Q=>Q6 x fun i=>Q6 y fun j=>C i j/\Q (g i j) H
def Zc(g:Int->Int->V):R2:=fun x y H Q=>Q6 x fun i=>Q6 y fun j=>Q (g i j) H
def qU(g:Int->V):V->Hp->VK->Prop:=fun x H Q=>Q6 x fun i=>Q (g i) H
def qIp(f:Int->Int->Int):TIp:=fun x y H Q=>Q6 x fun i=>Q6 y fun j=>Q (.int (f i j)) H
def afr(i:Nat)(te:TE)(ti:TIp):TS:=fun D Z H=>onV Z[i]? fun x=>te Z H fun y H1=>ti x y H1 fun z H2=>D.nx (Z.set i (some z)) H2
def qEq:R2:=fun x y H Q=>match x,y with
 | .int a,.int b=>Q (.bl (decide (a=b))) H
 | .bl a,.bl b=>Q (.bl (decide (a=b))) H
 | .str a,.str b=>Q (.bl (decide (a=b))) H
 |_,_=>rEq x y H Q
def qNe:R2:=fun x y H Q=>match x,y with
 | .int a,.int b=>Q (.bl (!decide (a=b))) H
 | .bl a,.bl b=>Q (.bl (!decide (a=b))) H
 | .str a,.str b=>Q (.bl (!decide (a=b))) H
 |_,_=>rNe x y H Q
def Hw(r r':R2)(ta tb tc:TE):TE:=fun Z H Q=>ta Z H fun x H1=>tb Z H1 fun y H2=>r x y H2 fun z H3=>Vz z fun k=>
 if k=true then tc Z H3 fun w' H4=>r' y w' H4 Q else Q (.bl false) H3
def qF(C:ao)(f:Str)(x:V)(H:Hp)(Q:VK):Prop:=Nm x fun p=>onN C (H p) fun _ fs=>Zm (fs.lookup f) fun v=>Q v H
def qW(C:ao)(f:Str)(x y:V)(H:Hp)(k:Hp->Prop):Prop:=Nm x fun p=>onN C (H p) fun dx fs=>onT (short 9 fs) (k (upd H p (.ins C dx (dB f y fs))))
def qFC(C:ao)(f:Str)(ta:TE):TE:=fun Z H Q=>ta Z H fun x H1=>qF C f x H1 Q
def qsF(C:ao)(f:Str)(ta tv:TE):TS:=fun D Z H=>tv Z H fun y H1=>ta Z H1 fun x H2=>qW C f x y H2 (D.nx Z)
def qsA(C:ao)(f:Str)(ta tv:TE)(r:V->V->Hp->VK->Prop):TS:=fun D Z H=>ta Z H fun x H1=>qF C f x H1 fun v H2=>tv Z H2 fun y H3=>r v y H3 fun z H4=>qW C f x z H4 (D.nx Z)
def afo:R2:=fun x y H Q=>Nm x fun p=>Q6 y fun i=>Nq (H p) fun xs=>Zm (zF xs i) fun v=>Q v H
def U8:List V->Hp->VK->Prop:=fun vs H Q=>on1 vs fun x=>Nm x fun p=>Nq (H p) fun ys=>Q (.int ys.length) H
def aa5:List V->Hp->VK->Prop:=fun vs H Q=>on1 vs fun x=>Nm x fun p=>onU (H p) fun ys=>Q (.int ys.length) H
def afm:V->Option Int->Option Int->Hp->VK->Prop:=fun x lo hi H Q=>Nm x fun a=>Nq (H a) fun xs=>∀p,H p=none->Q (.ref p) (upd H p (.lst (lr xs lo hi)))
def Pb:V->List V->Hp->VK->Prop:=fun x vs H Q=>Nm x fun l=>on1 vs fun y=>Nq (H l) fun xs=>xs.length<sizeLine/\Q .fI (upd H l (.lst (xs++[y])))
def Pa:V->List V->Hp->VK->Prop:=fun x vs H Q=>Nm x fun l=>on1 vs fun z=>Nm z fun b=>Nq (H l) fun xs=>Nq (H b) fun zs=>xs.length+zs.length<=sizeLine/\Q .fI (upd H l (.lst (xs++zs)))
def afn:V->List V->Hp->VK->Prop:=fun x vs H Q=>Nm x fun l=>onE vs (Nq (H l) fun xs=>Zm xs[xs.length- 1]? fun y=>Q y (upd H l (.lst xs.dropLast)))
def qBM(r:V->List V->Hp->VK->Prop)(to:TE)(t:TA):TE:=fun Z H Q=>to Z H fun x H1=>Nm x fun p=>Nq (H1 p) fun _=>t Z H1 fun xs H2=>r x xs H2 Q
def aiK(r:V->List V->Hp->VK->Prop)(to:TE):TE:=fun Z H Q=>to Z H fun x H1=>Nm x fun p=>Nq (H1 p) fun _=>r x [] H1 Q
def Kr(C:ao)(m:Str)(sp:Sp)(wB:List V)(E:XK)(ta:TE)(t:TA):TE:=fun Z H Q=>ta Z H fun x H1=>Nm x fun p=>onN C (H1 p) fun _ fs=>on0 (fs.lookup m) (t Z H1 fun vs H2=>sp (x::(vs++wB)) H2 Q E)
def U5(t:TE):TO:=fun Z H Q=>t Z H fun x H1=>Q6 x fun i=>Q (some i) H1
section
variable{C:ao}{f:Str}{ta tb tc:TE}{i:Nat}{t:TE}{g:Int->Int->V}
theorem afq(h:t Z H fun x H1=>Vz x fun c=>Q c H1):qB t Z H Q:=by unfold qB;exact h
theorem idq(h:qB t Z H Q):qB t Z H Q:=h
theorem Za:U3 i=abP i:=by funext Z H Q;exact Vy
theorem Va:qB t=tB t:=by funext Z H Q;simp only[qB,tB,DT]
theorem Kq:qB t=Ur t:=Va
theorem Vb:Vc ta tb=UG ta tb:=by funext Z H Q;simp only[Vc,UG,DT]
theorem Zb:ab3 ta tb=abR ta tb:=by funext Z H Q;simp only[ab3,abR,DT]
theorem U6:U7 ta=Uu ta:=by funext Z H Q;simp only[U7,Uu,DT]
theorem U4:U5 t=Ut t:=by funext Z H Q;simp only[U5,Ut,tG]
theorem Ge:Hw r r' ta tb tc=Hf r r' ta tb tc:=by funext Z H Q;simp only[Hw,Hf,DT]
theorem xD(h:Zc g x y H Q):QZ g x y H Q:=by
 unfold Zc at h;rw[tG]at h;obtain⟨i,rfl,h⟩:=h;rw[tG]at h;obtain⟨j,rfl,h⟩:=h;exact⟨i,j,rfl,rfl,h⟩
theorem U9(h:qI c g x y H Q):rI c g x y H Q:=by
 unfold qI at h;rw[tG]at h;obtain⟨i,rfl,h⟩:=h;rw[tG]at h;obtain⟨j,rfl,h⟩:=h;exact⟨i,j,rfl,rfl,h⟩
theorem aa4{g:Int->V}{H:Hp}{Q:VK}(h:qU g x H Q):rU g x H Q:=by
 unfold qU at h;rw[tG]at h;exact h
theorem Hv{g:Int->Int->Int}{H:Hp}{Q:VK}(h:qIp g x y H Q):ipI g x y H Q:=by
 unfold qIp at h;rw[tG]at h;obtain⟨i,rfl,h⟩:=h;rw[tG]at h;obtain⟨j,rfl,h⟩:=h;exact⟨i,j,rfl,rfl,h⟩
theorem ab6(h:qEq x y H Q):rEq x y H Q:=by
 cases x<;>cases y<;>first|exact h|(have h:Q (.bl (decide (_=_))) H:=h;exact⟨rfl,by simpa using h⟩)
theorem ab4(h:qNe x y H Q):rNe x y H Q:=by
 cases x<;>cases y<;>first|exact h|(have h:Q (.bl (!decide (_=_))) H:=h;exact⟨rfl,by simpa using h⟩)
theorem afp:qEq (.int a) (.int b) H Q=Q (.bl (decide (a=b))) H:=rfl
theorem akB:qEq (.bl a) (.bl b) H Q=Q (.bl (decide (a=b))) H:=rfl
theorem akA:qEq (.str a) (.str b) H Q=Q (.bl (decide (a=b))) H:=rfl
theorem akz:qNe (.int a) (.int b) H Q=Q (.bl (!decide (a=b))) H:=rfl
theorem aky:qNe (.str a) (.str b) H Q=Q (.bl (!decide (a=b))) H:=rfl
theorem aa6:qF C f x H Q=rF C f x H Q:=by
 unfold qF rF;simp only[nj,Np,Nn];exact propext ⟨by rintro⟨a,e,dx,fs,h,v,l,q⟩;exact⟨a,dx,fs,v,e,h,l,q⟩,by rintro⟨a,dx,fs,v,e,h,l,q⟩;exact⟨a,e,dx,fs,h,v,l,q⟩⟩
theorem ab5:qFC C f ta=tFC C f ta:=by funext Z H Q;simp only[qFC,tFC,aa6]
theorem aa3(h:qW C f x y H k):wF C f x y H k:=by
 unfold qW at h;rw[nj]at h;obtain⟨p,e,h⟩:=h;rw[Np]at h;obtain⟨dx,fs,e2,h⟩:=h;obtain⟨l,h⟩:=ack h;exact⟨p,dx,fs,e,e2,XA (Gc _ _ l) (by decide),h⟩
theorem iX:Kr C m sp wB E ta tl=OW C m sp wB E ta tl:=by
 funext Z H Q
 unfold Kr OW;simp only[nj,Np,acu]
 congr 1;funext x H1
 exact propext ⟨by rintro⟨a,e,dx,fs,h,l,q⟩;exact⟨a,dx,fs,e,h,l,q⟩,by rintro⟨a,dx,fs,e,h,l,q⟩;exact⟨a,e,dx,fs,h,l,q⟩⟩
end
section
variable{X:Cx}{a b c e:dQ}{ta tb tc te tv:TE}{pos:Pos}{t u:TE}
theorem PE.q(h:u=t)(k:PE X e t):PE X e u:=by rw[h];exact k
theorem pv(i:Nat){x:Str}{pos:Pos}(hN:X.N[i]? =some x:=by rfl)(hv:Vis X.env.scope x:=by walk_at"au")(hd:(x==("__debug__":Str))=false:=by decide)
 (RW:(x==("__classdict__":Str))=false:=by decide):PE X (.Name x pos) (U3 i):=Za▸L2.pv i hN hv hd RW
theorem iY{e:dQ}(h:PE X e t)(he:∀whole,isTrue e X.env whole=(do let v<-whole;Bs e.pos;uC [v] (truthy v)):=by intro _;rfl):PT X e (qB t):=Va▸L2.iY h he
theorem aR(ho:j9 X (bZ op) r)(ha:PE X a ta)(hb:PE X b tb)(hm:jD op b=false:=by walk_at"au"):PT X (.Compare a [op] [b] pos) (qB (tOp r ta tb)):=Kq▸L2.aR ho ha hb hm
theorem f7(ho:j9 X (bZ op) r)(ha:PE X a ta)(hb:PE X b tb)(hm:jD op b=false:=by walk_at"au"):PE X (.Compare a [op] [b] pos) (tOp r ta tb):=L2.f7 ho ha hb hm
theorem c5(hr:IxR X r)(ha:PE X a ta)(hb:PE X b tb)(hs:Qw b:=by exact fun _ _=>rfl):PE X (.Subscript a b pos) (tOp r ta tb):=L2.c5 hr ha hb hs
theorem Aj(h:PC X op a b t)(h1:jD op b=false:=by walk_at"au"):PT X (.Compare a [op] [b] pos) (qB t):=Va▸L2.Aj h h1
theorem Al{rest:List dQ}(ha:PE X a ta)(hb:PE X (.BoolOp .And (b::rest) pos) tb):PE X (.BoolOp .And (a::b::rest) pos) (Vc ta tb):=Vb▸L2.Al ha hb
theorem Vk{rest:List dQ}(ha:PE X a ta)(hb:PE X (.BoolOp .Or (b::rest) pos) tb):PE X (.BoolOp .Or (a::b::rest) pos) (ab3 ta tb):=Zb▸L2.Vk ha hb
theorem Ng(ha:PE X a ta):PE X (.UnaryOp .Not a pos) (U7 ta):=U6▸L2.Ng ha
theorem d4(h:PE X e te):PO X (some e) (U5 te):=U4▸L2.d4 h
theorem yY(ho:j9 X (bZ op) r)(Jk:j9 X (bZ op') r')(ha:PE X a ta)(hb:PE X b tb)(hc:PE X c tc)
 (hm:TZ [op,op'] [b,c]=false:=by with_unfolding_all rfl):PE X (.Compare a [op,op'] [b,c] pos) (Hw r r' ta tb tc):=Ge▸L2.yY ho Jk ha hb hc hm
theorem yW(ho:j9 X (bZ op) r)(Jk:j9 X (bZ op') r')(ha:PE X a ta)(hb:PE X b tb)(hc:PE X c tc)
 (hm:TZ [op,op'] [b,c]=false:=by with_unfolding_all rfl):PT X (.Compare a [op,op'] [b,c] pos) (qB (Hw r r' ta tb tc)):=by
 rw[Kq,Ge];exact L2.yW ho Jk ha hb hc hm
theorem j9.q(h:j9 X f r)(i:∀x y H Q,r' x y H Q->r x y H Q):j9 X f r':=fun ae s Z H x y v u Q I rx ry q=>h ae s Z H x y v u Q I rx ry (i x y H Q q)
theorem Xq.q(h:Xq X f r)(i:∀x H Q,r' x H Q->r x H Q):Xq X f r':=fun ae s Z H x v Q I rx q=>h ae s Z H x v Q I rx (i x H Q q)
theorem qi(h:j9 X f (rI C g)):j9 X f (qI C g):=j9.q h fun _ _ _ _=>U9
theorem qi0(h:j9 X f (QZ g)):j9 X f (Zc g):=j9.q h fun _ _ _ _=>xD
theorem dz:j9 X (iM .Add) (Zc fun i j=>.int (i+j)):=j9.q L2.dz fun _ _ _ _=>xD
theorem iF:j9 X (iM .Sub) (Zc fun i j=>.int (i- j)):=j9.q L2.iF fun _ _ _ _=>xD
theorem Am:j9 X (iM .Mult) (qI aaS fun i j=>.int (i*j)):=j9.q L2.Am fun _ _ _ _=>U9
theorem DP:j9 X (iM .FloorDiv) (qI (fun i j=>0<=i/\i<2^64/\0<j/\j<2^64) fun i j=>.int (i.fdiv j)):=j9.q L2.DP fun _ _ _ _=>U9
theorem d9:j9 X (bZ .Eq) qEq:=j9.q L2.d9 fun _ _ _ _=>ab6
theorem rN:j9 X (bZ .NotEq) qNe:=j9.q L2.rN fun _ _ _ _=>ab4
theorem ki:j9 X (bZ .Lt) (Zc fun i j=>.bl (decide (i<j))):=j9.q L2.ki fun _ _ _ _=>xD
theorem y0:j9 X (bZ .LtE) (Zc fun i j=>.bl (decide (i<=j))):=j9.q L2.y0 fun _ _ _ _=>xD
theorem qy:j9 X (bZ .Gt) (Zc fun i j=>.bl (decide (j<i))):=j9.q L2.qy fun _ _ _ _=>xD
theorem Kv:j9 X (bZ .GtE) (Zc fun i j=>.bl (decide (j<=i))):=j9.q L2.Kv fun _ _ _ _=>xD
theorem kX:Xq X (XG .USub) (qU fun i=>.int (-i)):=Xq.q L2.kX fun _ _ _=>aa4
theorem Mw:Xq X (XG .Invert) (qU fun i=>.int (en i)):=Xq.q L2.Mw fun _ _ _=>aa4
theorem iG:PIp X .Add (qIp fun i j=>i+j):=fun ae s Z H x y v u Q I rx ry q=>L2.iG ae s Z H x y v u Q I rx ry (Hv q)
theorem Ie:PIp X .Sub (qIp fun i j=>i- j):=fun ae s Z H x y v u Q I rx ry q=>L2.Ie ae s Z H x y v u Q I rx ry (Hv q)
theorem mF:XI X .Add (qIp fun i j=>i+j):=fun ae s Z H x y v u Q I rx ry q=>L2.mF ae s Z H x y v u Q I rx ry (Hv q)
theorem xT:XI X .Sub (qIp fun i j=>i- j):=fun ae s Z H x y v u Q I rx ry q=>L2.xT ae s Z H x y v u Q I rx ry (Hv q)
theorem bh(i:Nat){x:Str}{e:dQ}{te:TE}{pos':Pos}(hN:X.N.Nodup)(he:PE X e te)(hi:X.N[i]? =some x:=by rfl)(hx:Loc X.env.scope x:=by walk_at"au")(hs:pW e (some (.Name x pos')) pos.line X.env=pure false:=by rfl)(hf:X.fn x=true\/X.env.scope.names.lookup x=some .local:=by walk_at"au"):PS X (.Assign [.Name x pos'] e pos) (UE te (w8 i)):=L2.bh hN hi hx he hs hf
theorem fk(i:Nat)(hN:X.N.Nodup)(hi:X.N[i]? =some x:=by rfl)(hx:Loc X.env.scope x:=by walk_at"au")(hf:X.fn x=true\/X.env.scope.names.lookup x=some .local:=by walk_at"au"):PG X (.Name x pos) (w8 i):=L2.fk hN hi hx hf
theorem gR(i:Nat){x:Str}{e:dQ}{te:TE}{op:aaB}{ti:TIp}{pos':Pos}(hN:X.N.Nodup)(he:PE X e te)(ho:PIp X op ti)(hi:X.N[i]? =some x:=by rfl)(hx:Loc X.env.scope x:=by walk_at"au")(hf:X.fn x=true\/X.env.scope.names.lookup x=some .local:=by walk_at"au"):
 PS X (.AugAssign (.Name x pos') op e pos) (afr i te ti):=fun ae s Z H D I h=>L2.gR hN hi hx he ho hf ae s Z H D I (by unfold afr at h;rw[Vy]at h;exact h)
theorem aB(c:yh X.K C)(n:dA X.K C f)(he:PE X e ta)(hb:mZ e f X.env (eval e X.env)=eval e X.env:=by exact rfl):PE X (.Attribute e f pos) (qFC C f ta):=ab5▸L2.aB c n he hb
theorem cD{pos pos':Pos}(c:yh X.K C)(n:dA X.K C f)(ha:PE X o ta)(hv:PE X value tv)(hs:pW value (some (.Attribute o f pos')) pos.line X.env=pure false:=by exact rfl):PS X (.Assign [.Attribute o f pos'] value pos) (qsF C f ta tv):=by
 intro ae s Z H D I h;refine plainObj_wpAny_Assign_Attribute (mW (hv ae s Z H _ I h) fun u s1 y H1 I1 ry q=>mW (ha ae s1 Z H1 _ I1 q) fun ov s2 x H2 I2 rx w=> ?_) hs;obtain⟨a,dx,fs,rfl,ea,l,q2⟩:=aa3 w;obtain rfl:ov=bM a:=rx;exact Dq I2 ea c n l ry fun s3 I3=>⟨Z,_,I3,q2⟩
theorem ek(c:yh X.K C)(n:dA X.K C f)(ha:PE X o ta)(hv:PE X value tv)(hop:XI X op r):
 PS X (.AugAssign (.Attribute o f Ua) op value pos) (qsA C f ta tv r):=by
 intro ae s Z H D I h;refine wpAny_AugAssign_AttributeAny (ui (ha ae s Z H _ I h) fun ov s1 ⟨x,H1,I1,rx,w⟩=> ?_);rw[aa6]at w;rcases w with⟨a,dx,fs,v,rfl,ea,l,q⟩;obtain rfl:ov=bM a:=rx;refine Ed I1 ea c n l fun u s2 I2 ru=>ui (hv ae s2 Z H1 _ I2 q) fun w3 s3 ⟨y,H2,I3,ry,q3⟩=>ui (hop ae s3 Z H2 v y u w3 _ I3 ru ry q3) fun w4 s4 ⟨z,H3,I4,rz,w⟩=> ?_;rcases aa3 w with⟨a',dx',fs',ea2,ea',l',q4⟩
 cases ea2
 exact Dq I4 ea' c n l' rz fun s5 I5=>⟨Z,_,I5,q4⟩
theorem b6:IxR X afo:=by
 intro value slice ae s Z H x y v u Q I rx ry q hs;unfold afo at q;rw[nj]at q;obtain⟨p,h1,q⟩:=q;rw[tG]at q;obtain⟨i,h2,q⟩:=q;rw[tF]at q;obtain⟨xs,h3,q⟩:=q;rw[Nn]at q;obtain⟨v',h4,q⟩:=q;exact L2.b6 value slice ae s Z H x y v u Q I rx ry ⟨p,xs,i,v',h1,h2,h3,h4,q⟩ hs
theorem v9:qe X (.builtin "len") U8:=by
 intro ae s Z H xs us Q I r q;unfold U8 at q;rw[HB]at q;obtain⟨x,rfl,q⟩:=q;rw[nj]at q;obtain⟨p,rfl,q⟩:=q;rw[tF]at q;obtain⟨ys,h3,q⟩:=q;exact L2.v9 ae s Z H _ us Q I r ⟨p,ys,rfl,h3,q⟩
theorem sk:qe X (.builtin "len") aa5:=by
 intro ae s Z H xs us Q I r q;unfold aa5 at q;rw[HB]at q;obtain⟨x,rfl,q⟩:=q;rw[nj]at q;obtain⟨p,rfl,q⟩:=q;rw[acj]at q;obtain⟨ys,h3,q⟩:=q;exact L2.sk ae s Z H _ us Q I r ⟨p,ys,rfl,h3,q⟩
theorem ic:Xr X afm:=by
 intro ae s Z H x v vl vu lo hi sl Q I rx hs pl pu q;unfold afm at q;rw[nj]at q;obtain⟨p,h1,q⟩:=q;rw[tF]at q;obtain⟨xs,h3,q⟩:=q;exact L2.ic ae s Z H x v vl vu lo hi sl Q I rx hs pl pu ⟨p,xs,h1,h3,q⟩
theorem fg:MtM X "list.append" Pb:=by
 intro ae s Z H x xs v us Q I rx r q;unfold Pb at q;rw[nj]at q;obtain⟨p,h1,q⟩:=q;rw[HB]at q;obtain⟨y,h2,q⟩:=q;rw[tF]at q;obtain⟨l,h3,h4,q⟩:=q;exact L2.fg ae s Z H x xs v us Q I rx r ⟨p,l,y,h1,h2,h3,h4,q⟩
theorem jP:MtM X "list.extend" Pa:=by
 intro ae s Z H x xs v us Q I rx r q;unfold Pa at q;rw[nj]at q;obtain⟨p,h1,q⟩:=q;rw[HB]at q;obtain⟨y,h2,q⟩:=q;rw[nj]at q;obtain⟨b,rfl,q⟩:=q;rw[tF]at q;obtain⟨l,h3,q⟩:=q;rw[tF]at q;obtain⟨m,h4,h5,q⟩:=q;exact L2.jP ae s Z H x xs v us Q I rx r ⟨p,b,l,m,h1,h2,h3,h4,h5,q⟩
theorem q0:MtM X "list.pop" afn:=by
 intro ae s Z H x xs v us Q I rx r q;unfold afn at q;rw[nj]at q;obtain⟨p,h1,q⟩:=q;rw[acs]at q;obtain⟨h2,q⟩:=q;rw[tF]at q;obtain⟨l,h3,q⟩:=q;rw[Nn]at q;obtain⟨y,h4,q⟩:=q;exact L2.q0 ae s Z H x xs v us Q I rx r ⟨p,l,y,h1,h2,h3,h4,q⟩
theorem ty_list{K:aA}{H:Hp}{p:ao}{xs:List V}(h:H p=some (.lst xs)):tyV K "list" (.ref p) H:=.inl ⟨rfl,_,kE.of h⟩
theorem j0{o e:dQ}{es:List dQ}{to:TE}{t:TA}{name:Str}{apos kL:Pos}{id:String}{r:V->List V->Hp->VK->Prop}(pa:PlainAttrs "list")(slot:Slot "list" name id)(hty:typeOf (.builtin id)=pure (.type "method_descriptor"))(hm:MtR X id r)(ho:PE X o to)(ha:PA X (e::es) t)
 (Wt:mZ o name X.env (eval o X.env)=eval o X.env:=by rfl)
 (ajC:((jE kL (bN (e::es) X.env)).all (fun x=> !x.1)&&(uc kL (lT [] X.env)).all (fun x=>x.1.isSome)
  &&decide ((e::es).length+([]:List F1).length+(if ([]:List F1).isEmpty then 0 else 1)<30))=true:=by rfl)
 (Wl:(apos.endLine==kL.line)=true:=by rfl) (hs:bN (e::es) X.env=(false,eval e X.env)::bN es X.env:=by rfl) (ac0:(jE kL (bN es X.env)).any (·.1)=false:=by rfl):
 PE X (.Call (.Attribute o name apos) (e::es) [] kL) (qBM r to t):=by
 intro ae s Z H Q I h;refine Xx Wt ajC Wl rfl (ui (ho ae s Z H _ I h) fun v s1 ⟨x,H1,I1,r1,w⟩=> ?_);rw[nj]at w;obtain⟨p,rfl,w⟩:=w;rw[tF]at w;obtain⟨l,hl,q1⟩:=w;obtain⟨h1,h2⟩:=My I1 r1 (ty_list hl);exists "list",id,pa,slot,hty,h1,h2;have hA:=ha kL ae s1 Z H1 _ I1 q1;rw[hs]at hA⊢;refine fG (by show (false||(jE kL (bN es X.env)).any (·.1))=false;rw[ac0]<;>rfl) (iK ?_);exact ui hA fun us s2 ⟨vs,H2,I2,r2,q2⟩=>hm ae s2 Z H2 _ vs v us Q I2 r1 r2 q2
theorem vf{o:dQ}{to:TE}{name:Str}{apos kL:Pos}{id:String}{r:V->List V->Hp->VK->Prop}(pa:PlainAttrs "list")(slot:Slot "list" name id)(hty:typeOf (.builtin id)=pure (.type "method_descriptor"))(hm:MtR X id r)(ho:PE X o to)
 (Wt:mZ o name X.env (eval o X.env)=eval o X.env:=by rfl) (Wl:(apos.endLine==kL.line)=true:=by rfl):PE X (.Call (.Attribute o name apos) [] [] kL) (aiK r to):=by
 intro ae s Z H Q I h;refine wpAny_Call_method0_late Wt Wl (ui (ho ae s Z H _ I h) fun v s1 ⟨x,H1,I1,r1,w⟩=> ?_);rw[nj]at w;obtain⟨p,rfl,w⟩:=w;rw[tF]at w;obtain⟨l,hl,q1⟩:=w;obtain⟨h1,h2⟩:=My I1 r1 (ty_list hl);exact⟨"list",id,pa,slot,hty,h1,h2,fG rfl (PySem.evalArgs_none (hm ae s1 Z H1 _ [] v [] Q I1 r1 .nil q1))⟩
end
section
variable{X:Cx}{CX:G4}{x m q:Str}{n i:Nat}{ps:List Str}{j k:Nat}{sp:Sp}{E:XK}{e o:dQ}{es:List dQ}{t:TA}{ta te:TE}{p pos apos:Pos}{C:ao}
theorem p1(a:PE X e te)(hs:bN [e] X.env=[(false,eval e X.env)]:=by rfl):PA X [e] (CZ te He):=aV a c9 hs
abbrev Pln(X:Cx)(pos:Pos)(e:dQ)(es:List dQ):Prop:=bN (e::es) X.env=(false,eval e X.env)::bN es X.env/\(jE pos (bN es X.env)).any (·.1)=false
theorem cG(F:jU X.K X.mg x n ps)(ok:eR X.prog X.w X.K X.mg X.base CX k F.f F.d ps sp)(r:jN j X.A)(hx:lV CX X E)(ha:PA X (e::es) t)(hk:k<=j:=by decide)(hg:Gl X x:=by exact rfl)(hd:(x==("__debug__":Str))=false:=by decide)(h:Pln X pos e es:=by exact⟨rfl,rfl⟩):
 PE X (.Call (.Name x p) (e::es) [] pos) (OZ sp [] E t):=Zh ok (r.mono hk) hg F.m F.F.kp F.b .nil hx ha hd h.1 h.2
theorem cM{pl:Sem Bool}(he:PE X o ta)(c:yh X.K C)(F:oz X.K C m q n i ps)(ok:eR X.prog X.w X.K X.mg X.base CX k F.f F.d ps sp)(r:jN j X.A)(hx:lV CX X E)(ha:PA X (e::es) t)(hk:k<=j:=by decide)(h:Pln X pos e es:=by exact⟨rfl,rfl⟩)
 (ht:eval (.Call (.Attribute o m apos) (e::es) [] pos) X.env=(do
  let ov<-eval o X.env
  Bs apos.atName
  let (f,first)<-uC [ov] (wK ov m pl)
  F2 pos f first (jE pos (bN (e::es) X.env)) (uc pos (lT [] X.env))):=by rfl):
 PE X (.Call (.Attribute o m apos) (e::es) [] pos) (Kr C m sp [] E ta t):=PE.q iX (Zg he c F.M ok (r.mono hk) F.b .nil hx ha h.1 h.2 ht)
theorem cL(T:Top X.K X.mg)(a:PE X e te)(hg:Gl X "len":=by exact rfl)(h:Pln X pos e []:=by exact⟨rfl,rfl⟩):PE X (.Call (.Name "len" p) [e] [] pos) (tCB U8 (CZ te He)):=jJ v9 hg T.Bg mY (p1 a h.1) (by decide) (by decide) h.1 h.2
end
section
variable{P:bD}{w:cP}{K:aA}{mg:Str->Option ax}{ag:dg}{x aG:Str}{st:zI}{ps:List Str}{k:Nat}{sp:Sp}
abbrev FnAt.Ok(R:FnAt K x aG st ps)(P:bD)(w:cP)(mg:Str->Option ax)(ag:dg)(C:G4)(k:Nat)(sp:Sp):Prop:=eR P w K mg ag C k R.f R.d ps sp
theorem FnAt.jG(R:FnAt K x aG st ps)(N:List Str)(hb:∀(nV:ax) (A:cN) (aH:List Env) (s:az) (H:Hp) (vs:List V) (Q:VK) (E:XK),jN k (A.deeper (envOfC aG (dv st) s.heap.objs.size R.f nV))->N.Nodup->sp vs H Q E->
 ∃t,Mr (iJ iN P w K mg ag N aG (dv st) R.f nV A aH s H E).HF (lC st) t/\t {nx:=fun _ H'=>Q .fI H',rt:=Q} (start N vs) H)
 (sc:wg N ps (dv st):=by walk_at"sc") (hl:∀vs H Q E,sp vs H Q E->vs.length=ps.length:=by walk_at"ln"):R.Ok P w mg ag iN (k+1) sp:=
 R.F.ok sc hl fun nV A aH s H vs Q E hr h=>hb nV A aH s H vs Q E hr sc.nd h
theorem FnAt.qj(R:FnAt K x aG st ps)(N:List Str)(hb:∀(nV:ax) (A:cN) (aH:List Env) (s:az) (H:Hp) (vs:List V) (Q:VK) (E:XK),jN k (A.deeper (envOfC aG (dv st) s.heap.objs.size R.f nV))->N.Nodup->sp vs H Q E->
 ∃t,Mr (iJ (jF P w) P w K mg ag N aG (dv st) R.f nV A aH s H E) (lC st) t/\t {nx:=fun _ H'=>Q .fI H',rt:=Q} (start N vs) H)
 (sc:wg N ps (dv st):=by walk_at"sc") (hl:∀vs H Q E,sp vs H Q E->vs.length=ps.length:=by walk_at"ln"):R.Ok P w mg ag (jF P w) (k+1) sp:=
 R.F.qj sc hl fun nV A aH s H vs Q E hr h=>hb nV A aH s H vs Q E hr sc.nd h
end
end
end
end TM
namespace TM
open PySem PySem.Spec PyProof.Rows L2
open Ra32 (B)
section
section
variable{X:Cx}{D:Ends}{Z:L2.St}{H:Hp}{Q:VK}{R:Bool->Hp->Prop}{RA:List V->Hp->Prop}{ta tb te tv:TE}{t u:TS}{tt tu:TT}{tl:TA}{i j:Nat}{a b:Int}{p:ao}{v x y:V}
section
variable{CX:G4}{P:bD}{w:cP}{K:aA}{mg:Str->Option ax}{ag:dg}{N:List Str}{q:Str}{sc:ia}{f:ao}{cd:ax}{A:cN}{o:List Env}{s:az}{H:Hp}{E:XK}
theorem alz:(iJ CX P w K mg ag N q sc f cd A o s H E).K=K:=rfl
theorem aly:(iJ CX P w K mg ag N q sc f cd A o s H E).prog=P:=rfl
theorem alw:(iJ CX P w K mg ag N q sc f cd A o s H E).w=w:=rfl
theorem alx:(iJ CX P w K mg ag N q sc f cd A o s H E).base=ag:=rfl
end
def Opn(a b:L2.St->Hp->Prop):Prop:=∀Z H,a Z H->b Z H
theorem Opn.go{a b:L2.St->Hp->Prop}(o:Opn a b)(h:a Z H):b Z H:=o Z H h
theorem Z4(k:∀N,Opn (u D) N->t {D with nx:=N} Z H):aeS t u D Z H:=k _ fun _ _ h=>h
theorem ahe:aaV D Z H=D.nx Z H:=rfl
theorem ahi:Uw te D Z H=te Z H fun _ H1=>D.nx Z H1:=rfl
theorem aim:aeT te D Z H=te Z H D.rt:=rfl
theorem ahd:aaU D Z H=D.rt .fI H:=rfl
theorem akw:aeZ tt t u D Z H=tt Z H fun b H1=>if b=true then t D Z H1 else u D Z H1:=rfl
theorem aiu:UE te g D Z H=te Z H fun x H1=>g x Z H1 D.nx:=rfl
theorem ae5:w8 i v Z H k=k (Z.set i (some v)) H:=rfl
theorem ae4:Us E C D Z H=E (.ref C) none H:=rfl
theorem ab0:aeP Z H R=R true H:=rfl
theorem ak4:tC v Z H Q=Q v H:=rfl
theorem aku:tOp r ta tb Z H Q=ta Z H fun x H1=>tb Z H1 fun y H2=>r x y H2 Q:=rfl
theorem akr:tUn r ta Z H Q=ta Z H fun x H1=>r x H1 Q:=rfl
theorem aiv:ae0 tt tu Z H R=tt Z H fun c H1=>if c=true then tu Z H1 R else R false H1:=rfl
theorem akt:tOr tt tu Z H R=tt Z H fun c H1=>if c=true then R true H1 else tu Z H1 R:=rfl
theorem ain:aeU tt Z H R=tt Z H fun c H1=>R (!c) H1:=rfl
theorem air:tIf tt ta tb Z H Q=tt Z H fun c H1=>if c=true then ta Z H1 Q else tb Z H1 Q:=rfl
theorem akx:tCB r tl Z H Q=tl Z H fun vs H1=>r vs H1 Q:=rfl
theorem ahk:CZ te tl Z H RA=te Z H fun x H1=>tl Z H1 fun xs H2=>RA (x::xs) H2:=rfl
theorem aio:He Z H RA=RA [] H:=rfl
theorem ahl:OZ sp wB E tl Z H Q=tl Z H fun vs H1=>sp (vs++wB) H1 Q E:=rfl
theorem ahf:Uv C sp wB E tl Z H Q=tl Z H fun vs H1=>∀x dx,H1 x=none->H1 dx=none->dx≠x->sp (.ref x::(vs++wB)) (upd (upd H1 dx (.own x)) x (.ins C dx [])) (fun v H2=>v= .fI/\Q (.ref x) H2) E:=rfl
theorem aip:aeV tl Z H Q=tl Z H fun xs H1=>xs.length<=sizeLine/\∀p,H1 p=none->Q (.ref p) (upd H1 p (.lst xs)):=rfl
theorem ail:aeQ tl Z H Q=tl Z H fun xs H1=>xs.length<=sizeLine/\∀p,H1 p=none->Q (.ref p) (upd H1 p (.tup xs)):=rfl
theorem aks:tSl r te t1 t2 Z H Q=te Z H fun x H1=>t1 Z H1 fun l H2=>t2 Z H2 fun u H3=>r x l u H3 Q:=rfl
theorem aeb:OV Z H k=k none H:=rfl
theorem aih:aiF (.ref p) (.int a) H Q↔∃xs v,H p=some (.tup xs)/\zF xs a=some v/\Q v H:=⟨by rintro⟨_,xs,_,v,e1,e2,r⟩;cases e1;cases e2;exact⟨xs,v,r⟩,fun⟨xs,v,r⟩=>⟨_,xs,_,v,rfl,rfl,r⟩⟩
theorem abV{K:aA}{xs:List V}(h:H p=some (.lst xs)):tyV K "list" (.ref p) H:=.inl ⟨rfl,_,kE.of h⟩
theorem at0{α:Type}{x:α}{l:List α}:(x::l)[0]? =some x:=rfl
theorem at1{α:Type}{x y:α}{l:List α}:(x::y::l)[1]? =some y:=rfl
theorem at2{α:Type}{x y z:α}{l:List α}:(x::y::z::l)[2]? =some z:=rfl
theorem at3{α:Type}{x y z w:α}{l:List α}:(x::y::z::w::l)[3]? =some w:=rfl
theorem at4{α:Type}{x y z w u:α}{l:List α}:(x::y::z::w::u::l)[4]? =some u:=rfl
theorem at5{α:Type}{x y z w u v:α}{l:List α}:(x::y::z::w::u::v::l)[5]? =some v:=rfl
theorem at6{α:Type}{x y z w u v s:α}{l:List α}:(x::y::z::w::u::v::s::l)[6]? =some s:=rfl
theorem akE{α:Type}{x:α}{P:α->Prop}:(∃v,some (some x)=some (some v)/\P v)↔P x:=⟨by rintro⟨_,e,q⟩;cases e;exact q,fun q=>⟨_,rfl,q⟩⟩
theorem akD{b:Bool}{P:Bool->Prop}:(∃k,V.bl b=V.bl k/\P k)↔P b:=⟨by rintro⟨_,e,q⟩;cases e;exact q,fun q=>⟨_,rfl,q⟩⟩
theorem aj4{P:Int->Prop}:(∃k,V.int a=V.int k/\P k)↔P a:=⟨by rintro⟨_,e,q⟩;cases e;exact q,fun q=>⟨_,rfl,q⟩⟩
theorem aht{α:Type}{x:α}{P:α->Prop}:(∃v,some x=some v/\P v)↔P x:=⟨by rintro⟨_,e,q⟩;cases e;exact q,fun q=>⟨_,rfl,q⟩⟩
theorem aj5{P:ao->List (Str×V)->Prop}:(∃d f,some (HO.ins C dx fs)=some (HO.ins C d f)/\P d f)↔P dx fs:=⟨by rintro⟨_,_,e,q⟩;cases e;exact q,fun q=>⟨_,_,rfl,q⟩⟩
theorem ahz{P:ao->List (Str×V)->V->Prop}:(∃d f v,some (HO.ins C dx fs)=some (HO.ins C d f)/\P d f v)↔∃v,P dx fs v:=⟨by rintro⟨_,_,v,e,q⟩;cases e;exact⟨v,q⟩,fun⟨v,q⟩=>⟨_,_,v,rfl,q⟩⟩
theorem aj2{P:List V->Prop}:(∃l,some (HO.lst xs)=some (HO.lst l)/\P l)↔P xs:=⟨by rintro⟨_,e,q⟩;cases e;exact q,fun q=>⟨_,rfl,q⟩⟩
theorem ahx{P:List V->V->Prop}:(∃l v,some (HO.lst xs)=some (HO.lst l)/\P l v)↔∃v,P xs v:=⟨by rintro⟨_,v,e,q⟩;cases e;exact⟨v,q⟩,fun⟨v,q⟩=>⟨_,v,rfl,q⟩⟩
theorem ahw{P:List V->List V->Prop}:(∃l m,some (HO.lst xs)=some (HO.lst l)/\some (HO.lst zs)=some (HO.lst m)/\P l m)↔P xs zs:=⟨by rintro⟨_,_,e,e2,q⟩;cases e;cases e2;exact q,fun q=>⟨_,_,rfl,rfl,q⟩⟩
theorem aj0{P:List V->Prop}:(∃l,some (HO.tup xs)=some (HO.tup l)/\P l)↔P xs:=⟨by rintro⟨_,e,q⟩;cases e;exact q,fun q=>⟨_,rfl,q⟩⟩
end
def iv(l:B):List V:=l.map fun(n:Nat)=>V.int (n:Int)
theorem oI{l:B}:(iv l).length=l.length:=aN _
theorem Pu{i:Nat}:(iv l)[i]? =(l[i]?).map fun(n:Nat)=>V.int (n:Int):=cJ
theorem Ib:iv l++iv m=iv (l++m):=(bL).symm
theorem eS(l:B):iv l=(l.map fun(n:Nat)=>(n:Int)).map V.int:=by unfold iv;rw[gP];rfl
theorem D4{l m:B}:(l.map fun(n:Nat)=>(n:Int))=(m.map fun(n:Nat)=>(n:Int))↔l=m:=by
 constructor
 ·intro h
  induction l generalizing m with
  |nil=>cases m with
   |nil=>rfl
   |cons y m=>cases h
  |cons x l ih=>cases m with
   |nil=>cases h
   |cons y m=>
    have h:=m8 h;rw[ih h.2,alA h.1]
 ·rintro rfl;rfl
theorem jV{i c:Nat}(h:l[i]? =some c):zF (iv l) (i:Int)=some (V.int (c:Int)):=Cv (by rw[Pu,h];rfl)
theorem Qg{xs:List V}{i j:Nat}:lr xs (some (i:Int)) (some (j:Int))=(xs.drop (min i xs.length)).take (min j xs.length- min i xs.length):=by unfold lr;rw[HT.sZ,HT.sZ]
theorem Cs{l:B}{i j:Nat}:lr (iv l) (some (i:Int)) (some (j:Int))=iv ((l.drop i).take (j- i)):=by
 rw[Qg,oI];unfold iv;rw[<-sM,<-eB]
 congr 1
 by_cases hi:i<=l.length
 ·rw[gH hi]
  by_cases hj:j<=l.length
  ·rw[gH hj]
  ·rw[ly (by omega),bA (by rw[aL];omega),bA (by rw[aL];omega)]
 ·rw[ly (iR (aaI hi)),bF (aE _),bF (iR (aaI hi))];simp
theorem si{l:B}{i:Nat}:lr (iv l) (some (i:Int)) none=iv (l.drop i):=by
 unfold lr;rw[HT.sZ,HT.Dr,oI];unfold iv;rw[<-sM,<-eB]
 congr 1
 by_cases hi:i<=l.length
 ·rw[gH hi,bA (by rw[aL];omega)]
 ·rw[ly (by omega),bF (aE _),bF (by omega)];simp
theorem LB{l:B}{j:Nat}:lr (iv l) none (some (j:Int))=iv (l.take j):=by
 unfold lr;rw[HT.sZ,HT.Dr,oI,kU,vK];unfold iv;rw[<-eB]
 congr 1
 by_cases hj:j<=l.length
 ·rw[gH hj]
 ·rw[ly (by omega),bA (aE _),bA (by omega)]
def kK(x0 x1:V):List (Str×V):=[("opening",x0),("closing",x1)]
def eN(x0 x1:V):List (Str×V):=[("word",x0),("text",x1)]
def fNames(x0 x1:V):List (Str×V):=[("meanings",x0),("size",x1)]
def b0(x0 x1 x2 x3 x4:V):List (Str×V):=[("text",x0),("place",x1),("numbers",x2),("waiting",x3),("wants_number",x4)]
def cT(x0 x1 x2:V):List (Str×V):=[("place",x0),("row",x1),("in_names",x2)]
def cY(x0 x1 x2 x3 x4:V):List (Str×V):=[("names",x0),("quotes",x1),("target",x2),("texts",x3),("size_put_by",x4)]
def fw(x0 x1 x2 x3 x4 x5:V):List (Str×V):=[("name",x0),("meaning",x1),("arguments",x2),("begun",x3),("depth",x4),("size",x5)]
def f9(x0 x1 x2 x3 x4 x5 x6:V):List (Str×V):=[("system",x0),("source",x1),("most",x2),("written",x3),("calls",x4),("held",x5),("used",x6)]
abbrev Rc:=List (Str×V)
section
variable{x0 x1 x2 x3 x4 x5 x6 y:V}
theorem Ts:(kK x0 x1).lookup ("opening":Str)=some x0:=rfl
theorem Mh:dB "opening" y (kK x0 x1)=kK y x1:=rfl
theorem aep:dB "opening" y []=([("opening",y)]:Rc):=rfl
theorem Tt:(kK x0 x1).lookup ("closing":Str)=some x1:=rfl
theorem Mi:dB "closing" y (kK x0 x1)=kK x0 y:=rfl
theorem aeo:dB "closing" y [("opening",x0)]=kK x0 y:=rfl
theorem Lv:(kK x0 x1).lookup ("put_round":Str)=none:=rfl
theorem abt:short 9 (kK x0 x1)=true:=rfl
theorem Yj:(eN x0 x1).lookup ("word":Str)=some x0:=rfl
theorem P7:dB "word" y (eN x0 x1)=eN y x1:=rfl
theorem acS:dB "word" y []=([("word",y)]:Rc):=rfl
theorem Yk:(eN x0 x1).lookup ("text":Str)=some x1:=rfl
theorem P8:dB "text" y (eN x0 x1)=eN x0 y:=rfl
theorem acR:dB "text" y [("word",x0)]=eN x0 y:=rfl
theorem aap:short 9 (eN x0 x1)=true:=rfl
theorem Tv:(fNames x0 x1).lookup ("meanings":Str)=some x0:=rfl
theorem Mj:dB "meanings" y (fNames x0 x1)=fNames y x1:=rfl
theorem afJ:dB "meanings" y []=([("meanings",y)]:Rc):=rfl
theorem abu:(fNames x0 x1).lookup ("size":Str)=some x1:=rfl
theorem Tu:dB "size" y (fNames x0 x1)=fNames x0 y:=rfl
theorem afI:dB "size" y [("meanings",x0)]=fNames x0 y:=rfl
theorem Sj:(fNames x0 x1).lookup ("latest":Str)=none:=rfl
theorem Ml:(fNames x0 x1).lookup ("need_room":Str)=none:=rfl
theorem Sk:(fNames x0 x1).lookup ("define":Str)=none:=rfl
theorem W0:(fNames x0 x1).lookup ("push":Str)=none:=rfl
theorem Jr:(fNames x0 x1).lookup ("drop_latest":Str)=none:=rfl
theorem Oo:(fNames x0 x1).lookup ("drop_all":Str)=none:=rfl
theorem adx:short 9 (fNames x0 x1)=true:=rfl
theorem Tr:(b0 x0 x1 x2 x3 x4).lookup ("text":Str)=some x0:=rfl
theorem Mg:dB "text" y (b0 x0 x1 x2 x3 x4)=b0 y x1 x2 x3 x4:=rfl
theorem ZN:dB "text" y []=([("text",y)]:Rc):=rfl
theorem Si:(b0 x0 x1 x2 x3 x4).lookup ("place":Str)=some x1:=rfl
theorem Ls:dB "place" y (b0 x0 x1 x2 x3 x4)=b0 x0 y x2 x3 x4:=rfl
theorem ZM:dB "place" y [("text",x0)]=([("text",x0),("place",y)]:Rc):=rfl
theorem Om:(b0 x0 x1 x2 x3 x4).lookup ("numbers":Str)=some x2:=rfl
theorem IJ:dB "numbers" y (b0 x0 x1 x2 x3 x4)=b0 x0 x1 y x3 x4:=rfl
theorem ZL:dB "numbers" y [("text",x0),("place",x1)]=([("text",x0),("place",x1),("numbers",y)]:Rc):=rfl
theorem Ol:(b0 x0 x1 x2 x3 x4).lookup ("waiting":Str)=some x3:=rfl
theorem II:dB "waiting" y (b0 x0 x1 x2 x3 x4)=b0 x0 x1 x2 y x4:=rfl
theorem ZK:dB "waiting" y [("text",x0),("place",x1),("numbers",x2)]=([("text",x0),("place",x1),("numbers",x2),("waiting",y)]:Rc):=rfl
theorem GB:(b0 x0 x1 x2 x3 x4).lookup ("wants_number":Str)=some x4:=rfl
theorem Cq:dB "wants_number" y (b0 x0 x1 x2 x3 x4)=b0 x0 x1 x2 x3 y:=rfl
theorem ZJ:dB "wants_number" y [("text",x0),("place",x1),("numbers",x2),("waiting",x3)]=b0 x0 x1 x2 x3 y:=rfl
theorem IK:(b0 x0 x1 x2 x3 x4).lookup ("work_out":Str)=none:=rfl
theorem AH:(b0 x0 x1 x2 x3 x4).lookup ("read_number_side":Str)=none:=rfl
theorem B2:(b0 x0 x1 x2 x3 x4).lookup ("read_sign_side":Str)=none:=rfl
theorem FK:(b0 x0 x1 x2 x3 x4).lookup ("end_number":Str)=none:=rfl
theorem Lu:(b0 x0 x1 x2 x3 x4).lookup ("settle":Str)=none:=rfl
theorem WZ:short 9 (b0 x0 x1 x2 x3 x4)=true:=rfl
theorem Ye:(cT x0 x1 x2).lookup ("place":Str)=some x0:=rfl
theorem P2:dB "place" y (cT x0 x1 x2)=cT y x1 x2:=rfl
theorem aen:dB "place" y []=([("place",y)]:Rc):=rfl
theorem abo:(cT x0 x1 x2).lookup ("row":Str)=some x1:=rfl
theorem To:dB "row" y (cT x0 x1 x2)=cT x0 y x2:=rfl
theorem aem:dB "row" y [("place",x0)]=([("place",x0),("row",y)]:Rc):=rfl
theorem Se:(cT x0 x1 x2).lookup ("in_names":Str)=some x2:=rfl
theorem Ln:dB "in_names" y (cT x0 x1 x2)=cT x0 x1 y:=rfl
theorem ael:dB "in_names" y [("place",x0),("row",x1)]=cT x0 x1 y:=rfl
theorem Mf:(cT x0 x1 x2).lookup ("has_more":Str)=none:=rfl
theorem Jq:(cT x0 x1 x2).lookup ("put_before":Str)=none:=rfl
theorem IF:(cT x0 x1 x2).lookup ("starts_name":Str)=none:=rfl
theorem Lp:(cT x0 x1 x2).lookup ("read_name":Str)=none:=rfl
theorem Lq:(cT x0 x1 x2).lookup ("read_line":Str)=none:=rfl
theorem IH:(cT x0 x1 x2).lookup ("begins_with":Str)=none:=rfl
theorem Lo:(cT x0 x1 x2).lookup ("stands_at":Str)=none:=rfl
theorem IG:(cT x0 x1 x2).lookup ("read_quoted":Str)=none:=rfl
theorem Gz:(cT x0 x1 x2).lookup ("end_of_bytes":Str)=none:=rfl
theorem FI:(cT x0 x1 x2).lookup ("end_of_quotes":Str)=none:=rfl
theorem abp:short 9 (cT x0 x1 x2)=true:=rfl
theorem Yd:(cY x0 x1 x2 x3 x4).lookup ("names":Str)=some x0:=rfl
theorem P0:dB "names" y (cY x0 x1 x2 x3 x4)=cY y x1 x2 x3 x4:=rfl
theorem aej:dB "names" y []=([("names",y)]:Rc):=rfl
theorem WX:(cY x0 x1 x2 x3 x4).lookup ("quotes":Str)=some x1:=rfl
theorem Og:dB "quotes" y (cY x0 x1 x2 x3 x4)=cY x0 y x2 x3 x4:=rfl
theorem aei:dB "quotes" y [("names",x0)]=([("names",x0),("quotes",y)]:Rc):=rfl
theorem WW:(cY x0 x1 x2 x3 x4).lookup ("target":Str)=some x2:=rfl
theorem Of:dB "target" y (cY x0 x1 x2 x3 x4)=cY x0 x1 y x3 x4:=rfl
theorem aeh:dB "target" y [("names",x0),("quotes",x1)]=([("names",x0),("quotes",x1),("target",y)]:Rc):=rfl
theorem Yc:(cY x0 x1 x2 x3 x4).lookup ("texts":Str)=some x3:=rfl
theorem PZ:dB "texts" y (cY x0 x1 x2 x3 x4)=cY x0 x1 x2 y x4:=rfl
theorem aeg:dB "texts" y [("names",x0),("quotes",x1),("target",x2)]=([("names",x0),("quotes",x1),("target",x2),("texts",y)]:Rc):=rfl
theorem Md:(cY x0 x1 x2 x3 x4).lookup ("size_put_by":Str)=some x4:=rfl
theorem Gw:dB "size_put_by" y (cY x0 x1 x2 x3 x4)=cY x0 x1 x2 x3 y:=rfl
theorem aef:dB "size_put_by" y [("names",x0),("quotes",x1),("target",x2),("texts",x3)]=cY x0 x1 x2 x3 y:=rfl
theorem Me:(cY x0 x1 x2 x3 x4).lookup ("write_to":Str)=none:=rfl
theorem P1:(cY x0 x1 x2 x3 x4).lookup ("put_by":Str)=none:=rfl
theorem Gy:(cY x0 x1 x2 x3 x4).lookup ("to_give_back":Str)=none:=rfl
theorem Lm:(cY x0 x1 x2 x3 x4).lookup ("take_away":Str)=none:=rfl
theorem Sd:(cY x0 x1 x2 x3 x4).lookup ("aside":Str)=none:=rfl
theorem abn:short 9 (cY x0 x1 x2 x3 x4)=true:=rfl
theorem adz:(fw x0 x1 x2 x3 x4 x5).lookup ("name":Str)=some x0:=rfl
theorem W2:dB "name" y (fw x0 x1 x2 x3 x4 x5)=fw y x1 x2 x3 x4 x5:=rfl
theorem ahr:dB "name" y []=([("name",y)]:Rc):=rfl
theorem Yl:(fw x0 x1 x2 x3 x4 x5).lookup ("meaning":Str)=some x1:=rfl
theorem P9:dB "meaning" y (fw x0 x1 x2 x3 x4 x5)=fw x0 y x2 x3 x4 x5:=rfl
theorem ahq:dB "meaning" y [("name",x0)]=([("name",x0),("meaning",y)]:Rc):=rfl
theorem Tz:(fw x0 x1 x2 x3 x4 x5).lookup ("arguments":Str)=some x2:=rfl
theorem Mm:dB "arguments" y (fw x0 x1 x2 x3 x4 x5)=fw x0 x1 y x3 x4 x5:=rfl
theorem ahp:dB "arguments" y [("name",x0),("meaning",x1)]=([("name",x0),("meaning",x1),("arguments",y)]:Rc):=rfl
theorem abw:(fw x0 x1 x2 x3 x4 x5).lookup ("begun":Str)=some x3:=rfl
theorem Tx:dB "begun" y (fw x0 x1 x2 x3 x4 x5)=fw x0 x1 x2 y x4 x5:=rfl
theorem aho:dB "begun" y [("name",x0),("meaning",x1),("arguments",x2)]=([("name",x0),("meaning",x1),("arguments",x2),("begun",y)]:Rc):=rfl
theorem abv:(fw x0 x1 x2 x3 x4 x5).lookup ("depth":Str)=some x4:=rfl
theorem Tw:dB "depth" y (fw x0 x1 x2 x3 x4 x5)=fw x0 x1 x2 x3 y x5:=rfl
theorem ahn:dB "depth" y [("name",x0),("meaning",x1),("arguments",x2),("begun",x3)]=([("name",x0),("meaning",x1),("arguments",x2),("begun",x3),("depth",y)]:Rc):=rfl
theorem ady:(fw x0 x1 x2 x3 x4 x5).lookup ("size":Str)=some x5:=rfl
theorem W1:dB "size" y (fw x0 x1 x2 x3 x4 x5)=fw x0 x1 x2 x3 x4 y:=rfl
theorem ahm:dB "size" y [("name",x0),("meaning",x1),("arguments",x2),("begun",x3),("depth",x4)]=fw x0 x1 x2 x3 x4 y:=rfl
theorem aew:short 9 (fw x0 x1 x2 x3 x4 x5)=true:=rfl
theorem abq:(f9 x0 x1 x2 x3 x4 x5 x6).lookup ("system":Str)=some x0:=rfl
theorem Tp:dB "system" y (f9 x0 x1 x2 x3 x4 x5 x6)=f9 y x1 x2 x3 x4 x5 x6:=rfl
theorem ai2:dB "system" y []=([("system",y)]:Rc):=rfl
theorem abr:(f9 x0 x1 x2 x3 x4 x5 x6).lookup ("source":Str)=some x1:=rfl
theorem Tq:dB "source" y (f9 x0 x1 x2 x3 x4 x5 x6)=f9 x0 y x2 x3 x4 x5 x6:=rfl
theorem ai1:dB "source" y [("system",x0)]=([("system",x0),("source",y)]:Rc):=rfl
theorem aeu:(f9 x0 x1 x2 x3 x4 x5 x6).lookup ("most":Str)=some x2:=rfl
theorem Yg:dB "most" y (f9 x0 x1 x2 x3 x4 x5 x6)=f9 x0 x1 y x3 x4 x5 x6:=rfl
theorem ai0:dB "most" y [("system",x0),("source",x1)]=([("system",x0),("source",x1),("most",y)]:Rc):=rfl
theorem aam:(f9 x0 x1 x2 x3 x4 x5 x6).lookup ("written":Str)=some x3:=rfl
theorem Sf:dB "written" y (f9 x0 x1 x2 x3 x4 x5 x6)=f9 x0 x1 x2 y x4 x5 x6:=rfl
theorem aiZ:dB "written" y [("system",x0),("source",x1),("most",x2)]=([("system",x0),("source",x1),("most",x2),("written",y)]:Rc):=rfl
theorem adw:(f9 x0 x1 x2 x3 x4 x5 x6).lookup ("calls":Str)=some x4:=rfl
theorem WY:dB "calls" y (f9 x0 x1 x2 x3 x4 x5 x6)=f9 x0 x1 x2 x3 y x5 x6:=rfl
theorem aiY:dB "calls" y [("system",x0),("source",x1),("most",x2),("written",x3)]=([("system",x0),("source",x1),("most",x2),("written",x3),("calls",y)]:Rc):=rfl
theorem aev:(f9 x0 x1 x2 x3 x4 x5 x6).lookup ("held":Str)=some x5:=rfl
theorem Yh:dB "held" y (f9 x0 x1 x2 x3 x4 x5 x6)=f9 x0 x1 x2 x3 x4 y x6:=rfl
theorem aiX:dB "held" y [("system",x0),("source",x1),("most",x2),("written",x3),("calls",x4)]=([("system",x0),("source",x1),("most",x2),("written",x3),("calls",x4),("held",y)]:Rc):=rfl
theorem aet:(f9 x0 x1 x2 x3 x4 x5 x6).lookup ("used":Str)=some x6:=rfl
theorem Yf:dB "used" y (f9 x0 x1 x2 x3 x4 x5 x6)=f9 x0 x1 x2 x3 x4 x5 y:=rfl
theorem aiW:dB "used" y [("system",x0),("source",x1),("most",x2),("written",x3),("calls",x4),("held",x5)]=f9 x0 x1 x2 x3 x4 x5 y:=rfl
theorem Sg:(f9 x0 x1 x2 x3 x4 x5 x6).lookup ("read_all":Str)=none:=rfl
theorem FJ:(f9 x0 x1 x2 x3 x4 x5 x6).lookup ("error_of_reading":Str)=none:=rfl
theorem Oh:(f9 x0 x1 x2 x3 x4 x5 x6).lookup ("read_token":Str)=none:=rfl
theorem GA:(f9 x0 x1 x2 x3 x4 x5 x6).lookup ("read_name_token":Str)=none:=rfl
theorem P4:(f9 x0 x1 x2 x3 x4 x5 x6).lookup ("read_byte":Str)=none:=rfl
theorem aao:(f9 x0 x1 x2 x3 x4 x5 x6).lookup ("hold":Str)=none:=rfl
theorem Oj:(f9 x0 x1 x2 x3 x4 x5 x6).lookup ("begin_call":Str)=none:=rfl
theorem Lr:(f9 x0 x1 x2 x3 x4 x5 x6).lookup ("end_argument":Str)=none:=rfl
theorem Sh:(f9 x0 x1 x2 x3 x4 x5 x6).lookup ("end_call":Str)=none:=rfl
theorem Oi:(f9 x0 x1 x2 x3 x4 x5 x6).lookup ("put_result":Str)=none:=rfl
theorem aan:(f9 x0 x1 x2 x3 x4 x5 x6).lookup ("take":Str)=none:=rfl
theorem P5:(f9 x0 x1 x2 x3 x4 x5 x6).lookup ("need_most":Str)=none:=rfl
theorem Yi:(f9 x0 x1 x2 x3 x4 x5 x6).lookup ("write":Str)=none:=rfl
theorem P6:(f9 x0 x1 x2 x3 x4 x5 x6).lookup ("give_back":Str)=none:=rfl
theorem agr:short 9 (f9 x0 x1 x2 x3 x4 x5 x6)=true:=rfl
theorem aek:([("place",x0)]:Rc).lookup ("place":Str)=some x0:=rfl
end
end
section
theorem CH(n:Int):(cB (toString n)).cps.toList=ow n:=by
 unfold ow
 cases n with
 |ofNat m=>
  rw[if_neg (show ¬Int.ofNat m<0 from Int.not_lt.mpr (XF m))];exact TL.MF m
 |negSucc m=>
  rw[if_pos (Int.negSucc_lt_zero m)];show TL.tl (cB (toString (ahF m)))=_;rw[TL.A8];have e:toString (ahF m)="-"++toString (m+1):=rfl;rw[e,String.toList_append,bL];have h:=TL.MF (m+1);rw[TL.A8]at h;have e2:toString (((m+1:Nat):Int))=toString (m+1):=rfl;rw[e2]at h;rw[h];rfl
theorem text_len{n:Int}(h:n.natAbs<2^64):(ow n).length<=21:=by
 have hd:(Bv n.natAbs).length<=20:=by
  have:=TL.VL (n:=n.natAbs) (k:=20) (by decide) (bP h (by decide));exact this
 unfold ow
 split
 ·simp only[au];lia
 ·lia
end
end TM
namespace L2
open PySem PySem.Spec PyProof.Rows PySem.SeqAt
open AutoSeq1 (wpAny_loadPart')
open MeetsSeq MeetsSeq2 MeetsSeq3 SeqRoads2
section
theorem UU{s:az}{a:Int}(ha:a.natAbs.log2<1920)(h:Q (cB (toString a)) {s with toks:=s.toks+1}):a7 (bf prog w) A (pyRepr (.int a t)) Q E s:=by
 unfold pyRepr;refine ay (pyReprObj_int ha ?_);exact aU h
theorem Fy(l:ao)(items:Array ax)(n:Nat)(c:Int)(t:Tok)(upto:Int)(hc:c.natAbs<2^64)(k:Nat):∀i:Nat,items.size- i=k->(∀m (hm:m<items.size),i<=m->Jy c items[m]=false)->
 Meets (By.«list.index.loop» ⟨[.ref l,.int c t,OK i,OK upto],[]⟩)
  (fun A R s=>s.heap.get? l=some {cls:=.type "list",dict:=none,data:=.seq items n,slots:= #[]}/\(∀y,y∈items->EqAt A.in1 s y (.int c t) (Jy c y))/\A.handled=none/\(items.size:Int)<=upto/\
   ∀h' tk e vs,qP s.heap h' e (.type "ValueError") vs->R (.error (.ref e)) {s with heap:=h',toks:=tk}):=by
 induction k with
 |zero=>
  intro i hk Jl prog w A R s h;obtain⟨hp,g,d,tk,os⟩:=s;obtain⟨hl,he,hh,hu,h⟩:=h
  wp_walk using wpAny_loadPart' hl
  have hi:(if (i:Int)<upto then items[((i:Nat):Int).toNat]? else none)=none:=by
   have:items[((i:Nat):Int).toNat]? =none:=by simp;lia
   rw[this];split<;>rfl
  rw[hi];dsimp only
  refine ay (OI (ay (UU (by
   by_cases h0:c.natAbs=0
   ·rw[h0];decide
   ·have:=(SR h0).mpr hc;lia) ?_)))
  unfold ahE
  have hsz:(cB (toString c)++cB " is not in list").length<=sizeLine:=by
   rw[TL.VX,TL.QJ,aF]
   have e1:(TL.tl (cB (toString c))).length<=21:=by
    show (cB (toString c)).cps.toList.length<=21;rw[TM.CH];exact TM.text_len hc
   have e2:(TL.tl (cB " is not in list")).length=15:=by decide+kernel
   rw[aT];lia
  generalize cB (toString c)++cB " is not in list"=msg at hsz⊢;refine ay (wpAny_mkStr ?_ hsz);exact ay (wpAny_newExc_plain plainExc_ValueError fun h' e hm=>wpAny_raiseNew_none hh (h h' _ e _ hm.of))
 |succ k ih=>
  intro i hk Jl prog w A R s h;obtain⟨hp,g,d,tk,os⟩:=s;obtain⟨hl,he,hh,hu,h⟩:=h;have iB:i<items.size:=by omega
  wp_walk using wpAny_loadPart' hl
  have hi:(if (i:Int)<upto then items[((i:Nat):Int).toNat]? else none)=some items[i]:=by
   rw[if_pos (by lia)];simp[iB]
  rw[hi];refine ay (he _ (Array.getElem_mem iB) prog w _ _ ?_);rw[Jl i iB (aE _)]
  wp_walk
  rw[show ((i:Int)+1)=((i+1:Nat):Int) from rfl]
  exact⟨SQ plain_index_loop _,LU entry_index_loop (by
   rw[wc plain_index_loop _];exact ih (i+1) (by omega) (fun m hm h1=>Jl m hm (by lia)) prog w A R _ ⟨hl,he,hh,hu,h⟩)⟩
theorem NL(l:ao)(items:Array ax)(n:Nat)(c:Int)(t u:Tok)(i:Nat)(j:Nat)(hj:j<items.size)(Z0:i<=j)(NT:items.size<2^62)(hit:Jy c items[j]=true)(Jl:∀m (hm:m<items.size),i<=m->m<j->Jy c items[m]=false):
 Meets (By.«list.index» ⟨[.ref l,.int c t,.int i u],[]⟩)
  (fun A R s=>s.heap.get? l=some {cls:=.type "list",dict:=none,data:=.seq items n,slots:= #[]}/\(∀y,y∈items->EqAt A.in1 s y (.int c t) (Jy c y))/\R (.ok (.ret (.int j s.toks))) {s with toks:=s.toks+1}):=by
 intro prog w A R s h;obtain⟨hp,g,d,tk,os⟩:=s;obtain⟨hl,he,h⟩:=h
 wp_walk using wpAny_loadPart' hl
 have a1:((fun i:Int=>if i<0 then max 0 (i+(items.size:Int))else i) ((some (i:Int)).getD 0))=(i:Int):=if_neg (by show ¬((i:Int)<0);lia);have a2:((fun i:Int=>if i<0 then max 0 (i+(items.size:Int))else i) ((none:Option Int).getD (2^63- 1)))=2^63- 1:=by simp
 rw[a1,a2]
 exact⟨SQ plain_index_loop _,LU entry_index_loop (by
  rw[wc plain_index_loop _];exact index_loopAt l items n none #[] (.int c t) (Jy c) (2^63- 1) j hj (by lia) hit _ i rfl Z0 Jl prog w A R _ ⟨hl,he,h⟩)⟩
theorem RK(l:ao)(items:Array ax)(n:Nat)(c:Int)(t u:Tok)(i:Nat)(hc:c.natAbs<2^64)(NT:items.size<2^62)(Jl:∀m (hm:m<items.size),i<=m->Jy c items[m]=false):
 Meets (By.«list.index» ⟨[.ref l,.int c t,.int i u],[]⟩)
  (fun A R s=>s.heap.get? l=some {cls:=.type "list",dict:=none,data:=.seq items n,slots:= #[]}/\(∀y,y∈items->EqAt A.in1 s y (.int c t) (Jy c y))/\A.handled=none/\
   ∀h' tk e vs,qP s.heap h' e (.type "ValueError") vs->R (.error (.ref e)) {s with heap:=h',toks:=tk}):=by
 intro prog w A R s h;obtain⟨hp,g,d,tk,os⟩:=s;obtain⟨hl,he,hh,h⟩:=h
 wp_walk using wpAny_loadPart' hl
 have a1:((fun i:Int=>if i<0 then max 0 (i+(items.size:Int))else i) ((some (i:Int)).getD 0))=(i:Int):=if_neg (by show ¬((i:Int)<0);lia);have a2:((fun i:Int=>if i<0 then max 0 (i+(items.size:Int))else i) ((none:Option Int).getD (2^63- 1)))=2^63- 1:=by simp
 rw[a1,a2]
 exact⟨SQ plain_index_loop _,LU entry_index_loop (by
  rw[wc plain_index_loop _];exact Fy l items n c t (2^63- 1) hc _ i rfl Jl prog w A R _ ⟨hl,he,hh,by lia,h⟩)⟩
end
end L2
namespace L2
open PySem PySem.Spec PyProof.Rows PySem.SeqAt
section
section
variable{X:Cx}{ae:List (ao×Obj)}{Z:St}{H H':Hp}{s:az}
abbrev Cx.ZH(X:Cx)(v:ax):Cx:={X with A:=X.A.mark (some v),calm:=false}
theorem Inv.ZH(I:Inv X ae Z H s)(v:ax):Inv (X.ZH v) ae Z H s:=
 ⟨⟨I.ok.mod,I.ok.kind,I.ok.glob,I.ok.blt,I.ok.above,I.ok.inj,I.ok.has,I.ok.cab,(fun h=>by cases h),I.ok.frames,I.ok.pA,I.ok.exf,I.ok.bs,I.ok.Yn,I.ok.Rm,I.ok.Sl,I.ok.xW,I.ok.frf⟩,I.os,I.bare,I.base,I.loc,I.cell,I.free,I.rZ,I.pin,I.fW,I.len⟩
theorem Inv.Zi(ok:X.Ok)(I:Inv (X.ZH v) ae Z H s):Inv X ae Z H s:=⟨ok,I.os,I.bare,I.base,I.loc,I.cell,I.free,I.rZ,I.pin,I.fW,I.len⟩
theorem Inv.moved{s':az}{B:dg}(I:Inv X ae Z H s)(os:s'.os=s.os)(bare:uE s'.gens)(k:B.StaysIn s.heap)(k':B.StaysIn s'.heap)(up:s.heap.UpToSlots s'.heap)(all:∀b o,s.heap.get? b=some o->b∉mG X.stack->∃o',B.get? b=some o'):Inv X ae Z H s':=by
 have tr:∀b v,H b=some v->∃o,B.get? b=some o:=fun b v e=>by
  obtain⟨o,ho⟩:=VJ (I.fW b v e);refine all b o ho fun hm=> ?_;rw[I.Ce b hm]at e
  cases e
 obtain⟨m1,m2⟩:=zA (Un.refl (fs:=mG X.stack) (ex:=[]) (H:=H) (h:=s.heap)) I.fW k k' up tr all (fun b hb=>(I.stack.mem hb).2);exact I.GH (ch:=[]) os m1 m2 bare (fun b z=>absurd z (by simp))
end
section
variable{P:bD}{w:cP}{K:aA}{mg:Str->Option ax}{ag:dg}{N:List Str}{aG:Str}{af:ia}{f:ao}{cd:ax}{A:cN}{aH:List Env}{s:az}{H:Hp}{E:XK}{CX:G4}
theorem Rw{ae:List (ao×Obj)}{Z:St}{H1:Hp}{s1:az}{e:ao}{cls:ax}{vs:List ax}{h1:dg}{tk:Nat}{hs:List akG}{Q:Flow->az->Prop}{EE:ax->az->Prop}
 (I:Inv (iJ CX P w K mg ag N aG af f cd A aH s H E).HF ae Z H1 s1) (hx:qP s1.heap h1 e cls vs)
 (k:∀h' B t,lh B (envOfC aG af s.heap.objs.size f cd::aH) e cls (.ref t) h'->Inv (iJ CX P w K mg ag N aG af f cd A aH s H E).HF ae Z H1 {s1 with heap:=h',toks:=tk}->
  (∀b o,s1.heap.get? b=some o->b∉mG (envOfC aG af s.heap.objs.size f cd::aH)->∃o',B.get? b=some o')->s1.heap.UpToSlots h'->B.StaysIn s1.heap->
  a7 (bf P w) (A.deeper (envOfC aG af s.heap.objs.size f cd)) (aaH (.ref e) (envOfC aG af s.heap.objs.size f cd) hs) Q EE {s1 with heap:=h',toks:=tk}):
 a7 (bf P w) (A.deeper (envOfC aG af s.heap.objs.size f cd)) (wG (.ref e) (envOfC aG af s.heap.objs.size f cd)) (fun _ s₂=>a7 (bf P w) (A.deeper (envOfC aG af s.heap.objs.size f cd)) (setFlight (.ref e) none)
  (fun _ s₃=>a7 (bf P w) (A.deeper (envOfC aG af s.heap.objs.size f cd)) (aaH (.ref e) (envOfC aG af s.heap.objs.size f cd) hs) Q EE s₃) EE s₂) EE {s1 with heap:=h1,toks:=tk}:=by
 generalize hB:dy s1.heap (mG (envOfC aG af s.heap.objs.size f cd::aH))=B;have NV:∀env∈(envOfC aG af s.heap.objs.size f cd::aH),∀b,env.frame=some b->b∈mG (envOfC aG af s.heap.objs.size f cd::aH):=fun env he b hb=>qQ.mpr ⟨env,he,hb⟩;have sB:B.StaysIn s1.heap:=fun b o q=>by rw[<-hB]at q;exact lS _ q
 have XS:∀b o,s1.heap.get? b=some o->b∉mG (envOfC aG af s.heap.objs.size f cd::aH)->∃o',B.get? b=some o':=fun b o q hb=>⟨o,by rw[<-hB];exact oX _ q hb⟩;have fB:s1.heap.FunFrames B (envOfC aG af s.heap.objs.size f cd::aH):=by rw[<-hB];exact I0 I.stack NV
 obtain⟨t,he,htn,ht⟩:=hx.there
 have fresh:∀b,s1.heap.get? b=none->B.get? b=none:=fun b hb=>by
  cases q:B.get? b with
  |none=>rfl
  |some o=>have:=sB b o q;rw[hb]at this;cases this
 unfold wG
 show a7 _ _ (do
  let head<-field (.ref e) 1
  if head != .none then
   if (<-field head 3)==OK s.heap.objs.size then return
   aki head 3 .none
  aki (.ref e) 1 (<-akF head (<-frameOf (envOfC aG af s.heap.objs.size f cd)) .none (OK s.heap.objs.size) .none (<-entryPlaceOf s.heap.objs.size (head != .none)))) _ _ _
 refine ay (uK he rfl (x:=.none) rfl ?_);rw[if_neg (show ¬((mi != mi)=true) by decide)];refine wpAny_entryW (base:=B) (outer:=aH) (L:=s.heap.objs.size) I.ok.frames (fB.of_keeps fun b o hb _=>⟨o,hx.keeps b o hb,rfl⟩) rfl he (fun b o hb=>hx.keeps b o (sB b o hb)) (fresh e hx.new) rfl (by simp) rfl fun h2 hN=> ?_;obtain⟨k1,k2,k3,k4⟩:=hN;refine Xw (base:=B) (l:=envOfC aG af s.heap.objs.size f cd::aH) (L:=s.heap.objs.size) ⟨k1,fresh e hx.new,k2,k3⟩ fun h3 fl up=> ?_;have up2:s1.heap.UpToSlots h3:=((AW hx.keeps).trans k4).trans up;exact k h3 B t fl (I.moved (s':={s1 with heap:=h3,toks:=tk}) rfl I.bare sB fl.1 up2 XS) XS up2 sB
def placeOf(l:List Int)(c:Int)(i:Nat):Nat:=match (l.drop i).findIdx? (·==c)with
 |some j=>i+j
 |none=>l.length
def abQ:TS:=fun D Z H=>∃(a:ao) (l:List Int) (c:Int) (i:Nat),Z[0]? =some (some (.ref a))/\Z[1]? =some (some (.int c))/\Z[2]? =some (some (.int (i:Int)))/\H a=some (.lst (l.map V.int))/\c.natAbs<2^64/\D.rt (.int (placeOf l c i)) H
theorem Az{cV:List ax}{l:List Int}(h:FZ cV l)(c:Int)(j:Nat)(h1:j<cV.toArray.size)(h2:j<l.length):Jy c cV.toArray[j]=(l[j]==c):=by
 have:=isInt_at c h j (by simpa using h1) h2;simpa using this
end
theorem NO{X:Cx}{ae:List (ao×Obj)}{Z:St}{H:Hp}{s:az}{p1 p2 p3 p4 p6:Pos}{a:ao}{l:List Int}{c:Int}{i:Nat}{Q:ax->az->Prop}{E':ax->az->Prop}(I:Inv X ae Z H s)(hh:X.A.handled=none)
 (n0:X.N[0]? =some (cB "row")) (n1:X.N[1]? =some (cB "byte")) (n2:X.N[2]? =some (cB "start")) (v0:X.env.scope.names.lookup ("row":Str)=some .local) (v1:X.env.scope.names.lookup ("byte":Str)=some .local) (v2:X.env.scope.names.lookup ("start":Str)=some .local)
 (h0:Z[0]? =some (some (.ref a))) (h1:Z[1]? =some (some (.int c))) (h2:Z[2]? =some (some (.int (i:Int)))) (hl:H a=some (.lst (l.map V.int))) (hc:c.natAbs<2^64) (line:(p2.endLine==p6.line)=true)
 (found:∀s2 t j,Inv X ae Z H s2->(l.drop i).findIdx? (·==c)=some j->Q (.int ((i+j:Nat):Int) t) s2)
 (aiR:∀s2 h' tk e vs,Inv X ae Z H s2->(l.drop i).findIdx? (·==c)=none->qP s2.heap h' e (.type "ValueError") vs->E' (.ref e) {s2 with heap:=h',toks:=tk}):
 a7 (bf X.prog X.w) X.A (eval (.Call (.Attribute (.Name "row" p1) "index" p2) [.Name "byte" p3,.Name "start" p4] [] p6) X.env) Q E' s:=by
 have J:=I.sQ E';refine Xx rfl rfl line rfl (mW ((xF (X:=X.sQ E') n0 (.inl v0)) ae s Z H (fun v H2=>v= .ref a/\H2=H) J ⟨_,h0,rfl,rfl⟩) fun u s2 v H2 I2 r2 ⟨ev,eH⟩=> ?_);subst ev eH
 cases r2
 obtain⟨t1,t2⟩:=My (T:="list") I2 (x:=.ref a) rfl (.inl ⟨rfl,_,kE.of hl⟩);exists "list","list.index",aJ,sD,PySem.F.type_list_index,t1,t2;have ha:=aV (xF (X:=X.sQ E') (pos:=p3) n1 (.inl v1)) (aV (xF (X:=X.sQ E') (pos:=p4) n2 (.inl v2)) c9);have hA:=ha p6 ae s2 Z H2 (fun vs H3=>vs=[.int c,.int (i:Int)]/\H3=H2) I2 ⟨_,h1,_,h2,rfl,rfl⟩;refine fG rfl (iK (ui hA fun us s3 zq=> ?_));obtain⟨vs,H3,I3,r3,ev,eH⟩:=zq;subst ev eH;obtain⟨u1,u2,rfl,⟨tk1,rfl⟩,⟨tk2,rfl⟩⟩:=vals2 r3;have I4:=I3.lJ;obtain⟨z,cV,n,r,hlen,e⟩:=I4.HN hl;have hi:=intsAre_of r
 have hz:cV.toArray.size<2^62:=by
  rw[aW,<-hlen];rw[aT]at z;lia
 have hll:l.length=cV.length:=by rw[<-hlen,aN]
 have eqs:∀(A':cN) (y:ax),y∈cV.toArray->EqAt A' s3 y (.int c tk1) (Jy c y):=fun A' y hy=>(eq_isInt c tk1 hi y (by simpa using hy)).at _ _
 cases q:(l.drop i).findIdx? (·==c)with
 |some j=>
  obtain⟨hj,hjc,hjn⟩:=ip.mp q;rw[aL]at hj;refine pY sD ⟨_,e,rfl⟩ FW (ES _ _ _) (NL a cV.toArray n c tk1 tk2 i (i+j) (by rw[aW];lia) (uz _ _) hz ?_ ?_) ⟨e,fun y hy=>eqs _ y hy,?_⟩
  ·rw[Az hi c (i+j) _ (by lia)];rw[sC]at hjc;exact hjc
  ·intro m hm h1 h2;rw[Az hi c m hm (by rw[aW]at hm;lia)];have:=hjn (m- i) (by lia);rw[sC]at this;simp only[show i+(m- i)=m by lia]at this;simpa using this
  ·exact found _ _ j (I4.tok _) q
 |none=>
  have Jl:=rE.mp q;refine pY sD ⟨_,e,rfl⟩ FW (ES _ _ _) (RK a cV.toArray n c tk1 tk2 i hc hz ?_) ⟨e,fun y hy=>eqs _ y hy,hh,fun h' tk e' vs hm=>aiR s3 h' tk e' vs I4 q hm⟩;intro m hm h1;have hm':m<l.length:=by rw[aW]at hm;lia
  rw[Az hi c m hm hm']
  exact Jl l[m] (by
   rw[Qq];exact⟨m- i,by rw[aL];lia,by rw[sC];simp only[show i+(m- i)=m by lia]⟩)
section
variable{P:bD}{w:cP}{K:aA}{mg:Str->Option ax}{ag:dg}{N:List Str}{aG:Str}{af:ia}{f:ao}{cd:ax}{A:cN}{aH:List Env}{s:az}{H:Hp}{E:XK}{CX:G4}
theorem Vf{p0 p1 p2 p3 p4 p5 p6 p7 p8 p9 p10 p11 p12:Pos}(n0:N[0]? =some (cB "row"))(n1:N[1]? =some (cB "byte"))(n2:N[2]? =some (cB "start"))(hh:A.handled=none)
 (v0:af.names.lookup ("row":Str)=some .local) (v1:af.names.lookup ("byte":Str)=some .local) (v2:af.names.lookup ("start":Str)=some .local) (hk:af.names.lookup ("len":Str)=some .globalImplicit) (hv:af.names.lookup ("ValueError":Str)=some .globalImplicit)
 (nl:mg "len"=none) (nv:mg "ValueError"=none) (line:(p2.endLine==p6.line)=true):
 PS (iJ CX P w K mg ag N aG af f cd A aH s H E).HF
  (.Try [.Return (some (.Call (.Attribute (.Name "row" p1) "index" p2) [.Name "byte" p3,.Name "start" p4] [] p6)) p5] [.ExceptHandler (some (.Name "ValueError" p7)) none [.Return (some (.Call (.Name "len" p8) [.Name "row" p9] [] p10)) p11] p12] [] [] p0) abQ:=by
 intro ae s1 Z H1 D I h;rcases h with⟨a,l,c,i,h0,h1,h2,hl,hc,k⟩;refine agI (pX (FT ?_));refine NO (X:=(iJ CX P w K mg ag N aG af f cd A aH s H E).HF) I hh n0 n1 n2 v0 v1 v2 h0 h1 h2 hl hc line (fun s2 t j I2 q=> ?_) (fun s2 h' tk e vs I2 q hm=> ?_)
 ·exists .int ((i+j:Nat):Int),Z,H1,I2,⟨t,rfl⟩;have e:placeOf l c i=i+j:=by unfold placeOf;rw[q]
  rw[<-e];exact k
 ·refine Rw (tk:=tk) I2 hm fun h3 B t fl I3 XS up2 sB=> ?_;rcases fl.there with⟨ob,eD,ac3⟩;have I3x:=I3.ZH (.ref e)
  refine wpAny_handleBy_builtin (X:="ValueError") (T:="ValueError") (b:=true) PySem.F.isExc_ValueError PySem.F.notTuple_ValueError (by rw[isSubtype_type];kernel_rfl)
   (tQ (X:=(iJ CX P w K mg ag N aG af f cd A aH s H E).HF.ZH (.ref e)) I3x hv nv PyProof.Rows.Boot.«ValueError» ⟨rfl,⟨ob,eD,ac3⟩,?_⟩)
  rw[if_pos rfl];refine lands_againW fl fun h4 fl4 up4=> ?_;have I4:Inv (iJ CX P w K mg ag N aG af f cd A aH s H E).HF ae Z H1 {s2 with heap:=h4,toks:=tk}:=I2.moved (s':={s2 with heap:=h4,toks:=tk}) rfl I2.bare sB fl4.1 (up2.trans up4) XS;have J:=(I4.ZH (.ref e)).sQ (uH (bf P w) ((A.deeper (envOfC aG af s.heap.objs.size f cd)).mark (some (.ref e))) (envOfC aG af s.heap.objs.size f cd) (cameBackBy (bf P w) (A.deeper (envOfC aG af s.heap.objs.size f cd)) (envOfC aG af s.heap.objs.size f cd) fun _ _=>False));have e2:placeOf l c i=l.length:=by unfold placeOf;rw[q]
  have:=aj (a6 (jJ (X:=((iJ CX P w K mg ag N aG af f cd A aH s H E).HF.ZH (.ref e)).sQ _) (x:="len") (p:=p8) (pos:=p10) v9 hk nl mY (aV (xF (pos:=p9) n0 (.inl v0)) c9)) (pos:=p11)) ae _ Z H1 D J
   ⟨_,h0,a,_,rfl,hl,by rw[aN,<-e2];exact k⟩
  refine dZ this (fun fl s5 q5=> ?_) fun _ _ z=>z
  cases fl with
  |next=>obtain⟨Z',H',J',z⟩:=q5;exact⟨Z',H',J'.lJ.Zi I4.ok,z⟩
  |brk=>obtain⟨Z',H',J',z⟩:=q5;exact⟨Z',H',J'.lJ.Zi I4.ok,z⟩
  |cont=>obtain⟨Z',H',J',z⟩:=q5;exact⟨Z',H',J'.lJ.Zi I4.ok,z⟩
  |ret u=>obtain⟨v,Z',H',J',r,z⟩:=q5;exact⟨v,Z',H',J'.lJ.Zi I4.ok,r,z⟩
theorem iI{X:Cx}{ae:List (ao×Obj)}{Z:St}{H:Hp}{s3:az}{e:ao}{cls:ax}{x:Str}{C':ao}{b:Bool}{np pos pk pr:Pos}{kk:Int}{jj:Nat}{rest:List akG}{D:Ends}{B:dg}{t:ao}{l:List Env}
 (I:Inv X ae Z H s3) (back:∀h4,lh B l e cls (.ref t) h4->s3.heap.UpToSlots h4->Inv X ae Z H {s3 with heap:=h4}) (fl:lh B l e cls (.ref t) s3.heap) (hm:X.mg x=some (.ref C')) (ex:bG X.K cls (.ref C')=some b) (hg:Gl X x) (hd:(x==("__debug__":Str))=false)
 (h1:b=true->D.rt (.int kk) H) (h2:b=false->a7 (bf X.prog X.w) X.A (aaH (.ref e) X.env rest) (SP X ae D) (fun _ _=>False) s3):
 a7 (bf X.prog X.w) X.A (aaH (.ref e) X.env (.ExceptHandler (some (.Name x np)) none [.Return (some (.Constant (.int kk) jj pk)) pr] pos::rest)) (SP X ae D) (fun _ _=>False) s3:=by
 obtain⟨ob,eD,ac3⟩:=fl.there;refine wpAny_handleBy_cons (codeAny_handlers_test (mD (X:=X.ZH (.ref e)) (I.ZH (.ref e)) hg hm ?_ hd)) (by intro q;cases q)
 have LT:PySem.W.Looks (bf X.prog X.w) s3.heap (typeOf (.ref e)) cls:=by
  rw[<-ac3];exact(agH eD).andThen .now
 refine(PySem.W.exm_one I.Ay LT ex).here ?_
 cases b with
 |false=>exact h2 rfl
 |true=>
  refine codeAny_handlers_suite (lands_againW fl fun h4 fl4 up4=> ?_);refine pX (FT (adR ?_));exact⟨.int kk,Z,H,(back h4 fl4 up4).tok _,⟨_,rfl⟩,h1 rfl⟩
end
end
section
theorem Ru{X:Cx}{CX:G4}{ae:List (ao×Obj)}{Z:St}{H:Hp}{s:az}{p1 p2 p3 p6:Pos}{a C dx f:ao}{fs:List (Str×V)}{v:V}{m x0 x1:Str}{k:Nat}{fd:gq}{ps:List Str}{sp:Sp}{Qv:VK}{Ev:XK}{Q:ax->az->Prop}{E':ax->az->Prop}{pl:Sem Bool}
 (I:Inv X ae Z H s) (n0:X.N[0]? =some x0) (n1:X.N[1]? =some x1) (v0:X.env.scope.names.lookup x0=some .local) (v1:X.env.scope.names.lookup x1=some .local)
 (d0:(x0==("__debug__":Str))=false) (d1:(x1==("__debug__":Str))=false) (c0:(x0==("__classdict__":Str))=false) (c1:(x1==("__classdict__":Str))=false)
 (h0:Z[0]? =some (some (.ref a))) (h1:Z[1]? =some (some v)) (ea:H a=some (.ins C dx fs)) (cl:yh X.K C) (hm:S0 X.K C m f) (lk:fs.lookup m=none) (F:eR X.prog X.w X.K X.mg X.base CX k f fd ps sp) (hr:jN k X.A) (hb:Binds X.K fd ps []) (L4:sp [.ref a,v] H Qv Ev)
 (good:∀u s2,EP X ae Z Qv u s2->Q u s2) (bad:∀e s2 s3,Inv X ae Z H s2->CX X.stack H s2 Ev e s3->E' e s3)
 (ht:eval (.Call (.Attribute (.Name x0 p1) m p2) [.Name x1 p3] [] p6) X.env=(do
  let ov<-eval (.Name x0 p1) X.env
  Bs p2.atName
  let (fn,first)<-uC [ov] (wK ov m pl)
  F2 p6 fn first (jE p6 (bN [.Name x1 p3] X.env)) (uc p6 (lT [] X.env))):=by rfl):
 a7 (bf X.prog X.w) X.A (eval (.Call (.Attribute (.Name x0 p1) m p2) [.Name x1 p3] [] p6) X.env) Q E' s:=by
 have J:=I.sQ E';refine uA (pl:=pl) (mW ((xF (X:=X.sQ E') n0 (.inl v0) d0 c0) ae s Z H (fun v H2=>v= .ref a/\H2=H) J ⟨_,h0,rfl,rfl⟩) fun u s1 y H1 I1 r1 ⟨ev,eH⟩=> ?_) ht;subst ev eH
 cases r1
 refine xV I1.lJ ea cl hm lk ?_;have hA:=(aV (xF (X:=X.sQ E') (pos:=p3) n1 (.inl v1) d1 c1) c9) p6 ae s1 Z H1 (fun vs H3=>vs=[v]/\H3=H1) I1 ⟨_,h1,rfl,rfl⟩;refine lU (first:=[.ref a]) (h₀:=X.base) I.ok.mod.kin hm.kp (ui hA fun us s2 ⟨vs,H2,I2,r2,ev,eH⟩=>⟨I2.Ay,?_⟩) rfl rfl;subst ev eH;have I3:=I2.lJ
 have hl:(bM a::us++[]).length=ps.length:=by
  have e1:=F.len _ _ _ _ L4;have e2:=r2.length;simp only[fU,au]at*;lia
 have r3:cZ [V.ref a,v] (bM a::us):=.cons rfl r2;have hbb:=hb s2 (bM a::us) I3.Ay hl;rw[fU]at hbb;refine ad3 (oP (F.run X.A X.stack s2 H2 ⟨bM a::us,[]⟩ (bM a::us) [V.ref a,v] Qv Ev hr I3.adG hbb r3 L4) fun r s' hq=> ?_)
 cases r with
 |error e=>exact bad e s2 s' I3 hq
 |ok fl=>
  cases fl with
  |ret u=>exact good u s' (I3.after hq)
  |next=>exact b7 hq
  |brk=>exact b7 hq
  |cont=>exact b7 hq
section
variable{P:bD}{w:cP}{K:aA}{mg:Str->Option ax}{ag:dg}{N:List Str}{aG:Str}{af:ia}{f:ao}{cd:ax}{A:cN}{aH:List Env}{s:az}{H:Hp}{E:XK}{CX:G4}
def aeR(C:ao)(m:Str)(sp:Sp)(C1 C2 C3 C4:ao):TS:=fun D Z H=>∃(a dx:ao) (fs:List (Str×V)) (v:V),Z[0]? =some (some (.ref a))/\Z[1]? =some (some v)/\H a=some (.ins C dx fs)/\fs.lookup m=none/\
 sp [.ref a,v] H (fun _ H'=>D.nx Z H') (fun cls _ H'=>(cls= .ref C1/\D.rt (.int 1) H')\/(cls= .ref C2/\D.rt (.int 2) H')\/(cls= .ref C3/\D.rt (.int 3) H')\/(cls= .ref C4/\D.rt (.int 4) H'))
theorem Zf{p0 p1 p2 p3 p5 p6:Pos}{q1 q2 q3 q4 r1 r2 r3 r4 k1 k2 k3 k4 z1 z2 z3 z4:Pos}{j1 j2 j3 j4:Nat}{x0 x1 m y1 y2 y3 y4:Str}{C g C1 C2 C3 C4:ao}{k:Nat}{fd:gq}{ps:List Str}{sp:Sp}{pl:Sem Bool}
 (n0:N[0]? =some x0) (n1:N[1]? =some x1) (v0:af.names.lookup x0=some .local) (v1:af.names.lookup x1=some .local)
 (d0:(x0==("__debug__":Str))=false) (d1:(x1==("__debug__":Str))=false) (c0:(x0==("__classdict__":Str))=false) (c1:(x1==("__classdict__":Str))=false)
 (cl:yh K C) (hm:S0 K C m g) (F:eR P w K mg ag (jF P w) k g fd ps sp) (hr:jN k (A.deeper (envOfC aG af s.heap.objs.size f cd))) (hb:Binds K fd ps [])
 (m1:mg y1=some (.ref C1)) (m2:mg y2=some (.ref C2)) (m3:mg y3=some (.ref C3)) (m4:mg y4=some (.ref C4))
 (g1:af.names.lookup y1=some .globalImplicit) (g2:af.names.lookup y2=some .globalImplicit) (g3:af.names.lookup y3=some .globalImplicit) (g4:af.names.lookup y4=some .globalImplicit)
 (e1:(y1==("__debug__":Str))=false) (e2:(y2==("__debug__":Str))=false) (e3:(y3==("__debug__":Str))=false) (e4:(y4==("__debug__":Str))=false)
 (x11:bG K (.ref C1) (.ref C1)=some true) (x21:bG K (.ref C2) (.ref C1)=some false) (x31:bG K (.ref C3) (.ref C1)=some false) (x41:bG K (.ref C4) (.ref C1)=some false)
 (x22:bG K (.ref C2) (.ref C2)=some true) (x32:bG K (.ref C3) (.ref C2)=some false) (x42:bG K (.ref C4) (.ref C2)=some false) (x33:bG K (.ref C3) (.ref C3)=some true) (x43:bG K (.ref C4) (.ref C3)=some false) (x44:bG K (.ref C4) (.ref C4)=some true)
 (ht:eval (.Call (.Attribute (.Name x0 p1) m p2) [.Name x1 p3] [] p6) (envOfC aG af s.heap.objs.size f cd)=(do
  let ov<-eval (.Name x0 p1) (envOfC aG af s.heap.objs.size f cd)
  Bs p2.atName
  let (fn,first)<-uC [ov] (wK ov m pl)
  F2 p6 fn first (jE p6 (bN [.Name x1 p3] (envOfC aG af s.heap.objs.size f cd))) (uc p6 (lT [] (envOfC aG af s.heap.objs.size f cd)))):=by rfl)
 (hsw:pW (.Call (.Attribute (.Name x0 p1) m p2) [.Name x1 p3] [] p6) none p5.line (envOfC aG af s.heap.objs.size f cd)=pure false:=by rfl):
 PS (iJ CX P w K mg ag N aG af f cd A aH s H E).HF
  (.Try [.Expr (.Call (.Attribute (.Name x0 p1) m p2) [.Name x1 p3] [] p6) p5] [.ExceptHandler (some (.Name y1 q1)) none [.Return (some (.Constant (.int 1) j1 k1)) r1] z1,.ExceptHandler (some (.Name y2 q2)) none [.Return (some (.Constant (.int 2) j2 k2)) r2] z2,
   .ExceptHandler (some (.Name y3 q3)) none [.Return (some (.Constant (.int 3) j3 k3)) r3] z3,.ExceptHandler (some (.Name y4 q4)) none [.Return (some (.Constant (.int 4) j4 k4)) r4] z4] [] [] p0) (aeR C m sp C1 C2 C3 C4):=by
 intro ae s1 Z H1 D I h;rcases h with⟨a,dx,fs,v,h0,h1,ea,lk,L4⟩;refine agI (pX (akb ?_ I.quiet hsw));refine Ru (X:=(iJ CX P w K mg ag N aG af f cd A aH s H E).HF) I n0 n1 v0 v1 d0 d1 c0 c1 h0 h1 ea cl hm lk F hr hb L4 (fun u s2 q=> ?_) (fun e s2 s3 I2 hx=> ?_) ht
 ·rcases q with⟨y,H2,I2,_,q2⟩;exact m6 (m6 ⟨Z,H2,I2,q2⟩)
 ·rcases hx with⟨e,t,cls,H',B,rfl,os,bare,un,fW,fl,tr,old,q⟩;have I3:Inv (iJ CX P w K mg ag N aG af f cd A aH s H E).HF ae Z H' s3:=I2.GH (ch:=[]) os un fW bare (fun b z=>absurd z (by simp))
  have mvd:∀h4,lh B (envOfC aG af s.heap.objs.size f cd::aH) e cls (.ref t) h4->s3.heap.UpToSlots h4->Inv (iJ CX P w K mg ag N aG af f cd A aH s H E).HF ae Z H' {s3 with heap:=h4}:=fun h4 fl4 up4=>by
   rcases zA un fW fl.1 fl4.1 up4 tr old (fun b hb=>(fl.2.2.1.mem hb).2)with⟨u1,u2⟩;exact I2.GH (s':={s3 with heap:=h4}) (ch:=[]) os u1 u2 bare (fun b z=>absurd z (by simp))
  refine ahD (outer:=aH) (L:=s.heap.objs.size) I.ok.frames rfl fl fun h4 held up4=> ?_;refine Xw held fun h5 WV up5=> ?_;have I5:=mvd h5 WV (up4.trans up5);have back:∀h6,lh B (envOfC aG af s.heap.objs.size f cd::aH) e cls (.ref t) h6->h5.UpToSlots h6->Inv (iJ CX P w K mg ag N aG af f cd A aH s H E).HF ae Z H' {s3 with heap:=h6}:=fun h6 fl6 up6=>mvd h6 fl6 ((up4.trans up5).trans up6);obtain⟨rfl,q⟩|⟨rfl,q⟩|⟨rfl,q⟩|⟨rfl,q⟩:=q
  ·exact iI (b:=true) I5 back WV m1 x11 g1 e1 (fun _=>q) (fun z=>by cases z)
  ·exact iI (b:=false) I5 back WV m1 x21 g1 e1 (fun z=>by cases z) fun _=>iI (b:=true) I5 back WV m2 x22 g2 e2 (fun _=>q) (fun z=>by cases z)
  ·exact iI (b:=false) I5 back WV m1 x31 g1 e1 (fun z=>by cases z) fun _=>iI (b:=false) I5 back WV m2 x32 g2 e2 (fun z=>by cases z) fun _=>iI (b:=true) I5 back WV m3 x33 g3 e3 (fun _=>q) (fun z=>by cases z)
  ·exact iI (b:=false) I5 back WV m1 x41 g1 e1 (fun z=>by cases z) fun _=>iI (b:=false) I5 back WV m2 x42 g2 e2 (fun z=>by cases z) fun _=>iI (b:=false) I5 back WV m3 x43 g3 e3 (fun z=>by cases z) fun _=>iI (b:=true) I5 back WV m4 x44 g4 e4 (fun _=>q) (fun z=>by cases z)
end
end
end L2
namespace TM
open PySem PySem.Spec PyProof.Rows L2
open Ra32 (B)
section
section
variable{K:aA}{te ti:TE}{g:TG}{tb:TS}{D:Ends}{Z:L2.St}{H:Hp}{Q:VK}{p q:ao}{tt:TT}{vs:List Nat}{ta:TA}
def wM(K:aA)(p:ao)(g:TG)(tb:TS)(D:Ends)(Z:L2.St)(H:Hp):Prop:=(∃xs,kE K H p xs)/\∃W:Nat->Nat->L2.St->Hp->Prop,(∃m,W 0 m Z H)/\∀i m Z H,W i m Z H->
 ((Qy K p).stop i H/\D.nx Z H)\/((Qy K p).go i H/\∃N:L2.St->Hp->Prop,(∀Z' H',N Z' H'->∃m',m'<m/\W (i+1) m' Z' H')/\∀x H',(Qy K p).XN i H x H'->g x Z H' fun Z2 H2=>tb {D with nx:=N,ct:=N,bk:=D.nx} Z2 H2)
theorem ais:YK (V8 K te) g tb D Z H=te Z H fun x H1=>∃a,x= .ref a/\wM K a g tb D Z H1:=rfl
theorem aj1{P:ao->Prop}:(∃a,V.ref p=V.ref a/\P a)↔P p:=⟨by rintro⟨_,e,h⟩;cases e;exact h,fun h=>⟨_,rfl,h⟩⟩
theorem wM.list{xs:List V}(h:H p=some (.lst xs))(Pv:Nat->L2.St->Hp->Prop)(h0:Pv 0 Z H)(hl:∀i Z H,Pv i Z H->H p=some (.lst xs))
 (hs:∀i x Z H,xs[i]? =some x->Pv i Z H->g x Z H fun Z2 H2=>tb {D with nx:=Pv (i+1),ct:=Pv (i+1),bk:=D.nx} Z2 H2) (hd:∀Z H,Pv xs.length Z H->D.nx Z H):wM K p g tb D Z H:=
 ⟨⟨_,kE.of h⟩,WU Pv h0 (fun i Z H _ q=>kE.of (hl i Z H q)) hs hd⟩
theorem Pt{i:Nat}(h:(iv t)[i]? =some x):∃c,t[i]? =some c/\x=V.int c:=by
 rw[Pu]at h
 cases e:t[i]? with
 |none=>rw[e]at h;cases h
 |some c=>rw[e]at h;exact⟨c,rfl,(bo h).symm⟩
theorem wM.bytes{t:B}(h:H p=some (.lst (iv t)))(Pv:Nat->L2.St->Hp->Prop)(h0:Pv 0 Z H)(hl:∀i Z H,Pv i Z H->H p=some (.lst (iv t)))
 (hs:∀i (c:Nat) Z H,t[i]? =some c->Pv i Z H->g (.int c) Z H fun Z2 H2=>tb {D with nx:=Pv (i+1),ct:=Pv (i+1),bk:=D.nx} Z2 H2) (hd:∀Z H,Pv t.length Z H->D.nx Z H):wM K p g tb D Z H:=by
 refine wM.list h Pv h0 hl (fun i x Z H hx q=> ?_) (fun Z H q=>hd Z H (by rwa [oI]at q));obtain⟨c,hc,rfl⟩:=Pt hx;exact hs i c Z H hc q
def L3(K:aA)(p:ao)(g:TG)(tb:TS)(D:Ends)(Z:L2.St)(H:Hp):Prop:=∃W:Nat->Nat->L2.St->Hp->Prop,(∃m,W 0 m Z H)/\∀i m Z H,W i m Z H->
 ((Ite K p).stop i H/\D.nx Z H)\/((Ite K p).go i H/\∃N:L2.St->Hp->Prop,(∀Z' H',N Z' H'->∃m',m'<m/\W (i+1) m' Z' H')/\∀x H',(Ite K p).XN i H x H'->g x Z H' fun Z2 H2=>tb {D with nx:=N,ct:=N,bk:=D.nx} Z2 H2)
theorem ahh:YK (abb K ta) g tb D Z H=ta Z H fun vs H1=>∃a xs,vs=[.ref a]/\kE K H1 a xs/\L3 K a g tb D Z H1:=rfl
theorem L3.bytes{t:B}(Pv:Nat->L2.St->Hp->Prop)(h0:Pv 0 Z H)(hl:∀i Z H,Pv i Z H->H p=some (.lst (iv t)))
 (hs:∀i (c:Nat) Z H q,t[i]? =some c->Pv i Z H->H q=none->g (.ref q) Z (upd H q (.tup [.int (i:Nat),.int (c:Nat)])) fun Z2 H2=>tb {D with nx:=Pv (i+1),ct:=Pv (i+1),bk:=D.nx} Z2 H2) (hd:∀Z H,Pv t.length Z H->D.nx Z H):L3 K p g tb D Z H:=by
 exists fun i m Z H=>m=t.length- i/\i<=t.length/\Pv i Z H,⟨_,rfl,aC _,h0⟩;rintro i m Z H ⟨rfl,hi,pv⟩;have hq:=hl i Z H pv
 by_cases iB:i<t.length
 ·have hc:=cy iB;have hx:(iv t)[i]? =some (V.int (t[i]:Nat)):=by rw[Pu,hc];rfl
  refine .inr ⟨⟨iv t,_,kE.of hq,hx⟩,Pv (i+1),fun Z' H' p'=>⟨_,by omega,rfl,iB,p'⟩,fun x H' y=> ?_⟩;obtain⟨T,z,rfl,hT,rfl,hz⟩:=y;have e:=hz _ (kE.of hq);rw[hx]at e
  cases e
  exact hs i _ Z H T hc pv hT
 ·have e:i=t.length:=by lia
  subst e;exact .inl ⟨⟨iv t,kE.of hq,by rw[oI];exact aE _⟩,hd Z H pv⟩
theorem abl(h:H p=some (.tup [x,y]))(q:k ((Z.set i (some x)).set j (some y)) H):agp K 2 (WS (w8 i) (WS (w8 j) agq)) (.ref p) Z H k:=
 ⟨p,[x,y],rfl,.inl (.inl h),rfl,x,[y],rfl,y,[],rfl,rfl,q⟩
def LcA(K:aA)(p:ao)(g:TG)(tt:TT)(te:TE)(vs:List Nat)(Z:L2.St)(H1:Hp)(Q:VK):Prop:=(∃xs,kE K H1 p xs)/\∀D,H1 D=none->∃W:Nat->Nat->Hp->Prop,(∃m,W 0 m (upd H1 D (.lst [])))/\∀i m H,W i m H->
 ((Qy K p).stop i H/\Q (.ref D) H)\/((Qy K p).go i H/\∃Nx:Hp->Prop,(∀H',Nx H'->∃m',m'<m/\W (i+1) m' H')/\∀x H',(Qy K p).XN i H x H'->g x (wipe Z vs) H' fun Z2 H2=>wipe Z2 vs=wipe Z vs/\tt Z2 H2 fun b H3=>
   if b=true then te Z2 H3 fun y H4=>∃acc,H4 D=some (.lst acc)/\acc.length<sizeLine/\Nx (upd H4 D (.lst (acc++[y])))else Nx H3)
theorem akv:tLc (V8 K ti) g tt te vs Z H Q=ti Z H fun x H1=>∃a,x= .ref a/\LcA K a g tt te vs Z H1 Q:=rfl
theorem LcA.list{xs:List V}(h:H p=some (.lst xs))(Pv:ao->Nat->Hp->Prop)(h0:∀D,H D=none->Pv D 0 (upd H D (.lst [])))(hl:∀D i H',H D=none->Pv D i H'->H' p=some (.lst xs))
 (hs:∀D i x H',H D=none->xs[i]? =some x->Pv D i H'->g x (wipe Z vs) H' fun Z2 H2=>wipe Z2 vs=wipe Z vs/\tt Z2 H2 fun b H3=>
  if b=true then te Z2 H3 fun y H4=>∃acc,H4 D=some (.lst acc)/\acc.length<sizeLine/\Pv D (i+1) (upd H4 D (.lst (acc++[y])))else Pv D (i+1) H3) (hd:∀D H',H D=none->Pv D xs.length H'->Q (.ref D) H'):LcA K p g tt te vs Z H Q:=
 ⟨⟨_,kE.of h⟩,fun D hD=>Zz (xs:=xs) (Pv D) (h0 D hD) (fun i H' _ q=>kE.of (hl D i H' hD q)) (fun i x H' hx q=>hs D i x H' hD hx q) (fun H' q=>hd D H' hD q)⟩
theorem aic:afl (.ref p) (.ref q) H Q↔∃xs zs,H p=some (.lst xs)/\H q=some (.lst zs)/\xs.length+zs.length<=sizeLine/\∀r,H r=none->Q (.ref r) (upd H r (.lst (xs++zs))):=⟨by rintro⟨_,_,xs,zs,e,e2,r⟩;cases e;cases e2;exact⟨xs,zs,r⟩,fun⟨xs,zs,r⟩=>⟨_,_,xs,zs,rfl,rfl,r⟩⟩
theorem ahb(hp:(H p).isSome=true)(hq:H q=none):upd H q o p=H p:=ai fun e=>by rw[e,hq]at hp;cases hp
theorem bp(s:bE H H')(h:H d=none):bE H (upd H' d o):=fun b u e=>by rw[ai (fun z=>by rw[z,h]at e;cases e)];exact s b u e
def V5:Option HO->Bool
 |some (.lst _)=>true
 |_=>false
theorem aee:V5 (some (.lst xs))=true:=rfl
theorem tyL(h:V5 (H p)=true):tyV K "list" (.ref p) H=True:=by
 cases e:H p with
 |none=>rw[e]at h;cases h
 |some o=>cases o with
  |lst xs=>exact eq_true (abV e)
  |_=>rw[e]at h;cases h
theorem V4(h:iv l=iv m):l=m:=by
 have e:(l.map fun(n:Nat)=>(n:Int))=(m.map fun(n:Nat)=>(n:Int)):=by
  rw[eS,eS]at h;exact zU (fun a b e=>V.int.inj e) |>.mp h
 exact D4.mp e
theorem uO{l m:List Int}(h:l.map V.int=m.map V.int):l=m:=zU (fun a b e=>V.int.inj e) |>.mp h
theorem abW:afk (.ref p) (.ref q) H Q↔∃l m:List Int,H p=some (.lst (l.map V.int))/\H q=some (.lst (m.map V.int))/\Q (.bl (decide (l=m))) H:=⟨by rintro⟨_,_,l,m,e1,e2,h⟩;cases e1;cases e2;exact⟨l,m,h⟩,fun⟨l,m,h⟩=>⟨_,_,l,m,rfl,rfl,h⟩⟩
theorem aif:aff (.ref p) (.ref q) H Q↔∃l m:List Int,H p=some (.lst (l.map V.int))/\H q=some (.lst (m.map V.int))/\Q (.bl (!decide (l=m))) H:=⟨by rintro⟨_,_,l,m,e1,e2,h⟩;cases e1;cases e2;exact⟨l,m,h⟩,fun⟨l,m,h⟩=>⟨_,_,l,m,rfl,rfl,h⟩⟩
theorem aid:afd (.ref p) (.ref q) H Q↔∃l m:List Int,H p=some (.tup (l.map V.int))/\H q=some (.tup (m.map V.int))/\Q (.bl (!decide (l=m))) H:=⟨by rintro⟨_,_,l,m,e1,e2,h⟩;cases e1;cases e2;exact⟨l,m,h⟩,fun⟨l,m,h⟩=>⟨_,_,l,m,rfl,rfl,h⟩⟩
theorem aii:afj (.ref p) (.ref q) H Q↔∃xs,H p=some (.lst xs)/\H q=some (.lst [])/\Q (.bl xs.isEmpty) H:=⟨by rintro⟨_,_,l,e1,e2,h⟩;cases e1;cases e2;exact⟨l,h⟩,fun⟨l,h⟩=>⟨_,_,l,rfl,rfl,h⟩⟩
theorem aie:afe (.ref p) (.ref q) H Q↔∃xs,H p=some (.lst xs)/\H q=some (.lst [])/\Q (.bl (!xs.isEmpty)) H:=⟨by rintro⟨_,_,l,e1,e2,h⟩;cases e1;cases e2;exact⟨l,h⟩,fun⟨l,h⟩=>⟨_,_,l,rfl,rfl,h⟩⟩
theorem adA{t u:B}{P:List Int->List Int->Prop}:(∃l m:List Int,some (HO.lst (iv t))=some (.lst (l.map V.int))/\some (HO.lst (iv u))=some (.lst (m.map V.int))/\P l m)↔P (t.map fun(n:Nat)=>(n:Int)) (u.map fun(n:Nat)=>(n:Int)):=by
 constructor
 ·rintro⟨l,m,e1,e2,h⟩;rw[eS]at e1 e2;have h1:=uO (HO.lst.inj (bo e1));have h2:=uO (HO.lst.inj (bo e2));rw[<-h1,<-h2]at h;exact h
 ·intro h;exact⟨_,_,by rw[eS],by rw[eS],h⟩
theorem aj3{t:B}{P:List Int->List Int->Prop}:(∃l m:List Int,some (HO.lst (iv t))=some (.lst (l.map V.int))/\some (HO.lst [])=some (.lst (m.map V.int))/\P l m)↔P (t.map fun(n:Nat)=>(n:Int)) []:=adA (u:=[])
theorem ahy{t:B}{P:List Int->List Int->Prop}:(∃l m:List Int,some (HO.tup (iv t))=some (.tup (l.map V.int))/\some (HO.tup [])=some (.tup (m.map V.int))/\P l m)↔P (t.map fun(n:Nat)=>(n:Int)) []:=by
 constructor
 ·rintro⟨l,m,e1,e2,h⟩;rw[eS]at e1;have h1:=uO (HO.tup.inj (bo e1));have h2:=uO (l:=[]) (HO.tup.inj (bo e2));rw[<-h1,<-h2]at h;exact h
 ·intro h;exact⟨_,[],by rw[eS],rfl,h⟩
theorem afG{l:B}:(l.map fun(n:Nat)=>(n:Int))=[]↔l=[]:=List.map_eq_nil_iff
theorem ahA{P:ao->Prop}:(∃a xs,[V.ref p]=[V.ref a]/\kE K H a xs/\P a)↔(∃xs,kE K H p xs)/\P p:=⟨by rintro⟨_,xs,e,h,q⟩;cases e;exact⟨⟨xs,h⟩,q⟩,fun⟨⟨xs,h⟩,q⟩=>⟨_,xs,rfl,h,q⟩⟩
theorem aia(h:V5 (H p)=true):(∃xs,kE K H p xs)=True:=by
 cases e:H p with
 |none=>rw[e]at h;cases h
 |some o=>cases o with
  |lst xs=>exact eq_true ⟨xs,kE.of e⟩
  |_=>rw[e]at h;cases h
theorem k6{α:Type}{l:List α}{i:Nat}(h:i<l.length):∃c,l[i]? =some c:=⟨_,cy h⟩
theorem alv{P:ao->ao->List (Str×V)->Prop}:(∃a dx fs,V.ref p=V.ref a/\H a=some (HO.ins C dx fs)/\P a dx fs)↔∃dx fs,H p=some (HO.ins C dx fs)/\P p dx fs:=⟨by rintro⟨_,dx,fs,e,h⟩;cases e;exact⟨dx,fs,h⟩,fun⟨dx,fs,h⟩=>⟨_,dx,fs,rfl,h⟩⟩
theorem at7{α:Type}{x y z w u v s r:α}{l:List α}:(x::y::z::w::u::v::s::r::l)[7]? =some r:=rfl
theorem at8{α:Type}{x y z w u v s r q:α}{l:List α}:(x::y::z::w::u::v::s::r::q::l)[8]? =some q:=rfl
theorem bO(hq:H q=none)(hp:H p=some u):p≠q:=fun e=>by rw[e,hq]at hp;cases hp
theorem aM(h:upd H q o p=none):p≠q/\H p=none:=by
 by_cases e:p=q
 ·subst e;rw[aq]at h;cases h
 ·rw[ai e]at h;exact⟨e,h⟩
theorem a9(hp:H p=some u)(hq:H q=none):upd H q o p=some u:=by rw[ai (bO hq hp)];exact hp
end
end
end TM
namespace TM
open PySem PySem.Spec PyProof.Rows L2
section
end
end TM
namespace L2
open PySem PySem.Spec PyProof.Rows
section
section
variable{X:Cx}{p q pos pos':Pos}
def wx(i c:Int)(n:Nat):List V:=(c8 n).map fun(k:Nat)=>V.int (i+(k:Int)*c)
theorem Gh{α β:Type}{R:α->β->Prop}:∀{xs:List α} {us:List β},xs.length=us.length->(∀(k:Nat) (x:α) (u:β),xs[k]? =some x->us[k]? =some u->R x u)->A3 R xs us
 |[],[],_,_=>.nil
 |[],_::_,h,_=>by cases h
 |_::_,[],h,_=>by cases h
 |x::xs,u::us,h,f=>.cons (f 0 x u rfl rfl) (Gh (GX h) fun k y w hy hw=>f (k+1) y w hy hw)
theorem Po{acc:Array ax}(hI:ItemsOf (fun k v=>∃t,v= .int (i+(k:Int)*c) t) acc n):cZ (wx i c n) acc.toList:=by
 refine Gh (by unfold wx;rw[aN,Bu,eI,hI.1]) fun k x u hx hu=> ?_;obtain⟨t,rfl⟩:=hI.2 k u (by rw[<-vL];exact hu);unfold wx at hx;rw[cJ]at hx
 have hk:k<n:=by
  have:=(aw.mp hu).1;rw[eI,hI.1]at this;exact this
 rw[SO hk]at hx
 cases hx
 exact⟨t,rfl⟩
def aeX(ta:TA):TE:=fun Z H Q=>ta Z H fun vs H1=>∃i j:Int,vs=[.int i,.int j]/\(-(2^62)<=i/\i<2^62/\ -(2^62)<=j/\j<2^62)/\(j- i).toNat<=sizeLine/\∀p,H1 p=none->Q (.ref p) (upd H1 p (.lst (wx i 1 (j- i).toNat)))
theorem wX(hc:X.calm=true)(hgl:Gl X "list")(hml:X.mg "list"=none)(hg:Gl X "range")(hm:X.mg "range"=none)(ha:PA X [a,b] ta)
 (hs:bN [a,b] X.env=[(false,eval a X.env),(false,eval b X.env)]:=by rfl) (hs2:bN [b] X.env=[(false,eval b X.env)]:=by rfl)
 (RQ:bN [.Call (.Name "range" p) [a,b] [] pos] X.env=[(false,eval (.Call (.Name "range" p) [a,b] [] pos) X.env)]:=by rfl):
 PE X (.Call (.Name "list" q) [.Call (.Name "range" p) [a,b] [] pos] [] pos') (aeX ta):=by
 intro ae s Z H Q I h;refine gv (tQ I hgl hml (by decide+kernel:oM "list"=some (.type "list")) ?_);refine dO (rest:=[]) ?_ RQ rfl;rw[RQ];refine fj ?_;refine Call_ (tQ I hg hm ad4 (dO (thA (ha pos ae s Z H _ I h) fun us s1 vs H1 I1 r1 q1=> ?_) (by rw[hs,hs2]) (by rw[hs2];rfl)));obtain⟨i,j,e,⟨q1,q2,q3,q4⟩,q5,q⟩:=q1;subst e
 cases r1 with
 |cons r rr=>
  cases rr with
  |cons r' rr=>
   cases rr
   obtain⟨t,rfl⟩:=r;obtain⟨t',rfl⟩:=r';refine call_range_2 (iL ?_);have I2:Inv X ae Z H1 {s1 with heap:=s1.heap.push {cls:=.type "range",data:=.fields #[.int i t,.int j t',.int 1 s1.toks]},toks:=s1.toks+1}:=I1.kept fun b o e=>a5 _ e;refine ahC (I2.ok.hd hc) (L1 ..) (small_one q1 q2 q3 q4) (n:=(j- i).toNat) (by rw[ak2];split<;>lia) (by rw[aT]at q5;lia) fun h' tk SI c' hk hS' Wv=> ?_;exact⟨.ref _,_,I2.laid (t':=tk) hk (aE _) (show iw X.prog X.w _ h' _ (.lst (wx i 1 (j- i).toNat)) from ⟨by unfold wx;rw[aN,Bu];exact q5,SI.toList,c',Po Wv,hS'⟩),rfl,q _ (I2.fW.fresh (aE _))⟩
def aeW(ta:TA):TE:=fun Z H Q=>ta Z H fun vs H1=>∃(i j c:Int) (n:Nat),vs=[.int i,.int j,.int c]/\RgC i j c n/\n<=sizeLine/\∀p,H1 p=none->Q (.ref p) (upd H1 p (.lst (wx i c n)))
theorem Fq(hc:X.calm=true)(hgl:Gl X "list")(hml:X.mg "list"=none)(hg:Gl X "range")(hm:X.mg "range"=none)(ha:PA X [a,b,c] ta)
 (hs:bN [a,b,c] X.env=(false,eval a X.env)::bN [b,c] X.env:=by rfl) (Ik:(jE pos (bN [b,c] X.env)).any (·.1)=false:=by rfl)
 (RQ:bN [.Call (.Name "range" p) [a,b,c] [] pos] X.env=[(false,eval (.Call (.Name "range" p) [a,b,c] [] pos) X.env)]:=by rfl):
 PE X (.Call (.Name "list" q) [.Call (.Name "range" p) [a,b,c] [] pos] [] pos') (aeW ta):=by
 intro ae s Z H Q I h;refine gv (tQ I hgl hml (by decide+kernel:oM "list"=some (.type "list")) ?_);refine dO (rest:=[]) ?_ RQ rfl;rw[RQ];refine fj ?_;refine Call_ (tQ I hg hm ad4 (dO (thA (ha pos ae s Z H _ I h) fun us s1 vs H1 I1 r1 q1=> ?_) hs Ik));obtain⟨i,j,k,n,e,⟨c0,c1,c2,c3⟩,q5,q⟩:=q1;subst e
 cases r1 with
 |cons r rr=>
  cases rr with
  |cons r' rr=>
   cases rr with
   |cons r'' rr=>
    cases rr
    obtain⟨t,rfl⟩:=r;obtain⟨t',rfl⟩:=r';obtain⟨t'',rfl⟩:=r'';refine call_range_3 c0 (iL ?_) (.inl (PyProof.noPylong_small c1));have I2:Inv X ae Z H1 {s1 with heap:=s1.heap.push {cls:=.type "range",data:=.fields #[.int i t,.int j t',.int k t'']}}:=I1.kept (t':=s1.toks) fun b o e=>a5 _ e;refine ahC (I2.ok.hd hc) (L1 ..) c2 (n:=n) c3 (by rw[aT]at q5;lia) fun h' tk SI c' hk hS' Wv=> ?_;exact⟨.ref _,_,I2.laid (t':=tk) hk (aE _) (show iw X.prog X.w _ h' _ (.lst (wx i k n)) from ⟨by unfold wx;rw[aN,Bu];exact q5,SI.toList,c',Po Wv,hS'⟩),rfl,q _ (I2.fW.fresh (aE _))⟩
end
end
end L2
namespace TM
open PySem PySem.Spec PyProof.Rows L2
open Ra32 (B)
section
section
variable{K:aA}{te ti td ty tx tv:TE}{D:Ends}{Z:L2.St}{H H':Hp}{Q:VK}{p q:ao}{ta:TA}
theorem aix:aeX ta Z H Q=ta Z H fun vs H1=>∃i j:Int,vs=[.int i,.int j]/\(-(2^62)<=i/\i<2^62/\ -(2^62)<=j/\j<2^62)/\(j- i).toNat<=sizeLine/\∀p,H1 p=none->Q (.ref p) (upd H1 p (.lst (wx i 1 (j- i).toNat))):=rfl
theorem aiw:aeW ta Z H Q=ta Z H fun vs H1=>∃(i j c:Int) (n:Nat),vs=[.int i,.int j,.int c]/\RgC i j c n/\n<=sizeLine/\∀p,H1 p=none->Q (.ref p) (upd H1 p (.lst (wx i c n))):=rfl
theorem ae9:UA Z H Q=∀p,H p=none->Q (.ref p) (upd H p (.dK [])):=rfl
theorem ae8:Uz Z H Q=∀p,H p=none->Q (.ref p) (upd H p (.dT [])):=rfl
theorem afb:UC td ty Z H Q=td Z H fun x H1=>∃a,x= .ref a/\Yw H1 a/\ty Z H1 fun y H2=>∃o,sH H2 a y o/\Q (o.getD .fI) H2:=rfl
theorem afa:UB td ty tx Z H Q=td Z H fun x H1=>∃a,x= .ref a/\Yw H1 a/\ty Z H1 fun y H2=>tx Z H2 fun z H3=>∃o,sH H3 a y o/\Q (o.getD z) H3:=rfl
theorem ait:ah8 ty td Z H Q=ty Z H fun y H1=>td Z H1 fun x H2=>∃a o,x= .ref a/\sH H2 a y o/\Q (.bl o.isSome) H2:=rfl
theorem aed:OY ty td Z H Q=ty Z H fun y H1=>td Z H1 fun x H2=>∃a o,x= .ref a/\sH H2 a y o/\Q (.bl (!o.isSome)) H2:=rfl
theorem ahj:aaY td ty tv D Z H=tv Z H fun v H1=>td Z H1 fun x H2=>ty Z H2 fun y H3=>∃a H4,x= .ref a/\F4 H3 a y v H4/\D.nx Z H4:=rfl
theorem ahv{α:Type}{P:ao->α->Prop}:(∃a o,V.ref p=V.ref a/\P a o)↔∃o,P p o:=⟨by rintro⟨_,o,e,h⟩;cases e;exact⟨o,h⟩,fun⟨o,h⟩=>⟨_,o,rfl,h⟩⟩
theorem Xd(h:H p=some (.dK kvs)):sH H p (.int c) (fq kvs (.inl c)):=sH.k (k:=.inl c) h
theorem Xa{kvs:List (Key×V)}(h:H p=some (.dK kvs))(hl:kvs.length<sizeLine):F4 H p (.int c) v (upd H p (.dK (putK kvs (.inl c) v))):=F4.k (k:=.inl c) h hl
theorem afF(h:H p=some (.dK kvs)):Yw H p:=.inl ⟨kvs,.inl h⟩
theorem afB(a n:Nat):wx ((a:Int)+1) 1 n=iv ((c8 n).map (a+1+ ·)):=by
 unfold wx iv;rw[gP];refine lG fun k _=> ?_;show V.int _=V.int _
 congr 1
 show (a:Int)+1+(k:Int)*1=((a+1+k:Nat):Int);lia
theorem Zx(a n:Nat)(h:n<=a):wx ((a:Int)- 1) (-1) n=iv ((c8 n).map (a- 1- ·)):=by
 unfold wx iv;rw[gP];refine lG fun k hk=> ?_;have:=hG.mp hk;show V.int _=V.int _
 congr 1
 show (a:Int)- 1+(k:Int)* -1=((a- 1- k:Nat):Int);lia
end
end
end TM
namespace L2
open PySem PySem.Spec PyProof.Rows
section
structure Yu(P:bD)(w:cP)(K:aA)(a:ao)(kvs:List (Key×V)):Prop where
 ns:(a==eE)=false
 ob:∃o vs,K.lookup a=some o/\o.IsDictOf (de P w) vs/\KV kvs vs
structure KdT(P:bD)(w:cP)(K:aA)(a:ao)(kvs:List (List Key×V)):Prop where
 ns:(a==eE)=false
 ob:∃o es ep xs,K.lookup a=some o/\o.ExactDict/\o.data= .dict es ep/\es.toList=xs.map (EG (jY (de P w)))/\(xs.map (·.1)).Nodup/\
  (∀x∈xs,∃o' items n,K.lookup x.2.1=some o'/\o'.cls= .type "tuple"/\o'.data= .seq items n/\ItemsAre (de P w) x.1 items.toList)/\
  A3 (fun(p:List Key×V) (q:List Key×ao×ax)=>p.1=q.1/\RelV p.2 q.2.2) kvs xs
theorem Q3(r:A3 (fun(p:List Key×V) (q:List Key×ao×ax)=>p.1=q.1/\RelV p.2 q.2.2) kvs xs)(k:List Key):sv (fq kvs k) ((atKey xs k).map (·.2)):=by
 induction r with
 |nil=>exact mo
 | @cons p q ps qs h t ih=>
   obtain⟨h1,h2⟩:=h
   by_cases e:p.1=k
   ·have e':q.1=k:=h1.symm.trans e;have b:atKey (q::qs) k=some q.2:=by simp[atKey,gE,e']
    rw[gw e,b];exact h2
   ·have e':¬q.1=k:=fun z=>e (h1.trans z);have b:atKey (q::qs) k=atKey qs k:=by simp[atKey,gE,e']
    rw[eC e,b];exact ih
section
variable{X:Cx}{ae:List (ao×Obj)}{Z:St}{H:Hp}{s:az}{a b:ao}{A:cN}{E:ax->az->Prop}
theorem Yu.at_(d:Yu X.prog X.w X.K a kvs)(I:Inv X ae Z H s):∃vs,KV kvs vs/\s.heap.DictOf (de X.prog X.w) a vs:=by
 obtain⟨o,vs,h1,h2,h3⟩:=d.ob;exact⟨vs,h3,Heap.dictOf_iff.mpr ⟨o,I.Ay a o h1,h2⟩⟩
theorem KdT.at_(d:KdT X.prog X.w X.K a kvs)(I:Inv X ae Z H s):∃xs,(∀k,sv (fq kvs k) ((atKey xs k).map (·.2)))/\s.heap.DictOfH (jY (de X.prog X.w)) a xs:=by
 rcases d.ob with⟨o,es,ep,xs,h1,h2,h3,h4,h5,h6,h7⟩;refine⟨xs,Q3 h7,o,es,ep,I.Ay a o h1,h2,h3,h4,fun x hx=> ?_,h5⟩;rcases h6 x hx with⟨o',items,n,g1,g2,g3,g4⟩;exact⟨o',items,n,I.Ay _ o' g1,g2,g3,g4⟩
def pz(P:bD)(w:cP)(K:aA)(H:Hp)(a:ao)(y:V)(r:Option V):Prop:=
 (∃kvs k,Yu P w K a kvs/\y=kV k/\r=fq kvs k)\/∃kvs k b,KdT P w K a kvs/\y= .ref b/\H b=some (.tup (k.map kV))/\r=fq kvs k
theorem RH(hu:A.units+1<kO)(I:Inv X ae Z H s)(g:pz X.prog X.w X.K H a y (some v))(ry:RelV y u)(h:∀w' s',Inv X ae Z H s'->RelV v w'->Q w' s'):
 a7 (bf X.prog X.w) A (uJ (.ref a) u) Q E s:=by
 obtain⟨kvs,k,e,ey,l⟩|⟨kvs,k,b,e,ey,eb,l⟩:=g
 ·subst ey;obtain⟨vs,rel,dd⟩:=e.at_ I;obtain⟨w',hw,BN⟩:=sv.some_of (v:=v) (o:=FX vs k) (by rw[l];exact rel.val k);exact wpAny_getItem_of (Bm ry) dd.mapOf hw (h w' _ (I.tok _) BN)
 ·subst ey
  cases (show u=bM b from ry)
  obtain⟨xs,rel,dd⟩:=e.at_ I;obtain⟨w',hw,BN⟩:=sv.some_of (v:=v) (o:=(atKey xs k).map (·.2)) (by rw[l];exact rel k);obtain⟨p,hp,mX⟩:=jH.mp hw;refine wpAny_getItem_heap (fA hu) (rb I.fW eb) dd hp ?_;rw[mX];exact h w' _ (I.tok _) BN
theorem aiU{o:Option V}(hu:A.units+1<kO)(I:Inv X ae Z H s)(g:pz X.prog X.w X.K H a y o)(ry:RelV y u)(h:∀s',Inv X ae Z H s'->Q (.bool o.isSome) s'):
 a7 (bf X.prog X.w) A (bZ .In u (.ref a)) Q E s:=by
 obtain⟨kvs,k,e,ey,l⟩|⟨kvs,k,b,e,ey,eb,l⟩:=g
 ·subst ey;obtain⟨vs,rel,dd⟩:=e.at_ I;refine wpAny_in_of (Bm ry) e.ns dd.mapOf ?_;rw[<-(rel.val k).nz,<-l];exact h _ (I.tok _)
 ·subst ey
  cases (show u=bM b from ry)
  obtain⟨xs,rel,dd⟩:=e.at_ I;refine wpAny_in_heap (fA hu) (rb I.fW eb) e.ns dd ?_;have q:=(rel k).nz;rw[rB]at q;rw[<-q,<-l];exact h _ (I.tok _)
theorem ZD{o:Option V}(hu:A.units+1<kO)(I:Inv X ae Z H s)(g:pz X.prog X.w X.K H a y o)(ry:RelV y u)(h:∀s',Inv X ae Z H s'->Q (.bool (!o.isSome)) s'):
 a7 (bf X.prog X.w) A (bZ .NotIn u (.ref a)) Q E s:=by
 obtain⟨kvs,k,e,ey,l⟩|⟨kvs,k,b,e,ey,eb,l⟩:=g
 ·subst ey;obtain⟨vs,rel,dd⟩:=e.at_ I;refine akk (Bm ry) e.ns dd.mapOf ?_;rw[<-(rel.val k).nz,<-l];exact h _ (I.tok _)
 ·subst ey
  cases (show u=bM b from ry)
  obtain⟨xs,rel,dd⟩:=e.at_ I;refine agO (fA hu) (rb I.fW eb) e.ns dd ?_;have q:=(rel k).nz;rw[rB]at q;rw[<-q,<-l];exact h _ (I.tok _)
end
section
variable{X:Cx}{o i:dQ}{x:Str}{p pos:Pos}{a:ao}{ty:TE}
def aaW(X:Cx)(a:ao)(ty:TE):TE:=fun Z H Q=>ty Z H fun y H1=>∃v,pz X.prog X.w X.K H1 a y (some v)/\Q v H1
def aeY(X:Cx)(a:ao)(ty:TE):TE:=fun Z H Q=>ty Z H fun y H1=>∃o,pz X.prog X.w X.K H1 a y o/\Q (.bl o.isSome) H1
def OX(X:Cx)(a:ao)(ty:TE):TE:=fun Z H Q=>ty Z H fun y H1=>∃o,pz X.prog X.w X.K H1 a y o/\Q (.bl (!o.isSome)) H1
theorem HS{ae:List (ao×Obj)}{Z:St}{H:Hp}{s:az}{y:V}{o:Option V}(I:Inv X ae Z H s)(g:pz X.prog X.w X.K H a y o):s.TypeIs (.ref a) "dict":=by
 obtain⟨kvs,k,e,_,_⟩|⟨kvs,k,b,e,_,_,_⟩:=g
 ·obtain⟨vs,_,dd⟩:=e.at_ I;exact dd.typeIs
 ·obtain⟨xs,_,dd⟩:=e.at_ I;exact dd.typeIs
theorem Cg(hu:X.A.units+1<kO)(hg:Gl X x)(hm:X.mg x=some (.ref a))(hi:PE X i ty)(hs:ag8 i:=by exact fun _ _=>rfl)(hd:(x==("__debug__":Str))=false:=by decide):PE X (.Subscript (.Name x p) i pos) (aaW X a ty):=by
 intro ae s Z H Q I h;refine YO PySem.F.slot_dict_getitem.lookup hs (mD I hg hm ?_ hd);exact mW (hi ae s Z H _ I h) fun iv s2 y H2 I2 ry ⟨v,g,q2⟩=>⟨HS I2 g,RH hu I2 g ry fun w' s3 I3 BN=>⟨v,H2,I3,BN,q2⟩⟩
theorem acb(hu:X.A.units+1<kO)(hg:Gl X x)(hm:X.mg x=some (.ref a))(hi:PE X i ty)(hd:(x==("__debug__":Str))=false:=by decide):PC X .In i (.Name x p) (aeY X a ty):=by
 intro ae s Z H Q I h;refine mW (hi ae s Z H _ I h) fun iv s1 y H1 I1 ry ⟨ov,g,q1⟩=>mD I1 hg hm ?_ hd;exact aiU hu I1 g ry fun s3 I3=>⟨.bl ov.isSome,H1,I3,rfl,q1⟩
theorem Gg(hu:X.A.units+1<kO)(hg:Gl X x)(hm:X.mg x=some (.ref a))(hi:PE X i ty)(hd:(x==("__debug__":Str))=false:=by decide):PC X .NotIn i (.Name x p) (OX X a ty):=by
 intro ae s Z H Q I h;refine mW (hi ae s Z H _ I h) fun iv s1 y H1 I1 ry ⟨ov,g,q1⟩=>mD I1 hg hm ?_ hd;exact ZD hu I1 g ry fun s3 I3=>⟨.bl (!ov.isSome),H1,I3,rfl,q1⟩
def UD(X:Cx)(CX:G4)(k:Nat)(te:TE)(E:XK)(t:TA):TE:=fun Z H Q=>te Z H fun x H1=>∃f fd ps sp,x= .ref f/\eR X.prog X.w X.K X.mg X.base CX k f fd ps sp/\bW X.K (.ref f)=true/\Binds X.K fd ps []/\t Z H1 fun vs H2=>sp vs H2 Q E
theorem DO(hf:PE X func te)(hr:jN k X.A)(hx:lV CX X E)(ha:PA X (e::es) t)
 (hev:eval (.Call func (e::es) [] pos) X.env=(do F2 pos (<-eval func X.env) [] (jE pos (bN (e::es) X.env)) (uc pos (lT [] X.env))):=by rfl)
 (he:bN (e::es) X.env=(false,eval e X.env)::bN es X.env:=by rfl) (Ik:(jE pos (bN es X.env)).any (·.1)=false:=by rfl):
 PE X (.Call func (e::es) [] pos) (UD X CX k te E t):=by
 intro ae s Z H Q I h;refine Call_ (mW (hf ae s Z H _ I h) fun u s1 x H1 I1 rx zq=> ?_) hev;obtain⟨f,fd,ps,sp,ex,F,hk,hb,q1⟩:=zq;subst ex;obtain rfl:u=bM f:=rx;refine lU (h₀:=X.base) I1.ok.mod.kin hk (thA (ha pos ae s1 Z H1 _ I1 q1) fun us s2 vs H2 I2 r q=>⟨I2.Ay,?_⟩) he Ik;exact Dt F hr hb .nil hx I2 r (by rw[fU];exact q)
end
end
end L2
namespace TM
open PySem PySem.Spec PyProof.Rows L2
section
structure TopD(P:bD)(w:cP){K:aA}{mg:Str->Option ax}(T:Top K mg) where
 sh:ao
 DZ:mg "BEFORE"=some (.ref sh)
 D2:Yu P w K sh [(.inl 45,.ref T.negated.f),(.inl 43,.ref T.unchanged.f),(.inl 33,.ref T.AK.f),(.inl 126,.ref T.turned.f)]
 l4:ao
 rT:mg "BETWEEN"=some (.ref l4)
 bv:Nat->ao
 Gr:KdT P w K l4 [([.inl 124,.inl 124],.ref (bv 0)),([.inl 38,.inl 38],.ref (bv 1)),([.inl 124],.ref (bv 2)),([.inl 94],.ref (bv 3)),([.inl 38],.ref (bv 4)),([.inl 61,.inl 61],.ref (bv 5)),([.inl 33,.inl 61],.ref (bv 6)),([.inl 60,.inl 61],.ref (bv 7)),([.inl 62,.inl 61],.ref (bv 8)),([.inl 60],.ref (bv 9)),([.inl 62],.ref (bv 10)),([.inl 60,.inl 60],.ref (bv 11)),([.inl 62,.inl 62],.ref (bv 12)),([.inl 43],.ref (bv 13)),([.inl 45],.ref (bv 14)),([.inl 42],.ref (bv 15)),([.inl 47],.ref (bv 16)),([.inl 37],.ref (bv 17))]
 Ko:∀H:Hp,l6 K H (bv 0) [.int 1,.ref T.either.f]
 U2:∀H:Hp,l6 K H (bv 1) [.int 2,.ref T.both.f]
 rM:∀H:Hp,l6 K H (bv 2) [.int 3,.ref T.kq.f]
 wW:∀H:Hp,l6 K H (bv 3) [.int 4,.ref T.nX.f]
 vd:∀H:Hp,l6 K H (bv 4) [.int 5,.ref T.mH.f]
 U0:∀H:Hp,l6 K H (bv 5) [.int 6,.ref T.same.f]
 O6:∀H:Hp,l6 K H (bv 6) [.int 6,.ref T.other.f]
 Gd:∀H:Hp,l6 K H (bv 7) [.int 7,.ref T.zE.f]
 DD:∀H:Hp,l6 K H (bv 8) [.int 7,.ref T.vI.f]
 O7:∀H:Hp,l6 K H (bv 9) [.int 7,.ref T.below.f]
 O9:∀H:Hp,l6 K H (bv 10) [.int 7,.ref T.above.f]
 yS:∀H:Hp,l6 K H (bv 11) [.int 8,.ref T.pG.f]
 vc:∀H:Hp,l6 K H (bv 12) [.int 8,.ref T.mw.f]
 O8:∀H:Hp,l6 K H (bv 13) [.int 9,.ref T.added.f]
 yR:∀H:Hp,l6 K H (bv 14) [.int 9,.ref T.pE.f]
 yT:∀H:Hp,l6 K H (bv 15) [.int 10,.ref T.pP.f]
 DC:∀H:Hp,l6 K H (bv 16) [.int 10,.ref T.pI.f]
 U1:∀H:Hp,l6 K H (bv 17) [.int 10,.ref T.rest.f]
 pR:ao
 xN:mg "BUILT_IN"=some (.ref pR)
 xR:Yu P w K pR [(.inr "define",.ref T.define.f),(.inr "pushdef",.ref T.yV.f),(.inr "popdef",.ref T.DH.f),(.inr "undefine",.ref T.uT.f),(.inr "defn",.ref T.defn.f),(.inr "ifdef",.ref T.K3.f),(.inr "ifelse",.ref T.D5.f),(.inr "shift",.ref T.shift.f),(.inr "incr",.ref T.V7.f),(.inr "decr",.ref T.Xe.f),(.inr "len",.ref T.length.f),(.inr "index",.ref T.index.f),(.inr "substr",.ref T.substr.f),(.inr "translit",.ref T.uU.f),(.inr "eval",.ref T.vz.f),(.inr "dnl",.ref T.dnl.f),(.inr "changequote",.ref T.nU.f),(.inr "divert",.ref T.Ei.f),(.inr "divnum",.ref T.Eh.f),(.inr "undivert",.ref T.uS.f)]
section
variable{X:Cx}{ty te:TE}{Z:L2.St}{H:Hp}{Q:VK}{a:ao}{E:XK}{t:TA}{CX:G4}{k:Nat}
theorem ahg:aaW X a ty Z H Q=ty Z H fun y H1=>∃v,pz X.prog X.w X.K H1 a y (some v)/\Q v H1:=rfl
theorem aiq:aeY X a ty Z H Q=ty Z H fun y H1=>∃o,pz X.prog X.w X.K H1 a y o/\Q (.bl o.isSome) H1:=rfl
theorem aec:OX X a ty Z H Q=ty Z H fun y H1=>∃o,pz X.prog X.w X.K H1 a y o/\Q (.bl (!o.isSome)) H1:=rfl
theorem afc:UD X CX k te E t Z H Q=te Z H fun x H1=>∃f fd ps sp,x= .ref f/\eR X.prog X.w X.K X.mg X.base CX k f fd ps sp/\bW X.K (.ref f)=true/\Binds X.K fd ps []/\t Z H1 fun vs H2=>sp vs H2 Q E:=rfl
theorem afs{α:Type}{r:List α}{a:α}:(r++[a])[(r++[a]).length- 1]? =some a:=by simp
theorem eR.lift{P:bD}{w:cP}{K:aA}{mg:Str->Option ax}{ag:dg}{f:ao}{fd:gq}{ps:List Str}{sp:Sp}(F:eR P w K mg ag iN k f fd ps sp):eR P w K mg ag (jF P w) k f fd ps sp:=
 ⟨F.len,fun A aH s H args us vs Q E hr h0 hb hv hs=>oP (F.run A aH s H args us vs Q E hr h0 hb hv hs) fun r s' h=>by
  cases r with
  |ok f=>cases f<;>exact h
  |error e=>exact absurd h id⟩
end
end
end TM
namespace HT
open PySem PySem.Spec PyProof.Rows
section
variable{prog:bD}{w:cP}{A:cN}{E:ax->az->Prop}{s:az}
theorem wA{t sl:ao}{items:Array ax}{vl vu:ax}{lo hi:Option Int}{Q:ax->az->Prop}(ht:IsTup s.heap t items)(hs:s.heap.IsSliceOf sl vl vu .none)(pl:A2 vl lo)(pu:A2 vu hi)
 (hw:ml items.size 0 lo=0/\ml items.size items.size hi=items.size) (h:Q (.ref t) s):a7 (bf prog w) A (uJ (.ref t) (.ref sl)) Q E s:=by
 obtain⟨os,hos,w6,RU⟩:=id hs;have hTs:s.TypeIs (.ref sl) "slice":=⟨os,hos,w6⟩;unfold uJ
 try with_reducible refine fV ?_
 first|refine ay (aU ?_)|skip
 refine ay (aeF ht.typeIs (by decide) ?_)
 refine ay (wI (name:=cB "__getitem__") ht.typeIs d6
  (wH d6 ht.typeIs abJ ?_ (ad2 _ _)))
 show a7 _ _ (zN (.ref t)>>=_) _ _ s;refine ay (akZ ht ?_);refine ay (F0 hTs ?_);rw[if_pos (by decide)];refine ay (rL hs pl pu ?_);show a7 _ _ (if (((ml items.size 0 lo:Nat):Int)==0&&(1:Int)==1&&(ml items.size items.size hi- ml items.size 0 lo)==items.size)=true then _ else _) _ _ s;rw[hw.1,hw.2];rw[if_pos (by simp)];unfold agG
 first
  |refine ay (ay (F0 ht.typeIs (aU ?_)))
  |refine ay (ay (ay (F0 ht.typeIs (aU ?_))))
 rw[if_pos (by decide)];exact ay (OI (aU ⟨_,rfl,aU h⟩))
end
end HT
namespace L2
open PySem PySem.Spec PyProof.Rows
section
section
variable{X:Cx}
def ab1(K:aA):V->Option Int->Option Int->Hp->VK->Prop:=fun x lo hi H Q=>∃a xs,x= .ref a/\l6 K H a xs/\(HT.ml xs.length 0 lo=0/\HT.ml xs.length xs.length hi=xs.length)/\Q x H
theorem YW:Xr X (ab1 X.K):=by
 intro ae s Z H x v vl vu lo hi sl Q I rx hs pl pu h;rcases h with⟨a,xs,rfl,hx,hw,q⟩
 cases rx
 rcases I.tuple hx with⟨cV,r,ht,hz⟩;have hlen:cV.toArray.size=xs.length:=by rw[aW];exact r.length.symm
 exact⟨"tuple",_,d6.lookup,ht.typeIs,HT.wA ht hs pl pu (by rw[hlen];exact hw) ⟨.ref a,H,I,rfl,q⟩⟩
theorem YX:Xr X (fun x lo hi H Q=>ab2 X.K x lo hi H Q\/ab1 X.K x lo hi H Q):=abT.or YW
end
end
end L2
namespace PySem
open Sem (wp)
theorem GD{α β:Type}(f:α->β):∀(l:List α) (i:Nat),(l.map f).eraseIdx i=(l.eraseIdx i).map f
 |[],_=>rfl
 |_::_,0=>rfl
 |x::l,i+1=>by rw[a4,mR,mR,a4,GD f l i]
section
variable{prog:bD}{w:cP}{K:Type}[DecidableEq K]{knd:HeapKind prog w K}{A:cN}{E:ax->az->Prop}{s:az}{d a:ao}{k:K}{xs:List (K×ao×ax)}
theorem qh(hu:knd.room A)(zr:knd.is s.heap k a)(hm:s.heap.DictOfH knd d xs)(hsz:xs.length<=sizeLine)
 (hs:∀p,atKey xs k=some p->Q p.2 {s with toks:=s.toks+knd.draws k})
 (hQ:atKey xs k=none->∀h',h'.DictOfH knd d (xs++[(k,a,v)])->gO d s.heap h'->Q v {s with heap:=h',toks:=s.toks+knd.draws k}):
 a7 (bf prog w) A (OH d (.ref a) v) Q E s:=by
 rcases hm with⟨o,es,ep,ho,hc,hd,he,his,hn⟩;unfold OH
 try with_reducible refine fV ?_
 refine ay (knd.pyHash hu zr ?_);refine ay (abD (s:={s with toks:=s.toks+knd.draws k}) hu zr ho hd he his hn ?_ ?_)
 ·intro Jl;have ajp:k∉xs.map (·.1):=not_mem_keys_of_get Jl
  refine ay (OI (ay (aaG (hz:=by have e:=yj he;lia) (s:={s with toks:=s.toks+knd.draws k}) ho hd (aU (hQ (atKey_none_of_get Jl) _ ⟨_,_,ep+1,og _ ho (TQ (pq hd _)),
   hc.mapDictKeys _,pq hd _,?_,?_,?_⟩ (ir ..))))))
  ·simp[he,EG]
  ·intro x hx;obtain hx|hx:=dW.mp hx
   ·exact knd.keeps (his x hx) ho hd (ir ..)
   ·simp only[jR]at hx;subst hx;exact knd.keeps zr ho hd (ir ..)
  ·rw[bL,m7];exists hn,(by simp);intro x hx y hy;simp only[a4,qg,jR]at hy;subst hy;exact fun e=>ajp (e▸hx)
 ·intro j p hj;refine ay (oN (s:={s with toks:=s.toks+knd.draws k}) ho hd ?_);rw[entry_at he j,hj];exact ay (OI (aU (hs p (Xv hn hj))))
theorem tO(hd:(d==eE)=false)(dflt:ax):
 MeetsIn prog w (By.«dict.setdefault» ⟨[.ref d,.ref a,dflt],[]⟩) (fun A R s=>knd.room A.in1/\∃k xs,knd.is s.heap k a/\s.heap.DictOfH knd d xs/\xs.length<=sizeLine/\
  (∀p,atKey xs k=some p->R (.ok (.ret p.2)) {s with toks:=s.toks+knd.draws k})/\
  (atKey xs k=none->∀h',h'.DictOfH knd d (xs++[(k,a,dflt)])->gO d s.heap h'->R (.ok (.ret dflt)) {s with heap:=h',toks:=s.toks+knd.draws k})):=
 .of_wp fun A R s z=>by
  obtain⟨hu,k,xs,zr,hm,hz,h1,h2⟩:=z;unfold By.«dict.setdefault»;refine ay ?_;unfold zT;refine ay (zL hm.typeIs ?_);show a7 _ _ (pure (d,bM a,some dflt)) _ _ s;refine aU ?_;show a7 _ _ (if (d==eE)=true then _ else(OH d (.ref a) dflt>>=_)) _ _ s;rw[if_neg (by rw[hd];exact a8)];exact ay (qh hu zr hm hz (fun p hp=>aU ⟨p.2,rfl,h1 p hp⟩) fun hn h' hm' hs'=>aU ⟨dflt,rfl,h2 hn h' hm' hs'⟩)
theorem xk(hu:knd.room A)(zr:knd.is s.heap k a)(hm:s.heap.DictOfH knd d xs)(hsz:xs.length<=sizeLine)(hj:xs[j]? =some (k,p))
 (hQ:∀h',h'.DictOfH knd d (xs.eraseIdx j)->gO d s.heap h'->Q (some (EG knd (k,p))) {s with heap:=h',toks:=s.toks+knd.draws k}):
 a7 (bf prog w) A (ER d (.ref a)) Q E s:=by
 rcases hm with⟨o,es,ep,ho,hc,hd,he,his,hn⟩;unfold ER
 try with_reducible refine fV ?_
 refine ay (knd.pyHash hu zr ?_);refine ay (abD (s:={s with toks:=s.toks+knd.draws k}) hu zr ho hd he his hn ?_ ?_)
 ·intro Jl;exact absurd hj (Jl j p)
 ·intro i q hi;have e1:=Xv hn hj;have e2:=Xv hn hi
  have Z0:i=j:=by
   have h1:(xs.map (·.1))[i]? =some k:=by rw[cJ,hi];rfl
   have h2:(xs.map (·.1))[j]? =some k:=by rw[cJ,hj];rfl
   exact(List.getElem?_inj (aw.mp h1).1 hn).mp (h1.trans h2.symm)
  subst Z0;refine ay (oN (s:={s with toks:=s.toks+knd.draws k}) ho hd ?_);rw[entry_at he i,hj]
  refine ay (aaG (hz:=by have e:=yj he;lia) (s:={s with toks:=s.toks+knd.draws k}) ho hd (aU (hQ _ ⟨_,_,ep+1,og _ ho (TQ (pq hd _)),
   hc.mapDictKeys _,pq hd _,?_,?_,?_⟩ (ir ..))))
  ·have iB:i<es.size:=by rw[yj he];exact(aw.mp hj).1
   show (es.eraseIdxIfInBounds i).toList=_;rw[Array.eraseIdxIfInBounds,dif_pos iB,Array.toList_eraseIdx,he,GD]
  ·intro x hx;exact knd.keeps (his x (List.mem_of_mem_eraseIdx hx)) ho hd (ir ..)
  ·exact Jx ((OG _ _).map _) hn
theorem BY(hd:(d==eE)=false):
 MeetsIn prog w (By.«dict.pop» ⟨[.ref d,.ref a],[]⟩) (fun A R s=>knd.room A.in1/\∃k xs j p,knd.is s.heap k a/\s.heap.DictOfH knd d xs/\xs.length<=sizeLine/\xs[j]? =some (k,p)/\
  (∀h',h'.DictOfH knd d (xs.eraseIdx j)->gO d s.heap h'->R (.ok (.ret p.2)) {s with heap:=h',toks:=s.toks+knd.draws k})):=
 .of_wp fun A R s z=>by
  rcases z with⟨hu,k,xs,j,p,zr,hm,hz,hj,h⟩;unfold By.«dict.pop»;refine ay ?_;unfold zT;refine ay (zL hm.typeIs ?_);show a7 _ _ (pure (d,bM a,none)) _ _ s;refine aU ?_;rcases id hm with⟨o,es,ep,ho,hc,hd',he,his,hn⟩
  have ajD:es.isEmpty=false:=by
   have h1:=yj he;have h2:j<xs.length:=(aw.mp hj).1
   cases hq:es.isEmpty with
   |false=>rfl
   |true=>rw[Array.isEmpty_iff]at hq;subst hq;simp at h1;lia
  simp only[show (keyPart (bM a)).isSome=false from rfl,jT,if_false];refine ay (oN ho hd' (ay (aU ?_)));rw[ajD];simp only[jT,if_false];refine ay (xk hu zr hm hz hj fun h' hm' hs'=> ?_);simp only[Option.isNone_some,jT,if_false];exact ay (wpAny_letGo (aU ⟨_,rfl,h h' hm' hs'⟩))
end
end PySem
namespace L2
open PySem PySem.Spec PyProof.Rows
section
section
variable{X:Cx}{o e f:dQ}{apos kL:Pos}{td ty tx:TE}
theorem Lz{kvs:List (List Key×V)}(hn:(kvs.map (·.1)).Nodup)(hj:kvs[j]? =some (k,v)):kvs.eraseIdx j=ug kvs k:=by
 induction kvs generalizing j with
 |nil=>cases hj
 |cons p r ih=>
  rw[a4,fe]at hn
  cases j with
  |zero=>
   cases hj
   rw[List.eraseIdx_cons_zero];unfold ug;rw[gY,if_neg (by simp)];symm;rw[SS];intro q hq;refine decide_eq_true fun e=>hn.1 ?_;have hm:q.1∈r.map (fun x:List Key×V=>x.1):=jl hq;rw[e]at hm;exact hm
  |succ j=>
   have hj':r[j]? =some (k,v):=hj
   have hk:k∈r.map (·.1):=by
    have:=bc hj';exact jl (f:=(·.1)) this
   rw[mR,ih hn.2 hj'];unfold ug;have hp:p.1≠k:=fun e=>hn.1 (by rw[e];exact hk);rw[LS (by simpa using hp)]
def Ux(td ty tx:TE):TE:=fun Z H Q=>td Z H fun x H1=>∃a,x= .ref a/\Yw H1 a/\ty Z H1 fun y H2=>tx Z H2 fun z H3=>∃kvs k b,H3 a=some (.dT kvs)/\y= .ref b/\H3 b=some (.tup (k.map kV))/\kvs.length<sizeLine/\
 (∀v,fq kvs k=some v->Q v H3)/\(fq kvs k=none->Q z (upd H3 a (.dT (kvs++[(k,z)]))))
def Uy(td ty:TE):TE:=fun Z H Q=>td Z H fun x H1=>∃a,x= .ref a/\Yw H1 a/\ty Z H1 fun y H2=>∃kvs k b v,H2 a=some (.dT kvs)/\y= .ref b/\H2 b=some (.tup (k.map kV))/\fq kvs k=some v/\Q v (upd H2 a (.dT (ug kvs k)))
theorem KT.len{kvs:List (List Key×V)}{xs:List (List Key×ao×ax)}(r:KT H kvs xs):kvs.length=xs.length:=jZ r
theorem KT.at_(r:KT H kvs xs)(h:fq kvs k=some v):∃(j:Nat) (p:ao×ax),xs[j]? =some (k,p)/\kvs[j]? =some (k,v)/\RelV v p.2:=by
 induction r with
 |nil=>cases h
 | @cons p q ps qs hh t ih=>
   obtain⟨h1,_,h2⟩:=hh
   by_cases e:p.1=k
   ·rw[gw e]at h
    cases h
    refine⟨0,q.2,?_,?_,h2⟩
    ·show some q=some (k,q.2);rw[<-e,h1]
    ·show some p=some (k,p.2);rw[<-e]
   ·rw[eC e]at h;obtain⟨j,p',a,b,c⟩:=ih h;exact⟨j+1,p',a,b,c⟩
theorem KT.erase{kvs:List (List Key×V)}{xs:List (List Key×ao×ax)}(r:KT H kvs xs):∀j,KT H (kvs.eraseIdx j) (xs.eraseIdx j):=by
 induction r with
 |nil=>intro j;exact .nil
 |cons h t ih=>
  intro j
  cases j with
  |zero=>exact t
  |succ j=>exact .cons h (ih j)
theorem KT.keys{kvs:List (List Key×V)}{xs:List (List Key×ao×ax)}(r:KT H kvs xs):kvs.map (·.1)=xs.map (·.1):=by
 induction r with
 |nil=>rfl
 |cons h t ih=>rw[a4,a4,ih,h.1]
theorem KT.snoc{p:List Key×V}{q:List Key×ao×ax}(r:KT H kvs xs)(h:p.1=q.1/\H q.2.1=some (.tup (p.1.map kV))/\RelV p.2 q.2.2):KT H (kvs++[p]) (xs++[q]):=by
 induction r with
 |nil=>exact .cons h .nil
 |cons h t ih=>exact .cons h ih
theorem Vm(hu:X.A.units+1<kO)(ho:PE X o td)(he:PE X e ty)(m:M1 X o "pop" apos e kL):PE X (.Call (.Attribute o "pop" apos) [e] [] kL) (Uy td ty):=by
 intro ae s Z H Q I h;refine uG m.base m.few m.line l8 Jw PySem.F.type_dict_pop (mW (ho ae s Z H _ I h) fun u s1 x H1 I1 rx zq=> ?_);rcases zq with⟨a,ex,d,q1⟩;subst ex;obtain rfl:u=bM a:=rx;rcases Ic I1 d with⟨t1,t2,_⟩;exists t1,t2;rw[m.trees];refine fG rfl (iK (fj (mW (he ae s1 Z H1 _ I1 q1) fun iv s2 y H2 I2 ry zq=>iL ?_)));rcases zq with⟨kvs,k,b,v,ea,ey,eb,l,q2⟩;subst ey
 cases (show iv=bM b from ry)
 rcases W8 I2.fW ea with⟨z,hd,xs,rel,dd⟩;rcases rel.at_ l with⟨j,p,hj,hkj,rp⟩;have hz:xs.length<=sizeLine:=by rw[<-rel.len];exact z
 have hn:(kvs.map (·.1)).Nodup:=by
  rw[rel.keys];rcases dd with⟨_,_,_,_,_,_,_,_,h5⟩;exact h5
 refine sE Jw dd.typeIs PySem.F.entry_dict_pop (PySem.F.args_dict_pop_2 _ _) (BY (knd:=jY (de X.prog X.w)) (d:=a) (a:=b) hd) ⟨fA hu,k,xs,j,p,rb I2.fW eb,dd,hz,hj,fun h' dd' hs=> ?_⟩;rcases dd' with⟨q,es,ep,hq,h2,h3,h4,_,h5⟩;have hel:(kvs.eraseIdx j).length<=sizeLine:=cj (ahB (OG _ _)) z
 have new:Inv X ae Z (upd H2 a (.dT (ug kvs k))) {s2 with heap:=h',toks:=s2.toks+(jY (de X.prog X.w)).draws k}:=by
  rw[<-Lz hn hkj];refine Cr I2 (by rw[ea];exact mo) hs ⟨q,hq⟩ ⟨hel,hd,_,(rel.erase j).keeps fun c ys ec=> ?_,q,es,ep,hq,h2,h3,h4,h5⟩;rw[ai (VO ec ea (fun z=>nomatch z))];exact ec
 exact⟨v,_,new,rp,q2⟩
theorem Vl(hu:X.A.units+1<kO)(ho:PE X o td)(he:PE X e ty)(hf:PE X f tx)(m:M2 X o "setdefault" apos e f kL):PE X (.Call (.Attribute o "setdefault" apos) [e,f] [] kL) (Ux td ty tx):=by
 intro ae s Z H Q I h;refine uG m.base m.few m.line l8 B6 PySem.F.type_dict_setdefault (mW (ho ae s Z H _ I h) fun u s1 x H1 I1 rx zq=> ?_);rcases zq with⟨a,ex,d,q1⟩;subst ex;obtain rfl:u=bM a:=rx;rcases Ic I1 d with⟨t1,t2,_⟩;exists t1,t2;rw[m.trees]
 refine fG rfl (iK (fj (mW (he ae s1 Z H1 _ I1 q1) fun iv s2 y H2 I2 ry q2=>
  fj (mW (hf ae s2 Z H2 _ I2 q2) fun fv s3 z H3 I3 rz zq=>iL ?_))))
 rcases zq with⟨kvs,k,b,ea,ey,eb,hl,q3,q4⟩;subst ey
 cases (show iv=bM b from ry)
 rcases W8 I3.fW ea with⟨zz,hd,xs,rel,dd⟩;have hz:xs.length<=sizeLine:=by rw[<-rel.len];exact zz
 refine sE B6 dd.typeIs PySem.F.entry_dict_setdefault (PySem.F.args_dict_setdefault_3 _ _ _) (tO (knd:=jY (de X.prog X.w)) (d:=a) (a:=b) hd fv) ⟨fA hu,k,xs,rb I3.fW eb,dd,hz,fun p hp=> ?_,fun hp h' dd' hs=> ?_⟩
 ·have r:=rel.val k;rw[hp]at r
  cases hv:fq kvs k with
  |none=>rw[hv]at r;exact absurd r id
  |some v=>rw[hv]at r;exact⟨v,H3,I3.tok _,r,q3 v hv⟩
 ·have r:=rel.val k;rw[hp]at r
  cases hv:fq kvs k with
  |some v=>rw[hv]at r;exact absurd r id
  |none=>
   rcases dd' with⟨q,es,ep,hq,h2,h3,h4,_,h5⟩;have hel:(kvs++[(k,z)]).length<=sizeLine:=by rw[aF,d8];exact hl
   refine⟨z,_,?_,rz,q4 hv⟩;refine Cr I3 (by rw[ea];exact mo) hs ⟨q,hq⟩ ⟨hel,hd,_,KT.keeps (rel.snoc ⟨rfl,eb,rz⟩) fun c ys ec=> ?_,q,es,ep,hq,h2,h3,h4,h5⟩;rw[ai (VO ec ea (fun z=>nomatch z))];exact ec
end
end
end L2
namespace TM
open PySem PySem.Spec PyProof.Rows L2
section
section
variable{td ty tx:TE}{Z:L2.St}{H:Hp}{Q:VK}
theorem ahc:aa2 (.ref p) (.int i) v H k↔∃xs j,H p=some (.lst xs)/\HZ xs.length i=some j/\k (upd H p (.lst (xs.set j v))):=⟨by rintro⟨_,xs,_,j,e1,e2,h⟩;cases e1;cases e2;exact⟨xs,j,h⟩,fun⟨xs,j,h⟩=>⟨_,xs,_,j,rfl,rfl,h⟩⟩
theorem ahu{P:List V->Nat->Prop}:(∃l j,some (HO.lst xs)=some (HO.lst l)/\P l j)↔∃j,P xs j:=⟨by rintro⟨_,j,e,h⟩;cases e;exact⟨j,h⟩,fun⟨j,h⟩=>⟨_,j,rfl,h⟩⟩
theorem V3{r:List V}:HZ (r++[a]).length (-1)=some r.length:=by
 unfold HZ;rw[aF,d8];simp;lia
theorem UP{r:List V}:(r++[a]).set r.length v=r++[v]:=by simp
theorem ae6:Ux td ty tx Z H Q=td Z H fun x H1=>∃a,x= .ref a/\Yw H1 a/\ty Z H1 fun y H2=>tx Z H2 fun z H3=>∃kvs k b,H3 a=some (.dT kvs)/\y= .ref b/\H3 b=some (.tup (k.map kV))/\kvs.length<sizeLine/\
 (∀v,fq kvs k=some v->Q v H3)/\(fq kvs k=none->Q z (upd H3 a (.dT (kvs++[(k,z)])))):=rfl
theorem ae7:Uy td ty Z H Q=td Z H fun x H1=>∃a,x= .ref a/\Yw H1 a/\ty Z H1 fun y H2=>∃kvs k b v,H2 a=some (.dT kvs)/\y= .ref b/\H2 b=some (.tup (k.map kV))/\fq kvs k=some v/\Q v (upd H2 a (.dT (ug kvs k))):=rfl
end
end
end TM
namespace L2
open PySem PySem.Spec PyProof.Rows
section
section
variable{X:Cx}
def O4:V->List V->Hp->VK->Prop:=fun x vs H Q=>∃(l:ao) (ns:List Int) (c:Int),x= .ref l/\vs=[.int c]/\H l=some (.lst (ns.map V.int))/\Q (.int (ns.count c:Nat)) H
def isI(c:Int):ax->Bool
 | .int a _=>a==c
 |_=>false
theorem Ou{ns:List Int}:∀{us:List ax} (c:Int),cZ (ns.map V.int) us->us.countP (isI c)=ns.count c/\∀y∈us,∃a t,y= .int a t:=by
 induction ns with
 |nil=>intro us c h;cases h;exact⟨rfl,fun _ h=>by cases h⟩
 |cons a ns ih=>
  intro us c h
  cases h with
  |cons e r=>
   obtain⟨t,rfl⟩:=e;obtain⟨h1,h2⟩:=ih c r;refine⟨?_,fun y hy=> ?_⟩
   ·rw[List.countP_cons,pC,h1];rfl
   ·obtain rfl|hy:=a0.mp hy
    ·exact⟨a,t,rfl⟩
    ·exact h2 y hy
theorem Ro:MtM X "list.count" O4:=by
 intro ae s Z H x vs v us Q I rx rv h;obtain⟨l,ns,c,rfl,rfl,hH,q⟩:=h
 cases rx
 obtain⟨u,rfl,ru⟩:=rv.one;obtain⟨tc,rfl⟩:=ru;obtain⟨z,cV,n,r,hl,e⟩:=I.HN hH;obtain⟨h1,h2⟩:=Ou c r;refine pY F.slot_list_count ⟨_,e,rfl⟩ F.entry_list_count (F.args_list_count_2 _ _) (MeetsSeq.list_count l cV.toArray n (.int c tc) (isI c) (fun y hy=> ?_)) ⟨e,?_⟩
 ·obtain⟨a,t,rfl⟩:=h2 y (by simpa using hy);exact abC a c t tc
 ·refine⟨.int (ns.count c:Nat),H,I.tok _,⟨s.toks,?_⟩,q⟩;show nY _ _=_;rw[List.toList_toArray,h1]
end
end
end L2
namespace TM
open PySem PySem.Spec PyProof.Rows L2
section
theorem aea:O4 (.ref p) [.int c] H Q↔∃ns:List Int,H p=some (.lst (ns.map V.int))/\Q (.int (ns.count c:Nat)) H:=⟨by rintro⟨_,ns,_,e1,e2,h⟩;cases e1;cases e2;exact⟨ns,h⟩,fun⟨ns,h⟩=>⟨_,ns,_,rfl,rfl,h⟩⟩
end
end TM
namespace L2
open PySem PySem.Spec PyProof.Rows
section
def Itb(kvs:List (Key×V)):It:=
 ⟨fun i _=>i<kvs.length,fun i H x H'=>H'=H/\∃k v,kvs[i]? =some (k,v)/\x=kV k,fun i _=>kvs.length<=i⟩
theorem MB{K:aA}{o:Obj}{es:Array mh}{kvs:List (Key×V)}{vs:List (Key×ax)}(it:ao)(hk:K.lookup d=some o)(hx:o.ExactDict)(hod:o.data= .dict es ep)(hko:KeysOf (de P w) es)(hp:Pairs (de P w) es.toList vs)(hn:(vs.map (·.1)).Nodup)(kv:KV kvs vs):
 Turn P w K tg (Itb kvs) [it] it (fun i h=>h.IsKeyIter it d i kvs.length ep) where
 mem:=by simp
 obj:=fun i h st b hb=>by
  have e:b=it:=by simpa using hb
  subst e;rcases st with⟨oi,e,c,dd⟩;exact⟨oi,e,fun v z=>by rw[dd]at z;cases z⟩
 keep:=fun i h h' st k=>st.at fun oi e=>k it (by simp) oi e
 item:=by
  intro X hP hw hK hc i ae s Z H E I hf st hi;subst hP hw hK;rcases hf it (by simp)with⟨f0,f1,f2,f3,f4,f5⟩;have Z5:=I.Ay d o hk;have hm:s.heap.DictAt (de X.prog X.w) d vs ep:=⟨o,es,Z5,hx,hod,hko,hp,hn⟩;obtain⟨⟨k,v⟩,PF⟩:∃p,kvs[i]? =some p:=⟨kvs[i],cy hi⟩;rcases acG kv PF with⟨u,hu,ru⟩;have hl:kvs.length=vs.length:=jZ kv;rw[hl]at st;refine wpAny_pyNext_dict_item st hm hu fun key h' zr UI sb=> ?_;have I1:Inv X ae Z H {s with heap:=h'}:=I.turned (t':=s.toks) (fun b ob hb e=>(sb.2 b hb).trans e) f0 f1 f3 f4 f5;rcases id UI with⟨oi,e,c,dd⟩;refine⟨key,rfl,PV (s:={s with heap:=h'}) e c dd (by decide) ⟨kV k,H,I1,Km (show zm k key=true from zr),⟨rfl,k,v,PF,rfl⟩,?_,fun b hb=>(hf b hb).1⟩⟩;show h'.IsKeyIter it d (i+1) kvs.length _;rw[hl];exact UI
 done:=by
  intro X hP hw hK hc i ae s Z H E I hf st hi;subst hP hw hK;rcases hf it (by simp)with⟨f0,f1,f2,f3,f4,f5⟩;have Z5:=I.Ay d o hk
  have hsz:es.size=kvs.length:=by
   have l1:=hp.length;have l2:kvs.length=vs.length:=jZ kv;rw[eI]at l1;lia
  exact HH (I.ok.hd hc) st Z5 hod hsz hi fun h' eb=>⟨rfl,I.turned (t':=s.toks) (fun b ob hb e=>eb b ob hb e) f0 f1 f3 f4 f5⟩
 self:=fun A i s Q E st h=>wpAny_pyIter_keyiter st h
section
variable{X:Cx}{tg:dQ}{x:Str}{p:Pos}{a:ao}
def V9(kvs:List (Key×V)):TI:=fun Z H R=>R (Itb kvs) H
theorem Vi(d:Yu X.prog X.w X.K a kvs)(hg:Gl X x)(hm:X.mg x=some (.ref a))(hd:(x==("__debug__":Str))=false:=by decide):PI X tg (.Name x p) (V9 kvs):=by
 intro ae s Z H R I h;refine mD I hg hm ?_ hd;rcases d.ob with⟨o,vs,h1,⟨es,ep,hx,vY,hko,hp,hn⟩,kv⟩;have Z5:=I.Ay a o h1;refine RI d.ns Z5 hx vY (Nf (tk:=s.toks) I _ (MB _ h1 hx vY hko hp hn kv) ⟨_,b9 _ rfl,rfl,?_⟩ h)
 have hsz:es.size=kvs.length:=by
  have l1:=hp.length;have l2:kvs.length=vs.length:=jZ kv;rw[eI]at l1;lia
 rw[hsz]<;>rfl
theorem En(hc:X.calm=true):qe X (.type "list") (fun xs H Q=>∃p kvs,xs=[.ref p]/\H p=some (.dK kvs)/\∀l,H l=none->Q (.ref l) (upd H l (.lst (kvs.map fun q=>kV q.1)))):=by
 intro ae s Z H xs us Q I r h;obtain⟨p,kvs,rfl,hH,q⟩:=h;obtain⟨u,rfl,rx⟩:=vals1 r
 cases rx
 obtain⟨hz,hs,vs,kv,hD⟩:=I.fW p _ hH;obtain⟨ep,Jm⟩:=hD.dictAt;have hl:kvs.length=vs.length:=jZ kv;refine PySem.W.kdl_call (PySem.W.kdl_dict (knd:=de X.prog X.w) (kvs:=vs) (ep:=ep) hs) (I.ok.hd hc) Jm (by lia) fun h' tk SI c' hk hD' Wv=> ?_;refine⟨.ref s.heap.objs.size,_,I.laid (t':=tk) hk (aE _) (show iw X.prog X.w _ h' _ (.lst (kvs.map fun q=>kV q.1)) from ⟨by rw[aN];exact hz,SI.toList,c',?_,by rw[hD']⟩),rfl,q _ (I.fW.fresh (aE _))⟩;obtain⟨hsz,hit⟩:=Wv
 have key:∀(kvs:List (Key×V)) (us:List ax),us.length=kvs.length->(∀(j:Nat) (v:ax),us[j]? =some v->∃k x,kvs[j]? =some (k,x)/\RelV (kV k) v)->cZ (kvs.map fun q=>kV q.1) us:=by
  intro kvs
  induction kvs with
  |nil=>
   intro us hlen _
   cases us with
   |nil=>exact .nil
   |cons _ _=>cases hlen
  |cons q kvs ih=>
   intro us hlen hus
   cases us with
   |nil=>cases hlen
   |cons u us=>
    obtain⟨k,x,e,rk⟩:=hus 0 u rfl
    cases e
    exact .cons rk (ih us (by simpa using hlen) fun j v hj=>hus (j+1) v hj)
 refine key kvs SI.toList (by rw[eI,hsz,hl]) fun j v hj=> ?_;obtain⟨k,y,e,hki⟩:=hit j v (by rw[<-vL];exact hj)
 have:∀{kvs:List (Key×V)} {vs:List (Key×ax)},KV kvs vs->∀{j:Nat} {k:Key} {y:ax},vs[j]? =some (k,y)->∃x,kvs[j]? =some (k,x):=by
  intro kvs vs h;unfold KV at h
  induction h with
  |nil=>intro j k y e;simp at e
  |cons a _ ih=>
   intro j k y e
   cases j with
   |zero=>
    cases e
    rename_i p _ _ _;obtain⟨p1,p2⟩:=p;obtain⟨a1,_⟩:=a;have a1:p1=k:=a1;subst a1;exact⟨p2,rfl⟩
   |succ j=>exact ih e
 obtain⟨x,ex⟩:=this kv e;exact⟨k,x,ex,Km hki⟩
end
end
end L2
namespace TM
open PySem PySem.Spec PyProof.Rows L2
section
theorem akp.intro{kvs:List (Key×V)}{D:Ends}(Pv:Nat->L2.St->Hp->Prop)(h0:Pv 0 Z H)
 (hs:∀i k v Z H,kvs[i]? =some (k,v)->Pv i Z H->g (kV k) Z H fun Z2 H2=>tb {D with nx:=Pv (i+1),ct:=Pv (i+1),bk:=D.nx} Z2 H2) (hd:∀Z H,Pv kvs.length Z H->D.nx Z H):YK (V9 kvs) g tb D Z H:=by
 exists fun i m Z H=>Pv i Z H/\m=kvs.length- i/\i<=kvs.length,⟨_,h0,rfl,aC _⟩;rintro i m Z H ⟨hp,rfl,hi⟩
 by_cases iB:i<kvs.length
 ·refine .inr ⟨iB,Pv (i+1),fun Z' H' p'=>⟨_,by omega,p',rfl,iB⟩,fun x H' hy=> ?_⟩;obtain⟨rfl,k,v,e,rfl⟩:=hy;exact hs i k v Z _ e hp
 ·exact .inl ⟨EC iB,hd Z H (by rwa [show i=kvs.length by lia]at hp)⟩
end
end TM
namespace L2
open PySem PySem.Spec PyProof.Rows
section
section
variable{M:TF}{A:cN}{E:ax->az->Prop}{s:az}{env:Env}
def Pq(M:TF)(A:cN)(E:ax->az->Prop)(Q:ax->az->Prop)(acc:ax)(ce:Env):Result->az->Prop
 | .ok _,s'=>∃m,s'.heap.Ns ce.locals m/\∀h',gO ce.locals s'.heap h'->Q acc {s' with heap:=h'}
 | .error x,s'=>∃m,s'.heap.Ns ce.locals m/\∀h',gO ce.locals s'.heap h'->a7 M A (passOn "comprehension.variables-let-go" x ce:Sem ax) Q E {s' with heap:=h'}
theorem aiT{af:ia}{g:Comprehension}
 (h1:clausesOf e=g::gs) (h2:∀x,foldedSetIterable g.iter env x=pure x) (h3:adZ af env=pure cl) (h4:af.kind= .function) (h5:∀x∈af.names,x.2= .local->af.names.lookup x.1=some .local)
 (h:a7 M A it1 (fun x s1=>a7 M A (ad5 x) (fun it s2=>a7 M A new (fun acc s3=>a7 M A (AY af env.globals cl [] env.qual none .none (some env)) (fun ce s4=>
  uL M A (.compStart e 0 it acc {ce with scope:=FY af env}) (Pq M A E Q acc {ce with scope:=FY af env}) s4) E s3) E s2) E s1) E s):
 a7 M A (CB e af env pos new false it1 none) Q E s:=by
 unfold CB;rw[h3,h1];refine ay (dZ h (fun x s1 g1=> ?_) fun _ _ z=>z);refine ay (CC (ay (wpAny_of_eq (h2 x) (ay (fV (dZ g1 (fun it s2 g2=> ?_) fun _ _ z=>z))))));refine wpAny_standIf (ay (dZ g2 (fun acc s3 g3=> ?_) fun _ _ z=>z));refine ay (aU (ay (dZ g3 (fun ce s4 g4=> ?_) fun _ _ z=>z)));dsimp only;refine fV (ay (akH (fV (wpAny_run (oP g4 fun r s' hr=> ?_)))))
 have hv:∀x∈(af.names.filter fun x=>(x.2==.local||x.2==.cell)&&x.1 != (".0":Str)).reverse,x.2= .local->akl {ce with scope:=FY af env} x.1=some .local:=
  fun x hx hl=>lookup_relabel_local (h5 x (mf.mp (Cz.mp hx)).1 hl)
 cases r with
 |ok f=>
  obtain⟨m,hn,hr⟩:=hr;refine ay (fV ?_);exact agF (cenv:={ce with scope:=FY af env}) h4 _ s' m hv hn fun h' m' _ k=>aU (hr h' k)
 |error x=>
  obtain⟨m,hn,hr⟩:=hr;refine ay (fV ?_);exact agF (cenv:={ce with scope:=FY af env}) h4 _ s' m hv hn fun h' m' _ k=>hr h' k
end
theorem Wq{B h h':dg}(x:GW B l a cls t L h)(sb:gO C h h')(hB:B.get? C=none)(hd:∃m,h.Ns C m)(hl:C∉mG l):GW B l a cls t L h':=by
 rcases x with⟨k1,k2,k3,oe,vs,T,oT,ts,e1,e2,e3,e4,e5,e6,e7,e8,e9⟩;rcases hd with⟨m,o,es,ep,ho,vY,_⟩;have hCe:a≠C:=fun z=>by rw[z,ho]at e1;cases e1;rw[vY]at e3;cases e3
 have hCT:T≠C:=fun z=>by rw[z,ho]at e7;cases e7;rw[vY]at e8;cases e8
 refine⟨fun b o hb=> ?_,k2,?_,oe,vs,T,oT,ts,(sb.2 a hCe).trans e1,e2,e3,e4,e5,e6,(sb.2 T hCT).trans e7,e8,e9⟩
 ·have:b≠C:=fun z=>by rw[z,hB]at hb;cases hb
  exact(sb.2 b this).trans (k1 b o hb)
 ·clear e1 e2 e3 e4 e5 e6 e7 e8 e9 k1 k2
  induction l with
  |nil=>exact k3
  |cons env l ih=>
   rcases k3 with⟨g1,⟨L',o',g2,g3,g4,g5⟩,g6⟩;have hL:L'≠C:=fun z=>hl (by unfold mG;rw[lE,g2,z];exact aX);refine⟨g1,⟨L',o',g2,g3,(sb.2 L' hL).trans g4,g5⟩,ih (fun z=>hl (by unfold mG;rw[lE,g2];exact aK _ z)) g6⟩
theorem Li{B B' h:dg}(x:lh B l a cls t h)(k:∀b o,B'.get? b=some o->B.get? b=some o):lh B' l a cls t h:=by
 have no:∀b,B.get? b=none->B'.get? b=none:=fun b e=>by
  cases q:B'.get? b with
  |none=>rfl
  |some o=>rw[k b o q]at e;cases e
 rcases x with⟨k1,k2,k3,oe,vs,T,oT,ts,e1,e2,e3,e4,e5,e6⟩;refine⟨fun b o hb=>k1 b o (k b o hb),no _ k2,?_,oe,vs,T,oT,ts,e1,e2,e3,e4,no _ e5,e6⟩;clear e1 e2 e3 e4 e5 e6 k1 k2
 induction l with
 |nil=>exact k3
 |cons env l ih=>
  rcases k3 with⟨g1,⟨L',o',g2,g3,g4⟩,g6⟩;exact⟨g1,⟨L',o',g2,no _ g3,g4⟩,ih g6⟩
theorem Xg{h0 h h' B:dg}(u:Un fs ex H H' h0 h)(fW:vO P w H' h)(k:B.StaysIn h)(k':B.StaysIn h')(up:∀b∈fs,∀o,h.get? b=some o->(∀vs,o.data≠.fields vs)->∃sl,h'.get? b=some {o with slots:=sl})
 (tr:∀b v,H' b=some v->∃o,B.get? b=some o) (old:∀b o,h0.get? b=some o->b∉fs->b∉ex->∃o',B.get? b=some o')
 (fr:∀b∈fs,∃o,h.get? b=some o/\∀vs,o.data≠.fields vs):Un fs ex H H' h0 h'/\vO P w H' h':=by
 have mv:∀b o ob,B.get? b=some ob->h.get? b=some o->h'.get? b=some o:=fun b o ob e1 e2=>by
  have e3:=k b ob e1;rw[e2]at e3;rw[bo e3];exact k' b ob e1
 refine⟨⟨fun b o q n hb hx=> ?_,fun b o q n hb hx=> ?_,u.free,fun b o q hx=> ?_,u.yu,u.xX,u.yy⟩,fun a o e=> ?_⟩
 ·obtain⟨ob,e1⟩:=old b o q hb hx;exact mv b o ob e1 (u.keep b o q n hb hx)
 ·obtain⟨sl,e1⟩:=u.slot b o q n hb hx;obtain⟨o2,e2,nf⟩:=fr b hb;rw[e1]at e2
  cases e2
  obtain⟨sl2,e3⟩:=up b hb _ e1 nf;exact⟨sl2,e3⟩
 ·by_cases hb:b∈fs
  ·obtain⟨o2,e2,nf⟩:=fr b hb;obtain⟨sl2,e3⟩:=up b hb _ e2 nf;exact⟨_,e3⟩
  ·obtain⟨ob,e1⟩:=old b o q hb hx;exact⟨ob,k' b ob e1⟩
 ·refine(fW a o e).J1 (fun b v hb q=> ?_) (fun _ z=>z) fun _ _ z=>z;obtain rfl|hb:=hb
  ·obtain⟨ob,e1⟩:=tr _ _ e;exact mv _ _ ob e1 q
  ·obtain⟨ob,e1⟩:=tr _ _ hb;exact mv _ _ ob e1 q
def B3(X:Cx)(E:XK)(s:az)(H:Hp)(af:ia)(ce:Env)(fp:List ao):Cx:={X.LJ s H af ce fp with xe:=fun e s'=>∃ae Z H1 s1,Inv (X.LJ s H af ce fp) ae Z H1 s1/\jF X.prog X.w X.stack H1 s1 E e s'}
section
variable{X:Cx}{E:XK}{s:az}{H:Hp}{af:ia}{ce:Env}{fp:List ao}{ae:List (ao×Obj)}{Z:St}{H1:Hp}{s1:az}
theorem aj6(I:Inv (X.LJ s H af ce fp) ae Z H1 s1):Inv (B3 X E s H af ce fp) ae Z H1 s1:=by
 obtain⟨⟨o1,o2,o3,o4,o5,o6,o7,o8,o9,o10,o11,o12,o13,o14,o15,o16,o17,o18⟩,i2,i3,i4,i5,i6,i7,i8,i9,i10,i11⟩:=I;exact⟨⟨o1,o2,o3,o4,o5,o6,o7,o8,o9,o10,o11,o12,o13,o14,o15,o16,o17,o18⟩,i2,i3,i4,i5,i6,i7,i8,i9,i10,i11⟩
theorem adL(I:Inv (B3 X E s H af ce fp) ae Z H1 s1):Inv (X.LJ s H af ce fp) ae Z H1 s1:=by
 obtain⟨⟨o1,o2,o3,o4,o5,o6,o7,o8,o9,o10,o11,o12,o13,o14,o15,o16,o17,o18⟩,i2,i3,i4,i5,i6,i7,i8,i9,i10,i11⟩:=I;exact⟨⟨o1,o2,o3,o4,o5,o6,o7,o8,o9,o10,o11,o12,o13,o14,o15,o16,o17,o18⟩,i2,i3,i4,i5,i6,i7,i8,i9,i10,i11⟩
theorem afu(hP:X.prog=P)(hw:X.w=w):lV (jF P w) (B3 X E s H af ce fp) E:=by
 subst hP hw;exact fun ae Z H1 s1 e s2 I hx=>⟨ae,Z,H1,s1,adL I,hx⟩
end
section
variable{P:bD}{w:cP}{K:aA}{mg:Str->Option ax}{ag:dg}{N:List Str}{aG:Str}{sc:ia}{f:ao}{cd:ax}{A:cN}{aH:List Env}{s0:az}{H0:Hp}{E:XK}
theorem aiL{ae:List (ao×Obj)}{Z:St}{H1:Hp}{s1:az}{a t:ao}{cls:ax}{B:dg}(I:Inv (iJ (jF P w) P w K mg ag N aG sc f cd A aH s0 H0 E) ae Z H1 s1)
 (hd:GW B (envOfC aG sc s0.heap.objs.size f cd::aH) a cls (.ref t) s0.heap.objs.size s1.heap) (tr:∀b v,H1 b=some v->∃o,B.get? b=some o) (old:∀b o,s0.heap.get? b=some o->b∉mG aH->∃o',B.get? b=some o') (q:E cls none H1):
 (iJ (jF P w) P w K mg ag N aG sc f cd A aH s0 H0 E).xe (.ref a) s1:=by
 show a7 (bf P w) (A.deeper (envOfC aG sc s0.heap.objs.size f cd)) (XC (envOfC aG sc s0.heap.objs.size f cd) (.ref a)) _ _ s1;unfold XC;refine ay (wpAny_noteFrame_againW rfl hd.2.2.2 ?_);refine Xw hd fun h' fl up=> ?_;obtain⟨k1,k2,⟨_,_,k3⟩,k4⟩:=fl;obtain⟨m1,m2⟩:=zA I.base I.fW hd.1 k1 up tr old (fun b hb=>(hd.2.2.1.2.2.mem hb).2);exact⟨a,t,cls,H1,B,rfl,I.os,I.bare,m1,m2,⟨k1,k2,k3,k4⟩,tr,old,q⟩
theorem abK{ae:List (ao×Obj)}{Z:St}{H3:Hp}{s3:az}{af:ia}{ce:Env}{fp:List ao}{Q:ax->az->Prop}{acc:ax}{e:ax}{s2:az}
 (I3:Inv (iJ (jF P w) P w K mg ag N aG sc f cd A aH s0 H0 E) ae Z H3 s3) (NY:∀b∈fp,(b∈(iJ (jF P w) P w K mg ag N aG sc f cd A aH s0 H0 E).ex\/s0.heap.objs.size<=b)/\b≠s0.heap.objs.size/\(∀x c,(envOfC aG sc s0.heap.objs.size f cd).cells.lookup x=some c->c≠b)/\∀p∈(iJ (jF P w) P w K mg ag N aG sc f cd A aH s0 H0 E).pn++ae,p.1≠b)
 (hcL:ce.locals=s3.heap.objs.size) (hcf:ce.frame=some s0.heap.objs.size)
 (hx:(B3 (iJ (jF P w) P w K mg ag N aG sc f cd A aH s0 H0 E) E s3 H3 af ce fp).xe e s2):
 uH (bf P w) (A.deeper (envOfC aG sc s0.heap.objs.size f cd)) ce (fun e s'=>Pq (bf P w) (A.deeper (envOfC aG sc s0.heap.objs.size f cd)) (iJ (jF P w) P w K mg ag N aG sc f cd A aH s0 H0 E).xe Q acc ce (.error e) s') e s2:=by
 rcases hx with⟨akC,Z1,H1,s1,I1,a,t,cls,H',B,rfl,os,bare,un,fW,fl,tr,old,q⟩;generalize hC:ce.locals=C at*
 have hCn:C∉mG (envOfC aG sc s0.heap.objs.size f cd::aH):=fun hm=>by
  rcases I1.ok.xW.mem hm with⟨_,o,ho,_⟩;have:=bz ho;rw[hcL]at this;exact absurd this (fc _)
 have hCH:H1 C=none:=by have:=I1.free;rw[<-hC];exact this
 rcases I1.loc with⟨m,ZX,_⟩;have ZX:s1.heap.Ns C m:=by rw[<-hC];exact ZX
 rcases id ZX with⟨oC,esC,epC,hoC,hdC,hrC⟩;have hC2:s2.heap.get? C=some oC:=un.keep C oC hoC hCH hCn (by simp);have af1:s2.heap.Ns C m:=⟨oC,esC,epC,hC2,hdC,hrC⟩;have ajY:H' C=none:=un.free C oC hoC hCH (by simp);have hB:∀b o,(dy B [C]).get? b=some o->B.get? b=some o:=fun b o e=>lS _ e;have hBC:(dy B [C]).get? C=none:=LW _ (by simp);have XS:∀b o,B.get? b=some o->b≠C->∃o',(dy B [C]).get? b=some o':=fun b o e n=>⟨o,oX _ e (by simpa using n)⟩;have fl':=Li fl hB
 have tr':∀b v,H' b=some v->∃o,(dy B [C]).get? b=some o:=fun b v e=>by
  rcases tr b v e with⟨o,ho⟩;exact XS b o ho fun z=>by rw[z,ajY]at e;cases e
 have RQ:∀b o,s3.heap.get? b=some o->b≠C:=fun b o e z=>by
  have:=bz e;rw[z,hcL]at this;exact fc _ this
 have afw:∀b o,s3.heap.get? b=some o->b∉mG (envOfC aG sc s0.heap.objs.size f cd::aH)->b∉fp->∃o',(dy B [C]).get? b=some o':=fun b o e h1 h2=>by
  rcases I1.base.there b o e h2 with⟨o1,e1⟩;rcases old b o1 e1 h1 with⟨o2,e2⟩;exact XS b o2 e2 (RQ b o e)
 have aiN:∀b o,s0.heap.get? b=some o->b∉mG aH->∃o',(dy B [C]).get? b=some o':=fun b o e h1=>by
  obtain⟨o3,e3⟩:=I3.base.there b o e (by show b∉([]:List ao);simp);refine afw b o3 e3 (fun hm=> ?_) (fun hm=> ?_)
  ·obtain z|z:=a0.mp (I3.C6 b hm)
   ·have z:b=s0.heap.objs.size:=z;exact absurd (bz e) (by rw[z];exact fc _)
   ·exact h1 z
  ·rcases NY b hm with⟨h2,h3,_⟩;obtain h2|h2:=h2
   ·have h2:b∈([]:List ao):=h2;simp at h2
   ·exact absurd (bz e) (AX.mpr h2)
 have unA:Un (mG (envOfC aG sc s0.heap.objs.size f cd::aH)) fp H3 H' s3.heap s2.heap:=I1.base.trans (un.mono (fun _ h=>h) fun _ h=>absurd h (by simp));show a7 (bf P w) (A.deeper (envOfC aG sc s0.heap.objs.size f cd)) (wG (.ref a) ce) _ _ s2
 have hnf:wG (.ref a) ce=wG (.ref a) (envOfC aG sc s0.heap.objs.size f cd):=by
  unfold wG PySem.frameOf;rw[hcf];rfl
 rw[hnf];refine ahD (base:=dy B [C]) (L:=s0.heap.objs.size) I3.ok.frames rfl fl' fun h' hd up=> ?_;refine⟨m,by rw[hC];exact up.ns af1,fun h'' sb=> ?_⟩;rw[hC]at sb;have hd2:=Wq hd sb hBC ⟨m,up.ns af1⟩ hCn;rcases id hd2 with⟨k1,k2,k3,oe,vs,T,oT,ts,e1,e2,e3,e4,e5,e6,e7,e8,e9⟩;have afO:3<ts.size:=(Array.getElem?_eq_some_iff.mp e9).1;unfold PySem.passOn;refine ay (uK e1 e3 e4 ?_);rw[if_neg (by simp)];rw[hcf];unfold setFlight;refine ay (ay (uK e1 e3 e4 ?_));rw[if_pos (by simp)];refine akh e7 e8 afO (wpAny_throw ?_);generalize hh3:h''.update T (Obj.mapFields (·.setIfInBounds 3 ((some s0.heap.objs.size:Option ao).elim mi fun f=>OK f)))=h3;have other:∀b,b≠T->h3.get? b=h''.get? b:=fun b hb=>by rw[<-hh3];exact uI _ _ (aD hb)
 have afy:∀b o,h''.get? b=some o->(∀vs,o.data≠.fields vs)->b≠T:=fun b o hb hn z=>by rw[z,e7]at hb;cases hb;exact hn ts e8
 have hd3:GW (dy B [C]) (envOfC aG sc s0.heap.objs.size f cd::aH) a cls (.ref t) s0.heap.objs.size h3:=by
  exists fun b o hb=>(other b fun z=>by rw[z,e5]at hb;cases hb).trans (k1 b o hb),k2,k3.of_keeps fun b o hb hn=>⟨o,(other b (afy b o hb hn)).trans hb,rfl⟩;refine⟨oe,vs,T,_,_,(other a (aD e6)).trans e1,e2,e3,e4,e5,e6,by rw[<-hh3];exact og _ e7 (Obj.isFreed_of_fields (Xu e8 _)),Xu e8 _,?_⟩;simp[afO]
 have upf:∀b∈mG (envOfC aG sc s0.heap.objs.size f cd::aH),∀o,s2.heap.get? b=some o->(∀vs,o.data≠.fields vs)->∃sl,h3.get? b=some {o with slots:=sl}:=fun b hb o ho hn=>by
  rcases up b o ho hn with⟨sl,e⟩;have hbC:b≠C:=fun z=>hCn (by rw[<-z];exact hb);have e':=(sb.2 b hbC).trans e;exact⟨sl,(other b (afy b _ e' hn)).trans e'⟩
 rcases Xg unA fW fl'.1 hd3.1 upf tr' afw (fun b hb=>(fl'.2.2.1.mem hb).2)with⟨u3,ajl⟩;have I4:=I3.GH (s':={s2 with heap:=h3}) (ch:=fp) (os.trans I1.os) u3 ajl bare NY;exact aiL I4 hd3 tr' aiN q
theorem aca{X:Cx}{E:XK}{own:List (Str×Nat)}(hc:X.calm=true)(hN:X.N.Nodup)(hi:PI X tg iter wi)(ok:BB X.N X.env.scope af own)
 (hg:∀(s:az) (H:Hp) (C:ao) (cl:List (Str×ao)) (fp:List ao),PG (B3 X E s H af (di af cl C X.env) fp) tg g)
 (ht:∀(s:az) (H:Hp) (C:ao) (cl:List (Str×ao)) (fp:List ao),PTs (B3 X E s H af (di af cl C X.env) fp) ifs tt)
 (he:∀(s:az) (H:Hp) (C:ao) (cl:List (Str×ao)) (fp:List ao),PE (B3 X E s H af (di af cl C X.env) fp) elt te)
 (hs:∀x,foldedSetIterable iter X.env x=pure x)
 (ac1:∀{ae Z Q acc} {s3:az} {H3:Hp} {fp:List ao} {ce:Env},Inv X ae Z H3 s3->(∀b∈fp,zR X ae H3 b)->ce.locals=s3.heap.objs.size->ce.frame=X.env.frame->∀{e:ax} {s':az},(B3 X E s3 H3 af ce fp).xe e s'->
  uH (bf X.prog X.w) X.A ce (fun e s'=>Pq (bf X.prog X.w) X.A X.xe Q acc ce (.error e) s') e s'):
 PE X (.ListComp elt [⟨tg,iter,ifs,0⟩] af pos) (tLc wi g tt te (own.map (·.2))):=by
 intro ae s Z H Q I h;rw[akI]
 have Bn:∀y∈af.names,y.2= .free->∃c,X.env.cells.lookup y.1=some c:=fun y hy e=>by
  obtain k|k:=ok.free y hy e
  ·exact I.ok.has _ (.inl k)
  ·exact I.ok.has _ (.inr k)
 refine aiT rfl hs (Ej Bn) ok.kind (fun y hy e=>by rw[ok.uniq y hy,e]) (ui (hi ae s Z H _ I h) fun xv s1 hx=>ui hx fun itv s2 h2=> ?_);refine lc_gen (fun s H ce fp=>(B3 X E s H af ce fp).xe) (fun acc ce=>Pq (bf X.prog X.w) X.A X.xe (EP X ae Z Q) acc ce) hc hN ok hg ht he h2 (fun acc _ _ _ _ I3 f _ _ z=>ac1 (ce:=di _ _ _ _) I3 f rfl rfl z) fun D ce s' m H' I' q n f=>⟨m,n,fun h'' sb=> ?_⟩;rcases f with⟨g0,g1,g2,g3,g4,g5⟩;exact⟨.ref D,H',I'.turned (t':=s'.toks) (fun b o hb e=>(sb.2 b hb).trans e) g0 g1 g3 g4 g5,rfl,q⟩
theorem ab9{own:List (Str×Nat)}(hN:N.Nodup)(hi:PI (iJ (jF P w) P w K mg ag N aG sc f cd A aH s0 H0 E) tg iter wi)(ok:BB N sc af own)
 (hg:∀(s:az) (H:Hp) (C:ao) (cl:List (Str×ao)) (fp:List ao),PG (B3 (iJ (jF P w) P w K mg ag N aG sc f cd A aH s0 H0 E) E s H af (di af cl C (envOfC aG sc s0.heap.objs.size f cd)) fp) tg g)
 (ht:∀(s:az) (H:Hp) (C:ao) (cl:List (Str×ao)) (fp:List ao),PTs (B3 (iJ (jF P w) P w K mg ag N aG sc f cd A aH s0 H0 E) E s H af (di af cl C (envOfC aG sc s0.heap.objs.size f cd)) fp) ifs tt)
 (he:∀(s:az) (H:Hp) (C:ao) (cl:List (Str×ao)) (fp:List ao),PE (B3 (iJ (jF P w) P w K mg ag N aG sc f cd A aH s0 H0 E) E s H af (di af cl C (envOfC aG sc s0.heap.objs.size f cd)) fp) elt te)
 (hs:∀x,foldedSetIterable iter (envOfC aG sc s0.heap.objs.size f cd) x=pure x:=by intro _;rfl):
 PE (iJ (jF P w) P w K mg ag N aG sc f cd A aH s0 H0 E) (.ListComp elt [⟨tg,iter,ifs,0⟩] af pos) (tLc wi g tt te (own.map (·.2))):=aca rfl hN hi ok hg ht he hs fun I3 f h1 h2=>abK I3 (fun b hb=>⟨(f b hb).2.2.2.1,(f b hb).2.1,(f b hb).2.2.2.2.1,(f b hb).2.2.2.2.2⟩) h1 h2
end
end
end L2
set_option genInjectivity false
set_option tactic.hygienic false
open PySem PySem.Spec PyProof.Rows L2 TM
open Ra32 (B)
local macro_rules | `(tactic| walk_at "d") => do
  let l ← ("alz aly alw alx ahe ahi aim ahd akw aiu ae5 ae4 ab0 ak4 aku akr aiv akt ain air akx ahk aio ahl ahf aip ail aks aeb U3 Vc ab3 U7 qI Zc qU qIp afr Hw qF qW qFC qsF qsA afo U8 aa5 afm Pb Pa afn qBM aiK Kr U5 afp akB akA akz aky alb ald ak8 ak5 ak9 alf ala ak6 ale alc ak7 sh0 sh9 sh8 sh7 sh6 sh5 sh4 sh3 ifT ifF at0 at1 at2 at3 at4 at5 at6 lS0 lSs lAc lAn L2.start lMc lMn lLc lLn Nat.reduceAdd Nat.reduceSub lR0 lRs Ts Mh Tt Mi Lv abt Yj P7 Yk P8 aap Tv Mj abu Tu Sj Ml Sk W0 Jr Oo adx Tr Mg Si Ls Om IJ Ol II GB Cq IK AH B2 FK Lu WZ Ye P2 abo To Se Ln Mf Jq IF Lp Lq IH Lo IG Gz FI abp Yd P0 WX Og WW Of Yc PZ Md Gw Me P1 Gy Lm Sd abn adz W2 Yl P9 Tz Mm abw Tx abv Tw ady W1 aew abq Tp abr Tq aeu Yg aam Sf adw WY aev Yh aet Yf Sg FJ Oh GA P4 aao Oj Lr Sh Oi aan P5 Yi P6 agr ais ahh akv wipe aep aeo acS acR afJ afI ZN ZM ZL ZK ZJ aen aem ael aej aei aeh aeg aef ahr ahq ahp aho ahn ahm ai2 ai1 ai0 aiZ aiY aiX aiW aek aix aiw ae9 ae8 afb afa ait aed ahj ahg aiq aec afc at7 at8 Option.getD_none Option.getD_some ae6 ae7 ajZ".splitOn " ").toArray.mapM fun s => `(Lean.Parser.Tactic.simpLemma| $(Lean.mkIdent s.toName):term)
  `(tactic| try dsimp only [$l,*])
local macro_rules | `(tactic| walk_at "h") => `(tactic| first | with_reducible rfl | assumption | exact aq | (refine (ai (by first | assumption | (apply Ne.symm; assumption))).trans ?_; walk_at "h") | (refine a9 ?_ (by assumption); walk_at "h"))
local macro_rules | `(tactic| walk_at "st") => `(tactic| (walk_at "d"; repeat ((with_reducible first | refine afq ?_ | refine aco (by walk_at "h") ?_ | refine acq (by walk_at "h") ?_ | refine acm (by first | with_reducible rfl | assumption) ?_ | refine aci (by walk_at "h") ?_ | refine adE ?_ | refine adI ?_ | refine aeL ?_ | refine OnO.mk _ rfl ?_ | refine OnL.mk _ rfl ?_ | refine OnN.mk _ _ rfl ?_); walk_at "d")))
local macro_rules | `(tactic| walk_at "r") => do
  let l ← ("oI aih akE akD aj4 aht aj5 ahz aj2 ahx ahw aj0 List.append_nil aq Nat.zero_add Nat.sub_self true_and decide_eq_true_eq if_true if_false Bool.false_eq_true aj1 aic ahb Option.isSome_some ai ne_eq not_false_eq_true YF tyL aee abW aif aid aii aie adA aj3 ahy D4 afG ahA aia Nat.reduceLT alv ahv Ib LN afs List.dropLast_concat eq_self reduceCtorEq decide_false decide_true Bool.not_true Bool.not_false not_true_eq_false ahc ahu aea".splitOn " ").toArray.mapM fun s => `(Lean.Parser.Tactic.simpLemma| $(Lean.mkIdent s.toName):term)
  `(tactic| (walk_at "st"; (try (simp only [$l,*, *]; walk_at "st"; try (simp only [$l,*, *]; walk_at "st"))); try with_reducible first | refine acn ?_ | refine acr ?_ | refine acp ?_ | refine aiM ?_))
local macro_rules | `(tactic| walk_at "op") => `(tactic| ((try ((with_reducible first | refine idq ?_ | refine idN ?_ | refine idL ?_ | refine idO ?_ | refine idU ?_ | refine idI ?_ | refine idB ?_ | refine idT ?_ | refine idF ?_); walk_at "r")); repeat (repeat1' (with_reducible first | refine Opn.go (by assumption) ?_ | refine Z4 fun _ _ => ?_); walk_at "r")))
local macro_rules | `(tactic| walk_at "rd") => `(tactic| (walk_at "r"; walk_at "op"))
local macro_rules | `(tactic| rcases $h:ident : $e:term with $p:rcasesPatLo) => do
  let i := Lean.mkIdent
  `(tactic| (refine $e fun _ $(i `A) _ $(i `s) $(i `H) $(i `vs) $(i `Q) $(i `E) $(i `hr) $(i `nd0) $h => ?_; obtain $(⟨p.raw[0]⟩):rcasesPatMed := $h))
local macro_rules | `(tactic| walk_at "sc") => `(tactic| exact ⟨rfl, rfl, rfl, by decide +kernel, rfl, by decide +kernel, by decide +kernel⟩)
local macro_rules | `(tactic| rfl') => `(tactic| walk_at "op")
local macro_rules | `(tactic| symm) => `(tactic| walk_at "rd")
namespace TM
section
section
variable{P:bD}{w:cP}{K:aA}{mg:Str->Option ax}{ag:dg}(T:Top K mg)
def Yo(H:Hp)(l:B)(Q:VK):Prop:=∀H' p,bE H H'->H p=none->H' p=some (.lst (iv l))->Q (.ref p) H'
theorem aY(h:H p=none):bE H (upd H p o):=fun b u e=>(ai (gT e h)).trans e
theorem acF{x:Str}{g:TG}{tt:TT}{te:TE}{vs:List Nat}{Z:L2.St}{H1:Hp}{D:ao}{Qd:Hp->Prop}(Pv:Nat->Hp->Prop)(h0:Pv 0 (upd H1 D (.lst [])))
 (hs:∀i c H,x.cps[i]? =some c->Pv i H->g (.str ⟨#[c]⟩) (wipe Z vs) H fun Z2 H2=>wipe Z2 vs=wipe Z vs/\tt Z2 H2 fun b H3=>
  if b=true then te Z2 H3 fun y H4=>∃acc,H4 D=some (.lst acc)/\acc.length<sizeLine/\Pv (i+1) (upd H4 D (.lst (acc++[y])))else Pv (i+1) H3) (hd:∀H,Pv x.cps.size H->Qd H):
 ∃W:Nat->Nat->Hp->Prop,(∃m,W 0 m (upd H1 D (.lst [])))/\∀i m H,W i m H->
  ((Its x).stop i H/\Qd H)\/((Its x).go i H/\∃Nx:Hp->Prop,(∀H',Nx H'->∃m',m'<m/\W (i+1) m' H')/\∀y H',(Its x).XN i H y H'->g y (wipe Z vs) H' fun Z2 H2=>wipe Z2 vs=wipe Z vs/\tt Z2 H2 fun b H3=>
    if b=true then te Z2 H3 fun y H4=>∃acc,H4 D=some (.lst acc)/\acc.length<sizeLine/\Nx (upd H4 D (.lst (acc++[y])))else Nx H3):=by
 exists fun i m H=>m=x.cps.size- i/\i<=x.cps.size/\Pv i H,(⟨x.cps.size,by simp,aC _,h0⟩);rintro i m H ⟨rfl,hi,p⟩
 by_cases iB:i<x.cps.size
 ·refine .inr ⟨iB,Pv (i+1),fun H' p'=>⟨_,by omega,rfl,iB,p'⟩,fun y H' q=> ?_⟩;obtain⟨e,c,hc,ey⟩:=q;subst e;subst ey;exact hs i c _ hc p
 ·have e:i=x.cps.size:=by lia
  subst e;exact .inl ⟨aE _,hd H p⟩
inductive Kf(vs:List V)(H:Hp)(Q:VK)(E:XK):Prop
 |mk (n:Int) (_:vs=[.int n]) (_:Q (.int (ot n)) H)
theorem lY:T.nT.Ok P w mg ag iN 1 Kf:=by
 rcases h:T.nT.jG ["number"]with⟨n,rfl,k⟩;exists _,(aj (a6 (cu iF (cu (qi Vs) (cu dz (pv 0) (bC rfl T.HW)) (bC rfl T.Cn)) (bC rfl T.HW))));rw[kH]at k;symm;decide
inductive Kc(vs:List V)(H:Hp)(Q:VK)(E:XK):Prop
 |mk (n:Int) (_:vs=[.int n]) (_:Q (.bl (decide (48<=n/\n<=57))) H)
theorem vk:T.vx.Ok P w mg ag iN 1 Kc:=by
 rcases h:T.vx.jG ["byte"]with⟨n,rfl,k⟩;exists _,(aj (a6 (yY y0 y0 (bC rfl T.xO) (pv 0) (bC rfl T.HU))));symm
 split
 ·rename_i h;simpa [h]using k
 ·rename_i h;simpa [h]using k
theorem AJ(n:Nat):decide (48<=(n:Int)/\(n:Int)<=57)=bb n:=by
 unfold bb
 by_cases h1:48<=n<;>by_cases h2:n<=57<;>simp[h1,h2]<;>lia
inductive Dd(vs:List V)(H:Hp)(Q:VK)(E:XK):Prop
 |mk (a:ao) (t:B) (i:Nat) (_:vs=[.ref a,.int i]) (_:H a=some (.lst (iv t))) (_:i<=t.length) (_:Q (.int (endOf bS t i)) H)
theorem Et(n:Nat):inV (.int n) [.int 9,.int 10,.int 11,.int 12,.int 13,.int 32]=bS n:=by
 unfold inV bS;simp only[l9,aeA,Ym]
 by_cases h:n=32
 ·subst h;decide
 ·by_cases h1:9<=n/\n<=13
  ·have:n=9\/n=10\/n=11\/n=12\/n=13:=by lia
   obtain rfl|rfl|rfl|rfl|rfl:=this<;>decide
  ·have e:(n==32||decide (9<=n)&&decide (n<=13))=false:=by simp[h];lia
   rw[e];simp;lia
theorem pM:T.nP.Ok P w mg ag iN 1 Dd:=by
 rcases h:T.nP.jG ["text","place"]with⟨a,t,i,rfl,hS,hi,k⟩;exists _,(ah (gx cA (PW.pt (pJ (aR ki (pv 1) (cL T (pv 0))) (my (aR Gi (c5 b6 (pv 0) (pv 1)) (Ci rfl T.KW))))) (aj (gR 1 nd0 aO iG))) (aj (a6 (pv 1))));rfl';exists fun m Z H'=>H'=H/\∃j:Nat,Z=[some (.ref a),some (.int j)]/\m=t.length- j/\j<=t.length/\endOf bS t j=endOf bS t i,⟨_,rfl,i,rfl,rfl,hi,rfl⟩;rintro m Z H' ⟨rfl,j,rfl,rfl,hj,ej⟩;symm
 by_cases iB:j<t.length
 ·have hc:=cy iB;refine gB (by lia) ?_;rfl';exists _,jV hc;exists T.u9,_,rfl,.inr (T.DE _),rfl,rfl;rfl';simp only[jT,if_false,Et]
  cases hb:bS t[j]with
  |true=>
   rfl';exact⟨_,fun _ _ h=>h,_,by omega,rfl,j+1,rfl,rfl,iB,by rw[tX hc hb];exact ej⟩
  |false=>
   rw[nD hj (.inr ⟨_,hc,hb⟩)]at ej;rfl'
   all_goals exact k
 ·refine gn (by lia) ?_;rfl';(try rw[<-nD (p:=bS) hj (.inl (by lia)),ej]);exact k
inductive Dc(vs:List V)(H:Hp)(Q:VK)(E:XK):Prop
 |mk (a:ao) (t:B) (i:Nat) (_:vs=[.ref a,.int i]) (_:H a=some (.lst (iv t))) (_:i<=t.length) (_:Q (.int (endOf bb t i)) H)
theorem vi:T.qw.Ok P w mg ag iN 2 Dc:=by
 rcases h:T.qw.jG ["text","place"]with⟨a,t,i,rfl,hS,hi,k⟩;exists _,(ah (gx cA (PW.pt (pJ (aR ki (pv 1) (cL T (pv 0))) (my (iY (cG T.vx (vk T) hr bq (p1 (c5 b6 (pv 0) (pv 1)))))))) (aj (gR 1 nd0 aO iG))) (aj (a6 (pv 1))));rfl';exists fun m Z H'=>H'=H/\∃j:Nat,Z=[some (.ref a),some (.int j)]/\m=t.length- j/\j<=t.length/\endOf bb t j=endOf bb t i,⟨_,rfl,i,rfl,rfl,hi,rfl⟩;rintro m Z H' ⟨rfl,j,rfl,rfl,hj,ej⟩;symm
 by_cases iB:j<t.length
 ·have hc:=cy iB;refine gB (by lia) ?_;rfl';exists _,jV hc;exists _,rfl;rw[AJ]
  cases hb:bb t[j]with
  |true=>
   rfl';exact⟨_,fun _ _ h=>h,_,by omega,rfl,j+1,rfl,rfl,iB,by rw[tX hc hb];exact ej⟩
  |false=>
   rw[nD hj (.inr ⟨_,hc,hb⟩)]at ej;rfl'
   all_goals exact k
 ·refine gn (by lia) ?_;rfl';(try rw[<-nD (p:=bb) hj (.inl (by lia)),ej]);exact k
inductive xx(vs:List V)(H:Hp)(Q:VK)(E:XK):Prop
 |mk (a:ao) (t:B) (_:vs=[.ref a]) (_:H a=some (.lst (iv t))) (_:(∀c∈t,48<=c)) (_:Q (.int ((Eg t:Nat)%18446744073709551616)) H)
theorem pL:T.lA.Ok P w mg ag iN 1 xx:=by
 rcases h:T.lA.jG ["digits","value","byte"]with⟨a,t,rfl,hS,h48,k⟩;exists _,(ah (bh 1 nd0 aO) (ah (oE cA rfl (jA (pv 0)) (fk 2 nd0) (aj (bh 1 nd0 (cu (qi Vs) (cu iF (cu dz (cu Am (pv 1) aO) (pv 2)) (bC rfl T.xO)) (bC rfl T.Cn))))) (aj (a6 (pv 1)))));symm;refine wM.list (xs:=iv t) hS (fun i Z H'=>H'=H/\∃v:Option V,Z=[some (.ref a),some (.int ((Eg (t.take i):Nat)%18446744073709551616)),v]) ⟨rfl,none,rfl⟩ (fun i Z H' h=>by rw[h.1];exact hS) ?_ ?_
 ·rintro i x Z H' hx ⟨rfl,v,rfl⟩;rw[Pu]at hx
  obtain⟨c,hc,rfl⟩:∃c,t[i]? =some c/\x=V.int c:=by
   cases e:t[i]? with
   |none=>rw[e]at hx;cases hx
   |some c=>rw[e]at hx;exact⟨c,rfl,(bo hx).symm⟩
  symm;exists .inr ⟨by decide,by decide⟩,(by decide);have h4:=h48 c (bc hc);exists some (.int c);(try rw[take_snoc hc,Sr])
  have:(((Eg (t.take i):Nat):Int)%18446744073709551616*10+(c:Int)- 48)%18446744073709551616=((10*Eg (t.take i)+(c- 48):Nat):Int)%18446744073709551616:=by lia
  (try rw[this])
 ·rintro Z H' ⟨rfl,v,rfl⟩;symm;simpa [oI]using k
inductive Hm(T:Top K mg)(vs:List V)(H:Hp)(Q:VK)(E:XK):Prop
 |mk (a:ao) (t:B) (_:vs=[.ref a]) (_:H a=some (.lst (iv t))) (_:t.length<=sizeLine) (_:match iQ t with
 | .ok z=>∀H',bE H H'->Q (.int z) H'
 | .error _=>E (.ref T.bT) none H)
theorem kI:T.l0.Ok P w mg ag (jF P w) 3 (Hm T):=by
 rcases h:T.l0.qj ["text","place","below","value"]with⟨a,t,rfl,hS,hl,k⟩;exists _,(ah (bh 1 nd0 (cG T.nP (pM T) hr bq (aV (pv 0) (p1 aO)))) (ah (ck (aR d9 (pv 1) (cL T (pv 0))) (aj (a6 aO)) bQ) (ah (bh 2 nd0 (f7 d9 (c5 b6 (pv 0) (pv 1)) (bC rfl T.Co))) (ah (ck (PW.pt (DF (iY (pv 2)) (xE (aR d9 (c5 b6 (pv 0) (pv 1)) (bC rfl T.NI))))) (aj (gR 1 nd0 aO iG)) bQ) (ah (ck (PW.pt (DF (aR d9 (pv 1) (cL T (pv 0))) (xE (aR ki (cG T.qw (vi T) hr bq (aV (pv 0) (p1 (pv 1)))) (cL T (pv 0)))))) (aj (ff T.fo hr)) bQ) (ah (bh 3 nd0 (cG T.lA (pL T) hr bq (p1 (gm ic (pv 0) (d4 (pv 1)) tD)))) (aj (a6 (cG T.nT (lY T) hr bq (p1 (ll (iY (pv 2)) (pK kX (pv 3)) (pv 3))))))))))));symm;exists a,t,0,rfl,hS,aC _;have e0:t.drop (endOf bS t 0)=t.dropWhile bS:=lO;have hi:=lq bS t 0;generalize endOf bS t 0=i at e0 hi;symm
 by_cases h:i=t.length
 ·refine gB (by lia) ?_;rw[h,oy]at e0;rw[Ny e0.symm]at k;exact k H (bE.refl H)
 ·have iB:i<t.length:=by lia
  have hc:=cy iB;have hg:=jV hc;rw[aI iB]at e0;generalize t[i]=c at hc hg e0;refine gn (by lia) ?_;symm;rename_i N o
  have tail:∀(j:Nat) (b:Bool),j<=t.length->(j=t.length\/(t.drop j).all bb=false->E (.ref T.bT) none H)->(j<t.length->(t.drop j).all bb=true->∀H',bE H H'->Q (.int (if b=true then ot (-((Eg (t.drop j):Nat):Int))else ot (Eg (t.drop j):Nat))) H')->N [some (V.ref a),some (V.int ((j:Nat):Int)),some (V.bl b),none] H:=by
   intro j b hj h1 h2
   by_cases hz:j=t.length
   ·rfl';exact h1 (.inl hz)
   ·rfl';refine gn (by lia) ?_;rfl';exists a,t,j,rfl,hS,hj;symm
    by_cases FD:(t.drop j).all bb=true
    ·refine gn (by have:=(GF (p:=bb) (t:=t) (i:=j)).mpr (.inl FD);lia) ?_;rfl';intro q hq;refine⟨q,t.drop j,rfl,by rw[aq,si],fun c hc=> ?_,?_⟩
     ·have:=uh.mp FD c hc;unfold bb at this;simp at this;exact this.1
     ·have k2:=h2 (by lia) FD _ (aY (o:=.lst (iv (t.drop j))) hq);rfl';(try rw[si])
      cases b with
      |true=>
       rfl';exists _,rfl;rw[if_pos rfl]at k2;(try rw[G6]);exact k2
      |false=>
       rfl';exists _,rfl;rw[if_neg (by decide)]at k2;(try rw[JF]);exact k2
    ·have:¬endOf bb t j=t.length:=fun e=>by
      obtain z|z:=GF.mp e
      ·exact FD z
      ·lia
     refine gB (by have:=lq bb t j;lia) ?_;exact h1 (.inr (by simpa using FD))
  by_cases hs:c=45\/c=43
  ·rw[KJ e0.symm hs]at k
   have fin:(i+1=t.length\/(t.drop (i+1)).all bb=false)->E (.ref T.bT) none H:=fun e=>by
    rw[if_pos (e.imp (fun e=>by rw[Qp];lia) id)]at k;exact k
   have go:i+1<t.length->(t.drop (i+1)).all bb=true->∀H',bE H H'->Q (.int (if c=45 then ot (-(iP (t.drop (i+1))))else iP (t.drop (i+1)))) H':=fun n e=>by
    rw[if_neg (by rw[e];simp;lia)]at k;exact k
   rw[digits_eq,E3]at go;obtain rfl|rfl:=hs
   ·refine gB (by rfl) ?_;exact tail (i+1) true iB fin go
   ·refine gn (by decide) ?_;rfl';refine gB (by rfl) ?_;exact tail (i+1) false iB fin go
  ·have h1:¬c=45:=fun e=>hs (.inl e);have h2:¬c=43:=fun e=>hs (.inr e);refine gn (by lia) ?_;rfl';refine gn (by lia) ?_;rw[HE e0.symm h1 h2]at k;have ed:t.drop i=c::t.drop (i+1):=by rw[aI iB,(aw.mp hc).2]
   rw[show decide ((c:Int)=45)=false by simp;lia];refine tail i false (iR iB) (fun e=> ?_) fun _ e=> ?_
   ·rw[if_pos (by rw[<-ed];exact e.resolve_left (by lia))]at k;exact k
   ·rw[if_neg (by rw[<-ed,e];decide),<-ed,digits_eq]at k;rw[if_neg (by decide)];exact k
inductive QQ(vs:List V)(H:Hp)(Q:VK)(E:XK):Prop
 |mk (x:Str) (_:vs=[.str x]) (_:x.cps.size<=100000) (_:Yo H x.cps.toList Q)
theorem Ao:T.Du.Ok P w mg ag iN 1 QQ:=by
 rcases h:T.Du.jG ["word","sign"]with⟨x,rfl,hl,k⟩;exists _,((aj (a6 (Gf rfl nd0 (ab8 (pv 0)) (nW (own:=[("sign",1)]) (show FP ["word","sign"] (dv (top 23)) _ _=true by decide+kernel)) (fun _ _ _ _ _=>fk 1 nd0) (fun _ _ _ _ _=>tz) (fun _ _ _ _ _=>(jJ Xk rfl T.VS (by first|rfl|decide+kernel) (p1 (pv 1))))))));symm;refine⟨x,rfl,fun D hD=>acF (x:=x) (fun i H'=>H'=upd H D (.lst (iv (x.cps.toList.take i)))) (by simp[iv]) ?_ ?_⟩
 ·rintro i c H' hc rfl;have hc':x.cps.toList[i]? =some c:=by simpa using hc
  have iB:i<x.cps.toList.length:=(aw.mp hc').1;symm;refine⟨_,rfl,rfl,?_,?_⟩
  ·(try rw[aQ,aT]);simp at iB⊢;lia
  ·(try rw[take_snoc hc',<-Ib])
   rfl
 ·rintro H' rfl;refine k _ D (aY hD) hD ?_;(try rw[aq,bA (by simp)])
inductive MV(vs:List V)(H:Hp)(Q:VK)(E:XK):Prop
 |mk (n:Int) (_:vs=[.int n]) (_:n.natAbs<2^64) (_:Yo H (ow n) Q)
theorem lM:T.decimal.Ok P w mg ag iN 2 MV:=by
 rcases h:T.decimal.jG ["number"]with⟨n,rfl,hn,k⟩;exists _,(aj (a6 (cG T.Du (Ao T) hr bq (p1 (gL IS rfl T.VR (by first|rfl|decide+kernel) (p1 (pv 0)))))));symm;refine⟨n,rfl,?_,cB (toString n),rfl,?_,?_⟩
 ·by_cases h0:n.natAbs=0
  ·(try rw[h0]);decide
  ·have:=(SR h0).mpr hn;lia
 ·have e:=congrArg cS (CH n);rw[eI]at e;have:=text_len hn;lia
 ·(try rw[CH]);exact k
inductive Ka(vs:List V)(H:Hp)(Q:VK)(E:XK):Prop
 |mk (a:ao) (l:List Int) (c:Int) (i:Nat) (_:vs=[.ref a,.int c,.int i]) (_:H a=some (.lst (l.map V.int))) (_:c.natAbs<2^64) (_:Q (.int (L2.placeOf l c i)) H)
theorem vj:T.ve.Ok P w mg ag iN 1 Ka:=by
 rcases h:T.ve.jG ["row","byte","start"]with⟨a,l,c,i,rfl,hl,hc,k⟩;exact⟨_,aj (Vf rfl rfl rfl hr.hd rfl rfl rfl rfl rfl T.Bg T.tN rfl),a,l,c,i,rfl,rfl,rfl,hl,hc,k⟩
theorem Kt(t:B)(c i:Nat):L2.placeOf (t.map fun(n:Nat)=>(n:Int)) (c:Int) i=match (t.drop i).findIdx? (·==c)with
 |some j=>i+j
 |none=>t.length:=by
 unfold L2.placeOf;rw[<-sM,Xt,aN]
 have:((fun x:Int=>x==(c:Int))∘fun(n:Nat)=>(n:Int))=fun n=>n==c:=by
  funext n
  by_cases h:n=c
  ·subst h;simp
  ·have e:((n:Int)==(c:Int))=false:=by rw[beq_eq_false_iff_ne];lia
   have e2:(n==c)=false:=by rw[beq_eq_false_iff_ne];exact h
   show ((n:Int)==(c:Int))=(n==c);rw[e,e2]
 rw[this]<;>
  rfl
def nv(l:List Nat):List V:=l.map fun(n:Nat)=>V.int (n:Int)
inductive Kb(vs:List V)(H:Hp)(Q:VK)(E:XK):Prop
 |mk (a:ao) (p:B) (_:vs=[.ref a]) (_:H a=some (.lst (iv p))) (_:p≠[]) (_:p.length<=70000) (_:∀H' d f,bE H H'->H d=none->H' d=some (.lst (iv f))->G2 p f->f.length=p.length->Q (.ref d) H')
theorem KD:T.overlaps.Ok P w mg ag iN 1 Kb:=by
 rcases h:T.overlaps.jG ["row","found","size","byte"]with⟨a,p,rfl,hS,hp,hl,k⟩;exists _,(ah (bh 1 nd0 (cH (p1 aO))) (ah (bh 2 nd0 aO) (ah (oE cA rfl (jA (gm ic (pv 0) (d4 aO) tD)) (fk 3 nd0) (ah (gx cA (PW.pt (pJ (aR qy (pv 2) aO) (my (aR rN (c5 b6 (pv 0) (pv 2)) (pv 3))))) (aj (bh 2 nd0 (c5 b6 (pv 1) (cu iF (pv 2) aO))))) (ah (ck (aR d9 (c5 b6 (pv 0) (pv 2)) (pv 3)) (aj (gR 2 nd0 aO iG)) bQ) (aj (bx (j0 aJ bI PySem.F.type_list_append fg (pv 1) (p1 (pv 2)))))))) (aj (a6 (pv 1))))));symm;refine⟨by rw[aT];decide,fun d hd=> ?_⟩;symm;intro q hq;have hdq:=(aM hq).1;have Ji:=(aM hq).2
 refine wM.bytes (t:=p.drop 1) (by rw[aq];rw[<-si];rfl) (fun i Z H'=>bE H H'/\∃f k v,Z=[some (V.ref a),some (V.ref d),some (V.int ((k:Nat):Int)),v]/\H' d=some (.lst (iv f))/\H' q=some (.lst (iv (p.drop 1)))/\G2 p f/\f.length=i+1/\yi p ((p.drop 1).take i) k)
  ⟨bp (bp (bE.refl H) hd) Ji,[0],0,none,rfl,(ai (aD hdq)).trans aq,by rw[aq,<-si];rfl,Q4 hp,rfl,Eu hp⟩ (fun i Z H' h=>by obtain⟨_,f,k,v,_,_,h,_⟩:=h;exact h) ?_ ?_
 ·rintro i c Z H' hc ⟨sm,f,k,v,rfl,hf,hq',tab,fl,bst⟩;have hi:i+1<p.length:=by have:=(aw.mp hc).1;simp only[aL]at this;omega
  have hk:k<i+1:=aaw hi (by lia) bst;have hS':=sm a _ hS;symm;exists fun m Z H2=>H2=H'/\Z=[some (V.ref a),some (V.ref d),some (V.int ((m:Nat):Int)),some (V.int c)]/\m<=i/\Yx p ((p.drop 1).take i) c m,(⟨k,rfl,rfl,by lia,bst.in1 (by lia) c⟩);rintro z Z H2 ⟨rfl,rfl,hs,i1⟩;obtain⟨x,Pz⟩:=k6 i1.lt;have hg:=jV Pz;clear k bst hk;symm;have hT:=take_snoc hc
  have fin:∀k':Nat,yi p ((p.drop 1).take (i+1)) k'->i+1<sizeLine/\bE H (upd H2 d (HO.lst (iv f++[V.int (k':Nat)])))/\∃f2 k2 v2,[some (V.ref a),some (V.ref d),some (V.int ((k':Nat):Int)),some (V.int c)]=[some (V.ref a),some (V.ref d),some (V.int ((k2:Nat):Int)),v2]/\some (HO.lst (iv f++[V.int (k':Nat)]))=some (.lst (iv f2))/\G2 p f2/\f2.length=i+1+1/\yi p ((p.drop 1).take (i+1)) k2:=fun k' b=>by
   refine⟨by rw[aT];lia,bp sm hd,f++[k'],k',_,rfl,by rw[<-Ib];rfl,Nh tab ?_,by simp[fl],b⟩;(try rw[fl])
   exact b.ov (by lia) (by lia)
  by_cases hx:x=c
  ·subst hx;have b:=i1.hit Pz;rw[<-hT]at b;clear hT
   by_cases hz:0<z
   ·refine gB (by lia) ?_;rfl';exact fin (z+1) b
   ·refine gn (by lia) ?_;rfl';exact fin (z+1) b
  ·have hx':¬(x:Int)=(c:Int):=by lia
   have Wf:p[z]? ≠some c:=by rw[Pz];intro e;exact hx (bo e)
   by_cases hz:0<z
   ·refine gB (by lia) ?_;rfl';obtain⟨y,ey,o⟩:=tab (z- 1) (by omega);exists _,fun _ _ h=>h;rfl';refine⟨V.int (y:Nat),?_,?_⟩
    ·have:=jV ey
     rwa [show (((z- 1:Nat)):Int)=(z:Int)- 1 by lia]at this
    ·rw[show z- 1+1=z by lia]at o;exact⟨y,o.lt,rfl,by have:=o.lt;lia,i1.back Wf o⟩
   ·have:z=0:=by lia
    subst this;have b:=i1.miss Wf;rw[<-hT]at b;clear hT;refine gn (by lia) ?_;rfl';exact⟨(fin 0 b).1,trivial⟩
 ·rintro Z H' ⟨sm,f,k2,v,rfl,hf,hq',tab,fl,bst⟩;symm;exact k _ d f sm hd hf tab (by rw[fl,aL];have:p.length≠0:=fun e=>hp (be e);lia)
inductive BI(vs:List V)(H:Hp)(Q:VK)(E:XK):Prop
 |mk (a b:ao) (t p:B) (_:vs=[.ref a,.ref b]) (_:H a=some (.lst (iv t))) (_:H b=some (.lst (iv p))) (_:p.length<=70000) (_:∀H',bE H H'->Q (.int (jS t p)) H')
theorem BQ:T.tE.Ok P w mg ag iN 2 BI:=by
 rcases h:T.tE.jG ["row","part","shared","size","place","byte"]with⟨a,b,t,p,rfl,ht,hp,hl,k⟩;exists _,(ah (ck (aR (Nk hr.units) (pv 1) (cH c9)) (aj (a6 aO)) bQ) (ah (bh 2 nd0 (cG T.overlaps (KD T) hr bq (p1 (pv 1)))) (ah (bh 3 nd0 aO) (ah (oE cA rfl (Pe rfl T.qC (p1 (pv 0))) (Vj rfl (yX (fk 4 nd0) (yX (fk 5 nd0) Pf))) (ah (gx cA (PW.pt (pJ (aR qy (pv 3) aO) (my (aR rN (c5 b6 (pv 1) (pv 3)) (pv 5))))) (aj (bh 3 nd0 (c5 b6 (pv 2) (cu iF (pv 3) aO))))) (ah (ck (aR d9 (c5 b6 (pv 1) (pv 3)) (pv 5)) (aj (gR 3 nd0 aO iG)) bQ) (aj (ck (aR d9 (pv 3) (cL T (pv 1))) (aj (a6 (cu iF (cu dz (pv 4) aO) (pv 3)))) bQ))))) (aj (a6 (pK kX aO)))))));symm;refine⟨by decide,fun d hd=> ?_⟩;symm
 by_cases h0:p=[]
 ·subst h0;refine gB rfl ?_;rw[RL]at k;exact k _ (bp (bE.refl H) hd)
 refine gn h0 ?_;rfl';refine⟨b,p,rfl,a9 hp hd,h0,hl,fun H1 f tb sm hf hf1 tab hfl=> ?_⟩;have ht1:=sm a _ (a9 ht hd);have AE:=sm b _ (a9 hp hd);have smH:bE H H1:=fun x u e=>sm x u (a9 e hd);symm;refine L3.bytes (t:=t) (fun i Z H2=>bE H1 H2/\∃(k:Nat) (v1 v2:Option V),Z=[some (V.ref a),some (V.ref b),some (V.ref f),some (V.int (k:Int)),v1,v2]/\Yv p t i k) ⟨bE.refl _,0,none,none,rfl,Yv.start h0⟩ (fun i Z H2 h=>h.1 _ _ ht1) ?_ ?_
 ·rintro i c Z H2 q hc ⟨gj,k1,v1,v2,rfl,kmp⟩ hq;have hi:i<t.length:=(aw.mp hc).1;have ht2:=a9 (o:=.tup [.int (i:Nat),.int (c:Nat)]) (gj _ _ ht1) hq;have mX:=a9 (o:=.tup [.int (i:Nat),.int (c:Nat)]) (gj _ _ AE) hq;have hf2:=a9 (o:=.tup [.int (i:Nat),.int (c:Nat)]) (gj _ _ hf1) hq;have kf:bE H1 (upd H2 q (.tup [.int (i:Nat),.int (c:Nat)])):=fun x u e=>a9 (gj x u e) hq;refine abl aq ?_;rfl';generalize upd H2 q (.tup [.int (i:Nat),.int (c:Nat)])=H3 at ht2 mX hf2 kf⊢;symm;exists fun m Z H4=>H4=H3/\Z=[some (V.ref a),some (V.ref b),some (V.ref f),some (V.int (m:Int)),some (V.int (i:Int)),some (V.int (c:Int))]/\Yx p (t.take i) c m,⟨k1,rfl,rfl,kmp.best.in1 kmp.lt c⟩;rintro z Z H4 ⟨rfl,rfl,i1⟩;obtain⟨x,Pz⟩:=k6 i1.lt;have hg:=jV Pz;have hT:=take_snoc hc;symm
  have fin:∀k':Nat,yi p (t.take (i+1)) k'->if (k':Int)=(p.length:Int)then Q (V.int ((i:Int)+1- (k':Int))) H4 else ∃(k2:Nat) (v1 v2:Option V),[some (V.ref a),some (V.ref b),some (V.ref f),some (V.int (k':Int)),some (V.int (i:Int)),some (V.int (c:Int))]=[some (V.ref a),some (V.ref b),some (V.ref f),some (V.int (k2:Int)),v1,v2]/\Yv p t (i+1) k2:=fun k' b'=>by
   split
   ·rename_i e;have e:k'=p.length:=by lia
    subst e;have:=k H4 (fun x u e=>kf x u (smH x u e));rw[NJ kmp hi b']at this;exact this
   ·rename_i e;exact⟨k',_,_,rfl,kmp.next (c:=c) b' (by lia)⟩
  by_cases hx:x=c
  ·subst hx;have b':=i1.hit Pz;rw[<-hT]at b'
   by_cases hz:0<z
   ·refine gB (by lia) ?_;rfl';exact fin (z+1) b'
   ·refine gn (by lia) ?_;rfl';exact fin (z+1) b'
  ·have hx':¬(x:Int)=(c:Int):=by lia
   have Wf:p[z]? ≠some c:=by rw[Pz];intro e;exact hx (bo e)
   by_cases hz:0<z
   ·refine gB (by lia) ?_;rfl';obtain⟨y,ey,o⟩:=tab (z- 1) (by have:=i1.lt;omega);exists _,fun _ _ h=>h;rfl';refine⟨V.int (y:Nat),?_,?_⟩
    ·have:=jV ey
     rwa [show (((z- 1:Nat)):Int)=(z:Int)- 1 by lia]at this
    ·rw[show z- 1+1=z by lia]at o;exact⟨y,o.lt,rfl,i1.back Wf o⟩
   ·refine gn (by lia) ?_;rfl';have:z=0:=by lia
    subst this;have b':=i1.miss Wf;rw[<-hT]at b';exact fin 0 b'
 ·rintro Z H2 ⟨gj,k1,v1,v2,rfl,kmp⟩;symm;have:=k H2 (fun x u e=>gj x u (smH x u e));rw[NK kmp]at this;exact this
inductive yb(H:Hp):List ao->List B->Prop where
 |nil:yb H [] []
 |cons {p:ao} {t:B} {ps:List ao} {l:List B}:H p=some (HO.lst (iv t))->yb H ps l->yb H (p::ps) (t::l)
theorem yb.mono(h:yb H ps l)(s:bE H H'):yb H' ps l:=by
 induction h with
 |nil=>exact .nil
 |cons a b ih=>exact .cons (s _ _ a) ih
theorem yb.len{ps:List ao}{l:List B}(h:yb H ps l):ps.length=l.length:=by
 induction h with
 |nil=>rfl
 |cons a b ih=>simp[ih]
theorem yb.get(h:yb H ps l):∀{i:Nat} {p:ao},ps[i]? =some p->∃t,l[i]? =some t/\H p=some (.lst (iv t)):=by
 induction h with
 |nil=>intro i p e;cases e
 |cons a b ih=>
  intro i p e
  cases i with
  |zero=>cases e;exact⟨_,rfl,a⟩
  |succ i=>exact ih e
def rv(ps:List ao):List V:=ps.map V.ref
theorem fR{ps:List ao}:(rv ps).length=ps.length:=aN _
theorem vQ{i:Nat}(h:(rv ps)[i]? =some x):∃p,ps[i]? =some p/\x=V.ref p:=by
 unfold rv at h;rw[cJ]at h
 cases e:ps[i]? with
 |none=>rw[e]at h;cases h
 |some c=>rw[e]at h;exact⟨c,rfl,(bo h).symm⟩
theorem qT{i:Nat}(h:ps[i]? =some p):zF (rv ps) (i:Int)=some (V.ref p):=Cv (by unfold rv;rw[cJ,h];rfl)
def total(l:List B):Nat:=(l.map cS).sum
theorem lK(t:B)(l:List B):total (t::l)=t.length+total l:=rfl
theorem nJ(l:List B)(i:Nat){t:B}(h:l[i]? =some t):total (l.take i)+t.length<=total l:=by
 induction l generalizing i with
 |nil=>cases h
 |cons x l ih=>cases i with
  |zero=>cases h;simp[total]
  |succ i=>
   have:=ih i h;rw[yk,lK,lK];lia
theorem Ow(m:List B):(m.map fun t=>(44::t).length).sum=total m+m.length:=by
 induction m with
 |nil=>rfl
 |cons x m ih=>rw[a4,gp,ih,lK,au,au];lia
theorem MC(l:List B)(t:B):total (l++[t])=total l+t.length:=by unfold total;simp
inductive Dl(vs:List V)(H:Hp)(Q:VK)(E:XK):Prop
 |mk (x dx:ao) (o c:V) (_:vs=[.ref x,o,c]) (_:H x=some (.ins T.gz dx [])) (_:Q .fI (upd H x (.ins T.gz dx (kK o c))))
theorem pN:T.jy.Ok P w mg ag iN 1 (Dl T):=by
 rcases h:T.jy.jG ["self","opening","closing"]with⟨x,dx,o,c,rfl,hx,k⟩;exists _,(ah (cD T.et T.fh (pv 0) (pv 1)) (aj (cD T.et T.fY (pv 0) (pv 2))));symm
structure gA(T:Top K mg)(H:Hp)(x:ao)(op cl:B)(dx o c:ao):Prop where
 at_:H x=some (.ins T.gz dx (kK (.ref o) (.ref c)))
 Kw:H o=some (.lst (iv op))
 Mn:H c=some (.lst (iv cl))
theorem gA.mono{T:Top K mg}{H H':Hp}{x:ao}{op cl:B}{dx o c:ao}(h:gA T H x op cl dx o c)(s:bE H H'):gA T H' x op cl dx o c:=⟨s _ _ h.at_,s _ _ h.Kw,s _ _ h.Mn⟩
inductive BJ(vs:List V)(H:Hp)(Q:VK)(E:XK):Prop
 |mk (_:vs=[]) (_:∀H' x dx o c,bE H H'->H x=none->H o=none->H c=none->gA T H' x [96] [39] dx o c->Q (.ref x) H')
theorem ue:T.ig.Ok P w mg ag iN 3 (BJ T):=by
 rcases h:T.ig.jG []with⟨rfl,k⟩;exists _,(aj (a6 (mz T.A4 (pN T) (hr.mono (by decide)) rfl T.As T.jy.b .nil bq (aV (cH (p1 (bC rfl T.oH))) (p1 (cH (p1 (bC rfl T.lB))))))));symm;refine⟨by decide,fun o ho=>⟨by decide,fun c hc x dx hx sJ vW=>⟨x,dx,_,_,rfl,aq,rfl,?_⟩⟩⟩;have h1:=aM hc;have h2:=aM hx;have h3:=aM h2.2;have h4:=aM sJ;have h5:=aM h4.2;refine k _ x dx o c (bp (bp (bp (bp (bp (bE.refl H) ho) h1.2) h5.2) h3.2) h3.2) h3.2 ho h1.2 ⟨aq,?_,?_⟩
 ·exact(ai (aD h3.1)).trans ((ai (aD h3.1)).trans ((ai (aD h5.1)).trans ((ai (aD h1.1)).trans aq)))
 ·exact(ai (aD h2.1)).trans ((ai (aD h2.1)).trans ((ai (aD h4.1)).trans aq))
inductive wo(vs:List V)(H:Hp)(Q:VK)(E:XK):Prop
 |mk (x dx o c a:ao) (op cl t:B) (_:vs=[.ref x,.ref a]) (_:gA T H x op cl dx o c) (_:H a=some (.lst (iv t))) (_:op.length+t.length+cl.length<=sizeLine) (_:Yo H (op++(t++cl)) Q)
theorem oU:T.kQ.Ok P w mg ag iN 1 (wo T):=by
 rcases h:T.kQ.jG ["self","text"]with⟨x,dx,o,c,a,op,cl,t,rfl,⟨hx,ho,hc⟩,ha,hl,k⟩;exists _,(aj (a6 (cu An (cu An (aB T.et T.fh (pv 0)) (pv 1)) (aB T.et T.fY (pv 0)))));symm;refine⟨by lia,fun p hp=> ?_⟩;symm;refine⟨by rw[aF];lia,fun q hq=> ?_⟩;refine k _ q (bp (aY hp) (aM hq).2) (aM hq).2 ?_;(try rw[aq,bu])
inductive C8(vs:List V)(H:Hp)(Q:VK)(E:XK):Prop
 |mk (a:ao) (ps:List ao) (l:List B) (_:vs=[.ref a]) (_:H a=some (.lst (rv ps))) (_:yb H ps l) (_:total l+l.length<=sizeLine) (_:Yo H (iV l) Q)
theorem vh:T.qu.Ok P w mg ag iN 1 C8:=by
 rcases h:T.qu.jG ["texts","row","text"]with⟨a,ps,l,rfl,ha,ht,hl,k⟩;exists _,(ah (bh 1 nd0 (cH c9)) (ah (oE cA rfl (jA (pv 0)) (fk 2 nd0) (ah (bx (j0 aJ bI PySem.F.type_list_append fg (pv 1) (p1 (bC rfl T.Cp)))) (aj (bx (j0 aJ dR PySem.F.type_list_extend jP (pv 1) (p1 (pv 2))))))) (aj (a6 (gm ic (pv 1) (d4 aO) tD)))));symm;refine⟨by decide,fun d hd=> ?_⟩;rfl';refine wM.list (xs:=rv ps) (a9 ha hd) (fun i Z H'=>H'=upd H d (.lst (iv ((l.take i).flatMap fun t=>44::t)))/\∃v,Z=[some (V.ref a),some (V.ref d),v]) ⟨rfl,none,rfl⟩ (fun i Z H' h=>by rw[h.1];exact a9 ha hd) ?_ ?_
 ·intro i x Z H' hx w_;refine wN fun g_ k_=> ?_;obtain⟨rfl,v,rfl⟩:=w_;obtain⟨p,hp,rfl⟩:=vQ hx;obtain⟨t,iB,Jj⟩:=ht.get hp;refine wO k_ ?_;clear k_ g_;have h1:=nJ l i iB;have h2:i<l.length:=(aw.mp iB).1
  have h3:((l.take i).flatMap fun t=>44::t).length=total (l.take i)+i:=by
   (try rw[List.length_flatMap])
   (try rw[Ow,aQ]);lia
  have h4:(l.take (i+1)).flatMap (fun t=>44::t)=(l.take i).flatMap (fun t=>44::t)++(44::t):=by
   (try rw[ef,iB]);simp
  symm;exists (by lia);rfl';refine⟨by rw[aF,oI,h3,d8];lia,?_,_,rfl⟩;(try rw[<-Ib,bu]);rfl
 ·intro Z H' w_;rcases w_ with⟨rfl,v,rfl⟩;symm;intro q hq;refine k _ q (bp (aY hd) (aM hq).2) (aM hq).2 ?_;(try rw[aq,show (some (1:Int))=some ((1:Nat):Int) from rfl,si,fR,ht.len,cQ,Xj])
theorem Ia(c:Nat):iv l++[V.int (c:Int)]=iv (l++[c]):=Ib (m:=[c])
theorem Yo.of(k:Yo H l Q)(s:bE H H1):Yo H1 l Q:=fun H' p sm hp e=>k H' p (s.trans sm) (by
 cases q:H p with
 |none=>rfl
 |some u=>rw[s p u q]at hp;cases hp) e
theorem bE.none(s:bE H H1)(h:H1 p=none):H p=none:=by
 cases q:H p with
 |none=>rfl
 |some u=>rw[s p u q]at h;cases h
theorem yb.upd(h:yb H ps l)(hd:d∉ps):yb (upd H d o) ps l:=by
 induction h with
 |nil=>exact .nil
 |cons a b ih=>exact .cons ((ai (fun e=>hd (by rw[e];exact aX))).trans a) (ih (fun m=>hd (aK _ m)))
theorem yb.snoc(h:yb H ps l)(e:H p=some (.lst (iv t))):yb H (ps++[p]) (l++[t]):=by
 induction h with
 |nil=>exact .cons e .nil
 |cons a b ih=>exact .cons a ih
theorem ft:rv ps++[V.ref p]=rv (ps++[p]):=by unfold rv;simp
def agx(T:Top K mg)(H:Hp)(J:B)(room:Nat)(Q:VK)(E:XK):Prop:=(room<J.length->∀H',bE H H'->E (.ref T.c7) none H')/\(J.length<=room->Yo H J Q)
theorem ME(y:dw)(l:List B):total (l.map (iO y))=total l+l.length*(y.open_.length+y.close.length):=by
 induction l with
 |nil=>simp[total]
 |cons x l ih=>
  have e:(l.length+1)*(y.open_.length+y.close.length)=l.length*(y.open_.length+y.close.length)+(y.open_.length+y.close.length):=by rw[agQ]
  rw[a4,lK,ih,lK,au,e];unfold iO;simp only[aF];lia
theorem Hg(l:List B):(l.map fun t=>(t.length:Int)+1).sum=(total l:Int)+l.length:=by
 induction l with
 |nil=>rfl
 |cons x l ih=>rw[a4,gp,ih,lK,au];lia
inductive uo(vs:List V)(H:Hp)(Q:VK)(E:XK):Prop
 |mk (a x dx o c:ao) (ps:List ao) (l:List B) (y:dw) (room:Nat) (_:vs=[.ref a,.ref x,.int room]) (_:H a=some (.lst (rv ps))) (_:yb H ps l) (_:gA T H x y.open_ y.close dx o c) (_:total l<=100000) (_:l.length<=2000) (_:room<=65536) (_:y.open_.length<=70000) (_:y.close.length<=70000) (_:agx T H (iV (l.map (iO y))) room Q E)
theorem m5:T.jz.Ok P w mg ag (jF P w) 2 (uo T):=by
 rcases h:T.jz.qj ["texts","quotes","room","size","text"]with⟨a,x,dx,o,c,ps,l,y,room,rfl,ha,ht,q,h1,h2,h3,h4,h5,k⟩;exists _,((ah (bh 3 nd0 (cu iF (jJ (Xi rfl) rfl T.Pk (by first|rfl|decide+kernel) (p1 (Gf rfl nd0 (jA (pv 0)) (nW (own:=[("text",4)]) (show FP ["texts","quotes","room","size","text"] (dv (top 41)) _ _=true by decide+kernel)) (fun _ _ _ _ _=>fk 4 nd0) (fun _ _ _ _ _=>tz) (fun _ _ _ _ _=>(cu dz (cL T (pv 4)) aO))))) aO)) (ah (gR 3 nd0 (cu Am (cL T (pv 0)) (cu dz (cL T (aB T.et T.fh (pv 1))) (cL T (aB T.et T.fY (pv 1))))) iG) (ah (ck (aR qy (pv 3) (pv 2)) (aj (ff T.hW hr)) bQ) (aj (a6 (cG T.qu (vh T) hr bq (p1 (Gf rfl nd0 (jA (pv 0)) (nW (own:=[("text",4)]) (show FP ["texts","quotes","room","size","text"] (dv (top 41)) _ _=true by decide+kernel)) (fun _ _ _ _ _=>fk 4 nd0) (fun _ _ _ _ _=>tz) (fun _ _ _ _ _=>(cM (pv 1) T.et T.kQ (oU T) hr bq (p1 (pv 4)))))))))))));have hx:=q.at_;have ho:=q.Kw;have hc:=q.Mn;have hlen:=ht.len;symm;refine LcA.list (xs:=rv ps) ha (fun D i H'=>H'=upd H D (.lst ((l.take i).map fun t=>V.int ((t.length:Int)+1)))) (fun D hD=>rfl) (fun D i H' hD e=>by rw[e];exact a9 ha hD) ?_ ?_
 ·rintro D i v H' hD hv rfl;refine wN fun g_ k_=> ?_;obtain⟨p,hp,rfl⟩:=vQ hv;obtain⟨t,iB,Jj⟩:=ht.get hp;refine wO k_ ?_;clear k_ g_;have hi:i<l.length:=(aw.mp iB).1;symm;exists (by rw[aN,aQ,aT];lia);(try rw[ef,iB]);simp
 ·rintro D H' hD rfl
  have e0:(l.take (rv ps).length).map (fun t=>V.int ((t.length:Int)+1))=(l.map fun t=>(t.length:Int)+1).map V.int:=by
   (try rw[fR,hlen,cQ,gP]);rfl
  (try rw[e0])
  exists D,_,rfl,kE.of aq;rfl';(try rw[Hg])
  have MW:bE H (upd H D (.lst ((l.map fun t=>(t.length:Int)+1).map V.int))):=aY hD;have Gv:=MW _ _ ha;have ht1:=ht.mono MW;have q1:=q.mono MW;have rX:=q1.at_;have XZ:=q1.Kw;have Ma:=q1.Mn;generalize upd H D (.lst ((l.map fun t=>(t.length:Int)+1).map V.int))=H1 at MW Gv ht1 q1 rX XZ Ma⊢;clear hx ho hc ha ht e0;symm;(try rw[fR,hlen])
  generalize hM:(l.length:Int)*((y.open_.length:Int)+(y.close.length:Int))=M;have hM0:l=[]->M=0:=fun e=>by rw[<-hM,e];simp
  have hM':((l.length*(y.open_.length+y.close.length):Nat):Int)=M:=by rw[<-hM];simp
  have hJ:¬l=[]->((iV (l.map (iO y))).length:Int)=(total l:Int)+l.length- 1+M:=fun h=>by
   (try rw[xS _ (by simpa using h),M6,Hg,hM]);lia
  have hJ0:l=[]->(iV (l.map (iO y))).length=0:=fun e=>by rw[e];rfl
  have hsz:(room:Int)<(total l:Int)+l.length- 1+M↔room<(iV (l.map (iO y))).length:=by
   by_cases hl:l=[]
   ·have:=hM0 hl;have:=hJ0 hl;have h0:total l=0/\l.length=0:=by rw[hl];exact⟨rfl,rfl⟩
    lia
   ·have:=hJ hl;lia
  have afN:(iV (l.map (iO y))).length<=room->total l+l.length*(y.open_.length+y.close.length)+l.length<=65537:=fun h=>by
   by_cases hl:l=[]
   ·(try rw[hl]);simp[total]
   ·have:=hJ hl;lia
  exists (.inr ⟨by lia,by lia⟩)
  by_cases hb:room<(iV (l.map (iO y))).length
  ·rfl';exact k.1 hb H1 MW
  ·rfl';have afN:=afN (by lia);have k:=k.2 (by lia);clear hJ hJ0 hsz hM hM0 hM';generalize (total l:Int)+l.length- 1+M=N;refine LcA.list (xs:=rv ps) Gv (fun D i H'=>bE H1 H'/\∃qs,H' D=some (.lst (rv qs))/\D∉qs/\yb H' qs ((l.take i).map (iO y))) (fun D hD=>⟨aY hD,[],aq,dh,.nil⟩) (fun D i H' hD e=>e.1 _ _ Gv) ?_ ?_
   ·intro D i v H' hD hv w_;refine wN fun g_ k_=> ?_;obtain⟨sm,qs,Ij,hD1,tx⟩:=w_;obtain⟨p,hp,rfl⟩:=vQ hv;obtain⟨t,iB,Jj⟩:=(ht1.mono sm).get hp;refine wO k_ ?_;clear k_ g_;have hi:i<l.length:=(aw.mp iB).1;have q2:=q1.mono sm;have tS:=q2.at_;have zp:=nJ l i iB;symm;refine⟨_,_,_,_,_,_,_,_,rfl,q2,Jj,by rw[aT];lia,fun H2 r gj RR hr2=> ?_⟩;have hD2:=gj _ _ Ij;refine⟨_,hD2,?_,fun b u e=> ?_,qs++[r],by rw[ft],?_,?_⟩
    ·have:=tx.len;(try rw[fR,this,aN,aQ,aT]);lia
    ·by_cases eb:b=D
     ·subst eb;rw[hD]at e;cases e
     ·exact(ai eb).trans (gj _ _ (sm _ _ e))
    ·intro m;obtain m|m:=dW.mp m
     ·exact hD1 m
     ·have:D=r:=by simpa using m
      rw[<-this]at RR;rw[Ij]at RR;cases RR
    ·have vW:D≠r:=cE Ij RR rfl;(try rw[ef,iB])
     show yb _ _ (abB _ (_++[t]));(try rw[bL])
     exact((tx.mono gj).upd hD1).snoc ((ai (aD vW)).trans hr2)
   ·intro D H' hD w_;rcases w_ with⟨sm,qs,Ij,hD1,tx⟩;rw[fR,hlen,cQ]at tx;refine⟨D,qs,_,rfl,Ij,tx,?_,(k.of MW).of sm⟩;(try rw[ME,aN,aT]);lia
theorem ZF{p q:Prop}[Decidable p][Decidable q]{A R:Prop}(h:¬(p/\q)):(if p then if q then A else R else R)=R:=by by_cases hp:p<;>by_cases hq:q<;>simp_all
def EI(T:Top K mg)(H:Hp)(x:ao)(name:B)(m:V)(args:List B)(dx nm ar:ao)(ps:List ao)(bg dp sz:V):Prop:=H x=some (.ins T.dY dx (fw (.ref nm) m (.ref ar) bg dp sz))/\H nm=some (.tup (iv name))/\H ar=some (.lst (rv ps))/\yb H ps args
theorem EI.mono{T:Top K mg}{H H':Hp}{x:ao}{name:B}{m:V}{args:List B}{dx nm ar:ao}{ps:List ao}{bg dp sz:V}(h:EI T H x name m args dx nm ar ps bg dp sz)(s:bE H H'):EI T H' x name m args dx nm ar ps bg dp sz:=⟨s _ _ h.1,s _ _ h.2.1,s _ _ h.2.2.1,h.2.2.2.mono s⟩
inductive J6(vs:List V)(H:Hp)(Q:VK)(E:XK):Prop
 |mk (c:Nat) (x dx nm ar:ao) (ps:List ao) (m bg dp sz:V) (name:B) (args:List B) (xq dq o cc:ao) (y:dw) (room:Nat) (_:vs=[.int c,.ref x,.ref xq,.int room]) (_:EI T H x name m args dx nm ar ps bg dp sz) (_:gA T H xq y.open_ y.close dq o cc) (_:total args<=100000) (_:args.length<=2000) (_:room<=65536) (_:y.open_.length<=70000) (_:y.close.length<=70000) (_:name.length<=70000) (_:(match standIn y name args c with
  |none=>Q .fI H
  |some b=>(c=64->room<b.length->∀H',bE H H'->E (.ref T.c7) none H')/\∀H' p,bE H H'->H' p=some (.lst (iv b))->b.length<=200000->Q (.ref p) H'))
theorem KA:T.C7.Ok P w mg ag (jF P w) 3 (J6 T):=by
 rcases h:T.C7.qj ["byte","call","quotes","room","place"]with⟨c,x,dx,nm,ar,ps,m,bg,dp,sz,name,args,xq,dq,o,cc,y,room,rfl,ca,qa,h1,h2,h3,h4,h5,h6,k⟩;exists _,(ah (ck (aR d9 (pv 0) (bC rfl T.xO)) (aj (a6 (gL tY rfl T.tM (by first|rfl|decide+kernel) (p1 (aB T.dE T.Br (pv 1)))))) bQ) (ah (ck (yW ki y0 (bC rfl T.xO) (pv 0) (bC rfl T.HU)) (ah (bh 4 nd0 (cu iF (cu iF (pv 0) (bC rfl T.xO)) aO)) (aj (a6 (ll (aR ki (pv 4) (cL T (aB T.dE T.dP (pv 1)))) (c5 b6 (aB T.dE T.dP (pv 1)) (pv 4)) (cH c9))))) bQ) (ah (ck (aR d9 (pv 0) (bC rfl T.HV)) (aj (a6 (cG T.decimal (lM T) hr bq (p1 (cL T (aB T.dE T.dP (pv 1))))))) bQ) (ah (ck (aR d9 (pv 0) (bC rfl T.NH)) (aj (a6 (cG T.qu (vh T) hr bq (p1 (aB T.dE T.dP (pv 1)))))) bQ) (ah (ck (aR d9 (pv 0) (bC rfl T.acO)) (aj (a6 (cG T.jz (m5 T) hr dC (aV (aB T.dE T.dP (pv 1)) (aV (pv 2) (p1 (pv 3))))))) bQ) (aj (a6 qY)))))));rcases ca with⟨hx,hn,X5,tx⟩;have hlen:=tx.len;have hl':(rv ps).length=args.length:=by rw[fR,hlen]
 symm
 by_cases c0:c=48
 ·rw[show standIn y name args c=some name by unfold standIn;rw[if_pos c0]]at k;refine gB (by lia) ?_;rfl';exact⟨nm,iv name,rfl,.inr (.inl (.inl hn)),fun l hl=>k.2 _ l (aY hl) aq (by lia)⟩
 refine gn (by lia) ?_
 by_cases c1:49<=c/\c<=57
 ·rw[show standIn y name args c=some (args.getD (c- 49) []) by unfold standIn;rw[if_neg c0,if_pos (by unfold bb;simp;lia)]]at k;rfl';refine gB (by lia) ?_;refine gB (by lia) ?_;rfl';(try rw[show (c:Int)- 48- 1=((c- 49:Nat):Int) by omega])
  by_cases h:c- 49<args.length
  ·refine gB (by lia) ?_;refine wN fun g_ k_=> ?_;obtain⟨p,hp⟩:=k6 (l:=ps) (i:=c- 49) (by lia);obtain⟨t,iB,Jj⟩:=tx.get hp;refine wO k_ ?_;clear k_ g_;have:=nJ args _ iB;rfl';refine⟨_,qT hp,k.2 _ p (bE.refl H) ?_ ?_⟩
   ·(try rw[cK,iB]);exact Jj
   ·(try rw[cK,iB]);show t.length<=_;lia
  ·refine gn (by lia) ?_;have e:args.getD (c- 49) []=[]:=by rw[cK,hU (by lia)];rfl
   rw[e]at k;exact⟨aC _,fun p hp=>k.2 _ p (aY hp) aq (aC _)⟩
 have hd:¬bb c=true:=by unfold bb;simp;lia
 have hk:standIn y name args c=if c=35 then some (Bv args.length)else if c=42 then some (iV args)else if c=64 then some (iV (args.map (iO y)))else none:=by unfold standIn;rw[if_neg c0,if_neg hd]
 rw[hk]at k;rfl';(try rw[ZF (by lia)])
 by_cases c2:c=35
 ·subst c2;rw[if_pos rfl]at k;rfl';refine gB (by rfl) ?_;have hb:(args.length:Int).natAbs<2^64:=by have:(2:Nat)^64=18446744073709551616:=rfl;lia
  have e:ow (args.length:Int)=Bv args.length:=by unfold ow;rw[if_neg (by lia)];rfl
  rfl';refine⟨_,rfl,hb,fun H' p sm hp he=>k.2 H' p sm (by rw[<-e];exact he) ?_⟩;have:=text_len hb;rw[e]at this;lia
 rw[if_neg c2]at k;rfl';refine gn (by lia) ?_
 by_cases c3:c=42
 ·subst c3;rw[if_pos rfl]at k;rfl';refine gB (by rfl) ?_;rfl';refine⟨ar,ps,args,rfl,X5,tx,by rw[aT];lia,fun H' p sm hp he=>k.2 H' p sm he ?_⟩
  by_cases h:args=[]
  ·(try rw[h]);exact aC _
  ·have:=xS args h;rw[Hg]at this;lia
 rw[if_neg c3]at k;rfl';refine gn (by lia) ?_
 by_cases c4:c=64
 ·subst c4;rw[if_pos rfl]at k;rfl';refine gB (by rfl) ?_;rfl';exact⟨ar,xq,dq,o,cc,ps,args,y,room,rfl,X5,tx,qa,h1,h2,h3,h4,h5,fun hb=>k.1 rfl hb,fun hb H' p sm hp he=>k.2 H' p sm he (by lia)⟩
 rw[if_neg c4]at k;rfl';refine gn (by lia) ?_;rfl'
 all_goals exact k
theorem Ll(y:dw)(n:B)(as:List B)(t:B)(i:Nat):fT y n as (t.drop i)=match (t.drop i).findIdx? (·==36)with
 |none=>t.drop i
 |some j=>(t.drop i).take j++fT y n as (t.drop (i+j)):=by
 cases h:(t.drop i).findIdx? (·==36)with
 |none=>
  have hn:36∉t.drop i:=fun m=>by
   have:=rE.mp h 36 m;simp at this
  have:=tV y n as (t.drop i) [] hn;rw[fU,tW,fU]at this;exact this
 |some j=>
  show _=(t.drop i).take j++fT y n as (t.drop (i+j))
  have hn:36∉(t.drop i).take j:=fun m=>by
   obtain⟨k,hk,e⟩:=Qq.mp m;rw[aQ]at hk;have:=(ip.mp h).2.2 k (by lia);rw[List.getElem_take]at e;simp[e]at this
  have e:=tV y n as ((t.drop i).take j) (t.drop (i+j)) hn;rw[<-e]
  congr 1
  rw[<-jv,eV]
theorem Ss(y:dw)(n:B)(as:List B)(t:B)(i:Nat)(hi:i<=t.length):∃dl,L2.placeOf (t.map fun(n:Nat)=>(n:Int)) 36 i=dl/\i<=dl/\dl<=t.length/\(dl<t.length->t[dl]? =some 36)/\fT y n as (t.drop i)=(t.drop i).take (dl- i)++fT y n as (t.drop dl):=by
 have e:=Kt t 36 i;have f:=Ll y n as t i
 cases h:(t.drop i).findIdx? (·==36)with
 |none=>
  rw[h]at e f;exists t.length,e,hi,aE _,fun z=>absurd z (by lia);rw[f,oy,tW,fU,bA (by rw[aL];exact aE _)]
 |some j=>
  rw[h]at e f;obtain⟨hj,hp,_⟩:=ip.mp h;rw[aL]at hj;refine⟨i+j,e,uz _ _,by omega,fun _=> ?_,by rw[f,cF]⟩;rw[sC]at hp;rw[cy (by lia)];simpa using hp
inductive MU(vs:List V)(H:Hp)(Q:VK)(E:XK):Prop
 |mk (x dx nm ar:ao) (ps:List ao) (mx dm:ao) (wd:V) (tx:ao) (bg dp sz:V) (name:B) (args:List B) (xq dq o cc:ao) (y:dw) (room:Nat) (t:B) (_:vs=[.ref x,.ref xq,.int room]) (_:EI T H x name (.ref mx) args dx nm ar ps bg dp sz) (_:gA T H xq y.open_ y.close dq o cc) (_:H mx=some (.ins T.dr dm (eN wd (.ref tx)))) (_:H tx=some (.lst (iv t))) (_:t.length<=70000) (_:total args<=100000) (_:args.length<=2000) (_:room<=65536) (_:y.open_.length<=70000) (_:y.close.length<=70000) (_:name.length<=70000) (_:agx T H (fT y name args t) room Q E)
theorem Nu:T.IE.Ok P w mg ag (jF P w) 4 (MU T):=by
 rcases h:T.IE.qj ["call","quotes","room","text","result","place","dollar","piece"]with⟨x,dx,nm,ar,ps,mx,dm,wd,tx,bg,dp,sz,name,args,xq,dq,o,cc,y,room,t,rfl,ca,qa,hm,NR,h0,h1,h2,h3,h4,h5,h6,k⟩;exists _,(ah (bh 3 nd0 (aB T.fX T.kx (aB T.dE T.mK (pv 0)))) (ah (bh 4 nd0 (cH c9)) (ah (bh 5 nd0 aO) (ah (gx fm (aR ki (pv 5) (cL T (pv 3))) (ah (bh 6 nd0 (cG T.ve (vj T) hr bq (aV (pv 3) (aV (bC rfl T.vw) (p1 (pv 5)))))) (ah (bx (j0 aJ dR PySem.F.type_list_extend jP (pv 4) (p1 (gm ic (pv 3) (d4 (pv 5)) (d4 (pv 6)))))) (ah (bh 5 nd0 (cu dz (pv 6) aO)) (ah (ck (aR ki (pv 5) (cL T (pv 3))) (ah (bh 7 nd0 (cG T.C7 (KA T) hr dC (aV (c5 b6 (pv 3) (pv 5)) (aV (pv 0) (aV (pv 1) (p1 (pv 2))))))) (aj (ck (aR xG (pv 7) qY) (aj (bx (j0 aJ bI PySem.F.type_list_append fg (pv 4) (p1 (bC rfl T.vw))))) (ah (bx (j0 aJ dR PySem.F.type_list_extend jP (pv 4) (p1 (pv 7)))) (aj (gR 5 nd0 aO iG)))))) (aj (ck (aR d9 (pv 5) (cL T (pv 3))) (aj (bx (j0 aJ bI PySem.F.type_list_append fg (pv 4) (p1 (bC rfl T.vw))))) bQ))) (aj (ck (aR qy (cL T (pv 4)) (pv 2)) (aj (ff T.hW hr)) bQ))))))) (aj (a6 (pv 4)))))));have hx:=ca.1;symm;refine⟨by decide,fun d hd=> ?_⟩;clear hx;have hJ0:[]++fT y name args (t.drop 0)=fT y name args t:=rfl;generalize fT y name args t=J at k hJ0;rfl';exists fun m Z H'=>bE H H'/\∃(i:Nat) (r:B) (v1 v2:Option V),Z=[some (V.ref x),some (V.ref xq),some (V.int (room:Int)),some (V.ref tx),some (V.ref d),some (V.int (i:Int)),v1,v2]/\m=t.length+2- i/\i<=t.length+1/\H' d=some (.lst (iv r))/\r.length<=room/\r++fT y name args (t.drop i)=J,⟨_,aY hd,0,[],none,none,rfl,rfl,aC _,aq,aC _,hJ0⟩;clear hJ0;intro m Z H1 w_;rcases w_ with⟨sm,i,r,v1,v2,rfl,rfl,hi,ZU,XU,hf⟩;have RO:=sm _ _ NR;symm
 by_cases iB:i<t.length
 ·refine gB (by lia) ?_;exists _,fun _ _ h=>h;rcases Ss y name args t i (by lia)with⟨dl,ed,hid,vY,h36,hfd⟩;rfl';exists tx,t.map (fun(n:Nat)=>(n:Int)),36,i,rfl,by rw[<-eS];exact RO,(by decide)
  rfl';(try rw[ed])
  have kJ:=Cs (l:=t) (i:=i) (j:=dl);have htd:tx≠d:=bO hd NR
  have fin:∀(H':Hp) (i':Nat) (r2:B) (w1 w2:Option V),bE H H'->H' d=some (.lst (iv r2))->i<i'->i'<=t.length+1->r2++fT y name args (t.drop i')=J->
   if (room:Int)<(r2.length:Int)then E (bM T.c7) none H' else ∃m',m'<t.length+2- i/\bE H H'/\∃(XT:Nat) (r_1:B) (v1 v2:Option V),[some (V.ref x),some (V.ref xq),some (V.int ↑room),some (V.ref tx),some (V.ref d),some (V.int (i':Int)),w1,w2]=[some (V.ref x),some (V.ref xq),some (V.int ↑room),some (V.ref tx),some (V.ref d),some (V.int ↑XT),v1,v2]/\m'=t.length+2- XT/\XT<=t.length+1/\H' d=some (.lst (iv r_1))/\r_1.length<=room/\r_1++fT y name args (t.drop XT)=J:=fun H' i' r2 w1 w2 s2 hd2 hi1 hi2 Tc=>by
   split
   ·rename_i hgt;refine k.1 ?_ H' s2;(try rw[<-Tc,aF]);lia
   ·rename_i hgt;exact⟨_,by omega,s2,i',r2,w1,w2,rfl,rfl,hi2,hd2,by lia,Tc⟩
  have L7:((t.drop i).take (dl- i)).length<=70000:=by rw[aQ,aL];lia
  rw[hfd,<-bu]at hf;clear ed hm NR hfd;generalize (t.drop i).take (dl- i)=u at kJ hf L7;symm;intro q hq;have hqd:d≠q:=bO hq ZU;have AD:tx≠q:=bO hq RO;have oQ:bE H1 (upd H1 q (.lst (iv u))):=aY hq;have smd:bE H (upd (upd H1 q (.lst (iv u))) d (.lst (iv (r++u)))):=bp (sm.trans oQ) hd
  by_cases c1:dl+1<t.length
  ·obtain⟨c,hc⟩:=k6 c1;have hg:=jV hc;have hg:zF (iv t) ((dl:Int)+1)=some (V.int (c:Int)):=hg;have e36:=h36 (by lia)
   have oW:t.drop dl=36::c::t.drop (dl+2):=by
    (try rw[aI (by lia:dl<t.length),aI (by lia:dl+1<t.length)])
    (try rw[(aw.mp e36).2,(aw.mp hc).2])
   have NX:t.drop (dl+1)=c::t.drop (dl+2):=by
    (try rw[aI (by lia:dl+1<t.length),(aw.mp hc).2])
   rw[oW,FH]at hf;clear oW;symm;exists (by rw[aT];lia);rfl';refine gB (by lia) ?_;rfl';exists c,x,dx,nm,ar,ps,.ref mx,bg,dp,sz,name,args,xq,dq,o,cc,y,room,rfl,ca.mono smd,qa.mono smd,h1,h2,h3,h4,h5,h6
   cases hs:standIn y name args c with
   |none=>
    rw[hs,<-NX]at hf;clear hs NX;symm;exists (by rw[aT,aF];lia);rfl';(try rw[show iv (r++u)++[V.int 36]=iv (r++u++[36]) from Ia 36,oI])
    have:=fin (upd (upd H1 q (.lst (iv u))) d (.lst (iv (r++u++[36])))) (dl+1) (r++u++[36]) (some (V.int (dl:Int))) (some V.fI) (bp (sm.trans oQ) hd) aq (by lia) (by lia) (by rw[<-hf];simp);rw[aq]at this;exact this
   |some b=>
    rw[hs]at hf;have ajR:c=64->room<b.length->room<J.length:=fun _ hb=>by rw[<-hf];simp only[aF];lia
    clear hs NX;refine⟨fun c64 hb H' s2=>k.1 (ajR c64 hb) H' (smd.trans s2),fun H' p s2 hp B0=> ?_⟩;have hd':=s2 d _ aq;have alj:H' tx=some (.lst (iv t)):=s2 tx _ ((ai htd).trans ((ai AD).trans RO));clear hg;symm;exists (by rw[aT,aF];lia);have:=fin (upd H' d (.lst (iv (r++u++b)))) (dl+2) (r++u++b) (some (V.int (dl:Int))) (some (V.ref p)) (bp (smd.trans s2) hd) aq (by lia) (by lia) (by rw[<-hf];simp);rw[aq]at this;rfl';exact this
  ·clear smd;symm;exists (by rw[aT];lia);rfl';refine gn (by lia) ?_
   by_cases c2:dl+1=t.length
   ·rfl';refine gB (by lia) ?_;exists (by rw[aT,aF];lia);have e36:=h36 (by lia)
    have oW:t.drop dl=[36]:=by
     (try rw[aI (by lia:dl<t.length),(aw.mp e36).2,bF (by lia)])
    rw[oW,Lk]at hf;rfl';(try rw[show iv (r++u)++[V.int 36]=iv (r++u++[36]) from Ia 36,oI])
    have:=fin (upd (upd H1 q (.lst (iv u))) d (.lst (iv (r++u++[36])))) (dl+1) (r++u++[36]) (some (V.int (dl:Int))) v2 (bp (sm.trans oQ) hd) aq (by lia) (by lia) (by rw[<-hf,bF (by lia),tW,fU]);rw[aq]at this;exact this
   ·rfl';refine gn (by lia) ?_;have:=fin (upd (upd H1 q (.lst (iv u))) d (.lst (iv (r++u)))) (dl+1) (r++u) (some (V.int (dl:Int))) v2 (bp (sm.trans oQ) hd) aq (by lia) (by lia) (by rw[<-hf,bF (by lia:t.length<=dl+1),bF (by lia:t.length<=dl)]);rw[aq]at this;rfl';exact this
 ·refine gn (by lia) ?_;rw[bF (by lia),tW,fU]at hf;rw[<-hf]at k;rfl';exact k.2 XU H1 d sm hd ZU
def Small(t:B):Prop:=∀c∈t,c<256
inductive QO(vs:List V)(H:Hp)(Q:VK)(E:XK):Prop
 |mk (a c:Nat) (_:vs=[.int a,.int c]) (_:a<256) (_:c<256) (_:Yo H (A6 a c) Q)
theorem Q7:T.Mt.Ok P w mg ag iN 1 QO:=by
 rcases h:T.Mt.jG ["first","last"]with⟨a,c,rfl,ha,hc,k⟩;exists _,(ah (ck (aR y0 (pv 0) (pv 1)) (aj (a6 (wX rfl rfl T.tM rfl T.vT (aV (cu dz (pv 0) aO) (p1 (cu dz (pv 1) aO)))))) bQ) (aj (a6 (Fq rfl rfl T.tM rfl T.vT (aV (cu iF (pv 0) aO) (aV (cu iF (pv 1) aO) (p1 (pK kX aO))))))));unfold A6 at k;symm
 by_cases h:a<=c
 ·rw[if_pos h]at k;refine gB (by lia) ?_;refine⟨_,_,rfl,⟨by lia,by lia,by lia,by lia⟩,by rw[aT];lia,fun p hp=>k _ p (aY hp) hp ?_⟩;(try rw[aq,show ((c:Int)+1- ((a:Int)+1)).toNat=c- a by lia,afB])
 ·rw[if_neg h]at k;refine gn (by lia) ?_;rfl';refine⟨_,_,_,_,rfl,RgC.neg (by lia) (by lia) (by lia) (by lia),by rw[aT];lia,fun p hp=>k _ p (aY hp) hp ?_⟩;(try rw[aq,show ((a:Int)- 1- ((c:Int)- 1)).toNat=a- c by lia,Zx _ _ (by lia)])
inductive Ac(vs:List V)(H:Hp)(Q:VK)(E:XK):Prop
 |mk (a:ao) (t:B) (_:vs=[.ref a]) (_:H a=some (.lst (iv t))) (_:t.length<=65536) (_:Small t) (_:∀H' p,bE H H'->H p=none->H' p=some (.lst (iv (rg t)))->(rg t).length<sizeLine->Q (.ref p) H')
theorem Yz(ha:a<256)(hc:c<256):(A6 a c).length<=255:=by unfold A6;split<;>simp<;>lia
theorem rO:T.nK.Ok P w mg ag iN 2 Ac:=by
 rcases h:T.nK.jG ["text","row","place"]with⟨a,t,rfl,ht,hl,Fz,k⟩;exists _,(ah (bh 1 nd0 (cH c9)) (ah (bh 2 nd0 aO) (ah (gx cA (aR ki (pv 2) (cL T (pv 0))) (aj (ck (PW.pt (pJ (aR d9 (c5 b6 (pv 0) (pv 2)) (bC rfl T.Co)) (my (yW ki ki aO (pv 2) (cu iF (cL T (pv 0)) aO))))) (ah (bx (j0 aJ dR PySem.F.type_list_extend jP (pv 1) (p1 (cG T.Mt (Q7 T) hr bq (aV (c5 b6 (pv 0) (cu iF (pv 2) aO)) (p1 (c5 b6 (pv 0) (cu dz (pv 2) aO)))))))) (aj (gR 2 nd0 aO iG))) (ah (bx (j0 aJ bI PySem.F.type_list_append fg (pv 1) (p1 (c5 b6 (pv 0) (pv 2))))) (aj (gR 2 nd0 aO iG)))))) (aj (a6 (pv 1))))));symm;refine⟨by decide,fun d hd=> ?_⟩;rfl';exists fun m Z H'=>bE H H'/\∃(i:Nat) (r:B),Z=[some (V.ref a),some (V.ref d),some (V.int (i:Int))]/\m=t.length+1- i/\i<=t.length/\H' d=some (.lst (iv r))/\r.length<=255*i/\nE t r i,⟨_,aY hd,0,[],rfl,rfl,aC _,aq,aC _,nE.start t⟩;intro m Z H1 w_;rcases w_ with⟨sm,i,r,rfl,rfl,hi,wZ,XU,sp⟩;have ht1:=sm _ _ ht;have vW:a≠d:=bO hd ht;symm
 by_cases iB:i<t.length
 ·refine gB (by lia) ?_;exists _,fun _ _ h=>h;obtain⟨c,hc⟩:=k6 iB;have hg:=jV hc;symm
  have one:(i=0\/c≠45\/t[i+1]? =none)->r.length<sizeLine/\∃m',m'<t.length+1- i/\bE H (upd H1 d (.lst (iv r++[V.int (c:Int)])))/\∃(XT:Nat) (r_1:B),[some (V.ref a),some (V.ref d),some (V.int ((i:Int)+1))]=[some (V.ref a),some (V.ref d),some (V.int (XT:Int))]/\m'=t.length+1- XT/\XT<=t.length/\some (HO.lst (iv r++[V.int (c:Int)]))=some (.lst (iv r_1))/\r_1.length<=255*XT/\nE t r_1 XT:=fun h=>
   ⟨by rw[aT];lia,_,by omega,bp sm hd,i+1,r++[c],rfl,rfl,iB,by rw[Ia],by simp;lia,sp.one hc h⟩
  by_cases hm:c=45
  ·subst hm;refine gB (by rfl) ?_
   by_cases h0:0<i
   ·rfl';refine gB (by lia) ?_
    by_cases h1:i+1<t.length
    ·refine gB (by lia) ?_;refine wN fun g_ k_=> ?_;obtain⟨e,he⟩:=k6 h1;obtain⟨b,hb,sp'⟩:=sp.range h0 hc he;refine wO k_ ?_;clear k_ g_;have hg1:zF (iv t) ((i:Int)+1)=some (V.int (e:Int)):=jV he
     have hg2:zF (iv t) ((i:Int)- 1)=some (V.int (b:Int)):=by
      have:=jV hb
      rwa [show ((i- 1:Nat):Int)=(i:Int)- 1 by lia]at this
     symm;have X4:=Fz b (bc hb);have he':=Fz e (bc he);have hw:=Yz X4 he';refine⟨b,e,rfl,X4,he',fun H2 p gj hp mX=> ?_⟩;have hd2:=gj _ _ wZ;clear hg hg1 hg2;symm;exists (by rw[aT];lia);rfl';refine⟨_,?_,bp (sm.trans gj) hd,i+2,r++A6 b e,rfl,rfl,by lia,rfl,by rw[aF];lia,sp'⟩;omega
    ·refine gn (by lia) ?_;obtain⟨o1,o2⟩:=one (.inr (.inr (hU (by lia))));rfl'
   ·rfl';refine gn (by lia) ?_;obtain⟨o1,o2⟩:=one (.inl (by lia));rfl'
  ·refine gn (by lia) ?_;obtain⟨o1,o2⟩:=one (.inr (.inl hm));rfl'
 ·refine gn (by lia) ?_;have e:=sp.done (by lia);subst e;rfl';exact k H1 d sm hd wZ (by rw[aT];lia)
inductive Fj(vs:List V)(H:Hp)(Q:VK)(E:XK):Prop
 |mk (a b:ao) (x y:B) (_:vs=[.ref a,.ref b]) (_:H a=some (.lst (iv x))) (_:H b=some (.lst (iv y))) (_:x.length<=65536) (_:y.length<=65536) (_:Small x) (_:Small y) (_:∀H' d kvs,bE H H'->H d=none->H' d=some (.dK kvs)->(∀c:Nat,fq kvs (.inl (c:Int))=(gg (rg x) (rg y) c).map V.int)->Q (.ref d) H')
theorem Vd{κ:Type}[DecidableEq κ](kvs:List (κ×V))(k:κ)(v:V):(putK kvs k v).length<=kvs.length+1:=by unfold putK;split<;>simp
theorem Fw:T.ya.Ok P w mg ag iN 3 Fj:=by
 rcases h:T.ya.jG ["before","after","changes","targets","place","byte"]with⟨a,b,x,y,rfl,ha,hb,hxl,hyl,RM,hys,k⟩;exists _,(ah (bh 2 nd0 Ku) (ah (bh 3 nd0 (cG T.nK (rO T) hr bq (p1 (pv 1)))) (ah (oE cA rfl (Pe rfl T.qC (p1 (cG T.nK (rO T) hr bq (p1 (pv 0))))) (Vj rfl (yX (fk 4 nd0) (yX (fk 5 nd0) Pf))) (aj (ck (Aj (Q2 (oV hr) (pv 5) (pv 2))) (aj (Pc (oV hr) (pv 2) (pv 5) (ll (aR ki (pv 4) (cL T (pv 3))) (c5 b6 (pv 3) (pv 4)) (bC rfl T.HX)) rfl)) bQ))) (aj (a6 (pv 2))))));symm;intro d hd;rfl';refine⟨b,y,rfl,a9 hb hd,hyl,hys,fun H1 q oQ hq L5 hql=> ?_⟩;have ae2:bE H H1:=(aY hd).trans oQ;symm;refine⟨a,x,rfl,ae2 _ _ ha,hxl,RM,fun H2 p gj hp mX Ik=> ?_⟩;have aib:bE H H2:=ae2.trans gj;have hd2:=gj _ _ (oQ _ _ aq);have qH:=gj _ _ L5;symm;have hqd:q≠d:=(aM hq).1;have hpd:p≠d:=cE hp (oQ _ _ aq) rfl
 refine L3.bytes (t:=rg x) (fun i Z H'=>(∀b u,H2 b=some u->b≠d->H' b=some u)/\∃kvs v1 v2,Z=[some (V.ref a),some (V.ref b),some (V.ref d),some (V.ref q),v1,v2]/\H' d=some (.dK kvs)/\kvs.length<=i/\∀c:Nat,fq kvs (.inl (c:Int))=(gg ((rg x).take i) (rg y) c).map V.int)
  ⟨fun b u e _=>e,[],none,none,rfl,hd2,aC _,fun c=>rfl⟩ (fun i Z H' h=>h.1 _ _ mX hpd) ?_ ?_
 ·rintro i c Z H' z hc ⟨kf,kvs,v1,v2,rfl,hd3,hkl,PF⟩ hz;have hi:i<(rg x).length:=(aw.mp hc).1;refine abl aq ?_;have hzd:d≠z:=bO hz hd3;have XY:=a9 (o:=.tup [.int (i:Nat),.int (c:Nat)]) (kf _ _ qH hqd) hz;have hd4:=a9 (o:=.tup [.int (i:Nat),.int (c:Nat)]) hd3 hz;have sI:∀b u,H2 b=some u->b≠d->upd H' z (.tup [.int (i:Nat),.int (c:Nat)]) b=some u:=fun b u e hb=>a9 (kf b u e hb) hz;generalize upd H' z (.tup [.int (i:Nat),.int (c:Nat)])=H4 at XY hd4 sI⊢;have hT:=take_snoc hc;symm;exists _,Xd hd4;(try rw[PF c])
  cases hb:gg ((rg x).take i) (rg y) c with
  |some zz=>
   refine gn (by simp) ?_;refine⟨sI,kvs,_,_,rfl,rfl,by lia,fun e=> ?_⟩;(try rw[PF e,AQ hb])
  |none=>
   have hlen:((rg x).take i).length=i:=by rw[aQ];lia
   have fin:∀v:Int,v=(match (rg y)[i]? with|some d=>(d:Int)|none=> -1)->∃H4',F4 H4 d (V.int (c:Int)) (V.int v) H4'/\(∀b u,H2 b=some u->b≠d->H4' b=some u)/\∃kvs v1 v2,[some (V.ref a),some (V.ref b),some (V.ref d),some (V.ref q),some (V.int (i:Int)),some (V.int (c:Int))]=[some (V.ref a),some (V.ref b),some (V.ref d),some (V.ref q),v1,v2]/\H4' d=some (.dK kvs)/\kvs.length<=i+1/\∀c:Nat,fq kvs (.inl (c:Int))=(gg ((rg x).take (i+1)) (rg y) c).map V.int:=fun v hv=>by
    refine⟨_,Xa hd4 (by lia),fun b u e hb=>(ai hb).trans (sI b u e hb),_,_,_,rfl,aq,cj (Vd _ _ _) (by lia),fun e=> ?_⟩;(try rw[T7,hT,AR hb,hlen,PF e,hv])
    by_cases he:e=c
    ·subst he;rw[if_pos rfl];rw[if_pos rfl];rfl
    ·rw[if_neg he];rw[if_neg (by intro z;exact he (by have:=LQ z;lia))]
   refine gB (by simp) ?_
   by_cases hiy:i<(rg y).length
   ·rfl';refine gB (by lia) ?_;obtain⟨g,hg⟩:=k6 hiy;rfl';exists _,jV hg;have:=fin (g:Int) (by rw[hg]);rw[hT]at this;exact this
   ·rfl';refine gn (by lia) ?_;have:=fin (-1) (by rw[hU (by lia)]);rw[hT]at this;exact this
 ·intro Z H' w_;rcases w_ with⟨kf,kvs,v1,v2,rfl,hd3,hkl,PF⟩;symm;refine k H' d kvs (fun b u e=>kf b u (aib b u e) (bO hd e)) hd hd3 fun c=> ?_;(try rw[PF c,cQ])
inductive xA(vs:List V)(H:Hp)(Q:VK)(E:XK):Prop
 |mk (a b c:ao) (t x y:B) (_:vs=[.ref a,.ref b,.ref c]) (_:H a=some (.lst (iv t))) (_:H b=some (.lst (iv x))) (_:H c=some (.lst (iv y))) (_:t.length<=65536) (_:x.length<=65536) (_:y.length<=65536) (_:Small x) (_:Small y) (_:Yo H (Ra32.translated t (rg x) (rg y)) Q)
theorem xH:T.oJ.Ok P w mg ag iN 4 xA:=by
 rcases h:T.oJ.jG ["text","before","after","changes","changed","byte"]with⟨a,b,c,t,x,y,rfl,ha,hb,hc,zp,hxl,hyl,RM,hys,k⟩;exists _,((ah (bh 3 nd0 (cG T.ya (Fw T) hr bq (aV (pv 1) (p1 (pv 2))))) (ah (Ve rfl nd0 (i:=4) rfl rfl (YM rfl rfl rfl (by decide+kernel)) (jA (pv 0)) (nW (own:=[("byte",5)]) (show FP ["text","before","after","changes","changed","byte"] (dv (top 49)) _ _=true by decide+kernel)) (fun _ _ _ _ _=>fk 5 nd0) (fun _ _ _ _ _=>tz) (fun _ _ _ _ _=>(Vo (oV hr) (pv 3) (pv 5) (pv 5) ⟨rfl,rfl,rfl,rfl⟩))) (aj (a6 (Gf rfl nd0 (jA (pv 4)) (nW (own:=[("byte",5)]) (show FP ["text","before","after","changes","changed","byte"] (dv (top 49)) _ _=true by decide+kernel)) (fun _ _ _ _ _=>fk 5 nd0) (fun _ _ _ _ _=>Ze (aR rN (pv 5) (bC rfl T.HX))) (fun _ _ _ _ _=>(pv 5))))))));symm;refine⟨b,c,x,y,rfl,hb,hc,hxl,hyl,RM,hys,fun H1 d kvs oQ hd wZ PF=> ?_⟩;have Gv:=oQ _ _ ha;clear ha hb hc;symm;refine LcA.list (xs:=iv t) Gv (fun D i H'=>H'=upd H1 D (.lst ((t.take i).map fun(c:Nat)=>V.int ((gg (rg x) (rg y) c).getD (c:Int))))) (fun D hD=>rfl) (fun D i H' hD e=>by rw[e];exact a9 Gv hD) ?_ ?_
 ·rintro D i v H' hD hv rfl;rcases Pt hv with⟨e,he,rfl⟩;have hD1:=a9 (o:=.lst ((t.take i).map fun(c:Nat)=>V.int ((gg (rg x) (rg y) c).getD (c:Int)))) wZ hD;have hi:i<t.length:=(aw.mp he).1;symm;exists afF hD1,_,Xd hD1,(by rw[aN,aQ,aT];lia);(try rw[take_snoc he,bL,PF e])
  (try rw[a4,qg])
  cases gg (rg x) (rg y) e<;>rfl
 ·rintro D H' hD rfl;symm;(try rw[cQ])
  have e0:(t.map fun(c:Nat)=>V.int ((gg (rg x) (rg y) c).getD (c:Int)))=(t.map fun(c:Nat)=>(gg (rg x) (rg y) c).getD (c:Int)).map V.int:=by rw[gP];rfl
  (try rw[e0])
  have hR:=E5 t (rg x) (rg y);have ZP:(t.map fun(c:Nat)=>(gg (rg x) (rg y) c).getD (c:Int)).length<=65536:=by rw[aN];exact zp
  generalize (t.map fun(c:Nat)=>(gg (rg x) (rg y) c).getD (c:Int))=zs at hR ZP⊢;have MW:bE H (upd H1 D (.lst (zs.map V.int))):=oQ.trans (aY hD);generalize uB:upd H1 D (.lst (zs.map V.int))=H2 at MW⊢;have hD2:H2 D=some (.lst (zs.map V.int)):=(congrFun uB.symm _).trans aq;clear uB Gv wZ;refine LcA.list (xs:=zs.map V.int) hD2 (fun D i H'=>H'=upd H2 D (.lst (((zs.take i).filter fun z=>z != -1).map V.int))) (fun D hD=>rfl) (fun D i H' hD e=>by rw[e];exact a9 hD2 hD) ?_ ?_
  ·rintro F i v H' hF hv rfl;rw[cJ]at hv
   cases hz:zs[i]? with
   |none=>rw[hz]at hv;cases hv
   |some z=>
    rw[hz]at hv
    cases hv
    have hi:i<zs.length:=(aw.mp hz).1;have hT:zs.take (i+1)=zs.take i++[z]:=by rw[ef,hz];rfl
    symm
    by_cases hm:z= -1
    ·subst hm;refine gn (by simp) ?_;(try rw[TN]);simp
    ·refine gB (by simp[hm]) ?_;refine⟨?_,?_⟩
     ·(try rw[aN,aT])
      have:=OF (fun z=>z != -1) (zs.take i);rw[aQ]at this;lia
     ·(try rw[TN]);simp[hm]
  ·rintro F H' hF rfl;(try rw[aN,cQ])
   refine k _ F (MW.trans (aY hF)) (TM.bE.none MW hF) ?_;(try rw[aq,eS,hR])
theorem Qm(y:Int):eQ y 63=y%64:=bitAnd_m6 y
theorem Xo:0<=eQ y 63:=by rw[Qm];lia
theorem SH(h:xi x):aha x (eQ y 63):=by
 rw[Qm];unfold xi at h;refine⟨?_,?_,?_⟩<;>lia
theorem M4(x y:Int):raw "||" x y=some (ju (!decide (x=0)|| !decide (y=0))):=by unfold raw;simp;rfl
theorem UX(x y:Int):raw "&&" x y=some (ju (!decide (x=0)&& !decide (y=0))):=by unfold raw;simp;rfl
theorem xC(x y:Int):raw "|" x y=some (nO x y):=by unfold raw;simp
theorem BO(x y:Int):raw "^" x y=some (mT x y):=by unfold raw;simp
theorem Ai(x y:Int):raw "&" x y=some (eQ x y):=by unfold raw;simp
theorem UW(x y:Int):raw "==" x y=some (ju (decide (x=y))):=by unfold raw;simp;rfl
theorem QV(x y:Int):raw "!=" x y=some (ju (!decide (x=y))):=by unfold raw;simp;rfl
theorem Kn(x y:Int):raw "<=" x y=some (ju (decide (x<=y))):=by unfold raw;simp
theorem Hu(x y:Int):raw ">=" x y=some (ju (decide (y<=x))):=by unfold raw;simp
theorem QW(x y:Int):raw "<" x y=some (ju (decide (x<y))):=by unfold raw;simp
theorem QY(x y:Int):raw ">" x y=some (ju (decide (y<x))):=by unfold raw;simp
theorem Dz(x y:Int):raw "<<" x y=some (x*2^(eQ y 63).toNat):=by rw[Qm];unfold raw;simp
theorem Ah(x y:Int):raw ">>" x y=some (x/2^(eQ y 63).toNat):=by rw[Qm];unfold raw;simp
theorem QX(x y:Int):raw "+" x y=some (x+y):=by unfold raw;simp
theorem Dy(x y:Int):raw "-" x y=some (x- y):=by unfold raw;simp
theorem DA(x y:Int):raw "*" x y=some (x*y):=by unfold raw;simp
inductive iE(T:Top K mg)(op:String)(vs:List V)(H:Hp)(Q:VK)(E:XK):Prop
 |mk (x y:Int) (_:vs=[.int x,.int y]) (_:xi x) (_:xi y) (_:match raw op x y with
 |some z=>Q (.int z) H
 |none=>E (.ref T.bT) none H)
inductive UK(vs:List V)(H:Hp)(Q:VK)(E:XK):Prop
 |mk (b:Bool) (_:vs=[.bl b]) (_:Q (.int (ju b)) H)
theorem mB:T.truth.Ok P w mg ag iN 1 UK:=by
 rcases h:T.truth.jG ["said"]with⟨b,rfl,k⟩;exists _,(aj (a6 (ll (iY (pv 0)) aO aO)));symm
 cases b
 ·rfl';exact k
 ·rfl';exact k
theorem Rg:T.either.Ok P w mg ag iN 2 (iE T "||"):=by
 rcases h:T.either.jG ["left","right"]with⟨x,y,rfl,hx,hy,k⟩;exists _,(aj (a6 (cG T.truth (mB T) hr bq (p1 (Vk (f7 rN (pv 0) aO) (DL (f7 rN (pv 1) aO)))))));rw[M4]at k;symm
 by_cases h:x=0
 ·refine gn (by simp[h]) ?_;exact⟨_,rfl,by simpa [h]using k⟩
 ·refine gB (by simp[h]) ?_;exact⟨_,rfl,by simpa [h]using k⟩
theorem Zt:T.both.Ok P w mg ag iN 2 (iE T "&&"):=by
 rcases h:T.both.jG ["left","right"]with⟨x,y,rfl,hx,hy,k⟩;exists _,(aj (a6 (cG T.truth (mB T) hr bq (p1 (Al (f7 rN (pv 0) aO) (DL (f7 rN (pv 1) aO)))))));rw[UX]at k;symm
 by_cases h:x=0
 ·refine gn (by simp[h]) ?_;exact⟨_,rfl,by simpa [h]using k⟩
 ·refine gB (by simp[h]) ?_;exact⟨_,rfl,by simpa [h]using k⟩
theorem zb:T.kq.Ok P w mg ag iN 1 (iE T "|"):=by
 rcases h:T.kq.jG ["left","right"]with⟨x,y,rfl,hx,hy,k⟩;exists _,(aj (a6 (cu (qi0 afv) (pv 0) (pv 1))));rw[xC]at k;symm
theorem DV:T.nX.Ok P w mg ag iN 1 (iE T "^"):=by
 rcases h:T.nX.jG ["left","right"]with⟨x,y,rfl,hx,hy,k⟩;exists _,(aj (a6 (cu (qi0 ace) (pv 0) (pv 1))));rw[BO]at k;symm
theorem BR:T.mH.Ok P w mg ag iN 1 (iE T "&"):=by
 rcases h:T.mH.jG ["left","right"]with⟨x,y,rfl,hx,hy,k⟩;exists _,(aj (a6 (cu (qi0 Nl) (pv 0) (pv 1))));rw[Ai]at k;symm
theorem Zo:T.same.Ok P w mg ag iN 2 (iE T "=="):=by
 rcases h:T.same.jG ["left","right"]with⟨x,y,rfl,hx,hy,k⟩;exists _,(aj (a6 (cG T.truth (mB T) hr bq (p1 (f7 d9 (pv 0) (pv 1))))));rw[UW]at k;symm;exact⟨_,rfl,k⟩
theorem VC:T.other.Ok P w mg ag iN 2 (iE T "!="):=by
 rcases h:T.other.jG ["left","right"]with⟨x,y,rfl,hx,hy,k⟩;exists _,(aj (a6 (cG T.truth (mB T) hr bq (p1 (f7 rN (pv 0) (pv 1))))));rw[QV]at k;symm;exact⟨_,rfl,k⟩
theorem Nv:T.zE.Ok P w mg ag iN 2 (iE T "<="):=by
 rcases h:T.zE.jG ["left","right"]with⟨x,y,rfl,hx,hy,k⟩;exists _,(aj (a6 (cG T.truth (mB T) hr bq (p1 (f7 y0 (pv 0) (pv 1))))));rw[Kn]at k;symm;exact⟨_,rfl,k⟩
theorem KH:T.vI.Ok P w mg ag iN 2 (iE T ">="):=by
 rcases h:T.vI.jG ["left","right"]with⟨x,y,rfl,hx,hy,k⟩;exists _,(aj (a6 (cG T.truth (mB T) hr bq (p1 (f7 Kv (pv 0) (pv 1))))));rw[Hu]at k;symm;exact⟨_,rfl,k⟩
theorem VF:T.below.Ok P w mg ag iN 2 (iE T "<"):=by
 rcases h:T.below.jG ["left","right"]with⟨x,y,rfl,hx,hy,k⟩;exists _,(aj (a6 (cG T.truth (mB T) hr bq (p1 (f7 ki (pv 0) (pv 1))))));rw[QW]at k;symm;exact⟨_,rfl,k⟩
theorem VH:T.above.Ok P w mg ag iN 2 (iE T ">"):=by
 rcases h:T.above.jG ["left","right"]with⟨x,y,rfl,hx,hy,k⟩;exists _,(aj (a6 (cG T.truth (mB T) hr bq (p1 (f7 qy (pv 0) (pv 1))))));rw[QY]at k;symm;exact⟨_,rfl,k⟩
theorem Fu:T.pG.Ok P w mg ag iN 1 (iE T "<<"):=by
 rcases h:T.pG.jG ["left","right"]with⟨x,y,rfl,hx,hy,k⟩;exists _,(aj (a6 (cu (qi acg) (pv 0) (cu (qi0 Nl) (pv 1) aO))));rw[Dz]at k;symm;exact⟨SH hx,trivial⟩
theorem BP:T.mw.Ok P w mg ag iN 1 (iE T ">>"):=by
 rcases h:T.mw.jG ["left","right"]with⟨x,y,rfl,hx,hy,k⟩;exists _,(aj (a6 (cu (qi acf) (pv 0) (cu (qi0 Nl) (pv 1) aO))));rw[Ah]at k;symm;exact⟨Xo,trivial⟩
theorem VG:T.added.Ok P w mg ag iN 1 (iE T "+"):=by
 rcases h:T.added.jG ["left","right"]with⟨x,y,rfl,hx,hy,k⟩;exists _,(aj (a6 (cu dz (pv 0) (pv 1))));rw[QX]at k;symm
theorem Ft:T.pE.Ok P w mg ag iN 1 (iE T "-"):=by
 rcases h:T.pE.jG ["left","right"]with⟨x,y,rfl,hx,hy,k⟩;exists _,(aj (a6 (cu iF (pv 0) (pv 1))));rw[Dy]at k;symm
theorem Fv:T.pP.Ok P w mg ag iN 1 (iE T "*"):=by
 rcases h:T.pP.jG ["left","right"]with⟨x,y,rfl,hx,hy,k⟩;exists _,(aj (a6 (cu Am (pv 0) (pv 1))));rw[DA]at k;symm;exact⟨.inl (by unfold xi at hx;omega),trivial⟩
inductive J9(vs:List V)(H:Hp)(Q:VK)(E:XK):Prop
 |mk (x y:Int) (_:vs=[.int x,.int y]) (_:xi x) (_:xi y) (_:if y=0 then E (.ref T.bT) none H else Q (.int (Ja x y)) H)
theorem Bc:T.pI.Ok P w mg ag (jF P w) 1 (J9 T):=by
 rcases h:T.pI.qj ["left","right","size"]with⟨x,y,rfl,hx,hy,k⟩;exists _,(ah (ck (aR d9 (pv 1) aO) (aj (ff T.fo hr)) bQ) (ah (bh 2 nd0 (cu DP (jJ LD rfl T.Pl (by first|rfl|decide+kernel) (p1 (pv 0))) (jJ LD rfl T.Pl (by first|rfl|decide+kernel) (p1 (pv 1))))) (aj (a6 (ll (aR d9 (f7 ki (pv 0) aO) (f7 ki (pv 1) aO)) (pv 2) (pK kX (pv 2)))))));symm
 by_cases h:y=0
 ·rw[if_pos h]at k⊢;exact k
 ·rw[if_neg h]at k⊢;rw[YH x y h]at k;have e1:(if x<0 then-x else x)=(x.natAbs:Int):=by split<;>lia
  have e2:(if y<0 then-y else y)=(y.natAbs:Int):=by split<;>lia
  unfold xi at hx hy;rfl';exists x,rfl,y,rfl;(try rw[e1,e2])
  exists (⟨by lia,by lia,by lia,by omega⟩);rfl'
  split
  ·rename_i q;rw[if_pos q]at k;exact k
  ·rename_i q;rw[if_neg q]at k;exact k
theorem Zp:T.rest.Ok P w mg ag (jF P w) 2 (iE T "%"):=by
 rcases h:T.rest.qj ["left","right"]with⟨x,y,rfl,hx,hy,k⟩;exists _,(aj (a6 (cu iF (pv 0) (cu Am (pv 1) (cG T.pI (Bc T) hr dC (aV (pv 0) (p1 (pv 1))))))));symm;rw[show raw "%" x y=if y=0 then none else some (adU x y) by unfold raw;simp]at k;exists x,y,rfl,hx,hy
 by_cases h:y=0
 ·rw[if_pos h]at k⊢;exact k
 ·rw[if_neg h]at k⊢;rw[YG]at k;symm;exact⟨.inl (by unfold xi at hy;omega),trivial⟩
theorem HD:T.pI.Ok P w mg ag (jF P w) 1 (iE T "/"):=(Bc T).imp fun vs H Q E h=>by
 obtain⟨x,y,e,hx,hy,k⟩:=h;exists x,y,e,hx,hy;rw[show raw "/" x y=if y=0 then none else some (Ja x y) by unfold raw;simp]at k
 by_cases h:y=0
 ·rw[if_pos h]at k⊢;exact k
 ·rw[if_neg h]at k⊢;exact k
def M5(c:Nat)(x:Int):Int:=if c=45 then-x else if c=43 then x else if c=33 then ju (decide (x=0))else-x- 1
inductive J5(c:Nat)(vs:List V)(H:Hp)(Q:VK)(E:XK):Prop
 |mk (x:Int) (_:vs=[.int x]) (_:Q (.int (M5 c x)) H)
theorem Nt:T.negated.Ok P w mg ag iN 1 (J5 45):=by
 rcases h:T.negated.jG ["number"]with⟨x,rfl,k⟩;exists _,(aj (a6 (pK kX (pv 0))));rw[show M5 45 x= -x from rfl]at k;symm
theorem HC:T.unchanged.Ok P w mg ag iN 1 (J5 43):=by
 rcases h:T.unchanged.jG ["number"]with⟨x,rfl,k⟩;exists _,(aj (a6 (pv 0)));rw[show M5 43 x=x from rfl]at k;symm
theorem Rj:T.AK.Ok P w mg ag iN 2 (J5 33):=by
 rcases h:T.AK.jG ["number"]with⟨x,rfl,k⟩;exists _,(aj (a6 (cG T.truth (mB T) hr bq (p1 (f7 d9 (pv 0) aO)))));rw[show M5 33 x=ju (decide (x=0)) from rfl]at k;symm;exact⟨_,rfl,k⟩
theorem Q8:T.turned.Ok P w mg ag iN 1 (J5 126):=by
 rcases h:T.turned.jG ["number"]with⟨x,rfl,k⟩;exists _,(aj (a6 (pK Mw (pv 0))));rw[show M5 126 x= -x- 1 from rfl]at k;symm;exact k
theorem QD(hc:vy c=true)(hx:xi x):unop c x=ot (M5 c x):=QC hc hx
def aaR(P:bD)(w:cP)(ag:dg)(T:Top K mg)(f:ao):Fr->Prop
 | .br=>True
 | .un c=>∃fd,eR P w K mg ag iN 2 f fd ["number"] (J5 c)/\bW K (.ref f)=true/\Binds K fd ["number"] []
 | .bin s op=>(∃t,(t,s,op)∈lu)/\∃fd,eR P w K mg ag (jF P w) 2 f fd ["left","right"] (iE T op)/\bW K (.ref f)=true/\Binds K fd ["left","right"] []
def WAt(P:bD)(w:cP)(ag:dg)(T:Top K mg)(H:Hp)(a:ao)(fr:Fr):Prop:=∃f,((∀H,l6 K H a [.int (lj fr:Nat),.ref f])\/H a=some (.tup [.int (lj fr:Nat),.ref f]))/\aaR P w ag T f fr
inductive FR(P:bD)(w:cP)(ag:dg)(T:Top K mg)(H:Hp):List ao->List Fr->Prop where
 |nil:FR P w ag T H [] []
 |cons {a:ao} {fr:Fr} {as:List ao} {mG:List Fr}:WAt P w ag T H a fr->FR P w ag T H as mG->FR P w ag T H (a::as) (fr::mG)
def gI(x nu wa:ao)(H H':Hp):Prop:=∀b u,H b=some u->b≠x->b≠nu->b≠wa->H' b=some u
theorem gI.of(h:bE H H'):gI x nu wa H H':=fun b u e _ _ _=>h b u e
theorem gI.trans(h:gI x nu wa H H1)(g:gI x nu wa H1 H2):gI x nu wa H H2:=fun b u e h1 h2 h3=>g b u (h b u e h1 h2 h3) h1 h2 h3
theorem FR.keep{T:Top K mg}{x nu wa:ao}{H H':Hp}(k:gI x nu wa H H'){ox:HO}{xs ys:List V}(hx:H x=some ox)(rX:∀l,ox≠.tup l)(hn:H nu=some (.lst xs))(hw:H wa=some (.lst ys)){as:List ao}{mG:List Fr}(h:FR P w ag T H as mG):FR P w ag T H' as mG:=by
 induction h with
 |nil=>exact .nil
 |cons a _ ih=>
  obtain⟨f,h1,h2⟩:=a;refine .cons ⟨f,?_,h2⟩ ih;obtain h1|h1:=h1
  ·exact .inl h1
  ·refine .inr (k _ _ h1 (fun e=> ?_) (fun e=> ?_) (fun e=> ?_))
   ·rw[e,hx]at h1;exact rX _ (bo h1)
   ·rw[e,hn]at h1;cases h1
   ·rw[e,hw]at h1;cases h1
structure RecAt(P:bD)(w:cP)(ag:dg)(T:Top K mg)(H:Hp)(x dx tx nu wa:ao)(t:B)(i:Nat)(zs:List Int)(fr:List Fr)(wn:Bool):Prop where
 ob:H x=some (.ins T.cv dx (b0 (.ref tx) (.int (i:Nat)) (.ref nu) (.ref wa) (.bl wn)))
 te:H tx=some (.lst (iv t))
 Gj:H nu=some (.lst (zs.reverse.map V.int))
 XO:∃EJ,H wa=some (.lst (rv EJ.reverse))/\FR P w ag T H EJ fr
 n1:nu≠wa
 n2:nu≠tx
 n3:wa≠tx
 inr:∀z∈zs,xi z
 zl:zs.length<=70000
 fl:fr.length<=70000
theorem RecAt.nx{T:Top K mg}{H:Hp}{x dx tx nu wa:ao}{t:B}{i:Nat}{zs:List Int}{fr:List Fr}{wn:Bool}(r:RecAt P w ag T H x dx tx nu wa t i zs fr wn):tx≠x/\nu≠x/\wa≠x:=by
 obtain⟨EJ,hw,_⟩:=r.XO;refine⟨fun e=> ?_,fun e=> ?_,fun e=> ?_⟩
 ·have:=r.te;rw[e,r.ob]at this;cases this
 ·have:=r.Gj;rw[e,r.ob]at this;cases this
 ·rw[e,r.ob]at hw;cases hw
theorem RecAt.same{T:Top K mg}{H H':Hp}{x dx tx nu wa:ao}{t:B}{i:Nat}{zs:List Int}{fr:List Fr}{wn:Bool}(r:RecAt P w ag T H x dx tx nu wa t i zs fr wn)(s:bE H H'):RecAt P w ag T H' x dx tx nu wa t i zs fr wn:=by
 obtain⟨EJ,hw,h⟩:=r.XO;exact⟨s _ _ r.ob,s _ _ r.te,s _ _ r.Gj,⟨EJ,s _ _ hw,h.keep (gI.of s) r.ob (fun _ e=>by cases e) r.Gj hw⟩,r.n1,r.n2,r.n3,r.inr,r.zl,r.fl⟩
inductive QP(P:bD)(w:cP)(ag:dg)(T:Top K mg)(vs:List V)(H:Hp)(Q:VK)(E:XK):Prop
 |mk (x dx tx nu wa:ao) (t:B) (i:Nat) (z:Int) (zs:List Int) (fr:List Fr) (wn:Bool) (n:Nat) (_:vs=[.ref x,.int n]) (_:RecAt P w ag T H x dx tx nu wa t i (z::zs) fr wn) (_:Ck fr zs) (_:m9 fr<=10) (_:1<=n) (_:match settle n fr zs z with
 | .error _=>∀H',gI x nu wa H H'->E (.ref T.bT) none H'
 | .ok (Sb,G5,z')=>∀H',gI x nu wa H H'->RecAt P w ag T H' x dx tx nu wa t i (z'::G5) Sb wn->Q .fI H')
theorem kZ:T.jd.Ok P w mg ag (jF P w) 3 (QP P w ag T):=by
 rcases h:T.jd.qj ["self","strength","work","right","left"]with⟨x,dx,tx,nu,wa,t,i,z,zs,fr,wn,n,rfl,ra,ok,tp,hn,k⟩;exists _,(aj (gx fm (PW.pt (pJ (aR (Hz hr.uQ) (aB T.aP T.cz (pv 0)) (cH c9)) (my (aR Kv (c5 D3 (c5 b6 (aB T.aP T.cz (pv 0)) (pK kX aO)) aO) (pv 1))))) (ah (bh 2 nd0 (c5 D3 (vf aJ eK eJ q0 (aB T.aP T.cz (pv 0))) aO)) (ah (bh 3 nd0 (vf aJ eK eJ q0 (aB T.aP T.dU (pv 0)))) (ah (bh 4 nd0 (vf aJ eK eJ q0 (aB T.aP T.dU (pv 0)))) (aj (bx (j0 aJ bI PySem.F.type_list_append fg (aB T.aP T.dU (pv 0)) (p1 (cG T.nT (lY T) hr bq (p1 (DO (pv 2) (hr.mono (show 2<=_ by decide)) dC (aV (pv 4) (p1 (pv 3)))))))))))))));exists fun m Z H'=>gI x nu wa H H'/\∃z1 zs1 PY v2 v3 v4,Z=[some (V.ref x),some (V.int (n:Int)),v2,v3,v4]/\m=PY.length/\RecAt P w ag T H' x dx tx nu wa t i (z1::zs1) PY wn/\Ck PY zs1/\m9 PY<=10/\settle n fr zs z=settle n PY zs1 z1,⟨_,gI.of (bE.refl H),z,zs,fr,none,none,none,rfl,rfl,ra,ok,tp,rfl⟩;clear ra ok tp;intro m Z H1 w_;refine wN fun g_ k_=> ?_;obtain⟨kp,z1,zs1,PY,v2,v3,v4,rfl,rfl,ra,ok,tp,es⟩:=w_;rw[es]at k;obtain⟨EJ,hw,Gu⟩:=ra.XO;have eD:=ra.ob;have Wj:=ra.Gj;have vW:=ra.nx;obtain⟨rX,tS,wy⟩:=ra.nx;refine wO k_ ?_;clear k_ g_;have h1:x≠nu:=aD tS;have h2:x≠wa:=aD wy;have h3:=ra.n1;have h4:=aD ra.n1
 cases Gu with
 |nil=>
  replace hw:H1 wa=some (.lst []):=hw;symm;refine⟨aC _,fun p hp=> ?_⟩;symm;refine gn (by simp) ?_;have k:∀H',gI x nu wa H H'->RecAt P w ag T H' x dx tx nu wa t i (z1::zs1) [] wn->Q .fI H':=k;exact k _ (kp.trans (gI.of (aY hp))) (ra.same (aY hp))
 | @cons a f as mG ha Iq=>
   replace hw:H1 wa=some (.lst (rv as.reverse++[V.ref a])):=by rw[hw,b8,<-ft]
   obtain⟨g,hq,hg⟩:=ha;symm;refine⟨aC _,fun p hp=> ?_⟩
   have L5:l6 K (upd H1 p (.lst [])) a [.int (lj f:Nat),.ref g]:=by
    obtain hq|hq:=hq
    ·exact hq _
    ·exact .inl (.inl (a9 hq hp))
   symm;refine gB (by simp) ?_;rfl';exists a,_,0,_,rfl,rfl,L5,rfl;symm
   have out:settle n (f::mG) zs1 z1= .ok (f::mG,zs1,z1)->Q .fI (upd H1 p (.lst [])):=fun e=>by
    rw[e]at k;exact k _ (kp.trans (gI.of (aY hp))) (ra.same (aY hp))
   cases f with
   |br=>
    refine gn (show ¬(n:Int)<=(lj Fr.br:Nat) by show ¬(n:Int)<=(0:Nat);lia) ?_;exact out rfl
   |un c=>exact absurd tp (by simp[m9,lj])
   |bin sg op=>
    rcases ok with⟨y,r,rfl,o1,o2,o3,o4⟩
    by_cases ZX:n<=sg
    ·refine gB (show (n:Int)<=(lj (Fr.bin sg op):Nat) by show (n:Int)<=(sg:Nat);lia) ?_;exists _,fun _ _ h=>h;rfl';refine⟨a,[.int (lj (Fr.bin sg op):Nat),.ref g],1,.ref g,rfl,rfl,?_,rfl,?_⟩
     ·obtain hq|hq:=hq
      ·exact hq _
      ·refine .inl (.inl ?_);(try rw[ai (cE hq hw rfl)])
       exact a9 hq hp
     ·have alo:H1 nu=some (.lst ((r.reverse.map V.int++[V.int y])++[V.int z1])):=by rw[Wj];simp
      clear Wj eD;have eD:=ra.ob;symm;rcases hg with⟨⟨bt,hbt⟩,fd,F,hk,hb⟩;have iy:xi y:=ra.inr y (by simp);have iz:xi z1:=ra.inr z1 (by simp);exists g,fd,_,_,rfl,F,hk,hb,y,z1,rfl,iy,iz
      have RP:settle n (.bin sg op::mG) (y::r) z1=d5 (TK op y z1) fun z=>settle n mG r z:=by
       show (if n<=sg then _ else _)=_;rw[if_pos ZX]
      rw[SF hbt iy]at RP;rw[RP]at k
      have NG:∀o1 o2,gI x nu wa H1 (upd (upd (upd H1 p (.lst [])) wa o1) nu o2):=fun o1 o2 b u e e1 e2 e3=>by
       exact(ai e2).trans ((ai e3).trans (a9 e hp))
      cases hraw:raw op y z1 with
      |none=>
       rw[hraw]at k;exact k _ (kp.trans (NG _ _))
      |some v=>
       rw[hraw]at k RP;exists v,rfl;clear out es;symm;have XU:=ra.zl;refine⟨by rw[aN,fP,aT];simp only[au]at XU;lia,_,g7 _,kp.trans (NG _ _),ot v,r,mG,_,_,_,rfl,rfl,?_,o4,by lia,by rw[cX]⟩;refine⟨?_,?_,?_,⟨as,?_,?_⟩,ra.n1,ra.n2,ra.n3,fun qq hqq=> ?_,?_,?_⟩
       ·exact(ai h1).trans ((ai h2).trans (a9 eD hp))
       ·exact(ai (aD ra.n2)).trans ((ai (aD ra.n3)).trans (a9 ra.te hp))
       ·(try rw[aq]);simp
       ·exact(ai h4).trans aq
       ·exact Iq.keep (NG _ _) ra.ob (fun _ e=>by cases e) ra.Gj (by rw[hw])
       ·obtain e|m:=a0.mp hqq
        ·(try rw[e]);exact G7 _
        ·exact ra.inr qq (aK _ (aK _ m))
       ·simp only[au]at XU⊢;lia
       ·have:=ra.fl;simp only[au]at this;lia
    ·refine gn (show ¬(n:Int)<=(lj (Fr.bin sg op):Nat) by show ¬(n:Int)<=(sg:Nat);lia) ?_;refine out ?_;show (if n<=sg then _ else _)=_;rw[if_neg ZX]
theorem Vg(c:Nat)(w:List Fr)(x:Int):g8 (.un c::w) x=g8 w (unop c x):=by rw[g8]
inductive Fi(P:bD)(w:cP)(ag:dg)(T:Top K mg)(vs:List V)(H:Hp)(Q:VK)(E:XK):Prop
 |mk (x dx tx nu wa:ao) (t:B) (i:Nat) (z:Int) (zs:List Int) (fr:List Fr) (wn:Bool) (_:vs=[.ref x]) (_:RecAt P w ag T H x dx tx nu wa t i (z::zs) fr wn) (_:Ck fr zs) (_:∀H',gI x nu wa H H'->RecAt P w ag T H' x dx tx nu wa t i ((g8 fr z).2::zs) (g8 fr z).1 false->Q .fI H')
theorem lZ:T.fi.Ok P w mg ag iN 3 (Fi P w ag T):=by
 rcases h:T.fi.jG ["self","work"]with⟨x,dx,tx,nu,wa,t,i,z,zs,fr,wn,rfl,ra,ok,k⟩;exists _,(ah (gx cA (PW.pt (pJ (aR (Hz hr.uQ) (aB T.aP T.cz (pv 0)) (cH c9)) (my (aR d9 (c5 D3 (c5 b6 (aB T.aP T.cz (pv 0)) (pK kX aO)) aO) (bC rfl T.j5))))) (ah (bh 1 nd0 (c5 D3 (vf aJ eK eJ q0 (aB T.aP T.cz (pv 0))) aO)) (aj (bx (j0 aJ bI PySem.F.type_list_append fg (aB T.aP T.dU (pv 0)) (p1 (cG T.nT (lY T) hr bq (p1 (DO (pv 1) (hr.mono (show 2<=_ by decide)) bq (p1 (vf aJ eK eJ q0 (aB T.aP T.dU (pv 0))))))))))))) (aj (cD T.aP T.eO (pv 0) vg)));rfl';exists fun m Z H'=>gI x nu wa H H'/\∃z1 PY v1,Z=[some (V.ref x),v1]/\m=PY.length/\RecAt P w ag T H' x dx tx nu wa t i (z1::zs) PY wn/\Ck PY zs/\g8 fr z=g8 PY z1,⟨_,gI.of (bE.refl H),z,fr,none,rfl,rfl,ra,ok,rfl⟩;clear ra ok;intro m Z H1 w_;refine wN fun g_ k_=> ?_;obtain⟨kp,z1,PY,v1,rfl,rfl,ra,ok,es⟩:=w_;obtain⟨EJ,hw,Gu⟩:=ra.XO;have eD:=ra.ob;have Wj:H1 nu=some (.lst (zs.reverse.map V.int++[V.int z1])):=by rw[ra.Gj];simp
 obtain⟨rX,tS,wy⟩:=ra.nx;refine wO k_ ?_;clear k_ g_;have h1:x≠nu:=aD tS;have h2:x≠wa:=aD wy;have h3:=ra.n1;have h4:=aD ra.n1
 have out:∀H2,bE H1 H2->g8 PY z1=(PY,z1)->Q .fI (upd H2 x (.ins T.cv dx (b0 (.ref tx) (.int (i:Nat)) (.ref nu) (.ref wa) (.bl false)))):=fun H2 sm e=>by
  rw[es,e]at k;have Av:gI x nu wa H1 (upd H2 x (.ins T.cv dx (b0 (.ref tx) (.int (i:Nat)) (.ref nu) (.ref wa) (.bl false)))):=fun b u e e1 e2 e3=>(ai e1).trans (sm _ _ e);refine k _ (kp.trans Av) ⟨aq,(ai rX).trans (sm _ _ ra.te),(ai tS).trans (sm _ _ ra.Gj),⟨EJ,(ai wy).trans (sm _ _ hw),Gu.keep Av ra.ob (fun _ e=>by cases e) ra.Gj hw⟩,ra.n1,ra.n2,ra.n3,ra.inr,ra.zl,ra.fl⟩
 cases Gu with
 |nil=>
  replace hw:H1 wa=some (.lst []):=hw;symm;refine⟨aC _,fun p hp=> ?_⟩;clear es;symm;refine gn (by simp) ?_;have:=out _ (aY (o:=.lst []) hp) rfl;rfl'
  all_goals exact this
 | @cons a f as mG ha Iq=>
   replace hw:H1 wa=some (.lst (rv as.reverse++[V.ref a])):=by rw[hw,b8,<-ft]
   obtain⟨g,hq,hg⟩:=ha;symm;refine⟨aC _,fun p hp=> ?_⟩
   have L5:l6 K (upd H1 p (.lst [])) a [.int (lj f:Nat),.ref g]:=by
    obtain hq|hq:=hq
    ·exact hq _
    ·exact .inl (.inl (a9 hq hp))
   clear es;symm;refine gB (by simp) ?_;rfl';exists a,_,0,_,rfl,rfl,L5,rfl;symm;have out:=out _ (aY (o:=.lst []) hp)
   cases f with
   |br=>
    refine gn (show ¬((lj Fr.br:Nat):Int)=11 by decide) ?_;rfl';exact out rfl
   |bin sg op=>
    rcases ok with⟨y,r,e,o1,o2,o3,o4⟩;refine gn (show ¬((lj (Fr.bin sg op):Nat):Int)=11 by show ¬((sg:Nat):Int)=11;lia) ?_;rfl';exact out rfl
   |un c=>
    obtain⟨hc,ok⟩:=ok;refine gB (by rfl) ?_;exists _,fun _ _ h=>h;rfl';refine⟨a,[.int (lj (Fr.un c):Nat),.ref g],1,.ref g,rfl,rfl,?_,rfl,?_⟩
    ·obtain hq|hq:=hq
     ·exact hq _
     ·refine .inl (.inl ?_);(try rw[ai (cE hq hw rfl)])
      exact a9 hq hp
    ·symm;rcases hg with⟨fd,F,hk,hb⟩;have iz:xi z1:=ra.inr z1 aX;exists g,fd,_,_,rfl,F,hk,hb
     have NG:∀o1 o2,gI x nu wa H1 (upd (upd (upd H1 p (.lst [])) wa o1) nu o2):=fun o1 o2 b u e e1 e2 e3=>by
      exact(ai e2).trans ((ai e3).trans (a9 e hp))
     rfl';exists z1,rfl,_,rfl;clear out;symm;have XU:=ra.zl;refine⟨by rw[aN,fP,aT];simp only[au]at XU;lia,_,g7 _,kp.trans (NG _ _),ot (M5 c z1),mG,_,rfl,rfl,?_,ok,?_⟩
     ·refine⟨?_,?_,?_,⟨as,?_,?_⟩,ra.n1,ra.n2,ra.n3,fun qq hqq=> ?_,?_,?_⟩
      ·exact(ai h1).trans ((ai h2).trans (a9 eD hp))
      ·exact(ai (aD ra.n2)).trans ((ai (aD ra.n3)).trans (a9 ra.te hp))
      ·(try rw[aq]);simp
      ·exact(ai h4).trans aq
      ·exact Iq.keep (NG _ _) ra.ob (fun _ e=>by cases e) ra.Gj (by rw[hw])
      ·obtain e|m:=a0.mp hqq
       ·(try rw[e]);exact G7 _
       ·exact ra.inr qq (aK _ m)
      ·rw[au]at XU⊢;exact XU
      ·have:=ra.fl;simp only[au]at this;lia
     ·(try rw[Vg,QD hc iz])
theorem aeK(D:TopD P w T)(c:Nat)(h:vy c=true):∃f,pz P w K (fun _=>none) D.sh (.int (c:Int)) (some (.ref f))/\aaR P w ag T f (.un c):=by
 have key:∀(g:V),fq ([(.inl 45,.ref T.negated.f),(.inl 43,.ref T.unchanged.f),(.inl 33,.ref T.AK.f),(.inl 126,.ref T.turned.f)]:List (Key×V)) (.inl (c:Int))=some g->pz P w K (fun _=>none) D.sh (.int (c:Int)) (some g):=fun g e=>.inl ⟨_,.inl (c:Int),D.D2,rfl,e.symm⟩;unfold vy at h;simp only[aaL,beq_iff_eq]at h;obtain((rfl|rfl)|rfl)|rfl:=h
 ·exact⟨_,key _ rfl,_,(Nt T).mono (by decide),T.negated.F.kp,T.negated.b⟩
 ·exact⟨_,key _ rfl,_,(HC T).mono (by decide),T.unchanged.F.kp,T.unchanged.b⟩
 ·exact⟨_,key _ rfl,_,(Rj T).mono (by decide),T.AK.F.kp,T.AK.b⟩
 ·exact⟨_,key _ rfl,_,(Q8 T).mono (by decide),T.turned.F.kp,T.turned.b⟩
theorem aeJ(D:TopD P w T)(c:Nat)(h:vy c=false):pz P w K (fun _=>none) D.sh (.int (c:Int)) none:=by
 refine .inl ⟨_,.inl (c:Int),D.D2,rfl,?_⟩;unfold vy at h;simp only[Bool.or_eq_false_iff,beq_eq_false_iff_ne]at h;obtain⟨⟨⟨h1,h2⟩,h3⟩,h4⟩:=h;have ne:∀k:Nat,c≠k->¬(jX (k:Int):Key)=jX (c:Int):=fun k hk e=>hk (by have:=LQ e;lia);rw[eC (ne 45 h1),eC (ne 43 h2),eC (ne 33 h3),eC (ne 126 h4)];rfl
theorem pz.int(h:pz P w K H a (.int c) r):pz P w K H' a (.int c) r:=by
 obtain h|⟨_,_,_,_,e,_⟩:=h
 ·exact .inl h
 ·cases e
inductive yN(vs:List V)(H:Hp)(Q:VK)(E:XK):Prop
 |mk (x dx:ao) (a:V) (_:vs=[.ref x,a]) (_:H x=some (.ins T.cv dx [])) (_:∀H' nu wa,(∀b u,H b=some u->b≠x->H' b=some u)->H' x=some (.ins T.cv dx (b0 a (.int 0) (.ref nu) (.ref wa) (.bl true)))->H' nu=some (.lst [])->H' wa=some (.lst [])->nu≠wa->H nu=none->H wa=none->Q .fI H')
theorem ze:T.je.Ok P w mg ag iN 1 (yN T):=by
 rcases h:T.je.jG ["self","text"]with⟨x,dx,a,rfl,hx,k⟩;exists _,(ah (cD T.aP T.eA (pv 0) (pv 1)) (ah (cD T.aP T.cx (pv 0) aO) (ah (cD T.aP T.dU (pv 0) (cH c9)) (ah (cD T.aP T.cz (pv 0) (cH c9)) (aj (cD T.aP T.eO (pv 0) vg))))));symm;refine⟨aC _,fun nu Wj=> ?_⟩;have n1:=(aM Wj).1;have n2:=(aM Wj).2;have n1':=aD n1;symm;refine⟨aC _,fun wa hwa=> ?_⟩;have m1:=(aM hwa).1;have m2:=(aM hwa).2;have m3:=(aM m2).1;have m4:=(aM m2).2;have m1':=aD m1;symm;refine k _ nu wa (fun b u e hb=> ?_) aq ?_ ?_ (aD m3) n2 (aM m4).2
 ·exact(ai hb).trans ((ai (cE e ((aM m4).2) rfl)).trans ((ai hb).trans ((ai (cE e n2 rfl)).trans ((ai hb).trans e))))
 ·exact(ai n1).trans ((ai (aD m3)).trans ((ai n1).trans aq))
 ·exact(ai m1).trans aq
theorem xY{t:B}(hi:i<=t.length):(t.drop i).take (endOf p t i- i)=(t.drop i).takeWhile p:=by
 have e:(t.drop i).takeWhile p++(t.drop i).dropWhile p=t.drop i:=jf;have hl:=congrArg cS e;rw[aF,aL]at hl;have:endOf p t i- i=((t.drop i).takeWhile p).length:=by unfold endOf;omega
 rw[this];have e2:∀a b:B,(a++b).take a.length=a:=fun a b=>List.take_left
 calc (t.drop i).take ((t.drop i).takeWhile p).length=((t.drop i).takeWhile p++(t.drop i).dropWhile p).take ((t.drop i).takeWhile p).length:=by rw[e]
  _=_:=e2 _ _
inductive Df(P:bD)(w:cP)(ag:dg)(T:Top K mg)(vs:List V)(H:Hp)(Q:VK)(E:XK):Prop
 |mk (x dx tx nu wa:ao) (t:B) (i:Nat) (zs:List Int) (fr:List Fr) (c:Nat) (_:vs=[.ref x]) (_:RecAt P w ag T H x dx tx nu wa t i zs fr true) (_:Ck fr zs) (_:t[i]? =some c) (_:t.length<=65536) (_:zs.length<70000) (_:fr.length<70000) (_:(bb c=true->∀H',gI x nu wa H H'->RecAt P w ag T H' x dx tx nu wa t (endOf bb t i) ((g8 fr (iP ((t.drop i).takeWhile bb))).2::zs) (g8 fr (iP ((t.drop i).takeWhile bb))).1 false->Q .fI H')) (_:(c=40->∀H',gI x nu wa H H'->RecAt P w ag T H' x dx tx nu wa t (i+1) zs (.br::fr) true->Q .fI H')) (_:(vy c=true->∀H',gI x nu wa H H'->RecAt P w ag T H' x dx tx nu wa t (i+1) zs (.un c::fr) true->Q .fI H')) (_:(bb c=false->c≠40->vy c=false->∀H',gI x nu wa H H'->E (.ref T.bT) none H'))
theorem nR(D:TopD P w T):T.fz.Ok P w mg ag (jF P w) 4 (Df P w ag T):=by
 rcases h:T.fz.qj ["self","byte","behind"]with⟨x,dx,tx,nu,wa,t,i,zs,fr,c,rfl,ra,ok,hc,zp,ZP,hfl,k1,k2,k3,k4⟩;exists _,(ah (bh 1 nd0 (c5 b6 (aB T.aP T.eA (pv 0)) (aB T.aP T.cx (pv 0)))) (ah (ck (iY (cG T.vx (vk T) hr bq (p1 (pv 1)))) (ah (bh 2 nd0 (cG T.qw (vi T) hr bq (aV (aB T.aP T.eA (pv 0)) (p1 (aB T.aP T.cx (pv 0)))))) (ah (bx (j0 aJ bI PySem.F.type_list_append fg (aB T.aP T.dU (pv 0)) (p1 (cG T.nT (lY T) hr bq (p1 (cG T.lA (pL T) hr bq (p1 (gm ic (aB T.aP T.eA (pv 0)) (d4 (aB T.aP T.cx (pv 0))) (d4 (pv 2)))))))))) (ah (cD T.aP T.cx (pv 0) (pv 2)) (ah (bx (PE.q iX (jI (pv 0) T.aP T.fi.M (lZ T) (hr.mono (by decide)) T.fi.b .nil bq))) (aj vR))))) bQ) (ah (ck (aR d9 (pv 1) (bC rfl T.kj)) (aj (bx (j0 aJ bI PySem.F.type_list_append fg (aB T.aP T.cz (pv 0)) (p1 (Hx (aV (bC rfl T.fS) (p1 (Ci rfl T.unchanged.m)))))))) (aj (ck (Aj (acb (oV hr) rfl D.DZ (pv 1))) (aj (bx (j0 aJ bI PySem.F.type_list_append fg (aB T.aP T.cz (pv 0)) (p1 (Hx (aV (bC rfl T.j5) (p1 (Cg (oV hr) rfl D.DZ (pv 1))))))))) (aj (ff T.fo hr))))) (aj (ek T.aP T.cx (pv 0) aO mF)))));have eD:=ra.ob;have hte:=ra.te;have hg:=jV hc;symm;exists _,rfl;rw[AJ];refine wN fun g_ k_=> ?_;obtain⟨EJ,hw,Gu⟩:=ra.XO;have Wj:=ra.Gj;obtain⟨rX,tS,wy⟩:=ra.nx;refine wO k_ ?_;clear k_ g_;have h1:x≠nu:=aD tS;have h2:x≠wa:=aD wy;have h3:=ra.n1;have h4:=aD ra.n1;have h5:=aD ra.n2;have h6:=aD ra.n3;have hit:i<t.length:=(aw.mp hc).1
 cases hd:bb c with
 |true=>
  have k1:=k1 hd;clear k2 k3 k4;symm;exists tx,t,i,rfl,hte,(by lia);have kJ:=Cs (l:=t) (i:=i) (j:=endOf bb t i);rw[xY (by lia)]at kJ
  have FD:∀d∈(t.drop i).takeWhile bb,48<=d:=fun d hd=>by
   have:=uh.mp (List.all_takeWhile (l:=t.drop i) (p:=bb)) d hd;unfold bb at this;simp at this;exact this.1
  generalize (t.drop i).takeWhile bb=ds at kJ FD k1;generalize endOf bb t i=j at kJ k1;clear hg;symm;intro q hq;exists q,ds,rfl,aq,FD,_,rfl;symm;have hwr:ot ((Eg ds:Int)%18446744073709551616)=iP ds:=by rw[JF,digits_eq]
  (try rw[hwr])
  have NV:xi (iP ds):=Su ds;generalize iP ds=z at NV k1⊢
  have NG:∀o1 o2,gI x nu wa H (upd (upd (upd H q (.lst (iv ds))) nu o1) x o2):=fun o1 o2 b u e e1 e2 e3=>by
   exact(ai e1).trans ((ai e2).trans (a9 e hq))
  exists (by rw[aN,fP,aT];lia);rfl';refine⟨x,dx,tx,nu,wa,t,j,z,zs,fr,true,rfl,⟨aq,?_,?_,⟨EJ,?_,Gu.keep (NG _ _) ra.ob (fun _ e=>by cases e) ra.Gj hw⟩,ra.n1,ra.n2,ra.n3,fun qq hqq=> ?_,ZP,iR hfl⟩,ok,fun H' Av gu=> ?_⟩
  ·exact(ai rX).trans ((ai h5).trans (a9 hte hq))
  ·(try rw[ai tS,aq]);simp
  ·exact(ai wy).trans ((ai h4).trans (a9 hw hq))
  ·obtain e|m:=a0.mp hqq
   ·(try rw[e]);exact NV
   ·exact ra.inr qq m
  ·rfl';exact k1 H' ((NG _ _).trans Av) gu
 |false=>
  clear k1
  have push:∀(p:ao) (f:Fr) (g:ao),H p=none->aaR P w ag T g f->(∀H',gI x nu wa H H'->RecAt P w ag T H' x dx tx nu wa t (i+1) zs (f::fr) true->Q .fI H')->
   Q .fI (upd (upd (upd H p (.tup [.int (lj f:Nat),.ref g])) wa (.lst (rv EJ.reverse++[.ref p]))) x (.ins T.cv dx (b0 (.ref tx) (.int ((i:Int)+1)) (.ref nu) (.ref wa) (.bl true)))):=fun p f g hp hg k=>by
   have NG:gI x nu wa H (upd (upd (upd H p (.tup [.int (lj f:Nat),.ref g])) wa (.lst (rv EJ.reverse++[.ref p]))) x (.ins T.cv dx (b0 (.ref tx) (.int ((i:Int)+1)) (.ref nu) (.ref wa) (.bl true)))):=fun b u e e1 e2 e3=>by
    exact(ai e1).trans ((ai e3).trans (a9 e hp))
   have px:p≠x:=cE hp eD rfl;have pw:p≠wa:=cE hp hw rfl;refine k _ NG ⟨aq,?_,?_,⟨p::EJ,?_,.cons ⟨g,.inr ?_,hg⟩ (Gu.keep NG ra.ob (fun _ e=>by cases e) ra.Gj hw)⟩,ra.n1,ra.n2,ra.n3,ra.inr,ra.zl,hfl⟩
   ·exact(ai rX).trans ((ai h6).trans (a9 hte hp))
   ·exact(ai tS).trans ((ai h3).trans (a9 Wj hp))
   ·(try rw[ai wy,aq,b8,<-ft])
   ·exact(ai px).trans ((ai pw).trans aq)
  have afL:EJ.length=fr.length:=by
   have:∀{as:List ao} {mG:List Fr},FR P w ag T H as mG->as.length=mG.length:=fun h=>by
    induction h with
    |nil=>rfl
    |cons _ _ ih=>rw[au,au,ih]
   exact this Gu
  have hsz:(rv EJ.reverse).length<sizeLine:=by rw[fR,fP,afL,aT];lia
  have k4:=k4 hd;clear hg;symm
  by_cases agj:c=40
  ·refine gB (by lia) ?_;rfl';refine⟨by decide,fun p hp=> ?_⟩;symm;exact push p .br _ hp trivial (k2 agj)
  ·refine gn (by lia) ?_
   cases hu:vy c with
   |true=>
    obtain⟨f,hf,hfn⟩:=aeK (ag:=ag) T D c hu;rfl';exists _,(TM.pz.int hf);refine gB (by rfl) ?_;rfl';refine⟨_,(TM.pz.int hf),by decide,fun p hp=> ?_⟩;symm;exact push p (.un c) f hp hfn (k3 hu)
   |false=>
    rfl';exists _,TM.pz.int (aeJ T D c hu);refine gn (by simp) ?_;exact k4 agj hu H (gI.of (bE.refl H))
def keysOf(ks:List Nat):List Key:=ks.map fun(c:Nat)=>.inl (c:Int)
theorem hX(ks:List Nat):(keysOf ks).map kV=iv ks:=by unfold keysOf iv;rw[gP];rfl
theorem afD(h:¬ks=k):¬keysOf k=keysOf ks:=fun e=>h (by
 have:=congrArg (abB kV) e;rw[hX,hX]at this;exact(V4 this).symm)
inductive S4(P:bD)(w:cP)(ag:dg)(T:Top K mg):List (List Nat×Nat×String)->List (List Key×V)->Prop
 |nil:S4 P w ag T [] []
 |cons {k:List Nat} {n:Nat} {s:String} {v f:ao} {fd:gq} {es:List (List Nat×Nat×String)} {kvs:List (List Key×V)} (q:∀H,l6 K H v [.int (n:Nat),.ref f]) (ok:eR P w K mg ag (jF P w) 2 f fd ["left","right"] (iE T s)) (kp:bW K (.ref f)=true) (bd:Binds K fd ["left","right"] []) (r:S4 P w ag T es kvs):S4 P w ag T ((k,n,s)::es) ((keysOf k,.ref v)::kvs)
theorem S4.get{T:Top K mg}{es:List (List Nat×Nat×String)}{kvs:List (List Key×V)}(h:S4 P w ag T es kvs)(ks:List Nat):
 ((es.find? fun e=>e.1==ks)=none/\none=fq kvs (keysOf ks))\/
 ∃e,(es.find? fun e=>e.1==ks)=some e/\e∈es/\∃v f,some (.ref v)=fq kvs (keysOf ks)/\(∀H,l6 K H v [.int (e.2.1:Nat),.ref f])/\∃fd,eR P w K mg ag (jF P w) 2 f fd ["left","right"] (iE T e.2.2)/\bW K (.ref f)=true/\Binds K fd ["left","right"] []:=by
 induction h with
 |nil=>exact .inl ⟨rfl,rfl⟩
 | @cons k n s v f fd es kvs q ok kp bd r ih=>
   by_cases e:ks=k
   ·subst e;exact .inr ⟨(ks,n,s),List.find?_cons_of_pos (beq_self_eq_true ks),.head _,v,f,(gw (p:=(keysOf ks,V.ref v)) rfl).symm,q,fd,ok,kp,bd⟩
   ·rw[List.find?_cons_of_neg (a:=(k,n,s)) (p:=fun x:List Nat×Nat×String=>x.1==ks) (fun h=>e (eq_of_beq h).symm),eC (p:=(keysOf k,V.ref v)) (afD e)];exact ih.imp id fun⟨e,a,m,z⟩=>⟨e,a,.tail _ m,z⟩
theorem aav(D:TopD P w T):∃t,KdT P w K D.l4 t/\S4 P w ag T lu t:=⟨_,D.Gr,
 .cons D.Ko (eR.lift ((Rg T).mono (by decide))) T.either.F.kp T.either.b<|
 .cons D.U2 (eR.lift ((Zt T).mono (by decide))) T.both.F.kp T.both.b<|
 .cons D.rM (eR.lift ((zb T).mono (by decide))) T.kq.F.kp T.kq.b<|
 .cons D.wW (eR.lift ((DV T).mono (by decide))) T.nX.F.kp T.nX.b<|
 .cons D.vd (eR.lift ((BR T).mono (by decide))) T.mH.F.kp T.mH.b<|
 .cons D.U0 (eR.lift ((Zo T).mono (by decide))) T.same.F.kp T.same.b<|
 .cons D.O6 (eR.lift ((VC T).mono (by decide))) T.other.F.kp T.other.b<|
 .cons D.Gd (eR.lift ((Nv T).mono (by decide))) T.zE.F.kp T.zE.b<|
 .cons D.DD (eR.lift ((KH T).mono (by decide))) T.vI.F.kp T.vI.b<|
 .cons D.O7 (eR.lift ((VF T).mono (by decide))) T.below.F.kp T.below.b<|
 .cons D.O9 (eR.lift ((VH T).mono (by decide))) T.above.F.kp T.above.b<|
 .cons D.yS (eR.lift ((Fu T).mono (by decide))) T.pG.F.kp T.pG.b<|
 .cons D.vc (eR.lift ((BP T).mono (by decide))) T.mw.F.kp T.mw.b<|
 .cons D.O8 (eR.lift ((VG T).mono (by decide))) T.added.F.kp T.added.b<|
 .cons D.yR (eR.lift ((Ft T).mono (by decide))) T.pE.F.kp T.pE.b<|
 .cons D.yT (eR.lift ((Fv T).mono (by decide))) T.pP.F.kp T.pP.b<|
 .cons D.DC ((HD T).mono (by decide)) T.pI.F.kp T.pI.b<|
 .cons D.U1 ((Zp T).mono (by decide)) T.rest.F.kp T.rest.b<| .nil⟩
theorem Qj(D:TopD P w T)(H:Hp)(b:ao)(ks:List Nat)(hb:H b=some (.tup ((keysOf ks).map kV))):
 ((lu.find? fun e=>e.1==ks)=none/\pz P w K H D.l4 (.ref b) none)\/
 ∃e,(lu.find? fun e=>e.1==ks)=some e/\∃v f,pz P w K H D.l4 (.ref b) (some (.ref v))/\(∀H,l6 K H v [.int (e.2.1:Nat),.ref f])/\aaR P w ag T f (.bin e.2.1 e.2.2):=by
 obtain⟨t,kd,bt⟩:=aav (ag:=ag) T D;exact(bt.get ks).imp (fun⟨e1,e2⟩=>⟨e1,.inr ⟨_,_,b,kd,rfl,hb,e2⟩⟩) fun⟨e,e1,em,v,f,e2,q,z⟩=>⟨e,e1,v,f,.inr ⟨_,_,b,kd,rfl,hb,e2⟩,q,⟨e.1,em⟩,z⟩
theorem FR.len{T:Top K mg}{H:Hp}{as:List ao}{mG:List Fr}(h:FR P w ag T H as mG):as.length=mG.length:=by
 induction h with
 |nil=>rfl
 |cons _ _ ih=>rw[au,au,ih]
theorem pH(s:Nat):∀(fr:List Fr) (ns:List Int) (x:Int) (r:List Fr×List Int×Int),settle s fr ns x= .ok r->r.1.length<=fr.length
 |[],_,_,_,h=>by cases h;exact aE _
 | .br::_,_,_,_,h=>by cases h;exact aE _
 | .un _::_,_,_,_,h=>by cases h;exact aE _
 | .bin _ _::_,[],_,_,h=>by cases h;exact aE _
 | .bin t op::w,y::ns,x,r,h=>by
   unfold settle at h
   split at h
   ·cases q:TK op y x with
    |error e2=>rw[q]at h;cases h
    |ok z=>rw[q,cX]at h;exact B5 (pH s w ns z r h)
   ·cases h;exact aE _
theorem YY(D:TopD P w T){H1:Hp}{l:ao}{b:B}{C:V->Hp->Prop}(hl:H1 l=some (.tup (iv (b.take 2))))
 (h:∀l' H2 ks,bE H1 H2->H2 l'=some (.tup (iv ks))->((ks=b.take 2/\(lu.find? fun e=>e.1==b.take 2)≠none)\/(ks=b.take 1/\(lu.find? fun e=>e.1==b.take 2)=none))->C (.ref l') H2):
 ∃o,pz P w K H1 D.l4 (.ref l) o/\if (!o.isSome)=true then(ab2 K (.ref l) none (some 1) H1 C\/ab1 K (.ref l) none (some 1) H1 C)else C (.ref l) H1:=by
 obtain⟨e1,e2⟩|⟨e,e1,v,f,e2,_⟩:=Qj (ag:=default) T D H1 l (b.take 2) (by rw[hX];exact hl)
 ·exists _,e2;rw[if_pos (by rfl)]
  by_cases hb:2<=b.length
  ·refine .inl ⟨l,_,rfl,.inl (.inl hl),?_,fun p hp=>h p _ (b.take 1) (aY hp) ?_ (.inr ⟨rfl,e1⟩)⟩
   ·rw[oI,aQ];intro ⟨_,h2⟩;rw[show (some (1:Int))=some ((1:Nat):Int) from rfl,HT.sZ]at h2;lia
   ·rw[aq,show (some (1:Int))=some ((1:Nat):Int) from rfl,LB,GY];rfl
  ·refine .inr ⟨l,_,rfl,.inl (.inl hl),⟨HT.Dr ..,?_⟩,h l H1 (b.take 1) (bE.refl _) ?_ (.inr ⟨rfl,e1⟩)⟩
   ·rw[oI,aQ,show (some (1:Int))=some ((1:Nat):Int) from rfl,HT.sZ];lia
   ·rw[hl,bA (by lia),bA (by lia)]
 ·exists _,e2;rw[if_neg (by simp)];exact h l H1 _ (bE.refl _) hl (.inl ⟨rfl,by rw[e1];simp⟩)
inductive Hi(P:bD)(w:cP)(ag:dg)(T:Top K mg)(vs:List V)(H:Hp)(Q:VK)(E:XK):Prop
 |mk (x dx tx nu wa:ao) (t:B) (i:Nat) (z:Int) (zs:List Int) (fr:List Fr) (c:Nat) (_:vs=[.ref x]) (_:RecAt P w ag T H x dx tx nu wa t i (z::zs) fr false) (_:Ck fr zs) (_:m9 fr<=10) (_:t[i]? =some c) (_:t.length<=65536) (_:fr.length<70000) (_:(c=41->match settle 1 fr zs z with
  | .error _=>∀H',gI x nu wa H H'->E (.ref T.bT) none H'
  | .ok (.br::Sb,G5,z')=>∀H',gI x nu wa H H'->RecAt P w ag T H' x dx tx nu wa t (i+1) ((g8 Sb z').2::G5) (g8 Sb z').1 false->Q .fI H'
  | .ok _=>∀H',gI x nu wa H H'->E (.ref T.bT) none H')) (_:(c≠41->(∀e,((lu.find? fun e=>e.1==(t.drop i).take 2)=some e\/((lu.find? fun e=>e.1==(t.drop i).take 2)=none/\(lu.find? fun e=>e.1==(t.drop i).take 1)=some e))->match settle e.2.1 fr zs z with
    | .error _=>∀H',gI x nu wa H H'->E (.ref T.bT) none H'
    | .ok (Sb,G5,z')=>∀H',gI x nu wa H H'->RecAt P w ag T H' x dx tx nu wa t (i+e.1.length) (z'::G5) (.bin e.2.1 e.2.2::Sb) true->Q .fI H')/\
  ((lu.find? fun e=>e.1==(t.drop i).take 2)=none->(lu.find? fun e=>e.1==(t.drop i).take 1)=none->∀H',gI x nu wa H H'->E (.ref T.bT) none H')))
theorem pb(D:TopD P w T):T.gh.Ok P w mg ag (jF P w) 4 (Hi P w ag T):=by
 rcases h:T.gh.qj ["self","sign"]with⟨x,dx,tx,nu,wa,t,i,z,zs,fr,c,rfl,ra,ok,tp,hc,zp,hfl,k1,k2⟩;exists _,(ah (ck (aR d9 (c5 b6 (aB T.aP T.eA (pv 0)) (aB T.aP T.cx (pv 0))) (bC rfl T.jK)) (ah (bx (cM (pv 0) T.aP T.jd (kZ T) hr dC (p1 (cu dz (bC rfl T.fS) aO)))) (ah (ck (aR (HA hr.uQ) (aB T.aP T.cz (pv 0)) (cH c9)) (aj (ff T.fo hr)) bQ) (ah (bx (vf aJ eK eJ q0 (aB T.aP T.cz (pv 0)))) (ah (ek T.aP T.cx (pv 0) aO mF) (ah (bx (PE.q iX (jI (pv 0) T.aP T.fi.M (lZ T) (hr.mono (by decide)) T.fi.b .nil bq))) (aj vR)))))) bQ) (ah (bh 1 nd0 (gL gK rfl T.nL (by first|rfl|decide+kernel) (p1 (gm ic (aB T.aP T.eA (pv 0)) (d4 (aB T.aP T.cx (pv 0))) (d4 (cu dz (aB T.aP T.cx (pv 0)) aO)))))) (ah (ck (Aj (Gg (oV hr) rfl D.rT (pv 1))) (aj (bh 1 nd0 (gm YX (pv 1) tD (d4 aO)))) bQ) (ah (ck (Aj (Gg (oV hr) rfl D.rT (pv 1))) (aj (ff T.fo hr)) bQ) (ah (bx (cM (pv 0) T.aP T.jd (kZ T) hr dC (p1 (c5 D3 (Cg (oV hr) rfl D.rT (pv 1)) aO)))) (ah (bx (j0 aJ bI PySem.F.type_list_append fg (aB T.aP T.cz (pv 0)) (p1 (Cg (oV hr) rfl D.rT (pv 1))))) (ah (ek T.aP T.cx (pv 0) (jJ sk rfl T.Bg mY (p1 (pv 1))) mF) (aj (cD T.aP T.eO (pv 0) vg)))))))));have eD:=ra.ob;have hte:=ra.te;have hg:=jV hc;symm
 by_cases xU:c=41
 ·have k1:=k1 xU;clear k2;refine gB (by lia) ?_;rfl';exists x,dx,tx,nu,wa,t,i,z,zs,fr,false,1,rfl,ra,ok,tp,aE _
  cases hs:settle 1 fr zs z with
  |error e=>rw[hs]at k1;exact k1
  |ok r=>
   obtain⟨Sb,G5,z'⟩:=r;obtain⟨t1,t2⟩:=kh 1 (aE _) fr zs z _ ok tp hs;rw[hs]at k1;intro H1 kp dS;obtain⟨EJ,hw,Gu⟩:=dS.XO;have tT:=dS.ob;clear eD hte hg hc;obtain⟨e1,e2⟩|⟨v,e1,e2⟩:=yx t2 t1
   ·dsimp only at e1 e2;subst e1 e2
    cases Gu
    replace hw:H1 wa=some (.lst []):=hw;symm;refine⟨aC _,fun p hp=> ?_⟩;symm;refine gB (by rfl) ?_;exact k1 _ (kp.trans (gI.of (aY hp)))
   ·dsimp only at e1 e2;subst e1
    cases Gu with
    | @cons a f as mG ha Iq=>
    replace hw:H1 wa=some (.lst (rv as.reverse++[V.ref a])):=by rw[hw,b8,<-ft]
    obtain⟨rX,tS,wy⟩:=dS.nx;have h1:x≠nu:=aD tS;have h2:x≠wa:=aD wy;have h3:=dS.n1;have h4:=aD dS.n1;have h5:=aD dS.n2;have h6:=aD dS.n3;symm;refine⟨aC _,fun p hp=> ?_⟩;symm;refine gn (by simp) ?_
    have NG:∀o1 o2,gI x nu wa H1 (upd (upd (upd H1 p (.lst [])) wa o1) x o2):=fun o1 o2 b u e e1 e2 e3=>by
     exact(ai e1).trans ((ai e3).trans (a9 e hp))
    have ajB:=dS.fl;rfl';refine⟨x,dx,tx,nu,wa,t,i+1,z',G5,v,false,rfl,⟨aq,?_,?_,⟨as,?_,Iq.keep (NG _ _) dS.ob (fun _ e=>by cases e) dS.Gj (by rw[hw])⟩,dS.n1,dS.n2,dS.n3,dS.inr,dS.zl,?_⟩,e2,fun H' Av gu=> ?_⟩
    ·exact(ai rX).trans ((ai h6).trans (a9 dS.te hp))
    ·exact(ai tS).trans ((ai h3).trans (a9 dS.Gj hp))
    ·exact(ai wy).trans aq
    ·rw[au]at ajB;lia
    ·rfl';exact k1 H' (kp.trans ((NG _ _).trans Av)) gu
 ·refine gn (by lia) ?_;obtain⟨k2,k3⟩:=k2 xU;clear k1;rfl';intro q hq
  have kJ:lr (iv t) (some (i:Int)) (some ((i:Int)+2))=iv ((t.drop i).take 2):=by
   have:=Cs (l:=t) (i:=i) (j:=i+2);rw[cF]at this;exact this
  (try rw[kJ])
  refine⟨q,_,rfl,.inl ⟨kE.of aq,fun l hl=> ?_⟩⟩;rfl';generalize FG:upd (upd H q (.lst (iv ((t.drop i).take 2)))) l (.tup (iv ((t.drop i).take 2)))=H1;have oQ:bE H H1:=by rw[<-FG];exact bp (aY hq) (aM hl).2
  have L7:H1 l=some (.tup (iv ((t.drop i).take 2))):=(congrFun FG.symm _).trans aq;refine YY T D L7 (fun l2 H2 ks gj wz hks=> ?_);have Fn:bE H H2:=oQ.trans gj;have dS:=ra.same Fn;have tT:=dS.ob;clear eD hte hg hc FG;obtain⟨e1,e2⟩|⟨e,e1,v,f,e2,hv,hf⟩:=Qj (ag:=ag) T D H2 l2 ks (by rw[hX];exact wz)
  ·symm;exists _,e2;refine gB (by rfl) ?_;obtain⟨rfl,h⟩|⟨rfl,h⟩:=hks
   ·exact absurd e1 h
   ·exact k3 h e1 H2 (gI.of Fn)
  ·have k2:=k2 e (by
    obtain⟨rfl,h⟩|⟨rfl,h⟩:=hks
    ·exact .inl e1
    ·exact .inr ⟨h,e1⟩)
   have ajs:=iD e1;have heq:e.1=ks:=by simpa using EY e1
   have hlen:ks.length=e.1.length:=by rw[heq]
   obtain⟨b1,b2,b3,b4,b5⟩:=t8 e ajs;symm;exists _,e2;refine gn (by simp) ?_;rfl';exists _,e2,v,_,0,_,rfl,rfl,hv H2,rfl;exists x,dx,tx,nu,wa,t,i,z,zs,fr,false,e.2.1,rfl,dS,ok,tp,b2
   cases hs:settle e.2.1 fr zs z with
   |error er=>rw[hs]at k2;exact fun H' kp=>k2 H' ((gI.of Fn).trans kp)
   |ok r=>
    obtain⟨Sb,G5,z'⟩:=r;rw[hs]at k2;intro H3 kp3 qX;obtain⟨EJ,hw,Gu⟩:=qX.XO;have ajo:=qX.ob;obtain⟨rX,tS,wy⟩:=qX.nx;have h1:x≠nu:=aD tS;have h2:x≠wa:=aD wy;have h3:=qX.n1;have h6:=aD qX.n3
    have X0:H3 l2=some (.tup (iv ks)):=by
     obtain⟨ak3,hw2,_⟩:=dS.XO;refine kp3 _ _ wz (fun e=> ?_) (fun e=> ?_) (fun e=> ?_)
     ·rw[e,tT]at wz;cases wz
     ·rw[e,dS.Gj]at wz;cases wz
     ·rw[e,hw2]at wz;cases wz
    have alr:l2≠x:=cE X0 ajo rfl;have als:l2≠wa:=cE X0 hw rfl
    have e23:pz P w K H3 D.l4 (.ref l2) (some (.ref v)):=by
     obtain⟨_,kk,_,q,_⟩|⟨kvs,kk,b,q1,q2,q3,q4⟩:=e2
     ·cases kk with
      |inl n=>cases q
      |inr n=>cases q
     ·cases q2
      rw[wz]at q3;exact .inr ⟨kvs,kk,l2,q1,rfl,by rw[X0];exact q3,q4⟩
    clear tT L7 wz;symm;exists _,e23;symm;have Z9:=pH _ _ _ _ _ hs;exists (by rw[fR,fP,Gu.len,aT];dsimp only at Z9;lia);clear Z9;rfl';have Z9:=pH _ _ _ _ _ hs
    have kp4:gI x nu wa H3 (upd (upd H3 wa (.lst (rv EJ.reverse++[V.ref v]))) x (.ins T.cv dx (b0 (.ref tx) (.int ((i:Int)+(e.1.length:Nat))) (.ref nu) (.ref wa) (.bl true)))):=fun b u q e1 e2 e3=>by
     exact(ai e1).trans ((ai e3).trans q)
    refine k2 _ ((gI.of Fn).trans (kp3.trans kp4)) ⟨aq,?_,?_,⟨v::EJ,?_,.cons ⟨f,.inl hv,hf⟩ (Gu.keep kp4 qX.ob (fun _ e=>by cases e) qX.Gj hw)⟩,qX.n1,qX.n2,qX.n3,qX.inr,qX.zl,?_⟩
    ·exact(ai rX).trans ((ai h6).trans qX.te)
    ·exact(ai tS).trans ((ai h3).trans qX.Gj)
    ·(try rw[ai wy,aq,b8,<-ft])
    ·(try rw[au]);dsimp only at Z9;lia
theorem DI:∀(fr:List Fr) (zs:List Int) (x:Int),Ck fr zs->m9 (g8 fr x).1<=10/\Ck (g8 fr x).1 zs/\(g8 fr x).1.length<=fr.length
 |[],_,_,h=>⟨aC _,h,aE _⟩
 | .br::_,_,_,h=>⟨aC _,h,aE _⟩
 | .bin _ _::_,_,_,h=>⟨by obtain⟨_,_,_,_,h,_⟩:=h;exact h,h,aE _⟩
 | .un c::w,zs,x,h=>by
   have:=DI w zs (unop c x) h.2;rw[Vg];exact⟨this.1,this.2.1,B5 this.2.2⟩
theorem va(s:Nat):∀(fr:List Fr) (ns:List Int) (x:Int) (r:List Fr×List Int×Int),settle s fr ns x= .ok r->r.2.1.length<=ns.length
 |[],_,_,_,h=>by cases h;exact aE _
 | .br::_,_,_,_,h=>by cases h;exact aE _
 | .un _::_,_,_,_,h=>by cases h;exact aE _
 | .bin _ _::_,[],_,_,h=>by cases h;exact aE _
 | .bin t op::w,y::ns,x,r,h=>by
   unfold settle at h
   split at h
   ·cases q:TK op y x with
    |error e2=>rw[q]at h;cases h
    |ok z=>rw[q,cX]at h;exact B5 (va s w ns z r h)
   ·cases h;exact aE _
def Read(t:B)(i:Nat)(zs:List Int)(fr:List Fr):Bool->Prop
 |true=>Ck fr zs/\ke t=valN fr zs (t.drop i)
 |false=>∃z r,zs=z::r/\Ck fr r/\m9 fr<=10/\ke t=val fr r 10 z (t.drop i)
theorem Read.blanks(h:Read t i zs fr b):Read t (endOf bS t i) zs fr b:=by
 cases b with
 |true=>exact⟨h.1,by rw[h.2,lO,Mv]⟩
 |false=>
  obtain⟨z,r,e,h1,h2,h3⟩:=h;exact⟨z,r,e,h1,h2,by rw[h3,lO,zY]⟩
theorem AI(t:B)(i:Nat):endOf bS t i=t.length\/∃c,t[endOf bS t i]? =some c/\bS c=false:=by
 have e:=lO (p:=bS) (t:=t) (i:=i);have hl:=lq bS t i
 by_cases h:endOf bS t i=t.length
 ·exact .inl h
 ·refine .inr ?_;obtain⟨c,hc⟩:=k6 (l:=t) (i:=endOf bS t i) (by lia);exists c,hc;rw[aI (by lia),(aw.mp hc).2]at e;have:=IP (t.drop i);rw[<-e,SN]at this
  cases hb:bS c with
  |false=>rfl
  |true=>
   rw[hb,if_pos rfl]at this;have:=congrArg cS this;have h2:=w9 (p:=bS) (t.drop (endOf bS t i+1));rw[au]at this;lia
theorem RecAt.at{T:Top K mg}(r:RecAt P w ag T H x dx tx nu wa t i zs fr wn):RecAt P w ag T (upd H x (.ins T.cv dx (b0 (.ref tx) (.int (j:Nat)) (.ref nu) (.ref wa) (.bl wn)))) x dx tx nu wa t j zs fr wn:=by
 refine wN fun g_ k_=> ?_;obtain⟨h1,h2,h3⟩:=r.nx;obtain⟨EJ,hw,Gu⟩:=r.XO;refine wO k_ ?_;clear k_ g_;have kp:gI x nu wa H (upd H x (.ins T.cv dx (b0 (.ref tx) (.int (j:Nat)) (.ref nu) (.ref wa) (.bl wn)))):=fun b u e e1 _ _=>(ai e1).trans e;exact⟨aq,(ai h1).trans r.te,(ai h2).trans r.Gj,⟨EJ,(ai h3).trans hw,Gu.keep kp r.ob (fun _ e=>by cases e) r.Gj hw⟩,r.n1,r.n2,r.n3,r.inr,r.zl,r.fl⟩
inductive J4(P:bD)(w:cP)(ag:dg)(T:Top K mg)(vs:List V)(H:Hp)(Q:VK)(E:XK):Prop
 |mk (x dx tx nu wa:ao) (t:B) (_:vs=[.ref x]) (_:RecAt P w ag T H x dx tx nu wa t 0 [] [] true) (_:t.length<=65536) (_:match ke t with
 | .error _=>∀H',gI x nu wa H H'->E (.ref T.bT) none H'
 | .ok z=>∀H',gI x nu wa H H'->xi z->Q (.int z) H')
theorem uv(D:TopD P w T):T.jC.Ok P w mg ag (jF P w) 5 (J4 P w ag T):=by
 rcases h:T.jC.qj ["self"]with⟨x,dx,tx,nu,wa,t,rfl,ra,zp,k⟩;exists _,(ah (cD T.aP T.cx (pv 0) (cG T.nP (pM T) hr bq (aV (aB T.aP T.eA (pv 0)) (p1 aO)))) (ah (gx fm (aR ki (aB T.aP T.cx (pv 0)) (cL T (aB T.aP T.eA (pv 0)))) (ah (ck (iY (aB T.aP T.eO (pv 0))) (aj (bx (PE.q iX (jI (pv 0) T.aP T.fz.M (nR T D) (hr.mono (by decide)) T.fz.b .nil dC)))) (aj (bx (PE.q iX (jI (pv 0) T.aP T.gh.M (pb T D) (hr.mono (by decide)) T.gh.b .nil dC))))) (aj (cD T.aP T.cx (pv 0) (cG T.nP (pM T) hr bq (aV (aB T.aP T.eA (pv 0)) (p1 (aB T.aP T.cx (pv 0))))))))) (ah (ck (iY (aB T.aP T.eO (pv 0))) (aj (ff T.fo hr)) bQ) (ah (bx (cM (pv 0) T.aP T.jd (kZ T) hr dC (p1 (cu dz (bC rfl T.fS) aO)))) (ah (ck (aR (Hz hr.uQ) (aB T.aP T.cz (pv 0)) (cH c9)) (aj (ff T.fo hr)) bQ) (aj (a6 (c5 b6 (aB T.aP T.dU (pv 0)) (pK kX aO)))))))));have eD:=ra.ob;symm;exists tx,t,0,rfl,ra.te,aC _;symm
 refine⟨fun m Z H'=>gI x nu wa H H'/\Z=[some (V.ref x)]/\∃i zs fr wn,m=t.length- i/\RecAt P w ag T H' x dx tx nu wa t i zs fr wn/\i<=t.length/\(i=t.length\/∃c,t[i]? =some c/\bS c=false)/\zs.length<=i/\fr.length<=i/\Read t i zs fr wn,
  ⟨_,fun b u e e1 _ _=>(ai e1).trans e,rfl,_,[],[],true,rfl,ra.at,lq _ _ _,AI t 0,aC _,aC _,Read.blanks (b:=true) ⟨rfl,by rw[W5];rfl⟩⟩,?_⟩
 clear eD ra;intro m Z H1 w_;rcases w_ with⟨kp,rfl,i,zs,fr,wn,rfl,ra,hi,K7,ZP,hfl,rd⟩;have eD:=ra.ob;have hte:=ra.te;symm
 by_cases iB:i<t.length
 ·refine gB (by lia) ?_;exists _,fun _ _ h=>h
  obtain⟨c,hc,B0⟩:∃c,t[i]? =some c/\bS c=false:=by
   obtain h|h:=K7
   ·lia
   ·exact h
  have oW:t.drop i=c::t.drop (i+1):=by rw[aI iB,(aw.mp hc).2]
  have err:ke t= .error 2->∀H',gI x nu wa H1 H'->E (.ref T.bT) none H':=fun e H' kp'=>by
   rw[e]at k;exact k H' (kp.trans kp')
  cases wn with
  |true=>
   obtain⟨ok,ev⟩:=rd;rw[oW]at ev;rfl';refine⟨x,dx,tx,nu,wa,t,i,zs,fr,c,rfl,ra,ok,hc,zp,by lia,by lia,fun hd H2 Av gu=> ?_,fun IA H2 Av gu=> ?_,fun hu H2 Av gu=> ?_,fun hd IA hu=>err (by rw[ev,YD hu hd IA B0])⟩
   ·rw[Mu hd,zX,<-oW]at ev;obtain⟨p1,p2,p3⟩:=DI fr zs (iP ((t.drop i).takeWhile bb)) ok
    have hj1:i+1<=endOf bb t i:=by
     (try rw[<-tX hc hd]);exact r6 iB
    have EM:=lq bb t i;have ev2:ke t=val (g8 fr (iP ((t.drop i).takeWhile bb))).1 zs 10 (g8 fr (iP ((t.drop i).takeWhile bb))).2 (t.drop (endOf bb t i)):=by rw[lO];exact ev
    generalize endOf bb t i=j at hj1 EM gu ev2;generalize iP ((t.drop i).takeWhile bb)=d at gu ev2 p1 p2 p3;have ZO:((g8 fr d).2::zs).length<=j:=by rw[au];lia
    have Tc:(g8 fr d).1.length<=j:=by lia
    have XX:Read t j ((g8 fr d).2::zs) (g8 fr d).1 false:=⟨_,_,rfl,p2,p1,ev2⟩;clear ev ev2 oW hc K7;have ZC:=kp.trans Av;have K5:=gu.ob;clear eD;symm;exists tx,t,j,rfl,gu.te,EM;symm;have L8:=r6 (p:=bS) (t:=t) (i:=j) EM;exact⟨_,by have:=hj1;omega,ZC.trans (fun b u e e1 _ _=>(ai e1).trans e),_,_,_,_,rfl,gu.at,lq _ _ _,AI t _,cj ZO L8,cj Tc L8,Read.blanks XX⟩
   ·subst IA;rw[YE]at ev;have ZO:zs.length<=i+1:=by lia
    have Tc:(Fr.br::fr).length<=i+1:=by rw[au];lia
    have XX:Read t (i+1) zs (.br::fr) true:=⟨ok,ev⟩;clear ev oW hc K7;have ZC:=kp.trans Av;have K5:=gu.ob;clear eD;symm;exists tx,t,(i+1),rfl,gu.te,iB;symm;have L8:=r6 (p:=bS) (t:=t) (i:=(i+1)) iB;exact⟨_,by have:=iB;omega,ZC.trans (fun b u e e1 _ _=>(ai e1).trans e),_,_,_,_,rfl,gu.at,lq _ _ _,AI t _,cj ZO L8,cj Tc L8,Read.blanks XX⟩
   ·rw[YC hu]at ev;have ZO:zs.length<=i+1:=by lia
    have Tc:(Fr.un c::fr).length<=i+1:=by rw[au];lia
    have XX:Read t (i+1) zs (.un c::fr) true:=⟨⟨hu,ok⟩,ev⟩;clear ev oW hc K7;have ZC:=kp.trans Av;have K5:=gu.ob;clear eD;symm;exists tx,t,(i+1),rfl,gu.te,iB;symm;have L8:=r6 (p:=bS) (t:=t) (i:=(i+1)) iB;exact⟨_,by have:=iB;omega,ZC.trans (fun b u e e1 _ _=>(ai e1).trans e),_,_,_,_,rfl,gu.at,lq _ _ _,AI t _,cj ZO L8,cj Tc L8,Read.blanks XX⟩
  |false=>
   rcases rd with⟨z,r,rfl,ok,tp,ev⟩;rw[oW]at ev;rfl';rw[au]at ZP;refine⟨x,dx,tx,nu,wa,t,i,z,r,fr,c,rfl,ra,ok,tp,hc,zp,by lia,fun xU=> ?_,fun xU=>⟨fun e he=> ?_,fun n1 n2=> ?_⟩⟩
   ·subst xU;rw[QB ok tp]at ev
    cases hs:settle 1 fr r z with
    |error er=>rw[hs,vH,sX 1 fr r z er hs]at ev;exact err ev
    |ok q=>
     refine wN fun g_ k_=> ?_;obtain⟨t1,t2⟩:=kh 1 (aE _) fr r z _ ok tp hs;have L7:=pH _ _ _ _ _ hs;have wz:=va _ _ _ _ _ hs;obtain⟨Sb,G5,z'⟩:=q;refine wO k_ ?_;clear k_ g_;rw[hs,cX]at ev;dsimp only at t1 t2 L7 wz ev;obtain⟨rfl,rfl⟩|⟨v,rfl,okv⟩:=yx t2 t1
     ·exact err ev
     ·intro H2 Av gu;have ev:ke t=val v G5 10 z' (t.drop (i+1)):=ev;rw[zX]at ev;obtain⟨p1,p2,p3⟩:=DI v G5 z' okv;rw[au]at L7;have ZO:((g8 v z').2::G5).length<=i+1:=by rw[au];lia
      have Tc:(g8 v z').1.length<=i+1:=by lia
      have XX:Read t (i+1) ((g8 v z').2::G5) (g8 v z').1 false:=⟨_,_,rfl,p2,p1,ev⟩;clear ev oW hc K7 hs;have ZC:=kp.trans Av;have K5:=gu.ob;clear eD;symm;exists tx,t,(i+1),rfl,gu.te,iB;symm;have L8:=r6 (p:=bS) (t:=t) (i:=(i+1)) iB;exact⟨_,by have:=iB;omega,ZC.trans (fun b u e e1 _ _=>(ai e1).trans e),_,_,_,_,rfl,gu.at,lq _ _ _,AI t _,cj ZO L8,cj Tc L8,Read.blanks XX⟩
   ·have hb:(t.drop i).dropWhile bS=t.drop i:=by rw[oW];exact bH (by rw[B0];decide)
    rw[<-oW]at ev;refine wN fun g_ k_=> ?_
    obtain⟨o,htk⟩:aaP (t.drop i) e/\(t.drop i).take e.1.length=e.1:=by
     obtain⟨e',_,o,htk,hf⟩|⟨q1,q2,_⟩:=Cj (t.drop i)
     ·have:e'=e:=by
       obtain hf|⟨hf1,hf2⟩:=hf
       ·obtain he|⟨he1,_⟩:=he
        ·rw[hf]at he;exact bo he
        ·rw[hf]at he1;cases he1
       ·obtain he|⟨_,he2⟩:=he
        ·rw[hf1]at he;cases he
        ·rw[hf2]at he2;exact bo he2
      subst this;exact⟨o,htk⟩
     ·obtain he|⟨_,he2⟩:=he
      ·rw[q1]at he;cases he
      ·rw[q2]at he2;cases he2
    obtain⟨b1,b2,b3,b4,b5⟩:=t8 e o.mem;refine wO k_ ?_;clear k_ g_
    have hel:i+e.1.length<=t.length:=by
     have:=congrArg cS htk;rw[aQ,aL]at this;lia
    rw[abL hb o ok tp]at ev
    cases hs:settle e.2.1 fr r z with
    |error er=>rw[hs,vH,sX _ fr r z er hs]at ev;exact err ev
    |ok q=>
     refine wN fun g_ k_=> ?_;obtain⟨t1,t2⟩:=kh _ b2 fr r z _ ok tp hs;have L7:=pH _ _ _ _ _ hs;have wz:=va _ _ _ _ _ hs;obtain⟨Sb,G5,z'⟩:=q;refine wO k_ ?_;clear k_ g_;rw[hs,cX,jv]at ev;dsimp only at t1 t2 L7 wz ev;intro H2 Av gu;have ZO:(z'::G5).length<=i+e.1.length:=by rw[au];lia
     have Tc:(Fr.bin e.2.1 e.2.2::Sb).length<=i+e.1.length:=by rw[au];lia
     have XX:Read t (i+e.1.length) (z'::G5) (.bin e.2.1 e.2.2::Sb) true:=⟨⟨z',G5,rfl,t1,b3,⟨e.1,o.mem⟩,t2⟩,ev⟩;have ajt:i<i+e.1.length:=by lia
     clear ev oW hc K7 hs hb;generalize hjj:i+e.1.length=j at*;have ZC:=kp.trans Av;have K5:=gu.ob;clear eD;symm;exists tx,t,j,rfl,gu.te,hel;symm;have L8:=r6 (p:=bS) (t:=t) (i:=j) hel;exact⟨_,by have:=ajt;lia,ZC.trans (fun b u e e1 _ _=>(ai e1).trans e),_,_,_,_,rfl,gu.at,lq _ _ _,AI t _,cj ZO L8,cj Tc L8,Read.blanks XX⟩
   ·obtain⟨e',_,o,htk,hf⟩|⟨_,_,h⟩:=Cj (t.drop i)
    ·exfalso;obtain hf|⟨_,hf⟩:=hf
     ·rw[n1]at hf;cases hf
     ·rw[n2]at hf;cases hf
    ·rw[oW]at h;rw[YB h xU B0 ok tp]at ev;exact err ev
 ·refine gn (by lia) ?_;have hi':i=t.length:=by lia
  have Im:t.drop i=[]:=bF (by lia)
  cases wn with
  |true=>
   obtain⟨ok,ev⟩:=rd;rw[Im,T9]at ev;rw[ev]at k;symm
  |false=>
   rcases rd with⟨z,r,rfl,ok,tp,ev⟩;rw[Im,YA ok tp]at ev;clear Im K7 hi';symm;exists x,dx,tx,nu,wa,t,i,z,r,fr,false,1,rfl,ra,ok,tp,aE _
   cases hs:settle 1 fr r z with
   |error e=>
    rw[hs,vH]at ev;rw[ev]at k;exact fun H' Av=>k H' (kp.trans Av)
   |ok q=>
    obtain⟨Sb,G5,z'⟩:=q;rw[hs,cX]at ev;intro H2 Av gu;obtain⟨EJ,hw,Gu⟩:=gu.XO;have K5:=gu.ob;have Wj:H2 nu=some (.lst (G5.reverse.map V.int++[V.int z'])):=by rw[gu.Gj];simp
    have NV:xi z':=gu.inr z' aX;clear eD hte
    cases Gu with
    |nil=>
     replace hw:H2 wa=some (.lst []):=hw;have ev:ke t= .ok z':=ev;rw[ev]at k;clear ev hs;symm;refine⟨aC _,fun p hp=> ?_⟩;symm;refine gn (by simp) ?_;rfl';exact k _ (kp.trans (Av.trans (gI.of (aY hp)))) NV
    | @cons a f as mG ha Iq=>
      replace hw:H2 wa=some (.lst (rv as.reverse++[V.ref a])):=by rw[hw,b8,<-ft]
      have ev:ke t= .error 2:=ev;rw[ev]at k;clear ev hs;symm;refine⟨aC _,fun p hp=> ?_⟩;symm;refine gB (by simp) ?_;exact k _ (kp.trans (Av.trans (gI.of (aY hp))))
inductive Fe(T:Top K mg)(vs:List V)(H:Hp)(Q:VK)(E:XK):Prop
 |mk (a:ao) (t:B) (_:vs=[.ref a]) (_:H a=some (.lst (iv t))) (_:t.length<=65536) (_:match ke t with
 | .error _=>∀H',bE H H'->E (.ref T.bT) none H'
 | .ok z=>∀H',bE H H'->xi z->Q (.int z) H')
theorem Fs(D:TopD P w T):T.xl.Ok P w mg ag (jF P w) 6 (Fe T):=by
 rcases h:T.xl.qj ["text"]with⟨a,t,rfl,ha,zp,k⟩;exists _,(aj (a6 (PE.q iX (jI (mz T.Je (ze T) (hr.mono (by decide)) rfl T.HK T.je.b .nil bq (p1 (pv 0))) T.aP T.jC.M (uv T D) (hr.mono (by decide)) T.jC.b .nil dC))));symm;intro x dx hx sJ vW;refine⟨x,dx,_,rfl,aq,fun H1 nu wa kp eD Wj hwa hnw nn nw=>⟨rfl,?_⟩⟩;have hx':=(aM (aM nn).2);have n1:=(aM nn).1;have n2:=(aM (aM nn).2).2;have w1:=(aM nw).1;have w2:=(aM (aM nw).2).2;have sm:bE H H1:=fun b u e=>kp b u ((ai (bO hx e)).trans ((ai (bO sJ e)).trans e)) (bO hx e);have Gv:=sm _ _ ha;symm;have na:nu≠a:=cE n2 ha rfl;have wn:wa≠a:=cE w2 ha rfl;have fin:∀H',gI x nu wa H1 H'->bE H H':=fun H' Av b u e=>Av b u (sm b u e) (bO hx e) (bO n2 e) (bO w2 e);exists x,dx,a,nu,wa,t,rfl,⟨eD,Gv,Wj,⟨[],hwa,.nil⟩,hnw,na,wn,fun _ h=>absurd h dh,aC _,aC _⟩,zp
 split
 ·rename_i e he;rw[he]at k;exact fun H' Av=>k H' (fin H' Av)
 ·rename_i z he;rw[he]at k;exact fun H' Av hz=>k H' (fin H' Av) hz
inductive Tag where
 |jL
 |names
 |dict
 |stack (n:B)
 |sys
 |texts
 |aside (k:Nat)
 |src
 |row
 |run
 |written
 |calls
 |call (i:Nat)
 |args (i:Nat)
 |now (i:Nat)
 |told
deriving DecidableEq
instance:Kd Tag:=⟨Tag.ctorIdx⟩
abbrev iC:=ao->Option Tag
def Dm(Y:iC)(H:Hp):Prop:=∀b,H b=none->Y b=none
structure aZ(M:Tag->Prop)(Y:iC)(H:Hp)(Y':iC)(H':Hp):Prop where
 tag:∀b r,Y b=some r->¬M r->Y' b=some r
 obj:∀b r u,Y b=some r->¬M r->H b=some u->H' b=some u
 dm:Dm Y' H'
theorem Dm.same(d:Dm Y H)(s:bE H H'):Dm Y H':=fun b h=>d b (TM.bE.none s h)
theorem aZ.same(d:Dm Y H)(s:bE H H'):aZ M Y H Y H':=⟨fun _ _ e _=>e,fun _ _ _ _ _ e=>s _ _ e,d.same s⟩
theorem aZ.trans(f:aZ M Y H Y1 H1)(g:aZ M Y1 H1 Y2 H2):aZ M Y H Y2 H2:=
 ⟨fun b r e n=>g.tag b r (f.tag b r e n) n,fun b r u e n h=>g.obj b r u (f.tag b r e n) n (f.obj b r u e n h),g.dm⟩
theorem aZ.mono(f:aZ M Y H Y1 H1)(h:∀r,M r->N r):aZ N Y H Y1 H1:=
 ⟨fun b r e n=>f.tag b r e (fun m=>n (h r m)),fun b r u e n=>f.obj b r u e (fun m=>n (h r m)),f.dm⟩
def la(T:Top K mg)(Y:iC)(H:Hp)(m:ao)(d:dj):Prop:=Y m=some .jL/\∃(dm tx:ao) (wd:Str) (t:B),H m=some (.ins T.dr dm (eN (.str wd) (.ref tx)))/\Y tx=some .jL/\H tx=some (.lst (iv t))/\
 match d with
 | .text b=>wd=""/\t=b
 | .built b=>b≠[]/\wd.cps.toList=b/\t=[]
theorem la.fr{T:Top K mg}{M:Tag->Prop}{Y Y':iC}{H H':Hp}{m:ao}{d:dj}(h:la T Y H m d)(f:aZ M Y H Y' H')(n:¬M .jL):la T Y' H' m d:=by
 obtain⟨h1,dm,tx,wd,t,h2,h3,h4,h5⟩:=h;exact⟨f.tag _ _ h1 n,dm,tx,wd,t,f.obj _ _ _ h1 n h2,f.tag _ _ h3 n,f.obj _ _ _ h3 n h4,h5⟩
theorem la.len{T:Top K mg}(h:la T Y H m d):∃(dm tx:ao) (wd:Str) (t:B),H m=some (.ins T.dr dm (eN (.str wd) (.ref tx)))/\H tx=some (.lst (iv t))/\t.length=cW d:=by
 obtain⟨_,dm,tx,wd,t,h2,_,h4,h5⟩:=h;exists dm,tx,wd,t,h2,h4
 cases d with
 |text b=>rw[h5.2];rfl
 |built b=>rw[h5.2.2];rfl
inductive BM(vs:List V)(H:Hp)(Q:VK)(E:XK):Prop
 |mk (x dx:ao) (o c:V) (_:vs=[.ref x,o,c]) (_:H x=some (.ins T.dr dx [])) (_:Q .fI (upd H x (.ins T.dr dx (eN o c))))
theorem oG:T.iA.Ok P w mg ag iN 1 (BM T):=by
 rcases h:T.iA.jG ["self","word","text"]with⟨x,dx,o,c,rfl,hx,k⟩;exists _,(ah (cD T.fX T.jb (pv 0) (pv 1)) (aj (cD T.fX T.kx (pv 0) (pv 2))));symm
inductive QN(vs:List V)(H:Hp)(Q:VK)(E:XK):Prop
 |mk (b m dm tx:ao) (wd:V) (n t:B) (_:vs=[.ref b,.ref m]) (_:H b=some (.tup (iv n))) (_:H m=some (.ins T.dr dm (eN wd (.ref tx)))) (_:H tx=some (.lst (iv t))) (_:Q (.int ((n.length+t.length+16:Nat):Int)) H)
theorem vS:T.weight.Ok P w mg ag iN 1 (QN T):=by
 rcases h:T.weight.jG ["name","meaning"]with⟨b,m,dm,tx,wd,n,t,rfl,hb,hm,ht,k⟩;exists _,(aj (a6 (cu dz (cu dz (jJ sk rfl T.Bg mY (p1 (pv 0))) (cL T (aB T.fX T.kx (pv 1)))) (bC rfl T.HY))));symm;exact k
inductive Fl(vs:List V)(H:Hp)(Q:VK)(E:XK):Prop
 |mk (x dx:ao) (_:vs=[.ref x]) (_:H x=some (.ins T.eF dx [])) (_:∀d,H d=none->Q .fI (upd (upd H d (.dT [])) x (.ins T.eF dx (fNames (.ref d) (.int 0)))))
theorem Fx:T.nH.Ok P w mg ag iN 1 (Fl T):=by
 rcases h:T.nH.jG ["self"]with⟨x,dx,rfl,hx,k⟩;exists _,(ah (cD T.dJ T.gM (pv 0) Vn) (aj (cD T.dJ T.mJ (pv 0) aO)));symm;intro d hd;symm
inductive Hn(vs:List V)(H:Hp)(Q:VK)(E:XK):Prop
 |mk (x dx d:ao) (n more:Int) (_:vs=[.ref x,.int more]) (_:H x=some (.ins T.eF dx (fNames (.ref d) (.int n)))) (_:if 65536<n+more then E (.ref T.c7) none H else Q .fI H)
theorem pO:T.lI.Ok P w mg ag (jF P w) 1 (Hn T):=by
 rcases h:T.lI.qj ["self","more"]with⟨x,dx,d,n,more,rfl,hx,k⟩;exists _,(aj (ck (aR qy (cu dz (aB T.dJ T.mJ (pv 0)) (pv 1)) (bC rfl T.mE)) (aj (ff T.hW hr)) bQ));symm
inductive Jf(T:Top K mg)(Y:iC)(H:Hp):List ao->List dj->Prop where
 |nil:Jf T Y H [] []
 |cons {m:ao} {d:dj} {ms:List ao} {ds:List dj}:la T Y H m d->Jf T Y H ms ds->Jf T Y H (m::ms) (d::ds)
theorem Jf.fr{T:Top K mg}{M:Tag->Prop}{Y Y':iC}{H H':Hp}{ms:List ao}{ds:List dj}(h:Jf T Y H ms ds)(f:aZ M Y H Y' H')(n:¬M .jL):Jf T Y' H' ms ds:=by
 induction h with
 |nil=>exact .nil
 |cons a _ ih=>exact .cons (a.fr f n) ih
def EA(T:Top K mg)(Y:iC)(H:Hp)(kvs:List (List Key×V))(n:B):List dj->Prop
 |[]=>fq kvs (keysOf n)=none
 |ds=>∃st ms,fq kvs (keysOf n)=some (.ref st)/\Y st=some (.stack n)/\H st=some (.lst (rv ms.reverse))/\Jf T Y H ms ds
structure eG(T:Top K mg)(Y:iC)(H:Hp)(x dx d:ao)(kvs:List (List Key×V))(defs:List (B×dj)):Prop where
 tg:Y x=some .names
 ob:H x=some (.ins T.eF dx (fNames (.ref d) (.int (ba defs:Nat))))
 td:Y d=some .dict
 dt:H d=some (.dT kvs)
 st:∀n,EA T Y H kvs n (pA defs n)
 nd:(kvs.map (·.1)).Nodup
 ky:∀k∈kvs.map (·.1),∃n,k=keysOf n/\pA defs n≠[]
 Oe:ba defs<=65536
inductive QS(vs:List V)(H:Hp)(Q:VK)(E:XK):Prop
 |mk (Y:iC) (x dx d b:ao) (kvs:List (List Key×V)) (defs:List (B×dj)) (n:B) (_:vs=[.ref x,.ref b]) (_:eG T Y H x dx d kvs defs) (_:H b=some (.tup (iv n))) (_:match pA defs n with
 |[]=>Q .fI H
 |df::_=>∀m,la T Y H m df->Q (.ref m) H)
theorem oF:T.mU.Ok P w mg ag iN 1 (QS T):=by
 rcases h:T.mU.jG ["self","name","stack"]with⟨Y,x,dx,d,b,kvs,defs,n,rfl,na,hb,k⟩;exists _,(ah (bh 2 nd0 (DN (oV hr) (aB T.dJ T.gM (pv 0)) (pv 1) ⟨rfl,rfl,rfl,rfl⟩)) (aj (a6 (ll (aR xG (pv 2) qY) qY (c5 b6 (pv 2) (pK kX aO))))));have eD:=na.ob;have nA:=na.st n;have Te:H b=some (.tup ((keysOf n).map kV)):=by rw[hX];exact hb
 clear hb;symm;exists .inr ⟨kvs,.inl na.dt⟩,_,sH.t na.dt Te
 cases hs:pA defs n with
 |nil=>
  rw[hs]at k nA;rfl';(try rw[show fq kvs (keysOf n)=none from nA])
  symm
 |cons df ds=>
  rw[hs]at k nA;obtain⟨st,ms,e1,e2,e3,e4⟩:=nA
  cases e4 with
  | @cons m _ ms' _ hm _=>
  rw[b8,<-ft]at e3;rfl';(try rw[e1])
  symm
def NM(r:Tag):Prop:=r= .names\/r= .dict\/∃n,r= .stack n
theorem iZ:¬NM .jL:=by rintro(h|h|⟨n,h⟩)<;>cases h
theorem DX{α:Type}[DecidableEq α]:∀(l m:List α),l.Nodup->(∀x∈l,x∈m)->l.length<=m.length
 |[],_,_,_=>aC _
 |x::l,m,h,s=>by
  rw[fe]at h;have hx:=s x aX;have ih:=DX l (m.erase x) h.2 fun y hy=>(List.mem_erase_of_ne (fun e=>h.1 (by rw[<-e];exact hy))).mpr (s y (aK _ hy));rw[List.length_erase_of_mem hx]at ih;have:=List.length_pos_of_mem hx;rw[au];omega
theorem K1(defs:List (B×dj)):16*defs.length<=ba defs:=by
 induction defs with
 |nil=>exact aC _
 |cons x l ih=>rw[kept_cons,au];unfold wt;lia
theorem D0{a b:B}(h:keysOf a=keysOf b):a=b:=by
 have:=congrArg (abB kV) h;rw[hX,hX]at this;exact V4 this
theorem YQ{defs:List (B×dj)}(h:pA defs n≠[]):n∈defs.map (·.1):=by
 unfold pA at h;have:(defs.filter fun x=>x.1==n)≠[]:=fun e=>h (by rw[e];rfl);obtain⟨x,hx⟩:=List.exists_mem_of_ne_nil _ this;obtain⟨h1,h2⟩:=mf.mp hx;have e:x.1=n:=by simpa using h2
 rw[<-e];exact jl h1
theorem eG.small{T:Top K mg}{Y:iC}{H:Hp}{x dx d:ao}{kvs:List (List Key×V)}{defs:List (B×dj)}(h:eG T Y H x dx d kvs defs):kvs.length<sizeLine:=by
 have h1:=DX (kvs.map (·.1)) ((defs.map (·.1)).map keysOf) h.nd fun k hk=>by
  rcases h.ky k hk with⟨n,rfl,hn⟩;exact jl (YQ hn)
 rw[aN,aN,aN]at h1;have h2:=K1 defs;have h3:=h.Oe;rw[aT];lia
theorem EA.move{T:Top K mg}{Y Y':iC}{H H':Hp}{kvs uw:List (List Key×V)}{n:B}{ds:List dj}(h:EA T Y H kvs n ds)(hv:fq uw (keysOf n)=fq kvs (keysOf n))(ht:∀q,Y q=some (.stack n)->Y' q=some (.stack n))
 (ho:∀q u,Y q=some (.stack n)->H q=some u->H' q=some u) (f:aZ NM Y H Y' H'):EA T Y' H' uw n ds:=by
 cases ds with
 |nil=>exact hv.trans h
 |cons d0 ds=>
  obtain⟨st,ms,e1,e2,e3,e4⟩:=h;exact⟨st,ms,hv.trans e1,ht _ e2,ho _ _ e2 e3,e4.fr f iZ⟩
theorem Jf.len{T:Top K mg}{Y:iC}{H:Hp}{ms:List ao}{ds:List dj}(h:Jf T Y H ms ds):ms.length=ds.length:=by
 induction h with
 |nil=>rfl
 |cons _ _ ih=>rw[au,au,ih]
theorem YR(defs:List (B×dj))(n:B):(pA defs n).length<=defs.length:=by
 unfold pA;rw[aN];exact OF _ _
inductive YS(vs:List V)(H:Hp)(Q:VK)(E:XK):Prop
 |mk (Y:iC) (x dx d b m:ao) (kvs:List (List Key×V)) (defs:List (B×dj)) (n:B) (df:dj) (_:vs=[.ref x,.ref b,.ref m]) (_:eG T Y H x dx d kvs defs) (_:H b=some (.tup (iv n))) (_:la T Y H m df) (_:Dm Y H) (_:if 65536<ba ((n,df)::defs)then E (.ref T.c7) none H else ∀Y' H' uw,aZ NM Y H Y' H'->eG T Y' H' x dx d uw ((n,df)::defs)->Q .fI H')
theorem qZ:T.qb.Ok P w mg ag (jF P w) 2 (YS T):=by
 rcases h:T.qb.qj ["self","name","meaning","more"]with⟨Y,x,dx,d,b,m,kvs,defs,n,df,rfl,na,hb,hm,lN,k⟩;exists _,(ah (bh 3 nd0 (cG T.weight (vS T) hr bq (aV (pv 1) (p1 (pv 2))))) (ah (bx (cM (pv 0) T.dJ T.lI (pO T) hr dC (p1 (pv 3)))) (ah (bx (j0 aJ bI PySem.F.type_list_append fg (Vl (oV hr) (aB T.dJ T.gM (pv 0)) (pv 1) (cH c9) ⟨rfl,rfl,rfl,rfl⟩) (p1 (pv 2)))) (aj (ek T.dJ T.mJ (pv 0) (pv 3) mF)))));have eD:=na.ob;have vY:=na.dt;rcases hm.len with⟨dm,tx,wd,t,EL,S9,D6⟩;symm;exists b,m,dm,tx,_,n,t,rfl,hb,EL,S9;have hw:n.length+t.length+16=wt (n,df):=by unfold wt;rw[D6]
 rw[hw];rw[kept_cons]at k;clear hw;symm;exists x,dx,d,_,_,rfl,eD
 by_cases iH:65536<wt (n,df)+ba defs
 ·rw[if_pos iH]at k;refine gB (by omega) ?_;exact k
 ·rw[if_neg iH]at k;refine gn (by omega) ?_;symm;refine⟨.inr ⟨kvs,.inl vY⟩,aC _,fun p hp=>⟨kvs,keysOf n,b,a9 vY hp,rfl,by rw[hX];exact a9 hb hp,na.small,fun v hv=> ?_,fun hv=> ?_⟩⟩
  ·have nA:=na.st n
   cases hs:pA defs n with
   |nil=>
    rw[hs]at nA;rw[show fq kvs (keysOf n)=none from nA]at hv
    cases hv
   |cons d0 ds=>
    rw[hs]at nA;rcases nA with⟨st,ms,e1,e2,e3,e4⟩;rw[e1]at hv
    cases hv
    have RM:x≠st:=cE eD e3 rfl;have RU:d≠st:=cE vY e3 rfl;have sJ:d≠x:=cE vY eD rfl;have RN:x≠p:=bO hp eD;have L4:st≠p:=bO hp e3;symm
    have f:aZ NM Y H Y (upd (upd (upd H p (.lst [])) st (.lst (rv ms.reverse++[V.ref m]))) x (.ins T.eF dx (fNames (.ref d) (.int ((ba defs:Int)+(wt (n,df):Int)))))):=⟨fun q r e _=>e,fun q r u e hn hu=>by
     have AB:q≠x:=fun z=>by rw[z,na.tg]at e;cases e;exact hn (.inl rfl)
     have Ij:q≠st:=fun z=>by rw[z,e2]at e;cases e;exact hn (.inr (.inr ⟨_,rfl⟩))
     exact(ai AB).trans ((ai Ij).trans (a9 hu hp)),fun q hq=>lN q (aM (aM (aM hq).2).2).2⟩
    refine⟨?_,?_⟩
    rotate_left
    rfl';refine k Y _ kvs f ⟨na.tg,?_,na.td,?_,fun n'=> ?_,na.nd,fun kk hk=> ?_,?_⟩
    rotate_right
    ·have L7:=e4.len;rw[<-hs]at L7;have wz:=YR defs n;have X0:=K1 defs;have hl4:=na.Oe;(try rw[fR,fP,aT]);lia
    ·(try rw[aq,kept_cons,B9]);rfl
    ·exact(ai sJ).trans ((ai RU).trans (a9 vY hp))
    ·by_cases hn:n=n'
     ·subst hn;(try rw[eL,if_pos rfl]);(try rw[hs])
      refine⟨st,m::ms,e1,e2,?_,.cons (hm.fr f iZ) (e4.fr f iZ)⟩;(try rw[ai (aD RM),aq,b8,<-ft])
     ·(try rw[eL,if_neg hn])
      refine(na.st n').move rfl (fun _ e=>e) (fun q u e hu=> ?_) f;have AB:q≠x:=cE e na.tg rfl;have Ij:q≠st:=fun z=>by rw[z,e2]at e;cases e;exact hn rfl
      exact(ai AB).trans ((ai Ij).trans (a9 hu hp))
    ·obtain⟨n',e,NU⟩:=na.ky kk hk;exists n',e;(try rw[eL]);split
     ·simp
     ·exact NU
    ·(try rw[kept_cons]);lia
  ·have hpd:p≠d:=cE hp vY rfl;have We:p≠x:=cE hp eD rfl;have sJ:d≠x:=cE vY eD rfl;have h1:=aD hpd;have h2:=aD We;have h3:=aD sJ
   have hs:pA defs n=[]:=by
    have nA:=na.st n
    cases hs:pA defs n with
    |nil=>rfl
    |cons d0 ds=>
     rw[hs]at nA;rcases nA with⟨st,ms,e1,_⟩;rw[hv]at e1;cases e1
   symm
   have f:aZ NM Y H (fun q=>if q=p then some (.stack n)else Y q) (upd (upd (upd (upd H p (.lst [])) d (.dT (kvs++[(keysOf n,.ref p)]))) p (.lst [V.ref m])) x (.ins T.eF dx (fNames (.ref d) (.int ((ba defs:Int)+(wt (n,df):Int)))))):=by
    refine⟨fun q r e hn=> ?_,fun q r u e hn hu=> ?_,fun q hq=> ?_⟩
    ·have:q≠p:=cE e (lN p hp) rfl;rw[if_neg this];exact e
    ·have Wd:q≠p:=cE e (lN p hp) rfl;have AB:q≠x:=fun z=>by rw[z,na.tg]at e;cases e;exact hn (.inl rfl)
     have hqd:q≠d:=fun z=>by rw[z,na.td]at e;cases e;exact hn (.inr (.inl rfl))
     exact(ai AB).trans ((ai Wd).trans ((ai hqd).trans (a9 hu hp)))
    ·have AB:=(aM hq).1;have L5:=(aM hq).2;have Wd:=(aM L5).1;have qH:=(aM (aM L5).2).2;rw[if_neg Wd];exact lN q (aM qH).2
   exists (by decide);rfl';refine k _ _ (kvs++[(keysOf n,.ref p)]) f ⟨?_,?_,?_,?_,fun n'=> ?_,?_,fun kk hk=> ?_,?_⟩
   ·rw[if_neg h2];exact na.tg
   ·(try rw[aq,kept_cons,B9]);rfl
   ·rw[if_neg h1];exact na.td
   ·exact(ai sJ).trans ((ai h1).trans aq)
   ·have hvn:∀n',fq (kvs++[(keysOf n,V.ref p)]) (keysOf n')=if keysOf n'=keysOf n then some (V.ref p)else fq kvs (keysOf n'):=fun n'=>zZ _ _ _ _ hv
    by_cases hn:n=n'
    ·subst hn;(try rw[eL,if_pos rfl]);(try rw[hs])
     refine⟨p,[m],by rw[hvn,if_pos rfl],if_pos rfl,?_,.cons (hm.fr f iZ) .nil⟩;exact(ai We).trans aq
    ·(try rw[eL,if_neg hn])
     refine(na.st n').move (by rw[hvn,if_neg (fun e=>hn (D0 e).symm)]) (fun q e=> ?_) (fun q u e hu=> ?_) f
     ·have:q≠p:=cE e (lN p hp) rfl;show (if q=p then _ else _)=_;rw[if_neg this];exact e
     ·have Wd:q≠p:=cE e (lN p hp) rfl;have AB:q≠x:=cE e na.tg rfl;have hqd:q≠d:=cE e na.td rfl;exact(ai AB).trans ((ai Wd).trans ((ai hqd).trans (a9 hu hp)))
   ·(try rw[bL,m7])
    refine⟨na.nd,by simp,fun a ha b' X4 e=> ?_⟩;have ajS:b'=keysOf n:=by simpa using X4
    exact T8 hv (by rw[<-ajS,<-e];exact ha)
   ·rw[bL]at hk;obtain hk|hk:=dW.mp hk
    ·obtain⟨n',e,NU⟩:=na.ky kk hk;exists n',e;(try rw[eL]);split
     ·simp
     ·exact NU
    ·exists n,(by simpa using hk);(try rw[eL,if_pos rfl]);simp
   ·(try rw[kept_cons]);lia
theorem eG.agu{T:Top K mg}{Y:iC}{H:Hp}{x dx d:ao}{kvs:List (List Key×V)}{l l':List (B×dj)}(h:eG T Y H x dx d kvs l)(hs:∀n,pA l' n=pA l n)(hk:ba l'=ba l):eG T Y H x dx d kvs l':=
 ⟨h.tg,by rw[hk];exact h.ob,h.td,h.dt,fun n=>by rw[hs];exact h.st n,h.nd,fun k hm=>by obtain⟨n,e,q⟩:=h.ky k hm;exact⟨n,e,by rw[hs];exact q⟩,by rw[hk];exact h.Oe⟩
inductive QT(vs:List V)(H:Hp)(Q:VK)(E:XK):Prop
 |mk (Y:iC) (x dx d b m:ao) (kvs:List (List Key×V)) (defs:List (B×dj)) (n:B) (df:dj) (_:vs=[.ref x,.ref b,.ref m]) (_:eG T Y H x dx d kvs defs) (_:H b=some (.tup (iv n))) (_:la T Y H m df) (_:Dm Y H) (_:if 65536<ba (gX n df defs)then E (.ref T.c7) none H else ∀Y' H' uw,aZ NM Y H Y' H'->eG T Y' H' x dx d uw (gX n df defs)->Q .fI H')
theorem BW:T.ud.Ok P w mg ag (jF P w) 3 (QT T):=by
 rcases h:T.ud.qj ["self","name","meaning","more","stack"]with⟨Y,x,dx,d,b,m,kvs,defs,n,df,rfl,na,hb,hm,lN,k⟩;exists _,(ah (bh 3 nd0 (cG T.weight (vS T) hr bq (aV (pv 1) (p1 (pv 2))))) (ah (bh 4 nd0 (DN (oV hr) (aB T.dJ T.gM (pv 0)) (pv 1) ⟨rfl,rfl,rfl,rfl⟩)) (ah (ck (aR xG (pv 4) qY) (ah (bx (cM (pv 0) T.dJ T.qb (qZ T) hr dC (aV (pv 1) (p1 (pv 2))))) (aj vR)) bQ) (ah (gR 3 nd0 (cG T.weight (vS T) hr bq (aV (pv 1) (p1 (c5 b6 (pv 4) (pK kX aO))))) Ie) (ah (bx (cM (pv 0) T.dJ T.lI (pO T) hr dC (p1 (pv 3)))) (ah (DG (pv 2) (DK (pv 4) (pK kX aO) set_list)) (aj (ek T.dJ T.mJ (pv 0) (pv 3) mF))))))));have eD:=na.ob;have vY:=na.dt;have Te:H b=some (.tup ((keysOf n).map kV)):=by rw[hX];exact hb
 rcases hm.len with⟨dm,tx,wd,t,EL,S9,D6⟩;have X1:=rf n df defs;have hsr:=mr n df defs;have hw:n.length+t.length+16=wt (n,df):=by unfold wt;rw[D6]
 symm;exists b,m,dm,tx,_,n,t,rfl,hb,EL,S9;rw[hw];clear hw;clear hsr X1 hb;symm;exists .inr ⟨kvs,.inl vY⟩,_,sH.t vY Te;have hb:H b=some (.tup (iv n)):=by rw[<-hX];exact Te
 have X1:=rf n df defs;have hsr:=mr n df defs;have nA:=na.st n
 cases hs:pA defs n with
 |nil=>
  rw[hs]at nA X1;rfl';(try rw[show fq kvs (keysOf n)=none from nA])
  have hke:ba (gX n df defs)=ba ((n,df)::defs):=by
   (try rw[kept_cons])
   have:ba (gX n df defs)+0=ba defs+wt (n,df):=X1;lia
  rw[hke]at k
  have k':if 65536<ba ((n,df)::defs)then E (.ref T.c7) none H else ∀Y' H' uw,aZ NM Y H Y' H'->eG T Y' H' x dx d uw ((n,df)::defs)->Q .fI H':=by
   split at k
   ·rename_i h;refine gB h ?_;exact k
   ·rename_i h;refine gn h ?_;refine fun Y' H' uw f na'=>k Y' H' uw f (na'.agu (fun n'=> ?_) hke);(try rw[hsr n',eL])
    by_cases hn:n=n'
    ·subst hn;rw[if_pos rfl];rw[if_pos rfl];(try rw[hs]);rfl
    ·rw[if_neg hn];rw[if_neg hn]
  clear k hke X1 hsr nA hs;symm;exists Y,x,dx,d,b,m,kvs,defs,n,df,rfl,na,hb,hm,lN
  split at k'
  ·rename_i hh;refine gB hh ?_;exact k'
  ·rename_i hh;refine gn hh ?_;intro Y' H' uw f1 BX;rfl';exact k' Y' H' uw f1 BX
 |cons d0 ds=>
  rw[hs]at nA X1;rcases nA with⟨st,ms,e1,e2,e3,e4⟩;rfl';(try rw[e1])
  cases e4 with
  | @cons m0 _ ms' _ Ta hms=>
  rcases Ta.len with⟨dm0,tx0,wd0,t0,g1,g2,g3⟩;have hw0:n.length+t0.length+16=wt (n,d0):=by unfold wt;rw[g3]
  replace X1:ba (gX n df defs)+wt (n,d0)=ba defs+wt (n,df):=X1;rw[b8,<-ft]at e3;have RM:x≠st:=cE eD e3 rfl;have RU:d≠st:=cE vY e3 rfl;have sJ:d≠x:=cE vY eD rfl;have ZT:=aD RM;clear hsr;have alu:=X1;have hs':=hs;clear X1 hs;have hkk:(ba defs:Int)+((wt (n,df):Int)- (wt (n,d0):Int))=(ba (gX n df defs):Int):=by lia
  clear g3 D6;have hla:zF (rv (m0::ms').reverse) (-1)=some (V.ref m0):=by rw[b8,<-ft,LN]
  symm;exists b,m0,dm0,tx0,_,n,t0,rfl,hb,g1,g2;rw[hw0];clear hw0;symm;exists x,dx,d,_,_,rfl,eD
  by_cases iH:65536<ba (gX n df defs)
  ·rw[if_pos iH]at k;refine gB (by lia) ?_;exact k
  ·rw[if_neg iH]at k;refine gn (by lia) ?_;symm;exists _,V3;rfl';(try rw[UP])
   have f:aZ NM Y H Y (upd (upd H st (.lst (rv ms'.reverse++[V.ref m]))) x (.ins T.eF dx (fNames (.ref d) (.int (ba (gX n df defs):Int))))):=⟨fun q r e _=>e,fun q r u e hn hu=>by
    have AB:q≠x:=fun z=>by rw[z,na.tg]at e;cases e;exact hn (.inl rfl)
    have Ij:q≠st:=fun z=>by rw[z,e2]at e;cases e;exact hn (.inr (.inr ⟨_,rfl⟩))
    exact(ai AB).trans ((ai Ij).trans hu),fun q hq=>lN q (aM (aM hq).2).2⟩
   refine k Y _ kvs f ⟨na.tg,aq,na.td,?_,fun n'=> ?_,na.nd,fun kk hk=> ?_,by lia⟩
   ·exact(ai sJ).trans ((ai RU).trans vY)
   ·(try rw[mr])
    by_cases hn:n=n'
    ·subst hn;rw[if_pos rfl];(try rw[hs']);refine⟨st,m::ms',e1,e2,?_,.cons (hm.fr f iZ) (hms.fr f iZ)⟩;(try rw[ai ZT,aq,b8,<-ft])
    ·rw[if_neg hn];refine(na.st n').move rfl (fun _ e=>e) (fun q u e hu=> ?_) f;have AB:q≠x:=cE e na.tg rfl;have Ij:q≠st:=fun z=>by rw[z,e2]at e;cases e;exact hn rfl
     exact(ai AB).trans ((ai Ij).trans hu)
   ·obtain⟨n',e,NU⟩:=na.ky kk hk;exists n',e;(try rw[mr]);split
    ·simp
    ·exact NU
theorem CF{κ:Type}[DecidableEq κ](kvs:List (κ×V))(k j:κ):fq (ug kvs k) j=if j=k then none else fq kvs j:=by
 induction kvs with
 |nil=>unfold ug;simp[fq]
 |cons p r ih=>
  unfold ug at ih⊢
  by_cases hp:p.1=k
  ·rw[List.filter_cons_of_neg (by simp[hp]),ih]
   by_cases hj:j=k
   ·rw[if_pos hj,if_pos hj]
   ·rw[if_neg hj,if_neg hj,eC (fun e=>hj (e.symm.trans hp))]
  ·rw[LS (by simp[hp])]
   by_cases hpj:p.1=j
   ·rw[gw hpj,gw hpj,if_neg (fun e=>hp (hpj.trans e))]
   ·rw[eC hpj,eC hpj,ih]
inductive Dg(vs:List V)(H:Hp)(Q:VK)(E:XK):Prop
 |mk (Y:iC) (x dx d b:ao) (kvs:List (List Key×V)) (defs:List (B×dj)) (n:B) (_:vs=[.ref x,.ref b]) (_:eG T Y H x dx d kvs defs) (_:H b=some (.tup (iv n))) (_:Dm Y H) (_:∀Y' H' uw,aZ NM Y H Y' H'->(∀l,H b=some (.tup l)->H' b=some (.tup l))->eG T Y' H' x dx d uw (jQ defs n)->Q .fI H')
theorem nS:T.kc.Ok P w mg ag iN 2 (Dg T):=by
 rcases h:T.kc.jG ["self","name","stack"]with⟨Y,x,dx,d,b,kvs,defs,n,rfl,na,hb,lN,k⟩;exists _,(ah (bh 2 nd0 (DN (oV hr) (aB T.dJ T.gM (pv 0)) (pv 1) ⟨rfl,rfl,rfl,rfl⟩)) (ah (ck (aR xG (pv 2) qY) (aj vR) bQ) (ah (ek T.dJ T.mJ (pv 0) (cG T.weight (vS T) hr bq (aV (pv 1) (p1 (vf aJ eK eJ q0 (pv 2))))) xT) (aj (ck (aR (HA hr.uQ) (pv 2) (cH c9)) (aj (bx (Vm (oV hr) (aB T.dJ T.gM (pv 0)) (pv 1) ⟨rfl,rfl,rfl,rfl⟩))) bQ)))));have eD:=na.ob;have vY:=na.dt;have Te:H b=some (.tup ((keysOf n).map kV)):=by rw[hX];exact hb
 clear hb;symm;exists .inr ⟨kvs,.inl vY⟩,_,sH.t vY Te;have nA:=na.st n
 cases hs:pA defs n with
 |nil=>
  rw[hs]at nA;rfl';(try rw[show fq kvs (keysOf n)=none from nA])
  rw[G8 hs]at k;clear hs nA;symm;exact k Y H kvs (aZ.same lN (bE.refl H)) (fun _ e=>e) na
 |cons d0 ds=>
  rw[hs]at nA;rcases nA with⟨st,ms,e1,e2,e3,e4⟩
  cases e4 with
  | @cons m0 _ ms' _ Ta hms=>
  rw[b8,<-ft]at e3;rw[e1];have RM:x≠st:=cE eD e3 rfl;have RU:d≠st:=cE vY e3 rfl;have sJ:d≠x:=cE vY eD rfl;have ZT:=aD RM;rcases Ta.len with⟨dm0,tx0,wd0,t0,g1,g2,g3⟩;have hw0:n.length+t0.length+16=wt (n,d0):=by unfold wt;rw[g3]
  clear g3;have hbs:b≠st:=cE Te e3 rfl;have hbx:b≠x:=cE Te eD rfl;have hbd:b≠d:=cE Te vY rfl;have ajr:m0≠st:=cE g1 e3 rfl
  have hts:tx0≠st:=fun e=>by
   rcases Ta with⟨_,_,tx',_,_,q1,q2,_⟩;rw[g1]at q1
   cases q1
   rw[e,e2]at q2;cases q2
  have hkw:=zo n defs;rw[hs]at hkw;replace hkw:ba (jQ defs n)+wt (n,d0)=ba defs:=hkw;have hkk:(ba defs:Int)- (wt (n,d0):Int)=(ba (jQ defs n):Int):=by lia
  symm;exists b,m0,dm0,tx0,_,n,t0,rfl,by rw[ai hbs,<-hX];exact Te,(ai ajr).trans g1,(ai hts).trans g2
  rw[hw0];clear hw0;symm;refine⟨aC _,fun p hp=> ?_⟩;have We:=(aM hp).1;have AE:=(aM hp).2;have Pz:=(aM AE).1;have mX:=(aM AE).2;have hpd:p≠d:=cE mX vY rfl;have hpb:p≠b:=cE mX Te rfl;have i1:=aD We;have i2:=aD Pz;have i3:=aD hpd;have i4:=aD hpb;clear hp;symm;have K8:=na.Oe
  cases hms with
  |nil=>
   refine gB (by rfl) ?_;rfl';exists .inr ⟨kvs,.inl ((ai i3).trans ((ai sJ).trans ((ai RU).trans vY)))⟩,kvs,keysOf n,b,_,rfl,rfl,(ai i4).trans ((ai hbx).trans ((ai hbs).trans Te)),e1;generalize PU:upd (upd (upd (upd H st (.lst (rv ([]:List ao).reverse))) x (.ins T.eF dx (fNames (.ref d) (.int (ba (jQ defs n):Int))))) p (.lst [])) d (.dT (ug kvs (keysOf n)))=H'
   have old:∀q u,H q=some u->q≠st->q≠x->q≠d->H' q=some u:=fun q u hu z1 z2 z3=>by
    have z4:q≠p:=cE hu mX rfl;exact(congrFun PU.symm _).trans ((ai z3).trans ((ai z4).trans ((ai z2).trans ((ai z1).trans hu))))
   have f:aZ NM Y H (fun q=>if q=st then none else Y q) H':=⟨fun q r e hn=>by
    have:q≠st:=fun z=>by rw[z,e2]at e;cases e;exact hn (.inr (.inr ⟨_,rfl⟩))
    show (if q=st then _ else _)=_;rw[if_neg this];exact e,fun q r u e hn hu=>old q u hu (fun z=>by rw[z,e2]at e;cases e;exact hn (.inr (.inr ⟨_,rfl⟩))) (fun z=>by rw[z,na.tg]at e;cases e;exact hn (.inl rfl)) (fun z=>by rw[z,na.td]at e;cases e;exact hn (.inr (.inl rfl))),fun q hq=>by
    show (if q=st then _ else _)=_
    split
    ·rfl
    ·rename_i Ij
     have Ji:H q=none:=by
      rw[<-PU]at hq;exact(aM (aM (aM (aM hq).2).2).2).2
     exact lN q Ji⟩
   refine k _ H' (ug kvs (keysOf n)) f (fun l hl=>old b _ hl hbs hbx hbd) ⟨?_,?_,?_,?_,fun n'=> ?_,?_,fun kk hk=> ?_,by lia⟩
   ·show (if x=st then _ else _)=_;rw[if_neg RM];exact na.tg
   ·exact(congrFun PU.symm _).trans ((ai (aD sJ)).trans ((ai i1).trans aq))
   ·show (if d=st then _ else _)=_;rw[if_neg RU];exact na.td
   ·exact(congrFun PU.symm _).trans aq
   ·(try rw[lW])
    by_cases hn:n=n'
    ·subst hn;rw[if_pos rfl];(try rw[hs]);show fq (ug kvs (keysOf n)) (keysOf n)=none;(try rw[CF,if_pos rfl])
    ·rw[if_neg hn];refine(na.st n').move (by rw[CF,if_neg (fun e=>hn (D0 e).symm)]) (fun q e=> ?_) (fun q u e hu=> ?_) f
     ·have:q≠st:=fun z=>by rw[z,e2]at e;cases e;exact hn rfl
      show (if q=st then _ else _)=_;rw[if_neg this];exact e
     ·exact old q u hu (fun z=>by rw[z,e2]at e;cases e;exact hn rfl) (cE e na.tg rfl) (cE e na.td rfl)
   ·exact Jx ((List.filter_sublist).map _) na.nd
   ·refine wN fun g_ k_=> ?_;obtain⟨q,hq,e⟩:=eh.mp hk;obtain⟨L5,qH⟩:=mf.mp hq;refine wO k_ ?_;clear k_ g_;obtain⟨n',e',NU⟩:=na.ky kk (by rw[<-e];exact jl L5);exists n',e'
    have vW:n≠n':=fun z=>by
     have:q.1≠keysOf n:=by simpa using qH
     exact this (by rw[e,e',z])
    (try rw[lW,if_neg vW]);exact NU
  | @cons m1 d1 ms1 ds1 EL hms1=>
    refine gn (by rw[b8,<-ft];simp) ?_;generalize PU:upd (upd (upd H st (.lst (rv (m1::ms1).reverse))) x (.ins T.eF dx (fNames (.ref d) (.int (ba (jQ defs n):Int))))) p (.lst [])=H'
    have old:∀q u,H q=some u->q≠st->q≠x->H' q=some u:=fun q u hu z1 z2=>by
     have z4:q≠p:=cE hu mX rfl;exact(congrFun PU.symm _).trans ((ai z4).trans ((ai z2).trans ((ai z1).trans hu)))
    have f:aZ NM Y H Y H':=⟨fun q r e hn=>e,fun q r u e hn hu=>old q u hu (fun z=>by rw[z,e2]at e;cases e;exact hn (.inr (.inr ⟨_,rfl⟩))) (fun z=>by rw[z,na.tg]at e;cases e;exact hn (.inl rfl)),fun q hq=>by
     rw[<-PU]at hq;exact lN q (aM (aM (aM hq).2).2).2⟩
    refine k Y H' kvs f (fun l hl=>old b _ hl hbs hbx) ⟨na.tg,?_,na.td,old d _ vY RU sJ,fun n'=> ?_,na.nd,fun kk hk=> ?_,by lia⟩
    ·exact(congrFun PU.symm _).trans ((ai i1).trans aq)
    ·(try rw[lW])
     by_cases hn:n=n'
     ·subst hn;rw[if_pos rfl];(try rw[hs]);refine⟨st,m1::ms1,e1,e2,?_,.cons (EL.fr f iZ) (hms1.fr f iZ)⟩;exact(congrFun PU.symm _).trans ((ai i2).trans ((ai ZT).trans aq))
     ·rw[if_neg hn];exact(na.st n').move rfl (fun _ e=>e) (fun q u e hu=>old q u hu (fun z=>by rw[z,e2]at e;cases e;exact hn rfl) (cE e na.tg rfl)) f
    ·obtain⟨n',e',NU⟩:=na.ky kk hk;exists n',e';(try rw[lW])
     split
     ·rename_i hn;subst hn;(try rw[hs]);simp
     ·exact NU
inductive Kh(vs:List V)(H:Hp)(Q:VK)(E:XK):Prop
 |mk (Y:iC) (x dx d b:ao) (kvs:List (List Key×V)) (defs:List (B×dj)) (n:B) (_:vs=[.ref x,.ref b]) (_:eG T Y H x dx d kvs defs) (_:H b=some (.tup (iv n))) (_:Dm Y H) (_:∀Y' H' uw,aZ NM Y H Y' H'->H' b=some (.tup (iv n))->eG T Y' H' x dx d uw (j7 defs n)->Q .fI H')
theorem zf:T.qd.Ok P w mg ag iN 3 (Kh T):=by
 rcases h:T.qd.jG ["self","name"]with⟨Y,x,dx,d,b,kvs,defs,n,rfl,na,hb,lN,k⟩;exists _,(aj (gx cA (aR Zj (cM (pv 0) T.dJ T.mU (oF T) hr bq (p1 (pv 1))) qY) (aj (bx (cM (pv 0) T.dJ T.kc (nS T) hr bq (p1 (pv 1)))))))
 refine⟨fun m Z H'=>Z=[some (V.ref x),some (V.ref b)]/\∃Y1 VZ zy,m=(pA zy n).length/\aZ NM Y H Y1 H'/\H' b=some (.tup (iv n))/\eG T Y1 H' x dx d VZ zy/\j7 zy n=j7 defs n,
  ⟨_,rfl,Y,kvs,defs,rfl,aZ.same lN (bE.refl H),hb,na,rfl⟩,?_⟩
 intro m Z H1 w_;rcases w_ with⟨rfl,Y1,VZ,zy,rfl,f1,Ip,BX,eg⟩;have eD:=BX.ob;have hc:=BX.st n;clear na hb;symm;exists Y1,x,dx,d,b,VZ,zy,n,rfl,BX,Ip
 cases hs:pA zy n with
 |nil=>
  have h0:=gone_none hs;rw[h0]at eg;rw[<-eg]at k;have k':=k Y1 H1 VZ f1 Ip BX;clear hs hc eg h0;symm
  all_goals trivial
 |cons d0 ds=>
  intro m0 _;have hl:(pA (jQ zy n) n).length<(d0::ds).length:=by rw[lW,if_pos rfl,hs];exact g7 _
  clear hs hc;symm;exists _,fun _ _ h=>h;rfl';exact⟨Y1,x,dx,d,b,VZ,zy,n,rfl,BX,Ip,f1.dm,fun Y' H' uw f2 NZ VQ=>⟨_,hl,Y',uw,jQ zy n,rfl,f1.trans f2,NZ _ Ip,VQ,by rw[IB];exact eg⟩⟩
inductive Hq(vs:List V)(H:Hp)(Q:VK)(E:XK):Prop
 |mk (n:Int) (_:vs=[.int n]) (_:Q (.bl (decide (1<=n/\n<=9))) H)
theorem tH:T.rW.Ok P w mg ag iN 1 Hq:=by
 rcases h:T.rW.jG ["number"]with⟨n,rfl,k⟩;exists _,(aj (a6 (yY y0 y0 aO (pv 0) (bC rfl T.qD))));symm
 split
 ·rename_i h;simpa [h]using k
 ·rename_i h;simpa [h]using k
inductive Ki(vs:List V)(H:Hp)(Q:VK)(E:XK):Prop
 |mk (a:ao) (ps:List ao) (l:List B) (i:Nat) (_:vs=[.ref a,.int i]) (_:H a=some (.lst (rv ps))) (_:yb H ps l) (_:∀H' p,bE H H'->H' p=some (.lst (iv (l.getD i [])))->(ps[i]? =some p\/H p=none)->Q (.ref p) H')
theorem c6:T.argument.Ok P w mg ag iN 1 Ki:=by
 rcases h:T.argument.jG ["arguments","place"]with⟨a,ps,l,i,rfl,ha,tx,k⟩;exists _,(aj (a6 (ll (aR ki (pv 1) (cL T (pv 0))) (c5 b6 (pv 0) (pv 1)) (cH c9))));have hlen:=tx.len;symm;(try rw[fR,hlen])
 by_cases h:i<l.length
 ·refine gB (by lia) ?_;obtain⟨p,hp⟩:=k6 (l:=ps) (i:=i) (by lia);obtain⟨t,iB,Jj⟩:=tx.get hp;rfl';exact⟨_,qT hp,k H p (bE.refl H) (by rw[cK,iB];exact Jj) (.inl hp)⟩
 ·refine gn (by lia) ?_;refine⟨aC _,fun p hp=>k _ p (aY hp) ?_ (.inr hp)⟩;(try rw[aq,cK,hU (by lia)]);rfl
def marks:List V:=(c8 257).map fun c=>V.bl (decide (c<256)&&cf c)
theorem KU{c:Nat}(h:c<256):zF marks (c:Int)=some (V.bl (cf c)):=by
 refine Cv ?_;unfold marks;rw[cJ,SO (by lia)];simp[h]
theorem Gm:zF marks (-1)=some (V.bl false):=by
 have:marks=((c8 256).map fun c=>V.bl (decide (c<256)&&cf c))++[V.bl false]:=by
  unfold marks;rw[EW,bL];rfl
 rw[this];exact LN _ _
def cR(js:List Int)(input:B):List Int:=js++(input.map fun(n:Nat)=>(n:Int))++[-1]
structure SrcAt(T:Top K mg)(Y:iC)(H:Hp)(x dx fH im:ao)(js:List Int)(input:B):Prop where
 tg:Y x=some .src
 ob:H x=some (.ins T.bU dx (cT (.int (js.length:Nat)) (.ref fH) (.ref im)))
 tr:Y fH=some .row
 BN:H fH=some (.lst ((cR js input).map V.int))
 ti:Y im=some .jL
 ZI:H im=some (.lst marks)
 len:js.length+input.length=65536
 sm:Small input
inductive Ke(vs:List V)(H:Hp)(Q:VK)(E:XK):Prop
 |mk (Y:iC) (x dx fH im:ao) (js:List Int) (input:B) (_:vs=[.ref x]) (_:SrcAt T Y H x dx fH im js input) (_:Q (.bl (decide (input≠[]))) H)
theorem xJ:T.lD.Ok P w mg ag iN 1 (Ke T):=by
 rcases h:T.lD.jG ["self"]with⟨Y,x,dx,fH,im,js,input,rfl,sa,k⟩;exists _,(aj (a6 (f7 ki (aB T.bj T.bV (pv 0)) (bC rfl T.mE))));have eD:=sa.ob
 have e:decide ((js.length:Int)<65536)=decide (input≠[]):=by
  have:=sa.len
  cases input with
  |nil=>simp at this⊢;lia
  |cons c r=>simp only[au]at this;simp;lia
 rw[<-e]at k;clear e;symm
inductive C9(vs:List V)(H:Hp)(Q:VK)(E:XK):Prop
 |mk (x dx im:ao) (pl fH:V) (c:Int) (_:vs=[.ref x,.int c]) (_:H x=some (.ins T.bU dx (cT pl fH (.ref im)))) (_:H im=some (.lst marks)) (_:((c= -1/\Q (.bl false) H)\/∃n:Nat,c=n/\n<256/\Q (.bl (sL n)) H))
theorem KZ(n:Nat):(cf n&& !Ra32.isDigit n)=sL n:=by
 unfold cf
 cases h:sL n with
 |false=>simp
 |true=>
  have:bb n=false:=by
   unfold sL at h;unfold bb;simp at h⊢;lia
  rw[this];rfl
theorem uq:T.lP.Ok P w mg ag iN 2 (C9 T):=by
 rcases h:T.lP.jG ["self","byte"]with⟨x,dx,im,pl,fH,c,rfl,hx,him,k⟩;exists _,(aj (a6 (Al (c5 b6 (aB T.bj T.mI (pv 0)) (pv 1)) (DL (Ng (cG T.vx (vk T) hr bq (p1 (pv 1))))))));symm;obtain⟨rfl,k⟩|⟨n,rfl,hn,k⟩:=k
 ·exists _,Gm;symm
 ·exists _,KU hn;rw[<-KZ]at k;symm
  cases hw:cf n with
  |true=>
   rw[hw]at k;rfl';exists _,rfl;rw[AJ];rfl';exact k
  |false=>
   rw[hw]at k;rfl';exact k
def SM(r:Tag):Prop:=r= .src\/r= .row
def zi(t:B):List Int:=t.map fun(n:Nat)=>(n:Int)
theorem abX{T:Top K mg}{Y:iC}{H:Hp}{x dx fH im:ao}{js:List Int}{input:B}(h:SrcAt T Y H x dx fH im js input){a:ao}{t:B}(ha:H a=some (.lst (iv t))):a≠fH:=fun e=>by
 rw[e,h.BN]at ha;have e1:=HO.lst.inj (bo ha);rw[eS]at e1;have e2:=uO e1;have:(-1:Int)∈(t.map fun(n:Nat)=>(n:Int)):=by rw[<-e2];unfold cR;simp
 obtain⟨n,_,hn⟩:=eh.mp this;lia
theorem JJ(h:H p=some o):upd H p o=H:=by
 funext b
 by_cases e:b=p
 ·subst e;rw[aq,h]
 ·rw[ai e]
inductive Fg(vs:List V)(H:Hp)(Q:VK)(E:XK):Prop
 |mk (Y:iC) (x dx fH im a:ao) (js:List Int) (input t:B) (_:vs=[.ref x,.ref a]) (_:SrcAt T Y H x dx fH im js input) (_:H a=some (.lst (iv t))) (_:Small t) (_:Dm Y H) (_:if js.length<t.length then E (.ref T.c7) none H else ∀H',aZ SM Y H Y H'->SrcAt T Y H' x dx fH im (js.take (js.length- t.length)) (t++input)->Q .fI H')
theorem vn:T.mM.Ok P w mg ag (jF P w) 1 (Fg T):=by
 rcases h:T.mM.qj ["self","result","row","place","byte"]with⟨Y,x,dx,fH,im,a,js,input,t,rfl,sa,ha,Fz,lN,k⟩;exists _,(ah (ck (aR qy (cL T (pv 1)) (aB T.bj T.bV (pv 0))) (aj (ff T.hW hr)) bQ) (ah (ek T.bj T.bV (pv 0) (cL T (pv 1)) xT) (ah (bh 2 nd0 (aB T.bj T.ez (pv 0))) (ah (bh 3 nd0 (aB T.bj T.bV (pv 0))) (aj (oE fm rfl (jA (pv 1)) (fk 4 nd0) (ah (DG (pv 4) (DK (pv 2) (pv 3) set_list)) (aj (gR 3 nd0 aO iG)))))))));have eD:=sa.ob;have qG:=sa.BN;have X5:=abX sa ha;have AA:fH≠x:=cE qG eD rfl;have hax:a≠x:=cE ha eD rfl;have hxr:=aD AA;have hlen:=sa.len;clear hlen;symm
 by_cases iH:js.length<t.length
 ·rw[if_pos iH]at k;refine gB (by omega) ?_;exact k
 ·rw[if_neg iH]at k;refine gn (by omega) ?_;obtain⟨p0,hq0⟩:∃p0,p0=js.length- t.length:=⟨_,rfl⟩;rw[<-hq0]at k;have hp0:js.length<=p0+t.length/\p0+t.length<=js.length:=by omega
  clear hq0;have hpi:(js.length:Int)- (t.length:Int)=(p0:Int):=by lia
  rfl';(try rw[hpi])
  clear hpi;refine wM.bytes (t:=t) ((ai hax).trans ha) (fun i Z H'=>H'=upd (upd H x (.ins T.bU dx (cT (.int (p0:Int)) (.ref fH) (.ref im)))) fH (.lst (((js.take p0++zi (t.take i)++js.drop (p0+i))++(zi input++[-1])).map V.int))/\∃v,Z=[some (V.ref x),some (V.ref a),some (V.ref fH),some (V.int ((p0+i:Nat):Int)),v]) ⟨?_,none,rfl⟩ (fun i Z H' h=>by rw[h.1,ai X5,ai hax];exact ha) ?_ ?_
  ·refine(JJ ?_).symm;(try rw[ai AA,qG])
   unfold cR zi;simp
  ·rintro i c Z H' hc ⟨rfl,v,rfl⟩;have hi:i<t.length:=(aw.mp hc).1;obtain⟨y,hy⟩:=k6 (l:=js) (i:=p0+i) (by lia);have hdr:js.drop (p0+i)=y::js.drop (p0+i+1):=by rw[aI (by lia),(aw.mp hy).2]
   have Iq:(js.take p0++zi (t.take i)).length=p0+i:=by unfold zi;simp;lia
   have RP:∀B':List Int,((js.take p0++zi (t.take i)++js.drop (p0+i)++B').map V.int).set (p0+i) (V.int (c:Int))=(js.take p0++zi (t.take (i+1))++js.drop (p0+(i+1))++B').map V.int:=fun B'=>by
    (try rw[<-Bt])
    congr 1
    (try rw[hdr,bu,bu,show (js.take p0++(zi (t.take i)++(y::js.drop (p0+i+1)++B')))=(js.take p0++zi (t.take i))++(y::(js.drop (p0+i+1)++B')) by simp])
    (try rw[List.set_append_right _ _ (by rw[Iq];exact aE _),Iq,Nat.sub_self,List.set_cons_zero,take_snoc hc])
    unfold zi;simp[jg]
   clear hdr hy Iq hc;symm;refine⟨p0+i,?_,?_⟩
   ·unfold HZ
    rw[if_pos (by lia),if_pos (by
     (try rw[aN,aF,aF,aF,aQ,aL])
     unfold zi;simp only[aN,aQ];omega)]
    first|rfl|(congr 1;omega)|(simp;omega)
   ·rfl';(try rw[RP])
    exact⟨_,rfl⟩
  ·rintro Z H' ⟨rfl,v,rfl⟩;symm;have EM:(js.take p0).length=p0:=by rw[aQ];lia
   have f:∀o1 o2,aZ SM Y H Y (upd (upd H x o1) fH o2):=fun o1 o2=>⟨fun q r e _=>e,fun q r u e hn hu=>by
    have q1:q≠x:=fun z=>by rw[z,sa.tg]at e;cases e;exact hn (.inl rfl)
    have q2:q≠fH:=fun z=>by rw[z,sa.tr]at e;cases e;exact hn (.inr rfl)
    exact(ai q2).trans ((ai q1).trans hu),fun q hq=>lN q (aM (aM hq).2).2⟩
   have him:im≠x:=fun z=>by have:=sa.ti;rw[z,sa.tg]at this;cases this
   have hir:im≠fH:=fun z=>by have:=sa.ti;rw[z,sa.tr]at this;cases this
   have wz:=sa.len;refine k _ (f _ _) ⟨sa.tg,?_,sa.tr,?_,sa.ti,?_,?_,?_⟩
   ·(try rw[ai hxr,aq,EM])
   ·(try rw[aq,cQ,bF (by lia)])
    unfold cR zi;simp
   ·exact(ai hir).trans ((ai him).trans sa.ZI)
   ·(try rw[EM,aF]);lia
   ·intro c hc;obtain h|h:=dW.mp hc
    ·exact Fz c h
    ·exact sa.sm c h
theorem pS{l:List Int}{i j:Nat}:lr (l.map V.int) (some (i:Int)) (some (j:Int))=((l.drop i).take (j- i)).map V.int:=by
 rw[Qg,aN,<-sM,<-eB]
 congr 1
 by_cases hi:i<=l.length
 ·rw[gH hi]
  by_cases hj:j<=l.length
  ·rw[gH hj]
  ·rw[ly (by lia),bA (by rw[aL];lia),bA (by rw[aL];omega)]
 ·have e1:l.drop (min i l.length)=[]:=bF (by lia);have e2:l.drop i=[]:=bF (by lia);rw[e1,e2];simp
theorem j6{l:List Int}{i:Nat}{c:Int}(h:l[i]? =some c):zF (l.map V.int) (i:Int)=some (V.int c):=Cv (by rw[cJ,h];rfl)
inductive Hh(vs:List V)(H:Hp)(Q:VK)(E:XK):Prop
 |mk (x dx fH a:ao) (pl im:V) (row:List Int) (q:B) (p:Nat) (_:vs=[.ref x,.ref a,.int p]) (_:H x=some (.ins T.bU dx (cT pl (.ref fH) im))) (_:H fH=some (.lst (row.map V.int))) (_:H a=some (.lst (iv q))) (_:q≠[]) (_:p<row.length) (_:∀H',bE H H'->Q (.bl (decide ((row.drop p).take q.length=zi q))) H')
theorem kY:T.jc.Ok P w mg ag iN 1 (Hh T):=by
 rcases h:T.jc.jG ["self","quote","place"]with⟨x,dx,fH,a,pl,im,row,q,p,rfl,hx,qG,ha,hq,hp,k⟩;exists _,(aj (a6 (Al (f7 d9 (c5 b6 (aB T.bj T.ez (pv 0)) (pv 2)) (c5 b6 (pv 1) aO)) (DL (f7 (Nk hr.units) (gm ic (aB T.bj T.ez (pv 0)) (d4 (pv 2)) (d4 (cu dz (pv 2) (cL T (pv 1))))) (pv 1))))));obtain⟨r,RR⟩:=k6 hp;have hg:=j6 RR
 obtain⟨c,q',rfl⟩:∃c q',q=c::q':=by cases q with
  |nil=>exact absurd rfl hq
  |cons c q'=>exact⟨c,q',rfl⟩
 have hg2:zF (iv (c::q')) (0:Int)=some (V.int (c:Int)):=jV (i:=0) (l:=c::q') rfl
 have kJ:lr (row.map V.int) (some (p:Int)) (some ((p:Int)+((c::q').length:Nat)))=((row.drop p).take (c::q').length).map V.int:=by
  have:=pS (l:=row) (i:=p) (j:=p+(c::q').length);rw[cF]at this;exact this
 have hd:row.drop p=r::row.drop (p+1):=by rw[aI hp,(aw.mp RR).2]
 clear RR hq;rw[hd]at k kJ;clear hd;symm;replace kJ:lr (row.map V.int) (some (p:Int)) (some ((p:Int)+((q'.length+1:Nat):Int)))=((r::row.drop (p+1)).take (c::q').length).map V.int:=kJ
 by_cases hc:r=(c:Int)
 ·refine gB hc ?_;rfl';intro y hy;(try rw[kJ])
  rw[hc]at k;exact⟨_,zi (c::q'),rfl,by rw[a9 ha hy,eS];rfl,k _ (aY hy)⟩
 ·refine gn hc ?_;have k:=k H (bE.refl H)
  have e:decide ((r::row.drop (p+1)).take (c::q').length=zi (c::q'))=false:=by
   refine decide_eq_false fun e=>hc ?_;unfold zi at e;rw[au,yk,a4]at e;exact(m8 e).1
  rw[e]at k;exact k
inductive Dh(vs:List V)(H:Hp)(Q:VK)(E:XK):Prop
 |mk (Y:iC) (x dx fH im a:ao) (js:List Int) (input q:B) (_:vs=[.ref x,.ref a]) (_:SrcAt T Y H x dx fH im js input) (_:H a=some (.lst (iv q))) (_:∀H',bE H H'->Q (.bl (decide (q≠[]/\input.take q.length=q))) H')
theorem Ht(js:List Int)(input q:B):((cR js input).drop js.length).take q.length=zi q↔input.take q.length=q:=by
 have e:(cR js input).drop js.length=zi input++[-1]:=by unfold cR zi;rw[bu,jt]
 rw[e];constructor
 ·intro h
  have hl:q.length<=input.length:=by
   refine EC fun iB=> ?_
   have:(-1:Int)∈zi q:=by
    rw[<-h,bA (by unfold zi;simp;lia)];simp
   obtain⟨n,_,hn⟩:=eh.mp this;lia
  rw[dH (by unfold zi;simpa using hl)]at h;unfold zi at h;rw[<-eB]at h;exact D4.mp h
 ·intro h
  have hl:q.length<=input.length:=by
   have:=congrArg cS h;rw[aQ]at this;lia
  rw[dH (by unfold zi;simpa using hl)];unfold zi;rw[<-eB,h]
theorem uu:T.lR.Ok P w mg ag iN 2 (Dh T):=by
 rcases h:T.lR.jG ["self","quote"]with⟨Y,x,dx,fH,im,a,js,input,q,rfl,sa,ha,k⟩;exists _,(ah (ck (aR d9 (cL T (pv 1)) aO) (aj (a6 (f7 d9 (c5 b6 (aB T.bj T.ez (pv 0)) (aB T.bj T.bV (pv 0))) (c5 b6 (pv 1) aO)))) bQ) (aj (a6 (Al (f7 (Nj hr.units) (pv 1) (cH c9)) (DL (cM (pv 0) T.bj T.jc (kY T) hr bq (aV (pv 1) (p1 (aB T.bj T.bV (pv 0))))))))));have eD:=sa.ob;have qG:=sa.BN;have iB:js.length<(cR js input).length:=by unfold cR;simp
 symm
 by_cases h1:q.length=1
 ·obtain⟨c,rfl⟩:∃c,q=[c]:=by
   cases q with
   |nil=>cases h1
   |cons c r=>cases r with
    |nil=>exact⟨c,rfl⟩
    |cons _ _=>simp at h1
  refine gB (by rfl) ?_;obtain⟨r,RR⟩:=k6 iB;rfl';exists _,j6 RR;rfl';exists _,jV (i:=0) (l:=[c]) rfl;have e:=Ht js input [c];have hd:(cR js input).drop js.length=r::(cR js input).drop (js.length+1):=by rw[aI iB,(aw.mp RR).2]
  rw[hd]at e
  have e2:r=(c:Int)↔input.take 1=[c]:=by
   refine Iff.trans ?_ e;unfold zi;simp
  have:=k H (bE.refl H);show Q (V.bl (decide (r=(c:Int)))) H
  have e3:decide (r=(c:Int))=decide (([c]:B)≠[]/\input.take ([c]:B).length=[c]):=by
   simp only[decide_eq_decide];(try rw[e2]);simp
  (try rw[e3]);exact this
 ·refine gn (by lia) ?_;rfl';refine⟨aC _,fun p hp=> ?_⟩;symm
  by_cases hq:q=[]
  ·subst hq;refine gn (by simp) ?_;have:=k _ (aY (o:=.lst []) hp);simpa using this
  ·refine gB (by simp[hq]) ?_;rfl';refine⟨x,dx,fH,a,_,_,cR js input,q,js.length,rfl,a9 eD hp,a9 qG hp,a9 ha hp,hq,iB,fun H' sm=> ?_⟩;have:=k H' ((aY hp).trans sm)
   have e3:decide (((cR js input).drop js.length).take q.length=zi q)=decide (q≠[]/\input.take q.length=q):=by
    simp only[decide_eq_decide];(try rw[Ht])
    exact⟨fun h=>⟨hq,h⟩,fun h=>h.2⟩
   (try rw[e3]);exact this
theorem SrcAt.on{T:Top K mg}{js:List Int}{input:B}(h:SrcAt T Y H x dx fH im js input)(n:Nat)(hn:n<=input.length)(hx:H' x=some (.ins T.bU dx (cT (.int ((js.length+n:Nat):Int)) (.ref fH) (.ref im))))(hr:H' fH=H fH)(hi:H' im=H im):
 SrcAt T Y H' x dx fH im (js++zi (input.take n)) (input.drop n):=by
 have hl:(js++zi (input.take n)).length=js.length+n:=by unfold zi;simp;lia
 have hlen:=h.len;refine⟨h.tg,by rw[hl];exact hx,h.tr,?_,h.ti,hi.trans h.ZI,?_,fun c hc=>h.sm c (kS hc)⟩
 ·rw[hr,h.BN]
  congr 3
  unfold cR zi;have e:(input.map fun(n:Nat)=>(n:Int))=((input.take n).map fun(n:Nat)=>(n:Int))++((input.drop n).map fun(n:Nat)=>(n:Int)):=by rw[<-bL,eV]
  rw[e];simp
 ·rw[hl,aL];lia
def fu(b:B):Nat:=(b.takeWhile fun c=>c != 10).length+((b.dropWhile fun c=>c != 10).take 1).length
theorem Zy(b:B):fu b<=b.length:=by
 have e:(b.takeWhile fun c=>c != 10)++(b.dropWhile fun c=>c != 10)=b:=jf;have:=congrArg cS e;unfold fu;rw[aF]at this;rw[aQ];omega
inductive Hk(vs:List V)(H:Hp)(Q:VK)(E:XK):Prop
 |mk (Y:iC) (x dx fH im:ao) (js:List Int) (input:B) (_:vs=[.ref x]) (_:SrcAt T Y H x dx fH im js input) (_:Dm Y H) (_:∀H' p EK,aZ SM Y H Y H'->H p=none->H' p=some (.lst (iv (input.take (fu input))))->SrcAt T Y H' x dx fH im EK (input.drop (fu input))->Q (.ref p) H')
theorem Rz(c:Nat)(b:B):fu (c::b)=if c=10 then 1 else fu b+1:=by
 unfold fu
 by_cases h:c=10
 ·subst h;simp
 ·have:(c != 10)=true:=by simp[h]
  rw[List.takeWhile_cons,SN,this,if_pos rfl,if_pos rfl,if_neg h,au];lia
theorem Gn:∀b:B,(match (zi b++[-1]).findIdx? (·==(10:Int))with
 |some j=>fu b=j+1/\j<b.length
 |none=>fu b=b.length)
 |[]=>by
  have e:(zi []++[-1]).findIdx? (·==(10:Int))=none:=by decide
  rw[e];rfl
 |c::b=>by
  have ih:=Gn b;show (match ((c:Int)::(zi b++[-1])).findIdx? (·==(10:Int))with|some j=>fu (c::b)=j+1/\j<(c::b).length|none=>fu (c::b)=(c::b).length);rw[TJ,Rz]
  by_cases h:c=10
  ·subst h;rw[if_pos (by rfl),if_pos rfl];exact⟨rfl,by simp⟩
  ·have h':((c:Int)==10)=false:=by rw[beq_eq_false_iff_ne];lia
   rw[h',if_neg (by decide),if_neg h]
   cases hf:(zi b++[-1]).findIdx? (·==(10:Int))with
   |none=>rw[hf]at ih;simpa using ih
   |some j=>
    rw[hf]at ih;obtain⟨h1,h2⟩:=ih;refine⟨?_,?_⟩
    ·rw[h1]
    ·rw[au];show j+1<_;lia
theorem Nb(js:List Int)(input:B):min (L2.placeOf (cR js input) 10 js.length+1) (js.length+input.length)=js.length+fu input:=by
 have e:(cR js input).drop js.length=zi input++[-1]:=by unfold cR zi;rw[bu,jt]
 have hl:(cR js input).length=js.length+input.length+1:=by unfold cR;simp;lia
 have ih:=Gn input;unfold L2.placeOf;rw[e]
 cases hf:(zi input++[-1]).findIdx? (·==(10:Int))with
 |none=>rw[hf]at ih;dsimp only at ih⊢;lia
 |some j=>rw[hf]at ih;dsimp only at ih⊢;lia
theorem oS:T.gN.Ok P w mg ag iN 2 (Hk T):=by
 rcases h:T.gN.jG ["self","start"]with⟨Y,x,dx,fH,im,js,input,rfl,sa,lN,k⟩;exists _,(ah (bh 1 nd0 (aB T.bj T.bV (pv 0))) (ah (cD T.bj T.bV (pv 0) (jJ (Sz rfl) rfl T.VT (by first|rfl|decide+kernel) (aV (cu dz (cG T.ve (vj T) hr bq (aV (aB T.bj T.ez (pv 0)) (aV (bC rfl T.xQ) (p1 (pv 1))))) aO) (p1 (bC rfl T.mE))))) (aj (a6 (gm ic (aB T.bj T.ez (pv 0)) (d4 (pv 1)) (d4 (aB T.bj T.bV (pv 0))))))));have eD:=sa.ob;have qG:=sa.BN;have AA:fH≠x:=cE qG eD rfl;symm;exists fH,cR js input,10,js.length,rfl,qG,(by decide);symm;exists _,_,rfl;rfl';intro q hq;have Ik:=Nb js input;have hlen:=sa.len;rw[hlen]at Ik
 have e:(if (65536:Int)<((L2.placeOf (cR js input) 10 js.length:Nat):Int)+1 then(65536:Int)else((L2.placeOf (cR js input) 10 js.length:Nat):Int)+1)=((js.length+fu input:Nat):Int):=by
  split<;>lia
 rw[e]at hq⊢;have hll:=Zy input;obtain⟨AB,Ji⟩:=aM hq
 have kJ:lr ((cR js input).map V.int) (some (js.length:Int)) (some ((js.length+fu input:Nat):Int))=iv (input.take (fu input)):=by
  (try rw[pS,cF])
  have e1:(cR js input).drop js.length=zi input++[-1]:=by unfold cR zi;rw[bu,jt]
  (try rw[e1,dH (by unfold zi;simpa using hll),eS])
  unfold zi;(try rw[<-eB])
 (try rw[kJ])
 have him:im≠x:=fun z=>by have:=sa.ti;rw[z,sa.tg]at this;cases this
 have hxq:x≠q:=aD AB;have hrq:fH≠q:=bO Ji qG;have hiq:im≠q:=bO Ji sa.ZI;refine k _ q (js++zi (input.take (fu input))) ⟨fun b r e _=>e,fun b r u e hn hu=> ?_,fun b hb=>lN b (aM (aM hb).2).2⟩ Ji aq (sa.on (fu input) hll ?_ ?_ ?_)
 ·have b1:b≠x:=fun z=>by rw[z,sa.tg]at e;cases e;exact hn (.inl rfl)
  exact(ai (bO Ji hu)).trans ((ai b1).trans hu)
 ·exact(ai hxq).trans aq
 ·(try rw[ai hrq,ai AA])
 ·(try rw[ai hiq,ai him])
theorem MZ(js:List Int)(input:B)(i:Nat):(cR js input)[js.length+i]? =if i<input.length then(input[i]?).map (fun(n:Nat)=>(n:Int))else if i=input.length then some (-1)else none:=by
 unfold cR;rw[bu,kW (by lia),cF]
 by_cases h:i<input.length
 ·rw[if_pos h,lz (by simpa using h),cJ]
 ·rw[if_neg h,kW (by simpa using h)]
  by_cases h2:i=input.length
  ·subst h2;simp
  ·rw[if_neg h2,hU (by simp;omega)]
inductive Hj(vs:List V)(H:Hp)(Q:VK)(E:XK):Prop
 |mk (Y:iC) (x dx fH im:ao) (js:List Int) (input:B) (_:vs=[.ref x]) (_:SrcAt T Y H x dx fH im js input) (_:Dm Y H) (_:∀H' p EK,aZ SM Y H Y H'->H p=none->H' p=some (.tup (iv (input.takeWhile cf)))->SrcAt T Y H' x dx fH im EK (input.dropWhile cf)->Q (.ref p) H')
theorem wq:T.kN.Ok P w mg ag iN 1 (Hj T):=by
 rcases h:T.kN.jG ["self","row","in_names","start","place"]with⟨Y,x,dx,fH,im,js,input,rfl,sa,lN,k⟩;exists _,(ah (bh 1 nd0 (aB T.bj T.ez (pv 0))) (ah (bh 2 nd0 (aB T.bj T.mI (pv 0))) (ah (bh 3 nd0 (aB T.bj T.bV (pv 0))) (ah (bh 4 nd0 (pv 3)) (ah (gx cA (iY (c5 b6 (pv 2) (c5 b6 (pv 1) (pv 4)))) (aj (gR 4 nd0 aO iG))) (ah (cD T.bj T.bV (pv 0) (pv 4)) (aj (a6 (gL gK rfl T.nL (by first|rfl|decide+kernel) (p1 (gm ic (pv 1) (d4 (pv 3)) (d4 (pv 4)))))))))))));have eD:=sa.ob;have qG:=sa.BN;have ZZ:=sa.ZI;have AA:fH≠x:=cE qG eD rfl;symm;exists fun m Z H'=>H'=H/\∃i,Z=[some (V.ref x),some (V.ref fH),some (V.ref im),some (V.int (js.length:Int)),some (V.int ((js.length+i:Nat):Int))]/\m=input.length- i/\i<=input.length/\endOf cf input i=endOf cf input 0,⟨_,rfl,0,rfl,rfl,aC _,rfl⟩;rintro m Z H' ⟨rfl,i,rfl,rfl,hi,ei⟩;have Jm:=MZ js input i
 by_cases iB:i<input.length
 ·obtain⟨c,hc⟩:=k6 iB;rw[if_pos iB,hc]at Jm;have hg:=j6 Jm;have hg2:=KU (sa.sm c (bc hc));clear Jm;symm
  cases hw:cf c with
  |true=>
   rfl';exact⟨_,fun _ _ h=>h,_,by omega,rfl,i+1,rfl,rfl,iB,by rw[tX hc hw];exact ei⟩
  |false=>
   rfl';rw[nD hi (.inr ⟨_,hc,hw⟩)]at ei;have Wp:=ei.symm;clear ei;clear hc hw;clear hg hg2;symm;intro q hq;obtain⟨AB,Ji⟩:=aM hq
   have kJ:lr ((cR js input).map V.int) (some (js.length:Int)) (some ((js.length+i:Nat):Int))=iv (input.takeWhile cf):=by
    (try rw[pS,cF])
    have e1:(cR js input).drop js.length=zi input++[-1]:=by unfold cR zi;rw[bu,jt]
    have e2:=xY (p:=cf) (t:=input) (i:=0) (aC _);rw[Wp,vK,kU]at e2;(try rw[e1,dH (by unfold zi;simpa using hi),eS,<-e2])
    unfold zi;(try rw[<-eB])
   (try rw[kJ])
   refine⟨q,_,rfl,.inl ⟨kE.of aq,fun l hl=> ?_⟩⟩;obtain⟨hlq,L7⟩:=aM hl;obtain⟨hlx,ZY⟩:=aM L7
   have hdw:input.drop i=input.dropWhile cf:=by
    have e2:=lO (p:=cf) (t:=input) (i:=0);rw[Wp,kU]at e2;exact e2
   have FA:im≠x:=fun z=>by have:=sa.ti;rw[z,sa.tg]at this;cases this
   have on:=sa.on (H':=upd (upd (upd H' x (.ins T.bU dx (cT (.int ((js.length+i:Nat):Int)) (.ref fH) (.ref im)))) q (.lst (iv (input.takeWhile cf)))) l (.tup (iv (input.takeWhile cf)))) i hi ((ai (aD hlx)).trans ((ai (aD AB)).trans aq)) (by rw[ai (bO ZY qG),ai (bO Ji qG),ai AA]) (by rw[ai (bO ZY ZZ),ai (bO Ji ZZ),ai FA]);rw[hdw]at on;refine k _ l _ ⟨fun b r e _=>e,fun b r u e hn hu=> ?_,fun b hb=>lN b (aM (aM (aM hb).2).2).2⟩ ZY aq on;have b1:b≠x:=fun z=>by rw[z,sa.tg]at e;cases e;exact hn (.inl rfl)
   exact(ai (bO ZY hu)).trans ((ai (bO Ji hu)).trans ((ai b1).trans hu))
 ·rw[if_neg iB,if_pos (by lia)]at Jm;have hg:=j6 Jm;have hg2:=Gm;clear Jm;symm;rw[nD hi (.inl (by lia))]at ei;have Wp:=ei.symm;clear ei;clear hg hg2;symm;intro q hq;obtain⟨AB,Ji⟩:=aM hq
  have kJ:lr ((cR js input).map V.int) (some (js.length:Int)) (some ((js.length+i:Nat):Int))=iv (input.takeWhile cf):=by
   (try rw[pS,cF])
   have e1:(cR js input).drop js.length=zi input++[-1]:=by unfold cR zi;rw[bu,jt]
   have e2:=xY (p:=cf) (t:=input) (i:=0) (aC _);rw[Wp,vK,kU]at e2;(try rw[e1,dH (by unfold zi;simpa using hi),eS,<-e2])
   unfold zi;(try rw[<-eB])
  (try rw[kJ])
  refine⟨q,_,rfl,.inl ⟨kE.of aq,fun l hl=> ?_⟩⟩;obtain⟨hlq,L7⟩:=aM hl;obtain⟨hlx,ZY⟩:=aM L7
  have hdw:input.drop i=input.dropWhile cf:=by
   have e2:=lO (p:=cf) (t:=input) (i:=0);rw[Wp,kU]at e2;exact e2
  have FA:im≠x:=fun z=>by have:=sa.ti;rw[z,sa.tg]at this;cases this
  have on:=sa.on (H':=upd (upd (upd H' x (.ins T.bU dx (cT (.int ((js.length+i:Nat):Int)) (.ref fH) (.ref im)))) q (.lst (iv (input.takeWhile cf)))) l (.tup (iv (input.takeWhile cf)))) i hi ((ai (aD hlx)).trans ((ai (aD AB)).trans aq)) (by rw[ai (bO ZY qG),ai (bO Ji qG),ai AA]) (by rw[ai (bO ZY ZZ),ai (bO Ji ZZ),ai FA]);rw[hdw]at on;refine k _ l _ ⟨fun b r e _=>e,fun b r u e hn hu=> ?_,fun b hb=>lN b (aM (aM (aM hb).2).2).2⟩ ZY aq on;have b1:b≠x:=fun z=>by rw[z,sa.tg]at e;cases e;exact hn (.inl rfl)
  exact(ai (bO ZY hu)).trans ((ai (bO Ji hu)).trans ((ai b1).trans hu))
inductive yL(vs:List V)(H:Hp)(Q:VK)(E:XK):Prop
 |mk (_:vs=[]) (_:∀H' p,bE H H'->H p=none->H' p=some (.lst marks)->Q (.ref p) H')
theorem y9:T.km.Ok P w mg ag iN 2 yL:=by
 rcases h:T.km.jG ["marks","byte"]with⟨rfl,k⟩;exists _,(ah (bh 0 nd0 (cu Vp (cH (p1 vg)) aO)) (ah (oE cA rfl (jA (cG T.Du (Ao T) hr bq (p1 Ak))) (fk 1 nd0) (aj (DG vg (DK (pv 0) (pv 1) set_list)))) (ah (DG vg (DK (pv 0) (bC rfl T.vq) set_list)) (aj (a6 (pv 0))))));symm;refine⟨by decide,fun p hp=> ?_⟩;refine⟨p,257,[V.bl false],rfl,rfl,aq,by decide,by decide,by decide,fun d hd=> ?_⟩;obtain⟨hdp,Wr⟩:=aM hd;have Wc:(aS (257:Int).toNat [V.bl false]).flatten=(aS 257 false).map V.bl:=by decide+kernel
 rw[Wc];generalize FG:upd (upd H p (.lst [V.bl false])) d (.lst ((aS 257 false).map V.bl))=H1;have oQ:bE H H1:=by rw[<-FG];exact bp (aY hp) Wr
 have wZ:H1 d=some (.lst ((aS 257 false).map V.bl)):=(congrFun FG.symm _).trans aq;rfl';refine⟨_,rfl,by decide,fun H2 a gj ha RY=> ?_⟩;symm;have had:a≠d:=cE ha wZ rfl;have Fz:∀c∈(cB "abcdefghijklmnopqrstuvwxyzABCDEFGHIJKLMNOPQRSTUVWXYZ0123456789").cps.toList,c<257:=by decide+kernel
 have ac7:((cB "abcdefghijklmnopqrstuvwxyzABCDEFGHIJKLMNOPQRSTUVWXYZ0123456789").cps.toList.foldl (fun l c=>l.set c true) (aS 257 false)).set 95 true=(c8 257).map fun c=>decide (c<256)&&cf c:=by decide+kernel
 generalize (cB "abcdefghijklmnopqrstuvwxyzABCDEFGHIJKLMNOPQRSTUVWXYZ0123456789").cps.toList=ls at RY Fz ac7;have hd2:=gj _ _ wZ
 have hln:∀l:B,(l.foldl (fun(l:List Bool) c=>l.set c true) (aS 257 false)).length=257:=fun l=>by
  have:∀(l:B) (m:List Bool),(l.foldl (fun(l:List Bool) c=>l.set c true) m).length=m.length:=fun l=>by
   induction l with
   |nil=>intro m;rfl
   |cons c l ih=>intro m;(try rw[dX,ih,vM])
  (try rw[this,hV])
 clear Wc FG;generalize aS 257 false=M0 at ac7 wZ hd2 hln⊢;refine wM.bytes (t:=ls) RY (fun i Z H'=>H'=upd H2 d (.lst (((ls.take i).foldl (fun(l:List Bool) c=>l.set c true) M0).map V.bl))/\∃v,Z=[some (V.ref d),v]) ⟨(JJ hd2).symm,none,rfl⟩ (fun i Z H' h=>by rw[h.1,ai had];exact RY) ?_ ?_
 ·rintro i c Z H' hc ⟨rfl,v,rfl⟩;have hc2:=Fz c (bc hc);have hl:=hln (ls.take i);have hT:=take_snoc hc
  have hix:∀L:List Bool,L.length=257->HZ (L.map V.bl).length (c:Int)=some c:=fun L e=>by
   unfold HZ;(try rw[aN,e,if_pos (by lia)]);rw[if_pos (by lia)];rfl
  (try rw[hT])
  clear hT hc;have hx:=hix _ hl;clear hix hl;symm;refine⟨?_,_,rfl⟩;(try rw[kC,<-Bt]);rfl
 ·rintro Z H' ⟨rfl,v,rfl⟩;have hl:=hln ls;rfl';(try rw[cQ])
  have hx:HZ ((ls.foldl (fun(l:List Bool) c=>l.set c true) M0).map V.bl).length (95:Int)=some 95:=by
   unfold HZ;(try rw[aN,hl]);rfl
  clear hl;symm;refine k _ d (bp (oQ.trans gj) Wr) Wr ?_;(try rw[aq,<-Bt,ac7])
  unfold marks;(try rw[gP]);rfl
theorem MY(js:List Int)(t:B)(i:Nat):cR (js++zi (t.take i)) (t.drop i)=cR js t:=by
 unfold cR zi;have e:(t.map fun(n:Nat)=>(n:Int))=((t.take i).map fun(n:Nat)=>(n:Int))++((t.drop i).map fun(n:Nat)=>(n:Int)):=by rw[<-bL,eV]
 rw[e];simp
theorem Dw(js:List Int)(t:B)(i:Nat)(hi:i<=t.length):(cR js t).drop (js.length+i)=zi (t.drop i)++[-1]:=by
 have hl:(js++zi (t.take i)).length=js.length+i:=by unfold zi;simp;lia
 rw[<-MY js t i,<-hl];unfold cR;rw[bu,jt];rfl
theorem Ks(js:List Int)(t:B)(c i:Nat)(hi:i<=t.length):L2.placeOf (cR js t) (c:Int) (js.length+i)=match (t.drop i).findIdx? (·==c)with
 |some j=>js.length+i+j
 |none=>js.length+t.length+1:=by
 have hl:(cR js t).length=js.length+t.length+1:=by unfold cR;simp;lia
 unfold L2.placeOf;rw[Dw js t i hi,xg]
 have e1:([-1]:List Int).findIdx? (fun x=>x==(c:Int))=none:=by
  rw[TJ];have:((-1:Int)==(c:Int))=false:=by rw[beq_eq_false_iff_ne];lia
  rw[this];rfl
 have e2:(zi (t.drop i)).findIdx? (fun x=>x==(c:Int))=(t.drop i).findIdx? (·==c):=by
  unfold zi;rw[Xt]
  congr 1
  funext n
  show ((n:Int)==(c:Int))=(n==c)
  by_cases h:n=c
  ·subst h;simp
  ·have e:((n:Int)==(c:Int))=false:=by rw[beq_eq_false_iff_ne];lia
   have e2:(n==c)=false:=by rw[beq_eq_false_iff_ne];exact h
   rw[e,e2]
 rw[e1,e2,Option.map_none,Option.or_none]
 cases (t.drop i).findIdx? (·==c)with
 |none=>exact hl
 |some j=>rfl
theorem yo.upto{y:dw}{t:B}{o c i d:Nat}(ho:y.open_=[o])(hc:y.close=[c])(h:yo y t i d):match (t.drop i).findIdx? (·==c)with
 |none=>qt y 0 t=none
 |some j=>i+j<t.length/\yo y t (i+j) (d+((t.drop i).take j).count o)/\yp y.close (t.drop (i+j)):=by
 have hle:=h.le
 cases hf:(t.drop i).findIdx? (·==c)with
 |none=>
  dsimp only;have hn:=rE.mp hf
  have h2:=yo.skip ho hc (t.length- i) i d h (by lia) fun j h1 h2 e=>by
   have hm:c∈t.drop i:=by
    have:(t.drop i)[j- i]? =some c:=by rw[qO,show i+(j- i)=j by lia];exact e
    exact bc this
   have:=hn c hm;simp at this
  exact yo.end h2 (by lia)
 |some j=>
  dsimp only;obtain⟨hj,hp,hb⟩:=ip.mp hf;rw[aL]at hj
  have hc':t[i+j]? =some c:=by
   have:(t.drop i)[j]? =some c:=by
    rw[cy (by rw[aL];lia)]
    congr 1
    simpa using hp
   rwa [qO]at this
  refine⟨by omega,yo.skip ho hc j i d h (by omega) fun k h1 h2 e=> ?_,?_⟩
  ·have:=hb (k- i) (by lia);have e2:(t.drop i)[k- i]? =some c:=by rw[qO,show i+(k- i)=k by lia];exact e
   rw[cy (by rw[aL];omega)]at e2;have e3:=bo e2;rw[e3]at this;simp at this
  ·rw[hc,aI (by omega)];exists (by simp);rw[cy (by omega)]at hc';simp[bo hc']
theorem T1(t:B)(o:Nat):(zi t).count (o:Int)=t.count o:=by
 unfold zi
 induction t with
 |nil=>rfl
 |cons c t ih=>
  rw[a4,pC,pC,ih]
  congr 1
  by_cases h:c=o
  ·subst h;simp
  ·have e:((c:Int)==(o:Int))=false:=by rw[beq_eq_false_iff_ne];lia
   have e2:(c==o)=false:=by rw[beq_eq_false_iff_ne];exact h
   rw[e,e2]
inductive BK(vs:List V)(H:Hp)(Q:VK)(E:XK):Prop
 |mk (x dx fH:ao) (pl im:V) (js:List Int) (t:B) (o c:Nat) (y:dw) (_:vs=[.ref x,.int (js.length:Nat),.int o,.int c]) (_:H x=some (.ins T.bU dx (cT pl (.ref fH) im))) (_:H fH=some (.lst ((cR js t).map V.int))) (_:js.length+t.length=65536) (_:c<256) (_:y.open_=[o]) (_:y.close=[c]) (_:match qt y 0 t with
 |none=>∀H',bE H H'->E (.ref T.eu) none H'
 |some q=>∀H',bE H H'->Q (.int ((js.length+q.1.length:Nat):Int)) H')
theorem tJ:T.k8.Ok P w mg ag (jF P w) 2 (BK T):=by
 rcases h:T.k8.qj ["self","place","opening","closing","depth","end"]with⟨x,dx,fH,pl,im,js,t,o,c,y,rfl,hx,qG,hlen,hc,ho,rY,k⟩;exists _,(ah (bh 4 nd0 aO) (aj (gx fm (iY vg) (ah (bh 5 nd0 (cG T.ve (vj T) hr bq (aV (aB T.bj T.ez (pv 0)) (aV (pv 3) (p1 (pv 1)))))) (ah (ck (aR qy (pv 5) (bC rfl T.mE)) (aj (ff T.kG hr)) bQ) (ah (gR 4 nd0 (cu iF (j0 aJ PySem.F.slot_list_count PySem.F.type_list_count Ro (gm ic (aB T.bj T.ez (pv 0)) (d4 (pv 1)) (d4 (pv 5))) (p1 (pv 2))) aO) iG) (ah (ck (aR d9 (pv 4) aO) (aj (a6 (pv 5))) bQ) (aj (bh 1 nd0 (cu dz (pv 5) aO))))))))));symm;exists fun m Z H'=>bE H H'/\∃i d v,Z=[some (V.ref x),some (V.int ((js.length+i:Nat):Int)),some (V.int (o:Int)),some (V.int (c:Int)),some (V.int ((d+1:Nat):Int)),v]/\m=t.length- i/\yo y t i d,⟨_,bE.refl H,0,0,none,rfl,rfl,yo.start y t⟩;intro m Z H1 w_;rcases w_ with⟨sm,i,d,v,rfl,rfl,hq⟩;have rX:=sm _ _ hx;have Ih:=sm _ _ qG;clear hx qG;symm;exists _,fun _ _ h=>h;rfl';exists fH,cR js t,(c:Int),js.length+i,rfl,Ih,(by omega);rfl';(try rw[Ks js t c i hq.le])
 have hu:=hq.upto ho rY;have ZV:=hq.le
 cases hf:(t.drop i).findIdx? (·==c)with
 |none=>
  rw[hf]at hu;dsimp only at hu⊢;rw[hu]at k;clear hf hu ho rY;have hgt:(65536:Int)<((js.length+t.length+1:Nat):Int):=by omega
  have k':=k _ sm;clear k;symm;refine gB (by lia) ?_;trivial
 |some j=>
  rw[hf]at hu;dsimp only at hu⊢;obtain⟨hj,qH,hh⟩:=hu;clear hf;have hng:¬(65536:Int)<((js.length+i+j:Nat):Int):=by lia
  have kJ:lr ((cR js t).map V.int) (some ((js.length+i:Nat):Int)) (some ((js.length+i+j:Nat):Int))=(zi ((t.drop i).take j)).map V.int:=by
   (try rw[pS,cF,Dw js t i ZV,dH (by unfold zi;rw[aN,aL];lia)])
   unfold zi;(try rw[eB,eB,eB])
  have ajM:=rY;clear ho rY;symm;intro p hp;have ajK:=T1 ((t.drop i).take j) o;exists _,rfl;rfl';(try rw[ajK])
  have gj:=sm.trans (aY (o:=HO.lst ((zi ((t.drop i).take j)).map V.int)) hp);have hdz:((d+1:Nat):Int)+((((t.drop i).take j).count o:Nat)- 1:Int)=((d+((t.drop i).take j).count o:Nat):Int):=by lia
  (try rw[hdz])
  generalize hg:d+((t.drop i).take j).count o=d2 at qH⊢
  cases d2 with
  |zero=>
   refine gB (by rfl) ?_;have Im:=qH.done hh;rw[Im]at k;have hkl:(t.take (i+j)).length=i+j:=by rw[aQ];lia
   have:=k _ gj;rw[hkl,<-jg]at this;exact this
  |succ d3=>
   refine gn (by lia) ?_;have XY:=qH.close hh;rw[ajM]at XY;rfl';refine⟨t.length- (i+j+1),by omega,i+j+1,d3,some (V.int ((js.length+i+j:Nat):Int)),?_,rfl,XY⟩;have e:(((js.length+i+j:Nat):Int)+1)=((js.length+(i+j+1):Nat):Int):=by lia
   (try rw[e])
theorem Dv(js:List Int)(t q:B)(i:Nat)(hi:i<=t.length):((cR js t).drop (js.length+i)).take q.length=zi q↔(t.drop i).take q.length=q:=by
 have hl:(js++zi (t.take i)).length=js.length+i:=by unfold zi;simp;lia
 have:=Ht (js++zi (t.take i)) (t.drop i) q;rw[MY,hl]at this;exact this
inductive Ad(vs:List V)(H:Hp)(Q:VK)(E:XK):Prop
 |mk (x dx fH a b:ao) (pl im:V) (js:List Int) (t:B) (y:dw) (_:vs=[.ref x,.int (js.length:Nat),.ref a,.ref b]) (_:H x=some (.ins T.bU dx (cT pl (.ref fH) im))) (_:H fH=some (.lst ((cR js t).map V.int))) (_:js.length+t.length=65536) (_:H a=some (.lst (iv y.open_))) (_:H b=some (.lst (iv y.close))) (_:y.open_≠[]) (_:y.close≠[]) (_:match qt y 0 t with
 |none=>∀H',bE H H'->E (.ref T.eu) none H'
 |some q=>∀H',bE H H'->Q (.int ((js.length+q.1.length:Nat):Int)) H')
theorem rP:T.kA.Ok P w mg ag (jF P w) 2 (Ad T):=by
 rcases h:T.kA.qj ["self","place","opening","closing","depth"]with⟨x,dx,fH,a,b,pl,im,js,t,y,rfl,hx,qG,hlen,ha,hb,ho,rY,k⟩;exists _,(ah (bh 4 nd0 aO) (ah (gx fm (aR ki (pv 1) (bC rfl T.mE)) (aj (ck (iY (cM (pv 0) T.bj T.jc (kY T) hr bq (aV (pv 3) (p1 (pv 1))))) (ah (gR 4 nd0 aO Ie) (ah (ck (aR d9 (pv 4) aO) (aj (a6 (pv 1))) bQ) (aj (gR 1 nd0 (cL T (pv 3)) iG)))) (aj (ck (iY (cM (pv 0) T.bj T.jc (kY T) hr bq (aV (pv 2) (p1 (pv 1))))) (ah (gR 4 nd0 aO iG) (aj (gR 1 nd0 (cL T (pv 2)) iG))) (aj (gR 1 nd0 aO iG))))))) (aj (ff T.kG hr))));symm;exists fun m Z H'=>bE H H'/\∃i d,Z=[some (V.ref x),some (V.int ((js.length+i:Nat):Int)),some (V.ref a),some (V.ref b),some (V.int ((d+1:Nat):Int))]/\m=t.length- i/\yo y t i d,⟨_,bE.refl H,0,0,rfl,rfl,yo.start y t⟩;rintro m Z H1 ⟨sm,i,d,rfl,rfl,hq⟩;have rX:=sm _ _ hx;have Ih:=sm _ _ qG;have Gv:=sm _ _ ha;have Ip:=sm _ _ hb;have ZV:=hq.le;have XU:(cR js t).length=js.length+t.length+1:=by unfold cR;simp;lia
 clear hx qG ha hb
 by_cases iB:i<t.length
 ·have Ma:((js.length+i:Nat):Int)<65536:=by lia
  symm;exists _,fun _ _ h=>h;rfl';refine⟨x,dx,fH,b,_,_,cR js t,y.close,js.length+i,rfl,rX,Ih,Ip,rY,by lia,fun H2 gj=> ?_⟩;have Td:=Dv js t y.close i ZV
  by_cases hh:(t.drop i).take y.close.length=y.close
  ·have RT:yp y.close (t.drop i):=⟨rY,hh⟩;rfl';(try rw[decide_eq_true (Td.mpr hh)])
   have NZ:=gj _ _ Ip;clear Td hh Ip Gv rX Ih;symm;have hdz:((d+1:Nat):Int)- 1=((d:Nat):Int):=by lia
   (try rw[hdz])
   cases d with
   |zero=>
    refine gB (by rfl) ?_;have Im:=hq.done RT;rw[Im]at k;have hkl:(t.take i).length=i:=by rw[aQ];lia
    have:=k _ (sm.trans gj);rw[hkl]at this;exact this
   |succ d3=>
    refine gn (by lia) ?_;have XY:=hq.close RT;have ajv:=RT.le;rfl';refine⟨t.length- (i+y.close.length),by omega,sm.trans gj,i+y.close.length,d3,?_,rfl,XY⟩;(try rw[<-jg]);rfl
  ·have RT:¬yp y.close (t.drop i):=fun h=>hh h.2;rfl';(try rw[decide_eq_false (fun h=>hh (Td.mp h))])
   have NZ:=gj _ _ Ip;have RY:=gj _ _ Gv;have tS:=gj _ _ rX;have acX:=gj _ _ Ih;clear Td hh Ip Gv rX Ih;symm;refine⟨x,dx,fH,a,_,_,cR js t,y.open_,js.length+i,rfl,tS,acX,RY,ho,by lia,fun H3 kf=> ?_⟩;have Td:=Dv js t y.open_ i ZV
   by_cases hh:(t.drop i).take y.open_.length=y.open_
   ·have PH:yp y.open_ (t.drop i):=⟨ho,hh⟩;rfl';(try rw[decide_eq_true (Td.mpr hh)])
    have ha3:=kf _ _ RY;clear Td hh NZ RY tS acX;have XY:=hq.open RT PH;have ajv:=PH.le;symm;refine⟨t.length- (i+y.open_.length),by omega,(sm.trans gj).trans kf,i+y.open_.length,d+1,?_,rfl,XY⟩;(try rw[<-jg]);rfl
   ·have PH:¬yp y.open_ (t.drop i):=fun h=>hh h.2;rfl';(try rw[decide_eq_false (fun h=>hh (Td.mp h))])
    clear Td hh NZ RY tS acX;have XY:=hq.one iB RT PH;symm;exact⟨t.length- (i+1),by omega,(sm.trans gj).trans kf,i+1,d,rfl,rfl,XY⟩
 ·have Ma:¬((js.length+i:Nat):Int)<65536:=by lia
  have Im:=hq.end (by lia);rw[Im]at k;have k':=k _ sm;clear k;symm
def fO(Y:iC)(p:ao)(r:Tag):iC:=fun b=>if b=p then some r else Y b
theorem bY:fO Y p r p=some r:=if_pos rfl
theorem bw(h:q≠p):fO Y p r q=Y q:=if_neg h
theorem gr(f:aZ M Y H Y' H')(hp:Y' p=none)(hH:H' p=some o):aZ M Y H (fO Y' p r) H':=
 ⟨fun b t e n=>by
  have:=f.tag b t e n;rw[bw (cE this hp rfl)];exact this,f.obj,fun b hb=>by
  rw[bw (cE hb hH rfl)];exact f.dm b hb⟩
theorem YI(d:Dm Y H)(hH:H p=some o):Dm (fO Y p r) H:=fun b hb=>by
 rw[bw (cE hb hH rfl)];exact d b hb
theorem len_one{q:B}(h:q.length=1):∃c,q=[c]:=by
 cases q with
 |nil=>cases h
 |cons c r=>cases r with
  |nil=>exact⟨c,rfl⟩
  |cons _ _=>simp at h
theorem M8{y:dw}:∀{d:Nat} {q:B×B},qt y d t=some q->t=q.1++(y.close++q.2):=by
 suffices H:∀(n:Nat) (t:B) (d:Nat) (q:B×B),t.length<=n->qt y d t=some q->t=q.1++(y.close++q.2) from fun{d q} h=>H t.length t d q (aE _) h
 intro n
 induction n with
 |zero=>
  intro t d q hl h;have:t=[]:=be (by lia);subst this;rw[M7]at h;cases h
 |succ n ih=>
  intro t d q hl h
  by_cases hc:yp y.close t
  ·rw[DB hc]at h
   have ht:t=y.close++t.drop y.close.length:=by
    conv=>lhs;rw[<-eV y.close.length t,hc.2]
   by_cases hd:d=0
   ·rw[if_pos hd]at h
    cases h
    exact ht
   ·rw[if_neg hd]at h;obtain⟨q',e,rfl⟩:=jH.mp h;have:=ih _ _ _ (by have:=hc.lt;lia) e
    conv=>lhs;rw[ht,this]
    simp
  ·by_cases ho:yp y.open_ t
   ·rw[O5 hc ho]at h
    have ht:t=y.open_++t.drop y.open_.length:=by
     conv=>lhs;rw[<-eV y.open_.length t,ho.2]
    obtain⟨q',e,rfl⟩:=jH.mp h;have:=ih _ _ _ (by have:=ho.lt;lia) e
    conv=>lhs;rw[ht,this]
    simp
   ·cases t with
    |nil=>rw[M7]at h;cases h
    |cons c r=>
     rw[UZ hc ho]at h;obtain⟨q',e,rfl⟩:=jH.mp h;have:=ih _ _ _ (by rw[au]at hl;lia) e
     conv=>lhs;rw[this]
     simp
theorem Xh{js:List Int}{input:B}{q:B×B}(h:qt y 0 (input.drop n)=some q)(hn:n<=input.length):lr ((cR js input).map V.int) (some ((js.length:Int)+(n:Int))) (some ((js.length+n+q.1.length:Nat):Int))=iv q.1:=by
 have e:=pS (l:=cR js input) (i:=js.length+n) (j:=js.length+n+q.1.length);rw[cF,Dw js input n hn,M8 h]at e;refine e.trans ?_;rw[eS];unfold zi;rw[bL,bu,dH (by rw[aN];exact aE _),bA (by rw[aN];exact aE _)]
inductive De(vs:List V)(H:Hp)(Q:VK)(E:XK):Prop
 |mk (Y:iC) (x dx fH im xq dq o c:ao) (js:List Int) (input:B) (y:dw) (_:vs=[.ref x,.ref xq]) (_:SrcAt T Y H x dx fH im js input) (_:gA T H xq y.open_ y.close dq o c) (_:Dm Y H) (_:yp y.open_ input) (_:y.close≠[]) (_:Small y.close) (_:xq≠x) (_:match qt y 0 (input.drop y.open_.length)with
 |none=>∀H',aZ SM Y H Y H'->SrcAt T Y H' x dx fH im js input->E (.ref T.eu) none H'
 |some q=>∀H' p EK,aZ SM Y H Y H'->H p=none->H' p=some (.lst (iv q.1))->SrcAt T Y H' x dx fH im EK q.2->Q (.ref p) H')
theorem SrcAt.same{T:Top K mg}{Y:iC}{H H':Hp}{x dx fH im:ao}{js:List Int}{input:B}(h:SrcAt T Y H x dx fH im js input)(s:bE H H'):SrcAt T Y H' x dx fH im js input:=⟨h.tg,s _ _ h.ob,h.tr,s _ _ h.BN,h.ti,s _ _ h.ZI,h.len,h.sm⟩
theorem ur:T.lQ.Ok P w mg ag (jF P w) 3 (De T):=by
 rcases h:T.lQ.qj ["self","quotes","start","end"]with⟨Y,x,dx,fH,im,xq,dq,o,c,js,input,y,rfl,sa,qa,lN,hh,rY,ajb,AB,k⟩;exists _,(ah (bh 2 nd0 (cu dz (aB T.bj T.bV (pv 0)) (cL T (aB T.et T.fh (pv 1))))) (ah (ck (PW.pt (pJ (aR d9 (cL T (aB T.et T.fh (pv 1))) aO) (my (aR d9 (cL T (aB T.et T.fY (pv 1))) aO)))) (aj (bh 3 nd0 (cM (pv 0) T.bj T.k8 (tJ T) hr dC (aV (pv 2) (aV (c5 b6 (aB T.et T.fh (pv 1)) aO) (p1 (c5 b6 (aB T.et T.fY (pv 1)) aO))))))) (aj (bh 3 nd0 (cM (pv 0) T.bj T.kA (rP T) hr dC (aV (pv 2) (aV (aB T.et T.fh (pv 1)) (p1 (aB T.et T.fY (pv 1))))))))) (ah (cD T.bj T.bV (pv 0) (cu dz (pv 3) (cL T (aB T.et T.fY (pv 1))))) (aj (a6 (gm ic (aB T.bj T.ez (pv 0)) (d4 (pv 2)) (d4 (pv 3))))))));have eD:=sa.ob;have qG:=sa.BN;have hqo:=qa.at_;have hop:=qa.Kw;have Io:=qa.Mn;have hlen:=sa.len;have hle:=yp.le (t:=input) (i:=0) (q:=y.open_) (by rw[kU];exact hh);obtain⟨n,hn⟩:∃n,y.open_.length=n:=⟨_,rfl⟩;have EM:(js++zi (input.take n)).length=js.length+n:=by unfold zi;simp;lia
 have Ii:cR (js++zi (input.take n)) (input.drop n)=cR js input:=MY js input n;have AA:fH≠x:=cE qG eD rfl;have hcx:c≠x:=cE Io eD rfl;have FA:im≠x:=fun z=>by have:=sa.ti;rw[z,sa.tg]at this;cases this
 have hon:=hh.1
 have rest:∀(q:B×B) H1,qt y 0 (input.drop n)=some q->bE H H1->(∀H' p EK,aZ SM Y H Y H'->H p=none->H' p=some (.lst (iv q.1))->SrcAt T Y H' x dx fH im EK q.2->Q (.ref p) H')->∀p,upd H1 x (.ins T.bU dx (cT (.int (((js.length+n+q.1.length+y.close.length:Nat)):Int)) (.ref fH) (.ref im))) p=none->Q (.ref p) (upd (upd H1 x (.ins T.bU dx (cT (.int (((js.length+n+q.1.length+y.close.length:Nat)):Int)) (.ref fH) (.ref im)))) p (.lst (iv q.1))):=by
  intro q H1 AD sm k p hp;obtain⟨We,hpH⟩:=aM hp;have kJ:=M8 AD;have hlc:=congrArg cS kJ;rw[aL,aF,aF]at hlc;have hi:=sm _ _ sa.ZI;have ZU:=sm _ _ qG;have on:=sa.on (H':=upd (upd H1 x (.ins T.bU dx (cT (.int (((js.length+n+q.1.length+y.close.length:Nat)):Int)) (.ref fH) (.ref im)))) p (.lst (iv q.1))) (n+q.1.length+y.close.length) (by lia) (by rw[ai (aD We),aq,jg,jg,jg]) (by rw[ai (bO hpH ZU),ai AA,ZU,qG]) (by rw[ai (bO hpH hi),ai FA,hi,sa.ZI])
  have hd:input.drop (n+q.1.length+y.close.length)=q.2:=by
   (try rw[show n+q.1.length+y.close.length=n+(q.1.length+y.close.length) by lia,<-jv,kJ,<-bu,show q.1.length+y.close.length=(q.1++y.close).length by rw[aF],jt])
  rw[hd]at on;refine k _ p _ ⟨fun b r e _=>e,fun b r u e hn hu=> ?_,fun b hb=> ?_⟩ (bE.none sm hpH) aq on
  ·have b1:b≠x:=fun z=>by rw[z,sa.tg]at e;cases e;exact hn (.inl rfl)
   exact(ai (bO hpH (sm _ _ hu))).trans ((ai b1).trans (sm _ _ hu))
  ·exact lN b (bE.none sm (aM (aM hb).2).2)
 rw[hn]at k;clear hh;clear hlen;symm;have hlen:=sa.len;have NU:=hn;clear EM;have EM:(js++zi (input.take n)).length=js.length+n:=by unfold zi;simp;lia
 by_cases h1:1=n
 ·refine gB (by lia) ?_
  by_cases h2:y.close.length=1
  ·rfl';refine gB (by lia) ?_;obtain⟨oc,XZ⟩:=len_one (q:=y.open_) (by lia);obtain⟨cc,Ma⟩:=len_one h2;rfl';exists _,jV (i:=0) (l:=[oc]) rfl;rfl';exists _,jV (i:=0) (l:=[cc]) rfl;exists x,dx,fH,_,_,js++zi (input.take n),input.drop n,oc,cc,y,by rw[show (js.length:Int)+(n:Int)=(((js++zi (input.take n)).length:Nat):Int) by rw[EM];lia],eD,by rw[Ii];exact qG,by rw[EM,aL];lia,ajb cc (by rw[Ma];simp),XZ,Ma
   (try rw[EM])
   cases AD:qt y 0 (input.drop n)with
   |none=>
    rw[AD]at k;exact fun H' sm=>k H' (aZ.same lN sm) (sa.same sm)
   |some q=>
    rw[AD]at k;intro H1 sm;have r1:=rest q H1 AD sm k;have tT:=sm _ _ eD;have Ih:=sm _ _ qG;have afS:=sm _ _ hqo;have abg:=sm _ _ Io;have kJ:lr ((cR js input).map V.int) (some ((js.length:Int)+(n:Int))) (some ((js.length+n+q.1.length:Nat):Int))=iv q.1:=Xh AD (by lia);clear eD qG hqo Io hop k rest AD hn NU EM Ii hlen
    try clear XZ
    try clear Ma
    try clear h2
    try clear h1
    symm;exact r1
  ·rfl';refine gn (by lia) ?_;rfl';exists x,dx,fH,o,c,_,_,js++zi (input.take n),input.drop n,y,by rw[show (js.length:Int)+(n:Int)=(((js++zi (input.take n)).length:Nat):Int) by rw[EM];lia],eD,by rw[Ii];exact qG,by rw[EM,aL];lia,hop,Io,hon,rY
   (try rw[EM])
   cases AD:qt y 0 (input.drop n)with
   |none=>
    rw[AD]at k;exact fun H' sm=>k H' (aZ.same lN sm) (sa.same sm)
   |some q=>
    rw[AD]at k;intro H1 sm;have r1:=rest q H1 AD sm k;have tT:=sm _ _ eD;have Ih:=sm _ _ qG;have afS:=sm _ _ hqo;have abg:=sm _ _ Io;have kJ:lr ((cR js input).map V.int) (some ((js.length:Int)+(n:Int))) (some ((js.length+n+q.1.length:Nat):Int))=iv q.1:=Xh AD (by lia);clear eD qG hqo Io hop k rest AD hn NU EM Ii hlen
    try clear XZ
    try clear Ma
    try clear h2
    try clear h1
    symm;exact r1
 ·refine gn (by lia) ?_;rfl';exists x,dx,fH,o,c,_,_,js++zi (input.take n),input.drop n,y,by rw[show (js.length:Int)+(n:Int)=(((js++zi (input.take n)).length:Nat):Int) by rw[EM];lia],eD,by rw[Ii];exact qG,by rw[EM,aL];lia,hop,Io,hon,rY
  (try rw[EM])
  cases AD:qt y 0 (input.drop n)with
  |none=>
   rw[AD]at k;exact fun H' sm=>k H' (aZ.same lN sm) (sa.same sm)
  |some q=>
   rw[AD]at k;intro H1 sm;have r1:=rest q H1 AD sm k;have tT:=sm _ _ eD;have Ih:=sm _ _ qG;have afS:=sm _ _ hqo;have abg:=sm _ _ Io;have kJ:lr ((cR js input).map V.int) (some ((js.length:Int)+(n:Int))) (some ((js.length+n+q.1.length:Nat):Int))=iv q.1:=Xh AD (by lia);clear eD qG hqo Io hop k rest AD hn NU EM Ii hlen
   try clear XZ
   try clear Ma
   try clear h2
   try clear h1
   symm;exact r1
inductive Dk(vs:List V)(H:Hp)(Q:VK)(E:XK):Prop
 |mk (Y:iC) (x dx a:ao) (t:B) (_:vs=[.ref x,.ref a]) (_:H x=some (.ins T.bU dx [])) (_:H a=some (.lst (iv t))) (_:t.length<=65536) (_:Small t) (_:Y x=none) (_:Dm Y H) (_:∀Y' H' fH im js,aZ (fun _=>False) Y H Y' H'->SrcAt T Y' H' x dx fH im js t->Q .fI H')
theorem DW:T.l7.Ok P w mg ag iN 3 (Dk T):=by
 rcases h:T.l7.jG ["self","text"]with⟨Y,x,dx,a,t,rfl,hx,ha,zp,Fz,AA,lN,k⟩;exists _,(ah (cD T.bj T.bV (pv 0) (cu iF (bC rfl T.mE) (cL T (pv 1)))) (ah (cD T.bj T.ez (pv 0) (cu An (cu An (cu Vp (cH (p1 aO)) (aB T.bj T.bV (pv 0))) (pv 1)) (cH (p1 (bC rfl T.V2))))) (aj (cD T.bj T.mI (pv 0) (yZ (y9 T) (hr.mono (by decide)) rfl T.km.m T.km.F.kp T.km.b .nil bq)))));have hax:a≠x:=cE ha hx rfl;obtain⟨n,hn⟩:∃n:Nat,(65536:Int)- (t.length:Int)=(n:Int):=⟨65536- t.length,by omega⟩;have hnl:n+t.length=65536:=by lia
 symm;refine⟨by decide,fun p hp=> ?_⟩;obtain⟨We,hpH⟩:=aM hp;have RN:=aD We;symm;refine⟨p,(n:Int),[V.int 0],rfl,rfl,aq,by lia,by lia,?_,fun d hd=> ?_⟩
 ·(try rw[dk,aT]);show 1*n<=_;lia
 have Wc:(aS (n:Int).toNat [V.int 0]).flatten=(aS n (0:Int)).map V.int:=by
  (try rw[dk,List.map_replicate,List.flatten_replicate_singleton])
 (try rw[Wc])
 clear Wc hn;obtain⟨hdp,wZ⟩:=aM hd;obtain⟨sJ,Wr⟩:=aM wZ;generalize uB:upd (upd (upd H x (.ins T.bU dx [("place",V.int (n:Int))])) p (.lst [V.int 0])) d (.lst ((aS n (0:Int)).map V.int))=H2;have Gp:∀b u,H b=some u->b≠x->H2 b=some u:=fun b u e hb=>(congrFun uB.symm _).trans ((ai (bO Wr e)).trans ((ai (bO hpH e)).trans ((ai hb).trans e)))
 have VN:∀b,H2 b=none->b≠x/\H b=none:=fun b e=>by
  rw[<-uB]at e;exact aM (aM (aM e).2).2
 have tS:H2 x=some (.ins T.bU dx [("place",V.int (n:Int))]):=(congrFun uB.symm _).trans ((ai (aD sJ)).trans ((ai RN).trans aq));have hd2:H2 d=some (.lst ((aS n (0:Int)).map V.int)):=(congrFun uB.symm _).trans aq;have RY:=Gp _ _ ha hax;clear uB hx ha hp We hpH RN hd hdp wZ sJ;symm;refine⟨by rw[aN,hV,aT];lia,fun r ZU=>⟨by decide,fun p3 L6=> ?_⟩⟩;have wy:=a9 (o:=HO.lst [V.int (-1)]) (a9 (o:=HO.lst ((aS n (0:Int)).map V.int++iv t)) tS ZU) L6;have hr3:upd (upd H2 r (.lst ((aS n (0:Int)).map V.int++iv t))) p3 (.lst [V.int (-1)]) r=some (.lst ((aS n (0:Int)).map V.int++iv t)):=(ai (aD (aM L6).1)).trans aq;have rV:∀b u,H b=some u->b≠x->upd (upd H2 r (.lst ((aS n (0:Int)).map V.int++iv t))) p3 (.lst [V.int (-1)]) b=some u:=fun b u e hb=>a9 (a9 (Gp b u e hb) ZU) L6;have HI:∀b,upd (upd H2 r (.lst ((aS n (0:Int)).map V.int++iv t))) p3 (.lst [V.int (-1)]) b=none->b≠x/\H b=none:=fun b e=>VN b (aM (aM e).2).2;have afW:upd (upd H2 r (.lst ((aS n (0:Int)).map V.int++iv t))) p3 (.lst [V.int (-1)]) p3=some (.lst [V.int (-1)]):=aq;generalize upd (upd H2 r (.lst ((aS n (0:Int)).map V.int++iv t))) p3 (.lst [V.int (-1)])=H3 at wy hr3 rV HI afW⊢;clear tS hd2 RY ZU L6 Gp VN;symm;refine⟨by rw[aF,aN,hV,oI,aT];lia,fun fH qG=> ?_⟩
 have Ii:(aS n (0:Int)).map V.int++iv t++[V.int (-1)]=(cR (aS n 0) t).map V.int:=by
  unfold cR;(try rw[bL,bL,eS]);rfl
 rfl';(try rw[Ii])
 obtain⟨Wa,ajd⟩:=HI _ qG;have ai4:=aD Wa;have Pw:=a9 (o:=HO.lst ((cR (aS n 0) t).map V.int)) wy qG;have acW:upd H3 fH (.lst ((cR (aS n 0) t).map V.int)) fH=some (.lst ((cR (aS n 0) t).map V.int)):=aq;have aba:∀b u,H b=some u->b≠x->upd H3 fH (.lst ((cR (aS n 0) t).map V.int)) b=some u:=fun b u e hb=>a9 (rV b u e hb) qG;have acy:∀b,upd H3 fH (.lst ((cR (aS n 0) t).map V.int)) b=none->b≠x/\H b=none:=fun b e=>HI b (aM e).2;generalize upd H3 fH (.lst ((cR (aS n 0) t).map V.int))=H4 at Pw acW aba acy⊢;clear wy hr3 rV HI afW Ii qG;symm;refine⟨rfl,fun H5 im sm him aga=> ?_⟩;have hx5:=sm _ _ (aq (H:=H4) (a:=x) (o:=HO.ins T.bU dx [("place",V.int (n:Int)),("row",V.ref fH)]));have afR:=sm _ _ ((ai (H:=H4) (o:=HO.ins T.bU dx [("place",V.int (n:Int)),("row",V.ref fH)]) Wa).trans acW);clear Pw;symm;obtain⟨FA,agb⟩:=aM him;have abe:im≠fH:=cE agb acW rfl;have ajz:=(acy _ agb).2;have n1:Y fH=none:=lN _ ajd;have n2:Y im=none:=lN _ ajz
 have f0:aZ (fun _=>False) Y H Y (upd H5 x (.ins T.bU dx (cT (.int (n:Int)) (.ref fH) (.ref im)))):=⟨fun _ _ e _=>e,fun b r u e _ hu=>by
  have hb:b≠x:=cE e AA rfl;(try rw[ai hb])
  exact sm _ _ ((ai hb).trans (aba b u hu hb)),fun b hb=>by
  have:=TM.bE.none sm (aM hb).2;exact lN b (acy b (aM this).2).2⟩
 have f1:=gr (p:=x) (r:=Tag.src) f0 AA aq;have f2:=gr (p:=fH) (r:=Tag.row) f1 (by rw[bw Wa];exact n1) ((ai Wa).trans afR);have f3:=gr (p:=im) (r:=Tag.jL) f2 (by rw[bw abe,bw FA];exact n2) ((ai FA).trans aga);refine k _ _ fH im (aS n 0) f3 ⟨?_,?_,?_,?_,bY,(ai FA).trans aga,?_,Fz⟩
 ·(try rw[bw (aD FA),bw ai4,bY])
 ·(try rw[aq,hV])
 ·(try rw[bw (aD abe),bY])
 ·exact(ai Wa).trans afR
 ·(try rw[hV]);exact hnl
structure wC where
 x:ao
 dx:ao
 nx:ao
 dn:ao
 dd:ao
 kvs:List (List Key×V)
 qx:ao
 dq:ao
 oq:ao
 cq:ao
 tx:ao
 ps:List ao
def SJ(r:Tag):Prop:=r= .sys\/r= .texts\/(∃k,r= .aside k)\/NM r
structure jM(T:Top K mg)(Y:iC)(H:Hp)(A:wC)(y:dw):Prop where
 tg:Y A.x=some .sys
 ob:H A.x=some (.ins T.cg A.dx (cY (.ref A.nx) (.ref A.qx) (.int (max (-1) y.to_)) (.ref A.tx) (.int (bK y:Nat))))
 na:eG T Y H A.nx A.dn A.dd A.kvs y.defs
 tq:Y A.qx=some .jL
 to:Y A.oq=some .jL
 tc:Y A.cq=some .jL
 qa:gA T H A.qx y.open_ y.close A.dq A.oq A.cq
 tt:Y A.tx=some .texts
 tl:H A.tx=some (.lst (rv A.ps))
 len:A.ps.length=10
 AU:∀k p,A.ps[k]? =some p->Y p=some (.aside k)/\(1<=k->H p=some (.lst (iv (y.aside k))))
theorem EA.fr{T:Top K mg}{M:Tag->Prop}{Y Y':iC}{H H':Hp}{kvs:List (List Key×V)}{n:B}{ds:List dj}(h:EA T Y H kvs n ds)(f:aZ M Y H Y' H')(hM:¬M (.stack n))(hi:¬M .jL):EA T Y' H' kvs n ds:=by
 cases ds with
 |nil=>exact h
 |cons d0 ds=>
  obtain⟨st,ms,e1,e2,e3,e4⟩:=h;exact⟨st,ms,e1,f.tag _ _ e2 hM,f.obj _ _ _ e2 hM e3,e4.fr f hi⟩
theorem eG.fr{T:Top K mg}{M:Tag->Prop}{Y Y':iC}{H H':Hp}{x dx d:ao}{kvs:List (List Key×V)}{defs:List (B×dj)}(h:eG T Y H x dx d kvs defs)(f:aZ M Y H Y' H')(hM:∀r,NM r->¬M r)(hi:¬M .jL):eG T Y' H' x dx d kvs defs:=
 ⟨f.tag _ _ h.tg (hM _ (.inl rfl)),f.obj _ _ _ h.tg (hM _ (.inl rfl)) h.ob,f.tag _ _ h.td (hM _ (.inr (.inl rfl))),f.obj _ _ _ h.td (hM _ (.inr (.inl rfl))) h.dt,fun n=>(h.st n).fr f (hM _ (.inr (.inr ⟨n,rfl⟩))) hi,h.nd,h.ky,h.Oe⟩
theorem jM.set{T:Top K mg}{A:wC}{y y':dw}(h:jM T Y H A y)(f:aZ M Y H Y' H')(hM:∀r,SJ r->r≠.sys->¬M r)(hi:¬M .jL)(hs:Y' A.x=some .sys)
 (ob:H' A.x=some (.ins T.cg A.dx (cY (.ref A.nx) (.ref A.qx) (.int (max (-1) y'.to_)) (.ref A.tx) (.int (bK y':Nat))))) (hd:y'.defs=y.defs) (ho:y'.open_=y.open_) (hc:y'.close=y.close) (ha:y'.aside=y.aside):jM T Y' H' A y':=by
 have hn:∀r,NM r->¬M r:=fun r n=>hM r (.inr (.inr (.inr n))) (fun e=>by subst e;obtain n|n|⟨_,n⟩:=n<;>cases n);have ht:¬M .texts:=hM _ (.inr (.inl rfl)) (by intro e;cases e);have hk:∀k,¬M (.aside k):=fun k=>hM _ (.inr (.inr (.inl ⟨k,rfl⟩))) (by intro e;cases e);refine⟨hs,ob,by rw[hd];exact h.na.fr f hn hi,f.tag _ _ h.tq hi,f.tag _ _ h.to hi,f.tag _ _ h.tc hi,?_,f.tag _ _ h.tt ht,f.obj _ _ _ h.tt ht h.tl,h.len,fun k p e=> ?_⟩
 ·rw[ho,hc];exact⟨f.obj _ _ _ h.tq hi h.qa.at_,f.obj _ _ _ h.to hi h.qa.Kw,f.obj _ _ _ h.tc hi h.qa.Mn⟩
 ·obtain⟨a,b⟩:=h.AU k p e;rw[ha];exact⟨f.tag _ _ a (hk k),fun q=>f.obj _ _ _ a (hk k) (b q)⟩
theorem jM.fr{T:Top K mg}{M:Tag->Prop}{Y Y':iC}{H H':Hp}{A:wC}{y:dw}(h:jM T Y H A y)(f:aZ M Y H Y' H')(hM:∀r,SJ r->¬M r)(hi:¬M .jL):jM T Y' H' A y:=
 h.set f (fun r q _=>hM r q) hi (f.tag _ _ h.tg (hM _ (.inl rfl))) (f.obj _ _ _ h.tg (hM _ (.inl rfl)) h.ob) rfl rfl rfl rfl
theorem aZ.one(d:Dm Y H)(hx:Y x=some r)(hr:M r):aZ M Y H Y (upd H x o):=
 ⟨fun _ _ e _=>e,fun b r' u e n hu=>by
  have:b≠x:=fun z=>by rw[z,hx]at e;cases e;exact n hr
  exact(ai this).trans hu,fun b hb=>d b (aM hb).2⟩
def SyM(r:Tag):Prop:=r= .sys
theorem YL(h:SJ r)(n:r≠.sys):¬SyM r:=n
inductive J2(vs:List V)(H:Hp)(Q:VK)(E:XK):Prop
 |mk (Y:iC) (A:wC) (y:dw) (n:Int) (_:vs=[.ref A.x,.int n]) (_:jM T Y H A y) (_:Dm Y H) (_:∀H',aZ SyM Y H Y H'->jM T Y H' A {y with to_:=if 9<n then-1 else n}->Q .fI H')
theorem xI:T.oK.Ok P w mg ag iN 2 (J2 T):=by
 rcases h:T.oK.jG ["self","number"]with⟨Y,S,y,n,rfl,sa,lN,k⟩;exists _,(aj (cD T.bJ T.fK (pv 0) (ll (PW.pt (DF (aR d9 (pv 1) (bC rfl T.Gq)) (xE (iY (cG T.rW (tH T) hr bq (p1 (pv 1))))))) (pv 1) (bC rfl T.vU))));have eD:=sa.ob
 have fin:∀z:Int,z=max (-1) (if 9<n then-1 else n)->Q .fI (upd H S.x (.ins T.cg S.dx (cY (.ref S.nx) (.ref S.qx) (.int z) (.ref S.tx) (.int (bK y:Nat))))):=fun z hz=>by
  subst hz;have f:aZ SyM Y H Y (upd H S.x (.ins T.cg S.dx (cY (.ref S.nx) (.ref S.qx) (.int (max (-1) (if 9<n then-1 else n))) (.ref S.tx) (.int (bK y:Nat))))):=aZ.one lN sa.tg rfl;exact k _ f (sa.set f (fun r q e=>YL q e) (by intro e;cases e) sa.tg aq rfl rfl rfl rfl)
 clear k;symm
 by_cases h0:n=0
 ·subst h0;refine gB (by rfl) ?_;rfl';exact fin _ (by decide)
 ·refine gn (by simpa using h0) ?_;rfl';exists n,rfl
  by_cases h1:1<=n/\n<=9
  ·rfl';(try rw[decide_eq_true h1])
   symm;exact fin _ (by rw[if_neg (by lia)];lia)
  ·rfl';(try rw[decide_eq_false h1])
   symm;exact fin _ (by split<;>lia)
def Cd(r:Tag):Prop:=r= .sys\/r= .texts\/∃k,r= .aside k
theorem jM.get{T:Top K mg}{Y:iC}{H:Hp}{A:wC}{y:dw}(h:jM T Y H A y){k:Nat}(hk:1<=k)(h9:k<=9):∃p,A.ps[k]? =some p/\Y p=some (.aside k)/\H p=some (.lst (iv (y.aside k))):=by
 obtain⟨p,hp⟩:=k6 (l:=A.ps) (i:=k) (by rw[h.len];lia);obtain⟨a,b⟩:=h.AU k p hp;exact⟨p,hp,a,b hk⟩
def aa7(y:dw)(t:B):dw:={y with aside:=fun k=>if (k:Int)=y.to_ then y.aside k++t else y.aside k}
theorem M9(y:dw)(t:B)(h1:1<=y.to_)(h9:y.to_<=9):bK (aa7 y t)=bK y+t.length:=by
 obtain⟨k,hk⟩:∃k:Nat,(k:Int)=y.to_:=⟨y.to_.toNat,by lia⟩;have:=l5 y (fun j=>if (j:Int)=y.to_ then y.aside j++t else y.aside j) (k:=k) (b:=y.aside k++t) (by lia) (by rw[if_pos hk]) (fun j hj=>by rw[if_neg (by lia)]);rw[aF]at this;exact ye (this.trans (by lia))
inductive QR(vs:List V)(H:Hp)(Q:VK)(E:XK):Prop
 |mk (Y:iC) (A:wC) (y:dw) (a:ao) (t:B) (_:vs=[.ref A.x,.ref a]) (_:jM T Y H A y) (_:Dm Y H) (_:H a=some (.lst (iv t))) (_:Y a=none) (_:1<=y.to_) (_:y.to_<=9) (_:bK y<=65536) (_:if 65536<bK y+t.length then E (.ref T.c7) none H else ∀H',aZ Cd Y H Y H'->jM T Y H' A (aa7 y t)->Q .fI H')
theorem Ap:T.rl.Ok P w mg ag (jF P w) 1 (QR T):=by
 rcases h:T.rl.qj ["self","piece"]with⟨Y,S,y,a,t,rfl,sa,lN,ha,Wu,h1,h9,K8,k⟩;exists _,(ah (ck (aR qy (cu dz (aB T.bJ T.ij (pv 0)) (cL T (pv 1))) (bC rfl T.mE)) (aj (ff T.hW hr)) bQ) (ah (bx (j0 aJ dR PySem.F.type_list_extend jP (c5 b6 (aB T.bJ T.ja (pv 0)) (aB T.bJ T.fK (pv 0))) (p1 (pv 1)))) (aj (ek T.bJ T.ij (pv 0) (cL T (pv 1)) mF))));have eD:=sa.ob;have zp:=sa.tl;refine wN fun g_ k_=> ?_;obtain⟨n,hn⟩:∃n:Nat,y.to_=(n:Int):=⟨y.to_.toNat,by lia⟩;have hmx:max (-1) y.to_=(n:Int):=by lia
 obtain⟨p,hp,tp,hpo⟩:=sa.get (k:=n) (by lia) (by lia);refine wO k_ ?_;clear k_ g_;have agc:=qT hp;have We:p≠S.x:=cE tp sa.tg rfl;have RN:=aD We;have hap:a≠p:=cE Wu tp rfl;have hax:a≠S.x:=cE ha eD rfl;rw[hmx]at eD;symm
 by_cases iH:65536<bK y+t.length
 ·rw[if_pos iH]at k;refine gB (by lia) ?_;exact k
 ·rw[if_neg iH]at k;refine gn (by lia) ?_
  have Ik:(y.aside n).length<=bK y:=by
   have:=l5 y (fun j=>if j=n then []else y.aside j) (k:=n) (b:=[]) (by lia) (by rw[if_pos rfl]) (fun j hj=>by rw[if_neg hj]);have e:([]:B).length=0:=rfl;lia
  have hsz:=M9 y t h1 h9;rfl';exists (by rw[aT];lia);rfl';generalize PU:upd (upd H p (.lst (iv (y.aside n++t)))) S.x (.ins T.cg S.dx (cY (.ref S.nx) (.ref S.qx) (.int (n:Int)) (.ref S.tx) (.int ((bK y:Int)+(t.length:Int)))))=H'
  have f:aZ Cd Y H Y H':=by
   (try rw[<-PU])
   exact(aZ.one (M:=Cd) lN tp (.inr (.inr ⟨_,rfl⟩))).trans (aZ.one (fun b hb=>lN b (aM hb).2) sa.tg (.inl rfl))
  have nn:∀r,NM r->¬Cd r:=by
   rintro r (rfl|rfl|⟨_,rfl⟩) (h|h|⟨_,h⟩)<;>cases h
  have ni:¬Cd .jL:=by rintro(h|h|⟨_,h⟩)<;>cases h
  have NR:S.tx≠S.x:=fun e=>by have:=sa.tt;rw[e,sa.tg]at this;cases this
  have htp:S.tx≠p:=fun e=>by have:=sa.tt;rw[e,tp]at this;cases this
  refine k H' f ⟨sa.tg,?_,sa.na.fr f nn ni,sa.tq,sa.to,sa.tc,⟨f.obj _ _ _ sa.tq ni sa.qa.at_,f.obj _ _ _ sa.to ni sa.qa.Kw,f.obj _ _ _ sa.tc ni sa.qa.Mn⟩,sa.tt,?_,sa.len,fun j q e=> ?_⟩
  ·(try rw[<-PU,aq,hsz])
   show some (HO.ins T.cg S.dx (cY _ _ (.int (n:Int)) _ _))=some (HO.ins T.cg S.dx (cY _ _ (.int (max (-1) y.to_)) _ _));(try rw[hmx]);rfl
  ·exact(congrFun PU.symm _).trans ((ai NR).trans ((ai htp).trans sa.tl))
  ·obtain⟨e1,e2⟩:=sa.AU j q e;refine⟨e1,fun hj=> ?_⟩;have AB:q≠S.x:=cE e1 sa.tg rfl;(try rw[<-PU,ai AB])
   show _=some (HO.lst (iv (if (j:Int)=y.to_ then y.aside j++t else y.aside j)))
   by_cases hjn:j=n
   ·subst hjn;rw[hp]at e
    cases e
    (try rw[aq,if_pos hn.symm])
   ·have Wd:q≠p:=fun z=>by rw[z,tp]at e1;cases e1;exact hjn rfl
    (try rw[ai Wd,if_neg (by lia)])
    exact e2 hj
def B4(l:List Int)(n:Int):List Int:=if n∈l then l else l++[n]
def qM(to_:Int)(ns:List Int):List Int:=ns.foldl (fun l n=>if (1<=n/\n<=9)/\n≠to_ then B4 l n else l) []
def wQ(l:List Int):List (Key×V):=l.map fun n=>(jX n,V.bl true)
theorem Q0(l:List Int)(n:Int):putK (wQ l) (.inl n) (.bl true)=wQ (B4 l n):=by
 unfold putK wQ B4
 by_cases h:n∈l
 ·have h1:((l.map fun n=>((jX n:Key),V.bl true)).any fun p=>decide (p.1=jX n))=true:=by
   rw[Ys];exact⟨(jX n,V.bl true),jl h,by simp⟩
  rw[if_pos h];simp only[h1,if_true];rw[gP];refine lG fun m _=> ?_;show (if (jX m:Key)=jX n then _ else _)=_
  split
  ·rfl
  ·rfl
 ·have h1:((l.map fun n=>((jX n:Key),V.bl true)).any fun p=>decide (p.1=jX n))=false:=by
   rw[XE];intro p hp;obtain⟨m,hm,rfl⟩:=eh.mp hp;simp;intro e;exact h (e▸hm)
  rw[if_neg h];simp only[h1,jT,if_false];rw[bL];rfl
theorem OB(to_:Int)(ns:List Int)(n:Int):qM to_ (ns++[n])=if (1<=n/\n<=9)/\n≠to_ then B4 (qM to_ ns) n else qM to_ ns:=by
 unfold qM;rw[kC];rfl
theorem Xp:m∈B4 l n↔m∈l\/m=n:=by
 unfold B4
 split
 ·rename_i h;exact⟨.inl,fun q=>q.elim id fun e=>e▸h⟩
 ·simp
theorem OD{l:List Int}(h:l.Nodup):(B4 l n).Nodup:=by
 unfold B4
 split
 ·exact h
 ·rename_i hn;rw[m7];refine⟨h,by simp,fun a ha b hb e=> ?_⟩;have:b=n:=by simpa using hb
  exact hn (by rw[<-this,<-e];exact ha)
theorem LL(to_:Int)(ns:List Int):(qM to_ ns).Nodup/\∀n∈qM to_ ns,(1<=n/\n<=9)/\n≠to_:=by
 suffices H:∀l:List Int,l.Nodup->(∀n∈l,(1<=n/\n<=9)/\n≠to_)->(ns.foldl (fun l n=>if (1<=n/\n<=9)/\n≠to_ then B4 l n else l) l).Nodup/\∀n∈ns.foldl (fun l n=>if (1<=n/\n<=9)/\n≠to_ then B4 l n else l) l,(1<=n/\n<=9)/\n≠to_ from H [] xh (fun _ h=>by cases h)
 induction ns with
 |nil=>exact fun l h1 h2=>⟨h1,h2⟩
 |cons n ns ih=>
  intro l h1 h2;rw[dX];refine ih _ ?_ ?_
  ·split
   ·exact OD h1
   ·exact h1
  ·split
   ·rename_i hn;intro m hm;obtain q|rfl:=Xp.mp hm
    ·exact h2 m q
    ·exact hn
   ·exact h2
theorem GO(to_:Int)(ns:List Int):(qM to_ ns).length<=9:=by
 obtain⟨h1,h2⟩:=LL to_ ns;refine DX _ ((c8 9).map fun k=>((k+1:Nat):Int)) h1 fun n hn=> ?_;obtain⟨⟨a,b⟩,_⟩:=h2 n hn;exact eh.mpr ⟨(n- 1).toNat,hG.mpr (by omega),by lia⟩
inductive BH(vs:List V)(H:Hp)(Q:VK)(E:XK):Prop
 |mk (x dx a:ao) (v0 v1 v3 v4:V) (S6:Int) (ns:List Int) (_:vs=[.ref x,.ref a]) (_:H x=some (.ins T.cg dx (cY v0 v1 (.int S6) v3 v4))) (_:H a=some (.lst (ns.map V.int))) (_:∀H' p,bE H H'->H p=none->H' p=some (.lst ((qM S6 ns).map V.int))->Q (.ref p) H')
theorem tI:T.k7.Ok P w mg ag iN 2 (BH T):=by
 rcases h:T.k7.jG ["self","numbers","chosen","number"]with⟨x,dx,a,v0,v1,v3,v4,S6,ns,rfl,hx,ha,k⟩;exists _,(ah (bh 2 nd0 Ku) (ah (oE cA rfl (jA (pv 1)) (fk 3 nd0) (aj (ck (PW.pt (pJ (iY (cG T.rW (tH T) hr bq (p1 (pv 3)))) (my (aR rN (pv 3) (aB T.bJ T.fK (pv 0)))))) (aj (Pc (oV hr) (pv 2) (pv 3) vg rfl)) bQ))) (aj (a6 (gL (En rfl) rfl T.tM (by first|rfl|decide+kernel) (p1 (pv 2)))))));symm;intro d hd;have hxd:x≠d:=bO hd hx;have had:a≠d:=bO hd ha;rfl';refine wM.list (xs:=ns.map V.int) (a9 ha hd) (fun i Z H'=>H'=upd H d (.dK (wQ (qM S6 (ns.take i))))/\∃v,Z=[some (V.ref x),some (V.ref a),some (V.ref d),v]) ⟨rfl,none,rfl⟩ (fun i Z H' h=>by rw[h.1];exact a9 ha hd) ?_ ?_
 ·rintro i v Z H' hv ⟨rfl,vv,rfl⟩;rw[cJ]at hv
  cases hn:ns[i]? with
  |none=>rw[hn]at hv;cases hv
  |some n=>
   rw[hn]at hv
   cases hv
   have hT:ns.take (i+1)=ns.take i++[n]:=by rw[ef,hn];rfl
   have hb:=OB S6 (ns.take i) n;(try rw[hT])
   have rX:upd H d (.dK (wQ (qM S6 (ns.take i)))) x=some (.ins T.cg dx (cY v0 v1 (.int S6) v3 v4)):=a9 hx hd;have wZ:upd H d (.dK (wQ (qM S6 (ns.take i)))) d=some (.dK (wQ (qM S6 (ns.take i)))):=aq;clear hT hn;generalize hB:qM S6 (ns.take i)=Bi at hb rX wZ⊢;symm;exists n,rfl
   by_cases h1:1<=n/\n<=9
   ·rw[decide_eq_true h1]
    by_cases h2:n=S6
    ·rw[if_neg (fun q=>q.2 h2)];subst h2;clear hb;symm;exact⟨_,rfl⟩
    ·rw[if_pos ⟨h1,h2⟩]
     have hlen:(wQ Bi).length<sizeLine:=by
      have:=GO S6 (ns.take i);rw[hB]at this;unfold wQ;(try rw[aN,aT]);lia
     have afV:=Xa (c:=n) (v:=V.bl true) wZ hlen;rw[Q0]at afV;clear hb;symm;refine⟨_,afV,?_,_,rfl⟩;(try rw[YF])
   ·rw[decide_eq_false h1,if_neg (fun q=>h1 q.1)];clear hb;symm;exact⟨_,rfl⟩
 ·rintro Z H' ⟨rfl,v,rfl⟩;rfl';(try rw[aN,cQ])
  symm;refine⟨d,_,rfl,aq,fun l hl=> ?_⟩;have wz:=aM hl;refine k _ l (bp (aY hd) wz.2) wz.2 ?_;(try rw[aq])
  unfold wQ;(try rw[gP]);rfl
def taken(y:dw)(k n:Nat):dw:={y with aside:=fun j=>if j=k then(y.aside j).drop n else y.aside j}
inductive yJ(vs:List V)(H:Hp)(Q:VK)(E:XK):Prop
 |mk (Y:iC) (A:wC) (y:dw) (k n:Nat) (_:vs=[.ref A.x,.int k,.int n]) (_:jM T Y H A y) (_:Dm Y H) (_:1<=k) (_:k<=9) (_:bK y<=65536) (_:∀Y' H' A' p,aZ Cd Y H Y' H'->jM T Y' H' A' (taken y k n)->A'.x=A.x->H p=none->Y' p=none->H' p=some (.lst (iv ((y.aside k).take n)))->Q (.ref p) H')
theorem oR:T.kM.Ok P w mg ag iN 1 (yJ T):=by
 rcases h:T.kM.jG ["self","number","most","taken"]with⟨Y,S,y,j,n,rfl,sa,lN,h1,h9,K8,k⟩;exists _,(ah (bh 3 nd0 (gm ic (c5 b6 (aB T.bJ T.ja (pv 0)) (pv 1)) tD (d4 (pv 2)))) (ah (DG (gm ic (c5 b6 (aB T.bJ T.ja (pv 0)) (pv 1)) (d4 (pv 2)) tD) (DK (aB T.bJ T.ja (pv 0)) (pv 1) set_list)) (ah (ek T.bJ T.ij (pv 0) (cL T (pv 3)) xT) (aj (a6 (pv 3))))));have eD:=sa.ob;have zp:=sa.tl;obtain⟨p,hp,tp,hpo⟩:=sa.get (k:=j) h1 h9;have agc:=qT hp
 have hix:HZ (rv S.ps).length (j:Int)=some j:=by
  unfold HZ;(try rw[fR,sa.len,if_pos (by lia)]);rw[if_pos (by lia)];rfl
 have NR:S.tx≠S.x:=fun e=>by have:=sa.tt;rw[e,sa.tg]at this;cases this
 have hxt:=aD NR;have hcu:=LB (l:=y.aside j) (j:=n);have hcf:=si (l:=y.aside j) (i:=n);symm;intro q hq;have AB:S.x≠q:=bO hq eD;have AD:S.tx≠q:=bO hq zp;have Wd:p≠q:=bO hq hpo;have tT:=a9 (o:=HO.lst (iv ((y.aside j).take n))) eD hq;have ZR:=a9 (o:=HO.lst (iv ((y.aside j).take n))) zp hq;have acZ:=a9 (o:=HO.lst (iv ((y.aside j).take n))) hpo hq;have L5:upd H q (.lst (iv ((y.aside j).take n))) q=some (.lst (iv ((y.aside j).take n))):=aq;have oQ:=aY (o:=HO.lst (iv ((y.aside j).take n))) hq;have sa1:∀b u,H b=some u->upd H q (.lst (iv ((y.aside j).take n))) b=some u:=fun b u e=>oQ b u e;rfl';generalize FG:upd H q (.lst (iv ((y.aside j).take n)))=H1 at tT ZR acZ L5 oQ sa1⊢;clear eD zp hpo;symm;intro q2 qH;have Ji:H q2=none:=TM.bE.none oQ qH;have tS:S.x≠q2:=bO qH tT;have ht2:S.tx≠q2:=bO qH ZR;have hqq:q≠q2:=bO qH L5;have mX:p≠q2:=bO qH acZ;have aje:q≠S.tx:=aD AD;have ajf:q≠S.x:=aD AB;have K5:=a9 (o:=HO.lst (iv ((y.aside j).drop n))) tT qH;have acT:=a9 (o:=HO.lst (iv ((y.aside j).drop n))) ZR qH;have afU:=a9 (o:=HO.lst (iv ((y.aside j).drop n))) L5 qH;have RP:(rv S.ps).set j (V.ref q2)=rv (S.ps.set j q2):=by unfold rv;rw[Bt]
 have Ij:upd H1 q2 (.lst (iv ((y.aside j).drop n))) q2=some (.lst (iv ((y.aside j).drop n))):=aq;have Gp:∀b u,H b=some u->upd H1 q2 (.lst (iv ((y.aside j).drop n))) b=some u:=fun b u e=>a9 (oQ b u e) qH;have VN:∀b,upd H1 q2 (.lst (iv ((y.aside j).drop n))) b=none->b≠q2/\H b=none:=fun b e=>⟨(aM e).1,TM.bE.none oQ (aM e).2⟩;rfl';generalize uB:upd H1 q2 (.lst (iv ((y.aside j).drop n)))=H2 at K5 acT afU Ij Gp VN⊢;clear tT ZR acZ L5 qH;symm
 have hsz:bK (taken y j n)+((y.aside j).take n).length=bK y:=by
  have:=l5 y (fun i=>if i=j then(y.aside i).drop n else y.aside i) (k:=j) (b:=(y.aside j).drop n) ⟨h1,h9⟩ (by rw[if_pos rfl]) (fun i hi=>by rw[if_neg hi]);rw[aL]at this;(try rw[aQ])
  have e:bK (taken y j n)+(y.aside j).length=bK y+((y.aside j).length- n):=this;omega
 generalize zS:upd (upd H2 S.tx (.lst (rv (S.ps.set j q2)))) S.x (.ins T.cg S.dx (cY (.ref S.nx) (.ref S.qx) (.int (max (-1) y.to_)) (.ref S.tx) (.int ((bK y:Int)- (((y.aside j).take n).length:Int)))))=H3;have rV:∀b u,H b=some u->b≠S.x->b≠S.tx->H3 b=some u:=fun b u e h1 h2=>(congrFun zS.symm _).trans ((ai h1).trans ((ai h2).trans (Gp b u e)));have nq2:Y q2=none:=lN _ Ji;have tp':Y p≠none:=by rw[tp];exact fun e=>by cases e
 generalize hρ:(fun b=>if b=q2 then some (Tag.aside j)else if b=p then none else Y b:iC)=Y'
 have rho:∀b r,Y b=some r->b≠p->Y' b=some r:=fun b r e hb=>by
  have:b≠q2:=cE e nq2 rfl;(try rw[<-hρ])
  show (if b=q2 then _ else if b=p then _ else _)=_;rw[if_neg this];rw[if_neg hb];exact e
 have f:aZ Cd Y H Y' H3:=by
  refine⟨fun b r e hn=> ?_,fun b r u e hn hu=> ?_,fun b hb=> ?_⟩
  ·exact rho b r e fun z=>by rw[z,tp]at e;cases e;exact hn (.inr (.inr ⟨_,rfl⟩))
  ·exact rV b u hu (fun z=>by rw[z,sa.tg]at e;cases e;exact hn (.inl rfl)) (fun z=>by rw[z,sa.tt]at e;cases e;exact hn (.inr (.inl rfl)))
  ·rw[<-zS]at hb;obtain⟨b1,b2⟩:=VN b (aM (aM hb).2).2;(try rw[<-hρ])
   show (if b=q2 then _ else if b=p then _ else _)=_;rw[if_neg b1]
   split
   ·rfl
   ·exact lN b b2
 have ni:¬Cd .jL:=by rintro(h|h|⟨_,h⟩)<;>cases h
 have nn:∀r,NM r->¬Cd r:=by
  rintro r (rfl|rfl|⟨_,rfl⟩) (h|h|⟨_,h⟩)<;>cases h
 have ai5:S.x≠p:=fun e=>by have:=sa.tg;rw[e,tp]at this;cases this
 have ai8:S.tx≠p:=fun e=>by have:=sa.tt;rw[e,tp]at this;cases this
 have ajW:H3 q=some (.lst (iv ((y.aside j).take n))):=(congrFun zS.symm _).trans ((ai ajf).trans ((ai aje).trans afU))
 have hnq:Y' q=none:=by
  (try rw[<-hρ])
  show (if q=q2 then _ else if q=p then _ else _)=_;rw[if_neg hqq];rw[if_neg (aD Wd)];exact lN q hq
 refine k Y' H3 {S with ps:=S.ps.set j q2} q f ⟨rho _ _ sa.tg ai5,?_,sa.na.fr f nn ni,f.tag _ _ sa.tq ni,f.tag _ _ sa.to ni,f.tag _ _ sa.tc ni,⟨f.obj _ _ _ sa.tq ni sa.qa.at_,f.obj _ _ _ sa.to ni sa.qa.Kw,f.obj _ _ _ sa.tc ni sa.qa.Mn⟩,rho _ _ sa.tt ai8,?_,?_,fun i r e=> ?_⟩ rfl hq hnq ajW
 ·(try rw[<-zS,aq])
  have e:(bK y:Int)- (((y.aside j).take n).length:Int)=(bK (taken y j n):Nat):=by lia
  (try rw[e]);rfl
 ·exact(congrFun zS.symm _).trans ((ai NR).trans aq)
 ·show (S.ps.set j q2).length=10;(try rw[vM]);exact sa.len
 ·have e:(S.ps.set j q2)[i]? =some r:=e;rw[List.getElem?_set]at e
  by_cases Z0:j=i
  ·subst Z0;rw[if_pos rfl,if_pos (by rw[sa.len];lia)]at e
   cases e
   refine⟨?_,fun _=> ?_⟩
   ·(try rw[<-hρ]);exact if_pos rfl
   ·(try rw[<-zS,ai (aD tS),ai (aD ht2),Ij])
    show _=some (HO.lst (iv (if j=j then _ else _)));rw[if_pos rfl]
  ·rw[if_neg Z0]at e;obtain⟨g1,g2⟩:=sa.AU i r e;have hrp:r≠p:=fun z=>by rw[z,tp]at g1;cases g1;exact Z0 rfl
   refine⟨rho _ _ g1 hrp,fun hi=> ?_⟩;have AA:r≠S.x:=cE g1 sa.tg rfl;have hrt:r≠S.tx:=cE g1 sa.tt rfl;(try rw[rV _ _ (g2 hi) AA hrt])
   show _=some (HO.lst (iv (if i=j then _ else _)));rw[if_neg (aD Z0)]
inductive UL(vs:List V)(H:Hp)(Q:VK)(E:XK):Prop
 |mk (Y:iC) (A:wC) (y:dw) (k:Int) (n:Nat) (_:vs=[.ref A.x,.int k,.int n]) (_:jM T Y H A y) (_:Dm Y H) (_:bK y<=65536) (_:if k<1\/9<k then ∀H' p,bE H H'->H p=none->H' p=some (.lst [.int (-2)])->Q (.ref p) H'
 else ∀Y' H' A' p,aZ Cd Y H Y' H'->jM T Y' H' A' (taken y k.toNat n)->A'.x=A.x->Y' p=none->H' p=some (.lst (iv (((y.aside k.toNat).take n).length::(y.aside k.toNat).take n)))->Q (.ref p) H')
theorem BS:T.ub.Ok P w mg ag iN 2 (UL T):=by
 rcases h:T.ub.jG ["self","number","most","taken"]with⟨Y,S,y,j,n,rfl,sa,lN,K8,k⟩;exists _,(ah (ck (ab7 (iY (cG T.rW (tH T) hr bq (p1 (pv 1))))) (aj (a6 (cH (p1 (bC rfl T.Ax))))) bQ) (ah (bh 3 nd0 (cM (pv 0) T.bJ T.kM (oR T) hr bq (aV (pv 1) (p1 (pv 2))))) (aj (a6 (cu An (cH (p1 (cL T (pv 3)))) (pv 3))))));have eD:=sa.ob;symm;exists j,rfl
 by_cases hj:1<=j/\j<=9
 ·rw[if_neg (by lia)]at k;rfl';(try rw[decide_eq_true hj])
  obtain⟨i,rfl⟩:∃i:Nat,j=(i:Int):=⟨j.toNat,by lia⟩;rw[dk]at k;symm;refine⟨Y,S,y,i,n,rfl,sa,lN,by lia,by lia,K8,fun Y1 H1 S1 p f1 sa1 rX hp np AE=> ?_⟩;clear eD;symm;refine⟨by decide,fun q hq=> ?_⟩;have mX:=a9 (o:=HO.lst [V.int (((y.aside i).take n).length:Nat)]) AE hq;have qH:upd H1 q (.lst [V.int (((y.aside i).take n).length:Nat)]) q=some (.lst [V.int (((y.aside i).take n).length:Nat)]):=aq;have gj:=aY (o:=HO.lst [V.int (((y.aside i).take n).length:Nat)]) hq;generalize upd H1 q (.lst [V.int (((y.aside i).take n).length:Nat)])=H2 at mX qH gj⊢;clear AE;symm
  have Ik:((y.aside i).take n).length<=65536:=by
   have:=l5 y (fun j=>if j=i then []else y.aside j) (k:=i) (b:=[]) (by lia) (by rw[if_pos rfl]) (fun j hj=>by rw[if_neg hj]);have e:([]:B).length=0:=rfl;(try rw[aQ]);lia
  refine⟨by rw[aT];lia,fun r hr2=> ?_⟩;have kf:=gj.trans (aY (o:=HO.lst (V.int (((y.aside i).take n).length:Nat)::iv ((y.aside i).take n))) hr2);refine k Y1 _ S1 r (f1.trans (aZ.same f1.dm kf)) (sa1.fr (aZ.same (M:=fun _=>False) f1.dm kf) (fun _ _ q=>q) (fun q=>q)) rX (f1.dm r (TM.bE.none gj hr2)) aq
 ·rw[if_pos (by lia)]at k;rfl';(try rw[decide_eq_false hj])
  symm;exact⟨by decide,fun p hp=>k _ p (aY hp) hp aq⟩
def zD:List Str:=["define","pushdef","popdef","undefine","defn","ifdef","ifelse","shift","incr","decr","len","index","substr","translit","eval","dnl","changequote","divert","divnum","undivert"]
def iS:List B:=zD.map fun s=>s.cps.toList
def ku(l:List B):List (B×dj):=l.map fun b=>(b,.built b)
theorem C5{l:List B}(h:l.Nodup)(n:B):pA (ku l) n=if n∈l then [.built n]else []:=by
 unfold ku
 induction l with
 |nil=>rfl
 |cons b l ih=>
  rw[fe]at h;rw[a4,eL,ih h.2]
  by_cases e:b=n
  ·subst e;rw[if_pos rfl,if_neg h.1,if_pos aX]
  ·rw[if_neg e]
   by_cases hm:n∈l
   ·rw[if_pos hm,if_pos (aK _ hm)]
   ·rw[if_neg hm,if_neg (by simp[hm,aD e])]
theorem t7:iS.Perm gD:=by decide+kernel
theorem FQ:iS.Nodup:=by decide+kernel
theorem aau:ba (ku iS.reverse)=ba kR.defs:=by decide+kernel
theorem SE:∀i,ba (ku (iS.take i).reverse)<=65536:=by
 intro i
 have h:∀l:List B,∀i,ba (ku (l.take i).reverse)<=ba (ku l.reverse):=fun l=>by
  have e:∀a b:List (B×dj),ba (a++b)=ba a+ba b:=fun a b=>by
   unfold ba;rw[kC,D1];rfl
  intro i
  have:ku l.reverse=ku (l.drop i).reverse++ku (l.take i).reverse:=by
   unfold ku;rw[<-bL,<-SK,eV]
  rw[this,e];lia
 refine cj (h iS i) ?_;decide+kernel
theorem adO(n:B):pA kR.defs n=pA (ku iS.reverse) n:=by
 have h1:kR.defs=ku gD:=rfl;have hn:gD.Nodup:=t7.nodup_iff.mp FQ;rw[h1,C5 hn,C5 (show iS.reverse.Nodup by decide+kernel)]
 by_cases h:n∈gD
 ·rw[if_pos h,if_pos (Cz.mpr (t7.mem_iff.mpr h))]
 ·rw[if_neg h,if_neg (fun q=>h (t7.mem_iff.mp (Cz.mp q)))]
theorem Xm:∀s∈zD,s.cps.size<=100000/\s.cps.toList≠[]:=by decide+kernel
inductive yM(vs:List V)(H:Hp)(Q:VK)(E:XK):Prop
 |mk (Y:iC) (_:vs=[]) (_:Dm Y H) (_:∀Y' H' x dn dd kvs,aZ NM Y H Y' H'->eG T Y' H' x dn dd kvs kR.defs->Q (.ref x) H')
theorem za(D:TopD P w T):T.ko.Ok P w mg ag (jF P w) 3 (yM T):=by
 rcases h:T.ko.qj ["names","word"]with⟨Y,rfl,lN,k⟩;exists _,(ah (bh 0 nd0 (DM T.XH (Fx T) (hr.mono (by decide)) rfl T.VV T.nH.b .nil bq)) (ah (oE fm rfl (Vi D.xR rfl D.xN) (fk 1 nd0) (aj (bx (cM (pv 0) T.dJ T.qb (qZ T) hr dC (aV (gL gK rfl T.nL (by first|rfl|decide+kernel) (p1 (cG T.Du (Ao T) hr bq (p1 (pv 1))))) (p1 (mz T.yg (oG T) (hr.mono (by decide)) rfl T.xK T.iA.b .nil bq (aV (pv 1) (p1 (cH c9)))))))))) (aj (a6 (pv 0)))));symm;intro x dn hx Im vW;refine⟨x,dn,rfl,aq,fun dd hdd=>⟨rfl,?_⟩⟩;have sJ:=(aM hdd).1;have wZ:=(aM hdd).2;have ajJ:=(aM wZ).1;have Wr:=(aM wZ).2;rfl';generalize FG:upd (upd (upd (upd H dn (.own x)) x (.ins T.eF dn [])) dd (.dT [])) x (.ins T.eF dn (fNames (.ref dd) (.int 0)))=H1
 have oQ:bE H H1:=by
  (try rw[<-FG])
  exact bp (bp (bp (bp (bE.refl H) Im) hx) Wr) hx
 have rX:H1 x=some (.ins T.eF dn (fNames (.ref dd) (.int 0))):=(congrFun FG.symm _).trans aq;have ac8:H1 dd=some (.dT []):=(congrFun FG.symm _).trans ((ai sJ).trans aq);have f1:aZ NM Y H (fO (fO Y x .names) dd .dict) H1:=gr (gr (aZ.same lN oQ) (lN x hx) rX) (by rw[bw sJ];exact lN dd Wr) ac8
 have BX:eG T (fO (fO Y x .names) dd .dict) H1 x dn dd [] (ku (iS.take 0).reverse):=
  ⟨by rw[bw (aD sJ)];exact bY,rX,bY,ac8,fun n=>rfl,xh,fun k hk=>absurd hk dh,by decide⟩
 generalize PF:[((dM "define":Key),V.ref T.define.f),(dM "pushdef",.ref T.yV.f),(dM "popdef",.ref T.DH.f),(dM "undefine",.ref T.uT.f),(dM "defn",.ref T.defn.f),(dM "ifdef",.ref T.K3.f),(dM "ifelse",.ref T.D5.f),(dM "shift",.ref T.shift.f),(dM "incr",.ref T.V7.f),(dM "decr",.ref T.Xe.f),(dM "len",.ref T.length.f),(dM "index",.ref T.index.f),(dM "substr",.ref T.substr.f),(dM "translit",.ref T.uU.f),(dM "eval",.ref T.vz.f),(dM "dnl",.ref T.dnl.f),(dM "changequote",.ref T.nU.f),(dM "divert",.ref T.Ei.f),(dM "divnum",.ref T.Eh.f),(dM "undivert",.ref T.uS.f)]=kvs;have abd:kvs.map (·.1)=zD.map fun s=>(dM s:Key):=by rw[<-PF];rfl
 have af8:kvs.length=20:=by rw[<-PF];rfl
 clear PF FG rX ac8 hdd wZ ajJ Wr sJ hx Im vW;refine akp.intro (fun i Z H'=>∃v Y' kv',Z=[some (V.ref x),v]/\aZ NM Y H Y' H'/\eG T Y' H' x dn dd kv' (ku (iS.take i).reverse)) ⟨none,_,_,rfl,f1,BX⟩ ?_ ?_
 ·intro i k v Z H2 hk w_;refine wN fun g_ k_=> ?_;obtain⟨vv,Y2,kv2,rfl,f2,VQ⟩:=w_
  have hw:∃wd:Str,zD[i]? =some wd/\k=dM wd:=by
   have e:(kvs.map (·.1))[i]? =some k:=by rw[cJ,hk];rfl
   rw[abd,cJ]at e
   cases h:zD[i]? with
   |none=>rw[h]at e;cases e
   |some wd=>rw[h]at e;exact⟨wd,rfl,(bo e).symm⟩
  obtain⟨wd,hwd,rfl⟩:=hw;obtain⟨hws,hwn⟩:=Xm wd (bc hwd);refine wO k_ ?_;clear k_ g_
  have hTk:iS.take (i+1)=iS.take i++[wd.cps.toList]:=by
   unfold iS;(try rw[<-eB,<-eB,ef,hwd,bL]);rfl
  have K5:=VQ.ob;(try rw[show kV (dM wd:Key)=V.str wd from rfl])
  clear hk abd;symm;refine⟨wd,rfl,hws,fun H3 a kf ha ha3=>⟨a,_,rfl,.inl ⟨kE.of ha3,fun l hl=>⟨aC _,fun tx NR m dm hm age hmd=> ?_⟩⟩⟩⟩;exists m,dm,_,_,rfl,aq,rfl;have zp:=(aM NR).1;have RO:=(aM NR).2;have hmt:=(aM hm).1;have EL:=(aM hm).2;have hml:=(aM EL).1;have D6:=(aM EL).2;have vY:=(aM age).1;have wZ:=(aM age).2;have hdl:=(aM wZ).1;have hd3:=(aM wZ).2;have n3:∀b,H3 b=none->H2 b=none:=fun b e=>TM.bE.none kf e;generalize Tn:upd (upd (upd (upd (upd H3 l (.tup (iv wd.cps.toList))) tx (.lst [])) dm (.own m)) m (.ins T.dr dm [])) m (.ins T.dr dm (eN (.str wd) (.ref tx)))=H4
  have sI:bE H2 H4:=by
   (try rw[<-Tn])
   exact bp (bp (bp (bp (bp kf (n3 _ hl)) (n3 _ RO)) (n3 _ hd3)) (n3 _ D6)) (n3 _ D6)
  have hl4:H4 l=some (.tup (iv wd.cps.toList)):=(congrFun Tn.symm _).trans ((ai (aD hml)).trans ((ai (aD hml)).trans ((ai (aD hdl)).trans ((ai (aD zp)).trans aq))));have ZS:H4 tx=some (.lst (iv [])):=(congrFun Tn.symm _).trans ((ai (aD hmt)).trans ((ai (aD hmt)).trans ((ai (aD vY)).trans aq)));have hm4:H4 m=some (.ins T.dr dm (eN (.str wd) (.ref tx))):=(congrFun Tn.symm _).trans aq;have f4:aZ (fun _=>False) Y2 H2 (fO (fO Y2 m .jL) tx .jL) H4:=gr (gr (aZ.same f2.dm sI) (f2.dm m (n3 _ D6)) hm4) (by rw[bw (aD hmt)];exact f2.dm tx (n3 _ RO)) ZS;exists _,x,dn,dd,l,m,kv2,_,wd.cps.toList,.built wd.cps.toList,rfl,VQ.fr f4 (fun _ _ q=>q) (fun q=>q),hl4,⟨by rw[bw hmt];exact bY,dm,tx,wd,[],hm4,bY,ZS,hwn,rfl,rfl⟩,f4.dm
  have ed:((wd.cps.toList,Ra32.Def.built wd.cps.toList)::ku (iS.take i).reverse)=ku (iS.take i++[wd.cps.toList]).reverse:=by
   unfold ku;(try rw[SK]);rfl
  have hk2:=SE (i+1);rw[hTk]at hk2;(try rw[ed,if_neg (by lia)])
  intro Y5 H5 kv5 f5 na5;exact⟨_,Y5,kv5,rfl,(f2.trans (f4.mono fun _ q=>q.elim)).trans f5,na5⟩
 ·intro Z H2 w_;rcases w_ with⟨vv,Y2,kv2,rfl,f2,VQ⟩;symm;refine k Y2 H2 x dn dd kv2 f2 ?_;have e:iS.take kvs.length=iS:=by rw[af8];exact bA (by decide)
  rw[e]at VQ;exact VQ.agu adO aau.symm
inductive Dj(vs:List V)(H:Hp)(Q:VK)(E:XK):Prop
 |mk (Y:iC) (x dx:ao) (_:vs=[.ref x]) (_:H x=some (.ins T.cg dx [])) (_:Y x=none) (_:Dm Y H) (_:∀Y' H' S,S.x=x->aZ NM Y H Y' H'->jM T Y' H' S kR->Q .fI H')
theorem vm(D:TopD P w T):T.kz.Ok P w mg ag (jF P w) 4 (Dj T):=by
 rcases h:T.kz.qj ["self","number"]with⟨Y,x,dx,rfl,hx,AA,lN,k⟩;exists _,((ah (cD T.bJ T.gW (pv 0) (yZ (za T D) (hr.mono (by decide)) rfl T.ko.m T.ko.F.kp T.ko.b .nil dC)) (ah (cD T.bJ T.eU (pv 0) (yZ (ue T) (hr.mono (by decide)) rfl T.ig.m T.ig.F.kp T.ig.b .nil bq)) (ah (cD T.bJ T.fK (pv 0) (bC rfl T.Gq)) (ah (cD T.bJ T.ja (pv 0) (Gf rfl nd0 (Q1 rfl T.vT (p1 (cu dz (bC rfl T.qD) aO))) (nW (own:=[("number",1)]) (show FP ["self","number"] (dv (inClass (top 121) 0)) _ _=true by decide+kernel)) (fun _ _ _ _ _=>fk 1 nd0) (fun _ _ _ _ _=>tz) (fun _ _ _ _ _=>(cH c9)))) (aj (cD T.bJ T.ij (pv 0) aO)))))));symm;have ajI:=YI (p:=x) (r:=Tag.sys) lN hx;refine⟨fO Y x .sys,rfl,ajI,fun Y1 H1 nx dn dd kvs f1 BX=> ?_⟩;have n1:¬NM .sys:=by rintro(h|h|⟨_,h⟩)<;>cases h
 have rX:=f1.obj x _ _ bY n1 hx;have tx1:=f1.tag x _ bY n1;have f1':aZ NM Y H Y1 H1:=⟨fun b r e hn=>f1.tag b r (by rw[bw (cE e AA rfl)];exact e) hn,fun b r u e hn hu=>f1.obj b r u (by rw[bw (cE e AA rfl)];exact e) hn hu,f1.dm⟩;clear hx;symm;refine⟨rfl,fun H2 qx dq o c gj AB ho hc qa=> ?_⟩;have tS:=gj _ _ (aq (H:=H1) (a:=x) (o:=HO.ins T.cg dx [("names",V.ref nx)]));clear rX;symm;generalize zS:upd H2 x (.ins T.cg dx [("names",V.ref nx),("quotes",V.ref qx),("target",V.int 0)])=H3;have wy:H3 x=some (.ins T.cg dx [("names",V.ref nx),("quotes",V.ref qx),("target",V.int 0)]):=(congrFun zS.symm _).trans aq;have rV:∀b u,H1 b=some u->b≠x->H3 b=some u:=fun b u e hb=>(congrFun zS.symm _).trans ((ai hb).trans (gj _ _ ((ai hb).trans e)))
 have Y9:gA T H3 qx [96] [39] dq o c:=by
  have q1:=(aM AB).1;have q2:=(aM ho).1;have q3:=(aM hc).1;(try rw[<-zS])
  exact⟨(ai q1).trans qa.at_,(ai q2).trans qa.Kw,(ai q3).trans qa.Mn⟩
 have acY:=(aM AB).2;have XZ:=(aM ho).2;have Ma:=(aM hc).2
 have HI:∀b,H3 b=none->b≠x/\H1 b=none:=fun b e=>by
  rw[<-zS]at e;exact⟨(aM e).1,(aM (TM.bE.none gj (aM e).2)).2⟩
 clear tS qa zS AB ho hc;refine⟨(9+1:Int),rfl,by decide,by decide,fun D hD=>VY (lo:=0) (fun i H'=>∃ps:List ao,ps.length=i/\H' D=some (.lst (rv ps))/\(∀(k:Nat) (p:ao),ps[k]? =some p->H' p=some (.lst [])/\H3 p=none/\p≠D)/\ps.Nodup/\bE H3 H') ⟨[],rfl,aq,(fun k p e=>nomatch (show (none:Option ao)=some p from e)),xh,aY hD⟩ ?_ ?_⟩
 ·intro i H' hi w_;rcases w_ with⟨ps,hl,hD',Pz,hnd,sm⟩;show _/\_;exists rfl;(try rw[ab0,if_pos rfl])
  refine⟨aC _,fun q hq=> ?_⟩;have hDq:D≠q:=bO hq hD';refine⟨rv ps,(ai hDq).trans hD',by rw[fR,hl,aT];have:i<10:=hi;lia,ps++[q],by rw[aF,hl];rfl,by rw[aq,ft],fun k p e=> ?_,?_,fun b u e=> ?_⟩
  ·by_cases hk:k<ps.length
   ·rw[lz hk]at e;obtain⟨e1,e2,e3⟩:=Pz k p e;exact⟨(ai e3).trans ((ai (bO hq e1)).trans e1),e2,e3⟩
   ·rw[kW (by lia)]at e
    have hk0:k- ps.length=0:=by
     cases h:k- ps.length with
     |zero=>rfl
     |succ n=>rw[h]at e;cases e
    rw[hk0]at e
    cases e
    exact⟨(ai (aD hDq)).trans aq,TM.bE.none sm hq,aD hDq⟩
  ·(try rw[m7])
   refine⟨hnd,by simp,fun a ha b hb e=> ?_⟩;have hb:b=q:=by simpa using hb
   refine wN fun g_ k_=> ?_;obtain⟨k,hk⟩:=Qo ha;obtain⟨e1,_,_⟩:=Pz k a hk;refine wO k_ ?_;clear k_ g_;rw[e,hb,hq]at e1
   cases e1
  ·have hbD:b≠D:=cE e hD rfl;exact(ai hbD).trans ((ai (bO hq (sm _ _ e))).trans (sm _ _ e))
 ·intro H4 w_;rcases w_ with⟨ps,hl,hD4,Pz,hnd,sm⟩;have Pw:=sm _ _ wy;clear wy;symm;obtain⟨hDx,hD1⟩:=HI _ hD
  have ZW:∀p∈ps,p≠x/\H1 p=none/\H4 p=some (.lst [])/\H3 p=none/\p≠D:=fun p hp=>by
   refine wN fun g_ k_=> ?_;obtain⟨k,hk⟩:=Qo hp;obtain⟨e1,e2,e3⟩:=Pz k p hk;refine wO k_ ?_;clear k_ g_;exact⟨(HI _ e2).1,(HI _ e2).2,e1,e2,e3⟩
  generalize Ea:upd H4 x (.ins T.cg dx (cY (.ref nx) (.ref qx) (.int 0) (.ref D) (.int 0)))=H5;have Bl:∀b u,H3 b=some u->b≠x->H5 b=some u:=fun b u e hb=>(congrFun Ea.symm _).trans ((ai hb).trans (sm _ _ e));have dmx:=f1.dm;generalize hρ:(fun b=>if b=D then some Tag.texts else if b∈ps then some (Tag.aside (ps.idxOf b))else if b=qx\/b=o\/b=c then some Tag.jL else Y1 b:iC)=Y5
  have rho:∀b r,Y1 b=some r->Y5 b=some r:=fun b r e=>by
   have hb:H1 b≠none:=fun z=>by rw[dmx b z]at e;cases e
   have b1:b≠D:=fun z=>hb (by rw[z];exact hD1);have b2:b∉ps:=fun z=>hb (ZW b z).2.1
   have b3:¬(b=qx\/b=o\/b=c):=by
    rintro(z|z|z)
    ·exact hb (by rw[z];exact acY)
    ·exact hb (by rw[z];exact XZ)
    ·exact hb (by rw[z];exact Ma)
   (try rw[<-hρ])
   show (if b=D then _ else if b∈ps then _ else if b=qx\/b=o\/b=c then _ else _)=_;rw[if_neg b1];rw[if_neg b2];rw[if_neg b3];exact e
  have acP:∀b,H3 b≠none->(b=qx\/b=o\/b=c)->Y5 b=some .jL:=fun b h1 h2=>by
   (try rw[<-hρ])
   show (if b=D then _ else if b∈ps then _ else if b=qx\/b=o\/b=c then _ else _)=_;rw[if_neg (fun z=>h1 (by rw[z];exact hD))];rw[if_neg (fun z=>h1 (ZW b z).2.2.2.1)];rw[if_pos h2]
  have g:aZ (fun t=>t= .sys) Y1 H1 Y5 H5:=by
   refine⟨fun b r e _=>rho b r e,fun b r u e hn hu=> ?_,fun b hb=> ?_⟩
   ·have hbx:b≠x:=fun z=>by rw[z,tx1]at e;cases e;exact hn rfl
    exact Bl b u (rV b u hu hbx) hbx
   ·have hb4:H4 b=none:=by rw[<-Ea]at hb;exact(aM hb).2
    have hb3:=TM.bE.none sm hb4;have Ip:=(HI _ hb3).2;(try rw[<-hρ])
    show (if b=D then _ else if b∈ps then _ else if b=qx\/b=o\/b=c then _ else _)=_;rw[if_neg (cE hb4 hD4 rfl)];rw[if_neg (fun z=>by rw[(ZW b z).2.2.1]at hb4;cases hb4)];(try rw[if_neg])
    ·exact dmx b Ip
    ·rintro(z|z|z)
     ·rw[z,Y9.at_]at hb3;cases hb3
     ·rw[z,Y9.Kw]at hb3;cases hb3
     ·rw[z,Y9.Mn]at hb3;cases hb3
  have fF:aZ NM Y H Y5 H5:=⟨fun b r e hn=>rho b r (f1'.tag b r e hn),fun b r u e hn hu=>by
   have hbx:b≠x:=cE e AA rfl;exact Bl b u (rV b u (f1'.obj b r u e hn hu) hbx) hbx,g.dm⟩
  have nqx:qx≠x:=fun z=>by rw[z]at acY;rw[dmx x acY]at tx1;cases tx1
  have HF:o≠x:=fun z=>by rw[z]at XZ;rw[dmx x XZ]at tx1;cases tx1
  have ncx:c≠x:=fun z=>by rw[z]at Ma;rw[dmx x Ma]at tx1;cases tx1
  refine k Y5 H5 ⟨x,dx,nx,dn,dd,kvs,qx,dq,o,c,D,ps⟩ rfl fF ⟨rho _ _ tx1,?_,BX.fr g (fun r h e=>by subst e;exact n1 h) (by intro e;cases e),?_,?_,?_,⟨Bl _ _ Y9.at_ nqx,Bl _ _ Y9.Kw HF,Bl _ _ Y9.Mn ncx⟩,?_,?_,hl,fun i p e=> ?_⟩
  ·exact(congrFun Ea.symm _).trans aq
  ·exact acP _ (by rw[Y9.at_];exact fun z=>by cases z) (.inl rfl)
  ·exact acP _ (by rw[Y9.Kw];exact fun z=>by cases z) (.inr (.inl rfl))
  ·exact acP _ (by rw[Y9.Mn];exact fun z=>by cases z) (.inr (.inr rfl))
  ·(try rw[<-hρ]);exact if_pos rfl
  ·exact(congrFun Ea.symm _).trans ((ai hDx).trans hD4)
  ·have e:ps[i]? =some p:=e;have hm:=bc e;rcases ZW p hm with⟨h1,h2,h3,h4,h5⟩;refine⟨?_,fun _=> ?_⟩
   ·(try rw[<-hρ])
    show (if p=D then _ else if p∈ps then _ else _)=_;rw[if_neg h5];rw[if_pos hm];obtain⟨hi,he⟩:=aw.mp e
    have:ps.idxOf p=i:=by
     (try rw[<-he])
     exact hnd.idxOf_getElem i hi
    (try rw[this])
   ·exact(congrFun Ea.symm _).trans ((ai h1).trans h3)
structure ji where
 S:wC
 x:ao
 dx:ao
 sx:ao
 EO:ao
 fH:ao
 im:ao
 wr:ao
 cl:ao
 js:List Int
 cs:List ao
def Jg(T:Top K mg)(Y:iC)(H:Hp)(i:Nat)(c:ao)(f:iU):Prop:=Y c=some (.call i)/\∃(dc nm mx ar:ao) (ps:List ao) (p:ao),H c=some (.ins T.dY dc (fw (.ref nm) (.ref mx) (.ref ar) (.bl f.begun) (.int (f.deep:Nat)) (.int (ie f:Nat))))/\Y nm=some .jL/\H nm=some (.tup (iv f.name))/\la T Y H mx f.d/\
 Y ar=some (.args i)/\H ar=some (.lst (rv (ps++[p])))/\yb H ps f.args/\(∀q∈ps,Y q=some .jL)/\Y p=some (.now i)/\H p=some (.lst (iv f.now))
inductive xj(T:Top K mg)(Y:iC)(H:Hp):List ao->List iU->Prop where
 |nil:xj T Y H [] []
 |cons {c:ao} {f:iU} {cs:List ao} {fs:List iU}:Jg T Y H fs.length c f->xj T Y H cs fs->xj T Y H (c::cs) (f::fs)
theorem xj.len{T:Top K mg}{Y:iC}{H:Hp}{cs:List ao}{fs:List iU}(h:xj T Y H cs fs):cs.length=fs.length:=by
 induction h with
 |nil=>rfl
 |cons _ _ ih=>rw[au,au,ih]
theorem yb.fr(h:yb H ps l)(f:aZ M Y H Y' H')(hi:¬M .jL)(ht:∀q∈ps,Y q=some .jL):yb H' ps l:=by
 induction h with
 |nil=>exact .nil
 |cons a b ih=>exact .cons (f.obj _ _ _ (ht _ aX) hi a) (ih fun q hq=>ht q (aK _ hq))
theorem Jg.fr{T:Top K mg}{M:Tag->Prop}{Y Y':iC}{H H':Hp}{i:Nat}{c:ao}{f:iU}(h:Jg T Y H i c f)(g:aZ M Y H Y' H')(h1:¬M (.call i))(h2:¬M (.args i))(h3:¬M (.now i))(hi:¬M .jL):Jg T Y' H' i c f:=by
 obtain⟨e1,dc,nm,mx,ar,ps,p,e2,e3,e4,e5,e6,e7,e8,e9,EN,e11⟩:=h;exact⟨g.tag _ _ e1 h1,dc,nm,mx,ar,ps,p,g.obj _ _ _ e1 h1 e2,g.tag _ _ e3 hi,g.obj _ _ _ e3 hi e4,e5.fr g hi,g.tag _ _ e6 h2,g.obj _ _ _ e6 h2 e7,e8.fr g hi e9,fun q hq=>g.tag _ _ (e9 q hq) hi,g.tag _ _ EN h3,g.obj _ _ _ EN h3 e11⟩
theorem xj.fr{T:Top K mg}{M:Tag->Prop}{Y Y':iC}{H H':Hp}{cs:List ao}{fs:List iU}(h:xj T Y H cs fs)(g:aZ M Y H Y' H')(hM:∀i,i<fs.length->¬M (.call i)/\¬M (.args i)/\¬M (.now i))(hi:¬M .jL):xj T Y' H' cs fs:=by
 induction h with
 |nil=>exact .nil
 | @cons c f cs fs a _ ih=>
   obtain⟨h1,h2,h3⟩:=hM fs.length (by rw[au];lia);exact .cons (a.fr g h1 h2 h3 hi) (ih fun i q=>hM i (by rw[au];lia))
theorem SrcAt.fr{T:Top K mg}{M:Tag->Prop}{Y Y':iC}{H H':Hp}{x dx fH im:ao}{js:List Int}{input:B}(h:SrcAt T Y H x dx fH im js input)(g:aZ M Y H Y' H')(h1:¬M .src)(h2:¬M .row)(hi:¬M .jL):SrcAt T Y' H' x dx fH im js input:=
 ⟨g.tag _ _ h.tg h1,g.obj _ _ _ h.tg h1 h.ob,g.tag _ _ h.tr h2,g.obj _ _ _ h.tr h2 h.BN,g.tag _ _ h.ti hi,g.obj _ _ _ h.ti hi h.ZI,h.len,h.sm⟩
structure cI(T:Top K mg)(Y:iC)(H:Hp)(A:ji)(r:eY)(used:Nat):Prop where
 tg:Y A.x=some .run
 ob:H A.x=some (.ins T.dD A.dx (f9 (.ref A.S.x) (.ref A.sx) (.int (r.room:Nat)) (.ref A.wr) (.ref A.cl) (.int (cw r.frames:Nat)) (.int (used:Nat))))
 sy:jM T Y H A.S r.y
 so:SrcAt T Y H A.sx A.EO A.fH A.im A.js r.input
 tw:Y A.wr=some .written
 wr:H A.wr=some (.lst (iv r.out))
 tc:Y A.cl=some .calls
 cl:H A.cl=some (.lst (rv A.cs.reverse))
 fr:xj T Y H A.cs r.frames
 dm:Dm Y H
 gd:Good r
def Kp(A A':ji):Prop:=(A'.x,A'.S.x)=(A.x,A.S.x)/\A'.sx=A.sx
theorem Kp.x{A A':ji}(h:Kp A A'):A'.x=A.x:=(LR h.1).1
theorem Kp.s{A A':ji}(h:Kp A A'):A'.S.x=A.S.x:=(LR h.1).2
theorem Kp.refl(A:ji):Kp A A:=⟨rfl,rfl⟩
theorem Kp.trans{A B C:ji}(h:Kp A B)(g:Kp B C):Kp A C:=⟨g.1.trans h.1,g.2.trans h.2⟩
def rD(r:Tag):Prop:=r≠.told
def me(T:Top K mg)(Y:iC)(H:Hp)(A:ji)(y:dw)(out:B)(used:Nat):Prop:=Dm Y H/\∃(S:wC) (dx wr:ao) (v1 v2 v4 v5:V),S.x=A.S.x/\md y/\Y wr=some .written/\out.length<=65536/\jM T Y H S y/\H wr=some (.lst (iv out))/\H A.x=some (.ins T.dD dx (f9 (.ref S.x) v1 v2 (.ref wr) v4 v5 (.int (used:Nat))))
def F3(T:Top K mg)(e:Nat)(C:ao):Prop:=(e=1/\C=T.eu)\/(e=2/\C=T.bT)\/(e=3/\C=T.gb)\/(e=4/\C=T.c7)
theorem cI.err{T:Top K mg}{Y:iC}{H:Hp}{A:ji}{r:eY}{used:Nat}(h:cI T Y H A r used):me T Y H A r.y r.out used:=⟨h.dm,A.S,A.dx,A.wr,_,_,_,_,rfl,h.gd.y,h.tw,cj h.gd.ou h.gd.rm,h.sy,h.wr,h.ob⟩
theorem me.kp{T:Top K mg}{Y:iC}{H:Hp}{A A':ji}{y:dw}{out:B}{used:Nat}(h:me T Y H A' y out used)(k:Kp A A'):me T Y H A y out used:=by
 obtain⟨h1,S,dx,wr,v1,v2,v4,v5,h2,h3⟩:=h;obtain⟨e1,e2⟩:=LR k.1;rw[e1]at h3;exact⟨h1,S,dx,wr,v1,v2,v4,v5,h2.trans e2,h3⟩
theorem cI.mono{T:Top K mg}{M:Tag->Prop}{Y Y':iC}{H H':Hp}{A:ji}{r:eY}{used:Nat}(h:cI T Y H A r used)(g:aZ M Y H Y' H')(hM:∀t,¬M t):cI T Y' H' A r used:=
 ⟨g.tag _ _ h.tg (hM _),g.obj _ _ _ h.tg (hM _) h.ob,h.sy.fr g (fun t _=>hM t) (hM _),h.so.fr g (hM _) (hM _) (hM _),g.tag _ _ h.tw (hM _),g.obj _ _ _ h.tw (hM _) h.wr,g.tag _ _ h.tc (hM _),g.obj _ _ _ h.tc (hM _) h.cl,h.fr.fr g (fun _ _=>⟨hM _,hM _,hM _⟩) (hM _),g.dm,h.gd⟩
def NoM(r:Tag):Prop:=False
theorem cI.same{T:Top K mg}{Y:iC}{H H':Hp}{A:ji}{r:eY}{used:Nat}(h:cI T Y H A r used)(s:bE H H'):cI T Y H' A r used:=h.mono (aZ.same (M:=NoM) h.dm s) (fun _ q=>q)
theorem cI.names{T:Top K mg}{Y Y':iC}{H H':Hp}{A:ji}{r:eY}{used:Nat}{kvs:List (List Key×V)}{defs:List (B×dj)}(h:cI T Y H A r used)(g:aZ NM Y H Y' H')(na:eG T Y' H' A.S.nx A.S.dn A.S.dd kvs defs)(gd:md {r.y with defs:=defs}):
 cI T Y' H' {A with S:={A.S with kvs:=kvs}} {r with y:={r.y with defs:=defs}} used:=by
 have n1:¬NM .run:=(by rintro(q|q|⟨_,q⟩)<;>cases q);have n2:¬NM .src:=(by rintro(q|q|⟨_,q⟩)<;>cases q);have n3:¬NM .row:=(by rintro(q|q|⟨_,q⟩)<;>cases q);have n4:¬NM .written:=(by rintro(q|q|⟨_,q⟩)<;>cases q);have n5:¬NM .calls:=(by rintro(q|q|⟨_,q⟩)<;>cases q);have n6:∀i,¬NM (.call i)/\¬NM (.args i)/\¬NM (.now i):=fun i=>⟨(by rintro(q|q|⟨_,q⟩)<;>cases q),(by rintro(q|q|⟨_,q⟩)<;>cases q),(by rintro(q|q|⟨_,q⟩)<;>cases q)⟩;have n7:¬NM .sys:=(by rintro(q|q|⟨_,q⟩)<;>cases q);have n8:¬NM .texts:=(by rintro(q|q|⟨_,q⟩)<;>cases q);have n9:∀k,¬NM (.aside k):=by rintro k (q|q|⟨_,q⟩)<;>cases q
 have s:=h.sy
 exact⟨g.tag _ _ h.tg n1,g.obj _ _ _ h.tg n1 h.ob,
  ⟨g.tag _ _ s.tg n7,g.obj _ _ _ s.tg n7 s.ob,na,g.tag _ _ s.tq iZ,g.tag _ _ s.to iZ,g.tag _ _ s.tc iZ,⟨g.obj _ _ _ s.tq iZ s.qa.at_,g.obj _ _ _ s.to iZ s.qa.Kw,g.obj _ _ _ s.tc iZ s.qa.Mn⟩,g.tag _ _ s.tt n8,g.obj _ _ _ s.tt n8 s.tl,s.len,fun k p e=>let q:=s.AU k p e;⟨g.tag _ _ q.1 (n9 k),fun z=>g.obj _ _ _ q.1 (n9 k) (q.2 z)⟩⟩,
  h.so.fr g n2 n3 iZ,g.tag _ _ h.tw n4,g.obj _ _ _ h.tw n4 h.wr,g.tag _ _ h.tc n5,g.obj _ _ _ h.tc n5 h.cl,h.fr.fr g (fun i _=>n6 i) iZ,g.dm,⟨gd,h.gd.fr,h.gd.hd,h.gd.dp,h.gd.ou,h.gd.rm⟩⟩
theorem cI.sys{T:Top K mg}{Y Y':iC}{H H':Hp}{A:ji}{S:wC}{r:eY}{y:dw}{used:Nat}(h:cI T Y H A r used)(g:aZ Cd Y H Y' H')(sy:jM T Y' H' S y)(hx:S.x=A.S.x)(gd:md y):
 cI T Y' H' {A with S:=S} {r with y:=y} used:=by
 have n1:¬Cd .run:=(by rintro(q|q|⟨_,q⟩)<;>cases q);have n2:¬Cd .src:=(by rintro(q|q|⟨_,q⟩)<;>cases q);have n3:¬Cd .row:=(by rintro(q|q|⟨_,q⟩)<;>cases q);have n4:¬Cd .written:=(by rintro(q|q|⟨_,q⟩)<;>cases q);have n5:¬Cd .calls:=(by rintro(q|q|⟨_,q⟩)<;>cases q);have n6:∀i,¬Cd (.call i)/\¬Cd (.args i)/\¬Cd (.now i):=fun i=>⟨(by rintro(q|q|⟨_,q⟩)<;>cases q),(by rintro(q|q|⟨_,q⟩)<;>cases q),(by rintro(q|q|⟨_,q⟩)<;>cases q)⟩;have n7:¬Cd .jL:=(by rintro(q|q|⟨_,q⟩)<;>cases q)
 exact⟨g.tag _ _ h.tg n1,by show H' A.x=some (.ins T.dD A.dx (f9 (.ref S.x) _ _ _ _ _ _));rw[hx];exact g.obj _ _ _ h.tg n1 h.ob,sy,
  h.so.fr g n2 n3 n7,g.tag _ _ h.tw n4,g.obj _ _ _ h.tw n4 h.wr,g.tag _ _ h.tc n5,g.obj _ _ _ h.tc n5 h.cl,h.fr.fr g (fun i _=>n6 i) n7,g.dm,⟨gd,h.gd.fr,h.gd.hd,h.gd.dp,h.gd.ou,h.gd.rm⟩⟩
theorem cI.src{T:Top K mg}{Y Y':iC}{H H':Hp}{A:ji}{r:eY}{used:Nat}{js:List Int}{input:B}(h:cI T Y H A r used)(g:aZ SM Y H Y' H')(so:SrcAt T Y' H' A.sx A.EO A.fH A.im js input):
 cI T Y' H' {A with js:=js} {r with input:=input} used:=by
 have n:∀t,t≠.src->t≠.row->¬SM t:=fun t h1 h2 q=>q.elim h1 h2;have ni:¬SM .jL:=n _ (by intro e;cases e) (by intro e;cases e);have n1:¬SM .run:=n _ (by intro e;cases e) (by intro e;cases e);have n4:¬SM .written:=n _ (by intro e;cases e) (by intro e;cases e);have n5:¬SM .calls:=n _ (by intro e;cases e) (by intro e;cases e);have n6:∀i,¬SM (.call i)/\¬SM (.args i)/\¬SM (.now i):=fun i=>⟨n _ (by intro e;cases e) (by intro e;cases e),n _ (by intro e;cases e) (by intro e;cases e),n _ (by intro e;cases e) (by intro e;cases e)⟩
 have ns:∀t,SJ t->¬SM t:=by
  rintro t (rfl|rfl|⟨_,rfl⟩|(rfl|rfl|⟨_,rfl⟩))<;>exact n _ (by intro e;cases e) (by intro e;cases e)
 exact⟨g.tag _ _ h.tg n1,g.obj _ _ _ h.tg n1 h.ob,h.sy.fr g ns ni,so,g.tag _ _ h.tw n4,g.obj _ _ _ h.tw n4 h.wr,g.tag _ _ h.tc n5,g.obj _ _ _ h.tc n5 h.cl,h.fr.fr g (fun i _=>n6 i) ni,g.dm,⟨h.gd.y,h.gd.fr,h.gd.hd,h.gd.dp,h.gd.ou,h.gd.rm⟩⟩
theorem sV(h:SM r):rD r:=by obtain rfl|rfl:=h<;>(intro e;cases e)
theorem HG(h:NM r):rD r:=by obtain rfl|rfl|⟨_,rfl⟩:=h<;>(intro e;cases e)
theorem Xn(h:Cd r):rD r:=by obtain rfl|rfl|⟨_,rfl⟩:=h<;>(intro e;cases e)
structure qf(Y:iC)(H:Hp)(a:ao)(ps:List ao)(args:List B):Prop where
 ta:Y a=some .jL
 at_:H a=some (.lst (rv ps))
 tx:yb H ps args
 tp:∀q∈ps,Y q=some .jL
 sm:∀t∈args,Small t
 tot:total args<=65536
 len:args.length<=1025
theorem qf.fr(h:qf Y H a ps args)(g:aZ M Y H Y' H')(hi:¬M .jL):qf Y' H' a ps args:=
 ⟨g.tag _ _ h.ta hi,g.obj _ _ _ h.ta hi h.at_,h.tx.fr g hi h.tp,fun q hq=>g.tag _ _ (h.tp q hq) hi,h.sm,h.tot,h.len⟩
theorem QH{l:List B}:(l.getD i []).length<=total l:=by
 rw[cK]
 cases e:l[i]? with
 |none=>exact aC _
 |some t=>have:=nJ l i e;show t.length<=_;lia
theorem qf.small{args:List B}(h:qf Y H a ps args)(i:Nat):Small (args.getD i []):=by
 rw[cK]
 cases e:args[i]? with
 |none=>exact fun c hc=>by cases hc
 |some t=>exact h.sm t (bc e)
theorem qf.short{args:List B}(h:qf Y H a ps args)(i:Nat):(args.getD i []).length<=65536:=cj QH h.tot
inductive lX(k:String)(vs:List V)(H:Hp)(Q:VK)(E:XK):Prop
 |mk (Y:iC) (A:ji) (r:eY) (used:Nat) (a:ao) (ps:List ao) (args:List B) (_:vs=[.ref A.x,.ref a]) (_:cI T Y H A r used) (_:qf Y H a ps args) (_:(∀e C Y' H',F3 T e C->gC r (bR k) args= .error e->aZ rD Y H Y' H'->me T Y' H' A r.y r.out used->E (.ref C) none H')) (_:(∀r' t Y' H' A' p,gC r (bR k) args=om r' t->aZ rD Y H Y' H'->Kp A A'->cI T Y' H' A' r' used->H' p=some (.lst (iv t))->Small t->(t=[]\/r'=r)->Q (.ref p) H'))
def CM(t:Tag):Prop:=t= .run\/t= .calls\/(∃i,t= .call i)\/(∃i,t= .args i)\/∃i,t= .now i
theorem AL(h:CM r):rD r:=by obtain rfl|rfl|⟨_,rfl⟩|⟨_,rfl⟩|⟨_,rfl⟩:=h<;>(intro e;cases e)
theorem cI.calls{T:Top K mg}{A:ji}{r:eY}{cs:List ao}(h:cI T Y H A r used)(g:aZ CM Y H Y' H')(tg:Y' A.x=some .run)
 (ob:H' A.x=some (.ins T.dD A.dx (f9 (.ref A.S.x) (.ref A.sx) (.int (r.room:Nat)) (.ref A.wr) (.ref A.cl) (.int (cw fs:Nat)) (.int (used':Nat))))) (tc:Y' A.cl=some .calls) (cl:H' A.cl=some (.lst (rv cs.reverse))) (fr:xj T Y' H' cs fs) (gd:Good {r with frames:=fs}):
 cI T Y' H' {A with cs:=cs} {r with frames:=fs} used':=by
 have n:∀t,t≠.run->t≠.calls->(∀i,t≠.call i)->(∀i,t≠.args i)->(∀i,t≠.now i)->¬CM t:=fun t h1 h2 h3 h4 h5 q=>by
  obtain q|q|⟨i,q⟩|⟨i,q⟩|⟨i,q⟩:=q
  ·exact h1 q
  ·exact h2 q
  ·exact h3 i q
  ·exact h4 i q
  ·exact h5 i q
 have ni:¬CM .jL:=n _ (by intro e;cases e) (by intro e;cases e) (by intro i e;cases e) (by intro i e;cases e) (by intro i e;cases e);have n1:¬CM .src:=n _ (by intro e;cases e) (by intro e;cases e) (by intro i e;cases e) (by intro i e;cases e) (by intro i e;cases e);have n2:¬CM .row:=n _ (by intro e;cases e) (by intro e;cases e) (by intro i e;cases e) (by intro i e;cases e) (by intro i e;cases e);have n4:¬CM .written:=n _ (by intro e;cases e) (by intro e;cases e) (by intro i e;cases e) (by intro i e;cases e) (by intro i e;cases e)
 have ns:∀t,SJ t->¬CM t:=by
  rintro t (rfl|rfl|⟨_,rfl⟩|(rfl|rfl|⟨_,rfl⟩))<;>exact n _ (by intro e;cases e) (by intro e;cases e) (by intro i e;cases e) (by intro i e;cases e) (by intro i e;cases e)
 exact⟨tg,ob,h.sy.fr g ns ni,h.so.fr g n1 n2 ni,g.tag _ _ h.tw n4,g.obj _ _ _ h.tw n4 h.wr,tc,cl,fr,g.dm,gd⟩
theorem ZG{z:Int}(h:xi z):z.natAbs<2^64:=by unfold xi at h;omega
theorem jW{T:Top K mg}{k:String}{Y:iC}{H H':Hp}{A:ji}{r:eY}{used:Nat}{args:List B}{Q:VK}{t:B}{p:ao}(ra:cI T Y H A r used)
 (hQ:∀r' t Y' H' A' p,gC r (bR k) args=om r' t->aZ rD Y H Y' H'->Kp A A'->cI T Y' H' A' r' used->H' p=some (.lst (iv t))->Small t->(t=[]\/r'=r)->Q (.ref p) H')
 (hb:gC r (bR k) args=om r t) (sm:bE H H') (hp:H' p=some (.lst (iv t))) (ht:Small t):Q (.ref p) H':=
 hQ r t Y H' A p hb (aZ.same ra.dm sm) (Kp.refl A) (ra.same sm) hp ht (.inr rfl)
theorem t6{T:Top K mg}{k:String}{Y:iC}{H H':Hp}{A:ji}{r:eY}{used:Nat}{args:List B}{E:XK}{e:Nat}{C:ao}(ra:cI T Y H A r used)
 (hE:∀e C Y' H',F3 T e C->gC r (bR k) args= .error e->aZ rD Y H Y' H'->me T Y' H' A r.y r.out used->E (.ref C) none H')
 (hc:F3 T e C) (hb:gC r (bR k) args= .error e) (sm:bE H H'):E (.ref C) none H':=hE e C Y H' hc hb (aZ.same ra.dm sm) (ra.same sm).err
theorem Rb:T.length.Ok P w mg ag iN 3 (lX T "len"):=by
 rcases h:T.length.jG ["run","arguments"]with⟨Y,A,r,used,a,ps,args,rfl,ra,aa,hE,hQ⟩;exists _,(aj (a6 (cG T.decimal (lM T) hr bq (p1 (cL T (cG T.argument (c6 T) hr bq (aV (pv 1) (p1 aO))))))));symm;refine⟨a,ps,args,0,rfl,aa.at_,aa.tx,fun H1 p sm hp _=> ?_⟩;symm;have hl:=aa.short 0;refine⟨_,rfl,by omega,fun H2 q gj hq qH=> ?_⟩;rw[Ug]at qH;exact jW ra hQ (SA r args) (sm.trans gj) qH (sW _)
theorem VD:T.index.Ok P w mg ag iN 3 (lX T "index"):=by
 rcases h:T.index.jG ["run","arguments"]with⟨Y,A,r,used,a,ps,args,rfl,ra,aa,hE,hQ⟩;exists _,(aj (a6 (cG T.decimal (lM T) hr bq (p1 (cG T.tE (BQ T) hr bq (aV (cG T.argument (c6 T) hr bq (aV (pv 1) (p1 aO))) (p1 (cG T.argument (c6 T) hr bq (aV (pv 1) (p1 aO))))))))));symm;refine⟨a,ps,args,0,rfl,aa.at_,aa.tx,fun H1 p sm hp _=> ?_⟩;refine⟨a,ps,args,1,rfl,sm _ _ aa.at_,aa.tx.mono sm,fun H2 p2 gj mX _=> ?_⟩;symm;have hl:=aa.short 0;have L7:=aa.short 1;refine⟨p,p2,_,_,rfl,gj _ _ hp,mX,by lia,fun H3 kf=> ?_⟩;refine⟨_,rfl,?_,fun H4 q sI hq qH=> ?_⟩
 ·have:=V6 (args.getD 0 []) (args.getD 1 []);lia
 ·exact jW ra hQ (LG r args) (((sm.trans gj).trans kf).trans sI) qH (yP _)
theorem Zq:T.V7.Ok P w mg ag (jF P w) 4 (lX T "incr"):=by
 rcases h:T.V7.qj ["run","arguments"]with⟨Y,A,r,used,a,ps,args,rfl,ra,aa,hE,hQ⟩;exists _,(aj (a6 (cG T.decimal (lM T) hr bq (p1 (cG T.nT (lY T) hr bq (p1 (cu dz (cG T.l0 (kI T) hr dC (p1 (cG T.argument (c6 T) hr bq (aV (pv 1) (p1 aO))))) aO)))))));symm;refine⟨a,ps,args,0,rfl,aa.at_,aa.tx,fun H1 p sm hp _=> ?_⟩;refine⟨p,_,rfl,hp,by rw[aT];have:=aa.short 0;lia,?_⟩;have hb:=Ox r args
 cases hn:iQ (args.getD 0 [])with
 |error e=>
  rw[hn]at hb;have he:=nk hn;subst he;exact t6 ra hE (.inr (.inl ⟨rfl,rfl⟩)) hb sm
 |ok z=>
  rw[hn]at hb;intro H2 gj;symm;refine⟨_,rfl,⟨_,rfl,JG _,fun H3 q kf hq qH=> ?_⟩⟩;exact jW ra hQ hb ((sm.trans gj).trans kf) qH (yP _)
theorem Zs:T.Xe.Ok P w mg ag (jF P w) 4 (lX T "decr"):=by
 rcases h:T.Xe.qj ["run","arguments"]with⟨Y,A,r,used,a,ps,args,rfl,ra,aa,hE,hQ⟩;exists _,(aj (a6 (cG T.decimal (lM T) hr bq (p1 (cG T.nT (lY T) hr bq (p1 (cu iF (cG T.l0 (kI T) hr dC (p1 (cG T.argument (c6 T) hr bq (aV (pv 1) (p1 aO))))) aO)))))));symm;refine⟨a,ps,args,0,rfl,aa.at_,aa.tx,fun H1 p sm hp _=> ?_⟩;refine⟨p,_,rfl,hp,by rw[aT];have:=aa.short 0;lia,?_⟩;have hb:=OA r args
 cases hn:iQ (args.getD 0 [])with
 |error e=>
  rw[hn]at hb;have he:=nk hn;subst he;exact t6 ra hE (.inr (.inl ⟨rfl,rfl⟩)) hb sm
 |ok z=>
  rw[hn]at hb;intro H2 gj;symm;refine⟨_,rfl,⟨_,rfl,JG _,fun H3 q kf hq qH=> ?_⟩⟩;exact jW ra hQ hb ((sm.trans gj).trans kf) qH (yP _)
theorem KG(D:TopD P w T):T.vz.Ok P w mg ag (jF P w) 7 (lX T "eval"):=by
 rcases h:T.vz.qj ["run","arguments"]with⟨Y,A,r,used,a,ps,args,rfl,ra,aa,hE,hQ⟩;exists _,(aj (a6 (cG T.decimal (lM T) hr bq (p1 (cG T.xl (Fs T D) hr dC (p1 (cG T.argument (c6 T) hr bq (aV (pv 1) (p1 aO)))))))));symm;refine⟨a,ps,args,0,rfl,aa.at_,aa.tx,fun H1 p sm hp _=> ?_⟩;exists p,_,rfl,hp,aa.short 0;have hb:=Oy r args
 cases hn:ke (args.getD 0 [])with
 |error e=>
  rw[hn]at hb;have he:=W6 hn;subst he;intro H2 gj;exact t6 ra hE (.inr (.inl ⟨rfl,rfl⟩)) hb (sm.trans gj)
 |ok z=>
  rw[hn]at hb;intro H2 gj hz;refine⟨_,rfl,ZG hz,fun H3 q kf hq qH=> ?_⟩;exact jW ra hQ hb ((sm.trans gj).trans kf) qH (yP _)
theorem Rh:T.Eh.Ok P w mg ag iN 3 (lX T "divnum"):=by
 rcases h:T.Eh.jG ["run","arguments"]with⟨Y,A,r,used,a,ps,args,rfl,ra,aa,hE,hQ⟩;exists _,(aj (a6 (cG T.decimal (lM T) hr bq (p1 (aB T.bJ T.fK (aB T.bB T.cb (pv 0)))))));have eD:=ra.ob;have vV:=ra.sy.ob;symm;refine⟨_,rfl,by have:=ra.gd.y.to_;omega,fun H3 q kf hq qH=> ?_⟩;exact jW ra hQ (IW r args) kf qH (yP _)
theorem Kz:T.uU.Ok P w mg ag iN 5 (lX T "translit"):=by
 rcases h:T.uU.jG ["run","arguments"]with⟨Y,A,r,used,a,ps,args,rfl,ra,aa,hE,hQ⟩;exists _,(aj (a6 (cG T.oJ (xH T) hr bq (aV (cG T.argument (c6 T) hr bq (aV (pv 1) (p1 aO))) (aV (cG T.argument (c6 T) hr bq (aV (pv 1) (p1 aO))) (p1 (cG T.argument (c6 T) hr bq (aV (pv 1) (p1 aO)))))))));symm;refine⟨a,ps,args,0,rfl,aa.at_,aa.tx,fun H1 p1 oQ AE _=> ?_⟩;refine⟨a,ps,args,1,rfl,oQ _ _ aa.at_,aa.tx.mono oQ,fun H2 p2 gj mX _=> ?_⟩;refine⟨a,ps,args,2,rfl,gj _ _ (oQ _ _ aa.at_),(aa.tx.mono oQ).mono gj,fun H3 p3 kf L6 _=> ?_⟩;refine⟨p1,p2,p3,_,_,_,rfl,kf _ _ (gj _ _ AE),kf _ _ mX,L6,aa.short 0,aa.short 1,aa.short 2,aa.small 1,aa.small 2,fun H4 q sI hq qH=> ?_⟩;exact jW ra hQ (Es r args) (((oQ.trans gj).trans kf).trans sI) qH (Fm (aa.small 0) (Ae _ _ (aa.small 2)))
theorem UM(hb:Sm b)(h:∀c∈a,c∈b):Sm a:=fun c hc=>hb c (h c hc)
theorem Qe{l:B}{z k:Int}(hz:0<=z)(hk:0<=k):lr (iv l) (some z) (some (z+k))=iv ((l.drop z.toNat).take k.toNat):=by
 refine wN fun g_ k_=> ?_;obtain⟨i,rfl⟩:∃i:Nat,z=(i:Int):=⟨z.toNat,by lia⟩;obtain⟨j,rfl⟩:∃j:Nat,k=(j:Int):=⟨k.toNat,by lia⟩;refine wO k_ ?_;clear k_ g_;have:=Cs (l:=l) (i:=i) (j:=i+j);rw[cF]at this;exact this
theorem Sw{xs:List V}{i:Nat}:lr xs (some (i:Int)) none=xs.drop i:=by
 unfold lr;rw[HT.sZ]
 by_cases h:i<=xs.length
 ·rw[gH h];rw[bA (by rw[aL];exact aE _)]
 ·rw[ly (by lia),oy,bF (by lia)];simp
theorem yb.drop{ps:List ao}{l:List B}(h:yb H ps l)(i:Nat):yb H (ps.drop i) (l.drop i):=by
 induction h generalizing i with
 |nil=>simp;exact .nil
 |cons a b ih=>
  cases i with
  |zero=>exact .cons a b
  |succ i=>exact ih i
theorem MD(l:List B)(i:Nat):total (l.drop i)<=total l:=by
 induction l generalizing i with
 |nil=>simp
 |cons t l ih=>
  cases i with
  |zero=>exact aE _
  |succ i=>rw[jo,lK];have:=ih i;lia
theorem Q9:T.substr.Ok P w mg ag (jF P w) 4 (lX T "substr"):=by
 rcases h:T.substr.qj ["run","arguments","text","start","size"]with⟨Y,A,r,used,a,ps,args,rfl,ra,aa,hE,hQ⟩;exists _,(ah (bh 2 nd0 (cG T.argument (c6 T) hr bq (aV (pv 1) (p1 aO)))) (ah (bh 3 nd0 (cG T.l0 (kI T) hr dC (p1 (cG T.argument (c6 T) hr bq (aV (pv 1) (p1 aO)))))) (ah (bh 4 nd0 (ll (aR qy (cL T (pv 1)) aO) (cG T.l0 (kI T) hr dC (p1 (c5 b6 (pv 1) aO))) (cL T (pv 2)))) (ah (ck (PW.pt (DF (aR ki (pv 3) aO) (xE (aR ki (pv 4) aO)))) (aj (a6 (cH c9))) bQ) (aj (a6 (gm ic (pv 2) (d4 (pv 3)) (d4 (cu dz (pv 3) (pv 4))))))))));symm;refine⟨a,ps,args,0,rfl,aa.at_,aa.tx,fun H1 p sm hp _=> ?_⟩;symm;refine⟨a,ps,args,1,rfl,sm _ _ aa.at_,aa.tx.mono sm,fun H2 p2 gj mX _=> ?_⟩;refine⟨p2,_,rfl,mX,by rw[aT];have:=aa.short 1;lia,?_⟩;have hb:=IT r args;have L6:=gj _ _ hp;have RY:=gj _ _ (sm _ _ aa.at_)
 cases hn:iQ (args.getD 1 [])with
 |error e=>
  rw[hn]at hb;have he:=nk hn;subst he;exact t6 ra hE (.inr (.inl ⟨rfl,rfl⟩)) hb (sm.trans gj)
 |ok z=>
  rw[hn]at hb;dsimp only at hb;intro H3 kf;have Fn:=(sm.trans gj).trans kf;have hlen:=aa.tx.len
  have fin:∀(k:Int) (H4:Hp),bE H H4->H4 p=some (.lst (iv (args.getD 0 [])))->gC r (bR "substr") args=om r (if z<0\/k<0 then []else((args.getD 0 []).drop z.toNat).take k.toNat)->
   (if z<0\/k<0 then ∀q,H4 q=none->Q (.ref q) (upd H4 q (.lst []))else ∀q,H4 q=none->Q (.ref q) (upd H4 q (.lst (iv (((args.getD 0 []).drop z.toNat).take k.toNat))))):=fun k H4 sI PD hb4=>by
   by_cases af3:z<0\/k<0
   ·rw[if_pos af3]at hb4⊢;exact fun q hq=>jW ra hQ hb4 (sI.trans (aY hq)) aq ng
   ·rw[if_neg af3]at hb4⊢;exact fun q hq=>jW ra hQ hb4 (sI.trans (aY hq)) aq (UM (aa.small 0) fun c hc=>kS (Qn hc))
  have PD:=kf _ _ L6;have ha3:=kf _ _ RY;clear hp L6 RY mX;symm;(try rw[fR,hlen])
  by_cases h2:args.length<=2
  ·refine gn (by lia) ?_;rw[if_pos h2]at hb;have f1:=fin _ H3 Fn PD hb;clear hb fin hn;symm
   by_cases hz:z<0
   ·rw[if_pos (.inl hz)]at f1;refine gB hz ?_;exact⟨aC _,f1⟩
   ·rw[if_neg (by lia)]at f1;refine gn hz ?_;rfl';refine gn (by lia) ?_;rfl';(try rw[Qe (by lia) (by lia)]);exact f1
  ·refine gB (by lia) ?_;rw[if_neg h2]at hb;refine wN fun g_ k_=> ?_;obtain⟨p5,PB⟩:=k6 (l:=ps) (i:=2) (by lia);obtain⟨t5,ht5,Jj⟩:=aa.tx.get PB;refine wO k_ ?_;clear k_ g_;have e5:args.getD 2 []=t5:=by rw[cK,ht5];rfl
   rfl';exists _,qT (i:=2) PB;refine⟨p5,t5,rfl,Fn _ _ Jj,by rw[aT];have:=aa.short 2;rw[e5]at this;lia,?_⟩;rw[e5]at hb
   cases hn2:iQ t5 with
   |error e=>
    rw[hn2]at hb;have he:=nk hn2;subst he;exact t6 ra hE (.inr (.inl ⟨rfl,rfl⟩)) hb Fn
   |ok k=>
    rw[hn2]at hb;intro H5 Fo;have hp6:=Fo _ _ PD;have f1:=fin k H5 (Fn.trans Fo) hp6 hb;clear hb fin hn hn2 PD ha3;symm
    by_cases hz:z<0
    ·rw[if_pos (.inl hz)]at f1;refine gB hz ?_;exact⟨aC _,f1⟩
    ·by_cases hk:k<0
     ·rw[if_pos (.inr hk)]at f1;refine gn hz ?_;rfl';exact⟨aC _,f1⟩
     ·rw[if_neg (by lia)]at f1;refine gn hz ?_;rfl';(try rw[Qe (by lia) (by lia)]);exact f1
theorem Rf:T.D5.Ok P w mg ag iN 1 (lX T "ifelse"):=by
 rcases h:T.D5.jG ["run","arguments","first"]with⟨Y,A,r,used,a,ps,args,rfl,ra,aa,hE,hQ⟩;exists _,(ah (bh 2 nd0 aO) (ah (gx cA (aR Kv (cu iF (cL T (pv 1)) (pv 2)) aO) (ah (ck (aR (Nk hr.units) (c5 b6 (pv 1) (pv 2)) (c5 b6 (pv 1) (cu dz (pv 2) aO))) (aj (a6 (c5 b6 (pv 1) (cu dz (pv 2) aO)))) bQ) (ah (ck (aR d9 (cu iF (cL T (pv 1)) (pv 2)) aO) (aj (a6 (c5 b6 (pv 1) (cu dz (pv 2) aO)))) bQ) (aj (gR 2 nd0 aO iG))))) (aj (a6 (cH c9)))));have ha:=aa.at_;have hlen:=aa.tx.len;have hb:=IV r args;symm;exists fun m Z H'=>H'=H/\∃i,Z=[some (V.ref A.x),some (V.ref a),some (V.int (i:Nat))]/\m=args.length- i/\i<=args.length/\pick (args.drop i)=pick args,⟨_,rfl,0,rfl,rfl,aC _,rfl⟩;intro m Z H' w_;rcases w_ with⟨rfl,i,rfl,rfl,hi,Wg⟩
 have at_:∀j,j<args.length->∃p t,ps[j]? =some p/\args[j]? =some t/\H' p=some (.lst (iv t)):=fun j hj=>by
  refine wN fun g_ k_=> ?_;obtain⟨p,hp⟩:=k6 (l:=ps) (i:=j) (by lia);obtain⟨t,ht,Jj⟩:=aa.tx.get hp;refine wO k_ ?_;clear k_ g_;exact⟨p,t,hp,ht,Jj⟩
 have sub:∀j t,args[j]? =some t->Sm t:=fun j t e=>aa.sm t (bc e);clear hlen;symm;have hlen:=aa.tx.len;(try rw[fR,hlen])
 by_cases h3:i+3<=args.length
 ·refine gB (by lia) ?_;exists _,fun _ _ h=>h;refine wN fun g_ k_=> ?_;obtain⟨p1,t1,AE,ht1,h1⟩:=at_ i (by lia);obtain⟨p2,t2,mX,ht2,h2⟩:=at_ (i+1) (by lia);obtain⟨p3,t3,L6,ht3,h3'⟩:=at_ (i+2) (by lia);refine wO k_ ?_;clear k_ g_
  have hd:args.drop i=t1::t2::t3::args.drop (i+3):=by
   (try rw[aI (by lia),aI (by lia),aI (by lia),(aw.mp ht1).2,(aw.mp ht2).2,(aw.mp ht3).2])
  rw[hd,Nc]at Wg;rfl';exists _,qT AE;rfl';exists _,qT (i:=i+1) mX;(try rw[abW])
  exists zi t1,zi t2,by rw[h1,eS];rfl,(by rw[h2,eS];rfl)
  by_cases he:t1=t2
  ·subst he;rw[if_pos rfl]at Wg;rfl';refine⟨_,qT (i:=i+2) L6,jW ra hQ (by rw[hb,<-Wg]) (bE.refl _) h3' (sub _ _ ht3)⟩
  ·rw[if_neg he]at Wg;rfl';refine gn (show ¬zi t1=zi t2 from fun z=>he (by unfold zi at z;exact D4.mp z)) ?_;rfl';(try rw[fR,hlen])
   have hdl:(args.drop (i+3)).length=args.length- (i+3):=aL
   by_cases h4:args.length=i+4
   ·refine gB (by lia) ?_;rcases at_ (i+3) (by lia)with⟨p4,t4,PD,ZS,h4'⟩;rw[if_pos (by lia)]at Wg
    have hd4:(args.drop (i+3)).headD []=t4:=by
     (try rw[aI (by lia),(aw.mp ZS).2]);rfl
    rw[hd4]at Wg;rfl';exact⟨_,qT (i:=i+3) PD,jW ra hQ (by rw[hb,<-Wg]) (bE.refl _) h4' (sub _ _ ZS)⟩
   ·refine gn (by lia) ?_;rw[if_neg (by lia)]at Wg;rfl';exact⟨args.length- (i+3),by omega,i+3,rfl,rfl,h3,Wg⟩
 ·refine gn (by lia) ?_;have hs:pick (args.drop i)=[]:=Nd (by rw[aL];lia);rw[hs]at Wg;rfl';exact⟨aC _,fun q hq=>jW ra hQ (by rw[hb,<-Wg]) (aY hq) aq ng⟩
inductive Fh(vs:List V)(H:Hp)(Q:VK)(E:XK):Prop
 |mk (Y:iC) (A:ji) (r:eY) (used:Nat) (a:ao) (ps:List ao) (args:List B) (_:vs=[.ref A.x,.ref a]) (_:cI T Y H A r used) (_:qf Y H a ps args) (_:match yd r.y (args.getD 0 [])with
 |none=>∀H',bE H H'->Q .fI H'
 |some d=>∀H' m,bE H H'->la T Y H' m d->Q (.ref m) H')
theorem la.same{T:Top K mg}{Y:iC}{H H':Hp}{m:ao}{d:dj}(h:la T Y H m d)(s:bE H H'):la T Y H' m d:=by
 obtain⟨h1,dm,tx,wd,t,h2,h3,h4,h5⟩:=h;exact⟨h1,dm,tx,wd,t,s _ _ h2,h3,s _ _ h4,h5⟩
theorem wY:T.tP.Ok P w mg ag iN 2 (Fh T):=by
 rcases h:T.tP.jG ["run","arguments"]with⟨Y,A,r,used,a,ps,args,rfl,ra,aa,k⟩;exists _,(aj (a6 (cM (aB T.bJ T.gW (aB T.bB T.cb (pv 0))) T.dJ T.mU (oF T) hr bq (p1 (gL gK rfl T.nL (by first|rfl|decide+kernel) (p1 (cG T.argument (c6 T) hr bq (aV (pv 1) (p1 aO)))))))));have eD:=ra.ob;have vV:=ra.sy.ob;have hna:=ra.sy.na.ob;symm;refine⟨a,ps,args,0,rfl,aa.at_,aa.tx,fun H1 p sm hp _=> ?_⟩;refine⟨p,_,rfl,.inl ⟨kE.of hp,fun l hl=> ?_⟩⟩;have gj:bE H (upd H1 l (.tup (iv (args.getD 0 [])))):=sm.trans (aY hl);have gu:=ra.same gj;exists Y,_,_,_,l,_,_,_,rfl,gu.sy.na,aq;rw[Ee]at k
 cases hs:pA r.y.defs (args.getD 0 [])with
 |nil=>rw[hs]at k;exact k _ gj
 |cons d ds=>rw[hs]at k;exact fun m hm=>k _ m gj hm
theorem VE:T.K3.Ok P w mg ag iN 3 (lX T "ifdef"):=by
 rcases h:T.K3.jG ["run","arguments"]with⟨Y,A,r,used,a,ps,args,rfl,ra,aa,hE,hQ⟩;exists _,(aj (a6 (cG T.argument (c6 T) hr bq (aV (pv 1) (p1 (ll (aR xG (cG T.tP (wY T) hr bq (aV (pv 0) (p1 (pv 1)))) qY) aO aO))))));have hb:=LH r args;symm;exists Y,A,r,used,a,ps,args,rfl,ra,aa
 cases hf:yd r.y (args.getD 0 [])with
 |none=>
  rw[hf]at hb;intro H1 sm;symm;refine⟨a,ps,args,2,rfl,sm _ _ aa.at_,aa.tx.mono sm,fun H2 p gj hp _=> ?_⟩;exact jW ra hQ hb (sm.trans gj) hp (aa.small 2)
 |some d=>
  rw[hf]at hb;intro H1 m sm _;symm;refine⟨a,ps,args,1,rfl,sm _ _ aa.at_,aa.tx.mono sm,fun H2 p gj hp _=> ?_⟩;exact jW ra hQ hb (sm.trans gj) hp (aa.small 1)
theorem Zr:T.defn.Ok P w mg ag iN 3 (lX T "defn"):=by
 rcases h:T.defn.jG ["run","arguments","meaning"]with⟨Y,A,r,used,a,ps,args,rfl,ra,aa,hE,hQ⟩;exists _,(ah (bh 2 nd0 (cG T.tP (wY T) hr bq (aV (pv 0) (p1 (pv 1))))) (ah (ck (PW.pt (DF (aR xG (pv 2) qY) (xE (aR rN (aB T.fX T.jb (pv 2)) Ak)))) (aj (a6 (cH c9))) bQ) (aj (a6 (cM (aB T.bJ T.eU (aB T.bB T.cb (pv 0))) T.et T.kQ (oU T) hr bq (p1 (aB T.fX T.kx (pv 2))))))));have hb:=Oz r args;symm;exists Y,A,r,used,a,ps,args,rfl,ra,aa
 cases hf:yd r.y (args.getD 0 [])with
 |none=>
  rw[hf]at hb;intro H1 sm;symm;exact⟨aC _,fun q hq=>jW ra hQ hb (sm.trans (aY hq)) aq ng⟩
 |some d=>
  rw[hf]at hb;intro H1 m sm hm;rcases hm with⟨_,dm,tx,wd,t,EL,_,S9,D6⟩;have dS:=ra.same sm
  cases d with
  |text b=>
   rcases D6 with⟨rfl,rfl⟩;have eD:=dS.ob;have vV:=dS.sy.ob;have hqa:=dS.sy.qa.at_;symm;have gy:=ra.gd.y;obtain⟨x,hx,tS⟩:=Lj hf;have hk1:=K0 hx;have hk2:=ra.sy.na.Oe
   have hk3:t.length<=wt x:=by
    unfold wt;(try rw[tS])
    show t.length<=x.1.length+t.length+16;lia
   have hlo:=gy.lo;have hlc:=gy.lc;refine⟨A.S.qx,A.S.dq,A.S.oq,A.S.cq,tx,r.y.open_,r.y.close,t,rfl,dS.sy.qa,S9,by rw[aT];lia,fun H2 q gj hq qH=> ?_⟩;exact jW ra hQ hb (sm.trans gj) qH (Af gy.so gy.sc (gy.dt x hx t tS))
  |built b=>
   rcases D6 with⟨h1,h2,rfl⟩;have vW:¬wd="":=fun e=>by rw[e]at h2;exact h1 h2.symm
   symm;exact⟨aC _,fun q hq=>jW ra hQ hb (sm.trans (aY hq)) aq ng⟩
theorem VB:T.shift.Ok P w mg ag (jF P w) 3 (lX T "shift"):=by
 rcases h:T.shift.qj ["run","arguments"]with⟨Y,A,r,used,a,ps,args,rfl,ra,aa,hE,hQ⟩;exists _,(aj (a6 (cG T.jz (m5 T) hr dC (aV (gm ic (pv 1) (d4 aO) tD) (aV (aB T.bJ T.eU (aB T.bB T.cb (pv 0))) (p1 (aB T.bj T.bV (aB T.bB T.ik (pv 0)))))))));have hb:=LF r args;have eD:=ra.ob;have vV:=ra.sy.ob;have S8:=ra.so.ob;have ha:=aa.at_;symm;intro d hd
 have kJ:lr (rv ps) (some 1) none=rv (ps.drop 1):=by
  have:=Sw (xs:=rv ps) (i:=1);refine Eq.trans this ?_;unfold rv;(try rw[sM])
 rfl';(try rw[kJ])
 have sm:=aY (o:=HO.lst (rv (ps.drop 1))) hd;have wZ:upd H d (.lst (rv (ps.drop 1))) d=some (.lst (rv (ps.drop 1))):=aq;have dS:=ra.same sm;generalize upd H d (.lst (rv (ps.drop 1)))=H1 at sm wZ dS⊢;have tT:=dS.ob;have ai9:=dS.sy.ob;have NS:=dS.so.ob;clear eD vV S8 ha kJ;symm;have gy:=ra.gd.y;have hlo:=gy.lo;have hlc:=gy.lc;have hlen:=ra.so.len;have h1:=MD args 1;have h2:=aa.tot;have h3:=aa.len
 have hq:∀t∈(args.drop 1).map (iO r.y),Sm t:=fun t ht=>by
  rcases eh.mp ht with⟨u,hu,rfl⟩;exact Af gy.so gy.sc (aa.sm u (kS hu))
 refine⟨d,A.S.qx,A.S.dq,A.S.oq,A.S.cq,ps.drop 1,args.drop 1,r.y,A.js.length,rfl,wZ,(aa.tx.drop 1).mono sm,dS.sy.qa,by lia,by rw[aL];omega,by lia,by lia,by lia,fun iH H2 gj=> ?_,fun NT H2 q gj L5 qH=> ?_⟩
 ·refine t6 ra hE (.inr (.inr (.inr ⟨rfl,rfl⟩))) ?_ (sm.trans gj);(try rw[hb])
  unfold om aez;rw[if_pos (by lia)]
 ·exact jW ra hQ hb (sm.trans gj) qH (Ag hq)
end
end
end TM
namespace TM
open PySem PySem.Spec PyProof.Rows L2
open Ra32 (B)
section
theorem yA(f:aZ M Y H Y' H')(hp:∀t,Y' p=some t->t=r)(hH:H' p=some o):aZ M Y H (fO Y' p r) H':=
 ⟨fun b t e n=>by
  have q:=f.tag b t e n
  by_cases z:b=p
  ·subst z;rw[bY,hp t q]
  ·rw[bw z];exact q,f.obj,fun b hb=>by
  rw[bw (cE hb hH rfl)];exact f.dm b hb⟩
section
variable{K:aA}{mg:Str->Option ax}
theorem qL{T:Top K mg}{k:String}{Y Y':iC}{H H':Hp}{A A':ji}{r r':eY}{used:Nat}{args:List B}{Q:VK}{q:ao}
 (hQ:∀r' t Y' H' A' p,gC r (bR k) args=om r' t->aZ rD Y H Y' H'->Kp A A'->cI T Y' H' A' r' used->H' p=some (.lst (iv t))->Small t->(t=[]\/r'=r)->Q (.ref p) H')
 (hb:gC r (bR k) args= .ok r') (ra:cI T Y' H' A' r' used) (f:aZ rD Y H Y' H') (kp:Kp A A') (hq:H' q=none):Q (.ref q) (upd H' q (.lst [])):=by
 have smq:=aY (o:=HO.lst []) hq;have hl:=ra.so.len;exact hQ r' [] Y' _ A' q (by rw[hb,AV (by lia)]) (f.trans (aZ.same ra.dm smq)) kp (ra.same smq) aq ng (.inl rfl)
end
section
variable{P:bD}{w:cP}{K:aA}{mg:Str->Option ax}{ag:dg}
theorem Rk(T:Top K mg):T.define.Ok P w mg ag (jF P w) 4 (lX T "define"):=by
 rcases h:T.define.qj ["run","arguments","name"]with⟨Y,A,r,used,a,ps,args,rfl,ra,aa,hE,hQ⟩;exists _,(ah (bh 2 nd0 (gL gK rfl T.nL (by first|rfl|decide+kernel) (p1 (cG T.argument (c6 T) hr bq (aV (pv 1) (p1 aO)))))) (ah (ck (aR (Vq hr.units) (pv 2) (Hx c9)) (aj (bx (cM (aB T.bJ T.gW (aB T.bB T.cb (pv 0))) T.dJ T.ud (BW T) hr dC (aV (pv 2) (p1 (mz T.yg (oG T) (hr.mono (by decide)) rfl T.xK T.iA.b .nil bq (aV Ak (p1 (cG T.argument (c6 T) hr bq (aV (pv 1) (p1 aO))))))))))) bQ) (aj (a6 (cH c9)))));have hb:=IY r args;have hil:=ra.so.len;symm;refine⟨a,ps,args,0,rfl,aa.at_,aa.tx,fun H1 p sm hp _=> ?_⟩;refine⟨p,_,rfl,.inl ⟨kE.of hp,fun l hl=> ?_⟩⟩;have gj:bE H (upd H1 l (.tup (iv (args.getD 0 [])))):=sm.trans (aY hl);rfl';generalize uB:upd H1 l (.tup (iv (args.getD 0 [])))=H2 at gj⊢;have wz:H2 l=some (.tup (iv (args.getD 0 []))):=(congrFun uB.symm _).trans aq;clear uB hp;refine⟨aC _,fun p2 mX=>⟨zi (args.getD 0 []),[],by rw[ai (bO mX wz),wz,eS];rfl,rfl,?_⟩⟩;have kf:=gj.trans (aY (o:=HO.tup []) mX);have X0:=a9 (o:=HO.tup []) wz mX;generalize upd H2 p2 (.tup [])=H3 at kf X0⊢;have qX:=ra.same kf;clear wz
 by_cases h0:args.getD 0 []=[]
 ·refine gn (by rw[h0];simp[zi]) ?_;rw[if_pos h0]at hb;clear h0;symm;refine⟨aC _,fun q hq=> ?_⟩;have Fn:=kf.trans (aY (o:=HO.lst []) hq);exact hQ r [] Y _ A q (by rw[hb,AV (by lia)]) (aZ.same ra.dm Fn) (Kp.refl A) (ra.same Fn) aq ng (.inl rfl)
 ·refine gB (by simp only[sA,decide_eq_false_iff_not];exact fun z=>h0 (by unfold zi at z;simpa using z)) ?_;rw[if_neg h0,sY ra.gd.y.AU]at hb;have eD:=qX.ob;have vV:=qX.sy.ob;have hna:=qX.sy.na.ob;symm;refine⟨a,ps,args,1,rfl,kf _ _ aa.at_,aa.tx.mono kf,fun H4 p4 sI PD hor=> ?_⟩;intro m dm hm lN hmd;exists m,dm,_,_,rfl,aq,rfl;have D6:=TM.bE.none sI hm;generalize Ea:upd (upd (upd H4 dm (.own m)) m (.ins T.dr dm [])) m (.ins T.dr dm (eN (.str "") (.ref p4)))=H5;have MX:bE H4 H5:=by rw[<-Ea];exact bp (bp (bp (bE.refl H4) lN) hm) hm
  have Fo:=(kf.trans sI).trans MX;have hm5:H5 m=some (.ins T.dr dm (eN (.str "") (.ref p4))):=(congrFun Ea.symm _).trans aq;have PB:=MX _ _ PD;have hl5:=MX _ _ (sI _ _ X0);have hmp:p4≠m:=bO hm PD;have hρm:Y m=none:=ra.dm m (TM.bE.none kf D6)
  have hρp:∀t,Y p4=some t->t= .jL:=fun t e=>by
   obtain h|h:=hor
   ·have:=aa.tp p4 (bc h);rw[this]at e;cases e;rfl
   ·rw[qX.dm p4 h]at e;cases e
  have f5:aZ (fun _=>False) Y H (fO (fO Y m .jL) p4 .jL) H5:=yA (gr (aZ.same ra.dm Fo) hρm hm5) (fun t e=>hρp t (by rw[<-e,bw hmp])) PB;have Jh:=ra.mono f5 (fun _ q=>q);exists _,A.S.nx,A.S.dn,A.S.dd,l,m,A.S.kvs,r.y.defs,args.getD 0 [],.text (args.getD 1 []),rfl,Jh.sy.na,hl5,⟨by rw[bw (aD hmp)];exact bY,dm,p4,"",args.getD 1 [],hm5,bY,PB,rfl,rfl⟩,Jh.dm
  by_cases iH:65536<ba (gX (args.getD 0 []) (.text (args.getD 1 [])) r.y.defs)
  ·rw[if_pos iH]at hb⊢;exact hE 4 _ _ H5 (.inr (.inr (.inr ⟨rfl,rfl⟩))) hb (f5.mono fun _ q=>q.elim) Jh.err
  ·rw[if_neg iH]at hb⊢;intro Y6 H6 kv6 f6 na6;clear eD vV hna;symm;refine⟨aC _,fun q hq=> ?_⟩;have gd:md {r.y with defs:=gX (args.getD 0 []) (.text (args.getD 1 [])) r.y.defs}:=vZ ra.gd.y fun x hx=>(HM hx).imp id fun e=>⟨_,e,aa.small 1⟩;have ra6:=Jh.names f6 na6 gd;exact qL hQ hb ra6 ((f5.mono fun _ q=>q.elim).trans (f6.mono fun _=>HG)) ⟨rfl,rfl⟩ hq
theorem Nr(T:Top K mg):T.yV.Ok P w mg ag (jF P w) 4 (lX T "pushdef"):=by
 rcases h:T.yV.qj ["run","arguments","name"]with⟨Y,A,r,used,a,ps,args,rfl,ra,aa,hE,hQ⟩;exists _,(ah (bh 2 nd0 (gL gK rfl T.nL (by first|rfl|decide+kernel) (p1 (cG T.argument (c6 T) hr bq (aV (pv 1) (p1 aO)))))) (ah (ck (aR (Vq hr.units) (pv 2) (Hx c9)) (aj (bx (cM (aB T.bJ T.gW (aB T.bB T.cb (pv 0))) T.dJ T.qb (qZ T) hr dC (aV (pv 2) (p1 (mz T.yg (oG T) (hr.mono (by decide)) rfl T.xK T.iA.b .nil bq (aV Ak (p1 (cG T.argument (c6 T) hr bq (aV (pv 1) (p1 aO))))))))))) bQ) (aj (a6 (cH c9)))));have hb:=FO r args;have hil:=ra.so.len;symm;refine⟨a,ps,args,0,rfl,aa.at_,aa.tx,fun H1 p sm hp _=> ?_⟩;refine⟨p,_,rfl,.inl ⟨kE.of hp,fun l hl=> ?_⟩⟩;have gj:bE H (upd H1 l (.tup (iv (args.getD 0 [])))):=sm.trans (aY hl);rfl';generalize uB:upd H1 l (.tup (iv (args.getD 0 [])))=H2 at gj⊢;have wz:H2 l=some (.tup (iv (args.getD 0 []))):=(congrFun uB.symm _).trans aq;clear uB hp;refine⟨aC _,fun p2 mX=>⟨zi (args.getD 0 []),[],by rw[ai (bO mX wz),wz,eS];rfl,rfl,?_⟩⟩;have kf:=gj.trans (aY (o:=HO.tup []) mX);have X0:=a9 (o:=HO.tup []) wz mX;generalize upd H2 p2 (.tup [])=H3 at kf X0⊢;have qX:=ra.same kf;clear wz
 by_cases h0:args.getD 0 []=[]
 ·refine gn (by rw[h0];simp[zi]) ?_;rw[if_pos h0]at hb;clear h0;symm;refine⟨aC _,fun q hq=> ?_⟩;have Fn:=kf.trans (aY (o:=HO.lst []) hq);exact hQ r [] Y _ A q (by rw[hb,AV (by lia)]) (aZ.same ra.dm Fn) (Kp.refl A) (ra.same Fn) aq ng (.inl rfl)
 ·refine gB (by simp only[sA,decide_eq_false_iff_not];exact fun z=>h0 (by unfold zi at z;simpa using z)) ?_;rw[if_neg h0,sY ra.gd.y.AU]at hb;have eD:=qX.ob;have vV:=qX.sy.ob;have hna:=qX.sy.na.ob;symm;refine⟨a,ps,args,1,rfl,kf _ _ aa.at_,aa.tx.mono kf,fun H4 p4 sI PD hor=> ?_⟩;intro m dm hm lN hmd;exists m,dm,_,_,rfl,aq,rfl;have D6:=TM.bE.none sI hm;generalize Ea:upd (upd (upd H4 dm (.own m)) m (.ins T.dr dm [])) m (.ins T.dr dm (eN (.str "") (.ref p4)))=H5;have MX:bE H4 H5:=by rw[<-Ea];exact bp (bp (bp (bE.refl H4) lN) hm) hm
  have Fo:=(kf.trans sI).trans MX;have hm5:H5 m=some (.ins T.dr dm (eN (.str "") (.ref p4))):=(congrFun Ea.symm _).trans aq;have PB:=MX _ _ PD;have hl5:=MX _ _ (sI _ _ X0);have hmp:p4≠m:=bO hm PD;have hρm:Y m=none:=ra.dm m (TM.bE.none kf D6)
  have hρp:∀t,Y p4=some t->t= .jL:=fun t e=>by
   obtain h|h:=hor
   ·have:=aa.tp p4 (bc h);rw[this]at e;cases e;rfl
   ·rw[qX.dm p4 h]at e;cases e
  have f5:aZ (fun _=>False) Y H (fO (fO Y m .jL) p4 .jL) H5:=yA (gr (aZ.same ra.dm Fo) hρm hm5) (fun t e=>hρp t (by rw[<-e,bw hmp])) PB;have Jh:=ra.mono f5 (fun _ q=>q);exists _,A.S.nx,A.S.dn,A.S.dd,l,m,A.S.kvs,r.y.defs,args.getD 0 [],.text (args.getD 1 []),rfl,Jh.sy.na,hl5,⟨by rw[bw (aD hmp)];exact bY,dm,p4,"",args.getD 1 [],hm5,bY,PB,rfl,rfl⟩,Jh.dm
  by_cases iH:65536<ba ((args.getD 0 [],Xs (args.getD 1 []))::r.y.defs)
  ·rw[if_pos iH]at hb⊢;exact hE 4 _ _ H5 (.inr (.inr (.inr ⟨rfl,rfl⟩))) hb (f5.mono fun _ q=>q.elim) Jh.err
  ·rw[if_neg iH]at hb⊢;intro Y6 H6 kv6 f6 na6;clear eD vV hna;symm;refine⟨aC _,fun q hq=> ?_⟩;have gd:md {r.y with defs:=(args.getD 0 [],Xs (args.getD 1 []))::r.y.defs}:=vZ ra.gd.y fun x hx=>(a0.mp hx).elim (fun e=>.inr ⟨_,by rw[e],aa.small 1⟩) .inl;have ra6:=Jh.names f6 na6 gd;exact qL hQ hb ra6 ((f5.mono fun _ q=>q.elim).trans (f6.mono fun _=>HG)) ⟨rfl,rfl⟩ hq
theorem Ra(T:Top K mg):T.DH.Ok P w mg ag iN 4 (lX T "popdef"):=by
 rcases h:T.DH.jG ["run","arguments","name"]with⟨Y,A,r,used,a,ps,args,rfl,ra,aa,hE,hQ⟩;exists _,(ah (oE cA rfl (jA (pv 1)) (fk 2 nd0) (aj (bx (cM (aB T.bJ T.gW (aB T.bB T.cb (pv 0))) T.dJ T.kc (nS T) hr bq (p1 (gL gK rfl T.nL (by first|rfl|decide+kernel) (p1 (pv 2)))))))) (aj (a6 (cH c9))));have hb:=IU r args;have hil:=ra.so.len;have ha:=aa.at_;symm;refine wM.list (xs:=rv ps) ha (fun i Z H'=>∃v Y' kv,Z=[some (V.ref A.x),some (V.ref a),v]/\aZ NM Y H Y' H'/\eG T Y' H' A.S.nx A.S.dn A.S.dd kv ((args.take i).foldl jQ r.y.defs)) ⟨none,Y,A.S.kvs,rfl,aZ.same ra.dm (bE.refl H),ra.sy.na⟩ (fun i Z H' h=> ?_) ?_ ?_
 ·obtain⟨v,Y',kv,_,f,_⟩:=h;exact f.obj _ _ _ aa.ta iZ ha
 ·intro i x Z H1 hx w_;refine wN fun g_ k_=> ?_;obtain⟨v,Y1,kv1,rfl,f1,BX⟩:=w_;obtain⟨p,hp,rfl⟩:=vQ hx;obtain⟨t,ht,Jj⟩:=aa.tx.get hp;refine wO k_ ?_;clear k_ g_;have tp:=aa.tp p (bc hp);have AE:=f1.obj _ _ _ tp iZ Jj;have nr:¬NM .run:=by rintro(q|q|⟨_,q⟩)<;>cases q
  have ns:¬NM .sys:=by rintro(q|q|⟨_,q⟩)<;>cases q
  have eD:=f1.obj _ _ _ ra.tg nr ra.ob;have vV:=f1.obj _ _ _ ra.sy.tg ns ra.sy.ob;have hna:=BX.ob;have hTk:args.take (i+1)=args.take i++[t]:=by rw[ef,ht];rfl
  clear ha hx;symm;refine⟨p,_,rfl,.inl ⟨kE.of AE,fun l hl=> ?_⟩⟩;have gj:=aY (o:=HO.tup (iv t)) hl;have f2:=f1.trans (aZ.same (M:=NM) f1.dm gj);have VQ:=BX.fr (aZ.same (M:=fun _=>False) f1.dm gj) (fun _ _ q=>q) (fun q=>q);refine⟨Y1,A.S.nx,A.S.dn,A.S.dd,l,kv1,_,t,rfl,VQ,aq,f2.dm,fun Y3 H3 kv3 f3 _ na3=> ?_⟩;exists _,Y3,kv3,rfl,f2.trans f3;(try rw[kC])
  exact na3
 ·intro Z H1 w_;rcases w_ with⟨v,Y1,kv1,rfl,f1,BX⟩;have hl:(rv ps).length=args.length:=by rw[fR];exact aa.tx.len
  rw[hl,cQ]at BX;symm;refine⟨aC _,fun q hq=> ?_⟩;have gd:md {r.y with defs:=args.foldl jQ r.y.defs}:=vZ ra.gd.y fun x hx=>.inl (HL hx);have dS:=ra.names f1 BX gd
  skip
  rw[sY ra.gd.y.AU,if_neg (by have:=BX.Oe;lia)]at hb;exact qL hQ hb dS (f1.mono fun _=>HG) ⟨rfl,rfl⟩ hq
theorem Ky(T:Top K mg):T.uT.Ok P w mg ag iN 5 (lX T "undefine"):=by
 rcases h:T.uT.jG ["run","arguments","name"]with⟨Y,A,r,used,a,ps,args,rfl,ra,aa,hE,hQ⟩;exists _,(ah (oE cA rfl (jA (pv 1)) (fk 2 nd0) (aj (bx (cM (aB T.bJ T.gW (aB T.bB T.cb (pv 0))) T.dJ T.qd (zf T) hr bq (p1 (gL gK rfl T.nL (by first|rfl|decide+kernel) (p1 (pv 2)))))))) (aj (a6 (cH c9))));have hb:=Er r args;have hil:=ra.so.len;have ha:=aa.at_;symm;refine wM.list (xs:=rv ps) ha (fun i Z H'=>∃v Y' kv,Z=[some (V.ref A.x),some (V.ref a),v]/\aZ NM Y H Y' H'/\eG T Y' H' A.S.nx A.S.dn A.S.dd kv ((args.take i).foldl j7 r.y.defs)) ⟨none,Y,A.S.kvs,rfl,aZ.same ra.dm (bE.refl H),ra.sy.na⟩ (fun i Z H' h=> ?_) ?_ ?_
 ·obtain⟨v,Y',kv,_,f,_⟩:=h;exact f.obj _ _ _ aa.ta iZ ha
 ·intro i x Z H1 hx w_;refine wN fun g_ k_=> ?_;obtain⟨v,Y1,kv1,rfl,f1,BX⟩:=w_;obtain⟨p,hp,rfl⟩:=vQ hx;obtain⟨t,ht,Jj⟩:=aa.tx.get hp;refine wO k_ ?_;clear k_ g_;have tp:=aa.tp p (bc hp);have AE:=f1.obj _ _ _ tp iZ Jj;have nr:¬NM .run:=by rintro(q|q|⟨_,q⟩)<;>cases q
  have ns:¬NM .sys:=by rintro(q|q|⟨_,q⟩)<;>cases q
  have eD:=f1.obj _ _ _ ra.tg nr ra.ob;have vV:=f1.obj _ _ _ ra.sy.tg ns ra.sy.ob;have hna:=BX.ob;have hTk:args.take (i+1)=args.take i++[t]:=by rw[ef,ht];rfl
  clear ha hx;symm;refine⟨p,_,rfl,.inl ⟨kE.of AE,fun l hl=> ?_⟩⟩;have gj:=aY (o:=HO.tup (iv t)) hl;have f2:=f1.trans (aZ.same (M:=NM) f1.dm gj);have VQ:=BX.fr (aZ.same (M:=fun _=>False) f1.dm gj) (fun _ _ q=>q) (fun q=>q);refine⟨Y1,A.S.nx,A.S.dn,A.S.dd,l,kv1,_,t,rfl,VQ,aq,f2.dm,fun Y3 H3 kv3 f3 _ na3=> ?_⟩;exists _,Y3,kv3,rfl,f2.trans f3;(try rw[kC])
  exact na3
 ·intro Z H1 w_;rcases w_ with⟨v,Y1,kv1,rfl,f1,BX⟩;have hl:(rv ps).length=args.length:=by rw[fR];exact aa.tx.len
  rw[hl,cQ]at BX;symm;refine⟨aC _,fun q hq=> ?_⟩;have gd:md {r.y with defs:=args.foldl j7 r.y.defs}:=vZ ra.gd.y fun x hx=>.inl (Rv hx);have dS:=ra.names f1 BX gd;rw[E4]at hb;rw[sY ra.gd.y.AU,if_neg (by have:=BX.Oe;lia)]at hb;exact qL hQ hb dS (f1.mono fun _=>HG) ⟨rfl,rfl⟩ hq
end
end
end TM
namespace TM
section
section
variable{P:bD}{w:cP}{K:aA}{mg:Str->Option ax}{ag:dg}(T:Top K mg)
theorem Ry(b:B):b.drop (fu b)=(b.dropWhile fun c=>c != 10).drop 1:=by
 have e:(b.takeWhile fun c=>c != 10)++(b.dropWhile fun c=>c != 10)=b:=jf
 have h1:b.drop (b.takeWhile fun c=>c != 10).length=b.dropWhile fun c=>c != 10:=by
  have:=congrArg (LV (b.takeWhile fun c=>c != 10).length) e;rw[jt]at this;exact this.symm
 unfold fu;rw[<-jv,h1]
 cases (b.dropWhile fun c=>c != 10)with
 |nil=>rfl
 |cons c r=>rfl
theorem acv:T.dnl.Ok P w mg ag iN 3 (lX T "dnl"):=by
 rcases h:T.dnl.jG ["run","arguments"]with⟨Y,A,r,used,a,ps,args,rfl,ra,aa,hE,hQ⟩;exists _,(ah (bx (PE.q iX (jI (aB T.bB T.ik (pv 0)) T.bj T.gN.M (oS T) (hr.mono (by decide)) T.gN.b .nil bq))) (aj (a6 (cH c9))));have hb:=SD r args;have eD:=ra.ob;have S8:=ra.so.ob;symm;refine⟨Y,A.sx,A.EO,A.fH,A.im,A.js,r.input,rfl,ra.so,ra.dm,fun H1 p EK f hp AE so=> ?_⟩;have dS:=ra.src f so;have hil:=so.len;clear eD S8;symm;refine⟨aC _,fun q hq=> ?_⟩;rw[Ry]at dS;exact qL hQ hb dS (f.mono fun _=>sV) ⟨rfl,rfl⟩ hq
theorem Ri:T.Ei.Ok P w mg ag (jF P w) 4 (lX T "divert"):=by
 rcases h:T.Ei.qj ["run","arguments"]with⟨Y,A,r,used,a,ps,args,rfl,ra,aa,hE,hQ⟩;exists _,(ah (bx (cM (aB T.bB T.cb (pv 0)) T.bJ T.oK (xI T) hr bq (p1 (cG T.l0 (kI T) hr dC (p1 (cG T.argument (c6 T) hr bq (aV (pv 1) (p1 aO)))))))) (aj (a6 (cH c9))));have hb:=IX r args;have hil:=ra.so.len;have eD:=ra.ob;have vV:=ra.sy.ob;symm;refine⟨a,ps,args,0,rfl,aa.at_,aa.tx,fun H1 p sm hp _=> ?_⟩;refine⟨p,_,rfl,hp,by rw[aT];have:=aa.short 0;lia,?_⟩
 cases hn:iQ (args.getD 0 [])with
 |error e=>
  rw[hn]at hb;have he:=nk hn;subst he;exact t6 ra hE (.inr (.inl ⟨rfl,rfl⟩)) hb sm
 |ok z=>
  rw[hn]at hb;dsimp only at hb;intro H2 gj;have Fn:=sm.trans gj;have gu:=ra.same Fn;refine⟨Y,A.S,r.y,z,rfl,gu.sy,gu.dm,fun H3 f sy=> ?_⟩;have gy:md {r.y with to_:=if 9<z then-1 else z}:=⟨ra.gd.y.dt,ra.gd.y.db,ra.gd.y.AU,by show (if 9<z then-1 else z)<=9;split<;>lia,ra.gd.y.so,ra.gd.y.lo,ra.gd.y.sc,ra.gd.y.lc,ra.gd.y.cn⟩;have f':aZ Cd Y H2 Y H3:=f.mono fun t h=>.inl h;have qX:=gu.sys f' sy rfl gy;clear eD vV;symm;refine⟨aC _,fun q hq=> ?_⟩;exact qL hQ hb qX ((aZ.same ra.dm Fn).trans (f'.mono fun _=>Xn)) ⟨rfl,rfl⟩ hq
theorem cI.quotes{T:Top K mg}{A:ji}{r:eY}{op cl:B}(h:cI T Y H A r used)(g:aZ SyM Y H Y' H')(tg:Y' A.S.x=some .sys)
 (ob:H' A.S.x=some (.ins T.cg A.S.dx (cY (.ref A.S.nx) (.ref qx) (.int (max (-1) r.y.to_)) (.ref A.S.tx) (.int (bK r.y:Nat))))) (t1:Y' qx=some .jL) (t2:Y' oq=some .jL) (t3:Y' cq=some .jL) (qa:gA T H' qx op cl dq oq cq)
 (so:Sm op) (lo:op.length<=65536) (sc:Sm cl) (lc:cl.length<=65536) (cn:cl≠[]):
 cI T Y' H' {A with S:={A.S with qx:=qx,dq:=dq,oq:=oq,cq:=cq}} {r with y:={r.y with open_:=op,close:=cl}} used:=by
 have g':aZ Cd Y H Y' H':=g.mono fun t e=>.inl e;have s:=h.sy;have n:∀t,t≠.sys->¬SyM t:=fun t e q=>e q;refine h.sys g' (S:={A.S with qx:=qx,dq:=dq,oq:=oq,cq:=cq}) (y:={r.y with open_:=op,close:=cl}) ⟨tg,ob,s.na.fr g (fun t q=>n t (by rintro rfl;obtain q|q|⟨_,q⟩:=q<;>cases q)) (n _ (by intro e;cases e)),t1,t2,t3,qa,g.tag _ _ s.tt (n _ (by intro e;cases e)),g.obj _ _ _ s.tt (n _ (by intro e;cases e)) s.tl,s.len,fun k p e=>let q:=s.AU k p e;⟨g.tag _ _ q.1 (n _ (by intro e;cases e)),fun z=>g.obj _ _ _ q.1 (n _ (by intro e;cases e)) (q.2 z)⟩⟩ rfl ?_;exact⟨h.gd.y.dt,h.gd.y.db,h.gd.y.AU,h.gd.y.to_,so,lo,sc,lc,cn⟩
theorem DU:T.nU.Ok P w mg ag iN 4 (lX T "changequote"):=by
 rcases h:T.nU.jG ["run","arguments","opening","closing"]with⟨Y,A,r,used,a,ps,args,rfl,ra,aa,hE,hQ⟩;exists _,(ah (bh 2 nd0 (cG T.argument (c6 T) hr bq (aV (pv 1) (p1 aO)))) (ah (bh 3 nd0 (cG T.argument (c6 T) hr bq (aV (pv 1) (p1 aO)))) (ah (ck (aR (Nj hr.units) (pv 3) (cH c9)) (aj (cD T.bJ T.eU (aB T.bB T.cb (pv 0)) (mz T.A4 (pN T) (hr.mono (by decide)) rfl T.As T.jy.b .nil bq (aV (pv 2) (p1 (pv 3)))))) (aj (ck (aR (Nj hr.units) (pv 2) (cH c9)) (aj (cD T.bJ T.eU (aB T.bB T.cb (pv 0)) (mz T.A4 (pN T) (hr.mono (by decide)) rfl T.As T.jy.b .nil bq (aV (pv 2) (p1 (cH (p1 (bC rfl T.lB)))))))) (aj (cD T.bJ T.eU (aB T.bB T.cb (pv 0)) (yZ (ue T) (hr.mono (by decide)) rfl T.ig.m T.ig.F.kp T.ig.b .nil bq)))))) (aj (a6 (cH c9))))));have hb:=zC r args;symm;refine⟨a,ps,args,0,rfl,aa.at_,aa.tx,fun H1 p1 oQ AE ajk=> ?_⟩;symm;refine⟨a,ps,args,1,rfl,oQ _ _ aa.at_,aa.tx.mono oQ,fun H2 p2 gj mX ajj=> ?_⟩;have Fn:=oQ.trans gj;have gu:=ra.same Fn;have afX:=gj _ _ AE;have eD:=gu.ob;have vV:=gu.sy.ob
 have abc:∀t,Y p1=some t->t= .jL:=fun t e=>by
  obtain h|h:=ajk
  ·have:=aa.tp p1 (bc h);rw[this]at e;cases e;rfl
  ·rw[ra.dm p1 h]at e;cases e
 have afY:∀t,Y p2=some t->t= .jL:=fun t e=>by
  obtain h|h:=ajj
  ·have:=aa.tp p2 (bc h);rw[this]at e;cases e;rfl
  ·rw[(ra.same oQ).dm p2 h]at e;cases e
 have fin:∀(H3:Hp) (qx dq oq cq:ao) (op cl:B),bE H H3->H qx=none->(∀t,Y oq=some t->t= .jL)->(∀t,Y cq=some t->t= .jL)->gA T H3 qx op cl dq oq cq->Sm op->op.length<=65536->Sm cl->cl.length<=65536->cl≠[]->gC r (bR "changequote") args= .ok {r with y:={r.y with open_:=op,close:=cl}}->
  ∀q,upd H3 A.S.x (.ins T.cg A.S.dx (cY (.ref A.S.nx) (.ref qx) (.int (max (-1) r.y.to_)) (.ref A.S.tx) (.int (bK r.y:Nat)))) q=none->Q (.ref q) (upd (upd H3 A.S.x (.ins T.cg A.S.dx (cY (.ref A.S.nx) (.ref qx) (.int (max (-1) r.y.to_)) (.ref A.S.tx) (.int (bK r.y:Nat))))) q (.lst [])):=by
  intro H3 qx dq oq cq op cl kf hqn ho hc qa h1 h2 h3 h4 h5 X4 q hq;have qX:=ra.same kf;have nq:qx≠A.S.x:=cE hqn ra.sy.ob rfl;have no:oq≠A.S.x:=fun e=>by have:=qa.Kw;rw[e,qX.sy.ob]at this;cases this
  have nc:cq≠A.S.x:=fun e=>by have:=qa.Mn;rw[e,qX.sy.ob]at this;cases this
  have nqo:oq≠qx:=fun e=>by have:=qa.Kw;rw[e,qa.at_]at this;cases this
  have nqc:cq≠qx:=fun e=>by have:=qa.Mn;rw[e,qa.at_]at this;cases this
  generalize Tn:upd H3 A.S.x (.ins T.cg A.S.dx (cY (.ref A.S.nx) (.ref qx) (.int (max (-1) r.y.to_)) (.ref A.S.tx) (.int (bK r.y:Nat))))=H4 at hq⊢;have f0:aZ SyM Y H Y H4:=by rw[<-Tn];exact(aZ.same ra.dm kf).trans (aZ.one qX.dm ra.sy.tg rfl)
  have qa4:gA T H4 qx op cl dq oq cq:=by
   (try rw[<-Tn])
   exact⟨(ai nq).trans qa.at_,(ai no).trans qa.Kw,(ai nc).trans qa.Mn⟩
  have f1:=gr (p:=qx) (r:=Tag.jL) f0 (ra.dm qx hqn) qa4.at_;have f2:=yA (p:=oq) (r:=Tag.jL) f1 (fun t e=>ho t (by rw[bw nqo]at e;exact e)) qa4.Kw
  have f3:=yA (p:=cq) (r:=Tag.jL) f2 (fun t e=>by
   by_cases z:cq=oq
   ·rw[z,bY]at e;cases e;rfl
   ·rw[bw z,bw nqc]at e;exact hc t e) qa4.Mn
  have t3:fO (fO (fO Y qx .jL) oq .jL) cq .jL oq=some .jL:=by
   by_cases z:oq=cq
   ·(try rw[z]);exact bY
   ·(try rw[bw z]);exact bY
  have ra4:=ra.quotes f3 (by rw[bw (aD nc),bw (aD no),bw (aD nq)];exact ra.sy.tg) ((congrFun Tn.symm _).trans aq) (by rw[bw (aD nqc),bw (aD nqo)];exact bY) t3 bY qa4 h1 h2 h3 h4 h5;exact qL hQ X4 ra4 (f3.mono fun t e=>by subst e;intro z;cases z) ⟨rfl,rfl⟩ hq
 symm;refine⟨aC _,fun p hp=>⟨zi (args.getD 1 []),[],by rw[ai (bO hp mX),mX,eS];rfl,rfl,?_⟩⟩;have kf:=Fn.trans (aY (o:=HO.lst []) hp);have K4:=a9 (o:=HO.lst []) afX hp;have Wh:=a9 (o:=HO.lst []) mX hp;generalize upd H2 p (.lst [])=H3 at kf K4 Wh⊢;clear eD vV hp mX afX
 by_cases h1:args.getD 1 []=[]
 ·refine gn (by rw[h1];simp[zi]) ?_;rfl';refine⟨aC _,fun p' hp'=>⟨zi (args.getD 0 []),[],by rw[ai (bO hp' K4),K4,eS];rfl,rfl,?_⟩⟩;have sI:=kf.trans (aY (o:=HO.lst []) hp');have Wi:=a9 (o:=HO.lst []) K4 hp';generalize upd H3 p' (.lst [])=H4 at sI Wi⊢
  by_cases h0:args.getD 0 []=[]
  ·refine gn (by rw[h0];simp[zi]) ?_;rw[if_pos ⟨h0,h1⟩,if_pos ⟨h0,h1⟩]at hb;refine⟨rfl,fun H5 qx dq oq cq Fo hq ho hc qa=> ?_⟩;have Jh:=ra.same (sI.trans Fo);have af0:=Jh.ob;have afP:=Jh.sy.ob;clear h0 h1;symm;symm;exact⟨aC _,fin H5 qx dq oq cq [96] [39] (sI.trans Fo) (TM.bE.none sI hq) (fun t e=>by rw[ra.dm oq (TM.bE.none sI ho)]at e;cases e) (fun t e=>by rw[ra.dm cq (TM.bE.none sI hc)]at e;cases e) qa (by unfold Sm;decide) (by decide) (by unfold Sm;decide) (by decide) (by decide) hb⟩
  ·refine gB (by simp only[sA,decide_eq_false_iff_not];exact fun z=>h0 (by unfold zi at z;simpa using z)) ?_;rw[if_neg (fun q=>h0 q.1),if_neg (fun q=>h0 q.1),if_pos h1]at hb;refine⟨by decide,fun cq hcq=> ?_⟩;intro x dx hx sJ vW;exists x,dx,_,_,rfl,aq,rfl;have hxc:=(aM hx).1;have Pw:=(aM hx).2;have hdc:=(aM sJ).1;have hd4:=(aM sJ).2;have n4:∀b,H4 b=none->H b=none:=fun b e=>TM.bE.none sI e;generalize Ea:upd (upd (upd (upd H4 cq (.lst [V.int 39])) dx (.own x)) x (.ins T.gz dx [])) x (.ins T.gz dx (kK (.ref p1) (.ref cq)))=H5;have Fo:bE H H5:=by rw[<-Ea];exact bp (bp (bp (bp sI (n4 _ hcq)) (n4 _ hd4)) (n4 _ Pw)) (n4 _ Pw)
   have qa:gA T H5 x (args.getD 0 []) [39] dx p1 cq:=by
    have d1:p1≠dx:=bO hd4 Wi;have d2:p1≠x:=bO Pw Wi;have d3:p1≠cq:=bO hcq Wi;(try rw[<-Ea])
    refine⟨aq,?_,?_⟩
    ·exact(ai d2).trans ((ai d2).trans ((ai d1).trans ((ai d3).trans Wi)))
    ·exact(ai (aD hxc)).trans ((ai (aD hxc)).trans ((ai (aD hdc)).trans aq))
   have Jh:=ra.same Fo;have af0:=Jh.ob;have afP:=Jh.sy.ob;clear h1;symm;symm;exact⟨aC _,fin H5 x dx p1 cq (args.getD 0 []) [39] Fo (n4 _ Pw) abc (fun t e=>by rw[ra.dm cq (n4 _ hcq)]at e;cases e) qa (aa.small 0) (aa.short 0) (by unfold Sm;decide) (by decide) (by decide) hb⟩
 ·refine gB (by simp only[sA,decide_eq_false_iff_not];exact fun z=>h1 (by unfold zi at z;simpa using z)) ?_;rw[if_neg (fun q=>h1 q.2),if_neg (fun q=>h1 q.2),if_neg h1]at hb;intro x dx hx sJ vW;exists x,dx,_,_,rfl,aq,rfl;have n3:∀b,H3 b=none->H b=none:=fun b e=>TM.bE.none kf e;generalize Ea:upd (upd (upd H3 dx (.own x)) x (.ins T.gz dx [])) x (.ins T.gz dx (kK (.ref p1) (.ref p2)))=H5;have Fo:bE H H5:=by rw[<-Ea];exact bp (bp (bp kf (n3 _ sJ)) (n3 _ hx)) (n3 _ hx)
  have qa:gA T H5 x (args.getD 0 []) (args.getD 1 []) dx p1 p2:=by
   (try rw[<-Ea])
   refine⟨aq,?_,?_⟩
   ·exact(ai (bO hx K4)).trans ((ai (bO hx K4)).trans ((ai (bO sJ K4)).trans K4))
   ·exact(ai (bO hx Wh)).trans ((ai (bO hx Wh)).trans ((ai (bO sJ Wh)).trans Wh))
  have Jh:=ra.same Fo;have af0:=Jh.ob;have afP:=Jh.sy.ob;symm;symm;exact⟨aC _,fin H5 x dx p1 p2 _ _ Fo (n3 _ hx) abc afY qa (aa.small 0) (aa.short 0) (aa.small 1) (aa.short 1) h1 hb⟩
inductive YT(vs:List V)(H:Hp)(Q:VK)(E:XK):Prop
 |mk (x dx:ao) (v0 v1 v2 v3 v4 v6:V) (n m:Nat) (_:vs=[.ref x,.int (m:Nat)]) (_:H x=some (.ins T.dD dx (f9 v0 v1 v2 v3 v4 (.int (n:Nat)) v6))) (_:if 65536<n+m then E (.ref T.c7) none H else Q .fI (upd H x (.ins T.dD dx (f9 v0 v1 v2 v3 v4 (.int ((n+m:Nat):Int)) v6))))
theorem Bd:T.zH.Ok P w mg ag (jF P w) 1 (YT T):=by
 rcases h:T.zH.qj ["self","more"]with⟨x,dx,v0,v1,v2,v3,v4,v6,n,m,rfl,hx,k⟩;exists _,(ah (ck (aR qy (cu dz (aB T.bB T.ua (pv 0)) (pv 1)) (bC rfl T.mE)) (aj (ff T.hW hr)) bQ) (aj (ek T.bB T.ua (pv 0) (pv 1) mF)));symm
 by_cases hb:65536<n+m
 ·rw[if_pos hb]at k;refine gB (by lia) ?_;exact k
 ·rw[if_neg hb]at k;refine gn (by omega) ?_;rfl';exact k
inductive Ho(vs:List V)(H:Hp)(Q:VK)(E:XK):Prop
 |mk (x dx wr:ao) (v0 v1 v4 v5 v6:V) (room m:Nat) (out:B) (_:vs=[.ref x,.int (m:Nat)]) (_:H x=some (.ins T.dD dx (f9 v0 v1 (.int (room:Nat)) (.ref wr) v4 v5 v6))) (_:H wr=some (.lst (iv out))) (_:if room<out.length+m then E (.ref T.c7) none H else Q .fI H)
theorem rQ:T.nM.Ok P w mg ag (jF P w) 1 (Ho T):=by
 rcases h:T.nM.qj ["self","more"]with⟨x,dx,wr,v0,v1,v4,v5,v6,room,m,out,rfl,hx,hw,k⟩;exists _,(aj (ck (aR qy (cu dz (cL T (aB T.bB T.lx (pv 0))) (pv 1)) (aB T.bB T.Ex (pv 0))) (aj (ff T.hW hr)) bQ));symm
 by_cases hb:room<out.length+m
 ·rw[if_pos hb]at k;refine gB (by omega) ?_;exact k
 ·rw[if_neg hb]at k;refine gn (by omega) ?_;exact k
def WM(t:Tag):Prop:=Cd t\/t= .written
theorem Ms(h:WM r):rD r:=by
 obtain h|rfl:=h
 ·exact Xn h
 ·intro e;cases e
theorem cI.wrote{T:Top K mg}{Y Y':iC}{H H':Hp}{A:ji}{r:eY}{used:Nat}{out:B}(h:cI T Y H A r used)(g:aZ (fun t=>t= .written) Y H Y' H')(tw:Y' A.wr=some .written)(wr:H' A.wr=some (.lst (iv out)))(gd:Good {r with out:=out}):
 cI T Y' H' A {r with out:=out} used:=by
 have ns:∀t,SJ t->¬t= .written:=by
  rintro t (rfl|rfl|⟨_,rfl⟩|(rfl|rfl|⟨_,rfl⟩))<;>(intro e;cases e)
 exact⟨g.tag _ _ h.tg (by intro e;cases e),g.obj _ _ _ h.tg (by intro e;cases e) h.ob,h.sy.fr g ns (by intro e;cases e),h.so.fr g (by intro e;cases e) (by intro e;cases e) (by intro e;cases e),tw,wr,g.tag _ _ h.tc (by intro e;cases e),g.obj _ _ _ h.tc (by intro e;cases e) h.cl,h.fr.fr g (fun i _=>⟨(by intro e;cases e),(by intro e;cases e),(by intro e;cases e)⟩) (by intro e;cases e),g.dm,gd⟩
inductive J3(vs:List V)(H:Hp)(Q:VK)(E:XK):Prop
 |mk (Y:iC) (A:ji) (r:eY) (used:Nat) (a:ao) (t:B) (_:vs=[.ref A.x,.ref a]) (_:cI T Y H A r used) (_:H a=some (.lst (iv t))) (_:Y a=none) (_:(GV r t= .error 4->E (.ref T.c7) none H)) (_:(∀r' H',GV r t= .ok r'->aZ WM Y H Y H'->cI T Y H' A r' used->Q .fI H'))
theorem tK:T.sr.Ok P w mg ag (jF P w) 2 (J3 T):=by
 rcases h:T.sr.qj ["self","piece"]with⟨Y,A,r,used,a,t,rfl,ra,ha,Wu,hE,hQ⟩;exists _,(aj (ck (aR d9 (aB T.bJ T.fK (aB T.bB T.cb (pv 0))) (bC rfl T.Gq)) (ah (bx (cM (pv 0) T.bB T.nM (rQ T) hr dC (p1 (cL T (pv 1))))) (aj (bx (j0 aJ dR PySem.F.type_list_extend jP (aB T.bB T.lx (pv 0)) (p1 (pv 1)))))) (aj (ck (aR rN (aB T.bJ T.fK (aB T.bB T.cb (pv 0))) (bC rfl T.vU)) (aj (bx (cM (aB T.bB T.cb (pv 0)) T.bJ T.rl (Ap T) hr dC (p1 (pv 1))))) bQ))));have eD:=ra.ob;have vV:=ra.sy.ob;have hwr:=ra.wr;have hu:=ra.gd.u ra.sy.na.Oe;have hw:=T3 (b:=t) hu;symm
 by_cases h0:r.y.to_=0
 ·rw[if_neg (by lia),if_pos h0]at hw;refine gB (by lia) ?_;rfl';exists A.x,A.dx,A.wr,_,_,_,_,_,r.room,t.length,r.out,rfl,eD,hwr
  by_cases hb:r.room<r.out.length+t.length
  ·rw[if_pos hb]at hw⊢;exact hE hw
  ·rw[if_neg hb]at hw⊢;symm;have hrm:=ra.gd.rm;exists (by rw[aT];lia);have f:aZ (fun t=>t= .written) Y H Y (upd H A.wr (.lst (iv (r.out++t)))):=aZ.one ra.dm ra.tw rfl;have gd:=Eb ra.gd ra.sy.na.Oe hw;exact hQ _ _ hw (f.mono fun _ h=>.inr h) (ra.wrote f ra.tw aq gd)
 ·refine gn (by lia) ?_
  by_cases h1:r.y.to_<0
  ·rw[if_pos h1]at hw;rfl';refine gn (by simp;lia) ?_;exact hQ _ _ hw (aZ.same ra.dm (bE.refl H)) ra
  ·rw[if_neg h1,if_neg h0]at hw;rfl';refine gB (by simp;lia) ?_;rfl';exists Y,A.S,r.y,a,t,rfl,ra.sy,ra.dm,ha,Wu,by lia,ra.gd.y.to_,ra.gd.y.AU
   by_cases hb:65536<bK r.y+t.length
   ·rw[if_pos hb]at hw⊢;exact hE hw
   ·rw[if_neg hb]at hw⊢;intro H' f sy;have gd:=Eb ra.gd ra.sy.na.Oe hw;exact hQ _ _ hw (f.mono fun _ h=>.inl h) (ra.sys f sy rfl gd.y)
theorem aZ.upd(f:aZ M Y H Y' H')(hx:Y' x=some r)(hr:M r):aZ M Y H Y' (upd H' x o):=f.trans (aZ.one f.dm hx hr)
def uy(i:Nat)(t:Tag):Prop:=t= .run\/t= .call i\/t= .args i\/t= .now i
theorem yw(h:uy i t):CM t:=by
 obtain h|h|h|h:=h
 ·exact .inl h
 ·exact .inr (.inr (.inl ⟨i,h⟩))
 ·exact .inr (.inr (.inr (.inl ⟨i,h⟩)))
 ·exact .inr (.inr (.inr (.inr ⟨i,h⟩)))
theorem iW:¬uy i .jL:=by rintro(h|h|h|h)<;>cases h
theorem CG:¬uy i .calls:=by rintro(h|h|h|h)<;>cases h
theorem JM(h:j<i):¬uy i (.call j)/\¬uy i (.args j)/\¬uy i (.now j):=by
 refine⟨?_,?_,?_⟩<;>rintro(q|q|q|q)<;>cases q<;>lia
theorem cI.top{T:Top K mg}{A:ji}{r:eY}{fs:List iU}(h:cI T Y H A r used)(hf:r.frames=f::fs)(hc:A.cs=c::cs)(g:aZ (uy fs.length) Y H Y' H')(tg:Y' A.x=some .run)
 (ob:H' A.x=some (.ins T.dD A.dx (f9 (.ref A.S.x) (.ref A.sx) (.int (r.room:Nat)) (.ref A.wr) (.ref A.cl) (.int (cw (f'::fs):Nat)) (.int (used:Nat))))) (fr:Jg T Y' H' fs.length c f') (gd:Good {r with frames:=f'::fs}):
 cI T Y' H' A {r with frames:=f'::fs} used:=by
 have vX:=h.fr;rw[hf,hc]at vX
 cases vX with
 |cons a b=>
  have:=h.calls (cs:=c::cs) (fs:=f'::fs) (g.mono fun _=>yw) tg ob (g.tag _ _ h.tc CG) (by rw[<-hc];exact g.obj _ _ _ h.tc CG h.cl) (.cons fr (b.fr g (fun i hi=>JM hi) iW)) gd;rw[<-hc]at this;exact this
inductive Cf(vs:List V)(H:Hp)(Q:VK)(E:XK):Prop
 |mk (Y:iC) (A:ji) (r:eY) (used:Nat) (a:ao) (t:B) (_:vs=[.ref A.x,.ref a]) (_:cI T Y H A r used) (_:H a=some (.lst (iv t))) (_:t.length<=70000) (_:Sm t) (_:Y a=none) (_:(∀H',dI r t= .error 4->bE H H'->E (.ref T.c7) none H')) (_:(∀r' H',dI r t= .ok r'->aZ rD Y H Y H'->cI T Y H' A r' used->Q .fI H'))
theorem nQ:T.pU.Ok P w mg ag (jF P w) 3 (Cf T):=by
 rcases h:T.pU.qj ["self","piece","call"]with⟨Y,A,r,used,a,t,rfl,ra,ha,zp,Fz,Wu,hE,hQ⟩;exists _,(ah (ck (aR (HA hr.uQ) (aB T.bB T.il (pv 0)) (cH c9)) (ah (bx (cM (pv 0) T.bB T.sr (tK T) hr dC (p1 (pv 1)))) (aj vR)) bQ) (ah (bh 2 nd0 (c5 b6 (aB T.bB T.il (pv 0)) (pK kX aO))) (ah (bx (cM (pv 0) T.bB T.zH (Bd T) hr dC (p1 (cL T (pv 1))))) (ah (ek T.dE T.qN (pv 2) (cL T (pv 1)) mF) (ah (bx (j0 aJ dR PySem.F.type_list_extend jP (c5 b6 (aB T.dE T.dP (pv 2)) (pK kX aO)) (p1 (pv 1)))) (aj (cD T.dE T.pf (pv 2) vg)))))));have eD:=ra.ob;have ajN:=ra.cl;symm;refine⟨aC _,fun q hq=> ?_⟩;have sm:=aY (o:=HO.lst []) hq;have dS:=ra.same sm;have Gv:=sm _ _ ha;generalize upd H q (.lst [])=H1 at sm dS Gv⊢;clear eD ajN hq ha;have eD:=dS.ob;have rY:=dS.cl;have vX:=dS.fr
 cases hf:r.frames with
 |nil=>
  rw[hf]at vX
  have w6:A.cs=[]:=by cases h:A.cs with
   |nil=>rfl
   |cons _ _=>rw[h]at vX;cases vX
  rw[w6]at rY;have hco:dI r t=GV r t:=by unfold dI;rw[hf]
  rw[hco]at hE hQ;clear w6 hf;symm;refine gB (by rfl) ?_;rfl';refine⟨Y,A,r,used,a,t,rfl,dS,Gv,Wu,fun h=>hE H1 h sm,fun r' H' h f tf=> ?_⟩;rfl';exact hQ r' H' h ((aZ.same ra.dm sm).trans (f.mono fun _=>Ms)) tf
 |cons f l=>
  rw[hf]at vX
  cases w6:A.cs with
  |nil=>rw[w6]at vX;cases vX
  |cons c cs=>
   rw[w6]at vX rY
   cases vX with
   |cons fa fb=>
    rcases fa with⟨e1,dc,nm,mx,ar,ps,p,e2,e3,e4,e5,e6,e7,e8,e9,EN,e11⟩;rw[b8,<-ft]at rY;rw[<-ft]at e7;have x1:c≠A.x:=cE e1 ra.tg rfl;have x2:ar≠A.x:=cE e6 ra.tg rfl;have x3:p≠A.x:=cE EN ra.tg rfl;have x4:a≠A.x:=cE Wu ra.tg rfl;have x5:ar≠c:=cE e6 e1 rfl;have x6:p≠c:=cE EN e1 rfl;have x7:a≠c:=cE Wu e1 rfl;have x8:p≠ar:=cE EN e6 rfl;have x9:a≠ar:=cE Wu e6 rfl;have x10:a≠p:=cE Wu EN rfl;have y1:=aD x1;have y2:=aD x2;have y3:=aD x3;have y5:=aD x5;have y6:=aD x6;have y8:=aD x8;have Tb:cw r.frames=ie f+cw l:=by rw[hf,hZ]
    have hco:dI r t=if 65536<cw r.frames+t.length then .error 4 else .ok {r with frames:={f with now:=f.now++t,begun:=true}::l}:=by
     unfold dI aez;(try rw[hf])
    have tU:=hf;have RV:=w6;clear w6 hf Tb;symm;refine gn (by simp) ?_;rfl';exists A.x,A.dx,_,_,_,_,_,_,cw r.frames,t.length,rfl,eD
    by_cases iH:65536<cw r.frames+t.length
    ·rw[if_pos iH]at hco⊢;exact hE H1 hco sm
    ·rw[if_neg iH]at hco⊢;have Z5:=(Sa ra.gd tU Fz hco).2.2;clear rY;symm;have abf:=ra.gd.hd;rw[tU,hZ]at abf;have alp:f.now.length<=ie f:=by unfold ie;lia
     exists (by rw[aT];lia);have g:aZ (uy l.length) Y H1 Y _:=(((((aZ.same dS.dm (bE.refl H1)).upd (M:=uy l.length) (o:=HO.ins T.dD A.dx (f9 (.ref A.S.x) (.ref A.sx) (.int (r.room:Nat)) (.ref A.wr) (.ref A.cl) (.int ((cw (f::l)+t.length:Nat):Int)) (.int (used:Nat)))) ra.tg (.inl rfl)).upd (o:=HO.ins T.dY dc (fw (.ref nm) (.ref mx) (.ref ar) (.bl f.begun) (.int (f.deep:Nat)) (.int ((ie f:Int)+(t.length:Int))))) e1 (.inr (.inl rfl))).upd (o:=HO.lst (iv (f.now++t))) EN (.inr (.inr (.inr rfl)))).upd (o:=HO.ins T.dY dc (fw (.ref nm) (.ref mx) (.ref ar) (.bl true) (.int (f.deep:Nat)) (.int ((ie f:Int)+(t.length:Int))))) e1 (.inr (.inl rfl)))
     have Tb:ie {f with now:=f.now++t,begun:=true}=ie f+t.length:=by
      unfold ie;dsimp only;(try rw[aF]);lia
     rw[ft]at e7
     have fr:Jg T Y (upd (upd (upd (upd H1 A.x (.ins T.dD A.dx (f9 (.ref A.S.x) (.ref A.sx) (.int (r.room:Nat)) (.ref A.wr) (.ref A.cl) (.int ((cw (f::l)+t.length:Nat):Int)) (.int (used:Nat))))) c (.ins T.dY dc (fw (.ref nm) (.ref mx) (.ref ar) (.bl f.begun) (.int (f.deep:Nat)) (.int ((ie f:Int)+(t.length:Int)))))) p (.lst (iv (f.now++t)))) c (.ins T.dY dc (fw (.ref nm) (.ref mx) (.ref ar) (.bl true) (.int (f.deep:Nat)) (.int ((ie f:Int)+(t.length:Int)))))) l.length c {f with now:=f.now++t,begun:=true}:=by
      refine⟨e1,dc,nm,mx,ar,ps,p,?_,e3,g.obj _ _ _ e3 iW e4,e5.fr g iW,e6,?_,e8.fr g iW e9,e9,EN,?_⟩
      ·(try rw[aq,Tb]);rfl
      ·exact(ai x5).trans ((ai y8).trans ((ai x5).trans ((ai x2).trans e7)))
      ·exact(ai x6).trans aq
     have ac6:cw ({f with now:=f.now++t,begun:=true}::l)=cw (f::l)+t.length:=by rw[hZ,hZ,Tb];lia
     have gu:=dS.top tU RV g ra.tg (by rw[ai y1,ai y3,ai y1,aq,ac6]) fr Z5;rfl';exact hQ _ _ hco ((aZ.same ra.dm sm).trans (g.mono fun _ h=>AL (yw h))) gu
theorem yz(f:aZ M Y H Y' H')(hp:∀t,Y p=some t->M t)(hH:H' p=some o):aZ M Y H (fO Y' p r) H':=
 ⟨fun b t e n=>by
  have z:b≠p:=fun z=>by subst z;exact n (hp t e)
  rw[bw z];exact f.tag b t e n,f.obj,fun b hb=>by
  rw[bw (cE hb hH rfl)];exact f.dm b hb⟩
inductive yO(vs:List V)(H:Hp)(Q:VK)(E:XK):Prop
 |mk (x dx nm mx dm tx ar:ao) (wd:V) (name t:B) (_:vs=[.ref x,.ref nm,.ref mx,.ref ar]) (_:H x=some (.ins T.dY dx [])) (_:H nm=some (.tup (iv name))) (_:H mx=some (.ins T.dr dm (eN wd (.ref tx)))) (_:H tx=some (.lst (iv t))) (_:Q .fI (upd H x (.ins T.dY dx (fw (.ref nm) (.ref mx) (.ref ar) (.bl false) (.int 0) (.int ((name.length:Int)+(t.length:Int)))))))
theorem zg:T.nI.Ok P w mg ag iN 1 (yO T):=by
 rcases h:T.nI.jG ["self","name","meaning","arguments"]with⟨x,dx,nm,mx,dm,tx,ar,wd,name,t,rfl,hx,hnm,hmx,NR,k⟩;exists _,(ah (cD T.dE T.Br (pv 0) (pv 1)) (ah (cD T.dE T.mK (pv 0) (pv 2)) (ah (cD T.dE T.dP (pv 0) (pv 3)) (ah (cD T.dE T.pf (pv 0) vg) (ah (cD T.dE T.mL (pv 0) aO) (aj (cD T.dE T.qN (pv 0) (cu dz (jJ sk rfl T.Bg mY (p1 (pv 1))) (cL T (aB T.fX T.kx (pv 2)))))))))));have h1:nm≠x:=cE hnm hx rfl;have h2:tx≠x:=cE NR hx rfl
 have h3:mx≠x:=fun e=>by
  rw[e,hx]at hmx;have:=HO.ins.inj (bo hmx);have:=congrArg cS this.2.2;simp[eN]at this
 symm
inductive Fk(vs:List V)(H:Hp)(Q:VK)(E:XK):Prop
 |mk (Y:iC) (A:ji) (r:eY) (used:Nat) (c dc nm mx ar p:ao) (name:B) (d:dj) (_:vs=[.ref A.x,.ref c]) (_:cI T Y H A r used) (_:H c=some (.ins T.dY dc (fw (.ref nm) (.ref mx) (.ref ar) (.bl false) (.int 0) (.int ((name.length+cW d:Nat):Int))))) (_:Y c=none) (_:Y ar=none) (_:Y p=none) (_:H ar=some (.lst (rv [p]))) (_:H p=some (.lst (iv []))) (_:ar≠p) (_:Y nm=some .jL) (_:H nm=some (.tup (iv name))) (_:la T Y H mx d) (_:Sm name) (_:(∀b,d= .text b->Sm b)) (_:(∀k,d= .built k->k∈gD)) (_:(256<=r.frames.length\/65536<cw r.frames+name.length+cW d->E (.ref T.c7) none H)) (_:(¬(256<=r.frames.length\/65536<cw r.frames+name.length+cW d)->∀Y' H' A',aZ rD Y H Y' H'->cI T Y' H' A' {r with frames:=⟨name,d,[],[],0,false⟩::r.frames} used->Kp A A'->Q .fI H'))
theorem zd:T.pV.Ok P w mg ag (jF P w) 2 (Fk T):=by
 rcases h:T.pV.qj ["self","call"]with⟨Y,A,r,used,c,dc,nm,mx,ar,p,name,d,rfl,ra,hc,tc,ta,tp,X5,hp,hap,tn,hn,hm,s1,s2,s3,hE,hQ⟩;exists _,(ah (ck (aR d9 (cL T (aB T.bB T.il (pv 0))) (bC rfl T.tR)) (aj (ff T.hW hr)) bQ) (ah (bx (cM (pv 0) T.bB T.zH (Bd T) hr dC (p1 (aB T.dE T.qN (pv 1))))) (aj (bx (j0 aJ bI PySem.F.type_list_append fg (aB T.bB T.il (pv 0)) (p1 (pv 1)))))));have eD:=ra.ob;have rY:=ra.cl;have hlen:=ra.fr.len;have hdp:=ra.gd.dp;have c1:c≠A.x:=cE tc ra.tg rfl;have c2:c≠A.cl:=cE tc ra.tc rfl;have c3:A.cl≠A.x:=fun z=>by have:=ra.tc;rw[z,ra.tg]at this;cases this
 have c4:=aD c3;have a1:ar≠A.x:=cE ta ra.tg rfl;have a2:ar≠A.cl:=cE ta ra.tc rfl;have p1:p≠A.x:=cE tp ra.tg rfl;have p2:p≠A.cl:=cE tp ra.tc rfl;have L9:c≠ar:=cE hc X5 rfl;have hcp:c≠p:=cE hc hp rfl;clear hlen;symm;have hlen:=ra.fr.len;(try rw[fR,fP,hlen])
 by_cases h1:256<=r.frames.length
 ·refine gB (by lia) ?_;exact hE (.inl h1)
 ·refine gn (by lia) ?_;rfl';exists A.x,A.dx,_,_,_,_,_,_,cw r.frames,name.length+cW d,rfl,eD
  by_cases h2:65536<cw r.frames+(name.length+cW d)
  ·refine gB h2 ?_;exact hE (.inr (by lia))
  ·refine gn h2 ?_;have k:=hQ (by lia);clear hQ hE;symm;exists (by rw[fR,fP,hlen,aT];lia);generalize uB:upd (upd H A.x (.ins T.dD A.dx (f9 (.ref A.S.x) (.ref A.sx) (.int (r.room:Nat)) (.ref A.wr) (.ref A.cl) (.int ((cw r.frames+(name.length+cW d):Nat):Int)) (.int (used:Nat))))) A.cl (.lst (rv A.cs.reverse++[V.ref c]))=H2
   have g0:aZ (fun t=>t= .run\/t= .calls) Y H Y H2:=by
    (try rw[<-uB])
    exact((aZ.same ra.dm (bE.refl H)).upd ra.tg (.inl rfl)).upd ra.tc (.inr rfl)
   have hc2:H2 c=some (.ins T.dY dc (fw (.ref nm) (.ref mx) (.ref ar) (.bl false) (.int 0) (.int ((name.length+cW d:Nat):Int)))):=(congrFun uB.symm _).trans ((ai c2).trans ((ai c1).trans hc));have Lb:H2 ar=some (.lst (rv [p])):=(congrFun uB.symm _).trans ((ai a2).trans ((ai a1).trans X5));have mX:H2 p=some (.lst (iv [])):=(congrFun uB.symm _).trans ((ai p2).trans ((ai p1).trans hp))
   have g:aZ (fun t=>t= .run\/t= .calls) Y H (fO (fO (fO Y c (.call r.frames.length)) ar (.args r.frames.length)) p (.now r.frames.length)) H2:=
    gr (gr (gr g0 tc hc2) (by rw[bw (aD L9)];exact ta) Lb) (by rw[bw (aD hap),bw (aD hcp)];exact tp) mX
   have gi:¬(fun t=>t=Tag.run\/t= .calls) Tag.jL:=by rintro(q|q)<;>cases q
   have fr:Jg T (fO (fO (fO Y c (.call r.frames.length)) ar (.args r.frames.length)) p (.now r.frames.length)) H2 r.frames.length c ⟨name,d,[],[],0,false⟩:=by
    refine⟨by rw[bw hcp,bw L9];exact bY,dc,nm,mx,ar,[],p,?_,g.tag _ _ tn gi,g.obj _ _ _ tn gi hn,hm.fr g gi,by rw[bw hap];exact bY,Lb,.nil,fun q hq=>absurd hq dh,bY,mX⟩;(try rw[hc2])
    have e:ie ⟨name,d,[],[],0,false⟩=name.length+cW d:=by unfold ie;simp
    (try rw[e]);rfl
   have hh:cw (⟨name,d,[],[],0,false⟩::r.frames)=cw r.frames+(name.length+cW d):=by
    (try rw[hZ])
    have e:ie ⟨name,d,[],[],0,false⟩=name.length+cW d:=by unfold ie;simp
    (try rw[e]);lia
   have gd:Good {r with frames:=⟨name,d,[],[],0,false⟩::r.frames}:=by
    refine⟨ra.gd.y,fun f hf=> ?_,by show cw (_::r.frames)<=_;rw[hh];lia,by show (_::r.frames).length<=_;rw[au];lia,ra.gd.ou,ra.gd.rm⟩;obtain rfl|hf:=a0.mp hf
    ·exact⟨s1,s2,s3,fun a ha=>absurd ha dh,ng,aC _⟩
    ·exact ra.gd.fr f hf
   have gc:aZ CM Y H (fO (fO (fO Y c (.call r.frames.length)) ar (.args r.frames.length)) p (.now r.frames.length)) H2:=g.mono fun t h=>h.elim .inl fun e=>.inr (.inl e);have gu:=ra.calls (used':=used) (cs:=c::A.cs) gc (by rw[bw (aD p1),bw (aD a1),bw (aD c1)];exact ra.tg) (by rw[<-uB,ai c4,aq,hh]) (by rw[bw (aD p2),bw (aD a2),bw (aD c2)];exact ra.tc) (by rw[<-uB,aq,b8,ft]) (.cons fr (ra.fr.fr g (fun i _=>⟨(by rintro(q|q)<;>cases q),(by rintro(q|q)<;>cases q),(by rintro(q|q)<;>cases q)⟩) gi)) gd;exact k _ _ _ (gc.mono fun _=>AL) gu ⟨rfl,rfl⟩
inductive BL(vs:List V)(H:Hp)(Q:VK)(E:XK):Prop
 |mk (Y:iC) (A:ji) (r:eY) (used:Nat) (c:ao) (cs:List ao) (f:iU) (l:List iU) (_:vs=[.ref A.x,.ref c]) (_:cI T Y H A r used) (_:r.frames=f::l) (_:A.cs=c::cs) (_:(1024<=f.args.length->E (.ref T.c7) none H)) (_:(¬1024<=f.args.length->∀Y' H',aZ rD Y H Y' H'->cI T Y' H' A {r with frames:={f with args:=f.args++[f.now],now:=[],begun:=false}::l} used->Q .fI H'))
theorem wu:T.nF.Ok P w mg ag (jF P w) 1 (BL T):=by
 rcases h:T.nF.qj ["self","call"]with⟨Y,A,r,used,c,cs,f,l,rfl,ra,hf,w6,hE,hQ⟩;exists _,(ah (ck (aR d9 (cL T (aB T.dE T.dP (pv 1))) (bC rfl T.ny)) (aj (ff T.hW hr)) bQ) (ah (bx (j0 aJ bI PySem.F.type_list_append fg (aB T.dE T.dP (pv 1)) (p1 (cH c9)))) (aj (cD T.dE T.pf (pv 1) vg))));have vX:=ra.fr;rw[hf,w6]at vX;have tU:r.frames=f::l:=hf;have RV:A.cs=c::cs:=w6;clear hf w6
 cases vX with
 |cons fa fb=>
  rcases fa with⟨e1,dc,nm,mx,ar,ps,p,e2,e3,e4,e5,e6,e7,e8,e9,EN,e11⟩;have Iq:=e8.len;have hac:ar≠c:=cE e6 e1 rfl;have L9:=aD hac;clear Iq;symm;have Iq:=e8.len;(try rw[fR,aF,Iq])
  by_cases h1:1024<=f.args.length
  ·refine gB (by rw[d8];have:=(ra.gd.fr f (by rw[tU];exact aX)).len;lia) ?_;exact hE h1
  ·refine gn (by rw[d8];lia) ?_;rfl';refine⟨aC _,fun q hq=> ?_⟩;rfl';exists (by rw[fR,aF,Iq,d8,aT];lia);rfl';(try rw[ft])
   have nq:Y q=none:=ra.dm q hq;have qc:c≠q:=bO hq e2;have qa:ar≠q:=bO hq e7;have qp:p≠q:=bO hq e11;have pa:p≠ar:=cE EN e6 rfl;have pc:p≠c:=cE EN e1 rfl;have xc:A.x≠c:=fun z=>by have:=ra.tg;rw[z,e1]at this;cases this
   have xa:A.x≠ar:=fun z=>by have:=ra.tg;rw[z,e6]at this;cases this
   have xp:A.x≠p:=fun z=>by have:=ra.tg;rw[z,EN]at this;cases this
   have xq:A.x≠q:=bO hq ra.ob;generalize uB:upd (upd (upd H q (.lst [])) ar (.lst (rv (ps++[p]++[q])))) c (.ins T.dY dc (fw (.ref nm) (.ref mx) (.ref ar) (.bl false) (.int (f.deep:Nat)) (.int (ie f:Nat))))=H2
   have g0:aZ (uy l.length) Y H Y H2:=by
    (try rw[<-uB])
    exact((aZ.same ra.dm (aY hq)).upd e6 (.inr (.inr (.inl rfl)))).upd e1 (.inr (.inl rfl))
   have mX:H2 p=some (.lst (iv f.now)):=(congrFun uB.symm _).trans ((ai pc).trans ((ai pa).trans ((ai qp).trans e11)));have qH:H2 q=some (.lst (iv [])):=(congrFun uB.symm _).trans ((ai (aD qc)).trans ((ai (aD qa)).trans aq));have g:aZ (uy l.length) Y H (fO (fO Y p .jL) q (.now l.length)) H2:=yz (yz g0 (fun t e=>by rw[EN]at e;cases e;exact .inr (.inr (.inr rfl))) mX) (fun t e=>by rw[nq]at e;cases e) qH
   have Tb:ie {f with args:=f.args++[f.now],now:=[],begun:=false}=ie f:=by
    unfold ie;dsimp only;simp;lia
   have fr:Jg T (fO (fO Y p .jL) q (.now l.length)) H2 l.length c {f with args:=f.args++[f.now],now:=[],begun:=false}:=by
    refine⟨by rw[bw qc,bw (aD pc)];exact e1,dc,nm,mx,ar,ps++[p],q,?_,g.tag _ _ e3 iW,g.obj _ _ _ e3 iW e4,e5.fr g iW,by rw[bw qa,bw (aD pa)];exact e6,?_,(e8.fr g iW e9).snoc mX,fun b hb=> ?_,bY,qH⟩
    ·(try rw[<-uB,aq,Tb])
    ·exact(congrFun uB.symm _).trans ((ai hac).trans aq)
    ·obtain h|h:=dW.mp hb
     ·exact g.tag _ _ (e9 b h) iW
     ·have:b=p:=by simpa using h
      (try rw[this,bw qp]);exact bY
   have hh:cw ({f with args:=f.args++[f.now],now:=[],begun:=false}::l)=cw r.frames:=by rw[tU,hZ,hZ,Tb]
   have gf:=ra.gd.fr f (by rw[tU];exact aX)
   have gd:Good {r with frames:={f with args:=f.args++[f.now],now:=[],begun:=false}::l}:=by
    refine⟨ra.gd.y,fun x hx=> ?_,by show cw (_::l)<=_;rw[hh];exact ra.gd.hd,by have:=ra.gd.dp;rw[tU]at this;exact this,ra.gd.ou,ra.gd.rm⟩;obtain rfl|hx:=a0.mp hx
    ·refine⟨gf.nm,gf.dt,gf.db,fun a ha=> ?_,ng,?_⟩
     ·obtain h|h:=dW.mp ha
      ·exact gf.ar a h
      ·have:a=f.now:=by simpa using h
       (try rw[this]);exact gf.nw
     ·show (f.args++[f.now]).length<=1024;(try rw[aF,d8]);lia
    ·exact ra.gd.fr x (by rw[tU];exact aK _ hx)
   have gu:=ra.top tU RV g (by rw[bw xq,bw xp];exact ra.tg) (by rw[<-uB,ai xc,ai xa,ai xq,hh];exact ra.ob) fr gd;exact hQ h1 _ _ (g.mono fun _ h=>AL (yw h)) gu
theorem Xl(h:∀n:Int,1<=n->n<=9->(n≠t↔n≠to_)):∀(ns l:List Int),ns.foldl (fun l n=>if (1<=n/\n<=9)/\n≠t then B4 l n else l) l=l++bk to_ l ns
 |[],l=>by unfold bk;simp
 |n::ns,l=>by
  rw[dX,Xl h ns]
  conv=>rhs;unfold bk
  by_cases h1:(1<=n/\n<=9)/\n≠t
  ·have h2:(1<=n/\n<=9)/\n≠to_:=⟨h1.1,(h n h1.1.1 h1.1.2).mp h1.2⟩;rw[if_pos h1];unfold B4
   by_cases hm:n∈l
   ·rw[if_pos hm,if_neg (fun q=>q.2 hm)]
   ·rw[if_neg hm,if_pos ⟨h2,hm⟩];simp
  ·rw[if_neg h1,if_neg (fun q=>h1 ⟨q.1.1,(h n q.1.1.1 q.1.1.2).mpr q.1.2⟩)]
theorem LM(to_:Int)(ns:List Int):qM (max (-1) to_) ns=bk to_ [] ns:=by
 have:=Xl (to_:=to_) (t:=max (-1) to_) (fun n h1 h9=>by lia) ns [];rw[aaM]at this;exact this
inductive yK(vs:List V)(H:Hp)(Q:VK)(E:XK):Prop
 |mk (Y:iC) (A:ji) (r:eY) (used:Nat) (a:ao) (ns:List Int) (_:vs=[.ref A.x,.ref a]) (_:cI T Y H A r used) (_:H a=some (.lst (ns.map V.int))) (_:(∀H',lg r ns= .error 4->bE H H'->E (.ref T.c7) none H')) (_:(∀r' Y' H' A',lg r ns= .ok r'->aZ rD Y H Y' H'->Kp A A'->cI T Y' H' A' r' used->Q .fI H'))
theorem rR:T.nN.Ok P w mg ag (jF P w) 3 (yK T):=by
 rcases h:T.nN.qj ["self","numbers","chosen","number"]with⟨Y,A,r,used,a,ns,rfl,ra,ha,hE,hQ⟩;exists _,((ah (bh 2 nd0 (cM (aB T.bB T.cb (pv 0)) T.bJ T.k7 (tI T) hr bq (p1 (pv 1)))) (ah (ck (aR d9 (aB T.bJ T.fK (aB T.bB T.cb (pv 0))) (bC rfl T.Gq)) (aj (bx (cM (pv 0) T.bB T.nM (rQ T) hr dC (p1 (jJ (Xi rfl) rfl T.Pk (by first|rfl|decide+kernel) (p1 (Gf rfl nd0 (jA (pv 2)) (nW (own:=[("number",3)]) (show FP ["self","numbers","chosen","number"] (dv (inClass (top 126) 14)) _ _=true by decide+kernel)) (fun _ _ _ _ _=>fk 3 nd0) (fun _ _ _ _ _=>tz) (fun _ _ _ _ _=>(cL T (c5 b6 (aB T.bJ T.ja (aB T.bB T.cb (pv 0))) (pv 3))))))))))) bQ) (aj (oE fm rfl (jA (pv 2)) (fk 3 nd0) (aj (bx (cM (pv 0) T.bB T.sr (tK T) hr dC (p1 (cM (aB T.bB T.cb (pv 0)) T.bJ T.kM (oR T) hr bq (aV (pv 3) (p1 (bC rfl T.mE)))))))))))));have eD:=ra.ob;have vV:=ra.sy.ob;symm;refine⟨A.S.x,A.S.dx,a,_,_,_,_,_,ns,rfl,vV,ha,fun H1 ch oQ NY FC=> ?_⟩;rw[LM]at FC;have hbo:=LL (max (-1) r.y.to_) ns;have B0:=GO (max (-1) r.y.to_) ns;rw[LM]at hbo B0;have hu:=qv ns [] r (ra.gd.u ra.sy.na.Oe) (fun m hm=>absurd hm dh) (fun m hm=>absurd hm dh);rw[hu]at hE hQ;generalize bk r.y.to_ [] ns=bs at FC hbo B0 hE hQ;clear hu eD vV ha;have dS:=ra.same oQ;have eD:=dS.ob;have vV:=dS.sy.ob
 have hbs:∀n∈bs,∃k:Nat,n=(k:Int)/\(1<=k/\k<=9)/\(k:Int)≠r.y.to_:=fun n hn=>by
  obtain⟨⟨h1,h9⟩,h2⟩:=hbo.2 n hn;exact⟨n.toNat,by lia,by lia,by lia⟩
 have ajO:H ch=none:=NY
 have loop:∀(H2:Hp) (v:Option V),bE H H2->H2 ch=some (.lst (bs.map V.int))->(r.y.to_=0->r.out.length+vJ r.y bs<=r.room)->
  wM K ch (w8 3) (Uw (Kr T.dD "write" (J3 T) [] E (U3 0) (CZ (Kr T.cg "take_away" (yJ T) [] E0 (qFC T.dD "system" (U3 0)) (CZ (U3 3) (CZ (tC (V.int 65536)) He))) He))) {nx:=fun _ H'=>Q .fI H',rt:=Q} [some (V.ref A.x),some (V.ref a),some (V.ref ch),v] H2:=by
  intro H2 v gj ac9 K8;have f0:aZ (fun _=>False) Y H (fO Y ch .jL) H2:=gr (aZ.same ra.dm gj) (ra.dm ch ajO) ac9;have gu:=ra.mono f0 (fun _ q=>q);have ni:¬WM .jL:=by rintro((q|q|⟨_,q⟩)|q)<;>cases q
  have tch:fO Y ch .jL ch=some .jL:=bY;generalize fO Y ch .jL=Y0 at f0 gu tch;clear eD vV FC;refine wM.list (xs:=bs.map V.int) ac9 (fun i Z H'=>∃v Y' A' r',Z=[some (V.ref A.x),some (V.ref a),some (V.ref ch),v]/\aZ WM Y0 H2 Y' H'/\Kp A A'/\cI T Y' H' A' r' used/\lg r' (bs.drop i)=lg r bs/\r'.y.to_=r.y.to_/\(r.y.to_=0->r'.out.length+vJ r'.y (bs.drop i)<=r'.room)) ⟨v,Y0,A,r,rfl,aZ.same gu.dm (bE.refl H2),Kp.refl A,gu,rfl,rfl,K8⟩ (fun i Z H' h=> ?_) ?_ ?_
  ·obtain⟨_,Y',_,_,_,f,_⟩:=h;exact f.obj _ _ _ tch ni ac9
  ·intro i x Z H' hx w_;rcases w_ with⟨v,Y',A',r',rfl,f,kp,tf,hun,hto,Wo⟩;rw[cJ]at hx
   cases hn:bs[i]? with
   |none=>rw[hn]at hx;cases hx
   |some n=>
    rw[hn]at hx
    cases hx
    have hi:i<bs.length:=(aw.mp hn).1;rcases hbs n (bc hn)with⟨k,rfl,hk,hkt⟩;have hdr:bs.drop i=(k:Int)::bs.drop (i+1):=by rw[aI hi,(aw.mp hn).2]
    have hnd:(k:Int)∉bs.drop (i+1):=by
     have:=hbo.1;rw[<-eV i bs,hdr]at this;exact(fe.mp (m7.mp this).2.1).1
    rw[hdr]at hun Wo;have eD:=tf.ob;have vV:=tf.sy.ob;rw[kp.x]at eD;have hkp:A'.x=A.x:=kp.x;clear hdr hn;symm;have gU:=tf.gd.u tf.sy.na.Oe;have Iq:(r'.y.aside k).length<=65536:=by have:=uV r' hk;have:=gU.AU;lia
    refine⟨Y',A'.S,r'.y,k,65536,rfl,tf.sy,tf.dm,hk.1,hk.2,gU.AU,fun Y2 H3 S2 p f2 sy2 tS hp np mX=> ?_⟩
    have htk:taken r'.y k 65536=(sR r' k).y:=by
     unfold taken sR
     congr 1
     funext j
     by_cases h:j=k
     ·subst h;rw[if_pos rfl];rw[if_pos rfl];(try rw[bF Iq])
     ·rw[if_neg h];rw[if_neg h]
    rw[htk]at sy2;rw[bA Iq]at mX;have gU0:=A9 hk gU;have gS:md (sR r' k).y:=⟨tf.gd.y.dt,tf.gd.y.db,gU0.AU,gU0.to_,tf.gd.y.so,tf.gd.y.lo,tf.gd.y.sc,tf.gd.y.lc,tf.gd.y.cn⟩;have qX:=tf.sys f2 sy2 tS gS;have nA:=oA gU hk (by rw[hto];exact hkt);have afM:=pD hk (show (k:Int)≠r'.y.to_ by rw[hto];exact hkt);clear eD vV;refine⟨Y2,{A' with S:=S2},sR r' k,used,p,r'.y.aside k,by rw[<-hkp],qX,mX,np,fun he=> ?_,fun r'' H4 he f4 ra4=> ?_⟩
    ·exfalso;rw[<-afM]at he;obtain⟨_,h0,iH⟩|⟨r1,h1,_⟩:=nA
     ·have:=Wo (by rw[<-hto];exact h0);rw[AS,dk]at this;lia
     ·rw[h1]at he;cases he
    ·rw[<-afM]at he;obtain⟨h1,_⟩|⟨r1,h1,g1,g2,g3,g4,g5,g6⟩:=nA
     ·rw[h1]at he;cases he
     ·rw[h1]at he;have he:=ED he;subst he;refine⟨_,Y2,{A' with S:=S2},r1,rfl,(f.trans (f2.mono fun _ h=>.inl h)).trans f4,⟨by show (A'.x,S2.x)=_;rw[tS];exact kp.1,kp.2⟩,ra4,?_,g2.trans hto,fun h0=> ?_⟩
      ·(try rw[<-hun])
       conv=>rhs;unfold lg
       (try rw[h1])
      ·obtain⟨e1,e2⟩:=g6 (by rw[hto];exact h0);have hf:=Wo h0;rw[AS,dk]at hf
       have es:vJ r1.y (bs.drop (i+1))=vJ r'.y (bs.drop (i+1)):=GP fun m hm=>by
        rcases hbs m (kS hm)with⟨j,rfl,hj,hjt⟩;(try rw[dk])
        exact g5 j (fun z=>hnd (by rw[<-z];exact hm)) (by rw[hto];exact hjt)
       (try rw[es,e1,g3,aF]);lia
  ·intro Z H' w_;rcases w_ with⟨v,Y',A',r',rfl,f,kp,tf,hun,hto,_⟩;rw[aN,oy]at hun;exact hQ r' Y' H' A' hun.symm ((f0.mono fun _ q=>q.elim).trans (f.mono fun _=>Ms)) kp tf
 symm
 by_cases h0:r.y.to_=0
 ·refine gB (by lia) ?_;rfl';refine LcA.list (xs:=bs.map V.int) FC (fun D i H'=>H'=upd H1 D (.lst ((bs.take i).map fun n=>V.int (((r.y.aside n.toNat).length:Nat):Int)))) (fun D hD=>rfl) (fun D i H' hD e=>by rw[e];exact a9 FC hD) ?_ ?_
  ·rintro D i x H' hD hx rfl;rw[cJ]at hx
   cases hn:bs[i]? with
   |none=>rw[hn]at hx;cases hx
   |some n=>
    rw[hn]at hx
    cases hx
    have hi:i<bs.length:=(aw.mp hn).1;refine wN fun g_ k_=> ?_;obtain⟨k,rfl,hk,hkt⟩:=hbs n (bc hn);obtain⟨p,hp,tp,hpo⟩:=dS.sy.get hk.1 hk.2;refine wO k_ ?_;clear k_ g_;have agc:=qT hp;have hT:bs.take (i+1)=bs.take i++[(k:Int)]:=by rw[ef,hn];rfl
    have aln:=a9 (o:=HO.lst ((bs.take i).map fun n=>V.int (((r.y.aside n.toNat).length:Nat):Int))) eD hD;have alm:=a9 (o:=HO.lst ((bs.take i).map fun n=>V.int (((r.y.aside n.toNat).length:Nat):Int))) vV hD;have alk:=a9 (o:=HO.lst ((bs.take i).map fun n=>V.int (((r.y.aside n.toNat).length:Nat):Int))) dS.sy.tl hD;have hpD:=a9 (o:=HO.lst ((bs.take i).map fun n=>V.int (((r.y.aside n.toNat).length:Nat):Int))) hpo hD;clear eD vV FC hn hpo;symm;exists (by rw[aN,aQ,aT];lia);(try rw[bL]);rfl
  ·rintro D H' hD rfl;(try rw[aN,cQ])
   have e0:(bs.map fun n=>V.int (((r.y.aside n.toNat).length:Nat):Int))=(bs.map fun n=>(((r.y.aside n.toNat).length:Nat):Int)).map V.int:=by rw[gP];rfl
   have aja:(bs.map fun n=>(((r.y.aside n.toNat).length:Nat):Int)).sum=((vJ r.y bs:Nat):Int):=by
    unfold vJ;clear hbo B0 hE hQ FC hbs loop e0
    induction bs with
    |nil=>rfl
    |cons n bs ih=>rw[a4,gp,a4,gp,ih];lia
   (try rw[e0])
   exists D,_,rfl,kE.of aq;(try rw[aja])
   have MW:=oQ.trans (aY (o:=HO.lst ((bs.map fun n=>(((r.y.aside n.toNat).length:Nat):Int)).map V.int)) hD);have agh:=a9 (o:=HO.lst ((bs.map fun n=>(((r.y.aside n.toNat).length:Nat):Int)).map V.int)) FC hD;have raD:=ra.same MW;generalize upd H1 D (.lst ((bs.map fun n=>(((r.y.aside n.toNat).length:Nat):Int)).map V.int))=H2 at MW agh raD⊢;exists A.x,A.dx,A.wr,_,_,_,_,_,r.room,vJ r.y bs,r.out,rfl,raD.ob,raD.wr
   by_cases iH:r.room<r.out.length+vJ r.y bs
   ·refine gB iH ?_;exact hE H2 (yt bs r (ra.gd.u ra.sy.na.Oe) h0 hbo.1 (fun n hn=>(hbo.2 n hn).1) iH) MW
   ·refine gn iH ?_;have lp:=loop H2 none MW agh (fun _=>by lia);clear eD vV FC;symm
    all_goals exact lp
 ·refine gn (by lia) ?_;symm;exact loop H1 none oQ FC (fun e=>absurd e h0)
def Jt(t:B):AZ:=.list ((zi t).map fE)
def dTs(l:List B):AZ:=.list (l.map Jt)
theorem Xb{l:List B}(h:yb H ps l):BA K H (rv ps) (l.map Jt):=by
 induction h with
 |nil=>exact .nil
 | @cons p t ps l a b ih=>exact .cons (.lst (kE.of (by rw[a,eS];rfl)) (vC K H (zi t))) ih
theorem UO(l:List B):jO (dTs l)=true:=by
 have h1:fD (l.map Jt)=true:=by
  induction l with
  |nil=>rfl
  |cons t l ih=>
   show (ET (Jt t)&&fD (l.map Jt))=true;rw[ih];show (fD ((zi t).map fE)&&true)=true;rw[Cm];rfl
 have h2:fQ (l.map Jt)<=3:=by
  induction l with
  |nil=>decide
  |cons t l ih=>
   show max (pB (Jt t)) (fQ (l.map Jt))<=3;have:=(lL (zi t)).1
   have hd:fQ ((zi t).map fE)<=1:=by
    generalize zi t=z
    induction z with
    |nil=>decide
    |cons x r ih2=>
     show max (pB (.int x)) (fQ (r.map fE))<=1;have:pB (.int x)<=1:=aC _;lia
   have:pB (Jt t)=fQ ((zi t).map fE)+1:=rfl
   have ih':=ih (by
    have h:=h1;exact(Bool.and_eq_true_iff.mp (show (ET (Jt t)&&fD (l.map Jt))=true from h)).2)
   lia
 unfold jO dTs;show (fD _&&decide (fQ _+1<=64))=true;rw[h1,decide_eq_true (by lia)];rfl
theorem aar(l:List B):ym (dTs l) (dTs [[]])=decide (l=[[]]):=by
 show nZ (l.map Jt) [Jt []]=_
 cases l with
 |nil=>rfl
 |cons t l=>
  show (ym (Jt t) (Jt [])&&nZ (l.map Jt) [])=_
  have e1:ym (Jt t) (Jt [])=decide (t=[]):=by
   show nZ ((zi t).map fE) (([]:List Int).map fE)=_;rw[zw];unfold zi
   cases t<;>simp
  rw[e1]
  cases l with
  |nil=>show (decide (t=[])&&true)=_;simp
  |cons u l=>show (decide (t=[])&&false)=_;simp
theorem zh:∀{l:List B} {zs:List Int},fL l= .ok zs->iQ t= .ok z->fL (l++[t])= .ok (zs++[z])
 |[],zs,h,hz=>by
  cases h
  show fL [t]=_;unfold fL;rw[hz];rfl
 |b::l,zs,h,hz=>by
  rw[jw];unfold fL at h⊢
  cases hb:iQ b with
  |error e=>rw[hb]at h;cases h
  |ok y=>
   rw[hb]at h;dsimp only at h⊢
   cases hl:fL l with
   |error e=>rw[hl]at h;cases h
   |ok ys=>
    rw[hl]at h
    cases h
    rw[zh hl hz];rfl
theorem Be:∀{l:List B} {zs:List Int},fL l= .ok zs->iQ t= .error e->fL (l++t::m)= .error e
 |[],zs,h,hz=>by
  show fL (t::m)=_;unfold fL;rw[hz]
 |b::l,zs,h,hz=>by
  rw[jw];unfold fL at h⊢
  cases hb:iQ b with
  |error e=>rw[hb]at h;cases h
  |ok y=>
   rw[hb]at h;dsimp only at h⊢
   cases hl:fL l with
   |error e=>rw[hl]at h;cases h
   |ok ys=>rw[Be hl hz]
inductive Hr(k:String)(vs:List V)(H:Hp)(Q:VK)(E:XK):Prop
 |mk (Y:iC) (A:ji) (r:eY) (used:Nat) (a:ao) (ps:List ao) (args:List B) (_:vs=[.ref A.x,.ref a]) (_:cI T Y H A r used) (_:qf Y H a ps args) (_:(args≠[]\/k="dnl"\/k="divnum")) (_:(∀e C Y' H',F3 T e C->gC r (bR k) args= .error e->aZ rD Y H Y' H'->me T Y' H' A r.y r.out used->E (.ref C) none H')) (_:(∀r' t Y' H' A' p,gC r (bR k) args=om r' t->aZ rD Y H Y' H'->Kp A A'->cI T Y' H' A' r' used->H' p=some (.lst (iv t))->Small t->(t=[]\/r'=r)->Q (.ref p) H'))
theorem Kx:T.uS.Ok P w mg ag (jF P w) 4 (Hr T "undivert"):=by
 rcases h:T.uS.qj ["run","arguments","text"]with⟨Y,A,r,used,a,ps,args,rfl,ra,aa,vW,hE,hQ⟩;exists _,((ah (ck (aR (Vt hr.units) (pv 1) (cH (p1 (cH c9)))) (aj (bx (cM (pv 0) T.bB T.nN (rR T) hr dC (p1 (wX rfl rfl T.tM rfl T.vT (aV aO (p1 aO))))))) (aj (bx (cM (pv 0) T.bB T.nN (rR T) hr dC (p1 (ab9 nd0 (jA (pv 1)) (nW (own:=[("text",2)]) (show FP ["run","arguments","text"] (dv (top 107)) _ _=true by decide+kernel)) (fun _ _ _ _ _=>fk 2 nd0) (fun _ _ _ _ _=>tz) (fun _ _ _ _ _=>(cG T.l0 (kI T) hr (afu rfl rfl) (p1 (pv 2)))))))))) (aj (a6 (cH c9)))));have hb:=Ep r args;have vW:args≠[]:=vW.elim id fun q=>by obtain q|q:=q<;>exact absurd q (by decide)
 symm;refine⟨aC _,fun p1 AE=>⟨by decide,fun p2 mX=> ?_⟩⟩;have sm:=(aY (o:=HO.lst []) AE).trans (aY (o:=HO.lst [V.ref p1]) mX);have h1:upd (upd H p1 (.lst [])) p2 (.lst [V.ref p1]) p1=some (.lst (iv [])):=(ai (aD (aM mX).1)).trans aq;have h2:upd (upd H p1 (.lst [])) p2 (.lst [V.ref p1]) p2=some (.lst (rv [p1])):=aq;generalize upd (upd H p1 (.lst [])) p2 (.lst [V.ref p1])=H1 at sm h1 h2⊢;have aa1:=aa.fr (aZ.same (M:=fun _=>False) ra.dm sm) (fun q=>q);exists dTs args,dTs [[]],.lst (kE.of aa1.at_) (Xb aa1.tx),.lst (kE.of h2) (Xb (.cons h1 .nil)),UO _,UO _;rfl';(try rw[aar])
 have dS:=ra.same sm;have eD:=dS.ob;rename_i N o
 have fin:∀(ns:List Int) (H2:Hp) (b:ao),bE H H2->H2 b=some (.lst (ns.map V.int))->gC r (bR "undivert") args=lg r ns->
  yK T [.ref A.x,.ref b] H2 (fun _ H1=>N [some (V.ref A.x),some (V.ref a),none] H1) E:=by
  intro ns H2 b gj NZ X3;have gu:=ra.same gj;refine⟨Y,A,r,used,b,ns,rfl,gu,NZ,fun H3 he kf=> ?_,fun r' Y' H3 A' he f kp qX=> ?_⟩
  ·exact t6 ra hE (.inr (.inr (.inr ⟨rfl,rfl⟩))) (X3.trans he) (gj.trans kf)
  ·rfl';exact⟨aC _,fun q hq=>qL hQ (X3.trans he) qX ((aZ.same ra.dm gj).trans f) kp hq⟩
 by_cases ha:args=[[]]
 ·rw[if_pos (.inl ha)]at hb;(try rw[decide_eq_true ha])
  clear ha;symm;refine⟨1,10,rfl,by decide,by decide,fun b Ip=> ?_⟩;have e:wx 1 1 ((10:Int)- 1).toNat=((c8 9).map fun k=>((k+1:Nat):Int)).map V.int:=by decide+kernel
  (try rw[e])
  exact fin _ _ b (sm.trans (aY Ip)) aq hb
 ·rw[if_neg (fun q=>q.elim ha vW)]at hb;(try rw[decide_eq_false ha])
  have Gv:=aa1.at_;clear h1 h2 AE mX;symm;refine LcA.list (xs:=rv ps) Gv (fun D i H'=>bE H1 H'/\∃zs,H' D=some (.lst (zs.map V.int))/\zs.length=i/\fL (args.take i)= .ok zs) (fun D hD=>⟨aY hD,[],aq,rfl,rfl⟩) (fun D i H' hD e=>e.1 _ _ Gv) ?_ ?_
  ·intro D i x H' hD hx w_;refine wN fun g_ k_=> ?_;obtain⟨gj,zs,hz,ZP,hzs⟩:=w_;obtain⟨p,hp,rfl⟩:=vQ hx;obtain⟨t,ht,Jj⟩:=aa1.tx.get hp;refine wO k_ ?_;clear k_ g_;have hi:i<args.length:=(aw.mp ht).1;have ajg:=gj _ _ Jj
   have zp:t.length<=65536:=by
    have:=aa.short i;rw[cK,ht]at this;exact this
   have Iq:=aa.len;clear eD Gv hx Jj;symm;exists p,t,rfl,ajg,(by rw[aT];lia)
   cases hn:iQ t with
   |error e=>
    have he:=nk hn;subst he
    have hT:args=args.take i++t::args.drop (i+1):=by
     conv=>lhs;rw[<-eV i args]
     (try rw[aI hi,(aw.mp ht).2])
    have ac5:=Be (m:=args.drop (i+1)) hzs hn;rw[<-hT]at ac5;rw[ac5]at hb;exact t6 ra hE (.inr (.inl ⟨rfl,rfl⟩)) hb (sm.trans gj)
   |ok z=>
    intro H3 kf;have hz3:=kf _ _ hz;have hT:args.take (i+1)=args.take i++[t]:=by rw[ef,ht];rfl
    refine⟨_,hz3,by rw[aN,ZP,aT];lia,?_,zs++[z],?_,?_,?_⟩
    ·intro b u e;have hbD:b≠D:=cE e hD rfl;exact(ai hbD).trans (kf _ _ (gj _ _ e))
    ·(try rw[bL]);rfl
    ·(try rw[aF,ZP]);rfl
    ·(try rw[hT]);exact zh hzs hn
  ·intro D H' hD w_;rcases w_ with⟨gj,zs,hz,ZP,hzs⟩;have hl:(rv ps).length=args.length:=by rw[fR];exact aa.tx.len
   rw[hl,cQ]at hzs;rw[hzs]at hb;exact fin zs H' D (sm.trans gj) hz hb
theorem MR{a b:Str}{t:B}(h:a.cps.toList=t)(g:b.cps.toList=t):a=b:=by
 obtain⟨x⟩:=a;obtain⟨y⟩:=b;have e:x=y:=Array.toList_inj.mp (h.trans g.symm);rw[e]
theorem ad9{a b:Str}{v:V}{r:List (Key×V)}(h:a≠b):fq (((dM a:Key),v)::r) (dM b)=fq r (dM b):=eC fun e=>h (abx e)
theorem jB{k:Nat}{T:Top K mg}{f:ao}{fd:gq}{ps:List Str}{s:String}(F:eR P w K mg ag (jF P w) k f fd ps (lX T s)):eR P w K mg ag (jF P w) k f fd ps (Hr T s):=
 F.imp fun vs H Q E ⟨Y,A,r,used,a,qs,args,h1,h2,h3,_,h5,h6⟩=>⟨Y,A,r,used,a,qs,args,h1,h2,h3,h5,h6⟩
def ad8(P:bD)(w:cP)(ag:dg)(T:Top K mg)(D:TopD P w T)(wd:Str)(s:String):Prop:=∃(f:ao) (fd:gq),(∀H,pz P w K H D.pR (.str wd) (some (.ref f)))/\eR P w K mg ag (jF P w) 7 f fd ["run","arguments"] (Hr T s)/\bW K (.ref f)=true/\Binds K fd ["run","arguments"] []
theorem GN{T:Top K mg}{D:TopD P w T}{l:List (Key×V)}{x wd:Str}{n k:Nat}(s:String)(d:Yu P w K D.pR l)(R:jU K mg x n ["run","arguments"])(F:eR P w K mg ag (jF P w) k R.f R.d ["run","arguments"] (Hr T s))(h:wd.cps.toList=bR s)(e:(s:Str).cps.toList=bR s:=by decide+kernel)(hk:k<=7:=by decide)(v:fq l (.inr (s:Str))=some (.ref R.f):=by kernel_rfl):∃q,bR q=bR s/\ad8 P w ag T D wd q:=
 ⟨s,rfl,R.f,R.d,fun H=>.inl ⟨l,.inr s,d,by rw[MR h e];rfl,v.symm⟩,eR.mono F hk,R.F.kp,R.b⟩
theorem agv(D:TopD P w T){wd:Str}(hb:b∈gD)(h:wd.cps.toList=b):∃s,bR s=b/\ad8 P w ag T D wd s:=by
 have d:=D.xR;refine(uf ?_<|uf ?_<|uf ?_<|uf ?_<|uf ?_<|uf ?_<|uf ?_<|uf ?_<|uf ?_<|uf ?_<|uf ?_<|uf ?_<|uf ?_<|uf ?_<|uf ?_<|uf ?_<|uf ?_<|uf ?_<|uf ?_<|uf ?_ fmn:∀e∈gD,wd.cps.toList=e->∃s,bR s=e/\ad8 P w ag T D wd s) b hb h
 ·exact GN "define" d T.define (jB (Rk T))
 ·exact GN "undefine" d T.uT (jB (eR.lift (Ky T)))
 ·exact GN "pushdef" d T.yV (jB (Nr T))
 ·exact GN "popdef" d T.DH (jB (eR.lift (Ra T)))
 ·exact GN "defn" d T.defn (jB (eR.lift (Zr T)))
 ·exact GN "ifdef" d T.K3 (jB (eR.lift (VE T)))
 ·exact GN "ifelse" d T.D5 (jB (eR.lift (Rf T)))
 ·exact GN "shift" d T.shift (jB (VB T))
 ·exact GN "incr" d T.V7 (jB (Zq T))
 ·exact GN "decr" d T.Xe (jB (Zs T))
 ·exact GN "eval" d T.vz (jB (KG T D))
 ·exact GN "len" d T.length (jB (eR.lift (Rb T)))
 ·exact GN "index" d T.index (jB (eR.lift (VD T)))
 ·exact GN "substr" d T.substr (jB (Q9 T))
 ·exact GN "translit" d T.uU (jB (eR.lift (Kz T)))
 ·exact GN "dnl" d T.dnl (jB (eR.lift (acv T)))
 ·exact GN "changequote" d T.nU (jB (eR.lift (DU T)))
 ·exact GN "divert" d T.Ei (jB (Ri T))
 ·exact GN "undivert" d T.uS (Kx T)
 ·exact GN "divnum" d T.Eh (jB (eR.lift (Rh T)))
structure ON(T:Top K mg)(Y:iC)(H:Hp)(c dc nm mx ar:ao)(ps:List ao)(v3 v4 v5:V)(name:B)(d:dj)(args:List B):Prop where
 ob:H c=some (.ins T.dY dc (fw (.ref nm) (.ref mx) (.ref ar) v3 v4 v5))
 nm':H nm=some (.tup (iv name))
 mn:la T Y H mx d
 aa:qf Y H ar ps args
 sn:Sm name
 ln:name.length<=65536
 dt:∀b,d= .text b->Sm b/\b.length<=65536
 db:∀k,d= .built k->k∈gD/\(args≠[]\/k=bR "dnl"\/k=bR "divnum")
inductive wV(vs:List V)(H:Hp)(Q:VK)(E:XK):Prop
 |mk (Y:iC) (A:ji) (r:eY) (used:Nat) (c dc nm mx ar:ao) (ps:List ao) (v3 v4 v5:V) (name:B) (d:dj) (args:List B) (_:vs=[.ref A.x,.ref c]) (_:cI T Y H A r used) (_:ON T Y H c dc nm mx ar ps v3 v4 v5 name d args) (_:(∀e C Y' H',F3 T e C->oj r name d args= .error e->aZ rD Y H Y' H'->me T Y' H' A r.y r.out used->E (.ref C) none H')) (_:(∀r' Y' H' A',oj r name d args= .ok r'->aZ rD Y H Y' H'->Kp A A'->cI T Y' H' A' r' used->Q .fI H'))
theorem qA(D:TopD P w T):T.mP.Ok P w mg ag (jF P w) 8 (wV T):=by
 rcases h:T.mP.qj ["self","call","result"]with⟨Y,A,r,used,c,dc,nm,mx,ar,ps,v3,v4,v5,name,d,args,rfl,ra,da,hE,hQ⟩;exists _,(ah (ck (aR d9 (aB T.fX T.jb (aB T.dE T.mK (pv 1))) Ak) (aj (bh 2 nd0 (cG T.IE (Nu T) hr dC (aV (pv 1) (aV (aB T.bJ T.eU (aB T.bB T.cb (pv 0))) (p1 (aB T.bj T.bV (aB T.bB T.ik (pv 0))))))))) (aj (bh 2 nd0 (DO (Cg (oV hr) rfl D.xN (aB T.fX T.jb (aB T.dE T.mK (pv 1)))) (hr.mono (show 7<=_ by decide)) dC (aV (pv 0) (p1 (aB T.dE T.dP (pv 1)))))))) (aj (bx (cM (aB T.bB T.ik (pv 0)) T.bj T.mM (vn T) hr dC (p1 (pv 2))))));have hc:=da.ob;have eD:=ra.ob;have vV:=ra.sy.ob;have S8:=ra.so.ob;have hlen:=ra.so.len;rcases da.mn with⟨_,dm,tx,wd,t,EL,tt,S9,D6⟩;clear hlen
 cases d with
 |text b=>
  rcases D6 with⟨rfl,rfl⟩;have Im:oj r name (.text t) args=om r (fT r.y name args t):=rfl;symm;have hlen:=ra.so.len;have gy:=ra.gd.y;have hlo:=gy.lo;have hlc:=gy.lc;have hnl:=da.ln;have zp:=(da.dt t rfl).2;have h1:=da.aa.tot;have h2:=da.aa.len;have Fz:Sm (fT r.y name args t):=QU gy.so gy.sc da.sn da.aa.sm t (da.dt t rfl).1;refine⟨c,dc,nm,ar,ps,mx,dm,_,tx,v3,v4,v5,name,args,A.S.qx,A.S.dq,A.S.oq,A.S.cq,r.y,A.js.length,t,rfl,⟨hc,da.nm',da.aa.at_,da.aa.tx⟩,ra.sy.qa,EL,S9,by lia,by lia,by lia,by lia,by lia,by lia,by lia,fun iH H1 sm=> ?_,fun NT H1 p sm hp AE=> ?_⟩
  ·exact hE 4 _ Y H1 (.inr (.inr (.inr ⟨rfl,rfl⟩))) (by rw[Im,zG hlen,if_pos iH]) (aZ.same ra.dm sm) (ra.same sm).err
  ·have dS:=ra.same sm;have tT:=dS.ob;have NS:=dS.so.ob;clear hc eD vV S8 EL S9;symm;exists Y,A.sx,A.EO,A.fH,A.im,p,A.js,r.input,_,rfl,dS.so,AE,Fz,dS.dm;refine gn (by lia) ?_;intro H2 f so;have gu:=dS.src f so;refine hQ _ Y H2 _ (by rw[Im,zG hlen,if_neg (by lia)]) ((aZ.same ra.dm sm).trans (f.mono fun _=>sV)) ?_ gu;exact⟨rfl,rfl⟩
 |built b=>
  refine wN fun g_ k_=> ?_;obtain⟨Ip,NZ,rfl⟩:=D6;obtain⟨hbn,hba⟩:=da.db b rfl;obtain⟨ks,hks,fa,fd,hg,hF,hkp,hbd⟩:=agv (ag:=ag) T D hbn NZ;refine wO k_ ?_;clear k_ g_;have vW:¬wd="":=fun e=>by rw[e]at NZ;exact Ip NZ.symm
  have Im:oj r name (.built b) args=gC r b args:=rfl
  have hkk:args≠[]\/ks="dnl"\/ks="divnum":=hba.imp id fun q=>by
   have inj:∀a b:String,bR a=bR b->a=b:=fun a b e=>by
    unfold bR at e;have e2:a.toList=b.toList:=(zU (fun x y h=>Char.toNat_inj.mp h)).mp e;exact String.toList_inj.mp e2
   obtain q|q:=q
   ·exact .inl (inj _ _ (hks.trans q))
   ·exact .inr (inj _ _ (hks.trans q))
  symm;exists _,hg H,fa,fd,_,_,rfl,hF,hkp,hbd;have aa:=da.aa;rfl';refine⟨Y,A,r,used,ar,ps,args,rfl,ra,aa,hkk,fun e C Y' H' h1 h2 h3 h4=>hE e C Y' H' h1 (by rw[Im,<-hks];exact h2) h3 h4,fun r' t Y' H' A' p hbt f kp tf hp Fz ht=> ?_⟩;rw[hks]at hbt;have tT:=tf.ob;have NS:=tf.so.ob;have hlen:=tf.so.len;rw[kp.x,kp.2]at tT;rw[kp.2]at NS;have ajx:A'.x=A.x:=kp.x;have ajw:A'.sx=A.sx:=kp.2;clear hc eD vV S8 EL S9 hlen ajx ajw;symm;have hlen:=tf.so.len;have so:=tf.so;rw[kp.2]at so;exists Y',A.sx,A'.EO,A'.fH,A'.im,p,A'.js,r'.input,t,rfl,so,hp,Fz,tf.dm
  by_cases iH:A'.js.length<t.length
  ·refine gB iH ?_;obtain ht|ht:=ht
   ·rw[ht]at iH;exact absurd iH (Nat.not_lt_zero _)
   ·subst ht;have er:=tf.err;have er:=er.kp kp;exact hE 4 _ Y' H' (.inr (.inr (.inr ⟨rfl,rfl⟩))) (by rw[Im,hbt,zG hlen,if_pos iH]) f er
  ·refine gn iH ?_;intro H2 f2 O2;rw[<-kp.2]at O2;have gu:=tf.src f2 O2;refine hQ _ Y' H2 _ (by rw[Im,hbt,zG hlen,if_neg iH]) (f.trans (f2.mono fun _=>sV)) ?_ gu;exact⟨kp.1,kp.2⟩
inductive Kg(vs:List V)(H:Hp)(Q:VK)(E:XK):Prop
 |mk (Y:iC) (A:ji) (r:eY) (used:Nat) (f:iU) (l:List iU) (_:vs=[.ref A.x]) (_:cI T Y H A r used) (_:r.frames=f::l) (_:(∀e C Y' H',F3 T e C->oj {r with frames:=l} f.name f.d (f.args++[f.now])= .error e->aZ rD Y H Y' H'->me T Y' H' A r.y r.out used->E (.ref C) none H')) (_:(∀r' Y' H' A',oj {r with frames:=l} f.name f.d (f.args++[f.now])= .ok r'->aZ rD Y H Y' H'->Kp A A'->cI T Y' H' A' r' used->Q .fI H'))
theorem BV(D:TopD P w T):T.pj.Ok P w mg ag (jF P w) 9 (Kg T):=by
 rcases h:T.pj.qj ["self","call"]with⟨Y,A,r,used,f,l,rfl,ra,hf,hE,hQ⟩;exists _,(ah (bh 1 nd0 (vf aJ eK eJ q0 (aB T.bB T.il (pv 0)))) (ah (ek T.bB T.ua (pv 0) (aB T.dE T.qN (pv 1)) xT) (aj (bx (cM (pv 0) T.bB T.mP (qA T D) hr dC (p1 (pv 1)))))));have eD:=ra.ob;have rY:=ra.cl;have vX:=ra.fr;rw[hf]at vX
 cases w6:A.cs with
 |nil=>rw[w6]at vX;cases vX
 |cons c cs=>
  rw[w6]at vX rY;rw[b8,<-ft]at rY
  cases vX with
  |cons fa fb=>
   rcases fa with⟨e1,dc,nm,mx,ar,ps,p,e2,e3,e4,e5,e6,e7,e8,e9,EN,e11⟩;have abf:(cw (f::l):Int)- (ie f:Int)=((cw l:Nat):Int):=by rw[hZ];lia
   have x1:c≠A.cl:=cE e1 ra.tc rfl;have x2:c≠A.x:=cE e1 ra.tg rfl;have x3:A.x≠A.cl:=fun z=>by have:=ra.tg;rw[z,ra.tc]at this;cases this
   have x4:=aD x3;have x5:ar≠A.cl:=cE e6 ra.tc rfl;have x6:ar≠A.x:=cE e6 ra.tg rfl;have x7:p≠A.cl:=cE EN ra.tc rfl;have x8:p≠A.x:=cE EN ra.tg rfl;have x9:p≠ar:=cE EN e6 rfl;have tU:r.frames=f::l:=hf;clear hf w6;symm;generalize uB:upd (upd H A.cl (.lst (rv cs.reverse))) A.x (.ins T.dD A.dx (f9 (.ref A.S.x) (.ref A.sx) (.int (r.room:Nat)) (.ref A.wr) (.ref A.cl) (.int ((cw l:Nat):Int)) (.int (used:Nat))))=H2
   have i1:¬(fun t=>(t=Tag.run\/t= .calls)\/uy l.length t) Tag.jL:=by
    rintro((h|h)|h)
    ·cases h
    ·cases h
    ·exact iW h
   have g0:aZ (fun t=>(t= .run\/t= .calls)\/uy l.length t) Y H Y H2:=by
    (try rw[<-uB])
    exact((aZ.same ra.dm (bE.refl H)).upd ra.tc (.inl (.inr rfl))).upd ra.tg (.inl (.inl rfl))
   have Lb:H2 ar=some (.lst (rv (ps++[p]))):=(congrFun uB.symm _).trans ((ai x6).trans ((ai x5).trans e7));have mX:H2 p=some (.lst (iv f.now)):=(congrFun uB.symm _).trans ((ai x8).trans ((ai x7).trans e11))
   have g:aZ (fun t=>(t= .run\/t= .calls)\/uy l.length t) Y H (fO (fO Y ar .jL) p .jL) H2:=
    yz (yz g0 (fun t e=>by rw[e6]at e;cases e;exact .inr (.inr (.inr (.inl rfl)))) Lb) (fun t e=>by rw[EN]at e;cases e;exact .inr (.inr (.inr (.inr rfl)))) mX
   have gc:aZ CM Y H (fO (fO Y ar .jL) p .jL) H2:=g.mono fun t h=>by
    obtain(h|h)|h:=h
    ·exact .inl h
    ·exact .inr (.inl h)
    ·exact yw h
   have hgf:=ra.gd.fr f (by rw[tU];exact aX);have hhd:=ra.gd.hd;rw[tU,hZ]at hhd;have gd:Good {r with frames:=l}:=⟨ra.gd.y,fun x hx=>ra.gd.fr x (by rw[tU];exact aK _ hx),by show cw l<=_;lia,by have:=ra.gd.dp;rw[tU,au]at this;show l.length<=_;lia,ra.gd.ou,ra.gd.rm⟩
   have low:∀i,i<l.length->¬(fun t=>(t=Tag.run\/t= .calls)\/uy l.length t) (.call i)/\¬(fun t=>(t=Tag.run\/t= .calls)\/uy l.length t) (.args i)/\¬(fun t=>(t=Tag.run\/t= .calls)\/uy l.length t) (.now i):=fun i hi=>by
    obtain⟨a1,a2,a3⟩:=JM hi;refine⟨?_,?_,?_⟩
    ·rintro((h|h)|h)
     ·cases h
     ·cases h
     ·exact a1 h
    ·rintro((h|h)|h)
     ·cases h
     ·cases h
     ·exact a2 h
    ·rintro((h|h)|h)
     ·cases h
     ·cases h
     ·exact a3 h
   have gu:=ra.calls (used':=used) (cs:=cs) (fs:=l) gc (by rw[bw (aD x8),bw (aD x6)];exact ra.tg) ((congrFun uB.symm _).trans aq) (by rw[bw (aD x7),bw (aD x5)];exact ra.tc) ((congrFun uB.symm _).trans ((ai x4).trans aq)) (fb.fr g low i1) gd;have hsz:ie f<=65536:=by lia
   have hfz:f.name.length+cW f.d+f.now.length+(f.args.map cS).sum<=65536:=hsz
   have da:ON T (fO (fO Y ar .jL) p .jL) H2 c dc nm mx ar (ps++[p]) (.bl f.begun) (.int (f.deep:Nat)) (.int (ie f:Nat)) f.name f.d (f.args++[f.now]):=by
    refine⟨(congrFun uB.symm _).trans ((ai x2).trans ((ai x1).trans e2)),g.obj _ _ _ e3 i1 e4,e5.fr g i1,⟨by rw[bw (aD x9)];exact bY,Lb,(e8.fr g i1 e9).snoc mX,fun b hb=> ?_,fun t ht=> ?_,?_,?_⟩,hgf.nm,by lia,fun b hb=>⟨hgf.dt b hb,?_⟩,fun k hk=>⟨hgf.db k hk,.inl (by simp)⟩⟩
    ·obtain h|h:=dW.mp hb
     ·exact g.tag _ _ (e9 b h) i1
     ·have:b=p:=by simpa using h
      (try rw[this]);exact bY
    ·obtain h|h:=dW.mp ht
     ·exact hgf.ar t h
     ·have:t=f.now:=by simpa using h
      (try rw[this]);exact hgf.nw
    ·(try rw[MC])
     show (f.args.map cS).sum+_<=_;lia
    ·(try rw[aF,d8]);have:=hgf.len;lia
    ·rw[hb]at hfz;have:cW (.text b)=b.length:=rfl;lia
   exact⟨_,{A with cs:=cs},_,used,c,dc,nm,mx,ar,ps++[p],_,_,_,f.name,f.d,f.args++[f.now],rfl,gu,da,fun e C Y' H' h1 h2 h3 h4=>hE e C Y' H' h1 h2 ((gc.mono fun _=>AL).trans h3) h4,fun r' Y' H' A' h1 h2 h3 h4=>hQ r' Y' H' A' h1 ((gc.mono fun _=>AL).trans h2) ⟨h3.1,h3.2⟩ h4⟩
inductive Hl(vs:List V)(H:Hp)(Q:VK)(E:XK):Prop
 |mk (Y:iC) (A:ji) (r:eY) (used:Nat) (c:Nat) (_:vs=[.ref A.x,.int (c:Nat)]) (_:cI T Y H A r used) (_:c<256) (_:(∀e C Y' H',F3 T e C->cO r c= .error e->aZ rD Y H Y' H'->me T Y' H' A r.y r.out used->E (.ref C) none H')) (_:(∀r' Y' H' A',cO r c= .ok r'->aZ rD Y H Y' H'->Kp A A'->cI T Y' H' A' r' used->Q .fI H'))
theorem Aq(D:TopD P w T):T.rn.Ok P w mg ag (jF P w) 10 (Hl T):=by
 rcases h:T.rn.qj ["self","byte","call"]with⟨Y,A,r,used,c,rfl,ra,hc,hE,hQ⟩;exists _,(ah (ck (aR (HA hr.uQ) (aB T.bB T.il (pv 0)) (cH c9)) (ah (bx (cM (pv 0) T.bB T.sr (tK T) hr dC (p1 (cH (p1 (pv 1)))))) (aj vR)) bQ) (ah (bh 2 nd0 (c5 b6 (aB T.bB T.il (pv 0)) (pK kX aO))) (aj (ck (PW.pt (pJ (aR d9 (aB T.dE T.mL (pv 2)) aO) (my (aR d9 (pv 1) (bC rfl T.jK))))) (aj (bx (PE.q iX (jI (pv 0) T.bB T.pj.M (BV T D) (hr.mono (by decide)) T.pj.b .nil dC)))) (aj (ck (PW.pt (pJ (aR d9 (aB T.dE T.mL (pv 2)) aO) (my (aR d9 (pv 1) (bC rfl T.Cp))))) (aj (bx (cM (pv 0) T.bB T.nF (wu T) hr dC (p1 (pv 2))))) (aj (ck (PW.pt (DF (iY (aB T.dE T.pf (pv 2))) (xE (aR Hy (pv 1) (Ci rfl T.KW))))) (ah (ck (aR d9 (pv 1) (bC rfl T.kj)) (aj (ek T.dE T.mL (pv 2) aO mF)) (aj (ck (aR d9 (pv 1) (bC rfl T.jK)) (aj (ek T.dE T.mL (pv 2) aO xT)) bQ))) (aj (bx (cM (pv 0) T.bB T.pU (nQ T) hr dC (p1 (cH (p1 (pv 1)))))))) bQ))))))));have eD:=ra.ob;have rY:=ra.cl;symm;refine⟨aC _,fun q hq=> ?_⟩;have sm:=aY (o:=HO.lst []) hq;have dS:=ra.same sm;generalize upd H q (.lst [])=H1 at sm dS⊢;have f1:aZ rD Y H Y H1:=aZ.same ra.dm sm;clear eD rY hq;have eD:=dS.ob;have rY:=dS.cl;have vX:=dS.fr;have hbt:cO r c=cO r c:=rfl
 cases hf:r.frames with
 |nil=>
  rw[hf]at vX
  have w6:A.cs=[]:=by cases h:A.cs with
   |nil=>rfl
   |cons _ _=>rw[h]at vX;cases vX
  rw[w6]at rY;have hb:cO r c=GV r [c]:=by unfold cO;rw[hf];unfold dI;rw[hf]
  clear w6 hf hbt;symm;refine gB (by rfl) ?_;rfl';refine⟨by decide,fun a ha=> ?_⟩;have sma:=aY (o:=HO.lst [V.int (c:Int)]) ha;have gu:=dS.same sma;have f2:=f1.trans (aZ.same dS.dm sma);refine⟨Y,A,r,used,a,[c],rfl,gu,aq,dS.dm a ha,fun h=>hE 4 _ Y _ (.inr (.inr (.inr ⟨rfl,rfl⟩))) (hb.trans h) f2 gu.err,fun r' H' h f tf=> ?_⟩;rfl';exact hQ r' Y H' A (hb.trans h) (f2.trans (f.mono fun _=>Ms)) (Kp.refl A) tf
 |cons f l=>
  rw[hf]at vX
  cases w6:A.cs with
  |nil=>rw[w6]at vX;cases vX
  |cons c0 cs=>
   rw[w6]at vX rY;rw[b8,<-ft]at rY
   cases vX with
   |cons fa fb=>
    rcases fa with⟨e1,dc,nm,mx,ar,ps,p,e2,e3,e4,e5,e6,e7,e8,e9,EN,e11⟩;have tU:r.frames=f::l:=hf;have RV:A.cs=c0::cs:=w6;clear hf w6 hbt;symm;refine gn (by simp) ?_;have L9:A.x≠c0:=fun z=>by have:=ra.tg;rw[z,e1]at this;cases this
    have dp:∀n:Nat,cI T Y (upd H1 c0 (.ins T.dY dc (fw (.ref nm) (.ref mx) (.ref ar) (.bl f.begun) (.int (n:Int)) (.int (ie f:Nat))))) A {r with frames:={f with deep:=n}::l} used/\aZ rD Y H Y (upd H1 c0 (.ins T.dY dc (fw (.ref nm) (.ref mx) (.ref ar) (.bl f.begun) (.int (n:Int)) (.int (ie f:Nat))))):=fun n=>by
     have g:aZ (uy l.length) Y H1 Y (upd H1 c0 (.ins T.dY dc (fw (.ref nm) (.ref mx) (.ref ar) (.bl f.begun) (.int (n:Int)) (.int (ie f:Nat))))):=aZ.one dS.dm e1 (.inr (.inl rfl));have hac:ar≠c0:=cE e6 e1 rfl;have hpc:p≠c0:=cE EN e1 rfl
     have fr:Jg T Y (upd H1 c0 (.ins T.dY dc (fw (.ref nm) (.ref mx) (.ref ar) (.bl f.begun) (.int (n:Int)) (.int (ie f:Nat))))) l.length c0 {f with deep:=n}:=
      ⟨e1,dc,nm,mx,ar,ps,p,aq,e3,g.obj _ _ _ e3 iW e4,e5.fr g iW,e6,(ai hac).trans e7,e8.fr g iW e9,e9,EN,(ai hpc).trans e11⟩
     have gf:=ra.gd.fr f (by rw[tU];exact aX);have hh:cw ({f with deep:=n}::l)=cw r.frames:=by rw[tU,hZ,hZ];rfl
     have gd:Good {r with frames:={f with deep:=n}::l}:=by
      refine⟨ra.gd.y,fun x hx=> ?_,by show cw (_::l)<=_;rw[hh];exact ra.gd.hd,by have:=ra.gd.dp;rw[tU]at this;exact this,ra.gd.ou,ra.gd.rm⟩;obtain rfl|hx:=a0.mp hx
      ·exact⟨gf.nm,gf.dt,gf.db,gf.ar,gf.nw,gf.len⟩
      ·exact ra.gd.fr x (by rw[tU];exact aK _ hx)
     exact⟨dS.top tU RV g ra.tg (by rw[ai L9,hh];exact dS.ob) fr gd,f1.trans (g.mono fun _ h=>AL (yw h))⟩
    have tk:∀(r1:eY) (H2:Hp),cI T Y H2 A r1 used->aZ rD Y H Y H2->r1.y=r.y->r1.out=r.out->cO r c=dI r1 [c]->∀a,H2 a=none->Cf T [.ref A.x,.ref a] (upd H2 a (.lst [V.int (c:Int)])) (fun _ H1=>Q .fI H1) E:=by
     intro r1 H2 gu f2 ey eo hb a ha;have sma:=aY (o:=HO.lst [V.int (c:Int)]) ha;have qX:=gu.same sma;have f3:=f2.trans (aZ.same gu.dm sma);refine⟨Y,A,r1,used,a,[c],rfl,qX,aq,by show (1:Nat)<=_;lia,fun x hx=>by rw[jR.mp hx];exact hc,gu.dm a ha,fun H' h sm'=> ?_,fun r' H' h f tf=>hQ r' Y H' A (hb.trans h) (f3.trans f) (Kp.refl A) tf⟩;have er:=(qX.same sm').err;rw[ey,eo]at er;exact hE 4 _ Y H' (.inr (.inr (.inr ⟨rfl,rfl⟩))) (hb.trans h) (f3.trans (aZ.same qX.dm sm')) er
    by_cases hd:f.deep=0
    ·rfl';refine gB (by lia) ?_
     by_cases xU:c=41
     ·rfl';refine gB (by lia) ?_
      have hb:cO r c=oj {r with frames:=l} f.name f.d (f.args++[f.now]):=by
       unfold cO;(try rw[tU]);dsimp only;rw[if_neg (by lia)];rw[if_pos xU];rw[if_pos hd]
      rfl';exact⟨Y,A,r,used,f,l,rfl,dS,tU,fun e C Y' H' h1 h2 h3 h4=>hE e C Y' H' h1 (hb.trans h2) (f1.trans h3) h4,fun r' Y' H' A' h1 h2 h3 h4=>hQ r' Y' H' A' (hb.trans h1) (f1.trans h2) h3 h4⟩
     ·rfl';refine gn (by lia) ?_;rfl';refine gB (by lia) ?_
      by_cases h44:c=44
      ·rfl';refine gB (by lia) ?_
       have hb:cO r c=if 1024<=f.args.length then .error 4 else .ok {r with frames:={f with args:=f.args++[f.now],now:=[],begun:=false}::l}:=by
        unfold cO;(try rw[tU]);dsimp only;rw[if_neg (by lia)];rw[if_neg xU];rw[if_pos ⟨h44,hd⟩]
       rfl';refine⟨Y,A,r,used,c0,cs,f,l,rfl,dS,tU,RV,fun h=> ?_,fun h Y' H' f' tf=> ?_⟩
       ·rw[if_pos h]at hb;exact hE 4 _ Y H1 (.inr (.inr (.inr ⟨rfl,rfl⟩))) hb f1 dS.err
       ·rw[if_neg h]at hb;exact hQ _ Y' H' A hb (f1.trans f') (Kp.refl A) tf
      ·rfl';refine gn (by lia) ?_;have n44:¬(c=44/\f.deep=0):=fun q=>h44 q.1;have nd:c=41->¬f.deep=0:=fun e=>absurd e xU
       by_cases X2:f.begun=true
       ·rfl';have nb:¬(bS c=true/\f.begun=false):=fun q=>by rw[X2]at q;cases q.2
        by_cases IA:40=c
        ·refine gB (by lia) ?_
         have hb:cO r c=dI {r with frames:={f with deep:=f.deep+1}::l} [c]:=by
          unfold cO;(try rw[tU]);dsimp only;rw[if_pos IA.symm]
         obtain⟨gu,f2⟩:=dp (f.deep+1);rfl';exact⟨by decide,fun a ha=>by have z:=tk _ _ gu f2 rfl rfl hb a;simp only[hd,X2]at z;exact z ha⟩
        ·refine gn (by lia) ?_
         by_cases xU:41=c
         ·rfl';refine gB (by lia) ?_
          have hb:cO r c=dI {r with frames:={f with deep:=f.deep- 1}::l} [c]:=by
           unfold cO;(try rw[tU]);dsimp only;rw[if_neg (aD IA)];rw[if_pos xU.symm];rw[if_neg (nd xU.symm)]
          obtain⟨gu,f2⟩:=dp (f.deep- 1);have hz:(f.deep:Int)- 1=((f.deep- 1:Nat):Int):=by have:=nd xU.symm;lia
          rfl';(try rw[hz])
          exact absurd hd (nd xU.symm)
         ·rfl';refine gn (by lia) ?_
          have hb:cO r c=dI r [c]:=by
           unfold cO;(try rw[tU]);dsimp only;rw[if_neg (aD IA)];rw[if_neg (aD xU)];rw[if_neg n44];rw[if_neg nb]
          rfl';exact⟨by decide,fun a ha=>tk _ _ dS f1 rfl rfl hb a ha⟩
       ·rfl'
        have Ws:f.begun=false:=by cases h:f.begun with
         |true=>exact absurd h X2
         |false=>rfl
        exists T.u9,_,rfl,.inr (T.DE _),rfl,rfl;rfl';(try rw[Et])
        cases B0:bS c with
        |true=>
         refine gn (by decide) ?_;have n40:c≠40:=fun e=>by rw[e]at B0;cases B0
         have n41:c≠41:=fun e=>by rw[e]at B0;cases B0
         have hb:cO r c= .ok r:=by
          unfold cO;(try rw[tU]);dsimp only;rw[if_neg n40];rw[if_neg n41];rw[if_neg n44];rw[if_pos ⟨B0,Ws⟩]
         exact hQ r Y H1 A hb f1 (Kp.refl A) dS
        |false=>
         refine gB (by decide) ?_;clear Ws X2
         try clear hd
         symm;have nb:¬(bS c=true/\f.begun=false):=fun q=>by rw[B0]at q;cases q.1
         by_cases IA:40=c
         ·refine gB (by lia) ?_
          have hb:cO r c=dI {r with frames:={f with deep:=f.deep+1}::l} [c]:=by
           unfold cO;(try rw[tU]);dsimp only;rw[if_pos IA.symm]
          obtain⟨gu,f2⟩:=dp (f.deep+1);rfl';exact⟨by decide,fun a ha=>tk _ _ gu f2 rfl rfl hb a ha⟩
         ·refine gn (by lia) ?_
          by_cases xU:41=c
          ·rfl';refine gB (by lia) ?_
           have hb:cO r c=dI {r with frames:={f with deep:=f.deep- 1}::l} [c]:=by
            unfold cO;(try rw[tU]);dsimp only;rw[if_neg (aD IA)];rw[if_pos xU.symm];rw[if_neg (nd xU.symm)]
           obtain⟨gu,f2⟩:=dp (f.deep- 1);have hz:(f.deep:Int)- 1=((f.deep- 1:Nat):Int):=by have:=nd xU.symm;lia
           rfl';(try rw[hz])
           exact⟨by decide,fun a ha=>tk _ _ gu f2 rfl rfl hb a ha⟩
          ·rfl';refine gn (by lia) ?_
           have hb:cO r c=dI r [c]:=by
            unfold cO;(try rw[tU]);dsimp only;rw[if_neg (aD IA)];rw[if_neg (aD xU)];rw[if_neg n44];rw[if_neg nb]
           rfl';exact⟨by decide,fun a ha=>tk _ _ dS f1 rfl rfl hb a ha⟩
    ·rfl';refine gn (by lia) ?_;rfl';refine gn (by lia) ?_;have n44:¬(c=44/\f.deep=0):=fun q=>hd q.2;have nd:c=41->¬f.deep=0:=fun _=>hd
     by_cases X2:f.begun=true
     ·rfl';have nb:¬(bS c=true/\f.begun=false):=fun q=>by rw[X2]at q;cases q.2
      by_cases IA:40=c
      ·refine gB (by lia) ?_
       have hb:cO r c=dI {r with frames:={f with deep:=f.deep+1}::l} [c]:=by
        unfold cO;(try rw[tU]);dsimp only;rw[if_pos IA.symm]
       obtain⟨gu,f2⟩:=dp (f.deep+1);rfl';exact⟨by decide,fun a ha=>by have z:=tk _ _ gu f2 rfl rfl hb a;simp only[hd,X2]at z;exact z ha⟩
      ·refine gn (by lia) ?_
       by_cases xU:41=c
       ·rfl';refine gB (by lia) ?_
        have hb:cO r c=dI {r with frames:={f with deep:=f.deep- 1}::l} [c]:=by
         unfold cO;(try rw[tU]);dsimp only;rw[if_neg (aD IA)];rw[if_pos xU.symm];rw[if_neg (nd xU.symm)]
        obtain⟨gu,f2⟩:=dp (f.deep- 1);have hz:(f.deep:Int)- 1=((f.deep- 1:Nat):Int):=by have:=nd xU.symm;lia
        rfl';(try rw[hz])
        exact⟨by decide,fun a ha=>by have z:=tk _ _ gu f2 rfl rfl hb a;simp only[hd,X2]at z;exact z ha⟩
       ·rfl';refine gn (by lia) ?_
        have hb:cO r c=dI r [c]:=by
         unfold cO;(try rw[tU]);dsimp only;rw[if_neg (aD IA)];rw[if_neg (aD xU)];rw[if_neg n44];rw[if_neg nb]
        rfl';exact⟨by decide,fun a ha=>tk _ _ dS f1 rfl rfl hb a ha⟩
     ·rfl'
      have Ws:f.begun=false:=by cases h:f.begun with
       |true=>exact absurd h X2
       |false=>rfl
      exists T.u9,_,rfl,.inr (T.DE _),rfl,rfl;rfl';(try rw[Et])
      cases B0:bS c with
      |true=>
       refine gn (by decide) ?_;have n40:c≠40:=fun e=>by rw[e]at B0;cases B0
       have n41:c≠41:=fun e=>by rw[e]at B0;cases B0
       have hb:cO r c= .ok r:=by
        unfold cO;(try rw[tU]);dsimp only;rw[if_neg n40];rw[if_neg n41];rw[if_neg n44];rw[if_pos ⟨B0,Ws⟩]
       exact hQ r Y H1 A hb f1 (Kp.refl A) dS
      |false=>
       refine gB (by decide) ?_;clear Ws X2
       try clear hd
       symm;have nb:¬(bS c=true/\f.begun=false):=fun q=>by rw[B0]at q;cases q.1
       by_cases IA:40=c
       ·refine gB (by lia) ?_
        have hb:cO r c=dI {r with frames:={f with deep:=f.deep+1}::l} [c]:=by
         unfold cO;(try rw[tU]);dsimp only;rw[if_pos IA.symm]
        obtain⟨gu,f2⟩:=dp (f.deep+1);rfl';exact⟨by decide,fun a ha=>tk _ _ gu f2 rfl rfl hb a ha⟩
       ·refine gn (by lia) ?_
        by_cases xU:41=c
        ·rfl';refine gB (by lia) ?_
         have hb:cO r c=dI {r with frames:={f with deep:=f.deep- 1}::l} [c]:=by
          unfold cO;(try rw[tU]);dsimp only;rw[if_neg (aD IA)];rw[if_pos xU.symm];rw[if_neg (nd xU.symm)]
         obtain⟨gu,f2⟩:=dp (f.deep- 1);have hz:(f.deep:Int)- 1=((f.deep- 1:Nat):Int):=by have:=nd xU.symm;lia
         rfl';(try rw[hz])
         exact⟨by decide,fun a ha=>tk _ _ gu f2 rfl rfl hb a ha⟩
        ·rfl';refine gn (by lia) ?_
         have hb:cO r c=dI r [c]:=by
          unfold cO;(try rw[tU]);dsimp only;rw[if_neg (aD IA)];rw[if_neg (aD xU)];rw[if_neg n44];rw[if_neg nb]
         rfl';exact⟨by decide,fun a ha=>tk _ _ dS f1 rfl rfl hb a ha⟩
theorem aax(wd:Str):inV (.str wd) [.str "dnl",.str "divnum"]=Cy.contains wd.cps.toList:=by
 unfold inV;simp only[l9,aeA,Ym,Ju];have e:Cy=[bR "dnl",bR "divnum"]:=rfl;rw[e];have h1:(wd=("dnl":Str))↔wd.cps.toList=bR "dnl":=⟨fun h=>by rw[h];decide+kernel,fun h=>MR h (by decide+kernel)⟩;have h2:(wd=("divnum":Str))↔wd.cps.toList=bR "divnum":=⟨fun h=>by rw[h];decide+kernel,fun h=>MR h (by decide+kernel)⟩
 have b1:(("dnl":Str)==wd)=(wd.cps.toList==bR "dnl"):=by
  rw[mj,beq_iff_eq,beq_iff_eq,<-h1];exact eq_comm
 have b2:(("divnum":Str)==wd)=(wd.cps.toList==bR "divnum"):=by
  rw[mj,beq_iff_eq,beq_iff_eq,<-h2];exact eq_comm
 rw[b1,b2,zV,zV,List.contains_nil,Ju]
inductive xy(vs:List V)(H:Hp)(Q:VK)(E:XK):Prop
 |mk (Y:iC) (A:ji) (r:eY) (used:Nat) (_:vs=[.ref A.x]) (_:cI T Y H A r used) (_:(∀e C Y' H',F3 T e C->mC r= .error e->aZ rD Y H Y' H'->me T Y' H' A r.y r.out used->E (.ref C) none H')) (_:(∀r' Y' H' A',mC r= .ok r'->aZ rD Y H Y' H'->Kp A A'->cI T Y' H' A' r' used->Q .fI H'))
theorem tL(D:TopD P w T):T.iT.Ok P w mg ag (jF P w) 9 (xy T):=by
 rcases h:T.iT.qj ["self","source","name","meaning"]with⟨Y,A,r,used,rfl,ra,hE,hQ⟩;exists _,(ah (bh 1 nd0 (aB T.bB T.ik (pv 0))) (ah (bh 2 nd0 (PE.q iX (jI (pv 1) T.bj T.kN.M (wq T) (hr.mono (by decide)) T.kN.b .nil bq))) (ah (bh 3 nd0 (cM (aB T.bJ T.gW (aB T.bB T.cb (pv 0))) T.dJ T.mU (oF T) hr bq (p1 (pv 2)))) (aj (ck (aR xG (pv 3) qY) (aj (bx (cM (pv 0) T.bB T.pU (nQ T) hr dC (p1 (gL tY rfl T.tM (by first|rfl|decide+kernel) (p1 (pv 2))))))) (aj (ck (aR d9 (c5 b6 (aB T.bj T.ez (pv 1)) (aB T.bj T.bV (pv 1))) (bC rfl T.kj)) (ah (ek T.bj T.bV (pv 1) aO mF) (aj (bx (cM (pv 0) T.bB T.pV (zd T) hr dC (p1 (mz T.Qx (zg T) (hr.mono (by decide)) rfl T.Pn T.nI.b .nil bq (aV (pv 2) (aV (pv 3) (p1 (cH (p1 (cH c9)))))))))))) (aj (ck (PW.pt (DF (aR d9 (aB T.fX T.jb (pv 3)) Ak) (xE (aR Gi (aB T.fX T.jb (pv 3)) (Ci rfl T.zj))))) (aj (bx (cM (pv 0) T.bB T.mP (qA T D) hr dC (p1 (mz T.Qx (zg T) (hr.mono (by decide)) rfl T.Pn T.nI.b .nil bq (aV (pv 2) (aV (pv 3) (p1 (cH c9))))))))) (aj (bx (cM (pv 0) T.bB T.pU (nQ T) hr dC (p1 (gL tY rfl T.tM (by first|rfl|decide+kernel) (p1 (pv 2))))))))))))))));have eD:=ra.ob;have S8:=ra.so.ob;symm;refine⟨Y,A.sx,A.EO,A.fH,A.im,A.js,r.input,rfl,ra.so,ra.dm,fun H1 nm EK f hnm K6 so=> ?_⟩;have ra0:=ra.src f so;have hsw:Sm (r.input.takeWhile cf):=UM ra.so.sm fun c hc=>(List.takeWhile_sublist _).subset hc
 have hlw:(r.input.takeWhile cf).length<=65536:=by
  have:=ra.so.len;have h2:(r.input.takeWhile cf).length<=r.input.length:=(List.takeWhile_prefix _).length_le;lia
 have af2:Y nm=none:=ra.dm nm hnm;have g1:aZ (fun _=>False) Y H1 (fO Y nm .jL) H1:=gr (aZ.same ra0.dm (bE.refl H1)) af2 K6;have dS:=ra0.mono g1 (fun _ q=>q);have tnm:fO Y nm .jL nm=some .jL:=bY;have f1:aZ rD Y H (fO Y nm .jL) H1:=(f.mono fun _=>sV).trans (g1.mono fun _ q=>q.elim);generalize fO Y nm .jL=Y1 at dS tnm f1;clear ra0 g1 eD S8 so f af2;generalize hw:r.input.takeWhile cf=wd at K6 hsw hlw;generalize hs:r.input.dropWhile cf=sd at dS;have hnt:mC r=Bf r wd sd:=by rw[Rn,hw,hs]
 have eD:=dS.ob;have vV:=dS.sy.ob;have S8:=dS.so.ob;have hna:=dS.sy.na.ob;have qG:=dS.so.BN;clear hw hs;symm;exists Y1,A.S.nx,A.S.dn,A.S.dd,nm,A.S.kvs,r.y.defs,wd,rfl,dS.sy.na,K6
 have tk:yd r.y wd=yd r.y wd->mC r=dI {r with input:=sd} wd->∀a,H1 a=none->Cf T [.ref A.x,.ref a] (upd H1 a (.lst (iv wd))) (fun _ H1=>Q .fI H1) E:=by
  intro _ hb a ha;have sma:=aY (o:=HO.lst (iv wd)) ha;have gu:=dS.same sma;have f2:=f1.trans (aZ.same dS.dm sma);refine⟨Y1,{A with js:=EK},_,used,a,wd,rfl,gu,aq,by lia,hsw,dS.dm a ha,fun H' h sm'=> ?_,fun r' H' h f tf=> ?_⟩
  ·exact hE 4 _ Y1 H' (.inr (.inr (.inr ⟨rfl,rfl⟩))) (hb.trans h) (f2.trans (aZ.same gu.dm sm')) (gu.same sm').err
  ·refine hQ r' Y1 H' _ (hb.trans h) (f2.trans f) ?_ tf;exact⟨rfl,rfl⟩
 cases nA:pA r.y.defs wd with
 |nil=>
  have hnt:mC r=dI {r with input:=sd} wd:=hnt.trans (Nz (by rw[Ee,nA];rfl));clear nA qG;symm;exact⟨nm,_,rfl,.inr (l6.of K6),tk rfl hnt⟩
 |cons d ds=>
  intro m hm;have hfd:yd r.y wd=some d:=by rw[Ee,nA];rfl
  clear nA;refine wN fun g_ k_=> ?_;obtain⟨tm,dm,tx,ww,t,EL,tt,S9,D6⟩:=id hm;have Jm:=MZ EK sd 0;rw[OJ]at Jm;have gy:=ra.gd.y;obtain⟨x0,hx0,rX⟩:=Lj hfd;have hk1:=K0 hx0;have hk2:=ra.sy.na.Oe
  have hk3:cW d<=wt x0:=by
   unfold wt;(try rw[rX]);lia
  have ac2:sd.head?≠some 40->mC r=if KO d=true then dI {r with input:=sd} wd else oj {r with input:=sd} wd d []:=fun h=>hnt.trans (KP hfd h);have hbr:∀u,sd=40::u->mC r=if 256<=r.frames.length\/65536<cw r.frames+wd.length+cW d then .error 4 else .ok {r with input:=u,frames:=⟨wd,d,[],[],0,false⟩::r.frames}:=fun u e=>by subst e;exact hnt.trans (VP hfd)
  clear hfd hnt
  obtain⟨z,hz,hz2⟩:∃z:Int,(cR EK sd)[EK.length]? =some z/\(z=40↔∃u,sd=40::u):=by
   cases sd with
   |nil=>exact⟨-1,Jm,by simp⟩
   |cons c u=>
    rw[if_pos (by simp)]at Jm;refine⟨(c:Int),Jm,fun h=>⟨u,by rw[show c=40 by lia]⟩,fun⟨u',e⟩=> ?_⟩
    cases e;rfl
  refine wO k_ ?_;clear k_ g_;have hg:=j6 hz;clear Jm hz
  have hts:t.length=cW d:=by
   cases d with
   |text b=>rw[D6.2];rfl
   |built b=>rw[D6.2.2];rfl
  have vY:∀b,d= .text b->Sm b:=fun b e=>gy.dt x0 hx0 b (rX.trans e);have PJ:∀k,d= .built k->k∈gD:=fun k e=>gy.db x0 hx0 k (rX.trans e)
  have pr:mC r=oj {r with input:=sd} wd d []->(∀k,d= .built k->k=bR "dnl"\/k=bR "divnum")->∀p,H1 p=none->∀x dx,upd H1 p (.lst []) x=none->upd H1 p (.lst []) dx=none->¬dx=x->yO T [.ref x,.ref nm,.ref m,.ref p] (upd (upd (upd H1 p (.lst [])) dx (.own x)) x (.ins T.dY dx [])) (fun v H2=>v= .fI/\wV T [.ref A.x,.ref x] H2 (fun _ H1=>Q .fI H1) E) E0:=by
   intro hb hk p hp x dx hx sJ vW;have RN:=(aM hx).1;have afK:=(aM hx).2;have hdp:=(aM sJ).1;have wZ:=(aM sJ).2;have YU:bE H1 (upd (upd (upd H1 p (.lst [])) dx (.own x)) x (.ins T.dY dx [])):=bp (bp (bp (bE.refl H1) hp) wZ) afK;exists x,dx,nm,m,dm,tx,p,_,wd,t,rfl,aq,YU _ _ K6,YU _ _ EL,YU _ _ S9,rfl;generalize zS:upd (upd (upd (upd H1 p (.lst [])) dx (.own x)) x (.ins T.dY dx [])) x (.ins T.dY dx (fw (.ref nm) (.ref m) (.ref p) (.bl false) (.int 0) (.int ((wd.length:Int)+(t.length:Int)))))=H3;have kf:bE H1 H3:=by rw[<-zS];exact bp YU afK
   have L6:H3 p=some (.lst (rv [])):=(congrFun zS.symm _).trans ((ai (aD RN)).trans ((ai (aD RN)).trans ((ai (aD hdp)).trans aq)));have wy:H3 x=some (.ins T.dY dx (fw (.ref nm) (.ref m) (.ref p) (.bl false) (.int 0) (.int ((wd.length:Int)+(t.length:Int))))):=(congrFun zS.symm _).trans aq;have g:aZ (fun _=>False) Y1 H1 (fO Y1 p .jL) H3:=gr (aZ.same dS.dm kf) (dS.dm p hp) L6;have qX:=dS.mono g (fun _ q=>q)
   have da:ON T (fO Y1 p .jL) H3 x dx nm m p [] (.bl false) (.int 0) (.int ((wd.length:Int)+(t.length:Int))) wd d []:=
    ⟨wy,kf _ _ K6,hm.fr g (fun q=>q),⟨bY,L6,.nil,fun q hq=>absurd hq dh,fun q hq=>absurd hq dh,aC _,aC _⟩,hsw,hlw,fun b e=>⟨vY b e,by
     have e2:cW d=b.length:=by rw[e];rfl
     lia⟩,fun k e=>⟨PJ k e,.inr (hk k e)⟩⟩
   have f3:=f1.trans (g.mono fun _ q=>q.elim);refine⟨_,{A with js:=EK},_,used,x,dx,nm,m,p,[],_,_,_,wd,d,[],rfl,qX,da,fun e C Y' H' h1 h2 h3 h4=>hE e C Y' H' h1 (hb.trans h2) (f3.trans h3) h4,fun r' Y' H' A' h1 h2 h3 h4=>hQ r' Y' H' A' (hb.trans h1) (f3.trans h2) ⟨h3.1,h3.2⟩ h4⟩
  symm
  by_cases ZQ:z=40
  ·refine gB (by simpa using ZQ) ?_;obtain⟨u,rfl⟩:=hz2.mp ZQ;have hb:=hbr u rfl;have RM:A.x≠A.sx:=fun z=>by have:=dS.tg;rw[z]at this;rw[dS.so.tg]at this;cases this
   have AA:A.fH≠A.sx:=fun z=>by have:=dS.so.tr;rw[z]at this;rw[dS.so.tg]at this;cases this
   have hix:A.im≠A.sx:=fun z=>by have:=dS.so.ti;rw[z]at this;rw[dS.so.tg]at this;cases this
   have O2:=dS.so.on (H':=upd H1 A.sx (.ins T.bU A.EO (cT (.int ((EK.length:Int)+1)) (.ref A.fH) (.ref A.im)))) 1 (by simp) aq (ai AA) (ai hix);have g2:aZ SM Y1 H1 Y1 (upd H1 A.sx (.ins T.bU A.EO (cT (.int ((EK.length:Int)+1)) (.ref A.fH) (.ref A.im)))):=aZ.one dS.dm dS.so.tg (.inl rfl);have gu:=dS.src g2 O2;have af6:=hm.fr g2 (by rintro(q|q)<;>cases q);have ac4:=g2.obj _ _ _ tnm (by rintro(q|q)<;>cases q) K6;have af7:=g2.obj _ _ _ tm (by rintro(q|q)<;>cases q) EL;have af5:=g2.obj _ _ _ tt (by rintro(q|q)<;>cases q) S9;rfl';generalize upd H1 A.sx (.ins T.bU A.EO (cT (.int ((EK.length:Int)+1)) (.ref A.fH) (.ref A.im)))=H2 at g2 O2 gu af6 ac4 af7 af5⊢;refine⟨aC _,fun p hp=>⟨by decide,fun ar X5 x dx hx sJ vW=> ?_⟩⟩;have hap:=(aM X5).1;have Lb:=(aM X5).2;have hxa:=(aM hx).1;have rX:=(aM hx).2;have RN:=(aM rX).1;have tS:=(aM rX).2;have hda:=(aM sJ).1;have wZ:=(aM sJ).2;have hdp:=(aM wZ).1;have hd2:=(aM wZ).2;have YU:bE H2 (upd (upd (upd (upd H2 p (.lst [])) ar (.lst [V.ref p])) dx (.own x)) x (.ins T.dY dx [])):=bp (bp (bp (bp (bE.refl H2) hp) Lb) hd2) tS;exists x,dx,nm,m,dm,tx,ar,_,wd,t,rfl,aq,YU _ _ ac4,YU _ _ af7,YU _ _ af5,rfl;(try rw[hts])
   generalize zS:upd (upd (upd (upd (upd H2 p (.lst [])) ar (.lst [V.ref p])) dx (.own x)) x (.ins T.dY dx [])) x (.ins T.dY dx (fw (.ref nm) (.ref m) (.ref ar) (.bl false) (.int 0) (.int ((wd.length:Int)+((cW d:Nat):Int)))))=H3;have kf:bE H2 H3:=by rw[<-zS];exact bp YU tS
   have wy:H3 x=some (.ins T.dY dx (fw (.ref nm) (.ref m) (.ref ar) (.bl false) (.int 0) (.int ((wd.length+cW d:Nat):Int)))):=(congrFun zS.symm _).trans aq;have ajU:H3 ar=some (.lst (rv [p])):=(congrFun zS.symm _).trans ((ai (aD hxa)).trans ((ai (aD hxa)).trans ((ai (aD hda)).trans aq)));have L6:H3 p=some (.lst (iv [])):=(congrFun zS.symm _).trans ((ai (aD RN)).trans ((ai (aD RN)).trans ((ai (aD hdp)).trans ((ai (aD hap)).trans aq))));have qX:=gu.same kf;have f3:aZ rD Y H Y1 H3:=(f1.trans (g2.mono fun _=>sV)).trans (aZ.same gu.dm kf);refine⟨Y1,{A with js:=EK++zi ((40::u).take 1)},_,used,x,dx,nm,m,ar,p,wd,d,rfl,qX,wy,gu.dm x tS,gu.dm ar Lb,gu.dm p hp,ajU,L6,hap,tnm,kf _ _ ac4,af6.same kf,hsw,vY,PJ,fun iH=> ?_,fun iH Y' H' A' f' tf kp=> ?_⟩
   ·have iH:256<=r.frames.length\/65536<cw r.frames+wd.length+cW d:=iH;rw[if_pos iH]at hb;exact hE 4 _ Y1 H3 (.inr (.inr (.inr ⟨rfl,rfl⟩))) hb f3 qX.err
   ·have iH:¬(256<=r.frames.length\/65536<cw r.frames+wd.length+cW d):=iH;rw[if_neg iH]at hb;exact hQ _ Y' H' A' hb (f3.trans f') ⟨kp.1,kp.2⟩ tf
  ·refine gn (by simpa using ZQ) ?_
   have K7:=ac2 (fun e=>ZQ (hz2.mpr (by
    cases sd with
    |nil=>cases e
    |cons c u=>cases e;exact⟨u,rfl⟩)))
   cases d with
   |text b=>
    rcases D6 with⟨rfl,rfl⟩;rfl';rw[if_neg (by intro h;cases h)]at K7;exact⟨aC _,pr K7 (fun k e=>by cases e)⟩
   |built b=>
    rcases D6 with⟨Ip,NZ,rfl⟩;have vW:¬ww="":=fun e=>by rw[e]at NZ;exact Ip NZ.symm
    rfl';exists T.mq,_,rfl,.inr (T.yU _),rfl,rfl;rfl';(try rw[aax,NZ])
    have hnd:KO (.built b)= !(Cy.contains b):=rfl;rw[hnd]at K7
    cases hbc:Cy.contains b with
    |true=>
     rw[hbc]at K7;rw[if_neg (by decide)]at K7
     have hk:b=bR "dnl"\/b=bR "divnum":=by
      have e:Cy=[bR "dnl",bR "divnum"]:=rfl;rw[e]at hbc;simpa using hbc
     rfl';exact⟨aC _,pr K7 (fun k e=>by cases e;exact hk)⟩
    |false=>
     rw[hbc]at K7;rw[if_pos (by decide)]at K7;rfl';exact⟨nm,_,rfl,.inr (l6.of K6),tk rfl K7⟩
theorem Au(b:B):b.take (fu b)=(b.takeWhile fun c=>c != 10)++(b.dropWhile fun c=>c != 10).take 1:=by
 have e:(b.takeWhile fun c=>c != 10)++(b.dropWhile fun c=>c != 10)=b:=jf;have h1:b.take (fu b)=((b.takeWhile fun c=>c != 10)++(b.dropWhile fun c=>c != 10)).take (fu b):=by rw[e]
 rw[h1];unfold fu;rw[List.take_append]
 congr 1
 ·exact bA (uz _ _)
 ·rw[cF]
  cases (b.dropWhile fun c=>c != 10)with
  |nil=>rfl
  |cons c r=>rfl
inductive Ff(vs:List V)(H:Hp)(Q:VK)(E:XK):Prop
 |mk (Y:iC) (A:ji) (r:eY) (used:Nat) (_:vs=[.ref A.x]) (_:cI T Y H A r used) (_:r.input≠[]) (_:(∀e C Y' H',F3 T e C->TH r= .error e->aZ rD Y H Y' H'->me T Y' H' A r.y r.out used->E (.ref C) none H')) (_:(∀r' Y' H' A',TH r= .ok r'->aZ rD Y H Y' H'->Kp A A'->cI T Y' H' A' r' used->Q .fI H'))
theorem zc(D:TopD P w T):T.mO.Ok P w mg ag (jF P w) 11 (Ff T):=by
 rcases h:T.mO.qj ["self","source","byte"]with⟨Y,A,r,used,rfl,ra,vW,hE,hQ⟩;exists _,(ah (bh 1 nd0 (aB T.bB T.ik (pv 0))) (ah (bh 2 nd0 (c5 b6 (aB T.bj T.ez (pv 1)) (aB T.bj T.bV (pv 1)))) (aj (ck (iY (cM (pv 1) T.bj T.lR (uu T) hr bq (p1 (aB T.et T.fh (aB T.bJ T.eU (aB T.bB T.cb (pv 0))))))) (aj (bx (cM (pv 0) T.bB T.pU (nQ T) hr dC (p1 (cM (pv 1) T.bj T.lQ (ur T) hr dC (p1 (aB T.bJ T.eU (aB T.bB T.cb (pv 0))))))))) (aj (ck (aR d9 (pv 2) (bC rfl T.HV)) (aj (bx (cM (pv 0) T.bB T.pU (nQ T) hr dC (p1 (PE.q iX (jI (pv 1) T.bj T.gN.M (oS T) (hr.mono (by decide)) T.gN.b .nil bq)))))) (aj (ck (iY (cM (pv 1) T.bj T.lP (uq T) hr bq (p1 (pv 2)))) (aj (bx (PE.q iX (jI (pv 0) T.bB T.iT.M (tL T D) (hr.mono (by decide)) T.iT.b .nil dC)))) (ah (ek T.bj T.bV (pv 1) aO mF) (aj (bx (cM (pv 0) T.bB T.rn (Aq T D) hr dC (p1 (pv 2))))))))))))));have eD:=ra.ob;have vV:=ra.sy.ob;have S8:=ra.so.ob;have qG:=ra.so.BN;have hqa:=ra.sy.qa.at_
 obtain⟨c,sd,NV⟩:∃c sd,r.input=c::sd:=by
  cases h:r.input with
  |nil=>exact absurd h vW
  |cons c sd=>exact⟨c,sd,rfl⟩
 have Jm:=MZ A.js r.input 0;rw[OJ,if_pos (by rw[NV];simp),NV]at Jm
 have hg:zF ((cR A.js r.input).map V.int) (A.js.length:Int)=some (V.int (c:Int)):=by
  (try rw[NV]);exact j6 Jm
 have hc:c<256:=ra.so.sm c (by rw[NV];exact aX)
 have tk:∀(H1:Hp) (A1:ji) (sd t:B) (a:ao),cI T Y H1 A1 {r with input:=sd} used->Kp A A1->aZ rD Y H Y H1->H1 a=some (.lst (iv t))->H a=none->Sm t->t.length<=65536->TH r=dI {r with input:=sd} t->Cf T [.ref A.x,.ref a] H1 (fun _ H1=>Q .fI H1) E:=by
  intro H1 A1 sd t a dS kp f1 ha Wu nA zp hb;refine⟨Y,A1,_,used,a,t,by rw[kp.x],dS,ha,by lia,nA,ra.dm a Wu,fun H' h sm'=> ?_,fun r' H' h f tf=> ?_⟩
  ·have er:=(dS.same sm').err;have er:=er.kp kp;exact hE 4 _ Y H' (.inr (.inr (.inr ⟨rfl,rfl⟩))) (hb.trans h) (f1.trans (aZ.same dS.dm sm')) er
  ·exact hQ r' Y H' A1 (hb.trans h) (f1.trans f) kp tf
 have Ij:A.S.qx≠A.sx:=fun z=>by have:=ra.sy.tq;rw[z,ra.so.tg]at this;cases this
 have Wm:c::sd=r.input:=NV.symm;clear Jm NV;symm;refine⟨Y,A.sx,A.EO,A.fH,A.im,A.S.oq,A.js,r.input,r.y.open_,rfl,ra.so,ra.sy.qa.Kw,fun H1 oQ=> ?_⟩;have dS:=ra.same oQ;have f1:aZ rD Y H Y H1:=aZ.same ra.dm oQ;have hlen:=ra.so.len
 by_cases hh:yp r.y.open_ r.input
 ·rw[decide_eq_true (show r.y.open_≠[]/\_ from hh)];have S7:=QI hh;have tT:=dS.ob;have ai9:=dS.sy.ob;have NS:=dS.so.ob;clear eD vV S8 qG hqa hg hlen;symm;exists Y,A.sx,A.EO,A.fH,A.im,A.S.qx,A.S.dq,A.S.oq,A.S.cq,A.js,r.input,r.y,rfl,dS.so,dS.sy.qa,dS.dm,hh,ra.gd.y.cn,ra.gd.y.sc,Ij
  cases AD:qt r.y 0 (r.input.drop r.y.open_.length)with
  |none=>
   rw[AD]at S7;intro H2 f2 O2;have gu:=dS.src f2 O2;exact hE 1 _ Y H2 (.inl ⟨rfl,rfl⟩) S7 (f1.trans (f2.mono fun _=>sV)) gu.err
  |some q=>
   rw[AD]at S7;intro H2 p EK f2 hp mX O2;have gu:=dS.src f2 O2;have kJ:=M8 AD;have hlen:=ra.so.len
   have hlq:q.1.length<=65536:=by
    have:=congrArg cS kJ;rw[aL,aF]at this;omega
   have hsq:Sm q.1:=fun x hx=>ra.so.sm x (kS (i:=r.y.open_.length) (by rw[kJ];exact xf _ hx));exact tk H2 {A with js:=EK} q.2 q.1 p gu ⟨rfl,rfl⟩ (f1.trans (f2.mono fun _=>sV)) mX (TM.bE.none oQ hp) hsq hlq S7
 ·rw[decide_eq_false (show ¬(r.y.open_≠[]/\_) from hh)];have tT:=dS.ob;have NS:=dS.so.ob;clear eD vV S8 qG hqa hg hlen;symm
  by_cases h35:c=35
  ·refine gB (by lia) ?_;subst h35;have S7:=Ud hh Wm.symm;rfl';refine⟨Y,A.sx,A.EO,A.fH,A.im,A.js,r.input,rfl,dS.so,dS.dm,fun H2 p EK f2 hp mX O2=> ?_⟩;have gu:=dS.src f2 O2;rw[Au]at mX;have hlen:=ra.so.len
   have hll:((r.input.takeWhile fun c=>c != 10)++(r.input.dropWhile fun c=>c != 10).take 1).length<=65536:=by
    (try rw[<-Au,aQ]);lia
   have hsq:Sm ((r.input.takeWhile fun c=>c != 10)++(r.input.dropWhile fun c=>c != 10).take 1):=fun x hx=>ra.so.sm x (by rw[<-Au]at hx;exact Qn hx);exact tk H2 {A with js:=EK} _ _ p gu ⟨rfl,rfl⟩ (f1.trans (f2.mono fun _=>sV)) mX (TM.bE.none oQ hp) hsq hll S7
  ·refine gn (by lia) ?_;rfl';refine⟨A.sx,A.EO,A.im,_,_,(c:Int),rfl,dS.so.ob,dS.so.ZI,.inr ⟨c,rfl,hc,?_⟩⟩
   cases hl:sL c with
   |true=>
    have S7:=Uc hh Wm.symm h35 hl;symm;exact⟨Y,A,r,used,rfl,dS,fun e C Y' H' h1 h2 h3 h4=>hE e C Y' H' h1 (S7.trans h2) (f1.trans h3) h4,fun r' Y' H' A' h1 h2 h3 h4=>hQ r' Y' H' A' (S7.trans h1) (f1.trans h2) h3 h4⟩
   |false=>
    have S7:=Ue hh Wm.symm h35 hl;have RM:A.x≠A.sx:=fun z=>by have:=dS.tg;rw[z,dS.so.tg]at this;cases this
    symm;have AA:A.fH≠A.sx:=fun z=>by have:=dS.so.tr;rw[z,dS.so.tg]at this;cases this
    have hix:A.im≠A.sx:=fun z=>by have:=dS.so.ti;rw[z,dS.so.tg]at this;cases this
    have O2:=dS.so.on (H':=upd H1 A.sx (.ins T.bU A.EO (cT (.int ((A.js.length:Int)+1)) (.ref A.fH) (.ref A.im)))) 1 (by rw[<-Wm];simp) aq (ai AA) (ai hix);have wZ:r.input.drop 1=sd:=by rw[<-Wm];rfl
    rw[wZ]at O2;have g2:aZ SM Y H1 Y (upd H1 A.sx (.ins T.bU A.EO (cT (.int ((A.js.length:Int)+1)) (.ref A.fH) (.ref A.im)))):=aZ.one dS.dm dS.so.tg (.inl rfl);have gu:=dS.src g2 O2;have f2:=f1.trans (g2.mono fun _=>sV);refine⟨Y,{A with js:=A.js++zi (r.input.take 1)},{r with input:=sd},used,c,rfl,gu,hc,fun e C Y' H' h1 h2 h3 h4=>hE e C Y' H' h1 (S7.trans h2) (f2.trans h3) h4,fun r' Y' H' A' h1 h2 h3 h4=>hQ r' Y' H' A' (S7.trans h1) (f2.trans h2) ⟨h3.1,h3.2⟩ h4⟩
theorem cI.used{T:Top K mg}{Y:iC}{H:Hp}{A:ji}{r:eY}{used:Nat}(h:cI T Y H A r used):cI T Y (upd H A.x (.ins T.dD A.dx (f9 (.ref A.S.x) (.ref A.sx) (.int (r.room:Nat)) (.ref A.wr) (.ref A.cl) (.int (cw r.frames:Nat)) (.int ((used+1:Nat):Int))))) A r (used+1):=by
 have g:aZ (fun t=>t= .run) Y H Y (upd H A.x (.ins T.dD A.dx (f9 (.ref A.S.x) (.ref A.sx) (.int (r.room:Nat)) (.ref A.wr) (.ref A.cl) (.int (cw r.frames:Nat)) (.int ((used+1:Nat):Int))))):=aZ.one h.dm h.tg rfl;have hc:A.cl≠A.x:=fun z=>by have:=h.tc;rw[z,h.tg]at this;cases this
 exact h.calls (used':=used+1) (cs:=A.cs) (fs:=r.frames) (g.mono fun t e=>.inl e) h.tg aq h.tc ((ai hc).trans h.cl) (h.fr.fr g (fun i _=>⟨(by intro e;cases e),(by intro e;cases e),(by intro e;cases e)⟩) (by intro e;cases e)) h.gd
theorem cI.steps{T:Top K mg}{Y:iC}{H:Hp}{A:ji}{r:eY}{used:Nat}(h:cI T Y H A r used)(k:Nat):cI T Y H A {r with steps:=k} used:=
 ⟨h.tg,h.ob,h.sy,h.so,h.tw,h.wr,h.tc,h.cl,h.fr,h.dm,⟨h.gd.y,h.gd.fr,h.gd.hd,h.gd.dp,h.gd.ou,h.gd.rm⟩⟩
inductive J8(vs:List V)(H:Hp)(Q:VK)(E:XK):Prop
 |mk (Y:iC) (A:ji) (r:eY) (used n:Nat) (_:vs=[.ref A.x,.int ((used+n:Nat):Int)]) (_:cI T Y H A r used) (_:(∀e C Y' H',F3 T e C->(eX n {r with steps:=n}).1=e->aZ rD Y H Y' H'->me T Y' H' A (eX n {r with steps:=n}).2.y (eX n {r with steps:=n}).2.out (used+n- (eX n {r with steps:=n}).2.steps)->E (.ref C) none H')) (_:(∀Y' H',(eX n {r with steps:=n}).1=0->aZ rD Y H Y' H'->me T Y' H' A (eX n {r with steps:=n}).2.y (eX n {r with steps:=n}).2.out (used+n- (eX n {r with steps:=n}).2.steps)->Q .fI H'))
theorem BU(D:TopD P w T):T.ph.Ok P w mg ag (jF P w) 12 (J8 T):=by
 rcases h:T.ph.qj ["self","steps","source"]with⟨Y,A,r,used,n,rfl,ra,hE,hQ⟩;exists _,(ah (bh 2 nd0 (aB T.bB T.ik (pv 0))) (ah (gx fm (iY (PE.q iX (jI (pv 2) T.bj T.lD.M (xJ T) (hr.mono (by decide)) T.lD.b .nil bq))) (ah (ck (aR d9 (aB T.bB T.t9 (pv 0)) (pv 1)) (aj (ff T.oZ hr)) bQ) (ah (ek T.bB T.t9 (pv 0) aO mF) (aj (bx (PE.q iX (jI (pv 0) T.bB T.mO.M (zc T D) (hr.mono (by decide)) T.mO.b .nil dC))))))) (aj (ck (aR (Hz hr.uQ) (aB T.bB T.il (pv 0)) (cH c9)) (aj (ff T.kG hr)) bQ))));have eD:=ra.ob;symm;exists fun m Z H'=>∃Y' A' r' used',Z=[some (V.ref A.x),some (V.int ((used+n:Nat):Int)),some (V.ref A.sx)]/\used'+m=used+n/\Kp A A'/\aZ rD Y H Y' H'/\cI T Y' H' A' r' used'/\eX m {r' with steps:=m}=eX n {r with steps:=n},⟨n,Y,A,r,used,rfl,rfl,Kp.refl A,aZ.same ra.dm (bE.refl H),ra,rfl⟩;intro m Z H1 w_;rcases w_ with⟨Y1,A1,r1,yq,rfl,hus,kp,f1,dS,Wb⟩;have tT:=dS.ob;have NS:=dS.so.ob;have so1:=dS.so;have tg1:=dS.tg;rw[kp.x,kp.2]at tT;rw[kp.2]at NS so1;rw[kp.x]at tg1;clear eD;symm;exists Y1,A.sx,A1.EO,A1.fH,A1.im,A1.js,r1.input,rfl,so1;have rY:=dS.cl;have hlf:=dS.fr.len
 by_cases hi:r1.input=[]
 ·have XW:=Y4 (n:=m) (r:={r1 with steps:=m}) hi;rfl';(try rw[decide_eq_false (fun h=>h hi)])
  have er:=dS.err;have er:=er.kp kp;clear hi rY hlf;have rY:=dS.cl;symm;refine⟨aC _,fun q hq=> ?_⟩;have smq:=aY (o:=HO.lst []) hq
  have er2:me T Y1 (upd H1 q (.lst [])) A r1.y r1.out yq:=by
   exact(dS.same smq).err.kp kp
  have f2:=f1.trans (aZ.same dS.dm smq);have hu:used+n- m=yq:=by omega
  exists rv A1.cs.reverse,a9 rY hq;have hlf:=dS.fr.len
  by_cases Tb:r1.frames=[]
  ·have w6:A1.cs=[]:=be (by rw[hlf,Tb];rfl);(try rw[w6,if_neg (by decide)])
   rw[if_pos Tb]at XW;rw[<-Wb,XW]at hQ;exact hQ Y1 _ rfl f2 (by show me T Y1 _ A r1.y r1.out (used+n- m);rw[hu];exact er2)
  ·have w6:A1.cs≠[]:=fun e=>Tb (be (by rw[<-hlf,e];rfl))
   rw[if_pos (by
    cases h:A1.cs with
    |nil=>exact absurd h w6
    |cons a b=>rw[b8,<-ft];simp)]
   rw[if_neg Tb]at XW;rw[<-Wb,XW]at hE;exact hE 1 _ Y1 _ (.inl ⟨rfl,rfl⟩) rfl f2 (by show me T Y1 _ A r1.y r1.out (used+n- m);rw[hu];exact er2)
 ·rfl';(try rw[decide_eq_true hi])
  clear rY hlf;symm;exists _,fun _ _ h=>h
  cases m with
  |zero=>
   rfl';refine gB (by lia) ?_;have XW:=UR (r:={r1 with steps:=0}) hi;rw[<-Wb,XW]at hE;have er:=dS.err;have er:=er.kp kp;exact hE 3 _ Y1 H1 (.inr (.inr (.inl ⟨rfl,rfl⟩))) rfl f1 (by show me T Y1 _ A r1.y r1.out (used+n- 0);rw[show used+n- 0=yq by lia];exact er)
  |succ m=>
   rfl';refine gn (by lia) ?_;have XW:=UQ (n:=m) (r:={r1 with steps:=m+1}) hi;have gu:=(dS.steps (m+1)).used;have f2:aZ rD Y H Y1 _:=f1.trans (aZ.one (M:=rD) (o:=HO.ins T.dD A1.dx (f9 (.ref A1.S.x) (.ref A1.sx) (.int (r1.room:Nat)) (.ref A1.wr) (.ref A1.cl) (.int (cw r1.frames:Nat)) (.int ((yq+1:Nat):Int)))) dS.dm tg1 (by intro e;cases e));rw[kp.x,kp.2]at gu;rw[kp.2]at f2;have e1:(yq:Int)+1=((yq+1:Nat):Int):=rfl;rfl';(try rw[e1])
   refine⟨Y1,A1,{r1 with steps:=m+1},yq+1,by rw[kp.x],gu,hi,fun e C Y' H' h1 h2 h3 h4=> ?_,fun r' Y' H' A' h1 h2 h3 h4=> ?_⟩
   ·rw[h2]at XW;rw[<-Wb,XW]at hE;have h4:=h4.kp kp;exact hE e C Y' H' h1 rfl (f2.trans h3) (by show me T Y' H' A r1.y r1.out (used+n- m);rw[show used+n- m=yq+1 by lia];exact h4)
   ·exists m,g7 m,Y',A',r',yq+1,by lia,kp.trans h3,f2.trans h2,h4
    (try rw[<-Wb,XW,h1])
inductive wm(vs:List V)(H:Hp)(Q:VK)(E:XK):Prop
 |mk (Y:iC) (A:ji) (r:eY) (used n:Nat) (_:vs=[.ref A.x,.int ((used+n:Nat):Int)]) (_:cI T Y H A r used) (_:∀Y' H',aZ rD Y H Y' H'->me T Y' H' A (eX n {r with steps:=n}).2.y (eX n {r with steps:=n}).2.out (used+n- (eX n {r with steps:=n}).2.steps)->Q (.int ((eX n {r with steps:=n}).1:Nat)) H')
theorem rS(D:TopD P w T):T.kB.Ok P w mg ag iN 13 (wm T):=by
 rcases h:T.kB.jG ["self","steps"]with⟨Y,A,r,used,n,rfl,ra,hQ⟩
 refine⟨_,ah (Zf rfl rfl rfl rfl rfl rfl rfl rfl T.bB T.ph.M (BU T D) (hr.mono (by decide)) T.ph.b T.kG.mg T.fo.mg T.oZ.mg T.hW.mg rfl rfl rfl rfl rfl rfl rfl rfl
  T.sf T.rh T.r9 T.vB T.qk T.rj T.ux T.r8 T.vA T.zx) (aj (a6 aO)),?_⟩
 refine⟨A.x,A.dx,_,_,rfl,rfl,ra.ob,rfl,Y,A,r,used,n,rfl,ra,fun e C Y' H' hc he f er=> ?_,fun Y' H' he f er=> ?_⟩
 ·have k:=hQ Y' H' f er;rw[he]at k;obtain⟨rfl,rfl⟩|⟨rfl,rfl⟩|⟨rfl,rfl⟩|⟨rfl,rfl⟩:=hc
  ·exact .inl ⟨rfl,k⟩
  ·exact .inr (.inl ⟨rfl,k⟩)
  ·exact .inr (.inr (.inl ⟨rfl,k⟩))
  ·exact .inr (.inr (.inr ⟨rfl,k⟩))
 ·have k:=hQ Y' H' f er;rw[he]at k;exact k
inductive Kj(vs:List V)(H:Hp)(Q:VK)(E:XK):Prop
 |mk (Y:iC) (x dx a:ao) (S:wC) (y:dw) (room:Nat) (t:B) (_:vs=[.ref x,.ref S.x,.int (room:Nat),.ref a]) (_:H x=some (.ins T.dD dx [])) (_:Y x=none) (_:jM T Y H S y) (_:md y) (_:Dm Y H) (_:H a=some (.lst (iv t))) (_:t.length<=65536) (_:Sm t) (_:room<=65536) (_:∀Y' H' A,aZ (fun _=>False) Y H Y' H'->A.x=x->A.S.x=S.x->(∀k,cI T Y' H' A ⟨y,t,[],[],room,k⟩ 0)->Q .fI H')
theorem KI:T.su.Ok P w mg ag iN 5 (Kj T):=by
 rcases h:T.su.jG ["self","system","most","text"]with⟨Y,x,dx,a,S,y,room,t,rfl,hx,AA,sy,gy,lN,ha,zp,Fz,hrm,k⟩;exists _,(ah (cD T.bB T.cb (pv 0) (pv 1)) (ah (cD T.bB T.ik (pv 0) (mz T.SY (DW T) (hr.mono (by decide)) rfl T.Rt T.l7.b .nil bq (p1 (pv 3)))) (ah (cD T.bB T.Ex (pv 0) (pv 2)) (ah (cD T.bB T.lx (pv 0) (cH c9)) (ah (cD T.bB T.il (pv 0) (cH c9)) (ah (cD T.bB T.ua (pv 0) aO) (aj (cD T.bB T.t9 (pv 0) aO))))))));symm;intro sx EO ZT agd vW;have acV:=(aM ZT).1;have afQ:=(aM ZT).2;have ajE:=(aM agd).1;have ajF:=(aM agd).2;have hax:a≠x:=cE ha hx rfl;generalize zS:upd (upd (upd H x (.ins T.dD dx [("system",V.ref S.x)])) EO (.own sx)) sx (.ins T.bU EO [])=H3;have rV:∀b u,H b=some u->b≠x->H3 b=some u:=fun b u e hb=>(congrFun zS.symm _).trans ((ai (bO afQ e)).trans ((ai (bO ajF e)).trans ((ai hb).trans e)));have wy:H3 x=some (.ins T.dD dx [("system",V.ref S.x)]):=(congrFun zS.symm _).trans ((ai (aD acV)).trans ((ai (aD ajE)).trans aq));have RQ:H3 sx=some (.ins T.bU EO []):=(congrFun zS.symm _).trans aq;have f0:aZ (fun _=>False) Y H Y H3:=⟨fun _ _ e _=>e,fun b r u e _ hu=>rV b u hu (cE e AA rfl),fun b hb=>by rw[<-zS]at hb;exact lN b (aM (aM (aM hb).2).2).2⟩;have f0':=gr (p:=x) (r:=Tag.run) f0 AA wy;refine⟨fO Y x .run,sx,EO,a,t,rfl,RQ,rV _ _ ha hax,zp,Fz,by rw[bw acV];exact lN sx afQ,f0'.dm,fun Y1 H4 fH im js f1 so=>⟨rfl,?_⟩⟩;have Pw:=f1.obj x _ _ bY (fun q=>q) wy;have tx4:=f1.tag x _ bY (fun q=>q);have f14:=f0'.trans f1;have RM:x≠sx:=aD acV;have sy4:=sy.fr f14 (fun _ _ q=>q) (fun q=>q);clear hx zS wy RQ rV f0 f0' ha;symm;refine⟨aC _,fun wr hwr=> ?_⟩;have hwx:=(aM hwr).1;have hwH:=(aM hwr).2;have hxw:=aD hwx;symm;refine⟨aC _,fun cl rY=> ?_⟩;have hcx:=(aM rY).1;have Ma:=(aM rY).2;have hxc:=aD hcx;symm;have hcw:=(aM Ma).1;have hc2:=(aM Ma).2;have hc3:=(aM hc2).2;generalize Ea:upd (upd (upd (upd (upd H4 x (.ins T.dD dx [("system",V.ref S.x),("source",V.ref sx),("most",V.int (room:Int))])) wr (.lst [])) x (.ins T.dD dx [("system",V.ref S.x),("source",V.ref sx),("most",V.int (room:Int)),("written",V.ref wr)])) cl (.lst [])) x (.ins T.dD dx (f9 (.ref S.x) (.ref sx) (.int (room:Int)) (.ref wr) (.ref cl) (.int 0) (.int 0)))=H5;have Bl:∀b u,H4 b=some u->b≠x->H5 b=some u:=fun b u e hb=>(congrFun Ea.symm _).trans ((ai hb).trans ((ai (bO hc3 e)).trans ((ai hb).trans ((ai (bO hwH e)).trans ((ai hb).trans e)))));have hx5:H5 x=some (.ins T.dD dx (f9 (.ref S.x) (.ref sx) (.int (room:Int)) (.ref wr) (.ref cl) (.int 0) (.int 0))):=(congrFun Ea.symm _).trans aq;have hw5:H5 wr=some (.lst (iv [])):=(congrFun Ea.symm _).trans ((ai hwx).trans ((ai (aD hcw)).trans ((ai hwx).trans aq)));have hc5:H5 cl=some (.lst (rv [])):=(congrFun Ea.symm _).trans ((ai hcx).trans aq);have dm1:=f1.dm
 have g0:aZ (fun t=>t= .run) Y1 H4 Y1 H5:=⟨fun _ _ e _=>e,fun b r u e hn hu=>Bl b u hu (fun z=>by rw[z,tx4]at e;cases e;exact hn rfl),fun b hb=>by
  rw[<-Ea]at hb;exact dm1 b (aM (aM (aM (aM (aM hb).2).2).2).2).2⟩
 have g:=gr (gr (p:=wr) (r:=Tag.written) g0 (dm1 wr hwH) hw5) (p:=cl) (r:=Tag.calls) (by rw[bw hcw];exact dm1 cl hc3) hc5
 have gF:aZ (fun _=>False) Y H (fO (fO Y1 wr .written) cl .calls) H5:=⟨fun b r e hn=>by
  have e1:=f14.tag b r e hn;rw[bw (cE e1 (dm1 cl hc3) rfl),bw (cE e1 (dm1 wr hwH) rfl)];exact e1,fun b r u e hn hu=>Bl b u (f14.obj b r u e hn hu) (cE e AA rfl),g.dm⟩
 refine k _ H5 ⟨S,x,dx,sx,EO,fH,im,wr,cl,js,[]⟩ gF rfl rfl fun kk=>⟨?_,hx5,sy4.fr g (fun r h e=>by subst e;obtain h|h|⟨_,h⟩|(h|h|⟨_,h⟩):=h<;>cases h) (by intro e;cases e),so.fr g (by intro e;cases e) (by intro e;cases e) (by intro e;cases e),?_,hw5,bY,hc5,.nil,g.dm,⟨gy,fun f hf=>absurd hf dh,aC _,aC _,aC _,hrm⟩⟩
 ·show fO (fO Y1 wr .written) cl .calls x=_;(try rw[bw hxc,bw hxw]);exact tx4
 ·show fO (fO Y1 wr .written) cl .calls wr=_;(try rw[bw (aD hcw)]);exact bY
inductive J7(vs:List V)(H:Hp)(Q:VK)(E:XK):Prop
 |mk (Y:iC) (a:ao) (S:wC) (y:dw) (n room:Nat) (t:B) (_:vs=[.ref S.x,.int (n:Nat),.int (room:Nat),.ref a]) (_:jM T Y H S y) (_:md y) (_:Dm Y H) (_:H a=some (.lst (iv t))) (_:t.length<=65536) (_:Sm t) (_:room<=65536) (_:∀Y' H' S' p,aZ rD Y H Y' H'->jM T Y' H' S' (eX n ⟨y,t,[],[],room,n⟩).2.y->md (eX n ⟨y,t,[],[],room,n⟩).2.y->(eX n ⟨y,t,[],[],room,n⟩).2.out.length<=65536->S'.x=S.x->Y' p=none->H' p=some (.lst (V.int ((eX n ⟨y,t,[],[],room,n⟩).1:Nat)::V.int ((eX n ⟨y,t,[],[],room,n⟩).2.out.length:Nat)::V.int ((n- (eX n ⟨y,t,[],[],room,n⟩).2.steps:Nat):Int)::iv (eX n ⟨y,t,[],[],room,n⟩).2.out))->Q (.ref p) H')
theorem KC(D:TopD P w T):T.Ds.Ok P w mg ag iN 14 (J7 T):=by
 rcases h:T.Ds.jG ["system","steps","most","text","run","error"]with⟨Y,a,S,y,n,room,t,rfl,sy,gy,lN,ha,zp,Fz,hrm,k⟩;exists _,(ah (bh 4 nd0 (mz T.ad7 (KI T) (hr.mono (by decide)) rfl T.acB T.su.b .nil bq (aV (pv 0) (aV (pv 2) (p1 (pv 3)))))) (ah (bh 5 nd0 (cM (pv 4) T.bB T.kB (rS T D) hr bq (p1 (pv 1)))) (aj (a6 (cu An (cH (aV (pv 5) (aV (cL T (aB T.bB T.lx (pv 4))) (p1 (aB T.bB T.t9 (pv 4)))))) (aB T.bB T.lx (pv 4)))))));symm;intro x dx hx sJ vW;generalize FG:upd (upd H dx (.own x)) x (.ins T.dD dx [])=H1;have oQ:bE H H1:=by rw[<-FG];exact bp (bp (bE.refl H) sJ) hx
 have rX:H1 x=some (.ins T.dD dx []):=(congrFun FG.symm _).trans aq;have sy1:=sy.fr (aZ.same (M:=fun _=>False) lN oQ) (fun _ _ q=>q) (fun q=>q);refine⟨Y,x,dx,a,S,y,room,t,rfl,rX,lN x hx,sy1,gy,lN.same oQ,oQ _ _ ha,zp,Fz,hrm,fun Y2 H2 A f2 hA hAS gu=>⟨rfl,?_⟩⟩;have ra:=gu n;have eD:=ra.ob;rw[hA]at eD;have AA:∀(A:ji),A.x=x->True:=fun _ _=>trivial;rfl';refine⟨Y2,A,⟨y,t,[],[],room,n⟩,0,n,by rw[hA,ql],ra,fun Y3 H3 f3 er=> ?_⟩;have e0:({(⟨y,t,[],[],room,n⟩:eY)with steps:=n}:eY)=⟨y,t,[],[],room,n⟩:=rfl;rw[e0,ql]at er;rfl';generalize eX n ⟨y,t,[],[],room,n⟩=rr at er k⊢;rcases er with⟨dm3,S3,dx3,wr3,v1,v2,v4,v5,hS3,g3,tw3,ho3,sy3,hw3,wy⟩;rw[hA]at wy;symm;refine⟨by decide,fun p hp=> ?_⟩;have Pw:=a9 (o:=HO.lst [V.int (rr.1:Nat),V.int (rr.2.out.length:Nat),V.int ((n- rr.2.steps:Nat):Int)]) wy hp;have hw4:=a9 (o:=HO.lst [V.int (rr.1:Nat),V.int (rr.2.out.length:Nat),V.int ((n- rr.2.steps:Nat):Int)]) hw3 hp;have PD:upd H3 p (.lst [V.int (rr.1:Nat),V.int (rr.2.out.length:Nat),V.int ((n- rr.2.steps:Nat):Int)]) p=some (.lst [V.int (rr.1:Nat),V.int (rr.2.out.length:Nat),V.int ((n- rr.2.steps:Nat):Int)]):=aq;have sI:=aY (o:=HO.lst [V.int (rr.1:Nat),V.int (rr.2.out.length:Nat),V.int ((n- rr.2.steps:Nat):Int)]) hp;rfl';generalize upd H3 p (.lst [V.int (rr.1:Nat),V.int (rr.2.out.length:Nat),V.int ((n- rr.2.steps:Nat):Int)])=H4 at Pw hw4 PD sI⊢;clear wy hw3 eD;symm;refine⟨by rw[aT];lia,fun q hq=> ?_⟩;have Fo:=sI.trans (aY (o:=HO.lst ([V.int (rr.1:Nat),V.int (rr.2.out.length:Nat),V.int ((n- rr.2.steps:Nat):Int)]++iv rr.2.out)) hq);exact k Y3 _ S3 q ((((aZ.same lN oQ).trans (f2.mono fun _ q=>q.elim)).trans f3).trans (aZ.same dm3 Fo)) (sy3.fr (aZ.same (M:=fun _=>False) dm3 Fo) (fun _ _ q=>q) (fun q=>q)) g3 ho3 (hS3.trans hAS) (dm3 q (TM.bE.none sI hq)) aq
theorem qV(sq:kE K H a xs)(h:zF xs i=some v)(q:Q v H):afi K (.ref a) (.int i) H Q:=⟨a,xs,i,v,rfl,rfl,sq,h,q⟩
def pT(K:aA)(Y:iC)(H:Hp)(a:ao)(xs:List V):Prop:=(∃(o:Obj) (cV:Array ax) (n:Nat),K.lookup a=some o/\o.cls= .type "list"/\o.dict=none/\o.data= .seq cV n/\cV.size<=sizeLine/\cZ xs cV.toList)\/(∃o,H a=some (.PX o (.lst xs)))/\Y a=some .told
theorem pT.sq(h:pT K Y H a xs):kE K H a xs:=by
 obtain h|⟨h,_⟩:=h
 ·exact .inr h
 ·exact .inl (.inr h)
theorem pT.fr(h:pT K Y H a xs)(f:aZ M Y H Y' H')(n:¬M .told):pT K Y' H' a xs:=by
 obtain h|⟨⟨o,h⟩,t⟩:=h
 ·exact .inl h
 ·exact .inr ⟨⟨o,f.obj _ _ _ t n h⟩,f.tag _ _ t n⟩
theorem pT.upd(h:pT K Y H a xs)(hp:H p=some (.lst ys)):pT K Y (upd H p (.lst zs)) a xs:=by
 obtain h|⟨⟨o,h⟩,t⟩:=h
 ·exact .inl h
 ·exact .inr ⟨⟨o,(ai (cE h hp rfl)).trans h⟩,t⟩
theorem ZE{l:List Int}(h:∀z∈l,0<=z):l.map V.int=iv (l.map Mp):=by
 unfold iv;rw[gP];refine lG fun z hz=> ?_;show V.int z=V.int ((z.toNat:Nat):Int);rw[Int.toNat_of_nonneg (h z hz)]
theorem Od(g:md y)(h:1<=k/\k<=9):md (taken y k n):=by
 refine⟨g.dt,g.db,?_,g.to_,g.so,g.lo,g.sc,g.lc,g.cn⟩;have:=l5 y (fun j=>if j=k then(y.aside j).drop n else y.aside j) (k:=k) (b:=(y.aside k).drop n) h (if_pos rfl) (fun j hj=>if_neg hj);have hs:=g.AU;rw[aL]at this;show bK {y with aside:=fun j=>if j=k then(y.aside j).drop n else y.aside j}<=_;omega
structure XM(T:Top K mg)(ns:List Int)(a p:ao)(Y:iC)(H:Hp)(S:wC)(y:dw)(told:List Int)(i:Nat)(cs:List (List (List Int))):Prop where
 sc:pT K Y H a (ns.map V.int)
 ob:H p=some (.lst (told.map V.int))
 tg:Y p=some .told
 sy:jM T Y H S y
 gd:md y
 dm:Dm Y H
 ca:∃f,kT d7 f (ns.drop i)=some cs
 ak:cs.all IZ=true
 du:told++oo (lF cU y cs)=jh ns
inductive Di(T:Top K mg)(vs:List V)(H:Hp)(Q:VK)(E:XK):Prop
 |mk (a:ao) (ns:List Int) (_:vs=[.ref a]) (_:aaQ H) (_:kE K H a (ns.map V.int)) (_:oh ns=true) (_:∀H' p,H' p=some (.lst ((jh ns).map V.int))->Q (.ref p) H')
theorem LO{ns:List Int}(h:oh ns=true):∃cs,kT d7 ns.length ns=some cs/\cs.all IZ=true/\jh ns=oo (lF cU kR cs)/\(jh ns).length<=1000300:=by
 unfold oh abA at h;unfold jh abA
 cases hc:kT d7 ns.length ns with
 |none=>rw[hc]at h;cases h
 |some cs=>
  rw[hc]at h;dsimp only at h⊢;have e:=Qz hc;rw[e]at h⊢;rw[bX]at h;obtain⟨h1,h2⟩:=h;unfold akd at h2;rw[bX,bX]at h2;have h3:=of_decide_eq_true h2.2;have h4:=of_decide_eq_true h1;exists cs,rfl,h2.1.1,rfl;have:=zk cs kR;unfold HQ at this;show (oo (lF cU kR cs)).length<=_;have h3':wD kR cs<1000000:=h3;rw[this];omega
theorem Zd(h:k (.bl true) H):qEq (.int a) (.int a) H k:=by rw[afp,decide_eq_true rfl];exact h
theorem Zn(h:k b):Vz (.bl b) k:=h
theorem acQ{A B:Prop}(h:A):if true=true then A else B:=gB rfl h
theorem Nw(D:TopD P w T):T.answers.Ok P w mg ag iN 15 (Di T):=by
 rcases h:T.answers.jG ["calls","told","system","place","answer","behind"]with⟨a,ns,rfl,hO,hS,ajT,k⟩;exists _,(ah (bh 1 nd0 (cH c9)) (ah (bh 2 nd0 (DM T.G3 (vm T D) (hr.mono (by decide)) rfl T.Gk T.kz.b .nil aa8)) (ah (bh 3 nd0 aO) (ah (gx cA (aR ki (pv 3) (jJ tZ rfl T.Bg mY (p1 (pv 0)))) (ah (ck (aR d9 (c5 qE (pv 0) (pv 3)) (bC rfl T.vt)) (ah (bh 2 nd0 (DM T.G3 (vm T D) (hr.mono (by decide)) rfl T.Gk T.kz.b .nil aa8)) (ah (bh 4 nd0 (cH (p1 aO))) (aj (gR 3 nd0 aO iG)))) (aj (ck (aR d9 (c5 qE (pv 0) (pv 3)) (bC rfl T.xP)) (ah (bh 5 nd0 (cu dz (cu dz (pv 3) aO) (c5 qE (pv 0) (cu dz (pv 3) aO)))) (ah (bh 4 nd0 (cG T.Ds (KC T D) hr bq (aV (pv 2) (aV (c5 qE (pv 0) (cu dz (pv 3) aO)) (aV (c5 qE (pv 0) (cu dz (pv 3) aO)) (p1 (gm O3 (pv 0) (d4 (cu dz (pv 3) aO)) (d4 (pv 5))))))))) (aj (bh 3 nd0 (pv 5))))) (ah (bh 4 nd0 (cM (pv 2) T.bJ T.ub (BS T) hr bq (aV (c5 qE (pv 0) (cu dz (pv 3) aO)) (p1 (c5 qE (pv 0) (cu dz (pv 3) aO)))))) (aj (gR 3 nd0 aO iG)))))) (ah (bx (j0 aJ bI PySem.F.type_list_append fg (pv 1) (p1 (cL T (pv 4))))) (aj (bx (j0 aJ dR PySem.F.type_list_extend jP (pv 1) (p1 (pv 4)))))))) (aj (a6 (pv 1)))))));symm;refine⟨aC _,fun p hp=> ?_⟩;rfl';intro x dx hx sJ vW;have RN:=(aM hx).1;have hxH:=(aM hx).2;have hdp:=(aM sJ).1;have Wr:=(aM sJ).2;generalize FG:upd (upd (upd H p (.lst [])) dx (.own x)) x (.ins T.cg dx [])=H1;have oQ:bE H H1:=by rw[<-FG];exact bp (bp (bp (bE.refl H) hp) Wr) hxH
 have rX:H1 x=some (.ins T.cg dx []):=(congrFun FG.symm _).trans aq;have AE:H1 p=some (.lst []):=(congrFun FG.symm _).trans ((ai (aD RN)).trans ((ai (aD hdp)).trans aq));refine wN fun g_ k_=> ?_
 obtain⟨Y0,r0,RR,ajc,sc0⟩:∃Y:iC,Dm Y H/\Y p=none/\Y x=none/\pT K Y H a (ns.map V.int):=by
  obtain(h|⟨o,h⟩)|h:=hS
  ·obtain z|⟨o,xs,z⟩:=hO a
   ·rw[h]at z;cases z
   ·rw[h]at z;cases z
  ·refine⟨fO (fun _=>none) a .told,fun b hb=>bw (cE hb h rfl),bw (cE hp h rfl),bw (cE hxH h rfl),.inr ⟨⟨o,h⟩,bY⟩⟩
  ·exact⟨fun _=>none,fun _ _=>rfl,rfl,rfl,.inl h⟩
 refine wO k_ ?_;clear k_ g_;have f1:=gr (p:=p) (r:=Tag.told) (aZ.same (M:=fun _=>False) r0 oQ) RR AE;refine⟨fO Y0 p .told,x,dx,rfl,rX,by rw[bw RN];exact ajc,f1.dm,fun Y2 H2 S2 hS2 f2 sy2=>⟨rfl,?_⟩⟩;rcases LO ajT with⟨cs0,hc0,ajV,ajH,hlen⟩;have aj7:XM T ns a p Y2 H2 S2 kR [] 0 cs0:=⟨(sc0.fr f1 (fun q=>q)).fr f2 (by rintro(e|e|⟨_,e⟩)<;>cases e),f2.obj _ _ _ bY (by rintro(e|e|⟨_,e⟩)<;>cases e) AE,f2.tag _ _ bY (by rintro(e|e|⟨_,e⟩)<;>cases e),sy2,Ec,f2.dm,⟨_,hc0⟩,ajV,ajH.symm⟩;rfl';(try rw[<-hS2])
 clear rX AE FG hS2;exists fun m Z H'=>∃Y S y told i cs u v,Z=[some (V.ref a),some (V.ref p),some (V.ref S.x),some (V.int (i:Nat)),u,v]/\i+m=ns.length/\XM T ns a p Y H' S y told i cs,⟨_,Y2,S2,_,[],0,cs0,none,none,rfl,ql _,aj7⟩;intro m Z H3 w_;rcases w_ with⟨Y,S,y,told,i,cs,u,v,rfl,him,st⟩;symm;exists a,_,rfl,.inl st.sc.sq;(try rw[aN])
 obtain⟨f,L9⟩:=st.ca
 by_cases hi:i<ns.length
 ·refine gB (by omega) ?_;exists _,fun _ _ h=>h;refine wN fun g_ k_=> ?_
  obtain⟨q,r,hqr⟩:∃q r,ns.drop i=q::r:=by
   cases h:ns.drop i with
   |nil=>rw[Qp]at h;omega
   |cons q r=>exact⟨q,r,rfl⟩
  have nat:∀j,ns[i+j]? =(q::r)[j]? :=fun j=>by rw[<-hqr,qO]
  have ndr:∀j,ns.drop (i+j)=(q::r).drop j:=fun j=>by rw[<-hqr,jv]
  rw[hqr]at L9;obtain⟨f',c,t,cs',rfl,agi,Py,rfl⟩:=Em L9;refine wO k_ ?_;clear k_ g_;have hak:=st.ak;rw[ma,bX]at hak;have hdu:=st.du;unfold lF at hdu;rw[F7]at hdu
  have tail:∀(an:List Int) (Y':iC) (H':Hp) (S':wC) (b:ao) (j:Nat) (v':Option V),(cU y c).2=an->pT K Y' H' a (ns.map V.int)->H' p=some (.lst (told.map V.int))->Y' p=some .told->jM T Y' H' S' (cU y c).1->md (cU y c).1->Dm Y' H'->i<j->ns.drop j=t->j<=ns.length->
   (told.map V.int).length<sizeLine/\(told.map V.int++[V.int (((an.map V.int).length:Nat):Int)]).length+(an.map V.int).length<=sizeLine/\∃m',m'<m/\∃Y2 S2 y2 aeM i2 cs2 u2 v2,[some (V.ref a),some (V.ref p),some (V.ref S'.x),some (V.int (j:Nat)),some (V.ref b),v']=[some (V.ref a),some (V.ref p),some (V.ref (wC.x S2)),some (V.int (i2:Nat)),u2,v2]/\i2+m'=ns.length/\XM T ns a p Y2 (upd H' p (.lst (told.map V.int++[V.int (((an.map V.int).length:Nat):Int)]++an.map V.int))) S2 y2 aeM i2 cs2:=by
   rintro an Y' H' S' b j v' rfl sc eD htg vV Z5 lN Z0 hdj EM;have hl:=congrArg cS hdu;rw[aF,aF,au]at hl;refine⟨?_,?_,ns.length- j,by omega,Y',S',_,told++((((cU y c).2.length:Nat):Int)::(cU y c).2),j,cs',_,_,rfl,by omega,sc.upd eD,?_,htg,?_,Z5,?_,⟨f',?_⟩,hak.2,?_⟩
   ·(try rw[aN,aT]);omega
   ·(try rw[aF,aN,aN,aT])
    have e:([V.int (((cU y c).2.length:Nat):Int)]:List V).length=1:=rfl;(try rw[e]);omega
   ·(try rw[aq,aN,bL,bu]);rfl
   ·exact vV.fr (aZ.one (M:=fun t=>t= .told) lN htg rfl) (fun r h e=>by subst e;obtain h|h|⟨_,h⟩|(h|h|⟨_,h⟩):=h<;>cases h) (by intro e;cases e)
   ·exact(aZ.one (M:=fun t=>t= .told) lN htg rfl).dm
   ·(try rw[hdj]);exact Py
   ·(try rw[<-hdu,bu])
  have eD:=st.ob;obtain⟨he,rfl⟩|⟨b,mm,n,r',he,hn0,hnl,rfl,rfl⟩|⟨b,mm,he,rfl⟩:=Eo agi
  ·cases he
   have XR:=j6 (nat 0);rfl';refine qV st.sc.sq XR ?_;clear eD;symm;intro x2 dx2 tS ajG ac5;generalize Tn:upd (upd H3 dx2 (.own x2)) x2 (.ins T.cg dx2 [])=H4;have sI:bE H3 H4:=by rw[<-Tn];exact bp (bp (bE.refl H3) ajG) tS
   have Pw:H4 x2=some (.ins T.cg dx2 []):=(congrFun Tn.symm _).trans aq;have g4:=aZ.same (M:=fun _=>False) st.dm sI;refine⟨Y,x2,dx2,rfl,Pw,st.dm x2 tS,g4.dm,fun Y5 H5 S5 hS5 f5 sy5=>⟨rfl,?_⟩⟩;clear Pw Tn;rfl';refine⟨by decide,fun b hb=> ?_⟩;have nt:¬NM .told:=by rintro(e|e|⟨_,e⟩)<;>cases e
   have sm6:=aY (o:=HO.lst [V.int 0]) hb;have g6:=aZ.same (M:=fun _=>False) f5.dm sm6;have hb6:upd H5 b (.lst [V.int 0]) b=some (.lst [V.int 0]):=aq;have hp6:=sm6 _ _ (f5.obj _ _ _ (g4.tag _ _ st.tg (fun q=>q)) nt (sI _ _ st.ob));have Ub:=f5.tag _ _ (g4.tag _ _ st.tg (fun q=>q)) nt;have sc6:=((st.sc.fr g4 (fun q=>q)).fr f5 nt).fr g6 (fun q=>q);have sy6:=sy5.fr g6 (fun _ _ q=>q) (fun q=>q);have hbp:b≠p:=fun e=>by rw[f5.dm p (e▸hb)]at Ub;cases Ub
   generalize upd H5 b (.lst [V.int 0])=H6 at hb6 hp6 sm6 g6 sc6 sy6⊢;have z:=tail [0] Y5 H6 S5 b (i+1) v rfl sc6 hp6 Ub sy6 Ec g6.dm (by omega) (ndr 1) (by omega);rw[hS5]at z;replace z:=FV z;symm;exists z.down.1;rfl';exists z.down.2.1;exact z.down.2.2
  ·cases he
   have XR:=j6 (nat 0);rfl';refine qV st.sc.sq XR ?_;clear eD;symm;refine gn (by decide) ?_;rfl';refine qV st.sc.sq XR ?_;refine Zd ?_;refine Zn ?_;refine acQ ?_;symm;have ix3:zF (ns.map V.int) ((i:Int)+3)=some (V.int n):=j6 (nat 3);have ix1:zF (ns.map V.int) ((i:Int)+1)=some (V.int b):=j6 (nat 1);have ix2:zF (ns.map V.int) ((i:Int)+2)=some (V.int mm):=j6 (nat 2);refine qV st.sc.sq ix3 ?_;clear ix3;symm;refine qV st.sc.sq ix1 ?_;clear ix1;refine qV st.sc.sq ix2 ?_;clear ix2;refine⟨a,_,rfl,st.sc.sq,fun tx NR=> ?_⟩;have hk1:(((r'.take n.toNat).all (fun(z:Int)=>GU z 8)&&decide (((r'.take n.toNat).length:Int)<=65536))&&((decide (0<=b)&&decide (b<=1000000))&&(decide (0<=mm)&&decide (mm<=65536))))=true:=hak.1;rw[bX,bX,bX,bX,bX]at hk1;refine wN fun g_ k_=> ?_;obtain⟨⟨hby,zp⟩,⟨hb0,Ip⟩,Ta,EL⟩:=hk1;have hb0:=of_decide_eq_true hb0;have Ta:=of_decide_eq_true Ta;have EL:=of_decide_eq_true EL;have zp:=of_decide_eq_true zp;obtain⟨bn,rfl⟩:=mV hb0;obtain⟨mn,rfl⟩:=mV Ta;obtain⟨nn,rfl⟩:=mV hn0;refine wO k_ ?_;clear k_ g_;rw[dk]at hnl hby zp
   have af4:∀z∈r'.take nn,0<=z/\z<256:=fun z hz=>by
    have h:=uh.mp hby z hz;unfold GU at h;rw[bX]at h;exact⟨of_decide_eq_true h.1,of_decide_eq_true h.2⟩
   have kJ:lr (ns.map V.int) (some ((i:Int)+4)) (some ((i:Int)+4+(nn:Int)))=iv ((r'.take nn).map Mp):=by
    have e:=pS (l:=ns) (i:=i+4) (j:=i+4+nn);rw[cF,ndr 4]at e;(try rw[<-ZE (fun z hz=>(af4 z hz).1)])
    exact e
   (try rw[kJ])
   generalize htt:(r'.take nn).map Mp=tt at*;have sI:=aY (o:=HO.lst (iv tt)) NR;have ZS:upd H3 tx (.lst (iv tt)) tx=some (.lst (iv tt)):=aq;have g4:=aZ.same (M:=fun _=>False) st.dm sI;generalize upd H3 tx (.lst (iv tt))=H4 at sI ZS g4⊢;have acT:tt.length<=65536:=by rw[<-htt,aN];omega
   have Fz:Sm tt:=by
    intro c hc;rw[<-htt,eh]at hc;rcases hc with⟨z,hz,rfl⟩;have:=af4 z hz;omega
   have nA:=UH y (bn:Int) (mn:Int) (r'.take nn);rw[dk,dk,htt]at nA;refine⟨Y,tx,S,y,bn,mn,tt,rfl,st.sy.fr g4 (fun _ _ q=>q) (fun q=>q),st.gd,g4.dm,ZS,acT,Fz,by omega,fun Y5 H5 S5 b f5 sy5 gd5 ho5 hS5 hb5 ada=> ?_⟩;generalize hq:eX bn ⟨y,tt,[],[],mn,bn⟩=rr at sy5 gd5 ho5 ada nA;have nt:¬rD .told:=fun h=>h rfl;have PB:=f5.obj _ _ _ (g4.tag _ _ st.tg (fun q=>q)) nt (sI _ _ st.ob);have Ub:=f5.tag _ _ (g4.tag _ _ st.tg (fun q=>q)) nt;have sc5:=(st.sc.fr g4 (fun q=>q)).fr f5 nt;have hbp:b≠p:=fun e=>by rw[<-e,hb5]at Ub;cases Ub
   rw[dk]at tail;rw[nA]at tail
   have hb6:H5 b=some (.lst (([(rr.1:Int),(rr.2.out.length:Int),((bn- rr.2.steps:Nat):Int)]++rr.2.out.map fun(n:Nat)=>(n:Int)).map V.int)):=by
    (try rw[ada,eS]);rfl
   have z:=tail ([(rr.1:Int),(rr.2.out.length:Int),((bn- rr.2.steps:Nat):Int)]++rr.2.out.map fun(n:Nat)=>(n:Int)) Y5 H5 S5 b (i+4+nn) (some (V.int ((i:Int)+4+(nn:Int)))) rfl sc5 PB Ub sy5 gd5 f5.dm (by omega) (by rw[jg,ndr];show LV (4+nn) _=_;rw[B9,jo,jo,jo,jo]) (by
    have e:=congrArg cS hqr;rw[aL,au,au,au,au]at e;omega)
   rw[hS5]at z;replace z:=FV z;generalize ([(rr.1:Int),(rr.2.out.length:Int),((bn- rr.2.steps:Nat):Int)]++rr.2.out.map fun(n:Nat)=>(n:Int))=an at hb6 z;clear ada htt nA tail XR hq hdu L9 Py kJ ZS;symm;exists z.down.1;rfl';exists z.down.2.1;have zz:=z.down.2.2;rw[show ((i+4+nn:Nat):Int)=(i:Int)+4+(nn:Int) by omega]at zz;exact zz
  ·cases he
   have XR:=j6 (nat 0);rfl';refine qV st.sc.sq XR ?_;clear eD;symm;refine gn (by decide) ?_;rfl';refine qV st.sc.sq XR ?_;have ZT:=st.sy.ob;symm;refine gn (by decide) ?_;have ix1:zF (ns.map V.int) ((i:Int)+1)=some (V.int b):=j6 (nat 1);have ix2:zF (ns.map V.int) ((i:Int)+2)=some (V.int mm):=j6 (nat 2);rfl';refine qV st.sc.sq ix1 ?_;refine qV st.sc.sq ix2 ?_;clear ix1 ix2;have hk1:(akc b&&(decide (0<=mm)&&decide (mm<=65536)))=true:=hak.1;rw[bX,bX]at hk1;refine wN fun g_ k_=> ?_;obtain⟨_,Ta,EL⟩:=hk1;have Ta:=of_decide_eq_true Ta;have EL:=of_decide_eq_true EL;obtain⟨mn,rfl⟩:=mV Ta;refine wO k_ ?_;clear k_ g_;exists Y,S,y,b,mn,rfl,st.sy,st.dm,st.gd.AU;have nA:=MS y b (mn:Int);rw[dk]at nA
   have hle:i+3<=ns.length:=by
    have e:=congrArg cS hqr;rw[aL,au,au,au]at e;omega
   by_cases hb:b<1\/9<b
   ·refine gB hb ?_;rw[if_pos hb]at nA;rw[nA]at tail;intro H5 q Fo hq hq5;have g5:=aZ.same (M:=fun _=>False) st.dm Fo;have PB:=Fo _ _ st.ob;have Wd:q≠p:=cE hq st.ob rfl;have z:=tail [-2] Y H5 S q (i+3) v rfl (st.sc.fr g5 (fun q=>q)) PB st.tg (st.sy.fr g5 (fun _ _ q=>q) (fun q=>q)) st.gd g5.dm (by omega) (ndr 3) hle;replace z:=FV z;have hq6:H5 q=some (.lst (([-2]:List Int).map V.int)):=hq5;generalize ([-2]:List Int)=an at hq6 z;clear ZT tail XR nA hdu L9 Py hq5;symm;exists z.down.1;rfl';exists z.down.2.1;exact z.down.2.2
   ·refine gn hb ?_;rw[if_neg hb]at nA;rw[nA]at tail;intro Y5 H5 S5 q f5 sy5 hS5 hq5 afT;have nt:¬Cd .told:=by rintro(e|e|⟨_,e⟩)<;>cases e
    have PB:=f5.obj _ _ _ st.tg nt st.ob;have Ub:=f5.tag _ _ st.tg nt;have Wd:q≠p:=fun e=>by rw[<-e,hq5]at Ub;cases Ub
    have z:=tail ((((y.aside b.toNat).take mn).length:Int)::((y.aside b.toNat).take mn).map fun(n:Nat)=>(n:Int)) Y5 H5 S5 q (i+3) v rfl (st.sc.fr f5 nt) PB Ub sy5 (Od st.gd (by omega)) f5.dm (by omega) (ndr 3) hle;rw[hS5]at z;replace z:=FV z
    have hq6:H5 q=some (.lst (((((y.aside b.toNat).take mn).length:Int)::((y.aside b.toNat).take mn).map fun(n:Nat)=>(n:Int)).map V.int)):=by
     (try rw[afT,eS]);rfl
    generalize ((((y.aside b.toNat).take mn).length:Int)::((y.aside b.toNat).take mn).map fun(n:Nat)=>(n:Int))=an at hq6 z;clear ZT tail XR nA hdu L9 Py afT;symm;exists z.down.1;rfl';exists z.down.2.1;have zz:=z.down.2.2;rw[show ((i+3:Nat):Int)=(i:Int)+3 from rfl]at zz;exact zz
 ·refine gn (by omega) ?_;have ajQ:=FV L9;clear L9;rfl';replace L9:=ajQ.down;rw[bF (by omega),Sx]at L9
  cases L9
  have:=st.du;have e:oo (lF cU y [])=[]:=rfl;rw[e,fU]at this;exact k H3 p (this▸st.ob)
end
end
end TM
set_option tactic.hygienic true
namespace TM
open PySem PySem.Spec PyProof.Rows L2
section
theorem RB{K:aA}{s₁:az}{vs:List ax}{ns an:List Int}
 (KX:K.In s₁.heap) (ZX:s₁.heap.Ns jn mg) (hb:s₁.heap.Ns adT mb) (hbb:∀x:Str,x≠"__name__"->mb x=oM x) (aju:s₁.heap.NoLimit) (hg:s₁.gens= #[])
 (ha:s₁.heap.get? a=some {cls:=.type "list",data:=.seq vs.toArray}) (hi:FZ vs ns) (hl:ns.length<=sizeLine) (hr:jN k Mo)
 (F:∀ag:dg,K.In ag->ag.Ns jn mg->eR P w K mg ag iN k fa fd [x] sp) (agk:∀(s:az) (u:ax),K.In s.heap->XD s fd ⟨[u],[]⟩ [(x,u)])
 (L4:∀H:Hp,aaQ H->kE K H a (ns.map V.int)->sp [.ref a] H (fun v H'=>∃p,v= .ref p/\H' p=some (.lst (an.map V.int))) fun _ _ _=>False):
 uL (bf P w) Mo (.call (.ref fa) ⟨[.ref a],[]⟩) (fun r s'=>(∃p us n,r= .ok (.ret (.ref p))/\s'.heap.get? p=some {cls:=.type "list",data:=.seq (aey us) n}/\cZ (an.map V.int) us)/\OldK s₁.heap s'.heap/\s'.os=s₁.os/\uE s'.gens) s₁:=by
 have rv:=F5 hi;have aiS:=hi.length
 have core:∀H:Hp,aaQ H->kE K H a (ns.map V.int)->vO P w H s₁.heap->(∀b,H b≠none->b=a)->(H a≠none->K.lookup a=none)->
  uL (bf P w) Mo (.call (.ref fa) ⟨[.ref a],[]⟩) (fun r s'=>(∃p us n,r= .ok (.ret (.ref p))/\s'.heap.get? p=some {cls:=.type "list",data:=.seq (aey us) n}/\cZ (an.map V.int) us)/\OldK s₁.heap s'.heap/\s'.os=s₁.os/\uE s'.gens) s₁:=by
  intro H hO hS fW hA hK;have Qk:∀{b:ao} {o:Obj},s₁.heap.get? b=some o->H b=none->(Il s₁.heap H).get? b=some o:=fun e n=>Wn e n
  have noA:∀{b:ao} {o:Obj} {es:Array mh} {ep:Nat},s₁.heap.get? b=some o->o.data= .dict es ep->H b=none:=fun{b o es ep} e d=>by
   cases q:H b with
   |none=>rfl
   |some u=>
    have e':b=a:=hA b (by rw[q];simp);subst e';rw[ha]at e;cases e;have d':Data.seq vs.toArray _=Data.dict es ep:=d
    cases d'
  have nsK:∀{b:ao} {m:Str->Option ax},s₁.heap.Ns b m->(Il s₁.heap H).Ns b m:=fun{b m} ⟨o,es,ep,e,d,r⟩=>⟨o,es,ep,Qk e (noA e d),d,r⟩
  have hKb:K.In (Il s₁.heap H):=fun b o e=>Qk (KX b o e) (by
   cases q:H b with
   |none=>rfl
   |some u=>
    have e':b=a:=hA b (by rw[q];simp);subst e';rw[hK (by rw[q];simp)]at e;cases e)
  have hM:Mod K mg (Il s₁.heap H):=⟨hKb,nsK ZX,⟨mb,nsK hb,hbb⟩,let ⟨mc,h1,h2⟩:=aju;⟨mc,nsK h1,h2⟩⟩;have e0:OM P w K mg (Il s₁.heap H) Mo [] s₁ H:=⟨rfl,hM,fun b o e=>Zu e,Ca (RS _ _),trivial,fun b hb=>absurd (show b∈([]:List ao) from hb) (by simp),fW,.of_eq hg⟩;refine oP ((F _ hKb (nsK ZX)).run Mo [] s₁ H ⟨[.ref a],[]⟩ [.ref a] [.ref a] _ _ hr e0 (agk s₁ (.ref a) KX) (.cons rfl .nil) (L4 H hO hS)) fun r s' h=> ?_
  cases r with
  |error e=>exact b7 h
  |ok fl=>
   cases fl with
   |next=>exact b7 h
   |brk=>exact b7 h
   |cont=>exact b7 h
   |ret u=>
    obtain⟨v,H',os,bare,un,afZ,r',q⟩:=h;obtain⟨p,q1,q2⟩:∃p,v= .ref p/\H' p=some (.lst (an.map V.int)):=q;subst q1;obtain rfl:u=bM p:=r';obtain⟨_,us,n,hv,hp⟩:=afZ p _ q2;refine⟨⟨p,us,n,rfl,hp,hv⟩,OldK.of_keep fun b o e=> ?_,os,bare⟩
    cases q:H b with
    |none=>exact un.keep b o e q (by intro z;exact absurd (show b∈([]:List ao) from z) (by simp)) (by simp)
    |some u=>
     obtain z|⟨ob,xs,z⟩:=hO b
     ·rw[q]at z;cases z
     ·have z2:=un.xX b ob _ z;obtain⟨e1,_⟩:=fW b _ z;obtain⟨e2,_⟩:=afZ b _ z2;rw[e]at e1;cases e1;exact e2
 cases hk:K.lookup a with
 |some o=>
  have e:=KX a o hk;rw[ha]at e
  cases e
  refine core (fun _=>none) (fun _=>.inl rfl) (.inr ⟨_,vs.toArray,_,hk,rfl,rfl,rfl,by rw[aW,aiS];exact hl,by simpa using rv⟩) (fun b u z=>by have z':(none:Option HO)=some u:=z;cases z') (fun b z=>absurd rfl z) fun z=>absurd rfl z
 |none=>
  refine core (fun b=>if b=a then some (.PX {cls:=.type "list",data:=.seq vs.toArray} (.lst (ns.map V.int)))else none) (fun b=> ?_) (.inl (.inr ⟨{cls:=.type "list",data:=.seq vs.toArray},if_pos rfl⟩)) (fun b u z=> ?_) (fun b z=> ?_) fun _=>hk
  ·by_cases hb:b=a
   ·exact .inr ⟨_,_,if_pos hb⟩
   ·exact .inl (if_neg hb)
  ·by_cases hb:b=a
   ·have z':=(if_pos hb).symm.trans z
    cases z'
    subst hb;exact⟨ha,by rw[aN];exact hl,vs,_,rv,ha⟩
   ·have z':=(if_neg hb).symm.trans z
    cases z'
  ·by_cases hb:b=a
   ·exact hb
   ·exact absurd (if_neg hb) z
theorem Dx:∀{an:List Int} {us:List ax},cZ (an.map V.int) us->PySem.W.ReadsAllW [] cl h us (an.map GS) []
 |[],us,hv=>by cases hv;exact .nil
 |z::an,us,hv=>by
  cases hv with
  |cons r hr=>
   obtain⟨t,rfl⟩:=r;exact aaF (as:=[]) (bs:=[]) (.int z t) (Dx hr)
theorem QA{k:Nat}{XP:(Str->Option ax)->dg->Prop}{YP:cP->dg->Prop}{d:DefRec}{K:Params->aA}(hdf:d.params.defaults=[])(hr:jN k Mo)
 (hY:∀(w:cP) (h:dg),YP w h->(K w.params).In h)
 (F:∀(w:cP) (mg:Str->Option ax) (fa:ao) (h:dg),(K w.params).In h->h.Ns jn mg->mg d.name=some (.ref fa)->
  ∃fd:gq,(∀(s:az) (u:ax),(K w.params).In s.heap->XD s fd ⟨[u],[]⟩ [(x,u)])/\
   ∃sp:Sp,(∀ag:dg,(K w.params).In ag->ag.Ns jn mg->eR jm w (K w.params) mg ag iN k fa fd [x] sp)/\
    ∀(H:Hp) (a:ao) (ns:List Int),oh ns=true->aaQ H->kE (K w.params) H a (ns.map V.int)->sp [.ref a] H (fun v H'=>∃p,v= .ref p/\H' p=some (.lst ((jh ns).map V.int))) fun _ _ _=>False):
 PySem.W.WalkOS q loose XP YP jk d [] (fun f vs=>PySem.call f vs):=by
 intro w s₀ s₁ mg mb G Y fa o pm cd doc dV kV ho hd RW hD hmg hg args vals as ajh alq XX Gu hlo;obtain⟨⟨ns,u⟩,agf,adb⟩:=PySem.W.os_pre_some ajh;obtain⟨rfl,hwi⟩:=agD _ _ _ agf
 have hlen:ns.length<=30000:=by
  have h1:(EB 0 30000 (agC (-2147483648) 2147483647) ns&&true)=true:=hwi;rw[Bool.and_true]at h1;unfold EB agB at h1;rw[bX,agA]at h1;exact h1.1.2
 have ai6:PySem.W.WellAll w.params s₁.heap vals [agz (ns.map GS)]:=Gu
 cases ai6 with
 |cons w1 w2=>
  cases w2
  cases w1 with
  |list ajn FD=>
   have hints:=Att.BZ ns _ FD;have KX:=hY w _ Y;obtain⟨fd,hb,sp,hF,L4⟩:=F w mg fa _ KX G.T.g hmg;refine PySem.W.enter_call (oP (RB (an:=jh ns) KX G.T.g G.T.b G.T.builtins G.T.nolimit hg ajn hints (by rw[aT];omega) hr hF hb (fun H hO hS=>L4 H _ ns adb hO hS)) fun r s' hq=> ?_);obtain⟨⟨p,us,n,rfl,hp,hv⟩,h2,h3,h4⟩:=hq;exact⟨.inl ⟨.ref p,.list ((jh ns).map .int),_,rfl,fun _=>rfl,.list hp rfl rfl (Dx hv),PySem.W.os_post (r:=jk) agf (PySem.W.same_self _),fun h=>by cases h⟩,h2,h3,h4⟩
section
variable{K:aA}{mg:Str->Option ax}{h:dg}
theorem dF(KX:K.In h)(G:h.Ns jn mg)(e:zJ K jn n=some (some (.int i t))):∃t,mg n=some (.int i t):=⟨t,Yq KX G e⟩
theorem acd(m:mg x=some (.ref C))(l:K.lookup C=some (excClassObj nm q C N bs bm hd sn sub ab col dd k0 k1 k2 k3 k5 "Exception.__new__"))(t:Xz K [.type "Exception",.type "BaseException",.type "object"] bm=true)(o:Xy K N=true)(n:zJ K N "__init__"=some none):Cc K mg x C:=
 ⟨m,_,_,_,_,_,_,_,_,_,_,_,_,_,_,_,_,l,t,o,n⟩
def aaz:Nat->(List ax->Prop)->Prop
 |0,P=>P []
 |n+1,P=>∀a,aaz n fun l=>P (a::l)
theorem LP(n:Nat):∀(P:List ax->Prop),aaz n P->∀us:List ax,us.length=n->P us:=by
 induction n with
 |zero=>
  intro P h us e
  cases us with
  |nil=>exact h
  |cons=>cases e
 |succ n ih=>
  intro P h us e
  cases us with
  |nil=>cases e
  |cons a us=>exact ih _ (h a) us (GX e)
theorem adv{x:Str}{i:Nat}{ps:List Str}{f:ao}{oc:ax}{od an:Option ao}{Q5:Array (Option ax)}{kV doc pm nV ct:ax}(KX:K.In h)(G:h.Ns jn mg)(e:zJ K jn x=some (some (.ref f)))
 (l:K.lookup f=some ⟨oc,od,.func (iu x x (qJ (top i)) (lC (top i)) (dv (top i)) .none kV doc pm an nV ct),Q5⟩) (c:pZ K nV x=true) (k:bW K (.ref f)=true)
 (b:∀(kV doc pm:ax) (an:Option ao) (nV ct:ax),aaz ps.length fun us=>aaO (iu x x (qJ (top i)) (lC (top i)) (dv (top i)) .none kV doc pm an nV ct) ⟨us,[]⟩=pure (ps.zip us)):∃t:jU K mg x i ps,t.f=f:=
 ⟨⟨⟨f,_,IC l c k,(IC l c k).binds fun kV doc pm an nV ct us h=>LP _ _ (b kV doc pm an nV ct) us h⟩,Yq KX G e⟩,rfl⟩
theorem acC{C:ao}{x aG:Str}{i j:Nat}{ps:List Str}{f:ao}{oc:ax}{od an:Option ao}{Q5:Array (Option ax)}{kV doc pm nV ct:ax}(e:eP K (.ref C) x=some (some (.ref f)))(n:zP K (.ref f)=true)
 (l:K.lookup f=some ⟨oc,od,.func (iu x aG (qJ (inClass (top i) j)) (lC (inClass (top i) j)) (dv (inClass (top i) j)) .none kV doc pm an nV ct),Q5⟩) (c:pZ K nV aG=true) (k:bW K (.ref f)=true)
 (b:∀(kV doc pm:ax) (an:Option ao) (nV ct:ax),aaz ps.length fun us=>aaO (iu x aG (qJ (inClass (top i) j)) (lC (inClass (top i) j)) (dv (inClass (top i) j)) .none kV doc pm an nV ct) ⟨us,[]⟩=pure (ps.zip us)):∃t:oz K C x aG i j ps,t.f=f:=
 ⟨⟨⟨f,_,IC l c k,(IC l c k).binds fun kV doc pm an nV ct us h=>LP _ _ (b kV doc pm an nV ct) us h⟩,⟨e,n,k⟩⟩,rfl⟩
abbrev Gx(KX:K.In h)(mg:Str->Option ax)(x:Str)(i:Nat)(ps:List Str)(f:ao):Prop:=∃t:jU (L2.qr KX) mg x i ps,t.f=f
abbrev Mx(KX:K.In h)(C:ao)(x aG:Str)(i j:Nat)(ps:List Str)(f:ao):Prop:=∃t:oz (L2.qr KX) C x aG i j ps,t.f=f
theorem abS{o:Obj}{cV:List ax}(l:K.lookup a=some o)(c:o.cls= .type "tuple")(d:o.data= .seq cV.toArray n)(z:cV.length<=sizeLine)(v:cZ xs cV):∀H:Hp,l6 K H a xs:=fun _=>.inr ⟨o,cV.toArray,n,l,c,d,z,v⟩
inductive EH(w:cP):List mh->List (Key×V)->Prop
 |nil:EH w [] []
 |cons {h:Int} {k v:ax} {key:Key} {x:V} {es:List mh} {kvs:List (Key×V)}:zm key k=true->h=afE w key->RelV x v->EH w es kvs->EH w (⟨h,k,v⟩::es) ((key,x)::kvs)
theorem agt{kvs:List (Key×V)}(d:EH w es kvs):∃vs,(∀e∈es,∃k,(de P w).is k e.key=true/\e.hash=(de P w).hash k)/\Pairs (de P w) es vs/\KV kvs vs/\vs.map (·.1)=kvs.map (·.1):=by
 induction d with
 |nil=>exact⟨[],fun _ h=>absurd h dh,.nil,.nil,rfl⟩
 | @cons h k v key x es kvs h1 h2 h3 _ ih=>
   obtain⟨vs,a,b,c,e⟩:=ih;refine⟨(key,v)::vs,fun z hz=> ?_,.cons h1 rfl b,.cons ⟨rfl,h3⟩ c,by rw[a4,a4,e]⟩;obtain rfl|hz:=a0.mp hz
   ·exact⟨key,h1,h2⟩
   ·exact a z hz
theorem acN{es:List mh}{kvs:List (Key×V)}(ns:(a==eE)=false)(l:K.lookup a=some ⟨.type "dict",none,.dict es.toArray ep,#[]⟩)(d:EH w es kvs)(nd:(kvs.map (·.1)).Nodup):Yu P w K a kvs:=by
 obtain⟨vs,h1,h2,h3,h4⟩:=agt (P:=P) d;exact⟨ns,_,vs,l,⟨_,ep,⟨rfl,rfl,rfl⟩,rfl,fun e he=>h1 e (by simpa using he),h2,by rw[h4];exact nd⟩,h3⟩
inductive Ez(P:bD)(w:cP)(K:aA):List mh->List (List Key×V)->Prop
 |nil:Ez P w K [] []
 |cons {h:Int} {ka:ao} {v:ax} {ks:List Key} {x:V} {dd:Option ao} {items:List ax} {n:Nat} {sl:Array (Option ax)} {es:List mh} {kvs:List (List Key×V)}:h=tupleKeyHash (de P w) ks->K.lookup ka=some ⟨.type "tuple",dd,.seq items.toArray n,sl⟩->
  aaE (de P w) ks items->RelV x v->Ez P w K es kvs->Ez P w K (⟨h,.ref ka,v⟩::es) ((ks,x)::kvs)
theorem aeN{kvs:List (List Key×V)}(d:Ez P w K es kvs):∃xs:List (List Key×ao×ax),es=xs.map (EG (jY (de P w)))/\(∀x∈xs,∃o' items n,K.lookup x.2.1=some o'/\o'.cls= .type "tuple"/\o'.data= .seq items n/\aaE (de P w) x.1 items.toList)/\
 A3 (fun(p:List Key×V) (q:List Key×ao×ax)=>p.1=q.1/\RelV p.2 q.2.2) kvs xs/\xs.map (·.1)=kvs.map (·.1):=by
 induction d with
 |nil=>exact⟨[],rfl,fun _ h=>absurd h dh,.nil,rfl⟩
 | @cons h ka v ks x dd items n sl es kvs h1 h2 h3 h4 _ ih=>
   obtain⟨xs,a,b,c,e⟩:=ih;subst h1;refine⟨(ks,ka,v)::xs,by rw[a];rfl,fun z hz=> ?_,.cons ⟨rfl,h4⟩ c,by rw[a4,a4,e]⟩;obtain rfl|hz:=a0.mp hz
   ·exact⟨_,items.toArray,n,h2,rfl,rfl,h3⟩
   ·exact b z hz
theorem acM{es:List mh}{kvs:List (List Key×V)}(ns:(a==eE)=false)(l:K.lookup a=some ⟨.type "dict",none,.dict es.toArray ep,#[]⟩)(d:Ez P w K es kvs)(nd:(kvs.map (·.1)).Nodup):KdT P w K a kvs:=by
 obtain⟨xs,h1,h2,h3,h4⟩:=aeN d;exact⟨ns,_,_,ep,xs,l,⟨rfl,rfl,rfl⟩,rfl,by simpa using h1,by rw[h4];exact nd,h2,h3⟩
end
end
end TM
open PySem.W
local macro_rules | `(tactic| right) => `(tactic| ((try dsimp only [L2.qr]); k_is))
local macro_rules | `(tactic| left) => `(tactic| ((try dsimp only [L2.qr]); kernel_rfl))
local macro_rules | `(tactic| walk_at "kn") => `(tactic| (unfold dA; (try dsimp only [L2.qr]); k_is))
local macro_rules | `(tactic| walk_at "cl") => `(tactic| ((try dsimp only [L2.qr]); refine ⟨?_, ?_, ?_, ?_⟩ <;> k_is))
local macro_rules | `(tactic| walk_at "va") => `(tactic| repeat (first | exact .nil | refine .cons (by first | exact rfl | exact ⟨_, rfl⟩) ?_))
local macro_rules | `(tactic| walk_at "tu") => `(tactic| ((try dsimp only [L2.qr]); refine' abS ?l ?c ?d ?z ?v; (case l => k_is); (case c => rfl); (case d => rfl); (case z => decide); (case v => walk_at "va")))
local macro_rules | `(tactic| rfl') => `(tactic| (dsimp only [Gx, L2.qr]; refine' adv (by assumption) (by assumption) ?a ?b ?c ?d ?e; (case a => k_is); (case b => k_is); (case c => k_is); (case d => k_is); (case e => (repeat intro _); rfl)))
local macro_rules | `(tactic| symm) => `(tactic| (dsimp only [Mx, L2.qr]; refine' acC ?a ?n ?b ?c ?d ?e; (case a => k_is); (case n => k_is); (case b => k_is); (case c => k_is); (case d => k_is); (case e => (repeat intro _); rfl)))
local macro_rules | `(tactic| walk_at "it") => `(tactic| repeat (first | exact PySem.ItemsAre.nil | refine PySem.ItemsAre.cons rfl ?_))
local macro_rules | `(tactic| walk_at "dk") => `(tactic| ((try dsimp only [L2.qr]); refine' acN rfl ?l ?d ?n; (case l => k_is); (case d => repeat (first | exact EH.nil | refine EH.cons rfl rfl rfl ?_)); (case n => decide +kernel)))
local macro_rules | `(tactic| walk_at "te") => `(tactic| (refine' Ez.cons ?h ?k ?i rfl ?r; (case h => kernel_rfl); (case k => k_is); (case i => walk_at "it")))
local macro_rules | `(tactic| walk_at "dt") => `(tactic| ((try dsimp only [L2.qr]); refine' acM rfl ?l ?d ?n; (case l => k_is); (case d => repeat (first | exact Ez.nil | walk_at "te")); (case n => decide +kernel)))
local macro_rules | `(tactic| walk_at "mg") => `(tactic| exact PySem.W.mg_of (by assumption) (by assumption) (by right))
local macro_rules | `(tactic| walk_at "ow") => `(tactic| ((try dsimp only [L2.qr]); refine' acd ?m ?l ?t ?o ?n; (case m => walk_at "mg"); (case l => k_is); all_goals kernel_rfl))
theorem PySem.Challenge.cw_textmill_s01_answers_holds : PySem.Challenge.rw_textmill_s01_answers.Holds := by
 refine HeadU (x:=HeadX) rfl ?_
 w_on;k_fillS
 refine TM.QA (k:=15) (x:="calls") rfl ⟨rfl,by decide,by decide⟩ (fun w h Y=>PySem.W.kIn_of Y) ?F;intro w mg fa h KX G hmg
 obtain⟨T,⟨D⟩⟩:∃T:TM.Top (L2.qr KX) mg,Nonempty (TM.TopD jm w T):=by
  have kG:Cc (L2.qr KX) mg "EndsWithin" 24:=by walk_at"ow"
  have fo:Cc (L2.qr KX) mg "NotReckoned" 37:=by walk_at"ow"
  have oZ:Cc (L2.qr KX) mg "NoStepLeft" 50:=by walk_at"ow"
  have hW:Cc (L2.qr KX) mg "TooMuch" 63:=by walk_at"ow"
  have et:yh (L2.qr KX) 166:=by walk_at"cl"
  have fX:yh (L2.qr KX) 246:=by walk_at"cl"
  have dJ:yh (L2.qr KX) 316:=by walk_at"cl"
  have aP:yh (L2.qr KX) 572:=by walk_at"cl"
  have bj:yh (L2.qr KX) 832:=by walk_at"cl"
  have bJ:yh (L2.qr KX) 900:=by walk_at"cl"
  have dE:yh (L2.qr KX) 921:=by walk_at"cl"
  have bB:yh (L2.qr KX) 1038:=by walk_at"cl"
  obtain⟨Uk,agn⟩:Gx KX mg "row_of" 23 ["word"] 72:=by rfl'
  obtain⟨MI,adi⟩:Gx KX mg "place_of" 24 ["row","byte","start"] 79:=by rfl'
  obtain⟨MJ,adj⟩:Gx KX mg "overlaps" 25 ["row"] 86:=by rfl'
  obtain⟨CN,Wz⟩:Gx KX mg "place_of_row" 26 ["row","part"] 93:=by rfl'
  obtain⟨ML,adm⟩:Gx KX mg "go_round" 30 ["number"] 100:=by rfl'
  obtain⟨QL,aer⟩:Gx KX mg "decimal" 31 ["number"] 107:=by rfl'
  obtain⟨MK,adk⟩:Gx KX mg "is_digit" 32 ["byte"] 114:=by rfl'
  obtain⟨E9,X8⟩:Gx KX mg "skip_blanks" 33 ["text","place"] 121:=by rfl'
  obtain⟨E8,X7⟩:Gx KX mg "skip_digits" 34 ["text","place"] 128:=by rfl'
  obtain⟨yB,PL⟩:Gx KX mg "value_of_digits" 35 ["digits"] 135:=by rfl'
  obtain⟨JQ,abh⟩:Gx KX mg "number_of" 36 ["text"] 142:=by rfl'
  obtain⟨Fd,Yb⟩:Mx KX 166 "__init__" "Quotes.__init__" 38 0 ["self","opening","closing"] 156:=by symm
  obtain⟨xw,Oc⟩:Mx KX 166 "put_round" "Quotes.put_round" 38 1 ["self","text"] 163:=by symm
  obtain⟨CO,WC⟩:Gx KX mg "first_quotes" 39 [] 177:=by rfl'
  obtain⟨E7,X6⟩:Gx KX mg "with_commas" 40 ["texts"] 184:=by rfl'
  obtain⟨uY,Ld⟩:Gx KX mg "quoted_with_commas" 41 ["texts","quotes","room"] 189:=by rfl'
  obtain⟨MG,ade⟩:Gx KX mg "stand_in" 42 ["byte","call","quotes","room"] 196:=by rfl'
  obtain⟨QK,aeq⟩:Gx KX mg "fill_in" 43 ["call","quotes","room"] 203:=by rfl'
  obtain⟨Ui,agm⟩:Gx KX mg "way_to" 46 ["first","last"] 210:=by rfl'
  obtain⟨BC,Tf⟩:Gx KX mg "spread_ranges" 47 ["text"] 217:=by rfl'
  obtain⟨Hb,aag⟩:Gx KX mg "changes_of" 48 ["before","after"] 224:=by rfl'
  obtain⟨yF,PM⟩:Gx KX mg "changed_letters" 49 ["text","before","after"] 229:=by rfl'
  obtain⟨CY,WQ⟩:Mx KX 246 "__init__" "Meaning.__init__" 52 0 ["self","word","text"] 243:=by symm
  obtain⟨Uh,agl⟩:Gx KX mg "weight" 53 ["name","meaning"] 257:=by rfl'
  obtain⟨Hd,aal⟩:Mx KX 316 "__init__" "Names.__init__" 54 0 ["self"] 271:=by symm
  obtain⟨CV,WN⟩:Mx KX 316 "latest" "Names.latest" 54 1 ["self","name"] 278:=by symm
  obtain⟨yI,PR⟩:Mx KX 316 "need_room" "Names.need_room" 54 2 ["self","more"] 285:=by symm
  obtain⟨CW,WO⟩:Mx KX 316 "define" "Names.define" 54 3 ["self","name","meaning"] 292:=by symm
  obtain⟨Hc,aak⟩:Mx KX 316 "push" "Names.push" 54 4 ["self","name","meaning"] 299:=by symm
  obtain⟨wk,Mc⟩:Mx KX 316 "drop_latest" "Names.drop_latest" 54 5 ["self","name"] 306:=by symm
  obtain⟨Ab,R9⟩:Mx KX 316 "drop_all" "Names.drop_all" 54 6 ["self","name"] 313:=by symm
  obtain⟨YJ,ahs⟩:Gx KX mg "truth" 56 ["said"] 327:=by rfl'
  obtain⟨JU,WD⟩:Gx KX mg "either" 57 ["left","right"] 334:=by rfl'
  obtain⟨Uq,adp⟩:Gx KX mg "both" 58 ["left","right"] 341:=by rfl'
  obtain⟨rK,AF⟩:Gx KX mg "bits_of_either" 59 ["left","right"] 348:=by rfl'
  obtain⟨wU,FF⟩:Gx KX mg "bits_of_one" 60 ["left","right"] 355:=by rfl'
  obtain⟨uZ,D8⟩:Gx KX mg "bits_of_both" 61 ["left","right"] 362:=by rfl'
  obtain⟨Uj,adf⟩:Gx KX mg "same" 62 ["left","right"] 369:=by rfl'
  obtain⟨OP,aac⟩:Gx KX mg "other" 63 ["left","right"] 376:=by rfl'
  obtain⟨Ga,R4⟩:Gx KX mg "at_most" 64 ["left","right"] 383:=by rfl'
  obtain⟨CQ,N5⟩:Gx KX mg "at_least" 65 ["left","right"] 390:=by rfl'
  obtain⟨OS,aah⟩:Gx KX mg "below" 66 ["left","right"] 397:=by rfl'
  obtain⟨OU,aaj⟩:Gx KX mg "above" 67 ["left","right"] 404:=by rfl'
  obtain⟨yD,Iu⟩:Gx KX mg "shifted_up" 68 ["left","right"] 411:=by rfl'
  obtain⟨uX,D7⟩:Gx KX mg "shifted_down" 69 ["left","right"] 418:=by rfl'
  obtain⟨OT,aai⟩:Gx KX mg "added" 70 ["left","right"] 425:=by rfl'
  obtain⟨yC,Ir⟩:Gx KX mg "taken_away" 71 ["left","right"] 432:=by rfl'
  obtain⟨yE,Iv⟩:Gx KX mg "multiplied" 72 ["left","right"] 439:=by rfl'
  obtain⟨CL,N3⟩:Gx KX mg "quotient" 73 ["left","right"] 446:=by rfl'
  obtain⟨Ul,adh⟩:Gx KX mg "rest" 74 ["left","right"] 453:=by rfl'
  obtain⟨F9,R0⟩:Gx KX mg "negated" 75 ["number"] 460:=by rfl'
  obtain⟨Ba,Lc⟩:Gx KX mg "unchanged" 76 ["number"] 467:=by rfl'
  obtain⟨JX,WH⟩:Gx KX mg "denied" 77 ["number"] 474:=by rfl'
  obtain⟨JN,Ww⟩:Gx KX mg "turned" 78 ["number"] 481:=by rfl'
  obtain⟨Aa,R8⟩:Mx KX 572 "__init__" "Reckoning.__init__" 83 0 ["self","text"] 534:=by symm
  obtain⟨u7,Lh⟩:Mx KX 572 "work_out" "Reckoning.work_out" 83 1 ["self"] 541:=by symm
  obtain⟨oB,B1⟩:Mx KX 572 "read_number_side" "Reckoning.read_number_side" 83 2 ["self"] 548:=by symm
  obtain⟨pF,D9⟩:Mx KX 572 "read_sign_side" "Reckoning.read_sign_side" 83 3 ["self"] 555:=by symm
  obtain⟨sU,Iz⟩:Mx KX 572 "end_number" "Reckoning.end_number" 83 4 ["self"] 562:=by symm
  obtain⟨xu,Ob⟩:Mx KX 572 "settle" "Reckoning.settle" 83 5 ["self","strength"] 569:=by symm
  obtain⟨G9,aaa⟩:Gx KX mg "worked_out" 84 ["text"] 583:=by rfl'
  obtain⟨MM,adq⟩:Gx KX mg "argument" 86 ["arguments","place"] 590:=by rfl'
  obtain⟨JY,WI⟩:Gx KX mg "define" 87 ["run","arguments"] 597:=by rfl'
  obtain⟨F8,RZ⟩:Gx KX mg "pushdef" 88 ["run","arguments"] 604:=by rfl'
  obtain⟨JP,Wy⟩:Gx KX mg "popdef" 89 ["run","arguments"] 611:=by rfl'
  obtain⟨CJ,N1⟩:Gx KX mg "undefine" 90 ["run","arguments"] 618:=by rfl'
  obtain⟨Ha,aad⟩:Gx KX mg "meaning_of" 91 ["run","arguments"] 625:=by rfl'
  obtain⟨Uo,adn⟩:Gx KX mg "defn" 92 ["run","arguments"] 632:=by rfl'
  obtain⟨OR,aaf⟩:Gx KX mg "ifdef" 93 ["run","arguments"] 639:=by rfl'
  obtain⟨JT,WB⟩:Gx KX mg "ifelse" 94 ["run","arguments"] 646:=by rfl'
  obtain⟨OO,aab⟩:Gx KX mg "shift" 95 ["run","arguments"] 653:=by rfl'
  obtain⟨Um,adl⟩:Gx KX mg "incr" 96 ["run","arguments"] 660:=by rfl'
  obtain⟨Up,ado⟩:Gx KX mg "decr" 97 ["run","arguments"] 667:=by rfl'
  obtain⟨JR,WA⟩:Gx KX mg "length" 98 ["run","arguments"] 674:=by rfl'
  obtain⟨OQ,aae⟩:Gx KX mg "index" 99 ["run","arguments"] 681:=by rfl'
  obtain⟨JO,Wx⟩:Gx KX mg "substr" 100 ["run","arguments"] 688:=by rfl'
  obtain⟨CK,N2⟩:Gx KX mg "translit" 101 ["run","arguments"] 695:=by rfl'
  obtain⟨CP,N4⟩:Gx KX mg "evaluate" 102 ["run","arguments"] 702:=by rfl'
  obtain⟨aaT,ago⟩:Gx KX mg "dnl" 103 ["run","arguments"] 709:=by rfl'
  obtain⟨wR,FE⟩:Gx KX mg "changequote" 104 ["run","arguments"] 716:=by rfl'
  obtain⟨JW,WG⟩:Gx KX mg "divert" 105 ["run","arguments"] 723:=by rfl'
  obtain⟨JV,WE⟩:Gx KX mg "divnum" 106 ["run","arguments"] 730:=by rfl'
  obtain⟨CI,N0⟩:Gx KX mg "undivert" 107 ["run","arguments"] 735:=by rfl'
  obtain⟨z5,R1⟩:Gx KX mg "bytes_of_names" 112 [] 745:=by rfl'
  obtain⟨Fc,Ya⟩:Mx KX 832 "__init__" "Source.__init__" 113 0 ["self","text"] 759:=by symm
  obtain⟨yH,PQ⟩:Mx KX 832 "has_more" "Source.has_more" 113 1 ["self"] 766:=by symm
  obtain⟨wj,Mb⟩:Mx KX 832 "put_before" "Source.put_before" 113 2 ["self","result"] 773:=by symm
  obtain⟨u0,Le⟩:Mx KX 832 "starts_name" "Source.starts_name" 113 3 ["self","byte"] 780:=by symm
  obtain⟨xo,N8⟩:Mx KX 832 "read_name" "Source.read_name" 113 4 ["self"] 787:=by symm
  obtain⟨xr,N9⟩:Mx KX 832 "read_line" "Source.read_line" 113 5 ["self"] 794:=by symm
  obtain⟨u6,Lg⟩:Mx KX 832 "begins_with" "Source.begins_with" 113 6 ["self","quote"] 801:=by symm
  obtain⟨xn,N7⟩:Mx KX 832 "stands_at" "Source.stands_at" 113 7 ["self","quote","place"] 808:=by symm
  obtain⟨u5,Lf⟩:Mx KX 832 "read_quoted" "Source.read_quoted" 113 8 ["self","quotes"] 815:=by symm
  obtain⟨uk,Jo⟩:Mx KX 832 "end_of_bytes" "Source.end_of_bytes" 113 9 ["self","place","opening","closing"] 822:=by symm
  obtain⟨sS,Iw⟩:Mx KX 832 "end_of_quotes" "Source.end_of_quotes" 113 10 ["self","place","opening","closing"] 829:=by symm
  obtain⟨z6,R3⟩:Gx KX mg "built_in_names" 119 [] 843:=by rfl'
  obtain⟨JS,abi⟩:Gx KX mg "is_put_by" 120 ["number"] 850:=by rfl'
  obtain⟨Fb,X9⟩:Mx KX 900 "__init__" "System.__init__" 121 0 ["self"] 862:=by symm
  obtain⟨yG,PN⟩:Mx KX 900 "write_to" "System.write_to" 121 1 ["self","number"] 869:=by symm
  obtain⟨BD,Tg⟩:Mx KX 900 "put_by" "System.put_by" 121 2 ["self","piece"] 876:=by symm
  obtain⟨uj,Jn⟩:Mx KX 900 "to_give_back" "System.to_give_back" 121 3 ["self","numbers"] 883:=by symm
  obtain⟨xm,N6⟩:Mx KX 900 "take_away" "System.take_away" 121 4 ["self","number","most"] 890:=by symm
  obtain⟨CS,WJ⟩:Mx KX 900 "aside" "System.aside" 121 5 ["self","number","most"] 897:=by symm
  obtain⟨J0,abk⟩:Mx KX 921 "__init__" "Call.__init__" 125 0 ["self","name","meaning","arguments"] 918:=by symm
  obtain⟨MO,adt⟩:Mx KX 1038 "__init__" "Run.__init__" 126 0 ["self","system","most","text"] 939:=by symm
  obtain⟨CT,WK⟩:Mx KX 1038 "read_all" "Run.read_all" 126 1 ["self","steps"] 946:=by symm
  obtain⟨sT,Iy⟩:Mx KX 1038 "error_of_reading" "Run.error_of_reading" 126 2 ["self","steps"] 953:=by symm
  obtain⟨z7,R5⟩:Mx KX 1038 "read_token" "Run.read_token" 126 3 ["self"] 960:=by symm
  obtain⟨um,Jp⟩:Mx KX 1038 "read_name_token" "Run.read_name_token" 126 4 ["self"] 967:=by symm
  obtain⟨BE,Th⟩:Mx KX 1038 "read_byte" "Run.read_byte" 126 5 ["self","byte"] 974:=by symm
  obtain⟨MP,adu⟩:Mx KX 1038 "hold" "Run.hold" 126 6 ["self","more"] 981:=by symm
  obtain⟨z9,R7⟩:Mx KX 1038 "begin_call" "Run.begin_call" 126 7 ["self","call"] 988:=by symm
  obtain⟨xt,Oa⟩:Mx KX 1038 "end_argument" "Run.end_argument" 126 8 ["self","call"] 995:=by symm
  obtain⟨CU,WL⟩:Mx KX 1038 "end_call" "Run.end_call" 126 9 ["self"] 1002:=by symm
  obtain⟨z8,R6⟩:Mx KX 1038 "put_result" "Run.put_result" 126 10 ["self","call"] 1009:=by symm
  obtain⟨MN,ads⟩:Mx KX 1038 "take" "Run.take" 126 11 ["self","piece"] 1016:=by symm
  obtain⟨BF,Ti⟩:Mx KX 1038 "need_most" "Run.need_most" 126 12 ["self","more"] 1023:=by symm
  obtain⟨JZ,abj⟩:Mx KX 1038 "write" "Run.write" 126 13 ["self","piece"] 1030:=by symm
  obtain⟨BG,Tj⟩:Mx KX 1038 "give_back" "Run.give_back" 126 14 ["self","numbers"] 1035:=by symm
  obtain⟨MH,adg⟩:Gx KX mg "run_text" 127 ["system","steps","most","text"] 1049:=by rfl'
  obtain⟨QM,aes⟩:Gx KX mg "answers" 131 ["calls"] 1056:=by rfl'
  refine⟨⟨⟨24,kG,37,fo,50,oZ,63,hW,by left,by left,by left,by left,by left,by left,by left,by left,by left,by left,by left,by left,by left,by left,by left,by left,67,by walk_at"mg",by walk_at"tu",738,by walk_at"mg",by walk_at"tu",166,et,by walk_at"mg",by right,by right,by walk_at"kn",by walk_at"kn",246,fX,by walk_at"mg",by right,by right,by walk_at"kn",by walk_at"kn",316,dJ,by walk_at"mg",by right,by right,by walk_at"kn",by walk_at"kn",572,aP,by walk_at"mg",by right,by right,by walk_at"kn",by walk_at"kn",by walk_at"kn",by walk_at"kn",by walk_at"kn",832,bj,by walk_at"mg",by right,by right,by walk_at"kn",by walk_at"kn",by walk_at"kn",900,bJ,by walk_at"mg",by right,by right,by walk_at"kn",by walk_at"kn",by walk_at"kn",by walk_at"kn",by walk_at"kn",921,dE,by walk_at"mg",by right,by right,by walk_at"kn",by walk_at"kn",by walk_at"kn",by walk_at"kn",by walk_at"kn",by walk_at"kn",1038,bB,by walk_at"mg",by right,by right,by walk_at"kn",by walk_at"kn",by walk_at"kn",by walk_at"kn",by walk_at"kn",by walk_at"kn",by walk_at"kn"⟩,⟨dF KX G (by right),dF KX G (by right),dF KX G (by right),dF KX G (by right),dF KX G (by right),dF KX G (by right),dF KX G (by right),dF KX G (by right),dF KX G (by right),dF KX G (by right),dF KX G (by right),dF KX G (by right),dF KX G (by right),dF KX G (by right),dF KX G (by right),dF KX G (by right),dF KX G (by right),dF KX G (by right),dF KX G (by right),dF KX G (by right),dF KX G (by right),dF KX G (by right),dF KX G (by right),dF KX G (by right),dF KX G (by right),dF KX G (by right),dF KX G (by right),dF KX G (by right),dF KX G (by right),dF KX G (by right),dF KX G (by right),dG KX G (by right),dG KX G (by right),dG KX G (by right),dG KX G (by right),dG KX G (by right),dG KX G (by right),dG KX G (by right),dG KX G (by right),dG KX G (by right),dG KX G (by right),dG KX G (by right)⟩,Uk,MI,MJ,CN,ML,QL,MK,E9,E8,yB,JQ,Fd,xw,CO,E7,uY,MG,QK,Ui,BC,Hb,yF,CY,Uh,Hd,CV,yI,CW,Hc,wk,Ab,YJ,JU,Uq,rK,wU,uZ,Uj,OP,Ga,CQ,OS,OU,yD,uX,OT,yC,yE,CL,Ul,F9,Ba,JX,JN,Aa,u7,oB,pF,sU,xu,G9,MM,JY,F8,JP,CJ,Ha,Uo,OR,JT,OO,Um,Up,JR,OQ,JO,CK,CP,aaT,wR,JW,JV,CI,z5,Fc,yH,wj,u0,xo,xr,u6,xn,u5,uk,sS,z6,JS,Fb,yG,BD,uj,xm,CS,J0,MO,CT,sT,z7,um,BE,MP,z9,xt,CU,z8,MN,BF,JZ,BG,MH,QM⟩,⟨?_⟩⟩;refine{sh:=520,DZ:=by walk_at"mg",D2:= ?x1,l4:=482,rT:=by walk_at"mg",bv:=fun i=>[484,486,488,490,492,494,496,498,500,502,504,506,508,510,512,514,516,519].getD i 0,Gr:= ?x2,Ko:=by show ∀H:Hp,l6 (L2.qr KX) H 484 [.int 1,.ref JU.f];rw[WD];walk_at"tu",U2:=by show ∀H:Hp,l6 (L2.qr KX) H 486 [.int 2,.ref Uq.f];rw[adp];walk_at"tu",rM:=by show ∀H:Hp,l6 (L2.qr KX) H 488 [.int 3,.ref rK.f];rw[AF];walk_at"tu",wW:=by show ∀H:Hp,l6 (L2.qr KX) H 490 [.int 4,.ref wU.f];rw[FF];walk_at"tu",vd:=by show ∀H:Hp,l6 (L2.qr KX) H 492 [.int 5,.ref uZ.f];rw[D8];walk_at"tu",U0:=by show ∀H:Hp,l6 (L2.qr KX) H 494 [.int 6,.ref Uj.f];rw[adf];walk_at"tu",O6:=by show ∀H:Hp,l6 (L2.qr KX) H 496 [.int 6,.ref OP.f];rw[aac];walk_at"tu",Gd:=by show ∀H:Hp,l6 (L2.qr KX) H 498 [.int 7,.ref Ga.f];rw[R4];walk_at"tu",DD:=by show ∀H:Hp,l6 (L2.qr KX) H 500 [.int 7,.ref CQ.f];rw[N5];walk_at"tu",O7:=by show ∀H:Hp,l6 (L2.qr KX) H 502 [.int 7,.ref OS.f];rw[aah];walk_at"tu",O9:=by show ∀H:Hp,l6 (L2.qr KX) H 504 [.int 7,.ref OU.f];rw[aaj];walk_at"tu",yS:=by show ∀H:Hp,l6 (L2.qr KX) H 506 [.int 8,.ref yD.f];rw[Iu];walk_at"tu",vc:=by show ∀H:Hp,l6 (L2.qr KX) H 508 [.int 8,.ref uX.f];rw[D7];walk_at"tu",O8:=by show ∀H:Hp,l6 (L2.qr KX) H 510 [.int 9,.ref OT.f];rw[aai];walk_at"tu",yR:=by show ∀H:Hp,l6 (L2.qr KX) H 512 [.int 9,.ref yC.f];rw[Ir];walk_at"tu",yT:=by show ∀H:Hp,l6 (L2.qr KX) H 514 [.int 10,.ref yE.f];rw[Iv];walk_at"tu",DC:=by show ∀H:Hp,l6 (L2.qr KX) H 516 [.int 10,.ref CL.f];rw[N3];walk_at"tu",U1:=by show ∀H:Hp,l6 (L2.qr KX) H 519 [.int 10,.ref Ul.f];rw[adh];walk_at"tu",pR:=736,xN:=by walk_at"mg",xR:= ?x3}
  case x1=>show Yu _ _ (L2.qr KX) 520 [(.inl 45,.ref F9.f),(.inl 43,.ref Ba.f),(.inl 33,.ref JX.f),(.inl 126,.ref JN.f)];rw[R0,Lc,WH,Ww];walk_at"dk"
  case x2=>walk_at"dt"
  case x3=>show Yu _ _ (L2.qr KX) 736 [(.inr "define",.ref JY.f),(.inr "pushdef",.ref F8.f),(.inr "popdef",.ref JP.f),(.inr "undefine",.ref CJ.f),(.inr "defn",.ref Uo.f),(.inr "ifdef",.ref OR.f),(.inr "ifelse",.ref JT.f),(.inr "shift",.ref OO.f),(.inr "incr",.ref Um.f),(.inr "decr",.ref Up.f),(.inr "len",.ref JR.f),(.inr "index",.ref OQ.f),(.inr "substr",.ref JO.f),(.inr "translit",.ref CK.f),(.inr "eval",.ref CP.f),(.inr "dnl",.ref aaT.f),(.inr "changequote",.ref wR.f),(.inr "divert",.ref JW.f),(.inr "divnum",.ref JV.f),(.inr "undivert",.ref CI.f)];rw[WI,RZ,Wy,N1,adn,aaf,WB,aab,adl,ado,WA,aae,Wx,N2,N4,ago,FE,WG,WE,N0];walk_at"dk"
 have e0:=hmg.symm.trans T.answers.m
 cases e0
 exact⟨_,fun s u hk=>T.answers.b s [u] hk rfl,TM.Di T,fun ag kb nb=>TM.Nw T D,fun H a ns hA hO hS=>⟨a,ns,rfl,hO,hS,hA,fun H' p h=>⟨p,rfl,h⟩⟩⟩
