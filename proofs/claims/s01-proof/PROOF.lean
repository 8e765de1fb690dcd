import PyProof.Rows.All
import Wide.All
import OpenK.AllK
import Wide.FinOn
import PyProof.EqAt
import PyProof.EqKinds
import PyProof.TupleCall
import Open.SpecLaws
import KE.OsHead
import KE.OsGo
import Open.Tops
import KE.SpHead
import KE.OsShapes
import OpenK.KOwn
import KE.KTryDeep
import KE.KDictList
import KE.KRevIter
import PyProof.ExcBaseAll.ValueError
import PyVaatts
import KE.BitLaws
import KE.KSortTupG
import PySem.Challenge.RW_treeworkers_s01_answers
set_option Elab.async false
set_option linter.all false
set_option maxRecDepth 100000
set_option maxHeartbeats 0
open PySem renaming Addr->aa,Value->ah,Str->ai,Params->av,wpAny_bind->aw,Shared->az,wpAny->aG,Heap->aO,Program->aP,Stmt->aS,wpAny_pure->aZ,model->a7,mainGlobals->a_,Obj->bb,FuncData->br,sizeLine->bJ,Pos->cv,Around->cC,starEach->cK,Paired->cN,boot_len->c!,Env->es,sizeLine_eq->eK,Scope->e8,rawInt->e9,backTo->fv,pyNext->fS,call->fU,DictEntry->fV,Sem->gF,compareOp->gG,cellsFrom->g4,wpAny_newObj_type->hq,bootBuiltins->hT,sysModules->ij,wpAny_mono->iK,NameKind->i9,wpAny_holding->js,cLine->ju,mem_of_lookup->jv,wpAny_field->jw,wpAny_call_entry->jx,PyData->kB,compEnvC->kC,wpAny_of_eq->kD,wpAny_truthy_bool->lJ,holding->lK,codeAny->lL,pyIter->mB,attributeBase->mC,callWith->mD,wpAny_Call_Name_kw->mF,getItem->mG,argsOk->mJ,CmpOp->nG,binaryOp->nH,IsPart->nJ,wpAny_callSpecial?_slot->nK,wpAny_attempt->nQ,wpAny_fieldsOf->nV,Result->o!,backToKw->pa,keywordEach->pb,atKey->pj,wpAny_dictEntries->pk,wpAny_dictEpoch->pq,behindInMarks->qZ,standAt->q0,assignEach->q2,codeAny_mono->q4,bindL->q6,bindC->q7,pushCells->q9,valueAt->q',wpAny_setField->q?,newExc->rf,firstArgMember->rh,IsItemIter->rl,swapsWith->s_,assign->s',wpAny_passesOwn->s?,getMethod->tb,sliceBounds->tc,setField->tg,codeAny_builtin->tp,plainId_quiet->tq,isTrue->vr,wpAny_standAt->vt,wpAny_pyIter_list->vu,BindsTo->vw,call_meets->vx,notedBy->vB,wpAny_specialOf->vC,wpAny_isInstance->vF,callerA->vH,wpAny_updateSeq->vN,wpAny_letGo->vO,typeLookup_type->vQ,builtinLookup_eq_fast->vR,wpAny_ite_split->vS,tupleKind->Am,wpAny_execs_nil->Ao,Operator->Ap,wpAny_call->Au,Keyword->Av,wpAny_tryCatch->AK,updateSeq->AL,wpAny_rule->AM,wpAny_setField_rec->AQ,isSubtype_type->AV,PassesOwn->GG,letOwnedTupleGo->GH,foldedSetIterable->GI,wpAny_typeOf->GQ,typeLookup->GS,seqIndex?->GU,subscripted->GV,pushCells_keeps->G0,tupleKind_room_in1->G3,wpAny_pyIter_slot->G4,wpAny_typeNameOfWhole_keyiter->G5,wpAny_typeNameOf_keyiter->G6,wpAny_handled->G',wpAny_throw->G!,isSubtype_stop->G?,wpAny_pyIter_enum->Ha,codeAny_call_builtin->Hu,wpAny_seqItems->Hx,wpAny_typeNameOfWhole_valiter->Hz,wpAny_typeNameOf_valiter->HA,wpAny_isOneOf_valiter->HB,wpAny_typeNameOfWhole_itemiter->HC,wpAny_typeNameOf_itemiter->HD,wpAny_isOneOf_itemiter->HE,Within->aga,wpAny_Constant_int->agc,concat_meets->ago,noFill_tuple_add->agp,seq_tuple_add->agq,evalArgs_none->agx,nums_intItems->agA,wpAny_notOrdered_dict->agH,wpAny_Call_method->agL,IsItemIterOut->agZ,signature?_of->ag3,wpAny_isTrue_Compare1->axc,wpAny_isOneOf_keyiter->axy,wpAny_letOwnedTupleGo_enum->axz,weight_type_call_type->axN
open Bool renaming true->ag,false->ay,and_eq_true->cI,eq_false_iff->eM,false_ne_true->eT,eq_iff_iff->e_,or_false->jy,noConfusion->kE,or_eq_true->oU,true_and->o2,false_eq_true->q_,and_true->vb,and_eq_false_iff->y!,false_or->Ay,or_assoc->AG,beq_eq_decide_eq->GF,false_and->agf,true_or->agG,or_true->agM,and_eq_true_iff->axD
open PySem.W renaming Frag->aE,nsIn->bc,WData->fy,findIn->jt,keepIn->kz,kitOne->lN,kia_one->mE,emptyDict->o?,fnOf->pe,instObj->qX,WellAll->ri,excIn->rj,plainGet->Aq,isFn->As,hideAll->GD,lookIn->GJ,hasDictIn->GK,callWith_K->GN,codeIn->GO,methodObj->agb,plainGet_of->agg,plainOver->agh,takerIn->agi,makesIn->agj,methodCall_KW->agk,hideAll_get->aw_,of_hideAll->aw',handedIn->axf,specialIn->axg,takesIn->axh,mroIn->axi,kitx_list->axj,kitx_dict->axk,callWith_K0->axl,cellsFrom_some->axm,WRecords->axB,length_le_weightAllW->axC,WalkOS->axF
open Or renaming inl->aH,inr->AA
open Vaatta renaming Bytes->aL,Tok->bo,Val->bW,signNext->cu,Out->dk,Expr->dB,partsAll->dC,work->dG,isDigit->dQ,isPlain->ei,partsOf->ej,occsAll->e1,Op->e6,ownAny->e',plain->fp,depthOf->gj,atom->hi,numOf->hs,asTruth->hQ,truthNum->ih,SIGNS->iF,sameVal->iO,binary->i5,flatAll->i_,expr->jV,more->jW,signed->jX,elements->jY,someElements->jZ,isLetter->j0,isWord->j1,isGreat->kF,opNext->lz,isBlank->lB,wIf->ml,made->mz,Fault->nr,NEST->nu,wThen->nv,wElse->ny,sameVals->nX,eatSign->oS,eatWord->oT,callOf->oV,firstBad->o8,isSmall->ps,lookIn->pz,tokensFrom->qJ,apply->qV,wordNext->sJ,SIGNOPS->sM,put1->sN,madeList->sY,valsOf->vk,workAll->vP
open Vaatts renaming routes->aN,Net->bF,Plan->bR,workerCount->b3,mindOf->b7,homeOf->b',workFor->de,ready->dm,State->dn,send->e7,Route->fL,step->fY,turn->gk,workerOf->gE,deliver->g5,Answer->g6,no->g7,learn->hR,workOut->hS,again->hU,Msg->iJ,turns->iP,planOf->jz,Call->j',without->kG,jobs->o_,start->pF,deliverAll->rm,said->ro,onWorker->rp,needs->s6,grammarStep->vT,treeStep->vU,worldOf->vV,workerUp->Ah,msgFlat->AS,beginStep->AU,workAll->HG,cutStep->HI,mostWorkers->HJ,onWork->HK,onInst->ag2
open List renaming length_map->aQ,getElem?_map->bL,getElem?_eq_some_iff->bV,mem_cons->b0,mem_map->b6,mem_of_getElem?->cm,mem_cons_self->cA,length_append->cG,length_cons->cH,mem_cons_of_mem->cL,mem_iff_getElem?->cM,size_toArray->dF,map_cons->dJ,map_append->dW,map_map->dX,getElem?_eq_getElem->d1,mem_append->d7,range->ey,append_nil->fo,take_length->fz,length_drop->fF,find?_cons->fG,nodup_cons->gg,mem_singleton->g0,length_take->ho,filter_cons->ie,append_assoc->iH,take_zero->iI,mem_filter->jo,length->j6,mk_mem_zipIdx_iff_getElem?->j7,nodup_append->ky,mem_filterMap->lD,mem_map_of_mem->lE,mem_append_right->lG,any_cons->lP,mem_flatMap->mv,mem_range->mw,all_eq_true->mA,getElem?_inj->mI,eq_nil_of_length_eq_zero->nz,getElem?_append_right->nD,lookup->nI,mem_of_find?_eq_some->oW,foldl_cons->oX,cons_append->o1,length_range->o7,length_singleton->ph,find?_eq_none->qF,not_mem_nil->qG,find?_some->qI,range_succ->qR,contains_iff_mem->sO,length_filter_le->sQ,mem_append_left->sX,filter_append->s7,lookup_cons->te,takeWhile_cons->u!,getElem?_append_left->vc,append_eq_nil_iff->vd,any_eq_true->vg,getElem?_range->vi,length_set->vl,getElem?_set_self->vp,getElem?_set_ne->vq,drop_eq_nil_of_le->vJ,reverse_cons->vL,nil_append->y',forall_mem_cons->Aa,isEmpty_iff->Ab,getElem?_take->Ad,flatMap_append->Ag,filter_nil->Ak,ext_getElem?->Al,map_nil->Aw,getElem?_eq_none->Ax,drop_length->AE,foldl_append->AF,map->AI,length_nil->Gk,flatMap_eq_nil_iff->Gp,filterMap_cons->Gq,map_take->Gs,filterMap_map->Gv,getElem?_modify->GA,filter_sublist->GB,all_cons->GW,any_map->GZ,drop_eq_getElem_cons->Hi,drop_drop->Hl,length_reverse->Hr,zip_cons_cons->Hw,mem_reverse->HF,any_eq_false->af2,take_succ_cons->af4,findIdx?_eq_none_iff->af6,mem_of_mem_drop->af8,drop_zero->af_,of_mem_zip->agn,take_of_length_le->agB,all_map->agD,take_succ_eq_append_getElem->agN,any_nil->agO,dropWhile_cons->agP,map_drop->agR,map_congr_left->agS,length_modify->awX,forall_mem_append->awZ,length_pos_of_mem->aw0,pairwise_iff_getElem->aw1,getElem_mem->aw3,flatMap_cons->aw4,findIdx?_eq_some_iff_getElem->aw5,take_append_drop->aw6,filter_eq_nil_iff->aw7,range_succ_eq_map->axs,toList_toArray->axA,dropLast_concat->axI,getElem?_toArray->axO,getElem_map->axP,length_filterMap_le->axQ,getElem?_eq_none_iff->ax8,nodup_range->ax_
open Decidable renaming decide->aT
open Vaattb renaming Grammar->bh,Production->dj,many->dI,Sym->eo,symOf->eZ,prodOf->f?,Rule->i6,readItems->j2,readRules->lC,targets->lF,Named->mr,plain->mx,readRule->nA,readSym->nB,readProd->nC,plainProd->nE,sizeIn->o3,sizeRound->o4,sizes->o5,attrAt->qP,equationOf->qU,namesBefore->sR,mostAttrs->sT,plainSym->vh,strip->vm,treeSize->Ac,mostBytes->AW,readTarget->Gj,namedOf->afX,read->afY,mostSyms->af3
open Nat renaming le_refl->bj,zero_le->cj,le_trans->d8,ne_of_lt->eF,lt_of_lt_of_le->ib,max->j9,lt_irrefl->lH,lt_succ_of_lt->lQ,ne_of_gt->o',lt_succ_self->qS,le_succ->q5,add_zero->ve,min_eq_left->vI,le_of_lt->An,le_of_not_lt->Gi,zero_add->Gm,add_assoc->Gn,add_sub_cancel->Gr,add_sub_cancel_left->Gw,not_lt_zero->Gy,le_of_eq->GL,le_of_succ_le->G1,lt_of_le_of_lt->Hj,max_eq_right->Hy,sub_self->af0,le_max_right->af7,succ_ne_self->agK,pow_le_pow_right->awW,le_succ_of_le->axH
open Vaattf renaming instances->bB,Info->bQ,Inst->bT,known->cJ,World->dD,lay->ew,prodAt->eE,layAll->fl,attrs->gh,meant->gi,equation->ig,starts->j4,names->j8,attrNumber->my,Known->pD,firstOnly->sW,outcome->sZ,equationFor->vj,givenOf->AR,ownAt->ag0
open PySem.Paired renaming length->b4
open PySem.Value renaming ref->b!,none->fq,type->jq,int->j_,bool->s9,str->vn,float->af'
open Option renaming bind_eq_some_iff->cB,bind_some->cO,map_eq_some_iff->en,isSome_iff_exists->kx,bind_assoc->nW,isSome_map->qO,map_map->sV,map_some->Gh,map_eq_none_iff->Hk,getD_some->afW,getD_none->axr,isSome_some->axt,some->J,none->I
open PySem.Heap renaming lt_size->cZ,get?_push_of_some->dz,get?_push_size->ep,size_push->i8,SameBut->lI,get?_update_self->nM,get?_update_other->nN,FlyingW->AD,ExtBut->G_
open PySem.F renaming plainAttrs_list->d9,slot_list_append->fw,type_list_append->fX,called_enumerate->nZ,slot_list_extend->q8,called_set->rk,plain_max_loop->tu,type_list_extend->tv,slot_list_pop->vz,slot_dict_keyiterator_next->Az,slot_dict_valueiterator_next->AN,slot_dict_itemiterator_next->AO,plainAttrs_dict->Hh,type_list_pop->Hs,slot_tuple_add->agr,entry_tuple_add->ags,args_tuple_add_2->agt,slot_list_index->agC,entry_max_loop->agY,slot_dict_clear->axu,slot_dict_getitem->axv,entry_dict_keyiterator_next->axw,args_dict_keyiterator_next_1->axx,slot_dict_get->axG,entry_type_call->axL,type_list_index->axR,slot_dict_values_iter->axV,entry_dict_valueiterator_next->axY,args_dict_valueiterator_next_1->axZ,slot_dict_values->ax0,slot_dict_items_iter->ax1,entry_dict_itemiterator_next->ax3,args_dict_itemiterator_next_1->ax4,slot_dict_items->ax7,slot_list_remove->ax9,sub_reversed_self->aya,plain_extend_loop->ayd,excBase_ValueError->ayi
open Vaatta.Tok renaming small->ed,great->iG,isSign->sL
open Option.some renaming inj->eD,injEq->mn
open PySem.Str renaming ofString->eG,join->Hb
open Int renaming toNat_natCast->eL,fmod_nonneg_of_pos->Hn,fmod_lt_of_pos->Ho,mul_le_mul_of_nonneg_left->Hq,toNat->HM,zero_add->ag1
open Vaatta.Val renaming parts->eR,depth->fJ,inRange->Ai,flat->HH,num->agV
open PySem.PassesOwn renaming never->e0
open Vaattd renaming treesOf->fH,Raw->hj,treeOf->hP,prodNumber->ic,sizeAll->j3,readTree->oY,readKids->oZ,readNum->qL,read->qM,mostLevels->u?,mostNodes->y_,grammarOf->afZ
open Sum renaming inr->fQ,inl->nF
open Vaattb.Named renaming name->gb
open PyProof.Rows renaming envOfC->gJ,IsTup->jr,slot_tuple_getitem->pf,AllBare->qY,callWith_type1->vv,Constant_none->agd,subscriptTail->agv,iadd_int->axd,callWith_builtin1->axn,subscriptTail_builtinR->axq
open False renaming elim->ik
open PySem.SeqAt renaming shaped->iM,canLay_of_shaped->axT
open PySem.PyData renaming eqv->iN,strOk->lR,eqvAll->nY,canLayAll0->tm,depthAll->tn,depth->vK,str->vM,canLay0->AH
open Ne renaming symm->i7
open Prod.mk renaming injEq->j5
open Vaatta.Expr renaming parts->lA,app->mm,occs->px,usesOwn->tj,occ->Hm,num->agT,own->agU
open True renaming intro->lM
open PySem.Obj renaming mapSeq->lO,data_mapFields->ra,mapFields->G8,isFreed_of_fields->G9,cls_mapFields->agI
open List.cons renaming inj->lS,injEq->af1
open Vaattf.Info renaming prod->mq,parent->Gx,num->Gz
open Vaattb.Sym renaming name->o6
open PyFlat renaming call->o9,calls->qW,rows->af9,told->ag5
open PySem.Calls renaming spliced_cons->pd,spliced_nil->q3,callWith_builtin->GX,evalArgs_plain->agy,Name_function_global->axb
open PyVaatts renaming bound->pG,shape->rq,whole->HP,answers->HR,answers_asked->ayh
open Prod renaming ext->qQ,fst->sS
open Array renaming length_toList->q1,getElem?_toList->vy,getElem?_eq_some_iff->vE,getElem?_eq_getElem->G7,getElem?_eq_none->agJ,mem_toList_iff->axe
open PySem.Builtin.Dict_items renaming ownsTuple->q!,dictOf->axW,newIterator->axX,ownedTupleFields->ax2,pairFromOwner->ax5,ownedTupleIsFree->ax6
open PySem.Heap.SameBut renaming update->rb
open Classical renaming byContradiction->sP
open Iff renaming rfl->sU
open Sum.inr renaming inj->s8
open Vaattd.Tree renaming size->va
open Vaattb.Production renaming sym->vf,name->Gu
open Sum.inl renaming inj->vo
open PySem.NameKind renaming free->vA,cell->agF
open PySem.Builtin.Dict renaming showsAll->vD,noArgs->axU
open PySem.W.Codec renaming encAll->vG,app->AB,denoteAll->Hd,withinAll->axE
open Vaattd.Raw renaming node->y?
open Vaattb.Rule renaming target->Ae
open Vaatta.Out renaming val->Aj
open PySem.Around renaming under_plainId->AJ,under->agl,under_plain->axM
open PySem.Builtin.Slice renaming slicePlaces->GP,sliceAdjust->agu,sliceApplied->axo
open PySem.Builtin.Tuple renaming tupleExact->GR,tupleItemsOf->axp
open PySem.Builtin.List renaming listTooLong->GY,listExtendWith->HL,listLengthHint->ayb,listSameRef->ayc,listItems->aye
open ForInStep renaming yield->G2
open PySem.Txt renaming join->Hc
open PySem.W.WData renaming weightAll->He
open PySem.Value.type renaming inj->Hg
open PySem.Shared renaming TypeIs->Ht
open PyInside renaming call->HN,within->ag4,calls->ayg
open VaattsNeutral renaming text?->HQ,step->ag6
open PySem.Code renaming isFrame->agm,quiet_builtin->axK
open PyProof.Rows.IsTup renaming new->agw
open PySem.Walks renaming list->agE
open PyProof.Rows.F renaming plain_set_update_loop->agW,entry_set_update_loop->axJ
open PySem.Draws renaming list->agX
open Vaattd.Raw.node renaming injEq->awY
open PySem.SeqAt.EqAt renaming int_str->aw8,str_int->aw9
open PySem.Builtin.Builtins renaming bindParams->axS
open NeutralIO renaming bytes->ayf
open PySem.Challenge renaming nm_treeworkers_s01_answers->zzn,rw_treeworkers_s01_answers->ayj
theorem y{a:Sort u}{b:a}:b=b:=rfl
def au:=@if_neg
def aA:=@if_pos
def a':=@absurd
def bD:=@decide_eq_false
def b8:=@decide_eq_true
def cw:=@of_decide_eq_true
def cU:=@decide_eq_true_eq
def du:=@beq_iff_eq
def dR:=@congrArg
def dY:=@of_decide_eq_false
def e3:=@beq_eq_false_iff_ne
def fO:=@trivial
def iL:=@if_false
def kA:=@if_true
def mH:=@funext
def qH:=@or_false
def th:=@decide_eq_false_iff_not
def Af:=@beq_self_eq_true
open Lean in
local macro_rules
|`(command|#check 0)=>do
 let mut r:=#[]
 let n(s:String)(i:Nat):Name:=.str `TW.tops (s++toString i)
 let l:=([4,27,33,59,83,142,202,207,287,346,370,394,432,491,536,593,638,715,765,857,923,940,994,1045,1133,1135,1195,1282,1301,1321]:List Nat)
 for c in [`PySem.Challenge.pw_treeworkers_s01_answers,`TW.pw,`TW.tops.env_1]++l.map (n "tree_")++l.map (n "sts_"<|2+·)++[4,31,37,211,944,1138,1305].map (n "sts_")++(List.range 1322).map (n "o_") do
  r:=r.push (<-`(command|theorem $(mkIdent (.str `PySem.W.Fast ("tw"++toString c.hash))):ident :True:=⟨⟩))
 return mkNullNode r
#check 0
section
namespace TW
open PySem PySem.W PySem.Calls PyProof.Rows
abbrev pw:Program:=PySem.Challenge.pw_treeworkers_s01_answers
theorem ag7:pw.tablesWhole=true:=by decide+kernel
theorem ag8:sreFenced pw.main=true:=by decide+kernel
theorem ag9:((moduleNames pw.main.body).isEmpty||lookedIntoSs (moduleNames pw.main.body) pw.main.body)=true:=by decide+kernel
theorem ag_:namesResolve pw=true:=by k_qdec
theorem ag':(pw.boundNames.all (fun n=>!worldNames.contains n))=true:=by k_qdec
theorem aha:noRoadLSs {strict:=!(importedModules pw.main.body).all cThrough.contains,foot:=none,bare:=(["vars","dir","locals"]:List Str).filter (readsOut pw pw.main.body)} pw.main.body=true:=by k_qdec
theorem ahb:(namesMeet pw pw.main.body fun _ n=>attrL n)=true:=by k_qdec
theorem ahc:looksOpen pw=true:=by
 unfold looksOpen
 rw [ag8,ag9,ag_,ag',aha,ahb]
 rfl
theorem ahd:(pw.boundNames.contains zzn)=true:=by decide+kernel
theorem ahe:(!startupNames.contains zzn)=true:=by decide+kernel
theorem ahf:specDef pw zzn 1=true:=by decide+kernel
theorem ahg:PySem.Challenge.fa_treeworkers_s01_answers.all Codec.fits=true:=by decide+kernel
theorem ahh:PySem.Challenge.fr_treeworkers_s01_answers.ok=true:=by decide+kernel
theorem HS:ayj.wellSaid=true:=by
 show (looksOpen pw && pw.boundNames.contains zzn && !startupNames.contains zzn && specDef pw zzn 1 &&
  PySem.Challenge.fa_treeworkers_s01_answers.all Codec.fits && PySem.Challenge.fr_treeworkers_s01_answers.ok)=true
 rw [ahc,ahd,ahe,ahf,ahg,ahh]
 rfl
theorem ahi:pw.bare:=⟨rfl,rfl,rfl,rfl,rfl,ag7⟩
theorem ahj:opensWell pw=true:=by decide+kernel
open_shared tops for PySem.Challenge.pw_treeworkers_s01_answers leaving 0
open TW.tops
open Lean in
def zzM(P:Term):Array Term:=Id.run do
 let mut r:=#[]
 for (b,s,n) in ([(1,0,3),(0,1305,1),(1,4,7),(0,1,1),(0,1306,1),(0,3,2),(0,7,21),(0,32,2),(0,39,21),(0,63,21),(0,87,56),(0,146,57),(0,205,3),(0,213,75),(0,291,56),(0,350,21),(0,374,21),(0,398,35),(0,436,56),(0,495,42),(0,540,54),(0,597,42),(0,642,74),(0,719,47),(0,769,89),(0,861,63),(0,927,14),(0,946,49),(0,998,48),(0,1049,85),(0,1140,56),(0,1199,84),(0,1286,16),(0,1307,15)]:List (Nat×Nat×Nat)) do
  for i in [0:n] do
   r:=r.push (Syntax.mkApp (mkIdent (.mkSimple ((if b==1 then "boot_o_" else "o_")++toString (s+i)))) #[P])
 return r
open Lean in
local macro_rules
|`(zzO $P)=>`([$(zzM P),*])
|`(zzK $P)=>do
 let a:=zzM P
 let mut t<-`([])
 for i in [0:a.size] do
  let j:=a.size-1-i
  t<-`((nat_lit $(Syntax.mkNumLit (toString j)):num,$(a[j]!))::$t)
 return t
noncomputable def objs(P:Params):List Obj:=zzO P
noncomputable def hf(P:Params):Heap:=⟨⟨objs P⟩,{}⟩
noncomputable def KF(P:Params):Frag:=zzK P
theorem ahk:∀P:Params,absHeap (tree_1321 P) 1238 {}=hf P:=fun P=>by kernel_rfl!
abbrev p0:Pos:=⟨0,0,0,0⟩
noncomputable abbrev cE:Code:= .body (behindTheImports pw) env_1
noncomputable abbrev sB (w:World) (os:OsState):Shared:=SharedT.abs ⟨tree_4 w.params,15,{},⟨[]⟩,{},187,os⟩
noncomputable abbrev s0 (w:World) (os:OsState):Shared:=⟨boot_heap w.params,⟨[]⟩,boot_drawn,boot_toks,os⟩
theorem ahl:∀(w:World) (os:OsState),topGo treeTable pw w 11 (some (.ref 6)) 12 (s0 w os) (topStub pw)=some (sB w os,⟨denote treeTable cE,cE,p0, [topFrame p0]⟩):=fun w os=>by kernel_rfl!
abbrev pK:Pos:=⟨929,0,945,16⟩
noncomputable abbrev sK (w:World) (os:OsState):Shared:=SharedT.abs ⟨tree_1321 w.params,1238,{},⟨[]⟩,{},2186,os⟩
theorem ahm:∀(w:World) (os:OsState),topRun treeTable pw w 11 (some (.ref 6)) 2 (sK w os) (restOf [] env_1 cE pK [topFrame p0])=some (sK w os):=fun w os=>by kernel_rfl!
theorem ahn:∀(w:World) (os:OsState),segRun treeTable pw w 11 (some (.ref 6)) 1 1 (sB w os) (blockOf (behindTheImports pw) env_1 cE p0 [topFrame p0])=some (.next,sB w os,cE,p0):=fun w os=>by kernel_rfl!
noncomputable def HU:List Stmt:=sts_4++(sts_31++(sts_37++(sts_61++(sts_85++(sts_144++(sts_204++(sts_211++(sts_289++(sts_348++(sts_372++(sts_396++(sts_434++(sts_493++(sts_538++(sts_595++(sts_640++(sts_717++(sts_767++(sts_859++(sts_925++(sts_944++(sts_996++(sts_1047++(sts_1135++(sts_1138++(sts_1197++(sts_1284++(sts_1305++ []))))))))))))))))))))))))))))
theorem aho:behindTheImports pw=HU:=by kernel_rfl!
def hV:List Str:=([
 "Unreadable","need","MOST_PARTS_expressions","MOST_LEVELS_expressions","RANKS","LOWEST_RANK","COMPARISON_RANK","HIGHEST_RANK","SIGNED_KINDS","ARGUMENT_COUNTS",
 "Part","Expression","Draft","read_expression","read_whole","read_if","read_operators","read_signed","read_atom","read_number_or_placed",
 "read_call_or_occurrence","read_arguments","BLANKS","SIGNS","WORDS","DIGITS","GREAT_LETTERS","SMALL_LETTERS","MOST_NAME_BYTES","MOST_DIGITS","is_digit",
 "is_great_letter","is_small_letter","is_letter","is_letter_or_digit","written","end_of_digits","end_of_letters_and_digits","number_token","name_token",
 "split_tokens","Reader","Symbol","Rule","Production","Grammar","named","read_grammar","read_symbol","read_production","read_rule","read_target","Instance",
 "Tree","first_instances","build_instances","build_instance","find_meanings","meaning","LARGEST_NUMBER","MOST_PARTS_outcomes","MOST_DEPTH","WRONG_KIND",
 "OUT_OF_RANGE","DIVISION_BY_ZERO","NO_SUCH_PLACE","TOO_LARGE","Fault","is_fault","is_number","is_list","members_of","parts_of","depth_of","number_or_fault",
 "list_or_fault","flat_form","MOST_SYMBOLS","MOST_ATTRIBUTES","MOST_PRODUCTIONS","MOST_CHILDREN","MOST_RULES","check_grammar","all_different","check_symbols",
 "check_productions","to_be_defined","check_targets","check_expression","check_trees","MOST_NODES","MOST_LEVELS_trees","Node","read_tree","read_node",
 "read_number","goes_on","check_children","negative","plus","minus","times","quotient","remainder","opposite_truth","less","greater_one","lesser_one",
 "listed","equal","has","joined","length","member_at","dropped","is_pair","looked_up","OF_NUMBERS","OF_ANY","operate","worth","truth","worth_of_if",
 "worth_of_pair","worth_of_operation","GIVEN_OUTCOME","Message","Work","owners_of","home_of","receivers_of","users_of","is_ready","outcome_of","put_on_wire",
 "send_outcome","work_out","work_out_ready","deliver_message","double_message","forget_all","resend_known","take_turn","take_all_turns","count_unknown",
 "count_ready","BEGIN","MOST_BYTES","MOST_WORKERS","MOST_WORKED_OUT","FULL_WIRE","NOT_KNOWN","TEXT_TOO_LONG","NO_GRAMMAR_TEXT","NO_GRAMMAR_HELD","NO_TREE_TEXT",
 "NO_TREE_HELD","NOT_BEGUN","CUT_ALREADY","BEGUN_ALREADY","NO_SUCH_NODE","TOO_MANY_WORKERS","NO_SUCH_ATTRIBUTE","NO_SUCH_WORKER","WRONG_MOST","WIRE_IS_FULL",
 "NO_SUCH_MESSAGE","Desk","is_place","is_full","refusal_of_instance","call_grammar","call_tree","call_cut","call_begin","call_home","call_work",
 "instance_pair","call_wire","call_deliver","call_double","call_lose","call_forget","call_resend","call_all","call_knows","call_status","CALLS","TEXT_CALLS",
 "NUMBER_COUNTS","answer_call"]:List String).map Str.ofString
theorem HV:∀P:Params,(hf P).nsKeys mainGlobals=startupNames++(hV++ [Str.ofString "answers"]):=fun P=>by kernel_rfl!
noncomputable abbrev sF (w:World) (os:OsState):Shared:=⟨hf w.params,⟨[]⟩,{},2186,os⟩
def qv:Program:={pw with main:={pw.main with body:= [pw.main.body.getD 204 (.Pass p0)],scope:={pw.main.scope with names:= []}}}
theorem ahp:∀P:Params,staticsOk (importedModules pw.main.body) (boot_heap P) (hf P)=true:=fun P=>by kernel_rfl!
theorem ahq:∀P:Params,laidKept (boot_heap P) (hf P)=true:=fun P=>by kernel_rfl!
theorem ahr:∀w os,gensDone (sF w os)=true:=fun w os=>by kernel_rfl!
theorem ahs:∀w os,seen ((recsOf qv).map (·.name)) (ownsOf qv) [] {sF w os with gens:=#[]}=expectedOf qv:=fun w os=>by kernel_rfl!
theorem aht:∀P:Params,(hf P).bltView=bltViewBooted:=fun P=>by kernel_rfl!
theorem ahu:∀P:Params,(hf P).accountedOkI (importedModules pw.main.body)=true:=fun P=>by kernel_rfl!
theorem HW:∀P:Params,(hf P).isNs mainGlobals=true:=fun P=>by kernel_rfl!
theorem ahv:∀P:Params,(hf P).isNs builtinsNs=true:=fun P=>by kernel_rfl!
theorem ahw:∀P:Params,tablesOk qv (hf P)=true:=fun P=>by kernel_rfl!
theorem ahx:∀w os,tabsOk qv (sF w os)=true:=fun w os=>by kernel_rfl!
theorem ahy:∀w os,pinSeenD qv (drecsOf qv) (sF w os)=pinGoodD (drecsOf qv):=fun w os=>by kernel_rfl!
abbrev vW:Shared→Bool:=fun s=>xlAt qv [] s && recOk [] s
theorem ahz:looseW qv hV=hV:=by kernel_rfl!
theorem ahA:(recsOf qv).map (·.name)= [Str.ofString "answers"]:=by kernel_rfl!
theorem ahB:∀w os,plainSeenE qv (looseW qv hV) (sF w os)=plainGoodE qv (looseW qv hV):=fun w os=>by kernel_rfl!
theorem ahC:∀w os,plainSeenD qv hV (sF w os)=plainGoodD qv hV:=fun w os=>by kernel_rfl!
theorem ahD:∀w os,wideSeen qv (sF w os)=wideGood qv:=fun w os=>by kernel_rfl!
theorem ahE:∀w os,clsSeenW qv hV (sF w os)=clsGoodW qv hV:=fun w os=>by kernel_rfl!
theorem ahF:∀w os,vW (sF w os)=true:=fun w os=>by kernel_rfl!
theorem ahG(l x:List Str)(n:Str)(lo:List Str)(rn li cl:List Str)(h:Heap)(e:h.nsKeys mainGlobals=startupNames++(lo++ [n]))(hr:rn= [n]):h.keysOk lo rn li cl=true:=by
 unfold Heap.keysOk
 rw [e,List.all_eq_true]
 intro k hk
 simp only [Bool.or_eq_true,List.contains_iff_mem]
 rcases List.mem_append.mp hk with hk|hk
 ·exact .inl (.inl (.inl (.inl hk)))
 ·rcases List.mem_append.mp hk with hk|hk
  ·exact .inl (.inl (.inl (.inr hk)))
  ·rw [hr];exact .inl (.inl (.inr hk))
theorem ahH(P:Params):(hf P).keysOk (looseW qv hV) ((recsOf qv).map (·.name)) ((litsOf qv).map (·.1)) ((clssOf qv (looseW qv hV)).map (·.name))=true:=
 ahG [] [] (Str.ofString "answers") _ _ _ _ _ (by rw [ahz];exact HV P) ahA
theorem ahI:pw.boundNames=Str.ofString "__name__"::(hV++ [Str.ofString "answers"]):=by kernel_rfl!
theorem ahJ(P:Params):namesBound pw (hf P)=true:=by
 unfold namesBound
 rw [HW,HV,ahI,Bool.true_and,List.all_eq_true]
 intro k hk
 rw [Bool.or_eq_true,List.contains_iff_mem,List.contains_iff_mem]
 rcases List.mem_append.mp hk with hk|hk
 ·exact .inl hk
 ·exact .inr (List.mem_cons_of_mem _ hk)
theorem ahK:opening pw=plainProg pw.main.scope.names:=by kernel_rfl!
theorem ahL:∀s:Shared,fenceModules? pw s=some s:=fun s=>by kernel_rfl!
theorem ahM(w:World)(os:OsState):topRun treeTable pw w 11 (some (.ref 6)) 9622 (s0 w os) (topStub pw)=some (sF w os):=by
 have e:sK w os=sF w os:=congrArg (fun h=>(⟨h,⟨[]⟩,{},2186,os⟩:Shared)) (ahk w.params)
 rw [←e]
 exact go_top (N:=9610) (ahl w os) (piece_block (N:=9609) (ahn w os) (by
  have k:=tops.chain pw (behindTheImports pw) w os [] 2 (sK w os) (ahm w os)
  have e:restOf (behindTheImports pw) env_1 cE p0 [topFrame p0]=restOf HU env_1 cE p0 [topFrame p0]:=congrArg (fun l=>restOf l env_1 cE p0 [topFrame p0]) aho
  rw [e]
  exact k))
theorem ahN(w:World)(os:OsState):openSeen qv hV (importedModules pw.main.body) vW true (sF w os)=openGood qv hV:=by
 unfold openSeen openGood
 have h:=ahH w.params
 rw [ahs,show (sF w os).heap=hf w.params from rfl,aht,h,ahu,HW,ahv,ahw,ahF,ahx,ahy,ahB,ahC,ahD,ahE]
 rfl
theorem left:LeftO pw qv hV vW (fun s=>s.heap) (fun w=>hf w.params) 20000:=
 LeftO.of_pieces (H₀:=boot_heap) (H₁:=hf) (gs₀:=⟨[]⟩) (gs₁:=⟨[]⟩) (d₀:=boot_drawn) (d₁:={}) (k₀:=boot_toks) (k₁:=2186) (m₀:=11) (ann:=some (.ref 6)) (M:=9622)
  (boot_open ahK (by decide) ahL) (fun w=>by kernel_rfl!) ahM (by decide) (fun w=>by
   funext os
   have e:(⟨hf w.params,⟨[]⟩,{},2186,os⟩:Shared)=sF w os:=rfl
   rw [e,ahp,ahJ,ahr,ahq,ahN]
   rfl)
def vX:Nat→List Obj→Frag
 |_, []=> []
 |n,o::r=>(n,o)::vX (Nat.succ n) r
theorem HX{a:Nat}{o:Obj}:∀(l:List Obj) (n:Nat),(vX n l).lookup a=some o→n≤a∧l[a - n]?=some o
 | [],_,h=>by cases h
 |x::r,n,h=>by
  have h':(match a==n with|true=>some x|false=>(vX (n+1) r).lookup a)=some o:=h
  cases e:a==n with
  |true=>
   rw [e] at h'
   have:a=n:=beq_iff_eq.mp e
   subst this
   exact ⟨Nat.le_refl _,by rw [Nat.sub_self];exact h'⟩
  |false=>
   rw [e] at h'
   obtain ⟨h1,h2⟩:=HX r (n+1) h'
   refine ⟨Nat.le_of_succ_le h1,?_⟩
   have z:a - n=(a - (n+1))+1:=by have:n+1≤a:=h1;omega
   rw [z]
   exact h2
def ahO(o:Obj):Bool:=match o.data with| .freed=>false|_=>true
theorem ahP:∀P:Params,KF P=vX 0 (objs P):=fun P=>by kernel_rfl!
theorem ahQ:∀P:Params,(objs P).all ahO=true:=fun P=>by kernel_rfl!
theorem ahR(P:Params):(KF P).In (hf P):=fun a o e=>by
 rw [ahP] at e
 obtain ⟨_,h⟩:=HX _ _ e
 have hl:=List.all_eq_true.mp (ahQ P) o (List.mem_of_getElem? h)
 have h3:(hf P).objs[a]?=some o:=by rw [Nat.sub_zero] at h;exact (List.getElem?_toArray (xs:=objs P) (i:=a)).trans h
 unfold Heap.get?
 rw [h3]
 obtain ⟨c,d,da,sl⟩:=o
 cases da<;>first|rfl|cases hl
abbrev tw(w:World)(h:Heap):Prop:=(KF w.params).In h
theorem hYF:∀(w:World) (s:Shared),s.heap=hf w.params→tw w s.heap:=fun w s e=>by rw [e];exact ahR _
theorem ahS:∀(w:World) (h h':Heap),tw w h→(∀b o,h.get? b=some o→h'.get? b=some o)→tw w h':=fun w h h' x k=>Frag.In.keeps x k
theorem ahT:(chainsOk qv && opensWell pw)=true:=by rw [ahj];decide+kernel
theorem ahU:∃args,ayj.pre args=true∧WData.layableAll args=true:=⟨[.list [.int 3]],by decide+kernel,by decide+kernel⟩
theorem ahV{d:DefRec}{kwd:List (Str × PySem.Expr)}(hdef:defOf qv zzn=some (d,kwd))(hp:pw.theDef zzn=some (d.params,d.body,d.scope))(hk:kwWritten? d.params.kwonlyargs d.params.kw_defaults=some kwd)
  (call:WalkOS qv hV (XL qv []) tw ayj d kwd fun f vs=>PySem.call f vs):ayj.Holds:=
 holds_os (r:=ayj) (q:=qv) (loose:=hV) (Xt:=vW) (XP:=XL qv []) (Yf:=fun s=>s.heap) (Ya:=fun w=>hf w.params) (YP:=tw) (N:=20000) left hYF ahS
  (fun s e=>xl_of s (Bool.and_eq_true_iff.mp e).1) XL.keeps hdef hp hk (fun s e=>recFacts_of (Bool.and_eq_true_iff.mp e).2) os_shapes HS ahT ahi ahU call
end TW
end
section
set_option hygiene false
set_option compiler.extract_closed false
open Lean
def zzF:String->String
|"a"=>"length"|"h"=>"params"|"j"=>"heap"|"l"=>"size"|"o"=>"map"|"q"=>"trans"|"u"=>"mono"|"v"=>"objs"|"x"=>"world"|"y"=>"sub"|"B"=>"lookup"|"C"=>"toArray"|"E"=>"get?"|"H"=>"env"|"J"=>"symm"|"L"=>"toNat"|"Q"=>"drop"|"R"=>"mp"|"S"=>"names"|"U"=>"inst"|"Y"=>"take"|"Z"=>"name"|"aa"=>"kids"|"ab"=>"wire"|"ac"=>"prog"|"ad"=>"keep"|"ag"=>"bind"|"ah"=>"text"|"ai"=>"nodes"|"al"=>"elim"|"am"=>"Nodup"|"an"=>"fresh"|"ap"=>"typeIs"|"as"=>"isSome"|"au"=>"base"|"av"=>"push"|"aw"=>"home"|"ay"=>"eraseIdx"|"az"=>"getD"|"a7"=>"good"|"bb"=>"parts"|"bc"=>"takeWhile"|"bh"=>"kind"|"bj"=>"isEmpty"|"bm"=>"minds"|"bn"=>"filter"|"bo"=>"left"|"br"=>"cells"|"bv"=>"weak"|"by"=>"toList"|"b0"=>"prods"|"b3"=>"rules"|"b4"=>"usesOwn"|"b6"=>"locals"|"b7"=>"handled"|"b8"=>"syms"|"ca"=>"reverse"|"cd"=>"find?"|"ce"=>"occs"|"ch"=>"scope"|"ci"=>"parent"|"cj"=>"isList"|"cm"=>"freeze"|"cr"=>"gram"|"cs"=>"cuts"|"cu"=>"small"|"cv"=>"isSign"|"cw"=>"objs.size"|"da"=>"free"|"db"=>"downs"|"dd"=>"alloc"|"de"=>"sent"|"dj"=>"tuple"|"dk"=>"expr"|"dl"=>"list"|"dm"=>"kept"|"dn"=>"data"|"do"=>"toks"|"ds"=>"frames"|"du"=>"wire.length"|"dz"=>"resolve_left"|"d1"=>"stack"|"d7"=>"filterMap"|"d8"=>"place"|"d9"=>"IsListIter"|"ed"=>"units"|"eg"=>"setIfInBounds"|"ei"=>"contains"|"ej"=>"kindOf"|"em"=>"bare"|"en"=>"flatMap"|"eo"=>"minds.length"|"ep"=>"turned"|"es"=>"TypeIs"|"ev"=>"IsList"|"ew"=>"dropWhile"|"ey"=>"above"|"e0"=>"both"|"e1"=>"cps.toList"|"e3"=>"depth"|"e6"=>"cell"|"e7"=>"update"|"e8"=>"extBut"|"e9"=>"calm"|"fd"=>"findIdx?"|"fl"=>"FunFrames"|"fo"=>"keeps"|"fp"=>"foldl"|"fq"=>"great"|"fv"=>"laid"|"fw"=>"flat"|"fy"=>"mem_iff"|"fz"=>"there"|"f0"=>"line"|"f1"=>"stop"|"f2"=>"EqAt"|"f4"=>"start"|"f8"=>"append"|"gb"=>"deeper"|"ge"=>"args"|"gg"=>"moved"|"gh"=>"prod"|"gi"=>"endLine"|"gj"=>"readsAll"|"gk"=>"need"|"gl"=>"isNone"|"gt"=>"outer"|"g0"=>"IsSliceOf"|"g1"=>"IsKeyIter"|"g2"=>"IsValIter"|"g3"=>"tail"|"g4"=>"fmod"|"g5"=>"frame"|"g6"=>"refl"|"g7"=>"sameBut"|"he"=>"glob"|"hi"=>"reads"|"hj"=>"target"|"hk"=>"equation"|"hl"=>"DictOf"|"hm"=>"EqNone"|"ho"=>"weight"|"hp"=>"slot"|"hq"=>"right"|"hr"=>"attrs"|"hs"=>"write"|"hw"=>"sublist"|"hz"=>"step"|"h0"=>"same"|"h1"=>"extBut.push"|"h2"=>"look"|"h3"=>"SetOf"|"ib"=>"dropLast"|"ic"=>"mapOf"|s=>s
def zzN:Name->Name|.str .anonymous s=>.str .anonymous s|.str p s=>.str (zzN p) (if s.utf8ByteSize>2 then s else zzF s)|n=>n
def zzG(a:Type):=Syntax->a
instance:Monad zzG where
 pure a:=fun _=>a
 bind x f:=fun u=>f (x u) u
instance:MonadQuotation zzG where
 getRef:=fun r=>r
 withRef _ x:=x
 getCurrMacroScope:=fun _=>0
 getContext:=fun _=>.anonymous
 withFreshMacroScope x:=x
abbrev zzT:=Array (zzG Term)
abbrev zzV:=String×zzT
def zzU:MacroM Term:=Macro.throwUnsupported
def zzu:zzG Term:=fun _=>⟨.missing⟩
def zzD(s:String):Term:=if s.front=='\'' then Syntax.mkStrLit (s.drop 1).toString else if s.front=='.' then ⟨mkNode `Lean.Parser.Term.dotIdent #[mkAtom ".",mkIdent (s.drop 1).toString.toName]⟩ else if s.front.isDigit then Syntax.mkNumLit s else mkIdent s.toName
def zzI_:zzV:=(".ref,List,?,.int,?,!,.lst,?,?,p.h,.inl,?,Option,!,?,Inv,.ins,?,!,!,Nat,.str,aD.of,Int,.inr,V.int,Gives,Zh y,.tup,FnAt,j.H,top,'self,all,v.j.v.l,.bl,.aV,'number,u.n,Tok,j.K,V.ref,Sub,.nil,j.ac,j.w,.type,'work,l.x,RelV,?,?,L.a,.cons,'name,u.a,'desk,?,?,v.j,α.a,.dT,'numbers,O.a,bV.R,'kind",#[`(by k_is),`(by decide+kernel),`(by lia),`(by simp),`(by decide),`(by cbv),`(Prop),`(x.2),`(by lk),`(by rfl),`(x.1)])
def zzJ_:zzV:=(".none,W.ok,?,.b_,eval,.builtin,a.cl,L.u,v.j.E,t.ah,zb.l,B.bK,R.tr.cl,'tree,?,base,'grammar,a.U,.list,j.A,bS.of,'production,v.j.av,u.i,Wa n,_aU bb,.own,v.L,'place,'nodes,β.W,.ok,cB.R,pure,.alloc,'instance,.dK,w.h,cM.R,k.y,Zi z,?,_bH O,s.j.v.l,?,'list,.Name,We h,?,?,G.a,l.o,.Call,v.u,O.y,?,k.a,ι.x,N.ab.a,?,Paired.d!,j.mg,'__init__,'text,'part,'symbols",#[`(Type),`(Iu × aL),`([I_]),`(s.2),`(o.1),`(o.2),`(Hp->WI VK),`([LE])])
def zzK_:zzV:=("'node,.put,?,?,?,?,t.bh,a.aw,V.str,a.a,?,b6.R,X.ac,X.w,B.tok,'len,'value,'reader,?,φ.S,Wv z OX,?,h.E,.cell,w.j.v.l,Kept,a.no,?,Array,π.a,!,!,'own,R.Y,'outcomes,Z' be,!,ψ.a,X.A,'tuple,len,zi.a,'children,N.o,Sym.S,!,d.C,!,'enumerate,j.eH,?,'arguments,?,Yb V,Wi q,none,.free,X.xe,'attribute,Yb aa,Wa i,j.xe,HT.cq,r.ap,u.z,Wa v",#[`([Oa]),`([MR]),`([To]),`(s.1),`([O]),`(#[]),`([v]),`(p.1),`(by intro z;cases z),`((I6).ah)])
def zzL_:zzV:=("X.H,'reversed,?,x.bb,A.E,B.dl,F.ok,G.t.cl,G.t.no,?,_bY R,t.cv,push,n.L,O.o,s.j,B.ef,a.y,.refl,!,'instances,?,_b1 lo,?,?,j.a,Δ.aa.a,P.x,.bad,.Attribute,'draft,T.a7,A1.a7,.val,'parent,'equation_node,'cuts,?,Expr,u.Q,.app,l.a,r.aw,'max,en.R,ω.Q,'need,'target,take_snoc,?,F.kp,?,?,?,!,?,?,nameAt,N.ab,.dict,.local,j.au,B.dj,C.a,'set,k.o",#[`(ad.2),`(A.1),`(h.2),`(g.1),`(A.2),`(Θ.1),`(by kernel_rfl),`([Kr]),`([IG]),`([Kq]),`(p.2),`(v.2)])
def zzM_:zzV:=("k.q,R.td.cl,R.td,!,'expression,m.dst,'worker,?,YJ G,WG e e,!,?,Wa q,?,t.cu,p.bo.Z,g.b8.a,Sym.e0,c.cr,?,h'.E,step,f.a,eM.mpr,'occurrences,'uses_own,l.cs,'known,m.U,.of,We z,WL ah,i.aa,f.o,s.Z,B.e6,.bool,B.ok.hd,zv.nx,Binds,numsOf,'end,'productions,'outcome,μ.in1,!,O.q,Wa Mf,!,?,_cg L,r.a,b.a,n.Z,!,!,j.H.b6,B.h5,B.em,ze.dn,s.do,V.bl,μ.b7,PW.pt,'top,Go.dd",#[`(dn × g6),`(["holds"]),`(z.1),`(by simp at h),`([n])])
def zzN_:zzV:=("'receiver,N.pr,Wa J6,_b_ n,!,?,_cm Iu,Bool,Seg,?,C.E,B.bK.an,v.a,'int,'dict,α.j.v.l,'small,'left,!,θ.d,q.num,'equation,WI aa,_aV 2,We j,?,c.ex,GoodW,N.de,r.U,L2.V,.seq,L.o,B.da,B.pin,j.e9,N.a,names,zx.l,'great,a.ad,δ.y,'holds_number,'rules,θ.g,'sender,'firsts,WI Hp,Z' d,Xk iX,?,zz.a,.num,g.b0,t.l,N.bm.a,zn.U,B.ok.bh,B.os,j.H.ch,G.nx,Φ.C,.tuple,'start,F.dZ,'occurrence",#[`(t.2),`(by simpa using W),`([IV]),`(r.1)])
def zzO_:zzV:=("'values,ζ.y,b.ay,d.go,?,?,?,?,?,_bS e,!,Wa b,_b? a,?,e.ce,!,k.Q,!,B.au.da,a.o,C.o,d.C.l,m.key,'if,a.ext,?,Xj MC,Wa _A!,ZV i,ZZ O,XO W,Wv h On,Yq 1,Wi n,?,Wa m,?,?,kx.R,cM.mpr,'range,j.H.br.B,?,Reads,r.ge,ω.Y,zp.ah,δ.a,x.b4,z.al,'worth,'owners,'homes,u.w.cl,u.w.no,β.T,w.bm,k.l,T.gk,Xq Iu,?,_aw No L7 Ks,_aD s,?,Wx I,Wc b",#[`('e'),`(-999999999999999999),`([IL]),`(α.2),`(Xs%Wy m),`(by cases h),`(WU []),`([Jq]),`(Z'%Ib be),`(by simpa using h),`(by rw [eK];decide),`(show ay=ag from p),`(λz=>_Dl)])
def zzP_:zzV:=("Wg L,Yq 2,?,i.aa.a,p.aa.a,iter,zk.a,h.v.l,M.S.B,B.ok.ey,j.d1,B.len,B.loc,.BoolOp,φ.S.B,'then,'else,a.bg,R.kk,'read_whole,'down,!,'up,'things,'is_fault,'members,!,'meanings,!,'messages,!,'above,!,?,!,t.ext,zr.lm,'home,kq.nd,ints1,!,'answers,Xq St,Wg α,!,!,Yb i9,Wa Kh,!,Wa s,Yq 4,?,Z1 x A,?,?,Except,.ite,p.own,zH.a,okNode,False,r.dk,W.ai.a,i.num,j.fs,j.H.ch.S.B",#[`((JS).1),`(by omega),`(ad.1),`([_Da]),`(v.1)])
def zzQ_:zzV:=(".Tuple,.Subscript,r.In,π.zip,kindOf,start,j.H.br,h.br.B,.ListComp,θ.o,N.val,'__next__,ω.a,δ.Q,all.a,'take,a.off,G.len,θ.r,?,S.ha,'child,ι.y,G.pl,ly.nd,We δ,?,Zr l,Wt y,We e,WA f,?,?,_cp v,_cr g,c.bi,r.bc,g.b8,strip,l.bn,W.cr,zn.aw,o.dn,B.ok.jc,?,κ.f0,V.bK.an,W.cj,v.es,'min,γ.o,.ret,'is_digit,S.fr,'sees,T.g.q,T.O.y,A2.a7,A3.a7,'read_signed,'read_operators,δ.u,'is_number,'number_or_fault,zu.g4,N.nd",#[`(by unfold bE at p;show p.al),`([x]),`([J']),`(zP.1),`(by simp [z])])
def zzR_:zzV:=("g.ad,μ.y,TT.cl,!,TT.no,m.val,β.c,'message,'most,?,Wy _A',Xq It,_aU aa,Yb ah,Wa _Go,Wa _EW,XX u,_ak e,X3 x,We R,?,?,?,?,Tree,j7.mpr,g.b8.o,Δ.aa,!,i.ci,N.bm.set,.function,!,X.H.br.B,s.j.E,B.ok.bs,j.pn,B.au.fz,B.au,.Constant,B.dm,B.fv,'isinstance,μ.ed,B.ok.ds,z3.C,γ.L,B.oi,'StopIteration,?,F.In,'is_great_letter,α.Q,S.tx,!,x.ce,.start,'read_arguments,A3.g,'lowest,l'.nd,'attributes,θ.s,'symbol_called,a.aa,'truth",#[`(z.2),`((I6).Z),`((Rj).1),`(zP.2),`(a1.2),`(by size_fits)])
def zzS_:zzV:=("'member,S.hn,α.cl,α.no,μ.q,b.bo.Z,k.an,ε.y,T.cl,T.no,'list_or_fault,'users,β.F,w.obj,without,!,'flat_form,?,?,!,Wo I8,_bH ξ,Xq Nh,Wx P8,Wc NK,Wc I8,Zh P8,?,X5 _Fg,Y0 _Fg,ZE 62,ZE 63,ZF L,_bQ 1,Zr z,Wx y,Yq 3,_bQ 0,Zq 1,Wi 1,?,!,?,?,?,?,?,?,?,?,?,t.fq,b6.mpr,k.ci,r.dk.ce,.fields,more,X.H.b6,B.au.ad,B.ok.mX,B.au.hp,B.au.iS,B.ok.has,B.ok.mW,.NotIn,.Add",#[`({s with heap:=C}),`((Rj).2),`(rb ..),`([OD]),`((IY).1),`((Ss).2),`([_Gw]),`(st.1),`((IY).2),`([J?]),`(α.1),`([ξ]),`(by unfold fu;lia)])
def zzT_:zzV:=("'dict_itemiterator,?,vals1,gg.R,v.j.e7,.set,v.j.ev,'all,Dp.hi,j.A.ed,.error,d.ic,d.ap,j.ou,'byte,'is_letter,'split_tokens,ox.nd,zp.cu,'skips,HO.lst,'negative,?,'read_number_or_placed,R.part,'closing,!,R.sees,A4.a7,!,!,'read_call_or_occurrence,!,'read_atom,!,'read_if,!,!,'read_expression,!,!,!,T.off,!,!,!,T.rd,'read_grammar,!,'named,'members_of,?,j.len,β.hn,'read_tree,!,g0.R,'all_different,'symbol,oH.nd,'check_grammar,InstAt,c.ad,'operate,'worth_of_if,'worth_of_pair",#[`(by simp [t]),`(by unfold cV at p;show p.al),`(by unfold bE at h;show h.al)])
def zzU_:zzV:=("'worth_of_operation,ι.cs,owners,c.bg,β.I,w.fm,zr.h!,'is_ready,'put_on_wire,'send_outcome,'deliver_message,'work_out_ready,α.aw,!,'refusal_of_instance,'instance_pair,r.ty,G.ca,Wf j.N,?,Xs JB,WA IN,WA Iu,_aU ah,?,?,numOf,after,Raw.bo,c.ai,G.w.rF,χ.bm.a,L2.be,base.Ns,'__name__,B.ok.kN,B.ok.mY,B.au.hu,B.au.jE,B.ok.inj,B.ok.he,.Compare,o.cls,'object.__class__,B.ok.mod,P.zip,?,'sum,e3.mpr,?,'is_small_letter,'is_letter_or_digit,'written,'end_of_digits,'end_of_letters_and_digits,'number_token,'run,'name_token,zp.bh,k.ext,'has,T.g.bg,A5.a7,?,T.g.y,'read_target",#[`((I6).pos),`([m]),`(by rw [fF];lia),`(by rw [dF];lia),`(by cases x),`(by simp;lia)])
def zzV_:zzV:=("Ar.f4,'read_rule,'read_symbol,'read_production,u.d.cl,u.d.no,'rule,'is_list,'parts_of,'depth_of,L2.f4,'is_pair,'is_place,'is_full,'read_number,'goes_on,nodeOf,'read_node,β.ha,'check_children,.fresh,'names,'check_symbols,'check_productions,'check_expression,'check_trees,'to_be_defined,'check_targets,!,'count,'first_instances,'meaning,'build_instance,'build_instances,'find_meanings,qq.nd,!,w.j.av,'owners_of,'home_of,'receivers,'receivers_of,'users_of,u.t.cl,u.t.no,'outcome_of,'work_out,'double_message,'forget_all,'count_unknown,'count_ready,'resend_known,χ.ab.Q,'take_turn,'take_all_turns,qC.nd,?,'call,'answer_call,Xi _Dl,WL _EC,_a5 O5,WA dk,W1 J4,Wg zi,?",#[`(by rw [vQ,vR];kernel_rfl),`((_bF P8).al)])
def zz_A_:zzV:=("?,?,?,?,p.aa.o,wants,a.aa.o,eq_of_beq,DecidableEq,C.node,A.v.l,j.hv.j.v.l,B.ok.iq,B.ok.blt,.Assign,u.obj,again,'abs,μ.under,'type.__call__,F.len,?,'slice,d.any,f.get,k.unlock,'digits,?,zp.fq,'next_kind,'leave,a.new,jj.go,T.O.d,?,A5.g.y,r7.nd,'symbol_at,w.mem,g.ext,r'.nd,b.g.cl,sb.nd,e.so.len,sf.nd,?,d.v.l,l.x.ai.a,sr.nd,su.nd,sA.nd,η.dk.ce,r.to.o,χ.ab,sD.nd,χ.ab.a,ε.ad,s.net,onMsg,?,'__length_hint__,'reversed.__length_hint__,'handed,Wi Jk,?,Wx True",#[`((P2).az),`((-γ)),`((-zu)),`(by rw [S];rfl),`(by simpa using A),`(by unfold eb;cbv),`(by rw [tj]),`(#[m.key,m.val]),`(by rw [AV];kernel_rfl),`((MC).1)])
def zz_B_:zzV:=("?,?,?,lD.mpr,jo.mpr,s.db.o,s.ups.o,?,ρ.b0.o,g.b0.a,i.bo.Z,P.x.ai.a,lookIn.eq_3,GT.many,X.hv.j.v.l,GenState,v.j.Ns,M.gens,spliced,?,?,'object,zj.atName,?,'__getitem__,?,d.C.any,typeOf,IntsAre,'dict_keyiterator,μ.in1.b7,C.C.by.o,B.ok.n9,B.ok.n_,'BaseException,'take_all,'enter,T.D.top,T.D.rd,?,?,R.enter,R.leave,A1.g.bg,A2.g.bg,du.mpr,R.next,?,z.u,ξ.ext,'Reader,u.g.cl,u.s.cl,u.s.no,'production_called,'equation_of,?,'plus,'minus,'times,'quotient,'remainder,'greater_one,'lesser_one,'opposite_truth,'less",#[`([A]),`(by simp [lA]),`(by rw [cG];lia),`(by unfold nameAt vf;cbv),`(by simp;omega),`(by rw [e];show lM),`(by simpa using R),`(by simpa using S),`(by rw [lA]),`(by rw [px]),`(by simp [h]),`(by unfold bE;trivial)])
def zz_C_:zzV:=("'length,'member_at,'equal,'looked_up,'wanted,?,b.g.no,a.aa.a,a.b3.a,β.ups,gg.mpr,b.aa.o,.of_wp,?,zW.ups.o,TW.cnt,e.so.at_,'default,toString,tryCatch,'listed,'joined,'dropped,'put_count,e.fix.gp.n4,e.fix.e?,u.i.cl,u.i.no,'sent,a.to.a,'call_forget,'call_resend,'call_all,'call_status,'call_work,'call_double,'call_lose,a.t.cl,a.t.no,'call_home,d.fix.tree,'call_deliver,'call_knows,'call_wire,'call_cut,'call_begin,zQ.net,.forget,.status,.resend,.double,.deliver,.knows,'reversed.__next__,'reversed.__iter__,'call_grammar,'Unreadable,?,'call_tree,WI az,?,?,?,Xb h.ext,Wo zB.a,Wi 3000",#[`(by rw [aQ];lia),`(by rw [ar,dW];rfl),`(by unfold AW;lia),`(-1000000000000000000),`(by have:=r.un;lia),`(ar (f:=x))])
def zz_D_:zzV:=("?,?,Decidable,?,?,?,mostProds,?,?,?,builtinsNs,?,?,storeName,wpAny_Name,B.mod.he.fo,.UnaryOp,inplaceOp,V.dm,?,'__setattr__,'object.__setattr__,bindArgs,?,?,Subscript_,seqIndex_of,seqIndex_neg,typeIs_str,len_tuple,'method_descriptor,'list.append,intItems,?,?,mem_lookup,?,compPost,?,?,r.ret.enc,?,'0123456789,'ABCDEFGHIJKLMNOPQRSTUVWXYZ,'abcdefghijklmnopqrstuvwxyz,?,'tokens,'part_count,'level_count,?,?,'ARGUMENT_COUNTS,'SIGNED_KINDS,?,?,?,?,?,?,TW.take_snoc,wpAny_loadPart','sorted,'max.loop,seqItems?,'dict_values,'dict_items",#[`(-13),`((z▸W)),`(by simpa using l),`(by simp [q]),`(by simpa using T),`(by rw [e];rfl),`(by unfold fB;trivial),`(nomatch e),`(nomatch z),`(by rw [e];simp),`(by rw [e_];simp),`(by simpa using D),`(«leaving»),`(by simpa using i),`(by simpa using g),`(by rw [←Q];rfl),`(by rw [hd];show eT),`(by rw [g];simp),`(by cases z),`(by unfold cT;rw [bL,W];rfl),`(by rw [z];show i),`(by unfold dS at p ⊢;lk),`(by rw [cG,ph];lia),`(by unfold eY cW at d;show d),`(by unfold dV iN iO;rfl),`(by unfold e5 nY nX;rfl),`(by rw [z,ar] at V;cases V),`(by rw [iI])])
def zz_E_:zzV:=("?,e.fix.gp.w,w.fix.len.J,numsOf_len,e.fix.me,'chosen,?,γ.x.ai.a,workStep,entryFor,?,?,?,?,Xm P.x.ai,?,?,?,?,?,?,?,?,?,?,?,?,?,Unit,?,'__classdict__,wpAny_loadName_local,wpAny_loadName_cell,wpAny_Compare1,?,wpAny_execs_cons,wpAny_assign_Name,?,'dict_reverseitemiterator,'odict_iterator,'itertools.zip_longest,'itertools.pairwise,?,B.ep,?,?,'getset_descriptor.__get__,recursionLimit,β.a,?,slicePart_none,wpAny_sequenceKey,entry_tuple_getitem,args_tuple_getitem,?,?,slot_list_getitem.B,?,?,F.entry_list_pop,?,?,?,?,?,wpAny_getItem_of",#[`(by rw [iI];rfl),`(by rw [aQ,eK];lk),`(by first|rfl|kernel_rfl),`({N with wire:= []}),`({o with slots:=A}),`(#[m,i, Ja]),`(by cases ψ with|nil=>cases h|cons t r=>simp),`(by cases x<;>rfl),`(by split<;>rfl),`(by simpa using q),`(by simpa [mine] using i),`(by rw [dX];rfl),`(by rw [j3] at R;lia),`(by unfold eE at d;cbv),`(by rw [ej];simp),`(by unfold hR;lk),`(by unfold strip;simp),`(by simpa using e),`(by subst z;rw [r] at mu;show mu),`(by simpa using B.len),`(by simpa using P),`(by rw [z];show W),`(by simpa using t),`(by simpa using d),`(by rw [aQ,eK];lia),`(by unfold start at R;lk),`(by rw [dF];show r.a.J),`(by unfold kW;cbv),`(by rw [dF]<;>lia),`(by rw [dF,dF];lia),`(by rw [←e];show c.numsOf),`(by simp [cS,fG,e]),`(by unfold f5;lk),`(by simp [q',fG,l]),`(by simp [pj,fG,l])])
def zz_F_:zzV:=("wpAny_notIn_of,wpAny_Dict_empty,?,F.slot_dict_iter,boot_enumerate,?,C.C,?,?,?,?,'Reader.next_kind,?,'Reader.skips,'Reader.take_all,?,'Part.__init__,'Expression.__init__,'Draft.__init__,?,'Reader.__init__,'Draft.occurrence,?,?,'HIGHEST_RANK,'COMPARISON_RANK,?,'Rule.__init__,'Grammar.__init__,'Production.__init__,'Symbol.__init__,?,'Grammar.symbol_called,'Grammar.production_called,'Production.symbol_at,'Production.equation_of,'Fault.__init__,?,?,?,?,'Message.__init__,'Node.__init__,'Instance.__init__,'Desk.__init__,?,?,?,?,?,?,?,?,?,codeAny_of_tree,?,f6.k,'enumerate.__new__,'object.__init__,?,?,PyProof.Rows.G.tupKeyC,'Tree.__init__,'dict_valueiterator,method_meetsIn,?",#[`(by rw [z,h] at q;cases q;show mu),`(by cases h;rfl),`(by rw [aQ];show D),`(by rw [dF];show D),`(by rw [ho];lia),`(by unfold cT;rw [aQ];show t),`(by rw [bL,N];rfl),`(by unfold cb;rw [aQ]),`(by unfold cV;trivial),`(by rw [r4,ac1,jy,ac2];show A4),`(by rw [oU];show β),`(by split<;>lia),`(by unfold lU;rw [χ];rfl),`(by unfold bE at p;cbv),`(by unfold cW at a;show a),`(by unfold iO at h;cases h),`(by unfold nX at h;cases h),`(by unfold hX;rw [α];rfl),`(by rw [r9];simp),`(by rw [ο];rfl),`(by rw [c];simp),`(by rw [bL,Q];rfl),`(by rw [bL,D];rfl),`(by unfold hI;simp),`(by rw [z];show σ),`(by rw [z];show za),`(by unfold i1;rw [aQ]),`(by unfold mJ;kernel_rfl),`(by rw [dF];omega),`(by unfold eY cW at x;show x)])
def zz_G_:zzV:=("?,?,?,?,?,?,'Work.__init__,?,?,?,?,?,?,?,m.src,'NO_TREE_HELD,'BEGUN_ALREADY,?,?,entryFor_of_tree,'TEXT_TOO_LONG,?,'calls,'NUMBER_COUNTS,?,?,'ValueError.__new__,?,?,?,?,?,?,?",#[`(by rw [z];show ζ),`(by rw [z];show cA),`(by rw [bL,X];rfl),`(by unfold gD;lk),`(by unfold bx;rw [dW];rfl),`(by rw [z];show ν),`(by rw [e] at V;cases V;show l),`(by unfold oO;rw [b];rfl),`(by rw [z];show α),`(by rw [z];show j),`(by rw [ag1];rfl),`(by rw [z];show Δ),`(by rw [zi];rfl),`(by rw [j];unfold HI;rw [α]),`(by rw [κ];unfold AU;rw [θ,ξ];rfl),`(by rw [dX] at α;show α),`(by rw [C];simp),`(by rw [aQ];show w),`(by rw [←NK];show z),`({α with heap:=O}),`(by have:=S.e?;lia),`({v with toks:=tk}),`(by rw [g.abu];rfl),`(by have:=r.dp;lia),`({s with heap:=c})])
def zzW_(a b c d e f:Term):zzT:=#[`(($a :Iu)),`(λ$a $b=>?_),`(Wi ($a :Iu)),`(λ$a $b $c=>?_),`(λ$a=>?_),`($a[q]?),`($a[i]?),`(∀b o,$a->$b),`(($a :Ix)),`(λ$a $b $c $d=>?_),`(X? ($a).fn E B F $b),`($a= []),`($a[M]?),`(λ$a $b $c $d $e=>?_),`($a<=bJ),`(if $a then $b else $c),`(WS 2 $a $b $c),`(Xh $a Z $b),`(($a).mpr $b),`(($a,?_)),`(cD (q:=$a) $b y $c),`(λ_ $a=>$b),`(Wz $a ag $b $c),`(λ_=>$a),`($a - 1),`(if $a=$b then $c else $d),`($a->Nh),`(Wa ($a).a),`(Ws $a z),zzu,`(λα=>$a),`($a->WI $b),`(Xp _ $a $b),`(Wd $a w $b),`($a->Ir),`(WS 1 $a $b $c),`(WS 3 $a $b $c),`($a->_C7),`(λ$a $b $c $d $e $f=>?_),`(_aw $a S3 $b),`(λα $a=>$b),`(λ$a d $b=>$c),`(ZM $a≠$b),`(b∉$a),`(ba (q:=$a) $b y $c $d),zzu,`((N, $a,)),`(Wr b $a),`(_bK $a _),zzu,`(b≠$a),`(a≠$a),`(show $a:term from $b:term),`($a<=4000),`(($a,v,)),`(λ$a $b=> $c $d),`(gZ (α:= $a) $b $c),`(by rw [aq $a];show ar),`(Wa%$a $b),`(λ$a $b=>Ww $c $d $e),`(Wb a $a),`(Zu ix $a $b),`($a≠x),`(Wd $a $b e),`(if $a then (Wp $b $c $d) else $e),`(Yt $a aA $b)]
def zzX_(a b c d e f:Term):zzT:=#[`(λ$a=>($b,$c,)),`(YO _BW $a),`(Xk%Wu $a $b $c),`(WS 4 $a $b $c),`(∀α o,$a->$b),`(_a! $a $b [($c,$d,)] $e),`($a≠b),`(_aq H $a $b $c),`(WG z $a),`(Wa ($a).2),`(_a7 _ $a),`(_ca o $a),`($a[n]?),`($a $b {v with heap:=$c}),`(show $a=$b by lia),`(λ_ $a $b=>$c),`($a->NV),`(XI $a J $b $c),`(($a,Ih)),zzu,`($a<=800),`(Z_ $a H $b $c $d),`(Wk $a%$b F $c $d),`(W3 $a $b Iy $c),`({zv with nx:=$a,ct:=$b,bk:=MM}),`($a<=999999999999999999),`(show $a=$b from y),`(Wj $a $b $c _),`($a≠ []),`(WH v $a),`($a ++ Kv),`(UD[$a]?),`(YL $a e $b),`(ZD Ig $a $b $c),`(if $a then $b $c else $d),`(Wr a $a),zzu,zzu,`(I8 - $a),`(Y1 $a $b _ _ $c),`(Wb b $a),zzu,`($a × Iu),`(λ$a $b=>IZ),`(aw (m:=$a) $b),`($a (P:=l) (w:=p) (mg:=D) (h:=A) (u:=$b) Ic Ic λ$c $d=>$e),`(WF V $a),`(jD (q:=$a) y h),`(Wd $a p $b),`(f≠$a),`(Xk%$a $b),`(λ$a $b=>($c).1),`(by rw [$a:term];show $b:term),`(by rw [aq $a];show N),`(ZR b' $a $b),`((k,$a,)),`(_bd $a a),`(_ao KN%NF $a),`(($a,j,)),`(λα $a $b=>$c),`(IH[$a]?),`(Yh $a $b V gc),`(Xr $a $b I),`(Wd $a $b z),`(_bG%NF $a $b),`($a (l:=l) (p:=p) (A:=A) λ$b $c $d=>$e)]
def zzY_(a b c d e f:Term):zzT:=#[zzu,`(ai × $a),`({v with heap:=$a,toks:=tk}),`(M? (M:=bO) (o:= $a) $b $c),`(λ$a=>if $b then $c else $d),zzu,`(if $a then $b $c $d else $e),`(cX (q:=$a) $b $c y $d),`(WN "list_iterator" $a),`(_au aq $a),`(Kb (o:= $a) $b $c $d),`(ZR ix $a $b),`(k6 (S:=D) $a y),`(Wb $a d),`($a ++ Uy),`(λ$a=>Wz $b $c $d $e),`(_aT $a 1000),`(_ER (q:=s.toks) $a $b $c $d $e $f),`(λ$a $b $c=>by rw [$d:term];show z),`(show $a:term from $b $c),`(_aq $a ε τ $b),`(nK (name:=$a) $b $c $d),`(show $a:term from $b $c $d),`(Y5 cw $a),`(Zp $a λ$b=>$c),`(λ$a $b=>Zb $c),`(λ$a $b=>∃v,$c),`(∀(l:Ib $a),$b),`(_b0 $a t),`(Yu G $a),`(W' b $a),`($a<=240),`(_bt Iy $a),`(_bu UA $a),`(by have:=$a $b;simp only [cT,aQ] at this;lia),`(W' x $a),`(if $a<$b then $c else $d),`(Wj $a o $b $c),`({v with heap:=$a $b}),`(λα $a=> $b),`(Xi%$a $b),zzu,`(Wh (WY $a) $b),`(_F4 (k:= $a) $b),`($a (q:=$b) $c $d $e $f m5),`(_ae kG $a),`(WF Hp $a),`(W6 hs $a),`(Zs PQ $a $b),`(XB $a $b A1),`(show IX $a $b from y),`(if $a then $b else $c $d),`(_bG%NF $a),`(by rw [aq $a];show $b $c $d $e),`(_aO $a Ig $b $c),`(by repeat' first|show IR|show $a:term),`(∀{α:L2.St} {C:TE},$a->$b),`(by have:=$a $b;lia),`(show $a:term by lia),`($a/\∀i m E g,$b),`(∀{α:L2.St},$a->$b),`(∀x∈l,$a),`(∃n:Nat,$a=Jy),`(WF $a aO),`(W6 hK $a),`(Wb α $a)]
def zzZ_(a b c d e f:Term):zzT:=#[`($a × ah),`(by cases N;show (B,b,($a).u Il)),`($a (δ:=$b ::$c) $d),`(YB bW $a),`(ZR Jp $a $b),`(XB $a $b A2),`(Z6 α $a $b),`(Wv _ $a),`(λ$a=>Io),`({v with heap:=$a,toks:=q}),`(by let $a:term:=T.reader;show $b $c $d),`(show ¬ $a from eT),`(λ$a $b $c $d $e=>by let $f:term:=h;cbv),`({N with minds:=$a $b $c}),`(∀k∈i.kids,$a<$b),`(Yt $a au $b),`(_ar Jh $a),`(W6 b3 $a),`(∃N:$a,$b/\∀x d,$c),`(by have:=$a $b $c;lk),`(Wc%$a $b $c),`($a<=1048576),`(by rw [$a:term,$b $c];show e),`(by let $a:term:=$b $c;let $d:term:=$e:term;show $f:term),`(by let $a:term:=$b $c;cbv),`(∀a∈T,$a $b $c $d),`(Wp $a $b%WU $c),`(∀{r m},$a $b $c $d $e),`(by let $a:term:=$b $c;show $d:term),`(JI (o:= ($a $b)) $c $d),`(2 ^ $a),`($a≠MP),`(∀b∈a,$a),`(WG $a P8),`(ZL (¬ $a)),`(λ$a=>_DP),`(∀(s:az) (H:Hp) (f:aa) (B:$a) (a:$b),$c $d $e $f),`(by change $a:term;lia),`(($a :ai)),`({cls:= $a,dict:=I,data:= $b}),`(by cases x;show ($a,$b,$c)),`(λ$a $b $c $d=>by rw [$e:term];show e),`($a (x:=$b) (zz:=IY) $c),`(Wa%$a $b $c),`($a (Z:=$b) (zm:=$c) e),`(show $a=$b from P),`(∀(f:$a) (N W n:Nat),$b->$c),`(_ac $a 1),`(W0 ($a $b $c $d $e) $f),`(_bM _ _ $a $b $c),`(by rw [aQ];show $a $b),`(_a' $a IE),`(Wy%Wc $a),`(Wd $a d $b),`({s with net:=$a $b}),`(_bF (∃t,$a)),`($a∈p.b3),`($a<=17000),`(λ$a $b e=>by rw [$c:term];show e),`(∀f u x G,$a->$b),`(Iu × $a),`({prod:=$a,num:=$b,parent:=$c,place:=$d,kids:= []}),`(λ$a $b $c $d h=>by let $e:term:=h;rfl),`($a × V),`({cls:= $a,dict:=$b,data:= $c,slots:=Ks}),`({s with heap:=$a,toks:=$b +$c})]
def zz_a_(a b c d e f:Term):zzT:=#[`(_Ds (t':=w.toks) $a),`(show ¬ $a from ι),`(Wc ($a +$b)),`(if $a then $b else WU $c),`({N with wire:=$a L6 $b}),`(∀(m:Nat) (i:bQ),$a->$b),`(by change $a=$b;lk),`(by rw [e];show $a $b),`(by rw [$a $b];show e),`(show $a:term from s),`($a ++ QA),`(by change $a=$b;rw [$c:term]),`(Xo $a%Wc $b),`(∃m:Nat,$a=$b),`({cls:= IU $a,data:= $b}),`(by intro F s c H Q B h;show $a:term;subst G;obtain rfl:$b=$c :=Z;show $d:term),`(Z_ C $a $b $c $d),`($a (j:=$b) Il),`({src:=$a,dst:=$b,inst:=$c,out:=o}),`({v with heap:=$a,toks:=t'}),`(by rw [$a $b];show q),`(∀θ∈b.kids,$a∈$b),`(_ao $a%$b $c),`({I6 with wire:= $a}),`(g_.some_of (ζ:=ζ) (o:=$a) $b),`(λ$a $b=>by rw [$c:term];show N),`($a (T:=$b) (b:=ag) $c $d ?_),`(show $a∈$b from z),`(∃A∈g.syms,$a=$b),`(WF f $a),`(by first|show $a:term|show $b:term),`({v with toks:=$a +$b}),`(if $a then $b else 0),`(show $a=$b from H),`(show $a=$b from i),`(by rw [$a $b];show ζ),`(Wk $a%$b (θ:=gC) $c $d $e),`(by simpa using $a $b),`($a (a:=fq) (by first|rfl|(simp only [rh];rfl)) $b),`(show $a:term from ar),`($a (o:= ($b $c)) $d),`(λ$a $b $c $d=>∃F x l N f,$e),`($a $b $c $d $e {s with heap:=$f}),`(Z8%Z8 $a),`({w with heap:=$a $b}),`(by change $a<$b;decide),`(aa × $a),`(_bE $a bJ),`(∀(i M:Int) (t O:Tok) (s:az) (Q:$a) (Z:$b->$c),$d),`(∃ν h L q α η ε s F S,∃N:$a,$b),`(show $a=$b by unfold cb;rw [aQ]),`(by cases x;cases r;show ($a,$b)),`(by cases h;cases r;show ($a,$b)),`(by cases x;let $a:term:=r;show ($b,$c)),`(by intro F s c H C G Q B r h;let $a:term:=h;let $b:term:=$c:term;rw [$d $e];show $f:term),`(by have:=($a).1;have:=$b:term;lia),`(∀(v:az) (g:Hp) (f:aa) (B:$a) (a:$b),$c $d $e $f),`(Wy%Wi $a),`(∀(n:Nat) (i:bQ) (m:Nat),$a->$b),`(ZX _ $a $b),`((ay,$a,)),`(by intro $a:term z;cases z),`(show $a:term by rw [bL,g];rfl),`(_a8%Je $a $b),`(ZW fh $a $b _ $c $d),`(by let $a:term:=T.D.obj;show $b $c $d)]
def zz_b_(a b c d e f:Term):zzT:=#[`(by intro F s e H Q B h;show $a $b),`({i with kids:=$a ++ $b}),`(agX (prog:=l) (w:=p) $a $b $c $d $e),`(Xa a $a $b),`($a (t':=s.toks) (o:= $b) $c $d ?_),`($a (s:={v with heap:=$b}) $c $d),`(show ∃t,$a from k),`(if $a then $b else 1),`(by rw [$a $b];show e.obj),`(B.hs (x:=f) (e:=f) $a $b $c $d $e),`(by rw [C,dW,$a $b];simp),`(∀(i:Nat) (t:s),$a),`(Seg.hq (zH:= $a) $b),`(by rw [oF];show $a $b),`(by rw [$a $b];show hd),`(GN (h₀:=j.base) $a $b $c $d $e),`(by rw [$a $b];show Ξ),`({cls:= Ja,data:= $a}),`(by cases x;show $a $b),`(YN z%$a $b),`(Wi%$a $b),`(by rw [$a $b];show o),`(by rw [$a $b];show B),`(∀x∈l.zipIdx,$a),`(F' (zQ:=s) (F:=$a) $b),`(by rw [$a $b];show n),`(if $a then $b else P1),`(by rw [$a $b];show c),`(by rw [$a $b];show i),`(by rw [←$a $b,cU]),`(by change $a<=$b;decide),`(show $a:term from r),`(_ao JT $a),`($a ::Ω),`(by rw [$a $b $c];unfold cT;rw [←agR,←Gs,Gw];(conv=>lhs;rw [η,CM]);rw [η]),`(by rintro F s c H x A O v Q B Z m ⟨i,M,rfl,rfl,q⟩;let $a:term:=$b:term;let $c:term:=($d);show $e:term),`(Ww $a _ $b),`(by intro F s c H Q B h;show $a:term;subst G r a;obtain rfl:$b=$c :=Z;show $d:term),`(λ$a $b _ $c $d=>$e),`(∀(F:$a) (s:az) (c:St) (H:Hp) (x A:V) (v O:ah) (Q:VK),$b->$c),`(by have:=($a).1;unfold cb;rw [aQ];lia),`(by rcases $a:term with h|h;{show $b $c $d};{simp at h;subst h;show $e:term}),`(α[$a]?),`(by unfold mJ;rw [$a (id:=$b) (n:= $c) (o:= $d) $e $f];kernel_rfl),`(Wv e $a),`(by have:=$a:term;unfold fB at this;show ($b).1),`(RP (a:=s.heap.objs.size) (o:= $a) (t':=s.toks) $b $c $d),`(by intro f F s e H Q B h;show $a $b;cases a with|true=>show $c:term|false=>show $d:term),`(λ$a $b=>by cases h:$c:term with|none=>rfl|some o=>cbv),`(by unfold bE bE at h;show ($a).al),`((Jn, Ia $a,)),`(λ$a $b=>by let $c:term:=i;rw [S] at u;cases u;show $d:term),`(Go.g6 (M:=$a) $b),`((OZ, Ia $a,)),`(∀(i:Nat) (F:$a) (s:az) (c:St) (H:Hp) (Z:MF),$b),`(by show Wt $a;rw [dW,ky];show $b:term;lk),`({v with heap:=h',gens:=$a,drawn:=$b,toks:=$c}),`(by let k:=$a:term;(let p:$b:term:=$c:term);rw [p];unfold iB;(let w:$d:term:=by rcases g with ⟨D,_⟩|⟨_,_,S,_⟩|⟨D,_⟩|⟨D,_⟩;{lia};{show S};{lia};{lia});lk),`(by rw [oU] at P;rcases P with P|P<;>show $a $b),`(Wt (by rw [←$a:term];show z)),`(by unfold bE at p;let $a:term:=$b $c (i:=i) $d;cbv),`(∀(F:$a) (s:az) (c:St) (H:Hp) (x:V) (L:$b) (v:ah) (G:$c) (Q:VK),$d->$e),`((O0, Ia $a,)),`(by rw [c];intro z;rcases $a:term with z|z;show $b:term;show $c $d $e),`(show $a=$b by unfold cT;rw [aQ]),`((VO, Ia $a,))]
def zz_c_(a b c d e f:Term):zzT:=#[`(X7 $a e $b),`(λ$a=>by rw [z,$b:term] at e;cases e),`(∀(F:$a $b) (s:az) (c:St) (H:Hp) (G:Ends),$c),`(by intro F s c H Q B h;show $a $b $c),`(Wv $a (by simp at β)),`(by have:=$a:term;have:=d.len;lia),`($a==ZM "__debug__"),`(1000000000000000000<=$a),`({s with heap:=$a,toks:=tk}),`(by rw [←Hl,←CL,hd,agP,$a $b]),`(by have:=$a $b $c;simpa using this),`($a *1000000000000000000),`($a->PQ),`(by intro F s c H Q B h;show $a $b;show $c:term),`(by intro F s c H Q B n;show $a:term;let hf:$b:term:=$c $d;show $e:term;show $f:term),`($a ++ _Ba),`(by intro F s e H Q B h;show $a:term;show $b $c),`((Sl, Ia $a,)),`(by intro g s c H l a h;show $a $b;show $c:term;show $d:term),`(by rw [dC,cH];have:=$a:term;have:=$b $c;lia),`(by rw [ej,cH];have:=$a:term;have:=$b $c;lia)]
def zzi(c:Char):Nat:=let n:=c.toNat;if n>=97&&n<=122 then n-97 else if n>=65&&n<=90 then n-39 else if n>=48&&n<=57 then n+4 else if c=='_' then 62 else if c=='\'' then 63 else if c=='!' then 64 else 65
def zzA(s:String)(x:Array Term):MacroM Term:=do
 let c:=s.front
 if c<'I'||c>'_' then zzU else
 let l:=s.toList
 let h:=if l.length==3&&l[0]! == '_' then 1 else 0
 if l.length != 2+h then zzU else
 let i:=zzi l[1+h]!
 let g(j:Nat):Term:=x.getD j ⟨.missing⟩
 let z(t:zzV):MacroM Term:=do
  let w:=t.1.splitOn ","
  let e:=w.getD i "!"
  if e=="!" then zzU else
  let f<-getRef
  let r:=if e=="?" then t.2.getD ((w.take i).count e) zzu f else (match (e.splitOn " ").map zzD with|a::b=>if b.isEmpty then a else Syntax.mkApp a b.toArray|_=>⟨.missing⟩)
  return if x.size==0 then r else Syntax.mkApp r x
 let p(t:Term->Term->Term->Term->Term->Term->zzT):MacroM Term:=do
  let r:=(t (g 0) (g 1) (g 2) (g 3) (g 4) (g 5)).getD i zzu (<-getRef)
  if x.size==0||r.raw.isMissing then zzU else return r
 match (h,l[h]!) with
 |(0,'I')=>z zzI_
 |(0,'J')=>z zzJ_
 |(0,'K')=>z zzK_
 |(0,'L')=>z zzL_
 |(0,'M')=>z zzM_
 |(0,'N')=>z zzN_
 |(0,'O')=>z zzO_
 |(0,'P')=>z zzP_
 |(0,'Q')=>z zzQ_
 |(0,'R')=>z zzR_
 |(0,'S')=>z zzS_
 |(0,'T')=>z zzT_
 |(0,'U')=>z zzU_
 |(0,'V')=>z zzV_
 |(1,'A')=>z zz_A_
 |(1,'B')=>z zz_B_
 |(1,'C')=>z zz_C_
 |(1,'D')=>z zz_D_
 |(1,'E')=>z zz_E_
 |(1,'F')=>z zz_F_
 |(1,'G')=>z zz_G_
 |(0,'W')=>p zzW_
 |(0,'X')=>p zzX_
 |(0,'Y')=>p zzY_
 |(0,'Z')=>p zzZ_
 |(1,'a')=>p zz_a_
 |(1,'b')=>p zz_b_
 |(1,'c')=>p zz_c_
 |_=>zzU
def zzH(f:Term):Option Term:=match f with
 |`($x:ident)=>let n:=zzN x.getId;if n==x.getId then none else some (mkIdentFrom x n)
 |`($e.$x:ident)=>let n:=x.getId.toString;let m:=zzF n;if n==m then none else some ⟨f.raw.setArg 2 (mkIdentFrom x m.toName)⟩
 |_=>none
def zzS:Nat->Term->List Term|0,t=> [t]|n+1,t=>match t with|`($a%$b)=>zzS n a++ [b]|_=> [t]
def zzP(f x:Term):Term:=match f with|`($g $xs*)=>Syntax.mkApp g (xs.push x)|_=>Syntax.mkApp f #[x]
def zzR:List Term->Term|[t]=>t|t::r=>zzP t (zzR r)|[]=>⟨.missing⟩
def zzQ:Nat->Term->MacroM (TSyntax `rcasesPat)|0,_=>Macro.throwUnsupported|n+1,t=>match t with
 |`($x:ident)=>`(rcasesPat|$x:ident)
 |`(_)=>`(rcasesPat|_)
 |`(($x,$xs,*))=>do
  let l<-(#[x]++xs.getElems).mapM (zzQ n)
  let l<-l.mapM fun p=>`(Lean.Parser.Tactic.rcasesPatLo|$p:rcasesPat)
  `(rcasesPat|⟨$l,*⟩)
 |_=>Macro.throwUnsupported
def zzE(n:Nat):Bool:=n%2==0
end
open Lean in
local macro_rules(kind:=ident)
|`($x:ident)=>match x.getId with
 |.str .anonymous s=>zzA s #[]
 |_=>match zzH x with|some y=>pure y|_=>zzU
open Lean in
local macro_rules
|`($f $xs*)=>match f with
 |`($x:ident)=>(match x.getId with
  |.str .anonymous s=>zzA s xs
  |_=>match zzH f with|some y=>pure (Syntax.mkApp y xs)|_=>zzU)
 |_=>match zzH f with|some y=>pure (Syntax.mkApp y xs)|_=>zzU
|`($e.$x:ident)=>match zzF x.getId.toString with
 |m=>if m==x.getId.toString then zzU else `($e.$(mkIdent m.toName))
|`($a%$b)=>pure (zzR (zzS 999 a++ [b]))
|`(($x,$xs,*))=>do
 if zzE xs.elemsAndSeps.size then zzU else `(⟨$x,$xs,*⟩)
local macro_rules
|`(tactic|lia)=>`(tactic|omega)
|`(tactic|cbv)=>`(tactic|simp_all)
|`(tactic|lk)=>`(tactic|grind)
|`(tactic|show $t)=>`(tactic|refine $t)
|`(tactic|let $d:letDecl)=>do
 let c:=d.raw[0]
 if c.getKind==`Lean.Parser.Term.letPatDecl then
  let p<-zzQ 99 ⟨c[0]⟩
  let m<-`(Lean.Parser.Tactic.rcasesPatMed|$p:rcasesPat)
  `(tactic|obtain $m:rcasesPatMed:=$(⟨c[4]⟩))
 else `(tactic|have $d:letDecl)
variable{zE:Ib bW}{zH:Ib bQ}{v:az}{f u W ο zd zq z0:aa}{z6:e6}{zs:Ib Jo}{zN:String}{zx:KC fV}{A:aO}{zb:KC ah}{zc:Bool}{ρ:bh}{zV:PySem.Tok}{Φ z3:Ib ah}{zW:eo}{zX:Ib es}{zR:nG}{zF:es}{zQ:dn}{q Z zm:Nat}{O ξ zU:PySem.Expr}{zh:dD}{ν:Ib Jz}{zp:bo}{κ zj:cv}{Q:br}{π z9:Ib ai}{z2:dk}{μ:cC}{χ:bF}{υ zC:MF}{γ zu:Int}{L zD:ai}{zM:Ib Rm}{η zw:ah}{D:ai->Im ah}{φ:e8}{ω:Ib Iu}{zP:Jo}{Θ zZ:bT}{l:aP}{zn:fL}{zA:aS}{ze:bb}{z4:Vaattf.World}{δ Ψ:Ib bo}{zg:Jc}{zJ:bQ}{zY:Im Ix}{zT:Nw}{ψ zz:Ib Vaatta.Tok}{zl:Ib aa}{ι:bR}{p:PySem.World}{r:aE}{zk:Ib Ix}{zf:aL}{zS:bW}{Ω:Ib PySem.Expr}{Δ:dj}
namespace TW
open Vaatta
theorem e!(h:0<KL):(ψ.Q 1).a+1=KL:=Uz
theorem hW(h:cu q ψ=ag):0<KL:=_Ep
theorem tz(h:sJ zf ψ=ag):0<KL:=_Ep
theorem vY(h:lz q ψ=J z6):0<KL:=by cases ψ with|nil=>(let e:lz q []=I:=by unfold lz;rw [qF.mpr];{rfl};{intro x _;simp [cu]});cbv|cons t r=>simp
theorem jA(h:oS q Z ψ= JF zz):NZ<KL:=by unfold oS at h;split at h;{rename_i a;cases h;have:=hW a;rw [fF];lia};{cases h}
theorem vZ(h:oT q zf ψ= JF zz):NZ<KL:=by unfold oT at h;split at h;{rename_i a;cases h;have:=tz a;rw [fF];lia};{cases h}
def cP{s:Jc}{x:P3 nr zg}{E:zg->P3 nr s}{A:s}(h:(x>>=E)= JF A):∃a,x= JF a/\E a= JF A:=by cases x with|error e=>cases h|ok a=>show (a,y,h)
structure ahW(e n:Nat):Ir where
 ex:Z7 (jV e n f u= JF (x,G,)) (JY<I3)
 bi:∀o f u x G,i5 e n o f u= JF (x,G,)->JY<I3
 mo:∀o f A u x G,jW e n o f A u= JF (x,G,)->JY<=I3
 si:Z7 (jX e n f u= JF (x,G,)) (JY<I3)
 at_:Z7 (hi e n f u= JF (x,G,)) (JY<I3)
 el:∀f j u x G,jY e n f j u= JF (x,G,)->JY<I3
 se:∀f j u x G,jZ e n f j u= JF (x,G,)->JY<I3
theorem n0(e:Nat):∀n,ahW e n:=by intro n;induction n with|zero=>constructor;{intro f u x G h;rw [jV] at h;cases h};{intro o f u x G h;rw [i5] at h;cases h};{intro o f A u x G h;rw [jW] at h;cases h};{intro f u x G h;rw [jX] at h;cases h};{intro f u x G h;rw [hi] at h;cases h};{intro f j u x G h;rw [jY] at h;cases h};{intro f j u x G h;rw [jZ] at h;cases h}|succ n c=>constructor;{intro f u x G h;rw [jV] at h;split at h;{rename_i S;split at h;{cases h};{let ((j,B),D,h):=cP h;let (F,R,h):=cP h;let ((t,k),V,h):=cP h;let (l,T,h):=cP h;let ((E,m),W,h):=cP h;cases h;let a1:=NA _ _ _ _ D;let a2:=vZ R;let a3:=NA _ _ _ _ V;let a4:=vZ T;let a5:=NA _ _ _ _ W;lk}};{show QJ _ _ _ _ _ h}};{intro o f u x G h;rw [i5] at h;split at h;{show c.si _ _ _ _ h};{let ((b,B),D,h):=cP h;let a1:=QJ _ _ _ _ _ D;let a2:=c.mo _ _ _ _ _ _ h;lia}};{intro o f A u x G h;rw [jW] at h;split at h;{cbv};{rename_i d g;let ((b,B),D,h):=cP h;let a1:=QJ _ _ _ _ _ D;let a2:=e!%vY g;dsimp only at h;split at h;{cases h;lia};{let a3:=c.mo _ _ _ _ _ _ h;lia}}};{intro f u x G h;rw [jX] at h;split at h;{rename_i P;split at h;{cases h};{let ((b,B),D,h):=cP h;cases h;let a1:=c.si _ _ _ _ D;lk}};{show c.at_ _ _ _ _ h}};{intro f u x G h;cases u with|nil=>rw [hi] at h;cases h|cons t r=>rw [hi] at h;split at h;{split at h;{split at h;{cases h};{rename_i b a s hd;split at h;{cases h;(let p:(r.Q 1).a=JY+1:=by rw [hd];rfl);lk};{cases h}}};{cases h;simp}};{split at h;{split at h;{split at h;{cases h};{split at h;{cases h};{let ((i,s),D,h):=cP h;dsimp only at h;split at h;{cases h;let a1:=c.el _ _ _ _ _ D;lk};{cases h}}}};{cases h;simp}};{split at h;{cases h;simp};{split at h;{split at h;{cases h};{let ((b,s),D,h):=cP h;let (w,R,h):=cP h;cases h;let a1:=NA _ _ _ _ D;let a2:=jA R;lk}};{split at h;{split at h;{cases h};{let ((i,s),D,h):=cP h;cases h;let a1:=c.el _ _ _ _ _ D;lk}};{cases h}}}}}};{intro f j u x G h;rw [jY] at h;split at h;{rename_i P;cases h;have:=e!%hW P;lia};{show c.se _ _ _ _ _ h}};{intro f j u x G h;rw [jZ] at h;let ((b,B),D,h):=cP h;let a1:=NA _ _ _ _ D;dsimp only at h;split at h;{rename_i P;cases h;lk};{let (F,R,h):=cP h;let ((L,C),V,h):=cP h;cases h;let a2:=jA R;let a3:=c.se _ _ _ _ _ V;lk}}
abbrev bG{f:Jc}(x:P3 nr f):Im f:=x.toOption
def c_{s:Jc}(x:P3 nr zg)(E:zg->P3 nr s):bG (x>>=E)=(bG x).ag (λa=>bG%E a):=_Eq
def i'{x:P3 nr zg}{a:zg}(h:bG x=J a):x= JF a:=by cases x with|error e=>cases h|ok b=>cases h;rfl
def dw(j:Ir)[_Dc j](x A:P3 nr zg):bG%Wp j x A=XI j bG x%bG A:=_Er
def gq{s:Jc}{x A:P3 nr zg}{E g:zg->P3 nr s}(h:bG x=bG A)(k:∀a,x= JF a->bG%E a=bG%g a):bG (x>>=E)=bG (A>>=g):=by rw [c_,c_,←h];cases x with|error e=>rfl|ok a=>show k a y
def AX(e l b:Nat)(u:Ib IN):bG%oS e b u=bG%oS l b u:=by unfold oS;split<;>rfl
def HY(e l:Nat)(b:aL)(u:Ib IN):bG%oT e b u=bG%oT l b u:=by unfold oT;split<;>rfl
structure ahX(e l n:Nat):Ir where
 ex:∀m f u,12*I3+9<=n->12*I3+9<=m->bG%jV e n f u=bG%jV l m f u
 bi:∀m o f u,1<=o->o<=6->12*I3+9<=n+o->12*I3+9<=m+o->bG%i5 e n o f u=bG%i5 l m o f u
 mo:∀m o f A u,1<=o->o<=5->12*I3+1<=n->12*I3+1<=m->bG%jW e n o f A u=bG%jW l m o f A u
 si:∀m f u,12*I3+2<=n->12*I3+2<=m->bG%jX e n f u=bG%jX l m f u
 at_:∀m f u,12*I3+1<=n->12*I3+1<=m->bG%hi e n f u=bG%hi l m f u
 el:∀m f j u,12*I3+11<=n->12*I3+11<=m->bG%jY e n f j u=bG%jY l m f j u
 se:∀m f j u,12*I3+10<=n->12*I3+10<=m->bG%jZ e n f j u=bG%jZ l m f j u
theorem pH(e l:Nat):∀n,ahX e l n:=by intro n;induction n with|zero=>constructor<;>(intros;lia)|succ n c=>constructor;{intro m f u G i;obtain ⟨m,rfl⟩:∃k,m=k+1:=Oi;rw [jV,jV];split;{rename_i S;let v:=e!%tz S;split;{rfl};{show gq (NA m _ _ Ih Ih) ?_;rintro ⟨j,B⟩ D;let a1:=(n0 e n).ex _ _ _ _ D;show gq (HY _ _ _ _) ?_;intro F R;let a2:=vZ R;show gq (NA m _ _ Ih Ih) ?_;rintro ⟨t,q⟩ V;let a3:=(n0 e n).ex _ _ _ _ V;show gq (HY _ _ _ _) ?_;intro w T;let a4:=vZ T;show gq (NA m _ _ Ih Ih) ?_;cbv}};{show QJ m 1 _ _ Ih Ih Ih Ih}};{intro m o f u D O G i;obtain ⟨m,rfl⟩:∃k,m=k+1:=Oi;rw [i5,i5];split;{show c.si m _ _ Ih Ih};{show gq (QJ m (o+1) _ _ Ih Ih Ih Ih) ?_;rintro ⟨x,a⟩ h;let a1:=(n0 e n).bi _ _ _ _ _ h;show c.mo m o _ _ _ Ih Ih Ih Ih}};{intro m o f A u D W G i;obtain ⟨m,rfl⟩:∃k,m=k+1:=Oi;rw [jW,jW];split;{rfl};{rename_i d b;let v:=e!%vY b;show gq (QJ m (o+1) _ _ Ih Ih Ih Ih) ?_;rintro ⟨x,a⟩ h;let a1:=(n0 e n).bi _ _ _ _ _ h;dsimp only;split;{rfl};{show c.mo m o _ _ _ Ih Ih Ih Ih}}};{intro m f u G i;obtain ⟨m,rfl⟩:∃k,m=k+1:=Oi;rw [jX,jX];split;{rename_i P;(let v:0<I3:=_b6 hW P);let a1:=e! v;split;{rfl};{show gq (c.si m _ _ Ih Ih) ?_;cbv}};{show c.at_ m _ _ Ih Ih}};{intro m f u G i;obtain ⟨m,rfl⟩:∃k,m=k+1:=Oi;cases u with|nil=>rw [hi,hi];rfl|cons t r=>simp only [cH] at G i;rw [hi,hi];split;{split;{split;{rfl};{split<;>rfl}};{rfl}};{split;{split;{split;{rfl};{split;{rfl};{show gq (c.el m _ _ _ Uz Uz) ?_;cbv}}};{rfl}};{split;{rfl};{split;{split;{rfl};{show gq (NA m _ _ Ih Ih) ?_;rintro ⟨x,s⟩ h;show gq (AX _ _ _ _) ?_;cbv}};{split;{split;{rfl};{show gq (c.el m _ _ _ Ih Ih) ?_;cbv}};{rfl}}}}}};{intro m f j u G i;obtain ⟨m,rfl⟩:∃k,m=k+1:=Oi;rw [jY,jY];split;{rfl};{show c.se m _ _ _ Ih Ih}};{intro m f j u G i;obtain ⟨m,rfl⟩:∃k,m=k+1:=Oi;rw [jZ,jZ];show gq (NA m _ _ Ih Ih) ?_;rintro ⟨x,a⟩ h;let a1:=(n0 e n).ex _ _ _ _ h;dsimp only;split;{rfl};{show gq (AX _ _ _ _) ?_;intro F R;let a2:=jA R;show gq (c.se m _ _ _ Ih Ih) ?_;cbv}}
def fu(u:Ib IN):Nat:=12*I3+24
def pE(f:Nat)(u:Ib IN):Im (LM × Ib IN):=bG%jV 0 (fu u) f u
def pB(o f:Nat)(u:Ib IN):Im (LM × Ib IN):=bG%i5 0 (fu u) o f u
def pM(o f:Nat)(x:Expr)(u:Ib IN):Im (LM × Ib IN):=bG%jW 0 (fu u) o f x u
def pS(f:Nat)(u:Ib IN):Im (LM × Ib IN):=bG%jX 0 (fu u) f u
def pA(f:Nat)(u:Ib IN):Im (LM × Ib IN):=bG%hi 0 (fu u) f u
def pL(f j:Nat)(u:Ib IN):Im (Ib LM × Ib IN):=bG%jY 0 (fu u) f j u
def mK(f j:Nat)(u:Ib IN):Im (Ib LM × Ib IN):=bG%jZ 0 (fu u) f j u
def eS(b:Nat)(u:Ib IN):Im%Ib IN:=X_ (cu b u)%LN 1
def eW(w:aL)(u:Ib IN):Im%Ib IN:=X_ (sJ w u)%LN 1
def kH(e b:Nat)(u:Ib IN):bG%oS e b u=eS b u:=by unfold oS eS;split<;>rfl
def HZ(e:Nat)(w:aL)(u:Ib IN):bG%oT e w u=eW w u:=by unfold oT eW;split<;>rfl
def v3{x:Expr}(h:pE q ψ=J (x,zz,)):NZ<KL:=(n0 _ _).ex _ _ _ _%i' h
def v5{x:Expr}(h:pB q Z ψ=J (x,zz,)):NZ<KL:=(n0 _ _).bi _ _ _ _ _%i' h
theorem tA(h:eS q ψ=J zz):NZ<KL:=by unfold eS at h;split at h;{rename_i a;cases h;have:=e!%hW a;lia};{cases h}
theorem H0(h:eW zf ψ=J zz):NZ<KL:=by unfold eW at h;split at h;{rename_i q;cases h;have:=e!%tz q;lia};{cases h}
def d2{s:Jc}{x A:Im zg}{E g:zg->Im s}(h:x=A)(k:∀a,A=J a->E a=g a):x.ag E=A.ag g:=by subst h;cases x with|none=>rfl|some a=>show k a y
theorem rr(h:12*KL+9<=q):bG%jV Z q zm ψ=pE zm ψ:=(pH Z 0 q).ex _ _ _ h SY
theorem AY{f:Nat}(D:1<=q)(O:q<=6)(h:12*KL+9<=Z+q):bG%i5 zm Z q f ψ=pB q f ψ:=(pH zm 0 Z).bi _ _ _ _ D O h SY
theorem H2{f:Nat}{x:Expr}(D:1<=q)(O:q<=5)(h:12*KL+1<=Z):bG%jW zm Z q f x ψ=pM q f x ψ:=(pH zm 0 Z).mo _ _ _ _ _ D O h SY
theorem H3(h:12*KL+2<=q):bG%jX Z q zm ψ=pS zm ψ:=(pH Z 0 q).si _ _ _ h SY
theorem fuA(h:12*KL+1<=q):bG%hi Z q zm ψ=pA zm ψ:=(pH Z 0 q).at_ _ _ _ h SY
theorem H4{j:Nat}(h:12*KL+11<=q):bG%jY Z q zm j ψ=pL zm j ψ:=(pH Z 0 q).el _ _ _ _ h SY
theorem H5{j:Nat}(h:12*KL+10<=q):bG%jZ Z q zm j ψ=mK zm j ψ:=(pH Z 0 q).se _ _ _ _ h SY
theorem H6(f:Nat)(u:Ib IN):pE f u=W! (sJ ml u) (nu<=f) I ((pE (f+1)%LN 1).ag λj=>(eW nv j.2).ag λG=>(pE (f+1) G).ag λt=>(eW ny Nf).ag λG=>(pE (f+1) G).ag λE=>J (LO P4 [j.1,t.1,E.1],E.2,))%pB 1 f u:=by change bG%jV 0 ((12*I3+23)+1) f u=_;rw [jV,dw];split;{rename_i S;let v:=e!%tz S;rw [dw];split;{rfl};{rw [c_];show d2 (rr Ih) ?_;rintro ⟨j,B⟩ D;let a1:=v3 D;dsimp only;rw [c_];show d2 (HZ _ _ _) ?_;intro F R;let a2:=H0 R;rw [c_];show d2 (rr Ih) ?_;rintro ⟨t,a⟩ V;let a3:=v3 V;dsimp only;rw [c_];show d2 (HZ _ _ _) ?_;intro b T;let a4:=H0 T;rw [c_];show d2 (rr Ih) ?_;rintro ⟨E,c⟩ W;rfl}};{show AY Ih Ih Ih}
theorem pB6(f:Nat)(u:Ib IN):pB 6 f u=pS f u:=by change bG%i5 0 ((12*I3+23)+1) 6 f u=_;rw [i5,aA Ih];show H3 Ih
theorem ahY(f:Nat)(u:Ib IN)(D:1<=q)(W:q<=5):pB q f u=(pB (q+1) f u).ag (λx=>pM q f I6 IY):=by change bG%i5 0 ((12*I3+23)+1) q f u=_;rw [i5,au Ih,c_];show d2 (AY Ih Ih Ih) ?_;rintro ⟨x,G⟩ h;let a1:=v5 h;show H2 D W Ih
theorem AZ(f:Nat)(x:Expr)(u:Ib IN)(D:1<=q)(W:q<=5):pM q f x u=match lz q u with|I=>J (x,u,)|J d=>(pB (q+1) f%LN 1).ag (Yp A q 3 (J (LO d [x,Lj],Ly,))%pM q f (LO d [x,Lj]) Ly):=by change bG%jW 0 ((12*I3+23)+1) q f x u=_;rw [jW];cases S:lz q u with|none=>rfl|some d=>let v:=e!%vY S;dsimp only;rw [c_];show d2 (AY Ih Ih Ih) ?_;rintro ⟨A,G⟩ h;let a1:=v5 h;dsimp only;rw [dw];split;{rfl};{show H2 D W Ih}
theorem ahZ(f:Nat)(u:Ib IN):pS f u=W! (cu 45 u||cu 33 u) (nu<=f) I ((pS (f+1)%LN 1).ag λx=>J (LO (Wp (cu 45 u) .neg .not) [I6],IY,))%pA f u:=by change bG%jX 0 ((12*I3+23)+1) f u=_;rw [jX,dw];split;{rename_i P;(let v:0<I3:=_b6 hW P);let a1:=e! v;rw [dw];split;{rfl};{rw [c_];show d2 (H3 Ih) ?_;rintro ⟨x,G⟩ h;rfl}};{show fuA Ih}
def ah0(f:Nat):pA f []=I:=by change bG%hi 0 ((12*([]:Ib IN).a+23)+1) f []=_;rw [hi];rfl
theorem rv(f:Nat)(t:Tok)(r:Ib IN):pA f (t::r)=Wz Kg 1 (Wp (cu 46 r) (match r.Q 1 with| []=>none|a::s=>Xr a.cu (.occ (UA Jj) a.ah,s,) K3)%J (N0%UA Jj,r,))%W! Mo (cu 40 r) (match oV Jj with|none=>none|J (d,k)=>YZ (nu<=f) K3 (pL (f+1) 41%r.Q 1).ag (Yp x (I6).a k (J (LO d I6,IY,)) K3)) (J (.occ 0 Jj,r,))%Xr (Ll 35) (JA,r,)%W! (Ll 40) (nu<=f) K3 ((pE (f+1) r).ag λx=>(eS 41 IY).ag λs=>J (I6,s,))%W! (Ll 91) (nu<=f) K3 ((pL (f+1) 93 r).ag λx=>J (LO Js I6,IY,)) K3:=by change bG%hi 0 ((12*(t::r).a+23)+1) f (t::r)=_;rw [hi,dw];simp only [cH];split;{rw [dw];split;{cases r.Q 1 with|nil=>rfl|cons a s=>dsimp only;rw [dw];split<;>rfl};{rfl}};{rw [dw];split;{rw [dw];split;{cases oV t.ah with|none=>rfl|some z=>let (d,k):=z;dsimp only;rw [dw];split;{rfl};{rw [c_];show d2 (H4 Uz) ?_;rintro ⟨i,s⟩ h;dsimp only;rw [dw];split<;>rfl}};{rfl}};{rw [dw];split;{rfl};{rw [dw];split;{rw [dw];split;{rfl};{rw [c_];show d2 (rr Ih) ?_;rintro ⟨x,s⟩ h;dsimp only;rw [c_];show d2 (kH _ _ _) ?_;intro p R;rfl}};{rw [dw];split;{rw [dw];split;{rfl};{rw [c_];show d2 (H4 Ih) ?_;rintro ⟨x,s⟩ h;rfl}};{rfl}}}}}
theorem H7(f j:Nat)(u:Ib IN):pL f j u=Xr (cu j u) ([],LN 1,)%mK f j u:=by change bG%jY 0 ((12*I3+23)+1) f j u=_;rw [jY,dw];split;{rfl};{show H5 Ih}
theorem ah1(f j:Nat)(u:Ib IN):mK f j u=(pE f u).ag (λx=>Xr (cu j IY) ([I6],(IY).Q 1,)%(eS 44 IY).ag λG=>(mK f j G).ag λL=>J (I6::L.1,L.2,)):=by change bG%jZ 0 ((12*I3+23)+1) f j u=_;rw [jZ,c_];show d2 (rr Ih) ?_;rintro ⟨x,G⟩ h;let a1:=v3 h;dsimp only;rw [dw];split;{rfl};{rw [c_];show d2 (kH _ _ _) ?_;intro F R;let a2:=tA R;rw [c_];show d2 (H5 Ih) ?_;rintro ⟨L,C⟩ V;rfl}
def pX(u:Ib IN):Im (LM × Ib IN):=(pE 0 u).ag%Ye x (EXPR<(I6).bb) I%J x
theorem ah2(e:Nat)(u:Ib IN):bG%readExpr e u=pX u:=by unfold readExpr pX;rw [c_];show d2 (rr (by unfold STEPS;lia)) ?_;rintro ⟨x,G⟩ h;dsimp only;rw [dw];split<;>rfl
def pC(f lo:Nat):Iu->LM->Ib IN->Im (LM × Ib IN)|0,x,u=>J (x,u,)|h+1,x,u=>Xr (h+1<lo) (x,u,)%(pM (h+1) f x u).ag λA=>pC f lo h Lj Ly
theorem H8{f lo:Nat}:∀{h:Nat} (x:Expr) (u:Ib IN),1<=lo->lo<=h->h<=5->pC f lo h x u=(pC f (lo+1) h x u).ag (λA=>pM lo f Lj Ly)|0,x,u,D,R,_=>Ih|h+1,x,u,D,R,W=>by rw [pC,au Ih,pC];by_cases e:h+1<lo+1;{(let Z:lo=h+1:=Ih);subst Z;rw [aA e];change _=pM (h+1) f x u;cases q:pM (h+1) f x u with|none=>rfl|some A=>change pC f (h+1) h Lj Ly=J A;cases h with|zero=>rfl|succ k=>rw [pC,aA Ih]};{rw [au e];cases q:pM (h+1) f x u with|none=>rfl|some A=>show H8 Lj Ly D Ih Ih}
theorem ah3(f:Nat)(u:Ib IN):∀{lo:Nat},1<=lo->lo<=6->pB lo f u=(pS f u).ag (λx=>pC f lo 5 I6 IY):=by (let B:∀k lo,lo+k=6->1<=lo->pB lo f u=(pS f u).ag (λx=>pC f lo 5 I6 IY):=by intro k;induction k with|zero=>(intro lo e D;(let e:lo=6:=Ih);subst e;rw [pB6];cases pS f u with|none=>rfl|some x=>rfl)|succ k c=>intro lo e D;rw [ahY f u D Ih,c (lo+1) Ih Ih];cases pS f u with|none=>rfl|some x=>show (H8 I6 IY D Ih Ih).J);intro lo D O;show B (6 - lo) lo Ih D
def kI(u:Ib IN):Im%_aR e6:=SIGNOPS.cd λs=>cu Kf u
def il(u:Ib IN):Nat:=((kI u).o λs=>Pc).az 0
theorem A0(D:cu q ψ=ag)(R:cu Z ψ=ag):q=Z:=by cases ψ with|nil=>cases D|cons t r=>simp only [cu,sL,cI,du] at D R;cbv
theorem H9:lz q ψ=match kI ψ with|J s=>Wz Pc q (J (JS).2) K3|none=>none:=by by_cases h:∃s∈sM,cu Kf ψ=ag;{let (s,P,G):=h;(let e:∀b,cu b ψ=aT (b=Kf):=by intro b;by_cases a:b=Kf;{subst a;simp [G]};{rw [bD a];cases z:cu b ψ with|false=>rfl|true=>show a' (A0 z G) a});unfold lz kI;simp only [e];clear e G;simp only [sM,b0,qG,qH] at P;rcases P with rfl|rfl|rfl|rfl|rfl|rfl|rfl|rfl|rfl<;>simp [sM,fG]<;>split<;>cbv};{(let e:kI ψ=K3:=by unfold kI;lk);rw [e];unfold lz;lk}
theorem H_{f lo:Nat}{u:Ib IN}{s:_aR e6}(P:kI u=J s)(D:1<=lo)(V:lo<=Pc):∀{l:Nat} (x:Expr),Pc<=l->l<=5->pC f lo l x u=(pB (Pc+1) f%LN 1).ag (λA=>pC f lo (Wz Pc 3 2 Pc) (LO (JS).2 [x,Lj]) Ly)|0,x,H,_=>Ih|h+1,x,H,W=>by rw [pC,au Ih,AZ f x u Ih W,H9,P];dsimp only;by_cases e:Pc=h+1;{rw [aA e];dsimp only;rw [e];cases pB (h+1+1) f (u.Q 1) with|none=>rfl|some A=>change (Wz (h+1) 3 (J (mm (JS).2 [x,Lj],Ly,))%pM (h+1) f (LO (JS).2 [x,Lj]) Ly).ag _=pC f lo (Wz (h+1) 3 2 (h+1)) _ _;by_cases q:h+1=3;{cbv};{rw [au q,au q];conv=>rhs;rw [pC,au Ih]}};{rw [au e];dsimp only;show H_ P D V x Ih Ih}
theorem H!{f lo:Nat}{u:Ib IN}(D:1<=lo):∀{l:Nat} (x:Expr),(il u<lo∨l<il u)->l<=5->pC f lo l x u=J (x,u,)|0,x,_,_=>y|h+1,x,H,W=>by rw [pC];split;{rfl};{rename_i V;(let e:lz (h+1) u=I:=by rw [H9];unfold il at H;lk);rw [AZ f x u Ih W,e];change pC f lo h x u=_;show H! D x Ih Ih}
theorem ah4{s:_aR e6}(P:kI ψ=J s):1<=Pc/\Pc<=5/\cu Kf ψ=ag/\s∈sM:=by let i:=oW P;let d:=qI P;show (?_,?_,d,i)<;> {simp only [sM,b0,qG,qH] at i;lk}
theorem A6:∀x:LM,1<=Ld| .num _=>_Bb| .own=>_Bb| .occ _ _=>_Bb| .app _ _=>_Bb
def pT(f j:Nat)(u:Ib IN):Im (Ib LM × Ib IN):=Xr (cu j u) ([],LN 1,)%(eS 44 u).ag λG=>mK f j G
theorem H?(f j:Nat)(u:Ib IN):mK f j u=(pE f u).ag (λx=>(pT f j IY).ag λL=>J (I6::L.1,L.2,)):=by rw [ah1];cases pE f u with|none=>rfl|some x=>change (Wp (cu j IY) (J ([I6],(IY).Q 1,)) _)=(pT f j IY).ag _;unfold pT;lk
def ah5(m:q≠44)(h:cu 44 ψ=ag):pT Z q ψ=mK Z q%ψ.Q 1:=by unfold pT;rw [au λa=>m%A0 a h,eS,aA h];rfl
def ah6(h:¬ cu 44 ψ=ag):pT Z q ψ=(eS q ψ).ag (λG=>J ([],G,)):=by unfold pT;rw [eS,eS,au h];split<;>rfl
def lT(p:WA zg)(l:Ib zg):(l.bc p).a+(l.ew p).a=LP:=by rw [←cG,List.takeWhile_append_dropWhile]
def tk(p:Nat)(k:aL):Im%Ib IN:=bG%qJ (J4+1) p k
def A7{s:Jc}(x:P3 nr zg)(E:zg->s):bG%x.o E=(bG x).o E:=_Eq
theorem aaa:∀(n m p:Nat) (k:aL),J4+1<=n->J4+1<=m->qJ n p k=qJ m p k:=by intro n;induction n with|zero=>intros;lia|succ n c=>intro m p k G i;obtain ⟨m,rfl⟩:∃a,m=a+1:=Oi;cases k with|nil=>rw [qJ,qJ]|cons b r=>simp only [cH] at G i;rw [qJ,qJ];let a1:=lT ei r;let a2:=lT dQ r;lk
theorem tD(p b:Nat)(r:aL):tk p (b::r)=Yg (lB b) tk (p+1) r%W! (j0 b) (NAME<(b::QK ei).a) I ((tk (p+(b::QK ei).a)%r.ew ei).o%sN (_aG (j1 (b::QK ei)) 3,b::QK ei,p))%W! (dQ b) (DIGITS<(b::QK dQ).a) I ((tk (p+(b::QK dQ).a)%r.ew dQ).o%sN (1,b::QK dQ,p))%XI (SIGNS.ei b) (tk (p+1) r).o (sN (2, [b],p)) I:=by let a1:=lT ei r;let a2:=lT dQ r;unfold tk;rw [qJ,dw];simp only [cH];split;{rfl};{rw [dw];split;{rw [dw];split;{rfl};{rw [A7,aaa _ ((r.ew ei).a+1) _ _ Ih Ih]}};{rw [dw];split;{rw [dw];split;{rfl};{rw [A7,aaa _ ((r.ew dQ).a+1) _ _ Ih Ih]}};{rw [dw];split;{rw [A7]};{rfl}}}}
def aab(t:aL):bG%tokens t=tk 0 t:=y
def kJ(t:Tok):Ir:=(Kg=1/\XC Jj/\t.ah.a<=18/\∀b∈t.text,dQ b=ag)∨ (Kg=0/\t.ah.a<=12/\j1 Jj=ay/\∃b r,Jj=b::r/\j0 b=ag/\∀j∈r,ei j=ag)∨ (Kg=3/\j1 Jj=ag)∨(Kg=2/\∃b∈iF,Jj= [b])
theorem tE{f:Jc}(p:QE):YB f (∀j∈l.bc p,p j=ag)| [],j,h=>On|a::l,j,h=>by rw [u!] at h;split at h;{rename_i q;rcases b0.R h with rfl|h;{show q};{show tE p l j h}};{cases h}
theorem A8:∀(n p:Nat) (k:aL) (u:Ib IN),J4<=n->tk p k=J u->∀t∈u,kJ t:=by intro n;induction n with|zero=>intro p k u G h;have:Wl k:=nz Ih;subst this;cases h;cbv|succ n c=>intro p k u G h;cases k with|nil=>lk|cons b r=>simp only [cH] at G;let a1:=lT ei r;let a2:=lT dQ r;rw [tD] at h;split at h;{lk};{split at h;{rename_i V;split at h;{cases h};{rename_i f;rw [en] at h;let (a,D,rfl):=h;intro t v;rcases b0.R v with rfl|v;{cases S:j1 (b::r.bc ei) with|true=>show Iy%Iy%Ik (y,S)|false=>show Iy%Ik (y,?_,S,b,_,y,V,tE _ _);show Gi f};{lk}}};{split at h;{rename_i hd;split at h;{cases h};{rename_i f;rw [en] at h;let (a,D,rfl):=h;intro t v;rcases b0.R v with rfl|v;{show Ik (y,Ii,Gi f,?_);intro j m;rcases b0.R m with rfl|m;{show hd};{show tE _ _ j m}};{lk}}};{split at h;{rename_i P;rw [en] at h;let (a,D,rfl):=h;intro t v;rcases b0.R v with rfl|v;{show Iy%Iy%Iy (y,b,sO.R P,y)};{lk}};{cases h}}}}
theorem A9:∀(l:aL) (a k:Nat),(∀b∈l,dQ b=ag)->a<10 ^ k->l.fp (λn b=>10*n+(b - 48)) a<10 ^ (k+LP)| [],a,k,_,h=>h|b::l,a,k,hd,h=>by let W:=hd b (cA);simp only [dQ,cI,cU] at W;have:=A9 l (10*a+(b - 48)) (k+1) (λj m=>hd j%cL _ m) Ih;lk
theorem aac(V:zf.a<=18)(hd:∀b∈zf,dQ b=ag):YH zf<=TOP:=by let h:=A9 zf 0 0 hd Il;let R:(Wa 10) ^ (0+zf.a)<=10 ^ 18:=awW Il Ih;let a:UA zf<10 ^ 18:=ib h R;(let T:Xz (UA zf):=Ih);unfold TOP;lia
end TW
namespace TW
open Vaatta Vaattb
theorem tF(k:Uv):∀u:Ib IN,(dI k u).2.a+(dI k u).1.a=I3| []=>y|t::r=>by rw [dI];split;{have:=tF k r;lk};{simp}
theorem rx{k:Uv}{t:Tok}(e:one q k ψ= JF (t,zz,)):NZ+1=KL:=by unfold one at e;lk
def ah7{x:Expr}(h:readExpr q ψ= JF (x,zz,)):NZ<KL:=by unfold readExpr at h;let ((A,C),D,h):=cP h;dsimp only at h;split at h;{cases h};{cases h;show (n0 _ _).ex _ _ _ _ D}
theorem ah8{x}(e:Gj q ψ= JF (x,zz,)):NZ<KL:=by unfold Gj at e;split at e;{cases e};{rename_i t r;split at e;{cases e;simp};{split at e;{let (g,p,e):=cP e;cases e;have:=jA p;lk};{split at e;{let (g,p,e):=cP e;let ((j,P),Z,e):=cP e;let (D,l,e):=cP e;cases e;let a1:=jA p;let a2:=rx Z;let a3:=jA l;lk};{cases e}}}}
theorem tH{x}(e:nA q ψ= JF (x,zz,)):NZ<KL:=by unfold nA at e;let ((b,g),p,e):=cP e;let ((o,P),Z,e):=cP e;let (D,l,e):=cP e;cases e;let a1:=ah8 p;let a2:=ah7 Z;let a3:=jA l;lk
theorem ah9(h:Nat):∀(n m:Nat) (u:Ib IN),I3+1<=n->I3+1<=m->lC h n u=lC h m u:=by intro n;induction n with|zero=>intros;lia|succ n c=>intro m u G i;obtain ⟨m,rfl⟩:∃k,m=k+1:=Oi;rw [lC,lC];split;{rfl};{cases e:nA h u with|error E=>rfl|ok x=>let a:=ZQ tH I6 e;change (lC h n IY>>=_)=(lC h m IY>>=_);lk}
theorem aad(h:Nat):∀(n:Nat) (u G:Ib IN) (x:Ib i6),lC h n u= JF (x,G,)->JY<I3:=by intro n;induction n with|zero=>intro u G x e;rw [lC] at e;cases e|succ n c=>intro u G x e;rw [lC] at e;split at e;{rename_i q;cases e;have:=e!%hW q;lia};{let ((b,g),p,e):=cP e;let ((o,P),Z,e):=cP e;cases e;let a1:=tH p;lk}
def kK(h:Nat)(u:Ib IN):Im (Ib i6 × Ib IN):=bG%lC h (I3+1) u
theorem aae(h:Nat)(u:Ib IN):kK h u=Xr (cu 125 u) ([],LN 1,)%(bG%nA h u).ag (λx=>(kK h IY).ag λA=>J (I6::Lj,Ly,)):=by unfold kK;rw [lC,dw];split;{rfl};{rw [c_];cases e:nA h u with|error E=>rfl|ok x=>let a:=ZQ tH I6 e;change bG (lC h I3 IY>>=_)=_;rw [c_,ah9 h I3 ((IY).a+1) IY Ih Ih];rfl}
def ah_{x:Ib i6}(e:kK q ψ=J (x,zz,)):NZ<KL:=aad _ _ _ _ _%i' e
theorem v7{t:Tok}{x}(e:nB q t ψ= JF (x,zz,)):NZ<KL:=by unfold nB at e;let (g,p,e):=cP e;let (P,Z,e):=cP e;cases e;let a1:=jA p;let a2:=jA Z;let a3:=tF ed ψ;let a4:=tF ed g;lia
theorem v8{t:Tok}{x}(e:nC q t ψ= JF (x,zz,)):NZ<KL:=by unfold nC at e;let ((a,A),F,e):=cP e;let (g,p,e):=cP e;let (P,Z,e):=cP e;let ((f,D),l,e):=cP e;cases e;let v:=rx F;let a1:=jA p;let a2:=jA Z;let a3:=aad _ _ _ _ _ l;let a4:=tF iG g;lk
theorem aaf(h:Nat):∀(n m:Nat) (u:Ib IN),I3+1<=n->I3+1<=m->j2 h n u=j2 h m u:=by intro n;induction n with|zero=>intros;lia|succ n c=>intro m u G i;obtain ⟨m,rfl⟩:∃k,m=k+1:=Oi;cases u with|nil=>rw [j2,j2]|cons t r=>simp only [cH] at G i;rw [j2,j2];split;{cases e:nB h t r with|error E=>rfl|ok x=>let a:=ZQ v7 I6 e;change (j2 h n IY>>=_)=(j2 h m IY>>=_);lk};{split;{cases e:nC h t r with|error E=>rfl|ok x=>let a:=ZQ v8 I6 e;change (j2 h n IY>>=_)=(j2 h m IY>>=_);lk};{rfl}}
def iQ(h:Nat)(u:Ib IN):Im bh:=bG%j2 h (I3+1) u
def A_(h:Nat):iQ h []=J ({}):=y
theorem aag(h:Nat)(t:Tok)(r:Ib IN):iQ h (t::r)=XI SZ (bG%nB h t r).ag (λx=>(iQ h IY).ag λg=>J {g with syms:=I6::QL})%XI Mo (bG%nC h t r).ag (λx=>(iQ h IY).ag λg=>J {g with prods:=I6::N1}) I:=by unfold iQ;rw [j2,dw];simp only [cH];split;{rw [c_];cases e:nB h t r with|error E=>rfl|ok x=>let a:=ZQ v7 I6 e;change bG (j2 h (MZ+1) IY>>=_)=_;rw [c_,aaf h (MZ+1) ((IY).a+1) IY Ih Ih];rfl};{rw [dw];split;{rw [c_];cases e:nC h t r with|error E=>rfl|ok x=>let a:=ZQ v8 I6 e;change bG (j2 h (MZ+1) IY>>=_)=_;rw [c_,aaf h (MZ+1) ((IY).a+1) IY Ih Ih];rfl};{rfl}}
def ee(k:Uv):Ib IN->Im (IN × Ib IN)|t::r=>Xr (k t) (t,r,) K3| []=>none
def mL(h:Nat)(k:Uv)(u:Ib IN):bG%one h k u=ee k u:=by cases u with|nil=>rfl|cons t r=>rw [one,dw,ee];rfl
def mM:Ib IN->Im (Im Jo × Ib IN)| []=>none|t::r=>Xr (Ll 63) (K3,r,)%XI Mo (eS 61 r).ag (λr=>J (J (0,Jj,),r,))%XI (Kg==1) (eS 46 r).ag (λr=>(ee ed r).ag λx=>(eS 61 IY).ag λr=>J (J (UA Jj,K0,),r,)) K3
def ah'(h:Nat)(u:Ib IN):bG%Gj h u=mM u:=by cases u with|nil=>rfl|cons t r=>rw [Gj,mM,dw];split;{rfl};{rw [dw];split;{rw [c_,kH];rfl};{rw [dw];split;{rw [c_,kH];show d2 y%W8 _;rw [c_,mL];show d2 y%XO _;rw [c_,kH];rfl};{rfl}}}
def aah(h:Nat)(u:Ib IN):bG%nA h u=(mM u).ag (λx=>(pX IY).ag λe=>(eS 59 e.2).ag λr=>J ({pos:=(u.head?.o Tok.pos).az h,target:=I6,expr:=e.1},r,)):=by unfold nA;rw [c_,ah'];show d2 y%W8 _;rw [c_,ah2];show d2 y%XO _;rw [c_,kH];rfl
def aai(h:Nat)(t:Tok)(u:Ib IN):bG%nB h t u=(eS 62 (dI ed u).2).ag (λr=>(eS 59 (dI ed r).2).ag λP=>J ({name:=Jj,pos:=t.pos,downs:=(dI ed u).1,ups:=(dI ed r).1},P,)):=by unfold nB;dsimp only;rw [c_,kH];show d2 y%W8 _;rw [c_,kH];rfl
def aaj(h:Nat)(t:Tok)(u:Ib IN):bG%nC h t u=(ee iG u).ag (λl=>(eS 58%Wp (cu 35 l.2) (l.2.Q 1) l.2).ag λr=>(eS 123 (dI iG r).2).ag λP=>(kK h P).ag λx=>J ({name:=Jj,pos:=t.pos,left:=afX l.1,own:=cu 35 l.2,kids:=(dI iG r).1,rules:=I6},IY,)):=by unfold nC;rw [c_,mL];show d2 y%W8 _;dsimp only;rw [c_,kH];show d2 y%XO _;rw [c_,kH];show d2 y%Wb j _;rw [c_];rfl
def lU(e:aL):Im bh:=(tk 0 e).ag λu=>iQ e.a u
def aia(e:aL):bG%afY e=lU e:=by unfold afY lU;rw [c_,aab];rfl
def aib(e:aL):afZ e=(lU e).ag (λg=>X_ (rawFlaws g e.a).bj%QM g):=by rw [←aia];unfold afZ;cases afY e<;>rfl
end TW
namespace TW
open Vaatta Vaattb Vaattd Vaattf
theorem A'{x}(e:qL q ψ= JF (x,zz,)):NZ<=KL:=by unfold qL at e;split at e;{cases e;simp};{rename_i t r;split at e;{let ((j,P),Z,e):=cP e;cases e;have:=rx Z;lk};{lk}}
structure aic(h n:Nat):Ir where
 tr:∀d a u x G O,oY h n d a u= JF (x,O,G,)->JY<I3
 ki:∀d a u x G O,oZ h n d a u= JF (x,O,G,)->JY<I3
theorem A!(h:Nat):∀n,aic h n:=by intro n;induction n with|zero=>constructor;{intro _ _ _ _ _ _ e;rw [oY] at e;cases e};{intro _ _ _ _ _ _ e;rw [oZ] at e;cases e}|succ n c=>constructor;{intro d a u x G O e;rw [oY] at e;let ((t,r),p,e):=cP e;let a1:=rx p;dsimp only at e;split at e;{cases e};{split at e;{cases e};{let ((v,P),Z,e):=cP e;let a2:=A' Z;dsimp only at e;split at e;{let ((f,b,D),l,e):=cP e;cases e;let a3:=c.ki _ _ _ _ _ _ l;lk};{cases e;lia}}}};{intro d a u x G O e;rw [oZ] at e;let ((t,u1,r),p,e):=cP e;let a1:=c.tr _ _ _ _ _ _ p;dsimp only at e;split at e;{cases e;lk};{let (P,Z,e):=cP e;let ((f,b,D),l,e):=cP e;cases e;let a2:=jA Z;let a3:=c.ki _ _ _ _ _ _ l;lia}}
def aid(h C:Nat)(u:Ib IN):bG%qL h u=bG%qL C u:=by cases u with|nil=>rfl|cons t r=>rw [qL,qL,dw,dw];split;{rw [c_,c_,mL,mL]};{rw [dw]}
structure aie(h C n:Nat):Ir where
 tr:∀m d a u,I3+1<=n->I3+1<=m->bG%oY h n d a u=bG%oY C m d a u
 ki:∀m d a u,I3+2<=n->I3+2<=m->bG%oZ h n d a u=bG%oZ C m d a u
theorem v9(h C:Nat):∀n,aie h C n:=by intro n;induction n with|zero=>constructor<;>(intros;lia)|succ n c=>constructor;{intro m d a u G i;obtain ⟨m,rfl⟩:∃k,m=k+1:=Oi;rw [oY,oY];show gq (by rw [mL,mL]) ?_;rintro ⟨t,r⟩ p;let a1:=rx p;dsimp only;split;{rfl};{split;{rfl};{show gq (aid _ _ _) ?_;rintro ⟨v,P⟩ Z;let a2:=A' Z;dsimp only;split;{rename_i b;let a3:=e!%hW b;show gq (c.ki m _ _ _ Ih Ih) ?_;cbv};{rfl}}}};{intro m d a u G i;obtain ⟨m,rfl⟩:∃k,m=k+1:=Oi;rw [oZ,oZ];show gq (c.tr m _ _ _ Ih Ih) ?_;rintro ⟨t,O,r⟩ p;let a1:=(A! h n).tr _ _ _ _ _ _ p;dsimp only;split;{rfl};{show gq (AX _ _ _ _) ?_;intro P Z;let a2:=jA Z;show gq (c.ki m _ _ _ Ih Ih) ?_;cbv}}
def qT(d a:Nat)(u:Ib IN):Im (hj × Z8 (Ib IN)):=bG%oY 0 (I3+2) d a u
def qK(d a:Nat)(u:Ib IN):Im (Ib hj × Z8 (Ib IN)):=bG%oZ 0 (I3+2) d a u
def qN(u:Ib IN):Im (Im Ix × Ib IN):=bG%qL 0 u
def aif{x:hj × Z8 (Ib IN)}(h:qT q Z ψ=J x):(SU).a<KL:=(A! _ _).tr _ _ _ _ _ _%i' h
def aih{x:Im Ix × Ib IN}(h:qN ψ=J x):(IY).a<=KL:=A'%i' h
def n1{k:Uv}{x:IN × Ib IN}(h:ee k ψ=J x):(IY).a+1=KL:=by rw [←mL 0] at h;show rx%i' h
theorem aak(d a:Nat)(u:Ib IN):qT d a u=(ee ed u).ag%Ye x (u?<d) I%YZ (y_<=a) I (qN IY).ag (λv=>XI (cu 40 L4) (qK (d+1) (a+1)%(L4).Q 1).ag (λf=>J (.node K0 Ut P2 f.1,f.2,))%J (.node K0 Ut P2 [],a+1,L4,)):=by unfold qT;rw [oY,c_,mL];show d2 y ?_;intro x N;let a1:=n1 N;rw [dw];split;{rfl};{rw [dw];split;{rfl};{rw [c_];show d2 y ?_;intro v A;let a2:=aih A;rw [dw];split;{rename_i P;let a3:=e!%hW P;rw [c_,(v9 0 0 (I3+1)).ki (((L4).Q 1).a+2) _ _ _ Ih Ih];rfl};{rfl}}}
theorem A?(d a:Nat)(u:Ib IN):qK d a u=(qT d a u).ag (λt=>Xr (cu 41 (Nf).2) ([t.1],(Nf).1,(Nf).2.Q 1,)%(eS 44 (Nf).2).ag λr=>(qK d (Nf).1 r).ag λf=>J (t.1::f.1,f.2,)):=by unfold qK;rw [oZ,c_,(v9 0 0 (I3+1)).tr (I3+2) _ _ _ Ih Ih];show d2 y ?_;intro t v;let a1:=(A! _ _).tr _ _ _ _ _ _%i' v;rw [dw];split;{rfl};{rw [c_,kH];show d2 y ?_;intro r L;let a2:=tA L;let a1:(Nf).2.a<I3:=a1;rw [c_,(v9 0 0 (I3+1)).ki (MZ+2) _ _ _ Ih Ih];rfl}
def v_(e:aL):Im hj:=(tk 0 e).ag λu=>(qT 1 0 u).ag λx=>X_ (SU).bj I6
theorem aii(e:aL):bG%readRaw e=v_ e:=by unfold readRaw v_;rw [c_,aab];show d2 y ?_;intro u _;rw [c_,(v9 _ 0 _).tr (I3+2) _ _ _ Ih Ih];show d2 y ?_;intro x _;rw [dw];split<;>rfl
def aal(g:bh)(e:aL):qM g e=(v_ e).ag (λt=>X_ (flawsOf g I t).bj%hP g t):=by rw [←aii];unfold qM;cases readRaw e<;>rfl
def fA(O:Tok):Bool:=O.bh==1
def hX(e:Bool)(u:Ib IN):Im (Im Ix × Ib IN):=W! e (cu 45 u) ((ee fA%LN 1).ag λx=>J (J (-(YH K0)),IY,)) ((ee fA u).ag λx=>J (J%YH K0,IY,))%J (I,u,)
def g8(O:Ib bQ)(a j:Nat):Ib bQ:=O.modify a λi=>_bb MG [j]
def pI(O:Ib bQ)(a:Nat):Nat:=((O[a]?).o λi=>Pd).az 0
def push(j:Ib Iu)(O:Ib bQ)(b:Nat)(B:Int):Ib bQ:=match j with| []=>O++ [Z9 b B I 0]|a::_=>g8 O a I'++ [Z9 b B (J a) (pI O a+1)]
mutual
def run(g:bh):Iu->Ib Iu->Ib bQ->Ib IN->Im%Ib bQ|0,_,_,_=>none|n+1,j,O,u=>YZ (y_<=I'∨u?<=Lz) K3 (ee ed u).ag (λx=>match f? g K0 with|none=>none|J p=>(hX P5 IY).ag (Ye v (cu 40 L4) (run g n (I'::j) (Lm j O ((ic g K0).az 0)%_Aa 0)%(L4).Q 1)%UB g n j (Lm j O ((ic g K0).az 0)%_Aa 0) L4)) termination_by structural n=>n
def after(g:bh):Iu->Ib Iu->Ib bQ->Ib IN->Im%Ib bQ|0,_,_,_=>none|_+1, [],O,u=>Xr u.bj O K3|n+1,a::o,O,u=>YZ (cu 41 u) (UB g n o O%LN 1) (eS 44 u).ag (λG=>run g n (a::o) O G) termination_by structural n=>n
end
theorem Ba{x:Im Ix × Ib IN}(h:hX zc ψ=J x):(IY).a<=KL:=by unfold hX at h;split at h;{split at h;{let (A,D,R):=JG h;cases R;have:=n1 D;lk};{let (A,D,R):=JG h;cases R;have:=n1 D;lk}};{lk}
structure aij(g:bh)(n:Nat):Ir where
 ru:∀m j O u,I3+1<=n->I3+1<=m->run g n j O u=run g m j O u
 af:∀m j O u,I3+1<=n->I3+1<=m->UB g n j O u=UB g m j O u
theorem v'(g:bh):∀n,aij g n:=by intro n;induction n with|zero=>constructor<;>(intros;lia)|succ n c=>constructor;{intro m j O u G i;obtain ⟨m,rfl⟩:∃k,m=k+1:=Oi;rw [run,run];split;{rfl};{show d2 y ?_;intro x N;let a1:=n1 N;cases f? g x.1.ah with|none=>rfl|some p=>show d2 y ?_;intro v A;let a2:=Ba A;split;{rename_i P;let a3:=e!%hW P;show c.ru m _ _ _ Ih Ih};{show c.af m _ _ _ Ih Ih}}};{intro m j O u G i;obtain ⟨m,rfl⟩:∃k,m=k+1:=Oi;cases j with|nil=>rw [after,after]|cons a o=>rw [after,after];split;{rename_i P;let a3:=e!%hW P;show c.af m _ _ _ Ih Ih};{show d2 y ?_;intro b t;let a3:=tA t;show c.ru m _ _ _ Ih Ih}}
def rR(g:bh)(j:Ib Iu)(O:Ib bQ)(u:Ib IN):Im%Ib bQ:=run g (I3+1) j O u
def rA(g:bh)(j:Ib Iu)(O:Ib bQ)(u:Ib IN):Im%Ib bQ:=UB g (I3+1) j O u
theorem aam(g:bh)(j:Ib Iu)(O:Ib bQ)(u:Ib IN):rR g j O u=YZ (y_<=I'∨u?<=Lz) K3 (ee ed u).ag (λx=>match f? g K0 with|none=>none|J p=>(hX P5 IY).ag (Ye v (cu 40 L4) (rR g (I'::j) (Lm j O ((ic g K0).az 0)%_Aa 0)%(L4).Q 1)%rA g j (Lm j O ((ic g K0).az 0)%_Aa 0) L4)):=by unfold rR rA;rw [run];split;{rfl};{show d2 y ?_;intro x N;let a1:=n1 N;cases f? g x.1.ah with|none=>rfl|some p=>show d2 y ?_;intro v A;let a2:=Ba A;split;{rename_i P;let a3:=e!%hW P;show (v' g _).ru _ _ _ _ Ih Ih};{show (v' g _).af _ _ _ _ Ih Ih}}
def Bb(g:bh)(O:Ib bQ)(u:Ib IN):rA g [] O u=X_ u.bj O:=by unfold rA;rw [after]
theorem Bc(g:bh)(a:Nat)(o:Ib Iu)(O:Ib bQ)(u:Ib IN):rA g (a::o) O u=YZ (cu 41 u) (rA g o O%LN 1) (eS 44 u).ag (λG=>rR g (a::o) O G):=by unfold rA rR;rw [after];split;{rename_i P;let a3:=e!%hW P;cbv};{show d2 y ?_;intro G t;let a3:=tA t;show (v' g _).ru _ _ _ _ Ih Ih}
mutual
theorem jB(N:Im Iu)(W n:Nat):∀t:Ry,(ew N W n t).a=N2| .node p x f=>by rw [ew,cH,aan n 1 (n+1) f,va];lia
theorem aan(N W n:Nat):∀f:Ib Ry,(fl N W n f).a=j3 f| []=>by rw [fl,j3];rfl|t::r=>by rw [fl,cG,jB (J N) W n t,aan N (W+1) (n+N2) r,j3]
end
def mO(j:Ib Iu)(O:Ib bQ)(t:Tree):Ib bQ:=match j with| []=>O++ew I 0 I' t|a::_=>g8 O a I'++ew (J a) (pI O a+1) I' t
def j!(a:Nat):Ib bQ->Ib Ry->Ib bQ|O, []=>O|O,t::r=>j! a (mO [a] O t) r
def v!(O:Ib bQ)(a j:Nat):(g8 O a j).a=I':=awX ..
theorem aik(j:Ib Iu)(O:Ib bQ)(t:Tree):(mO j O t).a=I'+N2:=by unfold mO;cases j with|nil=>simp [jB]|cons a r=>simp [jB,v!]
theorem aao{f:Jc}(E:f->f):∀(b:Ib f) (i:f) (c:Ib f),(b++i::c).modify M0 E=b++E i::c| [],i,c=>y|a::b,i,c=>by change a::((b++i::c).modify M0 E)=_;rw [aao E b i c];rfl
theorem Bd:∀(f:Ib Ry) (b:Ib bQ) (i:bQ) (c:Ib bQ),j! M0 (b++i::c) f=b++{i with kids:=MG++j4 (b++i::c).a f}::(c++fl M0 (Pd+1) (b++i::c).a f)| [],b,i,c=>by rw [j!,j4,fl,fo,fo]|t::r,b,i,c=>by rw [j!,mO];let p:g8 (b++i::c) M0 (b++i::c).a=b++_bb MG [(b++i::c).a]::c:=aao _ _ _ _;(let Z:pI (b++i::c) M0=Pd:=by unfold pI;cbv);rw [p,Z,iH,o1,Bd r];(let l:(b++_bb MG [(b++i::c).a]::(c++ew (J M0) (Pd+1) (b++i::c).a t)).a=(b++i::c).a+N2:=by simp only [cG,cH,jB];lia);rw [l,j4,fl];cbv
theorem aap(j:Ib Iu)(O:Ib bQ)(i:Nat)(x:Im Ix)(f:Ib Ry):j! I' (Lm j O i%x.az 0) f=mO j O%.node i x f:=by cases j with|nil=>change j! I' (O++_:: []) f=O++ew I 0 I'%.node i x f;rw [Bd,ew];simp|cons a r=>let h:=Bd f (g8 O a I') (Z9 i (x.az 0) (J a) (pI O a+1)) [];rw [v!] at h;change j! I' (g8 O a I'++_:: []) f=_;rw [h];change _=g8 O a I'++ew _ _ _ _;rw [ew];simp [v!]
mutual
def gK(g:bh):WA hj| .node k _ B z=>(match f? g k with|I=>false|J p=>B.as==P5) && ip g z
def ip(g:bh):WA%Ib hj| []=>true|t::r=>gK g t && ip g r
end
mutual
theorem Be(g:bh):∀(t:hj) (d a:Nat) (u G:Ib IN) (O:Nat),qT d a u=J (t,O,G,)->O=a+(hP g t).l| .node k T B z,d,a,u,G,O,h=>by rw [aak] at h;let (x,D,h):=JG h;split at h;{cases h};{split at h;{cases h};{let (c,R,h):=JG h;split at h;{let (f,V,h):=JG h;let (Q,v,m):=f;simp only [mn,j5,awY] at h;let ((_,_,_,p),Z,l):=h;subst p Z l;have:=aaq g _ _ _ _ _ _ V;rw [hP,va];lia};{simp only [mn,j5,awY] at h;let ((_,_,_,p),Z,l):=h;subst p Z l;rw [hP,va,fH,j3]}}}
theorem aaq(g:bh):∀(f:Ib hj) (d a:Nat) (u G:Ib IN) (O:Nat),qK d a u=J (f,O,G,)->O=a+j3%fH g f| [],d,a,u,G,O,h=>by rw [A?] at h;let (x,D,h):=JG h;split at h;{cases h};{let (r,R,h):=JG h;let (f,V,h):=JG h;cases h}|t::o,d,a,u,G,O,h=>by rw [A?] at h;let (x,D,h):=JG h;let (b,e,i):=x;split at h;{simp only [mn,j5,af1] at h;let ((p,Z),l,H):=h;subst p Z l H;have:=Be g _ _ _ _ _ _ D;rw [fH,fH,j3,j3];lia};{let (r,R,h):=JG h;let (f,V,h):=JG h;let (Q,v,m):=f;simp only [mn,j5,af1] at h;let ((p,Z),l,H):=h;subst p Z l H;let a1:=Be g _ _ _ _ _ _ D;let a2:=aaq g _ _ _ _ _ _ V;rw [fH,j3];lk}
end
def aar(t:Tok)(r:Ib IN):qN (t::r)=XI (Ll 45) (ee fA r).ag (λx=>J (J (-(YH K0)),IY,))%Xr (Kg==1) (J%YH Jj,r,)%J (I,t::r,):=by unfold qN;rw [qL,dw];split;{rw [c_,mL];rfl};{rw [dw];rfl}
theorem ail(g:bh)(j:Ib Iu)(O:Ib bQ)(t:Tok)(r:Ib IN)(h:Ll 45=ag∨Kg=1):rA g j O (t::r)=I:=by (let P:∀b,WY 45->cu b (t::r)=ay:=by intro b W;change Ll b=ay;rcases h with h|h;{simp only [sL,cI,du] at h;simp only [sL,h.1,h.2,y!];lk};{simp [sL,h]});cases j with|nil=>rw [Bb];rfl|cons a o=>rw [Bc,P 41 Il];unfold eS;cbv
structure Sim(g:bh)(l:Nat):Ir where
 tr:∀j O u,I3<=l->rR g j O u=(qT (Lz+1) I' u).ag%Ye r (gK g NY) (rA g j (mO j O%hP g NY) r.2.2) I
 ki:∀a o O u,I3<=l->rR g (a::o) O u=(qK (o.a+2) I' u).ag%Ye r (ip g NY) (rA g o (j! a O%fH g NY) r.2.2) I
theorem aim(j:Ib Iu)(O:Ib bQ)(i:Nat)(x:Int):(Lm j O i x).a=I'+1:=by cases j with|nil=>simp [push]|cons a r=>simp [push,v!]
theorem aas(g:bh)(l:Nat)(c:∀k,k<l->Sim g k)(j:Ib Iu)(O:Ib bQ)(u:Ib IN)(V:I3<=l): rR g j O u=(qT (Lz+1) I' u).ag%Ye r (gK g NY) (rA g j (mO j O%hP g NY) r.2.2) I:=by rw [aam,aak];by_cases n:y_<=I'∨u?<=Lz;{rw [aA n];cases ee ed u with|none=>rfl|some x=>lk};{rw [au n];cases N:ee ed u with|none=>rfl|some x=>let a1:=n1 N;simp only [cO];rw [au Ih,au Ih];(let B:∀(p:dj) (v:Im Ix × Ib IN),f? g K0=J p->(P2).as=P5->(L4).a<=(IY).a->(Ww (cu 40 L4) (rR g (I'::j) (Lm j O ((ic g K0).az 0)%_Aa 0)%(L4).Q 1)%rA g j (Lm j O ((ic g K0).az 0)%_Aa 0) L4) =(Ww (cu 40 L4) ((qK (Lz+1+1) (I'+1)%(L4).Q 1).ag λf=>J (y? K0 Ut P2 f.1,f.2,))%J (y? K0 Ut P2 [],I'+1,L4,)).ag (λr=>Ww (gK g NY) (rA g j (mO j O%hP g NY) r.2.2) I):=by intro p v d i s;by_cases P:cu 40 L4=ag;{rw [aA P,aA P];let a3:=e!%hW P;rw [(c (Wy l) Ih).ki _ _ _ _ Ih,aim];cases qK (j.a+1+1) (O.a+1) (v.2.Q 1) with|none=>rfl|some f=>simp only [cO];rw [gK,d,hP,aap];cbv};{rw [au P,au P];simp only [cO];rw [gK,d,hP,←aap];dsimp only;rw [i,ip,fH,j!];simp});(let b:∀(q:Im (Ib hj × Z8 (Ib IN))) (v:Im Ix × Ib IN),(∀p,f? g K0=J p->¬ (P2).as=P5)->((Ww (cu 40 L4) (q.ag λf=>J (y? K0 Ut P2 f.1,f.2,))%J (y? K0 Ut P2 [],I'+1,L4,)).ag λr=>Ww (gK g NY) (rA g j (mO j O%hP g NY) r.2.2) I)=I:=by intro q v i;(let e:∀f,gK g%y? K0 Ut P2 f=ay:=by intro f;rw [gK];lk);split;{cases q with|none=>rfl|some f=>simp [e]};{simp [e]});cases d:f? g x.1.ah with|none=>(dsimp only;cases qN x.2 with|none=>rfl|some v=>lk)|some p=>dsimp only;cases S:p.own with|true=>(unfold hX;rw [aA y];cases L:x.2 with|nil=>rw [XA (qN [])%J (I, [],)];simp only [cO];show Eq.q (XA _ I) ?_;show (b _ (I, [],)%XR Q q).J|cons t r=>rw [aar];by_cases a:Ll 45=ag;{rw [aA (show cu 45 (t::r)=ag from a),aA a];change ((ee fA r).ag _).ag _=_;cases R:ee fA r with|none=>rfl|some A=>let a2:=n1 R;simp only [cO];show B p (J (-(YH (Lj).ah)),Ly,) d _Ad IZ};{rw [au (show ¬ cu 45 (t::r)=ag from a),au a,ee];by_cases m:Kg=1;{rw [aA (show fA t=ag by simp [fA,m]),aA (by simp [m])];simp only [cO];show B p (J%YH Jj,r,) d _Ad (by rw [L];simp)};{rw [au (show ¬ fA t=ag by simp [fA,m]),au (by simp [m])];simp only [cO];show (b _ (I,t::r,)%XR Q q).J}})|false=>unfold hX;rw [au Ii];simp only [cO];cases L:x.2 with|nil=>let k:=B p (I,IY,) d _Ad%bj _;rw [L] at k;show k|cons t r=>rw [aar];by_cases a:Ll 45=ag∨Kg=1;{(let o:¬ cu 40 (t::r)=ag:=by change ¬ Ll 40=ag;intro q;simp only [sL,cI,du] at q a;lk);rw [au o,ail g _ _ t r a];by_cases T:Ll 45=ag;{rw [aA T];cases R:ee fA r with|none=>rfl|some A=>simp only [cO];show (b _ (J (-(YH (Lj).ah)),Ly,)%XR Q q).J};{rw [au T,aA IZ];simp only [cO];show (b _ (J%YH Jj,r,)%XR Q q).J}};{rw [au%W0 (¬ Ll 45=ag) λq=>a%Ik q,au%W0 (¬ (Kg==1)=ag) λq=>a%Iy _Es];simp only [cO];let k:=B p (I,IY,) d _Ad%bj _;lk}}
theorem sim(g:bh):∀l,Sim g l:=by intro l;induction l using Nat.strongRecOn with|_ l c=>show Wt%aas g l c;intro a o O u V;rw [aas g l c (a::o) O u V,A?];change (qT (o.a+2) I' u).ag _=_;cases v:qT (o.a+2) O.a u with|none=>rfl|some t=>let (d,j,r):=t;let a1:=aif v;let a2:=Be g _ _ _ _ _ _ v;simp only [cO];rw [Bc];by_cases b:cu 41 r=ag;{rw [aA b,aA b];simp only [cO];rw [ip,ip,fH,fH,j!,j!,vb];rfl};{rw [au b,au b];cases D:eS 44 r with|none=>simp|some G=>let a3:=tA D;simp only [cO];dsimp only at a1;rw [(c (Wy l) Ih).ki _ _ _ _ Ih,aik,←a2];cases qK (o.a+2) j G with|none=>simp|some f=>simp only [cO];rw [ip,fH,j!];by_cases q:gK g d=ag;{rw [aA q,q,o2];rfl};{cbv}}
def ain(g:bh)(u:Ib IN):rR g [] [] u=(qT 1 0 u).ag (λr=>W! (gK g NY) r.2.2.bj (J%ew I 0 0%hP g NY) I I):=by rw [(sim g I3).tr [] [] u%bj _];show d2 y ?_;intro r _;rw [Bb];rfl
theorem Bf{f:Jc}(p:QE):∀(l:Ib f) (x:f),l.cd p=J x->∃i,l.fd p=J i/\Wg l=J x| [],x,h=>On|a::l,x,h=>by rw [fG] at h;rw [List.findIdx?_cons];cases q:p a with|true=>cbv|false=>rw [q] at h;let (i,D,R):=Bf p l x h;cbv
def v?(h:f? ρ zf=J Δ):ρ.b0[(ic ρ zf).az 0]?=J Δ:=by let (i,D,R):=Bf _ _ _ h;unfold ic;rw [D];show R
def Raw.left(g:bh):hj->aL| .node k _ _ _=>((f? g k).o λp=>Mp).az []
def jC(g:bh)(i:Nat):aL:=((Wg N1).o λp=>Mp).az []
def ry(g:bh)(i:Nat):Ib aL:=((Wg N1).o λp=>_Ae gb).az []
def okNode(g:bh)(all:Ib bQ)(i:bQ):Ir:=i.aa.o (λj=>jC g%((X8 j).o mq).az 0)=ry g i.gh
mutual
def rz(g:bh):WI hj| .node k _ _ z=>z.o%UC g=((f? g k).o λp=>_Ae gb).az []/\n2 g z
def n2(g:bh):WI%Ib hj| []=>True|t::r=>rz g t/\n2 g r
end
def Seg(all l:Ib bQ)(n:Nat):Ir:=∀M,M<LP->X8 (n+M)=Wm l
theorem Seg.left{l m:Ib bQ}(h:Ni zH (l++m) q):Ni zH l q:=λM X=>by rw [h M _Bc,vc X]
theorem Seg.right{all m:Ib bQ}(h:Ni IH (zH++m) q):Ni IH m (q+P6):=λM X=>Zt h (P6+M) _Bc
theorem aio:Wl%Vaattd.iff zc q Z↔zc=ay:=by unfold Vaattd.iff;cases zc<;>simp
mutual
theorem Bg(g:bh):∀(t:hj) (i:Im aL),Wl%flawsOf g i t↔(gK g t=ag/\rz g t/\(∀w,i=J w->w=UC g t))| .node k n B z,i=>by rw [flawsOf,gK,rz,Raw.left];cases d:f? g k with|none=>simp|some p=>dsimp only;let c:=aat g z%_Ae gb;simp only [vd,aio,Gh,afW,cI,du];rw [aQ] at c;constructor;{rintro ⟨⟨⟨⟨D,R⟩,V⟩,T⟩,W⟩;(let l:z.a=Pe:=by simpa using V);let (Q,v,m):=(c l).R W;show ((?_,Q),(m,v),?_);{cases B<;>cases q:p.own<;>cbv};{lk}};{rintro ⟨⟨D,Q⟩,⟨m,v⟩,T⟩;(let l:z.a=Pe:=_ck dR j6 m);show (Wt (Wt ?_,_Dd),Ws (c l) (Q,v,m));{cbv};{cases B<;>cases q:p.own<;>cbv};{cases i with|none=>rfl|some w=>cbv}}
theorem aat(g:bh):∀(u:Ib hj) (wants:Ib aL),I3=wants.a->(Wl%flawsAll g _Af u↔(ip g u=ag/\n2 g u/\u.o%UC g=_Af))| [],wants,h=>by have:Wl _Af:=nz h.J;subst this;rw [flawsAll,ip,n2];simp|t::r, [],h=>On|t::r,w::X,h=>by rw [flawsAll,ip,n2,vd];let D:=Bg g t%J w;let R:=aat g r X OL;lk
end
theorem aip{t:hj}(h:gK ρ t=ag):jC ρ (hP ρ t).gh=UC ρ t:=by let (k,T,B,z):=t;rw [gK,cI] at h;rw [hP,Tree.prod,Raw.left];cases d:f? ρ k with|none=>cbv|some p=>unfold jC;rw [v? d]
def lay_head(N:Im Iu)(W n:Nat)(t:Tree):((ew N W n t)[0]?).o mq=J t.gh:=by cases t with|node p x f=>rw [ew];rfl
theorem aau(t:Tree):0<N2:=by cases t with|node p x f=>rw [va];lia
theorem aav(g:bh)(all:Ib bQ):ZU (Ib hj) (ip g f=ag) (Ni IH (fl N W n%fH g f) n->(j4 n%fH g f).o (λj=>jC g%((X8 j).o mq).az 0)=MH%UC g)| [],N,W,n,_,_=>by rw [fH,j4];rfl|t::r,N,W,n,h,s=>by rw [ip,cI] at h;rw [fH,fl] at s;rw [fH,j4,dJ,dJ];let w:=s.bo 0 (by rw [jB];show aau _);rw [ve] at w;rw [w,lay_head];let p:=s.hq;rw [jB] at p;rw [aav g IH r N (W+1) _ Lv p];congr 1;show aip h.1
mutual
theorem aaw(g:bh)(all:Ib bQ):∀(t:hj) (N:Im Iu) (W n:Nat),gK g t=ag->Ni IH (ew N W n%hP g t) n->((∀i∈ew N W n (hP g t),P7 g IH i)↔rz g t)| .node k T B z,N,W,n,h,s=>by rw [gK,cI] at h;rw [hP,ew] at s ⊢;let p:Ni IH (fl n 1 (n+1)%fH g z) (n+1):=_bm [_] s;let c:=aax g IH z n 1 (n+1) Lv p;let st:=aav g IH z n 1 (n+1) Lv p;rw [rz,Aa,c];cases d:f? g k with|none=>cbv|some a=>(let e:P7 g IH {prod:=(ic g k).az 0,num:=B.az 0,parent:=N,place:=W,kids:=j4 (n+1) (fH g z)}↔z.o%UC g=_Ag gb:=by unfold okNode ry;dsimp only;rw [st,v? d];rfl);rw [e];rfl
theorem aax(g:bh)(all:Ib bQ):ZU (Ib hj) (ip g f=ag) (Ni IH (fl N W n%fH g f) n->((∀i∈fl N W n (fH g f),P7 g IH i)↔n2 g f))| [],N,W,n,_,_=>by rw [fH,fl,n2];simp|t::r,N,W,n,h,s=>by rw [ip,cI] at h;rw [fH,fl] at s ⊢;let p:=s.hq;rw [jB] at p;rw [n2,awZ,aaw g IH t _ _ _ h.1 s.bo,aax g IH r _ _ _ Lv p]
end
theorem Bh(g:bh)(e:aL):(qM g e).o%ew I 0 0=(tk 0 e).ag (λu=>(rR g [] [] u).ag λO=>open Classical in X_ (∀i∈O,P7 g O i) O):=by rw [aal,v_];cases tk 0 e with|none=>rfl|some u=>simp only [cO];rw [ain];cases qT 1 0 u with|none=>rfl|some r=>let (t,a,G):=r;simp only [cO];let E:=Bg g t I;by_cases D:gK g t=ag;{rw [aA D];by_cases R:G.bj=ag;{rw [aA R,aA R];simp only [cO];let k:=aaw g (ew I 0 0%hP g t) t I 0 0 D (λM _=>by rw [Gm]);lk};{cbv}};{cbv}
end TW
namespace TW
open Vaatta Vaattb
inductive kL (g:bh):WI aL where
 |mk (p:dj) (h:p∈N1) (k:∀j∈p.kids,kL g j.Z):kL g Mp
def i!(m:Ib%XQ aL)(s:aL):Bool:=(o3 m s).as
theorem aay(m:Ib%XQ aL)(s:aL):i! m s=ag↔∃x∈m,I6=s:=by unfold i! o3;cbv
theorem aaz(m:Ib%XQ aL)(p:dj):(Ac m p).as=ag↔∀j∈p.kids,i! m j.Z=ag:=by unfold Ac;(let B:∀(f:Ib mr) (o:Im Iu),(f.fp (λn k=>n.ag λa=>(o3 m k.Z).o λb=>a+b) o).as=ag↔(o.as=ag/\∀j∈f,i! m j.Z=ag):=by intro f;induction f with|nil=>intro o;simp|cons k r c=>intro o;rw [oX,c,Aa];unfold i!;cases o with|none=>simp|some a=>simp [qO]);rw [B];simp
def Bi(g:bh)(P:WI aL)(s:aL):Ir:=∃p∈g.prods,Mp=s/\∀j∈p.kids,P j.Z
theorem aaA:∀l:Ib Iu,l.min?.as=ag↔XC l| []=>Ii|a::l=>by simp [List.min?]
theorem aiq(g:bh)(m:Ib%XQ aL)(s:aL):i! (o4 g m) s=ag↔((_aC A.Z s)/\Bi g (λj=>i! m j=ag) s):=by rw [aay];unfold o4 Bi;constructor;{rintro ⟨x,N,rfl⟩;let (A,u,D):=lD.R N;rw [en] at D;let (n,G,rfl):=D;show Wt (A,u,y);(let a:XC ((g.b0.bn λp=>Mp==A.Z).d7%Ac m):=IZ);let (z,E):=List.exists_mem_of_ne_nil _ a;let (p,d,E):=lD.R E;rw [jo] at d;show (p,d.1,by simpa using d.2,(aaz m p).R (by rw [E];rfl))};{rintro ⟨⟨A,u,rfl⟩,p,d,D,b⟩;let R:=Ws (aaz m p) b;let (z,E):=OM R;(let a:((g.b0.bn λp=>Mp==A.Z).d7%Ac m).min?.isSome=ag:=by rw [aaA];intro q;cbv);let (n,G):=OM a;show ((A.Z,n,),_Bd (A,u,by rw [G];rfl),y)}
def iter{T:Jc}(E:T->T):Iu->T->T|0,x=>x|n+1,x=>Pf E n%E x
theorem aaB{T:Jc}(E:T->T){x:T}(h:E x=x):∀n,Pf E n x=x|0=>y|n+1=>by rw [iter,h,aaB E h n]
theorem aaC{T:Jc}(E:T->T):∀(n:Nat) (x:T),Pf E (n+1) x=E%Pf E n x|0,x=>y|n+1,x=>by rw [iter,aaC E n%E x];rfl
theorem aaD{T:Jc}[BEq T][LawfulBEq T](E:T->T):∀(n:Nat) (x:T),times E n x=Pf E n x|0,x=>y|n+1,x=>by rw [times];split;{rename_i h;rw [iter,_Ah h,aaB E%_Ah h]};{rw [iter,aaD E n]}
def bg(g:bh)(k:Nat)(s:aL):Ir:=i! (Pf (o4 g) k []) s=ag
def aaE(g:bh)(s:aL):¬ bg g 0 s:=by intro h;let (x,N,_):=(aay _ _).R h;cases N
def rB(g:bh)(k:Nat)(s:aL):bg g (k+1) s↔((_aC A.Z s)/\Bi g (bg g k) s):=by unfold bg;rw [aaC,aiq]
theorem aaF(g:bh):∀(k:Nat) (s:aL),bg g k s->bg g (k+1) s|0,s,h=>a' h%aaE g s|k+1,s,h=>by rw [rB] at h ⊢;let (D,p,d,a,b):=h;show (D,p,d,a,λj m=>aaF g k _%b j m)
theorem aaG(g:bh):∀(k:Nat) (s:aL),bg g k s->kL g s|0,s,h=>a' h%aaE g s|k+1,s,h=>by rw [rB] at h;let (_,p,d,D,a):=h;rw [←D];show .mk p d λj m=>aaG g k _%a j m
def air(g:bh)(h:∀s,bg g (q+1) s->bg g q s):∀s,bg g (q+2) s->bg g (q+1) s:=by intro s P;rw [rB] at P ⊢;let (D,p,d,a,b):=P;show (D,p,d,a,λj m=>h _%b j m)
theorem aaH{f:Jc}(p q:QE):YB f ((Y9 (p x=ag->q x=ag))->(∃x∈l,q x=ag/\p x=ay)->(QN p).a<(QN q).a)| [],_,(x,N,_)=>by cases N|a::l,h,(x,N,D,R)=>by (let t:YB f ((Y9 (p x=ag->q x=ag))->(QN p).a<=(QN q).a):=by intro l;induction l with|nil=>intro _;simp|cons b l c=>lk);let V:=t l λx N=>h x%cL _ N;rw [ie,ie];rcases b0.R N with e|N;{lk};{let c:=aaH p q l (λx N=>h x%cL _ N) (x,N,D,R);lk}
theorem aaI(g:bh):∀k,(∀s,bg g (k+1) s->bg g k s)∨k+1<=(g.b8.bn λA=>i! (Pf (o4 g) (k+1) []) A.Z).a|0=>by by_cases h:∀s,bg g 1 s->bg g 0 s;{show Ik h};{right;let h:∃s,bg g 1 s:=sP λq=>h λs P=>a' (s,P) q;let (s,P):=h;let F:=P;rw [rB] at P;let ((A,u,rfl),_):=P;have:A∈g.b8.bn (λA=>i! (Pf (o4 g) (0+1) []) A.Z):=_Be (u,F);show aw0 this}|k+1=>by by_cases h:∀s,bg g (k+2) s->bg g (k+1) s;{show Ik h};{right;rcases aaI g k with q|q;{show a' (air g q) h};{(let h:∃s,bg g (k+2) s/\¬ bg g (k+1) s:=Io);let (s,D,R):=h;let F:=D;rw [rB] at D;let ((A,u,rfl),_):=D;have:=aaH (λA:eo=>i! (Pf (o4 g) (k+1) []) A.Z) (λA:eo=>i! (Pf (o4 g) (k+1+1) []) A.Z) QL (λx _ N=>aaF g (k+1) _ N) (A,u,F,by cases z:i! (iter (o4 g) (k+1) []) A.Z with|false=>rfl|true=>show a' z R);lia}}
theorem ais(g:bh):∀s,bg g (Mq+1) s->bg g Mq s:=by rcases aaI g g.b8.a with h|h;{show h};{lk}
theorem ait(g:bh)(hd:∀p∈g.prods,_aC A.Z Mp)(h:kL g zf):bg g Mq zf:=by induction h with|mk p d a c=>show ais g _ ?_;rw [rB];show (hd p d,p,d,y,c)
def aaJ(g:bh)(hd:∀p∈g.prods,_aC A.Z Mp)(s:aL):(o3 (o5 g) s).as=ag↔kL g s:=by unfold o5;rw [aaD];show (aaG g _ s,ait g hd)
def Sym.names(s:eo):Ib aL:=_Bf gb++_Bg gb
theorem tI(k:zg->aL)(l:Ib zg):(_bx (sR k l IY%k I6=ay))↔(JZ k).am:=by (let B:(∀(i:Nat) (a:zg),Wg l=J a->sR k l i%k a=ay)↔(JZ k).am:=by (let F:(JZ k).am↔∀(i M:Nat),i<M->M<(JZ k).a->Wg%JZ k=Wm%JZ k->P8:=by unfold List.Nodup;rw [aw1];lk);rw [F];constructor;{intro h i M c X e;rw [aQ] at X;obtain ⟨b,W⟩:∃b,Wm l=J b:=(_,d1 X);obtain ⟨a,N⟩:∃a,Wg l=J a:=(_,d1 Ih);rw [bL,bL,N,W] at e;let D:=h M b W;unfold sR at D;rw [af2] at D;let R:=D a%ON (i,Io);cbv};{intro h M b W;unfold sR;rw [af2];intro a N q;let (i,d):=JM N;lk});rw [←B];constructor;{intro h i a N;show h (a,i,)%Rz N};{lk}
theorem aaK:∀(l:Ib (aL × Nh)) (seen:Ib aL),(JZ sS).am->(Y9 (I6∉seen))->firsts seen l=l| [],seen,_,_=>y|x::r,seen,h,P=>by rw [dJ,gg] at h;rw [firsts,au Io,aaK r (I6::seen) Lv];lk
def Sym.both(s:eo):Ib (aL × Nh):=_Bf%_bd a.Z ag++_Bg%_bd a.Z ay
def i?(s:eo):(Mr s).o sS=KS s:=by unfold Sym.both Sym.names;rw [dW,dX,dX];rfl
def wa(h:(KS zW).am):zW.hr=Mr zW:=by unfold Sym.attrs;show aaK _ [] (by rw [←i?] at h;show h)%WG q (by cases q)
theorem pJ{E:Flaw}:Wl%Vaattb.iff zc E↔zc=ay:=by unfold Vaattb.iff;cases zc<;>simp
def n3(s:eo):(s.db++s.ups).o gb=KS s:=by unfold Sym.names;rw [dW]
def g9(g:bh):Ir:=1<=Mq/\Mq<=af3/\(RA o6).am/\∀s∈g.syms,(KS s).a<=sT/\(KS s).am
def aaL(g:bh):Ir:=∀s∈g.syms,(o3 (o5 g) MI).as=ag
theorem mP(P:WI zg)(l:Ib zg):(_bx%P I6)↔∀a∈l,P a:=by constructor;{intro h a N;let (i,b):=JM N;show h (a,i,)%Rz b};{lk}
theorem wb(m:Nat)(l:Ib zg):(_bx (aT (m<=IY)=ay))↔LP<=m:=by constructor;{intro h;show Gi%We q;have:=h (l[m],m,)%Rz%d1 q;simp at this};{lk}
theorem aiu(g:bh):(g.b8.bj=ay/\∀x∈g.syms.zipIdx,Wl (symFlaws g (o5 g) I6 IY))↔(g9 g/\aaL g):=by (let p:∀x:XQ eo,Wl%symFlaws g (o5 g) I6 IY↔(sR o6 QL IY Ru=ay/\(KS I6).am/\aT (sT<(I6).attrs.length)=ay/\aT (af3<=IY)=ay/\(!sR o6 QL IY Ru && (o3 (o5 g) Ru).gl)=ay):=by intro x;unfold symFlaws;simp only [vd,pJ,Gp];rw [tI gb ((I6).db++(I6).ups),n3];lk);constructor;{rintro ⟨F,h⟩;let h:∀x∈g.syms.zipIdx,_:=λx N=>(p x).R%h x N;show Wt (?_,?_,?_,?_);{lk};{show (wb _ _).R%XZ x N (h x N).2.2.2};{show (tI _ _).R%XZ x N%h x N};{rw [←mP];intro x N;let G:=(h x N).2.1;let V:=(h x N).2.2.1;rw [wa G] at V;show (?_,G);rw [←i?,aQ];simpa using V};{unfold aaL;rw [←mP];lk}};{rintro ⟨⟨D,R,b,T⟩,W⟩;show (?_,λx N=>Ws (p x) (?_,?_,?_,?_,?_));{lk};{show (tI _ _).mpr b x N};{lk};{let G:=(mP (λs=>(KS s).a<=sT/\(KS s).am) _).mpr T x N;rw [wa G.2];have:=G.1;rw [←i?,aQ] at this;simp;lia};{lk};{have:=(mP (λs:eo=>(o3 (o5 g) MI).as=ag) _).mpr W x N;cbv}}
theorem Bj{s:Jc}[_Ai s]:∀a:Ib%Im s,(_bl (Wg a=J%J t->J t∉a.Y i))↔(a.d7 id).am| []=>Ii|o::r=>by let c:=Bj r;(let e:(_bl (Wg (o::r)=J%J t->J t∉(o::r).Y i))↔((_bl (Wg r=J%J t->J t∉r.Y i))/\∀t∈r.d7 id,o≠J t):=by constructor;{intro h;show (Wj i t l q,Wd t v q);{show h (i+1) t _Dd _De};{let (x,N,w):=lD.R v;let w:x=J t:=w;subst w;let (i,l):=JM N;show h (i+1) t _Dd _De}};{rintro ⟨D,R⟩ i t l q;cases i with|zero=>simp at q|succ i=>lk});lk
def gM(g:bh)(n:aL):Ib aL:=((eZ g n).o KS).az []
def ht(g:bh)(n:aL):Ib aL:=((eZ g n).o λs=>_Bg gb).az []
def gN(g:bh)(n:aL):Ib aL:=((eZ g n).o λs=>_Bf gb).az []
def nameAt(p:dj)(k:Nat):aL:=(p.sym k).az []
def e4(g:bh)(p:dj):Ib Jo:=(ht g Mp).o%X4 0++p.aa.zipIdx.en (λx=>(gN g Ru).o%X4 (IY+1))
def ja(g:bh)(p:dj):Ir:=∀n∈p.bo::p.aa,(eZ g M1).as=ag
def pN(g:bh)(p:dj)(e:Expr):Ir:=(P5=ag∨e.b4=ay)/\∀o∈e.occs,JW<=Pe/\JX∈gM g%L5 p JW
def hY(g:bh)(p:dj):Ir:=Pe<=mostKids/\p.b3.a<=mostRules/\ja g p/\(lF p).Perm%e4 g p/\∀r∈p.rules,pN g p P9
theorem iR(h:eZ ρ zf=J zW):zW∈ρ.b8/\zW.Z=zf:=by unfold eZ at h;lk
theorem aaM(hd:ja ρ Δ)(a:q<=LA):∃s,eZ ρ%L5 Δ q=J s/\Δ.sym q=J MI/\MI=L5 Δ q:=by unfold nameAt vf;split;{let (s,P):=OM%hd Δ.bo cA;show (s,P,by rw [(iR P).2],(iR P).2)};{(let t:Wy q<LA:=Ih);let (s,P):=OM%hd RB[Wy q]%cL _%aw3 t;rw [d1 t];show (s,P,by rw [(iR P).2];rfl,(iR P).2)}
def rC(S:g9 ρ)(hd:ja ρ Δ)(a:q<=LA):∃s,eZ ρ%L5 Δ q=J s/\attrsAt ρ Δ q=J%Mr s/\(KS s).am/\(KS s).a<=sT:=by let (s,D,R,V):=aaM hd a;let P:=S.2.2.2 s (iR D).1;show (s,D,?_,P.2,P.1);unfold attrsAt;rw [R];change ((eZ ρ MI).o Sym.hr)=_;rw [V,D];change J s.hr=_;rw [wa P.2]
theorem Bk(G:(KS zW).am)(a:aL)(b:Bool):((Mr zW).cd λx=>I6==a)=J (a,b,)↔(a,b,)∈Mr zW:=by constructor;{lk};{intro h;rw [←i?] at G;generalize Mr zW=l at h G;induction l with|nil=>cases h|cons x r c=>lk}
theorem aaN(a:aL):((Mr zW).cd λx=>I6==a)=I↔a∉KS zW:=by rw [qF,←i?];lk
theorem aaO(S:g9 ρ)(hd:ja ρ Δ)(k:Nat)(a:aL):X3 a∈e4 ρ Δ↔(k<=LA/\∃x,qP ρ Δ k a=J x/\mine k IY=ag):=by (let d:∀{k:Nat},k<=LA->∃s,eZ ρ%L5 Δ k=J s/\(∀x,qP ρ Δ k a=J x↔(I6=a/\x∈Mr s)):=by intro k h;let (s,D,R,V,_):=rC S hd h;show (s,D,?_);rintro ⟨b,f⟩;unfold qP;rw [R];change ((Mr s).cd λx=>I6==a)=J (b,f,)↔_;constructor;{lk};{rintro ⟨e,q⟩;let e:b=a:=e;subst e;show Ws (Bk V b f) q});(let o:∀(s:eo) (f:Bool),(a,f,)∈Mr s↔(f=ag/\a∈_Bf gb)∨(f=ay/\a∈_Bg gb):=by intro s f;unfold Sym.both;lk);unfold e4;rw [d7];cases k with|zero=>let (s,D,R):=d%cj _;let F:L5 Δ 0=Δ.bo.Z:=y;rw [F] at D;(let no:(0,a,)∉Δ.aa.zipIdx.en (λx=>(gN ρ Ru).o%X4 (IY+1)):=Io);constructor;{rintro (q|q);{let (A,u,q):=Kl q;simp only [j5,true_and] at q;subst q;unfold ht at u;rw [D] at u;show (cj _,(A,ay,),Ws (R _) (y,Ws (o s ay)%Iy (y,u)),y)};{show a' q no}};{rintro ⟨_,⟨b,f⟩,N,i⟩;left;let (e,w):=(R _).R N;let e:b=a:=e;subst e;(let hd:f=ay:=_Et);subst hd;rcases (o s ay).R w with ⟨q,_⟩|⟨_,q⟩;{cases q};{show S0 (b,?_,y);unfold ht;cbv}}|succ M=>(let no:(M+1,a,)∉(ht ρ Δ.bo.Z).o%X4 0:=Io);constructor;{rintro (q|q);{show a' q no};{let ((n,j),N,q):=mv.R q;let (A,u,q):=Kl q;simp only [j5,Nat.add_right_cancel_iff] at q;let (rfl,rfl):=q;let l:=j7.R N;let t:=(I! l).1;let (s,D,R):=d (k:=j+1) Ih;(let m:L5 Δ (j+1)=M1:=_Bh);rw [m] at D;unfold gN at u;rw [D] at u;show (Ih,(A,ag,),Ws (R _) (y,Ws (o s ag)%Ik (y,u)),y)}};{rintro ⟨h,⟨b,f⟩,N,i⟩;right;let (s,D,R):=d h;let (e,w):=(R _).R N;let e:b=a:=e;subst e;(let hd:f=ag:=_Et);subst hd;(let t:M<LA:=Ih);(let m:L5 Δ (M+1)=RB[M].Z:=_Bh);rw [m] at D;show mv.mpr ((RB[M],M,),Rz%d1 t,S0 (b,?_,y));unfold gN;cbv}
theorem aaP{l:Ib aL}(h:l.Nodup):(JZ%X4 q).am:=IZ
theorem aaQ(S:g9 ρ):(e4 ρ Δ).am:=by (let i:∀n,(ht ρ n).am/\(gN ρ n).am:=by intro n;unfold ht gN;cases q:eZ ρ n with|none=>simp|some s=>have:=(S.2.2.2 s (iR q).1).2;unfold Sym.names at this;lk);unfold e4;rw [ky];show (aaP (i _).1,?_,?_);{(let B:∀(f:Ib mr) (M:Nat),((f.zipIdx M).en λx=>(gN ρ Ru).o%X4 (IY+1)).am/\∀z∈((f.zipIdx M).en λx=>(gN ρ Ru).o%X4 (IY+1)),M+1<=Mn:=by intro f;induction f with|nil=>intro M;simp|cons k r c=>intro M;let (T,Z):=c (M+1);rw [List.zipIdx_cons,aw4];lk);cbv};{lk}
theorem aaR(S:g9 ρ)(hd:ja ρ Δ)(k:Nat)(a:aL):(∃f∈duties ρ Δ,f.1=k/\f.2.2=a)↔X3 a∈e4 ρ Δ:=by rw [aaO S hd];unfold duties;constructor;{rintro ⟨f,c,rfl,rfl⟩;let (M,X,c):=mv.R c;rw [mw] at X;let (s,D,R,V,T):=rC S hd (q:=M) Ih;dsimp only at c;rw [R] at c;split at c;{cases c};{let (((b,d),i),N,rfl):=Kl c;rw [jo] at N;show (by dsimp only;lia,(b,d,),?_,N.2);unfold qP;dsimp only;rw [R];show Ws (Bk V b d)%ON (i,j7.R N.1)}};{rintro ⟨h,⟨b,d⟩,N,j⟩;let (s,D,R,V,T):=rC S hd h;unfold qP at N;rw [R] at N;(let e:b=a:=_aL qI N);subst e;let z:=oW N;let (i,l):=JM z;show ((k,i,b,),mv.mpr (k,mw.mpr Ih,?_),y,y);dsimp only;rw [R];rw [←i?,aQ] at T;rw [au%W0 (¬ sT<((J%Mr s).az []).a) _Df];show S0 (((b,d,),i,),_Be (Rz l,j),y)}
theorem Bl(S:g9 ρ)(hd:ja ρ Δ)(r:i6)(i:Nat):Wl%targetFlaws ρ Δ r i↔∀t,r.hj=J t->t∈e4 ρ Δ/\J t∉(Δ.b3.o Ae).Y i:=by unfold targetFlaws;cases v:r.target with|none=>simp|some t=>let (k,a):=t;dsimp only;(let e:((Δ.b3.Y i).any λq=>q.hj==J%X3 a)=ag↔J%X3 a∈(Δ.b3.o Ae).Y i:=by rw [vg,←Gs,b6];simp);let m:=aaO S hd k a;simp only [mn,forall_eq'];by_cases D:LA<k;{lk};{rw [au D];let (s,R,V,_):=rC S hd (q:=k) Ih;cases N:qP ρ Δ k a with|none=>cbv|some x=>rw [au Ii];cases b:mine k x.2 with|false=>cbv|true=>rw [au (by simp [b]),pJ];lk}
theorem aaS(S:g9 ρ)(hd:ja ρ Δ)(r:i6):Wl%nameFlaws ρ Δ r↔pN ρ Δ P9:=by unfold nameFlaws pN;rw [vd,pJ,Gp];(let b:(r.dk.b4 && !Δ.own)=ay↔(Δ.own=ag∨r.dk.b4=ay):=IZ);rw [b,and_comm];show and_congr sU ?_;rw [←mP λo:Jo=>JW<=LA/\JX∈gM ρ%L5 Δ JW];constructor;{rintro h ⟨o,i⟩ N;have:=h (o,i,) N;dsimp only at this ⊢;split at this;{cases this};{rename_i a;let (s,R,V,_):=rC S hd (q:=JW) Ih;show Wt Ih;rw [pJ,V] at this;unfold qP at this;rw [V] at this;unfold gM;rw [R];show sP%We q;let q:JX∉KS s:=q;rw [←aaN] at q;cbv}};{rintro h ⟨o,i⟩ N;let (a,G):=h (o,i,) N;dsimp only at a G ⊢;rw [au Ih,pJ];let (s,R,V,_):=rC S hd (q:=JW) Ih;unfold qP;rw [V];unfold gM at G;rw [R] at G;cases q:((Sym.e0 s).cd λx=>x.1==o.2) with|none=>show a' G%(aaN JX).R q|some A=>cbv}
theorem aaT(S:g9 ρ):(∀x∈ρ.prods.zipIdx,Wl (prodFlaws ρ I6 IY))↔(ρ.b0.a<=_Dg/\(_Bi Gu).am/\∀p∈ρ.prods,hY ρ p):=by (let e:∀x:XQ dj,Wl%prodFlaws ρ I6 IY↔(sR Gu ρ.b0 IY Ru=ay/\aT (_Dg<=IY)=ay/\hY ρ I6):=by intro x;let (p,M):=x;unfold prodFlaws;simp only [vd,pJ,Gp];constructor;{rintro ⟨⟨⟨⟨⟨⟨D,R⟩,V⟩,T⟩,W⟩,O⟩,j⟩;(let hd:ja ρ p:=by intro n G;have:=V n G;cbv);(let b:Pe<=mostKids:=_Df);rw [au Ih] at j;show (D,R,b,Nj,hd,?_,?_);{(let G:(lF p).am:=by (have:=(Bj%p.b3.o Ae).R (λi t l=>by rw [bL,en] at l;let (r,L,v):=l;show ((Bl S hd r i).R (O (r,i,)%Rz L).1 t v).2));rw [Gv] at this;show this);rw [List.perm_ext_iff_of_nodup G%aaQ S];rintro ⟨k,a⟩;constructor;{intro v;let (r,L,v):=lD.R v;let (i,l):=JM L;show ((Bl S hd r i).R (O (r,i,)%Rz l).1 _ v).1};{intro v;let (f,c,rfl,rfl):=Ws (aaR S hd k a) v;lk}};{rw [←mP];intro x N;show (aaS S hd I6).R (O x N).2}};{rintro ⟨D,R,b,W,hd,d,L⟩;let G:(lF p).am:=d.nodup_iff.mpr%aaQ S;show Wt%Wt ((Wt (D,R),by simpa using b),Nj);{intro n G;have:=hd n G;cbv};{rintro ⟨r,i⟩ N;let l:=j7.R N;show (Ws (Bl S hd r i) λt v=>Wt ?_,Ws (aaS S hd r)%L r%ON (i,l));{show d.fy.R%_Bd (r,ON (i,l),v)};{show (Bj%p.b3.o Ae).mpr ?_ i t Io;rw [Gv];show G}};{rw [au Ih];intro f c;have:=d.fy.mpr%(aaR S hd f.1 f.2.2).R (f,c,y,y);simpa using this}});constructor;{intro h;let h:∀x∈ρ.prods.zipIdx,_:=λx N=>(e x).R%h x N;show ((wb _ _).R%XZ x N (h x N).2,(tI _ _).R%XZ x N%h x N,?_);rw [←mP];lk};{rintro ⟨D,R,V⟩ x N;show Ws (e x) ((tI _ _).mpr R x N,(wb _ _).mpr D x N,(mP (hY ρ) _).mpr V x N)}
def rD(g:bh):Ir:=g9 g/\_Bj<=_Dg/\(g.b0.o Gu).am/\(∀p∈g.prods,hY g p)/\∀s∈g.syms,kL g MI
theorem aaU(g:bh)(h:Nat):(rawFlaws g h).bj=ag↔rD g:=by unfold rawFlaws rD;rw [Ab];simp only [vd,Gp];rw [pJ,aiu];constructor;{rintro ⟨⟨D,R⟩,V⟩;let (i,C,a):=(aaT D).R V;show (D,i,C,a,λs P=>(aaJ g ?_ MI).R%R s P);intro p d;let (A,u):=OM%(a p d).2.2.1 p.bo cA;show (A,iR u)};{rintro ⟨D,i,C,a,W⟩;show ((D,λs P=>Ws (aaJ g ?_ MI)%W s P),Ws (aaT D) (i,C,a));intro p d;let (A,u):=OM%(a p d).2.2.1 p.bo cA;show (A,iR u)}
end TW
namespace TW
open Vaatta Vaattb Vaattd Vaattf
def Bm(g:bh):Ir:=g9 g/\∀p∈g.prods,hY g p
def wc(g:bh)(n:aL):eZ (QM g) n=(eZ g n).o vh:=by unfold eZ strip;rw [List.find?_map];rfl
def wd(l:Ib mr):(JZ mx).o gb=JZ gb:=_Eu
def aaV(s:eo):KS%vh s=KS s:=by unfold Sym.names vh;rw [wd,wd]
def aiv(g:bh)(n:aL):gM (QM g) n=gM g n:=by unfold gM;rw [wc,sV];congr 2;funext s;show aaV s
def aiw(g:bh)(n:aL):ht (QM g) n=ht g n:=by unfold ht;rw [wc,sV];congr 2;funext s;show wd s.ups
def aix(g:bh)(n:aL):gN (QM g) n=gN g n:=by unfold gN;rw [wc,sV];congr 2;funext s;show wd s.db
def aiy(g:bh)(p:dj):e4 (QM g)%nE p=e4 g p:=by unfold e4;rw [aiw];change (ht g Mp).o _++(_Ae mx).zipIdx.flatMap _=_;rw [List.zipIdx_map,List.flatMap_map];congr 2;funext x;rw [aix];rfl
def aiz(p:dj):lF%nE p=lF p:=by unfold lF nE;rw [Gv];rfl
def aiA(p:dj)(k:Nat):L5 (nE p) k=L5 p k:=by unfold nameAt vf nE;split;{rfl};{rw [bL,sV];rfl}
theorem aiB(h:rD ρ):Bm%QM ρ:=by let ((a1,a2,a3,a4),u,w,f,_):=h;show Wt (?_,?_,?_,?_);{unfold strip;simpa using a1};{unfold strip;simpa using a2};{unfold strip;change ((ρ.b8.o vh).o o6).am;rw [dX];show a3};{intro s P;let (M,F,rfl):=Kl (show s∈ρ.b8.o vh from P);rw [aaV];show a4 M F};{intro p d;let (p,q,rfl):=Kl (show p∈_Bi nE from d);let (B,k,Q,a,c):=f p q;show (by unfold nE;simpa using B,by unfold nE;simpa using k,?_,?_,?_);{intro n G;(have:∃m∈p.bo::p.aa,m.Z=M1:=by rcases b0.R G with e|G;{show (p.bo,cA,_Dh)};{let (m,i,rfl):=Kl (show n∈_Ae mx from G);show (m,cL _ i,y)});let (m,i,e):=this;rw [←e,wc,qO];show Q m i};{rw [aiz,aiy];show a};{intro r L;let (r,j,rfl):=Kl (show r∈p.b3.o (λr=>{r with pos:=0}) from L);let (v,b):=c r j;show (v,Wb o S);let (l,Z):=b o S;show Wt (by unfold nE;simpa using l);rw [aiv,aiA];show Z}}
structure aaW(g:bh)(O:Ib bQ):Ir where
 prod:∀i∈O,∃p,N1[i.gh]?=J p
 kids:∀(n:Nat) (i:bQ),Xm O=J i->∀(M j:Nat),Wm MG=J j->∃k,O[j]?=J k/\S1=J n/\k.d8=M+1/\n<j
 par:∀(j:Nat) (k:bQ),O[j]?=J k->∀n,S1=J n->∃i M,Xm O=J i/\Wm MG=J j/\k.d8=M+1
 root:∀(j:Nat) (k:bQ),O[j]?=J k->(S1=I↔j=0)
 ok:∀i∈O,P7 g O i
theorem aaX(all:Ib bQ):ZU (Ib Ry) (Ni IH (fl N W n f) n) (∀(M j:Nat),Wm%j4 n f=J j->∃k,X8 j=J k/\S1=J N/\k.d8=W+M/\n<=j)| [],N,W,n,s,M,j,h=>by rw [j4] at h;simp at h|t::r,N,W,n,s,0,j,h=>(by rw [j4] at h;simp at h;subst h;rw [fl] at s;let w:=s.bo 0 (by rw [jB];show aau _);rw [ve] at w;cases t with|node a x f=>rw [ew] at w;cbv)|t::r,N,W,n,s,M+1,j,h=>by rw [j4] at h;rw [fl] at s;let p:=s.hq;rw [jB] at p;let (k,D,R,V,T):=aaX IH r N (W+1) (n+N2) p M j OL;lk
mutual
theorem aaY(all:Ib bQ):∀(t:Tree) (N:Im Iu) (W n:Nat),Ni IH (ew N W n t) n->_af (n<=m) (m<n+N2->X8 m=J i->(∀(M j:Nat),Wm MG=J j->∃k,X8 j=J k/\S1=J m/\k.d8=M+1/\m<j))| .node c x f,N,W,n,s,m,i,D,R,l=>by rw [ew] at s;let p:Ni IH (fl n 1 (n+1) f) (n+1):=_bm [_] s;rw [va] at R;by_cases e:m=n;{subst e;let w:=s 0 Ii;rw [ve,l] at w;let w:=eD w;subst w;intro M j b;let (k,z,O,a,d):=aaX IH f m 1 (m+1) p M j b;lk};{show aaZ IH f n 1 (n+1) p m i Ih Ih l}
theorem aaZ(all:Ib bQ):ZU (Ib Ry) (Ni IH (fl N W n f) n)%_af (n<=m) (m<n+j3 f->X8 m=J i->(∀(M j:Nat),Wm MG=J j->∃k,X8 j=J k/\S1=J m/\k.d8=M+1/\m<j))| [],N,W,n,s,m,i,D,R,l=>_Ev|t::r,N,W,n,s,m,i,D,R,l=>by rw [fl] at s;let p:=s.hq;rw [jB] at p;rw [j3] at R;by_cases e:m<n+N2;{show aaY IH t _ _ _ s.bo m i D e l};{show aaZ IH r _ _ _ p m i Ih Ih l}
end
mutual
theorem Bn(all:Ib bQ):∀(t:Tree) (N:Im Iu) (W n:Nat),Ni IH (ew N W n t) n->_af (n<=m) (m<n+N2->X8 m=J i->(m=n/\RD=N/\i.d8=W)∨∃Z b M,RD=J Z/\Z<m/\X8 Z=J b/\Wm b.aa=J m/\i.d8=M+1)| .node c x f,N,W,n,s,m,i,D,R,l=>by rw [ew] at s;let p:Ni IH (fl n 1 (n+1) f) (n+1):=_bm [_] s;rw [va] at R;let w:=s 0 Ii;rw [ve] at w;by_cases e:m=n;{lk};{right;rcases aa0 all f n 1 (n+1) p m i (by lia) (by lia) l with ⟨M,z,O,a⟩|q;{show (n,_,M,O,Ih,w,z,Ih)};{show q}}
theorem aa0(all:Ib bQ):ZU (Ib Ry) (Ni IH (fl N W n f) n)%_af (n<=m) (m<n+j3 f->X8 m=J i->(∃M,Wm%j4 n f=J m/\RD=J N/\i.d8=W+M)∨∃Z b M,RD=J Z/\Z<m/\X8 Z=J b/\Wm b.aa=J m/\i.d8=M+1)| [],N,W,n,s,m,i,D,R,l=>_Ev|t::r,N,W,n,s,m,i,D,R,l=>by rw [fl] at s;let p:=s.hq;rw [jB] at p;rw [j3] at R;by_cases e:m<n+N2;{rcases Bn all t _ _ _ s.bo m i D e l with ⟨z,O,a⟩|q;{show Ik (0,by rw [j4];simp [z],O,Ih)};{show Iy q}};{rcases aa0 all r _ _ _ p m i (by lia) (by lia) l with ⟨M,z,O,a⟩|q;{show Ik (M+1,by rw [j4];simpa using z,O,Ih)};{show Iy q}}
end
mutual
theorem aa1(g:bh):∀(t:hj) (N:Im Iu) (W n:Nat),gK g t=ag->∀i∈ew N W n (hP g t),∃p,N1[i.gh]?=J p| .node k T B z,N,W,n,h=>by rw [gK,cI] at h;rw [hP,ew,Aa];show (?_,aa2 g z _ _ _ Lv);cases d:f? g k with|none=>cbv|some p=>show (p,v? d)
theorem aa2(g:bh):ZU (Ib hj) (ip g f=ag) (∀i∈fl N W n (fH g f),∃p,N1[i.gh]?=J p)| [],N,W,n,_=>by rw [fH,fl];cbv|t::r,N,W,n,h=>by rw [ip,cI] at h;rw [fH,fl,awZ];show (aa1 g t _ _ _ h.1,aa2 g r _ _ _ Lv)
end
theorem aiC{t:Tree}(h:qM ρ zf=J t):aaW ρ%ew I 0 0 t:=by let L:=Bh ρ zf;rw [h] at L;(let c:∀i∈ew I 0 0 t,P7 ρ (ew I 0 0 t) i:=by cases q:tk 0 zf with|none=>cbv|some u=>rw [q] at L;simp only [cO] at L;cases O:rR ρ [] [] u with|none=>cbv|some s=>cbv);(let sg:Ni (ew I 0 0 t) (ew I 0 0 t) 0:=λM _=>by rw [Gm]);(let d:_af ((ew I 0 0 t)[m]?=J i) (m<0+N2):=by intro m i l;have:=(I! l).1;rw [jB] at this;lia);show (?_,?_,?_,?_,c);{rw [aal] at h;let (b,_,h):=JG h;split at h;{rename_i hf;rw [Ab] at hf;let (D,_,_):=(Bg ρ b I).R hf;let h:=eD h;subst h;show aa1 ρ b I 0 0 D};{cases h}};{intro n i l;show aaY _ t I 0 0 sg n i (cj _) (d _ _ l) l};{intro j k c n G;rcases Bn _ t I 0 0 sg j k (cj _) (d _ _ c) c with ⟨z,O,a⟩|⟨Z,f,M,z,O,a,o,p⟩;{cbv};{cbv}};{intro j k c;rcases Bn _ t I 0 0 sg j k (cj _) (d _ _ c) c with ⟨z,O,a⟩|⟨Z,f,M,z,O,a,o,p⟩;{cbv};{lk}}
structure GoodW(W:World):Ir where
 snd:Bm QO
 lV:aaW QO W.ai
 giv:Wl W.given
section
variable {c:World}(C:NB c)
include C
theorem GoodW.node(h:Wf UD=J zJ):∃p,c.cr.b0[zJ.gh]?=J p/\eE c q=J p/\hY Ms p:=by let (p,d):=C.lV.gh zJ%ON (q,h);show (p,d,?_,C.snd.2 p%ON (_,d));unfold eE;rw [h];show d
theorem GoodW.attrs{n:Nat}{p:dj}(h:eE c n=J p)(b:hY Ms p):∃s,eZ Ms Mp=J s/\gh c n=Mr s/\(KS s).am:=by let (s,P):=OM%b.2.2.1 p.bo cA;let G:=(C.snd.1.2.2.2 s (iR P).1).2;show (s,P,?_,G);unfold gh;rw [h];change ((eZ Ms Mp).o Sym.hr).az []=_;rw [P];show wa G
theorem GoodW.names(h:eE c q=J Δ)(b:hY Ms Δ):(gh c q).o sS=gM Ms Δ.bo.Z:=by let (s,D,R,_):=C.hr h b;rw [R,i?];unfold gM;rw [D];rfl
theorem GoodW.pO(h:Wf UD=J zJ)(d:eE c q=J Δ){j:Nat}(X:j<LA): ∃a k i,zJ.aa[j]?=J a/\XF a=J k/\S1=J q/\k.d8=j+1/\q<a/\eE c a=J i/\hY Ms i/\_Bk=(RB[j]).Z:=by (let l:c.cr.b0[zJ.gh]?=J Δ:=_Ew);let g:=C.lV.ok zJ%ON (q,h);unfold okNode ry at g;rw [l] at g;let g:zJ.aa.o (λa=>jC Ms%((XF a).o mq).az 0)=Δ.aa.o gb:=g;(let f:zJ.aa.a=LA:=_ck dR j6 g);obtain ⟨a,m⟩:∃a,zJ.aa[j]?=J a:=(_,d1 Ih);let (k,D,R,V,T):=C.lV.aa q zJ h j a m;let (i,o,r,b):=_Aj D;show (a,k,i,m,D,R,V,T,r,b,?_);let e:=dR (λs=>s[j]?) g;simp only [bL,m,d1 X,Gh,D,afW,mn] at e;rw [←e];unfold jC;rw [o];rfl
theorem GoodW.aiD(h:Wf UD=J zJ)(d:eE c q=J Δ):zJ.aa.a=LA:=by (let l:c.cr.b0[zJ.gh]?=J Δ:=_Ew);let g:=C.lV.ok zJ%ON (q,h);unfold okNode ry at g;rw [l] at g;have:=dR j6 g;simpa using this
def hZ(c:World)(n k:Nat):Nat:=Wz k 0 n%((XF n).ag λi=>MG[Wy k]?).az 0
theorem aiE(h:zf∈(gh c q).o sS):∃b,(gh c q)[my c q zf]?=J (zf,b,):=by unfold my;let (x,N,e):=Kl h;cases a:((gh c q).cd λx=>x.1==zf) with|none=>lk|some A=>let (i,D,R):=Bf _ _ _ a;lk
theorem GoodW.meant(h:Wf UD=J zJ)(d:eE c q=J Δ){r:i6}(L:r∈Δ.b3)(S:zP∈S2): ∃m i b,gi c q zP=(m,my c m Rw,)/\m=hZ c q QG/\eE c m=J i/\m<c.ai.a/\(gh c m)[my c m Rw]?=J (Rw,b,)/\Rw∈gM Ms _Bk/\QG<=LA:=by let (w,x,A,a):=_Aj h;rw [d] at A;cases A;let (g,G):=(a.2.2.2.2 r L).2 zP S;(let f:∀m i,m=hZ c q QG->eE c m=J i->hY Ms i->m<c.ai.a->Rw∈gM Ms _Bk->∃m i b,gi c q zP=(m,my c m Rw,)/\m=hZ c q QG/\eE c m=J i/\m<c.ai.a/\(gh c m)[my c m Rw]?=J (Rw,b,)/\Rw∈gM Ms _Bk/\QG<=LA:=by intro m i s Z l H M;rw [←C.S Z l] at M;let (b,W):=aiE C M;show (m,i,b,?_,s,Z,H,W,by rw [←C.S Z l];show M,g);unfold gi;rw [s];rfl);by_cases F:QG=0;{show f q Δ (by unfold hZ;rw [aA F]) d a (I! h).1 ?_;rw [F] at G;show G};{(let X:Wy QG<LA:=Ih);let (j,k,i,Q,v,z,B,E,t,T,u):=C.pO h d X;show f j i ?_ t T (I! v).1 ?_;{unfold hZ;cbv};{rw [u];(let e:L5 Δ QG=(RB[Wy QG]).Z:=_Bh);cbv}}
theorem GoodW.aiF(h:XF Z=J zJ)(d:eE c Z=J Δ)(g:q<=LA)(V:zm<=LA)(e:hZ c Z q=hZ c Z zm):q=zm:=by (let a:∀q,q<=LA->(q=0/\hZ c Z q=Z)∨(0<q/\Z<hZ c Z q/\∃x,XF%hZ c Z q=J x/\x.d8=q):=by intro q g;by_cases F:q=0;{left;show (F,by unfold hZ;rw [aA F])};{right;let (j,x,b,Q,v,m,B,E,_):=C.pO h d (j:=Wy q) Ih;(let e:hZ c Z q=j:=by unfold hZ;cbv);lk});lk
theorem GoodW.aa3(h:Wf UD=J zJ)(d:eE c q=J Δ){r:i6}(L:r∈Δ.b3){O:Jo}(S:zP∈S2)(t:O∈S2) (e:gi c q zP=gi c q O):zP=O:=by let (m,i,b,a1,a2,a3,a4,a5,a6,a):=C.meant h d L S;let (s,w,G,B,k,Q,u,f,v,j):=C.meant h d L t;rw [a1,B] at e;simp only [j5] at e;let (l,Z):=e;subst l;let g:=C.aiF h d a j%a2.J.q k;lk
end
theorem Bo:∀(l:Ib Jo) (x:Jo),x∈once l↔x∈l| [],x=>by rw [once]|a::l,x=>by rw [once,b0,jo,Bo l x,b0];lk
theorem aa4(E:Jo->bT):YB Jo ((Y9 (∀A∈l,E x=E A->x=A))->sW%JZ E=(once l).o E)| [],_=>by rw [once];rfl|a::l,h=>by rw [dJ,sW,once,dJ,aa4 E l λx N A u=>h x (cL _ N) A%cL _ u];congr 1;rw [List.filter_map];congr 1;show List.filter_congr ?_;intro x N;let N:x∈l:=(Bo l x).R N;lk
end TW
namespace TW
open Vaatta Vaattb Vaattd Vaattf Vaatts
def cnt(W:World)(n:Nat):Nat:=(gh W n).a
def base(W:World):Iu->Iu|0=>0|n+1=>Jp W n+cnt W n
def kM(W:World)(N:Nat):Ib bT:=(ey N).en λn=>(ey (gh W n).a).o%Xa k n k
theorem we(W:World)(N:Nat):kM W (N+1)=kM W N++(ey%cnt W N).o%Xa k N k:=by unfold kM;rw [qR,Ag];simp [cnt]
theorem rE(W:World):∀N,(kM W N).a=Jp W N|0=>y|N+1=>by rw [we,cG,rE W N,base];simp
theorem aiG(W:World):bB W=kM W P_:=y
theorem aiH(W:World):(bB W).a=Jp W P_:=rE W _
theorem aa5(W:World):∀{N n k:Nat},n<N->k<cnt W n->(kM W N)[Jp W n+k]?=J (n,k,)|0,n,k,h,_=>Ih|N+1,n,k,h,g=>by rw [we];by_cases e:n=N;{subst e;rw [nD (by rw [rE];lia),rE,Gw,bL,vi g];rfl};{let c:=aa5 W (N:=N) (n:=n) (k:=k) Ih g;lk}
def ix(W:World)(i:bT):Nat:=Jp W i.1+i.2
theorem pP:Θ∈bB z4↔(LL<z4.ai.a/\Θ.2<cnt z4 LL):=by unfold bB cnt;lk
theorem lW(h:Θ∈bB z4):(bB z4)[ix z4 Θ]?=J Θ:=ZC (D,R) pP.R h%aa5 z4 D R
theorem Bp(h:Θ∈bB z4):ix z4 Θ<(bB z4).a:=(I!%lW h).1
theorem wg(l:Θ∈bB z4)(X:zZ∈bB z4)(e:ix z4 Θ=ix z4 zZ):Θ=zZ:=by let D:=lW l;rw [e,lW X] at D;cbv
theorem aa6(W:World):∀(N q:Nat) (i:bT),Wf%kM W N=J i->q=ix W i/\i.1<N/\i.2<cnt W i.1|0,q,i,h=>by simp [kM] at h|N+1,q,i,h=>by rw [we] at h;by_cases e:q<(kM W N).a;{rw [vc e] at h;let (a,b,j):=aa6 W N q i h;lia};{rw [nD Ih,bL,en] at h;let (k,g,rfl):=h;let c:=(I! g);let (t,c):=c;rw [List.getElem_range] at c;rw [o7] at t;rw [rE] at e c t;show (?_,qS _,?_);{change q=Jp W N+k;lia};{cbv}}
theorem jb(h:Wf%bB z4=J Θ):q=ix z4 Θ/\Θ∈bB z4:=((aa6 z4 _ q Θ h).1,ON (q,h))
section
variable {c:World}(C:NB c)
include C
theorem GoodW.inst(h:Θ∈bB c):∃x p a f,XF LL=J x/\eE c LL=J p/\hY Ms p/\(gh c LL)[Θ.2]?=J (a,f,):=by let (D,R):=pP.R h;obtain ⟨x,N⟩:∃x,XF LL=J x:=(_,d1 D);let (p,_,d,b):=_Aj N;show (x,p,_,_,N,d,b,d1 R)
theorem GoodW.aa7(b:hY Ms Δ)(h:(q,zf,)∈e4 Ms Δ):∃r∈Δ.rules,qU Δ q zf=J r/\r.hj=J (q,zf,):=by have:=b.2.2.2.1.mem_iff.mpr h;let (r,L,v):=lD.R this;unfold qU;cases a:(Δ.b3.cd λr=>r.hj==J (q,zf,)) with|none=>cbv|some s=>lk
theorem GoodW.aiI(d:eE c q=J Δ)(b:hY Ms Δ)(h:(gh c q)[Z]?=J (zf,ay,)):(0,zf,)∈e4 Ms Δ:=by let (s,D,R,V):=C.hr d b;rw [R] at h;let i:=ON (Z,h);unfold e4;show sX _%S0 (zf,?_,y);unfold ht;rw [D];unfold Sym.both at i;cbv
theorem GoodW.aiJ{m:Nat}{p:dj}(d:eE c Z=J p)(b:hY Ms p)(X:q<LA)(e:Mp=(RB[q]).Z)(h:(gh c Z)[zm]?=J (zf,ag,)):(q+1,zf,)∈e4 Ms Δ:=by let (s,D,R,V):=C.hr d b;rw [R] at h;let i:=ON (zm,h);unfold e4;show lG _%mv.mpr ((RB[q],q,),Rz%d1 X,S0 (zf,?_,y));unfold gN;rw [←e,D];unfold Sym.both at i;cbv
theorem GoodW.equation(h:Θ∈bB c)(N:XF LL=J zJ)(e:(gh c LL)[Θ.2]?=J (zf,zc,)): (ig c Θ=I/\zc=ag/\zJ.ci=I)∨ (∃p r,zc=ay/\eE c LL=J p/\Z4 r/\qU p 0 zf=J r/\ig c Θ=J (LL,P9,))∨ (∃m A q r,zc=ag/\zJ.ci=J m/\XF m=J A/\eE c m=J q/\r∈q.b3/\qU q zJ.d8 zf=J r/\ig c Θ=J (m,P9,)/\m<LL):=by let (p,_,d,b):=_Aj N;unfold ig;rw [e,N];cases zc with|false=>right;left;let (r,L,D,_):=C.aa7 b%C.aiI d b e;show (p,r,y,d,L,D,?_);change vj c LL 0 zf=_;unfold vj;cbv|true=>cases g:zJ.parent with|none=>cbv|some m=>right;right;let (A,M,u,X,S):=C.lV.par LL zJ N m g;let (q,_,n,o):=_Aj u;let z:=C.aiD u n;(let l:M<q.aa.a:=IZ);let (j,k,w,Q,v,F,B,E,t,T,s):=C.pO u n l;rw [X] at Q;cases Q;rw [d] at t;cases t;let (r,L,D,_):=C.aa7 o%C.aiJ (m:=m) d b l s e;rw [←S] at D;show (m,A,q,r,y,y,u,n,L,D,?_,E);change (zJ.ci.ag λm=>vj c m zJ.d8 zf)=_;rw [g];change vj c m zJ.d8 zf=_;unfold vj;cbv
theorem GoodW.named(t:zZ∈bB c)(X:Θ∈j8 c zZ):∃n e x p r o,ig c zZ=J (n,e,)/\XF n=J x/\eE c n=J p/\Z4 r/\e=P9/\o∈Oo/\Θ=gi c n o/\Θ∈bB c/\(LL=n∨∃A,XF LL=J A/\A.ci=J n):=by let (x,p,a,f,N,d,b,h):=C.U t;(let g:∀(n:Nat) (x:bQ) (p:dj) (r:i6),ig c zZ=J (n,P9,)->XF n=J x->eE c n=J p->Z4 r->∃n e x p r o,ig c zZ=J (n,e,)/\XF n=J x/\eE c n=J p/\Z4 r/\e=P9/\o∈Oo/\Θ=gi c n o/\Θ∈bB c/\(LL=n∨∃A,XF LL=J A/\A.ci=J n):=by intro n x p r D N d L;unfold j8 at X;rw [D] at X;let X:Θ∈sW%r.dk.ce.o%gi c n:=X;rw [aa4 _ _ λo S u i=>C.aa3 N d L S i] at X;let (o,S,rfl):=Kl X;let S:=(Bo _ _).R S;let (m,q,z,a1,a2,a3,a4,a5,a6,G):=C.meant N d L S;show (n,P9,x,p,r,o,D,N,d,L,y,S,y,?_,?_);{rw [a1,pP];show (a4,(I! a5).1)};{rw [a1];change m=n∨∃A,XF m=J A/\A.ci=J n;by_cases F:JW=0;{left;rw [a2];unfold hZ;rw [aA F]};{right;let (j,k,w,Q,v,l,B,E,_):=C.pO N d (j:=Wy JW) Ih;(let e:m=j:=by rw [a2];unfold hZ;cbv);cbv}});rcases C.hk t N h with ⟨s,_,_⟩|⟨H,r,_,R,V,_,T⟩|⟨m,A,q,r,_,_,R,V,T,_,W,_⟩;{unfold j8 at X;cbv};{show g _ _ _ _ T N R V};{show g _ _ _ _ W R V T}
end
theorem aiK(P:bR)(d:_a6 (_Eo=J i) (RD=J m->m<n)):∀(E g n:Nat),n+1<=E->n+1<=g->Ah P E n=Ah P g n:=by intro E;induction E with|zero=>intros;lia|succ E c=>intro g n hf b;obtain ⟨g,rfl⟩:∃k,g=k+1:=Xs%Wy g;rw [Ah,Ah];lk
theorem wh(P:bR)(d:_a6 (_Eo=J i) (RD=J m->m<n))(n:Nat):gE P n=match P.cs.fd (λj=>j==n) with|J k=>k+1|I=>match (_Eo).ag Gx with|J m=>gE P m|I=>0:=by unfold gE;rw [Ah];cases P.cs.fd (λj=>j==n) with|some k=>rfl|none=>cases e:(P.x.ai[n]?).ag Gx with|none=>rfl|some m=>let (i,l,a):=JG e;have:=d n i m l a;show aiK P d n (m+1) m Ih Ih
theorem GoodW.rF(G:NB z4):_a6 (Xm z4.ai=J i) (RD=J m->m<n):=by intro n i m l a;let (A,M,u,X,_):=G.lV.par n i l m a;let (_,_,_,_,h):=G.lV.aa m A u M n X;show h
structure eU(P:bR):Ir where
 w:NB LB
 cut:∀j∈P.cuts,0<j/\j<_Bl
 nd:P.cs.am
 e?:P.cs.a<=7
theorem eU.root{P:bR}(G:eU P):gE P 0=0:=by rw [wh P UE];(have:(P.cs.fd λj=>j==0)=I:=by rw [af6];intro j m;have:=(G.cut j m).1;simp;lia);rw [this];dsimp only;cases e:P.x.ai[0]? with|none=>rfl|some i=>have:=(Ws (G.w.lV.root 0 i e) y);cbv
theorem eU.aiL(G:eU ι):∀n,gE ι n<b3 ι:=by intro n;induction n using Nat.strongRecOn with|_ n c=>rw [wh ι UE];unfold b3;cases e:ι.cs.fd (λj=>j==n) with|some k=>have:=(aw5.R e).1;cbv|none=>cases Z:(ι.x.ai[n]?).ag Gx with|none=>dsimp only;lia|some m=>let (i,l,a):=JG Z;show c m%UE n i m l a
theorem eU.n4(G:eU ι)(i:bT):b' ι i<b3 ι:=by unfold b';split;{show G.aiL _};{unfold b3;lia}
theorem eU.one(G:eU ι){v:bT}(t:zZ∈bB J5)(L:v∈bB J5)(S:Θ∈j8 J5 zZ)(α:Θ∈j8 J5 v) (i:b' ι zZ≠b' ι Θ) (d:b' ι v≠b' ι Θ):b' ι zZ=b' ι v:=by let (n,β,x,p,r,o,a1,a2,a3,a4,a5,a6,γ,X,g):=G.w.named t S;let (Z,l,δ,Q,ε,ζ,u,η,f,θ,h,κ,μ,_,j):=G.w.named L α;(let e:b' ι zZ=gE ι n:=by unfold b';rw [a1]);(let k:b' ι v=gE ι Z:=by unfold b';rw [u]);rw [e,k];rw [e] at i;rw [k] at d;let (z,q,a,ν,E,ξ,b,N):=G.w.U X;(let c:∀m,(LL=m∨∃A,ι.x.ai[LL]?=J A/\A.ci=J m)->m=LL∨z.ci=J m:=IZ);rcases G.w.hk X E N with ⟨D,_,V⟩|⟨w,s,_,R,V,_,T⟩|⟨m,A,w,s,_,B,R,V,T,_,W,_⟩;{cbv};{(let H:b' ι Θ=gE ι LL:=by unfold b';rw [T]);lk};{(let H:b' ι Θ=gE ι m:=by unfold b';rw [W]);lk}
end TW
namespace TW
open Vaatta
def fZ(v:bW):Ir:=v.inRange=ag/\v.bb<=PARTS/\v.e3<=DEEP
def ez:WI dk| .val v=>fZ v| .bad j=>1<=j/\j<=5
theorem Bq:fZ%N0 γ↔(-TOP<=γ/\γ<=TOP):=by unfold fZ;rw [Ai,eR,fJ];unfold PARTS DEEP;cbv
theorem aa8:∀{l:Ib bW} {x:bW},x∈l->Ld<=ej l| [],x,h=>On|a::l,x,h=>by rw [ej];rcases b0.R h with rfl|h;{lia};{have:=aa8 h;lia}
theorem aa9:∀{l:Ib bW} {x:bW},x∈l->x.e3<=gj l| [],x,h=>On|a::l,x,h=>by rw [gj];rcases b0.R h with rfl|h;{lk};{show d8 (aa9 h)%af7 _ _}
theorem tJ:∀{l:Ib bW},allInRange l=ag↔∀x∈l,x.inRange=ag| []=>by rw [allInRange];simp|a::l=>by rw [allInRange,cI,tJ (l:=l),Aa]
theorem pQ(h:fZ%Js zE)(N:zS∈zE):fZ zS:=by let (D,R,V):=h;rw [Ai] at D;rw [eR] at R;rw [fJ] at V;let a1:=aa8 N;let a2:=aa9 N;show (tJ.R D zS N,Ih,Ih)
theorem aiM(v:bW):1<=v.bb:=by cases v with|num n=>rw [eR];lia|list l=>rw [eR];lia
theorem aa_:Zd (LP<=ej l)| []=>Ii|a::l=>_cu (aa_ l) aiM a
theorem wi(h:fZ%Js zE):zE.a<=399:=by have:=(Lv).1;rw [eR] at this;have:=aa_ zE;unfold PARTS at*;lia
theorem aa':∀(l m:Ib bW),ej (l++m)=ej l+ej m| [],m=>_Ex|a::l,m=>by rw [o1,ej,ej,aa' l m];lia
theorem aba:∀(l m:Ib bW),gj (l++m)=j9 (gj l)%gj m| [],m=>by rw [gj,y'];cbv|a::l,m=>by rw [o1,gj,gj,aba l m];cbv
theorem abb(h:fZ%Js zE)(n:Nat):fZ%Js%zE.Q n:=by let (D,R,V):=h;rw [Ai] at D;rw [eR] at R;rw [fJ] at V;let e:=aa' (zE.Y n)%zE.Q n;let Z:=aba (zE.Y n)%zE.Q n;rw [aw6] at e Z;(let a:gj%zE.Q n<=gj zE:=IZ);show (?_,?_,?_);{rw [Ai];show tJ.mpr (λx N=>tJ.R D x%af8 N)};{rw [eR];lia};{rw [fJ];lia}
theorem pR(n:Int):ez%mz n:=by unfold mz;split;{rename_i h;show Bq.mpr h};{show (Il,Il)}
theorem wj(b:Bool):ez%ih b:=by unfold ih;show Bq.mpr ?_;unfold TOP;cases b<;>decide
theorem abc(h:∀x∈zE,fZ x):ez%sY zE:=by unfold sY;split;{rename_i q;show (?_,q.1,q.2);rw [Ai];show tJ.mpr%XZ x N%h x N};{show (Il,Il)}
theorem rG{k f:bW}(hd:fZ f):∀{l:Ib bW},(Y9%fZ x)->fZ%lookIn l k f| [],_=>hd| .list [a,b]::r,h=>by rw [lookIn];split;{show pQ (h _ cA) Ii};{show rG hd (λx N=>h x%cL _ N)}| .num n::r,h=>by rw [_Bm _ _ _ _ Ii];show rG hd (λx N=>h x%cL _ N)| .list []::r,h=>by rw [_Bm _ _ _ _ Ii];show rG hd (λx N=>h x%cL _ N)| .list [a]::r,h=>by rw [_Bm _ _ _ _ Ii];show rG hd (λx N=>h x%cL _ N)| .list (a::b::j::t)::r,h=>by rw [_Bm _ _ _ _ Ii];show rG hd λx N=>h x%cL _ N
def n5(h:1<=q/\q<=5):ez%LC q:=h
theorem aiN(d:e6)(C:Ib bW)(h:∀v∈C,fZ v):ez%fp d C:=by unfold fp;(split<;>try show pR _);(all_goals try show wj _);(all_goals try show n5 Il);{split;{show n5 Il};{show pR _}};{split;{show n5 Il};{show pR _}};{show abc h};{rename_i l i;split;{show n5 Il};{split;{rename_i v A;show pQ (h (Js l) Ii)%ON (_,A)};{show n5 Il}}};{rename_i l m;show abc%Wb x N;rcases d7.R N with N|N;{show pQ (h (Js l) Ii) N};{show pQ (h (Js m) Ii) N}};{rename_i l k f;show rG (h f Ii) (λx N=>pQ (h (Js l) Ii) N)};{rename_i l n;split;{show n5 Il};{show abb (h (Js l) Ii) _}}
theorem wo(h:ez z2):ez%hQ z2:=by cases z2 with|bad j=>show h|val v=>cases v with|num n=>show wj _|list l=>show n5 Il
theorem abd:∀{os:Ib dk} {j:Nat},o8 os=J j->Out.bad j∈os| .bad k::r,j,h=>by rw [o8] at h;cbv| .val v::r,j,h=>cL _%abd (by rw [o8] at h;show h)
theorem Br:∀{os:Ib dk} {v:bW},v∈vk os->Aj v∈os| .bad k::r,v,h=>cL _%Br (by rw [vk] at h;show h)| .val w::r,v,h=>by rw [vk] at h;rcases b0.R h with rfl|h;{show cA};{show cL _%Br h}
theorem aiO(d:e6)(os:Ib dk)(h:∀o∈os,ez o):ez%qV d os:=by unfold qV;split;{rename_i j t E;let m:=h j Ii;cases j with|bad k=>show m|val v=>cases v with|num n=>change ez (match J (n !=0) with|J ag=>t|J ay=>E|I=> LC 1);lk|list l=>show n5 Il};{rename_i a b;let N:=wo%h a Ii;let W:=wo%h b Ii;split;{show wj _};{show W};{cbv}};{rename_i a b;let N:=wo%h a Ii;let W:=wo%h b Ii;split;{show W};{show wj _};{cbv}};{split;{rename_i k q;show h _%abd q};{show aiN _ _ (λv A=>h _%Br A)}}
end TW
namespace TW
open Vaatta Vaattb Vaattd Vaattf Vaatts
theorem aiP{s:Ix->Im%XQ Iu}:∀{E:Nat} {l:Ib Ix} {O:Ib%Ib%Ib Ix},qW s E l=J O->(Wl l/\Wl O)∨∃p r j t k a,l=p::r/\O=j::k/\o9 s (p::r)=J (j,t,)/\qW s a t=J k|E, [],O,h=>by unfold qW at h;cbv|0,p::r,O,h=>by unfold qW at h;cases h|E+1,p::r,O,h=>by right;unfold qW at h;lk
theorem aiQ{s:Ix->Im%XQ Iu}{j:Ib%Ib Ix}{t:Ib Ix}(P:s γ=J (0,1,))(h:o9 s (γ::zk)=J (j,t,)): ∃n o,zk=n::o/\0<=n/\Ln<=o.a/\j= [[γ],o.Y Ln]/\t=o.Q Ln:=by unfold o9 at h;dsimp only at h;rw [P] at h;dsimp only at h;rw [au%Gy _] at h;cases zk with|nil=>simp [af9,PyFlat.row] at h|cons n o=>simp only [af9,PyFlat.row,af_,iI] at h;lk
theorem jD{s:Ix->Im%XQ Iu}{j:Ib%Ib Ix}{t:Ib Ix}(P:s γ=J (q,0,))(h:o9 s (γ::zk)=J (j,t,)): q<=Pg/\j= [γ::zk.Y q]/\t=zk.Q q:=by unfold o9 at h;dsimp only at h;rw [P] at h;dsimp only at h;by_cases a:Pg<q;{cbv};{rw [au a] at h;simp only [af9,mn,j5] at h;cbv}
theorem Bs(i:bT)(o:dk)(m:Known)(M:bT):cJ ((i,o,)::m) M=Wz i M (J o)%cJ m M:=by unfold cJ;lk
theorem aiR(N:bF)(w v:Nat)(m:Known)(S:w<N3):b7 (Zn RE w m) v=Wz v w m%b7 N v:=by unfold b7;lk
def aiS(N:bF)(l:Ib iJ)(v:Nat):b7 (e7 N l) v=b7 N v:=y
theorem Bt(N:bF)(w:Nat)(i:bT)(o:dk)(S:w<N3)(v:Nat)(M:bT): cJ (b7 (hR N w i o) v) M=Xr (v=w/\i=M/\(cJ (b7 N w) i).gl=ag) o%cJ (b7 N v) M:=by unfold hR;cases q:cJ (b7 N w) i with|some x=>cbv|none=>rw [au Ii,aiR N w v _ S];by_cases e:v=w;{subst e;rw [aA y,Bs];cbv};{cbv}
theorem Bu(N:bF)(w:Nat)(i:bT)(o:dk):(hR N w i o).eo=N3:=_Ey
theorem rH(N:bF)(w:Nat)(i:bT)(o:dk):(hR N w i o).ab=L6/\(hR N w i o).de=NC:=_Ey
theorem wq(P:bR)(N:bF)(r:fL)(S:LQ<N3)(L:dm N r=ag)(v:Nat)(M:bT): cJ (b7 (hS P N r) v) M=Xr (v=LQ/\ND=M) (sZ LB (b7 N LQ) ND)%cJ (b7 N v) M:=by unfold hS;dsimp only;rw [aiS,Bt _ _ _ _ S];(let G:(cJ (b7 N LQ) ND).gl=ag:=by unfold dm at L;cbv);cbv
theorem mQ(N:bF)(r:fL):dm N r=ag↔(cJ (b7 N LQ) ND=I/\∀M∈r.names,(cJ (b7 N LQ) M).as=ag):=by unfold dm;cbv
theorem aiT(P:bR)(N:bF)(r q:fL)(S:LQ<N3)(L:dm N r=ag)(n:q.aw=LQ)(R:q.U≠ND): dm (hS P N r) q=ag↔(cJ (b7 N q.aw) q.U=I/\∀M∈q.names,M=ND∨(cJ (b7 N q.aw) M).as=ag):=by rw [mQ];let e:=wq P N r S L q.aw;lk
def aiU(P:bR)(N:bF)(r:fL)(S:LQ<N3)(L:dm N r=ag):dm (hS P N r) r=ay:=by cases q:dm (hS P N r) r with|false=>rfl|true=>have:=((mQ _ _).R q).1;rw [wq P N r S L,aA (y,y)] at this;cases this
def wt(P:bR)(R:Ib fL)(w n:Nat)(N:bF)(h:R.cd (λr=>LQ==w && dm N r)=I):de P R w n N=(N,0,):=by cases n with|zero=>rw [de]|succ n=>rw [de,h]
def wu(P:bR)(R:Ib fL)(w n:Nat)(N:bF)(h:R.cd (λzn=>QP==w && dm N zn)=J zn): de P R w (n+1) N=((de P R w n%hS P N zn).1,(de P R w n%hS P N zn).2+1,):=by rw [de,h]
theorem Bv{f:Jc}(p:QE):∀(l:Ib f) (i:Nat) (x:f),Wg l=J x->p x=ag->(∀M A,M<i->Wm l=J A->p A=ay)->l.cd p=J x| [],i,x,h,_,_=>Mt|a::l,0,x,h,d,_=>Io|a::l,i+1,x,h,d,V=>by let F:=V 0 a Ih y;rw [fG,F];show Bv p l i x OL d λM A X u=>V (M+1) A Ih (by simpa using u)
def wx(P:bR)(q:Nat)(i:bT)(h:Wf%bB LB=J i):∃r,Wf%aN P=J r/\ND=i/\LQ=b' P i/\r.S=j8 LB i/\r.to=(ey%b3 P).bn (λw=>w !=b' P i && s6 (o_ P) w i):=by unfold aN o_;dsimp only;rw [bL,bL,h];show (_,y,y,y,y,y)
theorem mR(P:bR):(aN P).a=(bB LB).a:=by unfold aN o_;simp
theorem Bw(P:bR)(w:Nat)(i:bT):s6 (o_ P) w i=ag↔∃O∈bB LB,b' P O=w/\i∈j8 LB O:=by unfold s6 o_;cbv
theorem abe{p:Uw}:∀(n:Nat) (w:Nat),w<n->p w=ag->(∀v,v<n->p v=ag->v=w)->(ey n).bn p= [w]|0,w,h,_,_=>Ih|n+1,w,h,d,t=>by rw [qR,s7];by_cases e:w=n;{subst e;(have:Wl ((ey w).bn p):=by rw [aw7];lk);cbv};{rw [abe n w Ih d λv A q=>t v Ih q];lk}
theorem abf(h:∀O∈bB J5,Θ∈j8 J5 O->b' ι O=b' ι Θ):Wl%(ey%b3 ι).bn (λw=>w !=b' ι Θ && s6 (o_ ι) w Θ):=by rw [aw7];intro w S q;rw [cI,Bw] at q;lk
theorem abg(G:eU ι)(t:Θ∈bB J5)(a:zZ∈j8 J5 Θ)(hd:b' ι Θ≠b' ι zZ):((ey%b3 ι).bn λw=>w !=b' ι zZ && s6 (o_ ι) w zZ)= [b' ι Θ]:=by show abe _ _ (G.n4 Θ) ?_%Wd v A q;{rw [cI,Bw];lk};{rw [cI,Bw] at q;let (x,N,D,R):=q.2;rw [←D];show G.one N t R a ?_ hd;cbv}
end TW
namespace TW
open Vaatta
def mS:WF e6 Iu| .neg,k=>k=1| .not,k=>k=1| .ite,k=>k=3| .list,_=>True| .len,k=>k=1| .look,k=>k=3|_,k=>k=2
mutual
def fB:WI LM| .num n=>Wc n<=TOP| .own=>True| .occ _ _=>True| .app d L=>mS d I0/\j? L
def j?:WI%Ib LM| []=>True|x::L=>fB x/\j? L
end
theorem tL:∀{L:Ib LM},j? L↔∀x∈L,fB x| []=>by unfold j?;simp|x::L=>by unfold j?;rw [tL];simp
def tM{L:Ib LM}(h:mS z6 I0)(k:j? L):fB%LO z6 L:=by unfold fB;show (h,k)
abbrev GT(u:Ib IN):Ir:=∀t∈u,kJ t
def GT.drop{u:Ib IN}(h:GT u)(n:Nat):GT%LN n:=λt m=>h t%af8 m
def GT.tail{t:Tok}(h:GT (t::ψ)):GT ψ:=λO m=>h O%cL _ m
theorem GT.sign(g:GT ψ)(h:oS q Z ψ= JF zz):GT zz:=by unfold oS at h;lk
theorem GT.word(g:GT ψ)(h:oT q zf ψ= JF zz):GT zz:=by unfold oT at h;lk
theorem op2(h:lz q ψ=J z6):mS z6 2:=by unfold lz at h;rw [en] at h;let (s,D,rfl):=h;let R:=oW D;unfold sM at R;simp only [b0,qG,qH] at R;rcases R with rfl|rfl|rfl|rfl|rfl|rfl|rfl|rfl|rfl<;>rfl
theorem aiV(h:oV zf=J (z6,q,)):mS z6 q:=by unfold oV at h;rw [en] at h;let (s,D,V):=h;let R:=oW D;unfold CALLS at R;simp only [b0,qG,qH] at R;rcases R with rfl|rfl|rfl|rfl|rfl|rfl|rfl|rfl<;>cases V<;>rfl
structure Wfs(e n:Nat):Ir where
 ex:Z7 (GT u) (jV e n f u= JF (x,G,)->fB x/\GT G)
 bi:∀o f u x G,GT u->i5 e n o f u= JF (x,G,)->fB x/\GT G
 mo:∀o f A u x G,GT u->fB A->jW e n o f A u= JF (x,G,)->fB x/\GT G
 si:Z7 (GT u) (jX e n f u= JF (x,G,)->fB x/\GT G)
 at_:Z7 (GT u) (hi e n f u= JF (x,G,)->fB x/\GT G)
 el:∀f j u x G,GT u->jY e n f j u= JF (x,G,)->j? x/\GT G
 se:∀f j u x G,GT u->jZ e n f j u= JF (x,G,)->j? x/\GT G
theorem wfs(e:Nat):∀n,Wfs e n:=by intro n;induction n with|zero=>constructor;{intro f u x G g h;rw [jV] at h;cases h};{intro o f u x G g h;rw [i5] at h;cases h};{intro o f A u x G g _ h;rw [jW] at h;cases h};{intro f u x G g h;rw [jX] at h;cases h};{intro f u x G g h;rw [hi] at h;cases h};{intro f j u x G g h;rw [jY] at h;cases h};{intro f j u x G g h;rw [jZ] at h;cases h}|succ n c=>constructor;{intro f u x G g h;rw [jV] at h;split at h;{split at h;{cases h};{let ((j,B),D,h):=cP h;let (F,R,h):=cP h;let ((t,v),V,h):=cP h;let (w,T,h):=cP h;let ((H,M),W,h):=cP h;cases h;let a1:=NA _ _ _ _ (g.Q 1) D;let a3:=NA _ _ _ _ ((Rx).word R) V;let a5:=NA _ _ _ _ (a3.2.word T) W;show (tM y%tL.mpr%XR z E,a5.2)}};{show QJ _ _ _ _ _ g h}};{intro o f u x G g h;rw [i5] at h;split at h;{show c.si _ _ _ _ g h};{let ((b,B),D,h):=cP h;let a1:=QJ _ _ _ _ _ g D;show c.mo _ _ _ _ _ _ Rx a1.1 h}};{intro o f A u x G g l h;rw [jW] at h;split at h;{lk};{rename_i d S;let ((b,B),D,h):=cP h;let a1:=QJ _ _ _ _ _ (g.Q 1) D;let a2:fB (LO d [A,b]):=tM (op2 S)%tL.mpr%XR z E;dsimp only at h;split at h;{cases h;lk};{show c.mo _ _ _ _ _ _ Rx a2 h}}};{intro f u x G g h;rw [jX] at h;split at h;{split at h;{cases h};{let ((b,B),D,h):=cP h;cases h;let a1:=c.si _ _ _ _ (g.Q 1) D;show (tM _Er%tL.mpr λz E=>Io,Rx)}};{show c.at_ _ _ _ _ g h}};{intro f u x G g h;cases u with|nil=>rw [hi] at h;cases h|cons t r=>rw [hi] at h;split at h;{rename_i q;split at h;{split at h;{cases h};{rename_i b a s hd;split at h;{cases h;have:GT (a::G):=hd▸g.g3.Q 1;show (_Di,this.g3)};{cases h}}};{cases h;show (?_,g.g3);unfold fB;rcases g t cA with ⟨_,_,R,V⟩|⟨D,_⟩|⟨D,_⟩|⟨D,_⟩;{show aac R V};all_goals lia}};{split at h;{split at h;{split at h;{cases h};{rename_i d k m;split at h;{cases h};{let ((i,s),D,h):=cP h;dsimp only at h;split at h;{rename_i q;cases h;let a1:=c.el _ _ _ _ _ (g.g3.Q 1) D;show (tM (q▸aiV m) a1.1,Rx)};{cases h}}}};{cases h;show (_Di,g.g3)}};{split at h;{cases h;show (_Di,g.g3)};{split at h;{split at h;{cases h};{let ((b,s),D,h):=cP h;let (p,R,h):=cP h;cases h;let a1:=NA _ _ _ _ g.g3 D;show (a1.1,(Rx).sign R)}};{split at h;{split at h;{cases h};{let ((i,s),D,h):=cP h;cases h;let a1:=c.el _ _ _ _ _ g.g3 D;show (tM fO a1.1,Rx)}};{cases h}}}}}};{intro f j u x G g h;rw [jY] at h;split at h;{cases h;show (by unfold j?;trivial,g.Q 1)};{show c.se _ _ _ _ _ g h}};{intro f j u x G g h;rw [jZ] at h;let ((b,B),D,h):=cP h;let a1:=NA _ _ _ _ g D;dsimp only at h;split at h;{cases h;show (by unfold j? j?;cbv,(Rx).Q 1)};{let (F,R,h):=cP h;let ((L,C),V,h):=cP h;cases h;let a3:=c.se _ _ _ _ _ ((Rx).sign R) V;show (by unfold j?;cbv,a3.2)}}
def aiW{x:Expr}(g:GT ψ)(h:pX ψ=J (x,zz,)):(fB x/\Ld<=60)/\GT zz:=by unfold pX at h;rw [cB] at h;let ((A,C),D,R):=h;dsimp only at R;split at R;{cases R};{rename_i d;cases R;have:=(wfs 0 _).ex _ _ _ _ g%i' D;show ((this.1,Gi d),this.2)}
def wfR(r:i6):Ir:=fB P9/\r.dk.bb<=60
def n6(g:bh):Ir:=∀p∈g.prods,∀r∈p.rules,wfR r
open Vaattb in theorem GT.eS{b:Nat}{u G:Ib IN}(g:GT u)(h:TW.eS b u=J G):GT G:=by unfold TW.eS at h;lk
theorem GT.one{k:Uv}{t:Tok}(g:GT ψ)(h:ee k ψ=J (t,zz,)):GT zz:=by cases ψ with|nil=>cases h|cons a r=>rw [ee] at h;lk
theorem GT.many{k:Uv}:∀{u:Ib IN},GT u->GT (dI k u).2| [],g=>g|t::r,g=>by rw [dI];split;{show _Bn (u:=r) g.g3};{show g}
theorem GT.target{x:Im Jo}(g:GT ψ)(h:mM ψ=J (x,zz,)):GT zz:=by cases ψ with|nil=>cases h|cons t r=>rw [mM] at h;split at h;{lk};{split at h;{let (P,D,R):=JG h;cases R;show g.g3.eS D};{split at h;{let (P,D,R):=JG h;let ((a,b),V,T):=JG R;let (c,W,O):=JG T;cases O;show ((g.g3.eS D).one V).eS W};{cases h}}}
theorem aiX(h:Nat):∀(n:Nat) (u G:Ib IN) (f:Ib i6),I3<=n->GT u->kK h u=J (f,G,)->(∀r∈f,wfR r)/\GT G:=by intro n;induction n with|zero=>intro u G f a g e;obtain rfl:Wl u:=nz Ih;have:=ah_ e;simp at this|succ n c=>intro u G f a g e;rw [aae] at e;split at e;{lk};{let ((d,u1),p,Z):=JG e;let ((i,b),l,H):=JG Z;cases H;let V:=tH%i' p;rw [aah] at p;let ((A,j),Q,v):=JG p;let ((x,k),m,B):=JG v;let (o,E,t):=JG B;cases t;let w:=aiW (g.hj Q) m;have:=c _ _ _ Ih (w.2.eS E) l;show (Wb r L,this.2);rcases b0.R L with rfl|L;{show w.1};{show this.1 r L}}
theorem aiY(h:Nat):∀(n:Nat) (u:Ib IN) (g:bh),I3<=n->GT u->iQ h u=J g->n6 g:=by intro n;induction n with|zero=>intro u g G N e;obtain rfl:Wl u:=nz Ih;rw [A_] at e;cases e;intro a d;cases d|succ n c=>intro u g G N e;cases u with|nil=>lk|cons q r=>rw [cH] at G;rw [aag] at e;split at e;{let ((s,u1),p,Z):=JG e;let (k,l,H):=JG Z;cases H;let V:=v7%i' p;rw [aai] at p;let (b,Q,v):=JG p;let (i,m,B):=JG v;cases B;show c _ k Ih ((_Bn%(_Bn N.g3).eS Q).eS m) l};{split at e;{let ((s,u1),p,Z):=JG e;let (k,l,H):=JG Z;cases H;let V:=v8%i' p;rw [aaj] at p;let ((x,b),Q,v):=JG p;let (i,m,B):=JG v;let (z,E,t):=JG B;let ((f,j),T,o):=JG t;cases o;let k:=N.g3.one Q;(let O:GT i:=by show GT.eS (b:=58) ?_ m;lk);let w:=aiX h _ _ _ _ (bj _) ((_Bn O).eS E) T;let V:Lz<MZ:=V;have:=c _ _ Ih w.2 l;intro a d;rcases b0.R d with rfl|d;{show w.1};{show this a d}};{cases e}}
def aiZ(h:lU zf=J ρ):n6 ρ:=ZC (u,D,R) JG h%aiY _ _ u ρ (bj _) (A8 _ 0 zf u (bj _) D) R
def ai0(h:n6 ρ):n6%vm ρ:=by intro p d r L;let (q,n,rfl):=Kl d;let (s,P,rfl):=Kl L;show h q n s P
end TW
namespace TW
open Vaatta Vaattb Vaattd Vaattf
def n7(z:Int):Ir:=-TOP<=z/\z<=TOP
def pU(O:Ib bQ):Ir:=∀z∈Lo Gz,n7 z
theorem wy:TOP=999999999999999999:=by unfold TOP;decide
theorem abh{t:Tok}(g:GT ψ)(h:ee fA ψ=J (t,zz,)):YH Jj<=TOP:=by cases ψ with|nil=>cases h|cons a r=>rw [ee] at h;split at h;{rename_i k;(let k:a.bh=1:=by unfold fA at k;simpa using k);let n:=g a cA;cases h;rcases n with ⟨_,_,V,T⟩|⟨D,_⟩|⟨D,_⟩|⟨D,_⟩;{show aac V T};{lia};{lia};{lia}};{cases h}
theorem ai1{x:Im Ix × Ib IN}(g:GT ψ)(h:hX zc ψ=J x):n7%(I6).az 0/\GT IY:=by (let z:n7 0:=by unfold n7;rw [wy];decide);unfold hX at h;split at h;{split at h;{let ((t,G),D,R):=JG h;cases R;have:=abh (g.Q 1) D;show (?_,(g.Q 1).one D);unfold n7;lk};{let ((t,G),D,R):=JG h;cases R;have:=abh g D;show (?_,g.one D);unfold n7;lk}};{lk}
theorem ai2(O:Ib bQ)(a j:Nat):(g8 O a j).o Gz=Lo Gz:=by unfold g8;show Al%We M;lk
theorem abi(h:pU zH)(E:n7 γ):pU%Lm ω zH q γ:=by unfold pU at h ⊢;cases ω with|nil=>intro A u;rw [push,dW] at u;lk|cons a r=>intro A u;rw [push,dW,ai2] at u;lk
theorem abj(g:bh):∀n,(∀j O u m,GT u->pU O->run g n j O u=J m->pU m)/\(∀j O u m,GT u->pU O->UB g n j O u=J m->pU m)|0=>((λ_ _ _ _ _ _ h=>by rw [run] at h;cases h),(λj _ _ _ _ _ h=>by cases j<;>(rw [after] at h;cases h)))|n+1=>by let (T,Z):=abj g n;show (λj O u m N b h=>?_,λj O u m N b h=>?_);{rw [run] at h;split at h;{cases h};{let ((t,G),D,h):=JG h;let r:=N.one D;dsimp only at h;split at h;{cases h};{let ((v,C),R,h):=JG h;let (A,k):=ai1 r R;split at h;{show T _ _ _ _ (Oq 1) (abi b A) h};{show Z _ _ _ _ k (abi b A) h}}}};{cases j with|nil=>rw [after] at h;cbv|cons a o=>rw [after] at h;split at h;{lk};{let (G,D,h):=JG h;show T _ _ _ _ (N.eS D) b h}}
def ai3{t:Vaattd.Tree}(h:qM ρ zf=J t):∀i∈ew I 0 0 t,Of<=P'/\Xz P':=by let L:=Bh ρ zf;rw [h] at L;let (u,D,R):=JG L.J;let (O,V,T):=JG R;split at T;{cases T;have:=(abj ρ _).1 _ _ _ _ (A8 _ 0 zf u (bj _) D) (λz E=>by cases E) V;intro i l;have:=this P'%S0 (i,l,y);unfold n7 at this;rw [wy] at this;show this};{cases T}
theorem ai4(g:bh):(QM g).syms.length=Mq:=_Ez
theorem ai5(g:bh):(QM g).prods.length=_Bj:=_Ez
end TW
namespace TW
open Vaatta Vaattb Vaattd Vaattf Vaatts
theorem ai6{f G:Ib Iu}(n:Wf%aN ι=J zn)(H:QP=Z)(S:Z<UF)(L:dm χ zn=ag)(O:∀(i M:Nat) (a b:fL),Wg%aN ι=J a->Wm%aN ι=J b->Jr=b.U->i=M) (h:∀M,M∈f↔∃a,Wm%aN ι=J a/\Kh=Z/\dm χ a=ag) (F:f.Nodup) (t:∀M,M∈G↔∃a,Wm%aN ι=J a/\N4∈a.S) (Q:G.Nodup) (j:Uw) (m:∀M a,Wm%aN ι=J a->j M=(aT (Kh=Z) && dm (hS ι χ zn) a)) (p:∀M,M∈ω↔M∈f/\M≠q) (T:ω.Nodup): (∀M,M∈ω++G.bn j↔∃a,Wm%aN ι=J a/\Kh=Z/\dm (hS ι χ zn) a=ag)/\(ω++G.bn j).am:=by subst H;let B:∀M a,Wm%aN ι=J a->Kh=QP->M≠q->(dm (hS ι χ zn) a=ag↔(cJ (b7 χ Kh) Jr=I/\∀k∈a.names,k=N4∨(cJ (b7 χ Kh) k).as=ag)):=λM a V H X=>aiT ι χ zn a S L H λz=>X%O M q a zn V n z;(let c:∀M∈ω,∃a,Wm%aN ι=J a/\Kh=QP/\dm χ a=ag/\M≠q:=XR M X);let W:cJ (b7 χ QP) N4=I:=((mQ χ zn).R L).1;constructor;{intro M;rw [d7,jo];constructor;{rintro (X|⟨X,C⟩);{let (a,x,A,z,w):=c M X;show (a,x,A,Ws (B M a x A w) ?_);let (o,u):=(mQ χ a).R z;lk};{lk}};{rintro ⟨a,x,A,z⟩;(let X:M≠q:=λe=>by subst e;rw [n] at x;cases x;rw [aiU ι χ zn S L] at z;cases z);let (o,u):=(B M a x A X).R z;by_cases s:N4∈a.S;{lk};{show Ik%Ws (p M) (Ws (h M) (a,x,A,Ws (mQ χ a) (o,Wb k g)),X);lk}}};{rw [ky];show (T,Q.hw GB,Wn i l M X e);subst e;let (a,x,A,z,w):=c i l;let (X,_):=jo.R X;let (b,E,s):=(t i).R X;rw [x] at E;cases E;have:=((mQ χ a).R z).2 _ s;lk}
theorem ai7(n:Wf%aN ι=J zn)(h:∀M,M∈ω↔∃a,Wm%aN ι=J a/\Kh=Z/\dm χ a=ag)(i:q∈ω)(b:∀M∈ω,q<=M):(aN ι).cd (λzn=>QP==Z && dm χ zn)=J zn:=by show Bv _ _ q zn n ?_%Wj M A X u;{cbv};{cases e:(A.aw==Z && dm χ A) with|false=>rfl|true=>rw [cI,du] at e;have:=b M%Ws (h M) (A,u,e.1,e.2);lia}
theorem ai8(h:∀M:Iu,¬ ∃a,Wm%aN ι=J a/\Kh=q/\dm χ a=ag):(aN ι).cd (λr=>LQ==q && dm χ r)=I:=by rw [qF];intro A u e;rw [cI,du] at e;let (M,X):=JM u;lk
end TW
namespace L2
open PySem PySem.Spec PyProof.Rows
abbrev be:=Sum Ix ai
def n8:be->WA ah| .inl k,v=>Value.isInt k v| .inr x,v=>Value.isStrOf x v
def Bx(w:World):be->Ix| .inl k=>hashInt k| .inr x=>hashStr w x
theorem mT:∀{k:be} {v:ah},n8 k v=ag->(∃i t,k=nF i/\v=j_ i t)∨(∃x t,k=fQ x/\v=vn x t)| .inl i,v,h=>by let (t,e):=Value.isInt_shape (k:=i) (v:=v) h;cbv| .inr x,v,h=>by let (t,e):=Value.isStrOf_shape (x:=x) (v:=v) h;cbv
theorem abk(i:Int)(t:Tok):n8 (Ik i)%Id i t=ag:=by simp [n8,Value.isInt]
theorem abl(x:ai)(t:Tok):n8 (Iy x)%Iv x t=ag:=by simp [n8,Value.isStrOf]
theorem ai9(a b:Int):aT ((nF a:be)=nF b)=(a==b):=IZ
theorem ai_(a b:ai):aT ((fQ a:be)=fQ b)=aT (a=b):=Io
def ai'(a:Int)(b:ai):aT ((nF a:be)=fQ b)=ay:=bD λq=>nomatch q
def aja(a:ai)(b:Int):aT ((fQ a:be)=nF b)=ay:=bD λq=>nomatch q
def e2(q:aP)(w:World):PySem.KeyKind q w be where
 is:=n8
 hash:=Bx w
 inj:=λv a b N W=>by
  rcases mT N with ⟨i,t,rfl,rfl⟩|⟨x,t,rfl,rfl⟩
  ·rcases mT W with ⟨M,O,rfl,e⟩|⟨A,O,rfl,e⟩
   ·simp_all
   ·show _Dj
  ·rcases mT W with ⟨M,O,rfl,e⟩|⟨A,O,rfl,e⟩
   ·show _Dj
   ·simp_all
 byValue:=λk v h=>by
  rcases mT h with ⟨i,t,rfl,rfl⟩|⟨x,t,rfl,rfl⟩<;>rfl
 pyHash:=λc h=>by
  rcases mT c with ⟨i,t,rfl,rfl⟩|⟨x,t,rfl,rfl⟩
  ·show wpAny_pyHash_int h
  ·show wpAny_pyHash_str h
 eqBool:=λd c h=>by
  rcases mT d with ⟨i,t,rfl,rfl⟩|⟨x,t,rfl,rfl⟩
  ·rcases mT c with ⟨M,O,rfl,rfl⟩|⟨A,O,rfl,rfl⟩
   ·rw [ai9] at h;show wpAny_eqBool_int h
   ·rw [ai'] at h;show aw8 i t A O _ _ _ _ h
  ·rcases mT c with ⟨M,O,rfl,rfl⟩|⟨A,O,rfl,rfl⟩
   ·rw [aja] at h;show aw9 x t M O _ _ _ _ h
   ·rw [ai_] at h;show wpAny_eqBool_str h
 «strs»:=λk x t v h=>by
  rcases mT h with ⟨i,O,rfl,e⟩|⟨A,O,rfl,e⟩
  ·show _Dj
  ·injection e with p _
   subst p
   cases v<;>rfl
def ajb(q:aP)(w:World)(i:Int)(t:Tok):(e2 q w).is (Ik i)%Id i t=ag:=abk i t
def By(q:aP)(w:World)(x:ai)(t:Tok):(e2 q w).is (Iy x)%Iv x t=ag:=abl x t
inductive V where
 |aV|bl (b:Bool)|int (i:Int)|str (x:ai)|h4 (b:KC UInt8)|fC (b:UInt64)|ref (a:aa)|ty (n:String)
 deriving DecidableEq
def RelV:XU ah| .aV,O=>O=fq| .bl b,O=>O=s9 b| .int i,O=>∃t,O=j_ i t| .str x,O=>∃t,O=vn x t| .h4 b,O=>∃t,O=Value.bytes b t| .fC b,O=>∃t,O=af' b t| .ref a,O=>O=b! a| .ty n,O=>O=jq n
abbrev bC:WF (Ib V)%Ib ah:=cN IX
def bC.length{L:Ib V}{G:Ib ah}(r:bC L G):I0=JY:=b4 r
theorem bC.get:∀{L:Ib V} {G:Ib ah} {i:Nat} {x:V},bC L G->Pa=J x->∃O,Wg G=J O/\IX x O|_,_,_,_, .nil,e=>by simp at e|_,_,0,_, .cons r _,e=>Io|_,_,i+1,x, .cons _ t,e=>by let (O,D,R):=bC.get (i:=i) (x:=x) t _EA;cbv
theorem bC.set{x:V}{O:ah}(r:IX x O):∀{L:Ib V} {G:Ib ah} (i:Nat),bC L G->bC (L.set i x)%G.set i O|_,_,_, .nil=> IR|_,_,0, .cons _ t=> I1 r t|_,_,i+1, .cons q t=> I1 q (bC.set r i t)
theorem bC.append:∀{L w:Ib V} {G X:Ib ah},bC L G->bC w X->bC (L++w) (G++X)|_,_,_,_, .nil,s=>s|_,_,_,_, .cons r t,s=> I1 r (bC.f8 t s)
theorem bC.take:∀{L:Ib V} {G:Ib ah} (n:Nat),bC L G->bC (L.Y n)%G.Y n|_,_,0,_=> IR|_,_,_+1, .nil=> IR|_,_,n+1, .cons r t=> I1 r (bC.Y n t)
theorem bC.drop:∀{L:Ib V} {G:Ib ah} (n:Nat),bC L G->bC (L.Q n)%G.Q n|_,_,0,r=>r|_,_,_+1, .nil=> IR|_,_,n+1, .cons _ t=>bC.Q n t
def g_:WF (Im V)%Im ah|J v,J O=>IX v O|I,I=>True|_,_=>False
def KV{d:Jc}:WF (Ib NW)%Ib%Za d:=cN λ(p:d × V) (q:d × ah)=>KB=q.1/\IX L3 q.2
def kV:be->V| .inl i=> Id i| .inr x=> Iv x
inductive HO where
 |lst (xs:Ib V)
 |tup (xs:Ib V)
 |dK (j:Ib KJ)|dT (j:Ib OK)
 |set (S:WA Ix) (n:Nat)
 |ins (f X:aa) (a:Ib K1)
 |own (x:aa)
 |xd (a:Ib K1)
 |met (E x:aa)
 |Bz (lo l:Int)
 |b_ (o:bb) (O:HO)
 |mU (u:KC ah)
 |ext (b:WI aO)
abbrev Hp:=aa->Im HO
def ak(H:Hp)(a:aa)(o:HO):Hp:=Yp b b a (J o)%H b
end L2
variable{g G σ Γ:L2.Hp}{z8:Ib%Yb NE}{α z1:Ib NE}{zB:Ib (UG × NE)}{ζ z5:L2.V}{zO:Ib%Im NE}{za:L2.HO}{zi:Ib (Ib UG × NE)}
namespace L2
open PySem PySem.Spec PyProof.Rows
def ar:ak g f za f=J za:=by unfold ak;rw [aA y]
def aq(h:Rq):ak g u za f=g f:=by unfold ak;rw [au h]
def dE{o:HO}:ak (ak g f o) f za=ak g f za:=by funext b;unfold ak;split<;>rfl
theorem dh{O:HO}(h:g f=J za)(C:g u=J O)(a:za≠O):Rq:=IZ
theorem aU(h:g f=J za)(C:g u=I):Rq:=IZ
section
variable (P:aP)(w:World)
def d3(H:Hp)(h:aO)(a:aa):WI HO| .lst L=>Wo I0/\∃(d:Ib ah) (n:Nat),bC L d/\Kw a=J%X! KU n| .tup L=>Wo I0/\∃d:Ib ah,bC L d/\jr h a KU| .dK j=>Wo Lz/\(a==ij)=ay/\∃C,KV j C/\h.hl (e2 P w) a C| .dT j=>Wo Lz/\(a==ij)=ay/\∃L:Ib (Ib be × Ux),cN (λ(p:List be × V) (q:List be × aa × ah)=>KB=q.1/\H q.2.1=J%IC%(KB).o kV/\IX L3 q.2.2) j L/\∃o g e,Kw a=J o/\o.ExactDict/\QQ= L7 g e/\g.by=NG%entryOfKey%Am%e2 P w/\(NG (·.1)).am| .set S n=>h.h3 (intKind P w) a S n| .ins f X b=>H X=J%JA a/\M0<=1000/\X≠a/\Kw a=J%qX f X/\∃G,h.Ns1 X G/\(∀E,g_ (b.B E)%G E)/\aga G%b.o (·.1)| .own _=>∃o,Kw a=J o| .xd b=>∃G,h.Ns1 a G/\∀E,g_ (b.B E)%G E| .Bz lo l=>∃t O v,Kw a=J%WN OO #[Id lo t, Id l O, Id 1 v]| .b_ o O=>Kw a=J o/\d3 H h a O| .mU u=>Kw a=J%_br%S3 u| .met E x=>Kw a=J%agb (Ia E)%Ia x| .ext c=>c h/\(∃o,Kw a=J o)/\∀D R:aO,c D->(∀o,D.E a=J o->R.E a=J o)->c R
def d_(H:Hp)(h:aO):Ir:=∀a o,H a=J o->d3 P w H h a o
end
section
variable {H':Hp}{h':aO}{a:aa}{o:HO}
def d3.lt(x:d3 l p g A a o):a<_Ak:=by cases o with|lst L=>let (_,_,_,_,e):=x;show cZ e|tup L=>let (_,_,_,c):=x;show c.lt|dK j=>let (_,_,_,_,o,_,_,e,_):=x;show cZ e|dT j=>let (_,_,_,_,o,_,_,e,_):=x;show cZ e|set S n=>let (o,_,_,_,e,_):=x;show cZ e|ins f X V=>let (_,_,_,e,_):=x;show cZ e|own d=>let (_,e):=x;show cZ e|xd V=>let (_,(_,_,_,e,_),_):=x;show cZ e|Bz lo h=>let (_,_,_,e):=x;show cZ e|b_ M O=>let (e,_):=x;show cZ e|mU u=>show cZ (show Le a=J _ from x)|met E d=>show cZ (show Le a=J _ from x)|ext b=>let (_,(_,e),_):=x;show cZ e
theorem Paired.d!{f s:Jc}{F G:O_}:∀{c:Ib f} {d:Ib s},cN F c d->(∀a b,F a b->G a b)->cN G c d|_,_, .nil,_=> IR|_,_, .cons r t,E=> I1 (E _ _ r) (J8 t E)
theorem d3.lX(x:d3 l p g A a o)(k:∀b O,(b=a∨g b=J%JA a)->Le b=J O->Mu b=J O) (m:∀b,g b=J%JA a->H' b=J%JA a) (v:∀b L,g b=J%IC L->H' b=J%IC L):d3 l p H' h' a o:=by induction o with|lst L=>let (z,d,n,r,e):=x;show (z,d,n,r,k _ _ (Ik y) e)|tup L=>let (z,d,r,M,e,j):=x;show (z,d,r,M,k _ _ (Ik y) e,j)|dK s=>let (z,w,C,r,M,h,E,e,j):=x;show (z,w,C,r,M,h,E,k _ _ (Ik y) e,j)|dT s=>let (z,w,L,r,M,h,E,e,j):=x;show (z,w,L,J8 r λP q z=>(Mn,v _ _ Rv,Ss),M,h,E,k _ _ (Ik y) e,j)|set S n=>let (M,h,E,t,e,j):=x;show (M,h,E,t,k _ _ (Ik y) e,j)|ins F X V=>let (f,z,D,e,G,(H,h,E,Z,j),r):=x;show (m _ f,z,D,k _ _ (Ik y) e,G,(H,h,E,k _ _ (Iy f) Z,j),r)|own w=>let (M,e):=x;show (M,k _ _ (Ik y) e)|xd V=>let (G,(H,h,E,e,j),r):=x;show (G,(H,h,E,k _ _ (Ik y) e,j),r)|Bz lo N=>let (t,O,B,e):=x;show (t,O,B,k _ _ (Ik y) e)|b_ M O c=>let (e,q):=x;show (k _ _ (Ik y) e,c q)|mU u=>let e:Le a=J%_br%S3 u:=x;change Mu a=J%_br%S3 u;cbv|met i w=>let e:Le a=J%agb (Ia i)%Ia w:=x;change Mu a=J%agb (Ia i)%Ia w;cbv|ext Q=>let (P,(o,e),st):=x;show (st _ _ P λo q=>k _ _ (Ik y) q,(o,k _ _ (Ik y) e),st)
def d_.lt(x:d_ l p g A)(e:g a=J o):a<_Ak:=(x a o e).lt
def d_.fresh(x:d_ l p g A)(e:_Ak<=a):g a=I:=by cases q:g a with|none=>rfl|some O=>show a' (ib (x.lt q) e)%lH _
def d_.kept(x:d_ l p g A)(k:∀b O,Le b=J O->Mu b=J O):d_ l p g h':=λa o e=>(x a o e).lX (λb O _ q=>k b O q) (Wv q q)%WG q q
def d_.laid(x:d_ l p g A)(k:∀b O,Le b=J O->Mu b=J O)(d:_Ak<=a)(T:d3 l p (ak g a o) h' a o):d_ l p (ak g a o) h':=λb O e=>by let G:=x.an d;by_cases W:b=a;{subst W;rw [ar] at e;cases e;show T};{rw [aq W] at e;show (x b O e).lX (λj v _ q=>k j v q) (λj q=>Yj%aU q G) (λj L q=>Yj%aU q G)}
end
def Rd(H:Hp)(a:aa)(O:HO):Ir:=H a=J O∨∃o,H a=J%Jd o O
def Rd.ok(r:Rd g f za)(x:d_ l p g A):d3 l p g A f za:=by rcases r with r|⟨o,r⟩;{show x f za r};{let (_,q):=x f _ r;show q}
def lY:WI%Im HO|J (.lst _)=>True|J (.dK _)=>True|J (.dT _)=>True|J (.set _ _)=>True|J (.ins _ _ _)=>True|J (.ext _)=>True|_=>False
section
variable {h':aO}{x e:aa}
theorem d_.write(f:d_ l p g A)(mu:lY%g x)(D:e=x∨g e=J%JA x)(k:∀b O,WY e->Le b=J O->Mu b=J O)(n:∃O,Mu e=J O) (T:d3 l p (ak g x za) h' x za):d_ l p (ak g x za) h':=λb O q=>by (let c:∀j h,g j=J%JA h->W_ j:=λj h r z=>_EB);(let i:∀j L,g j=J%IC L->W_ j:=λj L r z=>_EB);by_cases W:b=x;{subst W;rw [ar] at q;cases q;show T};{rw [aq W] at q;by_cases a:b=e;{(let d:g b=J%JA x:=Io);rw [q] at d;cases d;let (v,o):=n;show (v,by rw [a];show o)};{(show (f b O q).lX (λj v m r=>k j v ?_ r) (λj r=>by rw [aq%c j b r];show r) (λj L r=>by rw [aq%i j L r];show r));lk}}
end
structure Un(V G:Ib aa)(H d:Hp)(h C:aO):Ir where
 keep:Wh (Kw b=J o) (H b=I->WR V->WR G->Nk b=J o)
 slot:Wh (Kw b=J o) (H b=I->b∈V->WR G->∃A,Nk b=J _Em)
 free:Wh (Kw b=J o) (H b=I->WR G->d b=I)
 there:Wh (Kw b=J o) (WR G->∃Q,Nk b=J Q)
 hu:∀b L,H b=J%IC L->d b=J%IC L
 iS:∀b o O,H b=J%Jd o O->d b=J%Jd o O
 jE:∀b u,H b=J%.mU u->∃more,d b=J%.mU (u++S4)
section
variable {h':aO}{a x e:aa}{o:HO}
def Un.any{d:Ib aa}{D:aO}(O:Un zl d g G A D)(q:Le f=J ze)(b:g f=I)(N:f∉d):∃c,D.E f=J {ze with slots:=c}:=by by_cases W:f∈zl;{show O.hp f ze q b W N};{show (ze.slots,O.ad f ze q b W N)}
theorem Un.kept{G:Ib aa}(k:∀d O,Le d=J O->Mu d=J O):Un zl G g g A h':=(λd f q _ _ _=>k d f q,λd f q _ _ _=>(f.slots,k d f q),ZX b _ b,λd f q _=>(f,k d f q),WG q q,λ_ _ _ q=>q,Xp u q (Ks,by rw [q];simp))
def Un.refl{G:Ib aa}:Un zl G g g A A:=Un.dm%WG q q
theorem Un.laid{G:Ib aa}(k:∀f O,Le f=J O->Mu f=J O)(d:_Ak<=a)(b:g a=I):Un zl G g (ak g a o) A h' where
 keep:=λf O q _ _ _=>k f O q
 slot:=λf O q _ _ _=>(O.slots,k f O q)
 free:=λf O q i _=>_bC aq%eF%ib (cZ q) d
 there:=λf O q _=>(O,k f O q)
 hu:=λf L q=>Yj%aU q b
 iS:=λf O L q=>Yj%aU q b
 jE:=λf u q=>(Ks,by rw [aq%aU q b,q];simp)
theorem Un.write{G:Ib aa}(mu:lY%g x)(l:e=x∨g e=J%JA x)(k:∀d O,d≠e->Le d=J O->Mu d=J O)(m:∃O,Mu e=J O):Un zl G g (ak g x o) A h':=by (let N:∀d,g d=I->W_ d:=λd f z=>by subst z;rw [f] at mu;show mu);(let W:∀d,g d=I->d≠e:=λd f z=>Io);(let i:∀d O,g d=J O->¬ lY (J O)->W_ d:=λd O q b z=>Io);show (λd O q f _ _=>k d O (W d f) q,λd O q f _ _=>(O.slots,k d O (W d f) q),λd O q f _=>by rw [aq%N d f];show f,XB d O q,λd L q=>Yj%i d _ q λz=>z,λd O L q=>Yj%i d _ q λz=>z,λd u q=>(Ks,by rw [aq%i d _ q λz=>z,q];simp));lk
end
def wz(h:aO)(H:Hp):Ib aa:=(ey Ph).bn λa=>(H a).as
def mV(h:aO)(H:Hp):aO:=GD h%wz h H
def ajc(h:aO)(H:Hp):(mV h H).cw=Ph:=PySem.W.hideAll_size _ _
theorem ajd(e:Le f=J ze)(n:g f=I):(mV A g).E f=J ze:=aw_ _ e (λi=>by let q:(g f).as=ag:=(jo.R i).2;cbv)
theorem aje(e:(mV A g).E f=J ze):Le f=J ze/\g f=I:=by let l:Le f=J ze:=aw' (wz A g) e;show Wt l;cases q:g f with|none=>rfl|some x=>let i:f∈wz A g:=_Be (mw.mpr%cZ l,_De);let z:(mV A g).E f=I:=PySem.W.hideAll_none (wz A g) i;cbv
structure Mod(K:aE)(S:ai->Im ah)(base:aO):Ir where
 rJ:K.In Jp
 glob:UH a_ S
 blt:∃a,UH _Dk a/\∀x:ai,x≠UI->a x=hT x
 nolimit:base.NoLimit
structure Cx where
 prog:aP
 w:World
 K:aE
 mg:ai->Im ah
 base:aO
 A:cC
 N:Ib ai
 hv:az
 pV:Hp
 env:es
 outer:Ib es
 stack:Ib es
 ex:Ib aa
 fn:WA ai
 calm:Bool
 pn:Ib Jz
 xe:MF
def eV(l:Ib es):Ib aa:=l.d7 (·.g5)
abbrev Cx.fs(X:Cx):Ib aa:=eV X.gt
def rK(M:e8)(x:ai):Ir:=Pi x=J L8∨Pi x=J Kx∨Pi x=J K4
def Loc(M:e8)(x:ai):Ir:=Pi x=J L8∨Pi x=J Kx
def Look(R:es)(h:aO)(m:ai->Im ah)(x:ai)(O:ah):Ir:=(R.ej x=J L8/\m x=J O)∨((R.ej x=J Kx∨R.ej x=J K4)/\∃j,R.br.B x=J j/\h.IsCell j%J O)
structure Cx.Ok(X:Cx):Ir where
 mod:Mod X.K X.mg X.au
 kind:X.H.ch.bh= RF
 glob:X.H.globals=a_
 blt:X.H.builtins=_Dk
 above:_Bo<=S5
 inj:∀x A j,RH x=J j->RH A=J j->x=A
 has:∀x,(X.H.ej x=J Kx∨X.H.ej x=J K4)->∃j,RH x=J j
 mW:∀x j,X.fn x=ag->RH x=J j->_Bo<=j
 hd:X.e9=ag->X.A.b7=I
 frames:X.A.ds=J X.d1
 n9:X.d1=X.gt∨(X.d1=La::X.gt/\X.H.g5=J S5)
 n_:∀b∈X.ex,WY S5/\∀x j,RH x=J j->Xg j
 bs:Wh (X.au.E b=J o) (X.hv.j.E b=J o/\X.pV b=I)
 jc:X.au.v.l<=_Bo
 mX:Wh (X.au.E b=J o)%WR X.ex
 mY:∀b∈X.ex,WR X.fs
 iq:X.hv.j.fl X.au X.gt
 kN:∀b∈X.fs,X.pV b=I
structure Inv(X:Cx)(F:Ib Jz)(c:Ib%Im V)(H:Hp)(s:az):Ir where
 ok:X.Ok
 os:s.os=X.hv.os
 bare:qY s.gens
 base:Un X.fs X.ex X.pV H X.hv.j Lp
 loc:∃m,s.j.Ns S5 m/\∀(i:Nat) (x:ai) (v:V),Wg X.N=J x->Wg c=J%J v->rK X.H.ch x->∃O,IX v O/\Look La Lp m x O
 cell:∀x j,RH x=J j->∃v,s.j.IsCell j v
 free:H S5=I
 h5:∀x j,RH x=J j->H j=I
 pin:∀p∈X.pn++F,RI KB=J L3/\H KB=I/\KB≠S5/\KB∉X.fs/\∀v,(L3).dn≠ Kx v
 bK:d_ Km Kn H Lp
 len:c.a=X.N.a
end L2
variable{j:L2.Cx}
namespace L2
open PySem PySem.Spec PyProof.Rows
section
variable {H':Hp}{h':aO}
theorem Cx.Ok.ajf(a:j.Ok)(e:j.au.E f=J ze):f∉P!:=λW=>by have:=(a.iq.mem W).1;cbv
def Inv.bs(B:Ip j ν zO g v):Wh (j.au.E b=J o) (Ji b=J o/\g b=I):=λb o e=>(S6 b o (RJ b o e).1 (RJ b o e).2 (B.ok.ajf e)%S7 b o e,Os b o (RJ b o e).1 (RJ b o e).2%S7 b o e)
def Inv.bk(B:Ip j ν zO g v):Wh (j.au.E b=J o) (Ji b=J o):=λb o e=>(B.bs b o e).1
def Inv.mod(B:Ip j ν zO g v):Mod IO J9 L9:=B.ok.mod
def Inv.ef(B:Ip j ν zO g v):j.K.In I7:=B.ok.mod.rJ.fo B.bk
def Inv.fr(B:Ip j ν zO g v):∃m,Fr L9 M4 I7 m:=let (m,G,_):=B.loc;(m,G,B.bk,d8 QR Pj)
def Inv.lt(B:Ip j ν zO g v):M4<II:=let (_,G,_):=B.loc;G.lt
def Inv.sz(B:Ip j ν zO g v):_Al<=II:=d8 Pj%An B.lt
def Inv.ajg(B:Ip j ν zO g v)(h:II<=f):f∉P!:=λW=>ZC (_,o,S,_) B.ok.iq.mem W%a' (ib (cZ S)%d8 B.sz h)%lH _
theorem Inv.BA(B:Ip j ν zO g v):∀x b,OP x=J b->WY M4:=λx b e z=>by let (c,o,S,hd):=MJ x b e;let (m,(Q,d,E,u,a,_),_):=B.loc;cbv
theorem Inv.iq(B:Ip j ν zO g v):v.j.fl L9 j.gt:=by (let all:YB es ((∀b∈eV l,b∈P!)->j.hv.j.fl L9 l->v.j.fl L9 l):=by intro l;induction l with|nil=>intro _ _;trivial|cons R r a=>intro P V;let (c,(n,o,hf,G,S,hd),L):=V;let M:n∈P!:=P n (by unfold eV;cbv);let (A,e):=S8 n o S (UJ n M) M λz=>UK n z M;show (c,(n,_,hf,G,e,hd),a (λb W=>P b (by unfold eV;rw [Gq,hf];show cL _ W)) L));show IH j.gt (Wv W W) _Am
theorem Inv.stack(B:Ip j ν zO g v):v.j.fl L9 Pk:=by rcases B.ok.n9 with e|⟨e,hf⟩;{rw [e];show B.iq};{rw [e];let (m,G,_):=B.loc;show I1 (by rw [N5];decide) hf G ?_ B.iq;show Heap.get?_none_of_le%d8 QR Pj}
theorem Inv.BB(B:Ip j ν zO g v):∀b∈eV Pk,b∈M4::P!:=λb W=>by rcases B.ok.n9 with e|⟨e,hf⟩;{cbv};{rw [e] at W;unfold eV at W;rw [Gq,hf] at W;show W}
def Inv.BC(B:Ip j ν zO g v):∀b∈eV Pk,g b=I:=λb W=>by rcases b0.R (B.BB b W) with e|W;{rw [e];show B.da};{let (_,o,S,_):=B.ok.iq.mem W;show Os b o S (UJ b W) (λz=>UK b z W)}
theorem Inv.step{g':KC _Bp}{d':Drawn}{ch:Ib aa}(B:Ip j ν zO g v) (a:∀b∈ch,(b∈j.ex∨_Al<=b)/\WY M4/\(∀x c,OP x=J c->Xg c)/\∀p∈RK++ν,Xg KB) (M:YQ M4 (WR P!->WR ch->Ji b=J o->g b=I->Mu b=J o)) (P:YQ M4 (b∈P!->WR ch->Ji b=J o->g b=I->∃A,Mu b=J _Em)) (C:Wh (WR ch) (Ji b=J o->g b=I->H' b=I)) (ε:Wh (WR ch) (Ji b=J o->∃Q,Mu b=J Q)) (ζ:∀b L,g b=J%IC L->H' b=J%IC L) (η:∀b o O,g b=J%Jd o O->H' b=J%Jd o O) (θ:∀b u,g b=J%.mU u->∃more,H' b=J%.mU (u++S4)) (ι:∀m,_Bq M4 m->h'.Ns M4 m) (T:d_ IS IT H' h') (κ:qY g'): Ip j ν zO H' (_b4 g' d' q):=by let R:Wh (j.hv.j.E b=J o) (WY M4):=λb o e=>eF%ib (cZ e) Pj;(let E:Wh (j.hv.j.E b=J o) (WR j.ex->WR ch):=λb o e N W=>by rcases (a b W).1 with z|z;{show N z};{show a' (ib (cZ e) z)%lH _});(let α:∀x c,OP x=J c->∀s,v.j.IsCell c s->h'.IsCell c s:=λx c e s (o,S,hd)=>by let w:c∉ch:=λz=>(a c z).2.2.1 x c e y;by_cases β:c∈P!;{let (A,F):=P c o (B.BA x c e) β w S%M5 x c e;show (_,F,hd)};{show (o,M c o (B.BA x c e) β w S%M5 x c e,hd)});show (B.ok,N6,κ,(WM b o e n W N,WM b o e n W N,Wn b o e n N,XG b N,λb L e=>ζ b L%UL b L e,λb o L e=>η b o L%S9 b o L e,YE u),?_,YJ c,?_,YJ c,Yn p,T,Pl);{show M b o (R b o e) W (E b o e N) (S6 b o e n W N)%Os b o e n N};{let (A,h):=S8 b o e n W N;let (μ,Z):=P b _ (R b o e) W (E b o e N) h%Os b o e n N;show (μ,Z)};{let (Q,h):=RL b o e N;show C b Q (E b o e N) h%Os b o e n N};{let (Q,h):=RL b o e N;lk};{let (t,h):=UM b u e;lk};{let (m,G,V):=B.loc;show (m,ι m G,WM i x s h Z H);let (O,r,l):=V i x s h Z H;show (O,r,?_);rcases l with l|⟨k,c,e,z⟩;{show Ik l};{show Iy (k,c,e,α x c e _ z)}};{let (s,z):=MJ x c e;lk};{let (m,(o,_,_,S,_),_):=B.loc;show C _ o (λz=>(a _ z).2.1 y) S NH};{let (s,o,S,hd):=MJ x c e;show C c o (λz=>(a c z).2.2.1 x c e y) S%M5 x c e};{let (e,n,D,γ,f):=NI p d;lk}
theorem Inv.un{t':Nat}(B:Ip j ν zO g v)(O:Un P! [] g H' I7 h')(T:d_ IS IT H' h'):Ip j ν zO H'%_at h':=Zx (m,(o,a,E,S,r),_) id Pm (A,M) (O.any S NH Ii)%B.hz (g':=v.gens) (d':=v.drawn) (ch:= []) (Wv z _Dl) (λb o _ W _ e n=>O.ad b o e n W Ii) (λb o _ W _ e n=>O.hp b o e n W Ii) (_bM b o e n%O.da b o e n Ii) (λb o _ e=>O.fz b o e Ii) O.hu O.iS O.jE (_bZ Z i (Q,f,k,u,t) (_,f,k,M,t)) T M6
def Inv.call{w:KC _Bp}{D:Drawn}(B:Ip j ν zO g v)(O:Un (eV Pk) zl g H' I7 h')(T:d_ IS IT H' h')(d:qY w) (a:∀b∈zl,(b∈j.ex∨_Al<=b)/\WY M4/\(∀x c,OP x=J c->Xg c)/\∀p∈RK++ν,Xg KB): Ip j ν zO H' (_b4 w D q):=Zx (l,(o,h,E,S,r),_) id Pm (A,M) (O.any S NH λz=>(a _ z).2.1 y)%B.hz (ch:=zl) a (λb o M W m e n=>O.ad b o e n (λz=>(b0.R%B.BB b z).al M W) m) (λb o _ _ m e n=>O.any e n m) (λb o m e n=>O.da b o e n m) (λb o m e=>O.fz b o e m) O.hu O.iS O.jE (_bZ Z i (Q,f,k,u,t) (_,f,k,M,t)) T d
theorem Inv.turned(B:Ip j ν zO g v)(k:YQ f (Ji b=J o->Mu b=J o))(G:g f=I)(M:XX M4) (D:f∈j.ex∨_Al<=f) (R:∀x c,OP x=J c->c≠f) (V:∀p∈RK++ν,KB≠f):Ip j ν zO g%Zj h':=by (let d:∀b O,g b=J O->WY f:=λb O e z=>Io);show B.hz (g':=v.gens) (d':=v.drawn) (ch:= [f]) OE (λb o _ _ m e _=>k b o (λz=>m QS) e) (λb o _ _ m e _=>(o.slots,k b o (λz=>m QS) e)) (_a7 n n) (λb o m e=>(o,k b o (λz=>m QS) e)) Mj (λ_ _ _ e=>e) (λb u e=>(Ks,_Dm)) (Wb s i) (YE O) M6;{lk};{let (o,h,E,S,r):=i;show (o,h,E,k _ o (i7 M) S,r)};{show (Jl b O e).lX (λc l m a=>k c l ?_ a) (Wv a a)%WG a a;lk}
def Inv.tok(B:Ip j ν zO g v)(t:Nat):Ip j ν zO g {v with toks:=t}:=B.un (h':=v.heap) (t':=t) Un.g6 Jl
def Inv.kept{t':Nat}(B:Ip j ν zO g v)(k:∀b O,Ji b=J O->Mu b=J O):Ip j ν zO g%_at h':=B.un (Un.dm k)%B.bK.dm k
def Inv.laid{a:aa}{o:HO}{t':Nat}(B:Ip j ν zO g v)(k:∀b O,Ji b=J O->Mu b=J O)(d:II<=a)(T:d3 IS IT (ak g a o) h' a o): Ip j ν zO (ak g a o) (_at h'):=B.un (Un.fv k d%Nl d)%B.bK.fv k d T
def Inv.write{x e:aa}{o:HO}{t':Nat}(B:Ip j ν zO g v)(mu:lY%g x)(D:e=x∨g e=J%JA x)(k:∀b O,WY e->Ji b=J O->Mu b=J O)(a:∃O,Mu e=J O) (T:d3 IS IT (ak g x o) h' x o):Ip j ν zO (ak g x o)%_at h':=B.un (Un.hs mu D k a)%B.bK.hs mu D k a T
def Inv.weak{z:Ib%Im V}(B:Ip j ν zO g v)(a:z.a=zO.a)(w:∀(i:Nat) c,Wg z=J%J c->Wg zO=J%J c):Ip j ν z g v:=(B.ok,N6,M6,RM,let (m,G,b):=B.loc;(m,G,λi x c p Z l=>b i x c p (w i c Z) l),MJ,NH,M5,NI,Jl,a.q Pl)
def Inv.abm{a:Ib Jz}(B:Ip j ν zO g v)(h:∀p∈a,Ji KB=J L3/\g KB=I/\KB≠M4/\KB∉P!/\∀b,(L3).dn≠ Kx b):Ip j a zO g v:=(B.ok,N6,M6,RM,Pm,MJ,NH,M5,λp d=>(d7.R d).al (λz=>NI p%sX _ z)%h p,Jl,Pl)
def BD(R:π.Nodup)(a:Wf π=J L)(b:π[Z]?=J L):q=Z:=Zx (D,p) I! a (d,c) (I! b)%(List.getElem_inj R).R%p.q c.J
theorem abn{u:Model}{ι:V8}(B:Ip j ν zO g v)(R:j.N.Nodup)(l:Us=J L)(N:Loc N7 L)(r:IX ζ η) (h:∀α,Ip j ν (zO.set q%J ζ) g α->(∃a,lI a I7 α.j/\(a=M4∨OP L=J a))->ι () α) (hf:j.fn L=ag∨P? L=J L8:=by first|show Ik y|show Iy y|assumption):aG u μ (_Dn IE L η) ι υ v:=by let (T,G,κ):=id Pm;(let φ:(j.H.ch.bh== .class||(j.H.ch.bh== .module && M4 !=j.H.globals))=ay:=by rw [N5];rfl);(let H:q<zO.a:=by rw [Pl];lk);let β:=B.BA;(let O:∀{a:aa} {h':aO},(∃o,Ji a=J o/\g a=I)->lI a I7 h'->d_ IS IT g h':=λ{a h'} χ P b ψ e=>by let (_,_,ξ):=χ;show (Jl b ψ e).lX (λc w m i=>(P.2 c ?_).q i) (Wv i i)%WG i i;lk);rcases N with s|s;{show wpAny_storeName_local s G (Wd h' ω P) φ;let (Γ,_,_,Δ,_):=id G;show h _ (B.ok,N6,M6,(WM b o e n W N,WM b o e n W N,Os,XG b N,UL,S9,UM),(_,ω,WM M A γ p Z δ),W' A c,NH,M5,Yn E,O (Γ,Δ,NH) P,_ED) (_,P, Ik y);{show (P.2 b%eF%ib (cZ e) Pj).q%S6 b o e n W N};{let (ε,p):=S8 b o e n W N;show (ε,(P.2 b%eF%ib (cZ e) Pj).q p)};{let (Q,p):=RL b o e N;show (Q,(P.2 b%eF%ib (cZ e) Pj).q p)};{by_cases C:M=q;{subst C;rw [l] at p;cases p;rw [vp H] at Z;cases Z;show (η,r, Ik (s,Ii))};{rw [vq%i7 C] at Z;let (S,x,i):=κ M A γ p Z δ;show (S,x,?_);rcases i with ⟨k,e⟩|⟨k,c,e,z⟩;{show Ik%Wt k;have:A≠L:=λe=>C%BD R p (e▸l);simp [this,e]};{show Iy (k,c,e,z.g7 P%β A c e)}}};{let (w,z):=MJ A c e;show (w,z.g7 P%β A c e)};{let (e,n,D,F,f):=NI E d;show ((P.2 E.1 D).q e,n,D,F,f)}};{(let θ:j.fn L=ag:=Io);let (c,m):=S_ L%Ik s;let (w,z):=MJ L c m;show wpAny_storeName_cell N5 s m z%Wd h' ο P;let (π,ρ,Θ):=id z;show h {v with heap:=h'} (B.ok,N6,M6,(WM b o e n W N,WM b o e n W N,Os,XG b N,UL,S9,UM),(T,G.g7 P%i7%β L c m,WM M A γ p Z δ),W' A t,NH,M5,Yn E,O (π,ρ,M5 L c m) P,_ED) (c,P, Iy m);{show (P.2 b%eF%ib (cZ e)%S' L c θ m).q%S6 b o e n W N};{let (ε,p):=S8 b o e n W N;show (ε,(P.2 b%eF%ib (cZ e)%S' L c θ m).q p)};{let (Q,p):=RL b o e N;show (Q,(P.2 b%eF%ib (cZ e)%S' L c θ m).q p)};{by_cases C:M=q;{subst C;rw [l] at p;cases p;rw [vp H] at Z;cases Z;show (η,r, Iy (Ik s,c,m,ο))};{rw [vq%i7 C] at Z;let (S,x,i):=κ M A γ p Z δ;show (S,x,?_);rcases i with i|⟨k,t,e,Ξ⟩;{show Ik i};{show Iy (k,t,e,Ξ.g7 P ?_);rintro rfl;show C%BD R p (UN _ _ _ e m▸l)}}};{by_cases σ:t=c;{lk};{let (Φ,Ψ):=MJ A t e;show (Φ,Ψ.g7 P σ)}};{let (e,n,D,F,f):=NI E d;show ((P.2 E.1 ?_).q e,n,D,F,f);lk}}
def BE{u:Model}{Q:V8}(B:Ip j ν zO g v)(R:j.N.Nodup)(l:Us=J L)(N:Loc N7 L)(r:IX ζ η) (h:∀M,Ip j ν (zO.set q%J ζ) g M->Q () M) (hf:j.fn L=ag∨P? L=J L8:=by first|show Ik y|show Iy y|assumption):aG u μ (_Dn IE L η) Q υ v:=abn B R l N r (λM W _=>h M W) hf
def Inv.abo{M:az}(B:Ip j ν zO g v)(S:M.os=v.os)(O:Un (eV Pk) zl g H' I7 M.j)(T:d_ IS IT H' M.j)(d:qY _Br) (a:∀b∈zl,(b∈j.ex∨_Al<=b)/\WY M4/\(∀x c,OP x=J c->Xg c)/\∀p∈RK++ν,Xg KB):Ip j ν zO H' M:=by let (h',w,D,N,Q):=M;let e:Q=v.os:=S;subst e;show B.call (w:=w) (q:=N) (D:=D) O T d a
end
abbrev XK:=ah->Xq%Im aa
abbrev St:=Ib%Im V
abbrev VK:=Xq V
abbrev TE:=St->J3
abbrev TT:=St->YU Sw
abbrev TA:=St->YU%Xq%Ib V
structure Ends where
 nx:PQ
 rt:VK
 bk:PQ:=SA
 ct:PQ:=SA
abbrev TS:=_cm Ends
def EP(X:Cx)(F:Ib Jz)(c:St)(Q:VK)(O:ah)(M:az):Ir:=∃v d,Ip X F c d M/\IX v O/\Q v d
def TP(X:Cx)(F:Ib Jz)(c:St)(Q:Sw)(b:Bool)(M:az):Ir:=∃d,Ip X F c d M/\Q b d
def AP(X:Cx)(F:Ib Jz)(c:St)(Q:Xq%Ib V)(G:Ib ah)(M:az):Ir:=∃C d,Ip X F c d M/\bC C G/\Q C d
def SP(X:Cx)(F:Ib Jz)(G:Ends)(E:Flow)(M:az):Ir:=match E with| .next=>∃z d,Ip X F z d M/\N8 z d| .brk=>∃z d,Ip X F z d M/\G.bk z d| .cont=>∃z d,Ip X F z d M/\G.ct z d| .ret O=>∃v z d,Ip X F z d M/\IX v O/\G.rt v d
def PE(X:Cx)(e:Expr)(t:TE):Ir:=∀(F:Ib Jz) (s:az) (c:St) (H:Hp) (Q:VK),Ip X F c H s->t c H Q->aG (a7 Km Kn) KM (Je e La) (EP X F c Q) K5 s
def PT(X:Cx)(e:Expr)(t:TT):Ir:=∀(F:Ib Jz) (s:az) (c:St) (H:Hp) (Q:Sw),Ip X F c H s->t c H Q->aG (a7 Km Kn) KM (vr e La%Je e La) (TP X F c Q) K5 s
def PW(X:Cx)(e:Expr)(t:TT):Ir:=∀(a:gF ah) (F:Ib Jz) (s:az) (c:St) (H:Hp) (Q:Sw),Ip X F c H s->t c H Q->aG (a7 Km Kn) KM (vr e La a) (TP X F c Q) K5 s
end L2
variable{ε:L2.VK}{zI:L2.TT}{R Ξ:L2.TE}{zo:L2.TA}{E:L2.St}{zL:NE->Ib NE->WF L2.Hp L2.VK}{zK:L2.TS}{τ:L2.XK}{zv:L2.Ends}
namespace L2
open PySem PySem.Spec PyProof.Rows
def PW.pt(h:PW j O zI):PT j O zI:=h _
def PA(X:Cx)(g:Ib LM)(t:TA):Ir:=∀(T:cv) (F:Ib Jz) (s:az) (c:St) (H:Hp) (Q:Xq%Ib V),Ip X F c H s->t c H Q->aG (a7 Km Kn) KM (_Bs%fv T%cK g La) (AP X F c Q) K5 s
def PS(X:Cx)(st:aS)(t:TS):Ir:=_cc Ib Jz (Ip X F c H s->t G c H->aG (a7 Km Kn) KM (exec st La) (SP X F G) K5 s)
def ir(X:Cx)(st:Ib aS)(t:TS):Ir:=_cc Ib Jz (Ip X F c H s->t G c H->aG (a7 Km Kn) KM (execs st La) (SP X F G) K5 s)
def bq{t:gF zg}{Q b:WL zg}{u:Model}(h:aG u μ t Q υ v)(c:∀a v,Q a v->b a v):aG u μ t b υ v:=iK h c%WG x x
theorem bin(N:PE j O R)(W:PE j ξ Ξ){c:V->Xq V}(B:Ip j ν E g v)(h:R E g λx M=>Ξ E M λA n=>c x A n) {Q:WL zg} {d:ah->ah->gF zg} (hf:∀a b p x A n,Ip j ν E n p->IX x a->IX A b->c x A n->aG (a7 IS IT) Jt (d a b) Q K9 p): aG (a7 IS IT) Jt (Je O IE) (λa m=>aG (a7 IS IT) Jt (Je ξ IE) (λb u=>aG (a7 IS IT) Jt (d a b) Q K9 u) K9 m) K9 v:=by show bq (N ν v E g _ B h)%WH a (x,M,i,e,z);show bq (W ν w E M _ i z)%XW b (A,n,k,P,f);lk
def bH(i:Nat):TE:=λe H Q=>∃v,Wg e=J%J v/\Q v H
def tC(v:V):TE:=Xp H Q%Q v H
def ajh(R:Us=J L)(A:rK N7 L)(hd:MY=ay:=by decide)(a:(L==ZM _EE)=ay:=by decide):PE j (JU L κ)%bH q:=by intro F s k H Q B h;let (v,e,h):=h;let (b,G,V):=B.loc;let (O,r,n):=V q L v R e A;let S:EP j F k Q O s:=(v,H,B,r,h);rcases n with ⟨g,p⟩|⟨g,t,m,f⟩;{show _Do (_EF N5 g G p S) hd};{rcases g with g|g;{show _Do (_EG N5 g m f S) hd};{show _Do (wpAny_loadName_free N5 g m f S a) hd}}
def aF{i M T}:PE j (RN (Id i) M T)%tC%Id i:=λ_ _ _ H _ B h=>agc (Id i,H,Ko _,(_,y),h)
def kP{c M T}:PE j (RN (MK c) M T)%tC%IJ c:=λ_ _ _ H _ B h=>Constant_bool (IJ c,H,B,y,h)
def iT{M T}:PE j (RN Ja M T)%tC IK:=λ_ _ _ H _ B h=>agd (IK,H,B,y,h)
def cn{x M T}:PE j (RN (Iv x) M T)%tC%Iv x:=λ_ _ _ H _ B h=>Calls.Constant_str (Iv x,H,Ko _,(_,y),h)
def Gl(X:Cx)(x:ai):Ir:=X.H.ej x=J .globalImplicit
def rL(B:Ip j ν E g v)(a:Gl j L)(i:J9 L=J η)(h:υ η v) (hd:MY=ay:=by decide):aG (a7 IS IT) Jt (Je (JU L κ) IE) υ zC v:=axb N5 a (Calls.loadGlobal_global (X0 UO%_Dp B.bk) i h) hd
def kQ(B:Ip j ν E g v)(a:Gl j L)(i:J9 L=I)(A:hT L=J η)(h:υ η v) (G:L≠UI:=by decide) (hd:MY=ay:=by decide):aG (a7 IS IT) Jt (Je (JU L κ) IE) υ zC v:=by let (f,D,R):=B.mod.blt;show axb N5 a (Calls.loadGlobal_builtin (X0 UO%_Dp B.bk) i (X0 _An%D.fo B.bk) ((R L G).q A) h) hd
def mZ(a:Gl j L)(i:J9 L=J η)(r:IX ζ η)(hd:MY=ay:=by decide):PE j (JU L κ)%tC ζ:=λ_ _ _ H _ B h=>rL B a i (ζ,H,B,r,h) hd
def abp(a:Gl j L)(i:J9 L=I)(A:hT L=J η)(r:IX ζ η)(G:L≠UI:=by decide)(hd:MY=ay:=by decide):PE j (JU L κ)%tC ζ:=λ_ _ _ H _ B h=>kQ B a i A (ζ,H,B,r,h) G hd
def t2I(b C:TE)(k:Ix->Xq Ix):PQ:=λe H=>b e H λx f=>C e f λA n=>∃i M,x= Id i/\A= Id M/\k i M n
def PC(X:Cx)(f:nG)(a c:Expr)(t:TE):Ir:=∀(F:Ib Jz) (s:az) (e:St) (H:Hp) (Q:VK),Ip X F e H s->t e H Q->aG (a7 Km Kn) KM (Je a La) (λv m=>aG (a7 Km Kn) KM (Je c La) (λO u=>aG (a7 Km Kn) KM (gG f v O) (EP X F e Q) K5 u) K5 m) K5 s
theorem abq(c:Expr)(h:zR≠ .In)(R:zR≠ S!):qZ zR c=ay:=by (let p:(zR==CmpOp.In)=ay:=Io);(let Z:(zR==CmpOp.NotIn)=ay:=Io);cases c<;>simp [qZ,p,Z]
def wA(p:Ix->WA Ix)(b C:TE):TE:=λe H Q=>t2I b C (λi M n=>Q (IJ%p i M) n) e H
abbrev tLt:TE->TE->TE:=wA λi M=>aT (i<M)
abbrev abr:TE->TE->TE:=wA λi M=>aT (i=M)
abbrev aji:TE->TE->TE:=wA λi M=>!aT (i=M)
def BF{p:Ix->WA Ix}(N:PE j O R)(W:PE j ξ Ξ) (rule:∀(i M:Int) (t a:Tok) (Q:MF) (s:az),Q (MK%p i M) s->aG (a7 IS IT) Jt (gG zR (Id i t)%Id M a) Q K9 s):PC j zR O ξ%wA p R Ξ:=by intro F s b H Q B h;show bin N W B h λv a f x A n k Z m q=>?_;let (i,M,rfl,rfl,q):=q;let (t,rfl):=Z;let (g,rfl):=m;show rule i M t g _ f (IJ _,n,k,y,q)
def ajj(N:PE j O R)(W:PE j ξ Ξ):PC j .Lt O ξ%tLt R Ξ:=BF N W λ_ _ _ _ _ _ h=>lt_int h
def jF(N:PE j O R)(W:PE j ξ Ξ):PC j .Eq O ξ%abr R Ξ:=BF N W λ_ _ _ _ _ _ h=>eq_int (by rw [GF];show h)
theorem ajk(N:PE j O R)(W:PE j ξ Ξ):PC j .NotEq O ξ%aji R Ξ:=BF N W λ_ _ _ _ _ _ h=>ne_int IZ
def ajl(b:TE):TE:=λe H Q=>b e H λx M=>Q (IJ%aT (x= IK)) M
def abt(b:TE):TE:=λe H Q=>b e H λx M=>Q (IJ (!aT (x= IK))) M
def RelV.abu(r:IX ζ η):(η==fq)=aT (ζ= IK):=by cases ζ with|aV=>cases r;rfl|bl _=>cases r;rfl|int _=>let (t,rfl):=r;rfl|str _=>let (t,rfl):=r;rfl|h4 _=>let (t,rfl):=r;rfl|fC _=>let (t,rfl):=r;rfl|ref _=>cases r;rfl|ty _=>cases r;rfl
def lZ{M r}(N:PE j O R):PC j .Is O (RN Ja M r)%ajl R:=_cq (bq (N F s e H _ B h)%XD (x,f,V,g,z)) agd%is_none_gen (IJ _,f,V,_GF,z)
def pW{M r}(N:PE j O R):PC j .IsNot O (RN Ja M r)%abt R:=_cq (bq (N F s e H _ B h)%XD (x,f,V,g,z)) agd%isnot_none_gen (IJ _,f,V,_GF,z)
def tB(t:TE):TT:=λe H Q=>t e H λx M=>∃j,x= IJ j/\Q j M
def n'(h:PC j zR ξ O R)(D:qZ zR O=ay:=by first|show abq _ Il Il|rfl):PE j (UP ξ [zR] Kk κ) R:=λF s f H Q B S=>_EH (h F s f H Q B S) D
def eh(h:PC j zR ξ O R)(D:qZ zR O=ay:=by first|show abq _ Il Il|rfl):PT j (UP ξ [zR] Kk κ)%tB R:=by intro F s i H Q B S;show axc (bq (h F s i H _ B S) λv w D=>bq D λb p a=>bq a%Wd c L (x,M,V,g,z)) D;let (f,rfl,q):=z;cases g;show lJ (M,V,q)
def b9(h:PE j O R)(D:∀i,vr O IE i=(do let v←i;q0 O.pos;lK Kv (truthy v)):=by intro _;rfl):PT j O%tB R:=by intro F s a H Q B S;show isTrue_plain (bq (h F s a H _ B S)%XD (x,M,V,g,z))%D _;let (f,rfl,q):=z;cases g;show lJ (M,V,q)
def n!(t O:TT):TT:=λe H Q=>t e H%W7 j M j (O e M Q)%Q ay M
def n?(t O:TT):TT:=λe H Q=>t e H%W7 j M j (Q ag M)%O e M Q
def eA(t:TT):TT:=λe H Q=>t e H λj M=>Q (!j) M
def oa(N:PT j O zI):PW j (Pn .And Kk κ) zI:=by intro g F s f H Q B h;show isTrue_and%bq (N F s f H Q B h)%W' a w;cases a with|true=>show isTrue_and_nil e|false=>show e
def m1(N:PT j O zI):PW j (Pn .Or Kk κ) zI:=by intro g F s f H Q B h;show isTrue_or%bq (N F s f H Q B h)%W' a w;cases a with|false=>show isTrue_or_nil e|true=>show e
def ob{d:L2.TT}(N:PT j O zI)(W:PW j (Pn .And Sv κ) d):PW j (Pn .And (O::Sv) κ)%n! zI d:=_bV isTrue_and (bq (N F s e H _ B h)%WH a (M,V,z)) (W f F w e M Q V z) (M,V,z)
def m2{d:L2.TT}(N:PT j O zI)(W:PW j (Pn .Or Sv κ) d):PW j (Pn .Or (O::Sv) κ)%n? zI d:=_bV isTrue_or (bq (N F s e H _ B h)%WH a (M,V,z)) (M,V,z)%W f F w e M Q V z
def eN(N:PT j O zI):PT j (_Dq .Not O κ)%eA zI:=_ba isTrue_not%N F s e H (λa M=>Q (!a) M) B h
def abv(b C:TE):TE:=λe H Q=>b e H λx M=>∃j,x= IJ j/\Ww j (C e M Q)%Q (IJ ay) M
def ajm(b C:TE):TE:=λe H Q=>b e H λx M=>∃j,x= IJ j/\Ww j (Q (IJ ag) M)%C e M Q
def ajn(b:TE):TE:=λe H Q=>b e H λx M=>∃j,x= IJ j/\Q (IJ (!j)) M
def tN{e}(h:PE j O R):PE j (Pn e Kk κ) R:=λF s f H Q B S=>BoolOp_one%h F s f H Q B S
def abw(N:PE j O R)(W:PE j (Pn .And Sv κ) Ξ):PE j (Pn .And (O::Sv) κ)%abv R Ξ:=by intro F s e H Q B h;show BoolOp_and%bq (N F s e H _ B h)%XD (x,M,V,g,z);let (a,rfl,z):=z;cases g;show lJ ?_;cases a with|true=>show W F w e M Q V z|false=>show (IJ ay,M,V,y,z)
def BG(N:PE j O R)(W:PE j (Pn .Or Sv κ) Ξ):PE j (Pn .Or (O::Sv) κ)%ajm R Ξ:=by intro F s e H Q B h;show BoolOp_or%bq (N F s e H _ B h)%XD (x,M,V,g,z);let (a,rfl,z):=z;cases g;show lJ ?_;cases a with|false=>show W F w e M Q V z|true=>show (IJ ag,M,V,y,z)
def ajo(N:PE j O R):PE j (_Dq .Not O κ)%ajn R:=by intro F s e H Q B h;show UnaryOp_%bq (N F s e H _ B h)%XD (x,M,V,g,z);let (a,rfl,z):=z;cases g;show not_of%lJ (IJ (!a),M,V,y,z)
def tO(t:TT)(b C:TE):TE:=λe H Q=>t e H%W7 j M j (b e M Q)%C e M Q
def l0(m:PT j zU zI)(N:PE j O R)(W:PE j ξ Ξ):PE j (.IfExp zU O ξ κ)%tO zI R Ξ:=by intro F s e H Q B h;show wpAny_IfExp%bq (m F s e H _ B h)%WH f (M,V,z);cases f with|true=>show N F w e M Q V z|false=>show W F w e M Q V z
def aD(K:aE)(H:Hp)(a:aa)(L:Ib V):Ir:=Rd H a%Ig L∨ ∃(o:bb) (d:KC ah) (n:Nat),K.B a=J o/\UQ= IU JT/\o.dict=I/\QQ= NF d n/\Wo d.l/\bC L d.by
def bS(K:aE)(H:Hp)(a:aa)(L:Ib V):Ir:=Rd H a%IC L∨ ∃(o:bb) (d:KC ah) (n:Nat),K.B a=J o/\UQ= IU KN/\QQ= NF d n/\Wo d.l/\bC L d.by
def ajp:ah->Im V| .none=>J IK| .bool b=>J%IJ b| .int i _=>J%Id i| .str x _=>J%Iv x| .bytes b _=>J%.h4 b| .float b _=>J%.fC b| .ref a=>J%Ia a| .type n=>J%.ty n|_=>none
def RelV.abs(r:IX ζ η):ajp η=J ζ:=by cases ζ with|aV=>cases r;rfl|bl _=>cases r;rfl|int _=>let (t,rfl):=r;rfl|str _=>let (t,rfl):=r;rfl|h4 _=>let (t,rfl):=r;rfl|fC _=>let (t,rfl):=r;rfl|ref _=>cases r;rfl|ty _=>cases r;rfl
def RelV.inj(r:IX ζ η)(q:IX z5 η):ζ=z5:=eD%r.abs.J.q q.abs
theorem bC.inj:∀{L w:Ib V} {G:Ib ah},bC L G->bC w G->L=w|_,_,_, .nil, .nil=>y|_,_,_, .cons r t, .cons a N=>by rw [r.inj a,bC.inj t N]
def aD.of(h:g f=J%Ig α):aD r g f α:= Ik (Ik h)
def bS.of(h:g f=J%IC α):bS r g f α:= Ik (Ik h)
theorem Inv.list(B:Ip j ν E g v)(h:aD IO g f α):∃d:Ib ah,bC α d/\PlainL I7 f KU/\Su:=by rcases h with h|⟨o,d,n,a,m,hd,P,b,r⟩;{let (z,d,n,r,e):=h.ok Jl;show (d,r,(_,n,e,y,y,y),z)};{show (d.by,r,(o,n,Lq f o a,m,hd,_EI),?_);let e:=MZ;cbv}
theorem Inv.tuple(B:Ip j ν E g v)(h:bS IO g f α):∃d:Ib ah,bC α d/\jr I7 f KU/\Su:=by rcases h with h|⟨o,d,n,a,m,P,b,r⟩;{let (z,d,r,p):=h.ok Jl;lk};{show (d.by,r,(o,Lq f o a,m,n,_EI),?_);let e:=MZ;cbv}
theorem Inv.BH(B:Ip j ν E g v)(h:aD IO g f α)(C:aD IO g f z1):α=z1:=by let (d,r,(o,n,e,_,_,a),_):=Lf h;let (i,t,(Q,Z,l,_,_,D),_):=Lf C;rw [e] at l;cases l;rw [a] at D;injection D with b _;(have:d=i:=Io);subst this;show r.inj t
theorem Inv.ajq(B:Ip j ν E g v)(h:bS IO g f α)(C:bS IO g f z1):α=z1:=by let (d,r,(o,e,_,n,a),_):=L_ h;let (i,t,(Q,l,_,Z,D),_):=L_ C;rw [e] at l;cases l;rw [a] at D;injection D with b _;(have:d=i:=Io);subst this;show r.inj t
abbrev Cx.l1(X:Cx)(Z:MF):Cx:={X with xe:=Z}
abbrev Cx.wB(X:Cx):Cx:=X.l1 SA
def Cx.Ok.l1{X:Cx}(b:X.Ok)(Z:MF):(X.l1 Z).Ok:=(b.mod,b.bh,b.he,b.blt,b.ey,b.inj,b.has,b.mW,b.hd,b.ds,b.n9,b.n_,b.bs,b.jc,b.mX,b.mY,b.iq,b.kN)
def Cx.Ok.od(b:(j.l1 υ).Ok):j.Ok:=(b.mod,b.bh,b.he,b.blt,b.ey,b.inj,b.has,b.mW,b.hd,b.ds,b.n9,b.n_,b.bs,b.jc,b.mX,b.mY,b.iq,b.kN)
def Inv.l1(B:Ip j ν E g v)(Z:MF):Ip (j.l1 Z) ν E g v:=(B.ok.l1 Z,N6,M6,RM,Pm,MJ,NH,M5,NI,Jl,Pl)
def Inv.od(B:Ip (j.l1 υ) ν E g v):Ip j ν E g v:=(B.ok.od,N6,M6,RM,Pm,MJ,NH,M5,NI,Jl,Pl)
def SP.od{G:Ends}{E:Flow}{M:az}(h:SP (j.l1 υ) ν G E M):SP j ν G E M:=by cases E with|next=>let (z,d,B,q):=h;show (z,d,B.od,q)|brk=>let (z,d,B,q):=h;show (z,d,B.od,q)|cont=>let (z,d,B,q):=h;show (z,d,B.od,q)|ret O=>let (v,z,d,B,r,q):=h;show (v,z,d,B.od,r,q)
def ir.wB{st:Ib aS}{t:TS}(h:ir j.wB st t):ir j st t:=λν v E g G B S=>iK (h ν v E g G (B.l1 _) S) (WG q q.od)%YO ik z
def cx:TS:=λG c H=>N8 c H
def bz(t O:TS):TS:=λG c H=>t {G with nx:=O G} c H
def bM:ir j [] cx:=λ_ _ c H _ B h=>Ao (c,H,B,h)
def ao{t:L2.TS}{o:Ib aS}(D:PS j zA t)(R:ir j o zK):ir j (zA::o)%bz t zK:=by intro F s c H G B h;show _EJ%bq (D F s c H {G with nx:=zK G} B h)%WH E q;cases E with|next=>let (z,d,W,q):=q;show R F w z d G W q|ret v=>show q|brk=>show q|cont=>show q
def ax(D:PS j zA zK):ir j [zA] zK:=by intro F s c H G B h;show _EJ%bq (D F s c H G B h)%WH E q;cases E with|next=>show Ao q|ret v=>show q|brk=>show q|cont=>show q
theorem Inv.quiet(B:Ip j ν E g v):interactive IE=ay:=by simp [interactive,B.ok.kind]
def dq(S:TE):TS:=λG c H=>S c H%Wv M%N8 c M
def bI(D:PE j O R)(P:s_ O I QT IE=JH ay:=by rfl):PS j (.Expr O κ)%dq R:=by intro F s c H G B h;show wpAny_Expr_any (bq (D F s c H _ B h) λv w (x,M,V,g,z)=>(c,M,V,z)) B.quiet P
def bX(S:TE):TS:=λG c H=>S c H G.rt
def aI(D:PE j O R):PS j (.Return (J O) κ)%bX R:=by intro F s c H G B h;show wpAny_Return_some%bq (D F s c H _ B h) λv w (x,M,V,g,z)=>(x,c,M,V,g,z)
def ajr:TS:=λG _ H=>G.rt IK H
def ajs:PS j (.Return I κ) ajr:=λ_ _ c H _ B h=>wpAny_Return_none (IK,c,H,B,y,h)
def cc(j:TT)(t O:TS):TS:=λG c H=>j c H%W7 b M b (t G c M)%O G c M
def bA{a:L2.TS}{d b:Ib aS}(m:PT j O zI)(N:ir j d zK)(W:ir j b a):PS j (.If O d b κ)%cc zI zK a:=by intro F s c H G B h;show wpAny_If%bq (m F s c H _ B h)%WH f (M,V,z);cases f with|true=>show N F w c M G V z|false=>show W F w c M G V z
abbrev TG:=V->St->YU PQ
abbrev oe:=Ib V->St->YU PQ
def PG(X:Cx)(a:Expr)(t:TG):Ir:=∀(F:Ib Jz) (s:az) (c:St) (H:Hp) (v:V) (O:ah) (Q:PQ),Ip X F c H s->IX v O->t v c H Q->aG (a7 Km Kn) KM (s' a La O) (Wv M (∃z d,Ip X F z d M/\Q z d)) K5 s
def tP(X:Cx)(u:Ib LM)(t:oe):Ir:=∀(F:Ib Jz) (s:az) (c:St) (H:Hp) (C:Ib V) (G:Ib ah) (Q:PQ),Ip X F c H s->bC C G->t C c H Q->aG (a7 Km Kn) KM (assignInOrder ((q2 u La).o (·.2)) G) (Wv M (∃z d,Ip X F z d M/\Q z d)) K5 s
abbrev BI:=V->V->V->YU NV
def abx(X:Cx)(t:BI):Ir:=∀(F:Ib Jz) (s:az) (c:St) (H:Hp) (o i v:V) (d b O:ah) (Q:NV),Ip X F c H s->IX o d->IX i b->IX v O->t o i v H Q->aG (a7 Km Kn) KM (setItem d b O) (Wv M (∃a,Ip X F c a M/\Q a)) K5 s
abbrev wC:=V->V->J3
def PIp(X:Cx)(d:Ap)(t:wC):Ir:=_bN (Ib Jz) (Ip X F c H s) (IX x v->IX A O->t x A H Q->aG (a7 Km Kn) KM (_Dr d v O) (EP X F c Q) K5 s)
end L2
variable{zy:L2.TG}
namespace L2
open PySem PySem.Spec PyProof.Rows
def bU(i:Nat):TG:=λv c H Q=>Q (c.set i%J v) H
def cD(R:j.N.Nodup)(l:Us=J L)(N:Loc N7 L)(hf:j.fn L=ag∨P? L=J L8:=by first|show Ik y|show Iy y|assumption):PG j (JU L κ)%bU q:=by intro F s c H v O Q B r h;show _EK%BE B R l N r (λM W=>(_,H,W,h)) hf
def ajt:oe:=λC c H Q=>Wl C/\Q c H
def aju(t:TG)(O:oe):oe:=λC c H Q=>∃v r,C=v::r/\t v c H (λz d=>O r z d Q)
def l2:tP j [] ajt:=by intro F s c H C G Q B r h;let (e,h):=h;subst e;cases r;show assignInOrder_nil (c,H,B,h)
def gO{e:oe}(D:PG j O zy)(R:tP j Ω e) (P:(q2 JQ IE).o (·.2)=s' O IE::(q2 Ω IE).o (·.2):=by rfl):tP j JQ%aju zy e:=by intro F s c H C G Q B r h;let (v,d,p,h):=h;subst p;cases r with|cons r a=>rw [P];show assignInOrder_cons%bq (D F s c H _ _ _ B r h)%WH _ (b,M,V,z);show R F w b M _ _ Q V a z
def aby(K:aE)(n:Nat)(t:oe):TG:=λv c H Q=>∃a L,v= Ia a/\bS K H a L/\I0=n/\t L c H Q
theorem m3{t:oe}(m:NJ=ag)(h:tP j Ω t) (G:(q2 Ω IE).a=q:=by rfl) (i:(q2 Ω IE).fd (·.1)=I:=by rfl):PG j (Qa Ω Z κ)%aby IO q t:=by intro F s c H k O Q B r S;let (a,L,p,g,V,S):=S;subst p;cases r;let (d,f,v,E):=L_ g;show assign_Tuple_tuple (ML m) v (by simp [G,←V,f.length]) i%Wb C N;let l:Ip j F c H Sr:=RO (t':=s.toks) λb o e=>N b o (eF%cZ e) e;show h F _ c H L _ Q l (by simpa using f) S
def abz(j C:TE)(t:BI):TG:=λv c H Q=>j c H λo M=>C c M λi n=>t o i v n λf=>Q c f
def ajv{t:BI}(S:PE j O R)(l:PE j ξ Ξ)(P:abx j t) (N:∀v,s' (Qb O ξ κ) IE v=(do let d←lK Kv (Je O IE);let b←lK [v,d] (Je ξ IE);q0 κ;lK [v,d,b] (setItem d b v);release [v,d,b] []):=by intro _;rfl):PG j (Qb O ξ κ)%abz R Ξ t:=by intro F s c H v i Q B r h;rw [N];show aw%js%bq (S F s c H _ B h)%WH d (x,M,V,g,z);show aw%js%bq (l F w c M _ V z)%XW b (A,n,k,e,m);show aw%vt%aw%js%bq (P F p c n x A v d b i _ k g e r m)%Wd _ L (f,q,a);show wpAny_release (c,f,q,a)
def b?(S:TE)(g:TG):TS:=λG c H=>S c H λx M=>g x c M N8
def ajw(D:PE j ξ R)(e:PG j O zy)(P:swapsWithSole Kk ξ QT IE=JH ay:=by rfl)(a:swappedStores Kk ξ IE=JH I:=by rfl) (b:(q2 Kk IE).o (·.2)= [s' O IE]:=by rfl):PS j (_Ao Kk ξ κ)%b? R zy:=by intro F s c H G B h;show wpAny_Assign_stores (bq (D F s c H _ B h)%XD (x,M,V,d,z)) P a;rw [b];show bq (e F w c M x v _ V d z)%Xp p q q
def ba(a:j.N.Nodup)(l:Us=J L)(N:Loc N7 L)(D:PE j O R)(P:s_ O (J%JU L zj) QT IE=JH ay:=by rfl)(hf:j.fn L=ag∨P? L=J L8:=by first|show Ik y|show Iy y|assumption): PS j (_Ao [JU L zj] O κ) (b? R%bU q):=by intro F s c H G B h;show wpAny_Assign_Name (bq (D F s c H _ B h)%XD (A,M,V,g,z)) P;show BE V a l N g (λp k=>(_,M,k,z)) hf
def abA(i:Nat)(S:TE)(C:wC):TS:=λG c H=>∃x,Wg c=J%J x/\S c H (λA M=>C x A M λz n=>N8 (c.set i%J z) n)
theorem m4{d:Ap}{C:wC}(e:j.N.Nodup)(l:Us=J L)(N:Loc N7 L)(D:PE j O R)(f:PIp j d C)(hf:j.fn L=ag∨P? L=J L8:=by first|show Ik y|show Iy y|assumption): PS j (.AugAssign (JU L zj) d O κ) (abA q R C):=by intro F s c H G B h;let (v,p,h):=h;let (ζ,o,V):=B.loc;(let t:rK N7 L:=by rcases N with k|k;show Ik k;show Iy%Ik k);let (b,r,E):=V q L v l p t;show wpAny_AugAssign_Name ?_;(let a:aG (a7 IS IT) Jt (Je O IE) (λw u=>aG (a7 IS IT) Jt (_Dr d b w) (λr Q=>aG (a7 IS IT) Jt (_Dn IE L r) (Wx%SP j F G .next) K9 Q) K9 u) K9 s:=by show bq (D F s c H _ B h)%Wd w W (A,M,Z,α,z);show bq (f F W c M v A b w _ Z r α z)%Wd η θ (ι,n,β,P,γ);show BE β e l N P (λx i=>(_,n,i,γ)) hf);rcases E with ⟨g,δ⟩|⟨g,S,m,ε⟩;{show _EF N5 g o δ a};{rcases g with g|g;{show _EG N5 g m ε a};{rcases N with k|k;{have:P? L=J K4:=g;cbv};{have:P? L=J K4:=g;cbv}}}
def ipI(E:Ix->Ix->Ix):wC:=λx A H Q=>∃i M,x= Id i/\A= Id M/\Q (Id%E i M) H
def m5:PIp j S?%ipI (λi M=>i+M):=by intro F s c H x A v O Q B g P h;let (i,M,p,Z,q):=h;subst p;subst Z;let (t,rfl):=g;let (N,rfl):=P;show axd (Id _,H,Ko _,(_,y),q)
def ajx(j:TT)(C:TS):TS:=λG c H=>∃W:Ng,(∃m,W m c H)/\∀m c H,W m c H->j c H%W7 b M b (∃N:PQ,(∀z d,N z d->∃Z,Z<m/\W Z z d)/\C {G with nx:=N,ct:=N,bk:=N8} c M)%N8 c M
theorem iU{D:Ib aS}(d:GG (a7 IS IT) Jt IE K9)(m:PT j O zI)(x:ir j D zK):PS j (.While O D [] κ)%ajx zI zK:=by intro F s c H G B h;let (W,(A,Q),turn):=h;show wpAny_While%codeAny_whileLoop (λn S=>∃z r,Ip j F z r S/\W n z r) ?_ A (c,H,B,Q);rintro n w ⟨o,M,V,g⟩;show s? d%bq (m F w o M _ V%turn n o M g)%XW b (t,k,i);cases b with|true=>(let (N,R,i):=i;rw [aA y];show s? d%bq (x F p o t _ k i)%Wd E L a;cases E with|next=>let (e,f,q,P):=a;lk|cont=>let (e,f,q,P):=a;lk|brk=>show a|ret v=>show a)|false=>rw [au eT];show Ao (o,t,k,i)
structure It where
 go:O7
 iu:Iu->Hp->Xq V
 stop:O7
def kR(X:Cx)(F:Ib Jz)(H:Hp)(b:aa):Ir:=H b=I/\WY S5/\WR X.fs/\(b∈X.ex∨_Bo<=b)/\(∀x j,RH x=J j->Xg j)/\∀p∈X.pn++F,Xg KB
def Inv.pY(B:Ip j ν E G v)(W:II<=f)(b:g f=I):kR j ν g f:=by show (b,o'%ib B.lt W,B.ajg W, Iy%d8 B.sz W,Wj x c e z,X' p a);{let (d,q):=MJ x c e;show a' (ib q.lt _EL)%lH _};{show a' (ib (cZ (NI p a).1) _EL)%lH _}
structure m6(P:aP)(w:World)(K:aE)(A:Expr)(t:It)(a:Ib aa)(e:aa)(V:Y' Iu):Ir where
 mem:e∈a
 obj:∀i h,V i h->∀b∈a,∃o,Kw b=J o/\∀v,QQ≠ Kx v
 keep:∀i h C,V i h->(ZG (∀o,Kw b=J o->Nk b=J o))->V i C
 item:∀(X:Cx),Km=P->Kn=w->X.K=K->X.e9=ag->_b2 (Ib Jz) (Ip X F c H s->(ZG%kR X F H b)->V i Lp->t.go i H->
  aG (a7 P w) KM (fS%Ia e) (λr f=>∃O,r=J O/\
   aG (a7 P w) KM (GH A (Ia e) O) (Wv p (∃x d,Ip X F c d p/\IX x O/\t.iu i H x d/\V (i+1) p.j/\∀b∈a,d b=I)) Z f) Z s)
 done:∀(X:Cx),Km=P->Kn=w->X.K=K->X.e9=ag->_b2 (Ib Jz) (Ip X F c H s->(ZG%kR X F H b)->V i Lp->t.f1 i H->
  aG (a7 P w) KM (fS%Ia e) (λr f=>r=I/\Ip X F c H f) Z s)
 self:∀(T:cC) (i:Nat) (s:az) (Q:MF) (Z:MF),V i Lp->Q (Ia e) s->aG (a7 P w) T (mB%Ia e) Q Z s
abbrev TI:=St->YU Rl
def tQ(X:Cx)(F:Ib Jz)(c:St)(A:Expr)(R:Rl)(f:ah)(p:az):Ir:=∃(e:aa) (a:Ib aa) (V:Y' Iu) (t:It) (d:Hp),f= Ia e/\Ip X F c d p/\m6 Km Kn X.K A t a e V/\V 0 p.j/\(ZG%kR X F d b)/\R t d
def PI(X:Cx)(A iter:Expr)(w:TI):Ir:=∀(F:Ib Jz) (s:az) (c:St) (H:Hp) (R:Rl),Ip X F c H s->w c H R->aG (a7 Km Kn) KM (Je Pf La) (λv a=>aG (a7 Km Kn) KM (mB v) (tQ X F c A R) K5 a) K5 s
def wD{u:Model}{Q:V8}(S:Ji f=J ze)(m:ze.cls= IU zN)(hd:M7= S3 zb) (G: [KW,"zip",Ta,_EM,_EN,_EO,_EP].ei zN=ay) (c:Q () v):aG u μ (GH O (Ia f) η) Q υ v:=by unfold GH;cases O<;>first|show aZ c|(cases η<;>first|show aZ c|(show aw%wpAny_load S ?_;rw [m,hd];change aG u μ (WW ([KW,"zip",Ta,_EM,_EN,_EO,_EP].ei zN && zb[0]?==J%e9 _)) Q υ v;rw [au (by intro h;rw [G,agf] at h;cases h)];show aZ c))
def m7(K:aE)(a:aa):It:=(λi H=>∃L x,aD K H a L/\Pa=J x,λi H x d=>d=H/\∀L,aD K H a L->Pa=J x,λi H=>∃L,aD K H a L/\I0<=i)
def og(K:aE)(a:aa):It:=(λi H=>∃L x,bS K H a L/\Pa=J x,λi H x d=>d=H/\∀L,bS K H a L->Pa=J x,λi H=>∃L,bS K H a L/\I0<=i)
def l3(lo:Int)(n:Nat):It:=(λi _=>i<n,λi H x d=>d=H/\x= Id (lo+i),λi _=>n<=i)
theorem ajy(a g:aa):m6 l p r O (m7 r a) [g] g (λi h=>h.d9 g a i) where
 mem:=Ii
 obj:=λi h st b W=>by
  let e:b=g:=Nj
  subst e
  let (o,e,M,f):=st
  simp_all
 keep:=λi h C st k=>st.at λo e=>k g Ii o e
 item:=by
  intro X G S R m i F s c H Z B hf st j
  subst G S R
  let (L,x,n,N):=j
  let (d,v,w,E):=Lf n
  let (α,t,β):=v.get N
  let (q,z,γ,A,Q,D):=hf g Ii
  show wpAny_pyNext_list_item st w.cj (x:=α) _EQ%Wd C T δ
  let V:Ip X F c H Sr:=Yr (λb o W e=>(δ.2 b W).q e) q z A Q D
  let (o,e,M,f):=id T
  show (α,y,wD (v:=Sr) e M f Il (x,H,V,β,(y,_az ζ u%B.BH u n),T,XZ b W%hf b W))
 done:=by
  intro X G S R m i F s c H Z B hf st j
  subst G S R
  let (L,n,N):=j
  let (d,v,w,E):=Lf n
  let (q,z,γ,A,Q,D):=hf g Ii
  let η:=Nm
  show wpAny_pyNext_list_end (ML m) st w.cj _Bt λC ε=>(y,Yr (λb o W e=>ε b o W e) q z A Q D)
 self:=λ_ _ _ _ _ st h=>wpAny_pyIter_listiter st h
theorem ajz(a g:aa):m6 l p r O (og r a) [g] g (λi h=>h.IsTupleIter g a i) where
 mem:=Ii
 obj:=λi h st b W=>by
  let e:b=g:=Nj
  subst e
  let (o,e,M,f):=st
  simp_all
 keep:=λi h C st k=>st.at λo e=>k g Ii o e
 item:=by
  intro X G S R m i F s c H Z B hf st j
  subst G S R
  let (L,x,n,N):=j
  let (d,v,w,E):=L_ n
  let (α,t,β):=v.get N
  let (q,z,γ,A,Q,D):=hf g Ii
  show wpAny_pyNext_tuple_item st (show s.j.IsTuple a KU from w) (x:=α) _EQ%Wd C T δ
  let V:Ip X F c H Sr:=Yr (λb o W e=>(δ.2 b W).q e) q z A Q D
  let (o,e,M,f):=id T
  show (α,y,wD (v:=Sr) e M f Il (x,H,V,β,(y,_az ζ u%B.ajq u n),T,XZ b W%hf b W))
 done:=by
  intro X G S R m i F s c H Z B hf st j
  subst G S R
  let (L,n,N):=j
  let (d,v,w,E):=L_ n
  let (q,z,γ,A,Q,D):=hf g Ii
  let η:=Nm
  show wpAny_pyNext_tuple_end (ML m) st (show s.j.IsTuple a KU from w) _Bt λC ε=>(y,Yr (λb o W e=>ε b o W e) q z A Q D)
 self:=λ_ _ _ _ _ st h=>wpAny_pyIter_tupleiter st h
theorem ajA(a:aa)(lo:Int)(n:Nat):m6 l p r O (l3 lo n) [a] a (λi h=>IsRangeIter h a (lo+K8*1) (OH - K8) 1) where
 mem:=Ii
 obj:=λi h st b d=>by
  simp_all
 keep:=λi h C st k=>k a Ii _ st
 item:=by
  intro X G S R m i F s c H Z B hf st j
  subst G S R
  let (q,f,E,u,Q,D):=hf a Ii
  let W:=Walks.range (prog:=X.prog) (w:=X.w) (ML m) a lo 1 n
  show W.item i s _ _ j st%WM v C tk g T w
  let (t,rfl):=g
  let V:Ip X F c H (_ci C):=_ER (λb o d e=>w b o _ES e) q f u Q D
  show (_,y,wD (v:=_ci C) (zN:="range_iterator") T y y Il (Id (lo+i),H,V,Wt t,(y,y),T,XZ b d%hf b d))
  rw [Int.mul_one]
 done:=by
  intro X G S R m i F s c H Z B hf st j
  subst G S R
  let (q,f,E,u,Q,D):=hf a Ii
  show wpAny_pyNext_range_end (ML m) st (by have:n<=i:=j;omega) λC x=>(y,Yr (λb o d e=>x b o d e) q f u Q D)
 self:=λ_ _ _ _ _ st h=>wpAny_pyIter_rangeiter st h
def tR(K:aE)(tl:TE):TI:=λc H R=>tl c H λx M=>∃a,x= Ia a/\(∃L,aD K M a L)/\R (m7 K a) M
def abB(K:aE)(tl:TE):TI:=λc H R=>tl c H λx M=>∃a,x= Ia a/\(∃L,bS K M a L)/\R (og K a) M
theorem et(i:PE j ξ R):PI j O ξ%tR IO R:=by intro F s c H k B h;show bq (i F s c H _ B h)%XD (x,M,V,g,z);let (a,e,(L,n),q):=z;subst e;cases g;let (d,f,p,E):=V.dl n;show vu p.cj ?_;show (Ky, [Ky],_,_,M,y,_aa λb o e=>dz _ e,ajy a _,(_,ep _ y,y,y),OE,q);(let e:b=Ky:=Nj);subst e;show V.pY (bj _)%QU%bj _
theorem BJ(i:PE j ξ R):PI j O ξ%abB IO R:=by intro F s c H k B h;show bq (i F s c H _ B h)%XD (x,M,V,g,z);let (a,e,(L,n),q):=z;subst e;cases g;let (d,f,p,E):=V.dj n;show wpAny_pyIter_tuple (show w.j.IsTuple a KU from p) ?_;show (Ky, [Ky],_,_,M,y,_aa λb o e=>dz _ e,ajz a _,(_,ep _ y,y,y),OE,q);(let e:b=Ky:=Nj);subst e;show V.pY (bj _)%QU%bj _
theorem ajB{R:Rl}{c h:Tok}(B:Ip j ν E g v)(D:-SE<=γ)(a:γ<SE)(d:-SE<=zu)(T:zu<SE) (i:R (l3 γ (zu - γ).L) g):aG (a7 IS IT) Jt (mB%Ia II) (tQ j ν E O R) υ%Zj%Jw%WN OO #[Id γ zV, Id zu c, Id 1 h]:=by show wpAny_pyIter_range (IsRange.new ..) (small_one D a d T) ?_;let V:Ip j ν E g (Zj%Jw%WN OO #[Id γ zV, Id zu c, Id 1 h]):=RO λb o e=>dz _ e;show ((Jw%WN OO #[Id γ zV, Id zu c, Id 1 h]).cw, [(Jw%WN OO #[Id γ zV, Id zu c, Id 1 h]).cw],_,_,g,y,_Ds (t':=q) λb o e=>dz _ e,ajA _ γ (zu - γ).L,?_,OE,i);{(let p:γ+Wc 0*1=γ:=Ii);(let f:Wc (zu - γ).L - Wc 0=Builtin.Range.rangeSize γ zu 1:=by rw [rangeSize_one];split<;>lia);change IsRangeIter _ _ (γ+Wc 0*1) (Wc (zu - γ).L - Wc 0) 1;rw [p,f];show ep _ y};{(let e:b=(Jw%WN OO #[Id γ zV, Id zu c, Id 1 h]).cw:=Nj);subst e;show V.pY (bj _)%QU%bj _}
def wF(a:TA):TI:=λc H R=>a c H λC b=>∃M:Int,C= [Id M]/\-SE<=M/\M<SE/\R (l3 0 M.L) b
theorem BK(a:Gl j OO)(i:J9 OO=I)(N:PA j SX zo)(P:cK SX IE= [ZZ ξ]:=by rfl):PI j O (J0 (JU OO zj) SX [] κ)%wF zo:=by intro F s c H R B h;show Call_%kQ B a i boot_range%vv (bq (N κ F s c H _ B h)%WH G (C,M,V,g,z)) P y;let (f,e,z,b,q):=z;subst e;cases g with|cons r d=>cases d;let (t,rfl):=r;show call_range_1%ajB V Ih Ih z b _Es
def BL(w:TI)(g:TG)(C:TS):TS:=λG c H=>w c H λt M=>∃W:Iu->Ng,(∃m,W 0 m c M)/\∀i m c H,W i m c H->(t.f1 i H/\N8 c H)∨(t.go i H/\YW (∀z d,N z d->∃Z,Z<m/\W (i+1) Z z d) (t.iu i H x d->g x c d (λr n=>C {G with nx:=N,ct:=N,bk:=N8} r n)))
def tS(a:Ib aa)(h:aO):Ib Jz:=a.d7 λb=>(Kw b).o%Xa o b o
def BM(W:f∈zl)(e:Le f=J ze):(f,ze,)∈tS zl A:=_Bd (f,W,_Dh)
theorem ajC{p:Jz}(d:p∈tS zl A):KB∈zl/\Le KB=J L3:=by let (b,W,e):=lD.R d;cases q:A.E b with|none=>cbv|some o=>lk
theorem Inv.pinned(B:Ip j ν E g v)(hf:∀b∈zl,kR j ν g b)(S:∀b∈zl,∃o,Ji b=J o/\∀a,QQ≠ Kx a):Ip j (ν++tS zl I7) E g v:=B.abm λp d=>(d7.R d).al (λz=>NI p%lG _ z) (λz=>by let (W,e):=ajC z;let (q,O,c,_):=hf KB W;lk)
def Inv.wG{W:Ib Jz}(B:Ip j (ν++W) E g v):Ip j ν E g v:=B.abm λp d=>NI p%lG _%sX _ d
def eB{D:Ib aS}{w:TI}(γ:GG (a7 IS IT) Jt IE K9)(m:NJ=ag)(l:PI j O ξ w)(C:PG j O zy)(α:ir j D zK) (P:∀x,GI ξ IE x=JH x:=by intro _;rfl):PS j (.For O ξ D [] κ)%BL w zy zK:=by intro F s g H zl B ρ;show wpAny_For (bq (l F s g H _ B ρ) λv zm σ=>bq σ%XW zn R) P;let (zo,δ,V,t,τ,e,k,u,gP,E,W,(υ,φ),turn):=R;subst e;let η:∀{d:Hp},(∀b∈δ,d b=I)->∀b∈δ,kR j F d b:=λG b α=>(G b α,(E b α).2);show codeAny_forLoop_any (λn M=>∃i z d,Ip j F z d M/\V i M.j/\(∀b∈δ,d b=I)/\W i n z d) ?_ υ (0,g,τ,k,gP,XZ b α%E b α,φ);rintro n μ ⟨i,ε,f,q,oh,ν,χ⟩;rcases turn i n ε f χ with ⟨ψ,ω⟩|⟨Γ,N,Δ,step⟩;{show s? γ%bq (u.done j y y y m i F μ ε f K9 q (η ν) oh ψ)%Wd r Θ (L,Q);subst L;show Ao (ε,f,Q,ω)};{show s? γ%bq (u.item j y y y m i F μ ε f K9 q (η ν) oh Γ)%Wd r Θ (T,L,Ξ);subst L;show s? γ%bq Ξ%Wd _ A (x,ο,S,Φ,Ψ,θ,Ω);let za:=S.pinned (η Ω)%_Ap _ _ θ;show s? γ%bq (C _ A ε ο x T _ za Φ%Mv x ο Ψ)%Wd _ zb (zc,zd,ze,zf);show s? γ%bq (α _ zb zc zd _ ze zf)%Wd zg ι β;(let again:∀{a:St} {c:Hp},Ip j (F++tS δ A.j) a c ι->N a c->∃π,π<n/\∃i z d,Ip j F z d ι/\V i ι.j/\(∀b∈δ,d b=I)/\W i π z d:=λ{a c} h ζ=>by let (Z,zh,zi):=Δ a c ζ;show (Z,zh,i+1,a,c,h.wG,u.ad _ _ _ θ λb α o e=>(h.pin (b,o,)%lG _%lG _%BM α e).1,XO α,zi);let (o,e,zp):=_Ap _ _ θ b α;show (h.pin (b,o,)%lG _%lG _%BM α e).2.1);cases zg with|next=>let (a,c,h,ζ):=β;show _Aq h ζ|cont=>let (a,c,h,ζ):=β;show _Aq h ζ|brk=>let (a,c,h,β):=β;show (a,c,h.wG,β)|ret v=>let (zj,a,c,h,zk,β):=β;show (zj,a,c,h.wG,zk,β)}
theorem hx(Pv:Ng)(F:Pv 0 E g)(b:∀i E g,i<=I8->Pv i E g->aD r g f α) (P:∀i x E g,PR=J x->Pv i E g->zy x E g (λa n=>zK (Xy (Pv (i+1))%Pv (i+1)) a n)) (hd:∀E g,Pv I8 E g->MM E g): ∃W:Iu->Ng,Y7 (∃m,W 0 m E g) (W i m E g->((m7 r f).f1 i g/\MM E g)∨((m7 r f).go i g/\YW (∀z d,N z d->∃Z,Z<m/\W (i+1) Z z d) ((m7 r f).iu i g x d->zy x E d (λa n=>zK (Xy N N) a n)))):=by show (λi m E g=>m=XM i/\i<=I8/\Pv i E g,(I8,Ii,cj _,F),?_);rintro i m E g ⟨rfl,l,p⟩;let q:=b i E g l p;by_cases t:i<I8;{show Iy ((α,α[i],q,Tb),Pv (i+1),WP z Q (XM (i+1),Ih,y,t,Q),P0);let (e,A):=A;lk};{(let e:i=I8:=Ih);subst e;show Ik ((α,q,bj _),hd E g p)}
theorem ajD(Pv:Ng)(F:Pv 0 E g)(b:∀i E g,i<=I8->Pv i E g->bS r g f α) (P:∀i x E g,PR=J x->Pv i E g->zy x E g (λa n=>zK (Xy (Pv (i+1))%Pv (i+1)) a n)) (hd:∀E g,Pv I8 E g->MM E g): ∃W:Iu->Ng,Y7 (∃m,W 0 m E g) (W i m E g->((og r f).f1 i g/\MM E g)∨((og r f).go i g/\YW (∀z d,N z d->∃Z,Z<m/\W (i+1) Z z d) ((og r f).iu i g x d->zy x E d (λa n=>zK (Xy N N) a n)))):=by show (λi m E g=>m=XM i/\i<=I8/\Pv i E g,(I8,Ii,cj _,F),?_);rintro i m E g ⟨rfl,l,p⟩;let q:=b i E g l p;by_cases t:i<I8;{show Iy ((α,α[i],q,Tb),Pv (i+1),WP z Q (XM (i+1),Ih,y,t,Q),P0);let (e,A):=A;lk};{(let e:i=I8:=Ih);subst e;show Ik ((α,q,bj _),hd E g p)}
theorem abC(Pv:Ng)(F:Pv 0 E g) (P:∀i E g,i<q->Pv i E g->zy (Id (γ+i)) E g (λr a=>zK (Xy (Pv (i+1))%Pv (i+1)) r a)) (hd:∀E g,Pv q E g->MM E g): ∃W:Iu->Ng,Y7 (∃m,W 0 m E g) (W i m E g->((l3 γ q).f1 i g/\MM E g)∨((l3 γ q).go i g/\YW (∀z d,N z d->∃Z,Z<m/\W (i+1) Z z d) ((l3 γ q).iu i g x d->zy x E d (λr a=>zK (Xy N N) r a)))):=by show (λi m E g=>m=q - i/\i<=q/\Pv i E g,(q,Ii,cj _,F),?_);rintro i m E g ⟨rfl,l,p⟩;by_cases t:i<q;{show Iy (t,Pv (i+1),WP z Q (q - (i+1),Ih,y,t,Q),P0);let (e,A):=A;cbv};{(let e:i=q:=Ih);subst e;show Ik (bj _,hd E g p)}
abbrev R2:=V->V->J3
def eO(X:Cx)(E:ah->ah->gF ah)(r:R2):Ir:=_bN (Ib Jz) (Ip X F c H s) (IX x v->IX A O->r x A H Q->aG (a7 Km Kn) KM (E v O) (EP X F c Q) K5 s)
def BN(X:Cx)(E:ah->gF ah)(r:V->J3):Ir:=∀(F:Ib Jz) (s:az) (c:St) (H:Hp) (x:V) (v:ah) (Q:VK),Ip X F c H s->IX x v->r x H Q->aG (a7 Km Kn) KM (E v) (EP X F c Q) K5 s
def jG(X:Cx)(E:ah)(r:Ib V->J3):Ir:=∀(F:Ib Jz) (s:az) (c:St) (H:Hp) (L:Ib V) (G:Ib ah) (Q:VK),Ip X F c H s->bC L G->r L H Q->aG (a7 Km Kn) KM (fU E G) (EP X F c Q) K5 s
def ajE(X:Cx)(r:V->YU Sw):Ir:=∀(F:Ib Jz) (s:az) (c:St) (H:Hp) (x:V) (v:ah) (Q:Sw),Ip X F c H s->IX x v->r x H Q->aG (a7 Km Kn) KM (truthy v) (TP X F c Q) K5 s
def cR(r:R2)(R C:TE):TE:=λc H Q=>R c H λx M=>C c M λA n=>r x A n Q
def tUn(r:V->J3)(R:TE):TE:=λc H Q=>R c H λx M=>r x M Q
def rI(f:WF Ix Ix)(g:Ix->Ix->V):R2:=λx A H Q=>∃i M,x= Id i/\A= Id M/\f i M/\Q (g i M) H
def jH(g:Ix->Ix->V):R2:=λx A H Q=>∃i M,x= Id i/\A= Id M/\Q (g i M) H
def rU(g:Ix->V):V->J3:=λx H Q=>∃i,x= Id i/\Q (g i) H
end L2
variable{z7:L2.R2}
namespace L2
open PySem PySem.Spec PyProof.Rows
theorem BO(N:PE j O R)(W:PE j ξ Ξ){c:V->Xq V}(B:Ip j ν E g v) (h:R E g λx M=>Ξ E M λA n=>c x A n)  {d:ah->ah->gF ah} (hf:∀a b p x A n,Ip j ν E n p->IX x a->IX A b->c x A n->aG (a7 IS IT) Jt (d a b) υ K9 p): aG (a7 IS IT) Jt (Je O IE) (λa m=>aG (a7 IS IT) Jt (Je ξ IE) (λb u=>aG (a7 IS IT) Jt (d a b) υ K9 u) K9 m) K9 v:=by show bq (N ν v E g _ B h)%WH a (x,M,e,i,z);show bq (W ν w E M _ e z)%XW b (A,n,k,P,f);lk
def d?{d:Ap}(S:eO j (nH d) z7)(N:PE j O R)(W:PE j ξ Ξ):PE j (.BinOp O d ξ κ)%cR z7 R Ξ:=_ba wpAny_BinOp%BO N W B h λv a p x A n k Z m q=>S F p e n x A v a Q k Z m q
def wH{d:UnaryOp}{r:V->J3}(S:BN j (unaryOp d) r)(N:PE j O R):PE j (_Dq d O κ)%tUn r R:=_ba UnaryOp_%bq (N F s e H _ B h) λv w (x,M,f,g,z)=>S F w e M x v Q f g z
def BP{E:ah->ah->gF ah}{f:WF Ix Ix}{g:Ix->Ix->Ix} (rule:_aW MF ah _C7 (f i M->Q (Id (g i M) M8) {s with toks:=M8+1}->aG (a7 IS IT) Jt (E (Id i t)%Id M O) Q Z s)): eO j E (rI f%W3 i M Id%g i M):=by intro F s k H x A v O Q B d m h;let (i,M,rfl,rfl,e,q):=h;let (t,rfl):=d;let (N,rfl):=m;show rule i M t N s _ _ e (Id%g i M,H,Ko _,(_,y),q)
def abD{E:ah->ah->gF ah}{g:Ix->Ix->Ix} (rule:_aW MF ah _C7 (Q (Id (g i M) M8) {s with toks:=M8+1}->aG (a7 IS IT) Jt (E (Id i t)%Id M O) Q Z s)): eO j E (jH%W3 i M Id%g i M):=by intro F s e H x A v O Q B d m h;let (i,M,rfl,rfl,q):=h;let (t,rfl):=d;let (N,rfl):=m;show rule i M t N s _ _ (Id%g i M,H,Ko _,(_,y),q)
def wI{E:ah->ah->gF ah}{g:Ix->WA Ix} (rule:_aW MF ah _C7 (Q (MK%g i M) s->aG (a7 IS IT) Jt (E (Id i t)%Id M O) Q Z s)): eO j E (jH%W3 i M IJ%g i M):=by intro F s e H x A v O Q B d m h;let (i,M,rfl,rfl,q):=h;let (t,rfl):=d;let (N,rfl):=m;show rule i M t N s _ _ (IJ%g i M,H,B,y,q)
def BQ(i M:Int):Ir:=(-(ZE 64)<i/\i<ZE 64)∨(-(ZE 64)<M/\M<ZE 64)
def BQ.ok(h:BQ γ zu):IntMulOk γ zu:=by rcases h with ⟨D,R⟩|⟨D,R⟩;{show .of_left%intBits_le_64 D R};{show .of_right%intBits_le_64 D R}
def jd:eO j (nH S?)%jH%W3 i M Id (i+M):=abD λ_ _ _ _ _ _ _ q=>add_int q
def kS:eO j (nH .Sub)%jH%W3 i M Id (i - M):=abD λ_ _ _ _ _ _ _ q=>sub_int q
def abE:eO j (nH .Mult)%rI BQ%W3 i M Id (i*M):=BP λ_ _ _ _ _ _ _ m q=>mul_int q m.ok
def ajF:eO j (nH .Mod)%rI (Wv M (M≠0))%W3 i M Id%i.g4 M:=BP λ_ _ _ _ _ _ _ m q=>mod_int' m q
def unI{E:ah->gF ah}{g:Ix->Ix} (rule:∀(i:Int) (t:Tok) (s:az) (Q:MF) (Z:MF),Q (Id (g i) M8) {s with toks:=M8+1}->aG (a7 IS IT) Jt (E%Id i t) Q Z s): BN j E (rU λi=> Id%g i):=by intro F s e H x v Q B d h;let (i,rfl,q):=h;let (t,rfl):=d;show rule i t s _ _ (Id%g i,H,Ko _,(_,y),q)
def wJ:BN j (unaryOp .USub)%rU (λi=> Id (-i)):=unI λ_ _ _ _ _ q=>neg_int q
def ajG:V->WA V| .aV, .aV=>true| .aV, .int _=>true| .int _, .aV=>true| .aV, .bl _=>true| .bl _, .aV=>true| .aV, .str _=>true| .str _, .aV=>true| .int _, .int _=>true| .bl _, .bl _=>true| .str _, .str _=>true| .h4 _, .h4 _=>true| .int _, .str _=>true| .str _, .int _=>true| .bl _, .str _=>true| .str _, .bl _=>true|_,_=>false
def rEq:R2:=λx A H Q=>ajG x A=ag/\Q (IJ%aT (x=A)) H
theorem tT:aT (Iz γ=Iz zu)=(γ==zu):=_Dt
theorem ajH{M:Bool}:aT (M9 zc=M9 M)=(zc==M):=_Dt
theorem BR:aT (Ki L=Ki zD)=(L==zD):=_Dt
theorem ajI{i M:KC UInt8}:aT (V.h4 i=V.h4 M)=(i.by==M.by):=by rw [e_];cbv
def iV{a:Bool}(B:Ip j ν E g v)(q:ε (IJ zc) g)(e:zc=a):EP j ν E ε (MK a) v:=by subst e;show (IJ zc,g,B,y,q)
theorem kT:eO j (gG .Eq) rEq:=by intro F s c H x A v O Q B Z m h;let (P,q):=h;cases x with|aV=>(cases Z;cases A with|aV=>cases m;show PySem.hm.eq_none_none%iV B q Ii|bl M=>cases m;show PySem.hm.eq_none_bool%iV B q Ii|int M=>let (N,rfl):=m;show PySem.hm.eq_none_int%iV B q Ii|str M=>let (N,rfl):=m;show PySem.hm.eq_none_str%iV B q Ii|_=>show a' (ZT ay ag) eT)|bl i=>(cases Z;cases A with|aV=>cases m;show PySem.hm.eq_bool_none%iV B q Ii|bl M=>cases m;show eq_bool%iV B q ajH|str M=>let (N,rfl):=m;show PySem.EqMixed.eq_bool_str%iV B q Ii|_=>show a' (ZT ay ag) eT)|int i=>(let (t,rfl):=Z;cases A with|aV=>cases m;show PySem.hm.eq_int_none%iV B q Ii|int M=>let (N,rfl):=m;show eq_int%iV B q tT|str M=>let (N,rfl):=m;show PySem.EqMixed.eq_int_str%iV B q Ii|_=>show a' (ZT ay ag) eT)|str i=>(let (t,rfl):=Z;cases A with|aV=>cases m;show PySem.hm.eq_str_none%iV B q Ii|bl M=>cases m;show PySem.EqMixed.eq_str_bool%iV B q Ii|int M=>let (N,rfl):=m;show PySem.EqMixed.eq_str_int%iV B q Ii|str M=>let (N,rfl):=m;show eq_str%iV B q BR|_=>show a' (ZT ay ag) eT)|h4 i=>(let (t,rfl):=Z;cases A with|h4 M=>let (N,rfl):=m;show PySem.W.eq_bytes%iV B q ajI|_=>show a' (ZT ay ag) eT)|_=>cases A<;>show a' (ZT ay ag) eT
def kU:eO j (gG .Lt)%jH%W3 i M IJ%aT (i<M):=wI λ_ _ _ _ _ _ _ q=>lt_int q
def gQ:eO j (gG .LtE)%jH%W3 i M IJ%aT (i<=M):=wI λ_ _ _ _ _ _ _ q=>le_int q
def ka:eO j (gG .Gt)%jH%W3 i M IJ%aT (M<i):=wI λ_ _ _ _ _ _ _ q=>gt_int q
def ajJ:eO j (gG .GtE)%jH%W3 i M IJ%aT (M<=i):=wI λ_ _ _ _ _ _ _ q=>ge_int q
theorem c'(b:Expr)(h:zR≠ .In:=by decide)(c:zR≠ S!:=by decide):qZ zR b=ay:=by (let p:(zR==CmpOp.In)=ay:=Io);(let Z:(zR==CmpOp.NotIn)=ay:=Io);cases b<;>simp [qZ,p,Z]
def gT(S:eO j (gG zR) z7)(N:PE j ξ R)(W:PE j O Ξ)(i:qZ zR O=ay):PE j (UP ξ [zR] Kk κ)%cR z7 R Ξ:=_cd _EH (BO N W B h λv a p x A n k Z m q=>S F p c n x A v a Q k Z m q) i
def hy(t:TE):TT:=λc H Q=>t c H λx d=>∃k,x= IJ k/\Q k d
def d4(S:eO j (gG zR) z7)(N:PE j ξ R)(W:PE j O Ξ)(i:qZ zR O=ay):PT j (UP ξ [zR] Kk κ)%hy%cR z7 R Ξ:=by intro F s c H Q B h;show axc (bq (N F s c H _ B h) λv w (x,M,V,g,z)=>bq (W F w c M _ V z) λa p (A,n,k,P,m)=>bq (S F p c n x A v a _ k g P m)%Wd zU L (t,f,q,D,u,e,o)) i;subst e;cases D;show lJ (f,q,o)
def wK(r t:R2)(R C l:TE):TE:=λc H Q=>R c H λx M=>C c M λA n=>r x A n λz f=>∃k,z= IJ k/\(Ww k (l c f λo E=>t A o E Q)%Q (IJ ay) f)
def tU{l:L2.TE}{Z:nG}{t:R2}(S:eO j (gG zR) z7)(u:eO j (gG Z) t)(N:PE j zU R)(W:PE j O Ξ)(m:PE j ξ l) (i:lastMarks [zR,Z] [O,ξ]=ay:=by with_unfolding_all rfl):PE j (UP zU [zR,Z] [O,ξ] κ)%wK z7 t R Ξ l:=by intro F s c H Q B h;show Compare_chain (bq (N F s c H _ B h) λv w (x,M,V,g,z)=>chain_link%bq (W F w c M _ V z) λa p (A,n,k,P,β)=>bq (S F p c n x A v a _ k g P β)%Wd θ L (ι,f,q,D,γ,e,α)) i;subst e;cases D;show lJ ?_;cases γ with|false=>show ite_ff (IJ ay,f,q,y,α)|true=>show ite_tt%chain_last%bq (m F L c f _ q α) λo δ (G,E,ε,ζ,η)=>u F δ c E A G a o Q ε P ζ η
def ajK{l:L2.TE}{α:nG}{t:R2}(S:eO j (gG zR) z7)(u:eO j (gG α) t)(N:PE j zU R)(W:PE j O Ξ)(m:PE j ξ l) (i:lastMarks [zR,α] [O,ξ]=ay:=by with_unfolding_all rfl):PT j (UP zU [zR,α] [O,ξ] κ)%hy%wK z7 t R Ξ l:=by intro F s c H ο B h;show isTrue_chain (bq (N F s c H _ B h) λv w (x,M,V,g,z)=>test_link%bq (W F w c M _ V z) λa p (A,n,k,P,γ)=>bq (S F p c n x A v a _ k g P γ)%Wd π L (ρ,f,q,D,δ,e,β)) i;subst e;cases D;show lJ ?_;cases δ with|false=>let (σ,ε,ζ):=β;cases ε;show ite_ff (f,q,ζ)|true=>show ite_tt%test_last%bq (m F L c f _ q β) λo η (G,E,Q,θ,ι)=>bq (u F η c E A G a o _ Q P θ ι)%Wd τ υ (φ,b,μ,ν,χ,Z,d);subst Z;cases ν;show lJ (b,μ,d)
def BS(K:aE)(x:V)(H:Hp)(k:Bool):Ir:=match x with| .aV=>k=ay| .bl O=>k=O| .int i=>k=(i !=0)| .str A=>Wo A.a/\k=((Wi A.a) !=0)| .h4 A=>Wo A.l/\k=((Wi A.l) !=0)| .ref p=>(∃L,aD K H p L/\k=!L.bj)∨(∃L,bS K H p L/\k=!L.bj)∨∃c,H p=J%JK c/\k=!c.bj|_=>False
def ajL{c:Ib%Z' zg}{e:Ib%Za zg}(r:KV c e):(!e.bj)=!c.bj:=by cases r<;>rfl
theorem abF(r:bC α Φ):(!Φ.C.bj)=!α.bj:=by cases r<;>simp
theorem rM:Wa bJ<SF:=OQ
theorem ajM:ajE j (λx H Q=>∃k,BS IO x H k/\Q k H):=by intro F s c H x v Q B Z h;let (k,e,q):=h;let V:=rM;let P:bJ=16777216:=eK;cases x with|aV=>cases Z;let g:k=ay:=e;subst g;show truthy_none (H,B,q)|bl O=>cases Z;let g:k=O:=e;subst g;show lJ (H,B,q)|int i=>let (t,rfl):=Z;let g:k=(i !=0):=e;subst g;show PySem.P.truthy_int (H,B,q)|str A=>let (t,rfl):=Z;obtain ⟨u,g⟩:Wo A.a/\k=((Wi A.a) !=0):=e;subst g;show PySem.P.truthy_str Ih (H,Ko _,q)|h4 A=>let (t,rfl):=Z;obtain ⟨u,g⟩:Wo A.l/\k=((Wi A.l) !=0):=e;subst g;show PySem.W.truthy_bytes Ih (H,Ko _,q)|ref p=>(cases Z;let g:(∃L,aD IO H p L/\k=!L.bj)∨(∃L,bS IO H p L/\k=!L.bj)∨∃n,H p=J%JK n/\k=!n.bj:=e;rcases g with ⟨L,N,g⟩|⟨L,N,g⟩|⟨n,N,g⟩;{subst g;let (d,r,W,E):=Lf N;let f:=MZ;show wpAny_truthy_list QV IZ (H,Ko _,_au abF r)};{subst g;let (d,r,W,E):=L_ N;let f:=MZ;show truthy_tuple W IZ (H,Ko _,_au abF r)};{subst g;obtain ⟨E,w,o,r,m⟩:Wo n.a/\(p==ij)=ay/\∃o,KV n o/\s.j.hl (e2 IS IT) p o:=Jl p _ N;let f:n.a=o.a:=b4 r;show wpAny_truthy_dict w m Ih (H,Ko _,_au ajL r)})|_=>show (show P8 from e).al
def tV(N:PE j O R)(D:∀e,vr O IE e=(do let v←e;q0 O.pos;lK Kv (truthy v))): PT j O (λc H Q=>R c H λx d=>∃k,BS IO x d k/\Q k d):=_cd isTrue_plain (bq (N F s c H _ B h) λv w (x,M,V,g,z)=>ajM F w c M x v Q V g z)%D _
theorem vals1(r:bC [ζ] Φ):∃O,Φ= Kk/\IX ζ O:=by cases r with|cons g P=>cases P;cbv
def ajN:jG j (Jf _Ar) (λL H Q=>∃i,L= [Id i]/\Q (Id%Wp (i<0) (-i) i) H):=by intro F s c H L G Q B r h;let (i,rfl,q):=h;let (O,rfl,t,rfl):=Tc r;show call_abs_int λO tk=>(Id%Wp (i<0) (-i) i,H,Ko _,(_,y),q)
structure pZ(h:aO)(x X f:aa)(G:ai->Im ah):Ir where
 obj:Kw x=J%qX f X
 ns:h.Ns1 X G
 ne:W_ X
theorem ajO(n:A.Ns1 f D):∃l,Le f=J l/\∀k,GJ k l=J%D k:=by let (o,g,E,S,hd,b,_,i):=n;show (o,S,We k);let e:=i k;unfold nsFind findBy at e;rw [←Array.find?_toList] at e;unfold GJ;rw [hd];dsimp only;split;{cbv};{rename_i q;rw [q] at e;(let a:g.by.any (·.refKey)=ay:=by rw [af2];intro d u;let (z,t,c):=b d%axe.R u;simp [DictEntry.refKey,c]);cbv}
def pZ.look(B:pZ A u W f D):∃l,PySem.W.InstAt A u (qX f W) f%J l/\∀k,GJ k l=J%D k:=let (l,S,V):=ajO B.ns;(l,(B.obj,y,y,S),V)
def ajP(X:Qc I7)(B:pZ I7 u W f D)(j:Aq r f L=ag)(H:GK r f=ag) (N:jt r (Ia f) L=J I) (A:D L=J η) (b:axf η=ag) (h:zC η%_aF v.do 1): aG (a7 l p) μ (getAttr (Ia u) L zc) zC υ v:=by let (a,t,V):=B.look;show PySem.W.get_value X t (agg j).1 (PySem.W.findObj_own H N y (by rw [V,A])) b h
def ajQ{a:gF Nh}{Q:WL (ah × Ib ah)}(X:Qc I7)(B:pZ I7 f ο u D)(j:Aq r u L=ag) (hf:jt r (Ia u) L=J%J%Ia W) (b:As r%Ia W=ag) (A:D L=I) (h:Q (Ia W, [Ia f],) v): aG (a7 l p) μ (tb (Ia f) L a) Q υ v:=by let (c,t,V):=B.look;show PySem.W.method_fn X t (agg j).1 (agg j).2 hf (du.R b) (by change (GJ L c).o (·.as)=J ay;rw [V,A];rfl) h
theorem ajR{Q:V8}(X:Qc I7)(B:pZ I7 W u f D) (P:jt r (Ia f) _Du=J%J%Jf _Dv) (d:agh r f=ag) (g:agi r f L=J I) (H:GK r f=ag) (S:aga D π) (a:Wo KD) (h:∀C,pZ C W u f%Yp A A L (J η)%D A->lI u I7 C->Q () {v with heap:=C,toks:=v.do+2}): aG (a7 l p) μ (setAttr (Ia W) L η) Q υ v:=by let (k,t,V):=B.look;show PySem.W.set_plain X t P%PySem.W.osa_open (s:=_aF v.do 1) (r:=I) X t d g%We b;let (c,m,i):=PySem.W.any_some H;let N:Ji W=J (Ia f,J u, .plain,Ks):=B.obj;show aw%aZ%aw%aw%wpAny_loadPart N%aw%PySem.W.Looks.here (s:=_aF v.do 1) (PySem.W.looks_clsIn X m) ?_;rw [i];show aZ (a:=J u)%aw%aZ%aw ?_;show wpAny_nsSet1 (s:=_aF v.do 1) B.ns%Wd C e R;let (q,s,z,j,n,o):=e.count%PySem.Within.cons L η S;show aw%wpAny_lookBehind j (by rw [n];show pastItsLine_dict%d8 o (by rw [cH];lia)) ?_;show aZ%h _ ((R.2 _%i7 B.ne).q B.obj,e,B.ne) R
def ajS{R:WL o!}{b:Ib Rn}(X:Qc I7)(i:agj r f=ag) (a:jt r (Ia f) J_=J%J%Ia u) (hf:PySem.W.typeIn r%Ia u=J%IU "function") (h:lL (a7 l p) (_As%Jf _At (Ia f::Φ,b)) (.call (Ia u) (Ia (II+1)::Φ,b)) (PySem.W.InitBack (II+1) R)%YM (Jw o?).av%qX f II): lL (a7 l p) μ (.call (Ia f) (Φ,b)) R v:=by let (H,g,d,t,os):=v;show PySem.W.make_core (PySem.W.makes_of X i) (PySem.W.looks_findIn X a) (λc=>PySem.W.bind_fn X c hf) (Ik y) h
def eX(E:ai)(v:V):Ib K1->Ib K1| []=> [W2 E]|(g,x)::r=>Wz g E (W2 g::r) ((g,x,)::eX E v r)
theorem abG(E g:ai)(v:V):∀b:Ib K1,(eX E v b).B g=Wz g E (J v)%b.B g| []=>_ag (nI g [W2 E]) _|(k,x)::r=>by let c:=abG E g v r;rw [XA (eX E v (Rs::r))%Wz k E (W2 k::r) (Rs::eX E v r)];lk
theorem BU(E:ai)(v:V):∀a:Ib K1,E∈(eX E v a).o (·.1)/\∀g,g∈Ot (·.1)->g∈(eX E v a).o (·.1)| []=>(by simp [eX],λg h=>Mt)|(k,x)::r=>by let (T,Z):=BU E v r;rw [XA (eX E v (Rs::r))%Wz k E (W2 k::r) (Rs::eX E v r)];lk
theorem abH(E:ai)(v:V):∀a:Ib K1,(eX E v a).a<=Kj+1| []=>by simp [eX]|(k,x)::r=>by let c:=abH E v r;rw [XA (eX E v (Rs::r))%Wz k E (W2 k::r) (Rs::eX E v r)];lk
def g_.some_of{o:Im ah}(r:g_ (J ζ) o):∃O,o=J O/\IX ζ O:=by cases o with|none=>show V?|some O=>show (O,y,r)
def g_.none_of{o:Im ah}(r:g_ I o):o=I:=by cases o with|none=>rfl|some O=>show V?
def ajT(r:IX ζ η):axf η=ag:=by cases ζ with|aV=>cases (show η=fq from r);rfl|bl b=>cases (show η=s9 b from r);rfl|int i=>let (t,e):=(Z3 (η=j_ i t));cases e;rfl|str x=>let (t,e):=(Z3 (η=vn x t));cases e;rfl|h4 b=>let (t,e):=(Z3 (η=Value.bytes b t));cases e;rfl|fC b=>let (t,e):=(Z3 (η=af' b t));cases e;rfl|ref a=>cases (show η=b! a from r);rfl|ty n=>cases (show η=jq n from r);rfl
def wL(T:d_ l p g A)(e:g f=J%Iq W u z8):∃G,pZ A f u W G/\(∀E,g_ (z8.B E)%G E)/\aga G%z8.o (·.1)/\z8.a<=1000/\g u=J%JA f:=by let (a,z,D,M,G,n,r,q):=(W0 (d3 l p g A f%Iq W u z8)%T f _ e);show (G,(M,n,D),r,q,z,a)
structure d5(K:aE)(f:aa):Ir where
 pg:Aq K f Str.empty=ag
 hd:GK K f=ag
 po:agh K f=ag
 sa:jt K (Ia f) _Du=J%J%Jf _Dv
def d5.get(j:d5 r f)(E:ai):Aq r f E=ag:=j.pg
def f3(K:aE)(f:aa)(E:ai):Ir:=jt K (Ia f) E=J I
def f3.ajU(n:f3 r f L):agi r f L=J I:=by unfold agi;rw [show jt r (Ia f) L=J I from n];rfl
structure tX(K:aE)(f:aa)(m:ai)(E:aa):Ir where
 at_:jt K (Ia f) m=J%J%Ia E
 fn:As K%Ia E=ag
 kp:kz K%Ia E=ag
theorem abI(B:Ip j ν E g v)(e:g u=J%Iq f W z8)(a:d5 IO f)(n:f3 IO f L)(l:z8.B L=J ζ) (h:∀O M,Ip j ν E g M->IX ζ O->zC O M):aG (a7 IS IT) μ (getAttr (Ia u) L zc) zC υ v:=by let (G,N,r,_,_,_):=wL Jl e;let (O,t,P):=_ay (G L) IZ;show ajP Lq N (a.get L) a.hd n t (ajT P)%h O _ (Ko _) P
theorem BV{a:gF Nh}{Q:WL (ah × Ib ah)}(B:Ip j ν E g v)(e:g f=J%Iq u W z8)(b:d5 IO u)(k:tX IO u L ο)(l:z8.B L=I) (h:Q (Ia ο, [Ia f],) v):aG (a7 IS IT) μ (tb (Ia f) L a) Q υ v:=by let (G,N,r,_,_,_):=wL Jl e;let i:G L=I:=g_.none_of IZ;show ajQ Lq N (b.get L) k.at_ k.fn i h
theorem abJ{Q:V8}(B:Ip j ν E g v)(e:g f=J%Iq u W z8)(b:d5 IO u)(n:f3 IO u L)(x:z8.a<1000)(m:IX ζ η) (h:∀M,Ip j ν E (ak g f%Iq u W%eX L ζ z8) M->Q () M):aG (a7 IS IT) μ (setAttr (Ia f) L η) Q υ v:=by let (G,N,r,w,_,S):=wL Jl e;(let k:Wo (z8.o (·.1)).a:=_ET);show ajR Lq N b.sa b.po n.ajU b.hd w k λC i t=>h _ ?_;let hd:∃o,Nk W=J o:=let (o,_,_,l,_):=i.ns;(o,l);show B.hs (x:=f) (e:=W) _Bu (Iy S) (λp q c z=>(Nf p c).q z) hd ?_;show (by rw [aq N.ne];show S,?_,N.ne,i.obj,_,i.ns,We a,W8 d);{have:=abH L ζ z8;lia};{change g_ ((eX L ζ z8).B a)%Wz a L (J η)%G a;rw [abG];by_cases q:a=L;{rw [aA q,aA q];show m};{cbv}};{by_cases q:a=L;{rw [q];show (BU L ζ z8).1};{show (BU L ζ z8).2 a%w a λz=>d ?_;cbv}}
theorem Inv.made(B:Ip j ν E g v):Ip j ν E (ak (ak g II%JA (II+1)) (II+1)%Iq f II [])%YM (Jw o?).av%qX f II:=by let p:(Jw o?).E II=J o?:=ep I7 y;(let a:((Jw o?).av%qX f II).E (II+1)=J%qX f II:=by have:=ep (Jw o?) (o:=qX f II) y;rwa [i8] at this);let l:(Jw o?).Ns II O!:=(o?,Ks,_,p,y,(λe h=>a' h Ii),SJ);let V:=RP (a:=v.heap.objs.size) (o:= (JA (II+1))) (h':=Jw o?) (t':=v.toks) (λi O q=>dz _ q) (bj _) (_,p);show V.fv (a:=II+1) (o:= (Iq f II [])) (t':=v.toks) (λi O q=>dz _ q) (GL%i8 _ _) ?_;let D:II≠II+1:=eF%qS _;show (by rw [aq D,ar],cj _,D,a,O!,(Heap.Ns1.of_empty l).at λo q=>dz _ q,Wx lM,λA u=>a' y u)
def ajV(W:mC O L zF%Je O zF=Je O zF) (h:aG (a7 l p) μ (Je O zF) (λo m=>aG (a7 l p) μ (getAttr o L ag) zC υ m) υ v):aG (a7 l p) μ (Je (LD O L κ) zF) zC υ v:=Attribute_any_ h (by rw [arm_eval_Attribute,W])
def cy(K:aE)(R:TE)(E:ai):TE:=λc H Q=>R c H λx M=>∃a f X V v,x= Ia a/\M a=J%Iq f X V/\d5 K f/\f3 K f E/\V.B E=J v/\Q v M
def rN(K:aE)(R C:TE)(E:ai):TS:=λG c H=>C c H λA M=>R c M λx n=>∃a f X V,x= Ia a/\n a=J%Iq f X V/\d5 K f/\f3 K f E/\V.a<1000/\N8 c%ak n a%Iq f X%eX E A V
def BW(X:Cx)(d:Ap)(i:V->V->J3):Ir:=∀(F:Ib Jz) (s:az) (c:St) (H:Hp) (x A:V) (O v:ah) (Q:VK),Ip X F c H s->IX x O->IX A v->i x A H Q->aG (a7 Km Kn) KM (_Dr d O v) (EP X F c Q) K5 s
def ajW(K:aE)(R C:TE)(i:V->V->J3)(E:ai):TS:=λG c H=>R c H λx M=>∃a f X d v,x= Ia a/\M a=J%Iq f X d/\d5 K f/\f3 K f E/\d.B E=J v/\C c M (λA n=>i v A n λz e=>∃g b,e a=J%Iq f g b/\M0<1000/\N8 c%ak e a%Iq f g%eX E z b)
def aC(D:PE j O R)(W:mC O L IE%Je O IE=Je O IE):PE j (LD O L κ)%cy IO R L:=_ap (ajV W%bq (D F s c H _ B h)%WH e (x,M,V,Z,a,f,d,g,v,G,u,b,n,l,q)) e (b! a)%abI V u b n l λS p k P=>(v,M,k,P,q)
def cf(b:PE j O R)(A:PE j ξ Ξ)(P:s_ ξ (J%LD O L zj) QT IE=JH ay):PS j (_Ao [LD O L zj] ξ κ)%rN IO R Ξ L:=by intro F s c H t B h;show plainObj_wpAny_Assign_Attribute (bq (A F s c H _ B h) λv w (z,M,V,m,q)=>bq (b F w c M _ V q)%XW d (x,D,k,Z,a,f,Q,S,G,u,g,n,l,e)) P;subst G;obtain rfl:d=b! a:=Z;show abJ k u g n l m λo i=>(c,_,i,e)
def rO{d:Ap}{i:V->V->J3}(t:PE j O R)(A:PE j ξ Ξ)(D:BW j d i):PS j (.AugAssign (LD O L zj) d ξ κ)%ajW IO R Ξ i L:=by intro F s c H μ B h;show wpAny_AugAssign_AttributeAny%bq (t F s c H _ B h)%WH W (x,M,α,Z,a,f,ν,C,v,G,u,b,n,l,q);subst G;obtain rfl:W=b! a:=Z;show abI α u b n l λe p k P=>bq (A F p c M _ k q) λβ o (γ,δ,ε,m,ζ)=>bq (D F o c δ v γ e β _ ε P m ζ)%Wd ο π (z,ρ,Q,η,σ,τ,θ,ι,r);show abJ Q θ b n ι η λg S=>(c,_,S,r)
def ajX:V->V->J3:=λx A H Q=>∃i M,x= Id i/\A= Id M/\Q (Id (i+M)) H
def ajY:V->V->J3:=λx A H Q=>∃i M,x= Id i/\A= Id M/\Q (Id (i - M)) H
def tY:BW j S? ajX:=_bJ (t,rfl) (show ∃t,O=j_ i t from Z) (a,rfl) (show ∃a,v=j_ M a from m)%axd (Id (i+M),H,Ko _,(_,y),q)
def ajZ:BW j .Sub ajY:=_bJ (t,rfl) (show ∃t,O=j_ i t from Z) (a,rfl) (show ∃a,v=j_ M a from m)%PyProof.Rows.isub_int (Id (i - M),H,Ko _,(_,y),q)
inductive jI (K:aE) (H:Hp):XU ah where
 |aV:jI K H IK%IU "NoneType"
 |bl (x:Bool):jI K H (IJ x)%IU "bool"
 |int (i:Int):jI K H (Id i)%IU Nn
 |str (x:ai):jI K H (Iv x)%IU "str"
 |fC (x:UInt64):jI K H (.fC x)%IU "float"
 |lst {a:aa} {xs:Ib V} (e:H a=J%Ig xs):jI K H (Ia a)%IU JT
 |b_ {a:aa} {o:bb} {xs:Ib V} (e:H a=J%Jd o%Ig xs):jI K H (Ia a)%IU JT
 |tup {a:aa} {xs:Ib V} (e:H a=J%IC xs):jI K H (Ia a)%IU KN
 |dK {a:aa} {g:Ib KJ} (e:H a=J%JK g):jI K H (Ia a)%IU No
 |dT {a:aa} {g:Ib OK} (e:H a=J%I9 g):jI K H (Ia a)%IU No
 |ins {a f h:aa} {k:Ib K1} (e:H a=J%Iq f h k) (B:d5 K f) (N:jt K (Ia f) "__class__"=J%J%Jf UR)
   (G:axg K (Jf UR) "__get__"=J%J%Jf _EU) (d:axh K%Jf UR=J ag)
   (l:axi K f%IU _Bv=J ag):jI K H (Ia a)%Ia f
def abK{t:ah}(B:Ip j ν E g v)(k:IX ζ zw)(W:jI IO g ζ t)(e:lN IO t η=J zc)(h:∀tk,υ (MK zc) _GE): aG (a7 IS IT) μ (fU (Jf RQ) [zw,η]) υ zC v:=by cases W with|aV=>cases (show zw=fq from k);show mE PySem.W.kitx_none Lq lM e O' h|bl A=>cases (show zw=s9 A from k);show mE PySem.W.kitx_bool Lq lM e O' h|int i=>let (t,q):=(_bg (zw=j_ i t));cases q;show mE PySem.W.kitx_int Lq lM e O' h|str A=>let (t,q):=(_bg (zw=vn A t));cases q;show mE PySem.W.kitx_str Lq lM e O' h|fC A=>let (t,q):=(_bg (zw=af' A t));cases q;show mE PySem.W.kitx_float Lq lM e O' h|@lst a L u=>cases (show zw=b! a from k);let (_,_,n,_,D):=(W0 (d3 IS IT g I7 a%Ig L)%Jl a _ u);show mE axj Lq (_,D,y) e O' h|@b_ a M L u=>cases (show zw=b! a from k);let (_,_,_,n,_,D):=(W0 (d3 IS IT g I7 a%Jd M%Ig L)%Jl a _ u);show mE axj Lq (_,D,y) e O' h|@tup a L u=>cases (show zw=b! a from k);let (_,_,_,p):=(W0 (d3 IS IT g I7 a%IC L)%Jl a _ u);let (o,D,R,_):=p;show mE PySem.W.kitx_tuple Lq (o,D,R) e O' h|@dK a m u=>cases (show zw=b! a from k);let (_,_,C,_,p):=(W0 (d3 IS IT g I7 a%JK m)%Jl a _ u);let (o,b,c,D,R,_):=p;show mE axk Lq (o,D,R.1) e O' h|@dT a m u=>cases (show zw=b! a from k);let (_,_,L,_,o,b,c,D,R,_):=(W0 (d3 IS IT g I7 a%I9 m)%Jl a _ u);show mE axk Lq (o,D,R.1) e O' h|@ins a f S α u r N G d s=>cases (show zw=b! a from k);let (β,w,_):=wL Jl u;let (l,P,_):=w.look;show mE (PySem.W.kitx_own (r.get _) r.hd N G d s) Lq P e O' h
structure dy(k:Nat)(T:cC):Ir where
 hd:T.b7=I
 dp:T.e3+k+5<_EV
 un:T.ed+16*k+200<ju
theorem dy.mono{j k:Nat}(r:dy k μ)(h:j<=k):dy j μ:=(r.hd,_GG,_C9)
theorem dy.deeper{k:Nat}{T:cC}(r:dy (k+1) T)(R:es):dy k%T.gb R:=(r.hd,by have:=r.dp;change T.e3+1+k+5<_;lia,by have:=r.un;change T.ed+3+16*k+200<_;lia)
theorem aj0{a:Ib Rn}:(_As%Jf _At (Ia f::Φ,a)).e3=μ.e3+1:=by first|rfl|simp [agl,Code.weight,Code.isCreation,Code.isGuard,Code.isCaller,Code.frames,agm,guardIds]
theorem aj1{a:Ib Rn}:(_As%Jf _At (Ia f::Φ,a)).ed=RR+1:=by first|rfl|simp [agl,Code.cUnits,Code.frames,agm]
theorem dy.make(r:dy (q+1) μ)(f:aa)(G:Ib ah)(a:Ib Rn):dy q%_As%Jf _At (Ia f::G,a):=(r.hd,by have:=r.dp;rw [aj0];lia,by have:=r.un;rw [aj1];lia)
theorem dy.depth{k:Nat}{T:cC}(r:dy k T):T.e3<_EV:=_GG
def bY:TA:=Xp H Q%Q [] H
def bP(R:TE)(e:TA):TA:=λc H Q=>R c H λx M=>e c M λL n=>Q (x::L) n
def aj:PA j [] bY:=λ_ _ _ _ H Q B h=>q3 ([],H,B, IR,h)
def ae(N:PE j O R)(L:PA j Ω zo)(P:cK JQ IE=OD::cK Ω IE:=by rfl):PA j JQ%bP R zo:=by intro κ F s c H Q B h;rw [P];change aG _ _ (_Bs (OD::fv κ%cK Ω IE)) _ _ s;show pd%bq (N F s c H _ B h)%WH f (x,M,V,a,z);show bq (L κ F w c M _ V z) λG p (b,n,k,d,e)=>(x::b,n,k, I1 a d,e)
def BX(t:TA):TE:=λc H Q=>t c H λL M=>Wo I0/\∀p,M p=I->Q (Ia p)%ak M p%IC L
def iv(t:TA):TE:=λc H Q=>t c H λL M=>Wo I0/\∀p,M p=I->Q (Ia p)%ak M p%Ig L
def hA{b}(h:PA j Ω zo):PE j (Qa Ω b κ)%BX zo:=_co (wpAny_Tuple_spliced%bq (h κ F s c H _ B n) λG w (L,M,V,r,z,q)=>_b7 MZ) (M Ky=I) QU (bj _) (Ia Ky,ak M Ky%IC L,V.fv (t':=w.toks) (WP a O%dz _ O) (bj _) ?_,y,q _ hf) (z,G,r,(_,ep _ y,y,_,y))
def bZ(h:PA j Ω zo):PE j (.List Ω κ)%iv zo:=_co (wpAny_List_spliced%bq (h κ F s c H _ B n) λG w (L,M,V,r,z,q)=>_b7 MZ) (M Ky=I) QU (bj _) (Ia Ky,ak M Ky%Ig L,V.fv (t':=w.toks) (λb a O=>dz _ O) (bj _) ?_,y,q _ hf) (z,G,0,r,ep _ y)
abbrev Sp:=Ib V->Hp->WF VK XK
abbrev fb:=Ib es->Hp->az->XK->MF
structure p1(P:aP)(w:World)(K:aE)(S:ai->Im ah)(base:aO)(T:cC)(p:Ib es)(s:az)(H:Hp):Ir where
 frames:T.ds=J p
 mod:Mod K S Jp
 bs:Wh (base.E b=J o) (RI b=J o/\H b=I)
 jc:base.v.l<=JR
 iq:s.j.fl Jp p
 kN:∀b∈eV p,H b=I
 bK:d_ P w H Lp
 bare:qY s.gens
def CE(p:Ib es)(P:aP)(w:World)(H:Hp)(s:az)(Q:VK)(O:ah)(M:az):Ir:=∃v d,M.os=s.os/\qY _Br/\Un (eV p) [] H d Lp M.j/\d_ P w d M.j/\IX v O/\Q v d
def CR(A:fb)(p:Ib es)(P:aP)(w:World)(H:Hp)(s:az)(Q:VK)(Z:XK)(r:o!)(M:az):Ir:=match r with| .ok (.ret O)=>CE p P w H s Q O M| .ok _=>False| .error e=>A p H s Z e M
structure aJ(P:aP)(w:World)(K:aE)(S:ai->Im ah)(base:aO)(A:fb)(k:Nat)(E:aa)(B:br)(u:Ib ai)(z:Sp):Ir where
 len:∀C H Q Z,z C H Q Z->L'=I3
 run:∀(T:cC) (p:Ib es) (s:az) (H:Hp) (x:Args) (G:Ib ah) (C:Ib V) (Q:VK) (Z:XK),dy k T->p1 P w K S Jp T p s H->vw s B x%u.zip G->bC C G->z C H Q Z->
  lL (a7 P w) T (.call (Ia E) x) (CR A p P w H s Q Z) s
def aJ.mono{P:aP}{w:World}{K:aE}{S:ai->Im ah}{base:aO}{A:fb}{j k:Nat}{E:aa}{B:br}{u:Ib ai}{z:Sp}(F:aJ P w K S Jp A j E B u z)(h:j<=k): aJ P w K S Jp A k E B u z:=(_Au,λT p s H x G C Q Z L=>F.run T p s H x G C Q Z%Jh h)
end L2
variable{zt:L2.Sp}{zG:L2.fb}
namespace L2
open PySem PySem.Spec PyProof.Rows
def aJ.imp{a:Sp}(F:aJ l p r D A zG q f Q π zt) (h:∀C H d Z,a C H d Z->zt C H d Z):aJ l p r D A zG q f Q π a:=(λC H d Z e=>_Au C H d Z%h _ _ _ _ e,λT g s H x G C d Z L i W b c=>F.run T g s H x G C d Z L i W b%h _ _ _ _ c)
theorem p1.make(e:p1 l p r D A μ zX v g)(f:aa)(G:Ib ah)(a:Ib Rn): p1 l p r D A (_As%Jf _At (Ia f::G,a)) zX v g:=(by first|show e.ds|(simpa [agl,Code.envs,agm,pushEnvs] using e.frames),e.mod,e.bs,e.jc,e.iq,e.kN,e.bK,e.em)
def Inv.abL(B:Ip j ν E g v):p1 IS IT IO J9 L9 Jt Pk v g:=(RS,US,B.bs,d8 QR B.sz,B.d1,B.BC,Jl,M6)
theorem Inv.after{M:az}(B:Ip j ν E g v)(h:CE Pk IS IT g v ε η M):EP j ν E ε η M:=by let (c,d,os,a,i,T,r,q):=h;let (e,k,f,t,n):=M;obtain rfl:n=v.os:=os;show (c,d,B.call (h':=e) (w:=k) (D:=f) (q:=t) (zl:= []) i T a λb z=>a' z Ii,r,q)
def fc(z:Sp)(b:Ib V)(Z:XK)(t:TA):TE:=λc H Q=>t c H λC M=>z (C++b) M Q Z
def fe(f:aa)(m:ai)(z:Sp)(b:Ib V)(Z:XK)(R:TE)(t:TA):TE:=λc H Q=>R c H λx M=>∃a X d,x= Ia a/\M a=J%Iq f X d/\d.B m=I/\t c M (λC n=>z (x::(C++b)) n Q Z)
def l4(f:aa)(z:Sp)(b:Ib V)(Z:XK)(t:TA):TE:=λc H Q=>t c H λC M=>∀x X,M x=I->M X=I->W_ X->z (Ia x::(C++b)) (ak (ak M X%JA x) x%Iq f X []) (λv n=>v= IK/\Q (Ia x) n) Z
def Binds(K:aE)(B:br)(u:Ib ai)(l:Ib ah):Ir:=∀(s:az) (G:Ib ah),K.In Lp->(G++l).a=I3->vw s B (G, [])%u.zip (G++l)
def Binds.all(h:∀G:Ib ah,JY=KD->_Dw Q (G, [])=JH%Qd G):MN r Q π []:=λs G _ V=>by rw [fo] at V ⊢;show .of_eq%h G V
def iw(A:fb)(X:Cx)(Z:XK):Ir:=∀(F:Ib Jz) (c:St) (H:Hp) (s:az) (e:ah) (M:az),Ip X F c H s->A X.d1 H s Z e M->K5 e M
def wM(F:aJ IS IT IO J9 L9 zG q f Q π zt)(L:dy q Jt)(W:MN IO Q π Φ)(hd:bC α Φ)(N:iw zG j τ) (a:Ip j ν E g v) (r:bC z1 z3) (h:zt (z1++α) g ε τ):aG (a7 IS IT) Jt (fU (Ia f) z3) (EP j ν E ε) K9 v:=by let i:bC (z1++α) (z3++Φ):=r.f8 hd;(let b:(z3++Φ).a=KD:=by rw [←i.a];show _Au _ _ _ _ h);show Au%q4 (F.run Jt Pk v g (z3, []) (z3++Φ) (z1++α) ε τ L a.abL (W v z3 a.ef b) i h)%Wd r M n;cases r with|error O=>show N ν E g v O M a n|ok c=>cases c with|ret d=>show a.after n|next=>show ik n|brk=>show ik n|cont=>show ik n
def aj2(F:aJ IS IT IO J9 L9 zG q f Q π zt)(b:dy q Jt)(e:Gl j L)(i:J9 L=J%Ia f)(d:kz IO%Ia f=ag)(W:MN IO Q π Φ)(hd:bC α Φ)(N:iw zG j τ) (v:PA j JQ zo) (n:MY=ay:=by decide) (D:cK JQ IE=OD::cK Ω IE:=by rfl) (S:(fv κ%cK Ω IE).any (·.1)=ay:=by rfl): PE j (J0 (JU L zj) JQ [] κ) (fc zt α τ zo):=_cs mF (rL a e i ?_ n) (_bp a.ok.mod.rJ d (bq (v κ g s c H _ a h) λG w (C,M,V,r,k)=>Wt V.ef) D S)%wM F b W hd N V r k
def aj3{W:gF Nh}(D:PE j ξ R)(e:d5 IO u)(i:tX IO u L f)(F:aJ IS IT IO J9 L9 zG q f Q π zt)(g:dy q Jt)(δ:MN IO Q π Φ)(hd:bC α Φ)(N:iw zG j τ)(ε:PA j JQ zo) (ζ:cK JQ IE=OD::cK Ω IE:=by rfl) (S:(fv κ%cK Ω IE).any (·.1)=ay:=by rfl) (v:Je (J0 (LD ξ L zj) JQ [] κ) IE=(do let d←Je ξ IE;q0 _Bw;let (f,η,)←lK [d] (tb d L W);mD κ f η (fv κ%cK JQ IE) (pa κ%pb [] IE)):=by rfl): PE j (J0 (LD ξ L zj) JQ [] κ) (fe u L zt α τ R zo):=by intro b s c H o β h;show agk (pl:=W) (bq (D b s c H _ β h)%WH k (zD,M,V,θ,a,p,ο,G,ι,l,m)) v;subst G;obtain rfl:k=b! a:=θ;show BV V ι e i l ?_;show GN (first:= [Ia a]) (h₀:=j.base) β.ok.mod.rJ i.kp (bq (ε κ b w c M _ V m) λμ t (C,n,γ,r,ν)=>Wt γ.ef) ζ S;show wM (z3:= (Ia a::μ)) (z1:= (Ia a::C)) F g δ hd N γ (I1 y r) ν
def aj4{W:gF Nh}(D:PE j O R)(b:d5 IO u)(i:tX IO u L f)(F:aJ IS IT IO J9 L9 zG q f Q π zt)(e:dy q Jt)(n:MN IO Q π Φ)(hd:bC α Φ)(N:iw zG j τ) (v:Je (J0 (LD O L zj) [] [] κ) IE=(do let d←Je O IE;q0 _Bw;let (f,r,)←lK [d] (tb d L W);mD κ f r (fv κ%cK [] IE) (pa κ%pb [] IE)):=by rfl): PE j (J0 (LD O L zj) [] [] κ) (fe u L zt α τ R bY):=by intro C s c H m S h;show agk (pl:=W) (bq (D C s c H _ S h)%WH g (zD,M,V,k,a,δ,ε,G,β,γ,l)) v;subst G;obtain rfl:g=b! a:=k;show BV V β b i γ ?_;show axl (first:= [Ia a]) V.ef i.kp%wM (z3:= [Ia a]) (z1:= [Ia a]) F e n hd N V (I1 y IR) l
structure Mk(K:aE)(f E:aa):Ir where
 makes:agj K f=ag
 init:jt K (Ia f) J_=J%J%Ia E
 fn:As K%Ia E=ag
 kp:kz K%Ia f=ag
def abM(c:Mk IO f u)(F:aJ IS IT IO J9 L9 zG q u Q π zt)(k:dy (q+1) Jt)(W:MN IO Q π Φ)(hd:bC α Φ) (N:iw zG j τ) (b:Ip j ν E g v) (r:bC z1 z3) (h:∀L w,g L=I->g w=I->w≠L->zt (Ia L::(z1++α)) (ak (ak g w%JA L) L%Iq f w []) (λe γ=>e= IK/\ε (Ia L) γ) τ): aG (a7 IS IT) Jt (fU (Ia f) z3) (EP j ν E ε) K9 v:=by let n:=h (II+1) II (b.bK.an%q5 _) (b.bK.an%bj _)%eF%qS _;let D:=Inv.made (f:=f) b;let β:bC (IP (II+1)::(z1++α)) (b! (II+1)::(z3++Φ)):= I1 y%r.f8 hd;(let δ:(b! (II+1)::z3++Φ).a=KD:=by let O:=_EW;rw [_Au _ _ _ _ n] at O;show O.J);show Au%ajS (u:=u) b.ef c.makes c.init (du.R c.fn)%q4 (F.run _ Pk _ _ (b! (II+1)::z3, []) (b! (II+1)::(z3++Φ)) _ _ τ (k.make f z3 []) (D.abL.make f z3 []) (W _ (b! (II+1)::z3) D.ef δ) β n)%Wd r M i;cases r with|error O=>show N ν E _ _ O M D i|ok l=>cases l with|ret o=>let (e,d,m,ζ,η,a):=D.after i;subst η;show (ζ,(IP (II+1),d,m,y,a))|next=>show ik i|brk=>show ik i|cont=>show ik i
def aj5(d:Mk IO f u)(F:aJ IS IT IO J9 L9 zG q u Q π zt)(b:dy (q+1) Jt)(e:Gl j L)(i:J9 L=J%Ia f)(W:MN IO Q π Φ)(hd:bC α Φ)(N:iw zG j τ) (v:PA j JQ zo) (n:MY=ay:=by decide) (D:cK JQ IE=OD::cK Ω IE:=by rfl) (S:(fv κ%cK Ω IE).any (·.1)=ay:=by rfl): PE j (J0 (JU L zj) JQ [] κ) (l4 f zt α τ zo):=_cs mF (rL a e i ?_ n) (_bp a.ok.mod.rJ d.kp (bq (v κ g s c H _ a h) λG w (C,M,V,r,k)=>Wt V.ef) D S)%abM d F b W hd N V r k
def aj6(d:Mk IO f u)(F:aJ IS IT IO J9 L9 zG q u Q π zt)(b:dy (q+1) Jt)(e:Gl j L)(i:J9 L=J%Ia f)(W:MN IO Q π Φ)(hd:bC α Φ)(N:iw zG j τ) (n:MY=ay:=by decide):PE j (J0 (JU L κ) [] [] zj)%l4 f zt α τ bY:=by intro g s c H k a h;show mF%rL a e i ?_ n;show axl a.ef d.kp%abM (z3:= []) d F b W hd N a IR h
structure a0(N P:Ib ai)(M:e8):Ir where
 kind:M.bh= RF
 co:M.isCoroutine=ay
 gen:M.isGenerator=ay
 nd:N.am
 pre:N.Y P.a=P
 par:∀x∈P,Pi x=J L8∨Pi x=J Kx
 aj7:∀A∈M.names,Ly≠ K4
theorem abN{kindOf:ai->Im i9}{x:ai}:∀{a:Ib Rn} {m:ai->Im ah},(∀v,W2 x∉a)->q6 Qe a m x=m x| [],_,_=>y|(n,v)::r,m,h=>by unfold q6;rw [abN λw S=>h w%cL _ S];split;{lk};{rfl}
theorem abO{kindOf:ai->Im i9}{x:ai}:∀{a:Ib Rn} {m:ai->Im ah},(∀v,W2 x∉a)->q7 Qe a m x=m x| [],_,_=>y|(n,v)::r,m,h=>by unfold q7;rw [abO λw S=>h w%cL _ S];split;{rfl};{lk}
theorem abP{kindOf:ai->Im i9}{x:ai}{v:ah}:∀{P:Ib ai} {C:Ib ah} {i:Nat} {m:ai->Im ah},P.am->Wg P=J x->Wg C=J v->Qe x=J L8->q6 Qe (UT C) m x=J v| [],_,_,_,_,h,_,_=>Mt|_::_, [],_,_,_,_,h,_=>Mt|p::P,w::C,0,m,F,D,R,g=>by simp at D R;subst D;subst R;change q6 Qe ((p,w,)::UT C) m p=_;unfold q6;rw [abN λv A=>(Td F).1 (agn A).1,aA g];simp|p::P,w::C,i+1,m,F,D,R,g=>by change q6 Qe ((p,w,)::UT C) m x=_;unfold q6;show abP (i:=i) (Td F).2 _Dx _Bx g
theorem abQ{kindOf:ai->Im i9}{x:ai}{v:ah}:∀{P:Ib ai} {C:Ib ah} {i:Nat} {m:ai->Im ah},P.am->Wg P=J x->Wg C=J v->Qe x≠J L8->q7 Qe (UT C) m x=J v| [],_,_,_,_,h,_,_=>Mt|_::_, [],_,_,_,_,h,_=>Mt|p::P,w::C,0,m,F,D,R,g=>by simp at D R;subst D;subst R;change q7 Qe ((p,w,)::UT C) m p=_;unfold q7;rw [abO λv A=>(Td F).1 (agn A).1,au g];simp|p::P,w::C,i+1,m,F,D,R,g=>by change q7 Qe ((p,w,)::UT C) m x=_;unfold q7;show abQ (i:=i) (Td F).2 _Dx _Bx g
def start(N:Ib ai)(C:Ib V):St:=Ou J++List.replicate (NK - L') I
def h6(A:fb)(P:aP)(w:World)(K:aE)(S:ai->Im ah)(base:aO)(N:Ib ai)(X:ai)(L:e8)(E:aa)(c:ah)(T:cC)(p:Ib es)(s:az)(H:Hp)(Z:XK):Cx where
 prog:=P
 w:=w
 K:=K
 mg:=S
 base:=base
 A:=T.gb%gJ X L JR E c
 N:=N
 hv:=s
 pV:=H
 env:=gJ X L JR E c
 outer:=p
 stack:=gJ X L JR E c::p
 ex:= []
 calm:=ag
 fn:=Wx ag
 pn:= []
 xe:=λe M=>aG (a7 P w) (T.gb%gJ X L JR E c) (_Dy (gJ X L JR E c) e) (Wv a%A p H s Z e a) (λl a=>A p H s Z l a) M
def abR(h:Po L=J Kx):∃j,(g4 q Kt []).B L=J j:=by let a:=axm Kt q []%Ik h;show OM a
theorem aj8{B:az} (S:a0 z9 π φ) (hd:M_=I) (F:p1 l p r D A μ zX v g) (w:I8=KD) (o:bC α Φ) (x:InCallC v II (q6 (gJ L φ II f η).ej (Qd Φ) O!) (g4 (II+1) Kt []) (q7 (gJ L φ II f η).ej (Qd Φ) O!) B): Ip (h6 zG l p r D A z9 L φ f η μ zX v g τ) [] (Qf z9 α) g B:=by (let β:KD<=z9.a:=Zt dR j6 S.pre);let (c,tk,rfl,n):=x.done;let cp:∀b:aa,WR (h6 zG l p r D A z9 L φ f η μ zX v g τ).ex:=λb z=>a' (_aB b ([]:Ib aa)) Ii;show ((F.mod,S.bh,y,y,bj _,Wn a z j c R,W8 m,Wj a j _ h,Wx hd,Around.frames_deeper F.ds, Iy (y,y),λb z=>a' z%cp b,F.bs,F.jc,λb _ _=>cp b,λb z=>a' z%cp b,F.iq,F.kN),y,F.em,Un.dm n,(_,x.toInCall.ns,WM i a s c R γ),λa j h=>(_,x.e6 a j h),F.bK.an%bj _,Wd a j h,λQ d=>a' (show Q∈([]:Ib Jz) from d) Ii,F.bK.dm n,?_);{show name_of_addr x.apart (jv c)%jv R};{let m:Po a=J Kx∨Po a=J K4:=m;rcases m with m|m;{show abR m};{show a' y%S.aj7 _%jv m}};{show An%x.ey a j%jv h};{(let C:i<I8:=_EX);(let W:PR=J s:=_EX);let (O,t,u):=o.get W;(let d:Wg π=J a:=by rw [←S.pre,List.getElem?_take_of_lt Ih];show c);(let M:π.am:=by rw [←S.pre];show S.nd.hw%List.take_sublist _ _);show (O,u,?_);rcases S.par a (cm d) with k|k;{show Ik (k,abP M d t k)};{let (j,e):=abR (q:=II+1) k;show Iy (Ik k,j,e,?_);let q:=x.e6 a j e;rw [abQ M d t (by change Po a≠_;rw [k];decide)] at q;show q}};{show F.bK.an%An%x.ey a j%jv h};{unfold start;change _=z9.a;cbv}
def abS{θ:Arguments}{u:Ib aS}{kV ι E g a:ah}{i N:Im aa} {m:KC%Im ah}   (ο:r.B f=J (a,N, .func%pe zD L θ u φ zw kV ι E i η g,m)) (j:GO r η L=ag) (S:a0 π z9 φ) (len:∀C H Q Z,zt C H Q Z->L'=z9.a) (P:∀(T:cC) (k:Ib es) (s:az) (H:Hp) (C:Ib V) (Q:VK) (Z:XK),dy q%T.gb%gJ L φ JR f η->zt C H Q Z->∃δ,ir (h6 zG l p r D A π L φ f η T k s H Z) u δ/\δ {nx:=(Wv d (Q IK d)),rt:=Q} (Qf π C) H): aJ l p r D A zG (q+1) f (pe zD L θ u φ zw kV ι E i η g) z9 zt:=by show (KO,λT k s H Γ G C Q Z ε F W ρ κ=>?_);let σ:=KO _ _ _ _ κ;let μ:Qc Lp:=F.mod.rJ.fo λb o e=>(F.bs b o e).1;let τ:s.j.NoLimit:=F.mod.nolimit.fo λb o e=>(F.bs b o e).1;(let υ:∀ζ∈z9.zip G,Po ζ.1=J L8∨(Po ζ.1=J Kx/\((g4 (JR+1) Kt []).B ζ.1).as=ag):=λ(n,v) X=>by rcases S.par n (agn X).1 with c|c;{show Ik c};{show Iy (c,axm _ _ _%Ik c)});show codeAny_call_function ε.e3 (μ _ _ ο) y S.co S.gen y (PySem.W.codeRec_of μ j)%W _ _ _ _ ?_;show wpAny_newFunctionEnv_cells S.bh υ%Wj R χ ν x;subst χ;show (τ.fo x.toInCall.ad,codeAny_func ?_);let (δ,ψ,ω):=P T k s H C Q Z (ε.gb _) κ;let B:Ip (h6 zG l p r D A π L φ f η T k s H Z) [] (Qf π C) H ν:=aj8 S ε.hd F σ ρ x;show iK (ψ [] ν (Qf π C) H _ B ω) (Wd h M α) λe M α=>α;let ξ:∀{z:St} {d:Hp} {v:V} {O:ah},Ip (h6 zG l p r D A π L φ f η T k s H Z) [] z d M->IX v O->Q v d->CE k l p H s Q O M:=λ{z d v O} t w c=>(v,d,t.os,t.em,t.au,t.bK,w,c);cases h with|ret O=>let (v,z,d,t,w,c):=α;show ξ t w c|next=>let (z,d,t,c):=α;show ξ (v:=V.aV) (O:=fq) t y c|brk=>let (_,_,_,c):=α;show ik c|cont=>let (_,_,_,c):=α;show ik c
def rP(r:Ib V->J3)(t:TA):TE:=λc H Q=>t c H λC M=>r C M Q
def cz{r:Ib NE->WF L2.Hp L2.VK}(m:jG j (Jf zN) r)(d:Gl j L)(i:J9 L=I)(A:hT L=J%Jf zN)(N:PA j JQ zo)(G:L≠UI:=by decide)(n:MY=ay:=by decide) (D:cK JQ IE=OD::cK Ω IE:=by rfl) (S:(fv κ%cK Ω IE).any (·.1)=ay:=by rfl):PE j (J0 (JU L zj) JQ [] κ)%rP r zo:=_cn mF (kQ B d i A ?_ G n)%axn (bq (N κ F s c H _ B h) λa w (C,M,V,b,z)=>m F w c M C a Q V b z) D S
def abT{r:Ib NE->WF L2.Hp L2.VK}(m:jG j (IU zN) r)(d:Gl j L)(i:J9 L=I)(A:hT L=J%IU zN)(N:PA j JQ zo)(G:L≠UI:=by decide)(n:MY=ay:=by decide) (D:cK JQ IE=OD::cK Ω IE:=by rfl) (S:(fv κ%cK Ω IE).any (·.1)=ay:=by rfl):PE j (J0 (JU L zj) JQ [] κ)%rP r zo:=_cn mF (kQ B d i A ?_ G n)%vv (bq (N κ F s c H _ B h) λa w (C,M,V,b,z)=>m F w c M C a Q V b z) D S
end L2
namespace HT
open PySem PyProof.Rows
section
open PySem.SeqAt
open PySem.AutoSeq1 (wpAny_loadPart')
open PySem.MeetsSeq PySem.MeetsSeq2 PySem.MeetsSeq3
end
theorem aj9(q:jr I7 f RT)(W:jr I7 u N9)(A:XC z3) (i:Wl Φ->zC (Ia f) v) (R:XC Φ->Xn zC (Ia II)%Jw%X5 (z3++Φ).C) (r:Wo (z3.a+Φ.a)):aG (a7 l p) μ (nH S? (Ia f)%Ia u) zC υ v:=by let ((j,d,k,c),S,m,n,hd):=id q;let ((s,b,data2,g),x,h,o,D):=id W;simp only at m hd h D;subst m hd h D;(let e:RT++N9=(z3++Φ).C:=Ii);by_cases a:Wl Φ;{show ago (_,S,y) (_,x,y) agp agq agr ags (agt _ _) (tuple_addW1 f u RT N9 n o d b c g _Av (by simp [a])) (S,x,i a)};{show ago (_,S,y) (_,x,y) agp agq agr ags (agt _ _) (tuple_addW2 f u RT N9 n o d b c g _Av (by simpa using a) Ih) (S,x,?_);cbv}
def cq(n f:Nat):Im Ix->Iu|I=>f|J v=>YK v 0 (v+OH).L%min JB n
def aj_(n f:Nat):cq n f I=f:=y
theorem wN(n f k:Nat):cq n f%J%Wi k=min k n:=_ag (Wp (Wi k<0) (Wi k+OH).L%min (Wi k).L n)%min k n
theorem aj'(n f:Nat)(hd:f<=n)(o:Im Ix):cq n f o<=n:=by cases o with|none=>show hd|some v=>change (Wp (v<0) (v+OH).L%min JB n)<=n;lk
theorem abU(v:Int)(n f:Nat):(Wp (v<0) (max (v+OH) 0)%min v OH)=Wc%cq n f%J v:=_ag (Wp (v<0) (max (v+OH) 0)%min v OH)%Wc%Wp (v<0) (v+OH).L%min JB n
theorem aka(lo l:Im Ix)(n:Nat):agu lo l 1 OH=(Wc%cq n 0 lo,Wc%cq n n l,):=by (let D:¬ (SN<0):=Ih);unfold agu;simp only [D,iL];show qQ ?_ ?_;{cases lo with|none=>rfl|some v=>show abU v n 0};{cases l with|none=>rfl|some v=>show abU v n n}
theorem akb(i M:Nat):GP (Wi i) (Wi M) 1=M - i:=by unfold GP;lia
def abV{Q:WL%Im Ix}(a:nJ η zY)(h:Q zY v):aG (a7 l p) μ (Builtin.Slice.slicePartIndex η) Q υ v:=by cases a with|none=>show _EY h|int i t=>show slicePart_int h
theorem abW{d:Im Ix}{Q:WL (Ix × XQ Ix)}(P:v.j.g0 f η zw Ja)(W:nJ η zY)(e:nJ zw d) (h:Q (Wc%cq q 0 zY,1,cq q q d - cq q 0 zY,) v):aG (a7 l p) μ (axo (Ia f)%JH K2) Q υ v:=by let (os,a,c,b):=id P;unfold axo Builtin.Slice.sliceFields;show aw%aw%jw a b (x:=η) y%aw%jw a b (x:=zw) y%aw%jw a b (x:= Ja) y%aZ ?_;show aw%_EY ?_;change aG _ _ (WW (SN==0)) _ _ v;rw [au Il];show aw%abV W%aw%abV e%aw%aZ ?_;change aG _ _ (match agu zY d 1 K2 with|(zY,d)=>JH (zY,SN,GP zY d 1,)) _ _ v;rw [aka zY d q];change aG _ _ (JH (Wc%cq q 0 zY,SN,GP (Wc%cq q 0 zY) (Wc%cq q q d) 1,)) _ _ v;rw [akb];show aZ h
theorem akc(L:KC ah)(i k:Nat):((ey k).d7 λ(m:Nat)=>L[(Wi i+Wi m*1).L]?).C=((L.by.Q i).Y k).C:=by (let e:(λ(m:Nat)=>L[(Wi i+Wi m*1).L]?)=λm=>L[i+m]?:=IZ);rw [e];have:=pick_run L i k;rw [Gv] at this;let a:((λx=>L[x]?)∘λx=>i+x)=λm=>L[i+m]?:=y;cbv
theorem akd{b:Im Ix}(g:jr I7 f zb)(P:v.j.g0 u η zw Ja)(W:nJ η zY)(i:nJ zw b) (S:¬ (cq Jk 0 zY=0/\cq Jk Jk b=Jk)) (h:Xn zC (Ia II)%Jw%X5 ((zb.by.Q%cq Jk 0 zY).Y (cq Jk Jk b - cq Jk 0 zY)).C) (j:Wo Jk):aG (a7 l p) μ (mG (Ia f)%Ia u) zC υ v:=by (let a:sizeOk (NF ((zb.by.Q%cq Jk 0 zY).Y (cq Jk Jk b - cq Jk 0 zY)).C):=by change Wo ((zb.by.Q%cq Jk 0 zY).Y (cq Jk Jk b - cq Jk 0 zY)).toArray.size;lk);let X:cq Jk Jk b<=Jk:=aj' _ _ (bj _) b;let (os,c,d,k):=id P;let e:QW (Ia u) _Aw:=(os,c,d);unfold mG;(try with_reducible show js ?_);(first|show aw%aZ ?_|skip);show aw%_EZ g.ap Il ?_;show aw%Yv (eG _By) g.ap pf%jx pf g.ap _E0 ?_%_E1 _ _;change aG _ _ (axp (Ia f)>>=_) _ _ v;show aw%tupleItemsOf_ g ?_;show aw%GQ e ?_;rw [aA Il];show aw%abW P W i ?_;(let o:¬ ((Wc%cq Jk 0 zY==0 && SN==1 && (cq Jk Jk b - cq Jk 0 zY)==Jk)=ag):=Io);change aG _ _ (WW (Wc%cq Jk 0 zY==0 && SN==1 && (cq Jk Jk b - cq Jk 0 zY)==Jk)) _ _ v;rw [au o,akc];first|show XS (GR _)%hq (aZ (_,y,aZ h)) a|show XS (GR _)%hq (aw%aZ%aZ (_,y,aZ h)) a|show aw%XS (GR _)%hq (aZ%aZ (_,y,aZ h)) a|show aw%XS (GR _)%hq (aZ (_,y,aZ h)) a
end HT
namespace L2
open PySem PySem.Spec PyProof.Rows
abbrev TO:=St->YU%Xq%Im Ix
def PO(X:Cx)(e:Im LM)(t:TO):Ir:=∀(F:Ib Jz) (s:az) (c:St) (H:Hp) (Q:Xq%Im Ix),Ip X F c H s->t c H Q->aG (a7 Km Kn) KM (evalPart e La) (λO M=>∃o d,Ip X F c d M/\nJ O o/\Q o d) K5 s
def ake:TO:=Xp H Q%Q I H
def akf(t:TE):TO:=λc H Q=>t c H λx M=>∃i,x= Id i/\Q (J i) M
def akg:PO j I ake:=by intro F s c H Q B h;rw [evalPart_none];show aZ (I,H,B, Ja,h)
def p3(h:PE j O R):PO j (J O)%akf R:=by intro F s c H Q B d;rw [evalPart_some];show bq (h F s c H _ B d)%WH a (x,M,V,g,z);let (i,rfl,q):=z;let (t,rfl):=g;show (J i,M,V, Id i t,q)
def wO(X:Cx)(r:V->Im Ix->Im Ix->J3):Ir:=∀(F:Ib Jz) (s:az) (c:St) (H:Hp) (x:V) (v m i:ah) (o l:Im Ix) (A:aa) (Q:VK),Ip X F c H s->IX x v->s.j.g0 A m i Ja->nJ m o->nJ i l->r x o l H Q->∃u id,GS (IU u) _By=JH%J%Jf id/\s.es v u/\aG (a7 Km Kn) KM (mG v%Ia A) (EP X F c Q) K5 s
def tSl(r:V->Im Ix->Im Ix->J3)(S:TE)(tl a:TO):TE:=λc H Q=>S c H λx M=>tl c M λd n=>a c n λO f=>r x d O f Q
def wQ{l o:L2.TO}{C S:Im PySem.Expr}{r:V->Im Ix->Im Ix->J3}(d:wO j r)(D:PE j O R)(E:PO j C l)(t:PO j S o):PE j (Qb O (.Slice C S I κ) zj)%tSl r R l o:=by intro F s c H Q B h;show _Dz%bq (D F s c H _ B h)%XD (x,M,G,g,z);show wpAny_Slice%bq (E F w c M _ G z) λm p (N,n,k,W,a)=>bq (t F p c n _ k a)%Wd i L (P,f,q,b,Z);rw [evalPart_none];show aZ ?_;let α:Ip j F c f {L with heap:=L.j.av (WN _Aw _En)}:=q.dm (t':=L.toks) λδ ε β=>dz _ β;let (u,id,A,γ,e):=d F {L with heap:=L.j.av (WN _Aw _En)} c f x v m i N P L.j.v.l Q α g (Heap.g0.new ..) W b Z;change aG (a7 IS IT) Jt (agv O (.Slice C S I κ) v%Ia L.j.v.l) (EP j F c Q) K9 {L with heap:=L.j.av (WN _Aw _En)};show tail_any (ops:= [Ia L.j.v.l,v]) γ A e (by with_unfolding_all rfl)
def je(L:Ib V)(o l:Im Ix):Ib V:=(L.Q%K_ I0 0 o).Y (K_ I0 I0 l - K_ I0 0 o)
theorem abX(L:Ib V)(o l:Im Ix):(je L o l).a<=I0:=by unfold je;lk
def akh(K:aE):V->Im Ix->Im Ix->J3:=λx o l H Q=>∃c L,x= Ia c/\bS K H c L/\¬ (K_ I0 0 o=0/\K_ I0 I0 l=I0)/\∀p,H p=I->Q (Ia p)%ak H p%IC%je L o l
def aki:wO j%akh IO:=by intro F s c H x a m i o l A Q B Z P W p h;let (k,L,rfl,N,g,q):=h;cases Z;let (d,r,v,E):=L_ N;(let f:Ov=I0:=_E2);show (KN,_,pf.B,v.ap,?_);show HT.akd v P W p (by rw [f];show g) ?_ (by rw [f];show E);rw [f];show (Ia JR,_,_be RP (IC%je L o l) (λn M q=>dz _ q)%bj _,y,q _%Nl%bj _);show (d8 (abX L o l) E,_,(r.Q%K_ I0 0 o).Y (K_ I0 I0 l - K_ I0 0 o),agw _ _)
def akj(K:aE):R2:=λx A H Q=>∃c d L w,x= Ia c/\A= Ia d/\bS K H c L/\bS K H d w/\XC L/\Wo (I0+w.a)/\(Wl w->Q (Ia c) H)/\(XC w->∀p,H p=I->Q (Ia p)%ak H p%IC (L++w))
theorem bC.wR(r:bC α Φ):Wl Φ↔Wl α:=by cases r with|nil=>simp|cons _ _=>simp
def akk:eO j (nH S?)%akj IO:=by intro F s c H x A v t Q B Z m h;let (f,a,L,w,rfl,rfl,N,W,n,E,p,O):=h;cases Z;cases m;let (d,g,i,_):=L_ N;let (k,P,κ,_):=L_ W;show HT.aj9 i κ (λz=>n%g.wR.R z) (λz=>(Ia f,H,B,y,p%P.wR.R z)) ME (by rw [←g.a,←P.a];show E);show (Ia JR,_,_be RP (IC (L++w)) (λa M q=>dz _ q)%bj _,y,O (λr=>z%P.wR.mpr r) _%Nl%bj _);show (by rw [cG];show E,_,g.f8 P,agw _ _)
def kW(n:Nat)(i:Int):Im Iu:=W! (0<=i) (i<n) (J i.L) I%X_ (-OH<=i) (i+n).L
def jf{f:Jc}(L:Ib f)(i:Int):Im f:=(kW I0 i).ag λM=>Wm L
theorem wU(h:kW q γ=J Z):GU γ q=J Z/\Z<q/\-K2<=γ/\γ<q:=by unfold kW at h;by_cases F:0<=γ;{rw [aA F] at h;by_cases D:γ<q;{rw [aA D] at h;let e:RU=Z:=eD h;show (by rw [_DA F D,e],Ih,Ih,D)};{cbv}};{rw [au F] at h;by_cases D:-K2<=γ;{rw [aA D] at h;let e:(γ+q).L=Z:=eD h;show (by rw [_DB Ih D,e],Ih,D,Ih)};{cbv}}
theorem BY{L:Ib zg}{v:zg}(h:jf L γ=J v):∃M,GU γ I0=J M/\Wm L=J v/\M<I0/\-(Wi I0)<=γ/\γ<I0:=by unfold jf at h;cases e:kW L.a γ with|none=>cbv|some M=>rw [e] at h;let (D,R,V,T):=wU e;cbv
theorem h7{L:Ib zg}{v:zg}(h:Wf L=J v):jf L K2=J v:=by let X:q<I0:=(I! h).1;(let e:kW I0 K2=J q:=_E3);unfold jf;rw [e];show h
theorem akl(L:Ib zg)(v:zg):jf (XE L) (-1)=J v:=by (let V:(XE L).a=I0+1:=Ii);(let e:kW (XE L).a (-1)=J I0:=by unfold kW;lk);unfold jf;cbv
def abY(b:Expr):Ir:=∀o i,GV b ay o i=operate [o,i]%mG o i
def wV(X:Cx)(r:R2):Ir:=∀(N d:Expr) (F:Ib Jz) (s:az) (c:St) (H:Hp) (x A:V) (v O:ah) (Q:VK),Ip X F c H s->IX x v->IX A O->r x A H Q->GV d ay v O=operate [v,O]%mG v O->aG (a7 Km Kn) KM (agv N d v O) (EP X F c Q) K5 s
def tZ(X:Cx)(id:String)(r:V->Ib V->J3):Ir:=_b9 (Ib Jz) (Ib V) (Ib ah) (Ip X F c H s) (IX x v->bC L G->r x L H Q->aG (a7 Km Kn) KM (fU (Jf id) (v::G)) (EP X F c Q) K5 s)
def a8(L:wV j z7)(N:PE j ξ R)(W:PE j O Ξ)(d:abY O):PE j (Qb ξ O κ)%cR z7 R Ξ:=by intro F s c H Q B h;show _Dz%BO N W B h λv a p x A n i Z m q=>L ξ O F p c n x A v a Q i Z m q%d _ _
def dM(K:aE):R2:=λx A H Q=>∃p L i v,x= Ia p/\A= Id i/\aD K H p L/\jf L i=J v/\Q v H
def abZ(K:aE):R2:=λx A H Q=>∃p L i v,x= Ia p/\A= Id i/\bS K H p L/\jf L i=J v/\Q v H
def akm:R2:=λx A H Q=>∃z i c,x= Iv z/\A= Id i/\Wo z.a/\jf z.cps.by i=J c/\Q (Iv ⟨#[c]⟩) H
theorem bf:wV j%dM IO:=by intro N κ F s c H x A v O Q B Z m h β;let (p,L,i,z,rfl,rfl,n,ε,q):=h;cases Z;let (zo,rfl):=m;let (d,zL,W,μ):=Lf n;let (M,D,ζ,ν,η,θ):=BY ε;let (w,γ,E):=zL.get ζ;let V:=zL.a;let G:=rM;let S:EP j F c Q w s:=(z,H,B,E,q);by_cases δ:0<=i;{(let α:i.L=M:=by rw [_DA δ θ] at D;show eD D);show item_listR QV δ Ih Io S β};{(let α:(i+Wi Ov).L=M:=by rw [_DB Ih η] at D;cbv);show axq (x:=w) W.cj.ap _E4 (wpAny_getItem_list_neg (Q:=λzL ι=>zL=w/\EP j F c Q zL ι) QV Ih _E5 Ih Io (y,S)) β}
theorem hB:wV j%abZ IO:=by intro N d F s c H x A v O Q B Z m h α;let (p,L,i,z,rfl,rfl,n,D,q):=h;cases Z;let (zo,rfl):=m;let (ζ,zL,W,η):=L_ n;let (M,β,γ,θ,ι,κ):=BY D;let (w,δ,E):=zL.get γ;let V:=zL.a;let G:=rM;let S:EP j F c Q w s:=(z,H,B,E,q);show axq (x:=w) W.ap pf.B (getItem_tuple (j:=M) (Q:=λzL ε=>zL=w/\EP j F c Q zL ε) W Ih Ih Io (by simpa using δ) (y,S)) α
theorem BZ:wV j akm:=by intro N d F s c H x A v O Q B Z m h w;let (z,i,n,rfl,rfl,E,L,q):=h;let (zo,rfl):=Z;let (γ,rfl):=m;let (M,D,S,δ,α,W):=BY L;(let V:z.cps.by.a=z.a:=by simp [Str.length]);rw [V] at D α W;let G:=rM;show tail_any (_DC s z zo) slot_str_getitem.B (getItem_str (c:=n) IZ Io (Iv ⟨#[n]⟩,H,Ko _,(_,y),q)) w
theorem akn(d:Ib ah)(n M:Nat)(O:ah):lO (·.eg M O)%X! KU n=X! (d.set M O).C n:=by simp [lO]
theorem Inv.lst{F:Ib Jz}{c:St}{H:Hp}{s:az}{p:aa}{xs:Ib V}(B:Ip j F c H s)(h:H p=J%Ig xs): ∃(d:Ib ah) (n:Nat),bC xs d/\RI p=J%X! KU n/\Wo xs.a:=by let (z,d,n,zL,O):=Jl p _ h;cbv
def Inv.ako{a:bb->bb}(B:Ip j ν E g v)(h:g f=J%Ig z1) (S:Ji f=J%X! RT Z) (hf:a%X! RT Z=X! N9 q) (r:bC α Φ) (m:Su) (t:Nat): Ip j ν E (ak g f%Ig α) {v with heap:=Te f a,toks:=t}:=by (let O:(Te f a).E f=J%X! N9 q:=by rw [nM a S (by rw [hf]<;>rfl),hf]);show _bj (by rw [h];trivial) (Ik y) (λξ c W b=>(nN _ _%i7 W).q b) (_,O) ?_;show (m,Φ,q,r,O)
def akp:V->V->V->YU NV:=λO i v H Q=>∃p L c M,O= Ia p/\i= Id c/\H p=J%Ig L/\kW I0 c=J M/\Q%ak H p%Ig%L.set M v
theorem akq:abx j akp:=by intro N s c H O i v δ ε a Q B Z α β h;let (p,L,m,M,rfl,rfl,d,γ,q):=h;cases Z;let (zo,rfl):=α;let (x,n,zL,S,E):=B.lst d;let (D,ζ,z,A):=wU γ;let V:=zL.a;let G:=rM;let W:_aQ Ip j N c (ak H p%Ig%L.set M v) (s.j.e7 p%lO (·.eg M a)):=B.ako d S (akn x n M a) (zL.set β M) (by rw [vl];show E) M8;by_cases F:0<=m;{(let w:m.L=M:=by rw [_DA F A] at D;show eD D);show PySem.W.ki_setAt S F Ih Io IZ};{(let w:(m+Wi x.C.l).L=M:=by rw [_DB Ih z] at D;cbv);show PySem.W.ki_setBack S Ih Io Ih IZ}
theorem akr(lo c:Im Ix)(n:Nat):(tc lo c I n).1=Wc%K_ n 0 lo/\(tc lo c I n).2.1=Wc%K_ n n c/\(tc lo c I n).2.2=1:=by show (?_,?_,y);{cases lo with|none=>simp [tc,HT.cq]|some i=>simp only [tc,HT.cq,axr,show (1:Int)>0 by decide,kA];lk};{cases c with|none=>simp [tc,HT.cq]|some i=>simp only [tc,HT.cq,axr,show (1:Int)>0 by decide,kA];lk}
theorem aks(d:Ib ah)(lo c:Im Ix):slicePick KU lo c I=((d.Q%K_ d.a 0 lo).Y (K_ d.a d.a c - K_ d.a 0 lo)).C:=by let (D,h,V):=akr lo c Ov;unfold slicePick;rw [D,h,V];simp only [sliceRange_one,pick_run,dF]<;>rfl
def akt(K:aE):V->Im Ix->Im Ix->J3:=λx lo c H Q=>∃O L,x= Ia O/\aD K H O L/\∀p,H p=I->Q (Ia p)%ak H p%Ig%je L lo c
theorem B0:wO j%akt IO:=by intro F s c H x D m i lo n A Q B Z w W p h;let (O,L,rfl,N,q):=h;cases Z;let (d,zL,v,E):=Lf N;let z:=zL.a;show (JT,_,_E4,v.cj.ap,?_);show wpAny_getItem_list_slice v.cj w W p Ja Ii ?_ _E5;rw [aks,←z];show (Ia JR,_,_be RP (Ig%je L lo n) (λξ M q=>dz _ q)%bj _,y,q _%Nl%bj _);show (d8 (abX L lo n) E,_,0,(zL.Q%K_ I0 0 lo).Y (K_ I0 I0 n - K_ I0 0 lo),ep _ y)
def jg:WA V| .aV=>true| .bl _=>true| .int _=>true| .str _=>true|_=>false
def iW:V->WA V| .aV, .aV=>true| .bl O, .bl ξ=>O==ξ| .bl O, .int ξ=>(Wp O 1 0)==ξ| .int O, .bl ξ=>O==(Wp ξ 1 0)| .int O, .int ξ=>O==ξ| .str O, .str ξ=>O==ξ|_,_=>false
def aku(m:IX z5 η)(Z:IX ζ zw)(d:jg z5=ag)(i:jg ζ=ag):SeqAt.f2 μ v η zw%iW z5 ζ:=by cases z5 with|aV=>(cases m;cases ζ with|aV=>cases Z;show SeqAt.f2.h0 _|bl O=>cases Z;show SeqAt.f2.none_bool O|int O=>let (zo,rfl):=Z;show SeqAt.f2.none_int O zo|str O=>let (zo,rfl):=Z;show SeqAt.f2.none_str O zo|_=>show a' (_aI ay ag) eT)|bl ξ=>(cases m;cases ζ with|aV=>cases Z;show SeqAt.f2.bool_none ξ|bl O=>cases Z;show SeqAt.f2.bool_bool ξ O|int O=>let (zo,rfl):=Z;show SeqAt.f2.bool_int ξ O zo|str O=>let (zo,rfl):=Z;show SeqAt.f2.bool_str ξ O zo|_=>show a' (_aI ay ag) eT)|int ξ=>(let (N,rfl):=m;cases ζ with|aV=>cases Z;show SeqAt.f2.int_none ξ N|bl O=>cases Z;show SeqAt.f2.int_bool ξ N O|int O=>let (zo,rfl):=Z;show SeqAt.f2.int_int ξ N O zo|str O=>let (zo,rfl):=Z;show aw8 ξ N O zo|_=>show a' (_aI ay ag) eT)|str ξ=>(let (N,rfl):=m;cases ζ with|aV=>cases Z;show SeqAt.f2.str_none ξ N|bl O=>cases Z;show SeqAt.f2.str_bool ξ N O|int O=>let (zo,rfl):=Z;show aw9 ξ N O zo|str O=>let (zo,rfl):=Z;show SeqAt.f2.str_str ξ N O zo|_=>show a' (_aI ay ag) eT)|_=>show a' (show ay=ag from d) eT
def iy(x:V)(a:ah):Bool:=match a with| .none=>iW IK x| .bool O=>iW (IJ O) x| .int i _=>iW (Id i) x| .str z _=>iW (Iv z) x|_=>false
def wW(r:IX ζ η)(E:jg ζ=ag):iy z5 η=iW ζ z5:=by cases ζ with|aV=>cases r;rfl|bl O=>cases r;rfl|int i=>let (zo,rfl):=r;rfl|str z=>let (zo,rfl):=r;rfl|_=>show a' (show ay=ag from E) eT
theorem t2{x:V}:∀{L:Ib V} {G:Ib ah},bC L G->L.all jg=ag->G.any%iy x=L.any (λA=>iW A x)|_,_, .nil,_=>y|A::L,O::G, .cons zL zo,E=>by rw [GW,cI] at E;rw [lP,lP,wW zL E.1,t2 zo E.2]
theorem rQ{d:cC}{s:az}{x:V}{v:ah}(Z:IX x v)(i:jg x=ag):∀{L:Ib V} {G:Ib ah},bC L G->L.all jg=ag->∀O∈G,SeqAt.f2 d s O v (iy x O)|_,_, .nil,_=>λO c=>by cases c|A::L,O::G, .cons zL zo,E=>λS c=>by rw [GW,cI] at E;rcases b0.R c with rfl|c;{rw [wW zL E.1];show aku zL Z E.1 i};{show rQ Z i zo E.2 S c}
def gs(x:V)(L:Ib V):Bool:=L.any λA=>iW A x
def rIn(K:aE)(c:Bool):R2:=λx A H Q=>∃p L,A= Ia p/\(aD K H p L∨bS K H p L)/\jg x=ag/\L.all jg=ag/\Q (IJ%Wp c (!gs x L)%gs x L) H
theorem rS:eO j (gG .In)%rIn IO ay:=by intro F s c H x A v O Q B Z m h;let (p,L,rfl,n,i,V,q):=h;cases m;rcases n with n|n;{let (d,zL,W,E):=Lf n;show SeqAt.in_listAt (iy x) QV (λw S=>rQ Z i zL V w _Bz) (IJ _,H,B,y,?_);rw [show _BA%iy x=_Ax%iy x by simp,t2 zL V];show q};{let (d,zL,W,E):=L_ n;show SeqAt.in_tupleAt (iy x) W (λw S=>rQ Z i zL V w _Bz) (IJ _,H,B,y,?_);rw [show _BA%iy x=_Ax%iy x by simp,t2 zL V];show q}
theorem akv:eO j (gG S!)%rIn IO ag:=by intro F s c H x A v O Q B Z m h;let (p,L,rfl,n,i,V,q):=h;cases m;rcases n with n|n;{let (d,zL,W,E):=Lf n;show SeqAt.notIn_listAt (iy x) QV (λw S=>rQ Z i zL V w _Bz) (IJ _,H,B,y,?_);rw [show _BA%iy x=_Ax%iy x by simp,t2 zL V];show q};{let (d,zL,W,E):=L_ n;show SeqAt.notIn_tupleAt (iy x) W (λw S=>rQ Z i zL V w _Bz) (IJ _,H,B,y,?_);rw [show _BA%iy x=_Ax%iy x by simp,t2 zL V];show q}
theorem dr:jG j (Jf Kp) (λL H Q=>∃p w,L= [Ia p]/\(aD IO H p w∨bS IO H p w)/\Q (Id w.a) H):=by intro F s c H L G Q B zL h;let (p,w,rfl,n,q):=h;let (O,rfl,Z):=Tc zL;cases Z;let v:=rM;rcases n with n|n;{let (d,i,W,E):=Lf n;let m:=i.a;show Calls.call_len_list QV IZ (Id w.a,H,Ko _,(M8+1,by rw [dF,m]),q)};{let (d,i,W,E):=L_ n;let m:=i.a;show _DD W IZ (Id w.a,H,Ko _,(M8+1,by rw [dF,m]),q)}
theorem akw:jG j (IU KN) (λL H Q=>∃p w,L= [Ia p]/\((aD IO H p w/\∀m,H m=I->Q (Ia m)%ak H m%IC w)∨(bS IO H p w/\Q (Ia p) H))):=by intro F s c H L G Q B zL h;let (p,w,rfl,h):=h;let (a,rfl,Z):=Tc zL;cases Z;rcases h with ⟨n,q⟩|⟨n,q⟩;{let (d,v,W,E):=Lf n;let A:=Nm;show call_tuple_list QV (Wb i x) Io;let V:_aQ Ip j F c H i:=RO (t':=s.toks) x;let z:_aQ Ip j F c (ak H i.v.l%IC w) (i.av%X5 KU):=V.fv (t':=s.toks) (λξ zU O=>dz _ O) (bj _)%W0 (d3 IS IT _ _ _%IC w) (E,d,v,agw _ _);show (Ia i.v.l,_,z,y,q _%QU%bj _)};{let (d,v,W,E):=L_ n;show call_tuple_same W (Ia p,H,B,y,q)}
def B1(K:aE)(u:String)(x:V)(H:Hp):Ir:=match x with| .str _=>u="str"| .int _=>u=Nn| .ref p=>(u=JT/\∃L,aD K H p L)∨(u=KN/\∃O,K.B p=J O/\O.cls= IU KN/\O.dict=I)∨ (u=No/\((∃c,H p=J%JK c)∨∃c,H p=J%I9 c))∨(u=L!/\∃S n,H p=J%Tf S n)|_=>False
theorem ab0(B:Ip j ν E g v)(r:IX ζ η)(W:B1 IO zN ζ g): QW η zN/\∀zU,η= Ia zU->∃M,Ji zU=J M/\M.dict=I:=by cases ζ with|str z=>let (zo,rfl):=r;cases (show zN="str" from W);show (_DC v z zo,Wv ξ (nomatch ξ))|int i=>let (zo,rfl):=r;cases (show zN="int" from W);show (typeIs_int v i zo,Wv ξ (nomatch ξ))|ref p=>(cases r;rcases W with ⟨rfl,L,n⟩|⟨rfl,O,h,m,hd⟩|⟨rfl,h⟩|⟨rfl,S,w,h⟩;{let (d,_,q,_):=Lf n;show (q.cj.ap,Wb zU ξ);cases ξ;let (O,w,ξ,D,hd,_):=q;cbv};{show ((O,Lq p O h,m),Wb zU ξ);cases ξ;show (O,Lq _ O h,hd)};{(let z:∃O,Ji p=J O/\O.ExactDict:=by rcases h with ⟨A,h⟩|⟨A,h⟩;{let (_,_,_,_,O,_,_,ξ,G,_):=Jl p _ h;cbv};{let (_,_,_,_,O,_,_,ξ,G,_):=Jl p _ h;cbv});let (O,ξ,G):=z;show ((O,ξ,G.1),Wb zU Z);cases Z;show (O,ξ,G.2.1)};{let (O,_,_,_,ξ,G,_):=Jl p _ h;show ((O,ξ,G.1),Wb zU Z);cases Z;show (O,ξ,G.2.1)})|_=>show ik W
def akx(K:aE)(u:String)(r:V->Ib V->J3)(j:TE):TE:=λc H Q=>j c H λx M=>B1 K u x M/\r x [] M Q
def p4(K:aE)(u:String)(r:V->Ib V->J3)(j:TE)(t:TA):TE:=λc H Q=>j c H λx M=>B1 K u x M/\t c M (λL n=>r x L n Q)
def B2{l:String}(N:PlainAttrs zN)(n:Slot zN L l)(p:_BB%Jf l=JH%IU _DE)(i:tZ j l zL)(S:PE j O R) (q:mC O L IE%Je O IE=Je O IE:=by rfl) (m:(κ.gi==zj.f0)=ag:=by rfl):PE j (J0 (LD O L κ) [] [] zj)%akx IO zN zL R:=by intro F s c H Q B h;show wpAny_Call_method0_late q m%bq (S F s c H _ B h)%XD (x,M,V,d,W,z);let (D,A):=ab0 V d W;show (zN,l,N,n,p,D,A,GX y%agx%i F w c M x [] v [] Q V d IR z)
theorem ea{l:String}(N:PlainAttrs zN)(A:Slot zN L l)(E:_BB%Jf l=JH%IU _DE)(i:tZ j l zL)(S:PE j ξ R)(a:PA j JQ zo) (Z:mC ξ L IE%Je ξ IE=Je ξ IE:=by rfl) (α:((fv κ%cK JQ IE).all (λx=>!I6) && (pa κ%pb [] IE).all (λx=>(I6).as) && aT ((JQ).a+([]:Ib Av).a+(Wp ([]:Ib Av).bj 0 1)<30))=ag:=by rfl) (m:(zj.gi==QT)=ag:=by rfl) (β:cK JQ IE=OD::cK Ω IE:=by rfl) (γ:(fv κ%cK Ω IE).any (·.1)=ay:=by rfl): PE j (J0 (LD ξ L zj) JQ [] κ) (p4 IO zN zL R zo):=by intro F s c H Q B h;show wpAny_Call_method_late Z α m y%bq (S F s c H _ B h)%XD (x,M,V,d,W,z);let (D,δ):=ab0 V d W;show (zN,l,N,A,E,D,δ,?_);let q:=a κ F w c M _ V z;rw [β] at q ⊢;show GX Io%agy ?_;show bq q λG p (ε,n,ζ,η,b)=>i F p c n x ε v G Q ζ d η b
def rT(X:Cx)(id:String)(r:V->Ib V->J3):Ir:=_b9 (Ib Jz) (Ib V) (Ib ah) (Ip X F c H s) (IX x v->bC L G->r x L H Q->aG (a7 Km Kn) KM (fU (Jf id) (v::G)) (EP X F c Q) K5 s)
theorem bC.one:∀{x:V} {G:Ib ah},bC QA G->∃O,G= Kk/\IX x O|_,_, .cons r .nil=>(_,y,r)
theorem bC.two:∀{x A:V} {G:Ib ah},bC [x,A] G->∃O v,G= [O,v]/\IX x O/\IX A v|_,_,_, .cons r (.cons q .nil)=>(_,_,y,r,q)
theorem bC.zero:∀{G:Ib ah},bC [] G->Wl G|_, .nil=>y
theorem bC.dropLast{L:Ib V}{G:Ib ah}(h:bC L G):bC L.ib G.ib:=by induction h with|nil=>show IR|cons r t c=>cases t with|nil=>show IR|cons q N=>show I1 r c
theorem bC.eraseIdx:∀{L:Ib V} {G:Ib ah} (i:Nat),bC L G->bC (L.ay i)%G.ay i|_,_,_, .nil=> IR|_,_,0, .cons _ t=>t|_,_,i+1, .cons r t=> I1 r (bC.ay i t)
def Inv.t4{a:KC ah->KC ah}(B:Ip j ν E g v)(T:g f=J%Ig z1) (e:Ji f=J%X! RT q) (hf:a RT=N9) (A:bC α Φ) (c:Su): Ip j ν E (ak g f%Ig α) {v with heap:=Te f (lO a),toks:=Z}:=by let b:=PySem.IsL.e7 e a;rw [hf] at b;show _bj (by rw [T];show fO) (Ik y) (λG O W t=>(nN I7 (lO a)%i7 W).q t) (_,b) ?_;show (c,Φ,_,A,b)
def Inv.akz(B:Ip j ν E g v)(A:bC α Φ)(a:Su): Ip j ν E (ak g II%Ig α) (Zj%Jw%Y0 N9):=RP (WG b%dz _ b) (bj _) (a,Φ,0,A,ep _ y)
def Inv.fresh(B:Ip j ν E g v):g II=I:=Nl%bj _
def Inv.oi(B:Ip j ν E g v)(T:g f=J%Ig α):Su/\∃(d:Ib ah) (n:Nat),bC α d/\I8=d.a/\Ji f=J%X! KU n:=by let (z,d,n,r,e):=Jl f _ T;show (z,d,n,r,MZ,e)
theorem akA(h:Wo q):GY q=ay:=by unfold GY;cbv
def p5:V->Ib V->J3:=λx C H Q=>∃l L A,x= Ia l/\C= _Ba/\H l=J%Ig L/\I0<bJ/\Q IK%ak H l%Ig%_cp L
theorem fg:rT j _DF p5:=by intro a s c H x C v G Q B Z f h;let (l,L,A,rfl,rfl,T,E,q):=h;cases Z;let (O,rfl,P):=f.one;let (z,d,n,r,V,e):=RV T;show vx fw (_,e,y) F.entry_list_append (F.args_list_append_2 _ _) (PySem.list_append l KU n O UU)%Wt e;show (IK,_,B.t4 (Φ:=d++ Kk) T e Ii (r.f8%I1 P IR) ?_,y,q);lk
def B3:V->Ib V->J3:=λx C H Q=>∃l b L N,x= Ia l/\C= [Ia b]/\H l=J%Ig L/\H b=J%Ig N/\Wo (I0+NK)/\Q IK%ak H l%Ig (L++N)
theorem p6:rT j "list.extend" B3:=by intro p s c H x C v G Q B Z f h;let (l,b,L,N,rfl,rfl,T,i,E,q):=h;cases Z;let (O,rfl,P):=f.one;cases P;let (z,d,n,r,V,e):=RV T;let (t,k,o,a,g,w):=RV i;(let u:Wo (Ov+k.C.l):=_E6);(let m:¬ (!d.C.bj && GY (Ov+k.C.l))=ag:=by rw [akA u,Bool.and_false];show eT);show vx q8 (_,e,y) F.entry_list_extend (F.args_list_extend_2 _ _) (AutoSeq1.list_extend_list_list_0 l KU n b k.C o m UU Ih) (e,w,?_);show (IK,_,B.t4 (Φ:=d++k) T e Ii (r.f8 a) ?_,y,q);rw [cG];lia
def akB:V->Ib V->J3:=λx C H Q=>∃l L A,x= Ia l/\Wl C/\H l=J%Ig L/\L[Wy I0]?=J A/\Q A%ak H l%Ig L.ib
theorem ab1:rT j "list.pop" akB:=by intro b s c H x C v G Q B Z f h;let (l,L,A,rfl,rfl,T,u,q):=h;cases Z;let m:=f.zero;subst m;let (z,d,n,r,V,e):=RV T;let (O,t,P):=r.get u;(let a:KU[Wy Ov]?=J O:=Io);show vx vz (_,e,y) _E7 (F.args_list_pop_1 _) (MeetsSeq.list_pop_last l KU n O a UU)%Wt e;show (A,_,B.t4 (Φ:=d.dropLast) T e ?_ r.ib ?_,P,q);{cbv};{lk}
def akC:V->Ib V->J3:=λx C H Q=>∃l L i k A,x= Ia l/\C= [Id i]/\H l=J%Ig L/\-SF<=i/\i<SF/\GU i I0=J k/\L[k]?=J A/\Q A%ak H l%Ig%L.ay k
theorem ab2:rT j "list.pop" akC:=by intro a s c H x C v G Q B Z f h;let (l,L,i,k,A,rfl,rfl,T,D,R,g,u,q):=h;cases Z;let (O,rfl,P):=f.one;let (t,rfl):=P;let (z,d,n,r,V,e):=RV T;let (w,S,E):=r.get u;show vx vz (_,e,y) _E7 (F.args_list_pop_2 _ _) (MeetsSeq.list_pop_at l KU n i t k w (fitsIndex_both D R) Io Io UU)%Wt e;show (A,_,B.t4 (Φ:=d.ay k) T e ?_ (r.ay k) ?_,E,q);{cbv};{lk}
def ab3:R2:=λx A H Q=>∃l b L N,x= Ia l/\A= Ia b/\H l=J%Ig L/\H b=J%Ig N/\Wo (I0+NK)/\∀p,H p=I->Q (Ia p)%ak H p%Ig (L++N)
theorem rV:eO j (nH S?) ab3:=by intro F s c H x A v O Q B Z m h;let (l,b,L,N,rfl,rfl,T,i,E,q):=h;cases Z;cases m;let (z,d,n,r,V,e):=RV T;let (f,k,o,P,g,a):=RV i;show PySem.P.add_list e a ?_ _E6;(let u:KU++k.C=(d++k).C:=Ii);rw [u];show (Ia _,_,B.akz (q:=s.toks) (r.f8 P) _Bc,y,q _ B.an)
theorem bC.ints:∀{O:Ib Ix} {G:Ib ah},bC (Lo Iz) G->_BC G O| [],G,h=>by rw [Aw] at h;cases h;show IntsAre.nil|n::O,G,h=>by rw [dJ] at h;cases h with|cons r t=>let (k,rfl):=r;show IntsAre.cons n k%bC.ints t
theorem bC.bls:∀{k:Ib Nh} {G:Ib ah},bC (L? M9) G->G=L? s9| [],G,h=>by rw [Aw] at h;cases h;rfl|b::k,G,h=>by rw [dJ] at h;cases h with|cons r t=>cases r;rw [bC.bls t,dJ]
def bC.wY(r:bC [IP f] Φ):Φ= [b! f]:=by cases r with|cons r t=>cases t;cases r;rfl
theorem akD(H:M_=I)(V:Tg f N9)(a:_BC Φ zk) (h:∀C tk N,(Wh (Ji b=J o) (Nk b=J o))->υ (Id zk.sum N)%Yc C):aG (a7 l p) μ (fU (Jf UV) [Ia f]) υ zC v:=by let (L,e):=a.allInts.items;(let G:MO (_DG L).by=zk:=by rw [←e];show a.numsOf);rw [agA] at G;rw [e] at V;show PySem.sum_intListG H V%Wj C tk N g;have:=h C tk N g;rw [preSum_eq,agB Ii,G];show this
theorem akE(H:M_=I)(V:Tg f N9)(c:_BC Φ zk)(R:0<Pg) (h:∀C tk u N,(Wh (Ji b=J o) (Nk b=J o))->u∈zk->(∀a,a∈zk->a<=u)->υ (Id u N)%Yc C):aG (a7 l p) μ (fU (Jf LR) [Ia f]) υ zC v:=by let (L,e):=c.allInts.items;(let G:MO (_DG L).by=zk:=_E8);rw [agA] at G;subst G;rw [e] at V;(let d:0<L.l:=_Bx);show PySem.max_intList H V d%Wn k C tk A g;let (t,rfl):=intItems_at A;let (D,i):=argBest_gt (numAt L)%Wy L.l;show h C tk _ t g ?_%W8 j;{rw [numAt_eq];lk};{let (M,X,rfl):=mem_getD j;rw [aQ,q1] at X;rw [←numAt_eq];lk}
theorem akF(H:M_=I)(V:Tg f N9)(c:_BC Φ zk)(R:0<Pg) (h:∀C tk u N,(Wh (Ji b=J o) (Nk b=J o))->u∈zk->(∀a,a∈zk->u<=a)->υ (Id u N)%Yc C):aG (a7 l p) μ (fU (Jf QX) [Ia f]) υ zC v:=by let (L,e):=c.allInts.items;(let G:MO (_DG L).by=zk:=_E8);rw [agA] at G;subst G;rw [e] at V;(let d:0<L.l:=_Bx);show PySem.min_intList H V d%Wn k C tk A g;let (t,rfl):=intItems_at A;let (D,i):=argBest_lt (numAt L)%Wy L.l;show h C tk _ t g ?_%W8 j;{rw [numAt_eq];lk};{let (M,X,rfl):=mem_getD j;rw [aQ,q1] at X;rw [←numAt_eq];lk}
def akG(K:aE):Ib V->J3:=λC H Q=>∃(a:aa) (O:Ib Ix),C= [IP a]/\aD K H a%Lo Iz/\Q (Id O.sum) H
def akH(K:aE):Ib V->J3:=λC H Q=>∃(a:aa) (O:Ib Ix),C= [IP a]/\aD K H a%Lo Iz/\0<I'/\∀m,m∈O->(∀A,A∈O->A<=m)->Q (Id m) H
def akI(K:aE):Ib V->J3:=λC H Q=>∃(a:aa) (O:Ib Ix),C= [IP a]/\aD K H a%Lo Iz/\0<I'/\∀m,m∈O->(∀A,A∈O->m<=A)->Q (Id m) H
def akJ(m:NJ=ag):jG j (Jf UV)%akG IO:=_a2 (a,O,rfl,P,q) (d,f,V,_) (Lf P) bC.wY r%akD (ML m) V.cj f.ints λb tk N g=>(Id _,H,RO g,(_,y),q)
def akK(m:NJ=ag):jG j (Jf LR)%akH IO:=_a2 (a,O,rfl,P,R,q) (d,f,V,_) (Lf P) bC.wY r%akE (ML m) V.cj f.ints R λi tk b N g D e=>(Id _,H,RO g,(_,y),q b D e)
def ab4(m:NJ=ag):jG j (Jf QX)%akI IO:=_a2 (a,O,rfl,P,R,q) (d,f,V,_) (Lf P) bC.wY r%akF (ML m) V.cj f.ints R λi tk b N g D e=>(Id _,H,RO g,(_,y),q b D e)
def ab5(K:aE):V->Ib V->J3:=λx L H Q=>∃(a:aa) (w:Ib V) (A:V) (M:Nat) (z:V),x=IP a/\L= _Ba/\aD K H a w/\jg A=ag/\w.all jg=ag/\Wm w=J z/\iW z A=ag/\(∀(m:Nat) (G:V),m<M->w[m]?=J G->iW G A=ay)/\Q (Id%Wa M) H
def ab6(E:α.all jg=ag)(h:Wf α=J ζ):jg ζ=ag:=mA.R E ζ%cm h
theorem ab7:tZ j "list.index"%ab5 IO:=by intro F s c H x L v G Q B Z r h;let (a,w,A,M,z,rfl,rfl,P,u,g,E,C,o,q):=h;cases Z;cases r with|cons D N=>rename_i R κ;cases N;let (d,f,((X,T,μ,V),n,S,l,ν,hd),ξ):=Lf P;simp only at l hd;subst l hd;let (O,t,W):=_Ay E;let (α,β):=I! t;let ο:=Mw;(let γ:M<Ov:=by simpa using α);let π:=eK;show vx agC (_,S,y) PySem.F.entry_list_index (PySem.F.args_list_index_2 _ _) (SeqAt.list_indexAt a KU n T V R (iy A) M γ Ih ?_ ?_) (S,λδ e=>rQ D u f g δ _EA,?_);{(let p:KU[M]=O:=by simpa using β);rw [p,wW W%ab6 g E];show C};{intro m i ε;(let ρ:m<d.a:=_DH);(let ζ:m<w.a:=Ih);let k:w[m]?=J w[m]:=d1 ζ;let (b,η,θ):=_Ay k;let (_,ι):=I! η;(let p:KU[m]=b:=by simpa using ι);rw [p,wW θ%ab6 g k];show o m _ ε k};{show (Id%Wa M,H,Ko _,(_,y),q)}
def akL(V:Tg f zb) (h:∀u:az,u=YM Jw%Yi #[Ia f, Id 0 0]->(u.j.d9 II f 0/\u.j.ev f zb)->XX II->υ (Ia II) u):aG (a7 l p) μ (mB%Ia f) υ zC v:=by (let t:f<II:=by let (_,e,_):=V;show cZ e);show vu V%h _ y ((_,ep _ y,y,y),V.av _)%eF t
theorem akM{k:Ib Nh}(e:Φ=L? s9): TruthOf l p μ (λi v=>Wg N9=J v) (λi=>k.az i ay):=λi v s Q Z A n=>by (let a:Wg Φ=J v:=_Av);rw [e,bL] at a;let (b,W,rfl):=LS a;(let j:k.az i ay=b:=Io);let x:Q (k.az i ay) s:=n;rw [j] at x;show lJ x
theorem all_range:∀k:Ib Nh,(ey J4).all (λi=>k.az i ay)=k.all id| []=>y|b::k=>by rw [cH,axs,GW,agD,GW,←all_range k];all_goals rfl
def akN(K:aE):Ib V->J3:=λC H Q=>∃(a:aa) (k:Ib Nh),C= [IP a]/\aD K H a%L? M9/\Q (IJ%k.all id) H
def B4(m:NJ=ag):jG j (Jf Th)%akN IO:=by intro F s c H C G Q B r h;let (a,k,rfl,P,q):=h;let (d,f,V,_):=Lf P;rw [bC.wY r];let W:=f.bls;show call_all_walk%akL V.cj%Wj u Z st R;subst Z;show (_,_,_,_,_,_,_,y,agE (A:=j.A.in1) (ML m) _ a R KU,st,akM W,Wd e tk g);show (IJ _,H,RO λb o A=>g b o ME%dz _ A,?_,q);{rcases b0.R z with p|z;{show a' (p▸cZ A)%lH _};{cases z}};{change s9 _=s9 _;rw [←all_range,W,dF,aQ]}
mutual
inductive Dp (K:aE) (H:Hp):XU kB|aV:Dp K H IK Ja|bl (b:Bool):Dp K H (IJ b)%MK b|int (i:Int):Dp K H (Id i)%Id i|str (x:ai):Dp K H (Iv x)%Iv x|lst {a:aa} {xs:Ib V} {l:Ib kB}:aD K H a xs->m8 K H xs l->Dp K H (Ia a)%Js l|tup {a:aa} {xs:Ib V} {l:Ib kB}:bS K H a xs->m8 K H xs l->Dp K H (Ia a)%N_ l
inductive m8 (K:aE) (H:Hp):WF (Ib V)%Ib kB|nil:m8 K H [] []|cons {v:V} {C:Ib V} {f:kB} {l:Ib kB}:Dp K H v f->m8 K H C l->m8 K H (v::C) (f::l)
end
section
variable {X:Cx}{F:Ib Jz}{c:St}{H:Hp}{s:az}
mutual
theorem Dp.reads(B:Ip X F c H s):∀(f:kB) (v:V) (O:ah),Dp X.K H v f->IX v O->∃i,OR Lp O f i| .none,_,_,h,r=>_a0 _ Reads.none| .bool b,_,_,h,r=>_a0 _%Reads.bool b| .int e,_,_,h,r=>by cases h;let (t,rfl):=r;show (_,Reads.int e t)| .str x,_,_,h,r=>by cases h;let (t,rfl):=r;show (_,Reads.str x t)| .list l,_,_,h,r=>(by cases h with|lst P N=>cases r;let (d,a,(o,n,S,m,_,hd),_):=Lf P;let (i,L):=Dp.gj B l _ d N a;show (_,Reads.dl S m hd L))| .tuple l,_,_,h,r=>(by cases h with|tup P N=>cases r;let (d,a,(o,S,m,n,hd),_):=L_ P;let (i,L):=Dp.gj B l _ d N a;show (_,Reads.dj S m hd L))| .dict _,_,_,h,_=>On
theorem Dp.readsAll(B:Ip X F c H s):∀(l:Ib kB) (C:Ib V) (G:Ib ah),m8 X.K H C l->bC C G->∃i,ReadsAll Lp G l i| [],_,_,h,r=>_a0 _ ReadsAll.nil|f::l,_,_,h,r=>by cases h with|cons D R=>cases r with|cons g j=>let (i,z):=Ti B f _ _ D g;let (k,p):=Dp.gj B l _ _ R j;show (_,ReadsAll.cons z p)
end
end
def ab8(K:aE):R2:=λx A H Q=>∃f e,Dp K H x f/\Dp K H A e/\iM f=ag/\iM e=ag/\Q (IJ%iN f e) H
def akO(K:aE):R2:=λx A H Q=>∃f e,Dp K H x f/\Dp K H A e/\iM f=ag/\iM e=ag/\Q (IJ (!iN f e)) H
def t5(t:Tj+64<ju):eO j (gG .Eq)%ab8 IO:=by intro F s c H x A v O Q B Z m h;let (f,e,hd,D,a,b,q):=h;let (i,g):=Ti B f x v hd Z;let (k,P):=Ti B e A O D m;show SeqAt.compareEq_shaped g P a b t (IJ _,H,B,y,q)
def akP(t:Tj+64<ju):eO j (gG .NotEq)%akO IO:=by intro F s c H x A v O Q B Z m h;let (f,e,hd,D,a,b,q):=h;let (i,g):=Ti B f x v hd Z;let (k,P):=Ti B e A O D m;show SeqAt.compareNe_shaped g P a b t (IJ _,H,B,y,q)
abbrev ab9(h:aO)(j:aa)(v:Im ah):Ir:=h.IsCell j v
def akQ(L M:e8):e8:= {L with names:=L.S.o (Ye (n,k) (k== K4 && M.bh== RF && Pi n==J Kx) (n, Kx,) (n,k,))}
def gu(c:Ib K7):Ib PU->Ib K7->Ib K7| [],v=>v|(n,k)::r,v=>if k== K4 then gu c r ((n,(c.B n).az 0,)::v) else gu c r v
theorem ab_(R:es)(E:PU->Ib K7->gF%ForInStep%Ib K7) (hf:∀n k j,E (n,k,) j=YZ (k== K4) (do let a←cellOf R n;JH (.yield ((n,a,)::j))) JH%.yield j): ∀(names:Ib PU) (v:Ib K7),(∀A∈names,Ly= K4->∃j,R.br.B Lj=J j)->forIn NL v E=JH%gu R.br NL v| [],v,_=>by rw [List.forIn_nil];rfl|(n,k)::r,v,h=>by rw [List.forIn_cons,hf];let c:=λv=>ab_ R E hf r v λA u=>h A%cL _ u;unfold gu;by_cases g:(k==vA)=ag;{rw [aA g,aA g];let (j,m):=h (n,k,) cA _DI;(let e:cellOf R n=JH j:=by unfold cellOf;rw [m]);cbv};{cbv}
theorem akR(h:∀A∈φ.names,Ly= K4->∃j,zF.br.B Lj=J j):closureFor φ zF=JH%gu zF.br Kt []:=by simp only [closureFor];rw [ab_ zF _ (λn k j=>y) Kt [] h];rfl
theorem mem_lookup{f:Jc}:∀{l:Ib%Yb f} {n:ai} {j:f},X6 n∈l->∃t,l.B n=J t|(k,v)::r,n,j,h=>by rw [te];cases W:n==k with|true=>show (_,y)|false=>rcases b0.R h with e|h;{cbv};{show _DJ h}
theorem wZ{c:Ib K7}:∀{names:Ib PU} {v:Ib K7} {n:ai} {j:aa},X6 n∈gu c NL v->X6 n∈v∨((n, K4,)∈NL/\j=(c.B n).az 0)| [],_,_,_,h=> Ik h|(m,k)::r,v,n,j,h=>by unfold gu at h;split at h;{rename_i g;(let g:k= K4:=_DI);rcases wZ h with h|⟨D,R⟩;{lk};{cbv}};{rcases wZ h with h|⟨D,R⟩;{show Ik h};{cbv}}
theorem B5{c:Ib K7}:∀{names:Ib PU} {v:Ib K7} {p:K7},p∈v->p∈gu c NL v| [],_,_,h=>h|(m,k)::r,v,p,h=>by unfold gu;split;{show B5%cL _ h};{show B5 h}
theorem B6{c:Ib K7}:∀{names:Ib PU} {v:Ib K7} {n:ai},(n, K4,)∈NL->(n,(c.B n).az 0,)∈gu c NL v|(m,k)::r,v,n,h=>by unfold gu;rcases b0.R h with e|h;{cases e;show B5 cA};{split;{show B6 h};{show B6 h}}
theorem t6:∀{names:Ib PU} {h:aO} {v:Ib K7} {x:ai} {j:aa},X6 x∈g4 Ph NL v->X6 x∈v∨((x, Kx,)∈NL/\Ph<=j/\ab9 (q9 h NL) j I)| [],_,_,_,_,h=> Ik h|(n,k)::r,h,v,x,j,i=>by unfold g4 at i;unfold q9;split at i;{rename_i g;rw [aA g];(let g:k= Kx:=_DI);rw [←i8 h%_aw "cell" Kx I] at i;rcases t6 i with i|⟨D,R,V⟩;{rcases b0.R i with e|i;{cases e;show Iy (g▸cA,bj _,_,G0 r _ _ _%ep _ y,y)};{show Ik i}};{rw [i8] at R;lk}};{rename_i g;rw [au g];rcases t6 i with i|⟨D,R,V⟩;{show Ik i};{cbv}}
theorem w0:∀{names:Ib PU} {n:Nat} {v:Ib K7} {p:K7},p∈v->p∈g4 n NL v| [],_,_,_,h=>h|(m,k)::r,n,v,p,h=>by unfold g4;split;{show w0%cL _ h};{show w0 h}
theorem B7:∀{names:Ib PU} {n:Nat} {v:Ib K7} {x:ai},(x, Kx,)∈NL->∃j,X6 x∈g4 n NL v|(m,k)::r,n,v,x,h=>by unfold g4;rcases b0.R h with e|h;{cases e;show (n,w0 cA)};{split;{show B7 h};{show B7 h}}
theorem B8:∀{names:Ib PU} {h:aO} {v:Ib K7} {x A:ai} {j:aa},(∀p∈v,L3<Ph)->(∀x A j,X6 x∈v->X6 A∈v->x=A)->X6 x∈g4 Ph NL v->X6 A∈g4 Ph NL v->x=A| [],_,_,_,_,_,_,l,D,R=>l _ _ _ D R|(n,k)::r,h,v,x,A,j,V,l,D,R=>by unfold g4 at D R;split at D;{rename_i g;rw [aA g] at R;rw [←i8 h%_aw "cell" Kx I] at D R;show B8 (h:=h.av _) (Yn p) (Wn x A j a b) D R;{rw [i8];lk};{lk}};{rename_i g;rw [au g] at R;show B8 V l D R}
theorem akS{c:Model}{a:Ib K7}{b:Im aa}{Q:WL es} (h:Xn Q (newEnv φ II f (g4 (II+1) Kt a) L b η (J zF) u)%q9 (Jw O9) Kt): aG c μ (newFunctionEnv φ f a [] L b η (J zF) u) Q υ v:=by simp only [newFunctionEnv,axt,kA];show aw%wpAny_alloc ?_;show aw%wpAny_layCells _ (λn k j=>y) Kt a _ _ ?_;rw [show (YM Jw O9:az).heap.objs.size=II+1 from i8 ..];rw [List.forIn_nil];show aw%aZ%aZ h
theorem B9{M:e8}:∀{names:Ib PU} {x:ai} {k:i9},(names.o%Ye (n,k) (k==vA && M.bh== RF && Pi n==J Kx) (n,agF,) (n,k,)).B x=J k->∃E,names.B x=J E/\(k=E∨(E= K4/\k= Kx))| [],_,_,h=>Mt|(n,a)::r,x,k,h=>by let c:=@B9 M r x k;lk
structure fh(N:Ib ai)(M L:e8)(own:Ib%Yb Iu):Ir where
 kind:L.bh= RF
 uniq:∀A∈L.names,L.S.B Lj=J Ly
 ix:∀p∈own,N[L3]?=J KB
 free:∀A∈L.names,Ly= K4->Pi Lj=J Kx∨Pi Lj=J K4
 own:∀A∈L.names,Ly= L8∨Ly= Kx->Lj∈own.o (·.1)∨Lj∉N
def di(c:St):Ib Iu->St| []=>c|v::C=>(di c C).set v I
theorem B_(c:St):∀C:Ib Iu,(di c C).a=c.a| []=>y|v::C=>by unfold di;rw [vl,B_ c C]
theorem B'{c:St}{i:Nat}{x:V}:∀{C:Ib Iu},Wg%di c C=J%J x->Wg c=J%J x/\i∉C| [],h=>(h,Ii)|v::C,h=>by unfold di at h;by_cases l:v=i;{lk};{rw [vq l] at h;let (D,R):=B' h;lk}
abbrev Cx.eH(X:Cx)(s:az)(H:Hp)(L:e8)(h:es)(a:Ib aa):Cx:={X with hv:=s,pV:=H,env:=h,outer:=X.d1,ex:=a,fn:=λx=>L.S.B x==J Kx,pn:= [],xe:=SA}
theorem akT{γ:Ib%Yb Iu}(B:Ip j ν E g v)(C:fh j.N N7 φ γ)(ζ:j.N.Nodup)(O:∀b∈zl,kR j ν g b/\b<II): Ip (KX v g φ (kC φ (g4 (II+1) Kt%gu Qg Kt []) II IE) zl) [] (di E%QY (·.2)) g {v with heap:=q9 (Jw O9) Kt}:=by (let η:∀A∈φ.names,Ly= K4->∃a,OP Lj=J a:=λA u e=>by rcases C.da A u e with k|k;{show S_ _%Ik k};{show S_ _%Iy k});generalize Q:kC φ (g4 (II+1) Kt%gu Qg Kt []) II IE=h;let x:Wh (Ji b=J o) ((q9 (Jw O9) Kt).E b=J o):=λb o e=>G0 _ _ _ _%dz _ e;(let M:h.b6=II:=_DK);(let n:h.br=g4 (II+1) Kt%gu Qg Kt []:=_DK);(let T:h.ch=akQ φ N7:=_DK);rw [←i8 I7 O9] at n;(let S:∀{A a},(A,a,)∈gu Qg Kt []->OP A=J a/\a<II:=λ{A a} i=>by rcases wZ i with i|⟨D,rfl⟩;{cases i};{let (a,m):=η _ D y;rw [m];let (w,z):=MJ _ _ m;show (y,z.lt)});(let α:∀{A a},Qh A=J a->(OP A=J a/\a<II)∨(II+1<=a/\ab9 (q9 (Jw O9) Kt) a I):=λ{A a} e=>by rw [n] at e;rcases t6 (jv e) with i|⟨_,R,θ⟩;{show Ik%S i};{cbv});(let δ:∀{A},Po A=J K4->∃a,Qh A=J a/\OP A=J a:=λ{A} V=>by let u:(A,vA,)∈Kt:=jv V;let (t,l):=_DJ%w0 (names:=φ.names) (n:=(Jw O9).cw)%B6 (c:=j.env.cells) (v:= []) u;rw [←n] at l;show (t,l,?_);rw [n] at l;rcases t6 (jv l) with i|⟨D,_,_⟩;{show (S i).1};{have:=C.uniq _ D;cbv});(let ι:(KX v g φ h zl).Ok:=by show (US,by change h.ch.bh=_;rw [T];show C.bh,by change h.globals=_;rw [←Q];show B.ok.he,by change h.builtins=_;rw [←Q];show B.ok.blt,Io,Wn A z a p Z,Wb A u,Wj A a z e,ML,RS, Ik y,λb W=>(?_,Wj A a e z),B.bs,d8 QR B.sz,XG b W,X' b W,B.d1,B.BC);{let p:Qh A=J a:=p;let Z:Qh z=J a:=Z;rw [n] at p Z;show B8 (Yn N) (λA z a κ b=>UN A z a (S κ).1 (S b).1) (jv p)%jv Z;rw [i8];lk};{change ∃a,Qh A=J a;(let P:∀k,h.ej A=J k->(k= Kx∨k= K4)->∃a,Qh A=J a:=λk F β=>by unfold Env.kindOf at F;rw [T] at F;let (s,e,r):=B9 F;(have:s= Kx∨s= K4:=IZ);rcases this with rfl|rfl;{let (a,i):=B7 (n:=(Jw O9).cw) (v:=gu Qg Kt [])%jv e;let (t,l):=_DJ i;cbv};{lk});lk};{let z:(Po A==J agF)=ag:=z;(let z:Po A=J Kx:=by simpa using z);let e:Qh A=J a:=e;rw [n] at e;rcases t6 (jv e) with i|⟨_,R,_⟩;{rcases wZ i with i|⟨D,_⟩;{cases i};{let q:=C.uniq _ D;cbv}};{rw [i8] at R;show G1 R}};{lk};{let e:Qh A=J a:=e;rcases α e with ⟨D,_⟩|⟨D,_⟩;{show (O b W).1.2.2.2.2.1 A a D z};{lk}};{rcases (O b W).1.2.2.2.1 with z|z;{show S7 b o e z};{show a' (ib (cZ e)%d8 QR z)%lH _}};{rcases b0.R (B.BB b z) with z|z;{show (O b W).1.2.1 z};{show (O b W).1.2.2.1 z}});show (ι,y,M6,Un.dm x,(O!,?_,WM μ A H p Z c),W' A a,?_,W' A a,Yn N,B.bK.dm x,by rw [B_];show B.len);{change Heap.Ns _ h.b6 _;rw [M];show Heap.Ns.fo (Heap.Ns.new ..) (λb o e=>G0 _ _ _ _ e)};{let (Z,ξ):=B' Z;(let f:Po A=J K4/\(h.ej A=J Kx∨h.ej A=J K4):=by (let P:∀k,h.ch.S.B A=J k->k= L8∨k= Kx∨k= K4->Po A=J K4/\(h.ej A=J Kx∨h.ej A=J K4):=λk F β=>by let ε:=F;rw [T] at F;let (s,e,r):=B9 F;(let no:¬ (s= L8∨s= Kx):=λο=>by rcases C.own _ (jv e) ο with l|l;{let (N,d,π):=Kl l;let c:=C.ix N d;have:N.1=A:=π;rw [this] at c;show ξ%S0 (N,d,BD ζ c p)};{show l%cm p});rcases r with rfl|⟨rfl,rfl⟩;{rcases β with rfl|rfl|rfl;{cbv};{cbv};{show (e, Iy ε)}};{show (e, Ik ε)});let c:rK h.ch A:=c;rcases c with c|c|c;{cbv};{cbv};{cbv});let (σ,G,V):=B.loc;let ρ:rK N7 A:=(C.da _ (jv f.1) y).al (λk=> Iy%Ik k) λk=> Iy%Iy k;let (w,r,q):=V μ A H p Z ρ;show (w,r, Iy%Wt f.2);let (a,D,R):=δ f.1;rcases q with ⟨k,_⟩|⟨_,t,l,z⟩;{let k:P? A=J L8:=k;rcases C.da _ (jv f.1) y with s|s<;>rw [show P? A=_ from s] at k<;>cases k};{rw [R] at l;cases l;show (a,D,z.fo x)}};{let e:Qh A=J a:=e;rcases α e with ⟨D,_⟩|⟨_,z⟩;{let (w,z):=MJ A a D;show (w,z.fo x)};{show (_,z)}};{change g h.b6=I;rw [M];show Nl%bj _};{let e:Qh A=J a:=e;rcases α e with ⟨D,_⟩|⟨D,_⟩;{show M5 A a D};{show Nl%G1 D}};{cbv}
theorem akU(B:Ip j ν E g v)(a:g f=J%Ig α)(k:I8<bJ)(r:IX ζ η) (h:∀M,Ip j ν E (ak g f%Ig (α++ [ζ])) M->υ Ja M):aG (a7 IS IT) Jt (fU (Jf _DF) [Ia f,η]) υ zC v:=by let (l,d,n,c,e):=Jl f _ a;let i:=c.a;show append_at (hsz:=UU) e%Wd C t u;show h {v with heap:=C}%B.hs (t':=v.toks) (by rw [a];trivial) (Ik y) (λb O W q=>(Nf b W).q q) (_,u) (by rw [cG];show k,d++ [η],n+1,c.f8%I1 r IR,?_);rw [u];simp
def t7(X:Cx)(Z:Ib LM)(t:TT):Ir:=∀(ν:Ib Jz) (v:az) (E:St) (g:Hp) (Q:Sw),Ip X ν E g v->t E g Q->aG (a7 Km Kn) KM (forIn Z ag%W7 j r r (do let b←vr j La (Je j La);JH (G2 b))%JH%G2 r) (TP X ν E Q) K5 v
def t8:TT:=Xp g Q%Q ag g
def iX:t7 j [] t8:=λ_ _ _ g _ B h=>wpAny_tests_nil (g,B,h)
def t9(h:PT j O zI):t7 j Kk zI:=λν v E g Q B S=>wpAny_tests_one%h ν v E g Q B S
def rW{t:gF zg}{Q b:WL zg}{u:Model}(h:aG u μ t Q SA v)(c:∀a v,Q a v->b a v):aG u μ t b υ v:=iK h c%YO ik z
def akV{R:WL o!}(B:WL Iu) (turn:∀n v,B n v->aG (a7 l p) μ (fS η) (λr d=>match r with|I=>R (JF .next) d|J f=>aG (a7 l p) μ (GH O η f) (Wv o%aG (a7 l p) μ (s' O zF f) (Wv u%aG (a7 l p) μ (forIn Ω ag%W7 j r r (do let b←vr j zF (Je j zF);JH (G2 b))%JH%G2 r) (W7 b g b (aG (a7 l p) μ (Je ξ zF) (λx t=>aG (a7 l p) μ (fU (Jf _DF) [zw,x]) (Wv A (∃m,m<n/\B m A)) (vB (a7 l p) μ zF λe M=>R (Tk e) M) t) (vB (a7 l p) μ zF λe M=>R (Tk e) M) g) (∃m,m<n/\B m g)) (vB (a7 l p) μ zF λe M=>R (Tk e) M) u) (vB (a7 l p) μ zF λe M=>R (Tk e) M) o) (vB (a7 l p) μ zF λe M=>R (Tk e) M) d) (vB (a7 l p) μ zF λe M=>R (Tk e) M) v) (n:Nat) (h:B n v): lL (a7 l p) μ (.compLoop (Qi ξ [(O,zU,Ω,0)] φ κ) 0 η zw zF) R v:=by show codeAny_loop y B (X' n v) n h;change aG _ μ ((compTurn (Qi ξ [(O,zU,Ω,0)] φ κ) 0 η zw zF).onRaise λx=>do noteFrame x zF;theTreesLotGoes x) _ _ v;show wpAny_noted ?_;rw [compTurn_list];show aw%vt%aw%iK (turn n v z) (Z1 r a)%WG C C;cases r with|none=>show aZ a|some f=>show aw%iK a (Wd _ o E)%WG C C;show aw%iK E (Xp u k%aw%iK k (Wd b g D)%WG C C)%WG C C;cases b with|false=>show aZ (y,D)|true=>show aw%aw%iK D (λx t F=>aw%iK F (Xp A G%aZ%aZ (y,G))%WG C C)%WG C C
def l5(w:TI)(g:TG)(s:TT)(S:TE)(C:Ib Iu):TE:=λc H Q=>w c H λt M=>∀G,M G=I->∃W:Iu->O7,(∃m,W 0 m%ak M G%Ig [])/\∀i m H,W i m H->(t.f1 i H/\Q (Ia G) H)∨(t.go i H/\Zs NV (∀d,N d->∃Z,Z<m/\W (i+1) Z d) (t.iu i H x d->g x (di c C) d (λr n=>di r C=di c C/\s r n%W7 b f b (S r f%YA A E (E G=J%Ig v/\Nm<bJ/\N%ak E G%Ig QH))%N f)))
theorem ab'{θ:Ib%Yb Iu}{w:TI}{ι:Im (ah->gF _EC)} (za:NJ=ag) (η:j.N.Nodup) (τ:Ip j ν E g v) (zu:PI j ξ O w) (s:fh j.N N7 φ θ) (zv:_a4 (Ib K7) (Ib aa) PG (KX v g φ (kC φ B f IE) a) ξ zy) (μ:_a4 (Ib K7) (Ib aa) t7 (KX v g φ (kC φ B f IE) a) Ω zI) (D:_a4 (Ib K7) (Ib aa) PE (KX v g φ (kC φ B f IE) a) zU R) (zw:∀x,GI O IE x=JH x) (zx:l5 w zy zI R (Qj (·.2)) E g ε) (zt:∀G f M m d,Ip j ν E d M->ε (Ia G) d->M.j.Ns f m->kR j ν d f->_DL (a7 IS IT) Jt K9 ι υ (Ia G) f (JF .next) M): aG (a7 IS IT) Jt (comprehension (Qi zU [(ξ,O,Ω,0)] φ κ) φ IE zj (newList []) ay (Je O IE) ι) υ K9 v:=by (let zz:∀A∈φ.names,Ly= K4->∃H,OP Lj=J H:=λA L e=>by rcases s.da A L e with k|k;{show τ.ok.has _%Ik k};{show τ.ok.has _%Iy k});show wpAny_comprehension_free (use:=ι) y zw (akR zz) s.bh (λA L e=>by rw [s.uniq A L,e])%bq (zu ν v E g _ τ zx) λzab zac N=>bq N%XW zad zA;let (zb,a,V,zae,n,e,zc,u,gP,Z,zB):=zA;subst e;show hq (akS ?_)%_aV 0;generalize T:p.heap.objs.size=G;let zC:n G=I:=zc.bK.an%GL T;let (W,(zD,zd),turn):=zB G zC;generalize ze:({p with heap:=p.j.av (Y0 ([]:Ib ah).C)}:az)=α;(let q:Ip j ν E (ak n G%Ig []) α:=by rw [←ze];show zc.fv (t':=p.toks) (λb o e=>dz _ e) (GL T) (cj _, [],0, IR,?_);rw [←T];show ep _ y);(let zf:α.j=p.j.av%Y0 ([]:Ib ah).C:=by rw [←ze]);(let zE:∀b∈a,b<p.j.v.l:=λb β=>by let (o,e,_):=_Ap _ _ gP b β;show cZ e);(let r:∀b∈a,kR j ν (ak n G%Ig []) b/\b<Np:=λb β=>by let t:=zE b β;show ((?_,(Z b β).2),by rw [zf,i8];show lQ t);rw [aq IZ];show (Z b β).1);(let oh:V 0 α.j:=u.ad _ _ _ gP (λb _ o e=>by rw [zf];show dz _ e));let Q:=akT q s η r;let X:=zv α (ak n G%Ig []) Np (g4 (Np+1) Kt%gu Qg Kt []) a;let χ:=μ α (ak n G%Ig []) Np (g4 (Np+1) Kt%gu Qg Kt []) a;let ψ:=D α (ak n G%Ig []) Np (g4 (Np+1) Kt%gu Qg Kt []) a;change lL _ _ (.compStart (Qi zU [(ξ,O,Ω,0)] φ κ) 0 (Ia zb) (Ia G)%kC φ (g4 (Np+1) Kt%gu Qg Kt []) Np IE) (_DL (a7 IS IT) Jt K9 ι υ (Ia G) Np) {α with heap:=q9 (α.j.av O9) Kt};let zg:∀b∈a,(ak n G%Ig []) b=I:=XZ b β (r b β).1;generalize zF:kC φ (g4 (Np+1) Kt%gu Qg Kt []) Np IE=F at Q X χ ψ ⊢;(let zh:F.b6=Np:=by subst zF;rfl);generalize zaf:ak n G (Ig [])=γ at q Q X χ ψ zd zg r;generalize zG:({α with heap:=q9 (α.j.av O9) Kt}:az)=l at Q ⊢;(let zi:V 0 l.j:=u.ad _ _ _ oh (λb _ o e=>by rw [←zG];show G0 _ _ _ _%dz _ e));let ω:∀{δ:St} {d:Hp} {M:az},Ip (KX α γ φ F a) [] δ d M->(ZG (d b=I))->∀b∈a,kR (KX α γ φ F a) [] d b:=λ{δ d M} c ζ b β=>(ζ b β,(c.ok.n_ b β).1,c.ok.mY b β, Ik β,λx H e=>(c.ok.n_ b β).2 x H e,λzH zan=>a' (show zH∈([]:Ib Jz)++ [] from zan) Ii);(let zk:lL (a7 IS IT) Jt (.compLoop (Qi zU [(ξ,O,Ω,0)] φ κ) 0 (Ia zb) (Ia G) F) (_DL (a7 IS IT) Jt K9 ι υ (Ia G) Np) l:=by show akV (λο M=>∃i d,Ip (KX α γ φ F a) [] (di E%Qj (·.2)) d M/\V i M.j/\(ZG (d b=I))/\W i ο d) ?_ zD (0,γ,Q,zi,zg,zd);rintro ο zl ⟨i,C,S,zm,zn,zJ⟩;rcases turn i ο C zJ with ⟨zK,zL⟩|⟨zM,zN,zO,step⟩;{let zP:=u.done (KX α γ φ F a) y y y za i [] zl _ C SA S (ω S zn) zm zK;show rW zP%Wd zQ π (Γ,P);subst Γ;let h:Ip j ν E C π:=q.abo (zl:=a) P.os P.au P.bK P.em λb β=>((r b β).1.2.2.2.1,(r b β).1.2.1,(r b β).1.2.2.2.2.1,(r b β).1.2.2.2.2.2);(let zR:C Np=I:=by let z:C F.b6=I:=P.da;cbv);let (m,ζ,_):=P.loc;let ζ:π.j.Ns F.b6 m:=ζ;rw [zh] at ζ;show zt G Np π m C h zL ζ%q.pY (bj _) zR};{let zS:=u.item (KX α γ φ F a) y y y za i [] zl _ C SA S (ω S zn) zm zM;show rW zS%Wd zQ π (zao,Γ,zT);subst Γ;show rW zT%Wd _ Δ (x,zo,h,zap,zV,Θ,zW);let zX:=h.pinned (ω h zW)%_Ap _ _ Θ;show rW (X _ Δ _ zo x zao _ zX zap%Mv x zo zV)%Wd _ zY (ρ,zZ,z0,zp,z1);show rW (χ _ zY ρ zZ _ z0 z1)%Wd b z2 (z3,zq,σ);(let zr:∀{M:az} {d:Hp},Ip (KX α γ φ F a) ([]++tS a Δ.j) ρ d M->zN d->∃m,m<ο/\∃i d,Ip (KX α γ φ F a) [] (di E%Qj (·.2)) d M/\V i M.j/\(ZG (d b=I))/\W i m d:=λ{M d} c Ξ=>by let (z4,z5,z6):=zO d Ξ;let zs:∀b∈a,∀o,Δ.j.E b=J o->M.j.E b=J o/\d b=I:=λb β o e=>let z:=c.pin (b,o,) (lG _%lG _%BM β e);(Mn,Rv);(let z7:(di E%Qj (·.2)).a=ρ.a:=by rw [←zp,B_]);show (z4,z5,i+1,d,(c.wG (ν:= [])).bv z7%W' zag zah,u.ad _ _ _ Θ λb β o e=>(zs b β o e).1,XO β,z6);{rw [←zp] at e;show (B' e).1};{let (o,e,_):=_Ap _ _ Θ b β;show (zs b β o e).2});cases b with|false=>simp only [q_,iL] at σ ⊢;show zr zq σ|true=>simp only [kA] at σ ⊢;show rW (ψ _ z2 ρ z3 _ zq σ)%Wd z zai (zaj,zak,z8,z9,zal,z_,z',Ξ);show akU (j:=KX α γ φ F a) z8 z_ z' z9 (λzam zaa=>zr zaa Ξ)});show codeAny_compStart_list zk%u.self Jt 0 _ _ _ zi zk
def jJ{e:Ib%Yb Iu}{w:TI}(m:NJ=ag)(g:j.N.Nodup)(l:PI j O ξ w)(b:fh j.N N7 φ e) (i:ZK (Ib K7) (Ib aa) PG (KX s H φ (kC φ B f IE) a) O zy) (v:ZK (Ib K7) (Ib aa) t7 (KX s H φ (kC φ B f IE) a) Ω zI) (D:ZK (Ib K7) (Ib aa) PE (KX s H φ (kC φ B f IE) a) zU R) (P:∀x,GI ξ IE x=JH x:=by intro _;rfl): PE j (Qi zU [(O,ξ,Ω,0)] φ κ) (l5 w zy zI R%e.o (·.2)):=by intro F s c H γ p h;rw [eval_ListComp];show ab' m g p l b i v D P h λG f M u d W q z E=>(u,z,Wb n t);let (C,k,δ,r,Q,N):=E;show (Ia G,d,W.ep (q:=M.toks) (λV o α β=>(Nf V α).q β) C k r Q N,y,q)
theorem p7{e:Ib%Yb Iu}{ε:cv}{w:TI}(m:NJ=ag)(g:j.N.Nodup)(u:Us=J L)(ζ:P? L=J L8) (θ:s_ (Qi zU [(ξ,O,Ω,0)] φ zj) (J%JU L κ) ε.f0 IE=JH ag) (l:PI j ξ O w) (b:fh j.N N7 φ e) (i:ZK (Ib K7) (Ib aa) PG (KX s H φ (kC φ B f IE) a) ξ zy) (v:ZK (Ib K7) (Ib aa) t7 (KX s H φ (kC φ B f IE) a) Ω zI) (D:ZK (Ib K7) (Ib aa) PE (KX s H φ (kC φ B f IE) a) zU R) (P:∀x,GI O IE x=JH x:=by intro _;rfl): PS j (_Ao [JU L κ] (Qi zU [(ξ,O,Ω,0)] φ zj) ε) (b? (l5 w zy zI R%e.o (·.2))%bU q):=by intro F s c H G ι h;rw [exec_Assign_Name_used _ _ _ _ θ];show aw%vt%aw ?_;change aG _ Jt (do let _←comprehension (Qi zU [(ξ,O,Ω,0)] φ zj) φ IE (firstIterPos [(ξ,O,Ω,0)] zj) (newList []) ay (Je O IE) (J%s' (JU L κ) IE)) _ _ s;let h:l5 w zy zI R (e.o (·.2)) c H (λx z=>bU q x c z N8):=h;show aw%bq (ab' (υ:=Wv M%SP j F G .next M) m g ι l b i v D P h λn f M μ d W A ν E=>?_)%Xp M C%aZ%aZ C;change aG _ _ (s' (JU L κ) IE%Ia n) _ _ _;show _EK%abn (ζ:=IP n) W g u (Ik ζ) y (Wd p k (η,t,N))%Iy ζ;let (ο,S,T,r,Q,π):=E;(let ρ:XX η:=IZ);show (μ,ν.g7 t ρ,Wb χ σ);show (_,d,k.ep (q:=p.toks) (λτ o υ δ=>(σ.2 τ υ).q δ) ο S r Q π,A)
theorem p8{b:Ib Comprehension}(g:zF.ch.bh= RF)(u:zF.ch.S.B L=J L8)(V:(zj.f0==QT)=ag) (N:(φ.S.any λ(n,k)=>n==L && (k== L8||k== Kx))=ay):s_ (Qi O b φ κ) (J%JU L zj) q zF=JH ag:=by let c:zF.ej L=J L8:=u;(let W:zF.blockKind= RF:=by unfold Env.blockKind;rw [g];rfl);unfold s_;simp only [W,c,N,Expr.pos,V];rfl
theorem akW{h:NV}(Pv:O7)(F:Pv 0%ak g f%Ig []) (P:∀i H,i<q->Pv i H->zy (Id (γ+i)) (di E ω) H (λr a=>di r ω=di E ω/\zI r a%W7 b c b (R r c%YA A j (j f=J%Ig v/\Nm<bJ/\Pv (i+1)%ak j f%Ig QH))%Pv (i+1) c)) (hd:∀H,Pv q H->h H): ∃W:Iu->O7,(∃m,W 0 m%ak g f%Ig [])/\∀i m H,W i m H->((l3 γ q).f1 i H/\h H)∨((l3 γ q).go i H/\Zs NV (∀d,N d->∃Z,Z<m/\W (i+1) Z d) ((l3 γ q).iu i H x d->zy x (di E ω) d (λr a=>di r ω=di E ω/\zI r a%W7 b c b (R r c%YA A j (j f=J%Ig v/\Nm<bJ/\N%ak j f%Ig QH))%N c))):=by show (λi m H=>m=q - i/\i<=q/\Pv i H,(q,Ii,cj _,F),?_);rintro i m H ⟨rfl,l,p⟩;by_cases t:i<q;{show Iy (t,Pv (i+1),λd Q=>(q - (i+1),Ih,y,t,Q),P0);let (e,A):=A;cbv};{(let e:i=q:=Ih);subst e;show Ik (bj _,hd H p)}
theorem oj{h:NV}(Pv:O7)(F:Pv 0%ak g f%Ig [])(j:∀i H,i<=I8->Pv i H->aD r H u α) (P:∀i x H,PR=J x->Pv i H->zy x (di E ω) H (λa n=>di a ω=di E ω/\zI a n%W7 b c b (R a c%YA A k (k f=J%Ig v/\Nm<bJ/\Pv (i+1)%ak k f%Ig QH))%Pv (i+1) c)) (hd:∀H,Pv I8 H->h H): ∃W:Iu->O7,(∃m,W 0 m%ak g f%Ig [])/\∀i m H,W i m H->((m7 r u).f1 i H/\h H)∨((m7 r u).go i H/\Zs NV (∀d,N d->∃Z,Z<m/\W (i+1) Z d) ((m7 r u).iu i H x d->zy x (di E ω) d (λa n=>di a ω=di E ω/\zI a n%W7 b c b (R a c%YA A k (k f=J%Ig v/\Nm<bJ/\N%ak k f%Ig QH))%N c))):=by show (λi m H=>m=XM i/\i<=I8/\Pv i H,(I8,Ii,cj _,F),?_);rintro i m H ⟨rfl,l,p⟩;let q:=j i H l p;by_cases t:i<I8;{show Iy ((α,α[i],q,Tb),Pv (i+1),λd Q=>(XM (i+1),Ih,y,t,Q),P0);let (e,A):=A;lk};{(let e:i=I8:=Ih);subst e;show Ik ((α,q,bj _),hd H p)}
theorem akX{h:NV}(Pv:O7)(F:Pv 0%ak g f%Ig [])(j:∀i H,i<=I8->Pv i H->bS r H u α) (P:∀i x H,PR=J x->Pv i H->zy x (di E ω) H (λa n=>di a ω=di E ω/\zI a n%W7 b c b (R a c%YA A k (k f=J%Ig v/\Nm<bJ/\Pv (i+1)%ak k f%Ig QH))%Pv (i+1) c)) (hd:∀H,Pv I8 H->h H): ∃W:Iu->O7,(∃m,W 0 m%ak g f%Ig [])/\∀i m H,W i m H->((og r u).f1 i H/\h H)∨((og r u).go i H/\Zs NV (∀d,N d->∃Z,Z<m/\W (i+1) Z d) ((og r u).iu i H x d->zy x (di E ω) d (λa n=>di a ω=di E ω/\zI a n%W7 b c b (R a c%YA A k (k f=J%Ig v/\Nm<bJ/\N%ak k f%Ig QH))%N c))):=by show (λi m H=>m=XM i/\i<=I8/\Pv i H,(I8,Ii,cj _,F),?_);rintro i m H ⟨rfl,l,p⟩;let q:=j i H l p;by_cases t:i<I8;{show Iy ((α,α[i],q,Tb),Pv (i+1),λd Q=>(XM (i+1),Ih,y,t,Q),P0);let (e,A):=A;lk};{(let e:i=I8:=Ih);subst e;show Ik ((α,q,bj _),hd H p)}
section
variable {d:Jc}[_Ai d]
def cS(j:Ib NW)(k:d):Im V:=(j.cd λg=>aT (Lx=k)).o (·.2)
def f5(j:Ib NW)(k:d)(v:V):Ib NW:=Ww (j.any λg=>aT (Lx=k)) (j.o%Yp g Lx k (W2 Lx) g) (j++ [W2 k])
theorem B!{p:NW}{r:Ib NW}{k:d}(e:KB=k):cS (p::r) k=J L3:=_E9
theorem B?{p:NW}{r:Ib NW}{k:d}(e:¬ KB=k):cS (p::r) k=cS r k:=_E9
theorem w1(k:d):∀j:Ib NW,(j.any λg=>aT (Lx=k))=(cS j k).as| []=>y|p::r=>by rw [lP];by_cases e:KB=k;{simp only [B! e,b8 e,agG,axt]};{rw [B? e,bD e,Ay];show w1 k r}
theorem aca(j:Ib NW)(k:d)(v:V):(f5 j k v).a<=Lz+1:=_E_
def g_.p9{o:Im V}{O:Im ah}(r:g_ o O):o.as=O.as:=by cases o with|none=>(cases O with|none=>rfl|some _=>show V?)|some _=>cases O with|none=>show V?|some _=>rfl
def g_.getD{o:Im V}{O:Im ah}{f:V}{D:ah}(r:g_ o O)(i:IX f D):IX (o.az f)%O.az D:=by cases o with|none=>(cases O with|none=>show i|some _=>show V?)|some _=>cases O with|none=>show V?|some _=>show r
theorem KV.val{j:Ib NW}{C:Ib%Za d}(r:KV j C)(k:d):g_ (cS j k)%q' C k:=by unfold KV at r;induction r with|nil=>show lM|@cons p q u a h t c=>let (D,R):=h;by_cases e:KB=k;{let l:q.1=k:=D.J.q e;(let b:q' (q::a) k=J q.2:=_E');rw [B! e,b];show R};{let l:¬ q.1=k:=λz=>e%D.q z;(let b:q' (q::a) k=q' a k:=_E');rw [B? e,b];show c}
theorem KV.any{j:Ib NW}{C:Ib%Za d}(r:KV j C)(k:d):(j.any λg=>aT (Lx=k))=C.any (λg=>aT (Lx=k)):=by unfold KV at r;induction r with|nil=>rfl|cons h t c=>rw [lP,lP,c,h.1]
theorem KV.Ca{j:Ib NW}{C:Ib%Za d}(r:KV j C)(k:d)(m:IX ζ η): KV (j.o%Yp g Lx k (Lx,ζ,) g) (Ou%Yp g Lx k (Lx,η,) g):=by unfold KV at r ⊢;induction r with|nil=>show IR|@cons p q u a h t c=>rw [dJ,dJ];show I1 ?_ c;lk
def KV.put{j:Ib NW}{C:Ib%Za d}(r:KV j C)(k:d)(m:IX ζ η):KV (f5 j k ζ)%stored C k η:=by unfold f5 stored;rw [r.any k];by_cases e:(C.any λg=>aT (Lx=k))=ag;{rw [aA e,aA e];show r.Ca k m};{rw [au e,au e];show Paired.snoc r (y,m)}
def KV.length{j:Ib NW}{C:Ib%Za d}(r:KV j C):Lz=L':=b4 r
end
def m9{k:be}(r:IX (kV k) η):(e2 l p).is k η=ag:=by cases k with|inl i=>let (t,e):=(Z3 (η=j_ i t));subst e;show ajb l p i t|inr x=>let (t,e):=(Z3 (η=vn x t));subst e;show By l p x t
theorem acb{P:aP}{w:World}:∀{f:Ib be} {G:Ib ah},bC (MH kV) G->ItemsAre (e2 P w) f G| [],_,r=>by rw [Aw] at r;cases r;show IR|k::f,_,r=>by rw [dJ] at r;cases r with|cons h t=>show I1 (m9 h)%acb t
abbrev KT(H:Hp):WF (Ib OK)%Ib (Ib be × Ux):=cN λp q=>KB=q.1/\H q.2.1=J%IC%(KB).o kV/\IX L3 q.2.2
theorem KT.val{L:Ib (Ib be × Ux)}(r:KT g zi L)(k:Ib be):g_ (cS zi k)%(pj L k).o (·.2):=by induction r with|nil=>show lM|@cons p q u a h t c=>let (D,_,R):=h;by_cases e:KB=k;{let l:q.1=k:=D.J.q e;(let b:pj (q::a) k=J q.2:=_E!);rw [B! e,b];show R};{let l:¬ q.1=k:=λz=>e%D.q z;(let b:pj (q::a) k=pj a k:=_E!);rw [B? e,b];show c}
theorem KT.Ca{L:Ib (Ib be × Ux)}(r:KT g zi L)(k:Ib be)(m:IX ζ η): KT g (zi.o%Yp d d.1 k (d.1,ζ,) d) (NG%putAt k η):=by induction r with|nil=>show IR|@cons p q u a h t c=>rw [dJ,dJ];show I1 ?_ c;let (D,R,b):=h;unfold putAt;lk
def KT.put{L:Ib (Ib be × Ux)}(r:KT g zi L)(k:Ib be)(W:g f=J%IC%L? kV)(m:IX ζ η): KT g (f5 zi k ζ) (storedH L k f η):=by (let e:(zi.any λa=>aT (a.1=k))=(pj L k).as:=by rw [w1,(r.val k).p9,qO]);unfold f5 storedH;rw [e];by_cases q:(pj L k).as=ag;{rw [aA q,aA q];show r.Ca k m};{rw [au q,au q];show Paired.snoc r (y,W,m)}
def KT.keeps{L:Ib (Ib be × Ux)}(r:KT g zi L)(v:∀b w,g b=J%IC w->G b=J%IC w):KT G zi L:=J8 r%Xi (Mn,v _ _ Rv,Ss)
def acd(b:d_ l p g A)(e:Rd g f za):d3 l p g A f za:=e.ok b
def rX(b:d_ l p g A)(e:Rd g f%JK zB):_C!/\(f==ij)=ay/\∃C,KV zB C/\A.hl (e2 l p) f C:=Yw (d3 l p g A f%JK zB) acd b e
def ace(b:d_ l p g A)(e:g f=J%JK zB):_C!/\(f==ij)=ay/\∃C,KV zB C/\A.hl (e2 l p) f C:=rX b%Ik e
theorem t_{a:Ib be}(b:d_ l p g A)(e:g f=J%IC%Ot kV):(Am%e2 l p).is A a f:=by let (_,d,r,o,D,R,n,V):=(W0 (d3 l p g A f%IC%Ot kV)%b f _ e);show (o,KU,n,D,R,V,_aL acb r)
theorem t!(b:d_ l p g A)(e:Rd g f%I9 zi):Wo KP/\(f==ij)=ay/\∃L,KT g zi L/\A.DictOfH (Am%e2 l p) f L:=by let (z,h,L,r,o,i,E,D,R,d,T,W):=(W0 (d3 l p g A f%I9 zi)%acd b e);show (z,h,L,r,o,i,E,D,R,d,T,Wb x N,W);(let all:∀{a:Ib OK} {m:Ib (Ib be × Ux)},KT g a m->∀x∈m,(Am%e2 l p).is A I6 SQ:=by intro a m q;induction q with|nil=>cbv|@cons j q u k n t c=>intro x N;rcases b0.R N with e|N;{subst e;show t_ b Io};{show c x N});show IH r x N
def akY(b:d_ l p g A)(e:g f=J%I9 zi):Wo KP/\(f==ij)=ay/\∃L,KT g zi L/\A.DictOfH (Am%e2 l p) f L:=t! b%Ik e
def f6(H:Hp)(a:aa)(A:V)(r:Im V):Ir:=(∃j k,Rd H a%JK j/\A=kV k/\r=cS j k)∨∃j k b,Rd H a%I9 j/\A= Ia b/\H b=J%IC%L? kV/\r=cS j k
def kc(H:Hp)(a:aa)(A v:V)(d:Hp):Ir:=(∃j k,H a=J%JK j/\A=kV k/\Lz<bJ/\d=ak H a%JK%f5 j k v)∨ ∃j k b,H a=J%I9 j/\A= Ia b/\H b=J%IC%L? kV/\Lz<bJ/\d=ak H a%I9%f5 j k v
theorem f6.k{H:Hp}{a:aa}{j:Ib KJ}{k:be}(e:H a=J%JK j):f6 H a (kV k)%cS j k:= Ik (j,k, Ik e,y,y)
def f6.t{k:Ib be}(e:g u=J%I9 zi)(x:g f=J%IC%L? kV):f6 g u (Ia f)%cS zi k:= Iy (zi,k,f, Ik e,y,x,y)
theorem kc.k{H:Hp}{a:aa}{j:Ib KJ}{k:be}{v:V}(e:H a=J%JK j)(b:Lz<bJ):kc H a (kV k) v%ak H a%JK%f5 j k v:= Ik (j,k,e,y,b,y)
def kc.t{k:Ib be}(e:g f=J%I9 zi)(x:g u=J%IC%L? kV)(c:KP<bJ): kc g f (Ia u) ζ (ak g f%I9%f5 zi k ζ):= Iy (zi,k,u,e,y,x,c,y)
theorem Inv.big(B:Ip j ν E g v):ij<II:=by let h:a_<II:=(_Dp B.bk).lt;show Nat.lt_trans Il h
def akZ(t:RR+1<ju)(B:Ip j ν E g v)(o:f6 g f z5%J ζ)(m:IX z5 η)(h:∀a M,Ip j ν E g M->IX ζ a->zC a M): aG (a7 IS IT) μ (mG (Ia f) η) zC υ v:=by rcases o with ⟨q,k,e,R,l⟩|⟨q,k,b,e,R,x,l⟩;{subst R;let (z,hd,C,N,d):=rX Jl e;let (a,S,c):=_ay (q' C k) (by rw [l];show Qk k);show _E? (m9 m) Tl S%h a _ (Ko _) c};{subst R;cases (show η=b! b from m);let (z,hd,L,N,d):=t! Jl e;let (a,S,c):=_ay ((pj L k).o (·.2)) (by rw [l];show Qk k);let (p,i,n):=LS S;show wpAny_getItem_heap (G3 t) (t_ Jl x) d i ?_;rw [n];show h a _ (Ko _) c}
def ak0{o:Im NE}(t:RR+1<ju)(B:Ip j ν E g v)(a:f6 g f ζ o)(m:IX ζ η)(h:∀M,Ip j ν E g M->zC (MK o.as) M): aG (a7 IS IT) μ (gG .In η%Ia f) zC υ v:=by rcases a with ⟨c,k,e,R,l⟩|⟨c,k,b,e,R,x,l⟩;{subst R;let (z,hd,C,N,d):=rX Jl e;show wpAny_in_of (m9 m) hd Tl ?_;rw [←(Qk k).p9,←l];show h _%Ko _};{subst R;cases (show η=b! b from m);let (z,hd,L,N,d):=t! Jl e;show wpAny_in_heap (G3 t) (t_ Jl x) hd d ?_;let q:=(Qk k).p9;rw [qO] at q;rw [←q,←l];show h _%Ko _}
def ak1{o:Im NE}(t:RR+1<ju)(B:Ip j ν E g v)(a:f6 g f ζ o)(m:IX ζ η)(h:∀M,Ip j ν E g M->zC (MK (!o.as)) M): aG (a7 IS IT) μ (gG S! η%Ia f) zC υ v:=by rcases a with ⟨c,k,e,R,l⟩|⟨c,k,b,e,R,x,l⟩;{subst R;let (z,hd,C,N,d):=rX Jl e;show _Fa (m9 m) hd Tl ?_;rw [←(Qk k).p9,←l];show h _%Ko _};{subst R;cases (show η=b! b from m);let (z,hd,L,N,d):=t! Jl e;show wpAny_notIn_heap (G3 t) (t_ Jl x) hd d ?_;let q:=(Qk k).p9;rw [qO] at q;rw [←q,←l];show h _%Ko _}
def Cb(B:Ip j ν E g v)(mu:lY%g f)(P:lI f I7 A)(D:∃a,Le f=J a)(d:d3 IS IT (ak g f za) A f za): Ip j ν E (ak g f za) (Zj A):=_bj mu (Ik y) (λb a W z=>(P.2 b W).q z) D d
def acf{C:Ib%Za be}(z:_C!)(hd:(f==ij)=ay)(N:KV zB C)(e:A.hl (e2 l p) f C): d3 l p g A f (JK zB):=(z,hd,C,N,e)
theorem ak2{Q:V8}(t:RR+1<ju)(B:Ip j ν E g v)(s:kc g f z5 ζ G)(m:IX z5 η)(o:IX ζ zw)(h:∀M,Ip j ν E G M->Q () M): aG (a7 IS IT) μ (setItem (Ia f) η zw) Q υ v:=by rcases s with ⟨a,k,e,R,l,p⟩|⟨a,k,b,e,R,x,l,p⟩;{subst R p;let (z,hd,S,N,d):=ace Jl e;(let c:Wo S.a:=_GB);(let V:Wo (f5 a k ζ).a:=by have:=aca a k ζ;lia);show wpAny_setItem_pairs (hsz:=c) (m9 m) d λC i P=>h _ ?_;let D:∃q,Nk f=J q:=let (q,_,_,n,_):=i;(q,n);show Cb B _Bu P D%acf V hd (N.put k o) i};{subst R p;cases (show η=b! b from m);let (z,hd,L,N,d):=akY Jl e;(let c:Wo I0:=by rw [←b4 N];show z);(let V:Wo (f5 a k ζ).a:=by have:=aca a k ζ;lia);show wpAny_setItem_heap (hsz:=c) (G3 t) (t_ Jl x) d λC i P=>h _ ?_;let (q,α,β,n,γ,δ,ε,_,W):=i;show Cb B _Bu P (q,n) (V,hd,_,(N.put k x o).fo%WH u r,q,α,β,n,γ,δ,ε,W);rw [aq%dh r e O'];show r}
def ak3(B:Ip j ν E g v)(e:g f=J%JK zB)(h:∀M,Ip j ν E (ak g f%JK []) M->zC Ja M):aG (a7 IS IT) μ (fU (Jf "dict.clear") [Ia f]) zC υ v:=by let (z,hd,C,N,d):=ace Jl e;show call_meetsIn axu Tm PySem.F.entry_dict_clear (PySem.F.args_dict_clear_1 _) (meets_dict_clear (e2 IS IT) f) (C,d,_GB,λa b P=>h _ ?_);let D:∃q,a.E f=J q:=let (q,_,_,n,_):=b;(q,n);show Cb (q:=v.toks) B _Bu P D%acf (cj _) hd IR b
theorem ak4(B:Ip j ν E g v)(e:Rd g f%JK zB)(h:∀t M,Ip j ν E g M->zC (Id zB.a t) M):aG (a7 IS IT) μ (fU (Jf Kp) [Ia f]) zC υ v:=by let (z,hd,C,N,d):=rX Jl e;show call_len_dict hd d (by rw [←NK];rw [eK] at z;lia) ?_;rw [←NK];show h _ _%Ko _
def Cc(i:Expr):Ir:=∀d b,GV i ay d b=operate [d,b]%mG d b
def acg{id:String} (V:GS (IU zN) _By=JH%J%Jf id) (P:Cc O) (h:aG (a7 l p) μ (Je ξ zF) (λo m=>aG (a7 l p) μ (Je O zF) (λi u=>u.es o zN/\aG (a7 l p) μ (mG o i) zC υ u) υ m) υ v): aG (a7 l p) μ (Je (Qb ξ O κ) zF) zC υ v:=by show _Dz%iK h (λo m a=>iK a (Wd i u k)%WG x x)%WG x x;let (A,k):=k;unfold agv;show aw ?_;rw [getitemInPython_of_ne A.not_modules];show aw%vC A V ?_;(let S:aG (a7 l p) μ (GV O ay o i) (λr b=>aG (a7 l p) μ (letTemporaryGo ξ o r>>=(Wx (JH r))) zC υ b) υ u:=by rw [P o i];show wpAny_operating%iK k (λr b e=>aw%wpAny_letTemporaryGo%aZ e)%WG x x);first|show aZ%aw S|show aw%aZ%aw S|show aw S
def ak5{o:Im V}(B:Ip j ν E g v)(a:f6 g f ζ o):QW (Ia f) No:=by rcases a with ⟨c,k,e,_,_⟩|⟨c,k,b,e,_,_,_⟩;{let (_,_,C,_,d):=rX Jl e;show d.ap};{let (_,_,L,_,d):=t! Jl e;show d.ap}
def ach(R W:TE):TE:=λc H Q=>R c H λx M=>W c M λA n=>∃a v,x= Ia a/\f6 n a A%J v/\Q v n
def ak6(W R:TE):TE:=λc H Q=>W c H λA M=>R c M λx n=>∃a o,x= Ia a/\f6 n a A o/\Q (IJ o.as) n
def ak7(W R:TE):TE:=λc H Q=>W c H λA M=>R c M λx n=>∃a o,x= Ia a/\f6 n a A o/\Q (IJ (!o.as)) n
def ak8(R W C:TE):TS:=λG c H=>C c H λv M=>R c M λx n=>W c n λA f=>∃a E,x= Ia a/\kc f a A v E/\N8 c E
def w2(t:Tj+1<ju)(S:PE j ξ R)(l:PE j O Ξ)(P:Cc O):PE j (Qb ξ O κ)%ach R Ξ:=_ap (acg axv.B P%bq (S F s c H _ B h) λe w (x,M,V,Z,z)=>bq (l F w c M _ V z)%XW b (A,n,k,m,a,v,G,g,d)) e (b! a) (ak5 k g,akZ t k g m λf L q E=>(v,n,q,E,d))
def t?(t:Tj+1<ju)(l:PE j ξ Ξ)(S:PE j O R):PC j .In ξ O%ak6 Ξ R:=_ap (bq (l F s c H _ B h) λb w (A,M,V,m,z)=>bq (S F w c M _ V z)%XW e (x,n,k,Z,a,d,G,g,f)) e (b! a)%ak0 t k g m λL q=>(IJ d.as,n,q,y,f)
def aci(t:Tj+1<ju)(l:PE j ξ Ξ)(S:PE j O R):PC j S! ξ O%ak7 Ξ R:=_ap (bq (l F s c H _ B h) λb w (A,M,V,m,z)=>bq (S F w c M _ V z)%XW e (x,n,k,Z,a,d,G,g,f)) e (b! a)%ak1 t k g m λL q=>(IJ (!d.as),n,q,y,f)
def rY{C:L2.TE}(t:Tj+1<ju)(S:PE j O R)(l:PE j ξ Ξ)(A:PE j zU C)(P:s_ zU (J%Qb O ξ zj) QT IE=JH ay): PS j (_Ao [Qb O ξ zj] zU κ) (ak8 R Ξ C):=by intro F s c H D B h;show wpAny_Assign_Subscript (bq (A F s c H _ B h)%X7 w (v,M,V,f,z)%bq (S F w c M _ V z) λe p (x,n,k,Z,d)=>bq (l F p c n _ k d)%Wd b L (β,γ,q,m,a,E,G,g,u)) P;subst G;obtain rfl:e=b! a:=Z;show ak2 t q g m f λδ Q=>(c,E,Q,u)
def ak9(h:aO)(W:ij<Ph):d3 l p g (h.av O9) Ph%JK []:=(cj _,UW%i7%eF W, [], IR,Heap.hl.new h)
def ak_(h:aO)(W:ij<Ph):d3 l p g (h.av O9) Ph%I9 []:=(cj _,UW%i7%eF W, [], IR,_,Ks,0,ep _ y,(y,y,y),y,y,List.nodup_nil)
def ak':TE:=Xp H Q (∀p,H p=I->Q (Ia p)%ak H p%JK [])
def ala:TE:=Xp H Q (∀p,H p=I->Q (Ia p)%ak H p%I9 [])
def acj:PE j (.Dict [] [] κ) ak':=λF s c H Q B h=>_Fb (Ia JR,_,_bU (JK []) (WG q%dz _ q) (bj _)%ak9 Lp B.big,y,h _%Nl%bj _)
def Cd:PE j (.Dict [] [] κ) ala:=λF s c H Q B h=>_Fb (Ia JR,_,_bU (I9 []) (WG q%dz _ q) (bj _)%ak_ Lp B.big,y,h _%Nl%bj _)
structure M2(X:Cx)(o:Expr)(m:ai)(P:cv)(e E:Expr)(f:cv):Ir where
 base:mC o m La%Je o La=Je o La
 e?:((fv f%cK [e,E] La).all (λx=>!I6) && (pa f%pb [] La).all (λx=>(I6).as)
  && aT (([e,E]:Ib LM).a+([]:Ib Av).a+(Wp ([]:Ib Av).bj 0 1)<30))=ag
 line:(P.gi==f.f0)=ag
 trees:fv f%cK [e,E] La= [_a' e La,_a' E La]
theorem Inv.Ce(B:Ip j ν E g v)(k:Wh (WR zl) (Ji b=J o->Le b=J o))(hf:∀b∈zl,kR j ν g b)(l:II<=f) (T:d3 IS IT (ak g f za) A f za):Ip j ν E (ak g f za)%Zj A:=by let G:g f=I:=Nl l;(let a:∀b O,g b=J O->WR zl:=λb O e z=>by let c:=(hf b z).1;cbv);show B.hz (g':=v.gens) (d':=v.drawn) (ch:=zl) (λb W=>((hf b W).2.2.2.1,(hf b W).2.1,(hf b W).2.2.2.2.1,(hf b W).2.2.2.2.2)) (λb o _ _ m e _=>k b o m e) (λb o _ _ m e _=>(o.slots,k b o m e)) (Wn b o _ e n) (λb o m e=>(o,k b o m e)) (YE L) (YL b O e) (WP b e%Wt Ks) (Wb u i) (YE O) M6;{rw [aq%eF%ib (cZ e) l];show n};{rw [aq%aU e G];show e};{rw [aq%aU e G];show e};{rw [aq%aU e G,e];simp};{let (o,p,s,S,r):=i;show (o,p,s,k _ o (λz=>(hf _ z).2.1 y) S,r)};{by_cases W:b=f;{subst W;rw [ar] at e;cbv};{rw [aq W] at e;(show (Jl b O e).lX (λh t m c=>k h t ?_ c) (λh c=>_bB aq%aU c G) λh L c=>_bB aq%aU c G);lk}}
def Inv.lock(B:Ip j ν E g v)(h:g f=J za)(mu:lY%J za):∃l,Ip j ν E (ak g f%Jd l za) v:=by let x:=Jl f za h;(let G:∃l,Ji f=J l:=by cases za with|lst L=>let (_,_,_,_,e):=x;show (_,e)|dK c=>let (_,_,_,_,o,_,_,e,_):=x;show (o,e)|dT c=>let (_,_,_,_,o,_,_,e,_):=x;show (o,e)|set S n=>let (o,_,_,_,e,_):=x;show (o,e)|ins a d V=>let (_,_,_,e,_):=x;show (_,e)|ext k=>let (_,(_,e),_):=x;show (_,e)|_=>show ik mu);let (l,e):=G;(let T:d3 IS IT (ak g f%Jd l za) I7 f (Jd l za):=by show (e,x.lX (λb i _ q=>q) (XO q)%Wd b L q);{rw [aq λz=>_Fc];show q};{rw [aq λz=>_Fc];show q});show (l,B.hs (x:=f) (e:=f) (t':=v.toks) (h':=v.heap) (by rw [h];show mu) (Ik y) (λb i _ q=>q) (l,e) T)
def Inv.ua(B:Ip j ν E g v)(h:g f=J za)(mu:lY%J za):∀Q S,j.pV f≠J%Jd Q S:=λQ S e=>by let q:=S9 f Q S e;rw [h] at q;cases q;show mu
theorem Inv.unlock(B:Ip j ν E g v)(h:g f=J%Jd ze za)(G:∀Q S,j.pV f≠J%Jd Q S):Ip j ν E (ak g f za) v:=by (let a:Wh (g b=J o) ((∀Q S,o≠ Jd Q S)->WY f):=λb o e R z=>IZ);(let neN:∀b,g b=I->WY f:=λb e z=>Io);show (B.ok,N6,M6,(S6,S8,Wn b o e n N,RL,YE L,YL b x e,YE u),Pm,MJ,?_,YJ c,Yn p,YE o,Pl);{rw [aq%neN b%Os b o e n N];show Os b o e n N};{let q:=UL b L e;rw [aq%a b _ q V7];show q};{let q:=S9 b o x e;rw [aq JO];show q};{let (m,q):=UM b u e;show (m,Yj%a b _ q V7)};{rw [aq%neN _ NH];show B.da};{rw [aq%neN c%M5 x c e];show M5 x c e};{let (e,n,r):=NI p d;show (e,_bz aq%neN _ n,r)};{by_cases W:b=f;{rw [W,ar] at e;cases e;rw [W];let (_,x):=Jl f _ h;show x.lX (λc i _ q=>q) (λc q=>Yj%a c _ q V7) (λc L q=>Yj%a c _ q V7)};{rw [aq W] at e;show (Jl b o e).lX (λc i _ q=>q) (λc q=>Yj%a c _ q V7) (λc L q=>Yj%a c _ q V7)}}
def ack(t:TS):TS:=λG c H=>∃f O,H f=J O/\lY%J O/\∀l,t (λz d=>d f=J%Jd l O/\N8 z%ak d f O,λv d=>d f=J%Jd l O/\G.rt v%ak d f O,λz d=>d f=J%Jd l O/\G.bk z%ak d f O,λz d=>d f=J%Jd l O/\G.ct z%ak d f O) c%ak H f%Jd l O
def alb(t:TE):TE:=λc H Q=>∃f O,H f=J O/\lY%J O/\∀l,t c (ak H f%Jd l O) (λv d=>d f=J%Jd l O/\Q v%ak d f O)
def Cf(h:PS j zA zK):PS j zA%ack zK:=by intro F s c H G B S;let (f,O,hd,mu,S):=S;let (l,V):=B.lock hd mu;show bq (h F s c _ _ V%S l)%WH E q;cases E with|next=>let (z,d,k,e,q):=q;show (z,_,_Az e%B.ua hd mu,q)|brk=>let (z,d,k,e,q):=q;show (z,_,_Az e%B.ua hd mu,q)|cont=>let (z,d,k,e,q):=q;show (z,_,_Az e%B.ua hd mu,q)|ret v=>let (x,z,d,k,r,e,q):=q;show (x,z,_,_Az e%B.ua hd mu,r,q)
def alc(h:PE j O R):PE j O%alb R:=by intro F s c H Q B S;let (f,a,hd,mu,S):=S;let (l,V):=B.lock hd mu;show bq (h F s c _ _ V%S l)%XD (x,M,k,r,Z,q);show (x,_,_Az Z%B.ua hd mu,r,q)
theorem acm{R:Rl}{t:It}{V:Y' Iu}(B:Ip j ν E g v)(o:bb) (u:m6 IS IT IO O t [II] II V) (st:V 0%Jw o) (a:R t g):tQ j ν E O R (Ia II)%Zj%Jw o:=by show (II, [II],V,t,g,y,RO λb M e=>dz _ e,u,st,OE,a);(let e:b=II:=Nj);subst e;show B.pY (bj _)%Nl%bj _
theorem ald(hd:(f==ij)=ay)(S:Ji f=J ze)(m:ze.ExactDict)(a:M7= L7 zx q) (c:Xn zC (Ia II)%Jw%WN _BD #[Ia f, Id 0 0, Id NM 0, Id q 0]): aG (a7 l p) μ (mB%Ia f) zC υ v:=by let A:QW (Ia f) No:=(ze,S,m.1);show G4 A _Fd%jx _Fd A F.entry_dict_iter ?_%F.args_dict_iter_1 _;unfold Builtin.«dict.__iter__»;show aw ?_;unfold Builtin.Dict.dictSlotNone;show aw%agH A ?_;change aG _ _ (JH%b! f) _ _ v;show aZ ?_;change aG _ _ (vD f>>=_) _ _ v;unfold vD;rw [au _DM];show aw%aZ ?_;show aw%pk S a ?_;show aw%pq S a ?_;show aw%hq%aZ (_,y,_BD,_,(_,ep _ y,y),Az.B,?_);simpa [e9] using c
theorem ale{m:fV}{Q:WL%Im ah}(r:v.j.g1 f u q Z zm)(a:Ji u=J ze)(B:M7= L7 zx zm) (g:NM=Z) (N:Wf zx=J m) (c:∀C,C.g1 f u (q+1) Z zm->lI f I7 C->Xn Q (J Ow) C):aG (a7 l p) μ (fS%Ia f) Q υ v:=by let (o,S,b,hd):=id r;unfold fS;show aw%nQ%Yv (eG Ql) K' Az%jx Az K' axw ?_%axx _;show aw%aZ ?_;show aw ?_;show aw ?_;(first|show aw%G5 K'%aZ ?_|show aw%G6 K'%aZ ?_);show aw%nV S hd ?_;(let e:q! _BD=ay:=Il);simp only [e,q_,iL];change aG _ _ (WW (b! u==fq)) _ _ v;rw [au%Zl ((b! u==fq)=ag)];show aw%aZ ?_;show aw%pk a B ?_;rw [au _DN];show aw%aZ ?_;show aw%pq a B ?_;rw [au Ii];show aZ ?_;let (h,i):=vE.R N;simp only [show ¬ ((q:Int)<0) from by lia,iL,eL,G7 h];show aw ?_;(first|show aw%G5 K'%aZ ?_|show aw%G6 K'%aZ ?_);show aw%axy K' ?_;change aG _ _ (tg (Ia f) 1 (e9 (K2+1))>>=_) _ _ v;show aw%q? S hd Ii ?_;let d:(Te f%G8 (·.eg 1%e9 (K2+1))).g1 f u (q+1) Z zm:=(_,nM _ S%G9%ra hd _,(agI ..).q b,by rw [ra hd];simp [e9]);show aw%js ?_;show aw%_bf axy (Te f%G8 (·.eg 1%e9 (K2+1))) Tm ?_;change aG _ _ (JH zx[q].key) _ _ _;rw [i];show aZ%aZ (_,y,aZ%c _ d SB)
theorem alf{Q:WL%Im ah}(H:M_=I)(r:v.j.g1 f u q Z zm)(a:Ji u=J ze)(B:M7= L7 zx zm) (g:NM=Z) (b:Z<=q) (c:∀C,G_ f I7 C->Xn Q I C):aG (a7 l p) μ (fS%Ia f) Q υ v:=by let (o,S,m,hd):=id r;unfold fS;show aw%nQ%Yv (eG Ql) K' Az%jx Az K' axw ?_%axx _;show aw%aZ ?_;show aw ?_;show aw ?_;(first|show aw%G5 K'%aZ ?_|show aw%G6 K'%aZ ?_);show aw%nV S hd ?_;(let d:q! _BD=ay:=Il);simp only [d,q_,iL];change aG _ _ (WW (b! u==fq)) _ _ v;rw [au%Zl ((b! u==fq)=ag)];show aw%aZ ?_;show aw%pk a B ?_;rw [au _DN];show aw%aZ ?_;show aw%pq a B ?_;rw [au Ii];show aZ ?_;(let e:NM<=q:=by rw [g];show b);simp only [show ¬ ((q:Int)<0) from by lia,iL,eL,agJ e];show aw ?_;(first|show aw%G5 K'%aZ ?_|show aw%G6 K'%aZ ?_);change aG _ _ (tg (Ia f) 0 Ja>>=_) _ _ v;show aw%q? S hd Ii ?_;change aG _ _ (rf (IU RW) []>>=_) _ _ _;show aw ?_;simp only [rf,newTuple];show aw%hq ?_ RX;show XS (rh _ _)%_aM kD ?_;show hq ?_ RX;simp only [raiseNew];show aw%G' ?_;rw [_aH _BE I];show aw%aZ%G! ?_;show aw%_aA vF RW (_,ep _ y,y) G?;show aZ%c _%((SB).h1 _).av _
theorem ub{s:Jc}{G:WF zg s}{d:Ib zg}{g:Ib s}(h:cN G d g):∀{i:Nat} {a:zg},Wg d=J a->∃b,Wg g=J b/\G a b:=by induction h with|nil=>cbv|@cons a b d g r t c=>lk
theorem w3{f:KC fV}(h:M7= L7 zx q)(C:M7= L7 f Z):f=zx/\Z=q:=Io
def om(K:aE)(a:aa):It:=(λi H=>∃(L:Ib V) (x:V),aD K H a L/\Pa=J x,λi H v d=>∃u x,v= Ia u/\H u=I/\d=ak H u%IC [Id K8,x]/\∀L,aD K H a L->Pa=J x,λi H=>∃L:Ib V,aD K H a L/\I0<=i)
theorem alg(a e α:aa): m6 l p r (Qa Ω q κ) (om r a) [e,α] e (λi h=>(∃c,IsEnum h e α (Wc i) c)/\h.d9 α a i/\e≠α) where
 mem:=Ii
 obj:=λi h st b W=>by
  let ((c,D),(o,S,m,hd),_):=st
  grind
 keep:=λi h C st k=>let ((c,D),η,R):=st;((c,k e Ii _ D),η.at λo v=>k α Ii o v,R)
 item:=by
  intro X G β γ m i F s ε H Z B hf st j
  subst G β γ
  let ((c,D),w,R):=st
  let (L,x,n,N):=j
  let (d,f,P,E):=Lf n
  let (O,μ,ν):=_Ay N
  let ζ:e<JR:=cZ D
  let ξ:α<JR:=by let (_,v,_):=w;show cZ v
  show wpAny_pyNext_enum_item D w P.cj (x:=O) (by simpa using μ) R%WM C S ο A Γ g
  show (_,y,axz (s:=Z? C M8 1) S%Wd δ π t)
  let ρ:δ.E JR=J%X5 #[Id i M8,O]:=(Nf _%o' ζ).q A
  let T:d3 Km Kn (ak H JR%IC [Id K8,x]) δ JR (IC [Id K8,x]):=
   (Nx, [Id i M8,O], I1 (_,y)%I1 ν IR,(_,ρ,y,_,y))
  let V:Ip X F ε (ak H JR%IC [Id K8,x]) (Z? δ M8 1):=
   B.Ce (zl:= [e,α]) (λb M W v=>(Nf b λz=>W QS).q%g b M (λz=>W QS) (λz=>W QS) v) hf (bj _) T
  show (Ia JR,_,V,y,(_,x,y,Nl%bj _,y,_az Δ u%B.BH u n),(Wt O,ο.at λo v=>(Nf α%i7 R).q v,R),OE)
  ·grind
  ·let τ:b<JR:=by
    grind
   rw [aq%eF τ]
   show (hf b W).1
 done:=by
  intro X G β γ m i F s ε H Z B hf st j
  subst G β γ
  let ((c,D),w,R):=st
  let (L,n,N):=j
  let (d,f,P,E):=Lf n
  let (υ,φ,Θ,χ,Q,ψ):=hf α Ii
  let Ξ:=Mw
  show wpAny_pyNext_enum_end (ML m) D w P.cj _Bt λC ω=>(y,Yr (λb o W v=>ω b o W v) υ φ χ Q ψ)
 self:=λΦ i s Ψ Z st h=>let ((_,D),_):=st;Ha D h
def acn(K:aE)(b:TA):TI:=λc H R=>b c H λC M=>∃a L,C= [Ia a]/\aD K M a L/\R (om K a) M
theorem oo{e:cv}(x:Gl j KW)(i:J9 KW=I)(N:PA j Kk zo)(P:cK Kk IE= SO:=by rfl): PI j (Qa Ω q e) (J0 (JU KW zj) Kk [] κ) (acn IO zo):=by intro F s c H R B h;show Call_%kQ B x i _Fe%vv (bq (N κ F s c H _ B h)%WH α (β,M,V,g,A)) P y;let (a,L,G,n,m):=A;subst G;cases g with|cons r o=>cases o;cases r;let (d,f,Q,E):=V.dl n;show call_enumerate_list Q.cj λC D S u Z=>Ha D ?_;let k:Ip j F c M {w with heap:=C}:=_aa Z;show (Ky+1, [Ky+1,Ky],_,_,M,y,k,alg a (Ky+1) Ky,((Ja,D),S,agK _),OE,m);(let l:b=Ky+1∨b=Ky:=Nj);(let t:Ky<=b:=IZ);show V.pY t%QU t
end L2
namespace Bits
open PySem PyProof.Rows
end Bits
namespace TL
open PySem PySem.Builtin PySem.Builtin.Str PySem.StrLaws
abbrev tl(x:ai):Ib Iu:=x.cps.toList
def aco(x A:ai):tl (x++A)=tl x++tl A:=by change (x++A).e1=_;rw [Str.cps_append,Array.toList_append]
def uc(S:Ib Iu):Ib%Ib Iu->Ib Iu| []=> []| [p]=>p|p::q::r=>p++(S++uc S (q::r))
theorem acp(A:ai):∀a:Ib ai,tl%Hb A a=uc (tl A)%Ot tl| []=>y| [_]=>y|x::z::r=>by change tl (x++A++Hb A (z::r))=tl x++(tl A++uc (tl A)%(z::r).o tl);rw [aco,aco,acp A (z::r),iH]
def join_eq(A:ai)(a:Ib ai):Hc A a=Hb A a:=glued_eq_join A a
end TL
namespace L2
open PySem PySem.Spec PyProof.Rows
theorem Cg:∀{w:Ib ai} {G:Ib ah},bC (w.o Ki) G->StrsAre G w| [],_, .nil=> IR|A::w,_, .cons r t=>by let (k,rfl):=r;show I1 A k%Cg t
def alh:tZ j "str.join" (λx L H Q=>∃a p,∃w:Ib ai,x= Iv a/\L= [Ia p]/\(aD IO H p%w.o Ki∨bS IO H p%w.o Ki)/\(w.o (·.a)).sum+w.a*Kj<=16777216/\Q (Iv%Hc a w) H):=by intro F s c H x L e G Q B Z f h;let (a,p,w,rfl,rfl,d,E,h):=h;let (t,rfl):=Z;cases f with|cons g f=>cases f;cases g;rcases d with d|d;{let (b,r,(o,n,S,m,_,hd),_):=Lf d;show PyProof.Rows.join_list (items:=b.toArray) (o,S,m,n,hd) (by rw [axA];show Cg r) E (λN k=>(Iv _,H,Ko k,(N,y),h))};{let (b,r,v,_):=L_ d;show PyProof.Rows.join_tuple (items:=b.toArray) v (by rw [axA];show Cg r) E (λN k=>(Iv _,H,Ko k,(N,y),h))}
def tM1(r:V->Ib V->J3)(j S:TE):TE:=λc H Q=>j c H λx M=>(∃a,x= Iv a)/\S c M (λA n=>r x _Ba n Q)
def ali(d:Slot "str" L zN)(W:_BB%Jf zN=JH%IU _DE)(rule:tZ j zN zL)(f:PE j ξ R)(D:PE j O Ξ) (i:cK Kk IE= SO:=by rfl) (l:mC ξ L IE%Je ξ IE=Je ξ IE:=by rfl) (m:(κ.gi==zj.f0)=ag:=by rfl): PE j (J0 (LD ξ L κ) Kk [] zj) (tM1 zL R Ξ):=by intro b s c H Q B h;show PySem.Call_method1 l i m%bq (f b s c H _ B h)%XD (x,M,q,g,z);let ((a,rfl),z):=z;let (t,rfl):=_root_.id g;show ("str",_,F.plainAttrs_str,d,W,_DC _ _ _,(Wv O (nomatch O)),GX y%agy%pd ?_);show bq (D b w c M _ q z) λe p (A,n,u,C,E)=>q3%rule b p c n _ _Ba _ [e] Q u g (I1 C IR) E
def alj(b:PE j O R)(D:PE j ξ Ξ)(c:cK SX IE= [ZZ ξ]:=by rfl)(l:mC O "join" IE%Je O IE=Je O IE:=by rfl)(m:(κ.gi==zj.f0)=ag:=by rfl): PE j (J0 (LD O "join" κ) SX [] zj) (tM1 (λx L H Q=>∃a p,∃w:Ib ai,x= Iv a/\L= [Ia p]/\(aD IO H p%w.o Ki∨bS IO H p%w.o Ki)/\(w.o (·.a)).sum+w.a*Kj<=16777216/\Q (Iv%Hc a w) H) R Ξ):=ali F.slot_str_join F.type_str_join alh b D c l m
end L2
namespace Att
open PySem PySem.W PySem.Calls PyProof.Rows
end Att
namespace L2
open PySem PySem.Spec PyProof.Rows
def eP(s:aS)(M:Nat):aS:=match s with| .ClassDef _ _ _ D _ _ _ _ _ _ _=>D.az M (.Pass (0,0,0,0))|_=> .Pass (0,0,0,0)
def oq(s:aS):Arguments:=match s with| .FunctionDef _ a _ _ _ _ _ _ _ _=>a|_=>{posonlyargs:= [],args:= [],vararg:=I,kwonlyargs:= [],kw_defaults:= [],kwarg:=I,defaults:= []}
def l6(s:aS):Ib aS:=match s with| .FunctionDef _ _ b _ _ _ _ _ _ _=>b|_=> []
def aR(s:aS):e8:=match s with| .FunctionDef _ _ _ _ _ _ M _ _ _=>M|_=>{kind:= RF,names:= [],isGenerator:=ay,isCoroutine:=ay}
abbrev aB:fb:=λ_ _ _ _ _ _=>P8
abbrev E0:XK:=ZH _
def aK:iw aB j E0:=λ_ _ _ _ _ _ _ h=>h.al
structure aW(K:aE)(x X:ai)(st:aS)(E:aa)(B:br):Ir where
 ex:∃(a:ah) (l:Im aa) (kV b r:ah) (i:Im aa) (c g:ah) (m:KC%Im ah),
  B=pe x X (oq st) (l6 st) (aR st) Ja kV b r i c g/\K.B E=J (a,l, .func B,m)/\GO K c X=ag
 kp:kz K%Ia E=ag
def aW.ok(F:aW r zD L zA f Q)(S:a0 π z9%aR zA)(len:∀C H a Z,zt C H a Z->L'=z9.a) (c:∀(e:ah) (T:cC) (b:Ib es) (s:az) (H:Hp) (C:Ib V) (a:VK) (Z:XK),dy q%T.gb%gJ L (aR zA) JR f e->zt C H a Z->∃t,ir (h6 aB l p r D A π L (aR zA) f e T b s H Z).wB (l6 zA) t/\t {nx:=(Wv d (a IK d)),rt:=a} (Qf π C) H):aJ l p r D A aB (q+1) f Q z9 zt:=by let (v,w,kV,x,z,i,e,g,m,rfl,n,j):=F.ex;show abS n j S KO λT b s H C a Z k o=>?_;let (t,h,u):=c e T b s H C a Z k o;show (t,h.wB,u)
def aW.binds(F:aW r L zD zA f Q) (h:∀(kV d a:ah) (i:Im aa) (e g:ah) (G:Ib ah),JY=KD->_Dw (pe L zD (oq zA) (l6 zA) (aR zA) Ja kV d a i e g) (G, [])=JH%Qd G):MN r Q π []:=by let (b,l,kV,d,a,i,e,g,m,rfl,V,j):=F.ex;show .all%h kV d a i e g
def acq{b:ah}{l i:Im aa}{m:KC%Im ah}{e a g:ah}(h:r.B f=J (b,l, .func%pe zD L (oq zA) (l6 zA) (aR zA) Ja zw e a i η g,m)) (j:GO r η L=ag) (k:kz r%Ia f=ag):aW r zD L zA f%pe zD L (oq zA) (l6 zA) (aR zA) Ja zw e a i η g:=((b,l,zw,e,a,i,η,g,m,y,h,j),k)
def pv(i:Nat)(R:Wg j.N=J L:=by rfl)(A:rK N7 L:=by first|show aH y|show AA%aH y|show AA%AA y)(hd:MY=ay:=by decide) (a:(L==ZM _EE)=ay:=by decide):PE j (JU L κ)%bH i:=ajh R A hd a
def w4:jG j (Jf Kp) (λL H Q=>∃a b,L= [IP a]/\H a=J%JK b/\Q (Id M0) H):=by intro F s c H L G Q B r h;let (a,b,rfl,N,q):=h;let (O,rfl,P):=Tc r;cases P;show ak4 B (Ik N) λt M W=>(Id M0,H,W,(t,y),q)
theorem bt{T r:Ir}(h:r):Ww ay T r:=Io
theorem bu{T r:Ir}(h:T):Ww ag T r:=Io
theorem cF{j T r:Ir}[_Dc j](D:j->T)(R:¬ j->r):if j then T else r:=Io
def iz(H d:Hp):Ir:=Wh (H b=J o) (d b=J o)
def iz.trans(a:iz g G)(b:iz G σ):iz g σ:=λj o h=>b j o%a j o h
section
variable {d:Jc}[_Ai d]
end
open PySem.W (WData Codec OpenSpec Well WellAll ReadsW ReadsAllW)
mutual
inductive Dw (K:aE) (H:Hp):XU fy|aV:Dw K H IK Ja|bl (b:Bool):Dw K H (IJ b)%MK b|int (i:Int):Dw K H (Id i)%Id i|str (x:ai):Dw K H (Iv x)%Iv x|h4 (b:KC UInt8):Dw K H (.h4 b)%.bytes b.by|lst {a:aa} {xs:Ib V} {l:Ib fy}:aD K H a xs->kd K H xs l->Dw K H (Ia a)%Js l|tup {a:aa} {xs:Ib V} {l:Ib fy}:bS K H a xs->kd K H xs l->Dw K H (Ia a)%N_ l
inductive kd (K:aE) (H:Hp):WF (Ib V)%Ib fy|nil:kd K H [] []|cons {v:V} {C:Ib V} {f:fy} {l:Ib fy}:Dw K H v f->kd K H C l->kd K H (v::C) (f::l)
end
theorem acr{K:aE}{H:Hp}:∀O:Ib Ix,kd K H (Lo Iz)%Lo WData.int| []=> IR|n::r=> I1 (Id n) (acr r)
theorem acs{K:aE}{H:Hp}:∀(O:Ib Ix) (L:Ib V),kd K H L%Lo WData.int->L=Lo Iz| [],L,h=>_Ff|n::r,L,h=>by cases h with|cons D R=>cases D;rw [acs r _ R]<;>rfl
section
variable {P:aP}{w:World}{F:aE}{H:Hp}{h:aO}{a:axB}{B:ai->Im aa}
theorem alk(T:d_ P w H h)(Q:RY h)(q:aD F H f α):∃(d:Ib ah) (o:bb) (n:Nat),bC α d/\Kw f=J o/\UQ= IU JT/\QQ= NF KU n:=by rcases q with q|⟨o,d,n,e,m,_,hd,_,A⟩;{let (_,d,n,A,e):=(W0 (d3 P w H h f%Ig α)%q.ok T);cbv};{show (d.by,o,n,A,Q _ _ e,m,by simp [hd])}
theorem alm(T:d_ P w H h)(Q:RY h)(q:bS F H f α):∃(d:Ib ah) (o:bb) (n:Nat),bC α d/\Kw f=J o/\UQ= IU KN/\QQ= NF KU n:=by rcases q with q|⟨o,d,n,e,m,hd,_,A⟩;{let (_,d,A,o,e,m,n,hd):=(W0 (d3 P w H h f%IC α)%q.ok T);cbv};{show (d.by,o,n,A,Q _ _ e,m,by simp [hd])}
mutual
theorem Dw.reads(T:d_ P w H h)(Q:RY h):∀(f:fy) (v:V) (O:ah),Dw F H v f->IX v O->∃i,ReadsW a B h O f i| .none,_,_,x,r=>_aZ _ ReadsW.none| .bool b,_,_,x,r=>_aZ _%ReadsW.bool b| .int j,_,_,x,r=>_a1 (t,rfl) _%ReadsW.int j t| .str s,_,_,x,r=>_a1 (t,rfl) _%ReadsW.str s t| .bytes b,_,_,x,r=>_a1 (t,rfl) _%ReadsW.bytes _ t| .list l,_,_,x,r=>(by cases x with|lst c N=>cases r;let (d,o,n,e,S,m,hd):=alk T Q c;let (i,L):=Dw.gj T Q l _ d N e;show (_,ReadsW.dl S m hd L))| .tuple l,_,_,x,r=>(by cases x with|tup c N=>cases r;let (d,o,n,e,S,m,hd):=alm T Q c;let (i,L):=Dw.gj T Q l _ d N e;show (_,ReadsW.dj S m hd L))| .float _,_,_,x,_=>UX| .dict _,_,_,x,_=>UX| .bytearray _,_,_,x,_=>UX| .set _,_,_,x,_=>UX| .frozenset _,_,_,x,_=>UX| .obj _ _,_,_,x,_=>UX
theorem Dw.readsAll(T:d_ P w H h)(Q:RY h):∀(l:Ib fy) (C:Ib V) (G:Ib ah),kd F H C l->bC C G->∃i,ReadsAllW a B h G l i| [],_,_,x,r=>_aZ _ ReadsAllW.nil|f::l,_,_,x,r=>by cases x with|cons D R=>cases r with|cons g p=>let (i,z):=Dw.hi T Q f _ _ D g;let (k,q):=Dw.gj T Q l _ _ R p;show (_,ReadsAllW.cons z q)
end
end
mutual
def jh:WA fy| .none=>true| .bool _=>true| .int _=>true| .str _=>true| .bytes _=>true| .list L=>ke L| .tuple L=>ke L|_=>false
def ke:WA%Ib fy| []=>true|x::r=>jh x && ke r
end
theorem acu{f:Jc}{E:f->fy}(h:∀a,jh%E a=ag):∀l:Ib f,ke%JZ E=ag| []=>y|x::r=>by change (jh%E x && ke%r.o E)=ag;rw [h x,acu h r]<;>rfl
theorem ot:∀(j:Codec) (a:j.denote),jh%j.enc a=ag| .unit,_=>y| .bool,_=>y| .int _ _,_=>y| .nat _ _,_=>y| .u8,_=>y| .bytes _ _,_=>y| .text _ _ _ _,_=>y| .list _ _ j,a=>acu (λx=>ot j x) a| .pair j f,a=>by change (jh%j.enc a.1 && (jh%f.enc a.2 && ag))=ag;rw [ot j a.1,ot f a.2]<;>rfl| .triple j f e,a=>by change (jh%j.enc a.1 && (jh%f.enc a.2.1 && (jh%e.enc a.2.2 && ag)))=ag;rw [ot j a.1,ot f a.2.1,ot e a.2.2]<;>rfl| .option j,I=>y| .option j,J x=>ot j x
theorem acv:∀(O:Ib Codec) (a:Hd O),ke%vG O a=ag| [],_=>y|j::O,a=>by change (jh%j.enc a.1 && ke%vG O a.2)=ag;rw [ot j a.1,acv O a.2]<;>rfl
theorem Ci:∀{L:Ib fy} {f:fy},f∈L->f.ho<=He L| [],f,h=>a' h Ii|x::r,f,h=>by change f.ho<=x.ho+1+He r;rcases b0.R h with e|m;{rw [e];lia};{let z:=Ci m;lia}
def h8:ah->V| .none=> IK| .bool b=> IJ b| .int i _=> Id i| .str x _=> Iv x| .bytes b _=> .h4 b| .ref a=> Ia a|_=> IK
def jK(T:Ib aa):WI ah| .none=>True| .bool _=>True| .int _ _=>True| .str _ _=>True| .bytes _ _=>True| .ref a=>a∈T|_=>False
def jK.mono{r:Ib aa}(h:∀a∈zl,a∈r):∀{O:ah},jK zl O->jK r O:=λ{O} x=>by cases O with|ref a=>show h a x|none=>trivial|bool b=>trivial|int i t=>trivial|str s t=>trivial|bytes b t=>trivial|_=>show ik x
def aln(x:jK zl η):IX (h8 η) η:=by cases η with|ref a=>rfl|none=>rfl|bool b=>rfl|int i t=>show (t,y)|str s t=>show (t,y)|bytes b t=>show (t,y)|_=>show ik x
theorem rZ{T:Ib aa}:∀{C:Ib ah},(∀O∈C,jK T O)->bC (Ou h8) C| [],_=> IR|O::r,h=> I1 (aln%h O%cA ..) (rZ λx N=>h x%cL _ N)
def kf(h:aO)(T:Ib aa)(a:aa):Ir:=∃C:Ib ah,Wo L'/\(∀O∈C,jK T O)/\(Kw a=J SD∨Kw a=J SC)
def kf.mono{h:aO}{T r:Ib aa}{a:aa}(k:∀a∈T,a∈r)(x:kf h T a):kf h r a:=by let (C,D,R,V):=x;show (C,D,λO t=>(R O t).u k,V)
theorem w5{P:av}{h:aO}:∀{C:Ib ah} {l:Ib fy},ri P h C l->L'=LP|_,_, .nil=>y|_,_, .cons _ b=>_al (_+1) (_+1)%w5 b
theorem acw{P:av}{l:Ib fy}(x:Well P A η%Js l):∃(a:aa) (C:Ib ah),η= Ia a/\Le a=J SD/\ri P A C l:=by cases x with|list S j=>cbv
theorem acx{P:av}{l:Ib fy}(x:Well P A η%N_ l):∃(a:aa) (C:Ib ah),η= Ia a/\Le a=J SC/\ri P A C l:=by cases x with|tuple S j=>cbv
theorem acy{P:av}{f:fy}{l:Ib fy}(x:ri P A Φ (f::l)):∃(v:ah) (C:Ib ah),Φ=v::C/\Well P A v f/\ri P A C l:=by cases x with|cons a b=>lk
theorem acz(h:Zv q):Wo q:=d8 h Il
section
variable {P:av}{h:aO}
mutual
theorem alo:∀(f:fy) (v:ah),Well P h v f->jh f=ag->Zv f.ho->∃T:Ib aa,jK T v/\Zz kf h T a| .none,_,x,_,_=>ZO [] fO (λa m=>a' m Ii)| .bool b,_,x,_,_=>ZO [] fO (λa m=>a' m Ii)| .int i,_,x,_,_=>ZO [] fO (λa m=>a' m Ii)| .str s,_,x,_,_=>ZO [] fO (λa m=>a' m Ii)| .bytes b,_,x,_,_=>ZO [] fO (λa m=>a' m Ii)| .list l,_,x,p,z=>(by let (a,C,rfl,S,j):=acw x;let u:Zv (He l):=z;let (T,D,R):=w6 l _ j p λf hd=>d8 (Ci hd) u;let k:∀b∈T,b∈a::T:=λb W=>cL _ W;show (a::T,cA ..,OE);rcases b0.R W with e|m;{rw [e];show (C,acz%X0 (w5 j)%d8 (axC l) u,λO t=>(D O t).u k, Ik S)};{show (R b m).u k})| .tuple l,_,x,p,z=>(by let (a,C,rfl,S,j):=acx x;let u:Zv (He l):=z;let (T,D,R):=w6 l _ j p λf hd=>d8 (Ci hd) u;let k:∀b∈T,b∈a::T:=λb W=>cL _ W;show (a::T,cA ..,OE);rcases b0.R W with e|m;{rw [e];show (C,acz%X0 (w5 j)%d8 (axC l) u,λO t=>(D O t).u k, Iy S)};{show (R b m).u k})| .float _,_,_,p,_=>kE O8| .dict _,_,_,p,_=>kE O8| .bytearray _,_,_,p,_=>kE O8| .set _,_,_,p,_=>kE O8| .frozenset _,_,_,p,_=>kE O8| .obj _ _,_,_,p,_=>kE O8
theorem w6:∀(l:Ib fy) (C:Ib ah),ri P h C l->ke l=ag->(∀f∈l,Zv f.ho)->∃T:Ib aa,(∀O∈C,jK T O)/\Zz kf h T a| [],_,x,_,_=>ZO [] (λO m=>a' m Ii) (λa m=>a' m Ii)|f::l,_,x,p,z=>by let (v,C,rfl,g,o):=acy x;let q:jh f=ag/\ke l=ag:=axD.R p;let (T,a1,a2):=alo f v g q.1%z f%cA ..;let (r,n,w):=w6 l C o q.2 λe A=>z e%cL _ A;let c:∀b∈T,b∈T++r:=λb W=>d7.mpr%Ik W;let d:∀b∈r,b∈T++r:=λb W=>d7.mpr%Iy W;show (T++r,Wb O t,OE);{rcases b0.R t with e|m;{rw [e];show a1.u c};{show (n O m).u d}};{rcases d7.R W with m|m;{show (a2 b m).u c};{show (w b m).u d}}
end
end
def w7(o:bb):Im HO:=match o.data with| .seq C _=>Ww (UQ==jq JT) (J%Jd o%Ig%C.by.o h8) (J%Jd o%IC%C.by.o h8)|_=>none
def g!(K:aE)(h:aO)(T:Ib aa):Hp:=Ye b (b∈T) (Ww (K.B b).gl ((Kw b).ag w7) I) I
def ud(H:Hp):Ir:=∀b,H b=I∨∃o O,H b=J%Jd o O
def acA(C:Ib ah):w7 SD=J%Jd SD%Ig%Ou h8:=_al (Ww (jq JT==jq JT) (J%HO.b_ SD%Ig%_BF h8)%J%HO.b_ SD%IC%_BF h8) _%aA%Af _
theorem acB(C:Ib ah):w7 SC=J%Jd SC%IC%Ou h8:=by change (Ww (jq KN==jq JT) (J%HO.b_ SC%Ig%_BF h8)%J%HO.b_ SC%IC%_BF h8)=_;cbv
section
variable {F:aE}{h:aO}{T:Ib aa}
theorem w8(W:f∈T)(g:F.B f=I)(e:Kw f=J ze):g! F h T f=w7 ze:=by unfold g!;lk
theorem alp(q:g! F h T f=J za):f∈T/\F.B f=I:=by unfold g! at q;by_cases W:f∈T;{rw [aA W] at q;cases g:F.B f with|none=>show (W,y)|some o=>cbv};{cbv}
theorem w9(H:Zz kf h T a)(q:g! F h T f=J za):F.B f=I/\∃C:Ib ah,Wo L'/\(∀za∈C,jK T za)/\((Kw f=J SD/\za= Jd SD%Ig%Ou h8)∨ (Kw f=J SC/\za= Jd SC%IC%Ou h8)):=by let (W,g):=alp q;let (C,D,R,V):=H f W;show (g,C,D,R,?_);rcases V with e|e;{rw [w8 W g e,acA] at q;cbv};{rw [w8 W g e,acB] at q;cbv}
theorem alq(H:Zz kf h T a):ud%g! F h T:=λb=>by cases q:g! F h T b with|none=>show Ik y|some O=>obtain ⟨_,C,_,_,⟨_,e⟩|⟨_,e⟩⟩:=w9 H q;{cbv};{cbv}
def alr(H:Zz kf h T a):d_ l p (g! F h T) h:=λb O q=>by obtain ⟨_,C,D,R,⟨e,rfl⟩|⟨e,rfl⟩⟩:=w9 H q;{show (e,_Fh,C,_,rZ R,e)};{show (e,_Fh,C,rZ R,_,e,y,_,y)}
theorem als(Q:RY h)(H:∀f∈T,kf h T f)(N:f∈T)(e:Kw f=J%Y0 N9):(∀O∈Φ,jK T O)/\aD F (g! F h T) f%Φ.o h8:=by let (G,D,R,V):=H f N;(let t:G=Φ:=Io);subst t;show Wt R;cases g:F.B f with|none=>show Ik%Iy (_,by rw [w8 N g e,acA])|some o=>let Z:=Q f o g;rw [e] at Z;obtain rfl:=eD Z;show Iy (_,G.C,_,g,y,y,y,_Fi,_aL rZ R)
theorem alu(Q:RY h)(H:∀f∈T,kf h T f)(N:f∈T)(e:Kw f=J%X5 N9):(∀O∈Φ,jK T O)/\bS F (g! F h T) f%Φ.o h8:=by let (G,D,R,V):=H f N;(let t:G=Φ:=Io);subst t;show Wt R;cases g:F.B f with|none=>show Ik%Iy (_,by rw [w8 N g e,acB])|some o=>let Z:=Q f o g;rw [e] at Z;obtain rfl:=eD Z;show Iy (_,G.C,_,g,y,y,_Fi,_aL rZ R)
mutual
theorem alv{c:av}(Q:RY h)(H:Zz kf h T a):∀(f:fy) (v:ah),Well c h v f->jh f=ag->jK T v->Dw F (g! F h T) (h8 v) f| .none,_,x,_,_=>by cases x;show IK| .bool b,_,x,_,_=>_bs IJ b| .int i,_,x,_,_=>_bs Id i| .str s,_,x,_,_=>_bs Iv s| .bytes b,_,x,_,_=>by cases x;let z:=Dw.h4 (K:=F) (H:=g! F h T) b.C;show z| .list l,_,x,p,t=>Zx (a,C,rfl,S,j) acw x (R,d) (als Q H t S)%Ig d%w' Q H l _ j p R| .tuple l,_,x,p,t=>Zx (a,C,rfl,S,j) acx x (R,d) (alu Q H t S)%IC d%w' Q H l _ j p R| .float _,_,_,p,_=>kE O8| .dict _,_,_,p,_=>kE O8| .bytearray _,_,_,p,_=>kE O8| .set _,_,_,p,_=>kE O8| .frozenset _,_,_,p,_=>kE O8| .obj _ _,_,_,p,_=>kE O8
theorem w'{c:av}(Q:RY h)(H:Zz kf h T a):∀(l:Ib fy) (C:Ib ah),ri c h C l->ke l=ag->(∀O∈C,jK T O)->kd F (g! F h T) (Ou h8) l| [],_,x,_,_=>by cases x;show IR|f::l,_,x,p,t=>by let (v,C,rfl,e,o):=acy x;let q:jh f=ag/\ke l=ag:=axD.R p;show I1 (alv Q H f v e q.1%t _%cA ..)%w' Q H l C o q.2 λO m=>t O%cL _ m
end
end
theorem alw{γ:ai->Im ah}{c:Ib fy}{R:axB}{ι:ai->Im aa}{δ:fy} (u:Qc I7) (h:_Bq a_ D) (W:_Bq _Dk γ) (φ:∀x:ai,x≠UI->γ x=hT x) (χ:v.heap.NoLimit) (j:v.gens=Ks) (w:ri Ij I7 Φ c) (κ:ke c=ag) (ψ:∀k∈c,Zv k.ho) (ω:dy q vH) (F:∀base:aO,Qc Jp->UH a_ D->aJ l p r D Jp zG q f Q π zt) (Γ:∀(s:az) (G:Ib ah),JY=KD->vw s Q (G, [])%Qd G) (Δ:c.a=KD) (X:∀(H:Hp) (L:Ib V),ud H->kd r H L c->zt L H (λA d=>Dw r d A δ)%ZH _) (Θ:∀H e M,zG [] H v (ZH _) e M->P8): lL (a7 l p) vH (.call (Ia f) (Φ, [])) (λm M=>∃O i,m= JF%QZ O/\ReadsW R ι M.j O δ i/\OldK I7 M.j/\M.os=v.os/\qY _Br) v:=by let (T,μ,α):=w6 c Φ w κ ψ;let ε:ud (g! r I7 T):=alq α;let ζ:d_ l p (g! r I7 T) I7:=alr α;let N:=w' u α c Φ w κ μ;let Ξ:=rZ μ;let ν:∀b O,g! r I7 T b=J O->r.B b=I:=λb O g=>(w9 α g).1;(let cp:∀{b:aa} {o:bb} {a:KC fV} {E:Nat},Ji b=J o->QQ= L7 a E->g! r I7 T b=I:=λ{b o a E} e k=>by cases g:g! r v.j T b with|none=>rfl|some O=>obtain ⟨_,C,_,_,⟨Z,_⟩|⟨Z,_⟩⟩:=w9 α g;{lk};{lk});generalize g! r I7 T=H at ε ζ N ν cp;let ξ:∀{b:aa} {o:bb},Ji b=J o->H b=I->(mV I7 H).E b=J o:=λe n=>ajd e n;let β:∀{b:aa} {η:ai->Im ah},_Bq b η->(mV I7 H).Ns b η:=λ{b η} (o,a,E,e,k,m)=>(o,a,E,ξ e%cp e k,k,m);(let P:Wh (r.B b=J o) (H b=I):=λb o e=>by cases g:H b with|none=>rfl|some O=>lk);let ο:Qc (mV I7 H):=λb o e=>ξ (u b o e)%P b o e;let Ψ:Mod r D (mV I7 H):=(ο,β h,(γ,β W,φ),let (Ω,za,zb):=χ;(Ω,β za,zb));let zc:p1 l p r D (mV I7 H) vH [] v H:=(y,Ψ,λb o e=>aje e,GL%ajc _ _,fO,λb W=>a' (show b∈([]:Ib aa) from W) Ii,ζ, .of_eq j);(let zd:Φ.a=KD:=by rw [w5 w];show Δ);show q4 ((F _ ο%β h).run vH [] v H (Φ, []) Φ (Φ.o h8) _ _ ω zc (Γ v Φ zd) Ξ%X H _ ε N)%Wd m M x;cases m with|error e=>show (Θ H e M x).al|ok ze=>cases ze with|next=>show ik x|brk=>show ik x|cont=>show ik x|ret O=>let (A,d,os,zf,B,ρ,t,g):=x;(let σ:Wh (Ji b=J o) (M.j.E b=J o):=λb o e=>by cases τ:H b with|none=>show B.ad b o e τ (by intro z;show a' (_aB b ([]:Ib aa)) Ii) Ii|some zk=>rcases ε b with z|⟨zg,zl,z⟩;{cbv};{let zh:=B.iS b zg _ z;let (υ,_):=ζ b _ z;let (Z,_):=ρ b _ zh;cbv});let zi:Qc M.j:=λb o e=>σ b o%u b o e;let (i,zj):=Dw.hi (a:=R) (B:=ι) ρ zi δ A O g t;show (O,i,y,zj,OldK.of_keep σ,os,zf)
def alx{l:Ib fy}(h:WData.layableAll l=ag):∀f∈l,Zv f.ho:=λf hd=>(PySem.W.layableW_iff.R%mA.R h f hd).2.2
theorem acC:∀(O:Ib Codec) (a:Hd O),(vG O a).a=I'| [],_=>y|j::O,a=>_al ((vG O a.2).a+1) (I'+1)%acC O a.2
def aly{r:OpenSpec}{ε:Y' (ai->Im ah)}{P:Y' World}{f:DefRec}{K:av->aE}{A:World->fb}{z:World->Sp} (ζ:r.wellSaid=ag) (χ:Wl f.h.defaults) (η:r.ge.a=KD) (θ:dy q vH) (ι:∀(w:World) (h:aO),P w h->(K JL).In h) (F:∀(w:World) (S:ai->Im ah) (c:aa) (h:aO),P w h->(K JL).In h->h.Ns a_ S->S f.Z=J%Ia c->∃B:br,(∀(s:az) (α:Ib ah),I8=KD->vw s B (α, [])%Qd α)/\∀base:aO,(K JL).In Jp->UH a_ S->aJ r.ac w (K JL) S Jp (A w) q c B π%z w) (X:∀(w:World) (H:Hp) (L:Ib V) (a:Hd OS),ud H->axE OS a=ag->AB OS r.asked a=ag->kd (K JL) H L%vG OS a->z w L H (λv d=>Dw (K JL) d v%_DO%AB OS r.f a)%ZH _) (κ:∀(w:World) (H:Hp) (s:az) (e:ah) (M:az),A w [] H s (ZH _) e M->P8): axF l z9 ε P r f [] (λE C=>fU E C):=by intro w μ m S ψ G β c o ω Γ b dV kV Δ hd Θ Ξ ν j x g i ξ ο Φ p Ψ;let (a,k,Z):=PySem.W.os_pre_some ξ;let (u,γ):=Codec.encAll_of_decAll OS x a k;subst u;let Q:=ι w _ β;let (B,W,ρ):=F w S c _ β Q G.T.g ν;show PySem.W.enter_call%q4 (alw (R:= []) (ι:=classAt μ.j) (δ:=_DO%AB OS r.f a) Q G.T.g G.T.b G.T.builtins G.T.nolimit j p (acv _ _) (alx ο) θ ρ W (by rw [acC];show η) (λH L σ N=>X w H L a σ γ Z N) λH e M=>κ w H m e M)%Wd t M n;let (O,τ,rfl,D,R,υ,T):=n;show (Ik (O,_,τ,y,SJ,D,Ws (OpenSpec.post_iff ζ γ _ _) y,λφ=>kE (show ay=ag from φ)),R,υ,T)
def alz{r:OpenSpec}{i:Y' (ai->Im ah)}{b:Y' World}{f:DefRec}{K:av->aE}{z:aE->Sp} (j:r.wellSaid=ag) (g:Wl f.h.defaults) (m:r.ge.a=KD) (n:dy q vH) (o:∀(w:World) (h:aO),b w h->(K JL).In h) (F:∀(w:World) (S:ai->Im ah) (c:aa) (h:aO),b w h->(K JL).In h->h.Ns a_ S->S f.Z=J%Ia c->∃B:br,(∀(s:az) (G:Ib ah),JY=KD->vw s B (G, [])%Qd G)/\∀base:aO,(K JL).In Jp->UH a_ S->aJ r.ac w (K JL) S Jp zG q c B π%z%K JL) (X:∀(K:aE) (H:Hp) (L:Ib V) (a:Hd OS),ud H->axE OS a=ag->AB OS r.asked a=ag->kd K H L%vG OS a->z K L H (λv d=>Dw K d v%_DO%AB OS r.f a)%ZH _) (p:∀(H:Hp) (s:az) (e:ah) (M:az),zG [] H s (ZH _) e M->P8): axF l z9 i b r f [] (λE C=>fU E C):=aly (K:=K) (A:=Wx zG) (z:=λw=>z%K JL) j g m n o F (λw H L a D R t T=>X (K JL) H L a D R t T) λ_ H s e M=>p H s e M
end L2
namespace L2
open PySem PySem.Spec PyProof.Rows
structure Cj(P:aP)(w:World)(p:Ib es)(H:Hp)(s:az)(d:Hp)(r:aO)(a:aa)(j v:ah)(M:az):Ir where
 os:M.os=s.os
 bare:qY _Br
 keep:Wh (RI b=J o) (H b=I->WR%eV p->r.E b=J o)
 there:Wh (RI b=J o) (WR%eV p->∃Q,r.E b=J Q)
 slot:Wh (RI b=J o) (H b=I->b∈eV p->∃A,M.j.E b=J _Em)
 free:Wh (RI b=J o) (H b=I->d b=I)
 hu:∀b L,H b=J%IC L->d b=J%IC L
 iS:∀b o O,H b=J%Jd o O->d b=J%Jd o O
 jE:∀b u,H b=J%.mU u->∃more,d b=J%.mU (u++S4)
 bK:d_ P w d r
 w!:AD r p a j v M.j
def bp(P:aP)(w:World):fb:=λp H s Z e M=>∃(u:aa) (j:ah) (d:Hp) (r:aO) (v:ah),e= Ia u/\Cj P w p H s d r u j v M/\Z j I d
theorem Cj.un{M:az}{r:aO}(F:Cj l p zX g v G r f η zw M)(a:AD r zX f η zw A)(k:M.j.UpToSlots A): Un (eV zX) [] g G I7 A where
 keep:=λb o e n W _=>a.1 b o%F.ad b o e n W
 slot:=λb o e n W _=>by
  let (d,D):=F.hp b o e n W
  let (_,Q,R,hd):=F.w!.2.2.1.mem W
  rw [D] at R
  cases R
  let (c,V):=k b _ D hd
  show (c,V)
 free:=λb o e n _=>F.da b o e n
 there:=λb o e _=>by
  by_cases W:b∈eV zX
  ·let (_,Q,R,_):=a.2.2.1.mem W
   show (Q,R)
  ·let (Q,D):=F.fz b o e W
   show (Q,a.1 b Q D)
 hu:=F.hu
 iS:=F.iS
 jE:=F.jE
def Ck(e:Le f=J ze)(n:f∉zl):(GD A zl).E f=J ze:=aw_ zl e n
theorem bw:iw (bp l p) (h6 (bp l p) l p r D A π L φ f η μ zX v g τ) τ:=by rintro θ ι H s e M B ⟨u,j,β,c,d,rfl,F,q⟩;change aG (a7 l p) (μ.gb%gJ L φ II f η) (_Dy (gJ L φ II f η)%Ia u) _ _ M;let m:=RS;show wpAny_leaves_onW (L:=v.heap.objs.size) m y F.w!%Wd C h k;show (u,j,β,c,d,y,?_,q);let a:∀i:aa,i∉(h6 (bp l p) l p r D A π L φ f η μ zX v g τ).ex:=λi z=>a' (_aB i ([]:Ib aa)) Ii;(let x:∀i o,Ji i=J o->i∉eV zX->i∉eV (gJ L φ II f η::zX):=λi o e W z=>by rcases b0.R (show i∈v.j.v.l::eV zX from z) with z|z;{show a' (cZ e) Io};{show W z});let G:∀i,i∈eV zX->i∈eV (gJ L φ II f η::zX):=λi z=>cL _ z;show (F.os.q N6,F.em,Wn i o e n W,XG i W,Wn i o e n W,XG i n,λi α e=>F.hu i α%UL i α e,λi o O e=>F.iS i o O%S9 i o O e,W' i γ,F.bK,h);{show F.ad i o (S6 i o e n W%a i) (Os i o e n%a i)%x i o e W};{let (Q,b):=RL i o e%a i;show F.fz i Q b%x i o e W};{let (w,b):=S8 i o e n W%a i;let (κ,R):=F.hp i _ b (Os i o e n%a i)%G i W;let (_,Q,V,hd):=F.w!.2.2.1.mem%G i W;rw [R] at V;cases V;let (δ,ε):=k i _ R hd;cbv};{let (Q,b):=RL i o e%a i;show F.da i Q b%Os i o e n%a i};{let (t,ζ):=UM i γ e;let (E,N):=F.jE i _ ζ;lk}
def hC:GG (a7 l p) (h6 (bp l p) l p r D A π L φ f η μ zX v g τ).A (h6 (bp l p) l p r D A π L φ f η μ zX v g τ).H (h6 (bp l p) l p r D A π L φ f η μ zX v g τ).xe:=PassesOwn.leaving
theorem alA{s:az}{c:aO}(B:Ip (h6 (bp l p) l p r D A π L φ f η μ zX v g τ) ν E G s)(d:Heap.MadeExcOf Lp c u zw [])(q:τ zw I G): (h6 (bp l p) l p r D A π L φ f η μ zX v g τ).xe (Ia u) _GH:=by change aG (a7 l p) (μ.gb%gJ L φ II f η) (_Dy (gJ L φ II f η)%Ia u) _ _ _GH;let j:=RS;let e:s.j.fl A (gJ L φ II f η::zX):=B.d1;let β:∀R∈(gJ L φ II f η::zX),∀a,R.g5=J a->a∈eV (gJ L φ II f η::zX):=λR γ a W=>_Bd (R,γ,W);show wpAny_leaves_madeW (L:=v.heap.objs.size) (base:=GD Lp%eV (gJ L φ II f η::zX)) (h:=s.heap) j y (λa o z=>aw' _ z) (PySem.W.funFrames_hide e β) d%WM C t h w V k;show (u,zw,G,GD Lp%eV (gJ L φ II f η::zX), Ia t,y,?_,q);let b:∀a:aa,a∉(h6 (bp l p) l p r D A π L φ f η μ zX v g τ).ex:=λa z=>a' (_aB a ([]:Ib aa)) Ii;(let x:∀a o,Ji a=J o->a∉eV zX->a∉eV (gJ L φ II f η::zX):=λa o u W z=>by rcases b0.R (show a∈v.j.v.l::eV zX from z) with z|z;{show a' (cZ u) Io};{show W z});show (N6,M6,Wn a o u n W,YL a u W,Wn a o u n W,λa o u n=>Os a o u n%b a,UL,S9,UM,?_,h);{show Ck (S6 a o u n W%b a)%x a o u W};{let (Q,z):=RL a o u%b a;show (Q,Ck z%x a o u W)};{let (F,z):=S8 a o u n W%b a;let (_,Q,M,hd):=e.mem%cL _ W;rw [z] at M;cases M;let (δ,ε):=k a _ (d.fo a _ z) hd;cbv};{intro ζ o m;show (Jl ζ o m).lX (λa O W z=>Ck z%We i) (Wv z z)%Xi z;let H:=B.BC a i;cbv}
theorem acD(X:Qc A)(z:D L=J%Ia f)(q:rj r f Φ zN=ag):OwnCls L f Φ zN D A:=by constructor;{show z};unfold rj at q;cases V:r.B f with|none=>cbv|some M=>rw [V] at q;split at q;(case h_2=>cases q);rename_i B b G H;cases H;split at q;(case h_2=>cases q);rename_i Cx O k l n a Q t em g;rw [cI,cI,cI,cI,cI] at q;let (((((i,C),R),c),s),e):=q;let i:=_Ah i;let C:=_Ah C;let e:=_Ah e;subst i C;let g:G=#[k,l,n,a,J (Jf Q),t]:=dR List.C g;rcases b with ⟨W,α,u,β,γ,δ,ε,ζ,η,θ,v⟩;change u=_ at em;(let ι:v=ay:=Io);subst em g ι;let κ:=X _ _ V;show (O,β,W,γ,α,δ,ε,ζ,η,θ,B,k,l,n,a,t,_,κ, .of_isNs%PySem.W.isNs_of_in X s,PySem.W.nsMap_none_of_in X s e,PySem.W.tail_of_in X c)
def alB{b c M z O:String}{β:cv}(γ:M_=I)(j:Gl (h6 (bp l p) l p r D A π L φ f η μ zX v g τ) zD)(i:D zD=J%Ia u)(q:rj r u Φ zN=ag) (W:ExcBaseFacts z zN O z3) (δ:Φ.ei%IU z=ag) (FB:ExcBaseFacts b c M Φ) (hd:(_cg zD)=ay:=by decide): PS (h6 (bp l p) l p r D A π L φ f η μ zX v g τ) (.Raise (J%J0 (JU zD κ) [] [] zj) I β) (WG H%τ (Ia u) I H):=by intro ρ s σ H N B h;let ε:=acD (D:=D) (L:=zD) Lq i q;let (tl,d,m,n,k,ζ,o,sub,t,θ,ι,G,Q,w,x,E,ν,ξ,R,ο,a):=ε.obj;show wpAny_Raise_call_subU (C:=u) (nm:=m) (q:=n) (N:=d) (bs:=k) (bm:=tl) (hdct:=ζ) (sn:=o) (sub:=sub) (ab:=t) (col:=θ) (dd:=ι) (k0:=G) (k1:=Q) (k2:=w) (k3:=x) (k5:=E) W δ FB (mN:=ν) (a.hasType FB.hasBase) γ y ο%rL B j i QC hd;show evalArgs_empty (y,cj _,ξ,R,a,λC e F=>alA B F h)
abbrev Cx.ou(X:Cx)(Z:MF)(x:Ib Jz):Cx:={X with xe:=Z,pn:=x}
abbrev Cx.w?(X:Cx)(e:ah):Cx:={X with A:=X.A.mark (J e),calm:=ay,xe:=SA}
theorem Inv.alC(B:Ip j ν E g v)(Z:MF):Ip (Tn Z (RK++ν)) [] E g v:=((US,N5,UO,_An,Pj,UN,S_,S',ML,RS,_BG,_BH,RJ,QR,S7,UK,_Am,UJ),N6,M6,RM,Pm,MJ,NH,M5,λp d=>NI p _ES,Jl,Pl)
def Inv.l7{b:Ib Jz}(B:Ip (Tn υ (RK++ν)) b E g v):Ip j ν E g v:=((US,N5,UO,_An,Pj,UN,S_,S',ML,RS,_BG,_BH,RJ,QR,S7,UK,_Am,UJ),N6,M6,RM,Pm,MJ,NH,M5,λp d=>NI p%sX _ d,Jl,Pl)
def Inv.acE(B:Ip j ν E g v)(e:ah):Ip (j.w? e) ν E g v:=((US,N5,UO,_An,Pj,UN,S_,S',ZJ z,RS,_BG,_BH,RJ,QR,S7,UK,_Am,UJ),N6,M6,RM,Pm,MJ,NH,M5,NI,Jl,Pl)
def Inv.r0(B:Ip (j.w? η) ν E g v)(hd:NJ=ag->j.A.b7=I):Ip j ν E g v:=((US,N5,UO,_An,Pj,UN,S_,S',hd,RS,_BG,_BH,RJ,QR,S7,UK,_Am,UJ),N6,M6,RM,Pm,MJ,NH,M5,NI,Jl,Pl)
def SP.l7{Z:MF}{G:Ends}{E:Flow}{M:az}(h:SP (Tn Z (RK++ν)) [] G E M):SP j ν G E M:=by cases E with|next=>let (z,d,B,q):=h;show (z,d,B.l7,q)|brk=>let (z,d,B,q):=h;show (z,d,B.l7,q)|cont=>let (z,d,B,q):=h;show (z,d,B.l7,q)|ret O=>let (v,z,d,B,r,q):=h;show (v,z,d,B.l7,r,q)
def SP.r0{e:ah}{G:Ends}{E:Flow}{M:az}(hd:NJ=ag->j.A.b7=I)(h:SP (j.w? e) ν G E M):SP j ν G E M:=by cases E with|next=>let (z,d,B,q):=h;show (z,d,B.r0 hd,q)|brk=>let (z,d,B,q):=h;show (z,d,B.r0 hd,q)|cont=>let (z,d,B,q):=h;show (z,d,B.r0 hd,q)|ret O=>let (v,z,d,B,r,q):=h;show (v,z,d,B.r0 hd,r,q)
def Cm(f:aa)(C:XK->TS)(u:TS):TS:=λG E g=>C (λj _ d=>j= Ia f/\∀z,z.a=E.a->u G z d) G E g
theorem acF{ζ η:Ib aS}{T:cv}{C:XK->TS} (β:Pk=IE::j.gt) (hf:j.H.g5=J M4) (x:Gl j L) (i:J9 L=J%Ia f) (q:rj IO f Φ zN=ag) (φ:Φ.ei%IU _BI=ag) (χ:∀(Z:MF) (o:Ib Jz) (μ:XK),GG (a7 IS IT) Jt IE Z->iw (bp IS IT) (Tn Z o) μ->ir (Tn Z o) ζ%C μ) (N:∀e,ir (j.w? e) (zA::η) zK) (n:MY=ay:=by decide): PS j (.Try ζ [.ExceptHandler (J%JU L κ) I (zA::η) zj] [] [] T) (Cm f C zK):=by intro ν v E g G B ψ;show wpAny_Try_except%iK (χ _ (RK++ν) _ PassesOwn.looking ?_ [] v E g G (B.alC _) ψ) (WH h D) λe w D=>D;{rintro zc a M w e α V ⟨u,zd,d,r,c,rfl,F,rfl,ω⟩;(let Γ:AD r (IE::j.gt) u (Ia f) c α.j:=by have:=F.w!;cbv);(let Δ:j.A.ds=J (IE::j.gt):=by rw [←β];show B.ok.ds);show wpAny_looks_onW Δ hf Γ%Wd ze Θ s;show wpAny_landsW Θ%Wd W γ ξ;(let ο:∀O,AD r (IE::j.gt) u (Ia f) c O->α.j.UpToSlots O->Ip j ν a d _GC:=λO δ ε=>by (let π:AD r Pk u (Ia f) c O:=by rw [β];show δ);let ρ:=F.un π ε;show (V.abo (M:=_GC) (zl:= []) F.os ρ (F.bK.dm π.1) F.em λb z=>a' z Ii).l7);let S:=(ο W γ%s.q ξ).acE%Ia u;let (zf,Ξ,H):=γ.there;let Ψ:=acD (D:=j.mg) (L:=L) S.ef i q;let (tl,l,X,A,k,zg,zh,sub,t,zi,θ,zk,Q,zl,m,ι,zm,Ω,zn,zo,za):=Ψ.obj;show wpAny_handleBy_cons (codeAny_handlers_test%rL S x i ?_ n) KY;show wpAny_excMatches_sub_self Ω Ξ H (za.hasType φ)%codeAny_handlers_suite ?_;show lands_againW γ%Wd O δ ε;let P:=(ο O δ%(s.q ξ).q ε).acE%Ia u;let zb:Kj=E.a:=V.len.q B.len.J;show iK (N (Ia u) ν _ a d G P%ω a zb) (λh p R=>R.r0 ML)%YO ik z};{cases h with|next=>show Ao ?_;show D.l7|brk=>show D.l7|cont=>show D.l7|ret ρ=>show D.l7}
def aW.dZ(F:aW r zD L zA f Q)(S:a0 π z9%aR zA)(len:∀C H e Z,zt C H e Z->L'=z9.a) (o:∀(c:ah) (T:cC) (k:Ib es) (s:az) (H:Hp) (C:Ib V) (e:VK) (Z:XK),dy q%T.gb%gJ L (aR zA) JR f c->zt C H e Z->∃t,ir (h6 (bp l p) l p r D A π L (aR zA) f c T k s H Z) (l6 zA) t/\t {nx:=(Wv d (e IK d)),rt:=e} (Qf π C) H):aJ l p r D A (bp l p) (q+1) f Q z9 zt:=by let (a,v,kV,b,w,i,c,g,m,rfl,n,j):=F.ex;show abS n j S KO λT k s H C e Z u h=>o c T k s H C e Z u h
structure g?(P:aP)(w:World)(K:aE)(a:aa)(j:Ib KJ):Ir where
 len:Wo Lz
 ns:(a==ij)=ay
 of:∀h:aO,K.In h->∃C,KV j C/\h.hl (e2 P w) a C
def alD{k:L2.be}(B:Ip j ν E g v)(u:g? IS IT IO f zB)(a:cS zB k=J ζ)(m:IX (kV k) η)(h:∀o M,Ip j ν E g M->IX ζ o->zC o M): aG (a7 IS IT) μ (mG (Ia f) η) zC υ v:=by let (C,N,d):=u.of _ Lq;let (o,S,b):=_ay (q' C k) (by rw [←a];show Qk k);show _E? (m9 m) Tl S%h o _ (Ko _) b
def alE{k:L2.be}(B:Ip j ν E g v)(u:g? IS IT IO f zB)(m:IX (kV k) η)(h:∀M,Ip j ν E g M->zC (MK (cS zB k).as) M): aG (a7 IS IT) μ (gG .In η%Ia f) zC υ v:=by let (C,N,d):=u.of _ Lq;show wpAny_in_of (m9 m) u.ns Tl ?_;rw [←(Qk k).p9];show h _%Ko _
def alF{k:L2.be}(B:Ip j ν E g v)(u:g? IS IT IO f zB)(m:IX (kV k) η)(h:∀M,Ip j ν E g M->zC (MK (!(cS zB k).as)) M): aG (a7 IS IT) μ (gG S! η%Ia f) zC υ v:=by let (C,N,d):=u.of _ Lq;show _Fa (m9 m) u.ns Tl ?_;rw [←(Qk k).p9];show h _%Ko _
def alG{k:L2.be}(B:Ip j ν E g v)(u:g? IS IT IO f zB)(m:IX (kV k) zw)(i:IX ζ η)(h:∀o M,Ip j ν E g M->IX ((cS zB k).az ζ) o->zC o M): aG (a7 IS IT) μ (fU (Jf "dict.get") [Ia f,zw,η]) zC υ v:=by let (C,N,d):=u.of _ Lq;show call_meetsIn axG Tm PySem.F.entry_dict_get (PySem.F.args_dict_get_3 _ _ _) (meets_dict_get_default (e2 IS IT) f (m9 m) u.ns η) (_,Tl,h _ _ (Ko _)%(Qk k).az i)
def acG(j:Ib KJ)(W:TE):TE:=λc H Q=>W c H λA M=>∃k v,A=kV k/\cS j k=J v/\Q v M
def alH(j:Ib KJ)(W:TE):TE:=λc H Q=>W c H λA M=>∃k,A=kV k/\Q (IJ (cS j k).as) M
def alI(j:Ib KJ)(W:TE):TE:=λc H Q=>W c H λA M=>∃k,A=kV k/\Q (IJ (!(cS j k).as)) M
def alJ(j:Ib KJ)(W a:TE):TE:=λc H Q=>W c H λA M=>a c M λz n=>∃k,A=kV k/\Q ((cS j k).az z) n
def p_(u:g? IS IT IO f zB)(S:PE j ξ%tC%Ia f)(l:PE j O R)(t:Cc O):PE j (Qb ξ O κ)%acG zB R:=by intro F s c H Q B h;show acg axv.B t%bq (S F s c H (λx M=>x= Ia f/\M=H) B (y,y))%WH a (x,M,V,Z,G,r);subst G r;obtain rfl:a=b! f:=Z;show bq (l F w c M _ V h)%XW α (A,n,k,m,β,v,b,g,z);subst b;let (C,N,d):=u.of _ k.ef;show (Tm,alD k u g m λγ L q D=>(v,n,q,D,z))
def Cn(u:g? IS IT IO f zB)(l:PE j ξ R)(S:PE j O%tC%Ia f):PC j .In ξ O%alH zB R:=_bL (bq (l F s c H _ B h) λg w (A,M,V,m,k,a,z)=>bq (S F w c M (λx n=>x= Ia f/\n=M) V (y,y))%XW b (x,n,d,Z,G,r)) b (b! f)%alE d u m λL q=>(IJ (cS zB k).as,n,q,y,z)
def alK(u:g? IS IT IO f zB)(l:PE j ξ R)(S:PE j O%tC%Ia f):PC j S! ξ O%alI zB R:=_bL (bq (l F s c H _ B h) λg w (A,M,V,m,k,a,z)=>bq (S F w c M (λx n=>x= Ia f/\n=M) V (y,y))%XW b (x,n,d,Z,G,r)) b (b! f)%alF d u m λL q=>(IJ (!(cS zB k).as),n,q,y,z)
def acH(u:g? IS IT IO f zB)(S:PE j O%tC%Ia f)(D:PE j ξ R)(hf:PE j zU Ξ)(m:M2 j O "get" κ ξ zU zj):PE j (J0 (LD O "get" κ) [ξ,zU] [] zj)%alJ zB R Ξ:=by intro F s c H θ B h;show agL m.au m.e? m.f0 Hh axG PySem.F.type_dict_get%bq (S F s c H (λx M=>x= Ia f/\M=H) B (y,y))%WH a (x,M,V,Z,G,r);subst G r;obtain rfl:a=b! f:=Z;let (C,N,d):=u.of _ V.ef;show (Tm,(Wb ι q),?_);{cases q;let (g,_,_,t,b,_):=d;show (g,t,b.2.1)};rw [m.trees];show GX y%agy%pd%bq (D F w c M _ V h) λe p (A,n,k,v,α)=>pd%bq (hf F p c n _ k α) λμ L (z,β,γ,δ,ν,ε,ζ)=>q3 ?_;subst ε;show alG γ u v δ λi l Q η=>(_,β,Q,η,ζ)
def acI(X:Cx)(E:aa)(C:Ib V)(H:Hp)(Q:VK):Ir:=∀(F:Ib Jz) (s:az) (c:St) (G:Ib ah),Ip X F c H s->bC C G->aG (a7 Km Kn) KM (fU (Ia E) G) (EP X F c Q) K5 s
def xa(F:aJ IS IT IO J9 L9 zG q f Q π zt)(L:dy q Jt)(W:MN IO Q π Φ)(hd:bC α Φ)(N:iw zG j τ) (h:zt (z1++α) g ε τ):acI j f z1 g ε:=λd s c G a r=>wM F L W hd N a r h
def alL(K:aE)(X:Cx)(l:TE)(t:TA):TE:=λc H Q=>l c H λx M=>∃E,x= Ia E/\kz K%Ia E=ag/\t c M (λC n=>acI X E C n Q)
def Co(hf:PE j ξ R)(N:PA j JQ zo) (m:Je (J0 ξ JQ [] κ) IE=(do mD κ (←Je ξ IE) [] (fv κ%cK JQ IE) (pa κ%pb [] IE)):=by rfl) (D:cK JQ IE=OD::cK Ω IE:=by rfl) (S:(fv κ%cK Ω IE).any (·.1)=ay:=by rfl): PE j (J0 ξ JQ [] κ) (alL IO j R zo):=by intro F s c H Q B h;rw [m];show aw%bq (hf F s c H _ B h)%WH a (x,M,V,Z,E,G,b,z);subst G;obtain rfl:a=b! E:=Z;show _bp B.ok.mod.rJ b (bq (N κ F w c M _ V z) λd p (C,n,k,r,f)=>Wt k.ef) D S;show f F p c d k r
def alM(K:aE):Ib V->J3:=λL H Q=>∃x a t b,L= [x,a]/\jI K H x t/\(match a with| .ty n=>lN K t%IU n=J b| .ref f=>lN K t%Ia f=J b|_=>False)/\Q (IJ b) H
def Cp:jG j (Jf RQ)%alM IO:=by rintro F s c H L G Q B r ⟨x,d,t,b,rfl,W,k,q⟩;let (O,e,rfl,Z,a):=r.two;cases d with|ty n=>obtain rfl:e=jq n:=a;show abK B Z W k (λtk=>(IJ b,H,Ko _,y,q))|ref f=>obtain rfl:e=b! f:=a;show abK B Z W k (λtk=>(IJ b,H,Ko _,y,q))|_=>show k.al
def FnAt(P:aP)(w:World)(K:aE)(S:ai->Im ah)(base:aO)(A:fb)(k:Nat)(x:ai)(u:Ib ai)(z:Sp):Ir:=∃E B,S x=J%Ia E/\kz K%Ia E=ag/\MN K B u []/\aJ P w K S Jp A k E B u z
def eu(P:aP)(w:World)(K:aE)(S:ai->Im ah)(base:aO)(A:fb)(k:Nat)(f:aa)(m:ai)(u:Ib ai)(z:Sp):Ir:=∃E B,tX K f m E/\MN K B u []/\aJ P w K S Jp A k E B u z
def gx(P:aP)(w:World)(K:aE)(S:ai->Im ah)(base:aO)(A:fb)(k:Nat)(x:ai)(f:aa)(u:Ib ai)(z:Sp):Ir:=∃E B,S x=J%Ia f/\Mk K f E/\MN K B u []/\aJ P w K S Jp A k E B u z
def aM(F:ID IS IT IO J9 L9 zG q L π zt)(e:dy q Jt)(f:Gl j L)(N:iw zG j τ)(a:PA j JQ zo)(n:MY=ay:=by decide) (D:cK JQ IE=OD::cK Ω IE:=by rfl) (S:(fv κ%cK Ω IE).any (·.1)=ay:=by rfl):PE j (J0 (JU L zj) JQ [] κ)%fc zt [] τ zo:=by let (E,B,b,c,V,d):=F;show aj2 d e f b c V IR N a n D S
def b5{W:gF Nh}(D:PE j ξ R)(e:d5 IO f)(F:eu IS IT IO J9 L9 zG q f L π zt)(g:dy q Jt)(N:iw zG j τ)(a:PA j JQ zo) (i:cK JQ IE=OD::cK Ω IE:=by rfl) (S:(fv κ%cK Ω IE).any (·.1)=ay:=by rfl) (v:Je (J0 (LD ξ L zj) JQ [] κ) IE=(do let d←Je ξ IE;q0 _Bw;let (E,b,)←lK [d] (tb d L W);mD κ E b (fv κ%cK JQ IE) (pa κ%pb [] IE)):=by rfl): PE j (J0 (LD ξ L zj) JQ [] κ) (fe f L zt [] τ R zo):=by let (E,B,c,V,h):=F;show aj3 D e c h g V IR N a i S v
def jL{W:gF Nh}(D:PE j O R)(e:d5 IO f)(F:eu IS IT IO J9 L9 zG q f L π zt)(g:dy q Jt)(N:iw zG j τ) (v:Je (J0 (LD O L zj) [] [] κ) IE=(do let d←Je O IE;q0 _Bw;let (E,a,)←lK [d] (tb d L W);mD κ E a (fv κ%cK [] IE) (pa κ%pb [] IE)):=by rfl): PE j (J0 (LD O L zj) [] [] κ) (fe f L zt [] τ R bY):=by let (E,B,b,V,c):=F;show aj4 D e b c g V IR N v
def eC(F:gx IS IT IO J9 L9 zG q L f π zt)(e:dy (q+1) Jt)(g:Gl j L)(N:iw zG j τ)(a:PA j JQ zo)(n:MY=ay:=by decide) (D:cK JQ IE=OD::cK Ω IE:=by rfl) (S:(fv κ%cK Ω IE).any (·.1)=ay:=by rfl):PE j (J0 (JU L zj) JQ [] κ)%l4 f zt [] τ zo:=by let (E,B,b,c,V,d):=F;show aj5 c d e g b V IR N a n D S
def alN(F:gx IS IT IO J9 L9 zG q L f π zt)(c:dy (q+1) Jt)(d:Gl j L)(N:iw zG j τ)(n:MY=ay:=by decide):PE j (J0 (JU L κ) [] [] zj)%l4 f zt [] τ bY:=by let (E,B,D,a,V,b):=F;show aj6 a b c d D V IR N n
def FnAt.mono{P:aP}{w:World}{K:aE}{S:ai->Im ah}{base:aO}{A:fb}{j k:Nat}{x:ai}{u:Ib ai}{z:Sp}(F:ID P w K S Jp A j x u z)(h:j<=k):ID P w K S Jp A k x u z:=let (E,B,D,R,V,T):=F;(E,B,D,R,V,T.u h)
def cQ(S:ai->Im ah)(x:ai)(n:Int):Ir:=∃t,S x=J%Id n t
def cg(h:cQ J9 L γ)(a:Gl j L)(hd:MY=ay:=by decide):PE j (JU L κ)%tC%Id γ:=by let (t,h):=h;show mZ a h (t,y) hd
def ue(S:ai->Im ah)(x A:ai):Ir:=∃t,S x=J%Iv A t
def Cq(h:ue J9 L zD)(a:Gl j L)(hd:MY=ay:=by decide):PE j (JU L κ)%tC%Iv zD:=by let (t,h):=h;show mZ a h (t,y) hd
def xb(w:World)(e:fV)(g:KJ):Ir:=n8 Lx e.key=ag/\e.hash=Bx w Lx/\IX g.2 e.val
theorem acJ{P:aP}{w:World}:∀{g:Ib fV} {j:Ib KJ},cN (xb w) g j->∃C,KV j C/\Pairs (e2 P w) g C/\Ou (·.1)=j.o (·.1)/\∀e∈g,∃k,n8 k e.key=ag/\e.hash=Bx w k|_,_, .nil=>([], IR, IR,y,λe h=>On)|_,_, .cons (a:=e) (b:=a) r t=>by let (C,D,R,b,T):=acJ (P:=P) t;show ((a.1,e.val,)::C, I1 (y,r.2.2) D, I1 NY y R,by rw [dJ,dJ,b],Wb x N);rcases b0.R N with z|N;{subst z;show (a.1,NY,r.2.1)};{show T x N}
def ov(b:r.B f=J%_ao No%L7 zx q)(O:(f==ij)=ay) (a:cN (xb p) zx.by zB) (F:(zB.o (·.1)).am) (len:_C!):g? l p r f zB:=by show (KO,O,Wb h X);let (C,D,R,c,T):=acJ (P:=l) a;show (C,D,_,zx,q,X _ _ b,(y,y,y),y,Yn e,R,by rw [c];show F);show T e%axe.mpr d
def uf(h:IX ζ η):xb p (hashStr p L, Iv L zV,η) (Iy L,ζ,):=(abl L zV,y,h)
def Cr(h:IX ζ η):xb p (hashInt γ, Id γ zV,η) (Ik γ,ζ,):=(abk γ zV,y,h)
end L2
namespace TW
open PySem PySem.Spec PyProof.Rows L2
def top(i:Nat):aS:=PySem.Challenge.pw_treeworkers_s01_answers.main.body.az i%.Pass (0,0,0,0)
abbrev Cs:aS:=IF 2
abbrev Ct:aS:=IF 33
abbrev Cu:aS:=IF 34
abbrev Cv:aS:=IF 35
abbrev Cw:aS:=IF 36
abbrev Cy:aS:=IF 37
abbrev Cz:aS:=IF 38
abbrev CA:aS:=IF 39
abbrev CB:aS:=IF 40
abbrev CC:aS:=IF 41
abbrev xc:aS:=IF 42
abbrev CD:aS:=IF 43
def hD(f:aa):Sp:=λC H Q Z=>∃b:Bool,C= [IJ b]/\(b=ag->Q IK H)/\(b=ay->Z (Ia f) I H)
def iA(p:Uw):Sp:=λC H Q _=>∃b:Nat,C= [Id b]/\Q (IJ%p b) H
theorem alO:a0 Ke Ke%aR Ct:=(y,y,y,Ie,y,Ie,Ie)
theorem alP:a0 Ke Ke%aR Cu:=(y,y,y,Ie,y,Ie,Ie)
theorem alQ:a0 Ke Ke%aR Cv:=(y,y,y,Ie,y,Ie,Ie)
theorem alR:a0 Ke Ke%aR Cw:=(y,y,y,Ie,y,Ie,Ie)
theorem alS:a0 Ke Ke%aR Cy:=(y,y,y,Ie,y,Ie,Ie)
theorem CF(e:aT (Wi Z<=K2)=ag):aT (K2<=Wi zm)=(aT (Z<=q) && aT (q<=zm)):=Io
theorem CG(e:¬ aT (Wi Z<=K2)=ag):ay=(aT (Z<=q) && aT (q<=zm)):=IZ
def alT(F:aW r Q0 Q0 Ct f Q):aJ l p r D A aB 1 f Q Ke%iA dQ:=by show Lg alO (XJ (d,rfl,_)) λc T b s H C a Z L h=>?_;let (d,rfl,q):=h;show (_,ax%aI%tU gQ gQ aF (pv 0) aF,?_);show (_,y,_,_,y,y,_,y,cF (λe=>(_,_,y,y,?_)) QD);{show Ws (dR (λj=>a (IJ j) H)%ZS CF 48 57) q};{show Ws (dR (λj=>a (IJ j) H)%ZS CG 48 57) q}
def alU(F:aW r RZ RZ Cu f Q):aJ l p r D A aB 1 f Q Ke%iA kF:=by show Lg alP (XJ (d,rfl,_)) λc T b s H C a Z L h=>?_;let (d,rfl,q):=h;show (_,ax%aI%tU gQ gQ aF (pv 0) aF,?_);show (_,y,_,_,y,y,_,y,cF (λe=>(_,_,y,y,?_)) QD);{show Ws (dR (λj=>a (IJ j) H)%ZS CF 65 90) q};{show Ws (dR (λj=>a (IJ j) H)%ZS CG 65 90) q}
def alV(F:aW r UY UY Cv f Q):aJ l p r D A aB 1 f Q Ke%iA ps:=by show Lg alQ (XJ (d,rfl,_)) λc T b s H C a Z L h=>?_;let (d,rfl,q):=h;show (_,ax%aI%tU gQ gQ aF (pv 0) aF,?_);show (_,y,_,_,y,y,_,y,cF (λe=>(_,_,y,y,?_)) QD);{show Ws (dR (λj=>a (IJ j) H)%ZS CF 97 122) q};{show Ws (dR (λj=>a (IJ j) H)%ZS CG 97 122) q}
theorem alW(F:aW r Tp Tp Cw f Q)(a:ID l p r D A aB 1 RZ Ke%iA kF)(N:ID l p r D A aB 1 UY Ke%iA ps): aJ l p r D A aB 2 f Q Ke (iA j0):=by show Lg alR (WV (d,rfl,_)) λc T g s H C b Z L h=>?_;let (d,rfl,q):=h;show (_,ax%aI%BG (aM a L y aK%ae (pv 0) aj)%tN%aM N L y aK%ae (pv 0) aj,?_);unfold j0 at q;show (_,y,d,y,_,y,cF QD λe=>(_,y,d,y,?_));{cbv};{cbv}
theorem alX(F:aW r UZ UZ Cy f Q)(M:ID l p r D A aB 2 Tp Ke%iA j0)(a:ID l p r D A aB 1 Q0 Ke%iA dQ): aJ l p r D A aB 3 f Q Ke (iA ei):=by show Lg alS (WV (d,rfl,_)) λc T g s H C b Z L h=>?_;let (d,rfl,q):=h;show (_,ax%aI%BG (aM M L y aK%ae (pv 0) aj)%tN%aM a (Jh Il) y aK%ae (pv 0) aj,?_);unfold ei at q;show (_,y,d,y,_,y,cF QD λe=>(_,y,d,y,?_));{cbv};{cbv}
def sg(c:Nat):ai:=⟨#[c]⟩
def acK:Sp:=λC H Q _=>∃c:Nat,C= [Id c]/\ei c=ag/\Q (Iv%sg c) H
theorem alY:a0 Ke Ke%aR Cz:=(y,y,y,Ie,y,Ie,Ie)
theorem alZ(h:dQ q=ag):jf (eG _DQ).e1 (K2 - 48)=J q:=by simp only [dQ,cI,cU] at h;(let k:∀n,n<10->Xm (eG _DQ).e1=J (48+n):=Ie);let e:=k (q - 48) Ih;rw [Xo (48+(q - 48)) q] at e;rw [_am (K2 - 48) (q - 48)];show h7 e
theorem al0(h:kF q=ag):jf (eG _DR).e1 (K2 - 65)=J q:=by simp only [kF,cI,cU] at h;(let k:∀n,n<26->Xm (eG _DR).e1=J (65+n):=Ie);let e:=k (q - 65) Ih;rw [Xo (65+(q - 65)) q] at e;rw [_am (K2 - 65) (q - 65)];show h7 e
theorem al1(h:ps q=ag):jf (eG _DS).e1 (K2 - 97)=J q:=by simp only [ps,cI,cU] at h;(let k:∀n,n<26->Xm (eG _DS).e1=J (97+n):=Ie);let e:=k (q - 97) Ih;rw [Xo (97+(q - 97)) q] at e;rw [_am (K2 - 97) (q - 97)];show h7 e
theorem al2(F:aW r U0 U0 Cz f Q)(g:ID l p r D A aB 1 Q0 Ke%iA dQ)(i:ID l p r D A aB 1 RZ Ke%iA kF) (b:ue D "DIGITS" _DQ) (k:ue D "GREAT_LETTERS" _DR) (O:ue D "SMALL_LETTERS" _DS):aJ l p r D A aB 2 f Q Ke acK:=by show Lg alY (Xh m j (a,rfl,_)) λc T o s H C m j L h=>?_;let (a,rfl,d,q):=h;show (_,ao (bA (b9%aM g L y aK%ae (pv 0) aj) (ax%aI%a8 BZ (Cq b y) (d? kS (pv 0) aF) IB) bM)%ao (bA (b9%aM i L y aK%ae (pv 0) aj) (ax%aI%a8 BZ (Cq k y) (d? kS (pv 0) aF) IB) bM)%ax%aI%a8 BZ (Cq O y) (d? kS (pv 0) aF) IB,?_);show (_,y,a,y,_,y,cF QD QD);{show (_,y,_,_,y,y,_,_,_,y,y,Ie,alZ e,q)};show (_,y,a,y,_,y,cF (We Z)%We Z);{show (_,y,_,_,y,y,_,_,_,y,y,Ie,al0 Z,q)};(let n:ps a=ag:=by unfold ei j0 at d;cbv);show (_,y,_,_,y,y,_,_,_,y,y,Ie,al1 n,q)
def cT(k:Ib Iu):Ib V:=L? λ(c:Nat)=>Iz%Wi c
def xf(p:Uw):Sp:=λC H Q _=>∃(c:aa) (k:Ib Iu) (st:Nat),C= [Ia c, Id st]/\H c=J%Ig%cT k/\st<=J4/\Q (Id%_ac st ((Oq st).bc p).a) H
theorem acL{p:Uw}(h:Wf ω=J Z):((LT q).bc p).a=Ww (p Z) (1+((LT (q+1)).bc p).a) 0:=by let (t,W):=I! h;rw [Hi t,W,u!];lk
theorem CH:a0 [J',N',MP] [J',N']%aR CA:=(y,y,y,Ie,y,Ie,Ie)
theorem al3(F:aW r U1 U1 CA f Q)(u:ID l p r D A aB 1 Q0 Ke%iA dQ)(V:D Kp=I): aJ l p r D A aB 2 f Q [J',N'] (xf dQ):=by show Lg CH (Wr B (g,k,st,rfl,_)) λx T G s H C B Z L h=>?_;let (g,k,st,rfl,N,i,q):=h;show (_,ao (Wq CH.nd (aH y)%pv 1)%ao (iU e0 (M'%ob (d4 kU (pv 2) (cz dr I5 V c!%ae (pv 0) aj)%c' _)%oa%b9%aM u L y aK%ae (a8 bf (pv 0) (pv 2) IB) aj)%ax%YS m4 2 CH.nd y (aH y) aF)%ax%aI%pv 2,?_);show (_,y,λm c d=>∃e:Nat,c= [J%Ia g,J%Id st,J%Id e]/\d=H/\e<=J4/\m=J4 - e/\st+((Oq st).bc dQ).a=e+((Oq e).bc dQ).a,(_,st,y,y,i,y,y),?_);rintro m c d ⟨e,rfl,rfl,O,rfl,n⟩;show (_,y,_,y,g,_,y, Ik%Iw N,_,_,y,y,_,y,cF Ny Ny);{(let j:e<J4:=YI cw j);obtain ⟨o,W⟩:∃o,k[e]?=J o:=(_,d1 j);let w:=acL (p:=dQ) W;show (_,y,_,y,g,_,_,_,y,y,Iw N,h7 (q:=e) (v:= (Id o)) _DT,o,y,_,y,cF (We a)%We a);{rw [aA a] at w;show (λz M=>∃b:Nat,b=e+1/\z= [J%Ia g,J%Id st,J%Id b]/\M=d,Wd z M (b,E,R,v),_,y,_,_,y,y,e+1,y,y,y);subst E;show (_,(Ih:J4 - (e+1)<J4 - e),e+1,R,v,Ih,y,Ih)};{rw [au a] at w;show (_,y,?_);cbv}};{(let j:J4<=e:=YI dY%Mx j);(let t:e=J4:=Ih);show (_,y,?_);cbv}
theorem CI:a0 [J',N',MP] [J',N']%aR CB:=(y,y,y,Ie,y,Ie,Ie)
theorem al4(F:aW r U2 U2 CB f Q)(u:ID l p r D A aB 3 UZ Ke%iA ei)(V:D Kp=I): aJ l p r D A aB 4 f Q [J',N'] (xf ei):=by show Lg CI (Wr B (g,k,st,rfl,_)) λx T G s H C B Z L h=>?_;let (g,k,st,rfl,N,i,q):=h;show (_,ao (Wq CI.nd (aH y)%pv 1)%ao (iU e0 (M'%ob (d4 kU (pv 2) (cz dr I5 V c!%ae (pv 0) aj)%c' _)%oa%b9%aM u L y aK%ae (a8 bf (pv 0) (pv 2) IB) aj)%ax%YS m4 2 CI.nd y (aH y) aF)%ax%aI%pv 2,?_);show (_,y,λm c d=>∃e:Nat,c= [J%Ia g,J%Id st,J%Id e]/\d=H/\e<=J4/\m=J4 - e/\st+((Oq st).bc ei).a=e+((Oq e).bc ei).a,(_,st,y,y,i,y,y),?_);rintro m c d ⟨e,rfl,rfl,O,rfl,n⟩;show (_,y,_,y,g,_,y, Ik%Iw N,_,_,y,y,_,y,cF Ny Ny);{(let j:e<J4:=YI cw j);obtain ⟨o,W⟩:∃o,k[e]?=J o:=(_,d1 j);let w:=acL (p:=ei) W;show (_,y,_,y,g,_,_,_,y,y,Iw N,h7 (q:=e) (v:= (Id o)) _DT,o,y,_,y,cF (We a)%We a);{rw [aA a] at w;show (λz M=>∃b:Nat,b=e+1/\z= [J%Ia g,J%Id st,J%Id b]/\M=d,Wd z M (b,E,R,v),_,y,_,_,y,y,e+1,y,y,y);subst E;show (_,(Ih:J4 - (e+1)<J4 - e),e+1,R,v,Ih,y,Ih)};{rw [au a] at w;show (_,y,?_);cbv}};{(let j:J4<=e:=YI dY%Mx j);(let t:e=J4:=Ih);show (_,y,?_);cbv}
def acM(m:aa):Sp:=λC H Q Z=>∃(c:aa) (l:Ib Iu),C= [Ia c]/\H c=J%Ig%cT l/\(∀d∈l,dQ d=ag)/\(LP<=18->∀p,H p=I->Q (Ia p)%ak H p%IC [Iv IL, Id%YV l])/\(¬ LP<=18->Z (Ia m) I H)
theorem xg:a0 [_AA,Kq,To] [_AA]%aR CC:=(y,y,y,Ie,y,Ie,Ie)
def al5(h:Wf ω=J Z):hs%OT (q+1)=10*hs (OT q)+(Z - 48):=by let (t,W):=I! h;unfold hs;rw [agN t,W,AF];rfl
theorem al6(F:aW r U3 U3 CC f Q)(R:ID l p r D A (bp l p) 1 LU Ml%hD u)(x:D Kp=I)(n:cQ D "MOST_DIGITS" 18): aJ l p r D A (bp l p) 2 f Q [_AA] (acM u):=by show N! xg (Wr w (g,a,rfl,_)) λG T M s H C w Z L h=>?_;let (g,a,rfl,N,hd,q,O):=h;show (_,ao (bI%aM R L y bw%ae (gT gQ (cz dr I5 x c!%ae (pv 0) aj) (cg n y)%c' _) aj)%ao (WJ xg.nd (aH y) aF)%ao (eB hC y (et%pv 0) (Wu 2 xg.nd%aH y)%ax%WJ xg.nd (aH y)%d? kS (d? jd (d? abE (pv 1) aF)%pv 2) aF)%ax%aI%hA%ae cn%ae (pv 1) aj,?_);show (_,y,g,_,y, Ik%Iw N,_,_,y,y,_,y,Ny,λj=>O%YI dY j);(let B:Kj<=18:=YI cw j);show (_,y,g,y,(_,Iw N),hx (r:=r) (f:=g) (α:=cT a) (λi c d=>∃v:Im V,c= [J%Ia g,J%Id%YV%a.Y i,v]/\d=H) (I,y,y) (λi c d _ (_,_,e)=>by subst e;show Iw N) ?_ ?_);{rintro i S c d k ⟨v,rfl,rfl⟩;unfold cT at k;rw [bL,en] at k;let (o,W,rfl):=k;let z:=hd o%cm W;let t:hs%a.Y i<10 ^ (0+(a.Y i).a):=A9 (a.Y i) 0 0 (λj E=>hd j%List.mem_of_mem_take E) Il;let b:(Wa 10) ^ (0+(a.Y i).a)<=10 ^ 18:=awW Il _Fj;(let X:(Wa 10) ^ 18=1000000000000000000:=Il);(let m:(Wi 2) ^ 64=18446744073709551616:=Il);show (_,y,_,_,y,y, Ik%Wt ?_,_,y,_,_,y,y,_,_,y,y,?_);{rw [m];lia};{rw [m];lia};simp only [dQ,cI,cU] at z;show (J%Id o,?_,y);(let e:Wc%hs%a.Y (i+1)=YV (a.Y i)*10+Wi o - 48:=by rw [al5 W];lia);rw [e];rfl};{rintro c d ⟨v,rfl,rfl⟩;rw [_b! (cT a).a Kj,fz];show (_,y,Nx,λP b=>q B P b)}
theorem kg{T r:NV}(h:T g):t8 E g%W7 d f d (T f)%r f:=by change (Ww ag (T g)%r g);cbv
def a!(k:Ib Iu):ai:=⟨k.C⟩
theorem acN:∀k:Ib Iu,TL.uc []%(L? sg).o TL.tl=k| []=>y| [c]=>y|c::j::r=>by change [c]++([]++TL.uc []%((j::r).o sg).o TL.tl)=c::j::r;rw [acN (j::r)];rfl
def al7(k:Ib Iu):Hc (eG "")%L? sg=a! k:=by rw [TL.join_eq];let h:=TL.acp (eG "")%L? sg;rw [show Wl%TL.tl%eG "" from y,acN] at h;generalize Hb (eG "") (L? sg)=z at h;obtain ⟨j⟩:=z;let h:j.by=k:=h;subst h;rfl
def iB(f:Ib Iu):K1:=if j1 f then (a! f, Id 0,) else if kF%f.headD 0 then (NN, Iv%a! f,) else (Nq, Iv%a! f,)
def acO(m:aa):Sp:=λC H Q Z=>∃(c:aa) (f:Ib Iu),C= [Ia c]/\H c=J%Ig%cT f/\XC f/\(∀e∈f,ei e=ag)/\(Mw<=12->∀d p,iz H d->d p=J%IC [Iv (iB f).1,(iB f).2]->Q (Ia p) d)/\(¬ Mw<=12->Z (Ia m) I H)
theorem xh:a0 [U4,I2,To] [U4]%aR xc:=(y,y,y,Ie,y,Ie,Ie)
def h9{d:Ib Iu}(h:a! ω=a! d):ω=d:=by have:=dR (λz:ai=>z.cps.by) h;show this
theorem al8(f:Ib Iu):gs (Iv%a! f) [Iv Ox, Iv Pp, Iv Pq]=j1 f:=by (let e:∀(x:ai) (l:Ib Iu),x=a! l->iW (Iv x)%Iv%a! f=(f==l):=by intro x l e;subst e;change aT (a! l=a! f)=_;by_cases q:f=l;{subst q;simp};{have:¬ a! l=a! f:=λz=>q (h9 z).J;cbv});unfold gs j1;simp only [lP,agO,jy];rw [e Ox ml y,e Pp nv y,e Pq ny y]
def ModT(a:aE)(S:ai->Im ah)(x:ai)(L:Ib V):Ir:=∃c,S x=J%Ia c/\∀H,bS a H c L
theorem al9(F:aW r U5 U5 xc f Q)(R:ID l p r D A (bp l p) 1 LU Ml%hD u)(ι:ID l p r D A aB 2 U0 Ke acK) (κ:ID l p r D A aB 1 RZ Ke%iA kF) (μ:D Kp=I) (n:cQ D "MOST_NAME_BYTES" 12) (ν:ModT r D "WORDS" [Iv Ox, Iv Pp, Iv Pq]): aJ l p r D A (bp l p) 3 f Q [U4] (acO u):=by show N! xh (Wr E (X,w,rfl,_)) λτ T υ s H C E Z L h=>?_;let (X,w,rfl,N,ξ,ο,q,O):=h;let (ζ,π,ρ):=ν;show (_,ao (bI%aM R (Jh Il) y bw%ae (gT gQ (cz dr I5 μ c!%ae (pv 0) aj) (cg n y)%c' _) aj)%ao (WJ xh.nd (aH y)%alj cn%jJ (e:= [(To,2,)]) y xh.nd (et%pv 0) (Xf [U4,I2,To] (aR xc) To 2 (y,Ie,Ie,Ie,Ie)) (Xc 2 xh.nd%aH y) NX%Xk%aM ι L y aK%ae (pv 2) aj)%ao (bA (d4 rS (pv 1) (mZ y π%YY (Ia ζ) _) I5) (ax%aI%hA%ae (pv 1)%ae aF aj) bM)%ao (bA (b9%aM κ (Jh Il) y aK%ae (a8 bf (pv 0) aF IB) aj) (ax%aI%hA%ae cn%ae (pv 1) aj) bM)%ax%aI%hA%ae cn%ae (pv 1) aj,?_);show (_,y,X,_,y, Ik%Iw N,_,_,y,y,_,y,Ny,λj=>O%YI dY j);(let η:w.a<=12:=YI cw j);(obtain ⟨g,a,rfl⟩:∃g a,w=g::a:=by cases w with|nil=>show a' y ξ|cons m S=>cbv);show ((_,y),_,y,X,y,(_,Iw N),λG θ=>oj (r:=r) (u:=X) (α:=cT (g::a)) (λi d=>d=ak H G%Ig%(((g::a).Y i).o sg).o Ki) y (Wj i d _ M) ?_ ?_);{subst M;show Iw ?_;rw [aq%aU N θ];show N};{rintro i x d β rfl;unfold cT at β;rw [bL,en] at β;let (m,W,rfl):=β;show (y,kg ?_);show (_,y,m,y,ο m%cm W,_,ar,?_,?_);{rw [aQ,aQ,ho];show Hj (Nat.min_le_right _ _)%Hj η Ie};{let (t,σ):=I! W;rw [dE,agN t,σ,dW,dW];rfl}};{rintro d rfl;rw [_b! (cT (g::a)).a (g::a).a,fz];(let k:iz H (ak H G%Ig%((g::a).o sg).o Ki):=λm o M=>by rw [aq%aU M θ];show M);show (_,G,(g::a).o sg,y,y, Ik%Iw ar,?_,?_);{(let z:((g::a).o sg).o (·.a)=(g::a).o%Wx 1:=_Eu);rw [z];(let P:∀B:Ib Iu,(B.o%Wx 1).sum=B.a:=λB=>by induction B with|nil=>rfl|cons _ _ c=>lk);rw [P,XA (eG "").a 0,Nat.mul_zero];lia};rw [al7];(let γ:∀(δ:ai) (v:V),W2 δ=iB (g::a)->∀b,ak H G (Ig%((g::a).o sg).o Ki) b=I->E (Ia b)%ak (ak H G%Ig%((g::a).o sg).o Ki) b%IC [Iv δ,v]:=λδ v M b e=>by show q η _ b (X' m o) (by rw [ar,←M]);rw [aq%aU (k m o z) e];show k m o z);show (_,y,ζ,_,y, Iy%ρ _,y,y,_,y,?_);rw [au eT,al8];show cF (WE (_,y,Nx,λb e=>γ _ _ ?_ b e))%We α;{unfold iB;rw [aA α]};show (_,y,X,_,_,_,y,y,Iw%k _ _ N,h7 (q:=0) (v:= (Id g)) y,g,y,_,y,cF (λε=>(_,y,Nx,λb e=>γ _ _ ?_ b e)) λε=>(_,y,Nx,λb e=>γ _ _ ?_ b e));{unfold iB;cbv};{unfold iB;cbv}}
def r1:Ib KJ:= [(Ik 59, Iv ";",),(Ik 58, Iv ":",),(Ik 123, Iv "{",),(Ik 125, Iv "}",),(Ik 40, Iv "(",),(Ik 41, Iv ")",),(Ik 91, Iv "[",),(Ik 93, Iv "]",),(Ik 44, Iv ",",),(Ik 46, Iv ".",),(Ik 61, Iv "=",),(Ik 60, Iv "<",),(Ik 62, Iv ">",),(Ik 43, Iv "+",),(Ik 45, Iv "-",),(Ik 42, Iv "*",),(Ik 47, Iv "/",),(Ik 37, Iv "mod",),(Ik 38, Iv "&",),(Ik 124, Iv "|",),(Ik 33, Iv "!",),(Ik 63, Iv "?",),(Ik 35, Iv "#",)]
def eI(b:Nat):ai:=match cS r1 (Ik%Wi b) with|J (.str x)=>x|_=>""
theorem acP:∀b∈iF,cS r1%Ik%Wi b=J%Iv%eI b:=Ie
theorem al_(h:q∉iF):cS r1%Ik K2=I:=by (let B:∀g∈r1,∃j∈iF,Lx= Ik%Wi j:=Ie);unfold cS;lk
def eb(t:bo):K1:=Wz Kg 1 (IL, Id%YV Jj,)%Wz Kg 2 (eI%t.ah.headD 0, Id 0,)%iB Jj
def xi(H:Hp)(tl:aa)(all:Ib K1):Ir:=∃i:Ib aa,H tl=J%Ig%i.o IP/\cN (λa (g:ai × V)=>H a=J%IC [Iv Lx,g.2]) i IH
def ug:K1:=(MP, Id 0,)
def CJ(m:aa):Sp:=λC H Q Z=>∃(a:aa) (k:Ib Iu),C= [Ia a]/\H a=J%Ig%cT k/\V'/\(∀u,tk 0 k=J u->∀d l,iz H d->xi d l (u.o eb++ [ug])->Q (Ia l) d)/\(tk 0 k=I->∀d,iz H d->Z (Ia m) I d)
def CK(l:q<=I8)(X:Z<=I8):je α (J K2)%J%Wi Z=(R0 q).Y (Z - q):=by unfold je;rw [HT.wN,HT.wN,vI l,vI X]
theorem ji{f s:Jc}{F:O_}:∀{l:Ib f} {m:Ib s} {a:f} {b:s},cN F l m->F a b->cN F (l++ [a]) (m++ [b])|_,_,_,_, .nil,h=> I1 h IR|_,_,_,_, .cons r t,h=> I1 r (ji t h)
theorem ox:a0 [J',_DU,N',To,MP] QF%aR CD:=(y,y,y,Ie,y,Ie,Ie)
structure l8(k:Ib Iu)(H:Hp)(e l:aa)(start:Nat)(v:Ib bo)(d:Hp):Ir where
 sm:iz H d
 tx:d e=J%Ig%cT k
 le:Qf<=J4
 e?:Nm<=Qf
 eq:tk 0 k=(tk Qf%Oq Qf).o (v++·)
 ts:xi d l%v.o eb
 fr:H l=I
theorem CL{p:Uw}:∀l:Ib Iu,l.ew p=l.Q (l.bc p).a| []=>y|d::l=>by rw [agP,u!];split;{rw [cH,List.drop_succ_cons];show CL l};{rfl}
theorem CM{p:Uw}:∀l:Ib Iu,l.Y (l.bc p).a=l.bc p| []=>y|d::l=>by rw [u!];split;{rw [cH,af4,CM l]};{rfl}
def l8.none(S:l8 ω g f u q δ G)(h:tk q%LT q=I):tk 0 ω=I:=by rw [S.eq,h];rfl
theorem l8.push{m l p2:aa}{st e:Nat}{t:bo}(S:l8 ω G m l st δ σ)(N:G m=J%Ig%cT ω)(h:iz σ g)(p:g p2=J%IC [Iv (eb t).1,(eb t).2]) (C:st<e) (D:e<=Qm) (Z:tk st%LT st=(tk e%LT e).o (t::·)):∃i:Ib aa,g l=J%Ig%i.o IP/\i.a<=st/\l8 ω G m l e (δ++ [t])%ak g l%Ig (i.o IP++ [Ia p2]):=by let (i,B,q):=S.ts;let a:=b4 q;rw [aQ] at a;let r:∀{f:aa} {o:HO},G f=J o->XX l:=λz=>aU z Q1;let j:=h _ _ B;show (i,j,by rw [a];show S.e?,?_);show (λf o z=>XN (r z) h%S.sm _ _ z,XN (r N) h R1,D,?_,?_,(i++ [p2],?_,?_),Q1);{rw [cG,ph];have:=S.e?;lia};{rw [S.eq,Z];cases tk e (ω.Q e) with|none=>rfl|some u=>cbv};{rw [ar,dW];rfl};{rw [dW];let s:∀{f:aa} {L:Ib V},g f=J%IC L->XX l:=λz=>dh z j (by intro A;cases A);show ji (J8 q%X' x b) ?_;{let z:=h _ _ z;rw [aq%s z];show z};{rw [aq%s p];show p}}
theorem ec(h:W1 q):q<bJ:=Hj h Ie
theorem al'{r:Ib Iu}(hd:LT q=Z::r)(W:dQ Z=ag):∃l,l=(LT q).bc dQ/\LP≠0/\(∀j∈l,dQ j=ag)/\tk q%LT q=YK 18 LP I%(tk (q+LP)%LT (q+LP)).o%sN (1,l,q):=by (let e:(LT q).bc dQ=Z::QK dQ:=by rw [hd,u!,aA W]);show (_,y,_Dm,tE _ _,?_);(let C:lB Z=ay:=by simp only [dQ,cI,cU] at W;unfold lB;lk);(let o:j0 Z=ay:=by simp only [dQ,cI,cU] at W;unfold j0 ps kF;lk);(let O:LT (q+((LT q).bc dQ).a)=r.ew dQ:=_cj aA W);rw [O,e];(conv=>lhs;rw [hd,tD,C,o,W]);rfl
theorem ama{r:Ib Iu}(hd:LT q=Z::r)(W:j0 Z=ag):∃f,f=(LT q).bc ei/\XC f/\(∀j∈f,ei j=ag)/\tk q%LT q=YK 12 Mw I%(tk (q+Mw)%LT (q+Mw)).o%sN (_aG (j1 f) 3,f,q):=by (let d:ei Z=ag:=by unfold ei;rw [W,agG]);(let e:(LT q).bc ei=Z::QK ei:=by rw [hd,u!,aA d]);show (_,y,_Dm,tE _ _,?_);(let C:lB Z=ay:=by unfold j0 ps kF at W;simp only [oU,cI,cU] at W;unfold lB;lk);(let O:LT (q+((LT q).bc ei).a)=r.ew ei:=_cj aA d);rw [O,e];(conv=>lhs;rw [hd,tD,C,W]);rfl
theorem amb{k:Ib Iu}(hd:Oq q=Z::ω)(D:¬ dQ Z=ag)(R:¬ j0 Z=ag): tk q%Oq q=Ww (lB Z) (tk (q+1) ω)%XI (Z∈iF) (tk (q+1) ω).o (sN (2, [Z],q)) I:=by rw [hd,tD];cbv
def amc(f:Ib Iu)(st:Nat):eb (_aG (j1 f) 3,f,st)=iB f:=by unfold eb;cases j1 f<;>rfl
theorem amd(d:Nat):gs (Id d) [Id 32, Id 10]=lB d:=by unfold gs lB;simp only [lP,agO,jy];(let e:∀n:Iu,iW (Id OH)%Id%Wi d=(d==n):=by intro n;change (OH==Wi d)=_;lk);lk
theorem l8.skip(S:l8 ω g f u q δ G)(D:q<Qm)(Z:tk q%LT q=tk (q+1)%LT (q+1)):l8 ω g f u (q+1) δ G:=(S.sm,R1,D,_GD,by rw [S.eq,Z],S.ts,Q1)
theorem ame(F:aW r Tq Tq CD u Q)(R:ID l p r D A (bp l p) 1 LU Ml%hD f)(zc:ID l p r D A aB 1 Q0 Ke%iA dQ) (zd:ID l p r D A aB 2 Tp Ke%iA j0) (ze:ID l p r D A aB 2 U1 [J',N']%xf dQ) (zf:ID l p r D A aB 4 U2 [J',N']%xf ei) (zg:ID l p r D A (bp l p) 2 U3 [_AA]%acM f) (zh:ID l p r D A (bp l p) 3 U5 [U4]%acO f) (zi:D Kp=I) (Z:ModT r D "BLANKS" [Id 32, Id 10]) (zj:∃κ,D "SIGNS"=J%Ia κ/\g? l p r κ r1):aJ l p r D A (bp l p) 5 u Q QF%CJ f:=by show N! ox (λzk H P zl ν=>by let (γ,k,rfl,_):=ν;rfl) λzu T zv zw H zk P zl L ν=>?_;let (γ,k,rfl,N,χ,q,ξ):=ν;let (ω,zm,zn):=Z;let (κ,Γ,Δ):=zj;show (_,ao (WJ Tr (aH y)%bZ aj)%ao (Wq Tr (aH y) aF)%ao (iU hC (d4 kU (pv 2) (cz dr I5 zi c!%ae (pv 0) aj)%c' _)%ao (WK Tr (aH y)%a8 bf (pv 0) (pv 2) IB)%ao (Xd Tr (aH y)%d? jd (pv 2) aF)%ao (bA (b9%aM zc (Jh Il) y aK%ae (pv 3) aj) (ao (Xd Tr (aH y)%aM ze (Jh Il) y aK%ae (pv 0)%ae (pv 2) aj)%ax%bI%ea d9 fw fX fg (pv 1)%ae (aM zg (Jh Il) y bw%ae (wQ B0 (pv 0) (p3%pv 2)%p3%pv 4) aj) aj)%ax%bA (b9%aM zd (Jh Il) y aK%ae (pv 3) aj) (ao (Xd Tr (aH y)%aM zf L y aK%ae (pv 0)%ae (pv 2) aj)%ax%bI%ea d9 fw fX fg (pv 1)%ae (aM zh (Jh Il) y bw%ae (wQ B0 (pv 0) (p3%pv 2)%p3%pv 4) aj) aj)%ax%bA (d4 akv (pv 3) (mZ y zm%YY (Ia ω) _) I5) (ao (bI%aM R (Jh Il) y bw%ae (n'%Cn Δ (pv 3)%mZ y Γ%YY (Ia κ) _) aj)%ax%bI%ea d9 fw fX fg (pv 1)%ae (hA%ae (p_ Δ (mZ y Γ%YY (Ia κ) _) (pv 3) IB)%ae aF aj) aj) bM)%ax%Wq Tr (aH y)%pv 4)%ao (bI%ea d9 fw fX fg (pv 1)%ae (hA%ae cn%ae aF aj) aj)%ax%aI%pv 1,?_);show (cj _,Wb δ E);let s:∀{α:aa} {o:HO},H α=J o->α≠δ:=λe=>aU e E;show (λΘ Ξ β=>∃(st:Nat) (v:Ib bo) (Φ Ψ:Im V),Ξ= [J%Ia γ,J%Ia δ,J%Id st,Φ,Ψ]/\Θ=J4 - st/\l8 k H γ δ st v β,(_,0, [],I,I,y,y,?_),?_);{show (Zg o%aq%s e,X1%s N,cj _,bj _,?_,([],ar, IR),E);cbv};rintro Θ Ξ β ⟨st,v,Φ,Ψ,rfl,rfl,S⟩;show (_,y,_,y,γ,_,y, Ik%Iw R1,_,_,y,y,_,y,cF Ny Ny);{(let j:st<J4:=YI cw j);obtain ⟨α,W⟩:∃α,k[st]?=J α:=(_,d1 j);(let ο:Oq st=α::Oq (st+1):=by rw [Hi j,(I! W).2]);show (λΩ M=>∃(e:Nat) (n:Ib bo) (w π:Im V),st<e/\Ω= [J%Ia γ,J%Ia δ,J%Id e,w,π]/\l8 k H γ δ e n M,λΩ M (e,n,w,π,zx,zo,X)=>(J4 - e,by have:=X.le;lia,e,n,w,π,zo,y,X),?_);show (_,y,_,y,γ,_,_,_,y,y,Iw R1,h7 (q:=st) (v:= (Id α)) _DT,?_);show (_,y,_,_,y,y,?_);show (_,y,α,y,_,y,cF (We ρ)%We ρ);{show (_,y,_,y,γ,k,st,y,R1,S.le,?_);let (i,ε,μ):=S.ts;show (_,y, Ik (y,_,Iw ε),?_);let (a,η,σ,B,d):=al' ο ρ;rw [←η];(let t:st+Kj<=J4:=Zt lT dQ%Oq st);show (_,y,_,y,_,y,_,y,_,y,γ,_,y,Iw R1,Wb θ τ);(let υ:je (cT k) (J%Wi st)%J%_ac st Kj=cT a:=_bI CK IZ _Fk);rw [υ];(let ι:iz β (ak β θ%Ig%cT a):=Ys x o z%aq%aU z τ);show (θ,a,y,ar,B,Wd zp C c,We zp);{rw [au Ih] at d;(let b:iz β (ak (ak β θ%Ig%cT a) C%IC [Iv IL, Id%YV a]):=λx o z=>XN (aU (ι _ _ z) c) ι z);let (za,m,zb,O):=S.av (t:=(1,a,st)) (p2:=C) (e:=st+Kj) N b ar Ih t d;show (δ,_,_,y,y,m,ZY ec Ih,?_);show (_,y,st+Kj,_,_,_,Ih,y,O)};{rw [aA Ih] at d;show ξ (S.none d) _ (λx o z=>ι _ _%S.sm _ _ z)}};show (_,y,α,y,_,y,cF (We φ)%We φ);{show (_,y,_,y,γ,k,st,y,R1,S.le,?_);let (i,ε,μ):=S.ts;show (_,y, Ik (y,_,Iw ε),?_);let (a,η,σ,B,d):=ama ο φ;rw [←η];(let t:st+Kj<=J4:=Zt lT ei%Oq st);let zy:0<Kj:=List.length_pos_iff.mpr σ;show (_,y,_,y,_,y,_,y,_,y,γ,_,y,Iw R1,Wb θ τ);(let υ:je (cT k) (J%Wi st)%J%_ac st Kj=cT a:=_bI CK IZ _Fk);rw [υ];(let ι:iz β (ak β θ%Ig%cT a):=Ys x o z%aq%aU z τ);show (θ,a,y,ar,σ,B,Wn zq zr C zs c,We zq);{rw [au Ih] at d;let b:iz β zr:=ι.q zs;let (za,m,zb,O):=S.av (t:=(_aG (j1 a) 3,a,st)) (p2:=C) (e:=st+Kj) N b (by rw [amc];show c) Ih t d;show (δ,_,_,y,y,m,ZY ec Ih,?_);show (_,y,st+Kj,_,_,_,Ih,y,O)};{rw [aA Ih] at d;show ξ (S.none d) _ (λx o z=>ι _ _%S.sm _ _ z)}};let d:=amb ο ρ φ;show (_,y,ω,_,y, Iy%zn _,y,y,_,y,?_);rw [aA y,amd];show cF JV JV;{(let h:¬ lB α=ag:=Io);rw [au h] at d;show (_,y, Ik%Wi α,y,_,y,We ζ,We ζ);{(let ζ:α∈iF:=by show sP ME;rw [al_ z] at ζ;cases ζ);rw [aA ζ] at d;let (i,ε,μ):=S.ts;show (_,y, Ik (y,_,Iw ε),?_);show (_,y, Ik%Wi α,_,y,acP α ζ,Nx,Wb C c);(let b:iz β (ak β C%IC [Iv%eI α, Id 0]):=Ys x o z%aq%aU z c);let (za,m,zb,O):=S.av (t:=(2, [α],st)) (p2:=C) (e:=st+1) N b ar Ih j d;show (δ,_,_,y,y,m,ZY ec Ih,?_);show (_,y,st+1,_,_,_,Ih,y,O)};{(let ζ:¬ α∈iF:=by intro z;rw [acP α z] at ζ;cases ζ);rw [au ζ] at d;show ξ (S.none d) _ S.sm}};{(let h:lB α=ag:=Io);rw [aA h] at d;show (_,y,st+1,v,_,_,Ih,y,S.skip j d)}};{(let j:st=J4:=by have:=dY%Mx j;simp only [cT,aQ] at this;have:=S.le;lia);(let zt:tk 0 k=J v:=by rw [S.eq,j,AE];change J (v++ [])=_;rw [fo]);let (i,ε,μ):=S.ts;let G:=b4 μ;rw [aQ] at G;show (_,y, Ik (y,_,Iw ε),?_);show (Nx,Wb C c);(let b:iz β (ak β C%IC [Iv MP, Id 0]):=Ys x o z%aq%aU z c);show (δ,_,_,y,y,b _ _ ε,by rw [aQ,G];show ec _GD,?_);show (_,y,q v zt _ δ (X' x o) (i++ [C],?_,ji (J8 μ%X' x g) ?_));{rw [aq%s z];show b _ _%S.sm _ _ z};{rw [ar,dW];rfl};{rw [aq%dh (b _ _ z) (b _ _ ε) Io];show b _ _ z};{rw [aq%dh (za:= (IC [Iv MP, Id 0])) ar (b _ _ ε) Io,ar];rfl}}
abbrev CN:aS:=eP (IF 45) 0
abbrev CO:aS:=eP (IF 45) 1
abbrev CP:aS:=eP (IF 45) 2
abbrev CQ:aS:=eP (IF 45) 3
abbrev CS:aS:=eP (IF 45) 4
abbrev CT:aS:=eP (IF 45) 5
def hd(u:Ib bo):K1:=(u.head?.o eb).az ug
def d0(u:Ib bo):Ir:=∀t∈u,kJ t
def CU(h:d0 δ)(n:Nat):d0%Qn n:=λt v=>h t%af8 v
def kX(t:bo)(r:Ib bo):hd (t::r)=eb t:=y
inductive kY:WF bo ai where
 |num {t:bo} (h:Kg=1):kY t IL
 |great {t:bo} (h:SZ=ag):kY t NN
 |small {t:bo} (h:Mo=ag):kY t Nq
 |sign {t:bo} {b:Nat} (W:b∈iF) (h:Kg=2) (e:Jj= [b]):kY t%eI b
 |p' {t:bo} (h:Kg=3) (e:Jj=ml):kY t Ox
 |p! {t:bo} (h:Kg=3) (e:Jj=nv):kY t Pp
 |p? {t:bo} (h:Kg=3) (e:Jj=ny):kY t Pq
theorem r2(g:kJ zp):kY zp (eb zp).1:=by rcases g with ⟨h,_⟩|⟨h,_,S,b,r,e,a,_⟩|⟨h,S⟩|⟨h,b,W,e⟩;{(have:eb zp=((ZM IL,Iz%YV OU,):K1):=by unfold eb;rw [aA h]);rw [this];show N0 h};{(let p:eb zp=iB OU:=_AB);rw [p];unfold iB;rw [au (by rw [S];decide)];by_cases j:kF%zp.ah.headD 0=ag;{rw [aA j];show .great ?_;unfold iG;rw [h,j];rfl};{rw [au j];show .small ?_;unfold ed;rw [h];rw [e] at j ⊢;unfold j0 at a;cbv}};{(let p:eb zp=iB OU:=_AB);rw [p];unfold iB;rw [aA S];unfold j1 at S;simp only [oU,du] at S;rcases S with S|S|S;{have:kY zp Ox:= .p' h S;rw [S];show this};{have:kY zp Pp:= .p! h S;rw [S];show this};{have:kY zp Pq:= .p? h S;rw [S];show this}};{(let p:eb zp=((eI b,Iz 0,):K1):=_AB);rw [p];show .sign W h e}
theorem amf:∀b∈iF,∀j∈iF,eI b=eI j->b=j:=Ie
theorem oy:∀b∈iF,eI b≠IL/\eI b≠NN/\eI b≠Nq/\eI b≠Ox/\eI b≠Pp/\eI b≠Pq/\ZF%eI b:=Ie
theorem acQ(g:d0 δ)(W:q∈iF):aT ((hd δ).1=eI q)=cu q δ:=by cases δ with|nil=>show bD (λz=>(oy q W).2.2.2.2.2.2 z.J)|cons t r=>rw [kX];change _=Ll q;let n:=oy q W;(let no:∀k:Iu,Kg=k->k≠2->Ll q=ay:=λk D R=>by unfold sL;cbv);(let a:∀{j:Bool},(Kg==0 && j)=ag->Kg=0:=Zi h);let k:=r2%g t cA;generalize (eb t).1=x at k;cases k with|num h=>lk|great h=>rw [no 0 (a h) Il];lk|small h=>rw [no 0 (a h) Il];lk|p' h e=>lk|p! h e=>lk|p? h e=>lk|@sign j m h e=>unfold sL;rw [h,e];by_cases b:j=q;{subst b;simp};{rw [bD λz=>b%amf j m q W z];cbv}
theorem xj:(WQ IL Nq/\WQ NN Nq/\WQ Ox Nq/\WQ Pp Nq/\WQ Pq Nq/\WQ MP Nq)/\(WQ IL NN/\WQ Nq NN/\WQ Ox NN/\WQ Pp NN/\WQ Pq NN/\WQ MP NN)/\(WQ Nq IL/\WQ NN IL/\WQ Ox IL/\WQ Pp IL/\WQ Pq IL/\WQ MP IL)/\(WQ Nq MP/\WQ NN MP/\WQ IL MP/\WQ Ox MP/\WQ Pp MP/\WQ Pq MP):=Ie
theorem oz(h:Ts=ag):U6=0:=by unfold ed at h;cbv
theorem uh(h:_AC=ag):U6=0:=by unfold iG at h;cbv
theorem ui(h:U6≠0):Ts=ay:=by unfold ed;cbv
theorem uj(h:U6≠0):_AC=ay:=by unfold iG;cbv
theorem acR(h:_AC=ag):Ts=ay:=by unfold iG at h;unfold ed;rw [cI] at h;let R:=Lv;unfold kF at R;rw [y!];right;unfold ps;lk
def amg(h:Ts=ag):_AC=ay:=by cases q:zp.great with|false=>rfl|true=>rw [acR q] at h;cases h
def hE(p:WA bo)(u:Ib bo):Bool:=match u with| []=>false|t::_=>p t
theorem CV(g:d0 δ):aT ((hd δ).1=Nq)=hE ed δ:=by let (n,_):=xj;cases δ with|nil=>show bD n.2.2.2.2.2|cons t r=>rw [kX];change _=Mo;let k:=r2%g t cA;generalize (eb t).1=x at k;cases k with|num h=>rw [ui Ih];show bD n.1|great h=>rw [acR h];show bD n.2.1|small h=>cbv|p' h e=>rw [ui Ih];show bD n.2.2.1|p! h e=>rw [ui Ih];cbv|p? h e=>rw [ui Ih];cbv|@sign j m h e=>rw [ui Ih];show bD (oy j m).2.2.1
theorem CW(g:d0 δ):aT ((hd δ).1=NN)=hE iG δ:=by let (_,n,_):=xj;cases δ with|nil=>show bD n.2.2.2.2.2|cons t r=>rw [kX];change _=SZ;let k:=r2%g t cA;generalize (eb t).1=x at k;cases k with|num h=>rw [uj Ih];show bD n.1|great h=>cbv|small h=>rw [amg h];show bD n.2.1|p' h e=>rw [uj Ih];show bD n.2.2.1|p! h e=>rw [uj Ih];cbv|p? h e=>rw [uj Ih];cbv|@sign j m h e=>rw [uj Ih];show bD (oy j m).2.1
theorem amh(g:d0 δ):aT ((hd δ).1=IL)=hE fA δ:=by let (_,_,n,_):=xj;cases δ with|nil=>show bD n.2.2.2.2.2|cons t r=>rw [kX];change _=(Kg==1);let no:Kg≠1->(Kg==1)=ay:=λh=>UW h;let k:=r2%g t cA;generalize (eb t).1=x at k;cases k with|num h=>cbv|great h=>rw [no%Y5 uh h];show bD n.2.1|small h=>rw [no%Y5 oz h];show bD n.1|p' h e=>cbv|p! h e=>cbv|p? h e=>cbv|@sign j m h e=>rw [no Ih];show bD (oy j m).1
theorem CX(g:d0 δ):aT ((hd δ).1=MP)=δ.bj:=by let (_,_,_,n):=xj;cases δ with|nil=>show b8 y|cons t r=>rw [kX];change _=ay;let k:=r2%g t cA;generalize (eb t).1=x at k;cases k with|num h=>show bD n.2.2.1|great h=>show bD n.2.1|small h=>show bD n.1|p' h e=>cbv|p! h e=>cbv|p? h e=>cbv|@sign j m h e=>show bD (oy j m).2.2.2.2.2.2
theorem ami:∀x∈([ml,nv,ny]:Ib aL),a! x≠IL/\a! x≠NN/\a! x≠Nq/\ZF%a! x/\∀b∈iF,a! x≠eI b:=Ie
theorem amj(g:d0 δ)(N:zf∈([ml,nv,ny]:Ib aL)):aT ((hd δ).1=a! zf)=sJ zf δ:=by let (C,o,P,a,b):=ami zf N;cases δ with|nil=>show bD (λz=>a z.J)|cons t r=>rw [kX];change _=(Kg==3 && Jj==zf);(let no:Kg≠3->(Kg==3 && Jj==zf)=ay:=Zi h);(let kg:∀(A:aL),Kg=3->Jj=A->aT (a! A=a! zf)=(Kg==3 && Jj==zf):=λA h e=>by rw [h,e];by_cases q:A=zf;{subst q;simp};{rw [bD λz=>q%h9 z,UW q];rfl});let k:=r2%g t cA;generalize (eb t).1=z at k;cases k with|num h=>lk|great h=>rw [no%Y5 uh h];lk|small h=>rw [no%Y5 oz h];lk|p' h e=>show kg ml h e|p! h e=>show kg nv h e|p? h e=>show kg ny h e|@sign j m h e=>lk
def fR(tl:aa)(k:Nat):Ib K1:= [(_DU, Ia tl,),("spot", Id k,)]
structure dc(f:aa)(H:Hp)(r tl:aa)(all u:Ib bo):Ir where
 obj:∃X k,H r=J%Iq f X%fR tl k/\k<=Qo/\u=all.Q k
 tks:xi H tl (all.o eb++ [ug])
structure TR(K:aE)(f:aa):Ir where
 cl:d5 K f
 nT:f3 K f _DU
 nS:f3 K f "spot"
theorem ub{f s:Jc}{F:O_}:∀{l:Ib f} {m:Ib s},cN F l m->∀{i:Nat} {b:s},Wg m=J b->∃a,Wg l=J a/\F a b|_,_, .nil,i,b,h=>Mt|_,_, .cons r t,0,b,h=>Io|_,_, .cons r t,i+1,b,h=>by let (a,D,R):=ub t OL;cbv
theorem acS(h:q<=OV):Wf (δ.o eb++ [ug])=J%hd%Qn q:=by by_cases e:q<OV;{rw [vc (by rw [aQ];show e),bL,d1 e,Hi e];rfl};{(let e:q=OV:=Ih);subst e;rw [nD Io,aQ,af0,AE];rfl}
theorem amk:a0 L0 L0%aR CO:=(y,y,y,Ie,y,Ie,Ie)
def uk(f:aa):Sp:=λC H Q _=>∃r tl all u,C= [Ia r]/\dc f H r tl IH u/\Q (Iv (hd u).1) H
def aml(F:aW r _AD _Fl CO u Q)(a:TR r f):aJ l p r D A aB 1 u Q L0%uk f:=by show Lg amk (Wr m (b,tl,all,n,rfl,_)) λc T o s H C m Z L h=>?_;let (b,tl,all,n,rfl,((X,k,e,g,rfl),i,V,d),q):=h;show (_,ax%aI%a8 hB (a8 bf (aC (pv 0) y) (aC (pv 0) y) IB) aF IB,?_);let (j,N,v):=ub d%acS g;show (_,y,b,f,X,_,_,y,e,Jg,a.nT,y,_,y,b,f,X,_,_,y,e,Jg,a.nS,y,tl,_,_,_,y,y,Iw V,h7 (q:=k) (v:= (Ia j)) _Fm,?_);show (j,_,_,_,y,y,Ju v,y,q)
theorem amm:a0 [IG,I?] [IG,I?]%aR CP:=(y,y,y,Ie,y,Ie,Ie)
def m_(f:aa):Sp:=λC H Q _=>∃r tl all u x,C= [Ia r, Iv x]/\dc f H r tl IH u/\Q (IJ%aT ((hd u).1=x)) H
def amn(F:aW r Q2 "Reader.sees" CP u Q)(d:TR r f)(e:eu l p r D A aB 1 f _AD L0%uk f):aJ l p r D A aB 2 u Q [IG,I?]%m_ f:=by show Lg amm (Wr i (a,tl,all,b,x,rfl,_)) λc T j s H C i Z L h=>?_;let (a,tl,all,b,x,rfl,R,q):=h;show (_,ax%aI%gT kT (jL (pv 0) d.cl e L aK) (pv 1)%c' _,?_);let (X,k,g,_):=R.obj;show (_,y,a,X,_,y,g,y,a,tl,IH,b,y,R,_,y,y,?_);rw [BR];show q
def dc.moved(F:g W=J%Iq u ο%fR f Z)(a:xi g f (δ.o eb++ [ug]))(c:q<=OV):dc u (ak g W%Iq u ο%fR f q) W f δ%Qn q:=by let (i,D,R):=a;show ((ο,q,ar,c,y),i,?_,J8 R%X' d b);{rw [aq%dh D F KY];show D};{rw [aq%dh z F KY];show z}
theorem acT:a0 [IG,I?,Kq] [IG,I?]%aR CQ:=(y,y,y,Ie,y,Ie,Ie)
def Kept(H d:Hp)(r:aa):Ir:=∀c o,H c=J o->c≠r->d c=J o
def l9(f m:aa):Sp:=λC H Q Z=>∃r tl all u x,C= [Ia r, Iv x]/\dc f H r tl IH u/\((hd u).1=x->∀d,(XC u->dc f d r tl IH%LN 1)->Kz H d r->Q (hd u).2 d)/\(¬ (hd u).1=x->Z (Ia m) I H)
theorem amo(F:aW r Qp "Reader.take" CQ u Q)(a:TR r f)(N:eu l p r D A aB 2 f Q2 [IG,I?]%m_ f)(z:ID l p r D A (bp l p) 1 LU Ml%hD W): aJ l p r D A (bp l p) 3 u Q [IG,I?] (l9 f W):=by show N! acT (Wr B (b,tl,all,w,x,rfl,_)) λc T P s H C B Z L h=>?_;let (b,tl,all,w,x,rfl,R,q,O):=h;show (_,ao (bI%aM z (Jh Il) y bw%ae (b5 (pv 0) Jg N L aK%ae (pv 1) aj) aj)%ao (Wq acT.nd (aH y)%a8 hB (a8 bf (aC (pv 0) y) (aC (pv 0) y) IB) aF IB)%ao (rO (pv 0) aF tY)%ax%aI%pv 2,?_);let ((X,k,j,g,E),i,V,d):=id R;show (_,y,b,X,_,y,j,y,_,y,b,tl,IH,w,x,y,R,?_);show (_,y,We m,λm=>O%dY m);let (n,G,v):=ub d%acS g;show (_,y,b,f,X,_,_,y,j,Jg,a.nT,y,_,y,b,f,X,_,_,y,j,Jg,a.nS,y,tl,_,_,_,y,y,Iw V,h7 (q:=k) (v:= (Ia n)) (by rw [bL,G];rfl),?_);show (n,_,_,_,y,y,Ju v,y,?_);show (_,y,b,f,X,_,_,y,j,Jg,a.nS,y,_,_,y,y,X,_,j,Pb,?_);subst E;show (_,y,q (cw m) _ (We M)%XG α m);{(let t:k<Qo:=Io);rw [Hl];show dc.gg (q:=k+1) j R.tks t};{rw [aq m];show e}
theorem acU:a0 [IG,I?,"seen"] [IG,I?]%aR CS:=(y,y,y,Ie,y,Ie,Ie)
def qa(f:aa):Sp:=λC H Q _=>∃r tl all u x,C= [Ia r, Iv x]/\dc f H r tl IH u/\ZF x/\((hd u).1=x->∀d,dc f d r tl IH%LN 1->Kz H d r->Q (IJ ag) d)/\(¬ (hd u).1=x->Q (IJ ay) H)
theorem amq(F:aW r Tt _Fn CS u Q)(b:TR r f)(N:eu l p r D A aB 2 f Q2 [IG,I?]%m_ f):aJ l p r D A aB 3 u Q [IG,I?]%qa f:=by show Lg acU (Wr E (a,tl,all,w,x,rfl,_)) λc T G s H C E Z L h=>?_;let (a,tl,all,w,x,rfl,R,m,q,O):=h;show (_,ao (Wq acU.nd (aH y)%b5 (pv 0) b.cl N L aK%ae (pv 1) aj)%ao (bA (b9%pv 2) (ax%rO (pv 0) aF tY) bM)%ax%aI%pv 2,?_);let ((X,k,j,g,n),i,V,d):=id R;show (_,y,a,X,_,y,j,y,_,y,a,tl,IH,w,x,y,R,?_);show (_,y,_,y,cF (We W)%We W);{let B:(hd w).1=x:=cw W;show (_,y,a,f,X,_,_,y,j,b.cl,b.nS,y,_,_,y,y,X,_,j,Pb,?_);subst n;show (_,y,?_);rw [W];(let t:k<Qo:=by by_cases z:k<Qo;{show z};{rw [vJ Ih] at B;show a' B.J m});show q B _ ?_%XG v W;{rw [Hl];show dc.gg (q:=k+1) j R.tks t};{rw [aq W];show e}};{show (_,y,?_);cbv}
theorem acV:a0 [IG,I?,"taken"] [IG,I?]%aR CT:=(y,y,y,Ie,y,Ie,Ie)
def cb(l:Ib mr):Ib V:=JZ λn=>Ki%a! M1
def CY(f:aa):Sp:=λC H Q _=>∃r tl all u x p,C= [Ia r, Iv x]/\dc f H r tl IH u/\d0 IH/\W1 Qo/\ZF x/\(∀G,d0 G->aT ((hd G).1=x)=hE p G)/\(∀t,kJ t->p t=ag->(eb t).2= Iv%a! Jj)/\∀d l,dc f d r tl IH (dI p u).2->H l=I->d l=J%Ig%cb (dI p u).1->Kz H d r->Q (Ia l) d
def amr{p:WA bo}(h:p zp=ag):dI p (zp::δ)=(afX zp::(dI p δ).1,(dI p δ).2,):=by rw [dI,aA h]
theorem ams(F:aW r _BJ _Fo CT u Q)(θ:TR r f)(N:eu l p r D A aB 2 f Q2 [IG,I?]%m_ f)(S:eu l p r D A (bp l p) 3 f Qp [IG,I?]%l9 f W): aJ l p r D A (bp l p) 4 u Q [IG,I?] (CY f):=by show N! acV (Wr υ (b,tl,all,B,x,a,rfl,_)) λzl T zm zn H C υ Z L h=>?_;let (b,tl,all,B,x,a,rfl,R,g,zo,zp,ι,φ,κ):=h;show (_,ao (Wq acV.nd (aH y)%bZ aj)%ao (iU hC (b9%b5 (pv 0) θ.cl N (Jh Il) aK%ae (pv 1) aj)%ax%bI%ea d9 fw fX fg (pv 2)%ae (b5 (pv 0) θ.cl S L bw%ae (pv 1) aj) aj)%ax%aI%pv 2,?_);show (cj _,Wb w γ);(let s0:∀α β,H α=J β->ak H w (Ig []) α=J β:=Zg β%aq%aU e γ);(let χ:dc f (ak H w%Ig []) b tl IH B:=by let ((X,k,E,ε,V),ψ,P,O):=R;show ((X,k,s0 _ _ E,ε,V),ψ,s0 _ _ P,J8 O λω Γ z=>s0 _ _ z));(let μ:WY w:=by let ((X,k,E,_),_):=R;show aU E γ);show (λm c d=>∃(G:Ib bo) (v:Ib mr),c= [J%Ia b,J%Iv x,J%Ia w]/\m=JY/\dc f d b tl IH G/\d w=J%Ig%cb v/\Nm+JY<=Qo/\Kz H d b/\dI a B=(v++(dI a G).1,(dI a G).2,),(_,B, [],y,y,χ,ar,?_,λα β e _=>s0 α β e,y),?_);{let ((X,k,_,ε,V),_):=R;cbv};rintro m c d ⟨G,v,rfl,rfl,s,ζ,Δ,η,i⟩;(let q:d0 G:=by let ((X,k,_,_,V),_):=s;rw [V];show CU g k);let ((X,k,ν,_),_):=id s;show (_,y,b,X,_,y,ν,y,_,y,b,tl,IH,G,x,y,s,_,y,?_);rw [ι G q];cases G with|nil=>rw [XA (hE a []) ay];show bt (_,y,κ d w ?_ γ ?_ η);{rw [i];show s};{rw [i,XA (dI a []) ([], [],),fo];show ζ}|cons t o=>rw [XA (hE a (t::o))%a t];show cF Qz Qz;{show (λξ M=>∃n,ξ= [J%Ia b,J%Iv x,J%Ia w]/\dc f M b tl IH o/\M w=J%Ig%cb n/\n.a+o.a<=Qo/\Kz H M b/\dI a B=(n++(dI a o).1,(dI a o).2,),λξ M (n,E,ε,V,P,O,Θ)=>(o.a,qS _,o,n,E,y,ε,V,P,O,Θ),?_);show (_,y, Ik (y,_,Iw ζ),?_);show (_,y,b,X,_,y,ν,y,_,y,b,tl,IH,t::o,x,y,s,Wj zq ο R2 π,We Ξ);{let R2:=R2 Ii;let j:ο w=J%Ig%cb v:=π _ _ ζ λz=>μ z.J;(let Φ:(cb v).a=Nm:=_Fp);show (w,_,_,y,y,j,by rw [Φ];show ec Ih,?_);let ((Ψ,Ω,za,zb,zc),zd,ze,zf):=R2;let zg:∀{α:aa} {β:HO},ο α=J β->(∀ρ,β≠ Ig ρ)->α≠w:=λz zh=>dh z j%zh _;(let zi:tl≠w:=by let (_,zr,zj,_):=R;show aU zj γ);show (v++ [afX t],y,((Ψ,Ω,?_,zb,zc),zd,?_,J8 zf%X' ω Γ),?_,?_,Wj α β e σ,?_);{rw [aq μ];show za};{rw [aq zi];show ze};{rw [aq%zg z Io];show z};{rw [ar];unfold cb;rw [dW];change J%Tu (_++ [(hd (t::o)).2])=_;rw [kX,φ t (q t cA) δ];rfl};{lk};{rw [aq%aU e γ];show π α β (η α β e σ) σ};{rw [i,amr δ,iH];rfl}};{have:=ι (t::o) q;rw [XA (hE a (t::o))%a t,δ,cU] at this;show a' this Ξ}};{(let τ:dI a (t::o)=([],t::o,):=by rw [dI,au δ]);show (_,y,κ d w ?_ γ ?_ η);{cbv};{cbv}}
abbrev CZ:aS:=eP (IF 12) 0
abbrev C0:aS:=eP (IF 13) 0
abbrev C1:aS:=eP (IF 14) 0
abbrev C2:aS:=eP (IF 14) 1
abbrev C3:aS:=eP (IF 14) 2
abbrev C4:aS:=eP (IF 14) 3
abbrev C5:aS:=eP (IF 14) 4
def xk(f:aa)(C o P:ai):Sp:=λc H Q _=>∃(x X:aa) (a b j:V),c= [Ia x,a,b,j]/\H x=J%Iq f X []/\Q IK%ak H x%Iq f X [(C,a,),(o,b,),X6 P]
structure T3(K:aE)(f:aa)(C o P:ai):Ir where
 cl:d5 K f
 a1:f3 K f C
 a2:f3 K f o
 a3:f3 K f P
theorem amt:a0 [IG,I?,Kq,KZ] [IG,I?,Kq,KZ]%aR CZ:=(y,y,y,Ie,y,Ie,Ie)
theorem amu(F:aW r J_ _Fq CZ u Q)(a:T3 r f I? Kq KZ):aJ l p r D A aB 1 u Q [IG,I?,Kq,KZ]%xk f I? Kq KZ:=by show Lg amt (WV (x,X,d,e,j,rfl,_)) λc T g s H C b Z L h=>?_;let (x,X,d,e,j,rfl,N,q):=h;show (_,ao (cf (pv 0) (pv 1) y)%ao (cf (pv 0) (pv 2) y)%ax%cf (pv 0) (pv 3) y,?_);show (_,y,_,y,x,f,X,_,y,N,Jg,a.a1,Io,?_);show (_,y,_,y,x,f,X,_,y,ar,Jg,a.a2,OG,?_);show (_,y,_,y,x,f,X,_,y,ar,Jg,a.a3,Pb,?_);rw [dE,dE];show q
theorem amv:a0 [IG,M!,My,Mz] [IG,M!,My,Mz]%aR C0:=(y,y,y,Ie,y,Ie,Ie)
theorem amw(F:aW r J_ _Fr C0 u Q)(a:T3 r f M! My Mz):aJ l p r D A aB 1 u Q [IG,M!,My,Mz]%xk f M! My Mz:=by show Lg amv (WV (x,X,d,e,j,rfl,_)) λc T g s H C b Z L h=>?_;let (x,X,d,e,j,rfl,N,q):=h;show (_,ao (cf (pv 0) (pv 1) y)%ao (cf (pv 0) (pv 2) y)%ax%cf (pv 0) (pv 3) y,?_);show (_,y,_,y,x,f,X,_,y,N,Jg,a.a1,Io,?_);show (_,y,_,y,x,f,X,_,y,ar,Jg,a.a2,OG,?_);show (_,y,_,y,x,f,X,_,y,ar,Jg,a.a3,Pb,?_);rw [dE,dE];show q
structure TD(a:aE)(f:aa):Ir where
 cl:d5 a f
 nR:f3 a f Kr
 nP:f3 a f _DV
 nL:f3 a f _DW
 nO:f3 a f My
 nU:f3 a f Mz
def fD(r c:aa)(t A:Nat)(j:Bool):Ib K1:= [(Kr, Ia r,),(_DV, Id t,),(_DW, Id A,),(My, Ia c,),(Mz, IJ j,)]
theorem amx:a0 [IG,Kr] [IG,Kr]%aR C1:=(y,y,y,Ie,y,Ie,Ie)
def acW(f:aa):Sp:=λC H Q _=>∃(x X r:aa),C= [Ia x, Ia r]/\H x=J%Iq f X []/\∀d c,Kz H d x->H c=I->d c=J%I9 []->d x=J%Iq f X%fD r c 0 0 ay->Q IK d
theorem amy(F:aW r J_ _Fs C1 u Q)(a:TD r f):aJ l p r D A aB 1 u Q [IG,Kr]%acW f:=by show Lg amx (WV (x,X,j,rfl,_)) λc T k s H C b Z L h=>?_;let (x,X,j,rfl,N,q):=h;show (_,ao (cf (pv 0) (pv 1) y)%ao (cf (pv 0) aF y)%ao (cf (pv 0) aF y)%ao (cf (pv 0) Cd y)%ax%cf (pv 0) kP y,?_);show (_,y,_,y,x,f,X,_,y,N,Jg,a.nR,Io,?_);show (_,y,x,f,X,_,y,ar,Jg,a.nP,OG,?_);show (_,y,x,f,X,_,y,ar,Jg,a.nL,Pb,?_);rw [dE,dE];intro g n;let d:x≠g:=aU ar n;show (_,y,x,f,X,_,y,W5 d,Jg,a.nO,SK,?_);show (_,y,x,f,X,_,y,ar,Jg,a.nU,PY,?_);rw [dE];rw [aq d.J] at n;show q _ g (XG i W) n ?_ ?_;{rw [aq W,aq%aU e n,aq W];show e};{rw [aq d.J,ar]};{rw [ar];rfl}
theorem amz:a0 L0 L0%aR C2:=(y,y,y,Ie,y,Ie,Ie)
theorem amA:a0 L0 L0%aR C3:=(y,y,y,Ie,y,Ie,Ie)
def xl(c m:aa):Sp:=λC H Q Z=>∃f X r d t A j,C= [Ia f]/\H f=J%Iq c X%fD r d t A j/\(A+1<=30->Q IK%ak H f%Iq c X%fD r d t (A+1) j)/\(¬ A+1<=30->Z (Ia m) I%ak H f%Iq c X%fD r d t (A+1) j)
theorem amB(F:aW r _BK "Draft.enter" C2 u Q)(a:TD r f)(R:ID l p r D A (bp l p) 1 LU Ml%hD W)(n:cQ D "MOST_LEVELS_expressions" 30):aJ l p r D A (bp l p) 2 u Q L0%xl f W:=by show N! amz (WV (d,X,i,e,t,k,g,rfl,_)) λc T m s H C b Z L h=>?_;let (d,X,i,e,t,k,g,rfl,hd,q,O):=h;show (_,ao (rO (pv 0) aF tY)%ax%bI%aM R L y bw%ae (gT gQ (aC (pv 0) y) (cg n y)%c' _) aj,?_);show (_,y,d,f,X,_,_,y,hd,Jg,a.nL,y,_,_,y,y,X,_,hd,(Yq 5),?_);show (_,y,d,f,X,_,_,y,ar,Jg,a.nL,y,_,_,y,y,_,y,λj=>q ?_,λj=>O ?_);{have:=cw j;lia};{have:=dY j;lia}
def um(c:aa):Sp:=λC H Q _=>∃f X r d t A j,C= [Ia f]/\H f=J%Iq c X%fD r d t (A+1) j/\Q IK%ak H f%Iq c X%fD r d t A j
theorem amC(F:aW r _AE "Draft.leave" C3 u Q)(b:TD r f):aJ l p r D A aB 1 u Q L0%um f:=by show Lg amA (Wr i (d,X,k,g,t,a,j,rfl,_)) λc T m s H C i Z L h=>?_;let (d,X,k,g,t,a,j,rfl,hd,q):=h;show (_,ax%rO (pv 0) aF ajZ,?_);show (_,y,d,f,X,_,_,y,hd,b.cl,b.nL,y,_,_,y,y,X,_,hd,(Yq 5),?_);(let e:Wy%ZV a=Wa a:=Ih);change i IK%ak H d%Iq f X [(Kr, Ia k,),(_DV, Id t,),(_DW, Id%Wy%ZV a,),(My, Ia g,),(Mz, IJ j,)];rw [e];show q
structure Go(F H W d:Hp)(u:Nw):Ir where
 sub:Wh (W b=J o) (d b=J o)
 ext:Wh (F b=J o) (W b=J o)
 new:Wh (W b=J o) (F b=J o∨H b=I∨∃L,o= IC L)
 keep:Wh (H b=J o) (¬ u b->d b=J o)
 bg:∀b,d b=I->H b=I
def Sub(F H:Hp):Ir:=Wh (F b=J o) (H b=J o)
section
variable {M N:Nw}{m:aa}{o:HO}
def Go.refl(s:IQ g G):Go g G g G M:=(s,Mj,λ_ _ e=> Ik e,λ_ _ e _=>e,Oj)
theorem Go.trans{X n:L2.Hp}(a:Go g G σ Γ M)(k:Go σ Γ X n M):Go g G X n M:=(JN,λc o e=>U7 c o%Oy c o e,λc o e=>by rcases k.new c o e with q|q|q;{show _AF c o q};{show Iy%Ik%Pr c q};{cbv},λc o e i=>k.ad c o (NO c o e i) i,λc e=>Pr c%k.bg c e)
def Go.weak(a:Go g G σ Γ M)(h:∀c,M c->N c):Go g G σ Γ N:=(Lr,Oy,_AF,λc o e i=>NO c o e λz=>i%h c z,Pr)
theorem Go.fresh(a:Go G g σ Γ N)(h:∀c,N c->M c∨g c=I):Go G g σ Γ M:=(Lr,Oy,_AF,λc o e i=>NO c o e λz=>(h c z).al i%Zi q,Pr)
theorem Go.off(a:Go G σ g Γ M){x:HO}(D:G f=I)(R:σ f=J x)(V:Γ f=J za)(T:∀L,za≠ IC L):g f=I:=by cases e:g f with|none=>rfl|some z=>rcases a.new f z e with q|q|⟨L,q⟩;{cbv};{cbv};{have:=Lr f z e;lk}
theorem Go.put(s:IQ g G)(i:M m)(a:g m=I):Go g G g (ak G m o) M:=(λc x e=>Y1 JO s c x e,Mj,λ_ _ e=> Ik e,ZP c x e f%aq λz=>f _DX,λc e=>by by_cases z:c=m;{subst z;rw [ar] at e;cases e};{rwa [aq z] at e})
def b1(s:IQ g G)(h:G f=I):g f=I:=by cases e:g f with|none=>rfl|some A=>rw [s f A e] at h;cases h
def Go.alloc(s:IQ G g)(h:g f=I):Go G g G (ak g f o) M:=(λc x e=>Y1 (aU (s c x e) h) s c x e,Mj,λ_ _ e=> Ik e,ZP c x e a%aq%aU e h,λc e=>by by_cases z:c=f;{subst z;show h};{rwa [aq z] at e})
theorem Go.freeze(a:Go g G σ Γ M)(F:G f=I)(D:Γ f=J o)(R:σ f=I):Go g G (ak σ f o) Γ M:=by (let V:g f=I:=by cases e:g f with|none=>rfl|some A=>have:=Oy f A e;cbv);show (λc x e=>by by_cases z:c=f;{subst z;rw [ar] at e;cases e;show D};{rw [aq z] at e;show Lr c x e},λc x e=>Y1 JO Oy c x e,λc x e=>by by_cases z:c=f;{cbv};{rw [aq z] at e;show _AF c x e},NO,Pr)
def jM(a H:Hp):Hp:=λc=>match a c with|J o=>J o|none=>match H c with|J (.tup L)=>J (IC L)|_=>none
theorem acX(s:IQ g G)(e:jM g G f=J za):G f=J za/\(g f=J za∨∃L,za= IC L):=by unfold jM at e;cases h:g f with|some o=>rw [h] at e;cases e;show (s f _ h, Ik y)|none=>lk
theorem Go.hu(a:Go σ Γ g G M):Go σ Γ (jM g G) G M/\(∀c o,g c=J o->jM g G c=J o)/\∀c L,G c=J%IC L->jM g G c=J%IC L:=by (let b:∀c o,g c=J o->jM g G c=J o:=λc o e=>by unfold jM;rw [e]);show ((λc o e=>(acX Lr e).1,λc o e=>b c o%Oy c o e,W' c o,NO,Pr),b,W' c L);{rcases (acX a.y e).2 with q|q;{show _AF c o q};{cbv}};{cases h:g c with|some o=>have:=Lr c o h;cbv|none=>unfold jM;rw [h,e]}
def Go.uo(a:Go σ Γ g G M):IQ g G:=a.sub
end
def gU:e6->ai| .neg=>Tv| .not=>"!"| .or=>"|"| .and=>"&"| .eq=>"="| .lt=>"<"| .add=>"+"| .sub=>"-"| .mul=>"*"| .div=>"/"| .mod=>"mod"| .ite=>Ox| .list=>JT| .len=>Kp| .at_=>"at"| .cat=>"cat"| .look=>"look"| .drop=>"drop"| .has=>U8| .max=>LR| .min=>QX
def fP(k:ai)(v:V)(l:aa):Ib K1:= [(I?, Iv k,),W2 Kq,(KZ, Ia l,)]
mutual
def dS(f:aa)(F:Hp):XU dB|v, .num n=>∃a X l,v= Ia a/\F a=J%Iq f X%fP IL (Id n) l/\F l=J%Ig []|v, .own=>∃a X l,v= Ia a/\F a=J%Iq f X%fP KG (Id 0) l/\F l=J%Ig []|v, .occ p x=>∃a X l t,v= Ia a/\F a=J%Iq f X%fP N? (Ia t) l/\F l=J%Ig []/\F t=J%IC [Id p, Iv%a! x]|v, .app d L=>∃a X l C,v= Ia a/\F a=J%Iq f X%fP (gU d) (Id 0) l/\F l=J%Ig C/\cV f F C L
def cV(f:aa)(F:Hp):WF (Ib V)%Ib dB| [], []=>True|v::C,x::L=>dS f F v x/\cV f F C L|_,_=>False
end
mutual
theorem dS.mono{f:aa}{F W:Hp}(h:Wh (F b=J o) (W b=J o)):∀{v:V} (x:dB),dS f F v x->dS f W v x|v, .num n,p=>_DY|v, .own,p=>_DY|v, .occ q x,p=>_DY|v, .app d L,p=>by unfold dS at p ⊢;let (a,X,l,C,D,R,c,T):=p;show (a,X,l,C,D,h _ _ R,h _ _ c,cV.u h L T)
theorem cV.mono{f:aa}{F W:Hp}(h:Wh (F b=J o) (W b=J o)):∀{C:Ib V} (L:Ib dB),cV f F C L->cV f W C L| [], [],p=>_Ft|v::C,x::L,p=>by unfold cV at p ⊢;show (dS.u h x KB,cV.u h L L3)| [],_::_,p=>Tw|_::_, [],p=>Tw
end
theorem cV.snoc{f:aa}{F:Hp}{v:V}{x:dB}(h:dS f F v x):∀{C:Ib V} {L:Ib dB},cV f F C L->cV f F (XE C)%_ak L| [], [],p=>by change cV f F Kv QA;unfold cV;cbv|_::_,_::_,p=>by rw [o1,o1];unfold cV at p ⊢;show (KB,cV.snoc h L3)| [],_::_,p=>Tw|_::_, [],p=>Tw
theorem cV.len{f:aa}{F:Hp}:∀{C:Ib V} {L:Ib dB},cV f F C L->L'=I0| [], [],p=>y|_::_,_::_,p=>by unfold cV at p;rw [cH,cH,cV.len L3]| [],_::_,p=>Tw|_::_, [],p=>Tw
def cV.nil:cV f g [] []:=_Ft
def cV.cons{x:dB}{L:Ib dB}(h:dS f g ζ x)(k:cV f g α L):cV f g (ζ::α) (x::L):=by unfold cV;show (h,k)
def hF(o:Jo):OK:=([Ik%Wi JW, Iy%a! JX], IJ ag,)
def kh(os:Ib Jo)(o:Jo):Ib Jo:=if o∈os then os else os++ [o]
def dU(os l:Ib Jo):Ib Jo:=l.fp kh os
def xm(os l m:Ib Jo):dU os (l++m)=dU (dU os l) m:=by unfold dU;rw [AF]
theorem amD{b:Jo}(h:(hF zP).1=(hF b).1):zP=b:=by unfold hF at h;injection h with D R;injection R with R _;injection D with D;injection R with R;let V:=h9 R;lk
theorem amE(os:Ib Jo)(o:Jo):f5 (os.o hF) (hF o).1%IJ ag=(kh os o).o hF:=by unfold f5 kh;(let e:((os.o hF).any λg=>aT (Lx=(hF o).1))=aT (o∈os):=by rw [GZ,e_,vg,cU];constructor;{rintro ⟨x,N,h⟩;have:=amD%cw h;cbv};{lk});rw [e];by_cases h:o∈os;{rw [aA%b8 h,aA h,dX];show agS%Wb x _;change (Wz (hF x).1 (hF o).1 ((hF x).1,M9 ag,)%hF x)=hF x;split<;>rfl};{rw [au (by rw [cU];show h),au h,dW];rfl}
theorem amF(os:Ib Jo)(o:Jo):(kh os o).a<=os.a+1:=by unfold kh;split<;>simp
structure hb(CR i:aa)(H:Hp)(f r tl a:aa)(all u:Ib bo)(t A:Nat)(j:Bool)(os:Ib Jo):Ir where
 obj:∃X,H f=J%Iq i X%fD r a t A j
 rd:dc CR H r tl IH u
 occ:H a=J%I9%os.o hF
 bd:os.a<=t
 top:t<=60
def M3(f r a:aa):Nw:=λb=>b=f∨b=r∨b=a
structure Off(F H:Hp)(d r oc:aa):Ir where
 sub:IQ F H
 d:F d=I
 r:F r=I
 oc:F oc=I
def dc.kept{H H':Hp}(R:dc f H W u δ Ψ)(i:H ο=J za)(D:∀L,za≠ Ig L)(b:∀L,za≠ IC L)(V:∀X k,za≠ Iq f X%fR u k)(k:Kz H H' ο):dc f H' W u δ Ψ:=by let ((X,M,a1,a2,a3),c,a4,a5):=R;show ((X,M,k _ _ a1%dh a1 i λz=>V _ _ z.J,a2,a3),c,k _ _ a4%dh a4 i λz=>D _ z.J,J8 a5 λa g z=>k _ _ z%dh z i λA=>b _ A.J)
def dc.same(R:dc f g u W δ Ψ)(k:Wh (g b=J o) (G b=J o)):dc f G u W δ Ψ:=by let ((X,M,a1,a2,a3),i,a4,a5):=R;show ((X,M,k _ _ a1,a2,a3),i,k _ _ a4,J8 a5 λa c z=>k _ _ z)
theorem C6:HO.ins f W%fD zd zq q Z zc≠ Iq u ο%fR z0 zm:=by intro z;injection z with _ _ z;injection z with o _;cbv
def hb.ne(G:hb ο zd g f u zq W δ Ψ q Z zc zs):Rq/\XX W/\u≠W:=by let (X,D):=G.obj;let ((O,k,R,_),_):=G.rd;show (dh D R C6,dh D G.occ KY,dh R G.occ KY)
def hb.same(a:hb f u g W ο zd zq δ Ψ q Z zc zs)(k:∀e o,g e=J o->G e=J o):hb f u G W ο zd zq δ Ψ q Z zc zs:=by let (X,D):=a.obj;show ((X,k _ _ D),a.rd.h0 k,k _ _ a.occ,a.bd,a.top)
theorem hb.own(a:hb zd u G f W zq ο δ Ψ q Z zc zs){e:Nat}{h:Bool}(hd:g f=J%Iq u z0%fD W ο zm e h)(k:Kz G g f)(b:zs.a<=zm)(v:zm<=60):hb zd u g f W zq ο δ Ψ zm e h zs:=by let (l,D):=a.obj;let (C,o,P):=a.ne;show ((z0,hd),a.rd.dm D Io Io (Zh C6) k,k _ _ a.occ o.J,b,v)
def hb.read(a:hb u ο G zd f W zq δ Ψ q Z zc zs){e:Ib bo}(R:dc u g f W δ e)(k:Kz G g f):hb u ο g zd f W zq δ e q Z zc zs:=by let (b,D):=a.obj;let (C,o,P):=a.ne;show ((b,k _ _ D C),R,k _ _ a.occ P.J,a.bd,a.top)
theorem Off.go{l:Ib bo}{e:Nat}{h:Bool}{n:Ib Jo}(o:Off σ g f u W)(b:hb ο zd g f u zq W δ Ψ q Z zc zs)(c:hb ο zd G f u zq W δ l zm e h n)(a:Go σ g Γ G%M3 f u W):Off Γ G f u W:=by let (p,D):=b.obj;let (v,T):=c.obj;let ((O,k,R,_),_):=b.rd;let ((w,x,d,_),_):=c.rd;show (Lr,Qq o.d D T Io,Qq o.r R d Io,Qq o.oc b.occ c.occ Io)
structure jj(H d:Hp)(m:aa):Ir where
 kp:Kz H d m
 bg:∀b,d b=I->H b=I
theorem jj.go(k:jj G σ f)(s:IQ g G)(i:zT f)(a:g f=I):Go g G g σ zT:=(λb o e=>k.kp b o (s b o e) JO,Mj,λ_ _ e=> Ik e,λb o e W=>k.kp b o e λz=>W _DX,k.bg)
def er(h:∀b,G b=I->g b=I):∀b,ak G f za b=I->g b=I:=λb e=>by by_cases z:b=f;{subst z;rw [ar] at e;cases e};{rw [aq z] at e;show h b e}
theorem amG:a0 [IG,J'] [IG,J']%aR CN:=(y,y,y,Ie,y,Ie,Ie)
def uq(f m:aa):Sp:=λC H Q Z=>∃(x X c:aa) (k:Ib Iu),C= [Ia x, Ia c]/\H x=J%Iq f X []/\H c=J%Ig%cT k/\V'/\(∀u,tk 0 k=J u->∀d tl,Kz H d x->dc f d x tl u u->Q IK d)/\(tk 0 k=I->∀d,Kz H d x->Z (Ia m) I d)
theorem amH(F:aW r J_ _Fu CN u Q)(a:TR r f)(t:ID l p r D A (bp l p) 5 Tq QF%CJ W):aJ l p r D A (bp l p) 6 u Q [IG,J']%uq f W:=by show N! amG (Wr B (x,X,j,n,rfl,_)) λc T S α H C B Z L h=>?_;let (x,X,j,n,rfl,N,M,V,q,O):=h;show (_,ao (cf (pv 0) (aM t L y bw%ae (pv 1) aj) y)%ax%cf (pv 0) aF y,?_);show (_,y,j,n,y,M,V,WM m v d tl k s,WP G k%O G d λb o e _=>k b o e);show (_,y,x,f,X,_,y,k _ _ N,Jg,a.nT,Io,?_);show (_,y,x,f,X,_,y,ar,Jg,a.nS,OG,?_);rw [dE];show q m v _ tl (λb o e E=>Y1 E k b o e) ?_;have:=dc.gg (u:=f) (g:=ak d x%Iq f X%fR tl 0) (W:=x) (f:=tl) (δ:=m) (Z:=0) (q:=0) (ο:=X) ar (by let (i,w,R):=s;show (i,by rw [aq%dh w (k _ _ N) KY];show w,J8 R%Ys j g z%aq%dh z (k _ _ N) (by intro P;cases P)))%cj _;rw [dE] at this;show this
theorem amI:a0 [IG,I?,Kq,KZ] [IG,I?,Kq,KZ]%aR C4:=(y,y,y,Ie,y,Ie,Ie)
def qb(i s m:aa):Sp:=λC H Q Z=>∃(f X r c l:aa) (t A:Nat) (j:Bool) (k:ai) (v:V),C= [Ia f, Iv k,v, Ia l]/\H f=J%Iq i X%fD r c t A j/\(t+1<=60->∀d x z,H x=I->d x=J%Iq s z%fP k v l->d f=J%Iq i X%fD r c (t+1) A j->jj H d f->Q (Ia x) d)/\(60<t+1->∀d,jj H d f->Z (Ia m) I d)
theorem amJ(F:aW r J! "Draft.part" C4 W Q)(b:TD r f)(R:ID l p r D A (bp l p) 1 LU Ml%hD ο)(n:cQ D "MOST_PARTS_expressions" 60) (α:gx l p r D A aB 1 "Part" u [IG,I?,Kq,KZ]%xk u I? Kq KZ):aJ l p r D A (bp l p) 3 W Q [IG,I?,Kq,KZ]%qb f u ο:=by show N! amI (Wr E (a,X,i,d,P,t,m,j,k,v,rfl,_)) λc T ε ζ H C E Z L h=>?_;let (a,X,i,d,P,t,m,j,k,v,rfl,hd,q,O):=h;show (_,ao (rO (pv 0) aF tY)%ao (bI%aM R (Jh Il) y bw%ae (gT gQ (aC (pv 0) y) (cg n y)%c' _) aj)%ax%aI%eC α (Jh Il) y aK%ae (pv 1)%ae (pv 2)%ae (pv 3) aj,?_);let g:jj H (ak H a%Iq f X%fD i d (t+1) m j) a:=(ZP M o e s%aq s,er Oj);show (_,y,a,f,X,_,_,y,hd,b.cl,b.nP,y,_,_,y,y,X,_,hd,(Yq 5),?_);show (_,y,a,f,X,_,_,y,ar,b.cl,b.nP,y,_,_,y,y,_,y,We w,λw=>O (Y5 dY w) _ g);(let β:t+1<=60:=Yx w);show (_,y,_,y,_,y,Wn x z N V η);show (x,z,_,_,_,y,ar,y,?_);rw [dE];let G:ak H a (Iq f X%fD i d (t+1) m j) a=J%Iq f X%fD i d (t+1) m j:=ar;let γ:WZ x:=aU G N;let δ:WZ z:=aU G V;show q β _ x z (g.bg _ N) ar ?_ (XG M s,er%er g.bg);{rw [aq γ,aq δ];show G};{let B:=g.kp M o e s;rw [aq%aU B N,aq%aU B V];show B}
def acY{p:Hp}{b:HO}(a:Go p σ g G zT)(c:zT u)(e:g u=I)(X:jj G Γ u)(D:σ f=I)(V:G f=J za)(h:g f=I)(ld:Rq)(N:G W=I)(i:Γ W=J b): Go p σ (ak (ak g f za) W b) Γ zT:=by let r:=a.q%X.go a.uo c e;let k:=r.cm D (X.kp _ _ V ld) h;show k.cm (Pr _ N) i ?_;rw [aq (aU V N).J];show b1 a.uo N
theorem u1(r:dy q μ):RR+1<ju:=_C9
theorem amK:a0 [IG,JC,I2] [IG,JC,I2]%aR C5:=(y,y,y,Ie,y,Ie,Ie)
def xn(CR i s m:aa):Sp:=λC H Q Z=>∃F f r tl c all u t A j os p g,C= [Ia f, Id%Wa p, Iv%a! g]/\hb CR i H f r tl c IH u t A j os/\Off F H f r c/\(t+1<=60->∀W d v,Go F H W d%M3 f r c->dS s W v%.occ p g->hb CR i d f r tl c IH u (t+1) A j%kh os (p,g,)->Q v d)/\(60<t+1->∀W d,Go F H W d%M3 f r c->Z (Ia m) I d)
theorem amL(F:aW r N? _Fv C5 u Q)(B:TD r f)(φ:eu l p r D A (bp l p) 3 f J! [IG,I?,Kq,KZ]%qb f W ο): aJ l p r D A (bp l p) 4 u Q [IG,JC,I2] (xn zd f W ο):=by show N! amK (Wr χ (F,i,s,tl,β,all,ψ,ζ,E,j,os,a,g,rfl,_)) λc T ze zf H C χ Z ρ h=>?_;let (F,i,s,tl,β,all,ψ,ζ,E,j,os,a,g,rfl,G,N,q,O):=h;show (_,ao (rY (u1 ρ) (aC (pv 0) y) (hA%ae (pv 1)%ae (pv 2) aj) kP y)%ax%aI%b5 (pv 0) B.cl φ ρ bw%ae cn%ae (hA%ae (pv 1)%ae (pv 2) aj)%ae (bZ aj) aj,?_);let (X,hd):=G.obj;let (zg,σ,zh):=G.ne;show (_,y,i,f,X,_,_,y,hd,B.cl,B.nO,y,?_);show (_,y,_,y,Nx,Wb τ ω);(let s0:Xe (H α=J o) (ak H τ (IC [Id%Wa a, Iv%a! g]) α=J o):=Zg o%aq%aU e ω);let Γ:=G.h0 s0;show (β,_,y,kc.t (k:=(hF (a,g,)).1) Γ.occ ar (by rw [aQ];show Hj (d8 G.bd G.top) Il),?_);rw [Yw (f5 _ _%M9 ag=_) amE os (a,g,)];generalize η:ak (ak H τ%IC [Id%Wa a, Iv%a! g]) β (I9%(kh os (a,g,)).o hF)=M;(let L:Xe (H α=J o) (α≠β->M α=J o):=λα o e S=>by rw [←η,aq S];show s0 α o e);(let θ:∀α,M α=I->H α=I:=by rw [←η];show er%er Oj);let δ:Go F H F M (M3 i s β):=_AG (L,θ) N.y (Iy%Iy y) N.oc;let υ:M i=J%Iq f X%fD s β ζ E j:=L _ _ hd σ;show (_,y,i,X,_,y,υ,y,?_);show (_,y,_,y,Nx,Wb t ι);show (cj _,XO κ);generalize R:ak (ak M t%IC [Id%Wa a, Iv%a! g]) b (Ig [])=n;let ε:Xg t:=aU (by rw [ar]) κ;(let μ:M b=I:=by rw [aq ε.J] at κ;show κ);(let v:Xe (M α=J o) (n α=J o):=Xl (by rw [←R,aq%aU e μ,aq%aU e ι];show e));(let Δ:∀α,n α=I->M α=I:=by rw [←R];show er%er Oj);(let ν:n t=J%IC [Id%Wa a, Iv%a! g]:=by rw [←R,aq ε];show ar);(let ξ:n b=J%Ig []:=by rw [←R];show ar);let k:Go F H F n (M3 i s β):=δ.q (Xl%v α o%NP α o e,Mj,λ_ _ e=> Ik e,λα o e _=>v α o e,Δ);let w:=v _ _ υ;let Θ:F t=I:=b1 δ.uo ι;let Ξ:F b=I:=b1 δ.uo μ;show (i,X,s,β,b,ζ,E,j,_,_,y,w,λm d x Φ P Ψ Ω γ=>?_,WP m γ%O m F d%Ma%γ.go k.uo (Ik y) N.d);let ld:WY i:=dh ξ w KY;let za:=acY (k.cm (θ _ ι) ν Θ) (Ik y) (by rw [aq%dh w ν KY];show N.d) γ (θ _ μ) ξ (_bq aq ε.J) ld P Ψ;let zb:x≠t:=(aU ν P).J;let zc:Xg x:=(aU ξ P).J;show q m _ d (Ia x) za ?_ ((X,Ω),?_,?_,?_,m);{unfold dS;show (x,Φ,b,t,y,ar,W5 zc.J,by rw [aq zb.J,aq ε];show ar)};{let π:=G.rd.dm G.occ Io Io Io (H':=M) L;show (π.h0 v).dm w Io Io (Zh C6) γ.kp};{show γ.kp _ _ (v _ _ ?_) σ.J;rw [←η];show ar};{show d8 (amF os (a,g,))%Nat.succ_le_succ G.bd}
theorem xo(k:Kz g G f)(h:G f=J za):∀b,G b=I->g b=I:=λb e=>by cases q:g b with|none=>rfl|some x=>by_cases z:b=f;{cbv};{rw [k b x q z] at e;cases e}
structure At(CR i:aa)(p P b H:Hp)(f r tl a:aa)(B u:Ib bo)(t A:Nat)(j:Bool)(E:Ib Jo):Ir where
 D:hb CR i H f r tl a B u t A j E
 O:Off b H f r a
 g:Go p P b H%M3 f r a
def At.start(a:hb ο zd g f u zq W δ Ψ q Z zc zs)(N:Off G g f u W):At ο zd G g G g f u zq W δ Ψ q Z zc zs:=(a,N, Ls N.y)
theorem At.reader(T:At f ο G σ Γ g zd u W zq δ Ψ q Z zc zs):∃X k,g u=J%Iq f X%fR W k:=by let ((X,k,a,_),_):=T.D.rd;lk
def At.go{a k:Hp}{b:Ib bo}{o v:Nat}{w:Bool}{n:Ib Jo}(T:At ο zd g G σ Γ f u zq W δ Ψ q Z zc zs)(c:Go σ Γ a k%M3 f u W)(d:hb ο zd k f u zq W δ b o v w n):At ο zd g G a k f u zq W δ b o v w n:=(d,T.O.go T.D d c,Q3 c)
def At.moved(T:At u ο g G σ Γ zd f W zq δ Ψ q Z zc zs){a:Hp}{b:Ib bo}(R:dc u a f W δ b)(k:Kz Γ a f):At u ο g G σ a zd f W zq δ b q Z zc zs:=ZC ((X,M,n,_),_) id R%T.go (_AG (k,xo k n) Q4 (Iy%Ik y) T.O.r)%T.D.read R k
def At.xp(T:At zd u g G σ Γ f W zq ο δ Ψ q Z zc zs){n:Hp}{o:Nat}{a:Bool}(hd:n f=J%Iq u z0%fD W ο zm o a)(k:Kz Γ n f)(b:q<=zm)(v:zm<=60):At zd u g G σ n f W zq ο δ Ψ zm o a zs:=T.go (_AG (k,xo k hd) Q4 (Ik y) _AH)%T.D.own hd k (d8 T.D.bd b) v
def At.fresh(T:At f u G σ Γ g W ο zd zq δ Ψ q Z zc zs){o:HO}(k:g z0=I):At f u G σ Γ (ak g z0 o) W ο zd zq δ Ψ q Z zc zs:=T.go (JI Q4 k)%T.D.h0 λa L n=>_bz aq%aU n k
theorem At.other(T:At u W Γ G σ g ο zd f zq δ Ψ q Z zc zs)(b:g z0=J%Ig α)(β:G z0=I)(e:σ z0=I)(v:z0≠f):At u W Γ G σ (ak g z0%Ig z1) ο zd f zq δ Ψ q Z zc zs:=by let (X,hd):=T.D.obj;let ((O,k,R,a2,a3),γ,a4,a5):=T.D.rd;let n:∀{D:aa} {o:HO},g D=J o->(∀N,o≠ Ig N)->D≠z0:=λa z=>dh a b%z α;let c:∀D,ak g z0 (Ig z1) D=I->g D=I:=er%Wv a a;show (((X,_bo aq%n hd Io),((O,k,by rw [aq%n R Io];show R,a2,a3),γ,by rw [aq v.J];show a4,J8 a5%Ys D h z%aq%n z Io),by rw [aq%n T.D.occ Io];show T.D.occ,T.D.bd,_BL),(Wd D o a,_AH,T.O.r,T.O.oc),(Wd D o a,T.g.ext,T.g.new,YL D a d,λD a=>U9 D%c D a));{rw [aq JO];show Q4 D o a};{rw [aq JO];show Q4 D o a};{rw [aq%aU a β];show T.g.ad D o a d}
def amM(T:At u ο G σ Γ g zd f W zq Ψ δ q Z zc zs)(a:ε (Iv (hd δ).1) g):uk u [Ia f] g ε τ:=(f,W,Ψ,δ,y,_BM,a)
def amN(T:At u ο G σ Γ g zd f W zq Ψ δ q Z zc zs)(a:ε (IJ%aT ((hd δ).1=L)) g):m_ u [Ia f, Iv L] g ε τ:=(f,W,Ψ,δ,L,y,_BM,a)
def amO(T:At u ο G σ Γ g zq f W z0 Ψ δ q Z zc zs)(N:SG)(b:(hd δ).1=L->∀a,At u ο G σ Γ a zq f W z0 Ψ (Qn 1) q Z zc zs->Kz g a f->ε (hd δ).2 a)(O:¬ (hd δ).1=L->τ (Ia zd) I g):l9 u zd [Ia f, Iv L] g ε τ:=(f,W,Ψ,δ,L,y,_BM,λD a R k=>b D a (T.gg (R (λz=>by rw [z] at D;show N D.J)) k) k,O)
def amP(T:At u ο G σ Γ g zd f W zq Ψ δ q Z zc zs)(N:SG)(b:(hd δ).1=L->∀a,At u ο G σ Γ a zd f W zq Ψ (Qn 1) q Z zc zs->Kz g a f->ε (IJ ag) a)(O:¬ (hd δ).1=L->ε (IJ ay) g):qa u [Ia f, Iv L] g ε τ:=(f,W,Ψ,δ,L,y,_BM,N,λD a R k=>b D a (T.gg R k) k,O)
def amQ(T:At zd ο G σ Γ g f u z0 W δ Ψ Z q zc zs)(b:q+1<=30->∀a,At zd ο G σ Γ a f u z0 W δ Ψ Z (q+1) zc zs->Kz g a f->ε IK a)(O:¬ q+1<=30->∀a,Go G σ Γ a%M3 f u W->τ (Ia zq) I a):xl ο zq [Ia f] g ε τ:=by let (X,hd):=T.D.obj;(let k:∀o,Kz g (ak g f o) f:=λo w L v c=>by rw [aq c];show v);show (f,X,u,W,Z,q,zc,y,hd,λn=>b n _ (T.xp ar (k _) (bj _) _BL)%k _,λn=>O n _ (T.xp (o:=q+1) ar (k _) (bj _) _BL).g)
def amR(T:At zd u G σ Γ g f W zq ο δ Ψ q (Z+1) zc zs)(b:∀a,At zd u G σ Γ a f W zq ο δ Ψ q Z zc zs->Kz g a f->ε IK a):um u [Ia f] g ε τ:=by let (X,hd):=T.D.obj;(let k:∀o,Kz g (ak g f o) f:=λo v L n c=>_bz aq c);show (f,X,W,ο,q,Z,zc,y,hd,b _ (T.xp ar (k _) (bj _) _BL)%k _)
theorem xq{l:aa}(T:At zq zd Γ G g σ f u l W δ Ψ q Z zc zs){w:aa}(D:G w=I)(γ:σ w=J%Ig α)(i:g w=I) (j:q+1<=60->∀d R L b,At zq zd Γ G d R f u l W δ Ψ (q+1) Z zc zs->d L=J%Iq ο b%fP zD ζ w->d w=J%Ig α->(∀a o,g a=J o->d a=J o)->ε (Ia L) R) (O:60<q+1->∀R,Go Γ G g R%M3 f u W->τ (Ia z0) I R): qb zd ο z0 [Ia f, Iv zD,ζ, Ia w] σ ε τ:=by let (κ,hd):=T.D.obj;show (f,κ,u,W,w,q,Z,zc,zD,ζ,y,hd,λη R L b N μ ν X=>?_,λη R X=>O η R%Q3%X.go Q4 (Ik y) _AH);let ld:w≠f:=dh γ hd KY;let e:=acY T.g (Ik y) _AH X D γ i ld N μ;let ξ:L≠w:=(aU γ N).J;(let k:∀a o,g a=J o->ak (ak g w%Ig α) L (Iq ο b%fP zD ζ w) a=J o:=λa o β=>by rw [aq%aU (Q4 a o β) N,aq JO];show β);(let θ:∀c ι,σ c=J ι->c≠w->g c=I->ak (ak g w%Ig α) L (Iq ο b%fP zD ζ w) c=I:=λc ι β n π=>by rw [aq%aU β N,aq n];show π);let ((ρ,M,h,_),_):=T.D.rd;show j η _ R L b (T.D.own ν X.kp (axH T.D.bd) η,(e.y,θ f _ hd ld.J _AH,θ u _ h (dh h γ KY) T.O.r,θ W _ T.D.occ (dh T.D.occ γ KY) T.O.oc),e) ar (W5 ξ.J) k
def Gives(S:TE)(c:L2.St)(H:Hp)(v:V):Ir:=∀k:VK,k v H->S c H k
def gv(n:Wf E=J%J ζ):IA (bH q) E g ζ:=λk a=>(ζ,n,a)
def gc:IA (tC ζ) E g ζ:=λk q=>q
def gf(G:IA R E g%Ia u)(o:g u=J%Iq f W z8)(a:d5 r f)(n:f3 r f L)(M:z8.B L=J ζ):IA (cy r R L) E g ζ:=λk q=>G _ (u,f,W,z8,ζ,y,o,a,n,M,q)
def gr(T:At ο f G σ Γ g u W zd zq δ Ψ q Z zc zs)(a:TD r f)(k:IA R E g%Ia u):IA (cy r R Kr) E g%Ia W:=by let (X,hd):=T.D.obj;show gf k hd Jg a.nR y
def ur(T:At f W G σ Γ g ο u zd zq Ψ δ q Z zc zs)(a:IA R E g%Ia u)(b:ε (Iv (hd δ).1) g):fe f _AD (uk f) [] τ R bY E g ε:=Zk (X,k,n) a _ (u,X,_,y,n,y,amM (τ:=τ) T b)
def xr(T:At f W G σ Γ g ο u zd zq Ψ δ q Z zc zs)(a:IA R E g%Ia u)(n:IA Ξ E g%Iv L)(b:ε (IJ%aT ((hd δ).1=L)) g):fe f Q2 (m_ f) [] τ R (bP Ξ bY) E g ε:=Zk (X,k,o) a _ (u,X,_,y,o,y,n _%amN (τ:=τ) T b)
def kZ(T:At u W G σ Γ g zd f zq z0 Ψ δ q Z zc zs)(a:IA R E g%Ia f)(n:IA Ξ E g%Iv L)(N:SG)(b:(hd δ).1=L->∀o,At u W G σ Γ o zd f zq z0 Ψ (Qn 1) q Z zc zs->Kz g o f->ε (hd δ).2 o)(O:¬ (hd δ).1=L->τ (Ia ο) I g): fe u Qp (l9 u ο) [] τ R (bP Ξ bY) E g ε:=Zk (X,k,v) a _ (f,X,_,y,v,y,n _%amO T N b O)
def uu(T:At u W G σ Γ g ο f zd zq Ψ δ q Z zc zs)(a:IA R E g%Ia f)(n:IA Ξ E g%Iv L)(N:SG)(b:(hd δ).1=L->∀o,At u W G σ Γ o ο f zd zq Ψ (Qn 1) q Z zc zs->Kz g o f->ε (IJ ag) o)(O:¬ (hd δ).1=L->ε (IJ ay) g): fe u Tt (qa u) [] τ R (bP Ξ bY) E g ε:=Zk (X,k,v) a _ (f,X,_,y,v,y,n _%amP (τ:=τ) T N b O)
def xt(T:At zd u G σ Γ g f W z0 ο δ Ψ Z q zc zs)(a:IA R E g%Ia f)(b:q+1<=30->∀k,At zd u G σ Γ k f W z0 ο δ Ψ Z (q+1) zc zs->Kz g k f->ε IK k)(O:¬ q+1<=30->∀k,Go G σ Γ k%M3 f W ο->τ (Ia zq) I k): fe u _BK (xl u zq) [] τ R bY E g ε:=_a? (X,n) a _ (f,X,_,y,n,y,amQ T b O)
def xu(T:At W u G σ Γ g f ο zd zq δ Ψ q (Z+1) zc zs)(a:IA R E g%Ia f)(b:∀k,At W u G σ Γ k f ο zd zq δ Ψ q Z zc zs->Kz g k f->ε IK k):fe u _AE (um u) [] τ R bY E g ε:=_a? (X,n) a _ (f,X,_,y,n,y,amR (τ:=τ) T b)
def acZ{C:L2.TE}{k:aa}(T:At zd u G σ Γ g f W k ο δ Ψ q Z zc zs)(c:IA R E g%Ia f)(n:IA Ξ E g%Iv zD)(d:IA C E g ζ) (e:q+1<=60->∀b a L z M,At zd u G σ b a f W k ο δ Ψ (q+1) Z zc zs->b L=J%Iq zq z%fP zD ζ M->b M=J%Ig []->(∀β o,Γ β=J o->b β=J o)->ε (Ia L) a) (O:60<q+1->∀b a,Go G σ b a%M3 f W ο->τ (Ia z0) I a): fe u J! (qb u zq z0) [] τ R (bP Ξ%bP C%bP (iv bY) bY) E g ε:=by let (X,γ):=T.D.obj;show c _ (f,X,_,y,γ,y,n _%d _ (cj _,Wb M N));show xq (Y2 T.an [] N) (U9 _ N) ar (b1 Q4 N) (λα b a L z h D i j=>e α b a L z M h D i j)%X7 a w%O α Γ a w
def amS{C l:L2.TE}{k:aa}(T:At zd u Γ G σ g f W k ο δ Ψ q Z zc zs){N:aa}(c:IA R E g%Ia f)(n:IA Ξ E g%Iv zD)(d:IA C E g ζ)(β:IA l E g%Ia N)(D:G N=I)(γ:g N=J%Ig α)(e:σ N=I) (h:q+1<=60->∀a M L z,At zd u Γ G a M f W k ο δ Ψ (q+1) Z zc zs->a L=J%Iq zq z%fP zD ζ N->a N=J%Ig α->(Wh (σ b=J o) (a b=J o))->ε (Ia L) M) (O:60<q+1->∀a M,Go Γ G a M%M3 f W ο->τ (Ia z0) I M): fe u J! (qb u zq z0) [] τ R (bP Ξ%bP C%bP l bY) E g ε:=_a? (X,i) c _ (f,X,_,y,i,y,n _%d _%β _%xq T D γ e h λj M w=>O j σ M w)
def ac0{m:aa}(T:At ο zd g G σ Γ f u zq W δ Ψ q Z zc zs) (b:q+1<=60->∀a k v,At ο zd g G a k f u zq W δ Ψ (q+1) Z zc%kh zs (zm,zf,)->dS z0 a v%.occ zm zf->ε v k) (O:60<q+1->∀a k,Go g G a k%M3 f u W->τ (Ia m) I k): xn ο zd z0 m [Ia f, Id%Wa zm, Iv%a! zf] Γ ε τ:=(σ,f,u,zq,W,δ,Ψ,q,Z,zc,zs,zm,zf,y,T.D,T.O,λo a k v w D R=>b o a k v (T.go w R) D,λo a k w=>O o a k%Q3 w)
abbrev C7:aS:=IF 15
abbrev xv:aS:=IF 16
abbrev xw:aS:=IF 17
abbrev xx:aS:=IF 18
abbrev xy:aS:=IF 19
abbrev xA:aS:=IF 20
abbrev xB:aS:=IF 21
abbrev xC:aS:=IF 22
abbrev xD:aS:=IF 23
def kj(CR i s m:aa)(n:Nat)(b:WI%Ib bo)(z:Iu->Ib bo->Im (dB × Ib bo))(c:Ib V):Sp:=λC H Q Z=>∃F f r tl a all u t A j os,C= Ia f::c/\At CR i F H F H f r tl a IH u t A j os/\d0 IH/\A<=30/\30 - A<n/\b u/\(∀x G W d v,z A u=J (x,G,)->t+Ld<=60->At CR i F H W d f r tl a IH G (t+Ld) A (j||OW)%dU os R3->dS s W v x->Q v d)/\((∀x G,z A u=J (x,G,)->60<t+Ld)->∀W d,Go F H W d%M3 f r a->Z (Ia m) I d)
def At.good(T:At f u g G σ Γ W ο zd zq δ Ψ q Z zc zs)(a:d0 δ):d0 Ψ:=by let ((X,k,_,_,e),_):=T.D.rd;rw [e];show CU a k
def df(g:d0 δ)(b:Nat)(W:b∈iF:=by decide):(hd δ).1=eI b↔cu b δ=ag:=by rw [←acQ g W,cU]
def k4(g:d0 δ):(hd δ).1=Nq↔hE ed δ=ag:=_bD CV g
def qc(g:d0 δ):(hd δ).1=IL↔hE fA δ=ag:=_bD amh g
def r3(g:d0 δ)(x:aL)(N:x∈([ml,nv,ny]:Ib aL):=by decide):(hd δ).1=a! x↔sJ x δ=ag:=by rw [←amj g N,cU]
theorem qd(g:kJ zp)(h:Ts=ag):(eb zp).2= Iv%a! OU:=_b5 (oz h) (eb zp=iB OU) _AB (j1 OU=ay)
def C8(h:U6=1):eb zp=((ZM IL,Iz%YV OU,):K1):=by unfold eb;rw [aA h]
def C9(n:Nat):(agT n).bb=1:=_BN
def C_:agU.bb=1:=_BN
def r4(p:Nat)(x:aL):(Hm p x).bb=1:=_BN
def hc(o:e6)(l:Ib dB):(mm o l).bb=1+dC l:=_BN
def amT(n:Nat):(agT n).b4=ay:=_AI
def amU:agU.b4=ag:=_AI
def ac1(p:Nat)(x:aL):(Hm p x).b4=ay:=_AI
def uv(o:e6)(l:Ib dB):(mm o l).b4=e' l:=_AI
def amV(n:Nat):Wl (agT n).ce:=_BO
def amW:Wl agU.ce:=_BO
def ac2(p:Nat)(x:aL):(Hm p x).ce= [(p,x,)]:=_BO
def uw(o:e6)(l:Ib dB):(mm o l).ce=e1 l:=_BO
structure RC(P:aP)(w:World)(K:aE)(S:ai->Im ah)(base:aO)(CR i s m:aa):Ir where
 tr:TR K CR
 td:TD K i
 next:eu P w K S Jp aB 1 CR _AD L0%uk CR
 sees:eu P w K S Jp aB 2 CR Q2 [IG,I?]%m_ CR
 take:eu P w K S Jp (bp P w) 3 CR Qp [IG,I?]%l9 CR m
 kk:eu P w K S Jp aB 3 CR Tt [IG,I?]%qa CR
 enter:eu P w K S Jp (bp P w) 2 i _BK L0%xl i m
 leave:eu P w K S Jp aB 1 i _AE L0%um i
 part:eu P w K S Jp (bp P w) 3 i J! [IG,I?,Kq,KZ]%qb i s m
 occ:eu P w K S Jp (bp P w) 4 i N? [IG,JC,I2]%xn CR i s m
 need:ID P w K S Jp (bp P w) 1 LU Ml%hD m
theorem ac3:a0 [LE,IL] J7%aR xB:=(y,y,y,Ie,y,Ie,Ie)
theorem amX(F:aW r Tx Tx xB zd Q)(R:RC l p r D A f u W ο):aJ l p r D A (bp l p) 5 zd Q J7%kj f u W ο q (λb=>hE fA b=ag) pA []:=by show N! ac3 (Wr m (F,c,n,tl,ζ,all,b,η,i,j,os,rfl,_)) λυ T E φ H C m Z L h=>?_;let (F,c,n,tl,ζ,all,b,η,i,j,os,rfl,T,γ,χ,ψ,θ,s,O):=h;show (_,ao (WJ ac3.nd (aH y)%b5 (aC (pv 0) y) Jm KH (Jh Il) bw%ae cn aj)%ao (bA (b9%b5 (aC (pv 0) y) Jm Ps (Jh Il) aK%ae cn aj) (ax%aI%b5 (pv 0) Mb R.occ L bw%ae (pv 1)%ae (b5 (aC (pv 0) y) Jm KH (Jh Il) bw%ae cn aj) aj) bM)%ax%aI%b5 (pv 0) Mb Ty (Jh Il) bw%ae cn%ae (pv 1)%ae (bZ aj) aj,?_);dsimp only [bz,b?,bU,cc,tB,bX,cx];cases b with|nil=>cases θ|cons t o=>let ω:=LF γ t cA;let ι:Kg=1:=du.R θ;let κ:=C8 ι;show kZ T (gr T Mc%gv y) gc Il (YX μ M) λδ=>a' (by rw [kX,κ]) δ;rw [kX,κ];let A1:At f u F H F M c n tl ζ IH o η i j os:=A1;let N:=rv i t o;rw [aA ι] at N;show uu A1 (gr A1 Mc%gv y) gc Il (Zf μ Γ) Qz;{show (_,y,bu ?_);rw [aA%(df (LG γ) 46).R μ] at N;let (ν,ξ):=A2.D.obj;show (_,y,c,ν,_,y,ξ,y,_,y,?_);show kZ A2 (gr A2 Mc%gv y) gc Il (XB ε B A3) Qz;{cases X:o.Q 1 with|nil=>rw [X] at ε;show a' ε Il|cons α z=>rw [X] at N A3 ε;let π:kJ α:=(Q5 γ) α (by rw [X];show cA);let k:α.cu=ag:=(Zc k4 α z (by rw [←X];show Q5 γ)).R ε;(let N:pA i (t::o)=J (.occ (hs Jj) α.ah,z,):=Io);let ρ:(hd (α::z)).2= Iv%a! α.ah:=qd π k;change xn f u W ο [Ia c, Id%YV Jj,(hd (α::z)).2] B m Z;rw [ρ];show ac0 A3 (λβ a d v A4 w=>s _ _ a d v N (by rw [r4];show β) _Fw w) λβ a d g=>O Mi a d g;rw [N] at e;cases e;rw [r4];show β};{show O Mi _ _ A2.g;rw [N] at e;cases X:o.Q 1 with|nil=>cbv|cons α z=>rw [X] at e δ;let e:(Ww α.cu (J (Hm (hs Jj) α.ah,z,)) I)=J (x,G,):=e;by_cases k:α.cu=ag;{show a' (Ws (Zc k4 α z (by rw [←X];show Q5 γ)) k) δ};{cbv}}};{show (_,y,bt ?_);rw [au λz=>δ%WC%df (LG γ) 46] at N;show acZ A1 (gv y) gc (gv y) (λβ a d x σ P A2 w τ V=>s _ _ a d _ N (by rw [C9];show β) (by rw [C9,amT,jy,amV];show A2) ?_) λβ a d g=>O Mi a d g;{unfold dS;lk};{rw [N] at e;cases e;rw [C9];show β}}
theorem xE{f:Jc}(E:Ib dB->f)(d:f->f->f)(g:dB->f)(z:f)(F:E []=z)(D:∀x l,E (x::l)=d (g x)%E l)(c:∀a,d z a=a)(N:∀a b j,d (d a b) j=d a%d b j):∀l m,E (l++m)=d (E l)%E m| [],m=>by rw [y',F,c]|x::l,m=>by rw [o1,D,D,xE E d g z F D c N l m,N]
def ac4:∀l m,dC (l++m)=dC l+dC m:=xE _ (·+·) lA 0 (by rw [dC]) (λx l=>by rw [dC]) Gm Gn
def amY:∀l m,e' (l++m)=(e' l||e' m):=xE _ (·||·) tj ay (by rw [e']) (λx l=>by rw [e']) Ay AG
def amZ:∀l m,e1 (l++m)=e1 l++e1 m:=xE _ (·++·) px [] (by rw [e1]) (λx l=>by rw [e1]) y' iH
def m'(x:dB):dC QA=Ld:=by rw [dC,dC];rfl
def xF(x:dB):e' QA=OW:=by rw [e',e',jy]
def xG(x:dB):e1 QA=R3:=by rw [e1,e1,fo]
theorem ac5:∀l:Ib dB,LP<=dC l| []=>cj _|x::l=>_ct (ac5 l) A6 x
def kl{e:WI%Ib bo}{z:Iu->Ib bo->Im (dB × Ib bo)}{m:aa}(T:At ο zd G σ Γ g f u zq W Ψ δ Z q zc zs)(l:d0 Ψ)(F:q<=30)(o:30 - q<zm)(L:e δ)(c:IA R E g%Ia f) (d:∀x b a k v,z q δ=J (x,b,)->Z+Ld<=60->At ο zd G σ a k f u zq W Ψ b (Z+Ld) q (zc||OW)%dU zs R3->Go Γ g a k%M3 f u W->dS z0 a v x->ε v k) (O:(∀x b,z q δ=J (x,b,)->60<Z+Ld)->∀a k,Go G σ a k%M3 f u W->τ (Ia m) I k):fc (kj ο zd z0 m zm e z []) [] τ (bP R bY) E g ε:=c _ (Γ,f,u,zq,W,Ψ,δ,Z,q,zc,zs,y, R4 T.D T.O,l,F,o,L,λx b a k v D N V S=>d x b a k v D N (V.D,V.O,Q3 V.g) V.g S,λh a k w=>O h a k%Q3 w)
theorem h_(c:IA Ξ E g%Ia f)(b:g f=J%Ig α)(h:R E g λv n=>∃w,n f=J%Ig w/\w.a<bJ/\ε IK%ak n f%Ig%XE w): p4 r JT p5 Ξ (bP R bY) E g ε:=by show c _%Wt%Ik (y,_,Iw b);change R E g λv n=>p5 (Ia f) Kv n ε;(let e:(λv n=>p5 (Ia f) Kv n ε)=λv n=>∃w,n f=J%Ig w/\w.a<bJ/\ε IK%ak n f%Ig%XE w:=by funext v n;show propext%Wt ?_;{rintro ⟨i,w,A,D,d,a,T,W⟩;cbv};{rintro ⟨w,a,T,W⟩;show (f,w,v,y,y,a,T,W)});rw [e];show h
abbrev qe(CR i s m:aa)(n:Nat):Sp:=kj CR i s m n _A? pE []
abbrev spS(CR i s m:aa)(n:Nat):Sp:=kj CR i s m n _A? pS []
theorem ac6:a0 [LE,Tz,KZ] [LE,Tz]%aR xD:=(y,y,y,Ie,y,Ie,Ie)
def C'(CR i s m:aa)(n:Nat):Sp:=λC H Q Z=>∃F f r tl e all u t A g os j,C= [Ia f, Iv%eI j]/\At CR i F H F H f r tl e IH u t A g os/\d0 IH/\A<=30/\30 - A<n+1/\(j=41∨j=93)/\(∀L G W d l X,A+1<=30->pL (A+1) j u=J (L,G,)->t+dC L<=60->At CR i F H W d f r tl e IH G (t+dC L) A (g||e' L)%dU os%e1 L->H l=I->d l=J%Ig X->W l=I->cV s W X L->Q (Ia l) d)/\((A+1<=30->∀L G,pL (A+1) j u=J (L,G,)->60<t+dC L)->∀W d,Go F H W d%M3 f r e->Z (Ia m) I d)
theorem am0(zk:aW r R5 R5 xD zd Q)(R:RC l p r D A f u W ο)(zl:5<=Z)(B:ID l p r D A (bp l p) Z Pt J7%qe f u W ο q): aJ l p r D A (bp l p) (Z+1) zd Q [LE,Tz] (C' f u W ο q):=by show zk.dZ ac6 (Xh E φ (F,c,k,tl,ζ,all,i,t,b,ε,os,j,rfl,_)) λzJ Ξ zK zL H C E φ L h=>?_;let (F,c,k,tl,ζ,all,i,t,b,ε,os,j,rfl,Ξ,μ,zM,o,Φ,υ,O):=h;let v:=Jh zl;show (_,ao (bI%jL (pv 0) Mb _BP (J1 Il) bw)%ao (Wq ac6.nd (aH y)%bZ aj)%ao (bA (eN%b9%b5 (aC (pv 0) y) Jm TB (J1 Il) aK%ae (pv 1) aj) (ao (bI%ea d9 fw fX fg (pv 2)%ae (aM B L y bw%ae (pv 0) aj) aj)%ax%iU hC (b9%b5 (aC (pv 0) y) Jm Ps (J1 Il) aK%ae cn aj)%ax%bI%ea d9 fw fX fg (pv 2)%ae (aM B L y bw%ae (pv 0) aj) aj) bM)%ao (bI%b5 (aC (pv 0) y) Jm KH (J1 Il) bw%ae (pv 1) aj)%ao (bI%jL (pv 0) Mb _BQ (J1 Il) aK)%ax%aI%pv 2,?_);dsimp only [bz,b?,bU,cc,tB,bX,cx,dq,eA];show xt Ξ (gv y) (YX ρ M)%WP ρ g%O (λz=>a' z ρ) _ _ g;show (cj _,W8 V);let A2:=Y2 A1.an [] V;let P:H a=I:=_BR _ V;(let σ:j∈iF:=by rcases Φ with z|z<;>(subst z;decide));let zm:ZF (eI j):=(oy j σ).2.2.2.2.2.2;(let zn:j≠44:=Ih);(let zo:WZ tl:=by let (_,zN,T,_):=A1.D.rd;lk);(let Ψ:∀α d G e X,At f u F H α d c k tl ζ IH G (t+dC e) (b+1) (ε||e' e)%dU os%e1 e->d a=J%Ig X->α a=I->cV W α X e->pL (b+1) j i=(eS j G).ag (λC=>J (e,C,))->fe f Qp (l9 f ο) [] φ (cy r (bH 0) Kr) (bP (bH 1) bY) [J%Ia c,J%Iv%eI j,J%Ia a] d%Wv M%fe u _AE (um u) [] E0 (bH 0) bY [J%Ia c,J%Iv%eI j,J%Ia a] M%Wv n%bH 2 [J%Ia c,J%Iv%eI j,J%Ia a] n E:=by intro α d G e X A3 γ ξ ν η;show kZ A3 (gr A3 Mc%gv y) (gv y) zm (Wj δ zO A4 zp) λχ=>O (Wj _ zq C δ) _ _ R6;{let θ:=(df (Q6 μ) j σ).R δ;(let zr:pL (b+1) j i=J (e,G.Q 1,):=by rw [η];unfold eS;rw [aA θ];rfl);show xu A4 (gv y) λψ A5 ω=>(_,y,?_);let ((Ω,za,s,_),_):=A3.D.rd;let (zs,Γ):=A4.D.obj;let T:=zp _ _ γ%dh γ s KY;show υ e _ α ψ a X ρ zr A5.D.top A5 P (ω _ _ T%dh T Γ KY) ξ ν};{rw [η] at δ;unfold eS at δ;rw [au λz=>χ%WC%df (Q6 μ) j σ] at δ;cases δ});(let more:∀{Δ:VK} α d G e X,At f u F H α d c k tl ζ IH G (t+dC e) (b+1) (ε||e' e)%dU os%e1 e->d a=J%Ig X->α a=I->cV W α X e->pL (b+1) j i=(mK (b+1) j G).ag (λβ=>J (e++β.1,β.2,))->(∀ι n C x τ,L'<JY->At f u F H ι n c k tl ζ IH C (t+dC Rr) (b+1) (ε||e' Rr)%dU os%e1 Rr->n a=J%Ig τ->ι a=I->cV W ι τ Rr->pL (b+1) j i=(pT (b+1) j C).ag (λβ=>J (Rr++β.1,β.2,))->Δ IK n)->p4 r JT p5 (bH 2) (bP (fc (qe f u W ο q) [] φ%bP (bH 0) bY) bY) [J%Ia c,J%Iv%eI j,J%Ia a] d Δ:=by intro Δ α d G e X A3 γ ξ ν η zt;show h_ (gv y) γ%kl A3 μ ρ Ih fO (gv y) (λx C ι n zu zb zP A4 Θ N=>?_) λN ι n g=>O (Wj _ zq C δ) ι n g;{(let zv:¬ M3 c k ζ a:=by let (zs,Γ):=A3.D.obj;let ((Ω,za,s,_),_):=A3.D.rd;rintro (z|z|z);{cbv};{cbv};{show dh γ A3.D.occ KY z});let κ:=Θ.ad _ _ γ zv;let π:=Θ.off ξ γ κ IZ;(let w:t+dC e+Ld=t+dC Rr:=by rw [ac4,m'];lia);(let m:(ε||e' e||OW)=(ε||e' Rr):=by rw [amY,xF,AG]);(let zw:dU (dU os%e1 e) R3=dU os%e1 Rr:=by rw [amZ,xG,xm]);rw [w,m,zw] at A4;show (X,κ,?_,zt ι _ C x (X++ [zu]) (v3 zb) (A4.other κ P π zo) ar π (cV.snoc N%ν.u Θ.ext) ?_);{have:=ac5 e;have:=ν.len;have:=A3.D.top;show ec Ih};{rw [η,H?,zb,cO,nW];lk}};{rw [η,H?,nW,cB] at δ;let ((β,zx),w,m):=δ;have:=N β zx w;rw [nW,cB] at m;let (z,_,m):=m;cases m;rw [ac4,dC];dsimp only;lia});let zc:=LG μ;let S:∀G,d0 G->((hd G).1=eI j↔cu j G=ag):=λG g=>df g j σ;show xr A2 (gr A2 Mc%gv y) (gv y) (_,y,?_);by_cases θ:cu j i=ag;{rw [b8%Ws (S i zc) θ];show bt%Ψ F _ i [] [] ?_ ar (b1 A1.O.y V) IR ?_;{have:At f u F H F (ak M a%Ig []) c k tl ζ IH i t (b+1) ε os:=A2;rw [dC,e',e1,jy];show this};{rw [H7,aA θ];unfold eS;rw [aA θ];rfl}};{rw [bD λz=>θ%(S i zc).R z];show bu%S4 F _ i [] [] ?_ ar (b1 A1.O.y V) IR ?_ λzy zQ G x X _ A3 γ ξ ν η=>?_;{have:At f u F H F (ak M a%Ig []) c k tl ζ IH i t (b+1) ε os:=A2;rw [dC,e',e1,jy];show this};{rw [H7,au θ];cases mK (b+1) j i<;>rfl};show (λze zf d=>∃G α e X,zf= [J%Ia c,J%Iv%eI j,J%Ia a]/\ze=JY/\At f u F H α d c k tl ζ IH G (t+dC e) (b+1) (ε||e' e)%dU os%e1 e/\d a=J%Ig X/\α a=I/\cV W α X e/\pL (b+1) j i=(pT (b+1) j G).ag (λβ=>J (e++β.1,β.2,)),(_,G,zy, QA,X,y,y,A3,γ,ξ,ν,η),?_);rintro ze zf d ⟨G,α,e,X,rfl,rfl,A4,κ,π,zg,zh⟩;show uu A4 (gr A4 Mc%gv y) gc Il (λδ ψ A5 ω=>(_,y,bu ?_)) λχ=>(_,y,bt ?_);{let zi:=(df (TC μ) 44).R δ;let ((Ω,za,s,_),_):=A4.D.rd;let zz:=ω _ _ κ%dh κ s KY;show (λzj d=>∃C α e X,L'<JY/\zj= [J%Ia c,J%Iv%eI j,J%Ia a]/\At f u F H α d c k tl ζ IH C (t+dC e) (b+1) (ε||e' e)%dU os%e1 e/\d a=J%Ig X/\α a=I/\cV W α X e/\pL (b+1) j i=(pT (b+1) j C).ag (λβ=>J (e++β.1,β.2,)),WP zj (C,α,e,X,zA,zB,zC) (_,zA,C,α,e,X,zB,y,zC),?_);show S4 α ψ (G.Q 1) e X A5 zz π zg ?_ λzD zR C β τ zS zE zF zG zH zI=>(C,zD,_,τ,?_,y,zE,zF,zG,zH,zI);{rw [zh,ah5 zn zi]};{have:=e!%hW zi;lia}};{show Ψ α d G e X A4 κ π zg ?_;rw [zh,ah6 λz=>χ%WC%df (TC μ) 44,nW];lk}}
def l_(P:aP)(w:World)(K:aE)(S:ai->Im ah)(x:ai)(j:Ib KJ):Ir:=∃a,S x=J%Ia a/\g? P w K a j
def k6{S:ai->Im ah}(h:J9 L=J%Ia f)(a:Gl j L)(hd:MY=ay:=by decide):PE j (JU L κ)%tC%Ia f:=mZ a h (YY (Ia f) _) hd
def ux:Ib KJ:=Vaatta.CALLS.o λj=>(Iy%a! j.1, Id%Xj j.2,)
theorem ac7{f:Jc}(E:f->KJ)(p:QE)(k:be)(h:∀a,p a=aT ((E a).1=k)):∀l:Ib f,cS (JZ E) k=(l.cd p).o (λa=>(E a).2)| []=>y|a::l=>by let c:=ac7 E p k h l;unfold cS at c ⊢;lk
def C!(g:aL):cS ux%Iy%a! g=(oV g).o (λj=>Iz%Xj j):=by unfold ux oV;rw [ac7 (λj:aL × XQ e6=>((Iy%a! j.1, Id%Xj j.2,):KJ)) (λj=>j.1==g) _ Ny,sV];{rfl};{rw [e_,du,cU];constructor;{intro e;rw [e]};{intro e;injection e with e;show h9 e}}
theorem am1{j:XQ e6}(h:oV zf=J j):gU j.1=a! zf:=by (let B:∀j∈Vaatta.CALLS,gU j.2.1=a! j.1:=Ie);unfold oV at h;rw [en] at h;lk
theorem C?:a0 [LE,I2,KZ] J7%aR xC:=(y,y,y,Ie,y,Ie,Ie)
theorem am2(ψ:aW r TF TF xC zd Q)(R:RC l p r D A f u W ο)(ω:5<=q)(V:D Kp=I)(Γ:l_ l p r D _DZ ux) (Δ:ID l p r D A (bp l p) q R5 [LE,Tz]%C' f u W ο Z): aJ l p r D A (bp l p) (q+1) zd Q J7 (kj f u W ο (Z+1) (λi=>hE ed i=ag) pA []):=by show ψ.dZ C? (Xh E Θ (F,c,k,tl,δ,all,i,β,a,j,os,rfl,_)) λzn T zo zp H C E Θ w h=>?_;let (F,c,k,tl,δ,all,i,β,a,j,os,rfl,T,γ,Ξ,Φ,ε,π,O):=h;let (zq,ρ,σ):=Γ;let v:=w.u ω;show (_,ao (WJ C?.nd (aH y)%b5 (aC (pv 0) y) Jm KH (J1 Il) bw%ae cn aj)%ao (bA (eN%b9%b5 (aC (pv 0) y) Jm Ps (J1 Il) aK%ae cn aj) (ax%aI%b5 (pv 0) Mb R.occ (J1 Il) bw%ae aF%ae (pv 1) aj) bM)%ao (bI%aM R.gk (J1 Il) y bw%ae (n'%Cn σ (pv 1)%Ym ρ) aj)%ao (Wq C?.nd (aH y)%aM Δ w y bw%ae (pv 0)%ae cn aj)%ao (bI%aM R.gk (J1 Il) y bw%ae (n'%jF (cz dr I5 V c!%ae (pv 2) aj)%p_ σ (Ym ρ) (pv 1) IB) aj)%ax%aI%b5 (pv 0) Mb Ty (J1 Il) bw%ae (pv 1)%ae aF%ae (pv 2) aj,?_);dsimp only [bz,b?,bU,cc,tB,bX,cx,dq,eA];cases i with|nil=>cases ε|cons t o=>let Ψ:=LF γ t cA;let ζ:Mo=ag:=ε;let zr:=oz ζ;let N:=rv a t o;rw [au Ih,aA ζ] at N;show kZ T (gr T Mc%gv y) gc Il (YX τ Ω) λη=>a' (Ws (k4%LF γ) ε) η;let za:(hd (t::o)).2= Iv%a! Jj:=qd Ψ ζ;rw [za];let A1:At f u F H F Ω c k tl δ IH o β a j os:=A1;show uu A1 (gr A1 Mc%gv y) gc Il (λτ zs A2 _=>(_,y,bt ?_)) λη=>(_,y,bu ?_);{rw [aA%(df (LG γ) 40).R τ] at N;show (_,y, Iy%a! Jj,y,_,y,We b,We b);{rw [C!,qO,kx] at b;let ((υ,M),α):=b;rw [α] at N;let N:pA a (t::o)=YZ (nu<=a) I (pL (a+1) 41%o.Q 1).ag%Yp x (I6).a M (J (LO υ I6,IY,)) I:=N;let zb:=am1 α;show (_,y,F,c,k,tl,δ,IH,o.Q 1,β,a,j,os,41,y, R4 A2.D A2.O,γ,Ξ,Φ, Ik y,λL G n θ B X ι zc zt A3 P φ ze d=>?_,Wj h n θ g);{rw [au%ZI (30<=a),zc] at N;let N:pA a (t::o)=Wz I0 M (J (LO υ L,G,)) I:=N;let A3:At f u F H n θ c k tl δ IH G (β+dC L) a (j||e' L) (dU os%e1 L):=(A3.D,A3.O,A2.g.q R6);show (_,y,B,X,y, Ik%Iw φ,_,y, Iy%a! Jj, Id%Wa M,y,by rw [C!,α];rfl,_,_,y,y,_,y,We b,λb=>O (YJ χ) _ _ R6);{(let zf:I0=M:=_cf%cw b);rw [aA zf] at N;show amS A3 (gv y) (gv y) gc (gv y) (_BS _ P) φ ze (λzg κ μ x zh A4 s zi zj=>π _ _ κ μ _ N ?_ ?_ ?_) λzg κ μ g=>O (YJ χ) κ μ g;{rw [hc];lia};{rw [hc,uv,uw,Xo (β+(1+dC L)) (β+dC L+1)];show A4};{unfold dS;show (x,zh,B,X,y,by rw [zb];show s,zi,d.u zj)};{rw [N] at e;cases e;rw [hc];lia}};{rw [N,au λz=>_cf%dY b] at e;cases e}};{show O (YJ χ) n θ%A2.g.q g;by_cases ι:30<=a;{rw [N,aA (show nu<=a from ι)] at e;cases e};{rw [N,au%_ab (nu<=a),cB] at e;let ((L,C),S,m):=e;have:=h Ih L C S;dsimp only at m;split at m;{cases m;rw [hc];lia};{cases m}}}};{show O Mi _ _ A2.g;rw [C!,qO] at b;cbv}};{rw [au λz=>η%WC%df (LG γ) 40] at N;let (zk,zl):=A1.D.obj;show (_,y,c,zk,_,y,zl,y,_,y,?_);show ac0 (zm:=0) A1 (λα ν ξ zm A4 s=>π _ _ ν ξ zm N (by rw [r4];show α) _Fw s) λα ν ξ g=>O Mi ν ξ g;rw [N] at e;cases e;rw [r4];show α}
theorem Dc:a0 [LE,Kr,"inside"] J7%aR xA:=(y,y,y,Ie,y,Ie,Ie)
theorem am3(Ψ:aW r TH TH xA zd Q)(R:RC l p r D A u f W ο)(Ω:5<=q) (za:ID l p r D A (bp l p) q Tx J7%kj u f W ο (Z+1) (λb=>hE fA b=ag) pA []) (zb:ID l p r D A (bp l p) q TF J7%kj u f W ο (Z+1) (λb=>hE ed b=ag) pA []) (zc:ID l p r D A (bp l p) q R5 [LE,Tz]%C' u f W ο Z) (P:ID l p r D A (bp l p) q Pt J7%qe u f W ο Z): aJ l p r D A (bp l p) (q+1) zd Q J7 (kj u f W ο (Z+1) _A? pA []):=by show Ψ.dZ Dc (Xh S ze (F,c,k,tl,η,all,b,α,a,j,os,rfl,_)) λzr T zs Ξ H C S ze ν h=>?_;let (F,c,k,tl,η,all,b,α,a,j,os,rfl,T,δ,ρ,σ,zt,ξ,O):=h;let v:=ν.u Ω;show (_,ao (WJ Dc.nd (aH y)%aC (pv 0) y)%ao (bA (b9%b5 (pv 1) Jm TB (J1 Il) aK%ae cn aj) (ax%aI%aM za ν y bw%ae (pv 0) aj) bM)%ao (bA (b9%b5 (pv 1) Jm TB (J1 Il) aK%ae cn aj) (ax%aI%aM zb ν y bw%ae (pv 0) aj) bM)%ao (bA (b9%b5 (pv 1) Jm Ps (J1 Il) aK%ae cn aj) (ao (cf (pv 0) kP y)%ax%aI%b5 (pv 0) Mb Ty (J1 Il) bw%ae cn%ae aF%ae (bZ aj) aj) bM)%ao (bA (b9%b5 (pv 1) Jm Ps (J1 Il) aK%ae cn aj) (ax%aI%b5 (pv 0) Mb Ty (J1 Il) bw%ae cn%ae aF%ae (aM zc ν y bw%ae (pv 0)%ae cn aj) aj) bM)%ao (bI%b5 (pv 1) Jm KH (J1 Il) bw%ae cn aj)%ao (bI%jL (pv 0) Mb _BP (J1 Il) bw)%ao (Wq Dc.nd (aH y)%aM P ν y bw%ae (pv 0) aj)%ao (bI%b5 (pv 1) Jm KH (J1 Il) bw%ae cn aj)%ao (bI%jL (pv 0) Mb _BQ (J1 Il) aK)%ax%aI%pv 2,?_);dsimp only [bz,b?,bU,cc,tB,bX,cx,dq,eA];let g:=LF δ;show gr T Mc (gv y) _ ?_;show xr T (gv y) gc (_,y,cF (We τ)%We θ);{show kl T δ ρ σ ((qc g).R%cw τ) (gv y) (λx G ε d n m ζ V _ υ=>ξ x G ε d n m ζ V υ) O};let θ:¬ hE fA b=ag:=λz=>θ%b8%WC%qc g;show xr T (gv y) gc (_,y,cF (We τ)%We ι);{show kl T δ ρ σ ((k4 g).R%cw τ) (gv y) (λx G ε d n m ζ V _ υ=>ξ x G ε d n m ζ V υ) O};let ι:¬ hE ed b=ag:=λz=>ι%b8%WC%k4 g;show uu T (gv y) gc Il (λe M A1 _=>(_,y,bu ?_)) λs=>(_,y,bt ?_);{let β:=(df g 35).R e;cases b with|nil=>cases β|cons t o=>let γ:Ll 35=ag:=β;let N:=rv a t o;rw [au λz=>θ%_BT z,au%_ab (Mo=ag),aA γ] at N;let (X,φ):=A1.D.obj;show (_,y,c,f,X,_,y,φ,Mb,R.td.nU,(Yq 5),?_);let A2:At u f F H F (ak M c%Iq f X%fD k η α a ag) c k tl η IH o α a ag os:=A1.xp ar (ZP zu x e zf%aq zf) (bj _) A1.D.top;show acZ A2 (gv y) gc gc (λχ ε d x ψ E A3 m ζ V=>ξ _ _ ε d _ N (by rw [C_];show χ) (by rw [C_,amU,agM,amW];show A3) ?_) λχ ε d g=>O Mi ε d g;{unfold dS;lk};{rw [N] at e;cases e;rw [C_];show χ}};let s:¬ cu 35 b=ag:=λz=>s%WC%df g 35;show uu T (gv y) gc Il (λe M A1 _=>(_,y,bu ?_)) λω=>(_,y,bt ?_);{let β:=(df g 91).R e;cases b with|nil=>cases β|cons t o=>let γ:Ll 91=ag:=β;let w:¬ Ll 40=ag:=λz=>a' (A0 (ψ:=t::o) (q:=91) (Z:=40) γ z) Il;let N:=rv a t o;rw [au λz=>θ%_BT z,au%_ab (Mo=ag),au%_aj (¬ Ll 35=ag),au w,aA γ] at N;let (X,φ):=A1.D.obj;show (_,y,c,X,_,y,φ,y,_,y,F,c,k,tl,η,IH,o,α,a,j,os,93,y, R4 A1.D A1.O,δ,ρ,σ, Iy y,λL G i κ E zg μ Γ Φ A3 zh zi zj zk=>?_,Wj h i κ g);{rw [au%ZI (30<=a),Γ] at N;let N:pA a (t::o)=J (LO Js L,G,):=N;let A3:At u f F H i κ c k tl η IH G (α+dC L) a (j||e' L) (dU os%e1 L):=(A3.D,A3.O,A1.g.q R6);show xq A3 (_BR _ zh) zi zj (λzl zm π x ψ A4 m ζ V=>ξ _ _ zm π _ N ?_ ?_ ?_) λzl π g=>O (YJ zn) i π g;{rw [hc];lia};{rw [hc,uv,uw,Xo (α+(1+dC L)) (α+dC L+1)];show A4};{unfold dS;show (x,ψ,E,zg,y,m,ζ,zk.u V)};{rw [N] at e;cases e;rw [hc];lia}};{show O (YJ zn) i κ%A1.g.q g;by_cases μ:30<=a;{rw [N,aA (show nu<=a from μ)] at e;cases e};{rw [N,au (show ¬ nu<=a from μ),cB] at e;let ((L,C),Δ,B):=e;have:=h Ih L C Δ;cases B;rw [hc];dsimp only;lia}}};let ω:¬ cu 91 b=ag:=λz=>ω%WC%df g 91;show kZ T (gv y) gc Il (YX e M) λΘ=>O Mi _ _ T.g;{let β:=(df g 40).R e;cases b with|nil=>cases β|cons t o=>let γ:Ll 40=ag:=β;let N:=rv a t o;rw [au λz=>θ%_BT z,au%_ab (Mo=ag),au%_aj (¬ Ll 35=ag),aA γ] at N;let A1:At u f F H F M c k tl η IH o α a j os:=A1;show xt A1 (gv y) (Zf μ zv)%WP μ g%O Mi _ _ g;{rw [au%ZI (30<=a)] at N;show kl A2 δ μ Ih fO (gv y) (λx G i κ n Γ Φ A3 zw zo=>?_) λh i κ g=>O Mi i κ g;{rw [Γ] at N;let N:pA a (t::o)=(eS 41 G).ag (λΞ=>J (x,Ξ,)):=N;show kZ A3 (gv y) gc Il (XB e π A4) λΘ=>O Mi _ _ R6;{let w:=(df (Q6 δ) 41).R e;unfold eS at N;rw [aA w] at N;show xu A4 (gv y) (λzp A5 _=>(_,y,ξ x _ i zp n N Φ A5 zo))};{rw [N] at e;unfold eS at e;rw [au λz=>Θ%WC%df (Q6 δ) 41] at e;cases e}};{rw [N,cB] at e;let ((zq,C),Δ,B):=e;rw [cB] at B;cbv}};{rw [N,aA%ZL (30<=a)] at e;cases e}};{cases b with|nil=>rw [ah0] at e;cases e|cons t o=>let γ:¬ Ll 40=ag:=λz=>Θ%WC%df g 40;rw [rv,au λz=>θ%_BT z,au%_ab (Mo=ag),au%_aj (¬ Ll 35=ag),au γ,au (show ¬ Ll 91=ag from ω)] at e;cases e}
def uy(j:TA)(c:L2.St)(H:Hp)(C:Ib V):Ir:=∀k,k C H->j c H k
def oA:uy bY E g []:=λk q=>q
def gV(h:IA R E g ζ)(P:uy zo E g α):uy (bP R zo) E g (ζ::α):=λk q=>h _%P _ q
def gm{k:be}(h:IA R E g%kV k)(e:cS zB k=J ζ):IA (acG zB R) E g ζ:=λK q=>h _ (k,ζ,y,e,q)
def Dd{C:L2.TE}{p:aa}(T:At zd u G σ Γ g f W p ο δ Ψ q Z zc zs)(c:IA R E g%Ia f)(n:IA Ξ E g%Iv L)(d:IA C E g ζ)(e:uy zo E g α)(i:W1 I8) (j:q+1<=60->∀a F x z l,At zd u G σ a F f W p ο δ Ψ (q+1) Z zc zs->a x=J%Iq zq z%fP L ζ l->a l=J%Ig α->(∀γ o,Γ γ=J o->a γ=J o)->ε (Ia x) F) (O:60<q+1->∀a F,Go G σ a F%M3 f W ο->τ (Ia z0) I F): fe u J! (qb u zq z0) [] τ R (bP Ξ%bP C%bP (iv zo) bY) E g ε:=by let (X,h):=T.D.obj;show c _ (f,X,_,y,h,y,n _%d _%e _ (An%ec i,Wb l b));show xq (Y2 T.an α b) (U9 _ b) ar (b1 Q4 b) (λβ a F x z k D m η=>j β a F x z l k D m η) λβ F w=>O β Γ F w
def r5:Ib KJ:= [(Iy "-", Iv Tv,),(Iy "!", Iv "!",)]
theorem am4(D:L≠"-")(R:L≠"!"):cS r5%Iy L=I:=by unfold cS r5;lk
theorem xH:a0 [LE,"sign","argument"] J7%aR xy:=(y,y,y,Ie,y,Ie,Ie)
theorem am5(w:aW r Q7 Q7 xy zd Q)(R:RC l p r D A f u W ο)(ρ:5<=q)(σ:l_ l p r D _D0 r5) (τ:ID l p r D A (bp l p) q TH J7%kj f u W ο (Z+1) _A? pA []) (S:ID l p r D A (bp l p) q Q7 J7%spS f u W ο Z): aJ l p r D A (bp l p) (q+1) zd Q J7 (spS f u W ο (Z+1)):=by show w.dZ xH (Xh B υ (F,φ,χ,tl,ψ,all,α,t,b,j,os,rfl,_)) λzc T P ze H C B υ L h=>?_;let (F,φ,χ,tl,ψ,all,α,t,b,j,os,rfl,T,ε,ω,o,zf,k,O):=h;let (zg,μ,ν):=σ;let v:=Jh ρ;show (_,ao (WJ xH.nd (aH y)%jL (aC (pv 0) y) Jm _BU (J1 Il) aK)%ao (bA (eh%alK ν (pv 1)%Ym μ) (ax%aI%aM τ L y bw%ae (pv 0) aj) bM)%ao (bI%b5 (aC (pv 0) y) Jm KH (J1 Il) bw%ae (pv 1) aj)%ao (bI%jL (pv 0) Mb _BP (J1 Il) bw)%ao (Wq xH.nd (aH y)%aM S L y bw%ae (pv 0) aj)%ao (bI%jL (pv 0) Mb _BQ (J1 Il) aK)%ax%aI%b5 (pv 0) Mb Ty (J1 Il) bw%ae (p_ ν (Ym μ) (pv 1) IB)%ae aF%ae (bZ%ae (pv 2) aj) aj,?_);dsimp only [bz,b?,bU,cc,tB,bX,cx,dq,eA];let g:=LF ε;let ζ:=df g 45;let η:=df g 33;let a:=ahZ b α;show ur T (gr T Mc%gv y) (_,y, Iy (hd α).1,y,_,y,?_);by_cases β:cu 45 α=ag∨cu 33 α=ag;{rw [aA _Fx] at a;(obtain ⟨δ,d,c,Γ⟩:∃δ,(Ww (cu 45 α) Vaatta.Op.neg Vaatta.Op.not)=δ/\cS r5%Iy (hd α).1=J%Iv%gU δ/\ZF (hd α).1:=by by_cases γ:cu 45 α=ag;{show (.neg,aA γ,by rw [ζ.mpr γ];rfl,by rw [ζ.mpr γ];decide)};{let ξ:=β.dz γ;show (.not,au γ,by rw [η.mpr ξ];rfl,by rw [η.mpr ξ];decide)});rw [d] at a;rw [c];show bt ?_;show kZ T (gr T Mc%gv y) (gv y) Γ (YX _ M) λΔ=>a' y Δ;show xt A1 (gv y) (Zf m zh) λm n g=>O Mi _ _ g;{rw [au%ZI (30<=b)] at a;show kl A2 ε m Ih fO (gv y) (λx G π s θ E zi A3 zj N=>?_) λh π s g=>O Mi π s g;{rw [E] at a;let a:pS b α=J (LO δ QA,G,):=a;show xu A3 (gv y)%Wd zk A4 zl;show Dd A4 (gv y) (gm (gv y) c) gc (gV (gv y) oA) Io (λΘ X ι Ξ Φ Ψ A5 i κ V=>k _ _ X ι _ a ?_ ?_ ?_) λΘ X ι g=>O Mi X ι g;{rw [hc,m'];lia};{rw [hc,uv,uw,m',xF,xG,Xo (t+(1+Ld)) (t+Ld+1)];show A5};{unfold dS;show (Ξ,Φ,Ψ, [θ],y,i,κ, I1 (N.u V) IR)};{rw [a] at e;cases e;rw [hc,m'];lia}};{rw [a,cB] at e;let ((Ω,C),d,c):=e;cases c;have:=h Ω C d;rw [hc,m'];dsimp only;lia}};{rw [a,aA%ZL (30<=b)] at e;cases e}};{rw [au _Fx] at a;rw [am4 (λz=>β%Ik%ζ.R z) λz=>β%Iy%η.R z];show bu ?_;show kl T ε ω o fO (gv y) (λx G za n θ i κ V _ zb=>k x G za n θ (a.q i) κ V zb) (λh=>O λx G e=>h x G%a.J.q e)}
theorem ac8{o f:Nat}(D:1<=o)(W:o<=5):∀(n:Nat) {u G:Ib bo} {x z:dB},I3<n->pM o f x u=J (z,G,)->Ld<=z.bb|0,_,_,_,_,h,_=>a' h%Gy _|n+1,u,G,x,z,h,e=>by rw [AZ f x u D W] at e;cases S:lz o u with|none=>cbv|some a=>rw [S] at e;dsimp only at e;rw [cB] at e;let ((A,C),p,Z):=e;let V:=v5 p;let hd:=e!%vY S;(let d:Ld<=(mm a [x,A]).bb:=by rw [hc,dC];lia);dsimp only at Z;split at Z;{cases Z;show d};{show d8 d%ac8 D W n Ih Z}
theorem xI{f lo:Nat}(D:1<=lo):∀{l:Nat} {u G:Ib bo} {x z:dB},l<=5->pC f lo l x u=J (z,G,)->Ld<=z.bb|0,u,G,x,z,_,e=>by rw [pC] at e;cbv|h+1,u,G,x,z,W,e=>by rw [pC] at e;split at e;{cbv};{rw [cB] at e;let ((A,C),p,Z):=e;show d8 (ac8 Ih W _ (qS _) p)%xI D Ih Z}
def uz:Ib KJ:=Vaatta.SIGNOPS.o λs=>(Iy%eI Kf, Id%Wa Pc,)
theorem ac9{f:Jc}(E:f->KJ)(p:QE)(k:be):∀l:Ib f,(∀a∈l,p a=aT ((E a).1=k))->cS (JZ E) k=(l.cd p).o (λa=>(E a).2)| [],_=>y|a::l,h=>by let c:=ac9 E p k l λb W=>h b%cL _ W;unfold cS at c ⊢;lk
theorem ac_:∀s∈sM,Kf∈iF/\gU (JS).2=eI Kf:=Ie
theorem De(g:d0 δ):(cS uz%Iy (hd δ).1).az%Id 0= Id%W6 il δ:=by unfold uz il kI;rw [ac9 (λs:_aR e6=>((Iy%eI Kf, Id%Wa Pc,):KJ)) (λs=>cu Kf δ) _ _%Wb s P];{cases Vaatta.SIGNOPS.cd (λs=>cu s.1 δ)<;>rfl};{have:=df g Kf (ac_ s P).1;lk}
theorem l':a0 [LE,R7,Nr,"highest","rank","sign","right"] [LE,R7]%aR xx:=(y,y,y,Ie,y,Ie,Ie)
def xJ(CR i s m:aa)(n lo:Nat):Sp:=λC H Q Z=>∃e:Nat,lo<=e/\1<=e/\e<=6/\kj CR i s m n _A? (pB e) [Id e] C H Q Z
theorem am6(zh:aW r Q8 Q8 xx zd Q)(R:RC l p r D A f u W ο)(zi:5<=q)(zj:l_ l p r D "RANKS" uz)(zk:cQ D _Fy 5)(gC:cQ D _Fz 3) (S:ID l p r D A (bp l p) q Q7 J7%spS f u W ο Z) (zl:ID l p r D A (bp l p) q Q8 [LE,R7]%xJ f u W ο Z (zm+1)): aJ l p r D A (bp l p) (q+1) zd Q [LE,R7] (xJ f u W ο Z zm):=by show zh.dZ l' (Xh υ ι (β,_,_,_,F,c,i,tl,ε,all,m,t,γ,j,os,rfl,_)) λzD T zE α H C υ ι μ h=>?_;let (β,zF,lo1,zn,F,c,i,tl,ε,all,m,t,γ,j,os,rfl,T,ζ,φ,χ,zG,zL,O):=h;let (zH,ψ,ω):=zj;let θ:=μ.u zi;show (_,ao (Wq R8 (aH y)%aM S μ y bw%ae (pv 0) aj)%ao (WK R8 (aH y)%cg zk y)%ao (Xd R8 (aH y)%acH ω (Ym ψ) (jL (aC (pv 0) y) Jm _BU (θ.u Il) aK) aF (y,y,y,y))%ao (iU hC (ajK gQ gQ (pv 1) (pv 4)%pv 3)%ao (WS 5 R8 (aH y)%jL (aC (pv 0) y) Jm _BU (θ.u Il) aK)%ao (bI%b5 (aC (pv 0) y) Jm KH (θ.u Il) bw%ae (pv 5) aj)%ao (WS 6 R8 (aH y)%aM zl μ y bw%ae (pv 0)%ae (d? jd (pv 4) aF) aj)%ao (Wq R8 (aH y)%b5 (pv 0) Mb Ty (θ.u Il) bw%ae (pv 5)%ae aF%ae (bZ%ae (pv 2)%ae (pv 6) aj) aj)%ao (WK R8 (aH y)%l0 (eh%jF (pv 4)%cg gC y) (d? kS (pv 4) aF)%pv 4)%ax%Xd R8 (aH y)%acH ω (Ym ψ) (jL (aC (pv 0) y) Jm _BU (θ.u Il) aK) aF (y,y,y,y))%ax%aI%pv 2,?_);dsimp only [bz,b?,bU,cc,tB,bX,cx,dq,eA,hy,tO];let o:=ah3 γ m (lo:=β) lo1 zn;show kl T ζ φ χ fO (gv y) (λx G w M v n Γ A1 zo N=>?_) λh w M g=>O (W' z G) w M g;rotate_left;{rw [o,cB] at e;let ((a,C),n,B):=e;have:=h a C n;have:=xI lo1 (bj _) B;lk};rw [n] at o;let o:pB β γ m=pC γ β 5 x G:=o;show ur A1 (gr A1 Mc%gv y) (Iy (hd G).1,y,?_);rw [De%LG ζ];show (λΔ Θ κ=>∃G x d b v η L,Θ= [J%Ia c,J%Id%Wa β,J v,J%Id Ol,J%Id%W6 il G,η,L]/\Δ=JY/\b<=5/\At f u F H d κ c i tl ε IH G (t+Ld) γ (j||OW)%dU os R3/\dS W d v x/\pB β γ m=pC γ β b x G,(_,G,x,w,5,v,_,_,y,y,bj _,A1,N,o),?_);clear A1 N o n Γ zo;rintro Δ Θ Ξ ⟨G,x,Φ,b,v,η,L,rfl,rfl,Ψ,A2,N,o⟩;let zp:=Q5 ζ;let Ω:(il G<β∨b<il G)->υ v Ξ:=λh=>zL x G Φ Ξ v (by rw [o];show H! lo1 x h Ψ) A2.D.top A2 N;show (_,y,_,y,_,_,y,y,_,y,cF (λδ=>(_,y,_,_,y,y,_,y,cF (We k) λk=>(_,y,Ω%Iy ?_))) λδ=>(_,y,bt (_,y,Ω%Ik ?_)));{(let δ:β<=il G:=Io);(let k:il G<=b:=Yx k);(obtain ⟨α,ν⟩:∃α,kI G=J α:=by cases zq:kI G with|none=>unfold il at δ;cbv|some α=>show (α,y));(let zr:il G=(Oh).1:=by unfold il;rw [ν];rfl);let (zI,zs,za,zt):=ah4 ν;let (zb,sK):=ac_ α zt;let zc:=Ws (df zp SW zb) za;rw [zr] at δ k ⊢;rw [H_ ν lo1 δ x k Ψ] at o;show (λP κ=>∃C a d b v η L,L'<JY/\P= [J%Ia c,J%Id%Wa β,J v,J%Id Ol,J%Id%W6 il C,η,L]/\b<=5/\At f u F H d κ c i tl ε IH C (t+a.bb) γ (j||a.b4)%dU os a.ce/\dS W d v a/\pB β γ m=pC γ β b a C,λP κ (C,a,d,b,v,η,L,ξ,E,V)=>(_,ξ,C,a,d,b,v,η,L,E,y,V),?_);show ur A2 (gr A2 Mc%gv y) ?_;rw [zc];show kZ A2 (gr A2 Mc%gv y) (gv y) ((oy SW zb).2.2.2.2.2.2) (XB _ zJ A3) λzu=>a' zc zu;show (_,y,_,y,_,_,y,y,(Oh).1+1,Ih,Ih,Ih,Φ,c,i,tl,ε,IH,G.Q 1,_,γ,_,_,y, R4 A3.D A3.O,ζ,φ,χ,fO,λa C π ρ zK ze Γ A4 zv=>?_,λh π ρ g=>O (W' z zw) π ρ%A3.g.q g);{rw [ze] at o;let o:pB β γ m=pC γ β (Wz (Oh).1 3 2 (Oh).1) (LO (Oh).2 [x,a]) C:=o;let zx:At f u F H π ρ c i tl ε IH C (t+Ld+a.bb) γ (j||OW||a.b4) (dU (dU os R3) a.ce):=(A4.D,A4.O,A3.g.q A4.g);let zy:=N.u A4.g.ext;(let zz:(mm (Oh).2 [x,a]).bb=1+(Ld+a.bb):=by rw [hc,dC,m']);show Dd zx (gv y) (gv y) gc (gV (gv y)%gV (gv y) oA) Io (λzA X σ z zB zC A5 ξ E V=>?_) λzA X σ g=>O (W' z zw) X σ g;{(let zf:dS W X (Ia z) (LO (Oh).2 [x,a]):=by unfold dS;show (z,zB,zC,_,y,by rw [sK];show ξ,E, I1 (zy.u V)%I1 (zv.u V) IR));(let A5:At f u F H X σ c i tl ε IH C (t+(mm (Oh).2 [x,a]).bb) γ (j||(mm (Oh).2 [x,a]).b4) (dU os (mm (Oh).2 [x,a]).ce):=by rw [zz,uv,uw,e',xF,e1,xG,xm,Xo (t+(1+(Ld+a.bb))) (t+Ld+a.bb+1),←AG];show A5);(let zg:L'<JY:=by have:=v5 ze;lk);show (_,y,_,_,y,y,_,y,cF (λτ=>(_,y,_,_,y,y,?_)) λτ=>(_,y,?_));{(let s:(Oh).1=3:=IZ);rw [aA s] at o;show ur A5 (gr A5 Mc%gv y) (Iy (hd C).1,y,?_);rw [De%U_ ζ,s];show (C,_,X,2,_,_,_,zg,y,Il,A5,zf,o)};{let s:¬ (Oh).1=3:=λz=>τ%b8 (by rw [z];rfl);rw [au s] at o;show ur A5 (gr A5 Mc%gv y) (Iy (hd C).1,y,?_);rw [De%U_ ζ];show (C,_,X,(Oh).1,_,_,_,zg,y,zs,A5,zf,o)}};{rw [o] at e;have:=xI lo1 _FA e;lia}};{rw [o,cB] at e;let ((a,C),n,B):=e;have:=h a C n;have:=xI lo1 _FA B;rw [hc,dC,m'] at this;lk}};{cbv};{cbv}
def iY(K:aE)(S:ai->Im ah)(x:ai)(st:aS)(u:Ib ai):Ir:=∃E B,S x=J%Ia E/\kz K%Ia E=ag/\MN K B u []/\aW K x x st E B
def iY.fn(G:iY r D L zA π)(h:∀f Q,aW r L L zA f Q->aJ l p r D A zG q f Q π zt):ID l p r D A zG q L π zt:=let (f,Q,a,R,V,T):=G;(f,Q,a,R,V,h f Q T)
theorem xK:a0 [LE,"asked","taken","other"] J7%aR xw:=(y,y,y,Ie,y,Ie,Ie)
theorem am7(ξ:aW r TJ TJ xw zd Q)(R:RC l p r D A f u W ο)(w:5<=q)(n:ID l p r D A (bp l p) q Pt J7%qe f u W ο Z): aJ l p r D A (bp l p) (q+1) zd Q J7 (kj f u W ο (Z+1) (λi=>sJ ml i=ag) pE []):=by show ξ.dZ xK (Xh B π (F,ρ,σ,tl,τ,all,i,t,k,j,os,rfl,_)) λP T ze zf H C B π L h=>?_;let (F,ρ,σ,tl,τ,all,i,t,k,j,os,rfl,T,α,zg,zh,η,υ,O):=h;let v:=Jh w;show (_,ao (bI%b5 (aC (pv 0) y) Jm KH (J1 Il) bw%ae cn aj)%ao (bI%jL (pv 0) Mb _BP (J1 Il) bw)%ao (WJ xK.nd (aH y)%aM n L y bw%ae (pv 0) aj)%ao (bI%b5 (aC (pv 0) y) Jm KH (J1 Il) bw%ae cn aj)%ao (Wq xK.nd (aH y)%aM n L y bw%ae (pv 0) aj)%ao (bI%b5 (aC (pv 0) y) Jm KH (J1 Il) bw%ae cn aj)%ao (WK xK.nd (aH y)%aM n L y bw%ae (pv 0) aj)%ao (bI%jL (pv 0) Mb _BQ (J1 Il) aK)%ax%aI%b5 (pv 0) Mb Ty (J1 Il) bw%ae cn%ae aF%ae (bZ%ae (pv 1)%ae (pv 2)%ae (pv 3) aj) aj,?_);dsimp only [bz,b?,bU,cc,tB,bX,cx,dq,eA];let M:=H6 k i;rw [aA η] at M;show kZ T (gr T Mc%gv y) gc Il (YX _ zi) λγ=>a' (Ws (r3 (LF α) ml) η) γ;show xt A1 (gv y) (Zf m zj) λm zk g=>O Mi _ _ g;rotate_left;{rw [M,aA%ZL (30<=k)] at e;cases e};rw [au%ZI (30<=k)] at M;show kl A2 α m Ih fO (gv y) (λβ θ c d zl b ι A3 zm φ=>?_) λh c d g=>O Mi c d g;rotate_left;{rw [M,cB] at e;let ((δ,C),b,a):=e;have:=h δ C b;simp only [cB] at a;let (_,_,zn,_,_,_,z,_,a):=a;cases a;rw [hc,dC];lia};rw [b,cO] at M;show kZ A3 (gr A3 Mc%gv y) gc Il (XB s zo A4) λγ=>O Mi _ _ R6;rotate_left;{rw [M] at e;unfold eW at e;rw [au λz=>γ%WC%r3 (Q6 α) nv] at e;cases e};rw [W? (eW nv (β,θ,).2=J%θ.Q 1)%(r3 (Q6 α) nv).R s,cO] at M;show kl A4 α m Ih fO (gv y) (λo κ X μ zp a ν A5 χ ψ=>?_) λh c d g=>O Mi c d g;rotate_left;{rw [M,cB] at e;let ((δ,C),b,a):=e;have:=h δ C b;simp only [cB] at a;let (_,_,z,_,a):=a;cases a;rw [hc,dC,dC];lia};rw [a,cO] at M;show kZ A5 (gr A5 Mc%gv y) gc Il (XB s zq ω) λγ=>O Mi _ _ A5.g;rotate_left;{rw [M] at e;unfold eW at e;rw [au λz=>γ%WC%r3 (U_ α) ny] at e;cases e};rw [W? (eW ny (o,κ,).2=J%κ.Q 1)%(r3 (U_ α) ny).R s,cO] at M;show kl ω α m Ih fO (gv y) (λε Γ zr zs zt E V Δ S N=>?_) λh c d g=>O Mi c d g;rotate_left;{rw [M,cB] at e;let ((δ,C),b,a):=e;have:=h δ C b;cases a;rw [hc,dC,dC,m'];dsimp only;lia};rw [E,cO] at M;let M:pE k i=J (LO P4 [β,o,ε],Γ,):=M;(let ζ:(mm P4 [β,o,ε]).bb=1+(β.bb+(o.bb+ε.bb)):=by rw [hc,dC,dC,m']);show xu Δ (gv y)%Wd zu Θ _;show Dd Θ (gv y) gc gc (gV (gv y)%gV (gv y)%gV (gv y) oA) Io (λΞ Φ Ψ Ω za zb zc ι ν V=>υ _ _ Φ Ψ _ M ?_ ?_ ?_) λΞ X μ g=>O Mi X μ g;{rw [ζ];lia};{rw [ζ,uv,uw,e',e',xF,e1,e1,xG,xm,xm,Xo (t+(1+(β.bb+(o.bb+ε.bb)))) (t+β.bb+o.bb+ε.bb+1),←AG,←AG];show zc};{unfold dS;show (Ω,za,zb,_,y,ι,ν, I1 ((((φ.u χ.ext).u S.ext)).u V)%I1 ((ψ.u S.ext).u V)%I1 (N.u V) IR)};{lk}
theorem ac':a0 J7 J7%aR xv:=(y,y,y,Ie,y,Ie,Ie)
theorem am8(δ:aW r Pt Pt xv zd Q)(R:RC l p r D A f u W ο)(ε:5<=q)(ζ:cQ D "LOWEST_RANK" 1) (η:ID l p r D A (bp l p) q TJ J7%kj f u W ο Z (λa=>sJ ml a=ag) pE []) (N:ID l p r D A (bp l p) q Q8 [LE,R7]%xJ f u W ο Z 1): aJ l p r D A (bp l p) (q+1) zd Q J7 (qe f u W ο Z):=by show δ.dZ ac' (Xh s w (F,k,m,tl,β,all,a,t,b,γ,os,rfl,_)) λκ T B μ H C s w L h=>?_;let (F,k,m,tl,β,all,a,t,b,γ,os,rfl,T,c,e,o,ν,n,O):=h;let θ:=Jh ε;show (_,ao (bA (b9%b5 (aC (pv 0) y) Jm TB (θ.u Il) aK%ae cn aj) (ax%aI%aM η L y bw%ae (pv 0) aj) bM)%ax%aI%aM N L y bw%ae (pv 0)%ae (cg ζ y) aj,?_);dsimp only [bz,b?,bU,cc,tB,bX,cx,dq,eA];let g:=r3 (LF c) ml;show xr T (gr T Mc%gv y) gc (_,y,cF Ny Ny);{show kl T c e o (g.R%cw j) (gv y) (λx G d S v i X V _ α=>n x G d S v i X V α) O};{(let M:pE b a=pB 1 b a:=by rw [H6,au λz=>j%b8%g.mpr z]);show (_,y,1,bj _,bj _,Il,F,k,m,tl,β,IH,a,t,b,γ,os,y,T,c,e,o,fO,λx G d S v i X V α=>n x G d S v (M.q i) X V α,λh=>O λx G ι=>h x G%M.J.q ι)}
structure ada(P:aP)(w:World)(b:aE)(a:ai->Im ah):Ir where
 whole:iY b a Pt xv J7
 uA:iY b a TJ xw J7
 ops:iY b a Q8 xx [LE,R7]
 signed:iY b a Q7 xy J7
 atom:iY b a TH xA J7
 np:iY b a Tx xB J7
 co:iY b a TF xC J7
 args:iY b a R5 xD [LE,Tz]
 len:a Kp=I
 gA:l_ P w b a _DZ ux
 gS:l_ P w b a _D0 r5
 gR:l_ P w b a "RANKS" uz
 gH:cQ a _Fy 5
 gC:cQ a _Fz 3
 gL:cQ a "LOWEST_RANK" 1
theorem adb(G:ada l p r D)(R:RC l p r D A u W ο zd):∀n:Iu,ID l p r D A (bp l p) (11*n+5) Pt J7%qe u W ο zd n/\ID l p r D A (bp l p) (11*n+5) Q7 J7%spS u W ο zd n|0=>by constructor;{show G.whole.fn (λf Q F=>N! ac' (XJ (F,b,c,tl,e,all,d,t,i,j,os,rfl,_)) (λk T s w H C a Z L h=>by let (F,b,c,tl,e,all,d,t,i,j,os,rfl,_,_,_,o,_):=h;lia))};{show G.signed.fn (λf Q F=>N! xH (XJ (F,b,c,tl,e,all,d,t,i,j,os,rfl,_)) (λk T s w H C a Z L h=>by let (F,b,c,tl,e,all,d,t,i,j,os,rfl,_,_,_,o,_):=h;lia))}|n+1=>by let (m,S):=adb G R n;(let g:5<=11*n+5:=Ih);let x:=X? G.ge.fn f Q F%am0 F R g m;let q:=X? G.co.fn f Q F%am2 F R Ih Qr G.gA x;let v:=(X? G.np.fn f Q F%amX F R (q:=n+1)).u (k:=11*n+5+1+1) Ih;let atom:=X? G.atom.fn f Q F%am3 F R (q:=11*n+5+1+1) Ih v q (x.u Ih)%m.u Ih;let signed:=X? G.signed.fn f Q F%am5 F R Ih G.gS atom%S.u Ih;(let z:∀M:Iu,M<=6->ID l p r D A (bp l p) (11*n+5+1+1+1+1+M) Q8 [LE,R7]%xJ u W ο zd (n+1) (7 - M):=by intro M;induction M with|zero=>intro _;show G.ops.fn (λf Q F=>N! l' (XJ (O,_,_,_,F,b,c,tl,e,all,d,t,i,j,os,rfl,_)) (λk T s w H C a Z L h=>by let (O,B,_,γ,_):=h;lia))|succ M V=>intro X;let N:=V Ih;rw [Xo (7 - M) (7 - (M+1)+1)] at N;show G.ops.fn λf Q F=>am6 F R (q:=11*n+5+1+1+1+1+M) Ih G.gR G.gH G.gC (signed.u Ih) N);let α:=X? G.uA.fn f Q F%am7 F R g m;let β:=X? G.whole.fn f Q F%am8 F R (q:=11*n+5+1+1+1+1+6) Ih G.gL (α.u Ih)%z 6%bj _;rw [Xo (11*(n+1)+5) (11*n+5+1+1+1+1+6+1)];show (β,signed.u Ih)
end TW
namespace L2
open PySem PySem.Spec PyProof.Rows
theorem am9(H:M_=I)(B f:aa)(R:XX B)(hd:M7= L7 zx q): Walks l p μ B [B,f] [B] NM (λi v=>∃m,Wg zx=J m/\v=Ow) (λi h=>h.g1 B f i NM q/\Kw f=J ze) where
 sub:=λb W=>by simp_all
 frame:=ZX st a ((ST).at λze e=>a B Ii ze e,a f Ii ze st.2)
 item:=λi s Q Z g st c=>by
  obtain ⟨m,N⟩:∃m,Wg zx=J m:=(zx[i],by simp [g])
  show ale ST st.2 hd y N%Z1 C F
  show c Ow C M8 (m,N,y) (d,F.e8 f ze R st.2) λb ze W e=>F.e8 b ze (λh=>W _BV) e
 done:=λs Q Z st c=>alf H ST st.2 hd y (bj _) λC z=>c C M8 λb ze W e=>z b ze (λh=>W _BV) e
 self:=λ_ _ _ _ st c=>wpAny_pyIter_keyiter ST c
theorem am_(lo:(f==ij)=ay)(N:ze.ExactDict)(hd:M7= L7 zx q): PySem.W.KdlSrc l p No f f NM (λa v=>∃m,zx[a]?=J m/\v=Ow) (λh=>Kw f=J ze) where
 type:=Wv i (ze,i,N.1)
 there:=Wv i (cZ i,cZ i)
 keep:=λ_ _ i b=>b f (Ik y) ze i
 notList:=Il
 notTuple:=Il
 hint:=λ_ _ _ _ i n=>PySem.W.kdl_hint_dict (ze,i,N.1) n
 iter:=λ_ s H i=>(_,_,(WG n%ald lo i N hd n),am9 H _ f (eF%cZ i) hd,((_,ep _ y,y,y),dz _ i))
theorem am'(m:NJ=ag):jG j (IU JT) (λL H Q=>∃a X,L= [Ia a]/\H a=J%I9 X/\∀l f,H l=I->cN (λ(r:aa) (g:List be × V)=>H r=J%IC%(Lx).o kV) f X->Q (Ia l)%ak H l%Ig%MH IP):=by intro δ s ε H L G Q B r h;let (a,X,rfl,N,q):=h;let (ζ,rfl,Z):=Tc r;cases Z;let (z,O,L,e,o,P,E,S,T,d,D,F):=(W0 (d3 IS IT H Lp a%I9 X)%Jl a _ N);(let W:P.l=I0:=by rw [←q1,D,aQ]);let α:X.a=I0:=b4 e;show PySem.W.kdl_call (am_ O T d) (ML m) S Ih λC tk v t x i k=>?_;(let f:cN (λ(r:aa) (g:List be × V)=>H r=J%IC%(Lx).o kV) (NG (·.2.1)) X:=by clear k i x α W F D q N z;induction e with|nil=>show IR|cons r η c=>show I1 r.2.1 c);(let u:v.by=(NG (·.2.1)).o b!:=by show Al%We M;rw [dX,bL,vy];by_cases w:M<v.l;{let (θ,p,β):=k.2 M v[M] (by simp [w]);rw [←vy,D,bL] at p;cases n:L[M]? with|none=>cbv|some A=>rw [n] at p;cases p;simp [w,β];rfl};{(let γ:Wm v=I:=U');(let R:Wm L=I:=by have:=k.1;simp;lia);rw [γ,R];rfl});show (Ia JR,_,RP (t':=tk) x (bj _)%W0 (d3 IS IT _ C _%Ig%(NG (·.2.1)).o IP) (U',v.by,t,?_,_DH),y,q _ _ (Nl%bj _) f);rw [u];clear f u;generalize NG (·.2.1)=l;induction l with|nil=>show IR|cons b l c=>show I1 y c
end L2
namespace TW
open PySem PySem.Spec PyProof.Rows L2
theorem ana:hT JT=J%IU JT:=Ie
def xM(F:Hp)(l:aa)(os:Ib Jo):Ir:=∃f:Ib aa,F l=J%Ig%MH IP/\cN (λ(r:aa) (o:Nat × aL)=>F r=J%IC [Id%Wa JW, Iv%a! JX]) f os
def k7(CE s:aa)(F:Hp)(v:V)(x:dB):Ir:=∃a X t l,v= Ia a/\F a=J%Iq CE X [(M!,t,),(My, Ia l,),(Mz, IJ OW,)]/\dS s F t x/\xM F l%dU [] R3
def xM.mono(h:Wh (g b=J o) (G b=J o))(p:xM g f zs):xM G f zs:=let (a,D,R):=p;(a,h _ _ D,J8 R%Xi%h _ _ z)
def k7.mono{CE s:aa}{F W:Hp}{v:V}{x:dB}(h:Wh (F b=J o) (W b=J o))(p:k7 CE s F v x):k7 CE s W v x:=let (a,X,t,l,D,R,c,T):=p;(a,X,t,l,D,h _ _ R,c.u h,T.u h)
theorem ade{f s c:Jc}{P:_aD c}{Q:O_}{g:s->c}:∀{l:Ib f} {m:Ib s},cN P l%m.o g->(∀a b,P a%g b->Q a b)->cN Q l m| [], [],_,_=> IR|_::_,_::_, .cons r t,h=> I1 (h _ _ r) (ade t h)
def oB{f:Jc}(CR m:aa)(z:Ib bo->Im (f × Ib bo))(R:Hp->XU f)(a:Ib V):Sp:=λC H Q Z=>∃F r tl all u,C= Ia r::a/\dc CR H r tl IH u/\IQ F H/\F r=I/\d0 IH/\W1 Qo/\(∀x G W d v,z u=J (x,G,)->Go F H W d (·=r)->dc CR d r tl IH G->R W v x->Q v d)/\(z u=I->∀W d,Go F H W d (·=r)->Z (Ia m) I d)
theorem Df:a0 [Kr,LE,M!] LZ%aR C7:=(y,y,y,Ie,y,Ie,Ie)
theorem anb(Δ:aW r TM TM C7 zq Q)(R:RC l p r D A W f ο zd)(Θ:D JT=I) (Ξ:gx l p r D A aB 1 "Draft" f [IG,Kr]%acW f) (j:gx l p r D A aB 1 "Expression" u [IG,M!,My,Mz]%xk u M! My Mz) (w:ID l p r D A (bp l p) 346 Pt J7%qe W f ο zd 31):aJ l p r D A (bp l p) 347 zq Q LZ%oB W zd pX (k7 u ο) []:=by show Δ.dZ Df (Xv Φ B Ψ (F,b,tl,all,d,rfl,_)) λzs T S zt H Φ B Ψ L h=>?_;let (F,b,tl,all,d,rfl,Rd,t,Ω,za,zu,q,O):=h;let ν:=Zq 5;show (_,ao (WJ Df.nd (aH y)%eC Ξ (ν.u Il) y aK%ae (pv 0) aj)%ao (Wq Df.nd (aH y)%aM w L y bw%ae (pv 1) aj)%ax%aI%eC j (ν.u Il) y aK%ae (pv 2)%ae (abT (am' y) y Θ ana%ae (aC (pv 1) y) aj)%ae (aC (pv 1) y) aj,?_);dsimp only [bz,b?,bU,bX];show (_,y,Wn γ ξ hd s zv);show (γ,ξ,b,y,ar,λM δ zb π zc E=>QC);(let G:∀k o,H k=J o->M k=J o:=λk o e=>by show zb k o ?_%aU e hd;rw [aq%aU e hd,aq%aU e s];show e);(let ρ:H δ=I:=by cases e:H δ with|none=>rfl|some o=>rw [aq%aU e hd,aq%aU e s,e] at π;cases π);let ze:hb W f M γ b tl δ IH d 0 0 ay []:=((ξ,E),Rd.h0 G,zc,bj _,Il);let σ:IQ F M:=λk o e=>G k o%t k o e;let A1:At W f F M F M γ b tl δ IH d 0 0 ay []:= R4 ze (σ,b1 t hd,Ω,b1 t ρ);let ε:Go F H F M (·=b):=(σ,Mj,λ_ _ e=> Ik e,λk o e _=>G k o e,_bW k e%H k);(let τ:∀{υ φ},Go F M υ φ%M3 γ b δ->Go F H υ φ (·=b):=λg=>(Go.q (M:=M3 γ b δ) (ε.bv%Xx k h%Ik h) g).an (λk h=>by rcases h with h|h|h;{cbv};{show Ik h};{cbv}));show kl A1 za Il Il fO (gv y) (λx χ X n v Z zw A2 _ zf=>?_) λh X n g=>O ?_ X n%τ g;{(let Z:pX d=J (x,χ,):=by unfold pX;rw [Z,cO,au%ZI (60<Ld)]);let (ψ,ζ):=A2.D.obj;show (_,y,_,y,γ,f,ψ,_,_,y,ζ,Mb,R.td.nO,y,δ,_,y,A2.D.occ,Wj a c i zg);show (_,y,γ,f,ψ,_,_,y,_aJ aq%aU ζ i,Mb,R.td.nU,y,Wn α β N η zh);show (α,β,_,_,_,y,ar,y,?_);rw [dE];let A3:=Y2 A2.an (c.o IP) i;let A4:=_aO A3.an JA α η;(let zi:ak (ak n a%Ig%c.o IP) β (JA α) α=I:=X1 zh.J);let A5:=A4.an (o:= (Iq u β [W2 M!,(My, Ia a,),(Mz, IJ (ay||OW),)])) zi;generalize θ:ak (ak (ak n a%Ig%c.o IP) β%JA α) α (Iq u β [W2 M!,(My, Ia a,),(Mz, IJ (ay||OW),)])=C at A5;let ι:WZ α:=aU (_aN (ak n a (Ig%c.o IP) a=J _)) N;let zj:WZ β:=aU (_aN (ak n a (Ig%c.o IP) a=J _)) η;(let zk:∀k o,n k=J o->C k=J o:=λk o e=>by (let κ:ak n a (Ig%c.o IP) k=J o:=_ai aq%aU e i);rw [←θ,aq%aU κ N,aq%aU κ η];show κ);(let zl:C a=J%Ig%c.o IP:=by rw [←θ,aq ι,aq zj];show ar);(let zm:C α=J%Iq u β [W2 M!,(My, Ia a,),(Mz, IJ (ay||OW),)]:=by rw [←θ];show ar);let ω:X a=I:=b1 A2.O.y i;let Γ:X α=I:=b1 A3.O.y N;let zn:=A3.g.bg α N;let (zo,μ,zp):=(((τ A5.g).cm (ε.bg _%_BS _ i) zl ω).cm (ε.bg _ zn) zm (by rw [aq ι.J];show Γ)).hu;let P:∀k o,X k=J o->jM (ak (ak X a%Ig%c.o IP) α%Iq u β [W2 M!,(My, Ia a,),(Mz, IJ (ay||OW),)]) C k=J o:=λk o e=>μ k o%Zw (aq JO) aq JO;show q x χ _ C (Ia α) Z zo A5.D.rd (α,β,v,a,y,μ _ _ (by rw [ar,Ay]),zf.u P,c,μ _ _%W5 ι,?_);have:cN (λ(b:aa) (zr:List be × V)=>n b=J%IC%zr.1.o kV) c ((dU [] R3).o hF):=zg;show ade (g:=hF) this (λb o z=>zp _ _%zk _ _ z)};{unfold pX;cases e:pE 0 d with|none=>rfl|some m=>have:=h m.1 m.2 e;rw [cO,aA%ZL (60<m.1.bb)]}
structure Ar(CR:aa)(p P F H:Hp)(r tl:aa)(all u:Ib bo):Ir where
 rd:dc CR H r tl IH u
 off:F r=I
 g:Go p P F H (·=r)
section
variable {o:HO}
def Ar.start(R:dc u G f W δ Ψ)(s:IQ g G)(E:g f=I):Ar u g G g G f W δ Ψ:=(R,E, Ls s)
def Ar.good(T:Ar f g G σ Γ u W δ Ψ)(a:d0 δ):d0 Ψ:=by let ((X,k,_,_,h),_):=T.rd;rw [h];show CU a k
theorem Ar.reader(T:Ar f G σ Γ g u W δ Ψ):∃X k,g u=J%Iq f X%fR W k:=by let ((X,k,h,_),_):=T.rd;lk
def Ar.moved(T:Ar u g G σ Γ f W δ Ψ){a:Hp}{b:Ib bo}(R:dc u a f W δ b)(k:Kz Γ a f):Ar u g G σ a f W δ b:=ZC ((X,M,h,_),_) id R (R,TQ,Q3%_AG (k,xo k h) U! y TQ)
def Ar.fresh(T:Ar f G σ Γ g u W δ Ψ)(h:g ο=I):Ar f G σ Γ (ak g ο o) u W δ Ψ:=(T.rd.h0 (λi L a=>by rw [aq%aU a h];show a),TQ,Q3%JI U! h)
theorem Ar.other(T:Ar W Γ G σ g ο u δ Ψ)(h:g f=J%Ig α)(F:G f=I)(b:σ f=I)(v:Rq):Ar W Γ G σ (ak g f%Ig z1) ο u δ Ψ:=by let ((O,k,t,a2,a3),i,a4,a5):=T.rd;let n:∀{s:aa} {o:HO},g s=J o->(∀N,o≠ Ig N)->s≠f:=λq z=>dh q h%z α;show (((O,k,by rw [aq%n t Io];show t,a2,a3),i,by rw [aq v.J];show a4,J8 a5%Ys s c z%aq%n z Io),TQ,(Wd s o q,T.g.ext,T.g.new,YL s q a,λs q=>U9 s%er (Wv q q) s q));{rw [aq JO];show U! s o q};{rw [aq%aU q F];show T.g.ad s o q a}
theorem Ar.uB(T:Ar W G σ Γ g ο f δ Ψ)(h:g u=I):u≠f:=by let (_,i,a,_):=T.rd;lk
theorem Ar.freeze(T:Ar W Γ G g σ u ο δ Ψ)(F:G f=I)(h:σ f=J o)(b:g f=I)(D:Rq):Ar W Γ G (ak g f o) σ u ο δ Ψ/\∀a L,g a=J L->ak g f o a=J L:=((TU,by rw [aq D.J];show T.off,T.g.cm F h b),λa L i=>_bC aq JO)
def Ar.hu(T:Ar f σ Γ G g u W δ Ψ):Ar f σ Γ (jM G g) g u W δ Ψ/\(∀a o,G a=J o->jM G g a=J o)/\∀a L,g a=J%IC L->jM G g a=J%IC L:=by let (D,R,V):=T.g.hu;let (X,k,h):=T.reader;show ((TU,by unfold jM;rw [TQ,h],D),R,V)
def Ar.made(T:Ar u σ Γ G g W ο δ Ψ)(N:g f=I)(M:g zd=I)(R:zd≠f):Ar u σ Γ (ak G f o) (ak (ak g zd%JA f) f o) W ο δ Ψ/\∀h L,G h=J L->ak G f o h=J L:=by let A1:=_aO T.an JA f M;(let i:ak g zd (JA f) f=I:=X1 R.J);let (X,k,a):=T.reader;show (A1.an (o:=o) i).cm (U9 _ N) ar (b1 U! N) (aU a N).J
def Dg(T:Ar u G σ Γ g f W Ψ δ)(a:IA R E g%Ia f)(n:IA Ξ E g%Iv L)(q:ε (IJ%aT ((hd δ).1=L)) g):fe u Q2 (m_ u) [] τ R (bP Ξ bY) E g ε:=Zk (X,k,h) a _ (f,X,_,y,h,y,n _ (f,W,Ψ,δ,L,y,TU,q))
def iC(T:Ar u G σ Γ g f W Ψ δ)(a:IA R E g%Ia f)(n:IA Ξ E g%Iv L)(N:SG)(q:(hd δ).1=L->∀i,Ar u G σ Γ i f W Ψ%Qn 1->Kz g i f->ε (hd δ).2 i)(O:¬ (hd δ).1=L->τ (Ia ο) I g): fe u Qp (l9 u ο) [] τ R (bP Ξ bY) E g ε:=Zk (X,k,h) a _ (f,X,_,y,h,y,n _ (f,W,Ψ,δ,L,y,TU,λD i b k=>q D i (T.gg (b (λz=>by rw [z] at D;show N D.J)) k) k,O))
def r6(T:Ar u G σ Γ g f W Ψ δ)(a:IA R E g%Ia f)(n:IA Ξ E g%Iv L)(N:SG)(q:(hd δ).1=L->∀i,Ar u G σ Γ i f W Ψ%Qn 1->Kz g i f->ε (IJ ag) i)(O:¬ (hd δ).1=L->ε (IJ ay) g): fe u Tt (qa u) [] τ R (bP Ξ bY) E g ε:=Zk (X,k,h) a _ (f,X,_,y,h,y,n _ (f,W,Ψ,δ,L,y,TU,N,λD i b k=>q D i (T.gg b k) k,O))
def Dh(T:Ar W G σ Γ g f ο δ Ψ)(i:d0 δ)(z:W1 OV)(c:IA R E g%Ia f)(n:IA Ξ E g%Iv L)(N:SG){s:WA bo}(C:∀a,d0 a->aT ((hd a).1=L)=hE s a)(A:∀t,kJ t->s t=ag->(eb t).2= Iv%a! Jj) (q:∀b v u,Ar W G σ b v f ο δ (dI s Ψ).2->b u=J%Ig%cb (dI s Ψ).1->(∀w o,Γ w=J o->b w=J o)->ε (Ia u) v):fe W _BJ (CY W) [] τ R (bP Ξ bY) E g ε:=by let (X,k,h):=T.reader;show c _ (f,X,_,y,h,y,n _ (f,ο,δ,Ψ,L,s,y,TU,i,z,N,C,A,WM v u d D V k));let (A2,e):=(T.gg d k).cm (U9 _ D) V (b1 U! D) (aU h D).J;show q _ v u A2 ar e
theorem Di{z:Ib bo->Im (zg × Ib bo)}{c:Hp->XU zg}(T:Ar u G σ Γ g f W δ Ψ)(i:d0 δ)(C:W1 OV)(d:IA R E g%Ia f) (q:∀L b a n v,z Ψ=J (L,b,)->Ar u G σ a n f W δ b->Go Γ g a n (·=f)->c a v L->ε v n) (O:z Ψ=I->∀a n,Go G σ a n (·=f)->τ (Ia ο) I n): fc (oB u ο z c []) [] τ (bP R bY) E g ε:=by show d _ (Γ,f,W,δ,Ψ,y,TU,U!,TQ,i,C,λL b a n v t w s h=>?_,λt a n w=>O t a n%Q3 w);let (X,k,F):=T.reader;let ((M,e,D,_),_):=id s;show q L b a n v t (s,w.off TQ F D Io,Q3 w) w h
end
def jN(f:aa)(O:Ib ai):Sp:=λC H Q _=>∃(x X:aa) (i:Ib V),C= Ia x::i/\i.a=I'/\H x=J%Iq f X []/\Q IK%ak H x%Iq f X%O.zip i
theorem uC(n:uy zo E g α)(b:I8=KD)(q:∀a d,g a=I->g d=I->d≠a->ε (Ia a)%ak (ak g d%JA a) a%Iq f d%Qd α):l4 f (jN f π) [] τ zo E g ε:=by show n _ λa d N M R=>(a,d,α,by rw [fo],b,ar,y,?_);rw [dE];cbv
abbrev Dj:aS:=eP (IF 47) 0
abbrev Dk:aS:=eP (IF 48) 0
abbrev Dl:aS:=eP (IF 49) 0
abbrev Dm:aS:=eP (IF 50) 0
abbrev Dn:aS:=IF 52
abbrev Dq:aS:=IF 53
abbrev Dr:aS:=IF 54
abbrev Ds:aS:=IF 55
abbrev Dt:aS:=IF 56
structure TN(K:aE)(f:aa)(O:Ib ai):Ir where
 cl:d5 K f
 no:∀n∈O,f3 K f n
structure GC where
 e:aa
 p:aa
 s:aa
 r:aa
 d:aa
 g:aa
def hG{f:Jc}(R:Hp->XU f)(F:Hp)(l:aa)(L:Ib f):Ir:=∃C,F l=J%Ig C/\cN (R F) C L
def qf(F:Hp)(v:V):WI%Im Jo|I=>v= IK|J o=>∃b,v= Ia b/\F b=J%IC [Id%Wa JW, Iv%a! JX]/\lR%a! JX=ag
def k8(j:GC)(F:Hp)(v:V)(x:i6):Ir:=∃a X t e,v= Ia a/\F a=J%Iq j.r X [(LV,t,),(Me,e,)]/\qf F t x.hj/\k7 j.e j.p F e x.dk
def f7(j:GC)(F:Hp)(v:V)(x:eo):Ir:=∃a X ld g f,v= Ia a/\F a=J%Iq j.s X [(I2, Iv%a! x.Z,),(Pu, Ia ld,),(Pw, Ia g,),(R9, Ia f,)]/\F ld=J%Ig%cb x.db/\F g=J%Ig%cb x.ups/\F f=J%Ig%cb (x.db++x.ups)
def gW(j:GC)(F:Hp)(v:V)(x:dj):Ir:=∃a X b l,v= Ia a/\F a=J%Iq j.d X [(I2, Iv%a! x.Z,),(Nr, Iv%a! x.bo.Z,),(NQ, IJ x.own,),(KQ, Ia b,),(NR, Ia l,)]/\F b=J%Ig%cb x.aa/\hG (k8 j) F l x.b3
def gy(j:GC)(F:Hp)(v:V)(x:bh):Ir:=∃a X i f,v= Ia a/\F a=J%Iq j.g X [(J?, Ia i,),(MQ, Ia f,)]/\hG (f7 j) F i x.b8/\hG (gW j) F f x.b0
end TW
variable{θ:TW.GC}
namespace TW
open PySem PySem.Spec PyProof.Rows L2
def hG.mono{R:Hp->XU zg}(F:∀ζ x,R g ζ x->R G ζ x)(h:Wh (g b=J o) (G b=J o)){L:Ib zg}(p:hG R g f L):hG R G f L:=let (C,D,c):=p;(C,h _ _ D,J8 c%Xi%F _ _ z)
theorem qf.mono(h:Wh (g b=J o) (G b=J o)):∀{t:Im Jo},qf g ζ t->qf G ζ t|I,p=>p|J _,(b,D,R,V)=>(b,D,h _ _ R,V)
def k8.mono(h:Wh (g b=J o) (G b=J o)){x:i6}(p:k8 θ g ζ x):k8 θ G ζ x:=let (c,X,t,e,D,R,V,T):=p;(c,X,t,e,D,h _ _ R,V.u h,T.u h)
def f7.mono(h:Wh (g b=J o) (G b=J o))(p:f7 θ g ζ zW):f7 θ G ζ zW:=let (c,X,ld,a,f,D,R,V,T,d):=p;(c,X,ld,a,f,D,h _ _ R,h _ _ V,h _ _ T,h _ _ d)
def gW.mono(h:Wh (g b=J o) (G b=J o)){x:dj}(p:gW θ g ζ x):gW θ G ζ x:=let (c,X,V,l,D,R,d,T):=p;(c,X,V,l,D,h _ _ R,h _ _ d,T.u (Xb h) h)
def gy.mono(h:Wh (g b=J o) (G b=J o)){x:bh}(p:gy θ g ζ x):gy θ G ζ x:=let (c,X,i,f,D,R,V,T):=p;(c,X,i,f,D,h _ _ R,V.u (Xb h) h,T.u (Xb h) h)
def qg{f:Jc}(CR m:aa)(z:Iu->Ib bo->Im (f × Ib bo))(R:Hp->XU f):Sp:=λC H Q Z=>∃h,oB CR m (z h) R [] C H Q Z
def Du{z:Iu->Ib bo->Im (zg × Ib bo)}{c:Hp->XU zg}(h:Nat)(T:Ar u G σ Γ g f ο δ Ψ)(i:d0 δ)(b:W1 OV)(j:IA R E g%Ia f) (q:∀x e a d v,z h Ψ=J (x,e,)->Ar u G σ a d f ο δ e->Go Γ g a d (·=f)->c a v x->ε v d) (O:z h Ψ=I->∀a d,Go G σ a d (·=f)->τ (Ia W) I d): fc (qg u W z c) [] τ (bP R bY) E g ε:=by have:=Di (τ:=τ) (E:=E) (R:=tC%Ia f) T i b gc q O;show j _ (h,this)
theorem adf(h:ei q=ag):q<1114112:=by unfold ei j0 ps kF dQ at h;lk
theorem Dv(g:kJ zp)(k:U6=0):lR%a! OU=ag:=by (let B:∀x∈zp.text,x<1114112:=by rcases g with ⟨D,_⟩|⟨_,_,_,b,r,e,V,L⟩|⟨D,_⟩|⟨D,_⟩;{lia};{intro x N;rw [e] at N;rcases b0.R N with z|N;{subst z;show adf (by unfold ei;rw [V];rfl)};{show adf%L x N}};{lia};{lia});unfold lR a!;cbv
def anc(g:kJ zp)(h:Ts=ag):lR%a! OU=ag:=Dv g%oz h
def qh:Ib bo->Im (Jo × Ib bo)| []=>none|t::r=>XI (Kg==1) (eS 46 r).ag (λr=>(ee ed r).ag λx=>J ((hs Jj,K0,),IY,))%Xr Mo ((0,Jj,),r,) K3
theorem ane(h:¬ zp.cv 63=ag):mM (zp::δ)=(qh (zp::δ)).ag (λx=>(eS 61 IY).ag λδ=>J (J I6,δ,)):=by unfold mM qh;dsimp only;rw [au h];by_cases k:Ts=ag;{let a:=oz k;cbv};{lk}
theorem anf:a0 [IG,LV,Me] [IG,LV,Me]%aR Dk:=(y,y,y,Ie,y,Ie,Ie)
theorem ang(F:aW r J_ _FB Dk u Q)(a:TN r f [LV,Me]):aJ l p r D A aB 1 u Q [IG,LV,Me]%jN f [LV,Me]:=by show Lg anf (Zm C H b Z h (x,X,i,rfl,e,_)) λd T c s H C b Z L h=>?_;let (x,X,i,rfl,e,N,q):=h;match i,e with| [g,j],_=>show (_,ao (cf (pv 0) (pv 1) y)%ax%cf (pv 0) (pv 2) y,?_);show (_,y,_,y,x,f,X,_,y,N,Jg,KA _ Ii,Io,?_);show (_,y,_,y,x,f,X,_,y,ar,Jg,KA _ Ii,OG,?_);rw [dE];show q
theorem anh:a0 [IG,J?,MQ] [IG,J?,MQ]%aR Dm:=(y,y,y,Ie,y,Ie,Ie)
theorem ani(F:aW r J_ _FC Dm u Q)(a:TN r f [J?,MQ]):aJ l p r D A aB 1 u Q [IG,J?,MQ]%jN f [J?,MQ]:=by show Lg anh (Zm C H b Z h (x,X,i,rfl,e,_)) λd T c s H C b Z L h=>?_;let (x,X,i,rfl,e,N,q):=h;match i,e with| [g,j],_=>show (_,ao (cf (pv 0) (pv 1) y)%ax%cf (pv 0) (pv 2) y,?_);show (_,y,_,y,x,f,X,_,y,N,Jg,KA _ Ii,Io,?_);show (_,y,_,y,x,f,X,_,y,ar,Jg,KA _ Ii,OG,?_);rw [dE];show q
theorem anj:a0 [IG,I2,Nr,NQ,KQ,NR] [IG,I2,Nr,NQ,KQ,NR]%aR Dl:=(y,y,y,Ie,y,Ie,Ie)
theorem ank(F:aW r J_ _FD Dl u Q)(a:TN r f [I2,Nr,NQ,KQ,NR]):aJ l p r D A aB 1 u Q [IG,I2,Nr,NQ,KQ,NR]%jN f [I2,Nr,NQ,KQ,NR]:=by show Lg anj (Zm C H b Z h (x,X,i,rfl,e,_)) λd T c s H C b Z L h=>?_;let (x,X,i,rfl,e,N,q):=h;match i,e with| [g,k,j,m,e],_=>show (_,ao (cf (pv 0) (pv 1) y)%ao (cf (pv 0) (pv 2) y)%ao (cf (pv 0) (pv 3) y)%ao (cf (pv 0) (pv 4) y)%ax%cf (pv 0) (pv 5) y,?_);show (_,y,_,y,x,f,X,_,y,N,Jg,KA _ Ii,Io,?_);show (_,y,_,y,x,f,X,_,y,ar,Jg,KA _ Ii,OG,?_);show (_,y,_,y,x,f,X,_,y,ar,Jg,KA _ Ii,Pb,?_);show (_,y,_,y,x,f,X,_,y,ar,Jg,KA _ Ii,SK,?_);show (_,y,_,y,x,f,X,_,y,ar,Jg,KA _ Ii,PY,?_);rw [dE,dE,dE,dE];show q
theorem anl:a0 [IG,I2,Pu,Pw] [IG,I2,Pu,Pw]%aR Dj:=(y,y,y,Ie,y,Ie,Ie)
def adg(f:aa):Sp:=λC H Q _=>∃(x X ld g:aa) (n:V) (l G:Ib V),C= [Ia x,n, Ia ld, Ia g]/\H x=J%Iq f X []/\H ld=J%Ig l/\H g=J%Ig G/\LP+JY<=8000/\∀d e,jj H d x->H e=I->d e=J%Ig (l++G)->d x=J%Iq f X [(I2,n,),(Pu, Ia ld,),(Pw, Ia g,),(R9, Ia e,)]->Q IK d
theorem anm(F:aW r J_ _FE Dj u Q)(a:TN r f [I2,Pu,Pw,R9]):aJ l p r D A aB 1 u Q [IG,I2,Pu,Pw]%adg f:=by show Lg anl (Wr w (x,X,ld,g,n,m,G,rfl,_)) λB T E s H C w Z L h=>?_;let (x,X,ld,g,n,m,G,rfl,N,hd,t,i,q):=h;show (_,ao (cf (pv 0) (pv 1) y)%ao (cf (pv 0) (pv 2) y)%ao (cf (pv 0) (pv 3) y)%ax%cf (pv 0) (d? rV (pv 2)%pv 3) y,?_);show (_,y,_,y,x,f,X,_,y,N,Jg,KA _ Ii,Io,?_);show (_,y,_,y,x,f,X,_,y,ar,Jg,KA _ Ii,OG,?_);show (_,y,_,y,x,f,X,_,y,ar,Jg,KA _ Ii,Pb,?_);rw [dE,dE];let j:W_ ld:=dh hd N KY;let k:W_ g:=dh t N KY;show (_,y,_,y,ld,g,m,G,y,y,_bo aq j,by rw [aq k];show t,d8 i Il,Wb d b);(let c:W_ d:=λz=>by rw [z,ar] at b;cases b);rw [aq c] at b;show (_,y,x,f,X,_,y,W5 c.J,Jg,KA _ Ii,SK,?_);show q _ d (XG v W,er%er%er Oj) b (W5 c) ar;rw [aq W,aq%aU e b,aq W];show e
theorem Dx:a0 [Kr,JC] LZ%aR Dt:=(y,y,y,Ie,y,Ie,Ie)
structure RG(P:aP)(w:World)(a:aE)(S:ai->Im ah)(base:aO)(CR m:aa):Ir where
 tr:TR a CR
 sees:eu P w a S Jp aB 2 CR Q2 [IG,I?]%m_ CR
 take:eu P w a S Jp (bp P w) 3 CR Qp [IG,I?]%l9 CR m
 kk:eu P w a S Jp aB 3 CR Tt [IG,I?]%qa CR
 takes:eu P w a S Jp (bp P w) 4 CR _BJ [IG,I?]%CY CR
theorem ano(P:aW r U? U? Dt W Q)(R:RG l p r D A f u):aJ l p r D A (bp l p) 4 W Q LZ%oB f u qh (λF v x=>qf F v%J x) []:=by show P.dZ Dx (Wr B (F,b,tl,all,c,rfl,_)) λγ T δ s H C B Z L h=>?_;let (F,b,tl,all,c,rfl,Rd,X,V,i,ε,q,O):=h;show (_,ao (WJ Dx.nd (aH y) aF)%ao (bA (b9%b5 (pv 0) Jm TB (Jh Il) aK%ae cn aj) (ao (WJ Dx.nd (aH y)%b5 (pv 0) Jm KH L bw%ae cn aj)%ax%bI%b5 (pv 0) Jm KH L bw%ae cn aj) bM)%ax%aI%hA%ae (pv 1)%ae (b5 (pv 0) Jm KH L bw%ae cn aj) aj,?_);dsimp only [bz,b?,bU,cc,tB,bX,cx,dq,eA];let T:=Va Rd X V;let g:=LF i;(let E:∀{d G m},Ar f F H F d b tl IH G->qh c=((ee ed G).ag λx=>J ((m,K0,),IY,))->BX (bP (bH 1)%bP (fe f Qp (l9 f u) [] Z (bH 0)%bP (tC%Iv Nq) bY) bY) [J%Ia b,J%Id OJ] d B:=by intro d G m A1 a;show (_,y,iC A1 (gv y) gc Il (Zf w n) λe=>O ?_ _ _ A1.g);{let k:=(k4%LG i).R w;cases G with|nil=>cases k|cons t o=>let k:Mo=ag:=k;rw [W? (ee ed (t::o)=J (t,o,)) k] at a;show (Nx,Wb N α);rw [Yw ((hd (t::o)).2= Iv%a! Jj) qd (LG i t cA) k];let (A3,_,β):=(_aO A2.an IC [Id OJ, Iv%a! Jj] α).hu;show q _ _ _ _ (Ia N) a R6 A3.rd (N,y,β _ _ ar,anc (LG i t cA) k)};{rw [a];cases G with|nil=>rfl|cons t o=>rw [Yy (ee ed (t::o)=I) z%e%WC%Zc k4 t o%LG i];rfl});show Dg T (gv y) gc (_,y,cF Ny Ny);{let j:=(qc g).R%cw j;show iC T (gv y) gc Il (YX w M) λe=>a' (Ws (qc g) j) e;cases c with|nil=>cases j|cons t o=>let j:(Kg==1)=ag:=j;let a:qh (t::o)=(eS 46 o).ag (λb=>(ee ed b).ag λx=>J ((hs Jj,K0,),IY,)):=aA j;rw [kX,C8%du.R j];show iC A1 (gv y) gc Il (λw n A2 _=>E A2 ?_) λe=>O ?_ _ _ A1.g;{rw [a,W? (eS 46 o=J%o.Q 1)%(df (LG i) 46).R w];rfl};{rw [a,Yy (eS 46 o=I) z%e%WC%df (LG i) 46];rfl}};{let j:¬ hE fA c=ag:=λz=>j%b8%WC%qc g;show E (m:=0) T ?_;cases c with|nil=>rfl|cons t o=>change (_bK (Kg==1)%WW Mo)=(WW Mo:Im _).ag _;rw [au (show ¬ (Kg==1)=ag from j)];split<;>rfl}
abbrev adh(h:Nat)(u:Ib bo):Im (i6 × Ib bo):=bG%nA h u
def xN(h:Nat):Ib bo->Im (eo × Ib bo)| []=>none|t::r=>XI SZ bG (nB h t r) K3
def xO(h:Nat):Ib bo->Im (dj × Ib bo)| []=>none|t::r=>XI Mo bG (nC h t r) K3
def xP(g:d0 δ):(hd δ).1=NN↔hE iG δ=ag:=_bD CW g
theorem Dy(g:kJ zp)(h:_AC=ag):(eb zp).2= Iv%a! OU:=_b5 (uh h) (eb zp=iB OU) _AB (j1 OU=ay)
def anp(T:Ar f G σ Γ g u W Ψ δ)(c:IA R E g%Ia u)(n:IA Ξ E g%Iv L)(N:SG) (q:∀(b:Bool) d,b=aT ((hd δ).1=L)->Ar f G σ Γ d u W Ψ%Ww b (Qn 1) δ->Kz g d u->ε (IJ b) d):fe f Tt (qa f) [] τ R (bP Ξ bY) E g ε:=r6 T c n N (λD d a k=>q ag d (b8 D).J a k) λh=>q ay g (bD h).J T λ_ _ e _=>e
theorem xQ:a0 [Kr,LV,Me] LZ%aR Ds:=(y,y,y,Ie,y,Ie,Ie)
theorem anq(ξ:aW r Vb Vb Ds W Q)(R:RG l p r D A f u)(ο:ID l p r D A (bp l p) 4 U? LZ%oB f u qh (λF v x=>qf F v%J x) []) (π:ID l p r D A (bp l p) 347 TM LZ%oB f u pX (k7 θ.e θ.p) []) (ρ:gx l p r D A aB 1 "Rule" Qs [IG,LV,Me]%jN Qs [LV,Me]): aJ l p r D A (bp l p) 348 W Q LZ (qg f u adh%k8 θ):=by show ξ.dZ xQ (Wr E (h,F,b,tl,all,a,rfl,_)) λω T Γ s H C E Z L h=>?_;let (σ,F,b,tl,all,a,rfl,Rd,t,V,i,η,q,O):=h;let β:=Zq 4;show (_,ao (WJ xQ.nd (aH y) iT)%ao (bA (eN%b9%b5 (pv 0) Jm Ps (β.u Il) aK%ae cn aj) (ao (WJ xQ.nd (aH y)%aM ο β y bw%ae (pv 0) aj)%ax%bI%b5 (pv 0) Jm KH (β.u Il) bw%ae cn aj) bM)%ao (Wq xQ.nd (aH y)%aM π L y bw%ae (pv 0) aj)%ao (bI%b5 (pv 0) Jm KH (β.u Il) bw%ae cn aj)%ax%aI%eC ρ (β.u Il) y aK%ae (pv 1)%ae (pv 2) aj,?_);dsimp only [bz,b?,bU,cc,tB,bX,cx,dq,eA];let T:=Va Rd t V;let g:=LF i;let c:=aah σ a;(let P:∀{γ M G v m},Ar f F H γ M b tl IH G->qf γ v m->mM a=J (m,G,)->fc (oB f u pX (k7 θ.e θ.p) []) [] Z (bP (bH 0) bY) [J%Ia b,J v,I] M (λx n=>fe f Qp (l9 f u) [] Z (bH 0) (bP (tC%Iv ";") bY) [J%Ia b,J v,J x] n%Wv S%l4 Qs (jN Qs [LV,Me]) [] E0 (bP (bH 1)%bP (bH 2) bY) [J%Ia b,J v,J x] S E):=by intro γ M G v m A1 τ w;rw [w,cO] at c;show Di A1 i η (gv y) (λx C X n ι υ A2 k N=>?_) λe B d ζ=>O Io B d ζ;rw [υ,cO] at c;show iC A2 (gv y) gc Il (XB j S A3)%WE%O ?_ _ _ A2.g;{rw [W? (eS 59 (x,C,).2=J%C.Q 1)%(df (Q5 i) 59).R j] at c;show uC (gV (gv y)%gV (gv y) oA) y%Wn κ μ φ χ α;let (A4,ν):=A3.made (o:= (Iq Qs μ [W2 LV,(Me,ι,)])) φ χ α;show q _ _ _ _ (Ia κ) c A4.g A4.rd (κ,μ,v,ι,y,ar,(τ.u U7).u ν,N.u ν)};{change bG _=I;rw [c,Yy (eS 59 (x,C,).2=I) z%α%WC%df (Q5 i) 59];rfl});show r6 T (gv y) gc Il (λj M A1 _=>(_,y,bt%P A1 (m:=I) y ?_))%WE (_,y,bu ?_);{let δ:=(df g 63).R j;cases a with|nil=>cases δ|cons ψ o=>show aA δ};{let δ:¬ cu 63 a=ag:=λz=>α%WC%df g 63;(let ε:mM a=(qh a).ag (λx=>(eS 61 IY).ag λb=>J (J I6,b,)):=by cases a with|nil=>rfl|cons ψ o=>show ane δ);show Di T i η (gv y) (λx G γ M v w A1 Δ N=>?_) λe B d ζ=>O Io B d ζ;rw [w,cO] at ε;show iC A1 (gv y) gc Il (λj n A2 _=>P A2 (m:=J x) N ?_)%WE%O ?_ _ _ A1.g;{rw [ε,W? (eS 61 (x,G,).2=J%G.Q 1)%(df (LG i) 61).R j];rfl};{change bG _=I;rw [c,ε,Yy (eS 61 (x,G,).2=I) z%α%WC%df (LG i) 61];rfl}}
theorem xR:a0 [Kr,I2,Pu,Pw] LZ%aR Dq:=(y,y,y,Ie,y,Ie,Ie)
theorem adi(p:WA bo)(u:Ib bo):(cb (dI p u).1).a<=I3:=by unfold cb;rw [aQ];have:=tF p u;lia
theorem Ar.len(T:Ar f g G σ Γ u W δ Ψ):Ψ.a<=OV:=by let ((X,k,_,_,e),_):=T.rd;rw [e,fF];lia
def m?(d:aL):Ir:=lR%a! d=ag
def Dz(s:eo):Ir:=∀n∈s.db++s.ups,m? M1
def DA(p:dj):Ir:=m? Mp/\∀n∈p.kids,m? M1
theorem xS{k:WA bo}(g:∀t,k t=ag->Kg=0):∀{u:Ib bo},d0 u->∀n∈(dI k u).1,m? M1| [],_,n,h=>On|t::r,d,n,h=>by unfold dI at h;split at h;{rename_i e;rcases b0.R h with z|z;{subst z;show Dv (d t cA)%g t e};{show xS g (λO f=>d O%cL _ f) n z}};{cases h}
theorem anr(E:aW r Vc Vc Dq W Q)(R:RG l p r D A f u)(φ:gx l p r D A aB 1 "Symbol" R_ [IG,I2,Pu,Pw]%adg R_): aJ l p r D A (bp l p) 5 W Q LZ (qg f u xN λF v x=>f7 θ F v x/\Dz x):=by show E.dZ xR (Xv χ ψ Z (h,F,b,tl,all,c,rfl,_)) λze T S zf H χ ψ Z L h=>?_;let (ζ,F,b,tl,all,c,rfl,Rd,ω,V,i,κ,q,O):=h;show (_,ao (WJ xR.nd (aH y)%b5 (pv 0) Jm KH (Jh Il) bw%ae cn aj)%ao (Wq xR.nd (aH y)%b5 (pv 0) Jm R.takes L bw%ae cn aj)%ao (bI%b5 (pv 0) Jm KH (Jh Il) bw%ae cn aj)%ao (WK xR.nd (aH y)%b5 (pv 0) Jm R.takes L bw%ae cn aj)%ao (bI%b5 (pv 0) Jm KH (Jh Il) bw%ae cn aj)%ax%aI%eC φ (Jh Il) y aK%ae (pv 1)%ae (pv 2)%ae (pv 3) aj,?_);dsimp only [bz,b?,bU,bX,dq];let T:=Va Rd ω V;show iC T (gv y) gc Il (YX a M) λγ=>O ?_ _ _ T.g;rotate_left;{cases c with|nil=>rfl|cons t β=>show au (λz=>γ%WC%Zc xP t β%LF i)};let ε:=(xP%LF i).R a;cases c with|nil=>cases ε|cons t β=>let ε:SZ=ag:=ε;let Γ:xN ζ (t::β)=bG%nB ζ t β:=aA ε;let k:=Γ.q%aai ζ t β;rw [Yw ((hd (t::β)).2= Iv%a! Jj) Dy (LF i t cA) ε];let A1:Ar f F H F M b tl IH β:=A1;show Dh A1 i κ (gv y) gc Il (λG g=>CV g) (λt g h=>qd g h)%WM X zg ld A2 μ zh;show iC A2 (gv y) gc Il (XB a zi A3) λγ=>O ?_ _ _ A2.g;rotate_left;{rw [k,Yy (eS 62 (dI ed β).2=I) z%γ%WC%df (Q5 i) 62];rfl};rw [W? (eS 62 (dI ed β).2=J _)%(df (Q5 i) 62).R a,cO] at k;let zj:=adi ed β;let zk:=A1.len;let Δ:=A3.len;generalize ((dI ed β).2).Q 1=G at k A3 Δ;let zl:=adi ed G;show Dh A3 i κ (gv y) gc Il (λG g=>CV g) (λt g h=>qd g h)%WM Θ zm ν A4 ξ ο;show iC A4 (gv y) gc Il (XB a C A5) λγ=>O ?_ _ _ A4.g;rotate_left;{rw [k,Yy (eS 59 (dI ed G).2=I) z%γ%WC%df (TC i) 59];rfl};rw [W? (eS 59 (dI ed G).2=J _)%(df (TC i) 59).R a,cO] at k;show (_,y,_,y,_,y,Wn δ d N Ξ γ);let Φ:=_AJ _ _%ο _ _ μ;let Ψ:=_AJ _ _ ξ;(let η:Xe (C α=J o) (ak (ak C d%JA δ) δ (Iq R_ d []) α=J o):=Xl%Zw (aq%aU e N) aq%aU e Ξ);show (δ,d,ld,ν,_,_,_,y,ar,η _ _ Φ,η _ _ Ψ,Ih,λj m π Ω P ρ=>QC);let w:Xe (C α=J o) (j α=J o):=Xl%π.kp α o (η α o e)%aU e N;let za:∀α,j α=I->C α=I:=WO e%er (er Oj) α%π.bg α e;let ι:=er (er Oj) m Ω;let (zn,zo,σ):=A5.reader;let zb:Ar f F H Θ j b tl IH (((dI ed G).2).Q 1):=(A5.rd.h0 w,A5.off,A5.g.q (Xl%w α o%_AJ α o e,Mj,λ_ _ e=> Ik e,λα o e _=>w α o e,za));let (zc,τ):=zb.cm (A5.g.bg _ ι) P (b1 _AJ ι) (aU σ ι).J;(let s:δ≠m:=JO);let (υ,B):=zc.cm (A5.g.bg _ N) ρ (X0 (aq s)%b1 _AJ N) (aU σ N).J;show q _ _ _ _ (Ia δ) k υ.g υ.rd ((δ,d,ld,ν,m,y,ar,B _ _%τ _ _%ο _ _ μ,B _ _%τ _ _ ξ,B _ _ ?_),λn zd=>(d7.R zd).al (xS (Wx oz) (LG i) n)%xS (Wx oz) (Q6 i) n);rw [ar];unfold cb;rw [dW]
theorem r7:a0 [Kr,I2,Nr,NQ,KQ,NR] LZ%aR Dr:=(y,y,y,Ie,y,Ie,Ie)
theorem ans(zf:aW r Vd Vd Dr W Q)(R:RG l p r D A f u)(zg:ID l p r D A (bp l p) 348 Vb LZ%qg f u adh%k8 θ) (zh:gx l p r D A aB 1 "Production" Nt [IG,I2,Nr,NQ,KQ,NR]%jN Nt [I2,Nr,NQ,KQ,NR]):aJ l p r D A (bp l p) 349 W Q LZ%qg f u xO (λF v x=>gW θ F v x/\DA x):=by show zf.dZ r7 (_aq ζ E Z (h,F,j,tl,all,ο,rfl,_)) λzD T S s ζ C E Z υ h=>?_;let (H,F,j,tl,all,ο,rfl,Rd,zi,zj,i,φ,q,O):=h;let δ:=_ar υ.u 4;show (_,ao (WJ _AK (aH y)%b5 (pv 0) Jm KH (Q9 Il) bw%ae cn aj)%ao (Wq _AK (aH y)%b5 (pv 0) Jm KH (Q9 Il) bw%ae cn aj)%ao (WK _AK (aH y)%b5 (pv 0) Jm Ps (Q9 Il) aK%ae cn aj)%ao (bI%b5 (pv 0) Jm KH (Q9 Il) bw%ae cn aj)%ao (Xd _AK (aH y)%b5 (pv 0) Jm R.takes δ bw%ae cn aj)%ao (bI%b5 (pv 0) Jm KH (Q9 Il) bw%ae cn aj)%ao (WS 5 _AK (aH y)%bZ aj)%ao (iU hC (eN%b9%b5 (pv 0) Jm Ps (Q9 Il) aK%ae cn aj)%ax%bI%ea d9 fw fX fg (pv 5)%ae (aM zg υ y bw%ae (pv 0) aj) aj)%ax%aI%eC zh (Q9 Il) y aK%ae (pv 1)%ae (pv 2)%ae (pv 3)%ae (pv 4)%ae (pv 5) aj,?_);dsimp only [bz,b?,bU,bX,dq];let T:=Va Rd zi zj;show iC T (gv y) gc Il (YX c zk) λβ=>O ?_ _ _ T.g;rotate_left;{cases ο with|nil=>rfl|cons t o=>show au (λz=>β%WC%Zc k4 t o%LF i)};let η:=(k4%LF i).R c;cases ο with|nil=>cases η|cons t o=>let η:Mo=ag:=η;let zl:xO H (t::o)=bG%nC H t o:=aA η;let k:=zl.q%aaj H t o;rw [Yw ((hd (t::o)).2= Iv%a! Jj) qd (LF i t cA) η];let A1:Ar f F ζ F zk j tl IH o:=A1;show iC A1 (gv y) gc Il (Zf c zm) λβ=>O ?_ _ _ A1.g;rotate_left;{rw [k];cases o with|nil=>rfl|cons a o=>rw [Yy (ee iG (a::o)=I) z%β%WC%Zc xP a o%LG i];rfl};let n:=(xP%LG i).R c;cases o with|nil=>cases n|cons a o=>let n:a.fq=ag:=n;rw [W? (ee iG (a::o)=J (a,o,)) n,cO] at k;rw [Yw ((hd (a::o)).2= Iv%a! a.ah) Dy (LG i a cA) n];let A2:Ar f F ζ F zm j tl IH o:=A2;show anp A2 (gv y) gc Il%Wn w zE π A3 _;let π:w=cu 35 o:=π.q%acQ (Q5 i) (q:=35) Il;rw [←π] at k;dsimp only at k;generalize (Ww w (o.Q 1) o)=G at k A3;show iC A3 (gv y) gc Il (XB c zF A4) λβ=>O ?_ _ _ R6;rotate_left;{rw [k,Yy (eS 58 G=I) z%β%WC%df (Q6 i) 58];rfl};rw [W? (eS 58 G=J _)%(df (Q6 i) 58).R c,cO] at k;generalize G.Q 1=C at k A4;show Dh A4 i φ (gv y) gc Il (λG g=>CW g) (λt g h=>Dy g h)%WM zn zG V A5 zo zH;show iC A5 (gv y) gc Il (XB c zI ι) λβ=>O ?_ _ _ A5.g;rotate_left;{rw [k,Yy (eS 123 (dI iG C).2=I) z%β%WC%df (U_ i) 123];rfl};rw [W? (eS 123 (dI iG C).2=J _)%(df (U_ i) 123).R c,cO] at k;generalize ((dI iG C).2).Q 1=X at k ι;show (cj _,Wb γ μ);let χ:=Y2 ι.an [] μ;let ψ:=ι.g.bg _ μ;let zp:=ι.uB μ;show (λω Γ d=>∃G b e α,Γ= [J%Ia j,J%Iv%a! Jj,J%Iv%a! a.ah,J%IJ w,J%Ia V,J%Ia γ]/\ω=JY/\Ar f F ζ b d j tl IH G/\d γ=J%Ig α/\b γ=I/\cN (k8 θ b) α e/\I8+JY<=Qo/\b V=J%Ig%cb (dI iG C).1/\kK H X=(kK H G).ag (λB=>J (e++B.1,B.2,)),(_,X,zn, [], [],y,y,χ,ar,b1 ι.g.y μ, IR,by have:=χ.len;simpa using this,zo,?_),?_);{cases kK H X<;>rfl};rintro ω Γ zJ ⟨G,zK,e,α,rfl,rfl,m,ε,Δ,Θ,zL,Ξ,ν⟩;let M:=aae H G;show r6 m (gv y) gc Il (λc zq ρ zr=>(_,y,bt ?_)) λβ=>(_,y,bu ?_);{rw [aA%(df (m.a7 i) 125).R c] at M;rw [M,cO] at ν;rw [ν,cO] at k;dsimp only at k;rw [fo] at k;let (zs,zt,σ):=m.reader;let Φ:γ≠j:=dh ε σ KY;let κ:=zr _ _ ε Φ;let (zu,Ψ):=ρ.cm ψ κ Δ Φ;show uC (gV (gv y)%gV (gv y)%gV (gv y)%gV (gv y)%gV (gv y) oA) y%Wn Ω za N zv β;let (zb,τ):=zu.made (o:= (Iq Nt za [(I2, Iv%a! Jj,),(Nr, Iv%a! a.ah,),(NQ, IJ w,),(KQ, Ia V,),(NR, Ia γ,)])) N zv β;show q _ _ _ _ (Ia Ω) k zb.g zb.rd ((Ω,za,V,γ,y,ar,τ _ _%Ψ _ _ Ξ,α,τ _ _ ar,J8 Θ%YO (_BW Ψ).u τ),Dv (LG i a cA)%uh n,xS (Wx uh)%TC i)};{rw [au λz=>β%WC%df (m.a7 i) 125] at M;show (λzc d=>∃L b e α,I0<JY/\zc= [J%Ia j,J%Iv%a! Jj,J%Iv%a! a.ah,J%IJ w,J%Ia V,J%Ia γ]/\Ar f F ζ b d j tl IH L/\d γ=J%Ig α/\b γ=I/\cN (k8 θ b) α e/\I8+I0<=Qo/\b V=J%Ig%cb (dI iG C).1/\kK H X=(kK H L).ag (λB=>J (e++B.1,B.2,)),WP zc (L,b,e,α,zw,zx,zy) (_,zw,L,b,e,α,zx,y,zy),?_);show h_ (gv y) ε%Du H m i φ (gv y) (λx L zz zq v zd ρ ξ zA=>?_) λzB b d zC=>O ?_ b d zC;{let P:=tH%i' zd;let (zs,zt,σ):=m.reader;let κ:=ξ.ad _ _ ε%dh ε σ KY;let ze:=ξ.off Δ ε κ Io;show (α,κ,ec Ih,L,zz,Rr,XE α,P,y,ρ.other κ ψ ze zp,ar,ze,ji (J8 Θ%Xb _BX) zA,_D1,_BX _ _ Ξ,?_);rw [ν,M,show bG%nA H G=J (x,L,) from zd,cO,nW];cbv};{cbv}}
theorem ant:∀(n p:Nat) (k:aL) (u:Ib bo),J4<=n->tk p k=J u->I3<=J4:=by intro n;induction n with|zero=>intro p k u G h;have:Wl k:=nz Ih;subst this;cases h;show bj _|succ n c=>intro p k u G h;cases k with|nil=>lk|cons b r=>simp only [cH] at G ⊢;let a1:=lT ei r;let a2:=lT dQ r;(let one:∀{q:Nat} {t:aL} {O:bo},t.a<=MZ->(tk q t).o%sN O=J u->I3<=MZ+1:=λ{q t O} V e=>by rw [en] at e;let (a,d,Z):=e;have:=c _ _ _ Ih d;rw [←Z];change Kj+1<=_;lia);rw [tD] at h;lk
theorem xT:a0 [J',Kr,J?,MQ] QF%aR Dn:=(y,y,y,Ie,y,Ie,Ie)
def iZ(g:bh):Ir:=(∀s∈g.syms,Dz s)/\∀p∈g.prods,DA p
def DB(m:aa)(j:GC):Sp:=λC H Q Z=>∃F e k,C= [Ia e]/\H e=J%Ig%cT k/\V'/\IQ F H/\(∀g W d v,lU k=J g->Go F H W d Sx->gy j W v g->iZ g->Q v d)/\(lU k=I->∀W d,Go F H W d Sx->Z (Ia m) I d)
theorem adj(j:IA R E g%Ia u)(N:g u=J%Ig%cT ω)(V:W1 Qm)(s:IQ G g) (q:∀b,tk 0 ω=J b->∀d r tl,g r=I->Ar f G g G d r tl b b->d0 b->W1 M0->(∀a o,g a=J o->d a=J o)->ε (Ia r) d) (O:tk 0 ω=I->∀d,Go G g G d Sx->τ (Ia W) I d):l4 f (uq f W) [] τ (bP R bY) E g ε:=by show j _%Wn r X L A D;(let c:∀a o,g a=J o->ak (ak g X%JA r) r (Iq f X []) a=J o:=λa o e=>Zw (aq%aU e L) aq%aU e A);(let x:∀{d},Kz (ak (ak g X%JA r) r%Iq f X []) d r->(∀a o,g a=J o->d a=J o)/\Go G g G d Sx:=λ{d} i=>by let Q:∀a o,g a=J o->d a=J o:=λa o e=>i a o (c a o e)%aU e L;show (Q,(λa o e=>Q a o%s a o e,Mj,λ_ _ e=> Ik e,λa o e _=>Q a o e,_bW a e%g a)));show (r,X,u,ω,y,ar,c _ _ N,V,λb v d tl i k=>QC,WP v i%O v d (x i).2);let (Q,C):=x i;show q b v d r tl L (k,b1 s L,C.bv Ku) (A8 _ _ _ _ (bj _) v) (d8 (ant _ _ _ _ (bj _) v) V) Q
theorem anu(zo:aW r TV TV Dn W Q)(R:RG l p r D A f u)(zp:gx l p r D A (bp l p) 6 _BY f [IG,J']%uq f u) (zq:ID l p r D A (bp l p) 5 Vc LZ%qg f u xN λF v x=>f7 θ F v x/\Dz x) (zr:ID l p r D A (bp l p) 349 Vd LZ%qg f u xO λF v x=>gW θ F v x/\DA x) (zs:gx l p r D A aB 1 "Grammar" NS [IG,J?,MQ]%jN NS [J?,MQ]):aJ l p r D A (bp l p) 350 W Q QF%DB u θ:=by show zo.dZ xT (λC ζ S Z β=>by let (F,υ,k,rfl,_):=β;rfl) λzK zL zM zN ζ C S Z zd β=>?_;let (F,υ,k,rfl,zt,φ,zu,zv,O):=β;let η:=_ar zd.u 7;show (_,ao (WJ xT.nd (aH y)%eC zp η y bw%ae (pv 0) aj)%ao (Wq xT.nd (aH y)%bZ aj)%ao (WK xT.nd (aH y)%bZ aj)%ao (iU hC (eN%b9%b5 (pv 1) Jm TB (η.u Il) aK%ae cn aj)%ax%bA (b9%b5 (pv 1) Jm TB (η.u Il) aK%ae cn aj) (ax%bI%ea d9 fw fX fg (pv 2)%ae (aM zq (η.u Il) y bw%ae (pv 1) aj) aj)%ax%bI%ea d9 fw fX fg (pv 3)%ae (aM zr zd y bw%ae (pv 1) aj) aj)%ax%aI%eC zs (η.u Il) y aK%ae (pv 2)%ae (pv 3) aj,?_);dsimp only [bz,b?,bU,bX,dq,eA,tB,cc];show adj (G:=F) (gv y) zt φ zu (λj χ zw w tl zx A1 ψ T zO=>?_)%WP χ g%O _FF F d g;(let B:lU k=iQ J4 j:=_FF);let ω:∀{a d},Go F ζ a d (·=w)->Go F ζ a d Sx:=λg=>g.an%Xx Γ β (by rw [β];show zx);show (cj _,Wb i π);let A2:=Y2 A1.an [] π;let zy:=A1.uB π;show (cj _,Wb c E);let A3:=Y2 A2.an [] E;let zz:=A2.uB E;let P:i≠c:=aU (_aN (ak zw i (Ig []) i=J _)) E;let ze:=_BR _ π;let zf:=_BS _ E;generalize zP:k.length=H at B;show (λzg zh d=>∃G a b n e α,zh= [J%Ia υ,J%Ia w,J%Ia i,J%Ia c]/\zg=JY/\Ar f F ζ a d w tl j G/\d i=J%Ig e/\a i=I/\d c=J%Ig α/\a c=I/\cN (f7 θ a) e b/\cN (gW θ a) α n/\iZ (b,n)/\e.a+I8+JY<=Lz/\iQ H j=(iQ H G).ag (λg=>J {syms:=b++QL,prods:=n++N1}),(_,j,F, [], [], [], [],y,y,A3,W5 P,b1 A1.g.y π,ar,b1 A2.g.y E, IR, IR,(_ce β,_ce β),Ii,?_),?_);{cases iQ H j<;>rfl};rintro zg zh zQ ⟨G,zR,b,n,e,α,rfl,rfl,A4,γ,Δ,m,Θ,Ξ,Φ,ι,zi,κ⟩;let q:=TC ψ;show Dg A4 (gv y) gc (_,y,?_);rw [CX q];cases G with|nil=>show bt ?_;rw [κ,A_,cO] at B;(let B:lU k=J {syms:=b,prods:=n}:=by rw [B];simp);let (zA,zB,μ):=A4.reader;let (A5,zj):=A4.cm ze γ Δ%dh γ μ KY;let (zC,Ψ):=A5.cm zf m (by rw [aq P.J];show Θ)%dh m μ KY;show uC (gV (gv y)%gV (gv y) oA) y%Wn Γ zk φ zD zE;let (zF,ρ):=zC.made (o:= (Iq NS zk [(J?, Ia i,),(MQ, Ia c,)])) φ zD zE;show zv _ _ _ (Ia Γ) B (ω zF.g) (Γ,zk,i,c,y,ar,(e,ρ _ _%Ψ _ _ ar,J8 Ξ%YO ((_BW zj).u Ψ).u ρ),(α,ρ _ _ ar,J8 Φ%YO ((_BW zj).u Ψ).u ρ)) ι|cons t o=>show bu ?_;let ν:=aag H t o;show (λzl d=>∃G a b n e α,JY<(t::o).a/\zl= [J%Ia υ,J%Ia w,J%Ia i,J%Ia c]/\Ar f F ζ a d w tl j G/\d i=J%Ig e/\a i=I/\d c=J%Ig α/\a c=I/\cN (f7 θ a) e b/\cN (gW θ a) α n/\iZ (b,n)/\e.a+I8+JY<=Lz/\iQ H j=(iQ H G).ag (λg=>J {syms:=b++QL,prods:=n++N1}),WP zl (G,a,b,n,e,α,zG,zH,V) (_,zG,G,a,b,n,e,α,zH,y,V),?_);let (zA,zB,μ):=A4.reader;let zm:i≠w:=dh γ μ KY;let zn:c≠w:=dh m μ KY;show Dg A4 (gv y) gc (_,y,?_);rw [CW q];show cF Qz Qz;{let δ:SZ=ag:=δ;rw [aA δ] at ν;let ξ:xN H (t::o)=bG%nB H t o:=aA δ;show h_ (gv y) γ%Du H A4 ψ T (gv y) (λx L X zI v M A5 h N=>?_) λΩ a d za=>O ?_ a d%ω za;{rw [ξ] at M;let zJ:=v7%i' M;let ε:=h.ad _ _ γ zm;let s:=h.ad _ _ m zn;let σ:=h.off Δ γ ε Io;let τ:=h.off Θ m s Io;simp only [cH] at zi;show (e,ε,ec Ih,L,X,_ak b,n,XE e,α,IZ,y,A5.other ε ze σ zy,ar,σ,by rw [aq P.J];show s,τ,ji (J8 Ξ _C') N.1,J8 Φ _C',(λο zb=>(d7.R zb).al (ι.1 ο) JO,ι.2),_D1,?_);rw [κ,ν,M,cO,nW];cbv};{lk}};{let δ:¬ SZ=ag:=δ;rw [au δ] at ν;(let ξ:iQ H (t::o)=(xO H (t::o)).ag (λx=>(iQ H IY).ag λg=>J {g with prods:=I6::N1}):=by rw [ν];change _=(WW Mo:Im _).ag _;split<;>rfl);show h_ (gv y) m%Du H A4 ψ T (gv y) (λx L X zI v M A5 h N=>?_) λΩ a d za=>O ?_ a d%ω za;{(let zJ:I0<o.a:=by let zc:(Ww Mo (bG%nC H t o) I)=J (x,L,):=M;split at zc;{show v8%i' zc};{cases zc});let ε:=h.ad _ _ γ zm;let s:=h.ad _ _ m zn;let σ:=h.off Δ γ ε Io;let τ:=h.off Θ m s Io;simp only [cH] at zi;show (α,s,ec Ih,L,X,b,_ak n,e,XE α,IZ,y,A5.other s zf τ zz,by rw [aq P];show ε,σ,ar,τ,J8 Ξ _C',ji (J8 Φ _C') N.1,(ι.1,λο zb=>(d7.R zb).al (ι.2 ο) JO),_D1,?_);rw [κ,ξ,M,cO,nW];cbv};{lk}}
abbrev DD:aS:=eP (IF 49) 1
abbrev DE:aS:=eP (IF 49) 2
abbrev DF:aS:=eP (IF 50) 1
abbrev DG:aS:=eP (IF 50) 2
abbrev DH:aS:=IF 51
theorem r8(r:dy q μ):RR+64<ju:=_C9
def oC:Ib V->Ib ai->ai->V|v::C,n::O,x=>Wz n x v%oC C O x|_,_,_=> IK
def anv(f:aa)(H:Hp)(v:V)(n:ai):Ir:=∃a X b,v= Ia a/\H a=J%Iq f X b/\b.B%eG I2=J%Ki n
def DI(K:aE):Sp:=λC H Q _=>∃f l X O x,C= [Ia l, Iv x]/\H l=J%Ig X/\d5 K f/\f3 K f I2/\cN (anv f H) X O/\Q (oC X O x) H
theorem adk:a0 [Px,I2,"thing"] [Px,I2]%aR DH:=(y,y,y,Ie,y,Ie,Ie)
theorem i0{f s:Jc}{R:O_}:∀{l:Ib f} {m:Ib s} {i:Nat} {d:f},cN R l m->Wg l=J d->∃e,Wg m=J e/\R d e/\l.Q i=d::l.Q (i+1)/\m.Q i=e::m.Q (i+1)|_,_,i,d, .nil,h=>Mt|_,_,0,d, .cons r t,h=>Io|_,_,i+1,d, .cons r t,h=>by let (e,D,g,V,T):=i0 t OL;cbv
theorem anw(W:aW r TX TX DH f Q):aJ l p r D A aB 1 f Q [Px,I2]%DI r:=by show Jb adk (Wr c (b,a,X,O,x,rfl,_)) λS T B s H C c Z L h=>?_;let (b,a,X,O,x,rfl,V,m,j,t,q):=h;show (_,ao (eB e0 y (et%pv 0) (Wu 2 adk.nd%aH y)%ax%bA (d4 kT (aC (pv 2) y) (pv 1)%c' _) (ax%aI%pv 2) bM)%ax%aI iT,?_);dsimp only [bz,cc,hy,bX,cx];show (_,y,a,y,(_,Iw V),hx (r:=r) (f:=a) (α:=X) (λi g d=>∃o,g= [J%Ia a,J%Iv x,o]/\d=H/\oC X O x=oC (X.Q i) (O.Q i) x) (I,y,y,y) (λi g d _ (_,_,e,_)=>_ah Iw V) ?_ ?_);{rintro i E g d u ⟨o,rfl,rfl,e⟩;let (n,G,(k,w,F,rfl,M,hf),v,R):=i0 t u;rw [v,R] at e;let e:oC X O x=Wz n x (Ia k)%oC (X.Q (i+1)) (O.Q (i+1)) x:=e;show (_,y,k,b,w,F,_,y,M,m,j,hf,_,y,y,_,y,?_);rw [BR];show cF (We N)%We N;{rw [aA%cw N] at e;show (_,y,IZ)};{rw [au λz=>N%b8 z] at e;show (_,y,y,e)}};{rintro g d ⟨o,rfl,rfl,e⟩;let hd:Wl (X.Q X.a):=vJ%bj _;rw [hd] at e;(let e:oC X O x= IK:=_Dh);rw [e] at q;show q}
theorem DJ{f:Jc}{R:XU f}{g:f->aL}{d:aL}{Q:WI V}:∀{X:Ib V} {L:Ib f},cN R X L->(∀v x,L.cd (λx=>g x==d)=J x->R v x->Q v)->(L.cd (λx=>g x==d)=I->Q IK)->Q%oC X (NG λx=>a!%g x)%a! d|_,_, .nil,_,h=>h y|_,_, .cons (a:=v) (b:=x) r t,D,h=>by change Q%Wz (a!%g x) (a! d) v _;by_cases e:g x=d;{cbv};{rw [au λz=>e%h9 z];let m:(g x==d)=ay:=UW e;show DJ t (λv A u=>D v A ?_) λu=>h ?_;{cbv};{cbv}}
theorem DK{f s d:Jc}{R:O_}{S:_aD d}{g:s->d}:∀{l:Ib f} {m:Ib s},cN R l m->(∀e i,R e i->S e%g i)->cN S l%m.o g|_,_, .nil,_=> IR|_,_, .cons r t,h=> I1 (h _ _ r) (DK t h)
structure TG(a:aE)(j:GC):Ir where
 e:TN a j.e [M!,My,Mz]
 p:TN a j.p [I?,Kq,KZ]
 s:TN a j.s [I2,Pu,Pw,R9]
 r:TN a j.r [LV,Me]
 d:TN a j.d [I2,Nr,NQ,KQ,NR]
 g:TN a j.g [J?,MQ]
def qi(j:GC):Sp:=λC H Q _=>∃F e g d,C= [Ia e, Iv%a! d]/\IQ F H/\gy j F (Ia e) g/\(∀v s,g.b8.cd (λs=>MI==d)=J s->f7 j F v s->Q v H)/\(g.b8.cd (λs=>MI==d)=I->Q IK H)
def DL(j:GC):Sp:=λC H Q _=>∃F e g d,C= [Ia e, Iv%a! d]/\IQ F H/\gy j F (Ia e) g/\(∀v s,g.b0.cd (λs=>MI==d)=J s->gW j F v s->Q v H)/\(g.b0.cd (λs=>MI==d)=I->Q IK H)
theorem anx:a0 [IG,I2] [IG,I2]%aR DF:=(y,y,y,Ie,y,Ie,Ie)
theorem anz(W:aW r R' _FG DF f Q)(u:TG r θ)(R:ID l p r D A aB 1 TX [Px,I2]%DI r):aJ l p r D A aB 2 f Q [IG,I2]%qi θ:=by show Jb anx (XJ (F,e,g,k,rfl,_)) λn T j s H C a Z L h=>?_;obtain ⟨F,e,g,k,rfl,t,⟨_,X,i,w,⟨⟩,N,⟨C,V,d⟩,_⟩,z,O⟩:=h;show (_,ax%aI%aM R L y aK%ae (aC (pv 0) y)%ae (pv 1) aj,?_);show (_,y,_,NS,X,_,_,y,t _ _ N,_BZ,u.g.no _ Ii,y,_,y,R_,i,C,_,_,y,t _ _ V,_B0,_B1 _ Ii,DK d λv x (e,X,ld,o,q,b,c,_)=>(e,X,_,b,t _ _ c,y),?_);show DJ (Q:=λv=>a v H) d (λv s m h=>z v s m h) O
theorem anA:a0 [IG,I2] [IG,I2]%aR DG:=(y,y,y,Ie,y,Ie,Ie)
theorem anB(W:aW r _B2 _FH DG f Q)(u:TG r θ)(R:ID l p r D A aB 1 TX [Px,I2]%DI r):aJ l p r D A aB 2 f Q [IG,I2]%DL θ:=by show Jb anA (XJ (F,e,g,k,rfl,_)) λo T j s H C a Z L h=>?_;obtain ⟨F,e,g,k,rfl,t,⟨_,X,i,b,⟨⟩,N,_,C,V,d⟩,z,O⟩:=h;show (_,ax%aI%aM R L y aK%ae (aC (pv 0) y)%ae (pv 1) aj,?_);show (_,y,_,NS,X,_,_,y,t _ _ N,_BZ,u.g.no _ Ii,y,_,y,Nt,b,C,_,_,y,t _ _ V,Ve,Vf _ Ii,DK d λv x (e,X,q,w,c,m,_)=>(e,X,_,c,t _ _ m,y),?_);show DJ (Q:=λv=>a v H) d (λv s n h=>z v s n h) O
theorem anC:a0 [IG,JC] [IG,JC]%aR DD:=(y,y,y,Ie,y,Ie,Ie)
def xU(j:GC):Sp:=λC H Q _=>∃F d p n,C= [Ia d, Id Jy]/\IQ F H/\gW j F (Ia d) p/\n<=Pe/\(n=0->Q (Iv%a! Mp) H)/\∀k m,n=m+1->p.aa[m]?=J k->Q (Iv%a! k.Z) H
theorem anD(W:aW r _AL _FI DD f Q)(u:TG r θ):aJ l p r D A aB 1 f Q [IG,JC]%xU θ:=by show Jb anC (WV (F,e,a,n,rfl,_)) λi T o s H C b Z q h=>?_;obtain ⟨F,e,a,n,rfl,t,⟨_,X,V,j,⟨⟩,N,g,_⟩,G,z,O⟩:=h;show (_,ao (bA (eh%jF (pv 1) aF) (ax%aI%aC (pv 0) y) bM)%ax%aI%a8 bf (aC (pv 0) y) (d? kS (pv 1) aF) IB,?_);show (_,y,_,_,y,y,_,y,cF (We d)%We d);{(let d:n=0:=Yx d);show (_,y,_,Nt,X,_,_,y,t _ _ N,Ve,Vf _ Ii,y,z d)};{let d:n≠0:=λc=>d%b8 (by rw [c];rfl);obtain ⟨m,rfl⟩:∃m,n=m+1:=Xs%Wy n;obtain ⟨k,L⟩:∃k,R![m]?=J k:=(R![m],Ii);show (_,y,_,Nt,X,_,_,y,t _ _ N,Ve,Vf _ Ii,y,_,y,_,_,y,y,V,_,_,_,y,y,Iw%t _ _ g,?_,O k m y L);rw [Xo (Wy%ZV m) OJ];show h7 ?_;unfold cb;rw [bL,L];rfl}
theorem adl:a0 [IG,LV,Vg] [IG,LV]%aR DE:=(y,y,y,Ie,y,Ie,Ie)
def k9(n:Nat)(d:aL)(e:i6):Bool:=match e.target with|J o=>JW==n && JX==d|I=>false
def DM(j:GC):Sp:=λC H Q _=>∃F e p t n d,C= [Ia e, Ia t]/\IQ F H/\gW j F (Ia e) p/\H t=J%IC [Id Jy, Iv%a! d]/\lR%a! d=ag/\(∀v f,p.b3.cd%k9 n d=J f->k7 j.e j.p F v f.dk->Q v H)/\(p.b3.cd%k9 n d=I->Q IK H)
def adm(i:Int)(h:lR L=ag):iM%N_ [Id i, Iv L]=ag:=by unfold iM;change ((ag && (lR L && ag)) && _)=ag;rw [h];rfl
theorem anE(W:aW r _B3 _FJ DE f Q)(u:TG r θ):aJ l p r D A aB 1 f Q [IG,LV]%DM θ:=by show Jb adl (Xh c μ (F,q,a,t,n,m,rfl,_)) λφ χ ψ s H C c μ L h=>?_;obtain ⟨F,q,a,t,n,m,rfl,S,⟨_,X,ω,j,⟨⟩,ν,g,C,ε,ζ⟩,v,ξ,ο,O⟩:=h;show (_,ao (eB e0 y (et%aC (pv 0) y) (Wu 2 adl.nd%aH y)%ax%bA (d4 (t5%r8 L) (aC (pv 2) y) (pv 1)%c' _) (ax%aI%aC (pv 2) y) bM)%ax%aI iT,?_);dsimp only [bz,cc,hy,bX,cx];show (_,y,_,Nt,X,_,_,y,S _ _ ν,Ve,Vf _ Ii,y,j,y,(_,Iw%S _ _ ε),hx (r:=r) (f:=j) (α:=C) (λi α d=>∃o,α= [J%Ia q,J%Ia t,o]/\d=H/\a.b3.cd%k9 n m=(a.b3.Q i).cd%k9 n m) (I,y,y,y) (λi α d _ (_,_,e,_)=>_ah Iw%S _ _ ε) ?_ ?_);{rintro i P α d π ⟨o,rfl,B,e⟩;subst B;let (δ,G,(x,Z,η,Γ,rfl,w,M,hex),Δ,ρ):=i0 ζ π;rw [ρ,fG] at e;let ι:∀b,Dp r d η b->iM b=ag->iN b%N_ [Id Jy, Iv%a! m]=k9 n m δ->_:=λb E R σ=>(W0 ((cR (ab8 r) (cy r (bH 2) LV)%bH 1) [J%Ia q,J%Ia t,J%Ia x] d λτ κ=>∃k,τ= IJ k/\Ww k (cy r (bH 2) Me [J%Ia q,J%Ia t,J%Ia x] κ c) (∃o, [J%IP q,J%IP t,J%IP x]= [J%Ia q,J%Ia t,o]/\κ=d/\a.b3.cd%k9 n m=(a.b3.Q (i+1)).cd%k9 n m)) (by show (_,y,x,Qs,Z,_,_,y,S _ _ w,u.r.cl,u.r.no _ Ii,y,_,y,b,_,E, IC (Ju v)%I1 (Id _)%I1 (Iv _) IR,R,adm _ ξ,_,y,?_);rw [σ];show cF (We N)%We N;{rw [N] at e;show (_,y,x,Qs,Z,_,_,y,S _ _ w,u.r.cl,u.r.no _ Ii,y,ο _ δ e hex)};{cbv}));cases β:δ.target with|none=>rw [β] at M;let M:η= IK:=M;subst M;show ι Ja IK y (by unfold k9;rw [β];rfl)|some γ=>rw [β] at M;let (Θ,rfl,υ,T):=M;show ι (N_ [Id%Wa γ.1, Iv%a! γ.2]) (IC (Ju%S _ _ υ)%I1 (Id _)%I1 (Iv _) IR) (adm _ T) ?_;unfold k9;rw [β];change (Wc γ.1==Jy && (a! γ.2==a! m && ag))=_;rw [vb];show congr (dR _ ?_) ?_;{lk};{rw [e_,du,du];show (λz=>h9 z,λz=>by rw [z])}};{rintro α d ⟨o,rfl,rfl,e⟩;rw [Yt (Wl%a.b3.Q L') vJ%X0 (b4 ζ)%bj _] at e;show O e}
abbrev DN:aS:=eP (IF 74) 0
abbrev DO:aS:=IF 75
abbrev DP:aS:=IF 76
abbrev DQ:aS:=IF 77
abbrev DR:aS:=IF 78
abbrev DS:aS:=IF 79
abbrev DT:aS:=IF 80
abbrev DU:aS:=IF 81
abbrev uD:aS:=IF 82
abbrev DV:aS:=IF 83
mutual
def cW(F:Hp):XU bW|v, .num n=>v= Id n|v, .list l=>∃a m o,v= Ia a/\F a=J%IC [Ia m, Id%W6 eR%Js l, Id%W6 fJ%Js l]/\F m=J%IC o/\bE F o l
def bE(F:Hp):WF (Ib V)%Ib bW| [], []=>True|v::C,x::L=>cW F v x/\bE F C L|_,_=>False
end
def eY(D:aa)(F:Hp)(v:V):WI dk| .val x=>cW F v x| .bad k=>∃a X,v= Ia a/\F a=J%Iq D X [(IL, Id%Wa k,)]
mutual
theorem cW.mono{F W:Hp}(h:Wh (F b=J o) (W b=J o)):∀{v:V} (x:bW),cW F v x->cW W v x|v, .num n,p=>by unfold cW at p ⊢;show p|v, .list l,p=>by unfold cW at p ⊢;let (a,m,c,D,R,d,T):=p;show (a,m,c,D,h _ _ R,h _ _ d,bE.u h l T)
theorem bE.mono{F W:Hp}(h:Wh (F b=J o) (W b=J o)):∀{C:Ib V} (L:Ib bW),bE F C L->bE W C L| [], [],p=>_B4|v::C,x::L,p=>by unfold bE at p ⊢;show (cW.u h x KB,bE.u h L L3)| [],_::_,p=>Qt|_::_, [],p=>Qt
end
theorem eY.mono{D:aa}{F W:Hp}{v:V}(h:Wh (F b=J o) (W b=J o)):∀{o:dk},eY D F v o->eY D W v o| .val x,p=>cW.u h x p| .bad k,(a,X,c,R)=>(a,X,c,h _ _ R)
theorem bE.len{F:Hp}:∀{C:Ib V} {L:Ib bW},bE F C L->L'=I0| [], [],_=>y|_::_,_::_,p=>by unfold bE at p;rw [cH,cH,bE.len L3]| [],_::_,p=>Qt|_::_, [],p=>Qt
structure TK(K:aE)(D:aa):Ir where
 n:TN K D Og
 c1:jt K (Ia D) "__class__"=J%J%Jf UR
 c2:axg K (Jf UR) "__get__"=J%J%Jf _EU
 c3:axh K%Jf UR=J ag
 c4:axi K D%IU _Bv=J ag
 ff:lN K (Ia D)%Ia D=J ag
 fi:lN K (Ia D)%IU Nn=J ay
 ft:lN K (Ia D)%IU KN=J ay
 uA:lN K (IU Nn)%Ia D=J ay
 ii:lN K (IU Nn)%IU Nn=J ag
 it:lN K (IU Nn)%IU KN=J ay
 tf:lN K (IU KN)%Ia D=J ay
 ti:lN K (IU KN)%IU Nn=J ay
 tt:lN K (IU KN)%IU KN=J ag
def qj:V_| .bad _=>true|_=>false
def uE:V_| .val (.num _)=>true|_=>false
def adn:V_| .val (.list _)=>true|_=>false
def iD(D:aa)(p:V_):Sp:=λC H Q _=>∃F v o,C= Kv/\IQ F H/\eY D F v o/\Q (IJ%p o) H
theorem anF:a0 Kd Kd%aR DO:=(y,y,y,Ie,y,Ie,Ie)
theorem anG:a0 Kd Kd%aR DP:=(y,y,y,Ie,y,Ie,Ie)
theorem anH:a0 Kd Kd%aR DQ:=(y,y,y,Ie,y,Ie,Ie)
theorem DW:hT RQ=J%Jf RQ:=Ie
theorem anI:hT Nn=J%IU Nn:=Ie
theorem anJ:hT KN=J%IU KN:=Ie
def anK(W:aW r Py Py DO u Q)(a:TK r f)(z:D RQ=I)(G:D "Fault"=J%Ia f):aJ l p r D A aB 1 u Q Kd%iD f qj:=by show Jb anF (WV (F,v,o,rfl,_)) λc T g s H C b Z L h=>?_;let (F,v,o,rfl,t,d,q):=h;show (_,ax%aI%cz Cp I5 z DW%ae (pv 0)%ae (mZ y G%YY (Ia f) _) aj,?_);cases o with|bad k=>let (e,X,rfl,N):=d;show (_,y,_, Ia f,_,ag,y, Iq (t _ _ N) a.n.cl a.c1 a.c2 a.c3 a.c4,a.ff,q)|val x=>cases x with|num n=>(let d:v= Id n:=_D2);subst d;show (_,y,_, Ia f,_,ay,y, Id n,a.uA,q)|list i=>unfold eY cW at d;let (e,m,j,rfl,N,_):=d;show (_,y,_, Ia f,_,ay,y, IC%t _ _ N,a.tf,q)
def anL(W:aW r Q_ Q_ DP u Q)(a:TK r f)(z:D RQ=I)(G:D Nn=I):aJ l p r D A aB 1 u Q Kd%iD f uE:=by show Jb anG (WV (F,v,o,rfl,_)) λc T g s H C b Z L h=>?_;let (F,v,o,rfl,t,d,q):=h;show (_,ax%aI%cz Cp I5 z DW%ae (pv 0)%ae (abp y G anI%YY (.ty Nn) _) aj,?_);cases o with|bad k=>let (e,X,rfl,N):=d;show (_,y,_, .ty Nn,_,ay,y, Iq (t _ _ N) a.n.cl a.c1 a.c2 a.c3 a.c4,a.fi,q)|val x=>cases x with|num n=>(let d:v= Id n:=_D2);subst d;show (_,y,_, .ty Nn,_,ag,y, Id n,a.ii,q)|list i=>unfold eY cW at d;let (e,m,j,rfl,N,_):=d;show (_,y,_, .ty Nn,_,ay,y, IC%t _ _ N,a.ti,q)
def anM(W:aW r Vh Vh DQ u Q)(a:TK r f)(z:D RQ=I)(G:D KN=I):aJ l p r D A aB 1 u Q Kd%iD f adn:=by show Jb anH (WV (F,v,o,rfl,_)) λc T g s H C b Z L h=>?_;let (F,v,o,rfl,t,d,q):=h;show (_,ax%aI%cz Cp I5 z DW%ae (pv 0)%ae (abp y G anJ%YY (.ty KN) _) aj,?_);cases o with|bad k=>let (e,X,rfl,N):=d;show (_,y,_, .ty KN,_,ay,y, Iq (t _ _ N) a.n.cl a.c1 a.c2 a.c3 a.c4,a.ft,q)|val x=>cases x with|num n=>(let d:v= Id n:=_D2);subst d;show (_,y,_, .ty KN,_,ay,y, Id n,a.it,q)|list i=>unfold eY cW at d;let (e,m,j,rfl,N,_):=d;show (_,y,_, .ty KN,_,ag,y, IC%t _ _ N,a.tt,q)
theorem anN:a0 L1 L1%aR DR:=(y,y,y,Ie,y,Ie,Ie)
def xV:Sp:=λC H Q _=>∃F v l,C= Kv/\IQ F H/\cW F v%Js l/\∀m o,F m=J%IC o->bE F o l->Q (Ia m) H
def anO(W:aW r TY TY DR f Q):aJ l p r D A aB 1 f Q L1 xV:=by show Jb anN (WV (F,v,e,rfl,_)) λc T g s H C b Z L h=>?_;let (F,v,e,rfl,t,a,q):=h;show (_,ax%aI%a8 hB (pv 0) aF IB,?_);unfold cW at a;let (d,m,o,rfl,N,i,z):=a;show (_,y,d,_,_,_,y,y,Ju%t _ _ N,y,q m o i z)
theorem anP:a0 L1 L1%aR DS:=(y,y,y,Ie,y,Ie,Ie)
theorem anQ:a0 L1 L1%aR DT:=(y,y,y,Ie,y,Ie,Ie)
def uF(n:bW->Iu):Sp:=λC H Q _=>∃F v x,C= Kv/\IQ F H/\cW F v x/\Q (Id%W6 n x) H
def anR(W:aW r Vi Vi DS f Q)(R:ID l p r D A aB 1 Q_ Kd%iD u uE):aJ l p r D A aB 2 f Q L1%uF eR:=by show Jb anP (WV (F,v,x,rfl,_)) λc T e s H C b Z L h=>?_;let (F,v,x,rfl,t,a,q):=h;show (_,ax%aI%l0 (b9%aM R L y aK%ae (pv 0) aj) aF%a8 hB (pv 0) aF IB,?_);show (_,y,F,v, LH x,y,t,a,_,y,?_);cases x with|num n=>rw [eR] at q;show bu q|list g=>unfold cW at a;let (d,m,o,rfl,N,i,z):=a;show bt (_,y,d,_,_,_,y,y,Ju%t _ _ N,y,q)
def anS(W:aW r Vj Vj DT f Q)(R:ID l p r D A aB 1 Q_ Kd%iD u uE):aJ l p r D A aB 2 f Q L1%uF fJ:=by show Jb anQ (WV (F,v,x,rfl,_)) λc T e s H C b Z L h=>?_;let (F,v,x,rfl,t,a,q):=h;show (_,ax%aI%l0 (b9%aM R L y aK%ae (pv 0) aj) aF%a8 hB (pv 0) aF IB,?_);show (_,y,F,v, LH x,y,t,a,_,y,?_);cases x with|num n=>rw [fJ] at q;show bu q|list g=>unfold cW at a;let (d,m,o,rfl,N,i,z):=a;show bt (_,y,d,_,_,_,y,y,Ju%t _ _ N,y,q)
abbrev DX:aS:=IF 108
abbrev DY:aS:=IF 109
abbrev DZ:aS:=IF 110
abbrev D0:aS:=IF 111
abbrev D1:aS:=IF 112
abbrev D2:aS:=IF 113
abbrev D3:aS:=IF 114
abbrev D4:aS:=IF 115
abbrev D5:aS:=IF 116
abbrev D6:aS:=IF 117
def dH(D:aa)(F H:Hp)(o:dk)(Q:VK):Ir:=∀W d v,Go F H W d Sx->eY D W v o->Q v d
def dH.num{D:aa}{F H:Hp}{n:Int}{Q:VK}(s:IQ F H)(h:dH D F H (LH%N0 n) Q):Q (Id n) H:=h F H _ (Ls s) (by unfold eY cW;rfl)
def dH.val{D:aa}{F H:Hp}{x:bW}{v:V}{Q:VK}(s:IQ F H)(h:dH D F H (LH x) Q)(A:cW F v x):Q v H:=h F H v (Ls s) A
theorem anT:a0 [IG,IL] [IG,IL]%aR DN:=(y,y,y,Ie,y,Ie,Ie)
theorem anU(F:aW r J_ _FK DN f Q)(a:TN r u Og):aJ l p r D A aB 1 f Q [IG,IL]%jN u Og:=by show Lg anT (Zm C H b Z h (x,X,i,rfl,e,_)) λc T g s H C b Z L h=>?_;let (x,X,i,rfl,e,N,q):=h;match i,e with| [d],_=>show (_,ax%cf (pv 0) (pv 1) y,?_);show (_,y,_,y,x,u,X,_,y,N,Jg,KA _ Ii,Io,q)
def gX(s:IQ G g)(b:IA R E g%Id Mm)(c:dH f G g (LC q) ε):l4 f (jN f Og) [] τ (bP R bY) E g ε:=by show uC (gV b oA) y%Wn a d N M i;(let j:ak g d (JA a) a=I:=X1 i.J);let r:Go G g G (ak (ak g d%JA a) a%Iq f d [(IL, Id Mm,)]) Sx:=(M? s M).q%M? (λh o e=>Y1 (aU (s h o e) M) s h o e) j;show c _ _ _ (r.cm N ar%b1 s N) (a,d,y,ar)
structure FC(P:aP)(w:World)(a:aE)(S:ai->Im ah)(base:aO)(D:aa):Ir where
 fC:gx P w a S Jp aB 1 "Fault" D [IG,IL]%jN D Og
 wk:cQ S "WRONG_KIND"%Wa 1
 rg:cQ S "OUT_OF_RANGE"%Wa 2
 dv:cQ S "DIVISION_BY_ZERO"%Wa 3
 pl:cQ S "NO_SUCH_PLACE"%Wa 4
 lg:cQ S "TOO_LARGE"%Wa 5
theorem anV:hT _Ar=J%Jf _Ar:=Ie
theorem anW:hT LR=J%Jf LR:=Ie
theorem ado:hT QX=J%Jf QX:=Ie
theorem anX:a0 Og Og%aR DU:=(y,y,y,Ie,y,Ie,Ie)
def uG(D:aa):Sp:=λC H Q _=>∃F n,C= [Id n]/\IQ F H/\dH D F H (mz n) Q
theorem anY(W:aW r Q' Q' DU u Q)(a:FC l p r D A f)(x:D _Ar=I)(d:cQ D "LARGEST_NUMBER" 999999999999999999):aJ l p r D A aB 3 u Q Og%uG f:=by show Jb anX (WV (F,n,rfl,_)) λc T e s H C b Z L h=>?_;let (F,n,rfl,t,q):=h;show (_,ao (bA (d4 ka (cz ajN I5 x anV%ae (pv 0) aj) (cg d y)%c' _) (ax%aI%eC a.fC L y aK%ae (cg a.rg y) aj) bM)%ax%aI%pv 0,?_);dsimp only [bz,cc,hy,bX,cx];show (_,y,_,y,_,_,y,y,_,y,cF JV JV);{let h:=cw h;show gX t gc ?_;rw [Zp (mz n= LC 2) (λz=>by let o:Of<=n:=Mn;let g:Xz n:=Rj;lia)] at q;show q};{let h:¬ Wi 999999999999999999<YK n 0 (-n) n:=λz=>h%b8 z;rw [W? (mz n= LH%N0 n)%ZL (Of<=n/\Xz n)] at q;show (_,y,Nu t)}
def k_(D:aa)(g:Ib bW->dk)(k:Nat):Sp:=λC H Q _=>∃(F:Hp) (l:aa) (O:Ib Ix),C= [Ia l]/\I'=k/\H l=J%Ig%Lo Iz/\(∀n∈O,Of<=n/\Xz n)/\IQ F H/\dH D F H (g%Lo agV) Q
def qk(h:Of<=γ/\Xz γ):mz γ= LH%N0 γ:=aA h
theorem anZ:a0 JP JP%aR DX:=(y,y,y,Ie,y,Ie,Ie)
def an0(W:aW r Tv Tv DX u Q)(R:ID l p r D A aB 3 Q' Og%uG f):aJ l p r D A aB 4 u Q JP%k_ f (fp .neg) 1:=by show Jb anZ (WV (F,a,O,rfl,_)) λc T e s H C b Z L h=>?_;let (F,a,O,rfl,g,V,G,t,q):=h;match O,g with| [d],_=>show (_,ax%aI%aM R L y aK%ae (wH wJ%a8 bf (pv 0) aF IB) aj,?_);show (_,y,a,_,_,_,y,y,Iw V,y,_,y,F,_,y,t,q)
theorem an1:a0 JP JP%aR DY:=(y,y,y,Ie,y,Ie,Ie)
def an2(W:aW r _B5 _B5 DY u Q)(R:ID l p r D A aB 3 Q' Og%uG f):aJ l p r D A aB 4 u Q JP%k_ f (fp .add) 2:=by show Jb an1 (WV (F,a,O,rfl,_)) λc T i s H C b Z L h=>?_;let (F,a,O,rfl,g,V,G,t,q):=h;match O,g with| [d,e],_=>show (_,ax%aI%aM R L y aK%ae (d? jd (a8 bf (pv 0) aF IB)%a8 bf (pv 0) aF IB) aj,?_);show (_,y,a,_,_,_,y,y,Iw V,y,_,y,a,_,_,_,y,y,Iw V,y,_,_,y,y,F,_,y,t,q)
theorem an3:a0 JP JP%aR DZ:=(y,y,y,Ie,y,Ie,Ie)
def an4(W:aW r _B6 _B6 DZ u Q)(R:ID l p r D A aB 3 Q' Og%uG f):aJ l p r D A aB 4 u Q JP%k_ f (fp .sub) 2:=by show Jb an3 (WV (F,a,O,rfl,_)) λc T i s H C b Z L h=>?_;let (F,a,O,rfl,g,V,G,t,q):=h;match O,g with| [d,e],_=>show (_,ax%aI%aM R L y aK%ae (d? kS (a8 bf (pv 0) aF IB)%a8 bf (pv 0) aF IB) aj,?_);show (_,y,a,_,_,_,y,y,Iw V,y,_,y,a,_,_,_,y,y,Iw V,y,_,_,y,y,F,_,y,t,q)
theorem an5:a0 JP JP%aR D0:=(y,y,y,Ie,y,Ie,Ie)
theorem an6(W:aW r _B7 _B7 D0 u Q)(R:ID l p r D A aB 3 Q' Og%uG f):aJ l p r D A aB 4 u Q JP%k_ f (fp .mul) 2:=by show Jb an5 (WV (F,a,O,rfl,_)) λc T i s H C b Z L h=>?_;let (F,a,O,rfl,g,V,G,t,q):=h;match O,g with| [d,e],_=>let N:=G d Ii;show (_,ax%aI%aM R L y aK%ae (d? abE (a8 bf (pv 0) aF IB)%a8 bf (pv 0) aF IB) aj,?_);show (_,y,a,_,_,_,y,y,Iw V,y,_,y,a,_,_,_,y,y,Iw V,y,_,_,y,y, Ik%Xs Ih,F,_,y,t,q)
theorem an7:eO j (nH .FloorDiv)%rI (Wv M (M≠0/\Of<=M/\Xz M))%W3 i M Id%i.fdiv M:=BP λ_ M _ _ _ _ _ m q=>floordiv_int m.1 q%Ik%PyProof.noPylong_of_log2 (by (have:M.natAbs<ZE 64:=Ih);have:=Ws (Nat.log2_lt Ih) this;lia)
theorem an8(N:Of<=zu/\Xz zu)(W:γ≠0):Of<=zu.fdiv γ/\Xz%zu.fdiv γ:=by let e:=Int.mul_fdiv_add_fmod zu γ;let g:0<γ->0<=Q! γ/\Q! γ<γ:=λh=>(Hn zu h,Ho zu h);(let R:γ<0->γ<Q! γ/\Q! γ<=0:=λh=>by have:=h;(let Z:Q! γ=-((_Ac).g4 _Ab):=Io);let V:=Hn _Ac%Y6 (0< -γ);let T:=Ho _Ac%Y6 (0< -γ);lia);generalize zu.fdiv γ=f at e ⊢;generalize Q! γ=m at e g R;by_cases p:0<γ;{let (i,t):=g p;constructor;{by_cases hd:f<=_C8;{have:γ*f<=γ*_C8:=Hq hd Ih;lia};{lia}};{by_cases hd:_ch f;{have:_cl γ<=γ*f:=Hq hd Ih;lia};{lia}}};{(let p:γ<0:=Ih);let (i,t):=R p;constructor;{by_cases hd:f<=_C8;{have:_Ab*f<=_Ab*_C8:=Hq hd Ih;lk};{lia}};{by_cases hd:_ch f;{have:_cl _Ab<=_Ab*f:=Hq hd Ih;lk};{lia}}}
theorem an9(h:Of<=γ/\Xz γ)(W:γ≠0):Of<=Q! γ/\Xz%Q! γ:=by by_cases p:0<γ;{have:=Hn zu p;have:=Ho zu p;lia};{(let Z:Q! γ=-((_Ac).g4 _Ab):=Io);let V:=Hn _Ac%Y6 (0< -γ);let T:=Ho _Ac%Y6 (0< -γ);lia}
theorem an_:a0 JP JP%aR D1:=(y,y,y,Ie,y,Ie,Ie)
theorem an'(W:aW r _B8 _B8 D1 u Q)(b:FC l p r D A f):aJ l p r D A aB 3 u Q JP%k_ f (fp .div) 2:=by show Jb an_ (Wr i (F,a,O,rfl,_)) λc T j s H C i Z L h=>?_;let (F,a,O,rfl,g,V,G,t,q):=h;match O,g with| [e,d],_=>show (_,ao (bA (eh%jF (a8 bf (pv 0) aF IB) aF) (ax%aI%eC b.fC L y aK%ae (cg b.dv y) aj) bM)%ax%aI%d? an7 (a8 bf (pv 0) aF IB)%a8 bf (pv 0) aF IB,?_);dsimp only [bz,cc,tB,bX,cx];let q:dH f F H (Wz d 0 (LC 3)%mz%e.fdiv d) i:=q;show (_,y,a,_,_,_,y,y,Iw V,y,_,_,y,y,_,y,?_);change WW%aT (d=0);by_cases h:d=0;{rw [b8 h];rw [aA h] at q;show bu%gX t gc q};{rw [bD h];rw [au h,qk%an8 (G e Ii) h] at q;show bt (_,y,a,_,_,_,y,y,Iw V,y,_,y,a,_,_,_,y,y,Iw V,y,_,_,y,y,(h,G d Ii),Nu t)}
theorem aoa:a0 JP JP%aR D2:=(y,y,y,Ie,y,Ie,Ie)
theorem aob(W:aW r _B9 _B9 D2 u Q)(b:FC l p r D A f):aJ l p r D A aB 3 u Q JP%k_ f (fp .mod) 2:=by show Jb aoa (Wr i (F,a,O,rfl,_)) λc T j s H C i Z L h=>?_;let (F,a,O,rfl,g,V,G,t,q):=h;match O,g with| [e,d],_=>show (_,ao (bA (eh%jF (a8 bf (pv 0) aF IB) aF) (ax%aI%eC b.fC L y aK%ae (cg b.dv y) aj) bM)%ax%aI%d? ajF (a8 bf (pv 0) aF IB)%a8 bf (pv 0) aF IB,?_);dsimp only [bz,cc,tB,bX,cx];let q:dH f F H (Wz d 0 (LC 3)%mz%e.g4 d) i:=q;show (_,y,a,_,_,_,y,y,Iw V,y,_,_,y,y,_,y,?_);change WW%aT (d=0);by_cases h:d=0;{rw [b8 h];rw [aA h] at q;show bu%gX t gc q};{rw [bD h];rw [au h,qk%an9 (G d Ii) h] at q;show bt (_,y,a,_,_,_,y,y,Iw V,y,_,y,a,_,_,_,y,y,Iw V,y,_,_,y,y,h,Nu t)}
theorem aoc:a0 JP JP%aR D5:=(y,y,y,Ie,y,Ie,Ie)
theorem aod(W:aW r _B_ _B_ D5 u Q)(k:D LR=I):aJ l p r D A aB 1 u Q JP%k_ f (fp .max) 2:=by show Jb aoc (XJ (F,b,O,rfl,_)) λc T n s H C a Z L h=>?_;let (F,b,O,rfl,g,V,G,t,q):=h;match O,g with| [d,e],_=>show (_,ax%aI%cz (akK y) I5 k anW%ae (pv 0) aj,?_);show (_,y,b, [d,e],y,Iw V,_aT 0 2,Wd m i j);let q:dH f F H (mz%Wp (d<e) e d) a:=q;let o:=j d Ii;let x:=j e Ii;(let em:(Wp (d<e) e d)=m:=IZ);rw [em,qk%G m i] at q;show Nu t
theorem aoe:a0 JP JP%aR D6:=(y,y,y,Ie,y,Ie,Ie)
theorem aof(W:aW r _B' _B' D6 u Q)(k:D QX=I):aJ l p r D A aB 1 u Q JP%k_ f (fp .min) 2:=by show Jb aoe (XJ (F,b,O,rfl,_)) λc T n s H C a Z L h=>?_;let (F,b,O,rfl,g,V,G,t,q):=h;match O,g with| [d,e],_=>show (_,ax%aI%cz (ab4 y) I5 k ado%ae (pv 0) aj,?_);show (_,y,b, [d,e],y,Iw V,_aT 0 2,Wd m i j);let q:dH f F H (mz%Wp (d<e) d e) a:=q;let o:=j d Ii;let x:=j e Ii;(let em:(Wp (d<e) d e)=m:=IZ);rw [em,qk%G m i] at q;show Nu t
theorem aog:a0 JP JP%aR D3:=(y,y,y,Ie,y,Ie,Ie)
def aoh(W:aW r _B! _B! D3 u Q):aJ l p r D A aB 1 u Q JP%k_ f (fp .not) 1:=by show Jb aog (XJ (F,b,O,rfl,_)) λc T e s H C a Z L h=>?_;let (F,b,O,rfl,g,V,G,t,q):=h;match O,g with| [d],_=>show (_,ax%aI%l0 (eh%jF (a8 bf (pv 0) aF IB) aF) aF aF,?_);show (_,y,b,_,_,_,y,y,Iw V,y,_,_,y,y,_,y,?_);let q:dH f F H (ih (d==0)) a:=q;unfold ih at q;change Ww (aT (d=0)) (a (Id 1) H)%a (Id 0) H;by_cases h:d=0;{rw [b8 h];rw [aA (by rw [h];rfl)] at q;show bu%Nu t};{rw [bD h];rw [au (by rw [du];show h)] at q;show bt%Nu t}
theorem aoi:a0 JP JP%aR D4:=(y,y,y,Ie,y,Ie,Ie)
def aoj(W:aW r _B? _B? D4 u Q):aJ l p r D A aB 1 u Q JP%k_ f (fp .lt) 2:=by show Jb aoi (XJ (F,b,O,rfl,_)) λc T i s H C a Z L h=>?_;let (F,b,O,rfl,g,V,G,t,q):=h;match O,g with| [d,e],_=>show (_,ax%aI%l0 (d4 kU (a8 bf (pv 0) aF IB) (a8 bf (pv 0) aF IB)%c' _) aF aF,?_);show (_,y,b,_,_,_,y,y,Iw V,y,_,y,b,_,_,_,y,y,Iw V,y,_,_,y,y,_,y,?_);let q:dH f F H (ih%aT (d<e)) a:=q;unfold ih at q;change Ww (aT (d<e)) (a (Id 1) H)%a (Id 0) H;by_cases h:d<e;{rw [b8 h] at q ⊢;show bu%Nu t};{rw [bD h] at q ⊢;show bt%Nu t}
abbrev D7:aS:=IF 118
abbrev D8:aS:=IF 119
abbrev D9:aS:=IF 120
abbrev D_:aS:=IF 121
abbrev D':aS:=IF 122
abbrev D!:aS:=IF 123
abbrev D?:aS:=IF 124
abbrev Ea:aS:=IF 125
abbrev Eb:aS:=IF 126
def nc(D:aa)(g:Ib bW->dk)(k:Nat):Sp:=λC H Q _=>∃(F:Hp) (l:aa) (X:Ib V) (L:Ib bW),C= [Ia l]/\I0=k/\H l=J%Ig X/\bE F X L/\(∀x∈L,fZ x)/\IQ F H/\dH D F H (g L) Q
structure VC(P:aP)(w:World)(K:aE)(S:ai->Im ah)(base:aO)(D:aa):Ir where
 Ec:ID P w K S Jp aB 1 Q_ Kd%iD D uE
 nf:ID P w K S Jp aB 1 Vh Kd%iD D adn
 mem:ID P w K S Jp aB 1 TY L1 xV
 len:S Kp=I
def k'{p:V_}(a:IA R E g ζ)(s:IQ G g)(A:cW G ζ zS)(q:ε (IJ%p%LH zS) g):fc (iD f p) [] τ (bP R bY) E g ε:=a _ (G,ζ, LH zS,y,s,A,q)
def l!(a:IA R E G ζ)(s:IQ g G)(A:cW g ζ%Js zE)(q:∀m o,g m=J%IC o->bE g o zE->ε (Ia m) G):fc xV [] τ (bP R bY) E G ε:=a _ (g,ζ,zE,y,s,A,q)
def cX(a:IA R E g%Ia f)(b:g f=J%Ig α)(e:Wf α=J ζ)(L:IA Ξ E g%Id Mm):IA (cR (dM r) R Ξ) E g ζ:=λk c=>a _%L _ (f,_,_,_,y,y,Iw b,h7 e,c)
theorem bE.two{b:bW}:∀{X:Ib V},bE g X [zS,b]->∃v O,X= [v,O]/\cW g v zS/\cW g O b| [v,O],h=>by unfold bE bE at h;lk| [],h=>TZ| [_],h=>_bX Lv|_::_::_::_,h=>by unfold bE bE bE at h;show (Lv).2.al
theorem bE.one:∀{X:Ib V},bE g X [zS]->∃v,X= Kv/\cW g v zS| [v],h=>by unfold bE at h;cbv| [],h=>TZ|_::_::_,h=>_bX Lv
theorem bE.get:∀{X:Ib V} {L:Ib bW} {i:Nat} {x:bW},bE g X L->Pa=J x->∃v,Wg X=J v/\cW g v x| [], [],i,x,_,h=>Mt|v::X,A::L,0,x,p,h=>_FL|v::X,A::L,i+1,x,p,h=>_b8 (O,b,d) bE.get L3 OL| [],_::_,_,_,p,_=>Qt|_::_, [],_,_,p,_=>Io
theorem aok:a0 Kc Kc%aR D':=(y,y,y,Ie,y,Ie,Ie)
theorem aol(W:aW r _Ca _Ca D' u Q)(c:FC l p r D A f)(a:VC l p r D A f):aJ l p r D A aB 3 u Q Kc%nc f (fp .len) 1:=by show Jb aok (Yu g (G,w,X,d,rfl,_)) λE T F s g C ε τ L h=>?_;let (G,w,X,d,rfl,z,V,B,b,t,q):=h;match d,z with| [x],_=>let (v,rfl,N):=B.one;show (_,ao (bA (eN%b9%aM a.nf (Jh Il) y aK%ae (a8 bf (pv 0) aF IB) aj) (ax%aI%eC c.fC L y aK%ae (cg c.wk y) aj) bM)%ax%aI%cz dr I5 a.len c!%ae (aM a.mem (Jh Il) y aK%ae (a8 bf (pv 0) aF IB) aj) aj,?_);dsimp only [bz,cc,tB,eA,bX,cx];let e:∀{r},IA (cR (dM r) (bH 0)%tC%Id 0) (Vk Kc [Ia w]) g v:=X9 0%gv y;show k' e t N (_,y,?_);cases x with|num n=>show bu%gX t gc q|list k=>let q:dH f G g (mz J4) ε:=q;let H:=wi (zE:=k)%b _ Ii;rw [qk Ih] at q;show bt%l! e t N λm o i j=>(m,o,y, Iy%Ju%t _ _ i,?_);rw [T0];show Nu t
theorem adp:a0 [Oa,Pz] Kc%aR D!:=(y,y,y,Ie,y,Ie,Ie)
theorem aom(W:aW r _Cb _Cb D! u Q)(c:FC l p r D A f)(w:VC l p r D A f):aJ l p r D A aB 3 u Q Kc%nc f (fp .at_) 2:=by show Jb adp (Yu g (G,E,X,β,rfl,_)) λκ T μ s g C ε τ L h=>?_;let (G,E,X,β,rfl,M,V,ζ,b,t,q):=h;match β,M with| [x,F],_=>let (v,O,rfl,N,a):=ζ.two;let k:=SM;show (_,ao (bA (M'%m2 (eN%b9%aM w.nf k y aK%ae (a8 bf (pv 0) aF IB) aj)%m1%eN%b9%aM w.Ec k y aK%ae (a8 bf (pv 0) aF IB) aj) (ax%aI%eC c.fC L y aK%ae (cg c.wk y) aj) bM)%ao (WJ adp.nd (aH y)%aM _AM k y aK%ae (a8 bf (pv 0) aF IB) aj)%ao (bA (M'%m2 (d4 kU (a8 bf (pv 0) aF IB) aF%c' _)%m1%d4 ajJ (a8 bf (pv 0) aF IB) (cz dr I5 w.len c!%ae (pv 1) aj)%c' _) (ax%aI%eC c.fC L y aK%ae (cg c.pl y) aj) bM)%ax%aI%a8 hB (pv 1) (a8 bf (pv 0) aF IB) IB,?_);dsimp only [bz,cc,tB,eA,bX,cx,b?,bU,hy,n?];let e:ZB IA (cR (dM r) (bH 0)%tC%Id 0) [J%Ia E,m] g v:=X9 0%gv y;let B:ZB IA (cR (dM r) (bH 0)%tC%Id 1) [J%Ia E,m] g O:=X9 1%gv y;show k' e t N (_,y,?_);cases x with|num n=>show bu%bu%gX t gc (by cases F<;>show q)|list d=>show bt%k' B t a (_,y,?_);cases F with|list ν=>show bu%gX t gc q|num i=>show bt%l! e t N%YL m γ j;(let a:O= Id i:=_FM);subst a;let q:dH f G g (Wp (i<0) (LC 4) (match d[i.L]? with|J v=> LH v|I=> LC 4)) ε:=q;let η:=T0;show B _ (_,_,y,y,_,y,?_);by_cases α:i<0;{rw [aA α] at q;rw [b8 α];show bu%bu%gX t gc q};{rw [au α] at q;rw [bD α];show bt%B _ (_,y,m,o,y, Iy%Ju%t _ _ γ,_,_,y,y,_,y,?_);rw [η];by_cases δ:Wi d.a<=i;{rw [b8 δ];rw [Ax Ih] at q;show bu%gX t gc q};{rw [bD δ];obtain ⟨z,H⟩:∃z,d[i.L]?=J z:=(d[i.L]'Ih,d1 Ih);rw [H] at q;let (θ,P,ι):=j.get H;show bt (_,y,B _ (m,o,i,θ,y,y,Ju%t _ _ γ,?_,q.val t ι));rw [_am i i.L];show h7 P}}
mutual
def dV:bW->kB| .num n=> Id n| .list l=> N_ [N_%e5 l, Id%W6 eR%Js l, Id%W6 fJ%Js l]
def e5:Ib bW->Ib kB| []=> []|x::l=>dV x::e5 l
end
section
variable {F:aE}{M H:Hp}
mutual
theorem cW.dp(s:IQ M H):∀{v:V} (x:bW),cW M v x->Dp F H v%dV x|v, .num n,h=>by unfold cW at h;unfold dV;subst h;show Id n|v, .list l,h=>by unfold cW at h;unfold dV;let (a,m,o,rfl,N,i,A):=h;show IC (Ju%s _ _ N)%I1 (IC (Ju%s _ _ i)%bE.dp s l A)%I1 (Id _)%I1 (Id _) IR
theorem bE.dp(s:IQ M H):∀{C:Ib V} (L:Ib bW),bE M C L->m8 F H C%e5 L| [], [],_=>by unfold e5;show IR|v::C,x::L,h=>by unfold bE at h;unfold e5;show I1 (cW.dp s x h.1)%bE.dp s L Lv| [],_::_,h=>TZ|_::_, [],h=>TZ
end
end
mutual
theorem aon:∀(x A:bW),iO x A=ag->x=A| .num a, .num b,h=>by unfold iO at h;rw [du.R h]| .list l, .list m,h=>by unfold iO at h;rw [Ed l m h]| .num _, .list _,h=>_FN| .list _, .num _,h=>_FN
theorem Ed:∀(l m:Ib bW),nX l m=ag->l=m| [], [],_=>y|x::l,A::m,h=>by unfold nX at h;rw [cI] at h;rw [aon x A h.1,Ed l m Lv]| [],_::_,h=>_FO|_::_, [],h=>_FO
end
mutual
theorem xW:∀(x A:bW),iN (dV x)%dV A=iO x A| .num a, .num b=>_D3| .num _, .list _=>_D3| .list _, .num _=>_D3| .list l, .list m=>by unfold dV iO;change (nY (e5 l)%e5 m && (Wc%eR%Js l==W6 eR%Js m && ((Wc%fJ%Js l==W6 fJ%Js m) && ag)))=_;rw [adq l m];cases h:nX l m with|false=>rfl|true=>rw [Ed l m h];simp
theorem adq:∀(l m:Ib bW),nY (e5 l)%e5 m=nX l m| [], []=>_D4|x::l,A::m=>by unfold e5 nX;rw [nY,xW x A,adq l m]| [],_::_=>_D4|_::_, []=>_D4
end
mutual
theorem ads:∀(x:bW),(dV x).canLay0=ag| .num a=>by unfold dV AH;rfl| .list l=>by unfold dV;change (tm%e5 l && (ag && (ag && ag)))=ag;rw [Ee l];rfl
theorem Ee:Zd (tm%e5 l=ag)| []=>by unfold e5 tm;rfl|x::l=>by unfold e5;rw [tm,ads x,Ee l];rfl
end
mutual
theorem adt:∀(x:bW),(dV x).e3<=1+2*x.e3| .num a=>by unfold dV vK fJ;lia| .list l=>by let h:=Ef l;unfold dV;rw [fJ];simp only [vK,tn];lia
theorem Ef:Zd (tn%e5 l<=1+2*gj l)| []=>by unfold e5 tn;lia|x::l=>by let D:=adt x;let R:=Ef l;unfold e5;rw [gj];simp only [tn];lk
end
theorem uH(h:fZ zS):iM%dV zS=ag:=by unfold iM;let D:=adt zS;let R:zS.e3<=20:=(Lv).2;rw [ads zS,o2,cU];lia
theorem aoo:a0 Kc Kc%aR D8:=(y,y,y,Ie,y,Ie,Ie)
theorem aop(W:aW r _Cc _Cc D8 u Q):aJ l p r D A aB 1 u Q Kc%nc f (fp .eq) 2:=by show Jb aoo (Yu g (G,c,X,L,rfl,_)) λk T m s g C ε τ d h=>?_;let (G,c,X,L,rfl,i,V,e,b,t,q):=h;match L,i with| [x,a],_=>let (v,O,rfl,N,j):=e.two;show (_,ax%aI%l0 (d4 (t5%r8 d) (a8 bf (pv 0) aF IB) (a8 bf (pv 0) aF IB)%c' _) aF aF,?_);show (_,y,c,_,_,_,y,y,Iw V,y,_,y,c,_,_,_,y,y,Iw V,y,_,_,N.dp t x,j.dp t a,uH%b x Ii,uH%b a Ii,_,y,?_);let q:dH f G g (ih%iO x a) ε:=q;change Ww (iN (dV x)%dV a) (ε (Id 1) g)%ε (Id 0) g;rw [xW];unfold ih at q;cases h:iO x a with|true=>rw [h] at q;show bu%Nu t|false=>rw [h] at q;show bt%Nu t
theorem aoq:a0 L1 L1%aR Ea:=(y,y,y,Ie,y,Ie,Ie)
def Eg:WA bW| .list l=>aT (LP=2)|_=>false
def adu:Sp:=λC G ε _=>∃g v x,C= Kv/\IQ g G/\cW g v x/\ε (IJ%Eg x) G
theorem aor(W:aW r Vl Vl Ea f Q)(c:VC l p r D A u):aJ l p r D A aB 2 f Q L1 adu:=by show Jb aoq (Yu g (G,v,x,rfl,_)) λb T d s g C ε τ L h=>?_;let (G,v,x,rfl,t,N,q):=h;show (_,ax%aI%abw (aM c.nf L y aK%ae (pv 0) aj)%tN%n'%jF (cz dr I5 c.len c!%ae (aM c.mem L y aK%ae (pv 0) aj) aj) aF,?_);dsimp only [bX,abv];show k' (gv y) t N ?_;cases x with|num n=>show (_,y,bt q)|list a=>show (_,y,bu%l! (gv y) t N λm o i j=>(m,o,y, Iy%Ju%t _ _ i,_,_,y,y,?_));rw [T0];let q:ε (IJ%aT (Kj=2)) g:=q;change ε (IJ%aT (Wc Kj=2)) g;rw [show aT (Wc Kj=2)=aT (Kj=2) by lk];show q
abbrev Eh:aS:=IF 132
def uI{p:V_}(a:IA R E g ζ)(s:IQ G g)(A:eY f G ζ z2)(q:ε (IJ%p z2) g):fc (iD f p) [] τ (bP R bY) E g ε:=a _ (G,ζ,z2,y,s,A,q)
def xX(D:aa):Sp:=λC G ε _=>∃g v o,C= Kv/\IQ g G/\eY D g v o/\dH D g G (hQ o) ε
theorem aos:a0 Kd Kd%aR Eh:=(y,y,y,Ie,y,Ie,Ie)
theorem aot(W:aW r R? R? Eh u Q)(a:FC l p r D A f)(c:VC l p r D A f)(d:ID l p r D A aB 1 Py Kd%iD f qj):aJ l p r D A aB 3 u Q Kd%xX f:=by show Jb aos (Yu g (G,v,o,rfl,_)) λe T i s g C ε τ L h=>?_;let (G,v,o,rfl,t,b,q):=h;let k:=SM;show (_,ao (bA (b9%aM d k y aK%ae (pv 0) aj) (ax%aI%pv 0) bM)%ao (bA (b9%aM c.nf k y aK%ae (pv 0) aj) (ax%aI%eC a.fC L y aK%ae (cg a.wk y) aj) bM)%ax%aI%l0 (eh%jF (pv 0) aF) aF aF,?_);dsimp only [bz,cc,tB,eA,bX,cx,tO];show uI (gv y) t b (_,y,?_);cases o with|bad j=>show bu (_,y,q G g v (Ls t) b)|val x=>show bt%uI (gv y) t b (_,y,?_);cases x with|list m=>show bu%gX t gc q|num n=>(let b:v= Id n:=by unfold eY cW at b;show b);subst b;let q:dH f G g (ih (n !=0)) ε:=q;unfold ih at q;show bt (_,y,_,_,y,y,_,y,?_);change Ww (aT (n=0)) (ε (Id 0) g)%ε (Id 1) g;by_cases h:n=0;{rw [b8 h];rw [au (by rw [h];decide)] at q;show bu%Nu t};{rw [bD h];rw [aA Io] at q;show bt%Nu t}
theorem bE.three{b j:bW}:∀{X:Ib V},bE g X [zS,b,j]->∃v O t,X= [v,O,t]/\cW g v zS/\cW g O b/\cW g t j|v::X,h=>by unfold bE at h;let (O,t,rfl,e,f):=(Lv).two;lk| [],h=>TZ
theorem bE.get':∀{X:Ib V} {L:Ib bW} {i:Nat} {v:V},bE g X L->Wg X=J v->∃x,Pa=J x/\cW g v x/\L.Q i=x::L.Q (i+1)| [], [],i,x,_,h=>Mt|v::X,A::L,0,x,p,h=>_FL|v::X,A::L,i+1,x,p,h=>_b8 (O,b,d,e) bE.get' L3 OL| [],_::_,_,_,p,_=>Io|_::_, [],_,_,p,_=>Qt
theorem adv:a0 [Oa,Sa] Kc%aR Eb:=(y,y,y,Ie,y,Ie,Ie)
theorem aou(ο:aW r _Cd _Cd Eb u Q)(η:FC l p r D A f)(w:VC l p r D A f)(π:ID l p r D A aB 2 Vl L1 adu):aJ l p r D A aB 3 u Q Kc%nc f (fp .look) 3:=by show ο.ok adv (Yu g (G,c,X,θ,rfl,_)) λze T S s g C ε τ L h=>?_;let (G,c,X,θ,rfl,H,V,M,ι,t,q):=h;match θ,H with| [x,k,a],_=>let (v,O,ρ,rfl,N,P,σ):=M.three;let γ:=SM;show (_,ao (bA (eN%b9%aM w.nf γ y aK%ae (a8 bf (pv 0) aF IB) aj) (ax%aI%eC η.fC L y aK%ae (cg η.wk y) aj) bM)%ao (eB e0 y (BJ%aM _AM γ y aK%ae (a8 bf (pv 0) aF IB) aj) (Wu 1 adv.nd%aH y)%ax%bA (M'%ob (b9%aM π L y aK%ae (pv 1) aj)%oa%d4 (t5%r8 L) (a8 hB (aM _AM γ y aK%ae (pv 1) aj) aF IB) (a8 bf (pv 0) aF IB)%c' _) (ax%aI%a8 hB (aM _AM γ y aK%ae (pv 1) aj) aF IB) bM)%ax%aI%a8 bf (pv 0) aF IB,?_);dsimp only [bz,cc,tB,eA,bX,cx,n!,hy];let κ:ZB IA (cR (dM r) (bH 0)%tC%Id 0) [J%Ia c,m] g v:=X9 0%gv y;let R:ZB IA (cR (dM r) (bH 0)%tC%Id 1) [J%Ia c,m] g O:=X9 1%gv y;let υ:ZB IA (cR (dM r) (bH 0)%tC%Id 2) [J%Ia c,m] g ρ:=X9 2%gv y;show k' κ t N (_,y,?_);cases x with|num n=>show bu%gX t gc q|list α=>let q:dH f G g (LH%pz α k a) ε:=q;show bt%l! κ t N λm o μ j=>(m,y,(_,Ju%t _ _ μ),ajD (r:=r) (f:=m) (α:=o) (λi E d=>∃b,E= [J%Ia c,b]/\d=g/\pz α k a=pz (R0 i) k a) (I,y,y,y) (λi E d _ (_,_,e,_)=>_ah Ju%t _ _ μ) ?_ ?_);{rintro i φ E d χ ⟨b,rfl,B,e⟩;subst B;let (z,ψ,F,ω):=j.get' χ;rw [ω] at e;let Γ:fZ z:=pQ (zE:=α) (ι _ Ii)%cm ψ;show (_,y,G,φ,z,y,t,F,_,y,?_);(let Δ:Eg z=ay->pz α k a=pz (R0 (i+1)) k a:=λδ=>by rw [e];match z,δ with| .num _,_=>rfl| .list [],_=>rfl| .list [_],_=>rfl| .list (_::_::_::_),_=>rfl);cases δ:Eg z with|false=>show bt%bt (_,y,y,Δ δ)|true=>show bu ?_;match z,δ with| .list [β,ζ],_=>let e:pz α k a=if iO β k then ζ else pz (R0 (i+1)) k a:=e;show l! (gv y) t F%Wj Θ zf Ξ Φ;let (Ψ,Ω,rfl,ν,W):=Φ.two;let za:fZ β:=pQ (zE:= [β,ζ]) Γ Ii;show (Θ,_,_,_,y,y,Ju%t _ _ Ξ,y,R _ (_,_,ν.dp t β,P.dp t k,uH za,uH%ι k Ii,_,y,?_));rw [xW];cases ξ:iO β k with|true=>rw [ξ] at e;let e:pz α k a=ζ:=e;rw [e] at q;show bu%l! (gv y) t F (λzb zg zc zd=>by let (Ψ,Ω,rfl,ν,W):=zd.two;show (zb,_,_,_,y,y,Ju%t _ _ zc,y,q.val t W))|false=>rw [ξ] at e;show bt (_,y,y,e)};{rintro E d ⟨b,rfl,B,e⟩;subst B;rw [Yt (Wl%R0 o.a) vJ%X0 T0%bj _] at e;let e:pz α k a=a:=e;rw [e] at q;show υ _%q.val t σ}
abbrev Ei:aS:=eP (IF 101) 0
abbrev Ej:aS:=eP (IF 58) 0
abbrev Ek:aS:=eP (IF 138) 0
abbrev El:aS:=eP (IF 180) 0
abbrev Em:aS:=IF 181
abbrev En:aS:=IF 182
theorem aov:a0 [IG,NT,Na,JJ,MR] [IG,NT,Na,JJ,MR]%aR Ek:=(y,y,y,Ie,y,Ie,Ie)
theorem aow(F:aW r J_ _FP Ek u Q)(a:TN r f [NT,Na,JJ,MR]):aJ l p r D A aB 1 u Q [IG,NT,Na,JJ,MR]%jN f [NT,Na,JJ,MR]:=by show Lg aov (Zm C H b Z h (x,X,i,rfl,e,_)) λc T m s H C b Z L h=>?_;let (x,X,i,rfl,e,N,q):=h;match i,e with| [d,g,j,k],_=>show (_,ao (cf (pv 0) (pv 1) y)%ao (cf (pv 0) (pv 2) y)%ao (cf (pv 0) (pv 3) y)%ax%cf (pv 0) (pv 4) y,?_);show (_,y,_,y,x,f,X,_,y,N,Jg,KA _ Ii,Io,?_);show (_,y,_,y,x,f,X,_,y,ar,Jg,KA _ Ii,OG,?_);show (_,y,_,y,x,f,X,_,y,ar,Jg,KA _ Ii,Pb,?_);show (_,y,_,y,x,f,X,_,y,ar,Jg,KA _ Ii,SK,?_);rw [dE,dE,dE];show q
def ql(f:aa)(O:Ib ai)(g:ai)(o:HO):Sp:=λC H Q _=>∃(x X:aa) (i:Ib V),C= Ia x::i/\i.a=4/\H x=J%Iq f X []/\∀d l,jj H d x->H l=I->d l=J o->d x=J%Iq f X (O.zip i++ [(g, Ia l,)])->Q IK d
theorem aox:a0 [IG,Jv,IL,LI,JC] [IG,Jv,IL,LI,JC]%aR Ei:=(y,y,y,Ie,y,Ie,Ie)
theorem aoy(F:aW r J_ _FQ Ei u Q)(a:TN r f [Jv,IL,LI,JC,KQ]):aJ l p r D A aB 1 u Q [IG,Jv,IL,LI,JC]%ql f [Jv,IL,LI,JC] KQ%Ig []:=by show Lg aox (Zm C H n Z h (x,X,i,rfl,e,_)) λc T t s H C n Z L h=>?_;let (x,X,i,rfl,e,N,q):=h;match i,e with| [g,d,j,k],_=>show (_,ao (cf (pv 0) (pv 1) y)%ao (cf (pv 0) (pv 2) y)%ao (cf (pv 0) (pv 3) y)%ao (cf (pv 0) (pv 4) y)%ax%cf (pv 0) (bZ aj) y,?_);show (_,y,_,y,x,f,X,_,y,N,Jg,KA _ Ii,Io,?_);show (_,y,_,y,x,f,X,_,y,ar,Jg,KA _ Ii,OG,?_);show (_,y,_,y,x,f,X,_,y,ar,Jg,KA _ Ii,Pb,?_);show (_,y,_,y,x,f,X,_,y,ar,Jg,KA _ Ii,SK,?_);rw [dE,dE,dE];show (cj _,Wb m V);(let b:W_ m:=λz=>_D5);rw [aq b] at V;show (_,y,x,f,X,_,y,W5 b.J,Jg,KA _ Ii,PY,?_);show q _ m (XG d W,er%er%er Oj) V (W5 b) ar;rw [aq W,aq%aU e V,aq W];show e
theorem aoz:a0 [IG,Ka,K6,Nv,LJ] [IG,Ka,K6,Nv,LJ]%aR Ej:=(y,y,y,Ie,y,Ie,Ie)
theorem aoA(F:aW r J_ _FR Ej u Q)(a:TN r f [Ka,K6,Nv,LJ,PB]):aJ l p r D A aB 1 u Q [IG,Ka,K6,Nv,LJ]%ql f [Ka,K6,Nv,LJ] PB%I9 []:=by show Lg aoz (Zm C H n Z h (x,X,i,rfl,e,_)) λc T t s H C n Z L h=>?_;let (x,X,i,rfl,e,N,q):=h;match i,e with| [g,d,j,k],_=>show (_,ao (cf (pv 0) (pv 1) y)%ao (cf (pv 0) (pv 2) y)%ao (cf (pv 0) (pv 3) y)%ao (cf (pv 0) (pv 4) y)%ax%cf (pv 0) Cd y,?_);show (_,y,_,y,x,f,X,_,y,N,Jg,KA _ Ii,Io,?_);show (_,y,_,y,x,f,X,_,y,ar,Jg,KA _ Ii,OG,?_);show (_,y,_,y,x,f,X,_,y,ar,Jg,KA _ Ii,Pb,?_);show (_,y,_,y,x,f,X,_,y,ar,Jg,KA _ Ii,SK,?_);rw [dE,dE,dE];show Wb m V;(let b:W_ m:=λz=>_D5);rw [aq b] at V;show (_,y,x,f,X,_,y,W5 b.J,Jg,KA _ Ii,PY,?_);show q _ m (XG d W,er%er%er Oj) V (W5 b) ar;rw [aq W,aq%aU e V,aq W];show e
theorem aoB:a0 [IL,Px] [IL,Px]%aR Em:=(y,y,y,Ie,y,Ie,Ie)
def xY:Sp:=λC H Q _=>∃n l X,C= [Id n, Ia l]/\H l=J%Ig X/\Q (IJ%aT (0<=n/\n<X.a)) H
theorem aoC(W:aW r Vm Vm Em f Q)(V:D Kp=I):aJ l p r D A aB 1 f Q [IL,Px] xY:=by show Jb aoB (WV (n,a,X,rfl,_)) λc T e s H C b Z L h=>?_;let (n,a,X,rfl,d,q):=h;show (_,ax%aI%tU gQ kU aF (pv 0)%cz dr I5 V c!%ae (pv 1) aj,?_);show (_,y,_,_,y,y,_,y,?_);by_cases h:0<=n;{rw [b8 h];show bu (_,y,a,X,y, Ik%Iw d,_,_,y,y,?_);cbv};{lk}
theorem aoD:a0 [PD] [PD]%aR En:=(y,y,y,Ie,y,Ie,Ie)
def Eo:Sp:=λC H Q _=>∃l X,C= [Ia l]/\H l=J%Ig X/\Q (IJ%aT (500<X.a)) H
theorem aoE(W:aW r Vn Vn En f Q)(V:D Kp=I)(d:cQ D "FULL_WIRE" 500):aJ l p r D A aB 1 f Q [PD] Eo:=by show Jb aoD (XJ (b,X,rfl,_)) λc T g s H C a Z L h=>?_;let (b,X,rfl,e,q):=h;show (_,ax%aI%gT ka (cz dr I5 V c!%ae (pv 0) aj) (cg d y)%c' _,?_);show (_,y,b,X,y, Ik%Iw e,_,_,y,y,?_);change a (IJ%aT (Wi 500<Wc X.a)) H;rw [show aT (Wi 500<Wc X.a)=aT (500<X.a) by lk];show q
theorem aoF:a0 L0 L0%aR El:=(y,y,y,Ie,y,Ie,Ie)
def fK(g t:V)(j:aa)(e:V):Ib K1:= [(Jq,g,),(Jn,t,),(LK, Ia j,),(IV,e,)]
def adw(f:aa):Sp:=λC H Q _=>∃(x X:aa),C= [Ia x]/\H x=J%Iq f X []/\∀d l,jj H d x->H l=I->d l=J%Ig []->d x=J%Iq f X%fK IK IK l IK->Q IK d
theorem aoG(F:aW r J_ _FS El u Q)(a:TN r f [Jq,Jn,LK,IV]):aJ l p r D A aB 1 u Q L0%adw f:=by show Lg aoF (Wr i (x,X,rfl,_)) λc T j s H C i Z L h=>?_;let (x,X,rfl,N,q):=h;show (_,ao (cf (pv 0) iT y)%ao (cf (pv 0) iT y)%ao (cf (pv 0) (bZ aj) y)%ax%cf (pv 0) iT y,?_);show (_,y,x,f,X,_,y,N,Jg,KA _ Ii,Io,?_);show (_,y,x,f,X,_,y,ar,Jg,KA _ Ii,OG,?_);rw [dE];show (cj _,Wb g V);(let b:W_ g:=λz=>_D5);rw [aq b] at V;show (_,y,x,f,X,_,y,W5 b.J,Jg,KA _ Ii,Pb,?_);show (_,y,x,f,X,_,y,ar,Jg,KA _ Ii,SK,?_);rw [dE];show q _ g (XG d W,er%er%er Oj) V (W5 b) ar;rw [aq W,aq%aU e V,aq W];show e
abbrev Ep:aS:=IF 102
abbrev Er:aS:=IF 103
abbrev Es:aS:=IF 104
abbrev Et:aS:=IF 105
abbrev xZ:aS:=IF 106
def x1:Im Ix->V|J n=> Id n|I=> IK
def adx(CR m:aa)(j:GC):Sp:=λC H Q Z=>∃F r tl all u pv p,C= [Ia r,pv]/\dc CR H r tl IH u/\IQ F H/\F r=I/\d0 IH/\gW j F pv p/\(∀n G d,hX P5 u=J (n,G,)->Ar CR F H F d r tl IH G->Q (x1 n) d)/\(hX P5 u=I->∀d,Go F H F d (·=r)->Z (Ia m) I d)
theorem aoH:a0 [Kr,Jv] [Kr,Jv]%aR Es:=(y,y,y,Ie,y,Ie,Ie)
theorem aoI(w:aW r Vo Vo Es W Q)(R:RG l p r D A f u)(v:TG r θ):aJ l p r D A (bp l p) 4 W Q [Kr,Jv]%adx f u θ:=by show w.dZ aoH (Xh B γ (F,E,tl,all,b,pv,c,rfl,_)) λε T ζ s H C B γ L h=>?_;let (F,E,tl,all,b,η,c,rfl,Rd,m,V,i,(N,X,S,ι,rfl,d,_),q,O):=h;show (_,ao (bA (eN%b9%aC (pv 1) y) (ax%aI iT) bM)%ao (bA (b9%b5 (pv 0) Jm Ps L aK%ae cn aj) (ax%aI%wH wJ%b5 (pv 0) Jm KH L bw%ae cn aj) bM)%ax%aI%b5 (pv 0) Jm KH L bw%ae cn aj,?_);dsimp only [bz,cc,tB,eA,bX,cx,tUn];let T:=Va Rd m V;show gf (gv y) (m _ _ d) v.d.cl (v.d.no _ Ii) y _ (_,y,?_);cases α:c.own with|false=>show bu%q I b H _FT T|true=>(let e:hX c.own b=(Wp (cu 45 b) ((ee fA%b.Q 1).ag λx=>J (J (-(_bu hs K0)),IY,))%(ee fA b).ag λx=>J (J%_bu hs K0,IY,)):=_FT);(let one:∀{G},d0 G->(hd G).1=IL->∃t o,G=t::o/\ee fA G=J (t,o,)/\(hd G).2= Id%YV Jj:=λ{G} g h=>by have:=(qc g).R h;cases G with|nil=>cases this|cons t o=>let this:fA t=ag:=this;show (t,o,y,aA this,by rw [kX,C8%du.R this]));(let β:∀{G},d0 G->¬ (hd G).1=IL->ee fA G=I:=λ{G} g h=>by cases G with|nil=>rfl|cons t o=>show au λz=>h%WC%Zc qc t o g);show bt%r6 T (gv y) gc Il (λP M A1 _=>(_,y,bu ?_)) λδ=>(_,y,bt ?_);{rw [aA%(df (LF i) 45).R P] at e;show iC A1 (gv y) gc Il (Zf a n) λa=>O (by rw [e,β (LG i) a];rfl) _ A1.g;let (t,o,k,Z,j):=one (LG i) a;rw [Z] at e;rw [j];rw [k] at A2;show (_,y,q _ _ n e A2)};{rw [au λz=>δ%WC%df (LF i) 45] at e;show iC T (gv y) gc Il (Zf a n) λa=>O (by rw [e,β (LF i) a];rfl) _ T.g;let (t,o,k,Z,j):=one (LF i) a;rw [Z] at e;rw [j];rw [k] at A2;show q _ _ n e A2}
def hH(t:Ib Iu):Ib V:=t.ca.o λn=>Iz Jy
def ek:Ib Iu->Ib bo->Ib Iu × Ib bo| [],u=>([],u,)|a::o,u=>Yg (cu 41 u) ek o (LN 1) (a::o,u,)
def Eu(t:Ib Iu):(hH t).a=t.a:=by unfold hH;rw [aQ,Hr]
def r9(a:Nat)(o:Ib Iu):hH (a::o)=hH o++ [Id%Wa a]:=by unfold hH;rw [vL,dW];rfl
def M2(r l:aa):Nw:=λd=>d=r∨d=l
def ady(CR m:aa):Sp:=λC H Q Z=>∃F r tl all u l t,C= [Ia r, Ia l]/\dc CR H r tl IH u/\IQ F H/\F r=I/\F l=I/\d0 IH/\H l=J%Ig%hH t/\l≠tl/\(Wl (ek t u).1->∀d,Go F H F d%M2 r l->dc CR d r tl IH (ek t u).2->d l=J%Ig []->Q (IJ ay) d)/\(XC (ek t u).1->cu 44 (ek t u).2=ag->∀d,Go F H F d%M2 r l->dc CR d r tl IH%(ek t u).2.Q 1->d l=J%Ig%hH (ek t u).1->Q (IJ ag) d)/\(XC (ek t u).1->¬ cu 44 (ek t u).2=ag->∀d,Go F H F d%M2 r l->Z (Ia m) I d)
theorem aoJ:a0 [Kr,PF] [Kr,PF]%aR Et:=(y,y,y,Ie,y,Ie,Ie)
theorem aoK(B:aW r Vp Vp Et W Q)(R:RG l p r D A f u)(V:D Kp=I):aJ l p r D A (bp l p) 4 W Q [Kr,PF]%ady f u:=by show B.dZ aoJ (Wr w (F,b,tl,all,j,a,t,rfl,_)) λze T zf s H C w Z L h=>?_;let (F,b,tl,all,j,a,t,rfl,Rd,τ,υ,φ,i,E,χ,ψ,O,ω):=h;show (_,ao (iU hC (M'%ob (tV (pv 1) SJ)%oa%b9%b5 (pv 0) Jm Ps L aK%ae cn aj)%ax%bI%B2 d9 vz Hs ab1%pv 1)%ao (bA (tV (pv 1) SJ) (ax%bI%b5 (pv 0) Jm KH L bw%ae cn aj) bM)%ax%aI%gT ka (cz dr I5 V c!%ae (pv 1) aj) aF%c' _,?_);dsimp only [bz,cc,tB,eA,bX,cx,dq,n!];(let ι:∀{d:Hp} {Γ},d a=J%Ig Γ->∀{G},dc f d b tl IH G->WZ b:=λh _ R=>by let ((X,κ,ζ,_),_):=R;lk);show (λμ ν d=>∃G k,ν= [J%Ia b,J%Ia a]/\μ=J4/\dc f d b tl IH G/\Go F H F d%M2 b a/\d a=J%Ig%hH k/\ek t j=ek k G,(_,j,t,y,y,Rd, Ls τ,E,y),?_);rintro μ ν M ⟨G,k,rfl,rfl,β,γ,q,c⟩;let A1:Ar f F M F M b tl IH G:= R4 β γ.y υ;let δ:=LG i;let ξ:∀{d},Go F M F d (·=b)->Go F H F d%M2 b a:=λg=>γ.q%g.bv%W3 ε h Ik h;cases k with|nil=>rw [XA (ek [] G) ([],G,)] at c;show (_,y,ay, Ik (_,Iw q,y),bt%bt ?_);show (_,y,ay, Ik (_,Iw q,y),bt ?_);show (_,y,a,_,y, Ik%Iw q,_,_,y,y,?_);show ψ (by rw [c]) M γ (by rw [c];show β) q|cons x o=>(let ο:(hH (x::o)).bj=ay:=_FU);show (_,y,ag, Ik (_,Iw q,_FV),bu ?_);show r6 A1 (gv y) gc Il (λm n A2 v=>(_,y,bu ?_)) λη=>(_,y,bt ?_);{let θ:=(df δ 41).R m;rw [W? (ek (x::o) G=ek o%G.Q 1) θ] at c;let π:=ι q β;let α:=v _ _ q π;show (λρ d=>∃G k,J4<(x::o).a/\ρ= [J%Ia b,J%Ia a]/\dc f d b tl IH G/\Go F H F d%M2 b a/\d a=J%Ig%hH k/\ek t j=ek k G,WP ρ (G,k,Δ,Θ,Ξ) (_,Δ,G,k,Θ,y,Ξ),?_);show (_,y, Ik (y,_,Iw α),a,_, Id%Wa x,y,y,α,?_,G.Q 1,o,Ii,y,?_,?_,?_,c);{rw [r9,cG,ph,Gr];simp};{let ((X,κ,ζ,Φ,P),Ψ,Ω,za):=A2.rd;let zb:∀{ε:aa} {σ:HO},n ε=J σ->(∀N,σ≠ Ig N)->ε≠a:=λe z=>dh e α%z _;show ((X,κ,_aJ aq π.J,Φ,P),Ψ,by rw [aq χ.J];show Ω,J8 za%Ys ε zg z%aq%zb z Io)};{show (ξ A2.g).q%Kb A2.g.y (Iy y) φ};{rw [ar,r9,axI]}};{let θ:¬ cu 41 G=ag:=λz=>η%WC%df δ 41;rw [Zp (ek (x::o) G=(x::o,G,)) θ] at c;show (_,y,ag, Ik (_,Iw q,_FV),bu ?_);show iC A1 (gv y) gc Il (Wj m n A2 v) λη=>ω _FW (by rw [c];show λz=>η%WC%df δ 44) _ γ;let α:=v _ _ q%ι q β;show (_,y,a,_,y, Ik%Iw α,_,_,y,y,?_);let zd:=O _FW (by rw [c];show (df δ 44).R m) n (ξ A2.g) (by rw [c];show A2.rd) (by rw [c];show α);change w (IJ%aT (Wi 0<Wc (hH (x::o)).a)) n;rw [Eu,b8 Ii];show zd}
def x2:Im Iu->V|J n=> Id Jy|I=> IK
def hI(f:Ib Iu):Ib V:=MH λk=>Iz%Wa k
def fN(pv:V)(n:Im Ix)(c:Im Iu)(W:Nat)(A:aa):Ib K1:= [(Jv,pv,),(IL,x1 n,),(LI,x2 c,),(JC, Id%Wa W,),(KQ, Ia A,)]
def r_(j:GC)(q:aa)(g:bh)(F:Hp)(a A:aa)(i:bQ):Ir:=∃X pv p n,F a=J%Iq q X%fN pv n RD i.d8 A/\gW j F pv p/\N1[i.gh]?=J p/\n.az 0=P'/\P5=n.as
def r_.mono{j:GC}{q:aa}{g:bh}{F W:Hp}{a A:aa}{i:bQ}(h:Wh (F b=J o) (W b=J o))(p:r_ j q g F a A i):r_ j q g W a A i:=let (X,pv,c,n,D,R,V):=p;(X,pv,c,n,h _ _ D,R.u h,V)
theorem oD{f s:Jc}{R:O_}:∀{l:Ib f} {m:Ib s},LP=m.a->(∀(M:Nat) (x:f) (A:s),Wm l=J x->Wm m=J A->R x A)->cN R l m| [], [],_,_=> IR|x::l,A::m,h,k=> I1 (k 0 x A y y) (oD OL λM a b D c=>k (M+1) a b _Dx (by simpa using c))| [],_::_,h,_=>Mt|_::_, [],h,_=>Mt
theorem dt{f s:Jc}{R:O_}:∀{l:Ib f} {m:Ib s},cN R l m->∀{M:Nat} {x:f} {A:s},Wm l=J x->Wm m=J A->R x A|_,_, .nil,M,x,A,h,_=>Mt|_,_, .cons r t,0,x,A,h,k=>Io|_,_, .cons r t,M+1,x,A,h,k=>dt t (M:=M) OL (by simpa using k)
structure gz(j:GC)(q:aa)(g:bh)(F H:Hp)(X:Ib Rm)(O:Ib bQ):Ir where
 pr:cN (λ(s:aa × aa) (i:bQ)=>r_ j q g F Kf JS i/\H JS=J%Ig%hI MG/\F JS=I) X O
 nd:(X.o (·.2)).am
def gz.len(N:gz θ f ρ g G zM zH):zM.a=P6:=b4 Nb
def gz.go(N:gz θ f ρ G σ zM zH)(a:Wh (G b=J o) (g b=J o))(k:∀s∈zM,∀L,σ JS=J%Ig L->Γ JS=J%Ig L/\g JS=I):gz θ f ρ g Γ zM zH:=(oD N.len λe x A D R=>let (c,b,d):=dt Nb D R;let z:=k x (cm D) _ b;(c.u a,Mn,Rj),Q?)
theorem gz.pO(N:gz θ f ρ g G zM zH){j:Nat}{s:Rm}(D:zM[j]?=J s)(R:zH[j]?=J zJ)(n:Nat):gz θ f ρ g (ak G JS%Ig (hI zJ.aa++ [Id Jy])) zM%g8 zH j n:=by show (oD (by unfold g8;rw [awX];show N.len)%Wn k x A Q v,Q?);unfold g8 at v;rw [GA] at v;by_cases e:j=k;{subst e;rw [D] at Q;cases Q;rw [R] at v;let v:J%Wz j j {zJ with kids:=zJ.aa++ MX} zJ=J A:=v;rw [aA y] at v;cases v;let ((l,pv,p,m,a1,a2),b,a):=dt Nb D R;show ((l,pv,p,m,a1,a2),?_,a);rw [ar];unfold hI;rw [dW];rfl};{cases u:zH[k]? with|none=>cbv|some z=>rw [u] at v;let v:J%Wz j k {z with kids:=z.aa++ MX} z=J A:=v;rw [au e] at v;cases v;let (o,b,a):=dt Nb Q u;show (o,?_,a);rw [aq];{show b};{intro z;(let c:(zM.o (·.2))[k]?=J IY:=_FX);(let h:(zM.o (·.2))[j]?=J JS:=_FY);rw [z] at c;show e%(mI (I! h).1 Q?).R%h.q c.J}}
theorem gz.snoc(N:gz θ f ρ g G zM zH){i:bQ}(h:r_ θ f ρ g W u i)(V:G u=J%Ig%hI MG)(a:g u=I)(c:∀s∈zM,JS≠u):gz θ f ρ g G (zM++ [(W,u,)]) (zH++ [i]):=_b3 (ji Nb (h,V,a)) (Q?,Ii,?_)
def MT(r o f:aa)(X:Ib Rm):Nw:=λb=>b=r∨b=o∨b=f∨∃s∈X,b=JS
structure TS(CR:aa)(j:GC)(q:aa)(g:bh)(F H:Hp)(r tl o f:aa)(all u:Ib bo)(X:Ib Rm)(O:Ib bQ)(t:Ib Iu):Ir where
 rd:dc CR H r tl IH u
 sub:IQ F H
 fr:F r=I
 fn:F o=I
 fa:F f=I
 hn:H o=J%Ig%X.o (λs=>IP Kf)
 ha:H f=J%Ig%hH t
 ne:o≠f
 nt:o≠tl
 at_:XX tl
 kt:∀s∈X,JS≠tl/\JS≠o/\JS≠f
 nodes:gz j q g F H X O
 up:∀a∈t,a<I'
 sz:I'<=60
 kb:∀i∈O,Pd<=I'
theorem TS.moved{a:Ib bo}(S:TS u θ ο ρ G σ f W zd zq δ a zM zH ω)(R:dc u g f W δ Ψ)(k:Kz σ g f):TS u θ ο ρ G g f W zd zq δ Ψ zM zH ω:=by let ((N,Q,p,_),_):=S.rd;show (R,λv x n=>k v x (S.y v x n) (λz=>by rw [z,Q1] at n;cases n),Q1,S.fn,S.fa,k _ _ Sb%dh Sb p KY,k _ _ Qu%dh Qu p KY,S.ne,S.nt,S.at_,S.kt,S.ai.go (WG n n) λs C L n=>Wt%k _ _ n%dh n p KY,S.up,S.sz,S.kb);let (i,l):=JM C;obtain ⟨A,D⟩:∃A,Wg zH=J A:=(zH[i]'(_a3 (I! l) S.ai.len),Ii);show (dt S.ai.pr l D).2.2
def TS.go(S:TS ο θ zd ρ g G f zq u W δ Ψ zM zH ω)(k:Kz G σ f){i:HO}(l:σ f=J i):Go g G g σ%MT f u W zM:=_AG (k,xo k l) S.y (Ik y) Q1
def nodeOf(g:bh)(u:Ib bo):Im (bo × Im Ix × Ib bo):=(ee ed u).ag λx=>match f? g K0 with|none=>none|J p=>(hX P5 IY).ag (λv=>J (I6,P2,L4,))
def adz(CR m q:aa)(j:GC):Sp:=λC H Q Z=>∃F r tl o f all u X O t n g,C= [Ia r, Ia n, Ia o, Ia f]/\TS CR j q g F H r tl o f IH u X O t/\gy j F (Ia n) g/\d0 IH/\I'<60/\(∀h v G,Vq g u=J (h,v,G,)->∀W e i A,Go F H W e%MT r o f X->dc CR e r tl IH G->W r=I->W o=I->W f=I->e o=H o->e f=H f->H A=I->gz j q g W e (X++ [(i,A,)])%Lm t O ((ic g h.ah).az 0)%v.az 0->Q (Ia i) e)/\(Vq g u=I->∀W e,Go F H W e%MT r o f X->Z (Ia m) I e)
theorem x3:a0 [Kr,Jq,JD,PF,Jv,IL,"siblings"] [Kr,Jq,JD,PF]%aR Er:=(y,y,y,Ie,y,Ie,Ie)
theorem aoL(zA:aW r Vr Vr Er ο Q)(R:RG l p r D A u W)(zB:TG r θ)(zh:TN r f [Jv,IL,LI,JC,KQ])(zi:D Kp=K3)(zC:ID l p r D A (bp l p) 1 LU Ml%hD W) (zD:eu l p r D A aB 2 NS _B2 [IG,I2]%DL θ) (zE:ID l p r D A (bp l p) 4 Vo [Kr,Jv]%adx u W θ) (zj:gx l p r D A aB 1 "Node" f [IG,Jv,IL,LI,JC]%ql f [Jv,IL,LI,JC] KQ%Ig []): aJ l p r D A (bp l p) 5 ο Q [Kr,Jq,JD,PF] (adz u W f θ):=by show zA.dZ x3 (Xv zF E zG (F,c,tl,ε,a,all,B,X,O,ω,Γ,g,rfl,_)) λzah T zai zaj H zF E zG L h=>?_;let (F,c,tl,ε,a,all,B,X,O,ω,Γ,g,rfl,S,zk,φ,zak,zH,Δ):=h;let σ:=Zq 3;show (_,ao (Xd x3.nd (aH y)%b5 (pv 1) zB.g.cl zD (σ.u Il) aK%ae (b5 (pv 0) Jm KH σ bw%ae cn aj) aj)%ao (bI%aM zC (σ.u Il) y bw%ae (n'%pW%pv 4) aj)%ao (WS 5 x3.nd (aH y)%aM zE L y bw%ae (pv 0)%ae (pv 4) aj)%ao (bA (eN%tV (pv 3) SJ) (ax%aI%eC zj (σ.u Il) y aK%ae (pv 4)%ae (pv 5)%ae iT%ae aF aj) bM)%ao (WS 6 x3.nd (aH y)%aC (a8 bf (pv 2) (a8 bf (pv 3) (wH wJ aF) IB) IB) y)%ao (bI%ea d9 fw fX fg (pv 6)%ae (cz dr I5 zi c!%ae (pv 2) aj) aj)%ax%aI%eC zj (σ.u Il) y aK%ae (pv 4)%ae (pv 5)%ae (a8 bf (pv 3) (wH wJ aF) IB)%ae (cz dr I5 zi c!%ae (pv 6) aj) aj,?_);dsimp only [bz,b?,bU,cc,tB,eA,bX,cx,dq];obtain ⟨_,zI,zal,zam,⟨⟩,zJ,zan,zao⟩:=id zk;let T:=Va S.rd S.y Q1;let (zap,zaq,Θ):=T.reader;show (_,y,Γ,zI,_,y,S.y _ _ zJ,y,iC T (gv y) gc Il (Wj P zl A1 zm) λξ=>Δ ?_ F H%Ls S.y);rotate_left;{unfold nodeOf;cases B with|nil=>rfl|cons t η=>rw [Yy (ee ed (t::η)=K3) z%ξ%WC%Zc k4 t η%LF φ];rfl};let k:=(k4%LF φ).R P;cases B with|nil=>cases k|cons t η=>let k:Mo=ag:=k;rw [Yw ((hd (t::η)).2= Iv%a! Jj) qd (LF φ t cA) k];let A1:Ar u F H F zl c tl IH η:=A1;let Ξ:=S.gg A1.rd zm;let (zar,zas,zK):=A1.reader;let Φ:=S.go zm zK;(let no:Vq g (t::η)=match f? g Jj with|none=>none|J d=>(hX d.own η).ag (λμ=>J (t,μ.1,μ.2,)):=by unfold nodeOf;rw [W? (ee ed (t::η)=J (t,η,)) k];rfl);show (F,Γ,g,Jj,y,Ξ.y,zk,Wj zat d χ Ψ,We χ);rotate_left;{rw [show f? g Jj=K3 from χ] at no;show (_,y,_,y,(ZJ z),Wx%Δ no F zl Φ)};rw [show f? g Jj=J d from χ] at no;let no:Vq g (t::η)=(hX d.own η).ag (λμ=>J (t,μ.1,μ.2,)):=no;let x:=v? (show f? g Jj=J d from χ);let (τ,zau,zav,zaw,rfl,zax,_):=id Ψ;show (_,y,_,y,We _,ZJ z);show (_,y,_,y,F,c,tl,IH,η,_,d,y,A1.rd,Ξ.y,Q1,φ,Ψ,Wn n G j Z A2,λe zL zM=>Δ (by rw [no,e];rfl) F zL%Φ.q%zM.bv%YN h%Ik h);rw [Z,cO] at no;let β:=Ξ.gg A2.rd λα o e zN=>A2.g.ad α o e zN;let Ω:Go F H F j (MT c ε a X):=Φ.q%A2.g.bv%YN h%Ik h;(let zO:d.own=n.as:=by unfold hX at Z;cases zn:d.own with|false=>cbv|true=>rw [zn] at Z;split at Z;{split at Z;{let (zP,_,za):=JG Z;cases za;rfl};{let (zP,_,za):=JG Z;cases za;rfl}};{cbv});(let zo:∀{ζ:Hp} {ι:Ib bQ} {q:Im Iu} {w:Nat},Go F H F ζ%MT c ε a X->dc u ζ c tl IH G->gz θ f g F ζ X ι->ζ ε=H ε->ζ a=H a->Lm ω O ((ic g Jj).az 0)%n.az 0=ι++ [Z9 ((ic g Jj).az 0) (n.az 0) q w]->∀γ δ,ζ γ=K3->ζ δ=K3->δ≠γ->ql f [Jv,IL,LI,JC] KQ (Ig []) [Ia γ, Ia τ,x1 n,x2 q, Id%Wa w] (ak (ak ζ δ%JA γ) γ%Iq f δ []) (λμ C=>μ= IK/\E (Ia γ) C) E0:=by intro ζ ι q w π zp υ zq zr zQ γ δ N M ξ;show (γ,δ,_,y,y,ar,λC m zs zR zb zt=>QC);let ρ:Xe (ζ α=J o) (C α=J o):=Xl%zs.kp α o (Zw (aq%aU e N) aq%aU e M)%aU e N;let zS:∀α,C α=K3->ζ α=K3:=WO e%er (er Oj) α%zs.bg α e;let zc:ζ m=K3:=er (er Oj) m zR;let zT:Go F H F C (MT c ε a X):=π.q (Xl%ρ α o%π.y α o e,Mj,λ_ _ e=> Ik e,λα o e _=>ρ α o e,zS);let hg:F γ=K3:=b1 π.y N;(let zu:Xe (F α=J o) (ak F γ (Iq f δ%fN (Ia τ) n q w m) α=J o):=Zg o%aq JO);let zU:=zT.cm (o:= (Iq f δ%fN (Ia τ) n q w m)) (π.bg _ N) zt hg;let ((zay,zaz,zV,_),_):=id zp;let ψ:∀{α o},ζ α=J o->α≠γ:=λe=>aU e N;(let zW:m≠γ:=JO);show zH t n G no _ C γ m zU (zp.h0 ρ) (by rw [aq%ψ zV];show S.fr) (by rw [aq%ψ%zq.q Sb];show S.fn) (by rw [aq%ψ%zr.q Qu];show S.fa) ?_ ?_ (π.bg _ zc) ?_;{rw [Sb];show ρ _ _%zq.q Sb};{rw [Qu];show ρ _ _%zr.q Qu};{rw [zQ];let zX:gz θ f g (ak F γ%Iq f δ%fN (Ia τ) n q w m) C X ι:=υ.go zu λs κ zY e=>(ρ _ _ e,by rw [aq%ψ e];let (i,b):=JM κ;obtain ⟨ν,zd⟩:∃ν,Wg ι=J ν:=(ι[i]'(_a3 (I! b) υ.len),Ii);show (dt υ.pr b zd).2.2);show zX.snoc (δ, Ia τ,d,n,ar,Ψ.u zu,x,y,zO) zb (X0 (aq zW)%b1 π.y zc)%X' s κ;let (i,b):=JM κ;obtain ⟨ν,zd⟩:∃ν,Wg ι=J ν:=(ι[i]'(_a3 (I! b) υ.len),Ii);have:=(dt υ.pr b zd).2.1;cbv});(let zv:j ε=H ε:=by rw [Sb];show β.hn);(let zw:j a=H a:=by rw [Qu];show β.ha);cases ω with|nil=>show (_,y,ay, Ik (_,Iw Vs,y),bu (_,y,_,y,Wn γ δ N M ξ));show zo (q:=none) (w:=0) Ω A2.rd β.ai zv zw y γ δ N M ξ|cons v ze=>(let zZ:(hH (v::ze)).bj=ay:=_FU);let zaA:=β.up v Ii;let z0:=β.ai.len;obtain ⟨s,κ⟩:∃s,X[v]?=J s:=(X[v]'Ih,Ii);obtain ⟨i,b⟩:∃i,O[v]?=J i:=(O[v],Ii);let ((z1,zaB,zaC,zf,z2,_),zg,z3):=dt β.ai.pr κ b;let zx:=cm κ;let (z4,z5,z6):=β.kt s zx;(let zy:∀{zY:Ib V},j a=J%Ig%hH (v::ze)->jf (hH (v::ze)) (-1)=J%Id K?:=Wx (by rw [r9];show akl _ _));show (_,y,ag, Ik (_,Iw Vs,by rw [zZ];rfl),bt ?_);show (_,y,_,y,_,y,a,_,_,_,y,y,Iw Vs,zy (zY:= []) Vs,ε,_,_,_,y,y,Iw T1,h7 (v:= (Ia Kf)) (by rw [bL,κ];rfl),Kf,f,z1,_,_,y,β.y _ _ z2,zh.cl,zh.no _ Ii,y,?_);show h_ (f:=JS) (gv y) zg (_,y,ε,_,y, Ik%Iw T1,hI MG,zg,?_,?_);{have:=β.kb i%cm b;have:=β.sz;unfold hI;rw [aQ];show ec Ih};{rw [aQ,z0];let z7:Go F H F (ak j JS%Ig (hI MG++ [Id%Wa I'])) (MT c ε a X):=Ω.q%Kb Ω.y (Iy%Iy%Iy (s,zx,y)) z3;let z8:=β.ai.pO κ b I';(let z9:ak j JS (Ig (hI MG++ [Id%Wa I'])) ε=H ε:=by rw [aq z5.J];show zv);(let zz:ak j JS (Ig (hI MG++ [Id%Wa I'])) a=H a:=by rw [aq z6.J];show zw);(let z_:dc u (ak j JS%Ig (hI MG++ [Id%Wa I'])) c tl IH G:=by let ((z',zaa,Θ,zab,zac),zad,zae,zaf):=A2.rd;let zf:∀{α:aa} {o:HO},j α=J o->(∀zag,o≠ Ig zag)->α≠JS:=λe z=>dh e zg%z _;show ((z',zaa,by rw [aq%zf Θ IZ];show Θ,zab,zac),zad,by rw [aq z4.J];show zae,J8 zaf%Ys α zaD z%aq%zf z IZ));show (_,y,_,y,_,y,_,y,a,_,_,_,y,y,Iw%zz.q Qu,zy (zY:= []) Vs,_,y,JS,_,y, Ik%Iw ar,Wn γ δ N M ξ);have:=zo (q:=J v) (w:=Pd+1) z7 z_ z8 z9 zz (by change g8 O v I'++_=_;(have:pI O v=Pd:=by unfold pI;rw [b];rfl);rw [this]) γ δ N M ξ;(let e:WB (hI MG++ [Iz%Wa I'])=Pd+1:=_FZ);rw [e];show this}
theorem adA(g:bh)(O:Ib bQ):∀(t:Ib Iu) (u:Ib bo),rA g t O u=W! (Wl (ek t u).1) (ek t u).2.bj (J O) I%(eS 44 (ek t u).2).ag (λG=>rR g (ek t u).1 O G)| [],u=>by rw [Bb];rfl|a::o,u=>by rw [Bc];by_cases h:cu 41 u=ag;{rw [aA h,adA g O o%LN 1,W? (ek (a::o) u=ek o%LN 1) h]};{rw [au h,Zp (ek (a::o) u=(a::o,u,)) h,au Ii]}
theorem aoM(g:bh)(t:Ib Iu)(O:Ib bQ)(u:Ib bo):rR g t O u=YZ (y_<=I'∨u?<=t.a) I (Vq g u).ag%Ye x (cu 40 SU) (rR g (I'::t) (Lm t O ((ic g K0).az 0)%(SQ).az 0)%(SU).Q 1)%rA g t (Lm t O ((ic g K0).az 0)%(SQ).az 0) SU:=by rw [aam];split;{rfl};{unfold nodeOf;lk}
theorem uJ(t:Ib Iu)(O:Ib bQ)(p:Nat)(n:Int):(Lm t O p n).a=I'+1:=by cases t with|nil=>change (O++ [_]).a=_;simp|cons a r=>change (g8 O a I'++ [_]).a=_;unfold g8;simp
theorem aoN(h:∀i∈zH,Pd<=P6)(t:Ib Iu)(p:Nat)(n:Int):∀i∈Lm t zH p n,Pd<=(Lm t zH p n).a:=by rw [uJ];cases t with|nil=>(intro i l;rcases d7.R l with l|l;{lk};{cbv})|cons a r=>intro i l;let l:i∈g8 zH a P6++ [_]:=l;rcases d7.R l with l|l;{unfold g8 at l;let (M,X):=JM l;lk};{cbv}
theorem adB:∀(t:Ib Iu) (u:Ib bo),∀a∈(ek t u).1,a∈t| [],u,a,h=>h|b::o,u,a,h=>by by_cases q:cu 41 u=ag;{rw [W? (ek (b::o) u=ek o%LN 1) q] at h;show cL _%adB o _ a h};{rw [Zp (ek (b::o) u=(b::o,u,)) q] at h;show h}
theorem adC:∀(t:Ib Iu) (u:Ib bo),(ek t u).2.a<=I3| [],u=>bj _|b::o,u=>by by_cases q:cu 41 u=ag;{rw [W? (ek (b::o) u=ek o%LN 1) q];have:=adC o%LN 1;lk};{rw [Zp (ek (b::o) u=(b::o,u,)) q];show bj _}
theorem aoO(h:Vq ρ δ=J (zp,zY,Ψ,)):Ψ.a<OV:=by unfold nodeOf at h;let (x,D,R):=JG h;let q:=n1 D;cases d:f? ρ x.1.ah with|none=>cbv|some p=>rw [d] at R;let (A,V,T):=JG R;let j:=Ba V;cases T;lia
theorem Ew(c:L2.St)(M:Nat)(x:Im V):di ((di c [M]).set M x) [M]=di c [M]:=by change ((c.set M I).set M x).set M I=c.set M I;cbv
def take_snoc{l:Ib zg}{x:zg}(h:Wf l=J x):_ak%l.Y q=l.Y (q+1):=by let (t,e):=I! h;rw [agN t,e]
theorem dg{s:Jc}{l:Ib zg}{m:Ib s}{x:zg}(h:Wf l=J x)(e:m.a=LP):∃A,Wf m=J A:=by have:=(I! h).1;cbv
theorem qm(a:IA Ξ E g%Ia f)(N:g f=J%Ig α)(V:z1.a=I8)(c:Su)(D:∀(i:Nat) x A G v,PR=J x->Wg z1=J A->g G=I->IA R ((di E [q]).set q%J x) (ak g G%Ig v) A) (h:∀G,g G=I->ε (Ia G)%ak g G%Ig z1):l5 (tR r Ξ) (bU q) t8 R [q] E g ε:=by show a _ (f,y,(_,Iw N),λG b=>oj (r:=r) (u:=f) (α:=α) (λi d=>d=ak g G%Ig%z1.Y i) _D6 (Wj i d _ e) ?_ ?_);{subst e;show Iw%X1%aU N b};{rintro i x d l rfl;let (A,u):=dg l V;show (Ew _ _ _,kg%D i x A G _ l u b _ (_,ar,?_,?_));{lk};{rw [dE,LW u]}};{lk}
theorem adD(a:IA Ξ E g%Ia f)(N:g f=J%IC α)(V:z1.a=I8)(c:Su)(D:∀(i:Nat) x A G v,PR=J x->Wg z1=J A->g G=I->IA R ((di E [q]).set q%J x) (ak g G%Ig v) A) (h:∀G,g G=I->ε (Ia G)%ak g G%Ig z1):l5 (abB r Ξ) (bU q) t8 R [q] E g ε:=by show a _ (f,y,(_,Ju N),λG b=>akX (r:=r) (u:=f) (α:=α) (λi d=>d=ak g G%Ig%z1.Y i) _D6 (Wj i d _ e) ?_ ?_);{subst e;show Ju%X1%aU N b};{rintro i x d l rfl;let (A,u):=dg l V;show (Ew _ _ _,kg%D i x A G _ l u b _ (_,ar,?_,?_));{lk};{rw [dE,LW u]}};{lk}
theorem Ex{K:aE}{H:Hp}:YB ai%m8 K H (JZ Ki)%JZ vM| []=> IR|x::l=> I1 (Iv x) (Ex l)
theorem adE:∀(l m:Ib ai),nY (JZ vM)%m.o vM=aT (l=m)| [], []=>y| [],_::_=>y|_::_, []=>y|x::l,A::m=>by change (iN (Iv x)%Iv A && nY (JZ vM)%m.o vM)=_;rw [adE l m];change (x==A && aT (l=m))=_;lk
theorem adF:∀{l:Ib kB},(∀f∈l,f.canLay0=ag/\f.e3<=60)->tm l=ag/\tn l<=60| [],_=>(y,cj _)|x::l,h=>by let D:=h x cA;let R:=adF (l:=l) λf hd=>h f%cL _ hd;rw [tm,tn,D.1,R.1];lk
theorem adG{l:Ib kB}(h:∀f∈l,f.canLay0=ag/\f.e3<=60):iM%Js l=ag:=by let (D,R):=adF h;unfold iM;rw [AH,vK,D,o2,cU];lia
theorem adH(h:∀x∈π,lR x=ag):iM%Js%π.o vM=ag:=by show adG%Wb f hd;let (x,N,rfl):=Kl hd;show (by rw [AH];show h x N,by rw [vK];lia)
theorem adI{f s:Jc}{E:f->s}(hf:∀{x A},E x=E A->x=A):∀{l m:Ib f},JZ E=m.o E->l=m| [], [],_=>y| [],_::_,h=>On|_::_, [],h=>On|x::l,A::m,h=>by rw [dJ,dJ] at h;rw [hf (lS h).1,adI hf (lS h).2]
theorem f9(h:Z5 q):Wo q:=by rw [eK];lia
end TW
namespace L2
open PySem PySem.Spec PyProof.Rows
def l?(D:PE (KX v g φ zF zl) O R)(W:mC O L zF%Je O zF=Je O zF):PE (KX v g φ zF zl) (LD O L κ)%cy IO R L:=aC D W
def adJ(N:PE (KX v g φ zF zl) ξ R)(W:PE (KX v g φ zF zl) O Ξ)(P:abY O):PE (KX v g φ zF zl) (Qb ξ O κ)%cR (dM IO) R Ξ:=a8 bf N W P
end L2
namespace TW
open PySem PySem.Spec PyProof.Rows L2
abbrev bO:Nw:=Sx
def adK(m q:aa)(j:GC):Sp:=λC H Q Z=>∃F o X O g,C= [Ia o]/\H o=J%Ig%X.o (λs=>IP Kf)/\IQ F H/\gz j q g F H X O/\iZ g/\(∀i∈O,(Zo k I')/\Pd<=60)/\((∀i∈O,P7 g O i)->∀d,Go F H F d bO->Q IK d)/\((¬ ∀i∈O,P7 g O i)->∀d,Go F H F d bO->Z (Ia m) I d)
theorem uK:a0 [JD,Ka,_Ce,"found",Qv] [JD]%aR xZ:=(y,y,y,Ie,y,Ie,Ie)
theorem aoP(Ξ:aW r Vt Vt xZ W Q)(c:TG r θ)(α:TN r f [Jv,IL,LI,JC,KQ])(R:ID l p r D A (bp l p) 1 LU Ml%hD u): aJ l p r D A (bp l p) 2 W Q [JD] (adK u f θ):=by show Ξ.dZ uK (Wr P (F,o,κ,O,g,rfl,_)) λzr zs zt zu H C P Z L h=>?_;let (F,o,κ,O,g,rfl,G,t,N,φ,Φ,Ψ,Ω):=h;show (_,ax%eB hC y (et%pv 0) (Wu 1 uK.nd%aH y)%ao (Wq uK.nd (aH y)%aC (aC (pv 1) y) y)%ao (p7 (q:=3) (e:= [(Qv,4,)]) y uK.nd y y (p8 y y y y) (et%aC (pv 1) y) (Xf [JD,Ka,_Ce,"found",Qv] (aR xZ) Qv 4 (y,Ie,Ie,Ie,Ie)) (Xc 4 uK.nd%aH y) NX%Xk%l? (l? (adJ (pv 0) (pv 4) IB) y) y)%ax%bI%aM R L y bw%ae (gT (t5%r8 L) (pv 3) (pv 2)%c' _) aj,?_);let μ:=N.len;show (_,y,o,y,(_,Iw G),hx (r:=r) (f:=o) (α:=κ.o λs=>IP Kf) (λi j d=>∃ν ξ ο,j= [J%Ia o,ν,ξ,ο,I]/\Go F H F d bO/\∀(M:Nat) a,M<i->Wm O=J a->P7 g O a) (I,I,I,y, Ls t,λM a h=>Ih) (λi j d _ (_,_,_,_,za,_)=>Iw%za.ad _ _ G id) ?_ ?_);{rintro i x j δ m ⟨ν,ξ,ο,rfl,b,π⟩;rw [bL] at m;let (s,w,rfl):=LS m;let (a,ι):=dg w μ.J;let ((zb,zv,q,n,B,(zc,zd,zw,zx,rfl,ze,zf,_),T,_),zg,_):=dt Nb w ι;let β:∀{ε ζ},F ε=J ζ->δ ε=J ζ:=λe=>b.y _ _ e;let zh:=cm T;dsimp only [bz,b?,bU,dq];show (_,y,Kf,f,zb,_,_,y,β B,Sc,Sd _ Ii,y,zc,Nt,zd,_,_,y,β ze,c.d.cl,c.d.no _ Ii,y,?_);let χ:=Φ a%cm ι;show qm (r:=r) (z1:=(_Ag λθ=>a!%jC g%((O[θ]?).o mq).az 0).o Ki) (gf (gv y) (β B) Sc (Sd _ Ii) y) (b.ad _ _ zg id) _FZ (f9 (by unfold hI;lk)) (λM x z ρ v X γ η=>?_)%Wb ρ η;{unfold hI at X;rw [bL] at X;let (k,ψ,rfl):=LS X;rw [dX,bL,ψ] at γ;obtain ⟨rfl⟩:=γ;let zy:=χ.1 k%cm ψ;obtain ⟨σ,τ⟩:∃σ,O[k]?=J σ:=(O[k],Ii);let (zi,ω):=dg τ μ;let ((zz,_,zj,zA,zk,(zB,zC,zD,zE,rfl,zl,_),zm,_),_):=dt Nb ω τ;(let e:jC g%((O[k]?).o mq).az 0=zj.bo.Z:=by rw [τ];change ((N1[σ.gh]?).o _).az []=_;rw [zm];rfl);(let Γ:∀{ε ζ},F ε=J ζ->ak δ ρ (Ig v) ε=J ζ:=λe=>by rw [aq%aU (β e) η];show β e);change IA _ _ _%Ki%a!%jC g%((O[k]?).o mq).az 0;rw [e];show gf (gf (u:=zi.1) (cX (gv y) (f:=o) (α:=κ.o λs=>IP Kf) (X0 (aq%aU (b.ad _ _ G id) η)%b.ad _ _ G id) (by rw [bL,ω];rfl)%gv y) (Γ zk) Sc (Sd _ Ii) y) (Γ zl) c.d.cl (c.d.no _ Ii) y};{let Δ:=β zf;(let eW:q.aa.o gb=ry g a.gh:=by unfold ry;rw [T];rfl);let Θ:Go F H F (ak δ ρ%Ig%(_Ag λθ=>a!%jC g%((O[θ]?).o mq).az 0).o Ki) bO:=b.q%JI b.y η;(let zn:∀x∈(_Ag λθ=>a!%jC g%((O[θ]?).o mq).az 0),lR x=ag:=λx υ=>by let (k,_,rfl):=Kl υ;unfold jC;cases zo:g.b0[((O[k]?).o mq).az 0]? with|none=>change lR%a! []=ag;unfold lR a!;simp|some zp=>show (φ.2 zp%cm zo).1);show (_,y,_,y, Js _, Js _, Ig (Iw ar)%Ex _, Ig (xs:=(q.aa.o λn=>a! M1).o Ki) (Iw (by rw [aq%aU Δ η,Δ];unfold cb;rw [dX];rfl))%Ex _,adH zn,adH%Wb x υ,_,y,?_);{let (n,zq,rfl):=Kl υ;show (φ.2 q zh).2 n zq};{rw [Yw (iN (Js _)%Js _=_) adE _ _];(let iff:(_Ag λθ=>a!%jC g%((O[θ]?).o mq).az 0)=(q.aa.o λn=>a! M1)↔P7 g O a:=by unfold okNode;rw [←eW];constructor;{intro e;show adI h9 ?_;rw [dX,dX];show e};{intro e;have:=dR (AI a!) e;rw [dX,dX] at this;show this});show (λE=>(_,_,_,y,Θ,Wj M z X γ),λE=>Ω (λh=>dY E%iff.mpr%h a%cm ι) _ Θ);lk}}};{rintro j δ ⟨ν,ξ,ο,rfl,b,π⟩;show Ψ (Wb i m) δ b;let (M,X):=JM m;lk}
open Classical in noncomputable def jk(F H:Hp)(S:Nw):Hp:=λb=>match F b with|J o=>J o|I=>XI (S b) H b I
open Classical in theorem Go.jk{F H W d:Hp}{u:Nw}(g:Go F H W d u)(S:Nw)(a:∀b,S b->H b=I):Go F H (jk W d S) d u/\(Wh (W b=J o) (jk W d S b=J o))/\Wh (S b) (d b=J o->jk W d S b=J o):=by (let G:Wh (W b=J o) (TW.jk W d S b=J o):=λb o e=>by unfold TW.jk;rw [e]);(let n:Wh (TW.jk W d S b=J o) (W b=J o∨(S b/\d b=J o)):=λb o e=>by unfold TW.jk at e;lk);show ((λb o e=>(n b o e).al (g.y b o) (·.2),λb o e=>G b o%_AN b o e,YE o,Ra,g.bg),G,YL b s e);{rcases n b o e with q|⟨s,_⟩;{show g.new b o q};{cbv}};{cases q:W b with|some x=>have:=g.y b x q;cbv|none=>unfold TW.jk;cbv}
def oE(j:GC)(q:aa)(g:bh)(F:Hp)(o:aa)(O:Ib bQ):Ir:=∃X:Ib Rm,F o=J%Ig%X.o (λs=>IP Kf)/\cN (λ(s:aa × aa) (i:bQ)=>r_ j q g F Kf JS i/\F JS=J%Ig%hI MG) X O
def oE.mono{j:GC}{q:aa}{g:bh}{F W:Hp}{o:aa}{O:Ib bQ}(h:∀b a,F b=J a->W b=J a)(p:oE j q g F o O):oE j q g W o O:=let (X,D,R):=p;(X,h _ _ D,J8 R%Xi ((Mn).u h,h _ _ Rj))
theorem dc.lstP(R:dc u g W f δ Ψ)(h:g ο=J%Ig α)(v:ο≠f):dc u (ak g ο%Ig z1) W f δ Ψ:=by let ((p,k,F,s,x),i,C,D):=R;let n:∀{c:aa} {m:HO},g c=J m->(∀N,m≠ Ig N)->c≠ο:=λe z=>dh e h%z _;show ((p,k,by rw [aq%n F Io];show F,s,x),i,by rw [aq v.J];show C,J8 D%Ys c E z%aq%n z Io)
def gz.lst(N:gz θ f ρ g G zM zH)(V:∀s∈zM,JS≠u):gz θ f ρ g (ak G u za) zM zH:=N.go Mj λs c xs e=>(_ai aq%V s c,Zx (i,h) JM c (A,m) (dg h N.len.J) (dt Nb h m).2.2)
theorem TS.node{a:Ib bo}(S:TS zd θ zq ρ Γ g W ο f u δ a zM zH ω){k:aa}(w:Go Γ g G σ%MT W f u zM)(R:dc zd σ W ο δ Ψ)(E:G W=I)(C:G f=I)(c:G u=I)(L:σ f=g f)(N:σ u=g u)(P:g z0=I) (Q:gz θ zq ρ G σ (zM++ [X3 z0])%Lm ω zH q γ) (F:P6<60):TS zd θ zq ρ G (ak σ f%Ig%(zM++ [X3 z0]).o λs=>IP Kf) W ο f u δ Ψ (zM++ [X3 z0]) (Lm ω zH q γ) ω:=by let (_,i,v,_):=S.rd;let T:∀{l:aa} {m:HO},g l=J m->z0≠l:=λe=>(aU e P).J;(let D:∀s∈zM++ [X3 z0],JS≠ο/\JS≠f/\JS≠u:=λs h=>_bP (d7.R h) S.kt s h (T v,T Sb,T Qu));show (R.lstP (L.q Sb) S.nt,W' l m,E,C,c,ar,by rw [aq S.ne.J];show N.q Qu,S.ne,S.nt,S.at_,D,Q.lst%XZ s h (D s h).2,Wb x Z,?_,aoN S.kb ω q γ);{rw [aq JO];show w.y l m e};{rw [uJ];show lQ%S.up x Z};{rw [uJ];lia}
def TS.above(S:TS u θ W ρ g G ο zd zq f δ Ψ zM zH ω){k:Ib Iu}(h:∀x∈k,x<P6):TS u θ W ρ g (ak G f%Ig%hH k) ο zd zq f δ Ψ zM zH k:=by show (S.rd.lstP Qu S.at_,W' c i,Q1,S.fn,S.fa,by rw [aq S.ne];show S.hn,ar,S.ne,S.nt,S.at_,S.kt,S.ai.lst λs h=>(S.kt s h).2.2,h,S.sz,S.kb);rw [aq%_cb z S.fa];show S.y c i e
theorem aoQ(h:∀i∈zH,Zo k P6)(t:Ib Iu)(p:Nat)(n:Int):∀i∈Lm t zH p n,Zo k (Lm t zH p n).a:=by rw [uJ];(let b:∀{N:Im Iu} {W:Nat} (i:bQ),i∈ [(Z9 p n N W:bQ)]->Zo k (P6+1):=λi l k g=>Io);cases t with|nil=>(intro i l k g;rcases d7.R l with l|l;{lk};{show b i l k g})|cons a r=>intro i l k g;let l:i∈g8 zH a P6++ [_]:=l;rcases d7.R l with l|l;{unfold g8 at l;let (M,X):=JM l;lk};{show b i l k g}
def Ey(m q:aa)(j:GC):Sp:=λC H Q Z=>∃F e k n g,C= [Ia e, Ia n]/\H e=J%Ig%cT k/\V'/\IQ F H/\gy j F (Ia n) g/\iZ g/\(∀O W d o,(qM g k).o%ew I 0 0=J O->I'<=60->Go F H W d bO->oE j q g W o O->Q (Ia o) d)/\(qM g k=I->∀W d,Go F H W d bO->Z (Ia m) I d)
theorem r':a0 [J',Jq,Kr,JD,PF,"unfinished"] [J',Jq]%aR Ep:=(y,y,y,Ie,y,Ie,Ie)
theorem aoR(zU:aW r T2 T2 Ep ο Q)(R:RG l p r D A f W)(zV:gx l p r D A (bp l p) 6 _BY f [IG,J']%uq f W)(zi:D Kp=I)(zW:cQ D "MOST_NODES" 60)(zX:cQ D "MOST_LEVELS_trees" 24) (zY:ID l p r D A (bp l p) 1 LU Ml%hD W) (zZ:ID l p r D A (bp l p) 5 Vr [Kr,Jq,JD,PF]%adz f W u θ) (z0:ID l p r D A (bp l p) 4 Vp [Kr,PF]%ady f W) (z1:ID l p r D A (bp l p) 2 Vt [JD]%adK W u θ):aJ l p r D A (bp l p) 8 ο Q [J',Jq]%Ey W u θ:=by show zU.dZ r' (Xh z2 zx (F,χ,zy,ρ,g,rfl,_)) λzal zam zan zao H C z2 zx zz h=>?_;let (F,χ,zy,ρ,g,rfl,z3,zj,z4,z5,z6,zk,zl):=h;let E:∀{M},M<=7->dy M _:=λh=>zz.u h;show (_,ao (Wq _AO (aH y)%eC zV zz y bw%ae (pv 0) aj)%ao (WK _AO (aH y)%bZ aj)%ao (Xd _AO (aH y)%bZ aj)%ao (WS 5 _AO (aH y) kP)%ao (iU hC (b9%pv 5)%ao (bI%aM zY (E Il) y bw%ae (abw (gT kU (cz dr I5 zi c!%ae (pv 3) aj) (cg zW y)%c' _)%tN%gT kU (cz dr I5 zi c!%ae (pv 4) aj) (cg zX y)%c' _) aj)%ao (bI%ea d9 fw fX fg (pv 3)%ae (aM zZ (E Il) y bw%ae (pv 2)%ae (pv 1)%ae (pv 3)%ae (pv 4) aj) aj)%ax%bA (b9%b5 (pv 2) Jm Ps (E Il) aK%ae cn aj) (ax%bI%ea d9 fw fX fg (pv 4)%ae (d? kS (cz dr I5 zi c!%ae (pv 3) aj) aF) aj)%ax%WS 5 _AO (aH y)%aM z0 (E Il) y bw%ae (pv 2)%ae (pv 4) aj)%ao (bI%b5 (pv 2) Jm KH (E Il) bw%ae cn aj)%ao (bI%aM z1 (E Il) y bw%ae (pv 3) aj)%ax%aI%pv 3,?_);dsimp only [bz,b?,bU,cc,tB,bX,cx,dq];let P:=Bh g zy;show adj (G:=F) (gv y) z3 zj z4 (λall zm zn a tl σ A1 Ψ zap zaq=>?_)%WP zm δ%zl Io F d δ;rw [zm,cO] at P;let ψ:rR g [] [] IH=I->∀c d,Go F H c d%WE (H α=I)->zx (Ia W) I d:=λe c d δ=>zl Io c d%δ.an%YN h%Iy h;let (zar,zas,zA):=A1.reader;show (cj _,Wb o Ω);let A2:=Y2 A1.an [] Ω;let zo:=_BR _ Ω;show (cj _,XO ω);let A3:=Y2 A2.an [] ω;let za:=_BS _ ω;let zB:Xg o:=aU (_aN (ak zn o (Ig []) o=J _)) ω;(let z7:Go F H F (ak (ak zn o%Ig []) b%Ig []) (WE (H α=I)):=A3.g.bv%WO h (by rw [h];show σ));let z8:TS f θ u g F (ak (ak zn o%Ig []) b%Ig []) a tl o b IH IH [] [] []:=(A3.rd,A3.g.y,A3.off,b1 A1.g.y Ω,b1 A2.g.y ω,W5 zB,ar,zB,A1.uB Ω,A2.uB ω,OF,(IR, IR),OF,cj _,OF);show (λzp zC d=>∃c G X O t α,zC= [J%Ia χ,J%Ia ρ,J%Ia a,J%Ia o,J%Ia b,J%IJ α]/\TS f θ u g c d a tl o b IH G X O t/\Go F H c d%WE (H α=I)/\(∀s∈X,H JS=I)/\(∀i∈O,Zo k I')/\((α=ag/\zp=JY+1/\rR g [] [] IH=rR g t O G)∨(α=ay/\zp=0/\rR g [] [] IH=X_ G.bj O)),(_,F,IH, [], [], [],ag,y,z8,z7,OF,OF, Ik (y,y,y)),?_);rintro zp zC ι ⟨ζ,G,X,O,t,α,rfl,β,η,zb,zD,z9⟩;let A4:Ar f ζ ι ζ ι a tl IH G:= R4 β.rd β.y β.fr;let zE:=TC Ψ;(let mt:∀{zF},(∀s∈zF,H JS=I)->∀α,MT a o b zF α->H α=I:=λh α z=>by rcases z with z|z|z|⟨s,j,z⟩;{rw [z];show σ};{rw [z];show zo};{rw [z];show za};{lk});rcases z9 with ⟨rfl,rfl,γ⟩|⟨rfl,rfl,γ⟩;{show (_,y,_,y,bu ?_);show (λzG d=>∃Z,Z<JY+1/\∃c G X O t α,zG= [J%Ia χ,J%Ia ρ,J%Ia a,J%Ia o,J%Ia b,J%IJ α]/\TS f θ u g c d a tl o b IH G X O t/\Go F H c d%WE (H α=I)/\(∀s∈X,H JS=I)/\(∀i∈O,Zo k I')/\((α=ag/\Z=JY+1/\rR g [] [] IH=rR g t O G)∨(α=ay/\Z=0/\rR g [] [] IH=X_ G.bj O)),WP zG h h,?_);rw [aoM g t O G] at γ;dsimp only [bz,b?,bU,cc,tB,cx,dq];(let zq:(X.o λs=>IP Kf).a=I':=by rw [aQ];show β.ai.len);show (_,y,o,_,y, Ik%Iw T1,_,_,y,y,_,y,?_);rw [zq];show cF Ny Ny;rotate_left;{show (_,y,(ZJ z),Wx%ψ ?_ ζ ι η);have:¬ Wc I'<60:=λz=>j%b8 z;show γ.q%aA%Ik%Y6 (60<=I')};(let j:I'<60:=Yx j);show (_,y,b,_,y, Ik%Iw Vs,_,_,y,y,?_);rw [Eu];show (_,y,We τ,λτ=>ψ ?_ ζ ι η);rotate_left;{have:¬ Wc t.a<24:=dY τ;show γ.q%aA%Iy%Y6 (24<=t.a)};(let τ:t.a<24:=IZ);rw [au%ZI (60<=I'∨24<=t.a)] at γ;show h_ (gv y) T1 (_,y,_,y,_,y,_,y,ζ,a,tl,o,b,IH,G,X,O,t,ρ,g,y,β,z5.u η.ext,Ψ,j,λzc v C zH ε κ x ξ υ z_ z' zI zaa zJ zab zK Γ=>?_,λe c d δ=>ψ (by rw [γ,e];rfl) c d%η.q%δ.bv%mt zb);rw [zH,cO] at γ;dsimp only at γ;let zat:=aoO zH;show (_,zJ.q T1,by rw [zq];show ec Ih,?_);let n:=β.node υ z_ z' zI zaa zJ zab zK Γ j;rw [dW] at n;let μ:Go F H ε _ (WE (H α=I)):=(η.q%υ.bv%mt zb).q%Kb (m:=o) (o:= (Ig ((X.o λs=>IP Kf)++ [IP x]))) (υ.y) zo zI;(let zd:∀s∈X++ [(x,ξ,)],H JS=I:=λs h=>_bP (d7.R h) zb s h%η.bg _ zK);let zr:=aoQ zD t ((ic g zc.ah).az 0)%v.az 0;let zs:Ar f ε _ ε _ a tl IH C:= R4 n.rd n.y n.fr;let zL:=zs.a7 Ψ;show r6 zs (gv y) gc Il (λzt zM zN T=>(_,y,bu ?_)) λΔ=>(_,y,bt ?_);{rw [aA%(df zL 40).R zt] at γ;let φ:=n.gg zN.rd T;let (zau,zav,zac):=zN.reader;let zu:Go F H ε zM (WE (H α=I)):=Se%(n.go T zac).bv%mt zd;show h_ (gv y) φ.ha (_,y,o,_,y, Ik%Iw φ.hn,_,_,y,y,_,φ.ha,by rw [Eu];show ec Ih,_,?_,ε,C.Q 1,X++ [(x,ξ,)],_,I'::t,ag,y,?_,zu.q%Kb φ.y za φ.fa,zd,zr, Ik (y,y,γ));{rw [fF];lia};{have:=φ.ey (k:=I'::t) (λq w=>by rw [uJ];rcases b0.R w with z|z;{lia};{show lQ%β.up q z});rw [r9] at this;lk}};{rw [au λz=>Δ%WC%df zL 40,adA] at γ;show (_,y,_,y,ε,a,tl,IH,C,b,t,y,n.rd,n.y,n.fr,n.fa,Ψ,n.ha,n.at_,?_);let zaw:=adC t C;(let zO:∀{d L B ze},Go ε _ ε d%M2 a b->dc f d a tl IH L->d b=J%Ig%hH B->(∀q∈B,q∈t)->((ze=ag/\I0<L'+1/\rR g [] [] IH=rR g B (Lm t O ((ic g zc.ah).az 0)%v.az 0) L)∨(ze=ay/\rR g [] [] IH=X_ L.bj%Lm t O ((ic g zc.ah).az 0)%v.az 0))->_:=λ{d L B ze} δ Θ Ξ zad h=>show ∃Z,Z<JY+1/\∃c G X O t α, [J%IP χ,J%Ia ρ,J%Ia a,J%Ia o,J%Ia b,J%IJ ze]= [J%Ia χ,J%Ia ρ,J%Ia a,J%Ia o,J%Ia b,J%IJ α]/\TS f θ u g c d a tl o b IH G X O t/\Go F H c d%WE (H α=I)/\(∀s∈X,H JS=I)/\(∀i∈O,Zo k I')/\((α=ag/\Z=JY+1/\rR g [] [] IH=rR g t O G)∨(α=ay/\Z=0/\rR g [] [] IH=X_ G.bj O)) by let Φ:∀{m:aa} {N:Ib V},ak κ o (Ig ((X.o λs=>IP Kf)++ [IP x])) m=J%Ig N->Xg m->d m=J%Ig N:=λe Δ=>δ.ad _ _ e (λz=>OX (λz=>by let (zP,k,zA):=zs.reader;lk) Δ);(let zQ:TS f θ u g ε d a tl o b IH L (X++ [(x,ξ,)]) (Lm t O ((ic g zc.ah).az 0)%v.az 0) B:=by show (Θ,NP,n.fr,n.fn,n.fa,Φ n.hn n.ne,Ξ,n.ne,n.nt,n.at_,n.kt,n.ai.go Mj λs zf N e=>Wt%Φ e (n.kt s zf).2.2,λq w=>n.up q%zad q w,n.sz,n.kb);let (i,ν):=JM zf;let (q,w):=dg ν n.ai.len.J;show (dt n.ai.pr ν w).2.2);let zg:Go F H ε d%WE (H α=I):=Se%δ.bv%WO z%OX (λz=>_F0) (λz=>_F1);rcases h with ⟨rfl,h,e⟩|⟨rfl,e⟩;{show (I0+1,Ih,ε,L,X++ [(x,ξ,)],_,B,ag,y,zQ,zg,zd,zr, Ik (y,y,e))};{show (0,Ih,ε,L,X++ [(x,ξ,)],_,B,ay,y,zQ,zg,zd,zr, Iy (y,y,e))});show (λe d δ Θ Ξ=>zO (B:= []) δ Θ Ξ OF%Iy (y,by rw [γ,aA e]),λe zv d δ Θ Ξ=>zO δ Θ Ξ (adB t C)%Ik (y,Uz,?_),λe zv d δ=>ψ ?_ ε d%Se%δ.bv%WO z%OX (λz=>_F0) λz=>_F1);{rw [γ,au e,W? (eS 44 (ek t C).2=J _) zv];rfl};{rw [γ,au e,Zp (eS 44 (ek t C).2=I) zv];rfl}}};{show (_,y,_,y,bt ?_);let (zP,k,zR):=A4.reader;show (_,y,a,zP,_,y,zR,y,a,tl,IH,G,_,y,β.rd,Wj zt κ _ zh,λΔ=>ψ ?_ ζ ι η);rotate_left;{rw [γ,au];intro z;have:=CX zE;lk};(let zae:G.bj=ag:=by rw [←CX zE];show b8 zt);rw [aA zae] at γ;rw [γ,cO] at P;(let zaf:∀α,κ α=I->ι α=I∨α=a:=WO e (by by_cases z:α=a;{show Iy z};{cases zk:ι α with|none=>show Ik y|some π=>rw [zh α π zk z] at e;cases e}));let zw:∀{m:aa} {N:Ib V},ι m=J%Ig N->κ m=J%Ig N:=λe=>zh _ _ e%dh e zR KY;let Γ:gz θ u g ζ κ X O:=β.ai.go Mj λs zf N e=>(zw e,Zx (i,ν) JM zf (q,w) (dg ν β.ai.len.J) (dt β.ai.pr ν w).2.2);let zS:IQ ζ κ:=_ca π%zh α π (β.y α π e)%_cb z β.fr;let υ:Go F H ζ κ (WE (H α=I)):=(zS,η.ext,η.new,λα π e zj=>zh α π (η.ad α π e zj)%aU e σ,WO e (by rcases zaf α e with z|z;{show η.bg α z};{rw [z];show σ}));show (_,y,ζ,o,X,O,g,y,zw T1,zS,Γ,z6,λi ν=>(zD i ν,by have:=β.kb i ν;have:=β.sz;lia),Wd zag S μ,λzah S μ=>zl ?_ ζ S%(υ.q%μ.bv Ku).an%YN h%Iy h);rotate_left;{rw [au zah] at P;show Hk.R P};rw [aA zag] at P;let zu:Go F H ζ S bO:=(υ.q%μ.bv Ku).an%YN h%Iy h;(let (zg,zai,zT):=zu.jk (WE (α=o∨∃s∈X,α=JS))%XR α h);let Φ:∀{m:aa} {N:Ib V},κ m=J%Ig N->S m=J%Ig N:=λe=>μ.ad _ _ e id;show (_,y,zk O _ S o P β.sz zg (X,zT _ _ (Ik y)%Φ%zw T1,?_));show oD Γ.len (λM s i j τ=>let (zaj,zak,_):=dt Γ.pr j τ;(zaj.u zai,zT _ _ (Iy (s,cm j,y))%Φ zak))}
end TW
namespace L2
open PySem PySem.Spec PyProof.Rows
def eQ(f:Ib ai):Iu->Iu|0=>0|i+1=>match (Wg f) with|J k=>Yg (k∈f.Y i) eQ f i (eQ f i+1)|I=>eQ f i
theorem x4(f:Ib ai):∀i,eQ f i<=i|0=>bj _|i+1=>by have:=x4 f i;unfold eQ;split;{split<;>lia};{lia}
theorem adL(f:Ib ai):∀i,i<=Mw->(eQ f i=i↔(f.Y i).am)|0,_=>by simp [eQ]|i+1,h=>by let c:=adL f i Ih;let g:=x4 f i;(let e:Wg f=J f[i]:=Ii);rw [←_D7 e,ky];unfold eQ;rw [e];dsimp only;split;{rename_i d;constructor;{intro z;lia};{rintro ⟨_,_,z⟩;show a' y%z _ d _ Ii}};{rename_i d;constructor;{intro z;show (c.R Ih,Ii,λa N b W=>by simp at W;subst W;rintro rfl;show d N)};{rintro ⟨z,_⟩;have:=c.mpr z;lia}}
def km(f:Ib ai)(i:Nat):WA be| .inl _=>false| .inr x=>aT (x∈f.Y i)
theorem aoS(h:Wf π=J L)(k:be):(km π q k||aT (k=fQ L))=km π (q+1) k:=by cases k with|inl n=>change (ay||aT ((nF n:be)=fQ L))=ay;rw [bD KY];rfl|inr A=>change (aT (A∈π.Y q)||aT ((fQ A:be)=fQ L))=aT (A∈π.Y (q+1));rw [←_D7 h,e_];simp
section
theorem aoT{R:WL o!}{a:Ib aa}{G:WF (KC _Bp)%KC _Bp}{Pv:WF Iu ah}{St:WL Iu}(W:WalksS l p MS u a zl G KD Pv St)(m:f∉a) (A:∀i s,Pv i s->∃x t,Wg π=J x/\s= Iv x t) (ε:KD+1<scanBound): ∀(M i:Nat) (v:az),KD - i=M->i<=KD->St i v->v.j.h3 (e2 l p) f (km π i)%eQ π i->(∀q,Moved (f::zl) G v q->q.j.h3 (e2 l p) f (km π KD)%eQ π KD->R (JF%QZ Ja) q)->lL (a7 l p) μ (Jf "set.update.loop" ([Ia f, Ia u], [])) R v:=by let C:f∉zl:=λz=>m%W.y _ z;let P:∀b∈zl,b∈f::zl:=λb z=> .tail _ z;intro M;induction M with|zero=>intro i v X w st N S;(obtain rfl:i=KD:=Ih);show tp axJ ?_;rw [AJ agW _];change aG _ MS (fS (Ia u)>>=_) _ _ v;show aw%W.done v _ _ st%Wb q O;let (o,g,h,t,j,more):=N;show aZ%S q (O.u P) (o,g,h,t,O.j f _ C j,S4)|succ M c=>intro i v X w st N S;(let L:i<KD:=Ih);show tp axJ ?_;rw [AJ agW _];change aG _ MS (fS (Ia u)>>=_) _ _ v;show aw%W.item i v _ _ L st%Wn s q pv gP O;let (x,t,r,rfl):=A i s pv;let (o,g,h,Q,j,more):=N;let d:q.j.h3 (e2 l p) f (km π i) (eQ π i):=(o,g,h,Q,O.j f _ C j,S4);change aG _ MS (lK [vn x t] (setAdd f%Iv x t)>>=_) _ _ q;show aw%js ?_;unfold setAdd;show js%aw%(e2 l p).pyHash (k:=fQ x) (By l p x t) ?_;let ζ:=x4 π i;show wpAny_setAddHashed_of (knd:=e2 l p) (s:={q with toks:=q.do+1}) (By l p x t) y d Ih%Wd V D H;(let α:V.h3 (e2 l p) f (km π (i+1)) (eQ π (i+1)):=by rw [Yt ((λk=>km π i k||aT (k=fQ x))=km π (i+1)) mH%aoS r] at H;(let e:(Ww (km π i%fQ x) (eQ π i) (eQ π i+1))=eQ π (i+1):=by change (Ww (aT (x∈π.Y i)) (eQ π i) (eQ π i+1))=eQ π (i+1);rw [show eQ π (i+1)=Yg (x∈π.Y i) eQ π i (eQ π i+1) by conv=>lhs;unfold eQ;rw [r]];by_cases z:x∈π.Y i;{rw [b8 z,aA y,aA z]};{rw [bD z,au Il,au z]});rw [←e];show H);show aZ (tq agW _,c (i+1) _ Ih L (W.g5 _ q _ _ gP (q5 _)%ZP b n o e%D.2 b λz:b=f=>m (z▸n)) α%Wd β γ δ);show S β (Moved.q W.gtrans ((O.u P).then_heap (q5 _)%ZP b o n e%D.2 b λz:b=f=>n (z▸cA)) γ) δ
set_option maxHeartbeats 3200000 in theorem aoU(H:M_=I)(V:Tg f zb)(G:Jk=KD)(A:∀(i:Nat) q,Wg zb=J q->∃x t,Wg π=J x/\q= Iv x t)(ε:KD+1<scanBound) (S:∀(R:aO) (tk:Nat),R.h3 (e2 l p) II (km π KD)%eQ π KD->(Wh (Ji b=J o) (R.E b=J o))->zC (Ia II)%Yc R): aG (a7 l p) μ (fU (IU L!) [Ia f]) zC υ v:=by let (j,tl,σ):=rk.mro;let made:=rk.made;let τ:=rk.y;show Au%_F2 ?_;change aG _ _ (callAny (IU L!) _) _ _ _;show aZ (axK _ Ie,tp axL ?_);rw [axM (axN L! [Ia f] []) y];let Q:=rk.notType;let a:=rk.canCreate;let φ:=PySem.F.typeCall_set_1%Ia f;(repeat (any_goals (first|assumption|wp_step)));show q4 (code_set_new_1 (Ia f) (E:=υ) (Q₁:=λX m=>∃d:Bool,X= Ia II/\m=YM Jw%ZN (IU L!)%Tf Ks 0%Vu 0 0 d) λd=>(d,y,y))%Wd r m L;cases r with|error e=>show L|ok h=>cases h with|ret X=>let (d,rfl,rfl):=L;generalize C:(ZN (IU L!)%Tf Ks 0%Vu 0 0 d:bb)=M;let α:(Jw M).E II=J M:=ep _ (by rw [←C];rfl);let ζ:Ht (YM Jw M) (Ia II) L!:=(_,α,by rw [←C]);let g:=rk.init.B;let χ:=rk.init.ag%Ia II;(repeat (any_goals (first|assumption|wp_step)));show q4 (Hu (R:=_Af (λr u=>r= Ja/\∃R tk,u=Yc R/\R.h3 (e2 l p) II (km π KD)%eQ π KD/\Wh (Ji b=J o) (R.E b=J o)) υ) rk.init.plain PySem.F.entry_set_init%check_set_init_1 ζ ?_)%Wd η u E;{subst C;let ((ψ,ω,Γ,B),P,rfl,θ,rfl):=V;let n:(Jw%ZN (IU L!)%Tf Ks 0%Vu 0 0 d).ev f zb:=(_,dz _ P,y,θ,y);let β:f<II:=cZ P;let Δ:=dz (ZN (IU L!)%Tf Ks 0%Vu 0 0 d) P;let Θ:=PySem.F.sub_list_set;let Ξ:=PySem.F.sub_list_frozenset;(let Φ:(jq JT==jq No)=ay:=Il);unfold Builtin.«set.__init__» noKeywords Builtin.Frozenset.updateFrom;generalize ι:mB=PI;wp_walk;subst ι;show vu n%aw%wpAny_runValue ?_;let c:(Jw%ZN (IU L!)%Tf Ks 0%Vu 0 0 d).cw=II+1:=i8 ..;let γ:=(agE (prog:=l) (w:=p) (A:=μ.in1.in1.in1) (by simp [H]) _ f (by rw [c];show eF%lQ β:XX (Jw%ZN (IU L!)%Tf Ks 0%Vu 0 0 d).cw) zb).toS;rw [G] at γ;show aoT γ (f:=v.heap.objs.size) (_b' (b0.R z) (a' z%eF%qS _) a' (T4 z)%o' β) (λi q e=>A i q e) ε _ 0 _ y (cj _) ((_,ep _ y,y,y),n.av _) ?_ ?_;{(let F:km π 0=Wx ay:=mH (λk=>by cases k<;>rfl));rw [F];show (_,Ks,0,_,dz _ α,(y,y,y),y,(λe D=>by simp at D),(λk=>Ii),Il,y,y)};{rintro ⟨W,κ,s,ν,ξ⟩ O ο;obtain rfl:κ=v.gens:=O.gens;obtain rfl:s=v.drawn:=O.drawn;obtain rfl:ξ=v.os:=O.os;show aZ%aZ (y,W,ν,y,ο,YE o);let δ:=cZ e;show O.j b o (_b' (b0.R z) (a' z%eF δ) a' (T4 z)%eF%lQ δ)%dz _%dz _ e}};{cases η with|error e=>show E|ok w=>cases w with|ret r=>let (rfl,R,tk,rfl,N,ρ):=E;(repeat (any_goals (first|assumption|wp_step)));show S _ _ N ρ|_=>show E.al}|_=>show L.al
end
def aoV(K:aE)(S:TE):TE:=λc H Q=>S c H λx M=>∃a f,x= Ia a/\aD K M a%MH Ki/\Mw<4000/\Q (Id%ZR eQ f Mw) M
theorem boot_set:hT L!=J%IU L!:=Ie
theorem aoW{p T:cv}(m:NJ=ag)(e:Gl j Kp)(Z:Gl j L!)(α:J9 Kp=I)(r:J9 L!=I)(D:PE j O R) (P:cK [J0 (JU L! κ) Kk [] zj] IE= [ZZ%J0 (JU L! κ) Kk [] zj]:=by rfl) (b:cK Kk IE= SO:=by rfl): PE j (J0 (JU Kp p) [J0 (JU L! κ) Kk [] zj] [] T) (aoV IO R):=by intro F s c H Q B h;show mF%kQ B e α c! ?_ Il Il;show axn ?_ P y;rw [P];show pd ?_;show mF%kQ B Z r boot_set ?_ Il Il;show vv ?_ b y;rw [b];show pd%bq (D F s c H _ B h) λC w (ζ,M,l,β,a,f,G,n,η,q)=>q3 ?_;subst G;cases β;let (d,u,W,_):=l.dl n;let o:=I3;rw [aQ] at o;show aoU (π:=f) (l.ok.hd m) QV (by rw [dF];show o.J) (Wd i v A) (by unfold scanBound;lia) λγ tk N x=>q3 ?_;{(let A:Wg d=J v:=_Av);let L:=(I! A).1;(let g:Wg f=J f[i]:=Ii);let (C,t,δ):=u.get%_a_ (Wg%MH Ki=J%Ki f[i]);rw [A] at t;cases t;let (z,rfl):=δ;show (_,z,g,y)};{let k:Ip j F c M {w with heap:=γ,toks:=tk}:=l.dm x;let (θ,ι,S,z,ε,hex,hd,_,_,μ,hf,E):=N;have:=x4 f Mw;show call_len_set ε hex hd hf (by rw [E];lia) ?_;rw [E];show (Id%ZR eQ f Mw,M,k.tok _,(_,y),q)}
end L2
namespace TW
open PySem PySem.Spec PyProof.Rows L2
abbrev Ez:aS:=IF 90
abbrev EA:aS:=IF 91
abbrev x5:aS:=IF 92
abbrev x6:aS:=IF 93
abbrev x7:aS:=IF 94
abbrev x8:aS:=IF 95
abbrev EB:aS:=IF 96
abbrev x9:aS:=IF 97
theorem r!{s:Jc}{E:zg->s}(hf:∀{x A},E x=E A->x=A):∀{l:Ib zg},(JZ E).am↔l.am| []=>Ii|x::l=>IZ
def x_:Sp:=λC H Q _=>∃l,∃f:Ib ai,C= [Ia l]/\H l=J%Ig%MH Ki/\Mw<4000/\Q (IJ%aT f.am) H
theorem tT(i M:Int):aT (Iz i=Iz M)=aT (i=M):=Io
def qn(b:IA R E g%Ia f)(h:g f=J%Ig α):IA (rP (λa g ε=>∃p w,a= [IP p]/\(aD r g p w∨bS r g p w)/\ε (Id%Wa w.a) g)%bP R bY) E g%Id%Wa I8:=λk q=>b _ (f,α,y, Ik%Iw h,q)
def gI{b:Ix->Ix->V}(c:IA R E g%Id γ)(k:IA Ξ E g%Id zu):IA (cR (jH b) R Ξ) E g%b γ zu:=λa q=>c _%k _ (γ,zu,y,y,q)
def ng(a:IA R E g%IJ zc)(z:zc=ag->ε IK g)(O:zc=ay->τ (Ia f) I g):fc (hD f) [] τ (bP R bY) E g ε:=a _ (zc,y,z,O)
def aoX(a:IA R E g%Ia f)(h:g f=J%Ig%π.o Ki)(b:KD<4000):IA (fc x_ [] τ%bP R bY) E g%IJ%aT π.am:=λk q=>a _ (f,π,y,h,b,q)
theorem aoY:a0 [Vv] [Vv]%aR EA:=(y,y,y,Ie,y,Ie,Ie)
theorem aoZ(W:aW r T5 T5 EA f Q)(d:D Kp=I)(g:D L!=I):aJ l p r D A aB 1 f Q [Vv] x_:=by show Jb aoY (Wr j (b,a,rfl,_)) λc T m s H C j Z L h=>?_;let (b,a,rfl,h,k,q):=h;show (_,ax%aI%gT kT (aoW y y y d g%pv 0) (cz dr I5 d c!%ae (pv 0) aj)%c' _,?_);show (_,y,b,a,y,Iw h,k,_,y,b,_,y, Ik%Iw h,y,?_);rw [aQ];(let e:aT a.am=aT (Zu eQ a Kj=Wa Kj):=by let i:=adL a Kj%bj _;lk);cbv
def bN(l:Ib mr):Ib ai:=JZ λn=>a! M1
def oF(l:Ib mr):cb l=(bN l).o Ki:=by unfold cb bN;rw [dX];rfl
def adM{l:Ib mr}:(bN l).am↔(JZ gb).am:=by rw [←r! (E:=a!) h9,dX];show sU
def x'(m:aa)(j:GC)(e:Hp->WF bh V)(c:WI bh):Sp:=λC H Q Z=>∃F v g,C= Kv/\IQ F H/\e F g v/\(c g->∀d,Go F H F d bO->Q IK d)/\(¬ c g->∀d,Go F H F d bO->Z (Ia m) I d)
theorem x!:a0 [J?,T6] SV%aR x5:=(y,y,y,Ie,y,Ie,Ie)
theorem ao0(υ:aW r Vw Vw x5 u Q)(γ:TG r θ)(ο:D Kp=I)(φ:cQ D "MOST_SYMBOLS" 12)(χ:cQ D "MOST_ATTRIBUTES" 4)(δ:ID l p r D A (bp l p) 1 LU Ml%hD f)(β:ID l p r D A aB 1 T5 [Vv] x_): aJ l p r D A (bp l p) 2 u Q SV (x' f θ (λF g v=>∃α,v= Ia α/\hG (f7 θ) F α QL) g9):=by show υ.dZ x! (Wr w (F,v,g,rfl,_)) λΩ za zb s H C w Z L h=>?_;let (F,v,g,rfl,t,(α,rfl,C,ψ,d),q,ε):=h;let o:=b4 d;show (_,ao (bI%aM δ L y bw%ae (tU gQ gQ aF (cz dr I5 ο c!%ae (pv 0) aj)%cg φ y) aj)%ao (bI%aM δ L y bw%ae (aM β L y aK%ae (jJ (e:= [(T6,1,)]) y x!.nd (et%pv 0) (Xf [J?,T6] (aR x5) T6 1 (y,Ie,Ie,Ie,Ie)) (Xc 1 x!.nd%aH y) NX%Xk%l? (pv 1) y) aj) aj)%ax%eB hC y (et%pv 0) (Wu 1 x!.nd%aH y)%ao (bI%aM δ L y bw%ae (gT gQ (cz dr I5 ο c!%ae (aC (pv 1) y) aj) (cg χ y)%c' _) aj)%ax%bI%aM δ L y bw%ae (aM β L y aK%ae (aC (pv 1) y) aj) aj,?_);dsimp only [bz,dq];let ζ:=t _ _ ψ;let B:Go F H F H bO:= Ls t;(let zc:∀{π:Bool},(π=ag↔(1<=Mq/\Mq<=12))->π=ay->¬ g9 g:=λh e z=>by rw [(h.mpr (Mn,Rv))] at e;cases e);(let ω:∀{k:VK},k (IJ%aT (1<=Mq/\Mq<=12)) H->wK (jH λi M=>M9%aT (i<=M)) (jH λi M=>M9%aT (i<=M)) (tC%Iz 1) (rP (λC H w=>∃E ι,C= [IP E]/\(aD r H E ι∨bS r H E ι)/\w (Id%Wa ι.a) H)%bP (bH 0) bY) (tC%Iz 12) [J%Ia α,I] H k:=λ{k} q=>by dsimp only [wK,tC];show qn (r:=r) (gv y) ζ _ ?_;show (_,_,y,y,_,y,?_);rw [o];by_cases h:1<=Mq;{rw [b8 Ih];show bu (_,_,y,y,?_);(let e:aT (1<=Mq/\Mq<=12)=aT (Wc Mq<=12):=IZ);cbv};{cbv});show ng (λk q=>ω q) Ny λj=>ε (λz=>a' (And.intro Mn Rv)%dY j) H B;let j:=cw j;(let zd:Wa L'<=12:=Ih);dsimp only [fc,bP,bY];show qm (r:=r) (z1:=(RA λs=>a! MI).o Ki) (gv y) ζ (by rw [aQ,aQ,o]) (f9 Ih) (λi x a G ze P b β=>?_)%Wb G β;{let (zf,Γ,(ρ,Δ,ld,Θ,σ,rfl,N,_),_):=i0 d P;rw [dX,bL,Γ] at b;cases b;show gf (gv y) (XN (aU (t _ _ N) β) t N) γ.s.cl (γ.s.no _ Ii) y};{show (G,_,y,ar,_Cf,?_);show (_,y,Rt,λR=>ε (λz=>dY R ?_) _%B.q%JI t β);rotate_left;{have:=(Ss).1;rw [←r! (E:=a!) h9,dX] at this;show this};let R:=cw R;let S:Go F H F (ak H G%Ig%(RA λs=>a! MI).o Ki) bO:=B.q%JI t β;let Ξ:=S.ad _ _ ζ id;show (_,y,α,y,(_,Iw Ξ),hx (r:=r) (f:=α) (α:=C) (λi c τ=>∃κ,c= [J%Ia α,κ]/\Go F H F τ bO/\∀(M:Nat) a,M<i->Wm QL=J a->(KS a).a<=4/\(KS a).am) (I,y,S,λM a h=>Ih) (λi c τ _ (_,_,Φ,_)=>Iw%Φ.ad _ _ ζ id) ?_ ?_);{rintro i x c m P ⟨κ,rfl,O,μ⟩;let (a,b,(ρ,Δ,ld,Θ,σ,rfl,N,_,_,Ψ),_):=i0 d P;dsimp only [bz,dq,bU];let n:IA (cy r (bH 1) R9) [J%Ia α,J%Ia ρ] m (Ia σ):=gf (gv y) (J2 _ _ N) γ.s.cl (γ.s.no _ Ii) y;let ν:=J2 _ _ Ψ;let η:(KS a)=(a.db++a.ups).o gb:=(n3 a).J;let no:∀h:¬ ((KS a).a<=4/\(KS a).am),¬ g9 g:=λh z=>h%SR a%cm b;show ng (gI (qn n ν) gc) (We T) λT=>ε (no λz=>dY T ?_) m O;rotate_left;{have:=Mn;rw [η,aQ] at this;unfold cb;rw [aQ];lia};let T:=cw T;unfold cb at T;rw [aQ] at T;rw [oF] at ν;show ng (aoX n ν (by unfold bN;rw [aQ];lia)) (λW=>(_,y,O,Wj M z X ξ)) λW=>ε (no λz=>dY W%adM.mpr Io) m O;by_cases e:M=i;{subst e;rw [b] at ξ;cases ξ;show (by rw [η,aQ];lia,by rw [η];show adM.R%cw W)};{lk}};{rintro c m ⟨κ,rfl,O,μ⟩;show q (j.1,j.2,?_,W8 b) m O;{lk};{let (M,X):=JM b;show μ M a IZ X}}}
def x?(k:IA R E g%Ia f)(L:IA Ξ E g%Iv%a! zf)(s:IQ G g)(h:gy θ G (Ia f) ρ)(q:∀v s,eZ ρ zf=J s->f7 θ G v s->ε v g)(O:eZ ρ zf=I->ε IK g): fe NS R' (qi θ) [] τ R (bP Ξ bY) E g ε:=by let (l,X,i,a,e,N,_):=id h;cases e;show k _ (f,X,_,y,s _ _ N,y,L _ (G,f,ρ,zf,y,s,h,q,O))
def ya(g:bh):Ir:=_Bj<=24/\(g.b0.o Gu).am/\∀p∈g.prods,Pe<=3/\p.b3.a<=24/\ja g p
theorem uL:a0 [Jq,Jv,I2] OI%aR x6:=(y,y,y,Ie,y,Ie,Ie)
theorem ao1(zh:aW r Vx Vx x6 u Q)(b:TG r θ)(F:D Kp=I)(zi:cQ D "MOST_PRODUCTIONS" 24)(gC:cQ D "MOST_CHILDREN" 3)(zj:cQ D "MOST_RULES" 24)(η:ID l p r D A (bp l p) 1 LU Ml%hD W)(m:ID l p r D A aB 1 T5 [Vv] x_) (zk:eu l p r D A aB 2 NS R' [IG,I2]%qi θ):aJ l p r D A (bp l p) 3 u Q OI%x' W θ (λg ρ v=>∃f,v= Ia f/\gy θ g v ρ) ya:=by show zh.dZ uL (YD (g,v,ρ,rfl,_)) λzx zy R s G C ε τ L h=>?_;let (g,v,ρ,rfl,t,(f,rfl,Ψ),q,ι):=h;let (_,zl,zz,σ,e,Ω,_,C,zm,H):=id Ψ;cases e;let zn:=b4 H;let k:=SM;show (_,ao (bI%aM η k y bw%ae (gT gQ (cz dr I5 F c!%ae (aC (pv 0) y) aj) (cg zi y)%c' _) aj)%ao (bI%aM η k y bw%ae (aM m k y aK%ae (jJ (e:= [(Jv,1,)]) y uL.nd (et%aC (pv 0) y) (Xf [Jq,Jv,I2] (aR x6) Jv 1 (y,Ie,Ie,Ie,Ie)) (Xc 1 uL.nd%aH y) NX%Xk%l? (pv 1) y) aj) aj)%ax%eB hC y (et%aC (pv 0) y) (Wu 1 uL.nd%aH y)%ao (bI%aM η k y bw%ae (gT gQ (cz dr I5 F c!%ae (aC (pv 1) y) aj) (cg gC y)%c' _) aj)%ao (bI%aM η k y bw%ae (gT gQ (cz dr I5 F c!%ae (aC (pv 1) y) aj) (cg zj y)%c' _) aj)%ax%eB hC y (et%d? rV (bZ%ae (aC (pv 1) y) aj)%aC (pv 1) y) (Wu 2 uL.nd%aH y)%ax%bI%aM η k y bw%ae (n'%pW%b5 (pv 0) _AP zk L aK%ae (pv 2) aj) aj,?_);dsimp only [bz,dq];let ξ:=t _ _ zm;let ο:Go g G g G bO:= Ls t;let za:∀{κ o d},Go g G g d bO->IA (cy r (bH 0) MQ) [J%Ia f,κ,o] d%Ia σ:=λδ=>gf (gv y) (NP _ _ Ω) _AP (_Cg _ Ii) y;show ng (gI (qn (za ο) ξ) gc) (We c) λc=>ι (λz=>dY c (by have:=Mn;lia)) G ο;(let c:ρ.b0.a<=24:=Yx c);dsimp only [fc,bP,bY];show qm (r:=r) (z1:=(_Bi λs=>a! MI).o Ki) (za ο) ξ (by rw [aQ,aQ,zn]) (f9 Ih) (λi x a υ zA M β m=>?_)%Wb υ m;{let (zB,zo,(φ,zp,χ,zb,rfl,N,_),_):=i0 H M;rw [dX,bL,zo] at β;cases β;show gf (gv y) (XN (aU (t _ _ N) m) t N) b.d.cl (b.d.no _ Ii) y};let w:Go g G g (ak G υ%Ig%(_Bi λs=>a! MI).o Ki) bO:=ο.q%JI t m;show (υ,_,y,ar,_Cf,_,y,We γ,λγ=>ι (λz=>dY γ ?_) _ w);rotate_left;{have:=Rv;rw [←r! (E:=a!) h9,dX] at this;show this};let γ:=cw γ;show (_,y,f,NS,zl,_,_,y,w.y _ _ Ω,_AP,_Cg _ Ii,y,σ,y,(_,Iw%w.ad _ _ ξ id),hx (r:=r) (f:=σ) (α:=C) (λi E d=>∃κ o,E= [J%Ia f,κ,o]/\Go g G g d bO/\∀(α:Nat) a,α<i->ρ.b0[α]?=J a->_Ch<=3/\_Ci<=24/\ja ρ a) (I,I,y,w,X7 a h Ih) (λi E d _ (_,_,_,δ,_)=>Iw%δ.ad _ _ ξ id) ?_ ?_);{rintro i x E B M ⟨κ,o,rfl,O,ψ⟩;let (a,β,(φ,zp,χ,zb,rfl,N,zc,zC,zq,zd),_):=i0 H M;dsimp only [bz,dq,bU];let π:∀{u:ai} {v o d},u∈([I2,Nr,NQ,KQ,NR]:Ib ai)->nI u [(I2,Ki%a! a.Z,),(Nr, Iv%a! a.bo.Z,),(NQ, IJ a.own,),(KQ, Ia χ,),(NR, Ia zb,)]=J v->Go g G g d bO->IA (cy r (bH 1) u) [J%Ia f,J%Ia φ,o] d v:=λc γ δ=>gf (gv y) (NP _ _ N) b.d.cl (b.d.no _ c) γ;let no:¬ (_Ch<=3/\_Ci<=24/\ja ρ a)->¬ ya ρ:=λh z=>h%Ss a%cm β;show ng (gI (qn (π Ii y O)%J2 _ _ zc) gc) (We T) λT=>ι (no λz=>dY T%_bO z) B O;(let T:_Ch<=3:=by have:=cw T;unfold cb at this;lk);show ng (gI (qn (π Ii y O)%J2 _ _ zq) gc) (We n) λn=>ι (no λz=>dY n (by have:=Rv;rw [b4 zd];lia)) B O;(let n:_Ci<=24:=by have:=cw n;rw [b4 zd] at this;lia);show π Ii y O _ (_aV 1,Wb zr zs);let μ:=MU%XH [Ki%a! a.bo.Z] J2 zs;let zt:(cb (a.bo::R!))= [Ki%a! a.bo.Z]++cb R!:=y;show π Ii y μ _ (zr,χ,_,_,y,y,ar,Rb _ _ zc,f9 IZ,Wb ω ze);rw [←zt];let zu:=Se%XH (cb (a.bo::R!)) Rb ze;let zD:=μ.bg _ ze;show (ω,y,(_,Iw ar),hx (r:=r) (f:=ω) (α:=cb (a.bo::R!)) (λi E d=>∃o,E= [J%Ia f,J%Ia φ,o]/\Go g G g d bO/\d ω=J%Ig%cb (a.bo::R!)/\∀(α:Nat) j,α<i->(a.bo::R!)[α]?=J j->(eZ ρ j.Z).as=ag) (_,y,zu,ar,X7 a h Ih) (λi E d _ (_,_,δ,h,_)=>Iw h) ?_ ?_);{rintro Γ x E zf ζ ⟨o,rfl,ν,zg,Δ⟩;unfold cb at ζ;rw [bL] at ζ;let (j,P,rfl):=LS ζ;dsimp only [dq,bU,fc,bP,bY,abt];show x? (G:=g) (gv y) (gv y) ν.y Ψ (Wj v zE Θ zv)%We Θ;{let (zF,_,_,_,_,rfl,_):=zv;show (ag,y,Wx (_,y,ν,zg,Wj α zw X Ξ),ZJ z);lk};{show (ay,y,ZJ z,Wx%ι (no ME) zf ν);have:=Ss j%cm P;cbv}};{rintro E zf ⟨o,rfl,ν,zg,Δ⟩;show (_,_,y,ν,Wj α z X Φ);by_cases e:α=i;{subst e;rw [β] at Φ;cases Φ;show (T,n,Wb j P);let (Γ,ζ):=JM P;show Δ Γ j (by unfold cb;lk) ζ};{lk}}};{rintro E B ⟨κ,o,rfl,O,ψ⟩;show q (c,?_,W8 β) B O;{lk};{let (α,X):=JM β;lk}}
theorem k!:∀(l os:Ib Jo) (x:Jo),x∈dU os l↔x∈os∨x∈l| [],os,x=>by simp [dU]|o::l,os,x=>by change x∈dU (kh os o) l↔_;rw [k! l];unfold kh;lk
def EC(l:Ib ai):(JZ Ki).all jg=ag:=by rw [agD,mA];intro x _;rfl
theorem adN(x:ai)(l:Ib ai):gs (Iv x)%JZ Ki=aT (x∈l):=by unfold gs;rw [GZ,e_,vg,cU];constructor;{rintro ⟨A,u,e⟩;have:A=x:=cw e;cbv};{intro h;show (x,h,b8 y)}
def yb{l:Ib mr}:a! zf∈bN l↔zf∈JZ gb:=by unfold bN;rw [b6,b6];show (λ(n,h,e)=>(n,h,h9 e),λ(n,h,e)=>(n,h,by rw [e]))
theorem ao2(a:IA R E g%Ia f)(L:IA Ξ E g%Id Mm)(s:IQ G g)(d:gW θ G (Ia f) Δ)(h:q<=LA)(b:ε (Iv%a!%L5 Δ q) g):fe Nt _AL (xU θ) [] τ R (bP Ξ bY) E g ε:=by let (t,X,V,l,e,i,_):=id d;cases e;show a _ (f,X,_,y,s _ _ i,y,L _ (G,f,Δ,q,y,s,d,h,QD,Wj o r e c));{subst e;show b};{subst e;(have:L5 Δ (r+1)=o.Z:=_Bh);cbv}
def adO(m:aa)(j:GC):Sp:=λC G ε τ=>∃g f ρ u Δ h e,C= [Ia f, Ia u,h]/\IQ g G/\gy j g (Ia f) ρ/\gW j g (Ia u) Δ/\ja ρ Δ/\k7 j.e j.p g h e/\(pN ρ Δ e->ε IK G)/\(¬ pN ρ Δ e->τ (Ia m) I G)
theorem yc:a0 [Jq,Jv,Me,N?,JC,T6] [Jq,Jv,Me]%aR EB:=(y,y,y,Ie,y,Ie,Ie)
theorem ao3(ω:aW r Vy Vy EB ο Q)(a:TG r θ)(Γ:D Kp=I)(b:ID l p r D A (bp l p) 1 LU Ml%hD W)(N:eu l p r D A aB 2 NS R' [IG,I2]%qi θ)(Θ:eu l p r D A aB 1 Nt _AL [IG,JC]%xU θ): aJ l p r D A (bp l p) 3 ο Q [Jq,Jv,Me] (adO W θ):=by show ω.dZ yc (YD (g,f,ρ,u,Δ,Ξ,e,rfl,_)) λzl zm zn zo G C ε τ L h=>?_;let (g,f,ρ,u,Δ,Ξ,e,rfl,t,ξ,d,hd,(ζ,w,zp,lo,rfl,B,_,Φ,π,F),q,O):=h;let (_,Ψ,zq,zr,Ω,σ,za,_):=id d;cases Ω;let k:=SM;show (_,ao (bI%aM b k y bw%ae (BG (aC (pv 1) y)%tN%ajo%aC (pv 2) y) aj)%ax%eB hC y (et%aC (pv 2) y) (Wu 3 yc.nd%aH y)%ao (Xd yc.nd (aH y)%a8 hB (pv 3) aF IB)%ao (bI%aM b k y bw%ae (gT gQ (pv 4) (cz dr I5 Γ c!%ae (aC (pv 1) y) aj)%c' _) aj)%ao (WS 5 yc.nd (aH y)%b5 (pv 0) a.g.cl N L aK%ae (b5 (pv 1) a.d.cl Θ k aK%ae (pv 4) aj) aj)%ax%bI%aM b k y bw%ae (gT rS (a8 hB (pv 3) aF IB) (aC (pv 5) y) I5) aj,?_);dsimp only [bz,dq];show ng (zc:=Δ.own||!e.b4) (Wb H q) (We P) λP=>O ME;{show (_,y,u,Nt,Ψ,_,_,y,t _ _ σ,a.d.cl,a.d.no _ Ii,y,_,y,?_);cases γ:Δ.own with|true=>cbv|false=>rw [γ,Ay] at q;show bt (_,y,ζ,θ.e,w,_,_,y,t _ _ B,a.e.cl,a.e.no _ Ii,y,_,y,q)};rotate_left;{rcases z.1 with z|z;{cbv};{cbv}};(let s:Δ.own=ag∨e.b4=ay:=Io);show (_,y,ζ,θ.e,w,_,_,y,t _ _ B,a.e.cl,a.e.no _ Ii,y,lo,y,(_,Iw%t _ _ π),hx (r:=r) (f:=lo) (α:=Φ.o IP) (λi E υ=>∃η c x,E= [J%Ia f,J%Ia u,J%Ia ζ,η,c,x]/\υ=G/\∀(α:Nat) o,α<i->(dU [] Oo)[α]?=J o->JW<=LA/\JX∈gM ρ%L5 Δ JW) (I,I,I,y,y,X7 zs h Ih) (λi E υ _ (_,_,_,_,j,_)=>by rw [j];show Iw%t _ _ π) ?_ ?_);{rintro i zt E M φ ⟨η,c,x,rfl,m,ι⟩;subst m;rw [bL] at φ;let (χ,zb,rfl):=LS φ;let (o,γ,δ,_):=i0 F zb;let δ:=t _ _ δ;(let zc:o∈Oo:=by rcases (k! e.ce [] o).R (cm γ) with z|z;{cases z};{show z});let no:¬ (JW<=LA/\JX∈gM ρ%L5 Δ JW)->¬ pN ρ Δ e:=λh z=>h%Rj o zc;dsimp only [bz,dq,b?,bU];show (_,y,χ,_,_,_,y,y,Ju δ,y,?_);show ng (gI (gv y)%qn (gf (gv y) (t _ _ σ) a.d.cl (a.d.no _ Ii) y)%t _ _ za) (We T) λT=>O%no λz=>dY T%_bO z;(let T:JW<=LA:=by have:=cw T;unfold cb at this;cbv);obtain ⟨zu,zd,zv,zw,⟨⟩,ze,_⟩:=id ξ;show (_,y,f,zd,_,y,t _ _ ze,y,?_);show ao2 (G:=g) (gv y) (gv y) t d T ?_;let (zf,κ,_,_):=aaM hd T;show (g,f,ρ,_,y,t,ξ,Wj v β μ R,λμ=>a' (μ.J.q κ) Ii);obtain rfl:β=zf:=eD%μ.J.q κ;let (zg,zh,ld,zx,zi,rfl,zj,_,_,zk):=R;(let ψ:gM ρ%L5 Δ JW=(β.db++_Cj).o gb:=by unfold gM;rw [κ];show (n3 β).J);show ng (zc:=aT (a! JX∈bN (β.db++_Cj))) (Wb H q) (λn=>(_,_,_,y,y,Wj α z X ν)) λn=>O%no λz=>dY n%yb.mpr Io;{show (_,y,χ,_,_,_,y,y,Ju δ,y,_,y,zg,R_,zh,_,_,y,t _ _ zj,a.s.cl,a.s.no _ Ii,y,zi,_,y, Ik%Iw%t _ _ zk,y,_bn EC _,?_);change H (IJ%gs (Iv%a! JX)%cb (β.db++_Cj)) M;rw [oF,adN];show q};{by_cases j:α=i;{subst j;rw [γ] at ν;cases ν;show (T,by rw [ψ];show yb.R%cw n)};{lk}}};{rintro E M ⟨η,c,x,rfl,m,ι⟩;subst m;show q (s,Wb o γ);let (α,X):=JM%Ws (k! Oo [] o)%Iy γ;show ι α o (by rw [aQ,b4 F];lk) X}
theorem oG{f:Jc}[_Ai f]:∀{l m:Ib f},l.am->(Y9 (x∈m))->LP<=m.a| [],m,_,_=>cj _|x::l,m,F,h=>by let N:=h x cA;have:=oG (m:=m.erase x) (Td F).2 λA u=>Ws (List.mem_erase_of_ne λz:A=x=>(Td F).1 Io)%h A%cL _ u;lk
structure Hv(g:bh)(f:Ib aL):Ir where
 nd:f.am
 snd:∀b∈f,kL g b
 dec:∀b∈f,b∈RA o6
def Hv.le{f:Ib aL}(h:Hv ρ f):Mw<=ρ.b8.a:=by have:=oG h.nd h.dec;rwa [aQ] at this
def i1(f:Ib aL):Ib KJ:=MH%Xa b (fQ%a! b:be)%M9 ag
theorem adP(f:Ib aL)(b:aL):(cS (i1 f)%fQ%a! b).as=aT (b∈f):=by rw [←w1];unfold i1;rw [GZ,e_,vg,cU];constructor;{rintro ⟨x,N,e⟩;let e:(fQ%a! x:be)=fQ%a! b:=cw e;rw [←h9%s8 e];show N};{lk}
theorem ao4(f:Ib aL)(b:aL):f5 (i1 f) (fQ%a! b)%M9 ag=i1%Wp (b∈f) f (f++ [b]):=by unfold f5;rw [w1,adP];by_cases h:b∈f;{rw [b8 h,aA y,aA h];unfold i1;cbv};{rw [bD h,au Il,au h];unfold i1;rw [dW];rfl}
theorem ao5{f:Ib aL}(h:∀p∈ρ.prods,(∀j∈p.kids,j.Z∈f)->Mp∈f)(t:kL ρ zf):zf∈f:=by induction t with|mk p d _ c=>show h p d c
theorem ED:hT Th=J%Jf Th:=Ie
def adQ(m:aa)(j:GC):Sp:=λC H Q Z=>∃F n g,C= [Ia n]/\IQ F H/\gy j F (Ia n) g/\g9 g/\ya g/\((∀s∈g.syms,kL g MI)->∀d,Go F H F d bO->Q IK d)/\((¬ ∀s∈g.syms,kL g MI)->∀d,Go F H F d bO->Z (Ia m) I d)
theorem oH:a0 [Jq,"having","grew","before",Jv,Qv] OI%aR x9:=(y,y,y,Ie,y,Ie,Ie)
theorem ao6(zl:aW r Vz Vz x9 u Q)(j:TG r θ)(ν:D Kp=I)(N:D Th=I)(R:ID l p r D A (bp l p) 1 LU Ml%hD f):aJ l p r D A (bp l p) 2 u Q OI%adQ f θ:=by show zl.dZ oH (Xh E zm (F,n,g,rfl,_)) λzE zF zG s H C E zm L h=>?_;let (F,n,g,rfl,t,zn,Φ,Ψ,zo,zp):=h;let (_,Ω,zq,za,e,zb,(zr,zs,zt),C,zc,ξ):=id zn;cases e;show (_,ao (WJ T7 (AA y) acj)%ao (Wq T7 (aH y) kP)%ao (iU hC (b9%pv 2)%ao (WK T7 (aH y)%cz w4 I5 ν c!%ae (pv 1) aj)%ao (eB hC y (et%aC (pv 0) y) (Wu 4 T7%aH y)%ax%bA (b9%cz (B4 y) I5 N ED%ae (jJ (e:= [(Qv,5,)]) y T7 (et%aC (pv 4) y) (Xf [Jq,"having","grew","before",Jv,Qv] (aR x9) Qv 5 (y,Ie,Ie,Ie,Ie)) (Xc 5 T7%aH y) NX%XY n'%t? (u1 L) (pv 5)%pv 1) aj) (ax%rY (u1 L) (pv 1) (aC (pv 4) y) kP y) bM)%ax%Wq T7 (aH y)%gT ka (cz w4 I5 ν c!%ae (pv 1) aj) (pv 3)%c' _)%ax%bI%aM R L y bw%ae (gT kT (cz w4 I5 ν c!%ae (pv 1) aj) (cz dr I5 ν c!%ae (aC (pv 0) y) aj)%c' _) aj,?_);dsimp only [bz,b?,bU,dq];intro β hd;let zu:F β=I:=b1 t hd;(let zv:∀b∈g.prods,Sf∈RA o6:=λb ξ=>by let (s,μ):=OM%(Ψ.2.2 b ξ).2.2 b.bo cA;let (zw,zx):=iR μ;lk);let zH:∀{d zd},Go F H F d (·=β)->Go F d F zd (·=β)->Go F H F zd (·=β):=λο γ=>ο.q γ;let T:∀{γ o d},F γ=J o->Go F H F d (·=β)->d γ=J o:=λe υ=>υ.y _ _ e;show (λze c d=>∃a γ π κ,c= [J%Ia n,J%Ia β,J%IJ γ,π,κ,I]/\Go F H F d (·=β)/\d β=J%JK%i1 a/\Hv g a/\ze=Mq+1 - Kj+(Wp γ 1 0)/\(γ=ay->∀b∈g.prods,(_av θ.Z a)->Sf∈a),(_, [],ag,I,I,y,M? t hd,ar,(IR,OF,OF),y,λh=>On),?_);rintro ze c φ ⟨a,γ,π,κ,rfl,w,χ,B,rfl,zy⟩;show (_,y,γ,y,?_);let zI:=B.le;cases γ with|false=>show bt ?_;show (_,y,β,_,y,χ,_,y,n,NS,Ω,_,_,y,T zb w,j.g.cl,j.g.no _ Ii,y,zq,_,y, Ik%Iw%T zs w,y,?_);let k:Go F H F φ bO:=w.an%Xx γ h (by rw [h];show hd);(let jO:(i1 a).a=Kj:=_F3);let uM:zr.a=Mq:=b4 zt;show (_,y,λh=>zo (Wb s μ) φ k,λh=>zp ME φ k);{rw [tT,cU,jO,uM] at h;show B.snd _ ?_;(let sub:∀x∈RA o6,x∈a:=λx ψ=>by show sP%We zz;have:=oG (l:=x::a) (m:=RA o6) (_Ck (zz,B.nd)) λzf ρ=>(b0.R ρ).al (λe=>by rw [e];show ψ)%B.dec zf;lk);cbv};{rw [tT,th,jO,uM] at h;(have:=oG (l:=RA o6) (m:=a) Φ.2.2.1 λx ψ=>ZC (s,μ,rfl) Kl ψ%ao5 (zy y)%z s μ);lk}|true=>show bu (λzg d=>∃zh,zh<Mq+1 - Kj+1/\∃a γ π κ,zg= [J%Ia n,J%Ia β,J%IJ γ,π,κ,I]/\Go F H F d (·=β)/\d β=J%JK%i1 a/\Hv g a/\zh=Mq+1 - Kj+(Wp γ 1 0)/\(γ=ay->∀b∈g.prods,(_av θ.Z a)->Sf∈a),WP zg h h,?_);dsimp only [bz,b?,bU];show (_,y,β,_,y,χ,?_);(let jO:∀a,(i1 a).a=Kj:=λa=>_F3);rw [jO];show (_,y,n,NS,Ω,_,_,y,T zb w,j.g.cl,j.g.no _ Ii,y,za,y,(_,Iw%T zc w),hx (r:=r) (f:=za) (α:=C) (λi c d=>∃α κ,c= [J%Ia n,J%Ia β,J%IJ ag,J%Id%Wa Kj,κ,I]/\Go F H F d (·=β)/\d β=J%JK%i1 α/\Hv g α/\Kj<=I8/\(I8=Kj->a=α/\∀(M:Nat) b,M<i->Wm N1=J b->(_av θ.Z a)->Sf∈a)) (a,_,y,w,χ,B,bj _,Wx (y,λM b h=>Ih)) (λi c d _ (_,_,_,υ,_)=>Iw%T zc υ) ?_ ?_);{rintro i x c ω P ⟨α,Γ,rfl,k,m,δ,Δ,σ⟩;let (b,q,(ο,zA,zJ,zK,rfl,zi,zB,_),_):=i0 ξ P;let Θ:=cm q;dsimp only [cc,tB,rP,bP,bY,bU];show qm (r:=r) (z1:=(_Cl λε=>aT (ε.Z∈α)).o M9) (gf (gv y) (T zi k) j.d.cl (j.d.no _ Ii) y) (T zB k) (by unfold cb;rw [aQ,aQ,aQ]) (f9 (by unfold cb;rw [aQ];have:=(Ψ.2.2 b Θ).1;lia)) (λM x zf G zL X ρ τ=>?_)%Wb G τ;{unfold cb at X;rw [bL] at X;let (ε,ζ,rfl):=LS X;rw [dX,bL,ζ] at ρ;cases ρ;intro zM zC;show (_,y,_,y,β,_,y,_F4 (k:=fQ%a! ε.Z) (j:=i1 α) (by rw [aq%aU m τ];show m),?_);rw [adP];show zC};{let O:Go F H F (ak ω G%Ig%(_Cl λε=>aT (ε.Z∈α)).o M9) (·=β):=Ma%JI JN τ;(let zj:ak ω G (Ig%(_Cl λε=>aT (ε.Z∈α)).o M9) β=J%JK%i1 α:=by rw [aq%aU m τ];show m);show (G,_,y,Iw ar,_,y,?_);(let zk:(_Cl λε=>aT (ε.Z∈α)).all id=ag↔_av θ.Z α:=Io);show cF (We W) λW=>(α,_,y,O,zj,δ,Δ,QD);{let all:=zk.R W;let v:kL g Sf:= .mk b Θ λθ η=>δ.snd _%IH θ η;show (_,y,_,y,ο,Nt,zA,_,_,y,T zi O,j.d.cl,j.d.no _ Ii,y,β,_,y,kc.k (k:=fQ%a! Sf) zj ?_,?_);{rw [jO];have:=δ.le;have:=Φ.2.1;show ec (by have:af3=12:=y;lia)};{rw [ao4];show (_,_,y,MU%Kb J2 y zu,ar,?_,?_,?_);{by_cases h:Sf∈α;{cbv};{rw [au h];show (ky.mpr (δ.nd,Ii,λο N γ W=>IZ),Wb γ W,Wb γ W);{rcases d7.R W with z|z;{show δ.snd γ z};{cbv}};{rcases d7.R W with z|z;{show δ.dec γ z};{cbv}}}};{lk};{lk}}};{lk}}};{rintro c ω ⟨α,Γ,rfl,k,m,δ,Δ,σ⟩;have:=δ.le;show (_,y,β,_,y,m,_,y,_,_,y,y,_,?_,α,aT (Kj<I8),J%Id%Wa Kj,Γ,?_,k,m,δ,y,JV);{lk};{cbv};{have:=dY h;let (S,Z):=σ Ih;subst S;intro b zD ζ;let (M,X):=JM zD;show Z M b (by rw [b4 ξ];lk) X ζ}}
end TW
namespace L2
open PySem PySem.Spec PyProof.Rows
open AutoSeq1 (wpAny_loadPart')
abbrev r?(t:Tok):Ib Rn:= [(eG N', Id 1 t,)]
def ao7(a:ah)(t:Tok):checkTypeCall KW ([a],r? t)=JH ():=LX
def ao8(a:ah)(t:Tok):checkBuiltinCall _F5 ([IU KW,a],r? t)=JH ():=LX
def ao9(b a:ah)(t:Tok):mJ _F6 ([b,a],r? t):=_F7
set_option maxHeartbeats 4000000 in def ao_(l:aa)(t:Tok)(d:KC ah)(n:Nat)(a:Im aa)(A:KC%Im ah):Meets (Builtin.«enumerate.__new__» ([IU KW, Ia l],r? t))%Xp R s (RI l=J {cls:= IU JT,dict:=a,data:= NF d n,slots:=A}/\R (JF%QZ%Ia (s.j.av%Yi #[Ia l, Id 0 0]).cw) {s with heap:=(s.j.av%Yi #[Ia l, Id 0 0]).av (WN KW #[Ja, MK ay, Ia JR,e9 1, Ja, Ja])}):= _Cm (λq w T R s h=>by let (b,g,f,tk,os):=s;let (V,h):=h;let sub:=sub_enumerate;let M:Heap.ev (Shared.j (b,g,f,tk,os)) l d:=(_,V,y,n,y);wp_walk using _D8 V;show wpAny_stack_any λst=>aZ ?_;split;{rename_i j _ _ _ _ _;cases (j==jq "enumerate")<;>(wp_walk using _D8 V,vu M;show (_,y,h))};{wp_walk using _D8 V,vu M;show (_,y,h)})
section
set_option maxHeartbeats 4000000 in theorem ao'(M:Tg f zb) (h:∀R,IsEnum R (II+1) II 1 Ja->R.d9 II f 0->(Wh (Ji b=J o) (R.E b=J o))->Xn zC (Ia (II+1)) R): aG (a7 l p) μ (fU (IU KW) [Ia f]%r? zV) zC υ v:=by let ((j,i,k,A),V,m,n,hd):=M;replace m:j= IU JT:=m;replace hd:k= NF zb n:=hd;subst m hd;let (z,tl,B):=nZ.mro;let made:=nZ.made;let C:=nZ.y;show Au%_F2 ?_;change aG _ _ (callAny (IU KW) _) _ _ _;show aZ (axK _ Ie,tp axL ?_);rw [axM (axN KW [Ia f]%r? zV) y];let E:=nZ.notType;let a:=nZ.canCreate;let F:=ao7 (Ia f) zV;(repeat (any_goals (first|assumption|wp_step)));generalize G:(λ(r:o!) (d:az)=>r= JF%QZ%Ia (II+1)/\d=YM (Jw%Yi #[Ia f, Id 0 0]).av%WN KW #[Ja, MK ay, Ia II,e9 1, Ja, Ja])=u;let c:(Jw%Yi #[Ia f, Id 0 0]).cw=II+1:=i8 ..;show q4 (Hu (R:=u) nZ.plain PySem.F.entry_enumerate_new%kD (ao8 _ zV)%ao_ f zV zb n i A l p MS _ v (V,by rw [←G,c];show (y,y)))%Z1 r L;subst G;let (rfl,rfl):=L;(let D:((Jw%Yi #[Ia f, Id 0 0]).av%WN KW #[Ja, MK ay, Ia II,e9 1, Ja, Ja]).E (II+1)=J%WN KW #[Ja, MK ay, Ia II,e9 1, Ja, Ja]:=by rw [←c];show ep _ y);let W:Ht (YM (Jw%Yi #[Ia f, Id 0 0]).av%WN KW #[Ja, MK ay, Ia II,e9 1, Ja, Ja]) (Ia (II+1)) KW:=(_,D,y);let g:=nZ.init.B;let H:=nZ.init.ag%Ia (II+1);(repeat (any_goals (first|assumption|wp_step)));let S:=h _ D (_,dz _%ep _ y,y,y) λb o x=>dz _%dz _ x;show q4 (Hu (R:=_Af (λr q=>r= Ja/\zC (Ia (II+1)) q) υ) nZ.init.plain PySem.F.entry_object_init%nZ.init.check _ _ _ _ _ _ _ _ W (ao9 _ _ zV) ?_)%Wd P q X;{(let N:(J _F5 !=J "object.__new__")=ag:=Il);(repeat (any_goals (first|assumption|wp_step)));show (y,S)};{cases P with|error e=>show X|ok s=>cases s with|ret r=>let (rfl,O):=X;repeat (any_goals (first|assumption|wp_step))|_=>show X.al}
end
theorem apa(H:M_=I)(X f:aa)(R:XX X)(d:KC ah): Draws l p μ X [X,f] (d.l+1) (λi v=>∃M,i=M+1/\Wm d=J v) (λi h=>∃M,i=M+1/\h.d9 X f M/\h.ev f d) where
 live:=WG (_,_,st) (let (o,S,_):=ST;(o,S))
 frame:=ZX (M,e,st) g (M,e,(_bc H X f R d).g5 M _ _ st g)
 item:=λi s Q Z b (M,e,st) c=>(_bc H X f R d).item M s Q Z PH st λx a tk N gP t=>c x a tk (M,e,N) (M+1,PH,gP) t
 done:=λs Q Z (M,e,st) j=>(_bc H X f R d).done s Q Z ((show d.l=M by omega)▸st) j
theorem apb(H:M_=I)(X b:aa)(d:KC ah)(i:Nat)(a:d.l<=i): Draws l p μ X [X,b] (i+1) (Zh True) (λk h=>k=i+1/\h.d9 X b i/\h.ev b d) where
 live:=WG (_,st) (let (o,S,_):=ST;(o,S))
 frame:=ZX (e,st) g (e,(ST).at λo e=>g X Ii o e,st.2.at λo e=>g b Ii o e)
 item:=λk s Q Z g (e,_) _=>a' g PH
 done:=λs Q Z (_,st) j=>wpAny_nextOf_list_end H ST st.2 _Bt j
def uN(K:aE)(a:aa):It:=(λi H=>∃(L:Ib V) (x:V),aD K H a L/\Pa=J x,λi H v d=>∃u x,v= Ia u/\H u=I/\d=ak H u%IC [Id OC,x]/\∀L,aD K H a L->Pa=J x,λi H=>∃L:Ib V,aD K H a L/\I0<=i)
theorem apc(a e α:aa): m6 l p r (Qa Ω q κ) (uN r a) [e,α] e (λi h=>(∃c,IsEnum h e α OC c)/\h.d9 α a i/\e≠α) where
 mem:=Ii
 obj:=λi h st b W=>by
  let ((c,D),(o,S,m,hd),_):=st
  let ξ:b=e∨b=α:=Nj
  rcases ξ with z|z
  ·rw [z];show (_,D,λv w=>nomatch w)
  ·rw [z];show (o,S,λv w=>by rw [hd] at w;cases w)
 keep:=λi h C st η=>let ((c,D),π,R):=st;((c,η e Ii _ D),π.at λo w=>η α Ii o w,R)
 item:=by
  intro X G β γ m i F s θ H ι B hf st j
  subst G β γ
  let ((c,D),P,R):=st
  let (L,x,n,N):=j
  let (d,f,ν,E):=Lf n
  let (O,ο,ρ):=_Ay N
  let μ:e<JR:=cZ D
  let σ:α<JR:=by let (_,w,_):=P;show cZ w
  let τ:WZ α:=λz=>by
   let (ze,δ,υ,zf):=P
   let (φ,Z,k,_):=ν.isList
   rw [z,δ] at Z;cases Z;rw [υ] at k;show a' (Hg k) Il
  let χ:e≠a:=λz=>by
   let (φ,Z,k,_):=ν.isList
   rw [←z,D] at Z;cases Z;show a' (Hg k) Il
  let zg:i<d.a:=(I! ο).1
  let ε:=apa (l:=X.prog) (p:=X.w) (μ:=X.A.in1) (by simp [B.ok.hd m]) α a τ KU
  show wpAny_pyNext_enum_itemD (n:=Ov+1) ε D (i,y,P,ν.cj) _F8 R (by simp [R,χ]) λA C tk u S ψ ω zh g=>?_
  let (M,zi,u):=u
  obtain rfl:i=M:=PH
  let (M,zj,Γ,_):=ψ
  obtain rfl:i+1=M:=PH
  let Δ:A=O:=by
   rw [axO,ο] at u;cases u;rfl
  subst Δ
  show (_,y,axz (s:=Z? C tk 1) S%Wd ζ Θ t)
  let Ξ:ζ.E JR=J%X5 #[Id OC tk,A]:=(Nf _%o' μ).q ω
  let T:d3 Km Kn (ak H JR%IC [Id OC,x]) ζ JR (IC [Id OC,x]):=
   (Nx, [Id OC tk,A], I1 (_,y)%I1 ρ IR,(_,Ξ,y,_,y))
  let V:Ip X F θ (ak H JR%IC [Id OC,x]) (Z? ζ tk 1):=
   B.Ce (zl:= [e,α]) (λb Φ W w=>(Nf b λz=>W QS).q%g b Φ (λz=>W QS) (λz=>W QS) w) hf (bj _) T
  show (Ia JR,_,V,y,(_,x,y,Nl%bj _,y,_az zk u%B.BH u n),(Wt A,Γ.at λo w=>(Nf α%i7 R).q w,R),OE)
  ·let δ:ZV (i+1)=OC+1:=PH
   rw [δ];show Θ
  ·let Ψ:b<JR:=by
    let ξ:b=e∨b=α:=Nj
    rcases ξ with z|z
    ·rw [z];show μ
    ·rw [z];show σ
   rw [aq%eF Ψ]
   show (hf b W).1
 done:=by
  intro X G β γ m i F s θ H ι B hf st j
  subst G β γ
  let ((c,D),P,R):=st
  let (L,n,N):=j
  let (d,f,ν,E):=Lf n
  let (zp,za,zl,zb,Q,zc):=hf α Ii
  let zm:=Mw
  let ε:=apb (l:=X.prog) (p:=X.w) (μ:=X.A.in1) (by simp [B.ok.hd m]) α a KU i _F8
  show wpAny_pyNext_enum_endD ε D (y,P,ν.cj) λC zd=>(y,Yr (λb o W w=>zd b o W w) zp za zb Q zc)
 self:=λzn i s zo ι st h=>let ((_,D),_):=st;Ha D h
theorem cw_tykw{u:Model}{x:gF ah}{b:Ib (Im ai × gF ah)}(j:b.all (·.1.as)=ag)(G:b.any (·.1.gl)=ay) (h:aG u μ (_Bs [_a8 x]) (λC w=>aG u μ (evalAll%b.o (·.2)) (λN p=>aG u μ (fU (IU zN) C%(b.d7 (·.1)).zip N) zC υ p) υ w) υ v):aG u μ (mD κ (IU zN) [] [_a8 x] b) zC υ v:=by unfold mD;show aw%js%iK (evalArgs_kwB (Q:=λa p=>aG u μ (fU (IU zN) a.pos a.kw) zC υ p) j h) (λa w D=>aw%vt ?_)%Xi z;simp only [lP,agO,G,jy];show aw%aZ%aw%iK D (λr p L=>aw%js%wpAny_point%aZ L)%Xi z
def apd(K:aE)(S:TE):TI:=λc H R=>S c H λx M=>∃a L,x= Ia a/\aD K M a L/\R (uN K a) M
theorem ape{p e o:cv}(C:Gl j KW)(i:J9 KW=I)(D:PE j O R)(P:cK Kk IE= SO:=by rfl): PI j (Qa Ω Z e) (J0 (JU KW p) Kk [(J N', RN (Id 1) q o,κ)] zj) (apd IO R):=by intro F s c H u B h;show mF%kQ B C i _Fe ?_ Il Il;rw [show fv zj%cK Kk IE= SO by rw [P];rfl];show cw_tykw y y%pd%bq (D F s c H _ B h) λx w (A,M,V,g,a,L,G,n,m)=>q3 ?_;subst G;cases g;show evalAll_cons%aw%agc%aw%vt%aZ%evalAll_nil ?_;let V:=V.tok (w.do+1);let (d,f,Q,E):=V.dl n;show ao' (zV:=w.toks) Q.cj λN v r κ=>Ha v ?_;let k:Ip j F c M {w with heap:=N,toks:=w.do+1}:=_Ds κ;show (Ky+1, [Ky+1,Ky],_,_,M,y,k,apc a (Ky+1) Ky,((Ja,v),r,agK _),OE,m);(let l:b=Ky+1∨b=Ky:=Nj);(let t:Ky<=b:=by rcases l with z|z;{rw [z];show Nat.le_add_right _ _};{rw [z];show bj _});show V.pY t%QU t
end L2
namespace L2
open PySem PySem.Spec PyProof.Rows
theorem apf(Pv:Ng)(F:Pv 0 E g)(b:∀i E g,i<=I8->Pv i E g->aD r g f α) (P:∀i x u E g,PR=J x->Pv i E g->g u=I->zy (Ia u) E (ak g u%IC [Id OC,x]) (λa n=>zK (Xy (Pv (i+1))%Pv (i+1)) a n)) (hd:∀E g,Pv I8 E g->MM E g): ∃W:Iu->Ng,Y7 (∃m,W 0 m E g) (W i m E g->((uN r f).f1 i g/\MM E g)∨((uN r f).go i g/\YW (∀z d,N z d->∃Z,Z<m/\W (i+1) Z z d) ((uN r f).iu i g x d->zy x E d (λa n=>zK (Xy N N) a n)))):=by show (λi m E g=>m=XM i/\i<=I8/\Pv i E g,(I8,Ii,cj _,F),?_);rintro i m E g ⟨rfl,l,p⟩;let q:=b i E g l p;by_cases t:i<I8;{show Iy ((α,α[i],q,Tb),Pv (i+1),WP z Q (XM (i+1),Ih,y,t,Q),P0);let (u,c,rfl,h,rfl,A):=A;lk};{(let e:i=I8:=Ih);subst e;show Ik ((α,q,bj _),hd E g p)}
def ma{w:L2.TI}(h:w E g λt M=>∃W:Iu->Ng,Y7 (∃m,W 0 m E M) (W i m E g->(t.f1 i g/\MM E g)∨(t.go i g/\YW (∀z d,N z d->∃Z,Z<m/\W (i+1) Z z d) (t.iu i g x d->zy x E d (λr n=>zK (Xy N N) r n))))):BL w zy zK zv E g:=h
def oI{a:Rl}(h:R E g λx M=>∃d,x= Ia d/\(∃L,aD r M d L)/\a (m7 r d) M):tR r R E g a:=h
def nh(h:R E g λx M=>∃d f X V v,x= Ia d/\M d=J%Iq f X V/\d5 r f/\f3 r f L/\V.B L=J v/\ε v M):cy r R L E g ε:=h
end L2
namespace TW
open PySem PySem.Spec PyProof.Rows L2
def jP(o:Jo):HO:= IC [Id%Wa JW, Iv%a! JX]
structure jl(H:Hp)(G:aa)(f:Ib aa)(os:Ib Jo):Ir where
 lst:H G=J%Ig%MH IP
 pr:cN (λ(r:aa) (o:Nat × aL)=>H r=J%jP o) f os
def jl.kept{H H':Hp}(t:jl H f zl zs)(k:Wh (H b=J o) (H' b=J o)):jl H' f zl zs:=(k _ _ t.lst,J8 t.pr%Xi%k _ _ z)
def jl.add(p:jl g u zl zs)(v:g f=I)(o:Jo):jl (ak (ak g f%jP o) u%Ig (zl.o IP++ [IP f])) u (zl++ [f]) (zs++ [o]):=by (let a:∀{b:aa} {o},ak g f (jP o) b=J%jP o->WY u:=λe z=>by rw [z,aq%aU p.lst v,p.lst] at e;cases e);show (_Cn,ji (J8 p.pr%X' r x) ?_);{(have:ak g f (jP o) r=J%jP x:=by rw [aq%aU z v];show z);rw [aq (λe=>by rw [e] at z;rw [p.lst] at z;cases z)];show this};{rw [aq (λe=>by rw [e,p.lst] at v;cases v)];show ar}
def k?(g:bh)(p:dj)(i:Nat):Ib Jo:=(ht g Mp).o%X4 0++(p.aa.Y i).zipIdx.flatMap (λx=>(gN g Ru).o%X4 (IY+1))
theorem adR{n:mr}(h:Wf RB=J n):k? ρ Δ (q+1)=k? ρ Δ q++(gN ρ M1).o%X4 (q+1):=by let l:=(I! h).1;unfold k?;rw [←LW h,List.zipIdx_append,Ag,iH,ho,vI%An l];simp
def adS(g:bh)(p:dj):k? g p Pe=e4 g p:=by unfold k? e4;rw [fz]
def EE(h:eZ ρ zf=J zW):gN ρ zf=zW.db.o gb:=by unfold gN;rw [h];rfl
def EF(h:eZ ρ zf=J zW):ht ρ zf=_Co gb:=by unfold ht;rw [h];rfl
theorem yd(b:g9 ρ)(n:aL):(gN ρ n).a<=4/\(ht ρ n).a<=4:=by cases h:eZ ρ n with|none=>unfold gN ht;cbv|some s=>have:=(b.2.2.2 s (iR h).1).1;unfold Sym.names at this;rw [cG,aQ,aQ] at this;rw [EE h,EF h,aQ,aQ];have:sT=4:=y;lia
theorem EG{g:bh}(b:g9 g)(p:dj):∀i,i<=Pe->(k? g p i).a<=4+4*i|0,_=>by unfold k?;rw [iI,cG,aQ];have:=(yd b Mp).2;cbv|i+1,h=>by let c:=EG b p i Ih;rw [adR (n:=p.aa[i]) Ii,cG,aQ];have:=(yd b (p.aa[i]).Z).1;lia
def adT(j:GC):Sp:=λC H Q _=>∃F n g N p,C= [Ia n, Ia N]/\IQ F H/\gy j F (Ia n) g/\gW j F (Ia N) p/\g9 g/\ja g p/\Pe<=3/\∀d G f,Go F H F d bO->jl d G f%e4 g p->Q (Ia G) d
theorem sb:a0 [Jq,Jv,_Ce,JC,Qv,I2] [Jq,Jv]%aR x7:=(y,y,y,Ie,y,Ie,Ie)
theorem apg(W:aW r VA VA x7 f Q)(u:TG r θ)(zd:D KW=I)(υ:eu l p r D A aB 2 NS R' [IG,I2]%qi θ):aJ l p r D A aB 3 f Q [Jq,Jv]%adT θ:=by show Jb sb (λC H ze Z β=>by let (F,κ,g,N,b,rfl,_):=β;rfl) λzw T zx s H C ze Z L β=>?_;let (F,κ,g,N,b,rfl,t,φ,zf,E,hd,zy,q):=β;let (_,z,χ,zz,zg,μ,ψ,_):=id zf;cases zg;show (_,ao (p7 (q:=2) (e:= [(I2,5,)]) y _AQ y y (p8 y y y y) (et%aC (b5 (pv 0) _BZ υ L aK%ae (aC (pv 1) y) aj) y) (Xf [Jq,Jv,_Ce,JC,Qv,I2] (aR x7) I2 5 (y,Ie,Ie,Ie,Ie)) (Xc 5 _AQ%aH y) NX%XY hA%ae aF%ae (pv 5) aj)%ao (eB e0 y (ape y zd%aC (pv 1) y) (m3 y%gO (Wu 3 _AQ%aH y)%gO (Wu 4 _AQ%aH y) l2)%ax%eB e0 y (et%aC (b5 (pv 0) _BZ υ L aK%ae (pv 4) aj) y) (Wu 5 _AQ%aH y)%ax%bI%ea d9 fw fX fg (pv 2)%ae (hA%ae (pv 3)%ae (pv 5) aj) aj)%ax%aI%pv 2,?_);dsimp only [bz,b?,bX,l5,tR,cy];let zA:∀{d},IQ F d->d N=J _:=λs=>s _ _ μ;let (zh,ω):=OM%hd b.bo cA;show x? (G:=F) (gv y) (gf (gv y) (t _ _ μ) Ve (Vf _ Ii) y) t φ (Wj zi M η P) λη=>a' (η.J.q ω) Ii;obtain rfl:M=zh:=eD%η.J.q ω;let (zj,zk,ld,Γ,zB,rfl,zl,_,Δ,_):=P;let Θ:=EF η;let zm:=(yd E Sf).2;rw [Θ,aQ] at zm;show (zj,R_,zk,_,_,y,t _ _ zl,_B0,_B1 _ Ii,y,Γ,y,(_,Iw%t _ _ Δ),λG w=>oj (r:=r) (u:=Γ) (α:=cb M.ups) (λi d=>∃a,Go F H F d (·=G)/\jl d G a%(M.ups.Y i).o%Xa n 0 M1) ([],M? t w,ar, IR) (λi d _ (a,γ,_)=>Iw%γ.y _ _ Δ) ?_ ?_);{rintro i Ξ ν j ⟨a,m,o⟩;unfold cb at j;rw [bL] at j;let (n,δ,rfl):=LS j;show (y,kg (_,y,Nx,λξ v=>(Ot IP,?_,?_,a++ SX,?_,?_)));{rw [aq%aU o.lst v];show o.lst};{have:=b4 o.pr;rw [aQ,ho] at this;rw [aQ];show ec Ih};{show (m.q%JI m.y v).q%Kb (M? (M:=bO) m.y v).y y%b1 t w};{have:=o.add v (0,M1,);rw [←LW δ,dW];show this}};rintro ν ⟨ο,m,o⟩;rw [_aY (cb M.ups).a M.ups.a,fz] at o;(let o:jl ν G ο (k? g b 0):=by unfold k?;rw [Θ,dX,iI];change jl ν G ο (_++ []);rw [fo];show o);show (_,y,N,Nt,z,_,_,y,m.y _ _ μ,Ve,Vf _ Ii,y,χ,_,y,Iw%m.y _ _ ψ,apf (r:=r) (f:=χ) (α:=cb b.aa) (λi c d=>∃a x π h,c= [J%Ia κ,J%Ia N,J%Ia G,x,π,h]/\Go F H F d (·=G)/\jl d G a%k? g b i) (ο,I,I,I,y,m,o) (λi c d _ (_,_,_,_,_,γ,_)=>Iw%γ.y _ _ ψ) ?_ ?_);{rintro i Ξ Φ c ρ j ⟨a,x,π,h,rfl,k,ι⟩ Ψ;unfold cb at j;rw [bL] at j;let (n,δ,rfl):=LS j;let zC:=(I! δ).1;show (Φ,_,y,Ju ar,y,_,_,y,_,_,y,y,?_);let O:=Ma%ZD IC [Id OC, Iv%a! M1] JN Ψ;(let zn:=ι.dm (H':=ak ρ Φ%IC [Id OC, Iv%a! M1])%Z6 zo zD%aq%aU e Ψ);let (zp,Ω):=OM%hd n%cL _%cm δ;show ma%oI%nh%x? (G:=F) (zf:=n.name) (gv y) (gv y) J2 φ (Wj zi ε R P) λR=>a' (R.J.q Ω) Ii;obtain rfl:ε=zp:=eD%R.J.q Ω;let (zq,zr,za,zE,zF,rfl,zs,zb,_,_):=P;let zc:=EE R;let dl:=(yd E M1).1;rw [zc,aQ] at dl;let tl:=EG E b i Ih;show (zq,R_,zr,_,_,y,J2 _ _ zs,_B0,_B1 _ Ii,y,za,y,(_,Iw%J2 _ _ zb),hx (r:=r) (f:=za) (α:=cb ε.db) (λσ c d=>∃a h,c= [J%Ia κ,J%Ia N,J%Ia G,J%Id OC,J%Iv%a! M1,h]/\Go F H F d (·=G)/\jl d G a (k? g b i++(ε.db.Y σ).o%Xa τ (i+1) τ.Z)) (a,h,y,O,Io) (λσ c d _ (_,_,_,γ,_)=>Iw%γ.y _ _ zb) ?_ ?_);{rintro σ Ξ c zt X ⟨B,zu,rfl,ζ,α⟩;unfold cb at X;rw [bL] at X;let (τ,zv,rfl):=LS X;show h_ (f:=G) (gv y) α.lst (_,y,_,y,Nx,λξ v=>(B.o IP,?_,?_,B++ SX,_,y,?_,?_));{rw [aq%aU α.lst v];show α.lst};{have:=b4 α.pr;rw [cG,aQ,ho] at this;rw [aQ];show ec Ih};{show (ζ.q%JI Ob v).q%Kb (M? (M:=bO) Ob v).y y%b1 t w};{have:=α.add v (i+1,τ.Z,);rw [←LW zv,dW,←iH];show this}};{rintro c zt ⟨B,zu,rfl,ζ,α⟩;show (B,_,_,_,y,ζ,?_);rw [_aY (cb ε.db).a ε.db.a,fz] at α;rw [adR δ,zc,dX];show α}};{rintro c ρ ⟨a,x,π,h,rfl,k,ι⟩;rw [_aY (cb b.aa).a b.aa.a,adS] at ι;show (_,y,q ρ G a (Sg%Xx zo β (by rw [β];show w)) ι)}
theorem aph{s:Jc}{E:zg->s}{l k:Ib s}(h:l.Perm k):∀{m:Ib zg},k=m.o E->∃Z:Ib zg,Z.Perm m/\l=Z.o E:=by induction h with|nil=>cbv|cons x q c=>(intro m e;cases m with|nil=>cases e|cons a m=>rw [dJ] at e;let (p,e):=lS e;let (Z,D,R):=c e;show (a::Z,D.cons a,by rw [R,p];rfl))|swap x A l=>(intro m e;match m,e with|a::b::m,e=>rw [dJ,dJ] at e;let (p,e):=lS e;let (d,j):=lS e;show (b::a::m, .swap a b m,by rw [p,d,j];rfl))|trans i C n o=>intro m e;let (t,D,R):=o e;let (g,V,T):=n R;show (g,V.q D,T)
theorem adU{f:Jc}{a:_aD f}(b:∀x A,a x A->a A x->x=A):∀{l m:Ib f},l.Perm m->l.Pairwise a->m.Pairwise a->l=m| [],m,p,_,_=>(List.Perm.nil_eq p)|x::l, [],p,_,_=>a' p.length_eq Ii|x::l,A::m,p,D,R=>by rw [List.pairwise_cons] at D R;(let e:x=A:=by let N:=p.fy.R%cA (a:=x) (l:=l);let u:=p.fy.mpr%cA (a:=A) (l:=m);lk);subst e;rw [adU b (List.Perm.cons_inv p) D.2 R.2]
def kO(o:Jo):Ib (Ix ⊕ Ib Iu):= [Ik%Wa JW, Iy JX]
theorem api{A:Jo}(h:kO zP=kO A):zP=A:=by unfold kO at h;lk
def EH(x A:Jo):Ir:=(listOrd itemOrd).blt (kO A)%kO x=ay
def apj(x A:Jo)(D:EH x A)(R:EH A x):x=A:=api%(listOrd itemOrd).total _ _ R D
def uO(i:Nat):Bool:=aT (i=1)
theorem adV:∀{f:Ib aa} {d:Ib ah},bC (MH IP) d->d=MH b!| [],_,h=>_Ff|b::l,_,h=>by cases h with|cons g P=>cases g;rw [adV P];rfl
theorem adW:∀(f:Ib aa),bC (MH IP)%MH b!| []=> IR|b::l=> I1 y (adW l)
theorem adX{f s:Jc}{R:O_}:∀{N:Ib (f × s)},(∀z∈N,R Mn Rj)->cN R (KR (·.1))%KR (·.2)| [],_=> IR|z::N,h=> I1 (h z cA) (adX λA u=>h A%cL _ u)
theorem adY{f s:Jc}{R:O_}:∀{l:Ib f} {m:Ib s},cN R l m->(∀z∈l.zip m,R Mn Rj)/\(l.zip m).o (·.1)=l/\(l.zip m).o (·.2)=m|_,_, .nil=>(OF,y,y)|_,_, .cons r t=>Zy (D,a,V) adY t
theorem adZ{f:Jc}:YB f (l.zip l=JZ%Xa v v v)| []=>y|x::l=>by rw [Hw,adZ l];rfl
theorem EI(B:Ip j ν E g v)(h:g f=J%jP zP):_F9 I7 uO%Ia f=J%kO zP/\∃b,TupOf I7 uO (Ia f) b:=by let (d,c,(M,S,m,n,hd),_):=L_%Ju h;cases c with|cons e P=>cases P with|cons P D=>cases D;let (a,rfl):=e;let (i,rfl):=P;show (?_, Id (Wa QG) a,f,M,_,n,y,S,m,hd,y,Wx (_,_,y),ZJ z);unfold PyProof.Rows.G.tupKeyC PyProof.Rows.G.isTupObj;simp only [S,m,Af,kA];unfold tupKey;simp only [S,hd];rfl
theorem ad0:jG j (Jf _D9) (λL H Q=>∃a f os,L= [Ia a]/\jl H a f os/\W1 os.a/\∀x D n,H x=I->n.Perm os->n.Pairwise EH->cN (λ(r:aa) (o:Nat × aL)=>H r=J%jP o) D n->Q (Ia x)%ak H x%Ig%D.o IP):=by intro F s ξ H L ο Q B r h;let (a,f,os,rfl,t,E,q):=h;let (O,rfl,P):=Tc r;cases P;let (d,α,W,_):=Lf%Iw t.lst;let β:d=MH b!:=adV α;subst β;let len:=b4 t.pr;(let γ:∀(f:Ib aa) (os:Ib Jo),cN (λ(r:aa) (o:Nat × aL)=>H r=J%jP o) f os->∃w,TupsOf Lp uO (MH b!) w:=λf os e=>by induction e with|nil=>show ([], IR)|cons g _ c=>let (w,h):=c;let (_,δ,hf):=EI B g;show (δ::w, I1 hf h));let (w,ε):=γ f os t.pr;show PyProof.Rows.G.sorted_tups QV ε (Wb v A) Io%XB T ζ k;{let (r,η,rfl):=Kl A;let (M,p):=JM η;let (o,S):=dg p len.J;show (_,(EI B%dt t.pr p S).1)};let (R,u,b):=adY t.pr;(let θ:(arrOf T).toList.Perm ((f.zip os).o%Xa z (b! Mn)%b! Mn):=by have:=Array.perm_iff_toList_perm.R ζ;rw [pairsOf_toList,adZ,dX] at this;rw [show (f.zip os).o%Xa z (b! Mn)%b! Mn=((f.zip os).o (·.1)).o ((Xa v v v)∘b!) by rw [dX];rfl,u];show this);let (N,G,Z):=aph θ y;(let C:((arrOf T).o (·.2)).by=(KR (·.1)).o b!:=Io);(let ι:NK=os.a:=by have:=G.length_eq;cbv);let (κ,μ):=sortedAll_at Lp (MH b!)%(arrOf T).o (·.2);let ν:=adX (R:=λ(r:aa) (o:Nat × aL)=>H r=J%jP o) (N:=N) λz E=>R z%G.fy.R E;show (Ia _,ak H (JR+1)%Ig%(KR (·.1)).o IP,RP (t':=s.toks) (Zh sortedAll_old) (q5 _) (?_,_,κ,adW _,?_),y,q _ (KR (·.1)) (KR (·.2)) (Nl%q5 _) ?_ ?_ ν);{cbv};{rw [←C,Array.toArray_toList];show μ};{lk};{rw [aw1];intro i M l p π;rw [aQ] at l p;(let m:∀i (h:i<NK),KK (PyProof.Rows.G.tupKindC Lp uO) (arrOf T) i=kO (N[i]).2:=λi h=>by unfold KK;rw [←vy,Z,bL,d1 h];change (_F9 Lp uO%b! (N[i]).1).az []=_;rw [(EI B%R _%G.fy.R%aw3 h).1];rfl);have:=k i M Ih (by rw [pairsOf_size,aQ];lia);rw [m i l,m M p] at this;rw [axP,axP];show this}
def dO(o:Jo):kB:= N_ [Id%Wa JW, Iv%a! JX]
theorem EJ{K:aE}{H:Hp}:∀{f:Ib aa} {os:Ib Jo},cN (λ(r:aa) (o:Nat × aL)=>H r=J%jP o) f os->m8 K H (MH IP)%os.o dO|_,_, .nil=> IR|_,_, .cons r t=> I1 (IC (Ju r)%I1 (Id _)%I1 (Iv _) IR) (EJ t)
theorem ad1:∀(l m:Ib Jo),nY (JZ dO)%m.o dO=aT (l=m)| [], []=>y| [],_::_=>y|_::_, []=>y|x::l,A::m=>by change (iN (dO x)%dO A && nY (JZ dO)%m.o dO)=_;rw [ad1 l m];change ((Wc I6==Wa Lj) && ((a! IY==a! Ly) && ag) && aT (l=m))=_;rw [e_,cU,cI,cI,vb,du,du,cU];constructor;{rintro ⟨⟨D,R⟩,V⟩;rw [V,Yw (x=A) qQ Ih%h9 R]};{cbv}
theorem ad2(h:∀o∈zs,m? JX):iM%Js%zs.o dO=ag:=by show adG%Wb f hd;let (o,S,rfl):=Kl hd;show (?_,by unfold dO;simp [vK,tn]);have:=h o S;unfold dO;simp only [AH,tm,o2,vb];show this
theorem ad3(A:iZ ρ)(n a:aL)(h:a∈gN ρ n∨a∈ht ρ n):m? a:=by cases P:eZ ρ n with|none=>unfold gN ht at h;cbv|some s=>rw [EE P,EF P] at h;have:=Lj s (iR P).1;rcases h with h|h;{let (x,N,rfl):=Kl h;show this x%sX _ N};{let (x,N,rfl):=Kl h;show this x%lG _ N}
def apk(A:iZ ρ)(p:dj):∀o∈e4 ρ p,m? JX:=λo S=>by unfold e4 at S;rcases d7.R S with h|h;{let (a,N,rfl):=Kl h;show ad3 A _ _%Iy N};{let (x,_,b):=mv.R h;let (a,N,rfl):=Kl b;show ad3 A _ _%Ik N}
def oJ(p:dj)(i:Nat):Ib Jo:=(p.b3.Y i).d7 Ae
theorem apl{r:i6}(h:Wf Δ.b3=J r):oJ Δ (q+1)=oJ Δ q++r.hj.by:=by unfold oJ;rw [←LW h,List.filterMap_append];lk
def ad4(m:aa)(j:GC):Sp:=λC H Q Z=>∃F n g N p,C= [Ia n, Ia N]/\IQ F H/\gy j F (Ia n) g/\gW j F (Ia N) p/\g9 g/\iZ g/\ja g p/\Pe<=3/\p.b3.a<=24/\((lF p).Perm%e4 g p->∀d,Go F H F d bO->Q IK d)/\(¬ (lF p).Perm (e4 g p)->∀d,Go F H F d bO->Z (Ia m) I d)
theorem EK:a0 [Jq,Jv,"targets",Vg] [Jq,Jv]%aR x8:=(y,y,y,Ie,y,Ie,Ie)
theorem apm(W:aW r VB VB x8 u Q)(j:TG r θ)(σ:D _D9=I)(R:ID l p r D A (bp l p) 1 LU Ml%hD f)(Φ:ID l p r D A aB 3 VA [Jq,Jv]%adT θ): aJ l p r D A (bp l p) 4 u Q [Jq,Jv] (ad4 f θ):=by show W.dZ EK (Xh Ψ Ω (F,n,g,N,a,rfl,_)) λc zy zz zA H C Ψ Ω L h=>?_;let (F,n,g,N,a,rfl,t,za,d,B,S,hd,zb,zc,q,zd):=h;let (_,ze,zB,E,zf,zg,zC,X,η,s):=id d;cases zf;show (_,ao (p7 (q:=2) (e:= [(Vg,3,)]) y EK.nd y y (p8 y y y y) (et%aC (pv 1) y) (Xf [Jq,Jv,"targets",Vg] (aR x8) Vg 3 (y,Ie,Ie,Ie,Ie)) (Xc 3 EK.nd%aH y) (XY t9%eh%pW%l? (pv 3) y)%Xk%l? (pv 3) y)%ax%bI%aM R (Jh Il) y bw%ae (gT (t5%r8 L) (cz ad0 I5 σ boot_sorted%ae (pv 2) aj) (cz ad0 I5 σ boot_sorted%ae (aM Φ L y aK%ae (pv 0)%ae (pv 1) aj) aj)%c' _) aj,?_);dsimp only [bz,b?,dq,l5];let τ:cN (k8 θ F) X a.b3:=s;show (_,y,N,Nt,ze,_,_,y,t _ _ zg,j.d.cl,j.d.no _ Ii,y,E,y,(_,Iw%t _ _ η),λG m=>oj (r:=r) (u:=E) (α:=X) (λi υ=>∃b,υ=ak H G%Ig%b.o IP/\cN (λ(w:aa) (o:Nat × aL)=>F w=J%jP o) b%oJ a i/\∀o∈oJ a i,m? JX) ([],y, IR,OF) (λi υ _ (b,e,_)=>_ah Iw%XN (aU (t _ _ η) m) t η) ?_ ?_);{rintro i x M zh ⟨b,rfl,β,ε⟩;let (w,zi,(φ,Z,zj,zD,rfl,zk,γ,_),_):=i0 τ zh;(let up1:∀{α o},F α=J o->ak H G (Ig%b.o IP) α=J o:=λe=>XN (aU (t _ _ e) m) t e);let χ:=up1 zk;let δ:=apl zi;show (y,(_,y,φ,Qs,Z,_,_,y,χ,j.r.cl,j.r.no _ Ii,y,_,y,?_));cases v:w.target with|none=>rw [v] at γ δ;let γ:zj= IK:=γ;lk|some o=>rw [v] at γ δ;let (α,rfl,zl,T):=γ;show bu (_,y,φ,Qs,Z,_,_,y,χ,j.r.cl,j.r.no _ Ii,y,b.o IP,ar,?_,b++ [α],?_,?_,?_);{have:=b4 β;let zE:(oJ a i).a<=24:=d8 (axQ ..) _Fj;rw [aQ];show ec Ih};{rw [dE,dW];rfl};{rw [δ];show ji β zl};{rw [δ];intro x zm;rcases d7.R zm with h|h;{show ε x h};{simp at h;subst h;show T}}};rintro M ⟨b,rfl,β,ε⟩;rw [b4 τ,show oJ a _Ci=lF a by unfold oJ lF;rw [fz]] at β ε;generalize ψ:ak H G (Ig%b.o IP)=M;(let ι:Go F H F M bO:=by rw [←ψ];show JI t m);let zF:(lF a).a<=24:=d8 (axQ ..) zc;let zn:jl M G b (lF a):=(by rw [←ψ];show ar,J8 β%Xi%Qw _ _ z);show (_,y,G,b,_,y,zn,Ih,λω κ zG Γ μ zo zp=>?_);let k:=ι.q%XH (κ.o IP) Qw Γ;show (_,y,_,y,F,n,g,N,a,y,JN,za,d,B,hd,zb,Wn Δ zq zr ν zs);let O:=Ma ν;let tl:=EG B a _Ch%bj _;rw [adS] at tl;show (zq,zr,_,y,zs,Ih,λzt P zH Θ ξ zu zv=>?_);let ο:=MU%XH (P.o IP) J2 Θ;generalize Ξ:ak Δ zt (Ig%P.o IP)=ζ at ο;(let π:∀{α o},Δ α=J o->ζ α=J o:=λe=>by rw [←Ξ,aq%aU e Θ];show e);(let zw:∀{α o},M α=J o->ak M ω (Ig%κ.o IP) α=J o:=λe=>_ai aq%aU e Γ);let zx:ζ ω=J%Ig%κ.o IP:=π%ν.ad _ _ ar id;show (_,_, Ig (Iw zx)%EJ%J8 zp%YO π%ν.ad _ _ (zw z) id, Ig (Iw (by rw [←Ξ];show ar))%EJ%J8 zv%YO π z,ad2 λo ρ=>ε o%μ.fy.R ρ,ad2 λo ρ=>apk S a o%ξ.fy.R ρ,_,y,?_);rw [Yw (iN (Js _)%Js _=_) ad1 _ _];show (λh=>q ?_ ζ ο,λh=>zd ME ζ ο);{lk};{show dY h%adU apj (Se%z.q ξ.J) zo zu}
def EL(m:aa)(j:GC):Sp:=λC H Q Z=>∃F n g,C= [Ia n]/\IQ F H/\gy j F (Ia n) g/\iZ g/\(rD g->∀d,Go F H F d bO->Q IK d)/\(¬ rD g->∀d,Go F H F d bO->Z (Ia m) I d)
theorem EM:a0 [Jq,Jv,Vg] OI%aR Ez:=(y,y,y,Ie,y,Ie,Ie)
theorem apn(W:aW r T8 T8 Ez u Q)(b:TG r θ)(B:ID l p r D A (bp l p) 2 Vw SV%x' f θ (λF g v=>∃ζ,v= Ia ζ/\hG (f7 θ) F ζ QL) g9)(R:ID l p r D A (bp l p) 3 Vx OI%x' f θ (λF g v=>∃n,v= Ia n/\gy θ F v g) ya) (zd:ID l p r D A (bp l p) 4 VB [Jq,Jv]%ad4 f θ) (T:ID l p r D A (bp l p) 3 Vy [Jq,Jv,Me]%adO f θ) (ze:ID l p r D A (bp l p) 2 Vz OI%adQ f θ):aJ l p r D A (bp l p) 5 u Q OI%EL f θ:=by show W.dZ EM (Wr S (F,n,g,rfl,_)) λzy zz zA zB H C S Z L h=>?_;let (F,n,g,rfl,t,η,zf,zg,m):=h;let (_,zh,ζ,E,e,Δ,zi,C,Θ,γ):=id η;cases e;let ι:∀{M},M<=4->dy M _:=λh=>Jh h;show (_,ao (bI%aM B (ι Il) y bw%ae (aC (pv 0) y) aj)%ao (bI%aM R (ι Il) y bw%ae (pv 0) aj)%ao (eB hC y (et%aC (pv 0) y) (Wu 1 EM.nd%aH y)%ao (bI%aM zd (ι Il) y bw%ae (pv 0)%ae (pv 1) aj)%ax%eB hC y (et%aC (pv 1) y) (Wu 2 EM.nd%aH y)%ax%bI%aM T (ι Il) y bw%ae (pv 0)%ae (pv 1)%ae (aC (pv 2) y) aj)%ax%bI%aM ze (ι Il) y bw%ae (pv 0) aj,?_);dsimp only [bz,dq];let zj:∀{u:ai} {v κ o d},u∈([J?,MQ]:Ib ai)->nI u [(J?,IP ζ,),(MQ, Ia E,)]=J v->Go F H F d bO->IA (cy r (bH 0) u) [J%Ia n,κ,o] d v:=λB R μ=>gf (gv y) (Rb _ _ Δ) _AP (_Cg _ B) R;let zk:Go F H F H bO:= Ls t;show zj Ii y zk _ (F,_,g,y,t,(ζ,y,zi),Wd ρ Ξ w,λno Ξ w=>m (λz=>no Mn) Ξ w);show (_,y,F,_,g,y,w.y,(n,y,η),Wd ν Φ zl,λno Φ k=>m (λz=>no (Rv,(Ss).1,λa γ=>(((SR).1 a γ).1,((SR).1 a γ).2.1,((SR).1 a γ).2.2.1))) Φ%w.q k);let k:=w.q zl;show (_,y,n,NS,zh,_,_,y,JN _ _ Δ,_AP,_Cg _ Ii,y,E,y,(_,Iw%JN _ _ Θ),hx (r:=r) (f:=E) (α:=C) (λi c d=>∃κ o,c= [J%Ia n,κ,o]/\Go F H F d bO/\∀(M:Nat) j,M<i->Wm N1=J j->hY g j) (I,I,y,k,λM j h=>Ih) (λi c d _ (_,_,_,μ,_)=>Iw%Rb _ _ Θ) ?_ ?_);{rintro i x c zm zn ⟨κ,o,rfl,O,σ⟩;let (a,q,τ,_):=i0 γ zn;let (ξ,zo,zC,P,rfl,N,zD,υ,Ψ,s):=id τ;let Ω:=cm q;let (za,zb,φ):=ν.2.2 a Ω;let no:¬ hY g a->¬ rD g:=λh z=>h%(SR).1 a Ω;dsimp only [bz,dq,bU];show (_,y,_,y,F,n,g,ξ,a,y,J2,η,τ,ρ,zf,φ,za,zb,Wd zp δ zq,λχ δ α=>m (no λz=>χ (SR).1) δ%MU α);let α:=MU zq;show (_,y,ξ,Nt,zo,_,_,y,α.y _ _ N,b.d.cl,b.d.no _ Ii,y,P,y,(_,Iw%α.y _ _ Ψ),hx (r:=r) (f:=P) (α:=υ) (λi c d=>∃o,c= [J%Ia n,J%Ia ξ,o]/\Go F H F d bO/\∀(M:Nat) j,M<i->Wm a.b3=J j->pN g a j.dk) (_,y,α,λM j h=>Ih) (λi c d _ (_,_,μ,_)=>Iw%Rb _ _ Ψ) ?_ ?_);{rintro ψ x c zc ο ⟨o,rfl,ε,ω⟩;let (π,G,(zr,zs,zE,zt,rfl,zu,_,zv),_):=i0 (_aj%cN (k8 θ F) υ a.b3) ο;dsimp only [dq,bU];show (_,y,_,y,_,y,zr,Qs,zs,_,_,y,Sh _ _ zu,b.r.cl,b.r.no _ Ii,y,F,n,g,ξ,a,zt,π.dk,y,Sh,η,τ,φ,zv,λΓ=>(_,y,ε,Wj M z X β),λzw=>m (no λz=>zw%(SR).2 π%cm G) zc ε);lk};{rintro c zc ⟨o,rfl,ε,ω⟩;show (_,_,y,ε,Wj M z X β);by_cases e:M=i;{subst e;rw [q] at β;cases β;show (za,zb,φ,zp,Wb π G);let (ψ,ο):=JM G;show ω ψ π (by rw [b4%_aj%cN (k8 θ F) υ a.b3];lk) ο};{lk}}};{rintro c zm ⟨κ,o,rfl,O,σ⟩;(let zx:∀a∈g.prods,hY g a:=λa q=>ZC (M,X) JM q%σ M a (by rw [b4 γ];lk) X);show (_,y,F,n,g,y,J2,η,ρ,ν,λΓ δ α=>zg (ρ,ν.1,ν.2.1,zx,Γ) δ%MU α,λχ δ α=>m (λz=>χ (SR).2) δ%MU α)}
abbrev ye:aS:=eP (IF 59) 0
abbrev EN:aS:=IF 60
abbrev EO:aS:=IF 61
abbrev ER:aS:=IF 62
abbrev ES:aS:=IF 63
abbrev ET:aS:=IF 64
structure mb(W:dD)(r:Ib eo):Ir where
 len:MZ=P_
 at_:∀(n:Nat) s,Xm r=J s->(∃p,eE W n=J p/\eZ QO Mp=J s)/\gh W n=Mr s/\(KS s).am
def mb.cnt{W:dD}{r:Ib eo}(h:mb W r){n:Nat}{s:eo}(e:Xm r=J s):_Cp W n=(s.db++s.ups).a:=by unfold TW.cnt;rw [(h.at_ n s e).2.1];have:=dR j6%i? s;rw [aQ] at this;rw [this];unfold Sym.names;rw [cG,cG,aQ,aQ]
def la(W:dD):Ib V:=(ey P_).o λn=>Iz%Ze W n
def ad5(j:GC):Sp:=λC H Q _=>∃F l r W,C= [Ia l]/\IQ F H/\hG (f7 j) F l r/\mb W r/\MZ<=60/\∀d G,Go F H F d bO->H G=I->d G=J%Ig%la W->Q (Ia G) d
theorem uP:a0 [J?,NU,VD,T6] SV%aR EN:=(y,y,y,Ie,y,Ie,Ie)
theorem apo(η:aW r VE VE EN f Q)(u:TG r θ)(j:D Kp=I):aJ l p r D A aB 1 f Q SV%ad5 θ:=by show η.ok uP (Wr q (F,a,ι,W,rfl,_)) λο T B s H C q Z π h=>?_;let (F,a,ι,W,rfl,t,(C,z,β),γ,ρ,κ):=h;show (_,ao (WJ uP.nd (aH y)%bZ aj)%ao (Wq uP.nd (aH y) aF)%ao (eB e0 y (et%pv 0) (Wu 3 uP.nd%aH y)%ao (bI%ea d9 fw fX fg (pv 1)%ae (pv 2) aj)%ax%YS m4 2 uP.nd y (aH y)%cz dr I5 j c!%ae (aC (pv 3) y) aj)%ax%aI%pv 1,?_);dsimp only [bz,b?,bU,bX];show (cj _,Wb G α);let b:Go F H F (ak H G%Ig []) (·=G):= JI t α;let m:=b1 t α;let o:=b4 β;show (_,y,a,y,(_,Iw%b.y _ _ z),hx (r:=r) (f:=a) (α:=C) (λi c d=>∃x,c= [J%Ia a,J%Ia G,J%Id%Ze W i,x]/\Go F H F d (·=G)/\d G=J%Ig%(ey i).o (λn=>Iz%Ze W n)) (I,y,b,ar) (λi c d _ (_,_,μ,_)=>Iw%Rb _ _ z) ?_ ?_);{rintro i σ c M δ ⟨x,rfl,k,N⟩;let (ε,v,(ζ,X,ld,g,E,rfl,ν,_,_,w),_):=i0 β δ;let τ:=(I! δ).1;dsimp only [bz,dq,bU];show h_ (gv y) N (_,y,_,N,by rw [aQ,o7];show ec Ih,?_);generalize R:ak M G (Ig ((ey i).o (λn=>Iz%Ze W n)++ [Iz%Ze W i]))=ξ;(let O:Go F H F ξ (·=G):=by rw [←R];show Ma%Kb JN y m);show (_,y,qn (r:=r) (gf (gv y) (J2 _ _ ν) _B0 (_B1 _ Ii) y) (J2 _ _ w) _ (_,_,y,y,J%IP ζ,?_,O,?_));{(let e:Zu Jp W i+WB%cb (ε.db++ε.ups)=Ze W (i+1):=by change _=_ac (Jp W i)%_Cp W i;rw [γ.cnt v];unfold cb;cbv);cbv};{rw [←R,ar,qR,dW];rfl}};{rintro c M ⟨x,rfl,k,N⟩;show (_,y,κ M G (Sg%Xx υ h (by rw [h];show α)) α ?_);unfold la;rw [←γ.len,←o];show N}
structure oK(v:aa)(j:GC)(q:aa)(F H:Hp)(R o O:aa)(W:dD)(r:Ib eo)(c:Ib K1):Ir where
 obj:∃X,H R=J%Iq v X c
 fn:c.B%eG JD=J%Ia o
 yf:c.B%eG J?=J%Ia O
 nodes:oE j q QO F o W.ai
 syms:hG (f7 j) F O r
 so:mb W r
 gd:NB W
 nk:iZ QO
def oK.go{r:Ib eo}(t:oK f θ u g G W ο zd zh r z8)(a:Wh (g b=J o) (σ b=J o))(k:∀o,G W=J o->Γ W=J o):oK f θ u σ Γ W ο zd zh r z8:=(let (X,h):=t.obj;(X,k _ h),t.fn,t.yf,t.ai.u a,t.b8.u (Xb a) a,t.so,t.gd,t.nk)
def ad6(v:aa)(j:GC)(q:aa):Sp:=λC H Q _=>∃F R d O k W e V n x p r o c,C= [Ia R, Id Jy, Ia c]/\IQ F H/\oK v j q F H R d O W e V/\V.B%eG NU=J%Ia k/\F k=J%Ig%la W/\Xm W.ai=J x/\eE W n=J p/\Z4 r/\o∈S2/\H c=J%jP o/\Q (Id%Yl W%gi W n o) H
theorem yg:a0 [Jn,LJ,N?,JC,IL] [Jn,LJ,N?]%aR ET:=(y,y,y,Ie,y,Ie,Ie)
theorem apq(φ:aW r VF VF ET f Q)(v:TG r θ)(TT:TN r u [JD,J?,NU,Lu])(ι:TN r W [Jv,IL,LI,JC,KQ]):aJ l p r D A aB 1 f Q [Jn,LJ,N?]%ad6 u θ W:=by show φ.ok yg (Xv χ w ψ (F,R,ω,O,k,a,j,κ,n,x,P,Γ,o,β,rfl,_)) λzm zn zo zp H χ w ψ zq h=>?_;let (F,R,ω,O,k,a,j,κ,n,x,P,Γ,o,β,rfl,t,e,Δ,Θ,N,d,G,Ξ,μ,Φ):=h;let (zr,Ψ):=e.obj;let (X,Ω,ν):=e.nodes;let (zs,za,ξ):=e.syms;show (_,ao (WK yg.nd (aH y)%a8 hB (pv 2) aF IB)%ao (Xd yg.nd (aH y)%pv 1)%ao (bA (d4 ka (pv 3) aF%c' _) (ax%Xd yg.nd (aH y)%a8 bf (aC (a8 bf (aC (pv 0) y) (pv 1) IB) y) (d? kS (pv 3) aF) IB) bM)%ax%aI%d? jd (a8 bf (aC (pv 0) y) (pv 4) IB)%ea d9 agC axR ab7 (aC (a8 bf (aC (pv 0) y) (pv 4) IB) y)%ae (a8 hB (pv 2) aF IB) aj,?_);dsimp only [bz,b?,bU,cc,hy,bX,cx];let q:∀{f:ai} {ο c},f∈([JD,J?,NU,Lu]:Ib ai)->κ.B f=J ο->c[0]?=J%J%IP R->IA (cy r (bH 0) f) c H ο:=λδ ε zb=>gf (gv zb) Ψ Rc (Re _ δ) ε;let (m,zt,zu,zc,Z,zv,π,zd,zw,zx):=e.gd.meant N d G Ξ;obtain ⟨i,b⟩:∃i,j[m]?=J i:=(j[m]'(by rw [_AR];show π),Ii);let (zy,ρ):=dg b%b4 ξ;let (zz,zA,ld,zB,B,rfl,ze,_,_,σ):=dt ξ ρ b;let ζ:=zd;rw [(_Cq m i b).2.1] at ζ;(let names:∀(M:Nat),Wm%bN (i.db++i.ups)=(Wm%Mr i).o (λE:aL × Nh=>a! E.1):=λM=>by (have:Wm%(Mr i).o sS=Wm%KS i:=by rw [i?]);unfold bN;rw [bL];rw [←n3,bL,bL] at this;lk);(let τ:∀{c},c[0]?=J%J%IP R->c[2]?=J%J%IP β->c[4]?=J%J%Iz OJ->cR (jH λzf M=>Iz (zf+M)) (cR (dM r) (cy r (bH 0) NU)%bH 4) (p4 r JT (ab5 r) (cy r (cR (dM r) (cy r (bH 0) J?)%bH 4) R9)%bP (cR (abZ r) (bH 2)%tC%Iz 1) bY) c H w:=λ{c} γ ε T=>by show (cX (r:=r) (q Ii Δ γ) (t _ _ Θ) (q:=m) (ζ:=Iz%Ze a m) (by unfold la;cbv)%gv T) _ ?_;let zg:IA (cy r (cR (dM r) (cy r (bH 0) J?)%bH 4) R9) c H (Ia B):=gf (cX (q Ii e.yf γ) (t _ _ za) ρ%gv T) (t _ _ ze) v.s.cl (v.s.no _ Ii) y;show zg _ (Ik (y,_,Iw%t _ _ σ),_,ε,β,_,_,_,y,y,Ju μ,y,?_);show (B,_,_,my a m JX,Ki%a! JX,y,y,Iw%t _ _ σ,y,_bn EC _,?_,b8 y,Wj M z zC α,_,_,y,y,?_);{rw [oF,bL,names,ζ];rfl};{rw [oF,bL,names] at α;cases L:(Sym.e0 i)[M]? with|none=>cbv|some E=>rw [L] at α;cases α;show bD%We η;let η:=h9 η;(let C:Wm%KS i=J JX:=by rw [←i?,bL,L];cbv);(let zh:(KS i)[my a m JX]?=J JX:=by rw [←i?,bL,ζ];rfl);have:=(mI (I! C).1 (_Cq m i b).2.2).R%C.q zh.J;lia};{(have:Zu Jp a m+Wa%my a m JX=Yl a%gi a n o:=by rw [zc];unfold ix;cbv);cbv});show (_,y,β,_,_,_,y,y,Ju μ,y,_,y,_,y,_,_,y,y,_,y,?_);show cF JV JV;{(let h:0<JW:=Yx h);let (s,υ):=dg N%b4 ν;let ((zD,zE,zF,zG,zi,_),zj):=dt ν υ N;(let g:x.aa[Wy JW]?=J m:=by let (zH,zI,zJ,zk,_):=e.gd.pO N d (j:=Wy JW) Ih;rw [Z];unfold hZ;lk);let zl:∀{c},c[0]?=J%J%IP R->c[1]?=J%J%Iz Jy->IA (cy r (cR (dM r) (cy r (bH 0) JD)%bH 1) KQ) c H%Ia JS:=λγ δ=>gf (cX (q Ii e.fn γ) (t _ _ Ω) (by rw [bL,υ];rfl)%gv δ) (t _ _ zi) ι.cl (ι.no _ Ii) y;show zl y y _ (_,y,_,_,y,y,JS,_,_,_,y,y,Iw%t _ _ zj,?_,τ y y y);change jf (hI x.aa)%Z0 JW=J%Iz OJ;rw [_am (Z0 JW)%Wy JW];show h7 ?_;unfold hI;rw [bL,g];rfl};{(let h:JW=0:=Io);(have:m=n:=by rw [Z];unfold hZ;rw [aA h]);subst this;show τ y y y}
theorem mk4(A:I8=4)(S:∀o,za≠ IC o)(j:Go σ Γ G g zT) (q:∀W d a l X,Go σ Γ W d zT->(∀b x,g b=J x->d b=J x)->(∀b x,G b=J x->W b=J x)->g a=I->g l=I->W a=J%Iq f X (Qd α++ [(L, Ia l,)])->d l=J za->W l=I->ε (Ia a) d): ∀x X,g x=I->g X=I->W_ X->ql f π L za (Ia x::(α++ [])) (ak (ak g X%JA x) x%Iq f X []) (λv n=>v= IK/\ε (Ia x) n) τ:=by intro a k N M R;show (a,k,α,by rw [fo],A,ar,λi l E D r t=>QC);let m:∀b za,g b=J za->i b=J za:=λb za e=>E.kp b za (Zw (aq%aU e N) aq%aU e M)%aU e N;let c:∀b,i b=I->g b=I:=λb e=>er (er Oj) b%E.bg b e;let w:g l=I:=er (er Oj) l D;let h:Go σ Γ G i zT:=j.q (λb za e=>m b za%j.y b za e,Mj,λ_ _ e=> Ik e,λb za e _=>m b za e,c);let hg:G a=I:=b1 j.y N;let B:G l=I:=b1 j.y w;(let s:l≠a:=λz=>by rw [z,ar] at D;cases D);show q _ i a l k (h.cm (j.bg _ N) t hg) m (Z6 b za%aq JO) N w ar r%_bw aq s
def fI(n k:Nat)(Z m:V)(f:aa):Ib K1:= [(Ka, Id Jy,),(K6, Id%Wa k,),(Nv,Z,),(LJ,m,),(PB, Ia f,)]
def hJ(j:GC)(F:Hp)(W:dD)(i:bT)(Z m:V):Ir:=match ig W i with|I=>Z= IK/\m= IK|J (n,e)=>k7 j.e j.p F Z e/\m= Id Jy
def hJ.mono{j:GC}{F a:Hp}{W:dD}{i:bT}{Z m:V}(h:Wh (F b=J o) (a b=J o))(p:hJ j F W i Z m):hJ j a W i Z m:=by unfold hJ at p ⊢;split at p;{show p};{show ((KB).u h,L3)}
theorem yh(n:Nat)(b:aL)(p:dj):p.b3.cd%k9 n b=qU p n b:=by unfold qU;congr 1;funext r;unfold k9;lk
theorem apr(F:(KS zW).am)(h:Wf%Mr zW=J (zf,zc,)):zf∈_Co gb↔zc=ay:=by let i:=cm h;unfold Sym.both at i;unfold Sym.names at F;lk
def ad7(v L:aa)(j:GC)(q:aa):Sp:=λC H Q _=>∃F R o O W r V n k h f,C= [Ia R, Id Jy, Id%Wa k, Iv%a! h]/\IQ F H/\oK v j q F H R o O W r V/\n<P_/\(gh W n)[k]?=J (h,f,)/\∀c e g d X Z m,Go F H c e bO->H g=I->H d=I->c g=J%Iq L X%fI n k Z m d->hJ j c W (n,k,) Z m->e d=J%I9 []->c d=I->Q (Ia g) e
theorem EU:a0 [Jn,IL,K6,I2,Ka,LI] [Jn,IL,K6,I2]%aR ER:=(y,y,y,Ie,y,Ie,Ie)
theorem aps(zp:aW r VG VG ER f Q)(κ:TG r θ)(TT:TN r ο [JD,J?,NU,Lu])(α:TN r u [Jv,IL,LI,JC,KQ]) (Γ:eu l p r D A aB 1 Nt _B3 [IG,LV]%DM θ) (π:gx l p r D A aB 1 "Instance" W [IG,Ka,K6,Nv,LJ]%ql W [Ka,K6,Nv,LJ] PB%I9 []): aJ l p r D A aB 3 f Q [Jn,IL,K6,I2] (ad7 ο W θ u):=by show zp.ok EU (λzq H P zr ρ=>by let (F,μ,zs,O,j,σ,Δ,n,k,γ,E,rfl,_):=ρ;rfl) λz2 z3 z4 Θ H zq P zr ν ρ=>?_;let (F,μ,zs,O,j,σ,Δ,n,k,γ,E,rfl,t,e,G,g,zt):=ρ;let (z5,zu):=e.obj;let (z6,Ξ,h):=e.nodes;let (z7,zv,Φ):=e.syms;let Ψ:=_ar ν.u 1;show (_,ao (Xd EU.nd (aH y)%a8 bf (aC (pv 0) y) (pv 1) IB)%ao (bA (d4 rS (pv 3) (aC (a8 bf (aC (pv 0) y) (pv 1) IB) y) I5) (ax%aI%eC π ν y aK%ae (pv 1)%ae (pv 2)%ae (b5 (aC (pv 4) y) κ.d.cl Γ Ψ aK%ae (hA%ae aF%ae (pv 3) aj) aj)%ae (pv 1) aj) bM)%ao (bA (eh%lZ%aC (pv 4) y) (ax%aI%eC π ν y aK%ae (pv 1)%ae (pv 2)%ae iT%ae iT aj) bM)%ao (WS 5 EU.nd (aH y)%a8 bf (aC (pv 0) y) (aC (pv 4) y) IB)%ax%aI%eC π ν y aK%ae (pv 1)%ae (pv 2)%ae (b5 (aC (pv 5) y) κ.d.cl Γ Ψ aK%ae (hA%ae (aC (pv 4) y)%ae (pv 3) aj) aj)%ae (aC (pv 4) y) aj,?_);dsimp only [bz,b?,bU,cc,hy,tB,bX,cx];let L:∀{f:ai} {β c},f∈([JD,J?,NU,Lu]:Ib ai)->Δ.B f=J β->c[0]?=J%J%IP μ->IA (cy r (bH 0) f) c H β:=λb R ε=>gf (gv ε) zu Rc (Re _ b) R;obtain ⟨x,N⟩:∃x,Xm j.ai=J x:=(j.ai[n],Ii);let (s,Ω):=dg N%b4 h;let ((C,zw,zx,T,ξ,za,zy,_),z8):=dt h Ω N;obtain ⟨i,τ⟩:∃i,Xm σ=J i:=(σ[n]'(by rw [_AR];show G),Ii);let (z9,zb):=dg τ%b4 Φ;let (z_,z',ld,zz,zaa,rfl,zA,_,zB,_):=dt Φ zb τ;let ((p0,zab,zC),zD,zE):=_Cq n i τ;let υ:=g;rw [zD] at υ;let zc:=apr zE υ;let zd:(n,k,)∈bB j:=pP.mpr (G,(I! g).1);(let ze:m? γ:=by have:=(e.nk.1 i (iR zC).1);(let zf:γ∈KS i:=by rw [←i?];lk);rw [←n3] at zf;let (q,v,rfl):=Kl zf;show this q v);let zF:∀{c},c[0]?=J%J%IP μ->c[1]?=J%J%Iz Jy->IA (cR (dM r) (cy r (bH 0) JD)%bH 1) c H%Ia Kf:=λzG b=>cX (L Ii e.fn zG) (t _ _ Ξ) (by rw [bL,Ω];rfl)%gv b;show zF y y _ ?_;show (_,y,(gf (cX (L Ii e.yf y) (t _ _ zv) zb%gv y) (t _ _ zA) κ.s.cl (κ.s.no _ Ii) y) _ (zz,_,y, Ik%Iw%t _ _ zB,y,_bn EC _,_,y,?_));change WW%gs (Iv%a! γ)%cb i.ups;rw [oF,adN];(let φ:∀{M:Hp} {Z m:V},Go F H F M bO->hJ θ F j (n,k,) Z m->∀x X,M x=I->M X=I->W_ X->ql W [Ka,K6,Nv,LJ] PB (I9 []) (Ia x::([Id Jy, Id%Wa k,Z,m]++ [])) (ak (ak M X%JA x) x%Iq W X []) (λβ zH=>β= IK/\P (Ia x) zH) E0:=λ{M Z m} a δ=>by show mk4 y Io a λzI d zJ zK X zL zac zM zN zO b R ε=>?_;show zt zI d zJ zK X Z m zL (Pr _ zN) (Pr _ zO) b (Q9 zM) R ε);(let zg:∀{B:Nat} {S:dj} {β:V} {q:bQ},j.ai[B]?=J q->j.cr.b0[q.gh]?=J S->eE j B=J S:=λb R=>by unfold eE;rw [b];show R);show cF (We χ)%We χ;{let hd:=zc.R%yb.R%cw χ;subst hd;let (zh,zP,zad,zae,rfl,zQ,_):=id za;show (_,y,_,y,_,y,Kf,u,C,_,_,y,t _ _ ξ,Sc,Sd _ Ii,y,zh,zP,_,y,t _ _ zQ,y,_,y,Nx,Wb ζ ψ);let a:Go F H F (ak H ζ%IC [Id 0, Iv%a! γ]) bO:= JI t ψ;rcases e.gd.hk zd N g with ⟨_,z,_⟩|⟨zi,zR,_,zS,zT,δ,η⟩|⟨_,_,_,_,z,_⟩;{cases z};rotate_left;{cases z};obtain rfl:zi=zx:=eD%zS.J.q%zg (β:= IK) N zy;show (F,zh,zi,ζ,0,γ,y,Lr,za,ar,ze,λβ zU w ω=>(_,y,φ a ?_),We o);{rw [yh,δ] at w;cases w;unfold hJ;cbv};{rw [yh,δ] at o;cases o}};{(let hd:E=ag:=by cases E with|true=>rfl|false=>show a' (b8%yb.mpr%zc.mpr y) χ);subst hd;let zj:∀{f:ai} {β c d},f∈([Jv,IL,LI,JC,KQ]:Ib ai)->(fN zw T x.ci x.d8 JS).B f=J β->IQ F d->c[4]?=J%J%IP Kf->IA (cy r (bH 4) f) c d β:=λb R Θ ε=>gf (gv ε) (Θ _ _ ξ) Sc (Sd _ b) R;show zj (f:=LI) Ii y t y _ (_,y,?_);rcases e.gd.hk zd N g with ⟨η,_,ι⟩|⟨_,_,z,_⟩|⟨B,q,zk,zR,_,ι,v,zV,zT,δ,η,_⟩;{rw [ι];show bu (_,y,_,y,φ (Ls t) ?_);unfold hJ;lk};{cases z};{rw [ι];show bt ?_;let (zl,zm):=dg v%b4 h;let ((zW,zaf,zX,zag,zY,zn,zZ,_),_):=dt h zm v;obtain rfl:zk=zX:=eD%zV.J.q%zg (β:= IK) v zZ;let (zo,z0,zah,zai,rfl,z1,_):=id zn;show (cX (r:=r) (q:=B) (ζ:= (Ia zl.1)) (L Ii e.fn y) (t _ _ Ξ) (by rw [bL,zm];rfl) (by have:=zj (f:=LI) (β:=x2 x.ci) (c:= [J%IP μ,J%Id Jy,J%Id%Wa k,J%Iv%a! γ,J%Ia Kf,I]) Ii y t y;rw [ι] at this;show this)) _ ?_;show (_,y,_,y,_,y,zl.1,u,zW,_,_,y,t _ _ zY,Sc,Sd _ Ii,y,zo,z0,_,y,t _ _ z1,y,_,y,Kf,u,C,_,_,y,t _ _ ξ,Sc,Sd _ Ii,y,_,y,Nx,Wb ζ ψ);let a:Go F H F (ak H ζ%IC [Id%Wa x.d8, Iv%a! γ]) bO:= JI t ψ;show (F,zo,zk,ζ,x.d8,γ,y,Lr,zn,ar,ze,Wj β zU w ω,We o);{rw [yh,δ] at w;cases w;show (_,y,Kf,u,C,_,_,y,Lr _ _ ξ,Sc,Sd _ Ii,y,?_);rw [ι];show φ a ?_;unfold hJ;rw [η];show (ω,y)};{rw [yh,δ] at o;cases o}}}
end TW
namespace L2
open PySem PySem.Spec PyProof.Rows
theorem sd(Pv:Ng)(F:Pv 0 E g)(b:∀i E g,i<=I8->Pv i E g->aD r g f α) (P:∀i x u E g,PR=J x->Pv i E g->g u=I->zy (Ia u) E (ak g u%IC [Id K8,x]) (λa n=>zK (Xy (Pv (i+1))%Pv (i+1)) a n)) (hd:∀E g,Pv I8 E g->MM E g): ∃W:Iu->Ng,Y7 (∃m,W 0 m E g) (W i m E g->((om r f).f1 i g/\MM E g)∨((om r f).go i g/\YW (∀z d,N z d->∃Z,Z<m/\W (i+1) Z z d) ((om r f).iu i g x d->zy x E d (λa n=>zK (Xy N N) a n)))):=by show (λi m E g=>m=XM i/\i<=I8/\Pv i E g,(I8,Ii,cj _,F),?_);rintro i m E g ⟨rfl,l,p⟩;let q:=b i E g l p;by_cases t:i<I8;{show Iy ((α,α[i],q,Tb),Pv (i+1),WP z Q (XM (i+1),Ih,y,t,Q),P0);let (u,c,rfl,h,rfl,A):=A;lk};{(let e:i=I8:=Ih);subst e;show Ik ((α,q,bj _),hd E g p)}
end L2
namespace TW
open PySem PySem.Spec PyProof.Rows L2
structure gB(j:GC)(L:aa)(W:dD)(F H:Hp)(g:bT->Ib OK)(t:Ib Rm)(l:Ib bT):Ir where
 pr:cN (λ(ad:aa × aa) (i:bT)=>(∃X Z m,F PZ=J%Iq L X%fI i.1 i.2 Z m Lc/\hJ j F W i Z m)/\H Lc=J%I9%g i/\F Lc=I) t l
 nd:(t.o (·.2)).am
theorem gB.at_{l:Ib bT}{b:bT->Ib (Ib UG × NE)}(N:gB θ f zh g G b zM l){ad:Rm}(h:ad∈zM):(∃o,G Lc=J%I9 o)/\g Lc=I:=by let (a,X):=JM h;let (A,u):=dg X (b4 Nb).J;let (_,D,R):=dt Nb X u;cbv
def gB.go{l:Ib bT}{e:bT->Ib (Ib UG × NE)}(N:gB θ f zh G σ e zM l)(c:Wh (G b=J o) (g b=J o))(k:∀ad∈zM,∀o,σ Lc=J%I9 o->Γ Lc=J%I9 o/\g Lc=I):gB θ f zh g Γ e zM l:=(oD (b4 Nb) λa x A D R=>let ((X,Z,m,a1,a2),b,d):=dt Nb D R;let z:=k x (cm D) _ b;((X,Z,m,c _ _ a1,a2.u c),Mn,Rj),Q?)
theorem gB.step{l:Ib bT}{b:bT->Ib (Ib UG × NE)}(N:gB θ f zh g G b zM l)(a:Go g G σ Γ zT)(P:∀ad∈zM,¬ zT Lc):gB θ f zh σ Γ b zM l:=N.go Oy λad m o e=>(NO _ _ e%P ad m,Qq (N.at_ m).2 e (NO _ _ e%P ad m) Io)
theorem gB.snoc{l:Ib bT}{b:bT->Ib (Ib UG × NE)}(N:gB θ f zh g G b zM l){i:bT}(D:g W=J%Iq f ο%fI i.1 i.2 ζ z5 u)(R:hJ θ g zh i ζ z5)(e:G u=J%I9%b i)(T:g u=I)(a:∀ad∈zM,Lc≠u):gB θ f zh g G b (zM++ [(W,u,)]) (l++ [i]):=_b3 (ji Nb ((ο,ζ,z5,D,R),e,T)) (Q?,Ii,?_)
theorem ad8(G:NB zh){r:Ib eo}(k:mb zh r)(h:q<zh.ai.a):_Cp zh q<=4:=by obtain ⟨i,D⟩:∃i,Wf r=J i:=(r[q]'(by rw [k.len];show h),Ii);let ((p,_,P),_,_):=k.at_ q i D;have:=(G.snd.1.2.2.2 i (iR P).1).1;rw [k.cnt D];rw [←n3,aQ] at this;show this
theorem EV{W:dD}(G:NB W){r:Ib eo}(k:mb W r):∀n,n<=P_->Jp W n<=4*n|0,_=>bj _|n+1,h=>by have:=EV G k n Ih;have:=ad8 G k (q:=n) Ih;change Jp W n+_Cp W n<=_;lia
def ad9(v L:aa)(j:GC)(q:aa):Sp:=λC H Q _=>∃F R o O W r e,C= [Ia R]/\IQ F H/\F R=I/\oK v j q F H R o O W r e/\P_<=60/\∀c d G t,Go F H c d bO->H G=I->d G=J%Ig%t.o (λad=>IP PZ)->c G=I->gB j L W c d (λ_=> []) t%bB W->(∀ad∈t,H Lc=I)->Q (Ia G) d
theorem sf:a0 [Jn,Lu,IL,T6,K6,I2] [Jn]%aR EO:=(y,y,y,Ie,y,Ie,Ie)
theorem apt(zz:aW r VH VH EO ο Q)(w:TG r θ)(TT:TN r f [JD,J?,NU,Lu])(B:D KW=I)(zA:ID l p r D A aB 3 VG [Jn,IL,K6,I2]%ad7 f u θ W): aJ l p r D A aB 4 ο Q [Jn] (ad9 f u θ W):=by show zz.ok sf (Wr zB (F,R,zd,j,a,ze,φ,rfl,_)) λzW zX S s H C zB Z zC h=>?_;let (F,R,zd,j,a,ze,φ,rfl,zf,zY,e,zZ,zD):=h;let (zg,χ):=e.obj;let (zE,zh,zi):=e.syms;show (_,ao (WJ _AS (aH y)%bZ aj)%ao (eB e0 y (oo y B%ae (aC (pv 0) y) aj) (m3 y%gO (Wu 2 _AS%aH y)%gO (Wu 3 _AS%aH y) l2)%ax%eB e0 y (oo y B%ae (aC (pv 3) y) aj) (m3 y%gO (Wu 4 _AS%aH y)%gO (Wu 5 _AS%aH y) l2)%ax%bI%ea d9 fw fX fg (pv 1)%ae (aM zA zC y aK%ae (pv 0)%ae (pv 2)%ae (pv 4)%ae (pv 5) aj) aj)%ax%aI%pv 1,?_);dsimp only [bz,b?,bU,bX];show (cj _,Wb G ε);let q:Go F H F (ak H G%Ig []) (·=G):= JI zf ε;let zF:R≠G:=aU χ ε;let zj:∀{α d},Go F H α d (·=G)->d R=J%Iq f zg φ:=λzG=>zG.ad _ _ χ zF;let zk:=b4 zi;show (_,y,R,f,zg,_,_,y,zj q,Rc,Re _ Ii,e.yf,j,_,y,Iw%q.y _ _ zh,sd (r:=r) (f:=j) (α:=zE) (λi c d=>∃α t o x ζ η,c= [J%Ia R,J%Ia G,o,x,ζ,η]/\Go F H α d (·=G)/\α G=I/\d G=J%Ig%t.o (λad=>IP PZ)/\gB θ u a α d (λ_=> []) t%kM a i/\∀ad∈t,H Lc=I) (F, [],I,I,I,I,y,q,b1 zf ε,ar,(IR, IR),OF) (λi c d _ (_,_,_,_,_,_,_,b,_)=>Iw%b.y _ _%b.ext _ _ zh) ?_ ?_);{rintro i zH zl c n P ⟨X,t,o,x,ζ,η,rfl,k,ψ,N,π,ω⟩ E;let (β,zm,(Γ,zI,ld,z0,zn,rfl,zJ,_,_,zo),_):=i0 zi P;(let zp:i<a.ai.a:=by rw [←_AR,←zk];lk);let zK:=(_Cq i β zm).2.1;show (zl,_,y,Ju ar,y,_,_,y,_,_,y,y,?_);let Δ:Go X n X (ak n zl%IC [Id K8, Ia Γ]) (·=G):= JI JN E;let O:=Ma Δ;let z1:=Δ.ad _ _ N;show (_,y,Γ,R_,zI,_,_,y,J2 _ _%O.ext _ _ zJ,w.s.cl,w.s.no _ Ii,y,zn,_,y,Iw%J2 _ _%O.ext _ _ zo,sd (r:=r) (f:=zn) (α:=cb (β.db++_Cj)) (λM c d=>∃α t ζ η,c= [J%Ia R,J%Ia G,J%Id K8,J%Ia Γ,ζ,η]/\Go F H α d (·=G)/\α G=I/\d G=J%Ig%t.o (λad=>IP PZ)/\gB θ u a α d (λ_=> []) t (kM a i++(ey M).o%Xa zL i zL)/\∀ad∈t,H Lc=I) (X,t,_,_,y,O,ψ,X1%aU N E,by rw [List.range_zero,Aw,fo];show π.hz Δ λad m z=>Zy ((Θ,h),_) π.at_ m,ω) (λM c d _ (_,_,_,_,_,b,_)=>Iw%b.y _ _%b.ext _ _ zo) ?_ ?_);{rintro M zH Ξ c ρ Φ ⟨ι,γ,zM,zN,rfl,σ,Ψ,κ,δ,Ω⟩ zq;unfold cb at Φ;rw [bL] at Φ;let (g,zr,rfl):=LS Φ;(let zO:∃v,Wm%gh a i=J%W2 g.Z:=by (let zs:M<(Mr β).a:=by have:=dR j6%i? β;rw [aQ,←n3,aQ] at this;lk);(let μ:Wm%(Mr β).o sS=J g.Z:=by rw [i?,←n3,bL,zr];rfl);lk);let (v,hd):=zO;show (Ξ,_,y,Ju ar,y,_,_,y,_,_,y,y,?_);let zt:Go ι ρ ι (ak ρ Ξ%IC [Id%Wa M, Iv%a! g.Z]) (·=G):= JI σ.y zq;let ν:=σ.q zt;(let τ:ak ρ Ξ (IC [Id%Wa M, Iv%a! g.Z]) G=J%Ig%QY (λad=>IP PZ):=by rw [aq%aU κ zq];show κ);(let zu:∀ad∈γ,¬ Lc=G:=λad m z=>Zy ((Θ,h),_) δ.at_ m);let zv:=δ.hz zt zu;show h_ (f:=G) (gv y) τ (_,y,_,y,_,y,_,y,ι,R,zd,j,a,ze,φ,i,M,g.Z,v,y,ν.y,e.go ν.ext%XR Θ μ,zp,hd,λza L zb zc z2 z3 z4 ξ z5 υ zP zQ zR T=>?_);let zw:=ξ.ad _ _ τ id;let zx:=ξ.off Ψ τ zw Io;let zS:=zv.hz ξ%Zh id;(let zT:∀ad∈γ,Lc≠zc:=λad m z=>Zy ((Θ,h),_) zv.at_ m);let zU:=zS.snoc (i:=(i,M,)) zP zQ zR T zT;(let zV:zc≠G:=JO);let zy:Go za L za (ak L G%Ig ((QY λad=>IP PZ)++ [IP zb])) (·=G):= Kb ξ.y y zx;show (_,zw,?_,za,γ++ [(zb,zc,)],_,_,y,(ν.q%ξ.bv Ku).q zy,zx,_Cn,?_,Wb ad m);{rw [aQ,b4 δ.pr,cG,aQ,o7,rE];have:=EV e.gd e.so i Ih;have:=(I! hd).1;have:=ad8 e.gd e.so zp;unfold TW.cnt at this;show ec Ih};{rw [qR,dW,←iH];show zU.hz zy (λad m z=>IZ)};{rcases d7.R m with h|h;{show Ω ad h};{simp at h;subst h;show ν.bg _ υ}}};{rintro c ρ ⟨ι,γ,zM,zN,rfl,σ,Ψ,κ,δ,Ω⟩;show (ι,γ,_,_,_,_,y,σ,Ψ,κ,?_,Ω);rw [we,e.so.cnt zm];unfold cb at δ;cbv}};{rintro c n ⟨X,t,o,x,ζ,η,rfl,k,ψ,N,π,ω⟩;show (_,y,zD X n G t (Sg%Xx zb h (by rw [h];show ε)) ε N ψ ?_ ω);rw [aiG,←_AR,←zk];show π}
def jm(o:Jo):Ib be:= [nF%Wc JW,fQ%a! JX]
theorem EW{O:Jo}(h:jm zP=jm O):zP=O:=by unfold jm at h;let (D,R):=lS h;let D:=vo D;let R:=h9%s8 (lS R).1;lk
theorem uQ:∀(l os:Ib Jo),os.am->(dU os l).am| [],os,h=>h|o::l,os,h=>by change (dU (kh os o) l).am;show uQ l _ ?_;unfold kh;lk
theorem EX[_Ai zg]{j:Ib%Z' zg}{k:zg}(h:∀g∈j,Lx≠k):f5 j k ζ=j++ [X3 ζ]:=_E_
theorem GoodW.e?(G:NB zh)(e:Wf zh.ai=J zJ)(d:eE zh q=J Δ){r:i6}(L:r∈Δ.b3):(dU [] S2).a<=16:=by let (Q,_,g,b):=G.node e;obtain rfl:Q=Δ:=eD%g.J.q d;(let h:=oG (l:=dU [] S2) (m:=(ey (Q.aa.a+1)).en λk=>(gM zh.cr%L5 Q k).o%X4 k) (uQ _ _ IR) (λo S=>by rcases (k! r.dk.ce [] o).R S with z|z;{cases z};{let (D,R):=(b.2.2.2.2 r L).2 o z;lk}));(let len:∀k,(gM zh.cr%L5 Q k).a<=4:=λk=>by unfold gM;cases P:eZ zh.cr (nameAt Q k) with|none=>show cj _|some s=>show (G.snd.1.2.2.2 s (iR P).1).1);(let f:∀N,((ey N).en λk=>(gM zh.cr%L5 Q k).o%X4 k).a<=4*N:=λN=>by induction N with|zero=>show bj _|succ N c=>rw [qR,Ag,cG];lk);have:=f (Q.aa.a+1);have:Q.aa.a<=3:=b.1;lia
def d6(W:dD)(i:bT):Ib OK:=match ig W i with|I=> []|J (n,e)=>(dU [] Oo).o (Xa o (jm o)%Iz%Yl W%gi W n o)
theorem GoodW.rule(G:NB zh)(l:Θ∈bB zh){e:dB}(h:ig zh Θ=J (q,e,)):∃x p r,Wf zh.ai=J x/\eE zh q=J p/\Z4 r/\e=P9:=by let (x,p,a,f,N,d,b,c):=G.U l;rcases G.hk l N c with ⟨D,_⟩|⟨Q,r,_,R,V,_,T⟩|⟨m,A,i,r,_,_,R,V,T,_,g,_⟩;{cbv};{lk};{lk}
def ad_(v L:aa)(j:GC)(q:aa):Sp:=λC H Q _=>∃F R o O k W r V i c X Z m f,C= [Ia R, Ia c]/\IQ F H/\oK v j q F H R o O W r V/\V.B%eG NU=J%Ia k/\F k=J%Ig%la W/\i∈bB W/\F c=J%Iq L X%fI i.1 i.2 Z m f/\hJ j F W i Z m/\H f=J%I9 []/\F f=I/\∀d,Go F H F d (·=f)->d f=J%I9%d6 W i->Q IK d
theorem ad':a0 [Jn,JJ,N?] [Jn,JJ]%aR ES:=(y,y,y,Ie,y,Ie,Ie)
theorem apu(υ:aW r VI VI ES ο Q)(v:TG r θ)(T:TN r f [Ka,K6,Nv,LJ,PB])(φ:ID l p r D A aB 1 VF [Jn,LJ,N?]%ad6 u θ W): aJ l p r D A aB 2 ο Q [Jn,JJ] (ad_ u f θ W):=by show υ.ok ad' (Wr E (F,R,ε,O,k,b,ζ,η,w,α,X,χ,m,j,rfl,_)) λzn zo zp s H C E Z ι h=>?_;let (F,R,ε,O,k,b,ζ,η,w,α,X,χ,m,j,rfl,t,β,ψ,ω,L,N,i,hd,Γ,κ):=h;show (_,ao (bA (eh%lZ%aC (pv 1) y) (ax ajs) bM)%ax%eB e0 y (et%aC (aC (pv 1) y) y) (Wu 2 ad'.nd%aH y)%ax%rY (u1 ι) (aC (pv 1) y) (pv 2) (aM φ ι y aK%ae (pv 0)%ae (aC (pv 1) y)%ae (pv 2) aj) y,?_);dsimp only [bz,cc,tB,cx];show (_,y,α,f,X,_,_,y,t _ _ N,Si,Sj _ Ii,y,_,y,?_);cases q:ig b w with|none=>unfold hJ at i;rw [q] at i;let (rfl,rfl):=i;show bu ?_;show κ H (Ls t) ?_;unfold d6;rw [q];show hd|some Δ=>let (n,e):=Δ;unfold hJ at i;rw [q] at i;let ((Θ,Ξ,zq,lo,rfl,Φ,_,Ψ,μ,ν),rfl):=i;show bt ?_;let (Ω,P,za,ξ,B,G,π):=β.gd.rule L q;let zb:=β.gd.e? ξ B G;rw [←π] at zb;let (zr,zc):=β.obj;let zd:R≠j:=dh zc hd KY;let ze:=uQ Oo [] IR;show (_,y,α,f,X,_,_,y,t _ _ N,Si,Sj _ Ii,y,Θ,θ.e,Ξ,_,_,y,t _ _ Φ,v.e.cl,v.e.no _ Ii,y,lo,y,(_,Iw%t _ _ μ),hx (r:=r) (f:=lo) (α:=Ψ.o IP) (λM c d=>∃γ,c= [J%Ia R,J%Ia α,γ]/\Go F H F d (·=j)/\d j=J%I9%((dU [] Oo).Y M).o%Xa o (jm o)%Iz%Yl b%gi b n o) (I,y, Ls t,hd) (λM c d _ (_,_,zf,_)=>Iw%zf.y _ _ μ) ?_ ?_);{rintro M S c ρ σ ⟨γ,rfl,a,x⟩;rw [bL] at σ;let (zg,zh,rfl):=LS σ;let (o,δ,zi,_):=i0 ν zh;(let zj:o∈Oo:=by rcases (k! e.ce [] o).R (cm δ) with z|z;{cases z};{show z});let τ:=Lr _ _ zi;dsimp only [bU];show (_,y,_,y,α,f,X,_,_,y,Lr _ _ N,Si,Sj _ Ii,y,_,y,F,R,ε,O,k,b,ζ,η,n,Ω,P,za,o,zg,y,Lr,β.go Mj λo e=>NO _ _ e zd,ψ,ω,ξ,B,G,Io,τ,?_);show (_,y,α,f,X,_,_,y,Lr _ _ N,Si,Sj _ Ii,y,_,y,j,_,y,kc.t (k:=jm o) x τ ?_,_,y,?_,?_);{rw [aQ,ho];show ec Ih};{show a.q%Kb Lr y Γ};{rw [ar,EX,←LW δ,dW];rfl;intro zs zk zl;let (zt,zm,rfl):=Kl zk;have:=EW zl;subst this;let (zu,g):=JM zm;rw [Ad] at g;split at g;{have:=(mI (I! g).1 ze).R%g.q δ.J;lia};{cases g}}};{rintro c ρ ⟨γ,rfl,a,x⟩;show κ ρ a ?_;unfold d6;rw [q,x,aQ,b4 ν,fz]}
end TW
namespace L2
open PySem PySem.Spec PyProof.Rows
def qo{w:TI}(h:w E g λt M=>∀G,M G=I->∃W:Iu->O7,(∃m,W 0 m%ak M G%Ig [])/\∀i m g,W i m g->(t.f1 i g/\ε (Ia G) g)∨(t.go i g/\Zs NV (∀d,N d->∃Z,Z<m/\W (i+1) Z d) (t.iu i g x d->zy x (di E ω) d (λr n=>di r ω=di E ω/\zI r n%W7 b f b (R r f%YA A a (a G=J%Ig v/\Nm<bJ/\N%ak a G%Ig QH))%N f)))):l5 w zy zI R ω E g ε:=h
end L2
namespace TW
open PySem PySem.Spec PyProof.Rows L2
def InstAt(j:GC)(L:aa)(W:dD)(F:Hp)(v:V)(i:bT):Ir:=∃a X Z m f,v= Ia a/\F a=J%Iq L X%fI i.1 i.2 Z m f/\hJ j F W i Z m/\F f=J%I9%d6 W i
def InstAt.mono{j:GC}{L:aa}{W:dD}{F c:Hp}{v:V}{i:bT}(h:Wh (F b=J o) (c b=J o))(p:T9 j L W F v i):T9 j L W c v i:=let (a,X,Z,m,f,D,R,d,T):=p;(a,X,Z,m,f,D,h _ _ R,d.u h,h _ _ T)
def fT(o O k g:aa):Ib K1:= [(JD, Ia o,),(J?, Ia O,),(NU, Ia k,),(Lu, Ia g,)]
def lb(W:dD)(M:Nat)(i:bT):Ib OK:=YK (ix W i) M (d6 W i) []
theorem gB.apv(N:gB θ f zh g σ (lb zh q) zM%bB zh){ad:Rm}(D:Wf zM=J ad)(R:Wf%bB zh=J Θ)(c:Go g σ g G (·=Lc))(hd:G Lc=J%I9%d6 zh Θ):gB θ f zh g G (lb zh (q+1)) zM%bB zh:=by show (oD (b4 Nb)%Wn k x A Q v,Q?);let (a,b,d):=dt Nb Q v;show (a,?_,d);let m:=(jb v).1;unfold lb;by_cases e:k=q;{cbv};{(have:(Wp (ix zh A<q+1) (d6 zh A) [])=lb zh q A:=by unfold lb;lk);rw [this];show T_ _ _ b λz=>e ?_;(let l:(zM.o (·.2))[k]?=J IY:=_FX);(let O:Wf%zM.o (·.2)=J Lc:=_FY);rw [z] at l;show (mI (I! l).1 Q?).R%l.q O.J}
theorem gB.kvs{c e:bT->Ib OK}{l:Ib bT}(N:gB θ f zh g G c zM l)(h:∀i∈l,c i=e i):gB θ f zh g G e zM l:=(oD (b4 Nb) λk x A Q v=>let (a,b,d):=dt Nb Q v;(a,IZ,d),Q?)
def EY(v L:aa)(j:GC)(q:aa):Sp:=λC H Q _=>∃F x X n o W,C= [Ia x, Ia n, Ia o]/\H x=J%Iq v X []/\IQ F H/\F x=I/\gy j F (Ia n) QO/\oE j q QO F o W.ai/\NB W/\iZ QO/\P_<=60/\∀c d O k g r,Go F H c d (·=x)->c x=I->d x=J%Iq v X%fT o O k g->hG (f7 j) c O r->mb W r->c k=J%Ig%la W->hG (T9 j L W) c g%bB W->Q IK d
theorem yi:a0 [IG,Jq,JD,JJ,Ka] [IG,Jq,JD]%aR ye:=(y,y,y,Ie,y,Ie,Ie)
theorem apw(z2:aW r J_ _F_ ye ο Q)(B:TG r θ)(TT:TN r f [JD,J?,NU,Lu])(zu:TN r u [Jv,IL,LI,JC,KQ])(z3:eu l p r D A aB 2 NS R' [IG,I2]%qi θ) (z4:ID l p r D A aB 1 VE SV%ad5 θ) (z5:ID l p r D A aB 4 VH [Jn]%ad9 f W θ u) (z6:ID l p r D A aB 2 VI [Jn,JJ]%ad_ f W θ u): aJ l p r D A aB 5 ο Q [IG,Jq,JD] (EY f W θ u):=by show z2.ok yi (Xh P z7 (F,x,X,zv,γ,a,rfl,_)) λzaG zaH zaI s H C P z7 z8 h=>?_;let (F,x,X,zv,γ,a,rfl,N,zw,π,z9,zx,G,z_,zy,z'):=h;let (zaa,Ξ,Φ):=id zx;let v:∀{M},M<=4->dy M _:=λh=>z8.u h;show (_,ao (cf (pv 0) (pv 2) y)%ao (cf (pv 0) (jJ (e:= [(Ka,4,)]) y yi.nd (et%pv 2) (Xf [IG,Jq,JD,JJ,Ka] (aR ye) Ka 4 (y,Ie,Ie,Ie,Ie)) (Xc 4 yi.nd%aH y) NX%Xk%b5 (pv 1) B.g.cl z3 (v Il) aK%ae (l? (l? (pv 4) y) y) aj) y)%ao (cf (pv 0) (aM z4 (v Il) y aK%ae (aC (pv 0) y) aj) y)%ao (cf (pv 0) (aM z5 (v Il) y aK%ae (pv 0) aj) y)%ax%eB e0 y (et%aC (pv 0) y) (Wu 3 yi.nd%aH y)%ax%bI%aM z6 (v Il) y aK%ae (pv 0)%ae (pv 3) aj,?_);dsimp only [bz,rN];show (_,y,_,y,x,f,X,_,y,N,Rc,Re _ Ii,Io,?_);let δ:Go F H F (ak H x%Iq f X [(JD, Ia γ,)]) (·=x):= Kb zw y π;show qo%oI (_,y,γ,y,(_,Iw%NP _ _ Ξ),λβ ρ=>oj (r:=r) (u:=γ) (α:=zaa.o λzz=>IP zz.1) (λi d=>∃C b,d=ak (ak H x%Iq f X [(JD, Ia γ,)]) β%Ig C/\cN (f7 θ F) C b/\M0=i/\∀(n:Nat) s,Xm b=J s->(∃zA,eE a n=J zA/\eZ a.cr zA.bo.Z=J s)/\gh a n=Mr s/\(KS s).am) ([], [],y, IR,y,λn s h=>Mt) (λi d _ (C,b,e,_)=>_ah Iw%XN (aU (NP _ _ Ξ) ρ) NP Ξ) ?_ ?_);{rintro i L ι j ⟨C,b,rfl,σ,E,Ψ⟩;rw [bL] at j;let (zz,zB,rfl):=LS j;let (zaJ,τ):=dg zB (b4 Φ).J;let ((zaK,zaL,zC,zaM,zab,(zaN,zaO,zaP,zaQ,rfl,zac,_),zad,_),_):=dt Φ zB τ;(let Ω:∀{α o},F α=J o->ak (ak H x%Iq f X [(JD, Ia γ,)]) β (Ig C) α=J o:=λe=>XN (aU (NP _ _ e) ρ) NP e);(let za:eE a i=J zC:=by unfold eE;cbv);let (zae,_,zaf,zag):=G.node τ;obtain rfl:zae=zC:=eD%zaf.J.q za;let (zah,zb,zai,zaj):=G.hr za zag;let zaR:=(I! τ).1;show (y,kg%x? (G:=F) (gv y) (gf (gf (gv y) (Ω zab) zu.cl (zu.no _ Ii) y) (Ω zac) B.d.cl (B.d.no _ Ii) y) (Xl%Ω e) z9 (Wj zak zD zc zal) λzc=>a' (zc.J.q zb) Ii);obtain rfl:zD=zah:=eD%zc.J.q zb;show (C,ar,?_,C++ [zak],b++ [zD],by rw [dE],ji σ zal,by simp [E],Wd n s S);{rw [b4 σ];show ec Ih};{by_cases e:n=i;{cbv};{lk}}};rintro ι ⟨C,b,rfl,σ,E,Ψ⟩;let υ:mb a b:=(by rw [E,aQ];show b4 Φ,Ψ);let zd:H β=I:=δ.bg _ ρ;(let ze:x≠β:=JO);generalize zf:ak (ak H x%Iq f X [(JD, Ia γ,)]) β (Ig C)=ι;(let zE:Go F H F ι (·=x):=by rw [←zf];show δ.q%JI NP ρ);(let zam:ι x=J%Iq f X [(JD, Ia γ,)]:=by rw [←zf,aq ze];show ar);(let zan:ι β=J%Ig C:=by rw [←zf];show ar);show (_,y,x,f,X,_,y,zam,Rc,Re _ Ii,Io,?_);let zF:=b1 zw zd;let zao:=zE.q%Yk (Iq f X [(JD, Ia γ,),(J?, Ia β,)]) zE.y y π;let κ:=zao.cm zd (by rw [aq ze.J];show zan) zF;(let zg:Xe (F α=J o) (ak F β (Ig C) α=J o):=Zg o%aq JO);generalize zG:ak F β (Ig C)=ε at κ zg;(let zap:ε β=J%Ig C:=by rw [←zG];show ar);(let zH:ε x=I:=by rw [←zG,aq ze];show π);let zI:hG (f7 θ) ε β b:=(C,zap,J8 σ%Xb zg);show (_,y,x,f,X,_,_,y,ar,Rc,Re _ Ii,y,ε,β,b,a,y,κ.y,zI,υ,by rw [υ.len];show zy,Wn zaS k zJ φ zaq);(let zK:x≠k:=λz=>by rw [←z,ar] at φ;cases φ);let zL:=κ.q%zJ.bv Ku;let zar:=zJ.ad _ _ _C_ id;show (_,y,x,f,X,_,y,zar,Rc,Re _ Ii,Pb,?_);let zas:=κ.bg _ φ;let zM:ε k=I:=b1 κ.y φ;let zat:=zL.q%Yk (Iq f X [(JD, Ia γ,),(J?, Ia β,),(NU, Ia k,)]) zL.y y zH;let μ:=zat.cm zas (by rw [aq zK.J];show zaq) zM;(let χ:Xe (ε α=J o) (ak ε k (Ig%la a) α=J o):=Zg o%aq JO);generalize zN:ak ε k (Ig%la a)=ζ at μ χ;(let zO:ζ k=J%Ig%la a:=by rw [←zN];show ar);(let zP:ζ x=I:=by rw [←zN,aq zK];show zH);let zau:Xe (F α=J o) (ζ α=J o):=Xl%χ α o%zg α o e;let zQ:hG (f7 θ) ζ β b:=zI.u (Xb χ) χ;let zR:∀{ν d} {ψ:Ib K1},(Xe (ζ α=J o) (ν α=J o))->d x=J%Iq f X ψ->ψ.B%eG JD=J%Ia γ->ψ.B%eG J?=J%Ia β->oK f θ u ν d x γ β a b ψ:=λzh q R ω=>((X,q),R,ω,(zx.u zau).u zh,zQ.u (Xb zh) zh,υ,G,z_);show (_,y,ζ,x,γ,β,a,b,_,y,Rb,zP,zR Mj ar y y,zy,λO zi g t ξ zj zS zaT zk zav=>?_);(let zaw:x≠g:=λz=>by rw [←z,ar] at zj;cases zj);let zT:=Se%ξ.bv Ku;let zl:=ξ.ad _ _ _C_ id;let zax:=ξ.off zP _C_ zl Io;show (_,y,x,f,X,_,y,zl,Rc,Re _ Ii,SK,?_);let zU:Go O zi O (ak zi x%Iq f X%fT γ β k g) (·=x):= Kb zT.y y zax;let zay:=zT.q zU;(let zV:∀ad∈t,W_ Lc:=λad m z=>Zy ((o,h),_) zk.at_ m);(let zaz:∀ad∈t,Lc≠g:=λad m z=>Zy ((o,h),_) zk.at_ m);(let zaA:=(zk.hz zU zV).kvs (e:=lb a 0) (λi _=>by unfold lb;cbv));(let zW:ak zi x (Iq f X%fT γ β k g) g=J%Ig%t.o (λad=>IP PZ):=by rw [aq zaw.J];show zS);let zaB:=μ.bg _ zj;let zX:∀ad∈t,H Lc=I:=λad m=>μ.bg _%zav ad m;let zaC:∀{ν d},Go F H ν d%WE (α=x∨H α=I)->Go F H ν d (·=x):=λzaD=>zaD.an%WO h h;show (_,y,x,f,X,_,_,y,ar,Rc,Re _ Ii,y,g,y,(_,Iw zW),hx (r:=r) (f:=g) (α:=t.o λad=>IP PZ) (λM c d=>∃zm,c= [J%Ia x,J%Ia zv,J%Ia γ,zm,I]/\Go F H O d%WE (α=x∨H α=I)/\d x=J%Iq f X%fT γ β k g/\d g=J%Ig%t.o (λad=>IP PZ)/\gB θ W a O d (lb a M) t%bB a) (I,y,zay.bv%YN h%Ik h,ar,zW,zaA) (λM c d _ (_,_,_,_,h,_)=>Iw h) ?_ ?_);{rintro M L c Γ zY ⟨zm,rfl,Δ,w,zn,η⟩;rw [bL] at zY;let (ad,m,rfl):=LS zY;let (i,j):=dg m (b4 η.pr).J;let ((zo,Z,zp,q,R),ω,T):=dt η.pr m j;let zq:=cm m;(let zaE:Wl (lb a M i):=by unfold lb;rw [au];have:=(jb j).1;lia);rw [zaE] at ω;let zZ:Xe (ζ α=J o) (O α=J o):=_BX;show (_,y,_,y,O,x,γ,β,k,a,b,_,i,PZ,zo,Z,zp,Lc,y,Δ.y,zR zZ w y y,y,zZ _ _ zO,cm j,q,R,ω,T,Wd zaU Θ zaF);show (_,y,Δ.q%Θ.bv%YN h%Iy IZ,Θ.ad _ _ w λz=>zV ad zq z.J,Θ.ad _ _ zn λz=>zaz ad zq z.J,η.apv m j Θ zaF)};{rintro c Γ ⟨zm,rfl,Δ,w,zn,η⟩;rw [aQ,b4 η.pr] at η;(let z0:=η.kvs (e:=d6 a) (λi j=>by unfold lb;rw [aA%Bp j]));(let (zr,zs,z1):=(zaC Δ).jk (WE (α=g∨∃ad∈t,α=Lc))%XR α h);let zt:Xe (ζ α=J o) (jk O Γ (WE (α=g∨∃ad∈t,α=Lc)) α=J o):=Xl%zs α o%_BX α o e;show z' _ Γ β k g b zr ?_ w (zQ.u (Xb zt) zt) υ (zt _ _ zO) (_,z1 _ _ (Ik y) zn,?_);{cases e:jk O Γ (λα=>α=g∨∃ad∈t,α=ad.2) x with|none=>rfl|some o=>exfalso;rcases zr.new x o e with z|z|⟨zaV,z⟩;{cbv};{cbv};{have:=zr.y x o e;cbv}};{show oD (ZY b4 z0.pr)%Wn zaW L i q R;rw [bL] at q;let (ad,m,rfl):=LS q;let ((zo,Z,zp,a1,a2),a3,a4):=dt z0.pr m R;show (PZ,zo,Z,zp,Lc,y,zs _ _ a1,a2.u zs,z1 _ _ (Iy (ad,cm m,y)) a3)}}
end TW
namespace L2
open PySem PySem.Spec PyProof.Rows
def hK(O:Ib Iu):Nat:=O.fp j9 0
abbrev qp(f:ah):Ib Rn:= [(eG _Cr,f,)]
def apx(a f:ah):mJ LR ([a],qp f):=_F7
def aea(h:Wf ω=J Z):hK%OT (q+1)=j9 (hK%OT q) Z:=by rw [←_D7 h];unfold hK;rw [AF];rfl
def apy{f:Tok}(h:zC (MK%aT (γ>zu)) v):aG (a7 l p) μ (richCompare .Gt (Id γ zV)%Id zu f) zC υ v:=CmpOf.ints_gt (P:=λk a=>a= Id (Wz k 0 γ zu)%Wz k 0 zV f) (Yp k k 0 γ zu) (λk a e=>(_,e)) 0 1 _ _ v zC υ y y h
theorem apz{d:Ib aa}{q:Y' Iu}{s:WF Iu ah}{w:WL o!}(W:Walks l p MS f d zl Qm s q)(A:∀i c,s i c->∃(n:Nat) (t:Tok),Wg ω=J n/\c= Id Jy t)(S:aa)(m:S∉d): ∀(k M:Nat) (v:az) (t:Tok) (D:Nat),Qm - (M+1)=k->M+1<=Qm->q (M+1) I7->Ji S=J%Z! (IU JT) I%NF #[Id (Y!%OT (M+1)) t, Id (Y!%OT (M+1)) t] D->(∀R tk j,(∀a o,a∉zl->WZ S->Ji a=J o->R.E a=J o)->w (JF%QZ%Id (Y! ω) j)%Yc R)->lL (a7 l p) μ (Jf _D_ ([Ia f, Ja, Ia S],qp η)) w v:=by let C:S∉zl:=λh=>m%W.y _ h;(let g:(_Cs LR++_Cs ".loop":String)=_D_:=Il);intro k;induction k with|zero=>intro M v t D β X st N F;(obtain e:M+1=Qm:=Ih);show tp agY ?_;rw [AJ tu _];change aG _ MS (_D' (Ia S)>>=_) _ _ v;show aw%Hx N y ?_;change aG _ MS (_Ct (fS%Ia f) _>>=_) _ _ v;show aw%AK%W.done v _ _ (e▸st)%Wd R tk x;let u:=x S _ C N;change aG _ MS (AL S (Wx Ks)>>=_) _ _ _;show aw%vN u y%aw%vO%aZ ?_;have:=F (R.e7 S%lO%Wx Ks) tk t λa o b P z=>(nN _ _%i7 P).q%x a o b z;cbv|succ k α=>intro M v t D β X st N F;(let L:M+1<Qm:=Ih);show tp agY ?_;rw [AJ tu _];change aG _ MS (_D' (Ia S)>>=_) _ _ v;show aw%Hx N y ?_;change aG _ MS (_Ct (fS%Ia f) _>>=_) _ _ v;show aw%AK%W.item (M+1) v _ _ L st%WM c R tk pv gP x;let (n,j,G,rfl):=A _ _ pv;let u:=x S _ C N;change aG _ MS (_Ct (lK [j_ Jy j,j_ Jy j] (richCompare .Gt (j_ Jy j) (Id (Y!%OT (M+1)) t)>>=_)) _>>=_) _ _ _;show aw%AK%js%aw%apy ?_;show aw%js%lJ%aw%vO%aZ ?_;let mt:=aea G;by_cases h:hK%OT (M+1)<n;{rw [b8 Ih];simp only [kA];show aw%vN u y%aw%vO ?_;(let e:hK%OT (M+1+1)=n:=IZ);rw [g];show aZ (tq tu _,α (M+1) _ j _ Ih L (W.g5 _ _ _ gP λa b o z=>(nN _ _ λh:S=a=>m (h▸b)).q z) (by rw [e];show nM _ u y)%Wj V H r Q);show F V H r (λa o b P z=>Q a o b P%(nN _ _%i7 P).q%x a o b z)};{rw [bD Ih];simp only [q_,iL];show aw%vO ?_;(let e:hK%OT (M+1+1)=hK%OT (M+1):=IZ);rw [g];show aZ (tq tu _,α (M+1) _ t D Ih L gP (by rw [e];show u)%Wj V H r Q);lk}
theorem apA(H:M_=I)(V:Tg u zb)(G:Jk=Qm)(δ:∀(i:Nat) b,Wg zb=J b->∃(n:Nat) (ξ:Tok),Wg ω=J n/\b= Id Jy ξ) (S:∀R tk j,(∀a o,Ji a=J o->R.E a=J o)->zC (Id (Y! ω) j)%Yc R):aG (a7 l p) μ (fU (Jf LR) [Ia u]%qp%Id 0 zV) zC υ v:=by (let g:(_Cs LR++_Cs ".loop":String)=_D_:=Il);show Au%Hu PySem.F.plain_max PySem.F.entry_max ?_;(let D:aG (a7 l p) MS (Builtin.«max» ([Ia u],qp%Id 0 zV)) (λS M=>match S with| .done ο=>(match (Except.ok ο:o!) with| .ok (.ret b)=>zC b M| .ok _=>False| .error e=>υ e M)| .again t=>t.quiet=ag/\lL (a7 l p) μ t (λr M=>match r with| .ok (.ret b)=>zC b M| .ok _=>False| .error e=>υ e M) M) υ v:=by change aG _ MS (axS LR ["key",_Cr] 0 ([],qp%Id 0 zV)>>=_) _ _ v;show aw%kD (XA (axS LR ["key",_Cr] 0 ([],qp%Id 0 zV))%JH [I,J%Id 0 zV])%aw%aZ ?_;show aw%vu V%aw%hq ?_;(let L:u<II:=by let (o,π,_):=V;show cZ π);let ε:(Jw%Yi #[Ia u, Id 0 0]).cw=II+1:=i8 ..;let X:=agE (prog:=l) (w:=p) (A:=μ.in1) (by simp [H]) II u (eF L) zb;rw [G] at X;rw [g];show aZ%Wt%tq tu _;(let m:(Jw%Yi #[Ia u, Id 0 0]).cw∉ [II,u]:=IZ);generalize ζ:v.heap.objs.size=f at X m;generalize η:(Jw%Yi #[Ia u, Id 0 0]).cw=c at m;generalize β:(Jw%Yi #[Ia u, Id 0 0]).av (Z! (IU JT) I%NF ([]:Ib ah).C)=F;(let kn:F.d9 f u 0/\F.ev u zb:=by rw [←β,←ζ];show ((_,dz _%ep _ y,y,y),(V.av _).av _));(let N:F.E c=J%Z! (IU JT) I%NF Ks 0:=by rw [←β,←η];show ep _ y);(let γ:∀a o,Ji a=J o->F.E a=J o/\WZ f/\WZ c:=λa o e=>by let θ:=cZ e;show (by rw [←β];show dz _%dz _ e,IZ,IZ));let C:c∉ [f]:=λz=>m Io;show tp agY ?_;rw [AJ tu _];change aG _ MS (_D' (Ia c)>>=_) _ _ _;show aw%Hx N y ?_;change aG _ MS (_Ct (fS%Ia f) _>>=_) _ _ _;by_cases ι:Qm=0;{rw [ι] at X;show aw%AK%X.done _ _ _ kn λR tk x=>aw%AM%aZ ?_;let e:Wl ω:=nz ι;have:=S R tk zV λa o z=>x a o (λA=>(γ a o z).2.1%T4 A) (γ a o z).1;rw [e] at this;show this};{show aw%AK%X.item 0 _ _ _ Ih kn%WM b R tk pv gP x;let (n,j,ρ,rfl):=δ 0 b pv;let κ:=x c _ C N;change aG _ MS (AL c (Wx #[j_ Jy j,j_ Jy j])>>=_) _ _ _;show aw%vN κ y ?_;rw [g];(let k:hK%OT (0+1)=n:=by rw [aea ρ];change j9 0 n=n;show Hy%cj _);show aZ (tq tu _,apz X (λi b e=>δ i b e) c m _ 0 _ j _ y Ih (X.g5 _ _ _ gP λa W o z=>(nN _ _ λh:c=a=>m (h▸W)).q z) (by rw [k];show nM _ κ y)%Wj σ τ q φ);show S σ τ q (λa o z=>by let (χ,ψ,d):=γ a o z;let ν:a∉ [f]:=λA=>ψ%T4 A;show φ a o ν d%(nN _ _%i7 d).q%x a o ν χ)});simp only [checkBuiltinCall,PySem.F.kind_max];cases P:Manifest.signature? "max" with|none=>show aZ D|some s=>(let Γ:Bind.checkArgs LR s ([Ia u],qp%Id 0 zV)=JH ():=Zt apx (Ia u)%Id 0 zV);simp only [Γ];show aZ D
def aeb(K:aE)(S:TE):TE:=λc H Q=>S c H λx M=>∃a,∃O:Ib Iu,x= Ia a/\aD K M a%Lo (λn:Iu=>Iz Jy)/\Q (Id%Y! O) M
theorem apB:hT LR=J%Jf LR:=Ie
theorem apC{p k:cv}(m:NJ=ag)(l:Gl j LR)(r:J9 LR=I)(D:PE j O R)(P:cK Kk IE= SO:=by rfl): PE j (J0 (JU LR p) Kk [(J _Cr, RN (Id 0) q k,κ)] zj) (aeb IO R):=by intro F s c H Z B h;show mF%kQ B l r apB ?_ Il Il;show callWith_kw ?_ (by rw [P];rfl) (by rw [P];rfl) y y;rw [show fv zj%cK Kk IE= SO by rw [P];rfl];show pd%bq (D F s c H _ B h) λu w (α,M,b,z,a,e,G,n,x)=>q3 ?_;subst G;cases z;show evalAll_cons%aw%agc%aw%vt%aZ%evalAll_nil ?_;let b:=b.tok (w.do+1);let (d,f,Q,E):=b.dl n;let o:=Mw;rw [aQ] at o;show apA (ω:=e) (zV:=w.toks) (b.ok.hd m) Q.cj Io (Wd i v A) λS tk β κ=>(Id%Y! e,M,b.dm κ,(_,y),x);(let A:Wg d=J v:=_Av);let L:=(I! A).1;(let g:Wg e=J e[i]:=Ii);let (u,t,C):=_Ay%_a_ (Wg%e.o (λN:Iu=>Iz%Wa N)=J%Iz%Wa e[i]);rw [A] at t;cases t;let (W,rfl):=C;cbv
def apD(K:aE):R2:=λx A H Q=>∃a b L w,x= Ia a/\A= Ia b/\bS K H a L/\bS K H b w/\Wo (I0+w.a)/\(Wl L->Q (Ia b) H)/\(XC L->Wl w->Q (Ia a) H)/\(XC L->XC w->∀p,H p=I->Q (Ia p)%ak H p%IC (L++w))
theorem apE:eO j (nH S?)%apD IO:=by intro F s c H p A v O Q B Z m h;let (a,b,L,w,G,R,e,W,E,q,z,r):=h;by_cases N:Wl L;{subst G R;cases Z;cases m;let (d,g,i,_):=L_ e;let (k,P,C,_):=L_ W;let ((X,t,V,u),S,f,n,hd):=id i;let ((α,M,data2,T),x,l,o,D):=id C;simp only at f hd l D;subst f hd l D;show ago (_,S,y) (_,x,y) agp agq agr ags (agt _ _) (tuple_addW0 a b KU k.C n o t M u T (by simp [g.wR.mpr N])) (S,x,(Ia b,H,B,y,q N))};{show akk F s c H p A v O Q B Z m (a,b,L,w,G,R,e,W,N,E,z N,r N)}
def apF(K:aE):V->Im Ix->Im Ix->J3:=λx lo l H Q=>∃a L,x= Ia a/\bS K H a L/\((K_ I0 0 lo=0/\K_ I0 I0 l=I0)->Q (Ia a) H)/\(¬ (K_ I0 0 lo=0/\K_ I0 I0 l=I0)->∀p,H p=I->Q (Ia p)%ak H p%IC%je L lo l)
theorem apG{g:Im Ix}(e:jr I7 f zb)(P:v.j.g0 u η zw Ja)(W:nJ η zY)(i:nJ zw g) (S:K_ Jk 0 zY=0/\K_ Jk Jk g=Jk) (h:υ (Ia f) v):aG (a7 l p) μ (mG (Ia f)%Ia u) υ zC v:=by let (os,a,b,d):=id P;let c:QW (Ia u) _Aw:=(os,a,b);unfold mG;(try with_reducible show js ?_);(first|show aw%aZ ?_|skip);show aw%_EZ e.ap Il ?_;show aw%Yv (eG _By) e.ap pf%jx pf e.ap _E0 ?_%_E1 _ _;change aG _ _ (axp (Ia f)>>=_) _ _ v;show aw%tupleItemsOf_ e ?_;show aw%GQ c ?_;rw [aA Il];show aw%HT.abW P W i ?_;change aG _ _ (WW (Wc%K_ Jk 0 zY==0 && SN==1 && (K_ Jk Jk g - K_ Jk 0 zY)==Jk)) _ _ v;rw [S.1,S.2,aA Ii];show aw%W0 (aG _ _ (_BB (Ia f)>>=_) _ _ v)%aw%GQ e.ap%aZ ?_;rw [aA Il];show aw%AM%aZ (_,y,aZ h)
def apH:wO j%apF IO:=by intro F s c H x b m i lo l A Q B Z P W p h;let (a,L,G,N,z,O):=h;by_cases S:K_ I0 0 lo=0/\K_ I0 I0 l=I0;{subst G;cases Z;let (d,r,v,E):=L_ N;(let f:Ov=I0:=_E2);show (KN,_,pf.B,v.ap,apG v P W p (by rw [f];show S) (Ia a,H,B,y,z S))};{show aki F s c H x b m i lo l A Q B Z P W p (a,L,G,N,S,O S)}
def apI(K:aE):R2:=λx A H Q=>∃l f,Dp K H A%N_ l/\Dp K H x f/\iM%N_ l=ag/\iM f=ag/\Q (IJ%l.any λe=>iN e f) H
def apJ(t:Tj+65<ju):eO j (gG .In)%apI IO:=by intro F s c H x A v O Q B Z m h;let (l,f,hd,D,b,a,q):=h;let (i,g):=Ti B _ A O hd m;let (k,P):=Ti B f x v D Z;show SeqAt.in_tuple_reads g P (axT b) (axT a) (room_in_shaped a t) (IJ _,H,B,y,q)
end L2
namespace TW
open PySem PySem.Spec PyProof.Rows L2
def dH.on(h:dH f g G z2 ε)(a:Go g G σ Γ bO):dH f σ Γ z2 ε:=λ_ _ v k S=>h _ _ v (a.q k) S
theorem aec:Zd ((JZ λx=>Wc%eR x).sum=W6 ej l)| []=>by rw [ej];rfl|x::l=>by rw [dJ,List.sum_cons,aec l,ej];lia
theorem EZ:∀(l:Ib Iu) (a:Nat),l.fp j9 a=j9 a%l.fp j9 0| [],a=>Io|x::l,a=>by rw [oX,oX,EZ l%j9 a x,EZ l%j9 0 x,Yt (j9 0 x=x) Hy%cj _];cbv
theorem aed:Zd (hK%JZ fJ=gj l)| []=>by rw [gj];rfl|x::l=>by unfold hK;rw [dJ,oX,EZ,gj,←aed l,Yt (j9 0 x.e3=x.e3) Hy%cj _];rfl
theorem apK:hT UV=J%Jf UV:=Ie
def aee(h:R E g λA n=>z7 ζ A n ε):cR z7 (tC ζ) R E g ε:=h
def jQ{r:Ib V->J3}(h:R E g λx b=>r QA b ε):rP r (bP R bY) E g ε:=h
def apL(h:R E g λx b=>∃d,∃O:Ib Iu,x= Ia d/\aD r b d%Lo (λn:Iu=>Iz Jy)/\ε (Id%Y! O) b):aeb r R E g ε:=h
def uR(D:aa):Sp:=λC G ε _=>∃g m o l,C= [Ia m]/\g m=J%IC o/\bE g o l/\Z5 LP/\IQ g G/\dH D g G (sY l) ε
def aef{n:bW->Iu}(a:IA R E G ζ)(s:IQ g G)(A:cW g ζ zS):IA (fc (uF n) [] τ%bP R bY) E G%Id%W6 n zS:=λk q=>a _ (g,ζ,zS,y,s,A,q)
theorem qq:a0 [Pz,"parts","depth",Sa] [Pz]%aR uD:=(y,y,y,Ie,y,Ie,Ie)
theorem apM(W:aW r Sk Sk uD u Q)(H:FC l p r D A f)(κ:ID l p r D A aB 2 Vi L1%uF eR)(c:ID l p r D A aB 2 Vj L1%uF fJ) (N:D UV=I) (μ:D LR=I) (ν:cQ D "MOST_PARTS_outcomes" 400) (ξ:cQ D "MOST_DEPTH" 20):aJ l p r D A aB 3 u Q [Pz]%uR f:=by show Jb qq (YD (g,m,δ,a,rfl,_)) λφ T χ s G C ε τ L h=>?_;let (g,m,δ,a,rfl,i,F,ψ,t,q):=h;let X:=Zq 2;show (_,ao (WJ VJ (aH y)%d? jd aF%cz (akJ y) I5 N apK%ae (jJ (e:= [(Sa,3,)]) y VJ (BJ%pv 0) (Xf [Pz,"parts","depth",Sa] (aR uD) Sa 3 (y,Ie,Ie,Ie,Ie)) (Xc 3 VJ%aH y) NX%Xk%aM κ X y aK%ae (pv 3) aj) aj)%ao (Wq VJ (aH y)%d? jd aF%apC y I5 μ%jJ (e:= [(Sa,3,)]) y VJ (BJ%pv 0) (Xf [Pz,"parts","depth",Sa] (aR uD) Sa 3 (y,Ie,Ie,Ie,Ie)) (Xc 3 VJ%aH y) NX%Xk%aM c X y aK%ae (pv 3) aj)%ao (bA (M'%m2 (d4 ka (pv 1) (cg ν y)%c' _)%m1%d4 ka (pv 2) (cg ξ y)%c' _) (ax%aI%eC H.fC L y aK%ae (cg H.lg y) aj) bM)%ax%aI%hA%ae (pv 0)%ae (pv 1)%ae (pv 2) aj,?_);dsimp only [bz,b?,cc,hy,bX,cx,tB,n?];let M:=_Au;show aee%jQ%adD (r:=r) (z1:=(Ot λx=>Wc%eR x).o Iz) (gv y) (t _ _ i) (by simp [M]) (f9 Ih) (λο x π B v β E c=>?_)%Wb B c;{let (z,j,γ,_):=F.get' β;rw [dX,bL,j] at E;obtain ⟨rfl⟩:=E;show aef (g:=g) (gv y) (λb o e=>XN (aU (t _ _ e) c) t e) γ};show (B,_,y,Iw ar,_,_,y,y,?_);let w:Go g G g (ak G B%Ig%(Ot λx=>Wc%eR x).o Iz) bO:= JI t c;generalize ak G B (Ig%(Ot λx=>Wc%eR x).o Iz)=ρ at w;rw [aec];show aee%apL%adD (r:=r) (z1:=(Ot fJ).o λn:Iu=>Iz Jy) (gv y) (w.y _ _ i) (by simp [M]) (f9 Ih) (λο x π B v β E c=>?_)%Wb ζ σ;{let (z,j,γ,_):=F.get' β;rw [dX,bL,j] at E;obtain ⟨rfl⟩:=E;show aef (g:=g) (gv y) (λb o e=>XN (aU (w.y _ _ e) c) w.y e) γ};let k:=w.q%XH ((Ot fJ).o λn:Iu=>Iz Jy) w.y σ;show (ζ,_,y,Iw ar,_,_,y,y,?_);generalize ak ρ ζ (Ig%(Ot fJ).o λn:Iu=>Iz Jy)=η at k;rw [aed];let q:dH f g η (Wp (eR%Js a<=400/\fJ%Js a<=20) (LH%Js a)%LC 5) ε:=q.on k;(let R:eR%Js a=1+ej a:=by rw [eR]);(let υ:fJ%Js a=1+gj a:=by rw [fJ]);(let θ:(¬ (eR%Js a<=400/\fJ%Js a<=20))->dH f g η (LC 5) ε:=λh=>IZ);show (_,y,_,_,y,y,_,y,cF JV JV);{let h:=cw h;show bu%gX JN gc%θ Ih};let h:=dY%Mx h;show (_,y,_,_,y,y,_,y,cF (We α)%We α);{let α:=cw α;show gX JN gc%θ Ih};let α:=dY%Mx α;rw [aA%Y6 (eR%Js a<=400/\fJ%Js a<=20)] at q;show (_,y,_,y,_,y,f9 Io,Yn P);let O:=(Yd (IC [Ia m, Id (1+W6 ej a), Id (1+W6 gj a)]) JN d).cm d ar%b1 JN d;show q _ _ _ O ?_;change cW _ _ _;unfold cW;(let ι:Wh (g b=J o) (ak g P (IC [Ia m, Id (1+W6 ej a), Id (1+W6 gj a)]) b=J o):=Z6 b o%aq%aU e%b1 JN d);show (P,m,δ,y,?_,ι _ _ i,F.u ι);rw [ar,R,υ];cbv
theorem u65(r:dy q μ):RR+65<ju:=_C9
theorem aeg(x:bW):Zd ((e5 l).any (λe=>iN e%dV x)=l.any (λA=>iO A x))| []=>by unfold e5;rfl|A::l=>by unfold e5;rw [lP,lP,xW,aeg x l]
theorem apN(h:fZ%Js zE):iM%N_%e5 zE=ag:=by unfold iM;let D:=Ef zE;let R:fJ%Js zE<=20:=(Lv).2;rw [fJ] at R;let V:=Ee zE;rw [AH,vK,V,o2,cU];lia
theorem bE.app{F:Hp}:∀{C G:Ib V} {L w:Ib bW},bE F C L->bE F G w->bE F (C++G) (L++w)| [],_, [],_,_,h=>h|_::_,_,_::_,_,p,h=>by unfold bE at p;change bE F (_::_) (_::_);unfold bE;show (KB,bE.app L3 h)| [],_,_::_,_,p,_=>Qt|_::_,_, [],_,p,_=>Qt
theorem bE.drop{F:Hp}:∀{C:Ib V} {L:Ib bW} (n:Nat),bE F C L->bE F (C.Q n)%L.Q n|_,_,0,h=>h| [], [],_+1,h=>h|_::_,_::_,n+1,h=>by unfold bE at h;show bE.Q n Lv| [],_::_,_+1,p=>Qt|_::_, [],_+1,p=>Qt
theorem apO:hT KN=J%IU KN:=Ie
theorem apP:a0 Kc Kc%aR D7:=(y,y,y,Ie,y,Ie,Ie)
def E1(d:g u=I)(t:IQ G g)(A:bE G α zE)(a:Z5 zE.a)(q:dH f G g (sY zE) ε):uR f [Ia u] (ak g u%IC α) ε τ:=by let r:=(Yd (IC α) t d).cm d ar%b1 t d;show (_,u,α,zE,y,ar,A.u%Z6 b c%aq%aU e%b1 t d,a,r.y,q.on r)
theorem apQ(v:Z5 q)(W:aW r _Cu _Cu D7 u Q)(c:D KN=I)(k:ID l p r D A aB 3 Sk [Pz]%uR f):aJ l p r D A aB 4 u Q Kc%nc f (fp Js) q:=by show Jb apP (YD (g,a,X,L,rfl,_)) λm T w s G C ε τ i h=>?_;let (g,a,X,L,rfl,e,V,j,b,t,o):=h;show (_,ax%aI%aM k i y aK%ae (abT akw I5 c apO%ae (pv 0) aj) aj,?_);show (_,y,a,X,y, Ik (Iw V,λn d=>E1 (τ:=E0) d t j Ih o))
theorem apR:a0 Kc Kc%aR D9:=(y,y,y,Ie,y,Ie,Ie)
theorem apS(W:aW r U8 U8 D9 u Q)(w:FC l p r D A f)(B:VC l p r D A f):aJ l p r D A aB 3 u Q Kc%nc f (fp .has) 2:=by show Jb apR (Yu g (G,c,X,α,rfl,_)) λγ T M s g C ε τ L h=>?_;let (G,c,X,α,rfl,E,V,β,b,t,q):=h;match α,E with| [x,a],_=>let (v,O,rfl,N,F):=β.two;let k:=SM;show (_,ao (bA (eN%b9%aM B.nf k y aK%ae (a8 bf (pv 0) aF IB) aj) (ax%aI%eC w.fC L y aK%ae (cg w.wk y) aj) bM)%ax%aI%l0 (d4 (apJ%u65 L) (a8 bf (pv 0) aF IB) (aM B.mem k y aK%ae (a8 bf (pv 0) aF IB) aj) y) aF aF,?_);dsimp only [bz,cc,tB,eA,bX,cx];let e:∀{r},IA (cR (dM r) (bH 0)%tC%Id 0) (Vk Kc [Ia c]) g v:=X9 0%gv y;let H:∀{r},IA (cR (dM r) (bH 0)%tC%Id 1) (Vk Kc [Ia c]) g O:=X9 1%gv y;show k' e t N (_,y,?_);cases x with|num n=>show bu%gX t gc q|list d=>let q:dH f G g (ih%_Ax λz=>iO z a) ε:=q;show bt%H _%l! e t N λm o i j=>(e5 d,dV a, IC (Ju%t _ _ i)%j.dp t d,F.dp t a,apN%b _ Ii,uH%b _ Ii,_,y,?_);rw [aeg];unfold ih at q;cases h:d.any (λz=>iO z a) with|true=>rw [h] at q;show bu%Nu t|false=>rw [h] at q;show bt%Nu t
theorem apT:a0 Kc Kc%aR D_:=(y,y,y,Ie,y,Ie,Ie)
theorem apU(W:aW r _Cv _Cv D_ u Q)(w:FC l p r D A f)(a:VC l p r D A f)(θ:ID l p r D A aB 3 Sk [Pz]%uR f):aJ l p r D A aB 4 u Q Kc%nc f (fp .cat) 2:=by show Jb apT (YD (g,c,X,β,rfl,_)) λμ T ν s G C ε τ L h=>?_;let (g,c,X,β,rfl,ι,V,κ,γ,t,q):=h;match β,ι with| [x,B],_=>let (v,O,rfl,N,E):=κ.two;let k:=SM;show (_,ao (bA (M'%m2 (eN%b9%aM a.nf k y aK%ae (a8 bf (pv 0) aF IB) aj)%m1%eN%b9%aM a.nf k y aK%ae (a8 bf (pv 0) aF IB) aj) (ax%aI%eC w.fC (Jh Il) y aK%ae (cg w.wk y) aj) bM)%ax%aI%aM θ L y aK%ae (d? apE (aM a.mem k y aK%ae (a8 bf (pv 0) aF IB) aj)%aM a.mem k y aK%ae (a8 bf (pv 0) aF IB) aj) aj,?_);dsimp only [bz,cc,tB,eA,bX,cx,n?];let δ:∀{r},IA (cR (dM r) (bH 0)%tC%Id 0) (Vk Kc [Ia c]) G v:=X9 0%gv y;let F:∀{r},IA (cR (dM r) (bH 0)%tC%Id 1) (Vk Kc [Ia c]) G O:=X9 1%gv y;show k' δ t N (_,y,?_);cases x with|num n=>show bu%bu%gX t gc (by cases B<;>show q)|list z=>show bt%k' F t E (_,y,?_);cases B with|num ξ=>show bu%gX t gc q|list b=>let q:dH f g G (sY (z++b)) ε:=q;let ο:=wi (zE:=z)%γ _ Ii;let π:=wi (zE:=b)%γ _ Ii;show bt%l! δ t N λm o i j=>l! F t E%Wj H M ζ α;let P:=T0;let η:=α.len;show (m,H,o,M,y,y,Ju%t _ _ i,Ju%t _ _ ζ,f9 Ih,QD,_bS ?_,λ_ _ ρ d=>E1 (τ:=E0) d t (j.app α) _Bc q);{rw [e] at P;obtain rfl:Wl z:=nz P.J;show (g,H,M,b,y,ζ,α,Ih,t,q)};{rw [e] at η;obtain rfl:Wl b:=nz η.J;rw [fo] at q;show (g,m,o,z,y,i,j,Ih,t,q)}
theorem aeh:a0 [Oa,Pz] Kc%aR D?:=(y,y,y,Ie,y,Ie,Ie)
theorem apV(W:aW r _Cw _Cw D? u Q)(c:FC l p r D A f)(w:VC l p r D A f)(η:ID l p r D A aB 3 Sk [Pz]%uR f):aJ l p r D A aB 4 u Q Kc%nc f (fp .drop) 2:=by show Jb aeh (Yu g (G,B,X,δ,rfl,_)) λκ T M s g C ε τ L h=>?_;let (G,B,X,δ,rfl,H,V,θ,b,t,q):=h;match δ,H with| [x,E],_=>let (v,O,rfl,N,a):=θ.two;let k:=SM;show (_,ao (bA (M'%m2 (eN%b9%aM w.nf k y aK%ae (a8 bf (pv 0) aF IB) aj)%m1%eN%b9%aM w.Ec k y aK%ae (a8 bf (pv 0) aF IB) aj) (ax%aI%eC c.fC (Jh Il) y aK%ae (cg c.wk y) aj) bM)%ao (WJ aeh.nd (aH y)%aM _AM k y aK%ae (a8 bf (pv 0) aF IB) aj)%ao (bA (M'%m2 (d4 kU (a8 bf (pv 0) aF IB) aF%c' _)%m1%d4 ka (a8 bf (pv 0) aF IB) (cz dr I5 w.len c!%ae (pv 1) aj)%c' _) (ax%aI%eC c.fC (Jh Il) y aK%ae (cg c.pl y) aj) bM)%ax%aI%aM η L y aK%ae (wQ apH (pv 1) (p3%a8 bf (pv 0) aF IB) akg) aj,?_);dsimp only [bz,cc,tB,eA,bX,cx,b?,bU,hy,n?];let F:ZB IA (cR (dM r) (bH 0)%tC%Id 0) [J%Ia B,m] g v:=X9 0%gv y;let z:ZB IA (cR (dM r) (bH 0)%tC%Id 1) [J%Ia B,m] g O:=X9 1%gv y;show k' F t N (_,y,?_);cases x with|num n=>show bu%bu%gX t gc (by cases E<;>show q)|list α=>show bt%k' z t a (_,y,?_);cases E with|list μ=>show bu%gX t gc q|num i=>show bt%l! F t N%YL m γ j;(let a:O= Id i:=_FM);subst a;let q:dH f G g (Wp (i<0∨Wi I8<i) (LC 4)%LH%Js%R0 i.L) ε:=q;let ν:=T0;let ζ:fZ (Js α):=b _ Ii;let ξ:=wi ζ;show z _ (_,_,y,y,_,y,cF JV JV);{let h:=cw h;rw [aA%Ik h] at q;show bu%gX t gc q};let h:=dY%Mx h;show z _ (_,y,m,o,y, Iy%Ju%t _ _ γ,_,_,y,y,_,y,cF (We β)%We β);{let β:=cw β;rw [aA%Iy Ih] at q;show gX t gc q};let β:=dY%Mx β;rw [au Ih] at q;let ι:=abb ζ i.L;(let q:dH f G g (sY%R0 i.L) ε:=by unfold sY;rw [aA ι.2];show q);obtain ⟨n,rfl⟩:Y_ i:=Xs i.L;rw [eL] at q;show (_,y,z _ (_,y,(m,o,y,Ju%t _ _ γ,JV,Wd h ο d)));{let (h,_):=h;rw [HT.wN] at h;(let e:R0 n=α:=Io);rw [e] at q;show (G,m,o,α,y,γ,j,Ih,t,q)};{(let e:je o (J Jy) I=o.Q n:=by unfold je;rw [HT.wN,HT.aj_,vI Ih];lk);rw [e];show E1 (τ:=E0) d t (j.Q n) Uz q}
abbrev yj:aS:=IF 129
def oL:WA e6| .neg=>true| .not=>true| .lt=>true| .add=>true| .sub=>true| .mul=>true| .div=>true| .mod=>true| .max=>true| .min=>true|_=>false
def sh:WA e6| .eq=>true| .list=>true| .len=>true| .at_=>true| .cat=>true| .look=>true| .drop=>true| .has=>true|_=>false
def ko:WA bW| .num _=>true|_=>false
theorem aei:∀{L:Ib bW},(NG ko).all id=ag->∃O:Ib Ix,L=Lo agV| [],_=>([],y)| .num n::L,h=>by let (O,e):=aei (L:=L) Io;show (n::O,by rw [dJ,e])| .list _::L,h=>by simp [ko] at h
theorem aej{F:Hp}:∀{O:Ib Ix} {X:Ib V},bE F X%Lo agV->X=Lo Iz| [], [],_=>y|n::O,v::X,h=>by rw [dJ] at h;unfold bE cW at h;rw [dJ,←aej Lv,h.1]| [],_::_,h=>TZ|_::_, [],h=>TZ
theorem apW(S:oL z6=ag)(N:mS z6 zE.a)(h:(zE.o ko).all id=ay):fp z6 zE= LC 1:=by (let one:∀{zE:Ib bW},zE.a=1->(zE.o ko).all id=ay->∃l,zE= [Js l]:=λ{zE} e h=>by match zE,e with| [.num n],_=>simp [ko] at h| [.list l],_=>show (l,y));(let c:∀{zE:Ib bW},zE.a=2->(zE.o ko).all id=ay->∃a b,zE= [a,b]/\((∃l,a= Js l)∨∃l,b= Js l):=λ{zE} e h=>by match zE,e with| [.num n, .num m],_=>simp [ko] at h| [.list l,b],_=>lk| [.num n, .list l],_=>lk);cases z6 with|neg=>let (l,rfl):=one N h;rfl|not=>let (l,rfl):=one N h;rfl|lt=>obtain ⟨a,b,rfl,⟨l,rfl⟩|⟨l,rfl⟩⟩:=c N h;rfl;cases a<;>rfl|add=>obtain ⟨a,b,rfl,⟨l,rfl⟩|⟨l,rfl⟩⟩:=c N h;rfl;cases a<;>rfl|sub=>obtain ⟨a,b,rfl,⟨l,rfl⟩|⟨l,rfl⟩⟩:=c N h;rfl;cases a<;>rfl|mul=>obtain ⟨a,b,rfl,⟨l,rfl⟩|⟨l,rfl⟩⟩:=c N h;rfl;cases a<;>rfl|div=>obtain ⟨a,b,rfl,⟨l,rfl⟩|⟨l,rfl⟩⟩:=c N h;rfl;cases a<;>rfl|mod=>obtain ⟨a,b,rfl,⟨l,rfl⟩|⟨l,rfl⟩⟩:=c N h;rfl;cases a<;>rfl|max=>obtain ⟨a,b,rfl,⟨l,rfl⟩|⟨l,rfl⟩⟩:=c N h;rfl;cases a<;>rfl|min=>obtain ⟨a,b,rfl,⟨l,rfl⟩|⟨l,rfl⟩⟩:=c N h;rfl;cases a<;>rfl|_=>cases S
structure OpD(P:aP)(w:World)(K:aE)(S:ai->Im ah)(base:aO)(D:aa)(m a:Ib KJ):Ir where
 ga:l_ P w K S "OF_ANY" m
 gn:l_ P w K S "OF_NUMBERS" a
 any:∀d,sh d=ag->∃E,cS m%Iy%gU d=J%Ia E/\kz K%Ia E=ag/\∀n,mS d n->Z5 n->∃B,MN K B Kc []/\aJ P w K S Jp aB 4 E B Kc%nc D (fp d) n
 no:∀d,oL d=ag->cS m%Iy%gU d=I
 num:∀d,oL d=ag->∃E,cS a%Iy%gU d=J%Ia E/\kz K%Ia E=ag/\∀n,mS d n->∃B,MN K B JP []/\aJ P w K S Jp aB 4 E B JP%k_ D (fp d) n
def E2(D:aa):Sp:=λC G ε _=>∃(g:Hp) (l:aa) (X:Ib V) (L:Ib bW) (d:e6),C= [Iv%gU d, Ia l]/\(sh d=ag∨oL d=ag)/\mS d I0/\Z5 I0/\G l=J%Ig X/\bE g X L/\(∀x∈L,fZ x)/\IQ g G/\dH D g G (fp d L) ε
theorem E3:a0 [I?,Oa,Kq] [I?,Oa]%aR yj:=(y,y,y,Ie,y,Ie,Ie)
theorem apX{ν:Ib KJ}(ξ:aW r T' T' yj u Q)(E:FC l p r D A f)(H:VC l p r D A f)(N:OpD l p r D A f zB ν)(x:D Th=I):aJ l p r D A aB 5 u Q [I?,Oa]%E2 f:=by show ξ.ok E3 (YD (g,m,X,L,d,rfl,_)) λψ ω P s G C ε τ α h=>?_;let (g,m,X,L,d,rfl,ο,δ,len,w,c,b,t,q):=h;let (a1,a2,a3):=N.ga;let (Γ,π,ρ):=N.gn;show (_,ao (bA (eh%Cn a3 (pv 0)%Ym a2) (ax%aI%Co (p_ a3 (Ym a2) (pv 0) IB)%ae (pv 1) aj) bM)%ao (bA (eN%b9%cz (B4 y) I5 x ED%ae (jJ (e:= [(Kq,2,)]) y E3.nd (et%pv 1) (Xf [I?,Oa,Kq] (aR yj) Kq 2 (y,Ie,Ie,Ie,Ie)) (Xc 2 E3.nd%aH y) NX%Xk%aM H.Ec (α.u Il) y aK%ae (pv 2) aj) aj) (ax%aI%eC E.fC (α.u Il) y aK%ae (cg E.wk y) aj) bM)%ax%aI%Co (p_ ρ (Ym π) (pv 0) IB)%ae (pv 1) aj,?_);dsimp only [bz,cc,tB,bX,cx,eA];let B:(Ki%gU d)=kV%Iy%gU d:=y;show (_,y, Iy%gU d,B,_,y,?_);by_cases μ:sh d=ag;{let (ζ,β,η,θ):=N.any d μ;let (i,T,W):=θ _ δ KO;rw [β];show bu (_,y, Iy%gU d,_,B,β,ζ,y,η,_,y,xa (τ:=E0) W α T IR aK (g,m,X,L,y,y,w,c,b,t,q))};let ι:oL d=ag:=ο.dz μ;rw [N.no d ι];let σ:=c.len;show bt%jQ%qm (r:=r) (z1:=(NG ko).o M9) (gv y) w (by simp [σ]) (f9 Ih) (λΔ Θ Ξ γ v M F κ=>?_)%Wb γ κ;{let (z,υ,φ,_):=c.get' M;rw [dX,bL,υ] at F;obtain ⟨rfl⟩:=F;intro k q;show k' (G:=g) (gv y) (λΦ o e=>XN (aU (t _ _ e) κ) t e) φ ?_;cases z<;>show q};show (γ,_,y,Iw ar,_,y,?_);let a:Go g G g (ak G γ%Ig%(NG ko).o M9) bO:= JI t κ;let q:=q.on a;let n:=NO _ _ w id;generalize ak G γ (Ig%(NG ko).o M9)=Ψ at a q n;cases j:(L.o ko).all id with|false=>rw [apW ι δ j] at q;show bu%gX Lr gc q|true=>let (O,rfl):=aei j;let e:=aej c;subst e;let (ζ,β,η,θ):=N.num d ι;let (i,T,W):=θ _ δ;show bt (_,y, Iy%gU d,_,B,β,ζ,y,η,_,y,xa (τ:=E0) W α T IR aK (g,m,O,y,Ii,n,Wb Ω χ,Lr,q));show Bq.R%b _%lE χ
end TW
namespace L2
open PySem PySem.Spec PyProof.Rows
def apY(f:aa)(hd:(f==ij)=ay):MeetsIn l p (Builtin.«dict.values» ([Ia f], []))%Xp R v (QW (Ia f) No/\Xn R (JF%QZ%Ia II)%Jw%WN _D! #[Ia f]):= _Cm (λμ R v (i,h)=>by show aw ?_;unfold axU;show aw%agH i ?_;change aG _ _ (JH f) _ _ v;show aZ ?_;change aG _ _ (vD f>>=_) _ _ v;unfold vD;rw [au _DM];show aw%aZ%aw%hq%aZ (_,y,h))
theorem apZ(A:v.j.IsValuesView u f)(S:Ji f=J ze)(a:M7= L7 zx q) (c:Xn zC (Ia II)%Jw%WN _F' #[Ia f, Id 0 0, Id NM 0, Id q 0]):aG (a7 l p) μ (mB%Ia u) zC υ v:=by let (d,b,h,e):=id A;show G4 A.ap axV%jx axV A.ap PySem.F.entry_dict_values_iter ?_%PySem.F.args_dict_values_iter_1 _;unfold Builtin.«dict_values.__iter__»;show aw%aZ%aw ?_;unfold axW;show aw%jw b e (x:= (Ia f)) y%aZ%aw ?_;unfold axX;show aw%pk S a%aw%pq S a ?_;simp only [show q! "dict_valueiterator"=ay by decide,q_,iL];show hq%aZ (_,y,_F',_,(_,ep _ y,y),AN.B,?_);simpa [e9] using c
theorem ap0{m:fV}{Q:WL%Im ah}(r:v.j.g2 f u q Z zm)(a:Ji u=J ze)(B:M7= L7 zx zm) (g:NM=Z) (N:Wf zx=J m) (c:∀C,C.g2 f u (q+1) Z zm->lI f I7 C->Xn Q (J Rf) C):aG (a7 l p) μ (fS%Ia f) Q υ v:=by let (o,S,b,hd):=id r;unfold fS;show aw%nQ%Yv (eG Ql) K' AN%jx AN K' axY ?_%axZ _;show aw%aZ%aw%aw ?_;(first|show aw%Hz K'%aZ%aw%nV S hd ?_|show aw%HA K'%aZ%aw%nV S hd ?_);simp only [show q! "dict_valueiterator"=ay by decide,q_,iL];change aG _ _ (WW (b! u==fq)) _ _ v;rw [au%Zl ((b! u==fq)=ag)];show aw%aZ%aw%pk a B ?_;rw [au _DN];show aw%aZ%aw%pq a B ?_;rw [au Ii];let e:q<NM:=(vE.R N).1;let h:zx[q]=m:=(vE.R N).2;show aZ ?_;simp only [show ¬ ((q:Int)<0) from by lia,iL,eL,G7 e];show aw ?_;(first|show aw%Hz K'%aZ%aw%HB K' ?_|show aw%HA K'%aZ%aw%HB K' ?_);change aG _ _ (tg (Ia f) 1 (e9 (K2+1))>>=_) _ _ v;show aw%q? S hd Ii ?_;generalize H:Te f (G8 (·.eg 1%e9 (K2+1)))=R;(let d:R.g2 f u (q+1) Z zm:=by rw [←H];show (_,nM _ S%G9%ra hd _,(agI ..).q b,by rw [ra hd];simp [e9]));show aw%js%aw%_bf HB R Tm%aw%_bf HB R Tm ?_;change aG _ _ (JH zx[q].val) _ _ _;rw [h];show aZ%aZ (_,y,aZ%c _ d (by rw [←H];show SB))
theorem ap1{Q:WL%Im ah}(H:M_=I)(r:v.j.g2 f u q Z zm)(a:Ji u=J ze)(B:M7= L7 zx zm) (d:NM=Z) (b:Z<=q) (c:∀C,G_ f I7 C->Xn Q I C):aG (a7 l p) μ (fS%Ia f) Q υ v:=by let (o,S,m,hd):=id r;unfold fS;show aw%nQ%Yv (eG Ql) K' AN%jx AN K' axY ?_%axZ _;show aw%aZ%aw%aw ?_;(first|show aw%Hz K'%aZ%aw%nV S hd ?_|show aw%HA K'%aZ%aw%nV S hd ?_);simp only [show q! "dict_valueiterator"=ay by decide,q_,iL];change aG _ _ (WW (b! u==fq)) _ _ v;rw [au%Zl ((b! u==fq)=ag)];show aw%aZ%aw%pk a B ?_;rw [au (by rw [d];simp)];show aw%aZ%aw%pq a B ?_;rw [au Ii];show aZ ?_;simp only [show ¬ ((q:Int)<0) from by lia,iL,eL,agJ (show zx.l<=q by lia)];show aw ?_;(first|show aw%Hz K'%aZ ?_|show aw%HA K'%aZ ?_);change aG _ _ (tg (Ia f) 0 Ja>>=_) _ _ v;show aw%q? S hd Ii ?_;change aG _ _ (rf (IU RW) []>>=_) _ _ _;show aw ?_;simp only [rf,newTuple];show aw%hq (XS (rh _ _)%_aM kD%hq ?_ RX) RX;simp only [raiseNew];show aw%G' ?_;rw [_aH _BE I];show aw%aZ%G! ?_;show aw%_aA vF RW (_,ep _ y,y) G?;show aZ%c _%((SB).h1 _).av _
def Inv.sj(B:Ip j ν E g v)(h:g f=J%Jd ze%I9 zi): (f==ij)=ay/\Ji f=J ze/\ze.ExactDict/\∃(c:KC fV) (n:Nat),M7= L7 c n/\c.l=KP/\∀(i:Nat) (k:Ib be) (o:V),V!=J%X3 o->∃(m:fV) (q:aa),Wg c=J m/\Ow= Ia q/\g q=J%IC%L? kV/\IX o Rf:=by let (hd,z,P,L,e,Q,c,n,S,N,d,D,_):=Jl f _ h;rw [hd] at S;cases S;show (P,hd,N,c,n,d,(size_of_entries D).q (b4 e).J,Wj i k o a);let (b,W,p,Z,l):=ub e a;let q:=entry_at D i;rw [W] at q;show (_,b.2.1,q,y,Z,l)
def sk(f:aa)(o:bb)(j:Ib OK):It:=(λi H=>H f=J%Jd o%I9 j/\i<Lz,λi H x d=>d=H/\∃k,Wg j=J Rs,λi H=>H f=J%Jd o%I9 j/\Lz<=i)
theorem ap2(α:aa)(δ:M7= L7 zx q):m6 l p r O (sk f ze zi) [α] α (λi h=>h.g2 α f i KP q) where
 mem:=Ii
 obj:=λi h st b W=>by
  obtain rfl:b=α:=Nj
  let (β,e,ε,γ):=st
  simp_all
 keep:=λi h C st k=>st.at λβ e=>k α Ii β e
 item:=by
  intro X G S R m i F s c H Z B hf st (hd,g)
  subst G S R
  let (j,o,η,w,Q,D):=hf α Ii
  let (θ,a,N,ι,κ,d,u,ζ):=B.sj hd
  let (rfl,rfl):=w3 δ d
  obtain ⟨⟨k,v⟩,L⟩:∃z,V!=J z:=(zi[i],d1 g)
  let (μ,π,ν,ρ,n,ξ):=ζ i k v L
  show ap0 st a d u ν%Wd C T t
  let ο:Ip X F c H Sr:=Yr (λb M W e=>(Nf b W).q e) j o w Q D
  let (β,e,ε,γ):=id T
  show (μ.val,y,wD (v:=Sr) e ε γ Il (v,H,ο,ξ,(y,k,L),T,XZ b W%hf b W))
 done:=by
  intro X G S R m i F s c H Z B hf st (hd,g)
  subst G S R
  let (j,o,η,w,Q,D):=hf α Ii
  let (θ,a,N,ι,κ,d,u,ζ):=B.sj hd
  let (rfl,rfl):=w3 δ d
  show ap1 (ML m) st a d u g λC x=>(y,Yr (λb M W e=>x b M W e) j o w Q D)
 self:=λσ i s τ Z st h=>wpAny_pyIter_valiter st h
def E4(a:TE):TI:=λc H R=>a c H λx M=>∃f o j,x= Ia f/\M f=J%Jd o%I9 j/\R (sk f o j) M
def E5(D:PE j O R)(l:mC O Oa IE%Je O IE=Je O IE:=by rfl)(m:(zj.gi==QT)=ag:=by rfl):PI j ξ (J0 (LD O Oa zj) [] [] κ)%E4 R:=by intro F s c H e B h;show agL (T:=No) (id:="dict.values") l y m Hh ax0 PySem.F.type_dict_values%bq (D F s c H _ B h)%WH i (x,M,V,Z,f,o,n,G,hd,q);subst G;obtain rfl:i=b! f:=Z;let (p,a,N,g,E,d,u,r):=V.sj hd;let W:w.es (Ia f) No:=(o,a,N.1);show (W,(λb q=>by cases q;show (o,a,N.2.1)),?_);let k:Ip j F c M (_aS VL%WN _D! #[Ia f]):=_aa λb t q=>dz _ q;(let S:aG (a7 IS IT) Jt (mB%Ia Ky) (tQ j F c ξ e) K9 (_aS VL%WN _D! #[Ia f]):=by show apZ (f:=f) (zx:=g) (q:=E) (_,ep _ y,y,y) (dz _ a) d%acm (q:=w.toks) k _ (ap2 _ d) (_,ep _ y,y,?_) q;rw [u]<;>rfl);change aG _ _ (mD κ (Jf "dict.values") [Ia f] [] []) _ K9 w;show _F! ax0 PySem.F.entry_dict_values y%agx (y,W,PySem.F.args_dict_values_1 _,_,apY f p,W,S)
def ap3(f:aa)(hd:(f==ij)=ay):MeetsIn l p (Builtin.«dict.items» ([Ia f], []))%Xp R v (QW (Ia f) No/\Xn R (JF%QZ%Ia II)%Jw%WN _D? #[Ia f]):= _Cm (λμ R v (i,h)=>by unfold Builtin.«dict.items»;show aw ?_;unfold axU;show aw%agH i ?_;change aG _ _ (JH f) _ _ v;show aZ ?_;change aG _ _ (vD f>>=_) _ _ v;unfold vD;rw [au _DM];show aw%aZ%aw%hq%aZ (_,y,h))
theorem ap4(A:v.j.IsItemsView u f)(S:Ji f=J ze)(a:M7= L7 zx q) (c:Xn zC (Ia II)%Jw%WN Ta #[Ja, MK ay, Ia f, Id 0 0, Id NM 0, Id q 0, Ja, Ja]):aG (a7 l p) μ (mB%Ia u) zC υ v:=by let (d,b,h,e):=id A;show G4 A.ap ax1%jx ax1 A.ap PySem.F.entry_dict_items_iter ?_%PySem.F.args_dict_items_iter_1 _;unfold Builtin.«dict_items.__iter__»;show aw%aZ%aw ?_;unfold axW;show aw%jw b e (x:= (Ia f)) y%aZ%aw ?_;unfold axX;show aw%pk S a%aw%pq S a ?_;simp only [show q! "dict_itemiterator"=ag by decide,kA];show hq (aZ (_,y,Ta,_,(_,ep _ y,y),AO.B,?_)) (by simp only [sizeOk,ax2,dF,cG,cH,Gk,eK];lia);simpa [e9,ax2] using c
theorem ap5{m:fV}{Q:WL%Im ah}(r:rl I7 f u q Z zm zw η)(a:Ji u=J ze)(B:M7= L7 zx zm) (i:NM=Z) (N:Wf zx=J m) (c:∀C,agZ C f u (q+1) Z zm Ow Rf II->Nk II=J%X5 _AT->(YQ f (Ji b=J o->Nk b=J o))->Xn Q (J%Ia II) C):aG (a7 l p) μ (fS%Ia f) Q υ v:=by let (d,j,O,tk,os):=v;let A:Ht (d,j,O,tk,os) (Ia f) Ta:=(_,r,y);unfold fS;show aw%nQ%Yv (eG Ql) A AO%jx AO A ax3 ?_%ax4 _;show aw%aZ%aw%aw ?_;(first|show aw%HC A%aZ%aw%nV r y ?_|show aw%HD A%aZ%aw%nV r y ?_);simp only [show q! "dict_itemiterator"=ag by decide,kA];change aG _ _ (WW (b! u==fq)) _ _ _;rw [au%Zl ((b! u==fq)=ag)];show aw%aZ%aw%pk a B ?_;rw [au (by rw [i];simp)];show aw%aZ%aw%pq a B ?_;rw [au Ii];let n:q<NM:=(vE.R N).1;let θ:zx[q]=m:=(vE.R N).2;show aZ ?_;simp only [show ¬ ((q:Int)<0) from by lia,iL,eL,G7 n,θ];show aw ?_;(first|show aw%HC A%aZ%aw%HE A ?_|show aw%HD A%aZ%aw%HE A ?_);change aG _ _ (tg (Ia f) 3 (e9 (K2+1))>>=_) _ _ (d,j,O,tk,os);show aw%AQ r Ii%Wd g t h;replace h:lI f d g:=h;(replace t:rl g f u (q+1) Z zm zw η:=by unfold rl;rw [Xo (ZV q) (K2+1)];simpa [e9] using t);let F:Ht (g,j,O,tk,os) (Ia f) Ta:=(_,t,y);show aw%js%aw%HE F%aw%HE F ?_;change aG _ _ (ax5 (Ia f) 6 Ow Rf) _ _ (g,j,O,tk,os);unfold ax5;show aw%wpAny_newTuple ?_;let x:rl (g.av%X5 _AT) f u (q+1) Z zm zw η:=dz _ t;generalize G:g.av (X5 _AT)=k at x;let H:g.v.l=_AU:=h.1;let ι:XX _AU:=eF%cZ r;(let κ:k.E _AU=J%X5 _AT:=by rw [←G,←H];show ep _ y);(let s:YQ f (d.E b=J o->k.E b=J o):=λb o W e=>by rw [←G];show dz _%h.e8 b o W e);change aG _ _ (ax6 (Ia f)>>=_) _ _ (k,j,O,tk,os);rw [H];clear G t h F H g;show aw ?_;unfold ax6;show aw%jw x y (x:= Ja) y%aZ ?_;simp only [kA];show aw%jw x y (x:=zw) y%aw%jw x y (x:=η) y ?_;show aw%AQ x Ii%Wd L M R;replace R:lI f k L:=R;replace M:rl L f u (q+1) Z zm Ow η:=M;show aw%AQ M Ii%Wd S V α;replace α:lI f L S:=α;replace V:rl S f u (q+1) Z zm Ow Rf:=V;show aw%AQ V Ii%Wd β γ δ;replace δ:lI f S β:=δ;replace γ:agZ β f u (q+1) Z zm Ow Rf _AU:=γ;show aw%AQ γ Ii%Wd D ε ζ;replace ζ:lI f β D:=ζ;replace ε:agZ D f u (q+1) Z zm Ow Rf _AU:=ε;let P:∀{b o},WY f->k.E b=J o->D.E b=J o:=λW e=>ζ.e8 _ _ W%δ.e8 _ _ W%α.e8 _ _ W%R.e8 _ _ W e;show aw%vO%aZ%aZ (_,y,aZ%c D ε (P ι.J κ) λb o W e=>P W%s b o W e)
theorem ap6{Q:WL%Im ah}(H:M_=I)(r:rl I7 f u q Z zm η zw)(a:Ji u=J ze)(B:M7= L7 zx zm) (b:NM=Z) (e:Z<=q) (c:∀C,G_ f I7 C->Xn Q I C):aG (a7 l p) μ (fS%Ia f) Q υ v:=by let A:QW (Ia f) Ta:=(_,r,y);unfold fS;show aw%nQ%Yv (eG Ql) A AO%jx AO A ax3 ?_%ax4 _;show aw%aZ%aw%aw ?_;(first|show aw%HC A%aZ%aw%nV r y ?_|show aw%HD A%aZ%aw%nV r y ?_);simp only [show q! "dict_itemiterator"=ag by decide,kA];change aG _ _ (WW (b! u==fq)) _ _ v;rw [au%Zl ((b! u==fq)=ag)];show aw%aZ%aw%pk a B ?_;rw [au (by rw [b];simp)];show aw%aZ%aw%pq a B ?_;rw [au Ii];show aZ ?_;simp only [show ¬ ((q:Int)<0) from by lia,iL,eL,agJ (show zx.l<=q by lia)];show aw ?_;(first|show aw%HC A%aZ ?_|show aw%HD A%aZ ?_);change aG _ _ (tg (Ia f) 2 Ja>>=_) _ _ v;show aw%q? r y Ii ?_;change aG _ _ (rf (IU RW) []>>=_) _ _ _;show aw ?_;simp only [rf,newTuple];show aw%hq (XS (rh _ _)%_aM kD%hq ?_ RX) RX;simp only [raiseNew];show aw%G' ?_;rw [_aH _BE I];show aw%aZ%G! ?_;show aw%_aA vF RW (_,ep _ y,y) G?;show aZ%c _%((SB).h1 _).av _
def sp(f:aa)(o:bb)(j:Ib OK):It:=(λi H=>H f=J%Jd o%I9 j/\i<Lz,λi H x d=>∃u q k v,Wg j=J%W2 k/\x= Ia u/\H u=I/\H q=J%IC%L? kV/\d=ak H u%IC [Ia q,v],λi H=>H f=J%Jd o%I9 j/\Lz<=i)
theorem ap7(α:aa)(δ:M7= L7 zx q): m6 l p r (Qa Ω Z κ) (sp f ze zi) [α] α (λi h=>∃β d,rl h α f i KP q β d) where
 mem:=Ii
 obj:=λi h st b W=>by
  grind
 keep:=λi h C st k=>let (β,d,e):=st;(β,d,k α Ii _ e)
 item:=by
  intro X G S R ε i F s c H o B hf st (hd,j)
  subst G S R
  let (μ,a,N,ν,ξ,γ,u,ζ):=B.sj hd
  let (rfl,rfl):=w3 δ γ
  obtain ⟨⟨k,v⟩,L⟩:∃w,V!=J w:=(zi[i],d1 j)
  let (m,g,ο,π,ρ,A):=ζ i k v L
  let (β,d,D):=st
  let t:α<JR:=cZ D
  show ap5 D a γ u ο%Wj C σ τ υ
  show (_,y,wpAny_letOwnedTupleGo_items (s:=Sr) σ%Wd n φ η)
  let χ:n.E JR=J%X5 _AT:=(η.2 _%o' t).q τ
  let T:d3 Km Kn (ak H JR%IC [Ia g,v]) n JR (IC [Ia g,v]):=
   (Nx, [Ow,Rf], I1 π%I1 A IR,(_,χ,y,_,y))
  let ψ:_aQ Ip X F c (ak H JR%IC [Ia g,v]) n:=
   B.Ce (q:=s.toks) (zl:= [α]) (λb M W e=>(η.2 b Nj).q%υ b M Nj e) hf (bj _) T
  show (Ia JR,_,ψ,y,(_,g,k,v,L,y,Nl%bj _,ρ,y),(Ow,Rf,φ),OE)
  let e:b=α:=Nj
  rw [e,aq%eF t]
  show (hf α Ii).1
 done:=by
  intro X G S R ε i F s c H o B hf st (hd,j)
  subst G S R
  let (ω,O,Δ,z,Q,Γ):=hf α Ii
  let (μ,a,N,ν,ξ,γ,u,ζ):=B.sj hd
  let (rfl,rfl):=w3 δ γ
  let (β,d,D):=st
  show ap6 (ML ε) D a γ u j λC x=>(y,Yr (λb M W e=>x b M W e) ω O z Q Γ)
 self:=λΘ i s Ξ o st h=>let (_,_,e):=st;PySem.W.kcp_self e h
def aek(a:TE):TI:=λc H R=>a c H λx M=>∃f o j,x= Ia f/\M f=J%Jd o%I9 j/\R (sp f o j) M
def ap8{i:cv}(D:PE j O R)(l:mC O "items" IE%Je O IE=Je O IE:=by rfl)(r:(zj.gi==QT)=ag:=by rfl): PI j (Qa Ω q i) (J0 (LD O "items" zj) [] [] κ) (aek R):=by intro F s c H m B h;show agL (T:=No) (id:="dict.items") l y r Hh ax7 PySem.F.type_dict_items%bq (D F s c H _ B h)%WH n (x,M,V,Z,f,o,v,G,hd,e);subst G;obtain rfl:n=b! f:=Z;let (t,a,N,g,E,d,u,z):=V.sj hd;let W:w.es (Ia f) No:=(o,a,N.1);show (W,(λb e=>by cases e;show (o,a,N.2.1)),?_);let k:Ip j F c M (_aS VL%WN _D? #[Ia f]):=_aa λb A e=>dz _ e;(let S:aG (a7 IS IT) Jt (mB%Ia Ky) (tQ j F c (Qa Ω q i) m) K9 (_aS VL%WN _D? #[Ia f]):=by show ap4 (f:=f) (zx:=g) (q:=E) (_,ep _ y,y,y) (dz _ a) d%acm (q:=w.toks) k _ (ap7 _ d) (Ja, Ja,?_) e;rw [u];show ep _ y);change aG _ _ (mD κ (Jf "dict.items") [Ia f] [] []) _ K9 w;show _F! ax7 PySem.F.entry_dict_items y%agx (y,W,PySem.F.args_dict_items_1 _,_,ap3 f t,W,S)
end L2
namespace TW
open PySem PySem.Spec PyProof.Rows L2
abbrev yk:aS:=IF 131
abbrev yl:aS:=IF 133
abbrev ym:aS:=IF 134
abbrev yn:aS:=IF 135
structure lj(D:aa)(F:Hp)(l:aa)(e:V)(f:Iu->aL->dk)(n:Int)(x:dB):Ir where
 wf:fB x
 occ:∃j,F l=J%I9 j/\∀o∈x.occs,∃O,cS j%jm o=J O/\eY D F O%f JW JX/\ez%f JW JX
 ow:OW=ag->e= Id n/\Of<=n/\Xz n
def lj.mono{D l:aa}{F W:Hp}{e:V}{f:Iu->aL->dk}{n:Int}{x:dB}(h:lj D F l e f n x)(c:Wh (F b=J o) (W b=J o)):lj D W l e f n x:=(h.wf,by let (j,d,R):=h.occ;show (j,c _ _ d,λo S=>by let (O,a,b,g):=R o S;show (O,a,b.u c,g)),h.ow)
theorem ael{o:Jo}{A:dB}:∀{L:Ib dB},A∈L->o∈A.ce->o∈e1 L|x::L,h,S=>by rw [e1];rcases b0.R h with rfl|h;{show sX _ S};{show lG _%ael h S}
theorem aem{A:dB}:∀{L:Ib dB},A∈L->A.b4=ag->e' L=ag|x::L,h,S=>by rw [e'];rcases b0.R h with rfl|h;{rw [S];rfl};{rw [aem h S,agM]}
theorem qr{A:dB}:∀{L:Ib dB},A∈L->A.bb<=dC L|x::L,h=>by rw [dC];rcases b0.R h with rfl|h;{lia};{have:=qr h;lia}
theorem aen:∀(L:Ib dB),I0<=dC L| []=>cj _|x::L=>_ct (aen L) A6 x
def lj.sub{c:Iu->aL->dk}{L:Ib dB}{A:dB}(h:lj f g u ζ c γ%LO z6 L)(b:A∈L):lj f g u ζ c γ A:=by let (Q,(j,a,R),C):=h;unfold fB at Q;rw [px] at R;rw [tj] at C;show (tL.R Q.2 A b,(j,a,λo S=>R o%ael b S),λz=>C%aem b z)
theorem yo(f:Iu->aL->dk)(n:Int):∀(L:Ib dB),vP f n L=NG%dG f n| []=>by rw [vP];rfl|x::L=>by rw [vP,yo f n L];rfl
mutual
theorem E6{f:Iu->aL->dk}{n:Int}:∀(x:dB),(∀o∈x.occs,ez (f JW JX))->ez%dG f n x| .num k,_=>by rw [dG];show pR _| .own,_=>by rw [dG];show pR _| .occ p a,h=>by rw [dG];show h (p,a,) (by rw [px];show g0.mpr y)| .app d L,h=>by rw [dG];rw [px] at h;show aiO d _%aeo L h
theorem aeo{f:Iu->aL->dk}{n:Int}:∀(L:Ib dB),(∀o∈e1 L,ez (f JW JX))->∀O∈vP f n L,ez O| [],_=>by rw [vP];cbv|x::L,h=>by rw [vP];rw [e1] at h;intro O t;rcases b0.R t with rfl|t;{show E6 x (λo S=>h o%sX _ S)};{show aeo L (λo S=>h o%lG _ S) O t}
end
theorem lj.ok{b:Iu->aL->dk}{x:dB}(h:lj f g u ζ b γ x):ez%dG b γ x:=by let (a,_,R):=h.occ;show E6 x%XR o S
theorem aep{k:Nat}:∀{os:Ib dk} {C:Ib bW} {i:Nat},os.Y i=Ou Aj->Wg os=J%LC k->o8 os=J k| .bad j::os,C,0,_,h=>by simp at h;rw [o8,h]| .val v::os,C,0,_,h=>Mt|o::os,C,i+1,e,h=>(by rw [af4] at e;cases C with|nil=>cases e|cons v C=>rw [dJ] at e;let (rfl,Z):=lS e;rw [o8];show aep Z OL)| [],_,i,_,h=>Mt
theorem yp:∀(C:Ib bW),o8%Ou Aj=I/\vk%Ou Aj=C| []=>(y,y)|v::C=>by rw [dJ,o8,vk,(yp C).1,(yp C).2];show (y,y)
def ap9(h:sh z6=ag∨oL z6=ag)(os:Ib dk):qV z6 os=match o8 os with|J k=> LC k|I=>fp z6 (vk os):=by cases z6<;>first|rfl|(rcases h with h|h<;>cases h)
theorem aeq(d:e6):gU d≠IL/\gU d≠KG/\gU d≠N?/\aT (gU d=Ox)=aT (d= P4)/\aT (gU d="&")=aT (d= .and)/\aT (gU d="|")=aT (d= .or):=by cases d<;>decide+kernel
theorem cV.get{s:aa}{F:Hp}:∀{C:Ib V} {L:Ib dB} {i:Nat} {x:dB},cV s F C L->Pa=J x->∃v,Wg C=J v/\dS s F v x| [], [],i,x,_,h=>Mt|v::X,A::L,0,x,p,h=>by unfold cV at p;cbv|v::X,A::L,i+1,x,p,h=>by unfold cV at p;let (O,D,R):=cV.get L3 (i:=i) OL;cbv| [],_::_,_,_,p,_=>Tw|_::_, [],_,_,p,_=>Io
theorem cV.at_{L:Ib dB}(p:cV f g α L)(h:Wf α=J ζ):∃x,Wf L=J x/\dS f g ζ x:=by let (x,N):=dg h p.len.J;let (O,D,R):=p.get N;cbv
def oM(D s:aa)(m:Nat):Sp:=λC G ε _=>∃g v l e f n x,C= [v, Ia l,e]/\Ld<=m/\IQ g G/\dS s g v x/\lj D g l e f n x/\dH D g G (dG f n x) ε
def qs(D s:aa)(m:Nat)(S:WI e6):Sp:=λC G ε _=>∃g v l e f n d L,C= [v, Ia l,e]/\S d/\(mm d L).bb<=m+1/\IQ g G/\dS s g v%LO d L/\lj D g l e f n%LO d L/\dH D g G (dG f n%LO d L) ε
def qt{r:L2.TE}{a:Iu->aL->dk}{x:dB}(b:IA R E g ζ)(k:IA Ξ E g%Ia W)(O:IA r E g z5)(i:Ld<=q)(t:IQ G g)(d:dS u G ζ x)(S:lj f G W z5 a γ x) (c:dH f G g (dG a γ x) ε):fc (oM f u q) [] τ (bP R%bP Ξ%bP r bY) E g ε:=b _%k _%O _ (G,ζ,W,z5,a,γ,x,y,i,t,d,S,c)
def qu(h:R E g λx d=>zt QA d ε τ):fc zt [] τ (bP R bY) E g ε:=h
theorem jR{a:Sw}(b:T3 r f I? Kq KZ)(c:IA R E g%Ia u)(h:g u=J%Iq f W%fP L ζ ο)(q:a (aT (L=zD)) g):hy (cR rEq (cy r R I?)%tC%Iv zD) E g a:=by show c _ (u,f,W,_,_,y,h,b.cl,b.a1,y,y,_,y,?_);cbv
def uS(a:T3 r f I? Kq KZ)(b:IA R E g%Ia u)(h:g u=J%Iq f ο%fP L z5 W)(e:g W=J%Ig α)(t:Wf α=J ζ)(c:IA Ξ E g%Id Mm):IA (cR (dM r) (cy r R KZ) Ξ) E g ζ:=cX (gf b h Jg a.a3 y) e t c
def E7(h:hQ z2= LH zS):∃v b,z2= LH v/\v.truth=J b/\zS= N0%Wp b 1 0:=by cases z2 with|bad j=>cases h|val v=>cases v with|list l=>cases h|num n=>let h:ih (n !=0)= LH zS:=h;unfold ih at h;cases h;show (_,n !=0,y,y,y)
def ap_(h:hQ z2= LC q)(t E:dk):qV P4 [z2,t,E]= LC q:=by cases z2 with|bad j=>cases h;rfl|val v=>cases v with|list l=>cases h;rfl|num n=>cases h
theorem ap'(h:zS.truth=J zc)(t E:dk):qV P4 [LH zS,t,E]=if zc then t else E:=_ag (match zS.truth with|J ag=>t|J ay=>E|I=> LC 1) _
theorem aer:a0 [J!,KI,KG,"asked"] [J!,KI,KG]%aR yl:=(y,y,y,Ie,y,Ie,Ie)
theorem aqa(o:5<=q)(κ:aW r T! T! yl W Q)(j:T3 r u I? Kq KZ)(k:ID l p r D A aB q OY [J!,KI,KG]%oM f u Z)(μ:ID l p r D A aB 3 R? Kd%xX f) (s:ID l p r D A aB 1 Py Kd%iD f qj):aJ l p r D A aB (q+1) W Q [J!,KI,KG]%qs f u Z (·= P4):=by show κ.ok aer (YD (g,ν,w,e,b,n,ξ,L,rfl,_)) λΔ T Θ Ξ G C ε τ β h=>?_;let (g,ν,w,e,b,n,ξ,L,rfl,rfl,i,γ,d,δ,a):=h;let v:=β.u o;show (_,ao (WK aer.nd (aH y)%aM μ (J1 Il) y aK%ae (aM k β y aK%ae (a8 bf (aC (pv 0) y) aF IB)%ae (pv 1)%ae (pv 2) aj) aj)%ao (bA (b9%aM s (J1 Il) y aK%ae (pv 3) aj) (ax%aI%pv 3) bM)%ax%aI%aM k β y aK%ae (a8 bf (aC (pv 0) y) (d? kS aF%pv 3) IB)%ae (pv 1)%ae (pv 2) aj,?_);dsimp only [bz,b?,bU,cc,tB,bX,cx];(let ο:I0=3:=_bT δ.wf this);unfold dS at d;let (Φ,X,Ψ,Ω,rfl,N,V,m):=d;rw [lA] at i;match L,ο with| [O,R,α],_=>let (za,π,p0):=m.get (i:=0) y;let (u1,B,ρ):=m.get (i:=1) y;let (zb,σ,E):=m.get (i:=2) y;let zc:=qr (A:=O) (L:= [O,R,α]) Ii;let zd:=qr (A:=R) (L:= [O,R,α]) Ii;let ze:=qr (A:=α) (L:= [O,R,α]) Ii;(let a:dH f g G (qV P4 [dG b n O,dG b n R,dG b n α]) ε:=by rw [dG,yo] at a;show a);show qu%qt (uS j (gv y) (γ _ _ N) (γ _ _ V) π gc) (gv y) (gv y) Ih γ p0 (NP Ii) λυ zf φ ζ χ=>(υ,φ,_,y,Ob,χ,Wn zg zh ψ η x);let t:=ζ.q η;show uI (gv y) η.y x (_,y,?_);cases c:hQ (dG b n O) with|bad zi=>rw [c] at x;rw [ap_ c] at a;show bu (_,y,a _ _ _ t x)|val zj=>rw [c] at x;let (zk,θ,ω,z,rfl):=E7 c;(let Γ:ψ= Id%Wp θ 1 0:=_F?);subst Γ;rw [ω,ap' z] at a;let sub:=t.y;show bt ?_;let ι:=Q9 PJ;cases θ with|true=>show qt (uS (q:=1) j (gv y) (sub _ _%PJ _ _ N) (sub _ _%PJ _ _ V) B λq a=>(_,y,_,_,y,y,a)) (gv y) (gv y) Ih sub (ρ.u PJ) (Qw Ii)%a.on t|false=>show qt (uS (q:=2) j (gv y) (sub _ _%PJ _ _ N) (sub _ _%PJ _ _ V) σ λq a=>(_,y,_,_,y,y,a)) (gv y) (gv y) Ih sub (E.u PJ) (Qw Ii)%a.on t
theorem E8:a0 [J!,KI,KG,"settling","first"] [J!,KI,KG]%aR ym:=(y,y,y,Ie,y,Ie,Ie)
theorem aqb(o:5<=q)(π:aW r T? T? ym W Q)(k:T3 r u I? Kq KZ)(m:ID l p r D A aB q OY [J!,KI,KG]%oM f u Z)(ι:ID l p r D A aB 3 R? Kd%xX f) (s:ID l p r D A aB 1 Py Kd%iD f qj):aJ l p r D A aB (q+1) W Q [J!,KI,KG]%qs f u Z (λd=>d= .and∨d= .or):=by show π.ok E8 (Yu g (G,ρ,w,e,a,n,d,L,rfl,_)) λzf T zg zh g C ε τ ζ h=>?_;let (G,ρ,w,e,a,n,d,L,rfl,γ,σ,δ,κ,η,b):=h;let v:=ζ.u o;show (_,ao (WK E8.nd (aH y)%l0 (d4 kT (aC (pv 0) y) cn%c' _) aF aF)%ao (Xd E8.nd (aH y)%aM ι (J1 Il) y aK%ae (aM m ζ y aK%ae (a8 bf (aC (pv 0) y) aF IB)%ae (pv 1)%ae (pv 2) aj) aj)%ao (bA (M'%m2 (b9%aM s (J1 Il) y aK%ae (pv 4) aj)%m1%eh%jF (pv 4)%pv 3) (ax%aI%pv 4) bM)%ax%aI%aM ι (J1 Il) y aK%ae (aM m ζ y aK%ae (a8 bf (aC (pv 0) y) aF IB)%ae (pv 1)%ae (pv 2) aj) aj,?_);dsimp only [bz,b?,bU,cc,tB,bX,cx,n?,tO];(let B:I0=2:=by have:=η.wf;unfold fB at this;rcases γ with rfl|rfl<;>show this.1);unfold dS at κ;let (zi,X,υ,zj,rfl,N,V,μ):=κ;rw [lA] at σ;match L,B with| [O,α],_=>let (zk,φ,p0):=μ.get (i:=0) y;let (u1,F,χ):=μ.get (i:=1) y;let zl:=qr (A:=O) (L:= [O,α]) Ii;let zm:=qr (A:=α) (L:= [O,α]) Ii;(let b:dH f G g (qV d [dG a n O,dG a n α]) ε:=by rw [dG,yo] at b;show b);show jR k (gv y) (δ _ _ N) ?_;rw [(aeq d).2.2.2.2.1];generalize i:(Wp (d= .and) (Wi 0) 1)=st;(let ψ:∀{E:L2.St} {R:VK},R (Id st) g->Ww (aT (d= .and)) (tC (Id 0) E g R)%tC (Id 1) E g R:=λ{E R} j=>by rcases γ with rfl|rfl;{rw [←i] at j;show bu j};{rw [←i] at j;show bt j});show ψ ?_;show qu%qt (uS k (gv y) (δ _ _ N) (δ _ _ V) φ gc) (gv y) (gv y) Ih δ p0 (η.y Ii) λω zn Γ ν Δ=>(ω,Γ,_,y,ν.y,Δ,Wn zo zp Θ ξ x);let t:=ν.q ξ;show uI (gv y) ξ.y x (_,y,?_);(let Ξ:qV d [dG a n O,dG a n α]=match hQ (dG a n O) with| .bad θ=> LC θ| .val (.num z)=>Wz z st (LH%N0 z) (hQ%dG a n α)| .val (.list υ)=>hQ (dG a n α):=by cases c:hQ (dG a n O) with|bad θ=>(rcases γ with rfl|rfl;{change (match hQ (dG a n O) with| .val (.num 0)=>ih ay| .val _=>hQ (dG a n α)| .bad q=> LC q)=_;rw [c]};{change (match hQ (dG a n O) with| .val (.num 0)=>hQ (dG a n α)| .val _=>ih ag| .bad q=> LC q)=_;rw [c]})|val z=>let (Φ,β,Ψ,Ω,rfl):=E7 c;rcases γ with rfl|rfl;{change (match hQ (dG a n O) with| .val (.num 0)=>ih ay| .val _=>hQ (dG a n α)| .bad q=> LC q)=_;rw [c,←i];cases β<;>rfl};{change (match hQ (dG a n O) with| .val (.num 0)=>hQ (dG a n α)| .val _=>ih ag| .bad q=> LC q)=_;rw [c,←i];cases β<;>rfl});rw [Ξ] at b;cases c:hQ (dG a n O) with|bad θ=>rw [c] at x b;show bu%bu (_,y,b _ _ _ t x)|val z=>rw [c] at x b;let (Φ,β,Ψ,Ω,rfl):=E7 c;(let za:Θ= Id%Wp β 1 0:=_F?);let sub:=t.y;let zb:=η.u PJ;subst za;generalize zq:(Ww β SN 0)=z at b x;let b:dH f G g (Wz z st (LH%N0 z)%hQ%dG a n α) ε:=b;show bt (_,y,_,y,_,_,y,y,_,y,cF JV JV);{rw [aA%cw h] at b;show (_,y,b _ _ _ t x)};{rw [au%dY%Mx h] at b;show qu%qt (uS k (gv y) (sub _ _%PJ _ _ N) (sub _ _%PJ _ _ V) F gc) (gv y) (gv y) Ih sub (χ.u PJ) (zb.y Ii) (λzc zr zd ο ze=>(zc,zd,_,y,ο.y,ze,(b.on t).on ο))}
def bE.snoc(h:cW g ζ zS)(p:bE g α zE):bE g (α++ [ζ]) (zE++ [zS]):=p.app (by unfold bE;show (h,_B4))
theorem yq:a0 [J!,KI,KG,Oa,"argument",MR] [J!,KI,KG]%aR yn:=(y,y,y,Ie,y,Ie,Ie)
theorem aqc(zg:5<=Z)(zw:q<=60)(zh:aW r Ua Ua yn W Q)(j:T3 r f I? Kq KZ)(zi:ID l p r D A aB Z OY [J!,KI,KG]%oM u f q)(zj:ID l p r D A aB 5 T' [I?,Oa]%E2 u) (B:ID l p r D A aB 1 Py Kd%iD u qj):aJ l p r D A aB (Z+1) W Q [J!,KI,KG]%qs u f q (λd=>sh d=ag∨oL d=ag):=by show zh.ok yq (YD (g,zk,o,ρ,b,n,d,L,rfl,_)) λzx T F zy G C ε τ σ h=>?_;let (g,zk,o,ρ,b,n,d,L,rfl,s,zl,υ,φ,χ,c):=h;let v:=σ.u zg;show (_,ao (WK yq.nd (aH y)%bZ aj)%ao (eB e0 y (et%aC (pv 0) y) (Wu 4 yq.nd%aH y)%ao (WS 5 yq.nd (aH y)%aM zi σ y aK%ae (pv 4)%ae (pv 1)%ae (pv 2) aj)%ao (bA (b9%aM B (J1 Il) y aK%ae (pv 5) aj) (ax%aI%pv 5) bM)%ax%bI%ea d9 fw fX fg (pv 3)%ae (pv 5) aj)%ax%aI%aM zj v y aK%ae (aC (pv 0) y)%ae (pv 3) aj,?_);dsimp only [bz,b?,bU];(let zm:mS d I0:=_bT χ.wf this);unfold dS at φ;let (ν,ψ,ω,zn,rfl,Γ,Δ,Θ):=φ;rw [lA] at zl;let zz:=aen L;let zo:=Θ.len;rw [dG,yo,ap9 s] at c;show (cj _,W8 ζ);let zp:=b1 υ ζ;let e:Go g G g (ak G a%Ig []) (·=a):= JI υ ζ;show ma%oI%nh (_,y,ν,f,ψ,_,_,y,e.y _ _ Γ,j.cl,j.a3,y,ω,y,(_,Iw%e.y _ _ Δ),hx (r:=r) (f:=ω) (α:=zn) (λi E ξ=>∃V ο m X C,E= [J%Ia ν,J%Ia o,J ρ,J%Ia a,V,ο]/\Go g G m ξ (·=a)/\m a=I/\ξ a=J%Ig X/\bE m X C/\(∀η∈C,fZ η)/\(NG%dG b n).Y i=Ou Aj) (I,I,g, [], [],y,e,zp,ar,_B4,OF,_Ea) (λi E ξ _ (_,_,m,_,_,_,w,_)=>Iw%w.y _ _%w.ext _ _ Δ) ?_ ?_);{rintro i zA E Ξ zq ⟨V,ο,θ,X,C,rfl,α,O,γ,ι,π,β⟩;let (η,N,zr):=Θ.at_ zq;let Φ:=cm N;let zB:=qr Φ;let Ψ:=(χ.y Φ).u α.ext;(let Ω:L'=i:=Zt dR j6 β);(let κ:Wg%NG%dG b n=J%dG b n η:=_Fm);dsimp only [bz,b?,bU,cc,tB,bX,cx,dq];show qt (G:=θ) (gv y) (gv y) (gv y) Ih α.y (zr.u α.ext) Ψ%Wn δ za zb k x;let t:Go g G δ za (·=a):=α.q%Sg λzc z=>OX;(let zd:δ a=I:=by cases ze:δ a with|none=>rfl|some zC=>rcases k.new _ _ ze with z|z|⟨zD,z⟩;{cbv};{cbv};{have:=JN _ _ ze;rw [z,k.ad _ _ γ id] at this;cases this});show uI (gv y) JN x (_,y,?_);cases S:dG b n η with|bad zE=>rw [S] at x κ;rw [aep β κ] at c;show bu (_,y,c _ _ _ (t.an%Xx zc z _Ga) x)|val z=>rw [S] at x κ;(let zs:fZ z:=by have:=Ψ.ok;rw [S] at this;show this);let zf:=k.ad _ _ γ id;let zt:Go g G δ (ak za a%Ig (X++ [zb])) (·=a):=t.q%Kb t.y y zd;show bt%h_ (gv y) zf (_,y,_,zf,?_,_,_,δ,X++ [zb],C++ [z],y,zt,zd,ar,(ι.u U7).snoc x,Wb zu H,?_);{have:=ι.len;have:=(I! N).1;show ec Ih};{lk};{rw [←LW κ,β,dW];rfl}};{rintro E Ξ ⟨V,ο,θ,X,C,rfl,α,O,γ,ι,π,β⟩;rw [zo,agB Io] at β;rw [β,(yp C).1,(yp C).2] at c;(let Ω:L'=I0:=Zt dR j6 β);let zv:Go g G θ Ξ bO:=α.an%Xx zc z _Ga;show (_,y,ν,f,ψ,_,_,y,α.y _ _%α.ext _ _ Γ,j.cl,j.a1,y,_,y,θ,a,X,C,d,y,s,by rw [Ω];show zm,Ih,γ,ι,π,α.y,c.on zv)}
theorem aes:a0 [J!,KI,KG] [J!,KI,KG]%aR yk:=(y,y,y,Ie,y,Ie,Ie)
theorem aqd(s:aW r OY OY yk W Q)(a:T3 r f I? Kq KZ)(z:ID l p r D A aB Z T! [J!,KI,KG]%qs u f q (·= P4))(w:ID l p r D A aB Z T? [J!,KI,KG]%qs u f q λd=>d= .and∨d= .or) (μ:ID l p r D A aB Z Ua [J!,KI,KG]%qs u f q λd=>sh d=ag∨oL d=ag):aJ l p r D A aB (Z+1) W Q [J!,KI,KG]%oM u f (q+1):=by show s.ok aes (YD (g,v,j,e,m,n,x,rfl,_)) λΘ T Ξ Φ G C ε τ L h=>?_;let (g,v,j,e,m,n,x,rfl,i,t,α,γ,c):=h;show (_,ao (bA (d4 kT (aC (pv 0) y) cn%c' _) (ax%aI%aC (pv 0) y) bM)%ao (bA (d4 kT (aC (pv 0) y) cn%c' _) (ax%aI%pv 2) bM)%ao (bA (d4 kT (aC (pv 0) y) cn%c' _) (ax%aI%w2 (u1 L) (pv 1) (aC (pv 0) y) IB) bM)%ao (bA (d4 kT (aC (pv 0) y) cn%c' _) (ax%aI%aM z L y aK%ae (pv 0)%ae (pv 1)%ae (pv 2) aj) bM)%ao (bA (M'%m2 (d4 kT (aC (pv 0) y) cn%c' _)%m1%d4 kT (aC (pv 0) y) cn%c' _) (ax%aI%aM w L y aK%ae (pv 0)%ae (pv 1)%ae (pv 2) aj) bM)%ax%aI%aM μ L y aK%ae (pv 0)%ae (pv 1)%ae (pv 2) aj,?_);dsimp only [bz,cc,tB,bX,cx,n?];(let Ψ:∀{b θ:ai} {ι κ:Ir} [_Dc ι],WY θ->κ->Ww (aT (b=θ)) ι κ:=λh ν=>Io);cases x with|num Z=>unfold dS at α;let (b,X,ζ,rfl,N,η):=α;show jR a (gv y) (t _ _ N) ?_;rw [b8 y];show bu (_,y,b,f,X,_,_,y,t _ _ N,Jg,a.a2,y,?_);have:=γ.wf;unfold fB at this;rw [dG,qk (Ih,this)] at c;show c.num t|own=>unfold dS at α;let (b,X,ζ,rfl,N,η):=α;show jR a (gv y) (t _ _ N) ?_;rw [bD Il];show bt%jR a (gv y) (t _ _ N) ?_;rw [b8 y];let (ξ,B,ο):=γ.ow _AI;rw [dG,qk (B,ο)] at c;subst ξ;show bu (_,y,c.num t)|occ o x=>unfold dS at α;let (b,X,ζ,Ω,rfl,N,η,π):=α;show jR a (gv y) (t _ _ N) ?_;rw [bD Il];show bt%jR a (gv y) (t _ _ N) ?_;rw [bD Il];show bt%jR a (gv y) (t _ _ N) ?_;rw [b8 y];let (za,hd,β):=γ.occ;let (O,ρ,σ,_):=β (o,x,) (by rw [px];show g0.mpr y);rw [dG] at c;show bu (_,y,_,y,b,f,X,_,_,y,t _ _ N,Jg,a.a2,y,j,O,y,?_,c _ _ _ (Ls t) σ);rw [←ρ];show f6.t (k:=jm (o,x,)) (t _ _ hd)%t _ _ π|app d E=>let υ:=α;unfold dS at α;let (b,X,ζ,zb,rfl,N,η,zc):=α;let (φ,χ,ψ,ω,Γ,Δ):=aeq d;show jR a (gv y) (t _ _ N) ?_;rw [bD φ];show bt%jR a (gv y) (t _ _ N) ?_;rw [bD χ];show bt%jR a (gv y) (t _ _ N) ?_;rw [bD ψ];show bt%jR a (gv y) (t _ _ N) ?_;rw [ω];let δ:∀{S:WI e6},S d->qs u f q S [Ia b, Ia j,e] G ε E0:=λh=>(g, Ia b,j,e,m,n,d,E,y,h,i,t,υ,γ,c);by_cases k:d= P4;{rw [b8 k];show bu (_,y,_,y,_,y,δ k)};rw [bD k];show bt%jR a (gv y) (t _ _ N) ?_;rw [Γ];by_cases β:d= .and;{rw [b8 β];show bu%bu (_,y,_,y,_,y,δ%Ik β)};rw [bD β];show bt%jR a (gv y) (t _ _ N) ?_;rw [Δ];by_cases V:d= .or;{rw [b8 V];show bu (_,y,_,y,_,y,δ%Iy V)};rw [bD V];show bt (_,y,_,y,_,y,δ ?_);cases d<;>first|show Ik y|show Iy y|show a' y k|show a' y β|show a' y V
structure aet(F:aE)(a:ai->Im ah):Ir where
 worth:iY F a OY yk [J!,KI,KG]
 uA:iY F a T! yl [J!,KI,KG]
 pair:iY F a T? ym [J!,KI,KG]
 op:iY F a Ua yn [J!,KI,KG]
theorem aeu(a:aet r D)(b:T3 r W I? Kq KZ)(c:ID l p r D A aB 3 R? Kd%xX u)(d:ID l p r D A aB 1 Py Kd%iD u qj)(o:ID l p r D A aB 5 T' [I?,Oa]%E2 u): ∀m:Iu,m<=60->ID l p r D A aB (2*m+5) OY [J!,KI,KG]%oM u W m|0,_=>a.worth.fn (λf Q g=>g.ok aes (YD (g,v,s,e,w,n,x,rfl,_)) (λz T B N G C ε τ L h=>by let (g,v,s,e,w,n,x,rfl,i,_):=h;have:=A6 x;lia))|m+1,h=>by let j:=aeu a b c d o m Ih;let k:=X? a.uA.fn f Q g%aqa Ih g b j c d;let q:=X? a.pair.fn f Q g%aqb Ih g b j c d;let t:=X? a.op.fn f Q g%aqc Ih Ih g b j o d;rw [Xo (2*(m+1)+5) (2*m+5+1+1)];show a.worth.fn λf Q g=>aqd g b k q t
abbrev uT:aS:=eP (IF 139) 0
abbrev E9:aS:=IF 140
abbrev E_:aS:=IF 141
abbrev yr:aS:=IF 142
abbrev ys:aS:=IF 143
abbrev yt:aS:=IF 144
abbrev E':aS:=IF 145
abbrev E!:aS:=IF 146
abbrev E?:aS:=IF 147
abbrev Fb:aS:=IF 148
abbrev uU:aS:=IF 149
abbrev Fc:aS:=IF 150
abbrev Fd:aS:=IF 151
abbrev Fe:aS:=IF 152
abbrev Ff:aS:=IF 153
abbrev Fg:aS:=IF 154
abbrev Fh:aS:=IF 155
abbrev yu:aS:=IF 156
abbrev yv:aS:=IF 157
def bx(l:Ib Iu):Ib V:=JZ λn:Iu=>Iz Jy
def hh(l:Ib Iu):(bx l).a=LP:=aQ ..
def sq(h:Wf ω=J Z):Wf%bx ω=J%Id%Wa Z:=by unfold bx;rw [bL,h];rfl
theorem uV(h:Wf%bx ω=J ζ):∃n:Nat,Wf ω=J n/\ζ= Id Jy:=by unfold bx at h;lk
def Fi(l:Ib Iu):(bx l).all jg=ag:=by unfold bx;rw [mA];intro x N;let (n,_,rfl):=Kl N;rfl
theorem Fj(a b:Nat):iW (Id%Wa a)%Id Ol=aT (a=b):=_ag (aT (Wc a=Ol)) _
theorem uW(n:Nat):YB Iu (gs (Id Jy)%bx l=aT (n∈l))| []=>by simp [bx,gs]|x::l=>by let c:=uW n l;unfold gs at c ⊢;change (iW (Id%Wa x)%Id Jy||(bx l).any (λA=>iW A%Id Jy))=_;rw [c,Fj,e_,oU,cU,cU,cU,b0];lk
theorem aqe(G:eU ι):(0::Ub).am:=_Ck (λh=>by have:=(G.cut 0 h).1;lia,G.nd)
theorem aqf(G:eU ι)(h:q∈0::Ub):(0::Ub)[gE ι q]?=J q:=by rcases b0.R h with rfl|h;{rw [G.root];rfl};{rw [wh ι UE];cases e:ι.cs.fd (λj=>j==q) with|none=>lk|some k=>let (g,D,_):=aw5.R e;cbv}
theorem aqg(G:eU ι)(l:Wf ι.x.ai=J zJ)(h:q∉0::Ub):∃m,zJ.ci=J m/\m<q/\gE ι q=gE ι m:=by let F:q≠0:=λz=>h _Gb;cases d:zJ.parent with|none=>show a' ((G.w.lV.root q zJ l).R d) F|some m=>show (m,y,UE q zJ m l d,?_);rw [wh ι UE];lk
def owners(P:bR):Ib Iu:=(ey _Bl).o%gE P
def f_(P:bR):Ib Iu:=(bB LB).o%b' P
def aev(j:GC)(q:aa):Sp:=λC H Q _=>∃F o A l,C= [Ia o, Ia A]/\IQ F H/\oE j q l.x.cr F o l.x.ai/\H A=J%Ig%bx (0::MA)/\eU l/\_AV<=60/\∀d G,Go F H F d bO->H G=I->d G=J%Ig%bx%Uc l->Q (Ia G) d
theorem yw:a0 [JD,LK,OZ,IL,Ka] [JD,LK]%aR E9:=(y,y,y,Ie,y,Ie,Ie)
theorem aqh(W:aW r VM VM E9 u Q)(κ:TN r f [Jv,IL,LI,JC,KQ])(B:D KW=I):aJ l p r D A aB 1 u Q [JD,LK]%aev θ f:=by show Jb yw (Wr E (F,o,a,l,rfl,_)) λΞ T L Φ H C E Z Ψ h=>?_;let (F,o,a,l,rfl,t,(X,μ,ν),q,G,Ω,b):=h;show (_,ao (Wq yw.nd (aH y)%bZ aj)%ao (eB e0 y (oo y B%ae (pv 0) aj) (m3 y%gO (Wu 3 yw.nd%aH y)%gO (Wu 4 yw.nd%aH y) l2)%ax%bA (d4 rS (pv 3) (pv 1) I5) (ax%bI%ea d9 fw fX fg (pv 2)%ae (ea d9 agC axR ab7 (pv 1)%ae (pv 3) aj) aj)%ax%bI%ea d9 fw fX fg (pv 2)%ae (a8 bf (pv 2) (aC (pv 4) y) IB) aj)%ax%aI%pv 2,?_);dsimp only [bz,b?,bU,bX];show (cj _,Y? β);let m:=b1 t β;let ξ:Go F H F (ak H α%Ig []) (·=α):= JI t β;let ο:=b4 ν;let φ:WZ α:=aU q β;show (_,y,o,_,y,Iw%ξ.y _ _ μ,sd (r:=r) (f:=o) (α:=X.o λs=>IP Kf) (λi c d=>∃x γ,c= [J%Ia o,J%Ia a,J%Ia α,x,γ]/\Go F H F d (·=α)/\d α=J%Ig%bx%(ey i).o%gE l) (I,I,y,ξ,ar) (λi c d _ (_,_,_,χ,_)=>Iw%χ.y _ _ μ) ?_ ?_);{rintro i za δ c M v ⟨x,γ,rfl,k,N⟩ π;rw [bL] at v;let (s,w,rfl):=LS v;let (ψ,j):=dg w ο.J;let ((zb,zc,zd,ze,ω,_),_):=dt ν w j;let zf:=(I! j).1;show (δ,_,y,Ju ar,y,_,_,y,_,_,y,y,?_);let Γ:Go F M F (ak M δ%IC [Id K8, Ia Kf]) (·=α):= JI JN π;let O:=Ma Γ;(let ε:ak M δ (IC [Id K8, Ia Kf]) α=J%Ig%bx%(ey i).o%gE l:=X1%aU N π);let ζ:=O.ad _ _ q φ;generalize ak M δ (IC [Id K8, Ia Kf])=ρ at O ε ζ;(let σ:∀{R:TE} {z:L2.St},z= [J%IP o,J%Ia a,J%Ia α,J%Id K8,J%Ia Kf]->IA R z ρ%Id%ZR gE l i->p4 r JT p5 (bH 2) (bP R bY) z ρ%Wv d (∃x γ,z= [J%IP o,J%Ia a,J%Ia α,x,γ]/\Go F H F d (·=α)/\d α=J%Ig%bx%(ey (i+1)).o%gE l):=λ{R z} e g=>by subst e;show h_ (gv y) ε%g _ (_,ε,?_,_,_,y,MU%Kb J2 y m,?_);{rw [hh,aQ,o7];show ec Ih};{rw [ar,qR,dW];unfold bx;rw [dW];rfl});dsimp only [cc,hy,dq];show (_,y,_,y,a,_,y, Ik%Iw ζ,y,Fi _,_,y,?_);change WW%gs (Id K8)%bx (0::MA);rw [uW];show cF JV JV;{let h:=cw h;let τ:=aqf G h;show σ y λzg b=>(_,y, Ik (y,_,Iw ζ),_,y,a,_,_,gE l i, Id K8,y,y,Iw ζ,y,Fi _,sq τ,by rw [Fj];show b8 y,Wj Δ η υ Θ,b);let (zh,ι,rfl):=uV Θ;rw [Fj];show bD%We η;rw [η] at ι;have:=(mI (I! ι).1%aqe G).R%ι.q τ.J;lia};{let h:i∉0::MA:=dY%Mx h;let (Δ,υ,n,e):=aqg G j h;show σ y ?_;rw [e];show cX (gv y) ε (sq (by rw [bL,vi n];rfl))%gf (gv y) (J2 _ _ ω) κ.cl (κ.no _ Ii) (by change J%x2 ψ.ci=_;rw [υ];rfl)}};{rintro c M ⟨x,γ,rfl,k,N⟩;rw [aQ,ο] at N;show (_,y,b M α (Sg%Xx zi η (by rw [η];show β)) β N)}
def aew(j:GC)(L:aa):Sp:=λC H Q _=>∃F c lo l i,C= [c, Ia lo]/\IQ F H/\T9 j L IW F c i/\H lo=J%Ig%bx%Uc l/\eU l/\i∈bB IW/\Q (Id%X2 l i) H
theorem aqi:a0 [JJ,OZ] [JJ,OZ]%aR E_:=(y,y,y,Ie,y,Ie,Ie)
theorem aqj(W:aW r VN VN E_ u Q)(T:TN r f [Ka,K6,Nv,LJ,PB]):aJ l p r D A aB 1 u Q [JJ,OZ]%aew θ f:=by show Jb aqi (WV (F,o,lo,l,i,rfl,_)) λc R w s H C b Z α h=>?_;let (F,o,lo,l,i,rfl,t,(j,X,β,m,B,rfl,N,g,hd),V,G,q,k):=h;show (_,ao (bA (eh%lZ%aC (pv 0) y) (ax%aI aF) bM)%ax%aI%a8 bf (pv 1) (aC (pv 0) y) IB,?_);dsimp only [bz,cc,tB,bX,cx];show (_,y,j,f,X,_,_,y,t _ _ N,Si,Sj _ Ii,y,_,y,?_);unfold hJ at g;unfold b' at k;cases a:ig l.x i with|none=>rw [a] at g k;let (rfl,rfl):=g;show bu k|some M=>let (n,e):=M;rw [a] at g k;let ((γ,δ,z,d,rfl,ε,_),rfl):=g;let (x,ζ,E,O,_):=G.w.rule q a;let v:=(I! O).1;show bt%cX (gv y) V (sq (q:=n) (by unfold owners;rw [bL,vi v];rfl)) (gf (gv y) (t _ _ N) Si (Sj _ Ii) y) _ k
end TW
namespace L2
open PySem PySem.Spec PyProof.Rows
theorem aex(Pv:Ng)(F:Pv 0 E g)(a:∀i E g,i<=KP->Pv i E g->g f=J%Jd ze%I9 zi) (P:∀i k x E g,V!=J Rs->Pv i E g->zy x E g (λr n=>zK (Xy (Pv (i+1))%Pv (i+1)) r n)) (hd:∀E g,Pv KP E g->MM E g): ∃W:Iu->Ng,Y7 (∃m,W 0 m E g) (W i m E g->((sk f ze zi).f1 i g/\MM E g)∨((sk f ze zi).go i g/\YW (∀z d,N z d->∃Z,Z<m/\W (i+1) Z z d) ((sk f ze zi).iu i g x d->zy x E d (λr n=>zK (Xy N N) r n)))):=by show (λi m E g=>m=KP - i/\i<=KP/\Pv i E g,(KP,Ii,cj _,F),?_);rintro i m E g ⟨rfl,l,p⟩;let q:=a i E g l p;by_cases t:i<KP;{show Iy ((q,t),Pv (i+1),WP z Q (KP - (i+1),Ih,y,t,Q),P0);let (rfl,k,b):=A;cbv};{(let e:i=KP:=Ih);subst e;show Ik ((q,bj _),hd E g p)}
def Fk(h:g f=J za)(mu:lY%J za)(k:∀l,zK (λz d=>d f=J%Jd l za/\MM z%ak d f za,λv d=>d f=J%Jd l za/\zv.rt v%ak d f za,λz d=>d f=J%Jd l za/\zv.bk z%ak d f za,λz d=>d f=J%Jd l za/\zv.ct z%ak d f za) E%ak g f%Jd l za):ack zK zv E g:=(f,za,h,mu,k)
def aey{o Q:HO}(h:g f=J za)(n:u≠f):ak (ak (ak g f o) u Q) f za=ak g u Q:=by funext b;by_cases e:b=f;{subst e;rw [ar,aq λz=>n z.J,h]};{rw [aq e];by_cases Z:b=u;{subst Z;rw [ar,ar]};{rw [aq Z,aq Z,aq e]}}
def aez{a:Rl}(h:R E g λx M=>∃f o j,x= Ia f/\M f=J%Jd o%I9 j/\a (sk f o j) M):E4 R E g a:=h
end L2
namespace TW
open PySem PySem.Spec PyProof.Rows L2
def eJ(W:dD)(i:bT):Ib bT:=match ig W i with|I=> []|J (n,e)=>(dU [] Oo).o (gi W n)
theorem aeA(W:dD)(i:bT):(d6 W i).o (·.2)=bx%(eJ W i).o%ix W:=by unfold d6 eJ bx;cases ig W i with|none=>rfl|some D=>cbv
theorem Fl{B:Ib be}(h:Wf%d6 zh Θ=J (B,ζ,)):∃M,Wf%eJ zh Θ=J M/\ζ= Id%Yl zh M:=by (have:Wf%(d6 zh Θ).o (·.2)=Wf%bx%(eJ zh Θ).o%ix zh:=by rw [aeA]);rw [bL,h] at this;let (n,D,R):=uV this.J;lk
def Fm(W:dD)(i:bT):(d6 W i).a=(eJ W i).a:=by have:=dR j6%aeA W i;rwa [aQ,hh,aQ] at this
theorem aeB(x:bT):YB bT (x∈sW l↔x∈l)| []=>by rw [sW]|A::l=>by rw [sW,b0,b0,jo,aeB x l];lk
theorem oN(W:dD)(i M:bT):M∈eJ W i↔M∈j8 W i:=by unfold eJ j8;cases ig W i with|none=>show sU|some D=>let (n,e):=D;change M∈(dU [] Oo).o%gi W n↔M∈sW%e.ce.o%gi W n;rw [aeB,b6,b6];constructor;{rintro ⟨o,S,rfl⟩;show (o,((k! Oo [] o).R S).dz Ii,y)};{rintro ⟨o,S,rfl⟩;show (o,Ws (k! Oo [] o)%Iy S,y)}
def yx(G:NB zh)(t:Θ∈bB zh)(X:zZ∈eJ zh Θ):zZ∈bB zh:=by let (_,_,_,_,_,_,_,_,_,_,_,_,_,h,_):=G.named t%(oN zh Θ zZ).R X;show h
theorem aeC(G:NB zh)(h:zh.ai.a<=60){r:Ib eo}(k:mb zh r):YF (bB zh).a:=by rw [aiH];have:=EV G k zh.ai.a%bj _;lia
def ll(P:bR)(M:bT):V:=match (ey%b3 P).bn (λw=>w !=b' P M && s6 (o_ P) w M) with| []=> IK|w::_=> Id (Wa w)
def jS(P:bR):Ib V:=(bB LB).o%ll P
def jT(P:bR)(G:WF bT bT)(f:Ib V):Ir:=Mw=(bB LB).a/\∀(q:Nat) M,Wf%bB LB=J M->(Wf f=J IK/\∀O,G O M->b' P O=b' P M)∨∃O,G O M/\b' P O≠b' P M/\Wf f=J%Id%X2 P O
def jT.iff{G q:WF bT bT}(h:jT ι G α)(e:∀O M,G O M↔q O M):jT ι q α:=by obtain rfl:G=q:=mH λO=>mH λM=>propext%e O M;show h
def jT.all(G:eU ι)(h:jT ι (λO M=>O∈bB J5/\M∈eJ J5 O) α):α=jS ι:=by show Al%We q;unfold jS;rw [bL];cases X:(bB ι.x)[q]? with|none=>have:=ax8.R X;rw [Ax (by rw [h.1];show this)];rfl|some M=>rcases h.2 q M X with ⟨D,R⟩|⟨O,⟨D,R⟩,a,T⟩;{rw [D];change J V.aV=J%ll ι M;unfold ll;rw [abf λO t b=>R O (t,Ws (oN _ _ _) b)]};{rw [T];change J _=J%ll ι M;unfold ll;rw [abg G D ((oN _ _ _).R R) a]}
theorem jT.step{G:WF bT bT}(h:jT ι G α)(X:Θ∈bB J5)(e:b' ι zZ=b' ι Θ):jT ι (λa b=>G a b∨(a=zZ/\b=Θ)) α:=by show (h.1,Wd q b W);rcases h.2 q b W with ⟨D,R⟩|⟨a,D,R,c⟩;{lk};{lk}
theorem jT.put{G:WF bT bT}(h:jT ι G α)(X:Θ∈bB J5)(e:b' ι zZ≠b' ι Θ):jT ι (λa b=>G a b∨(a=zZ/\b=Θ))%α.set (ix J5 Θ)%Id%X2 ι zZ:=by show (by rw [vl];show h.1,Wd q b W);let (rfl,c):=jb W;by_cases z:b=Θ;{subst z;show Iy (zZ, Iy (y,y),e,?_);rw [vp%X0 h.1%Bp X]};{let d:ix J5 Θ≠ix J5 b:=λA=>z%wg c X A.J;rw [vq d];rcases h.2 _ b W with ⟨D,R⟩|⟨a,D,R,g⟩;{cbv};{lk}}
def aeD(j:GC)(L:aa):Sp:=λC H Q _=>∃F g n l,C= [Ia g, Ia n]/\IQ F H/\hG (T9 j L IW) F g%bB IW/\F n=J%Ig%bx%f_ l/\eU l/\YF (bB IW).a/\∀d G,Go F H F d bO->H G=I->d G=J%Ig%jS l->Q (Ia G) d
theorem sr:a0 [Lu,O0,VO,IL,JJ,I2] [Lu,O0]%aR yr:=(y,y,y,Ie,y,Ie,Ie)
theorem Fn(h:q<Z):kW Z%Wc q=J q:=_E3
def yy(h:Wf%bB J5=J Θ):Wf%f_ ι=J%b' ι Θ:=by unfold f_;rw [bL,h];rfl
theorem aqk(W:aW r VP VP yr u Q)(T:TN r f [Ka,K6,Nv,LJ,PB])(zb:D KW=I):aJ l p r D A aB 1 u Q [Lu,O0]%aeD θ f:=by show Jb sr (Xv zc zd Z (F,g,ε,l,rfl,_)) λzo zp zq s H zc zd Z zr h=>?_;let (F,g,ε,l,rfl,τ,(ze,υ,Ξ),φ,G,zs,Φ):=h;show (_,ao (p7 (q:=2) (e:= [(JJ,4,)]) y _AW y y (p8 y y y y) (et%pv 0) (Xf [Lu,O0,VO,IL,JJ,I2] (aR yr) JJ 4 (y,Ie,Ie,Ie,Ie)) (Xc 4 _AW%aH y) NX%Xk iT)%ao (eB e0 y (oo y zb%ae (pv 0) aj) (m3 y%gO (Wu 3 _AW%aH y)%gO (Wu 4 _AW%aH y) l2)%ax%Cf%eB e0 y (E5%aC (pv 4) y) (Wu 5 _AW%aH y)%ax%bA (eh%ajk (a8 bf (pv 1) (pv 5) IB)%a8 bf (pv 1) (pv 3) IB) (ax%ajw (a8 bf (pv 1) (pv 3) IB)%ajv (pv 2) (pv 5) akq) bM)%ax%aI%pv 2,?_);dsimp only [bz,bX];let χ:=b4 Ξ;show qm (r:=r) (z1:=(bB IW).o%Wx V.aV) (gv y) (τ _ _ υ) (by rw [aQ,χ]) (f9 Ih) (λi Ψ zt o zu ψ Ω q=>?_)%Wb o q;{rw [bL] at Ω;let (_,_,rfl):=LS Ω;show gc};let m:=b1 τ q;let v:Go F H F (ak H o%Ig%(bB IW).o%Wx V.aV) (·=o):= JI τ q;show (_,y,g,_,y,Iw%v.y _ _ υ,sd (r:=r) (f:=g) (α:=ze) (λn c d=>∃x ω β a,c= [J%Ia g,J%Ia ε,J%Ia o,x,ω,β]/\Go F H F d (·=o)/\d o=J%Ig a/\jT l (λO M=>O∈(bB IW).Y n/\M∈eJ IW O) a) (I,I,I,_,y,v,ar,by rw [aQ],λΦ M X=> Ik (_Gc,λO t=>Io)) (λi c d _ (_,_,_,_,_,zf,_)=>Iw%zf.y _ _ υ) ?_ ?_);{rintro n Ψ Γ c μ ψ ⟨x,ω,β,a,rfl,k,N,ν⟩ w;let (O,t):=dg ψ χ.J;let (ζ,zg,zv,zw,γ,rfl,zh,zx,hd):=dt Ξ ψ t;let zi:=cm t;show (Γ,_,y,Ju ar,y,_,_,y,_,_,y,y,?_);let η:=Ma%ZD IC [Id Jy, Ia ζ] JN w;(let ξ:ak μ Γ (IC [Id Jy, Ia ζ]) o=J%Ig a:=X1%aU N w);generalize ak μ Γ (IC [Id Jy, Ia ζ])=ο at η ξ;let ι:=η.y _ _ hd;let B:=η.y _ _ zh;let E:=η.y _ _ φ;(let π:o≠γ:=JO);(let ad:ζ≠γ:=JO);(let ld:ε≠γ:=JO);(let zj:ε≠o:=JO);show Fk ι fO λj=>ma%aez%nh (_,y,ζ,f,zg,_,_,y,_bw aq ad,Si,Sj _ Ii,y,γ,j,_,y,ar,aex (f:=γ) (ze:=j) (zi:=d6 IW O) (λρ c d=>∃β a,c= [J%Ia g,J%Ia ε,J%Ia o,J%Id Jy,J%Ia ζ,β]/\d=ak (ak ο γ%Jd j%I9%d6 IW O) o%Ig a/\jT l (WO M ((α∈(bB IW).Y n/\M∈eJ IW α)∨(α=O/\M∈(eJ IW O).Y ρ))) a) (β,a,y,(mH (λδ=>by by_cases e:δ=o;{subst e;rw [ar,aq π,ξ]};{rw [aq e]})),ν.iff%WO M Ii) (λi c d _ (_,_,_,e,_)=>by rw [e,aq π.J,ar]) ?_ ?_);{rintro ρ zy Ψ c zk zl ⟨β,b,rfl,rfl,κ⟩;let (M,X,rfl):=Fl zl;let σ:=yx G.w zi%cm X;(let zm:ak (ak ο γ%Jd j%I9%d6 IW O) o (Ig b) ε=J%Ig%bx%f_ l:=by rw [aq zj,aq ld];show E);let Δ:∀{i:Nat} {z:bT} {C:TE} {Θ:L2.St},Wg%bB IW=J z->Θ[1]?=J%J%Ia ε->IA C Θ (ak (ak ο γ%Jd j%I9%d6 IW O) o%Ig b)%Id K8->IA (cR (dM r) (bH 1) C) Θ (ak (ak ο γ%Jd j%I9%d6 IW O) o%Ig b)%Id%X2 l z:=λL R zn=>cX (gv R) zm (sq%yy L) zn;(let za:∀α δ,((α∈(bB IW).Y n/\δ∈eJ IW α)∨(α=O/\δ∈(eJ IW O).Y ρ))∨(α=O/\δ=M)↔(α∈(bB IW).Y n/\δ∈eJ IW α)∨(α=O/\δ∈(eJ IW O).Y (ρ+1)):=WO δ (by rw [←LW X,d7,g0,or_assoc];lk));dsimp only [bU,cc,tB,cx,b?,abz];show Δ (lW σ) y (gv y) _%Δ t y (gv y) _ (_,_,y,y,_,y,cF JV JV);{(let h:b' l M≠b' l O:=JO);show Δ t y (gv y) _ (_,y,_,y,o,_,_,ix IW M,y,y,ar,?_,_,b.set (ix IW M)%Id%X2 l O,y,by rw [dE],(κ.put σ h.J).iff za);show Fn%X0 κ.1%Bp σ};{(let h:b' l M=b' l O:=IZ);show (_,b,y,y,(κ.hz σ h.J).iff za)}};{rintro c zk ⟨β,b,rfl,rfl,κ⟩;show Wt (by rw [aq π.J,ar]);rw [aey ι π];show (_,_,β,b,y,η.q%Kb η.y y m,ar,κ.iff%Y? M);rw [←LW t,d7,g0,Fm,fz];lk}};{rintro c μ ⟨x,ω,β,a,rfl,k,N,ν⟩;rw [χ,fz] at ν;rw [ν.all G] at N;show (_,y,Φ μ o (Sg%Xx δ z (by rw [z];show q)) q N)}
theorem aeE{f s:Jc}{E:f->s}:∀{l:Ib f},(∀a∈l,∀b∈l,E a=E b->a=b)->l.am->(JZ E).am| [],_,_=> IR|x::l,h,F=>by rw [dJ,gg];let F:=Td F;show (ME,aeE (λa N b W=>h a (cL _ N) b%cL _ W) F.2);lk
theorem aeF(G:NB zh)(t:Θ∈bB zh):(eJ zh Θ).am:=by unfold eJ;cases D:ig zh Θ with|none=>show IR|some c=>let (n,e):=c;let (x,p,r,N,d,L,rfl):=G.rule t D;show aeE (λa f b g z=>G.aa3 N d L ?_ ?_ z)%uQ S2 [] IR;{show ((k! _ [] a).R f).dz Ii};{show ((k! _ [] b).R g).dz Ii}
def gD(W:dD)(l:Ib bT)(M:bT):Ib Iu:=(QN λO=>aT (M∈eJ W O)).o%ix W
theorem aql(W:dD)(l:Ib bT)(O M:bT):gD W (l++ Kk) M=gD W l M++(Wp (M∈eJ W O) [ix W O] []):=_Gd
def mc(W:dD)(H:Hp)(s:Ib aa)(b:bT->Ib Iu):Ir:=∀(q:Nat) M,Wf%bB W=J M->∃a,Wf s=J a/\H a=J%Ig%bx%b M
def mc.put{c:bT->Ib Iu}(h:mc zh g zl c)(F:zl.Nodup)(X:Θ∈bB zh)(N:zl[ix zh Θ]?=J f)(n:Nat):mc zh (ak g f%Ig%bx (c Θ++ MX)) zl%Yp b b Θ (c b++ MX)%c b:=by intro q b d;let (rfl,a):=jb d;let (j,D,R):=h _ b d;dsimp only;by_cases e:b=Θ;{subst e;rw [D] at N;cases N;show (f,D,by rw [ar,aA y])};{show (j,D,?_);rw [au e,aq ME];{show R};{subst z;show e%wg a X%(mI (I! D).1 F).R%D.q N.J}}
theorem Go.same(c:Go g σ g Γ zT)(h:∀b,WR zl->G b=Γ b)(t:∀b∈zl,zT b/\g b=I/\G b≠I):Go g σ g G zT:=by show (YE o,c.ext,c.new,XG b m,XO e);{rw [h b JO];show c.y b o e};{rw [h b λz=>m (t b z).1];show T_ b o e m};{let a:WR zl:=λz=>(t b z).2.2 e;rw [h b a] at e;show Ud b e}
def aeG(j:GC)(L:aa):Sp:=λC H Q _=>∃F g W,C= [Ia g]/\IQ F H/\hG (T9 j L W) F g%bB W/\NB W/\YF (bB W).a/\∀c d G s,Go F H c d bO->c G=J%Ig%s.o IP->mc W c s%gD W%bB W->Q (Ia G) d
theorem su:a0 [Lu,Sl,IL,JJ,I2] [Lu]%aR ys:=(y,y,y,Ie,y,Ie,Ie)
theorem aqm(zs:aW r VQ VQ ys u Q)(T:TN r f [Ka,K6,Nv,LJ,PB])(zt:D KW=I):aJ l p r D A aB 1 u Q [Lu]%aeG θ f:=by show zs.ok su (Wr L (F,g,W,rfl,_)) λzI zJ zK zL H C L Z zM h=>?_;let (F,g,W,rfl,t,(zg,π,zh),G,zN,δ):=h;show (_,ao (p7 (q:=1) (e:= [(JJ,3,)]) y _AX y y (p8 y y y y) (et%pv 0) (Xf [Lu,Sl,IL,JJ,I2] (aR ys) JJ 3 (y,Ie,Ie,Ie,Ie)) (Xc 3 _AX%aH y) NX%XY bZ aj)%ao (eB e0 y (oo y zt%ae (pv 0) aj) (m3 y%gO (Wu 2 _AX%aH y)%gO (Wu 3 _AX%aH y) l2)%ax%Cf%eB e0 y (E5%aC (pv 3) y) (Wu 4 _AX%aH y)%ax%bI%ea d9 fw fX fg (a8 bf (pv 1) (pv 4) IB)%ae (pv 2) aj)%ax%aI%pv 1,?_);dsimp only [bz,bX];let e:=b4 zh;show qo%oI (_,y,g,y,(_,Iw%t _ _ π),λβ ν=>oj (r:=r) (u:=g) (α:=zg) (λi d=>∃s:Ib aa,s.a=i/\d β=J%Ig%s.o IP/\Go F H F d (·=β)/\(∀γ∈s,H γ=I/\γ≠β/\d γ=J%Ig [])/\s.am) ([],y,ar, JI t ν,OF, IR) (λi d _ (_,_,_,Ξ,_)=>Iw%Ξ.y _ _ π) ?_ ?_);{rintro i zi ρ j ⟨s,σ,τ,k,η,Φ⟩;let zO:=(I! j).1;show (y,kg (cj _,Wb v w));(let Ψ:v≠β:=JO);let ι:=Ma%XH [] JN w;(let κ:ak ρ v (Ig []) β=J%Ig%s.o IP:=by rw [aq Ψ.J];show τ);show (_,κ,ZY ec Ih,XE s,by rw [cG,σ];rfl,_Cn,ι.q%Kb Qw y%b1 t ν,Wb γ N,?_);{rcases d7.R N with N|N;{let (zu,zj,zk):=η γ N;show (zu,zj,by rw [aq zj,aq%aU zk w];show zk)};{rw [T4 N];show (k.bg _ w,Ψ,W5 Ψ)}};{lk}};rintro ρ ⟨s,σ,τ,k,η,Φ⟩;let zP:=b1 t ν;let zl:∀α∈s,F α=I:=WO ε%b1 t (η α ε).1;(let zv:mc W ρ s (gD W []):=λδ M X=>by let (γ,N):=dg X%σ.q e;show (γ,N,(η γ%cm N).2.2));let zw:Go F H F ρ (WE (α=β∨α∈s)):=k.bv%_bt Ik z;let zm:β∉s:=λz=>(η β z).2.1 y;show (_,y,g,_,y,Iw%JN _ _ π,sd (r:=r) (f:=g) (α:=zg) (λn c d=>∃Ω x ζ,c= [J%Ia g,J%Ia β,Ω,x,ζ]/\Go F H F d%WE (α=β∨α∈s)/\d β=J%Ig%s.o IP/\mc W d s%gD W%(bB W).Y n) (I,I,I,y,zw,τ,by rw [iI];show zv) (λi c d _ (_,_,_,_,Ξ,_)=>Iw%Ξ.y _ _ π) ?_ ?_);{rintro n zx υ c ξ j ⟨Ω,x,ζ,rfl,q,o,φ⟩ B;let (O,χ):=dg j e.J;let (γ,zy,zQ,zR,a,rfl,N,zS,hd):=dt zh j χ;let zn:=cm χ;let zz:=(jb χ).1;show (υ,_,y,Ju ar,y,_,_,y,_,_,y,y,?_);let ι:=q.q%ZD IC [Id Jy, Ia γ] q.y B;(let κ:ak ξ υ (IC [Id Jy, Ia γ]) β=J%Ig%s.o IP:=_bv aq%aU o B);(let zo:mc W (ak ξ υ%IC [Id Jy, Ia γ]) s (gD W%(bB W).Y n):=λδ M X=>by let (α,b,R):=φ δ M X;show (α,b,by rw [aq%aU R B];show R));generalize ak ξ υ (IC [Id Jy, Ia γ])=zp at ι κ zo;let ψ:=Qw _ _ hd;let za:=Qw _ _ N;(let zA:β≠a:=JO);(let ad:γ≠a:=JO);(let ω:a∉s:=JO);show Fk ψ fO λzb=>ma%aez%nh (_,y,γ,f,zy,_,_,y,by rw [aq ad];show za,Si,Sj _ Ii,y,a,zb,_,y,ar,aex (f:=a) (ze:=zb) (zi:=d6 W O) (λzc c d=>∃ζ,c= [J%Ia g,J%Ia β,J%Id Jy,J%Ia γ,ζ]/\(∀α,α∉s->d α=ak zp a (Jd zb%I9%d6 W O) α)/\mc W d s (λM=>gD W ((bB W).Y n) M++(Wp (M∈(eJ W O).Y zc) MX []))) (ζ,y,IB,λδ M X=>by let (α,b,R):=zo δ M X;show (α,b,?_);rw [aq λz=>ω Io,R];simp) (λi c d _ (_,_,zB,_)=>by rw [zB a ω,ar]) ?_ ?_);{rintro zc zT zx c Γ zC ⟨ζ,rfl,ο,Δ⟩;let (M,X,rfl):=Fl zC;let zq:=yx G zn%cm X;let (α,zd,Θ):=Δ _ M%lW zq;(let zD:Γ β=J%Ig%s.o IP:=by rw [ο β zm,aq zA];show κ);(let ze:M∉(eJ W O).Y zc:=λz=>by let (i,μ):=JM z;rw [Ad] at μ;split at μ;{have:=(mI (I! X).1%aeF G zn).R%X.q μ.J;lia};{cases μ});dsimp only at Θ;rw [au ze,fo] at Θ;dsimp only [bU,dq];show h_ (cX (gv y) zD (by rw [bL,zd];rfl)%gv y) Θ (_,y,_,Θ,?_,_,y,Wb zi E,?_);{rw [hh];unfold gD;rw [aQ];have:=sQ (λO=>aT (M∈eJ W O))%(bB W).Y n;rw [ho] at this;show ec Ih};{rw [aq λz=>E IZ];show ο zi E};{have:=Δ.put Φ zq zd n;simp only [au ze,fo] at this;(let zE:bx%gD W ((bB W).Y n) M++ [Iz Jy]=bx (gD W ((bB W).Y n) M++ MX):=_Ge);rw [zE];intro δ zf zF;let (zG,b,R):=this δ zf zF;show (zG,b,R.q ?_);congr 3;rw [←LW X];lk}};{rintro c Γ ⟨ζ,rfl,ο,Δ⟩;show Wt (by rw [ο a ω,ar]);(let same:∀α,α∉s->ak Γ a (I9%d6 W O) α=zp α:=WO ε (by by_cases z:α=a;{rw [z,ar,ψ]};{rw [aq z,ο α ε,aq z]}));(let zr:mc W (ak Γ a%I9%d6 W O) s (gD W%(bB W).Y (n+1)):=λδ M X=>by let (α,b,R):=Δ δ M X;show (α,b,?_);rw [aq λz=>ω IZ,R,←LW χ,aql,Fm,fz,zz]);show (_,_,ζ,y,ι.h0 same%WO ε (Iy ε,zl α ε,?_),Io,zr);let (i,μ):=JM ε;let (M,X):=dg μ (σ.q e).J;let (zf,b,R):=zr i M X;cbv}};{rintro c ξ ⟨Ω,x,ζ,rfl,q,o,φ⟩;rw [e,fz] at φ;let (zH,zU,m):=(q.an (M:=bO)%YG%OX (λz=>_Gf) λz=>(η α z).1).jk (WE (α=β∨α∈s))%WO z%OX (λz=>_Gf) λz=>(η α z).1;show (_,y,δ _ ξ β s zH (m _ _ (Ik y) o) (λδ M X=>by let (α,b,R):=φ δ M X;lk))}
structure WX where
 c:GC
 T:aa
 I:aa
 N:aa
 W:aa
 M:aa
 F:aa
structure WT(K:aE)(a:WX):Ir where
 g:TG K a.c
 t:TN K a.T [JD,J?,NU,Lu]
 i:TN K a.I [Ka,K6,Nv,LJ,PB]
 n:TN K a.N [Jv,IL,LI,JC,KQ]
 w:TN K a.W [Jn,OZ,O0,VO,Sl,MB,PD,_Cx]
 m:TN K a.M [NT,Na,JJ,MR]
 p:T3 K a.c.p I? Kq KZ
structure md(a:WX)(W:dD)(F:Hp)(R:aa)(o O k g:aa)(r:Ib eo):Ir where
 obj:∃X,F R=J%Iq a.T X%fT o O k g
 nodes:oE a.c a.N QO F o W.ai
 syms:hG (f7 a.c) F O r
 so:mb W r
 firsts:F k=J%Ig%la W
 insts:hG (T9 a.c a.I W) F g%bB W
def md.mono{a:WX}{W:dD}{F c:Hp}{R o O k g:aa}{r:Ib eo}(t:md a W F R o O k g r)(h:∀b d,F b=J d->c b=J d):md a W c R o O k g r:=(let (X,e):=t.obj;(X,h _ _ e),t.ai.u h,t.b8.u (Xb h) h,t.so,h _ _ t.firsts,t.insts.u (Xb h) h)
structure WD where
 dx:aa
 ta:aa
 lo:aa
 lh:aa
 lr:aa
 lu:aa
 lk:aa
 lm:aa
 ln:aa
 qw:aa
 lf:aa
 li:aa
 ss:Ib eo
 h!:Ib aa
 yz:Ib aa
def fW(f:WD)(n:Nat):Ib K1:= [_bY f.ta,_b1 f.lo,_b_ f.lh,_b? f.lr,_cr f.lu,(MB, Ia f.lk,),(PD, Ia f.lm,),(_Cx, Id Jy,)]
def ni(a:WX)(W:dD)(F H:Hp)(X:aa)(m:pD):Ir:=∃j:Ib KJ,H X=J%JK j/\F X=I/\(m.o (·.1)).am/\cN (λ(g:be × V) (c:bT × dk)=>Lx= Ik%W9 W c.1/\eY a.F F g.2 c.2/\ez c.2/\c.1∈bB W) j m.ca
def fM(o:iJ)(W:dD)(v:V):Ib K1:= [(NT, Id%Wa o.src,),(Na, Id%Wa o.dst,),(JJ, Id%Yl W o.U,),W2 MR]
def sv(a:WX)(P:bR)(F:Hp)(v:V)(o:iJ):Ir:=∃b X d,v= Ia b/\F b=J%Iq a.M X%fM o LB d/\eY a.F F d o.out/\ez o.out/\o.U∈bB LB/\o.dst<b3 P
structure sx(a:WX)(P:bR)(F:Hp)(f:WD):Ir where
 gp:eU P
 n60:_Bl<=60
 wf:n6 P.x.cr
 nums:∀i∈P.world.nodes,Of<=P'/\Xz P'
 tree:md a LB F f.ta f.ln f.qw f.lf f.li f.ss
 owners:F f.lo=J%Ig%bx%TW.owners P
 me:F f.lh=J%Ig%bx%f_ P
 jS:F f.lr=J%Ig%TW.jS P
 aeH:F f.lu=J%Ig%f.yz.o IP
 us:mc LB F f.yz%gD LB%bB LB
 known:F f.lk=J%Ig%f.h!.o IP
 nd:f.h!.am
 len:f.h!.a=b3 P
def sx.mono{a:WX}{P:bR}{F W:Hp}{f:WD}(w:sx a P F f)(h:Wh (F b=J o) (W b=J o)):sx a P W f:=(w.gp,w.n60,w.wf,w.nums,w.tree.u h,h _ _ w.owners,h _ _ w.me,h _ _ w.jS,h _ _ w.aeH,λq j X=>let (b,D,R):=w.us q j X;(b,D,h _ _ R),h _ _ w.known,w.nd,w.len)
end TW
variable{zr:TW.WD}{β:TW.WX}
namespace TW
open PySem PySem.Spec PyProof.Rows L2
def sx.e?(w:sx β ι g zr):YF (bB J5).a:=aeC w.gp.w w.n60 w.tree.so
structure b2(a:WX)(P:bR)(N:bF)(F H:Hp)(x:aa)(f:WD):Ir where
 fix:sx a P F f
 obj:H x=J%Iq a.W f.dx%fW f NC
 fx:F x=I
 gY:N3=b3 P
 minds:∀(v:Nat) X m,f.h![v]?=J X->N.bm[v]?=J m->ni a LB F H X m
 wire:∃o,H f.lm=J%Ig o/\cN (sv a P F) o L6
 fm:F f.lm=I
theorem yA{Q h:HO}(j:Go Γ G g σ (·=f))(d:G u=I)(a:σ u=J za)(k:G f=J h)(i:g f=I)(m:g u=I):Go Γ G (ak g u za) (ak σ f Q) (·=f)/\(∀b O,g b=J O->ak g u za b=J O)/\ak g u za f=I/\Rq:=by (let c:Rq:=JO);show ((j.q%Kb j.y y i).cm d (by rw [aq c.J];show a) m,Z6 b O%aq JO,_bC aq c,c)
def aeI(P:bR):bF:={minds:=(ey%b3 P).o (λ_=> [])}
def aeJ(a:WX):Sp:=λC H Q _=>∃F x X R A o O k g r l,C= [Ia x, Ia R, Ia A]/\H x=J%Iq a.W X []/\IQ F H/\F x=I/\md a IW F R o O k g r/\H A=J%Ig%bx (0::MA)/\eU l/\_AV<=60/\n6 l.x.cr/\(∀i∈l.world.nodes,Of<=P'/\Xz P')/\∀W d f,Go F H W d (·=x)->f.ta=R->(∀e∈f.lm::f.h!,H e=I)->b2 a l (aeI l) W d x f->Q IK d
theorem uX:a0 [IG,Jn,LK,JJ,Ka] [IG,Jn,LK]%aR uT:=(y,y,y,Ie,y,Ie,Ie)
theorem aqn(z1:aW r J_ _Gg uT f Q)(u:WT r β)(Z:ID l p r D A aB 1 VM [JD,LK]%aev Rg β.N)(T:ID l p r D A aB 1 VN [JJ,OZ]%aew Rg Ue)(z2:ID l p r D A aB 1 VP [Lu,O0]%aeD Rg Ue) (z3:ID l p r D A aB 1 VQ [Lu]%aeG Rg Ue):aJ l p r D A aB 2 f Q [IG,Jn,LK]%aeJ β:=by show z1.ok uX (λz4 H S z5 ξ=>by let (F,x,X,R,B,τ,zh,zi,ο,zj,l,rfl,_):=ξ;rfl) λzaB zaC zaD zaE H z4 S z5 L ξ=>?_;let (F,x,X,R,B,τ,zh,zi,ο,zj,l,rfl,N,t,zA,ε,υ,G,zk,z6,nums,q):=ξ;show (_,ao (cf (pv 0) (pv 1) y)%ao (cf (pv 0) (aM Z L y aK%ae (aC (pv 1) y)%ae (pv 2) aj) y)%ao (cf (pv 0) (jJ (e:= [(JJ,3,)]) y uX.nd (et%aC (pv 1) y) (Xf [IG,Jn,LK,JJ,Ka] (aR uT) JJ 3 (y,Ie,Ie,Ie,Ie)) (Xc 3 uX.nd%aH y) NX%Xk%aM T L y aK%ae (pv 3)%ae (l? (pv 0) y) aj) y)%ao (cf (pv 0) (aM z2 L y aK%ae (aC (pv 1) y)%ae (aC (pv 0) y) aj) y)%ao (cf (pv 0) (aM z3 L y aK%ae (aC (pv 1) y) aj) y)%ao (cf (pv 0) (jJ (e:= [(Ka,4,)]) y uX.nd (et%pv 2) (Xf [IG,Jn,LK,JJ,Ka] (aR uT) Ka 4 (y,Ie,Ie,Ie,Ie)) (Xc 4 uX.nd%aH y) NX%Xk acj) y)%ao (cf (pv 0) (bZ aj) y)%ax%cf (pv 0) aF y,?_);dsimp only [bz,rN];let (zl,j):=ε.obj;let (zaF,z7,zB):=id ε.insts;let zC:=aeC G.w zk ε.so;let φ:=b4 zB;show (_,y,_,y,x,JE,X,_,y,N,O1,O2 _ Ii,Io,?_);let E:Go F H F (ak H x%Iq JE X [Lk]) (·=x):= Kb t y zA;(let zD:W_ B:=JO);show nh (_,y,R,O3,zl,_,_,y,E.y _ _ j,VR,VS _ Ii,y,_,y,F,τ,B,l,y,E.y,ε.ai,E.ad _ _ υ zD,G,zk,Wn π lo zE z8 z9);let k:=E.q%zE.bv Ku;let z_:=zE.ad _ _ _C_ id;let zF:=E.bg _ z8;show (_,y,x,JE,X,_,y,z_,O1,O2 _ Ii,OG,?_);let (O,ρ,zG,zaG):=yA (Q:= (Iq JE X [Lk,Lw])) k zF z9 N zA%b1 t zF;let zm:ak F lo (Ig%bx%Uc l) lo=J%Ig%bx%Uc l:=ar;generalize ak F lo (Ig%bx%Uc l)=χ at O ρ zG zm;let ι:ak π x (Iq JE X [Lk,Lw]) x=J _:=ar;change ak π x (Iq JE X [Lk,Lw]) x=J%Iq JE X [Lk,Lw] at ι;generalize zH:ak π x (Iq JE X%eX OZ (Ia lo)%eX Jn (Ia R) [])=c;(let O:Go F H χ c (·=x):=by rw [←zH];show O);(let ι:c x=J%Iq JE X [Lk,Lw]:=by rw [←zH];show ι);show qm (r:=r) (z1:=bx%f_ l) (gf (gv y) (J2 _ _%ρ _ _ j) VR (VS _ Ii) y) (J2 _ _%ρ _ _ z7) (by rw [hh];unfold f_;rw [aQ,φ]) (f9 Ih) (λi v z' zaa zab ψ zac zad=>?_)%Wb n ω;{let (zae,zn):=dg ψ φ.J;have:=dt zB ψ zn;let (zaH,w,rfl):=uV zac;rw [yy zn] at w;cases w;(let zo:∀{α o},c α=J o->ak c zaa (Ig zab) α=J o:=λe=>_ai aq%aU e zad);show λzaI q=>(_,y,_,y,x,JE,X,_,_,y,zo ι,O1,O2 _ Ii,y,χ,v,lo,l,zae,y,Xl%zo%J2 _ _ e,this.u ρ,zo%J2 _ _ zm,G,cm zn,q)};let zaf:=MU%XH (bx%f_ l) J2 ω;let zag:=O.bg _ ω;(let zah:ak c n (Ig%bx%f_ l) x=J%Iq JE X [Lk,Lw]:=by rw [aq%aU ι ω];show ι);show (_,y,x,JE,X,_,y,zah,O1,O2 _ Ii,Io,?_);let (h,zp,zI,zaJ):=yA (Q:= (Iq JE X [Lk,Lw,Nd])) zaf zag (ar (f:=n)) N zG%b1 J2 ω;let zq:ak χ n (Ig%bx%f_ l) n=J%Ig%bx%f_ l:=ar;generalize ak χ n (Ig%bx%f_ l)=Γ at h zp zI zq;let zJ:ak (ak c n%Ig%bx%f_ l) x (Iq JE X [Lk,Lw,Nd]) x=J%Iq JE X [Lk,Lw,Nd]:=ar;let Δ:Xe (F α=J o) (Γ α=J o):=Xl%zp _ _%ρ _ _ e;show nh (_,y,R,O3,zl,_,_,y,h.y _ _%Δ _ _ j,VR,VS _ Ii,y,nh (_,y,x,JE,X,_,_,y,zJ,O1,O2 _ Ii,y,Γ,ο,n,l,y,h.y,ε.insts.u (Xb Δ) Δ,zq,G,zC,Wn zai a zK zL zaj));let zak:=h.q%zK.bv Ku;let zal:=zK.ad _ _ zJ id;let zam:=h.bg _ zL;show (_,y,x,JE,X,_,y,zal,O1,O2 _ Ii,Io,?_);let (Θ,Ξ,zM,zaK):=yA (Q:= (Iq JE X [Lk,Lw,Nd,Om])) zak zam zaj N zI%b1 h.y zL;let zN:ak Γ a (Ig%jS l) a=J%Ig%jS l:=ar;generalize ak Γ a (Ig%jS l)=zr at Θ Ξ zM zN;let zO:ak zai x (Iq JE X [Lk,Lw,Nd,Om]) x=J%Iq JE X [Lk,Lw,Nd,Om]:=ar;let Φ:Xe (F α=J o) (zr α=J o):=Xl%Ξ _ _%Δ _ _ e;show nh (_,y,R,O3,zl,_,_,y,Θ.y _ _%Φ _ _ j,VR,VS _ Ii,y,zr,ο,IW,y,Θ.y,ε.insts.u (Xb Φ) Φ,G.w,zC,λζ zP g s Ψ zan zao=>?_);let zQ:=Θ.q%Ψ.bv Ku;let zR:=Ψ.ad _ _ zO id;let zS:=Ψ.off zM zO zR Io;show (_,y,x,JE,X,_,y,zR,O1,O2 _ Ii,Io,?_);let δ:=zQ.q%Yk (Iq JE X [Lk,Lw,Nd,Om,QI]) zQ.y y zS;let κ:ak zP x (Iq JE X [Lk,Lw,Nd,Om,QI]) x=J%Iq JE X [Lk,Lw,Nd,Om,QI]:=ar;generalize zT:ak zP x (Iq JE X%eX Sl (Ia g) [Lk,Lw,Nd,Om])=Ω;(let δ:Go F H ζ Ω (·=x):=by rw [←zT];show δ);(let κ:Ω x=J%Iq JE X [Lk,Lw,Nd,Om,QI]:=by rw [←zT];show κ);let zs:=δ.ad _ _ υ zD;show qo%oI (_,y,B,y,(_,Iw zs),λb η=>oj (r:=r) (u:=B) (α:=bx (0::MA)) (λi za=>∃γ:Ib aa,γ.a=i/\za b=J%Ig%QY IP/\Go ζ Ω ζ za (·=b)/\(∀α∈γ,Ω α=I/\Xg α/\za α=J%JK [])/\γ.am) ([],y,ar, JI NP η,(Wv ξ (by cases ξ)), IR) (λi za _ (_,_,_,zap,_)=>Iw%zap.ad _ _ zs%aU zs η) ?_ ?_);{rintro i z' π ψ ⟨γ,zaq,zU,k,zV,zt⟩;let φ:=(I! ψ).1;have:=G.e?;rw [hh,cH] at φ;show (y,kg%Yn P);(let zu:Xg P:=JO);let O:=Ma%ZD JK [] JN d;(let zar:ak π P (JK []) b=J%Ig%QY IP:=by rw [aq zu.J];show zU);show (_,zar,ZY ec Ih,γ++ [P],by rw [cG,zaq];rfl,_Cn,MU%Kb J2 y%b1 NP η,Y? W,?_);{rcases d7.R W with W|W;{let (C,zb,zW):=zV α W;show (C,zb,by rw [aq zb,aq%aU zW d];show zW)};{rw [T4 W];show (k.bg _ d,zu,W5 zu)}};{rw [ky];show (zt,_Ck (Ii, IR),Wn α W zaL zas z);rw [T4 zas] at z;lk}};rintro zc ⟨γ,zX,zat,zY,zd,zt⟩;rw [hh,cH] at zX;let zau:Xg x:=aU κ η;let zav:=zY.ad _ _ κ zau;let zaw:Go F H ζ zc (·=x):=(δ.bv (N:=WE (α=x∨α=b))%W3 _ z Ik z).q%zY.bv%Xx _ z z|>.fresh (WO z (OX Ik λz=> Iy (by rw [z];show δ.bg _ η)));show (_,y,x,JE,X,_,y,zav,O1,O2 _ Ii,Io,?_);let (M,ze,zv,_):=yA (Q:= (Iq JE X [Lk,Lw,Nd,Om,QI,(MB, Ia b,)])) zaw (δ.bg _ η) zat N zS%b1 NP η;let zZ:ak ζ b (Ig%QY IP) b=J%Ig%QY IP:=ar;(let z0:∀α∈γ,ak ζ b (Ig%QY IP) α=I:=WO W (by let (C,zb,_):=zd α W;rw [aq zb];show b1 NP C));generalize ak ζ b (Ig%QY IP)=zw at M ze zv zZ z0;let μ:ak zc x (Iq JE X [Lk,Lw,Nd,Om,QI,(MB, Ia b,)]) x=J%Iq JE X [Lk,Lw,Nd,Om,QI,(MB, Ia b,)]:=ar;(let σ:∀α∈γ,ak zc x (Iq JE X [Lk,Lw,Nd,Om,QI,(MB, Ia b,)]) α=J%JK []:=WO W (by rw [aq λz=>IZ];cbv));generalize zx:ak zc x (Iq JE X%eX MB (Ia b) [Lk,Lw,Nd,Om,QI])=zy;(let M:Go F H zw zy (·=x):=by rw [←zx];show M);(let μ:zy x=J%Iq JE X [Lk,Lw,Nd,Om,QI,(MB, Ia b,)]:=by rw [←zx];show μ);(let σ:∀α∈γ,zy α=J%JK []:=by rw [←zx];show σ);show (cj _,λzz θ=>(_,y,x,JE,X,_,y,by rw [aq%aU μ θ];show μ,O1,O2 _ Ii,Io,(_,y,x,JE,X,_,y,ar,O1,O2 _ Ii,(Yq 7),?_)));rw [dE];let zax:=(M.q%XH [] M.y θ).q%Kb (m:=x) (o:= (Iq JE X%fW {dx:=X,ta:=R,lo:=lo,lh:=n,lr:=a,lu:=g,lk:=b,lm:=zz,ln:=τ,qw:=zh,lf:=zi,li:=ο,ss:=zj,h!:=γ,yz:=s} 0)) (Xl%XN (aU (M.y _ _ e) θ) M.y e) y zv;let zf:Xe (zr α=J o) (zw α=J o):=Xl%ze _ _%Ψ.ext _ _ e;let zay:x≠zz:=aU μ θ;show q zw _ {dx:=X,ta:=R,lo:=lo,lh:=n,lr:=a,lu:=g,lk:=b,lm:=zz,ln:=τ,qw:=zh,lf:=zi,li:=ο,ss:=zj,h!:=γ,yz:=s} zax y (Y? W) ((G,zk,z6,nums,ε.u%Xl%zf _ _%Φ _ _ e,zf _ _%Ξ _ _%zp _ _ zm,zf _ _%Ξ _ _ zq,zf _ _ zN,ze _ _ zan,λq zaz zaA=>let (α,w,ν):=zao q zaz zaA;(α,w,ze _ _ ν),zZ,zt,zX),ar,zv,by change (AI _ _).a=_;rw [aQ,o7],Wn v zg m w ν,([],W5 zay.J, IR),b1 M.y θ);{rcases b0.R W with rfl|W;{show M.bg _ θ};{show δ.bg _ (zd α W).1}};{let W:=cm w;(let e:Wl m:=by let ν:((ey%b3 l).o%Wx ([]:pD))[v]?=J m:=ν;rw [bL] at ν;let (_,_,e):=LS ν;show e.J);subst e;show ([],?_,z0 zg W, IR, IR);rw [aq λz=>IZ,aq%aU (σ zg W) θ];show σ zg W}
theorem aqo(p:IA Ξ E g%Ia f)(hd:g f=J%Jd ze%I9 zi)(h:I8=KP)(j:Wo KP)(D:∀(i:Nat) k x A G v,V!=J Rs->PR=J A->g G=I->IA R ((di E [q]).set q%J x) (ak g G%Ig v) A) (o:∀G,g G=I->ε (Ia G)%ak g G%Ig α):l5 (E4 Ξ) (bU q) t8 R [q] E g ε:=by show p _ (f,ze,zi,y,hd,Wb G a);(let B:∀i,ak g G (Ig%α.Y i) f=J%Jd ze%I9 zi:=λi=>_bo aq%aU hd a);show (λi m d=>m=KP - i/\i<=KP/\d=ak g G%Ig%α.Y i,(KP,Ii,cj _,_D6),?_);rintro i m d ⟨rfl,l,rfl⟩;by_cases t:i<KP;{show Iy ((B i,t),λd=>d=ak g G%Ig%α.Y (i+1),λd r=>(KP - (i+1),Ih,y,t,r),Wd x n b);let (rfl,k,c):=b;let (A,u):=dg c h;show (Ew _ _ _,kg%D i k x A G _ c u a _ (_,ar,?_,?_));{rw [ho];lia};{rw [dE,LW u]}};{(let e:i=KP:=Ih);subst e;show Ik%Wt (B _,bj _);lk}
theorem sy{i:bT}{o:dk}:∀{m:pD},(m.o (·.1)).am->(cJ m i=J o↔(i,o,)∈m)| [],_=>by simp [cJ]|(M,O)::m,F=>by rw [dJ,gg] at F;rw [Bs,b0];by_cases e:M=i;{lk};{rw [au e,sy F.2];lk}
theorem aqp{m:pD}(F:(m.o (·.1)).am)(i:bT):cJ m.ca i=cJ m i:=by (let a:(m.ca.o (·.1)).am:=IZ);show Option.ext%We o;rw [sy F,sy a,HF]
theorem aeK{a:WX}{W:dD}{F:Hp}{i:bT}(b:i∈bB W):∀{j:Ib KJ} {l:pD},cN (λ(g:be × V) (c:bT × dk)=>Lx= Ik%W9 W c.1/\eY a.F F g.2 c.2/\ez c.2/\c.1∈bB W) j l->(cJ l i=I/\cS j%Ik%W9 W i=I)∨∃o v,cJ l i=J o/\cS j%Ik%W9 W i=J v/\eY a.F F v o/\ez o|_,_, .nil=> Ik (y,y)|g::j,c::l, .cons h t=>by let (k,v):=g;let (M,o):=c;let (D,R,d,T):=h;let D:k= Ik%W9 W M:=D;subst D;rw [Bs];unfold cS;rw [fG];by_cases e:M=i;{cbv};{have:aT ((nF%W9 W M:be)= Ik%W9 W i)=ay:=bD λz=>e%wg T b%Y5 vo z;rw [au e,this];show aeK b t}
def ni.look{m:pD}(h:ni β zh g G f m)(l:Θ∈bB zh):∃j,G f=J%JK j/\((cJ m Θ=I/\cS j%Ik%W9 zh Θ=I)∨∃o v,cJ m Θ=J o/\cS j%Ik%W9 zh Θ=J v/\eY Sm g v o/\ez o):=by let (j,D,_,b,e):=h;show (j,D,?_);rw [←aqp b];show aeK l e
def ni.mono{a:WX}{W:dD}{F H c d:Hp}{X:aa}{m:pD}(h:ni a W F H X m)(G:Wh (F b=J o) (c b=J o))(k:∀j,H X=J%JK j->d X=J%JK j/\c X=I):ni a W c d X m:=by let (j,D,R,f,e):=h;show (j,(k j D).1,(k j D).2,f,J8 e%Xi (Mn,(Rv).u G,Ss))
def sv.mono{a:WX}{P:bR}{F W:Hp}{v:V}{m:iJ}(h:sv a P F v m)(G:Wh (F b=J o) (W b=J o)):sv a P W v m:=by let (b,X,d,D,R,c,T):=h;show (b,X,d,D,G _ _ R,c.u G,T)
theorem b2.go(w:b2 β ι χ g G f zr)(a:Go g G σ Γ bO):b2 β ι χ σ Γ f zr:=by let (o,i,r):=w.wire;let b:=NO _ _ Sn id;let c:=NO _ _ i id;show (w.fix.u Oy,b,Qq w.fx Sn b Io,w.gY,λv X m D R=>(O4 v X m D R).u Oy%Wb j e,(o,c,J8 r%Xb Oy),Qq Uf i c Io);let l:=NO _ _ e id;let (_,V,T,_):=O4 v X m D R;show (l,Qq T V _Gh Io)
theorem b2.mf(w:b2 β ι χ g G f zr)(h:q<b3 ι):∃X,Wf Ug=J X/\ni β J5 g G X%b7 χ q:=by let a:=w.fix.len;let j:=w.gY;show (Ug[q],Ii,O4 q _ _ Ii ?_);unfold b7;cbv
def gw(u:WT r β)(w:b2 β ι χ G g f zr)(a:IA R E g%Ia f)(hf:L∈([Jn,OZ,O0,VO,Sl,MB,PD,_Cx]:Ib ai))(h:(fW zr χ.de).B L=J ζ):IA (cy r R L) E g ζ:=gf a Sn O1 (O2 _ hf) h
theorem qx(u:WT r β)(w:b2 β ι χ G g f zr)(t:IQ G g)(n:Wf%bB J5=J Θ)(a:IA R E g%Ia f)(L:IA Ξ E g%Id Mm):IA (cR (dM r) (cy r R O0) Ξ) E g%Id%X2 ι Θ:=cX (gw u w a Ii y) (t _ _ w.fix.me) (sq%yy n) L
theorem mh(a:WT r β)(w:b2 β ι χ G g f zr)(t:IQ G g)(b:Wf Ug=J u)(d:IA R E g%Ia f)(L:IA Ξ E g%Id Mm):IA (cR (dM r) (cy r R MB) Ξ) E g%Ia u:=cX (gw a w d Ii y) (t _ _ w.fix.known) (by rw [bL,b];rfl) L
theorem aqq(u:WT r β)(w:b2 β ι χ g G f zr)(t:IQ g G)(n:Wf%bB J5=J Θ)(b:IA R E G%Ia f)(L:IA Ξ E G%Id Mm):∃a ix Z m d,g a=J%Iq Ue ix%fI LL Θ.2 Z m d/\hJ Rg g J5 Θ Z m/\g d=J%I9%d6 J5 Θ/\IA (cR (dM r) (cy r (cy r R Jn) Lu) Ξ) E G%Ia a:=by let (h,D,e):=w.fix.tree.insts;let (j,V):=w.fix.tree.obj;let (v,A):=dg n%b4 e;let (a,ix,Z,m,d,rfl,T,W,O):=dt e A n;show (a,ix,Z,m,d,T,W,O,cX (gf (gw u w b Ii y) (t _ _ V) VR (VS _ Ii) y) (t _ _ D) A L)
def yB(a:WX):Sp:=λe G Q _=>∃g f q l χ zr r,e= [Ia f, Id Mm]/\IQ g G/\b2 a l χ g G f zr/\Wf%aN l=J r/\∀d,Go g G g d bO->Q (IJ%dm χ r) d
theorem jn(h:Wf%aN ι=J zn):Wf%bB J5=J N4/\QP=b' ι N4/\zn.S=j8 J5 N4/\zn.to=(ey%b3 ι).bn (λp=>p !=b' ι N4 && s6 (o_ ι) p N4):=by let (i,l):=dg h (mR ι).J;let (t,D,d,V,T,W):=wx ι q i l;cbv
theorem yC:a0 [IV,IL,MB,I2] [IV,IL]%aR yt:=(y,y,y,Ie,y,Ie,Ie)
theorem aqr(W:aW r Uh Uh yt u Q)(c:WT r β)(ω:D Th=I):aJ l p r D A aB 1 u Q [IV,IL]%yB β:=by show Jb yC (Z_ Γ g Δ Θ (G,f,ο,l,χ,zr,a,rfl,_)) λzj zk zl s g Γ Δ Θ π h=>?_;let (G,f,ο,l,χ,zr,a,rfl,t,e,n,ι):=h;show (_,ao (Wq yC.nd (AA y)%a8 bf (aC (pv 0) y) (a8 bf (aC (pv 0) y) (pv 1) IB) IB)%ao (bA (eh%t? (u1 π) (pv 1)%pv 2) (ax%aI kP) bM)%ax%aI%alc%cz (B4 y) I5 ω ED%ae (jJ (e:= [(I2,3,)]) y yC.nd (E5%aC (a8 bf (aC (aC (pv 0) y) y) (pv 1) IB) y) (Xf [IV,IL,MB,I2] (aR yt) I2 3 (y,Ie,Ie,Ie,Ie)) (Xc 3 yC.nd%aH y) NX%XY n'%t? (u1 π) (pv 3)%pv 2) aj,?_);dsimp only [bz,b?,bU,cc,tB,bX,cx];let (q,Ξ,Φ,_):=jn n;let η:=cm q;let Ψ:=(jb q).1;let (θ,i,z):=e.mf%_Cy Jr;show mh c e t i (gv y) (qx c e t q (gv y)%gv y) _ ?_;let (j,L,ρ):=z.h2 η;rw [←Ψ] at ρ;show (_,y,_,y,θ,_,y,YR (Ik%Wc ο) L,_,y,?_);(let σ:dm χ a=((cJ (b7 χ%b' l Jr) Jr).gl && (j8 IW Jr).all (λb=>(cJ (b7 χ%b' l Jr) b).as)):=by unfold dm;rw [Ξ,Φ]);rcases ρ with ⟨w,v⟩|⟨o,Ω,w,v,_⟩;{rw [v];show bt ?_;let (zm,T,Z):=e.fix.tree.insts;let (zn,za):=e.fix.tree.obj;let (Ω,B):=dg q%b4 Z;let (zo,zp,zq,m,d,rfl,zb,_,τ):=dt Z B q;let γ:=t _ _ τ;(let zc:θ≠d:=Zi α);show (d,_,γ,fO,λε=>jQ ?_);(let κ:∀{μ o},G μ=J o->(∀j,o≠ I9 j)->ak g d (Jd ε%I9%d6 IW Jr) μ=J o:=λζ F=>XN (WE IZ) t ζ);(let zd:ak g d (Jd ε%I9%d6 IW Jr) f=J%Iq JE zr.dx%fW zr χ.de:=_bi aq%WE (by rw [←α,e.obj] at γ;cases γ));(let υ:ak g d (Jd ε%I9%d6 IW Jr) θ=J%JK j:=by rw [aq zc];show L);let H:YF (eJ IW Jr).a:=d8 (oG (aeF _Eb η) λb X=>yx _Eb η X) _Cz;let ze:=Fm IW Jr;show aqo (zi:=d6 IW Jr) (α:=((eJ IW Jr).o λb=>(cJ (b7 χ%b' l Jr) b).as).o M9) (gf (cX (gf (gf (gv y) zd c.w.cl (c.w.no _ Ii) y) (κ za Io) c.t.cl (c.t.no _ Ii) y) (κ T Io) B%gv y) (κ zb Io) c.i.cl (c.i.no _ Ii) y) ar (by rw [aQ,aQ,ze]) (f9 Ih) (λzs k α zt x φ zf C δ=>?_)%Wb x δ;{let (b,X,rfl):=Fl zf;rw [dX,bL,X] at C;obtain ⟨rfl⟩:=C;let zg:=yx _Eb η%cm X;let (zu,E,zh):=z.h2 zg;rw [L] at E;cases E;show λψ O=>(_,y,_,y,θ,_,y,YR (Ik%W9 IW b) (by rw [aq%aU υ δ];show υ),?_);lk};(let ξ:x≠d:=WE (by rw [α,ar] at δ;cases δ));rw [aq ξ] at δ;show (x,_,y,Iw ar,by rw [aq ξ.J,ar],?_);rw [aey γ ξ];(let ζ:(((eJ IW Jr).o λb=>(cJ (b7 χ%b' l Jr) b).as).all id)=dm χ a:=by rw [σ,w,Option.isNone_none,o2,e_,mA,mA];constructor;{intro h b X;show h _%lE%Ws (oN _ _ _) X};{intro h μ zi;let (b,X,rfl):=Kl zi;show h b%(oN _ _ _).R X});rw [ζ];show ι _%JI t δ};{rw [v];show bu ?_;(have:dm χ a=ay:=by rw [σ,w];rfl);rw [this] at ι;show ι g%Ls t}
end TW
namespace L2
open PySem PySem.Spec PyProof.Rows
theorem aqs(Pv:Ng)(F:Pv 0 E g)(a:∀i E g,i<=KP->Pv i E g->g f=J%Jd ze%I9 zi) (P:∀i k v u q E g,V!=J%W2 k->Pv i E g->g u=I->g q=J%IC%L? kV->zy (Ia u) E (ak g u%IC [Ia q,v]) (λr n=>zK (Xy (Pv (i+1))%Pv (i+1)) r n)) (hd:∀E g,Pv KP E g->MM E g): ∃W:Iu->Ng,Y7 (∃m,W 0 m E g) (W i m E g->((sp f ze zi).f1 i g/\MM E g)∨((sp f ze zi).go i g/\YW (∀z d,N z d->∃Z,Z<m/\W (i+1) Z z d) ((sp f ze zi).iu i g x d->zy x E d (λr n=>zK (Xy N N) r n)))):=by show (λi m E g=>m=KP - i/\i<=KP/\Pv i E g,(KP,Ii,cj _,F),?_);rintro i m E g ⟨rfl,l,p⟩;let q:=a i E g l p;by_cases t:i<KP;{show Iy ((q,t),Pv (i+1),WP z Q (KP - (i+1),Ih,y,t,Q),P0);let (u,w,k,v,D,rfl,R,b,rfl):=A;cbv};{(let e:i=KP:=Ih);subst e;show Ik ((q,bj _),hd E g p)}
def aqt{a:Rl}(h:R E g λx M=>∃f o j,x= Ia f/\M f=J%Jd o%I9 j/\a (sp f o j) M):aek R E g a:=h
end L2
namespace TW
open PySem PySem.Spec PyProof.Rows L2
def uY(D:aa)(F:Hp)(f:Iu->aL->dk)(j:Ib OK)(os:Ib Jo):Ir:=cN (λ(g:List be × V) (o:Nat × aL)=>Lx=jm o/\eY D F g.2%f JW JX/\ez%f JW JX) j os
theorem uY.look{c:aa}{F:Hp}{a:Iu->aL->dk}{o:Jo}:∀{j:Ib OK} {os:Ib Jo},uY c F a j os->o∈os->∃O,cS j%jm o=J O/\eY c F O%a JW JX/\ez%a JW JX| [], [],_,S=>by cases S|g::j,b::os, .cons h t,S=>by let (k,v):=g;let (D,R,d):=h;let D:k=jm b:=D;subst D;unfold cS;rw [fG];by_cases e:b=o;{cbv};{rw [bD λz=>e%EW z];show uY.h2 (os:=os) t%(b0.R S).dz (λz=>e z.J)}
def yD(W:dD)(m:pD)(n:Nat)(k:Nat)(d:aL):dk:=(cJ m%gi W n%X3 d).az%LH%N0 0
def aeL(a:WX):Sp:=λC H Q _=>∃F x q l N f r,C= [Ia x, Id Mm]/\IQ F H/\b2 a l N F H x f/\Wf%aN l=J r/\dm N r=ag/\dH a.F F H (sZ IW (b7 N LQ) ND) Q
theorem sA:a0 [IV,IL,JJ,MB,KI,N?,I2] [IV,IL]%aR E':=(y,y,y,Ie,y,Ie,Ie)
theorem aqu(zw:aW r VT VT E' f Q)(u:WT r β)(zx:cQ D "GIVEN_OUTCOME" 0)(P:ID l p r D A aB 125 OY [J!,KI,KG]%oM Sm β.c.p 60):aJ l p r D A aB 126 f Q [IV,IL]%aeL β:=by show zw.ok sA (λzy H B Z ψ=>by let (F,σ,q,l,ν,zz,a,rfl,_):=ψ;rfl) λzao zap zaq zar H zy B Z ω ψ=>?_;let (F,σ,q,l,ν,zz,a,rfl,t,c,zA,zB,γ):=ψ;show (_,ao (Wq _AY (aH y)%a8 bf (aC (aC (pv 0) y) y) (pv 1) IB)%ao (bA (eh%lZ%aC (pv 2) y) (ax%aI%cg zx y) bM)%ao (WK _AY (aH y)%a8 bf (aC (pv 0) y) (a8 bf (aC (pv 0) y) (pv 1) IB) IB)%ao (Xd _AY (aH y) Cd)%ao (Cf%eB e0 y (ap8%aC (pv 2) y) (m3 y%gO (Wu 5 _AY%aH y)%gO (Wu 6 _AY%aH y) l2)%ax%rY (u1 ω) (pv 4) (pv 5) (w2 (u1 ω) (pv 3) (pv 6) IB) y)%ax%aI%aM P ω y aK%ae (aC (aC (pv 2) y) y)%ae (pv 4)%ae (aC (a8 bf (aC (aC (pv 0) y) y) (aC (pv 2) y) IB) y) aj,?_);dsimp only [bz,b?,bU,cc,tB,bX,cx];let (Γ,zC,zD,_):=jn zA;let zE:=cm Γ;let G:=c.fix.gp.w;let (κ,zc,zas,m,d,N,j,zd,zF):=aqq (R:=bH 0) (Ξ:=bH 1) (E:=Vk [IV,IL,JJ,MB,KI,N?,I2] [Ia σ, Id Mm]) u c t Γ (gv y)%gv y;show zF _ (_,y,κ,Ue,zc,_,_,y,t _ _ N,_CA,_CB _ Ii,y,_,y,?_);unfold hJ at j;unfold sZ at γ;cases w:ig l.x a.U with|none=>rw [w] at j γ;let (rfl,rfl):=j;(have:AR IW Jr= LH%N0 0:=by unfold AR;rw [G.giv];rfl);let γ:dH Sm F H (AR IW Jr) B:=γ;rw [this] at γ;show bu%γ.num t|some zG=>let (n,e):=zG;rw [w] at j γ;let ((zat,zau,zav,lo,rfl,zH,zI,_),rfl):=j;let γ:dH Sm F H (dG (yD IW (b7 ν Kh) n) (ag0 IW n) e) B:=γ;let (C,S,η,θ,Δ,s,rfl):=G.rule zE w;let (ze,zf,zJ,zK):=G.node θ;obtain rfl:ze=S:=eD%zJ.J.q Δ;let zaw:=G.e? θ Δ s;let (X,i,g):=c.mf%c.fix.gp.n4 Jr;rw [←zC] at g;show bt%mh u c t i (gv y) (qx u c t Γ (gv y)%gv y) _%XO δ;let (zL,L,_,_,_):=id g;let μ:=t _ _ zd;let ξ:=aU μ δ;let zg:=aU L δ;(let zM:X≠d:=JO);(let zN:κ≠d:=JO);let zO:Xg κ:=aU (t _ _ N) δ;(let zP:ak H b (I9 []) d=J%I9%d6 IW Jr:=by rw [aq ξ];show μ);(let em:d6 IW Jr=(dU [] _AZ).o%Xa o (jm o)%Iz%Yl IW%gi IW n o:=by unfold d6;rw [w]);let zQ:=uQ _AZ [] IR;show Fk zP fO λΘ=>ma%aqt%nh (_,y,κ,Ue,zc,_,_,y,by rw [aq zN,aq zO];show t _ _ N,_CA,_CB _ Ii,y,d,Θ,_,y,ar,aqs (f:=d) (ze:=Θ) (zi:=d6 IW Jr) (λk τ υ=>∃h φ ε,τ= [J%Ia σ,J%Id Mm,J%Ia κ,J%Ia X,J%Ia b,h,φ]/\(Xe (Xg α) (ak (ak H b%I9 []) d (Jd Θ%I9%d6 IW Jr) α=J o->υ α=J o))/\(∀α,υ α=I->H α=I)/\υ b=J%I9 ε/\uY Sm F (yD IW (b7 ν Kh) n) ε%(dU [] _AZ).Y k) (I,I, [],y,(λ_ _ _ z=>z),(Y? z),W5 ξ.J,by rw [iI];show IR) (λzR τ υ _ (_,_,_,_,zS,_)=>zS _ _ ξ ar) ?_ ?_);{by_cases zh:α=d;{rw [zh,ar] at z;cases z};{rw [aq zh] at z;by_cases ο:α=b;{rw [ο];show δ};{rw [aq ο] at z;show z}}};{rintro k zax zay Ξ zT τ M zi ⟨h,φ,ε,rfl,x,Φ,Ψ,ι⟩ zU zV;rw [em,bL] at zi;let (o,T,e):=LS zi;let (rfl,rfl):=Prod.mk.inj e;let zW:o∈_AZ:=((k! _ [] o).R%cm T).dz Ii;let (zaz,zaA,zaB,zX,zaC,zaD,zY,zZ,zaE,zaF):=G.meant θ Δ s zW;(let z0:gi IW n o∈bB IW:=by rw [zX,pP];show (zY,(I! zZ).1));(let z1:gi IW n o∈a.S:=by rw [zD,←oN];unfold eJ;lk);let zj:=((mQ ν a).R zB).2 _ z1;let (zaG,zk,z2):=g.h2 z0;rw [L] at zk;cases zk;rcases z2 with ⟨Ω,_⟩|⟨z3,za,Ω,z4,z5,z6⟩;{lk};let z7:M X=J%JK zL:=x _ _ zg (by rw [aq zM,aq zg];show L);generalize zl:Iz (Yl IW%gi IW n o)=z8;(let χ:∀{α O},M α=J O->ak M Ξ (IC [Ia zT,z8]) α=J O:=λe=>_ai aq%aU e zU);show (Ξ,_,y,Ju ar,y,_,_,y,_,_,y,y,?_);let lo1:=b4 ι;rw [ho] at lo1;let z9:=kc.t (k:=jm o) (ζ:=za) (χ Ψ) (χ zV)%ec Ih;show (_,y,_,y,X,za,y,?_,_,y,_,y,b,_,y,z9,_,_,ε++ [(jm o,za,)],y,Wj α O W z,Y? z,?_,?_);{rw [←zl,←z4];show YR (Ik%W9 IW%gi IW n o) Io};{rw [aq W];cbv};{by_cases ο:α=b;{rw [ο];show δ};{rw [aq ο] at z;by_cases zm:α=Ξ;{cbv};{rw [aq zm] at z;show Φ α z}}};{rw [ar,EX];intro zaH z_ z';let (zR,zn):=JM z_;let (zaI,π):=dg zn (b4 ι).J;have:=(dt ι zn π).1;rw [z'] at this;have:=EW this;subst this;rw [Ad] at π;split at π;{have:=(mI (I! T).1 zQ).R%T.q π.J;lia};{cases π}};{rw [←LW T];(let zo:yD IW (b7 ν Kh) n JW JX=z3:=by unfold yD;cbv);show ji ι (y,by rw [zo];show z5,by rw [zo];show z6)}};{rintro τ M ⟨h,φ,ε,rfl,x,Φ,Ψ,ι⟩;(let zaa:(d6 IW Jr).a=(dU [] _AZ).a:=by rw [em,aQ]);rw [zaa,fz] at ι;show Wt%x _ _ ξ ar;let zp:=b1 t δ;(let ζ:Go F H F (ak M d%I9%d6 IW Jr) bO:=by show (W' α O,Mj,λ_ _ e=> Ik e,XB α O e,Y? e);{let e:=t _ _ e;by_cases z:α=d;{rw [z,ar,←μ,←z];show e};{rw [aq z];let ρ:=aU e δ;show x α O ρ%Zw (aq z) aq ρ}};{by_cases z:α=d;{rw [z,ar,←μ,←z];show e};{rw [aq z];let ρ:=aU e δ;show x α O ρ%Zw (aq z) aq ρ}};{by_cases z:α=d;{rw [z,ar] at e;cases e};{rw [aq z] at e;show Φ α e}});let zq:=ζ.cm δ (by rw [aq ξ.J];show Ψ) zp;(let zr:∀α O,F α=J O->ak F b (I9 ε) α=J O:=Zg O%aq%aU e zp);let zab:=γ.on zq;let (zaJ,zac,zs):=c.fix.tree.nodes;let (zaK,v):=c.fix.tree.obj;let (zaL,E):=dg θ%b4 zs;let ((zaM,zaN,zb,zad,R,zaO,zae,zaf,zag),_):=dt zs E θ;let zah:=c.go ζ;obtain rfl:zb=ze:=eD%zae.J.q zf;let zai:IA (cy r (cR (dM r) (cy r (cy r (bH 0) Jn) JD)%cy r (bH 2) LJ) IL) [J%Ia σ,J%Id Mm,J%Ia κ,J%Ia X,J%Ia b,h,φ] (ak M d%I9%d6 IW Jr) (x1 zad):=gf (cX (gf (gw u zah (gv y) Ii y) (Ob _ _ v) VR (VS _ Ii) y) (Ob _ _ zac) (by rw [bL,E];rfl)%gf (gv y) (Ob _ _ N) _CA (_CB _ Ii) y) (Ob _ _ R) u.n.cl (u.n.no _ Ii) y;let zt:=c.fix.wf zb (cm zf) η s;(let zaj:ag0 IW n=C.num:=by unfold ag0;rw [θ];rfl);show qt (G:=ak F b%I9 ε) (W:=b) (gf (gf (gv y) (Ob _ _ N) _CA (_CB _ Ii) y) (Ob _ _ zH) u.g.e.cl (u.g.e.no _ Ii) y) (gv y) zai zt.2 zq.y (zI.u zr) (zt.1,(ε,ar,Wb o zak),We zu) zab;{let (O,zal,zam,zan):=uY.h2 ι%Ws (k! _ [] o)%Iy zak;show (O,zal,zam.u zr,zan)};{(let zv:zb.own=ag:=by rcases (zK.2.2.2.2 η s).1 with z|z;{show z};{cbv});rw [zag] at zv;let (k,rfl):=OM zv;have:k=C.num:=zaf;rw [zaj,←this];show (y,by rw [this];show c.fix.nums C%cm θ)}}
def qy{b j:zg}{l:Ib zg}(h:WR l)(k:j∈l):WY j:=λz=>h (by rw [z];show k)
def MW(x:aa)(f:WD):Nw:=λb=>b=x∨b=f.lm∨b∈f.h!
def ni.len{m:pD}(h:ni β zh G g f m):m.a<=(bB zh).a/\∃j,g f=J%JK j/\Lz=m.a:=by let (j,D,_,b,e):=h;show (?_,j,D,by rw [b4 e,Hr]);(have:=oG (l:=m.o (·.1)) (m:=bB zh) b (λi l=>by let (c,d,rfl):=Kl l;let (k,a):=JM%HF.mpr d;let (n,L):=dg a%b4 e;show (dt e L a).2.2.2));rwa [aQ] at this
theorem b2.off(w:b2 β ι χ G g f zr):XX PK/\f∉Ug/\PK∉Ug:=by let (o,i,_):=w.wire;(let k:∀X∈zr.h!,∃j,g X=J%JK j:=λX a=>by let (v,A):=JM a;let (m,i):=dg A%w.gY.q _Ec;let (j,h,_):=O4 v X m A i;show (j,h));show (ME,ME,ME);{have:=Sn;cbv};{let (_,h):=k _ z;rw [Sn] at h;cases h};{lk}
def b2.fk(w:b2 β ι χ g G f zr)(h:Wf Ug=J u):g u=I:=by let (m,i):=dg h%w.gY.q _Ec;let (_,_,h,_):=O4 q u m h i;show h
def b2.sent(w:b2 β ι χ g G f zr)(t:IQ g G){o:Ib V}(i:G PK=J%Ig o){v:V}{m:iJ}(h:sv β ι g v m): b2 β ι (e7 χ Uy) g (ak (ak G PK%Ig%XE o) f%Iq JE zr.dx%fW zr (χ.de+1)) f zr/\Go g G g (ak (ak G PK%Ig%XE o) f%Iq JE zr.dx%fW zr (χ.de+1))%MW f zr:=by let (s,d,b):=w.off;let (n,c,l):=w.wire;rw [i] at c;cases c;let r:Go g G g (ak G PK%Ig%XE o) (MW f zr):= Kb t (Iy%Ik y) Uf;show ((w.fix,ar,w.fx,w.gY,λk X m D R=>(O4 k X m D R).u Mj λj e=>(?_,w.fk D),(XE o,W5 s.J,ji l h),Uf),r.q%Kb r.y (Ik y) w.fx);let a:=cm D;rw [aq (qy d a).J,aq (qy b a).J];show e
theorem b2.aeM(w:b2 β ι χ g G f zr)(t:IQ g G)(a:Wf Ug=J u)(l:Θ∈bB J5)(i:cJ (b7 χ q) Θ=I)(L:G u=J%JK zB)(S:eY Sm g ζ z2)(b:ez z2): b2 β ι (hR χ q Θ z2) g (ak G u%JK%f5 zB (Ik%W9 J5 Θ) ζ) f zr/\Go g G g (ak G u%JK%f5 zB (Ik%W9 J5 Θ) ζ)%MW f zr:=by let (s,E,Q):=w.off;let d:=cm a;let η:=(I! a).1;let v:=w.gY;let θ:=w.fix.len;(let em:Wf χ.bm=J%b7 χ q:=by unfold b7;cbv);let (T,D,R,F,A):=O4 q u _ a em;rw [L] at D;cases D;let (α,j,r):=w.wire;(let γ:f5 zB (Ik%W9 J5 Θ) ζ=zB++ [(Ik%W9 J5 Θ,ζ,)]:=EX (λx δ e=>by let (κ,B):=JM δ;let (c,n):=dg B (b4 A).J;let (p,_,_,Z):=dt A B n;rw [e] at p;have:Θ=c.1:=wg l Z%Y5 vo p;let z:=Ws (sy (i:=c.1) (o:=c.2) F)%HF.R%cm n;cbv));(let C:hR χ q Θ z2={χ with minds:=χ.bm.set q ((Θ,z2,)::b7 χ q)}:=by unfold hR;rw [i];rfl);rw [C];show ((w.fix,by rw [aq%qy E d];show w.obj,w.fx,Io,Wn k ε m D h,(α,by rw [aq%qy Q d];show j,r),Uf), Kb t (Iy%Iy d) R);let h:(χ.bm.set q ((Θ,z2,)::b7 χ q))[k]?=J m:=h;by_cases e:k=q;{subst e;rw [vp Ih] at h;cases h;rw [a] at D;cases D;show (_,ar,R,?_,?_);{rw [dJ,gg];show (ME,F);let (c,n,e):=Kl z;have:=Ws (sy (i:=c.1) (o:=c.2) F) n;cbv};{rw [γ,vL];show ji A (y,S,b,l)}};{rw [vq λz=>e z.J] at h;show (O4 k ε m D h).u Mj λT o=>(?_,w.fk D);rw [aq λz=>e ?_];{show o};{subst z;show ((mI (I! D).1 w.fix.nd).R%D.q a.J)}}
theorem qz(G:eU ι)(h:Wf%aN ι=J zn):(Wl zn.to/\ll ι N4= IK)∨∃w,zn.to= [w]/\ll ι N4= Id%Wa w/\w<b3 ι:=by let (_,_,_,e):=jn h;(let a:ll ι N4=match zn.to with| []=> IK|w::_=> Id (Wa w):=by unfold ll;lk);by_cases t:∃O∈bB J5,N4∈j8 J5 O/\b' ι O≠b' ι N4;{let (O,D,R,V):=t;rw [abg G D R V] at e;show Iy (_,e,by rw [a,e],G.n4 O)};{rw [abf λO D R=>sP λz=>t (O,D,R,z)] at e;cbv}
def Fo(a:WX):Sp:=λC H Q _=>∃F x l N f v m,C= [Ia x,v]/\IQ F H/\b2 a l N F H x f/\sv a l F v m/\W1 J6/\∀d,Go F H F d%MW x f->b2 a l (e7 N Uy) F d x f->Q IK d
theorem aqv:a0 [IV,Rh] [IV,Rh]%aR E!:=(y,y,y,Ie,y,Ie,Ie)
theorem aqw(W:aW r Ui Ui E! f Q)(u:WT r β):aJ l p r D A aB 1 f Q [IV,Rh]%Fo β:=by show Jb aqv (WV (F,x,l,N,a,v,m,rfl,_)) λw T B z H C b Z L h=>?_;let (F,x,l,N,a,v,m,rfl,t,e,i,R,q):=h;show (_,ao (bI%ea d9 fw fX fg (aC (pv 0) y)%ae (pv 1) aj)%ax%rO (pv 0) aF tY,?_);dsimp only [bz,dq];let (o,j,c):=e.wire;let (s,G,E):=e.off;let n:=b4 c;let (g,k):=e.de t j i;show h_ (gw u e (gv y) Ii y) j (_,y,_,j,ec Ih,?_);(let d:ak H a.lm (Ig%XE o) x=J%Iq JE a.dx%fW a NC:=_bi aq s);show (_,y,x,JE,a.dx,_,_,y,d,O1,O2 _ Ii,y,_,_,y,y,a.dx,_,d,(Yq 8),?_);show q _ k g
def oO(r:fL)(o:dk):Ib iJ:=_A0 λv=>_as LQ v ND
def Fp(a:WX):Sp:=λC H Q _=>∃F x q l N f r o,C= [Ia x, Id Mm]/\IQ F H/\b2 a l N F H x f/\Wf%aN l=J r/\cJ (b7 N LQ) ND=J o/\W1 J6/\∀W d,Go F H W d%MW x f->b2 a l (e7 N%oO r o) W d x f->Q (IJ (!r.to.bj)) d
theorem Fq:a0 [IV,IL,PL,Na] [IV,IL]%aR E?:=(y,y,y,Ie,y,Ie,Ie)
theorem aeN(N:bF):e7 N []=N:=by unfold e7;cases N;simp
theorem aqx(W:aW r Uj Uj E? f Q)(u:WT r β)(ι:gx l p r D A aB 1 "Message" β.M [IG,NT,Na,JJ,MR]%jN β.M [NT,Na,JJ,MR])(G:ID l p r D A aB 1 Ui [IV,Rh]%Fo β): aJ l p r D A aB 3 f Q [IV,IL] (Fp β):=by show Jb Fq (Xh P κ (F,x,q,l,γ,B,a,o,rfl,_)) λω T Γ s H C P κ L h=>?_;let (F,x,q,l,γ,B,a,o,rfl,t,e,n,w,R,α):=h;show (_,ao (Wq Fq.nd (aH y)%a8 bf (aC (pv 0) y) (pv 1) IB)%ao (WK Fq.nd (aH y)%a8 bf (aC (pv 0) y) (pv 1) IB)%ao (bA (eh%lZ%pv 3) (ax%aI kP) bM)%ao (bI%aM G (Jh Il) y aK%ae (pv 0)%ae (eC ι L y aK%ae (pv 2)%ae (pv 3)%ae (pv 1)%ae (w2 (u1 L) (a8 bf (aC (pv 0) y) (pv 2) IB) (pv 1) IB) aj) aj)%ax%aI kP,?_);dsimp only [bz,b?,bU,cc,tB,bX,cx,dq];let (c,δ,Δ,_):=jn n;let ε:=cm c;let ζ:=(jb c).1;show qx u e t c (gv y) (gv y) _ ?_;show cX (ζ:=ll l Jr) (gw u e (gv y) Ii y) (t _ _ e.fix.jS) (by unfold jS;rw [bL,c];rfl) (gv y) _ (_,y,_,y,?_);rcases qz e.fix.gp n with ⟨b,Z⟩|⟨v,b,Z,μ⟩;{rw [Z];(have:Wl (oO a o):=_Gi);rw [this,aeN,b] at α;show bu%α F H (Ls t) e};{rw [Z];show bt ?_;let (X,i,g):=e.mf%_Cy Jr;rw [δ] at w;let (Θ,ν,V):=g.h2 ε;rcases V with ⟨E,_⟩|⟨Ξ,O,E,j,S,ξ⟩;{cbv};rw [E] at w;cases w;rw [←ζ] at j;let ο:IA (ach (cR (dM r) (cy r (bH 0) MB)%bH 2)%bH 1) [J%Ia x,J%Id Mm,J%Id%X2 l Jr,J%Id K?] H O:=λΦ π=>mh u e t i (gv y) (gv y) _ (_,y,X,O,y,by rw [←j];show YR (Ik%Wc q) ν,π);show (_,y,uC (α:= [Id%X2 l Jr, Id K?, Id Mm,O]) (gV (gv y)%gV (gv y)%gV (gv y)%gV ο oA) y%Wn m d N M ρ);(let σ:ak H d (JA m) m=I:=X1 ρ.J);let τ:Go F H F (ak (ak H d%JA m) m%Iq β.M d [(NT, Id%X2 l Jr,),(Na, Id K?,),(JJ, Id Mm,),(MR,O,)]) bO:=(M? t M).q%M? (λη o θ=>Y1 (aU (t η o θ) M) t η o θ) σ;let k:=τ.cm N ar%b1 t N;let Ψ:ak F m (Iq β.M d [(NT, Id%X2 l Jr,),(Na, Id K?,),(JJ, Id Mm,),(MR,O,)]) m=J _:=ar;show (_,x,l,γ,B, Ia m,_as Kh v Jr,y,JN,e.go k,(m,d,O,y,?_,S.u U7,ξ,ε,μ),R,Wd υ φ χ);{rw [ar];unfold fM;rw [δ,←ζ]};{(let ψ:oO a o= [_as Kh v Jr]:=_Gi);rw [ψ,b] at α;show α _ υ ((k.bv Ku).q φ) χ}}
def aeO(a:WX):Sp:=λC H Q _=>∃F x q l N f r,C= [Ia x, Id Mm]/\IQ F H/\b2 a l N F H x f/\Wf%aN l=J r/\dm N r=ag/\W1 J6/\∀W d,Go F H W d%MW x f->b2 a l (hS l N r) W d x f->Q (IJ (!r.to.bj)) d
theorem aqy:a0 [IV,IL] [IV,IL]%aR Fb:=(y,y,y,Ie,y,Ie,Ie)
def aqz(d:b2 β ι χ g G f zr)(A:q<b3 ι)(i:bT):ez%(cJ (b7 χ q) i).az%LH%N0 0:=by let (X,_,_,_,_,j,e):=d.mf A;cases h:cJ (b7 χ q) i with|none=>show pR 0|some o=>let l:=HF.mpr%(sy j).R h;let (k,a):=JM l;let (m,L):=dg a%b4 e;show (dt e L a).2.2.1
def aqA(e:b2 β ι χ g G f zr)(A:q<b3 ι)(i:bT):ez%sZ J5 (b7 χ q) i:=by unfold sZ;cases ig ι.x i with|none=>change ez%AR J5 i;unfold AR;rw [e.fix.gp.w.giv];show pR 0|some D=>let (n,d):=D;change ez%Vaattf.worth J5 (b7 χ q) n d;unfold Vaattf.worth;show E6 d λo _=>aqz e A _
theorem aqB(W:aW r VU VU Fb f Q)(u:WT r β)(Z:ID l p r D A aB 126 VT [IV,IL]%aeL β)(γ:ID l p r D A aB 3 Uj [IV,IL]%Fp β):aJ l p r D A aB 127 f Q [IV,IL]%aeO β:=by show Jb aqy (_aq δ E ε (F,x,q,l,N,b,a,rfl,_)) λο T S s δ C E ε L h=>?_;let (F,x,q,l,N,b,a,rfl,ζ,e,n,w,R,η):=h;show (_,ao (rY (u1 L) (a8 bf (aC (pv 0) y) (a8 bf (aC (pv 0) y) (pv 1) IB) IB) (pv 1) (aM Z L y aK%ae (pv 0)%ae (pv 1) aj) y)%ax%aI%aM γ (Jh Il) y aK%ae (pv 0)%ae (pv 1) aj,?_);dsimp only [bz,bX];let (c,H,G,_):=jn n;let o:=cm c;let θ:=(jb c).1;let t:=_Cy Jr;show (_,y,_,y,F,x,q,l,N,b,a,y,ζ,e,n,w,Wn P M π d ι);let g:=e.go d;let (X,i,κ):=g.mf t;let (ρ,j,V,v):=κ.len;let σ:=g.fix.e?;show mh u g d.y i (gv y) (qx u g d.y c (gv y)%gv y) _ (_,y,X,_,y,kc.k (k:= (Ik%Wc q)) V%ec Ih,?_);(let α:cJ (b7 N%b' l Jr) Jr=I:=by rw [←H];show ((mQ N a).R w).1);(let μ:ez (sZ IW (b7 N Kh) Jr):=by rw [H];show aqA e t _);let (m,k):=g.aeM d.y i o α V ι μ;rw [←θ] at m k;show (_,y,_,y,P,x,q,l,_,b,a,sZ IW (b7 N Kh) Jr,y,JN,m,n,?_,?_,Wj ν ξ O B);{rw [H,Bt _ _ _ _ (by rw [e.gY];show t),aA (y,y,by rw [α];rfl)]};{rw [(rH _ _ _ _).1];show R};{show η ν ξ (((d.bv Ku).q k).q O) ?_;rw [←H] at B;show B}
end TW
namespace L2
open PySem PySem.Spec PyProof.Rows
theorem Fs{f s:Jc}(E:f->s):∀(l:Ib f) (M:Nat),(l.ay M).o E=(JZ E).ay M| [],_=>y|_::_,0=>y|x::l,M+1=>_al (E x::(l.ay M).o E) (E x::(JZ E).ay M)%Fs E l M
def aqC:V->Ib V->J3:=λx C H Q=>∃l,∃O:Ib Ix,∃(n:Int) (M:Nat),x= Ia l/\C= [Id n]/\H l=J%Ig%Lo Iz/\Wm O=J n/\(∀(m:Nat) k,m<M->O[m]?=J k->k≠n)/\Q IK%ak H l%Ig%(O.ay M).o Iz
theorem aqD:rT j "list.remove" aqC:=by intro F s c H x C v G Q B α f h;let (l,O,n,M,rfl,rfl,T,p,o,q):=h;cases α;let (a,rfl,P):=f.one;let (t,rfl):=P;let (z,d,X,r,w,e):=RV T;(let b:∀(m:Nat) a,d[m]?=J a->∃k t,O[m]?=J k/\a= Id k t:=λm a E=>by let L:=(I! E).1;rw [aQ] at w;(let g:O[m]?=J O[m]:=Ii);let (S,W,β):=r.get%_a_ ((Lo Iz)[m]?=J%Iz O[m]);rw [E] at W;cases W;let (N,rfl):=β;cbv);let ζ:=(I! p).1;rw [aQ] at w;(let γ:M<Ov:=UU);show let Z:WA ah:=λa=>match a with| .int k _=>k==n|_=>false;?_;show vx ax9 (_,e,y) PySem.F.entry_list_remove (PySem.F.args_list_remove_2 _ _) (MeetsSeq.list_remove l KU X (Id n t) Z (Wb A u) M γ ?_ ?_ Io)%Wt e;{let (m,i):=JM (show A∈d by simpa using u);let (k,N,_,rfl):=b m A i;show MeetsSeq.EqGives.int k n N t};{let (k,N,D,R):=b M d[M] Ii;lk};{intro m i δ;(let η:m<d.a:=_DH);let (k,N,D,R):=b m d[m] Ii;lk};{let ε:(O.ay M).o Iz=(Lo Iz).ay M:=Fs _ _ _;rw [ε] at q;show (IK,_,B.t4 (Φ:=d.ay M) T e ?_ (r.ay M) ?_,y,q);{cbv};{lk}}
def aqE:V->Ib V->J3:=λx C H Q=>∃a j,x= Ia a/\Wl C/\H a=J%JK j/\Q IK%ak H a%JK []
def aqF:rT j "dict.clear" aqE:=by intro F s c H x C v G Q B Z f h;let (a,b,rfl,rfl,T,q):=h;cases Z;let m:=f.zero;subst m;show ak3 B T λM W=>(IK,_,W,y,q)
end L2
namespace TW
open PySem PySem.Spec PyProof.Rows L2
theorem Ft(l:Ib zg)(n:Nat):kG l n=l.ay n:=by unfold kG;lk
theorem aeP{f s:Jc}{R:O_}:∀{l:Ib f} {m:Ib s} (n:Nat),cN R l m->cN R (l.ay n)%m.ay n|_,_,_, .nil=> IR|_,_,0, .cons _ t=>t|_,_,n+1, .cons h t=> I1 h (aeP n t)
def b2.aeQ(w:b2 β ι χ G g f zr)(t:IQ G g)(i:g PK=J%Ig α)(n:Nat): b2 β ι {χ with wire:=kG _A1 n} G (ak g PK%Ig%α.ay n) f zr/\Go G g G (ak g PK%Ig%α.ay n)%MW f zr:=by let (s,b,a):=w.off;let (h,d,r):=w.wire;rw [i] at d;cases d;show ((w.fix,by rw [aq s];show w.obj,w.fx,w.gY,λk X m D R=>(O4 k X m D R).u Mj λj e=>(?_,w.fk D),(_,ar,?_),Uf), Kb t (Iy%Ik y) Uf);{rw [aq (qy a%cm D).J];show e};{change cN _ _%kG _A1 n;rw [Ft];show aeP n r}
def Fu(a:WX):Sp:=λC H Q _=>∃F x l N f n m,C= [Ia x, Id Jy]/\IQ F H/\b2 a l N F H x f/\Xm L6=J m/\W1 J6/\∀W d,Go F H W d%MW x f->b2 a l (g5 (YT n) m) W d x f->Q (IJ (!(cJ (b7 N Mf) MC).as)) d
theorem Fv:a0 [IV,JC,Rh,MB] [IV,JC]%aR Fc:=(y,y,y,Ie,y,Ie,Ie)
theorem aqG(W:aW r Uk Uk Fc f Q)(u:WT r β):aJ l p r D A aB 1 f Q [IV,JC]%Fu β:=by show Jb Fv (Wr B (F,x,l,N,a,n,m,rfl,_)) λτ T P s H C B Z γ h=>?_;let (F,x,l,N,a,n,m,rfl,t,e,G,υ,q):=h;show (_,ao (Wq Fv.nd (aH y)%ea d9 vz Hs ab2 (aC (pv 0) y)%ae (pv 1) aj)%ao (WK Fv.nd (aH y)%a8 bf (aC (pv 0) y) (aC (pv 2) y) IB)%ao (bA (eh%t? (u1 γ) (aC (pv 2) y)%pv 3) (ax%aI kP) bM)%ao (rY (u1 γ) (pv 3) (aC (pv 2) y) (aC (pv 2) y) y)%ax%aI kP,?_);dsimp only [bz,b?,bU,cc,tB,bX,cx];let (o,j,c):=e.wire;let ι:=b4 c;let S:=(I! G).1;let (v,w):=dg G ι;let (κ,φ,d,rfl,μ,ν,ξ,δ,ο):=dt c w G;let (M,k):=e.aeQ t j n;show gw u e (gv y) Ii y _ ?_;show (Ik (y,_,Iw j),_,y,a.lm,o,_,n,_,y,y,j,Ih,Ih,?_,w,?_);{show (wU%Fn Ih).1};generalize ak H a.lm (Ig%o.ay n)=ε at M k;let (X,i,g):=M.mf ο;let (χ,ψ,L,ω):=g.len;let Γ:=M.fix.e?;let gm:∀{f:ai} {ζ:V} {z:L2.St},f∈([NT,Na,JJ,MR]:Ib ai)->(fM m IW d).B f=J ζ->z[2]?=J%J%Ia κ->IA (cy r (bH 2) f) z ε ζ:=λE R π=>gf (gv π) (JN _ _ μ) u.m.cl (u.m.no _ E) R;show mh u M JN i (gv y) (gm Ii y y) _%gm Ii y y _ (_,y,X,_,y,YR (Ik%W9 IW MC) L,_,y,?_);let (Δ,η,ρ):=g.h2 δ;rw [L] at η;cases η;let θ:cJ (b7 N Mf) MC=cJ (b7 (YT n) Mf) MC:=y;rcases ρ with ⟨α,b⟩|⟨Θ,Ξ,α,b,_⟩;{rw [b];rw [θ,α] at q;show bt%gm Ii y y _ (_,y,gm Ii y y _ (X,_,y,kc.k (k:= (Ik%W9 IW MC)) L%ec Ih,?_));let (σ,O):=M.aeM JN i δ α L ν ξ;show q F _ (Ma O) σ};{rw [b];rw [θ,α] at q;(have:g5 (YT n) m=YT n:=by unfold g5 hR;rw [α];rfl);rw [this] at q;show bu%q F ε k M}
def aeR(a:WX):Sp:=λC H Q _=>∃F x l N f n m,C= [Ia x, Id Jy]/\IQ F H/\b2 a l N F H x f/\Xm L6=J m/\W1 J6/\∀d,Go F H F d%MW x f->b2 a l (e7 N Uy) F d x f->Q IK d
theorem aqH:a0 [IV,JC] [IV,JC]%aR Fd:=(y,y,y,Ie,y,Ie,Ie)
theorem aqI(W:aW r VV VV Fd f Q)(u:WT r β)(d:ID l p r D A aB 1 Ui [IV,Rh]%Fo β):aJ l p r D A aB 2 f Q [IV,JC]%aeR β:=by show Jb aqH (Wr k (F,x,l,N,a,n,m,rfl,_)) λg T w s H C k Z L h=>?_;let (F,x,l,N,a,n,m,rfl,t,e,G,R,q):=h;show (_,ax%bI%aM d L y aK%ae (pv 0)%ae (a8 bf (aC (pv 0) y) (pv 1) IB) aj,?_);let (o,j,b):=e.wire;let (v,c):=dg G%b4 b;let i:=dt b c G;show (_,y,cX (gw u e (gv y) Ii y) j c (gv y) _ (F,x,l,N,a,v,m,y,t,e,i,R,q))
def aeS(a:WX):Sp:=λC H Q _=>∃F x l N f v,C= [Ia x, Id K?]/\IQ F H/\b2 a l N F H x f/\v<b3 l/\∀d,Go F H F d%MW x f->b2 a l (Zn RE v []) F d x f->Q (Id%WB%b7 N v) d
theorem aeT:a0 [IV,Mg,VD] [IV,Mg]%aR Fe:=(y,y,y,Ie,y,Ie,Ie)
theorem aqJ(W:aW r VW VW Fe f Q)(u:WT r β)(O:D Kp=I):aJ l p r D A aB 1 f Q [IV,Mg]%aeS β:=by show Jb aeT (WV (F,x,l,N,c,v,rfl,_)) λε T S s H C b Z ζ h=>?_;let (F,x,l,N,c,v,rfl,t,e,w,q):=h;show (_,ao (Wq aeT.nd (aH y)%cz w4 I5 O c!%ae (a8 bf (aC (pv 0) y) (pv 1) IB) aj)%ao (bI%B2 Hh axu PySem.F.type_dict_clear aqF%a8 bf (aC (pv 0) y) (pv 1) IB)%ax%aI%pv 2,?_);dsimp only [bz,b?,bU,bX,dq];let (X,i,g):=e.mf w;let (n,j,L,R):=g.len;let (η,G,α):=e.off;let M:=cm i;show jQ%mh u e t i (gv y) (gv y) _ (X,j,y,L,?_);show mh u e t i (gv y) (gv y) _ ?_;show (Iy%Iy%Ik (y, Ik (_,L)),X,j,y,y,L,_,y,?_);let (o,B,E):=e.wire;let γ:=e.gY;rw [R];show q _ (Kb t (Iy%Iy M)%e.fk i) (e.fix,_bi aq%qy G M,e.fx,Io,Wn k δ m a V,(o,_bw aq%qy α M,E),e.fm);let V:(RE v [])[k]?=J m:=V;by_cases d:k=v;{subst d;rw [vp Ih] at V;cases V;rw [i] at a;cases a;show ([],ar,e.fk i, IR, IR)};{rw [vq λz=>d z.J] at V;show (e.bm k δ m a V).u (WG d d) λθ P=>(?_,e.fk a);rw [aq λz=>d ?_];{show P};{subst z;show ((mI (I! a).1 e.fix.nd).R%a.q i.J)}}
end TW
namespace L2
open PySem PySem.Spec PyProof.Rows
theorem aeU{h:NV}(Pv:O7)(F:Pv 0%ak g f%Ig [])(j:∀i H,i<=I8->Pv i H->aD r H u α) (P:∀i x s H,PR=J x->Pv i H->H s=I->zy (Ia s) (di E ω) (ak H s%IC [Id K8,x]) (λa n=>di a ω=di E ω/\zI a n%W7 b c b (R a c%YA A o (o f=J%Ig v/\Nm<bJ/\Pv (i+1)%ak o f%Ig QH))%Pv (i+1) c)) (hd:∀H,Pv I8 H->h H): ∃W:Iu->O7,(∃m,W 0 m%ak g f%Ig [])/\∀i m H,W i m H->((om r u).f1 i H/\h H)∨((om r u).go i H/\Zs NV (∀d,N d->∃Z,Z<m/\W (i+1) Z d) ((om r u).iu i H x d->zy x (di E ω) d (λa n=>di a ω=di E ω/\zI a n%W7 b c b (R a c%YA A o (o f=J%Ig v/\Nm<bJ/\N%ak o f%Ig QH))%N c))):=by show (λi m H=>m=XM i/\i<=I8/\Pv i H,(I8,Ii,cj _,F),?_);rintro i m H ⟨rfl,l,p⟩;let q:=j i H l p;by_cases t:i<I8;{show Iy ((α,α[i],q,Tb),Pv (i+1),λd Q=>(XM (i+1),Ih,y,t,Q),P0);let (s,z,rfl,k,rfl,A):=A;lk};{(let e:i=I8:=Ih);subst e;show Ik ((α,q,bj _),hd H p)}
def aeV{t:oe}(b:(KX v g φ zF zl).e9=ag)(h:tP (KX v g φ zF zl) Ω t) (G:(q2 Ω (KX v g φ zF zl).H).a=q:=by rfl) (i:(q2 Ω (KX v g φ zF zl).H).fd (·.1)=I:=by rfl):PG (KX v g φ zF zl) (Qa Ω Z κ)%aby IO q t:=m3 b h G i
end L2
namespace TW
open PySem PySem.Spec PyProof.Rows L2
def numsOf{f:Jc}(R:Ib f)(p:QE)(i:Nat):Ib Iu:=(ey i).bn λq=>((Wf R).o p).az ay
theorem qA{R:Ib zg}{p:WA zg}{r:zg}(h:Wf R=J r):MO R p (q+1)=Ww (p r) (MO R p q++ [q])%MO R p q:=by unfold numsOf;rw [qR,s7,ie,Ak,h];lk
theorem numsOf_len{f:Jc}{R:Ib f}{p:QE}:∀(i:Nat),i<=R.a->(MO R p i).a=((KH i).bn p).a|0,_=>y|i+1,h=>by (let L:Wg R=J R[i]:=Ii);rw [qA L,←LW L,s7,cG,←_Ed i Ih];lk
def yE(R:Ib zg)(p:WA zg)(i:Nat):(MO R p i).a<=i:=by have:=sQ (λq=>((Wf R).o p).az ay)%ey i;rw [o7] at this;show this
theorem aeW{R:Ib zg}{p:WA zg}:q∈MO R p Z↔q<Z/\∃r,Wf R=J r/\p r=ag:=by unfold numsOf;lk
def sC(l:Ib Iu)(n:Nat):bx l++ [Iz Jy]=bx (l++ MX):=_Ge
def qB(z:bR):(bx%f_ z).a=(aN z).a:=by rw [hh,mR];unfold f_;rw [aQ]
def Fw(h:Wf%bx%f_ ι=J ζ):∃r,Wf%aN ι=J r/\ζ= Id%Wa LQ:=by let (r,L):=dg h (qB ι).J;show (r,L,?_);let (D,R,_):=jn L;rw [sq%yy D] at h;cases h;rw [R]
def jU(N:bF)(r:fL):Bool:=(cJ (b7 N LQ) ND).gl
def aeX(a:WX):Sp:=_aP C H Q _ (C= [Ia x]/\IQ F H/\b2 a l N F H x f/\∀d,Go F H F d bO->Q (Id%WB%(aN l).bn%jU N) d)
theorem yF:a0 [IV,IL,PL] Nz%aR yu:=(y,y,y,Ie,y,Ie,Ie)
theorem aqK(W:aW r VX VX yu f Q)(u:WT r β)(θ:D Kp=I)(q:D KW=I):aJ l p r D A aB 1 f Q Nz%aeX β:=by show Jb yF (Wr w (F,x,l,N,c,rfl,_)) λσ T E s H C w Z L h=>?_;let (F,x,l,N,c,rfl,t,e,ι):=h;show (_,ax%aI%cz dr I5 θ c!%ae (jJ (e:= [(IL,1,),(PL,2,)]) y yF.nd (oo y q%ae (aC (pv 0) y) aj) (_a! [IV,IL,PL] (aR yu) [(IL,1,),(PL,2,)] (y,Ie,Ie,Ie,Ie)) (Xk%aeV (q:=2) y%gO (Wu 1 yF.nd%aH y)%gO (Wu 2 yF.nd%aH y) l2) (XY t9%eh%aci (u1 L) (pv 1)%adJ (l? (pv 0) y) (pv 2) IB)%XY pv 1) aj,?_);let R:=_Cz;let τ:=mR l;show jQ%qo%gw u e (gv y) Ii y _ (c.lh,_,y,Iw%t _ _ _Ee,λG α=>aeU (r:=r) (u:=c.lh) (α:=bx%f_ l) (λi d=>Go F H F d (·=G)/\d G=J%Ig%bx%MO (aN l) (jU N) i) (JI t α,ar) (λi d _ (κ,_)=>Iw%κ.y _ _ _Ee) ?_ ?_);{rintro i v δ M B ⟨b,o⟩ j;let (a,γ,rfl):=Fw B;let (ζ,μ,_):=jn γ;let υ:=(I! γ).1;let ν:=cm ζ;show (δ,_,y,Ju ar,y,_,_,y,_,_,y,y,y,?_);let k:=b.q%ZD IC [Id K8, Id PV] b.y j;(let ε:ak M δ (IC [Id K8, Id PV]) G=J%Ig%bx%MO (aN l) (jU N) i:=_bv aq%aU o j);generalize ak M δ (IC [Id K8, Id PV])=n at k ε;let m:=e.go%Sg%Xx ξ z _Gj;let (X,η,g):=m.mf%_Cy Jr;rw [←μ] at η g;let (ο,π,V):=g.h2 ν;rw [←(jb ζ).1] at V;show (_,y,mh u m JN η (gv y) (gv y) _ (X,_,y,YR (Ik%Wc i) π,_,y,?_));(let ρ:jU N a=!(cS ο%Ik%Wc i).as:=by unfold jU;lk);rw [←ρ];show cF JV JV;{show (_,y,_,ε,?_,Ma%Kb JN y%b1 t α,?_);{rw [hh];have:=yE (aN l) (jU N) i;show ec Ih};{rw [ar,sC,qA γ,aA h]}};{show (k,by rw [qA γ,au h];show ε)}};{rintro M ⟨b,o⟩;rw [qB] at o;show (G,_,y, Ik%Iw o,?_);rw [hh,_Ed _%bj _,fz];show ι M%b.an%Xx ξ z _Gj}
def aeY(a:WX):Sp:=_aP C H Q _ (C= [Ia x]/\IQ F H/\b2 a l N F H x f/\∀d,Go F H F d bO->Q (Id%WB%(aN l).bn%dm N) d)
theorem Fx:a0 [IV,IL] Nz%aR yv:=(y,y,y,Ie,y,Ie,Ie)
theorem aqL(W:aW r VY VY yv f Q)(u:WT r β)(V:D Kp=I)(G:D OO=I)(w:ID l p r D A aB 1 Uh [IV,IL]%yB β):aJ l p r D A aB 2 f Q Nz%aeY β:=by show Jb Fx (Wr B (F,x,l,N,b,rfl,_)) λE T P s H C B Z L h=>?_;let (F,x,l,N,b,rfl,t,e,q):=h;show (_,ax%aI%cz dr I5 V c!%ae (jJ (e:= [(IL,1,)]) y Fx.nd (BK I5 G%ae (cz dr I5 V c!%ae (aC (pv 0) y) aj) aj) (Xf [IV,IL] (aR yv) IL 1 (y,Ie,Ie,Ie,Ie)) (Xc 1 Fx.nd%aH y) (XY t9%b9%aM w L y aK%ae (pv 0)%ae (pv 1) aj)%XY pv 1) aj,?_);let R:=_Cz;let γ:=mR l;let δ:=qB l;show jQ%qo%ZW wF _ _ _ _%gw u e (gv y) Ii y _ (b.lh,_,y, Ik%Iw%t _ _ _Ee,_,y,Ih,Ih,λm j=>akW (γ:=0) (q:=(Wc (bx%f_ l).a).L) (λi d=>Go F H F d (·=m)/\d m=J%Ig%bx%MO (aN l) (dm N) i) (JI t j,ar) ?_ ?_);{rintro i M S ⟨a,o⟩;(let X:i<(aN l).a:=Ih);obtain ⟨v,G⟩:∃v,Wg%aN l=J v:=(_,d1 X);let g:=e.go%a.an%YG _Gk;show (y,_,y,_,y,F,x,i,l,N,b,v,_Gl,Lr,g,G,λn k=>(_,y,?_));let O:=a.q%k.bv Ku;let c:=k.ad _ _ o id;show cF JV JV;{show (_,y,_,c,?_,MU%Kb J2 y%b1 t j,?_);{rw [hh];have:=yE (aN l) (dm N) i;show ec Ih};{rw [ar,ag1,sC,qA G,aA h]}};{show (O,by rw [qA G,au h];show c)}};{rintro M ⟨a,o⟩;rw [eL,qB] at o;show (m,_,y, Ik%Iw o,?_);rw [hh,_Ed _%bj _,fz];show q M%a.an%YG _Gk}
theorem aqM(N:bF)(l m:Ib iJ):e7 (e7 N l) m=e7 N (l++m):=by unfold e7;simp [iH,Gn]
def nj(N:bF)(w:Nat)(r:fL):Ib iJ:=match cJ (b7 N w) ND with|J o=>Wz LQ w (_A0 λv=>_as w v ND) []|I=> []
def aeZ(R:Ib fL)(N:bF)(w:Nat):hU R N w=R.en%nj N w:=y
theorem yG(R:Ib fL)(N:bF)(w:Nat)(h:Wf R=J zn):hU (KH (q+1)) N w=hU (KH q) N w++nj N w zn:=by rw [aeZ,aeZ,←LW h,Ag];simp
theorem Fy{P:bR}(G:eU P)(N:bF)(w:Nat):∀(i:Nat),i<=(aN P).a->(hU ((aN P).Y i) N w).a<=i|0,_=>by rw [iI];show bj _|i+1,h=>by (let L:Wg%aN P=J (aN P)[i]:=Ii);rw [yG _ _ _ L,cG];have:=Fy G N w i Ih;(have:(nj N w (aN P)[i]).a<=1:=by unfold nj;split;{split;{rw [aQ];rcases qz G L with ⟨e,_⟩|⟨v,e,_⟩<;>rw [e]<;>simp};{simp}};{simp});lia
def ae0(a:WX):Sp:=λC H Q _=>∃F x l N f v,C= [Ia x, Id K?]/\IQ F H/\b2 a l N F H x f/\v<b3 l/\J6<=3000/\∀W d,Go F H W d%MW x f->b2 a l (e7 N%hU (aN l) N v) W d x f->Q (Id%WB%hU (aN l) N v) d
theorem uZ:a0 [IV,Mg,_CC,IL,PL] [IV,Mg]%aR Ff:=(y,y,y,Ie,y,Ie,Ie)
theorem aqN(ρ:aW r VZ VZ Ff f Q)(ι:WT r β)(σ:D KW=I)(τ:ID l p r D A aB 3 Uj [IV,IL]%Fp β):aJ l p r D A aB 4 f Q [IV,Mg]%ae0 β:=by show ρ.ok uZ (Xv υ φ Z (F,x,l,N,b,v,rfl,_)) λΦ T Ψ s H υ φ Z L h=>?_;let (F,x,l,N,b,v,rfl,t,α,P,R,χ):=h;show (_,ao (Wq uZ.nd (aH y) aF)%ao (eB e0 y (oo y σ%ae (aC (pv 0) y) aj) (m3 y%gO (Wu 3 uZ.nd%aH y)%gO (Wu 4 uZ.nd%aH y) l2)%ax%bA (M'%ob (eh%jF (pv 4)%pv 1)%oa%eh%t? (u1 L) (pv 3)%a8 bf (aC (pv 0) y) (pv 1) IB) (ax%bA (b9%aM τ L y aK%ae (pv 0)%ae (pv 3) aj) (ax%YS m4 2 uZ.nd y (aH y) aF) bM) bM)%ax%aI%pv 2,?_);dsimp only [bz,b?,bU,bX];let Ω:=α.fix.e?;let za:=mR l;show ma%W0 (acn _ _ _ _ _)%gw ι α (gv y) Ii y _ (b.lh,_,y,Iw%t _ _ α.fix.me,sd (r:=r) (f:=b.lh) (α:=bx%f_ l) (λi δ d=>∃c γ W,δ= [J%Ia x,J%Id K?,J%Id%WB%hU ((aN l).Y i) N v,c,γ]/\Go F H W d%MW x b/\b2 β l (e7 N%hU ((aN l).Y i) N v) W d x b) (I,I,F,_Ea, Ls t,by rw [iI];change b2 β l (e7 N []) F H x b;rw [aeN];show α) (λi δ d _ (_,_,W,_,ψ,o)=>Iw%ψ.y _ _ o.fix.me) ?_ ?_);{rintro i zb ζ δ M S ⟨c,γ,w,rfl,ε,g⟩ ω;let (a,G,rfl):=Fw S;let (κ,zc,_):=jn G;let zd:=(I! G).1;let Γ:=cm κ;let ze:=Fy α.fix.gp N v i Ih;show (ζ,_,y,Ju ar,y,_,_,y,_,_,y,y,?_);let n:Go w M w (ak M ζ%IC [Id K8, Id PV]) bO:= JI Sh ω;let k:=ε.q%n.bv Ku;let m:=g.go n;generalize ak M ζ (IC [Id K8, Id PV])=μ at k m;dsimp only [cc,tB,n!,cx];show (_,y,_,y,_,_,y,y,_,y,?_);(let ν:Wl%nj N v a->∃c γ W, [J%IP x,J%Id K?,J%Id%WB%hU ((aN l).Y i) N v,J%Iz K8,J%Iz PV]= [J%IP x,J%Id K?,J%Id%WB%hU ((aN l).Y (i+1)) N v,c,γ]/\Go F H W μ%MW x b/\b2 β l (e7 N%hU ((aN l).Y (i+1)) N v) W μ x b:=λe=>by rw [yG _ _ _ G,e,fo];lk);show cF JV JV;{let h:aT (Wc Kh=K?)=ag:=h;(let e:Kh=v:=Yx h);let (X,Δ,Θ):=m.mf P;let (zf,Ξ,η):=Θ.h2 Γ;rw [←(jb κ).1] at η;show (_,y,mh ι m JN Δ (gv y) (gv y) _ (X,_,y,YR (Ik%Wc i) Ξ,_,y,?_));let ξ:cJ (b7 (e7 N%hU ((aN l).Y i) N v) v) Jr=cJ (b7 N v) Jr:=y;rw [ξ] at η;rcases η with ⟨q,j⟩|⟨B,zg,q,j,_⟩;{rw [j];show bt%ν (by unfold nj;rw [q])};{rw [j];(let E:nj N v a=oO a B:=by unfold nj oO;cbv);show bu (_,y,_,y,w,x,i,l,_,b,a,B,y,JN,m,G,by rw [e,ξ,q],?_,λο zh O u=>(_,y,?_));{change W1 (L6++_).a;rw [cG];lia};rw [aqM,←E,←yG _ _ _ G] at u;let π:=Ma O;(let C:(hU ((aN l).Y (i+1)) N v).a=(hU ((aN l).Y i) N v).a+_CD:=by rw [yG _ _ _ G,cG,E];unfold oO;rw [aQ]);rcases qz α.fix.gp G with ⟨θ,_⟩|⟨z,θ,_⟩;{rw [θ] at C ⊢;show bt (J%Iz K8,J%Iz PV,ο,?_,π,u);rw [C];rfl};{rw [θ] at C ⊢;show bu (_,y,_,_,y,y,J%Iz K8,J%Iz PV,ο,?_,π,u);rw [C];rfl}}};{let h:¬ aT (Wc Kh=K?)=ag:=h;let e:¬ Kh=v:=λz=>h%b8 Ih;show bt%ν (by unfold nj;split<;>simp [e])}};{rintro δ M ⟨c,γ,w,rfl,ε,g⟩;rw [qB,fz] at g ⊢;show (_,y,χ w M ε g)}
def o_g{R:Xq L2.St}(h:R (E.set q%J ζ) g):bU q ζ E g R:=h
def aqO{O:L2.TS}(h:zK {zv with nx:=O zv} E g):bz zK O zv E g:=h
def aqP(h:R E g λx M=>zy x E M MM):b? R zy zv E g:=h
theorem b2.oP(w:b2 β ι χ g G f zr)(a:Go g G σ Γ zT)(h:∀b,MW f zr b->¬ zT b):b2 β ι χ σ Γ f zr:=by let (o,i,r):=w.wire;let k:=NO _ _ Sn%h _%Ik y;let c:=NO _ _ i%h _%Iy%Ik y;show (w.fix.u Oy,k,Qq w.fx Sn k Io,w.gY,λv X m D R=>(O4 v X m D R).u Oy%Wb j e,(o,c,J8 r%Xb Oy),Qq Uf i c Io);let l:=NO _ _ e%h _%Iy%Iy%cm D;let (_,V,T,_):=O4 v X m D R;show (l,Qq T V _Gh Io)
theorem ae1{f:Jc}:∀{l:Ib f} {M:Nat} {q:f},l.am->Wm l=J q->(∀x,x∈l.ay M↔x∈l/\x≠q)/\(l.ay M).am| [],_,_,_,h=>Mt|A::l,0,q,F,h=>IZ|A::l,M+1,q,F,h=>by rw [gg] at F;(let h:Wm l=J q:=OL);let (T,Z):=ae1 F.2 h;lk
def ae2(l:Ib Iu):bx l=(JZ λn:Iu=>Wc n).o Iz:=by unfold bx;rw [dX];rfl
theorem aqQ(W:dD):(bB W).o%ix W=ey (bB W).a:=by show Al%We q;rw [bL];cases h:(bB W)[q]? with|none=>cbv|some i=>rw [vi (I! h).1];show dR J (jb h).1.J
def aqR(W:dD)(M:bT):(gD W (bB W) M).am:=by (let h:((bB W).o%ix W).am:=by rw [aqQ];show ax_);show h.hw%GB.o _
def ae3(M:bT):q∈gD J5 (bB J5) M↔∃b,Wf%aN ι=J b/\M∈b.S:=by unfold gD;rw [b6];constructor;{rintro ⟨O,t,rfl⟩;let (D,R):=jo.R t;let (b,g,d,a,c,_):=wx ι _ O%lW D;show (b,g,by rw [c,←oN];show cw R)};{rintro ⟨b,D,R⟩;let (g,_,a,_):=jn D;show (b.U,_Be (cm g,b8 ?_),(jb g).1.J);rw [oN,←a];show R}
def ae4(i M:Nat)(b j:fL)(D:Wg%aN ι=J b)(R:Wm%aN ι=J j)(e:b.U=j.U):i=M:=by rw [(jb (jn D).1).1,(jb (jn R).1).1,e]
def Fz(b:WX):Sp:=λC H Q _=>∃F x l N f v s,C= [Ia x, Id K?, Id PX]/\IQ F H/\b2 b l N F H x f/\v<b3 l/\s<=1000/\J6<=3000/\∀W d p,Go F H W d%MW x f->b2 b l (de l (aN l) v s N).1 W d x f->W p=J%IC [Id%Xj%de l (aN l) v s N, Id%Wa ((de l (aN l) v s N).1.de - NC)]->Q (Ia p) d
theorem kq:a0 [IV,Mg,Ri,I_,"ready",VD,_CC,_Ef,"user",IL,PL] [IV,Mg,Ri]%aR uU:=(y,y,y,Ie,y,Ie,Ie)
theorem aqS(z6:aW r Ul Ul uU f Q)(u:WT r β)(z7:D KW=I)(z8:D QX=I)(zH:ID l p r D A aB 1 Uh [IV,IL]%yB β)(Z:ID l p r D A aB 127 VU [IV,IL]%aeO β):aJ l p r D A aB 128 f Q [IV,Mg,Ri]%Fz β:=by show z6.ok kq (Xv z9 S z_ (F,w,l,N,γ,v,s,rfl,_)) λzaP zaQ zaR ι H z9 S z_ L h=>?_;let (F,w,l,N,γ,v,s,rfl,zj,ζ,z',zaS,zaT,q):=h;let zaU:=Zq (1+1);show (_,ao (p7 (q:=3) (e:= [(IL,9,),(PL,10,)]) y PM y y (p8 y y y y) (oo y z7%ae (aC (pv 0) y) aj) (_a! [IV,Mg,Ri,I_,"ready",VD,_CC,_Ef,"user",IL,PL] (aR uU) [(IL,9,),(PL,10,)] (y,Ie,Ie,Ie,Ie)) (Xk%aeV (q:=2) y%gO (Wu 9 PM%aH y)%gO (Wu 10 PM%aH y) l2) (XY t9%eh%jF (pv 10)%pv 1)%XY pv 9)%ao (p7 (q:=4) (e:= [(IL,9,)]) y PM y y (p8 y y y y) (et%pv 3) (Xf [IV,Mg,Ri,I_,"ready",VD,_CC,_Ef,"user",IL,PL] (aR uU) IL 9 (y,Ie,Ie,Ie,Ie)) (Xc 9 PM%aH y) (XY t9%b9%aM zH (Jh Il) y aK%ae (pv 0)%ae (pv 9) aj)%XY pv 9)%ao (WS 5 PM (aH y) aF)%ao (WS 6 PM (aH y) aF)%ao (iU e0 (M'%ob (tV (pv 4) SJ)%oa%eh%ajj (pv 5)%pv 2)%ao (WS 7 PM (aH y)%cz (ab4 y) I5 z8 ado%ae (pv 4) aj)%ao (bI%ea d9 ax9 PySem.F.type_list_remove aqD (pv 4)%ae (pv 7) aj)%ao (bA (b9%aM Z L y aK%ae (pv 0)%ae (pv 7) aj) (ax%YS m4 6 PM y (aH y) aF) bM)%ao (YS m4 5 PM y (aH y) aF)%ax%eB e0 y (et%a8 bf (aC (pv 0) y) (pv 7) IB) (Wu 8 PM%aH y)%ax%bA (M'%ob (eh%jF (a8 bf (aC (pv 0) y) (pv 8) IB)%pv 1)%oa%b9%aM zH (Jh Il) y aK%ae (pv 0)%ae (pv 8) aj) (ax%bI%ea d9 fw fX fg (pv 4)%ae (pv 8) aj) bM)%ax%aI%hA%ae (pv 5)%ae (pv 6) aj,?_);dsimp only [bz,b?];let zaV:=ζ.fix.e?;let zaW:=mR l;(let zaa:∀{α:aa},H α=I->¬ MW w γ α:=λ{α} W z=>by let (zaX,zab,_):=ζ.wire;rcases z with z|z|z;{rw [z,ζ.obj] at W;cases W};{cbv};{let (za,υ):=JM z;let (m,zI):=dg υ%ζ.gY.q ζ.fix.len.J;let (zaY,P,_):=ζ.bm za α m υ zI;cbv});show qo%gw u ζ (gv y) Ii y _ (γ.lh,_,y,Iw%zj _ _ ζ.fix.me,λη zp=>aeU (r:=r) (u:=γ.lh) (α:=bx%f_ l) (λi d=>Go F H F d (·=η)/\d η=J%Ig%bx%MO (aN l) (λa=>aT (Kh=v)) i) (JI zj zp,ar) (λi d _ (g,_)=>Iw%g.y _ _ ζ.fix.me) ?_ ?_);{rintro i z zq zb zc ⟨σ,o⟩ zJ;let (a,Γ,rfl):=Fw zc;let zK:=(I! Γ).1;show (zq,_,y,Ju ar,y,_,_,y,_,_,y,y,y,?_);let k:=σ.q%ZD IC [Id K8, Id PV] σ.y zJ;(let zr:ak zb zq (IC [Id K8, Id PV]) η=J%Ig%bx%MO (aN l) (λa=>aT (Kh=v)) i:=_bv aq%aU o zJ);generalize ak zb zq (IC [Id K8, Id PV])=zs at k zr;show (_,y,_,y,_,_,y,y,_,y,cF JV JV);{let h:aT (Wc Kh=K?)=ag:=h;(let e:Kh=v:=Yx h);show (_,y,_,zr,?_,Ma%Kb JN y%b1 zj zp,?_);{rw [hh];have:=yE (aN l) (λa=>aT (Kh=v)) i;show ec Ih};{rw [ar,sC,qA Γ,aA%b8 e]}};{let h:¬ aT (Wc Kh=K?)=ag:=h;let e:¬ Kh=v:=λz=>h%b8 Ih;show (k,by rw [qA Γ,au (by simp [e])];show zr)}};rintro zb ⟨zac,zd⟩;rw [qB] at zd;let σ:Go F H F zb bO:=zac.an%YG (by rw [z];show zp);let zad:=ζ.go σ;let zae:=yE (aN l) (λa=>aT (Kh=v)) (aN l).a;(let zt:∀q,q∈MO (aN l) (λa=>aT (Kh=v)) (aN l).a->∃a,Wf%aN l=J a/\Kh=v:=λq zaf=>Zy (_,a,P,R) aeW.R zaf);let zL:(MO (aN l) (λa=>aT (Kh=v)) (aN l).a).am:=ax_.hw GB;let zM:∀(q:Nat) a,Wf%aN l=J a->Kh=v->q∈MO (aN l) (λa=>aT (Kh=v)) (aN l).a:=λq a P R=>aeW.mpr ((I! P).1,a,P,b8 R);generalize MO (aN l) (λa=>aT (Kh=v)) (aN l).a=zk at zd zae zt zL zM;generalize zag:(λq:Iu=>((Wf%aN l).o%dm N).az false)=zl;(let zu:∀(q:Nat) a,Wf%aN l=J a->zl q=dm N a:=λq a h=>IZ);show o_g ?_;show aqO ?_;show aqP ?_;show qo%oI (_,y,η,y,(_,Iw zd),λx Δ=>oj (r:=r) (u:=η) (α:=bx zk) (λi d=>Go F zb F d (·=x)/\d x=J%Ig%bx%(zk.Y i).bn zl) (JI σ.y Δ,ar) (λi d _ (g,_)=>Iw%Ra _ _ zd%aU zd Δ) ?_ ?_);{rintro i z zs zc ⟨k,zah⟩;let (B,φ,rfl):=uV zc;let zK:=(I! φ).1;let (a,Γ,_):=zt B%cm φ;let zai:=zad.go%Sg%YG _Gm;show (y,_,y,_,y,F,w,B,l,N,γ,a,y,JN,zai,Γ,λμ O=>(_,y,?_));let ν:=Ma%O.bv Ku;let χ:=O.ad _ _ zah id;rw [←LW φ,s7,ie,Ak,zu B a Γ];show cF JV JV;{rw [aA h];show (_,y,_,χ,?_,ν.q%Kb ν.y y%b1 σ.y Δ,?_);{rw [hh];have:=sQ zl%zk.Y i;rw [ho] at this;show ec Ih};{rw [ar,sC]}};{cbv}};rintro zs ⟨zaj,zN⟩;rw [hh,fz] at zN;let k:Go F H F zs bO:=σ.q%zaj.an%YG _Gm;let zv:=σ.bg _ Δ;let zm:=zaa zv;let zak:=b1 zj zv;dsimp only [bU,bz,b?];show (λm ψ d=>∃j ι c b θ ξ κ,ψ= [J%Ia w,J%Id K?,J%Id PX,J%Ia η,J%Ia x,J%Id%Wa j,J%Id%Wa ι,ξ,κ,I,I]/\m=s - j/\j<=s/\Go F H θ d%WE (MW w γ α∨α=x)/\θ x=I/\d x=J%Ig%bx b/\b2 β l c θ d w γ/\b.am/\(∀M,M∈b↔∃α,Wm%aN l=J α/\Um=v/\dm c α=ag)/\de l (aN l) v s N=((de l (aN l) v (s - j) c).1,(de l (aN l) v (s - j) c).2+j,)/\c.de=NC+ι/\c.ab.a<=J6+j,(s,0,0,N,zk.bn zl,F,I,I,y,Ih,cj _,(k.bv Ku),zak,zN,ζ.go k,zL.hw GB,We M,Io,y,bj _),?_);{lk};rintro m ψ μ ⟨j,ο,c,b,ze,ξ,κ,rfl,rfl,zaZ,O,zO,χ,zw,zf,Ξ,zx,za0,za1⟩;(let zam:YF M0:=by (have:=oG (m:=ey (aN l).a) zf%XR M X);lk);(let zP:de l (aN l) v s N=X6 c->bX (BX%bP (bH 5)%bP (bH 6) bY) {nx:=λw d=>S V.aV d,rt:=S} [J%Ia w,J%Id K?,J%Id PX,J%Ia η,J%Ia x,J%Id%Wa j,J%Id%Wa ο,ξ,κ,I,I] μ:=λe=>by show (_,y,_,y,f9 IZ,Wb zan zy);let ν:Go F H ze μ (MW w γ):=O.an%WO z%OX Ik λz=> Iy (by rw [z];show zv);let Φ:Go ze μ _ _ bO:=(Yd (IC [Id%Wa j, Id%Wa ο]) J2 zy).cm zy ar%b1 J2 zy;rw [e] at q;show q _ _ zan (ν.q%Φ.bv Ku) (zw.go Φ) ?_;rw [ar,Xo (c.de - NC) ο]);dsimp only [n!,tB];let em:BS r (Ia x) μ (!(bx b).bj):= Ik (_,Iw χ,y);cases b with|nil=>show (_,y,_,em,bt%bt%zP ?_);rw [zx,wt _ _ _ _ _%ai8 (λM X=>by have:=Ws (Ξ M) X;cases this)];simp|cons zao zap=>show (_,y,_,em,bu (_,y,_,y,_,_,y,y,_,y,cF JV JV));{let h:aT (Wc j<PX)=ag:=h;(let zaq:j<s:=Yx h);show (λzQ d=>∃t ι c b θ ξ κ,s - t<s - j/\zQ= [J%Ia w,J%Id K?,J%Id PX,J%Ia η,J%Ia x,J%Id%Wa t,J%Id%Wa ι,ξ,κ,I,I]/\t<=s/\Go F H θ d%WE (MW w γ α∨α=x)/\θ x=I/\d x=J%Ig%bx b/\b2 β l c θ d w γ/\b.am/\(∀M,M∈b↔∃α,Wm%aN l=J α/\Um=v/\dm c α=ag)/\de l (aN l) v s N=((de l (aN l) v (s - t) c).1,(de l (aN l) v (s - t) c).2+t,)/\c.de=NC+ι/\c.ab.a<=J6+t,WP zQ (t,ι,c,b,θ,ξ,κ,P,R,Θ) (_,P,t,ι,c,b,θ,ξ,κ,R,y,Θ),?_);generalize zar:zao::zap=b at Ξ zf χ zam;(let zas:0<M0:=by rw [←zar];simp);(let zR:μ x=J%Ig%(b.o λn:Iu=>Wc n).o Iz:=by rw [←ae2];show χ);dsimp only [bz,b?,bU,dq];show (_,y,x,_,y,Iw zR,Io,Wd za2 zat zau);let (B,φ,rfl):=Kl zat;let (a,Ψ,zav,zS):=(Ξ B).R φ;let (M,X):=JM φ;(let zaw:∀za∈b,B<=za:=λza υ=>by have:=zau _%lE υ;lia);let za3:=(I! X).1;let (zax,zay):=ae1 zf X;show (_,y, Ik (y,_,Iw χ),_,y,x,_,_,M,y,y,zR,_Gc,Wj m za zI υ,?_);{rw [bL] at υ;let (zaz,zz,rfl):=LS υ;intro z;(let z:zaz=B:=Ih);rw [z] at zz;have:=(mI (I! zz).1 zf).R%zz.q X.J;lia};(let zaA:((b.o λn:Iu=>Wc n).ay M).o Iz=bx%Oc M:=by rw [ae2,Fs (λn:Iu=>Wc n) b M]);rw [zaA];let zT:Go ze μ ze (ak μ x%Ig%bx%Oc M) (·=x):= Kb J2 y zO;let zU:=zw.oP zT%X7 W z%zm _Db;let ν:=MU%zT.bv%YG z;let zA:ak μ x (Ig%bx%Oc M) x=J%Ig%bx%Oc M:=ar;generalize ak μ x (Ig%bx%Oc M)=za4 at ν zU zA;show (_,y,_,y,ze,w,B,l,c,γ,a,y,ν.y,zU,Ψ,zS,Ih,λτ C Φ Ω=>(_,y,?_));let zV:=Φ.ad _ _ zA zm;let zW:=Φ.off zO zA zV IZ;let zn:=ν.q%Φ.bv%_bt Ik z;let (zaB,za5,_,_):=jn Ψ;(let za6:_CD<=1:=by rcases qz ζ.fix.gp Ψ with ⟨e,_⟩|⟨z,e,_⟩<;>rw [e]<;>simp);generalize zg:hS l c a=π at Ω;(let zaC:π.de=NC+(ο+_CD):=by rw [←zg];unfold hS e7;change (hR _ _ _ _).de+(a.to.o _).a=_;rw [(rH _ _ _ _).2,aQ];lia);(let zaD:π.ab.a<=J6+(j+1):=by rw [←zg];unfold hS e7;change ((hR _ _ _ _).ab++a.to.o _).a<=_;rw [(rH _ _ _ _).1,cG,aQ];lia);(let zaE:v<c.bm.a:=by rw [zw.gY];show z');generalize zaF:(λM:Iu=>match (Wm (aN l)) with|J α=>aT (Um=v) && dm π α|I=>false)=δ;(let zB:∀(M:Nat) α,Wm%aN l=J α->δ M=(aT (Um=v) && dm π α):=λM α W=>by rw [←zaF];lk);let (zC,zX):=ai6 (G:=gD IW (bB IW) Jr) Ψ zav zaE zS ae4 Ξ zf (λM=>ae3 Jr) (aqR _ _) δ (by rw [zg];show zB) zax zay;rw [zg] at zC;(let zaG:de l (aN l) v s N=((de l (aN l) v (s - (j+1)) π).1,(de l (aN l) v (s - (j+1)) π).2+(j+1),):=by rw [zx,Xo (s - j) ((s - (j+1))+1),wu _ _ _ _ _%ai7 Ψ Ξ φ zaw,zg];lk);let (zY,zaH,zD):=Ω.fix.us B Jr zaB;(let zaI:YF (gD IW (bB IW) Jr).a:=_Gd);let zZ:∀M,M∈gD IW (bB IW) Jr->∃α,Wm%aN l=J α/\Jr∈α.S:=λM X=>(ae3 Jr).R X;generalize gD IW (bB IW) Jr=G at zC zX zD zaI zZ;(let za7:YF (Oc M).a:=IZ);(let z0:∀(E:Nat) (zE:Ends),(∀ε d,Go τ C τ d (·=x)->d x=J%Ig%bx (Oc M++G.bn δ)->zE.nx [J%Ia w,J%Id K?,J%Id PX,J%Ia η,J%Ia x,J%Id%Wa (j+1),J%Id%Wa E,J%Id%Wa B,ε,I,I] d)->bz (abA 5 (tC%Iz 1)%ipI λi M=>i+M) (BL (tR r%cR (dM r) (cy r (bH 0) Sl)%bH 7) (bU 8)%cc (n! (tB%abr (cR (dM r) (cy r (bH 0) O0)%bH 8)%bH 1)%tB%fc (yB β) [] E0%bP (bH 0)%bP (bH 8) bY) (dq%p4 r JT p5 (bH 4)%bP (bH 8) bY) cx) zE [J%Ia w,J%Id K?,J%Id PX,J%Ia η,J%Ia x,J%Id%Wa j,J%Id%Wa E,J%Id%Wa B,κ,I,I] C:=λE zE zaK=>by show (_,y,_,_,y,y,?_);show ma%oI%cX (gw u Ω (gv y) Ii y) (zn.y _ _ Ω.fix.aeH) (by rw [bL,zaH];rfl) (gv y) _ (zY,y,(_,Iw%zn.y _ _ zD),hx (r:=r) (f:=zY) (α:=bx G) (λi ψ d=>∃ε,ψ= [J%Ia w,J%Id K?,J%Id PX,J%Ia η,J%Ia x,J%Id%Wa (j+1),J%Id%Wa E,J%Id%Wa B,ε,I,I]/\Go τ C τ d (·=x)/\d x=J%Ig%bx (Oc M++(G.Y i).bn δ)) (κ,y, Ls zn.y,by rw [iI,Ak,fo];show zV) (λi ψ d _ (_,_,zaL,_)=>Iw%zaL.y _ _ zD) ?_ ?_);{rintro i z ψ z1 zc ⟨ε,rfl,ω,zh⟩;let (ρ,zo,rfl):=uV zc;let zK:=(I! zo).1;let z2:=Ω.oP ω%X7 W z%zm _Db;(obtain ⟨α,W⟩:∃α,(aN l)[ρ]?=J α:=by let (α,W,_):=zZ ρ%cm zo;show (α,W));let (zaM,za8,_):=jn W;(let za9:(bx (Oc M++(G.Y i).bn δ)).a<=480:=by rw [hh,cG];have:=sQ δ%G.Y i;rw [ho] at this;lia);(let stepT:δ ρ=ag->bx (Oc M++(G.Y i).bn δ)++ [Iz%Wa ρ]=bx (Oc M++(G.Y (i+1)).bn δ):=λh=>by rw [sC,iH,←LW zo,s7,ie,aA h];rfl);(let z3:δ ρ=false->bx (Oc M++(G.Y i).bn δ)=bx (Oc M++(G.Y (i+1)).bn δ):=λh=>by rw [←LW zo,s7,ie,au (by rw [h];show eT),Ak,fo]);dsimp only [bU,cc,n!,tB,cx,dq];show qx u z2 ω.y zaM (gv y) (gv y) _ (_,y,_,_,y,y,_,y,cF JV JV);{let h:aT (Zu b' l α.U=K?)=ag:=h;(let e:Um=v:=Yx h);show (_,y,_,y,τ,w,ρ,l,π,γ,α,y,ω.y,z2,W,λza_ z4=>(_,y,?_));let zF:=ω.q%z4.bv Ku;let zG:=z4.ad _ _ zh id;(let zaN:δ ρ=dm π α:=IZ);rw [←zaN];show cF JV JV;{show h_ (gv y) zG (_,y,_,zG,ec Ih,_,y,zF.q%Kb zF.y y zW,?_);rw [ar,stepT h]};{show (_,y,zF,IZ)}};{let h:¬ aT (Zu b' l α.U=K?)=ag:=h;let e:¬ Um=v:=λz=>h%b8 Ih;show bt (_,y,ω,IZ)}};{rintro ψ z1 ⟨ε,rfl,ω,zh⟩;rw [hh,fz] at zh;lk});let z5:∀(E:Nat),E=ο+_CD->∀ε d,Go τ C τ d (·=x)->d x=J%Ig%bx (Oc M++G.bn δ)->∃t ι c b θ ξ κ,s - t<s - j/\ [J%Ia w,J%Id K?,J%Id PX,J%Ia η,J%Ia x,J%Id%Wa (j+1),J%Id%Wa E,J%Iz%Wa B,ε,I,I]= [J%Ia w,J%Id K?,J%Id PX,J%Ia η,J%Ia x,J%Id%Wa t,J%Id%Wa ι,ξ,κ,I,I]/\t<=s/\Go F H θ d%WE (MW w γ α∨α=x)/\θ x=I/\d x=J%Ig%bx b/\b2 β l c θ d w γ/\b.am/\(∀M,M∈b↔∃α,Wm%aN l=J α/\Um=v/\dm c α=ag)/\de l (aN l) v s N=((de l (aN l) v (s - t) c).1,(de l (aN l) v (s - t) c).2+t,)/\c.de=NC+ι/\c.ab.a<=J6+t:=λE zaO ε d g T=>(j+1,E,π,_,τ,_,ε,Ih,y,zaq,zn.q%g.bv%YG z,zW,T,Ω.oP g%X7 W z%zm _Db,zX,zC,zaG,by rw [zaC,zaO],zaD);rcases qz ζ.fix.gp Ψ with ⟨zi,_⟩|⟨za',zi,_⟩;{rw [zi];show bt%z0 ο _ (λε d g T=>z5 ο _Gn ε d g T)};{rw [zi];show bu (_,y,_,_,y,y,z0 (ο+1) _ λε d g T=>z5 (ο+1) _Gn ε d g T)}};{let h:¬ aT (Wc j<PX)=ag:=h;(let e:j=s:=IZ);subst e;show zP ?_;rw [zx,af0,de];simp}
end TW
namespace TW
open Vaatta Vaattb Vaattd Vaattf Vaatts
theorem FA{f:Jc}{p q:QE}:∀{l:Ib f},(Y9 (p x=ag->q x=ag))->(QN p).a<=(QN q).a| [],_=>bj _|x::l,h=>by let c:=FA (l:=l) λA u=>h A%cL _ u;lk
theorem ae5{f:Jc}{p q:QE}:∀{l:Ib f},(Y9 (p x=ag->q x=ag))->∀A∈l,q A=ag->p A=ay->(QN p).a<(QN q).a|x::l,h,A,u,D,R=>by let V:=FA (l:=l) λz E=>h z%cL _ E;rw [ie,ie];rcases b0.R u with rfl|u;{lk};{let c:=ae5 (l:=l) (λz E=>h z%cL _ E) A u D R;lk}
def ia(P:bR)(N:bF):Nat:=((aN P).bn%jU N).a
theorem yH(P:bR)(N:bF):ia P N<=(aN P).a:=sQ _ _
section
variable {P:bR}(C:eU P)
include C
theorem aqT(i:UF=b3 P)(h:zn∈aN P):QP<UF:=by let (q,n):=JM h;rw [i,(jn n).2.1];show C.n4 _
theorem ae6(i:UF=b3 P)(h:zn∈aN P)(L:dm χ zn=ag):ia P%hS P χ zn<ia P χ:=by let S:=aqT C i h;show ae5 (Wd x _ a) zn h ?_ ?_;{unfold jU at a ⊢;rw [wq P χ zn S L] at a;lk};{unfold jU;rw [((mQ χ zn).R L).1];rfl};{unfold jU;rw [wq P χ zn S L,aA (y,y)];rfl}
theorem ae7:(hS P χ zn).eo=UF:=Bu _ _ _ _
theorem ae8(h:(aN P).cd (λzn=>QP==q && dm χ zn)=J zn):zn∈aN P/\dm χ zn=ag:=IZ
theorem FD(v:Nat):∀(n:Nat) (N:bF),N3=b3 P->(de P (aN P) v n N).1.eo=b3 P/\ia P (de P (aN P) v n N).1+(de P (aN P) v n N).2<=ia P N/\(de P (aN P) v n N).1.du<=J6+(de P (aN P) v n N).2/\((de P (aN P) v n N).2=0->(de P (aN P) v n N).1=N)|0,N,i=>by rw [de];cbv|n+1,N,i=>by cases h:(aN P).cd (λr=>r.aw==v && dm N r) with|none=>rw [wt _ _ _ _ _ h];cbv|some r=>let (D,R):=ae8 C h;let (T,Z,b,_):=FD v n (hS P N r)%(ae7 C).q i;let L:=ae6 C i D R;rw [wu _ _ _ _ _ h];show (T,?_,?_,ME);{dsimp only;lia};{dsimp only;(have:(hS P N r).du<=J6+1:=by unfold hS e7;change ((hR _ _ _ _).ab++_A0 _).a<=_;rw [(rH _ _ _ _).1,cG,aQ];let (q,a):=JM D;rcases qz C a with ⟨e,_⟩|⟨z,e,_⟩<;>rw [e]<;>simp);lia};{lia}
theorem ae9(v:Nat):∀(n:Nat) (N:bF),N3=b3 P->ia P N<=n->de P (aN P) v (n+1) N=de P (aN P) v n N|n,N,i,t=>by cases h:(aN P).cd (λr=>r.aw==v && dm N r) with|none=>rw [wt _ _ _ _ _ h,wt _ _ _ _ _ h]|some r=>let (D,R):=ae8 C h;let L:=ae6 C i D R;match n with|0=>lia|n+1=>rw [wu _ _ _ (n+1) _ h,wu _ _ _ n _ h,ae9 v n _ ((ae7 C).q i) Ih]
def hL(P:bR)(N:bF)(k:Nat):XQ bF:=(ey k).fp (λx w=>let A:=de P (aN P) w ((aN P).a+1) I6;(Lj,IY+Ly,)) (N,0,)
theorem FE(N:bF)(k:Nat):hL P N (k+1)=((de P (aN P) k ((aN P).a+1) (hL P N k).1).1,(hL P N k).2+(de P (aN P) k ((aN P).a+1) (hL P N k).1).2,):=by unfold hL;rw [qR,AF];rfl
theorem ae_(N:bF):workAll P (aN P) N=hL P N%b3 P:=y
theorem yI(N:bF)(i:N3=b3 P):∀k,(hL P N k).1.eo=b3 P/\ia P (hL P N k).1+(hL P N k).2<=ia P N/\(hL P N k).1.du<=J6+(hL P N k).2/\((hL P N k).2=0->(hL P N k).1=N)|0=>(i,bj _,bj _,SJ)|k+1=>by let (T,Z,d,a):=yI N i k;let (b,e,f,c):=FD C k ((aN P).a+1) _ T;rw [FE C];lk
end
theorem FF(N:bF)(l:Ib iJ)(v:Nat)(i:bT)(o:dk):hR {N with wire:=l} v i o={hR N v i o with wire:=l}:=by unfold hR b7;lk
def kr(N:bF)(i:Nat):bF:={(N.ab.Y i).fp g5 _El with wire:=N.ab.Q i}
theorem aqV(N:bF):kr N 0=N:=by unfold kr;rw [iI,af_];rfl
theorem aqW{m:iJ}(h:Wf _A1=J m):(kr χ q).ab[0]?=J m/\g5 {kr χ q with wire:=So (kr χ q).ab 0} m=kr χ (q+1):=by (let hd:V0 q=m::V0 (q+1):=by let (V,e):=I! h;rw [Hi V,e]);let S:(kr χ q).ab=m::V0 (q+1):=hd;show Wt _Ad;unfold g5;rw [S,FF];let Z:So (m::V0 (q+1)) 0=V0 (q+1):=y;rw [Z];unfold kr;rw [←LW h,AF];change _={g5 ((χ.ab.Y q).fp g5 {χ with wire:= []}) m with wire:=V0 (q+1)};rw [FF];rfl
theorem u0:∀(o:Ib iJ) (N:bF),(o.fp g5 N).ab=L6/\(o.fp g5 N).eo=N3| [],_=>(y,y)|m::o,N=>by rw [oX,(u0 o _).1,(u0 o _).2];show ((rH _ _ _ _).1,Bu _ _ _ _)
theorem aqX(N:bF):kr N J6=rm N:=by unfold kr rm;rw [fz,AE];have:=(u0 L6 _El).1;generalize N.ab.fp g5 _El=u at this;cases u;cbv
theorem aqY(a:bF)(v:Nat)(i:bT)(o:dk)(A:v<a.bm.a):ia ι%hR a v i o<=ia ι a:=FA (λx _ N=>by unfold jU at N ⊢;rw [Bt a v i o A] at N;lk)
theorem ae'{P:bR}:∀(o:Ib iJ) (N:bF),(∀m∈o,Mf<N3)->ia P%o.fp g5 N<=ia P N| [],_,_=>bj _|m::o,N,h=>by rw [oX];let D:=aqY (ι:=P) N Mf MC m.out%h m cA;(let R:=ae' (P:=P) o (g5 N m) (λx a=>by unfold g5;rw [Bu];cbv));show d8 R D
def mu(P:bR)(N:bF):Nat:=ia P N+(Wp N.ab.bj 0 1)
section
variable {P:bR}(C:eU P)
include C
theorem aqZ(i:UF=b3 P)(hd:∀m∈(workAll P (aN P) χ).1.ab,Mf<b3 P): (gk P (aN P) χ).1.eo=b3 P/\Wl (gk P (aN P) χ).1.ab/\(((gk P (aN P) χ).2.1=0/\(gk P (aN P) χ).2.2=0)->(gk P (aN P) χ).1=χ)/\(¬ ((gk P (aN P) χ).2.1=0/\(gk P (aN P) χ).2.2=0)->mu P (gk P (aN P) χ).1<mu P χ):=by let (T,Z,d,a):=yI C χ i%b3 P;rw [←ae_ C] at T Z d a;unfold gk;dsimp only;generalize workAll P (aN P) χ=x at T Z d a hd;let E:=u0 (I6).ab%_ax [];(let O:=ae' (P:=P) (I6).ab (_ax []) λm h=>Io);let f:ia P%_ax []=ia P I6:=y;let o:Wl (rm I6).ab:=E.1;show (by unfold rm;rw [E.2];show T,o,We (D,R),JV);{let c:=a D;let S:Wl (I6).ab:=nz R;unfold rm;rw [S];change _ax []=χ;rw [←S,←c]};{unfold mu;rw [o];(let b:ia P%rm I6<=ia P I6:=by unfold rm;show f▸O);lk}
end
end TW
namespace TW
open PySem PySem.Spec PyProof.Rows L2
def b2.aq0(w:b2 β ι χ g G f zr):∀m∈χ.wire,Mf<b3 ι:=λm i=>by let (o,_,r):=w.wire;let (k,a):=JM i;let (v,A):=dg a%b4 r;let (_,_,_,_,_,_,_,_,h):=dt r A a;show h
def aq1{R:Rl}(h:zo E g λC b=>∃M:Int,C= [Id M]/\-SE<=M/\M<SE/\R (l3 0 M.L) b):wF zo E g R:=h
def afa(a:WX):Sp:=_aP C H Q _ (C= [Ia x]/\IQ F H/\b2 a l N F H x f/\J6<=2000/\∀W d p,Go F H W d%MW x f->b2 a l (gk l (aN l) N).1 W d x f->W p=J%IC [Id%Wa (gk l (aN l) N).2.1, Id%Xj (gk l (aN l) N).2]->(∀m∈(HG l (aN l) N).1.ab,Mf<b3 l)->Q (Ia p) d)
theorem sD:a0 [IV,VD,Mg,"delivered",IL] Nz%aR Fg:=(y,y,y,Ie,y,Ie,Ie)
theorem aq2(ο:aW r V1 V1 Fg f Q)(u:WT r β)(ε:D Kp=I)(μ:D OO=I)(S:ID l p r D A aB 128 Ul [IV,Mg,Ri]%Fz β)(π:ID l p r D A aB 1 Uk [IV,JC]%Fu β):aJ l p r D A aB 129 f Q Nz%afa β:=by show ο.ok sD (Wr ρ (F,x,l,N,a,rfl,_)) λΞ T Φ s H C ρ Z L h=>?_;let (F,x,l,N,a,rfl,t,e,Ψ,q):=h;show (_,ao (WJ _A2 (aH y) aF)%ao (eB e0 y (BK I5 μ%ae (cz dr I5 ε c!%ae (aC (pv 0) y) aj) aj) (Wu 2 _A2%aH y)%ax%YS m4 1 _A2 y (aH y)%a8 hB (aM S L y aK%ae (pv 0)%ae (pv 2)%ae (cz dr I5 ε c!%ae (aC (pv 0) y) aj) aj) aF IB)%ao (WK _A2 (aH y)%cz dr I5 ε c!%ae (aC (pv 0) y) aj)%ao (eB e0 y (BK I5 μ%ae (pv 3) aj) (Wu 4 _A2%aH y)%ax%bI%aM π (Jh Il) y aK%ae (pv 0)%ae aF aj)%ax%aI%hA%ae (pv 1)%ae (pv 3) aj,?_);dsimp only [bz,b?,bU];let Ω:=_Cz;let za:=mR l;let σ:=qB l;let G:=e.fix.gp;let v:=e.fix.len;let zb:=yH l N;show ma%ZW wF _ _ _ _%gw u e (gv y) Ii y _ (a.lk,_,y, Ik%Iw%t _ _ e.fix.known,_,y,Ih,by rw [aQ];have:=G.e?;unfold b3 at v;lia,abC (γ:=0) (q:=(Wc (a.h!.o IP).a).L) (λi b γ=>∃o W,b= [J%Ia x,J%Id%Xj%hL l N i,o,I,I]/\Go F H W γ%MW x a/\b2 β l (hL l N i).1 W γ x a) (I,F,y, Ls t,e) ?_ ?_);{rintro i b M c ⟨o,B,rfl,w,g⟩;rw [eL,aQ,v] at c;let (O,ζ,η,E):=yI G N e.gY i;show (_,y,_,y,_,y,gw u g (gv y) Ii y _ (a.lh,_,y, Ik%Iw%w.y _ _ g.fix.me,B,x,l,(hL l N i).1,a,i,(bx%f_ l).a,_Gl,w.y,g,c,Ih,Ih,WM X n P k m d));(let τ:de l (aN l) i (bx%f_ l).a (hL l N i).1=de l (aN l) i ((aN l).a+1) (hL l N i).1:=by rw [σ,ae9 G i _ _ O%yH l _]);rw [τ] at m d;show (P,_,_,_,y,y,Ju%JN _ _ d,y,_,_,y,y,J%Iz (0+Wc i),X,?_,w.q k,?_);{rw [FE G];rfl};{rw [FE G];show m}};rintro b M ⟨o,B,rfl,w,g⟩;rw [eL,aQ,v] at g ⊢;let (O,ζ,η,E):=yI G N e.gY%b3 l;rw [←ae_ G] at g O ζ η E ⊢;let ν:=g.aq0;generalize υ:HG l (aN l) N=α at g O ζ η E ν q;(let z:gk l (aN l) N=(rm SW,Oh,(SW).du,):=by unfold gk;rw [υ]);rw [z] at q;let (δ,j,φ):=g.wire;let θ:=b4 φ;show gw u g (gv y) Ii y _ (a.lm,δ,y, Ik%Iw j,?_);dsimp only [bU,bz,b?];show ma%aq1 ?_;show ((_,y,_,y,Ih,Ih,abC (γ:=0) (q:=(Wc OV).L) (λi b γ=>∃ι W,b= [J%Ia x,J%Id%Xj α,o,J%Id%Wa OV,ι]/\Go F H W γ%MW x a/\b2 β l (kr SW i) W γ x a) (I,B,y,w,by rw [aqV];show g) ?_ ?_));{rintro i b n c ⟨ι,X,rfl,k,m⟩;rw [eL,θ] at c;obtain ⟨κ,χ⟩:∃κ,Wg (SW).ab=J κ:=(_,d1 c);let (ψ,R):=aqW χ;show (_,y,X,x,l,kr SW i,a,0,κ,y,JN,m,ψ,?_,λω zc Γ Δ=>(_,ω,y,Ma Γ,Io));change W1 ((SW).wire.drop i).a;rw [fF];lia};{rintro b n ⟨ι,X,rfl,k,m⟩;rw [eL,θ,aqX] at m;show (_,y,_,y,f9 Io,Yn P);let ξ:Go X n _ _ bO:=(Yd (IC [Id%Xj α, Id%Wa OV]) JN d).cm d ar%b1 JN d;show q _ _ P (Ma%ξ.bv%Wv Θ Θ.al) (m.go ξ) (by rw [ar,θ]) ν}
def aq3(a b j f:Int):iN (N_ [Id a, Id b])%N_ [Id j, Id f]=(aT (a=j) && aT (b=f)):=by change (iN (Id a)%Id j && (iN (Id b)%Id f && ag))=_;rw [vb];change ((a==j) && (b==f))=_;rw [GF,GF]
def afb(a:WX):Sp:=_aP C H Q _ (C= [Ia x]/\IQ F H/\b2 a l N F H x f/\J6<=2000/\∀W d p,Go F H W d%MW x f->b2 a l (iP l (aN l) ((aN l).a+3) N).1 W d x f->W p=J%IC [Id%Wa (iP l (aN l) ((aN l).a+3) N).2.1, Id%Xj (iP l (aN l) ((aN l).a+3) N).2]->Q (Ia p) d)
theorem qC:a0 [IV,"turns","delivered","turn"] Nz%aR Fh:=(y,y,y,Ie,y,Ie,Ie)
theorem aq4(ρ:aW r V2 V2 Fh f Q)(zk:WT r β)(θ:ID l p r D A aB 129 V1 Nz%afa β):aJ l p r D A aB 130 f Q Nz%afb β:=by show ρ.ok qC (Xh P σ (F,x,l,N,c,rfl,_)) λzl T zm zn H C P σ L h=>?_;let (F,x,l,N,c,rfl,τ,e,υ,q):=h;show (_,ao (WJ V3 (aH y) aF)%ao (Wq V3 (aH y) aF)%ao (WK V3 (aH y)%aM θ L y aK%ae (pv 0) aj)%ao (iU e0 (d4 (akP%r8 L) (pv 3) (hA%ae aF%ae aF aj)%c' _)%ao (YS m4 1 V3 y (aH y) aF)%ao (YS m4 2 V3 y (aH y)%a8 hB (pv 3) aF IB)%ax%WK V3 (aH y)%aM θ L y aK%ae (pv 0) aj)%ax%aI%hA%ae (pv 1)%ae (pv 2) aj,?_);dsimp only [bz,b?,bU];let G:=e.fix.gp;generalize ι:aN l=R at q;generalize φ:iP l R (R.a+3) N=Z at q;(let zo:mu l N<=R.a+1:=by unfold mu;have:=yH l N;lk);show (_,y,F,x,l,N,c,y,τ,e,υ,λS M i χ g ψ ω=>?_);show (λm κ d=>∃t dl a W b k,κ= [J%Ia x,J%Id%Wa t,J%Id%Wa dl,J%Ia b]/\m=mu l a/\mu l a<k/\Z=((iP l R k a).1,(iP l R k a).2.1+t,(iP l R k a).2.2+dl,)/\a.bm.a=b3 l/\(∀m∈(HG l (aN l) a).1.ab,Mf<b3 l)/\Go F H W d%MW x c/\b2 β l (gk l (aN l) a).1 W d x c/\W b=J%IC [Id%Wa (gk l (aN l) a).2.1, Id%Xj (gk l (aN l) a).2],(_,0,0,N,S,i,R.a+3,y,y,Ih,by rw [φ];rfl,e.gY,ω,χ,g,ψ),?_);rintro m κ n ⟨t,dl,a,X,Γ,k,rfl,rfl,zp,v,Δ,Θ,μ,δ,B⟩;let (ε,j,E,ζ):=aqZ G Δ Θ;obtain ⟨k,rfl⟩:∃Ξ,k=Ξ+1:=Xs%Wy k;rw [iP] at v;dsimp only at v;rw [ι] at ε j E ζ B δ;show (_,y,f9 Io,XO Φ);let ν:Go X n X (ak n b%IC [Id 0, Id 0]) bO:= JI Rb Φ;let O:=Se%ν.bv Ku;let u:=δ.go ν;let ξ:ak n b (IC [Id 0, Id 0]) b=J%IC [Id 0, Id 0]:=ar;let w:=J2 _ _ B;generalize ak n b (IC [Id 0, Id 0])=Ψ at O u ξ w;show (_,_, IC (Ju w)%I1 (Id _)%I1 (Id _) IR, IC (Ju ξ)%I1 (Id _)%I1 (Id _) IR,y,y,_,y,?_);rw [aq3];generalize zq:gk l R a=o at ε j E ζ B δ u w v;show cF JV JV;{(let ο:¬ ((JX).1=0/\(JX).2=0):=Zi (Ω,za));rw [au ο] at v;let zb:=ζ ο;show (λπ d=>∃t dl α W b k,mu l α<mu l a/\π= [J%Ia x,J%Id%Wa t,J%Id%Wa dl,J%Ia b]/\mu l α<k/\Z=((iP l R k α).1,(iP l R k α).2.1+t,(iP l R k α).2.2+dl,)/\α.bm.a=b3 l/\(∀m∈(HG l (aN l) α).1.ab,Mf<b3 l)/\Go F H W d%MW x c/\b2 β l (gk l (aN l) α).1 W d x c/\W b=J%IC [Id%Wa (gk l (aN l) α).2.1, Id%Xj (gk l (aN l) α).2],WP π (t,dl,α,W,b,k,zc,zd,V) (_,zc,t,dl,α,W,b,k,zd,y,V),?_);dsimp only [bz,b?,bU];show (_,y,_,_,y,y,_,y,_,y,Γ,_,_,_,y,y,Ju w,y,_,_,y,y,_,y,X,x,l,JW,c,y,J2,u,Io,λze zr s γ zf zg zh=>?_);show (t+1,dl+(JX).2,JW,ze,s,k,zb,y,Ih,?_,ε,zh,MU γ,zf,zg);lk};{(let z:(JX).1=0/\(JX).2=0:=Io);rw [aA z] at v;(let v:Z=(a,t,dl,):=by rw [v];simp);rw [v] at q;let zi:=E z;rw [zi] at u;show (_,y,_,y,f9 Io,Wb zj η);let γ:Go X Ψ _ _ bO:=(Yd (IC [Id%Wa t, Id%Wa dl]) J2 η).cm η ar%b1 J2 η;show q _ _ zj (MU%γ.bv Ku) (u.go γ) ar}
abbrev FG:aS:=IF 183
abbrev FH:aS:=IF 184
abbrev FI:aS:=IF 185
abbrev FJ:aS:=IF 186
abbrev FK:aS:=IF 187
abbrev FL:aS:=IF 188
abbrev FN:aS:=IF 189
abbrev FO:aS:=IF 190
abbrev FP:aS:=IF 191
abbrev FQ:aS:=IF 192
abbrev FR:aS:=IF 193
abbrev FT:aS:=IF 194
abbrev FU:aS:=IF 195
abbrev FV:aS:=IF 196
abbrev FW:aS:=IF 197
abbrev FX:aS:=IF 198
abbrev FY:aS:=IF 199
def dN(gv C:V)(A:aa)(q:V):Ib K1:= [(Jq,gv,),(Jn,C,),(LK, Ia A,),(IV,q,)]
def ks(a:WX)(i:aa)(k:Nat)(g:bR->bF->Ib Ix->bF × Ib Ix):Sp:=λC H Q _=>∃F x X gv A e o O P N f,C= [Ia x, Ia o]/\IQ F H/\H x=J%Iq i X%dN gv (Ia f.ta) A%Ia e/\F x=I/\H o=J%Ig%Lo Iz/\F o=I/\I'=k/\b2 a P N F H e f/\Xu J6/\∀W d l,Go F H W d%MW e f->H l=I->W l=I->d l=J%Ig%(g P N O).2.o Iz->b2 a P (g P N O).1 W d e f->Q (Ia l) d
structure DC(P:aP)(w:World)(b:aE)(S:ai->Im ah)(c:aO)(i:aa):Ir where
 t:TN b i [Jq,Jn,LK,IV]
 pl:ID P w b S c aB 1 Vm [IL,Px] xY
 full:ID P w b S c aB 1 Vn [PD] Eo
 yJ:cQ S "NO_SUCH_WORKER" _Da
 FZ:cQ S "NO_SUCH_MESSAGE" (-16)
 wf:cQ S "WIRE_IS_FULL" (-15)
 wm:cQ S "WRONG_MOST" (-14)
 nn:cQ S "NO_SUCH_NODE" (-10)
 na:cQ S "NO_SUCH_ATTRIBUTE" (-12)
 nk:cQ S "NOT_KNOWN" 1
 len:S Kp=I
def ints1(h:Pg=1):∃β,zk= [β]:=by match zk,h with| [β],_=>show (β,y)
theorem ints2(h:Pg=2):∃β d,zk= [β,d]:=by match zk,h with| [β,d],_=>cbv
theorem ints3(h:Pg=3):∃β d j,zk= [β,d,j]:=by match zk,h with| [β,d,j],_=>cbv
def gZ(a:Go Γ σ g G zT)(d:G f=I):Go Γ σ g (ak G f%Ig α) zT/\σ f=I/\g f=I/\Go g G g (ak G f%Ig α) bO:=(a.q%JI Lr d,Pr _ d,b1 Lr d, JI Lr d)
def u2(h:R E g λA M=>Wo 2/\∀p,M p=I->ε (Ia p)%ak M p%Ig [ζ,A]):iv (bP (tC ζ)%bP R bY) E g ε:=h
def ku(h:R E g λx M=>Ξ E M λA n=>zt [x,A] n ε τ):fc zt [] τ (bP R%bP Ξ bY) E g ε:=h
def yK{r:L2.TE}(h:R E g λx M=>Ξ E M λA n=>r E n λe f=>zt [x,A,e] f ε τ):fc zt [] τ (bP R%bP Ξ%bP r bY) E g ε:=h
theorem dP(h:q<=10):Wo q:=f9 Ih
def F0(P:bR)(N:bF)(O:Ib Ix):bF × Ib Ix:=match O with| [v]=>_ad (0<=v/\v<Zr P) (Zn RE JB [], [0,WB%b7 N JB],) P1|_=>Oz
theorem aq5:a0 [I4,I_] [I4,I_]%aR FU:=(y,y,y,Ie,y,Ie,Ie)
theorem aq6(η:aW r _CE _CE FU f Q)(E:WT r β)(G:DC l p r D A u)(θ:ID l p r D A aB 1 VW [IV,Mg]%aeS β):aJ l p r D A aB 131 f Q [I4,I_]%ks β u 1 F0:=by show η.ok aq5 (Xv ι ε Z (F,x,X,gv,P,e,o,O,l,N,b,rfl,_)) λξ T ο s H ι ε Z L h=>?_;let (F,x,X,π,P,e,o,O,l,N,b,rfl,t,z,ρ,κ,σ,g,d,τ,q):=h;let k:=Zq 2;show (_,ao (bA (eN%b9%aM Qx (k.u Il) y aK%ae (a8 bf (pv 1) aF IB)%ae (aC (aC (pv 0) y) y) aj) (ax%aI%bZ%ae (cg G.yJ y) aj) bM)%ax%aI%bZ%ae aF%ae (aM θ (k.u Il) y aK%ae (aC (pv 0) y)%ae (a8 bf (pv 1) aF IB) aj) aj,?_);dsimp only [bz,cc,tB,eA,bX,cx];let (v,rfl):=PN g;let B:∀{j:L2.St} {C:TE},j[1]?=J%J%Ia o->IA C j H%Id 0->IA (cR (dM r) (bH 1) C) j H%Id v:=λc R=>Yh 0 (gv c) κ R;let ζ:∀{j:L2.St},j[0]?=J%J%Ia x->IA (cy r (bH 0) IV) j H%Ia e:=λc=>gf (gv c) z Lh (Li _ Ii) y;let μ:=d.fix.len;show B y gc _%gw E d (ζ y) Ii y _ (v,b.lk,_,y,t _ _ d.fix.known,(_,y,?_));rw [aQ,μ];let q:∀W α a,Go F H W α%MW e b->H a=I->W a=I->α a=J%Ig%(ZA (0<=v/\v<QB) ((Zn RE JB []:bF),([0,WB%b7 N JB]:Ib Ix),) P1).2.o Iz->b2 β l (ZA (0<=v/\v<QB) ((Zn RE JB []:bF),([0,WB%b7 N JB]:Ib Ix),) P1).1 W α e b->ε (Ia a) α:=q;by_cases h:0<=v/\v<QB;{rw [b8 h];rw [aA h] at q;obtain ⟨n,rfl⟩:Y_ v:=Uu;rw [eL] at q;show bt%u2%ku%ζ y _%B y gc _ (F,e,l,N,b,n,y,t,d,Ih,λM S ν=>(dP Ih,W8 i));let (w,γ,m,δ):=W4 [Iz 0,Iz%WB%b7 N n] S i;show q F _ a w γ m ar%ν.go δ};{rw [bD h];rw [au h] at q;show bu (dP Io,W8 i);let (w,γ,m,δ):=W4 [Iz _Da] (YC%MW e b) i;show q F _ a w γ m ar%Od δ}
theorem F1(u:WT r β)(e:b2 β ι χ G g f zr)(a:IA R E g%Ia f)(q:ε (IJ%aT (500<_A3)) g):fc Eo [] τ (bP (cy r R PD) bY) E g ε:=by let (o,j,b):=e.wire;show qu%gw u e a Ii y _ (PK,o,y,j,?_);rw [b4 b];show q
theorem F2(u:WT r β)(e:b2 β ι χ G g f zr)(t:IQ G g)(p:IA Ξ E g%Id γ)(a:IA R E g%Ia f)(q:ε (IJ%aT (0<=γ/\γ<Zr ι)) g):fc xY [] τ (bP Ξ%bP (cy r R MB) bY) E g ε:=by show ku%p _%gw u e a Ii y _ (γ,zr.lk,_,y,t _ _ e.fix.known,?_);rw [aQ,e.fix.len];show q
theorem F3(u:WT r β)(e:b2 β ι χ G g f zr)(p:IA Ξ E g%Id γ)(a:IA R E g%Ia f)(q:ε (IJ%aT (0<=γ/\γ<Wa _A3)) g):fc xY [] τ (bP Ξ%bP (cy r R PD) bY) E g ε:=by let (o,j,b):=e.wire;show ku%p _%gw u e a Ii y _ (γ,PK,o,y,j,?_);rw [b4 b];show q
def yL(P:bR)(N:bF)(O:Ib Ix):bF × Ib Ix:=match O with| [v]=>W! (0<=v/\v<Zr P) (500<J6) (WU [-15]) (e7 N%hU (aN P) N JB, [0,WB%hU (aN P) N JB],) (WU P1)|_=>Oz
theorem aq7:a0 [I4,I_] [I4,I_]%aR FV:=(y,y,y,Ie,y,Ie,Ie)
theorem aq8(W:aW r _CF _CF FV f Q)(B:WT r β)(G:DC l p r D A u)(ζ:ID l p r D A aB 4 VZ [IV,Mg]%ae0 β):aJ l p r D A aB 131 f Q [I4,I_]%ks β u 1 yL:=by show Jb aq7 (Xv η θ Z (F,ε,X,gv,P,e,o,O,l,N,i,rfl,_)) λξ T ο s H η θ Z L h=>?_;let (F,ε,X,π,P,e,o,O,l,N,i,rfl,t,z,ρ,ι,σ,g,d,τ,q):=h;let k:∀{M},M<=5->dy M _:=λh=>Jh%d8 h Il;show (_,ao (bA (eN%b9%aM Qx (k Il) y aK%ae (a8 bf (pv 1) aF IB)%ae (aC (aC (pv 0) y) y) aj) (ax%aI%bZ%ae (cg G.yJ y) aj) bM)%ao (bA (b9%aM G.full (k Il) y aK%ae (aC (aC (pv 0) y) y) aj) (ax%aI%bZ%ae (cg G.wf y) aj) bM)%ax%aI%bZ%ae aF%ae (aM ζ (k Il) y aK%ae (aC (pv 0) y)%ae (a8 bf (pv 1) aF IB) aj) aj,?_);dsimp only [bz,cc,tB,eA,bX,cx];let (v,rfl):=PN g;let E:Y4 (SH=J%J%Ia o) (IA C α H%Id 0->IA (cR (dM r) (bH 1) C) α H%Id v):=λw R=>Yh 0 (gv w) ι R;let x:Y8 (SL=J%J%Ia ε) (IA (cy r (bH 0) IV) α H%Ia e):=λw=>gf (gv w) z Lh (Li _ Ii) y;show F2 B d t (E y gc) (x y) (_,y,?_);generalize j:yL l N Kv=κ at q;let j:(ZA (0<=v/\v<QB) (Wp (500<J6) (WU [-15]) (e7 N%hU (aN l) N JB,([0,WB%hU (aN l) N JB]:Ib Ix),)) P1)=κ:=j;by_cases h:0<=v/\v<QB;{rw [b8 h];rw [aA h] at j;show bt%F1 B d (x y) (_,y,cF Rt Rt);{rw [aA%cw R] at j;subst j;show (dP Io,W8 b);let (c,γ,m,δ):=W4 [Iz (-15)] (YC%MW e i) b;show q F _ a c γ m ar%Od δ};{rw [au%dY%Mx R] at j;subst j;obtain ⟨n,rfl⟩:Y_ v:=Uu;rw [eL] at q;show u2%ku%x y _%E y gc _ (F,e,l,N,i,n,y,t,d,Ih,Ih,λμ υ S ν=>(dP Ih,W8 b));let (c,γ,m,δ):=W4 [Iz 0,Iz%WB%hU (aN l) N n] S b;show q μ _ a c γ m ar%ν.go δ}};{rw [bD h];rw [au h] at j;subst j;show bu (dP Io,W8 b);let (c,γ,m,δ):=W4 [Iz _Da] (YC%MW e i) b;show q F _ a c γ m ar%Od δ}
def u3(P:bR)(N:bF)(_:Ib Ix):bF × Ib Ix:=let x:=iP P (aN P) ((aN P).a+3) N;(I6, [0,Wa SQ,Xj IY],)
theorem afc:a0 [I4,I_,"counts"] [I4,I_]%aR FW:=(y,y,y,Ie,y,Ie,Ie)
theorem aq9(W:aW r _CG _CG FW f Q)(S:WT r β)(G:DC l p r D A u)(j:ID l p r D A aB 130 V2 Nz%afb β):aJ l p r D A aB 131 f Q [I4,I_]%ks β u 0 u3:=by show Jb afc (Wr i (F,x,X,gv,w,e,o,O,l,N,b,rfl,_)) λγ T δ s H C i Z L h=>?_;let (F,x,X,ε,w,e,o,O,l,N,b,rfl,t,z,ζ,η,θ,ι,k,R,q):=h;show (_,ao (Wq afc.nd (aH y)%aM j L y aK%ae (aC (pv 0) y) aj)%ax%aI%bZ%ae aF%ae (a8 hB (pv 2) aF IB)%ae (a8 hB (pv 2) aF IB) aj,?_);dsimp only [bz,b?,bU,bX];show qu%gf (gv y) z Lh (Li _ Ii) y _ (F,e,l,N,b,y,t,k,Ih,WM B M c a g d);show (_,y,c,_,_,_,y,y,Ju%Lr _ _ d,y,_,y,c,_,_,_,y,y,Ju%Lr _ _ d,y,dP Io,Wb E n);let (α,v,m,P):=W4 [Iz 0,Iz%Wa (iP l (aN l) ((aN l).a+3) N).2.1,Iz%Xj (iP l (aN l) ((aN l).a+3) N).2] a n;show q B _ E α v m ar%g.go P
def afd(P:bR)(N:bF)(_:Ib Ix):bF × Ib Ix:=WU [0,WB%(aN P).bn%jU N,WB%(aN P).bn%dm N,Nc,Wa NC]
theorem afe:a0 [I4,I_,IV] [I4,I_]%aR FY:=(y,y,y,Ie,y,Ie,Ie)
theorem aq_(W:aW r _CH _CH FY f Q)(c:WT r β)(G:DC l p r D A u)(i:ID l p r D A aB 1 VX Nz%aeX β)(α:ID l p r D A aB 2 VY Nz%aeY β):aJ l p r D A aB 131 f Q [I4,I_]%ks β u 0 afd:=by show Jb afe (Wr w (F,x,X,gv,B,e,E,O,l,N,a,rfl,_)) λκ T S s H C w Z L h=>?_;let (F,x,X,μ,B,e,E,O,l,N,a,rfl,γ,z,ν,ξ,ο,g,d,R,q):=h;show (_,ao (Wq afe.nd (aH y)%aC (pv 0) y)%ax%aI%bZ%ae aF%ae (aM i (Jh Il) y aK%ae (pv 2) aj)%ae (aM α (Jh Il) y aK%ae (pv 2) aj)%ae (cz dr I5 Qr c!%ae (aC (pv 2) y) aj)%ae (aC (pv 2) y) aj,?_);dsimp only [bz,b?,bU,bX];show gf (gv y) z Lh (Li _ Ii) y _ (_,y,F,e,l,N,a,y,γ,d,λM b=>(_,y,F,e,l,N,a,y,b.y,Od b,Wb n k));let t:=b.q k;let m:=Od t;let (o,j,δ):=m.wire;show gw c m (gv y) Ii y _ (a.lm,o,y, Ik%Iw j,gw c m (gv y) Ii y _ (dP Io,Wb P ε));let (ζ,v,η,θ):=W4 [Iz 0,Iz%WB%(aN l).bn%jU N,Iz%WB%(aN l).bn%dm N,Iz%Wa o.a,Iz%Wa NC] (t.bv (N:=MW e a)%Wv ι ι.al) ε;show q F _ P ζ v η ?_%m.go θ;rw [ar,b4 δ];rfl
def yM(P:bR)(N:bF)(O:Ib Ix):bF × Ib Ix:=match O with| [v,m]=>W! (0<=v/\v<Zr P) (m<0∨1000<m) (WU [-14]) (YK 500 J6 (WU [-15]) (let x:=de P (aN P) JB m.L N;(I6, [0,Wa IY,(Wa ((I6).de - NC))],))) (WU P1)|_=>Oz
theorem yN:a0 [I4,I_,Mg,Ri,"counts"] [I4,I_]%aR FN:=(y,y,y,Ie,y,Ie,Ie)
theorem aq'(W:aW r _CI _CI FN f Q)(E:WT r β)(G:DC l p r D A u)(ο:cQ D "MOST_WORKED_OUT" 1000)(π:ID l p r D A aB 128 Ul [IV,Mg,Ri]%Fz β):aJ l p r D A aB 131 f Q [I4,I_]%ks β u 2 yM:=by show Jb yN (Wr ι (F,κ,X,gv,S,e,o,O,l,N,b,rfl,_)) λφ T χ s H C ι Z L h=>?_;let (F,κ,X,ψ,S,e,o,O,l,N,b,rfl,t,z,ω,μ,Γ,g,d,Δ,q):=h;let k:∀{M},M<=130->dy M _:=λh=>Jh%d8 h Il;show (_,ao (Wq yN.nd (aH y)%a8 bf (pv 1) aF IB)%ao (WK yN.nd (aH y)%a8 bf (pv 1) aF IB)%ao (bA (eN%b9%aM Qx (k Il) y aK%ae (pv 2)%ae (aC (aC (pv 0) y) y) aj) (ax%aI%bZ%ae (cg G.yJ y) aj) bM)%ao (bA (M'%m2 (d4 kU (pv 3) aF%c' _)%m1%d4 ka (pv 3) (cg ο y)%c' _) (ax%aI%bZ%ae (cg G.wm y) aj) bM)%ao (bA (b9%aM G.full (k Il) y aK%ae (aC (aC (pv 0) y) y) aj) (ax%aI%bZ%ae (cg G.wf y) aj) bM)%ao (Xd yN.nd (aH y)%aM π (k Il) y aK%ae (aC (pv 0) y)%ae (pv 2)%ae (pv 3) aj)%ax%aI%bZ%ae aF%ae (a8 hB (pv 4) aF IB)%ae (a8 hB (pv 4) aF IB) aj,?_);dsimp only [bz,b?,bU,cc,tB,eA,bX,cx,n?,hy];let (v,m,rfl):=ints2 g;let x:Y8 (SL=J%J%Ia κ) (IA (cy r (bH 0) IV) α H%Ia e):=λa=>gf (gv a) z Lh (Li _ Ii) y;show cX (q:=0) (ζ:= (Id v)) (gv y) μ y gc _ ?_;show cX (q:=1) (ζ:= (Id m)) (gv y) μ y gc _ ?_;show F2 E d t (gv y) (x y) (_,y,?_);generalize j:yM l N [v,m]=ν at q;let j:(ZA (0<=v/\v<QB) (Wp (m<0∨1000<m) (WU [-14])%YK 500 J6 (WU [-15]) ((de l (aN l) JB m.L N).1,([0,Xj%de l (aN l) JB m.L N,(Wa ((de l (aN l) JB m.L N).1.de - NC))]:Ib Ix),)) P1)=ν:=j;let no:∀{n:Int} {α:L2.St} {c:TE},WU MX=ν->IA c α H%Id n->iv (bP c bY) α H ι:=λ{n α c} ρ σ=>σ _ (dP Io,λi γ=>by subst ρ;let (w,δ,ε,ζ):=W4 [Iz n] (YC%MW e b) γ;show q F _ i w δ ε ar%Od ζ);by_cases h:0<=v/\v<QB;{rw [b8 h];rw [aA h] at j;show bt (_,y,_,_,y,y,_,y,cF (We a)%We a);{let a:=cw a;rw [aA%Ik a] at j;show bu%no j gc};let a:=dY%Mx a;show (_,y,_,_,y,y,_,y,cF Rt Rt);{let R:=cw R;rw [aA%Iy R] at j;show no j gc};let R:=dY%Mx R;rw [au Ih] at j;show F1 E d (x y) (_,y,cF (We η)%We η);{rw [aA%cw η] at j;show no j gc};rw [au%dY%Mx η] at j;subst j;obtain ⟨n,rfl⟩:Y_ v:=Uu;obtain ⟨θ,rfl⟩:Y_ m:=Xs m.L;rw [eL,eL] at q;show yK%x y _ (_,y,_,y,F,e,l,N,b,n,θ,y,t,d,Ih,Ih,Ih,WM τ Θ P B υ ξ);show (_,y,P,_,_,_,y,y,Ju%B.y _ _ ξ,y,_,y,P,_,_,_,y,y,Ju%B.y _ _ ξ,y,dP Io,Wb i γ);let (w,δ,ε,ζ):=W4 [Iz 0,Iz%Xj%de l (aN l) n θ N,Iz%Wa ((de l (aN l) n θ N).1.de - NC)] B γ;show q τ _ i w δ ε ar%υ.go ζ};{rw [bD h];rw [au h] at j;show bu%no j gc}
def yO(P:bR)(N:bF)(O:Ib Ix):bF × Ib Ix:=match O with| [v]=>W! (0<=v/\v<Nc) (500<J6) (WU [-15]) (match L6[JB]? with|J m=>(e7 N Uy, [0],)|I=>Oz) (WU [-16])|_=>Oz
theorem ara:a0 [I4,I_] [I4,I_]%aR FR:=(y,y,y,Ie,y,Ie,Ie)
theorem arb(W:aW r _CJ _CJ FR f Q)(B:WT r β)(G:DC l p r D A u)(κ:ID l p r D A aB 2 VV [IV,JC]%aeR β):aJ l p r D A aB 131 f Q [I4,I_]%ks β u 1 yO:=by show Jb ara (Xv μ ζ Z (F,η,X,gv,P,e,o,O,l,N,a,rfl,_)) λσ T τ s H μ ζ Z L h=>?_;let (F,η,X,υ,P,e,o,O,l,N,a,rfl,θ,z,φ,ν,χ,g,d,ψ,q):=h;let k:∀{M},M<=130->dy M _:=λh=>Jh%d8 h Il;show (_,ao (bA (eN%b9%aM Qx (k Il) y aK%ae (a8 bf (pv 1) aF IB)%ae (aC (aC (pv 0) y) y) aj) (ax%aI%bZ%ae (cg G.FZ y) aj) bM)%ao (bA (b9%aM G.full (k Il) y aK%ae (aC (aC (pv 0) y) y) aj) (ax%aI%bZ%ae (cg G.wf y) aj) bM)%ao (bI%aM κ (k Il) y aK%ae (aC (pv 0) y)%ae (a8 bf (pv 1) aF IB) aj)%ax%aI%bZ%ae aF aj,?_);dsimp only [bz,cc,tB,eA,bX,cx,dq];let (v,rfl):=PN g;let E:Y4 (SH=J%J%Ia o) (IA C α H%Id 0->IA (cR (dM r) (bH 1) C) α H%Id v):=λb R=>Yh 0 (gv b) ν R;let x:Y8 (SL=J%J%Ia η) (IA (cy r (bH 0) IV) α H%Ia e):=λb=>gf (gv b) z Lh (Li _ Ii) y;show F3 B d (E y gc) (x y) (_,y,?_);generalize j:yO l N Kv=t at q;let j:(ZA (0<=v/\v<Nc) (Wp (500<J6) (N,([-15]:Ib Ix),) (match L6[JB]? with|J ξ=>(e7 N SX, [0],)|I=>Oz)) [-16])=t:=j;let no:∀{n:Int} {α:L2.St} {c:TE},WU MX=t->IA c α H%Id n->iv (bP c bY) α H ζ:=λ{n α c} ο π=>π _ (dP Io,λi γ=>by subst ο;let (w,δ,m,ε):=W4 [Iz n] (_b0 (MW e a) θ) γ;show q F _ i w δ m ar%Od ε);by_cases h:0<=v/\v<Nc;{rw [b8 h];rw [aA h] at j;show bt%F1 B d (x y) (_,y,cF Rt Rt);{rw [aA%cw R] at j;show no j gc};rw [au%dY%Mx R] at j;obtain ⟨n,rfl⟩:Y_ v:=Uu;(let ι:n<J6:=Ih);rw [eL,d1 ι] at j;let j:(e7 N [L6[n]],([0]:Ib Ix),)=t:=j;subst j;show ku%x y _%E y gc _ (F,e,l,N,a,n,L6[n],y,θ,d,d1 ι,Ih,λω S ρ=>(dP Io,Wb i γ));let (w,δ,m,ε):=W4 [Iz 0] S γ;show q F _ i w δ m ar%ρ.go ε};{rw [bD h];rw [au h] at j;show bu%no j gc}
def yP(P:bR)(N:bF)(O:Ib Ix):bF × Ib Ix:=match O with| [v]=>_ad (0<=v/\v<Nc) (YT JB, [0],) [-16]|_=>Oz
theorem arc:a0 [I4,I_] [I4,I_]%aR FT:=(y,y,y,Ie,y,Ie,Ie)
theorem ard(W:aW r _CK _CK FT f Q)(B:WT r β)(G:DC l p r D A u):aJ l p r D A aB 131 f Q [I4,I_]%ks β u 1 yP:=by show Jb arc (Xv η θ Z (F,x,X,gv,P,e,ε,ι,l,N,a,rfl,_)) λο T π s H η θ Z L h=>?_;let (F,x,X,ρ,P,e,ε,ι,l,N,a,rfl,t,z,σ,κ,τ,g,d,υ,q):=h;show (_,ao (bA (eN%b9%aM Qx (Jh Il) y aK%ae (a8 bf (pv 1) aF IB)%ae (aC (aC (pv 0) y) y) aj) (ax%aI%bZ%ae (cg G.FZ y) aj) bM)%ao (bI%ea d9 vz Hs ab2 (aC (aC (pv 0) y) y)%ae (a8 bf (pv 1) aF IB) aj)%ax%aI%bZ%ae aF aj,?_);dsimp only [bz,cc,tB,eA,bX,cx,dq];let (v,rfl):=PN g;let E:∀{M:L2.St} {C:TE},M[1]?=J%J%Ia ε->IA C M H%Id 0->IA (cR (dM r) (bH 1) C) M H%Id v:=λb R=>Yh 0 (gv b) κ R;let ζ:∀{M:L2.St},M[0]?=J%J%Ia x->IA (cy r (bH 0) IV) M H%Ia e:=λb=>gf (gv b) z Lh (Li _ Ii) y;show F3 B d (E y gc) (ζ y) (_,y,?_);generalize j:yP l N Kv=μ at q;let j:(ZA (0<=v/\v<Nc) ((YT JB:bF),([0]:Ib Ix),) [-16])=μ:=j;by_cases h:0<=v/\v<Nc;{rw [b8 h];rw [aA h] at j;obtain ⟨n,rfl⟩:Y_ v:=Uu;rw [eL] at j;subst j;let (o,α,S):=d.wire;let φ:=b4 S;obtain ⟨O,ν⟩:∃O,Xm o=J O:=(o[n]'Ih,d1 Ih);let (ξ,k):=d.aeQ t α n;show bt%gw B d (ζ y) Ii y _ ?_;show (Ik (y,_,Iw α),E y gc _ (a.lm,o,_,n,O,y,y,α,Ih,Ih,(wU%Fn Ih).1,ν,dP Io,Wb c i));let (w,γ,m,δ):=W4 [Iz 0] k i;show q F _ c w γ m ar%ξ.go δ};{rw [bD h];rw [au h] at j;subst j;show bu (dP Io,Wb c i);let (w,γ,m,δ):=W4 [Iz (-16)] (YC%MW e a) i;show q F _ c w γ m ar%Od δ}
def iE(W:dD)(n k:Int):Im Ix:=W! (0<=n/\n<Wa P_) (0<=k/\k<WB%gh W Ln) I (J (-12))%J (-10)
def F4(b:WX):Sp:=λC H Q _=>∃F R o O d g r W n k,C= [Ia R, Id n, Id k]/\IQ F H/\md b W F R o O d g r/\Q (match iE W n k with|J e=> Id e|I=> IK) H
theorem arf:a0 [Jn,Ka,K6] [Jn,Ka,K6]%aR FG:=(y,y,y,Ie,y,Ie,Ie)
theorem arh(M:aW r Uo Uo FG f Q)(a:WT r β)(G:DC l p r D A u):aJ l p r D A aB 2 f Q [Jn,Ka,K6]%F4 β:=by show M.ok arf (Wr i (F,V,o,O,α,g,b,W,n,k,rfl,_)) λθ T S s H C i Z L h=>?_;let (F,V,o,O,α,g,b,W,n,k,rfl,t,e,q):=h;show (_,ao (bA (eN%b9%aM Qx L y aK%ae (pv 1)%ae (aC (pv 0) y) aj) (ax%aI%cg G.nn y) bM)%ao (bA (eN%b9%aM Qx L y aK%ae (pv 2)%ae (aC (a8 bf (aC (pv 0) y) (pv 1) IB) y) aj) (ax%aI%cg G.na y) bM)%ax%aI iT,?_);dsimp only [bz,cc,tB,eA,bX,cx];let (ι,j):=e.obj;let (X,w,γ):=e.nodes;let (κ,δ,d):=e.syms;let B:=b4 γ;unfold iE at q;show ku (_,y,gf (gv y) (t _ _ j) _CL (_CM _ Ii) y _ (n,o,_,y,t _ _ w,(_,y,?_)));rw [aQ,B];by_cases h:0<=n/\n<Wa P_;{rw [b8 h];rw [aA h] at q;obtain ⟨m,rfl⟩:_an n OJ:=Xs Ln;rw [eL] at q;(let ε:m<M0:=by rw [_AR];lia);obtain ⟨v,c⟩:∃v,b[m]?=J v:=(_,d1 ε);let (μ,x):=dg c%b4 d;let (z,ν,ld,ξ,E,rfl,N,_,_,P):=dt d x c;let ζ:(gh W m).a=(v.db++v.ups).a:=e.so.cnt c;show bt%ku (_,y,gf (cX (gf (gv y) (t _ _ j) _CL (_CM _ Ii) y) (t _ _ δ) x%gv y) (t _ _ N) a.g.s.cl (a.g.s.no _ Ii) y _ (k,E,_,y,t _ _ P,(_,y,?_)));(let η:(cb (v.db++v.ups)).a=(v.db++v.ups).a:=_Fp);rw [η,←ζ];by_cases R:0<=k/\k<WB%gh W m;{rw [b8 R];rw [aA R] at q;show bt q};{rw [bD R];rw [au R] at q;show bu q}};{rw [bD h];rw [au h] at q;show bu q}
theorem F5(h:iE zh γ zu=I):∃m M:Nat,γ=OJ/\zu=Wa M/\(m,M,)∈bB zh:=by unfold iE at h;split at h;{rename_i D;split at h;{rename_i R;show (RU,zu.L,Ih,Ih,pP.mpr%Wt Ih);change zu.L<(gh zh RU).a;lia};{cases h}};{cases h}
theorem aff{b:Ib eo}{tk:TE}(a:WT r β)(e:md β zh G f u W ο zd b)(t:IQ G g)(c:IA R E g%Ia f)(p:IA Ξ E g%Id Mm)(x:IA tk E g%Id%Wa Z)(h:(q,Z,)∈bB zh): IA (cR (jH λv Z=>Iz (v+Z)) (cR (dM r) (cy r R NU) Ξ) tk) E g (Id%Yl zh (q,Z,)):=by let (d,j):=e.obj;let n:=(pP.R h).1;intro z A;show cX (q:=q) (ζ:=Iz%Ze zh q) (gf c (t _ _ j) _CL (_CM _ Ii) y) (t _ _ e.firsts) (by unfold la;rw [bL,vi n];rfl) p _%x _ (_,_,y,y,?_);(have:Zu Jp zh q+Wa Z=Yl zh (q,Z,):=by unfold ix;cbv);cbv
def yQ(P:bR)(N:bF)(O:Ib Ix):bF × Ib Ix:=match O with| [n,k]=>(N,match iE LB n k with|J r=> [r]|I=>match (aN P)[ix LB (Ln,k.L,)]? with|J r=>0::Wa LQ::_A0 (λv:Iu=>Wc v)|I=> [],)|_=>Oz
theorem yR:a0 [I4,I_,"refusal",JJ,Na] [I4,I_]%aR FL:=(y,y,y,Ie,y,Ie,Ie)
theorem ari(W:aW r _CN _CN FL f Q)(E:WT r β)(G:DC l p r D A u)(σ:ID l p r D A aB 2 Uo [Jn,Ka,K6]%F4 β):aJ l p r D A aB 131 f Q [I4,I_]%ks β u 2 yQ:=by show Jb yR (Xv τ υ φ (F,x,X,gv,P,e,o,O,l,N,a,rfl,_)) λω T Γ s H τ υ φ L h=>?_;let (F,x,X,Δ,P,e,o,O,l,N,a,rfl,t,z,Θ,ι,Ξ,g,d,Φ,q):=h;show (_,ao (Wq yR.nd (aH y)%aM σ (Jh Il) y aK%ae (aC (pv 0) y)%ae (a8 bf (pv 1) aF IB)%ae (a8 bf (pv 1) aF IB) aj)%ao (bA (eh%pW%pv 2) (ax%aI%bZ%ae (pv 2) aj) bM)%ao (WK yR.nd (aH y)%d? jd (a8 bf (aC (aC (pv 0) y) y) (a8 bf (pv 1) aF IB) IB)%a8 bf (pv 1) aF IB)%ao (Xd yR.nd (aH y)%a8 bf (aC (aC (pv 0) y) y) (pv 3) IB)%ao (bA (eh%lZ%pv 4) (ax%aI%bZ%ae aF%ae (a8 bf (aC (aC (pv 0) y) y) (pv 3) IB) aj) bM)%ax%aI%bZ%ae aF%ae (a8 bf (aC (aC (pv 0) y) y) (pv 3) IB)%ae (pv 4) aj,?_);dsimp only [bz,b?,bU,cc,tB,bX,cx];let (n,k,rfl):=ints2 g;let η:Y8 (SL=J%J%Ia x) (IA (cy r (bH 0) IV) α H%Ia e):=λb=>gf (gv b) z Lh (Li _ Ii) y;let κ:Y8 (SL=J%J%Ia x) (IA (cy r (bH 0) Jn) α H%Ia a.ta):=λb=>gf (gv b) z Lh (Li _ Ii) y;let μ:Y4 (SH=J%J%Ia o) (IA C α H%Id 0->IA (cR (dM r) (bH 1) C) α H%Id n):=λb R=>Yh 0 (gv b) ι R;let ν:Y4 (SH=J%J%Ia o) (IA C α H%Id 1->IA (cR (dM r) (bH 1) C) α H%Id k):=λb R=>Yh 1 (gv b) ι R;show yK%κ y _%μ y gc _%ν y gc _ (F,a.ta,a.ln,a.qw,a.lf,a.li,a.ss,IW,n,k,y,t,_CO,?_);generalize j:yQ l N [n,k]=χ at q;let j:(N,match iE IW n k with|J c=> [c]|I=>match (aN l)[ix IW (Ln,k.L,)]? with|J c=>0::Wc c.aw::c.to.o (λv:Iu=>Wc v)|I=> [],)=χ:=j;cases θ:iE l.x n k with|some c=>rw [θ] at j;subst j;show (_,y,_,y,bu (_,y,dP Io,Wb i w));let (B,γ,m,δ):=W4 [Iz c] (YC%MW e a) w;show q F _ i B γ m ar%Od δ|none=>rw [θ] at j;let (ε,M,rfl,rfl,ξ):=F5 θ;rw [eL,eL] at j;let ζ:=lW ξ;let (c,ο,ψ,π,Ψ,_):=wx l _ (ε,M,) ζ;rw [ο] at j;subst j;show (_,y,_,y,bt%aff E _CO t (κ y) (μ y gc) (ν y gc) ξ _ ?_);show cX (q:=ix IW (ε,M,)) (ζ:=ll l (ε,M,)) (gw E d (η y) Ii y) (t _ _ d.fix.jS) (by unfold jS;rw [bL,ζ];rfl) (gv y) _ (_,y,_,y,?_);let ρ:=qz d.fix.gp ο;rw [ψ] at ρ;rcases ρ with ⟨S,Z⟩|⟨v,S,Z,_⟩;{rw [Z];show bu%u2%qx E d t ζ (η y) (gv y) _ (dP Ih,Wb i w);let (B,γ,m,δ):=W4 [Iz 0,Iz%X2 l (ε,M,)] (YC%MW e a) w;show q F _ i B γ m ?_%Od δ;rw [ar];cbv};{rw [Z];show bt%ZW iv _ _ _ _%qx E d t ζ (η y) (gv y) _ (_,y,dP Io,Wb i w);let (B,γ,m,δ):=W4 [Iz 0,Iz%X2 l (ε,M,),Iz K?] (YC%MW e a) w;show q F _ i B γ m ?_%Od δ;rw [ar];lk}
def u4(h:R E g λx M=>Ξ E M λA n=>Wo 2/\∀p,n p=I->ε (Ia p)%ak n p%Ig [x,A]):iv (bP R%bP Ξ bY) E g ε:=h
def u5(h:R E g λx M=>Ξ E M λA n=>z7 x A n ε):cR z7 R Ξ E g ε:=h
def yS(D:aa):Sp:=λC H Q _=>∃F v o,C= Kv/\IQ F H/\eY D F v o/\ez o/\∀d l,Go F H F d bO->H l=I->d l=J%Ig%o.fw.o Iz->Q (Ia l) d
def F6(b:WX)(i:aa):Sp:=λC H Q _=>∃F x X gv q A W R o O k g r d,C= [Ia x, Id%Yl W d]/\IQ F H/\H x=J%Iq i X%dN gv (Ia R) A q/\md b W F R o O k g r/\d∈bB W/\∀l,H l=I->Q (Ia l)%ak H l%Ig [Id%Wa d.1, Id%Xj d]
theorem afg:a0 [I4,IL,JJ] [I4,IL]%aR FO:=(y,y,y,Ie,y,Ie,Ie)
theorem arj(i:aW r Up Up FO f Q)(a:WT r β)(G:DC l p r D A u):aJ l p r D A aB 1 f Q [I4,IL]%F6 β u:=by show i.ok afg (Wr w (F,x,X,gv,q,M,W,R,o,O,k,g,B,α,rfl,_)) λγ T P s H C w Z L h=>?_;let (F,x,X,δ,q,M,W,R,o,O,k,g,B,α,rfl,t,z,e,b,E):=h;show (_,ao (Wq afg.nd (aH y)%a8 bf (aC (aC (pv 0) y) y) (pv 1) IB)%ax%aI%bZ%ae (aC (pv 2) y)%ae (aC (pv 2) y) aj,?_);dsimp only [bz,b?,bU,bX];let (S,j):=e.obj;let (ε,V,n):=e.insts;let (v,c):=dg (lW b)%b4 n;let (ζ,η,θ,m,d,rfl,N,_):=dt n c%lW b;show cX (gf (gf (gv y) z Lh (Li _ Ii) y) (t _ _ j) _CL (_CM _ Ii) y) (t _ _ V) c (gv y) _ ?_;show u4%gf (gv y) (t _ _ N) a.i.cl (a.i.no _ Ii) y _%gf (gv y) (t _ _ N) a.i.cl (a.i.no _ Ii) y _ (dP Ih,E)
def u6(P:bR)(N:bF)(O:Ib Ix):bF × Ib Ix:=match O with| [v]=>_ad (0<=v/\v<Nc) (match L6[JB]? with|J m=>(g5 (YT JB) m, [0,MV,OB,OA,_bh (cJ (b7 N Mf) MC).as 0],)|I=>Oz) [-16]|_=>Oz
theorem F7:a0 [I4,I_,Rh,"fresh"] [I4,I_]%aR FQ:=(y,y,y,Ie,y,Ie,Ie)
theorem ark(W:aW r _CP _CP FQ u Q)(b:WT r β)(G:DC l p r D A f)(Ω:ID l p r D A aB 1 Uk [IV,JC]%Fu β)(za:ID l p r D A aB 1 Up [I4,IL]%F6 β f):aJ l p r D A aB 131 u Q [I4,I_]%ks β f 1 u6:=by show Jb F7 (Z_ zb δ zc zd (F,x,X,gv,τ,e,o,O,l,N,a,rfl,_)) λzx zy zz s δ zb zc zd ze h=>?_;let (F,x,X,T,τ,e,o,O,l,N,a,rfl,t,w,zA,zf,zB,zg,d,zC,ι):=h;let k:∀{υ},υ<=130->dy υ _:=λh=>ze.u%d8 h Il;show (_,ao (bA (eN%b9%aM Qx (k Il) y aK%ae (a8 bf (pv 1) aF IB)%ae (aC (aC (pv 0) y) y) aj) (ax%aI%bZ%ae (cg G.FZ y) aj) bM)%ao (Wq F7.nd (aH y)%a8 bf (aC (aC (pv 0) y) y) (a8 bf (pv 1) aF IB) IB)%ao (WK F7.nd (aH y)%l0 (b9%aM Ω (k Il) y aK%ae (aC (pv 0) y)%ae (a8 bf (pv 1) aF IB) aj) aF aF)%ax%aI%d? rV (d? rV (bZ%ae aF%ae (aC (pv 2) y) aj)%aM za (k Il) y aK%ae (pv 0)%ae (aC (pv 2) y) aj)%bZ%ae (pv 3) aj,?_);dsimp only [bz,b?,bU,cc,tB,eA,bX,cx,tO];let (v,rfl):=PN zg;let B:Y4 (SH=J%J%Ia o) (IA C α δ%Id 0->IA (cR (dM r) (bH 1) C) α δ%Id v):=λi zh=>Yh 0 (gv i) zf zh;let κ:Y8 (SL=J%J%Ia x) (IA (cy r (bH 0) IV) α δ%Ia e):=λi=>gf (gv i) w Lh (Li _ Ii) y;show F3 b d (B y gc) (κ y) (_,y,?_);generalize j:u6 l N Kv=φ at ι;let j:(ZA (0<=v/\v<Nc) (match L6[JB]? with|J m=>(g5 (YT JB) m,([0,Wc Mf,Wc _A!,Wc (MC).2,_bh (cJ (b7 N Mf) MC).as 0]:Ib Ix),)|I=>Oz) [-16])=φ:=j;by_cases h:0<=v/\v<Nc;{rw [b8 h];rw [aA h] at j;obtain ⟨n,rfl⟩:Y_ v:=Uu;(let zi:n<J6:=Ih);obtain ⟨m,ε⟩:∃m,Xm L6=J m:=(_,d1 zi);rw [eL,ε] at j;generalize γ:(Ww (cJ (b7 N Mf) MC).as (Wi 0) 1)=ζ at j;let j:(g5 (YT n) m,([0,Wc Mf,Wc _A!,Wc (MC).2,ζ]:Ib Ix),)=φ:=γ▸j;subst j;let (zD,μ,χ):=d.wire;let (zE,ψ):=dg ε%b4 χ;let (zF,zG,zH,rfl,zj,zI,zJ,zk,zK):=dt χ ψ ε;show bt%cX (gw b d (κ y) Ii y) μ ψ (B y gc) _ ?_;show ku%κ y _%B y gc _ (F,e,l,N,a,n,m,y,t,d,ε,Ih,λω M c g=>(_,y,?_));(let zl:¬ MW e a x:=λz=>by rcases z with z|z|z;{have:=d.obj;rw [←z,w] at this;cases this};{cbv};{let (zm,L):=JM z;let (zn,zo):=dg L%d.gY.q d.fix.len.J;let (zL,i,_):=d.bm zm x zn L zo;cbv});let zp:=T_ _ _ w zl;let Γ:=c.y _ _%c.ext _ _ zj;(let zq:∀{α:L2.St} {R:VK},R (Id ζ) M->Ww (!(cJ (b7 N Mf) MC).as) (tC (Id 1) α M R)%tC (Id 0) α M R:=λ{α R} η=>by cases Δ:(cJ (b7 N m.dst) m.U).as with|true=>rw [Δ] at γ;rw [←γ] at η;show bt η|false=>rw [Δ] at γ;rw [←γ] at η;show bu η);show zq ?_;show u5%u5%u2%gf (gv y) Γ b.m.cl (b.m.no _ Ii) y _ (dP Ih,Wb q zr);let H:=Yd (Ig [Id 0, Id MV]) c.y zr;let ν:ak M q (Ig [Id 0, Id MV]) q=J%Ig [Id 0, Id MV]:=ar;generalize zM:ak M q (Ig [Id 0, Id MV])=ξ at H ν;(let zN:ξ q≠I:=Io);show ku (_,y,gf (gv y) (H.ad _ _ Γ id) b.m.cl (b.m.no _ Ii) y _ (ω,x,X,T, Ia e,τ,IW,a.ta,a.ln,a.qw,a.lf,a.li,a.ss,MC,y,H.y,H.ad _ _ zp id,g.fix.tree,zk,Wb θ zs));let Z:=Yd (Ig [Id OB, Id OA]) H.y zs;let Θ:ak ξ θ (Ig [Id OB, Id OA]) θ=J%Ig [Id OB, Id OA]:=ar;generalize ak ξ θ (Ig [Id OB, Id OA])=zt at Z Θ;show (q,θ,_,_,y,y,Z.ad _ _ ν id,Θ,dP Io,Wb E zu);let gC:=Yd (Ig [Id 0, Id MV, Id OB, Id OA]) Z.y zu;let Ξ:ak zt E (Ig [Id 0, Id MV, Id OB, Id OA]) E=J%Ig [Id 0, Id MV, Id OB, Id OA]:=ar;show (_,y,dP Io,Wb zv Φ);let zw:=gC.q%Yd (Ig [Id ζ]) gC.y Φ;show (E,zv,_,_,y,y,_bq aq%aU Ξ Φ,ar,dP Io,Wb P ο);let Ψ:=(H.q Z).q zw;let (S,π,ρ,σ):=W4 [Iz 0, Id MV, Id OB, Id OA, Id ζ] (c.q%Ψ.bv Ku) ο;show ι ω _ P S π ρ ar%(g.go Ψ).go σ};{rw [bD h];rw [au h] at j;subst j;show bu (dP Io,Wb P ο);let (S,π,ρ,σ):=W4 [Iz (-16)] (YC%MW e a) ο;show ι F _ P S π ρ ar%Od σ}
mutual
theorem afh:∀(v:bW),v.fw.a=2*v.bb| .num n=>by rw [HH,eR];rfl| .list l=>by rw [HH,eR,cH,cH,F8 l];lia
theorem F8:Zd ((i_ l).a=2*ej l)| []=>by rw [i_,ej];rfl|v::l=>by rw [i_,ej,cG,afh v,F8 l];lia
end
theorem F9(h:ez z2):Xu z2.fw.a:=by cases z2 with|bad j=>change Xu 2;decide|val v=>let R:v.bb<=400:=(Lv).1;change Xu v.fw.a;rw [afh];lia
def yT(P:bR)(N:bF)(O:Ib Ix):bF × Ib Ix:=match O with| [v,n,k]=>(N,_bA (0<=v/\v<Zr P) (match iE LB n k with|J r=> [r]|I=>match cJ (b7 N JB) (Ln,k.L,) with|J o=>0::o.fw|I=> [1]),)|_=>Oz
theorem yU:a0 [I4,I_,"refusal",MB,JJ] [I4,I_]%aR FX:=(y,y,y,Ie,y,Ie,Ie)
theorem arl(W:aW r _CQ _CQ FX f Q)(i:WT r β)(G:DC l p r D A u)(Ψ:ID l p r D A aB 2 Uo [Jn,Ka,K6]%F4 β)(Ω:ID l p r D A aB 2 Sq Kd%yS Sm):aJ l p r D A aB 131 f Q [I4,I_]%ks β u 3 yT:=by show Jb yU (Xv za ρ zb (F,x,zc,gv,P,e,c,zd,l,N,a,rfl,_)) λzo T S s H za ρ zb L h=>?_;let (F,x,zc,zp,P,e,c,zd,l,N,a,rfl,t,z,zq,ζ,zr,g,d,zs,q):=h;let η:∀{M},M<=130->dy M _:=λh=>Jh%d8 h Il;show (_,ao (bA (eN%b9%aM Qx (η Il) y aK%ae (a8 bf (pv 1) aF IB)%ae (aC (aC (pv 0) y) y) aj) (ax%aI%bZ%ae (cg G.yJ y) aj) bM)%ao (Wq yU.nd (aH y)%aM Ψ (η Il) y aK%ae (aC (pv 0) y)%ae (a8 bf (pv 1) aF IB)%ae (a8 bf (pv 1) aF IB) aj)%ao (bA (eh%pW%pv 2) (ax%aI%bZ%ae (pv 2) aj) bM)%ao (WK yU.nd (aH y)%a8 bf (aC (aC (pv 0) y) y) (a8 bf (pv 1) aF IB) IB)%ao (Xd yU.nd (aH y)%d? jd (a8 bf (aC (aC (pv 0) y) y) (a8 bf (pv 1) aF IB) IB)%a8 bf (pv 1) aF IB)%ao (bA (eh%aci (u1 L) (pv 4)%pv 3) (ax%aI%bZ%ae (cg G.nk y) aj) bM)%ax%aI%d? rV (bZ%ae aF aj)%aM Ω (η Il) y aK%ae (w2 (u1 L) (pv 3) (pv 4) IB) aj,?_);dsimp only [bz,b?,bU,cc,tB,eA,bX,cx];let (v,n,k,rfl):=ints3 g;let σ:Y8 (SL=J%J%Ia x) (IA (cy r (bH 0) IV) α H%Ia e):=λb=>gf (gv b) z Lh (Li _ Ii) y;let τ:Y8 (SL=J%J%Ia x) (IA (cy r (bH 0) Jn) α H%Ia a.ta):=λb=>gf (gv b) z Lh (Li _ Ii) y;let υ:Y4 (SH=J%J%Ia c) (IA C α H%Id 0->IA (cR (dM r) (bH 1) C) α H%Id v):=λb R=>Yh 0 (gv b) ζ R;let E:Y4 (SH=J%J%Ia c) (IA C α H%Id 1->IA (cR (dM r) (bH 1) C) α H%Id n):=λb R=>Yh 1 (gv b) ζ R;let φ:Y4 (SH=J%J%Ia c) (IA C α H%Id 2->IA (cR (dM r) (bH 1) C) α H%Id k):=λb R=>Yh 2 (gv b) ζ R;show F2 i d t (υ y gc) (σ y) (_,y,?_);generalize j:yT l N [v,n,k]=θ at q;let j:(N,_bA (0<=v/\v<QB) (match iE IW n k with|J χ=> [χ]|I=>match cJ (b7 N JB) (Ln,k.L,) with|J o=>0::o.fw|I=> [1]),)=θ:=j;let no:∀{m:Int} {α:L2.St} {ι:TE},WU Uy=θ->IA ι α H%Id m->iv (bP ι bY) α H ρ:=λ{m α ι} ze zf=>zf _ (dP Io,λw κ=>by subst ze;let (B,μ,ν,ξ):=W4 [Iz m] (YC%MW e a) κ;show q F _ w B μ ν ar%Od ξ);by_cases h:0<=v/\v<QB;{rw [b8 h];rw [aA h] at j;show bt%yK%τ y _%E y gc _%φ y gc _ (F,a.ta,a.ln,a.qw,a.lf,a.li,a.ss,IW,n,k,y,t,_CO,?_);cases ο:iE l.x n k with|some χ=>rw [ο] at j;show (_,y,_,y,bu%no j%gv y)|none=>rw [ο] at j;let (m,M,rfl,rfl,ψ):=F5 ο;obtain ⟨ω,rfl⟩:_an v OJ:=Uu;rw [eL,eL,eL] at j;let j:(N,match cJ (b7 N ω) (m,M,) with|J o=>0::o.fw|I=> [1],)=θ:=j;let (X,zg,zh):=d.mf%Y6 (ω<b3 l);let (zt,Γ,zi):=zh.h2 ψ;show (_,y,_,y,bt%mh i d t zg (σ y) (υ y gc) _%aff i _CO t (τ y) (E y gc) (φ y gc) ψ _ ?_);show (_,y,_,y,X,_,y,YR (Ik%W9 IW (m,M,)) Γ,_,y,?_);rcases zi with ⟨π,γ⟩|⟨o,O,π,γ,zj,Δ⟩;{rw [γ];rw [π] at j;show bu%no j gc};{rw [γ];rw [π] at j;subst j;show bt%u5%ZW iv _ _ _ _ (dP Io,Wb δ zk);let ε:=Yd (Ig [Id 0]) t zk;let Θ:ak H δ (Ig [Id 0]) δ=J%Ig [Id 0]:=ar;let Ξ:=_A4 _ _ Γ id;generalize ak H δ (Ig [Id 0])=zu at ε Θ Ξ;show qu (_,y,_,y,X,O,y,by rw [←γ];show YR (Ik%W9 IW (m,M,)) Ξ,F,O,o,y,Sh,zj,Δ,Wn zv zl Z zw zm);let zx:=F9 Δ;show (δ,zl,_,_,y,y,Z.ad _ _ Θ id,zm,f9 IZ,Wb w κ);let Φ:=ε.q Z;let (B,μ,ν,ξ):=W4 ([Iz 0]++o.fw.o Iz) (Φ.bv (N:=MW e a)%Wv zn zn.al) κ;show q F _ w B μ ν ar%(Od Φ).go ξ}};{rw [bD h];rw [au h] at j;show bu%no j gc}
def qD(a:IA R E g%Ia f)(e:g f=J%Ig α)(h:Ξ E g λv n=>B3 (Ia f) Kv n ε):p4 r JT B3 R (bP Ξ bY) E g ε:=by show a _ ?_;show (Ik (y,_,Iw e),h)
def afi(P:bR)(N:bF)(_:Ib Ix):bF × Ib Ix:=(N,0::N.ab.en AS,)
def afj(m:iJ):AS m= [Wc _Go,Wc Mf,Wc _A!,Wc (MC).2]++m.out.fw:=y
theorem F_:a0 [I4,I_,"row",Rh] [I4,I_]%aR FP:=(y,y,y,Ie,y,Ie,Ie)
theorem arn(zf:aW r _CR _CR FP f Q)(w:WT r β)(G:DC l p r D A u)(zg:ID l p r D A aB 1 Up [I4,IL]%F6 β u)(zh:ID l p r D A aB 2 Sq Kd%yS Sm):aJ l p r D A aB 131 f Q [I4,I_]%ks β u 0 afi:=by show zf.ok F_ (Wr P (F,x,X,gv,B,e,o,zi,l,ν,α,rfl,_)) λzB zC S s H C P Z L h=>?_;let (F,x,X,T,B,e,o,zi,l,ν,α,rfl,t,ξ,zD,zE,zF,zG,b,zH,zj):=h;let k:∀{τ},τ<=130->dy τ _:=λh=>Jh%d8 h Il;show (_,ao (Wq F_.nd (aH y)%bZ%ae aF aj)%ao (eB e0 y (et%aC (aC (pv 0) y) y) (Wu 3 F_.nd%aH y)%ao (bI%ea d9 q8 tv p6 (pv 2)%ae (bZ%ae (aC (pv 3) y)%ae (aC (pv 3) y) aj) aj)%ao (bI%ea d9 q8 tv p6 (pv 2)%ae (aM zg (k Il) y aK%ae (pv 0)%ae (aC (pv 3) y) aj) aj)%ax%bI%ea d9 q8 tv p6 (pv 2)%ae (aM zh (k Il) y aK%ae (aC (pv 3) y) aj) aj)%ax%aI%pv 2,?_);dsimp only [bz,b?,bU,bX];show (dP Io,W8 i);let δ:=b1 t i;let ε:=M? (M:=(·=a)) (o:= (Ig [Id 0])) t i;(let zk:¬ MW e α a:=λz=>by let (ο,j,_):=b.wire;rcases z with z|z|z;{have:=b.obj;cbv};{cbv};{let (zl,υ):=JM z;let (zm,zn):=dg υ%b.gY.q b.fix.len.J;let (zI,E,_):=b.bm zl a zm υ zn;cbv});let φ:x≠a:=aU ξ i;let χ:∀{d},Go F H F d (·=a)->b2 β l ν F d e α:=λg=>b.oP g λπ W z=>zk _Db;let zo:=χ ε;let (ο,j,ψ):=b.wire;let n:=b4 ψ;let zp:α.lm≠a:=aU j i;let ω:∀{d},Go F H F d (·=a)->d α.lm=J%Ig ο:=λg=>Ra _ _ j zp;show ma%oI%gw w zo (gf (gv y) (_A4 _ _ ξ φ) Lh (Li _ Ii) y) Ii y _ (α.lm,y,(_,Iw%ω ε),hx (r:=r) (f:=α.lm) (α:=ο) (λζ η d=>∃ρ,∃N:Ib Ix,η= [J%Ia x,J%Ia o,J%Ia a,ρ]/\Go F H F d (·=a)/\d a=J%Ig%KR Iz/\N=0::(ν.ab.Y ζ).en AS/\NK<=1+804*ζ) (I, [0],y,ε,ar,_Ea,bj _) (λζ η d _ (_,_,_,zq,_)=>Iw%ω zq) ?_ ?_);{rintro ζ zJ η M Γ ⟨ρ,N,rfl,c,L,θ,zr⟩;let (m,σ):=dg Γ n.J;let (π,zK,Δ,rfl,W,zs,Θ,zt,zL):=dt ψ Γ σ;let zM:=(I! σ).1;let zN:=F9 Θ;let gm:∀{f:ai} {Ξ:V} {d:Hp},Go F H F d (·=a)->f∈([NT,Na,JJ,MR]:Ib ai)->(fM m IW Δ).B f=J Ξ->IA (cy r (bH 3) f) [J%Ia x,J%Ia o,J%Ia a,J%Ia π] d Ξ:=λg E R=>gf (gv y) (g.y _ _ W) w.m.cl (w.m.no _ E) R;dsimp only [bU,dq,bz];show qD (gv y) L%u4%gm c Ii y _%gm c Ii y _ (dP Ih,Wb q Φ);let zu:WZ q:=aU L Φ;let Ψ:=c.q%XH [Id Ro, Id MV] c.y Φ;(let zv:ak M q (Ig [Id Ro, Id MV]) a=J%Ig%KR Iz:=by rw [aq zu];show L);show (a,q,_,_,y,y,zv,ar,_Eg,?_);let O:=Ψ.q%Yk (Ig (KR Iz++ [Id Ro, Id MV])) Ψ.y y δ;let ι:ak (ak M q%Ig [Id Ro, Id MV]) a (Ig (KR Iz++ [Id Ro, Id MV])) a=J%Ig (KR Iz++ [Id Ro, Id MV]):=ar;generalize ak (ak M q%Ig [Id Ro, Id MV]) a (Ig (KR Iz++ [Id Ro, Id MV]))=Ω at O ι;show qD (gv y) ι%ku (_,y,gm O Ii y _ (F,x,X,T, Ia e,B,IW,α.ta,α.ln,α.qw,α.lf,α.li,α.ss,MC,y,J2,O.ad _ _ ξ φ,b.fix.tree,zt,Wb κ za));let zw:WZ κ:=aU ι za;let zb:=MU%XH [Id OB, Id OA] J2 za;show (a,κ,_,_,y,y,by rw [aq zw];show ι,ar,by rw [cG,aQ,eK];lk,?_);generalize zc:KR Iz++ [Iz Ro,Iz MV]++ [Iz OB,Iz OA]=γ;(let zx:γ.a=NK+4:=by rw [←zc];simp);let μ:=zb.q%Yk (Ig γ) zb.y y δ;let v:ak (ak Ω κ%Ig [Id OB, Id OA]) a (Ig γ) a=J%Ig γ:=ar;generalize ak (ak Ω κ%Ig [Id OB, Id OA]) a (Ig γ)=zO at μ v;show qD (gv y) v%qu%gm μ Ii y _ (F,Δ,m.out,y,Rb,zs,Θ,Wn zP zy zd zQ zz);let ze:=Se%zd.bv Ku;let zA:=zd.ad _ _ v id;show (a,zy,_,_,y,y,zA,zz,by rw [aQ,zx,eK];lia,_,N++AS m,y,ze.q%Kb ze.y y δ,?_,?_,?_);{rw [ar,afj,←zc];simp};{rw [θ,←LW σ,Ag];simp};{rw [cG,afj,cG];lk}};{rintro η M ⟨ρ,N,rfl,c,L,θ,zr⟩;rw [n,fz] at θ;show (_,y,zj F M a (c.an%Xx π z _DX) i δ ?_%χ c);rw [L,θ];rfl}
def nq(a:WX)(F:Hp)(g:Im bh)(gv:V):Ir:=match g with|I=>gv= IK|J g=>∃n,gv= Ia n/\gy a.c F (Ia n) g/\iZ g/\n6 g/\Bm g
def mi(a:WX)(F H:Hp)(p:Im bR)(C:V)(A:aa):Ir:=match p with|I=>C= IK|J P=>∃R o O k g r,C= Ia R/\md a LB F R o O k g r/\eU P/\_Bl<=60/\n6 P.x.cr/\(∀i∈P.world.nodes,Of<=P'/\Xz P')/\H A=J%Ig%bx (0::P.cs)
def mj(a:WX)(F H:Hp)(p:Im bR)(n:Im bF)(C q:V)(A:aa)(S:Nw):Ir:=match n with|I=>q= IK|J N=>∃P e f,p=J P/\q= Ia e/\C= Ia f.ta/\b2 a P N F H e f/\Xu J6/\(∀b,MW e f b->S b)/\¬ MW e f A
structure f'(a:WX)(i:aa)(s:dn)(F H:Hp)(x:aa)(S:Nw):Ir where
 bg:∀b,S b->H b≠I
 obj:∃X gv C A q,H x=J%Iq i X%dN gv C A q/\F x=I/\S x/\S A/\F A=I/\(∃L,H A=J%Ig L)/\nq a F s.cr gv/\mi a F H (jz s) C A/\mj a F H (jz s) _A5 C q A S
def fE(x:g6):Ib Ix:=x.code::x.out
def yV(a:WX)(i:aa)(k:Nat)(step:dn->Ib Ix->Mh):Sp:=λC H Q _=>∃F x o O s S,C= [Ia x, Ia o]/\IQ F H/\f' a i s F H x S/\H o=J%Ig%Lo Iz/\I'=k/\F o=I/\¬ S o/\∀W d l X,Go F H W d S->(∀b,X b->S b∨H b=I)->H l=I->W l=I->¬ X l->d l=J%Ig%(fE (Mv s O).2).o Iz->f' a i (Mv s O).1 W d x X->Q (Ia l) d
theorem f'.go{s:dn}{F u W N:Hp}{x:aa}{S:Nw}(G:f' β f s F u x S)(g:Go F u W N bO):f' β f s W N x S:=by let (X,gv,C,A,q,D,R,V,T,b,(L,O),h,m,v):=G.obj;let Q:=Ra _ _ D id;let t:=Ra _ _ O id;show (X7 γ z%G.bg α γ%g.bg α z,X,gv,C,A,q,Q,g.off R D Q Io,V,T,g.off b O t Io,(L,t),?_,?_,?_);{unfold nq at h ⊢;cases j:s.gram with|none=>cbv|some gr=>rw [j] at h;let (n,p,Z,a):=h;show (n,p,Z.u _AN,a)};{unfold mi at m ⊢;cases j:jz s with|none=>cbv|some gr=>rw [j] at m;let (δ,o,ε,k,ζ,r,p,Z,a,H,M,η,θ):=m;show (δ,o,ε,k,ζ,r,p,Z.u _AN,a,H,M,η,Ra _ _ θ id)};{unfold mj at v ⊢;cases j:s.net with|none=>cbv|some gr=>rw [j] at v;let (l,e,c,p,Z,a,H,M):=v;show (l,e,c,p,Z,a,H.go g,M)}
theorem qE{step:dn->Ib Ix->Mh}(t:IQ G g)(b:f' β f zQ G g u zT) (q:∀W a l X,Go G g W a zT->(∀R,X R->zT R∨g R=I)->g l=I->W l=I->¬ X l->a l=J%Ig%(fE (Mv zQ zk).2).o Iz->f' β f (Mv zQ zk).1 W a u X->ε (Ia l) a) (e:Mv zQ zk=g7 zQ γ)   (L:IA R E g%Id γ):iv (bP R bY) E g ε:=L _ (dP Io,λl h=>by let k:Go G g G (ak g l%Ig [Id γ]) bO:= JI t h;show q G _ l zT (k.bv Ku) (W3 R m Ik m) h (b1 t h) (λz=>b.bg l z h) ?_ ?_;{rw [e,ar];rfl};{rw [e];show b.go k})
theorem afk:a0 [I4,I_,Ka] [I4,I_]%aR FJ:=(y,y,y,Ie,y,Ie,Ie)
def u7(s:dn)(O:Ib Ix):Mh:=match O with| [n]=>HI s n|_=>g7 s 0
theorem aro(G:eU ι)(F:0<q)(f:q<ι.x.ai.a)(m:q∉Ub)(h:ι.cs.a<7):eU {ι with cuts:=Ub++ [q]}:=by show (G.w,Wb j e,?_,?_);{rcases d7.R e with z|z;{show G.cut j z};{cbv}};{change (Ub++ [q]).am;rw [ky];show (G.nd,_Ck (Ii, IR),λg W j e z=>m Io)};{lk}
theorem arp(Δ:aW r _CS _CS FJ f Q)(ξ:WT r β)(G:DC l p r D A u)(Θ:cQ D _Gp (-5))(Ξ:cQ D _Gq (-9))(Φ:cQ D "CUT_ALREADY" (-8))(M:cQ D "TOO_MANY_WORKERS" (-11))(Ψ:cQ D "MOST_WORKERS" 8):aJ l p r D A aB 131 f Q [I4,I_]%yV β u 1 u7:=by show Δ.ok afk (Xv Ω w Z (F,x,o,za,s,S,rfl,_)) λzw zx zy zz H Ω w Z L h=>?_;let (F,x,o,za,s,S,rfl,t,b,zb,g,zA,zB,q):=h;show (_,ao (Wq afk.nd (aH y)%a8 bf (pv 1) aF IB)%ao (bA (eh%lZ%aC (pv 0) y) (ax%aI%bZ%ae (cg Θ y) aj) bM)%ao (bA (eh%pW%aC (pv 0) y) (ax%aI%bZ%ae (cg Ξ y) aj) bM)%ao (bA (eN%b9%aM Qx (Jh Il) y aK%ae (pv 2)%ae (aC (aC (pv 0) y) y) aj) (ax%aI%bZ%ae (cg G.nn y) aj) bM)%ao (bA (d4 rS (pv 2) (aC (pv 0) y) I5) (ax%aI%bZ%ae (cg Φ y) aj) bM)%ao (bA (eh%jF (cz dr I5 Qr c!%ae (aC (pv 0) y) aj)%cg Ψ y) (ax%aI%bZ%ae (cg M y) aj) bM)%ao (bI%ea d9 fw fX fg (aC (pv 0) y)%ae (pv 2) aj)%ax%aI%bZ%ae aF%ae (d? kS (cz dr I5 Qr c!%ae (aC (pv 0) y) aj) aF) aj,?_);dsimp only [bz,b?,bU,cc,tB,eA,hy,bX,cx,dq];let (n,rfl):=PN g;let (X,T,C,a,ο,c,zc,B,π,ρ,(zC,E),zd,v,ε):=b.obj;let γ:∀{σ:L2.St} {f:ai} {τ:V} {υ:Hp},υ x=J%Iq u X%dN T C a ο->σ[0]?=J%J%Ia x->f∈([Jq,Jn,LK,IV]:Ib ai)->(dN T C a ο).B f=J τ->IA (cy r (bH 0) f) σ υ τ:=λh d R δ=>gf (gv d) h Lh (Li _ R) δ;show cX (q:=0) (ζ:= (Id n)) (gv y) zb y gc _%γ c y Ii y _ (_,y,?_);let j:u7 s MX=HI s n:=y;cases α:jz s with|none=>unfold mi at v;rw [α] at v;subst v;show bu%qE t b q _Gr gc|some l=>unfold mi at v;rw [α] at v;let (μ,φ,ze,zf,zg,zh,rfl,e,χ,zi,zj,nums,θ):=v;(let j:u7 s MX=Yg s.net.as g7 s (-9)%Yg (n<0∨Wi _AV<=n) g7 s (-10)%Yg (n=0∨s.cs.ei Ln=ag) g7 s (-8)%Yg (HJ<=b3 l) g7 s (-11) ({s with cuts:=s.cs++ [Ln]},ro [b3 l],):=_Gr);show bt%γ c y Ii y _ (_,y,?_);cases ι:s.net with|some zD=>unfold mj at ε;rw [ι] at ε;let (_,zE,P,_,rfl,_):=ε;show bu%qE t b q (by rw [j,ι];rfl) gc|none=>unfold mj at ε;rw [ι] at ε;subst ε;rw [ι] at j;let j:u7 s MX=Yg (n<0∨Wi _AV<=n) g7 s (-10)%Yg (n=0∨s.cs.ei Ln=ag) g7 s (-8)%Yg (HJ<=b3 l) g7 s (-11) ({s with cuts:=s.cs++ [Ln],net:=K3},ro [b3 l],):=j;let (zF,zk):=e.obj;let (zG,zl,zm):=e.nodes;let zn:=b4 zm;show bt%ku (_,y,gf (γ c y Ii y) (t _ _ zk) ξ.t.cl (ξ.t.no _ Ii) y _ (n,φ,_,y,t _ _ zl,(_,y,?_)));rw [aQ,zn];by_cases d:0<=n/\n<Wa _AV;{rw [b8 d];rw [au Ih] at j;obtain ⟨m,rfl⟩:_an n OJ:=Xs Ln;rw [eL] at j;show bt (_,y,γ c y Ii y _ (a,_,y, Ik%Iw θ,y,Fi _,_,y,?_));(let ψ:MA=s.cs:=by unfold jz at α;lk);change WW%gs (Id OJ)%bx (0::MA);rw [uW];show cF Rt Rt;{let R:=cw R;show qE t b q ?_ gc;lk};let R:m∉0::MA:=dY%Mx R;(let zo:0<m:=IZ);let ω:m∉MA:=λz=>R%cL _ z;rw [au IZ] at j;(let zH:(bx (0::MA)).a=l.cs.a+1:=by rw [hh,cH]);let zI:=χ.e?;show γ c y Ii y _ (a,_,y, Ik%Iw θ,_,_,y,y,_,y,cF Qz Qz);{let δ:=cw δ;show qE t b q ?_ gc;rw [j,aA];unfold HJ b3;lia};let δ:=dY%Mx δ;rw [au (by unfold HJ b3;lia)] at j;show h_ (γ c y Ii y) θ (_,y,_,θ,ec Ih,?_);rw [sC];(let dl:x≠a:=JO);let k:=Go.put (M:=S) (o:= (Ig%bx%Yo (0::MA))) t π ρ;(let κ:ak H a (Ig%bx%Yo (0::MA)) x=J%Iq u X%dN T (Ia μ) a IK:=_bB aq dl);let ζ:ak H a (Ig%bx%Yo (0::MA)) a=J%Ig%bx%Yo (0::MA):=ar;generalize ak H a (Ig%bx%Yo (0::MA))=Γ at k κ ζ;show u2%u5%jQ%γ κ y Ii y _ (a,_,y, Ik%Iw ζ,_,_,y,y,dP Ih,Wb i η);let zp:Go F Γ F (ak Γ i%Ig [Id 0, Id%Z0 (bx%Yo (0::MA)).a]) bO:= JI JN η;let O:=Ma%zp.bv Ku;let N:=k.bg _ η;(let zq:Z0 (bx%Yo (0::MA)).a=QB:=by rw [hh,cG,cH];unfold b3;simp);show q F _ i S O (W3 ν W Ik W) N (b1 t N) (λz=>b.bg i z N) ?_ ?_;{rw [j,ar];change J%Tu [Iz 0,Iz%Z0 (bx%Yo (0::MA)).a]=_;rw [zq];rfl};{rw [j];(let zr:jz {s with cuts:=Yo s.cs,net:=K3}=J {l with cuts:=Yo MA}:=by unfold jz at α ⊢;split at α;{lk};{cases α});show (λν W z=>b.bg ν W%O.bg ν z,X,T, Ia μ,a, IK,by rw [aq%aU κ η];show κ,zc,B,π,ρ,(_,_aJ aq%aU ζ η),zd,?_,?_);{rw [zr];show (μ,φ,ze,zf,zg,zh,y,e,aro χ zo Ih ω Ih,zi,zj,nums,_aJ aq%aU ζ η)};{rfl}}};{rw [bD d];show bu%qE t b q IZ gc}
theorem b2.afl(w:b2 β ι χ G g u zr)(z:MW u zr f):g f≠I:=λW=>by let (o,j,_):=w.wire;rcases z with z|z|z;{rw [z,Sn] at W;cases W};{cbv};{let (k,a):=JM z;let (m,i):=dg a%w.gY.q _Ec;let (c,D,_):=O4 k f m a i;cbv}
def afm(h:R E g λO M=>Ξ E M λv n=>∀x X,n x=I->n X=I->W_ X->zt [Ia x,O,v] (ak (ak n X%JA x) x%Iq f X []) (λr a=>r= IK/\ε (Ia x) a) τ):l4 f zt [] τ (bP R%bP Ξ bY) E g ε:=h
def yW(s:dn)(_:Ib Ix):Mh:=AU s
theorem arq:a0 [I4,I_] [I4,I_]%aR FK:=(y,y,y,Ie,y,Ie,Ie)
theorem ars(zt:aW r _CT _CT FK u Q)(zu:WT r β)(G:DC l p r D A f)(zv:cQ D _Gp (-5))(zw:cQ D _Gq (-9))(zx:gx l p r D A aB 2 "Work" JE [IG,Jn,LK]%aeJ β):aJ l p r D A aB 131 u Q [I4,I_]%yV β f 0 yW:=by show zt.ok arq (Xv zy B Z (F,b,zz,σ,s,S,rfl,_)) λzU zV zW M H zy B Z L h=>?_;let (F,b,zz,σ,s,S,rfl,t,d,zX,zY,zZ,z0,q):=h;show (_,ao (bA (eh%lZ%aC (pv 0) y) (ax%aI%bZ%ae (cg zv y) aj) bM)%ao (bA (eh%pW%aC (pv 0) y) (ax%aI%bZ%ae (cg zw y) aj) bM)%ao (cf (pv 0) (eC zx (Jh Il) y aK%ae (aC (pv 0) y)%ae (aC (pv 0) y) aj) y)%ax%aI%d? rV (bZ%ae aF aj)%aC (aC (pv 0) y) y,?_);dsimp only [bz,cc,tB,bX,cx,rN];let (X,T,C,a,τ,ζ,zA,E,zB,zC,(z1,z2),μ,v,ι):=d.obj;let ν:∀{Γ:L2.St} {u:ai} {Δ:V} {Θ:Hp} {τ:V},Θ b=J%Iq f X%dN T C a τ->Γ[0]?=J%J%Ia b->u∈([Jq,Jn,LK,IV]:Ib ai)->(dN T C a τ).B u=J Δ->IA (cy r (bH 0) u) Γ Θ Δ:=λh P zD zE=>gf (gv P) h Lh (Li _ zD) zE;show ν ζ y Ii y _ (_,y,?_);let κ:yW s σ=AU s:=y;cases θ:jz s with|none=>unfold mi at v;rw [θ] at v;subst v;show bu%qE t d q (by rw [κ];unfold AU;rw [θ]) gc|some γ=>unfold mi at v;rw [θ] at v;let (R,Ξ,Φ,Ψ,g,Ω,rfl,e,za,zb,zc,nums,j):=v;show bt%ν ζ y Ii y _ (_,y,?_);cases ξ:s.net with|some z3=>unfold mj at ι;rw [ξ] at ι;let (_,z4,i,_,rfl,_):=ι;show bu%qE t d q _Gs gc|none=>unfold mj at ι;rw [ξ] at ι;subst ι;(let κ:yW s σ=(Z2 J%aeI γ,ro%(ey _Eh).o%gE γ,):=_Gs);show bt%afm%ν ζ y Ii y _%ν ζ y Ii y _%Wn x δ N zd zF;(let zG:ak H δ (JA x) x=I:=X1 zF.J);let c:Go F H F (ak (ak H δ%JA x) x%Iq JE δ []) bO:=(M? t zd).q%M? (X7 o ze%Y1 (aU (t α o ze) zd) t α o ze) zG;let zf:ak (ak H δ%JA x) x (Iq JE δ []) x=J%Iq JE δ []:=ar;generalize ak (ak H δ%JA x) x (Iq JE δ [])=z5 at c zf;let zH:=b1 t N;show (F,x,δ,R,a,Ξ,Φ,Ψ,g,Ω,γ,y,zf,c.y,zH,e,T_ _ _ j id,za,zb,zc,nums,λη n i k zI zg zJ=>QC);let zK:WY x:=aU ζ N;let zL:WZ x:=aU j N;let zh:=T_ _ _ ζ id;let zi:=k.ad _ _ zh zK;let zj:=k.off zA zh zi Io;let zk:=T_ _ _ j id;let zl:=k.ad _ _ zk zL;let zM:=k.off zC zk zl Io;(let υ:∀α,MW x i α->H α=I:=WO W (by rcases W with z|z|z;{rw [z];show N};{show Ud _%zg α _Gb};{show Ud _%zg α%cL _ z}));let zN:Go F H η n S:=(c.bv (N:=WE (S α∨H α=I)) Ku).q%k.bv%YG (by rw [z];show N)|>.fresh (WO z z);show (_,y,b,f,X,_,y,zi,Lh,Li _ Ii,PY,?_);let m:Go η n η (ak n b%Iq f X%dN T (Ia R) a%Ia x) (·=b):= Kb JN y zj;(let φ:=zJ.oP m%X7 W z IZ);let O:=zN.q%m.bv%WO z (by rw [z];show E);let χ:ak n b (Iq f X%dN T (Ia R) a%Ia x) b=J%Iq f X%dN T (Ia R) a%Ia x:=ar;(let ψ:ak n b (Iq f X%dN T (Ia R) a%Ia x) a=J%Ig%bx (0::γ.cs):=by rw [aq JO];show zl);change cR ab3 (iv%bP (tC%Id 0) bY) (cy r (cy r (bH 0) IV) OZ) _ (ak n b%Iq f X%dN T (Ia R) a%Ia x) B;generalize ak n b (Iq f X%dN T (Ia R) a%Ia x)=zm at O φ χ ψ;show u5%ZW iv _ _ _ _ (dP Io,Wb ο zO);let ε:=Yd (Ig [Id 0]) J2 zO;let zn:ak zm ο (Ig [Id 0]) ο=J%Ig [Id 0]:=ar;generalize ak zm ο (Ig [Id 0])=zo at ε zn;let ω:=φ.go ε;(let zP:(bx%Uc γ).a=_Eh:=by rw [hh];unfold owners;rw [aQ,o7]);show gw zu ω (ν (_A4 _ _ χ id) y Ii y) Ii y _ (ο,i.lo,_,_,y,y,zn,Sh _ _ ω.fix.owners,f9 IZ,Wb w π);let zp:Go η zo η (ak zo w%Ig ([Id 0]++bx%Uc γ)) bO:= JI Sh π;let ρ:=ε.q zp;let u3:=MU%ρ.bv Ku;let zq:H w=I:=O.bg _%ε.bg _ π;show q η _ w (WE (S α∨MW x i α)) u3 (WO W%W.al Ik λz=> Iy%υ α z) zq (b1 Sh π) (λz=>OX (λz=>d.bg w z zq) ME) ?_ ?_;{show φ.afl z%ε.bg _ π};{rw [κ,ar];change _=J%Tu%(0::Vaatts.nums%(ey _Eh).o%gE γ).o Iz;unfold Vaatts.nums owners bx;cbv};{rw [κ];let zr:=ω.go zp;show (X' α W,X,T, Ia R,a, Ia x,ρ.ad _ _ χ id,?_, Ik E, Ik zB,?_,(_,ρ.ad _ _ ψ id),?_,?_,?_);{rcases W with W|W;{show d.bg α W%u3.bg α z};{show zr.afl W z}};{show zj};{show zM};{change nq β η s.cr T;unfold nq at μ ⊢;cases zs:s.gram with|none=>cbv|some gr=>rw [zs] at μ;let (zQ,zR,zS,zT):=μ;show (zQ,zR,zS.u U7,zT)};{change mi β η _ (jz s) (Ia R) a;rw [θ];show (R,Ξ,Φ,Ψ,g,Ω,y,e.u U7,za,zb,zc,nums,ρ.ad _ _ ψ id)};{show (γ,x,i,θ,y,by rw [zI],zr,cj _,YN W%Iy W,JO)}}
def kv(a:WX)(i:aa)(k:Nat)(step:dn->Ib Ix->Mh):Sp:=λC H Q _=>∃F x o O s S,C= [Ia x, Ia o]/\_A5≠I/\IQ F H/\f' a i s F H x S/\H o=J%Ig%Lo Iz/\I'=k/\F o=I/\¬ S o/\∀W e l X,Go F H W e S->(∀f,X f->S f∨H f=I)->H l=I->W l=I->¬ X l->e l=J%Ig%(fE (Mv s O).2).o Iz->f' a i (Mv s O).1 W e x X->Q (Ia l) e
theorem lp{g:bR->bF->Ib Ix->bF × Ib Ix}{step:dn->Ib Ix->Mh}(ψ:aJ l p r D A aB Z f Q π%ks β u q g) (h:∀s α N O,jz s=J α->_A5=J N->I'=q->Xu J6->eU α->N3=b3 α->YF (bB α.x).a->(Mv s O).1=Z2 J (g α N O).1/\fE (Mv s O).2=(g α N O).2/\Xu (g α N O).1.du):aJ l p r D A aB Z f Q π%kv β u q Mv:=by show ψ.imp%Wn C H zq zr ω;let (F,x,o,O,s,S,rfl,Γ,t,c,Δ,ο,Θ,zs,E):=ω;let (X,T,zt,d,zu,γ,k,P,Ξ,Φ,(L,w),δ,v,ζ):=c.obj;cases G:s.net with|none=>show a' G Γ|some N=>unfold mj at ζ;rw [G] at ζ;let (α,ε,b,η,rfl,rfl,a,R,ρ,θ):=ζ;let (Ψ,ν,Ω):=h s α N O η G ο R a.fix.gp a.gY a.fix.e?;show (F,x,X,T,d,ε,o,O,α,N,b,y,t,γ,k,Δ,Θ,ο,a,R,λW σ B e V za zb zc=>?_);(let zd:¬ MW ε b x:=λz=>by let (zv,j,_):=a.wire;rcases z with z|z|z;{have:=a.obj;rw [←z,γ] at this;cases this};{cbv};{let (M,τ):=JM z;let (ze,zf):=dg τ%a.gY.q a.fix.len.J;let (zw,ξ,_):=a.bm M x ze τ zf;cbv});let υ:=e.ad _ _ γ zd;let φ:=e.ad _ _ w θ;show E W σ B S (e.bv ρ) (W3 ι κ Ik κ) V za (λz=>Ud B z V) (by rw [ν];show zb) ?_;rw [Ψ];show (λι κ z=>Ud ι κ%e.bg ι z,X,T, Ia b.ta,d, Ia ε,υ,e.off k γ υ Io,P,Ξ,e.off Φ w φ Io,(L,φ),?_,?_,?_);{change nq β W s.cr T;unfold nq at δ ⊢;cases χ:s.gram with|none=>cbv|some gr=>rw [χ] at δ;let (n,i,μ,m):=δ;show (n,i,μ.u e.ext,m)};{change mi β W σ (jz s) (Ia b.ta) d;unfold mi at v ⊢;rw [η] at v ⊢;let (zg,zh,zi,zj,zk,zl,i,μ,m,zm,zn,zo,zp):=v;show (zg,zh,zi,zj,zk,zl,i,μ.u e.ext,m,zm,zn,zo,e.ad _ _ zp θ)};{show (α,ε,b,η,y,y,zc,Ω,ρ,θ)}
end TW
namespace TW
open Vaatta Vaattb Vaattd Vaattf Vaatts
def hM(h:_CU=J χ):{zQ with net:=J χ}=zQ:=by cases zQ;cases h;rfl
def lq(d:jz zQ=J ι)(G:_CU=J χ)(F:bR->bF->Mh):HK zQ F=F ι χ:=by unfold HK;rw [d,G]
def ls(k:Nat)(g:bR->bF->Ib Ix->bF × Ib Ix)(step:dn->Ib Ix->Mh):Ir:=∀s z N O,jz s=J z->_A5=J N->I'=k->Xu J6->eU z->N3=b3 z->YF (bB z.x).a->(Mv s O).1=Z2 J (g z N O).1/\fE (Mv s O).2=(g z N O).2/\Xu (g z N O).1.du
def i2(j:Ix->j')(s:dn)(O:Ib Ix):Mh:=match O with| [v]=>fY s (j v)|_=>g7 s 0
def kn(j:j')(s:dn)(_:Ib Ix):Mh:=fY s j
theorem art:ls 1 F0%i2 _CV:=λs z N O d G g R _ _ _=>by let (v,rfl):=PN g;(let e:i2 _CV s Kv=rp s z v%Xa w (Z2 J%Zn RE w [])%said [(b7 N w).a]:=by show lq d G _);let a:F0 z N Kv=_ad (0<=v/\v<SI) (Zn RE JB [],([0,Wc (b7 N JB).a]:Ib Ix),) P1:=y;rw [e,a];unfold rp;by_cases h:0<=v/\v<SI;{rw [aA h,au Ih];show (y,y,R)};{rw [au h,aA Ih];show ((hM G).J,y,R)}
def aru:ls 0 afd%kn _CW:=λs z N O d G g R _ _ _=>by (let e:kn _CW s O=(s,statusAnswer z N,):=by show lq d G _);rw [e];show ((hM G).J,y,R)
def arv:ls 0 afi%kn .wire:=λs z N O d G g R _ _ _=>by (let e:kn .wire s O=(s,{code:=0,out:=N.ab.en AS},):=by show lq d G _);rw [e];show ((hM G).J,y,R)
theorem arw:ls 1 yL%i2 _CX:=λs z N O d b g c G _ f=>by let (v,rfl):=PN g;let e:i2 _CX s Kv=rp s z v%resendStep s z N:=lq d b _;let a:yL z N Kv=W! (0<=v/\v<SI) (500<J6) (N,([-15]:Ib Ix),) (e7 N%_Aq (aN z) N JB, [0,Wc (_Aq (aN z) N JB).a],)%WU P1:=y;rw [e,a];unfold rp;by_cases h:0<=v/\v<SI;{rw [aA h,au Ih];unfold resendStep mostWire;by_cases R:500<J6;{rw [aA R,aA R];show ((hM b).J,y,c)};{rw [au R,au R];show (y,y,?_);have:=Fy G N JB (aN z).a%bj _;rw [fz,mR] at this;change Xu (L6++_Aq (aN z) N JB).a;rw [cG];lia}};{rw [au h,aA Ih];show ((hM b).J,y,c)}
theorem F'{F:Iu->iJ->Mh}(h:0<=γ/\γ<Wa _A3):∃m,_A1[RU]?=J m/\_A6 zQ χ γ F=F RU m:=by (let V:RU<_A3:=Ih);show (_A1[RU],d1 V,?_);unfold onMsg;lk
theorem F!{F:Iu->iJ->Mh}(h:¬ (0<=γ/\γ<Wa _A3)):_A6 zQ χ γ F=g7 zQ (-16):=by unfold onMsg;cbv
theorem arx:ls 1 yP%i2 .lose:=λs z N O d b g R G _ c=>by let (v,rfl):=PN g;let e:i2 .lose s Kv=_A6 s N v (λn _=>(Z2 J%_ae So n,said [],)):=lq d b _;let a:yP z N Kv=_ad (0<=v/\v<Nc) ((_ae So JB:bF),([0]:Ib Ix),) [-16]:=y;rw [e,a];by_cases h:0<=v/\v<Nc;{let (m,_,Z):=_by (λn _=>(Z2 J%_ae So n,said [],)) h;rw [Z,aA h];show (y,y,?_);change Xu (So L6 JB).a;rw [Ft];lk};{rw [F! h,au h];show ((hM b).J,y,R)}
theorem ary:ls 1 yO%i2 _CY:=λs z N O d b g c G _ f=>by let (v,rfl):=PN g;let e:i2 _CY s Kv=_A6 s N v%Wv x%doubleStep s N x:=lq d b _;let a:yO z N Kv=W! (0<=v/\v<Nc) (500<J6) (N,([-15]:Ib Ix),) (match L6[JB]? with|J m=>(e7 N Uy, [0],)|I=>Oz)%WU [-16]:=y;rw [e,a];by_cases h:0<=v/\v<Nc;{let (m,i,Z):=_by (Wv x%doubleStep s N x) h;rw [Z,aA h,i];unfold doubleStep mostWire;by_cases R:500<J6;{rw [aA R,aA R];show ((hM b).J,y,c)};{rw [au R,au R];show (y,y,?_);change Xu (Yo L6).a;lk}};{rw [F! h,au h];show ((hM b).J,y,c)}
theorem arz:ls 1 u6%i2 _CZ:=λs z N O d b g R G _ c=>by let (v,rfl):=PN g;let e:i2 _CZ s Kv=_A6 s N v%deliverStep s N:=lq d b _;by_cases h:0<=v/\v<Nc;{let (m,i,Z):=_by (deliverStep s N) h;(let a:u6 z N Kv=(g5 (_ae So JB) m,([0,Wc Mf,Wc _A!,Wc (MC).2,_bh (cJ (b7 N Mf) MC).as 0]:Ib Ix),):=by change (Wp (0<=v/\v<Nc) _ _)=_;rw [aA h,i]);rw [e,Z,a];show (y,?_,?_);{unfold deliverStep;cases (cJ (b7 N m.dst) m.U).as<;>rfl};{change Xu (hR _ _ _ _).du;rw [(rH _ _ _ _).1];change Xu (So L6 JB).a;rw [Ft];lk}};{(let a:u6 z N Kv=WU [-16]:=_al (Wp (0<=v/\v<Nc) _ _) _%au h);rw [e,F! h,a];show ((hM b).J,y,R)}
def gP(j:Ix->Ix->j')(s:dn)(O:Ib Ix):Mh:=match O with| [v,m]=>fY s (j v m)|_=>g7 s 0
def oh(j:Ix->Ix->Ix->j')(s:dn)(O:Ib Ix):Mh:=match O with| [v,m,k]=>fY s (j v m k)|_=>g7 s 0
theorem arA:ls 2 yM%gP .work:=λs z N O d b g c G n f=>by let (v,m,rfl):=ints2 g;let e:gP .work s [v,m]=rp s z v (λw=>_Ei s z N w m):=lq d b _;let a:yM z N [v,m]=W! (0<=v/\v<SI) (m<0∨1000<m) (N,([-14]:Ib Ix),) (YK 500 J6 (WU [-15]) ((de z (aN z) JB m.L N).1, [0,Wc (de z (aN z) JB m.L N).2,Wi%Wa ((de z (aN z) JB m.L N).1.de - NC)],))%WU P1:=y;rw [e,a];unfold rp;by_cases h:0<=v/\v<SI;{rw [aA h,au Ih];change ((_Ei s z N JB m).1=_/\fE (_Ei s z N JB m).2=_/\_);unfold workStep mostWire mostWork;by_cases D:m<0∨1000<m;{rw [aA D,aA D];show ((hM b).J,y,c)};{rw [au D,au D];by_cases R:500<J6;{rw [aA R,aA R];show ((hM b).J,y,c)};{rw [au R,au R];show (y,y,?_);let (_,E,r,_):=FD G JB m.L N n;have:=yH z N;rw [mR] at this;lk}}};{rw [au h,aA Ih];show ((hM b).J,y,c)}
theorem afn(P:bR)(R:Ib fL):∀(n:Nat) (N:bF),(iP P R n N).1.du<=J6|0,N=>by rw [iP];show bj _|n+1,N=>by rw [iP];dsimp only;split;{show bj _};{let h:=afn P R n (gk P R N).1;let e:Wl (gk P R N).1.ab:=(u0 _ _).1;cbv}
def arB:ls 0 u3%kn .all:=λs z N O d a g R G n b=>by let e:kn .all s O=allStep s z N:=lq d a _;rw [e];show (y,y,d8 (afn _ _ _ _) R)
theorem afo{F:bT->Mh}:ag2 zQ ι γ zu F=match iE J5 γ zu with|J r=>g7 zQ r|I=>F (RU,zu.L,):=by unfold ag2 iE;lk
theorem arC:ls 3 yT%oh _C0:=λs z N O d b g R G c f=>by let (v,n,k,rfl):=ints3 g;let e:oh _C0 s [v,n,k]=rp s z v (λw=>onInst s z n k%Xa i s (match cJ (b7 N w) i with|J o=>{code:=0,out:=o.fw}|I=>{code:=1})):=lq d b _;let a:yT z N [v,n,k]=(N,_bA (0<=v/\v<SI) (match iE z.x n k with|J r=> [r]|I=>match cJ (b7 N JB) (Ln,k.L,) with|J o=>0::o.fw|I=> [1]),):=y;rw [e,a];unfold rp;by_cases h:0<=v/\v<SI;{rw [aA h,au Ih];dsimp only;rw [afo];cases iE z.x n k with|some r=>show ((hM b).J,y,R)|none=>dsimp only;cases cJ (b7 N v.L) (n.L,k.L,) with|some o=>show ((hM b).J,y,R)|none=>show ((hM b).J,y,R)};{rw [au h,aA Ih];show ((hM b).J,y,R)}
theorem arD:ls 2 yQ%gP .home:=λs z N O d b g R G j o=>by let (n,k,rfl):=ints2 g;let e:gP .home s [n,k]=ag2 s z n k%Xa i s (match (aN z).cd (λr=>ND==i) with|J r=>ro (LQ::r.to)|I=>{code:=-12}):=lq d b _;let a:yQ z N [n,k]=(N,match iE z.x n k with|J r=> [r]|I=>match (aN z)[ix z.x (Ln,k.L,)]? with|J r=>0::Wc LQ::_A0 (λv:Iu=>Wc v)|I=> [],):=y;rw [e,a,afo];cases f:iE z.x n k with|some r=>show ((hM b).J,y,R)|none=>let (m,M,rfl,rfl,E):=F5 f;rw [eL,eL];let (r,D,c,_):=wx z _ (m,M,)%lW E;(let hf:(aN z).cd (λr=>ND==(m,M,))=J r:=Bv _ _ _ r D Io (λi A l u=>by show UW JV;have:=ae4 i _ A r u D%h.q c.J;lia));dsimp only;rw [hf,D];show ((hM b).J,y,R)
end TW
namespace L2
open PySem PySem.Spec PyProof.Rows
theorem arE:TypeCalled Lb "reversed.__new__" _F6:=(Ie,PySem.F.create_reversed,(_,_,PySem.F.mro_reversed),PySem.F.made_reversed,PySem.F.plain_reversed_new,aya, MD (owner:=_Bv) (n:=J_) V4 Ie Ie Ie (_aE (Ik Ie)%Iy Ie) _A7)
def F?:Manifest.owners.B%String.ofList ['d',Oe,'s','r',Oe,'v',Oe,'r'].ca=J Manifest.sig_reversed:=LX
theorem u9:Slot Lb Ql _C1:= MD (owner:=Lb) (n:=Ql) V4 Ie Ie Ie (_aE (Ik Ie)%Iy Ie) _A7
theorem afp:Slot Lb "__iter__" _C2:= MD (owner:=Lb) (n:="__iter__") V4 Ie Ie Ie (_aE (Ik Ie)%Iy Ie) _A7
theorem Ga:Slot Lb _A8 _A9:= MD (owner:=Lb) (n:=_A8) V4 Ie Ie Ie (_aE (Ik Ie)%Iy Ie) _A7
def afq:_Ej table _C1=J Builtin.«reversed.__next__»:=_Gt LX
def arF:_Ej table _A9=J Builtin.«reversed.__length_hint__»:=_Gt LX
theorem arG:_Ej table _C2=J Builtin.«dict_keyiterator.__iter__»:=entryFor_alias (id':="dict_keyiterator.__iter__") LX (by first|rfl|decide+kernel|(unfold String.splitOn;simp+decide [String.splitOnAux])) Ie LX
def afr(a:ah):mJ _C1 ([a], []):=_bR ag3 _C1 ['_','_','t','x',Oe,'n','_','_'] ['d',Oe,'s','r',Oe,'v',Oe,'r'] LX F?
def arH(a:ah):mJ _C2 ([a], []):=_bR ag3 _C2 ['_','_','r',Oe,'t','i','_','_'] ['d',Oe,'s','r',Oe,'v',Oe,'r'] LX F?
def arI(a:ah):mJ _A9 ([a], []):=by unfold mJ;rw [ag3 (id:=_A9) (n:=(_A8).toList.reverse) (o:= ['d',Oe,'s','r',Oe,'v',Oe,'r']) LX F?];kernel_rfl
def arJ:GS (IU Lb) "__len__"=JH I:=V4
def arK:GS (IU KN) "__reversed__"=JH I:=V4
def arL:isSubtype (IU KN)%IU No=JH ay:=_A7
def yX(l:aa)(i:Int):bb:=WN Lb #[Ia l,e9 i]
theorem arM(l:aa)(k:KC ah):Meets (Builtin.«reversed.__new__» ([IU Lb, Ia l], []))%Xp R s (jr Lp l k/\Wi O5<SF/\R (JF%QZ%Ia JR)%Z? (s.j.av%yX l V9) (M8+1) 1):= _Cm (λq w T R s (v,E,h)=>by unfold Builtin.«reversed.__new__»;show aw%kD (newClass_reversed _) ?_;(try dsimp only);show aw%kD (a:=()) _Ek ?_;show aw%kD (a:=()) _Ek ?_;(try dsimp only);show aw%vC v.ap arK ?_;(try dsimp only);show aw ?_;wp_delta;show aw%vF (b:=ay) v.ap arL ?_;rw [au Il];show aw%vC v.ap pf.B ?_;change aG _ _ (WW%List.ei _ "tuple.__getitem__") _ _ _;rw [aA Il];show aZ ?_;change aG _ _ (WW (!ag)) _ _ _;rw [au Il];show aw%_DD v E ?_;show XS (asInt?%Id O5 _)%aZ ?_;(try dsimp only);change aG _ _ (newObj (IU Lb) (S3 #[Ia l,e9 V9])>>=_) _ _ _;show aw%hq%aZ (_,y,h))
theorem arN(b:jr I7 f zb)(E:_A'<SF) (h:zC (Ia II) {v with heap:=Jw (yX f Rk),toks:=v.do+1+1}):aG (a7 l p) μ (fU (IU Lb) [Ia f]) zC υ v:=callType_new arE Il (PySem.F.typeCall_reversed_1 _) (PySem.F.newCall_reversed_1 _) (λa=>PySem.F.args_object_init_2 a _) PySem.F.entry_reversed_new (arM f zb) (b,E,(_,ep _ y,y),h)
def i3(h:aO)(a l:aa)(i:Int):Ir:=∃o,Kw a=J o/\UQ= IU Lb/\QQ= S3 #[Ia l,e9 i]
def i3.ty(x:i3 I7 f u γ):QW (Ia f) Lb:=let (o,S,m,_):=x;(o,S,m)
def i3.at{C:aO}(x:i3 A f u γ)(e:∀o,Le f=J o->Nk f=J o):i3 C f u γ:=let (o,S,r):=x;(o,e _ S,r)
theorem arO{Q:WL%Im ah}(r:i3 I7 f u K2)(V:jr I7 u zb)(E:_A'<SF)(N:Wf zb=J η) (c:∀C tk,i3 C f u%Wy K2->lI f I7 C->Q (J η)%Yc C):aG (a7 l p) μ (fS%Ia f) Q υ v:=by let (o,S,m,hd):=id r;let a:q<Jk:=(vE.R N).1;unfold fS;show aw%nQ%Yv (eG Ql) Uq u9%jx u9 Uq afq ?_%afr _;unfold Builtin.«reversed.__next__»;show aw%kD (a:=(b! f, [],)) y ?_;(try dsimp only);show aw%jw S hd (x:= (Ia u)) y ?_;show aw%jw S hd (x:=e9 K2) y ?_;change aG _ _ (Wp (K2<0) _ _) _ _ v;rw [au Ih];show aw%vC V.ap pf.B ?_;change aG _ _ (WW%Option.gl%J _) _ _ _;rw [au Ii];show aw%wpAny_mkInt ?_;show aw%nQ%getItem_tuple (j:=q) V Ih Ih (by unfold GU;simp;lia) N ?_;show aw%jw S hd (x:=e9 K2) y ?_;show XS (tg _ _ _)%q? S hd Ii ?_;show aZ (η,y,aZ%c _ _ ?_ SB);show (_,nM _ S%G9%ra hd _,(agI ..).q m,by rw [ra hd];simp)
theorem arP{Q:WL%Im ah}(H:M_=I)(r:i3 I7 f u (-1)) (c:∀C,G_ f I7 C->Xn Q I C):aG (a7 l p) μ (fS%Ia f) Q υ v:=by let (o,S,m,hd):=id r;unfold fS;show aw%nQ%Yv (eG Ql) Uq u9%jx u9 Uq afq ?_%afr _;unfold Builtin.«reversed.__next__»;show aw%kD (a:=(b! f, [],)) y ?_;(try dsimp only);show aw%jw S hd (x:= (Ia u)) y ?_;show aw%jw S hd (x:=e9 (-1)) y ?_;change aG _ _ (Wp (Wi (-1)<0) _ _) _ _ v;rw [aA Il];show aw%AM ?_;show aw ?_;wp_delta;show aw%q? S hd Ii ?_;let x:=nM (G8 (·.eg 1%e9 (-1))) S%G9%ra hd _;show q? x (ra hd _) Ii ?_;show aw ?_;change aG _ _ (rf (IU RW) []>>=_) _ _ _;show aw ?_;simp only [rf,newTuple];show aw%hq ?_ RX;show XS (rh _ _)%_aM kD ?_;show hq ?_ RX;simp only [raiseNew];show aw%G' ?_;(first|rw [_aH _BE I]|rw [H]);show aw%aZ%G! ?_;show aw%_aA vF RW (_,ep _ y,y) G?;show aZ%c _%((Heap.ExtBut.q (SB).e8 (SB).e8).av _).av _
def afs(r:i3 I7 f u γ)(h:zC (Ia f) v):aG (a7 l p) μ (mB%Ia f) zC υ v:=by show G4 Uq afp%jx afp Uq arG ?_%arH _;change aG _ _ (ret%Ia f) _ _ v;show aZ (_,y,Lb,_,Uq,u9.B,h)
theorem arQ(H:M_=I)(B m:aa)(R:m≠B)(k:KC ah)(E:Wi O5<SF): Walks l p μ B [B,m] [B] O5 (λi v=>k[Wy O5 - i]?=J v) (λi h=>i<=O5/\i3 h B m (V9 - Wi i)/\jr h m k) where
 sub:=λb W=>by simp_all
 frame:=ZX x g (I6,(SQ).at λo e=>g B Ii o e,let (o,S,a):=SU;(o,g m Ii _ S,a))
 item:=λi s Q Z f x c=>by
  let e:V9 - Wi i=Wc (Wy O5 - i):=PH
  let r:=SQ
  rw [e] at r
  let N:k[Wy O5 - i]?=J (k[Wy O5 - i]'PH):=G7 PH
  show arO r SU E N%Wj C tk d F
  let j:Z0 (Wy O5 - i)=V9 - OC:=PH
  rw [j] at d
  show c _ C tk N (f,d,(SU).e8 F.e8 R) λb o W A=>F.e8 b o (λh=>W _BV) A
 done:=λs Q Z x c=>by
  let e:V9 - Wi O5=-1:=PH
  let r:=SQ
  rw [e] at r
  show arP H r λC z=>c C M8 λb o W A=>z b o (λh=>W _BV) A
 self:=λ_ _ _ _ x c=>afs SQ c
theorem arR{Q:WL Nh}(L:i3 I7 u f Rk)(V:jr I7 f zb)(E:Wo Jk) (h:∀b tk,Q b _GE):aG (a7 l p) μ (ayb%Ia u) Q υ v:=by let (o,S,m,hd):=id L;rw [eK] at E;unfold ayb;show aw%vC L.ty arJ ?_;change aG _ _ (specialOf (b! u) (eG _A8)>>=_) _ _ _;show aw%vC L.ty Ga.B ?_;generalize a:(_A9:String)=d;wp_delta;rw [show splitId d=J (Lb,_A8,) from by subst a;decide+kernel];subst a;show aw%vF (b:=ag) L.ty aya ?_;show vS (λc=>a' c Il)%We _;show vS (λc=>a' c Ie)%We _;show aw%AM ?_;show aw%kD (Ga.ag _) ?_;(try dsimp only);show aw%nQ%jx Ga L.ty arF ?_%arI _;unfold Builtin.«reversed.__length_hint__»;show aw%kD (a:=b! u) _Ek ?_;show aw%jw S hd (x:= (Ia f)) y ?_;change aG _ _ (WW (b! f==fq)) _ _ _;rw [au%Zl ((b! f==fq)=ag)];show aw%_DD V Ih ?_;show XS (asInt?%Id Jk _)%aZ ?_;(try dsimp only);show aw%jw S hd (x:=e9 Rk) y ?_;change aG _ _ (Wp (_A'<Rk+1) _ _) _ _ _;rw [au Ih];show XS (mkInt _)%wpAny_mkInt%aZ (_,y,?_);(try dsimp only);show XS (asInt?%Id (Rk+1) _)%aZ ?_;(try dsimp only);show vS (λc=>a' c (by simp [Builtin.List.listFitsIndex];lia))%We _;show vS (λc=>a' c Ih)%We _;show vS (λc=>a' c (by simp [GY,eK];lia))%We _;show aZ%h _ _
theorem arS{R:WL o!}(H:M_=I)(L:i3 I7 f u Rk)(V:jr I7 u zb)(A:u≠f)(S:aa)(j:S≠f)(O:S≠u)(c:ah)(m:Nat)(N:Ji S=J%X! Ks m) (F:∀C tk n t,(YQ S (WY f->Ji b=J o->Nk b=J o))->Nk S=J%Z! (IU JT) I%NF n t->ItemsOf (λP r=>zb[Wy Jk - P]?=J r) n Jk->R (JF%QZ c)%Yc C) (G:Wo Jk): aG (a7 l p) MS (HL (Ia S) (Ia f) c) (λQ M=>match Q with| .done E=>R (JF E) M| .again t=>t.quiet=ag/\lL (a7 l p) μ t R M) (λe M=>R (Tk e) M) v:=by (let X:_A'<SF:=by have:=G;rw [eK] at this;lia);(let k:S∉ [f,u]:=Io);let W:=arQ (l:=l) (p:=p) (μ:=μ.in1) H f u A zb X;(let B:∀(h:aO) (d tk:Nat),(0<=Jk/\i3 h f u (Rk - Wc 0)/\jr h u zb)->(YQ S (Ji b=J o->Kw b=J o))->Kw S=J%X! Ks d->lL (a7 l p) μ (Jf "list.extend.loop" ([Ia S, Ia f,c], [])) R%Yc h:=by intro h d tk α g β;show codeAny_extend_loopS W.toS G S k c Jk 0 _ Ks d y (cj _) α β (ItemsOf.nil _)%WM M n t i γ δ;rw [Moved.eq_with i];show F M.j M.do n t (λb o a ε e=>i.j b o ME%g b o a e) γ δ;cbv);let st:0<=Jk/\i3 I7 f u (Rk - Wc 0)/\jr I7 u zb:=(cj _,by simpa using L,V);unfold HL;show aw%GQ L.ty ?_;(let D:ayc (Ia S)%Ia f=ay:=by simp [ayc,j]);(let ζ:(jq Lb==jq JT)=ay:=Il);(let η:(jq Lb==jq KN)=ay:=Il);simp only [D,ζ,η,jy,q_,iL];show aw%afs L ?_;show aw%js%arR L V G%XO tk;show vS (We _)%Wx%aZ (tq ayd _,B _ m _ st (λb o _ e=>e) N);show aw%AM ?_;show aw ?_;change aG _ _ (AL S (·.av Ja)>>=(Wx (AL S (·.pop)))) _ _ _;show aw%vN N y ?_;let q:=nM (lO (·.av fq)) N y;show vN (hz:=by seq_fits) q y ?_;let θ:=nM (lO (·.pop)) q y;let x:YQ S (Ji b=J o->((Te S%lO (·.av fq)).e7 S%lO (·.pop)).E b=J o):=λb o a e=>(nN _ _%i7 a).q%(nN _ _%i7 a).q e;show aZ (tq ayd _,B _ _ _ ?_ (λb o a e=>x b o a e) θ);show W.g5 0 _ _ st λb a o e=>x b o (λh=>k (h▸a)) e
def arT(H:M_=I)(L:i3 I7 f u Rk)(V:jr I7 u zb)(h:u≠f)(G:Wo Jk) (c:∀C tk n t,(YQ f (Ji b=J o->Nk b=J o))->Nk II=J%Z! (IU JT) I%NF n t->ItemsOf (λi k=>zb[Wy Jk - i]?=J k) n Jk->zC (Ia II)%Yc C): aG (a7 l p) μ (fU (IU JT) [Ia f]) zC υ v:=by show callType_codes (Q₁:=λd m=>d= Ia II/\m=YM Jw%Y0 Ks) PySem.F.called_list (PySem.F.typeCall_list_1 _) PySem.F.entry_list_init (code_list_new _ (y,y))%Wd d m q;let (rfl,rfl):=q;let N:(Jw%Y0 Ks).E II=J%Y0 Ks:=ep _ y;let r:f<II:=let (o,S,_):=L;cZ S;let ld:u<II:=let (o,S,_):=V;cZ S;show ((_,N,y),PySem.F.args_list_init_2 _ _,?_);change aG _ _ (do let j←aye (Ia II);Builtin.List.listUpdate (Ia II) (Wx Ks);letGo j.by.ca;HL (Ia II) (Ia f) Ja) _ _ _;show aw ?_;unfold aye;show aw%Hx N y%aZ ?_;change aG _ _ (AL II (Wx Ks)>>=(Wx (letGo (Ks:KC ah).toList.reverse>>=(Wx (HL (Ia II) (Ia f) Ja))))) _ _ _;show aw%vN N y ?_;let s:=nM (lO%Wx (Ks:KC ah)) N y;let a:Wh (Ji b=J o) (((Jw%Y0 Ks).e7 II%lO%Wx (Ks:KC ah)).E b=J o):=λb o e=>(nN _ _%o'%cZ e).q%dz _ e;show aw%vO ?_;show arS (μ:=μ.in1) H (L.at λo e=>a _ o e) (let (o,S,x):=V;(o,a _ _ S,x)) h _ (o' r) (o' ld) Ja _ s (λC tk n t g z A=>QC) G;show c C tk n t (λb o W e=>g b o (eF%cZ e) W%a b o e) z A
theorem aft:∀{L:Ib V} {w:Ib ah},bC L w->bC L.ca w.ca|_,_, .nil=> IR|_,_, .cons h t=>by rw [vL,vL];show bC.f8 (aft t)%I1 h IR
def tLR(S:TE):TE:=λc H Q=>S c H λv M=>∃a L,v= Ia a/\M a=J%IC L/\∀l,M l=I->Q (Ia l)%ak M l%Ig L.ca
theorem arU{p ε:cv}(m:NJ=ag)(e:Gl j JT)(i:J9 JT=I)(ζ:Gl j Lb)(r:J9 Lb=I)(D:PE j O R) (P:cK Kk IE= SO:=by rfl) (A:cK [J0 (JU Lb zj) Kk [] κ] IE= [ZZ%J0 (JU Lb zj) Kk [] κ]:=by rfl):PE j (J0 (JU JT p) [J0 (JU Lb zj) Kk [] κ] [] ε)%tLR R:=by intro F s c H Q B h;show mF%kQ B e i (show hT JT=J%IU JT by decide+kernel) ?_;show vv ?_ A y;rw [A];change aG _ _ (_Bs (ZZ _:: [])) _ _ s;show pd ?_;show mF%kQ B ζ r PyProof.Rows.boot_reversed ?_;show vv (bq (ae D aj P κ F s c H (λC M=>match C with| [β]=>∃a L,β= Ia a/\M a=J%IC L/\∀l,M l=I->Q (Ia l)%ak M l%Ig L.ca|_=>False) B h)%WH G (C,M,V,g,z)) P y;(obtain ⟨a,L,rfl,N,q⟩:∃a L,C= [Ia a]/\M a=J%IC L/\∀l,M l=I->Q (Ia l)%ak M l%Ig L.ca:=IZ);let (S,rfl,θ):=Tc g;cases θ;let (d,f,α,E):=V.dj%Ju N;let ι:=Mw;(let γ:Wo Ov:=Io);show arN α (by have:=γ;rw [eK] at this;lia) ?_;show q3 ?_;let W:a<Ky:=let (o,μ,_):=α;cZ μ;show arT (zb:=d.toArray) (ML m) (_,ep _ y,y,y) (α.fo λb o O=>dz _ O) (eF W) γ λν tk v t x e k=>?_;(let ξ:v.by=d.ca:=by let (T,Z):=k;(let T:v.l=d.a:=_Df);show Al%We n;lk);let u:(VL%yX a%_a5 Ov).cw=Ky+1:=i8 ..;show (Ia (VL%yX a%_a5 Ov).cw,_,V.fv (t':=tk) (λb S O=>x b S (eF%cZ O)%dz _ O) Ih%W0 (d3 IS IT _ ν _%Ig L.ca) (by simpa using E,d.ca,t,aft f,?_),y,q _%QU Ih);rw [←ξ];show e
end L2
namespace TW
open PySem PySem.Spec PyProof.Rows L2
theorem afu:∀(l r:Ib bW),i_ (l++r)=i_ l++i_ r| [],r=>by rw [i_];rfl|v::l,r=>by rw [o1,i_,i_,afu l r,iH]
theorem afv:∀(l r:Ib bW),ej (l++r)=ej l+ej r| [],r=>_Ex|v::l,r=>by rw [o1,ej,ej,afv l r];lia
theorem afw:∀(v:bW),1<=v.bb| .num n=>by rw [eR];decide| .list l=>by rw [eR];lia
theorem Gb:Zd (LP<=ej l)| []=>cj _|v::l=>_cu (Gb l) afw v
theorem yY:a0 [MR,"row","waiting",Kq] Kd%aR DV:=(y,y,y,Ie,y,Ie,Ie)
theorem arV(W:aW r Sq Sq DV u Q)(E:TK r f)(κ:D Kp=I)(zf:D JT=I)(zg:D Lb=I) (i:ID l p r D A aB 1 Py Kd%iD f qj) (R:ID l p r D A aB 1 Q_ Kd%iD f uE) (Δ:ID l p r D A aB 1 TY L1 xV):aJ l p r D A aB 2 u Q Kd%yS f:=by show Jb yY (Wr P (F,v,π,rfl,_)) λzx zy zz s H C P Z L h=>?_;let (F,v,π,rfl,ε,ρ,zh,Θ):=h;show (_,ao (bA (b9%aM i L y aK%ae (pv 0) aj) (ax%aI%bZ%ae aF%ae (aC (pv 0) y) aj) bM)%ao (WJ yY.nd (aH y)%bZ aj)%ao (Wq yY.nd (aH y)%bZ%ae (pv 0) aj)%ao (iU e0 (tV (pv 2) SJ)%ao (WK yY.nd (aH y)%B2 d9 vz Hs ab1%pv 2)%ax%bA (b9%aM R L y aK%ae (pv 3) aj) (ax%bI%ea d9 q8 tv p6 (pv 1)%ae (bZ%ae aF%ae (pv 3) aj) aj)%ao (bI%ea d9 q8 tv p6 (pv 1)%ae (bZ%ae aF%ae (cz dr I5 κ c!%ae (aM Δ L y aK%ae (pv 3) aj) aj) aj) aj)%ax%bI%ea d9 q8 tv p6 (pv 2)%ae (arU y y zf y zg%aM Δ L y aK%ae (pv 3) aj) aj)%ax%aI%pv 1,?_);dsimp only [bz,b?,bU,cc,tB,bX,cx];show (_,y,F,v,π,y,ε,ρ,_,y,?_);cases π with|bad zA=>let (zi,zB,rfl,Ξ):=ρ;show bu ?_;show u4%gc _%gf (gv y) (ε _ _ Ξ) E.n.cl (E.n.no _ Ii) y _ (dP Ih,λb κ=>Θ _ b (JI ε κ) κ ar)|val η=>show bt ?_;show (dP Io,λa σ=>(_,y,dP Io,Y? τ));let Φ:=b1 ε σ;let e:=M? (M:=M2 a α) (o:= (Ig [])) ε σ;let ζ:WZ α:=aU ar τ;let zj:H α=I:=(aq ζ.J).symm.trans τ;let Ψ:=b1 ε zj;let S:=e.q%XH Kv e.y τ;let zC:Xu η.fw.a:=F9 zh;show (λm c γ=>∃x X,∃d:Ib bW,∃N:Ib Ix,c= [J v,J%Ia a,J%Ia α,x]/\Go F H F γ%M2 a α/\γ a=J%Ig%KR Iz/\γ α=J%Ig X.ca/\bE F X d/\N++i_ d=η.fw/\m=ej d,(_,I, Kv, [η], [],y,S,W5 ζ,ar,by unfold bE;show (ρ,_B4),by rw [i_,i_];simp,y),?_);rintro m c M ⟨x,X,d,N,rfl,υ,Ω,w,C,μ,rfl⟩;(let za:Xu (NK+2*ej d):=by have:=dR j6 μ;rw [cG,F8] at this;lia);cases d with|nil=>(cases X with|cons _ _=>unfold bE at C;show C.al|nil=>show (_,y,ay, Ik (_,Iw w,y),bt (_,y,?_));show Θ M a (υ.an%Xx zD z (by rcases z with z|z<;>rw [z]<;>assumption)) σ ?_;rw [Ω,show N=η.fw by rw [←μ,i_];simp];rfl)|cons B o=>cases X with|nil=>unfold bE at C;show C.al|cons ν G=>unfold bE at C;let (t,φ):=C;rw [ej] at za;let n:=Gb o;let g:=φ.len;show (_,y,ag, Ik (_,Iw w,Ii),bu ?_);show (λzb γ=>∃x X,∃d:Ib bW,∃N:Ib Ix,ej d<ej (B::o)/\zb= [J v,J%Ia a,J%Ia α,x]/\Go F H F γ%M2 a α/\γ a=J%Ig%KR Iz/\γ α=J%Ig X.ca/\bE F X d/\N++i_ d=η.fw,λzb γ (x,X,d,N,zk,zl,zm,zn,T,zo,zp)=>(_,zk,x,X,d,N,zl,zm,zn,T,zo,zp,y),?_);show (_,y, Ik (y,_,Iw w),α,_,ν,y,y,w,by rw [vL];simp,?_);rw [show (ν::G).reverse.dropLast=Ur by rw [vL,axI]];let k:=υ.q%Yk (Ig Ur) υ.y (Iy y) Ψ;(let δ:ak M α (Ig Ur) a=J%Ig%KR Iz:=by rw [aq ζ];show Ω);let θ:ak M α (Ig Ur) α=J%Ig Ur:=ar;generalize ak M α (Ig Ur)=χ at k δ θ;show (_,y,F,ν, LH B,y,JN,t,_,y,?_);cases B with|num ξ=>(let t:ν= Id ξ:=by unfold cW at t;show t);subst t;show bu ?_;show qD (gv y) δ%u4%gc _%gv y _ (dP Ih,Wb q n);let O:=Ma%XH [Id 0, Id ξ] JN n;let ψ:WZ q:=aU δ n;show (a,q,_,_,y,y,by rw [aq ψ];show δ,ar,_Eg,?_);show (_,G,o,N++ [0,ξ],?_,y,MU%Kb J2 (Ik y) Φ,by rw [ar];simp,by rw [aq ζ.J,aq%aU θ n];show θ,φ,?_);{rw [ej];have:=afw%N0 ξ;lia};{rw [←μ,i_,HH];simp}|list b=>show bt ?_;let zc:=t;unfold cW at zc;let (zi,m,zE,rfl,Ξ,zF,j):=zc;rw [eR] at za;let zG:=Gb b;let zH:=T0;show qD (gv y) δ%u4%gc _%jQ (_,y,F,_,b,y,JN,t,λzq β zr zs=>(zq,_,y, Iy%Ju%JN _ _ zr,dP Ih,Wb q n));let O:=Ma%XH [Id 1, Id Rp] JN n;let ψ:WZ q:=aU δ n;show (a,q,_,_,y,y,by rw [aq ψ];show δ,ar,_Eg,?_);let ι:=MU%Yk (Ig (KR Iz++ [Id 1, Id Rp])) J2 (Ik y) Φ;let ω:ak (ak χ q%Ig [Id 1, Id Rp]) a (Ig (KR Iz++ [Id 1, Id Rp])) a=J%Ig (KR Iz++ [Id 1, Id Rp]):=ar;(let ο:ak (ak χ q%Ig [Id 1, Id Rp]) a (Ig (KR Iz++ [Id 1, Id Rp])) α=J%Ig Ur:=by rw [aq ζ.J,aq%aU θ n];show θ);generalize ak (ak χ q%Ig [Id 1, Id Rp]) a (Ig (KR Iz++ [Id 1, Id Rp]))=zI at ι ω ο;show qD (gv y) ο (_,y,F,_,b,y,Qw,t,λzt Γ zu zd=>(zt,Γ,y,Qw _ _ zu,Wb zv g));let zw:=zs.len;let zJ:=zd.len;let ze:=ι.q%XH Γ.ca Qw g;show (α,zv,_,_,y,y,by rw [aq%aU ο g];show ο,ar,by rw [Hr,Hr,eK];lia,?_);show (_,Γ++G,b++o,N++ [1,Wc M0],?_,y,ze.q%Kb ze.y (Iy y) Ψ,?_,by rw [ar,List.reverse_append],zd.app φ,?_);{rw [afv,ej,eR];lia};{rw [aq ζ,aq%aU ω g,ω,zw];simp};{rw [←μ,i_,HH,afu];simp}
def yZ(l:Ib mr):cb%JZ mx=cb l:=by unfold cb;rw [dX];rfl
theorem y0{f s:Jc}{R:O_}{E:s->s}(h:∀a b,R a b->R a%E b):∀{L:Ib f} {w:Ib s},cN R L w->cN R L%w.o E|_,_, .nil=> IR|_,_, .cons a t=> I1 (h _ _ a) (y0 h t)
def f7.plain(h:f7 θ g ζ zW):f7 θ g ζ%vh zW:=by let (a,X,ld,c,f,D,R,b,T,W):=h;show (a,X,ld,c,f,D,R,?_,?_,?_);{rw [b];change _=J%Tu%cb%zW.db.o mx;rw [yZ]};{rw [T];change _=J%Tu%cb%_Co mx;rw [yZ]};{rw [W];change _=J%Tu%cb (zW.db.o mx++_Co mx);rw [←dW,yZ]}
def gW.plain(h:gW θ g ζ Δ):gW θ g ζ%nE Δ:=by let (a,X,b,l,D,R,c,C,T,W):=h;show (a,X,b,l,D,R,?_,C,T,?_);{rw [c];change _=J%Tu%cb%Δ.aa.o mx;rw [yZ]};{show y0 (E:=λr=>{r with pos:=0}) (Xi z) W}
def gy.strip(h:gy θ g ζ ρ):gy θ g ζ%vm ρ:=by let (a,X,i,f,D,R,(C,b,T),G,W,O):=h;show (a,X,i,f,D,R,(C,b,y0 (Xi z.plain) T),G,W,y0 (Xi z.plain) O)
def iZ.strip(h:iZ ρ):iZ%vm ρ:=by show (Wj s P a G,λp d=>(?_,W8 G));{let (t,v,rfl):=Kl P;let G:a∈t.db.o mx++t.ups.o mx:=G;rw [←dW] at G;let (m,i,rfl):=Kl G;show h.1 t v m i};{let (q,n,rfl):=Kl d;show (Lv q n).1};{let (q,n,rfl):=Kl d;let (m,i,rfl):=Kl G;show (Lv q n).2 m i}
def y1(a:WX)(i:aa)(step:dn->Ib Iu->Mh):Sp:=λC H Q _=>∃F x o k s S,C= [Ia x, Ia o]/\IQ F H/\f' a i s F H x S/\H o=J%Ig%cT k/\V'/\F o=I/\¬ S o/\∀W d l X,Go F H W d S->(∀b,X b->S b∨H b=I)->H l=I->W l=I->¬ X l->d l=J%Ig%(fE (Mv s k).2).o Iz->f' a i (Mv s k).1 W d x X->Q (Ia l) d
def y2(k:Ib Iu):(cT k).a=J4:=by unfold cT;rw [aQ]
theorem sE{step:dn->Ib Iu->Mh}(b:f' β f zQ Γ g u zT)(r:Go Γ g σ G bO) (q:∀W a l X,Go Γ g W a zT->(∀R,X R->zT R∨g R=I)->g l=I->W l=I->¬ X l->a l=J%Ig%(fE (Mv zQ ω).2).o Iz->f' β f (Mv zQ ω).1 W a u X->ε (Ia l) a) (e:Mv zQ ω=g7 zQ γ)   (L:IA R E G%Id γ):iv (bP R bY) E G ε:=L _ (dP Io,λl h=>by let p:Go σ G σ (ak G l%Ig [Id γ]) bO:= JI r.y h;let o:=r.q p;show q σ _ l zT (o.bv Ku) (W3 R t Ik t) (r.bg _ h) (b1 r.y h) (λz=>b.bg l z%r.bg _ h) ?_ ?_;{rw [e,ar];rfl};{rw [e];show b.go o})
def afx(h:R E g λA M=>Ξ E M λz n=>Wo 3/\∀p,n p=I->ε (Ia p)%ak n p%Ig [ζ,A,z]):iv (bP (tC ζ)%bP R%bP Ξ bY) E g ε:=h
theorem afy:a0 [I4,J',Jq] [I4,J']%aR FH:=(y,y,y,Ie,y,Ie,Ie)
theorem arW(Ξ:aW r _C3 _C3 FH u Q)(ξ:WT r β)(G:DC l p r D A f)(ν:cQ D _Gu (-1))(Ψ:cQ D "NO_GRAMMAR_TEXT" (-2))(Ω:cQ D "MOST_BYTES" 3000) (za:D _C4=J%Ia W) (zb:rj r W Φ zN=ag) (zc:Φ.ei%IU _BI=ag) (zd:ID l p r D A (bp l p) 350 TV QF%DB W Rg) (ze:ID l p r D A (bp l p) 5 T8 OI%EL W Rg):aJ l p r D A aB 351 u Q [I4,J']%y1 β f vT:=by show Ξ.ok afy (Wr zf (F,x,o,O,s,S,rfl,_)) λzv zw zx zy H C zf Z L h=>?_;let (F,x,o,k,s,S,rfl,t,d,ο,m,zz,zA,q):=h;show (_,ao (bA (d4 ka (cz dr I5 Qr c!%ae (pv 1) aj) (cg Ω y)%c' _) (ax%aI%bZ%ae (cg ν y) aj) bM)%ao (acF y y y za zb zc (λzB zC Z zD π=>ao (Wq afy.nd (aH y)%aM zd L y π%ae (pv 1) aj)%ax%bI%aM ze (Jh Il) y π%ae (pv 2) aj) λzE=>ax%aI%bZ%ae (cg Ψ y) aj)%ao (cf (pv 0) (pv 2) y)%ao (cf (pv 0) iT y)%ao (cf (pv 0) iT y)%ax%aI%bZ%ae aF%ae (cz dr I5 Qr c!%ae (aC (pv 2) y) aj)%ae (cz dr I5 Qr c!%ae (aC (pv 2) y) aj) aj,?_);dsimp only [bz,b?,bU,cc,tB,bX,cx,rN,Cm];let (X,T,zg,a,zh,ζ,zi,P,zj,zk,(ρ,w),zF,zG,zH):=d.obj;show (_,y,o,_,y, Ik%Iw ο,_,_,y,y,_,y,cF (We α)%We α);{let α:_C?<WB%cT k:=cw α;rw [y2] at α;show sE d (Ls t) q (by unfold vT;rw [aA _C5]) gc};let α:¬ _C?<WB%cT k:=dY%Mx α;rw [y2] at α;(let st:vT s k=match afZ k with|I=>g7 s (-2)|J g=>({gram:=J g},ro [Mq,_Bj],):=by unfold vT;rw [au _C5];rfl);rw [aib] at st;show (_,y,F,o,k,y,ο,m,t,λg i M v j c η σ=>?_,λzl i M c=>(y,λzm _=>sE d c q (by rw [st,zl];rfl) gc));rw [j,cO] at st;let (n,zI,τ,υ,rfl,zn,(zo,zp,zq),zr,zs,zt):=id η;let c:Go F H i M bO:=c;show (_,y,i,n,g,y,c.y,η,σ,Wd δ ε θ,λδ ε θ=>(y,λzm _=>sE d (c.q θ) q (by rw [st,au λz=>δ%(aaU g _).R z]) gc));rw [aA%Ws (aaU g _) δ] at st;let st:vT s k=({gram:=J (vm g)},ro [(vm g).syms.length,(vm g).prods.length],):=st;rw [ai4,ai5] at st;let γ:=c.q θ;let φ:=γ.ad _ _ ζ id;let χ:=γ.off zi ζ φ Io;show (_,y,_,y,x,f,X,_,y,φ,Lh,Li _ Ii,PY,?_);show (_,y,x,f,X,_,y,ar,Lh,Li _ Ii,PY,?_);show (_,y,x,f,X,_,y,ar,Lh,Li _ Ii,PY,?_);rw [dE,dE];rw [XA (eX IV IK%eX Jn IK%eX Jq (Ia n)%dN T zg a zh)%dN (Ia n) IK a IK];let b:=(γ.bv (N:=S) Ku).q%Yk (Iq f X%dN (Ia n) IK a IK) γ.y P χ;let ψ:ak ε x (Iq f X%dN (Ia n) IK a IK) x=J%Iq f X%dN (Ia n) IK a IK:=ar;(let ω:ak ε x (Iq f X%dN (Ia n) IK a IK) a=J%Ig ρ:=by rw [aq JO];show γ.ad _ _ w id);generalize ak ε x (Iq f X%dN (Ia n) IK a IK)=B at b ψ ω;let e:∀{Γ:L2.St} {u:ai} {v:V},Γ[2]?=J%J%Ia n->u∈([J?,MQ]:Ib ai)->([(J?,IP τ,),(MQ, Ia υ,)]:Ib K1).B u=J v->IA (cy r (bH 2) u) Γ B v:=λzu R α=>gf (gv zu) (b.y _ _ zn) ξ.g.g.cl (ξ.g.g.no _ R) α;dsimp only [bX];show afx%jQ%e y Ii y _ (τ,_,y, Ik%Iw%b.y _ _ zp,jQ%e y Ii y _ (υ,_,y, Ik%Iw%b.y _ _ zs,dP Ih,Wb E ι));let N:=b.bg _ ι;let κ:Go i B i (ak B E%Ig [Id 0, Id%Wc zo.a, Id%Wc zr.a]) bO:= JI b.y ι;let Δ:=b.q%κ.bv Ku;show q i _ E S Δ (W3 μ m Ik m) N (b1 b.y ι) (λz=>d.bg E z N) ?_ ?_;{rw [st,ar,b4 zq,b4 zt];rfl};{rw [st];show (λμ m z=>d.bg μ m%Δ.bg μ z,X, Ia n, IK,a, IK,κ.ad _ _ ψ id,χ,P,zj,?_,(ρ,κ.ad _ _ ω id),?_,y,y);{show γ.off zk w (γ.ad _ _ w id) Io};{show (n,y,η.strip,σ.strip,ai0%aiZ j,aiB δ)}}
def arX(D:PE (Tn υ ν) O R)(W:mC O L IE%Je O IE=Je O IE):PE (Tn υ ν) (LD O L κ)%cy IO R L:=aC D W
theorem afz:a0 [I4,J',JD] [I4,J']%aR FI:=(y,y,y,Ie,y,Ie,Ie)
theorem arY(zA:aW r _C6 _C6 FI u Q)(zf:WT r β)(G:DC l p r D A f)(zB:cQ D _Gu (-1))(zC:cQ D "NO_GRAMMAR_HELD" (-3))(zD:cQ D "NO_TREE_TEXT" (-4))(zE:cQ D "MOST_BYTES" 3000) (zF:D _C4=J%Ia W) (zG:rj r W Φ zN=ag) (zH:Φ.ei%IU _BI=ag) (zI:ID l p r D A (bp l p) 8 T2 [J',Jq]%Ey W β.N Rg) (zJ:gx l p r D A aB 5 "Tree" O3 [IG,Jq,JD]%EY O3 Ue Rg β.N):aJ l p r D A aB 131 u Q [I4,J']%y1 β f vU:=by show zA.ok afz (Xv zK zL Z (F,a,ψ,zM,s,S,rfl,_)) λzab zac zad zae H zK zL Z L h=>?_;let (F,a,ψ,k,s,S,rfl,ω,m,zg,d,zaf,zag,τ):=h;show (_,ao (bA (eh%lZ%aC (pv 0) y) (ax%aI%bZ%ae (cg zC y) aj) bM)%ao (bA (d4 ka (cz dr I5 Qr c!%ae (pv 1) aj) (cg zE y)%c' _) (ax%aI%bZ%ae (cg zB y) aj) bM)%ao (acF y y y zF zG zH (λzah zh Z zai zz=>ax%Wq afz.nd (aH y)%aM zI (Jh Il) y zz%ae (pv 1)%ae (arX (pv 0) y) aj) λe=>ax%aI%bZ%ae (cg zD y) aj)%ao (cf (pv 0) (eC zJ (Jh Il) y aK%ae (aC (pv 0) y)%ae (pv 2) aj) y)%ao (cf (pv 0) (bZ%ae aF aj) y)%ao (cf (pv 0) iT y)%ax%aI%bZ%ae aF%ae (cz dr I5 Qr c!%ae (pv 2) aj)%ae (cz dr I5 Qr c!%ae (aC (aC (pv 0) y) y) aj) aj,?_);dsimp only [bz,b?,bU,cc,tB,bX,cx,rN,Cm,hy];let (X,zaj,C,b,q,κ,zO,E,zak,zal,(zam,zP),η,zan,zao):=m.obj;let υ:∀{zi:L2.St} {u:ai} {zj gv C q:V} {b:aa} {zk:Hp},zk a=J%Iq f X%dN gv C b q->zi[0]?=J%J%Ia a->u∈([Jq,Jn,LK,IV]:Ib ai)->(dN gv C b q).B u=J zj->IA (cy r (bH 0) u) zi zk zj:=λh zQ R δ=>gf (gv zQ) h Lh (Li _ R) δ;show υ κ y Ii y _ (_,y,?_);cases φ:s.gram with|none=>unfold nq at η;rw [φ] at η;subst η;show bu%sE m (Ls ω) τ (by unfold vU;rw [φ]) gc|some g=>unfold nq at η;rw [φ] at η;let (n,rfl,Γ,Δ,zl,zm):=η;(let st:vU s k=YK AW J4 (g7 s (-1)) (match qM g k with|I=>g7 s (-4)|J t=>({gram:=J g,tree:=J t},ro [N2,(bB%vV g t).a],)):=by unfold vU;rw [φ];rfl);show bt (_,y,ψ,_,y, Ik%Iw zg,_,_,y,y,_,y,cF Qz Qz);{let δ:_C?<WB%cT k:=cw δ;rw [y2] at δ;show sE m (Ls ω) τ (by rw [st,aA _C5]) gc};let δ:¬ _C?<WB%cT k:=dY%Mx δ;rw [y2] at δ;rw [au _C5] at st;show ku (_,y,υ κ y Ii y _ (F,ψ,k,n,g,y,zg,d,ω,Γ,Δ,λzM w M i zR zn c zo=>?_,λzS w M c=>(y,λzap _=>sE m c τ (by rw [st,zS]) gc)));let (t,v,rfl):=LS zR;rw [v] at st;let st:vU s k=({gram:=J g,tree:=J t},ro [N2,(bB%vV g t).a],):=st;let zT:=T_ _ _ κ id;show afm%υ zT y Ii y _ (_,y,Wn x γ N zp zU);(let zV:ak M γ (JA x) x=I:=X1 zU.J);let Θ:Go w M w (ak (ak M γ%JA x) x%Iq O3 γ []) bO:=(M? c.y zp).q%M? (Xl%Y1 (aU (c.y α o e) zp) c.y α o e) zV;let zq:ak (ak M γ%JA x) x (Iq O3 γ []) x=J%Iq O3 γ []:=ar;generalize ak (ak M γ%JA x) x (Iq O3 γ [])=zaq at Θ zq;let zW:=b1 c.y N;let zr:NB (vV g t):=(zm,aiC v,y);show (w,x,γ,n,i,vV g t,y,zq,Θ.y,zW,Γ.u c.ext,zo,zr,Δ,zn,λμ Ξ O ν θ ze zs zt zX zY zZ z0 z1=>QC);let ε:Go F H μ Ξ bO:=(c.q Θ).bv (N:=WE (H α=I)) Ku|>.trans (zs.bv%WO z (by rw [z];show Ud _ N))|>.fresh (YG z);let ε:=ε.cm (Ud _ N) zX zt;(let ι:Xe (μ α=J o) (ak μ x (Iq O3 γ%fT i O ν θ) α=J o):=Zg o%aq%aU e zt);let ξ:md β (vV g t) (ak μ x%Iq O3 γ%fT i O ν θ) x i O ν θ ze:=((γ,ar),(zo.u zs.ext).u ι,zY.u (Xb ι) ι,zZ,ι _ _ z0,z1.u (Xb ι) ι);generalize ak μ x (Iq O3 γ%fT i O ν θ)=P at ε ξ;let zu:=_A4 _ _ κ id;let Ψ:=ε.off zO κ zu Io;let zar:=_A4 _ _ zP id;show (_,y,a,f,X,_,y,zu,Lh,Li _ Ii,PY,?_);rw [XA (eX Jn (Ia x)%dN (Ia n) C b q)%dN (Ia n) (Ia x) b q];let ο:=(ε.bv (N:=S) Ku).q%Yk (Iq f X%dN (Ia n) (Ia x) b q) Sh E Ψ;let χ:ak Ξ a (Iq f X%dN (Ia n) (Ia x) b q) a=J%Iq f X%dN (Ia n) (Ia x) b q:=ar;generalize ak Ξ a (Iq f X%dN (Ia n) (Ia x) b q)=Ω at ο χ;show (dP Io,Wb j π);let z2:=ο.bg _ π;let z3:=b1 ο.y π;let za:=ο.q%XH [Id 0] ο.y π;(let zv:ak Ω j (Ig [Id 0]) a=J%Iq f X%dN (Ia n) (Ia x) b q:=by rw [aq%aU χ π];show χ);let zw:ak Ω j (Ig [Id 0]) j=J%Ig [Id 0]:=ar;let z4:WZ j:=aU χ π;generalize ak Ω j (Ig [Id 0])=zb at za zv zw;show (_,y,a,f,X,_,y,zv,Lh,Li _ Ii,PY,?_);show (_,y,a,f,X,_,y,ar,Lh,Li _ Ii,PY,?_);rw [dE,XA (eX IV IK%eX LK (Ia j)%dN (Ia n) (Ia x) b q)%dN (Ia n) (Ia x) j IK];let ζ:=za.q%Yk (Iq f X%dN (Ia n) (Ia x) j IK) za.y E Ψ;let zc:ak zb a (Iq f X%dN (Ia n) (Ia x) j IK) a=J%Iq f X%dN (Ia n) (Ia x) j IK:=ar;(let B:ak zb a (Iq f X%dN (Ia n) (Ia x) j IK) j=J%Ig [Id 0]:=by rw [aq z4.J];show zw);generalize ak zb a (Iq f X%dN (Ia n) (Ia x) j IK)=zx at ζ zc B;let (z5,z6,zh):=ξ.nodes;let (zas,z7):=ξ.obj;let (z8,z9,z_):=ξ.insts;show afx%jQ (_,y,i,_,y, Ik%Iw%Ob _ _ z6,jQ%gf (υ zc y Ii y) (Ob _ _ z7) zf.t.cl (zf.t.no _ Ii) y _ (θ,_,y, Ik%Iw%Ob _ _ z9,dP Ih,Wb zd ρ));let zy:=ζ.bg _ ρ;let σ:Go P zx P (ak zx zd%Ig [Id 0, Id%Wc (z5.o λz'=>IP z'.1).a, Id%Wc z8.a]) bO:= JI Ob ρ;let T:=ζ.q%σ.bv Ku;show τ P _ zd (WE (S α∨α=j)) T (WO d%d.al Ik λz=> Iy (by rw [z];show z2)) zy (b1 Ob ρ) (λz=>OX (λz=>m.bg zd z zy) λz=>IZ) ?_ ?_;{rw [st,ar,aQ,b4 zh,b4 z_,show (vV g t).nodes.length=N2 from jB I 0 0 t];rfl};{rw [st];show (Z1 α z,X, Ia n, Ia x,j, IK,σ.ad _ _ zc id,Ψ, Ik E, Iy y,z3,(_,σ.ad _ _ B id),?_,?_,y);{rcases d with d|d;{show m.bg α d%T.bg α z};{rw [d,σ.ad _ _ B id] at z;cases z}};{show (n,y,Γ.u ε.ext,Δ,zl,zm)};{show (x,i,O,ν,θ,ze,y,ξ,(zr,(λzat zaa=>by cases zaa), IR,cj _),zn,zl,ai3 v,σ.ad _ _ B id)}}
abbrev Gc:aS:=IF 203
abbrev lx:aS:=IF 204
inductive fj:Ix->WF (Ib Ix) j'
 |c0 (a:Ib Iu) (h:W1 Kj):fj 0 (Ot λb=>O?)%.grammar a
 |c1 (a:Ib Iu) (h:W1 Kj):fj 1 (Ot λb=>O?)%.tree a
 |c2 (n:Int):fj 2 MX%.cut n
 |c3:fj 3 [] .begin
 |c4 (n k:Int):fj 4 [n,k]%.home n k
 |c5 (n k:Int):fj 5 [n,k]%.work n k
 |c6:fj 6 [] .wire
 |c7 (n:Int):fj 7 MX%_CZ n
 |c8 (n:Int):fj 8 MX%_CY n
 |c9 (n:Int):fj 9 MX%.lose n
 |y3 (n:Int):fj 10 MX%_CV n
 |y4 (n:Int):fj 11 MX%_CX n
 |y5:fj 12 [] .all
 |y6 (O n k:Int):fj 13 [O,n,k]%_C0 O n k
 |y7:fj 14 [] _CW
def afA(a:WX)(i:aa)(F H:Hp)(x:aa)(S:Nw)(r:Mh)(Q:VK):Ir:=∀W d l X,Go F H W d S->(∀b,X b->S b∨H b=I)->H l=I->W l=I->¬ X l->d l=J%Ig%(fE r.2).o Iz->f' a i NY W d x X->Q (Ia l) d
def afB(a:WX)(i:aa):Sp:=λC H Q _=>∃F x j o N s S k,C= [Ia x, Id j, Ia o]/\fj j N k/\IQ F H/\f' a i s F H x S/\H o=J%Ig%KR Iz/\F o=I/\¬ S o/\afA a i F H x S (fY s k) Q
section
variable (P:aP)(w:World)(F:aE)(S:ai->Im ah)(b:aO)
def hN(m:Ib KJ)(j:Int)(p:ai)(A:Nat)(z:Sp):Ir:=∃E B,cS m%Ik j=J%Ia E/\kz F%Ia E=ag/\MN F B [I4,p] []/\aJ P w F S b aB A E B [I4,p] z
structure CaD(a:WX)(i:aa)(m:Ib KJ):Ir where
 ga:l_ P w F S "CALLS" m
 c0:hN P w F S b m 0 J' 351%y1 a i vT
 c1:hN P w F S b m 1 J' 131%y1 a i vU
 c2:hN P w F S b m 2 I_ 131%yV a i 1 u7
 c3:hN P w F S b m 3 I_ 131%yV a i 0 yW
 c4:hN P w F S b m 4 I_ 131%kv a i 2%gP .home
 c5:hN P w F S b m 5 I_ 131%kv a i 2%gP .work
 c6:hN P w F S b m 6 I_ 131%kv a i 0%kn .wire
 c7:hN P w F S b m 7 I_ 131%kv a i 1%i2 _CZ
 c8:hN P w F S b m 8 I_ 131%kv a i 1%i2 _CY
 c9:hN P w F S b m 9 I_ 131%kv a i 1%i2 .lose
 y3:hN P w F S b m 10 I_ 131%kv a i 1%i2 _CV
 y4:hN P w F S b m 11 I_ 131%kv a i 1%i2 _CX
 y5:hN P w F S b m 12 I_ 131%kv a i 0%kn .all
 y6:hN P w F S b m 13 I_ 131%kv a i 3%oh _C0
 y7:hN P w F S b m 14 I_ 131%kv a i 0%kn _CW
end
theorem arZ:a0 [I4,V5,_A_] [I4,V5,_A_]%aR Gc:=(y,y,y,Ie,y,Ie,Ie)
theorem ar0(h:_CU=I)(F:bR->bF->Mh):HK zQ F=g7 zQ (-6):=by unfold HK;cbv
theorem fj.le{k:j'}(h:fj γ zk k):0<=γ/\γ<=14:=by cases h<;>decide
theorem fj.off{k:j'}(h:fj γ zk k)(m:3<γ)(G:_CU=I):fY zQ k=g7 zQ (-6):=by cases h with|c0=>lia|c1=>lia|c2=>lia|c3=>lia|_=>show ar0 G _
theorem ar1{r:Mh}(t:IQ G g)(a:f' β f zQ G g u zT)(q:afA β f G g u zT r ε)(e:r=g7 zQ γ)(L:IA R E g%Id γ):iv (bP R bY) E g ε:=L _ (dP Io,λl V=>by let h:Go G g G (ak g l%Ig [Id γ]) bO:= JI t V;show q G _ l zT (h.bv Ku) (W3 R W Ik W) V (b1 t V) (λz=>Pr l z V) ?_ ?_;{rw [e,ar];rfl};{rw [e];show a.go h})
theorem ar2(W:aW r V6 V6 Gc f Q)(ι:DC l p r D A u)(b:CaD l p r D A β u zB)(Z:cQ D "BEGIN" 3)(τ:cQ D "NOT_BEGUN" (-6)):aJ l p r D A aB 352 f Q [I4,V5,_A_]%afB β u:=by show Jb arZ (Z_ υ κ w φ (F,x,j,o,N,s,S,k,rfl,_)) λΓ Δ Θ M κ υ w φ L h=>?_;let (F,x,j,o,N,s,S,k,rfl,B,t,a,α,c,H,q):=h;let (a1,a2,a3):=b.ga;show (_,ao (bA (M'%ob (d4 ka (pv 1) (cg Z y)%c' _)%oa%eh%lZ%aC (pv 0) y) (ax%aI%bZ%ae (cg τ y) aj) bM)%ax%aI%Co (p_ a3 (Ym a2) (pv 1) IB)%ae (pv 0)%ae (pv 2) aj,?_);dsimp only [bz,cc,tB,bX,cx,n!,hy];let (X,μ,C,ν,ξ,χ,Ξ,Φ,Ψ,Ω,(za,E),zb,zc,γ):=a.obj;let ψ:∀{ο:L2.St} {f:ai} {v:V} {π:Hp},π x=J%Iq u X%dN μ C ν ξ->ο[0]?=J%J%Ia x->f∈([Jq,Jn,LK,IV]:Ib ai)->(dN μ C ν ξ).B f=J v->IA (cy r (bH 0) f) ο π v:=λh d R δ=>gf (gv d) h ι.t.cl (ι.t.no _ R) δ;let ρ:Iz j=kV%Ik j:=y;(let σ:(3<j->_A5≠I)->∃m i z,i<=351/\hN l p r D A zB j m i z/\z [Ia x, Ia o] κ w E0:=λG=>by cases B with|c0 ε h=>show (_,_,_,bj _,b.c0,F,x,o,ε,s,S,y,t,a,_Gv,h,c,H,q)|c1 ε h=>show (_,_,_,Il,b.c1,F,x,o,ε,s,S,y,t,a,_Gv,h,c,H,q)|c2 n=>show (_,_,_,Il,b.c2,F,x,o,_,s,S,y,t,a,α,y,c,H,q)|c3=>show (_,_,_,Il,b.c3,F,x,o,_,s,S,y,t,a,α,y,c,H,q)|c4 n k=>show (_,_,_,Il,b.c4,F,x,o,_,s,S,y,G Il,t,a,α,y,c,H,q)|c5 n k=>show (_,_,_,Il,b.c5,F,x,o,_,s,S,y,G Il,t,a,α,y,c,H,q)|c6=>show (_,_,_,Il,b.c6,F,x,o,_,s,S,y,G Il,t,a,α,y,c,H,q)|c7 n=>show (_,_,_,Il,b.c7,F,x,o,_,s,S,y,G Il,t,a,α,y,c,H,q)|c8 n=>show (_,_,_,Il,b.c8,F,x,o,_,s,S,y,G Il,t,a,α,y,c,H,q)|c9 n=>show (_,_,_,Il,b.c9,F,x,o,_,s,S,y,G Il,t,a,α,y,c,H,q)|y3 n=>show (_,_,_,Il,b.y3,F,x,o,_,s,S,y,G Il,t,a,α,y,c,H,q)|y4 n=>show (_,_,_,Il,b.y4,F,x,o,_,s,S,y,G Il,t,a,α,y,c,H,q)|y5=>show (_,_,_,Il,b.y5,F,x,o,_,s,S,y,G Il,t,a,α,y,c,H,q)|y6 O n k=>show (_,_,_,Il,b.y6,F,x,o,_,s,S,y,G Il,t,a,α,y,c,H,q)|y7=>show (_,_,_,Il,b.y7,F,x,o,_,s,S,y,G Il,t,a,α,y,c,H,q));show (_,y,_,_,y,y,_,y,cF JV JV);{let h:3<j:=cw h;show ψ χ y Ii y _ (_,y,?_);cases G:s.net with|none=>unfold mj at γ;rw [G] at γ;subst γ;show bu%ar1 t a q (B.off h G) gc|some zd=>unfold mj at γ;rw [G] at γ;let (_,e,ze,_,rfl,_):=γ;(let (m,i,z,ζ,(g,ω,d,R,δ,T),η):=σ%Zi _);show bt (_,y, Ik j,_,ρ,d,g,y,R,_,y,_,y,xa (τ:=E0) T (Jh ζ) δ IR aK η)};{let h:¬ 3<j:=dY%Mx h;let (m,i,z,ζ,(g,ω,d,R,δ,T),η):=σ λθ=>a' θ h;show bt (_,y, Ik j,_,ρ,d,g,y,R,_,y,_,y,xa (τ:=E0) T (Jh ζ) δ IR aK η)}
inductive Reads:WF (Ib Ix)%Ib j'
 |nil:OR [] []
 |num {j:Int} {N:Ib Ix} {k:j'} {o:Ib Ix} {O:Ib j'} (l:fj j N k) (R:2<=j) (r:OR o O):OR (j::(N++o)) (k::O)
 |text {j:Int} {N:Ib Ix} {k:j'} {o:Ib Ix} {O:Ib j'} (l:fj j N k) (R:j<2) (r:OR o O):OR (j::Sy::(N++o)) (k::O)
def hO:dn->Ib j'->Ib Ix|_, []=> []|s,k::f=>Wc (fE (fY s k).2).a::(fE (fY s k).2++hO (fY s k).1 f)
def Gd:Ib KJ:= [(Ik 2, Id 1,),(Ik 3, Id 0,),(Ik 4, Id 2,),(Ik 5, Id 2,),(Ik 6, Id 0,),(Ik 7, Id 1,),(Ik 8, Id 1,),(Ik 9, Id 1,),(Ik 10, Id 1,),(Ik 11, Id 1,),(Ik 12, Id 0,),(Ik 13, Id 3,),(Ik 14, Id 0,)]
theorem ar3{k:j'}(h:fj γ zk k)(R:2<=γ):cS Gd%Ik γ=J%Id%Wc Pg:=by cases h with|c0=>show a' R Il|c1=>show a' R Il|_=>rfl
def aD.keep(h:aD r g f α)(k:∀o,g f=J o->G f=J o):aD r G f α:=by rcases h with (h|⟨o,h⟩)|h;{show Ik%Ik%k _ h};{show Ik%Iy (o,k _ h)};{show Iy h}
def f'.oP{s:dn}{F δ ε ζ:Hp}{x:aa}{S u:Nw}(G:f' β f s F δ x S)(g:Go F δ ε ζ u)(α:∀N,S N->¬ u N):f' β f s ε ζ x S:=by let (X,gv,C,A,q,D,R,V,T,η,(L,O),h,m,v):=G.obj;let Q:=Ra _ _ D%α _ V;let t:=Ra _ _ O%α _ T;show (λN W z=>G.bg N W%g.bg N z,X,gv,C,A,q,Q,g.off R D Q%_a9 _,V,T,g.off η O t%_a9 _,(L,t),?_,?_,?_);{unfold nq at h ⊢;cases j:s.gram with|none=>rw [j] at h;show h|some gr=>rw [j] at h;let (n,p,Z,a):=h;show (n,p,Z.u _AN,a)};{unfold mi at m ⊢;cases j:jz s with|none=>rw [j] at m;show m|some gr=>rw [j] at m;let (θ,o,ι,k,κ,r,p,Z,a,H,M,b,γ):=m;show (θ,o,ι,k,κ,r,p,Z.u _AN,a,H,M,b,Ra _ _ γ%α _ T)};{unfold mj at v ⊢;cases j:s.net with|none=>rw [j] at v;show v|some gr=>rw [j] at v;let (l,e,c,p,Z,a,H,M,b,γ):=v;show (l,e,c,p,Z,a,H.oP g λN W=>α _%b N W,M,b,γ)}
def y8(b:WX)(i:aa)(a:aE):Sp:=λC H Q _=>∃f l O,C= [Ia f]/\aD a H f%JZ Iz/\OR l O/\(hO pF O).a<=10000000/\∀e g,e g=J%Ig%(hO pF O).o Iz->Q (Ia g) e
def ar4(h:∀x X,g x=I->g X=I->W_ X->zt [Ia x] (ak (ak g X%JA x) x%Iq f X []) (λr a=>r= IK/\ε (Ia x) a) τ):l4 f zt [] τ bY E g ε:=h
theorem ly:a0 [_Gw,I4,"given","spot",V5,N',MP,"answer"] SS%aR lx:=(y,y,y,Ie,y,Ie,Ie)
theorem ar5(zR:aW r PP PP lx u Q)(zz:DC l p r D A f)(zS:gx l p r D A aB 1 "Desk" f L0%adw f)(zT:ID l p r D A aB 352 V6 [I4,V5,_A_]%afB β f) (zU:D "TEXT_CALLS"=J%Ia W) (zA:∀H,bS r H W%bx [0,1]) (zV:l_ l p r D _Gx Gd):aJ l p r D A aB 353 u Q SS%y8 β f r:=by show zR.ok ly (λzW H zX zY Θ=>by let (a,c,O,rfl,_):=Θ;rfl) λzai zaj zak M H zW zX zY zB Θ=>?_;let (a,c,O,rfl,zZ,z0,zal,z1):=Θ;let (a1,a2,a3):=zV;show (_,ao (WJ Qy (aH y)%alN zS (zB.u Il) y aK)%ao (Wq Qy (aH y)%bZ aj)%ao (WK Qy (aH y) aF)%ao (iU e0 (d4 kU (pv 3) (cz dr I5 zz.len c!%ae (pv 0) aj)%c' _)%ao (Xd Qy (aH y)%a8 bf (pv 0) (pv 3) IB)%ao (WS 5 Qy (aH y)%d? jd (pv 3) aF)%ao (bA (d4 rS (pv 4) (mZ y zU%YY (Ia W) _) I5) (ao (WS 5 Qy (aH y)%d? jd (pv 3) aF)%ax%WS 6 Qy (aH y)%d? jd (pv 5)%a8 bf (pv 0) (d? jd (pv 3) aF) IB)%ax%WS 6 Qy (aH y)%d? jd (pv 5)%p_ a3 (Ym a2) (pv 4) IB)%ao (WS 7 Qy (aH y)%aM zT zB y aK%ae (pv 1)%ae (pv 4)%ae (wQ B0 (pv 0) (p3%pv 5)%p3%pv 6) aj)%ao (bI%ea d9 fw fX fg (pv 2)%ae (cz dr I5 zz.len c!%ae (pv 7) aj) aj)%ao (bI%ea d9 q8 tv p6 (pv 2)%ae (pv 7) aj)%ax%WK Qy (aH y)%pv 6)%ax%aI%pv 2,?_);dsimp only [bz,b?,bU,cc,tB,bX,cx,dq];show ar4%Wn x ζ Ξ z2 z3;(let z4:ak H ζ (JA x) x=I:=_bq aq z3.J);let G:Go O! H O! (ak (ak H ζ%JA x) x%Iq f ζ []) bO:=(M? (Xi _DP) z2).q%M? (Xi _DP) z4;let zC:ak (ak H ζ%JA x) x (Iq f ζ []) x=J%Iq f ζ []:=ar;generalize ak (ak H ζ%JA x) x (Iq f ζ [])=zam at G zC;show (x,ζ,y,zC,λn i z5 ο Φ Ψ=>QC);let v:Go O! H O! n bO:=(G.bv (N:=λι=>H ι=I) Ku).q%z5.go G.y Ξ y|>.fresh (Xx ι z z);show (dP%_bE 0 10,Wb g j);let Ω:Go O! H O! (ak n g%Ig []) bO:=v.q%JI v.y j;let zD:ak n g (Ig []) g=J%Ig []:=ar;(let za:ak n g (Ig []) x=J%Iq f ζ%dN IK IK i IK:=by rw [aq%aU Ψ j];show Ψ);(let E:ak n g (Ig []) i=J%Ig []:=by rw [aq%aU Φ j];show Φ);(let z6:W_ g:=λz=>by rw [z,Ψ] at j;cases j);(let z7:g≠i:=λz=>by rw [z,Φ] at j;cases j);let z8:H i=I:=G.bg _ ο;generalize ak n g (Ig [])=zan at Ω zD za E;show (λzE zF γ=>_aX (Ib Ix) (zF= [J%Ia a,J%Ia x,J%Ia g,J%Id Sz,ν,h,L,q]/\c=α++η/\OR η ε/\zE=ε.a/\IQ F γ/\f' β f s F γ x S/\(∀o,H a=J o->γ a=J o/\¬ S a/\WZ g)/\γ g=J%Ig%KR Iz/\F g=I/\¬ S g/\N++hO s ε=hO pF O),(_,I,I,I,I, [],c,O,pF,O!,λι=>ι=x∨ι=i, [],y,y,z0,y,Ω.y,?_,?_,zD,y,λz=>OX z6 z7,y),?_);{show (Z1 ι z,ζ, IK, IK,i, IK,za,y, Ik y, Iy y,y,(_,E),y,y,y);rcases d with d|d;{rw [d,za] at z;cases z};{rw [d,E] at z;cases z}};{intro o δ;show (Ω.ad _ _ δ id,ME,ME);{rcases z with z|z;{rw [z,Ξ] at δ;cases δ};{rw [z,z8] at δ;cases δ}};{rw [z,v.bg _ j] at δ;cases δ}};rintro zE zF κ ⟨ν,h,L,q,α,η,ε,s,F,S,θ,rfl,C,z9,rfl,t,zG,zH,zI,z_,zJ,zb⟩;let π:=aD.ad zZ%XZ o δ%zH o δ;show (_,y,_,y,a,_,y, Ik π,_,_,y,y,_,y,?_);rw [aQ];cases z9;(case nil=>rw [fo] at C;rw [Yt (aT (Sz<Wc c.a)=ay) bD (by rw [C];lia)];show bt (_,y,z1 κ g ?_);rw [zI,←zb];simp [hO]);(case' num μ N k ω ρ σ R zK=>let e:=dR j6 C;rw [cG,cH,cG] at e;rw [Yt (aT (Sz<Wc c.a)=ag) b8 Ih];show bu (λτ γ=>_aX (Ib Ix) (ε.a<(k::ρ).a/\τ= [J%Ia a,J%Ia x,J%Ia g,J%Id Sz,ν,h,L,q]/\c=α++η/\OR η ε/\IQ F γ/\f' β f s F γ x S/\(∀o,H a=J o->γ a=J o/\¬ S a/\WZ g)/\γ g=J%Ig%KR Iz/\F g=I/\¬ S g/\N++hO s ε=hO pF O),λτ γ (zc,zd,ze,zf,zg,zh,zi,M,zj,X,zk,zl,zm,Z,zn,zo)=>(_,zl,zc,zd,ze,zf,zg,zh,zi,M,zj,X,zk,zm,Z,zn,y,zo),?_);(let zp:(c.o Iz)[I8]?=J%Id μ:=_bk nD Ii);show (_,y,_,y,a,_,_,_,y,y,π,h7 zp,?_);show (_,y,_,_,y,y,?_);let z':=σ.le;show (_,y,W,_,y, Iy%zA κ,y,y,_,y,?_);obtain ⟨b,rfl⟩:∃b:Nat,μ=Ol:=Xs μ.L;rw [show (Ww ay (!gs (Id Ol) (bx [0,1]))%gs (Id Ol)%bx [0,1])=ay by change gs (Id Ol)%bx [0,1]=ay;rw [uW];show bD U'];show bt (_,y,_,y, Ik Ol,_,y,ar3 σ R,_,_,y,y,?_);obtain ⟨st,zq⟩:∃st:Nat,Sz+1=Wa st:=Xs (I8+1);obtain ⟨m,zr⟩:_an (Wi st+Sy) OJ:=Xs (st+NK);dsimp only [bU,List.set];rw [zq,zr];(let υ:st=(α++ [O?]).a:=U');(let ξ:c=(α++ [O?])++(N++ω):=_Gy);generalize α++ [O?]=zaa at υ ξ);(case' text μ N k ω ρ σ R zK=>let e:=dR j6 C;rw [cG,cH,cH,cG] at e;rw [Yt (aT (Sz<Wc c.a)=ag) b8 Ih];show bu (λτ γ=>_aX (Ib Ix) (ε.a<(k::ρ).a/\τ= [J%Ia a,J%Ia x,J%Ia g,J%Id Sz,ν,h,L,q]/\c=α++η/\OR η ε/\IQ F γ/\f' β f s F γ x S/\(∀o,H a=J o->γ a=J o/\¬ S a/\WZ g)/\γ g=J%Ig%KR Iz/\F g=I/\¬ S g/\N++hO s ε=hO pF O),λτ γ (zc,zd,ze,zf,zg,zh,zi,M,zj,X,zk,zl,zm,Z,zn,zo)=>(_,zl,zc,zd,ze,zf,zg,zh,zi,M,zj,X,zk,zm,Z,zn,y,zo),?_);(let zp:(c.o Iz)[I8]?=J%Id μ:=_bk nD Ii);show (_,y,_,y,a,_,_,_,y,y,π,h7 zp,?_);show (_,y,_,_,y,y,?_);let z':=σ.le;show (_,y,W,_,y, Iy%zA κ,y,y,_,y,?_);obtain ⟨b,rfl⟩:∃b:Nat,μ=Ol:=Xs μ.L;rw [show (Ww ay (!gs (Id Ol) (bx [0,1]))%gs (Id Ol)%bx [0,1])=ag by change gs (Id Ol)%bx [0,1]=ag;rw [uW];show b8 U'];(let zab:(c.o Iz)[I8+1]?=J%Id Sy:=_bk nD Ii);show bu (_,y,_,_,y,y,_,y,_,y,_,y,_,_,y,y,a,_,_,_,y,y,π,h7 zab,_,_,y,y,?_);obtain ⟨st,zq⟩:∃st:Nat,Sz+2=Wa st:=Xs (I8+2);obtain ⟨m,zr⟩:_an (Wi st+Sy) OJ:=Xs (st+NK);dsimp only [bU,List.set];rw [zq,zr];(let υ:st=(α++ [O?,Sy]).a:=U');(let ξ:c=(α++ [O?,Sy])++(N++ω):=_Gy);generalize α++ [O?,Sy]=zaa at υ ξ);all_goals (let Z:m=st+NK:=Ih);let zac:=dR j6 ξ;rw [cG,cG] at zac;(let zad:je (c.o Iz) (J%Wi st)%J%Wi m=KR Iz:=by rw [CK _Cf _Cf,←agR,←Gs,Z,Gw,ξ,υ,List.drop_left,List.take_left]);show yK (_,y,_,y,_,y,_,y,_,y,_,y,_,y,a,_,y,π,Wb w zs);rw [zad];let φ:Go F κ F (ak κ w%Ig%KR Iz) bO:= JI t zs;let zL:ak κ w (Ig%KR Iz) w=J%Ig%KR Iz:=ar;let χ:=φ.ad _ _ zI id;generalize ak κ w (Ig%KR Iz)=zaq at φ zL χ;show (F,x,_,w,N,s,S,k,y,σ,φ.y,zG.go φ,zL,b1 t zs,λz=>zG.bg w z zs,λzM B ψ zt Γ zN zae zar zas zO zaf=>?_);(let zag:∀o,H a=J o->B a=J o/\¬ zt a/\WZ g:=λo δ=>by let (P,R,Δ):=zH o δ;let T:=φ.ad _ _ P id;show (Γ.ad _ _ T R,ME,Δ);rcases zN _ z with z|z;{show R z};{rw [T] at z;cases z});let zu:=Γ.ad _ _ χ zJ;let zv:=Γ.off z_ χ zu%_a9 _;(let zP:¬ zt g:=λz=>(zN _ z).al zJ (λz=>by rw [χ] at z;cases z));let zah:g≠ψ:=aU χ zae;(let zat:θ.a+(1+((fE (fY s k).2).a+(hO (fY s k).1 ρ).a))<=10000000:=by have:=dR j6 zb;rw [hO,cG,cH,cG] at this;lia);show h_ (gv y) zu%jQ (_,y,ψ,_,y, Ik%Iw zO,_,zu,_ET,?_);let zw:=Go.put (g:=zM) (G:=B) (M:=(·=g)) (o:= (Ig (Qj Iz++ [Id%WB%(fE (fY s k).2).o Iz]))) Γ.y y zv;let zx:ak B g (Ig (Qj Iz++ [Id%WB%(fE (fY s k).2).o Iz])) g=J%Ig (Qj Iz++ [Id%WB%(fE (fY s k).2).o Iz]):=ar;(let zQ:ak B g (Ig (Qj Iz++ [Id%WB%(fE (fY s k).2).o Iz])) ψ=J%Ig%(fE (fY s k).2).o Iz:=by rw [aq zah.J];show zO);generalize ak B g (Ig (Qj Iz++ [Id%WB%(fE (fY s k).2).o Iz]))=zau at zw zx zQ;show qD (gv y) zx (_,y,g,ψ,_,_,y,y,zx,zQ,by rw [cG,aQ,aQ,eK];change _+1+_<=_;lia,?_);let zy:=zw.q%Yk (Ig (Qj Iz++ [Id%WB%(fE (fY s k).2).o Iz]++(fE (fY s k).2).o Iz)) zw.y y zv;show (_,y,J%Id Ol,J%Id%Wa st,J%Id OJ,J%Ia ψ,c.Y m,ω,ρ,(fY s k).1,zM,zt,θ++(Wc (fE (fY s k).2).a::fE (fY s k).2),qS _,?_,?_,zK,zy.y,zaf.oP zy%WP ι z%zP (z▸d),?_,?_,zv,zP,?_);{rw [ho,vI Ih];rfl};{rw [ξ,Z,υ,←iH,←cG,List.take_left]};{intro o δ;let (P,R,Δ):=zag o δ;show (zy.ad _ _ P Δ,R,Δ)};{rw [ar,aQ];simp};{rw [←zb,hO];simp}
end TW
namespace TW
theorem jO(h:1<=Pg):∃x t,zk=x::t:=by match zk,h with|x::t,_=>cbv
theorem uM(h:2<=Pg):∃x A t,zk=x::A::t:=by match zk,h with|x::A::t,_=>cbv
theorem ar6(h:3<=Pg):∃x A z t,zk=x::A::z::t:=by match zk,h with|x::A::z::t,_=>cbv
theorem ar7(h:zk.all%ag4 0 255=ag):(zk.o HM).o (λb=>O?)=zk/\ayf zk=ag:=by (let C:∀z∈zk,0<=z/\z<=255:=λz E=>by have:=mA.R h z E;unfold ag4 at this;simpa using this);show Wt ?_;{rw [dX];(have:∀z∈zk,((λb:Iu=>Wi b)∘HM) z=z:=XR z E);show (agS this).q%List.map_id zk};{unfold ayf;cbv}
theorem ar8{j:Ib%Ib Ix}{a:Ib Ix}(h:o9 rq (γ::zk)=J (j,a,))(W:HN pG j=ag): ∃N d,fj γ N d/\VaattsNeutral.callOf%HP j=J d/\((2<=γ/\zk=N++a)∨(γ<2/\zk=Sy::(N++a))):=by (obtain ⟨s,P⟩:∃s,rq γ=J s:=by cases i:rq γ with|none=>unfold o9 at h;cbv|some s=>show (s,y));let F:=P;unfold rq at F;(let e:∀{γ:Int} (P:rq γ=J (0,1,)) (h:o9 rq (γ::zk)=J (j,a,)) (W:HN pG j=ag) (g:pG γ=([], [(0,255,0,4000,)],)),∃k:Ib Iu,V'/\j= [[γ],L? λb=>O?]/\zk=Wc J4::(L? (λb=>O?)++a)/\HQ%L? (λb=>O?)=J k:=λ{γ} P h W g=>by let (n,o,rfl,m,l,rfl,rfl):=aiQ P h;let W:(PyInside.each (pG γ).1 [] && PyInside.lists (pG γ).2 [o.Y Ln])=ag:=W;rw [g] at W;let W:(ag && (aT (0<=(o.Y Ln).a) && aT%W1 (o.Y Ln).a && (o.Y Ln).all%ag4 0 255 && ag))=ag:=W;simp only [o2,vb,cI,cU] at W;let (c,Z):=ar7 W.2;(let V:((o.Y Ln).o HM).a=Ln:=by rw [aQ,ho,vI l]);show ((o.Y Ln).o HM,IZ,by rw [c],?_,?_);{rw [c,V,aw6,Int.toNat_of_nonneg m]};{rw [c];unfold HQ;rw [aA Z]});by_cases q:γ=0;{subst γ;let (k,u,rfl,w,f):=e y h W y;show (_,_, .c0 k u,by change (HQ _).o _=_;rw [f];rfl, Iy (Il,_Gz))};rw [au q] at F;by_cases v:γ=1;{subst γ;let (k,u,rfl,w,f):=e y h W y;show (_,_, .c1 k u,by change (HQ _).o _=_;rw [f];rfl, Iy (Il,_Gz))};rw [au v] at F;by_cases B:γ=2;{subst γ;let (D,rfl,rfl):=XV 1;let (x,t,rfl):=jO D;show (_,_, .c2 x,y, Ik (Il,y))};rw [au B] at F;by_cases C:γ=3;{subst γ;let (D,rfl,rfl):=XV 0;show (_,_, .c3,y, Ik (Il,y))};rw [au C] at F;by_cases E:γ=4;{subst γ;let (D,rfl,rfl):=XV 2;let (x,A,t,rfl):=uM D;show (_,_, .c4 x A,y, Ik (Il,y))};rw [au E] at F;by_cases G:γ=5;{subst γ;let (D,rfl,rfl):=XV 2;let (x,A,t,rfl):=uM D;show (_,_, .c5 x A,y, Ik (Il,y))};rw [au G] at F;by_cases H:γ=6;{subst γ;let (D,rfl,rfl):=XV 0;show (_,_, .c6,y, Ik (Il,y))};rw [au H] at F;by_cases L:γ=7;{subst γ;let (D,rfl,rfl):=XV 1;let (x,t,rfl):=jO D;show (_,_, .c7 x,y, Ik (Il,y))};rw [au L] at F;by_cases M:γ=8;{subst γ;let (D,rfl,rfl):=XV 1;let (x,t,rfl):=jO D;show (_,_, .c8 x,y, Ik (Il,y))};rw [au M] at F;by_cases O:γ=9;{subst γ;let (D,rfl,rfl):=XV 1;let (x,t,rfl):=jO D;show (_,_, .c9 x,y, Ik (Il,y))};rw [au O] at F;by_cases Q:γ=10;{subst γ;let (D,rfl,rfl):=XV 1;let (x,t,rfl):=jO D;show (_,_, .y3 x,y, Ik (Il,y))};rw [au Q] at F;by_cases R:γ=11;{subst γ;let (D,rfl,rfl):=XV 1;let (x,t,rfl):=jO D;show (_,_, .y4 x,y, Ik (Il,y))};rw [au R] at F;by_cases S:γ=12;{subst γ;let (D,rfl,rfl):=XV 0;show (_,_, .y5,y, Ik (Il,y))};rw [au S] at F;by_cases T:γ=13;{subst γ;let (D,rfl,rfl):=XV 3;let (x,A,z,t,rfl):=ar6 D;show (_,_, .y6 x A z,y, Ik (Il,y))};rw [au T] at F;by_cases X:γ=14;{subst γ;let (D,rfl,rfl):=XV 0;show (_,_, .y7,y, Ik (Il,y))};cbv
def ar9(x:Ib Ix)(l:Ib%Ib Ix):ag5 (x::l)=Wc x.a::(x++ag5 l):=y
theorem afC:∀(b:Ib%Ib%Ib Ix) (E:Nat) (l:Ib Ix),qW rq E l=J b->ayg pG b=ag->∃O,OR l O/\∀s,ag5%PyFlat.played ag6 s%b.o HP=hO s O|b,E,l,h,W=>by rcases aiP h with ⟨rfl,rfl⟩|⟨p,r,j,t,a,f,rfl,rfl,m,L⟩;{show ([], IR,λs=>y)};{let W:(HN pG j && a.all%HN pG)=ag:=W;rw [cI] at W;let (O,i,d):=afC a f t L W.2;let (N,k,c,g,n):=ar8 m W.1;show (k::O,?_,We s);{rcases n with ⟨R,rfl⟩|⟨R,rfl⟩;{show N0 c R i};{show .text c R i}};{(let e:ag6 s%HP j=((fY s k).1,fE (fY s k).2,):=by unfold ag6;rw [g];rfl);rw [dJ,PyFlat.played,e,ar9,d,hO]}} termination_by b=>b.length
theorem ar_(h:ayh zk=ag):∃O,OR zk O/\HR zk=hO pF O/\(hO pF O).a<=10000000:=by unfold ayh at h;cases m:qW rq zk.a zk with|none=>cbv|some b=>rw [m] at h;let h:(!b.bj && PyFlat.atMost 400 b && ayg pG b && VaattsNeutral.asked%b.o HP && PyFlat.short 10000000%HR zk)=ag:=h;simp only [cI] at h;let (O,i,d):=afC b _ zk m h.1.1.2;(let e:HR zk=hO pF O:=by unfold HR PyVaatts.calls;rw [m];show d _);show (O,i,e,?_);rw [←e];have:=Lv;unfold PyFlat.short at this;simpa using this
end TW
theorem TW.zzf(P:_):TW.KF P=TW.KF P∧PySem.Challenge.rw_treeworkers_s01_answers=PySem.Challenge.rw_treeworkers_s01_answers:=by k_fillS;exact ⟨rfl,rfl⟩
namespace TW
open PySem PySem.Spec PyProof.Rows L2
def cp(h:jt r (Ia f) L=J I):f3 r f L:=h
def i4(p:Aq r f Str.empty=ag)(hd:GK r f=ag)(a:agh r f=ag)(z:jt r (Ia f) _Du=J%J%Jf _Dv):d5 r f:=(p,hd,a,z)
def aY(K:aE)(x X:ai)(st:aS)(E:aa)(u:Ib ai):Ir:=∃B,aW K x X st E B/\MN K B u []
def a9{a:ah}{d i:Im aa}{m:KC%Im ah}{b c g:ah}(l:r.B f=J (a,d, .func%pe zD L (oq zA) (l6 zA) (aR zA) Ja zw b c i η g,m)) (j:GO r η L=ag) (k:kz r%Ia f=ag) (h:∀(zw b c:ah) (i:Im aa) (η g:ah) (G:Ib ah),JY=KD->_Dw (pe zD L (oq zA) (l6 zA) (aR zA) Ja zw b c i η g) (G, [])=JH%Qd G):aY r zD L zA f π:=(_,acq l j k,(acq (zA:=zA) l j k).binds h)
section
variable {P:aP}{w:World}{mg:ai->Im ah}{h:aO}
def aY.d(n:aY r L L zA f π)(m:mg L=J%Ia f):iY r mg L zA π:=let (B,F,b):=n;(f,B,m,LY,b,F)
def aY.m(n:aY r L zD zA f π)(c:jt r (Ia u) L=J%J%Ia f)(i:As r%Ia f=ag)(b:∀B,aW r L zD zA f B->aJ P w r mg h zG q f B π zt):eu P w r mg h zG q u L π zt:=let (B,F,d):=n;(f,B,(c,i,LY),d,b B F)
def aY.k{x X:ai}{st:aS}{E C:aa}{u:Ib ai}{A:fb}{k:Nat}{z:Sp}(n:aY r J_ X st E u)(m:mg x=J%Ia C)(c:agj r C=ag)(d:jt r (Ia C) J_=J%J%Ia E)(i:As r%Ia E=ag)(e:kz r%Ia C=ag)(b:∀B,aW r J_ X st E B->aJ P w r mg h A k E B u z):gx P w r mg h A k x C u z:=let (B,F,f):=n;(E,B,m,(c,d,i,e),f,b B F)
end
theorem ar'(P:av):aY (KF P) LU LU Cs 34 Ml:=a9 Ic Ic Ic λ_ _ _ _ _ _ G V=>match G,V with| [_],_=>y
theorem asa(P:av):aY (KF P) RZ RZ Cu 209 Ke:=a9 Ic Ic Ic λ_ _ _ _ _ _ G V=>match G,V with| [_],_=>y
theorem asb(P:av):aY (KF P) U0 U0 Cz 237 Ke:=a9 Ic Ic Ic λ_ _ _ _ _ _ G V=>match G,V with| [_],_=>y
theorem asc(P:av):aY (KF P) U1 U1 CA 244 [J',N']:=a9 Ic Ic Ic λ_ _ _ _ _ _ G V=>match G,V with| [_,_],_=>y
theorem asd(P:av):aY (KF P) Tp Tp Cw 223 Ke:=a9 Ic Ic Ic λ_ _ _ _ _ _ G V=>match G,V with| [_],_=>y
theorem ase(P:av):aY (KF P) U5 U5 xc 263 [U4]:=a9 Ic Ic Ic λ_ _ _ _ _ _ G V=>match G,V with| [_],_=>y
theorem asf(P:av):aY (KF P) U2 U2 CB 251 [J',N']:=a9 Ic Ic Ic λ_ _ _ _ _ _ G V=>match G,V with| [_,_],_=>y
theorem ash(P:av):aY (KF P) U3 U3 CC 258 [_AA]:=a9 Ic Ic Ic λ_ _ _ _ _ _ G V=>match G,V with| [_],_=>y
theorem asi(P:av):aY (KF P) UZ UZ Cy 230 Ke:=a9 Ic Ic Ic λ_ _ _ _ _ _ G V=>match G,V with| [_],_=>y
theorem asj(P:av):aY (KF P) Q0 Q0 Ct 202 Ke:=a9 Ic Ic Ic λ_ _ _ _ _ _ G V=>match G,V with| [_],_=>y
theorem asl(P:av):aY (KF P) UY UY Cv 216 Ke:=a9 Ic Ic Ic λ_ _ _ _ _ _ G V=>match G,V with| [_],_=>y
theorem asm(P:av):aY (KF P) Tq Tq CD 270 QF:=a9 Ic Ic Ic λ_ _ _ _ _ _ G V=>match G,V with| [_],_=>y
theorem asn(P:av):aY (KF P) Tt _Fn CS 312 [IG,I?]:=a9 Ic Ic Ic λ_ _ _ _ _ _ G V=>match G,V with| [_,_],_=>y
theorem aso(P:av):aY (KF P) _AD _Fl CO 291 L0:=a9 Ic Ic Ic λ_ _ _ _ _ _ G V=>match G,V with| [_],_=>y
theorem asp(P:av):aY (KF P) _BJ _Fo CT 319 [IG,I?]:=a9 Ic Ic Ic λ_ _ _ _ _ _ G V=>match G,V with| [_,_],_=>y
theorem asq(P:av):aY (KF P) Q2 "Reader.sees" CP 298 [IG,I?]:=a9 Ic Ic Ic λ_ _ _ _ _ _ G V=>match G,V with| [_,_],_=>y
theorem asr(P:av):aY (KF P) Qp "Reader.take" CQ 305 [IG,I?]:=a9 Ic Ic Ic λ_ _ _ _ _ _ G V=>match G,V with| [_,_],_=>y
theorem ass(P:av):aY (KF P) J_ _Fq CZ 51 [IG,I?,Kq,KZ]:=a9 Ic Ic Ic λ_ _ _ _ _ _ G V=>match G,V with| [_,_,_,_],_=>y
theorem asu(P:av):aY (KF P) J_ _Fr C0 72 [IG,M!,My,Mz]:=a9 Ic Ic Ic λ_ _ _ _ _ _ G V=>match G,V with| [_,_,_,_],_=>y
theorem asv(P:av):aY (KF P) _AE "Draft.leave" C3 107 L0:=a9 Ic Ic Ic λ_ _ _ _ _ _ G V=>match G,V with| [_],_=>y
theorem asw(P:av):aY (KF P) _BK "Draft.enter" C2 100 L0:=a9 Ic Ic Ic λ_ _ _ _ _ _ G V=>match G,V with| [_],_=>y
theorem asx(P:av):aY (KF P) J_ _Fs C1 93 [IG,Kr]:=a9 Ic Ic Ic λ_ _ _ _ _ _ G V=>match G,V with| [_,_],_=>y
theorem asy(P:av):aY (KF P) J_ _Fu CN 284 [IG,J']:=a9 Ic Ic Ic λ_ _ _ _ _ _ G V=>match G,V with| [_,_],_=>y
theorem asz(P:av):aY (KF P) J! "Draft.part" C4 114 [IG,I?,Kq,KZ]:=a9 Ic Ic Ic λ_ _ _ _ _ _ G V=>match G,V with| [_,_,_,_],_=>y
theorem asA(P:av):aY (KF P) N? _Fv C5 121 [IG,JC,I2]:=a9 Ic Ic Ic λ_ _ _ _ _ _ G V=>match G,V with| [_,_,_],_=>y
theorem asB(P:av):aY (KF P) Tx Tx xB 177 J7:=a9 Ic Ic Ic λ_ _ _ _ _ _ G V=>match G,V with| [_],_=>y
theorem asC(P:av):aY (KF P) R5 R5 xD 191 [LE,Tz]:=a9 Ic Ic Ic λ_ _ _ _ _ _ G V=>match G,V with| [_,_],_=>y
theorem asD(P:av):aY (KF P) TF TF xC 184 J7:=a9 Ic Ic Ic λ_ _ _ _ _ _ G V=>match G,V with| [_],_=>y
theorem asE(P:av):aY (KF P) TH TH xA 170 J7:=a9 Ic Ic Ic λ_ _ _ _ _ _ G V=>match G,V with| [_],_=>y
theorem asF(P:av):aY (KF P) Q7 Q7 xy 163 J7:=a9 Ic Ic Ic λ_ _ _ _ _ _ G V=>match G,V with| [_],_=>y
theorem asG(P:av):aY (KF P) Q8 Q8 xx 156 [LE,R7]:=a9 Ic Ic Ic λ_ _ _ _ _ _ G V=>match G,V with| [_,_],_=>y
theorem asH(P:av):aY (KF P) TJ TJ xw 149 J7:=a9 Ic Ic Ic λ_ _ _ _ _ _ G V=>match G,V with| [_],_=>y
theorem asI(P:av):aY (KF P) Pt Pt xv 142 J7:=a9 Ic Ic Ic λ_ _ _ _ _ _ G V=>match G,V with| [_],_=>y
theorem asJ(P:av):aY (KF P) TM TM C7 135 LZ:=a9 Ic Ic Ic λ_ _ _ _ _ _ G V=>match G,V with| [_],_=>y
theorem asK(P:av):aY (KF P) J_ _FB Dk 361 [IG,LV,Me]:=a9 Ic Ic Ic λ_ _ _ _ _ _ G V=>match G,V with| [_,_,_],_=>y
theorem asL(P:av):aY (KF P) J_ _FD Dl 382 [IG,I2,Nr,NQ,KQ,NR]:=a9 Ic Ic Ic λ_ _ _ _ _ _ G V=>match G,V with| [_,_,_,_,_,_],_=>y
theorem asM(P:av):aY (KF P) J_ _FE Dj 340 [IG,I2,Pu,Pw]:=a9 Ic Ic Ic λ_ _ _ _ _ _ G V=>match G,V with| [_,_,_,_],_=>y
theorem asN(P:av):aY (KF P) U? U? Dt 480 LZ:=a9 Ic Ic Ic λ_ _ _ _ _ _ G V=>match G,V with| [_],_=>y
theorem asO(P:av):aY (KF P) J_ _FC Dm 417 [IG,J?,MQ]:=a9 Ic Ic Ic λ_ _ _ _ _ _ G V=>match G,V with| [_,_,_],_=>y
theorem asP(P:av):aY (KF P) Vc Vc Dq 459 LZ:=a9 Ic Ic Ic λ_ _ _ _ _ _ G V=>match G,V with| [_],_=>y
theorem asQ(P:av):aY (KF P) Vd Vd Dr 466 LZ:=a9 Ic Ic Ic λ_ _ _ _ _ _ G V=>match G,V with| [_],_=>y
theorem asR(P:av):aY (KF P) Vb Vb Ds 473 LZ:=a9 Ic Ic Ic λ_ _ _ _ _ _ G V=>match G,V with| [_],_=>y
theorem asS(P:av):aY (KF P) TV TV Dn 452 QF:=a9 Ic Ic Ic λ_ _ _ _ _ _ G V=>match G,V with| [_],_=>y
theorem asT(P:av):aY (KF P) _B3 _FJ DE 396 [IG,LV]:=a9 Ic Ic Ic λ_ _ _ _ _ _ G V=>match G,V with| [_,_],_=>y
theorem asU(P:av):aY (KF P) R' _FG DF 424 [IG,I2]:=a9 Ic Ic Ic λ_ _ _ _ _ _ G V=>match G,V with| [_,_],_=>y
theorem asV(P:av):aY (KF P) TX TX DH 445 [Px,I2]:=a9 Ic Ic Ic λ_ _ _ _ _ _ G V=>match G,V with| [_,_],_=>y
theorem asW(P:av):aY (KF P) _AL _FI DD 389 [IG,JC]:=a9 Ic Ic Ic λ_ _ _ _ _ _ G V=>match G,V with| [_,_],_=>y
theorem asX(P:av):aY (KF P) _B2 _FH DG 431 [IG,I2]:=a9 Ic Ic Ic λ_ _ _ _ _ _ G V=>match G,V with| [_,_],_=>y
theorem asY(P:av):aY (KF P) TY TY DR 604 L1:=a9 Ic Ic Ic λ_ _ _ _ _ _ G V=>match G,V with| [_],_=>y
theorem asZ(P:av):aY (KF P) Vj Vj DT 618 L1:=a9 Ic Ic Ic λ_ _ _ _ _ _ G V=>match G,V with| [_],_=>y
theorem as0(P:av):aY (KF P) Vi Vi DS 611 L1:=a9 Ic Ic Ic λ_ _ _ _ _ _ G V=>match G,V with| [_],_=>y
theorem as1(P:av):aY (KF P) Vh Vh DQ 597 Kd:=a9 Ic Ic Ic λ_ _ _ _ _ _ G V=>match G,V with| [_],_=>y
theorem as2(P:av):aY (KF P) Py Py DO 583 Kd:=a9 Ic Ic Ic λ_ _ _ _ _ _ G V=>match G,V with| [_],_=>y
theorem as3(P:av):aY (KF P) Q_ Q_ DP 590 Kd:=a9 Ic Ic Ic λ_ _ _ _ _ _ G V=>match G,V with| [_],_=>y
theorem as4(P:av):aY (KF P) _B_ _B_ D5 800 JP:=a9 Ic Ic Ic λ_ _ _ _ _ _ G V=>match G,V with| [_],_=>y
theorem as5(P:av):aY (KF P) _B? _B? D4 793 JP:=a9 Ic Ic Ic λ_ _ _ _ _ _ G V=>match G,V with| [_],_=>y
theorem as6(P:av):aY (KF P) _B6 _B6 DZ 758 JP:=a9 Ic Ic Ic λ_ _ _ _ _ _ G V=>match G,V with| [_],_=>y
theorem as7(P:av):aY (KF P) _B9 _B9 D2 779 JP:=a9 Ic Ic Ic λ_ _ _ _ _ _ G V=>match G,V with| [_],_=>y
theorem as8(P:av):aY (KF P) _B7 _B7 D0 765 JP:=a9 Ic Ic Ic λ_ _ _ _ _ _ G V=>match G,V with| [_],_=>y
theorem as9(P:av):aY (KF P) _B8 _B8 D1 772 JP:=a9 Ic Ic Ic λ_ _ _ _ _ _ G V=>match G,V with| [_],_=>y
theorem as_(P:av):aY (KF P) _B! _B! D3 786 JP:=a9 Ic Ic Ic λ_ _ _ _ _ _ G V=>match G,V with| [_],_=>y
theorem as'(P:av):aY (KF P) _B5 _B5 DY 751 JP:=a9 Ic Ic Ic λ_ _ _ _ _ _ G V=>match G,V with| [_],_=>y
theorem ata(P:av):aY (KF P) _B' _B' D6 807 JP:=a9 Ic Ic Ic λ_ _ _ _ _ _ G V=>match G,V with| [_],_=>y
theorem atb(P:av):aY (KF P) Q' Q' DU 625 Og:=a9 Ic Ic Ic λ_ _ _ _ _ _ G V=>match G,V with| [_],_=>y
theorem atc(P:av):aY (KF P) Tv Tv DX 744 JP:=a9 Ic Ic Ic λ_ _ _ _ _ _ G V=>match G,V with| [_],_=>y
theorem atd(P:av):aY (KF P) J_ _FK DN 569 [IG,IL]:=a9 Ic Ic Ic λ_ _ _ _ _ _ G V=>match G,V with| [_,_],_=>y
theorem ate(P:av):aY (KF P) _Cb _Cb D! 849 Kc:=a9 Ic Ic Ic λ_ _ _ _ _ _ G V=>match G,V with| [_],_=>y
theorem atf(P:av):aY (KF P) _Ca _Ca D' 842 Kc:=a9 Ic Ic Ic λ_ _ _ _ _ _ G V=>match G,V with| [_],_=>y
theorem atg(P:av):aY (KF P) _Cc _Cc D8 821 Kc:=a9 Ic Ic Ic λ_ _ _ _ _ _ G V=>match G,V with| [_],_=>y
theorem ath(P:av):aY (KF P) Vl Vl Ea 863 L1:=a9 Ic Ic Ic λ_ _ _ _ _ _ G V=>match G,V with| [_],_=>y
theorem ati(P:av):aY (KF P) _Cd _Cd Eb 870 Kc:=a9 Ic Ic Ic λ_ _ _ _ _ _ G V=>match G,V with| [_],_=>y
theorem atj(P:av):aY (KF P) R? R? Eh 891 Kd:=a9 Ic Ic Ic λ_ _ _ _ _ _ G V=>match G,V with| [_],_=>y
theorem atk(P:av):aY (KF P) J_ _FS El 1080 L0:=a9 Ic Ic Ic λ_ _ _ _ _ _ G V=>match G,V with| [_],_=>y
theorem atl(P:av):aY (KF P) J_ _FP Ek 926 [IG,NT,Na,JJ,MR]:=a9 Ic Ic Ic λ_ _ _ _ _ _ G V=>match G,V with| [_,_,_,_,_],_=>y
theorem atm(P:av):aY (KF P) J_ _FQ Ei 697 [IG,Jv,IL,LI,JC]:=a9 Ic Ic Ic λ_ _ _ _ _ _ G V=>match G,V with| [_,_,_,_,_],_=>y
theorem atn(P:av):aY (KF P) Vm Vm Em 1094 [IL,Px]:=a9 Ic Ic Ic λ_ _ _ _ _ _ G V=>match G,V with| [_,_],_=>y
theorem ato(P:av):aY (KF P) J_ _FR Ej 494 [IG,Ka,K6,Nv,LJ]:=a9 Ic Ic Ic λ_ _ _ _ _ _ G V=>match G,V with| [_,_,_,_,_],_=>y
theorem atp(P:av):aY (KF P) Vn Vn En 1101 [PD]:=a9 Ic Ic Ic λ_ _ _ _ _ _ G V=>match G,V with| [_],_=>y
theorem atq(P:av):aY (KF P) Vo Vo Es 725 [Kr,Jv]:=a9 Ic Ic Ic λ_ _ _ _ _ _ G V=>match G,V with| [_,_],_=>y
theorem atr(P:av):aY (KF P) Vp Vp Et 732 [Kr,PF]:=a9 Ic Ic Ic λ_ _ _ _ _ _ G V=>match G,V with| [_,_],_=>y
theorem ats(P:av):aY (KF P) Vr Vr Er 718 [Kr,Jq,JD,PF]:=a9 Ic Ic Ic λ_ _ _ _ _ _ G V=>match G,V with| [_,_,_,_],_=>y
theorem att(P:av):aY (KF P) Vt Vt xZ 737 [JD]:=a9 Ic Ic Ic λ_ _ _ _ _ _ G V=>match G,V with| [_],_=>y
theorem atu(P:av):aY (KF P) T2 T2 Ep 711 [J',Jq]:=a9 Ic Ic Ic λ_ _ _ _ _ _ G V=>match G,V with| [_,_],_=>y
theorem atv(P:av):aY (KF P) T5 T5 EA 651 [Vv]:=a9 Ic Ic Ic λ_ _ _ _ _ _ G V=>match G,V with| [_],_=>y
theorem atw(P:av):aY (KF P) Vw Vw x5 656 SV:=a9 Ic Ic Ic λ_ _ _ _ _ _ G V=>match G,V with| [_],_=>y
theorem atx(P:av):aY (KF P) Vx Vx x6 661 OI:=a9 Ic Ic Ic λ_ _ _ _ _ _ G V=>match G,V with| [_],_=>y
theorem aty(P:av):aY (KF P) Vy Vy EB 678 [Jq,Jv,Me]:=a9 Ic Ic Ic λ_ _ _ _ _ _ G V=>match G,V with| [_,_,_],_=>y
theorem atz(P:av):aY (KF P) Vz Vz x9 683 OI:=a9 Ic Ic Ic λ_ _ _ _ _ _ G V=>match G,V with| [_],_=>y
theorem atA(P:av):aY (KF P) VA VA x7 666 [Jq,Jv]:=a9 Ic Ic Ic λ_ _ _ _ _ _ G V=>match G,V with| [_,_],_=>y
theorem atB(P:av):aY (KF P) VB VB x8 671 [Jq,Jv]:=a9 Ic Ic Ic λ_ _ _ _ _ _ G V=>match G,V with| [_,_],_=>y
theorem atD(P:av):aY (KF P) T8 T8 Ez 644 OI:=a9 Ic Ic Ic λ_ _ _ _ _ _ G V=>match G,V with| [_],_=>y
theorem atE(P:av):aY (KF P) VF VF ET 555 [Jn,LJ,N?]:=a9 Ic Ic Ic λ_ _ _ _ _ _ G V=>match G,V with| [_,_,_],_=>y
theorem atF(P:av):aY (KF P) VE VE EN 527 SV:=a9 Ic Ic Ic λ_ _ _ _ _ _ G V=>match G,V with| [_],_=>y
theorem atG(P:av):aY (KF P) VG VG ER 541 [Jn,IL,K6,I2]:=a9 Ic Ic Ic λ_ _ _ _ _ _ G V=>match G,V with| [_,_,_,_],_=>y
theorem atH(P:av):aY (KF P) VH VH EO 534 [Jn]:=a9 Ic Ic Ic λ_ _ _ _ _ _ G V=>match G,V with| [_],_=>y
theorem atI(P:av):aY (KF P) VI VI ES 548 [Jn,JJ]:=a9 Ic Ic Ic λ_ _ _ _ _ _ G V=>match G,V with| [_,_],_=>y
theorem atJ(P:av):aY (KF P) J_ _F_ ye 513 [IG,Jq,JD]:=a9 Ic Ic Ic λ_ _ _ _ _ _ G V=>match G,V with| [_,_,_],_=>y
theorem atL(P:av):aY (KF P) Sk Sk uD 630 [Pz]:=a9 Ic Ic Ic λ_ _ _ _ _ _ G V=>match G,V with| [_],_=>y
theorem atM(P:av):aY (KF P) _Cw _Cw D? 856 Kc:=a9 Ic Ic Ic λ_ _ _ _ _ _ G V=>match G,V with| [_],_=>y
theorem atN(P:av):aY (KF P) _Cu _Cu D7 814 Kc:=a9 Ic Ic Ic λ_ _ _ _ _ _ G V=>match G,V with| [_],_=>y
theorem atO(P:av):aY (KF P) _Cv _Cv D_ 835 Kc:=a9 Ic Ic Ic λ_ _ _ _ _ _ G V=>match G,V with| [_],_=>y
theorem atP(P:av):aY (KF P) U8 U8 D9 828 Kc:=a9 Ic Ic Ic λ_ _ _ _ _ _ G V=>match G,V with| [_],_=>y
theorem atQ(P:av):aY (KF P) T' T' yj 877 [I?,Oa]:=a9 Ic Ic Ic λ_ _ _ _ _ _ G V=>match G,V with| [_,_],_=>y
theorem atR(P:av):aY (KF P) T? T? ym 905 [J!,KI,KG]:=a9 Ic Ic Ic λ_ _ _ _ _ _ G V=>match G,V with| [_,_,_],_=>y
theorem atU(P:av):aY (KF P) T! T! yl 898 [J!,KI,KG]:=a9 Ic Ic Ic λ_ _ _ _ _ _ G V=>match G,V with| [_,_,_],_=>y
theorem atV(P:av):aY (KF P) OY OY yk 884 [J!,KI,KG]:=a9 Ic Ic Ic λ_ _ _ _ _ _ G V=>match G,V with| [_,_,_],_=>y
theorem atW(P:av):aY (KF P) Ua Ua yn 912 [J!,KI,KG]:=a9 Ic Ic Ic λ_ _ _ _ _ _ G V=>match G,V with| [_,_,_],_=>y
theorem atX(P:av):aY (KF P) VN VN E_ 966 [JJ,OZ]:=a9 Ic Ic Ic λ_ _ _ _ _ _ G V=>match G,V with| [_,_],_=>y
theorem atY(P:av):aY (KF P) VM VM E9 959 [JD,LK]:=a9 Ic Ic Ic λ_ _ _ _ _ _ G V=>match G,V with| [_,_],_=>y
theorem atZ(P:av):aY (KF P) VP VP yr 971 [Lu,O0]:=a9 Ic Ic Ic λ_ _ _ _ _ _ G V=>match G,V with| [_,_],_=>y
theorem at0(P:av):aY (KF P) VQ VQ ys 976 [Lu]:=a9 Ic Ic Ic λ_ _ _ _ _ _ G V=>match G,V with| [_],_=>y
theorem at1(P:av):aY (KF P) J_ _Gg uT 945 [IG,Jn,LK]:=a9 Ic Ic Ic λ_ _ _ _ _ _ G V=>match G,V with| [_,_,_],_=>y
theorem at3(P:av):aY (KF P) Uh Uh yt 981 [IV,IL]:=a9 Ic Ic Ic λ_ _ _ _ _ _ G V=>match G,V with| [_,_],_=>y
theorem at4(P:av):aY (KF P) VT VT E' 988 [IV,IL]:=a9 Ic Ic Ic λ_ _ _ _ _ _ G V=>match G,V with| [_,_],_=>y
theorem at5(P:av):aY (KF P) Ui Ui E! 995 [IV,Rh]:=a9 Ic Ic Ic λ_ _ _ _ _ _ G V=>match G,V with| [_,_],_=>y
theorem at6(P:av):aY (KF P) VU VU Fb 1009 [IV,IL]:=a9 Ic Ic Ic λ_ _ _ _ _ _ G V=>match G,V with| [_,_],_=>y
theorem at7(P:av):aY (KF P) Uj Uj E? 1002 [IV,IL]:=a9 Ic Ic Ic λ_ _ _ _ _ _ G V=>match G,V with| [_,_],_=>y
theorem at8(P:av):aY (KF P) VW VW Fe 1035 [IV,Mg]:=a9 Ic Ic Ic λ_ _ _ _ _ _ G V=>match G,V with| [_,_],_=>y
theorem at9(P:av):aY (KF P) Uk Uk Fc 1021 [IV,JC]:=a9 Ic Ic Ic λ_ _ _ _ _ _ G V=>match G,V with| [_,_],_=>y
theorem aua(P:av):aY (KF P) VV VV Fd 1028 [IV,JC]:=a9 Ic Ic Ic λ_ _ _ _ _ _ G V=>match G,V with| [_,_],_=>y
theorem aub(P:av):aY (KF P) VX VX yu 1061 Nz:=a9 Ic Ic Ic λ_ _ _ _ _ _ G V=>match G,V with| [_],_=>y
theorem auc(P:av):aY (KF P) VY VY yv 1066 Nz:=a9 Ic Ic Ic λ_ _ _ _ _ _ G V=>match G,V with| [_],_=>y
theorem aud(P:av):aY (KF P) VZ VZ Ff 1042 [IV,Mg]:=a9 Ic Ic Ic λ_ _ _ _ _ _ G V=>match G,V with| [_,_],_=>y
theorem aue(P:av):aY (KF P) Ul Ul uU 1014 [IV,Mg,Ri]:=a9 Ic Ic Ic λ_ _ _ _ _ _ G V=>match G,V with| [_,_,_],_=>y
theorem auf(P:av):aY (KF P) V1 V1 Fg 1049 Nz:=a9 Ic Ic Ic λ_ _ _ _ _ _ G V=>match G,V with| [_],_=>y
theorem auh(P:av):aY (KF P) V2 V2 Fh 1056 Nz:=a9 Ic Ic Ic λ_ _ _ _ _ _ G V=>match G,V with| [_],_=>y
theorem aui(P:av):aY (KF P) _CE _CE FU 1192 [I4,I_]:=a9 Ic Ic Ic λ_ _ _ _ _ _ G V=>match G,V with| [_,_],_=>y
theorem auj(P:av):aY (KF P) _CG _CG FW 1206 [I4,I_]:=a9 Ic Ic Ic λ_ _ _ _ _ _ G V=>match G,V with| [_,_],_=>y
theorem auk(P:av):aY (KF P) _CF _CF FV 1199 [I4,I_]:=a9 Ic Ic Ic λ_ _ _ _ _ _ G V=>match G,V with| [_,_],_=>y
theorem aul(P:av):aY (KF P) _CH _CH FY 1220 [I4,I_]:=a9 Ic Ic Ic λ_ _ _ _ _ _ G V=>match G,V with| [_,_],_=>y
theorem aum(P:av):aY (KF P) _CK _CK FT 1185 [I4,I_]:=a9 Ic Ic Ic λ_ _ _ _ _ _ G V=>match G,V with| [_,_],_=>y
theorem aun(P:av):aY (KF P) _CI _CI FN 1150 [I4,I_]:=a9 Ic Ic Ic λ_ _ _ _ _ _ G V=>match G,V with| [_,_],_=>y
theorem auo(P:av):aY (KF P) _CJ _CJ FR 1178 [I4,I_]:=a9 Ic Ic Ic λ_ _ _ _ _ _ G V=>match G,V with| [_,_],_=>y
theorem aup(P:av):aY (KF P) _CN _CN FL 1143 [I4,I_]:=a9 Ic Ic Ic λ_ _ _ _ _ _ G V=>match G,V with| [_,_],_=>y
theorem auq(P:av):aY (KF P) Uo Uo FG 1108 [Jn,Ka,K6]:=a9 Ic Ic Ic λ_ _ _ _ _ _ G V=>match G,V with| [_,_,_],_=>y
theorem aur(P:av):aY (KF P) _CP _CP FQ 1171 [I4,I_]:=a9 Ic Ic Ic λ_ _ _ _ _ _ G V=>match G,V with| [_,_],_=>y
theorem aus(P:av):aY (KF P) Up Up FO 1157 [I4,IL]:=a9 Ic Ic Ic λ_ _ _ _ _ _ G V=>match G,V with| [_,_],_=>y
theorem aut(P:av):aY (KF P) _CQ _CQ FX 1213 [I4,I_]:=a9 Ic Ic Ic λ_ _ _ _ _ _ G V=>match G,V with| [_,_],_=>y
theorem auu(P:av):aY (KF P) _CR _CR FP 1164 [I4,I_]:=a9 Ic Ic Ic λ_ _ _ _ _ _ G V=>match G,V with| [_,_],_=>y
theorem auv(P:av):aY (KF P) _CS _CS FJ 1129 [I4,I_]:=a9 Ic Ic Ic λ_ _ _ _ _ _ G V=>match G,V with| [_,_],_=>y
theorem auw(P:av):aY (KF P) _CT _CT FK 1136 [I4,I_]:=a9 Ic Ic Ic λ_ _ _ _ _ _ G V=>match G,V with| [_,_],_=>y
theorem auy(P:av):aY (KF P) Sq Sq DV 637 Kd:=a9 Ic Ic Ic λ_ _ _ _ _ _ G V=>match G,V with| [_],_=>y
theorem auz(P:av):aY (KF P) _C3 _C3 FH 1115 [I4,J']:=a9 Ic Ic Ic λ_ _ _ _ _ _ G V=>match G,V with| [_,_],_=>y
theorem auA(P:av):aY (KF P) _C6 _C6 FI 1122 [I4,J']:=a9 Ic Ic Ic λ_ _ _ _ _ _ G V=>match G,V with| [_,_],_=>y
theorem auB(P:av):aY (KF P) V6 V6 Gc 1230 [I4,V5,_A_]:=a9 Ic Ic Ic λ_ _ _ _ _ _ G V=>match G,V with| [_,_,_],_=>y
theorem auC(P:av):aY (KF P) PP PP lx 1237 SS:=a9 Ic Ic Ic λ_ _ _ _ _ _ G V=>match G,V with| [_],_=>y
theorem auD(P:av):bc (KF P) a_ _DZ=J%J%Ia 37:=Ic
theorem auE(P:av):bc (KF P) a_ "BLANKS"=J%J%Ia 192:=Ic
theorem auF(P:av):bc (KF P) a_ "CALLS"=J%J%Ia 1221:=Ic
theorem auG(P:av):bc (KF P) a_ "Desk"=J%J%Ia 1083:=Ic
theorem auH(P:av):bc (KF P) a_ "Draft"=J%J%Ia 124:=Ic
theorem auI(P:av):bc (KF P) a_ "Expression"=J%J%Ia 75:=Ic
theorem afD(P:av):bc (KF P) a_ "Fault"=J%J%Ia 572:=Ic
theorem auJ(P:av):bc (KF P) a_ "Grammar"=J%J%Ia 434:=Ic
theorem auK(P:av):bc (KF P) a_ "Instance"=J%J%Ia 497:=Ic
theorem auL(P:av):bc (KF P) a_ "Message"=J%J%Ia 929:=Ic
theorem auM(P:av):bc (KF P) a_ _Gx=J%J%Ia 1223:=Ic
theorem auN(P:av):bc (KF P) a_ "Node"=J%J%Ia 700:=Ic
theorem auO(P:av):bc (KF P) a_ "OF_ANY"=J%J%Ia 872:=Ic
theorem auP(P:av):bc (KF P) a_ "OF_NUMBERS"=J%J%Ia 871:=Ic
theorem auQ(P:av):bc (KF P) a_ "Part"=J%J%Ia 54:=Ic
theorem auR(P:av):bc (KF P) a_ "Production"=J%J%Ia 399:=Ic
theorem auS(P:av):bc (KF P) a_ "RANKS"=J%J%Ia 35:=Ic
theorem auT(P:av):bc (KF P) a_ _BY=J%J%Ia 322:=Ic
theorem auU(P:av):bc (KF P) a_ "Rule"=J%J%Ia 364:=Ic
theorem auV(P:av):bc (KF P) a_ _D0=J%J%Ia 36:=Ic
theorem auW(P:av):bc (KF P) a_ "SIGNS"=J%J%Ia 193:=Ic
theorem auX(P:av):bc (KF P) a_ "Symbol"=J%J%Ia 343:=Ic
theorem auY(P:av):bc (KF P) a_ "TEXT_CALLS"=J%J%Ia 1222:=Ic
theorem auZ(P:av):bc (KF P) a_ "Tree"=J%J%Ia 516:=Ic
theorem Ge(P:av):bc (KF P) a_ _C4=J%J%Ia 24:=Ic
theorem au0(P:av):bc (KF P) a_ "WORDS"=J%J%Ia 195:=Ic
theorem au1(P:av):bc (KF P) a_ "Work"=J%J%Ia 948:=Ic
theorem au2(P:av):bc (KF P) a_ T5=J%J%Ia 651:=Ic
theorem au3(P:av):bc (KF P) a_ V6=J%J%Ia 1230:=Ic
theorem au4(P:av):bc (KF P) a_ PP=J%J%Ia 1237:=Ic
theorem au5(P:av):bc (KF P) a_ VG=J%J%Ia 541:=Ic
theorem au6(P:av):bc (KF P) a_ VH=J%J%Ia 534:=Ic
theorem au7(P:av):bc (KF P) a_ Vt=J%J%Ia 737:=Ic
theorem au8(P:av):bc (KF P) a_ Vy=J%J%Ia 678:=Ic
theorem au9(P:av):bc (KF P) a_ T8=J%J%Ia 644:=Ic
theorem au_(P:av):bc (KF P) a_ Vx=J%J%Ia 661:=Ic
theorem au'(P:av):bc (KF P) a_ Vw=J%J%Ia 656:=Ic
theorem ava(P:av):bc (KF P) a_ VB=J%J%Ia 671:=Ic
theorem avb(P:av):bc (KF P) a_ Vz=J%J%Ia 683:=Ic
theorem avc(P:av):bc (KF P) a_ VY=J%J%Ia 1066:=Ic
theorem avd(P:av):bc (KF P) a_ VX=J%J%Ia 1061:=Ic
theorem ave(P:av):bc (KF P) a_ Uk=J%J%Ia 1021:=Ic
theorem avf(P:av):bc (KF P) a_ Vj=J%J%Ia 618:=Ic
theorem avg(P:av):bc (KF P) a_ VV=J%J%Ia 1028:=Ic
theorem avh(P:av):bc (KF P) a_ U1=J%J%Ia 244:=Ic
theorem avi(P:av):bc (KF P) a_ U2=J%J%Ia 251:=Ic
theorem avj(P:av):bc (KF P) a_ VI=J%J%Ia 548:=Ic
theorem avk(P:av):bc (KF P) a_ VE=J%J%Ia 527:=Ic
theorem avl(P:av):bc (KF P) a_ Sq=J%J%Ia 637:=Ic
theorem avm(P:av):bc (KF P) a_ VW=J%J%Ia 1035:=Ic
theorem avn(P:av):bc (KF P) a_ Vp=J%J%Ia 732:=Ic
theorem avo(P:av):bc (KF P) a_ VN=J%J%Ia 966:=Ic
theorem avp(P:av):bc (KF P) a_ Up=J%J%Ia 1157:=Ic
theorem avq(P:av):bc (KF P) a_ Q0=J%J%Ia 202:=Ic
theorem avr(P:av):bc (KF P) a_ Py=J%J%Ia 583:=Ic
theorem avs(P:av):bc (KF P) a_ Vn=J%J%Ia 1101:=Ic
theorem avt(P:av):bc (KF P) a_ RZ=J%J%Ia 209:=Ic
theorem avu(P:av):bc (KF P) a_ Tp=J%J%Ia 223:=Ic
theorem avv(P:av):bc (KF P) a_ UZ=J%J%Ia 230:=Ic
theorem avw(P:av):bc (KF P) a_ Vh=J%J%Ia 597:=Ic
theorem avx(P:av):bc (KF P) a_ Q_=J%J%Ia 590:=Ic
theorem avy(P:av):bc (KF P) a_ Vl=J%J%Ia 863:=Ic
theorem avz(P:av):bc (KF P) a_ Vm=J%J%Ia 1094:=Ic
theorem avA(P:av):bc (KF P) a_ Uh=J%J%Ia 981:=Ic
theorem avB(P:av):bc (KF P) a_ UY=J%J%Ia 216:=Ic
theorem avC(P:av):bc (KF P) a_ Sk=J%J%Ia 630:=Ic
theorem avD(P:av):bc (KF P) a_ VF=J%J%Ia 555:=Ic
theorem avE(P:av):bc (KF P) a_ TY=J%J%Ia 604:=Ic
theorem avF(P:av):bc (KF P) a_ U5=J%J%Ia 263:=Ic
theorem avG(P:av):bc (KF P) a_ TX=J%J%Ia 445:=Ic
theorem avH(P:av):bc (KF P) a_ LU=J%J%Ia 34:=Ic
theorem avI(P:av):bc (KF P) a_ Q'=J%J%Ia 625:=Ic
theorem avJ(P:av):bc (KF P) a_ U3=J%J%Ia 258:=Ic
theorem avK(P:av):bc (KF P) a_ T'=J%J%Ia 877:=Ic
theorem avL(P:av):bc (KF P) a_ VT=J%J%Ia 988:=Ic
theorem avM(P:av):bc (KF P) a_ VM=J%J%Ia 959:=Ic
theorem avN(P:av):bc (KF P) a_ Vi=J%J%Ia 611:=Ic
theorem avO(P:av):bc (KF P) a_ Ui=J%J%Ia 995:=Ic
theorem avP(P:av):bc (KF P) a_ R5=J%J%Ia 191:=Ic
theorem avQ(P:av):bc (KF P) a_ TH=J%J%Ia 170:=Ic
theorem avR(P:av):bc (KF P) a_ TF=J%J%Ia 184:=Ic
theorem avS(P:av):bc (KF P) a_ TM=J%J%Ia 135:=Ic
theorem avT(P:av):bc (KF P) a_ TV=J%J%Ia 452:=Ic
theorem avU(P:av):bc (KF P) a_ TJ=J%J%Ia 149:=Ic
theorem avV(P:av):bc (KF P) a_ Vr=J%J%Ia 718:=Ic
theorem avW(P:av):bc (KF P) a_ Vo=J%J%Ia 725:=Ic
theorem avX(P:av):bc (KF P) a_ Tx=J%J%Ia 177:=Ic
theorem avY(P:av):bc (KF P) a_ Q8=J%J%Ia 156:=Ic
theorem avZ(P:av):bc (KF P) a_ Vd=J%J%Ia 466:=Ic
theorem av0(P:av):bc (KF P) a_ Vb=J%J%Ia 473:=Ic
theorem av1(P:av):bc (KF P) a_ Q7=J%J%Ia 163:=Ic
theorem av2(P:av):bc (KF P) a_ Vc=J%J%Ia 459:=Ic
theorem av3(P:av):bc (KF P) a_ U?=J%J%Ia 480:=Ic
theorem av4(P:av):bc (KF P) a_ T2=J%J%Ia 711:=Ic
theorem av5(P:av):bc (KF P) a_ Pt=J%J%Ia 142:=Ic
theorem av6(P:av):bc (KF P) a_ VP=J%J%Ia 971:=Ic
theorem av7(P:av):bc (KF P) a_ Uo=J%J%Ia 1108:=Ic
theorem av8(P:av):bc (KF P) a_ VZ=J%J%Ia 1042:=Ic
theorem av9(P:av):bc (KF P) a_ Uj=J%J%Ia 1002:=Ic
theorem av_(P:av):bc (KF P) a_ Tq=J%J%Ia 270:=Ic
theorem av'(P:av):bc (KF P) a_ V2=J%J%Ia 1056:=Ic
theorem awa(P:av):bc (KF P) a_ V1=J%J%Ia 1049:=Ic
theorem awb(P:av):bc (KF P) a_ VA=J%J%Ia 666:=Ic
theorem awc(P:av):bc (KF P) a_ R?=J%J%Ia 891:=Ic
theorem awd(P:av):bc (KF P) a_ VQ=J%J%Ia 976:=Ic
theorem awe(P:av):bc (KF P) a_ VU=J%J%Ia 1009:=Ic
theorem awf(P:av):bc (KF P) a_ Ul=J%J%Ia 1014:=Ic
theorem awg(P:av):bc (KF P) a_ OY=J%J%Ia 884:=Ic
theorem awh(P:av):bc (KF P) a_ T!=J%J%Ia 898:=Ic
theorem awi(P:av):bc (KF P) a_ Ua=J%J%Ia 912:=Ic
theorem awj(P:av):bc (KF P) a_ T?=J%J%Ia 905:=Ic
theorem awk(P:av):bc (KF P) a_ U0=J%J%Ia 237:=Ic
theorem awl(P:av):bc (KF P) a_ _Ar=J I:=Ic
theorem Gf(P:av):bc (KF P) a_ Th=J I:=Ic
theorem afE(P:av):bc (KF P) a_ KW=J I:=Ic
theorem awm(P:av):bc (KF P) a_ Nn=J I:=Ic
theorem awn(P:av):bc (KF P) a_ RQ=J I:=Ic
theorem u_(P:av):bc (KF P) a_ Kp=J I:=Ic
theorem afF(P:av):bc (KF P) a_ JT=J I:=Ic
theorem afG(P:av):bc (KF P) a_ LR=J I:=Ic
theorem afH(P:av):bc (KF P) a_ QX=J I:=Ic
theorem awo(P:av):bc (KF P) a_ OO=J I:=Ic
theorem awp(P:av):bc (KF P) a_ Lb=J I:=Ic
theorem awq(P:av):bc (KF P) a_ L!=J I:=Ic
theorem awr(P:av):bc (KF P) a_ _D9=J I:=Ic
theorem aws(P:av):bc (KF P) a_ UV=J I:=Ic
theorem afI(P:av):bc (KF P) a_ KN=J I:=Ic
abbrev afJ:Ib ah:= [IU "ValueError", IU "Exception", IU _BI, IU _Bv]
theorem awt:a0 Ml Ml%aR Cs:=(y,y,y,Ie,y,Ie,Ie)
theorem awu(F:aW r LU LU Cs u Q)(i:D _C4=J%Ia f)(q:rj r f afJ _GA=ag):aJ l p r D A (bp l p) 1 u Q Ml%hD f:=by show N! awt (XJ (d,rfl,_)) λc T e s H C a Z L h=>?_;let (d,rfl,b,R):=h;show (_,ax%bA (eN%b9%pv 0) (ax%alB L.hd y i q ayi Ie ayi) bM,?_);show (_,y,d,y,?_);cases d with|true=>show bt%b y|false=>show bu%R y
abbrev gC:GC:={e:=75,p:=54,s:=343,r:=364,d:=399,g:=434}
abbrev aX:WX:={c:=gC,T:=516,I:=497,N:=700,W:=948,M:=929,F:=572}
theorem afK(P:av):d5 (KF P) 54:=i4 Ic Ic Ic Ic
theorem afL(P:av):d5 (KF P) 75:=i4 Ic Ic Ic Ic
theorem awv(P:av):d5 (KF P) 124:=i4 Ic Ic Ic Ic
theorem aww(P:av):d5 (KF P) 322:=i4 Ic Ic Ic Ic
theorem awx(P:av):d5 (KF P) 343:=i4 Ic Ic Ic Ic
theorem awy(P:av):d5 (KF P) 364:=i4 Ic Ic Ic Ic
theorem awz(P:av):d5 (KF P) 399:=i4 Ic Ic Ic Ic
theorem awA(P:av):d5 (KF P) 434:=i4 Ic Ic Ic Ic
theorem awB(P:av):d5 (KF P) 497:=i4 Ic Ic Ic Ic
theorem awC(P:av):d5 (KF P) 516:=i4 Ic Ic Ic Ic
theorem awD(P:av):d5 (KF P) 572:=i4 Ic Ic Ic Ic
theorem awE(P:av):d5 (KF P) 700:=i4 Ic Ic Ic Ic
theorem awF(P:av):d5 (KF P) 929:=i4 Ic Ic Ic Ic
theorem awG(P:av):d5 (KF P) 948:=i4 Ic Ic Ic Ic
theorem awH(P:av):d5 (KF P) 1083:=i4 Ic Ic Ic Ic
theorem oQ(P:av):TR (KF P) 322:=(aww P,cp Ic,cp Ic)
theorem sG(P:av):TD (KF P) 124:=(awv P,cp Ic,cp Ic,cp Ic,cp Ic,cp Ic)
theorem sH(P:av):T3 (KF P) 54 I? Kq KZ:=(afK P,cp Ic,cp Ic,cp Ic)
theorem y9(P:av):T3 (KF P) 75 M! My Mz:=(afL P,cp Ic,cp Ic,cp Ic)
def cY{p:WI ai}(h:p L)(t:∀n∈π,p n):∀n∈L::π,p n:=Aa.mpr (h,t)
def hg{p:WI ai}:∀n∈([]:Ib ai),p n:=λn h=>On
def awI(P:av):TN (KF P) 54 [I?,Kq,KZ]:=(afK P,cY (sH P).a1%cY (sH P).a2%cY (sH P).a3 hg)
def awJ(P:av):TN (KF P) 75 [M!,My,Mz]:=(afL P,cY (y9 P).a1%cY (y9 P).a2%cY (y9 P).a3 hg)
theorem afM(P:av):TN (KF P) 343 [I2,Pu,Pw,R9]:=(awx P,cY (cp Ic)%cY (cp Ic)%cY (cp Ic)%cY (cp Ic) hg)
theorem afN(P:av):TN (KF P) 364 [LV,Me]:=(awy P,cY (cp Ic)%cY (cp Ic) hg)
theorem afO(P:av):TN (KF P) 399 [I2,Nr,NQ,KQ,NR]:=(awz P,cY (cp Ic)%cY (cp Ic)%cY (cp Ic)%cY (cp Ic)%cY (cp Ic) hg)
theorem afP(P:av):TN (KF P) 434 [J?,MQ]:=(awA P,cY (cp Ic)%cY (cp Ic) hg)
theorem sI(P:av):TN (KF P) 497 [Ka,K6,Nv,LJ,PB]:=(awB P,cY (cp Ic)%cY (cp Ic)%cY (cp Ic)%cY (cp Ic)%cY (cp Ic) hg)
theorem u'(P:av):TN (KF P) 516 [JD,J?,NU,Lu]:=(awC P,cY (cp Ic)%cY (cp Ic)%cY (cp Ic)%cY (cp Ic) hg)
theorem afQ(P:av):TN (KF P) 572 Og:=(awD P,cY (cp Ic) hg)
theorem oR(P:av):TN (KF P) 700 [Jv,IL,LI,JC,KQ]:=(awE P,cY (cp Ic)%cY (cp Ic)%cY (cp Ic)%cY (cp Ic)%cY (cp Ic) hg)
theorem afR(P:av):TN (KF P) 929 [NT,Na,JJ,MR]:=(awF P,cY (cp Ic)%cY (cp Ic)%cY (cp Ic)%cY (cp Ic) hg)
theorem awK(P:av):TN (KF P) 948 [Jn,OZ,O0,VO,Sl,MB,PD,_Cx]:=(awG P,cY (cp Ic)%cY (cp Ic)%cY (cp Ic)%cY (cp Ic)%cY (cp Ic)%cY (cp Ic)%cY (cp Ic)%cY (cp Ic) hg)
theorem afS(P:av):TN (KF P) 1083 [Jq,Jn,LK,IV]:=(awH P,cY (cp Ic)%cY (cp Ic)%cY (cp Ic)%cY (cp Ic) hg)
def tG(P:av):TG (KF P) gC:=(awJ P,awI P,afM P,afN P,afO P,afP P)
def tW(P:av):WT (KF P) aX:=(tG P,u' P,sI P,oR P,awK P,afR P,sH P)
theorem tK(P:av):TK (KF P) 572:=(afQ P,Ic,Ic,Ic,Ic,LX,LX,LX,LX,LX,LX,LX,LX,LX)
def afT:Ib KJ:= [(Ik 0, Ia 1115,),(Ik 1, Ia 1122,),(Ik 2, Ia 1129,),(Ik 3, Ia 1136,),(Ik 4, Ia 1143,),(Ik 5, Ia 1150,),(Ik 6, Ia 1164,),(Ik 7, Ia 1171,),(Ik 8, Ia 1178,),(Ik 9, Ia 1185,),(Ik 10, Ia 1192,),(Ik 11, Ia 1199,),(Ik 12, Ia 1206,),(Ik 13, Ia 1213,),(Ik 14, Ia 1220,)]
def afU:Ib KJ:= [(Iy JT, Ia 814,),(Iy "=", Ia 821,),(Iy U8, Ia 828,),(Iy "cat", Ia 835,),(Iy Kp, Ia 842,),(Iy "at", Ia 849,),(Iy "drop", Ia 856,),(Iy "look", Ia 870,)]
def afV:Ib KJ:= [(Iy Tv, Ia 744,),(Iy "+", Ia 751,),(Iy "-", Ia 758,),(Iy "*", Ia 765,),(Iy "/", Ia 772,),(Iy "mod", Ia 779,),(Iy "!", Ia 786,),(Iy "<", Ia 793,),(Iy LR, Ia 800,),(Iy QX, Ia 807,)]
theorem awL(P:aP)(w:World):g? P w (KF JL) 1221 afT:=ov Ic y (Y3%I1 (Cr y) ?_) Il OQ
theorem awM(P:aP)(w:World):g? P w (KF JL) 1223 Gd:=ov Ic y (Y3%I1 (Cr (_,y)) ?_) Il OQ
theorem awN(P:aP)(w:World):g? P w (KF JL) 37 ux:=ov Ic y (Y3%I1 (uf (_,y)) ?_) Il OQ
theorem awO(P:aP)(w:World):g? P w (KF JL) 35 uz:=ov Ic y (Y3%I1 (uf (_,y)) ?_) Il OQ
theorem awP(P:aP)(w:World):g? P w (KF JL) 36 r5:=ov Ic y (Y3%I1 (uf (_,y)) ?_) Il OQ
theorem awQ(P:aP)(w:World):g? P w (KF JL) 193 r1:=ov Ic y (Y3%I1 (Cr (_,y)) ?_) Il OQ
theorem awR(P:aP)(w:World):g? P w (KF JL) 872 afU:=ov Ic y (Y3%I1 (uf y) ?_) Il OQ
theorem awS(P:aP)(w:World):g? P w (KF JL) 871 afV:=ov Ic y (Y3%I1 (uf y) ?_) Il OQ
theorem awT(P:av):∀H,bS (KF P) H 1222%bx [0,1]:=λH=> Iy (_,_,_,Ic,y,y,OQ, I1 (_,y)%I1 (_,y) IR)
theorem awU(P:av):∀H,bS (KF P) H 192 [Id 32, Id 10]:=λH=> Iy (_,_,_,Ic,y,y,OQ, I1 (_,y)%I1 (_,y) IR)
theorem awV(P:av):∀H,bS (KF P) H 195 [Iv Ox, Iv Pp, Iv Pq]:=λH=> Iy (_,_,_,Ic,y,y,OQ, I1 (_,y)%I1 (_,y)%I1 (_,y) IR)
def Gg(P:av):rj (KF P) 24 afJ _GA=ag:=LX
structure Md(P:av)(S:ai->Im ah)(h:aO):Ir where
 X:(KF P).In h
 G:h.Ns a_ S
def Md.n{P:av}(u:Md P D A)(e:bc (KF P) a_ L=J%J η):D L=J η:=PySem.W.mg_of u.X u.G e
def Md.z{P:av}(u:Md P D A)(e:bc (KF P) a_ L=J I):D L=I:=PySem.W.mg_none_of u.X u.G e
def Md.i{P:av}(u:Md P D A)(e:bc (KF P) a_ L=J%J%Id γ zV):cQ D L γ:=(zV,IM e)
def Md.s{P:av}(u:Md P D A)(e:bc (KF P) a_ L=J%J%Iv zD zV):ue D L zD:=(zV,IM e)
structure A1(P:aP)(w:World)(S:ai->Im ah)(h:aO):Ir where
 need:ID P w (KF JL) S h (bp P w) 1 LU Ml%hD 24
 split:ID P w (KF JL) S h (bp P w) 5 Tq QF%CJ 24
theorem a1(u:Md Ij D A):A1 l p D A:=by let len:=K!%u_ Ij;let a:=Xw ((ar' Ij).d%IM%avH Ij) awu (IM%Ge Ij)%Gg Ij;let b:=Wk ((asj Ij).d%IM%avq Ij)%alT F;let c:=Wk ((asa Ij).d%IM%avt Ij)%alU F;let e:=Wk ((asl Ij).d%IM%avB Ij)%alV F;let d:=Xw ((asd Ij).d%IM%avu Ij) alW c e;let f:=Xw ((asi Ij).d%IM%avv Ij) alX d b;let g:=Wk ((asb Ij).d%IM%awk Ij)%al2 F b c (u.s Ic) (u.s Ic)%u.s Ic;let i:=Xw ((asc Ij).d%IM%avh Ij) al3 b KO;let j:=Xw ((asf Ij).d%IM%avi Ij) al4 f KO;let h:=Wk ((ash Ij).d%IM%avJ Ij)%al6 F a KO%Jx Ic;let k:=Wk ((ase Ij).d%IM%avF Ij)%al9 F a g c KO (Jx Ic) (_,IM%au0 Ij,awV Ij);let m:=Wk ((asm Ij).d%IM%av_ Ij)%ame F a b d i j h k KO (_,IM%auE Ij,awU Ij) (_,IM%auW Ij,awQ l p);show (a,m)
structure A2(P:aP)(w:World)(S:ai->Im ah)(h:aO):Ir where
 rg:RG P w (KF JL) S h 322 24
 rdr:gx P w (KF JL) S h (bp P w) 6 _BY 322 [IG,J']%uq 322 24
 ex:ID P w (KF JL) S h (bp P w) 347 TM LZ%oB 322 24 pX (k7 75 54) []
theorem a2(u:Md Ij D A)(T:A1 l p D A):A2 l p D A:=by let len:=K!%u_ Ij;let next:=XT (aso Ij).m 322 B F%aml F%oQ Ij;let b:=XT (asq Ij).m 322 B F%amn F (oQ Ij) next;let take:=XT (asr Ij).m 322 B F%amo F (oQ Ij) b O6;let c:=XT (asn Ij).m 322 B F%amq F (oQ Ij) b;let e:=XT (asp Ij).m 322 B F%ams F (oQ Ij) b take;let i:=(asy Ij).k (P:=l) (w:=p) (mg:=D) (h:=A) (C:=322) (IM%auT Ij) Ic Ic Ic Ic λB F=>amH F (oQ Ij) T.split;let a:=(ass Ij).k (P:=l) (w:=p) (mg:=D) (h:=A) (C:=54) (IM%auQ Ij) Ic Ic Ic Ic λB F=>amu F%sH Ij;let f:=(asu Ij).k (P:=l) (w:=p) (mg:=D) (h:=A) (C:=75) (IM%auI Ij) Ic Ic Ic Ic λB F=>amw F%y9 Ij;let O:=(asx Ij).k (P:=l) (w:=p) (mg:=D) (h:=A) (C:=124) (IM%auH Ij) Ic Ic Ic Ic λB F=>amy F%sG Ij;let g:=XT (asw Ij).m 124 B F%amB F (sG Ij) O6%Jx Ic;let j:=XT (asv Ij).m 124 B F%amC F%sG Ij;let part:=XT (asz Ij).m 124 B F%amJ F (sG Ij) O6 (Jx Ic) a;let k:=XT (asA Ij).m 124 B F%amL (zd:=322) F (sG Ij) part;let d:RC l p (KF Ij) D A 322 124 54 24:=(oQ Ij,sG Ij,next,b,take,c,g,j,part,k,O6);let h:ada l p (KF Ij) D:=((asI Ij).d%IM%av5 Ij,(asH Ij).d%IM%avU Ij,(asG Ij).d%IM%avY Ij,(asF Ij).d%IM%av1 Ij,(asE Ij).d%IM%avQ Ij,(asB Ij).d%IM%avX Ij,(asD Ij).d%IM%avR Ij,(asC Ij).d%IM%avP Ij,KO,(_,IM%auD Ij,awN l p),(_,IM%auV Ij,awP l p),(_,IM%auS Ij,awO l p),Jx Ic,Jx Ic,Jx Ic);let G:=Wk ((asJ Ij).d%IM%avS Ij)%anb F d (K!%afF Ij) O f (adb h d 31).1;show ((oQ Ij,b,take,c,e),i,G)
structure A3(P:aP)(w:World)(S:ai->Im ah)(h:aO):Ir where
 gr:ID P w (KF JL) S h (bp P w) 350 TV QF%DB 24 gC
 eq:eu P w (KF JL) S h aB 1 399 _B3 [IG,LV]%DM gC
 sc:eu P w (KF JL) S h aB 2 434 R' [IG,I2]%qi gC
 sa:eu P w (KF JL) S h aB 1 399 _AL [IG,JC]%xU gC
 pc:eu P w (KF JL) S h aB 2 434 _B2 [IG,I2]%DL gC
theorem a3(u:Md Ij D A)(T:A2 l p D A):A3 l p D A:=by let a:=Wk ((asN Ij).d%IM%av3 Ij)%ano F T.rg;let b:=(asK Ij).k (P:=l) (w:=p) (mg:=D) (h:=A) (C:=364) (IM%auU Ij) Ic Ic Ic Ic λB F=>ang F%afN Ij;let e:=(asL Ij).k (P:=l) (w:=p) (mg:=D) (h:=A) (C:=399) (IM%auR Ij) Ic Ic Ic Ic λB F=>ank F%afO Ij;let i:=(asM Ij).k (P:=l) (w:=p) (mg:=D) (h:=A) (C:=343) (IM%auX Ij) Ic Ic Ic Ic λB F=>anm F%afM Ij;let gr:=(asO Ij).k (P:=l) (w:=p) (mg:=D) (h:=A) (C:=434) (IM%auJ Ij) Ic Ic Ic Ic λB F=>ani F%afP Ij;let c:=_aK ((asP Ij).d%IM%av2 Ij) anr F T.rg i;let d:=Wk ((asR Ij).d%IM%av0 Ij)%anq (θ:=gC) F T.rg a T.ex b;let f:=Wk ((asQ Ij).d%IM%avZ Ij)%ans (θ:=gC) F T.rg d e;let j:=Wk ((asS Ij).d%IM%avT Ij)%anu (θ:=gC) F T.rg T.rdr c f gr;let g:=Wk ((asV Ij).d%IM%avG Ij)%anw F;let Z:=XT (asT Ij).m 399 B F%anE F%tG Ij;let M:=XT (asU Ij).m 434 B F%anz F (tG Ij) g;let z:=XT (asW Ij).m 399 B F%anD F%tG Ij;let t:=XT (asX Ij).m 434 B F%anB F (tG Ij) g;show (j,Z,M,z,t)
structure A4(P:aP)(w:World)(S:ai->Im ah)(h:aO):Ir where
 tr:ID P w (KF JL) S h (bp P w) 8 T2 [J',Jq]%Ey 24 700 gC
 ck:ID P w (KF JL) S h (bp P w) 5 T8 OI%EL 24 gC
 ti:gx P w (KF JL) S h aB 5 "Tree" 516 [IG,Jq,JD]%EY 516 497 gC 700
theorem a4(u:Md Ij D A)(T:A1 l p D A)(r:A2 l p D A)(f:A3 l p D A):A4 l p D A:=by let len:=K!%u_ Ij;let a:=K!%afE Ij;let c:=Xw ((atq Ij).d%IM%avW Ij) aoI r.rg%tG Ij;let d:=Xw ((atr Ij).d%IM%avn Ij) aoK r.rg KO;let e:=(atm Ij).k (P:=l) (w:=p) (mg:=D) (h:=A) (C:=700) (IM%auN Ij) Ic Ic Ic Ic λB F=>aoy F%oR Ij;let g:=Wk ((ats Ij).d%IM%avV Ij)%aoL F r.rg (tG Ij) (oR Ij) KO O6 f.pc c e;let i:=Wk ((att Ij).d%IM%au7 Ij)%aoP F (tG Ij) (oR Ij) O6;let j:=Wk ((atu Ij).d%IM%av4 Ij)%aoR F r.rg r.rdr KO (Jx Ic) (Jx Ic) O6 g d i;let b:=Xw ((atv Ij).d%IM%au2 Ij) aoZ KO%K!%awq Ij;let k:=Wk ((atw Ij).d%IM%au' Ij)%ao0 F (tG Ij) KO (Jx Ic) (Jx Ic) O6 b;let m:=Wk ((atx Ij).d%IM%au_ Ij)%ao1 F (tG Ij) KO (Jx Ic) (Jx Ic) (Jx Ic) O6 b f.sc;let n:=Wk ((aty Ij).d%IM%au8 Ij)%ao3 F (tG Ij) KO O6 f.sc f.sa;let o:=Wk ((atz Ij).d%IM%avb Ij)%ao6 F (tG Ij) KO (K!%Gf Ij) O6;let e4:=Wk ((atA Ij).d%IM%awb Ij)%apg F (tG Ij) a f.sc;let h:=Wk ((atB Ij).d%IM%ava Ij)%apm F (tG Ij) (K!%awr Ij) O6 e4;let w:=Wk ((atD Ij).d%IM%au9 Ij)%apn F (tG Ij) k m h n o;let q:=Wk ((atE Ij).d%IM%avD Ij)%apq F (tG Ij) (u' Ij)%oR Ij;let s:=Xw ((atF Ij).d%IM%avk Ij) apo (tG Ij) KO;let t:=(ato Ij).k (P:=l) (w:=p) (mg:=D) (h:=A) (C:=497) (IM%auK Ij) Ic Ic Ic Ic λB F=>aoA F%sI Ij;let v:=Wk ((atG Ij).d%IM%au5 Ij)%aps F (tG Ij) (u' Ij) (oR Ij) f.eq t;let x:=Wk ((atH Ij).d%IM%au6 Ij)%apt F (tG Ij) (u' Ij) a v;let z:=Wk ((atI Ij).d%IM%avj Ij)%apu F (tG Ij) (sI Ij) q;let C:=(atJ Ij).k (P:=l) (w:=p) (mg:=D) (h:=A) (C:=516) (IM%auZ Ij) Ic Ic Ic Ic λB F=>apw F (tG Ij) (u' Ij) (oR Ij) f.sc s x z;show (j,w,C)
structure A5(P:aP)(w:World)(S:ai->Im ah)(h:aO):Ir where
 flat:ID P w (KF JL) S h aB 2 Sq Kd%yS 572
 worth:ID P w (KF JL) S h aB 125 OY [J!,KI,KG]%oM 572 54 60
theorem a5(u:Md Ij D A):A5 l p D A:=by let len:=K!%u_ Ij;let i:=K!%awn Ij;let h:=(atd Ij).k (P:=l) (w:=p) (mg:=D) (h:=A) (C:=572) (IM%afD Ij) Ic Ic Ic Ic λB F=>anU F%afQ Ij;let j:=Wk ((as2 Ij).d%IM%avr Ij)%anK F (tK Ij) i%IM%afD Ij;let e:=Wk ((as3 Ij).d%IM%avx Ij)%anL F (tK Ij) i%K!%awm Ij;let m:=Wk ((as1 Ij).d%IM%avw Ij)%anM F (tK Ij) i%K!%afI Ij;let M:=Wk ((asY Ij).d%IM%avE Ij)%anO F;let o:=Wk ((as0 Ij).d%IM%avN Ij)%anR F e;let w:=Wk ((asZ Ij).d%IM%avf Ij)%anS F e;let q:=Wk ((auy Ij).d%IM%avl Ij)%arV F (tK Ij) KO (K!%afF Ij) (K!%awp Ij) j e M;let f:FC l p (KF Ij) D A 572:=(h,Jx Ic,Jx Ic,Jx Ic,Jx Ic,Jx Ic);let a:VC l p (KF Ij) D A 572:=(e,m,M,KO);let g:=Wk ((atb Ij).d%IM%avI Ij)%anY F f (K!%awl Ij)%Jx Ic;let k:=Wk ((atL Ij).d%IM%avC Ij)%apM F f o w (K!%aws Ij) (K!%afG Ij) (Jx Ic)%Jx Ic;let r:=Wk ((ath Ij).d%IM%avy Ij)%aor F a;(let s:OpD l p (KF Ij) D A 572 afU afV:=by show ((_,IM%auO Ij,awR l p),(_,IM%auP Ij,awS l p),Wb d c,Wb d c,Wb d c);{cases d with|eq=>let (B,F,b):=atg Ij;show (_,y,LY,λn N G=>Zb (aop F:aJ l p (KF Ij) D A aB _ _ _ _ _))|list=>let (B,F,b):=atN Ij;show (_,y,LY,λn N G=>by show (B,b,(apQ G F (K!%afI Ij) k:aJ l p (KF Ij) D A aB _ _ _ _ _).u Il))|len=>let (B,F,b):=atf Ij;show (_,y,LY,λn N G=>Zb (aol F f a:aJ l p (KF Ij) D A aB _ _ _ _ _))|at_=>let (B,F,b):=ate Ij;show (_,y,LY,λn N G=>Zb (aom F f a:aJ l p (KF Ij) D A aB _ _ _ _ _))|cat=>let (B,F,b):=atO Ij;show (_,y,LY,λn N G=>Zb (apU F f a k:aJ l p (KF Ij) D A aB _ _ _ _ _))|look=>let (B,F,b):=ati Ij;show (_,y,LY,λn N G=>Zb (aou F f a r:aJ l p (KF Ij) D A aB _ _ _ _ _))|drop=>let (B,F,b):=atM Ij;show (_,y,LY,λn N G=>Zb (apV F f a k:aJ l p (KF Ij) D A aB _ _ _ _ _))|has=>let (B,F,b):=atP Ij;show (_,y,LY,λn N G=>Zb (apS F f a:aJ l p (KF Ij) D A aB _ _ _ _ _))|_=>cases c};{cases d with|neg=>rfl|not=>rfl|lt=>rfl|add=>rfl|sub=>rfl|mul=>rfl|div=>rfl|mod=>rfl|max=>rfl|min=>rfl|_=>cases c};{cases d with|neg=>let (B,F,b):=atc Ij;show (_,y,LY,Yz n N (an0 F g:aJ l p (KF Ij) D A aB _ _ _ _ _))|not=>let (B,F,b):=as_ Ij;show (_,y,LY,Yz n N (aoh F:aJ l p (KF Ij) D A aB _ _ _ _ _))|lt=>let (B,F,b):=as5 Ij;show (_,y,LY,Yz n N (aoj F:aJ l p (KF Ij) D A aB _ _ _ _ _))|add=>let (B,F,b):=as' Ij;show (_,y,LY,Yz n N (an2 F g:aJ l p (KF Ij) D A aB _ _ _ _ _))|sub=>let (B,F,b):=as6 Ij;show (_,y,LY,Yz n N (an4 F g:aJ l p (KF Ij) D A aB _ _ _ _ _))|mul=>let (B,F,b):=as8 Ij;show (_,y,LY,Yz n N (an6 F g:aJ l p (KF Ij) D A aB _ _ _ _ _))|div=>let (B,F,b):=as9 Ij;show (_,y,LY,Yz n N (an' F f:aJ l p (KF Ij) D A aB _ _ _ _ _))|mod=>let (B,F,b):=as7 Ij;show (_,y,LY,Yz n N (aob F f:aJ l p (KF Ij) D A aB _ _ _ _ _))|max=>let (B,F,b):=as4 Ij;show (_,y,LY,Yz n N (aod F%K!%afG Ij:aJ l p (KF Ij) D A aB _ _ _ _ _))|min=>let (B,F,b):=ata Ij;show (_,y,LY,Yz n N (aof F%K!%afH Ij:aJ l p (KF Ij) D A aB _ _ _ _ _))|_=>cases c});let t:=Wk ((atQ Ij).d%IM%avK Ij)%apX F f a s%K!%Gf Ij;let v:=Wk ((atj Ij).d%IM%awc Ij)%aot F f a j;let x:aet (KF Ij) D:=((atV Ij).d%IM%awg Ij,(atU Ij).d%IM%awh Ij,(atR Ij).d%IM%awj Ij,(atW Ij).d%IM%awi Ij);show (q,aeu x (sH Ij) v j t 60 Il)
def hN.of(n:aY (KF Ij) L L zA f [I4,zD])(e:cS zB%Ik γ=J%Ia f)(b:∀B,aW (KF Ij) L L zA f B->aJ l p (KF Ij) D A aB q f B [I4,zD] zt):hN l p (KF Ij) D A zB γ zD q zt:=let (B,F,a):=n;(f,B,e,LY,a,b B F)
theorem a6(u:Md Ij D A)(G:A4 l p D A)(h:A3 l p D A)(N:A5 l p D A):∀B:br,aW (KF Ij) PP PP lx 1237 B->aJ l p (KF Ij) D A aB 353 1237 B SS%y8 aX 1083%KF Ij:=by let len:=K!%u_ Ij;let a:=K!%afE Ij;let m:=K!%Gf Ij;let b:=K!%awo Ij;let n:=Wk ((atX Ij).d%IM%avo Ij)%aqj (θ:=gC) F%sI Ij;let e:=_aK ((atY Ij).d%IM%avM Ij) aqh F (oR Ij) a;let o:=_aK ((atZ Ij).d%IM%av6 Ij) aqk F (sI Ij) a;let w:=_aK ((at0 Ij).d%IM%awd Ij) aqm F (sI Ij) a;let q:=(at1 Ij).k (P:=l) (w:=p) (mg:=D) (h:=A) (C:=948) (IM%au1 Ij) Ic Ic Ic Ic λB F=>aqn F (tW Ij) e n o w;let c:=Xw ((at3 Ij).d%IM%avA Ij) aqr (tW Ij) m;let r:=Wk ((at4 Ij).d%IM%avL Ij)%aqu F (tW Ij) (Jx Ic) N.worth;let f:=Wk ((at5 Ij).d%IM%avO Ij)%aqw F%tW Ij;let t:=(atl Ij).k (P:=l) (w:=p) (mg:=D) (h:=A) (C:=929) (IM%auL Ij) Ic Ic Ic Ic λB F=>aow F%afR Ij;let send:=Wk ((at7 Ij).d%IM%av9 Ij)%aqx F (tW Ij) t f;let v:=Wk ((at6 Ij).d%IM%awe Ij)%aqB F (tW Ij) r send;let z:=Xw ((at8 Ij).d%IM%avm Ij) aqJ (tW Ij) KO;let g:=Wk ((at9 Ij).d%IM%ave Ij)%aqG F%tW Ij;let dbl:=Xw ((aua Ij).d%IM%avg Ij) aqI (tW Ij) f;let P:=Wk ((aub Ij).d%IM%avd Ij)%aqK F (tW Ij) KO a;let C:=Wk ((auc Ij).d%IM%avc Ij)%aqL F (tW Ij) KO b c;let Q:=Wk ((aud Ij).d%IM%av8 Ij)%aqN F (tW Ij) a send;let i:=Wk ((aue Ij).d%IM%awf Ij)%aqS F (tW Ij) a (K!%afH Ij) c v;let s:=Wk ((auf Ij).d%IM%awa Ij)%aq2 F (tW Ij) KO b i g;let H:=Xw ((auh Ij).d%IM%av' Ij) aq4 (tW Ij) s;let W:=Wk ((atn Ij).d%IM%avz Ij)%aoC F KO;let L:=Xw ((atp Ij).d%IM%avs Ij) aoE KO%Jx Ic;let d:DC l p (KF Ij) D A 1083:=(afS Ij,W,L,Jx Ic,Jx Ic,Jx Ic,Jx Ic,Jx Ic,Jx Ic,Jx Ic,KO);let j:=Xw ((auq Ij).d%IM%av7 Ij) arh (tW Ij) d;let k:=Xw ((aus Ij).d%IM%avp Ij) arj (tW Ij) d;let M:CaD l p (KF Ij) D A aX 1083 afT:=((_,IM%auF Ij,awL l p), MD (auz Ij) y λB F=>arW F (tW Ij) d (Jx Ic) (Jx Ic) (Jx Ic) (IM%Ge Ij) (Gg Ij) Il h.gr G.ck, MD (auA Ij) y λB F=>arY F (tW Ij) d (Jx Ic) (Jx Ic) (Jx Ic) (Jx Ic) (IM%Ge Ij) (Gg Ij) Il G.tr G.ti, MD (auv Ij) y λB F=>arp F (tW Ij) d (Jx Ic) (Jx Ic) (Jx Ic) (Jx Ic)%Jx Ic, MD (auw Ij) y λB F=>ars F (tW Ij) d (Jx Ic) (Jx Ic) q, MD (aup Ij) y λB F=>lp (ari F (tW Ij) d j) arD, MD (aun Ij) y λB F=>lp (aq' F (tW Ij) d (Jx Ic) i) arA, MD (auu Ij) y λB F=>lp (arn F (tW Ij) d k N.fw) arv, MD (aur Ij) y λB F=>lp (ark F (tW Ij) d g k) arz, MD (auo Ij) y λB F=>lp (arb F (tW Ij) d dbl) ary, MD (aum Ij) y λB F=>lp (ard F (tW Ij) d) arx, MD (aui Ij) y λB F=>lp (aq6 F (tW Ij) d z) art, MD (auk Ij) y λB F=>lp (aq8 F (tW Ij) d Q) arw, MD (auj Ij) y λB F=>lp (aq9 F (tW Ij) d H) arB, MD (aut Ij) y λB F=>lp (arl F (tW Ij) d j N.fw) arC, MD (aul Ij) y λB F=>lp (aq_ F (tW Ij) d P C) aru);let O:=Wk ((auB Ij).d%IM%au3 Ij)%ar2 F d M (Jx Ic)%Jx Ic;let x:=(atk Ij).k (P:=l) (w:=p) (mg:=D) (h:=A) (C:=1083) (IM%auG Ij) Ic Ic Ic Ic λB F=>aoG F%afS Ij;show λB F=>ar5 F d x O (IM%auY Ij) (awT Ij) (_,IM%auM Ij,awM l p)
end TW
namespace TW
open PySem PySem.W PyProof.Rows L2
def fnK(w:World)(S:ai->Im ah)(c:aa)(h:aO)(Q:(KF JL).In h)(G:h.Ns a_ S)(k:S PP=J%Ia c): ∃B:br,(∀(s:az) (f:Ib ah),Mw=(SS:Ib ai).a->vw s B (f, [])%(SS:Ib ai).zip f)/\∀base:aO,(KF JL).In Jp->UH a_ S->aJ pw w (KF JL) S Jp aB 353 c B SS%y8 aX 1083%KF JL:=by let e:=k.J.q%mg_of Q G%au4 JL;cases e;let (B,F,_):=auC JL;let (a,l,kV,d,r,i,m,g,A,rfl,V,j):=id F.ex;show (pe PP PP (oq lx) (l6 lx) (aR lx) Ja kV d r i m g,λs f t=>match f,t with| [_],_=> .of_eq y,Wd base X G);let u:Md JL S Jp:=(X,G);let b:=a1 (l:=pw) u;let o:=a2 u b;let x:=a3 u o;show a6 u (a4 u b o x) x (a5 u) _ F
end TW
open PySem PySem.W PyProof.Rows TW
def TW.dA:DefRec:={name:=PP,params:=L2.oq lx,body:=L2.l6 lx,scope:=L2.aR lx,pos:=match lx with| .FunctionDef _ _ _ _ _ _ _ _ _ p=>p|_=>(0,0,0,0)}
theorem PySem.Challenge.cw_treeworkers_s01_answers_holds : PySem.Challenge.rw_treeworkers_s01_answers.Holds := by
 show ahV (kwd:= []) (d:=dA) ?D ?R ?V%L2.alz (r:=ayj) (q:=353) (zG:=L2.aB) (K:=KF) (π:= SS) (z:=y8 aX 1083) HS ?T y (y,Il,Il) (λw h b=>b) ?F ?S%_a7 z z;(case D=>show (LX:_=_));(case R=>rfl);(case V=>rfl);(case T=>rfl);(case F=>show λw f c h _ Q G k=>fnK w f c h Q G k);case S=>intro K H L a Z o l N;cases N with|cons D R=>cases R;cases D with|lst P m=>let e:=L2.acs a.1 _ m;subst e;let (O,i,u,s):=ar_ (zk:=a.1) l;show (_,a.1,O,y,P,i,s,Wd d g j);rw [←u] at j;show Ig (L2.aD.of j)%L2.acr _
