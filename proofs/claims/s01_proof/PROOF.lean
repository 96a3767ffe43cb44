import PyProof.Rows.All
import Wide.All
import OpenK.AllK
import Wide.FinOn
import PyProof.EqAt
import PyProof.EqKinds
import PyProof.TupleCall
import KE.BitLaws
import Open.SpecLaws
import KE.OsHead
import KE.OsGo
import PySem.Challenge.RW_holeshapes_s01_answers
set_option compiler.extract_closed false
set_option Elab.async false
set_option linter.all false
set_option maxRecDepth 100000
set_option maxHeartbeats 4000000
def ao:=@if_neg
def aD:=@if_pos
def bJ:=@decide_eq_true
def bP:=@decide_eq_false
def fq:=@congrArg
def fM:=@or_false
def fS:=@not_or
def m9:=@decide_eq_true_eq
def pB:=@of_decide_eq_true
def pI:=@if_true
def qB:=@if_false
def r9:=@beq_eq_false_iff_ne
def vW:=@beq_iff_eq
def xK:=@not_false_eq_true
def BH:=@eq_false
def B6:=@and_true
theorem byA{p:Prop}(h:p:=by lia):p:=h
theorem byB{p:Prop}(h:p:=by simp):p:=h
theorem byC{p:Prop}(h:p:=by rfl):p:=h
theorem byD{p:Prop}(h:p:=by decide):p:=h
theorem byE{p:Prop}(h:p:=by simp;lia):p:=h
theorem byF{p:Prop}(h:p:=by intro _;rfl):p:=h
theorem byG{p:Prop}(h:p:=by simp only;lia):p:=h
theorem Y{u:Sort v}{a:u}:a=a:=rfl
open Option renaming some->O,none->U
open List renaming length->J
open Array renaming length_toList->Lh,getElem?_toList->UM,getElem?_eq_getElem->UN,toList->agJ,getElem?_eq_none->agK,forIn_toList->agL
open Bool renaming and_eq_true->eO,false_ne_true->iJ,noConfusion->lU,false_or->zm,eq_iff_iff->zo,or_false->Dd,false_eq_true->De,true_or->Lc,true_and->Ld,not_eq_true'->Le,or_true->UH,not_true->UI,and_false->UJ,and_true->agH,and_eq_true_iff->agI
open Classical renaming byContradiction->UE,propDecidable->ahc,not_not->ahd,epsilon_spec->ahe,epsilon->ahf
open False renaming elim->lC
open Function renaming comp->J_
open Int renaming toNat_natCast->lA,toNat->Ut,ediv_neg_of_neg_of_pos->Uu,ediv_le_self->Uv,lt_or_le->afm,le_refl->afn
open Int.ofNat renaming inj->oO
open List renaming length_map->aM,getElem?_eq_getElem->aX,range->bA,mem_cons->bE,map_cons->bL,getElem?_map->bM,replicate->cu,getElem?_eq_some_iff->cV,mem_of_getElem?->dm,map_append->dw,mem_cons_of_mem->dR,sum_cons->eN,size_toArray->eX,map->fC,not_mem_nil->fH,getElem?_append_left->fJ,length_append->fO,getElem?_eq_none->fP,getD_eq_getElem?_getD->fQ,filterMap_cons->fR,mem_range->iB,length_cons->iI,map_map->iZ,mem_filter->jk,nodup_cons->jL,getElem?_of_mem->jM,mem_append->kh,map_congr_left->kj,length_range->ko,getElem?_append_right->kq,drop_eq_getElem_cons->kr,take_length->kK,range_succ->kL,mem_map->kM,getLast?_cons_cons->kN,length_take->lu,getElem?_range->lz,mem_flatMap->lS,append_assoc->lT,zip->mK,mem_cons_self->mL,map_nil->mO,flatMap_cons->mP,length_drop->nj,append_nil->nq,map_drop->oK,length_filter_le->oM,replicate_succ->pZ,nodup_nil->p9,any_cons->p_,all_eq_true->qa,mem_filterMap->qN,getElem_mem->qO,any_eq_true->qP,find?_cons->sI,count_cons->sJ,mem_append_right->uA,lookup->uB,drop_length->uC,drop_drop->uD,zip_cons_cons->wk,nodup_append->wm,lookup_cons->wo,length_set->wu,length_filterMap_le->wz,filter_cons_of_neg->wA,drop_eq_nil_of_le->wB,take_of_length_le->yK,range_succ_eq_map->yL,nil_append->yM,mem_singleton->yN,length_singleton->yO,length_nil->yP,length->yQ,getElem?_replicate->yR,flatMap_append->yS,filter_eq_self->yT,filter_cons_of_pos->yU,all_cons->yV,take_append_drop->Cr,takeWhile_cons_of_pos->Cs,pairwise_iff_getElem->Ct,map_take->Cu,length_zip->Cv,length_eq_zero_iff->Cw,getElem?_set_self->Cy,getElem?_cons_zero->CA,getElem?_cons_succ->CC,flatten_cons->CD,find?_append->CH,filter_cons->CI,filter_append->CJ,filterMap_append->CK,countP_cons->CL,cons_append->CM,take_add_one->JV,sum_nil->JW,sum_append->JX,mem_append_left->JY,map_replicate->JZ,getElem?_set_ne->J0,getElem?_drop->J1,foldl_cons->J2,find?_cons_of_pos->J3,find?_cons_of_neg->J4,ext_getElem?->J5,drop_zero->J6,drop_succ_cons->J7,take_succ_cons->T3,takeWhile_cons_of_neg->T6,sizeOf_lt_of_mem->T9,reverse_cons->T_,of_mem_zip->Ua,mem_of_mem_drop->Ub,map_id->Uc,length_replicate->Ud,head?_eq_getElem?->Ue,getElem?_take->Ug,getElem?_set->Uh,getElem?_eq_none_iff->Ui,foldl->Uj,find?_some->Uk,find?_range_eq_some->Ul,filterMap_nil->Um,filterMap_map->Uo,countP_pos_iff->Up,any_eq_false->Uq,take_zero->aeQ,take_sublist->aeR,take_append_of_le_length->aeS,range_zero->aeT,range_eq_range'->aeU,pairwise_lt_range->aeV,pairwise_cons->aeW,mem_replicate->aeX,mem_of_find?_eq_some->aeY,map_set->aeZ,length_take_le'->ae0,headD_cons->ae1,getElem_inj->ae2,getElem?_zip_eq_some->ae3,getElem?_take_of_lt->ae4,forIn_nil->ae5,foldl_append->ae6,findSome?_cons->ae7,find?_eq_none->ae8,filter_sublist->ae9,filter_congr->ae_,filterMap_eq_nil_iff->ae',filterMap->afa,exists_mem_of_ne_nil->afb,dropLast_concat_getLast->afc,countP_append->afd,any_map->afe,any_append->afg,all_nil->afh,all_map->afi,all_append->afj
open List.Pairwise renaming filter->ag'
open List.Sublist renaming refl->Ur
open List.cons renaming inj->wC
open Nat renaming le_refl->aU,zero_le->cI,lt_or_ge->cY,le_trans->eL,ne_of_lt->iP,lt_of_lt_of_le->lq,lt_irrefl->pY,zero_add->qM,add_assoc->uz,eq_zero_or_pos->wg,add_comm->wh,ne_of_gt->Ck,le_of_eq->Cm,le_add_right->Cn,add_zero->Co,lt_trans->JO,lt_succ_self->JP,lt_of_le_of_lt->JQ,le_of_succ_le->JR,le_of_lt->JS,add_sub_cancel->JT,succ_mul->TQ,sub_zero->TR,sub_self->TU,lt_succ_of_lt->TV,eq_or_lt_of_le->TX,mul_le_mul_right->aeO,mul_comm->aeP
open Ne renaming symm->cO
open Option renaming map_eq_some_iff->eZ,map_some->kg,isSome_iff_exists->we,isSome_map->JK,getD_some->JL,any_some->JM,bind_some->TM,map_none->aeI,isSome_some->aeJ,getD_none->aeK
open Option.some renaming inj->bH,injEq->JJ
open Prod renaming ext->JG
open PyFlat renaming calls->uw,row->Cf,told->JF,rows->Tu,call->Tv,played->aeB
open PyProof renaming noPylong_small->aez
open PyProof.Rows renaming envOfC->qH,IsTup->qQ,AllBare->wG,callWith_type1->yC,IntsAre->y_,slot_tuple_getitem->Ce,Call_->C_,subscriptTail->DS,Subscript_->Jw,boot_range->SX,boot_sum->Tr,tupleItemsOf_->VM,subscriptTail_builtinR->WJ,slicePart_none->X6,isTrue_plain->aa5,entry_tuple_getitem->adi,args_tuple_getitem->ad4,boot_tuple->aeA,iadd_int->ag5,callWith_builtin1->ag6,boot_range->ag7,boot_list->ag8,boot_dict->ag9,boot_any->ag_
open PyProof.Rows.IsTup renaming new->CO
open PySem renaming Addr->aa,Value->ai,Str->ak,wpAny_bind->aL,wpAny->aP,Shared->aS,model->a_,sizeLine->bf,wpAny_pure->bC,Obj->cK,Builtin->cN,sizeLine_eq->c8,eval->di,Heap->dj,World->d9,starEach->eS,Expr->ff,Program->fV,Env->i0,Around->jd,cLine->jj,mainGlobals->jr,cellsFrom->ju,sysModules->jx,Scope->lg,NameKind->lR,call->mz,backTo->mC,Stmt->mF,Tok->m_,wpAny_mono->nA,compareOp->nR,compEnvC->nS,atKey->nU,FuncData->oR,call_meets->pM,binaryOp->pO,Pos->pV,wpAny_holding->qc,getItem->qE,IsPart->qR,pyNext->rq,PyData->sE,wpAny_newObj_type->sP,wpAny_call_entry->sQ,sliceBounds->sW,pushCells->tE,codeAny->uf,bindL->uh,bindC->um,attributeBase->uo,assignEach->uq,wpAny_truthy_bool->uH,wpAny_passesOwn->uI,valueAt->uK,call_meetsIn->vV,wpAny_specialOf->wI,swapsWith->wX,notedBy->xJ,callerA->yi,bootBuiltins->yp,Keyword->yX,BindsTo->zu,wpAny_typeOf->zy,wpAny_rule->zA,wpAny_dictEntries->zC,wpAny_callSpecial?_slot->zE,wpAny_Call_Name_kw->zF,typeIs_int->zW,rawInt->Ar,pyIter->As,inplaceOp->Bp,codeAny_mono->BQ,behindInMarks->BX,assign->B0,DictEntry->C6,wpAny_typeNameOf_keyiter->Dg,wpAny_typeNameOfWhole_keyiter->Dh,wpAny_execs_nil->Di,typeIs_none->DG,subscripted->DR,storedH->DU,stored->DV,slicePick->D7,pushCells_keeps->EC,merged->FE,letOwnedTupleGo->Gu,isTrue->GR,foldedSetIterable->HA,atKey_none_of_get->Jp,Operator->JN,IsRangeIter->J9,wpAny_standAt->Li,wpAny_ret_mkInt->Lj,wpAny_pyIter_list->Ll,wpAny_notOrdered_dict->Lm,wpAny_field->Ln,wpAny_dictEpoch->Lo,wpAny_Name->Lp,wpAny_Call_method->Lq,typeLookup->LS,storedH_new->My,storeName->MA,slot_list_getitem->MX,size_of_entries->Nc,seqIndex_of->Nm,seqIndex_neg->Np,reduceHash->OG,plainId_quiet->O5,operate->Pp,keywordEach->QY,getAttr->RG,evalPart_none->R9,dictSetDefault->Sm,concat_meets->SH,compPost->SI,builtinsNs->SV,bindArgs->S7,backToKw->S9,HeapKind->Ux,wpAny_setField->UP,wpAny_sequenceKey->UQ,wpAny_seqItems->UR,wpAny_pyNext_range_end->US,wpAny_pyNext_list_item->UT,wpAny_pyNext_list_end->UU,wpAny_pyIter_zip->UW,wpAny_pyIter_slot->UX,wpAny_pyIter_rangeiter->UY,wpAny_pyIter_range->UZ,wpAny_pyIter_enum->U0,wpAny_pyHash_int->U1,wpAny_loadName_local->U3,wpAny_loadName_cell->U4,wpAny_isTrue_Compare1->U5,wpAny_isOneOf_keyiter->U6,wpAny_isInstance->U7,wpAny_getItem_list_slice->U8,wpAny_forIn_list->U9,wpAny_fieldsOf->U_,wpAny_execs_cons->U',wpAny_callSpecialIfBoundUnlessNone?_slot->Va,wpAny_binaryOp_repeat_ref->Vb,wpAny_attempt->Vc,wpAny_assign_Name->Vd,wpAny_Dict_empty->Ve,seq_tuple_add->Yi,rangeSize_one->YC,noFill_tuple_add->Zy,newFunctionEnv->ZF,intBits_le_64->aa_,getattributeRaised->abO,firstArgMember->ab9,eqIsQuiet_byValue->adh,codeAny_builtin->adF,call_range_1->adP,beq_builtin_none->ad2
open PySem.Around renaming under->UO,under_plainId->agM
open PySem.AutoListH renaming list___mul___list_int_3->ahg
open PySem.AutoSeq1 renaming wpAny_loadPart'->Df,sub_tuple_tuple->UK,idx_int->UL
open PySem.Calls renaming spliced_cons->zl,callWith_builtin->C9,spliced_nil->K_,evalArgs_plain->La,Name_function_global->agG
open PySem.Code renaming isFrame->UD,frames->agy
open PySem.Data renaming seq->agx
open PySem.DictEntry renaming refKey->ahb
open PySem.F renaming slot_dict_keyiterator_next->zj,slot_tuple_mul->C5,slot_tuple_hash->K5,slot_int_rmul->K6,slot_NoneType_hash->K7,entry_tuple_mul->Uz,args_tuple_mul_2->UA,slot_tuple_rmul->afA,slot_int_index->afB,slot_dict_len->afC,slot_dict_keyiterator_iter->afD,slot_dict_iter->afE,fills_int_mul->afF,entry_int_rmul->afG,entry_dict_keyiterator_next->afH,args_int_rmul_2->afI,args_dict_keyiterator_next_1->afJ
open PySem.Heap renaming lt_size->dO,get?_push_of_some->fW,get?_push_size->jN,size_push->oQ,SameBut->sM,get?_update_self->Uy,get?_update_other->afu
open PySem.Heap.DictOf renaming new->afw
open PySem.Heap.IsSliceOf renaming new->afv
open PySem.Heap.SameBut renaming update->CQ
open PySem.IsRange renaming new->afl
open PySem.NameKind renaming free->yI,cell->TY
open PySem.Obj renaming mapSeq->Ci,mapFields->aeL,data_mapFields->aeM,data_mapDictKeys->aeN
open PySem.PassesOwn renaming never->iG
open PySem.PyData renaming eqv->pU,int->ux,eqvAll->yD,depthAll->Tw,depth->aeC,canLayAll0->aeD
open PySem.SeqAt renaming shaped->JD
open PySem.SeqAt.EqAt renaming same->aeu,int_int->aev,tuple_none->agW,tuple_int->agX,str_int->agY,of_refs->agZ,none_tuple->ag0,none_int->ag1,int_tuple->ag2,int_str->ag3,int_none->ag4
open PySem.SeqAt.RcAt renaming tuples->agV
open PySem.Str renaming ofString->Jx
open PySem.Value renaming ref->dG,none->pP,type->r_,int->uu,bool->yu,str->Jt,isInt->Ju,isStrOf->aek,float->ael,bytes->aem
open PySem.Value.type renaming inj->aej
open PySem.W renaming WData->iO,Codec->ku,ReadsW->sC,WellAll->ur,ReadsAllW->Tq
open PySem.Walks renaming range->aeg
open PyWqakam renaming whole->jv,shape->sD,answers->JE,calls->aex,answers_asked->aey
open Sh renaming Pat->aF,Node->aO,rows->cj,slice->cA,step->cX,skipPat->cZ,filling->eG,says->eK,State->fU,settled->fZ,Way->ia,wholePat->ir,rawsOf->iF,width->i6,run->jK,isPat->jZ,whole->j8,stuffOf->j9,slice->j_,Way->k_,matches_->mH,patOf->nc,wholePat->nY,isPat->pR,firstWayAt->pS,rewritten->qK,filled->rT,patsIn->sj,notRow->sq,Rule->su,NODES->sy,mayTake->tU,firstWayAt->vU,waysAt->vZ,filled->v_,later->xW,odd->yx,Answer->yy,Stuff->Ca,ones->Cb,isRule->Cc,waysAt->Dt,stuffOf->DT,width->JA,next->JB,STEPS->JC,rewritten->OC,firstWay->RT,skip->Tj,patsOf->Tn,Stuff->To,treeOf->aer,skipPat->aes,filling->aet
open Sh.Pat renaming one->dN,row->ie,node->qL,kids->Cg
open Sh.Way renaming of->eu,of->oJ
open ShNeutral renaming whole32->kJ,numbers->nW,step->oH,stepsOf->sf,asked1->Jz,asked->aeq,start->agU
open Sum renaming inl->bx,inr->vY
open True renaming intro->qJ
section
namespace Hs
def dZ:Nat->List Nat->List Nat
 |0,l=>l
 |_+1,[]=>[]
 |k+1,c::r=>dZ (k+c) r
def dz:Nat->List Nat->Bool
 |0,l=>l.isEmpty
 |_+1,[]=>false
 |k+1,c::r=>dz (k+c) r
theorem Vh(l:List Nat):dz 0 l=l.isEmpty:=by cases l<;>rfl
theorem D_(l:List Nat):dZ 0 l=l:=by cases l<;>rfl
theorem Ah(k:Nat):dZ k []=[]:=by cases k<;>rfl
theorem ri:∀(l:List Nat)(k:Nat),dZ k l=l.drop (J l-J (dZ k l))/\J (dZ k l)<=J l
 |[],k=>by simp[Ah]
 |c::r,0=>by simp[dZ]
 |c::r,k+1=>by
  have⟨Y,Z⟩:=ri r (k+c);have e:dZ (k+1) (c::r)=dZ (k+c) r:=rfl;rw[e];refine⟨?_,byE⟩;have:J (c::r)-J (dZ (k+c) r)=(J r-J (dZ (k+c) r))+1:=by simp;lia
  rwa [this,J7]
theorem Nb:∀(l:List Nat)(j k:Nat),dZ (j+k) l=dZ k (dZ j l)
 |[],j,k=>by simp[Ah]
 |c::r,0,k=>by simp[dZ]
 |c::r,j+1,k=>by
  have e:dZ (j+1) (c::r)=dZ (j+c) r:=rfl;have e2:dZ (j+1+k) (c::r)=dZ (j+c+k) r:=by
   have:j+1+k=(j+k)+1:=by lia
   rw[this];show dZ (j+k+c) r=_;congr 1;lia
  rw[e,e2,Nb r (j+c) k]
def pa(cs:List Nat)(n k:Nat):Nat:=J cs-J (dZ k (cs.drop n))
theorem nH(h:n<=J cs):pa cs n 0=n:=by unfold pa;rw[D_];simp;lia
theorem tM{cs:List Nat}{n k:Nat}:pa cs n k<=J cs:=by unfold pa;omega
theorem IW{cs:List Nat}{n k:Nat}(h:n<=J cs):cs.drop (pa cs n k)=dZ k (cs.drop n):=by
 have⟨Y,Z⟩:=ri (cs.drop n) k;have e:pa cs n k=n+(J (cs.drop n)-J (dZ k (cs.drop n))):=by unfold pa;simp at Z ⊢;omega
 rw[e,<-uD];exact Y.symm
theorem pA{cs:List Nat}{n k:Nat}(h:n<=J cs):n<=pa cs n k:=by have⟨Y,Z⟩:=ri (cs.drop n) k;unfold pa;simp at Z;omega
theorem l7{cs:List Nat}{n j k:Nat}(h:n<=J cs):pa cs n (j+k)=pa cs (pa cs n j) k:=by
 conv=>lhs;unfold pa
 rw[Nb,<-IW h];rfl
theorem drop_cons{cs:List Nat}{n:Nat}(h:n<J cs):cs.drop n=cs[n]::cs.drop (n+1):=kr h
theorem EM{cs:List Nat}{n k:Nat}(h:n<J cs):pa cs n (k+1)=pa cs (n+1) (k+cs[n]):=by unfold pa;rw[drop_cons h];rfl
theorem xF(h:n<J cs):pa cs n 1=pa cs (n+1) cs[n]:=by have:=EM (k:=0) h;simpa using this
theorem rC{cs:List Nat}{n k:Nat}(h:n<J cs)(Z:0<k):n<pa cs n k:=by obtain⟨j,rfl⟩:∃j,k=j+1:=⟨k-1,byA⟩;rw[EM h];have:=@pA cs (n+1) (j+cs[n]) byA;lia
theorem Ze{cs:List Nat}{k:Nat}:pa cs (J cs) k=J cs:=by have:=@pA cs (J cs) k (aU _);have:=@tM cs (J cs) k;lia
theorem Dr:∀(l:List Nat)(K k:Nat),dz K l=true->k<K->dZ k l≠[]
 |[],0,k,_,h=>by lia
 |[],K+1,k,h,_=>by simp[dz]at h
 |c::r,K+1,0,_,_=>by simp[dZ]
 |c::r,K+1,k+1,h,Z=>by have e:dZ (k+1) (c::r)=dZ (k+c) r:=rfl;rw[e];exact Dr r (K+c) (k+c) h byA
theorem Dq:∀(l:List Nat)(K k:Nat),dz K l=true->k<=K->dz (K-k) (dZ k l)=true
 |[],0,k,h,Z=>by
  have:k=0:=by lia
  subst this;exact h
 |[],K+1,k,h,_=>by simp[dz]at h
 |c::r,K,0,h,_=>by simpa [dZ]using h
 |c::r,K+1,k+1,h,Z=>by
  have e:dZ (k+1) (c::r)=dZ (k+c) r:=rfl;rw[e];have:=Dq r (K+c) (k+c) h byA;have e2:K+1-(k+1)=K+c-(k+c):=by lia
  rw[e2];exact this
theorem zH{cs:List Nat}:∀{n:Nat},n<J cs->dz 1 cs=true->∃K,dz (K+1) (cs.drop n)=true
 |0,h,w=>⟨0,by simpa using w⟩
 |n+1,h,w=>by
  obtain⟨K,Y⟩:=zH (n:=n) (by omega) w;rw[drop_cons (by omega)]at Y;have Z:dz (K+cs[n]) (cs.drop (n+1))=true:=Y;rcases wg (K+cs[n]) with e|e
  .rw[e,Vh]at Z;simp at Z;omega
  .exact⟨K+cs[n]-1,by rw[Nat.sub_add_cancel e];exact Z⟩
theorem aaw{cs:List Nat}(w:dz 1 cs=true){u j:Nat}(Z:u<J cs)(S:j<cs[u]):pa cs (u+1) j<J cs:=by
 obtain⟨K,Y⟩:=zH Z w;rw[drop_cons Z]at Y;have T:dz (K+cs[u]) (cs.drop (u+1))=true:=Y;have W:=Dr _ _ j T byA;have U:=@IW cs (u+1) j byA;rw[<-U]at W;have R:pa cs (u+1) j<=J cs:=tM;rcases cY (pa cs (u+1) j) (J cs) with h|h
 .exact h
 .exact absurd (wB h) W
def b7(cs:List Nat)(u:Nat):Nat:=(cs++[1]).getD u 0
theorem zO(h:u<J cs):b7 cs u=cs[u]:=by unfold b7;simp[fQ,fJ h,aX h]
theorem wM:b7 cs (J cs)=1:=by unfold b7;simp[fQ]
def aI(cs:List Nat)(u j:Nat):Nat:=if u=J cs then pa cs 0 j else pa cs (u+1) j
theorem k7(Z:u<=J cs):aI cs u (j+1)=pa cs (aI cs u j) 1:=by
 unfold aI;split
 .exact l7 byA
 .exact l7 byA
theorem vO(Z:u<J cs):aI cs u (b7 cs u)=pa cs u 1:=by rw[zO Z,xF Z];unfold aI;rw[ao byA]
theorem Lw(w:dz 1 cs=true):pa cs 0 1=J cs:=by
 have h:=Dq cs 1 1 w byA;have Z:(dZ 1 cs)=[]:=by simpa [dz]using h
 unfold pa;simp[Z]
theorem Dn(w:dz 1 cs=true):0<J cs:=by
 cases cs with
 |nil=>simp[dz]at w
 |cons=>simp
theorem jW(w:dz 1 cs=true)(W:u<=J cs)(Y:j<b7 cs u):aI cs u j<J cs:=by
 unfold aI;split
 .rename_i e;subst e;rw[wM]at Y;have:j=0:=by lia
  subst this;rw[nH byA];exact Dn w
 .rename_i e;have Z:u<J cs:=by lia
  rw[zO Z]at Y;exact aaw w Z Y
structure L3 where
 rows:List (List Nat)
 above:List Nat
 places:List Nat
 stack:List Nat
def rowAt(rows:List (List Nat))(u:Nat):List Nat:=rows.getD u []
def jC(cs:List Nat)(rows:List (List Nat)):List Nat->List Nat
 |[]=>[]
 |u::st=>if(rowAt rows u).length=b7 cs u then jC cs rows st else u::st
def pG(cs:List Nat)(s:L3)(n:Nat):L3:=
 let st:=jC cs s.rows s.stack
 let u:=st.headD 0
 ⟨s.rows.set u (rowAt s.rows u++[n]),s.above++[u],s.places++[J (rowAt s.rows u)],n::st⟩
def lM(cs:List Nat):L3:=⟨cu (J cs+1) [],[],[],[J cs]⟩
def bD(cs:List Nat)(n:Nat):L3:=(bA n).foldl (pG cs) (lM cs)
def lay(cs:List Nat):L3:=bD cs (J cs)
def iE(cs:List Nat)(rows:List (List Nat)):Nat->List Nat->Prop
 |u,[]=>u=J cs
 |u,v::st=>u<J cs/\v<=J cs/\∃l,J (rowAt rows v)=l+1/\aI cs v l=u/\v≠u/\iE cs rows v st
structure CN(cs:List Nat)(n:Nat)(s:L3):Prop where
 lr:J s.rows=J cs+1
 la:J s.above=n
 lp:J s.places=n
 row:∀u,u<=J cs->rowAt s.rows u=(bA (J (rowAt s.rows u))).map (aI cs u)
 le:∀u,u<=J cs->J (rowAt s.rows u)<=b7 cs u
 new:∀u,n<=u->u<J cs->rowAt s.rows u=[]
 at_:∀(u j v:Nat),(rowAt s.rows u)[j]?=O v↔(s.above[v]?=O u/\s.places[v]?=O j)
 below:∀(u j v:Nat),(rowAt s.rows u)[j]?=O v->v<n/\u<=J cs
 full:∀u,u<n->u∉s.stack->J (rowAt s.rows u)=b7 cs u
 top:∃u st,s.stack=u::st/\u<=J cs/\aI cs u (J (rowAt s.rows u))=n/\iE cs s.rows u st
 lt:∀u∈s.stack,u<n\/u=J cs
theorem oj(Z:u<J rows):rowAt (rows.set u x) v=if v=u then x else rowAt rows v:=by
 unfold rowAt;simp only[fQ,Uh];by_cases e:v=u
 .subst e;simp[Z]
 .rw[ao (λq=>e q.symm),ao e]
theorem iE.mem:∀{u:Nat}{st:List Nat},iE cs rows u st->∀v∈u::st,v<=J cs
 |u,[],h,v,hv=>by have:u=J cs:=h;simp at hv;lia
 |u,w::st,h,v,hv=>by
  obtain⟨S,T,l,U,W,Y,Z⟩:=h;rcases bE.mp hv with e|e
  .lia
  .exact iE.mem Z v e
theorem EF(w:dz 1 cs=true)(Q:n<J cs)
 (Y:∀u,u<=J cs->J (rowAt rows u)<=b7 cs u):∀(st:List Nat)(u:Nat),aI cs u (J (rowAt rows u))=n->iE cs rows u st ->
 ∃v st',jC cs rows (u::st)=v::st'/\v<=J cs/\aI cs v (J (rowAt rows v))=n/\J (rowAt rows v)<b7 cs v/\iE cs rows v st' /\
  (∀x,x∈u::st->x∉v::st'->J (rowAt rows x)=b7 cs x)/\∀x∈v::st',x∈u::st
 |st,u,W,T=>by
  have S:=T.mem u byB;by_cases U:J (rowAt rows u)=b7 cs u
  .cases st with
   |nil=>have e:=T;subst e;rw[U,wM]at W;unfold aI at W;rw[aD rfl,Lw w]at W;lia
   |cons v st=>
    obtain⟨L,M,l,N,O,C,P⟩:=T;have e:aI cs v (J (rowAt rows v))=n:=by rw[N,k7 M,O,<-vO L,<-U];exact W
    obtain⟨R,st',D,E,F,G,H,I,K⟩:=EF w Q Y st v e P;refine⟨R,st',?_,E,F,G,H,?_,λx hx=>dR _ (K x hx)⟩
    .show(if _ then _ else _)=_;rw[aD U];exact D
    .intro x hx Z;rcases bE.mp hx with e|e
     .subst e;exact U
     .exact I x e Z
  .refine⟨u,st,?_,S,W,?_,T,λx hx Z=>absurd hx Z,λx hx=>hx⟩
   .show(if _ then _ else _)=_;rw[ao U]
   .have:=Y u S;lia
theorem iE.congr:∀{u:Nat}{st:List Nat},(∀x∈st,J (rowAt rows' x)=J (rowAt rows x))->iE cs rows u st->iE cs rows' u st
 |u,[],_,h=>h
 |u,v::st,hx,h=>by obtain⟨S,T,l,U,W,Y,Z⟩:=h;exact⟨S,T,l,by rw[hx v byB];exact U,W,Y,iE.congr (λx m=>hx x (dR _ m)) Z⟩
theorem QU(w:dz 1 cs=true):CN cs 0 (lM cs):=by
 have Z:∀u,rowAt (lM cs).rows u=[]:=by intro u;unfold rowAt lM;simp only[fQ,yR];split<;>rfl
 refine⟨by simp[lM],rfl,rfl,?_,?_,?_,?_,?_,?_,?_,?_⟩
 .intro u _;rw[Z];rfl
 .intro u _;rw[Z];exact cI _
 .intro u _ _;exact Z u
 .intro u j v;rw[Z];simp[lM]
 .intro u j v h;rw[Z]at h;simp at h
 .intro u h;lia
 .refine⟨J cs,[],rfl,aU _,?_,rfl⟩;rw[Z];unfold aI;rw[aD rfl];exact nH byA
 .intro u h;simp[lM]at h;exact .inr h
end Hs
end
section
namespace Hs
theorem tZ{cs:List Nat}{u j:Nat}(Z:u<J cs):u<aI cs u j:=by unfold aI;rw[ao byA];have:=@pA cs (u+1) j byA;lia
theorem iE.lt{cs:List Nat}{rows:List (List Nat)}:∀{st:List Nat}{u:Nat},iE cs rows u st->∀x∈st,(x=J cs/\u<J cs)\/x<u
 |[],u,_,x,hx=>by simp at hx
 |v::st,u,h,x,hx=>by
  obtain⟨W,R,l,S,T,U,Y⟩:=h;have hv:(v=J cs)\/v<u:=by
   rcases cY v (J cs) with q|q
   .right;have:=@tZ cs v l q;lia
   .left;lia
  rcases bE.mp hx with e|e
  .subst e;rcases hv with q|q
   .exact .inl ⟨q,W⟩
   .exact .inr q
  .rcases iE.lt Y x e with q|q
   .exact .inl ⟨q.1,W⟩
   .rcases hv with Z|Z
    .subst Z;cases st with
     |nil=>simp at e
     |cons z st=>obtain⟨Q,_⟩:=Y;lia
    .exact .inr byA
theorem aap(w:dz 1 cs=true)(P:n<J cs)(I:CN cs n s):CN cs (n+1) (pG cs s n):=by
 obtain⟨u,st,e,C,F,G⟩:=I.top;obtain⟨v,st',D,K,L,B,M,E,N⟩:=EF w P I.le st u F G;have U:pG cs s n=⟨s.rows.set v (rowAt s.rows v++[n]),s.above++[v],s.places++[J (rowAt s.rows v)],n::v::st'⟩:=by unfold pG;rw[e,D];rfl
 have hv:v<J s.rows:=by rw[I.lr];lia
 have T:∀x,rowAt (pG cs s n).rows x=if x=v then rowAt s.rows v++[n] else rowAt s.rows x:=by intro x;rw[U];exact oj hv
 have H:v<n\/v=J cs:=by have:=N v byB;rw[<-e]at this;exact I.lt v this
 refine⟨?_,?_,?_,?_,?_,?_,?_,?_,?_,?_,?_⟩
 .rw[U];simp[I.lr]
 .rw[U];simp[I.la]
 .rw[U];simp[I.lp]
 .intro x hx;rw[T];by_cases q:x=v
  .subst q;rw[aD rfl,fO,yO,kL,dw,<-I.row x hx];simp only[bL,mO];rw[L]
  .rw[ao q];exact I.row x hx
 .intro x hx;rw[T];by_cases q:x=v
  .subst q;rw[aD rfl,fO,yO];lia
  .rw[ao q];exact I.le x hx
 .intro x Z W;rw[T,ao byA];exact I.new x byA W
 .intro x j y;rw[T];rw[U];by_cases q:x=v
  .subst q;rw[aD rfl];by_cases S:y=n
   .subst S;have Q:∀j:Nat,(rowAt s.rows x)[j]?≠O y:=λj h=>by have:=(I.below x j y h).1;lia
    constructor
    .intro h;rcases Nat.lt_trichotomy j (J (rowAt s.rows x)) with q|q|q
     .rw[fJ q]at h;exact absurd h (Q j)
     .subst q;constructor
      .rw[kq (by rw[I.la];exact aU _),I.la];simp
      .rw[kq (by rw[I.lp];exact aU _),I.lp];simp
     .rw[kq byA]at h;rw[fP byE]at h;cases h
    .rintro⟨Z,W⟩;rw[kq (by rw[I.lp];exact aU _),I.lp]at W;simp at W;subst W;simp
   .constructor
    .intro h;rcases cY j (J (rowAt s.rows x)) with q|q
     .rw[fJ q]at h;have:=(I.at_ x j y).mp h;have hb:=(I.below x j y h).1
      rwa [fJ (by rw[I.la];exact hb),fJ (by rw[I.lp];exact hb)]
     .rw[kq q]at h;have:=dm h;simp at this;exact absurd this S
    .rintro⟨Z,W⟩;have hb:y<n:=by
      rcases cY y n with q|q
      .exact q
      .rw[fP (by simp[I.la];lia)]at Z;cases Z
     rw[fJ (by rw[I.la];exact hb)]at Z;rw[fJ (by rw[I.lp];exact hb)]at W;have:=(I.at_ x j y).mpr ⟨Z,W⟩;rw[fJ (by
      rcases cY j (J (rowAt s.rows x)) with q|q
      .exact q
      .rw[fP q]at this;cases this)]
     exact this
  .rw[ao q];by_cases S:y=n
   .subst S;constructor
    .intro h;have:=(I.below x j y h).1;lia
    .rintro⟨Z,W⟩;rw[kq (by rw[I.la];exact aU _),I.la]at Z;simp at Z;exact absurd Z.symm q
   .constructor
    .intro h;have:=(I.at_ x j y).mp h;have hb:=(I.below x j y h).1
     rwa [fJ (by rw[I.la];exact hb),fJ (by rw[I.lp];exact hb)]
    .rintro⟨Z,W⟩;have hb:y<n:=by
      rcases cY y n with q|q
      .exact q
      .rw[fP (by simp[I.la];lia)]at Z;cases Z
     rw[fJ (by rw[I.la];exact hb)]at Z;rw[fJ (by rw[I.lp];exact hb)]at W;exact(I.at_ x j y).mpr ⟨Z,W⟩
 .intro x j y h;rw[T]at h;by_cases q:x=v
  .subst q;rw[aD rfl]at h;refine⟨?_,K⟩;rcases cY j (J (rowAt s.rows x)) with q|q
   .rw[fJ q]at h;have:=(I.below x j y h).1;lia
   .rw[kq q]at h;have:=dm h;simp at this;lia
  .rw[ao q]at h;have:=I.below x j y h;exact⟨byA,this.2⟩
 .intro x hx R;rw[U]at R;simp only[bE,fS]at R;rw[T,ao R.2.1];by_cases q:x∈u::st
  .exact E x q (by simp only[bE,fS];exact R.2)
  .exact I.full x byA (by rw[e];exact q)
 .rw[U];refine⟨n,v::st',Y,byA,?_,P,K,J (rowAt s.rows v),?_,L,byA,?_⟩
  .have:rowAt (s.rows.set v (rowAt s.rows v++[n])) n=[]:=by rw[oj hv,ao byA];exact I.new n (aU _) P
   rw[this];unfold aI;rw[ao byA];exact nH byA
  .rw[oj hv,aD rfl];simp
  .refine iE.congr (λx hx=>?_) M;have:=M.lt x hx;rw[oj hv,ao byA]
 .intro x hx;rw[U]at hx;rcases bE.mp hx with q|q
  .left;lia
  .have:=N x q;rw[<-e]at this;have:=I.lt x this;lia
theorem vL(cs:List Nat)(n:Nat):bD cs (n+1)=pG cs (bD cs n) n:=by unfold bD;rw[kL,ae6];rfl
theorem tY(w:dz 1 cs=true):∀{n:Nat},n<=J cs->CN cs n (bD cs n)
 |0,_=>QU w
 |n+1,h=>by rw[vL];exact aap w byA (tY w byA)
theorem MB(w:dz 1 cs=true)(Z:∀u,u<=J cs->J (rowAt rows u)<=b7 cs u):
 ∀(st:List Nat)(u:Nat),aI cs u (J (rowAt rows u))=J cs->iE cs rows u st->∀x∈u::st,J (rowAt rows x)=b7 cs x
 |st,u,T,W,x,hx=>by
  have Y:=W.mem u byB;have U:J (rowAt rows u)=b7 cs u:=by
   rcases cY (J (rowAt rows u)) (b7 cs u) with q|q
   .have:=jW w Y q;lia
   .have:=Z u Y;lia
  rcases bE.mp hx with e|e
  .subst e;exact U
  .cases st with
   |nil=>simp at e
   |cons v st=>
    obtain⟨O,P,l,Q,R,M,S⟩:=W;have N:aI cs v (J (rowAt rows v))=J cs:=by rw[Q,k7 P,R,<-vO O,<-U];exact T
    exact MB w Z st v N S x e
structure afk(cs:List Nat)(s:L3):Prop where
 lr:J s.rows=J cs+1
 la:J s.above=J cs
 lp:J s.places=J cs
 row:∀u,u<=J cs->rowAt s.rows u=(bA (b7 cs u)).map (aI cs u)
 at_:∀(u j v:Nat),(rowAt s.rows u)[j]?=O v↔(s.above[v]?=O u/\s.places[v]?=O j)
 below:∀(u j v:Nat),(rowAt s.rows u)[j]?=O v->v<J cs/\u<=J cs
theorem mY(w:dz 1 cs=true):afk cs (lay cs):=by
 have I:=tY w (aU (J cs));refine⟨I.lr,I.la,I.lp,λu W=>?_,I.at_,I.below⟩;have h:=I.row u W;have S:J (rowAt (bD cs (J cs)).rows u)=b7 cs u:=by
  obtain⟨v,st,e,hv,T,Z⟩:=I.top;by_cases q:u∈v::st
  .exact MB w I.le st v T Z u q
  .have U:u≠J cs:=by
    intro z;have:∀(st:List Nat)(v:Nat),iE cs (bD cs (J cs)).rows v st->J cs∈v::st:=by
     intro st
     induction st with
     |nil=>intro v h;have:v=J cs:=h;simp[this]
     |cons y st Y=>intro v h;obtain⟨M,N,l,O,P,Q,R⟩:=h;exact dR _ (Y y R)
    rw[z]at q;exact q (this st v Z)
   exact I.full u byA (by rw[e];exact q)
 rwa [S]at h
end Hs
end
section
namespace Hs
open Sh
abbrev ah(t:List aO):List Nat:=t.map (·.kids)
theorem uW(l:List aO):skip 0 l=l:=by cases l<;>rfl
theorem M7(k:Nat):skip k []=[]:=by cases k<;>rfl
theorem Vg(l:List aO):whole 0 l=l.isEmpty:=by cases l<;>rfl
theorem D9:∀(l:List aO)(k:Nat),(skip k l).map (·.kids)=dZ k (l.map (·.kids))
 |[],k=>by simp[M7,Ah]
 |n::r,0=>by simp[uW,D_]
 |n::r,k+1=>by exact D9 r _
theorem mQ:∀(l:List aO)(k:Nat),whole k l=dz k (l.map (·.kids))
 |[],0=>rfl
 |[],k+1=>rfl
 |n::r,0=>rfl
 |n::r,k+1=>by exact mQ r _
theorem xh(l:List aO)(k:Nat):J (skip k l)=J (dZ k (l.map (·.kids))):=by rw[<-D9];simp
theorem q_(t:List aO)(i k:Nat):cA t i k=(t.drop i).take (pa (ah t) i k-i):=by unfold cA pa;rw[xh,oK];congr 1;simp only[nj,aM,ah];have:=(ri ((ah t).drop i) k).2;simp[ah]at this;lia
theorem MZ(h:i<=J t):J (cA t i k)=pa (ah t) i k-i:=by rw[q_];have:=@tM (ah t) i k;simp at this ⊢;lia
theorem oZ(h:i<=J t):i+J (cA t i k)=pa (ah t) i k:=by rw[MZ h];have:=@pA (ah t) i k (by simpa using h);omega
theorem XY:cA t i 0=[]:=by unfold cA;rw[uW];simp
theorem IV(h:i<=J t):t.drop i=cA t i k++t.drop (pa (ah t) i k):=by
 rw[q_];have Z:=@pA (ah t) i k (by simpa using h);have:t.drop (pa (ah t) i k)=(t.drop i).drop (pa (ah t) i k-i):=by rw[uD];congr 1;lia
 rw[this,Cr]
theorem X3(h:i<=J t):cA t i (j+k)=cA t i j++cA t (pa (ah t) i j) k:=by
 have h':i<=J (ah t):=by simpa using h
 have W:=@pA (ah t) i j h';have Z:pa (ah t) i j<=J (ah t):=tM;have Y:=@pA (ah t) (pa (ah t) i j) k Z;rw[q_,q_,q_,l7 h'];have e:pa (ah t) (pa (ah t) i j) k-i=(pa (ah t) i j-i)+(pa (ah t) (pa (ah t) i j) k-pa (ah t) i j):=by lia
 rw[e,List.take_add,uD];congr 2;congr 1;lia
theorem Ad(h:u<J t):cA t u 1=t[u]::cA t (u+1) t[u].kids:=by
 have Z:u<J (ah t):=by simpa using h
 have e1:(ah t)[u]=t[u].kids:=by simp
 have Y:=@pA (ah t) (u+1) t[u].kids byA;rw[q_,q_,xF Z,e1,kr h];have:pa (ah t) (u+1) t[u].kids-u=(pa (ah t) (u+1) t[u].kids-(u+1))+1:=by lia
 rw[this,T3]
def rQ(l:List aO):List Node:=l.take (J l-J (skip 1 l))
def split:Nat->List aO->List (List aO)
 |0,_=>[]
 |j+1,l=>rQ l::split j (skip 1 l)
theorem Ag:∀(x r:List aO)(K k:Nat),whole K x=true->k<=K->skip k (x++r)=skip k x++r
 |[],r,0,k,_,h=>by
  have:k=0:=by lia
  subst this;simp[uW]
 |[],r,K+1,k,w,_=>by simp[whole]at w
 |n::x,r,K,0,_,_=>by simp[uW]
 |n::x,r,K+1,k+1,w,h=>by exact Ag x r (K+n.kids) (k+n.kids) w byA
 |n::x,r,0,k+1,_,h=>by lia
theorem Lu(l:List aO)(K k:Nat)(w:whole K l=true)(h:k<=K):whole (K-k) (skip k l)=true:=by rw[mQ]at w ⊢;rw[D9];exact Dq _ _ _ w h
theorem Dm:∀{x:List aO}{j k:Nat},whole j x=true->whole k x=true->j=k
 |[],0,0,_,_=>rfl
 |[],0,k+1,_,h=>by simp[whole]at h
 |[],j+1,_,h,_=>by simp[whole]at h
 |n::x,0,_,h,_=>by simp[whole]at h
 |n::x,j+1,0,_,h=>by simp[whole]at h
 |n::x,j+1,k+1,h,h'=>by have:=Dm (j:=j+n.kids) h h';lia
theorem abX(w:whole (K+1) x=true):rQ (x++r)=rQ x:=by
 unfold rQ;rw[Ag x r (K+1) 1 w byA];have h:J (skip 1 x)<=J x:=by rw[xh];have:=(ri (x.map (·.kids)) 1).2;simpa using this
 rw[fO,fO,aeS byA];congr 1;lia
theorem MR:∀(j K:Nat)(x r:List aO),whole K x=true->j<=K->split j (x++r)=split j x
 |0,_,_,_,_,_=>rfl
 |j+1,K,x,r,w,h=>by obtain⟨K,rfl⟩:∃k,K=k+1:=⟨K-1,byA⟩;show rQ (x++r)::split j (skip 1 (x++r))=rQ x::split j (skip 1 x);rw[abX w,Ag x r (K+1) 1 w byA,MR j K _ r (Lu x (K+1) 1 w byA) byA]
theorem BJ{t:List aO}{i k:Nat}(h:i<=J t):skip k (t.drop i)=t.drop (pa (ah t) i k):=by
 have h':i<=J (ah t):=by simpa using h
 have W:=(ri ((ah t).drop i) k).2;have Z:∀(l:List aO)(k:Nat),skip k l=l.drop (J l-J (skip k l)):=by
  intro l
  induction l with
  |nil=>intro k;simp[M7]
  |cons n r Y=>
   intro k;cases k with
   |zero=>simp[uW]
   |succ k=>
    show skip (k+n.kids) r=(n::r).drop (J (n::r)-J (skip (k+n.kids) r));have U:J (skip (k+n.kids) r)<=J r:=by rw[xh];have:=(ri (r.map (·.kids)) (k+n.kids)).2;simpa using this
    have:J (n::r)-J (skip (k+n.kids) r)=(J r-J (skip (k+n.kids) r))+1:=by simp;lia
    rw[this,J7];exact Y _
 rw[Z,uD];congr 1;unfold pa;rw[xh,oK];simp only[ah,nj,aM]at W h' ⊢;lia
theorem abW:rQ (t.drop i)=cA t i 1:=rfl
theorem MQ{t:List aO}:∀(j i:Nat),i<=J t->split j (t.drop i)=(bA j).map λa=>cA t (pa (ah t) i a) 1
 |0,i,_=>rfl
 |j+1,i,h=>by
  have h':i<=J (ah t):=by simpa using h
  have Z:pa (ah t) i 1<=J t:=by have:pa (ah t) i 1<=J (ah t):=tM;simpa using this
  show rQ (t.drop i)::split j (skip 1 (t.drop i))=_;rw[BJ h,MQ j _ Z,yL,bL,iZ,nH h',abW];congr 1;refine kj λa _=>?_;show cA t (pa (ah t) (pa (ah t) i 1) a) 1=cA t (pa (ah t) i (a+1)) 1;rw[wh a 1,l7 h']
inductive cW(t:List aO)(i j:Nat):Prop
 |mk(K:_)(_:j<=K)(_:whole K (t.drop i)=true)
theorem Ls:∀(l:List aO)(K j:Nat),whole K l=true->j<=K->whole j (l.take (J l-J (skip j l)))=true
 |[],K,j,w,h=>by
  cases K with
  |zero=>
   have:j=0:=by lia
   subst this;rfl
  |succ K=>simp[whole]at w
 |n::r,K,0,w,h=>by simp[uW,Vg]
 |n::r,0,j+1,w,h=>by lia
 |n::r,K+1,j+1,w,h=>by
  have e:skip (j+1) (n::r)=skip (j+n.kids) r:=rfl;rw[e];have Z:J (skip (j+n.kids) r)<=J r:=by rw[xh];have:=(ri (r.map (·.kids)) (j+n.kids)).2;simpa using this
  have:J (n::r)-J (skip (j+n.kids) r)=(J r-J (skip (j+n.kids) r))+1:=by simp;lia
  rw[this,T3];exact Ls r (K+n.kids) (j+n.kids) w byA
theorem qd(h:cW t i j):whole j (cA t i j)=true:=by obtain⟨K,Y,Z⟩:=h;exact Ls _ K j Z Y
theorem MP(hi:i<=J t)(h:cW t i j):split j (cA t i j)=(bA j).map λa=>cA t (pa (ah t) i a) 1:=by rw[<-MQ j i hi,IV hi];exact(MR j j _ _ (qd h) (aU _)).symm
theorem Af(hi:i<=J t):∀j:Nat,cA t i j=((bA j).map λa=>cA t (pa (ah t) i a) 1).flatten
 |0=>by simp[XY]
 |j+1=>by rw[X3 hi,Af hi j,kL,dw,List.flatten_append];simp
theorem D6(hi:i<=J t)(Z:i'<=J t)(h:cW t i j)(h':cW t i' j'):
 cA t i j=cA t i' j'↔((bA j).map λa=>cA t (pa (ah t) i a) 1)=((bA j').map λa=>cA t (pa (ah t) i' a) 1):=by
 constructor
 .intro e;have w:=qd h;have Y:=qd h';rw[<-e]at Y;have W:=Dm w Y;subst W;rw[<-MP hi h,<-MP Z h',e]
 .intro e;rw[Af hi,Af Z,e]
theorem Bu(w:whole 1 t=true)(Y:u<J t):cW t (u+1) t[u].kids:=by
 rw[mQ]at w;have Z:u<J (ah t):=by simpa using Y
 obtain⟨K,W⟩:=zH Z w;rw[drop_cons Z]at W;refine⟨K+t[u].kids,byA,?_⟩;rw[mQ,oK];have e1:(ah t)[u]=t[u].kids:=by simp
 rwa [<-e1]
theorem cW.part{t:List aO}{i j a b:Nat}(hi:i<=J t)(h:cW t i j)(Z:a+b<=j):cW t (pa (ah t) i a) b:=by obtain⟨K,W,Y⟩:=h;refine⟨K-a,byA,?_⟩;rw[<-BJ hi];exact Lu _ K a Y byA
theorem Hl(w:whole 1 t=true)(Z:u<J t):cW t u 1:=by rw[mQ]at w;obtain⟨K,Y⟩:=zH (by simpa using Z) w;exact⟨K+1,byA,by rw[mQ,oK];exact Y⟩
abbrev fK:=Nat×List Nat
structure M5 where
 ends : List Nat
 b_:List Nat
 dc:List (List Nat)
 eE:List (List Nat)
 seen:List (fK×Nat)
def aV(l:List Nat)(u:Nat):Nat:=l.getD u 0
def jt(seen:List (fK×Nat))(k:fK):Option Nat:=(seen.find? λp=>p.1==k).map (·.2)
def lG(seen:List (fK×Nat))(k:fK):List (fK×Nat):=match jt seen k with
 |some _=>seen
 |none=>seen++[(k,J seen)]
def qp(seen:List (fK×Nat))(k:fK):Nat:=match jt seen k with
 |some v=>v
 |none=>J seen
def nN(dS:List Nat)(rows:List (List Nat))(s:M5)(u:Nat):M5:=
 let row:=rowAt rows u
 let k:fK:=(aV dS u,row.map (aV s.b_))
 ⟨s.ends.set u (match row.getLast? with|some c=>aV s.ends c|none=>u+1),s.b_.set u (qp s.seen k),s.dc.set u (row.map (aV s.b_)),s.eE.set u (row.map (aV dS)),lG s.seen k⟩
structure lQ(seen:List (fK×Nat)):Prop where
 val:∀(i:Nat)(p:fK×Nat),seen[i]?=O p->p.2=i
 lt:∀(i:Nat)(p:fK×Nat),seen[i]?=O p->∀x∈p.1.2,x<i
class aW where
 seen:List (fK×Nat)
 ok:lQ seen
def l9[aW](n:Nat):M5:=⟨cu n 0,cu n 0,cu n [],cu n [],aW.seen⟩
def oB[aW](dS:List Nat)(rows:List (List Nat))(n:Nat):Nat->M5
 |0=>l9 n
 |m+1=>nN dS rows (oB dS rows n m) (n-1-m)
def mark[aW](dS:List Nat)(rows:List (List Nat))(n:Nat):M5:=oB dS rows n n
theorem Bd(h:jt seen k=O v):(k,v)∈seen:=by
 unfold jt at h;cases e:seen.find? (λp=>p.1==k) with
 |none=>rw[e]at h;cases h
 |some p=>
  rw[e]at h;have U:=Uk e;have W:=aeY e;have Y:=bH h;have Z:p.1=k:=by simpa using U
  rw[<-Y,<-Z];exact W
theorem lQ.inj(S:lQ seen)(h:(k,v)∈seen)(h':(k',v)∈seen):k=k':=by obtain⟨i,hi⟩:=jM h;obtain⟨j,Z⟩:=jM h';have e1:=S.val i _ hi;have e2:=S.val j _ Z;rw[<-e1]at hi;rw[<-e2,hi]at Z;exact fq (·.1) (bH Z)
theorem lQ.put(S:lQ seen)(k:fK)(W:∀x∈k.2,x<J seen):lQ (lG seen k):=by
 unfold lG;split
 .exact S
 .have Z:∀(i:Nat)(p:fK×Nat),(seen++[(k,J seen)])[i]?=O p->seen[i]?=O p\/(i=J seen/\p=(k,J seen)):=by
   intro i p h;rcases cY i (J seen) with q|q
   .rw[fJ q]at h;exact .inl h
   .rw[kq q]at h;rcases cY (i-J seen) 1 with z|z
    .have e:i=J seen:=by lia
     subst e;simp at h;exact .inr ⟨Y,h.symm⟩
    .rw[fP (by simpa using z)]at h;cases h
  refine⟨λi p h=>?_,λi p h=>?_⟩
  .rcases Z i p h with q|⟨q,e⟩
   .exact S.val i p q
   .rw[e,q]
  .rcases Z i p h with q|⟨q,e⟩
   .exact S.lt i p q
   .rw[e,q];exact W
theorem QJ(S:lQ seen)(h:jt seen k=O v):v<J seen:=by obtain⟨i,hi⟩:=jM (Bd h);have:=S.val i _ hi;simp only at this;rw[this];exact(cV.mp hi).1
theorem aac(x:List (fK×Nat))(h:jt seen k=O v):jt (seen++x) k=O v:=by
 unfold jt at h ⊢;rw[CH];cases e:seen.find? (λp=>p.1==k) with
 |none=>rw[e]at h;cases h
 |some p=>rw[e]at h;exact h
theorem Z_(seen:List (fK×Nat))(k:fK):jt (lG seen k) k=O (qp seen k):=by
 unfold lG qp;cases e:jt seen k with
 |some v=>simpa using e
 |none=>
  unfold jt at e ⊢;rw[CH];cases e2:seen.find? (λp=>p.1==k) with
  |some p=>rw[e2]at e;cases e
  |none=>simp
theorem aaa(h:jt seen k=O v):jt (lG seen k') k=O v:=by
 unfold lG;split
 .exact h
 .exact aac _ h
theorem Jq(Z:u<J l):aV (l.set u x) v=if v=u then x else aV l v:=by
 unfold aV;simp only[fQ,Uh];by_cases e:v=u
 .subst e;simp[Z]
 .rw[ao (λq=>e q.symm),ao e]
structure yJ(t:List aO)(n:Nat)(s:M5):Prop where
 le:J s.ends=J t
 ll:J s.b_=J t
 lk:J s.dc=J t
 lb:J s.eE=J t
 ends : ∀u, n ≤ u → u<J t → aV s.ends u = pa (ah t) u 1
 b_:∀u (h:u<J t),n<=u->jt s.seen (t[u].label,(bA t[u].kids).map λa=>aV s.b_ (aI (ah t) u a))=O (aV s.b_ u)
 dc:∀u (h:u<J t),n<=u->rowAt s.dc u=(bA t[u].kids).map λa=>aV s.b_ (aI (ah t) u a)
 eE:∀u (h:u<J t),n<=u->rowAt s.eE u=(bA t[u].kids).map λa=>aV (t.map (·.label)) (aI (ah t) u a)
 seen:lQ s.seen
theorem mq(h:u<J t):b7 (ah t) u=t[u].kids:=by rw[zO (by simpa using h)];simp
variable[aW]
theorem Z4(t:List aO):yJ t (J t) (l9 (J t)) where
 le:=by simp[l9]
 ll:=by simp[l9]
 lk:=by simp[l9]
 lb:=by simp[l9]
 ends := fun u h h' => by lia
 b_:=λu h h'=>by lia
 dc:=λu h h'=>by lia
 eE:=λu h h'=>by lia
 seen:=aW.ok
omit [aW] in
theorem Z3(w:whole 1 t=true)(Y:n<J t)(I:yJ t (n+1) s):yJ t n (nN (t.map (·.label)) (lay (ah t)).rows s n):=by
 have N:dz 1 (ah t)=true:=by rw[<-mQ];exact w
 have L:=mY N;have K:n<J (ah t):=by simpa using Y
 have Z:rowAt (lay (ah t)).rows n=(bA t[n].kids).map (aI (ah t) n):=by rw[L.row n byA,mq Y]
 have T:∀a,a<t[n].kids->n<aI (ah t) n a/\aI (ah t) n a<J t:=by intro a ha;refine⟨tZ K,?_⟩;have:=jW N (u:=n) byA (by rw[mq Y];exact ha);simpa using this
 have R:∀u (h:u<J t) a,u<aI (ah t) u a:=λu h a=>tZ (by simpa using h);have hl:n<J s.b_:=by rw[I.ll];exact Y
 have G:n<J s.ends:=by rw[I.le];exact Y
 have S:aV (t.map (·.label)) n=t[n].label:=by unfold aV;simp[fQ,Y]
 have U:(rowAt (lay (ah t)).rows n).map (aV s.b_)=(bA t[n].kids).map λa=>aV s.b_ (aI (ah t) n a):=by rw[Z,iZ];rfl
 have W:∀(x:Nat) u (h:u<J t),n<=u->((bA t[u].kids).map λa=>aV (s.b_.set n x) (aI (ah t) u a))=(bA t[u].kids).map λa=>aV s.b_ (aI (ah t) u a):=by intro x u h h';refine kj λa _=>?_;have:=R u h a;rw[Jq hl,ao byA]
 refine⟨?_,?_,?_,?_,?_,?_,?_,?_,?_⟩
 .simp[nN,I.le]
 .simp[nN,I.ll]
 .simp[nN,I.lk]
 .simp[nN,I.lb]
 .intro u h h';simp only[nN];rw[Jq G];by_cases q:u=n
  .subst q;rw[aD rfl,Z];have P:pa (ah t) u 1=aI (ah t) u t[u].kids:=by rw[<-mq Y];exact(vO K).symm
   rcases wg t[u].kids with z|z
   .rw[z]at P ⊢;simp only[aeT,mO,List.getLast?_nil];rw[P];unfold aI;rw[ao byA,nH byA]
   .obtain⟨m,M⟩:∃m,t[u].kids=m+1:=⟨t[u].kids-1,byA⟩;have H:((bA t[u].kids).map (aI (ah t) u)).getLast? = O (aI (ah t) u m):=by rw[M,kL,dw];simp
    rw[H];simp only;have Q:=T m byA;rw[I.ends _ byA Q.2,P,M,k7 byA]
  .rw[ao q];exact I.ends u byA h'
 .intro u h h';simp only[nN];rw[W _ u h h',Jq hl];by_cases q:u=n
  .subst q;rw[aD rfl,U,S];exact Z_ _ _
  .rw[ao q];exact aaa (I.b_ u h byA)
 .intro u h h';simp only[nN];rw[W _ u h h',oj (by rw[I.lk];exact Y)];by_cases q:u=n
  .subst q;rw[aD rfl,U]
  .rw[ao q];exact I.dc u h byA
 .intro u h h';simp only[nN];rw[oj (by rw[I.lb];exact Y)];by_cases q:u=n
  .subst q;rw[aD rfl,Z,iZ];rfl
  .rw[ao q];exact I.eE u h byA
 .refine I.seen.put _ λx hx=>?_;rw[Z]at hx;simp only[iZ,kM,iB,J_]at hx;obtain⟨a,ha,rfl⟩:=hx;have Q:=T a ha;exact QJ I.seen (I.b_ _ Q.2 byA)
theorem FJ(w:whole 1 t=true):∀{m:Nat},m<=J t->yJ t (J t-m) (oB (t.map (·.label)) (lay (ah t)).rows (J t) m)
 |0,_=>Z4 t
 |m+1,h=>by
  have e:J t-(m+1)=J t-1-m:=by lia
  rw[e];refine Z3 w byA ?_;have e2:J t-1-m+1=J t-m:=by lia
  rw[e2];exact FJ w byA
def marks(t:List aO):M5:=mark (t.map (·.label)) (lay (ah t)).rows (J t)
theorem i9(w:whole 1 t=true):yJ t 0 (marks t):=by
 have:=FJ w (aU (J t))
 rwa [TU]at this
def fN(t:List aO)(u:Nat):Nat:=aV (marks t).b_ u
theorem Gr(w:whole 1 t=true):∀(m u v:Nat),J t-u<=m->u<J t->v<J t->(fN t u=fN t v↔cA t u 1=cA t v 1)
 |0,u,v,h,W,hv=>by lia
 |m+1,u,v,h,W,hv=>by
  have I:=i9 w;have B:dz 1 (ah t)=true:=by rw[<-mQ];exact w
  have z:u<J (ah t):=by simpa using W
  have A:v<J (ah t):=by simpa using hv
  have M:=I.b_ u W (cI _);have F:=I.b_ v hv (cI _);have S:∀x (hx:x<J t) a,a<t[x].kids->aI (ah t) x a=pa (ah t) (x+1) a/\x<pa (ah t) (x+1) a/\pa (ah t) (x+1) a<J t:=by
   intro x hx a ha;have K:x<J (ah t):=by simpa using hx
   have e:aI (ah t) x a=pa (ah t) (x+1) a:=by unfold aI;rw[ao byA]
   refine⟨e,?_,?_⟩
   .rw[<-e];exact tZ K
   .have:=jW B (u:=x) byA (by rw[mq hx];exact ha);rw[e]at this;simpa using this
  have L:((t[u].label,(bA t[u].kids).map λa=>aV (marks t).b_ (aI (ah t) u a)):fK)=(t[v].label,(bA t[v].kids).map λa=>aV (marks t).b_ (aI (ah t) v a))↔cA t u 1=cA t v 1:=by
   rw[Ad W,Ad hv];constructor
   .intro e;have e1:=fq (·.1) e;have e2:=fq (·.2) e;simp only at e2;have U:t[u].kids=t[v].kids:=by simpa using fq yQ e2
    have T:t[u]=t[v]:=by cases y:t[u];cases H:t[v];rw[y]at e1 U;rw[H]at e1 U;simp only at e1 U;rw[e1,U]
    rw[T];congr 1;have R:=Bu w W;have G:=Bu w hv;rw[T]at R;rw[D6 byA byA R G];refine kj λa ha=>?_;have Y:a<t[v].kids:=by simpa using ha
    have Z:a<t[u].kids:=by lia
    obtain⟨N,C,O⟩:=S u W a Z;obtain⟨P,D,Q⟩:=S v hv a Y;rw[<-Gr w m _ _ byA O Q];have:=fq (λl:List Nat=>l[a]?) e2;simp only[bM,lz Y,lz Z,kg]at this;rw[N,P]at this;exact bH this
   .intro e;have T:=(wC e).1;have e2:=(wC e).2;have R:=Bu w W;have G:=Bu w hv;rw[D6 byA byA R G]at e2;have U:t[u].kids=t[v].kids:=by rw[T]
    refine JG (by show t[u].label=t[v].label;rw[T]) ?_;rw[U];refine kj λa ha=>?_;have Y:a<t[v].kids:=by simpa using ha
    have Z:a<t[u].kids:=by lia
    obtain⟨N,C,O⟩:=S u W a Z;obtain⟨P,D,Q⟩:=S v hv a Y;rw[N,P];refine(Gr w m _ _ byA O Q).mpr ?_;have:=fq (λl:List (List aO)=>l[a]?) e2;simp only[bM,lz Y,lz Z,kg]at this;exact bH this
  rw[<-L];constructor
  .intro e;have E:=Bd M;have s:=Bd F;have r:aV (marks t).b_ u=aV (marks t).b_ v:=e;rw[r]at E;exact I.seen.inj E s
  .intro e;rw[e,F]at M;exact(bH M).symm
theorem like_eq(w:whole 1 t=true)(Z:u<J t)(hv:v<J t):fN t u=fN t v↔cA t u 1=cA t v 1:=Gr w (J t) u v byA Z hv
def nO(t:List aO)(i j:Nat):List Nat:=(bA j).map λa=>fN t (pa (ah t) i a)
omit [aW] in
theorem pK(hi:i<=J t)(h:cW t i j)(ha:a<j):pa (ah t) i a<J t:=by
 obtain⟨K,U,Y⟩:=h;rw[mQ,oK]at Y;have Z:=Dr _ _ a Y byA;have W:=@IW (ah t) i a (by simpa using hi);rw[<-W]at Z;rcases cY (pa (ah t) i a) (J t) with q|q
 .exact q
 .exact absurd (wB (by simpa using q)) Z
theorem aah(w:whole 1 t=true)(hi:i<=J t)(Y:i'<=J t)(h:cW t i j)(h':cW t i' j'):nO t i j=nO t i' j'↔cA t i j=cA t i' j':=by
 rw[D6 hi Y h h'];unfold nO;constructor
 .intro e;have W:j=j':=by simpa using fq yQ e
  subst W;refine kj λa ha=>?_;have Z:a<j:=by simpa using ha
  have:=fq (λl:List Nat=>l[a]?) e;simp only[bM,lz Z,kg]at this;exact(like_eq w (pK hi h Z) (pK Y h' Z)).mp (bH this)
 .intro e;have W:j=j':=by simpa using fq yQ e
  subst W;refine kj λa ha=>?_;have Z:a<j:=by simpa using ha
  have:=fq (λl:List (List aO)=>l[a]?) e;simp only[bM,lz Z,kg]at this;exact(like_eq w (pK hi h Z) (pK Y h' Z)).mpr (bH this)
end Hs
end
section
namespace Hs
open Sh
theorem jQ(l:List aF):cZ 0 l=l:=by cases l<;>rfl
theorem sY(k:Nat):cZ k []=[]:=by cases k<;>rfl
theorem Na(l:List aF)(j k:Nat):cZ (j+k) l=cZ k (cZ j l):=by
 induction l generalizing j with
 |nil=>simp[sY]
 |cons n r Z=>
  cases j with
  |zero=>simp[jQ]
  |succ j=>
   have e:j+1+k=(j+k)+1:=by lia
   rw[e];show cZ (j+k+n.kids) r=cZ k (cZ (j+n.kids) r);rw[<-Z];congr 1;lia
theorem sZ:∀(l:List aF)(k:Nat),J (cZ k l)<=J l
 |[],k=>by simp[sY]
 |n::r,0=>by simp[jQ]
 |n::r,k+1=>by have:=sZ r (k+n.kids);show(cZ (k+n.kids) r).length<=_;simp;lia
def cy:Nat->Nat->List aF->List aF
 |0,_,_=>[]
 |_,0,_=>[]
 |_,_+1,[]=>[]
 |f+1,m+1,q::r=>q::cy f m (cZ q.kids r)
def jY:aF->Bool
 |.row _=>true
 |_=>false
theorem uY(f:Nat)(p:List aF):cy f 0 p=[]:=by cases f<;>rfl
theorem uX(f m:Nat):cy f m []=[]:=by cases f<;>cases m<;>rfl
theorem s_:∀(f g m:Nat)(p:List aF),J p<=f->J p<=g->cy f m p=cy g m p
 |f,g,m,[],_,_=>by rw[uX,uX]
 |f,g,0,_,_,_=>by rw[uY,uY]
 |0,g,m+1,q::r,h,_=>by simp at h
 |f+1,0,m+1,q::r,_,h=>by simp at h
 |f+1,g+1,m+1,q::r,h,h'=>by have:=sZ r q.kids;simp at h h';show q::_=q::_;rw[s_ f g m _ byA byA]
theorem Bg:∀(f m:Nat)(p:List aF),xW f m p=((cy f m p).countP (λq=>!jY q),(cy f m p).any jY)
 |0,m,p=>by cases m<;>cases p<;>rfl
 |f+1,0,p=>by cases p<;>rfl
 |f+1,m+1,[]=>rfl
 |f+1,m+1,q::r=>by
  cases q with
  |row h=>show((xW f m r).1,true)=_;rw[Bg f m r];show _=((ie h::cy f m (cZ 0 r)).countP _,_);rw[jQ];simp[jY,cy,Cg,jQ]
  |one h=>show((xW f m r).1+1,(xW f m r).2)=_;rw[Bg f m r];show _=((dN h::cy f m (cZ 0 r)).countP _,_);rw[jQ];simp[jY,cy,Cg,jQ]
  |node x c=>show((xW f m (cZ c r)).1+1,(xW f m (cZ c r)).2)=_;rw[Bg f m _];simp[jY,cy,Cg]
def cost(w:ia):aF->Nat
 |.row h=>match eu w h with
  |some f=>f.count
  |none=>0
 |_=>1
def lO(w:ia)(l:List aF):Nat:=(l.map (cost w)).sum
def vz(w:ia):List aF->List (Nat×Nat)->Prop
 |_,[]=>True
 |p,(m,k)::r=>k=lO w (cy (J p) m p)/\vz w (cZ m p) r
theorem EU:∀{l Z:List (Nat×Nat)}{p:List aF},fZ l=O Z->vz w p Z->vz w p l
 |[],Z,p,h,h'=>trivial
 |(0,0)::l,Z,p,h,h'=>by
  refine⟨?_,?_⟩
  .rw[uY];rfl
  .rw[jQ];exact EU h h'
 |(0,k+1)::l,Z,p,h,h'=>by cases h
 |(m+1,k)::l,Z,p,h,h'=>by
  have:(m+1,k)::l=Z:=by simpa [fZ]using h
  rw[this];exact h'
def sumK(l:List (Nat×Nat)):Nat:=(l.map (·.2)).sum
theorem xo:∀{l Z:List (Nat×Nat)},fZ l=O Z->sumK Z=sumK l
 |[],Z,h=>by
  have:Z=[]:=by simpa [fZ]using h.symm
  rw[this]
 |(0,0)::l,Z,h=>by have:=xo (l:=l) h;rw[this];simp[sumK]
 |(0,k+1)::l,Z,h=>by cases h
 |(m+1,k)::l,Z,h=>by
  have:(m+1,k)::l=Z:=by simpa [fZ]using h
  rw[this]
def GoodW(t:List aO)(b:ia):Prop:=∀f∈b,f.at_<=J t/\cW t f.at_ f.count
theorem cW.mono(h:cW t i j)(Y:k<=j):cW t i k:=by obtain⟨K,W,Z⟩:=h;exact⟨K,byA,Z⟩
theorem nL(e:eu b h=O f):f∈b/\f.hole=h:=by refine⟨aeY e,?_⟩;have:=Uk e;simpa using this
theorem uc(e:eG t b f=O d):∃x,d=b++x:=by
 unfold eG at e;split at e
 .exact⟨[f],(bH e).symm⟩
 .split at e
  .exact⟨[],by simpa using(bH e).symm⟩
  .cases e
theorem vB(e:eu b h=O f):eu (b++x) h=O f:=by unfold eu at *;rw[CH,e];rfl
theorem EV(e:eu b h=U):eu (b++x) h=eu x h:=by unfold eu at *;rw[CH,e];rfl
theorem rS(hb:GoodW t b)(W:f.at_<=J t)(Y:cW t f.at_ f.count)(e:eG t b f=O d):GoodW t d:=by
 unfold eG at e;split at e
 .have:=bH e;subst this;intro g Z;rcases kh.mp Z with q|q
  .exact hb g q
  .simp at q;subst q;exact⟨W,Y⟩
 .split at e
  .have:=bH e;subst this;exact hb
  .cases e
theorem RZ(hb:GoodW t b)(R:cW t f.at_ f.count)(e:eG t b f=O d):∃g,eu d f.hole=O g/\g.count=f.count:=by
 unfold eG at e;split at e
 .rename_i S;have:=bH e;subst this;refine⟨f,?_,Y⟩;rw[EV S];unfold eu;simp
 .rename_i g W;split at e
  .rename_i T;have:=bH e;subst this;refine⟨g,W,?_⟩;have Z:=qd (hb g (nL W).1).2;have U:=qd R;rw[T]at Z;exact Dm Z U
  .cases e
theorem Rz(hi:i<=J t)(h:cW t i (k+1)):i<J t:=by
 have:=pK (a:=0) hi h byA
 rwa [nH (by simpa using hi)]at this
theorem Bv(hi:i<J t)(h:cW t i (k+1)):cW t (i+1) (t[i].kids+k):=by obtain⟨K,Y,Z⟩:=h;obtain⟨K,rfl⟩:∃j,K=j+1:=⟨K-1,byA⟩;rw[kr hi]at Z;exact⟨K+t[i].kids,byA,Z⟩
theorem pq:pa (ah t) i k<=J t:=by have:pa (ah t) i k<=J (ah t):=tM;simpa using this
theorem A3(h:j∈tU p m k):j<=k:=by
 unfold tU at h;simp only at h;split at h
 .simp at h
 .split at h
  .simp at h;lia
  .simp at h;lia
theorem zN:∀{p:List aF}{l:List (Nat×Nat)}{i:Nat}{b w:ia},i<=J t->cW t i (sumK l)->GoodW t b->w∈ways t p l i b ->
 vz w p l/\(∃x,w=b++x)/\GoodW t w
 |[],l,i,b,w,hi,T,hb,Z=>by
  unfold ways at Z;split at Z
  .rename_i L;have:w=b:=by simpa using Z
   subst this;exact⟨EU L trivial,⟨[],byB⟩,hb⟩
  .simp at Z
 |q::p,l,i,b,w,hi,T,hb,Z=>by
  unfold ways at Z;split at Z
  .rename_i m k r L;have R:=xo L;rw[<-R]at T;have S:sumK ((m+1,k)::r)=k+sumK r:=by simp[sumK]
   rw[S]at T;suffices vz w (q::p) ((m+1,k)::r)/\(∃x,w=b++x)/\GoodW t w from⟨EU L this.1,this.2⟩;cases q with
   |node x c=>
    simp only at Z;split at Z
    .rename_i n K;split at Z
     .simp at Z
     .rename_i D;have C:k≠0:=λz=>D (.inl z);obtain⟨k,rfl⟩:∃j,k=j+1:=⟨k-1,byA⟩;have Q:i<J t:=by
       rcases cY i (J t) with z|z
       .exact z
       .rw[fP z]at K;cases K
      rw[aX Q]at K;have G:=bH K;have e1:k+1+sumK r=(k+sumK r)+1:=by lia
      rw[e1]at T;have Y:=Bv Q T;rw[G]at Y;have e2:sumK ((c,n.kids)::(m,k+1-1)::r)=n.kids+(k+sumK r):=by simp[sumK]
      obtain⟨⟨I,N,v⟩,hx,P⟩:=zN byA (by rw[e2];exact Y) hb Z;refine⟨⟨?_,?_⟩,hx,P⟩
      .show k+1=lO w (cy (J p+1) (m+1) (qL x c::p));have M:cy (J p+1) (m+1) (qL x c::p)=qL x c::cy (J (cZ c p)) m (cZ c p):=by show qL x c::cy (J p) m (cZ c p)=_;rw[s_ (J p) (J (cZ c p)) m _ (sZ _ _) (aU _)]
       rw[M];have W:=N;simp only[lO,bL,eN,cost];unfold lO at W;lia
      .show vz w (cZ (m+c) p) r
       rwa [wh m c,Na]
    .simp at Z
   |one h=>
    simp only at Z;split at Z
    .simp at Z
    .rename_i C;obtain⟨k,rfl⟩:∃j,k=j+1:=⟨k-1,byA⟩;split at Z
     .rename_i d hd;have e1:k+1+sumK r=(1+(k+sumK r)):=by lia
      have U:cW t i 1:=T.mono byA;have Y:cW t (pa (ah t) i 1) (k+sumK r):=T.part hi byA;rw[oZ hi]at Z;have e2:sumK ((m,k+1-1)::r)=k+sumK r:=by simp[sumK]
      obtain⟨⟨I,N⟩,⟨x,hx⟩,P⟩:=zN pq (by rw[e2];exact Y) (rS hb hi U hd) Z;obtain⟨y,H⟩:=uc hd;refine⟨⟨?_,?_⟩,⟨y++x,by rw[hx,H,lT]⟩,P⟩
      .show k+1=lO w (cy (J p+1) (m+1) (dN h::p));have M:cy (J p+1) (m+1) (dN h::p)=dN h::cy (J p) m p:=by show dN h::cy (J p) m (cZ 0 p)=_;rw[jQ]
       rw[M];have W:=I;simp only[lO,bL,eN,cost];unfold lO at W;lia
      .exact N
     .simp at Z
   |row h=>
    simp only[lS]at Z;obtain⟨j,A,Z⟩:=Z;have B:=A3 A;split at Z
    .rename_i d hd;have U:cW t i j:=T.mono byA;have Y:cW t (pa (ah t) i j) (k-j+sumK r):=T.part hi byA;rw[oZ hi]at Z;have e2:sumK ((m,k-j)::r)=k-j+sumK r:=by simp[sumK]
     obtain⟨⟨I,N⟩,⟨x,hx⟩,P⟩:=zN pq (by rw[e2];exact Y) (rS hb hi U hd) Z;obtain⟨y,H⟩:=uc hd;obtain⟨g,E,F⟩:=RZ hb U hd;refine⟨⟨?_,?_⟩,⟨y++x,by rw[hx,H,lT]⟩,P⟩
     .show k=lO w (cy (J p+1) (m+1) (ie h::p));have M:cy (J p+1) (m+1) (ie h::p)=ie h::cy (J p) m p:=by show ie h::cy (J p) m (cZ 0 p)=_;rw[jQ]
      rw[M];have W:=I;have D:cost w (ie h)=j:=by
       have:eu w h=O g:=by rw[hx];exact vB E
       show(match eu w h with|some f=>f.count|none=>0)=j;rw[this];exact F
      simp only[lO,bL,eN,D];unfold lO at W;lia
     .exact N
    .simp at Z
  .simp at Z
theorem ua:∀{p:List aF}{l:List (Nat×Nat)}{i:Nat}{b:ia},RT t p l i b=(ways t p l i b).head?
 |[],l,i,b=>by unfold RT ways;split<;>rfl
 |q::p,l,i,b=>by
  unfold RT ways;split
  .cases q with
   |node x c=>
    simp only;split
    .split
     .rfl
     .exact ua
    .rfl
   |one h=>
    simp only;split
    .rfl
    .split
     .exact ua
     .rfl
   |row h=>
    simp only;rename_i m k r W
    induction tU p m k with
    |nil=>rfl
    |cons j Y Z=>
     rw[ae7,mP,Z,List.head?_append];cases hd:eG t b ⟨h,i,j⟩ with
     |none=>rfl
     |some d=>simp only;rw[ua];cases (ways t p ((m,k-j)::r) (i+J (cA t i j)) d).head?<;>rfl
  .rfl
abbrev aY(p:List aF):List Nat:=p.map (·.kids)
theorem wK:∀(l:List aF)(k:Nat),ir k l=dz k (l.map (·.kids))
 |[],0=>rfl
 |[],k+1=>rfl
 |n::r,0=>rfl
 |n::r,k+1=>by exact wK r _
def cB:List Nat->List Nat
 |0::l=>cB l
 |l=>l
def aZ(p:List aF):Nat->List Nat
 |0=>[1]
 |n+1=>match cB (aZ p n),p[n]? with
  |(m+1)::r,O (.node _ c)=>c::m::r
  |(m+1)::r,O _=>m::r
  |l,_=>l
theorem Ed:∀l:List Nat,(cB l).sum=l.sum
 |[]=>rfl
 |0::l=>by simpa [cB]using Ed l
 |(m+1)::l=>rfl
theorem Ef:∀l:List Nat,cB l=[]\/∃m r,cB l=(m+1)::r
 |[]=>.inl rfl
 |0::l=>by simpa [cB]using Ef l
 |(m+1)::l=>.inr ⟨m,l,rfl⟩
theorem Aj:∀l:List Nat,J (cB l)<=J l
 |[]=>aU _
 |0::l=>by have:=Aj l;simp only[cB,iI];lia
 |(m+1)::l=>aU _
theorem Fz(w:ir 1 p=true):∀{n:Nat},n<=J p->ir (aZ p n).sum (p.drop n)=true
 |0,_=>by simpa [aZ]using w
 |n+1,h=>by
  have Y:=Fz w (n:=n) byA;rw[<-Ed]at Y;have U:n<J p:=by lia
  rw[kr U]at Y;unfold aZ;rw[aX U];rcases Ef (aZ p n) with e|⟨m,r,e⟩
  .rw[e]at Y;simp[ir]at Y;lia
  .rw[e]at Y ⊢;have e1:((m+1)::r).sum=(m+r.sum)+1:=by simp;lia
   rw[e1]at Y;have Z:=Y;cases W:p[n] with
   |node x c=>
    rw[W]at Z;have:(c::m::r).sum=m+r.sum+c:=by simp;lia
    rw[this];exact Z
   |one x=>
    rw[W]at Z;have:(m::r).sum=m+r.sum:=by simp
    rw[this];exact Z
   |row x=>
    rw[W]at Z;have:(m::r).sum=m+r.sum:=by simp
    rw[this];exact Z
theorem nM(w:ir 1 p=true)(h:n<J p):∃m r,cB (aZ p n)=(m+1)::r:=by
 rcases Ef (aZ p n) with e|e
 .have:=Fz w (n:=n) byA;rw[<-Ed,e,kr h]at this;simp[ir]at this;lia
 .exact e
theorem ZK(w:ir 1 p=true):(aZ p (J p)).sum=0:=by
 have:=Fz w (aU _);rw[uC]at this;cases e:(aZ p (J p)).sum with
 |zero=>rfl
 |succ k=>rw[e]at this;simp[ir]at this
theorem u6:∀{l:List Nat}{m:Nat}{r:List Nat},cB l=m::r->l.getLast? = (m::r).getLast?
 |[],m,r,e=>by simp[cB]at e
 |0::l,m,r,e=>by
  simp only[cB]at e;have:=u6 e;cases l with
  |nil=>simp[cB]at e
  |cons y l=>rw[kN];exact this
 |(k+1)::l,m,r,e=>by simp only[cB]at e;rw[e]
theorem A2(w:ir 1 p=true):∀{n:Nat},n<=J p->(aZ p n).getLast? = O (if n=0 then 1 else 0)
 |0,_=>rfl
 |n+1,h=>by
  have W:=A2 w (n:=n) byA;have Y:n<J p:=by lia
  obtain⟨m,r,e⟩:=nM w Y;have e2:=u6 e;rw[W]at e2;unfold aZ;rw[e,aX Y];rw[ao byA];have Z:(m::r).getLast? = O 0:=by
   cases r with
   |nil=>
    have:(if n=0 then 1 else 0)=m+1:=by simpa using e2
    split at this
    .simp;lia
    .lia
   |cons y r=>
    rw[kN]at e2 ⊢;rcases wg n with z|z
    .subst z;have U:[1]=(m+1)::y::r:=e;simp at U
    .rw[ao byA]at e2;exact e2.symm
  cases T:p[n] with
  |node x c=>rw[kN];exact Z
  |one x=>exact Z
  |row x=>exact Z
def needs(cs:List Nat)(rows:List (List Nat))(st:List Nat):List Nat:=st.map λu=>b7 cs u-J (rowAt rows u)
def popped(p:List aF)(n:Nat):List Nat:=jC (aY p) (bD (aY p) n).rows (bD (aY p) n).stack
theorem Fc{cs:List Nat}{rows:List (List Nat)}(Z:∀u,u<=J cs->J (rowAt rows u)<=b7 cs u):∀st:List Nat,(∀u∈st,u<=J cs)->needs cs rows (jC cs rows st)=cB (needs cs rows st)
 |[],_=>rfl
 |u::st,Y=>by
  have U:=Z u (Y u byB);by_cases q:J (rowAt rows u)=b7 cs u
  .have e:jC cs rows (u::st)=jC cs rows st:=by show(if _ then _ else _)=_;rw[aD q]
   rw[e,Fc Z st λx hx=>Y x (dR _ hx)];show _=cB ((b7 cs u-J (rowAt rows u))::needs cs rows st);have:b7 cs u-J (rowAt rows u)=0:=by lia
   rw[this];rfl
  .have e:jC cs rows (u::st)=u::st:=by show(if _ then _ else _)=_;rw[ao q]
   rw[e];show(b7 cs u-J (rowAt rows u))::needs cs rows st=cB ((b7 cs u-J (rowAt rows u))::needs cs rows st);obtain⟨j,W⟩:∃j,b7 cs u-J (rowAt rows u)=j+1:=⟨b7 cs u-J (rowAt rows u)-1,byA⟩;rw[W];rfl
theorem kF(w:ir 1 p=true):dz 1 (aY p)=true:=by rw[<-wK];exact w
theorem g_:J (aY p)=J p:=by simp
theorem LF(h:n<J p):b7 (aY p) n=p[n].kids:=by rw[zO (by simpa using h)];simp
theorem B7(w:ir 1 p=true)(P:n<J p):∃u st,popped p n=u::st/\u<=J p/\(lay (aY p)).above[n]?=O u/\(lay (aY p)).places[n]?=O (J (rowAt (bD (aY p) n).rows u)) /\
 (J (rowAt (bD (aY p) n).rows u))<b7 (aY p) u/\iE (aY p) (bD (aY p) n).rows u st/\aI (aY p) u (J (rowAt (bD (aY p) n).rows u))=n:=by
 have W:=kF w;have N:n<J (aY p):=by simpa using P
 have I:=tY W (n:=n) byA;obtain⟨u,st,e,E,U,Q⟩:=I.top;obtain⟨v,st',G,H,K,L,M,B,C⟩:=EF W N I.le st u U Q;have T:popped p n=v::st':=by unfold popped;rw[e];exact G
 have Y:∀k,n+1+k<=J (aY p)->(bD (aY p) (n+1+k)).above[n]?=O v/\(bD (aY p) (n+1+k)).places[n]?=O (J (rowAt (bD (aY p) n).rows v)):=by
  intro k
  induction k with
  |zero=>intro _;rw[Co,vL];unfold pG;have:jC (aY p) (bD (aY p) n).rows (bD (aY p) n).stack=v::st':=T;rw[this];simp only[ae1];rw[kq (by rw[I.la];exact aU _),kq (by rw[I.lp];exact aU _),I.la,I.lp];simp
  |succ k R=>
   intro h;have D:=R byA;have S:=tY W (n:=n+1+k) byA;have e2:n+1+(k+1)=(n+1+k)+1:=by lia
   rw[e2,vL];unfold pG
   rwa [fJ (by rw[S.la];lia),fJ (by rw[S.lp];lia)]
 have Z:=Y (J (aY p)-(n+1)) byA;have F:n+1+(J (aY p)-(n+1))=J (aY p):=by lia
 rw[F]at Z;exact⟨v,st',T,by simpa using H,Z.1,Z.2,L,M,K⟩
theorem Fd(w:ir 1 p=true):∀{n:Nat},n<J p->needs (aY p) (bD (aY p) n).rows (popped p n)=cB (aZ p n)
 |0,h=>by
  unfold popped bD;simp only[aeT,List.foldl_nil];rw[Fc (QU (kF w)).le _ (by intro u N;simp[lM]at N;simp;lia)];congr 1;have G:rowAt (lM (aY p)).rows (J (aY p))=[]:=by unfold rowAt lM;simp
  show [b7 (aY p) (J (aY p))-J (rowAt (lM (aY p)).rows (J (aY p)))]=[1];rw[G,wM];rfl
 |n+1,h=>by
  have O:=kF w;have W:n<J p:=by lia
  have I:=tY O (n:=n) byE;have E:=tY O (n:=n+1) byE;have S:=Fd w W;obtain⟨u,st,L,N,_,_,F,M,P⟩:=B7 w W;obtain⟨m,r,e⟩:=nM w W;rw[L,e]at S;have D:=(wC S).1;have H:=(wC S).2;have K:bD (aY p) (n+1)=⟨(bD (aY p) n).rows.set u (rowAt (bD (aY p) n).rows u++[n]),(bD (aY p) n).above++[u],(bD (aY p) n).places++[J (rowAt (bD (aY p) n).rows u)],n::u::st⟩:=by rw[vL];unfold pG;have:jC (aY p) (bD (aY p) n).rows (bD (aY p) n).stack=u::st:=L;rw[this];rfl
  have Y:u<J (bD (aY p) n).rows:=by rw[I.lr];simp;lia
  have Q:n≠u:=by intro z;subst z;have:=I.new n (aU _) (by simpa using W);have Z:=P;rw[this]at Z;unfold aI at Z;rw[ao byE]at Z;have:=@pA (aY p) (n+1) 0 byE;simp at Z;lia
  have R:needs (aY p) (bD (aY p) (n+1)).rows (n::u::st)=p[n].kids::m::r:=by
   rw[K];simp only[needs,bL];rw[oj Y,ao Q,I.new n (aU _) (by simpa using W),LF W,oj Y,aD rfl,fO,yO];congr 1;congr 1
   .lia
   .rw[<-H];refine kj λx hx=>?_;have:=M.lt x hx;rw[oj Y,ao byA]
  have T:∀x∈n::u::st,x<=J (aY p):=by
   intro x hx;rcases bE.mp hx with q|q
   .subst q;simp;lia
   .exact M.mem x q
  have U:needs (aY p) (bD (aY p) (n+1)).rows (popped p (n+1))=cB (p[n].kids::m::r):=by
   unfold popped;have:(bD (aY p) (n+1)).stack=n::u::st:=by rw[K]
   rw[this,Fc E.le _ T,R]
  rw[U]
  conv=>rhs;unfold aZ
  rw[e,aX W];cases C:p[n] with
  |node x c=>rfl
  |one x=>rfl
  |row x=>rfl
theorem YR(w:ir 1 p=true)(U:n<J p)(e:cB (aZ p n)=(m+1)::r):∃u j,(lay (aY p)).above[n]?=O u/\(lay (aY p)).places[n]?=O j/\u<=J p/\b7 (aY p) u=j+1+m/\aI (aY p) u j=n:=by obtain⟨u,st,S,T,ha,Z,R,P,Y⟩:=B7 w U;have W:=Fd w U;rw[S,e]at W;have Q:=(wC W).1;exact⟨u,_,ha,Z,T,byA,Y⟩
def dep(p:List aF)(n:Nat):Nat:=J (popped p n)
theorem yb(w:ir 1 p=true)(Z:n<J p):dep p n=J (cB (aZ p n)):=by rw[<-Fd w Z];unfold dep needs;simp
theorem EG{cs:List Nat}{rows:List (List Nat)}:∀st:List Nat,∃x,st=x++jC cs rows st
 |[]=>⟨[],rfl⟩
 |u::st=>by
  by_cases q:J (rowAt rows u)=b7 cs u
  .have e:jC cs rows (u::st)=jC cs rows st:=by show(if _ then _ else _)=_;rw[aD q]
   obtain⟨x,hx⟩:=EG st;exact⟨u::x,by rw[e,CM,<-hx]⟩
  .have e:jC cs rows (u::st)=u::st:=by show(if _ then _ else _)=_;rw[ao q]
   exact⟨[],by rw[e];rfl⟩
theorem So{p:List aF}(w:ir 1 p=true):∀{n:Nat},n<=J p->∀x u st,(bD (aY p) n).stack=x++u::st->u<J p->J st=dep p u
 |0,_,x,u,st,e,Y=>by
  have S:[J (aY p)]=x++u::st:=e;have:u∈[J (aY p)]:=by rw[S];simp
  simp at this;lia
 |n+1,h,x,u,st,e,Y=>by
  have U:n<J p:=by lia
  obtain⟨v,st',R,_⟩:=B7 w U;have T:(bD (aY p) (n+1)).stack=n::popped p n:=by rw[vL];rfl
  rw[T]at e;cases x with
  |nil=>have e1:=wC e;rw[<-e1.2,<-e1.1];rfl
  |cons y x=>have e1:popped p n=x++u::st:=(wC e).2;obtain⟨z,W⟩:=EG (bD (aY p) n).stack;have Z:(bD (aY p) n).stack=z++popped p n:=W;rw[e1,<-lT]at Z;exact So w byA _ u st Z Y
theorem adp{p:List aF}(w:ir 1 p=true){n:Nat}(Q:n<J p)(M:0<n):∃u,(lay (aY p)).above[n]?=O u/\u<n/\dep p n=dep p u+1:=by
 obtain⟨u,st,S,P,ha,R,T,N,Z⟩:=B7 w Q;have W:u<J p:=by
  rcases cY u (J p) with q|q
  .exact q
  .have:u=J (aY p):=by simp;lia
   subst this;rw[wM]at T;have U:J (rowAt (bD (aY p) n).rows (J (aY p)))=0:=by lia
   rw[U]at Z;unfold aI at Z;rw[aD rfl,nH byA]at Z;lia
 have hun:u<n:=by have:=@tZ (aY p) u (J (rowAt (bD (aY p) n).rows u)) (by simpa using W);lia
 refine⟨u,ha,hun,?_⟩;obtain⟨z,U⟩:=EG (bD (aY p) n).stack;have Y:(bD (aY p) n).stack=z++popped p n:=U;rw[S]at Y;have:=So w byA z u st Y W;unfold dep at this ⊢;rw[S,iI,this]
theorem ado(w:ir 1 p=true)(Z:0<J p):dep p 0=1:=by rw[yb w Z];rfl
section
variable[aW]
inductive HV where
 |az
 |one (n:Nat)
 |row (l:List Nat)
 deriving DecidableEq
def iw:aF->Option Nat
 |.node _ _=>U
 |.one h=>O h
 |.row h=>O h
def dJ(h:Nat)(q:aF):Bool:=iw q==O h
def met(p:List aF)(a h:Nat):Bool:=(p.take a).any (dJ h)
def more(p:List aF)(a h:Nat):Bool:=(p.drop a).any (dJ h)
def twice(p:List aF)(h:Nat):Bool:=decide (2<=p.countP (dJ h))
def mD(acc:List Nat)(h:Nat):List Nat:=if h∈acc then acc else acc++[h]
def iy(p:List aF):List Nat:=(p.filterMap iw).foldl mD []
def mR(p:List aF):List Nat:=(iy p).filter (twice p)
def fu(p:List aF)(h:Nat):Option Nat:=if twice p h=true then O ((mR p).idxOf h) else U
def hold(p:List aF)(held:List HV)(a h:Nat)(v:HV):Option (List HV):=match fu p h with
 |none=>O held
 |some s=>if held.getD s .az≠.az/\held.getD s .az≠v then U else O (held.set s (if more p (a+1) h=true then v else .az))
def cQ(t:List aO)(u:Nat):List Nat:=rowAt (lay (ah t)).rows u
def ab(t:List aO)(u:Nat):Nat:=aV (lay (ah t)).above u
def pl(t:List aO)(u:Nat):Nat:=aV (lay (ah t)).places u
def jV(t:List aO)(u:Nat):Nat:=aV (t.map (·.label)) u
def iK(t:List aO):Nat->Nat->Nat->Option (Nat×Nat)
 |0,nd,ix=>O (nd,ix)
 |k+1,nd,ix=>if ix≠J (cQ t nd) then U else iK t k (ab t nd) (pl t nd+1)
def eV(p:List aF)(a:Nat):Nat:=if a<J p then(aZ p a).length-J (cB (aZ p a)) else(aZ p a).length-1
structure Spot where
 at_:Nat
 node:Nat
 index:Nat
 held:List HV
 deriving DecidableEq
def dU(t:List aO)(nd ix:Nat):Nat:=aV (cQ t nd) ix
def walk(t:List aO)(p:List aF)(target:Nat):Nat->Spot->Option Spot
 |0,_=>U
 |f+1,⟨a,qz,qA,held⟩=>match iK t (eV p a) qz qA with
  |none=>U
  |some (nd,ix)=>if a=target then O ⟨a,nd,ix,held⟩ else match p[a]? with
   |none=>O ⟨a,nd,ix,held⟩
   |some (.row _)=>O ⟨a,nd,ix,held⟩
   |some (.one h)=>if ix=J (cQ t nd) then U else match hold p held a h (.one (fN t (dU t nd ix))) with
    |none=>U
    |some hd=>walk t p target f ⟨a+1,nd,ix+1,hd⟩
   |some (.node x _)=>if ix=J (cQ t nd) then U else if x=jV t (dU t nd ix) then walk t p target f ⟨a+1,dU t nd ix,0,held⟩ else U
def j3:HV->Nat
 |.row l=>J l
 |_=>0
def dM(p:List aF)(a:Nat):List Pat:=cy (J p) ((cB (aZ p a)).headD 1-1) (p.drop (a+1))
def eU(p:List aF)(held:List HV)(h:Nat):HV:=match fu p h with
 |some s=>held.getD s .az
 |none=>.az
def dc(t:List aO)(u:Nat):List Nat:=rowAt (marks t).dc u
def eE(t:List aO)(u:Nat):List Nat:=rowAt (marks t).eE u
def seg(p:List aF)(a:Nat):List Pat:=(dM p a).takeWhile λq=>!jY q
def jR(t:List aO)(p:List aF)(q:aF)(nd ix:Nat)(held:List HV)(ls:List Nat):List Nat:=match q with
 |.node x _=>ls.filter λj=>aV (eE t nd) (ix+j)==x
 |.one g=>match eU p held g with
  |.az=>ls
  |v=>ls.filter λj=>HV.one (aV (dc t nd) (ix+j))==v
 |_=>ls
def lF(t:List aO)(p:List aF):List aF->Nat->Nat->List HV->List Nat->List Nat
 |[],_,_,_,ls=>ls
 |q::qs,nd,ix,held,ls=>lF t p qs nd (ix+1) held (jR t p q nd ix held ls)
def known(p:List aF)(a h:Nat):List Nat:=((cj (dM p a)).filter (· != h)).filter (met p a)
def qm(p:List aF)(a h:Nat):Bool:=decide (J (known p a h)=J ((cj (dM p a)).filter (· != h)))
def jy(p:List aF)(a:Nat):Nat:=J (dM p a)-J (cj (dM p a))
def times(p:List aF)(a h:Nat):Nat:=1+(cj (dM p a)).count h
def dY(t:List aO)(p:List aF)(h:Nat)(s:Spot):Int:=(J (cQ t s.node):Int)-s.index-jy p s.at_-(((known p s.at_ h).map λg=>j3 (eU p s.held g)).sum:Nat)
def lens(t:List aO)(p:List aF)(h:Nat)(s:Spot):List Nat:=
 if met p s.at_ h=true then [j3 (eU p s.held h)]
 else if qm p s.at_ h=true then(if dY t p h s<0\/dY t p h s%(times p s.at_ h:Nat)≠0 then [] else [(dY t p h s/(times p s.at_ h:Nat)).toNat])
 else lF t p (seg p s.at_) s.node s.index s.held (bA (dY t p h s/(times p s.at_ h:Nat)+1).toNat)
def choice(t:List aO)(p:List aF)(h:Nat)(s:Spot)(j:Nat):Option Spot:=
 (hold p s.held s.at_ h (.row (((dc t s.node).drop s.index).take j))).map λhd=>⟨s.at_+1,s.node,s.index+j,hd⟩
def ee(t:List aO)(p:List aF)(h:Nat)(s:Spot):List Spot:=(lens t p h s).filterMap (choice t p h s)
def fz(t:List aO)(p:List aF)(target:Nat)(s:Spot):Option Spot:=walk t p target (J p+1-s.at_) s
def lE(t:List aO)(p:List aF):Nat->Spot->Nat
 |0,_=>0
 |f+1,s=>match fz t p (J p) s with
  |none=>0
  |some z=>match p[z.at_]? with
   |some (.row h)=>((ee t p h z).map (lE t p f)).sum
   |_=>1
def begin(t:List aO)(p:List aF)(u:Nat):Spot:=⟨0,ab t u,pl t u,cu (J (mR p)) .az⟩
end
theorem jO(w:whole 1 t=true):dz 1 (ah t)=true:=by rw[<-mQ];exact w
theorem qU(w:whole 1 t=true)(hv:v<J t):ab t v<=J t/\aI (ah t) (ab t v) (pl t v)=v/\pl t v<b7 (ah t) (ab t v):=by
 have L:=mY (jO w);have ha:(lay (ah t)).above[v]?=O (ab t v):=by unfold ab aV;rw[fQ];rw[aX (by rw[L.la];simpa using hv)];rfl
 have W:(lay (ah t)).places[v]?=O (pl t v):=by unfold pl aV;rw[fQ];rw[aX (by rw[L.lp];simpa using hv)];rfl
 have h:=(L.at_ (ab t v) (pl t v) v).mpr ⟨ha,W⟩;have Y:=(L.below _ _ _ h).2;rw[L.row _ Y]at h;rw[bM]at h;cases e:(bA (b7 (ah t) (ab t v)))[pl t v]? with
 |none=>rw[e]at h;cases h
 |some x=>
  rw[e]at h;have Z:pl t v<b7 (ah t) (ab t v):=by
   rcases cY (pl t v) (b7 (ah t) (ab t v)) with q|q
   .exact q
   .rw[fP (by simpa using q)]at e;cases e
  rw[lz Z]at e;have:=bH e;subst this;exact⟨by simpa using Y,bH h,Z⟩
theorem LY(w:whole 1 t=true)(Z:u<=J t):cQ t u=(bA (b7 (ah t) u)).map (aI (ah t) u):=(mY (jO w)).row u (by simpa using Z)
theorem lW(w:whole 1 t=true)(Z:u<=J t):J (cQ t u)=b7 (ah t) u:=by rw[LY w Z];simp
theorem xY(w:whole 1 t=true)(Z:u<=J t)(Y:j<b7 (ah t) u):dU t u j=aI (ah t) u j:=by unfold dU aV;rw[LY w Z,fQ,bM,lz Y];rfl
def ic(t:List aO)(base:Nat):List Nat->Nat->Nat->Prop
 |[],_,_=>False
 |[k],nd,ix=>nd=ab t base/\((k=1/\ix=pl t base)\/(k=0/\ix=pl t base+1))
 |k::k'::ks,nd,ix=>nd<J t/\ix+k=b7 (ah t) nd/\ic t base (k'::ks) (ab t nd) (pl t nd+1)
theorem ic.oz(w:whole 1 t=true)(hb:base<J t):∀{ks:List Nat}{nd ix:Nat},ic t base ks nd ix->nd<=J t/\ix<=b7 (ah t) nd
 |[],nd,ix,h=>h.elim
 |[k],nd,ix,h=>by obtain⟨Y,Z⟩:=h;have:=qU w hb;subst Y;refine⟨this.1,?_⟩;rcases Z with⟨_,h⟩|⟨_,h⟩<;>lia
 |k::W::ks,nd,ix,h=>by obtain⟨Y,Z,U⟩:=h;exact⟨byA,byA⟩
theorem ic.next(h:ic t base ((k+1)::ks) nd ix):ic t base (k::ks) nd (ix+1):=by
 cases ks with
 |nil=>
  obtain⟨Z,Y⟩:=h;refine⟨Z,?_⟩;rcases Y with⟨a,b⟩|⟨a,b⟩
  .right;exact⟨byA,byA⟩
  .lia
 |cons U ks=>obtain⟨Z,Y,W⟩:=h;exact⟨Z,byA,W⟩
theorem ic.move:∀{j k ix:Nat},j<=k->ic t base (k::ks) nd ix->ic t base ((k-j)::ks) nd (ix+j)
 |0,k,ix,_,h=>by simpa using h
 |j+1,k,ix,Z,h=>by
  obtain⟨k,rfl⟩:∃q,k=q+1:=⟨k-1,byA⟩;have:=ic.move (j:=j) byA h.next;have e1:k+1-(j+1)=k-j:=by lia
  have e2:ix+(j+1)=ix+1+j:=by lia
  rw[e1,e2];exact this
theorem ic.there(w:whole 1 t=true)(hb:base<J t)(h:ic t base ((k+1)::ks) nd ix):ix<b7 (ah t) nd:=by
 cases ks with
 |nil=>obtain⟨Y,Z⟩:=h;have:=qU w hb;subst Y;rcases Z with⟨_,q⟩|⟨q,_⟩<;>lia
 |cons W ks=>obtain⟨Y,Z,U⟩:=h;lia
theorem ic.into(w:whole 1 t=true)(hb:base<J t)(h:ic t base ((k+1)::ks) nd ix):
 ic t base (b7 (ah t) (aI (ah t) nd ix)::k::ks) (aI (ah t) nd ix) 0/\aI (ah t) nd ix<J t:=by
 have T:=h.there w hb;have U:=(h.oz w hb).1;have Z:aI (ah t) nd ix<J t:=by have:=jW (jO w) (by simpa using U) T;simpa using this
 obtain⟨N,P,Q⟩:=qU w Z;have L:=mY (jO w);have Y:(rowAt (lay (ah t)).rows nd)[ix]?=O (aI (ah t) nd ix):=by rw[L.row nd (by simpa using U),bM,lz T];rfl
 have W:=(L.at_ nd ix _).mp Y;have R:ab t (aI (ah t) nd ix)=nd:=by unfold ab aV;rw[fQ,W.1];rfl
 have S:pl t (aI (ah t) nd ix)=ix:=by unfold pl aV;rw[fQ,W.2];rfl
 refine⟨⟨Z,byA,?_⟩,Z⟩;rw[R,S];exact h.next
theorem QX(w:whole 1 t=true)(h:nd<J t):aI (ah t) (ab t nd) (pl t nd+1)=aI (ah t) nd (b7 (ah t) nd):=by obtain⟨Y,Z,W⟩:=qU w h;rw[k7 (by simpa using Y),Z,vO (by simpa using h)]
theorem Ec(w:whole 1 t=true)(hb:base<J t):∀{ms ks:List Nat}{nd ix:Nat},J ms=J ks->ic t base ks nd ix->cB ms≠[] ->
 (iK t (J ms-J (cB ms)) nd ix=U/\fZ (ms.zip ks)=U) \/
 (∃jq ix' ks',iK t (J ms-J (cB ms)) nd ix=O (jq,ix')/\fZ (ms.zip ks)=O ((cB ms).zip ks')/\J (cB ms)=J ks'/\ic t base ks' jq ix'/\aI (ah t) jq ix'=aI (ah t) nd ix/\ks'.getLast? = ks.getLast?)
 |[],ks,nd,ix,_,_,h=>absurd rfl h
 |(m+1)::ms,[],nd,ix,hl,_,_=>by simp at hl
 |(m+1)::ms,k::ks,nd,ix,hl,W,h=>by
  right;refine⟨nd,ix,k::ks,?_,Y,hl,W,Y,Y⟩;have:J ((m+1)::ms)-J (cB ((m+1)::ms))=0:=by simp[cB]
  rw[this];rfl
 |0::ms,[],nd,ix,hl,_,_=>by simp at hl
 |0::ms,[k],nd,ix,hl,W,h=>by
  have:ms=[]:=by simpa using hl
  subst this;exact absurd Y h
 |0::ms,k::R::ks,nd,ix,hl,W,h=>by
  obtain⟨G,D,H⟩:=W;have S:cB (0::ms)=cB ms:=rfl;have I:=Aj ms;have e:J (0::ms)-J (cB (0::ms))=(J ms-J (cB ms))+1:=by rw[S];simp;lia
  rw[e,S];rw[S]at h;have Z:J (cQ t nd)=b7 (ah t) nd:=lW w byA;cases k with
  |succ k=>
   left;constructor
   .show(if _ then _ else _)=_;rw[aD (by rw[Z];lia)]
   .rfl
  |zero=>
   have E:iK t (J ms-J (cB ms)+1) nd ix=iK t (J ms-J (cB ms)) (ab t nd) (pl t nd+1):=by show(if _ then _ else _)=_;rw[ao (by rw[Z];lia)]
   have F:fZ ((0::ms).zip (0::R::ks))=fZ (ms.zip (R::ks)):=rfl;rw[E,F];have T:=Ec w hb (by simpa using hl) H h;rcases T with T|⟨jq,ix',ks',K,L,M,N,P,Q⟩
   .exact .inl T
   .right;refine⟨jq,ix',ks',K,L,M,N,?_,?_⟩
    .rw[P,QX w G];congr 1;lia
    .rw[Q,kN]
theorem Ng(w:whole 1 t=true)(hb:base<J t):∀{ms ks:List Nat}{nd ix:Nat},J ms=J ks->ic t base ks nd ix->ms.sum=0->ks.getLast? = O 0 ->
 (iK t (J ms-1) nd ix=U/\fZ (ms.zip ks)=U)\/(∃z,iK t (J ms-1) nd ix=O z/\aI (ah t) z.1 z.2=aI (ah t) nd ix/\fZ (ms.zip ks)=O [])
 |[],[],nd,ix,_,S,_,_=>S.elim
 |[],k::ks,nd,ix,hl,_,_,_=>by simp at hl
 |(m+1)::ms,ks,nd,ix,_,_,W,_=>by simp at W
 |0::ms,[],nd,ix,hl,_,_,_=>by simp at hl
 |0::ms,[k],nd,ix,hl,S,W,T=>by
  have:ms=[]:=by simpa using hl
  subst this;have:k=0:=by simpa using T
  subst this;right;exact⟨(nd,ix),Y,Y,Y⟩
 |0::ms,k::R::ks,nd,ix,hl,S,W,T=>by
  obtain⟨I,F,K⟩:=S;have Z:J (cQ t nd)=b7 (ah t) nd:=lW w byA;have L:1<=J ms:=by simp at hl;lia
  have e:J (0::ms)-1=(J ms-1)+1:=by simp;lia
  rw[e];cases k with
  |succ k=>
   left;constructor
   .show(if _ then _ else _)=_;rw[aD (by rw[Z];lia)]
   .rfl
  |zero=>
   have G:iK t (J ms-1+1) nd ix=iK t (J ms-1) (ab t nd) (pl t nd+1):=by show(if _ then _ else _)=_;rw[ao (by rw[Z];lia)]
   have H:fZ ((0::ms).zip (0::R::ks))=fZ (ms.zip (R::ks)):=rfl;rw[G,H];rw[kN]at T;rcases Ng w hb (by simpa using hl) K (by simpa using W) T with Q|⟨z,M,N,P⟩
   .exact .inl Q
   .right;refine⟨z,M,?_,P⟩;rw[N,QX w I];congr 1;lia
theorem vG(ha:a<J p)(h:Nat):met p (a+1) h=(met p a h || dJ h p[a]):=by unfold met;rw[JV,aX ha,afg];simp
theorem tQ(ha:a<J p)(h:Nat):more p a h=(dJ h p[a] || more p (a+1) h):=by unfold more;rw[kr ha,p_]
theorem Jr{l:List aF}{h:Nat}:l.any (dJ h)=decide (0<l.countP (dJ h)):=by
 cases e:l.any (dJ h) with
 |true=>
  have:∃x∈l,dJ h x=true:=by simpa using e
  exact(bJ (Up.mpr this)).symm
 |false=>symm;apply bP;intro q;obtain⟨x,hx,Z⟩:=Up.mp q;have:=qP.mpr ⟨x,hx,Z⟩;rw[this]at e;cases e
theorem adC{p:List aF}{a:Nat}(ha:a<J p)(h:Nat):p.countP (dJ h)=(p.take a).countP (dJ h)+(if dJ h p[a]=true then 1 else 0)+(p.drop (a+1)).countP (dJ h):=by
 conv=>lhs;rw[<-Cr a p,kr ha]
 rw[afd,CL];lia
theorem DI(ha:a<J p)(W:dJ h p[a]=true):twice p h=(met p a h || more p (a+1) h):=by
 unfold twice met more;rw[Jr,Jr,adC ha h,aD W];by_cases Z:0<(p.take a).countP (dJ h)
 .rw[bJ Z,bJ byA];rfl
 .by_cases Y:0<(p.drop (a+1)).countP (dJ h)
  .rw[bP Z,bJ Y,bJ byA];rfl
  .rw[bP Z,bP Y,bP byA];rfl
theorem ZY:x∈mD acc h↔x∈acc\/x=h:=by
 unfold mD;split
 .constructor
  .exact .inl
  .rintro(q|q)
   .exact q
   .rw[q];assumption
 .simp
theorem QG:∀(l acc:List Nat),x∈l.foldl mD acc↔x∈acc\/x∈l
 |[],acc=>by simp
 |y::l,acc=>by rw[J2,QG l,ZY,bE,or_assoc]
theorem mem_keys:h∈iy p↔∃q∈p,dJ h q=true:=by unfold iy;rw[QG];simp only[fH,false_or,qN,dJ,vW]
theorem LV(e:twice p h=true):h∈mR p:=by refine jk.mpr ⟨mem_keys.mpr ?_,e⟩;have:=pB e;exact Up.mp byA
theorem qZ(e:fu p h=O s):s<J (mR p)/\(mR p)[s]?=O h:=by
 unfold fu at e;split at e
 .rename_i q;have:=bH e;subst this;have Z:=LV q;have hl:=List.idxOf_lt_length_of_mem Z;refine⟨hl,?_⟩;rw[aX hl];congr 1;exact List.getElem_idxOf hl
 .cases e
theorem MY(e:fu p h=O s)(W:fu p h'=O s):h=h':=by have Y:=(qZ e).2;have Z:=(qZ W).2;rw[Y]at Z;exact bH Z
theorem DZ(ha:a<J p)(Z:dJ h p[a]=true):fu p h=U↔met p a h=false/\more p (a+1) h=false:=by unfold fu;rw[DI ha Z];cases met p a h<;>cases more p (a+1) h<;>simp
variable[aW]
def hv(t:List aO)(p:List aF)(f:Fill):HV:=if dN f.hole∈p then .one (fN t f.at_) else .row (nO t f.at_ f.count)
theorem Rl:hv t p f≠.az:=by unfold hv;split<;>simp
def heldOf(t:List aO)(p:List aF)(a h:Nat)(b:ia):HV:=match eu b h with
 |some f=>if more p a h=true then hv t p f else .az
 |none=>.az
structure za(t:List aO)(p:List aF)(a:Nat)(held:List HV)(b:ia):Prop where
 len:J held=J (mR p)
 met:∀h,(eu b h).isSome=met p a h
 ones:∀h f,eu b h=O f->dN h∈p->f.count=1
 val:∀h s,fu p h=O s->held.getD s .az=heldOf t p a h b
omit [aW] in
theorem qD(e:iw q=O h):dJ h q=true:=by unfold dJ;rw[e];simp
omit [aW] in
theorem Ho(e:iw q=O h)(n:h'≠h):dJ h' q=false:=by unfold dJ;rw[e];simp;exact λz=>n z.symm
omit [aW] in
theorem RE{l:List HV}{s s':Nat}{v:HV}(Z:s<J l):(l.set s v).getD s' .az=if s'=s then v else l.getD s' .az:=by
 simp only[fQ,Uh];by_cases e:s'=s
 .subst e;simp[Z]
 .rw[ao (λq=>e q.symm),ao e]
omit [aW] in
theorem vA(n:h≠f.hole):eu (b++[f]) h=eu b h:=by
 unfold eu;rw[CH];cases List.find? (λg=>g.hole==h) b with
 |some g=>rfl
 |none=>simp;exact λz=>n z.symm
omit [aW] in
theorem Hq{t:List aO}{f:Fill}(W:f.at_<=J t)(Z:cW t f.at_ f.count)(Y:f.count=1):f.at_<J t:=by rw[Y]at Z;exact Rz W Z
theorem abm(w:whole 1 t=true)(e:g.hole=f.hole)(Y:f.at_<=J t/\cW t f.at_ f.count)(Z:g.at_<=J t/\cW t g.at_ g.count)
 (cf:dN f.hole∈p->f.count=1) (T:dN f.hole∈p->g.count=1):hv t p g=hv t p f↔cA t g.at_ g.count=cA t f.at_ f.count:=by
 unfold hv;rw[e];by_cases q:dN f.hole∈p
 .rw[aD q,aD q];have U:=cf q;have W:=T q;rw[U,W,<-like_eq w (Hq Z.1 Z.2 W) (Hq Y.1 Y.2 U)];simp
 .rw[ao q,ao q,<-aah w Z.1 Y.1 Z.2 Y.2];simp
theorem Bs{t:List aO}(w:whole 1 t=true){p:List aF}{a:Nat}(ha:a<J p){f:Fill}(D:iw p[a]=O f.hole){held:List HV}{b:ia}(H:za t p a held b)(hb:GoodW t b)
 (x:f.at_<=J t/\cW t f.at_ f.count) (cf:dN f.hole∈p->f.count=1) :
 (hold p held a f.hole (hv t p f)=U/\eG t b f=U)\/(∃hd d,hold p held a f.hole (hv t p f)=O hd/\eG t b f=O d/\za t p (a+1) hd d):=by
 have L:=qD D;have Q:∀h',h'≠f.hole->met p (a+1) h'=met p a h':=λh' n=>by rw[vG ha,Ho D n,Dd]
 have W:∀h',h'≠f.hole->more p a h'=more p (a+1) h':=λh' n=>by rw[tQ ha,Ho D n,zm]
 have T:met p (a+1) f.hole=true:=by rw[vG ha,L,UH]
 have M:more p a f.hole=true:=by rw[tQ ha,L,Lc]
 cases N:eu b f.hole with
 |none=>
  right;have P:eG t b f=O (b++[f]):=by unfold eG;rw[N]
  have R:eu (b++[f]) f.hole=O f:=by rw[EV N];unfold eu;simp
  cases Z:fu p f.hole with
  |none=>
   have y:=(DZ ha L).mp Z;refine⟨held,b++[f],by unfold hold;rw[Z],P,H.len,?_,?_,?_⟩
   .intro h';by_cases n:h'=f.hole
    .subst n;rw[R,T];rfl
    .rw[vA n,Q h' n];exact H.met h'
   .intro h' g K F;by_cases n:h'=f.hole
    .subst n;rw[R]at K;have:=bH K;subst this;exact cf F
    .rw[vA n]at K;exact H.ones h' g K F
   .intro h' s Y;have n:h'≠f.hole:=λz=>by rw[z,Z]at Y;cases Y
    rw[H.val h' s Y];unfold heldOf;rw[vA n,W h' n]
  |some s=>
   have I:=(qZ Z).1;have S:held.getD s .az=.az:=by rw[H.val _ s Z];unfold heldOf;rw[N]
   refine⟨held.set s (if more p (a+1) f.hole=true then hv t p f else .az),b++[f],?_,P,by rw[wu];exact H.len,?_,?_,?_⟩
   .unfold hold;rw[Z];simp only;rw[ao (λz=>z.1 S)]
   .intro h';by_cases n:h'=f.hole
    .subst n;rw[R,T];rfl
    .rw[vA n,Q h' n];exact H.met h'
   .intro h' g K F;by_cases n:h'=f.hole
    .subst n;rw[R]at K;have:=bH K;subst this;exact cf F
    .rw[vA n]at K;exact H.ones h' g K F
   .intro h' s' Y;rw[RE (by rw[H.len];exact I)];by_cases n:h'=f.hole
    .subst n;rw[Z]at Y;have:=bH Y;subst this;rw[aD rfl];unfold heldOf;rw[R]
    .have ns:s'≠s:=λz=>n (by rw[z]at Y;exact MY Y Z);rw[ao ns,H.val h' s' Y];unfold heldOf;rw[vA n,W h' n]
 |some g=>
  obtain⟨C,B⟩:=nL N;have E:met p a f.hole=true:=by rw[<-H.met];rw[N];rfl
  cases Z:fu p f.hole with
  |none=>have:=((DZ ha L).mp Z).1;rw[E]at this;cases this
  |some s=>
   have I:=(qZ Z).1;have S:held.getD s .az=hv t p g:=by rw[H.val _ s Z];unfold heldOf;rw[N];simp only;rw[aD M]
   have G:=abm w B x (hb g C) cf (λq=>H.ones _ g N q);by_cases q:cA t g.at_ g.count=cA t f.at_ f.count
   .right;have A:=G.mpr q;refine⟨held.set s (if more p (a+1) f.hole=true then hv t p f else .az),b,?_,?_,by rw[wu];exact H.len,?_,H.ones,?_⟩
    .unfold hold;rw[Z];simp only;rw[ao (λz=>z.2 (by rw[S];exact A))]
    .unfold eG;rw[N];simp only;rw[aD q]
    .intro h';by_cases n:h'=f.hole
     .subst n;rw[N,T];rfl
     .rw[Q h' n];exact H.met h'
    .intro h' s' Y;rw[RE (by rw[H.len];exact I)];by_cases n:h'=f.hole
     .subst n;rw[Z]at Y;have:=bH Y;subst this;rw[aD rfl];unfold heldOf;rw[N];simp only;rw[A]
     .have ns:s'≠s:=λz=>n (by rw[z]at Y;exact MY Y Z);rw[ao ns,H.val h' s' Y];unfold heldOf;rw[W h' n]
   .left;constructor
    .unfold hold;rw[Z];simp only;rw[aD ⟨by rw[S];exact Rl,by rw[S];exact λz=>q (G.mp z)⟩]
    .unfold eG;rw[N];simp only;rw[ao q]
end Hs
end
section
namespace Hs
open Sh
variable[aW]
structure dX(t:List aO)(p:List aF)(base:Nat)(ms ks:List Nat)(s:Spot)(b:ia):Prop where
 len:J ms=J ks
 tree:ic t base ks s.node s.index
 bot:ms.getLast? = ks.getLast?
 has:cW t (aI (ah t) s.node s.index) ks.sum
 good:GoodW t b
 held:za t p s.at_ s.held b
 le:s.at_<=J p
def dH(t:List aO)(p:List aF)(ms ks:List Nat)(s:Spot)(b:ia):List Way:=ways t (p.drop s.at_) (ms.zip ks) (aI (ah t) s.node s.index) b
omit [aW] in
theorem rM:aI (ah t) u j<=J t:=by unfold aI;split<;>exact pq
omit [aW] in
theorem uS:∀{ms ks:List Nat},J ms=J ks->sumK (ms.zip ks)=ks.sum
 |[],[],_=>rfl
 |m::ms,k::ks,h=>by have:=uS (by simpa using h);simp only[wk,sumK,bL,eN]at this ⊢;rw[this]
 |[],k::ks,h=>by simp at h
 |m::ms,[],h=>by simp at h
omit [aW] in
theorem wH(h:J (m::r)=J ks):∃k ks',ks=k::ks'/\J r=J ks':=by
 cases ks with
 |nil=>simp at h
 |cons k ks=>exact⟨k,ks,Y,by simpa using h⟩
omit [aW] in
theorem Sd(w:whole 1 t=true)(hb:base<J t)(Y:ic t base (k::ks) nd ix)(Z:((m+1)::r).getLast? = (k::ks).getLast?)(hl:J r=J ks):
 k=0↔ix=J (cQ t nd):=by
 rw[lW w (Y.oz w hb).1];cases ks with
 |nil=>
  have U:r=[]:=by simpa using hl
  subst U;have:m+1=k:=by simpa using Z
  have W:ic t base ((k-1+1)::[]) nd ix:=by
   have:k-1+1=k:=by lia
   rw[this];exact Y
  have:=W.there w hb;lia
 |cons T ks=>obtain⟨W,R,S⟩:=Y;lia
omit [aW] in
theorem GD(h:u<J t):jV t u=t[u].label:=by unfold jV aV;simp[fQ,h]
omit [aW] in
theorem Bl(h:u<J t):aI (ah t) u 0=u+1:=by unfold aI;rw[ao byE,nH byE]
def ni(p:List aF)(a c:Nat):Prop:=∀i,a<=i->i<c->(p[i]?).bind iw=U
theorem uJ(w:whole 1 t=true)(wp:ir 1 p=true)(hb:base<J t)(target:Nat):∀(f:Nat)(s:Spot)(ks:List Nat)(b:ia),J p+1-s.at_<=f->dX t p base (aZ p s.at_) ks s b ->
 (walk t p target f s=U/\dH t p (aZ p s.at_) ks s b=[]) \/
 (∃z,walk t p target f s=O z/\s.at_<=z.at_ /\
  ((z.at_<J p/\(z.at_=target\/∃h,p[z.at_]?=O (.row h))/\∃ks' b',dX t p base (cB (aZ p z.at_)) ks' z b'/\dH t p (aZ p s.at_) ks s b=dH t p (cB (aZ p z.at_)) ks' z b'/\(ni p s.at_ z.at_->b'=b)) \/
   (z.at_=J p/\∃b',dH t p (aZ p s.at_) ks s b=[b']/\(ni p s.at_ z.at_->b'=b))))
 |0,s,ks,b,hf,C=>by have:=C.le;omega
 |f+1,⟨a,F,E,held⟩,ks,b,hf,C=>by
  simp only at hf C ⊢;have he:=C.le;simp only at he;rcases cY a (J p) with ha|ha
  ·
   obtain⟨m,r,em⟩:=nM wp ha;have S:eV p a=J (aZ p a)-J (cB (aZ p a)):=by unfold eV;rw[aD ha]
   have hd:p.drop a=p[a]::p.drop (a+1):=kr ha;rcases Ec w hb C.len C.tree (by rw[em];simp) with⟨s1,s2⟩|⟨nd,ix,ks',s1,s2,s3,s4,s5,s6⟩
   .left;constructor
    .unfold walk;rw[S];simp only at s1;rw[s1]
    .unfold dH;simp only;rw[hd];unfold ways;rw[s2]
   .simp only at s1 s2 s3 s4 s5 s6;have g:ks'.sum=ks.sum:=by have:=xo s2;rw[uS s3,uS C.len]at this;exact this
    have T:(cB (aZ p a)).getLast? = ks'.getLast?:=by have:=u6 em;rw[em,<-this,C.bot,<-s6]
    have C1:dX t p base (cB (aZ p a)) ks' ⟨a,nd,ix,held⟩ b:=by refine⟨s3,s4,T,?_,C.good,C.held,he⟩;simp only;rw[s5,g];exact C.has
    have v:dH t p (aZ p a) ks ⟨a,F,E,held⟩ b=dH t p (cB (aZ p a)) ks' ⟨a,nd,ix,held⟩ b:=by
     unfold dH;simp only;rw[hd,s5]
     conv=>lhs;unfold ways
     conv=>rhs;unfold ways
     rw[s2,em];obtain⟨k,Z,e,_⟩:=wH (m:=m+1) (r:=r) (ks:=ks') (by rw[<-em];exact s3);subst e;rfl
    have q:walk t p target (f+1) ⟨a,F,E,held⟩=(if a=target then O ⟨a,nd,ix,held⟩ else match p[a]? with
     |none=>O ⟨a,nd,ix,held⟩
     |some (.row _)=>O ⟨a,nd,ix,held⟩
     |some (.one h)=>if ix=J (cQ t nd) then U else match hold p held a h (.one (fN t (dU t nd ix))) with
      |none=>U
      |some hd=>walk t p target f ⟨a+1,nd,ix+1,hd⟩
     |some (.node x _)=>if ix=J (cQ t nd) then U else if x=jV t (dU t nd ix) then walk t p target f ⟨a+1,dU t nd ix,0,held⟩ else U):=by
     conv=>lhs;unfold walk
     rw[S,s1]<;>rfl
    rw[q];by_cases o:a=target
    .right;rw[aD o];exact⟨_,Y,aU _,.inl ⟨ha,.inl o,ks',b,C1,v,λ_=>Y⟩⟩
    .rw[ao o,aX ha];obtain⟨k,Z,e,L⟩:=wH (m:=m+1) (r:=r) (ks:=ks') (by rw[<-em];exact s3);subst e;rw[em]at T;have K:=Sd w hb s4 T L;have W:dH t p (cB (aZ p a)) (k::Z) ⟨a,nd,ix,held⟩ b=ways t (p[a]::p.drop (a+1)) ((m+1,k)::r.zip Z) (aI (ah t) nd ix) b:=by unfold dH;simp only;rw[hd,em];rfl
     have R:aZ p (a+1)=(match p[a] with|.node _ c=>c::m::r|_=>m::r):=by
      conv=>lhs;unfold aZ
      rw[em,aX ha];cases p[a]<;>rfl
     cases n:p[a] with
     |row h=>right;simp only;exact⟨_,Y,aU _,.inl ⟨ha,.inr ⟨h,by rw[aX ha,n]⟩,k::Z,b,C1,v,λ_=>Y⟩⟩
     |node x c=>
      simp only;rw[n]at W R;simp only at R;by_cases B:ix=J (cQ t nd)
      .left;rw[aD B];refine⟨Y,?_⟩;rw[v,W];have:k=0:=K.mpr B;unfold ways;simp only[fZ];split
       .rw[aD (.inl this)]
       .rfl
      .rw[ao B];have hk:k≠0:=λz=>B (K.mp z);obtain⟨k,rfl⟩:∃j,k=j+1:=⟨k-1,by omega⟩;obtain⟨i1,A⟩:=s4.into w hb;have i3:=s4.there w hb;have H:dU t nd ix=aI (ah t) nd ix:=xY w (s4.oz w hb).1 i3;rw[H,GD A];by_cases hx:x=(t[aI (ah t) nd ix]).label
       .rw[aD hx];have N:dH t p (aZ p a) ks ⟨a,F,E,held⟩ b=dH t p (aZ p (a+1)) ((t[aI (ah t) nd ix]).kids::k::Z) ⟨a+1,aI (ah t) nd ix,0,held⟩ b:=by
         rw[v,W]
         conv=>lhs;unfold ways
         simp only[fZ,aX A];rw[ao (λz=>z.elim (λz=>by omega) λz=>z hx.symm)];unfold dH;simp only;rw[R,Bl A];rfl
        have P:cW t (aI (ah t) nd ix+1) ((t[aI (ah t) nd ix]).kids+(k+Z.sum)):=by
         refine Bv A ?_;have h0:=C1.has;simp only[eN]at h0;have e:k+1+Z.sum=k+Z.sum+1:=by omega
         rw[e]at h0;exact h0
        have C2:dX t p base (aZ p (a+1)) ((t[aI (ah t) nd ix]).kids::k::Z) ⟨a+1,aI (ah t) nd ix,0,held⟩ b:=by
         refine⟨?_,?_,?_,?_,C.good,?_,ha⟩
         .rw[R];simp[L]
         .have:=i1;rw[mq A]at this;exact this
         .rw[R,kN,kN];cases r with
          |nil=>
           have G:Z=[]:=by simpa using L.symm
           subst G;have:m+1=k+1:=by simpa using T
           have:m=k:=by omega
           rw[this]
          |cons y r=>
           cases Z with
           |nil=>simp at L
           |cons y' Z=>rw[kN,kN]at T ⊢;exact T
         .simp only;rw[Bl A];simpa [eN]using P
         ·
          simp only;have Q:∀h',dJ h' p[a]=false:=by intro h';rw[n];rfl
          refine⟨C.held.len,λh'=>?_,C.held.ones,λh' s' hs=>?_⟩
          .rw[vG ha,Q,Dd];exact C.held.met h'
          .rw[C.held.val h' s' hs];unfold heldOf;simp only;rw[tQ ha,Q,zm]
        have D:=uJ w wp hb target f ⟨a+1,aI (ah t) nd ix,0,held⟩ _ b (by simp only;omega) C2;simp only at D;rw[N];rcases D with D|⟨z,z1,z2,z3⟩
        .exact .inl D
        .have Q:ni p a z.at_->ni p (a+1) z.at_:=λh i h1 h2=>h i (by omega) h2;refine .inr ⟨z,z1,by omega,?_⟩;rcases z3 with⟨y1,y2,GF,b3,y3,y4,y5⟩|⟨y1,b3,y4,y5⟩
         .exact .inl ⟨y1,y2,GF,b3,y3,y4,λh=>y5 (Q h)⟩
         .exact .inr ⟨y1,b3,y4,λh=>y5 (Q h)⟩
       .rw[ao hx];left;refine⟨Y,?_⟩;rw[v,W];unfold ways;simp only[fZ,aX A];rw[aD (.inr (λz=>hx z.symm))]
     |one h=>
      simp only;rw[n]at W R;simp only at R;by_cases B:ix=J (cQ t nd)
      .left;rw[aD B];refine⟨Y,?_⟩;rw[v,W];have:k=0:=K.mpr B;unfold ways;simp only[fZ];rw[aD this]
      .rw[ao B];have hk:k≠0:=λz=>B (K.mp z);obtain⟨k,rfl⟩:∃j,k=j+1:=⟨k-1,by omega⟩;obtain⟨i1,A⟩:=s4.into w hb;have i3:=s4.there w hb;have l:=(s4.oz w hb).1;have H:dU t nd ix=aI (ah t) nd ix:=xY w l i3;rw[H];have hc:dN h∈p:=by rw[<-n];exact qO ha
       have P:=C1.has;simp only[eN]at P;have hg:cW t (aI (ah t) nd ix) 1:=P.mono (by omega);have hh:hv t p ⟨h,aI (ah t) nd ix,1⟩=.one (fN t (aI (ah t) nd ix)):=by unfold hv;rw[aD hc]
       have hi:aI (ah t) nd ix+J (cA t (aI (ah t) nd ix) 1)=aI (ah t) nd (ix+1):=by rw[oZ (by omega),k7 (by simpa using l)]
       have u:ways t (dN h::p.drop (a+1)) ((m+1,k+1)::r.zip Z) (aI (ah t) nd ix) b=(match eG t b ⟨h,aI (ah t) nd ix,1⟩ with
        |some d=>ways t (p.drop (a+1)) ((m,k)::r.zip Z) (aI (ah t) nd (ix+1)) d
        |none=>[]):=by
        conv=>lhs;unfold ways
        simp only[fZ];rw[ao (by omega),hi];rfl
       have M:=Bs w ha (f:=⟨h,aI (ah t) nd ix,1⟩) (by rw[n];rfl) C.held C.good ⟨by simp only;omega,hg⟩ (λ_=>Y);rw[hh]at M;simp only at M;rcases M with⟨o1,o2⟩|⟨hdn,d,o1,o2,o3⟩
       .left;rw[o1];refine⟨Y,?_⟩;rw[v,W,u,o2]
       .rw[o1];simp only;have N:dH t p (aZ p a) ks ⟨a,F,E,held⟩ b=dH t p (aZ p (a+1)) (k::Z) ⟨a+1,nd,ix+1,hdn⟩ d:=by rw[v,W,u,o2];unfold dH;simp only;rw[R];rfl
        have C2:dX t p base (aZ p (a+1)) (k::Z) ⟨a+1,nd,ix+1,hdn⟩ d:=by
         refine⟨?_,?_,?_,?_,?_,o3,ha⟩
         .rw[R];simp[L]
         .exact s4.next
         .rw[R];cases r with
          |nil=>
           have G:Z=[]:=by simpa using L.symm
           subst G;have:m+1=k+1:=by simpa using T
           have:m=k:=by omega
           rw[this]
          |cons y r=>
           cases Z with
           |nil=>simp at L
           |cons y' Z=>rw[kN,kN]at T ⊢;exact T
         .simp only;rw[k7 (by simpa using l)];refine cW.part (j:=k+1+Z.sum) (by omega) P ?_;simp only[eN];omega
         .exact rS (f:=⟨h,aI (ah t) nd ix,1⟩) C.good (by simp only;omega) hg o2
        have D:=uJ w wp hb target f ⟨a+1,nd,ix+1,hdn⟩ _ d (by simp only;omega) C2;simp only at D;rw[N];rcases D with D|⟨z,z1,z2,z3⟩
        .exact .inl D
        .have Q:¬ni p a z.at_:=λh=>by have:=h a (aU _) (by omega);rw[aX ha,n]at this;cases this
         refine .inr ⟨z,z1,by omega,?_⟩;rcases z3 with⟨y1,y2,GF,b3,y3,y4,y5⟩|⟨y1,b3,y4,y5⟩
         .exact .inl ⟨y1,y2,GF,b3,y3,y4,λh=>absurd h Q⟩
         .exact .inr ⟨y1,b3,y4,λh=>absurd h Q⟩
  ·
   have hj:a=J p:=by omega
   subst hj;have S:eV p (J p)=J (aZ p (J p))-1:=by unfold eV;rw[ao (by omega)]
   have I:=A2 wp (aU (J p));have hpos:J p≠0:=by have:=Dn (kF wp);simp only[aM]at this;omega
   rw[ao hpos]at I;have G:ks.getLast? = O 0:=by rw[<-C.bot];exact I
   have hd:p.drop (J p)=[]:=uC;rcases Ng w hb C.len C.tree (ZK wp) G with⟨s1,s2⟩|⟨z,s1,s5,s2⟩
   .left;constructor
    .unfold walk;rw[S];simp only at s1;rw[s1]
    .unfold dH;simp only;rw[hd];unfold ways;rw[s2];rfl
   .right;refine⟨⟨J p,z.1,z.2,held⟩,?_,aU _,.inr ⟨Y,b,?_,λ_=>Y⟩⟩
    .unfold walk;rw[S];simp only at s1;rw[s1];simp only;rw[fP (aU _)];split<;>rfl
    .unfold dH;simp only;rw[hd];unfold ways;rw[s2,aD rfl]
end Hs
end
section
namespace Hs
open Sh
variable[aW]
omit [aW] in
theorem MU:∀{l Z:List Nat},l.Pairwise (· < ·)->Z.Pairwise (· < ·)->(∀x,x∈l↔x∈Z)->l=Z
 |[],[],_,_,_=>rfl
 |[],y::Z,_,_,h=>by have:=(h y).mpr byB;simp at this
 |x::l,[],_,_,h=>by have:=(h x).mp byB;simp at this
 |x::l,y::Z,R,S,h=>by
  have T:=aeW.mp R;have U:=aeW.mp S;have e:x=y:=by
   rcases bE.mp ((h x).mp byB) with q|q
   .exact q
   .rcases bE.mp ((h y).mpr byB) with W|W
    .exact W.symm
    .have:=T.1 y W;have:=U.1 x q;lia
  subst e;congr 1;refine MU T.2 U.2 λz=>?_;constructor
  .intro Y;rcases bE.mp ((h z).mp (dR _ Y)) with q|q
   .have:=T.1 z Y;lia
   .exact q
  .intro Y;rcases bE.mp ((h z).mpr (dR _ Y)) with q|q
   .have:=U.1 z Y;lia
   .exact q
omit [aW] in
theorem BC[DecidableEq α](F:Nat->List α):∀xs:List Nat,xs.flatMap F=(xs.filter λj=>decide (F j≠[])).flatMap F
 |[]=>rfl
 |x::xs=>by
  rw[mP,CI];by_cases q:F x=[]
  .rw[q,yM,BC F xs];simp[q]
  .simp only[ne_eq,q,xK,decide_true,pI,mP];rw[BC F xs]
omit [aW] in
theorem RQ:∀{xs:List Nat},(∀j∈xs,F j=G j)->xs.flatMap F=xs.flatMap G
 |[],_=>rfl
 |x::xs,h=>by rw[mP,mP,h x byB,RQ λj Z=>h j (dR _ Z)]
omit [aW] in
theorem ab5{Z:Type}[DecidableEq Z](F:Nat->List Z){xs ys:List Nat}(W:xs.Pairwise (· < ·))(Y:ys.Pairwise (· < ·))(h:∀j,F j≠[]->(j∈xs↔j∈ys)):xs.flatMap F=ys.flatMap F:=by
 rw[BC F xs,BC F ys];congr 1;refine MU (W.filter _) (Y.filter _) λx=>?_;simp only[jk,m9];constructor
 .rintro⟨a,b⟩;exact⟨(h x b).mp a,b⟩
 .rintro⟨a,b⟩;exact⟨(h x b).mpr a,b⟩
omit [aW] in
theorem ON(n:Nat):(bA n).Pairwise (· < ·):=aeV
omit [aW] in
theorem Z1(p:List aF)(m k:Nat):(tU p m k).Pairwise (· < ·):=by
 unfold tU;simp only;split
 .simp
 .split
  .exact ON _
  .simp
theorem X_:(jR t p q nd ix held ls).Sublist ls:=by
 unfold jR;split
 .exact ae9
 .split
  .exact Ur _
  .exact ae9
 .exact Ur _
theorem xj:∀{qs:List aF}{nd ix:Nat}{held:List HV}{ls:List Nat},(lF t p qs nd ix held ls).Sublist ls
 |[],_,_,_,_=>Ur _
 |q::qs,_,_,_,_=>(xj (qs:=qs)).trans X_
theorem X9(h:ls.Pairwise (· < ·)):(lF t p qs nd ix held ls).Pairwise (· < ·):=h.sublist xj
theorem X8(h:j∈lF t p qs nd ix held ls):j∈ls:=xj.subset h
theorem aaj(t:List aO)(p:List aF)(h:Nat)(s:Spot):(lens t p h s).Pairwise (· < ·):=by
 unfold lens;split
 .simp
 .split
  .split<;>simp
  .exact X9 (ON _)
omit [aW] in
theorem rZ(w:ia):∀B:List aF,lO w B=(J B-J (cj B))+((cj B).map λg=>cost w (.row g)).sum/\J (cj B)<=J B
 |[]=>⟨rfl,aU _⟩
 |q::B=>by
  obtain⟨Y,hl⟩:=rZ w B;have e:lO w (q::B)=cost w q+lO w B:=by simp[lO]
  cases q with
  |node x c=>
   have Z:cj (.node x c::B)=cj B:=by simp[cj]
   rw[e,Z,Y];refine⟨?_,byE⟩;simp only[cost,iI];lia
  |one x=>
   have Z:cj (.one x::B)=cj B:=by simp[cj]
   rw[e,Z,Y];refine⟨?_,byE⟩;simp only[cost,iI];lia
  |row x=>
   have Z:cj (.row x::B)=x::cj B:=by simp[cj]
   rw[e,Z,Y];refine⟨?_,byE⟩;simp only[bL,eN,iI];lia
omit [aW] in
theorem SA:∀B:List aF,B.countP (λq=>!jY q)=J B-J (cj B)/\B.any jY=decide (0<J (cj B))
 |[]=>⟨rfl,rfl⟩
 |q::B=>by
  obtain⟨Y,W⟩:=SA B;have hl:=(rZ [] B).2;cases q with
  |node x c=>
   have Z:cj (.node x c::B)=cj B:=by simp[cj]
   rw[Z];refine⟨?_,?_⟩
   .rw[CL,Y];simp[jY];omega
   .rw[p_,W];rfl
  |one x=>
   have Z:cj (.one x::B)=cj B:=by simp[cj]
   rw[Z];refine⟨?_,?_⟩
   .rw[CL,Y];simp[jY];omega
   .rw[p_,W];rfl
  |row x=>
   have Z:cj (.row x::B)=x::cj B:=by simp[cj]
   rw[Z];refine⟨?_,?_⟩
   .rw[CL,Y];simp[jY]
   .rw[p_];simp[jY]
omit [aW] in
theorem Mt(c:Nat->Nat)(h:Nat):∀R:List Nat,(R.map c).sum=R.count h*c h+((R.filter (· != h)).map c).sum
 |[]=>by simp
 |g::R=>by
  have Z:=Mt c h R;rw[bL,eN,Z,sJ,CI];by_cases q:g=h
  .subst q;simp[Nat.add_mul];lia
  .simp[q];lia
omit [aW] in
theorem Ms(c:Nat->Nat)(P:Nat->Bool):∀R:List Nat,(R.map c).sum=((R.filter P).map c).sum+((R.filter λg=>!P g).map c).sum
 |[]=>rfl
 |g::R=>by have Z:=Ms c P R;rw[bL,eN,Z,CI,CI];cases P g<;>simp<;>lia
omit [aW] in
theorem filter_all:∀{R:List Nat},J (R.filter P)=J R->(R.filter λg=>!P g)=[]
 |[],_=>rfl
 |g::R,h=>by
  rw[CI]at h ⊢;cases e:P g with
  |true=>rw[e]at h;simp only[pI,iI]at h;simp only[UI];exact filter_all byA
  |false=>rw[e]at h;have:J (R.filter P)<=J R:=oM _ _;simp only[iI]at h;have h':=h;lia
omit [aW] in
theorem xm:∀{f m:Nat}{p:List aF}{q:aF},q∈cy f m p->q∈p
 |0,m,p,q,h=>by simp[cy]at h
 |f+1,0,p,q,h=>by simp[cy]at h
 |f+1,m+1,[],q,h=>by simp[cy]at h
 |f+1,m+1,x::r,q,h=>by
  have h':=h;rcases bE.mp h' with e|e
  .rw[e];simp
  .have U:=xm e;have Y:∀(l:List aF)(k:Nat),∀y∈cZ k l,y∈l:=by
    intro l
    induction l with
    |nil=>intro k y Z;rw[sY]at Z;exact Z
    |cons n r W=>
     intro k y Z;cases k with
     |zero=>rw[jQ]at Z;exact Z
     |succ k=>have:=Z;exact dR _ (W _ y this)
   exact dR _ (Y _ _ _ U)
omit [aW] in
theorem mX:g∈cj B↔ie g∈B:=by
 unfold cj;rw[qN];constructor
 .rintro⟨q,Z,e⟩;cases q with
  |row x=>simp at e;subst e;exact Z
  |node=>simp at e
  |one=>simp at e
 .intro h;exact⟨_,h,Y⟩
omit [aW] in
theorem rJ:g∈Cb B↔dN g∈B:=by
 unfold Cb;rw[qN];constructor
 .rintro⟨q,Z,e⟩;cases q with
  |one x=>simp at e;subst e;exact Z
  |node=>simp at e
  |row=>simp at e
 .intro h;exact⟨_,h,Y⟩
def Apart(p:List aF):Prop:=∀h,ie h∈p->dN h∉p
omit [aW] in
theorem ad'(e:jZ p=true):Apart p:=by intro h Z Y;unfold jZ at e;simp only[eO]at e;have:=qa.mp e.2 h (rJ.mpr Y);simp only[Le,List.contains_eq_mem,decide_eq_false_iff_not]at this;exact this (mX.mpr Z)
omit [aW] in
theorem oW(e:jZ p=true):ir 1 p=true:=by unfold jZ at e;simp only[eO]at e;exact e.1.1.1
omit [aW] in
theorem RS(e:jZ p=true)(h:Nat):p[0]?≠O (.row h):=by unfold jZ at e;simp only[eO]at e;have:=e.1.1.2;intro q;rw[Ue,q]at this;simp at this
structure cM(t:List aO)(p:List aF)(base:Nat)(h m k:Nat)(r ks:List Nat)(z:Spot)(b:ia):Prop where
 lt:z.at_<J p
 is:p[z.at_]?=O (.row h)
 em:cB (aZ p z.at_)=(m+1)::r
 C:dX t p base ((m+1)::r) (k::ks) z b
 rn:r≠[]
 nd:z.node<J t
 full:z.index+k=b7 (ah t) z.node
 apart:Apart p
 w:whole 1 t=true
 wp:ir 1 p=true
 hb:base<J t
def i7(t:List aO)(p:List aF)(h m k:Nat)(r ks:List Nat)(z:Spot)(b:ia)(j:Nat):List Way:=
 if j<=k then(match eG t b ⟨h,aI (ah t) z.node z.index,j⟩ with
  |some d=>ways t (p.drop (z.at_+1)) ((m,k-j)::r.zip ks) (aI (ah t) z.node (z.index+j)) d
  |none=>[]) else []
omit [aW] in
theorem Bm(Y:u<=J t):aI (ah t) u (i+j)=pa (ah t) (aI (ah t) u i) j:=by
 have Z:u<=J (ah t):=by simpa using Y
 unfold aI;split
 .exact l7 byA
 .exact l7 byA
section
theorem cM.spec(R:cM t p base h m k r ks z b):dH t p ((m+1)::r) (k::ks) z b=(tU (p.drop (z.at_+1)) m k).flatMap (i7 t p h m k r ks z b):=by
 unfold dH;have e:p[z.at_]'R.lt=.row h:=by have:=R.is;rw[aX R.lt]at this;exact bH this
 rw[kr R.lt,e]
 conv=>lhs;unfold ways
 simp only[wk,fZ];apply RQ;intro j Y;have Z:=A3 Y;unfold i7;rw[aD Z,Bm (by have:=R.nd;lia),oZ rM];rfl
theorem cM.b_(R:cM t p base h m k r ks z b)(W:j<=k):((dc t z.node).drop z.index).take j=nO t (aI (ah t) z.node z.index) j:=by
 have I:=i9 R.w;have Y:=I.dc z.node R.nd (cI _);have Z:=R.full;rw[mq R.nd]at Z;unfold dc;rw[Y];apply J5;intro a;by_cases ha:a<j
 .rw[ae4 ha,J1,bM,lz byA];unfold nO;rw[bM,lz ha];simp only[kg];rw[Bm (by have:=R.nd;lia)];rfl
 .rw[fP (by rw[lu];lia),fP (by unfold nO;simp;lia)]
theorem cM.abj(R:cM t p base h m k r ks z b):hv t p ⟨h,aI (ah t) z.node z.index,j⟩=.row (nO t (aI (ah t) z.node z.index) j):=by unfold hv;rw[ao];refine R.apart h ?_;exact dm R.is
theorem cM.QE(R:cM t p base h m k r ks z b):aZ p (z.at_+1)=m::r:=by
 conv=>lhs;unfold aZ
 rw[R.em,R.is]
theorem cM.has(R:cM t p base h m k r ks z b):cW t (aI (ah t) z.node z.index) (k+ks.sum):=by have:=R.C.has;simpa using this
theorem cM.choice(R:cM t p base h m k r ks z b)(W:j<=k):
 (choice t p h z j=U/\i7 t p h m k r ks z b j=[]) \/
 (∃s d,choice t p h z j=O s/\s.at_=z.at_+1/\s.node=z.node/\s.index=z.index+j/\eG t b ⟨h,aI (ah t) z.node z.index,j⟩=O d/\dX t p base (aZ p s.at_) ((k-j)::ks) s d/\i7 t p h m k r ks z b j=dH t p (aZ p s.at_) ((k-j)::ks) s d):=by
 have P:iw (p[z.at_]'R.lt)=O h:=by have:=R.is;rw[aX R.lt]at this;rw[bH this];rfl
 have Q:aI (ah t) z.node z.index<=J t/\cW t (aI (ah t) z.node z.index) j:=⟨rM,R.has.mono byA⟩;have S:dN h∈p->j=1:=λq=>absurd q (R.apart h (dm R.is));have T:=Bs R.w R.lt (f:=⟨h,aI (ah t) z.node z.index,j⟩) P R.C.held R.C.good Q S;rw[R.abj]at T;simp only at T;rcases T with⟨o1,o2⟩|⟨hd,d,o1,o2,o3⟩
 .left;constructor
  .unfold Hs.choice;rw[R.b_ W,o1];rfl
  .unfold i7;rw[aD W,o2]
 .right;refine⟨⟨z.at_+1,z.node,z.index+j,hd⟩,d,?_,Y,Y,Y,o2,?_,?_⟩
  .unfold Hs.choice;rw[R.b_ W,o1];rfl
  .simp only;rw[R.QE];have hl:J r=J ks:=by simpa using R.C.len
   refine⟨by simp[hl],?_,?_,?_,?_,o3,R.lt⟩
   .exact R.C.tree.move W
   .have Z:=R.C.bot;cases r with
    |nil=>exact absurd Y R.rn
    |cons y r=>
     cases ks with
     |nil=>simp at hl
     |cons N ks=>rw[kN,kN]at Z ⊢;exact Z
   .simp only;rw[Bm (by have:=R.nd;lia)];refine R.has.part rM ?_;simp only[eN];lia
   .exact rS R.C.good Q.1 Q.2 o2
  .unfold i7;rw[aD W,o2];rw[R.QE];rfl
end
end Hs
end
section
namespace Hs
open Sh
variable[aW]
section
theorem cM.Jm(R:cM t p base h m k r ks z b):dM p z.at_=cy (J (p.drop (z.at_+1))) m (p.drop (z.at_+1)):=by unfold dM;rw[R.em];simp only[ae1,JT];exact s_ _ _ _ _ byB (aU _)
theorem cM.sums(R:cM t p base h m k r ks z b){j:Nat}(U:j<=k){w:ia}(Z:w∈i7 t p h m k r ks z b j):
 ∃d,eG t b ⟨h,aI (ah t) z.node z.index,j⟩=O d/\w∈ways t (p.drop (z.at_+1)) ((m,k-j)::r.zip ks) (aI (ah t) z.node (z.index+j)) d/\(∃x,w=d++x)/\k-j=lO w (dM p z.at_):=by
 unfold i7 at Z;rw[aD U]at Z;cases hd:eG t b ⟨h,aI (ah t) z.node z.index,j⟩ with
 |none=>rw[hd]at Z;simp at Z
 |some d=>
  rw[hd]at Z;simp only at Z;have T:cW t (aI (ah t) z.node z.index) j:=R.has.mono byA;have hl:J r=J ks:=by simpa using R.C.len
  have e2:sumK ((m,k-j)::r.zip ks)=k-j+ks.sum:=by have:=uS hl;simp only[sumK,bL,eN]at this ⊢;rw[this]
  have W:cW t (aI (ah t) z.node (z.index+j)) (k-j+ks.sum):=by rw[Bm (by have:=R.nd;lia)];exact R.has.part rM byA
  have ok:=zN rM (by rw[e2];exact W) (rS R.C.good rM T hd) Z;refine⟨d,Y,Z,ok.2.1,?_⟩;rw[R.Jm];exact ok.1.1
theorem cM.Z2(R:cM t p base h m k r ks z b){j:Nat}(Z:i7 t p h m k r ks z b j≠[]):j∈tU (p.drop (z.at_+1)) m k:=by
 have W:j<=k:=by
  rcases cY k j with q|q
  .unfold i7 at Z;rw[ao (by omega)]at Z;exact absurd Y Z
  .exact q
 obtain⟨w,T⟩:=afb _ Z;obtain⟨d,_,_,_,S⟩:=R.sums W T;rw[R.Jm]at S;unfold tU;simp only;rw[Bg];simp only;obtain⟨P,Q⟩:=SA (cy (J (p.drop (z.at_+1))) m (p.drop (z.at_+1)));obtain⟨U,O⟩:=rZ w (cy (J (p.drop (z.at_+1))) m (p.drop (z.at_+1)));rw[P,Q];rw[ao (by omega)];by_cases q:0<J (cj (cy (J (p.drop (z.at_+1))) m (p.drop (z.at_+1))))
 .rw[aD (bJ q),iB];omega
 .rw[ao (by simpa using q)];have:cj (cy (J (p.drop (z.at_+1))) m (p.drop (z.at_+1)))=[]:=Cw.mp (by omega);rw[this]at U ⊢;simp only[yP,TR,mO,JW,Co]at U;simp only[yP,TR,yN];omega
omit [aW] in
theorem FA(Y:q∈p.drop a)(Z:dJ g q=true):more p a g=true:=by exact qP.mpr ⟨q,Y,Z⟩
omit [aW] in
theorem xO(ha:a<J p)(e:more p (a+1) g=true):more p a g=true:=by rw[tQ ha,e,UH]
theorem cM.x8(R:cM t p base h m k r ks z b)(Y:met p z.at_ g=true)(Z:more p z.at_ g=true):∃f s,eu b g=O f/\fu p g=O s/\eU p z.held g=hv t p f/\f.hole=g:=by
 have S:=R.C.held.met g;rw[Y]at S;obtain⟨f,T⟩:=we.mp S;have W:twice p g=true:=by
  apply bJ;have e:p.countP (dJ g)=(p.take z.at_).countP (dJ g)+(p.drop z.at_).countP (dJ g):=by rw[<-afd,Cr]
  rw[e];unfold met at Y;unfold more at Z;rw[Jr]at Y Z;have:=pB Y;have:=pB Z;lia
 have U:fu p g=O ((mR p).idxOf g):=by unfold fu;rw[aD W]
 refine⟨f,_,T,U,?_,(nL T).2⟩;unfold eU;rw[U];simp only;rw[R.C.held.val g _ U];unfold heldOf;rw[T];simp only;rw[aD Z]
theorem G_(h:dN f.hole∉p):j3 (hv t p f)=f.count:=by unfold hv;rw[ao h];simp[j3,nO]
theorem cM.MS(R:cM t p base h m k r ks z b):dY t p h z=(k:Int)-jy p z.at_-(((known p z.at_ h).map λg=>j3 (eU p z.held g)).sum:Nat):=by unfold dY;rw[lW R.w (by have:=R.nd;lia)];have:=R.full;lia
theorem cM.Q4(R:cM t p base h m k r ks z b):ie h∈p:=dm R.is
theorem cM.WX(R:cM t p base h m k r ks z b)(K:met p z.at_ h=false){j:Nat}(F:j<=k){w:ia}(G:w∈i7 t p h m k r ks z b j):
 ∃x:Nat,dY t p h z=(j*times p z.at_ h:Nat)+x/\(qm p z.at_ h=true->x=0):=by
 obtain⟨d,hd,_,⟨x,hx⟩,S⟩:=R.sums F G;have N:eu b h=U:=by have:=R.C.held.met h;rw[K]at this;simpa using this
 have L:d=b++[⟨h,aI (ah t) z.node z.index,j⟩]:=by unfold eG at hd;simp only at hd;rw[N]at hd;exact(bH hd).symm
 have P:cost w (.row h)=j:=by
  have:eu w h=O ⟨h,aI (ah t) z.node z.index,j⟩:=by rw[hx,L];refine vB ?_;rw[EV N];unfold eu;simp
  show(match eu w h with|some f=>f.count|none=>0)=j;rw[this]
 obtain⟨l,c⟩:=rZ w (dM p z.at_);have n:=Mt (λg=>cost w (.row g)) h (cj (dM p z.at_));have o:=Ms (λg=>cost w (.row g)) (met p z.at_) ((cj (dM p z.at_)).filter (· != h));have q:((known p z.at_ h).map λg=>cost w (.row g))=(known p z.at_ h).map λg=>j3 (eU p z.held g):=by
  refine kj λg E=>?_;have M:=jk.mp E;have I:=(jk.mp M.1).1;have Q:ie g∈dM p z.at_:=mX.mp I;have Z:ie g∈p.drop (z.at_+1):=xm Q;have J:more p z.at_ g=true:=xO R.lt (FA Z (qD Y));obtain⟨f,s,u,i,v,y⟩:=R.x8 M.2 J;rw[v,G_ (by rw[y];exact R.apart g (Ub Z))];have:eu w g=O f:=by rw[hx,L];exact vB (vB u)
  show(match eu w g with|some f=>f.count|none=>0)=f.count;rw[this]
 rw[R.MS];unfold jy times;rw[l]at S;rw[n,o]at S;simp only[P]at S;have H:((((cj (dM p z.at_)).filter (· != h)).filter (met p z.at_)).map λg=>cost w (.row g)).sum=((known p z.at_ h).map λg=>j3 (eU p z.held g)).sum:=by rw[<-q];rfl
 rw[H]at S;refine⟨((((cj (dM p z.at_)).filter (· != h)).filter λg=>!met p z.at_ g).map λg=>cost w (.row g)).sum,?_,?_⟩
 .have e:j*(1+(cj (dM p z.at_)).count h)=j+(cj (dM p z.at_)).count h*j:=by rw[Nat.mul_add,Nat.mul_one,aeP j]
  rw[e];have W:=S;generalize (cj (dM p z.at_)).count h*j=A at W ⊢;generalize ((known p z.at_ h).map λg=>j3 (eU p z.held g)).sum=B at W ⊢;generalize ((((cj (dM p z.at_)).filter (· != h)).filter λg=>!met p z.at_ g).map λg=>cost w (.row g)).sum=D at W ⊢;omega
 .intro T;have:=pB T;unfold known at this;rw[filter_all this];rfl
omit [aW] in
theorem M9:∀{l:List aF}{k:Nat}{q:aF},q∈cZ k l->q∈l
 |[],k,q,h=>by rw[sY]at h;exact h
 |x::l,0,q,h=>by rw[jQ]at h;exact h
 |x::l,k+1,q,h=>dR _ (M9 h)
omit [aW] in
theorem wL:∀(p:List aF)(A L:List (Nat×Nat))(i:Nat)(b:ia),i<=J t->w∈ways t p (A++L) i b ->
 ∃x,w∈ways t (cZ (A.map (·.1)).sum p) L (pa (ah t) i (sumK A)) (b++x)
 |p,[],L,i,b,hi,Z=>⟨[],by simp only[mO,JW,sumK,nq];rw[jQ,nH (by simpa using hi)];exact Z⟩
 |p,(0,0)::A,L,i,b,hi,Z=>by
  have S:w∈ways t p (A++L) i b:=by
   cases p with
   |nil=>unfold ways at Z ⊢;exact Z
   |cons q p=>unfold ways at Z ⊢;exact Z
  obtain⟨x,hx⟩:=wL p A L i b hi S;refine⟨x,?_⟩;simpa [sumK]using hx
 |p,(0,k+1)::A,L,i,b,hi,Z=>by
  exfalso;cases p with
  |nil=>unfold ways at Z;simp[fZ]at Z
  |cons q p=>unfold ways at Z;simp[fZ]at Z
 |[],(m+1,k)::A,L,i,b,hi,Z=>by exfalso;unfold ways at Z;simp[fZ]at Z
 |q::p,(m+1,k)::A,L,i,b,hi,Z=>by
  have Y:i<=J (ah t):=by simpa using hi
  have I:∀U:aF,cZ ((((m+1,k)::A).map (·.1)).sum) (U::p)=cZ (m+(A.map (·.1)).sum+U.kids) p:=by
   intro U;have:(((m+1,k)::A).map (·.1)).sum=m+(A.map (·.1)).sum+1:=by simp;lia
   rw[this];rfl
  have Q:sumK ((m+1,k)::A)=k+sumK A:=by simp[sumK]
  rw[I q,Q];unfold ways at Z;simp only[CM,fZ]at Z;cases q with
  |node x c=>
   simp only at Z;cases ht:t[i]? with
   |none=>rw[ht]at Z;simp at Z
   |some n=>
    rw[ht]at Z;simp only at Z;split at Z
    .simp at Z
    .rename_i K;have O:k≠0:=λq=>K (.inl q);obtain⟨k,rfl⟩:∃j,k=j+1:=⟨k-1,byA⟩;have R:=(cV.mp ht).1;have P:=(cV.mp ht).2;obtain⟨x,hx⟩:=wL p ((c,n.kids)::(m,k)::A) L (i+1) b byA Z;refine⟨x,?_⟩;have e1:(((c,n.kids)::(m,k)::A).map (·.1)).sum=m+(A.map (·.1)).sum+c:=by simp;lia
     have e2:sumK ((c,n.kids)::(m,k)::A)=k+sumK A+n.kids:=by simp[sumK];lia
     have W:pa (ah t) i (k+1+sumK A)=pa (ah t) (i+1) (k+sumK A+n.kids):=by
      have:k+1+sumK A=k+sumK A+1:=by lia
      rw[this,EM (by simpa using R)];simp[P]
     rw[e1,e2]at hx;rw[W];exact hx
  |one g=>
   simp only at Z;split at Z
   .simp at Z
   .rename_i O;obtain⟨k,rfl⟩:∃j,k=j+1:=⟨k-1,byA⟩;cases hd:eG t b ⟨g,i,1⟩ with
    |none=>rw[hd]at Z;simp at Z
    |some d=>
     rw[hd]at Z;simp only[JT]at Z;rw[oZ hi]at Z;obtain⟨y,T⟩:=uc hd;obtain⟨x,hx⟩:=wL p ((m,k)::A) L (pa (ah t) i 1) d pq Z;refine⟨y++x,?_⟩;have e1:(((m,k)::A).map (·.1)).sum=m+(A.map (·.1)).sum+0:=by simp
     have e2:sumK ((m,k)::A)=k+sumK A:=by simp[sumK]
     have W:pa (ah t) i (k+1+sumK A)=pa (ah t) (pa (ah t) i 1) (k+sumK A):=by rw[<-l7 Y];congr 1;lia
     rw[e1,e2,T,lT]at hx;rw[W];exact hx
  |row g=>
   simp only at Z;obtain⟨j,M,Z⟩:=lS.mp Z;have N:=A3 M;cases hd:eG t b ⟨g,i,j⟩ with
   |none=>rw[hd]at Z;simp at Z
   |some d=>
    rw[hd]at Z;simp only at Z;rw[oZ hi]at Z;obtain⟨y,T⟩:=uc hd;obtain⟨x,hx⟩:=wL p ((m,k-j)::A) L (pa (ah t) i j) d pq Z;refine⟨y++x,?_⟩;have e1:(((m,k-j)::A).map (·.1)).sum=m+(A.map (·.1)).sum+0:=by simp
    have e2:sumK ((m,k-j)::A)=k-j+sumK A:=by simp[sumK]
    have W:pa (ah t) i (k+sumK A)=pa (ah t) (pa (ah t) i j) (k-j+sumK A):=by rw[<-l7 Y];congr 1;lia
    rw[e1,e2,T,lT]at hx;rw[W];exact hx
 termination_by p A=>(J p,J A)
theorem cM.Ea(R:cM t p base h m k r ks z b){w:ia}{j:Nat}:∀(f m':Nat)(p':List aF)(ix kk:Nat)(L:List (Nat×Nat))(d:ia)(ls:List Nat),j∈ls->(∀q∈p',q∈p.drop (z.at_+1)) ->
 ix+j+kk=b7 (ah t) z.node->w∈ways t p' ((m',kk)::L) (aI (ah t) z.node (ix+j)) d->(∃y,d=b++y) ->
 j∈lF t p ((cy f m' p').takeWhile λq=>!jY q) z.node ix z.held ls
 |0,_,_,_,_,_,_,_,hmem,_,_,_,_=>hmem
 |f+1,0,_,_,_,_,_,_,hmem,_,_,_,_=>by rw[uY];exact hmem
 |f+1,m'+1,[],_,_,_,_,_,hmem,_,_,_,_=>hmem
 |f+1,m'+1,q::p',ix,kk,L,d,ls,hmem,hsub,agR,jE,⟨y,hy⟩=>by
  have hpos:aI (ah t) z.node (ix+1+j)=pa (ah t) (aI (ah t) z.node (ix+j)) 1:=by
   have:ix+1+j=(ix+j)+1:=by lia
   rw[this];exact k7 (by have:=R.nd;simp;lia)
  cases q with
  |row g=>exact hmem
  |node xl c=>
   unfold ways at jE;simp only[fZ]at jE;cases ht:t[aI (ah t) z.node (ix+j)]? with
   |none=>rw[ht]at jE;simp at jE
   |some n=>
    rw[ht]at jE;simp only at jE;split at jE
    .simp at jE
    .rename_i hc;have hk:kk≠0:=λq=>hc (.inl q);have hl:=UE λq=>hc (.inr q);have hin:ix+j<b7 (ah t) z.node:=by lia
     have hlt:aI (ah t) z.node (ix+j)<J t:=by have:=jW (jO R.w) (by have:=R.nd;simp;lia) hin;simpa using this
     have ht':=(cV.mp ht).2;have hj1:j∈jR t p (.node xl c) z.node ix z.held ls:=by
      refine jk.mpr ⟨hmem,?_⟩;have I:=(i9 R.w).eE z.node R.nd (cI _);unfold eE aV;rw[I,fQ,bM,lz (by rw[<-mq R.nd];exact hin)];simp only[kg,JL];have:aV (t.map (·.label)) (aI (ah t) z.node (ix+j))=xl:=by have:=GD hlt;unfold jV at this;rw[this,ht',hl]
      rw[this];simp
     obtain⟨x,hx⟩:=wL p' [(c,n.kids)] ((m',kk-1)::L) _ d byA jE;have e1:pa (ah t) (aI (ah t) z.node (ix+j)+1) (sumK [(c,n.kids)])=aI (ah t) z.node (ix+1+j):=by rw[hpos,xF (by simpa using hlt)];simp[sumK,ht']
     rw[e1]at hx;have e2:([(c,n.kids)].map (·.1)).sum=c:=by simp
     rw[e2]at hx;refine R.Ea f m' _ (ix+1) (kk-1) L (d++x) _ hj1 (λq hq=>hsub q ?_) byA hx ⟨y++x,by rw[hy,lT]⟩;refine dR _ ?_;exact M9 hq
  |one g=>
   show j∈lF t p ((cy f m' (cZ 0 p')).takeWhile λq=>!jY q) z.node (ix+1) z.held (jR t p (.one g) z.node ix z.held ls);rw[jQ];have Rv:dN g∈p.drop (z.at_+1):=hsub _ byB;have Hh:=Ub Rv;unfold ways at jE;simp only[fZ]at jE;split at jE
   .simp at jE
   .rename_i hk;have hin:ix+j<b7 (ah t) z.node:=by lia
    have hlt:aI (ah t) z.node (ix+j)<J t:=by have:=jW (jO R.w) (by have:=R.nd;simp;lia) hin;simpa using this
    cases hfl:eG t d ⟨g,aI (ah t) z.node (ix+j),1⟩ with
    |none=>rw[hfl]at jE;simp at jE
    |some d2=>
     rw[hfl]at jE;simp only at jE;rw[oZ rM,<-hpos]at jE;have hj1:j∈jR t p (.one g) z.node ix z.held ls:=by
      unfold jR;simp only;cases hv0:eU p z.held g with
      |az=>exact hmem
      |one v=>
       refine jk.mpr ⟨hmem,?_⟩;have hmg:met p z.at_ g=true:=by
        unfold eU at hv0;cases hsl:fu p g with
        |none=>rw[hsl]at hv0;cases hv0
        |some s=>
         rw[hsl]at hv0;simp only at hv0;rw[R.C.held.val g s hsl]at hv0;rw[<-R.C.held.met g];unfold heldOf at hv0;cases ho:eu b g with
         |none=>rw[ho]at hv0;cases hv0
         |some f=>rfl
       have abB:=xO R.lt (FA Rv (qD Y));obtain⟨f,s,f1,f2,f3,f4⟩:=R.x8 hmg abB;rw[f3]at hv0;unfold hv at hv0;rw[f4,aD Hh]at hv0;have hv1:fN t f.at_=v:=by injection hv0
       have hdg:eu d g=O f:=by rw[hy];exact vB f1
       have hc1:=R.C.held.ones g f f1 Hh;unfold eG at hfl;simp only at hfl;rw[hdg]at hfl;simp only at hfl;split at hfl
       .rename_i hsl;rw[hc1]at hsl;have hgood:=R.C.good f (nL f1).1;have:=(like_eq R.w (Hq hgood.1 hgood.2 hc1) hlt).mpr hsl;have I:=(i9 R.w).dc z.node R.nd (cI _);unfold dc aV;rw[I,fQ,bM,lz (by rw[<-mq R.nd];exact hin)];simp only[kg,JL];have e3:aV (marks t).b_ (aI (ah t) z.node (ix+j))=v:=by rw[<-hv1,this];rfl
        rw[e3];simp
       .cases hfl
      |row v=>
       exfalso;unfold eU at hv0;cases hsl:fu p g with
       |none=>rw[hsl]at hv0;cases hv0
       |some s=>
        rw[hsl]at hv0;simp only at hv0;rw[R.C.held.val g s hsl]at hv0;unfold heldOf at hv0;cases ho:eu b g with
        |none=>rw[ho]at hv0;cases hv0
        |some f=>
         rw[ho]at hv0;simp only at hv0;split at hv0
         .unfold hv at hv0;rw[(nL ho).2,aD Hh]at hv0;cases hv0
         .cases hv0
     obtain⟨x,hx⟩:=uc hfl;exact R.Ea f m' _ (ix+1) (kk-1) L d2 _ hj1 (λq hq=>hsub q (dR _ hq)) byA jE ⟨y++x,by rw[hx,hy,lT]⟩
theorem cM.aal(R:cM t p base h m k r ks z b){j:Nat}(Z:i7 t p h m k r ks z b j≠[]):j∈lens t p h z:=by
 have W:j<=k:=by
  rcases cY k j with q|q
  .unfold i7 at Z;rw[ao byA]at Z;exact absurd Y Z
  .exact q
 obtain⟨w,M⟩:=afb _ Z;have T:dJ h (p[z.at_]'R.lt)=true:=by have:=R.is;rw[aX R.lt]at this;rw[bH this];exact qD Y
 have L:more p z.at_ h=true:=by rw[tQ R.lt,T,Lc]
 unfold lens;cases J:met p z.at_ h with
 |true=>
  rw[aD rfl];obtain⟨f,s,u,n,v,A⟩:=R.x8 J L;rw[v,G_ (by rw[A];exact R.apart h R.Q4)];obtain⟨d,hd,_⟩:=R.sums W M;have D:cW t (aI (ah t) z.node z.index) j:=R.has.mono byA;obtain⟨g,I,B⟩:=RZ R.C.good D hd;obtain⟨y,K⟩:=uc hd;have:eu d h=O f:=by rw[K];exact vB u
  rw[this]at I;have:=bH I;rw[this,B];simp
 |false=>
  rw[ao byB];obtain⟨x,hx,P⟩:=R.WX J W M;have G:0<times p z.at_ h:=by unfold times;lia
  cases U:qm p z.at_ h with
  |true=>
   rw[aD rfl];have:=P U;subst this;have e:dY t p h z=(j:Int)*(times p z.at_ h:Nat):=by rw[hx];push_cast;lia
   rw[e];rw[ao]
   .rw[Int.mul_ediv_cancel _ byA];simp
   .rintro(q|q)
    .have:(0:Int)<=(j:Int)*(times p z.at_ h:Nat):=Int.mul_nonneg byA byA;lia
    .exact q (Int.mul_emod_left _ _)
  |false=>
   rw[ao byB];have E:(j:Int)<=dY t p h z/(times p z.at_ h:Nat):=by
    rw[Int.le_ediv_iff_mul_le byA,hx]
    push_cast;lia
   have S:j∈bA (dY t p h z/(times p z.at_ h:Nat)+1).toNat:=by rw[iB];lia
   obtain⟨d,hd,N,⟨y,K⟩,o⟩:=R.sums W M;unfold seg;rw[R.Jm];obtain⟨H,Q⟩:=uc hd;exact R.Ea _ m _ z.index (k-j) _ d _ S (λq F=>F) (by have:=R.full;lia) N ⟨H,Q⟩
theorem cM.Gv(R:cM t p base h m k r ks z b)(Z:j∈lens t p h z)(D:k<j):Hs.choice t p h z j=U:=by
 have S:dJ h (p[z.at_]'R.lt)=true:=by have:=R.is;rw[aX R.lt]at this;rw[bH this];exact qD Y
 have O:more p z.at_ h=true:=by rw[tQ R.lt,S,Lc]
 have K:0<times p z.at_ h:=by unfold times;lia
 have J:dY t p h z<=k:=by rw[R.MS];lia
 have T:0<=dY t p h z->dY t p h z/(times p z.at_ h:Nat)<=k:=λq=>by have:=Uv (times p z.at_ h:Nat) q;lia
 unfold lens at Z;cases N:met p z.at_ h with
 |true=>
  rw[N,aD rfl]at Z;obtain⟨f,s,C,L,M,E⟩:=R.x8 N O;have W:=G_ (t:=t) (by rw[E];exact R.apart h R.Q4);rw[M,W]at Z;have G:j=f.count:=by simpa using Z
  unfold Hs.choice hold;rw[L];simp only;have Q:z.held.getD s .az=hv t p f:=by have:=M;unfold eU at this;rw[L]at this;exact this
  rw[Q,aD]
  .rfl
  .refine⟨Rl,λq=>?_⟩;have:=fq j3 q;rw[W]at this;simp only[j3,lu,nj]at this;have I:=(i9 R.w).dc z.node R.nd (cI _);unfold dc at this;rw[I]at this;simp at this;have:=R.full;rw[mq R.nd]at this;lia
 |false=>
  rw[N,ao byB]at Z;exfalso;split at Z
  .split at Z
   .simp at Z
   .rename_i H;have P:0<=dY t p h z:=by
     rcases afm (dY t p h z) 0 with q|q
     .exact absurd (.inl q) H
     .exact q
    have:=T P;simp at Z;lia
  .have F:=iB.mp (X8 Z);rcases afm (dY t p h z) 0 with q|q
   .have:dY t p h z/(times p z.at_ h:Nat)<0:=Uu q byA;lia
   .have:=T q;lia
theorem cM.flat(R:cM t p base h m k r ks z b):dH t p ((m+1)::r) (k::ks) z b=(lens t p h z).flatMap (i7 t p h m k r ks z b):=by rw[R.spec];exact ab5 _ (Z1 _ _ _) (aaj _ _ _ _) λj Z=>⟨λ_=>R.aal Z,λ_=>R.Z2 Z⟩
end
end Hs
end
section
namespace Hs
open Sh
variable[aW]
theorem Ao(w:whole 1 t=true)(ip:jZ p=true)(hb:base<J t)(hz:z.at_<J p)(W:p[z.at_]?=O (.row h))(C:dX t p base (cB (aZ p z.at_)) ks z b):
 ∃m k r ks',ks=k::ks'/\cB (aZ p z.at_)=(m+1)::r/\cM t p base h m k r ks' z b:=by
 have wp:=oW ip;obtain⟨m,r,em⟩:=nM wp hz;rw[em]at C;obtain⟨k,ks',e,hl⟩:=wH C.len;subst e;have T:z.at_≠0:=by intro q;rw[q]at W;exact RS ip h W
 have Z:r≠[]:=by intro q;subst q;have hx:=A2 wp (n:=z.at_) byA;have U:=u6 em;rw[hx,ao T]at U;simp at U
 refine⟨m,k,r,ks',Y,em,hz,W,em,C,Z,?_,?_,ad' ip,w,wp,hb⟩
 .cases ks' with
  |nil=>
   have:r=[]:=by simpa using hl
   exact absurd this Z
  |cons y ks'=>exact C.tree.1
 .cases ks' with
  |nil=>
   have:r=[]:=by simpa using hl
   exact absurd this Z
  |cons y ks'=>exact C.tree.2.1
theorem wU(w:whole 1 t=true)(ip:jZ p=true)(hb:base<J t):∀(f:Nat)(s:Spot)(ks:List Nat)(b:ia),J p+1-s.at_<=f->dX t p base (aZ p s.at_) ks s b ->
 lE t p f s=J (dH t p (aZ p s.at_) ks s b)
 |0,s,ks,b,P,C=>by have:=C.le;lia
 |f+1,s,ks,b,P,C=>by
  have wp:=oW ip;unfold lE fz;rcases uJ w wp hb (J p) (J p+1-s.at_) s ks b (aU _) C with⟨h1,h2⟩|⟨z,h1,hle,h2⟩
  .rw[h1,h2];rfl
  .rw[h1];simp only;rcases h2 with⟨hz,hst,ks',b',C',hw,_⟩|⟨hz,b',hw,_⟩
   .obtain⟨h,U⟩:∃h,p[z.at_]?=O (.row h):=by
     rcases hst with q|q
     .lia
     .exact q
    rw[U];obtain⟨m,k,r,Z,e1,e2,R⟩:=Ao w ip hb hz U C';subst e1;rw[hw,e2,R.flat];have Y:∀l:List Nat,(∀j∈l,j∈lens t p h z)->((l.filterMap (choice t p h z)).map (lE t p f)).sum=J (l.flatMap (i7 t p h m k r Z z b')):=by
     intro l
     induction l with
     |nil=>intro _;rfl
     |cons j l T=>
      intro hl;have W:=T λx hx=>hl x (dR _ hx);rw[mP,fO,<-W];rcases cY k j with q|q
      .have S:=R.Gv (hl j byB) q;rw[fR,S];have:i7 t p h m k r Z z b' j=[]:=by unfold i7;rw[ao byA]
       rw[this];simp
      .rcases R.choice q with⟨c1,c2⟩|⟨s',d,c1,c2,c3,c4,c5,c6,c7⟩
       .rw[fR,c1,c2];simp
       .rw[fR,c1];simp only[bL,eN];rw[c7,wU w ip hb f s' _ d byA c6]
    exact Y _ λj Q=>Q
   .rw[hz,fP (aU _),hw];rfl
theorem yg(w:whole 1 t=true)(ip:jZ p=true)(W:u<J t):dX t p u (aZ p 0) [1] (begin t p u) []/\aI (ah t) (begin t p u).node (begin t p u).index=u:=by
 obtain⟨R,U,S⟩:=qU w W;refine⟨⟨Y,⟨Y,.inl ⟨Y,Y⟩⟩,Y,?_,?_,?_,cI _⟩,U⟩
 .show cW t (aI (ah t) (ab t u) (pl t u)) _;rw[U];exact Hl w W
 .intro f Z;simp at Z
 .refine⟨?_,?_,?_,?_⟩
  .simp[begin]
  .intro h;rfl
  .intro h f Z;cases Z
  .intro h s T;show(cu _ HV.az).getD s .az=_;have:heldOf t p (begin t p u).at_ h []=.az:=rfl;rw[this];simp only[fQ,yR];split<;>rfl
theorem LC(w:whole 1 t=true)(ip:jZ p=true)(Z:u<J t):dH t p (aZ p 0) [1] (begin t p u) []=Dt t p u:=by unfold dH Dt;rw[aD Z,(yg w ip Z).2];rfl
theorem Mc(w:whole 1 t=true)(ip:jZ p=true)(Z:u<J t):lE t p (J p+1) (begin t p u)=J (Dt t p u):=by rw[<-LC w ip Z];exact wU w ip Z (J p+1) (begin t p u) [1] [] (by simp[begin]) (yg w ip Z).1
def seek(t:List aO)(p:List aF):Nat->Spot->Bool
 |0,_=>false
 |f+1,s=>match fz t p (J p) s with
  |none=>false
  |some z=>match p[z.at_]? with
   |some (.row h)=>(ee t p h z).any (seek t p f)
   |_=>true
omit [aW] in
theorem DP(g:α->Nat):∀l:List α,decide (0<(l.map g).sum)=l.any λx=>decide (0<g x)
 |[]=>rfl
 |x::l=>by
  have Z:=DP g l;rw[bL,eN,p_,<-Z];by_cases q:0<g x
  .rw[bJ q,bJ byA];rfl
  .rw[bP q];have:g x=0:=by lia
   rw[this,qM,zm]
theorem Eh(t:List aO)(p:List aF):∀(f:Nat)(s:Spot),seek t p f s=decide (0<lE t p f s)
 |0,s=>rfl
 |f+1,s=>by
  have Z:∀(z:Spot)(o:Option aF),(match o with|some (.row h)=>(ee t p h z).any (seek t p f)|_=>true)=decide (0<(match o with|some (.row h)=>((ee t p h z).map (lE t p f)).sum|_=>1)):=by
   intro z o;cases o with
   |none=>rfl
   |some q=>
    cases q with
    |row h=>simp only;rw[DP];congr 1;funext x;exact Eh t p f x
    |one h=>rfl
    |node x c=>rfl
  have e1:seek t p (f+1) s=(match fz t p (J p) s with|none=>false|some z=>match p[z.at_]? with|some (.row h)=>(ee t p h z).any (seek t p f)|_=>true):=rfl
  have e2:lE t p (f+1) s=(match fz t p (J p) s with|none=>0|some z=>match p[z.at_]? with|some (.row h)=>((ee t p h z).map (lE t p f)).sum|_=>1):=rfl
  rw[e1,e2];cases fz t p (J p) s with
  |none=>rfl
  |some z=>exact Z z _
theorem Yl(w:whole 1 t=true)(ip:jZ p=true)(Z:u<J t):seek t p (J p+1) (begin t p u)=(vU t p u).isSome:=by rw[Eh,Mc w ip Z];unfold vU Dt;rw[aD Z,aD Z,ua];cases ways t p [(1,1)] u []<;>simp
def kW(g:Spot->Nat):List Spot->Nat->Option (Spot×Nat)
 |[],_=>U
 |s::l,way=>if way<g s then O (s,way) else kW g l (way-g s)
def pick(t:List aO)(p:List aF)(f h:Nat)(z:Spot)(way:Nat):Option (Spot×Nat):=kW (lE t p f) (ee t p h z) way
theorem YT(w:whole 1 t=true)(ip:jZ p=true)(hb:base<J t)(R:cM t p base h m k r ks z b)(N:J p-z.at_<=f)
 (hx:(dH t p ((m+1)::r) (k::ks) z b)[way]?=O x) :
 ∃s d j n,pick t p f h z way=O (s,n)/\j<=k/\s.at_=z.at_+1/\s.node=z.node/\s.index=z.index+j/\eG t b ⟨h,aI (ah t) z.node z.index,j⟩=O d/\dX t p base (aZ p s.at_) ((k-j)::ks) s d /\
  (dH t p (aZ p s.at_) ((k-j)::ks) s d)[n]?=O x:=by
 rw[R.flat]at hx;have U:∀(l:List Nat)(way:Nat),(∀j∈l,j∈lens t p h z)->(l.flatMap (i7 t p h m k r ks z b))[way]?=O x ->
  ∃s d j n,kW (lE t p f) (l.filterMap (choice t p h z)) way=O (s,n)/\j<=k/\s.at_=z.at_+1/\s.node=z.node/\s.index=z.index+j/\eG t b ⟨h,aI (ah t) z.node z.index,j⟩=O d/\dX t p base (aZ p s.at_) ((k-j)::ks) s d /\
   (dH t p (aZ p s.at_) ((k-j)::ks) s d)[n]?=O x:=by
  intro l
  induction l with
  |nil=>intro way _ hx;simp at hx
  |cons j l T=>
   intro way hl hx;have Z:=λW=>T W λy S=>hl y (dR _ S);rw[mP]at hx;rcases cY k j with q|q
   .have Q:=R.Gv (hl j byB) q;have:i7 t p h m k r ks z b j=[]:=by unfold i7;rw[ao byA]
    rw[this,yM]at hx;rw[fR,Q];exact Z way hx
   .rcases R.choice q with⟨c1,c2⟩|⟨s',d,c1,c2,c3,c4,c5,c6,c7⟩
    .rw[c2,yM]at hx;rw[fR,c1];exact Z way hx
    .rw[fR,c1];have ht:lE t p f s'=J (i7 t p h m k r ks z b j):=by rw[c7];exact wU w ip hb f s' _ d byA c6
     unfold kW;rw[ht];rcases cY way (J (i7 t p h m k r ks z b j)) with a|a
     .rw[aD a];rw[fJ a,c7]at hx;exact⟨s',d,j,way,Y,q,c2,c3,c4,c5,c6,hx⟩
     .rw[ao byA];rw[kq a]at hx;exact Z _ hx
 exact U _ way (λj P=>P) hx
theorem Dy:∀(f:Nat)(s z:Spot),s.at_<=target->walk t p target f s=O z->z.at_<=target
 |0,s,z,_,h=>by simp[walk]at h
 |f+1,⟨a,Y,W,held⟩,z,Z,h=>by
  unfold walk at h;simp only at Z;split at h
  .cases h
  .rename_i nd ix U;split at h
   .have:=bH h;rw[<-this];exact Z
   .rename_i T;split at h
    .have:=bH h;rw[<-this];exact Z
    .have:=bH h;rw[<-this];exact Z
    .split at h
     .cases h
     .split at h
      .cases h
      .exact Dy f _ z byA h
    .split at h
     .cases h
     .split at h
      .exact Dy f _ z byA h
      .cases h
def vD(t:List aO)(nd ix:Nat):Nat:=if ix<J (cQ t nd) then dU t nd ix else aV (marks t).ends nd
theorem Zv(w:whole 1 t=true)(hb:base<J t)(W:ic t base ks nd ix)(hx:ix<b7 (ah t) nd\/nd<J t):vD t nd ix=aI (ah t) nd ix:=by
 obtain⟨Y,U⟩:=W.oz w hb;unfold vD;rw[lW w Y];by_cases q:ix<b7 (ah t) nd
 .rw[aD q,xY w Y q]
 .rw[ao q];have Z:nd<J t:=by
   rcases hx with z|z
   .exact absurd z q
   .exact z
  have:ix=b7 (ah t) nd:=by lia
  rw[(i9 w).ends nd (cI _) Z,this,vO (by simpa using Z)]
end Hs
end
section
namespace Hs
open Sh
def iL(p:List aF)(h i:Nat):Bool:=(p[i]?).any (dJ h)
theorem pL(e:iL p h i=true):∃hl:i<J p,dJ h p[i]=true:=by
 unfold iL at e;rcases cY i (J p) with q|q
 .rw[aX q]at e;exact⟨q,by simpa using e⟩
 .rw[fP q]at e;simp at e
theorem Bw(hl:i<J p)(e:dJ h p[i]=true):iL p h i=true:=by unfold iL;rw[aX hl];simpa using e
theorem FD:met p a h=true↔∃i,i<a/\iL p h i=true:=by
 unfold met;rw[qP];constructor
 .rintro⟨q,Y,e⟩;obtain⟨i,hi⟩:=jM Y;rw[Ug]at hi;split at hi
  .rename_i Z;refine⟨i,Z,?_⟩;unfold iL;rw[hi];simpa using e
  .cases hi
 .rintro⟨i,Z,e⟩;obtain⟨hl,W⟩:=pL e;refine⟨p[i],?_,W⟩;apply dm;rw[Ug,aD Z,aX hl]
theorem vF:more p a h=true↔∃i,a<=i/\iL p h i=true:=by
 unfold more;rw[qP];constructor
 .rintro⟨q,Z,e⟩;obtain⟨i,hi⟩:=jM Z;rw[J1]at hi;exact⟨a+i,byA,by unfold iL;rw[hi];simpa using e⟩
 .rintro⟨i,Y,e⟩;obtain⟨hl,W⟩:=pL e;refine⟨p[i],?_,W⟩;apply dm;rw[J1];have:a+(i-a)=i:=by lia
  rw[this,aX hl]
def firstOf(p:List aF)(h:Nat):Nat:=p.findIdx (dJ h)
def kE(p:List aF)(n h:Nat):Nat:=((bA n).filter (iL p h)).getLast?.getD 0
def lastOf(p:List aF)(h:Nat):Nat:=kE p (J p) h
theorem Bh:kE p (n+1) h=if iL p h n=true then n else kE p n h:=by unfold kE;rw[kL,CJ];cases e:iL p h n<;>simp[e]
theorem QV:∀{n:Nat},(∃i,i<n/\iL p h i=true)->kE p n h<n/\iL p h (kE p n h)=true/\∀i,i<n->iL p h i=true->i<=kE p n h
 |0,⟨i,hi,_⟩=>by lia
 |n+1,⟨i,hi,e⟩=>by
  rw[Bh];cases q:iL p h n with
  |true=>rw[aD rfl];exact⟨byA,q,λj W _=>by lia⟩
  |false=>
   rw[ao byB];have Z:i<n:=by
    rcases cY i n with z|z
    .exact z
    .have:i=n:=by lia
     rw[this,q]at e;cases e
   obtain⟨S,T,U⟩:=QV ⟨i,Z,e⟩;refine⟨byA,T,λj W Y=>?_⟩;rcases cY j n with z|z
   .exact U j z Y
   .have:j=n:=by lia
    rw[this,q]at Y;cases Y
theorem HG(e:∃i,iL p h i=true):firstOf p h<J p/\iL p h (firstOf p h)=true/\∀i,iL p h i=true->firstOf p h<=i:=by
 obtain⟨i,hi⟩:=e;obtain⟨hl,Y⟩:=pL hi;have W:=List.findIdx_lt_length_of_exists ⟨p[i],qO hl,Y⟩;refine⟨W,Bw W (List.findIdx_getElem),λj T=>?_⟩;obtain⟨U,Z⟩:=pL T;rcases cY j (firstOf p h) with z|z
 .have:=List.not_of_lt_findIdx z;rw[Z]at this;cases this
 .exact z
theorem BD(e:∃i,iL p h i=true):firstOf p h<a↔met p a h=true:=by obtain⟨W,Y,Z⟩:=HG e;rw[FD];exact⟨λq=>⟨_,q,Y⟩,fun⟨i,hi,ei⟩=>JQ (Z i ei) hi⟩
theorem last_eq(ha:a<J p)(e:dJ h p[a]=true):lastOf p h=a↔more p (a+1) h=false:=by
 have Z:=Bw ha e;obtain⟨S,U,Y⟩:=QV ⟨a,ha,Z⟩;constructor
 .intro q;cases m:more p (a+1) h with
  |false=>rfl
  |true=>obtain⟨i,hi,W⟩:=vF.mp m;obtain⟨hl,_⟩:=pL W;have:=Y i hl W;unfold lastOf at q;lia
 .intro q;have T:=Y a ha Z;rcases cY a (kE p (J p) h) with z|z
  .have:=(vF (a:=a+1)).mpr ⟨kE p (J p) h,byA,U⟩;rw[q]at this;cases this
  .unfold lastOf;lia
theorem ab6(e:∃i,iL p h i=true):firstOf p h≠lastOf p h↔twice p h=true:=by
 obtain⟨W,U,T⟩:=HG e;obtain⟨hl,Y⟩:=pL U;have Z:met p (firstOf p h) h=false:=by
  cases m:met p (firstOf p h) h with
  |false=>rfl
  |true=>exact absurd ((BD e).mpr m) (pY _)
 rw[DI W Y,Z,zm];have:=last_eq W Y;constructor
 .intro q;cases m:more p (firstOf p h+1) h with
  |true=>rfl
  |false=>exact absurd (this.mpr m).symm q
 .intro q z;rw[this.mp z.symm]at q;cases q
theorem GO:h∈iy p↔∃i,iL p h i=true:=by
 rw[mem_keys];constructor
 .rintro⟨q,Z,e⟩;obtain⟨i,hi⟩:=jM Z;exact⟨i,by unfold iL;rw[hi];simpa using e⟩
 .rintro⟨i,e⟩;obtain⟨hl,Y⟩:=pL e;exact⟨_,qO hl,Y⟩
theorem GJ{p:List aF}{n:Nat}(Z:n<J p):iy (p.take (n+1))=match iw p[n] with
 |some h=>mD (iy (p.take n)) h
 |none=>iy (p.take n):=by
 unfold iy;rw[JV,aX Z,CK,ae6];cases e:iw p[n]<;>simp[e]
theorem aed(n:l.Nodup):(mD l h).Nodup:=by
 unfold mD;split
 .exact n
 .rename_i q;exact wm.mpr ⟨n,byB,λx hx y Z=>by
   have:y=h:=by simpa using Z
   rw[this];exact λz=>q (by rw[<-z];exact hx)⟩
theorem aax(p:List aF):(iy p).Nodup:=by
 have:∀(l Z:List Nat),Z.Nodup->(l.foldl mD Z).Nodup:=by
  intro l
  induction l with
  |nil=>intro Z h;exact h
  |cons x l Y=>intro Z h;exact Y _ (aed h)
 exact this _ _ p9
theorem QZ:h∈iy (p.take n)↔met p n h=true:=by rw[mem_keys];unfold met;rw[qP]
def isHole(p:List aF)(a:Nat):Bool:=((p[a]?).bind iw).isSome
def fF(p:List aF):List Nat:=(bA (J p)).filter (isHole p)
def hpos(p:List aF)(i:Nat):Nat:=if i=0 then 0 else aV (fF p) (i-1)+1
theorem Hi(p:List aF):(fF p).Pairwise (· < ·):=ag' _ aeV
theorem Hj:y∈fF p↔y<J p/\isHole p y=true:=by unfold fF;rw[jk,iB]
theorem Rp(R:c<=J p)(hi:∀j y,(fF p)[j]?=O y->y<c->j<i)(hl:i<=J (fF p)):ni p (hpos p i) c:=by
 intro y Y S;cases e:(p[y]?).bind iw with
 |none=>rfl
 |some h=>
  exfalso;have U:y∈fF p:=Hj.mpr ⟨byA,by unfold isHole;rw[e];rfl⟩;obtain⟨j,W⟩:=jM U;have T:=hi j y W S;unfold hpos at Y;rw[ao byA]at Y;obtain⟨Z,Q⟩:=cV.mp W;have e2:aV (fF p) (i-1)=(fF p)[i-1]'(by lia):=by unfold aV;rw[fQ,aX byA];rfl
  rw[e2]at Y;rcases cY j (i-1) with z|z
  .have:=Ct.mp (Hi p) j (i-1) Z byA z;lia
  .have:j=i-1:=by lia
   subst this;lia
theorem Rr(e:(fF p)[i]?=O x):∃(hx:x<J p)(h:Nat),iw p[x]=O h/\hpos p i<=x/\ni p (hpos p i) x/\hpos p (i+1)=x+1:=by
 obtain⟨Z,R⟩:=cV.mp e;obtain⟨hx,Y⟩:=Hj.mp (dm e);unfold isHole at Y;rw[aX hx]at Y;obtain⟨h,Y⟩:=we.mp Y;refine⟨hx,h,Y,?_,?_,?_⟩
 .unfold hpos;split
  .lia
  .rename_i z;have e2:aV (fF p) (i-1)=(fF p)[i-1]'(by lia):=by unfold aV;rw[fQ,aX byA];rfl
   have:=Ct.mp (Hi p) (i-1) i byA Z byA;lia
 .refine Rp byA (λj y U T=>?_) byA;obtain⟨W,S⟩:=cV.mp U;rcases cY j i with z|z
  .exact z
  .rcases TX z with z|z
   .subst z;lia
   .have:=Ct.mp (Hi p) i j Z W z;lia
 .unfold hpos;rw[ao byA,JT];unfold aV;rw[fQ,e];rfl
theorem Rq(p:List aF):ni p (hpos p (J (fF p))) (J p):=
 Rp (aU _) (λj y Z _=>(cV.mp Z).1) (aU _)
theorem abt(h:i<=J (fF p)):hpos p i<=J p:=by
 unfold hpos;split
 .lia
 .have e2:aV (fF p) (i-1)=(fF p)[i-1]'(by lia):=by unfold aV;rw[fQ,aX byA];rfl
  have:=(Hj.mp (qO (l:=fF p) (n:=i-1) byA)).1;lia
theorem AV{p:List aF}{a:Nat}:∀{c:Nat},a<=c->c<=J p->ni p a c->iy (p.take c)=iy (p.take a)/\∀h,met p c h=met p a h/\kE p c h=kE p a h
 |0,h,_,_=>by
  have:a=0:=by lia
  subst this;exact⟨Y,λh=>⟨Y,Y⟩⟩
 |c+1,h,R,W=>by
  rcases TX h with z|z
  .rw[z];exact⟨Y,λh=>⟨Y,Y⟩⟩
  .obtain⟨S,T⟩:=AV (c:=c) byA byA (λi x y=>W i x byA);have Z:c<J p:=by lia
   have e:=W c byA byA;rw[aX Z]at e;have e:iw p[c]=U:=e;refine⟨by rw[GJ Z,e];exact S,λh=>?_⟩;have e1:dJ h p[c]=false:=by unfold dJ;rw[e];rfl
   rw[vG Z,e1,Dd,Bh,ao]
   .exact T h
   .intro z;obtain⟨_,z⟩:=pL z;rw[e1]at z;cases z
theorem M_:∀(l:List aF)(k:Nat),(cZ k l).map (·.kids)=dZ k (l.map (·.kids))
 |[],k=>by rw[sY,mO,Ah]
 |q::l,0=>by rw[jQ,D_]
 |q::l,k+1=>by exact M_ l _
theorem M8:∀(l:List aF)(k:Nat),cZ k l=l.drop (J l-J (cZ k l))
 |[],k=>by rw[sY];rfl
 |q::l,0=>by rw[jQ];simp
 |q::l,k+1=>by
  show cZ (k+q.kids) l=(q::l).drop ((J l+1)-J (cZ (k+q.kids) l));have Y:=M8 l (k+q.kids);have Z:=sZ l (k+q.kids);have:J l+1-J (cZ (k+q.kids) l)=(J l-J (cZ (k+q.kids) l))+1:=by lia
  rwa [this,J7]
theorem X7{p:List aF}{n k:Nat}(h:n<=J p):cZ k (p.drop n)=p.drop (pa (aY p) n k):=by
 have e1:J (dZ k ((aY p).drop n))=J (cZ k (p.drop n)):=by have:=M_ (p.drop n) k;rw[oK]at this;show(dZ k ((p.map _).drop n)).length=_;rw[<-this,aM]
 have Z:=sZ (p.drop n) k;rw[nj]at Z;rw[M8,uD,nj];congr 1;unfold pa;rw[e1,g_];omega
theorem Eb{p:List aF}:∀(m n:Nat),n<=J p->cy (J p) m (p.drop n)=((bA m).map (pa (aY p) n)).filterMap (λi=>p[i]?)
 |0,n,h=>by rw[uY];rfl
 |m+1,n,h=>by
  rcases cY n (J p) with z|z
  .have Z:n<J (aY p):=by rw[g_];exact z
   rw[kr z];obtain⟨L,Y⟩:∃L,J p=L+1:=⟨J p-1,byA⟩;have e1:cy (J p) (m+1) (p[n]::p.drop (n+1))=p[n]::cy (J p) m (p.drop (pa (aY p) n 1)):=by
    have:cy (J p) (m+1) (p[n]::p.drop (n+1))=p[n]::cy L m (cZ p[n].kids (p.drop (n+1))):=by rw[Y];rfl
    rw[this,X7 byA];congr 1;have e2:pa (aY p) (n+1) p[n].kids=pa (aY p) n 1:=by rw[xF Z];congr 1;simp
    rw[e2];have:=rC (k:=1) Z byA;apply s_<;>rw[nj]<;>lia
   rw[e1,Eb m _ (by have:=@tM (aY p) n 1;rw[g_]at this;exact this),yL,bL,fR,nH byA,aX z];congr 2;rw[iZ];apply kj;intro i _;show pa _ _ _=pa _ _ (i+1);rw[wh i 1,l7 byA]
  .have:n=J p:=by lia
   subst this;rw[uC,uX];symm;rw[ae'];intro i hi;obtain⟨j,_,rfl⟩:=kM.mp hi;have:=@Ze (aY p) j;rw[g_]at this;rw[this];simp
theorem RD:(List.range' s n)[i]?=if i<n then O (s+i) else U:=by
 by_cases z:i<n
 .rw[aD z,aX (by simpa using z)];simp
 .rw[ao z,fP (by simpa using z)]
def jI(p:List aF)(a:Nat):List Nat:=(rowAt (lay (aY p)).rows (aV (lay (aY p)).above a)).drop (aV (lay (aY p)).places a+1)
structure Lg(p:List aF)(a:Nat):Prop where
 up:aV (lay (aY p)).above a<=J p
 lt:∀i∈jI p a,i<J p
 is:dM p a=(jI p a).filterMap (λi=>p[i]?)
 Te:(lay (aY p)).above[a]?=O (aV (lay (aY p)).above a)
 O4:(lay (aY p)).places[a]?=O (aV (lay (aY p)).places a)
theorem yq(h:l[i]?=O x):aV l i=x:=by unfold aV;rw[fQ,h];rfl
theorem S8(w:ir 1 p=true)(ha:a<J p)(O:p[a].kids=0):Lg p a:=by
 obtain⟨m,r,e⟩:=nM w ha;obtain⟨u,j,R,S,W,M,N⟩:=YR w ha e;have U:a<J (aY p):=by rw[g_];exact ha
 have Z:=(mY (kF w)).row u (by rw[g_];exact W);have e1:=yq R;have e2:=yq S;have hb:jI p a=(bA m).map λi=>aI (aY p) u (j+1+i):=by
  unfold jI;rw[e1,e2,Z,M,<-oK,aeU,aeU,List.drop_range'];have:j+1+m-(j+1)=m:=by lia
  rw[this];apply J5;intro i;rw[bM,bM,RD,RD];by_cases z:i<m
  .simp[z]
  .simp[z]
 have Y:∀i,aI (aY p) u (j+1+i)=pa (aY p) (a+1) i:=by
  intro i;have P:aI (aY p) u (j+1)=a+1:=by
   rw[k7 (by rw[g_];exact W),N,xF U];have:(aY p)[a]=0:=by simpa using O
   rw[this,nH byA]
  have Q:aI (aY p) u (j+1+i)=pa (aY p) (aI (aY p) u (j+1)) i:=by
   unfold aI;split
   .exact l7 byA
   .exact l7 (by rw[g_];rename_i q;rw[g_]at q;lia)
  rw[Q,P]
 refine⟨by rw[e1];exact W,?_,?_,by rw[e1];exact R,by rw[e2];exact S⟩
 .intro i hi;rw[hb]at hi;obtain⟨i',T,rfl⟩:=kM.mp hi;have:=jW (kF w) (j:=j+1+i') (by rw[g_];exact W) (by have:=iB.mp T;lia)
  rwa [g_]at this
 .unfold dM;rw[e,hb];show cy (J p) (m+1-1) _=_;rw[JT,Eb m (a+1) byA];congr 1;apply kj;exact λi _=>(Y i).symm
theorem Jk(B:Lg p a):J (dM p a)=J (jI p a):=by
 rw[B.is];have:∀l:List Nat,(∀i∈l,i<J p)->J (l.filterMap (λi=>p[i]?))=J l:=by
  intro l
  induction l with
  |nil=>intro _;rfl
  |cons x l Z=>intro h;rw[fR,aX (h x byB)];simp only[iI];rw[Z λi hi=>h i (by simp[hi])]
 exact this _ B.lt
theorem BY(h:g∈cj (dM p a)):more p (a+1) g=true:=by have Y:=mX.mp h;have Z:=xm Y;exact FA Z (by simp[dJ,iw])
def jP(p:List aF)(g:Nat):Nat:=(mR p).idxOf g
theorem aat(Z:g∈known p a h):fu p g=O (jP p g):=by obtain⟨U,W⟩:=jk.mp Z;have Y:=BY (jk.mp U).1;unfold fu;rw[aD];rfl;obtain⟨i,hi,S⟩:=FD.mp W;obtain⟨hl,e⟩:=pL S;rw[DI hl e];obtain⟨j,R,T⟩:=vF.mp Y;have:=(vF (a:=i+1)).mpr ⟨j,byA,T⟩;rw[this,UH]
variable[aW]
def yw(t:List aO):Nat->Nat->Nat->Prop
 |0,_,_=>True
 |k+1,nd,ix=>nd<=J t/\(ix=J (cQ t nd)->nd<J t/\yw t k (ab t nd) (pl t nd+1))
omit [aW] in
theorem Nh(w:whole 1 t=true)(hb:base<J t):∀{k:Nat}{ks:List Nat}{nd ix:Nat},ic t base ks nd ix->k<J ks->yw t k nd ix/\∀jq ix',iK t k nd ix=O (jq,ix')->ic t base (ks.drop k) jq ix'/\jq<=J t
 |0,ks,nd,ix,Z,_=>⟨qJ,λjq ix' e=>by
  have Y:=e;injection Y with Y
  injection Y with e1 e2
  subst e1 e2;exact⟨by simpa using Z,(Z.oz w hb).1⟩⟩
 |k+1,[],nd,ix,Z,_=>Z.elim
 |k+1,[_],nd,ix,Z,h=>by simp at h
 |k+1,Q::R::ks,nd,ix,Z,h=>by
  obtain⟨S,P,T⟩:=Z;obtain⟨U,W⟩:=Nh w hb (k:=k) T (by simp at h ⊢;lia);refine⟨⟨byA,λ_=>⟨S,U⟩⟩,λjq ix' e=>?_⟩;unfold iK at e;split at e
  .cases e
  .exact W jq ix' e
omit [aW] in
theorem Yb(wp:ir 1 p=true)(ha:a<=J p)(hl:J (aZ p a)=J ks)(Z:ks≠[]):eV p a<J ks:=by
 have Y:0<J ks:=List.length_pos_iff.mpr Z;unfold eV;split
 .rename_i h;obtain⟨m,r,e⟩:=nM wp h;rw[e,<-hl];simp;rw[hl];omega
 .omega
omit [aW] in
theorem ic.ne(h:ic t base ks nd ix):ks≠[]:=by intro z;subst z;exact h
theorem ME(w:whole 1 t=true)(wp:ir 1 p=true)(hb:base<J t)(C:dX t p base (aZ p a) ks ⟨a,qz,qA,held⟩ b):
 yw t (eV p a) qz qA/\∀nd ix,iK t (eV p a) qz qA=O (nd,ix)->nd<=J t/\(a<J p->∃ks',dX t p base (cB (aZ p a)) ks' ⟨a,nd,ix,held⟩ b):=by
 have W:=C.le;have T:=Yb wp W C.len C.tree.ne;obtain⟨R,S⟩:=Nh w hb C.tree T;refine⟨R,λnd ix e=>⟨(S nd ix e).2,λha=>?_⟩⟩;obtain⟨m,r,em⟩:=nM wp ha;have Z:eV p a=J (aZ p a)-J (cB (aZ p a)):=by unfold eV;rw[aD ha]
 rw[Z]at e;rcases Ec w hb C.len C.tree (by rw[em];simp) with⟨s1,s2⟩|⟨jq,ix',ks',s1,s2,s3,s4,s5,s6⟩
 .simp only at s1;rw[e]at s1;cases s1
 .simp only at s1 s2 s3 s4 s5 s6;rw[e]at s1;injection s1 with s1
  injection s1 with e1 e2
  subst e1 e2;have Y:ks'.sum=ks.sum:=by
   have:=xo s2
   rwa [uS s3,uS C.len]at this
  have U:(cB (aZ p a)).getLast? = ks'.getLast?:=by have:=u6 em;rw[em,<-this,C.bot,<-s6]
  refine⟨ks',s3,s4,U,?_,C.good,C.held,W⟩;rw[s5,Y];exact C.has
section
variable(w:whole 1 t=true)(wp:wholePat 1 p=true)(hb:base<t.length)(ha:a<p.length)(C1:dX t p base (cB (aZ p a)) ks' ⟨a,nd,ix,held⟩ b)
include w wp hb ha C1
theorem z_(hz:ix≠J (cQ t nd)):∃m r k Z,cB (aZ p a)=(m+1)::r/\ks'=(k+1)::Z/\J r=J Z/\ix<J (cQ t nd)/\dU t nd ix=aI (ah t) nd ix/\dU t nd ix<J t:=by obtain⟨m,r,em⟩:=nM wp ha;have P:=C1.len;have T:=C1.tree;have U:=C1.bot;obtain⟨k,Z,e,S⟩:=wH (ks:=ks') (by rw[<-em];exact P);subst e;rw[em]at U;have R:=Sd w hb T U S;have M:k≠0:=λz=>hz (R.mp z);obtain⟨k,rfl⟩:∃j,k=j+1:=⟨k-1,byA⟩;obtain⟨N,O⟩:=T.into w hb;have Q:=T.there w hb;have W:=xY w (T.oz w hb).1 Q;exact⟨m,r,k,Z,em,Y,S,by rw[lW w (T.oz w hb).1];exact Q,W,by rw[W];exact O⟩
theorem SW(W:J r=J Z)(Y:((m+1)::r).getLast? = ((k+1)::Z).getLast?):(m::r).getLast? = (k::Z).getLast?:=by
 cases r with
 |nil=>
  have U:Z=[]:=by simpa using W.symm
  subst U;have:m+1=k+1:=by simpa using Y
  have:m=k:=by lia
  rw[this]
 |cons y r=>
  cases Z with
  |nil=>simp at W
  |cons T Z=>rw[kN,kN]at Y ⊢;exact Y
theorem WN(N:p[a]=.node x c)(hz:ix≠J (cQ t nd)):∃ks,dX t p base (aZ p (a+1)) ks ⟨a+1,dU t nd ix,0,held⟩ b:=by
 obtain⟨m,r,k,Z,em,e,T,I,S,P⟩:=z_ w wp hb ha C1 hz;subst e;have M:=C1.tree;have Y:=C1.bot;rw[em]at Y;have U:aZ p (a+1)=c::m::r:=by
  conv=>lhs;unfold aZ
  rw[em,aX ha,N]
 rw[S]at P ⊢;obtain⟨L,Q⟩:=M.into w hb;have R:cW t (aI (ah t) nd ix+1) ((t[aI (ah t) nd ix]).kids+(k+Z.sum)):=by
  refine Bv Q ?_;have O:=C1.has;simp only[eN]at O;have e:k+1+Z.sum=k+Z.sum+1:=by lia
  rw[e]at O;exact O
 refine⟨(t[aI (ah t) nd ix]).kids::k::Z,?_,?_,?_,?_,C1.good,?_,ha⟩
 .rw[U];simp[T]
 .have:=L
  rwa [mq Q]at this
 .rw[U,kN,kN];exact SW w wp hb ha C1 T Y
 .simp only;rw[Bl Q];simpa [eN]using R
 .simp only;have W:∀h',dJ h' p[a]=false:=by intro h';rw[N];rfl
  refine⟨C1.held.len,λh'=>?_,C1.held.ones,λh' s' K=>?_⟩
  .rw[vG ha,W,Dd];exact C1.held.met h'
  .rw[C1.held.val h' s' K];unfold heldOf;rw[tQ ha,W,zm]
theorem MF(L:p[a]=.one h)(hz:ix≠J (cQ t nd))(I:hold p held a h (.one (fN t (dU t nd ix)))=O hd):∃ks d,dX t p base (aZ p (a+1)) ks ⟨a+1,nd,ix+1,hd⟩ d/\eG t b ⟨h,dU t nd ix,1⟩=O d/\dH t p (cB (aZ p a)) ks' ⟨a,nd,ix,held⟩ b=dH t p (aZ p (a+1)) ks ⟨a+1,nd,ix+1,hd⟩ d:=by
 obtain⟨m,r,k,S,em,e,P,F,N,H⟩:=z_ w wp hb ha C1 hz;subst e;have G:=C1.tree;have U:=C1.bot;rw[em]at U;have T:aZ p (a+1)=m::r:=by
  conv=>lhs;unfold aZ
  rw[em,aX ha,L]
 rw[N]at H I ⊢;have Q:=(G.oz w hb).1;have R:dN h∈p:=by rw[<-L];exact qO ha
 have W:=C1.has;simp only[eN]at W;have M:cW t (aI (ah t) nd ix) 1:=W.mono byA;have K:hv t p ⟨h,aI (ah t) nd ix,1⟩=.one (fN t (aI (ah t) nd ix)):=by unfold hv;rw[aD R]
 have Z:=Bs w ha (f:=⟨h,aI (ah t) nd ix,1⟩) (by rw[L];rfl) C1.held C1.good ⟨byA,M⟩ (λ_=>Y);rw[K]at Z;simp only at Z;rcases Z with⟨o1,o2⟩|⟨hdn,d,o1,o2,o3⟩
 .rw[I]at o1;cases o1
 .rw[I]at o1;have:=bH o1;subst this;refine⟨k::S,d,⟨?_,?_,?_,?_,?_,o3,ha⟩,o2,?_⟩
  .rw[T];simp[P]
  .exact G.next
  .rw[T];exact SW w wp hb ha C1 P U
  .simp only;rw[k7 (by simpa using Q)];refine cW.part byA W ?_;simp only[eN];lia
  .exact rS C1.good byA M o2
  .unfold dH;rw[em,T,kr ha,L]
   conv=>lhs;unfold ways
   simp only[wk,fZ];rw[ao byA,o2,oZ byA,k7 (by simpa using Q)];rfl
theorem abA{h:Nat}(P:p[a]=.one h){x:ia}{way:Nat}(hx:(dH t p (cB (aZ p a)) ks' ⟨a,nd,ix,held⟩ b)[way]?=O x):ix<J (cQ t nd)/\∃hd,hold p held a h (.one (fN t (dU t nd ix)))=O hd:=by
 obtain⟨m,r,em⟩:=nM wp ha;have M:=C1.tree;obtain⟨k,L,e,I⟩:=wH (ks:=ks') (by rw[<-em];exact C1.len);subst e;have Z:=dm hx;unfold dH at Z;simp only at Z;rw[em,kr ha,P]at Z;unfold ways at Z;simp only[wk,fZ]at Z;split at Z
 .simp at Z
 .rename_i H;obtain⟨k,rfl⟩:∃j,k=j+1:=⟨k-1,byA⟩;have K:=M.there w hb;have S:=(M.oz w hb).1;have R:=xY w S K;refine⟨by rw[lW w S];exact K,?_⟩;rw[R];have T:dN h∈p:=by rw[<-P];exact qO ha
  have U:=C1.has;simp only[eN]at U;have N:cW t (aI (ah t) nd ix) 1:=U.mono byA;have Q:hv t p ⟨h,aI (ah t) nd ix,1⟩=.one (fN t (aI (ah t) nd ix)):=by unfold hv;rw[aD T]
  have W:=Bs w ha (f:=⟨h,aI (ah t) nd ix,1⟩) (by rw[P];rfl) C1.held C1.good ⟨rM,N⟩ (λ_=>Y);rw[Q]at W;simp only at W;rcases W with⟨o1,o2⟩|⟨hdn,d,o1,o2,o3⟩
  .rw[o2]at Z;simp at Z
  .exact⟨hdn,o1⟩
end
def qe(t:List aO)(p:List aF)(target f:Nat)(s:Spot):Option Spot:=if s.at_=target then O s else match p[s.at_]? with
 |none=>O s
 |some (.row _)=>O s
 |some (.one h)=>if s.index=J (cQ t s.node) then U else match hold p s.held s.at_ h (.one (fN t (dU t s.node s.index))) with
  |none=>U
  |some hd=>walk t p target f ⟨s.at_+1,s.node,s.index+1,hd⟩
 |some (.node x _)=>if s.index=J (cQ t s.node) then U else if x=jV t (dU t s.node s.index) then walk t p target f ⟨s.at_+1,dU t s.node s.index,0,s.held⟩ else U
theorem Vl:walk t p target (f+1) s=match iK t (eV p s.at_) s.node s.index with
 |none=>U
 |some (nd,ix)=>qe t p target f ⟨s.at_,nd,ix,s.held⟩:=by
 obtain⟨a,Z,Y,held⟩:=s
 conv=>lhs;unfold walk
 cases iK t (eV p a) Z Y with
 |none=>rfl
 |some z=>obtain⟨nd,ix⟩:=z;rfl
end Hs
end
section
namespace Hs
open Sh
variable[aW]
def eB(t:List aO)(p:List aF)(s:Spot):Nat:=lE t p (J p+1) s
section
variable(w:whole 1 t=true)(ip:isPat p=true)(hb:base<t.length)
include w ip hb
theorem Mb(C:dX t p base (aZ p s.at_) ks s b)(Z:J p+1-s.at_<=f):lE t p f s=eB t p s:=by unfold eB;rw[wU w ip hb f s ks b Z C,wU w ip hb (J p+1) s ks b (by omega) C]
theorem By(C:dX t p base (aZ p s.at_) ks s b)(e:fz t p (J p) s=O z):s.at_<=z.at_/\(z.at_=J p\/(z.at_<J p/\∃h m k r ks' b',p[z.at_]?=O (.row h)/\cM t p base h m k r ks' z b')):=by
 have wp:=oW ip;unfold fz at e;rcases uJ w wp hb (J p) (J p+1-s.at_) s ks b (aU _) C with⟨h1,h2⟩|⟨z',h1,hle,h2⟩
 .rw[h1]at e;cases e
 .rw[h1]at e;have:=bH e;subst this;refine⟨hle,?_⟩;rcases h2 with⟨hz,hst,ks',b',C',hw,_⟩|⟨hz,b',hw,_⟩
  .right;obtain⟨h,Y⟩:∃h,p[z'.at_]?=O (.row h):=by
    rcases hst with q|q
    .lia
    .exact q
   obtain⟨m,k,r,Z,e1,e2,R⟩:=Ao w ip hb hz Y C';exact⟨hz,h,m,k,r,Z,b',Y,R⟩
  .exact .inl hz
omit w ip hb in
theorem vH(R:cM t p base h m k r ks z b)(Z:s∈ee t p h z):s.at_=z.at_+1/\∃ks' d,dX t p base (aZ p s.at_) ks' s d:=by
 obtain⟨j,Y,e⟩:=qN.mp Z;rcases cY k j with q|q
 .rw[R.Gv Y q]at e;cases e
 .rcases R.choice q with⟨h1,_⟩|⟨s',d,h1,h2,h3,h4,h5,h6,h7⟩
  .rw[h1]at e;cases e
  .rw[h1]at e;have:=bH e;subst this;exact⟨h2,_,d,h6⟩
theorem Mf(C:dX t p base (aZ p s.at_) ks s b):eB t p s=match fz t p (J p) s with
 |none=>0
 |some z=>match p[z.at_]? with
  |some (.row h)=>((ee t p h z).map (eB t p)).sum
  |_=>1:=by
 conv=>lhs;unfold eB lE
 cases e:fz t p (J p) s with
 |none=>rfl
 |some z=>
  simp only;obtain⟨T,W|⟨W,h,m,k,r,ks',b',U,R⟩⟩:=By w ip hb C e
  .rw[W,fP (aU _)]
  .rw[U];simp only;congr 1;apply kj;intro s' Z;obtain⟨e1,Y,d,S⟩:=vH R Z;exact Mb w ip hb S (by omega)
end
def kU(p:List aF)(a:Nat):Nat:=J (cj (p.drop a))
def cnt(n:Nat):Nat->Nat
 |0=>1
 |1=>2
 |r+2=>1+n*cnt n (r+1)
omit [aW] in
theorem adH(n:Nat):∀r,1<=cnt n r
 |0=>aU _
 |1=>by show 1<=2;lia
 |r+2=>by unfold cnt;lia
omit [aW] in
theorem adI(Z:1<=n):∀r,cnt n r<=cnt n (r+1)
 |0=>by show 1<=2;lia
 |r+1=>by show _<=1+n*cnt n (r+1);have:=Nat.le_mul_of_pos_left (cnt n (r+1)) Z;lia
omit [aW] in
theorem Jd(Y:1<=n):∀{Z:Nat},r<=Z->cnt n r<=cnt n Z
 |0,h=>by
  have:r=0:=by lia
  subst this;exact aU _
 |Z+1,h=>by
  rcases cY Z r with q|q
  .have:r=Z+1:=by lia
   subst this;exact aU _
  .exact eL (Jd Y q) (adI Y Z)
omit [aW] in
theorem Ys(h:l.Sublist l'):J (cj l)<=J (cj l'):=by exact(h.filterMap _).length_le
omit [aW] in
theorem OB(h:a<=b):kU p b<=kU p a:=by
 apply Ys;have:p.drop b=(p.drop a).drop (b-a):=by rw[uD];congr 1;lia
 rw[this];exact List.drop_sublist _ _
omit [aW] in
theorem Yt(e:p[a]?=O (.row h)):kU p a=kU p (a+1)+1:=by have ha:=(cV.mp e).1;have Z:=(cV.mp e).2;unfold kU;rw[kr ha,Z];rfl
omit [aW] in
theorem L5(w:whole 1 t=true)(hb:base<J t):∀{ks:List Nat}{k Z nd ix:Nat},ic t base (k::Z::ks) nd ix->(k::Z::ks).getLast? = O 0->base<=nd
 |[],k,Z,nd,ix,W,hl=>by
  obtain⟨T,L,Y⟩:=W;have H:Z=0:=by simpa using hl
  obtain⟨M,N⟩:=Y;have P:pl t nd=pl t base:=by
   rcases N with⟨q,_⟩|⟨_,q⟩
   .lia
   .lia
  have S:=(qU w T).2.1;have R:=(qU w hb).2.1;rw[M,P,R]at S;lia
 |Q::ks,k,Z,nd,ix,W,hl=>by obtain⟨T,L,Y⟩:=W;have U:=Y;obtain⟨K,F,G⟩:=U;have I:=L5 w hb Y (by rw[kN]at hl;exact hl);have S:=(qU w T).2.1;have:=tZ (cs:=ah t) (j:=pl t nd) (by simpa using K);lia
section
theorem cM.ge(R:cM t p base h m k r ks z b)(W:z.at_≠0):base<=z.node:=by
 have hl:=A2 R.wp (JS R.lt);rw[ao W,u6 R.em,R.C.bot]at hl;have Z:=R.C.len;have Y:=R.C.tree;cases ks with
 |nil=>
  have:r=[]:=by simpa using Z
  exact absurd this R.rn
 |cons U ks=>exact L5 R.w R.hb Y hl
theorem cM.width(R:cM t p base h m k r ks z b):z.node+J (cQ t z.node)+1<=J t:=by
 have U:=R.nd;rw[lW R.w byA];rcases wg (b7 (ah t) z.node) with q|q
 .lia
 .have Z:∀j,j<b7 (ah t) z.node->z.node+1+j<=aI (ah t) z.node j:=by
   intro j
   induction j with
   |zero=>intro _;rw[Bl U];lia
   |succ j W=>intro S;have T:=W byA;have Y:=jW (jO R.w) (u:=z.node) (j:=j) byE byA;rw[k7 byE];have:=rC (k:=1) Y byA;lia
  have T:=Z (b7 (ah t) z.node-1) byA;have Y:=jW (jO R.w) (u:=z.node) (j:=b7 (ah t) z.node-1) byE byA;simp only[aM]at Y;lia
theorem cM.aak(R:cM t p base h m k r ks z b)(K:z.at_≠0):J (ee t p h z)<=if kU p (z.at_+1)=0 then 1 else J t-base:=by
 have O:=R.ge K;have U:=R.width;have L:J (ee t p h z)<=J (lens t p h z):=by unfold ee;exact wz _ _
 refine eL L ?_;have Z:1<=if kU p (z.at_+1)=0 then 1 else J t-base:=by
  split
  .exact aU _
  .have:=R.hb;lia
 unfold lens;split
 .simpa using Z
 .split
  .split
   .simp
   .simpa using Z
  .rename_i Q;have Y:kU p (z.at_+1)≠0:=by
    intro q;apply Q;have e:cj (dM p z.at_)=[]:=by
     cases P:cj (dM p z.at_) with
     |nil=>rfl
     |cons g l=>
      exfalso;have N:g∈cj (dM p z.at_):=by rw[P];simp
      have M:=xm (mX.mp N);have W:=mX.mpr M;rw[Cw.mp q]at W;cases W
    unfold qm known;rw[e];rfl
   rw[ao Y];refine eL xj.length_le ?_;rw[ko];have S:dY t p h z<=J (cQ t z.node):=by unfold dY;lia
   have T:(1:Int)<=(times p z.at_ h:Nat):=by unfold times;lia
   rcases(show dY t p h z<0\/0<=dY t p h z by lia) with y|y
   .have:dY t p h z/(times p z.at_ h:Nat)<0:=Uu y byA;lia
   .have:=Uv (times p z.at_ h:Nat) y;lia
theorem cM.adG(R:cM t p base h m k r ks z b)(U:z.at_≠0):J (ee t p h z)*cnt (J t-base) (kU p (z.at_+1))+1<=cnt (J t-base) (kU p z.at_):=by
 have Y:=R.aak U;rw[Yt R.is];cases W:kU p (z.at_+1) with
 |zero=>rw[W,aD rfl]at Y;show(ee t p h z).length*1+1<=2;lia
 |succ Z=>rw[W,ao byA]at Y;show(ee t p h z).length*cnt (J t-base) (Z+1)+1<=1+(J t-base)*cnt (J t-base) (Z+1);have:=aeO (cnt (J t-base) (Z+1)) Y;lia
end
def BR(n:Nat):Nat:=((bA n).map λi=>cnt (i+1) 3).sum
omit [aW] in
theorem adJ(h:n<=m):BR n<=BR m:=by
 induction m with
 |zero=>
  have:n=0:=by lia
  subst this;exact aU _
 |succ m Z=>
  rcases cY m n with q|q
  .have:n=m+1:=by lia
   subst this;exact aU _
  .refine eL (Z q) ?_;unfold BR;rw[kL,dw,JX];lia
omit [aW] in
theorem adK:BR 256<=12000000:=by decide +kernel
omit [aW] in
theorem Mv(f:Nat->Nat):∀(T:Nat)(Z:List Nat),Z.Nodup->(∀u∈Z,u<T)->(Z.map f).sum<=((bA T).map f).sum
 |0,Z,_,h=>by
  cases Z with
  |nil=>exact aU _
  |cons x Z=>have:=h x byB;lia
 |T+1,Z,S,h=>by
  rw[kL,dw,JX];have O:=Mv f T (Z.filter (·≠T)) (S.filter _) (λu Q=>by
   have:=jk.mp Q;have M:=h u this.1;have N:u≠T:=by simpa using this.2
   lia)
  have Y:∀V:List Nat,V.Nodup->(V.map f).sum<=((V.filter (·≠T)).map f).sum+f T:=by
   intro V
   induction V with
   |nil=>intro _;simp
   |cons x V W=>
    intro hv;obtain⟨hx,U⟩:=jL.mp hv;by_cases e:x=T
    .subst e;have P:V.filter (·≠x)=V:=yT.mpr λy R=>by simp;intro z;exact hx (by rw[<-z];exact R)
     rw[wA byB,P,bL,eN];lia
    .rw[yU (by simpa using e),bL,bL,eN,eN];have:=W U;lia
  have:=Y Z S;simp only[bL,mO,eN,JW];lia
omit [aW] in
theorem Mu(f:Nat->Nat):∀T:Nat,((bA T).map λu=>f (T-u)).sum=((bA T).map λi=>f (i+1)).sum
 |0=>rfl
 |T+1=>by
  conv=>lhs;rw[yL,bL,iZ,eN]
  conv=>rhs;rw[kL,dw,JX]
  have e:(bA T).map ((λu=>f (T+1-u)) ∘ Nat.succ)=(bA T).map λu=>f (T-u):=by apply kj;intro u _;show f (T+1-(u+1))=f (T-u);congr 1;lia
  rw[e,Mu f T];simp only[bL,mO,eN,JW];rw[TR];lia
omit [aW] in
theorem aeb{T:Nat}(U:T<=256){Z:List Nat}(Y:Z.Nodup)(W:∀u∈Z,u<T):(Z.map λu=>cnt (T-u) 3).sum<=12000000:=by refine eL (Mv _ T Z Y W) ?_;rw[Mu (λn=>cnt n 3) T];exact eL (adJ U) adK
end Hs
end
section
namespace Hs
open Sh
variable[aW]
def jS(t:List aO)(p:List aF)(s:Spot):List Spot:=match fz t p (J p) s with
 |none=>[]
 |some z=>match p[z.at_]? with
  |some (.row h)=>ee t p h z
  |_=>[]
def reach(t:List aO)(p:List aF):Nat->Spot->List Spot
 |0,s=>[s]
 |f+1,s=>s::(jS t p s).flatMap (reach t p f)
def mE(t:List aO)(p:List aF):List Spot:=(bA (J t)).flatMap λu=>reach t p (J p+1) (begin t p u)
theorem OH:∀(f:Nat)(s:Spot),s∈reach t p f s
 |0,s=>by simp[reach]
 |f+1,s=>by simp[reach]
omit [aW] in
theorem Yu(ip:jZ p=true)(a:Nat):kU p a<=3:=by refine eL (OB (cI a)) ?_;unfold jZ at ip;simp only[eO,m9]at ip;exact ip.1.2
structure Ask(t:List aO)(p:List aF):Prop where
 w:j8 1 t=true
 ip:pR p=true
 lp:J p<=32
 lt:J t<=256
section
theorem Qy(w:whole 1 t=true)(ip:jZ p=true)(hb:base<J t)(C:dX t p base (aZ p s.at_) ks s b)(h:s'∈jS t p s):
 ∃z g m k r ks' b',fz t p (J p) s=O z/\s.at_<=z.at_/\z.at_≠0/\p[z.at_]?=O (.row g)/\cM t p base g m k r ks' z b'/\jS t p s=ee t p g z/\s'∈ee t p g z:=by
 unfold jS at h ⊢;cases e:fz t p (J p) s with
 |none=>rw[e]at h;cases h
 |some z=>
  rw[e]at h;simp only at h;obtain⟨W,U|⟨U,g,m,k,r,ks',b',Z,R⟩⟩:=By w ip hb C e
  .rw[U,fP (aU _)]at h;cases h
  .rw[Z]at h;refine⟨z,g,m,k,r,ks',b',Y,W,?_,Z,R,by simp only[Z],h⟩;intro y;rw[y]at Z;exact RS ip g Z
theorem ZE(w:whole 1 t=true)(ip:jZ p=true)(hb:base<J t)(C:dX t p base (aZ p s.at_) ks s b)(h:s'∈jS t p s):s.at_<s'.at_/\∃ks' b',dX t p base (aZ p s'.at_) ks' s' b':=by obtain⟨z,g,m,k,r,ks',b',e1,e2,S,T,R,U,Y⟩:=Qy w ip hb C h;obtain⟨W,Z⟩:=vH R Y;exact⟨byA,Z⟩
theorem Ez(w:whole 1 t=true)(ip:jZ p=true)(hb:base<J t):∀(f:Nat)(s0:Spot)(ks:List Nat)(b:ia),J p+1-s0.at_<=f->dX t p base (aZ p s0.at_) ks s0 b ->
 (∀s∈reach t p f s0,(∃ks b,dX t p base (aZ p s.at_) ks s b)/\∀s'∈jS t p s,s'∈reach t p f s0)/\J (reach t p f s0)<=cnt (J t-base) (kU p s0.at_)
 |0,s0,ks,b,H,C=>by have:=C.le;lia
 |f+1,s0,ks,b,H,C=>by
  have N:∀s1∈jS t p s0,(∀s∈reach t p f s1,(∃ks b,dX t p base (aZ p s.at_) ks s b)/\∀s'∈jS t p s,s'∈reach t p f s1)/\J (reach t p f s1)<=cnt (J t-base) (kU p s1.at_):=λs1 U=>by obtain⟨l,T,F,E⟩:=ZE w ip hb C U;exact Ez w ip hb f s1 T F byA E
  refine⟨λs Y=>?_,?_⟩
  .rcases bE.mp Y with e|e
   .subst e;refine⟨⟨ks,b,C⟩,λs' Z=>?_⟩;exact dR _ (lS.mpr ⟨s',Z,OH _ _⟩)
   .obtain⟨s1,U,W⟩:=lS.mp e;obtain⟨I,K⟩:=(N s1 U).1 s W;exact⟨I,λs' Z=>dR _ (lS.mpr ⟨s1,U,K s' Z⟩)⟩
  .show((jS t p s0).flatMap (reach t p f)).length+1<=_;cases M:jS t p s0 with
   |nil=>exact adH _ _
   |cons x l=>
    obtain⟨z,g,m,k,r,ks',b',e1,e2,G,B,R,L,D⟩:=Qy w ip hb C (s':=x) (by rw[M];simp);have P:=R.adG G;have O:=Jd (n:=J t-base) byA (OB (p:=p) e2);have S:∀l:List Spot,(∀s∈l,J (reach t p f s)<=cnt (J t-base) (kU p (z.at_+1)))->J (l.flatMap (reach t p f))<=J l*cnt (J t-base) (kU p (z.at_+1)):=by
     intro l
     induction l with
     |nil=>intro _;simp
     |cons y l Q=>intro h;rw[mP,fO,iI,TQ];have:=h y byB;have:=Q λs Y=>h s (by simp[Y]);lia
    rw[<-M];have:=S (jS t p s0) (λs Y=>by have W:=(N s Y).2;rw[L]at Y;rw[(vH R Y).1]at W;exact W)
    rw[L]at this ⊢;lia
end
theorem FH(w:whole 1 t=true)(ip:jZ p=true)(U:s∈mE t p):(∃u ks b,u<J t/\dX t p u (aZ p s.at_) ks s b)/\∀s'∈jS t p s,s'∈mE t p:=by obtain⟨u,W,h⟩:=lS.mp U;have Z:=iB.mp W;obtain⟨⟨ks,b,C⟩,T⟩:=(Ez w ip Z (J p+1) (begin t p u) [1] [] (by simp[begin]) (yg w ip Z).1).1 s h;exact⟨⟨u,ks,b,Z,C⟩,λs' Y=>lS.mpr ⟨u,W,T s' Y⟩⟩
theorem BZ(Z:u<J t):begin t p u∈mE t p:=lS.mpr ⟨u,iB.mpr Z,OH _ _⟩
theorem Ti(A:Ask t p):J (mE t p)<=12000000:=by
 have Y:∀l:List Nat,(∀u∈l,u<J t)->J (l.flatMap λu=>reach t p (J p+1) (begin t p u))<=(l.map λu=>cnt (J t-u) 3).sum:=by
  intro l
  induction l with
  |nil=>intro _;simp
  |cons u l W=>intro h;rw[mP,fO,bL,eN];have Z:=h u byB;have S:=(Ez A.w A.ip Z (J p+1) (begin t p u) [1] [] (by simp[begin]) (yg A.w A.ip Z).1).2;have T:=Jd (n:=J t-u) byA (Yu A.ip (begin t p u).at_);have:=W λs U=>h s (by simp[U]);lia
 refine eL (Y _ λu Z=>iB.mp Z) ?_;exact aeb A.lt List.nodup_range λu Z=>iB.mp Z
def HD(t:List aO)(p:List aF)(q:aF)(nd i:Nat)(held:List HV):Bool:=match q with
 |.node x _=>aV (eE t nd) i==x
 |.one g=>match eU p held g with
  |.az=>true
  |v=>HV.one (aV (dc t nd) i)==v
 |_=>true
def fits(t:List aO)(p:List aF):List aF->Nat->Nat->List HV->Bool
 |[],_,_,_=>true
 |q::qs,nd,i,held=>HD t p q nd i held&&fits t p qs nd (i+1) held
theorem ZW:j∈jR t p q nd ix held ls↔j∈ls/\HD t p q nd (ix+j) held=true:=by
 unfold jR HD;cases q with
 |node x c=>exact jk
 |one g=>
  simp only;cases eU p held g with
  |az=>simp
  |one v=>exact jk
  |row v=>exact jk
 |row g=>simp
theorem QF:∀{qs:List aF}{nd ix:Nat}{held:List HV}{ls:List Nat}{j:Nat},j∈lF t p qs nd ix held ls↔j∈ls/\fits t p qs nd (ix+j) held=true
 |[],_,_,_,_,_=>by simp[lF,fits]
 |q::qs,nd,ix,held,ls,j=>by
  unfold lF fits;rw[QF,ZW,eO,and_assoc];have:ix+1+j=ix+j+1:=by lia
  rw[this]
inductive C7(t:List aO)(p:List aF)(z:Spot):Prop
 |mk(h:_)(_:p[z.at_]?=O (.row h))(_:∀s∈ee t p h z,eB t p s=0)
theorem ads(Q:p[a]?=O (.row h))(L:fu p h=U)(H:ix<=ix')(D:C7 t p ⟨a,nd,ix,held⟩):C7 t p ⟨a,nd,ix',held⟩:=by
 obtain⟨h',W,G⟩:=D;simp only at W;rw[Q]at W;injection W with W
 injection W with W
 subst W;refine⟨h,Q,λs R=>G s ?_⟩;have ha:=(cV.mp Q).1;have hpa:=(cV.mp Q).2;obtain⟨J,T⟩:=(DZ ha (by rw[hpa];exact qD Y)).mp L;have ht:times p a h=1:=by
  unfold times;have:(cj (dM p a)).count h=0:=by rw[List.count_eq_zero];intro q;rw[BY q]at T;cases T
  lia
 have K:∀i j,choice t p h ⟨a,nd,i,held⟩ j=O ⟨a+1,nd,i+j,held⟩:=λi j=>by unfold choice hold;rw[L];rfl
 unfold ee at R ⊢;obtain⟨j,Z,e⟩:=qN.mp R;rw[K]at e;have e:=bH e;subst e;refine qN.mpr ⟨ix'-ix+j,?_,by rw[K];congr 2;lia⟩;have P:dY t p h ⟨a,nd,ix,held⟩=dY t p h ⟨a,nd,ix',held⟩+((ix'-ix:Nat):Int):=by unfold dY;lia
 unfold lens at Z ⊢;simp only[J,ht]at Z ⊢;rw[ao byB]at Z ⊢;rw[P];generalize dY t p h ⟨a,nd,ix',held⟩=S at Z;by_cases c:qm p a h=true
 .rw[aD c]at Z ⊢;split at Z
  .cases Z
  .rename_i F;have N:j=(S/((1:Nat):Int)).toNat:=by simpa using Z
   have E:¬S<0:=λy=>F (.inl y);rw[ao]
   .subst N;simp;lia
   .rintro(y|y)
    .lia
    .simp at y
 .rw[ao c]at Z ⊢;rw[QF]at Z ⊢;obtain⟨M,I⟩:=Z;refine⟨?_,?_⟩
  .rw[iB]at M ⊢;simp at M ⊢;lia
  .have:ix+(ix'-ix+j)=ix'+j:=by lia
   rw[this];exact I
end Hs
end
section
namespace Hs
open Sh
variable[aW]
theorem Dv:∀(f:Nat)(s z:Spot),s.at_<=J p->walk t p target f s=O z->(z.at_≠target\/∃h,p[z.at_]?=O (.row h))->walk t p (J p) f s=O z
 |0,s,z,_,h,_=>by simp[walk]at h
 |f+1,⟨a,qz,qA,held⟩,z,hs,h,hz=>by
  have hs':=hs;unfold walk at h ⊢;cases hsh:iK t (eV p a) qz qA with
  |none=>rw[hsh]at h;cases h
  |some y=>
   obtain⟨nd,ix⟩:=y;rw[hsh]at h;simp only at h ⊢;by_cases ht:a=target
   .rw[aD ht]at h;have hzz:=bH h;subst hzz;have abr:∃h,p[a]?=O (.row h):=by
     rcases hz with q|q
     .exact absurd ht q
     .exact q
    obtain⟨h',e⟩:=abr;have hlt:=(cV.mp e).1;rw[ao byA,e]
   .rw[ao ht]at h;by_cases he:a=J p
    .rw[aD he]
     rwa [fP byA]at h
    .rw[ao he];cases hp:p[a]? with
     |none=>rw[hp]at h;exact h
     |some q=>
      rw[hp]at h;cases q with
      |row y=>exact h
      |one y=>
       simp only at h ⊢;split at h
       .cases h
       .rename_i c;rw[ao c];split at h
        .cases h
        .rename_i hd e;exact Dv f _ z byA h hz
      |node y c=>
       simp only at h ⊢;split at h
       .cases h
       .rename_i c2;rw[ao c2];split at h
        .rename_i c3;rw[aD c3];exact Dv f _ z byA h hz
        .cases h
omit [aW] in
theorem Pc:∀{l:List Spot}{way:Nat},(∀s∈l,g s=g' s)->kW g l way=kW g' l way
 |[],_,_=>rfl
 |s::l,way,h=>by
  unfold kW;rw[h s byB];split
  .rfl
  .exact Pc λs' Z=>h s' (by simp[Z])
omit [aW] in
theorem Pb:∀{l:List Spot}{way:Nat}{s:Spot}{n:Nat},kW g l way=O (s,n)->s∈l
 |[],_,_,_,h=>by simp[kW]at h
 |x::l,way,s,n,h=>by
  unfold kW at h;split at h
  .have:=bH h;injection this with e1 e2
   rw[<-e1];simp
  .exact dR _ (Pb h)
theorem Du(W:p[hole]?=O (.one h))(hz:z.at_=hole)(hi:z.index<J (cQ t z.node))(U:hold p z.held hole h (.one (fN t (dU t z.node z.index)))=O hd):∀(f:Nat)(s:Spot),s.at_<=hole->hole-s.at_<f->walk t p hole f s=O z ->
 walk t p (J p) f s=walk t p (J p) (f-(hole-s.at_)-1) ⟨hole+1,z.node,z.index+1,hd⟩
 |0,s,_,R,_=>by lia
 |f+1,⟨a,T,S,held⟩,Q,R,Z=>by
  have P:=(cV.mp W).1;simp only at Q R ⊢;unfold walk at Z
  conv=>lhs;unfold walk
  cases Y:iK t (eV p a) T S with
  |none=>rw[Y]at Z;cases Z
  |some y=>
   obtain⟨nd,ix⟩:=y;rw[Y]at Z;simp only at Z ⊢;rw[ao byA];by_cases ht:a=hole
   .rw[aD ht]at Z;have:=bH Z;subst this;subst ht;simp only at hi U ⊢;rw[W];simp only;rw[ao byA,U];have:f+1-(a-a)-1=f:=by lia
    rw[this]
   .rw[ao ht]at Z;have e:f-(hole-(a+1))-1=f+1-(hole-a)-1:=by lia
    cases hpa:p[a]? with
    |none=>rw[Ui]at hpa;lia
    |some q=>
     rw[hpa]at Z;cases q with
     |row y=>have:=bH Z;rw[<-this]at hz;exact absurd hz ht
     |one y=>
      simp only at Z ⊢;split at Z
      .cases Z
      .rename_i c;rw[ao c];split at Z
       .cases Z
       .rename_i N K;rw[Du W hz hi U f _ byA byA Z];rw[e]
     |node y c=>
      simp only at Z ⊢;split at Z
      .cases Z
      .rename_i L;rw[ao L];split at Z
       .rename_i M;rw[aD M];rw[Du W hz hi U f _ byA byA Z];rw[e]
       .cases Z
section
variable(w:whole 1 t=true)(ip:isPat p=true)(hb:base<t.length)
include w ip hb
theorem acd{hole:Nat}(T:hole<J p){s:Spot}{ks:List Nat}{b x:ia}{way:Nat}(C:dX t p base (aZ p s.at_) ks s b)(U:s.at_<=hole)(Y:ni p s.at_ hole)(hx:(dH t p (aZ p s.at_) ks s b)[way]?=O x):
 ∃z ks',fz t p hole s=O z/\z.at_=hole/\dX t p base (cB (aZ p hole)) ks' z b/\(dH t p (cB (aZ p hole)) ks' z b)[way]?=O x:=by
 have wp:=oW ip;rcases uJ w wp hb hole (J p+1-s.at_) s ks b (aU _) C with⟨h1,h2⟩|⟨z,h1,hle,h2⟩
 .rw[h2]at hx;simp at hx
 .have W:=Dy _ s z U h1;rcases h2 with⟨hz,hst,ks',b',C',hw,hb'⟩|⟨hz,b',hw,_⟩
  .have Z:z.at_=hole:=by
    rcases hst with y|⟨h,y⟩
    .exact y
    .rcases cY z.at_ hole with q|q
     .have:=Y z.at_ hle q;rw[y]at this;cases this
     .omega
   rw[Z]at hb' C' hw;have:=hb' Y;subst this;rw[hw]at hx;exact⟨z,ks',h1,Z,C',hx⟩
  .omega
theorem R3{z:Spot}{h:Nat}(hz:z.at_<J p)(Z:p[z.at_]=.one h){ks:List Nat}{b x:ia}{way:Nat}(C:dX t p base (cB (aZ p z.at_)) ks z b)(hx:(dH t p (cB (aZ p z.at_)) ks z b)[way]?=O x):
 z.index<J (cQ t z.node)/\∃hd ks' d,hold p z.held z.at_ h (.one (fN t (dU t z.node z.index)))=O hd/\dX t p base (aZ p (z.at_+1)) ks' ⟨z.at_+1,z.node,z.index+1,hd⟩ d/\eG t b ⟨h,dU t z.node z.index,1⟩=O d/\(dH t p (aZ p (z.at_+1)) ks' ⟨z.at_+1,z.node,z.index+1,hd⟩ d)[way]?=O x:=by
 have wp:=oW ip;obtain⟨W,hd,Y⟩:=abA w wp hb hz C Z hx;obtain⟨ks',d,U,e1,e2⟩:=MF w wp hb hz C Z byA Y;exact⟨W,hd,ks',d,Y,U,e1,by rw[<-e2];exact hx⟩
theorem ace{s:Spot}{ks:List Nat}{b x:ia}{way:Nat}(C:dX t p base (aZ p s.at_) ks s b)(Z:ni p s.at_ (J p))(hx:(dH t p (aZ p s.at_) ks s b)[way]?=O x):x=b:=by
 have wp:=oW ip;rcases uJ w wp hb (J p) (J p+1-s.at_) s ks b (aU _) C with⟨h1,h2⟩|⟨z,h1,hle,h2⟩
 .rw[h2]at hx;simp at hx
 .rcases h2 with⟨hz,hst,ks',b',C',hw,hb'⟩|⟨hz,b',hw,hb'⟩
  .exfalso;rcases hst with y|⟨h,y⟩
   .lia
   .have:=Z z.at_ hle hz;rw[y]at this;cases this
  .rw[hz]at hb';have:=hb' Z;subst this;rw[hw]at hx;have:=dm hx;simpa using this
theorem YV(R:cM t p base h m k r ks z b)(W:J p-z.at_<=f):pick t p f h z way=kW (eB t p) (ee t p h z) way:=by unfold pick;apply Pc;intro s Z;obtain⟨e1,ks',d,Y⟩:=vH R Z;exact Mb w ip hb Y (by omega)
end
end Hs
end
section
namespace Hs
open Sh
def den(seen:List (fK×Nat)):Nat->Nat->List aO
 |0,_=>[]
 |f+1,n=>match seen[n]? with
  |none=>[]
  |some e=>⟨e.1.1,J e.1.2⟩::e.1.2.flatMap (den seen f)
def ud(seen:List (fK×Nat))(n:Nat):List Node:=den seen (n+1) n
theorem vS:∀{l:List α},(∀x∈l,f x=g x)->l.flatMap f=l.flatMap g
 |[],_=>rfl
 |x::l,h=>by rw[mP,mP,h x byB,vS λy Z=>h y (by simp[Z])]
theorem Sq(S:lQ seen):∀(f g n:Nat),n<f->n<g->den seen f n=den seen g n
 |0,_,_,h,_=>by lia
 |_+1,0,_,_,h=>by lia
 |f+1,g+1,n,Y,Z=>by
  unfold den;cases e:seen[n]? with
  |none=>rfl
  |some p=>simp only;congr 1;exact vS λx hx=>by have:=S.lt n p e x hx;exact Sq S f g x byA byA
theorem adq(S:lQ seen)(e:seen[n]?=O p):ud seen n=⟨p.1.1,J p.1.2⟩::p.1.2.flatMap (ud seen):=by
 unfold ud
 conv=>lhs;unfold den
 rw[e];simp only;congr 1;exact vS λx hx=>by have:=S.lt n p e x hx;exact Sq S n (x+1) x this byA
theorem Ss(S:lQ seen)(x:List (fK×Nat)):∀(f n:Nat),n<J seen->den (seen++x) f n=den seen f n
 |0,_,_=>rfl
 |f+1,n,h=>by
  unfold den;rw[fJ h];cases e:seen[n]? with
  |none=>rfl
  |some p=>simp only;congr 1;exact vS λy Z=>by have:=S.lt n p e y Z;exact Ss S x f y byA
theorem aab(S:lQ seen)(h:jt seen k=O v):seen[v]?=O (k,v):=by obtain⟨i,hi⟩:=jM (Bd h);have e:v=i:=S.val i _ hi;rw[e]at hi ⊢;exact hi
section
variable[aW]
abbrev seenOf(t:List aO):List (fK×Nat):=(marks t).seen
theorem FI(dS:List Nat)(rows:List (List Nat))(n:Nat):∀m:Nat,∃x,(oB dS rows n m).seen=aW.seen++x/\J x<=m
 |0=>⟨[],by simp[oB,l9],byB⟩
 |m+1=>by
  obtain⟨x,e,l⟩:=FI dS rows n m;show ∃y,lG (oB dS rows n m).seen _=_/\_;unfold lG;split
  .exact⟨x,e,byA⟩
  .rw[e];exact⟨x++[(_,_)],by rw[lT],byE⟩
theorem Yk(t:List aO):∃x,seenOf t=aW.seen++x/\J x<=J t:=FI _ _ _ _
theorem Nq(w:whole 1 t=true):lQ (seenOf t):=(i9 w).seen
theorem aai(w:whole 1 t=true)(Z:u<J t):fN t u<J (seenOf t):=QJ (Nq w) ((i9 w).b_ u Z (cI _))
theorem QL(w:whole 1 t=true):∀(m u:Nat),J t-u<=m->u<J t->ud (seenOf t) (fN t u)=cA t u 1
 |0,u,h,Z=>by lia
 |m+1,u,h,Z=>by
  have I:=i9 w;have W:dz 1 (ah t)=true:=by rw[<-mQ];exact w
  have R:=aab I.seen (I.b_ u Z (cI _));rw[show fN t u=aV (marks t).b_ u from rfl,adq I.seen R,Ad Z];have S:∀a,a<t[u].kids->aI (ah t) u a=pa (ah t) (u+1) a/\u<aI (ah t) u a/\aI (ah t) u a<J t:=by
   intro a ha;have Y:u<J (ah t):=by simpa using Z
   refine⟨by unfold aI;rw[ao byA],tZ Y,?_⟩;have:=jW W (u:=u) byA (by rw[mq Z];exact ha);simpa using this
  simp only[aM,ko];congr 1;rw[Af byA,<-List.flatMap_def,List.flatMap_map];refine vS λa ha=>?_;obtain⟨T,Q,U⟩:=S a (iB.mp ha);have:=QL w m (aI (ah t) u a) byA U;unfold fN at this;rw[this,T]
end
def jz(u:Nat)(f:Fill):Fill:=⟨f.hole,u+f.at_,f.count⟩
theorem X0(hi:i<=J x)(h:cW x i k):cA (x++r) i k=cA x i k:=by
 obtain⟨K,Y,Z⟩:=h;unfold cA;rw[List.drop_append_of_le_length hi,Ag _ _ _ _ Z Y];have:(J (x.drop i++r)-J (skip k (x.drop i)++r))=J (x.drop i)-J (skip k (x.drop i)):=by simp;omega
 rw[this,aeS (by omega)]
section
variable{A s R:List Node}
theorem Ae(hi:i<=J s)(h:cW s i k):cA (A++(s++R)) (J A+i) k=cA s i k:=by rw[<-X0 hi h];unfold cA;rw[List.drop_append];have:A.drop (J A+i)=[]:=wB byA;rw[this,yM,Nat.add_sub_cancel_left]
theorem Zj(b:ia)(h:Nat):eu (b.map (jz (J A))) h=(eu b h).map (jz (J A)):=by
 unfold eu
 induction b with
 |nil=>rfl
 |cons f b Z=>
  rw[bL];by_cases e:f.hole=h
  .rw[J3 (by simpa [jz]using e),J3 (by simpa using e)];rfl
  .rw[J4 (by simpa [jz]using e),J4 (by simpa using e)];exact Z
theorem RY(hb:GoodW s b)(W:f.at_<=J s)(Y:cW s f.at_ f.count):eG (A++(s++R)) (b.map (jz (J A))) (jz (J A) f)=(eG s b f).map (fC (jz (J A))):=by
 unfold eG;rw[show(jz (J A) f).hole=f.hole from rfl,Zj];cases e:eu b f.hole with
 |none=>simp
 |some g=>simp only[kg];have Z:=hb g (nL e).1;have e1:cA (A++(s++R)) (jz (J A) g).at_ (jz (J A) g).count=cA s g.at_ g.count:=Ae Z.1 Z.2;have e2:cA (A++(s++R)) (jz (J A) f).at_ (jz (J A) f).count=cA s f.at_ f.count:=Ae W Y;rw[e1,e2];split<;>rfl
theorem zJ:∀(p:List aF)(l:List (Nat×Nat))(i:Nat)(b:ia),i<=J s->cW s i (sumK l)->GoodW s b ->
 ways (A++(s++R)) p l (J A+i) (b.map (jz (J A)))=(ways s p l i b).map (fC (jz (J A)))
 |[],l,i,b,_,_,_=>by unfold ways;split<;>simp
 |q::p,l,i,b,hi,W,hb=>by
  unfold ways;cases M:fZ l with
  |none=>rfl
  |some O=>
   have S:=xo M;rw[<-S]at W;cases O with
   |nil=>rfl
   |cons y r=>
    obtain⟨m,k⟩:=y;cases m with
    |zero=>rfl
    |succ m=>
     have Z:sumK ((m+1,k)::r)=k+sumK r:=by simp[sumK]
     rw[Z]at W;cases q with
     |node x c=>
      have H:(A++(s++R))[J A+i]?=(s++R)[i]?:=by rw[kq byA];congr 1;lia
      rw[H];rcases wg k with z|z
      .subst z;cases (s++R)[i]?<;>cases s[i]?<;>simp
      .obtain⟨k,rfl⟩:∃j,k=j+1:=⟨k-1,byA⟩;have Q:cW s i (k+sumK r+1):=by
        have:k+sumK r+1=k+1+sumK r:=by lia
        rw[this];exact W
       have Y:=Rz hi Q;rw[fJ Y,aX Y];simp only;split
       .rfl
       .have N:=zJ p ((c,s[i].kids)::(m,k)::r) (i+1) b byA (by
         have I:=Bv Y Q;have e:sumK ((c,s[i].kids)::(m,k)::r)=s[i].kids+(k+sumK r):=by simp[sumK]
         rw[e];exact I) hb
        rwa [<-uz]at N
     |one h=>
      simp only;split
      .rfl
      .rename_i G;obtain⟨k,rfl⟩:∃j,k=j+1:=⟨k-1,byA⟩;have U:cW s i 1:=W.mono byA;have P:=RY (A:=A) (R:=R) (f:=⟨h,i,1⟩) hb hi U;have T:eG (A++(s++R)) (b.map (jz (J A))) ⟨h,J A+i,1⟩=(eG s b ⟨h,i,1⟩).map (fC (jz (J A))):=P;rw[T];cases hd:eG s b ⟨h,i,1⟩ with
       |none=>rfl
       |some d=>
        simp only[kg];rw[Ae hi U,uz,oZ hi];refine zJ p _ _ d pq ?_ (rS hb hi U hd);have e:sumK ((m,k+1-1)::r)=k+sumK r:=by simp[sumK]
        rw[e];exact W.part hi byA
     |row h=>
      rw[List.map_flatMap];refine vS λj K=>?_;have L:=A3 K;have U:cW s i j:=W.mono byA;have P:=RY (A:=A) (R:=R) (f:=⟨h,i,j⟩) hb hi U;have T:eG (A++(s++R)) (b.map (jz (J A))) ⟨h,J A+i,j⟩=(eG s b ⟨h,i,j⟩).map (fC (jz (J A))):=P;rw[T];cases hd:eG s b ⟨h,i,j⟩ with
      |none=>rfl
      |some d=>
       simp only[kg];rw[Ae hi U,uz,oZ hi];refine zJ p _ _ d pq ?_ (rS hb hi U hd);have e:sumK ((m,k-j)::r)=k-j+sumK r:=by simp[sumK]
       rw[e];exact W.part hi byA
end
def mt(p:List aF)(x:List aO):Bool:=(vU x p 0).isSome
theorem Fy(w:whole 1 t=true)(W:u<J t)(p:List aF):(vU t p u).isSome=mt p (cA t u 1):=by
 have S:=Hl w W;have T:=qd S;have U:0<J (cA t u 1):=by rw[Ad W];simp
 have P:t=t.take u++(cA t u 1++t.drop (pa (ah t) u 1)):=by rw[<-IV byA];exact(Cr u t).symm
 have hl:J (t.take u)=u:=by simp;lia
 have Z:=zJ (A:=t.take u) (R:=t.drop (pa (ah t) u 1)) p [(1,1)] 0 [] byA ⟨1,by simp[sumK],by rw[J6];exact T⟩ (λf Q=>by cases Q);rw[<-P,hl]at Z;unfold mt vU;rw[aD W,aD U,ua,ua];rw[Co]at Z;have Y:ways t p [(1,1)] u []=(ways (cA t u 1) p [(1,1)] 0 []).map (fC (jz u)):=Z;rw[Y,List.head?_map];cases (ways (cA t u 1) p [(1,1)] 0 []).head?<;>rfl
def wd(s:Ca):aF->Nat
 |.node _ _=>1
 |.one _=>1
 |.row h=>(s h).2
theorem sR(s:Ca):∀(f c:Nat)(p:List aF),i6 s f c p=((cy f c p).map (wd s)).sum
 |0,c,p=>by cases c<;>cases p<;>rfl
 |f+1,0,p=>by cases p<;>rfl
 |f+1,c+1,[]=>rfl
 |f+1,c+1,q::r=>by
  show i6 s (f+1) (c+1) (q::r)=(((q::cy f c (cZ q.kids r)).map (wd s)).sum);rw[bL,eN];cases q with
  |node x k=>show 1+i6 s f c (cZ k r)=_;rw[sR s f c];rfl
  |one h=>show 1+i6 s f c r=_;rw[sR s f c,show cZ (dN h).kids r=r from jQ r];rfl
  |row h=>show(s h).2+i6 s f c r=_;rw[sR s f c,show cZ (ie h).kids r=r from jQ r];rfl
theorem Nd:∀(f a b:Nat)(p:List aF),J p<=f->cy f (a+b) p=cy f a p++cy f b (cZ a p)
 |f,0,b,p,_=>by rw[uY,jQ,qM];rfl
 |f,a+1,b,[],_=>by rw[uX,uX,sY,uX];rfl
 |0,a+1,b,q::r,h=>by simp at h
 |f+1,a+1,b,q::r,h=>by
  have Y:J r<=f:=by simpa using h
  have hl:=sZ r q.kids;have e:a+1+b=(a+b)+1:=by lia
  rw[e];show q::cy f (a+b) (cZ q.kids r)=q::cy f a (cZ q.kids r)++cy (f+1) b (cZ (a+q.kids) r);rw[Nd f a b _ byA,<-Na,wh q.kids a];have Z:=sZ r (a+q.kids);rw[s_ (f+1) f b _ byA byA];rfl
theorem wJ:∀(x:List aO)(a c:Nat)(y:List aO),whole a x=true->whole (a+c) (x++y)=whole c y
 |[],0,c,y,_=>by rw[qM];rfl
 |[],a+1,c,y,h=>by cases h
 |n::x,0,c,y,h=>by cases h
 |n::x,a+1,c,y,h=>by
  have h':=h;have e:a+1+c=(a+c)+1:=by lia
  rw[e];show whole (a+c+n.kids) (x++y)=_;have e2:a+c+n.kids=a+n.kids+c:=by lia
  rw[e2];exact wJ x _ c y h'
structure B_(s:Ca)(l:List aF):Prop where
 one:∀h,dN h∈l->whole 1 (s h).1=true
 row:∀h,ie h∈l->whole (s h).2 (s h).1=true
theorem BE(s:Ca):∀(l:List aF)(k c:Nat)(y:List aO),B_ s l->ir k l=true->whole (i6 s (J l) k l+c) (rT s l++y)=whole c y
 |[],0,c,y,_,_=>by show whole (0+c) _=_;rw[qM];rfl
 |[],k+1,c,y,_,h=>by cases h
 |q::r,0,c,y,_,h=>by cases h
 |q::r,k+1,c,y,S,h=>by
  have R:B_ s r:=⟨λh T=>S.one h (by simp[T]),λh T=>S.row h (by simp[T])⟩;have h':ir (k+q.kids) r=true:=h;cases q with
  |node x Y=>
   have h':ir (Y+k) r=true:=by rw[wh];exact h'
   have U:=BE s r (Y+k) c y R h';have W:i6 s (J (qL x Y::r)) (k+1) (qL x Y::r)=1+i6 s (J r) k (cZ Y r):=rfl;have e1:i6 s (J r) (Y+k) r=i6 s (J r+1) Y r+i6 s (J r) k (cZ Y r):=by rw[sR,sR,sR,Nd _ _ _ _ (aU _),dw,JX,s_ (J r+1) (J r) Y r byA byA]
   rw[W];have e2:1+i6 s (J r) k (cZ Y r)+c=(i6 s (J r) k (cZ Y r)+c)+1:=by lia
   rw[e2];show whole (i6 s (J r) k (cZ Y r)+c+i6 s (J r+1) Y r) (rT s r++y)=_;rw[<-U,e1];congr 1;lia
  |one Z=>
   have U:=BE s r k c y R (by simpa [Cg]using h');have W:i6 s (J (dN Z::r)) (k+1) (dN Z::r)=1+i6 s (J r) k r:=rfl;have e1:rT s (dN Z::r)++y=(s Z).1++(rT s r++y):=by show((s Z).1++rT s r)++y=_;rw[lT]
   rwa [W,e1,uz,wJ _ _ _ _ (S.one Z byB)]
  |row Z=>
   have U:=BE s r k c y R (by simpa [Cg]using h');have W:i6 s (J (ie Z::r)) (k+1) (ie Z::r)=(s Z).2+i6 s (J r) k r:=rfl;have e1:rT s (ie Z::r)++y=(s Z).1++(rT s r++y):=by show((s Z).1++rT s r)++y=_;rw[lT]
   rwa [W,e1,uz,wJ _ _ _ _ (S.row Z byB)]
theorem Lv(h:whole (k+1) x=true):x≠[]:=by intro e;subst e;cases h
theorem Lr(hx:whole 1 x=true)(Z:whole 1 y=true):∀(A:List aO)(K:Nat),whole K (A++(x++B))=whole K (A++(y++B))
 |[],0=>by
  have U:=Lv hx;have W:=Lv Z;cases x with
  |nil=>exact absurd Y U
  |cons a x=>
   cases y with
   |nil=>exact absurd Y W
   |cons b y=>rfl
 |[],K+1=>by rw[wh K 1];show whole (1+K) (x++B)=whole (1+K) (y++B);rw[wJ _ _ _ _ hx,wJ _ _ _ _ Z]
 |n::A,0=>rfl
 |n::A,K+1=>Lr hx Z A (K+n.kids)
theorem Yw(w:whole 1 t=true)(hi:i<J t)(wr:ir 1 r.rep=true)(U:∀h,r.rep.head?≠O (.row h))(S:B_ (DT t b) r.rep):whole 1 (OC t r i b)=true:=by
 have T:=qd (Hl w hi);have R:whole 1 (rT (DT t b) r.rep)=true:=by
  have:=BE (DT t b) r.rep 1 0 [] S wr;rw[nq,Co]at this;have e:i6 (DT t b) (J r.rep) 1 r.rep=1:=by
   cases W:r.rep with
   |nil=>rw[W]at wr;cases wr
   |cons q l=>
    have Z:∀(f:Nat)(s:Ca)(l:List aF),i6 s f 0 l=0:=λf s l=>by cases f<;>cases l<;>rfl
    cases q with
    |node x k=>show 1+i6 _ _ 0 _=1;rw[Z]
    |one h=>show 1+i6 _ _ 0 _=1;rw[Z]
    |row h=>rw[W]at U;exact absurd Y (U h)
  rw[e]at this;rw[this];rfl
 have Q:t=t.take i++(cA t i 1++t.drop (pa (ah t) i 1)):=by rw[<-IV byA];exact(Cr i t).symm
 unfold OC
 rwa [lT,BJ byA,<-Lr T R,<-Q]
def ja(rules:List Rule)(x:List aO):Option Nat:=(bA (J rules)).find? λk=>(rules[k]?).any λr=>mt r.pat x
def qx(rules:List Rule)(t:List aO):Option (Nat×Nat):=(bA (J t)).findSome? λi=>(ja rules (cA t i 1)).map λk=>(k,i)
theorem HH(f:α->Option β):∀l:List α,l.findSome? f=(l.find? λa=>(f a).isSome).bind f
 |[]=>rfl
 |a::l=>by
  rw[ae7,sI];cases e:f a with
  |none=>simp only[Option.isSome_none];exact HH f l
  |some b=>simp[e]
theorem RV:∀{l:List α},(∀a∈l,f a=g a)->l.find? f=l.find? g
 |[],_=>rfl
 |a::l,h=>by rw[sI,sI,h a byB,RV λx hx=>h x (by simp[hx])]
def qh(rules:List Rule)(t:List aO)(i k:Nat):Option (Nat×List aO):=match rules[k]? with
 |some r=>(vU t r.pat i).map λb=>(k,OC t r i b)
 |none=>U
theorem Ow(w:whole 1 t=true)(hi:i<J t)(e:ja rules (cA t i 1)=O k):∃r b,rules[k]?=O r/\vU t r.pat i=O b:=by
 have:=Uk e;cases Z:rules[k]? with
 |none=>rw[Z]at this;cases this
 |some r=>rw[Z]at this;simp only[JM]at this;rw[<-Fy w hi]at this;obtain⟨b,hb⟩:=we.mp this;exact⟨r,b,Y,hb⟩
theorem QA(w:whole 1 t=true):next rules t=(qx rules t).bind λki=>qh rules t ki.2 ki.1:=by
 have S:next rules t=(List.range (J t)).findSome? λi=>(List.range (J rules)).findSome? (qh rules t i):=rfl;rw[S];have Z:∀l:List Nat,(∀i∈l,i<J t)->(l.findSome? λi=>(List.range (J rules)).findSome? (qh rules t i))=(l.findSome? λi=>(ja rules (cA t i 1)).map λk=>(k,i)).bind λki=>qh rules t ki.2 ki.1:=by
  intro l
  induction l with
  |nil=>intro _;rfl
  |cons i l U=>
   intro h;have hi:=h i byB;have T:(List.range (J rules)).findSome? (qh rules t i)=(ja rules (cA t i 1)).bind (qh rules t i):=by
    rw[HH];congr 1;refine RV λk _=>?_;unfold qh;cases rules[k]? with
    |none=>rfl
    |some r=>simp only[JK,JM];exact Fy w hi r.pat
   rw[List.findSome?_cons,List.findSome?_cons,T];cases e:ja rules (cA t i 1) with
   |none=>simp only[Option.bind_none,aeI];exact U λx hx=>h x (by simp[hx])
   |some k=>obtain⟨r,b,W,Y⟩:=Ow w hi e;simp only[TM,kg];unfold qh;rw[W];simp only[Y,kg]
 exact Z _ λi hi=>List.mem_range.mp hi
end Hs
end
section
namespace Hn
open PySem
inductive NK where
 |az
 |int (i:Int)
 |tup (l:List NK)
noncomputable instance:DecidableEq NK:=λa b=>ahc (a=b)
def NK.dep:NK->Nat
 |.az=>0
 |.int _=>0
 |.tup l=>oG l+1
where oG:List NK->Nat
 |[]=>0
 |k::l=>max k.dep (oG l)
def NK.hash:NK->Int
 |.az=>4238894112
 |.int i=>hashInt i
 |.tup l=>OG (cN.Tuple.tupleHashOf (lN l))
where lN:List NK->List Int
 |[]=>[]
 |k::l=>k.hash::lN l
def NK.draws:NK->Nat
 |.az=>1
 |.int _=>1
 |.tup l=>mw l+1
where mw:List NK->Nat
 |[]=>0
 |k::l=>k.draws+mw l
theorem BN:∀{l:List NK}{k:NK},k∈l->k.dep<=NK.dep.oG l
 |x::l,k,h=>by
  rcases bE.mp h with e|e
  .subst e;exact Nat.le_max_left _ _
  .exact eL (BN e) (Nat.le_max_right _ _)
mutual
def Is(h:dj):NK->ai->Prop
 |.az,v=>v=.none
 |.int i,v=>∃t,v=.int i t
 |.tup l,v=>∃a o items n,v=.ref a/\h.get? a=O o/\o.cls=.type "tuple"/\o.data=.seq items n/\IsL h l items.toList
def IsL(h:dj):List NK->List ai->Prop
 |[],vs=>vs=[]
 |k::l,vs=>∃v r,vs=v::r/\Is h k v/\IsL h l r
end
mutual
theorem Is.inj:∀{x y:NK}{v:ai},Is h x v->Is h y v->x=y
 |.az,y,v,hx,Z=>by
  have e:v=.none:=by simpa [Is]using hx
  subst e;cases y with
  |az=>rfl
  |int i=>simp[Is]at Z
  |tup l=>simp[Is]at Z
 |.int i,y,v,hx,Z=>by
  obtain⟨t,e⟩:∃t,v=.int i t:=by simpa [Is]using hx
  subst e;cases y with
  |az=>simp[Is]at Z
  |int j=>
   obtain⟨u,e⟩:∃u,uu i t=.int j u:=by simpa [Is]using Z
   injection e with e1
   rw[e1]
  |tup l=>simp[Is]at Z
 |.tup l,y,v,hx,Z=>by
  obtain⟨a,o,W,n,e,Q,M,R,S⟩:=hx;subst e;cases y with
  |az=>simp[Is]at Z
  |int j=>simp[Is]at Z
  |tup N=>
   obtain⟨K,o',Y,O,e,T,L,U,P⟩:=Z;injection e with e
   subst e;rw[Q]at T;obtain rfl:=bH T;rw[R]at U;injection U with e1
   subst e1;rw[IsL.inj S P]
theorem IsL.inj:∀{x y:List NK}{vs:List ai},IsL h x vs->IsL h y vs->x=y
 |[],y,vs,hx,Z=>by
  have e:vs=[]:=by simpa [IsL]using hx
  subst e;cases y with
  |nil=>rfl
  |cons k l=>unfold IsL at Z;obtain⟨v,r,e,_⟩:=Z;cases e
 |k::l,y,vs,hx,Z=>by
  obtain⟨v,r,e,W,Y⟩:=hx;subst e;cases y with
  |nil=>simp[IsL]at Z
  |cons P Q=>
   obtain⟨S,R,e,T,U⟩:=Z;injection e with e1 e2
   subst e1 e2;rw[Is.inj W T,IsL.inj Y U]
end
theorem IsL.get:∀{l:List NK}{vs:List ai},IsL h l vs->J l=J vs/\∀(j:Nat)(k:NK)(v:ai),l[j]?=O k->vs[j]?=O v->Is h k v
 |[],vs,hx=>by
  have e:vs=[]:=by simpa [IsL]using hx
  subst e;exact⟨Y,λj k v e=>by simp at e⟩
 |k::l,vs,hx=>by
  obtain⟨v,r,e,S,T⟩:=hx;subst e;have Z:=IsL.get T;refine⟨by simp[Z.1],λj U W e1 e2=>?_⟩;cases j with
  |zero=>simp at e1 e2;subst e1 e2;exact S
  |succ j=>exact Z.2 j U W (by simpa using e1) (by simpa using e2)
mutual
theorem Is.keeps{es ep}(T:h.get? d=O o)(hd:o.data=.dict es ep)(U:sM d h h'):∀{k:NK}{v:ai},Is h k v->Is h' k v
 |.az,v,hx=>by simpa [Is]using hx
 |.int i,v,hx=>by simpa [Is]using hx
 |.tup l,v,hx=>by
  unfold Is at hx ⊢;obtain⟨a,o',Z,n,e,S,Q,W,R⟩:=hx;have Y:a≠d:=by rintro rfl;obtain rfl:o'=o:=bH (S.symm.trans T);rw[hd]at W;exact nomatch W
  exact⟨a,o',Z,n,e,(U.2 a Y).trans S,Q,W,IsL.keeps T hd U R⟩
theorem IsL.keeps{es ep}(Y:h.get? d=O o)(hd:o.data=.dict es ep)(Z:sM d h h'):∀{l:List NK}{vs:List ai},IsL h l vs->IsL h' l vs
 |[],vs,hx=>by simpa [IsL]using hx
 |k::l,vs,hx=>by unfold IsL at hx ⊢;obtain⟨v,r,e,U,W⟩:=hx;exact⟨v,r,e,Is.keeps Y hd Z U,IsL.keeps Y hd Z W⟩
end
section
variable{prog:Program}{w:World}{A:Around}{E:Value->Shared->Prop}{s:Shared}
theorem YJ(h:Q 4238894112 {s with toks:=s.toks+1 }):aP (a_ prog w) A (pyHash .none) Q E s:=by
 have hv:[pP].any Value.onHeap=false:=rfl;refine aL ?_;rw[cRoomFor,ao (by rw[hv];exact iJ)];refine bC ?_;refine aL (wI (DG s) K7.lookup ?_);rw[ao (by rw[ad2];exact iJ)];refine aL (wI (DG s) K7.lookup ?_);refine aL (Va (DG s) K7
  (sQ K7 (DG s) F.entry_NoneType_hash
   (show aP _ _ (do ret (<-mkInt (4238894112:Int))) _ _ s from Lj ?_) (F.args_NoneType_hash_1 _)))
 show aP _ _ (if(decide (-(2:Int) ^ 63<=4238894112)&&decide ((4238894112:Int)<2 ^ 63))=true then _ else _) Q E _;rw[aD byD];exact bC h
theorem Is.uP(hx:Is s.heap (.tup l) v):∃a o items n,v=.ref a/\s.heap.get? a=O o/\o.cls=.type "tuple"/\o.data=.seq items n/\IsL s.heap l items.toList:=by unfold Is at hx;exact hx
theorem Si:∀(a b:List NK),NK.draws.mw (a++b)=NK.draws.mw a+NK.draws.mw b
 |[],b=>by simp[NK.draws.mw]
 |k::a,b=>by show k.draws+NK.draws.mw (a++b)=k.draws+NK.draws.mw a+NK.draws.mw b;rw[Si a b];lia
theorem Ry:∀(a b:List NK),NK.hash.lN (a++b)=NK.hash.lN a++NK.hash.lN b
 |[],b=>rfl
 |k::a,b=>by show k.hash::NK.hash.lN (a++b)=k.hash::(NK.hash.lN a++NK.hash.lN b);rw[Ry a b]
theorem O2:∀(k:NK)(A:jd)(E:ai->aS->Prop)(s:aS)(v:ai)(Q:Int->aS->Prop),A.units+k.dep<jj->Is s.heap k v->Q k.hash {s with toks:=s.toks+k.draws }->aP (a_ prog w) A (pyHash v) Q E s
 |.az,A,E,s,v,Q,L,hx,h=>by
  have e:v=.none:=by simpa [Is]using hx
  subst e;exact YJ h
 |.int i,A,E,s,v,Q,L,hx,h=>by
  obtain⟨t,e⟩:∃t,v=.int i t:=by simpa [Is]using hx
  subst e;exact U1 h
 |.tup ks,A,E,s,v,Q,L,hx,h=>by
  obtain⟨a,o,N,n,e,I,B,hd,hi⟩:=hx.uP;subst e;have O:s.TypeIs (.ref a) "tuple":=⟨o,I,B⟩;have M:A.units<cLine:=by lia
  first|unfold pyHashByItsType|skip
  first|refine aL (wpAny_cRoomFor_or (.inr M) ?_)|skip
  refine aL (wI O K5.lookup ?_);rw[ao (by rw[ad2];exact iJ)];refine aL (wI O K5.lookup ?_);refine aL (Va O K5 (sQ K5 O F.entry_tuple_hash ?_ (F.args_tuple_hash_1 _)));show aP _ _ (cN.Tuple.tupleItemsOf (.ref a) >>= _) _ _ s;refine aL (wpAny_tupleItemsOf I hd ?_);refine aL ?_;rw[<-agL];refine U9 _
   (λU (b:Array Int) s'=>∃done Z,ks=done++Z/\IsL s.heap Z U/\b.toList=NK.hash.lN done/\s'={s with toks:=s.toks+NK.draws.mw done })
   _ ?_ ?_ _ _ ⟨[],ks,rfl,hi,rfl,rfl⟩
  .rintro x U b s' ⟨done,Z,S,hl,hb,rfl⟩;cases Z with
   |nil=>simp[IsL]at hl
   |cons k ks'=>
    obtain⟨G,D,K,y,z⟩:=hl;injection K with e1 e2
    subst e1 e2;have R:k∈ks:=by rw[S];simp
    have H:=BN R;have C:sizeOf k<1+sizeOf ks:=by have:=T9 R;lia
    refine aL (O2 k _ _ _ _ _ (by have:NK.dep (.tup ks)=NK.dep.oG ks+1:=rfl;rw[this]at L;lia) y ?_)
    have J:∃Y T,ks=Y++T/\IsL s.heap T U/\(b.push k.hash).toList=NK.hash.lN Y/\({s with toks:=s.toks+NK.draws.mw done+k.draws }:aS)={s with toks:=s.toks+NK.draws.mw Y }:=
     ⟨done++[k],ks',by rw[S];simp,z,by rw[Ry,Array.toList_push,hb];rfl,by rw[Si];simp[NK.draws.mw,uz]⟩
    first
     |exact bC J
     |exact aL (bC (bC J))
  .rintro b s' ⟨done,Z,S,hl,hb,rfl⟩;cases Z with
   |cons k ks'=>obtain⟨G,D,K,_⟩:=hl;cases K
   |nil=>
    rw[nq]at S;subst S;have h':Q (OG (cN.Tuple.tupleHashOf (NK.hash.lN ks))) {s with toks:=s.toks+(NK.draws.mw ks+1) }:=h;show aP _ _ (retInt (cN.Tuple.tupleHashOf b.toList)) _ _ _;rw[hb];refine Lj ?_;show aP _ _ (if(decide (-(2:Int) ^ 63<=cN.Tuple.tupleHashOf (NK.hash.lN ks))&&decide (cN.Tuple.tupleHashOf (NK.hash.lN ks)<2 ^ 63))=true then _ else _) Q E _;unfold OG at h';by_cases P:(decide (-(2:Int) ^ 63<=cN.Tuple.tupleHashOf (NK.hash.lN ks))&&decide (cN.Tuple.tupleHashOf (NK.hash.lN ks)<2 ^ 63))=true
    .rw[aD P];rw[aD P]at h';exact bC (by simpa [uz]using h')
    .rw[ao P];rw[ao P]at h';exact aL (zA (bC (by simpa [uz]using h')))
termination_by k=>sizeOf k
decreasing_by simp_wf;lia
theorem vQ(Z:s.heap.get? a=O o)(Y:o.cls=.type "tuple")(hd:o.data=.seq items n):s.heap.IsTuple a items:=⟨o,Z,Y,n,hd⟩
theorem rW{x y:NK}(h:x≠y):decide (x=y)=false:=bP h
theorem Sa:∀(x y:NK)(A:jd)(s:aS)(u v:ai),A.units+x.dep<jj->Is s.heap x u->Is s.heap y v->SeqAt.EqAt A s u v (decide (x=y))
 |.az,y,A,s,u,v,hu,hx,hy=>by
  have e:u=.none:=by simpa [Is]using hx
  subst e;cases y with
  |az=>
   have e:v=.none:=by simpa [Is]using hy
   subst e;rw[bJ rfl];exact aeu _
  |int j=>
   obtain⟨t,e⟩:∃t,v=.int j t:=by simpa [Is]using hy
   subst e;rw[rW (by intro q;cases q)];exact ag1 j t
  |tup l=>obtain⟨a,o,items,n,e,ho,hc,hd,hi⟩:=hy.uP;subst e;rw[rW (by intro q;cases q)];exact ag0 (vQ ho hc hd) byA
 |.int i,y,A,s,u,v,hu,hx,hy=>by
  obtain⟨t,e⟩:∃t,u=.int i t:=by simpa [Is]using hx
  subst e;cases y with
  |az=>
   have e:v=.none:=by simpa [Is]using hy
   subst e;rw[rW (by intro q;cases q)];exact ag4 i t
  |int j=>
   obtain⟨t',e⟩:∃t,v=.int j t:=by simpa [Is]using hy
   subst e;have e2:decide (NK.int i=NK.int j)=(i==j):=by
    by_cases q:i=j
    .subst q;simp
    .rw[rW (λz=>q (by injection z))];exact(r9.mpr q).symm
   rw[e2];exact aev i t j t'
  |tup l=>obtain⟨a,o,items,n,e,ho,hc,hd,hi⟩:=hy.uP;subst e;rw[rW (by intro q;cases q)];exact ag2 i t (vQ ho hc hd) byA
 |.tup l,y,A,s,u,v,hu,hx,hy=>by
  obtain⟨a,o,items,n,e,ho,hc,hd,hi⟩:=hx.uP;subst e;cases y with
  |az=>
   have e:v=.none:=by simpa [Is]using hy
   subst e;rw[rW (by intro q;cases q)];exact agW (vQ ho hc hd) byA
  |int j=>
   obtain⟨t',e⟩:∃t,v=.int j t:=by simpa [Is]using hy
   subst e;rw[rW (by intro q;cases q)];exact agX j t' (vQ ho hc hd) byA
  |tup l'=>
   obtain⟨a',o',items',n',e,ho',hc',hd',hi'⟩:=hy.uP;subst e;by_cases RA:a=a'
   .subst RA;have:=hx.inj hy;rw[bJ this];exact aeu _
   .have L1:=hi.get;have L2:=hi'.get;have sz:J items.toList=items.size:=by simp
    have sz':J items'.toList=items'.size:=by simp
    have hz1:J l=items.size:=by rw[L1.1];simp
    have hz2:J l'=items'.size:=by rw[L2.1];simp
    have key:((bA (min items.size items'.size)).all (λj=>decide (l.getD j .az=l'.getD j .az))&&items.size==items'.size)=decide (NK.tup l=NK.tup l'):=by
     by_cases q:l=l'
     .subst q;rw[bJ rfl,<-hz1,<-hz2];simp
     .rw[rW (λz=>q (by injection z))];by_cases hz:items.size=items'.size
      .have hz3:J l=J l':=by lia
       have:(bA (min items.size items'.size)).all (λj=>decide (l.getD j .az=l'.getD j .az))=false:=by
        cases e:(bA (min items.size items'.size)).all (λj=>decide (l.getD j .az=l'.getD j .az)) with
        |false=>rfl
        |true=>
         exfalso;apply q;apply J5;intro j;by_cases hj:j<J l
         .have h1:=qa.mp e j (by rw[iB];lia);have h2:=pB h1;rw[aX hj,aX byA];congr 1;simpa [fQ,aX hj,aX (show j<J l' by lia)]using h2
         .rw[fP byA,fP byA]
       rw[this,Bool.false_and]
      .have:=r9.mpr hz;rw[this,UJ]
    rw[<-key];refine agZ RA (agV (vQ ho hc hd) (vQ ho' hc' hd') byA ?_);intro j h1 h2;have hj1:j<J l:=by lia
    have hj2:j<J l':=by lia
    have hmem:=qO hj1;have agS:=BN hmem;have hsz:sizeOf l[j]<1+sizeOf l:=by have:=T9 hmem;lia
    have e1:l.getD j .az=l[j]:=by simp[fQ,aX hj1]
    have e2:l'.getD j .az=l'[j]:=by simp[fQ,aX hj2]
    rw[e1,e2];have g1:=L1.2 j l[j] items[j] (aX hj1) (by rw[UM];exact UN h1);have g2:=L2.2 j l'[j] items'[j] (aX hj2) (by rw[UM];exact UN h2);exact Sa l[j] l'[j] A.in1 s _ _ (by have:NK.dep (.tup l)=NK.dep.oG l+1:=rfl;rw[this]at hu;lia) g1 g2
termination_by x=>sizeOf x
decreasing_by simp_wf;lia
theorem O1:∀(k:NK)(A:jd)(E:ai->aS->Prop)(s:aS)(v:ai)(Q:Bool->aS->Prop)(n:Nat),k.dep<=n->Is s.heap k v->Q true s->aP (a_ prog w) A (eqIsQuiet n v) Q E s
 |.az,A,E,s,v,Q,n,N,hx,h=>by
  have e:v=.none:=by simpa [Is]using hx
  subst e;rw[adh n rfl];exact bC h
 |.int i,A,E,s,v,Q,n,N,hx,h=>by
  obtain⟨t,e⟩:∃t,v=.int i t:=by simpa [Is]using hx
  subst e;rw[adh n rfl];exact bC h
 |.tup l,A,E,s,v,Q,n,N,hx,h=>by
  obtain⟨a,o,R,u,e,O,I,hd,hi⟩:=hx.uP;subst e;have L:s.TypeIs (.ref a) "tuple":=⟨o,O,I⟩;have J:NK.dep (.tup l)=NK.dep.oG l+1:=rfl;obtain⟨n,rfl⟩:∃m,n=m+1:=⟨n-1,byA⟩;unfold eqIsQuiet;refine aL (wI L F.slot_tuple_eq.lookup ?_);refine aL (U7 L isSubtype_tuple_tuple ?_);simp only[UI,De,qB];refine aL (UR O hd ?_);refine aL ?_;rw[<-agL];refine U9 _ (λW r s'=>r.1=U/\s'=s/\∃Z,(∀k∈Z,k∈l)/\IsL s.heap Z W) _ ?_ ?_ _ _ ⟨Y,Y,l,λ_ q=>q,hi⟩
  .rintro v W r s' ⟨P,rfl,Z,T,hl⟩;cases Z with
   |nil=>simp[IsL]at hl
   |cons k Z=>
    obtain⟨C,y,D,G,H⟩:=hl;injection D with e1 e2
    subst e1 e2;have S:=T k byB;have M:=BN S;have K:sizeOf k<1+sizeOf l:=by have:=T9 S;lia
    refine aL (O1 k _ _ _ _ _ n byA G ?_);simp only[UI,De,qB];exact bC ⟨Y,Y,Z,λx hx=>T x (dR _ hx),H⟩
  .rintro⟨z,B⟩ s' ⟨P,rfl,_⟩;simp only at P;subst P;exact bC h
termination_by k=>sizeOf k
decreasing_by simp_wf;lia
end
def qy(prog:fV)(w:d9):Ux prog w NK where
 is:=λh k a=>Is h k (.ref a)/\k.dep<=8
 hash:=NK.hash
 draws:=NK.draws
 room:=λA=>A.units+8<jj
 inj:=λhx hy=>hx.1.inj hy.1
 keeps:=λx ho hd hs=>⟨x.1.keeps ho hd hs,x.2⟩
 pyHash:=λhu hk h=>O2 _ _ _ _ _ _ (by have:=hk.2;lia) hk.1 h
 eqBool:=λhu hx hy h=>Sa _ _ _ _ _ _ (by have:=hx.2;lia) hx.1 hy.1 _ _ _ _ h
 quiet:=λhk h=>O1 _ _ _ _ _ _ 8 hk.2 hk.1 h
theorem tO{prog:fV}{w:d9}{A:jd}(Z:A.units+9<jj):(qy prog w).room A.in1:=by show A.in1.units+8<jj;show A.units+1+8<jj;omega
end Hn
end
section
namespace L2
open PySem PySem.Spec PyProof.Rows
abbrev Key:=Sum Int ak
def oE:Key->ai->Bool
 |.inl k,v=>Ju k v
 |.inr x,v=>aek x v
def aaE(w:d9):Key->Int
 |.inl k=>hashInt k
 |.inr x=>hashStr w x
theorem pH:∀{k:Key}{v:ai},oE k v=true->(∃i t,k=bx i/\v=uu i t)\/(∃x t,k=vY x/\v=Jt x t)
 |.inl i,v,h=>by obtain⟨t,e⟩:=Value.isInt_shape (k:=i) (v:=v) h;exact .inl ⟨i,t,Y,e⟩
 |.inr x,v,h=>by obtain⟨t,e⟩:=Value.isStrOf_shape (x:=x) (v:=v) h;exact .inr ⟨x,t,Y,e⟩
theorem aaD(i:Int)(t:m_):oE (.inl i) (.int i t)=true:=by simp[oE,Ju]
theorem aaC(x:ak)(t:m_):oE (.inr x) (.str x t)=true:=by simp[oE,aek]
theorem aaB(a b:Int):decide ((bx a:Key)=bx b)=(a==b):=by
 by_cases e:a=b
 .subst e;simp
 .have h:¬(bx a:Key)=bx b:=λq=>e (Sum.inl.inj q);rw[bP h];exact(r9.mpr e).symm
theorem aay(a b:ak):decide ((vY a:Key)=vY b)=decide (a=b):=by
 by_cases e:a=b
 .subst e;simp
 .have h:¬(vY a:Key)=vY b:=λq=>e (Sum.inr.inj q);rw[bP h,bP e]
theorem aaA(a:Int)(b:ak):decide ((bx a:Key)=vY b)=false:=bP (λq=>nomatch q)
theorem aaz(a:ak)(b:Int):decide ((vY a:Key)=bx b)=false:=bP (λq=>nomatch q)
def jT(prog:fV)(w:d9):PySem.KeyKind prog w Key where
 is:=oE
 hash:=aaE w
 inj:=λv a b ha hb=>by
  rcases pH ha with⟨i,t,rfl,rfl⟩|⟨x,t,rfl,rfl⟩
  .rcases pH hb with⟨j,u,rfl,e⟩|⟨y,u,rfl,e⟩
   .injection e with e1 _;rw[e1]
   .exact nomatch e
  .rcases pH hb with⟨j,u,rfl,e⟩|⟨y,u,rfl,e⟩
   .exact nomatch e
   .injection e with e1 _;rw[e1]
 byValue:=λk v h=>by rcases pH h with⟨i,t,rfl,rfl⟩|⟨x,t,rfl,rfl⟩<;>rfl
 pyHash:=λhv h=>by
  rcases pH hv with⟨i,t,rfl,rfl⟩|⟨x,t,rfl,rfl⟩
  .exact U1 h
  .exact wpAny_pyHash_str h
 eqBool:=λhu hv h=>by
  rcases pH hu with⟨i,t,rfl,rfl⟩|⟨x,t,rfl,rfl⟩
  .rcases pH hv with⟨j,u,rfl,rfl⟩|⟨y,u,rfl,rfl⟩
   .rw[aaB]at h;exact wpAny_eqBool_int h
   .rw[aaA]at h;exact ag3 i t y u _ _ _ _ h
  .rcases pH hv with⟨j,u,rfl,rfl⟩|⟨y,u,rfl,rfl⟩
   .rw[aaz]at h;exact agY x t j u _ _ _ _ h
   .rw[aay]at h;exact wpAny_eqBool_str h
 «strs»:=λk x t v h=>by
  rcases pH h with⟨i,u,rfl,e⟩|⟨y,u,rfl,e⟩
  .exact nomatch e
  .injection e with e1 _
   subst e1;cases v<;>rfl
theorem ZU(prog:fV)(w:d9)(i:Int)(t:m_):(jT prog w).is (.inl i) (.int i t)=true:=aaD i t
theorem ZT(prog:fV)(w:d9)(x:ak)(t:m_):(jT prog w).is (.inr x) (.str x t)=true:=aaC x t
end L2
namespace L2
open PySem PySem.Spec PyProof.Rows
inductive V where
 |az|bl (b:Bool)|int (i:Int)|str (x:ak)|j4 (b:Array UInt8)|BB (b:UInt64)|ref (a:aa)|ty (n:String)
 deriving DecidableEq
def RelV:V->ai->Prop
 |.az,u=>u=pP
 |.bl b,u=>u=yu b
 |.int i,u=>∃t,u=uu i t
 |.str x,u=>∃t,u=Jt x t
 |.j4 b,u=>∃t,u=aem b t
 |.BB b,u=>∃t,u=ael b t
 |.ref a,u=>u=dG a
 |.ty n,u=>u=r_ n
abbrev Vals:List V->List ai->Prop:=Paired RelV
theorem Vals.length(r:Vals xs us):xs.length=us.length:=Paired.length r
theorem Vals.get:∀{xs:List V}{us:List ai}{i:Nat}{x:V},Vals xs us->xs[i]?=O x->∃u,us[i]?=O u/\RelV x u
 |_,_,_,_,.nil,e=>by simp at e
 |_,_,0,_,.cons r _,e=>by simp at e;subst e;exact⟨_,Y,r⟩
 |_,_,i+1,x,.cons _ t,e=>by obtain⟨u,W,Z⟩:=Vals.get (i:=i) (x:=x) t (by simpa using e);exact⟨u,by simpa using W,Z⟩
theorem Vals.set(r:RelV x u):∀{xs:List V}{us:List ai}(i:Nat),Vals xs us->Vals (xs.set i x) (us.set i u)
 |_,_,_,.nil=>.nil
 |_,_,0,.cons _ t=>.cons r t
 |_,_,i+1,.cons q t=>.cons q (Vals.set r i t)
theorem Vals.append:∀{xs ys:List V}{us Z:List ai},Vals xs us->Vals ys Z->Vals (xs++ys) (us++Z)
 |_,_,_,_,.nil,s=>s
 |_,_,_,_,.cons r t,s=>.cons r (Vals.append t s)
theorem Vals.take:∀{xs:List V}{us:List ai}(n:Nat),Vals xs us->Vals (xs.take n) (us.take n)
 |_,_,0,_=>.nil
 |_,_,_+1,.nil=>.nil
 |_,_,n+1,.cons r t=>.cons r (Vals.take n t)
theorem Vals.drop:∀{xs:List V}{us:List ai}(n:Nat),Vals xs us->Vals (xs.drop n) (us.drop n)
 |_,_,0,r=>r
 |_,_,_+1,.nil=>.nil
 |_,_,n+1,.cons _ t=>Vals.drop n t
theorem Vals.none_of:∀{xs:List V}{us:List ai}{i:Nat},Vals xs us->xs[i]?=U->us[i]?=U:=λ{xs us i} r e=>by have Y:=r.length;have Z:xs.length<=i:=Ui.mp e;exact Ui.mpr byA
def kc:Option V->Option ai->Prop
 |some v,O u=>RelV v u
 |none,U=>True
 |_,_=>False
def KV{κ:Type}:List (κ×V)->List (κ×ai)->Prop:=Paired fun(p:κ×V) (q:κ×ai)=>p.1=q.1/\RelV p.2 q.2
def kV:Key->V
 |.inl i=>.int i
 |.inr x=>.str x
inductive HO where
 |lst (xs:List V)
 |tup (xs:List V)
 |dK (kvs:List (Key×V))|dT (kvs:List (Hn.NK×V))
 |set (S:Int->Bool) (n:Nat)
 |ins (C dx:aa) (fs:List (ak×V))
 |own (x:aa)
 |xd (fs:List (ak×V))
 |met (f x:aa)
 |tu (lo hi:Int)
 |dF (o:cK) (u:HO)
 |sU (ps:Array ai)
 |ext (φ:dj->Prop)
abbrev Hp:=aa->Option HO
mutual
def NV(H:Hp):Hn.NK->V->Prop
 |.az,v=>v=.az
 |.int i,v=>v=.int i
 |.tup l,v=>∃a xs,v=.ref a/\H a=O (.tup xs)/\fG H l xs
def fG(H:Hp):List Hn.NK->List V->Prop
 |[],vs=>vs=[]
 |k::l,vs=>∃v r,vs=v::r/\NV H k v/\fG H l r
end
mutual
theorem NV.mono(ht:∀b xs,H b=O (.tup xs)->H' b=O (.tup xs)):∀{k:Hn.NK}{v:V},NV H k v->NV H' k v
 |.az,v,h=>by simpa [NV]using h
 |.int i,v,h=>by simpa [NV]using h
 |.tup l,v,h=>by unfold NV at h ⊢;obtain⟨a,xs,e,Y,Z⟩:=h;exact⟨a,xs,e,ht _ _ Y,fG.mono ht Z⟩
theorem fG.mono(ht:∀b xs,H b=O (.tup xs)->H' b=O (.tup xs)):∀{l:List Hn.NK}{vs:List V},fG H l vs->fG H' l vs
 |[],vs,h=>by simpa [fG]using h
 |k::l,vs,h=>by unfold fG at h ⊢;obtain⟨v,r,e,Y,Z⟩:=h;exact⟨v,r,e,NV.mono ht Y,fG.mono ht Z⟩
end
def kO(H:Hp)(k:Hn.NK)(a:aa):Prop:=k.dep<=8/\NV H k (.ref a)
theorem kO.mono(ht:∀b xs,H b=O (.tup xs)->H' b=O (.tup xs))(h:kO H k a):kO H' k a:=⟨h.1,h.2.mono ht⟩
def upd(H:Hp)(a:aa)(o:HO):Hp:=λb=>if b=a then O o else H b
theorem aB:upd H a o a=O o:=by unfold upd;rw[aD rfl]
theorem bO(h:b≠a):upd H a o b=H b:=by unfold upd;rw[ao h]
theorem DF:upd (upd H a o) a u=upd H a u:=by funext b;unfold upd;split<;>rfl
theorem bZ{H:Hp}{a b:aa}{o u:HO}(h:H a=O o)(h':H b=O u)(d:o≠u):a≠b:=by intro e;subst e;rw[h]at h';exact d (bH h')
theorem aQ{H:Hp}{a b:aa}{o:HO}(h:H a=O o)(h':H b=U):a≠b:=by intro e;subst e;rw[h]at h';cases h'
section
variable(P:Program)(w:World)
def e7(H:Hp)(h:dj)(a:aa):HO->Prop
 |.lst xs=>J xs<=bf/\∃(its:List ai)(n:Nat),Vals xs its/\h.get? a=O {cls:=.type "list",data:=.seq its.toArray n }
 |.tup xs=>J xs<=bf/\∃its:List ai,Vals xs its/\qQ h a its.toArray
 |.dK kvs=>J kvs<=bf/\(a==jx)=false/\∃vs,KV kvs vs/\h.DictOf (jT P w) a vs
 |.dT kvs=>J kvs<=bf/\(a==jx)=false/\∃xs:List (Hn.NK×aa×ai),
  Paired (fun(p:Hn.NK×V) (q:Hn.NK×aa×ai)=>p.1=q.1/\kO H p.1 q.2.1/\RelV p.2 q.2.2) kvs xs /\
  ∃o es ep,h.get? a=O o/\o.ExactDict/\o.data=.dict es ep/\es.toList=xs.map (entryOfKey (Hn.qy P w))/\(xs.map (·.1)).Nodup
 |.set S n=>h.SetOf (intKind P w) a S n
 |.ins C dx fs=>H dx=O (.own a)/\J fs<=1000/\dx≠a/\h.get? a=O (PySem.W.instObj C dx) /\
  ∃mA,h.Ns1 dx mA/\(∀f,kc (fs.lookup f) (mA f))/\PySem.Within mA (fs.map (·.1))
 |.own _=>∃o,h.get? a=O o
 |.xd fs=>∃mA,h.Ns1 a mA/\∀f,kc (fs.lookup f) (mA f)
 |.tu lo hi=>∃t u v,h.get? a=O {cls:=.type "range",data:=.fields #[.int lo t,.int hi u,.int 1 v] }
 |.dF o u=>h.get? a=O o/\e7 H h a u
 |.sU ps=>h.get? a=O {cls:=.none,data:=.fields ps }
 |.met f x=>h.get? a=O (PySem.W.methodObj (.ref f) (.ref x))
 |.ext φ=>φ h/\(∃o,h.get? a=O o)/\∀h1 h2:dj,φ h1->(∀o,h1.get? a=O o->h2.get? a=O o)->φ h2
def d_(H:Hp)(h:dj):Prop:=∀a o,H a=O o->e7 P w H h a o
end
section
variable{P:Program}{w:World}{H H':Hp}{h h':Heap}{a:Addr}{o:HO}
theorem e7.lt(x:e7 P w H h a o):a<h.objs.size:=by
 cases o with
 |lst xs=>obtain⟨_,_,_,_,e⟩:=x;exact dO e
 |tup xs=>obtain⟨_,_,_,p⟩:=x;exact p.lt
 |dK kvs=>obtain⟨_,_,_,_,o,_,_,e,_⟩:=x;exact dO e
 |dT kvs=>obtain⟨_,_,_,_,o,_,_,e,_⟩:=x;exact dO e
 |set S n=>obtain⟨o,_,_,_,e,_⟩:=x;exact dO e
 |ins C dx fs=>obtain⟨_,_,_,e,_⟩:=x;exact dO e
 |own y=>obtain⟨_,e⟩:=x;exact dO e
 |xd fs=>obtain⟨_,⟨_,_,_,e,_⟩,_⟩:=x;exact dO e
 |tu lo hi=>obtain⟨_,_,_,e⟩:=x;exact dO e
 |dF Z u=>obtain⟨e,_⟩:=x;exact dO e
 |sU ps=>exact dO (show h.get? a=O _ from x)
 |met f y=>exact dO (show h.get? a=O _ from x)
 |ext φ=>obtain⟨_,⟨_,e⟩,_⟩:=x;exact dO e
theorem Paired.l_:∀{Y:List α}{Z:List β},Paired F Y Z->(∀a b,F a b->G a b)->Paired G Y Z
 |_,_,.nil,_=>.nil
 |_,_,.cons r t,f=>.cons (f _ _ r) (Paired.l_ t f)
theorem e7.stay(x:e7 P w H h a o)(k:∀b u,(b=a\/H b=O (.own a))->h.get? b=O u->h'.get? b=O u)
 (N:∀b,H b=O (.own a)->H' b=O (.own a)) (ht:∀b xs,H b=O (.tup xs)->H' b=O (.tup xs)):e7 P w H' h' a o:=by
 induction o with
 |lst xs=>obtain⟨z,R,n,r,e⟩:=x;exact⟨z,R,n,r,k _ _ (.inl Y) e⟩
 |tup xs=>obtain⟨z,R,r,Z,e,c⟩:=x;exact⟨z,R,r,Z,k _ _ (.inl Y) e,c⟩
 |dK kvs=>obtain⟨z,y,vs,r,Z,U,T,e,c⟩:=x;exact⟨z,y,vs,r,Z,U,T,k _ _ (.inl Y) e,c⟩
 |dT kvs=>obtain⟨z,y,xs,r,Z,U,T,e,c⟩:=x;exact⟨z,y,xs,Paired.l_ r λp q z=>⟨z.1,z.2.1.mono ht,z.2.2⟩,Z,U,T,k _ _ (.inl Y) e,c⟩
 |set S n=>obtain⟨Z,U,T,t,e,c⟩:=x;exact⟨Z,U,T,t,k _ _ (.inl Y) e,c⟩
 |ins C dx fs=>obtain⟨d,z,ne,e,mA,⟨od,U,T,e2,c⟩,r⟩:=x;exact⟨N _ d,z,ne,k _ _ (.inl Y) e,mA,⟨od,U,T,k _ _ (.inr d) e2,c⟩,r⟩
 |own y=>obtain⟨Z,e⟩:=x;exact⟨Z,k _ _ (.inl Y) e⟩
 |xd fs=>obtain⟨mA,⟨od,U,T,e,c⟩,r⟩:=x;exact⟨mA,⟨od,U,T,k _ _ (.inl Y) e,c⟩,r⟩
 |tu lo hi=>obtain⟨t,u,v,e⟩:=x;exact⟨t,u,v,k _ _ (.inl Y) e⟩
 |dF Z u Q=>obtain⟨e,q⟩:=x;exact⟨k _ _ (.inl Y) e,Q q⟩
 |sU ps=>have e:h.get? a=O {cls:=.none,data:=.fields ps }:=x;show h'.get? a=O {cls:=.none,data:=.fields ps };exact k a _ (.inl Y) e
 |met f y=>have e:h.get? a=O (PySem.W.methodObj (.ref f) (.ref y)):=x;show h'.get? a=O (PySem.W.methodObj (.ref f) (.ref y));exact k a _ (.inl Y) e
 |ext φ=>obtain⟨p,⟨o,e⟩,st⟩:=x;exact⟨st _ _ p λo q=>k _ _ (.inl Y) q,⟨o,k _ _ (.inl Y) e⟩,st⟩
theorem d_.lt(x:d_ P w H h)(e:H a=O o):a<h.objs.size:=(x a o e).lt
theorem d_.fresh(x:d_ P w H h)(e:h.objs.size<=a):H a=U:=by
 cases q:H a with
 |none=>rfl
 |some u=>exact absurd (lq (x.lt q) e) (pY _)
theorem d_.kept(x:d_ P w H h)(k:∀b u,h.get? b=O u->h'.get? b=O u):d_ P w H h':=λa o e=>
 (x a o e).stay (λb u _ q=>k b u q) (λ_ q=>q) λ_ _ q=>q
theorem d_.laid(x:d_ P w H h)(k:∀b u,h.get? b=O u->h'.get? b=O u)(Y:h.objs.size<=a)(new:e7 P w (upd H a o) h' a o):d_ P w (upd H a o) h':=λb u e=>by
 have Z:=x.fresh Y;by_cases hb:b=a
 .subst hb;rw[aB]at e;cases e;exact new
 .rw[bO hb]at e;exact(x b u e).stay (λc v _ q=>k c v q) (λc q=>by rw[bO (aQ q Z)];exact q) λc xs q=>by rw[bO (aQ q Z)];exact q
end
def Rd(H:Hp)(a:aa)(u:HO):Prop:=H a=O u\/∃o,H a=O (.dF o u)
theorem Rd.ok(r:Rd H a u)(x:d_ P w H h):e7 P w H h a u:=by
 rcases r with r|⟨o,r⟩
 .exact x a u r
 .obtain⟨_,q⟩:=x a _ r;exact q
def sH:Option HO->Prop
 |some (.lst _)=>True
 |some (.dK _)=>True
 |some (.dT _)=>True
 |some (.set _ _)=>True
 |some (.ins _ _ _)=>True
 |some (.ext _)=>True
 |_=>False
section
variable{P:Program}{w:World}{H:Hp}{h h':Heap}{x e:Addr}{o':HO}
theorem d_.write(ok:d_ P w H h)(T:sH (H x))(N:e=x\/H e=O (.own x))(k:∀b u,b≠e->h.get? b=O u->h'.get? b=O u)(R:∃u,h'.get? e=O u)
 (new:e7 P w (upd H x o') h' x o'):d_ P w (upd H x o') h':=λb u q=>by
 have W:∀c y,H c=O (.own y)->c≠x:=λc y r z=>by subst z;rw[r]at T;exact T
 have U:∀c xs,H c=O (.tup xs)->c≠x:=λc xs r z=>by subst z;rw[r]at T;exact T
 by_cases hb:b=x
 .subst hb;rw[aB]at q;cases q;exact new
 .rw[bO hb]at q;by_cases Z:b=e
  .have Q:H b=O (.own x):=by
    rcases N with z|z
    .exact absurd (Z.trans z) hb
    .rw[Z];exact z
   rw[q]at Q;cases Q;obtain⟨v,hv⟩:=R;exact⟨v,by rw[Z];exact hv⟩
  .refine(ok b u q).stay (λc v S r=>k c v ?_ r) (λc r=>by rw[bO (W c b r)];exact r) λc xs r=>by rw[bO (U c xs r)];exact r
   rcases S with rfl|S
   .exact Z
   .rintro rfl;rcases N with z|z
    .exact W c b S z
    .rw[S]at z;cases z;exact hb Y
end
structure Un(fs ex:List aa)(H H':Hp)(h h':dj):Prop where
 keep:∀b o,h.get? b=O o->H b=U->b∉fs->b∉ex->h'.get? b=O o
 slot:∀b o,h.get? b=O o->H b=U->b∈fs->b∉ex->∃sl,h'.get? b=O {o with slots:=sl }
 free:∀b o,h.get? b=O o->H b=U->b∉ex->H' b=U
 there:∀b o,h.get? b=O o->b∉ex->∃o',h'.get? b=O o'
 tups:∀b xs,H b=O (.tup xs)->H' b=O (.tup xs)
 nQ:∀b o u,H b=O (.dF o u)->H' b=O (.dF o u)
 oX:∀b ps,H b=O (.sU ps)->∃more,H' b=O (.sU (ps++more))
section
variable{fs fs' ex ex':List Addr}{H H1 H2:Hp}{h h1 h2 h':Heap}{a x e:Addr}{o:HO}
theorem Un.any(u:Un fs ex H H1 h h1)(q:h.get? b=O ob)(n:H b=U)(hx:b∉ex):∃sl,h1.get? b=O {ob with slots:=sl }:=by
 by_cases hb:b∈fs
 .exact u.slot b ob q n hb hx
 .exact⟨ob.slots,u.keep b ob q n hb hx⟩
theorem Un.kept(k:∀b u,h.get? b=O u->h'.get? b=O u):Un fs ex H H h h':=
 ⟨λb Z q _ _ _=>k b Z q,λb Z q _ _ _=>⟨Z.slots,k b Z q⟩,λ_ _ _ n _=>n,λb Z q _=>⟨Z,k b Z q⟩,λ_ _ q=>q,λ_ _ _ q=>q,λ_ ps q=>⟨#[],by rw[q];simp⟩⟩
theorem Un.refl:Un fs ex H H h h:=Un.kept λ_ _ q=>q
theorem Un.laid(k:∀b u,h.get? b=O u->h'.get? b=O u)(Y:h.objs.size<=a)(Z:H a=U):Un fs ex H (upd H a o) h h' where
 keep:=λb u q _ _ _=>k b u q
 slot:=λb u q _ _ _=>⟨u.slots,k b u q⟩
 free:=λb u q n _=>by rw[bO (iP (lq (dO q) Y))];exact n
 there:=λb u q _=>⟨u,k b u q⟩
 tups:=λb xs q=>by rw[bO (aQ q Z)];exact q
 nQ:=λb u xs q=>by rw[bO (aQ q Z)];exact q
 oX:=λb ps q=>⟨#[],by rw[bO (aQ q Z),q];simp⟩
theorem Un.write(Y:sH (H x))(R:e=x\/H e=O (.own x))(k:∀b u,b≠e->h.get? b=O u->h'.get? b=O u)(T:∃u,h'.get? e=O u):Un fs ex H (upd H x o) h h':=by
 have hx:∀b,H b=U->b≠x:=λb n z=>by subst z;rw[n]at Y;exact Y
 have hb:∀b,H b=U->b≠e:=λb n z=>by
  subst z;rcases R with r|r
  .exact hx b n r
  .rw[n]at r;cases r
 have W:∀b u,H b=O u->¬sH (O u)->b≠x:=λb u q S z=>by subst z;rw[q]at Y;exact S Y
 refine⟨λb u q n _ _=>k b u (hb b n) q,λb u q n _ _=>⟨u.slots,k b u (hb b n) q⟩,λb u q n _=>by rw[bO (hx b n)];exact n,λb u q _=>?_,
  λb xs q=>by rw[bO (W b _ q λz=>z)];exact q,λb u xs q=>by rw[bO (W b _ q λz=>z)];exact q,λb ps q=>⟨#[],by rw[bO (W b _ q λz=>z),q];simp⟩⟩
 by_cases Z:b=e
 .subst Z;exact T
 .exact⟨u,k b u Z q⟩
end
def zX(h:dj)(H:Hp):List Addr:=(bA h.objs.size).filter λa=>(H a).isSome
def qC(h:dj)(H:Hp):Heap:=PySem.W.hideAll h (zX h H)
theorem abD(h:dj)(H:Hp):(qC h H).objs.size=h.objs.size:=PySem.W.hideAll_size _ _
theorem abE(e:h.get? b=O o)(n:H b=U):(qC h H).get? b=O o:=
 PySem.W.hideAll_get _ e λZ=>by have q:(H b).isSome=true:=(jk.mp Z).2;rw[n]at q;simp at q
theorem Zl(e:(qC h H).get? b=O o):h.get? b=O o/\H b=U:=by
 have Z:h.get? b=O o:=PySem.W.of_hideAll (zX h H) e;refine⟨Z,?_⟩;cases q:H b with
 |none=>rfl
 |some x=>have Y:b∈zX h H:=jk.mpr ⟨iB.mpr (dO Z),by simp[q]⟩;have z:(qC h H).get? b=U:=PySem.W.hideAll_none (zX h H) Y;rw[z]at e;cases e
end L2
namespace L2
open PySem PySem.Spec PyProof.Rows
structure Mod(K:PySem.W.Frag)(mg:ak->Option ai)(base:dj):Prop where
 vN:K.In base
 glob:base.Ns jr mg
 blt:∃mb,base.Ns SV mb/\∀x:ak,x≠"__name__"->mb x=yp x
 nolimit:base.NoLimit
structure Cx where
 prog:fV
 w:d9
 K:PySem.W.Frag
 mg:ak->Option ai
 base:dj
 A:jd
 N:List ak
 jl:aS
 uE:Hp
 env:i0
 outer:List i0
 stack:List i0
 ex:List aa
 fn:ak->Bool
 calm:Bool
 pn:List (aa×cK)
 xe:ai->aS->Prop
def frs(l:List i0):List Addr:=l.filterMap (·.frame)
abbrev Cx.fs(X:Cx):List Addr:=frs X.outer
def vX(sc:lg)(x:ak):Prop:=sc.names.lookup x=O .local\/sc.names.lookup x=O .cell\/sc.names.lookup x=O .free
def Loc(sc:lg)(x:ak):Prop:=sc.names.lookup x=O .local\/sc.names.lookup x=O .cell
def Look(env:i0)(h:dj)(m:ak->Option ai)(x:ak)(u:ai):Prop:=
 (env.kindOf x=O .local/\m x=O u)\/((env.kindOf x=O .cell\/env.kindOf x=O .free)/\∃c,env.cells.lookup x=O c/\h.IsCell c (O u))
structure Cx.Ok(X:Cx):Prop where
 mod:Mod X.K X.mg X.base
 kind:X.env.scope.kind=.function
 glob:X.env.globals=jr
 blt:X.env.builtins=SV
 above:X.jl.heap.objs.size<=X.env.locals
 inj:∀x y c,X.env.cells.lookup x=O c->X.env.cells.lookup y=O c->x=y
 has:∀x,(X.env.kindOf x=O .cell\/X.env.kindOf x=O .free)->∃c,X.env.cells.lookup x=O c
 yj:∀x c,X.fn x=true->X.env.cells.lookup x=O c->X.jl.heap.objs.size<=c
 hd:X.calm=true->X.A.handled=U
 frames:X.A.frames=O X.stack
 stk:X.stack=X.outer\/(X.stack=X.env::X.outer/\X.env.frame=O X.env.locals)
 BG:∀b∈X.ex,b≠X.env.locals/\∀x c,X.env.cells.lookup x=O c->c≠b
 bs:∀b o,X.base.get? b=O o->X.jl.heap.get? b=O o/\X.uE b=U
 pN:X.base.objs.size<=X.jl.heap.objs.size
 xM:∀b o,X.base.get? b=O o->b∉X.ex
 ya:∀b∈X.ex,b∉X.fs
 mZ:X.jl.heap.FunFrames X.base X.outer
 qF:∀b∈X.fs,X.uE b=U
structure Inv(X:Cx)(pins:List (aa×cK))(σ:List (Option V))(H:Hp)(s:aS):Prop where
 ok:X.Ok
 os:s.os=X.jl.os
 bare:wG s.gens
 base:Un X.fs X.ex X.uE H X.jl.heap s.heap
 loc:∃m,s.heap.Ns X.env.locals m/\∀(i:Nat)(x:ak)(v:V),X.N[i]?=O x->σ[i]?=O (O v)->vX X.env.scope x->∃u,RelV v u/\Look X.env s.heap m x u
 cell:∀x c,X.env.cells.lookup x=O c->∃v,s.heap.IsCell c v
 free:H X.env.locals=U
 m8:∀x c,X.env.cells.lookup x=O c->H c=U
 pin:∀p∈X.pn++pins,s.heap.get? p.1=O p.2/\H p.1=U/\p.1≠X.env.locals/\p.1∉X.fs/\∀v,p.2.data≠.cell v
 hok:d_ X.prog X.w H s.heap
 len:J σ=J X.N
section
variable{X:Cx}{pins:List (Addr×Obj)}{σ:List (Option V)}{H H':Hp}{s:Shared}{h':Heap}
theorem Cx.Ok.Zs(ok:X.Ok)(e:X.base.get? b=O o):b∉X.fs:=λhb=>by have:=(ok.mZ.mem hb).1;rw[e]at this;cases this
theorem Inv.bs(I:Inv X pins σ H s):∀b o,X.base.get? b=O o->s.heap.get? b=O o/\H b=U:=λb o e=>
 ⟨I.base.keep b o (I.ok.bs b o e).1 (I.ok.bs b o e).2 (I.ok.Zs e) (I.ok.xM b o e),I.base.free b o (I.ok.bs b o e).1 (I.ok.bs b o e).2 (I.ok.xM b o e)⟩
theorem Inv.bk(I:Inv X pins σ H s):∀b o,X.base.get? b=O o->s.heap.get? b=O o:=λb o e=>(I.bs b o e).1
theorem Inv.mod(I:Inv X pins σ H s):Mod X.K X.mg X.base:=I.ok.mod
theorem Inv.jX(I:Inv X pins σ H s):X.K.In s.heap:=I.ok.mod.vN.keeps I.bk
theorem Inv.lt(I:Inv X pins σ H s):X.env.locals<s.heap.objs.size:=let ⟨_,Z,_⟩:=I.loc;Z.lt
theorem Inv.sz(I:Inv X pins σ H s):X.jl.heap.objs.size<=s.heap.objs.size:=eL I.ok.above (JS I.lt)
theorem Inv.Zq(I:Inv X pins σ H s)(h:s.heap.objs.size<=a):a∉X.fs:=λhb=>by obtain⟨_,o,Z,_⟩:=I.ok.mZ.mem hb;exact absurd (lq (dO Z) (eL I.sz h)) (pY _)
theorem Inv.ug(I:Inv X pins σ H s):∀x c,X.env.cells.lookup x=O c->c≠X.env.locals:=λx c e z=>by obtain⟨v,o,W,hd⟩:=I.cell x c e;obtain⟨m,⟨o',U,T,Z,Y,_⟩,_⟩:=I.loc;rw[z,Z]at W;cases W;rw[Y]at hd;cases hd
theorem Inv.mZ(I:Inv X pins σ H s):s.heap.FunFrames X.base X.outer:=by
 have all:∀(l:List i0),(∀b∈frs l,b∈X.fs)->X.jl.heap.FunFrames X.base l->s.heap.FunFrames X.base l:=by
  intro l
  induction l with
  |nil=>intro _ _;trivial
  |cons env r U=>intro W hl;obtain⟨Q,⟨L,o,Z,R,S,hd⟩,T⟩:=hl;have Y:L∈X.fs:=W L (by unfold frs;rw[fR,Z];exact mL);obtain⟨sl,e⟩:=I.base.slot L o S (I.ok.qF L Y) Y λz=>I.ok.ya L z Y;exact⟨Q,⟨L,_,Z,R,e,hd⟩,U (λb hb=>W b (by unfold frs;rw[fR,Z];exact dR _ hb)) T⟩
 exact all X.outer (λ_ hb=>hb) I.ok.mZ
theorem Inv.stack(I:Inv X pins σ H s):s.heap.FunFrames X.base X.stack:=by
 rcases I.ok.stk with e|⟨e,Y⟩
 .rw[e];exact I.mZ
 .rw[e];obtain⟨m,Z,_⟩:=I.loc;refine .cons (by rw[I.ok.kind];decide) Y Z ?_ I.mZ;exact Heap.get?_none_of_le (eL I.ok.pN I.ok.above)
theorem Inv.DX(I:Inv X pins σ H s):∀b∈frs X.stack,b∈X.env.locals::X.fs:=λb hb=>by
 rcases I.ok.stk with e|⟨e,Z⟩
 .rw[e]at hb;exact dR _ hb
 .rw[e]at hb;unfold frs at hb;rw[fR,Z]at hb;exact hb
theorem Inv.MC(I:Inv X pins σ H s):∀b∈frs X.stack,H b=U:=λb hb=>by
 rcases bE.mp (I.DX b hb) with e|hb
 .rw[e];exact I.free
 .obtain⟨_,o,Z,_⟩:=I.ok.mZ.mem hb;exact I.base.free b o Z (I.ok.qF b hb) λz=>I.ok.ya b z hb
theorem Inv.step{g':Array GenState}{t':Nat}{d':Drawn}{ch:List aa}(I:Inv X pins σ H s)
 (W:∀b∈ch,(b∈X.ex\/X.jl.heap.objs.size<=b)/\b≠X.env.locals/\(∀x c,X.env.cells.lookup x=O c->c≠b)/\∀p∈X.pn++pins,p.1≠b)
 (keep:∀b o,b≠X.env.locals->b∉X.fs->b∉ch->s.heap.get? b=O o->H b=U->h'.get? b=O o)
 (slot:∀b o,b≠X.env.locals->b∈X.fs->b∉ch->s.heap.get? b=O o->H b=U->∃sl,h'.get? b=O {o with slots:=sl }) (free:∀b o,b∉ch->s.heap.get? b=O o->H b=U->H' b=U)
 (there:∀b o,b∉ch->s.heap.get? b=O o->∃o',h'.get? b=O o')
 (tups:∀b xs,H b=O (.tup xs)->H' b=O (.tup xs)) (nQ:∀b o u,H b=O (.dF o u)->H' b=O (.dF o u)) (oX:∀b ps,H b=O (.sU ps)->∃more,H' b=O (.sU (ps++more)))
 (ns:∀m,s.heap.Ns X.env.locals m->h'.Ns X.env.locals m) (hok:d_ X.prog X.w H' h') (F:wG g') :
 Inv X pins σ H' {s with heap:=h',gens:=g',drawn:=d',toks:=t' }:=by
 have Q:∀b o,X.jl.heap.get? b=O o->b≠X.env.locals:=λb o e=>iP (lq (dO e) I.ok.above);have S:∀b o,X.jl.heap.get? b=O o->b∉X.ex->b∉ch:=λb o e hx hb=>by
  rcases(W b hb).1 with z|z
  .exact hx z
  .exact absurd (lq (dO e) z) (pY _)
 have T:∀x c,X.env.cells.lookup x=O c->∀v,s.heap.IsCell c v->h'.IsCell c v:=λx c e v ⟨o,R,hd⟩=>by
  have Z:c∉ch:=λz=>(W c z).2.2.1 x c e rfl;by_cases L:c∈X.fs
  .obtain⟨sl,q⟩:=slot c o (I.ug x c e) L Z R (I.m8 x c e);exact⟨_,q,hd⟩
  .exact⟨o,keep c o (I.ug x c e) L Z R (I.m8 x c e),hd⟩
 refine⟨I.ok,I.os,F,⟨λb o e n hb hx=>?_,λb o e n hb hx=>?_,λb o e n hx=>?_,λb o e hx=>?_,λb xs e=>tups b xs (I.base.tups b xs e),λb o xs e=>nQ b o xs (I.base.nQ b o xs e),λb ps e=>?_⟩,?_,λx c e=>?_,?_,λx c e=>?_,λp M=>?_,hok,I.len⟩
 .exact keep b o (Q b o e) hb (S b o e hx) (I.base.keep b o e n hb hx) (I.base.free b o e n hx)
 .obtain⟨sl,e1⟩:=I.base.slot b o e n hb hx;obtain⟨P,e2⟩:=slot b _ (Q b o e) hb (S b o e hx) e1 (I.base.free b o e n hx);exact⟨P,e2⟩
 .obtain⟨o',e1⟩:=I.base.there b o e hx;exact free b o' (S b o e hx) e1 (I.base.free b o e n hx)
 .obtain⟨o',e1⟩:=I.base.there b o e hx;exact there b o' (S b o e hx) e1
 .obtain⟨J,e1⟩:=I.base.oX b ps e;obtain⟨K,e2⟩:=oX b _ e1;exact⟨J++K,by rw[e2,Array.append_assoc]⟩
 .obtain⟨m,G,hl⟩:=I.loc;refine⟨m,ns m G,λi x v e1 e2 E=>?_⟩;obtain⟨u,r,l⟩:=hl i x v e1 e2 E;refine⟨u,r,?_⟩;rcases l with l|⟨k,c,e,z⟩
  .exact .inl l
  .exact .inr ⟨k,c,e,T x c e _ z⟩
 .obtain⟨v,z⟩:=I.cell x c e;exact⟨v,T x c e v z⟩
 .obtain⟨m,⟨o,_,_,R,_⟩,_⟩:=I.loc;exact free _ o (λz=>(W _ z).2.1 Y) R I.free
 .obtain⟨v,o,R,hd⟩:=I.cell x c e;exact free c o (λz=>(W c z).2.2.1 x c e Y) R (I.m8 x c e)
 .obtain⟨e,n,ne,N,d⟩:=I.pin p M;have Z:p.1∉ch:=λz=>(W p.1 z).2.2.2 p M rfl;exact⟨keep p.1 p.2 ne N Z e n,free p.1 p.2 Z e n,ne,N,d⟩
theorem Inv.un{t':Nat}(I:Inv X pins σ H s)(u:Un X.fs [] H H' s.heap h')(hok:d_ X.prog X.w H' h'):Inv X pins σ H' {s with heap:=h',toks:=t' }:=by obtain⟨m,⟨o,P,O,U,r⟩,_⟩:=id I.loc;obtain⟨sl,R⟩:=u.any U I.free byB;exact I.step (g':=s.gens) (d':=s.drawn) (ch:=[]) (λ_ z=>nomatch z) (λb o _ hb _ e n=>u.keep b o e n hb byB) (λb o _ hb _ e n=>u.slot b o e n hb byB) (λb o _ e n=>u.free b o e n byB) (λb o _ e=>u.there b o e byB) u.tups u.nQ u.oX (λQ S=>by obtain⟨o',Y,W,Z,T⟩:=S;rw[U]at Z;cases Z;exact⟨_,Y,W,R,T⟩) hok I.bare
theorem Inv.call{g':Array GenState}{t':Nat}{d':Drawn}{ch:List aa}(I:Inv X pins σ H s)(u:Un (frs X.stack) ch H H' s.heap h')(hok:d_ X.prog X.w H' h')(M:wG g')
 (U:∀b∈ch,(b∈X.ex\/X.jl.heap.objs.size<=b)/\b≠X.env.locals/\(∀x c,X.env.cells.lookup x=O c->c≠b)/\∀p∈X.pn++pins,p.1≠b) :
 Inv X pins σ H' {s with heap:=h',gens:=g',drawn:=d',toks:=t' }:=by
 obtain⟨m,⟨o,K,J,Q,r⟩,_⟩:=id I.loc;obtain⟨sl,T⟩:=u.any Q I.free λz=>(U _ z).2.1 Y;exact I.step (ch:=ch) U (λb o T hb Z e n=>u.keep b o e n (λz=>(bE.mp (I.DX b z)).elim T hb) Z) (λb o _ _ Z e n=>u.any e n Z) (λb o Z e n=>u.free b o e n Z) (λb o Z e=>u.there b o e Z) u.tups u.nQ u.oX (λL N=>by obtain⟨o',S,R,W,P⟩:=N;rw[Q]at W;cases W;exact⟨_,S,R,T,P⟩) hok M
theorem Inv.turned{t':Nat}{it:aa}(I:Inv X pins σ H s)(k:∀b o,b≠it->s.heap.get? b=O o->h'.get? b=O o)(S:H it=U)(W:it≠X.env.locals)
 (N:it∈X.ex\/X.jl.heap.objs.size<=it) (P:∀x c,X.env.cells.lookup x=O c->c≠it) (Q:∀p∈X.pn++pins,p.1≠it):Inv X pins σ H {s with heap:=h',toks:=t' }:=by
 have Y:∀b u,H b=O u->b≠it:=λb u e z=>by rw[z,S]at e;cases e
 refine I.step (g':=s.gens) (d':=s.drawn) (ch:=[it]) (λb hb=>?_) (λb o _ _ Z e _=>k b o (λz=>Z (by simp[z])) e) (λb o _ _ Z e _=>⟨o.slots,k b o (λz=>Z (by simp[z])) e⟩) (λ_ _ _ _ n=>n)
  (λb o Z e=>⟨o,k b o (λz=>Z (by simp[z])) e⟩) (λ_ _ e=>e) (λ_ _ _ e=>e) (λb ps e=>⟨#[],by rw[e];simp⟩) (λm R=>?_) (λb u e=>?_) I.bare
 .have e:b=it:=by simpa using hb
  subst e;exact⟨N,W,P,Q⟩
 .obtain⟨o,M,L,T,r⟩:=R;exact⟨o,M,L,k _ o (cO W) T,r⟩
 .refine(I.hok b u e).stay (λc v Z q=>k c v ?_ q) (λ_ q=>q) λ_ _ q=>q;rcases Z with z|z
  .rw[z];exact Y b u e
  .exact Y c _ z
theorem Inv.tok(I:Inv X pins σ H s)(t:Nat):Inv X pins σ H {s with toks:=t }:=I.un (h':=s.heap) (t':=t) Un.refl I.hok
theorem Inv.kept(I:Inv X pins σ H s)(k:∀b u,s.heap.get? b=O u->h'.get? b=O u):Inv X pins σ H {s with heap:=h',toks:=t' }:=I.un (Un.kept k) (I.hok.kept k)
theorem Inv.laid(I:Inv X pins σ H s)(k:∀b u,s.heap.get? b=O u->h'.get? b=O u)(Z:s.heap.objs.size<=a)(new:e7 X.prog X.w (upd H a o) h' a o):
 Inv X pins σ (upd H a o) {s with heap:=h',toks:=t' }:=I.un (Un.laid k Z (I.hok.fresh Z)) (I.hok.laid k Z new)
theorem Inv.write(I:Inv X pins σ H s)(Y:sH (H x))(W:e=x\/H e=O (.own x))(k:∀b u,b≠e->s.heap.get? b=O u->h'.get? b=O u)(Z:∃u,h'.get? e=O u)
 (new:e7 X.prog X.w (upd H x o) h' x o):Inv X pins σ (upd H x o) {s with heap:=h',toks:=t' }:=I.un (Un.write Y W k Z) (I.hok.write Y W k Z new)
theorem Inv.weak(I:Inv X pins σ H s)(hl:J σ'=J σ)(w:∀(i:Nat) v,σ'[i]?=O (O v)->σ[i]?=O (O v)):Inv X pins σ' H s:=
 ⟨I.ok,I.os,I.bare,I.base,let ⟨m,Y,Z⟩:=I.loc;⟨m,Y,λi x v e1 e2 W=>Z i x v e1 (w i v e2) W⟩,I.cell,I.free,I.m8,I.pin,I.hok,hl.trans I.len⟩
theorem Inv.O8(I:Inv X pins σ H s)(h:∀p∈YS,s.heap.get? p.1=O p.2/\H p.1=U/\p.1≠X.env.locals/\p.1∉X.fs/\∀v,p.2.data≠.cell v):Inv X YS σ H s:=
 ⟨I.ok,I.os,I.bare,I.base,I.loc,I.cell,I.free,I.m8,λp Z=>(kh.mp Z).elim (λz=>I.pin p (JY _ z)) (h p),I.hok,I.len⟩
theorem EY{N:List ak}(Z:N.Nodup){i j:Nat}{x:ak}(a:N[i]?=O x)(b:N[j]?=O x):i=j:=by obtain⟨W,e1⟩:=cV.mp a;obtain⟨Y,e2⟩:=cV.mp b;exact(ae2 Z).mp (e1.trans e2.symm)
theorem Mz{M:Model}{A:jd}{E:ai->aS->Prop}{i:Nat}{x:ak}{v:V}{u:ai}{Q:Unit->aS->Prop}(I:Inv X pins σ H s)(hN:X.N.Nodup)(hi:X.N[i]?=O x)(hx:Loc X.env.scope x)(r:RelV v u)
 (h:∀s',Inv X pins (σ.set i (O v)) H s'->(∃a,sM a s.heap s'.heap/\(a=X.env.locals\/X.env.cells.lookup x=O a))->Q () s') (hf:X.fn x=true\/X.env.scope.names.lookup x=O .local:=by first|exact .inl Y|exact .inr Y|assumption):aP M A (MA X.env x u) Q E s:=by
 obtain⟨m,hn,hl⟩:=id I.loc;have D:(X.env.scope.kind==.class || (X.env.scope.kind==.module&&X.env.locals != X.env.globals))=false:=by rw[I.ok.kind];rfl
 have P:i<J σ:=by rw[I.len];exact(cV.mp hi).1
 have ug:=I.ug;have W:∀{a:aa}{h':dj},(∃o,s.heap.get? a=O o/\H a=U)->sM a s.heap h'->d_ X.prog X.w H h':=λ{a h'} ha Z b ob e=>by
  obtain⟨_,_,S⟩:=ha;refine(I.hok b ob e).stay (λc l T q=>(Z.2 c ?_).trans q) (λ_ q=>q) λ_ _ q=>q;rintro rfl;rcases T with rfl|T
  .rw[S]at e;cases e
  .rw[S]at T;cases T
 rcases hx with R|R
 .refine wpAny_storeName_local R hn (λh' hg Z=>?_) D;obtain⟨oL,_,_,he,_⟩:=id hn;refine h _ ⟨I.ok,I.os,I.bare,⟨λb o e n hb hx=>?_,λb o e n hb hx=>?_,I.base.free,λb o e hx=>?_,I.base.tups,I.base.nQ,I.base.oX⟩,⟨_,hg,λj y f e1 e2 e3=>?_⟩,λy c e=>?_,I.free,I.m8,λp hp=>?_,W ⟨oL,he,I.free⟩ Z,by simpa using I.len⟩ ⟨_,Z,.inl Y⟩
  .exact(Z.2 b (iP (lq (dO e) I.ok.above))).trans (I.base.keep b o e n hb hx)
  .obtain⟨sl,e1⟩:=I.base.slot b o e n hb hx;exact⟨sl,(Z.2 b (iP (lq (dO e) I.ok.above))).trans e1⟩
  .obtain⟨o',e1⟩:=I.base.there b o e hx;exact⟨o',(Z.2 b (iP (lq (dO e) I.ok.above))).trans e1⟩
  .by_cases L:j=i
   .subst L;rw[hi]at e1;cases e1;rw[Cy P]at e2;cases e2;exact⟨u,r,.inl ⟨R,byB⟩⟩
   .rw[J0 (cO L)]at e2;obtain⟨u',r',q⟩:=hl j y f e1 e2 e3;refine⟨u',r',?_⟩;rcases q with⟨k,e⟩|⟨k,c,e,z⟩
    .refine .inl ⟨k,?_⟩;have:y≠x:=λe=>L (EY hN e1 (e ▸ hi));simp[this,e]
    .exact .inr ⟨k,c,e,z.sameBut Z (ug y c e)⟩
  .obtain⟨l,z⟩:=I.cell y c e;exact⟨l,z.sameBut Z (ug y c e)⟩
  .obtain⟨e,n,ne,nf,d⟩:=I.pin p hp;exact⟨(Z.2 p.1 ne).trans e,n,ne,nf,d⟩
 .have K:X.fn x=true:=by
   rcases hf with z|z
   .exact z
   .rw[z]at R;cases R
  obtain⟨c,T⟩:=I.ok.has x (.inl R);obtain⟨l,z⟩:=I.cell x c T;refine wpAny_storeName_cell I.ok.kind R T z (λh' B Z=>?_);obtain⟨oc,F,G⟩:=id z;refine h {s with heap:=h' } ⟨I.ok,I.os,I.bare,⟨λb o e n hb hx=>?_,λb o e n hb hx=>?_,I.base.free,λb o e hx=>?_,I.base.tups,I.base.nQ,I.base.oX⟩,⟨m,hn.sameBut Z (cO (ug x c T)),λj y f e1 e2 e3=>?_⟩,λy g e=>?_,I.free,I.m8,λp hp=>?_,W ⟨oc,F,I.m8 x c T⟩ Z,by simpa using I.len⟩ ⟨c,Z,.inr T⟩
  .exact(Z.2 b (iP (lq (dO e) (I.ok.yj x c K T)))).trans (I.base.keep b o e n hb hx)
  .obtain⟨sl,e1⟩:=I.base.slot b o e n hb hx;exact⟨sl,(Z.2 b (iP (lq (dO e) (I.ok.yj x c K T)))).trans e1⟩
  .obtain⟨o',e1⟩:=I.base.there b o e hx;exact⟨o',(Z.2 b (iP (lq (dO e) (I.ok.yj x c K T)))).trans e1⟩
  .by_cases L:j=i
   .subst L;rw[hi]at e1;cases e1;rw[Cy P]at e2;cases e2;exact⟨u,r,.inr ⟨.inl R,c,T,B⟩⟩
   .rw[J0 (cO L)]at e2;obtain⟨u',r',q⟩:=hl j y f e1 e2 e3;refine⟨u',r',?_⟩;rcases q with q|⟨k,g,e,z'⟩
    .exact .inl q
    .refine .inr ⟨k,g,e,z'.sameBut Z ?_⟩;rintro rfl;exact L (EY hN e1 (I.ok.inj _ _ _ e T ▸ hi))
  .by_cases C:g=c
   .subst C;exact⟨_,B⟩
   .obtain⟨w2,z2⟩:=I.cell y g e;exact⟨w2,z2.sameBut Z C⟩
  .obtain⟨e,n,ne,nf,d⟩:=I.pin p hp;refine⟨(Z.2 p.1 ?_).trans e,n,ne,nf,d⟩;intro q;rw[q,F]at e;have q':oc=p.2:=bH e;exact d l (by rw[<-q'];exact G)
theorem DW(I:Inv X pins σ H s)(W:X.N.Nodup)(hi:X.N[i]?=O x)(hx:Loc X.env.scope x)(r:RelV v u)
 (h:∀s',Inv X pins (σ.set i (O v)) H s'->Q () s') (Z:X.fn x=true\/X.env.scope.names.lookup x=O .local:=by first|exact .inl Y|exact .inr Y|assumption):aP M A (MA X.env x u) Q E s:=
 Mz I W hi hx r (λs' U _=>h s' U) Z
theorem Inv.adX(I:Inv X pins σ H s)(U:s'.os=s.os)(u:Un (frs X.stack) ch H H' s.heap s'.heap)(hok:d_ X.prog X.w H' s'.heap)(T:wG s'.gens)
 (Z:∀b∈ch,(b∈X.ex\/X.jl.heap.objs.size<=b)/\b≠X.env.locals/\(∀x c,X.env.cells.lookup x=O c->c≠b)/\∀p∈X.pn++pins,p.1≠b):Inv X pins σ H' s':=by
 obtain⟨h',W,d',Y,o'⟩:=s';have e:o'=s.os:=U;subst e;exact I.call (g':=W) (t':=Y) (d':=d') u hok T Z
end
abbrev XK:=ai->Option aa->Hp->Prop
abbrev St:=List (Option V)
abbrev VK:=V->Hp->Prop
abbrev TE:=St->Hp->VK->Prop
abbrev TT:=St->Hp->(Bool->Hp->Prop)->Prop
abbrev TA:=St->Hp->(List V->Hp->Prop)->Prop
structure Ends where
 nx:St->Hp->Prop
 rt:VK
 bk:St->Hp->Prop:=λ_ _=>False
 ct:St->Hp->Prop:=λ_ _=>False
abbrev TS:=Ends->St->Hp->Prop
inductive EP(X:Cx)(pins:List (aa×cK))(σ:St)(Q:VK)(u:ai)(s':aS):Prop
 |mk(v H':_)(_:Inv X pins σ H' s')(_:RelV v u)(_:Q v H'):EP X pins σ Q u s'
def TP(X:Cx)(pins:List (aa×cK))(σ:St)(Q:Bool->Hp->Prop)(b:Bool)(s':aS):Prop:=∃H',Inv X pins σ H' s'/\Q b H'
inductive AP(X:Cx)(pins:List (aa×cK))(σ:St)(Q:List V->Hp->Prop)(us:List ai)(s':aS):Prop
 |mk(vs H':_)(_:Inv X pins σ H' s')(_:Vals vs us)(_:Q vs H'):AP X pins σ Q us s'
def SP(X:Cx)(pins:List (aa×cK))(D:Ends)(f:Flow)(s':aS):Prop:=
 match f with
 |.next=>∃σ' H',Inv X pins σ' H' s'/\D.nx σ' H'
 |.brk=>∃σ' H',Inv X pins σ' H' s'/\D.bk σ' H'
 |.cont=>∃σ' H',Inv X pins σ' H' s'/\D.ct σ' H'
 |.ret u=>∃v σ' H',Inv X pins σ' H' s'/\RelV v u/\D.rt v H'
def PE(X:Cx)(e:ff)(t:TE):Prop:=
 ∀(pins:List (aa×cK))(s:aS)(σ:St)(H:Hp)(Q:VK),Inv X pins σ H s->t σ H Q->aP (a_ X.prog X.w) X.A (di e X.env) (EP X pins σ Q) X.xe s
def PT(X:Cx)(e:ff)(t:TT):Prop:=
 ∀(pins:List (aa×cK))(s:aS)(σ:St)(H:Hp)(Q:Bool->Hp->Prop),Inv X pins σ H s->t σ H Q->aP (a_ X.prog X.w) X.A (GR e X.env (di e X.env)) (TP X pins σ Q) X.xe s
def PW(X:Cx)(e:ff)(t:TT):Prop:=
 ∀(whole:Sem ai)(pins:List (aa×cK))(s:aS)(σ:St)(H:Hp)(Q:Bool->Hp->Prop),Inv X pins σ H s->t σ H Q->aP (a_ X.prog X.w) X.A (GR e X.env whole) (TP X pins σ Q) X.xe s
theorem PW.pt(h:PW X e t):PT X e t:=h _
def PA(X:Cx)(es:List ff)(t:TA):Prop:=
 ∀(pos:pV)(pins:List (aa×cK))(s:aS)(σ:St)(H:Hp)(Q:List V->Hp->Prop),Inv X pins σ H s->t σ H Q->aP (a_ X.prog X.w) X.A (spliced (mC pos (eS es X.env))) (AP X pins σ Q) X.xe s
def PS(X:Cx)(st:mF)(t:TS):Prop:=
 ∀(pins:List (aa×cK))(s:aS)(σ:St)(H:Hp)(D:Ends),Inv X pins σ H s->t D σ H->aP (a_ X.prog X.w) X.A (exec st X.env) (SP X pins D) X.xe s
def mJ(X:Cx)(st:List mF)(t:TS):Prop:=
 ∀(pins:List (aa×cK))(s:aS)(σ:St)(H:Hp)(D:Ends),Inv X pins σ H s->t D σ H->aP (a_ X.prog X.w) X.A (execs st X.env) (SP X pins D) X.xe s
theorem br(h:aP M A t Q E s)(Z:∀a s,Q a s->Q' a s):aP M A t Q' E s:=nA h Z λ_ _ x=>x
end L2
namespace L2
open PySem PySem.Spec PyProof.Rows
section
variable{X:Cx}
inductive zZ(i:Nat)(σ:St)(H:Hp)(Q:VK):Prop
 |mk(v:_)(_:σ[i]?=O (O v))(_:Q v H):zZ i σ H Q
def tC(v:V):TE:=λ_ H Q=>Q v H
theorem Y3(T:X.N[i]?=O x)(hv:vX X.env.scope x)(hd:(x==("__debug__":ak))=false:=by decide)(W:(x==("__classdict__":ak))=false:=by decide):PE X (.Name x pos) (zZ i):=by
 intro pins s σ H Q I h;obtain⟨v,e,h⟩:=h;obtain⟨m,U,hl⟩:=I.loc;obtain⟨u,r,l⟩:=hl i x v T e hv;have Y:EP X pins σ Q u s:=⟨v,H,I,r,h⟩;rcases l with⟨Z,hm⟩|⟨Z,c,hc,hcell⟩
 .exact Lp (U3 I.ok.kind Z U hm Y) hd
 .rcases Z with Z|Z
  .exact Lp (U4 I.ok.kind Z hc hcell Y) hd
  .exact Lp (wpAny_loadName_free I.ok.kind Z hc hcell Y W) hd
theorem aK{i j pos}:PE X (.Constant (.int i) j pos) (tC (.int i)):=λ_ _ _ H _ I h=>wpAny_Constant_int ⟨.int i,H,I.tok _,⟨_,rfl⟩,h⟩
theorem jn{b j pos}:PE X (.Constant (.bool b) j pos) (tC (.bl b)):=λ_ _ _ H _ I h=>Constant_bool ⟨.bl b,H,I,rfl,h⟩
theorem d7{j pos}:PE X (.Constant .none j pos) (tC .az):=λ_ _ _ H _ I h=>Constant_none ⟨.az,H,I,rfl,h⟩
def Gl(X:Cx)(x:ak):Prop:=X.env.kindOf x=O .globalImplicit
theorem Bf(I:Inv X pins σ H s)(Y:Gl X x)(Z:X.mg x=O u)(h:Q u s)
 (hd:(x==("__debug__":ak))=false:=by decide):aP (a_ X.prog X.w) X.A (di (.Name x pos) X.env) Q E s:=
 agG I.ok.kind Y (Calls.loadGlobal_global (by rw[I.ok.glob];exact I.mod.glob.keeps I.bk) Z h) hd
theorem tX(I:Inv X pins σ H s)(W:Gl X x)(Y:X.mg x=U)(hv:yp x=O u)(h:Q u s)
 (Z:x≠"__name__":=by decide) (hd:(x==("__debug__":ak))=false:=by decide):aP (a_ X.prog X.w) X.A (di (.Name x pos) X.env) Q E s:=by
 obtain⟨mb,S,T⟩:=I.mod.blt;exact agG I.ok.kind W (Calls.loadGlobal_builtin (by rw[I.ok.glob];exact I.mod.glob.keeps I.bk) Y (by rw[I.ok.blt];exact S.keeps I.bk) ((T x Z).trans hv) h) hd
theorem eY(Y:Gl X x)(Z:X.mg x=O u)(r:RelV v u)(hd:(x==("__debug__":ak))=false:=by decide):PE X (.Name x pos) (tC v):=
 λ_ _ _ H _ I h=>Bf I Y Z ⟨v,H,I,r,h⟩ hd
variable{a b:Expr}{ta tb:TE}{pos:Pos}
def PC(X:Cx)(op:CmpOp)(a b:ff)(t:TE):Prop:=
 ∀(pins:List (aa×cK))(s:aS)(σ:St)(H:Hp)(Q:VK),Inv X pins σ H s->t σ H Q ->
  aP (a_ X.prog X.w) X.A (di a X.env) (λv s₁=>aP (a_ X.prog X.w) X.A (di b X.env) (λu s₂=>aP (a_ X.prog X.w) X.A (nR op v u) (EP X pins σ Q) X.xe s₂) X.xe s₁) X.xe s
inductive Lf(x:V)(H:Hp)(Q:Bool->Hp->Prop):Prop
 |mk(k:Bool)(_:x=.bl k)(_:Q k H):Lf x H Q
def tB(t:TE):TT:=λσ H Q=>t σ H λx H1=>Lf x H1 Q
theorem Aw(h:PC X op a b t)(Z:BX op b=false:=by first|exact agP _ byD (by decide)|rfl):PT X (.Compare a [op] [b] pos) (tB t):=by intro pins s σ H Q I U;refine U5 (br (h pins s σ H _ I U) λv s1 Z=>br Z λu s2 T=>br T λc R ⟨x,H1,S,Y,W⟩=>?_) Z;obtain⟨d,rfl,q⟩:=W;cases Y;exact uH ⟨H1,S,q⟩
theorem jB(h:PE X e t)(U:∀whole,GR e X.env whole=(do let v <-whole;standAt e.pos;holding [v] (truthy v)):=by intro _;rfl):PT X e (tB t):=by intro pins s σ H Q I W;refine aa5 (br (h pins s σ H _ I W) λv s1 ⟨x,H1,T,Z,Y⟩=>?_) (U _);obtain⟨d,rfl,q⟩:=Y;cases Z;exact uH ⟨H1,T,q⟩
variable{tA z9:TT}{rest:List Expr}
def WH(t u:TT):TT:=λσ H Q=>t σ H λc H1=>if c=true then u σ H1 Q else Q false H1
def Wk(t u:TT):TT:=λσ H Q=>t σ H λc H1=>if c=true then Q true H1 else u σ H1 Q
def Wm(t:TT):TT:=λσ H Q=>t σ H λc H1=>Q (!c) H1
theorem Au(ha:PT X a tA):PW X (.BoolOp .And [a] pos) tA:=by
 intro Z pins s σ H Q I h;refine isTrue_and (br (ha pins s σ H Q I h) λc s1 e=>?_);cases c with
 |true=>exact isTrue_and_nil e
 |false=>exact e
theorem u_(ha:PT X a tA):PW X (.BoolOp .Or [a] pos) tA:=by
 intro Z pins s σ H Q I h;refine isTrue_or (br (ha pins s σ H Q I h) λc s1 e=>?_);cases c with
 |false=>exact isTrue_or_nil e
 |true=>exact e
theorem xA(ha:PT X a tA)(hb:PW X (.BoolOp .And (b::rest) pos) z9):PW X (.BoolOp .And (a::b::rest) pos) (WH tA z9):=by
 intro W pins s σ H Q I h;refine isTrue_and (br (ha pins s σ H _ I h) λc s1 ⟨H1,Y,Z⟩=>?_);cases c with
 |true=>exact hb W pins s1 σ H1 Q Y Z
 |false=>exact⟨H1,Y,Z⟩
theorem vc(ha:PT X a tA)(hb:PW X (.BoolOp .Or (b::rest) pos) z9):PW X (.BoolOp .Or (a::b::rest) pos) (Wk tA z9):=by
 intro W pins s σ H Q I h;refine isTrue_or (br (ha pins s σ H _ I h) λc s1 ⟨H1,Y,Z⟩=>?_);cases c with
 |true=>exact⟨H1,Y,Z⟩
 |false=>exact hb W pins s1 σ H1 Q Y Z
theorem qt(ha:PT X a tA):PT X (.UnaryOp .Not a pos) (Wm tA):=by intro pins s σ H Q I h;exact isTrue_not (ha pins s σ H (λc H1=>Q (!c) H1) I h)
def WG(ta tb:TE):TE:=λσ H Q=>ta σ H λx H1=>∃c,x=.bl c/\if c=true then tb σ H1 Q else Q (.bl false) H1
def Wl(ta:TE):TE:=λσ H Q=>ta σ H λx H1=>∃c,x=.bl c/\Q (.bl (!c)) H1
theorem Y4{op}(h:PE X a t):PE X (.BoolOp op [a] pos) t:=λpins s σ H Q I Z=>BoolOp_one (h pins s σ H Q I Z)
theorem Pg(ha:PE X a ta)(hb:PE X (.BoolOp .And (b::rest) pos) tb):PE X (.BoolOp .And (a::b::rest) pos) (WG ta tb):=by
 intro pins s σ H Q I h;refine BoolOp_and (br (ha pins s σ H _ I h) λv s1 ⟨x,H1,I1,r1,q1⟩=>?_);obtain⟨c,rfl,q1⟩:=q1;cases r1;refine uH ?_;cases c with
 |true=>exact hb pins s1 σ H1 Q I1 q1
 |false=>exact⟨.bl false,H1,I1,Y,q1⟩
theorem Y5(ha:PE X a ta):PE X (.UnaryOp .Not a pos) (Wl ta):=by intro pins s σ H Q I h;refine UnaryOp_ (br (ha pins s σ H _ I h) λv s1 ⟨x,H1,I1,r1,q1⟩=>?_);obtain⟨c,rfl,q1⟩:=q1;cases r1;exact not_of (uH ⟨.bl (!c),H1,I1,Y,q1⟩)
def Mm(t:TT)(ta tb:TE):TE:=λσ H Q=>t σ H λc H1=>if c=true then ta σ H1 Q else tb σ H1 Q
theorem l6(W:PT X c tA)(ha:PE X a ta)(hb:PE X b tb):PE X (.IfExp c a b pos) (Mm tA ta tb):=by
 intro pins s σ H Q I h;refine wpAny_IfExp (br (W pins s σ H _ I h) λd s1 ⟨H1,Y,Z⟩=>?_);cases d with
 |true=>exact ha pins s1 σ H1 Q Y Z
 |false=>exact hb pins s1 σ H1 Q Y Z
end
end L2
namespace L2
open PySem PySem.Spec PyProof.Rows
def aj(K:PySem.W.Frag)(H:Hp)(a:aa)(xs:List V):Prop:=
 Rd H a (.lst xs) \/
  ∃(o:cK)(its:Array ai)(n:Nat),K.lookup a=O o/\o.cls=.type "list"/\o.dict=U/\o.data=.seq its n/\its.size<=bf/\Vals xs its.toList
def bu(K:PySem.W.Frag)(H:Hp)(a:aa)(xs:List V):Prop:=
 Rd H a (.tup xs) \/
  ∃(o:cK)(its:Array ai)(n:Nat),K.lookup a=O o/\o.cls=.type "tuple"/\o.data=.seq its n/\its.size<=bf/\Vals xs its.toList
def aee:ai->Option V
 |.none=>O .az
 |.bool b=>O (.bl b)
 |.int i _=>O (.int i)
 |.str x _=>O (.str x)
 |.bytes b _=>O (.j4 b)
 |.float b _=>O (.BB b)
 |.ref a=>O (.ref a)
 |.type n=>O (.ty n)
 |_=>U
theorem RelV.abs(r:RelV x u):aee u=O x:=by
 cases x with
 |az=>cases r;rfl
 |bl _=>cases r;rfl
 |int _=>obtain⟨t,rfl⟩:=r;rfl
 |str _=>obtain⟨t,rfl⟩:=r;rfl
 |j4 _=>obtain⟨t,rfl⟩:=r;rfl
 |BB _=>obtain⟨t,rfl⟩:=r;rfl
 |ref _=>cases r;rfl
 |ty _=>cases r;rfl
theorem RelV.inj(r:RelV x u)(q:RelV y u):x=y:=bH (r.abs.symm.trans q.abs)
theorem Vals.inj:∀{xs ys:List V}{us:List ai},Vals xs us->Vals ys us->xs=ys
 |_,_,_,.nil,.nil=>rfl
 |_,_,_,.cons r t,.cons Y Z=>by rw[r.inj Y,Vals.inj t Z]
section
variable{X:Cx}{pins:List (Addr×Obj)}{σ:St}{H:Hp}{s:Shared}{a:Addr}{xs ys:List V}
theorem aj.of{K:PySem.W.Frag}(h:H a=O (.lst xs)):aj K H a xs:=.inl (.inl h)
theorem bu.of{K:PySem.W.Frag}(h:H a=O (.tup xs)):bu K H a xs:=.inl (.inl h)
theorem Inv.list(I:Inv X pins σ H s)(h:aj X.K H a xs):∃Z:List ai,Vals xs Z/\PlainL s.heap a Z.toArray/\xs.length<=sizeLine:=by
 rcases h with h|⟨o,Z,n,U,T,hd,W,S,r⟩
 .obtain⟨z,Z,n,r,e⟩:=h.ok I.hok;exact⟨Z,r,⟨_,n,e,Y,Y,Y⟩,z⟩
 .refine⟨Z.toList,r,⟨o,n,I.jX a o U,T,hd,by simpa using W⟩,?_⟩;have e:=r.length;simp only[Lh]at e;lia
theorem Inv.tuple(I:Inv X pins σ H s)(h:bu X.K H a xs):∃Z:List ai,Vals xs Z/\qQ s.heap a Z.toArray/\xs.length<=sizeLine:=by
 rcases h with h|⟨o,Z,n,W,U,Y,T,r⟩
 .obtain⟨z,Z,r,p⟩:=h.ok I.hok;exact⟨Z,r,p,z⟩
 .refine⟨Z.toList,r,⟨o,I.jX a o W,U,n,by simpa using Y⟩,?_⟩;have e:=r.length;simp only[Lh]at e;lia
theorem Inv.Be(I:Inv X pins σ H s)(h:aj X.K H a xs)(h':aj X.K H a ys):xs=ys:=by
 obtain⟨Y,r,⟨o,n,e,_,_,d⟩,_⟩:=I.list h;obtain⟨Z,U,⟨o',S,W,_,_,d'⟩,_⟩:=I.list h';rw[e]at W;cases W;rw[d]at d';injection d' with T _
 have:Y=Z:=by simpa using fq agJ T
 subst this;exact r.inj U
end
abbrev Cx.oV(X:Cx)(E:ai->aS->Prop):Cx:={X with xe:=E }
abbrev Cx.vC(X:Cx):Cx:=X.oV λ_ _=>False
theorem Cx.Ok.oV{X:Cx}(ok:X.Ok)(E:ai->aS->Prop):(X.oV E).Ok:=
 ⟨ok.mod,ok.kind,ok.glob,ok.blt,ok.above,ok.inj,ok.has,ok.yj,ok.hd,ok.frames,ok.stk,ok.BG,ok.bs,ok.pN,ok.xM,ok.ya,ok.mZ,ok.qF⟩
theorem Cx.Ok.qV{X:Cx}{E:ai->aS->Prop}(ok:(X.oV E).Ok):X.Ok:=
 ⟨ok.mod,ok.kind,ok.glob,ok.blt,ok.above,ok.inj,ok.has,ok.yj,ok.hd,ok.frames,ok.stk,ok.BG,ok.bs,ok.pN,ok.xM,ok.ya,ok.mZ,ok.qF⟩
section
variable{X:Cx}{pins:List (Addr×Obj)}{σ:St}{H:Hp}{s:Shared}{E:Value->Shared->Prop}
theorem Inv.oV(I:Inv X pins σ H s)(E:ai->aS->Prop):Inv (X.oV E) pins σ H s:=⟨I.ok.oV E,I.os,I.bare,I.base,I.loc,I.cell,I.free,I.m8,I.pin,I.hok,I.len⟩
theorem Inv.qV(I:Inv (X.oV E) pins σ H s):Inv X pins σ H s:=⟨I.ok.qV,I.os,I.bare,I.base,I.loc,I.cell,I.free,I.m8,I.pin,I.hok,I.len⟩
theorem SP.qV(h:SP (X.oV E) pins D f s'):SP X pins D f s':=by
 cases f with
 |next=>obtain⟨σ',H',I,q⟩:=h;exact⟨σ',H',I.qV,q⟩
 |brk=>obtain⟨σ',H',I,q⟩:=h;exact⟨σ',H',I.qV,q⟩
 |cont=>obtain⟨σ',H',I,q⟩:=h;exact⟨σ',H',I.qV,q⟩
 |ret u=>obtain⟨v,σ',H',I,r,q⟩:=h;exact⟨v,σ',H',I.qV,r,q⟩
theorem mJ.vC{st:List mF}{t:TS}(h:mJ X.vC st t):mJ X st t:=λpins s σ H D I Z=>
 nA (h pins s σ H D (I.oV _) Z) (λ_ _ q=>q.qV) λ_ _ z=>lC z
end
section
variable{X:Cx}{st:Stmt}{rest:List Stmt}{t u:TS}{e:Expr}{te:TE}{pos:Pos}
def DM:TS:=λD σ H=>D.nx σ H
def qW(t u:TS):TS:=λD σ H=>t {D with nx:=u D } σ H
theorem b8:mJ X [] DM:=λ_ _ σ H _ I h=>Di ⟨σ,H,I,h⟩
theorem aA(Y:PS X st t)(Z:mJ X rest u):mJ X (st::rest) (qW t u):=by
 intro pins s σ H D I h;refine U' (br (Y pins s σ H {D with nx:=u D } I h) λf s1 q=>?_);cases f with
 |next=>obtain⟨σ',H',W,q⟩:=q;exact Z pins s1 σ' H' D W q
 |ret v=>exact q
 |brk=>exact q
 |cont=>exact q
theorem aJ(Z:PS X st t):mJ X [st] t:=by
 intro pins s σ H D I h;refine U' (br (Z pins s σ H D I h) λf s1 q=>?_);cases f with
 |next=>exact Di q
 |ret v=>exact q
 |brk=>exact q
 |cont=>exact q
theorem Inv.quiet(I:Inv X pins σ H s):interactive X.env=false:=by simp[interactive,I.ok.kind]
def Wt(te:TE):TS:=λD σ H=>te σ H λ_ H1=>D.nx σ H1
theorem iW(W:PE X e te)(Y:wX e U pos.line X.env=pure false:=by rfl):PS X (.Expr e pos) (Wt te):=by intro pins s σ H D I h;exact wpAny_Expr_any (br (W pins s σ H _ I h) λv s1 ⟨x,H1,T,S,Z⟩=>⟨σ,H1,T,Z⟩) I.quiet Y
def Wi(te:TE):TS:=λD σ H=>te σ H D.rt
theorem bh(he:PE X e te):PS X (.Return (O e) pos) (Wi te):=by intro pins s σ H D I h;exact wpAny_Return_some (br (he pins s σ H _ I h) λv s1 ⟨x,H1,I1,r1,q1⟩=>⟨x,σ,H1,I1,r1,q1⟩)
def DN(c:TT)(t u:TS):TS:=λD σ H=>c σ H λb H1=>if b=true then t D σ H1 else u D σ H1
theorem bT(W:PT X c tc)(ha:mJ X a t)(hb:mJ X b u):PS X (.If c a b pos) (DN tc t u):=by
 intro pins s σ H D I h;refine wpAny_If (br (W pins s σ H _ I h) λd s1 ⟨H1,Y,Z⟩=>?_);cases d with
 |true=>exact ha pins s1 σ H1 D Y Z
 |false=>exact hb pins s1 σ H1 D Y Z
def Wo:TS:=λ_ _ _=>False
theorem YL:PS X st Wo:=λ_ _ _ _ _ _ h=>h.elim
end
abbrev TG:=V->St->Hp->(St->Hp->Prop)->Prop
abbrev B9:=List V->St->Hp->(St->Hp->Prop)->Prop
def PG(X:Cx)(target:ff)(t:TG):Prop:=
 ∀(pins:List (aa×cK))(s:aS)(σ:St)(H:Hp)(v:V)(u:ai)(Q:St->Hp->Prop),Inv X pins σ H s->RelV v u->t v σ H Q ->
  aP (a_ X.prog X.w) X.A (B0 target X.env u) (λ_ s'=>∃σ' H',Inv X pins σ' H' s'/\Q σ' H') X.xe s
def yG(X:Cx)(ts:List ff)(t:B9):Prop:=
 ∀(pins:List (aa×cK))(s:aS)(σ:St)(H:Hp)(vs:List V)(us:List ai)(Q:St->Hp->Prop),Inv X pins σ H s->Vals vs us->t vs σ H Q ->
  aP (a_ X.prog X.w) X.A (assignInOrder ((uq ts X.env).map (·.2)) us) (λ_ s'=>∃σ' H',Inv X pins σ' H' s'/\Q σ' H') X.xe s
abbrev Tg:=V->V->V->Hp->(Hp->Prop)->Prop
def TL(X:Cx)(t:Tg):Prop:=
 ∀(pins:List (aa×cK))(s:aS)(σ:St)(H:Hp)(o i v:V)(ov iv u:ai)(Q:Hp->Prop),Inv X pins σ H s->RelV o ov->RelV i iv->RelV v u->t o i v H Q ->
  aP (a_ X.prog X.w) X.A (setItem ov iv u) (λ_ s'=>∃H',Inv X pins σ H' s'/\Q H') X.xe s
abbrev Th:=V->V->Hp->VK->Prop
def PIp(X:Cx)(op:JN)(t:Th):Prop:=
 ∀(pins:List (aa×cK))(s:aS)(σ:St)(H:Hp)(x y:V)(v u:ai)(Q:VK),Inv X pins σ H s->RelV x v->RelV y u->t x y H Q ->
  aP (a_ X.prog X.w) X.A (Bp op v u) (EP X pins σ Q) X.xe s
section
variable{X:Cx}{pos:Pos}
def t_(i:Nat):TG:=λv σ H Q=>Q (σ.set i (O v)) H
theorem EJ(W:X.N.Nodup)(hi:X.N[i]?=O x)(hx:Loc X.env.scope x)(Z:X.fn x=true\/X.env.scope.names.lookup x=O .local:=by first|exact .inl Y|exact .inr Y|assumption):PG X (.Name x pos) (t_ i):=by intro pins s σ H v u Q I r h;exact Vd (DW I W hi hx r (λs' U=>⟨_,H,U,h⟩) Z)
def abT:B9:=λvs σ H Q=>vs=[]/\Q σ H
inductive RJ(t:TG)(u:B9)(vs:List V)(σ:St)(H:Hp)(Q:(St->Hp->Prop)):Prop
 |mk(v r:_)(_:vs=v::r)(_:t v σ H λσ' H'=>u r σ' H' Q):RJ t u vs σ H Q
theorem tK:yG X [] abT:=by intro pins s σ H vs us Q I r h;obtain⟨e,h⟩:=h;subst e;cases r;exact assignInOrder_nil ⟨σ,H,I,h⟩
theorem l5(T:PG X e t)(U:yG X es u)
 (W:(uq (e::es) X.env).map (·.2)=B0 e X.env::(uq es X.env).map (·.2):=by rfl):yG X (e::es) (RJ t u):=by
 intro pins s σ H vs us Q I r h;obtain⟨v,R,e1,h⟩:=h;subst e1;cases r with
 |cons r rr=>rw[W];refine assignInOrder_cons (br (T pins s σ H _ _ _ I r h) λ_ s1 ⟨Z,H1,S,Y⟩=>?_);exact U pins s1 Z H1 _ _ Q S rr Y
inductive Hu(K:PySem.W.Frag)(n:Nat)(t:B9)(v:V)(σ:St)(H:Hp)(Q:(St->Hp->Prop)):Prop
 |mk(a xs:_)(_:v=.ref a)(_:bu K H a xs)(_:J xs=n)(_:t xs σ H Q):Hu K n t v σ H Q
theorem tL(R:X.calm=true)(h:yG X es t)
 (S:(uq es X.env).length=n:=by rfl) (Y:(uq es X.env).findIdx? (·.1)=U:=by rfl):PG X (.Tuple es k pos) (Hu X.K n t):=by
 intro pins s σ H v u Q I r Z;obtain⟨a,xs,e1,T,hl,Z⟩:=Z;subst e1;cases r;obtain⟨W,rv,ht,O⟩:=I.tuple T;refine assign_Tuple_tuple (I.ok.hd R) ht (by simp[S,<-hl,rv.length]) Y λh' hx=>?_;have P:Inv X pins σ H {s with heap:=h' }:=I.kept (t':=s.toks) λb o e=>hx b o (iP (dO e)) e;exact h pins _ σ H xs _ Q P (by simpa using rv) Z
def RI(to ti:TE)(t:Tg):TG:=λv σ H Q=>to σ H λo H1=>ti σ H1 λi H2=>t o i v H2 λH3=>Q σ H3
theorem Az(ho:PE X o to)(hi:PE X i ti)(hs:TL X t)
 (ha:∀v,B0 (.Subscript o i pos) X.env v=(do
  let ov <-holding [v] (eval o X.env)
  let iv <-holding [v,ov] (eval i X.env)
  standAt pos
  holding [v,ov,iv] (setItem ov iv v)
  release [v,ov,iv] []):=by intro _;rfl):PG X (.Subscript o i pos) (RI to ti t):=by
 intro pins s σ H v u Q I r h;rw[ha];refine aL (qc (br (ho pins s σ H _ I h) λov s1 ⟨x,H1,I1,r1,q1⟩=>?_));refine aL (qc (br (hi pins s1 σ H1 _ I1 q1) λiv s2 ⟨y,H2,I2,r2,q2⟩=>?_));refine aL (Li (aL (qc (br (hs pins s2 σ H2 x y v ov iv u _ I2 r1 r2 r q2) λ_ s3 ⟨H3,I3,q3⟩=>?_))));exact wpAny_release ⟨σ,H3,I3,q3⟩
def wW(te:TE)(g:TG):TS:=λD σ H=>te σ H λx H1=>g x σ H1 D.nx
theorem Ay(R:PE X e te)(S:PG X tg g)(T:swapsWithSole [tg] e pos.line X.env=pure false:=by rfl)(W:swappedStores [tg] e X.env=pure U:=by rfl)
 (Q:(uq [tg] X.env).map (·.2)=[B0 tg X.env]:=by rfl):PS X (.Assign [tg] e pos) (wW te g):=by
 intro pins s σ H D I h;refine wpAny_Assign_stores (br (R pins s σ H _ I h) λv s1 ⟨x,H1,P,Z,Y⟩=>?_) T W;rw[Q];exact br (S pins s1 σ H1 x v _ P Z Y) λ_ s2 q=>q
theorem nF(R:X.N.Nodup)(hi:X.N[i]?=O x)(hx:Loc X.env.scope x)(S:PE X e te)(U:wX e (O (.Name x pos')) pos.line X.env=pure false:=by rfl)(T:X.fn x=true\/X.env.scope.names.lookup x=O .local:=by first|exact .inl Y|exact .inr Y|assumption):
 PS X (.Assign [.Name x pos'] e pos) (wW te (t_ i)):=by
 intro pins s σ H D I h;refine wpAny_Assign_Name (br (S pins s σ H _ I h) λv s1 ⟨y,H1,P,Z,W⟩=>?_) U;exact DW P R hi hx Z (λs2 Q=>⟨_,H1,Q,W⟩) T
inductive Mq(i:Nat)(te:TE)(ti:Th)(D:Ends)(σ:St)(H:Hp):Prop
 |mk(x:_)(_:σ[i]?=O (O x))(_:te σ H λy H1=>ti x y H1 λz H2=>D.nx (σ.set i (O z)) H2):Mq i te ti D σ H
theorem Ax(G:X.N.Nodup)(hi:X.N[i]?=O x)(hx:Loc X.env.scope x)(J:PE X e te)(M:PIp X op ti)(K:X.fn x=true\/X.env.scope.names.lookup x=O .local:=by first|exact .inl Y|exact .inr Y|assumption):
 PS X (.AugAssign (.Name x pos') op e pos) (Mq i te ti):=by
 intro pins s σ H D I h;obtain⟨v,e1,h⟩:=h;obtain⟨m,L,hl⟩:=I.loc;have T:vX X.env.scope x:=by rcases hx with k|k;exact .inl k;exact .inr (.inl k)
 obtain⟨u,r,l⟩:=hl i x v hi e1 T;refine wpAny_AugAssign_Name ?_;have go:aP (a_ X.prog X.w) X.A (di e X.env) (λw U=>aP (a_ X.prog X.w) X.A (Bp op u w) (λr W=>aP (a_ X.prog X.w) X.A (MA X.env x r) (λ_=>SP X pins D .next) X.xe W) X.xe U) X.xe s:=by refine br (J pins s σ H _ I h) λw s1 ⟨y,H1,C,R,P⟩=>?_;refine br (M pins s1 σ H1 v y u w _ C r R P) λz s2 ⟨B,H2,E,S,Q⟩=>?_;exact DW E G hi hx S (λq F=>⟨_,H2,F,Q⟩) K
 rcases l with⟨Z,hm⟩|⟨Z,c,hc,hcell⟩
 .exact U3 I.ok.kind Z L hm go
 .rcases Z with Z|Z
  .exact U4 I.ok.kind Z hc hcell go
  .rcases hx with k|k
   .have:X.env.scope.names.lookup x=O .free:=Z;rw[k]at this;cases this
   .have:X.env.scope.names.lookup x=O .free:=Z;rw[k]at this;cases this
end
section
variable{X:Cx}{pos:Pos}
def zY(c:TT)(tb:TS):TS:=λD σ H=>∃W:Nat->St->Hp->Prop,(∃m,W m σ H)/\∀m σ H,W m σ H ->
 c σ H λb H1=>if b=true then ∃N:St->Hp->Prop,(∀σ' H',N σ' H'->∃m',m'<m/\W m' σ' H')/\tb {D with nx:=N,ct:=N,bk:=D.nx } σ H1 else D.nx σ H1
theorem ED(L:PassesOwn (a_ X.prog X.w) X.A X.env X.xe)(C:PT X c tc)(hb:mJ X body tb):PS X (.While c body [] pos) (zY tc tb):=by
 intro pins s σ H D I h;obtain⟨W,⟨E,F⟩,U⟩:=h;refine wpAny_While (codeAny_whileLoop (λn s'=>∃σ' H',Inv X pins σ' H' s'/\W n σ' H') ?_ E ⟨σ,H,I,F⟩);rintro n s1 ⟨Y,H1,B,G⟩;refine uI L (br (C pins s1 Y H1 _ B (U n Y H1 G)) λb s2 ⟨H2,J,S⟩=>?_);cases b with
 |true=>
  obtain⟨N,K,S⟩:=S;rw[aD rfl];refine uI L (br (hb pins s2 Y H2 _ J S) λf z T=>?_);cases f with
  |next=>obtain⟨Z,H3,M,Q⟩:=T;obtain⟨P,O,R⟩:=K Z H3 Q;exact⟨P,O,Z,H3,M,R⟩
  |cont=>obtain⟨Z,H3,M,Q⟩:=T;obtain⟨P,O,R⟩:=K Z H3 Q;exact⟨P,O,Z,H3,M,R⟩
  |brk=>exact T
  |ret v=>exact T
 |false=>rw[ao iJ];exact Di ⟨Y,H2,J,S⟩
end
structure It where
 go:Nat->Hp->Prop
 lV:Nat->Hp->V->Hp->Prop
 stop:Nat->Hp->Prop
def nZ(X:Cx)(pins:List (aa×cK))(H:Hp)(b:aa):Prop:=
 H b=U/\b≠X.env.locals/\b∉X.fs/\(b∈X.ex\/X.jl.heap.objs.size<=b)/\(∀x c,X.env.cells.lookup x=O c->c≠b)/\∀p∈X.pn++pins,p.1≠b
theorem Inv.vR(I:Inv X pins σ H s)(hb:s.heap.objs.size<=b)(Y:H' b=U):nZ X pins H' b:=by
 refine⟨Y,Ck (lq I.lt hb),I.Zq hb,.inr (eL I.sz hb),λx c e z=>?_,λp Z z=>?_⟩
 .obtain⟨v,q⟩:=I.cell x c e;exact absurd (lq q.lt (by rw[z];exact hb)) (pY _)
 .exact absurd (lq (dO (I.pin p Z).1) (by rw[z];exact hb)) (pY _)
structure Turn(P:fV)(w:d9)(K:PySem.W.Frag)(tg:ff)(J:It)(fp:List aa)(it:aa)(tn:Nat->dj->Prop):Prop where
 mem:it∈fp
 obj:∀i h,tn i h->∀b∈fp,∃o,h.get? b=O o/\∀v,o.data≠.cell v
 keep:∀i h h',tn i h->(∀b∈fp,∀o,h.get? b=O o->h'.get? b=O o)->tn i h'
 item:∀(X:Cx),X.prog=P->X.w=w->X.K=K->X.calm=true->∀(i:Nat)(pins:List (aa×cK))(s:aS)(σ:St)(H:Hp)(E:ai->aS->Prop),Inv X pins σ H s->(∀b∈fp,nZ X pins H b)->tn i s.heap->J.go i H ->
  aP (a_ P w) X.A (rq (.ref it)) (λr s1=>∃u,r=O u /\
   aP (a_ P w) X.A (Gu tg (.ref it) u) (λ_ s2=>∃x H',Inv X pins σ H' s2/\RelV x u/\J.lV i H x H'/\tn (i+1) s2.heap/\∀b∈fp,H' b=U) E s1) E s
 done:∀(X:Cx),X.prog=P->X.w=w->X.K=K->X.calm=true->∀(i:Nat)(pins:List (aa×cK))(s:aS)(σ:St)(H:Hp)(E:ai->aS->Prop),Inv X pins σ H s->(∀b∈fp,nZ X pins H b)->tn i s.heap->J.stop i H ->
  aP (a_ P w) X.A (rq (.ref it)) (λr s1=>r=U/\Inv X pins σ H s1) E s
 self:∀(A:jd)(i:Nat)(s:aS)(Q:ai->aS->Prop)(E:ai->aS->Prop),tn i s.heap->Q (.ref it) s->aP (a_ P w) A (As (.ref it)) Q E s
abbrev TI:=St->Hp->(It->Hp->Prop)->Prop
def JI(X:Cx)(pins:List (aa×cK))(σ:St)(tg:ff)(R:It->Hp->Prop)(itv:ai)(s2:aS):Prop:=
 ∃(it:aa)(fp:List aa)(tn:Nat->dj->Prop)(J:It)(H':Hp),itv=.ref it/\Inv X pins σ H' s2/\Turn X.prog X.w X.K tg J fp it tn/\tn 0 s2.heap/\(∀b∈fp,nZ X pins H' b)/\R J H'
def PI(X:Cx)(tg iter:ff)(wi:TI):Prop:=
 ∀(pins:List (aa×cK))(s:aS)(σ:St)(H:Hp)(R:It->Hp->Prop),Inv X pins σ H s->wi σ H R ->
  aP (a_ X.prog X.w) X.A (di iter X.env) (λv s1=>aP (a_ X.prog X.w) X.A (As v) (JI X pins σ tg R) X.xe s1) X.xe s
theorem x_(ho:s.heap.get? it=O o)(hc:o.cls=.type n)(hd:o.data=.fields vs)
 (hn:["enumerate","zip","dict_itemiterator","dict_reverseitemiterator","odict_iterator","itertools.zip_longest","itertools.pairwise"].contains n=false) (hQ:Q () s):wpAny M A (Gu tg (.ref it) u) Q E s:=by
 unfold Gu
 cases tg<;>first
  |exact wpAny_pure hQ
  |(cases u<;>first
   |exact wpAny_pure hQ
   |(refine wpAny_bind (wpAny_load ho ?_);rw[hc,hd];show wpAny M A (if(["enumerate","zip","dict_itemiterator","dict_reverseitemiterator","odict_iterator","itertools.zip_longest","itertools.pairwise"].contains n&&vs[0]?==O (rawInt _))=true then _ else _) Q E s;rw[if_neg (by intro h;rw[hn,Bool.false_and]at h;cases h)];exact wpAny_pure hQ))
def oN(K:PySem.W.Frag)(a:aa):It:=
 ⟨λi H=>∃xs x,aj K H a xs/\xs[i]?=O x,λi H x H'=>H'=H/\∀xs,aj K H a xs->xs[i]?=O x,λi H=>∃xs,aj K H a xs/\J xs<=i⟩
def nu(lo:Int)(n:Nat):It:=⟨λi _=>i<n,λi H x H'=>H'=H/\x=.int (lo+i),λi _=>n<=i⟩
theorem VE{P:fV}{w:d9}{K:PySem.W.Frag}{tg:ff}(a it:aa):Turn P w K tg (oN K a) [it] it (λi h=>h.IsListIter it a i) where
 mem:=by simp
 obj:=λi h st b hb=>by
  have e:b=it:=by simpa using hb
  subst e;obtain⟨o,e,c,d⟩:=st;exact⟨o,e,λv z=>by rw[d]at z;cases z⟩
 keep:=λi h h' st k=>st.at λo e=>k it byB o e
 item:=by intro X Q S O F i pins s σ H E I U st R;subst Q S O;obtain⟨xs,x,Z,hx⟩:=R;obtain⟨T,rv,p,B⟩:=I.list Z;obtain⟨u,y,C⟩:=rv.get hx;obtain⟨G,J,r,L,M,N⟩:=U it byB;refine UT st p.isList (x:=u) (by simpa using y) λh' st' D=>?_;have n:Inv X pins σ H {s with heap:=h' }:=I.turned (t':=s.toks) (λb o hb e=>(D.2 b hb).trans e) G J L M N;obtain⟨o,e,c,d⟩:=id st';exact⟨u,Y,x_ (s:={s with heap:=h' }) e c d byD ⟨x,H,n,C,⟨Y,λys A=>by rw[I.Be A Z];exact hx⟩,st',λb hb=>(U b hb).1⟩⟩
 done:=by intro X Q S O F i pins s σ H E I U st R;subst Q S O;obtain⟨xs,Z,hx⟩:=R;obtain⟨T,rv,p,B⟩:=I.list Z;obtain⟨G,J,r,L,M,N⟩:=U it byB;have hl:=rv.length;exact UU (I.ok.hd F) st p.isList byE λh' q=>⟨Y,I.turned (t':=s.toks) (λb o hb e=>q b o hb e) G J L M N⟩
 self:=λ_ _ _ _ _ st h=>wpAny_pyIter_listiter st h
theorem VD{P:fV}{w:d9}{K:PySem.W.Frag}{tg:ff}(it:aa)(lo:Int)(n:Nat):Turn P w K tg (nu lo n) [it] it (λi h=>J9 h it (lo+(i:Nat)*1) ((n:Int)-(i:Nat)) 1) where
 mem:=by simp
 obj:=λi h st b hb=>by
  have e:b=it:=by simpa using hb
  subst e;exact⟨_,st,λv z=>by have z':Data.fields _=Data.cell v:=z;cases z'⟩
 keep:=λi h h' st k=>k it byB _ st
 item:=by intro X R U Q S i pins s σ H E I Z st T;subst R U Q;obtain⟨J,L,D,M,N,O⟩:=Z it byB;have W:=aeg (prog:=X.prog) (w:=X.w) (I.ok.hd S) it lo 1 n;refine W.item i s _ _ T st λv h' G hv st' F=>?_;obtain⟨t,rfl⟩:=hv;have B:Inv X pins σ H {s with heap:=h',toks:=G }:=I.turned (λb o hb e=>F b o (by simpa using hb) e) J L M N O;refine⟨_,Y,x_ (s:={s with heap:=h',toks:=G }) (n:="range_iterator") st' Y Y byD ⟨.int (lo+i),H,B,⟨t,?_⟩,⟨Y,Y⟩,st',λb hb=>(Z b hb).1⟩⟩;rw[Int.mul_one]
 done:=by intro X R U Q S i pins s σ H E I Z st T;subst R U Q;obtain⟨J,L,D,M,N,O⟩:=Z it byB;exact US (I.ok.hd S) st (by have:n<=i:=T;lia) λh' C=>⟨Y,I.turned (t':=s.toks) (λb o hb e=>C b o hb e) J L M N O⟩
 self:=λ_ _ _ _ _ st h=>UY st h
end L2
namespace L2
open PySem PySem.Spec PyProof.Rows
section
variable{X:Cx}{tg:Expr}
inductive Rh(K:PySem.W.Frag)(x:V)(H1:Hp)(R:It->Hp->Prop):Prop
 |mk(a:aa)(_:x=.ref a)(_:∃xs,aj K H1 a xs)(_:R (oN K a) H1):Rh K x H1 R
def abe(K:PySem.W.Frag)(tl:TE):TI:=λσ H R=>tl σ H λx H1=>Rh K x H1 R
theorem jm{l:ff}{tl:TE}(hl:PE X l tl):PI X tg l (abe X.K tl):=by
 intro pins s σ H R I h;refine br (hl pins s σ H _ I h) λv s1 ⟨x,H1,I1,r1,q1⟩=>?_;obtain⟨a,e,⟨xs,hq⟩,q⟩:=q1;subst e;cases r1;obtain⟨its,rv,p,hz⟩:=I1.list hq;refine Ll p.isList ?_;refine⟨s1.heap.objs.size,[s1.heap.objs.size],_,_,H1,Y,I1.kept (t':=s1.toks) λb o e=>fW _ e,VE a _,⟨_,jN _ Y,Y,Y⟩,λb hb=>?_,q⟩;have e:b=s1.heap.objs.size:=by simpa using hb
 subst e;exact I1.vR (aU _) (I1.hok.fresh (aU _))
theorem OO{pins:List (aa×cK)}{σ:St}{H:Hp}{s:aS}{R:It->Hp->Prop}{E:ai->aS->Prop}{lo hi:Int}{t u v:m_}{tk:Nat}(I:Inv X pins σ H s)(S:-(2 ^ 62)<=lo)(T:lo<2 ^ 62)(U:-(2 ^ 62)<=hi)(W:hi<2 ^ 62)
 (q:R (nu lo (hi-lo).toNat) H):aP (a_ X.prog X.w) X.A (As (.ref s.heap.objs.size)) (JI X pins σ tg R) E {s with heap:=s.heap.push {cls:=.type "range",data:=.fields #[.int lo t,.int hi u,.int 1 v] },toks:=tk }:=by
 refine UZ (afl ..) (small_one S T U W) ?_;have Z:Inv X pins σ H {s with heap:=s.heap.push {cls:=.type "range",data:=.fields #[.int lo t,.int hi u,.int 1 v] },toks:=tk }:=I.kept λb o e=>fW _ e;refine⟨(s.heap.push {cls:=.type "range",data:=.fields #[.int lo t,.int hi u,.int 1 v] }).objs.size,[(s.heap.push {cls:=.type "range",data:=.fields #[.int lo t,.int hi u,.int 1 v] }).objs.size],_,_,H,Y,
  Z.kept (t':=tk) λb o e=>fW _ e,VD _ lo (hi-lo).toNat,?_,λb hb=>?_,q⟩
 .have e1:lo+((0:Nat):Int)*1=lo:=by simp
  have e2:(((hi-lo).toNat:Nat):Int)-((0:Nat):Int)=cN.Range.rangeSize lo hi 1:=by rw[YC];split<;>lia
  show J9 _ _ (lo+((0:Nat):Int)*1) ((((hi-lo).toNat:Nat):Int)-((0:Nat):Int)) 1;rw[e1,e2];exact jN _ Y
 .have e:b=(s.heap.push {cls:=.type "range",data:=.fields #[.int lo t,.int hi u,.int 1 v] }).objs.size:=by simpa using hb
  subst e;exact Z.vR (aU _) (Z.hok.fresh (aU _))
inductive Rg(vs:List V)(H1:Hp)(R:It->Hp->Prop):Prop
 |mk(j:Int)(_:vs=[.int j])(_:-(2 ^ 62)<=j)(_:j<2 ^ 62)(_:R (nu 0 j.toNat) H1):Rg vs H1 R
def abd(ta:TA):TI:=λσ H R=>ta σ H λvs H1=>Rg vs H1 R
inductive Rf(vs:List V)(H1:Hp)(R:It->Hp->Prop):Prop
 |mk(i j:Int)(_:vs=[.int i,.int j])(_:-(2 ^ 62)<=i/\i<2 ^ 62/\-(2 ^ 62)<=j/\j<2 ^ 62)(_:R (nu i (j-i).toNat) H1):Rf vs H1 R
def abc(ta:TA):TI:=λσ H R=>ta σ H λvs H1=>Rf vs H1 R
theorem ou{a:ff}{W:TA}{p pos:pV}(O:Gl X "range")(P:X.mg "range"=U)(ha:PA X [a] W)(Q:eS [a] X.env=[(false,di a X.env)]:=by rfl):PI X tg (.Call (.Name "range" p) [a] [] pos) (abd W):=by
 intro pins s σ H R I h;refine C_ (tX I O P SX (yC (br (ha pos pins s σ H _ I h) λus s1 ⟨vs,H1,N,T,Z⟩=>?_) Q Y));obtain⟨j,e,Z,S,q⟩:=Z;subst e;cases T with
 |cons r rr=>cases rr;obtain⟨t,rfl⟩:=r;exact adP (OO N byA byA Z S (by simpa using q))
theorem YX(M:Gl X "range")(N:X.mg "range"=U)(ha:PA X [a,b] ta)(O:eS [a,b] X.env=[(false,di a X.env),(false,di b X.env)]:=by rfl)(Z:eS [b] X.env=[(false,di b X.env)]:=by rfl):
 PI X tg (.Call (.Name "range" p) [a,b] [] pos) (abc ta):=by
 intro pins s σ H R I h;refine C_ (tX I M N SX (yC (br (ha pos pins s σ H _ I h) λus s1 ⟨vs,H1,L,W,Y⟩=>?_) (by rw[O,Z]) (by rw[Z];rfl)));obtain⟨i,j,e,⟨Y,P,Q,S⟩,q⟩:=Y;subst e;cases W with
 |cons r rr=>
  cases rr with
  |cons T rr=>cases rr;obtain⟨t,rfl⟩:=r;obtain⟨K,rfl⟩:=T;exact call_range_2 (OO L Y P Q S q)
def Ws(wi:TI)(g:TG)(tb:TS):TS:=λD σ H=>wi σ H λJ H1=>∃W:Nat->Nat->St->Hp->Prop,(∃m,W 0 m σ H1)/\∀i m σ H,W i m σ H ->
 (J.stop i H/\D.nx σ H)\/(J.go i H/\∃N:St->Hp->Prop,(∀σ' H',N σ' H'->∃m',m'<m/\W (i+1) m' σ' H')/\∀x H',J.lV i H x H'->g x σ H' λσ2 H2=>tb {D with nx:=N,ct:=N,bk:=D.nx } σ2 H2)
def xB(fp:List aa)(h:dj):List (aa×cK):=fp.filterMap λb=>(h.get? b).map λo=>(b,o)
theorem FG(hb:b∈fp)(e:h.get? b=O o):(b,o)∈xB fp h:=qN.mpr ⟨b,hb,by rw[e];rfl⟩
theorem Zk(Z:p∈xB fp h):p.1∈fp/\h.get? p.1=O p.2:=by
 obtain⟨b,hb,e⟩:=qN.mp Z;cases q:h.get? b with
 |none=>rw[q]at e;cases e
 |some o=>rw[q]at e;have Y:(b,o)=p:=bH e;subst Y;exact⟨hb,q⟩
theorem Inv.pinned(I:Inv X pins σ H s)(U:∀b∈fp,nZ X pins H b)(W:∀b∈fp,∃o,s.heap.get? b=O o/\∀v,o.data≠.cell v):Inv X (pins++xB fp s.heap) σ H s:=
 I.O8 λp Y=>(kh.mp Y).elim (λz=>I.pin p (uA _ z)) λz=>by obtain⟨hb,e⟩:=Zk z;obtain⟨R,S,T,_⟩:=U p.1 hb;obtain⟨o,Z,d⟩:=W p.1 hb;rw[e]at Z;cases Z;exact⟨e,R,S,T,d⟩
theorem Inv.zV(I:Inv X (pins++pl) σ H s):Inv X pins σ H s:=I.O8 λp Z=>I.pin p (uA _ (JY _ Z))
theorem iV(hp:PassesOwn (a_ X.prog X.w) X.A X.env X.xe)(hc:X.calm=true)(hi:PI X tg iter wi)(hg:PG X tg g)(hb:mJ X body tb)
 (hs:∀x,HA iter X.env x=pure x:=by intro _;rfl):PS X (.For tg iter body [] pos) (Ws wi g tb):=by
 intro pins s σ H D I h;refine wpAny_For (br (hi pins s σ H _ I h) λv s1 h1=>br h1 λitv s2 h2=>?_) hs;obtain⟨it,fp,tn,B,H2,e,I2,T,st2,f2,W,⟨m0,w0⟩,turn⟩:=h2;subst e;have sV:∀{H':Hp},(∀b∈fp,H' b=U)->∀b∈fp,nZ X pins H' b:=λhn b hb=>⟨hn b hb,(f2 b hb).2⟩;refine codeAny_forLoop_any (λn s'=>∃i σ' H',Inv X pins σ' H' s'/\tn i s'.heap/\(∀b∈fp,H' b=U)/\W i n σ' H') ?_ m0 ⟨0,σ,H2,I2,st2,λb hb=>(f2 b hb).1,w0⟩;rintro n s3 ⟨i,σ3,H3,I3,st3,RM,w3⟩;rcases turn i n σ3 H3 w3 with⟨stop,qn⟩|⟨go,N,hN,step⟩
 .refine uI hp (br (T.done X rfl rfl rfl hc i pins s3 σ3 H3 X.xe I3 (sV RM) st3 stop) λr s4 ⟨hr,I4⟩=>?_);subst hr;exact Di ⟨σ3,H3,I4,qn⟩
 .refine uI hp (br (T.item X rfl rfl rfl hc i pins s3 σ3 H3 X.xe I3 (sV RM) st3 go) λr s4 ⟨u,hr,h4⟩=>?_);subst hr;refine uI hp (br h4 λ_ s5 ⟨x,H5,I5,r5,y5,uT,fr5⟩=>?_);have I5':=I5.pinned (sV fr5) (T.obj _ _ uT);refine uI hp (br (hg _ s5 σ3 H5 x u _ I5' r5 (step x H5 y5)) λ_ s6 ⟨σ6,H6,I6,q6⟩=>?_);refine uI hp (br (hb _ s6 σ6 H6 _ I6 q6) λf s7 q7=>?_);have again:∀{σ7:St}{H7:Hp},Inv X (pins++xB fp s5.heap) σ7 H7 s7->N σ7 H7->∃m,m<n/\∃i σ' H',Inv X pins σ' H' s7/\tn i s7.heap/\(∀b∈fp,H' b=U)/\W i m σ' H':=λ{σ7 H7} I7 n7=>by obtain⟨m',hm,w7⟩:=hN σ7 H7 n7;refine⟨m',hm,i+1,σ7,H7,I7.zV,T.keep _ _ _ uT λb hb o e=>(I7.pin (b,o) (uA _ (uA _ (FG hb e)))).1,λb hb=>?_,w7⟩;obtain⟨o,e,d⟩:=T.obj _ _ uT b hb;exact(I7.pin (b,o) (uA _ (uA _ (FG hb e)))).2.1
  cases f with
  |next=>obtain⟨σ7,H7,I7,n7⟩:=q7;exact again I7 n7
  |cont=>obtain⟨σ7,H7,I7,n7⟩:=q7;exact again I7 n7
  |brk=>obtain⟨σ7,H7,I7,q7⟩:=q7;exact⟨σ7,H7,I7.zV,q7⟩
  |ret v=>obtain⟨x7,σ7,H7,I7,r7,q7⟩:=q7;exact⟨x7,σ7,H7,I7.zV,r7,q7⟩
end
theorem rR{K:PySem.W.Frag}{a:aa}{xs:List V}{g:TG}{tb:TS}{D:Ends}{σ:St}{H:Hp}(Z:Nat->St->Hp->Prop)(Q:Z 0 σ H)(hl:∀i σ H,i<=J xs->Z i σ H->aj K H a xs)
 (R:∀i x σ H,xs[i]?=O x->Z i σ H->g x σ H λY H2=>tb {D with nx:=Z (i+1),ct:=Z (i+1),bk:=D.nx } Y H2) (hd:∀σ H,Z (J xs) σ H->D.nx σ H) :
 ∃W:Nat->Nat->St->Hp->Prop,(∃m,W 0 m σ H)/\∀i m σ H,W i m σ H ->
  ((oN K a).stop i H/\D.nx σ H)\/((oN K a).go i H/\∃N:St->Hp->Prop,(∀σ' H',N σ' H'->∃T,T<m/\W (i+1) T σ' H')/\∀x H',(oN K a).lV i H x H'->g x σ H' λY H2=>tb {D with nx:=N,ct:=N,bk:=D.nx } Y H2):=by
 refine⟨λi m σ H=>m=J xs-i/\i<=J xs/\Z i σ H,⟨J xs,byB,cI _,Q⟩,?_⟩;rintro i m σ H ⟨rfl,hi,p⟩;have q:=hl i σ H hi p;by_cases U:i<J xs
 .refine .inr ⟨⟨xs,xs[i],q,by simp[U]⟩,Z (i+1),λσ' H' S=>⟨J xs-(i+1),byA,rfl,U,S⟩,λx H' y=>?_⟩;obtain⟨e,y⟩:=y;subst e;exact R i x σ _ (y xs q) p
 .have e:i=J xs:=by lia
  subst e;exact .inl ⟨⟨xs,q,aU _⟩,hd σ H p⟩
theorem qG{lo:Int}{n:Nat}{g:TG}{tb:TS}{D:Ends}{σ:St}{H:Hp}(U:Nat->St->Hp->Prop)(Q:U 0 σ H)
 (R:∀i σ H,i<n->U i σ H->g (.int (lo+i)) σ H λZ H2=>tb {D with nx:=U (i+1),ct:=U (i+1),bk:=D.nx } Z H2) (hd:∀σ H,U n σ H->D.nx σ H) :
 ∃W:Nat->Nat->St->Hp->Prop,(∃m,W 0 m σ H)/\∀i m σ H,W i m σ H ->
  ((nu lo n).stop i H/\D.nx σ H)\/((nu lo n).go i H/\∃N:St->Hp->Prop,(∀σ' H',N σ' H'->∃T,T<m/\W (i+1) T σ' H')/\∀x H',(nu lo n).lV i H x H'->g x σ H' λZ H2=>tb {D with nx:=N,ct:=N,bk:=D.nx } Z H2):=by
 refine⟨λi m σ H=>m=n-i/\i<=n/\U i σ H,⟨n,byB,cI _,Q⟩,?_⟩;rintro i m σ H ⟨rfl,hi,p⟩;by_cases Y:i<n
 .refine .inr ⟨Y,U (i+1),λσ' H' S=>⟨n-(i+1),byA,rfl,Y,S⟩,λx H' y=>?_⟩;obtain⟨e,y⟩:=y;subst e y;exact R i σ _ Y p
 .have e:i=n:=by lia
  subst e;exact .inl ⟨aU _,hd σ H p⟩
end L2
namespace L2
open PySem PySem.Spec PyProof.Rows
abbrev R2:=V->V->Hp->VK->Prop
def iH(X:Cx)(f:ai->ai->Sem ai)(r:R2):Prop:=
 ∀(pins:List (aa×cK))(s:aS)(σ:St)(H:Hp)(x y:V)(v u:ai)(Q:VK),Inv X pins σ H s->RelV x v->RelV y u->r x y H Q ->
  aP (a_ X.prog X.w) X.A (f v u) (EP X pins σ Q) X.xe s
def Jv(X:Cx)(f:ai->Sem ai)(r:V->Hp->VK->Prop):Prop:=
 ∀(pins:List (aa×cK))(s:aS)(σ:St)(H:Hp)(x:V)(v:ai)(Q:VK),Inv X pins σ H s->RelV x v->r x H Q ->
  aP (a_ X.prog X.w) X.A (f v) (EP X pins σ Q) X.xe s
def n_(X:Cx)(f:ai)(r:List V->Hp->VK->Prop):Prop:=
 ∀(pins:List (aa×cK))(s:aS)(σ:St)(H:Hp)(xs:List V)(us:List ai)(Q:VK),Inv X pins σ H s->Vals xs us->r xs H Q ->
  aP (a_ X.prog X.w) X.A (mz f us) (EP X pins σ Q) X.xe s
def aen(X:Cx)(r:V->Hp->(Bool->Hp->Prop)->Prop):Prop:=
 ∀(pins:List (aa×cK))(s:aS)(σ:St)(H:Hp)(x:V)(v:ai)(Q:Bool->Hp->Prop),Inv X pins σ H s->RelV x v->r x H Q ->
  aP (a_ X.prog X.w) X.A (truthy v) (TP X pins σ Q) X.xe s
def qX(r:R2)(ta tb:TE):TE:=λσ H Q=>ta σ H λx H1=>tb σ H1 λy H2=>r x y H2 Q
def We(r:V->Hp->VK->Prop)(ta:TE):TE:=λσ H Q=>ta σ H λx H1=>r x H1 Q
inductive rI(C:Int->Int->Prop)(g:Int->Int->V)(x:V)(y:V)(H:Hp)(Q:VK):Prop
 |mk(i j:_)(_:x=.int i)(_:y=.int j)(_:C i j)(_:Q (g i j) H):rI C g x y H Q
inductive o7(g:Int->Int->V)(x:V)(y:V)(H:Hp)(Q:VK):Prop
 |mk(i j:_)(_:x=.int i)(_:y=.int j)(_:Q (g i j) H):o7 g x y H Q
inductive rU(g:Int->V)(x:V)(H:Hp)(Q:VK):Prop
 |mk(i:_)(_:x=.int i)(_:Q (g i) H):rU g x H Q
section
variable{X:Cx}{a b c:Expr}{ta tb tc:TE}{pos:Pos}
theorem Jj(ha:PE X a ta)(hb:PE X b tb){pins:List (aa×cK)}{s:aS}{σ:St}{H:Hp}{R:V->V->Hp->Prop}(I:Inv X pins σ H s)
 (h:ta σ H λx H1=>tb σ H1 λy H2=>R x y H2) {Q:ai->aS->Prop} {f:ai->ai->Sem ai}
 (hf:∀v u s2 x y H2,Inv X pins σ H2 s2->RelV x v->RelV y u->R x y H2->aP (a_ X.prog X.w) X.A (f v u) Q X.xe s2) :
 aP (a_ X.prog X.w) X.A (di a X.env) (λv s₁=>aP (a_ X.prog X.w) X.A (di b X.env) (λu s₂=>aP (a_ X.prog X.w) X.A (f v u) Q X.xe s₂) X.xe s₁) X.xe s:=by
 refine br (ha pins s σ H _ I h) λv s1 ⟨x,H1,I1,r1,q1⟩=>?_;refine br (hb pins s1 σ H1 _ I1 q1) λu s2 ⟨y,H2,I2,r2,q2⟩=>?_;exact hf v u s2 x y H2 I2 r1 r2 q2
theorem dh{Z:JN}{r:R2}(W:iH X (pO Z) r)(ha:PE X a ta)(hb:PE X b tb):PE X (.BinOp a Z b pos) (qX r ta tb):=by intro pins s σ H Q I h;exact wpAny_BinOp (Jj ha hb I h λv u s2 x y H2 U rx Y q=>W pins s2 σ H2 x y v u Q U rx Y q)
theorem kD(ho:Jv X (unaryOp op) r)(ha:PE X a ta):PE X (.UnaryOp op a pos) (We r ta):=by intro pins s σ H Q I h;exact UnaryOp_ (br (ha pins s σ H _ I h) λv s1 ⟨x,H1,I1,r1,q1⟩=>ho pins s1 σ H1 x v Q I1 r1 q1)
theorem EO{f:ai->ai->Sem ai}{C:Int->Int->Prop}{g:Int->Int->Int}
 (rule:∀(i j:Int)(t u:m_)(s:aS)(Q:ai->aS->Prop)(E:ai->aS->Prop),C i j->Q (.int (g i j) s.toks) {s with toks:=s.toks+1 }->aP (a_ X.prog X.w) X.A (f (.int i t) (.int j u)) Q E s) :
 iH X f (rI C λi j=>.int (g i j)):=by
 intro pins s σ H x y v u Q I rx U h;obtain⟨i,j,rfl,rfl,T,q⟩:=h;obtain⟨t,rfl⟩:=rx;obtain⟨W,rfl⟩:=U;exact rule i j t W s _ _ T ⟨.int (g i j),H,I.tok _,⟨_,Y⟩,q⟩
theorem AF{f:ai->ai->Sem ai}{g:Int->Int->Int}
 (rule:∀(i j:Int)(t u:m_)(s:aS)(Q:ai->aS->Prop)(E:ai->aS->Prop),Q (.int (g i j) s.toks) {s with toks:=s.toks+1 }->aP (a_ X.prog X.w) X.A (f (.int i t) (.int j u)) Q E s) :
 iH X f (o7 λi j=>.int (g i j)):=by
 intro pins s σ H x y v u Q I rx U h;obtain⟨i,j,rfl,rfl,q⟩:=h;obtain⟨t,rfl⟩:=rx;obtain⟨W,rfl⟩:=U;exact rule i j t W s _ _ ⟨.int (g i j),H,I.tok _,⟨_,Y⟩,q⟩
theorem ER{f:ai->ai->Sem ai}{g:Int->Int->Bool}
 (rule:∀(i j:Int)(t u:m_)(s:aS)(Q:ai->aS->Prop)(E:ai->aS->Prop),Q (.bool (g i j)) s->aP (a_ X.prog X.w) X.A (f (.int i t) (.int j u)) Q E s) :
 iH X f (o7 λi j=>.bl (g i j)):=by
 intro pins s σ H x y v u Q I rx W h;obtain⟨i,j,rfl,rfl,q⟩:=h;obtain⟨t,rfl⟩:=rx;obtain⟨Z,rfl⟩:=W;exact rule i j t Z s _ _ ⟨.bl (g i j),H,I,Y,q⟩
def Lb(i j:Int):Prop:=0<j/\j<1073741824
def Dc(i j:Int):Prop:=(-(2 ^ 64)<i/\i<2 ^ 64)\/(-(2 ^ 64)<j/\j<2 ^ 64)
theorem Dc.ok(h:Dc i j):IntMulOk i j:=by
 rcases h with⟨h1,h2⟩|⟨h1,h2⟩
 .exact .of_left (aa_ h1 h2)
 .exact .of_right (aa_ h1 h2)
theorem jo:iH X (pO .Add) (o7 λi j=>.int (i+j)):=AF λ_ _ _ _ _ _ _ q=>add_int q
theorem rD:iH X (pO .Sub) (o7 λi j=>.int (i-j)):=AF λ_ _ _ _ _ _ _ q=>sub_int q
theorem AE:iH X (pO .Mult) (rI Dc λi j=>.int (i*j)):=EO λ_ _ _ _ _ _ _ Z q=>mul_int q Z.ok
theorem Pr:iH X (pO .FloorDiv) (rI Lb λi j=>.int (i/j)):=EO λi j _ _ _ _ _ Z q=>by have W:(0:Int)<j:=Z.1;have Y:j<1073741824:=Z.2;exact floordiv_int byA (by rw[Int.fdiv_eq_ediv_of_nonneg i byA];exact q) (.inl (aez byA))
theorem Pq:iH X (pO .Mod) (rI (λ_ j=>0<j) λi j=>.int (i%j)):=EO λi j _ _ _ _ _ Z q=>by have Y:(0:Int)<j:=Z;exact mod_int' byA (by rw[Int.fmod_eq_emod_of_nonneg i byA];exact q)
theorem Q9:iH X (Bp .Add) (o7 λi j=>.int (i+j)):=AF λ_ _ _ _ _ _ _ q=>iadd_int q
theorem Q8:iH X (Bp .Sub) (o7 λi j=>.int (i-j)):=AF λ_ _ _ _ _ _ _ q=>isub_int q
theorem Vq{f:ai->Sem ai}{g:Int->Int}
 (rule:∀(i:Int)(t:m_)(s:aS)(Q:ai->aS->Prop)(E:ai->aS->Prop),Q (.int (g i) s.toks) {s with toks:=s.toks+1 }->aP (a_ X.prog X.w) X.A (f (.int i t)) Q E s) :
 Jv X f (rU λi=>.int (g i)):=by
 intro pins s σ H x v Q I rx h;obtain⟨i,rfl,q⟩:=h;obtain⟨t,rfl⟩:=rx;exact rule i t s _ _ ⟨.int (g i),H,I.tok _,⟨_,Y⟩,q⟩
theorem kB:Jv X (unaryOp .USub) (rU λi=>.int (-i)):=Vq λ_ _ _ _ _ q=>neg_int q
end
def Ej:V->V->Bool
 |.az,.az=>true|.az,.int _=>true|.int _,.az=>true|.az,.bl _=>true|.bl _,.az=>true|.az,.str _=>true|.str _,.az=>true
 |.int _,.int _=>true|.bl _,.bl _=>true|.str _,.str _=>true|.j4 _,.j4 _=>true
 |.int _,.str _=>true|.str _,.int _=>true|.bl _,.str _=>true|.str _,.bl _=>true
 |_,_=>false
def OW:R2:=λx y H Q=>Ej x y=true/\Q (.bl (decide (x=y))) H
def YF:R2:=λx y H Q=>Ej x y=true/\Q (.bl (!decide (x=y))) H
theorem Sv:decide (V.int i=V.int j)=(i==j):=by rw[zo];simp
theorem Sx:decide (V.bl i=V.bl j)=(i==j):=by rw[zo];simp
theorem Su:decide (V.str i=V.str j)=(i==j):=by rw[zo];simp
theorem Sw:decide (V.j4 i=V.j4 j)=(i.toList==j.toList):=by rw[zo];cases i;cases j;simp
section
variable{X:Cx}{a b c:Expr}{ta tb tc:TE}{pos:Pos}
theorem fm(I:Inv X pins σ H s)(q:Q (.bl k) H)(e:k=k'):EP X pins σ Q (.bool k') s:=by subst e;exact⟨.bl k,H,I,Y,q⟩
theorem eW:iH X (nR .Eq) OW:=by
 intro pins s σ H x y v u Q I rx Z h;obtain⟨U,q⟩:=h;cases x with
 |az=>
  cases rx;cases y with
  |az=>cases Z;exact PySem.EqNone.eq_none_none (fm I q byB)
  |bl j=>cases Z;exact PySem.EqNone.eq_none_bool (fm I q byB)
  |int j=>obtain⟨Y,rfl⟩:=Z;exact PySem.EqNone.eq_none_int (fm I q byB)
  |str j=>obtain⟨Y,rfl⟩:=Z;exact PySem.EqNone.eq_none_str (fm I q byB)
  |_=>exact absurd (show false=true from U) iJ
 |bl i=>
  cases rx;cases y with
  |az=>cases Z;exact PySem.EqNone.eq_bool_none (fm I q byB)
  |bl j=>cases Z;exact eq_bool (fm I q Sx)
  |str j=>obtain⟨Y,rfl⟩:=Z;exact PySem.EqMixed.eq_bool_str (fm I q byB)
  |_=>exact absurd (show false=true from U) iJ
 |int i=>
  obtain⟨t,rfl⟩:=rx;cases y with
  |az=>cases Z;exact PySem.EqNone.eq_int_none (fm I q byB)
  |int j=>obtain⟨Y,rfl⟩:=Z;exact eq_int (fm I q Sv)
  |str j=>obtain⟨Y,rfl⟩:=Z;exact PySem.EqMixed.eq_int_str (fm I q byB)
  |_=>exact absurd (show false=true from U) iJ
 |str i=>
  obtain⟨t,rfl⟩:=rx;cases y with
  |az=>cases Z;exact PySem.EqNone.eq_str_none (fm I q byB)
  |bl j=>cases Z;exact PySem.EqMixed.eq_str_bool (fm I q byB)
  |int j=>obtain⟨Y,rfl⟩:=Z;exact PySem.EqMixed.eq_str_int (fm I q byB)
  |str j=>obtain⟨Y,rfl⟩:=Z;exact eq_str (fm I q Su)
  |_=>exact absurd (show false=true from U) iJ
 |j4 i=>
  obtain⟨t,rfl⟩:=rx;cases y with
  |j4 j=>obtain⟨Y,rfl⟩:=Z;exact PySem.W.eq_bytes (fm I q Sw)
  |_=>exact absurd (show false=true from U) iJ
 |_=>cases y<;>exact absurd (show false=true from U) iJ
theorem lI:iH X (nR .NotEq) YF:=by
 intro pins s σ H x y v u Q I rx Z h;obtain⟨U,q⟩:=h;cases x with
 |az=>
  cases rx;cases y with
  |az=>cases Z;exact PySem.EqNone.ne_none_none (fm I q byB)
  |bl j=>cases Z;exact PySem.EqNone.ne_none_bool (fm I q byB)
  |int j=>obtain⟨Y,rfl⟩:=Z;exact PySem.EqNone.ne_none_int (fm I q byB)
  |str j=>obtain⟨Y,rfl⟩:=Z;exact PySem.EqNone.ne_none_str (fm I q byB)
  |_=>exact absurd (show false=true from U) iJ
 |bl i=>
  cases rx;cases y with
  |az=>cases Z;exact PySem.EqNone.ne_bool_none (fm I q byB)
  |bl j=>cases Z;exact ne_bool (fm I q (fq not Sx))
  |str j=>obtain⟨Y,rfl⟩:=Z;exact PySem.EqMixed.ne_bool_str (fm I q byB)
  |_=>exact absurd (show false=true from U) iJ
 |int i=>
  obtain⟨t,rfl⟩:=rx;cases y with
  |az=>cases Z;exact PySem.EqNone.ne_int_none (fm I q byB)
  |int j=>obtain⟨Y,rfl⟩:=Z;exact ne_int (fm I q (fq not Sv))
  |str j=>obtain⟨Y,rfl⟩:=Z;exact PySem.EqMixed.ne_int_str (fm I q byB)
  |_=>exact absurd (show false=true from U) iJ
 |str i=>
  obtain⟨t,rfl⟩:=rx;cases y with
  |az=>cases Z;exact PySem.EqNone.ne_str_none (fm I q byB)
  |bl j=>cases Z;exact PySem.EqMixed.ne_str_bool (fm I q byB)
  |int j=>obtain⟨Y,rfl⟩:=Z;exact PySem.EqMixed.ne_str_int (fm I q byB)
  |str j=>obtain⟨Y,rfl⟩:=Z;exact ne_str (fm I q (fq not Su))
  |_=>exact absurd (show false=true from U) iJ
 |j4 i=>
  obtain⟨t,rfl⟩:=rx;cases y with
  |j4 j=>obtain⟨Y,rfl⟩:=Z;exact PySem.W.ne_bytes (fm I q (fq not Sw))
  |_=>exact absurd (show false=true from U) iJ
 |_=>cases y<;>exact absurd (show false=true from U) iJ
theorem rE:iH X (nR .Lt) (o7 λi j=>.bl (decide (i<j))):=ER λ_ _ _ _ _ _ _ q=>lt_int q
theorem rF:iH X (nR .Gt) (o7 λi j=>.bl (decide (j<i))):=ER λ_ _ _ _ _ _ _ q=>gt_int q
theorem EN:iH X (nR .GtE) (o7 λi j=>.bl (decide (j<=i))):=ER λ_ _ _ _ _ _ _ q=>ge_int q
theorem lJ:iH X (nR .Is) (λx y H Q=>y=.az/\Q (.bl (decide (x=.az))) H):=by
 intro pins s σ H x y v u Q I rx Z h;obtain⟨rfl,q⟩:=h;cases Z;refine is_none_gen (fm I q ?_)
 cases x<;>first
  |(cases rx;rfl)
  |(obtain⟨t,rfl⟩:=rx;rfl)
theorem vh:iH X (nR .IsNot) (λx y H Q=>y=.az/\Q (.bl (!decide (x=.az))) H):=by
 intro pins s σ H x y v u Q I rx Z h;obtain⟨rfl,q⟩:=h;cases Z;refine isnot_none_gen (fm I q ?_)
 cases x<;>first
  |(cases rx;rfl)
  |(obtain⟨t,rfl⟩:=rx;rfl)
theorem bB(b:ff)(h:op≠.In:=by decide)(Z:op≠.NotIn:=by decide):BX op b=false:=by
 have e1:(op==CmpOp.In)=false:=by cases op<;>first|rfl|exact absurd Y h
 have e2:(op==CmpOp.NotIn)=false:=by cases op<;>first|rfl|exact absurd Y Z
 cases b<;>simp[BX,e1,e2]
theorem qw{Z:CmpOp}{r:R2}(W:iH X (nR Z) r)(ha:PE X a ta)(hb:PE X b tb)(U:BX Z b=false):PE X (.Compare a [Z] [b] pos) (qX r ta tb):=by intro pins s σ H Q I h;exact wpAny_Compare1 (Jj ha hb I h λv u s2 x y H2 T rx Y q=>W pins s2 σ H2 x y v u Q T rx Y q) U
def Mi(t:TE):TT:=λσ H Q=>t σ H λx H'=>Lf x H' Q
theorem bK(ho:iH X (nR op) r)(ha:PE X a ta)(hb:PE X b tb)(hm:BX op b=false):PT X (.Compare a [op] [b] pos) (Mi (qX r ta tb)):=by
 intro pins s σ H Q I h;refine U5 (br (ha pins s σ H _ I h) λv s1 ⟨x,H1,I1,r1,q1⟩=>br (hb pins s1 σ H1 _ I1 q1) λu s2 ⟨y,H2,I2,r2,q2⟩=>
  br (ho pins s2 σ H2 x y v u _ I2 r1 r2 q2) λc s3 ⟨z,H3,I3,r3,k,e,q3⟩=>?_) hm
 subst e;cases r3;exact uH ⟨H3,I3,q3⟩
def Tf(K:PySem.W.Frag)(x:V)(H:Hp)(k:Bool):Prop:=
 match x with
 |.az=>k=false
 |.bl b=>k=b
 |.int i=>k=(i != 0)
 |.str y=>y.length<=bf/\k=((y.length:Int) != 0)
 |.j4 y=>y.size<=bf/\k=((y.size:Int) != 0)
 |.ref p=>(∃xs,aj K H p xs/\k=!xs.isEmpty)\/(∃xs,bu K H p xs/\k=!xs.isEmpty)\/∃kvs,H p=O (.dK kvs)/\k=!kvs.isEmpty
 |_=>False
theorem aa7(r:KV kvs vs):(!vs.isEmpty)=!kvs.isEmpty:=by cases r<;>rfl
theorem Q7(r:Vals xs its):(!its.toArray.isEmpty)=!xs.isEmpty:=by cases r<;>simp
theorem xV:(sizeLine:Nat)<2 ^ 63:=by rw[c8];decide
theorem VO:aen X (λx H Q=>∃k,Tf X.K x H k/\Q k H):=by
 intro pins s σ H x v Q I rx h;obtain⟨k,e,q⟩:=h;have hl:=xV;have N:bf=16777216:=c8;cases x with
 |az=>cases rx;have Z:k=false:=e;subst Z;exact truthy_none ⟨H,I,q⟩
 |bl b=>cases rx;have Z:k=b:=e;subst Z;exact uH ⟨H,I,q⟩
 |int i=>obtain⟨t,rfl⟩:=rx;have Z:k=(i != 0):=e;subst Z;exact PySem.P.truthy_int ⟨H,I,q⟩
 |str y=>obtain⟨t,rfl⟩:=rx;obtain⟨S,Z⟩:y.length<=bf/\k=((y.length:Int) != 0):=e;subst Z;exact PySem.P.truthy_str byA ⟨H,I.tok _,q⟩
 |j4 y=>obtain⟨t,rfl⟩:=rx;obtain⟨S,Z⟩:y.size<=bf/\k=((y.size:Int) != 0):=e;subst Z;exact PySem.W.truthy_bytes byA ⟨H,I.tok _,q⟩
 |ref p=>
  cases rx;have Z:(∃xs,aj X.K H p xs/\k=!xs.isEmpty)\/(∃xs,bu X.K H p xs/\k=!xs.isEmpty)\/∃kvs,H p=O (.dK kvs)/\k=!kvs.isEmpty:=e;rcases Z with⟨xs,hx,Z⟩|⟨xs,hx,Z⟩|⟨kvs,hx,Z⟩
  .subst Z;obtain⟨U,r,pl,T⟩:=I.list hx;have Y:=r.length;exact wpAny_truthy_list pl.isList (by simp only[eX];lia) ⟨H,I.tok _,by rw[Q7 r];exact q⟩
  .subst Z;obtain⟨U,r,pl,T⟩:=I.tuple hx;have Y:=r.length;exact truthy_tuple pl (by simp only[eX];lia) ⟨H,I.tok _,by rw[Q7 r];exact q⟩
  .subst Z;obtain⟨T,R,vs,r,m⟩:kvs.length<=bf/\(p==jx)=false/\∃vs,KV kvs vs/\s.heap.DictOf (jT X.prog X.w) p vs:=I.hok p _ hx;have Y:kvs.length=vs.length:=Paired.length r;exact wpAny_truthy_dict R m byA ⟨H,I.tok _,by rw[aa7 r];exact q⟩
 |_=>exact(show False from e).elim
theorem YK(ha:PE X a ta)(he:∀whole,GR a X.env whole=(do let v <-whole;standAt a.pos;holding [v] (truthy v))):
 PT X a (λσ H Q=>ta σ H λx H'=>∃k,Tf X.K x H' k/\Q k H'):=by
 intro pins s σ H Q I h;exact aa5 (br (ha pins s σ H _ I h) λv s1 ⟨x,H1,I1,r1,q1⟩=>VO pins s1 σ H1 x v Q I1 r1 q1) (he _)
theorem vals1(r:Vals [x] us):∃u,us=[u]/\RelV x u:=by
 cases r with
 |cons W Z=>cases Z;exact⟨_,Y,W⟩
theorem vals2(r:Vals [x,y] us):∃u Z,us=[u,Z]/\RelV x u/\RelV y Z:=by
 cases r with
 |cons S T=>
  cases T with
  |cons U W=>cases W;exact⟨_,_,Y,S,U⟩
end
end L2
namespace L2
open PySem PySem.Spec PyProof.Rows
structure uy(h:dj)(x dx C:aa)(mA:ak->Option ai):Prop where
 obj:h.get? x=O (PySem.W.instObj C dx)
 ns:h.Ns1 dx mA
 ne:dx≠x
theorem aad{h:dj}{dx:aa}{mA:ak->Option ai}(n:h.Ns1 dx mA):∃od,h.get? dx=O od/\∀name,PySem.W.lookIn name od=O (mA name):=by
 obtain⟨o,Y,P,T,hd,R,_,S⟩:=n;refine⟨o,T,λname=>?_⟩;have e:=S name;unfold nsFind findBy at e;rw[<-Array.find?_toList]at e;unfold PySem.W.lookIn;rw[hd];dsimp only;split
 .rename_i y q;rw[q]at e;exact fq O e
 .rename_i q;rw[q]at e;have a:Y.toList.any (·.refKey)=false:=by rw[Uq];intro y U;obtain⟨z,t,Z⟩:=R y (Array.mem_toList_iff.mp U);simp[ahb,Z]
  have Q:¬Y.toList.any (·.refKey)=true:=by rw[a];exact iJ
  rw[ao Q];exact fq O e
theorem uy.look(I:uy h x dx C mA):∃od,PySem.W.InstAt h x (PySem.W.instObj C dx) C (O od)/\∀name,PySem.W.lookIn name od=O (mA name):=
 let ⟨od,Z,hl⟩:=aad I.ns
 ⟨od,⟨I.obj,rfl,rfl,Z⟩,hl⟩
section
variable{prog:Program}{w:World}{A:Around}{E:Value->Shared->Prop}{s:Shared}{K:PySem.W.Frag}{x dx C f:Addr}{mA:Str->Option Value}{name:Str}{v:Value}
theorem get_map(X:K.In s.heap)(I:uy s.heap x dx C mA)(R:PySem.W.plainGet K C name=true)(S:PySem.W.hasDictIn K C=true)
 (ha:PySem.W.findIn K (.ref C) name=O U) (hv:mA name=O v) (Z:PySem.W.handedIn v=true) (h:Q v {s with toks:=s.toks+1 }) :
 aP (a_ prog w) A (RG (.ref x) name expr) Q E s:=by
 obtain⟨od,B,hl⟩:=I.look;exact PySem.W.get_value X B (PySem.W.plainGet_of R).1 (PySem.W.findObj_own S ha Y (by rw[hl,hv])) Z h
theorem abP(X:K.In s.heap)(I:uy s.heap x dx C mA)(Z:PySem.W.plainGet K C name=true)
 (Y:PySem.W.findIn K (.ref C) name=O (O (.ref f))) (ht:PySem.W.isFn K (.ref f)=true) (hv:mA name=U) (h:Q (.ref f,[.ref x]) s) :
 aP (a_ prog w) A (getMethod (.ref x) name pl) Q E s:=by
 obtain⟨od,B,hl⟩:=I.look;exact PySem.W.method_fn X B (PySem.W.plainGet_of Z).1 (PySem.W.plainGet_of Z).2 Y (vW.mp ht) (by show(PySem.W.lookIn name od).map (·.isSome)=O false;rw[hl,hv];rfl) h
theorem Yc(X:K.In s.heap)(I:uy s.heap x dx C mA)
 (L:PySem.W.findIn K (.ref C) "__setattr__"=O (O (.builtin "object.__setattr__"))) (H:PySem.W.plainOver K C=true) (ht:PySem.W.takerIn K C name=O U) (G:PySem.W.hasDictIn K C=true)
 (M:PySem.Within mA ns) (hsz:J ns<=bf)
 (h:∀h',uy h' x dx C (λy=>if y=name then O v else mA y)->sM dx s.heap h'->Q () {s with heap:=h',toks:=s.toks+2 }) :
 aP (a_ prog w) A (setAttr (.ref x) name v) Q E s:=by
 obtain⟨od,B,hl⟩:=I.look;refine PySem.W.set_plain X B L (PySem.W.osa_open (s:={s with toks:=s.toks+1 }) (r:=U) X B H ht λb=>?_);obtain⟨q,F,P⟩:=PySem.W.any_some G;have hx:s.heap.get? x=O ⟨.ref C,O dx,.plain,#[]⟩:=I.obj;refine aL (bC (aL (aL (wpAny_loadPart hx (aL (PySem.W.Looks.here (s:={s with toks:=s.toks+1 }) (PySem.W.looks_clsIn X F) ?_))))));rw[P];refine bC (a:=O dx) (aL (bC (aL ?_)));refine wpAny_nsSet1 (s:={s with toks:=s.toks+1 }) I.ns λh' T Y=>?_;obtain⟨u,D,z,S,R,N⟩:=T.count (PySem.Within.cons name v M);refine aL (wpAny_lookBehind S (by rw[R];exact pastItsLine_dict (eL N (by rw[iI];lia))) ?_);exact bC (h _ ⟨(Y.2 _ (cO I.ne)).trans I.obj,T,I.ne⟩ Y)
theorem Z7(X:K.In s.heap)(Z:PySem.W.makesIn K C=true)
 (hi:PySem.W.findIn K (.ref C) "__init__"=O (O (.ref f))) (U:PySem.W.typeIn K (.ref f)=O (.type "function"))
 (h:uf (a_ prog w) (A.under (.builtin "type.__call__" ⟨.ref C::vs,kw⟩)) (.call (.ref f) ⟨.ref (s.heap.objs.size+1)::vs,kw⟩) (PySem.W.InitBack (s.heap.objs.size+1) R)
  {s with heap:=(s.heap.push PySem.W.emptyDict).push (PySem.W.instObj C s.heap.objs.size) }) :
 uf (a_ prog w) A (.call (.ref C) ⟨vs,kw⟩) R s:=by
 obtain⟨T,g,d,t,os⟩:=s;exact PySem.W.make_core (PySem.W.makes_of X Z) (PySem.W.looks_findIn X hi) (λself=>PySem.W.bind_fn X self U) (.inl Y) h
end
def aR(f:ak)(v:V):List (ak×V)->List (ak×V)
 |[]=>[(f,v)]
 |(g,x)::r=>if g=f then(g,v)::r else(g,x)::aR f v r
theorem QI(f g:ak)(v:V):∀fs:List (ak×V),(aR f v fs).lookup g=if g=f then O v else fs.lookup g
 |[]=>by
  show uB g [(f,v)]=_;by_cases h:g=f
  .have hb:(g==f)=true:=vW.mpr h;simp only[uB,hb,aD h]
  .have hb:(g==f)=false:=r9.mpr h;simp only[uB,hb,ao h]
 |(k,x)::r=>by
  have Y:=QI f g v r;rw[show aR f v ((k,x)::r)=(if k=f then(k,v)::r else(k,x)::aR f v r) from rfl];by_cases Z:k=f
  .rw[aD Z];by_cases h:g=k
   .have hb:(g==k)=true:=vW.mpr h;simp only[uB,hb,aD (h.trans Z)]
   .have hb:(g==k)=false:=r9.mpr h;simp only[uB,hb,ao (λe:g=f=>h (e.trans Z.symm))]
  .rw[ao Z];by_cases h:g=k
   .have hb:(g==k)=true:=vW.mpr h;simp only[uB,hb,ao (λe:g=f=>Z (h.symm.trans e))]
   .have hb:(g==k)=false:=r9.mpr h;simp only[uB,hb];exact Y
theorem GK(f:ak)(v:V):∀fs:List (ak×V),f∈(aR f v fs).map (·.1)/\∀g,g∈fs.map (·.1)->g∈(aR f v fs).map (·.1)
 |[]=>⟨by simp[aR],λg h=>by simp at h⟩
 |(k,x)::r=>by
  obtain⟨W,Y⟩:=GK f v r;rw[show aR f v ((k,x)::r)=(if k=f then(k,v)::r else(k,x)::aR f v r) from rfl];by_cases Z:k=f
  .rw[aD Z];subst Z;exact⟨byB,λg h=>by simpa using h⟩
  .rw[ao Z];refine⟨?_,λg h=>?_⟩
   .rw[bL];exact dR _ W
   .rw[bL]at h ⊢;rcases bE.mp h with e|e
    .exact bE.mpr (.inl e)
    .exact dR _ (Y g e)
theorem QN(f:ak)(v:V):∀fs:List (ak×V),J (aR f v fs)<=J fs+1
 |[]=>by simp[aR]
 |(k,x)::r=>by
  have Y:=QN f v r;rw[show aR f v ((k,x)::r)=(if k=f then(k,v)::r else(k,x)::aR f v r) from rfl];by_cases Z:k=f
  .rw[aD Z,iI,iI];lia
  .rw[ao Z,iI,iI];lia
theorem kc.some_of(r:kc (O v) o):∃u,o=O u/\RelV v u:=by
 cases o with
 |none=>exact(show False from r).elim
 |some u=>exact⟨u,Y,r⟩
theorem kc.none_of(r:kc U o):o=U:=by
 cases o with
 |none=>rfl
 |some u=>exact(show False from r).elim
theorem abK(r:RelV v u):PySem.W.handedIn u=true:=by
 cases v with
 |az=>cases (show u=pP from r);rfl
 |bl b=>cases (show u=yu b from r);rfl
 |int i=>obtain⟨t,e⟩:=(show ∃t,u=uu i t from r);cases e;rfl
 |str x=>obtain⟨t,e⟩:=(show ∃t,u=Jt x t from r);cases e;rfl
 |j4 b=>obtain⟨t,e⟩:=(show ∃t,u=aem b t from r);cases e;rfl
 |BB b=>obtain⟨t,e⟩:=(show ∃t,u=ael b t from r);cases e;rfl
 |ref a=>cases (show u=dG a from r);rfl
 |ty n=>cases (show u=r_ n from r);rfl
section
variable{P:Program}{w:World}{H H':Hp}{h h':Heap}{a C dx:Addr}{fs fs':List (Str×V)}
theorem GX(hok:d_ P w H h)(e:H a=O (.ins C dx fs)):∃mA,uy h a dx C mA/\(∀f,kc (fs.lookup f) (mA f))/\PySem.Within mA (fs.map (·.1))/\J fs<=1000/\H dx=O (.own a):=by obtain⟨d,z,ne,Z,mA,n,r,q⟩:=(show e7 P w H h a (.ins C dx fs) from hok a _ e);exact⟨mA,⟨Z,n,ne⟩,r,q,z,d⟩
end
structure oU(K:PySem.W.Frag)(C:aa):Prop where
 pg:PySem.W.plainGet K C Str.empty=true
 hd:PySem.W.hasDictIn K C=true
 po:PySem.W.plainOver K C=true
 sa:PySem.W.findIn K (.ref C) "__setattr__"=O (O (.builtin "object.__setattr__"))
theorem oU.get{K:PySem.W.Frag}{C:aa}(c:oU K C)(f:ak):PySem.W.plainGet K C f=true:=c.pg
def sG(K:PySem.W.Frag)(C:aa)(f:ak):Prop:=PySem.W.findIn K (.ref C) f=O U
theorem sG.VV{K:PySem.W.Frag}{C:aa}{f:ak}(n:sG K C f):PySem.W.takerIn K C f=O U:=by unfold PySem.W.takerIn;rw[show PySem.W.findIn K (.ref C) f=O U from n];rfl
structure Meth(K:PySem.W.Frag)(C:aa)(m:ak)(f:aa):Prop where
 at_:PySem.W.findIn K (.ref C) m=O (O (.ref f))
 fn:PySem.W.isFn K (.ref f)=true
 kp:PySem.W.keepIn K (.ref f)=true
section
variable{X:Cx}{pins:List (Addr×Obj)}{σ:St}{H:Hp}{s:Shared}{a C dx:Addr}{fs:List (Str×V)}{f:Str}{v:V}{A:Around}{E:Value->Shared->Prop}
theorem RC(I:Inv X pins σ H s)(e:H a=O (.ins C dx fs))(c:oU X.K C)(n:sG X.K C f)(l:fs.lookup f=O v)
 (h:∀u s',Inv X pins σ H s'->RelV v u->Q u s'):aP (a_ X.prog X.w) A (RG (.ref a) f b) Q E s:=by
 obtain⟨mA,B,r,_,_,_⟩:=GX I.hok e;obtain⟨u,Y,Z⟩:=kc.some_of (v:=v) (o:=mA f) (by rw[<-l];exact r f);exact get_map I.jX B (c.get f) c.hd n Y (abK Z) (h u _ (I.tok _) Z)
theorem RB(I:Inv X pins σ H s)(e:H a=O (.ins C dx fs))(c:oU X.K C)(k:Meth X.K C m g)(l:fs.lookup m=U)
 (h:Q (.ref g,[.ref a]) s):aP (a_ X.prog X.w) A (getMethod (.ref a) m pl) Q E s:=by
 obtain⟨mA,B,r,_,_,_⟩:=GX I.hok e;have Z:mA m=U:=kc.none_of (by rw[<-l];exact r m);exact abP I.jX B (c.get m) k.at_ k.fn Z h
theorem Nj(I:Inv X pins σ H s)(e:H a=O (.ins C dx fs))(c:oU X.K C)(n:sG X.K C f)(hl:J fs<1000)(S:RelV y u)
 (h:∀s',Inv X pins σ (upd H a (.ins C dx (aR f y fs))) s'->Q () s'):aP (a_ X.prog X.w) A (setAttr (.ref a) f u) Q E s:=by
 obtain⟨mA,B,r,Y,_,W⟩:=GX I.hok e;have R:J (fs.map (·.1))<=sizeLine:=by rw[aM,c8];lia
 refine Yc I.jX B c.sa c.po n.VV c.hd Y R λh' Z T=>h _ ?_;have hd:∃o,h'.get? dx=O o:=let ⟨o,_,_,N,_⟩:=Z.ns;⟨o,N⟩;refine I.write (x:=a) (e:=dx) (by rw[e];exact qJ) (.inr W) (λb q hb z=>(T.2 b hb).trans z) hd ?_;refine⟨by rw[bO B.ne];exact W,?_,B.ne,Z.obj,_,Z.ns,λg=>?_,λg P=>?_⟩
 .have:=QN f y fs;lia
 .show kc ((aR f y fs).lookup g) (if g=f then O u else mA g);rw[QI];by_cases q:g=f
  .rw[aD q,aD q];exact S
  .rw[ao q,ao q];exact r g
 .by_cases q:g=f
  .rw[q];exact(GK f y fs).1
  .refine(GK f y fs).2 g (Y g λz=>P ?_);show(if g=f then O u else mA g)=U;rw[ao q];exact z
theorem Inv.made(I:Inv X pins σ H s):Inv X pins σ (upd (upd H s.heap.objs.size (.own (s.heap.objs.size+1))) (s.heap.objs.size+1) (.ins C s.heap.objs.size []))
 {s with heap:=(s.heap.push PySem.W.emptyDict).push (PySem.W.instObj C s.heap.objs.size) }:=by
 have e1:(s.heap.push PySem.W.emptyDict).get? s.heap.objs.size=O PySem.W.emptyDict:=jN s.heap Y;have e2:((s.heap.push PySem.W.emptyDict).push (PySem.W.instObj C s.heap.objs.size)).get? (s.heap.objs.size+1)=O (PySem.W.instObj C s.heap.objs.size):=by
  have:=jN (s.heap.push PySem.W.emptyDict) (o:=PySem.W.instObj C s.heap.objs.size) Y
  rwa [oQ]at this
 have S:(s.heap.push PySem.W.emptyDict).Ns s.heap.objs.size (λ_=>U):=⟨PySem.W.emptyDict,#[],_,e1,Y,(λe T=>absurd T byB),λ_=>Y⟩;have R:=I.laid (a:=s.heap.objs.size) (o:=.own (s.heap.objs.size+1)) (h':=s.heap.push PySem.W.emptyDict) (t':=s.toks) (λb u q=>fW _ q) (aU _) ⟨_,e1⟩;refine R.laid (a:=s.heap.objs.size+1) (o:=.ins C s.heap.objs.size []) (t':=s.toks) (λb u q=>fW _ q) (Cm (oQ _ _)) ?_;have ne:s.heap.objs.size≠s.heap.objs.size+1:=iP (JP _);refine⟨by rw[bO ne,aB],cI _,ne,e2,λ_=>U,(Heap.Ns1.of_empty S).at λo q=>fW _ q,λ_=>qJ,λy Z=>absurd rfl Z⟩
theorem ad3(hb:uo e f env (di e env)=di e env)
 (h:aP (a_ prog w) A (di e env) (λo Z=>aP (a_ prog w) A (RG o f true) Q E Z) E s):aP (a_ prog w) A (di (.Attribute e f pos) env) Q E s:=
 Attribute_any_ h (by rw[arm_eval_Attribute,hb])
end
structure CF(K:PySem.W.Frag)(C:aa)(names:List ak):Prop where
 cl:oU K C
 no:∀f∈names,sG K C f
class Me(f:ak)(l:List ak):Prop where
 h:f∈l
instance Me.hd{f:ak}{l:List ak}:Me f (f::l):=⟨.head _⟩
instance Me.tl{f g:ak}{l:List ak}[m:Me f l]:Me f (g::l):=⟨.tail _ m.h⟩
inductive zh(K:PySem.W.Frag)(f:ak)(H:Hp)(Q:aa->aa->V->Prop):V->Prop
 |mk{a C dx:aa}{fs:List (ak×V)}{v:V}{ns:List ak}(_:H a=O (.ins C dx fs))(_:CF K C ns)[Me f ns](_:fs.lookup f=O v)(_:Q a C v):zh K f H Q (.ref a)
theorem zh.ex{K:PySem.W.Frag}{f:ak}{H:Hp}{Q:aa->aa->V->Prop}{x:V}(h:zh K f H Q x):∃a C dx fs v,x=.ref a/\H a=O (.ins C dx fs)/\oU K C/\sG K C f/\fs.lookup f=O v/\Q a C v:=by
 cases h with
 |@mk a C dx fs v ns S Z m T U=>exact⟨a,C,dx,fs,v,Y,S,Z.cl,Z.no f m.h,T,U⟩
def DO(K:PySem.W.Frag)(ta:TE)(f:ak):TE:=λσ H Q=>ta σ H λx H1=>zh K f H1 (λ_ _ v=>Q v H1) x
inductive zd(K:PySem.W.Frag)(f:ak)(y:V)(H:Hp)(k:Hp->Prop):V->Prop
 |mk{a C dx:aa}{fs:List (ak×V)}{ns:List ak}(_:H a=O (.ins C dx fs))(_:CF K C ns)[Me f ns](_:J fs<1000)(_:k (upd H a (.ins C dx (aR f y fs)))):zd K f y H k (.ref a)
theorem zd.ex{K:PySem.W.Frag}{f:ak}{y x:V}{H:Hp}{k:Hp->Prop}(h:zd K f y H k x):∃a C dx fs,x=.ref a/\H a=O (.ins C dx fs)/\oU K C/\sG K C f/\J fs<1000/\k (upd H a (.ins C dx (aR f y fs))):=by
 cases h with
 |@mk a C dx fs ns S Z m T U=>exact⟨a,C,dx,fs,Y,S,Z.cl,Z.no f m.h,T,U⟩
def Od(K:PySem.W.Frag)(ta tv:TE)(f:ak):TS:=λD σ H=>tv σ H λy H1=>ta σ H1 λx H2=>zd K f y H2 (λH3=>D.nx σ H3) x
def Uw(X:Cx)(op:JN)(rd:V->V->Hp->VK->Prop):Prop:=
 ∀(pins:List (aa×cK))(s:aS)(σ:St)(H:Hp)(x y:V)(u v:ai)(Q:VK),Inv X pins σ H s->RelV x u->RelV y v->rd x y H Q->aP (a_ X.prog X.w) X.A (Bp op u v) (EP X pins σ Q) X.xe s
def Yo(K:PySem.W.Frag)(ta tv:TE)(rd:V->V->Hp->VK->Prop)(f:ak):TS:=λD σ H=>ta σ H λx H1=>zh K f H1 (λa C v=>
 tv σ H1 λy H2=>rd v y H2 λz H3=>∃Sf fs',H3 a=O (.ins C Sf fs')/\J fs'<1000/\D.nx σ (upd H3 a (.ins C Sf (aR f z fs')))) x
section
variable{X:Cx}{o e value:Expr}{f:Str}{pos pos' tpos:Pos}{ta tv:TE}
theorem Pe(Y:PE X e ta)(hb:uo e f X.env (di e X.env)=di e X.env):PE X (.Attribute e f pos) (DO X.K ta f):=by intro pins s σ H Q I h;refine ad3 hb (br (Y pins s σ H _ I h) λu s1 ⟨x,H1,T,rx,hx⟩=>?_);obtain⟨a,C,dx,fs,v,ex,W,c,n,l,q⟩:=hx.ex;subst ex;obtain rfl:u=dG a:=rx;exact RC T W c n l λS s2 U Z=>⟨v,H1,U,Z,q⟩
theorem dP(ha:PE X o ta)(hv:PE X value tv)(U:wX value (O (.Attribute o f pos')) pos.line X.env=pure false):PS X (.Assign [.Attribute o f pos'] value pos) (Od X.K ta tv f):=by intro pins s σ H D I h;refine plainObj_wpAny_Assign_Attribute (br (hv pins s σ H _ I h) λu s1 ⟨y,H1,Q,Z,q⟩=>br (ha pins s1 σ H1 _ Q q) λW s2 ⟨x,H2,R,rx,hx⟩=>?_) U;obtain⟨a,C,dx,fs,ex,T,c,n,l,Y⟩:=hx.ex;subst ex;obtain rfl:W=dG a:=rx;exact Nj R T c n l Z λP S=>⟨σ,_,S,Y⟩
theorem YN{Y:JN}{rd:V->V->Hp->VK->Prop}(ha:PE X o ta)(hv:PE X value tv)(hop:Uw X Y rd):PS X (.AugAssign (.Attribute o f tpos) Y value pos) (Yo X.K ta tv rd f):=by intro pins s σ H D I h;refine wpAny_AugAssign_AttributeAny (br (ha pins s σ H _ I h) λO s1 ⟨x,H1,A,rx,hx⟩=>?_);obtain⟨a,C,dx,fs,v,ex,L,c,n,l,q⟩:=hx.ex;subst ex;obtain rfl:O=dG a:=rx;refine RC A L c n l λu s2 B R=>br (hv pins s2 σ H1 _ B q) λW U ⟨y,H2,E,S,P⟩=>br (hop pins U σ H2 v y u W _ E R S P) λw p ⟨z,H3,F,T,J,M,Z,N,Q⟩=>?_;exact Nj F Z c n N T λr G=>⟨σ,_,G,Q⟩
inductive O0(x:V)(y:V)(H:Hp)(Q:VK):Prop
 |mk(i j:_)(_:x=.int i)(_:y=.int j)(_:Q (.int (i+j)) H):O0  x y H Q
theorem aa':Uw X .Add O0:=by rintro pins s σ H x y u v Q I rx W ⟨i,j,rfl,rfl,q⟩;obtain⟨t,rfl⟩:=(show ∃t,u=uu i t from rx);obtain⟨Z,rfl⟩:=(show ∃Z,v=uu j Z from W);exact ag5 ⟨.int (i+j),H,I.tok _,⟨_,Y⟩,q⟩
end
end L2
namespace L2
open PySem PySem.Spec PyProof.Rows
structure bS(k:Nat)(A:jd):Prop where
 hd:A.handled=U
 dp:A.depth+3*k+5<recursionLimit
 un:A.units+16*k+200<jj
theorem bS.mono(r:bS k A)(h:j<=k):bS j A:=⟨r.hd,by have:=r.dp;lia,by have:=r.un;lia⟩
theorem bS.deeper(r:bS (k+1) A)(env:i0):bS k (A.deeper env):=
 ⟨r.hd,by have:=r.dp;show A.depth+1+3*k+5<_;lia,by have:=r.un;show A.units+3+16*k+200<_;lia⟩
theorem Z8{A:jd}{C:aa}{us:List ai}{Z:List (ak×ai)}:(A.under (.builtin "type.__call__" ⟨.ref C::us,Z⟩)).depth=A.depth+1:=by first|rfl|simp[UO,Code.weight,Code.isCreation,Code.isGuard,Code.isCaller,agy,UD,guardIds]
theorem Z6{A:jd}{C:aa}{us:List ai}{Z:List (ak×ai)}:(A.under (.builtin "type.__call__" ⟨.ref C::us,Z⟩)).units=A.units+1:=by first|rfl|simp[UO,Code.cUnits,agy,UD]
theorem bS.make(r:bS (k+1) A)(C:aa)(us:List ai)(Z:List (ak×ai)):bS k (A.under (.builtin "type.__call__" ⟨.ref C::us,Z⟩)):=
 ⟨r.hd,by have:=r.dp;rw[Z8];lia,by have:=r.un;rw[Z6];lia⟩
theorem bS.depth(r:bS k A):A.depth<recursionLimit:=by have:=r.dp;lia
theorem bS.units(r:bS k A):A.units+64<cLine:=by have:=r.un;lia
def DL:TA:=λ_ H Q=>Q [] H
def WC(ta:TE)(tr:TA):TA:=λσ H Q=>ta σ H λx H1=>tr σ H1 λxs H2=>Q (x::xs) H2
section
variable{X:Cx}{e:Expr}{es:List Expr}{te:TE}{t:TA}{pos:Pos}
theorem ay:PA X [] DL:=λ_ _ _ _ H Q I h=>K_ ⟨[],H,I,.nil,h⟩
theorem af(ha:PE X e te)(hr:PA X es t)(hs:eS (e::es) X.env=(false,di e X.env)::eS es X.env:=by rfl):PA X (e::es) (WC te t):=by intro pos pins s σ H Q I h;rw[hs];show aP _ _ (spliced ((false,di e X.env)::mC pos (eS es X.env))) _ _ s;refine zl (br (ha pins s σ H _ I h) λu s1 ⟨x,H1,I1,r1,q1⟩=>?_);exact br (hr pos pins s1 σ H1 _ I1 q1) λus s2 ⟨xs,H2,I2,r2,q2⟩=>⟨x::xs,H2,I2,.cons r1 r2,q2⟩
def Wf(t:TA):TE:=λσ H Q=>t σ H λxs H1=>J xs<=bf/\∀p,H1 p=U->Q (.ref p) (upd H1 p (.tup xs))
def Wq(t:TA):TE:=λσ H Q=>t σ H λxs H1=>J xs<=bf/\∀p,H1 p=U->Q (.ref p) (upd H1 p (.lst xs))
theorem jD{x1}(h:PA X es t):PE X (.Tuple es x1 pos) (Wf t):=by intro pins s σ H Q I W;refine wpAny_Tuple_spliced (br (h pos pins s σ H _ I W) λus s1 ⟨xs,H1,Z,r,z,q⟩=>⟨by rw[<-r.length];exact z,?_⟩);have T:H1 s1.heap.objs.size=U:=Z.hok.fresh (aU _);refine⟨.ref s1.heap.objs.size,upd H1 s1.heap.objs.size (.tup xs),Z.laid (t':=s1.toks) (λb u e=>fW _ e) (aU _) ?_,Y,q _ T⟩;exact⟨z,us,r,⟨_,jN _ Y,Y,_,Y⟩⟩
theorem dQ(h:PA X es t):PE X (.List es pos) (Wq t):=by intro pins s σ H Q I W;refine wpAny_List_spliced (br (h pos pins s σ H _ I W) λus s1 ⟨xs,H1,Z,r,z,q⟩=>⟨by rw[<-r.length];exact z,?_⟩);have T:H1 s1.heap.objs.size=U:=Z.hok.fresh (aU _);refine⟨.ref s1.heap.objs.size,upd H1 s1.heap.objs.size (.lst xs),Z.laid (t':=s1.toks) (λb u e=>fW _ e) (aU _) ?_,Y,q _ T⟩;exact⟨z,us,0,r,jN _ Y⟩
end
abbrev Sp:=List V->Hp->VK->XK->Prop
abbrev oh:=List i0->Hp->aS->XK->ai->aS->Prop
structure sN(P:fV)(w:d9)(K:PySem.W.Frag)(mg:ak->Option ai)(base:dj)(A:jd)(outer:List i0)(s:aS)(H:Hp):Prop where
 frames:A.frames=O outer
 mod:Mod K mg base
 bs:∀b o,base.get? b=O o->s.heap.get? b=O o/\H b=U
 pN:base.objs.size<=s.heap.objs.size
 mZ:s.heap.FunFrames base outer
 qF:∀b∈frs outer,H b=U
 hok:d_ P w H s.heap
 bare:wG s.gens
def CE(outer:List i0)(P:fV)(w:d9)(H:Hp)(s:aS)(Q:VK)(u:ai)(s':aS):Prop:=
 ∃v H',s'.os=s.os/\wG s'.gens/\Un (frs outer) [] H H' s.heap s'.heap/\d_ P w H' s'.heap/\RelV v u/\Q v H'
def CR(CX:oh)(outer:List i0)(P:fV)(w:d9)(H:Hp)(s:aS)(Q:VK)(E:XK)(r:Result)(s':aS):Prop:=
 match r with
 |.ok (.ret u)=>CE outer P w H s Q u s'
 |.ok _=>False
 |.error e=>CX outer H s E e s'
structure e_(P:fV)(w:d9)(K:PySem.W.Frag)(mg:ak->Option ai)(base:dj)(CX:oh)(k:Nat)(f:aa)(fd:oR)(ps:List ak)(sp:Sp):Prop where
 len:∀vs H Q E,sp vs H Q E->J vs=J ps
 run:∀(A:jd)(outer:List i0)(s:aS)(H:Hp)(args:Args)(us:List ai)(vs:List V)(Q:VK)(E:XK),bS k A->sN P w K mg base A outer s H->zu s fd args (ps.zip us)->Vals vs us->sp vs H Q E ->
  uf (a_ P w) A (.call (.ref f) args) (CR CX outer P w H s Q E) s
theorem sN.make{P:fV}{w:d9}{K:PySem.W.Frag}{mg:ak->Option ai}{base:dj}{A:jd}{outer:List i0}{s:aS}{H:Hp}(e:sN P w K mg base A outer s H)(C:aa)(us:List ai)(Z:List (ak×ai)):
 sN P w K mg base (A.under (.builtin "type.__call__" ⟨.ref C::us,Z⟩)) outer s H:=⟨by first|exact e.frames|(simpa [UO,Code.envs,UD,pushEnvs]using e.frames),e.mod,e.bs,e.pN,e.mZ,e.qF,e.hok,e.bare⟩
section
variable{X:Cx}{pins:List (Addr×Obj)}{σ:St}{H:Hp}{s s':Shared}
theorem Inv.Sb(I:Inv X pins σ H s):sN X.prog X.w X.K X.mg X.base X.A X.stack s H:=
 ⟨I.ok.frames,I.ok.mod,I.bs,eL I.ok.pN I.sz,I.stack,I.MC,I.hok,I.bare⟩
theorem Inv.after(I:Inv X pins σ H s)(h:CE X.stack X.prog X.w H s Q u s'):EP X pins σ Q u s':=by obtain⟨v,H',os,bare,un,hok,r,q⟩:=h;obtain⟨Y,g,d,t,Z⟩:=s';obtain rfl:Z=s.os:=os;exact⟨v,H',I.call (h':=Y) (g':=g) (d':=d) (t':=t) (ch:=[]) un hok bare (λb z=>absurd z byB),r,q⟩
end
def Mn(sp:Sp)(iD:List V)(E:XK)(t:TA):TE:=λσ H Q=>t σ H λvs H1=>sp (vs++iD) H1 Q E
inductive Cq(C:aa)(m:ak)(H:Hp)(k:Prop):V->Prop
 |mk{a dx:aa}{fs:List (ak×V)}(_:H a=O (.ins C dx fs))(_:fs.lookup m=U)(_:k):Cq C m H k (.ref a)
theorem Cq.ex(h:Cq C m H k x):∃a dx fs,x=.ref a/\H a=O (.ins C dx fs)/\fs.lookup m=U/\k:=by
 cases h with
 |mk T W Z=>exact⟨_,_,_,Y,T,W,Z⟩
def Mj(C:aa)(m:ak)(sp:Sp)(iD:List V)(E:XK)(ta:TE)(t:TA):TE:=λσ H Q=>ta σ H λx H1=>Cq C m H1 (t σ H1 λvs H2=>sp (x::(vs++iD)) H2 Q E) x
def Ml(C:aa)(sp:Sp)(iD:List V)(E:XK)(t:TA):TE:=λσ H Q=>t σ H λvs H1=>∀x dx,H1 x=U->H1 dx=U->dx≠x ->
 sp (.ref x::(vs++iD)) (upd (upd H1 dx (.own x)) x (.ins C dx [])) (λv H2=>v=.az/\Q (.ref x) H2) E
def Binds(K:PySem.W.Frag)(fd:oR)(ps:List ak)(ds:List ai):Prop:=
 ∀(s:aS)(us:List ai),K.In s.heap->J (us++ds)=J ps->zu s fd ⟨us,[]⟩ (ps.zip (us++ds))
theorem Binds.all{K:PySem.W.Frag}{fd:oR}{ps:List ak}(h:∀us:List ai,J us=J ps->S7 fd ⟨us,[]⟩=pure (ps.zip us)):Binds K fd ps []:=λs us _ hl=>by rw[nq]at hl ⊢;exact .of_eq (h us hl)
def Passes(CX:oh)(X:Cx)(E:XK):Prop:=∀(pins:List (aa×cK))(σ:St)(H:Hp)(s:aS)(e:ai)(s':aS),Inv X pins σ H s->CX X.stack H s E e s'->X.xe e s'
section
variable{X:Cx}{CX:oh}{k:Nat}{f C:Addr}{fd:FuncData}{ps:List Str}{sp:Sp}{iD:List V}{ds:List Value}{E:XK}{x m:Str}{p pos apos:Pos}{e o:Expr}{es:List Expr}{ta:TE}{t:TA}
theorem Am(F:e_ X.prog X.w X.K X.mg X.base CX k f fd ps sp)(W:bS k X.A)(hb:Binds X.K fd ps ds)(hd:Vals iD ds)(hx:Passes CX X E)
 (I:Inv X pins σ H s) (r:Vals vs us) (h:sp (vs++iD) H Q E):aP (a_ X.prog X.w) X.A (mz (.ref f) us) (EP X pins σ Q) X.xe s:=by
 have Y:Vals (vs++iD) (us++ds):=r.append hd;have hl:(us++ds).length=ps.length:=by rw[<-Y.length];exact F.len _ _ _ _ h
 refine wpAny_call (BQ (F.run X.A X.stack s H ⟨us,[]⟩ (us++ds) (vs++iD) Q E W I.Sb (hb s us I.jX hl) Y h) λr s' Z=>?_);cases r with
 |error e=>exact hx pins σ H s e s' I Z
 |ok U=>
  cases U with
  |ret u=>exact I.after Z
  |next=>exact lC Z
  |brk=>exact lC Z
  |cont=>exact lC Z
theorem mW(F:e_ X.prog X.w X.K X.mg X.base CX k f fd ps sp)(hr:bS k X.A)(hg:Gl X x)(hm:X.mg x=O (.ref f))(hk:PySem.W.keepIn X.K (.ref f)=true)(hb:Binds X.K fd ps ds)(hd:Vals iD ds)(hx:Passes CX X E)
 (ha:PA X (e::es) t) (hdb:(x==("__debug__":ak))=false:=by decide) (he:eS (e::es) X.env=(false,di e X.env)::eS es X.env:=by rfl) (hpl:(mC pos (eS es X.env)).any (·.1)=false:=by rfl) :
 PE X (.Call (.Name x p) (e::es) [] pos) (Mn sp iD E t):=by
 intro pins s σ H Q I h;refine zF (Bf I hg hm ?_ hdb);refine PySem.W.callWith_K (h₀:=X.base) I.ok.mod.vN hk (br (ha pos pins s σ H _ I h) λus s1 ⟨vs,H1,I1,r,q⟩=>⟨I1.jX,?_⟩) he hpl;exact Am F hr hb hd hx I1 r q
theorem bX(he:PE X o ta)(c:oU X.K C)(hm:Meth X.K C m f)(F:e_ X.prog X.w X.K X.mg X.base CX k f fd ps sp)(hr:bS k X.A)(hb:Binds X.K fd ps ds)(hd:Vals iD ds)(hx:Passes CX X E)(ha:PA X (e::es) t)
 (hst:starEach (e::es) X.env=(false,eval e X.env)::starEach es X.env:=by rfl) (hpl:(backTo pos (starEach es X.env)).any (·.1)=false:=by rfl)
 (ht:eval (.Call (.Attribute o m apos) (e::es) [] pos) X.env=(do
  let ov <-eval o X.env
  standAt apos.atName
  let (f,first) <-holding [ov] (getMethod ov m pl)
  callWith pos f first (backTo pos (starEach (e::es) X.env)) (backToKw pos (keywordEach [] X.env))):=by rfl) :
 PE X (.Call (.Attribute o m apos) (e::es) [] pos) (Mj C m sp iD E ta t):=by
 intro pins s σ H Q I h;refine PySem.W.methodCall_KW (pl:=pl) (br (he pins s σ H _ I h) λu s1 ⟨x,H1,I1,rx,GZ⟩=>?_) ht;obtain⟨a,dx,fs,ex,ea,l,q⟩:=GZ.ex;subst ex;obtain rfl:u=dG a:=rx;refine RB I1 ea c hm l ?_;refine PySem.W.callWith_K (first:=[.ref a]) (h₀:=X.base) I.ok.mod.vN hm.kp (br (ha pos pins s1 σ H1 _ I1 q) λus s2 ⟨vs,H2,I2,r,q2⟩=>⟨I2.jX,?_⟩) hst hpl;exact Am (us:=.ref a::us) (vs:=.ref a::vs) F hr hb hd hx I2 (.cons Y r) q2
theorem mU(he:PE X o ta)(c:oU X.K C)(hm:Meth X.K C m f)(F:e_ X.prog X.w X.K X.mg X.base CX k f fd ps sp)(hr:bS k X.A)(hb:Binds X.K fd ps ds)(hd:Vals iD ds)(hx:Passes CX X E)
 (ht:eval (.Call (.Attribute o m apos) [] [] pos) X.env=(do
  let ov <-eval o X.env
  standAt apos.atName
  let (f,first) <-holding [ov] (getMethod ov m pl)
  callWith pos f first (backTo pos (starEach [] X.env)) (backToKw pos (keywordEach [] X.env))):=by rfl) :
 PE X (.Call (.Attribute o m apos) [] [] pos) (Mj C m sp iD E ta DL):=by
 intro pins s σ H Q I h;refine PySem.W.methodCall_KW (pl:=pl) (br (he pins s σ H _ I h) λu s1 ⟨x,H1,I1,rx,GZ⟩=>?_) ht;obtain⟨a,dx,fs,ex,ea,l,q⟩:=GZ.ex;subst ex;obtain rfl:u=dG a:=rx;refine RB I1 ea c hm l ?_;exact PySem.W.callWith_K0 (first:=[.ref a]) I1.jX hm.kp (Am (us:=[.ref a]) (vs:=[.ref a]) F hr hb hd hx I1 (.cons Y .nil) q)
structure Mk(K:PySem.W.Frag)(C f:aa):Prop where
 makes:PySem.W.makesIn K C=true
 init:PySem.W.findIn K (.ref C) "__init__"=O (O (.ref f))
 fn:PySem.W.isFn K (.ref f)=true
 kp:PySem.W.keepIn K (.ref C)=true
theorem Ou(M:Mk X.K C f)(F:e_ X.prog X.w X.K X.mg X.base CX k f fd ps sp)(P:bS (k+1) X.A)(hb:Binds X.K fd ps ds)(hd:Vals iD ds)
 (hx:Passes CX X E) (I:Inv X pins σ H s) (r:Vals vs us)
 (h:∀x dx,H x=U->H dx=U->dx≠x->sp (.ref x::(vs++iD)) (upd (upd H dx (.own x)) x (.ins C dx [])) (λv H2=>v=.az/\Q (.ref x) H2) E) :
 aP (a_ X.prog X.w) X.A (mz (.ref C) us) (EP X pins σ Q) X.xe s:=by
 have S:=h (s.heap.objs.size+1) s.heap.objs.size (I.hok.fresh (Nat.le_succ _)) (I.hok.fresh (aU _)) (iP (JP _));have W:=Inv.made (C:=C) I;have T:Vals (V.ref (s.heap.objs.size+1)::(vs++iD)) (dG (s.heap.objs.size+1)::(us++ds)):=.cons Y (r.append hd);have hl:(dG (s.heap.objs.size+1)::us++ds).length=ps.length:=by have e:=T.length;rw[F.len _ _ _ _ S]at e;exact e.symm
 refine wpAny_call (Z7 (f:=f) I.jX M.makes M.init (vW.mp M.fn) (BQ (F.run _ X.stack _ _ ⟨dG (s.heap.objs.size+1)::us,[]⟩ (dG (s.heap.objs.size+1)::(us++ds)) _ _ E (P.make C us [])
  (W.Sb.make C us []) (hb _ (dG (s.heap.objs.size+1)::us) W.jX hl) T S) λr s' Z=>?_))
 cases r with
 |error e=>exact hx pins σ _ _ e s' W Z
 |ok O=>
  cases O with
  |ret u=>obtain⟨v,H',L,rv,N,R⟩:=W.after Z;subst N;exact⟨rv,⟨V.ref (s.heap.objs.size+1),H',L,Y,R⟩⟩
  |next=>exact lC Z
  |brk=>exact lC Z
  |cont=>exact lC Z
theorem vf(M:Mk X.K C f)(F:e_ X.prog X.w X.K X.mg X.base CX k f fd ps sp)(hr:bS (k+1) X.A)(hg:Gl X x)(hm:X.mg x=O (.ref C))(hb:Binds X.K fd ps ds)(hd:Vals iD ds)(hx:Passes CX X E)
 (ha:PA X (e::es) t) (hdb:(x==("__debug__":ak))=false:=by decide) (he:eS (e::es) X.env=(false,di e X.env)::eS es X.env:=by rfl) (hpl:(mC pos (eS es X.env)).any (·.1)=false:=by rfl) :
 PE X (.Call (.Name x p) (e::es) [] pos) (Ml C sp iD E t):=by
 intro pins s σ H Q I h;refine zF (Bf I hg hm ?_ hdb);refine PySem.W.callWith_K (h₀:=X.base) I.ok.mod.vN M.kp (br (ha pos pins s σ H _ I h) λus s1 ⟨vs,H1,I1,r,q⟩=>⟨I1.jX,?_⟩) he hpl;exact Ou M F hr hb hd hx I1 r q
theorem Y6(M:Mk X.K C f)(F:e_ X.prog X.w X.K X.mg X.base CX k f fd ps sp)(Y:bS (k+1) X.A)(T:Gl X x)(U:X.mg x=O (.ref C))(hb:Binds X.K fd ps ds)(hd:Vals iD ds)(hx:Passes CX X E)
 (Z:(x==("__debug__":ak))=false:=by decide):PE X (.Call (.Name x p) [] [] pos) (Ml C sp iD E DL):=by
 intro pins s σ H Q I h;refine zF (Bf I T U ?_ Z);exact PySem.W.callWith_K0 I.jX M.kp (Ou (us:=[]) M F Y hb hd hx I .nil h)
end
structure ze(N P:List ak)(sc:lg):Prop where
 kind:sc.kind=.function
 co:sc.isCoroutine=false
 gen:sc.isGenerator=false
 nd:N.Nodup
 pre:N.take (J P)=P
 par:∀x∈P,sc.names.lookup x=O .local\/sc.names.lookup x=O .cell
 Zr:∀y∈sc.names,y.2≠.free
theorem S3{kindOf:ak->Option lR}{x:ak}:∀{binds:List (ak×ai)}{m:ak->Option ai},(∀v,(x,v)∉binds)->uh kindOf binds m x=m x
 |[],_,_=>rfl
 |(n,v)::r,m,h=>by
  unfold uh;rw[S3 λw Z=>h w (dR _ Z)];split
  .have:x≠n:=by rintro rfl;exact h v mL
   simp[this]
  .rfl
theorem S5{kindOf:ak->Option lR}{x:ak}:∀{binds:List (ak×ai)}{m:ak->Option ai},(∀v,(x,v)∉binds)->um kindOf binds m x=m x
 |[],_,_=>rfl
 |(n,v)::r,m,h=>by
  unfold um;rw[S5 λw Z=>h w (dR _ Z)];split
  .rfl
  .have:x≠n:=by rintro rfl;exact h v mL
   simp[this]
theorem S4{kindOf:ak->Option lR}{x:ak}{v:ai}:∀{P:List ak}{vs:List ai}{i:Nat}{m:ak->Option ai},P.Nodup->P[i]?=O x->vs[i]?=O v->kindOf x=O .local ->
 uh kindOf (P.zip vs) m x=O v
 |[],_,_,_,_,h,_,_=>by simp at h
 |_::_,[],_,_,_,_,h,_=>by simp at h
 |p::P,w::vs,0,m,nd,Y,Z,W=>by simp at Y Z;subst Y;subst Z;show uh kindOf ((p,w)::P.zip vs) m p=_;unfold uh;rw[S3 λv hv=>(jL.mp nd).1 (Ua hv).1,aD W];simp
 |p::P,w::vs,i+1,m,nd,Y,Z,W=>by show uh kindOf ((p,w)::P.zip vs) m x=_;unfold uh;exact S4 (i:=i) (jL.mp nd).2 (by simpa using Y) (by simpa using Z) W
theorem S6{kindOf:ak->Option lR}{x:ak}{v:ai}:∀{P:List ak}{vs:List ai}{i:Nat}{m:ak->Option ai},P.Nodup->P[i]?=O x->vs[i]?=O v->kindOf x≠O .local ->
 um kindOf (P.zip vs) m x=O v
 |[],_,_,_,_,h,_,_=>by simp at h
 |_::_,[],_,_,_,_,h,_=>by simp at h
 |p::P,w::vs,0,m,nd,Y,Z,W=>by simp at Y Z;subst Y;subst Z;show um kindOf ((p,w)::P.zip vs) m p=_;unfold um;rw[S5 λv hv=>(jL.mp nd).1 (Ua hv).1,ao W];simp
 |p::P,w::vs,i+1,m,nd,Y,Z,W=>by show um kindOf ((p,w)::P.zip vs) m x=_;unfold um;exact S6 (i:=i) (jL.mp nd).2 (by simpa using Y) (by simpa using Z) W
def start(N:List ak)(vs:List V):St:=vs.map O++cu (J N-J vs) U
def rX(CX:oh)(P:fV)(w:d9)(K:PySem.W.Frag)(mg:ak->Option ai)(base:dj)(N:List ak)(qual:ak)(scope:lg)(f:aa)(cd:ai)(A:jd)(outer:List i0)(s:aS)(H:Hp)(E:XK):Cx where
 prog:=P
 w:=w
 K:=K
 mg:=mg
 base:=base
 A:=A.deeper (qH qual scope s.heap.objs.size f cd)
 N:=N
 jl:=s
 uE:=H
 env:=qH qual scope s.heap.objs.size f cd
 outer:=outer
 stack:=qH qual scope s.heap.objs.size f cd::outer
 ex:=[]
 calm:=true
 fn:=λ_=>true
 pn:=[]
 xe:=λe s'=>aP (a_ P w) (A.deeper (qH qual scope s.heap.objs.size f cd)) (leaving (qH qual scope s.heap.objs.size f cd) e) (λ_ s''=>CX outer H s E e s'') (λe' s''=>CX outer H s E e' s'') s'
theorem SM{sc:lg}{n:Nat}{x:ak}(h:sc.names.lookup x=O .cell):∃c,(ju n sc.names []).lookup x=O c:=by have q:=PySem.W.cellsFrom_some sc.names n [] (.inl h);exact we.mp q
theorem aa8{CX:oh}{P:fV}{w:d9}{K:PySem.W.Frag}{mg:ak->Option ai}{base:dj}{N ps:List ak}{qual:ak}{scope:lg}{f:aa}{G:ai}{A:jd}{outer:List i0}{s s1:aS}{H:Hp}{E:XK}{us:List ai}{vs:List V}
 (S:ze N ps scope) (hd:A.handled=U) (T:sN P w K mg base A outer s H) (hl:J vs=J ps) (r:Vals vs us)
 (x:InCallC s s.heap.objs.size (uh (qH qual scope s.heap.objs.size f G).kindOf (ps.zip us) λ_=>U) (ju (s.heap.objs.size+1) scope.names []) (um (qH qual scope s.heap.objs.size f G).kindOf (ps.zip us) λ_=>U) s1) :
 Inv (rX CX P w K mg base N qual scope f G A outer s H E) [] (start N vs) H s1:=by
 have C:J ps<=J N:=by have:=fq yQ S.pre;rw[lu]at this;lia
 obtain⟨I,B,rfl,D⟩:=x.done;have R:∀b:aa,b∉(rX CX P w K mg base N qual scope f G A outer s H E).ex:=λb z=>absurd (show b∈([]:List aa) from z) byB;refine⟨⟨T.mod,S.kind,Y,Y,aU _,λy z c I Z=>?_,λy Q=>?_,λy c _ h=>?_,λ_=>hd,Around.frames_deeper T.frames,.inr ⟨Y,Y⟩,λb z=>absurd z (R b),T.bs,T.pN,λb _ _=>R b,λb z=>absurd z (R b),T.mZ,T.qF⟩,
  Y,T.bare,Un.kept D,⟨_,x.toInCall.ns,λi y v I Z o=>?_⟩,λy c h=>⟨_,x.cell y c h⟩,T.hok.fresh (aU _),λy c h=>?_,λp L=>absurd (show p∈([]:List (aa×cK)) from L) byB,T.hok.kept D,?_⟩
 .exact name_of_addr x.apart (PySem.mem_of_lookup I) (PySem.mem_of_lookup Z)
 .have Q:scope.names.lookup y=O .cell\/scope.names.lookup y=O .free:=Q;rcases Q with Q|Q
  .exact SM Q
  .exact absurd rfl (S.Zr _ (PySem.mem_of_lookup Q))
 .exact JS (x.above y c (PySem.mem_of_lookup h))
 .have hi:i<J vs:=by
   unfold start at Z;by_cases hi:i<J vs
   .exact hi
   .rw[kq (by simpa using hi)]at Z;rw[yR]at Z;split at Z<;>cases Z
  have ha:vs[i]?=O v:=by
   unfold start at Z;rw[fJ (by simpa using hi),bM]at Z;cases e:vs[i]? with
   |none=>rw[e]at Z;cases Z
   |some a=>rw[e]at Z;cases Z;rfl
  obtain⟨u,F,rv⟩:=r.get ha;have L:ps[i]?=O y:=by rw[<-S.pre,ae4 byA];exact I
  have M:ps.Nodup:=by rw[<-S.pre];exact S.nd.sublist (aeR _ _)
  refine⟨u,rv,?_⟩;rcases S.par y (dm L) with k|k
  .exact .inl ⟨k,S4 M L F k⟩
  .obtain⟨c,e⟩:=SM (n:=s.heap.objs.size+1) k;refine .inr ⟨.inl k,c,e,?_⟩;have q:=x.cell y c e;rw[S6 M L F (by show scope.names.lookup y≠_;rw[k];decide)]at q;exact q
 .exact T.hok.fresh (JS (x.above y c (PySem.mem_of_lookup h)))
 .unfold start;show _=J N;rw[fO,aM,Ud];lia
theorem ab3{CX:oh}{P:fV}{w:d9}{K:PySem.W.Frag}{mg:ak->Option ai}{base:dj}{k:Nat}{f:aa}{name qual:ak}{Z:Arguments}{U:List mF}{scope:lg}{p kV doc pm cdv ct oc:ai}{an od:Option aa}
 {osl:Array (Option ai)} {N ps:List ak} {sp:Sp} (lk:K.lookup f=O ⟨oc,od,.func (PySem.W.fnOf name qual Z U scope p kV doc pm an cdv ct),osl⟩) (z:PySem.W.codeIn K cdv qual=true) (S:ze N ps scope)
 (len:∀vs H Q E,sp vs H Q E->J vs=J ps)
 (R:∀(A:jd)(outer:List i0)(s:aS)(H:Hp)(vs:List V)(Q:VK)(E:XK),bS k (A.deeper (qH qual scope s.heap.objs.size f cdv))->sp vs H Q E ->
  ∃t,mJ (rX CX P w K mg base N qual scope f cdv A outer s H E) U t/\t {nx:=λ_ H'=>Q .az H',rt:=Q } (start N vs) H) :
 e_ P w K mg base CX (k+1) f (PySem.W.fnOf name qual Z U scope p kV doc pm an cdv ct) ps sp:=by
 refine⟨len,λA outer s H args us vs Q E C F hb r L=>?_⟩;have hl:=len _ _ _ _ L;have m:K.In s.heap:=F.mod.vN.keeps λb o e=>(F.bs b o e).1;have D:s.heap.NoLimit:=F.mod.nolimit.keeps λb o e=>(F.bs b o e).1;have T:∀y∈ps.zip us,scope.names.lookup y.1=O .local\/(scope.names.lookup y.1=O .cell/\((ju (s.heap.objs.size+1) scope.names []).lookup y.1).isSome=true):=fun⟨n,v⟩ hy=>by
  rcases S.par n (Ua hy).1 with q|q
  .exact .inl q
  .exact .inr ⟨q,PySem.W.cellsFrom_some _ _ _ (.inl q)⟩
 refine codeAny_call_function C.depth (m _ _ lk) Y S.co S.gen Y (PySem.W.codeRec_of m z) (hb _ _ _ _ ?_);refine wpAny_newFunctionEnv_cells S.kind T λenv j s1 x=>?_;subst j;refine⟨D.keeps x.toInCall.keep,codeAny_func ?_⟩;obtain⟨t,ht,l⟩:=R A outer s H vs Q E (C.deeper _) L;have I:Inv (rX CX P w K mg base N qual scope f cdv A outer s H E) [] (start N vs) H s1:=aa8 S C.hd F hl r x;refine nA (ht [] s1 (start N vs) H _ I l) (λi s' M=>?_) λe s' M=>M;have G:∀{σ':St}{H':Hp}{v:V}{u:ai},Inv (rX CX P w K mg base N qual scope f cdv A outer s H E) [] σ' H' s'->RelV v u->Q v H'->CE outer P w H s Q u s':=
  λ{σ' H' v u} B rv q=>⟨v,H',B.os,B.bare,B.base,B.hok,rv,q⟩
 cases i with
 |ret u=>obtain⟨v,σ',H',B,rv,q⟩:=M;exact G B rv q
 |next=>obtain⟨σ',H',B,q⟩:=M;exact G (v:=V.az) (u:=pP) B Y q
 |brk=>obtain⟨_,_,_,q⟩:=M;exact lC q
 |cont=>obtain⟨_,_,_,q⟩:=M;exact lC q
end L2
namespace L2
open PySem PySem.Spec PyProof.Rows
section
variable{X:Cx}{x:Str}{p pos:Pos}{e:Expr}{es:List Expr}{t:TA}{id T:String}{r:List V->Hp->VK->Prop}
def Mp(r:List V->Hp->VK->Prop)(t:TA):TE:=λσ H Q=>t σ H λvs H1=>r vs H1 Q
theorem fy(L:n_ X (.builtin id) r)(N:Gl X x)(P:X.mg x=U)(hv:yp x=O (.builtin id))(ha:PA X (e::es) t)(R:x≠"__name__":=by decide)(Y:(x==("__debug__":ak))=false:=by decide)
 (M:eS (e::es) X.env=(false,di e X.env)::eS es X.env:=by rfl) (Z:(mC pos (eS es X.env)).any (·.1)=false:=by rfl):PE X (.Call (.Name x p) (e::es) [] pos) (Mp r t):=by
 intro pins s σ H Q I h;refine zF (tX I N P hv ?_ R Y);exact ag6 (br (ha pos pins s σ H _ I h) λus s1 ⟨vs,H1,K,W,S⟩=>L pins s1 σ H1 vs us Q K W S) M Z
theorem xC(L:n_ X (.type T) r)(N:Gl X x)(P:X.mg x=U)(hv:yp x=O (.type T))(ha:PA X (e::es) t)(R:x≠"__name__":=by decide)(Y:(x==("__debug__":ak))=false:=by decide)
 (M:eS (e::es) X.env=(false,di e X.env)::eS es X.env:=by rfl) (Z:(mC pos (eS es X.env)).any (·.1)=false:=by rfl):PE X (.Call (.Name x p) (e::es) [] pos) (Mp r t):=by
 intro pins s σ H Q I h;refine zF (tX I N P hv ?_ R Y);exact yC (br (ha pos pins s σ H _ I h) λus s1 ⟨vs,H1,K,W,S⟩=>L pins s1 σ H1 vs us Q K W S) M Z
end
end L2
namespace HT
open PySem PyProof.Rows
section
variable{prog:Program}{w:World}{A:Around}{E:Value->Shared->Prop}{s:Shared}
theorem adM(ht:qQ s.heap t vs.toArray)(hb:qQ s.heap b ws.toArray)(hv:vs≠[])
 (H:ws=[]->Q (.ref t) s) (I:ws≠[]->Q (.ref s.heap.objs.size) {s with heap:=s.heap.push {cls:=.type "tuple",data:=.seq (vs++ws).toArray } })
 (P:J vs+J ws<=bf):aP (a_ prog w) A (pO .Add (.ref t) (.ref b)) Q E s:=by
 obtain⟨⟨O,L,data,sl⟩,R,M,n,hd⟩:=id ht;obtain⟨⟨K,T,data2,Y⟩,Z,U,N,W⟩:=id hb;simp only at M hd U W;subst M hd U W;have e:vs.toArray++ws.toArray=(vs++ws).toArray:=by simp
 by_cases S:ws=[]
 .exact SH ⟨_,R,rfl⟩ ⟨_,Z,rfl⟩ Zy Yi PySem.F.slot_tuple_add PySem.F.entry_tuple_add (PySem.F.args_tuple_add_2 _ _)
   (tuple_addW1 t b vs.toArray ws.toArray n N L T sl Y (by simpa using hv) (by simp[S])) ⟨R,Z,H S⟩
 .refine SH ⟨_,R,rfl⟩ ⟨_,Z,rfl⟩ Zy Yi PySem.F.slot_tuple_add PySem.F.entry_tuple_add (PySem.F.args_tuple_add_2 _ _)
   (tuple_addW2 t b vs.toArray ws.toArray n N L T sl Y (by simpa using hv) (by simpa using S) (by rw[eX,eX];exact P)) ⟨R,Z,?_⟩
  rw[e];exact I S
def bV(n d:Nat):Option Int->Nat
 |none=>d
 |some v=>if v<0 then(v+(n:Int)).toNat else min v.toNat n
theorem Yn(n d:Nat)(hd:d<=n)(o:Option Int):bV n d o<=n:=by
 cases o with
 |none=>exact hd
 |some v=>
  show(if v<0 then(v+(n:Int)).toNat else min v.toNat n)<=n;by_cases hv:v<0
  .rw[aD hv];lia
  .rw[ao hv];exact Nat.min_le_right _ _
theorem SK(v:Int)(n d:Nat):(if v<0 then max (v+(n:Int)) 0 else min v (n:Int))=((bV n d (O v):Nat):Int):=by
 show(if v<0 then max (v+(n:Int)) 0 else min v (n:Int))=(((if v<0 then(v+(n:Int)).toNat else min v.toNat n):Nat):Int);by_cases hv:v<0
 .simp only[aD hv];lia
 .simp only[ao hv];lia
theorem aec(lo hi:Option Int)(n:Nat):cN.Slice.sliceAdjust lo hi 1 (n:Int)=(((bV n 0 lo:Nat):Int),((bV n n hi:Nat):Int)):=by
 have Z:¬((1:Int)<0):=by lia
 unfold cN.Slice.sliceAdjust;simp only[Z,qB];refine JG ?_ ?_
 .cases lo with
  |none=>rfl
  |some v=>exact SK v n 0
 .cases hi with
  |none=>rfl
  |some v=>exact SK v n n
theorem YQ(i j:Nat):cN.Slice.slicePlaces (i:Int) (j:Int) 1=j-i:=by
 unfold cN.Slice.slicePlaces;have Z:(1:Int) > 0:=by lia
 simp only[Z,pI,Int.ediv_one];split<;>lia
theorem M4(p:qR v o)(h:Q o s):aP (a_ prog w) A (cN.Slice.slicePartIndex v) Q E s:=by
 cases p with
 |none=>exact X6 h
 |int i t=>exact slicePart_int h
theorem M6{sl:aa}{vl U:ai}{lo hi:Option Int}{n:Nat}{Q:Int×Int×Nat->aS->Prop}(S:s.heap.IsSliceOf sl vl U .none)(pl:qR vl lo)(T:qR U hi)
 (h:Q (((bV n 0 lo:Nat):Int),1,bV n n hi-bV n 0 lo) s):aP (a_ prog w) A (cN.Slice.sliceApplied (.ref sl) (pure (n:Int))) Q E s:=by
 obtain⟨os,Z,R,W⟩:=id S;unfold cN.Slice.sliceApplied cN.Slice.sliceFields;refine aL (aL (Ln Z W (x:=vl) Y (aL (Ln Z W (x:=U) Y (aL (Ln Z W (x:=.none) Y (bC ?_)))))));refine aL (X6 ?_);show aP _ _ (if((1:Int)==0)=true then _ else _) _ _ s;rw[ao byD];refine aL (M4 pl (aL (M4 T (aL (bC ?_)))));show aP _ _ (match cN.Slice.sliceAdjust lo hi 1 (n:Int) with|(lo,hi)=>pure (lo,(1:Int),cN.Slice.slicePlaces lo hi 1)) _ _ s
 rw[aec lo hi n];show aP _ _ (pure (((bV n 0 lo:Nat):Int),(1:Int),cN.Slice.slicePlaces ((bV n 0 lo:Nat):Int) ((bV n n hi:Nat):Int) 1)) _ _ s;rw[YQ];exact bC h
theorem YU(xs:Array ai)(i k:Nat):((bA k).filterMap fun(m:Nat)=>xs[((i:Int)+(m:Int)*1).toNat]?).toArray=((xs.toList.drop i).take k).toArray:=by
 have e:(fun(m:Nat)=>xs[((i:Int)+(m:Int)*1).toNat]?)=λm=>xs[i+m]?:=by
  funext m;have:((i:Int)+(m:Int)*1).toNat=i+m:=by lia
  rw[this]
 rw[e];have:=pick_run xs i k;rw[Uo]at this;have e2:((λx=>xs[x]?) ∘ λx=>i+x)=λm=>xs[i+m]?:=rfl;rw[e2]at this;rw[this]
theorem abQ{t sl:aa}{items:Array ai}{vl R:ai}{lo hi:Option Int}{Q:ai->aS->Prop}(ht:qQ s.heap t items)(P:s.heap.IsSliceOf sl vl R .none)(pl:qR vl lo)(O:qR R hi)
 (N:¬(bV items.size 0 lo=0/\bV items.size items.size hi=items.size))
 (h:Q (.ref s.heap.objs.size) {s with heap:=s.heap.push {cls:=.type "tuple",data:=.seq ((items.toList.drop (bV items.size 0 lo)).take (bV items.size items.size hi-bV items.size 0 lo)).toArray } })
 (M:items.size<=bf):aP (a_ prog w) A (qE (.ref t) (.ref sl)) Q E s:=by
 have Z:sizeOk (.seq ((items.toList.drop (bV items.size 0 lo)).take (bV items.size items.size hi-bV items.size 0 lo)).toArray):=by show((items.toList.drop (bV items.size 0 lo)).take (bV items.size items.size hi-bV items.size 0 lo)).toArray.size<=bf;rw[eX,lu,nj,Lh];omega
 have I:bV items.size items.size hi<=items.size:=Yn _ _ (aU _) hi;obtain⟨os,W,T,L⟩:=id P;have S:s.TypeIs (.ref sl) "slice":=⟨os,W,T⟩;unfold qE
 try with_reducible refine qc ?_
 first|refine aL (bC ?_)|skip
 refine aL (UQ ht.typeIs byD ?_);refine aL (zE (name:=Jx "__getitem__") ht.typeIs Ce
  (sQ Ce ht.typeIs adi ?_ (ad4 _ _)))
 show aP _ _ (cN.Tuple.tupleItemsOf (.ref t) >>= _) _ _ s;refine aL (VM ht ?_);refine aL (zy S ?_);rw[aD byD];refine aL (M6 P pl O ?_);have U:¬((((bV items.size 0 lo:Nat):Int)==0&&(1:Int)==1&&(bV items.size items.size hi-bV items.size 0 lo)==items.size)=true):=by intro q;rw[eO,eO]at q;have J:((bV items.size 0 lo:Nat):Int)=0:=eq_of_beq q.1.1;have K:bV items.size items.size hi-bV items.size 0 lo=items.size:=eq_of_beq q.2;exact N ⟨by omega,by omega⟩
 show aP _ _ (if(((bV items.size 0 lo:Nat):Int)==0&&(1:Int)==1&&(bV items.size items.size hi-bV items.size 0 lo)==items.size)=true then _ else _) _ _ s;rw[ao U,YU]
 first
  |exact aL (m:=cN.Tuple.tupleExact _) (sP (bC ⟨_,Y,bC h⟩) Z)
  |exact aL (m:=cN.Tuple.tupleExact _) (sP (aL (bC (bC ⟨_,Y,bC h⟩))) Z)
  |exact aL (aL (m:=cN.Tuple.tupleExact _) (sP (bC (bC ⟨_,Y,bC h⟩)) Z))
  |exact aL (aL (m:=cN.Tuple.tupleExact _) (sP (bC ⟨_,Y,bC h⟩) Z))
end
end HT
namespace L2
open PySem PySem.Spec PyProof.Rows
abbrev TO:=St->Hp->(Option Int->Hp->Prop)->Prop
def PO(X:Cx)(e:Option ff)(t:TO):Prop:=
 ∀(pins:List (aa×cK))(s:aS)(σ:St)(H:Hp)(Q:Option Int->Hp->Prop),Inv X pins σ H s->t σ H Q ->
  aP (a_ X.prog X.w) X.A (evalPart e X.env) (λu s'=>∃o H',Inv X pins σ H' s'/\qR u o/\Q o H') X.xe s
def Wn:TO:=λ_ H Q=>Q U H
inductive TJ(x:V)(H:Hp)(Q:Option Int->Hp->Prop):Prop
 |mk(i:Int)(_:x=.int i)(_:Q (O i) H):TJ x H Q
def Wj(t:TE):TO:=λσ H Q=>t σ H λx H1=>TJ x H1 Q
section
variable{X:Cx}{e:Expr}{te:TE}{lo hi:Option Expr}{tl th:TO}{pos p2:Pos}
theorem ve:PO X U Wn:=by intro pins s σ H Q I h;rw[R9];exact bC ⟨U,H,I,.none,h⟩
theorem lZ(h:PE X e te):PO X (O e) (Wj te):=by intro pins s σ H Q I hw;rw[evalPart_some];refine br (h pins s σ H _ I hw) λu s1 ⟨x,H1,I1,r1,q1⟩=>?_;obtain⟨i,rfl,q⟩:=q1;obtain⟨t,rfl⟩:=r1;exact⟨O i,H1,I1,.int i t,q⟩
def Jy(X:Cx)(r:V->Option Int->Option Int->Hp->VK->Prop):Prop:=
 ∀(pins:List (aa×cK))(s:aS)(σ:St)(H:Hp)(x:V)(v vl vu:ai)(lo hi:Option Int)(sl:aa)(Q:VK),Inv X pins σ H s->RelV x v->s.heap.IsSliceOf sl vl vu .none->qR vl lo->qR vu hi->r x lo hi H Q ->
  ∃T id,LS (.type T) "__getitem__"=pure (O (.builtin id))/\s.TypeIs v T/\aP (a_ X.prog X.w) X.A (qE v (.ref sl)) (EP X pins σ Q) X.xe s
def Wh(r:V->Option Int->Option Int->Hp->VK->Prop)(te:TE)(tl th:TO):TE:=λσ H Q=>te σ H λx H1=>tl σ H1 λl H2=>th σ H2 λu H3=>r x l u H3 Q
theorem qu(hr:Jy X r)(he:PE X e te)(hl:PO X lo tl)(hu:PO X hi th):PE X (.Subscript e (.Slice lo hi U p2) pos) (Wh r te tl th):=by intro pins s σ H Q I h;refine Jw (br (he pins s σ H _ I h) λv s1 ⟨x,H1,I1,r1,q1⟩=>?_);refine wpAny_Slice (br (hl pins s1 σ H1 _ I1 q1) λvl s2 ⟨l,H2,I2,pl,q2⟩=>br (hu pins s2 σ H2 _ I2 q2) λvu s3 ⟨u,H3,I3,pu,q3⟩=>?_);rw[R9];refine bC ?_;have I4:Inv X pins σ H3 {s3 with heap:=s3.heap.push {cls:=.type "slice",data:=.fields #[vl,vu,.none] } }:=I3.kept (t':=s3.toks) λb ob q=>fW _ q;obtain⟨T,id,hT,ht,hg⟩:=hr pins {s3 with heap:=s3.heap.push {cls:=.type "slice",data:=.fields #[vl,vu,.none] } } σ H3 x v vl vu l u s3.heap.objs.size Q I4 r1 (afv ..) pl pu q3;show aP (a_ X.prog X.w) X.A (DS e (.Slice lo hi U p2) v (.ref s3.heap.objs.size)) (EP X pins σ Q) X.xe {s3 with heap:=s3.heap.push {cls:=.type "slice",data:=.fields #[vl,vu,.none] } };exact tail_any (ops:=[.ref s3.heap.objs.size,v]) ht hT hg (by with_unfolding_all rfl)
def jG(xs:List V)(lo hi:Option Int):List V:=(xs.drop (HT.bV (J xs) 0 lo)).take (HT.bV (J xs) (J xs) hi-HT.bV (J xs) 0 lo)
theorem Sy(xs:List V)(lo hi:Option Int):J (jG xs lo hi)<=J xs:=by unfold jG;rw[lu,nj];lia
theorem Vals.Fb(r:Vals xs us):us=[]↔xs=[]:=by
 cases r with
 |nil=>simp
 |cons _ _=>simp
end
end L2
namespace L2
open PySem PySem.Spec PyProof.Rows
def oF(n:Nat)(i:Int):Option Nat:=if 0<=i then(if i<n then O i.toNat else U) else if -(n:Int)<=i then O (i+n).toNat else U
def j6{α:Type}(xs:List α)(i:Int):Option α:=(oF (J xs) i).bind λj=>xs[j]?
theorem Q2(h:oF n i=O j):seqIndex? i n=O j/\j<n/\-(n:Int)<=i/\i<n:=by
 unfold oF at h;by_cases Y:0<=i
 .rw[aD Y]at h;by_cases Z:i<n
  .rw[aD Z]at h;have e:i.toNat=j:=bH h;exact⟨by rw[Nm Y Z,e],byA,byA,Z⟩
  .rw[ao Z]at h;cases h
 .rw[ao Y]at h;by_cases Z:-(n:Int)<=i
  .rw[aD Z]at h;have e:(i+n).toNat=j:=bH h;exact⟨by rw[Np byA Z,e],byA,Z,byA⟩
  .rw[ao Z]at h;cases h
theorem Tc(h:j6 xs i=O v):∃j,seqIndex? i (J xs)=O j/\xs[j]?=O v/\j<J xs/\-(J xs:Int)<=i/\i<J xs:=by
 unfold j6 at h;cases e:oF (J xs) i with
 |none=>rw[e]at h;cases h
 |some j=>rw[e]at h;obtain⟨U,W,Y,Z⟩:=Q2 e;exact⟨j,U,h,W,Y,Z⟩
theorem bQ{Z:Type}{xs:List Z}{j:Nat}{v:Z}(h:xs[j]?=O v):j6 xs (j:Int)=O v:=by
 have Y:j<J xs:=(cV.mp h).1;have e:oF (J xs) (j:Int)=O j:=by unfold oF;rw[aD byA,aD byA];simp
 unfold j6;rw[e];exact h
theorem S_(xs:List α)(v:α):j6 (xs++[v]) (-1)=O v:=by
 have hl:J (xs++[v])=J xs+1:=by simp
 have e:oF (J (xs++[v])) (-1)=O (J xs):=by unfold oF;rw[hl,ao byD,aD byA];congr 1;lia
 unfold j6;rw[e];show(xs++[v])[J xs]?=O v;simp
def Tz(b:ff):Prop:=∀o i,DR b false o i=Pp [o,i] (qE o i)
def wD(X:Cx)(r:R2):Prop:=
 ∀(value slice:ff)(pins:List (aa×cK))(s:aS)(σ:St)(H:Hp)(x y:V)(v u:ai)(Q:VK),Inv X pins σ H s->RelV x v->RelV y u->r x y H Q ->
  DR slice false v u=Pp [v,u] (qE v u)->aP (a_ X.prog X.w) X.A (DS value slice v u) (EP X pins σ Q) X.xe s
def TZ(X:Cx)(id:String)(r:V->List V->Hp->VK->Prop):Prop:=
 ∀(pins:List (aa×cK))(s:aS)(σ:St)(H:Hp)(x:V)(xs:List V)(v:ai)(us:List ai)(Q:VK),Inv X pins σ H s->RelV x v->Vals xs us->r x xs H Q ->
  aP (a_ X.prog X.w) X.A (mz (.builtin id) (v::us)) (EP X pins σ Q) X.xe s
section
variable{X:Cx}{a b:Expr}{ta tb:TE}{pos:Pos}
theorem Y7(W:wD X r)(ha:PE X a ta)(hb:PE X b tb)(Y:Tz b):PE X (.Subscript a b pos) (qX r ta tb):=by intro pins s σ H Q I h;exact Jw (Jj ha hb I h λv u s2 x y H2 U rx Z q=>W a b pins s2 σ H2 x y v u Q U rx Z q (Y _ _))
inductive xy(K:PySem.W.Frag):V->V->Hp->VK->Prop
 |mk{p:aa}{i:Int}{H:Hp}{Q:VK}{xs:List V}{v:V}(_:aj K H p xs)(_:j6 xs i=O v)(_:Q v H):xy K (.ref p) (.int i) H Q
theorem xy.ex{K:PySem.W.Frag}{x y:V}{H:Hp}{Q:VK}(h:xy K x y H Q):∃p xs i v,x=.ref p/\y=.int i/\aj K H p xs/\j6 xs i=O v/\Q v H:=by
 cases h with
 |mk T U Z=>exact⟨_,_,_,_,Y,Y,T,U,Z⟩
inductive xx(K:PySem.W.Frag):V->V->Hp->VK->Prop
 |mk{p:aa}{i:Int}{H:Hp}{Q:VK}{xs:List V}{v:V}(_:bu K H p xs)(_:j6 xs i=O v)(_:Q v H):xx K (.ref p) (.int i) H Q
theorem xx.ex{K:PySem.W.Frag}{x y:V}{H:Hp}{Q:VK}(h:xx K x y H Q):∃p xs i v,x=.ref p/\y=.int i/\bu K H p xs/\j6 xs i=O v/\Q v H:=by
 cases h with
 |mk T U Z=>exact⟨_,_,_,_,Y,Y,T,U,Z⟩
theorem bI:wD X (xy X.K):=by
 intro W slice pins s σ H x y v u Q I rx N h R;obtain⟨p,xs,i,z,rfl,rfl,M,L,q⟩:=h.ex;cases rx;obtain⟨t,rfl⟩:=N;obtain⟨T,r,pl,E⟩:=I.list M;obtain⟨j,Y,F,C,G,J⟩:=Tc L;obtain⟨w,O,U⟩:=r.get F;have hl:=r.length;have D:=xV;have Z:EP X pins σ Q w s:=⟨z,H,I,U,q⟩;by_cases P:0<=i
 .have S:i.toNat=j:=by rw[Nm P J]at Y;exact bH Y
  exact item_listR pl.isList P byA (by rw[S];simpa using O) Z R
 .have S:(i+(T.toArray.size:Int)).toNat=j:=by rw[Np byA G]at Y;rw[eX,<-hl];exact bH Y
  exact WJ (x:=w) pl.isList.typeIs MX.lookup
   (wpAny_getItem_list_neg (Q:=λr s'=>r=w/\EP X pins σ Q r s') pl.isList byA (by rw[eX]<;>lia) byA (by rw[S];simpa using O) ⟨rfl,Z⟩) R
theorem cC:wD X (xx X.K):=by
 intro Z slice pins s σ H x y v u Q I rx U h S;obtain⟨p,xs,i,z,rfl,rfl,R,P,q⟩:=h.ex;cases rx;obtain⟨t,rfl⟩:=U;obtain⟨T,r,pl,L⟩:=I.tuple R;obtain⟨j,N,O,E,F,G⟩:=Tc P;obtain⟨w,M,Y⟩:=r.get O;have hl:=r.length;have J:=xV;have W:EP X pins σ Q w s:=⟨z,H,I,Y,q⟩;exact WJ (x:=w) pl.typeIs slot_tuple_getitem.lookup
  (getItem_tuple (j:=j) (Q:=λr s'=>r=w/\EP X pins σ Q r s') pl byA byA (by rw[eX,<-hl];exact N) (by simpa using M) ⟨rfl,W⟩) S
theorem Z5(Z:List ai)(n j:Nat)(u:ai):Ci (·.setIfInBounds j u) {cls:=.type "list",data:=.seq Z.toArray n }={cls:=.type "list",data:=.seq (Z.set j u).toArray n }:=by simp[Ci]
theorem Inv.lst(I:Inv X pins σ H s)(h:H p=O (.lst xs)):
 ∃(Z:List ai)(n:Nat),Vals xs Z/\s.heap.get? p=O {cls:=.type "list",data:=.seq Z.toArray n }/\J xs<=sizeLine:=by
 obtain⟨z,Z,n,r,e⟩:=I.hok p _ h;exact⟨Z,n,r,e,z⟩
theorem Inv.Z9{pins:List (aa×cK)}{σ:St}{H:Hp}{s:aS}{p:aa}{xs ys:List V}{Z its':List ai}{n W:Nat}{f:cK->cK}(I:Inv X pins σ H s)(h:H p=O (.lst xs))
 (S:s.heap.get? p=O {cls:=.type "list",data:=.seq Z.toArray n }) (U:f {cls:=.type "list",data:=.seq Z.toArray n }={cls:=.type "list",data:=.seq its'.toArray W }) (r:Vals ys its') (T:J ys<=bf) (t:Nat) :
 Inv X pins σ (upd H p (.lst ys)) {s with heap:=s.heap.update p f,toks:=t }:=by
 have e:(s.heap.update p f).get? p=O {cls:=.type "list",data:=.seq its'.toArray W }:=by rw[Uy f S (by rw[U]<;>rfl),U]
 refine I.write (x:=p) (e:=p) (by rw[h];trivial) (.inl Y) (λb u hb q=>(afu _ _ (cO hb)).trans q) ⟨_,e⟩ ?_;exact⟨T,its',W,r,e⟩
inductive OR(o:V)(i:V)(v:V)(H:Hp)(Q:(Hp->Prop)):Prop
 |mk(p xs k j:_)(_:o=.ref p)(_:i=.int k)(_:H p=O (.lst xs))(_:oF (J xs) k=O j)(_:Q (upd H p (.lst (xs.set j v)))):OR  o i v H Q
theorem set_list:TL X OR:=by
 intro pins s σ H o i v G F u Q I M L rv h;obtain⟨p,xs,k,j,rfl,rfl,S,J,q⟩:=h;cases M;obtain⟨t,rfl⟩:=L;obtain⟨Z,n,r,U,K⟩:=I.lst S;obtain⟨Y,D,P,R⟩:=Q2 J;have hl:=r.length;have E:=xV;have N:Inv X pins σ (upd H p (.lst (xs.set j v))) {s with heap:=s.heap.update p (Ci (·.setIfInBounds j u)) }:=
  I.Z9 S U (Z5 Z n j u) (r.set rv j) (by rw[wu];exact K) s.toks
 by_cases O:0<=k
 .have T:k.toNat=j:=by rw[Nm O R]at Y;exact bH Y
  exact PySem.W.ki_setAt U O byA (by rw[eX,<-hl];exact R) (by rw[T];exact⟨_,N,q⟩)
 .have T:(k+(Z.toArray.size:Int)).toNat=j:=by rw[Np byA P]at Y;rw[eX,<-hl];exact bH Y
  exact PySem.W.ki_setBack U byA (by rw[eX,<-hl];exact P) byA (by rw[T];exact⟨_,N,q⟩)
theorem XZ(lo hi:Option Int)(n:Nat):(sW lo hi U n).1=((HT.bV n 0 lo:Nat):Int)/\(sW lo hi U n).2.1=((HT.bV n n hi:Nat):Int)/\(sW lo hi U n).2.2=1:=by
 refine⟨?_,?_,Y⟩
 .cases lo with
  |none=>simp[sW,HT.bV]
  |some i=>
   simp only[sW,HT.bV,aeK,show(1:Int) > 0 by decide,pI];by_cases h:i<0
   .simp only[h,pI]<;>lia
   .simp only[h,qB]<;>lia
 .cases hi with
  |none=>simp[sW,HT.bV]
  |some i=>
   simp only[sW,HT.bV,aeK,show(1:Int) > 0 by decide,pI];by_cases h:i<0
   .simp only[h,pI]<;>lia
   .simp only[h,qB]<;>lia
theorem X5(Z:List ai)(lo hi:Option Int):D7 Z.toArray lo hi U=((Z.drop (HT.bV (J Z) 0 lo)).take (HT.bV (J Z) (J Z) hi-HT.bV (J Z) 0 lo)).toArray:=by obtain⟨T,W,Y⟩:=XZ lo hi Z.toArray.size;unfold D7;rw[T,W,Y];simp only[sliceRange_one,pick_run,eX]<;>rfl
inductive OQ(K:PySem.W.Frag)(x:V)(lo:Option Int)(hi:Option Int)(H:Hp)(Q:VK):Prop
 |mk(a xs:_)(_:x=.ref a)(_:aj K H a xs)(_:∀p,H p=U->Q (.ref p) (upd H p (.lst (jG xs lo hi)))):OQ K x lo hi H Q
theorem uV:Jy X (OQ X.K):=by intro pins s σ H x v vl R lo hi sl Q I rx S pl W h;obtain⟨a,xs,rfl,hx,q⟩:=h;cases rx;obtain⟨U,r,ht,T⟩:=I.list hx;have Z:=r.length;refine⟨"list",_,MX.lookup,ht.isList.typeIs,?_⟩;refine U8 ht.isList S pl W .none byB ?_ (by rw[eX]<;>lia);rw[X5,<-Z];refine⟨.ref s.heap.objs.size,_,I.laid (t':=s.toks) (o:=.lst (jG xs lo hi)) (λb P q=>fW _ q) (aU _) ?_,Y,q _ (I.hok.fresh (aU _))⟩;exact⟨eL (Sy xs lo hi) T,_,0,(r.drop (HT.bV xs.length 0 lo)).take (HT.bV xs.length xs.length hi-HT.bV xs.length 0 lo),jN _ Y⟩
inductive xw(K:PySem.W.Frag):List V->Hp->VK->Prop
 |mk{p:aa}{H:Hp}{Q:VK}{ys:List V}(_:aj K H p ys\/bu K H p ys)(_:Q (.int (J ys)) H):xw K [.ref p] H Q
theorem xw.ex{K:PySem.W.Frag}{xs:List V}{H:Hp}{Q:VK}(h:xw K xs H Q):∃p ys,xs=[.ref p]/\(aj K H p ys\/bu K H p ys)/\Q (.int (J ys)) H:=by
 cases h with
 |mk U Z=>exact⟨_,_,Y,U,Z⟩
theorem iN:n_ X (.builtin "len") (xw X.K):=by
 intro pins s σ H xs us Q I r h;obtain⟨p,ys,rfl,Y,q⟩:=h.ex;obtain⟨u,rfl,rx⟩:=vals1 r;cases rx;have S:=xV;rcases Y with Y|Y
 .obtain⟨U,W,pl,T⟩:=I.list Y;have Z:=W.length;exact Calls.call_len_list pl.isList (by simp only[eX]<;>lia) ⟨.int ys.length,H,I.tok _,⟨s.toks+1,by rw[eX,Z]⟩,q⟩
 .obtain⟨U,W,pl,T⟩:=I.tuple Y;have Z:=W.length;exact len_tuple pl (by simp only[eX]<;>lia) ⟨.int ys.length,H,I.tok _,⟨s.toks+1,by rw[eX,Z]⟩,q⟩
theorem SO:n_ X (.type "tuple") (λxs H Q=>∃p ys,xs=[.ref p]/\((aj X.K H p ys/\∀l,H l=U->Q (.ref l) (upd H l (.tup ys)))\/(bu X.K H p ys/\Q (.ref p) H))):=by
 intro pins s σ H xs us Q I r h;obtain⟨p,ys,rfl,h⟩:=h;obtain⟨u,rfl,rx⟩:=vals1 r;cases rx;rcases h with⟨hq,q⟩|⟨hq,q⟩
 .obtain⟨Z,W,pl,T⟩:=I.list hq;have S:=W.length;refine call_tuple_list pl.isList (λh' kp=>?_) (by simp only[eX]<;>lia);have R:Inv X pins σ H {s with heap:=h' }:=I.kept (t':=s.toks) kp;have P:Inv X pins σ (upd H h'.objs.size (.tup ys)) {s with heap:=h'.push {cls:=.type "tuple",data:=.seq Z.toArray } }:=
   R.laid (t':=s.toks) (λb o e=>fW _ e) (aU _) (show e7 X.prog X.w _ _ _ (.tup ys) from⟨T,Z,W,CO _ _⟩)
  exact⟨.ref h'.objs.size,_,P,Y,q _ (R.hok.fresh (aU _))⟩
 .obtain⟨Z,W,pl,T⟩:=I.tuple hq;exact call_tuple_same pl ⟨.ref p,H,I,Y,q⟩
def DH(K:PySem.W.Frag)(T:String)(x:V)(H:Hp):Prop:=match x with
 |.str _=>T="str"
 |.int _=>T="int"
 |.ref p=>(T="list"/\∃xs,aj K H p xs)\/(T="tuple"/\∃o,K.lookup p=O o/\o.cls=.type "tuple"/\o.dict=U) \/
  (T="dict"/\((∃kvs,H p=O (.dK kvs))\/∃kvs,H p=O (.dT kvs)))\/(T="set"/\∃S n,H p=O (.set S n))
 |_=>False
theorem LU(I:Inv X pins σ H s)(r:RelV x v)(ty:DH X.K T x H):
 s.TypeIs v T/\∀a,v=.ref a->∃Z,s.heap.get? a=O Z/\Z.dict=U:=by
 cases x with
 |str z=>obtain⟨t,rfl⟩:=r;cases (show T="str" from ty);exact⟨typeIs_str s z t,λ_ e=>nomatch e⟩
 |int i=>obtain⟨t,rfl⟩:=r;cases (show T="int" from ty);exact⟨zW s i t,λ_ e=>nomatch e⟩
 |ref p=>
  cases r;rcases ty with⟨rfl,xs,hq⟩|⟨rfl,o,hk,hc,hd⟩|⟨rfl,hk⟩|⟨rfl,S,n,hk⟩
  .obtain⟨Y,_,pl,_⟩:=I.list hq;refine⟨pl.isList.typeIs,λa e=>?_⟩;cases e;obtain⟨o,n,e,c,hd,_⟩:=pl;exact⟨o,e,hd⟩
  .refine⟨⟨o,I.jX p o hk,hc⟩,λa e=>?_⟩;cases e;exact⟨o,I.jX _ o hk,hd⟩
  .have z:∃o,s.heap.get? p=O o/\o.ExactDict:=by
    rcases hk with⟨kvs,hk⟩|⟨kvs,hk⟩
    .obtain⟨_,_,_,_,o,_,_,e,ex,_⟩:=I.hok p _ hk;exact⟨o,e,ex⟩
    .obtain⟨_,_,_,_,o,_,_,e,ex,_⟩:=I.hok p _ hk;exact⟨o,e,ex⟩
   obtain⟨o,e,ex⟩:=z;refine⟨⟨o,e,ex.1⟩,λa e2=>?_⟩;cases e2;exact⟨o,e,ex.2.1⟩
  .obtain⟨o,_,_,_,e,ex,_⟩:=I.hok p _ hk;refine⟨⟨o,e,ex.1⟩,λa e2=>?_⟩;cases e2;exact⟨o,e,ex.2.1⟩
 |_=>exact lC ty
def WD(K:PySem.W.Frag)(T:String)(r:V->List V->Hp->VK->Prop)(to:TE):TE:=λσ H Q=>to σ H λx H1=>DH K T x H1/\r x [] H1 Q
def WE(K:PySem.W.Frag)(T:String)(r:V->List V->Hp->VK->Prop)(to:TE)(t:TA):TE:=λσ H Q=>to σ H λx H1=>DH K T x H1/\t σ H1 λxs H2=>r x xs H2 Q
variable{o e:Expr}{es:List Expr}{to:TE}{t:TA}{name:Str}{apos cpos:Pos}{T id:String}{r:V->List V->Hp->VK->Prop}
theorem Y9(pa:PlainAttrs T)(slot:Slot T name id)(U:typeOf (.builtin id)=pure (.type "method_descriptor"))(N:TZ X id r)(O:PE X o to)
 (W:uo o name X.env (di o X.env)=di o X.env:=by rfl) (Z:(apos.endLine==cpos.line)=true:=by rfl):PE X (.Call (.Attribute o name apos) [] [] cpos) (WD X.K T r to):=by
 intro pins s σ H Q I h;refine wpAny_Call_method0_late W Z (br (O pins s σ H _ I h) λv s1 ⟨x,H1,R,S,ty,P⟩=>?_);obtain⟨L,M⟩:=LU R S ty;exact⟨T,id,pa,slot,U,L,M,C9 Y (PySem.evalArgs_none (N pins s1 σ H1 x [] v [] Q R S .nil P))⟩
theorem kY(pa:PlainAttrs T)(slot:Slot T name id)(R:typeOf (.builtin id)=pure (.type "method_descriptor"))(D:TZ X id r)(E:PE X o to)(ha:PA X (e::es) t)
 (U:uo o name X.env (di o X.env)=di o X.env:=by rfl)
 (S:((mC cpos (eS (e::es) X.env)).all (λx=>!x.1)&&(S9 cpos (QY [] X.env)).all (λx=>x.1.isSome)
  && decide (J (e::es)+J ([]:List yX)+(if([]:List yX).isEmpty then 0 else 1)<30))=true:=by rfl)
 (W:(apos.endLine==cpos.line)=true:=by rfl) (F:eS (e::es) X.env=(false,di e X.env)::eS es X.env:=by rfl) (Z:(mC cpos (eS es X.env)).any (·.1)=false:=by rfl) :
 PE X (.Call (.Attribute o name apos) (e::es) [] cpos) (WE X.K T r to t):=by
 intro pins s σ H Q I h;refine wpAny_Call_method_late U S W Y (br (E pins s σ H _ I h) λv s1 ⟨x,H1,N,P,ty,G⟩=>?_);obtain⟨B,C⟩:=LU N P ty;refine⟨T,id,pa,slot,R,B,C,?_⟩;have O:=ha cpos pins s1 σ H1 _ N G;rw[F]at O ⊢;refine C9 (by show(false || (mC cpos (eS es X.env)).any (·.1))=false;rw[Z]<;>rfl) (La ?_)
 exact br O λus s2 ⟨vs,H2,A,M,L⟩=>D pins s2 σ H2 x vs v us Q A P M L
end
end L2
namespace L2
open PySem PySem.Spec PyProof.Rows
def Cp(X:Cx)(id:String)(r:V->List V->Hp->VK->Prop):Prop:=
 ∀(pins:List (aa×cK))(s:aS)(σ:St)(H:Hp)(x:V)(xs:List V)(v:ai)(us:List ai)(Q:VK),Inv X pins σ H s->RelV x v->Vals xs us->r x xs H Q ->
  aP (a_ X.prog X.w) X.A (mz (.builtin id) (v::us)) (EP X pins σ Q) X.xe s
theorem Vals.one{x:V}{us:List ai}(h:Vals [x] us):∃u,us=[u]/\RelV x u:=by
 cases h with
 |cons r t=>cases t;exact⟨_,Y,r⟩
theorem Vals.zero:∀{us:List ai},Vals [] us->us=[]
 |_,.nil=>rfl
theorem Vals.dropLast(h:Vals xs us):Vals xs.dropLast us.dropLast:=by
 induction h with
 |nil=>exact .nil
 |cons r t Z=>
  cases t with
  |nil=>exact .nil
  |cons q Y=>exact .cons r Z
theorem Vals.rep(h:Vals xs us):∀k:Nat,Vals (cu k xs).flatten (cu k us).flatten
 |0=>.nil
 |k+1=>by rw[pZ,pZ,CD,CD];exact Vals.append h (Vals.rep h k)
theorem adg(l:List α):l.eraseIdx (J l-1)=l.dropLast:=by
 induction l with
 |nil=>rfl
 |cons a r Z=>
  cases r with
  |nil=>rfl
  |cons b r=>
   have e:J (a::b::r)-1=(J (b::r)-1)+1:=by have W:J (a::b::r)=J r+2:=rfl;have Y:J (b::r)=J r+1:=rfl;lia
   rw[e,List.eraseIdx_cons_succ,Z]
   all_goals rfl
theorem foldl_rep(Z:List ai):∀(k:Nat)(acc:List ai),
 Uj (λW Y=>W++Y) acc.toArray (cu k Z.toArray)=(acc++(cu k Z).flatten).toArray
 |0,acc=>by simp
 |k+1,acc=>by
  have e:acc.toArray++Z.toArray=(acc++Z).toArray:=by simp
  have e2:(acc++Z)++(cu k Z).flatten=acc++(cu (k+1) Z).flatten:=by rw[pZ,CD,lT]
  rw[<-e2,<-foldl_rep Z k (acc++Z),<-e,pZ,J2]
section
variable{X:Cx}{pins:List (Addr×Obj)}{σ:St}{H:Hp}{s:Shared}{l b:Addr}{xs ys zs:List V}
theorem Inv.Gm{Z its':List ai}{n:Nat}{f:Array ai->Array ai}{t':Nat}(I:Inv X pins σ H s)(R:H l=O (.lst xs))
 (e:s.heap.get? l=O {cls:=.type "list",data:=.seq Z.toArray n }) (S:f Z.toArray=its'.toArray) (hv:Vals ys its') (U:J ys<=bf) :
 Inv X pins σ (upd H l (.lst ys)) {s with heap:=s.heap.update l (Ci f),toks:=t' }:=by
 have q:=PySem.IsL.update e f;rw[S]at q;refine I.write (x:=l) (e:=l) (by rw[R];exact trivial) (.inl Y) (λb' u hb T=>(afu s.heap (Ci f) (cO hb)).trans T) ⟨_,q⟩ ?_;exact⟨U,its',_,hv,q⟩
theorem Inv.Gq(I:Inv X pins σ H s)(hv:Vals ys its)(hz:J ys<=bf):
 Inv X pins σ (upd H s.heap.objs.size (.lst ys)) {s with heap:=s.heap.push {cls:=.type "list",data:=.seq its.toArray },toks:=t' }:=
 I.laid (λ_ _ q=>fW _ q) (aU _) ⟨hz,its,0,hv,jN _ rfl⟩
theorem Inv.fresh(I:Inv X pins σ H s):H s.heap.objs.size=U:=I.hok.fresh (aU _)
theorem Inv.tW(I:Inv X pins σ H s)(Y:H l=O (.lst xs)):xs.length<=bf/\∃(Z:List ai)(n:Nat),Vals xs Z/\xs.length=Z.length/\s.heap.get? l=O {cls:=.type "list",data:=.seq Z.toArray n }:=by obtain⟨z,Z,n,r,e⟩:=I.hok l _ Y;exact⟨z,Z,n,r,r.length,e⟩
theorem Qu(h:n<=bf):cN.List.listTooLong n=false:=by unfold cN.List.listTooLong;exact bP byA
end
section
variable{X:Cx}
inductive OY(x:V)(vs:List V)(H:Hp)(Q:VK):Prop
 |mk(l xs y:_)(_:x=.ref l)(_:vs=[y])(_:H l=O (.lst xs))(_:J xs<bf)(_:Q .az (upd H l (.lst (xs++[y])))):OY  x vs H Q
theorem pC:Cp X "list.append" OY:=by intro pins s σ H x vs v us Q I rx rv h;obtain⟨l,xs,y,rfl,rfl,W,T,q⟩:=h;cases rx;obtain⟨u,rfl,U⟩:=rv.one;obtain⟨z,Z,n,r,hl,e⟩:=I.tW W;refine pM F.slot_list_append ⟨_,e,Y⟩ F.entry_list_append (F.args_list_append_2 _ _) (PySem.list_append l Z.toArray n u (by rw[eX];lia)) ⟨e,?_⟩;refine⟨.az,_,I.Gm (its':=Z++[u]) W e byB (r.append (.cons U .nil)) ?_,Y,q⟩;rw[fO,yO];lia
inductive OV(x:V)(vs:List V)(H:Hp)(Q:VK):Prop
 |mk(l b xs zs:_)(_:x=.ref l)(_:vs=[.ref b])(_:H l=O (.lst xs))(_:H b=O (.lst zs))(_:J xs+J zs<=bf)(_:Q .az (upd H l (.lst (xs++zs)))):OV  x vs H Q
theorem A1:Cp X "list.extend" OV:=by
 intro pins s σ H x vs v us Q I rx rv h;obtain⟨l,b,xs,zs,rfl,rfl,S,M,K,q⟩:=h;cases rx;obtain⟨u,rfl,R⟩:=rv.one;cases R;obtain⟨z,W,n,r,hl,e⟩:=I.tW S;obtain⟨L,Z,O,P,N,e2⟩:=I.tW M;have T:W.toArray.size+Z.toArray.size<=sizeLine:=by rw[eX,eX];lia
 have U:¬(!W.toArray.isEmpty&&cN.List.listTooLong (W.toArray.size+Z.toArray.size))=true:=by rw[Qu T,UJ];exact iJ
 refine pM F.slot_list_extend ⟨_,e,Y⟩ F.entry_list_extend (F.args_list_extend_2 _ _)
  (AutoSeq1.list_extend_list_list_0 l W.toArray n b Z.toArray O U (by rw[eX];lia) byA) ⟨e,e2,?_⟩
 refine⟨.az,_,I.Gm (its':=W++Z) S e byB (r.append P) ?_,Y,q⟩;rw[fO];lia
inductive OT(x:V)(vs:List V)(H:Hp)(Q:VK):Prop
 |mk(l xs y:_)(_:x=.ref l)(_:vs=[])(_:H l=O (.lst xs))(_:xs[J xs-1]?=O y)(_:Q y (upd H l (.lst xs.dropLast))):OT  x vs H Q
theorem ZI:Cp X "list.pop" OT:=by
 intro pins s σ H x vs v us Q I rx rv h;obtain⟨l,xs,y,rfl,rfl,T,R,q⟩:=h;cases rx;have U:=rv.zero;subst U;obtain⟨z,Z,n,r,hl,e⟩:=I.tW T;obtain⟨u,P,S⟩:=r.get R;have W:Z.toArray[Z.toArray.size-1]?=O u:=by show Z.toArray[J Z-1]?=O u;rw[<-UM,<-hl];exact P
 refine pM F.slot_list_pop ⟨_,e,Y⟩ F.entry_list_pop (F.args_list_pop_1 _) (MeetsSeq.list_pop_last l Z.toArray n u W (by rw[eX];lia)) ⟨e,?_⟩;refine⟨y,_,I.Gm (its':=Z.dropLast) T e ?_ r.dropLast ?_,S,q⟩
 .show Z.toArray.eraseIdxIfInBounds (Z.toArray.size-1)=Z.dropLast.toArray;rw[eX,List.eraseIdxIfInBounds_toArray,adg]
 .rw[List.length_dropLast];lia
inductive OX(x:V)(y:V)(H:Hp)(Q:VK):Prop
 |mk(l b xs zs:_)(_:x=.ref l)(_:y=.ref b)(_:H l=O (.lst xs))(_:H b=O (.lst zs))(_:J xs+J zs<=bf)(_:∀p,H p=U->Q (.ref p) (upd H p (.lst (xs++zs)))):OX  x y H Q
theorem xG:iH X (pO .Add) OX:=by
 intro pins s σ H x y v u Q I rx U h;obtain⟨l,b,xs,zs,rfl,rfl,R,O,K,q⟩:=h;cases rx;cases U;obtain⟨z,W,n,r,hl,e⟩:=I.tW R;obtain⟨M,Z,L,T,S,e2⟩:=I.tW O;refine PySem.P.add_list e e2 ?_ (by rw[eX,eX];lia);have N:W.toArray++Z.toArray=(W++Z).toArray:=by simp
 rw[N];exact⟨.ref _,_,I.Gq (t':=s.toks) (r.append T) (by rw[fO];lia),Y,q _ I.fresh⟩
inductive OS(x:V)(y:V)(H:Hp)(Q:VK):Prop
 |mk(l k xs:_)(_:x=.ref l)(_:y=.int k)(_:H l=O (.lst xs))(_:-(2 ^ 63)<=k)(_:k<2 ^ 63)(_:J xs*k.toNat<=bf)(_:∀p,H p=U->Q (.ref p) (upd H p (.lst (cu k.toNat xs).flatten))):OS  x y H Q
theorem len_rep(xs:List α)(k:Nat):J (cu k xs).flatten=k*J xs:=by
 induction k with
 |zero=>simp
 |succ k Z=>rw[pZ,CD,fO,Z,TQ,wh]
theorem AD:iH X (pO .Mult) OS:=by
 intro pins s σ H x y v u Q I rx K h;obtain⟨l,k,xs,rfl,rfl,J,E,G,L,q⟩:=h;cases rx;obtain⟨t,rfl⟩:=K;obtain⟨z,Z,n,r,hl,e⟩:=I.tW J;have R:Z.toArray.size*k.toNat<=sizeLine:=by rw[eX,<-hl];exact L
 have O:¬Z.toArray.size*k.toNat > (2 ^ 63-1)/8:=by
  have:(sizeLine:Nat)<=(2 ^ 63-1)/8:=by decide
  lia
 have P:¬(!cN.List.listFitsIndex k)=true:=by rw[fitsIndex_both E G];exact iJ
 have W:¬cN.List.listTooLong (Z.toArray.size*k.toNat)=true:=by rw[Qu R];exact iJ
 have S:Uj (λM N=>M++N) #[] (cu (if Z.toArray.isEmpty=true then 0 else k.toNat) Z.toArray)=(cu k.toNat Z).flatten.toArray:=by
  have D:∀m:Nat,Uj (λM N=>M++N) #[] (cu m Z.toArray)=(cu m Z).flatten.toArray:=λm=>by have:=foldl_rep Z m [];rw[yM]at this;exact this
  rw[D];cases Z with
  |nil=>simp
  |cons a C=>rw[ao byB]
 refine Vb (T:="list") (U:="int") byD ⟨_,e,Y⟩ (λs'=>zW s' k t) noFill_list_mul afF K6 repeat_list afB.lookup
  (pM K6 (zW s k t) afG (afI _ _) (int___rmul___int_list k t l Z.toArray n)
   ⟨e,rfl,⟨_,e,rfl⟩,pM F.slot_list_mul ⟨_,e,rfl⟩ F.entry_list_mul (F.args_list_mul_2 _ _) (ahg l Z.toArray n k t P O W) ⟨e,?_⟩⟩)
 rw[S];exact⟨.ref _,_,I.Gq (t':=s.toks) (r.rep k.toNat) (by rw[len_rep,aeP];exact L),Y,q _ I.fresh⟩
end
end L2
namespace L2
open PySem PySem.Spec PyProof.Rows
theorem Vals.ints:∀{ns:List Int}{us:List ai},Vals (ns.map V.int) us->y_ us ns
 |[],us,h=>by rw[mO]at h;cases h;exact y_.nil
 |n::ns,us,h=>by
  rw[bL]at h;cases h with
  |cons r t=>obtain⟨k,rfl⟩:=r;exact y_.cons n k (Vals.ints t)
theorem Vals.SY:∀{bs:List Bool}{us:List ai},Vals (bs.map V.bl) us->us=bs.map yu
 |[],us,h=>by rw[mO]at h;cases h;rfl
 |b::bs,us,h=>by
  rw[bL]at h;cases h with
  |cons r t=>cases r;rw[Vals.SY t,bL]
theorem Vals.OF(r:Vals [V.ref a] us):us=[dG a]:=by
 cases r with
 |cons r t=>cases t;cases r;rfl
section
variable{prog:Program}{w:World}{A:Around}{E:Value->Shared->Prop}{s:Shared}{l:Addr}{its:List Value}{ns:List Int}{Q:Value->Shared->Prop}
theorem WI(W:A.handled=U)(hl:s.heap.IsList l its.toArray)(hi:y_ its ns)
 (h:∀h' tk t',(∀b o,s.heap.get? b=O o->h'.get? b=O o)->Q (.int ns.sum t') {s with heap:=h',toks:=tk }):aP (a_ prog w) A (mz (.builtin "sum") [.ref l]) Q E s:=by
 obtain⟨xs,e⟩:=hi.allInts.items;have Z:numsOf (intItems xs).toList=ns:=by rw[<-e];exact hi.numsOf
 rw[nums_intItems]at Z;rw[e]at hl;refine PySem.sum_intListG W hl λh' tk t' Y=>?_;have:=h h' tk t' Y;rw[preSum_eq,yK byB,Z];exact this
end
section
variable{X:Cx}
inductive OP(K:PySem.W.Frag)(vs:List V)(H:Hp)(Q:VK):Prop
 |mk(a:aa)(ns:List Int)(_:vs=[V.ref a])(_:aj K H a (ns.map V.int))(_:Q (.int ns.sum) H):OP K vs H Q
theorem Jc(T:X.calm=true):n_ X (.builtin "sum") (OP X.K):=by intro pins s σ H vs us Q I r h;obtain⟨a,ns,rfl,W,q⟩:=h;obtain⟨Z,rv,hl,_⟩:=I.list W;rw[Vals.OF r];exact WI (I.ok.hd T) hl.isList rv.ints λh' S R U=>⟨.int _,H,I.kept U,⟨_,Y⟩,q⟩
end
theorem aa4(hl:s.heap.IsList l items)
 (h:∀Z:aS,Z={s with heap:=s.heap.push {cls:=.type "list_iterator",data:=.fields #[.ref l,.int 0 0] } } ->
  (Z.heap.IsListIter s.heap.objs.size l 0/\Z.heap.IsList l items)->l≠s.heap.objs.size->Q (.ref s.heap.objs.size) Z):aP (a_ prog w) A (As (.ref l)) Q E s:=by
 have W:l<s.heap.objs.size:=by obtain⟨_,e,_⟩:=hl;exact dO e
 exact Ll hl (h _ Y ⟨⟨_,jN _ Y,Y,Y⟩,hl.push _⟩ (iP W))
theorem VN{prog:fV}{w:d9}{A:jd}{bs:List Bool}{Z:List ai}(e:Z=bs.map yu):
 TruthOf prog w A (λi v=>Z.toArray[i]?=O v) (λi=>bs.getD i false):=λi v s Q E hv U=>by
 have Y:Z[i]?=O v:=by simpa using hv
 rw[e,bM]at Y;obtain⟨b,hb,rfl⟩:=eZ.mp Y;have T:bs.getD i false=b:=by rw[fQ,hb]<;>rfl
 have W:Q (bs.getD i false) s:=U;rw[T]at W;exact uH W
theorem any_range:∀bs:List Bool,(bA (J bs)).any (λi=>bs.getD i false)=bs.any id
 |[]=>rfl
 |b::bs=>by
  rw[iI,yL,p_,afe,p_,<-any_range bs]
  all_goals rfl
section
variable{X:Cx}
inductive OZ(K:PySem.W.Frag)(vs:List V)(H:Hp)(Q:VK):Prop
 |mk(a:aa)(bs:List Bool)(_:vs=[V.ref a])(_:aj K H a (bs.map V.bl))(_:Q (.bl (bs.any id)) H):OZ K vs H Q
theorem adB(O:X.calm=true):n_ X (.builtin "any") (OZ X.K):=by
 intro pins s σ H vs us Q I r h;obtain⟨a,bs,rfl,R,q⟩:=h;obtain⟨W,rv,hl,_⟩:=I.list R;rw[Vals.OF r];have hb:=rv.SY;refine call_any_walk (aa4 hl.isList λT e2 st U=>?_);subst e2;refine⟨_,_,_,_,_,_,_,Y,Walks.list (A:=X.A.in1) (I.ok.hd O) _ a U W.toArray,st,VN hb,λh' N P=>?_⟩;refine⟨.bl _,H,I.kept λb o S=>P b o (λZ=>?_) (fW _ S),?_,q⟩
 .rcases bE.mp Z with e1|Z
  .exact absurd (e1 ▸ dO S) (pY _)
  .cases Z
 .show yu _=yu _;rw[<-any_range,hb,eX,aM]
end
mutual
inductive Dp(K:PySem.W.Frag)(H:Hp):V->sE->Prop
 |az:Dp K H .az .none
 |bl (b:Bool):Dp K H (.bl b) (.bool b)
 |int (i:Int):Dp K H (.int i) (.int i)
 |str (x:ak):Dp K H (.str x) (.str x)
 |lst {a:aa} {xs:List V} {ds:List sE}:aj K H a xs->uG K H xs ds->Dp K H (.ref a) (.list ds)
 |tup {a:aa} {xs:List V} {ds:List sE}:bu K H a xs->uG K H xs ds->Dp K H (.ref a) (.tuple ds)
inductive uG(K:PySem.W.Frag)(H:Hp):List V->List sE->Prop
 |nil:uG K H [] []
 |cons {v:V} {vs:List V} {d:sE} {ds:List sE}:Dp K H v d->uG K H vs ds->uG K H (v::vs) (d::ds)
end
section
variable{X:Cx}{pins:List (Addr×Obj)}{σ:St}{H:Hp}{s:Shared}
mutual
theorem Dp.reads(I:Inv X pins σ H s):∀(d:sE)(v:V)(u:ai),Dp X.K H v d->RelV v u->∃as,Reads s.heap u d as
 |.none,_,_,h,r=>by cases h;cases r;exact⟨_,Reads.none⟩
 |.bool b,_,_,h,r=>by cases h;cases r;exact⟨_,Reads.bool b⟩
 |.int i,_,_,h,r=>by cases h;obtain⟨t,rfl⟩:=r;exact⟨_,Reads.int i t⟩
 |.str x,_,_,h,r=>by cases h;obtain⟨t,rfl⟩:=r;exact⟨_,Reads.str x t⟩
 |.list ds,_,_,h,r=>by
  cases h with
  |lst Y ha=>cases r;obtain⟨Z,rv,⟨o,n,U,T,_,hd⟩,_⟩:=I.list Y;obtain⟨as,W⟩:=Dp.readsAll I ds _ Z ha rv;exact⟨_,Reads.list U T hd W⟩
 |.tuple ds,_,_,h,r=>by
  cases h with
  |tup Y ha=>cases r;obtain⟨Z,rv,⟨o,U,T,n,hd⟩,_⟩:=I.tuple Y;obtain⟨as,W⟩:=Dp.readsAll I ds _ Z ha rv;exact⟨_,Reads.tuple U T hd W⟩
 |.dict _,_,_,h,_=>by cases h
theorem Dp.readsAll(I:Inv X pins σ H s):∀(ds:List sE)(vs:List V)(us:List ai),uG X.K H vs ds->Vals vs us->∃as,ReadsAll s.heap us ds as
 |[],_,_,h,r=>by cases h;cases r;exact⟨_,ReadsAll.nil⟩
 |d::ds,_,_,h,r=>by
  cases h with
  |cons S T=>
   cases r with
   |cons Y Z=>obtain⟨as,U⟩:=Dp.reads I d _ _ S Y;obtain⟨bs,W⟩:=Dp.readsAll I ds _ _ T Z;exact⟨_,ReadsAll.cons U W⟩
end
end
section
variable{X:Cx}
inductive OU(K:PySem.W.Frag)(x:V)(y:V)(H:Hp)(Q:VK):Prop
 |mk(d e:_)(_:Dp K H x d)(_:Dp K H y e)(_:JD d=true)(_:JD e=true)(_:Q (.bl (!pU d e)) H):OU K x y H Q
theorem Zg(T:X.A.units+64<jj):iH X (nR .NotEq) (OU X.K):=by intro pins s σ H x y v u Q I rx Z h;obtain⟨d,e,hd,S,sd,se,q⟩:=h;obtain⟨as,U⟩:=Dp.reads I d x v hd rx;obtain⟨bs,W⟩:=Dp.reads I e y u S Z;exact SeqAt.compareNe_shaped U W sd se T ⟨.bl _,H,I,Y,q⟩
end
end L2
namespace L2
open PySem PySem.Spec PyProof.Rows
abbrev UG(h:dj)(c:aa)(v:Option ai):Prop:=h.IsCell c v
def YA(scope sc:lg):Scope:=
 {scope with names:=scope.names.map fun(n,k)=>if(k==.free&&sc.kind==.function&&sc.names.lookup n==O .cell) then(n,.cell) else(n,k) }
def ji(cells:List (ak×aa)):List (ak×lR)->List (ak×aa)->List (ak×aa)
 |[],acc=>acc
 |(n,k)::r,acc=>if k==.free then ji cells r ((n,(cells.lookup n).getD 0)::acc) else ji cells r acc
theorem SJ(env:i0)(f:ak×lR->List (ak×aa)->Sem (ForInStep (List (ak×aa))))
 (hf:∀n k c,f (n,k) c=if k==.free then(do let a <-cellOf env n;pure (.yield ((n,a)::c))) else pure (.yield c)) :
 ∀(names:List (ak×lR))(acc:List (ak×aa)),(∀y∈names,y.2=.free->∃c,env.cells.lookup y.1=O c)->forIn names acc f=pure (ji env.cells names acc)
 |[],acc,_=>by rw[ae5];rfl
 |(n,k)::r,acc,h=>by
  rw[List.forIn_cons,hf];have ih:=λacc=>SJ env f hf r acc λy hy=>h y (dR _ hy);unfold ji;by_cases hk:(k==yI)=true
  .rw[aD hk,aD hk];obtain⟨c,hc⟩:=h (n,k) mL (by simpa using hk);have e:cellOf env n=pure c:=by unfold cellOf;rw[hc]
   rw[e];have e2:(env.cells.lookup n).getD 0=c:=by rw[hc];rfl
   rw[e2];exact ih _
  .rw[ao hk,ao hk];exact ih _
theorem adL(h:∀y∈scope.names,y.2=.free->∃c,env.cells.lookup y.1=O c):closureFor scope env=pure (ji env.cells scope.names []):=by simp only[closureFor];rw[SJ env _ (λn k c=>rfl) scope.names [] h];rfl
theorem mem_lookup:∀{l:List (ak×α)}{n:ak}{c:α},(n,c)∈l->∃Z,l.lookup n=O Z
 |(k,v)::r,n,c,h=>by
  rw[wo];cases hb:n==k with
  |true=>exact⟨_,Y⟩
  |false=>
   rcases bE.mp h with e|h
   .cases e;simp at hb
   .exact mem_lookup h
theorem BU:∀{names:List (ak×lR)}{acc:List (ak×aa)}{n:ak}{c:aa},(n,c)∈ji cells names acc->(n,c)∈acc\/((n,.free)∈names/\c=(cells.lookup n).getD 0)
 |[],_,_,_,h=>.inl h
 |(m,k)::r,acc,n,c,h=>by
  unfold ji at h;split at h
  .rename_i Z;have Z:k=.free:=by simpa using Z
   rcases BU h with h|⟨U,W⟩
   .rcases bE.mp h with e|h
    .cases e;exact .inr ⟨Z ▸ mL,Y⟩
    .exact .inl h
   .exact .inr ⟨dR _ U,W⟩
  .rcases BU h with h|⟨U,W⟩
   .exact .inl h
   .exact .inr ⟨dR _ U,W⟩
theorem Jf:∀{names:List (ak×lR)}{acc:List (ak×aa)}{p:ak×aa},p∈acc->p∈ji cells names acc
 |[],_,_,h=>h
 |(m,k)::r,acc,p,h=>by
  unfold ji;split
  .exact Jf (dR _ h)
  .exact Jf h
theorem Je:∀{names:List (ak×lR)}{acc:List (ak×aa)}{n:ak},(n,.free)∈names->(n,(cells.lookup n).getD 0)∈ji cells names acc
 |(m,k)::r,acc,n,h=>by
  unfold ji;rcases bE.mp h with e|h
  .cases e;exact Jf mL
  .split
   .exact Je h
   .exact Je h
theorem yh:∀{names:List (ak×lR)}{h:dj}{acc:List (ak×aa)}{x:ak}{c:aa},(x,c)∈ju h.objs.size names acc ->
 (x,c)∈acc\/((x,.cell)∈names/\h.objs.size<=c/\UG (tE h names) c U)
 |[],_,_,_,_,h=>.inl h
 |(n,k)::r,h,acc,x,c,Z=>by
  unfold ju at Z;unfold tE;split at Z
  .rename_i W;rw[aD W];have W:k=.cell:=by simpa using W
   rw[<-oQ h {cls:=.type "cell",data:=.cell U }]at Z;rcases yh Z with Z|⟨R,T,S⟩
   .rcases bE.mp Z with e|Z
    .cases e;exact .inr ⟨W ▸ mL,aU _,_,EC r _ _ _ (jN _ Y),Y⟩
    .exact .inl Z
   .rw[oQ]at T;exact .inr ⟨dR _ R,JR T,S⟩
  .rename_i W;rw[ao W];rcases yh Z with Z|⟨R,T,S⟩
   .exact .inl Z
   .exact .inr ⟨dR _ R,T,S⟩
theorem BV:∀{names:List (ak×lR)}{n:Nat}{acc:List (ak×aa)}{p:ak×aa},p∈acc->p∈ju n names acc
 |[],_,_,_,h=>h
 |(m,k)::r,n,acc,p,h=>by
  unfold ju;split
  .exact BV (dR _ h)
  .exact BV h
theorem Jh:∀{names:List (ak×lR)}{n:Nat}{acc:List (ak×aa)}{x:ak},(x,.cell)∈names->∃c,(x,c)∈ju n names acc
 |(m,k)::r,n,acc,x,h=>by
  unfold ju;rcases bE.mp h with e|h
  .cases e;exact⟨n,BV mL⟩
  .split
   .exact Jh h
   .exact Jh h
theorem Jg:∀{names:List (ak×lR)}{h:dj}{acc:List (ak×aa)}{x y:ak}{c:aa},(∀p∈acc,p.2<h.objs.size)->(∀x y c,(x,c)∈acc->(y,c)∈acc->x=y) ->
 (x,c)∈ju h.objs.size names acc->(y,c)∈ju h.objs.size names acc->x=y
 |[],_,_,_,_,_,_,hi,Y,Z=>hi _ _ _ Y Z
 |(n,k)::r,h,acc,x,y,c,hl,hi,Y,Z=>by
  unfold ju at Y Z;split at Y
  .rename_i T;rw[aD T]at Z;rw[<-oQ h {cls:=.type "cell",data:=.cell U }]at Y Z;refine Jg (h:=h.push _) (λp W=>?_) (λx y c a b=>?_) Y Z
   .rw[oQ];rcases bE.mp W with rfl|W
    .exact JP _
    .exact TV (hl p W)
   .rcases bE.mp a with e|a<;>rcases bE.mp b with S|b
    .cases e;cases S;rfl
    .cases e;exact absurd (hl _ b) (pY _)
    .cases S;exact absurd (hl _ a) (pY _)
    .exact hi _ _ _ a b
  .rename_i T;rw[ao T]at Z;exact Jg hl hi Y Z
theorem ZG{M:Model}{A:jd}{E:ai->aS->Prop}{s:aS}{scope:lg}{globals:aa}{Z:List (ak×aa)}{qual:ak}{func:Option aa}{code:ai}{W:i0}{builtins:aa}{Q:i0->aS->Prop}
 (h:Q (newEnv scope s.heap.objs.size globals (ju (s.heap.objs.size+1) scope.names Z) qual func code (O W) builtins)
  {s with heap:=tE (s.heap.push {cls:=.type "dict",data:=.dict #[] }) scope.names }) :
 aP M A (ZF scope globals Z [] qual func code (O W) builtins) Q E s:=by
 simp only[ZF,aeJ,pI];refine aL (wpAny_alloc ?_);refine aL (wpAny_layCells _ (λn k c=>Y) scope.names Z _ _ ?_);rw[show({s with heap:=s.heap.push {cls:=.type "dict",data:=.dict #[] } }:aS).heap.objs.size=s.heap.objs.size+1 from oQ ..];rw[ae5];exact aL (bC (bC h))
theorem Gp{sc:lg}:∀{names:List (ak×lR)}{x:ak}{k:lR},
 (names.map fun(n,k)=>if(k==yI&&sc.kind==.function&&sc.names.lookup n==O .cell) then(n,TY) else(n,k)).lookup x=O k ->
 ∃U,names.lookup x=O U/\(k=U\/(U=.free/\k=.cell))
 |[],_,_,h=>by simp at h
 |(n,Z)::r,x,k,h=>by
  have T:=@Gp sc r x k;have h':uB x ((if(Z==yI&&sc.kind==.function&&sc.names.lookup n==O .cell)=true then(n,TY) else(n,Z))::(r.map _))=O k:=h;cases hx:x==n with
  |true=>
   simp only[wo,hx];by_cases W:(Z==yI&&sc.kind==.function&&sc.names.lookup n==O .cell)=true
   .rw[aD W]at h';simp only[wo,hx]at h';cases h';simp only[eO,vW]at W;exact⟨Z,Y,.inr ⟨W.1.1,Y⟩⟩
   .rw[ao W]at h';simp only[wo,hx]at h';cases h';exact⟨_,Y,.inl Y⟩
  |false=>
   simp only[wo,hx];by_cases W:(Z==yI&&sc.kind==.function&&sc.names.lookup n==O .cell)=true
   .rw[aD W]at h';simp only[wo,hx]at h';exact T h'
   .rw[ao W]at h';simp only[wo,hx]at h';exact T h'
structure zq(N:List ak)(sc scope:lg)(own:List (ak×Nat)):Prop where
 kind:scope.kind=.function
 uniq:∀y∈scope.names,scope.names.lookup y.1=O y.2
 ix:∀p∈own,N[p.2]?=O p.1
 free:∀y∈scope.names,y.2=.free->sc.names.lookup y.1=O .cell\/sc.names.lookup y.1=O .free
 own:∀y∈scope.names,y.2=.local\/y.2=.cell->y.1∈own.map (·.1)\/y.1∉N
def wipe(σ:St):List Nat->St
 |[]=>σ
 |v::vs=>(wipe σ vs).set v U
theorem Dk(σ:St):∀vs:List Nat,J (wipe σ vs)=J σ
 |[]=>rfl
 |v::vs=>by unfold wipe;rw[wu,Dk σ vs]
theorem Dj:∀{vs:List Nat},(wipe σ vs)[i]?=O (O x)->σ[i]?=O (O x)/\i∉vs
 |[],h=>⟨h,byB⟩
 |v::vs,h=>by
  unfold wipe at h;by_cases hi:v=i
  .subst hi;by_cases hv:v<J (wipe σ vs)
   .rw[Cy hv]at h;cases h
   .rw[fP (by simpa using hv)]at h;cases h
  .rw[J0 hi]at h;obtain⟨Y,Z⟩:=Dj h;exact⟨Y,by simp only[bE,fS];exact⟨λe=>hi e.symm,Z⟩⟩
abbrev Cx.jH(X:Cx)(s:aS)(H:Hp)(scope:lg)(cenv:i0)(fp:List aa):Cx:={X with jl:=s,uE:=H,env:=cenv,outer:=X.stack,ex:=fp,fn:=λx=>scope.names.lookup x==O .cell,pn:=[],xe:=λ_ _=>False }
section
variable{X:Cx}{pins:List (Addr×Obj)}{σ:St}{H:Hp}{s:Shared}
theorem ad1{scope:lg}{own:List (ak×Nat)}{fp:List aa}(I:Inv X pins σ H s)(ok:zq X.N X.env.scope scope own)(hN:X.N.Nodup)(P:∀b∈fp,nZ X pins H b/\b<s.heap.objs.size):
 Inv (X.jH s H scope (nS scope (ju (s.heap.objs.size+1) scope.names (ji X.env.cells scope.names [])) s.heap.objs.size X.env) fp) [] (wipe σ (own.map (·.2))) H {s with heap:=tE (s.heap.push {cls:=.type "dict",data:=.dict #[] }) scope.names }:=by
 have C:∀y∈scope.names,y.2=.free->∃c,X.env.cells.lookup y.1=O c:=λy K e=>by
  rcases ok.free y K e with k|k
  .exact I.ok.has _ (.inl k)
  .exact I.ok.has _ (.inr k)
 generalize W:nS scope (ju (s.heap.objs.size+1) scope.names (ji X.env.cells scope.names [])) s.heap.objs.size X.env=Z;have kp:∀b o,s.heap.get? b=O o->(tE (s.heap.push {cls:=.type "dict",data:=.dict #[] }) scope.names).get? b=O o:=λb o e=>EC _ _ _ _ (fW _ e);have u:Z.locals=s.heap.objs.size:=by rw[<-W];rfl
 have S:Z.cells=ju (s.heap.objs.size+1) scope.names (ji X.env.cells scope.names []):=by rw[<-W];rfl
 have F:Z.scope=YA scope X.env.scope:=by rw[<-W];rfl
 rw[<-oQ s.heap {cls:=.type "dict",data:=.dict #[] }]at S;have v:∀{y c},(y,c)∈ji X.env.cells scope.names []->X.env.cells.lookup y=O c/\c<s.heap.objs.size:=λ{y c} Q=>by
  rcases BU Q with Q|⟨T,rfl⟩
  .cases Q
  .obtain⟨c,f⟩:=C _ T Y;rw[f];obtain⟨w,z⟩:=I.cell _ _ f;exact⟨Y,z.lt⟩
 have mem:∀{y c},Z.cells.lookup y=O c->(X.env.cells.lookup y=O c/\c<s.heap.objs.size)\/(s.heap.objs.size+1<=c/\UG (tE (s.heap.push {cls:=.type "dict",data:=.dict #[] }) scope.names) c U):=λ{y c} e=>by
  rw[S]at e;rcases yh (PySem.mem_of_lookup e) with Q|⟨_,J,h3⟩
  .exact .inl (v Q)
  .rw[oQ]at J;exact .inr ⟨J,h3⟩
 have look:∀{y},scope.names.lookup y=O .free->∃c,Z.cells.lookup y=O c/\X.env.cells.lookup y=O c:=λ{y} hl=>by
  have K:(y,yI)∈scope.names:=PySem.mem_of_lookup hl;obtain⟨l,M⟩:=mem_lookup (BV (names:=scope.names) (n:=(s.heap.push {cls:=.type "dict",data:=.dict #[] }).objs.size) (Je (cells:=X.env.cells) (acc:=[]) K));rw[<-S]at M;refine⟨l,M,?_⟩;rw[S]at M;rcases yh (PySem.mem_of_lookup M) with Q|⟨T,_,_⟩
  .exact(v Q).1
  .have:=ok.uniq _ T;rw[hl]at this;cases this
 have j:(X.jH s H scope Z fp).Ok:=by
  refine⟨I.ok.mod,by show Z.scope.kind=_;rw[F];exact ok.kind,by show Z.globals=_;rw[<-W];exact I.ok.glob,by show Z.builtins=_;rw[<-W];exact I.ok.blt,by show s.heap.objs.size<=Z.locals;rw[u];exact aU _,
   λy z c e1 e2=>?_,λy K=>?_,λy c z e=>?_,I.ok.hd,I.ok.frames,.inl rfl,λb hb=>⟨?_,λy c e z=>?_⟩,I.bs,eL I.ok.pN I.sz,λb o e hb=>?_,λb hb z=>?_,I.stack,I.MC⟩
  .have e1:Z.cells.lookup y=O c:=e1;have e2:Z.cells.lookup z=O c:=e2;rw[S]at e1 e2;refine Jg (λp B=>?_) (λy z c a b=>I.ok.inj y z c (v a).1 (v b).1) (PySem.mem_of_lookup e1) (PySem.mem_of_lookup e2);rw[oQ];exact TV (v (y:=p.1) (c:=p.2) B).2
  .show ∃c,Z.cells.lookup y=O c;have R:∀k,Z.kindOf y=O k->(k=.cell\/k=.free)->∃c,Z.cells.lookup y=O c:=λk D E=>by
    unfold Env.kindOf at D;rw[F]at D;obtain⟨G,e,r⟩:=Gp D;have:G=.cell\/G=.free:=by
     rcases r with rfl|⟨rfl,_⟩
     .exact E
     .exact .inr rfl
    rcases this with rfl|rfl
    .obtain⟨c,Q⟩:=Jh (n:=(s.heap.push {cls:=.type "dict",data:=.dict #[] }).objs.size) (acc:=ji X.env.cells scope.names []) (PySem.mem_of_lookup e);obtain⟨l,M⟩:=mem_lookup Q;exact⟨l,by rw[S];exact M⟩
    .obtain⟨c,T,_⟩:=look e;exact⟨c,T⟩
   rcases K with K|K
   .exact R _ K (.inl rfl)
   .exact R _ K (.inr rfl)
  .have z:(scope.names.lookup y==O TY)=true:=z;have z:scope.names.lookup y=O .cell:=by simpa using z
   have e:Z.cells.lookup y=O c:=e;rw[S]at e;rcases yh (PySem.mem_of_lookup e) with Q|⟨_,J,_⟩
   .rcases BU Q with Q|⟨T,_⟩
    .cases Q
    .have q:=ok.uniq _ T;rw[z]at q;cases q
   .rw[oQ]at J;exact JR J
  .show b≠Z.locals;rw[u];exact iP (P b hb).2
  .have e:Z.cells.lookup y=O c:=e;rcases mem e with⟨T,_⟩|⟨T,_⟩
   .exact(P b hb).1.2.2.2.2.1 y c T z
   .have J:s.heap.objs.size+1<=b:=by rw[<-z];exact T
    exact absurd (lq (P b hb).2 (JR J)) (pY _)
  .rcases(P b hb).1.2.2.2.1 with z|z
   .exact I.ok.xM b o e z
   .exact absurd (lq (dO e) (eL I.ok.pN z)) (pY _)
  .rcases bE.mp (I.DX b z) with z|z
   .exact(P b hb).1.2.1 z
   .exact(P b hb).1.2.2.1 z
 refine⟨j,Y,I.bare,Un.kept kp,⟨λ_=>U,?_,λi y av e1 e2 L=>?_⟩,λy c e=>?_,?_,λy c e=>?_,λp B=>?_,I.hok.kept kp,by rw[Dk];exact I.len⟩
 .show Heap.Ns _ Z.locals _;rw[u];exact Heap.Ns.keeps (Heap.Ns.new ..) λb o e=>EC _ _ _ _ e
 .obtain⟨e2,g⟩:=Dj e2;have hfr:scope.names.lookup y=O .free/\(Z.kindOf y=O .cell\/Z.kindOf y=O .free):=by
   have R:∀k,Z.scope.names.lookup y=O k->k=.local\/k=.cell\/k=.free->scope.names.lookup y=O .free/\(Z.kindOf y=O .cell\/Z.kindOf y=O .free):=λk D E=>by
    have x:=D;rw[F]at D;obtain⟨G,e,r⟩:=Gp D;have no:¬(G=.local\/G=.cell):=λd=>by
     rcases ok.own _ (PySem.mem_of_lookup e) d with M|M
     .obtain⟨p,B,h⟩:=kM.mp M;have L:=ok.ix p B;have:p.1=y:=h;rw[this]at L;exact g (kM.mpr ⟨p,B,EY hN L e1⟩)
     .exact M (dm e1)
    rcases r with rfl|⟨rfl,rfl⟩
    .rcases E with rfl|rfl|rfl
     .exact absurd (.inl rfl) no
     .exact absurd (.inr rfl) no
     .exact⟨e,.inr x⟩
    .exact⟨e,.inl x⟩
   have L:vX Z.scope y:=L;rcases L with L|L|L
   .exact R _ L (.inl rfl)
   .exact R _ L (.inr (.inl rfl))
   .exact R _ L (.inr (.inr rfl))
  obtain⟨m,hn,hl⟩:=I.loc;have A:vX X.env.scope y:=(ok.free _ (PySem.mem_of_lookup hfr.1) Y).elim (λk=>.inr (.inl k)) (λk=>.inr (.inr k));obtain⟨w,r,q⟩:=hl i y av e1 e2 A;refine⟨w,r,.inr ⟨hfr.2,?_⟩⟩;obtain⟨c,T,J⟩:=look hfr.1;rcases q with⟨k,_⟩|⟨_,l,M,z⟩
  .have k:X.env.scope.names.lookup y=O .local:=k;rcases ok.free _ (PySem.mem_of_lookup hfr.1) rfl with G|G<;>rw[show X.env.scope.names.lookup y=_ from G]at k<;>cases k
  .rw[J]at M;cases M;exact⟨c,T,z.keeps kp⟩
 .have e:Z.cells.lookup y=O c:=e;rcases mem e with⟨T,_⟩|⟨_,z⟩
  .obtain⟨w,z⟩:=I.cell y c T;exact⟨w,z.keeps kp⟩
  .exact⟨_,z⟩
 .show H Z.locals=U;rw[u];exact I.hok.fresh (aU _)
 .have e:Z.cells.lookup y=O c:=e;rcases mem e with⟨T,_⟩|⟨T,_⟩
  .exact I.m8 y c T
  .exact I.hok.fresh (JR T)
 .exact absurd (show p∈([]:List (aa×cK))++[] from B) byB
theorem ad_(I:Inv X pins σ H s)(T:H D=O (.lst xs))(hz:xs.length<bf)(r:RelV y v)
 (h:∀s',Inv X pins σ (upd H D (.lst (xs++[y]))) s'->Q .none s'):aP (a_ X.prog X.w) X.A (mz (.builtin "list.append") [.ref D,v]) Q E s:=by
 obtain⟨R,W,n,U,e⟩:=I.hok D _ T;have hl:=U.length;refine append_at (hsz:=by rw[eX];lia) e λh' S Z=>?_;refine h {s with heap:=h' } (I.write (t':=s.toks) (by rw[T];trivial) (.inl Y) (λb u hb q=>(S.2 b hb).trans q) ⟨_,Z⟩ ⟨by rw[fO];exact hz,W++[v],n+1,U.append (.cons r .nil),?_⟩);rw[Z];simp
def yF(X:Cx)(ifs:List ff)(t:TT):Prop:=
 ∀(pins:List (aa×cK))(s:aS)(σ:St)(H:Hp)(Q:Bool->Hp->Prop),Inv X pins σ H s->t σ H Q ->
  aP (a_ X.prog X.w) X.A (forIn ifs true λc r=>if r=true then do let ok <-isTrue c X.env (eval c X.env);pure (ForInStep.yield ok) else pure (ForInStep.yield r)) (TP X pins σ Q) X.xe s
def Wc:TT:=λ_ H Q=>Q true H
theorem o8:yF X [] Wc:=λ_ _ _ H _ I h=>wpAny_tests_nil ⟨H,I,h⟩
theorem vd(h:PT X c t):yF X [c] t:=λpins s σ H Q I Z=>wpAny_tests_one (h pins s σ H Q I Z)
end
theorem uQ(h:aP M A t Q (λ_ _=>False) s)(Z:∀a s,Q a s->Q' a s):aP M A t Q' E s:=nA h Z λ_ _ z=>lC z
theorem adE(I:Nat->aS->Prop)
 (turn:∀n s,I n s->aP (a_ prog w) A (rq it) (λr s₁=>match r with
  |none=>R (.ok .next) s₁
  |some v=>aP (a_ prog w) A (Gu target it v) (λ_ s₁'=>aP (a_ prog w) A (B0 target env v) (λ_ s₂=>
   aP (a_ prog w) A (forIn ifs true λc r=>if r=true then do let ok <-isTrue c env (eval c env);pure (ForInStep.yield ok) else pure (ForInStep.yield r)) (λok s₃=>
    if ok=true then aP (a_ prog w) A (eval elt env) (λx s₄=>
     aP (a_ prog w) A (mz (.builtin "list.append") [acc,x]) (λ_ s₅=>∃m,m<n/\I m s₅) (xJ (a_ prog w) A env λe s'=>R (.error e) s') s₄) (xJ (a_ prog w) A env λe s'=>R (.error e) s') s₃
    else ∃m,m<n/\I m s₃) (xJ (a_ prog w) A env λe s'=>R (.error e) s') s₂) (xJ (a_ prog w) A env λe s'=>R (.error e) s') s₁') (xJ (a_ prog w) A env λe s'=>R (.error e) s') s₁) (xJ (a_ prog w) A env λe s'=>R (.error e) s') s)
 (n:Nat) (h:I n s) :
 uf (a_ prog w) A (.compLoop (.ListComp elt [⟨target,iter,ifs,0⟩] scope pos) 0 it acc env) R s:=by
 refine codeAny_loop Y I (λn s hI=>?_) n h;show aP _ A ((compTurn (.ListComp elt [⟨target,iter,ifs,0⟩] scope pos) 0 it acc env).onRaise (λx=>do noteFrame x env;theTreesLotGoes x)) _ _ s;refine wpAny_noted ?_;rw[compTurn_list];refine aL (Li (aL (nA (turn n s hI) (λr s₁ h₁=>?_) λ_ _ h'=>h')));cases r with
 |none=>exact bC h₁
 |some v=>
  refine aL (nA h₁ (λ_ s₁' h₁'=>?_) λ_ _ h'=>h');refine aL (nA h₁' (λ_ s₂ h₂=>aL (nA h₂ (λok s₃ h₃=>?_) λ_ _ h'=>h')) λ_ _ h'=>h');cases ok with
  |false=>exact bC ⟨Y,h₃⟩
  |true=>exact aL (aL (nA h₃ (λx s₄ h₄=>aL (nA h₄ (λ_ s₅ h₅=>bC (bC ⟨Y,h₅⟩)) λ_ _ h'=>h')) λ_ _ h'=>h'))
section
variable{X:Cx}
def z8(wi:TI)(g:TG)(tt:TT)(te:TE)(vs:List Nat):TE:=λσ H Q=>wi σ H λJ H1=>∀D,H1 D=U->∃W:Nat->Nat->Hp->Prop,(∃m,W 0 m (upd H1 D (.lst [])))/\∀i m H,W i m H ->
 (J.stop i H/\Q (.ref D) H)\/(J.go i H/\∃Nx:Hp->Prop,(∀H',Nx H'->∃m',m'<m/\W (i+1) m' H')/\∀x H',J.lV i H x H'->g x (wipe σ vs) H' λσ2 H2=>wipe σ2 vs=wipe σ vs/\tt σ2 H2 λb H3=>
  if b=true then te σ2 H3 λy H4=>∃acc,H4 D=O (.lst acc)/\acc.length<bf/\Nx (upd H4 D (.lst (acc++[y]))) else Nx H3)
theorem QT{pins:List (aa×cK)}{s:aS}{σ:St}{H:Hp}{Q:VK}{elt tg iter:ff}{ifs:List ff}{scope:lg}{own:List (ak×Nat)}{pos pos':pV}{wi:TI}{g:TG}{tt:TT}{te:TE}{use:Option (ai->Sem Unit)}{Qf:ai->aS->Prop}
 (hc:X.calm=true) (hN:X.N.Nodup) (I:Inv X pins σ H s) (hi:PI X tg iter wi) (ok:zq X.N X.env.scope scope own)
 (hg:∀(s:aS)(H:Hp)(C:aa)(cl:List (ak×aa))(fp:List aa),PG (X.jH s H scope (nS scope cl C X.env) fp) tg g) (ht:∀(s:aS)(H:Hp)(C:aa)(cl:List (ak×aa))(fp:List aa),yF (X.jH s H scope (nS scope cl C X.env) fp) ifs tt)
 (he:∀(s:aS)(H:Hp)(C:aa)(cl:List (ak×aa))(fp:List aa),PE (X.jH s H scope (nS scope cl C X.env) fp) elt te) (hs:∀x,HA iter X.env x=pure x)
 (h:z8 wi g tt te (own.map (·.2)) σ H Q)
 (hRR:∀D C s' m H',Inv X pins σ H' s'->Q (.ref D) H'->s'.heap.Ns C m->nZ X pins H' C->SI (a_ X.prog X.w) X.A X.xe use Qf (.ref D) C (.ok .next) s') :
 aP (a_ X.prog X.w) X.A (comprehension (.ListComp elt [⟨tg,iter,ifs,0⟩] scope pos) scope X.env pos' (newList []) false (di iter X.env) use) Qf X.xe s:=by
 have hfree:∀y∈scope.names,y.2=.free->∃c,X.env.cells.lookup y.1=O c:=λy hy e=>by
  rcases ok.free y hy e with k|k
  .exact I.ok.has _ (.inl k)
  .exact I.ok.has _ (.inr k)
 refine wpAny_comprehension_free (use:=use) Y hs (adL hfree) ok.kind (λy hy e=>by rw[ok.uniq y hy,e])
  (br (hi pins s σ H _ I h) λxv s1 hx=>br hx λitv s2 h2=>?_)
 obtain⟨it,fp,tn,B,H2,e,I2,T,st2,f2,q⟩:=h2;subst e;refine sP (ZG ?_) (by show 0<=bf;decide);generalize hD:s2.heap.objs.size=D;have hDn:H2 D=U:=I2.hok.fresh (Cm hD);obtain⟨W,⟨m0,w0⟩,turn⟩:=q D hDn;generalize Rn:({s2 with heap:=s2.heap.push {cls:=.type "list",data:=.seq ([]:List ai).toArray } }:aS)=s3;have I3:Inv X pins σ (upd H2 D (.lst [])) s3:=by rw[<-Rn];refine I2.laid (t':=s2.toks) (λb o e=>fW _ e) (Cm hD) ⟨cI _,[],0,.nil,?_⟩;rw[<-hD];exact jN _ Y
 have h3:s3.heap=s2.heap.push {cls:=.type "list",data:=.seq ([]:List ai).toArray }:=by rw[<-Rn]
 have sz:∀b∈fp,b<s2.heap.objs.size:=λb hb=>by obtain⟨o,e,_⟩:=T.obj _ _ st2 b hb;exact dO e
 have f3:∀b∈fp,nZ X pins (upd H2 D (.lst [])) b/\b<s3.heap.objs.size:=λb hb=>by have hlt:=sz b hb;refine⟨⟨?_,(f2 b hb).2⟩,by rw[h3,oQ];exact TV hlt⟩;rw[bO (by rw[<-hD];exact iP hlt)];exact(f2 b hb).1
 have st3:tn 0 s3.heap:=T.keep _ _ _ st2 λb _ o e=>by rw[h3];exact fW _ e
 have I4:=ad1 I3 ok hN f3;have pg:=hg s3 (upd H2 D (.lst [])) s3.heap.objs.size (ju (s3.heap.objs.size+1) scope.names (ji X.env.cells scope.names [])) fp;have pt:=ht s3 (upd H2 D (.lst [])) s3.heap.objs.size (ju (s3.heap.objs.size+1) scope.names (ji X.env.cells scope.names [])) fp;have pe:=he s3 (upd H2 D (.lst [])) s3.heap.objs.size (ju (s3.heap.objs.size+1) scope.names (ji X.env.cells scope.names [])) fp;show uf _ _ (.compStart (.ListComp elt [⟨tg,iter,ifs,0⟩] scope pos) 0 (.ref it) (.ref D) (nS scope (ju (s3.heap.objs.size+1) scope.names (ji X.env.cells scope.names [])) s3.heap.objs.size X.env)) (SI (a_ X.prog X.w) X.A X.xe use Qf (.ref D) s3.heap.objs.size) {s3 with heap:=tE (s3.heap.push {cls:=.type "dict",data:=.dict #[] }) scope.names };have Qx:∀b∈fp,(upd H2 D (.lst [])) b=U:=λb hb=>(f3 b hb).1.1;generalize hce:nS scope (ju (s3.heap.objs.size+1) scope.names (ji X.env.cells scope.names [])) s3.heap.objs.size X.env=ce at I4 pg pt pe ⊢;have cL:ce.locals=s3.heap.objs.size:=by subst hce;rfl
 generalize hH3:upd H2 D (.lst [])=H3 at I3 I4 pg pt pe w0 Qx f3;generalize hs4:({s3 with heap:=tE (s3.heap.push {cls:=.type "dict",data:=.dict #[] }) scope.names }:aS)=s4 at I4 ⊢;have MK:tn 0 s4.heap:=T.keep _ _ _ st3 λb _ o e=>by rw[<-hs4];exact EC _ _ _ _ (fW _ e)
 have sV:∀{σ':St}{H':Hp}{s':aS},Inv (X.jH s3 H3 scope ce fp) [] σ' H' s'->(∀b∈fp,H' b=U)->∀b∈fp,nZ (X.jH s3 H3 scope ce fp) [] H' b:=λ{σ' H' s'} I' hn b hb=>
  ⟨hn b hb,(I'.ok.BG b hb).1,I'.ok.ya b hb,.inl hb,λx c e=>(I'.ok.BG b hb).2 x c e,λp hp=>absurd (show p∈([]:List (aa×cK))++[] from hp) byB⟩
 have loop:uf (a_ X.prog X.w) X.A (.compLoop (.ListComp elt [⟨tg,iter,ifs,0⟩] scope pos) 0 (.ref it) (.ref D) ce) (SI (a_ X.prog X.w) X.A X.xe use Qf (.ref D) s3.heap.objs.size) s4:=by
  refine adE (λn s'=>∃i H',Inv (X.jH s3 H3 scope ce fp) [] (wipe σ (own.map (·.2))) H' s'/\tn i s'.heap/\(∀b∈fp,H' b=U)/\W i n H') ?_ m0 ⟨0,H3,I4,MK,Qx,w0⟩;rintro n s5 ⟨i,H5,I5,uT,n5,w5⟩;rcases turn i n H5 w5 with⟨stop,qq⟩|⟨go,Nx,hNx,step⟩
  .have td:=T.done (X.jH s3 H3 scope ce fp) Y Y Y hc i [] s5 _ H5 (λ_ _=>False) I5 (sV I5 n5) uT stop;refine uQ td λr s6 ⟨hr,I6⟩=>?_;subst hr;have I7:Inv X pins σ H5 s6:=I3.adX (ch:=fp) I6.os I6.base I6.hok I6.bare λb hb=>⟨(f3 b hb).1.2.2.2.1,(f3 b hb).1.2.1,(f3 b hb).1.2.2.2.2.1,(f3 b hb).1.2.2.2.2.2⟩;have nC:H5 s3.heap.objs.size=U:=by have z:H5 ce.locals=U:=I6.free;rw[cL]at z;exact z
   obtain⟨m,hn,_⟩:=I6.loc;have hn:s6.heap.Ns ce.locals m:=hn;rw[cL]at hn;exact hRR D s3.heap.objs.size s6 m H5 I7 qq hn (I3.vR (aU _) nC)
  .have ti:=T.item (X.jH s3 H3 scope ce fp) Y Y Y hc i [] s5 _ H5 (λ_ _=>False) I5 (sV I5 n5) uT go;refine uQ ti λr s6 ⟨u,hr,h6⟩=>?_;subst hr;refine uQ h6 λ_ s7 ⟨x,H7,I7,r7,y7,DY,n7⟩=>?_;have I7':=I7.pinned (sV I7 n7) (T.obj _ _ DY);refine uQ (pg _ s7 _ H7 x u _ I7' r7 (step x H7 y7)) λ_ s8 ⟨σ8,H8,I8,Rj,q8⟩=>?_;refine uQ (pt _ s8 σ8 H8 _ I8 q8) λb s9 ⟨H9,I9,q9⟩=>?_;have fin:∀{s':aS}{H':Hp},Inv (X.jH s3 H3 scope ce fp) ([]++xB fp s7.heap) σ8 H' s'->Nx H'->∃m,m<n/\∃i H',Inv (X.jH s3 H3 scope ce fp) [] (wipe σ (own.map (·.2))) H' s'/\tn i s'.heap/\(∀b∈fp,H' b=U)/\W i m H':=λ{s' H'} I' nx=>by
    obtain⟨m',hm,w'⟩:=hNx H' nx;have O9:∀b∈fp,∀o,s7.heap.get? b=O o->s'.heap.get? b=O o/\H' b=U:=λb hb o e=>
     let z:=I'.pin (b,o) (uA _ (uA _ (FG hb e)))
     ⟨z.1,z.2.1⟩
    have hl:J (wipe σ (own.map (·.2)))=J σ8:=by rw[<-Rj,Dk]
    refine⟨m',hm,i+1,H',(I'.zV (pins:=[])).weak hl (λj v e=>?_),T.keep _ _ _ DY λb hb o e=>(O9 b hb o e).1,λb hb=>?_,w'⟩
    .rw[<-Rj]at e;exact(Dj e).1
    .obtain⟨o,e,_⟩:=T.obj _ _ DY b hb;exact(O9 b hb o e).2
   cases b with
   |false=>simp only[De,qB]at q9 ⊢;exact fin I9 q9
   |true=>simp only[pI]at q9 ⊢;refine uQ (pe _ s9 σ8 H9 _ I9 q9) λz s10 ⟨yv,H10,I10,YI,acc,abN,abi,nx⟩=>?_;exact ad_ (X:=X.jH s3 H3 scope ce fp) I10 abN abi YI λs11 I11=>fin I11 nx
 exact codeAny_compStart_list loop (T.self X.A 0 _ _ _ MK loop)
theorem mV(R:X.calm=true)(P:X.N.Nodup)(hi:PI X tg iter wi)(ok:zq X.N X.env.scope scope own)
 (T:∀(s:aS)(H:Hp)(C:aa)(cl:List (ak×aa))(fp:List aa),PG (X.jH s H scope (nS scope cl C X.env) fp) tg g) (ht:∀(s:aS)(H:Hp)(C:aa)(cl:List (ak×aa))(fp:List aa),yF (X.jH s H scope (nS scope cl C X.env) fp) ifs tt)
 (S:∀(s:aS)(H:Hp)(C:aa)(cl:List (ak×aa))(fp:List aa),PE (X.jH s H scope (nS scope cl C X.env) fp) elt te) (W:∀x,HA iter X.env x=pure x:=by intro _;rfl) :
 PE X (.ListComp elt [⟨tg,iter,ifs,0⟩] scope pos) (z8 wi g tt te (own.map (·.2))):=by
 intro pins s σ H Q I h;rw[eval_ListComp];refine QT R P I hi ok T ht S W h λD C s' m H' F q U f=>⟨m,U,λO Z=>?_⟩;obtain⟨G,J,E,K,L,M⟩:=f;exact⟨.ref D,H',F.turned (t':=s'.toks) (λb o hb e=>(Z.2 b hb).trans e) G J K L M,Y,q⟩
theorem EE(hc:X.calm=true)(hN:X.N.Nodup)(hy:X.N[i]?=O y)(hyl:X.env.scope.names.lookup y=O .local)
 (hsw:wX (.ListComp elt [⟨tg,iter,ifs,0⟩] scope pos) (O (.Name y py)) spos.line X.env=pure true) (hi:PI X tg iter wi) (ok:zq X.N X.env.scope scope own)
 (hg:∀(s:aS)(H:Hp)(C:aa)(cl:List (ak×aa))(fp:List aa),PG (X.jH s H scope (nS scope cl C X.env) fp) tg g) (ht:∀(s:aS)(H:Hp)(C:aa)(cl:List (ak×aa))(fp:List aa),yF (X.jH s H scope (nS scope cl C X.env) fp) ifs tt)
 (he:∀(s:aS)(H:Hp)(C:aa)(cl:List (ak×aa))(fp:List aa),PE (X.jH s H scope (nS scope cl C X.env) fp) elt te) (hs:∀x,HA iter X.env x=pure x:=by intro _;rfl) :
 PS X (.Assign [.Name y py] (.ListComp elt [⟨tg,iter,ifs,0⟩] scope pos) spos) (wW (z8 wi g tt te (own.map (·.2))) (t_ i)):=by
 intro pins s σ H D I h;rw[exec_Assign_Name_used _ _ _ _ hsw];refine aL (Li (aL ?_));show aP _ X.A (do let _ <-comprehension (.ListComp elt [⟨tg,iter,ifs,0⟩] scope pos) scope X.env (firstIterPos [⟨tg,iter,ifs,0⟩] pos) (newList []) false (eval iter X.env) (O (assign (.Name y py) X.env))) _ _ s;have h:z8 wi g tt te (own.map (·.2)) σ H (λx H1=>t_ i x σ H1 D.nx):=h;refine aL (br (QT (Qf:=λ_ s'=>SP X pins D .next s') hc hN I hi ok hg ht he hs h λL C s' m H' I' q hn f=>?_) λ_ s' hq=>bC (bC hq));show aP _ _ (assign (.Name y py) X.env (.ref L)) _ _ _;refine Vd (Mz (v:=V.ref L) I' hN hy (.inl hyl) Y (λs2 I2 ⟨a,sb,ha⟩=>?_) (.inr hyl));obtain⟨f0,f1,f2,f3,f4,f5⟩:=f;have haC:C≠a:=by
  rcases ha with z|z
  .rw[z];exact f1
  .exact λe=>f4 y a z e.symm
 refine⟨m,hn.sameBut sb haC,λh3 Ym=>?_⟩;exact⟨_,H',I2.turned (t':=s2.toks) (λb o hb e=>(Ym.2 b hb).trans e) f0 f1 f3 f4 f5,q⟩
end
theorem Gx{lo:Int}{n:Nat}{g:TG}{S:TT}{te:TE}{vs:List Nat}{σ:St}{H1:Hp}{D:aa}{Q:Hp->Prop}(U:Nat->Hp->Prop)(M:U 0 (upd H1 D (.lst [])))
 (N:∀i H,i<n->U i H->g (.int (lo+i)) (wipe σ vs) H λZ H2=>wipe Z vs=wipe σ vs/\S Z H2 λb H3=>
  if b=true then te Z H3 λy H4=>∃acc,H4 D=O (.lst acc)/\J acc<bf/\U (i+1) (upd H4 D (.lst (acc++[y]))) else U (i+1) H3) (hd:∀H,U n H->Q H) :
 ∃W:Nat->Nat->Hp->Prop,(∃m,W 0 m (upd H1 D (.lst [])))/\∀i m H,W i m H ->
  ((nu lo n).stop i H/\Q H)\/((nu lo n).go i H/\∃T:Hp->Prop,(∀H',T H'->∃R,R<m/\W (i+1) R H')/\∀x H',(nu lo n).lV i H x H'->g x (wipe σ vs) H' λZ H2=>wipe Z vs=wipe σ vs/\S Z H2 λb H3=>
   if b=true then te Z H3 λy H4=>∃acc,H4 D=O (.lst acc)/\J acc<bf/\T (upd H4 D (.lst (acc++[y]))) else T H3):=by
 refine⟨λi m H=>m=n-i/\i<=n/\U i H,⟨n,byB,cI _,M⟩,?_⟩;rintro i m H ⟨rfl,hi,p⟩;by_cases Y:i<n
 .refine .inr ⟨Y,U (i+1),λH' P=>⟨n-(i+1),byA,rfl,Y,P⟩,λx H' y=>?_⟩;obtain⟨e,y⟩:=y;subst e y;exact N i _ Y p
 .have e:i=n:=by lia
  subst e;exact .inl ⟨aU _,hd H p⟩
theorem Gy{K:PySem.W.Frag}{a:aa}{xs:List V}{g:TG}{S:TT}{te:TE}{vs:List Nat}{σ:St}{H1:Hp}{D:aa}{Q:Hp->Prop}(Y:Nat->Hp->Prop)(M:Y 0 (upd H1 D (.lst [])))(hl:∀i H,i<=J xs->Y i H->aj K H a xs)
 (N:∀i x H,xs[i]?=O x->Y i H->g x (wipe σ vs) H λZ H2=>wipe Z vs=wipe σ vs/\S Z H2 λb H3=>
  if b=true then te Z H3 λy H4=>∃acc,H4 D=O (.lst acc)/\J acc<bf/\Y (i+1) (upd H4 D (.lst (acc++[y]))) else Y (i+1) H3) (hd:∀H,Y (J xs) H->Q H) :
 ∃W:Nat->Nat->Hp->Prop,(∃m,W 0 m (upd H1 D (.lst [])))/\∀i m H,W i m H ->
  ((oN K a).stop i H/\Q H)\/((oN K a).go i H/\∃T:Hp->Prop,(∀H',T H'->∃R,R<m/\W (i+1) R H')/\∀x H',(oN K a).lV i H x H'->g x (wipe σ vs) H' λZ H2=>wipe Z vs=wipe σ vs/\S Z H2 λb H3=>
   if b=true then te Z H3 λy H4=>∃acc,H4 D=O (.lst acc)/\J acc<bf/\T (upd H4 D (.lst (acc++[y]))) else T H3):=by
 refine⟨λi m H=>m=J xs-i/\i<=J xs/\Y i H,⟨J xs,byB,cI _,M⟩,?_⟩;rintro i m H ⟨rfl,hi,p⟩;have q:=hl i H hi p;by_cases U:i<J xs
 .refine .inr ⟨⟨xs,xs[i],q,by simp[U]⟩,Y (i+1),λH' P=>⟨J xs-(i+1),byA,rfl,U,P⟩,λx H' y=>?_⟩;obtain⟨e,y⟩:=y;subst e;exact N i x _ (y xs q) p
 .have e:i=J xs:=by lia
  subst e;exact .inl ⟨⟨xs,q,aU _⟩,hd H p⟩
def j5(N:List ak)(sc scope:lg)(own:List (ak×Nat)):Bool:=
 (match scope.kind with|.function=>true|_=>false)&&(scope.names.all λy=>decide (scope.names.lookup y.1=O y.2))&&(own.all λp=>decide (N[p.2]?=O p.1)) &&
  (scope.names.all λy=>match y.2 with
   |.free=>(match sc.names.lookup y.1 with|some .cell=>true|some .free=>true|_=>false)
   |.local=>decide (y.1∈own.map (·.1)) || decide (y.1∉N)
   |.cell=>decide (y.1∈own.map (·.1)) || decide (y.1∉N)
   |_=>true)
theorem k9(h:j5 N sc scope own=true):zq N sc scope own:=by
 unfold j5 at h;simp only[eO,qa,m9]at h;obtain⟨⟨⟨W,T⟩,U⟩,Y⟩:=h;refine⟨?_,T,U,λy Z e=>?_,λy Z e=>?_⟩
 .split at W
  .assumption
  .cases W
 .have q:=Y y Z;simp only[e]at q;split at q<;>first|exact .inl (by assumption)|exact .inr (by assumption)|cases q
 .have q:=Y y Z;rcases e with e|e<;>(simp only[e,Bool.or_eq_true,m9]at q;exact q)
end L2
namespace L2
open PySem PySem.Spec PyProof.Rows
section
variable{κ:Type}[DecidableEq κ]
def bU(kvs:List (κ×V))(k:κ):Option V:=(kvs.find? λkv=>decide (kv.1=k)).map (·.2)
def putK(kvs:List (κ×V))(k:κ)(v:V):List (κ×V):=
 if(kvs.any λkv=>decide (kv.1=k))=true then kvs.map (λkv=>if kv.1=k then(kv.1,v) else kv) else kvs++[(k,v)]
theorem kP{p:κ×V}{r:List (κ×V)}{k:κ}(e:p.1=k):bU (p::r) k=O p.2:=by simp[bU,sI,e]
theorem kQ{p:κ×V}{r:List (κ×V)}{k:κ}(e:¬p.1=k):bU (p::r) k=bU r k:=by simp[bU,sI,e]
theorem qT(k:κ):∀kvs:List (κ×V),(kvs.any λkv=>decide (kv.1=k))=(bU kvs k).isSome
 |[]=>rfl
 |p::r=>by
  rw[p_];by_cases e:p.1=k
  .simp only[kP e,bJ e,Lc,aeJ]
  .rw[kQ e,bP e,zm];exact qT k r
theorem LJ(k j:κ)(y:V):∀kvs:List (κ×V),bU (kvs.map λkv=>if kv.1=k then(kv.1,y) else kv) j=(bU kvs j).map λx=>if j=k then y else x
 |[]=>rfl
 |p::r=>by
  have Z:=LJ k j y r;rw[bL];by_cases h:p.1=k
  .rw[aD h];by_cases e:p.1=j
   .rw[kP (p:=(p.1,y)) e,kP e,kg,aD (e.symm.trans h)]
   .rw[kQ (p:=(p.1,y)) e,kQ e,Z]
  .rw[ao h];by_cases e:p.1=j
   .rw[kP (p:=p) e,kP e,kg,ao (λz=>h (e.trans z))]
   .rw[kQ (p:=p) e,kQ e,Z]
theorem wN(k j:κ)(y:V):∀kvs:List (κ×V),bU kvs k=U->bU (kvs++[(k,y)]) j=if j=k then O y else bU kvs j
 |[],_=>by
  by_cases e:k=j
  .rw[aD e.symm];exact kP (p:=(k,y)) e
  .rw[ao (λz=>e z.symm)];exact kQ (p:=(k,y)) e
 |p::r,Z=>by
  rw[CM];have Y:¬p.1=k:=λz=>by rw[kP z]at Z;cases Z
  rw[kQ Y]at Z;have W:=wN k j y r Z;by_cases e:p.1=j
  .rw[kP e,kP e,ao (λz=>Y (e.trans z))]
  .rw[kQ e,kQ e,W]
theorem zQ(kvs:List (κ×V))(k j:κ)(y:V):bU (putK kvs k y) j=if j=k then O y else bU kvs j:=by
 unfold putK;by_cases a:(kvs.any λkv=>decide (kv.1=k))=true
 .rw[aD a,LJ];rw[qT]at a;by_cases e:j=k
  .obtain⟨x,hx⟩:=we.mp a;rw[aD e,e,hx,kg,aD rfl]
  .rw[ao e];cases bU kvs j with
   |none=>rfl
   |some x=>rw[kg,ao e]
 .rw[ao a];refine wN k j y kvs ?_;rw[qT]at a;cases q:bU kvs k with
  |none=>rfl
  |some x=>rw[q]at a;exact(a Y).elim
theorem Gw(kvs:List (κ×V))(k:κ)(v:V):J (putK kvs k v)<=J kvs+1:=by
 unfold putK;split
 .rw[aM];lia
 .rw[fO,iI,yP];lia
theorem Av{kvs:List (κ×V)}{k:κ}(v:V)(h:bU kvs k=U):putK kvs k v=kvs++[(k,v)]:=by unfold putK;rw[qT,h];exact ao byD
theorem kc.x6(r:kc o u):o.isSome=u.isSome:=by
 cases o with
 |none=>cases u with
  |none=>rfl
  |some _=>exact(show False from r).elim
 |some _=>cases u with
  |none=>exact(show False from r).elim
  |some _=>rfl
theorem kc.getD(r:kc o u)(rd:RelV d d'):RelV (o.getD d) (u.getD d'):=by
 cases o with
 |none=>cases u with
  |none=>exact rd
  |some _=>exact(show False from r).elim
 |some _=>cases u with
  |none=>exact(show False from r).elim
  |some _=>exact r
theorem KV.val{kvs:List (κ×V)}{vs:List (κ×ai)}(r:KV kvs vs)(k:κ):kc (bU kvs k) (uK vs k):=by
 unfold KV at r
 induction r with
 |nil=>exact qJ
 |@cons p q ps Z h t U=>
  obtain⟨W,T⟩:=h;by_cases e:p.1=k
  .have Y:q.1=k:=W.symm.trans e;have b:uK (q::Z) k=O q.2:=by simp[uK,sI,Y]
   rw[kP e,b];exact T
  .have Y:¬q.1=k:=λz=>e (W.trans z);have b:uK (q::Z) k=uK Z k:=by simp[uK,sI,Y]
   rw[kQ e,b];exact U
theorem KV.any(r:KV kvs vs)(k:κ):(kvs.any λkv=>decide (kv.1=k))=vs.any λkv=>decide (kv.1=k):=by
 unfold KV at r
 induction r with
 |nil=>rfl
 |cons h t Z=>rw[p_,p_,Z,h.1]
theorem KV.repl(r:KV kvs vs)(k:κ)(Y:RelV y u):
 KV (kvs.map λkv=>if kv.1=k then(kv.1,y) else kv) (vs.map λkv=>if kv.1=k then(kv.1,u) else kv):=by
 unfold KV at r ⊢
 induction r with
 |nil=>exact .nil
 |@cons p q ps T h t W=>
  rw[bL,bL];refine .cons ?_ W;obtain⟨Z,U⟩:=h;by_cases e:p.1=k
  .rw[aD e,aD (Z.symm.trans e)];exact⟨Z,Y⟩
  .rw[ao e,ao (λz=>e (Z.trans z))];exact⟨Z,U⟩
theorem KV.put(r:KV kvs vs)(k:κ)(Z:RelV y u):KV (putK kvs k y) (DV vs k u):=by
 unfold putK DV;rw[r.any k];by_cases e:(vs.any λkv=>decide (kv.1=k))=true
 .rw[aD e,aD e];exact r.repl k Z
 .rw[ao e,ao e];exact Paired.snoc r ⟨Y,Z⟩
theorem KV.length(r:KV kvs vs):kvs.length=vs.length:=Paired.length r
end
theorem rO(r:RelV (kV k) u):(jT P w).is k u=true:=by
 cases k with
 |inl i=>obtain⟨t,e⟩:=(show ∃t,u=uu i t from r);subst e;exact ZU P w i t
 |inr x=>obtain⟨t,e⟩:=(show ∃t,u=Jt x t from r);subst e;exact ZT P w x t
abbrev KT(H:Hp):List (Hn.NK×V)->List (Hn.NK×aa×ai)->Prop:=Paired λp q=>p.1=q.1/\kO H p.1 q.2.1/\RelV p.2 q.2.2
theorem KT.val{H:Hp}{kvs:List (Hn.NK×V)}{xs:List (Hn.NK×aa×ai)}(r:KT H kvs xs)(k:Hn.NK):kc (bU kvs k) ((nU xs k).map (·.2)):=by
 induction r with
 |nil=>exact qJ
 |@cons p q ps Z h t U=>
  obtain⟨W,_,T⟩:=h;by_cases e:p.1=k
  .have Y:q.1=k:=W.symm.trans e;have b:nU (q::Z) k=O q.2:=by simp[nU,sI,Y]
   rw[kP e,b];exact T
  .have Y:¬q.1=k:=λz=>e (W.trans z);have b:nU (q::Z) k=nU Z k:=by simp[nU,sI,Y]
   rw[kQ e,b];exact U
theorem KT.repl(r:KT H kvs xs)(k:Hn.NK)(W:RelV y u):
 KT H (kvs.map λkv=>if kv.1=k then(kv.1,y) else kv) (xs.map (putAt k u)):=by
 induction r with
 |nil=>exact .nil
 |@cons p q ps S h t U=>
  rw[bL,bL];refine .cons ?_ U;obtain⟨Z,Y,T⟩:=h;unfold putAt;by_cases e:p.1=k
  .rw[aD e,aD (Z.symm.trans e)];exact⟨Z,Y,W⟩
  .rw[ao e,ao (λz=>e (Z.trans z))];exact⟨Z,Y,T⟩
theorem KT.put(r:KT H kvs xs)(k:Hn.NK)(hb:kO H k b)(Z:RelV y u):
 KT H (putK kvs k y) (DU xs k b u):=by
 have e:(kvs.any λkv=>decide (kv.1=k))=(nU xs k).isSome:=by rw[qT,(r.val k).x6,JK]
 unfold putK DU;rw[e];by_cases q:(nU xs k).isSome=true
 .rw[aD q,aD q];exact r.repl k Z
 .rw[ao q,ao q];exact Paired.snoc r ⟨Y,hb,Z⟩
theorem KT.keeps(r:KT H kvs xs)(ht:∀b ys,H b=O (.tup ys)->H' b=O (.tup ys)):KT H' kvs xs:=
 Paired.l_ r λ_ _ z=>⟨z.1,z.2.1.mono ht,z.2.2⟩
section
variable{P:Program}{w:World}{H:Hp}{h:Heap}{a:Addr}
theorem OI(ok:d_ P w H h)(e:Rd H a u):e7 P w H h a u:=e.ok ok
theorem qI(ok:d_ P w H h)(e:Rd H a (.dK kvs)):J kvs<=bf/\(a==jx)=false/\∃vs,KV kvs vs/\h.DictOf (jT P w) a vs:=
 show e7 P w H h a (.dK kvs) from OI ok e
theorem Sk(ok:d_ P w H h)(e:H a=O (.dK kvs)):J kvs<=bf/\(a==jx)=false/\∃vs,KV kvs vs/\h.DictOf (jT P w) a vs:=qI ok (.inl e)
mutual
theorem NV.is(ok:d_ P w H h):∀{k:Hn.NK}{v:V}{u:ai},NV H k v->RelV v u->Hn.Is h k u
 |.az,v,u,hv,r=>by
  have e:v=.az:=by simpa [NV]using hv
  subst e;have Z:u=Value.none:=r;simpa [Hn.Is]using Z
 |.int i,v,u,hv,r=>by
  have e:v=.int i:=by simpa [NV]using hv
  subst e;have Z:∃t,u=uu i t:=r;simpa [Hn.Is]using Z
 |.tup l,v,u,hv,r=>by unfold NV at hv;obtain⟨a,xs,e,T,U⟩:=hv;subst e;obtain rfl:u=dG a:=r;obtain⟨_,W,rr,o,Q,R,n,S⟩:=(show e7 P w H h a (.tup xs) from ok a _ T);unfold Hn.Is;exact⟨a,o,W.toArray,n,Y,Q,R,S,by simpa using fG.is ok U rr⟩
theorem fG.is(ok:d_ P w H h):∀{l:List Hn.NK}{vs:List V}{us:List ai},fG H l vs->Vals vs us->Hn.IsL h l us
 |[],vs,us,hv,r=>by
  have e:vs=[]:=by simpa [fG]using hv
  subst e;cases r;simp[Hn.IsL]
 |k::l,vs,us,hv,r=>by
  unfold fG at hv;obtain⟨v,S,e,T,U⟩:=hv;subst e;cases r with
  |cons W Z=>unfold Hn.IsL;exact⟨_,_,Y,NV.is ok T W,fG.is ok U Z⟩
end
theorem rN(ok:d_ P w H h)(e:kO H k a):(Hn.qy P w).is h k a:=⟨e.2.is ok (show RelV (.ref a) (dG a) from Y),e.1⟩
theorem rV(ok:d_ P w H h)(e:Rd H a (.dT kvs)):J kvs<=bf/\(a==jx)=false /\
 ∃xs,KT H kvs xs/\h.DictOfH (Hn.qy P w) a xs:=by
 obtain⟨z,y,xs,r,o,Q,O,R,S,T,U,W⟩:=(show e7 P w H h a (.dT kvs) from OI ok e);refine⟨z,y,xs,r,o,Q,O,R,S,T,U,λx hx=>?_,W⟩;have all:∀{l:List (Hn.NK×V)}{m:List (Hn.NK×aa×ai)},KT H l m->∀x∈m,(Hn.qy P w).is h x.1 x.2.1:=by
  intro l m q
  induction q with
  |nil=>intro x hx;exact nomatch hx
  |@cons p q ps N Z t Y=>
   intro x hx;rcases bE.mp hx with e|hx
   .subst e;exact rN ok (by rw[<-Z.1];exact Z.2.1)
   .exact Y x hx
 exact all r x hx
theorem IU(ok:d_ P w H h)(e:H a=O (.dT kvs)):J kvs<=bf/\(a==jx)=false /\
 ∃xs,KT H kvs xs/\h.DictOfH (Hn.qy P w) a xs:=rV ok (.inl e)
end
def ny(H:Hp)(a:aa)(y:V)(r:Option V):Prop:=
 (∃kvs k,Rd H a (.dK kvs)/\y=kV k/\r=bU kvs k)\/∃kvs k b,Rd H a (.dT kvs)/\y=.ref b/\kO H k b/\r=bU kvs k
def nv(H:Hp)(a:aa)(y v:V)(H':Hp):Prop:=
 (∃kvs k,H a=O (.dK kvs)/\y=kV k/\J kvs<bf/\H'=upd H a (.dK (putK kvs k v))) \/
 ∃kvs k b,H a=O (.dT kvs)/\y=.ref b/\kO H k b/\J kvs<bf/\H'=upd H a (.dT (putK kvs k v))
theorem ny.k{H:Hp}{a:aa}{kvs:List (Key×V)}{k:Key}(e:H a=O (.dK kvs)):ny H a (kV k) (bU kvs k):=.inl ⟨kvs,k,.inl e,Y,Y⟩
theorem nv.k{H:Hp}{a:aa}{kvs:List (Key×V)}{k:Key}{v:V}(e:H a=O (.dK kvs))(hl:J kvs<bf):nv H a (kV k) v (upd H a (.dK (putK kvs k v))):=.inl ⟨kvs,k,e,Y,hl,Y⟩
theorem nv.t{H:Hp}{a b:aa}{kvs:List (Hn.NK×V)}{k:Hn.NK}{v:V}(e:H a=O (.dT kvs))(Z:kO H k b)(hl:J kvs<bf):
 nv H a (.ref b) v (upd H a (.dT (putK kvs k v))):=.inr ⟨kvs,k,b,e,Y,Z,hl,Y⟩
section
variable{X:Cx}{pins:List (Addr×Obj)}{σ:St}{H:Hp}{s:Shared}{a:Addr}{y v:V}{u r:Value}{o:Option V}{A:Around}{E:Value->Shared->Prop}
theorem Inv.big(I:Inv X pins σ H s):jx<s.heap.objs.size:=by have h:jr<s.heap.objs.size:=(I.mod.glob.keeps I.bk).lt;exact JO byD h
theorem ady(P:A.units+9<jj)(I:Inv X pins σ H s)(g:ny H a y (O v))(R:RelV y u)(h:∀W s',Inv X pins σ H s'->RelV v W->Q W s'):
 aP (a_ X.prog X.w) A (qE (.ref a) u) Q E s:=by
 rcases g with⟨kvs,k,e,ey,l⟩|⟨kvs,k,b,e,ey,eb,l⟩
 .subst ey;obtain⟨z,hd,vs,Y,S⟩:=qI I.hok e;obtain⟨W,U,Z⟩:=kc.some_of (v:=v) (o:=uK vs k) (by rw[l];exact Y.val k);exact wpAny_getItem_of (rO R) S.mapOf U (h W _ (I.tok _) Z)
 .subst ey;cases (show u=dG b from R);obtain⟨z,hd,xs,Y,S⟩:=rV I.hok e;obtain⟨W,U,Z⟩:=kc.some_of (v:=v) (o:=(nU xs k).map (·.2)) (by rw[l];exact Y.val k);obtain⟨p,N,T⟩:=eZ.mp U;refine wpAny_getItem_heap (Hn.tO P) (rN I.hok eb) S N ?_;rw[T];exact h W _ (I.tok _) Z
theorem adx(U:A.units+9<jj)(I:Inv X pins σ H s)(g:ny H a y o)(W:RelV y u)(h:∀s',Inv X pins σ H s'->Q (.bool o.isSome) s'):
 aP (a_ X.prog X.w) A (nR .In u (.ref a)) Q E s:=by
 rcases g with⟨kvs,k,e,ey,l⟩|⟨kvs,k,b,e,ey,eb,l⟩
 .subst ey;obtain⟨z,hd,vs,Z,Y⟩:=qI I.hok e;refine wpAny_in_of (rO W) hd Y.mapOf ?_;rw[<-(Z.val k).x6,<-l];exact h _ (I.tok _)
 .subst ey;cases (show u=dG b from W);obtain⟨z,hd,xs,Z,Y⟩:=rV I.hok e;refine wpAny_in_heap (Hn.tO U) (rN I.hok eb) hd Y ?_;have q:=(Z.val k).x6;rw[JK]at q;rw[<-q,<-l];exact h _ (I.tok _)
theorem adv(U:A.units+9<jj)(I:Inv X pins σ H s)(g:ny H a y o)(W:RelV y u)(h:∀s',Inv X pins σ H s'->Q (.bool (!o.isSome)) s'):
 aP (a_ X.prog X.w) A (nR .NotIn u (.ref a)) Q E s:=by
 rcases g with⟨kvs,k,e,ey,l⟩|⟨kvs,k,b,e,ey,eb,l⟩
 .subst ey;obtain⟨z,hd,vs,Z,Y⟩:=qI I.hok e;refine wpAny_notIn_of (rO W) hd Y.mapOf ?_;rw[<-(Z.val k).x6,<-l];exact h _ (I.tok _)
 .subst ey;cases (show u=dG b from W);obtain⟨z,hd,xs,Z,Y⟩:=rV I.hok e;refine wpAny_notIn_heap (Hn.tO U) (rN I.hok eb) hd Y ?_;have q:=(Z.val k).x6;rw[JK]at q;rw[<-q,<-l];exact h _ (I.tok _)
theorem BP(I:Inv X pins σ H s)(Z:sH (H a))(Y:sM a s.heap h')(W:∃q,h'.get? a=O q)(new:e7 X.prog X.w (upd H a ob) h' a ob):
 Inv X pins σ (upd H a ob) {s with heap:=h',toks:=t' }:=
 I.write (x:=a) (e:=a) Z (.inl rfl) (λb q hb z=>(Y.2 b hb).trans z) W new
theorem Sl(z:J kvs<=bf)(hd:(a==jx)=false)(Z:KV kvs vs)(Y:h'.DictOf (jT P w) a vs):
 e7 P w H' h' a (.dK kvs):=⟨z,hd,vs,Z,Y⟩
theorem adu(N:A.units+9<jj)(I:Inv X pins σ H s)(g:nv H a y v H')(R:RelV y u)(rv:RelV v r)(h:∀s',Inv X pins σ H' s'->Q () s'):
 aP (a_ X.prog X.w) A (setItem (.ref a) u r) Q E s:=by
 rcases g with⟨kvs,k,e,ey,l,eH⟩|⟨kvs,k,b,e,ey,eb,l,eH⟩
 .subst ey eH;obtain⟨z,hd,vs,Z,S⟩:=Sk I.hok e;have U:vs.length<=sizeLine:=by rw[<-Z.length];exact z
  have hl:(putK kvs k v).length<=sizeLine:=by have:=Gw kvs k v;lia
  refine wpAny_setItem_pairs (hsz:=U) (rO R) S λh' Y T=>h _ ?_;have M:∃q,h'.get? a=O q:=let ⟨q,_,_,W,_⟩:=Y;⟨q,W⟩;exact BP I (by rw[e];exact qJ) T M (Sl hl hd (Z.put k rv) Y)
 .subst ey eH;cases (show u=dG b from R);obtain⟨z,hd,xs,Z,S⟩:=IU I.hok e;have U:xs.length<=sizeLine:=by rw[<-Paired.length Z];exact z
  have hl:(putK kvs k v).length<=sizeLine:=by have:=Gw kvs k v;lia
  refine wpAny_setItem_heap (hsz:=U) (Hn.tO N) (rN I.hok eb) S λh' Y T=>h _ ?_;obtain⟨q,F,D,W,G,J,K,_,L⟩:=Y;refine BP I (by rw[e];exact qJ) T ⟨q,W⟩ ⟨hl,hd,_,(Z.put k eb rv).keeps λc ys P=>?_,q,F,D,W,G,J,K,L⟩;rw[bO (bZ P e (λz=>nomatch z))];exact P
end
section
variable{X:Cx}{pins:List (Addr×Obj)}{σ:St}{H:Hp}{s:Shared}{a:Addr}{kvs:List (Key×V)}{k:Key}{u:Value}{A:Around}{E:Value->Shared->Prop}
theorem adw(I:Inv X pins σ H s)(e:Rd H a (.dK kvs))(h:∀t s',Inv X pins σ H s'->Q (.int kvs.length t) s'):aP (a_ X.prog X.w) A (mz (.builtin "len") [.ref a]) Q E s:=by obtain⟨z,hd,vs,Z,Y⟩:=qI I.hok e;refine call_len_dict hd Y (by rw[<-Z.length];rw[c8]at z;lia) ?_;rw[<-Z.length];exact h _ _ (I.tok _)
end
def TN(i:ff):Prop:=∀ov iv,DR i false ov iv=Pp [ov,iv] (qE ov iv)
theorem WL{prog:fV}{w:d9}{A:jd}{E:ai->aS->Prop}{s:aS}{env:i0}{value slice:ff}{pos:pV}{T id:String}{Q:ai->aS->Prop}
 (hl:LS (.type T) "__getitem__"=pure (O (.builtin id))) (hs:TN slice)
 (h:aP (a_ prog w) A (di value env) (λo s₁=>aP (a_ prog w) A (di slice env) (λi s₂=>s₂.TypeIs o T/\aP (a_ prog w) A (qE o i) Q E s₂) E s₁) E s) :
 aP (a_ prog w) A (di (.Subscript value slice pos) env) Q E s:=by
 refine Jw (nA h (λo s₁ h₁=>nA h₁ (λi s₂ h₂=>?_) λ_ _ x=>x) λ_ _ x=>x);obtain⟨hT,h₂⟩:=h₂;unfold DS;refine aL ?_;rw[getitemInPython_of_ne hT.not_modules];refine aL (wI hT hl ?_);have fin:aP (a_ prog w) A (DR slice false o i) (λr s₃=>aP (a_ prog w) A (letTemporaryGo value o r >>= λ_=>pure r) Q E s₃) E s₂:=by rw[hs o i];exact wpAny_operating (nA h₂ (λr s₃ h₃=>aL (wpAny_letTemporaryGo (bC h₃))) λ_ _ x=>x)
 first
  |exact bC (aL fin)
  |exact aL (bC (aL fin))
  |exact aL fin
theorem adm(I:Inv X pins σ H s)(g:ny H a y o):s.TypeIs (.ref a) "dict":=by
 rcases g with⟨kvs,k,e,_,_⟩|⟨kvs,k,b,e,_,_,_⟩
 .obtain⟨_,_,vs,_,Z⟩:=qI I.hok e;exact Z.typeIs
 .obtain⟨_,_,xs,_,Z⟩:=rV I.hok e;exact Z.typeIs
inductive UC(x y:V)(H:Hp)(Q:VK):Prop
 |mk(a:aa)(v:V)(_:x=.ref a)(_:ny H a y (O v))(_:Q v H):UC x y H Q
def WB(td ty:TE):TE:=λσ H Q=>td σ H λx H1=>ty σ H1 λy H2=>UC x y H2 Q
inductive K8(x y:V)(H:Hp)(Q:Bool->Prop):Prop
 |mk(a:aa)(o:Option V)(_:x=.ref a)(_:ny H a y o)(_:Q o.isSome):K8 x y H Q
def Wy(ty td:TE):TE:=λσ H Q=>ty σ H λy H1=>td σ H1 λx H2=>K8 x y H2 λb=>Q (.bl b) H2
def Wv(ty td:TE):TE:=λσ H Q=>ty σ H λy H1=>td σ H1 λx H2=>K8 x y H2 λb=>Q (.bl (!b)) H2
inductive UB(x y v:V)(H:Hp)(k:Hp->Prop):Prop
 |mk(a:aa)(H4:Hp)(_:x=.ref a)(_:nv H a y v H4)(_:k H4):UB x y v H k
def Yp(td ty tv:TE):TS:=λD σ H=>tv σ H λv H1=>td σ H1 λx H2=>ty σ H2 λy H3=>UB x y v H3 λH4=>D.nx σ H4
section
variable{X:Cx}{o i e value:Expr}{pos pos' tpos:Pos}{td ty tv:TE}
theorem ow(hu:X.A.units+9<jj)(ho:PE X o td)(hi:PE X i ty)(hs:TN i):PE X (.Subscript o i pos) (WB td ty):=by intro pins s σ H Q I h;refine WL PySem.F.slot_dict_getitem.lookup hs (br (ho pins s σ H _ I h) λu s1 ⟨x,H1,I1,rx,q1⟩=>br (hi pins s1 σ H1 _ I1 q1) λiv s2 ⟨y,H2,I2,ry,a,v,ex,g,q2⟩=>?_);subst ex;obtain rfl:u=dG a:=rx;exact⟨adm I2 g,ady hu I2 g ry λw' s3 I3 rw'=>⟨v,H2,I3,rw',q2⟩⟩
theorem Y_(hu:X.A.units+9<jj)(hi:PE X i ty)(ho:PE X o td):PC X .In i o (Wy ty td):=by intro pins s σ H Q I h;refine br (hi pins s σ H _ I h) λiv s1 ⟨y,H1,I1,ry,q1⟩=>br (ho pins s1 σ H1 _ I1 q1) λu s2 ⟨x,H2,I2,rx,a,ov,ex,g,q2⟩=>?_;subst ex;obtain rfl:u=dG a:=rx;exact adx hu I2 g ry λs3 I3=>⟨.bl ov.isSome,H2,I3,Y,q2⟩
theorem EK(hu:X.A.units+9<jj)(hi:PE X i ty)(ho:PE X o td):PC X .NotIn i o (Wv ty td):=by intro pins s σ H Q I h;refine br (hi pins s σ H _ I h) λiv s1 ⟨y,H1,I1,ry,q1⟩=>br (ho pins s1 σ H1 _ I1 q1) λu s2 ⟨x,H2,I2,rx,a,ov,ex,g,q2⟩=>?_;subst ex;obtain rfl:u=dG a:=rx;exact adv hu I2 g ry λs3 I3=>⟨.bl (!ov.isSome),H2,I3,Y,q2⟩
theorem tF(hu:X.A.units+9<jj)(ho:PE X o td)(hi:PE X i ty)(hv:PE X value tv)(hs:wX value (O (.Subscript o i pos')) pos.line X.env=pure false):
 PS X (.Assign [.Subscript o i pos'] value pos) (Yp td ty tv):=by
 intro pins s σ H D I h;refine wpAny_Assign_Subscript (br (hv pins s σ H _ I h) λr s1 ⟨v,H1,I1,rv,q1⟩=>br (ho pins s1 σ H1 _ I1 q1) λu s2 ⟨x,H2,I2,rx,q2⟩=>br (hi pins s2 σ H2 _ I2 q2) λiv s3 ⟨y,H3,I3,ry,a,H4,ex,g,q3⟩=>?_) hs;subst ex;obtain rfl:u=dG a:=rx;exact adu hu I3 g ry rv λs4 I4=>⟨σ,H4,I4,q3⟩
end
theorem adl(h:dj)(hb:jx<h.objs.size):e7 P w H (h.push {cls:=.type "dict",data:=.dict #[] }) h.objs.size (.dK []):=
 ⟨cI _,r9.mpr (cO (iP hb)),[],.nil,afw h⟩
theorem adk(h:dj)(hb:jx<h.objs.size):e7 P w H (h.push {cls:=.type "dict",data:=.dict #[] }) h.objs.size (.dT []):=
 ⟨cI _,r9.mpr (cO (iP hb)),[],.nil,_,#[],0,jN _ rfl,⟨rfl,rfl,rfl⟩,rfl,rfl,p9⟩
def Wx:TE:=λ_ H Q=>∀p,H p=U->Q (.ref p) (upd H p (.dK []))
def Ww:TE:=λ_ H Q=>∀p,H p=U->Q (.ref p) (upd H p (.dT []))
section
variable{X:Cx}{pos:Pos}
theorem qv:PE X (.Dict [] [] pos) Wx:=λpins s σ H Q I h=>
 Ve ⟨.ref s.heap.objs.size,_,I.laid (a:=s.heap.objs.size) (o:=.dK []) (t':=s.toks) (λ_ _ q=>fW _ q) (aU _) (adl s.heap I.big),rfl,h _ (I.hok.fresh (aU _))⟩
theorem AB:PE X (.Dict [] [] pos) Ww:=λpins s σ H Q I h=>
 Ve ⟨.ref s.heap.objs.size,_,I.laid (a:=s.heap.objs.size) (o:=.dT []) (t':=s.toks) (λ_ _ q=>fW _ q) (aU _) (adk s.heap I.big),rfl,h _ (I.hok.fresh (aU _))⟩
end
def oA(kvs more:List (Key×V)):List (Key×V):=more.foldl (λacc kv=>putK acc kv.1 kv.2) kvs
theorem KV.merge:∀{more:List (Key×V)}{rs:List (Key×ai)}{kvs:List (Key×V)}{vs:List (Key×ai)},KV more rs->KV kvs vs->KV (oA kvs more) (FE vs rs):=by
 intro more rs kvs vs r;unfold KV at r
 induction r generalizing kvs vs with
 |nil=>intro q;exact q
 |@cons p q ps W h t Y=>
  intro Z;have e:KV (putK kvs p.1 p.2) (DV vs q.1 q.2):=by have:=Z.put p.1 h.2;rw[<-h.1];exact this
  exact Y e
theorem QO:∀(more kvs:List (Key×V)),J (oA kvs more)<=J kvs+J more
 |[],kvs=>by show J kvs<=J kvs+0;lia
 |p::r,kvs=>by have Y:=QO r (putK kvs p.1 p.2);have Z:=Gw kvs p.1 p.2;show(oA (putK kvs p.1 p.2) r).length<=_;rw[iI];lia
structure M1(X:Cx)(o:ff)(m:ak)(apos:pV)(e:ff)(cpos:pV):Prop where
 base:uo o m X.env (di o X.env)=di o X.env
 few:((mC cpos (eS [e] X.env)).all (λx=>!x.1)&&(S9 cpos (QY [] X.env)).all (λx=>x.1.isSome)
  && decide (J ([e]:List ff)+J ([]:List yX)+(if([]:List yX).isEmpty then 0 else 1)<30))=true
 line:(apos.endLine==cpos.line)=true
 trees:mC cpos (eS [e] X.env)=[(false,di e X.env)]
structure M2(X:Cx)(o:ff)(m:ak)(apos:pV)(e f:ff)(cpos:pV):Prop where
 base:uo o m X.env (di o X.env)=di o X.env
 few:((mC cpos (eS [e,f] X.env)).all (λx=>!x.1)&&(S9 cpos (QY [] X.env)).all (λx=>x.1.isSome)
  && decide (J ([e,f]:List ff)+J ([]:List yX)+(if([]:List yX).isEmpty then 0 else 1)<30))=true
 line:(apos.endLine==cpos.line)=true
 trees:mC cpos (eS [e,f] X.env)=[(false,di e X.env),(false,di f X.env)]
def CP(H:Hp)(a:aa):Prop:=(∃kvs,Rd H a (.dK kvs))\/∃kvs,Rd H a (.dT kvs)
theorem GV(I:Inv X pins σ H s)(d:CP H a):
 s.TypeIs (.ref a) "dict"/\(∀b,dG a=.ref b->∃Z,s.heap.get? b=O Z/\Z.dict=U)/\(a==jx)=false:=by
 rcases d with⟨kvs,e⟩|⟨kvs,e⟩
 .obtain⟨_,hd,vs,_,Y⟩:=qI I.hok e;refine⟨Y.typeIs,λb q=>?_,hd⟩;cases q;obtain⟨Z,_,_,T,W,_⟩:=Y;exact⟨Z,T,W.2.1⟩
 .obtain⟨_,hd,xs,_,Y⟩:=rV I.hok e;refine⟨Y.typeIs,λb q=>?_,hd⟩;cases q;obtain⟨Z,_,_,T,W,_⟩:=Y;exact⟨Z,T,W.2.1⟩
section
variable{X:Cx}{pins:List (Addr×Obj)}{σ:St}{H:Hp}{s:Shared}{a:Addr}{y d:V}{u r:Value}{o:Option V}{A:Around}{E:Value->Shared->Prop}
theorem adA(S:A.units+9<jj)(I:Inv X pins σ H s)(g:ny H a y o)(T:RelV y u)(h:∀U s',Inv X pins σ H s'->RelV (o.getD .az) U->Q U s'):
 aP (a_ X.prog X.w) A (mz (.builtin "dict.get") [.ref a,u]) Q E s:=by
 rcases g with⟨kvs,k,e,ey,l⟩|⟨kvs,k,b,e,ey,eb,l⟩
 .subst ey;obtain⟨z,hd,vs,Z,W⟩:=qI I.hok e;refine vV PySem.F.slot_dict_get W.typeIs PySem.F.entry_dict_get (PySem.F.args_dict_get_2 _ _) (meets_dict_get (jT X.prog X.w) a (rO T) hd) ⟨_,W.mapOf,h _ _ (I.tok _) ?_⟩;rw[l];exact(Z.val k).getD Y
 .subst ey;cases (show u=dG b from T);obtain⟨z,hd,xs,Z,W⟩:=rV I.hok e;refine vV PySem.F.slot_dict_get W.typeIs PySem.F.entry_dict_get (PySem.F.args_dict_get_2 _ _) (meetsH_dict_get (Hn.qy X.prog X.w) a b hd) ⟨Hn.tO S,k,xs,rN I.hok eb,W,h _ _ (I.tok _) ?_⟩;rw[l];exact(Z.val k).getD Y
theorem adz(T:A.units+9<jj)(I:Inv X pins σ H s)(g:ny H a y o)(U:RelV y u)(rd:RelV d r)(h:∀W s',Inv X pins σ H s'->RelV (o.getD d) W->Q W s'):
 aP (a_ X.prog X.w) A (mz (.builtin "dict.get") [.ref a,u,r]) Q E s:=by
 rcases g with⟨kvs,k,e,ey,l⟩|⟨kvs,k,b,e,ey,eb,l⟩
 .subst ey;obtain⟨z,hd,vs,Z,Y⟩:=qI I.hok e;refine vV PySem.F.slot_dict_get Y.typeIs PySem.F.entry_dict_get (PySem.F.args_dict_get_3 _ _ _) (meets_dict_get_default (jT X.prog X.w) a (rO U) hd r) ⟨_,Y.mapOf,h _ _ (I.tok _) ?_⟩;rw[l];exact(Z.val k).getD rd
 .subst ey;cases (show u=dG b from U);obtain⟨z,hd,xs,Z,Y⟩:=rV I.hok e;refine vV PySem.F.slot_dict_get Y.typeIs PySem.F.entry_dict_get (PySem.F.args_dict_get_3 _ _ _) (meetsH_dict_get_default (Hn.qy X.prog X.w) a b hd r) ⟨Hn.tO T,k,xs,rN I.hok eb,Y,h _ _ (I.tok _) ?_⟩;rw[l];exact(Z.val k).getD rd
end
def WA(td ty:TE):TE:=λσ H Q=>td σ H λx H1=>∃a,x=.ref a/\CP H1 a/\ty σ H1 λy H2=>∃o,ny H2 a y o/\Q (o.getD .az) H2
def Wz(td ty tx:TE):TE:=λσ H Q=>td σ H λx H1=>∃a,x=.ref a/\CP H1 a/\ty σ H1 λy H2=>tx σ H2 λz H3=>∃o,ny H3 a y o/\Q (o.getD z) H3
section
variable{X:Cx}{o e f:Expr}{apos cpos:Pos}{td ty tx:TE}
theorem vg(O:X.A.units+9<jj)(N:PE X o td)(M:PE X e ty)(m:M1 X o "get" apos e cpos):PE X (.Call (.Attribute o "get" apos) [e] [] cpos) (WA td ty):=by intro pins s σ H Q I h;refine Lq m.base m.few m.line PySem.F.plainAttrs_dict PySem.F.slot_dict_get PySem.F.type_dict_get (br (N pins s σ H _ I h) λu s1 ⟨x,H1,W,rx,a,ex,d,P⟩=>?_);subst ex;obtain rfl:u=dG a:=rx;obtain⟨T,U,_⟩:=GV W d;refine⟨T,U,?_⟩;rw[m.trees];refine C9 Y (La (zl (br (M pins s1 σ H1 _ W P) λD s2 ⟨y,H2,K,S,E,g,R⟩=>K_ ?_)));exact adA O K g S λJ G L Z=>⟨_,H2,L,Z,R⟩
theorem Y8(hu:X.A.units+9<jj)(ho:PE X o td)(he:PE X e ty)(hf:PE X f tx)(m:M2 X o "get" apos e f cpos):PE X (.Call (.Attribute o "get" apos) [e,f] [] cpos) (Wz td ty tx):=by
 intro pins s σ H Q I h;refine Lq m.base m.few m.line PySem.F.plainAttrs_dict PySem.F.slot_dict_get PySem.F.type_dict_get (br (ho pins s σ H _ I h) λu s1 ⟨x,H1,I1,rx,a,ex,d,q1⟩=>?_);subst ex;obtain rfl:u=dG a:=rx;obtain⟨t1,t2,_⟩:=GV I1 d;refine⟨t1,t2,?_⟩;rw[m.trees];refine C9 Y (La (zl (br (he pins s1 σ H1 _ I1 q1) λiv s2 ⟨y,H2,I2,ry,q2⟩=>
  zl (br (hf pins s2 σ H2 _ I2 q2) λfv s3 ⟨z,H3,I3,rz,ov,g,q3⟩=>K_ ?_))))
 exact adz hu I3 g ry rz λw' s4 I4 rw'=>⟨_,H3,I4,rw',q3⟩
end
end L2
namespace L2
open PySem PySem.Spec PyProof.Rows
theorem aag:LS (.type "list") "keys"=pure U:=am_miss_of_fast (by first|decide +kernel|rfl)
theorem LR:entryFor table "dict.update.loop"=O cN.«dict.update.loop»:=entryFor_of_tree (by kernel_rfl)
theorem wR:plainId "dict.update.loop"=true:=by decide +kernel
section
variable{prog:Program}{w:World}{A:Around}{E:Value->Shared->Prop}
theorem ZV(hx:s.heap.get? a=O o)(N:o.cls=.type "list")(Z:o.data=.seq xs k)(hd:o.dict=U)(K:A.handled=U)
 (h:∀h' tk,(∀b P,s.heap.get? b=O P->h'.get? b=O P)->Q U {s with heap:=h',toks:=tk }):aP (a_ prog w) A (getAttr? (.ref a) "keys") Q E s:=by
 obtain⟨c,J,I,sl⟩:=o;simp only at N Z hd;subst N Z hd;obtain⟨L,g,d,tk,os⟩:=s;have M:∀S,(⟨L,g,d,S,os⟩:aS).TypeIs (.ref a) "list":=λ_=>⟨_,hx,rfl⟩;have T:=aag;have W:(["__module__","__name__","__qualname__","__doc__","__annotations__"]:List ak).contains "keys"=false:=by decide +kernel
 have R:("keys":ak).length+100<=sizeLine:=by first|size_fits|decide +kernel
 have y:=sub_AttributeError;have z:=PySem.F.slot_list_getattribute.lookup;have B:=PySem.F.slot_list_getattribute.bind (.ref a);have C:=am_list_getattr_none;unfold getAttr? getAttrBy? getAttrBy
 repeat (any_goals (first|assumption|exact M _|((with_reducible show aP _ _ (mz (Value.builtin "list.__getattribute__") _ _) _ _ _);refine pM PySem.F.slot_list_getattribute (M _) am_entry_list_getattribute (PySem.F.args_list_getattribute_2 _ _) (meets_getattribute_miss_list a xs k sl "keys" _ T W R) ⟨hx,K,λh' S e Y=>?_⟩)|wp_step))
 obtain⟨G,H,D⟩:=Y.there;show aP _ _ (abO _ _ _ _ _ _ _) _ _ _;unfold abO
 repeat (any_goals (first|assumption|wp_step))
 all_goals first|exact h _ _ Y.keeps|(dsimp only;repeat (any_goals (first|assumption|exact h _ _ Y.keeps|wp_step)))
theorem LP(hh:A.handled=U)(D:l≠I)(N:S≠I)(B:S≠l):
 ∀(Z:List (Key×ai))(i:Nat)(acc:List (Key×ai))(ix:Int)(t:m_)(s:aS),items.size=i+J Z->J acc+J Z<=bf ->
  (∀(j:Nat)(q:Key×ai),Z[j]?=O q->∃(b:aa)(u:ai),items[i+j]?=O (.ref b)/\b≠S/\b≠I/\qQ s.heap b #[u,q.2]/\oE q.1 u=true) ->
  s.heap.IsListIter I l i->s.heap.IsList l items->s.heap.DictOf (jT prog w) S acc ->
  (∀h' tk,h'.DictOf (jT prog w) S (FE acc Z)->(∀b o,b≠S->b≠I->s.heap.get? b=O o->h'.get? b=O o)->R (.ok (.ret res)) {s with heap:=h',toks:=tk }) ->
  uf (a_ prog w) A (.builtin "dict.update.loop" ⟨[.ref S,.ref I,.int ix t,res],[]⟩) R s
 |[],i,acc,ix,t,s,Q,F,ht,H,hl,p,a=>by
  refine adF LR ?_;rw[agM wR _];show aP _ A.in1 (rq (.ref I) >>= _) _ _ s;refine aL (UU (A:=A.in1) hh H hl (by first|exact agK (Cm Q)|(simp at Q;simp;lia)) λh' he=>?_)
  show aP _ A.in1 (cN.Dict.addKeywords S [] >>= _) _ _ _;refine aL (bC (bC ?_));exact a h' s.toks (p.extBut he N) λb o _ hb e=>he b o hb e
 |q::Z,i,acc,ix,t,s,Q,F,ht,H,hl,p,a=>by
  obtain⟨b,u,hb,ha,f,G,hk⟩:=ht 0 q Y;rw[iI]at Q F;refine adF LR ?_;rw[agM wR _];show aP _ A.in1 (rq (.ref I) >>= _) _ _ s;refine aL (UT (x:=.ref b) H hl (by simpa using hb) λh1 C W=>?_);have y:qQ h1 b #[u,q.2]:=G.extBut W.extBut f;have m:h1.IsList l items:=hl.extBut W.extBut D;have r:h1.DictOf (jT prog w) S acc:=p.extBut W.extBut N;obtain⟨o,ho,hc,n,hd⟩:=id y;show aP _ A.in1 (holding [dG b] _ >>= _) _ _ _;refine aL (qc ?_);refine aL (wpAny_tryCatch ?_);unfold cN.Dict.pairItems;refine aL (zy (T:="tuple") ⟨o,ho,hc⟩ ?_);rw[aD (by first|decide|rfl|simp)];refine aL (UR ho hd (bC ?_));show aP _ A.in1 (holding [u,q.2] (dictSet S u q.2)) _ _ _;refine qc (wpAny_dictSet_pairs (knd:=jT prog w) (k:=q.1) hk r (λh2 v P=>?_) byA);refine bC ⟨O5 wR _,LP (items:=items) hh D N B Z (i+1) (DV acc q.1 q.2) (ix+1) 0 _ (show items.size=i+1+J Z by lia) ?_ (λj q' e=>?_) ?_ ?_ v λh' tk g k=>?_⟩
  .have z:=stored_length_le acc q.1 q.2;lia
  .obtain⟨b',u',d,M,L,K,h⟩:=ht (j+1) q' (by simpa using e);refine⟨b',u',?_,M,L,(K.extBut W.extBut L).extBut P.extBut M,h⟩;rw[show i+1+j=i+(j+1) by lia];exact d
  .exact C.at λo' e=>P.extBut I o' (cO N) e
  .exact m.extBut P.extBut (cO B)
  .exact a h' tk g λc oc h3 h4 e=>k c oc h3 h4 (P.extBut c oc h3 (W.extBut c oc h4 e))
theorem adV(m:A.handled=U)(hl:s.heap.get? l=O ol)(p:ol.cls=.type "list")(hd:ol.dict=U)
 (M:ol.data=.seq items n) (hsz:items.size=J prs) (x:J prs<=bf)
 (ht:∀(j:Nat)(q:Key×ai),prs[j]?=O q->∃(b:aa)(u:ai),items[j]?=O (.ref b)/\qQ s.heap b #[u,q.2]/\oE q.1 u=true)
 (h:∀h' tk,h'.DictOf (jT prog w) s.heap.objs.size (FE [] prs)->(∀b o,s.heap.get? b=O o->h'.get? b=O o)->Q (.ref s.heap.objs.size) {s with heap:=h',toks:=tk }) :
 aP (a_ prog w) A (mz (.type "dict") [.ref l]) Q E s:=by
 refine callType_codes (Q₁:=λobj N=>obj=.ref s.heap.objs.size/\N={s with heap:=s.heap.push {cls:=.type "dict",data:=.dict #[] } }) PySem.F.kt_called_dict (PySem.F.kt_typeCall_dict_1 _) PySem.F.entry_dict_init (kt_code_dict_new _ ⟨Y,Y⟩) ?_;rintro obj N ⟨rfl,rfl⟩;have Z:(s.heap.push {cls:=.type "dict",data:=.dict #[] }).DictOf (jT prog w) s.heap.objs.size []:=afw s.heap;have G:∀b o,s.heap.get? b=O o->(s.heap.push {cls:=.type "dict",data:=.dict #[] }).get? b=O o:=λb o e=>fW _ e;refine⟨Z.typeIs,PySem.F.args_dict_init_2 _ _,?_⟩;unfold cN.«dict.__init__»;refine aL ?_;unfold cN.Dict.selfAndRest;refine aL (Lm Z.typeIs ?_);show aP _ _ (pure (s.heap.objs.size,[dG l])) _ _ _;refine bC ?_;show aP _ _ (cN.Dict.updateFrom "dict.__init__" s.heap.objs.size (.ref l) [] .none) _ _ _;unfold cN.Dict.updateFrom;refine aL (zy (T:="list") ⟨ol,G _ _ hl,p⟩ ?_);rw[aD (by first|decide|rfl|simp)];refine aL (ZV (G _ _ hl) p M hd m λL y W=>?_);rw[aD (show(U:Option ai).isNone=true from rfl)];refine aL (zA ?_);have C:L.IsList l items:=⟨ol,W _ _ (G _ _ hl),p,n,M⟩;have P:s.heap.objs.size<L.objs.size:=by have e:(s.heap.push {cls:=.type "dict",data:=.dict #[] }).get? s.heap.objs.size=O {cls:=.type "dict",data:=.dict #[] }:=jN _ Y;exact dO (W _ _ e)
 refine aL (Ll C ?_);have B:∀b o,L.get? b=O o->(L.push {cls:=.type "list_iterator",data:=.fields #[.ref l,.int 0 0] }).get? b=O o:=λb o e=>fW _ e;have D:l<s.heap.objs.size:=dO hl;have H:=LP (prog:=prog) (w:=w) (A:=A.in1) (R:=wants (λr K=>r=.none/\Q (.ref s.heap.objs.size) K) E) (S:=s.heap.objs.size) (I:=L.objs.size) (l:=l) (items:=items) (res:=pP) m
  (iP (JO D P)) (iP P) (Ck D) prs 0 [] 0 0
  {s with heap:=L.push {cls:=.type "list_iterator",data:=.fields #[.ref l,.int 0 0] },toks:=y } (by rw[hsz,qM]) (by rw[yP,qM];exact x)
  (λj q e=>by obtain⟨b,u,e1,e2,i⟩:=ht j q e;have hb:b<s.heap.objs.size:=e2.lt;exact⟨b,u,by rw[qM];exact e1,iP hb,iP (JO hb P),e2.keeps λc o z=>B _ _ (W _ _ (G _ _ z)),i⟩)
  ⟨_,jN _ rfl,rfl,rfl⟩ (C.at λo e=>B _ _ e) ((Z.at λo e=>W _ _ e).at λo e=>B _ _ e)
  (λh' tk v k=>⟨rfl,h h' tk v λb o e=>k b o (iP (dO e)) (iP (JO (dO e) P)) (B _ _ (W _ _ (G _ _ e)))⟩)
 first
  |exact bC ⟨O5 wR _,H⟩
  |exact aL (bC (bC ⟨O5 wR _,H⟩))
end
section
variable{X:Cx}
theorem Po(I:Inv X pins σ H s):∀{ps:List aa}{kvs:List (Key×V)},Paired (λp kv=>bu X.K H p [kV kv.1,kv.2]) ps kvs ->
 ∃prs:List (Key×ai),KV kvs prs/\J prs=J ps/\∀(j:Nat)(q:Key×ai),prs[j]?=O q->∃(b:aa)(u:ai),ps[j]?=O b/\qQ s.heap b #[u,q.2]/\oE q.1 u=true
 |_,_,.nil=>⟨[],.nil,rfl,λj q e=>by simp at e⟩
 |_,_,.cons (a:=p) (b:=kv) h t=>by
  obtain⟨prs,r,hl,S⟩:=Po I t;obtain⟨T,rv,ht,_⟩:=I.tuple h;obtain⟨u,y,R,U,W⟩:=vals2 rv;subst R;refine⟨(kv.1,y)::prs,.cons ⟨Y,W⟩ r,by rw[iI,iI,hl],λj q e=>?_⟩;cases j with
  |zero=>have N:(kv.1,y)=q:=bH e;subst N;exact⟨p,u,Y,ht,rO (P:=X.prog) (w:=X.w) U⟩
  |succ j=>obtain⟨b,Z,e1,e2,Q⟩:=S j q (by simpa using e);exact⟨b,Z,by simpa using e1,e2,Q⟩
theorem OE:∀{ps:List aa}{us:List ai},Vals (ps.map V.ref) us->us=ps.map dG
 |[],us,r=>by rw[mO]at r;cases r;rfl
 |p::ps,us,r=>by
  rw[bL]at r;cases r with
  |cons h t=>cases h;rw[bL,<-OE t]
theorem adW(W:X.calm=true):n_ X (.type "dict") (λxs H Q=>∃(a:aa)(ps:List aa)(kvs:List (Key×V)),xs=[.ref a]/\aj X.K H a (ps.map V.ref)/\Paired (λp kv=>bu X.K H p [kV kv.1,kv.2]) ps kvs /\
 ∀p,H p=U->Q (.ref p) (upd H p (.dK (oA [] kvs)))):=by
 intro pins s σ H xs us Q I r q;obtain⟨a,ps,kvs,ex,J,G,q⟩:=q;subst ex;obtain⟨u,C,rx⟩:=vals1 r;subst C;cases rx;obtain⟨L,rv,pl,P⟩:=I.list J;have B:=OE rv;subst B;rw[aM]at P;obtain⟨Z,T,hl,jh⟩:=Po I G;obtain⟨o,n,F,D,hd,R⟩:=pl;refine adV (prs:=Z) (I.ok.hd W) F D hd R (by simp[hl]) (by rw[hl];exact P) (λj M e=>?_) λh' N O k=>?_
 .obtain⟨b,u,e1,e2,A⟩:=jh j M e;exact⟨b,u,by simp[e1],e2,A⟩
 .have E:(s.heap.objs.size==jx)=false:=r9.mpr (Ck I.big);have S:(oA [] kvs).length<=sizeLine:=by refine eL (QO kvs []) ?_;rw[yP,qM,T.length,hl];exact P
  exact⟨.ref s.heap.objs.size,upd H s.heap.objs.size (.dK (oA [] kvs)),I.laid (t':=N) k (aU _) (show e7 X.prog X.w _ _ _ (.dK (oA [] kvs)) from⟨S,E,FE [] Z,KV.merge T .nil,O⟩),Y,q _ (I.hok.fresh (aU _))⟩
end
end L2
namespace L2
open PySem PySem.Spec PyProof.Rows
section
variable{X:Cx}{pins:List (Addr×Obj)}{σ:St}{H:Hp}{s:Shared}{h':Heap}
theorem Inv.VA{t':Nat}{ch:List aa}(I:Inv X pins σ H s)(k:∀b o,b∉ch->s.heap.get? b=O o->h'.get? b=O o)(W:∀b∈ch,nZ X pins H b):Inv X pins σ H {s with heap:=h',toks:=t' }:=by
 have U:∀b u,H b=O u->b∉ch:=λb u e z=>by have q:=(W b z).1;rw[q]at e;cases e
 refine I.step (g':=s.gens) (d':=s.drawn) (ch:=ch) (λb hb=>⟨(W b hb).2.2.2.1,(W b hb).2.1,(W b hb).2.2.2.2.1,(W b hb).2.2.2.2.2⟩) (λb o _ _ Z e _=>k b o Z e) (λb o _ _ Z e _=>⟨o.slots,k b o Z e⟩)
  (λ_ _ _ _ n=>n) (λb o Z e=>⟨o,k b o Z e⟩) (λ_ _ e=>e) (λ_ _ _ e=>e) (λb ps e=>⟨#[],by rw[e];simp⟩) (λm S=>?_) (λb u e=>?_) I.bare
 .obtain⟨o,R,Q,T,r⟩:=S;exact⟨o,R,Q,k _ o (λz=>(W _ z).2.1 Y) T,r⟩
 .refine(I.hok b u e).stay (λc v Z q=>k c v ?_ q) (λ_ q=>q) λ_ _ q=>q;rcases Z with z|z
  .rw[z];exact U b u e
  .exact U c _ z
theorem Inv.LW{t':Nat}{ch:List aa}{T:aa}{Q:HO}(I:Inv X pins σ H s)(k:∀b o,b∉ch->s.heap.get? b=O o->h'.get? b=O o)(W:∀b∈ch,nZ X pins H b)(P:s.heap.objs.size<=T)
 (new:e7 X.prog X.w (upd H T Q) h' T Q):Inv X pins σ (upd H T Q) {s with heap:=h',toks:=t' }:=by
 have R:H T=U:=I.hok.fresh P;have S:∀b u,H b=O u->b∉ch:=λb u e z=>by have q:=(W b z).1;rw[q]at e;cases e
 refine I.step (g':=s.gens) (d':=s.drawn) (ch:=ch) (λb hb=>⟨(W b hb).2.2.2.1,(W b hb).2.1,(W b hb).2.2.2.2.1,(W b hb).2.2.2.2.2⟩) (λb o _ _ Z e _=>k b o Z e) (λb o _ _ Z e _=>⟨o.slots,k b o Z e⟩)
  (λb o _ e n=>?_) (λb o Z e=>⟨o,k b o Z e⟩) (λb xs e=>?_) (λb o u e=>?_) (λb ps e=>⟨#[],?_⟩) (λm M=>?_) (λb u e=>?_) I.bare
 .rw[bO (iP (lq (dO e) P))];exact n
 .rw[bO (aQ e R)];exact e
 .rw[bO (aQ e R)];exact e
 .rw[bO (aQ e R),e];simp
 .obtain⟨o,L,K,N,r⟩:=M;exact⟨o,L,K,k _ o (λz=>(W _ z).2.1 Y) N,r⟩
 .by_cases hb:b=T
  .subst hb;rw[aB]at e;cases e;exact new
  .rw[bO hb]at e;refine(I.hok b u e).stay (λc v Z q=>k c v ?_ q) (λc q=>by rw[bO (aQ q R)];exact q) λc xs q=>by rw[bO (aQ q R)];exact q
   rcases Z with z|z
   .rw[z];exact S b u e
   .exact S c _ z
theorem Inv.lock(I:Inv X pins σ H s)(h:H d=O u)(Z:sH (O u)):∃od,Inv X pins σ (upd H d (.dF od u)) s:=by
 have x:=I.hok d u h;have ex:∃od,s.heap.get? d=O od:=by
  cases u with
  |lst xs=>obtain⟨_,_,_,_,e⟩:=x;exact⟨_,e⟩
  |dK kvs=>obtain⟨_,_,_,_,o,_,_,e,_⟩:=x;exact⟨o,e⟩
  |dT kvs=>obtain⟨_,_,_,_,o,_,_,e,_⟩:=x;exact⟨o,e⟩
  |set S n=>obtain⟨o,_,_,_,e,_⟩:=x;exact⟨o,e⟩
  |ins C dx fs=>obtain⟨_,_,_,e,_⟩:=x;exact⟨_,e⟩
  |ext φ=>obtain⟨_,⟨_,e⟩,_⟩:=x;exact⟨_,e⟩
  |_=>exact lC Z
 obtain⟨od,e⟩:=ex;have new:e7 X.prog X.w (upd H d (.dF od u)) s.heap d (.dF od u):=by
  refine⟨e,x.stay (λb v _ q=>q) (λb q=>?_) λb xs q=>?_⟩
  .rw[bO (λz=>by rw[z,h]at q;cases q;exact Z)];exact q
  .rw[bO (λz=>by rw[z,h]at q;cases q;exact Z)];exact q
 exact⟨od,I.write (x:=d) (e:=d) (t':=s.toks) (h':=s.heap) (by rw[h];exact Z) (.inl Y) (λb v _ q=>q) ⟨od,e⟩ new⟩
theorem Inv.AU(I:Inv X pins σ H s)(h:H d=O u)(Y:sH (O u)):∀o' Z,X.uE d≠O (.dF o' Z):=λo' Z e=>by have q:=I.base.nQ d o' Z e;rw[h]at q;cases q;exact Y
theorem Inv.unlock(I:Inv X pins σ H s)(h:H d=O (.dF od u))(R:∀o' W,X.uE d≠O (.dF o' W)):Inv X pins σ (upd H d u) s:=by
 have Z:∀b o,H b=O o->(∀o' W,o≠.dF o' W)->b≠d:=λb o e T z=>by rw[z,h]at e;cases e;exact T _ _ Y
 have neN:∀b,H b=U->b≠d:=λb e z=>by rw[z,h]at e;cases e
 refine⟨I.ok,I.os,I.bare,⟨I.base.keep,I.base.slot,λb o e n hx=>?_,I.base.there,λb xs e=>?_,λb o x e=>?_,λb ps e=>?_⟩,I.loc,I.cell,?_,λx c e=>?_,λp S=>?_,λb o e=>?_,I.len⟩
 .rw[bO (neN b (I.base.free b o e n hx))];exact I.base.free b o e n hx
 .have q:=I.base.tups b xs e;rw[bO (Z b _ q (λ_ _ z=>nomatch z))];exact q
 .have q:=I.base.nQ b o x e;rw[bO (λz=>by rw[z]at e;exact R _ _ e)];exact q
 .obtain⟨m,q⟩:=I.base.oX b ps e;exact⟨m,by rw[bO (Z b _ q (λ_ _ z=>nomatch z))];exact q⟩
 .rw[bO (neN _ I.free)];exact I.free
 .rw[bO (neN c (I.m8 x c e))];exact I.m8 x c e
 .obtain⟨e,n,r⟩:=I.pin p S;exact⟨e,by rw[bO (neN _ n)];exact n,r⟩
 .by_cases hb:b=d
  .rw[hb,aB]at e;cases e;rw[hb];obtain⟨_,x⟩:=I.hok d _ h;exact x.stay (λc v _ q=>q) (λc q=>by rw[bO (Z c _ q (λ_ _ z=>nomatch z))];exact q) λc xs q=>by rw[bO (Z c _ q (λ_ _ z=>nomatch z))];exact q
  .rw[bO hb]at e;exact(I.hok b o e).stay (λc v _ q=>q) (λc q=>by rw[bO (Z c _ q (λ_ _ z=>nomatch z))];exact q) λc xs q=>by rw[bO (Z c _ q (λ_ _ z=>nomatch z))];exact q
end
def Wr(t:TS):TS:=λD σ H=>∃d u,H d=O u/\sH (O u)/\∀od,t ⟨λσ' H'=>H' d=O (.dF od u)/\D.nx σ' (upd H' d u),λv H'=>H' d=O (.dF od u)/\D.rt v (upd H' d u),λσ' H'=>H' d=O (.dF od u)/\D.bk σ' (upd H' d u),λσ' H'=>H' d=O (.dF od u)/\D.ct σ' (upd H' d u)⟩ σ (upd H d (.dF od u))
section
variable{X:Cx}
theorem YM{st:mF}{t:TS}(h:PS X st t):PS X st (Wr t):=by
 intro pins s σ H D I W;obtain⟨d,u,hd,Y,W⟩:=W;obtain⟨od,U⟩:=I.lock hd Y;refine br (h pins s σ _ _ U (W od)) λf s1 q=>?_;cases f with
 |next=>obtain⟨σ',H',Z,e,q⟩:=q;exact⟨σ',_,Z.unlock e (I.AU hd Y),q⟩
 |brk=>obtain⟨σ',H',Z,e,q⟩:=q;exact⟨σ',_,Z.unlock e (I.AU hd Y),q⟩
 |cont=>obtain⟨σ',H',Z,e,q⟩:=q;exact⟨σ',_,Z.unlock e (I.AU hd Y),q⟩
 |ret v=>obtain⟨x,σ',H',Z,r,e,q⟩:=q;exact⟨x,σ',_,Z.unlock e (I.AU hd Y),r,q⟩
theorem EH(I:Inv X pins σ H s)(o:cK)
 (T:Turn X.prog X.w X.K tg B [s.heap.objs.size] s.heap.objs.size tn) (st:tn 0 (s.heap.push o)) (q:R B H):JI X pins σ tg R (.ref s.heap.objs.size) {s with heap:=s.heap.push o,toks:=tk }:=by
 refine⟨s.heap.objs.size,[s.heap.objs.size],tn,B,H,Y,I.kept λb Z e=>fW _ e,T,st,λb hb=>?_,q⟩;have e:b=s.heap.objs.size:=by simpa using hb
 subst e;exact I.vR (aU _) (I.hok.fresh (aU _))
end
def y9(lo c:Int)(n:Nat):It:=⟨λi _=>i<n,λi H x H'=>H'=H/\x=.int (lo+(i:Nat)*c),λi _=>n<=i⟩
theorem VC{P:fV}{w:d9}{K:PySem.W.Frag}{tg:ff}(it:aa)(lo c:Int)(n:Nat):Turn P w K tg (y9 lo c n) [it] it (λi h=>J9 h it (lo+(i:Nat)*c) ((n:Int)-(i:Nat)) c) where
 mem:=by simp
 obj:=λi h st b hb=>by
  have e:b=it:=by simpa using hb
  subst e;exact⟨_,st,λv z=>nomatch z⟩
 keep:=λi h h' st k=>k it byB _ st
 item:=by intro X R U O S i pins s σ H E I Z st T;subst R U O;obtain⟨G,J,C,L,M,N⟩:=Z it byB;have W:=aeg (prog:=X.prog) (w:=X.w) (I.ok.hd S) it lo c n;refine W.item i s _ _ T st λv h' F hv st' D=>?_;obtain⟨t,rfl⟩:=hv;have y:Inv X pins σ H {s with heap:=h',toks:=F }:=I.turned (λb o hb e=>D b o (by simpa using hb) e) G J L M N;exact⟨_,Y,x_ (s:={s with heap:=h',toks:=F }) (n:="range_iterator") st' Y Y byD ⟨.int (lo+(i:Nat)*c),H,y,⟨t,Y⟩,⟨Y,Y⟩,st',λb hb=>(Z b hb).1⟩⟩
 done:=by intro X R U O S i pins s σ H E I Z st T;subst R U O;obtain⟨G,J,C,L,M,N⟩:=Z it byB;exact US (I.ok.hd S) st (by have:n<=i:=T;lia) λh' B=>⟨Y,I.turned (t':=s.toks) (λb o hb e=>B b o hb e) G J L M N⟩
 self:=λA i s Q E st h=>UY st h
def Cd(i j c:Int)(n:Nat):Prop:=c≠0/\c.natAbs<1073741824/\cN.Range.small i j c=true/\cN.Range.rangeSize i j c=n
theorem Cd.neg(ha:-(2 ^ 62)<=i)(Y:i<2 ^ 62)(hb:-(2 ^ 62)<=j)(Z:j<2 ^ 62):Cd i j (-1) (i-j).toNat:=
 ⟨byD,byD,PySem.W.small_down ha Y hb Z,PySem.W.rangeSize_downNat i j⟩
inductive Rc(vs:List V)(H1:Hp)(R:It->Hp->Prop):Prop
 |mk(i j c:Int)(n:Nat)(_:vs=[.int i,.int j,.int c])(_:Cd i j c n)(_:R (y9 i c n) H1):Rc vs H1 R
def abb(ta:TA):TI:=λσ H R=>ta σ H λvs H1=>Rc vs H1 R
section
variable{X:Cx}{tg:Expr}
theorem YW(hg:Gl X "range")(hm:X.mg "range"=U)(ha:PA X [a,b,c] ta)
 (hs:eS [a,b,c] X.env=(false,di a X.env)::eS [b,c] X.env:=by rfl) (hpl:(mC pos (eS [b,c] X.env)).any (·.1)=false:=by rfl) :
 PI X tg (.Call (.Name "range" p) [a,b,c] [] pos) (abb ta):=by
 intro pins s σ H R I h;refine C_ (tX I hg hm SX (yC (br (ha pos pins s σ H _ I h) λus s1 ⟨vs,H1,I1,r1,q1⟩=>?_) hs hpl));obtain⟨i,j,k,n,e,⟨c0,c1,c2,c3⟩,q⟩:=q1;subst e;cases r1 with
 |cons r rr=>
  cases rr with
  |cons r' rr=>
   cases rr with
   |cons r'' rr=>
    cases rr;obtain⟨t,rfl⟩:=r;obtain⟨t',rfl⟩:=r';obtain⟨t'',rfl⟩:=r'';refine call_range_3 c0 ?_ (.inl (aez c1));refine UZ (afl ..) c2 ?_;have I2:Inv X pins σ H1 {s1 with heap:=s1.heap.push {cls:=.type "range",data:=.fields #[.int i t,.int j t',.int k t''] } }:=I1.kept (t':=s1.toks) λb o e=>fW _ e;refine EH (tk:=s1.toks) I2 _ (VC _ i k n) ?_ q;have e1:i+((0:Nat):Int)*k=i:=by simp
    have e2:(n:Int)-((0:Nat):Int)=cN.Range.rangeSize i j k:=by rw[c3];simp
    show J9 _ _ (i+((0:Nat):Int)*k) ((n:Int)-((0:Nat):Int)) k;rw[e1,e2];exact jN _ Y
end
theorem ab0{lo c:Int}{n:Nat}{g:TG}{tb:TS}{D:Ends}{σ:St}{H:Hp}(U:Nat->St->Hp->Prop)(Q:U 0 σ H)
 (R:∀i σ H,i<n->U i σ H->g (.int (lo+(i:Nat)*c)) σ H λZ H2=>tb {D with nx:=U (i+1),ct:=U (i+1),bk:=D.nx } Z H2) (hd:∀σ H,U n σ H->D.nx σ H) :
 ∃W:Nat->Nat->St->Hp->Prop,(∃m,W 0 m σ H)/\∀i m σ H,W i m σ H ->
  ((y9 lo c n).stop i H/\D.nx σ H)\/((y9 lo c n).go i H/\∃N:St->Hp->Prop,(∀σ' H',N σ' H'->∃T,T<m/\W (i+1) T σ' H')/\∀x H',(y9 lo c n).lV i H x H'->g x σ H' λZ H2=>tb {D with nx:=N,ct:=N,bk:=D.nx } Z H2):=by
 refine⟨λi m σ H=>m=n-i/\i<=n/\U i σ H,⟨n,byB,cI _,Q⟩,?_⟩;rintro i m σ H ⟨rfl,hi,p⟩;by_cases Y:i<n
 .refine .inr ⟨Y,U (i+1),λσ' H' S=>⟨n-(i+1),byA,rfl,Y,S⟩,λx H' y=>?_⟩;obtain⟨e,y⟩:=y;subst e y;exact R i σ _ Y p
 .have e:i=n:=by lia
  subst e;exact .inl ⟨aU _,hd σ H p⟩
section
variable{prog:Program}{w:World}{A:Around}{E:Value->Shared->Prop}{s:Shared}
theorem Q3(hd:(d==jx)=false)(W:s.heap.get? d=O o)(T:o.ExactDict)(Z:o.data=.dict es ep)
 (S:Q (.ref s.heap.objs.size) {s with heap:=s.heap.push {cls:=.type "dict_keyiterator",data:=.fields #[.ref d,.int 0 0,.int es.size 0,.int ep 0] } }) :
 aP (a_ prog w) A (As (.ref d)) Q E s:=by
 have U:s.TypeIs (.ref d) "dict":=⟨o,W,T.1⟩;refine UX U afE (sQ afE U F.entry_dict_iter ?_ (F.args_dict_iter_1 _));unfold cN.«dict.__iter__»;refine aL ?_;unfold cN.Dict.dictSlotNone;refine aL (Lm U ?_);show aP _ _ (pure (dG d)) _ _ s;refine bC ?_;show aP _ _ (cN.Dict.showsAll d >>= _) _ _ s;unfold cN.Dict.showsAll;rw[ao (by rw[hd];exact iJ)];refine aL (bC ?_);refine aL (zC W Z ?_);refine aL (Lo W Z ?_);refine aL (sP (bC ⟨_,Y,"dict_keyiterator",_,⟨_,jN _ Y,Y⟩,zj.lookup,?_⟩));simpa [Ar]using S
theorem ZC(Z:s.heap.IsKeyIter it d i n ep)(T:s.heap.get? d=O od)(R:od.data=.dict es ep)
 (hsz:es.size=n) (hx:es[i]?=O en) (L:∀h',h'.IsKeyIter it d (i+1) n ep->sM it s.heap h'->Q (O en.key) {s with heap:=h' }):aP (a_ prog w) A (rq (.ref it)) Q E s:=by
 obtain⟨o,P,M,hd⟩:=id Z;unfold rq;refine aL (Vc (zE (name:=Jx "__next__") Z.typeIs zj
  (sQ zj Z.typeIs afH ?_ (afJ _))))
 refine aL (bC ?_);refine aL ?_;refine aL ?_
 first|refine aL (Dh Z.typeIs (bC ?_))|refine aL (Dg Z.typeIs (bC ?_))
 refine aL (U_ P hd ?_);have U:cN.Dict_items.ownsTuple "dict_keyiterator"=false:=by decide
 simp only[U,De,qB];show aP _ _ (if(dG d==pP)=true then _ else _) _ _ s;rw[ao (show ¬((dG d==pP)=true) from iJ)];refine aL (bC ?_);refine aL (zC T R ?_);rw[ao (by rw[hsz];simp)];refine aL (bC ?_);refine aL (Lo T R ?_);rw[ao byB];refine bC ?_;obtain⟨S,N⟩:=Array.getElem?_eq_some_iff.mp hx;simp only[show ¬((i:Int)<0) from by lia,qB,lA,UN S];refine aL ?_
 first|refine aL (Dh Z.typeIs (bC ?_))|refine aL (Dg Z.typeIs (bC ?_))
 refine aL (U6 Z.typeIs ?_);show aP _ _ (setField (.ref it) 1 (Ar ((i:Int)+1)) >>= _) _ _ s;refine aL (UP P hd byB ?_);have W:(s.heap.update it (aeL (·.setIfInBounds 1 (Ar ((i:Int)+1))))).IsKeyIter it d (i+1) n ep:=
  ⟨_,Uy _ P (Obj.isFreed_of_fields (aeM hd _)),(Obj.cls_mapFields ..).trans M,by rw[aeM hd];simp[Ar]⟩
 refine aL (qc ?_);refine aL (U6 (s:={s with heap:=s.heap.update it (aeL (·.setIfInBounds 1 (Ar ((i:Int)+1)))) }) W.typeIs ?_);show aP _ _ (pure es[i].key) _ _ _;rw[N];exact bC (bC ⟨_,Y,bC (L _ W (CQ ..))⟩)
theorem Qz(L:A.handled=U)(Z:s.heap.IsKeyIter it d i n ep)(S:s.heap.get? d=O od)(P:od.data=.dict es ep)
 (hsz:es.size=n) (N:n<=i) (K:∀h',Heap.ExtBut it s.heap h'->Q U {s with heap:=h' }):aP (a_ prog w) A (rq (.ref it)) Q E s:=by
 obtain⟨o,M,J,hd⟩:=id Z;unfold rq;refine aL (Vc (zE (name:=Jx "__next__") Z.typeIs zj
  (sQ zj Z.typeIs afH ?_ (afJ _))))
 refine aL (bC ?_);refine aL ?_;refine aL ?_
 first|refine aL (Dh Z.typeIs (bC ?_))|refine aL (Dg Z.typeIs (bC ?_))
 refine aL (U_ M hd ?_);have W:cN.Dict_items.ownsTuple "dict_keyiterator"=false:=by decide
 simp only[W,De,qB];show aP _ _ (if(dG d==pP)=true then _ else _) _ _ s;rw[ao (show ¬((dG d==pP)=true) from iJ)];refine aL (bC ?_);refine aL (zC S P ?_);rw[ao (by rw[hsz];simp)];refine aL (bC ?_);refine aL (Lo S P ?_);rw[ao byB];refine bC ?_;have R:es.size<=i:=by rw[hsz];exact N
 simp only[show ¬((i:Int)<0) from by lia,qB,lA,agK R];refine aL ?_
 first|refine aL (Dh Z.typeIs (bC ?_))|refine aL (Dg Z.typeIs (bC ?_))
 show aP _ _ (setField (.ref it) 0 .none >>= _) _ _ s;refine aL (UP M hd byB ?_);show aP _ _ (newExc (.type "StopIteration") [] >>= _) _ _ _;refine aL ?_;simp only[newExc,newTuple];refine aL (sP ?_ (by size_fits));refine aL (m:=ab9 _ _) (wpAny_of_eq (a:=pP) (by first|rfl|(simp only[ab9];rfl)) ?_)
 refine sP ?_ (by size_fits);simp only[raiseNew];refine aL (wpAny_handled ?_);rw[show A.in1.handled=U from L];refine aL (bC (wpAny_throw ?_));refine aL (U7 (T:="StopIteration") (b:=true) ⟨_,jN _ Y,Y⟩ isSubtype_stop ?_);exact bC (K _ (((CQ ..).extBut.push _).push _))
end
theorem aas{κ:Type}{kvs:List (κ×V)}{vs:List (κ×ai)}(h:KV kvs vs):∀{i:Nat}{k:κ}{v:V},kvs[i]?=O (k,v)->∃u,vs[i]?=O (k,u)/\RelV v u:=by
 unfold KV at h
 induction h with
 |nil=>intro i k v e;simp at e
 |@cons a b W Z r t U=>
  intro i k v e;cases i with
  |zero=>simp only[CA,JJ]at e;subst e;refine⟨b.2,?_,r.2⟩;simp only[CA];exact fq O (JG r.1.symm Y)
  |succ j=>simp only[CC]at e ⊢;exact U e
theorem Zd{U T:Type}{G:U->T->Prop}{W:List U}{Z:List T}(h:Paired G W Z):∀{i:Nat}{a:U},W[i]?=O a->∃b,Z[i]?=O b/\G a b:=by
 induction h with
 |nil=>intro i a e;simp at e
 |@cons a b W Z r t S=>
  intro i R e;cases i with
  |zero=>simp only[CA,JJ]at e;subst e;exact⟨b,Y,r⟩
  |succ j=>simp only[CC]at e ⊢;exact S e
theorem Yz(h:oE k u=true):RelV (kV k) u:=by
 rcases pH h with⟨i,t,rfl,rfl⟩|⟨x,t,rfl,rfl⟩
 .exact⟨t,rfl⟩
 .exact⟨t,rfl⟩
section
variable{X:Cx}{pins:List (Addr×Obj)}{σ:St}{H:Hp}{s:Shared}{d:Addr}{o:Obj}
theorem Inv.Hw(I:Inv X pins σ H s)(h:H d=O (.dF o (.dK kvs))):
 (d==jx)=false/\s.heap.get? d=O o/\o.ExactDict/\∃(Y:Array C6)(W:Nat)(vs:List (Key×ai)),o.data=.dict Y W/\Y.size=kvs.length/\KV kvs vs/\s.heap.DictAt (jT X.prog X.w) d vs W:=by
 obtain⟨hd,z,S,vs,kv,o',Y,W,U,hx,Z,r⟩:=I.hok d _ h;rw[hd]at U;cases U;refine⟨S,hd,hx,Y,W,vs,Z,?_,kv,o,Y,hd,hx,Z,r⟩;have T:=r.2.1.length;have R:kvs.length=vs.length:=Paired.length kv;rw[Lh]at T;lia
theorem Inv.Hv{kvs:List (Hn.NK×V)}(I:Inv X pins σ H s)(h:H d=O (.dF o (.dT kvs))):
 (d==jx)=false/\s.heap.get? d=O o/\o.ExactDict/\∃(Z:Array C6)(U:Nat),o.data=.dict Z U/\Z.size=kvs.length /\
  ∀(i:Nat)(k:Hn.NK)(v:V),kvs[i]?=O (k,v)->∃(R:C6)(q:aa),Z[i]?=O R/\R.key=.ref q/\kO H k q:=by
 obtain⟨hd,z,Q,xs,pr,o',Z,U,T,hx,W,S,_⟩:=I.hok d _ h;rw[hd]at T;cases T;refine⟨Q,hd,hx,Z,U,W,?_,λi k v e=>?_⟩
 .have N:Z.size=xs.length:=Nc S;have P:kvs.length=xs.length:=Paired.length pr;lia
 .obtain⟨b,hb,e1,e2,_⟩:=Zd pr e;have q:=entry_at S i;rw[hb]at q;exact⟨_,b.2.1,q,Y,e2⟩
end
def yY(d:aa)(o:cK)(kvs:List (Key×V)):It:=
 ⟨λi H=>H d=O (.dF o (.dK kvs))/\i<J kvs,λi H x H'=>H'=H/\∃k v,kvs[i]?=O (k,v)/\x=kV k,λi H=>H d=O (.dF o (.dK kvs))/\J kvs<=i⟩
def Us(d:aa)(o:cK)(kvs:List (Hn.NK×V)):It:=
 ⟨λi H=>H d=O (.dF o (.dT kvs))/\i<J kvs,λi H x H'=>H'=H/\∃(k:Hn.NK)(v:V)(q:aa),kvs[i]?=O (k,v)/\x=.ref q/\kO H k q,λi H=>H d=O (.dF o (.dT kvs))/\J kvs<=i⟩
theorem BL{o:cK}{U Z:Array C6}{T W:Nat}(h:o.data=.dict U T)(h':o.data=.dict Z W):Z=U/\W=T:=by rw[h]at h';cases h';exact⟨Y,Y⟩
section
variable{P:Program}{w:World}{K:PySem.W.Frag}{tg:Expr}{d:Addr}{o:Obj}{es:Array DictEntry}{ep:Nat}
theorem VG{kvs:List (Key×V)}(it:aa)(S:o.data=.dict es ep):Turn P w K tg (yY d o kvs) [it] it (λi h=>h.IsKeyIter it d i kvs.length ep) where
 mem:=by simp
 obj:=λi h st b hb=>by
  have e:b=it:=by simpa using hb
  subst e;obtain⟨L,e,c,l⟩:=st;exact⟨L,e,λv z=>by rw[l]at z;cases z⟩
 keep:=λi h h' st k=>st.at λL e=>k it byB L e
 item:=by intro X D G C f i pins s σ H E I J st F;subst D G C;obtain⟨hd,hi⟩:=F;obtain⟨q,r,f2,x,y,B⟩:=J it byB;obtain⟨hs,M,hx,n,m,vs,Z,T,kv,g⟩:=I.Hw hd;obtain⟨rfl,rfl⟩:=BL S Z;obtain⟨⟨k,v⟩,R⟩:∃p,kvs[i]?=O p:=⟨kvs[i],aX hi⟩;obtain⟨u,hu,ru⟩:=aas kv R;have hl:kvs.length=vs.length:=Paired.length kv;rw[hl]at st;refine wpAny_pyNext_dict_item st g hu λU h' N st' a=>?_;have I1:Inv X pins σ H {s with heap:=h' }:=I.turned (t':=s.toks) (λb j hb e=>(a.2 b hb).trans e) q r x y B;obtain⟨L,e,c,l⟩:=id st';refine⟨U,Y,x_ (s:={s with heap:=h' }) e c l byD ⟨kV k,H,I1,Yz (show oE k U=true from N),⟨Y,k,v,R,Y⟩,?_,λb hb=>(J b hb).1⟩⟩;show h'.IsKeyIter it d (i+1) kvs.length _;rw[hl];exact st'
 done:=by intro X D G C f i pins s σ H E I J st F;subst D G C;obtain⟨hd,hi⟩:=F;obtain⟨q,r,f2,x,y,B⟩:=J it byB;obtain⟨hs,M,hx,n,m,vs,Z,T,kv,g⟩:=I.Hw hd;obtain⟨rfl,rfl⟩:=BL S Z;exact Qz (I.ok.hd f) st M Z T hi λh' eb=>⟨Y,I.turned (t':=s.toks) (λb j hb e=>eb b j hb e) q r x y B⟩
 self:=λA i s Q E st h=>wpAny_pyIter_keyiter st h
theorem VF{kvs:List (Hn.NK×V)}(it:aa)(S:o.data=.dict es ep):Turn P w K tg (Us d o kvs) [it] it (λi h=>h.IsKeyIter it d i (J kvs) ep) where
 mem:=by simp
 obj:=λi h st b hb=>by
  have e:b=it:=by simpa using hb
  subst e;obtain⟨L,e,c,f⟩:=st;exact⟨L,e,λv z=>by rw[f]at z;cases z⟩
 keep:=λi h h' st k=>st.at λL e=>k it byB L e
 item:=by intro X y D x hc i pins s σ H E I G st C;subst y D x;obtain⟨hd,hi⟩:=C;obtain⟨l,m,f2,n,r,u⟩:=G it byB;obtain⟨hs,T,hx,j,g,Z,U,M⟩:=I.Hv hd;obtain⟨rfl,rfl⟩:=BL S Z;obtain⟨⟨k,v⟩,R⟩:∃p,kvs[i]?=O p:=⟨kvs[i],aX hi⟩;obtain⟨en,q,B,N,hq⟩:=M i k v R;refine ZC st T Z U B λh' st' sb=>?_;have I1:Inv X pins σ H {s with heap:=h' }:=I.turned (t':=s.toks) (λb a hb e=>(sb.2 b hb).trans e) l m n r u;obtain⟨L,e,c,f⟩:=id st';exact⟨en.key,Y,x_ (s:={s with heap:=h' }) e c f byD ⟨.ref q,H,I1,N,⟨Y,k,v,q,R,Y,hq⟩,st',λb hb=>(G b hb).1⟩⟩
 done:=by intro X y D x hc i pins s σ H E I G st C;subst y D x;obtain⟨hd,hi⟩:=C;obtain⟨l,m,f2,n,r,u⟩:=G it byB;obtain⟨hs,T,hx,j,g,Z,U,M⟩:=I.Hv hd;obtain⟨rfl,rfl⟩:=BL S Z;exact Qz (I.ok.hd hc) st T Z U hi λh' eb=>⟨Y,I.turned (t':=s.toks) (λb a hb e=>eb b a hb e) l m n r u⟩
 self:=λA i s Q E st h=>by refine UX st.typeIs afD (sQ afD st.typeIs F.entry_dict_keyiterator_iter ?_ (F.args_dict_keyiterator_iter_1 _));show aP _ _ (ret (.ref it)) _ _ s;exact bC ⟨_,Y,"dict_keyiterator",_,st.typeIs,zj.lookup,h⟩
end
def abf(td:TE):TI:=λσ H R=>td σ H λx H1=>∃d o,x=.ref d/\((∃kvs,H1 d=O (.dF o (.dK kvs))/\R (yY d o kvs) H1)\/∃kvs,H1 d=O (.dF o (.dT kvs))/\R (Us d o kvs) H1)
section
variable{X:Cx}{tg e:Expr}{td:TE}{apos cpos:Pos}
theorem YY(Q:PE X e td):PI X tg e (abf td):=by
 intro pins s σ H R I h;refine br (Q pins s σ H _ I h) λu s1 ⟨x,H1,T,rx,d,o,ex,q⟩=>?_;subst ex;obtain rfl:u=dG d:=rx;rcases q with⟨kvs,hd,q⟩|⟨kvs,hd,q⟩
 .obtain⟨S,U,hx,P,O,vs,Z,W,kv,M⟩:=T.Hw hd;refine Q3 S U hx Z (EH (tk:=s1.toks) T _ (VG _ Z) ⟨_,jN _ Y,Y,?_⟩ q);rw[W]<;>rfl
 .obtain⟨S,U,hx,P,O,Z,W,N⟩:=T.Hv hd;refine Q3 S U hx Z (EH (tk:=s1.toks) T _ (VF _ Z) ⟨_,jN _ Y,Y,?_⟩ q);rw[W]<;>rfl
end
def yZ(K:PySem.W.Frag)(a:aa):It:=
 ⟨λi H=>∃(xs:List V)(x:V),aj K H a xs/\xs[i]?=O x,λi H v H'=>∃T x,v=.ref T/\H T=U/\H'=upd H T (.tup [.int (i:Nat),x])/\∀xs,aj K H a xs->xs[i]?=O x,λi H=>∃xs:List V,aj K H a xs/\J xs<=i⟩
theorem VH{P:fV}{w:d9}{K:PySem.W.Frag}{elts:List ff}{kk:Nat}{tpos:pV}(a e it:aa):
 Turn P w K (.Tuple elts kk tpos) (yZ K a) [e,it] e (λi h=>(∃old,IsEnum h e it ((i:Nat):Int) old)/\h.IsListIter it a i/\e≠it) where
 mem:=by simp
 obj:=λi h st b hb=>by
  obtain⟨⟨old,he⟩,⟨o,ho,hc,hd⟩,_⟩:=st;have e':b=e\/b=it:=by simpa using hb
  rcases e' with z|z
  .rw[z];exact⟨_,he,λv q=>nomatch q⟩
  .rw[z];exact⟨o,ho,λv q=>by rw[hd]at q;cases q⟩
 keep:=λi h h' st k=>let ⟨⟨old,he⟩,hi,hne⟩:=st;⟨⟨old,k e byB _ he⟩,hi.at λo q=>k it byB o q,hne⟩
 item:=by
  intro X hP hw hK hc i pins s σ H E I hf st hg;subst hP hw hK;obtain⟨⟨old,he⟩,hit,hne⟩:=st;obtain⟨xs,x,hq,hx⟩:=hg;obtain⟨its,rv,p,hz⟩:=I.list hq;obtain⟨u,hu,ru⟩:=rv.get hx;have hel:e<s.heap.objs.size:=dO he;have hil:it<s.heap.objs.size:=by obtain⟨_,q,_⟩:=hit;exact dO q
  refine wpAny_pyNext_enum_item he hit p.isList (x:=u) (by simpa using hu) hne λh' ho abC hT hsz hk=>?_;refine⟨_,Y,wpAny_letOwnedTupleGo_enum (s:={s with heap:=h',toks:=s.toks+1 }) ho λh'' he' sb=>?_⟩;have hT2:h''.get? s.heap.objs.size=O {cls:=.type "tuple",data:=.seq #[.int i s.toks,u] }:=(sb.2 _ (Ck hel)).trans hT;have new:e7 X.prog X.w (upd H s.heap.objs.size (.tup [.int (i:Nat),x])) h'' s.heap.objs.size (.tup [.int (i:Nat),x]):=
   ⟨by show 2<=bf;decide,[.int i s.toks,u],.cons ⟨_,rfl⟩ (.cons ru .nil),⟨_,hT2,rfl,_,rfl⟩⟩
  have I1:Inv X pins σ (upd H s.heap.objs.size (.tup [.int (i:Nat),x])) {s with heap:=h'',toks:=s.toks+1 }:=
   I.LW (ch:=[e,it]) (λb ob hb q=>(sb.2 b (λz=>hb (by simp[z]))).trans (hk b ob (λz=>hb (by simp[z])) (λz=>hb (by simp[z])) q)) hf (aU _) new
  refine⟨.ref s.heap.objs.size,_,I1,Y,⟨_,x,Y,I.hok.fresh (aU _),Y,λys hy=>by rw[I.Be hy hq];exact hx⟩,⟨⟨u,?_⟩,abC.at λo q=>(sb.2 it (cO hne)).trans q,hne⟩,λb hb=>?_⟩
  .have e1:((i+1:Nat):Int)=(i:Int)+1:=by lia
   rw[e1];exact he'
  .have hb':b<s.heap.objs.size:=by
    have e':b=e\/b=it:=by simpa using hb
    rcases e' with z|z
    .rw[z];exact hel
    .rw[z];exact hil
   rw[bO (iP hb')];exact(hf b hb).1
 done:=by intro X hP hw hK hc i pins s σ H E I hf st hg;subst hP hw hK;obtain⟨⟨old,he⟩,hit,hne⟩:=st;obtain⟨xs,hq,hx⟩:=hg;obtain⟨its,rv,p,hz⟩:=I.list hq;obtain⟨f0,f1,f2,f3,f4,f5⟩:=hf it byB;have hl:=rv.length;exact wpAny_pyNext_enum_end (I.ok.hd hc) he hit p.isList byE λh' eb=>⟨Y,I.turned (t':=s.toks) (λb o hb q=>eb b o hb q) f0 f1 f3 f4 f5⟩
 self:=λA i s Q E st h=>let ⟨⟨_,he⟩,_⟩:=st;U0 he h
inductive Ri(K:PySem.W.Frag)(vs:List V)(H1:Hp)(R:It->Hp->Prop):Prop
 |mk(a:aa)(xs:List V)(_:vs=[.ref a])(_:aj K H1 a xs)(_:R (yZ K a) H1):Ri K vs H1 R
def abg(K:PySem.W.Frag)(ta:TA):TI:=λσ H R=>ta σ H λvs H1=>Ri K vs H1 R
theorem EI{X:Cx}{e:ff}{P:TA}{p pos Z:pV}{T:List ff}{J:Nat}(A:Gl X "enumerate")(C:X.mg "enumerate"=U)(ha:PA X [e] P)(E:eS [e] X.env=[(false,di e X.env)]:=by rfl):
 PI X (.Tuple T J Z) (.Call (.Name "enumerate" p) [e] [] pos) (abg X.K P):=by
 intro pins s σ H R I h;refine C_ (tX I A C boot_enumerate (yC (br (ha pos pins s σ H _ I h) λus s1 ⟨vs,H1,S,N,M⟩=>?_) E Y));obtain⟨a,xs,ex,D,q⟩:=M;subst ex;cases N with
 |cons r rr=>
  cases rr;cases r;obtain⟨G,rv,L,w⟩:=S.list D;refine call_enumerate_list L.isList λh' O Q F B=>U0 O ?_;have x:Inv X pins σ H1 {s1 with heap:=h' }:=S.kept (t':=s1.toks) B;refine⟨s1.heap.objs.size+1,[s1.heap.objs.size+1,s1.heap.objs.size],_,_,H1,Y,x,VH a (s1.heap.objs.size+1) s1.heap.objs.size,⟨⟨.none,O⟩,Q,Nat.succ_ne_self _⟩,λb hb=>?_,q⟩;have y:b=s1.heap.objs.size+1\/b=s1.heap.objs.size:=by simpa using hb
  have W:s1.heap.objs.size<=b:=by
   rcases y with z|z
   .rw[z];exact Cn _ _
   .rw[z];exact aU _
  exact S.vR W (S.hok.fresh W)
theorem ad0:yp "zip"=O (.type "zip"):=by decide +kernel
def sL(K:PySem.W.Frag)(a b:aa):It:=
 ⟨λi H=>∃(xs ys:List V)(x y:V),aj K H a xs/\aj K H b ys/\xs[i]?=O x/\ys[i]?=O y,
  λi H v H'=>∃T x y,v=.ref T/\H T=U/\H'=upd H T (.tup [x,y])/\(∀xs,aj K H a xs->xs[i]?=O x)/\∀ys,aj K H b ys->ys[i]?=O y,
  λi H=>∃xs ys:List V,aj K H a xs/\aj K H b ys/\(J xs<=i\/J ys<=i)⟩
theorem VB{P:fV}{w:d9}{K:PySem.W.Frag}{d:List ff}{kk:Nat}{m:pV}{a b z TI TO N R:aa}(D:ZipApart z TI TO N R a b):
 Turn P w K (.Tuple d kk m) (sL K a b) [z,TI,TO,N,R] z (λi h=>IsZip h z TI TO .none/\IsPair h TI (.ref N) (.ref R)/\(∃x y,IsPair h TO x y)/\h.IsListIter N a i/\h.IsListIter R b i) where
 mem:=by simp
 obj:=λi h st c hc=>by
  obtain⟨G,Z,⟨x,y,S⟩,⟨o1,e1,_,d1⟩,⟨o2,e2,_,d2⟩⟩:=st;have e':c=z\/c=TI\/c=TO\/c=N\/c=R:=by simpa using hc
  rcases e' with q|q|q|q|q
  .rw[q];exact⟨_,G,λv q=>nomatch q⟩
  .rw[q];exact⟨_,Z,λv q=>nomatch q⟩
  .rw[q];exact⟨_,S,λv q=>nomatch q⟩
  .rw[q];exact⟨o1,e1,λv q=>by rw[d1]at q;cases q⟩
  .rw[q];exact⟨o2,e2,λv q=>by rw[d2]at q;cases q⟩
 keep:=λi h h' st k=>by obtain⟨G,Z,⟨x,y,S⟩,n,r⟩:=st;exact⟨k z byB _ G,k TI byB _ Z,⟨x,y,k TO byB _ S⟩,n.at λo q=>k N byB o q,r.at λo q=>k R byB o q⟩
 item:=by
  intro X hP hw hK hc i pins s σ H E I hf st hg;subst hP hw hK;obtain⟨G,Z,⟨x0,y0,S⟩,n,r⟩:=st;obtain⟨xs,ys,x,y,L,M,hx,hy⟩:=hg;obtain⟨j,rv,p,_⟩:=I.list L;obtain⟨J,F,p2,_⟩:=I.list M;obtain⟨u,hu,ru⟩:=rv.get hx;obtain⟨u2,hi,hh⟩:=F.get hy;have g:z<s.heap.objs.size:=dO G;refine wpAny_pyNext_zip_item D G Z S n r p.isList p2.isList (x:=u) (y:=u2) (by simpa using hu) (by simpa using hi) λh' z' hp ho hn hT hq hk=>?_;refine⟨_,Y,wpAny_letOwnedTupleGo_zip (s:={s with heap:=h' }) z' λC ha B=>?_⟩;have hm:C.get? s.heap.objs.size=O {cls:=.type "tuple",data:=.seq #[u,u2] }:=(B.2 _ (Ck g)).trans hT;have new:e7 X.prog X.w (upd H s.heap.objs.size (.tup [x,y])) C s.heap.objs.size (.tup [x,y]):=
   ⟨by show 2<=bf;decide,[u,u2],.cons ru (.cons hh .nil),⟨_,hm,rfl,_,rfl⟩⟩
  have I1:Inv X pins σ (upd H s.heap.objs.size (.tup [x,y])) {s with heap:=C }:=
   I.LW (t':=s.toks) (ch:=[z,TI,TO,N,R]) (λc o hb q=>(B.2 c (λT=>hb (by simp[T]))).trans (hk c o (λT=>hb (by simp[T])) (λT=>hb (by simp[T])) (λT=>hb (by simp[T])) (λT=>hb (by simp[T])) q)) hf (aU _) new
  refine⟨.ref s.heap.objs.size,_,I1,Y,⟨_,x,y,Y,I.hok.fresh (aU _),Y,λl hl=>by rw[I.Be hl L];exact hx,λl hl=>by rw[I.Be hl M];exact hy⟩,⟨ha,?_,⟨u,u2,?_⟩,?_,?_⟩,λc e=>?_⟩
  .exact(B.2 _ D.TIz).trans (hk _ _ D.TIz D.TITO D.TIi1 D.TIi2 Z)
  .exact(B.2 _ D.TOz).trans hp
  .exact ho.at λo q=>(B.2 _ D.i1z).trans q
  .exact hn.at λo q=>(B.2 _ D.i2z).trans q
  .have hj:c<s.heap.objs.size:=by
    have e':c=z\/c=TI\/c=TO\/c=N\/c=R:=by simpa using e
    rcases e' with q|q|q|q|q
    .rw[q];exact g
    .rw[q];exact dO Z
    .rw[q];exact dO S
    .rw[q];obtain⟨_,e1,_⟩:=n;exact dO e1
    .rw[q];obtain⟨_,e2,_⟩:=r;exact dO e2
   rw[bO (iP hj)];exact(hf c e).1
 done:=by
  intro X hP hw hK hc i pins s σ H E I hf st hg;subst hP hw hK;obtain⟨G,Z,⟨x0,y0,S⟩,n,r⟩:=st;obtain⟨xs,ys,L,M,f⟩:=hg;obtain⟨j,rv,p,_⟩:=I.list L;obtain⟨J,F,p2,_⟩:=I.list M;have l1:=rv.length;have l2:=F.length;have he:j.toArray[i]?=U\/J.toArray[i]?=U:=by
   rcases f with q|q
   .exact .inl byE
   .exact .inr byE
  exact wpAny_pyNext_zip_end (I.ok.hd hc) D G Z S n r p.isList p2.isList he λh' hk=>⟨Y,I.VA (t':=s.toks) (ch:=[z,TI,TO,N,R]) (λc o hb q=>
   hk c o (λT=>hb (by simp[T])) (λT=>hb (by simp[T])) (λT=>hb (by simp[T])) (λT=>hb (by simp[T])) q) hf⟩
 self:=λA i s Q E st h=>UW st.1 h
inductive Rb(K:PySem.W.Frag)(vs:List V)(H1:Hp)(R:It->Hp->Prop):Prop
 |mk(a b:aa)(xs ys:List V)(_:vs=[.ref a,.ref b])(_:aj K H1 a xs)(_:aj K H1 b ys)(_:R (sL K a b) H1):Rb K vs H1 R
def aba(K:PySem.W.Frag)(ta:TA):TI:=λσ H R=>ta σ H λvs H1=>Rb K vs H1 R
theorem Pd(u:Gl X "zip")(w:X.mg "zip"=U)(ha:PA X [e,e2] ta)
 (x:eS [e,e2] X.env=(false,di e X.env)::eS [e2] X.env:=by rfl) (P:(mC pos (eS [e2] X.env)).any (·.1)=false:=by rfl) :
 PI X (.Tuple elts kk tpos) (.Call (.Name "zip" p) [e,e2] [] pos) (aba X.K ta):=by
 intro pins s σ H R I h;refine C_ (tX I u w ad0 (yC (br (ha pos pins s σ H _ I h) λus s1 ⟨vs,H1,T,D,B⟩=>?_) x P));obtain⟨a,b,xs,ys,ex,Q,S,q⟩:=B;subst ex;cases D with
 |cons r rr=>
  cases rr with
  |cons C rr=>
   cases rr;cases r;cases C;obtain⟨A,rv,J,_⟩:=T.list Q;obtain⟨G,E,L,_⟩:=T.list S;have la:a<s1.heap.objs.size:=J.lt;have lb:b<s1.heap.objs.size:=L.lt;refine call_zip_2 J.isList L.isList λh' F M N n o y v=>UW F ?_;have l:Inv X pins σ H1 {s1 with heap:=h' }:=T.kept (t':=s1.toks) v;refine⟨s1.heap.objs.size+4,[s1.heap.objs.size+4,s1.heap.objs.size+2,s1.heap.objs.size+3,s1.heap.objs.size,s1.heap.objs.size+1],_,_,H1,Y,l,VB (PySem.W.ktu_apart s1.heap.objs.size a b la lb),⟨F,M,⟨_,_,N⟩,n,o⟩,λc O=>?_,q⟩;have m:c=s1.heap.objs.size+4\/c=s1.heap.objs.size+2\/c=s1.heap.objs.size+3\/c=s1.heap.objs.size\/c=s1.heap.objs.size+1:=by simpa using O
   have Z:s1.heap.objs.size<=c:=by
    rcases m with z|z|z|z|z
    .rw[z];exact Cn _ _
    .rw[z];exact Cn _ _
    .rw[z];exact Cn _ _
    .rw[z];exact aU _
    .rw[z];exact Cn _ _
   exact T.vR Z (T.hok.fresh Z)
end L2
namespace L2
open PySem PySem.Spec PyProof.Rows
def inClass(s:mF)(j:Nat):Stmt:=match s with
 |.ClassDef _ _ _ body _ _ _ _ _ _ _=>body.getD j (.Pass ⟨0,0,0,0⟩)
 |_=>.Pass ⟨0,0,0,0⟩
def yc(s:mF):Arguments:=match s with
 |.FunctionDef _ a _ _ _ _ _ _ _ _=>a
 |_=>{posonlyargs:=[],args:=[],vararg:=U,kwonlyargs:=[],kw_defaults:=[],kwarg:=U,defaults:=[] }
def ue(s:mF):List Stmt:=match s with
 |.FunctionDef _ _ b _ _ _ _ _ _ _=>b
 |_=>[]
def h_(s:mF):Scope:=match s with
 |.FunctionDef _ _ _ _ _ _ sc _ _ _=>sc
 |_=>{kind:=.function,names:=[],isGenerator:=false,isCoroutine:=false }
abbrev qb:oh:=λ_ _ _ _ _ _=>False
abbrev E0:XK:=λ_ _ _=>False
theorem bq:Passes qb X E0:=λ_ _ _ _ _ _ _ h=>h.elim
structure bW(K:PySem.W.Frag)(x qual:ak)(st:mF)(f:aa)(fd:oR):Prop where
 ex:∃(oc:ai)(od:Option aa)(kV doc pm:ai)(an:Option aa)(cdv ct:ai)(osl:Array (Option ai)),
  fd=PySem.W.fnOf x qual (yc st) (ue st) (h_ st) .none kV doc pm an cdv ct/\K.lookup f=O ⟨oc,od,.func fd,osl⟩/\PySem.W.codeIn K cdv qual=true
 kp:PySem.W.keepIn K (.ref f)=true
section
variable{P:Program}{w:World}{K:PySem.W.Frag}{mg:Str->Option Value}{base:Heap}
theorem bW.ok{x qual:ak}{st:mF}{f:aa}{fd:oR}{N ps:List ak}{k:Nat}{sp:Sp}(F:bW K x qual st f fd)(S:ze N ps (h_ st))(len:∀vs H Q E,sp vs H Q E->J vs=J ps)
 (Z:∀(cdv:ai)(A:jd)(outer:List i0)(s:aS)(H:Hp)(vs:List V)(Q:VK)(E:XK),bS k (A.deeper (qH qual (h_ st) s.heap.objs.size f cdv))->sp vs H Q E ->
  ∃t,mJ (rX qb P w K mg base N qual (h_ st) f cdv A outer s H E).vC (ue st) t/\t {nx:=λ_ H'=>Q .az H',rt:=Q } (start N vs) H):e_ P w K mg base qb (k+1) f fd ps sp:=by
 obtain⟨oc,od,kV,doc,pm,an,cdv,ct,osl,rfl,lk,U⟩:=F.ex;refine ab3 lk U S len λA outer s H vs Q E T Y=>?_;obtain⟨t,h,q⟩:=Z cdv A outer s H vs Q E T Y;exact⟨t,h.vC,q⟩
theorem bW.binds{x qual:ak}{st:mF}{f:aa}{fd:oR}{ps:List ak}(F:bW K x qual st f fd)
 (h:∀(kV doc pm:ai)(an:Option aa)(cdv ct:ai)(us:List ai),J us=J ps->S7 (PySem.W.fnOf x qual (yc st) (ue st) (h_ st) .none kV doc pm an cdv ct) ⟨us,[]⟩=pure (ps.zip us)):Binds K fd ps []:=by
 obtain⟨oc,od,kV,doc,pm,an,cdv,ct,osl,rfl,lk,Z⟩:=F.ex;exact .all (h kV doc pm an cdv ct)
theorem abU{x qual:ak}{st:mF}{f:aa}{oc:ai}{od an:Option aa}{osl:Array (Option ai)}{kV doc pm cdv ct:ai}(l:K.lookup f=O ⟨oc,od,.func (PySem.W.fnOf x qual (yc st) (ue st) (h_ st) .none kV doc pm an cdv ct),osl⟩)
 (c:PySem.W.codeIn K cdv qual=true) (k:PySem.W.keepIn K (.ref f)=true):bW K x qual st f (PySem.W.fnOf x qual (yc st) (ue st) (h_ st) .none kV doc pm an cdv ct):=⟨⟨oc,od,kV,doc,pm,an,cdv,ct,osl,Y,l,c⟩,k⟩
end
theorem jF(Z:bS k A):A.units+9<cLine:=JQ (Nat.add_le_add_left (by decide:9<=64) _) Z.units
section
variable{X:Cx}
theorem pv(i:Nat)(W:X.N[i]?=O x:=by rfl)(hv:vX X.env.scope x:=by first|exact Or.inl Y|exact Or.inr (Or.inl Y)|exact Or.inr (Or.inr Y))(hd:(x==("__debug__":ak))=false:=by decide)
 (Z:(x==("__classdict__":ak))=false:=by decide):PE X (.Name x pos) (zZ i):=Y3 W hv hd Z
theorem SQ:n_ X (.builtin "len") (λxs H Q=>∃a kvs,xs=[V.ref a]/\H a=O (.dK kvs)/\Q (.int (J kvs)) H):=by intro pins s σ H xs us Q I r h;obtain⟨a,kvs,rfl,ha,q⟩:=h;obtain⟨u,rfl,Z⟩:=vals1 r;cases Z;exact adw I (.inl ha) λt s' W=>⟨.int (J kvs),H,W,⟨t,Y⟩,q⟩
end
theorem cJ{A B:Prop}(h:B):if false=true then A else B:=by rw[ao iJ];exact h
theorem bR{A B:Prop}(h:A):if true=true then A else B:=by rw[aD rfl];exact h
theorem dW{c A B:Prop}[Decidable c](Z:c)(h:A):if decide c=true then A else B:=by rw[bJ Z];exact bR h
theorem dD{c A B:Prop}[Decidable c](Z:¬c)(h:B):if decide c=true then A else B:=by rw[bP Z];exact cJ h
def aG(H H':Hp):Prop:=∀b o,H b=O o->H' b=O o
theorem aG.refl(H:Hp):aG H H:=λ_ _ h=>h
theorem aG.trans(a:aG H H1)(b:aG H1 H2):aG H H2:=λc o h=>b c o (a c o h)
theorem aG.free(e:aG H H')(h:H' l=Option.none):H l=Option.none:=by
 cases q:H l with
 |none=>rfl
 |some o=>rw[e l o q]at h;cases h
theorem aG.seq{K:PySem.W.Frag}{H H':Hp}{a:aa}{xs:List V}(e:aG H H')(h:aj K H a xs):aj K H' a xs:=by
 rcases h with(h|⟨o,h⟩)|h
 .exact .inl (.inl (e _ _ h))
 .exact .inl (.inr ⟨o,e _ _ h⟩)
 .exact .inr h
section
variable{κ:Type}[DecidableEq κ]
theorem Vn{kvs:List (κ×V)}{k:κ}{v:V}(h:bU kvs k=O v):k∈kvs.map (·.1):=by
 have q:(kvs.any λkv=>decide (kv.1=k))=true:=by
  rw[qT,h]
  all_goals rfl
 obtain⟨p,Z,e⟩:=qP.mp q;exact kM.mpr ⟨p,Z,pB e⟩
end
theorem QB{Z:Type}{l:List Z}(Y:l.Nodup){i j:Nat}{x:Z}(a:l[i]?=O x)(b:l[j]?=O x):i=j:=by obtain⟨U,e1⟩:=cV.mp a;obtain⟨W,e2⟩:=cV.mp b;exact(ae2 Y).mp (e1.trans e2.symm)
end L2
end
section
namespace L2
open PySem PySem.Spec PyProof.Rows
open PySem.W (WData Codec OpenSpec Well WellAll ReadsW ReadsAllW)
mutual
inductive Dw(K:PySem.W.Frag)(H:Hp):V->iO->Prop
 |az:Dw K H .az .none
 |bl (b:Bool):Dw K H (.bl b) (.bool b)
 |int (i:Int):Dw K H (.int i) (.int i)
 |str (x:ak):Dw K H (.str x) (.str x)
 |j4 (b:Array UInt8):Dw K H (.j4 b) (.bytes b.toList)
 |lst {a:aa} {xs:List V} {ds:List iO}:aj K H a xs->n9 K H xs ds->Dw K H (.ref a) (.list ds)
 |tup {a:aa} {xs:List V} {ds:List iO}:bu K H a xs->n9 K H xs ds->Dw K H (.ref a) (.tuple ds)
inductive n9(K:PySem.W.Frag)(H:Hp):List V->List iO->Prop
 |nil:n9 K H [] []
 |cons {v:V} {vs:List V} {d:iO} {ds:List iO}:Dw K H v d->n9 K H vs ds->n9 K H (v::vs) (d::ds)
end
theorem Sg{K:PySem.W.Frag}{H:Hp}:∀ns:List Int,n9 K H (ns.map V.int) (ns.map iO.int)
 |[]=>.nil
 |n::r=>.cons (.int n) (Sg r)
theorem Q_{K:PySem.W.Frag}{H:Hp}:∀(ns:List Int)(xs:List V),n9 K H xs (ns.map iO.int)->xs=ns.map V.int
 |[],xs,h=>by cases h;rfl
 |n::r,xs,h=>by
  cases h with
  |cons Y Z=>cases Y;rw[Q_ r _ Z]<;>rfl
section
variable{P:Program}{w:World}{K:PySem.W.Frag}{H:Hp}{h:Heap}{R:PySem.W.WRecords}{cl:Str->Option Addr}
theorem WU(hok:d_ P w H h)(T:K.In h)(q:aj K H a xs):∃(Z:List ai)(o:cK)(n:Nat),Vals xs Z/\h.get? a=O o/\o.cls=.type "list"/\o.data=.seq Z.toArray n:=by
 rcases q with q|⟨o,Z,n,e,U,_,hd,_,hv⟩
 .obtain⟨_,Z,n,hv,e⟩:=(show e7 P w H h a (.lst xs) from q.ok hok);exact⟨Z,_,n,hv,e,Y,Y⟩
 .exact⟨Z.toList,o,n,hv,T _ _ e,U,by simp[hd]⟩
theorem WT(hok:d_ P w H h)(U:K.In h)(q:bu K H a xs):∃(Z:List ai)(o:cK)(n:Nat),Vals xs Z/\h.get? a=O o/\o.cls=.type "tuple"/\o.data=.seq Z.toArray n:=by
 rcases q with q|⟨o,Z,n,e,Y,hd,_,hv⟩
 .obtain⟨_,Z,hv,o,e,Y,n,hd⟩:=(show e7 P w H h a (.tup xs) from q.ok hok);exact⟨Z,o,n,hv,e,Y,hd⟩
 .exact⟨Z.toList,o,n,hv,U _ _ e,Y,by simp[hd]⟩
mutual
theorem Dw.reads(hok:d_ P w H h)(Y:K.In h):∀(d:iO)(v:V)(u:ai),Dw K H v d->RelV v u->∃as,sC R cl h u d as
 |.none,_,_,x,r=>by cases x;cases r;exact⟨_,sC.none⟩
 |.bool b,_,_,x,r=>by cases x;cases r;exact⟨_,sC.bool b⟩
 |.int i,_,_,x,r=>by cases x;obtain⟨t,rfl⟩:=r;exact⟨_,sC.int i t⟩
 |.str s,_,_,x,r=>by cases x;obtain⟨t,rfl⟩:=r;exact⟨_,sC.str s t⟩
 |.bytes b,_,_,x,r=>by cases x;obtain⟨t,rfl⟩:=r;exact⟨_,sC.bytes _ t⟩
 |.list ds,_,_,x,r=>by
  cases x with
  |lst U ha=>cases r;obtain⟨Z,o,n,rv,S,Q,hd⟩:=WU hok Y U;obtain⟨as,T⟩:=Dw.readsAll hok Y ds _ Z ha rv;exact⟨_,sC.list S Q hd T⟩
 |.tuple ds,_,_,x,r=>by
  cases x with
  |tup U ha=>cases r;obtain⟨Z,o,n,rv,S,Q,hd⟩:=WT hok Y U;obtain⟨as,T⟩:=Dw.readsAll hok Y ds _ Z ha rv;exact⟨_,sC.tuple S Q hd T⟩
 |.float _,_,_,x,_=>by cases x
 |.dict _,_,_,x,_=>by cases x
 |.bytearray _,_,_,x,_=>by cases x
 |.set _,_,_,x,_=>by cases x
 |.frozenset _,_,_,x,_=>by cases x
 |.obj _ _,_,_,x,_=>by cases x
theorem Dw.readsAll(hok:d_ P w H h)(Z:K.In h):∀(ds:List iO)(vs:List V)(us:List ai),n9 K H vs ds->Vals vs us->∃as,Tq R cl h us ds as
 |[],_,_,x,r=>by cases x;cases r;exact⟨_,Tq.nil⟩
 |d::ds,_,_,x,r=>by
  cases x with
  |cons O Q=>
   cases r with
   |cons U Y=>obtain⟨as,S⟩:=Dw.reads hok Z d _ _ O U;obtain⟨bs,T⟩:=Dw.readsAll hok Z ds _ _ Q Y;exact⟨_,Tq.cons S T⟩
end
end
mutual
def nG:iO->Bool
 |.none=>true
 |.bool _=>true
 |.int _=>true
 |.str _=>true
 |.bytes _=>true
 |.list xs=>o9 xs
 |.tuple xs=>o9 xs
 |_=>false
def o9:List iO->Bool
 |[]=>true
 |x::r=>nG x&&o9 r
end
theorem O7{Z:Type}{f:Z->iO}(h:∀a,nG (f a)=true):∀l:List Z,o9 (l.map f)=true
 |[]=>rfl
 |x::r=>by show(nG (f x)&&o9 (r.map f))=true;rw[h x,O7 h r]<;>rfl
theorem rA:∀(c:ku)(a:c.denote),nG (c.enc a)=true
 |.unit,_=>rfl
 |.bool,_=>rfl
 |.int _ _,_=>rfl
 |.nat _ _,_=>rfl
 |.u8,_=>rfl
 |.bytes _ _,_=>rfl
 |.text _ _ _ _,_=>rfl
 |.list _ _ c,a=>O7 (λx=>rA c x) a
 |.pair c d,a=>by show(nG (c.enc a.1)&&(nG (d.enc a.2)&&true))=true;rw[rA c a.1,rA d a.2]<;>rfl
 |.triple c d e,a=>by show(nG (c.enc a.1)&&(nG (d.enc a.2.1)&&(nG (e.enc a.2.2)&&true)))=true;rw[rA c a.1,rA d a.2.1,rA e a.2.2]<;>rfl
 |.option c,U=>rfl
 |.option c,O x=>rA c x
theorem O6:∀(cs:List ku)(a:ku.denoteAll cs),o9 (ku.encAll cs a)=true
 |[],_=>rfl
 |c::cs,a=>by show(nG (c.enc a.1)&&o9 (ku.encAll cs a.2))=true;rw[rA c a.1,O6 cs a.2]<;>rfl
theorem Ds:∀{xs:List iO}{d:iO},d∈xs->d.weight<=iO.weightAll xs
 |[],d,h=>absurd h byB
 |x::r,d,h=>by
  show d.weight<=x.weight+1+iO.weightAll r;rcases bE.mp h with e|m
  .rw[e];lia
  .have z:=Ds m;lia
def toV:ai->V
 |.none=>.az
 |.bool b=>.bl b
 |.int i _=>.int i
 |.str x _=>.str x
 |.bytes b _=>.j4 b
 |.ref a=>.ref a
 |_=>.az
def nh(A:List aa):ai->Prop
 |.none=>True
 |.bool _=>True
 |.int _ _=>True
 |.str _ _=>True
 |.bytes _ _=>True
 |.ref a=>a∈A
 |_=>False
theorem nh.mono(h:∀a∈A,a∈B):∀{u:ai},nh A u->nh B u:=λ{u} x=>by
 cases u with
 |ref a=>exact h a x
 |none=>trivial
 |bool b=>trivial
 |int i t=>trivial
 |str s t=>trivial
 |bytes b t=>trivial
 |_=>exact lC x
theorem Yy(x:nh A u):RelV (toV u) u:=by
 cases u with
 |ref a=>rfl
 |none=>rfl
 |bool b=>rfl
 |int i t=>exact⟨t,Y⟩
 |str s t=>exact⟨t,Y⟩
 |bytes b t=>exact⟨t,Y⟩
 |_=>exact lC x
theorem uL:∀{vs:List ai},(∀u∈vs,nh A u)->Vals (vs.map toV) vs
 |[],_=>.nil
 |u::r,h=>.cons (Yy (h u (mL ..))) (uL λx hx=>h x (dR _ hx))
def oi(h:dj)(A:List aa)(a:aa):Prop:=∃vs:List ai,J vs<=bf/\(∀u∈vs,nh A u) /\
 (h.get? a=O {cls:=.type "list",data:=.seq vs.toArray }\/h.get? a=O {cls:=.type "tuple",data:=.seq vs.toArray })
theorem oi.mono(k:∀a∈A,a∈B)(x:oi h A a):oi h B a:=by obtain⟨vs,U,W,Y⟩:=x;exact⟨vs,U,λu Z=>(W u Z).mono k,Y⟩
theorem zI:∀{vs:List ai}{ds:List iO},ur P h vs ds->J vs=J ds
 |_,_,.nil=>rfl
 |_,_,.cons _ b=>by show _+1=_+1;rw[zI b]
theorem Lz(x:Well P h v (.list ds)):∃(a:aa)(vs:List ai),v=.ref a/\h.get? a=O {cls:=.type "list",data:=.seq vs.toArray }/\ur P h vs ds:=by
 cases x with
 |list W Z=>exact⟨_,_,Y,W,Z⟩
theorem Ly(x:Well P h v (.tuple ds)):∃(a:aa)(vs:List ai),v=.ref a/\h.get? a=O {cls:=.type "tuple",data:=.seq vs.toArray }/\ur P h vs ds:=by
 cases x with
 |tuple W Z=>exact⟨_,_,Y,W,Z⟩
theorem LA(x:ur P h us (d::ds)):∃(v:ai)(vs:List ai),us=v::vs/\Well P h v d/\ur P h vs ds:=by
 cases x with
 |cons a b=>exact⟨_,_,Y,a,b⟩
theorem QK(h:n<=1048576):n<=sizeLine:=eL h byD
section
mutual
theorem ad9:∀(d:iO)(v:ai),Well P h v d->nG d=true->d.weight<=1048576->∃A:List aa,nh A v/\∀a∈A,oi h A a
 |.none,_,x,_,_=>by cases x;exact⟨[],trivial,λa m=>absurd m byB⟩
 |.bool b,_,x,_,_=>by cases x;exact⟨[],trivial,λa m=>absurd m byB⟩
 |.int i,_,x,_,_=>by cases x;exact⟨[],trivial,λa m=>absurd m byB⟩
 |.str s,_,x,_,_=>by cases x;exact⟨[],trivial,λa m=>absurd m byB⟩
 |.bytes b,_,x,_,_=>by cases x;exact⟨[],trivial,λa m=>absurd m byB⟩
 |.list ds,_,x,p,z=>by
  obtain⟨a,vs,rfl,T,Z⟩:=Lz x;have Y:=z;obtain⟨A,R,S⟩:=B5 ds _ Z p λd hd=>eL (Ds hd) Y;have k:∀b∈A,b∈a::A:=λb hb=>dR _ hb;refine⟨a::A,mL ..,λb hb=>?_⟩;rcases bE.mp hb with e|m
  .rw[e];exact⟨vs,QK (by rw[zI Z];exact eL (PySem.W.length_le_weightAllW ds) Y),λu U=>(R u U).mono k,.inl T⟩
  .exact(S b m).mono k
 |.tuple ds,_,x,p,z=>by
  obtain⟨a,vs,rfl,T,Z⟩:=Ly x;have Y:=z;obtain⟨A,R,S⟩:=B5 ds _ Z p λd hd=>eL (Ds hd) Y;have k:∀b∈A,b∈a::A:=λb hb=>dR _ hb;refine⟨a::A,mL ..,λb hb=>?_⟩;rcases bE.mp hb with e|m
  .rw[e];exact⟨vs,QK (by rw[zI Z];exact eL (PySem.W.length_le_weightAllW ds) Y),λu U=>(R u U).mono k,.inr T⟩
  .exact(S b m).mono k
 |.float _,_,_,p,_=>lU (show false=true from p)
 |.dict _,_,_,p,_=>lU (show false=true from p)
 |.bytearray _,_,_,p,_=>lU (show false=true from p)
 |.set _,_,_,p,_=>lU (show false=true from p)
 |.frozenset _,_,_,p,_=>lU (show false=true from p)
 |.obj _ _,_,_,p,_=>lU (show false=true from p)
theorem B5:∀(ds:List iO)(vs:List ai),ur P h vs ds->o9 ds=true->(∀d∈ds,d.weight<=1048576)->∃A:List aa,(∀u∈vs,nh A u)/\∀a∈A,oi h A a
 |[],_,x,_,_=>by cases x;exact⟨[],λu m=>absurd m byB,λa m=>absurd m byB⟩
 |d::ds,_,x,p,z=>by
  obtain⟨v,vs,rfl,U,W⟩:=LA x;have q:=agI.mp p;obtain⟨A,N,O⟩:=ad9 d v U q.1 (z d (mL ..));obtain⟨B,Q,R⟩:=B5 ds vs W q.2 λe S=>z e (dR _ S);have Y:∀b∈A,b∈A++B:=λb hb=>kh.mpr (.inl hb);have Z:∀b∈B,b∈A++B:=λb hb=>kh.mpr (.inr hb);refine⟨A++B,λu T=>?_,λb hb=>?_⟩
  .rcases bE.mp T with e|m
   .rw[e];exact N.mono Y
   .exact(Q u m).mono Z
  .rcases kh.mp hb with m|m
   .exact(O b m).mono Y
   .exact(R b m).mono Z
end
end
def Bt(o:cK):Option HO:=match o.data with
 |.seq vs _=>if(o.cls==r_ "list")=true then O (.dF o (.lst (vs.toList.map toV))) else O (.dF o (.tup (vs.toList.map toV)))
 |_=>U
def jJ(K:PySem.W.Frag)(h:dj)(A:List aa):Hp:=λb=>if b∈A then(if(K.lookup b).isNone=true then(h.get? b).bind Bt else U) else U
def yH(H:Hp):Prop:=∀b,H b=U\/∃o u,H b=O (.dF o u)
theorem Ru(vs:List ai):Bt {cls:=.type "list",data:=.seq vs.toArray }=O (.dF {cls:=.type "list",data:=.seq vs.toArray } (.lst (vs.map toV))):=by show(if(r_ "list"==r_ "list")=true then O (HO.dF {cls:=.type "list",data:=.seq vs.toArray } (.lst (vs.toArray.toList.map toV))) else O (HO.dF {cls:=.type "list",data:=.seq vs.toArray } (.tup (vs.toArray.toList.map toV))))=_;rw[aD (beq_self_eq_true _)]
theorem Rt(vs:List ai):Bt {cls:=.type "tuple",data:=.seq vs.toArray }=O (.dF {cls:=.type "tuple",data:=.seq vs.toArray } (.tup (vs.map toV))):=by show(if(r_ "tuple"==r_ "list")=true then O (HO.dF {cls:=.type "tuple",data:=.seq vs.toArray } (.lst (vs.toArray.toList.map toV))) else O (HO.dF {cls:=.type "tuple",data:=.seq vs.toArray } (.tup (vs.toArray.toList.map toV))))=_;rw[ao byD]
section
variable{P:Program}{w:World}{K:PySem.W.Frag}{h:Heap}{A:List Addr}
theorem B4(hb:b∈A)(Z:K.lookup b=U)(e:h.get? b=O o):jJ K h A b=Bt o:=by unfold jJ;rw[aD hb,Z,aD (show(U:Option cK).isNone=true from rfl),e]<;>rfl
theorem Zm(q:jJ K h A b=O u):b∈A/\K.lookup b=U:=by
 unfold jJ at q;by_cases hb:b∈A
 .rw[aD hb]at q;cases Z:K.lookup b with
  |none=>exact⟨hb,Y⟩
  |some o=>rw[Z,ao byB]at q;cases q
 .rw[ao hb]at q;cases q
theorem B3(R:∀a∈A,oi h A a)(q:jJ K h A b=O u):K.lookup b=U/\∃vs:List ai,J vs<=bf/\(∀u∈vs,nh A u) /\
 ((h.get? b=O {cls:=.type "list",data:=.seq vs.toArray }/\u=.dF {cls:=.type "list",data:=.seq vs.toArray } (.lst (vs.map toV))) \/
  (h.get? b=O {cls:=.type "tuple",data:=.seq vs.toArray }/\u=.dF {cls:=.type "tuple",data:=.seq vs.toArray } (.tup (vs.map toV)))):=by
 obtain⟨hb,Z⟩:=Zm q;obtain⟨vs,S,T,Y⟩:=R b hb;refine⟨Z,vs,S,T,?_⟩;rcases Y with e|e
 .rw[B4 hb Z e,Ru]at q;exact .inl ⟨e,(bH q).symm⟩
 .rw[B4 hb Z e,Rt]at q;exact .inr ⟨e,(bH q).symm⟩
theorem ad7(Z:∀a∈A,oi h A a):yH (jJ K h A):=λb=>by
 cases q:jJ K h A b with
 |none=>exact .inl Y
 |some u=>
  obtain⟨_,vs,_,_,⟨_,e⟩|⟨_,e⟩⟩:=B3 Z q
  .exact .inr ⟨_,_,by rw[e]⟩
  .exact .inr ⟨_,_,by rw[e]⟩
theorem ad8(T:∀a∈A,oi h A a):d_ P w (jJ K h A) h:=λb u q=>by
 obtain⟨_,vs,U,Z,⟨e,rfl⟩|⟨e,rfl⟩⟩:=B3 T q
 .exact⟨e,by rw[aM];exact U,vs,_,uL Z,e⟩
 .exact⟨e,by rw[aM];exact U,vs,uL Z,_,e,Y,_,Y⟩
theorem Ak{c Z:ai}{vs us:List ai}(e:(O {cls:=c,data:=.seq vs.toArray }:Option cK)=O {cls:=Z,data:=.seq us.toArray }):c=Z/\vs=us:=by
 have e1:=bH e;have e2:=fq Obj.cls e1;have T:=fq Obj.data e1;injection T with U
 refine⟨e2,?_⟩;have Y:=fq agJ U;simpa using Y
theorem ad6(N:K.In h)(Q:∀a∈A,oi h A a){a:aa}{vs:List ai}(ha:a∈A)(e:h.get? a=O {cls:=.type "list",data:=.seq vs.toArray }):(∀u∈vs,nh A u)/\aj K (jJ K h A) a (vs.map toV):=by
 obtain⟨us,R,U,S⟩:=Q a ha;have T:us=vs:=by
  rcases S with q|q
  .rw[e]at q;exact(Ak q).2.symm
  .rw[e]at q;exact absurd (aej (Ak q).1) byD
 subst T;refine⟨U,?_⟩;cases Z:K.lookup a with
 |none=>exact .inl (.inr ⟨_,by rw[B4 ha Z e,Ru]⟩)
 |some o=>have e2:=N a o Z;rw[e]at e2;obtain rfl:=bH e2;exact .inr ⟨_,us.toArray,_,Z,Y,Y,Y,by rw[eX];exact R,by simpa using uL U⟩
theorem ad5(N:K.In h)(Q:∀a∈A,oi h A a){a:aa}{vs:List ai}(ha:a∈A)(e:h.get? a=O {cls:=.type "tuple",data:=.seq vs.toArray }):(∀u∈vs,nh A u)/\bu K (jJ K h A) a (vs.map toV):=by
 obtain⟨us,R,U,S⟩:=Q a ha;have T:us=vs:=by
  rcases S with q|q
  .rw[e]at q;exact absurd (aej (Ak q).1) byD
  .rw[e]at q;exact(Ak q).2.symm
 subst T;refine⟨U,?_⟩;cases Z:K.lookup a with
 |none=>exact .inl (.inr ⟨_,by rw[B4 ha Z e,Rt]⟩)
 |some o=>have e2:=N a o Z;rw[e]at e2;obtain rfl:=bH e2;exact .inr ⟨_,us.toArray,_,Z,Y,Y,by rw[eX];exact R,by simpa using uL U⟩
mutual
theorem adj{O:Params}(U:K.In h)(Y:∀a∈A,oi h A a):∀(d:iO)(v:ai),Well O h v d->nG d=true->nh A v->Dw K (jJ K h A) (toV v) d
 |.none,_,x,_,_=>by cases x;exact .az
 |.bool b,_,x,_,_=>by cases x;exact .bl b
 |.int i,_,x,_,_=>by cases x;exact .int i
 |.str s,_,x,_,_=>by cases x;exact .str s
 |.bytes b,_,x,_,_=>by cases x;have z:=Dw.j4 (K:=K) (H:=jJ K h A) b.toArray;exact z
 |.list ds,_,x,p,T=>by obtain⟨a,vs,rfl,R,Z⟩:=Lz x;obtain⟨Q,S⟩:=ad6 U Y T R;exact .lst S (BI U Y ds _ Z p Q)
 |.tuple ds,_,x,p,T=>by obtain⟨a,vs,rfl,R,Z⟩:=Ly x;obtain⟨Q,S⟩:=ad5 U Y T R;exact .tup S (BI U Y ds _ Z p Q)
 |.float _,_,_,p,_=>lU (show false=true from p)
 |.dict _,_,_,p,_=>lU (show false=true from p)
 |.bytearray _,_,_,p,_=>lU (show false=true from p)
 |.set _,_,_,p,_=>lU (show false=true from p)
 |.frozenset _,_,_,p,_=>lU (show false=true from p)
 |.obj _ _,_,_,p,_=>lU (show false=true from p)
theorem BI(U:K.In h)(Y:∀a∈A,oi h A a):∀(ds:List iO)(vs:List ai),ur Pm h vs ds->o9 ds=true->(∀u∈vs,nh A u)->n9 K (jJ K h A) (vs.map toV) ds
 |[],_,x,_,_=>by cases x;exact .nil
 |d::ds,_,x,p,Z=>by obtain⟨v,vs,rfl,S,T⟩:=LA x;have q:=agI.mp p;exact .cons (adj U Y d v S q.1 (Z _ (mL ..))) (BI U Y ds vs T q.2 λu m=>Z u (dR _ m))
end
end
theorem WW{P:fV}{w:d9}{K:PySem.W.Frag}{mg mb:ak->Option ai}{CX:oh}{k:Nat}{fa:aa}{fd:oR}{ps:List ak}{sp:Sp}{Z:aS}{T:List ai}{ds:List iO}{R:PySem.W.WRecords}{cl:ak->Option aa}{f:iO}
 (a:K.In Z.heap) (G:Z.heap.Ns jr mg) (hb:Z.heap.Ns SV mb) (i:∀x:ak,x≠"__name__"->mb x=yp x) (E:Z.heap.NoLimit) (hg:Z.gens=#[])
 (N:ur w.params Z.heap T ds) (I:o9 ds=true) (l:∀d∈ds,d.weight<=1048576) (hr:bS k yi)
 (F:∀base:dj,K.In base->base.Ns jr mg->e_ P w K mg base CX k fa fd ps sp) (M:∀(s:aS)(us:List ai),J us=J ps->zu s fd ⟨us,[]⟩ (ps.zip us)) (D:J ds=J ps)
 (j:∀(H:Hp)(xs:List V),yH H->n9 K H xs ds->sp xs H (λv H'=>Dw K H' v f) λ_ _ _=>False)
 (g:∀H e s',CX [] H Z (λ_ _ _=>False) e s'->False) :
 uf (a_ P w) yi (.call (.ref fa) ⟨T,[]⟩) (λr s'=>∃u as,r=.ok (.ret u)/\sC R cl s'.heap u f as/\OldK Z.heap s'.heap/\s'.os=Z.os/\wG s'.gens) Z:=by
 obtain⟨A,ho,B⟩:=B5 ds T N I l;have h:yH (jJ K Z.heap A):=ad7 B;have hok:d_ P w (jJ K Z.heap A) Z.heap:=ad8 B;have hS:=BI a B ds T N I ho;have hV:=uL ho;have hK:∀b u,jJ K Z.heap A b=O u->K.lookup b=U:=λb u q=>(B3 B q).1;have L:∀{b:aa}{o:cK}{y:Array C6}{p:Nat},Z.heap.get? b=O o->o.data=.dict y p->jJ K Z.heap A b=U:=λ{b o y p} e d=>by
  cases q:jJ K Z.heap A b with
  |none=>rfl
  |some u=>
   obtain⟨_,vs,_,_,⟨e2,_⟩|⟨e2,_⟩⟩:=B3 B q
   .rw[e2]at e;cases e;have d':=d;cases d'
   .rw[e2]at e;cases e;have d':=d;cases d'
 generalize jJ K Z.heap A=H at h hok hS hK L;have base_of:∀{b:aa}{o:cK},Z.heap.get? b=O o->H b=U->(qC Z.heap H).get? b=O o:=λe n=>abE e n;have S:∀{b:aa}{m:ak->Option ai},Z.heap.Ns b m->(qC Z.heap H).Ns b m:=λ{b m} ⟨o,y,p,e,d,r⟩=>⟨o,y,p,base_of e (L e d),d,r⟩;have nK:∀b o,K.lookup b=O o->H b=U:=λb o e=>by
  cases q:H b with
  |none=>rfl
  |some u=>rw[hK b u q]at e;cases e
 have C:K.In (qC Z.heap H):=λb o e=>base_of (a b o e) (nK b o e);have hM:Mod K mg (qC Z.heap H):=⟨C,S G,⟨mb,S hb,i⟩,let ⟨mc,h1,h2⟩:=E;⟨mc,S h1,h2⟩⟩;have e0:sN P w K mg (qC Z.heap H) yi [] Z H:=⟨Y,hM,λb o e=>Zl e,Cm (abD _ _),trivial,λb hb=>absurd (show b∈([]:List aa) from hb) byB,hok,.of_eq hg⟩;have hl:J T=J ps:=by rw[zI N];exact D
 refine BQ ((F _ C (S G)).run yi [] Z H ⟨T,[]⟩ T (T.map toV) _ _ hr e0 (M Z T hl) hV (j H _ h hS)) λr s' x=>?_;cases r with
 |error e=>exact(g H e s' x).elim
 |ok fl=>
  cases fl with
  |next=>exact lC x
  |brk=>exact lC x
  |cont=>exact lC x
  |ret u=>
   obtain⟨v,H',os,bare,un,Q,r',q⟩:=x;have kept:∀b o,Z.heap.get? b=O o->s'.heap.get? b=O o:=λb o e=>by
    cases q2:H b with
    |none=>exact un.keep b o e q2 (by intro z;exact absurd (show b∈([]:List aa) from z) byB) byB
    |some u2=>
     rcases h b with z|⟨ob,u3,z⟩
     .rw[q2]at z;cases z
     .have z2:=un.nQ b ob _ z;obtain⟨e1,_⟩:=hok b _ z;obtain⟨e2,_⟩:=Q b _ z2;rw[e]at e1;cases e1;exact e2
   have c:K.In s'.heap:=λb o e=>kept b o (a b o e);obtain⟨as,hrd⟩:=Dw.reads Q c f v u q r';exact⟨u,as,Y,hrd,OldK.of_keep kept,os,bare⟩
theorem aao(h:iO.layableAll ds=true):∀d∈ds,d.weight<=1048576:=λd hd=>
 (PySem.W.layableW_iff.mp (qa.mp h d hd)).2.2
theorem Se:∀(cs:List ku)(a:ku.denoteAll cs),J (ku.encAll cs a)=J cs
 |[],_=>rfl
 |c::cs,a=>by show(ku.encAll cs a.2).length+1=J cs+1;rw[Se cs a.2]
theorem Vk{r:OpenSpec}{k:Nat}{q:fV}{Z:List ak}{XP:(ak->Option ai)->dj->Prop}{y:d9->dj->Prop}{d:DefRec}{K:Params->PySem.W.Frag}{CX:d9->oh}{ps:List ak}{sp:d9->Sp}
 (U:r.wellSaid=true) (i:d.params.defaults=[]) (N:J r.args=J ps) (n:bS k yi)
 (hY:∀(w:d9)(h:dj),y w h->(K w.params).In h)
 (F:∀(w:d9)(mg:ak->Option ai)(L:aa)(h:dj),y w h->(K w.params).In h->h.Ns jr mg->mg d.name=O (.ref L) ->
  ∃fd:oR,(∀(s:aS)(us:List ai),J us=J ps->zu s fd ⟨us,[]⟩ (ps.zip us)) /\
   ∀base:dj,(K w.params).In base->base.Ns jr mg->e_ r.prog w (K w.params) mg base (CX w) k L fd ps (sp w))
 (E:∀(w:d9)(H:Hp)(xs:List V)(a:ku.denoteAll r.args),yH H->ku.withinAll r.args a=true->ku.app r.args r.asked a=true->n9 (K w.params) H xs (ku.encAll r.args a) ->
  sp w xs H (λv H'=>Dw (K w.params) H' v (r.ret.enc (ku.app r.args r.f a))) λ_ _ _=>False)
 (C:∀(w:d9)(H:Hp)(s:aS)(e:ai)(s':aS),CX w [] H s (λ_ _ _=>False) e s'->False) :
 PySem.W.WalkOS q Z XP y r d [] (λf vs=>PySem.call f vs):=by
 intro w jl S mg mb G B L o pm cd doc dV kV ho hd c hD D j args x as P M hrd I l;obtain⟨a,e1,e2⟩:=PySem.W.os_pre_some P;obtain⟨e3,Q⟩:=Codec.encAll_of_decAll r.args args a e1;subst e3;have p:=hY w _ B;obtain⟨fd,hb,hF⟩:=F w mg L _ B p G.T.g D;refine PySem.W.enter_call (BQ (WW (R:=[]) (cl:=classAt jl.heap) p G.T.g G.T.b G.T.builtins G.T.nolimit j I (O6 _ _) (aao M) n hF hb (by rw[Se];exact N)
  (λH xs hO hS=>E w H xs a hO Q e2 hS) λH e s'=>C w H S e s') λr' s' m=>?_)
 obtain⟨u,A,rfl,h1,h2,h3,h4⟩:=m;exact⟨.inl ⟨u,_,A,Y,λ_=>Y,h1,(OpenSpec.post_iff U Q _ _).mpr Y,λz=>lU (show false=true from z)⟩,h2,h3,h4⟩
theorem Vj{r:OpenSpec}{k:Nat}{q:fV}{Z:List ak}{D:(ak->Option ai)->dj->Prop}{Q:d9->dj->Prop}{d:DefRec}{K:Params->PySem.W.Frag}{CX:oh}{ps:List ak}{sp:PySem.W.Frag->Sp}
 (Y:r.wellSaid=true) (S:d.params.defaults=[]) (U:J r.args=J ps) (N:bS k yi)
 (M:∀(w:d9)(h:dj),Q w h->(K w.params).In h)
 (F:∀(w:d9)(mg:ak->Option ai)(P:aa)(h:dj),Q w h->(K w.params).In h->h.Ns jr mg->mg d.name=O (.ref P) ->
  ∃fd:oR,(∀(s:aS)(us:List ai),J us=J ps->zu s fd ⟨us,[]⟩ (ps.zip us)) /\
   ∀base:dj,(K w.params).In base->base.Ns jr mg->e_ r.prog w (K w.params) mg base CX k P fd ps (sp (K w.params)))
 (T:∀(K:PySem.W.Frag)(H:Hp)(xs:List V)(a:ku.denoteAll r.args),yH H->ku.withinAll r.args a=true->ku.app r.args r.asked a=true->n9 K H xs (ku.encAll r.args a) ->
  sp K xs H (λv H'=>Dw K H' v (r.ret.enc (ku.app r.args r.f a))) λ_ _ _=>False)
 (R:∀(H:Hp)(s:aS)(e:ai)(s':aS),CX [] H s (λ_ _ _=>False) e s'->False) :
 PySem.W.WalkOS q Z D Q r d [] (λf vs=>PySem.call f vs):=
 Vk Y S U N M F (λw H xs a E G I L=>T (K w.params) H xs a E G I L) λ_ H s e s'=>R H s e s'
end L2
end
section
namespace L2
open PySem PySem.Spec PyProof.Rows
def aH{α:Type}(k:Nat)(xs:List α):List α:=(bA ((J xs-k+2)/3)).filterMap λi=>xs[k+3*i]?
theorem VR(r:Vals xs us):Vals (aH k xs) (aH k us):=by
 have hl:=r.length;unfold aH;rw[hl];have:∀l:List Nat,Vals (l.filterMap λi=>xs[k+3*i]?) (l.filterMap λi=>us[k+3*i]?):=by
  intro l
  induction l with
  |nil=>exact .nil
  |cons i l Z=>
   rw[fR,fR];cases e:xs[k+3*i]? with
   |none=>rw[r.none_of e];exact Z
   |some x=>obtain⟨u,W,Y⟩:=r.get e;rw[W];exact .cons Y Z
 exact this _
theorem L_(k:Nat)(xs:List α):J (aH k xs)<=J xs:=by unfold aH;refine eL (wz _ _) ?_;rw[ko];omega
theorem X4(Z:List ai)(k:Nat):D7 Z.toArray (O (k:Int)) U (O 3)=(aH k Z).toArray:=by
 unfold D7 sW;simp only[JL,show(3:Int) > 0 by decide,pI];rw[ao byA];have W:Z.toArray.size=J Z:=eX;rw[W];have S:max (0:Int) (min (k:Int) (J Z:Int))=((min k (J Z):Nat):Int):=by lia
 rw[S];unfold sliceRange;simp only[show(3:Int) > 0 by decide,pI];congr 1;unfold aH;rw[Uo];by_cases R:k<J Z
 .rw[aD byA];have Y:(((J Z:Int)-((min k (J Z):Nat):Int)+3-1)/3).toNat=(J Z-k+2)/3:=by lia
  rw[Y];congr 1;funext i;have T:(((min k (J Z):Nat):Int)+3*(i:Int)).toNat=k+3*i:=by lia
  simp only[J_];rw[T];simp
 .rw[ao byA];have Y:(J Z-k+2)/3=0:=by lia
  rw[Y];rfl
section
def Wg(K:PySem.W.Frag)(k:Nat)(te:TE):TE:=λσ H Q=>te σ H λx H1=>∃a xs,x=.ref a/\aj K H1 a xs/\∀p,H1 p=U->Q (.ref p) (upd H1 p (.lst (aH k xs)))
theorem o_(k:Nat)(L:PE X e te):PE X (.Subscript e (.Slice (O (.Constant (.int (k:Int)) j1 q1)) U (O (.Constant (.int 3) j2 q2)) p2) pos) (Wg X.K k te):=by intro pins s σ H Q I h;refine Jw (br (L pins s σ H _ I h) λv s1 ⟨x,H1,B,P,a,xs,ex,hx,q⟩=>?_);subst ex;cases P;refine wpAny_Slice ?_;have G:=(lZ (aK (j:=j1) (pos:=q1))) pins s1 σ H1 (λo H'=>o=O (k:Int)/\H'=H1) B ⟨_,Y,Y,Y⟩;refine br G λvl s2 ⟨u,H2,C,pl,e1,F⟩=>?_;subst e1 F;rw[R9];refine bC ?_;have J:=(lZ (aK (j:=j2) (pos:=q2))) pins s2 σ H2 (λo H'=>o=O (3:Int)/\H'=H2) C ⟨_,Y,Y,Y⟩;refine br J λvs Z ⟨y,H3,D,ps,E,W⟩=>?_;subst E W;have S:Inv X pins σ H3 {Z with heap:=Z.heap.push {cls:=.type "slice",data:=.fields #[vl,.none,vs] } }:=D.kept λb z q=>fW _ q;obtain⟨N,r,ht,M⟩:=S.list hx;have R:=r.length;show aP (a_ X.prog X.w) X.A (DS e _ (.ref a) (.ref Z.heap.objs.size)) (EP X pins σ Q) X.xe {Z with heap:=Z.heap.push {cls:=.type "slice",data:=.fields #[vl,.none,vs] } };refine tail_any (ops:=[.ref a,.ref Z.heap.objs.size]) (T:="list") ht.isList.typeIs MX.lookup ?_ (by with_unfolding_all rfl);refine U8 ht.isList (afv ..) pl .none ps byB ?_ (by rw[eX]<;>lia);rw[X4];exact⟨.ref _,_,S.Gq (t':=Z.toks) (VR r) (eL (L_ k xs) M),Y,q _ (S.hok.fresh (aU _))⟩
end
inductive YG(K:PySem.W.Frag)(x:V)(vs:List V)(H:Hp)(Q:VK):Prop
 |mk(l:aa)(ns:List Int)(i:Int)(_:x=.ref l)(_:vs=[.int i])(_:aj K H l (ns.map V.int))(_:Q (.int (ns.count i:Nat)) H)
theorem SG:∀{ns:List Int}{Z:List ai},y_ Z ns->Z.countP (λv=>Ju i v)=ns.count i
 |_,_,.nil=>rfl
 |_,_,.cons n t r=>by rw[CL,sJ,SG r];congr 1
section
theorem Ra:∀{ns:List Int}{Z:List ai}{y:ai},y_ Z ns->y∈Z->∃m tk,y=.int m tk
 |_,_,y,.nil,h=>by simp at h
 |_,_,y,.cons n t r,h=>by
  rcases bE.mp h with e|e
  .exact⟨n,t,e⟩
  .exact Ra r e
theorem QD:Cp X "list.count" (YG X.K):=by
 intro pins s σ H x vs v us Q I rx rv h;obtain⟨l,ns,i,rfl,rfl,N,q⟩:=h;cases rx;obtain⟨u,rfl,P⟩:=rv.one;obtain⟨t,rfl⟩:=P;obtain⟨T,r,pl,L⟩:=I.list N;obtain⟨⟨M,J,data,sl⟩,n,e,S,hd,W⟩:=pl;simp only at S hd W;subst S hd W;have Z:=r.ints;refine pM F.slot_list_count ⟨_,e,Y⟩ F.entry_list_count (F.args_list_count_2 _ _) (SeqAt.list_countAt l T.toArray n U sl (.int i t) (λv=>Ju i v)) ⟨e,?_,?_⟩
 .intro y O;obtain⟨m,R,rfl⟩:=Ra Z (by simpa using O);exact aev m R i t
 .refine⟨.int (ns.count i:Nat),H,I.tok _,⟨s.toks,?_⟩,q⟩;rw[SG Z]
end
section
variable{prog:Program}{w:World}{K:Type}[DecidableEq K]{knd:HeapKind prog w K}{A:Around}{E:Value->Shared->Prop}{s:Shared}
theorem adn(L:knd.room A)(Y:knd.is s.heap k a)(G:s.heap.DictOfH knd d xs)
 (C:∀p,nU xs k=O p->Q p.2 {s with toks:=s.toks+knd.draws k })
 (D:nU xs k=U->∀h',h'.DictOfH knd d (DU xs k a v)->sM d s.heap h'->Q v {s with heap:=h',toks:=s.toks+knd.draws k })
 (H:J xs<=bf):aP (a_ prog w) A (Sm d (.ref a) v) Q E s:=by
 obtain⟨o,z,B,W,F,hd,P,R,N⟩:=G;unfold Sm
 try with_reducible refine qc ?_
 refine aL (knd.pyHash L Y ?_);refine aL (wpAny_dictFind_heap L Y W hd P R N ?_ ?_)
 .intro Z;have S:=not_mem_keys_of_get Z;refine aL (zA (aL (wpAny_updateDictKeys (hz:=by have e:=Nc P;lia) W hd (bC (D (Jp Z) _ ⟨_,_,B+1,Uy _ W (Obj.isFreed_of_dict (aeN hd _)),
   F.mapDictKeys _,aeN hd _,?_,?_,?_⟩ (CQ ..))))))
  .rw[My (Jp Z)];simp[P,entryOfKey]
  .rw[My (Jp Z)];intro x hx;rcases kh.mp hx with hx|hx
   .exact knd.keeps (R x hx) W hd (CQ ..)
   .simp only[yN]at hx;subst hx;exact knd.keeps Y W hd (CQ ..)
  .rw[My (Jp Z)];rw[dw,wm];refine⟨N,byB,?_⟩;intro x hx y M;simp only[bL,mO,yN]at M;subst M;exact λe=>S (e ▸ hx)
 .intro j p I;refine aL (zC W hd ?_);rw[entry_at P j,I];exact aL (zA (bC (C p (atKey_of_get N I))))
theorem ZZ(knd:Ux prog w K)(d a:aa)(hd:(d==jx)=false)(dflt:ai):
 MeetsIn prog w (cN.«dict.setdefault» ⟨[.ref d,.ref a,dflt],[]⟩) (λA R s=>knd.room A.in1/\∃k xs,knd.is s.heap k a/\s.heap.DictOfH knd d xs/\J xs<=bf /\
  (∀p,nU xs k=O p->R (.ok (.ret p.2)) {s with toks:=s.toks+knd.draws k }) /\
  (nU xs k=U->∀h',h'.DictOfH knd d (DU xs k a dflt)->sM d s.heap h'->R (.ok (.ret dflt)) {s with heap:=h',toks:=s.toks+knd.draws k })):=
 .of_wp λA R s ⟨N,k,xs,W,Q,P,I,L⟩=>by unfold cN.«dict.setdefault»;refine aL ?_;refine aL (Lm Q.typeIs ?_);refine bC ?_;show aP _ _ (if(d==jx)=true then _ else(Sm d (.ref a) dflt >>= _)) _ _ s;rw[ao (by rw[hd];exact iJ)];exact aL (adn N W Q (λv hv=>bC ⟨v.2,Y,I v hv⟩) (λM h' S T=>bC ⟨dflt,Y,L M h' S T⟩) P)
end
section
def wF(H:Hp)(a:aa)(y d:V)(Q:VK):Prop:=
 (∃kvs k,H a=O (.dK kvs)/\y=kV k/\J kvs<bf/\(∀v,bU kvs k=O v->Q v H)/\(bU kvs k=U->Q d (upd H a (.dK (kvs++[(k,d)]))))) \/
 ∃kvs k b,H a=O (.dT kvs)/\y=.ref b/\kO H k b/\J kvs<bf/\(∀v,bU kvs k=O v->Q v H)/\(bU kvs k=U->Q d (upd H a (.dT (kvs++[(k,d)]))))
theorem adt(K:X.A.units+9<jj)(I:Inv X pins σ H s)(g:wF H a y d Q)(M:RelV y u)(rd:RelV d r):
 aP (a_ X.prog X.w) X.A (mz (.builtin "dict.setdefault") [.ref a,u,r]) (EP X pins σ Q) X.xe s:=by
 rcases g with⟨kvs,k,e,ey,hz,q1,q2⟩|⟨kvs,k,b,e,ey,eb,hz,q1,q2⟩
 .subst ey;obtain⟨z,hd,vs,Y,R⟩:=Sk I.hok e;have rv:=Y.val k;refine vV PySem.F.slot_dict_setdefault R.typeIs PySem.F.entry_dict_setdefault (PySem.F.args_dict_setdefault_3 _ _ _) (kt_meets_setdefault (jT X.prog X.w) a (rO M) hd r) ⟨vs,R,(by rw[<-Y.length];exact z),λv hv=>?_,λN h' U P=>?_⟩
  .rw[hv]at rv;cases W:bU kvs k with
   |none=>rw[W]at rv;exact rv.elim
   |some x=>rw[W]at rv;exact⟨x,H,I.tok _,rv,q1 x W⟩
  .rw[N]at rv;cases W:bU kvs k with
   |some x=>rw[W]at rv;exact rv.elim
   |none=>
    refine⟨d,_,?_,rd,q2 W⟩;have L:∃q,h'.get? a=O q:=let ⟨q,_,_,S,_⟩:=U;⟨q,S⟩;have Z:=Y.put k rd;rw[Av d W]at Z;have T:(kvs++[(k,d)]).length<=sizeLine:=by rw[fO,yO];lia
    exact BP I (by rw[e];exact qJ) P L (Sl T hd Z U)
 .subst ey;cases (show u=dG b from M);obtain⟨z,hd,xs,Y,R⟩:=IU I.hok e;have rv:=Y.val k;refine vV PySem.F.slot_dict_setdefault R.typeIs PySem.F.entry_dict_setdefault (PySem.F.args_dict_setdefault_3 _ _ _) (ZZ (Hn.qy X.prog X.w) a b hd r) ⟨Hn.tO K,k,xs,rN I.hok eb,R,(by rw[<-Paired.length Y];exact z),λp J=>?_,λN h' U P=>?_⟩
  .rw[J]at rv;cases W:bU kvs k with
   |none=>rw[W]at rv;exact rv.elim
   |some x=>rw[W]at rv;exact⟨x,H,I.tok _,rv,q1 x W⟩
  .rw[N]at rv;cases W:bU kvs k with
   |some x=>rw[W]at rv;exact rv.elim
   |none=>
    refine⟨d,_,?_,rd,q2 W⟩;have L:∃q,h'.get? a=O q:=let ⟨q,_,_,S,_⟩:=U;⟨q,S⟩;have Z:=Y.put k eb rd;rw[Av d W]at Z;have T:(kvs++[(k,d)]).length<=sizeLine:=by rw[fO,yO];lia
    obtain⟨q,B,o,S,C,D,E,_,G⟩:=U;refine BP I (by rw[e];exact qJ) P ⟨q,S⟩ ⟨T,hd,_,Z.keeps λc ys n=>?_,q,B,o,S,C,D,E,G⟩
    rwa [bO (bZ n e (λz=>nomatch z))]
end
def Wu(td ty tx:TE):TE:=λσ H Q=>td σ H λx H1=>∃a,x=.ref a/\CP H1 a/\ty σ H1 λy H2=>tx σ H2 λz H3=>wF H3 a y z Q
section
theorem AA(O:X.A.units+9<jj)(N:PE X o td)(L:PE X e ty)(M:PE X f tx)(m:M2 X o "setdefault" apos e f cpos):PE X (.Call (.Attribute o "setdefault" apos) [e,f] [] cpos) (Wu td ty tx):=by
 intro pins s σ H Q I h;refine Lq m.base m.few m.line PySem.F.plainAttrs_dict PySem.F.slot_dict_setdefault PySem.F.type_dict_setdefault (br (N pins s σ H _ I h) λu s1 ⟨x,H1,Z,rx,a,ex,d,P⟩=>?_);subst ex;obtain rfl:u=dG a:=rx;obtain⟨U,W,_⟩:=GV Z d;refine⟨U,W,?_⟩;rw[m.trees];refine C9 Y (La (zl (br (L pins s1 σ H1 _ Z P) λE s2 ⟨y,H2,J,S,R⟩=>
  zl (br (M pins s2 σ H2 _ J R) λD G ⟨z,H3,K,T,g⟩=>K_ ?_))))
 exact adt O K g S T
end
section
variable{prog:Program}{w:World}{K:Type}[DecidableEq K]{knd:HeapKind prog w K}{A:Around}{E:Value->Shared->Prop}{s:Shared}
theorem Z0(knd:Ux prog w K)(d:aa)(hd:(d==jx)=false):
 MeetsIn prog w (cN.«dict.__len__» ⟨[.ref d],[]⟩) (λ_ R s=>∃xs,s.heap.DictOfH knd d xs/\R (.ok (.ret (.int (J xs) s.toks))) {s with toks:=s.toks+1 }):=
 .of_wp λA R s ⟨xs,T,h⟩=>by obtain⟨o,P,O,U,Q,Y,S,_,_⟩:=id T;have Z:=Nc S;show aP _ _ (dictSize d >>= _) _ _ s;refine aL (aL (zC U Y (bC ?_)));refine aL (wpAny_pendingCount_other hd ?_);refine Lj ?_;rw[Co,Z];exact h
theorem adU(hd:(d==jx)=false)(Z:s.heap.DictOfH knd d xs)(U:(J xs:Int)<2 ^ 63)
 (h:Q (.int (J xs) (s.toks+1)) {s with toks:=s.toks+1+1 }):aP (a_ prog w) A (mz (.builtin "len") [.ref d]) Q E s:=by
 refine Calls.call_function_entry kind_len plain_len entry_len (args_len1 _) ?_;unfold cN.«len»;refine aL (bC ?_);refine aL (m:=callSpecial? (.ref d) (Jx "__len__")) (zE Z.typeIs afC
  (vV afC Z.typeIs F.entry_dict_len (F.args_dict_len_1 _) (Z0 knd d hd) ⟨xs,Z,?_⟩))
 refine aL (qc (bC ?_));refine aL (wpAny_letGo ?_);rw[ao byA];rw[ao byA];exact aL (wpAny_mkInt (bC ⟨_,Y,h⟩))
end
section
theorem adS:n_ X (.builtin "len") (λxs H Q=>∃a kvs,xs=[V.ref a]/\H a=O (.dT kvs)/\Q (.int kvs.length) H):=by intro pins s σ H xs us Q I r h;obtain⟨a,kvs,rfl,ha,q⟩:=h;obtain⟨u,rfl,W⟩:=vals1 r;cases W;obtain⟨z,hd,ys,Z,U⟩:=IU I.hok ha;have hl:=Paired.length Z;refine adU hd U (by rw[<-hl];rw[c8]at z;lia) ?_;rw[<-hl];exact⟨.int kvs.length,H,I.tok _,⟨_,Y⟩,q⟩
end
section
theorem adQ:n_ X (.type "range") (λxs H Q=>∃j:Int,xs=[.int j]/\∀p,H p=U->Q (.ref p) (upd H p (.tu 0 j))):=by intro pins s σ H xs us Q I r h;obtain⟨j,rfl,q⟩:=h;obtain⟨u,rfl,t,rfl⟩:=vals1 r;refine adP ?_;refine⟨.ref s.heap.objs.size,_,I.laid (λb o e=>fW _ e) (aU _) ?_,Y,q _ (I.hok.fresh (aU _))⟩;exact⟨_,_,_,jN _ Y⟩
theorem LI:∀(n:Nat)(Z:List ai),J Z=n->(∀(j:Nat)(v:ai),Z[j]?=O v->∃t,v=.int (j:Int) t)->Vals ((bA n).map λi=>V.int (i:Nat)) Z
 |0,Z,hl,_=>by have:=Cw.mp hl;subst this;exact .nil
 |n+1,Z,hl,h=>by
  have e:Z=Z.dropLast++[Z.getLast (by intro z;rw[z]at hl;simp at hl)]:=(afc _).symm;rw[kL,dw,e];refine Vals.append (LI n _ (by simp[hl]) λj v Y=>?_) (.cons ?_ .nil)
  .refine h j v ?_;rw[e];rw[fJ (by
    rcases cY j (J Z.dropLast) with q|q
    .exact q
    .rw[fP q]at Y;cases Y)]
   exact Y
  .refine h n _ ?_;rw[List.getLast_eq_getElem,aX byA];congr 1;congr 1;lia
theorem adR(L:X.calm=true):n_ X (.type "list") (λxs H Q=>∃p hi,xs=[.ref p]/\H p=O (.tu 0 hi)/\hi<2 ^ 24/\-(2 ^ 24)<hi/\∀l,H l=U->Q (.ref l) (upd H l (.lst ((bA hi.toNat).map λi=>V.int (i:Nat))))):=by
 intro pins s σ H xs us Q I r h;obtain⟨p,hi,rfl,R,F,G,q⟩:=h;obtain⟨u,rfl,rx⟩:=vals1 r;cases rx;obtain⟨t,u,v,e⟩:=(show e7 X.prog X.w H s.heap p (.tu 0 hi) from I.hok p _ R);refine call_list_range (I.ok.hd L) e (small_one byA byA byA byA) (n:=hi.toNat) (by rw[YC];split<;>lia) byA λh' J Z K P M T=>?_;obtain⟨W,S⟩:=T;have hv:Vals ((bA hi.toNat).map λi=>V.int (i:Nat)) Z.toList:=by refine LI _ _ (by simpa using W) λj v N=>?_;obtain⟨t,e⟩:=S j v (by simpa using N);exact⟨t,by rw[e];congr 1;lia⟩
 refine⟨.ref s.heap.objs.size,_,I.laid (o:=.lst ((bA hi.toNat).map λi=>V.int (i:Nat))) P (aU _) ⟨by rw[aM,ko,c8];lia,Z.toList,K,hv,by rw[M]⟩,Y,q _ (I.hok.fresh (aU _))⟩
end
section
theorem aT(h:H p=U):aG H (upd H p o):=λb u e=>by rw[bO (aQ e h)];exact e
inductive YH(x:V)(y:V)(H:Hp)(Q:VK):Prop
 |mk(a b xs ys:_)(_:x=.ref a)(_:y=.ref b)(_:H a=O (.tup xs))(_:H b=O (.tup ys))(_:J xs+J ys<=bf)(_:∀p H',aG H H'->H' p=O (.tup (xs++ys))->Q (.ref p) H')
theorem Pu:iH X (pO .Add) YH:=by
 intro pins s σ H x y v u Q I rx D h;obtain⟨a,b,xs,ys,rfl,rfl,ha,hb,K,q⟩:=h;cases rx;cases D;obtain⟨O,S,L,_⟩:=I.tuple (bu.of ha);obtain⟨Z,P,M,_⟩:=I.tuple (bu.of hb);by_cases hx:xs=[]
 .have e1:=S.Fb.mpr hx;obtain⟨⟨w,A,data,sl⟩,J,G,n,hd⟩:=id L;obtain⟨⟨E,N,data2,R⟩,W,T,C,U⟩:=id M;simp only at G hd T U;subst G hd T U;refine SH ⟨_,J,Y⟩ ⟨_,W,Y⟩ PySem.noFill_tuple_add PySem.seq_tuple_add PySem.F.slot_tuple_add PySem.F.entry_tuple_add (PySem.F.args_tuple_add_2 _ _)
   (tuple_addW0 a b O.toArray Z.toArray n C A N sl R (by simp[e1])) ⟨J,W,?_⟩
  exact⟨.ref b,H,I,Y,q b H (aG.refl H) (by rw[hx,yM];exact hb)⟩
 .refine HT.adM L M (λz=>hx (S.Fb.mp z)) (λz=>⟨.ref a,H,I,rfl,q a H (aG.refl H) (by rw[P.Fb.mp z,nq];exact ha)⟩) (λz=>?_) (by rw[<-S.length,<-P.length];exact K);have B:=I.hok.fresh (aU s.heap.objs.size);refine⟨.ref s.heap.objs.size,_,I.laid (λb r q=>fW _ q) (aU _) ?_,Y,q _ _ (aT B) aB⟩;exact⟨by rw[fO];exact K,_,S.append P,CO _ _⟩
theorem abR{prog:fV}{w:d9}{A:jd}{E:ai->aS->Prop}{s:aS}{t sl:aa}{items:Array ai}{vl S:ai}{lo hi:Option Int}{Q:ai->aS->Prop}(ht:qQ s.heap t items)(P:s.heap.IsSliceOf sl vl S .none)(pl:qR vl lo)(O:qR S hi)
 (R:HT.bV items.size 0 lo=0/\HT.bV items.size items.size hi=items.size) (h:Q (.ref t) s):aP (a_ prog w) A (qE (.ref t) (.ref sl)) Q E s:=by
 obtain⟨os,W,U,N⟩:=id P;have T:s.TypeIs (.ref sl) "slice":=⟨os,W,U⟩;unfold qE
 try with_reducible refine qc ?_
 first|refine aL (bC ?_)|skip
 refine aL (UQ ht.typeIs byD ?_);refine aL (zE ht.typeIs Ce
  (sQ Ce ht.typeIs adi ?_ (ad4 _ _)))
 show aP _ _ (cN.Tuple.tupleItemsOf (.ref t) >>= _) _ _ s;refine aL (VM ht ?_);refine aL (zy T ?_);rw[aD byD];refine aL (HT.M6 P pl O ?_);have Z:((((HT.bV items.size 0 lo:Nat):Int)==0&&(1:Int)==1&&(HT.bV items.size items.size hi-HT.bV items.size 0 lo)==items.size)=true):=by rw[R.1,R.2];simp
 show aP _ _ (if(((HT.bV items.size 0 lo:Nat):Int)==0&&(1:Int)==1&&(HT.bV items.size items.size hi-HT.bV items.size 0 lo)==items.size)=true then _ else _) _ _ s;rw[aD Z];refine aL (aL (zy ht.typeIs (bC ?_)));rw[aD byD];exact aL (zA (bC ⟨_,Y,bC h⟩))
inductive YD(x:V)(lo:Option Int)(hi:Option Int)(H:Hp)(Q:VK):Prop
 |mk(a xs:_)(_:x=.ref a)(_:H a=O (.tup xs))(_:∀p H',aG H H'->H' p=O (.tup (jG xs lo hi))->Q (.ref p) H')
theorem D8:Jy X YD:=by
 intro pins s σ H x v vl O lo hi sl Q I rx R pl T h;obtain⟨a,xs,rfl,hx,q⟩:=h;cases rx;obtain⟨U,r,ht,S⟩:=I.tuple (bu.of hx);have Z:U.toArray.size=J xs:=by rw[eX];exact r.length.symm
 refine⟨"tuple",_,Ce.lookup,ht.typeIs,?_⟩;by_cases W:HT.bV (J xs) 0 lo=0/\HT.bV (J xs) (J xs) hi=J xs
 .refine abR ht R pl T (by rw[Z];exact W) ⟨.ref a,H,I,rfl,q a H (aG.refl H) ?_⟩;have:jG xs lo hi=xs:=by unfold jG;rw[W.1,W.2];simp
  rw[this];exact hx
 .refine HT.abQ ht R pl T (by rw[Z];exact W) ?_ (by rw[Z];exact S);rw[Z];have P:=I.hok.fresh (aU s.heap.objs.size);refine⟨.ref s.heap.objs.size,_,I.laid (λb N q=>fW _ q) (aU _) ?_,Y,q _ _ (aT P) aB⟩;exact⟨eL (Sy xs lo hi) S,_,(r.drop (HT.bV (J xs) 0 lo)).take (HT.bV (J xs) (J xs) hi-HT.bV (J xs) 0 lo),CO _ _⟩
theorem Zx:fillsNumberSlot (.type "tuple") "mul"=pure false:=
 PySem.fillsNumberSlot_seq C5.lookup (by decide +kernel) afA.lookup (by decide +kernel)
theorem Yx:seqRepeat? (.type "tuple")=pure (O (.builtin "tuple.__mul__")):=by unfold seqRepeat?;rw[PySem.seqSlot_of (name:="__mul__") C5.lookup (by decide +kernel),PySem.seqSlot_of (name:="__rmul__") afA.lookup (by decide +kernel)];rfl
theorem aa9(a:Int)(t:m_)(l:aa)(items:Array ai)(n:Nat)(Z:Option aa)(sl:Array (Option ai)):
 Meets (cN.«int.__rmul__» ⟨[.int a t,.ref l],[]⟩) (λ_ R s=>s.heap.get? l=O {cls:=.type "tuple",dict:=Z,data:=.seq items n,slots:=sl }/\R (.ok (.ret Value.notImplemented)) s):=
 .of_wp λprog w A R s h=>by obtain⟨U,g,d,W,os⟩:=s;obtain⟨hl,h⟩:=h;wp_walk;exact⟨_,Y,h⟩
theorem VL(l:aa)(items:Array ai)(n:Nat)(W:Option aa)(sl:Array (Option ai))(t:m_)(Z:¬items.isEmpty=true):
 Meets (cN.«tuple.__mul__» ⟨[.ref l,.int 0 t],[]⟩) (λ_ R s=>s.heap.get? l=O {cls:=.type "tuple",dict:=W,data:=.seq items n,slots:=sl }/\R (.ok (.ret (dG s.heap.objs.size))) {s with heap:=s.heap.push {cls:=r_ "tuple",data:=agx #[] } }):=
 .of_wp λprog w A R s h=>by
  obtain⟨T,g,d,U,os⟩:=s;obtain⟨hl,h⟩:=h;have P:=UL;have Q:=UK;have S:((items.isEmpty || ((0:Int)==1))=true)=False:=by simp at Z;simp[Z]
  wp_walk using Df hl
  exact⟨_,Y,h⟩
theorem VJ(l:aa)(items:Array ai)(n:Nat)(W:Option aa)(sl:Array (Option ai))(t:m_)(Z:(items.isEmpty || ((1:Int)==1))=true):
 Meets (cN.«tuple.__mul__» ⟨[.ref l,.int 1 t],[]⟩) (λ_ R s=>s.heap.get? l=O {cls:=.type "tuple",dict:=W,data:=.seq items n,slots:=sl }/\R (.ok (.ret (dG l))) s):=
 .of_wp λprog w A R s h=>by
  obtain⟨T,g,d,U,os⟩:=s;obtain⟨hl,h⟩:=h;have Q:=UL;have S:=UK
  wp_walk using Df hl
  exact⟨_,Y,h⟩
theorem VI(l:aa)(items:Array ai)(n:Nat)(Q:Option aa)(sl:Array (Option ai))(a:Int)(t:m_)(Z:¬(decide (a < -(2 ^ 63)) || decide (a≥2 ^ 63))=true)(S:¬(items.isEmpty || (a==1))=true)
 (T:¬(decide (a<=0) || items.isEmpty)=true) (W:¬(items.size:Int)*a > (2 ^ 63-1)/8) (U:¬cN.Tuple.tupleTooMany ((items.size:Int)*a)=true)
 (hok:((cu a.toNat items).foldl (·++·) #[]).size<=bf) :
 Meets (cN.«tuple.__mul__» ⟨[.ref l,.int a t],[]⟩) (λ_ R s=>s.heap.get? l=O {cls:=.type "tuple",dict:=Q,data:=.seq items n,slots:=sl }/\R (.ok (.ret (dG s.heap.objs.size))) {s with heap:=s.heap.push {cls:=r_ "tuple",data:=agx ((cu a.toNat items).foldl (·++·) #[]) } }):=
 .of_wp λprog w A R s h=>by
  obtain⟨N,g,d,P,os⟩:=s;obtain⟨hl,h⟩:=h;have G:=UL;have H:=UK;have I:=BH Z;have J:=BH S;have K:=BH T;have L:=BH W;have M:=BH U
  wp_walk using Df hl
  rw[ao Z]
  wp_walk using Df hl
  rw[ao W]
  wp_walk using Df hl
  exact⟨_,Y,h⟩
inductive YE(x:V)(y:V)(H:Hp)(Q:VK):Prop
 |mk(l:aa)(k:Nat)(z:V)(_:x=.ref l)(_:y=.int (k:Nat))(_:H l=O (.tup [z]))(_:k<=10000)(_:∀p H',aG H H'->H' p=O (.tup (cu k z))->Q (.ref p) H')
theorem ab2(z:ai):∀(k:Nat),(cu k #[z]).foldl (·++·) #[]=(cu k z).toArray:=by
 have:∀(k:Nat)(Z:List ai),(cu k #[z]).foldl (·++·) Z.toArray=(Z++cu k z).toArray:=by
  intro k
  induction k with
  |zero=>intro Z;simp
  |succ k Y=>
   intro Z;rw[pZ,J2];have:Z.toArray++#[z]=(Z++[z]).toArray:=by simp
   rw[this,Y,pZ];simp
 exact λk=>this k []
theorem LH(r:RelV z u):∀k:Nat,Vals (cu k z) (cu k u)
 |0=>.nil
 |k+1=>by rw[pZ,pZ];exact .cons r (LH r k)
theorem Zf:iH X (pO .Mult) YE:=by
 intro pins s σ H x y v u Q I rx N h;obtain⟨l,k,z,rfl,rfl,P,G,q⟩:=h;cases rx;obtain⟨t,rfl⟩:=N;obtain⟨K,r,M,_⟩:=I.tuple (bu.of P);obtain⟨T,rfl,O⟩:=r.one;obtain⟨⟨J,U,data,sl⟩,Z,R,n,hd⟩:=id M;simp only at R hd;subst R hd;refine Vb byD ⟨_,Z,Y⟩ (λs'=>zW s' _ t) Zx afF K6 Yx afB.lookup
  (pM K6 (zW s _ t) afG (afI _ _) (aa9 _ t l _ n U sl) ⟨Z,rfl,⟨_,Z,rfl⟩,?_⟩)
 have S:=I.hok.fresh (aU s.heap.objs.size)
 match k with
 |0=>refine pM C5 ⟨_,Z,Y⟩ Uz (UA _ _) (VL l _ n U sl t byB) ⟨Z,?_⟩;refine⟨.ref s.heap.objs.size,_,I.laid (λb L q=>fW _ q) (aU _) ?_,Y,q _ _ (aT S) aB⟩;exact⟨cI _,[],.nil,CO _ _⟩
 |1=>refine pM C5 ⟨_,Z,Y⟩ Uz (UA _ _) (VJ l _ n U sl t byB) ⟨Z,?_⟩;exact⟨.ref l,H,I,Y,q l H (aG.refl H) P⟩
 |k+2=>
  have W:((cu (((k+2:Nat):Int)).toNat #[T]).foldl (·++·) #[])=(cu (k+2) T).toArray:=by rw[lA];exact ab2 T (k+2)
  refine pM C5 ⟨_,Z,Y⟩ Uz (UA _ _) (VI l _ n U sl _ t ?_ ?_ ?_ ?_ ?_ ?_) ⟨Z,?_⟩
  .simp;lia
  .simp;lia
  .simp;lia
  .simp;lia
  .unfold cN.Tuple.tupleTooMany;rw[c8];simp;lia
  .rw[W,eX,Ud,c8];lia
  .rw[W];refine⟨.ref s.heap.objs.size,_,I.laid (λb L q=>fW _ q) (aU _) ?_,Y,q _ _ (aT S) aB⟩;exact⟨by rw[Ud,c8];lia,_,LH O (k+2),CO _ _⟩
end
structure K9(K:PySem.W.Frag)(C:aa)(m:ak)(f:aa):Prop where
 sp:PySem.W.specialIn K (.ref C) "__getattribute__"=O (O (.builtin "type.__getattribute__"))
 rd:PySem.W.readsIn K C (.type "type")=true
 fc:PySem.W.findCls K (.ref C) (.type "type") m=O (.val (.ref f))
 kp:PySem.W.keepIn K (.ref f)=true
section
theorem Pf(hg:Gl X x)(hm:X.mg x=O (.ref C))(c:K9 X.K C m f)(F:e_ X.prog X.w X.K X.mg X.base CX k f fd ps sp)(hr:bS k X.A)(hb:Binds X.K fd ps ds)(hd:Vals iD ds)(hx:Passes CX X E)(ha:PA X (e::es) t)
 (hdb:(x==("__debug__":ak))=false:=by decide)
 (hst:starEach (e::es) X.env=(false,eval e X.env)::starEach es X.env:=by rfl) (hpl:(backTo pos (starEach es X.env)).any (·.1)=false:=by rfl)
 (ht:eval (.Call (.Attribute (.Name x p) m apos) (e::es) [] pos) X.env=(do
  let ov <-eval (.Name x p) X.env
  standAt apos.atName
  let (f,first) <-holding [ov] (getMethod ov m pl)
  callWith pos f first (backTo pos (starEach (e::es) X.env)) (backToKw pos (keywordEach [] X.env))):=by rfl) :
 PE X (.Call (.Attribute (.Name x p) m apos) (e::es) [] pos) (Mn sp iD E t):=by
 intro pins s σ H Q I h;refine PySem.W.methodCall_KW (br ((eY (v:=.ref C) hg hm Y hdb) pins s σ H (λv H'=>v=.ref C/\H'=H) I ⟨Y,Y⟩) λu s1 ⟨x',H1,I1,rx,e1,e2⟩=>?_) ht;subst e1 e2;obtain rfl:u=dG C:=rx;refine PySem.W.method_cls I1.jX c.sp (PySem.W.cls_value I1.jX c.rd c.fc Y ?_);have I1':=I1.tok (s1.toks+1);refine PySem.W.callWith_K I.ok.mod.vN c.kp (br (ha pos pins _ σ _ _ I1' h) λus s2 ⟨vs,H2,I2,r,q2⟩=>⟨I2.jX,?_⟩) hst hpl;exact Am F hr hb hd hx I2 r q2
end
end L2
end
section
namespace L2
open PySem PySem.Spec PyProof.Rows
section
theorem rB(K:PySem.W.Frag)(Z:PE X e ta)(hb:uo e f X.env (di e X.env)=di e X.env)(Y:X.K=K:=by rfl):PE X (.Attribute e f pos) (DO K ta f):=by rw[<-Y];exact Pe Z hb
theorem vP(K:PySem.W.Frag)(Z:X.K=K:=by rfl):wD X (xy K):=by rw[<-Z];exact bI
theorem GQ(K:PySem.W.Frag)(Z:X.K=K:=by rfl):wD X (xx K):=by rw[<-Z];exact cC
theorem adT(K:PySem.W.Frag)(Z:X.K=K:=by rfl):n_ X (.builtin "len") (xw K):=by rw[<-Z];exact iN
theorem Y0(K:PySem.W.Frag)(T:X.calm=true)(h:yG X es t)(Y:J (uq es X.env)=n:=by rfl)(Z:(uq es X.env).findIdx? (·.1)=U:=by rfl)(S:X.K=K:=by rfl):PG X (.Tuple es k pos) (Hu K n t):=by rw[<-S];exact tL T h Y Z
end
theorem Sc{N P:List ak}{sc:lg}(a:sc.kind=.function:=by rfl)(b:sc.isCoroutine=false:=by rfl)(c:sc.isGenerator=false:=by rfl)(d:N.Nodup:=by decide +kernel)(e:N.take (J P)=P:=by rfl)
 (f:∀x∈P,sc.names.lookup x=O .local\/sc.names.lookup x=O .cell:=by decide +kernel) (g:∀y∈sc.names,y.2≠.free:=by decide +kernel):ze N P sc:=⟨a,b,c,d,e,f,g⟩
section
theorem dB(i:Nat){x:ak}(W:X.N.Nodup)(hi:X.N[i]?=O x:=by rfl)(hx:Loc X.env.scope x:=by exact Or.inl Y)(Z:X.fn x=true\/X.env.scope.names.lookup x=O .local:=by first|exact .inl Y|exact .inr Y|assumption):PG X (.Name x pos) (t_ i):=EJ W hi hx Z
theorem bN(i:Nat){x:ak}(T:X.N.Nodup)(U:PE X e te)(hi:X.N[i]?=O x:=by rfl)(hx:Loc X.env.scope x:=by exact Or.inl Y)(Z:wX e (O (.Name x pos')) pos.line X.env=pure false:=by rfl)
 (W:X.fn x=true\/X.env.scope.names.lookup x=O .local:=by first|exact .inl Y|exact .inr Y|assumption):PS X (.Assign [.Name x pos'] e pos) (wW te (t_ i)):=nF T hi hx U Z W
theorem aC(Z:PE X e ta)(hb:uo e f X.env (di e X.env)=di e X.env:=by rfl):PE X (.Attribute e f pos) (DO X.K ta f):=Pe Z hb
theorem aN{r:R2}(W:wD X r)(ha:PE X a ta)(hb:PE X b tb)(Z:Tz b:=by exact λ_ _=>Y):PE X (.Subscript a b pos) (qX r ta tb):=Y7 W ha hb Z
end
end L2
end
section
namespace Hs
open PySem PySem.Spec PyProof.Rows L2
def top(i:Nat):Stmt:=PySem.Challenge.pw_holeshapes_s01_answers.main.body.getD i (.Pass ⟨0,0,0,0⟩)
abbrev adY:Stmt:=top 4
abbrev yk:Stmt:=top 5
abbrev adZ:Stmt:=top 18
abbrev Ji:Stmt:=top 19
abbrev kH:Stmt:=top 22
abbrev SR:Stmt:=top 20
abbrev yl:Stmt:=top 36
abbrev kG:Stmt:=top 37
abbrev N1:Stmt:=top 2
abbrev El:Stmt:=top 3
abbrev Eo:Stmt:=inClass adY 0
abbrev Nv:Stmt:=inClass yk 0
abbrev Al:Stmt:=inClass yk 1
abbrev N5:Stmt:=inClass yk 2
abbrev N3:Stmt:=inClass yk 3
abbrev N2:Stmt:=inClass yk 4
abbrev NU:Stmt:=top 12
abbrev Ep:Stmt:=top 13
abbrev Oj:Stmt:=top 14
abbrev N_:Stmt:=top 15
abbrev NT:Stmt:=top 16
abbrev Nt:Stmt:=top 17
abbrev xr:Stmt:=inClass adZ 0
abbrev xq:Stmt:=inClass Ji 0
abbrev N4:Stmt:=inClass Ji 1
abbrev NJ:Stmt:=inClass Ji 2
abbrev NH:Stmt:=inClass kH 0
abbrev Ol:Stmt:=inClass kH 1
abbrev NI:Stmt:=inClass kH 2
abbrev Ob:Stmt:=inClass kH 3
abbrev Nr:Stmt:=inClass kH 4
abbrev En:Stmt:=inClass kH 5
abbrev Em:Stmt:=inClass kH 6
abbrev Es:Stmt:=inClass kH 7
abbrev N9:Stmt:=inClass kH 8
abbrev NP:Stmt:=inClass kH 9
abbrev Oa:Stmt:=inClass kH 10
abbrev NB:Stmt:=inClass kH 11
abbrev Et:Stmt:=inClass kH 12
abbrev N8:Stmt:=inClass kH 13
abbrev Oc:Stmt:=inClass kH 14
abbrev NZ:Stmt:=inClass kH 15
abbrev Og:Stmt:=inClass kH 16
abbrev Nu:Stmt:=inClass SR 0
abbrev Er:Stmt:=inClass SR 1
abbrev NX:Stmt:=inClass yl 0
abbrev N7:Stmt:=inClass yl 1
abbrev NF:Stmt:=inClass yl 2
abbrev NG:Stmt:=inClass yl 3
abbrev ND:Stmt:=inClass yl 4
abbrev NL:Stmt:=inClass kG 0
abbrev NY:Stmt:=inClass kG 1
abbrev Oi:Stmt:=inClass kG 2
abbrev Ot:Stmt:=inClass kG 3
abbrev NQ:Stmt:=inClass kG 4
abbrev Of:Stmt:=inClass kG 5
abbrev Oh:Stmt:=inClass kG 6
abbrev NN:Stmt:=inClass kG 7
abbrev Nz:Stmt:=inClass kG 8
abbrev NW:Stmt:=inClass kG 9
abbrev Om:Stmt:=inClass kG 10
abbrev NO:Stmt:=inClass kG 11
abbrev Oe:Stmt:=inClass kG 12
abbrev N6:Stmt:=inClass kG 13
abbrev NC:Stmt:=inClass kG 14
abbrev NR:Stmt:=inClass kG 15
abbrev Ny:Stmt:=inClass kG 16
abbrev Oq:Stmt:=top 38
abbrev Oo:Stmt:=top 39
abbrev Gz:List Str:=["kinds","labels","size","rows","above","places"]
abbrev L6:List Str:=["kinds","labels","size","rows","above","places","numbers","ends","likes","row_likes","row_labels"]
abbrev Pk:List Str:=["kinds","labels","size","rows","above","places","holes","firsts","lasts","slots","shuts","halts","gaps"]
abbrev RH:List Str:=["segment","singles","times","known","settles"]
abbrev MM:List Str:=["pattern","tree","tallies","verdicts","hopeless"]
abbrev OJ:List Str:=["numbers","position"]
abbrev Ni:List Str:=["tree","patterns","replacements","searches","seen","first_rules"]
structure Bn(mg:ak->Option ai):Prop where
 len:mg "len"=U
 range:mg "range"=U
 any:mg "any"=U
 sum:mg "sum"=U
 zip:mg "zip"=U
 enumerate:mg "enumerate"=U
 tuple:mg "tuple"=U
 list:mg "list"=U
 dict:mg "dict"=U
abbrev bF(ns:List Int):List V:=ns.map V.int
structure Gn(mg:ak->Option ai):Prop where
 QC:∃t,mg "MOST_TREE_NUMBERS"=O (.int 768 t)
 node:∃t,mg "NODE"=O (.int 0 t)
 hole:∃t,mg "HOLE"=O (.int 1 t)
 wY:∃t,mg "STRETCH"=O (.int 2 t)
 ZL:∃t,mg "MOST_PATTERN_NUMBERS"=O (.int 96 t)
 aZ:∃t,mg "MOST_STRETCHES"=O (.int 3 t)
structure Gs(mg:ak->Option ai):Prop where
 rules:∃t,mg "MOST_RULES"=O (.int 16 t)
 steps:∃t,mg "MOST_STEPS"=O (.int 200 t)
 tree:∃t,mg "TREE"=O (.int 1 t)
 rule:∃t,mg "RULE"=O (.int 2 t)
 find:∃t,mg "FIND"=O (.int 3 t)
 ways:∃t,mg "WAYS"=O (.int 4 t)
 fill:∃t,mg "FILL"=O (.int 5 t)
 apply:∃t,mg "APPLY"=O (.int 6 t)
 step:∃t,mg "STEP"=O (.int 7 t)
 run:∃t,mg "RUN"=O (.int 8 t)
 nodes:∃t,mg "NODES"=O (.int 9 t)
inductive Ab(K:PySem.W.Frag)(vs:List V)(H:Hp)(Q:VK)(E_:XK):Prop
 |mk(a:aa)(ns:List Int)(_:vs=[.ref a])(_:aj K H a (bF ns))(_:J ns<=30000)(_:aey ns=true)(_:∀(H':Hp) (D:aa),H' D=O (.lst (bF (JE ns)))->Q (.ref D) H')
structure Cz where
 pat:aa
 gap:aa
 tree:aa
 iR:aa
 rep:aa
 fE:aa
 mS:aa
structure Hy(K:PySem.W.Frag)(mg:ak->Option ai)(c:Cz)(L:aa)(f:Nat->aa)(g:Nat->oR):Prop where
 F0:bW K "is_one_tree" "is_one_tree" N1 (f 0) (g 0)
 F1:bW K "tree_refusal" "tree_refusal" El (f 1) (g 1)
 F2:bW K "__init__" "Layout.__init__" Eo (f 2) (g 2)
 F3:bW K "mark_from_below" "Tree.mark_from_below" Al (f 3) (g 3)
 F4:bW K "__init__" "Tree.__init__" Nv (f 4) (g 4)
 F5:bW K "node_at" "Tree.node_at" N5 (f 5) (g 5)
 F6:bW K "numbers_of" "Tree.numbers_of" N3 (f 6) (g 6)
 F7:bW K "numbers_with" "Tree.numbers_with" N2 (f 7) (g 7)
 F8:bW K "is_row_with_holes" "is_row_with_holes" NU (f 8) (g 8)
 F9:bW K "holes_in" "holes_in" Ep (f 9) (g 9)
 C0:bW K "has_number_of_both_kinds" "has_number_of_both_kinds" Oj (f 10) (g 10)
 CZ:bW K "is_pattern" "is_pattern" N_ (f 11) (g 11)
 CY:bW K "rule_refusal" "rule_refusal" NT (f 12) (g 12)
 K4:bW K "rows_shut" "Pattern.rows_shut" NJ (f 13) (g 13)
 K3:bW K "note_holes" "Pattern.note_holes" N4 (f 14) (g 14)
 CW:bW K "until_stretch" "until_stretch" Nt (f 15) (g 15)
 K2:bW K "__init__" "Gap.__init__" xr (f 16) (g 16)
 K1:bW K "__init__" "Pattern.__init__" xq (f 17) (g 17)
 K0:bW K "begin" "Search.begin" Ol (f 18) (g 18)
 KZ:bW K "shut_rows" "Search.shut_rows" NI (f 19) (g 19)
 KY:bW K "hold" "Search.hold" Ob (f 20) (g 20)
 KW:bW K "walk" "Search.walk" Nr (f 21) (g 21)
 KU:bW K "sift" "Search.sift" Em (f 22) (g 22)
 KS:bW K "lengths" "Search.lengths" En (f 23) (g 23)
 KR:bW K "choices" "Search.choices" Es (f 24) (g 24)
 KQ:bW K "tally" "Search.tally" NB (f 25) (g 25)
 KP:bW K "add_up" "Search.add_up" Et (f 26) (g 26)
 KO:bW K "is_hopeless" "Search.is_hopeless" Oa (f 27) (g 27)
 KN:bW K "matches" "Search.matches" N9 (f 28) (g 28)
 KL:bW K "seek" "Search.seek" NP (f 29) (g 29)
 KJ:bW K "matches_at" "Search.matches_at" N8 (f 30) (g 30)
 KI:bW K "has_way" "Search.has_way" Oc (f 31) (g 31)
 KH:bW K "pick" "Search.pick" NZ (f 32) (g 32)
 KG:bW K "fillings" "Search.fillings" Og (f 33) (g 33)
 KD:bW K "__init__" "Search.__init__" NH (f 34) (g 34)
 KC:bW K "trees_for" "Replacement.trees_for" Nu (f 35) (g 35)
 KA:bW K "filled" "Replacement.filled" Er (f 36) (g 36)
 Kz:bW K "__init__" "Reader.__init__" NX (f 37) (g 37)
 Ky:bW K "has_more" "Reader.has_more" N7 (f 38) (g 38)
 Kx:bW K "take_numbers" "Reader.take_numbers" NF (f 39) (g 39)
 Kw:bW K "take_number" "Reader.take_number" NG (f 40) (g 40)
 Kv:bW K "take_row" "Reader.take_row" ND (f 41) (g 41)
 Ku:bW K "__init__" "Shapes.__init__" NL (f 42) (g 42)
 Ks:bW K "put_tree" "Shapes.put_tree" NY (f 43) (g 43)
 Kr:bW K "change_tree" "Shapes.change_tree" Oi (f 44) (g 44)
 Kq:bW K "add_rule" "Shapes.add_rule" Ot (f 45) (g 45)
 Kp:bW K "search_for" "Shapes.search_for" NQ (f 46) (g 46)
 Ko:bW K "count_ways" "Shapes.count_ways" Oh (f 47) (g 47)
 Kn:bW K "has_way" "Shapes.has_way" NN (f 48) (g 48)
 Km:bW K "find_node" "Shapes.find_node" Of (f 49) (g 49)
 Kl:bW K "tell_filling" "Shapes.tell_filling" Nz (f 50) (g 50)
 Kh:bW K "rewrite" "Shapes.rewrite" NW (f 51) (g 51)
 Kg:bW K "apply_rule" "Shapes.apply_rule" Om (f 52) (g 52)
 Kf:bW K "seek_rule" "Shapes.seek_rule" NO (f 53) (g 53)
 Ke:bW K "first_rule" "Shapes.first_rule" Oe (f 54) (g 54)
 Kd:bW K "next_place" "Shapes.next_place" N6 (f 55) (g 55)
 Kc:bW K "take_step" "Shapes.take_step" NC (f 56) (g 56)
 Ka:bW K "run_steps" "Shapes.run_steps" NR (f 57) (g 57)
 J':bW K "tell_nodes" "Shapes.tell_nodes" Ny (f 58) (g 58)
 CV:bW K "answer_call" "answer_call" Oq (f 59) (g 59)
 CU:bW K "answers" "answers" Oo (f 60) (g 60)
 B:Bn mg
 G:Gn mg
 GG:Gs mg
 tP:CF K c.pat Pk
 tG:CF K c.gap RH
 tT:CF K c.tree L6
 tS:CF K c.iR MM
 tR:CF K c.rep Gz
 tH:CF K c.fE Ni
 tD:CF K c.mS OJ
 m3:Meth K c.tree "mark_from_below" (f 3)
 Gj:Meth K c.pat "note_holes" (f 14)
 Gk:Meth K c.pat "rows_shut" (f 13)
 Bc:Meth K c.iR "shut_rows" (f 19)
 xU:Meth K c.iR "hold" (f 20)
 Gi:Meth K c.iR "sift" (f 22)
 Bb:Meth K c.iR "lengths" (f 23)
 Gh:Meth K c.iR "add_up" (f 26)
 xT:Meth K c.iR "walk" (f 21)
 xS:Meth K c.iR "choices" (f 24)
 vJ:Meth K c.iR "tally" (f 25)
 Gf:Meth K c.iR "seek" (f 29)
 Gg:Meth K c.iR "is_hopeless" (f 27)
 xR:Meth K c.iR "matches" (f 28)
 vK:Meth K c.iR "begin" (f 18)
 A_:Meth K c.iR "has_way" (f 31)
 m5:Meth K c.tree "node_at" (f 5)
 Ge:Meth K c.iR "pick" (f 32)
 Gd:Meth K c.rep "trees_for" (f 35)
 m6:Meth K c.tree "numbers_of" (f 6)
 rL:Meth K c.mS "take_numbers" (f 39)
 xQ:Meth K c.mS "take_number" (f 40)
 A8:Meth K c.fE "put_tree" (f 43)
 rK:Meth K c.fE "search_for" (f 46)
 Ba:Meth K c.iR "matches_at" (f 30)
 A7:Meth K c.fE "has_way" (f 48)
 A9:Meth K c.iR "fillings" (f 33)
 Gb:Meth K c.rep "filled" (f 36)
 m7:Meth K c.tree "numbers_with" (f 7)
 A6:Meth K c.fE "rewrite" (f 51)
 FQ:Meth K c.fE "seek_rule" (f 53)
 FP:Meth K c.fE "first_rule" (f 54)
 FO:Meth K c.fE "next_place" (f 55)
 A5:Meth K c.fE "take_step" (f 56)
 xP:Meth K c.mS "take_row" (f 41)
 F_:Meth K c.fE "change_tree" (f 44)
 FZ:Meth K c.fE "add_rule" (f 45)
 FW:Meth K c.fE "find_node" (f 49)
 FY:Meth K c.fE "count_ways" (f 47)
 FU:Meth K c.fE "tell_filling" (f 50)
 FT:Meth K c.fE "apply_rule" (f 52)
 FN:Meth K c.fE "run_steps" (f 57)
 FL:Meth K c.fE "tell_nodes" (f 58)
 Ga:Meth K c.mS "has_more" (f 38)
 AZ:mg "is_one_tree"=O (.ref (f 0))
 A0:mg "Layout"=O (.ref L)
 xN:mg "holes_in"=O (.ref (f 9))
 AY:mg "is_row_with_holes"=O (.ref (f 8))
 Fj:mg "has_number_of_both_kinds"=O (.ref (f 10))
 Fi:mg "is_pattern"=O (.ref (f 11))
 Fe:mg "until_stretch"=O (.ref (f 15))
 Fx:mg "Gap"=O (.ref c.gap)
 Fo:mg "Tree"=O (.ref c.tree)
 Ff:mg "tree_refusal"=O (.ref (f 1))
 Fg:mg "rule_refusal"=O (.ref (f 12))
 Fw:mg "Pattern"=O (.ref c.pat)
 Ft:mg "Replacement"=O (.ref c.rep)
 Fq:mg "Search"=O (.ref c.iR)
 Fv:mg "Reader"=O (.ref c.mS)
 Fp:mg "Shapes"=O (.ref c.fE)
 Fl:mg "answer_call"=O (.ref (f 59))
 aaM:Mk K c.gap (f 16)
 aaG:Mk K c.tree (f 4)
 aaL:Mk K c.pat (f 17)
 aaJ:Mk K c.rep (f 2)
 aaH:Mk K c.iR (f 34)
 aaK:Mk K c.mS (f 37)
 aaI:Mk K c.fE (f 42)
 cf:K9 K L "__init__" (f 2)
structure Wd where
 p:fV
 w:d9
 K:PySem.W.Frag
 mg:ak->Option ai
 b:dj
 c:Cz
 L:aa
 f:Nat->aa
 g:Nat->oR
def JH(v:Wd):Prop:=Hy v.K v.mg v.c v.L v.f v.g->e_ v.p v.w v.K v.mg v.b qb 78 (v.f 60) (v.g 60) ["calls"] (Ab v.K)
instance:Nonempty Wd:=⟨⟨default,⟨λ_ _=>0,{strHash:=λ_=>0,shareClass:=λ_=>0,mergeTok:=id,idOf:=λ_=>0,idOfShared:=λ_ _=>0,followText:=λ_=>true,idOfImm:=λ_=>0 }⟩,[],λ_=>U,default,⟨0,0,0,0,0,0,0⟩,0,λ_=>0,λ_=>default⟩⟩
noncomputable section
def W0:Wd:=ahf λv=>¬JH v
def zp:=W0.p
def zw:=W0.w
def zK:=W0.K
def zM:=W0.mg
def zB:=W0.b
def zc:=W0.c
def zL:=W0.L
def zf:=W0.f
def zg:=W0.g
abbrev zP:=zc.pat
abbrev zG:=zc.gap
abbrev zT:=zc.tree
abbrev zS:=zc.iR
abbrev zR:=zc.rep
abbrev zD:=zc.mS
end
abbrev HY:=Hy zK zM zc zL zf zg
structure Ok(k i:Nat)(ps:List ak)(sp:Sp):Prop where
 b:Binds zK (zg i) ps []
 g:e_ zp zw zK zM zB qb k (zf i) (zg i) ps sp
theorem wQ{p:List ai->Prop}{n:Nat}(h:∀a us,J us=n->p (a::us))(us:List ai)(e:J us=n+1):p us:=by
 cases us with
 |nil=>cases e
 |cons a us=>exact h a us (Nat.succ.inj e)
theorem DE{p:List ai->Prop}(h:∀a,p [a]):∀us,J us=1->p us:=wQ λa us e=>by rw[List.eq_nil_of_length_eq_zero e];exact h a
theorem LO{p:List ai->Prop}(h:∀a b,p [a,b]):∀us,J us=2->p us:=wQ λa=>DE (h a)
theorem LN{p:List ai->Prop}(h:∀a b c,p [a,b,c]):∀us,J us=3->p us:=wQ λa=>LO (h a)
theorem LM{p:List ai->Prop}(h:∀a b c d,p [a,b,c,d]):∀us,J us=4->p us:=wQ λa=>LN (h a)
theorem Vo{p:List ai->Prop}(h:∀a b c d e,p [a,b,c,d,e]):∀us,J us=5->p us:=wQ λa=>LM (h a)
end Hs
namespace L2
open PySem PySem.Spec PyProof.Rows Hs
theorem xk{CX:oh}{P:fV}{w:d9}{K:PySem.W.Frag}{mg:ak->Option ai}{base:dj}{N:List ak}{q:ak}{sc:lg}{f:aa}{Z:ai}{A:jd}{o:List i0}{s:aS}{H:Hp}{E:XK}:(rX CX P w K mg base N q sc f Z A o s H E).vC.K=K:=rfl
theorem bW.Go{x q:ak}{st:mF}{ps:List ak}{k i:Nat}{sp:Sp}(F:bW zK x q st (zf i) (zg i))(N:List ak)
 (Z:∀(cdv:ai)(A:jd)(outer:List i0)(s:aS)(H:Hp)(vs:List V)(Q:VK)(E:XK),bS k (A.deeper (qH q (h_ st) s.heap.objs.size (zf i) cdv))->N.Nodup->sp vs H Q E ->
  ∃t,mJ (rX qb zp zw zK zM zB N q (h_ st) (zf i) cdv A outer s H E).vC (ue st) t/\t {nx:=λ_ H'=>Q .az H',rt:=Q } (start N vs) H)
 (S:ze N ps (h_ st):=by exact Sc)
 (len:∀vs H Q E,sp vs H Q E->J vs=J ps:=by intro _ _ _ _ h;cases h;subst_vars;rfl)
 (hb:∀(kV doc pm:ai)(an:Option aa)(cdv ct:ai)(us:List ai),J us=J ps->S7 (W.fnOf x q (yc st) (ue st) (h_ st) pP kV doc pm an cdv ct) {pos:=us }=pure (ps.zip us):=by intro _ _ _ _ _ _;first|exact DE λ_=>Y|exact LO λ_ _=>Y|exact LN λ_ _ _=>Y|exact LM λ_ _ _ _=>Y|exact Vo λ_ _ _ _ _=>Y):Ok (k+1) i ps sp:=
 ⟨F.binds hb,F.ok S len λcdv A outer s H vs Q E U h=>Z cdv A outer s H vs Q E U S.nd h⟩
end L2
end
section
namespace Hs
open PySem PySem.Spec PyProof.Rows L2
def nats(ns:List Int):List Nat:=ns.map Ut
def iX(ns:List Int):Bool:=decide (J ns%3=0)&&dz 1 (nats (aH 2 ns))
theorem lD(f:α->β)(k:Nat)(l:List α):aH k (l.map f)=(aH k l).map f:=by
 unfold aH;rw[aM]
 induction (bA ((J l-k+2)/3)) with
 |nil=>rfl
 |cons i r Z=>
  rw[fR,fR,bM];cases l[k+3*i]? with
  |none=>exact Z
  |some x=>simp only[kg,bL,Z]
theorem uR(h:x∈aH k l):x∈l:=by obtain⟨i,_,e⟩:=qN.mp h;exact dm e
theorem IX{Z:Type}{l:List Z}{i:Nat}{z:Z}(h:l[i]?=O z):l.drop i=z::l.drop (i+1):=by obtain⟨hl,e⟩:=cV.mp h;rw[kr hl,e]
inductive Xp(K:PySem.W.Frag)(vs:List V)(H:Hp)(Q:VK)(E_:XK):Prop
 |mk(a:aa)(ns:List Int)(_:vs=[.ref a])(_:aj K H a (bF ns))(_:(∀n∈ns,0<=n))(_:∀H':Hp,aG H H'->Q (.bl (iX ns)) H')
section
theorem AL(Z:HY):Ok 1 0 ["numbers"] (Xp zK):=by
 refine Z.F0.Go ["numbers","missing","below"] λcdv A outer s H vs Q E x nd h=>?_
 .obtain⟨a,ns,rfl,L,P,k⟩:=h;refine⟨_,aA (bT (bK lI (dh Pq (fy iN byC Z.B.len PySem.boot_len (af (pv 0) ay)) aK) aK (bB _)) (aJ (bh jn)) b8)
   (aA (nF (i:=1) nd Y (Or.inl Y) aK)
   (aA (iV iG Y (jm (o_ 2 (pv 0))) (EJ (i:=2) nd Y (Or.inl Y))
    (aA (bT (bK eW (pv 1) aK (bB _)) (aJ (bh jn)) b8)
    (aJ (Ax (i:=1) nd Y (Or.inl Y) (dh rD (pv 2) aK) Q9))))
   (aJ (bh (qw eW (pv 1) aK (bB _)))))),?_⟩
  dsimp only[xk];refine⟨_,Y,.inl L,_,_,Y,Y,(by show(0:Int)<3;decide),Y,_,Y,?_⟩;have C:decide (V.int ((J (bF ns):Nat)%3)=V.int 0)=decide (J ns%3=0):=by
   rw[aM];by_cases q:J ns%3=0
   .rw[bJ q,bJ (by congr 1;lia)]
   .rw[bP q,bP (by intro z;injection z with z;lia)]
  rw[C];by_cases W:J ns%3=0
  .rw[bJ W];refine cJ ?_;refine⟨_,Y,a,_,Y,L,λp I=>?_⟩;have e2:aH 2 (bF ns)=bF (aH 2 ns):=lD _ _ _;have s1:aG H (upd H p (.lst (aH 2 (bF ns)))):=aT I;have N:∀n∈aH 2 ns,0<=n:=λn G=>P n (uR G);refine⟨p,Y,⟨_,aj.of aB⟩,rR (λi σ H'=>∃(m:Nat)(v:Option V),σ=[O (.ref a),O (.int m),v]/\aG H H'/\H' p=O (.lst (aH 2 (bF ns)))/\dz 1 (nats (aH 2 ns))=dz m ((nats (aH 2 ns)).drop i))
    ⟨1,U,Y,s1,aB,Y⟩ (λi σ H' _ ⟨_,_,_,_,h,_⟩=>aj.of h) ?_ ?_⟩
   .rintro i y σ H' hi ⟨m,v,rfl,s2,T,R⟩;rw[e2,bM]at hi;obtain⟨z,M,rfl⟩:=eZ.mp hi;have K:=N z (dm M);have S:(nats (aH 2 ns)).drop i=z.toNat::(nats (aH 2 ns)).drop (i+1):=by refine IX ?_;unfold nats;rw[bM,M];rfl
    refine⟨_,Y,Y,_,Y,?_⟩;by_cases F:m=0
    .subst F;refine dW (show V.int ((0:Nat):Int)=V.int 0 from Y) ?_;have:=k H' s2;unfold iX at this
     rwa [R,S,bJ W]at this
    .refine dD (by intro q;injection q with q;lia) ?_;refine⟨_,Y,_,Y,_,_,Y,Y,_,_,Y,Y,m-1+z.toNat,O (.int z),?_,s2,T,?_⟩
     .have:(m:Int)+(z-1)=((m-1+z.toNat:Nat):Int):=by lia
      show [O (V.ref a),O (V.int ((m:Int)+(z-1))),O (V.int z)]=_;rw[this]
     .obtain⟨j,rfl⟩:∃j,m=j+1:=⟨m-1,byA⟩;rw[R,S];rfl
   .rintro σ H' ⟨m,v,rfl,s2,T,R⟩;refine⟨_,Y,Y,?_⟩;have:=k H' s2;unfold iX at this;rw[R,bJ W,e2]at this;have hl:J (nats (aH 2 ns))=J (bF (aH 2 ns)):=by simp[nats]
    rw[<-hl,uC]at this;have D:decide (V.int (m:Nat)=V.int 0)=dz m []:=by
     cases m with
     |zero=>rfl
     |succ m=>exact bP (by intro q;injection q with q;lia)
    rwa [D]
  .rw[bP W];refine bR ?_;have:=k H (aG.refl H);unfold iX at this
   rwa [bP W]at this
end
end Hs
end
section
namespace Hs
open PySem PySem.Spec PyProof.Rows L2
theorem kR{Z:Type}{l:List Z}{i:Nat}{x:Z}(h:l[i]?=O x):l.take (i+1)=l.take i++[x]:=by rw[JV,h];rfl
theorem RW(keep:V->Bool)(f:V->V)(l:List V)(x:V):((l++[x]).filter keep).map f=(l.filter keep).map f++(if keep x=true then [f x] else []):=by rw[CJ,dw];congr 1;cases e:keep x<;>simp[e]
theorem RX(keep:V->Bool)(f:V->V)(l:List V):J ((l.filter keep).map f)<=J l:=by rw[aM];exact oM _ _
section
variable{K:PySem.W.Frag}{a:Addr}{xs:List V}{g:TG}{tt:TT}{te:TE}{vs:List Nat}{σ:L2.St}{H1:Hp}{D:Addr}{Qd:Hp->Prop}
def J8(keep:V->Bool)(f:V->V)(H1:Hp)(g:TG)(tt:TT)(te:TE)(vs:List Nat)(σ:L2.St)(x:V):Prop:=
 ∀(H:Hp)(Nx:V->Hp->Prop)(Nn:Hp->Prop),aG H1 H->(keep x=true->∀H',aG H H'->Nx (f x) H')->(keep x=false->∀H',aG H H'->Nn H') ->
  g x (wipe σ vs) H λσ2 H2=>wipe σ2 vs=wipe σ vs/\tt σ2 H2 λb H3=>if b=true then te σ2 H3 Nx else Nn H3
theorem Ek(Z:H1 D=U)(s:aG H1 H):aG H1 (upd H D o):=λb u e=>by rw[bO (aQ e Z)];exact s b u e
theorem QS{keep:V->Bool}{f:V->V}{x:V}{acc:List V}{H:Hp}(Q:H1 D=U)(R:J8 keep f H1 g tt te vs σ x)(s1:aG H1 H)(S:H D=O (.lst acc))(hz:J acc<bf)
 {Y:Hp->Prop} (T:∀H',aG H1 H'->H' D=O (.lst (acc++if keep x=true then [f x] else []))->Y H') :
 g x (wipe σ vs) H λZ H2=>wipe Z vs=wipe σ vs/\tt Z H2 λb H3=>if b=true then te Z H3 (λy H4=>∃acc,H4 D=O (.lst acc)/\J acc<bf/\Y (upd H4 D (.lst (acc++[y])))) else Y H3:=by
 refine R H _ _ s1 (λe H' s2=>⟨acc,s2 _ _ S,hz,T _ (Ek Q (s1.trans s2)) ?_⟩) (λe H' s2=>T _ (s1.trans s2) ?_)
 .rw[aB,aD e]
 .rw[ao (by rw[e];exact iJ),nq];exact s2 _ _ S
theorem pF(keep:V->Bool)(f:V->V)(R:H1 D=U)(hx:aj K H1 a xs)(hz:J xs<bf)(Q:∀(i:Nat)(x:V),xs[i]?=O x->J8 keep f H1 g tt te vs σ x)
 (hd:∀H',aG H1 H'->H' D=O (.lst ((xs.filter keep).map f))->Qd H') :
 ∃W:Nat->Nat->Hp->Prop,(∃m,W 0 m (upd H1 D (.lst [])))/\∀i m H,W i m H ->
  ((oN K a).stop i H/\Qd H)\/((oN K a).go i H/\∃T:Hp->Prop,(∀H',T H'->∃S,S<m/\W (i+1) S H')/\∀x H',(oN K a).lV i H x H'->g x (wipe σ vs) H' λZ H2=>wipe Z vs=wipe σ vs/\tt Z H2 λb H3=>
   if b=true then te Z H3 λy H4=>∃acc,H4 D=O (.lst acc)/\J acc<bf/\T (upd H4 D (.lst (acc++[y]))) else T H3):=by
 refine Gy (λi H=>aG H1 H/\H D=O (.lst (((xs.take i).filter keep).map f))) ⟨aT R,aB⟩ (λi H _ h=>h.1.seq hx) ?_ ?_
 .rintro i x H hi ⟨s1,Y⟩;refine QS R (Q i x hi) s1 Y (JQ (eL (RX _ _ _) (ae0 _ _)) hz) λH' s2 P=>⟨s2,?_⟩;rw[kR hi,RW];exact P
 .rintro H ⟨s1,Y⟩;rw[kK]at Y;exact hd H s1 Y
theorem aan(keep:V->Bool)(f:V->V)(R:H1 D=U)(hz:n<bf)(Q:∀i:Nat,i<n->J8 keep f H1 g tt te vs σ (.int (i:Nat)))
 (hd:∀H',aG H1 H'->H' D=O (.lst ((((bA n).map λi=>V.int (i:Nat)).filter keep).map f))->Qd H') :
 ∃W:Nat->Nat->Hp->Prop,(∃m,W 0 m (upd H1 D (.lst [])))/\∀i m H,W i m H ->
  ((nu 0 n).stop i H/\Qd H)\/((nu 0 n).go i H/\∃T:Hp->Prop,(∀H',T H'->∃S,S<m/\W (i+1) S H')/\∀x H',(nu 0 n).lV i H x H'->g x (wipe σ vs) H' λZ H2=>wipe Z vs=wipe σ vs/\tt Z H2 λb H3=>
   if b=true then te Z H3 λy H4=>∃acc,H4 D=O (.lst acc)/\J acc<bf/\T (upd H4 D (.lst (acc++[y]))) else T H3):=by
 refine Gx (λi H=>aG H1 H/\H D=O (.lst ((((bA i).map λi=>V.int (i:Nat)).filter keep).map f))) ⟨aT R,aB⟩ ?_ ?_
 .rintro i H hi ⟨s1,Y⟩;have N:(0:Int)+(i:Nat)=(i:Nat):=by lia
  rw[N];refine QS R (Q i hi) s1 Y (JQ (RX _ _ _) (by rw[aM,ko];lia)) λH' s2 P=>⟨s2,?_⟩;rw[kL,dw,bL,mO,RW];exact P
 .rintro H ⟨s1,Y⟩;exact hd H s1 Y
end
def lX(ns:List Int):Int:=if 768<J ns then -3 else if iX ns=false then -1 else if(aH 0 ns).any (λk=>decide (k≠0))=true then -1 else 0
inductive W4(K:PySem.W.Frag)(vs:List V)(H:Hp)(Q:VK)(E_:XK):Prop
 |mk(a:aa)(ns:List Int)(_:vs=[.ref a])(_:aj K H a (bF ns))(_:(∀n∈ns,0<=n))(_:J ns<=30000)(_:∀H':Hp,aG H H'->Q (.int (lX ns)) H')
section
theorem Py(Z:HY):Ok 2 1 ["numbers"] (W4 zK):=by
 have r:=(AL Z).g;refine Z.F1.Go ["numbers","kind"] λcdv A outer s H vs Q E I nd h=>?_
 .obtain⟨a,ns,rfl,R,S,M,k⟩:=h;obtain⟨q,y⟩:=Z.G.QC;refine⟨_,aA (bT (bK rF (fy iN byC Z.B.len PySem.boot_len (af (pv 0) ay)) (eY (v:=.int 768) byC y ⟨_,Y⟩) (bB _)) (aJ (bh (kD kB aK))) b8)
   (aA (bT (qt (jB (mW r I byC Z.AZ Z.F0.kp (AL Z).b .nil bq (af (pv 0) ay)) byF)) (aJ (bh (kD kB aK))) b8)
   (aA (bT (jB (fy (adB Y) byC Z.B.any ag_ (af (mV Y nd (jm (o_ 0 (pv 0))) (k9 (by show j5 ["numbers","kind"] (h_ El) _ [("kind",1)]=true;decide +kernel)) (λ_ _ _ _ _=>EJ (i:=1) nd Y (Or.inl Y)) (λ_ _ _ _ _=>o8) (λ_ _ _ _ _=>qw lI (pv 1) aK (bB _))) ay)) byF) (aJ (bh (kD kB aK))) b8)
   (aJ (bh aK)))),?_⟩
  dsimp only[xk];refine⟨_,Y,.inl R,_,_,Y,Y,_,Y,?_⟩;rw[aM];by_cases U:768<J ns
  .refine dW (show(768:Int)<(J ns:Nat) by lia) ⟨_,rfl,?_⟩;have:=k H (aG.refl H);unfold lX at this
   rwa [aD U]at this
  .refine dD (show ¬(768:Int)<(J ns:Nat) by lia) ?_;refine⟨_,Y,a,ns,Y,R,S,λH1 s1=>⟨_,Y,?_⟩⟩;cases N:iX ns with
   |false=>
    refine bR ⟨_,Y,?_⟩;have:=k H1 s1;unfold lX at this
    rwa [ao U,aD N]at this
   |true=>
    refine cJ ?_;refine⟨_,Y,a,_,Y,s1.seq R,λp F=>?_⟩;have e2:aH 0 (bF ns)=bF (aH 0 ns):=lD _ _ _;rw[e2];have s2:aG H1 (upd H1 p (.lst (bF (aH 0 ns)))):=aT F;refine⟨p,Y,⟨_,aj.of aB⟩,λD C=>?_⟩;refine pF (λ_=>true) (λv=>V.bl (!decide (v=V.int 0))) C (aj.of aB) ?_ ?_ ?_
    .rw[aM,c8];have:=L_ 0 ns;lia
    .rintro i x hi H' n m P K o;rw[bM]at hi;obtain⟨z,T,rfl⟩:=eZ.mp hi;exact⟨Y,_,Y,Y,K Y H' (aG.refl H')⟩
    .intro H' P hd;have u:((bF (aH 0 ns)).filter (λ_=>true)).map (λv=>V.bl (!decide (v=V.int 0)))=((aH 0 ns).map λk=>decide (k≠0)).map V.bl:=by
      rw[yT.mpr (λ_ _=>rfl),iZ,iZ];refine kj λz _=>?_;simp only[J_];congr 1;by_cases T:z=0
      .subst T;simp
      .simp[T]
     rw[u]at hd;refine⟨D,_,Y,aj.of hd,_,Y,?_⟩;have w:((aH 0 ns).map λk=>decide (k≠0)).any id=(aH 0 ns).any λk=>decide (k≠0):=by rw[afe];rfl
     rw[w];have L:=(s1.trans s2).trans P;have W:=k H' L;unfold lX at W;rw[ao U,ao (by rw[N];exact lU)]at W;cases O:(aH 0 ns).any λk=>decide (k≠0) with
     |true=>rw[aD O]at W;exact bR ⟨_,Y,W⟩
     |false=>rw[ao (by rw[O];exact lU)]at W;exact cJ W
end
abbrev aq(l:List Nat):List V:=l.map λn=>V.int (n:Nat)
theorem _root_.L2.CF.sub{K:PySem.W.Frag}{C:aa}{a b:List ak}(c:CF K C b)(h:∀f∈a,f∈b):CF K C a:=⟨c.cl,λf Z=>c.no f (h f Z)⟩
def jf(n:Nat)(ki la rr ra rp:aa):List (ak×V):=[("kinds",.ref ki),("labels",.ref la),("size",.int (n:Nat)),("rows",.ref rr),("above",.ref ra),("places",.ref rp)]
theorem kC(h:J ns%3=0)(W:k<3):J (aH k ns)=J ns/3:=by
 unfold aH;have e:(J ns-k+2)/3=J ns/3:=by lia
 rw[e];have:∀m,m<=J ns/3->J ((bA m).filterMap λi=>ns[k+3*i]?)=m:=by
  intro m
  induction m with
  |zero=>intro _;rfl
  |succ m Z=>intro Y;rw[kL,CK,fO,Z byA];rw[fR,aX byA];rfl
 exact this _ (aU _)
structure pT(H:Hp)(r:aa)(as:List aa)(rows:List (List Nat)):Prop where
 lst:H r=O (.lst (as.map V.ref))
 len:J as=J rows
 at_:∀(i:Nat)(a:aa),as[i]?=O a->H a=O (.lst (aq (rowAt rows i)))
structure jb(H:Hp)(cs:List Nat)(rr ra rp:aa):Prop where
 rows:∃as,pT H rr as (lay cs).rows
 above:H ra=O (.lst (aq (lay cs).above))
 places:H rp=O (.lst (aq (lay cs).places))
theorem dI(k:Nat)(h:n=k)(Z:k<1000:=by decide):n<1000:=by lia
theorem aE(h:b≠x)(e:H b=O o):upd H x u b=O o:=by rw[bO h];exact e
theorem pT.upd(R:pT H r as rows)(Y:x≠r)(Z:x∉as):pT (L2.upd H x o) r as rows:=
 ⟨aE (λz=>Y z.symm) R.lst,R.len,λi a e=>aE (λz=>Z (by rw[<-z];exact dm e)) (R.at_ i a e)⟩
theorem pT.set(R:pT H r as rows)(W:as.Nodup)(Y:r∉as)(e:as[i]?=O a):pT (L2.upd H a (.lst (aq row))) r as (rows.set i row):=by
 have hi:i<J rows:=by rw[<-R.len];exact(cV.mp e).1
 refine⟨aE (λz=>Y (by rw[z];exact dm e)) R.lst,by rw[wu];exact R.len,λj b Z=>?_⟩;rw[oj hi];by_cases q:j=i
 .subst q;rw[e]at Z;have:=bH Z;subst this;rw[aD rfl,aB]
 .rw[ao q];exact aE (λz=>q (QB W Z (by rw[z];exact e))) (R.at_ j b Z)
theorem YO{cs:List Nat}(w:dz 1 cs=true){rows:List (List Nat)}{n u:Nat}{st:List Nat}(O:n<J cs)(Z:aI cs u (J (rowAt rows u))=n)(W:iE cs rows u st)(U:J (rowAt rows u)=b7 cs u):
 ∃v st',st=v::st'/\aI cs v (J (rowAt rows v))=n/\iE cs rows v st':=by
 cases st with
 |nil=>have e:=W;subst e;rw[U,wM]at Z;unfold aI at Z;rw[aD rfl,Lw w]at Z;lia
 |cons v st=>obtain⟨P,Q,l,R,S,N,T⟩:=W;refine⟨v,st,Y,?_,T⟩;rw[R,k7 Q,S,<-vO P,<-U];exact Z
theorem iE.len:∀{st:List Nat}{u:Nat},iE cs rows u st->(u=J cs/\st=[])\/(u<J cs/\J st<=u+1)
 |[],u,h=>.inl ⟨h,rfl⟩
 |v::st,u,h=>by
  right;have hl:=h.lt v byB;obtain⟨Y,S,l,T,U,W,Z⟩:=h;refine⟨Y,?_⟩;rcases iE.len Z with⟨a,b⟩|⟨a,b⟩
  .rw[b];simp
  .have:v<u:=by lia
   simp;lia
theorem Jo(l:List Nat)(u:Nat):j6 (aq (u::l).reverse) (-1)=O (V.int (u:Nat)):=by rw[T_];show j6 ((l.reverse++[u]).map _) (-1)=_;rw[dw];exact S_ _ _
theorem cU{l:List Nat}{i x:Nat}(h:l[i]?=O x):j6 (aq l) (i:Int)=O (V.int (x:Nat)):=bQ (by rw[bM,h];rfl)
theorem kI{l:List aa}{i:Nat}{x:aa}(h:l[i]?=O x):j6 (l.map V.ref) (i:Int)=O (V.ref x):=bQ (by rw[bM,h];rfl)
structure jw(ki la:aa)(H0 H:Hp)(p C dx c rr ra rp wa un:aa)(as:List aa)(cs:List Nat)(S:L3):Prop where
 ins:H p=O (.ins C dx (jf (J cs) ki la rr ra rp))
 rows:pT H rr as S.rows
 ab:H ra=O (.lst (aq S.above))
 pl:H rp=O (.lst (aq S.places))
 j0:H wa=O (.lst (aq (cs++[1])))
 hun:H un=O (.lst (aq S.stack.reverse))
 nd:(rr::ra::rp::wa::un::as).Nodup
 kp:∀b o,H0 b=O o->b≠p->H b=O o
 fr:∀b∈rr::ra::rp::wa::un::as,H0 b=U
section
theorem jw.AW(L:jw ki la H0 H p C dx c rr ra rp wa un as cs S):(rr≠ra/\rr≠rp/\rr≠wa/\rr≠un/\rr∉as)/\(ra≠rp/\ra≠wa/\ra≠un/\ra∉as)/\(rp≠wa/\rp≠un/\rp∉as)/\(wa≠un/\wa∉as)/\un∉as/\as.Nodup:=by have:=L.nd;simpa only[jL,bE,fS]using this
theorem jw.Bj(L:jw ki la H0 H p C dx c rr ra rp wa un as cs S)(hx:x∈rr::ra::rp::wa::un::as):∀b u,H0 b=O u->b≠p->L2.upd H x o b=O u:=λb u e n=>aE (aQ e (L.fr x hx)) (L.kp b u e n)
theorem jw.Nk(L:jw ki la H0 H p C dx c rr ra rp wa un as cs S)(st:List Nat):jw ki la H0 (L2.upd H un (.lst (aq st.reverse))) p C dx c rr ra rp wa un as cs ⟨S.rows,S.above,S.places,st⟩:=by obtain⟨⟨I,J,K,U,M⟩,⟨N,O,W,P⟩,⟨Q,Y,R⟩,⟨Z,T⟩,e1,e2⟩:=L.AW;exact⟨aE (bZ L.ins L.hun (by intro z;cases z)) L.ins,L.rows.upd (λz=>U z.symm) e1,aE W L.ab,aE Y L.pl,aE Z L.j0,aB,L.nd,L.Bj byB,L.fr⟩
theorem jw.Yh(L:jw ki la H0 H p C dx c rr ra rp wa un as cs S)(l:List Nat):jw ki la H0 (L2.upd H ra (.lst (aq l))) p C dx c rr ra rp wa un as cs ⟨S.rows,l,S.places,S.stack⟩:=by obtain⟨⟨T,I,J,K,M⟩,⟨U,W,Y,Z⟩,⟨N,O,P⟩,⟨Q,R⟩,e1,e2⟩:=L.AW;exact⟨aE (bZ L.ins L.ab (by intro z;cases z)) L.ins,L.rows.upd (λz=>T z.symm) Z,aB,aE (λz=>U z.symm) L.pl,aE (λz=>W z.symm) L.j0,aE (λz=>Y z.symm) L.hun,L.nd,L.Bj byB,L.fr⟩
theorem jw.Ye(L:jw ki la H0 H p C dx c rr ra rp wa un as cs S)(l:List Nat):jw ki la H0 (L2.upd H rp (.lst (aq l))) p C dx c rr ra rp wa un as cs ⟨S.rows,S.above,l,S.stack⟩:=by obtain⟨⟨I,T,J,K,M⟩,⟨U,N,O,P⟩,⟨W,Y,Z⟩,⟨Q,R⟩,e1,e2⟩:=L.AW;exact⟨aE (bZ L.ins L.pl (by intro z;cases z)) L.ins,L.rows.upd (λz=>T z.symm) Z,aE U L.ab,aB,aE (λz=>W z.symm) L.j0,aE (λz=>Y z.symm) L.hun,L.nd,L.Bj byB,L.fr⟩
theorem jw.Yd(L:jw ki la H0 H p C dx c rr ra rp wa un as cs S)(e:as[i]?=O a)(l:List Nat):jw ki la H0 (L2.upd H a (.lst (aq l))) p C dx c rr ra rp wa un as cs ⟨S.rows.set i l,S.above,S.places,S.stack⟩:=by obtain⟨⟨F,G,I,J,T⟩,⟨K,M,N,U⟩,⟨P,Q,W⟩,⟨R,Y⟩,e1,e2⟩:=L.AW;have Z:=dm e;have ne:∀{x:aa},x∉as->x≠a:=λh z=>h (by rw[z];exact Z);exact⟨aE (bZ L.ins (L.rows.at_ i a e) (by intro z;cases z)) L.ins,L.rows.set e2 T e,aE (ne U) L.ab,aE (ne W) L.pl,aE (ne Y) L.j0,aE (ne e1) L.hun,L.nd,L.Bj (by simp[Z]),L.fr⟩
end
inductive XA(K:PySem.W.Frag)(C:aa)(vs:List V)(H:Hp)(Q:VK)(E_:XK):Prop
 |mk(p c dx:aa)(ns:List Nat)(_:vs=[.ref p,.ref c])(_:H p=O (.ins C dx []))(_:H c=O (.lst (aq ns)))(_:J ns%3=0)(_:dz 1 (aH 2 ns)=true)(_:J ns<=768)(_:∀(H':Hp) (ki la rr ra rp:aa),H' p=O (.ins C dx (jf (J (aH 2 ns)) ki la rr ra rp))->H' ki=O (.lst (aq (aH 0 ns)))->H' la=O (.lst (aq (aH 1 ns)))->jb H' (aH 2 ns) rr ra rp->(∀b o,H b=O o->b≠p->H' b=O o)->Q .az H')
section
theorem vo(Z:HY){C:aa}(T:CF zK C Gz):Ok 1 2 ["self","numbers"] (XA zK C):=by
 refine Z.F2.Go ["self","numbers","node","wanted","unfilled","upper"] λcdv A outer s H0 vs Q E hr nd h=>?_
 .obtain⟨p,c,dx,ns,rfl,hB,hh,h3,hw,gp,k0⟩:=h;refine⟨_,(aA (dP (pv 0) (o_ 0 (pv 1)) Y)
   (aA (dP (pv 0) (o_ 1 (pv 1)) Y)
   (aA (dP (pv 0) (fy iN byC Z.B.len PySem.boot_len (af (aC (pv 0)) ay)) Y)
   (aA (dP (pv 0) (mV Y nd (ou byC Z.B.range (af (dh jo (aC (pv 0)) aK) ay)) (k9 (by show j5 ["self","numbers","node","wanted","unfilled","upper"] (h_ Eo) _ [("node",2)]=true;decide +kernel)) (λ_ _ _ _ _=>(dB 2 nd)) (λ_ _ _ _ _=>o8) (λ_ _ _ _ _=>(dQ ay))) Y)
   (aA (dP (pv 0) (dQ ay) Y)
   (aA (dP (pv 0) (dQ ay) Y)
   (aA (bN 3 nd (dh xG (o_ 2 (pv 1)) (dQ (af aK ay))))
   (aA (bN 4 nd (dQ (af (aC (pv 0)) ay)))
   (aJ (iV iG Y (ou byC Z.B.range (af (aC (pv 0)) ay)) (dB 2 nd) (aA (ED iG (bK eW (fy iN byC Z.B.len PySem.boot_len (af (aN bI (aC (pv 0)) (aN bI (pv 4) (kD kB aK))) ay)) (aN bI (pv 3) (aN bI (pv 4) (kD kB aK))) (bB _)) (aJ (iW (Y9 PySem.F.plainAttrs_list PySem.F.slot_list_pop PySem.F.type_list_pop ZI (pv 4)))))
   (aA (bN 5 nd (aN bI (pv 4) (kD kB aK)))
   (aA (iW (kY PySem.F.plainAttrs_list PySem.F.slot_list_append PySem.F.type_list_append pC (aC (pv 0)) (af (pv 5) ay)))
   (aA (iW (kY PySem.F.plainAttrs_list PySem.F.slot_list_append PySem.F.type_list_append pC (aC (pv 0)) (af (fy iN byC Z.B.len PySem.boot_len (af (aN bI (aC (pv 0)) (pv 5)) ay)) ay)))
   (aA (iW (kY PySem.F.plainAttrs_list PySem.F.slot_list_append PySem.F.type_list_append pC (aN bI (aC (pv 0)) (pv 5)) (af (pv 2) ay)))
   (aJ (iW (kY PySem.F.plainAttrs_list PySem.F.slot_list_append PySem.F.type_list_append pC (pv 4) (af (pv 2) ay))))))))))))))))))),?_⟩
  dsimp only[xk];have l0:=kC h3 (k:=0) byD;have l1:=kC h3 (k:=1) byD;have l2:=kC h3 (k:=2) byD;refine⟨_,Y,c,_,Y,aj.of hh,λki hg=>⟨_,Y,aE (aQ hB hg) hB,T,dI 0 Y,?_⟩⟩;have hN:=bZ hh hB (by intro z;cases z);have hA:ki≠p:=λz=>by rw[z,hB]at hg;cases hg
  have gB:=aE (u:=.ins C dx (aR "kinds" (.ref ki) [])) hN (aE (u:=.lst (aH 0 (aq ns))) (aQ hh hg) hh);refine⟨_,Y,c,_,Y,aj.of gB,λla N=>⟨_,Y,aE (aQ aB N) aB,T,dI 1 Y,?_⟩⟩;have he:la≠p:=λz=>by rw[z,aB]at N;cases N
  rw[bO he]at N;have hU:la≠ki:=λz=>by rw[z,aB]at N;cases N
  rw[bO hU]at N;refine⟨_,Y,aB,T,Y,.inl (aj.of (aE he aB)),_,Y,aB,T,dI 2 Y,?_⟩;rw[lD,lD,aM];obtain⟨cs,hR⟩:∃cs,cs=aH 2 ns:=⟨_,Y⟩;rw[<-hR]at hw k0 l2;rw[l1,<-l2];have gF:J cs<=256:=by lia
  obtain⟨H,hH⟩:∃h,h=upd (upd (upd (upd (upd H0 ki (.lst (aq (aH 0 ns)))) p (.ins C dx (aR "kinds" (.ref ki) []))) la (.lst (aq (aH 1 ns)))) p (.ins C dx (aR "labels" (.ref la) (aR "kinds" (.ref ki) [])))) p (.ins C dx (aR "size" (.int (J cs:Nat)) (aR "labels" (.ref la) (aR "kinds" (.ref ki) [])))):=⟨_,Y⟩;rw[<-hH];have hp:H p=O (.ins C dx [("kinds",.ref ki),("labels",.ref la),("size",.int (J cs:Nat))]):=by rw[hH];exact aB
  have hV:∀b o,H0 b=O o->b≠p->H b=O o:=λb o e n=>by rw[hH];exact aE n (aE n (aE (aQ e N) (aE n (aE (aQ e hg) e))))
  have hc:=hV _ _ hh hN;have hK:H ki=O (.lst (aq (aH 0 ns))):=by rw[hH];exact aE hA (aE hA (aE (cO hU) (aE hA aB)))
  have gu:H la=O (.lst (aq (aH 1 ns))):=by rw[hH];exact aE he (aE he aB)
  have k:∀(H':Hp)(rr ra rp:aa),H' p=O (.ins C dx (jf (J cs) ki la rr ra rp))->jb H' cs rr ra rp->(∀b o,H b=O o->b≠p->H' b=O o)->Q .az H':=λH' rr ra rp x1 x2 x3=>k0 H' ki la rr ra rp x1 (x3 _ _ hK hA) (x3 _ _ gu he) x2 (λb o e n=>x3 _ _ (hV b o e n) n);have gl:=hN;refine⟨_,Y,hp,T,Y,_,_,Y,Y,_,Y,byA,byA,λD hD=>?_⟩;have e1:((J cs:Int)+1).toNat=J cs+1:=by lia
  rw[e1];refine Gx (λi H'=>∃as:List aa,J as=i/\H' D=O (.lst (as.map V.ref))/\(∀(j:Nat)(a:aa),as[j]?=O a->H' a=O (.lst []))/\as.Nodup/\D∉as/\(∀a∈as,H a=U)/\aG H H')
   ⟨[],rfl,aB,λj a e=>by simp at e,p9,byB,λa ha=>by simp at ha,aT hD⟩ ?_ ?_
  .rintro i H' hi ⟨as,h1,h2,h3,h4,h5,h6,h7⟩;refine⟨Y,byD,λq hq=>⟨as.map V.ref,?_,?_,as++[q],by simp[h1],?_,?_,?_,?_,?_,?_⟩⟩
   .exact aE (aQ h2 hq) h2
   .rw[aM,h1,c8];lia
   .rw[aB,dw];rfl
   .intro j a e;have gi:q≠D:=λz=>by rw[z,h2]at hq;cases hq
    rcases cY j (J as) with z|z
    .rw[fJ z]at e;have ha:=h3 j a e;refine aE (λy=>h5 (by rw[<-y];exact dm e)) (aE (aQ ha hq) ha)
    .rw[kq z]at e;have:a=q:=by have:=dm e;simpa using this
     subst this;exact aE gi aB
   .refine wm.mpr ⟨h4,byB,λx hx y hy=>?_⟩;have:y=q:=by simpa using hy
    subst this;obtain⟨j,w⟩:=jM hx;exact aQ (h3 j x w) hq
   .intro z;rcases kh.mp z with z|z
    .exact h5 z
    .have:D=q:=by simpa using z
     rw[<-this,h2]at hq;cases hq
   .intro a ha;rcases kh.mp ha with z|z
    .exact h6 a z
    .have:a=q:=by simpa using z
     subst this;exact h7.free hq
   .exact Ek hD (h7.trans (aT hq))
  .rintro H2 ⟨as,h1,h2,h3,h4,h5,h6,h7⟩;have hP:=h7 _ _ hp;refine⟨_,Y,hP,T,dI 3 Y,byD,λra P=>⟨_,rfl,aE (aQ aB P) aB,T,dI 4 rfl,?_⟩⟩;refine⟨byD,λrp R=>⟨_,rfl,aE (aQ aB R) aB,T,dI 5 rfl,?_⟩⟩;have gc:=bZ hP h2 (by intro z;cases z);have hW:∀a∈as,a≠p:=λa ha z=>by obtain⟨j,w⟩:=jM ha;have:=h3 j a w;rw[z,hP]at this;cases this
   have hz:ra≠p:=λz=>by rw[z,aB]at P;cases P
   rw[bO hz]at P;have hI:ra≠D:=λz=>by rw[z,h2]at P;cases P
   have d:ra∉as:=λz=>by obtain⟨j,w⟩:=jM z;rw[h3 j ra w]at P;cases P
   have ht:rp≠p:=λz=>by rw[z,aB]at R;cases R
   rw[bO ht]at R;have K:rp≠ra:=λz=>by rw[z,aB]at R;cases R
   rw[bO K,bO ht]at R;have hG:rp≠D:=λz=>by rw[z,h2]at R;cases R
   have f:rp∉as:=λz=>by obtain⟨j,w⟩:=jM z;rw[h3 j rp w]at R;cases R
   generalize hC:upd (upd (upd (upd (upd H2 p (HO.ins C dx (aR "rows" (V.ref D) [("kinds",.ref ki),("labels",.ref la),("size",.int (J cs:Nat))]))) ra (HO.lst [])) p (HO.ins C dx (aR "above" (V.ref ra) (aR "rows" (V.ref D) [("kinds",.ref ki),("labels",.ref la),("size",.int (J cs:Nat))])))) rp (HO.lst [])) p (HO.ins C dx (aR "places" (V.ref rp) (aR "above" (V.ref ra) (aR "rows" (V.ref D) [("kinds",.ref ki),("labels",.ref la),("size",.int (J cs:Nat))]))))=H3;have g1:H3 p=O (.ins C dx (jf (J cs) ki la D ra rp)):=by rw[<-hC];exact aB
   have gk:∀b o,b≠p->b≠ra->b≠rp->H2 b=O o->H3 b=O o:=λb o n1 n2 n3 e=>by rw[<-hC,bO n1,bO n3,bO n1,bO n2,bO n1];exact e
   have g2:H3 ra=O (.lst []):=by rw[<-hC,bO hz,bO (λz=>K z.symm),bO hz];exact aB
   have g3:H3 rp=O (.lst []):=by rw[<-hC,bO ht];exact aB
   have g4:=gk D _ (λz=>gc z.symm) (λz=>hI z.symm) (λz=>hG z.symm) h2;have g5:∀(j:Nat)(a:aa),as[j]?=O a->H3 a=O (.lst []):=λj a e=>gk a _ (hW a (dm e)) (λz=>d (by rw[<-z];exact dm e)) (λz=>f (by rw[<-z];exact dm e)) (h3 j a e);have hm:∀b o,H b=O o->b≠p->H2 b=O o:=λb o e n=>h7 b o e;have h8:H ra=U:=by
    cases q:H ra with
    |none=>rfl
    |some o=>rw[hm ra o q hz]at P;cases P
   have h0:H rp=U:=by
    cases q:H rp with
    |none=>rfl
    |some o=>rw[hm rp o q ht]at R;cases R
   have gw:=hD;have gx:=h6;have hE:∀b o,H b=O o->b≠p->H3 b=O o:=λb o e n=>gk b o n (aQ e h8) (aQ e h0) (hm b o e n);have gt:=hE c _ hc gl;refine⟨_,Y,c,_,Y,aj.of gt,λw2 gd=>⟨byD,λone hL=>⟨w2,one,_,_,rfl,rfl,aE (aQ aB hL) aB,aB,by rw[lD,<-hR,aM,c8];show J cs+1<=_;lia,λwa j0=>?_⟩⟩⟩;have g:wa≠one:=λz=>by rw[z,aB]at j0;cases j0
   rw[bO g]at j0;have hF:wa≠w2:=λz=>by rw[z,aB]at j0;cases j0
   rw[bO hF]at j0;have gy:(aH 2 (aq ns))++[V.int 1]=aq (cs++[1]):=by rw[lD,<-hR];show _=(cs++[1]).map _;rw[dw];rfl
   rw[gy];generalize hY:upd (upd (upd H3 w2 (HO.lst (aH 2 (aq ns)))) one (HO.lst [V.int 1])) wa (HO.lst (aq (cs++[1])))=H4;have k4:aG H3 H4:=by rw[<-hY];exact((aT gd).trans (aT hL)).trans (aT (by rw[bO g,bO hF];exact j0))
   have w4:H4 wa=O (.lst (aq (cs++[1]))):=by rw[<-hY];exact aB
   refine⟨_,Y,k4 _ _ g1,T,Y,(by show 1<=bf;decide),λun hun=>?_⟩;generalize hX:upd H4 un (HO.lst [V.int (J cs:Nat)])=H5;have k5:aG H4 H5:=by rw[<-hX];exact aT hun
   have u5:H5 un=O (.lst [V.int (J cs:Nat)]):=by rw[<-hX];exact aB
   have r:=k4.trans k5;have W:∀b o,H3 b=O o->b≠wa/\b≠un:=λb o e=>⟨aQ e j0,aQ (k4 _ _ e) hun⟩;have L0:jw ki la H H5 p C dx c D ra rp wa un as cs (lM cs):=by
    refine⟨r _ _ g1,⟨r _ _ g4,by rw[h1];simp[lM],λi a e=>?_⟩,r _ _ g2,r _ _ g3,k5 _ _ w4,u5,?_,λb o e n=>r _ _ (hE b o e n),?_⟩
    .have:rowAt (lM cs).rows i=[]:=by unfold rowAt lM;simp only[fQ,yR];split<;>rfl
     rw[this];exact r _ _ (g5 i a e)
    .have hO:=aQ w4 hun;have n1:=W D _ g4;have n2:=W ra _ g2;have n3:=W rp _ g3;have n4:wa∉as:=λz=>by obtain⟨j,w⟩:=jM z;exact(W wa _ (g5 j wa w)).1 Y
     have n5:un∉as:=λz=>by obtain⟨j,w⟩:=jM z;exact(W un _ (g5 j un w)).2 Y
     simp only[jL,bE,fS];exact⟨⟨λz=>hI z.symm,λz=>hG z.symm,n1.1,n1.2,h5⟩,⟨λz=>K z.symm,n2.1,n2.2,d⟩,⟨n3.1,n3.2,f⟩,⟨hO,n4⟩,n5,h4⟩
    .intro b hb;have gv:H wa=U:=by
      cases q:H wa with
      |none=>rfl
      |some o=>
       by_cases z:wa=p
       .rw[z,g1]at j0;cases j0
       .rw[hE wa o q z]at j0;cases j0
     have hZ:H un=U:=by
      cases q:H un with
      |none=>rfl
      |some o=>
       by_cases z:un=p
       .rw[z,k4 _ _ g1]at hun;cases hun
       .rw[k4 _ _ (hE un o q z)]at hun;cases hun
     simp only[bE]at hb;rcases hb with rfl|rfl|rfl|rfl|rfl|hb
     .exact gw
     .exact h8
     .exact h0
     .exact gv
     .exact hZ
     .exact gx b hb
   refine⟨_,Y,L0.ins,T,Y,_,Y,byA,byA,?_⟩;have ek:∀l:List V,J l<=257->J l<sizeLine:=λl hl=>by rw[c8];lia
   refine qG (λn σ H'=>∃v1 v2:Option V,σ=[O (.ref p),O (.ref c),v1,O (.ref wa),O (.ref un),v2]/\jw ki la H H' p C dx c D ra rp wa un as cs (bD cs n))
    ⟨U,U,rfl,L0⟩ ?_ ?_
   .rintro n σ H' hn ⟨v1,v2,rfl,L⟩;have I:=tY hw (n:=n) byA;obtain⟨u0,hT,ga,gG,gr,gg⟩:=I.top;have gD:(0:Int)+(n:Nat)=(n:Nat):=by lia
    rw[gD];refine⟨λm σ' H'=>∃u st,m=J (u::st)/\σ'=[O (.ref p),O (.ref c),O (.int (n:Nat)),O (.ref wa),O (.ref un),v2]/\jw ki la H H' p C dx c D ra rp wa un as cs ⟨(bD cs n).rows,(bD cs n).above,(bD cs n).places,u::st⟩ /\
     aI cs u (J (rowAt (bD cs n).rows u))=n/\iE cs (bD cs n).rows u st/\jC cs (bD cs n).rows (u::st)=jC cs (bD cs n).rows (bD cs n).stack,⟨_,u0,hT,Y,Y,?_,gr,gg,by rw[ga]⟩,?_⟩
    .have:(bD cs n)=⟨(bD cs n).rows,(bD cs n).above,(bD cs n).places,u0::hT⟩:=by rw[<-ga]
     rw[<-this];exact L
    .rintro m σ' H2 ⟨u,st,rfl,rfl,S,hk,hs,hJ⟩;have hu:=hs.mem u byB;have gf:u<J as:=by rw[h1];lia
     obtain⟨au,M⟩:∃a,as[u]?=O a:=⟨_,aX gf⟩;have hO:(cs++[1])[u]?=O (b7 cs u):=by
      unfold b7;rw[fQ];have:u<J (cs++[1]):=by simp;lia
      rw[aX this];rfl
     refine⟨_,Y,S.ins,T,Y,_,Y,_,Y,aj.of S.hun,Jo st u,aj.of S.rows.lst,kI M,.inl (aj.of (S.rows.at_ u au M)),
      _,Y,_,Y,_,Y,aj.of S.hun,Jo st u,aj.of S.j0,cU hO,Y,_,Y,?_⟩
     rw[aM];by_cases hf:J (rowAt (bD cs n).rows u)=b7 cs u
     .refine dW (by show V.int _=V.int _;rw[hf]) ⟨λσ' H'=>∃u' st',J (u'::st')<J (u::st)/\σ'=[O (.ref p),O (.ref c),O (.int (n:Nat)),O (.ref wa),O (.ref un),v2]/\jw ki la H H' p C dx c D ra rp wa un as cs ⟨(bD cs n).rows,(bD cs n).above,(bD cs n).places,u'::st'⟩ /\
       aI cs u' (J (rowAt (bD cs n).rows u'))=n/\iE cs (bD cs n).rows u' st'/\jC cs (bD cs n).rows (u'::st')=jC cs (bD cs n).rows (bD cs n).stack,λσ' H' ⟨u',st',gm,z⟩=>⟨_,gm,u',st',rfl,z⟩,?_⟩
      obtain⟨v,st',h',gs,gh⟩:=YO hw hn hk hs hf;subst h';have hM:aq (u::v::st').reverse=aq (v::st').reverse++[V.int (u:Nat)]:=by rw[T_];show((v::st').reverse++[u]).map _=_;rw[dw];rfl
      refine⟨_,Y,.inl ⟨Y,_,aj.of S.hun⟩,un,_,V.int (u:Nat),Y,Y,S.hun,?_,v,st',byB,rfl,?_,gs,gh,?_⟩
      .rw[hM];simp
      .have:(aq (u::v::st').reverse).dropLast=aq (v::st').reverse:=by rw[hM];simp
       rw[this];exact S.Nk (v::st')
      .rw[<-hJ];show _=(if _ then _ else _);rw[aD hf]
     .refine dD (by intro z;injection z with z;exact hf (oO z)) ?_;have gj:jC cs (bD cs n).rows (bD cs n).stack=u::st:=by rw[<-hJ];show(if _ then _ else _)=_;rw[ao hf]
      refine⟨_,Y,_,Y,aj.of S.hun,Jo st u,?_⟩;refine⟨_,Y,S.ins,T,Y,.inl ⟨Y,_,aj.of S.ab⟩,_,Y,ra,_,_,Y,Y,S.ab,ek _ (by rw[aM];show(bD cs n).above.length<=_;rw[I.la];lia),?_⟩;have gC:aq (bD cs n).above++[V.int (u:Nat)]=aq ((bD cs n).above++[u]):=by show _=fC _ _;rw[dw];rfl
      rw[gC];have G:=S.Yh ((bD cs n).above++[u]);refine⟨_,Y,G.ins,T,Y,.inl ⟨Y,_,aj.of G.pl⟩,_,Y,G.ins,T,Y,_,Y,aj.of G.rows.lst,kI M,.inl (aj.of (G.rows.at_ u au M)),rp,_,_,Y,Y,G.pl,ek _ (by rw[aM];show(bD cs n).places.length<=_;rw[I.lp];lia),?_⟩;rw[aM];have gA:aq (bD cs n).places++[V.int (J (rowAt (bD cs n).rows u):Nat)]=aq ((bD cs n).places++[J (rowAt (bD cs n).rows u)]):=by show _=fC _ _;rw[dw];rfl
      rw[gA];have ho:=G.Ye ((bD cs n).places++[J (rowAt (bD cs n).rows u)]);refine⟨_,Y,ho.ins,T,Y,_,Y,aj.of ho.rows.lst,kI M,.inl ⟨Y,_,aj.of (ho.rows.at_ u au M)⟩,_,Y,au,_,_,Y,Y,ho.rows.at_ u au M,ek _ ?_,?_⟩
      .rw[aM];show(rowAt (bD cs n).rows u).length<=_;have gq:=I.row u hu;have h9:∀j,j<J (rowAt (bD cs n).rows u)->aI cs u j<n:=λj w=>by
        have:(rowAt (bD cs n).rows u)[j]?=O (aI cs u j):=by rw[gq,bM,lz w];rfl
        exact(I.below u j _ this).1
       rcases cY 257 (J (rowAt (bD cs n).rows u)) with z|z
       .exfalso;have hQ:∀j,j<=257->j<=aI cs u j:=by
         intro j
         induction j with
         |zero=>intro _;lia
         |succ j ih=>intro w;have gI:=ih byA;have gH:=h9 j byA;rw[k7 hu];have:=rC (cs:=cs) (n:=aI cs u j) (k:=1) byA byA;lia
        have:=hQ 257 byA;have:=h9 257 byA;lia
       .exact z
      have gb:aq (rowAt (bD cs n).rows u)++[V.int (n:Nat)]=aq (rowAt (bD cs n).rows u++[n]):=by show _=fC _ _;rw[dw];rfl
      rw[gb];have hS:=ho.Yd M (rowAt (bD cs n).rows u++[n]);refine⟨_,Y,.inl ⟨Y,_,aj.of hS.hun⟩,_,Y,un,_,_,Y,Y,hS.hun,ek _ ?_,?_⟩
      .rw[aM,List.length_reverse];show(u::st).length<=_;rcases hs.len with⟨z1,z2⟩|⟨z1,z2⟩
       .rw[z2];show 1<=_;lia
       .show (J st)+1<=_;lia
      .have gz:aq (u::st).reverse++[V.int (n:Nat)]=aq (n::u::st).reverse:=by rw[T_ (a:=n)];show _=fC _ _;rw[dw];rfl
       rw[gz];have gE:=hS.Nk (n::u::st);refine⟨O (.int (n:Nat)),O (.int (u:Nat)),Y,?_⟩;have:bD cs (n+1)=⟨(bD cs n).rows.set u (rowAt (bD cs n).rows u++[n]),(bD cs n).above++[u],(bD cs n).places++[J (rowAt (bD cs n).rows u)],n::u::st⟩:=by rw[vL];unfold pG;rw[gj];rfl
       rw[this];exact gE
   .rintro σ H' ⟨v1,v2,rfl,L⟩;exact k H' D ra rp L.ins ⟨⟨as,L.rows⟩,L.ab,L.pl⟩ L.kp
end
end Hs
end
section
namespace Hs
open PySem PySem.Spec PyProof.Rows L2
open Sh (Node)
def L7(n:Nat)(ki rl rr ra rp rn re rk cF rll:aa):List (ak×V):=
 [("kinds",.ref ki),("labels",.ref rl),("size",.int (n:Nat)),("rows",.ref rr),("above",.ref ra),("places",.ref rp),("numbers",.ref rn),("ends",.ref re),("likes",.ref rk),("row_likes",.ref cF),("row_labels",.ref rll)]
structure fT(H:Hp)(r:aa)(bs:List aa)(rows:List (List Nat)):Prop where
 lst:H r=O (.lst (bs.map V.ref))
 len:J bs=J rows
 at_:∀(i:Nat)(b:aa),bs[i]?=O b->H b=O (.tup (aq (rowAt rows i)))
def bg(X:List aa)(H H':Hp):Prop:=∀b o,H b=O o->b∉X->H' b=O o
theorem bg.refl:bg X H H:=λ_ _ e _=>e
theorem bg.same(a:bg X H H1)(b:aG H1 H2):bg X H H2:=λc o e n=>b c o (a c o e n)
theorem bg.upd(a:bg X H H1)(hx:x∈X):bg X H (L2.upd H1 x o):=λc u e n=>aE (λz=>n (by rw[z];exact hx)) (a c u e n)
theorem fT.same(T:fT H r bs rows)(s:aG H H'):fT H' r bs rows:=⟨s _ _ T.lst,T.len,λi b e=>s _ _ (T.at_ i b e)⟩
theorem fT.uO(T:fT H r bs rows)(h:x≠r)(hx:H x=O (.lst l)):fT (L2.upd H x (.lst l')) r bs rows:=
 ⟨aE (λz=>h z.symm) T.lst,T.len,λi b e=>aE (bZ (T.at_ i b e) hx (by intro z;cases z)) (T.at_ i b e)⟩
theorem fT.LQ(T:fT H r bs rows)(hx:H x=O (.dT l)):fT (L2.upd H x (.dT l')) r bs rows:=
 ⟨aE (bZ T.lst hx (by intro z;cases z)) T.lst,T.len,λi b e=>aE (bZ (T.at_ i b e) hx (by intro z;cases z)) (T.at_ i b e)⟩
theorem fT.set(T:fT H r bs rows)(hi:i<J rows)(Z:H q=O (.tup (aq row))):fT (L2.upd H r (.lst ((bs.map V.ref).set i (.ref q)))) r (bs.set i q) (rows.set i row):=by
 refine⟨by rw[aB,aeZ],by rw[wu,wu];exact T.len,λj b e=>?_⟩;rw[oj hi];by_cases z:j=i
 .subst z;rw[Cy (by rw[T.len];exact hi)]at e;have:=bH e;subst this;rw[aD rfl];exact aE (bZ Z T.lst (by intro z;cases z)) Z
 .rw[J0 (λy=>z y.symm)]at e;rw[ao z];exact aE (bZ (T.at_ j b e) T.lst (by intro z;cases z)) (T.at_ j b e)
def mh(k:fK):Hn.NK:=.tup [.int (k.1:Nat),.tup (k.2.map λn=>Hn.NK.int (n:Nat))]
theorem GW:∀{a b:List Nat},(a.map λn=>Hn.NK.int (n:Nat))=(b.map λn=>Hn.NK.int (n:Nat))->a=b
 |[],[],_=>rfl
 |[],_::_,e=>by simp at e
 |_::_,[],e=>by simp at e
 |x::a,y::b,e=>by
  rw[bL,bL]at e;injection e with e1 e2
  injection e1 with e1
  rw[GW e2,oO e1]
theorem aaf(e:mh a=mh b):a=b:=by
 injection e with e
 injection e with e1 e2
 injection e1 with e1
 injection e2 with e2
 injection e2 with e2
 exact JG (Int.ofNat.inj e1) (GW e2)
theorem IZ:∀l:List Nat,Hn.NK.dep.oG (l.map λn=>Hn.NK.int (n:Nat))=0
 |[]=>rfl
 |x::l=>by show max 0 (Hn.NK.dep.oG (l.map _))=0;rw[IZ l];rfl
theorem JU:∀l:List Nat,fG H (l.map λn=>Hn.NK.int (n:Nat)) (aq l)
 |[]=>by simp[fG]
 |x::l=>by exact⟨_,_,Y,by simp[NV],JU l⟩
theorem aae(W:H b=O (.tup [.int (k.1:Nat),.ref r]))(Z:H r=O (.tup (aq k.2))):kO H (mh k) b:=by
 refine⟨?_,?_⟩
 .show max 0 (max (Hn.NK.dep.oG (k.2.map _)+1) 0)+1<=8;rw[IZ];decide
 .unfold mh NV;refine⟨b,_,Y,W,?_⟩;refine⟨_,_,Y,by simp[NV],?_⟩;refine⟨_,_,Y,?_,by simp[fG]⟩;exact⟨r,_,Y,Z,JU k.2⟩
def jA(l:List (fK×Nat)):List (Hn.NK×V):=l.map λp=>(mh p.1,V.int (p.2:Nat))
theorem DA(k:fK):∀l:List (fK×Nat),bU (jA l) (mh k)=(jt l k).map λn=>V.int (n:Nat)
 |[]=>rfl
 |p::l=>by
  show bU ((mh p.1,V.int (p.2:Nat))::jA l) (mh k)=_;by_cases e:p.1=k
  .rw[kP (by show mh p.1=mh k;rw[e])];unfold jt;rw[J3 (by simpa using e)];rfl
  .rw[kQ (by intro z;exact e (aaf z)),DA k l];unfold jt;rw[J4 (by simpa using e)]
structure wj(H:Hp)(re rk cF rll sd:aa)(S:M5):Prop where
 ends : H re = O (.lst (aq S.ends))
 b_:H rk=O (.lst (aq S.b_))
 dc:∃bs,fT H cF bs S.dc
 eE:∃bs,fT H rll bs S.eE
 seen:H sd=O (.dT (jA S.seen))
theorem i_(h:i<J l):l[i]?=O (aV l i):=by unfold aV;rw[fQ,aX h];rfl
theorem DB(l:List Nat)(i x:Nat):(aq l).set i (V.int (x:Nat))=aq (l.set i x):=by show _=fC _ _;rw[aeZ]
theorem xZ(h:i<n):oF n (i:Int)=O i:=by unfold oF;rw[aD byA,aD byA];simp
theorem aaq(h:l.getLast? = O x):j6 (aq l) (-1)=O (V.int (x:Nat)):=by
 have e:l=l.dropLast++[x]:=by
  cases l with
  |nil=>simp at h
  |cons a r=>
   have Z:a::r≠[]:=by simp
   rw[List.getLast?_eq_some_getLast Z]at h;have:=bH h;rw[<-this];exact(afc Z).symm
 rw[e];show j6 ((l.dropLast++[x]).map _) (-1)=_;rw[dw];exact S_ _ _
theorem LK(l:List Nat)(f:Nat->Nat)(g:V->V)(h:∀n∈l,g (V.int (n:Nat))=V.int (f n:Nat)):((aq l).filter λ_=>true).map g=aq (l.map f):=by rw[yT.mpr (λ_ _=>rfl)];show((l.map _).map g)=(l.map f).map _;rw[iZ,iZ];exact kj λn Z=>h n Z
def zU(l:List Nat)(v:V):V:=match v with
 |.int i=>V.int (aV l i.toNat:Nat)
 |_=>.az
theorem gn(h:Q (σ.set i (O v)) H):t_ i v σ H Q:=h
theorem Aa(h:te σ H λx H1=>g x σ H1 λZ H2=>tb D Z H2):qW (wW te g) tb D σ H:=h
theorem yf{te:TE}{σ:L2.St}{H H':Hp}{v:V}{G:VK}(Y:∀Q:VK,Q v H'->te σ H Q)(Z:G v H'):te σ H G:=Y G Z
inductive Xy(C:aa)(vs:List V)(H:Hp)(Q:VK)(E_:XK):Prop
 |mk(S0:aW)(p dx ki rl rr ra rp rn re rk cF rll e1 e2 sd:aa)(t:List aO)(_:vs=[.ref p,.ref sd])(_:H p=O (.ins C dx (L7 (J t) ki rl rr ra rp rn re rk cF rll)))(_:j8 1 t=true)(_:J t<=256)(_:jb H (ah t) rr ra rp)(_:H rl=O (.lst (aq (t.map (·.label)))))(_:H re=O (.lst (aq (cu (J t) 0))))(_:H rk=O (.lst (aq (cu (J t) 0))))(_:H cF=O (.lst ((cu (J t) e1).map V.ref)))(_:H rll=O (.lst ((cu (J t) e2).map V.ref)))(_:H e1=O (.tup []))(_:H e2=O (.tup []))(_:H sd=O (.dT (jA aW.seen)))(_:J S0.seen<=16000000)(_:[re,rk,cF,rll].Nodup)(_:rl∉[re,rk,cF,rll])(_:(∀as,pT H rr as (lay (ah t)).rows->rr∉[re,rk,cF,rll]/\∀a∈as,a∉[re,rk,cF,rll]))(_:∀H':Hp,H' re=O (.lst (aq (marks t).ends))->H' rk=O (.lst (aq (marks t).b_))->(∃bs,fT H' cF bs (marks t).dc)->(∃bs,fT H' rll bs (marks t).eE)->H' sd=O (.dT (jA (seenOf t)))->bg [re,rk,cF,rll,sd] H H'->Q .az H')
section
theorem Qa(Z:HY):Ok 1 3 ["self","seen"] (Xy zT):=by
 refine Z.F3.Go ["self","seen","node","row","child"] λcdv A outer s H vs Q E hr nd h=>?_
 .obtain⟨S0,p,dx,ki,rl,rr,ra,rp,rn,re,rk,cF,rll,e1,e2,sd,t,rfl,I,hw,gt,hL,hl,h7,h6,hB,hA,gp,gm,iC,gu,h',h4,has,k⟩:=h;have hu:=jF hr;refine⟨_,(aJ (iV iG Y (YW byC Z.B.range (af (dh rD (aC (pv 0)) aK) (af (kD kB aK) (af (kD kB aK) ay)))) (dB 2 nd) (aA (bN 3 nd (aN bI (aC (pv 0)) (pv 2)))
   (aA (Ay (l6 (YK (pv 3) byF) (aN bI (aC (pv 0)) (aN bI (pv 3) (kD kB aK))) (dh jo (pv 2) aK)) (Az (aC (pv 0)) (pv 2) set_list))
   (aA (Ay (xC SO byC Z.B.tuple aeA (af (mV Y nd (jm (pv 3)) (k9 (by show j5 ["self","seen","node","row","child"] (h_ Al) _ [("child",4)]=true;decide +kernel)) (λ_ _ _ _ _=>(dB 4 nd)) (λ_ _ _ _ _=>o8) (λ_ _ _ _ _=>(aN (vP zK) (rB zK (pv 0) Y) (pv 4)))) ay)) (Az (aC (pv 0)) (pv 2) set_list))
   (aA (Ay (xC SO byC Z.B.tuple aeA (af (mV Y nd (jm (pv 3)) (k9 (by show j5 ["self","seen","node","row","child"] (h_ Al) _ [("child",4)]=true;decide +kernel)) (λ_ _ _ _ _=>(dB 4 nd)) (λ_ _ _ _ _=>o8) (λ_ _ _ _ _=>(aN (vP zK) (rB zK (pv 0) Y) (pv 4)))) ay)) (Az (aC (pv 0)) (pv 2) set_list))
   (aJ (Ay (AA hu (pv 1) (jD (af (aN bI (aC (pv 0)) (pv 2)) (af (aN bI (aC (pv 0)) (pv 2)) ay))) (fy adS byC Z.B.len PySem.boot_len (af (pv 1) ay)) ⟨Y,Y,Y,Y⟩) (Az (aC (pv 0)) (pv 2) set_list))))))))),?_⟩
  dsimp only[xk];obtain⟨as,hR⟩:=hL.rows;obtain⟨h2,hV⟩:=has as hR;have hK:∀{b:aa}{l:List V},H b=O (.lst l)->b∉[re,rk,cF,rll]->b∉[re,rk,cF,rll,sd]:=λe n z=>by
   have hb:=bZ e iC (by intro z;cases z);simp only[bE,fH,fM]at z n;rcases z with z|z|z|z|z
   .exact n (.inl z)
   .exact n (.inr (.inl z))
   .exact n (.inr (.inr (.inl z)))
   .exact n (.inr (.inr (.inr z)))
   .exact hb z
  have gk:=hK hR.lst h2;have h5:=hK hl h4;have ht:∀a∈as,a∉[re,rk,cF,rll,sd]:=λa ha=>by obtain⟨i,hi⟩:=jM ha;exact hK (hR.at_ i a hi) (hV a ha)
  have wc:=jO hw;have Lk:=mY wc;have N:p∉[re,rk,cF,rll,sd]:=by
   intro z;simp only[bE,fH,fM]at z;rcases z with z|z|z|z|z
   .rw[z,h7]at I;cases I
   .rw[z,h6]at I;cases I
   .rw[z,hB]at I;cases I
   .rw[z,hA]at I;cases I
   .rw[z,iC]at I;cases I
  simp only[jL,bE,fH,fM,fS,p9,B6,xK]at h';obtain⟨⟨n1,n2,n3⟩,⟨n4,n5⟩,n6⟩:=h';have h1:bg [re,rk,cF,rll,sd] H H:=bg.refl;have M0:wj H re rk cF rll sd (l9 (J t)):=by
   refine⟨h7,h6,⟨cu (J t) e1,hB,by simp[l9],λi b e=>?_⟩,⟨cu (J t) e2,hA,by simp[l9],λi b e=>?_⟩,iC⟩
   .have hb:=(aeX.mp (dm e)).2;subst hb;have:rowAt (l9 (J t)).dc i=[]:=by unfold rowAt l9;simp only[fQ,yR];split<;>rfl
    rw[this];exact gp
   .have hb:=(aeX.mp (dm e)).2;subst hb;have:rowAt (l9 (J t)).eE i=[]:=by unfold rowAt l9;simp only[fQ,yR];split<;>rfl
    rw[this];exact gm
  refine⟨_,Y,h1 _ _ I N,Z.tT,Y,_,_,Y,Y,_,Y,_,Y,_,_,_,_,Y,Cd.neg byA byA byA byA,?_⟩;have hy:((J t:Int)-1 - -1).toNat=J t:=by lia
  rw[hy];refine ab0 (λm σ H'=>∃v1 v2:Option V,σ=[O (.ref p),O (.ref sd),v1,v2,U]/\bg [re,rk,cF,rll,sd] H H'/\wj H' re rk cF rll sd (oB (t.map (·.label)) (lay (ah t)).rows (J t) m))
   ⟨U,U,rfl,h1,M0⟩ ?_ ?_
  .rintro m σ H' hm ⟨v1,v2,rfl,kp,M⟩;obtain⟨u,gi⟩:∃u,u=J t-1-m:=⟨_,Y⟩;have P:u<J t:=by lia
   have hY:(J t:Int)-1+(m:Nat)*-1=(u:Nat):=by lia
   rw[hY];have MI:=FJ hw (m:=m) byA;generalize hS:oB (t.map (·.label)) (lay (ah t)).rows (J t) m=S at M MI;have hk:u<J (ah t):=by simpa using P
   obtain⟨au,o⟩:∃a,as[u]?=O a:=⟨_,aX (by rw[hR.len,Lk.lr];lia)⟩;have hh:=kp _ _ (hR.at_ u au o) (ht au (dm o));have hO:=kp _ _ I N;have h3:=kp _ _ hR.lst gk;have hE:=Lk.row u byA;have hx:∀c∈rowAt (lay (ah t)).rows u,c<J t:=λc hc=>by rw[hE]at hc;obtain⟨j,hj,rfl⟩:=kM.mp hc;have:=jW wc byA (iB.mp hj);simpa using this
   have w:J (rowAt (lay (ah t)).rows u)<1000:=by
    rw[hE,aM,ko];rcases cY (b7 (ah t) u) 1000 with z|z
    .exact z
    .exfalso;have hP:∀j,j<=999->j<=aI (ah t) u j:=by
      intro j
      induction j with
      |zero=>intro _;lia
      |succ j ih=>intro hj;have gv:=ih byA;have gq:=jW wc (u:=u) (j:=j) byA byA;rw[k7 byA];have:=rC (k:=1) gq byA;lia
     have:=hP 999 byA;have:=jW wc (u:=u) (j:=999) byA byA;simp at this;lia
   generalize hM:rowAt (lay (ah t)).rows u=row at hh hx w;have hz:∀l:List V,J l<1000->J l<sizeLine:=λl h=>by rw[c8];lia
   have hZ:=MI.le;have hF:=MI.ll;have hG:=MI.lk;have h0:J S.eE=J t:=MI.lb;refine⟨_,Y,hO,Z.tT,Y,_,Y,aj.of h3,kI o,?_⟩;obtain⟨ev,he⟩:∃ev,ev=(match row.getLast? with|some c=>aV S.ends c|none=>u+1):=⟨_,Y⟩;refine gn ?_;dsimp only;refine Aa ?_;refine yf (te:=Mm _ _ _) (v:=V.int (ev:Nat)) (H':=H') ?_ ?_
   .intro Q' hQ;refine⟨_,Y,_,.inl ⟨_,aj.of hh,Y⟩,?_⟩;cases R:row.getLast? with
    |none=>have h9:row=[]:=List.getLast?_eq_none_iff.mp R;rw[R]at he;subst h9 he;refine cJ ?_;exact⟨_,Y,_,_,Y,Y,hQ⟩
    |some c=>
     rw[R]at he;simp only at he;subst he;have hc:c∈row:=List.mem_of_getLast? R;have gl:(!(aq row).isEmpty)=true:=by
      cases row with
      |nil=>simp at R
      |cons a r=>rfl
     rw[gl];refine bR ?_;exact⟨_,Y,hO,Z.tT,Y,_,Y,_,Y,aj.of hh,aaq R,aj.of M.ends,cU (i_ (by rw[hZ];exact hx c hc)),hQ⟩
   refine⟨_,Y,hO,Z.tT,Y,_,Y,re,_,_,u,Y,Y,M.ends,xZ (by rw[aM,hZ];exact P),?_⟩;rw[DB];have d:bg [re,rk,cF,rll,sd] H (upd H' re (.lst (aq (S.ends.set u ev)))):=kp.upd byB;have M2:wj (upd H' re (.lst (aq (S.ends.set u ev)))) re rk cF rll sd ⟨S.ends.set u ev,S.b_,S.dc,S.eE,S.seen⟩:=by obtain⟨T,T1⟩:=M.dc;obtain⟨L,T2⟩:=M.eE;exact⟨aB,aE (λz=>n1 z.symm) M.b_,⟨T,T1.uO n2 M.ends⟩,⟨L,T2.uO n3 M.ends⟩,aE (bZ M.seen M.ends (by intro z;cases z)) M.seen⟩
   generalize upd H' re (.lst (aq (S.ends.set u ev)))=H2 at d M2;have y:H2 au=O (.lst (aq row)):=by rw[<-hM];exact d _ _ (hR.at_ u au o) (ht au (dm o))
   have gb:=d _ _ hl h5;refine⟨_,Y,au,Y,⟨_,aj.of y⟩,λD hD=>?_⟩;refine pF (K:=zK) (a:=au) (xs:=aq row) (λ_=>true) (zU (t.map (·.label))) hD (aj.of y) (hz _ (by rw[aM];exact w)) ?_ ?_
   .rintro i x hi H3 Nx Nn s3 m1 m2;rw[bM]at hi;obtain⟨c,hc,rfl⟩:=eZ.mp hi;have hU:=hx c (dm hc);exact⟨Y,_,Y,s3 _ _ (d _ _ I N),Z.tT,Y,_,Y,aj.of (s3 _ _ gb),cU (i_ (by rw[aM];exact hU)),m1 Y H3 (aG.refl H3)⟩
   .intro H3 s3 hX;rw[LK row (aV (t.map (·.label))) _ (λn _=>rfl)]at hX;refine⟨D,_,Y,.inl ⟨aj.of hX,λq hq=>?_⟩⟩;have s4:aG H2 (upd H3 q (.tup (aq (row.map (aV (t.map (·.label))))))):=s3.trans (aT hq);have q4:upd H3 q (.tup (aq (row.map (aV (t.map (·.label)))))) q=O (.tup (aq (row.map (aV (t.map (·.label)))))):=aB;generalize upd H3 q (.tup (aq (row.map (aV (t.map (·.label))))))=H4 at s4 q4;obtain⟨L,T2⟩:=M2.eE;have T4:=T2.same s4;have hJ:=d.same s4;refine⟨_,Y,hJ _ _ I N,Z.tT,Y,_,Y,rll,_,_,u,Y,Y,T4.lst,xZ (by rw[aM,T4.len];show u<J S.eE;rw[h0];exact P),?_⟩;have T5:=T4.set (i:=u) (by show u<J S.eE;rw[h0];exact P) q4;have hg:bg [re,rk,cF,rll,sd] H (upd H4 rll (.lst ((L.map V.ref).set u (.ref q)))):=hJ.upd byB;have M5:wj (upd H4 rll (.lst ((L.map V.ref).set u (.ref q)))) re rk cF rll sd ⟨S.ends.set u ev,S.b_,S.dc,S.eE.set u (row.map (aV (t.map (·.label)))),S.seen⟩:=by obtain⟨T,T1⟩:=M2.dc;exact⟨aE n3 (s4 _ _ M2.ends),aE n5 (s4 _ _ M2.b_),⟨T,(T1.same s4).uO (λz=>n6 z.symm) T4.lst⟩,⟨_,T5⟩,aE (bZ (s4 _ _ M2.seen) T4.lst (by intro z;cases z)) (s4 _ _ M2.seen)⟩
    generalize upd H4 rll (.lst ((L.map V.ref).set u (.ref q)))=H5 at hg M5;clear T5 T4 T2 q4 s4 hJ hX s3 hq hD y gb d M2;have C:H5 au=O (.lst (aq row)):=by rw[<-hM];exact hg _ _ (hR.at_ u au o) (ht au (dm o))
    refine⟨_,Y,au,Y,⟨_,aj.of C⟩,λD2 gd=>?_⟩;refine pF (K:=zK) (a:=au) (xs:=aq row) (λ_=>true) (zU S.b_) gd (aj.of C) (hz _ (by rw[aM];exact w)) ?_ ?_
    .rintro i x hi H6 Nx Nn s6 m1 m2;rw[bM]at hi;obtain⟨c,hc,rfl⟩:=eZ.mp hi;have hU:=hx c (dm hc);exact⟨Y,_,Y,s6 _ _ (hg _ _ I N),Z.tT,Y,_,Y,aj.of (s6 _ _ M5.b_),cU (i_ (by show c<J S.b_;rw[hF];exact hU)),m1 Y H6 (aG.refl H6)⟩
    .intro H6 s6 hW;rw[LK row (aV S.b_) _ (λn _=>rfl)]at hW;refine⟨D2,_,Y,.inl ⟨aj.of hW,λG h8=>?_⟩⟩;have s7:aG H5 (upd H6 G (.tup (aq (row.map (aV S.b_))))):=s6.trans (aT h8);have q7:upd H6 G (.tup (aq (row.map (aV S.b_)))) G=O (.tup (aq (row.map (aV S.b_)))):=aB;generalize upd H6 G (.tup (aq (row.map (aV S.b_))))=H7 at s7 q7;obtain⟨T,T1⟩:=M5.dc;have T7:=T1.same s7;have hI:=hg.same s7;refine⟨_,Y,hI _ _ I N,Z.tT,Y,_,Y,cF,_,_,u,Y,Y,T7.lst,xZ (by rw[aM,T7.len];show u<J S.dc;rw[hG];exact P),?_⟩;have T8:=T7.set (i:=u) (by show u<J S.dc;rw[hG];exact P) q7;have hf:bg [re,rk,cF,rll,sd] H (upd H7 cF (.lst ((T.map V.ref).set u (.ref G)))):=hI.upd byB;have q8:upd H7 cF (.lst ((T.map V.ref).set u (.ref G))) G=O (.tup (aq (row.map (aV S.b_)))):=aE (bZ q7 T7.lst (by intro z;cases z)) q7;have f:wj (upd H7 cF (.lst ((T.map V.ref).set u (.ref G)))) re rk cF rll sd ⟨S.ends.set u ev,S.b_,S.dc.set u (row.map (aV S.b_)),S.eE.set u (row.map (aV (t.map (·.label)))),S.seen⟩:=by obtain⟨gg,gs⟩:=M5.eE;exact⟨aE n2 (s7 _ _ M5.ends),aE n4 (s7 _ _ M5.b_),⟨_,T8⟩,⟨gg,(gs.same s7).uO n6 T7.lst⟩,aE (bZ (s7 _ _ M5.seen) T7.lst (by intro z;cases z)) (s7 _ _ M5.seen)⟩
     have l8:upd H7 cF (.lst ((T.map V.ref).set u (.ref G))) cF=O (.lst ((T.set u G).map V.ref)):=T8.lst;have gh:(T.set u G)[u]?=O G:=Cy (by rw[T7.len];show u<J S.dc;rw[hG];exact P);generalize upd H7 cF (.lst ((T.map V.ref).set u (.ref G)))=H8 at hf f q8 l8;clear T8 T7 T1 q7 s7 hI hW s6 h8 gd C hg M5;have gj:J S.seen<=16000000+m:=by rw[<-hS];obtain⟨x,ex,lx⟩:=FI (t.map (·.label)) (lay (ah t)).rows (J t) m;rw[ex,fO];lia
     refine⟨_,Y,sd,Y,.inr ⟨_,.inl f.seen⟩,_,Y,hf _ _ I N,Z.tT,Y,_,Y,aj.of (hf _ _ hl h5),cU (i_ (l:=t.map (·.label)) (by rw[aM];exact P)),
      _,Y,hf _ _ I N,Z.tT,Y,_,Y,aj.of l8,kI gh,(by show 2<=bf;decide),λb hb=>?_⟩
     have F:aG H8 (upd H8 b (.tup [V.int (aV (t.map (·.label)) u:Nat),V.ref G])):=aT hb;have b9:upd H8 b (.tup [V.int (aV (t.map (·.label)) u:Nat),V.ref G]) b=O (.tup [V.int (aV (t.map (·.label)) u:Nat),V.ref G]):=aB;generalize upd H8 b (.tup [V.int (aV (t.map (·.label)) u:Nat),V.ref G])=H9 at F b9;have hH:=hf.same F;obtain⟨W,hs⟩:∃W:fK,W=(aV (t.map (·.label)) u,row.map (aV S.b_)):=⟨_,Y⟩;have hN:kO H9 (mh W) b:=by
      refine aae (r:=G) ?_ ?_
      .rw[hs];exact b9
      .rw[hs];exact F _ _ q8
     have eT:oB (t.map (·.label)) (lay (ah t)).rows (J t) (m+1)=⟨S.ends.set u ev,S.b_.set u (qp S.seen W),S.dc.set u (row.map (aV S.b_)),S.eE.set u (row.map (aV (t.map (·.label)))),lG S.seen W⟩:=by show nN _ _ (oB _ _ _ m) (J t-1-m)=_;rw[hS,<-gi];unfold nN;rw[hM];subst hs he;rfl
     have gf:∀(Hf:Hp)(n:Nat)(l:List (fK×Nat)),bg [re,rk,cF,rll,sd] H Hf->Hf re=H9 re->Hf rk=H9 rk->(∃bs,fT Hf cF bs (S.dc.set u (row.map (aV S.b_))))->(∃bs,fT Hf rll bs (S.eE.set u (row.map (aV (t.map (·.label))))))->Hf sd=O (.dT (jA l))->n=qp S.seen W->l=lG S.seen W ->
      bg [re,rk,cF,rll,sd] H (upd Hf rk (.lst (aq (S.b_.set u n))))/\wj (upd Hf rk (.lst (aq (S.b_.set u n)))) re rk cF rll sd (oB (t.map (·.label)) (lay (ah t)).rows (J t) (m+1)):=by
      intro Hf n l k1 k2 k3 ⟨T,T1⟩ ⟨L,T2⟩ k6 en el;have hT:Hf rk=O (.lst (aq S.b_)):=k3.trans (F _ _ f.b_);refine⟨k1.upd byB,?_⟩;rw[eT,<-en,<-el];exact⟨aE n1 (k2.trans (F _ _ f.ends)),aB,⟨T,T1.uO n4 hT⟩,⟨L,T2.uO n5 hT⟩,aE (bZ k6 hT (by intro z;cases z)) k6⟩
     obtain⟨T,T1⟩:=f.dc;obtain⟨L,T2⟩:=f.eE;refine⟨_,Y,sd,_,Y,F _ _ f.seen,.inr ⟨_,mh W,b,F _ _ f.seen,Y,hN,(by show(S.seen.map _).length<_;rw[aM,c8];lia),λv hv=>?_,λhn=>?_⟩⟩
     .rw[DA]at hv;obtain⟨n,hn,rfl⟩:=eZ.mp hv;have en:n=qp S.seen W:=by unfold qp;rw[hn]
      have el:S.seen=lG S.seen W:=by unfold lG;rw[hn]
      obtain⟨f1,f2⟩:=gf H9 n S.seen hH Y Y ⟨T,T1.same F⟩ ⟨L,T2.same F⟩ (F _ _ f.seen) en el;refine⟨_,Y,hH _ _ I N,Z.tT,Y,_,Y,rk,_,_,u,Y,Y,F _ _ f.b_,xZ (by rw[aM];show u<J S.b_;rw[hF];exact P),?_⟩;rw[DB];exact⟨_,_,Y,f1,f2⟩
     .rw[DA]at hn;have ga:jt S.seen W=U:=by
       cases e:jt S.seen W with
       |none=>rfl
       |some x=>rw[e]at hn;cases hn
      have en:J S.seen=qp S.seen W:=by unfold qp;rw[ga]
      have el:S.seen++[(W,J S.seen)]=lG S.seen W:=by unfold lG;rw[ga]
      have ho:J (jA S.seen)=J S.seen:=by show(S.seen.map _).length=_;rw[aM]
      have gr:jA S.seen++[(mh W,V.int (J (jA S.seen):Nat))]=jA (S.seen++[(W,J S.seen)]):=by rw[ho];show _=fC _ _;rw[dw];rfl
      show RI _ _ _ (V.int (J (jA S.seen):Nat)) _ (upd H9 sd (.dT (jA S.seen++[(mh W,V.int (J (jA S.seen):Nat))]))) _;rw[gr,ho];have g:=F _ _ f.seen;have hC:bg [re,rk,cF,rll,sd] H (upd H9 sd (.dT (jA (S.seen++[(W,J S.seen)])))):=hH.upd byB;have gc:upd H9 sd (.dT (jA (S.seen++[(W,J S.seen)]))) rk=H9 rk:=bO (bZ (F _ _ f.b_) g (by intro z;cases z));obtain⟨f1,f2⟩:=gf (upd H9 sd (.dT (jA (S.seen++[(W,J S.seen)])))) (J S.seen) _ hC (bO (bZ (F _ _ f.ends) g (by intro z;cases z))) gc ⟨T,(T1.same F).LQ g⟩ ⟨L,(T2.same F).LQ g⟩ aB en el;refine⟨_,Y,hC _ _ I N,Z.tT,Y,_,Y,rk,_,_,u,Y,Y,gc.trans (F _ _ f.b_),xZ (by rw[aM];show u<J S.b_;rw[hF];exact P),?_⟩;rw[DB];exact⟨_,_,Y,f1,f2⟩
  .rintro σ H' ⟨v1,v2,rfl,kp,M⟩;exact k H' M.ends M.b_ M.dc M.eE M.seen kp
end
def kZ(ns:List Int):List Node:=(mK (nats (aH 1 ns)) (nats (aH 2 ns))).map λp=>⟨p.1,p.2⟩
theorem DC(h:∀n∈l,0<=n):bF l=aq (nats l):=by show l.map V.int=(l.map Ut).map _;rw[iZ];refine kj λn Z=>?_;have:=h n Z;congr 1;lia
section
variable(h:iX ns=true)
include h
theorem one_mod:J ns%3=0:=by unfold iX at h;simp only[eO,m9]at h;exact h.1
theorem Qw:J (kZ ns)=J ns/3:=by unfold kZ nats;rw[aM,Cv,aM,aM,kC (one_mod h) byA,kC (one_mod h) byA];lia
theorem EZ:ah (kZ ns)=nats (aH 2 ns):=by show fC _ (fC _ _)=_;rw[iZ];have:((λx:aO=>x.kids) ∘ λp:Nat×Nat=>(⟨p.1,p.2⟩:aO))=Prod.snd:=rfl;rw[this,List.map_snd_zip];unfold nats;rw[aM,aM,kC (one_mod h) byA,kC (one_mod h) byA];exact aU _
theorem Zu:(kZ ns).map (·.label)=nats (aH 1 ns):=by unfold kZ;rw[iZ];have:((λx:aO=>x.label) ∘ λp:Nat×Nat=>(⟨p.1,p.2⟩:aO))=Prod.fst:=rfl;rw[this,List.map_fst_zip];unfold nats;rw[aM,aM,kC (one_mod h) byA,kC (one_mod h) byA];exact aU _
theorem Zt:j8 1 (kZ ns)=true:=by rw[mQ];show dz 1 (ah (kZ ns))=true;rw[EZ h];unfold iX at h;simp only[eO,m9]at h;exact h.2
end
def c_(t:List aO):List Nat:=t.flatMap λn=>[0,n.label,n.kids]
theorem lH(t:List aO):J (c_ t)=3*J t:=by
 induction t with
 |nil=>rfl
 |cons n t Z=>show((0::n.label::n.kids::c_ t)).length=_;simp[Z];lia
theorem OM:∀(i k:Nat)(h:i<J t),k<3->(c_ t)[k+3*i]?=O ([0,t[i].label,t[i].kids].getD k 0):=by
 induction t with
 |nil=>intro i k h;simp at h
 |cons n t Z=>
  intro i k h Y;cases i with
  |zero=>rcases(show k=0\/k=1\/k=2 by lia) with z|z|z<;>subst z<;>rfl
  |succ i=>
   have e:k+3*(i+1)=(k+3*i)+3:=by lia
   rw[e];show(c_ t)[k+3*i]?=_;rw[Z i k (by simpa using h) Y];rfl
theorem L8(t:List aO)(W:k<3):aH k (c_ t)=t.map λn=>[0,n.label,n.kids].getD k 0:=by
 unfold aH;rw[lH];have e:(3*J t-k+2)/3=J t:=by lia
 rw[e];have Z:∀m,m<=J t->((bA m).filterMap λi=>(c_ t)[k+3*i]?)=(t.take m).map λn=>[0,n.label,n.kids].getD k 0:=by
  intro m
  induction m with
  |zero=>intro _;simp
  |succ m Y=>intro U;rw[kL,CK,Y byA,fR,OM m k byA W];simp only[Um];rw[JV,dw,aX byA];rfl
 rw[Z _ (aU _),kK]
theorem VS(U:J ns%3=0)(T:k<3)(hi:i<J ns/3):(aH k ns)[i]?=ns[k+3*i]?:=by
 have Z:∀(l:List Nat)(j:Nat),(∀x∈l,k+3*x<J ns)->(l.filterMap λi=>ns[k+3*i]?)[j]?=(l[j]?).bind λi=>ns[k+3*i]?:=by
  intro l
  induction l with
  |nil=>intro j _;simp
  |cons x l Y=>
   intro j h;have hx:=h x byB;rw[fR,aX hx];cases j with
   |zero=>simp[hx]
   |succ j=>simp only[CC];exact Y j λy W=>h y (by simp[W])
 unfold aH;have e:(J ns-k+2)/3=J ns/3:=by lia
 rw[e,Z _ _ (λx hx=>by have:=iB.mp hx;lia),lz hi];rfl
section
variable(h:iX ns=true)(hn:∀n∈ns,0<=n)(h0:(aH 0 ns).any (λk=>decide (k≠0))=false)
include h hn h0
theorem YB:bF ns=aq (c_ (kZ ns)):=by
 rw[DC hn];have W:=one_mod h;have hl:=Qw h;congr 1;apply J5;intro j;have U:J (nats ns)=J ns:=by unfold nats;simp
 rcases cY j (J ns) with q|q
 .obtain⟨i,k,Z,rfl⟩:∃i k,k<3/\j=k+3*i:=⟨j/3,j%3,byA,byA⟩;have hi:i<J (kZ ns):=by lia
  rw[OM i k hi Z];have Y:∀k,k<3->(aH k ns)[i]?=ns[k+3*i]?:=λk Z=>VS W Z byA;have R:(nats ns)[k+3*i]?=(ns[k+3*i]?).map Int.toNat:=by unfold nats;rw[bM]
  rw[R,<-Y k Z];rcases(show k=0\/k=1\/k=2 by lia) with z|z|z
  .subst z;have S:=kC W (k:=0) byD;rw[aX byA];have T:(aH 0 ns)[i]'(by lia)=0:=by have:=Uq.mp h0 _ (qO (n:=i) byA);simpa using this
   rw[T];rfl
  .subst z;have:=fq (λl=>l[i]?) (Zu h);simp only[nats,bM]at this;rw[<-this,aX hi];rfl
  .subst z;have:=fq (λl=>l[i]?) (EZ h);simp only[nats,bM]at this;rw[<-this,aX hi];rfl
 .rw[fP byA,fP (by rw[lH];lia)]
end
inductive lP[aW](C:aa)(H:Hp)(p:aa)(t:List aO):Prop
 |mk(dx ki rl rr ra rp rn re rk cF rll:_)(_:H p=O (.ins C dx (L7 (J t) ki rl rr ra rp rn re rk cF rll)))(_:jb H (ah t) rr ra rp)(_:H rl=O (.lst (aq (t.map (·.label)))))(_:H rn=O (.lst (aq (c_ t))))(_:H re=O (.lst (aq (marks t).ends)))(_:H rk=O (.lst (aq (marks t).b_)))(_:(∃bs,fT H cF bs (marks t).dc))(_:(∃bs,fT H rll bs (marks t).eE))
inductive W5(K:PySem.W.Frag)(C:aa)(vs:List V)(H:Hp)(Q:VK)(E_:XK):Prop
 |mk(S0:aW)(p a sd dx:aa)(t:List aO)(_:vs=[.ref p,.ref a,.ref sd])(_:H p=O (.ins C dx []))(_:H a=O (.lst (aq (c_ t))))(_:H sd=O (.dT (jA S0.seen)))(_:J S0.seen<=16000000)(_:j8 1 t=true)(_:J t<=256)(_:∀H':Hp,lP C H' p t->H' sd=O (.dT (jA (seenOf t)))->bg [p,sd] H H'->Q .az H')
theorem OD:∀{a b:List aa},a.map V.ref=b.map V.ref->a=b
 |[],[],_=>rfl
 |[],_::_,e=>by simp at e
 |_::_,[],e=>by simp at e
 |x::a,y::b,e=>by
  rw[bL,bL]at e;injection e with e1 e2
  injection e1 with e1
  rw[OD e2,e1]
theorem rep1(k:Nat)(x:α):(cu k [x]).flatten=cu k x:=by
 induction k with
 |zero=>rfl
 |succ k Z=>rw[pZ,CD,Z,pZ];rfl
theorem Nl{K:PySem.W.Frag}{H H':Hp}{a p:aa}{xs:List V}{C dx:aa}{fs:List (ak×V)}(h:aj K H a xs)(Z:H p=O (.ins C dx fs))(kp:∀b o,H b=O o->b≠p->H' b=O o):aj K H' a xs:=by
 rcases h with(h|⟨o,h⟩)|h
 .exact .inl (.inl (kp _ _ h (bZ h Z (by intro z;cases z))))
 .exact .inl (.inr ⟨o,kp _ _ h (bZ h Z (by intro z;cases z))⟩)
 .exact .inr h
section
theorem Px(Z:HY):Ok 2 4 ["self","numbers","seen"] (W5 zK zT):=by
 have GL:=(vo Z (Z.tT.sub byD)).g;have GM:=(Qa Z).g;refine Z.F4.Go ["self","numbers","seen"] λcdv A outer s H vs Q E hr nd h=>?_
 .obtain⟨S0,p,a,sd,dx,t,rfl,hp,ha,iC,h5,hw,hx,k⟩:=h;refine⟨_,(aA (iW (Pf byC Z.A0 Z.cf GL hr (vo Z Z.tR).b .nil bq (af (pv 0) (af (pv 1) ay))))
   (aA (dP (pv 0) (pv 1) Y)
   (aA (dP (pv 0) (dh AD (dQ (af aK ay)) (aC (pv 0))) Y)
   (aA (dP (pv 0) (dh AD (dQ (af aK ay)) (aC (pv 0))) Y)
   (aA (dP (pv 0) (dh AD (dQ (af (jD ay) ay)) (aC (pv 0))) Y)
   (aA (dP (pv 0) (dh AD (dQ (af (jD ay) ay)) (aC (pv 0))) Y)
   (aJ (iW (bX (pv 0) Z.tT.cl Z.m3 GM hr (Qa Z).b .nil bq (af (pv 2) ay)))))))))),?_⟩
  dsimp only[xk];have gd:=lH t;have e2:aH 2 (c_ t)=ah t:=L8 t byD;have e1:aH 1 (c_ t)=t.map (·.label):=L8 t byD;refine⟨_,Y,_,Y,p,a,dx,c_ t,Y,hp,ha,byA,by rw[e2];exact jO hw,byA,λH1 ki rl rr ra rp T gf G hL hn=>?_⟩;rw[e2]at T hL;rw[e1]at G;have h7:J (ah t)=J t:=by simp
  rw[h7]at T;have h6:=T;refine⟨_,Y,_,Y,T,Z.tT,dI 6 Y,?_⟩;obtain⟨H2,hB⟩:∃h,h=upd H1 p (.ins zT dx (aR "numbers" (.ref a) (jf (J t) ki rl rr ra rp))):=⟨_,Y⟩;rw[<-hB];have T:H2 p=O (.ins zT dx (aR "numbers" (.ref a) (jf (J t) ki rl rr ra rp))):=by rw[hB];exact aB
  have hP:∀b o,H1 b=O o->b≠p->H2 b=O o:=λb o e ne=>by rw[hB];exact aE ne e
  refine⟨(by show 1<=bf;decide),λz3 hS=>⟨_,Y,aE (aQ T hS) T,Z.tT,Y,z3,_,_,Y,Y,aB,byA,byA,(by show 1*_<=bf;rw[c8];lia),λS hU=>?_⟩⟩;have gb:(cu (J t:Int).toNat [V.int 0]).flatten=aq (cu (J t) 0):=by rw[lA,rep1];show _=fC _ _;rw[JZ];rfl
  rw[gb];have hI:aG H2 (upd H2 z3 (.lst [V.int 0])):=aT hS;have hE:aG H2 (upd (upd H2 z3 (.lst [V.int 0])) S (.lst (aq (cu (J t) 0)))):=hI.trans (aT hU);have hC:=hI.free hU;have R:S≠p:=λz=>by rw[z,T]at hC;cases hC
  refine⟨_,Y,hE _ _ T,Z.tT,dI 7 Y,?_⟩;obtain⟨H3,he⟩:∃h,h=upd (upd (upd H2 z3 (.lst [V.int 0])) S (.lst (aq (cu (J t) 0)))) p (.ins zT dx (aR "ends" (.ref S) (aR "numbers" (.ref a) (jf (J t) ki rl rr ra rp)))):=⟨_,Y⟩;rw[<-he];have d:H3 p=O (.ins zT dx (aR "ends" (.ref S) (aR "numbers" (.ref a) (jf (J t) ki rl rr ra rp)))):=by rw[he];exact aB
  have hO:∀b o,H2 b=O o->b≠p->H3 b=O o:=λb o e ne=>by rw[he];exact aE ne (hE b o e)
  have f:H3 S=O (.lst (aq (cu (J t) 0))):=by rw[he];exact aE R aB
  refine⟨(by show 1<=bf;decide),λz4 hQ=>⟨_,Y,aE (aQ d hQ) d,Z.tT,Y,z4,_,_,Y,Y,aB,byA,byA,(by show 1*_<=bf;rw[c8];lia),λK hT=>?_⟩⟩;have ga:(cu (J t:Int).toNat [V.int 0]).flatten=aq (cu (J t) 0):=by rw[lA,rep1];show _=fC _ _;rw[JZ];rfl
  rw[ga];have hH:aG H3 (upd H3 z4 (.lst [V.int 0])):=aT hQ;have hD:aG H3 (upd (upd H3 z4 (.lst [V.int 0])) K (.lst (aq (cu (J t) 0)))):=hH.trans (aT hT);have hf:=hH.free hT;have w:K≠p:=λz=>by rw[z,d]at hf;cases hf
  refine⟨_,Y,hD _ _ d,Z.tT,dI 8 Y,?_⟩;obtain⟨H4,hc⟩:∃h,h=upd (upd (upd H3 z4 (.lst [V.int 0])) K (.lst (aq (cu (J t) 0)))) p (.ins zT dx (aR "likes" (.ref K) (aR "ends" (.ref S) (aR "numbers" (.ref a) (jf (J t) ki rl rr ra rp))))):=⟨_,Y⟩;rw[<-hc];have F:H4 p=O (.ins zT dx (aR "likes" (.ref K) (aR "ends" (.ref S) (aR "numbers" (.ref a) (jf (J t) ki rl rr ra rp))))):=by rw[hc];exact aB
  have u:∀b o,H3 b=O o->b≠p->H4 b=O o:=λb o e ne=>by rw[hc];exact aE ne (hD b o e)
  have hk:H4 K=O (.lst (aq (cu (J t) 0))):=by rw[hc];exact aE w aB
  refine⟨cI _,λL hz=>⟨(by show 1<=bf;decide),λz5 hq=>⟨_,Y,aE (aQ (aE (aQ F hz) F) hq) (aE (aQ F hz) F),Z.tT,Y,z5,_,_,Y,Y,aB,byA,byA,(by show 1*_<=bf;rw[c8];lia),λD ht=>?_⟩⟩⟩;have h':(cu (J t:Int).toNat [V.ref L]).flatten=(cu (J t) L).map V.ref:=by rw[lA,rep1];show _=fC _ _;rw[JZ]
  rw[h'];have hG:aG H4 (upd (upd H4 L (.tup [])) z5 (.lst [V.ref L])):=(aT hz).trans (aT hq);have hj:aG H4 (upd (upd (upd H4 L (.tup [])) z5 (.lst [V.ref L])) D (.lst ((cu (J t) L).map V.ref))):=hG.trans (aT ht);have hY:upd (upd (upd H4 L (.tup [])) z5 (.lst [V.ref L])) D (.lst ((cu (J t) L).map V.ref)) L=O (.tup []):=(aT ht) _ _ ((aT hq) _ _ aB);have m:=hG.free ht;have hl:D≠p:=λz=>by rw[z,F]at m;cases m
  refine⟨_,Y,hj _ _ F,Z.tT,dI 9 Y,?_⟩;obtain⟨j,n⟩:∃h,h=upd (upd (upd (upd H4 L (.tup [])) z5 (.lst [V.ref L])) D (.lst ((cu (J t) L).map V.ref))) p (.ins zT dx (aR "row_likes" (.ref D) (aR "likes" (.ref K) (aR "ends" (.ref S) (aR "numbers" (.ref a) (jf (J t) ki rl rr ra rp)))))):=⟨_,Y⟩;rw[<-n];have N:j p=O (.ins zT dx (aR "row_likes" (.ref D) (aR "likes" (.ref K) (aR "ends" (.ref S) (aR "numbers" (.ref a) (jf (J t) ki rl rr ra rp)))))):=by rw[n];exact aB
  have B:∀b o,H4 b=O o->b≠p->j b=O o:=λb o e ne=>by rw[n];exact aE ne (hj b o e)
  have hJ:j D=O (.lst ((cu (J t) L).map V.ref)):=by rw[n];exact aE hl aB
  have hK:j L=O (.tup []):=by rw[n];exact aE (bZ hY (hj _ _ F) (by intro z;cases z)) hY
  refine⟨cI _,λM hy=>⟨(by show 1<=bf;decide),λz6 ho=>⟨_,Y,aE (aQ (aE (aQ N hy) N) ho) (aE (aQ N hy) N),Z.tT,Y,z6,_,_,Y,Y,aB,byA,byA,(by show 1*_<=bf;rw[c8];lia),λx hs=>?_⟩⟩⟩;have h9:(cu (J t:Int).toNat [V.ref M]).flatten=(cu (J t) M).map V.ref:=by rw[lA,rep1];show _=fC _ _;rw[JZ]
  rw[h9];have hF:aG j (upd (upd j M (.tup [])) z6 (.lst [V.ref M])):=(aT hy).trans (aT ho);have hh:aG j (upd (upd (upd j M (.tup [])) z6 (.lst [V.ref M])) x (.lst ((cu (J t) M).map V.ref))):=hF.trans (aT hs);have hX:upd (upd (upd j M (.tup [])) z6 (.lst [V.ref M])) x (.lst ((cu (J t) M).map V.ref)) M=O (.tup []):=(aT hs) _ _ ((aT ho) _ _ aB);have y:=hF.free hs;have hM:x≠p:=λz=>by rw[z,N]at y;cases y
  refine⟨_,Y,hh _ _ N,Z.tT,dI 10 Y,?_⟩;obtain⟨H6,q⟩:∃h,h=upd (upd (upd (upd j M (.tup [])) z6 (.lst [V.ref M])) x (.lst ((cu (J t) M).map V.ref))) p (.ins zT dx (aR "row_labels" (.ref x) (aR "row_likes" (.ref D) (aR "likes" (.ref K) (aR "ends" (.ref S) (aR "numbers" (.ref a) (jf (J t) ki rl rr ra rp))))))):=⟨_,Y⟩;rw[<-q];have hu:H6 p=O (.ins zT dx (aR "row_labels" (.ref x) (aR "row_likes" (.ref D) (aR "likes" (.ref K) (aR "ends" (.ref S) (aR "numbers" (.ref a) (jf (J t) ki rl rr ra rp))))))):=by rw[q];exact aB
  have v:∀b o,j b=O o->b≠p->H6 b=O o:=λb o e ne=>by rw[q];exact aE ne (hh b o e)
  have hZ:H6 x=O (.lst ((cu (J t) M).map V.ref)):=by rw[q];exact aE hM aB
  have h0:H6 M=O (.tup []):=by rw[q];exact aE (bZ hX (hh _ _ N) (by intro z;cases z)) hX
  have h4:∀b o,H2 b=O o->b≠p->H6 b=O o:=λb o e ne=>v b o (B b o (u b o (hO b o e ne) ne) ne) ne;have U:∀b o,H1 b=O o->b≠p->H6 b=O o:=λb o e ne=>h4 b o (hP b o e ne) ne;have I:∀{l:List V}{b:aa},H1 b=O (.lst l)->b≠p:=λe=>bZ e h6 (by intro z;cases z);have hW:∀{b:aa}{o:HO},H1 b=O o->b≠p->b∉[S,K,D,x]:=λ{b o} e ne=>by have g2:=hP b o e ne;have g3:=hO b o g2 ne;have g4:=u b o g3 ne;have g5:=B b o g4 ne;simp only[bE,fH,fM,fS];exact⟨aQ g2 hC,aQ g3 hf,aQ g4 m,aQ g5 y⟩
  have C:∀{b:aa}{l:List V},H1 b=O (.lst l)->b∉[S,K,D,x]:=λe=>hW e (I e);have w3:=v _ _ (B _ _ (u _ _ f R) R) R;have w4:=v _ _ (B _ _ hk w) w;have w5:=v _ _ hJ hl;have h3:=bZ hK N (by intro z;cases z);have t5:=v _ _ hK h3;have hN:=bZ ha hp (by intro z;cases z);have hm:=bZ iC hp (by intro z;cases z);have hV:=hn _ _ ha hN;have hg:=hn _ _ iC hm;have W:∀{b:aa}{l:List V},H1 b=O (.lst l)->b∉[S,K,D,x,sd]:=λ{b l} e z=>by
   have h1:=C e;have h2:=bZ e hg (by intro z;cases z);simp only[bE,fH,fM,fS]at z h1;obtain⟨q1,q2,q3,q4⟩:=h1;rcases z with z|z|z|z|z
   .exact q1 z
   .exact q2 z
   .exact q3 z
   .exact q4 z
   .exact h2 z
  obtain⟨as,c⟩:=hL.rows;have r:pT H6 rr as (lay (ah t)).rows:=⟨U _ _ c.lst (I c.lst),c.len,λi b e=>U _ _ (c.at_ i b e) (I (c.at_ i b e))⟩;have hA:jb H6 (ah t) rr ra rp:=⟨⟨as,r⟩,U _ _ hL.above (I hL.above),U _ _ hL.places (I hL.places)⟩;refine⟨_,Y,hu,Y,_,Y,S0,p,dx,ki,rl,rr,ra,rp,a,S,K,D,x,L,M,sd,t,Y,hu,hw,hx,hA,U _ _ G (I G),w3,w4,w5,hZ,t5,h0,U _ _ hg hm,h5,?_,C G,?_,?_⟩
  .simp only[jL,bE,fH,fM,fS,p9,B6,xK];exact⟨⟨aQ f hf,aQ (u _ _ f R) m,aQ (B _ _ (u _ _ f R) R) y⟩,⟨aQ hk m,aQ (B _ _ hk w) y⟩,aQ hJ y⟩
  .intro gc h8;have e:gc=as:=by
    have:=h8.lst.symm.trans r.lst;injection this with this
    injection this with this
    exact OD this
   subst e;refine⟨C c.lst,λb hb=>?_⟩;obtain⟨i,hi⟩:=jM hb;exact C (c.at_ i b hi)
  .intro H' m1 m2 m3 m4 m5 P;refine k H' ⟨dx,ki,rl,rr,ra,rp,a,S,K,D,x,?_,?_,?_,?_,m1,m2,m3,m4⟩ m5 ?_
   .refine P _ _ hu ?_;simp only[bE,fH,fM,fS];exact⟨λz=>R z.symm,λz=>w z.symm,λz=>hl z.symm,λz=>hM z.symm,λz=>hm z.symm⟩
   .exact⟨⟨as,P _ _ r.lst (W c.lst),r.len,λi b e=>P _ _ (r.at_ i b e) (W (c.at_ i b e))⟩,P _ _ hA.above (W hL.above),P _ _ hA.places (W hL.places)⟩
   .exact P _ _ (U _ _ G (I G)) (W G)
   .exact P _ _ (U _ _ hV hN) (W hV)
   .intro b o e ne;simp only[bE,fH,fM,fS]at ne;have g1:=hn b o e ne.1;have h1:=hW g1 ne.1;refine P _ _ (U b o g1 ne.1) λz=>?_;simp only[bE,fH,fM,fS]at z h1;obtain⟨q1,q2,q3,q4⟩:=h1;rcases z with z|z|z|z|z
    .exact q1 z
    .exact q2 z
    .exact q3 z
    .exact q4 z
    .exact ne.2 z
end
end Hs
end
section
namespace Hs
open PySem PySem.Spec PyProof.Rows L2
open Sh (Node Pat)
theorem Jb{l:List V}{k:Nat}(h:k<=J l):jG l (O (k:Int)) U=l.drop k:=by
 unfold jG;have e1:HT.bV (J l) 0 (O (k:Int))=k:=by unfold HT.bV;simp only;rw[ao byA];lia
 have e2:HT.bV (J l) (J l) U=J l:=rfl;rw[e1,e2,yK (by rw[nj];lia)]
theorem I0{l:List V}{k:Nat}(h:k<=J l):jG l U (O (k:Int))=l.take k:=by
 unfold jG;have e1:HT.bV (J l) (J l) (O (k:Int))=k:=by unfold HT.bV;simp only;rw[ao byA];lia
 have e2:HT.bV (J l) 0 U=0:=rfl;rw[e1,e2];simp
theorem Ja{l:List V}{i j:Nat}(h:i<=J l):jG l (O (i:Int)) (O ((i+j:Nat):Int))=(l.drop i).take j:=by
 unfold jG;have e1:HT.bV (J l) 0 (O (i:Int))=i:=by unfold HT.bV;simp only;rw[ao byA];lia
 have e2:HT.bV (J l) (J l) (O ((i+j:Nat):Int))=min (i+j) (J l):=by unfold HT.bV;simp only;rw[ao byA,lA]
 rw[e1,e2];rcases cY (J l) (i+j) with z|z
 .rw[yK (by rw[nj];lia),yK (by rw[nj];lia)]
 .have:min (i+j) (J l)-i=j:=by lia
  rw[this]
theorem BS:Dc 3 j:=.inl ⟨byD,byD⟩
theorem Aq(a b:List aO):c_ (a++b)=c_ a++c_ b:=yS
theorem EB:∀(t:List aO)(i:Nat),(c_ t).drop (3*i)=c_ (t.drop i)
 |t,0=>rfl
 |[],i+1=>by simp[c_]
 |n::t,i+1=>by
  have e:3*(i+1)=3*i+3:=by lia
  rw[e];show(c_ t).drop (3*i)=_;rw[EB t i];rfl
theorem EA:∀(t:List aO)(i:Nat),(c_ t).take (3*i)=c_ (t.take i)
 |t,0=>by simp[c_]
 |[],i+1=>by simp[c_]
 |n::t,i+1=>by
  have e:3*(i+1)=3*i+3:=by lia
  rw[e];show 0::n.label::n.kids::(c_ t).take (3*i)=_;rw[EA t i];rfl
theorem jb.row(L:jb H cs rr ra rp)(w:dz 1 cs=true)(Z:u<=J cs):∃(as:List aa)(a:aa),H rr=O (.lst (as.map V.ref))/\as[u]?=O a/\H a=O (.lst (aq (rowAt (lay cs).rows u))):=by
 obtain⟨as,R⟩:=L.rows;have hl:u<J as:=by rw[R.len,(mY w).lr];lia
 exact⟨as,as[u],R.lst,aX hl,R.at_ u _ (aX hl)⟩
inductive Xu(C:aa)(vs:List V)(H:Hp)(Q:VK)(E_:XK):Prop
 |mk(S0:aW)(p:aa)(t:List aO)(nd ix:Nat)(_:vs=[.ref p,.int (nd:Nat),.int (ix:Nat)])(_:lP C H p t)(_:j8 1 t=true)(_:nd<=J t)(_:(ix<J (cQ t nd)\/nd<J t))(_:Q (.int (vD t nd ix:Nat)) H)
inductive Xr(C:aa)(vs:List V)(H:Hp)(Q:VK)(E_:XK):Prop
 |mk(S0:aW)(p:aa)(t:List aO)(i k:Nat)(_:vs=[.ref p,.int (i:Nat),.int (k:Nat)])(_:lP C H p t)(_:j8 1 t=true)(_:J t<=256)(_:i<=J t)(_:cW t i k)(_:∀(H':Hp) (D:aa),aG H H'->H' D=O (.lst (aq (c_ (j_ t i k))))->H D=U->Q (.ref D) H')
inductive Xq(C:aa)(vs:List V)(H:Hp)(Q:VK)(E_:XK):Prop
 |mk(S0:aW)(p o:aa)(t:List aO)(i:Nat)(x:List aO)(_:vs=[.ref p,.int (i:Nat),.ref o])(_:lP C H p t)(_:H o=O (.lst (aq (c_ x))))(_:j8 1 t=true)(_:i<J t)(_:J t<=256)(_:J x<=1000000)(_:∀(H':Hp) (D:aa),aG H H'->H' D=O (.lst (aq (c_ (t.take i++x++Tj 1 (t.drop i)))))->H D=U->Q (.ref D) H')
section
theorem P8(Z:HY):Ok 1 5 ["self","node","index"] (Xu zT):=by
 refine Z.F5.Go ["self","node","index","row"] λcdv A outer s H vs Q E F nd h=>?_
 .obtain⟨S0,p,t,n,ix,rfl,⟨dx,ki,rl,rr,ra,rp,rn,re,rk,cF,rll,S,K,hl,P,L,D,M,N⟩,T,O,W,q⟩:=h;refine⟨_,(aA (bN 3 nd (aN bI (aC (pv 0)) (pv 1)))
   (aJ (bh (l6 (bK rE (pv 2) (fy iN byC Z.B.len PySem.boot_len (af (pv 3) ay)) (bB _)) (aN bI (pv 3) (pv 2)) (aN bI (aC (pv 0)) (pv 1)))))),?_⟩
  dsimp only[xk];obtain⟨as,a,G,I,R⟩:=K.row (jO T) (by simpa using O);refine⟨_,Y,S,Z.tT,Y,_,Y,aj.of G,kI I,_,Y,_,Y,.inl (aj.of R),_,_,Y,Y,_,Y,?_⟩;rw[aM];unfold vD at q;by_cases hi:ix<J (cQ t n)
  .rw[aD hi]at q;refine dW (show(ix:Int)<(J (rowAt (lay (ah t)).rows n):Nat) by show(ix:Int)<(J (cQ t n):Nat);lia) ?_;exact⟨_,Y,_,Y,aj.of R,cU (i_ hi),q⟩
  .rw[ao hi]at q;refine dD (show ¬(ix:Int)<(J (rowAt (lay (ah t)).rows n):Nat) by show ¬(ix:Int)<(J (cQ t n):Nat);lia) ?_;have U:n<J t:=by
    rcases W with z|z
    .exact absurd z hi
    .exact z
   exact⟨_,Y,S,Z.tT,Y,_,Y,aj.of L,cU (i_ (by rw[(i9 T).le];exact U)),q⟩
theorem P7(Z:HY):Ok 1 6 ["self","first","times"] (Xr zT):=by
 refine Z.F6.Go ["self","first","times","end","turn"] λcdv A outer s H vs Q E n nd h=>?_
 .obtain⟨S0,p,t,i,k,rfl,⟨dx,ki,rl,rr,ra,rp,rn,re,rk,cF,rll,M,l,hl,S,u,m,y,G⟩,N,K,hi,R,q⟩:=h;refine⟨_,(aA (bN 3 nd (pv 1))
   (aA (iV iG Y (ou byC Z.B.range (af (pv 2) ay)) (dB 4 nd) (aJ (bN 3 nd (aN bI (aC (pv 0)) (pv 3)))))
   (aJ (bh (qu uV (aC (pv 0)) (lZ (dh AE aK (pv 1))) (lZ (dh AE aK (pv 3)))))))),?_⟩
  dsimp only[xk];have C:k<=J t:=by
   rcases wg k with z|z
   .lia
   .obtain⟨P,rfl⟩:∃j,k=j+1:=⟨k-1,byA⟩;have T:∀a,a<=P->a<=pa (ah t) i a/\pa (ah t) i a<J t:=by
     intro a
     induction a with
     |zero=>intro _;exact⟨cI _,pK hi R byA⟩
     |succ a I=>intro ha;obtain⟨g,o⟩:=I byA;have r:=rC (cs:=ah t) (k:=1) (by simpa using o) byA;rw[<-l7 (by simpa using hi)]at r;exact⟨byA,pK hi R byA⟩
    have:=T P (aU _);lia
  refine⟨_,Y,_,Y,_,Y,byA,byA,?_⟩;rw[lA];refine qG (λj σ H'=>∃v:Option V,σ=[O (.ref p),O (.int (i:Nat)),O (.int (k:Nat)),O (.int (pa (ah t) i j:Nat)),v]/\H'=H)
   ⟨U,by rw[nH (by simpa using hi)];rfl,rfl⟩ ?_ ?_
  .rintro j σ H' x ⟨v,rfl,rfl⟩;have W:=pK hi R x;refine⟨_,Y,M,Z.tT,Y,_,Y,aj.of u,cU (i_ (by rw[(i9 N).le];exact W)),O (.int ((0:Int)+(j:Nat))),?_,Y⟩;rw[(i9 N).ends _ (cI _) W,<-l7 (by simpa using hi)];rfl
  .rintro σ H' ⟨v,rfl,rfl⟩;have F:=pq (t:=t) (i:=i) (k:=k);have w:i<=pa (ah t) i k:=pA (by simpa using hi);refine⟨_,Y,M,Z.tT,Y,_,Y,_,_,Y,Y,BS,_,Y,_,Y,_,_,Y,Y,BS,_,Y,rn,_,Y,aj.of S,λD L=>?_⟩;have e:jG (aq (c_ t)) (O (3*(i:Int))) (O (3*((pa (ah t) i k:Nat):Int)))=aq (c_ (j_ t i k)):=by
    have e1:3*(i:Int)=((3*i:Nat):Int):=by lia
    have e2:3*((pa (ah t) i k:Nat):Int)=((3*i+3*(pa (ah t) i k-i):Nat):Int):=by lia
    rw[e1,e2,Ja (by rw[aM,lH];lia),<-oK,<-Cu,EB,EA,q_]
   rw[e];exact q _ D (aT L) aB L
theorem P4(Z:HY):Ok 1 7 ["self","node","others"] (Xq zT):=by
 refine Z.F7.Go ["self","node","others"] λcdv A outer s H vs Q E g nd h=>?_
 .obtain⟨S0,p,o,t,i,x,rfl,⟨dx,ki,rl,rr,ra,rp,rn,re,rk,cF,rll,L,e,hl,P,n,f,r,v⟩,z,F,hi,w,y,q⟩:=h;refine⟨_,(aJ (bh (dh xG (dh xG (qu uV (aC (pv 0)) ve (lZ (dh AE aK (pv 1)))) (pv 2)) (qu uV (aC (pv 0)) (lZ (dh AE aK (aN bI (aC (pv 0)) (pv 1)))) ve)))),?_⟩;dsimp only[xk];have u:=pq (t:=t) (i:=i) (k:=1);refine⟨_,Y,L,Z.tT,Y,_,Y,_,_,Y,Y,BS,_,Y,rn,_,Y,aj.of P,λG J=>?_⟩;have e1:jG (aq (c_ t)) U (O (3*(i:Int)))=aq (c_ (t.take i)):=by
   have e1:3*(i:Int)=((3*i:Nat):Int):=by lia
   rw[e1,I0 (by rw[aM,lH];lia),<-Cu,EA]
  rw[e1];obtain⟨H1,S⟩:∃h,h=upd H G (.lst (aq (c_ (t.take i)))):=⟨_,Y⟩;rw[<-S];have s1:aG H H1:=by rw[S];exact aT J
  have j:H1 G=O (.lst (aq (c_ (t.take i)))):=by rw[S];exact aB
  refine⟨_,Y,G,o,_,_,Y,Y,j,s1 _ _ z,?_,λI K=>?_⟩
  .rw[aM,aM,lH,lH,lu,c8];lia
  obtain⟨H2,T⟩:∃h,h=upd H1 I (.lst (aq (c_ (t.take i))++aq (c_ x))):=⟨_,Y⟩;rw[<-T];have s2:aG H1 H2:=by rw[T];exact aT K
  have D:H2 I=O (.lst (aq (c_ (t.take i))++aq (c_ x))):=by rw[T];exact aB
  have W:=s1.trans s2;refine⟨_,Y,W _ _ L,Z.tT,Y,_,Y,W _ _ L,Z.tT,Y,_,Y,aj.of (W _ _ n),cU (i_ (by rw[(i9 F).le];exact hi)),_,_,Y,Y,BS,_,Y,rn,_,Y,aj.of (W _ _ P),λB R=>?_⟩;have l:jG (aq (c_ t)) (O (3*((aV (marks t).ends i:Nat):Int))) U=aq (c_ (t.drop (pa (ah t) i 1))):=by
   rw[(i9 F).ends i (cI _) hi];have e1:3*((pa (ah t) i 1:Nat):Int)=((3*pa (ah t) i 1:Nat):Int):=by lia
   rw[e1,Jb (by rw[aM,lH];lia),<-oK,EB]
  rw[l];refine⟨I,B,_,_,Y,Y,aE (aQ D R) D,aB,?_,λC N=>?_⟩
  .rw[fO,aM,aM,aM,lH,lH,lH,lu,nj,c8];lia
  have m:(aq (c_ (t.take i))++aq (c_ x))++aq (c_ (t.drop (pa (ah t) i 1)))=aq (c_ (t.take i++x++Tj 1 (t.drop i))):=by rw[BJ byA,Aq,Aq];show _=fC _ _;rw[dw,dw]
  rw[m];have M:aG H (upd (upd H2 B (.lst (aq (c_ (t.drop (pa (ah t) i 1)))))) C (.lst (aq (c_ (t.take i++x++Tj 1 (t.drop i)))))):=(W.trans (aT R)).trans (aT N);exact q _ C M aB ((W.trans (aT R)).free N)
end
end Hs
end
section
namespace Hs
open PySem PySem.Spec PyProof.Rows L2
section
variable{K:PySem.W.Frag}{a b:Addr}{xs ys:List V}{g:TG}{tb:TS}{D:Ends}{σ:L2.St}{H:Hp}{tt:TT}{te:TE}{vs:List Nat}{H1:Hp}{Dl:Addr}{Qd:Hp->Prop}
theorem abZ(G:J xs=J ys)(Z:Nat->L2.St->Hp->Prop)(E:Z 0 σ H)(hl:∀i σ H,i<=J xs->Z i σ H->aj K H a xs/\aj K H b ys)
 (F:∀(i:Nat)(x y:V)(T:aa)(σ:L2.St)(H:Hp),xs[i]?=O x->ys[i]?=O y->H T=U->Z i σ H->g (.ref T) σ (upd H T (.tup [x,y])) λY H2=>tb {D with nx:=Z (i+1),ct:=Z (i+1),bk:=D.nx } Y H2) (hd:∀σ H,Z (J xs) σ H->D.nx σ H) :
 ∃W:Nat->Nat->L2.St->Hp->Prop,(∃m,W 0 m σ H)/\∀i m σ H,W i m σ H ->
  ((sL K a b).stop i H/\D.nx σ H)\/((sL K a b).go i H/\∃N:L2.St->Hp->Prop,(∀σ' H',N σ' H'->∃P,P<m/\W (i+1) P σ' H')/\∀x H',(sL K a b).lV i H x H'->g x σ H' λY H2=>tb {D with nx:=N,ct:=N,bk:=D.nx } Y H2):=by
 refine⟨λi m σ H=>m=J xs-i/\i<=J xs/\Z i σ H,⟨J xs,byB,cI _,E⟩,?_⟩;rintro i m σ H ⟨rfl,hi,p⟩;obtain⟨Q,R⟩:=hl i σ H hi p;by_cases S:i<J xs
 .refine .inr ⟨⟨xs,ys,xs[i],ys[i]'(by lia),Q,R,aX S,aX byA⟩,Z (i+1),λσ' H' I=>⟨J xs-(i+1),byA,rfl,S,I⟩,λv H' z=>?_⟩;obtain⟨T,x,y,e1,e2,C,L,M⟩:=z;subst e1 C;exact F i x y T σ H (L xs Q) (M ys R) e2 p
 .have e:i=J xs:=by lia
  subst e;exact .inl ⟨⟨xs,ys,Q,R,.inl (aU _)⟩,hd σ H p⟩
theorem Hz(Z:Nat->L2.St->Hp->Prop)(I:Z 0 σ H)(hl:∀i σ H,i<=J xs->Z i σ H->aj K H a xs)
 (L:∀(i:Nat)(x:V)(T:aa)(σ:L2.St)(H:Hp),xs[i]?=O x->H T=U->Z i σ H->g (.ref T) σ (upd H T (.tup [.int (i:Nat),x])) λY H2=>tb {D with nx:=Z (i+1),ct:=Z (i+1),bk:=D.nx } Y H2) (hd:∀σ H,Z (J xs) σ H->D.nx σ H) :
 ∃W:Nat->Nat->L2.St->Hp->Prop,(∃m,W 0 m σ H)/\∀i m σ H,W i m σ H ->
  ((yZ K a).stop i H/\D.nx σ H)\/((yZ K a).go i H/\∃N:L2.St->Hp->Prop,(∀σ' H',N σ' H'->∃Q,Q<m/\W (i+1) Q σ' H')/\∀x H',(yZ K a).lV i H x H'->g x σ H' λY H2=>tb {D with nx:=N,ct:=N,bk:=D.nx } Y H2):=by
 refine⟨λi m σ H=>m=J xs-i/\i<=J xs/\Z i σ H,⟨J xs,byB,cI _,I⟩,?_⟩;rintro i m σ H ⟨rfl,hi,p⟩;have R:=hl i σ H hi p;by_cases S:i<J xs
 .refine .inr ⟨⟨xs,xs[i],R,aX S⟩,Z (i+1),λσ' H' M=>⟨J xs-(i+1),byA,rfl,S,M⟩,λv H' z=>?_⟩;obtain⟨T,x,e1,e2,G,P⟩:=z;subst e1 G;exact L i x T σ H (P xs R) e2 p
 .have e:i=J xs:=by lia
  subst e;exact .inl ⟨⟨xs,R,aU _⟩,hd σ H p⟩
theorem aam(G:J xs=J ys)(Y:Nat->Hp->Prop)(E:Y 0 (upd H1 Dl (.lst [])))(hl:∀i H,i<=J xs->Y i H->aj K H a xs/\aj K H b ys)
 (F:∀(i:Nat)(x y:V)(T:aa)(H:Hp),xs[i]?=O x->ys[i]?=O y->H T=U->Y i H->g (.ref T) (wipe σ vs) (upd H T (.tup [x,y])) λZ H2=>wipe Z vs=wipe σ vs/\tt Z H2 λb H3=>
  if b=true then te Z H3 λy H4=>∃acc,H4 Dl=O (.lst acc)/\J acc<bf/\Y (i+1) (upd H4 Dl (.lst (acc++[y]))) else Y (i+1) H3) (hd:∀H,Y (J xs) H->Qd H) :
 ∃W:Nat->Nat->Hp->Prop,(∃m,W 0 m (upd H1 Dl (.lst [])))/\∀i m H,W i m H ->
  ((sL K a b).stop i H/\Qd H)\/((sL K a b).go i H/\∃P:Hp->Prop,(∀H',P H'->∃N,N<m/\W (i+1) N H')/\∀x H',(sL K a b).lV i H x H'->g x (wipe σ vs) H' λZ H2=>wipe Z vs=wipe σ vs/\tt Z H2 λb H3=>
   if b=true then te Z H3 λy H4=>∃acc,H4 Dl=O (.lst acc)/\J acc<bf/\P (upd H4 Dl (.lst (acc++[y]))) else P H3):=by
 refine⟨λi m H=>m=J xs-i/\i<=J xs/\Y i H,⟨J xs,byB,cI _,E⟩,?_⟩;rintro i m H ⟨rfl,hi,p⟩;obtain⟨Q,R⟩:=hl i H hi p;by_cases S:i<J xs
 .refine .inr ⟨⟨xs,ys,xs[i],ys[i]'(by lia),Q,R,aX S,aX byA⟩,Y (i+1),λH' I=>⟨J xs-(i+1),byA,rfl,S,I⟩,λv H' z=>?_⟩;obtain⟨T,x,y,e1,e2,C,L,M⟩:=z;subst e1 C;exact F i x y T H (L xs Q) (M ys R) e2 p
 .have e:i=J xs:=by lia
  subst e;exact .inl ⟨⟨xs,ys,Q,R,.inl (aU _)⟩,hd H p⟩
end
end Hs
end
section
namespace Hs
open PySem PySem.Spec PyProof.Rows L2
open Sh (Node Pat)
def fh(ns:List Int):Bool:=decide (J ns<=96)&&iX ns&&decide ((aH 0 ns)[0]?≠O 2)&&(mK (aH 0 ns) (aH 2 ns)).all λp=>decide (¬(2<p.1\/(p.1≠0/\p.2≠0)))
inductive Xj(K:PySem.W.Frag)(vs:List V)(H:Hp)(Q:VK)(E_:XK):Prop
 |mk(a:aa)(ns:List Int)(_:vs=[.ref a])(_:aj K H a (bF ns))(_:(∀n∈ns,0<=n))(_:∀H':Hp,aG H H'->Q (.bl (fh ns)) H')
theorem VT(h:ns[0]?=O k):(aH 0 ns)[0]?=O k:=by
 cases ns with
 |nil=>simp at h
 |cons x r=>
  have:x=k:=by simpa using h
  subst this;unfold aH;have e:(J (x::r)-0+2)/3=((J (x::r)-0+2)/3-1)+1:=by simp;lia
  rw[e,yL,fR];simp
section
theorem AJ(Z:HY):Ok 2 8 ["numbers"] (Xj zK):=by
 have G1:=(AL Z).g;refine Z.F8.Go ["numbers","kind","below"] λcdv A outer s H vs Q E hr nd h=>?_
 .obtain⟨a,ns,rfl,n,hc,k⟩:=h;obtain⟨t1,g1⟩:=Z.G.ZL;obtain⟨t2,g2⟩:=Z.G.wY;obtain⟨t3,g3⟩:=Z.G.node;refine⟨_,(aA (bT (PW.pt (vc (bK rF (fy iN byC Z.B.len PySem.boot_len (af (pv 0) ay)) (eY (v:=.int 96) byC g1 ⟨_,Y⟩) (bB _)) (u_ (qt (jB (mW G1 hr byC Z.AZ Z.F0.kp (AL Z).b .nil bq (af (pv 0) ay)) byF))))) (aJ (bh jn)) b8)
   (aA (bT (bK eW (aN bI (pv 0) aK) (eY (v:=.int 2) byC g2 ⟨_,Y⟩) (bB _)) (aJ (bh jn)) b8)
   (aA (iV iG Y (Pd byC Z.B.zip (af (o_ 0 (pv 0)) (af (o_ 2 (pv 0)) ay))) (tL Y (l5 (dB 1 nd) (l5 (dB 2 nd) tK))) (aJ (bT (PW.pt (vc (bK rF (pv 1) (eY (v:=.int 2) byC g2 ⟨_,Y⟩) (bB _)) (u_ (PW.pt (xA (bK lI (pv 1) (eY (v:=.int 0) byC g3 ⟨_,Y⟩) (bB _)) (Au (bK lI (pv 2) aK (bB _)))))))) (aJ (bh jn)) b8)))
   (aJ (bh jn))))),?_⟩
  dsimp only[xk];refine⟨_,Y,.inl n,_,_,Y,Y,_,Y,?_⟩;rw[aM];by_cases q1:96<J ns
  .have P:=k H (aG.refl H);have K:fh ns=false:=by unfold fh;rw[bP byA];rfl
   rw[K]at P;exact dW (show(96:Int)<(J ns:Nat) by lia) (bR P)
  .refine dD (show ¬(96:Int)<(J ns:Nat) by lia) ?_;refine⟨_,Y,a,ns,Y,n,hc,λH1 s1=>⟨_,Y,?_⟩⟩;cases C:iX ns with
   |false=>
    have P:=k H1 s1;have K:fh ns=false:=by unfold fh;rw[C];simp
    rw[K]at P;exact bR P
   |true=>
    refine cJ ?_;have L:=one_mod C;have hpos:0<J ns:=by
     cases ha:ns with
     |nil=>rw[ha]at C;simp[iX,aH,nats,dz]at C
     |cons x r=>simp
    obtain⟨z0,w⟩:∃z,ns[0]?=O z:=⟨_,aX hpos⟩;have hh:j6 (bF ns) 0=O (V.int z0):=bQ (by rw[bM,w];rfl);have u:=VT w;refine⟨_,Y,s1.seq n,hh,Y,_,Y,?_⟩;by_cases f:z0=2
    .have P:=k H1 s1;have K:fh ns=false:=by unfold fh;rw[u,f];simp
     rw[K]at P;exact dW (by rw[f]) P
    .refine dD (by intro z;injection z with z;exact f z) ?_;refine⟨_,Y,a,_,Y,s1.seq n,λp hp=>?_⟩;refine⟨_,Y,a,_,Y,(aT hp).seq (s1.seq n),λq hq=>?_⟩;have K:aH 0 (bF ns)=bF (aH 0 ns):=lD _ _ _;have e2:aH 2 (bF ns)=bF (aH 2 ns):=lD _ _ _;rw[K]at hq;rw[K,e2];have l0:=kC L (k:=0) byA;have l2:=kC L (k:=2) byA;have o:upd (upd H1 p (.lst (bF (aH 0 ns)))) q (.lst (bF (aH 2 ns))) p=O (.lst (bF (aH 0 ns))):=(aT hq) _ _ aB;refine⟨p,q,_,_,Y,aj.of o,aj.of aB,?_⟩;have s2:aG H1 (upd (upd H1 p (.lst (bF (aH 0 ns)))) q (.lst (bF (aH 2 ns)))):=(aT hp).trans (aT hq);refine abZ (by rw[aM,aM,l0,l2]) (λi σ H'=>∃D F:Option V,σ=[O (.ref a),D,F]/\aG H1 H'/\H' p=O (.lst (bF (aH 0 ns)))/\H' q=O (.lst (bF (aH 2 ns)))/\((mK (aH 0 ns) (aH 2 ns)).take i).all (λp=>decide (¬(2<p.1\/(p.1≠0/\p.2≠0))))=true)
      ⟨U,U,rfl,s2,o,aB,byB⟩ (λi σ H' _ ⟨_,_,_,_,c,d,_⟩=>⟨aj.of c,aj.of d⟩) ?_ ?_
     .rintro i x y T σ H' hx hy hT ⟨D,F,rfl,j,c,d,W⟩;rw[bM]at hx hy;obtain⟨kx,he,rfl⟩:=eZ.mp hx;obtain⟨S,hf,rfl⟩:=eZ.mp hy;have l:aG H' (upd H' T (.tup [V.int kx,V.int S])):=aT hT;refine⟨T,_,Y,bu.of aB,Y,_,_,Y,_,_,Y,Y,?_⟩;have M:(mK (aH 0 ns) (aH 2 ns))[i]?=O (kx,S):=by rw[ae3];exact⟨he,hf⟩
      have hi:(2<kx\/(kx≠0/\S≠0))->fh ns=false:=λhb=>by
       unfold fh;have:(mK (aH 0 ns) (aH 2 ns)).all (λp=>decide (¬(2<p.1\/(p.1≠0/\p.2≠0))))=false:=by
        cases e:(mK (aH 0 ns) (aH 2 ns)).all (λp=>decide (¬(2<p.1\/(p.1≠0/\p.2≠0)))) with
        |false=>rfl
        |true=>have:=qa.mp e (kx,S) (dm M);exact absurd hb (pB this)
       rw[this,UJ]
      have I:¬(2<kx\/(kx≠0/\S≠0))->((mK (aH 0 ns) (aH 2 ns)).take (i+1)).all (λp=>decide (¬(2<p.1\/(p.1≠0/\p.2≠0))))=true:=λhg=>by rw[kR M,afj,W];simp only[yV,afh,agH,Ld];exact bJ hg
      have N:(2<kx\/(kx≠0/\S≠0))->Q (.bl false) (upd H' T (.tup [V.int kx,V.int S])):=λhb=>by
       have:=k _ ((s1.trans j).trans l)
       rwa [hi hb]at this
      have R:¬(2<kx\/(kx≠0/\S≠0))->∃D F:Option V,[O (V.ref a),O (V.int kx),O (V.int S)]=[O (V.ref a),D,F]/\aG H1 (upd H' T (.tup [V.int kx,V.int S]))/\upd H' T (.tup [V.int kx,V.int S]) p=O (.lst (bF (aH 0 ns)))/\upd H' T (.tup [V.int kx,V.int S]) q=O (.lst (bF (aH 2 ns)))/\((mK (aH 0 ns) (aH 2 ns)).take (i+1)).all (λp=>decide (¬(2<p.1\/(p.1≠0/\p.2≠0))))=true:=
       λhg=>⟨_,_,rfl,j.trans l,l _ _ c,l _ _ d,I hg⟩
      refine⟨_,Y,_,_,Y,Y,_,Y,?_⟩;by_cases m:2<kx
      .exact dW m (bR (N (.inl m)))
      .refine dD m ⟨_,rfl,rfl,_,rfl,?_⟩;by_cases c2:kx=0
       .rw[bJ (by rw[c2])];refine cJ (cJ ?_);exact R (λz=>z.elim m λz=>z.1 c2)
       .rw[bP (by intro z;injection z with z;exact c2 z)];refine bR ⟨_,Y,Y,_,Y,?_⟩;by_cases c3:S=0
        .rw[bJ (by rw[c3])];refine cJ ?_;exact R (λz=>z.elim m λz=>z.2 c3)
        .rw[bP (by intro z;injection z with z;exact c3 z)];exact bR (N (.inr ⟨c2,c3⟩))
     .rintro σ H' ⟨D,F,rfl,j,c,d,W⟩;have P:=k H' (s1.trans j);have e9:fh ns=true:=by unfold fh;rw[aM,l0]at W;rw[yK (by rw[Cv,l0,l2];lia)]at W;rw[W,C,bJ (show J ns<=96 by lia),bJ (show(aH 0 ns)[0]?≠O 2 by rw[u];simpa using f)];rfl
      rwa [e9]at P
end
def fj(ns:List Int):List (Int×Int):=((mK (aH 0 ns) (aH 1 ns)).filter λp=>decide (p.1≠0)).map λp=>(p.2,p.1)
inductive TF(H:Hp)(D:Addr)(ps:List (Int×Int)):Prop
 |mk(as:List Addr)(_:H D=O (.lst (as.map V.ref)))(_:Paired (fun(p:Int×Int) (a:Addr)=>H a=O (.tup [.int p.1,.int p.2])) ps as)
theorem Paired.Ac:∀{l:List α}{m:List β}{x:α}{y:β},Paired F l m->F x y->Paired F (l++[x]) (m++[y])
 |_,_,_,_,.nil,h=>.cons h .nil
 |_,_,_,_,.cons r t,h=>.cons r (Paired.Ac t h)
inductive XE(K:PySem.W.Frag)(vs:List V)(H:Hp)(Q:VK)(E_:XK):Prop
 |mk(a:aa)(ns:List Int)(_:vs=[.ref a])(_:aj K H a (bF ns))(_:J ns%3=0)(_:J ns<=96)(_:∀(H':Hp) (D:aa),aG H H'->TF H' D (fj ns)->Q (.ref D) H')
section
theorem vq(Z:HY):Ok 1 9 ["numbers"] (XE zK):=by
 refine Z.F9.Go ["numbers","label","kind"] λcdv A outer s H vs Q E hr nd h=>?_
 .obtain⟨a,ns,rfl,e,U,f,k⟩:=h;obtain⟨t3,g3⟩:=Z.G.node;refine⟨_,(aJ (bh (mV Y nd (Pd byC Z.B.zip (af (o_ 0 (pv 0)) (af (o_ 1 (pv 0)) ay))) (k9 (by show j5 ["numbers","label","kind"] (h_ Ep) _ [("kind",2),("label",1)]=true;decide +kernel)) (λ_ _ _ _ _=>(Y0 zK (n:=2) Y (l5 (dB 2 nd) (l5 (dB 1 nd) tK)))) (λ_ _ _ _ _=>vd (bK lI (pv 2) (eY (v:=.int 0) byC g3 ⟨_,Y⟩) (bB _))) (λ_ _ _ _ _=>(jD (af (pv 1) (af (pv 2) ay))))))),?_⟩;dsimp only[xk];refine⟨_,Y,a,_,Y,e,λp g=>?_⟩;refine⟨_,Y,a,_,Y,(aT g).seq e,λq F=>?_⟩;have d:aH 0 (bF ns)=bF (aH 0 ns):=lD _ _ _;have e1:aH 1 (bF ns)=bF (aH 1 ns):=lD _ _ _;rw[d]at F;rw[d,e1];have J:=kC U (k:=0) byA;have I:=kC U (k:=1) byA;have P:upd (upd H p (.lst (bF (aH 0 ns)))) q (.lst (bF (aH 1 ns))) p=O (.lst (bF (aH 0 ns))):=(aT F) _ _ aB;have R:upd (upd H p (.lst (bF (aH 0 ns)))) q (.lst (bF (aH 1 ns))) q=O (.lst (bF (aH 1 ns))):=aB;have s2:aG H (upd (upd H p (.lst (bF (aH 0 ns)))) q (.lst (bF (aH 1 ns)))):=(aT g).trans (aT F);refine⟨p,q,_,_,Y,aj.of P,aj.of R,λD r=>?_⟩;generalize upd (upd H p (.lst (bF (aH 0 ns)))) q (.lst (bF (aH 1 ns)))=H1 at P R s2 r;refine aam (by rw[aM,aM,J,I]) (λi H'=>aG H1 H'/\TF H' D ((((mK (aH 0 ns) (aH 1 ns)).take i).filter λp=>decide (p.1≠0)).map λp=>(p.2,p.1)))
   ⟨aT r,[],aB,.nil⟩ (λi H' _ h=>⟨aj.of (h.1 _ _ P),aj.of (h.1 _ _ R)⟩) ?_ ?_
  .rintro i x y T H' hx j hT ⟨K,as,M,o⟩;rw[bM]at hx j;obtain⟨kx,u,rfl⟩:=eZ.mp hx;obtain⟨W,C,rfl⟩:=eZ.mp j;have N:(mK (aH 0 ns) (aH 1 ns))[i]?=O (kx,W):=by rw[ae3];exact⟨u,C⟩
   have S:aG H' (upd H' T (.tup [V.int kx,V.int W])):=aT hT;refine⟨T,_,Y,bu.of aB,Y,_,_,Y,_,_,Y,Y,Y,_,Y,Y,_,Y,?_⟩;rw[kR N,CJ,dw];by_cases c:kx=0
   .rw[bJ (by rw[c])];refine cJ ⟨K.trans S,as,S _ _ M,?_⟩;have:([(kx,W)].filter λp:Int×Int=>decide (p.1≠0))=[]:=by simp[c]
    rw[this,mO,nq];exact Paired.l_ o λ_ _ z=>S _ _ z
   .rw[bP (by intro z;injection z with z;exact c z)];refine bR ⟨_,Y,_,Y,(by show 2<=bf;decide),λb hb=>?_⟩;have L:aG (upd H' T (.tup [V.int kx,V.int W])) (upd (upd H' T (.tup [V.int kx,V.int W])) b (.tup [V.int W,V.int kx])):=aT hb;have b5:upd (upd H' T (.tup [V.int kx,V.int W])) b (.tup [V.int W,V.int kx]) b=O (.tup [V.int W,V.int kx]):=aB;have m:=L _ _ (S _ _ M);have w:=Paired.length o;refine⟨as.map V.ref,m,?_,Ek r ((K.trans S).trans L),as++[b],?_,?_⟩
    .rw[aM,<-w,aM,c8];have h6:(((mK (aH 0 ns) (aH 1 ns)).take i).filter λp=>decide (p.1≠0)).length<=ns.length:=by refine eL (oM _ _) (eL (ae0 _ _) ?_);rw[Cv,J,I];lia
     lia
    .rw[aB,dw];rfl
    .have:([(kx,W)].filter λp:Int×Int=>decide (p.1≠0)).map (λp=>(p.2,p.1))=[(W,kx)]:=by simp[c]
     rw[this];refine Paired.Ac (Paired.l_ o λ_ z l=>?_) ?_
     .exact aE (bZ (L _ _ (S _ _ l)) m (by intro z;cases z)) (L _ _ (S _ _ l))
     .exact aE (bZ b5 m (by intro z;cases z)) b5
  .rintro H' ⟨K,M⟩;rw[aM,J,yK (by rw[Cv,J,I];lia)]at M;exact k H' D (s2.trans K) M
end
def both(ps:List (Int×Int)):Bool:=ps.any λp=>ps.any λq=>decide (p.1=q.1/\p.2≠q.2)
theorem yo:both ps=true↔∃p∈ps,∃q∈ps,p.1=q.1/\p.2≠q.2:=by unfold both;simp only[qP,m9]
theorem xE{W Z:Type}{G:W->Z->Prop}{l:List W}{m:List Z}(h:Paired G l m){i:Nat}{b:Z}(e:m[i]?=O b):∃a,l[i]?=O a/\G a b:=by
 induction h generalizing i with
 |nil=>simp at e
 |cons r t U=>
  cases i with
  |zero=>simp only[CA,JJ]at e;subst e;exact⟨_,Y,r⟩
  |succ j=>simp only[CC]at e ⊢;exact U e
inductive XS(K:PySem.W.Frag)(vs:List V)(H:Hp)(Q:VK)(E_:XK):Prop
 |mk(a:aa)(ns:List Int)(_:vs=[.ref a])(_:aj K H a (bF ns))(_:J ns%3=0)(_:J ns<=96)(_:∀H':Hp,aG H H'->Q (.bl (both (fj ns))) H')
theorem abz(h:J ns%3=0):J (fj ns)<=J ns:=by unfold fj;rw[aM];refine eL (oM _ _) ?_;rw[Cv,kC h byA,kC h byA];lia
section
theorem Qm(Z:HY):Ok 2 10 ["numbers"] (XS zK):=by
 have G1:=(vq Z).g;refine Z.C0.Go ["numbers","kinds","label","kind"] λcdv A outer s H vs Q E hr nd h=>?_
 .obtain⟨a,ns,rfl,hS,L,I,k⟩:=h;have hu:=jF hr;refine⟨_,(aA (bN 1 nd qv)
   (aA (iV iG Y (jm (mW G1 hr byC Z.xN Z.F9.kp (vq Z).b .nil bq (af (pv 0) ay))) (tL Y (l5 (dB 2 nd) (l5 (dB 3 nd) tK))) (aJ (bT (bK lI (AA hu (pv 1) (pv 2) (pv 3) ⟨Y,Y,Y,Y⟩) (pv 3) (bB _)) (aJ (bh jn)) b8)))
   (aJ (bh jn)))),?_⟩
  dsimp only[xk];refine λd hd=>?_;have s1:aG H (upd H d (.dK [])):=aT hd;refine⟨_,Y,a,ns,Y,s1.seq hS,L,I,λH1 D s2 ⟨as,h1,h2⟩=>?_⟩;have d1:=s2 _ _ aB;have j:=Paired.length h2;have he:=abz L;have u:=s1.trans s2;have S:∀H':Hp,bg [d] H1 H'->aG H H':=λH' kp b o e=>kp b o (u b o e) (by simp;exact aQ e hd);refine⟨D,Y,⟨_,aj.of h1⟩,rR (λi σ H'=>∃(B C:Option V)(kvs:List (Key×V)),σ=[O (.ref a),O (.ref d),B,C]/\bg [d] H1 H'/\H' d=O (.dK kvs)/\kvs.length<=i /\
   (∀p∈(fj ns).take i,bU kvs (bx p.1)=O (.int p.2))/\(∀l v,bU kvs (bx l)=O v->∃M,v=V.int M/\(l,M)∈(fj ns).take i))
   ⟨U,U,[],Y,bg.refl,d1,aU _,λp P=>by simp at P,λl v e=>by simp[bU]at e⟩ (λi σ H' _ ⟨_,_,_,_,kp,h3,_⟩=>aj.of (kp _ _ h1 (by simp;exact bZ h1 d1 (by intro z;cases z)))) ?_ ?_⟩
  .rintro i x σ H' hi ⟨B,C,kvs,rfl,kp,N,f,W,T⟩;rw[bM]at hi;obtain⟨b,hb,rfl⟩:=eZ.mp hi;obtain⟨⟨l,M⟩,P,G⟩:=xE h2 hb;have ha:=kp _ _ G (by simp;exact bZ G d1 (by intro z;cases z));have hc:=(cV.mp P).1;refine⟨b,_,Y,bu.of ha,Y,_,_,Y,_,_,Y,Y,_,Y,d,Y,.inl ⟨_,.inl N⟩,_,Y,_,Y,.inl ⟨kvs,bx l,N,Y,by rw[c8];lia,λv hv=>?_,λm=>?_⟩⟩
   .obtain⟨K,rfl,J⟩:=T l v hv;refine⟨_,Y,Y,_,Y,?_⟩;by_cases c:K=M
    .subst c;rw[bJ rfl];refine cJ ⟨_,_,kvs,Y,kp,N,byA,?_,?_⟩
     .intro p R;rw[kR P]at R;rcases kh.mp R with z|z
      .exact W p z
      .have:p=(l,K):=by simpa using z
       subst this;exact hv
     .intro F w e;obtain⟨n,e1,e2⟩:=T F w e;exact⟨n,e1,by rw[kR P];exact JY _ e2⟩
    .rw[bP (by intro z;injection z with z;exact c z)];refine bR ?_;have e9:=yo.mpr ⟨(l,K),List.mem_of_mem_take J,(l,M),dm P,Y,c⟩;have r:=k H' (S H' kp)
     rwa [e9]at r
   .refine⟨_,rfl,rfl,_,rfl,?_⟩;rw[bJ rfl];refine cJ ⟨_,_,kvs++[(bx l,V.int M)],Y,kp.upd byB,aB,byE,?_,?_⟩
    .intro p R;rw[wN _ _ _ _ m];rw[kR P]at R;rcases kh.mp R with z|z
     .rw[ao]
      .exact W p z
      .intro y;have:=W p z;injection y with y
       rw[y,m]at this;cases this
     .have:p=(l,M):=by simpa using z
      subst this;rw[aD rfl]
    .intro F w e;rw[wN _ _ _ _ m]at e;rw[kR P];by_cases y:(bx F:Key)=bx l
     .rw[aD y]at e;injection y with y
      subst y;exact⟨M,(bH e).symm,byB⟩
     .rw[ao y]at e;obtain⟨n,e1,e2⟩:=T F w e;exact⟨n,e1,JY _ e2⟩
  .rintro σ H' ⟨B,C,kvs,rfl,kp,N,f,W,T⟩;rw[aM,<-j,kK]at W;have e9:both (fj ns)=false:=by
    cases e:both (fj ns) with
    |false=>rfl
    |true=>
     obtain⟨p,P,q,hq,e1,e2⟩:=yo.mp e;have:=W p P;rw[e1,W q hq]at this;injection this with this
     injection this with this
     exact absurd this.symm e2
   have r:=k H' (S H' kp)
   rwa [e9]at r
def k8(ns:List Int):Bool:=fh ns&&decide ((aH 0 ns).count 2<=3)&&!both (fj ns)
inductive XC(K:PySem.W.Frag)(vs:List V)(H:Hp)(Q:VK)(E_:XK):Prop
 |mk(a:aa)(ns:List Int)(_:vs=[.ref a])(_:aj K H a (bF ns))(_:(∀n∈ns,0<=n))(_:∀H':Hp,aG H H'->Q (.bl (k8 ns)) H')
theorem Ex(h:fh ns=true):iX ns=true/\J ns<=96:=by unfold fh at h;simp only[eO,m9]at h;exact⟨h.1.1.2,h.1.1.1⟩
theorem Qc(Z:HY):Ok 3 11 ["numbers"] (XC zK):=by
 refine Z.CZ.Go ["numbers"] λcdv A outer s H vs Q E M nd h=>?_
 .obtain⟨a,ns,rfl,R,S,k⟩:=h;obtain⟨z,D⟩:=Z.G.wY;obtain⟨B,I⟩:=Z.G.aZ;refine⟨_,(aA (bT (qt (jB (mW (AJ Z).g M byC Z.AY Z.F8.kp (AJ Z).b .nil bq (af (pv 0) ay)) byF)) (aJ (bh jn)) b8)
   (aA (bT (bK rF (kY PySem.F.plainAttrs_list PySem.F.slot_list_count PySem.F.type_list_count QD (o_ 0 (pv 0)) (af (eY (v:=.int 2) byC D ⟨_,Y⟩) ay)) (eY (v:=.int 3) byC I ⟨_,Y⟩) (bB _)) (aJ (bh jn)) b8)
   (aJ (bh (Y5 (mW (Qm Z).g M byC Z.Fj Z.C0.kp (Qm Z).b .nil bq (af (pv 0) ay))))))),?_⟩
  dsimp only[xk];refine⟨_,Y,a,ns,Y,R,S,λH1 s1=>⟨_,Y,?_⟩⟩;cases T:fh ns with
  |false=>
   have W:=k H1 s1;have O:k8 ns=false:=by unfold k8;rw[T];rfl
   rw[O]at W;exact bR W
  |true=>
   refine cJ ?_;obtain⟨J,P⟩:=Ex T;have U:=one_mod J;have C:aH 0 (bF ns)=bF (aH 0 ns):=lD _ _ _;refine⟨_,Y,a,_,Y,s1.seq R,λp K=>?_⟩;rw[C];have s2:aG H1 (upd H1 p (.lst (bF (aH 0 ns)))):=aT K;refine⟨.inl ⟨Y,_,aj.of aB⟩,p,_,_,Y,Y,aj.of aB,_,_,Y,Y,_,Y,?_⟩;by_cases N:(aH 0 ns).count 2<=3
   .refine dD byA ⟨_,rfl,a,ns,rfl,s2.seq (s1.seq R),U,P,λH2 L=>⟨_,rfl,?_⟩⟩;have W:=k H2 ((s1.trans s2).trans L);unfold k8 at W
    rwa [T,bJ N]at W
   .rw[bJ byA];have W:=k _ (s1.trans s2);have O:k8 ns=false:=by unfold k8;rw[bP N];simp
    rw[O]at W;exact bR W
end
def vI(ps:List (Int×Int)):List (Key×V):=ps.map λp=>(bx p.1,V.int p.2)
def vM(l:Int)(o:Option V)(ps:List (Int×Int)):Option V:=ps.foldl (λo p=>if p.1=l then O (V.int p.2) else o) o
theorem FF(l:Int):∀(ps:List (Int×Int))(acc:List (Key×V)),bU (oA acc (vI ps)) (bx l)=vM l (bU acc (bx l)) ps
 |[],acc=>rfl
 |p::ps,acc=>by
  show bU (oA (putK acc (bx p.1) (V.int p.2)) (vI ps)) (bx l)=vM l (if p.1=l then O (V.int p.2) else bU acc (bx l)) ps;rw[FF l ps,zQ];congr 1;by_cases e:p.1=l
  .rw[aD e,aD (by rw[e])]
  .rw[ao e,ao (by intro z;injection z with z;exact e z.symm)]
theorem GC(l:Int):∀(ps:List (Int×Int))(o:Option V),((∀p∈ps,p.1≠l)/\vM l o ps=o)\/∃p∈ps,p.1=l/\vM l o ps=O (V.int p.2)
 |[],o=>.inl ⟨λp Y=>by simp at Y,rfl⟩
 |p::ps,o=>by
  rcases GC l ps (if p.1=l then O (V.int p.2) else o) with⟨h1,h2⟩|⟨q,h1,h2,h3⟩
  .by_cases e:p.1=l
   .right;exact⟨p,byB,e,by show vM l _ ps=_;rw[h2,aD e]⟩
   .left;refine⟨λq Z=>?_,by show vM l _ ps=_;rw[h2,ao e]⟩;rcases bE.mp Z with z|z
    .rw[z];exact e
    .exact h1 q z
  .exact .inr ⟨q,dR _ h1,h2,h3⟩
theorem aav(hb:both ps=false)(l Z:Int):decide ((bU (oA [] (vI ps)) (bx l)).getD .az=V.int Z)=decide ((l,Z)∈ps):=by
 rw[FF];have Y:∀p∈ps,∀q∈ps,p.1=q.1->p.2=q.2:=λp U q W e=>UE λn=>by have:=yo.mpr ⟨p,U,q,W,e,n⟩;rw[hb]at this;cases this
 rcases GC l ps (bU ([]:List (Key×V)) (bx l)) with⟨h1,h2⟩|⟨p,h1,h2,h3⟩
 .rw[h2,bP (by intro z;cases z),bP (λz=>h1 _ z rfl)]
 .rw[h3];by_cases e:p.2=Z
  .rw[bJ (by show V.int p.2=V.int Z;rw[e]),bJ (by rw[<-h2,<-e];exact h1)]
  .rw[bP (by intro z;have z':=z;injection z' with z';exact e z'),bP (λz=>e (Y p h1 (l,Z) z h2))]
def je(ps rs:List Int):Int:=if(k8 ps&&fh rs)=false then -1 else if(fj rs).all (λq=>decide (q∈fj ps))=true then 0 else -2
inductive Xi(K:PySem.W.Frag)(vs:List V)(H:Hp)(Q:VK)(E_:XK):Prop
 |mk(a b:aa)(ps rs:List Int)(_:vs=[.ref a,.ref b])(_:aj K H a (bF ps))(_:aj K H b (bF rs))(_:(∀n∈ps,0<=n))(_:(∀n∈rs,0<=n))(_:∀H':Hp,aG H H'->Q (.int (je ps rs)) H')
theorem Q6(h:k8 ns=true):fh ns=true/\both (fj ns)=false:=by unfold k8 at h;simp only[eO,Le]at h;exact⟨h.1.1,h.2⟩
section
theorem PY(Z:HY):Ok 4 12 ["pattern","replacement"] (Xi zK):=by
 refine Z.CY.Go ["pattern","replacement","kinds","label","kind"] λcdv A outer s H vs Q E I nd h=>?_
 .obtain⟨a,b,ps,rs,rfl,hA,hB,u,v,k⟩:=h;have hu:=jF I;have w:bS 2 _:=I.mono byD;have K:bS 1 _:=I.mono byD;refine⟨_,(aA (bT (PW.pt (vc (qt (jB (mW (Qc Z).g I byC Z.Fi Z.CZ.kp (Qc Z).b .nil bq (af (pv 0) ay)) byF)) (u_ (qt (jB (mW (AJ Z).g w byC Z.AY Z.F8.kp (AJ Z).b .nil bq (af (pv 1) ay)) byF))))) (aJ (bh (kD kB aK))) b8)
   (aA (bN 2 nd (xC (adW Y) byC Z.B.dict ag9 (af (mW (vq Z).g K byC Z.xN Z.F9.kp (vq Z).b .nil bq (af (pv 0) ay)) ay)))
   (aA (iV iG Y (jm (mW (vq Z).g K byC Z.xN Z.F9.kp (vq Z).b .nil bq (af (pv 1) ay))) (tL Y (l5 (dB 3 nd) (l5 (dB 4 nd) tK))) (aJ (bT (bK lI (vg hu (pv 2) (pv 3) ⟨Y,Y,Y,Y⟩) (pv 4) (bB _)) (aJ (bh (kD kB aK))) b8)))
   (aJ (bh aK))))),?_⟩
  dsimp only[xk];refine⟨_,Y,a,ps,Y,hA,u,λH1 s1=>⟨_,Y,?_⟩⟩;cases M:k8 ps with
  |false=>
   have T:=k H1 s1;have R:je ps rs=-1:=by unfold je;rw[M];rfl
   rw[R]at T;exact bR (bR ⟨_,Y,T⟩)
  |true=>
   refine cJ ⟨_,Y,b,rs,Y,s1.seq hB,v,λH2 s2=>⟨_,Y,?_⟩⟩;have S:=s1.trans s2;cases J:fh rs with
   |false=>
    have T:=k H2 S;have R:je ps rs=-1:=by unfold je;rw[M,J];rfl
    rw[R]at T;exact bR ⟨_,Y,T⟩
   |true=>
    refine cJ ?_;obtain⟨r1,nb⟩:=Q6 M;obtain⟨o1,y⟩:=Ex r1;obtain⟨o2,L⟩:=Ex J;refine⟨_,Y,a,ps,Y,S.seq hA,one_mod o1,y,λH3 D s3 ⟨as,h1,h2⟩=>?_⟩;refine⟨D,as,vI (fj ps),Y,aj.of h1,?_,λd hd=>?_⟩
    .have:∀{l:List (Int×Int)}{m:List aa},Paired (fun(p:Int×Int) (a:aa)=>H3 a=O (.tup [.int p.1,.int p.2])) l m->Paired (λp (kv:Key×V)=>bu zK H3 p [kV kv.1,kv.2]) m (vI l):=by
      intro l m h
      induction h with
      |nil=>exact .nil
      |cons r t ih=>exact .cons (bu.of r) ih
     exact this h2
    have C:=S.trans s3;have s4:aG H3 (upd H3 d (.dK (oA [] (vI (fj ps))))):=aT hd;have N:=C.trans s4;refine⟨_,Y,b,rs,Y,N.seq hB,one_mod o2,L,λH5 D2 j ⟨bs,g1,g2⟩=>?_⟩;have d5:=j _ _ aB;have P:=N.trans j;have o:=Paired.length g2;refine⟨D2,Y,⟨_,aj.of g1⟩,rR (λi σ H'=>∃F G:Option V,σ=[O (.ref a),O (.ref b),O (.ref d),F,G]/\H'=H5/\((fj rs).take i).all (λq=>decide (q∈fj ps))=true)
     ⟨U,U,Y,Y,byB⟩ (λi σ H' _ ⟨_,_,_,h3,_⟩=>by rw[h3];exact aj.of g1) ?_ ?_⟩
    .rintro i x σ H' hi ⟨F,G,rfl,rfl,W⟩;rw[bM]at hi;obtain⟨c,hc,rfl⟩:=eZ.mp hi;obtain⟨⟨l,f⟩,e,n⟩:=xE g2 hc;refine⟨c,_,Y,bu.of n,Y,_,_,Y,_,_,Y,Y,_,Y,d,Y,.inl ⟨_,.inl d5⟩,_,Y,_,ny.k (k:=bx l) d5,_,Y,?_,_,Y,?_⟩
     .rw[FF];rcases GC l (fj ps) (bU ([]:List (Key×V)) (bx l)) with⟨z1,z2⟩|⟨p,z1,z2,z3⟩
      .rw[z2];rfl
      .rw[z3];rfl
     .rw[aav nb l f];by_cases c:(l,f)∈fj ps
      .rw[bJ c];refine cJ ⟨_,_,Y,Y,?_⟩;rw[kR e,afj,W];simp only[yV,afh,agH,Ld];exact bJ c
      .rw[bP c];have T:=k H' P;have R:je ps rs=-2:=by unfold je;rw[M,J,ao byD,ao];exact λz=>c (pB (qa.mp z _ (dm e)))
       rw[R]at T;exact bR ⟨_,Y,T⟩
    .rintro σ H' ⟨F,G,rfl,rfl,W⟩;rw[aM,<-o,kK]at W;have T:=k H' P;have R:je ps rs=0:=by unfold je;rw[M,J,ao byD,aD W]
     rwa [R]at T
end
def kindOf:aF->Nat
 |.node _ _=>0
 |.one _=>1
 |.row _=>2
def d8:aF->Nat
 |.node x _=>x
 |.one h=>h
 |.row h=>h
def uZ(p:List aF):List Nat:=(bA (J p+1)).map (eV p)
inductive Xd(C:aa)(vs:List V)(H:Hp)(Q:VK)(E_:XK):Prop
 |mk(q dx ra Ey:aa)(fs:List (ak×V))(p:List aF)(_:vs=[.ref q])(_:H q=O (.ins C dx fs))(_:fs.lookup ("size":ak)=O (.int (J p:Nat)))(_:fs.lookup ("above":ak)=O (.ref ra))(_:fs.lookup ("kinds":ak)=O (.ref Ey))(_:H ra=O (.lst (aq (lay (aY p)).above)))(_:H Ey=O (.lst (aq (p.map kindOf))))(_:nY 1 p=true)(_:J p<=32)(_:∀(H':Hp) (D:aa),aG H H'->H' D=O (.lst (aq (uZ p)))->Q (.ref D) H')
section
theorem ZJ(w:nY 1 p=true)(Z:n<J p):J (aZ p (n+1))=if kindOf p[n]=0 then dep p n+1 else dep p n:=by
 obtain⟨m,r,e⟩:=nM w Z;rw[yb w Z]
 conv=>lhs;unfold aZ
 rw[e,aX Z];cases p[n]<;>simp[kindOf]
theorem PM(Z:HY):Ok 1 13 ["self"] (Xd zP):=by
 refine Z.K4.Go ["self","shuts","depths","inside","at","depth"] λcdv A outer s H vs Q E hr nd h=>?_
 .obtain⟨q,dx,ra,Ey,fs,p,rfl,M,f1,f2,f3,ha,L,R,hi,k⟩:=h;obtain⟨t3,g3⟩:=Z.G.node;refine⟨_,(aA (bN 1 nd (dQ ay))
   (aA (bN 2 nd (dQ ay))
   (aA (bN 3 nd aK)
   (aA (iV iG Y (ou byC Z.B.range (af (aC (pv 0)) ay)) (dB 4 nd) (aA (bN 5 nd (l6 (bK rF (pv 4) aK (bB _)) (dh jo (aN bI (pv 2) (aN bI (aC (pv 0)) (pv 4))) aK) aK))
   (aA (iW (kY PySem.F.plainAttrs_list PySem.F.slot_list_append PySem.F.type_list_append pC (pv 2) (af (pv 5) ay)))
   (aA (iW (kY PySem.F.plainAttrs_list PySem.F.slot_list_append PySem.F.type_list_append pC (pv 1) (af (dh rD (pv 3) (pv 5)) ay)))
   (aJ (bN 3 nd (l6 (bK eW (aN bI (aC (pv 0)) (pv 4)) (eY (v:=.int 0) byC g3 ⟨_,Y⟩) (bB _)) (dh jo (pv 5) aK) (pv 5))))))))
   (aJ (bh (dh xG (pv 1) (dQ (af (pv 3) ay))))))))),?_⟩
  dsimp only[xk];refine⟨cI _,λrs W=>⟨cI _,λrd hrd=>?_⟩⟩;have s1:aG H (upd (upd H rs (.lst [])) rd (.lst [])):=(aT W).trans (aT hrd);have N:rd≠rs:=λz=>by rw[z,aB]at hrd;cases hrd
  have T:=(aT W).free hrd;refine⟨_,Y,s1 _ _ M,Z.tP,f1,_,Y,byA,byA,?_⟩;have K:∀l:List V,J l<=40->J l<sizeLine:=λl h=>by rw[c8];lia
  refine qG (n:=J p) (λn σ H'=>∃a d:Option V,σ=[O (.ref q),O (.ref rs),O (.ref rd),O (.int ((J (aZ p n)-1:Nat):Int)),a,d]/\bg [rs,rd] H H'/\H' rs=O (.lst (aq ((bA n).map (eV p))))/\H' rd=O (.lst (aq ((bA n).map λi=>dep p i-1))))
   ⟨U,U,rfl,λb o e _=>s1 b o e,aE (λz=>N z.symm) aB,aB⟩ ?_ ?_
  .rintro n σ H' P ⟨a,d,rfl,kp,w,x⟩;have e0:(0:Int)+(n:Nat)=(n:Nat):=by lia
   rw[e0];have he:=kp _ _ M (by simp;exact⟨aQ M W,aQ M T⟩);have hh:=kp _ _ ha (by simp;exact⟨aQ ha W,aQ ha T⟩);have hm:=kp _ _ L (by simp;exact⟨aQ L W,aQ L T⟩);have hp:1<=dep p n:=by rw[yb R P];obtain⟨m,r,e⟩:=nM R P;rw[e];simp
   have hl:J (cB (aZ p n))<=J (aZ p n):=Aj _;have hs:=yb R P;refine gn ?_;refine Aa ?_;refine yf (v:=V.int ((dep p n-1:Nat):Int)) (H':=H') ?_ ?_
   .intro Q' y;refine⟨_,Y,_,_,Y,Y,_,Y,?_⟩;rcases wg n with z|z
    .subst z;refine dD byA ?_;have:=ado R P
     rwa [this]at y
    .rw[bJ byA];obtain⟨u,hc,hb,hj⟩:=adp R P z;have:(dep p n-1:Nat)=(dep p u-1)+1:=by
      have ho:1<=dep p u:=by rw[yb R byA];obtain⟨m,r,e⟩:=nM R (n:=u) byA;rw[e];simp
      lia
     rw[this]at y;have e5:(((dep p u-1)+1:Nat):Int)=((dep p u-1:Nat):Int)+1:=by lia
     rw[e5]at y;refine bR ⟨_,Y,_,Y,he,Z.tP,f2,_,Y,aj.of hh,cU hc,aj.of x,cU (by rw[bM,lz hb];rfl),_,_,Y,Y,y⟩
   refine⟨_,Y,.inl ⟨Y,_,aj.of x⟩,_,Y,rd,_,_,Y,Y,x,K _ (by rw[aM,aM,ko];lia),?_⟩;have C:=aE (u:=.lst (aq ((bA n).map λi=>dep p i-1)++[V.int ((dep p n-1:Nat):Int)])) (λz=>N z.symm) w;refine⟨_,Y,.inl ⟨Y,_,aj.of C⟩,_,Y,_,Y,_,_,Y,Y,rs,_,_,Y,Y,C,K _ (by rw[aM,aM,ko];lia),?_⟩;have ed:aq ((bA n).map λi=>dep p i-1)++[V.int ((dep p n-1:Nat):Int)]=aq ((bA (n+1)).map λi=>dep p i-1):=by show _=fC _ _;rw[kL,dw,dw];rfl
   have es:aq ((bA n).map (eV p))++[V.int (((J (aZ p n)-1:Nat):Int)-((dep p n-1:Nat):Int))]=aq ((bA (n+1)).map (eV p)):=by show _=fC _ _;rw[kL,dw,dw];congr 1;congr 2;unfold eV;rw[aD P];lia
   rw[ed,es];have S:bg [rs,rd] H (upd (upd H' rd (.lst (aq ((bA (n+1)).map λi=>dep p i-1)))) rs (.lst (aq ((bA (n+1)).map (eV p))))):=(kp.upd byB).upd byB;have f:upd (upd H' rd (.lst (aq ((bA (n+1)).map λi=>dep p i-1)))) rs (.lst (aq ((bA (n+1)).map (eV p)))) rs=O (.lst (aq ((bA (n+1)).map (eV p)))):=aB;have j:upd (upd H' rd (.lst (aq ((bA (n+1)).map λi=>dep p i-1)))) rs (.lst (aq ((bA (n+1)).map (eV p)))) rd=O (.lst (aq ((bA (n+1)).map λi=>dep p i-1))):=aE N aB;generalize upd (upd H' rd (.lst (aq ((bA (n+1)).map λi=>dep p i-1)))) rs (.lst (aq ((bA (n+1)).map (eV p))))=H9 at S f j;have hf:=S _ _ M (by simp;exact⟨aQ M W,aQ M T⟩);have hg:=S _ _ L (by simp;exact⟨aQ L W,aQ L T⟩);have I:=ZJ R P;refine⟨_,Y,hf,Z.tP,f3,_,Y,aj.of hg,cU (by rw[bM,aX P];rfl),Y,_,Y,?_⟩;by_cases c:kindOf p[n]=0
   .rw[aD c]at I;refine dW (by show V.int ((kindOf p[n]:Nat):Int)=V.int 0;rw[c];rfl) ⟨_,Y,_,_,Y,Y,?_⟩;refine⟨O (.int (n:Nat)),O (.int ((dep p n-1:Nat):Int)),?_,S,f,j⟩;have:((dep p n-1:Nat):Int)+1=((J (aZ p (n+1))-1:Nat):Int):=by lia
    show [O (V.ref q),O (V.ref rs),O (V.ref rd),O (V.int (((dep p n-1:Nat):Int)+1)),O (V.int (n:Nat)),O (V.int ((dep p n-1:Nat):Int))]=_;rw[this]
   .rw[ao c]at I;refine dD (by intro z;have z':=z;injection z' with z';lia) ⟨_,Y,?_⟩;refine⟨O (.int (n:Nat)),O (.int ((dep p n-1:Nat):Int)),?_,S,f,j⟩;have:((dep p n-1:Nat):Int)=((J (aZ p (n+1))-1:Nat):Int):=by lia
    show [O (V.ref q),O (V.ref rs),O (V.ref rd),O (V.int ((dep p n-1:Nat):Int)),O (V.int (n:Nat)),O (V.int ((dep p n-1:Nat):Int))]=_;rw[this]
  .rintro σ H' ⟨a,d,rfl,kp,w,x⟩;refine⟨_,Y,_,Y,(by show 1<=bf;decide),λz K=>⟨rs,z,_,_,Y,Y,aE (aQ w K) w,aB,by rw[aM,aM,ko,c8];show J p+1<=_;lia,λD hD=>?_⟩⟩;refine k _ D ?_ ?_
   .intro b o e;have g:=kp b o e (by simp;exact⟨aQ e W,aQ e T⟩);exact aT hD _ _ (aT K _ _ g)
   .rw[aB];congr 2;show _=fC _ _;unfold uZ;rw[kL,dw,dw];congr 1;congr 2;unfold eV;rw[ao byA]
end
def eF(p:List aF)(n:Nat):List (Key×V):=(iy (p.take n)).map λh:Nat=>(bx (h:Int),V.int (firstOf p h:Nat))
def nB(i:Nat):List Nat->List (Key×V)
 |[]=>[]
 |h::l=>(bx (h:Int),V.int (i:Nat))::nB (i+1) l
theorem GY{a b:Nat}(h:a≠b):(bx (a:Int):Key)≠bx (b:Int):=λz=>by injection z with z;lia
theorem uN(f:Nat->V)(x:Nat):∀l:List Nat,bU (l.map λh:Nat=>((bx (h:Int):Key),f h)) (bx (x:Int))=if x∈l then O (f x) else U
 |[]=>by simp[bU]
 |h::l=>by
  rw[bL];by_cases e:h=x
  .subst e;rw[kP rfl,aD byB]
  .rw[kQ (GY e),uN f x l];by_cases q:x∈l
   .rw[aD q,aD (by simp[q])]
   .rw[ao q,ao (by simp[q];exact λz=>e z.symm)]
theorem Dz(x:Nat):∀(l:List Nat)(i:Nat),bU (nB i l) (bx (x:Int))=if x∈l then O (V.int ((i+l.idxOf x:Nat):Int)) else U
 |[],i=>by simp[nB,bU]
 |h::l,i=>by
  unfold nB;by_cases e:h=x
  .subst e;rw[kP rfl,aD byB];simp
  .rw[kQ (GY e),Dz x l (i+1)];by_cases q:x∈l
   .rw[aD q,aD (by simp[q])];congr 2;have e2:(h==x)=false:=by simpa using e
    rw[List.idxOf_cons,e2];simp only[Bool.cond_false];lia
   .rw[ao q,ao (by simp[q];exact λz=>e z.symm)]
theorem xg:∀(l:List Nat)(i:Nat),J (nB i l)=J l
 |[],_=>rfl
 |_::l,i=>by unfold nB;simp[xg l]
theorem MW(x:Nat):∀(l:List Nat)(i:Nat),nB i (l++[x])=nB i l++[(bx (x:Int),V.int ((i+J l:Nat):Int))]
 |[],i=>by simp[nB]
 |h::l,i=>by rw[CM];unfold nB;rw[MW x l (i+1),CM,iI];congr 5;lia
def oY(p:List aF):List (Key×V):=nB 0 (mR p)
theorem uM{p:List aF}{h:Nat}:bU (oY p) (bx (h:Int))=(fu p h).map λs=>V.int (s:Nat):=by
 unfold oY fu;rw[Dz];cases e:twice p h with
 |true=>rw[aD (LV e),aD rfl];simp
 |false=>rw[ao,ao byB];rfl;intro q;rw[(jk.mp q).2]at e;cases e
theorem xX{q:aF}{h:Nat}(e:iw q=O h):d8 q=h/\kindOf q≠0:=by cases q<;>simp[iw,d8,kindOf]at e ⊢<;>exact e
theorem aar(e:iw q=U):kindOf q=0:=by cases q<;>simp[iw,kindOf]at e ⊢
theorem HE(p:List aF)(n:Nat):J (eF p n)<=n:=by
 unfold eF iy;rw[aM];have:∀(l Z:List Nat),J (l.foldl mD Z)<=J Z+J l:=by
  intro l
  induction l with
  |nil=>intro Z;simp
  |cons x l Y=>
   intro Z;rw[J2];have:=Y (mD Z x);have U:J (mD Z x)<=J Z+1:=by unfold mD;split<;>simp
   rw[iI];lia
 refine eL (this _ _) ?_;have:=wz iw (p.take n);have W:J (p.take n)<=n:=by rw[lu];lia
 simp only[yP];lia
section
variable{g:TG}{tb:TS}{D:Ends}{σ:L2.St}{H:Hp}{d:Addr}{o:Obj}{kvs:List (Key×V)}
theorem ab1(Z:Nat->L2.St->Hp->Prop)(P:Z 0 σ H)(hl:∀i σ H,i<=J kvs->Z i σ H->H d=O (.dF o (.dK kvs)))
 (Q:∀(i:Nat)(k:Key)(v:V)(σ:L2.St)(H:Hp),kvs[i]?=O (k,v)->Z i σ H->g (kV k) σ H λY H2=>tb {D with nx:=Z (i+1),ct:=Z (i+1),bk:=D.nx } Y H2) (hd:∀σ H,Z (J kvs) σ H->D.nx σ H) :
 ∃W:Nat->Nat->L2.St->Hp->Prop,(∃m,W 0 m σ H)/\∀i m σ H,W i m σ H ->
  ((yY d o kvs).stop i H/\D.nx σ H)\/((yY d o kvs).go i H/\∃N:L2.St->Hp->Prop,(∀σ' H',N σ' H'->∃S,S<m/\W (i+1) S σ' H')/\∀x H',(yY d o kvs).lV i H x H'->g x σ H' λY H2=>tb {D with nx:=N,ct:=N,bk:=D.nx } Y H2):=by
 refine⟨λi m σ H=>m=J kvs-i/\i<=J kvs/\Z i σ H,⟨J kvs,byB,cI _,P⟩,?_⟩;rintro i m σ H ⟨rfl,hi,p⟩;have T:=hl i σ H hi p;by_cases U:i<J kvs
 .refine .inr ⟨⟨T,U⟩,Z (i+1),λσ' H' R=>⟨J kvs-(i+1),byA,rfl,U,R⟩,λx H' z=>?_⟩;obtain⟨e1,k,v,e2,M⟩:=z;subst e1 M;exact Q i k v σ _ e2 p
 .have e:i=J kvs:=by lia
  subst e;exact .inl ⟨⟨T,aU _⟩,hd σ H p⟩
end
theorem Vp(e:H a=O o):upd H a o=H:=by
 funext b;by_cases z:b=a
 .rw[z,aB,e]
 .rw[bO z]
theorem wF.one{H:Hp}{a:aa}{k:Key}{d:V}{Q:VK}{kvs kvs':List (Key×V)}(e:H a=O (.dK kvs))(hl:J kvs<bf)(T:∀v,bU kvs k=O v->kvs'=kvs)(W:bU kvs k=U->kvs'=kvs++[(k,d)])(q:∀v,Q v (upd H a (.dK kvs'))):wF H a (kV k) d Q:=by
 refine .inl ⟨kvs,k,e,Y,hl,λv hv=>?_,λZ=>?_⟩
 .have:=q v
  rwa [T v hv,Vp e]at this
 .have:=q d
  rwa [W Z]at this
def yW(p:List aF)(n:Nat)(kl:List (Key×V)):Prop:=∀h,met p n h=true->bU kl (bx (h:Int))=O (V.int (kE p n h:Nat))
inductive Xs(C:aa)(vs:List V)(H:Hp)(Q:VK)(E_:XK):Prop
 |mk(q dx rk rl rf fL rs:aa)(fs:List (ak×V))(p:List aF)(_:vs=[.ref q])(_:H q=O (.ins C dx fs))(_:fs.lookup ("holes":ak)=O (.ref rk))(_:fs.lookup ("labels":ak)=O (.ref rl))(_:fs.lookup ("firsts":ak)=O (.ref rf))(_:fs.lookup ("lasts":ak)=O (.ref fL))(_:fs.lookup ("slots":ak)=O (.ref rs))(_:H rk=O (.lst (aq (fF p))))(_:H rl=O (.lst (aq (p.map d8))))(_:H rf=O (.dK []))(_:H fL=O (.dK []))(_:H rs=O (.dK []))(_:rf≠fL)(_:rf≠rs)(_:fL≠rs)(_:J p<=32)(_:∀(H':Hp) (kl:List (Key×V)),bg [rf,fL,rs] H H'->H' rf=O (.dK (eF p (J p)))->H' fL=O (.dK kl)->yW p (J p) kl->H' rs=O (.dK (oY p))->Q .az H')
section
theorem P6(Z:HY):Ok 1 14 ["self"] (Xs zP):=by
 refine Z.K3.Go ["self","hole","label"] λcdv A outer s H vs Q E hr nd h=>?_
 .obtain⟨q,dx,rk,rl,rf,fL,rs,fs,p,rfl,I,f1,f2,f3,f4,f5,h1,h2,h3,h4,h5,n1,n2,n3,hl,k⟩:=h;have a:=jF hr;refine⟨_,(aA (iV iG Y (jm (aC (pv 0))) (dB 1 nd) (aA (iW (AA a (aC (pv 0)) (aN bI (aC (pv 0)) (pv 1)) (pv 1) ⟨Y,Y,Y,Y⟩))
   (aJ (tF a (aC (pv 0)) (aN bI (aC (pv 0)) (pv 1)) (pv 1) Y))))
   (aJ (YM (iV iG Y (YY (aC (pv 0))) (dB 2 nd) (aJ (bT (bK lI (ow a (aC (pv 0)) (pv 2) (λ_ _=>Y)) (ow a (aC (pv 0)) (pv 2) (λ_ _=>Y)) (bB _)) (aJ (tF a (aC (pv 0)) (pv 2) (fy SQ byC Z.B.len PySem.boot_len (af (aC (pv 0)) ay)) Y)) b8)))))),?_⟩
  dsimp only[xk];refine⟨_,Y,I,Z.tP,f1,?_⟩;have M:=bZ I h3 (by intro z;cases z);have N:=bZ I h4 (by intro z;cases z);have P:=bZ I h5 (by intro z;cases z);have lk:∀{b:aa}{l:List V},H b=O (.lst l)->b∉[rf,fL,rs]:=λ{b l} e=>by simp only[bE,fH,fM,fS];exact⟨bZ e h3 (by intro z;cases z),bZ e h4 (by intro z;cases z),bZ e h5 (by intro z;cases z)⟩
  have hE:=h1;refine⟨rk,Y,⟨_,aj.of h1⟩,rR (λi σ H'=>∃(v1:Option V)(kl:List (Key×V)),σ=[O (.ref q),v1,U]/\bg [rf,fL,rs] H H'/\H' rf=O (.dK (eF p (hpos p i)))/\H' fL=O (.dK kl)/\J kl<=i/\yW p (hpos p i) kl/\H' rs=O (.dK []))
   ⟨U,[],Y,bg.refl,h3,h4,aU _,λh e=>by simp[met,hpos]at e,h5⟩ (λi σ H' _ ⟨_,_,_,kp,_⟩=>aj.of (kp _ _ h1 (lk h1))) ?_ ?_⟩
  .rintro i x σ H1 hx ⟨v1,kl,rfl,w,u1,u2,wl,T,u3⟩;rw[bM]at hx;obtain⟨n,d,rfl⟩:=eZ.mp hx;obtain⟨hn,h,eh,hy,ha,hp⟩:=Rr d;obtain⟨nk,nm⟩:=AV hy byA ha;have o:eF p (hpos p i)=eF p n:=by unfold eF;rw[nk]
   rw[o]at u1;have T:yW p n kl:=λg C=>by obtain⟨e1,e2⟩:=nm g;rw[e1]at C;rw[e2];exact T g C
   have hF:i<32:=by
    have h1:=(cV.mp d).1;have h2:J (fF p)<=J p:=by unfold fF;have:=oM (isHole p) (bA (J p));rw[ko]at this;exact this
    lia
   have r:=w _ _ I (by simp;exact⟨M,N,P⟩);have hw:=w _ _ h2 (lk h2);refine gn ?_
   .obtain⟨el,e0⟩:=xX eh;have hg:=qD eh;have F:=Bw hn hg;have D:(p.map d8)[n]?=O h:=by rw[bM,aX hn,<-el];rfl
    have G:=HE p n;have hs:∀v,bU (eF p n) (bx (h:Int))=O v->eF p (n+1)=eF p n:=by
     intro v hv;unfold eF at hv ⊢;rw[uN]at hv;split at hv
     .rename_i hm;rw[GJ hn,eh];simp only;unfold mD;rw[aD hm]
     .cases hv
    have hc:bU (eF p n) (bx (h:Int))=U->eF p (n+1)=eF p n++[(bx (h:Int),V.int (n:Nat))]:=by
     intro hv;unfold eF at hv ⊢;rw[uN]at hv;split at hv
     .cases hv
     .rename_i hm;rw[GJ hn,eh];simp only;unfold mD;rw[ao hm,dw,List.map_singleton];have ht:¬met p n h=true:=λz=>hm (QZ.mpr z);obtain⟨j,m,y⟩:=HG ⟨n,F⟩;have z4:=y n F;have z5:¬firstOf p h<n:=λz=>ht ((BD ⟨n,F⟩).mp z);have z6:firstOf p h=n:=by lia
      rw[z6]
    refine⟨_,Y,r,Z.tP,f3,rf,Y,.inl ⟨_,.inl u1⟩,_,Y,r,Z.tP,f2,_,Y,aj.of hw,cU D,_,Y,?_⟩;refine wF.one u1 (by rw[c8];lia) hs hc (λv=>?_);have W:bg [rf,fL,rs] H (upd H1 rf (.dK (eF p (n+1)))):=w.upd byB;have x1:upd H1 rf (.dK (eF p (n+1))) rf=O (.dK (eF p (n+1))):=aB;have x2:=aE (u:=.dK (eF p (n+1))) (cO n1) u2;have x3:=aE (u:=.dK (eF p (n+1))) (cO n2) u3;generalize upd H1 rf (.dK (eF p (n+1)))=H2 at W x1 x2 x3;have R:=W _ _ I (by simp;exact⟨M,N,P⟩);have hz:=W _ _ h2 (lk h2);refine⟨_,Y,_,Y,R,Z.tP,f4,_,Y,R,Z.tP,f2,_,Y,aj.of hz,cU D,fL,_,Y,nv.k (k:=bx (h:Int)) x2 (by rw[c8];lia),?_⟩;rw[hp];refine⟨_,putK kl (bx (h:Int)) (V.int (n:Nat)),Y,W.upd byB,aE n1 x1,aB,?_,?_,aE (cO n3) x3⟩
    .unfold putK;split<;>simp<;>lia
    .intro g C;rw[zQ];by_cases c:g=h
     .subst c;rw[aD rfl,Bh,aD F]
     .rw[ao (GY c)];have e1:=Ho eh c;rw[vG hn,e1,Dd]at C;rw[T g C,Bh,ao];intro z;obtain⟨_,z⟩:=pL z;rw[e1]at z;cases z
  .rintro σ H' ⟨v1,kl,rfl,kp,w1,w2,wl,T,w3⟩;have hC:J (aq (fF p))=J (fF p):=by simp[aq]
   rw[hC]at w1 T;obtain⟨nk,nm⟩:=AV (abt (aU _)) (aU _) (Rq p);have o:eF p (hpos p (J (fF p)))=eF p (J p):=by unfold eF;rw[nk]
   rw[o]at w1;have T:yW p (J p) kl:=λg C=>by obtain⟨e1,e2⟩:=nm g;rw[e1]at C;rw[e2];exact T g C
   have r:=kp _ _ I (by simp;exact⟨M,N,P⟩);refine⟨rf,_,w1,qJ,λod=>?_⟩;obtain⟨kvs,K⟩:∃kvs,kvs=eF p (J p):=⟨_,Y⟩;rw[<-K]at w1 ⊢;have ek:kvs=(iy p).map λh:Nat=>(bx (h:Int),V.int (firstOf p h:Nat)):=by rw[K];unfold eF;rw[kK]
   have f:bg [rf,fL,rs] H (upd H' rf (.dF od (.dK kvs))):=kp.upd byB;have y2:=aE (u:=.dF od (.dK kvs)) (cO n1) w2;have y3:=aE (u:=.dF od (.dK kvs)) (cO n2) w3;have ho:=f _ _ I (by simp;exact⟨M,N,P⟩);refine⟨_,Y,ho,Z.tP,f3,rf,od,Y,.inl ⟨kvs,aB,?_⟩⟩;refine ab1 (λi σ H2=>∃v3:Option V,σ=[O (.ref q),v1,v3]/\bg [rf,fL,rs] H H2/\H2 rf=O (.dF od (.dK kvs))/\H2 fL=O (.dK kl)/\H2 rs=O (.dK (nB 0 (((iy p).take i).filter (twice p)))))
    ⟨U,rfl,f,aB,y2,by rw[y3];rfl⟩ (λi σ H2 _ ⟨_,_,_,e,_⟩=>e) ?_ ?_
   .rintro i kk v σ H2 hi ⟨v3,rfl,W,j,m,y⟩;have hA:∃h:Nat,(iy p)[i]?=O h/\kk=bx (h:Int)/\v=V.int (firstOf p h:Nat):=by
     rw[ek,bM]at hi;obtain⟨h,e1,e2⟩:=eZ.mp hi;injection e2 with e2 e3
     exact⟨h,e1,e2.symm,e3.symm⟩
    obtain⟨h,hf,rfl,rfl⟩:=hA;have L:=dm hf;have hB:=GO.mp L;have R:=W _ _ I (by simp;exact⟨M,N,P⟩);have hk:bU kvs (bx (h:Int))=O (V.int (firstOf p h:Nat)):=by rw[ek,uN,aD L]
    have he:=QZ.mp (by rw[kK];exact L);have hj:=T h he;have hD:J (((iy p).take i).filter (twice p))<=32:=by have a1:=HE p (J p);unfold eF at a1;rw[kK,aM]at a1;have a2:=oM (twice p) ((iy p).take i);rw[lu]at a2;lia
    have S:=kR hf;refine gn ?_;refine⟨_,Y,R,Z.tP,f3,_,Y,rf,_,Y,.inl ⟨kvs,bx (h:Int),.inr ⟨od,j⟩,Y,hk.symm⟩,_,Y,R,Z.tP,f4,_,Y,fL,_,Y,.inl ⟨kl,bx (h:Int),.inl m,Y,hj.symm⟩,Y,_,Y,?_⟩;have G:=ab6 hB;cases tw:twice p h with
    |false=>
     have e1:firstOf p h=kE p (J p) h:=by rw[tw]at G;exact ahd.mp (λz=>lU (G.mp z))
     rw[bJ (show V.int ((firstOf p h:Nat):Int)=V.int ((kE p (J p) h:Nat):Int) by rw[e1])];refine cJ ⟨_,Y,W,j,m,?_⟩;rw[y,S,CJ,wA (by rw[tw];simp)];simp
    |true=>
     have e1:¬V.int ((firstOf p h:Nat):Int)=V.int ((kE p (J p) h:Nat):Int):=by
      intro z;injection z with z
      exact G.mpr tw (by unfold lastOf;lia)
     rw[bP e1];refine bR ?_;refine⟨_,Y,R,Z.tP,f5,rs,_,Y,y,_,Y,R,Z.tP,f5,_,Y,rs,_,Y,nv.k (k:=bx (h:Int)) y (by rw[xg,c8];lia),_,Y,W.upd byB,aE n2 j,aE n3 m,?_⟩;rw[aB];congr 2;have hb:h∉((iy p).take i).filter (twice p):=by intro z;have z:=(jk.mp z).1;have hh:=aax p;have:((iy p).take (i+1)).Nodup:=hh.sublist (aeR _ _);rw[S]at this;exact(wm.mp this).2.2 h z h byB Y
     rw[Av _ (by rw[Dz,ao hb]),S,CJ,yU tw,List.filter_nil,MW,xg];simp
   .rintro σ H2 ⟨v3,rfl,W,j,m,y⟩;refine⟨j,k _ kl (W.upd byB) (by rw[K];exact aB) (aE (cO n1) m) T (aE (cO n2) ?_)⟩;rw[y];have:(iy p).take (J kvs)=iy p:=by rw[ek,aM,kK]
    rw[this];rfl
end
def qo(p:List aF)(a:Nat):List Nat:=(jI p a).takeWhile λi=>decide (aV (p.map kindOf) i≠2)
def abS(p:List aF)(a h:Nat)(c9 f_:aa):List (ak×V):=[("segment",.ref c9),("singles",.int (jy p a:Nat)),("times",.int (times p a h:Nat)),("known",.ref f_),("settles",.bl (qm p a h))]
inductive qS(CG:aa)(H:Hp)(g c9 f_:aa)(p:List aF)(a h:Nat):Prop
 |mk(dg:aa)(_:H g=O (.ins CG dg (abS p a h c9 f_)))(_:H c9=O (.lst (aq (qo p a))))(_:H f_=O (.lst (aq ((known p a h).map (jP p)))))
inductive afx(CG:aa)(H:Hp)(g:aa)(p:List aF)(a h:Nat):Prop
 |mk(c9 f_:aa)(_:qS CG H g c9 f_ p a h)
structure yE(C:aa)(H:Hp)(q dx:aa)(fs:List (ak×V))(p:List aF)(rr ra rp rk rl rf rs:aa):Prop where
 ins:H q=O (.ins C dx fs)
 RL:fs.lookup ("rows":ak)=O (.ref rr)
 R7:fs.lookup ("above":ak)=O (.ref ra)
 RN:fs.lookup ("places":ak)=O (.ref rp)
 HC:fs.lookup ("kinds":ak)=O (.ref rk)
 HB:fs.lookup ("labels":ak)=O (.ref rl)
 R4:fs.lookup ("firsts":ak)=O (.ref rf)
 RK:fs.lookup ("slots":ak)=O (.ref rs)
 lay:jb H (aY p) rr ra rp
 kinds:H rk=O (.lst (aq (p.map kindOf)))
 dS:H rl=O (.lst (aq (p.map d8)))
 firsts:H rf=O (.dK (eF p (J p)))
 slots:H rs=O (.dK (oY p))
inductive XH(C CG:aa)(vs:List V)(H:Hp)(Q:VK)(E_:XK):Prop
 |mk(g q dg dx rr ra rp rk rl rf rs:aa)(fs:List (ak×V))(p:List aF)(a h:Nat)(_:vs=[.ref g,.ref q,.int (a:Nat)])(_:H g=O (.ins CG dg []))(_:yE C H q dx fs p rr ra rp rk rl rf rs)(_:g≠q)(_:nY 1 p=true)(_:J p<=32)(_:p[a]?=O (.row h))(_:∀(H':Hp) (c9 f_:aa),H c9=U->H f_=U->qS CG H' g c9 f_ p a h->(∀b o,H b=O o->b≠g->H' b=O o)->Q .az H')
theorem OA{p:List aF}:∀{l:List Nat},(∀i∈l,i<J p)->cj (l.filterMap λi=>p[i]?)=(l.filter λi=>decide (aV (p.map kindOf) i=2)).map (aV (p.map d8))
 |[],_=>rfl
 |x::l,h=>by
  have hx:=h x byB;have Z:=OA (l:=l) λi hi=>h i (by simp[hi]);have Y:aV (p.map kindOf) x=kindOf p[x]:=yq (by rw[bM,aX hx];rfl);have W:aV (p.map d8) x=d8 p[x]:=yq (by rw[bM,aX hx];rfl);rw[fR,aX hx];cases e:p[x] with
  |node y c=>rw[wA (by rw[Y,e];simp[kindOf]),<-Z];rfl
  |one y=>rw[wA (by rw[Y,e];simp[kindOf]),<-Z];rfl
  |row y=>rw[yU (by rw[Y,e];simp[kindOf]),bL,<-Z,W,e];rfl
structure pW(C:aa)(H:Hp)(q dx:aa)(fs:List (ak×V))(p:List aF)(rk rl rf rs:aa):Prop where
 ins:H q=O (.ins C dx fs)
 kinds:H rk=O (.lst (aq (p.map kindOf)))
 dS:H rl=O (.lst (aq (p.map d8)))
 firsts:H rf=O (.dK (eF p (J p)))
 slots:H rs=O (.dK (oY p))
theorem pW.same(h:pW C H q dx fs p rk rl rf rs)(s:aG H H'):pW C H' q dx fs p rk rl rf rs:=
 ⟨s _ _ h.ins,s _ _ h.kinds,s _ _ h.dS,s _ _ h.firsts,s _ _ h.slots⟩
theorem pW.upd(h:pW C H q dx fs p rk rl rf rs)(Z:H g=O (.ins CG dg gs))(n:g≠q):pW C (L2.upd H g o) q dx fs p rk rl rf rs:=
 ⟨aE (cO n) h.ins,aE (bZ h.kinds Z (by intro z;cases z)) h.kinds,aE (bZ h.dS Z (by intro z;cases z)) h.dS,aE (bZ h.firsts Z (by intro z;cases z)) h.firsts,aE (bZ h.slots Z (by intro z;cases z)) h.slots⟩
def LL(l:List Nat)(k:Nat)(v:V):Bool:=match v with
 |.int i=>decide (aV l i.toNat=k)
 |_=>false
theorem wO(l:List Nat)(c:Nat->Bool)(f:Nat->Nat)(kp:V->Bool)(g:V->V)(U:∀n∈l,kp (V.int (n:Nat))=c n)(W:∀n∈l,g (V.int (n:Nat))=V.int (f n:Nat)):((aq l).filter kp).map g=aq ((l.filter c).map f):=by
 induction l with
 |nil=>rfl
 |cons x l Z=>
  have Z:=Z (λn Y=>U n (by simp[Y])) (λn Y=>W n (by simp[Y]));have e1:=U x byB;have e2:=W x byB;show(((V.int (x:Nat))::aq l).filter kp).map g=_;cases e:c x with
  |true=>rw[yU (by rw[e1];exact e),yU e,bL,bL,Z,e2];rfl
  |false=>rw[wA (by rw[e1,e];simp),wA (by rw[e];simp),Z]
theorem MH{K:PySem.W.Frag}{Y Z:TE}{f:ak}{tb:TS}{D:Ends}{σ:L2.St}{H:Hp}(h:Z σ H λy H1=>Y σ H1 λx H2=>zd K f y H2 (λH3=>tb D σ H3) x):qW (Od K Y Z f) tb D σ H:=h
theorem adD(R:List Nat)(h:Nat):(R.map λn:Nat=>(n:Int)).count (h:Int)=R.count h:=by
 induction R with
 |nil=>rfl
 |cons x R Z=>
  rw[bL,sJ,sJ,Z];congr 1;by_cases e:x=h
  .subst e;simp
  .have:¬(x:Int)=(h:Int):=by lia
   simp[e,this]
theorem ab'(R:List Nat)(h:Nat):((aq R).filter λv=>decide (v≠V.int (h:Nat))).map id=aq (R.filter (· != h)):=by
 have:=wO R (· != h) id (λv=>decide (v≠V.int (h:Nat))) id (λn _=>by
  by_cases e:n=h
  .subst e;simp
  .have:V.int (n:Nat)≠V.int (h:Nat):=by intro z;injection z with z;lia
   simp[e,this]) (λn _=>Y)
 rw[this,Uc]
inductive W2(C:Addr)(vs:List V)(H:Hp)(Q:VK)(E_:XK):Prop
 |mk(q b dx rk:Addr)(fs:List (Str×V))(ks l:List Nat)(_:vs=[.ref q,.ref b])(_:H q=O (.ins C dx fs))(_:fs.lookup ("kinds":Str)=O (.ref rk))(_:H rk=O (.lst (aq ks)))(_:H b=O (.lst (aq l)))(_:(∀i∈l,i<J ks))(_:∀(H':Hp) (D:Addr),aG H H'->H' D=O (.lst (aq (l.takeWhile λi=>decide (aV ks i≠2))))->(H D=U\/D=b)->Q (.ref D) H')
theorem Mh{l:List Nat}{f:Nat->Bool}:∀{i:Nat},(∀x∈l.take i,f x=true)->l.takeWhile f=l.take i++(l.drop i).takeWhile f:=by
 induction l with
 |nil=>intro i _;simp
 |cons y l Z=>
  intro i h;cases i with
  |zero=>rfl
  |succ i=>rw[T3,J7,Cs (h y byB),Z (i:=i) (λx hx=>h x (by simp[hx]))];rfl
section
theorem Pw(Z:HY):Ok 1 15 ["pattern","row"] (W2 zP):=by
 refine Z.CW.Go ["pattern","row","index","at"] λcdv A outer s H vs Q E u nd h=>?_
 .obtain⟨q,b,dx,rk,fs,ks,l,rfl,J,fk,I,hb,N,k⟩:=h;obtain⟨w,C⟩:=Z.G.wY;refine⟨_,(aA (iV iG Y (EI byC Z.B.enumerate (af (pv 1) ay)) (tL Y (l5 (dB 2 nd) (l5 (dB 3 nd) tK))) (aJ (bT (bK eW (aN bI (aC (pv 0)) (pv 3)) (eY (v:=.int 2) byC C ⟨_,Y⟩) (bB _)) (aJ (bh (qu uV (pv 1) ve (lZ (pv 2))))) b8)))
   (aJ (bh (pv 1)))),?_⟩
  dsimp only[xk];refine⟨_,Y,⟨b,_,Y,aj.of hb,Hz (λi σ H'=>∃(R S:Option V),σ=[O (.ref q),O (.ref b),R,S]/\aG H H'/\∀x∈l.take i,decide (aV ks x≠2)=true)
   ⟨U,U,Y,aG.refl H,λx hx=>by simp at hx⟩ (λi σ H' _ ⟨_,_,_,s1,_⟩=>aj.of (s1 _ _ hb)) ?_ ?_⟩⟩
  .rintro n x L σ H' hx F ⟨R,S,rfl,s1,W⟩;rw[bM]at hx;obtain⟨c,T,rfl⟩:=eZ.mp hx;have M:=N c (dm T);have s2:aG H (upd H' L (.tup [.int (n:Nat),.int (c:Nat)])):=s1.trans (aT F);refine⟨L,_,Y,bu.of aB,Y,_,_,Y,_,_,Y,Y,?_⟩;generalize upd H' L (.tup [.int (n:Nat),.int (c:Nat)])=H1 at s2;refine⟨_,Y,s2 _ _ J,Z.tP,fk,_,Y,aj.of (s2 _ _ I),cU (i_ M),Y,_,Y,?_⟩;by_cases z:aV ks c=2
   .refine dW (show V.int ((aV ks c:Nat):Int)=V.int 2 by rw[z];rfl) ⟨_,rfl,_,rfl,_,rfl,b,_,rfl,aj.of (s2 _ _ hb),λD K=>?_⟩;have P:=(cV.mp T).1;have e:jG (aq l) U (O ((n:Nat):Int))=aq (l.takeWhile λi=>decide (aV ks i≠2)):=by rw[I0 (by rw[aM];lia),<-Cu,Mh W,kr P,T6 (by rw[(cV.mp T).2];simp[z]),nq]
    rw[e];exact k _ D (s2.trans (aT K)) aB (.inl (s2.free K))
   .refine dD (show ¬V.int ((aV ks c:Nat):Int)=V.int 2 by intro y;injection y with y;lia) ⟨_,_,rfl,s2,λx hx=>?_⟩;rw[kR T]at hx;rcases kh.mp hx with y|y
    .exact W x y
    .have:x=c:=by simpa using y
     rw[this];exact bJ z
  .rintro σ H' ⟨R,S,rfl,s1,W⟩;refine⟨_,Y,?_⟩;have:=k H' b s1 (by rw[Mh (by rw[aM]at W;exact W),kK,uC,List.takeWhile_nil,nq];exact s1 _ _ hb) (.inr Y)
   exact this
theorem Qg(Z:HY):Ok 2 16 ["self","pattern","hole"] (XH zP zG):=by
 have GU:=(Pw Z).g;refine Z.K2.Go ["self","pattern","hole","own","row","behind","stretches","others","other","label"] λcdv A outer s H vs Q E hr nd h=>?_
 .obtain⟨g,q,dg,dx,rr,ra,rp,rk,rl,rf,rs,fs,p,a,h,rfl,hg,W,hs,hw,hl,r,k⟩:=h;have hu:=jF hr;obtain⟨t3,g3⟩:=Z.G.wY;refine⟨_,(aA (nF (i:=3) nd Y (Or.inr Y) (aN bI (aC (pv 1)) (pv 2)))
   (aA (bN 4 nd (aN bI (aC (pv 1)) (aN bI (aC (pv 1)) (pv 2))))
   (aA (bN 5 nd (qu uV (pv 4) (lZ (dh jo (aN bI (aC (pv 1)) (pv 2)) aK)) ve))
   (aA (EE (i:=6) Y nd Y Y Y (jm (pv 5)) (k9 (by show j5 ["self","pattern","hole","own","row","behind","stretches","others","other","label"] (h_ xr) _ [("other",8)]=true;decide +kernel)) (λ_ _ _ _ _=>(dB 8 nd)) (λ_ _ _ _ _=>vd (bK eW (aN (vP zK) (rB zK (pv 1) Y) (pv 8)) (eY (v:=.int 2) byC g3 ⟨_,Y⟩) (bB _))) (λ_ _ _ _ _=>(aN (vP zK) (rB zK (pv 1) Y) (pv 8))))
   (aA (dP (pv 0) (mW GU hr byC Z.Fe Z.CW.kp (Pw Z).b .nil bq (af (pv 1) (af (pv 5) ay))) Y)
   (aA (dP (pv 0) (dh rD (fy iN byC Z.B.len PySem.boot_len (af (pv 5) ay)) (fy iN byC Z.B.len PySem.boot_len (af (pv 6) ay))) Y)
   (aA (dP (pv 0) (dh jo aK (kY PySem.F.plainAttrs_list PySem.F.slot_list_count PySem.F.type_list_count QD (pv 6) (af (pv 3) ay))) Y)
   (aA (EE (i:=7) Y nd Y Y Y (jm (pv 6)) (k9 (by show j5 ["self","pattern","hole","own","row","behind","stretches","others","other","label"] (h_ xr) _ [("label",9)]=true;decide +kernel)) (λ_ _ _ _ _=>(dB 9 nd)) (λ_ _ _ _ _=>vd (bK lI (pv 9) (pv 3) (bB _))) (λ_ _ _ _ _=>(pv 9)))
   (aA (dP (pv 0) (mV Y nd (jm (pv 7)) (k9 (by show j5 ["self","pattern","hole","own","row","behind","stretches","others","other","label"] (h_ xr) _ [("label",9)]=true;decide +kernel)) (λ_ _ _ _ _=>(dB 9 nd)) (λ_ _ _ _ _=>vd (bK rE (ow hu (rB zK (pv 1) Y) (pv 9) (λ_ _=>Y)) (pv 2) (bB _))) (λ_ _ _ _ _=>(ow hu (rB zK (pv 1) Y) (pv 9) (λ_ _=>Y)))) Y)
   (aJ (dP (pv 0) (qw eW (fy iN byC Z.B.len PySem.boot_len (af (aC (pv 0)) ay)) (fy iN byC Z.B.len PySem.boot_len (af (pv 7) ay)) (bB _)) Y))))))))))),?_⟩
  dsimp only[xk];have ha:=(cV.mp r).1;have hpa:=(cV.mp r).2;have C:=S8 hw ha (by rw[hpa];rfl);obtain⟨as,au,h1,h2,h3⟩:=W.lay.row (kF hw) (by rw[g_];exact C.up);refine⟨_,Y,W.ins,Z.tP,W.HB,_,Y,aj.of W.dS,cU (x:=h) (by rw[bM,r];rfl),?_⟩;refine⟨_,Y,W.ins,Z.tP,W.RL,_,Y,W.ins,Z.tP,W.R7,_,Y,aj.of W.lay.above,cU C.Te,aj.of h1,kI h2,_,Y,_,Y,W.ins,Z.tP,W.RN,_,Y,aj.of W.lay.places,cU C.O4,_,_,Y,Y,_,Y,au,_,Y,aj.of h3,λrb hL=>?_⟩;have eb:jG (aq (rowAt (lay (aY p)).rows (aV (lay (aY p)).above a))) (O (((aV (lay (aY p)).places a:Nat):Int)+1)) U=aq (jI p a):=by
   have ga:=((mY (kF hw)).at_ _ _ a).mpr ⟨C.Te,C.O4⟩;have gq:=(cV.mp ga).1;have:((aV (lay (aY p)).places a:Nat):Int)+1=((aV (lay (aY p)).places a+1:Nat):Int):=by lia
   rw[this,Jb (by rw[aM];lia)];exact(oK).symm
  rw[eb];have gm:pW zP H q dx fs p rk rl rf rs:=⟨W.ins,W.kinds,W.dS,W.firsts,W.slots⟩;have s1:aG H (upd H rb (.lst (aq (jI p a)))):=aT hL;have d:upd H rb (.lst (aq (jI p a))) rb=O (.lst (aq (jI p a))):=aB;generalize upd H rb (.lst (aq (jI p a)))=H1 at s1 d;have hC:=gm.same s1;have gr:J (jI p a)<=32:=by
   rw[<-Jk C];have:∀(f m:Nat)(l:List aF),J (cy f m l)<=f:=by
    intro f
    induction f with
    |zero=>intro m l;cases m<;>simp[cy]
    |succ f ih=>
     intro m l;cases m with
     |zero=>simp[cy]
     |succ m=>cases l with
      |nil=>simp[cy]
      |cons x l=>have:=ih m (aes x.kids l);simp[cy];lia
   exact eL (this _ _ _) hl
  have hz:∀l:List V,J l<=40->J l<sizeLine:=λl h=>by rw[c8];lia
  have gd:∀c,c<J p->(p.map kindOf)[c]?=O (aV (p.map kindOf) c):=λc hc=>i_ (by rw[aM];exact hc);have gb:∀c,c<J p->(p.map d8)[c]?=O (aV (p.map d8) c):=λc hc=>i_ (by rw[aM];exact hc);refine⟨_,Y,rb,Y,⟨_,aj.of d⟩,λD hD=>?_⟩;refine pF (a:=rb) (xs:=aq (jI p a)) (LL (p.map kindOf) 2) (zU (p.map d8)) hD (aj.of d) (hz _ (by rw[aM];lia)) ?_ ?_
  .rintro i x hi H3 Nx Nn s3 m1 m2;rw[bM]at hi;obtain⟨c,hc,rfl⟩:=eZ.mp hi;have hS:=C.lt c (dm hc);have P:=hC.same s3;refine⟨Y,_,Y,P.ins,Z.tP,W.HC,_,Y,aj.of P.kinds,cU (gd c hS),Y,_,Y,?_⟩;by_cases z:aV (p.map kindOf) c=2
   .exact dW (show V.int ((aV (p.map kindOf) c:Nat):Int)=V.int 2 by rw[z];rfl) ⟨_,rfl,P.ins,Z.tP,W.HB,_,rfl,aj.of P.dS,cU (gb c hS),m1 (bJ z) H3 (aG.refl H3)⟩
   .exact dD (show ¬V.int ((aV (p.map kindOf) c:Nat):Int)=V.int 2 by intro y;injection y with y;lia) (m2 (bP z) H3 (aG.refl H3))
  .intro H3 s3 T;have hY:((aq (jI p a)).filter (LL (p.map kindOf) 2)).map (zU (p.map d8))=aq (cj (dM p a)):=by rw[C.is,OA C.lt];exact wO _ _ _ _ _ (λn _=>Y) (λn _=>Y)
   rw[hY]at T;obtain⟨R,hR⟩:∃R,R=cj (dM p a):=⟨_,Y⟩;rw[<-hR]at T;have gs:J R<=J (jI p a):=by rw[hR,<-Jk C];exact(rZ [] _).2
   have hq:aG H H3:=s1.trans s3;have P:=hC.same s3;have hk:=s3 _ _ d;have hA:=hq _ _ hg;clear hY s3 hC d s1 hD;refine gn ?_;dsimp only;refine⟨_,Y,_,Y,q,rb,dx,rk,fs,p.map kindOf,jI p a,Y,P.ins,W.HC,P.kinds,hk,λi hi=>by rw[aM];exact C.lt i hi,λgp c9 w ho hfr=>?_⟩;have gi:H c9=U:=by
    rcases hfr with z|z
    .exact hq.free z
    .rw[z];exact hL
   have j:=w _ _ hA;have u:c9≠g:=bZ ho j (by intro z;cases z);refine⟨_,Y,j,Z.tG,dI 0 Y,?_⟩;obtain⟨H4,S⟩:∃h,h=upd gp g (.ins zG dg (aR "segment" (.ref c9) [])):=⟨_,Y⟩;rw[<-S];have hj:H4 g=O (.ins zG dg [("segment",.ref c9)]):=by rw[S];exact aB
   have h0:pW zP H4 q dx fs p rk rl rf rs:=by rw[S];exact(P.same w).upd j hs
   have hU:H4 rb=O (.lst (aq (jI p a))):=by rw[S];exact aE (bZ hk hA (by intro z;cases z)) (w _ _ hk)
   have hm:H4 D=O (.lst (aq R)):=by rw[S];exact aE (bZ T hA (by intro z;cases z)) (w _ _ T)
   have hG:bg [g] H H4:=by rw[S];exact(bg.refl.same (hq.trans w)).upd byB
   have hK:H4 c9=O (.lst (aq (qo p a))):=by rw[S];exact aE u ho
   dsimp only;refine MH ?_;refine yf (te:=qX _ _ _) (v:=V.int (jy p a:Nat)) (H':=H4) ?_ ?_
   .intro Q' hQ;have es:((J (aq (jI p a)):Nat):Int)-((J (aq R):Nat):Int)=((jy p a:Nat):Int):=by unfold jy;rw[<-hR,Jk C,aM,aM];lia
    refine⟨_,Y,.inl (aj.of hU),_,Y,.inl (aj.of hm),_,_,Y,Y,?_⟩;rw[es];exact hQ
   refine⟨_,Y,hj,Z.tG,dI 1 Y,?_⟩;obtain⟨H5,L⟩:∃h,h=upd H4 g (.ins zG dg (aR "singles" (V.int (jy p a:Nat)) [("segment",.ref c9)])):=⟨_,Y⟩;rw[<-L];have hh:H5 g=O (.ins zG dg [("segment",.ref c9),("singles",V.int (jy p a:Nat))]):=by rw[L];exact aB
   have hZ:pW zP H5 q dx fs p rk rl rf rs:=by rw[L];exact h0.upd hj hs
   have he:H5 D=O (.lst (aq R)):=by rw[L];exact aE (bZ hm hj (by intro z;cases z)) hm
   have hF:bg [g] H H5:=by rw[L];exact hG.upd byB
   have hJ:H5 c9=O (.lst (aq (qo p a))):=by rw[L];exact aE u hK
   clear S L hU hm h0 hG hj hk;have hV:aj zK H5 D ((R.map λn:Nat=>(n:Int)).map V.int):=by
    have:(R.map λn:Nat=>(n:Int)).map V.int=aq R:=by rw[iZ];rfl
    rw[this];exact aj.of he
   refine MH ?_;refine yf (te:=qX _ _ _) (v:=V.int (times p a h:Nat)) (H':=H5) ?_ ?_
   .intro Q' hQ;have et:(1:Int)+(((R.map λn:Nat=>(n:Int)).count (h:Int):Nat):Int)=((times p a h:Nat):Int):=by unfold times;rw[adD,<-hR];lia
    refine⟨_,Y,.inl ⟨Y,_,aj.of he⟩,_,Y,D,_,_,Y,Y,hV,_,_,Y,Y,?_⟩;rw[et];exact hQ
   refine⟨_,Y,hh,Z.tG,dI 2 Y,?_⟩;obtain⟨H6,N⟩:∃h',h'=upd H5 g (.ins zG dg (aR "times" (V.int (times p a h:Nat)) [("segment",.ref c9),("singles",V.int (jy p a:Nat))])):=⟨_,Y⟩;rw[<-N];have gf:H6 g=O (.ins zG dg [("segment",.ref c9),("singles",V.int (jy p a:Nat)),("times",V.int (times p a h:Nat))]):=by rw[N];exact aB
   have gl:pW zP H6 q dx fs p rk rl rf rs:=by rw[N];exact hZ.upd hh hs
   have hW:H6 D=O (.lst (aq R)):=by rw[N];exact aE (bZ he hh (by intro z;cases z)) he
   have h6:bg [g] H H6:=by rw[N];exact hF.upd byB
   have hI:H6 c9=O (.lst (aq (qo p a))):=by rw[N];exact aE u hJ
   clear N hV he hZ hF hh;refine⟨_,Y,D,Y,⟨_,aj.of hW⟩,λD2 gh=>?_⟩;refine pF (K:=zK) (a:=D) (xs:=aq R) (λv=>decide (v≠V.int (h:Nat))) id gh (aj.of hW) (hz _ (by rw[aM];lia)) ?_ ?_
   .rintro i x hi H7 Nx Nn s7 m1 m2;rw[bM]at hi;obtain⟨c,hc,rfl⟩:=eZ.mp hi;refine⟨Y,_,Y,_,Y,Y,_,Y,?_⟩;by_cases z:V.int (c:Nat)=V.int (h:Nat)
    .rw[bJ z];exact cJ (m2 (by simp[z]) H7 (aG.refl H7))
    .rw[bP z];exact bR ⟨_,Y,m1 (by simp[z]) H7 (aG.refl H7)⟩
   .intro H7 s7 hb;rw[ab']at hb;obtain⟨M,hO⟩:∃M,M=R.filter (· != h):=⟨_,Y⟩;rw[<-hO]at hb;have gt:J M<=32:=by rw[hO];have:=oM (· != h) R;lia
    have gk:=gl.same s7;have hN:=s7 _ _ gf;have hE:bg [g] H H7:=h6.same s7;refine⟨_,Y,D2,Y,⟨_,aj.of hb⟩,λD3 T=>?_⟩;have gg:∀g∈M,g∈cj (dM p a):=λg hg=>by rw[hO,hR]at hg;exact(jk.mp hg).1
    refine pF (K:=zK) (a:=D2) (xs:=aq M) (λv=>match v with|.int i=>met p a i.toNat|_=>false) (λv=>match v with|.int i=>V.int (jP p i.toNat:Nat)|_=>.az) T (aj.of hb) (hz _ (by rw[aM];lia)) ?_ ?_
    .rintro i x hi H8 Nx Nn s8 m1 m2;rw[bM]at hi;obtain⟨c,hc,rfl⟩:=eZ.mp hi;have hT:=dm hc;have hn:=gk.same s8;have ht:=BY (gg c hT);obtain⟨z1,z2,z3⟩:=vF.mp ht;have hM:c∈iy p:=GO.mpr ⟨z1,z3⟩;have h9:bU (eF p (J p)) (bx (c:Int))=O (V.int (firstOf p c:Nat)):=by unfold eF;rw[kK,uN,aD hM]
     refine⟨Y,_,Y,hn.ins,Z.tP,W.R4,_,Y,rf,_,Y,.inl ⟨_,bx (c:Int),.inl hn.firsts,Y,h9.symm⟩,_,Y,_,_,Y,Y,_,Y,?_⟩;have hP:=BD (p:=p) (h:=c) (a:=a) ⟨z1,z3⟩;by_cases zz:met p a c=true
     .rw[bJ (show((firstOf p c:Nat):Int)<(a:Int) by have:=hP.mpr zz;lia)];have gc:c∈known p a h:=by unfold known;rw[<-hR,<-hO];exact jk.mpr ⟨hT,zz⟩
      have h8:bU (oY p) (bx (c:Int))=O (V.int (jP p c:Nat)):=by rw[uM,aat gc];rfl
      exact bR ⟨_,Y,hn.ins,Z.tP,W.RK,_,Y,rs,_,Y,.inl ⟨_,bx (c:Int),.inl hn.slots,Y,h8.symm⟩,m1 zz H8 (aG.refl H8)⟩
     .exact dD (show ¬((firstOf p c:Nat):Int)<(a:Int) by intro y;exact zz (hP.mp byA)) (m2 (by simpa using zz) H8 (aG.refl H8))
    .intro H8 s8 hB;have ek:((aq M).filter (λv=>match v with|.int i=>met p a i.toNat|_=>false)).map (λv=>match v with|.int i=>V.int (jP p i.toNat:Nat)|_=>.az)=aq ((known p a h).map (jP p)):=by unfold known;rw[<-hR,<-hO];exact wO M (met p a) (jP p) _ _ (λn _=>Y) (λn _=>Y)
     rw[ek]at hB;have hy:=s8 _ _ hN;refine⟨_,Y,hy,Z.tG,dI 3 Y,?_⟩;have hp:=s8 _ _ hb;have h5:bg [g] H H8:=hE.same s8;obtain⟨H9,I⟩:∃h',h'=upd H8 g (.ins zG dg (aR "known" (V.ref D3) [("segment",.ref c9),("singles",V.int (jy p a:Nat)),("times",V.int (times p a h:Nat))])):=⟨_,Y⟩;rw[<-I];have hx:H9 g=O (.ins zG dg [("segment",.ref c9),("singles",V.int (jy p a:Nat)),("times",V.int (times p a h:Nat)),("known",V.ref D3)]):=by rw[I];exact aB
     have hf:H9 D3=O (.lst (aq ((known p a h).map (jP p)))):=by rw[I];exact aE (bZ hB hy (by intro z;cases z)) hB
     have hX:H9 D2=O (.lst (aq M)):=by rw[I];exact aE (bZ hp hy (by intro z;cases z)) hp
     have h4:bg [g] H H9:=by rw[I];exact h5.upd byB
     have hH:H9 c9=O (.lst (aq (qo p a))):=by rw[I];exact aE u (s8 _ _ (s7 _ _ hI))
     refine⟨_,Y,hx,Z.tG,Y,.inl (aj.of hf),_,Y,.inl (aj.of hX),Y,_,Y,hx,Z.tG,dI 4 Y,?_⟩;have e9:decide (V.int ((J (aq ((known p a h).map (jP p))):Nat):Int)=V.int ((J (aq M):Nat):Int))=qm p a h:=by
      unfold qm;rw[<-hR,<-hO,aM,aM,aM];by_cases z:J (known p a h)=J M
      .rw[bJ z,bJ (by rw[z])]
      .rw[bP z,bP (by intro y;injection y with y;lia)]
     rw[e9];have gj:H D3=U:=by
      cases h7:H D3 with
      |none=>rfl
      |some o=>
       by_cases z:D3=g
       .rw[z,hN]at T;cases T
       .have:=hE D3 o h7 (by simp;exact z);rw[T]at this;cases this
     refine k _ c9 D3 gi gj ⟨dg,aB,aE u hH,aE (bZ hf hx (by intro z;cases z)) hf⟩ ?_;intro b o e ne;exact aE ne (h4 b o e (by simp;exact ne))
end
end Hs
end
section
namespace Hs
open PySem L2
open Sh (Node Pat Raw)
theorem DJ{W:Type}{a b c:W}{r:List W}:aH 0 (a::b::c::r)=a::aH 0 r/\aH 1 (a::b::c::r)=b::aH 1 r/\aH 2 (a::b::c::r)=c::aH 2 r:=by
 have Z:∀(k:Nat)(x:W),k<3->(a::b::c::r)[k]?=O x->aH k (a::b::c::r)=x::aH k r:=by
  intro k x U hx;unfold aH;have e:(J (a::b::c::r)-k+2)/3=(J r-k+2)/3+1:=by simp;lia
  rw[e,yL,fR];have:(a::b::c::r)[k+3*0]?=O x:=hx;rw[this];simp only;congr 1;rw[Uo];apply fq (λf=>afa f _);funext i;show(a::b::c::r)[k+3*(i+1)]?=_;have:k+3*(i+1)=(k+3*i)+3:=by lia
  rw[this];rfl
 exact⟨Z 0 a byA Y,Z 1 b byA Y,Z 2 c byA Y⟩
theorem sS:aH k ([]:List α)=[]:=by unfold aH;rw[ae'];intro i _;simp
theorem Bq{Z:Type}{M:List Z->Prop}(W:M [])(Y:∀a b c r,J r%3=0->M r->M (a::b::c::r)):∀(n:Nat)(l:List Z),J l<=n->J l%3=0->M l
 |_,[],_,_=>W
 |_,[_],_,h=>by simp at h
 |_,[_,_],_,h=>by simp at h
 |0,a::b::c::r,hl,_=>by simp at hl
 |n+1,a::b::c::r,hl,h=>Y a b c r (by simp at h;lia) (Bq W Y n r (by simp at hl;lia) (by simp at h;lia))
theorem u9:∀{ns:List Int},J ns%3=0->(iF (nats ns)).map (·.kind)=nats (aH 0 ns)/\(iF (nats ns)).map (·.label)=nats (aH 1 ns)/\(iF (nats ns)).map (·.kids)=nats (aH 2 ns):=by
 intro ns h;refine Bq (M:=λns=>(iF (nats ns)).map (·.kind)=nats (aH 0 ns)/\(iF (nats ns)).map (·.label)=nats (aH 1 ns)/\(iF (nats ns)).map (·.kids)=nats (aH 2 ns)) ?_ ?_ (J ns) ns (aU _) h
 .rw[sS,sS,sS];exact⟨Y,Y,Y⟩
 .intro a b c r _ ⟨h1,h2,h3⟩;obtain⟨e1,e2,e3⟩:=DJ;have er:iF (nats (a::b::c::r))=⟨a.toNat,b.toNat,c.toNat⟩::iF (nats r):=rfl;rw[er,e1,e2,e3];refine⟨?_,?_,?_⟩
  .rw[bL,h1];rfl
  .rw[bL,h2];rfl
  .rw[bL,h3];rfl
def bY(ns:List Int):List Pat:=(iF (nats ns)).filterMap nc
theorem Pj(R:x.kind<=2)(S:x.kind≠0->x.kids=0):∃q,nc x=O q/\kindOf q=x.kind/\d8 q=x.label/\q.kids=x.kids:=by
 unfold nc;by_cases W:x.kind=0
 .rw[aD W];exact⟨_,Y,W.symm,Y,Y⟩
 .have Z:=S W;rw[ao W];by_cases U:x.kind=1
  .rw[aD ⟨U,Z⟩];exact⟨_,Y,U.symm,Y,Z.symm⟩
  .have T:x.kind=2:=by lia
   rw[ao (λz=>U z.1),aD ⟨T,Z⟩];exact⟨_,Y,T.symm,Y,Z.symm⟩
theorem Zb(h:nc x=O q):x.kind<=2/\(x.kind≠0->x.kids=0):=by
 unfold nc at h;split at h
 .rename_i k;exact⟨byA,λz=>absurd k z⟩
 .split at h
  .rename_i _ k;exact⟨byA,λ_=>k.2⟩
  .split at h
   .rename_i _ _ k;exact⟨byA,λ_=>k.2⟩
   .cases h
theorem BA:∀{l:List Raw},(∀x∈l,x.kind<=2/\(x.kind≠0->x.kids=0))->(l.filterMap nc).map kindOf=l.map (·.kind)/\(l.filterMap nc).map d8=l.map (·.label)/\(l.filterMap nc).map (·.kids)=l.map (·.kids)
 |[],_=>⟨rfl,rfl,rfl⟩
 |x::l,h=>by obtain⟨q,e,e1,e2,T⟩:=Pj (h x byB).1 (h x byB).2;obtain⟨W,Y,Z⟩:=BA λy U=>h y (dR _ U);rw[fR,e];simp only[bL];exact⟨by rw[e1,W],by rw[e2,Y],by rw[T,Z]⟩
theorem zv:∀{ns:List Int},J ns%3=0->(∀n∈ns,0<=n)->(((mK (aH 0 ns) (aH 2 ns)).all λp=>decide (¬(2<p.1\/(p.1≠0/\p.2≠0))))=true↔∀x∈iF (nats ns),x.kind<=2/\(x.kind≠0->x.kids=0)):=by
 intro ns h;refine Bq (M:=λns=>(∀n∈ns,0<=n)->(((mK (aH 0 ns) (aH 2 ns)).all λp=>decide (¬(2<p.1\/(p.1≠0/\p.2≠0))))=true↔∀x∈iF (nats ns),x.kind<=2/\(x.kind≠0->x.kids=0))) ?_ ?_ (J ns) ns (aU _) h
 .intro _;rw[sS,sS];simp[nats,iF]
 .intro a b c r _ Y U;obtain⟨e1,e2,R⟩:=DJ;have S:iF (nats (a::b::c::r))=⟨a.toNat,b.toNat,c.toNat⟩::iF (nats r):=rfl;have Y:=Y λn W=>U n (by simp[W]);have ha:=U a byB;have P:=U c byB;rw[S,e1,R,wk,yV,eO,Y,m9];constructor
  .rintro⟨Z,T⟩ x hx;rcases bE.mp hx with y|y
   .subst y;exact⟨by show a.toNat<=2;lia,λy=>by show c.toNat=0;have y:=y;lia⟩
   .exact T x y
  .intro z;refine⟨?_,λx hx=>z x (dR _ hx)⟩;have Z:=z ⟨a.toNat,b.toNat,c.toNat⟩ (mL ..);have T:=Z.1;have Q:=Z.2;lia
structure aeF(ns:List Int):Prop where
 kinds:(bY ns).map kindOf=nats (aH 0 ns)
 dS:(bY ns).map d8=nats (aH 1 ns)
 kids:aY (bY ns)=nats (aH 2 ns)
 len:J (bY ns)=J ns/3
 whole:nY 1 (bY ns)=true
theorem o6:fh ns=true↔J ns<=96/\iX ns=true/\(aH 0 ns)[0]?≠O 2/\((mK (aH 0 ns) (aH 2 ns)).all λp=>decide (¬(2<p.1\/(p.1≠0/\p.2≠0))))=true:=by unfold fh;simp only[eO,m9,and_assoc]
theorem rG:iX ns=true↔J ns%3=0/\dz 1 (nats (aH 2 ns))=true:=by unfold iX;simp only[eO,m9]
theorem xD(h:fh ns=true)(T:∀n∈ns,0<=n):aeF ns:=by obtain⟨L,Q,M,R⟩:=o6.mp h;obtain⟨Z,S⟩:=rG.mp Q;obtain⟨U,W,Y⟩:=u9 Z;obtain⟨N,O,P⟩:=BA ((zv Z T).mp R);have k:aY (bY ns)=nats (aH 2 ns):=P.trans Y;refine⟨N.trans U,O.trans W,k,?_,by rw[wK];show dz 1 (aY _)=true;rw[k];exact S⟩;have:=fq yQ k;rw[g_]at this;rw[this];unfold nats;rw[aM,kC Z byA]
end Hs
end
section
namespace Hs
open PySem PySem.Spec PyProof.Rows L2
open Sh (Node Pat)
def ig(p:aa)(H H':Hp):Prop:=∀b o,H b=O o->b≠p->H' b=O o
theorem ig.trans(a:ig p H H1)(b:ig p H1 H2):ig p H H2:=λc o e n=>b c o (a c o e n) n
theorem ig.of(s:aG H H'):ig p H H':=λb o e _=>s b o e
theorem mj(W:H p=O (.ins C dx fs))(Z:H r=U):∃H',H'=upd (upd H r o) p (.ins C dx fs')/\H' p=O (.ins C dx fs')/\ig p H H'/\H' r=O o/\r≠p:=by
 have n:r≠p:=λz=>by rw[z,W]at Z;cases Z
 exact⟨_,Y,aB,λb o e ne=>aE ne (aT Z b o e),aE n aB,n⟩
theorem jb.kp(L:jb H cs rr ra rp)(W:H p=O (.ins C dx fs))(k:ig p H H'):jb H' cs rr ra rp:=by obtain⟨as,Y⟩:=L.rows;have Z:∀{l:List V}{b:aa},H b=O (.lst l)->b≠p:=λe=>bZ e W (by intro z;cases z);exact⟨⟨as,k _ _ Y.lst (Z Y.lst),Y.len,λi b e=>k _ _ (Y.at_ i b e) (Z (Y.at_ i b e))⟩,k _ _ L.above (Z L.above),k _ _ L.places (Z L.places)⟩
theorem jb.aaF(L:jb H cs rr ra rp)(k:bg X H H')(W:∀x∈X,∃kvs,H x=O (.dK kvs)):jb H' cs rr ra rp:=by
 obtain⟨as,Y⟩:=L.rows;have Z:∀{l:List V}{b:aa},H b=O (.lst l)->b∉X:=λe z=>by obtain⟨kvs,h⟩:=W _ z;rw[e]at h;cases h
 exact⟨⟨as,k _ _ Y.lst (Z Y.lst),Y.len,λi b e=>k _ _ (Y.at_ i b e) (Z (Y.at_ i b e))⟩,k _ _ L.above (Z L.above),k _ _ L.places (Z L.places)⟩
theorem jb.same(L:jb H cs rr ra rp)(k:aG H H'):jb H' cs rr ra rp:=by obtain⟨as,Z⟩:=L.rows;exact⟨⟨as,k _ _ Z.lst,Z.len,λi b e=>k _ _ (Z.at_ i b e)⟩,k _ _ L.above,k _ _ L.places⟩
theorem yE.same(h:yE C H q dx fs p rr ra rp rk rl rf rs)(s:aG H H'):yE C H' q dx fs p rr ra rp rk rl rf rs:=
 ⟨s _ _ h.ins,h.RL,h.R7,h.RN,h.HC,h.HB,h.R4,h.RK,h.lay.same s,s _ _ h.kinds,s _ _ h.dS,s _ _ h.firsts,s _ _ h.slots⟩
theorem qS.same(G:qS CG H g c9 f_ p a h)(s:aG H H'):qS CG H' g c9 f_ p a h:=by obtain⟨dg,W,Y,Z⟩:=G;exact⟨dg,s _ _ W,s _ _ Y,s _ _ Z⟩
theorem qS.upd(G:qS CG H g c9 f_ p a h)(Y:g≠D)(Z:c9≠D/\f_≠D):qS CG (L2.upd H D o) g c9 f_ p a h:=by obtain⟨dg,T,U,W⟩:=G;exact⟨dg,aE Y T,aE Z.1 U,aE Z.2 W⟩
theorem QW:kindOf q=2↔∃h,q=.row h:=by cases q<;>simp[kindOf]
def Pn(n:Nat)(rk rl rr ra rp iU rf fL rs rsh om oq:aa):List (ak×V):=[("kinds",.ref rk),("labels",.ref rl),("size",.int (n:Nat)),("rows",.ref rr),("above",.ref ra),("places",.ref rp),("holes",.ref iU),("firsts",.ref rf),("lasts",.ref fL),("slots",.ref rs),("shuts",.ref rsh),("halts",.ref om),("gaps",.ref oq)]
def x9(p:List aF):List V:=(p.map λq=>V.bl (decide (kindOf q=2)))++[V.bl true]
structure aeG(C CG:aa)(H:Hp)(q:aa)(p:List aF)(dx rk rl rr ra rp iU rf fL rs rsh om oq:aa)(kl:List (Key×V))(gs:List V):Prop where
 ins:H q=O (.ins C dx (Pn (J p) rk rl rr ra rp iU rf fL rs rsh om oq))
 lay:jb H (aY p) rr ra rp
 Br:H iU=O (.lst (aq (fF p)))
 kinds:H rk=O (.lst (aq (p.map kindOf)))
 dS:H rl=O (.lst (aq (p.map d8)))
 firsts:H rf=O (.dK (eF p (J p)))
 lasts:H fL=O (.dK kl)
 GB:yW p (J p) kl
 slots:H rs=O (.dK (oY p))
 Ai:H rsh=O (.lst (aq (uZ p)))
 halts:H om=O (.lst (x9 p))
 Ht:H oq=O (.lst gs)
 Hr:∀a h,p[a]?=O (.row h)->∃g,gs[a]?=O (.ref g)/\afx CG H g p a h
inductive pX(C CG:aa)(H:Hp)(q:aa)(p:List aF):Prop
 |mk(dx rk rl rr ra rp iU rf fL rs rsh om oq kl gs:_)(_:aeG C CG H q p dx rk rl rr ra rp iU rf fL rs rsh om oq kl gs)
inductive Xo(K:PySem.W.Frag)(C CG:aa)(vs:List V)(H:Hp)(Q:VK)(E_:XK):Prop
 |mk(q a dx:aa)(ns:List Int)(_:vs=[.ref q,.ref a])(_:H q=O (.ins C dx []))(_:H a=O (.lst (bF ns)))(_:(∀n∈ns,0<=n))(_:fh ns=true)(_:∀H':Hp,pX C CG H' q (bY ns)->ig q H H'->Q .az H')
section
theorem P1(Z:HY):Ok 4 17 ["self","numbers"] (Xo zK zP zG):=by
 have GL:=(vo Z (Z.tP.sub byD)).g;have GN:=(P6 Z).g;have GS:=(PM Z).g;have GG:=(Qg Z).g;refine Z.K1.Go ["self","numbers","kind","at"] λcdv A outer s H vs Q E hr nd h=>?_
 .obtain⟨q,a,dx,ns,rfl,hq,ha,h6,L,k⟩:=h;have hK:bS 1 _:=hr.mono byD;obtain⟨t3,g3⟩:=Z.G.wY;obtain⟨t4,g4⟩:=Z.G.node;refine⟨_,(aA (iW (Pf byC Z.A0 Z.cf GL hK (vo Z Z.tR).b .nil bq (af (pv 0) (af (pv 1) ay))))
   (aA (dP (pv 0) (mV Y nd (ou byC Z.B.range (af (aC (pv 0)) ay)) (k9 (by show j5 ["self","numbers","kind","at"] (h_ xq) _ [("at",3)]=true;decide +kernel)) (λ_ _ _ _ _=>(dB 3 nd)) (λ_ _ _ _ _=>vd (bK lI (aN (vP zK) (rB zK (pv 0) Y) (pv 3)) (eY (v:=.int 0) byC g4 ⟨_,Y⟩) (bB _))) (λ_ _ _ _ _=>(pv 3))) Y)
   (aA (dP (pv 0) qv Y)
   (aA (dP (pv 0) qv Y)
   (aA (dP (pv 0) qv Y)
   (aA (iW (mU (pv 0) Z.tP.cl Z.Gj GN hK (P6 Z).b .nil bq))
   (aA (dP (pv 0) (mU (pv 0) Z.tP.cl Z.Gk GS hK (PM Z).b .nil bq) Y)
   (aA (dP (pv 0) (dh xG (mV Y nd (jm (aC (pv 0))) (k9 (by show j5 ["self","numbers","kind","at"] (h_ xq) _ [("kind",2)]=true;decide +kernel)) (λ_ _ _ _ _=>(dB 2 nd)) (λ_ _ _ _ _=>o8) (λ_ _ _ _ _=>(qw eW (pv 2) (eY (v:=.int 2) byC g3 ⟨_,Y⟩) (bB _)))) (dQ (af jn ay))) Y)
   (aJ (dP (pv 0) (mV Y nd (ou byC Z.B.range (af (aC (pv 0)) ay)) (k9 (by show j5 ["self","numbers","kind","at"] (h_ xq) _ [("at",3)]=true;decide +kernel)) (λ_ _ _ _ _=>(dB 3 nd)) (λ_ _ _ _ _=>o8) (λ_ _ _ _ _=>(l6 (jB (aN (vP zK) (rB zK (pv 0) Y) (pv 3)) byF) (vf Z.aaM GG hr byC Z.Fx (Qg Z).b .nil bq (af (pv 0) (af (pv 3) ay))) d7))) Y)))))))))),?_⟩
  dsimp only[xk];have PN:=xD L h6;obtain⟨W,F⟩:∃W,W=bY ns:=⟨_,Y⟩;rw[<-F]at k;have hj:J W<=32:=by have:=PN.len;have:=(o6.mp L).1;rw[F];lia
  have hw:nY 1 W=true:=by rw[F];exact PN.whole
  have h8:=(rG.mp (o6.mp L).2.1).1;have gE:=(o6.mp L).1;have e2:aH 2 (nats ns)=aY W:=by rw[F,PN.kids];exact lD _ _ _
  have e1:aH 1 (nats ns)=W.map d8:=by rw[F,PN.dS];exact lD _ _ _
  have e0:aH 0 (nats ns)=W.map kindOf:=by rw[F,PN.kinds];exact lD _ _ _
  have h7:J (nats ns)=J ns:=by unfold nats;simp
  refine⟨_,Y,_,Y,q,a,dx,nats ns,Y,hq,by rw[ha,DC h6],by rw[h7];exact h8,by rw[e2];exact kF hw,by rw[h7];lia,λH1 u j rr ra rp N w2 w3 hL hB=>?_⟩;rw[e2,g_]at N;rw[e2]at hL;rw[e0]at w2;rw[e1]at w3;have n2:=bZ w2 N (by intro z;cases z);have n3:=bZ w3 N (by intro z;cases z);have hz:∀l:List V,J l<=40->J l<sizeLine:=λl h=>by rw[c8];lia
  refine⟨_,Y,N,Z.tP,Y,_,Y,byA,byA,λiU h0=>?_⟩;rw[lA];refine aan (λv=>match v with|.int i=>isHole W i.toNat|_=>false) id h0 (by rw[c8];lia) ?_ ?_
  .rintro i hi H3 Nx Nn s3 m1 m2;refine⟨Y,_,Y,s3 _ _ N,Z.tP,Y,_,Y,aj.of (s3 _ _ w2),cU (by rw[bM,aX hi];rfl),Y,_,Y,?_⟩;have ei:isHole W i=decide (kindOf W[i]≠0):=by unfold isHole;rw[aX hi];cases W[i]<;>rfl
   by_cases c:kindOf W[i]=0
   .rw[bJ (show V.int ((kindOf W[i]:Nat):Int)=V.int 0 by rw[c];rfl)];exact cJ (m2 (by show isHole W i=false;rw[ei];simp[c]) H3 (aG.refl H3))
   .rw[bP (show ¬V.int ((kindOf W[i]:Nat):Int)=V.int 0 by intro y;injection y with y;lia)];exact bR ⟨_,Y,m1 (by show isHole W i=true;rw[ei];simp[c]) H3 (aG.refl H3)⟩
  intro H2 s2 M;have gx:(((bA (J W)).map λi=>V.int (i:Nat)).filter (λv=>match v with|.int i=>isHole W i.toNat|_=>false)).map id=aq (fF W):=by
   have:=wO (bA (J W)) (isHole W) id (λv=>match v with|.int i=>isHole W i.toNat|_=>false) id (λn _=>Y) (λn _=>Y)
   rwa [Uc (l:=(bA (J W)).filter (isHole W))]at this
  rw[gx]at M;have h4:=s2 _ _ N;refine⟨_,Y,h4,Z.tP,dI 6 Y,?_⟩;have K:=bZ M h4 (by intro z;cases z);obtain⟨H3,hA⟩:∃h,h=upd H2 q (.ins zP dx (aR "holes" (.ref iU) (jf (J W) u j rr ra rp))):=⟨_,Y⟩;rw[<-hA];have hP:H3 q=O (.ins zP dx (aR "holes" (.ref iU) (jf (J W) u j rr ra rp))):=by rw[hA];exact aB
  have hn:ig q H1 H3:=λb o e ne=>by rw[hA];exact aE ne (s2 b o e)
  have gi:H3 iU=O (.lst (aq (fF W))):=by rw[hA];exact aE K M
  refine λw hJ=>?_;refine⟨_,Y,aE (aQ hP hJ) hP,Z.tP,dI 7 Y,?_⟩;obtain⟨H4,gw,hO,hI,w4,n4⟩:=mj hP hJ;rw[<-gw];refine λr5 hp=>?_;refine⟨_,Y,aE (aQ hO hp) hO,Z.tP,dI 8 Y,?_⟩;obtain⟨H5,gv,hN,d,w5,n5⟩:=mj hO hp;rw[<-gv];refine λC he=>?_;refine⟨_,Y,aE (aQ hN he) hN,Z.tP,dI 9 Y,?_⟩;obtain⟨H6,gu,hM,hm,w6,n6⟩:=mj hN he;rw[<-gu];have ho:=hn.trans (hI.trans (d.trans hm));have x2:=ho _ _ w2 n2;have x3:=ho _ _ w3 n3;have hH:=hm _ _ (d _ _ (hI _ _ gi K) K) K;have x4:=hm _ _ (d _ _ w4 n4) n4;have x5:=hm _ _ w5 n5;have gt:=hL.kp N ho;have gB:=aQ w4 hp;have gA:=aQ (d _ _ w4 n4) he;have gz:=aQ w5 he;refine⟨_,Y,hM,Y,q,dx,iU,j,w,r5,C,_,W,Y,hM,Y,Y,Y,Y,Y,hH,x3,x4,x5,w6,gB,gA,gz,hj,λH7 kl I y4 y5 gp y6=>?_⟩;have hX:∀x∈[w,r5,C],∃kvs,H6 x=O (.dK kvs):=by
   intro x hx;simp only[bE,fH,fM]at hx;rcases hx with z|z|z
   .rw[z];exact⟨_,x4⟩
   .rw[z];exact⟨_,x5⟩
   .rw[z];exact⟨_,w6⟩
  have nX:∀{l:List V}{b:aa},H6 b=O (.lst l)->b∉[w,r5,C]:=λe z=>by obtain⟨kvs,h⟩:=hX _ z;rw[e]at h;cases h
  have hs:=I _ _ hM (by simp;exact⟨cO n4,cO n5,cO n6⟩);have y2:=I _ _ x2 (nX x2);have y3:=I _ _ x3 (nX x3);have gh:=I _ _ hH (nX hH);have h9:=gt.aaF I hX;have f6:∀b o,H b=O o->b≠q->b∉[w,r5,C]:=by intro b o e ne;have g1:=hB b o e ne;have g3:=hn b o g1 ne;have g4:=hI b o g3 ne;have g5:=d b o g4 ne;simp only[bE,fH,fM,fS];exact⟨aQ g3 hJ,aQ g4 hp,aQ g5 he⟩
  have gl:ig q H H7:=λb o e ne=>I b o (ho b o (hB b o e ne) ne) (f6 b o e ne);refine⟨_,Y,hs,Y,q,dx,ra,u,_,W,Y,hs,Y,Y,Y,h9.above,y2,hw,hj,λH8 r7 s8 z7=>?_⟩;have h3:=s8 _ _ hs;refine⟨_,Y,h3,Z.tP,dI 10 Y,?_⟩;have n7:=bZ z7 h3 (by intro z;cases z);obtain⟨H9,hy⟩:∃h,h=upd H8 q (.ins zP dx (aR "shuts" (.ref r7) (aR "slots" (.ref C) (aR "lasts" (.ref r5) (aR "firsts" (.ref w) (aR "holes" (.ref iU) (jf (J W) u j rr ra rp))))))):=⟨_,Y⟩;rw[<-hy];have h2:H9 q=O (.ins zP dx (aR "shuts" (.ref r7) (aR "slots" (.ref C) (aR "lasts" (.ref r5) (aR "firsts" (.ref w) (aR "holes" (.ref iU) (jf (J W) u j rr ra rp))))))):=by rw[hy];exact aB
  have hY:ig q H7 H9:=λb o e ne=>by rw[hy];exact aE ne (s8 b o e)
  have gg:H9 r7=O (.lst (aq (uZ W))):=by rw[hy];exact aE n7 z7
  have z2:=hY _ _ y2 n2;refine⟨_,Y,h2,Z.tP,Y,u,Y,⟨_,aj.of z2⟩,λD hD=>?_⟩;refine pF (λ_=>true) (λv=>V.bl (decide (v=V.int 2))) hD (aj.of z2) (hz _ (by rw[aM,aM];lia)) ?_ ?_
  .rintro i x hi H3 Nx Nn s3 m1 m2;rw[bM]at hi;obtain⟨c,hc,rfl⟩:=eZ.mp hi;exact⟨Y,_,Y,Y,m1 Y H3 (aG.refl H3)⟩
  intro gC gk hl;have eh:((aq (W.map kindOf)).filter λ_=>true).map (λv=>V.bl (decide (v=V.int 2)))=W.map λq=>V.bl (decide (kindOf q=2)):=by
   rw[yT.mpr (λ_ _=>rfl)];rw[iZ,iZ];apply kj;intro x _;show V.bl (decide (V.int ((kindOf x:Nat):Int)=V.int 2))=_;congr 1;by_cases c:kindOf x=2
   .rw[bJ c,bJ (by rw[c];rfl)]
   .rw[bP c,bP (by intro y;injection y with y;lia)]
  rw[eh]at hl;refine⟨(by show 1<=bf;decide),λhS hE=>⟨D,hS,_,_,Y,Y,aE (aQ hl hE) hl,aB,by rw[aM,c8];show J W+1<=_;lia,λr8 h1=>?_⟩⟩;have hT:aG H9 (upd gC hS (.lst [V.bl true])):=gk.trans (aT hE);have hg:=hT _ _ h2;refine⟨_,Y,aE (aQ hg h1) hg,Z.tP,dI 11 Y,?_⟩;obtain⟨gf,ga,hf,hW,w8,n8⟩:=mj hg h1;have hQ:=ga;rw[<-hQ];have hC:=(ig.of hT).trans hW;have R:=hY.trans hC;have PP:yE zP gf q dx (aR "halts" (.ref r8) (aR "shuts" (.ref r7) (aR "slots" (.ref C) (aR "lasts" (.ref r5) (aR "firsts" (.ref w) (aR "holes" (.ref iU) (jf (J W) u j rr ra rp))))))) W rr ra rp u j w C:=
   ⟨hf,rfl,rfl,rfl,rfl,rfl,rfl,rfl,h9.kp hs R,R _ _ y2 n2,R _ _ y3 n3,R _ _ y4 n4,R _ _ y6 n6⟩
  have v5:=R _ _ y5 n5;have v7:=hC _ _ gg n7;have gj:=R _ _ gh K;have hZ:=gl.trans R;refine⟨_,Y,hf,Z.tP,Y,_,Y,byA,byA,λD2 M=>?_⟩;refine Gx (λi H'=>aG gf H'/\∃gs:List V,H' D2=O (.lst gs)/\J gs=i/\∀a h,a<i->W[a]?=O (.row h)->∃g c9 f_,gs[a]?=O (.ref g)/\(c9≠D2/\f_≠D2)/\qS zG H' g c9 f_ W a h)
   ⟨aT M,[],aB,rfl,λa h z=>by lia⟩ ?_ ?_
  .rintro i H' hi ⟨s1,gs,P,hu,ht⟩;have e0:(0:Int)+(i:Nat)=(i:Nat):=by lia
   rw[e0];refine⟨Y,_,Y,s1 _ _ hf,Z.tP,Y,_,Y,aj.of (s1 _ _ w8),bQ (by show(x9 W)[i]?=_;unfold x9;rw[fJ (by simpa using hi),bM,aX hi];rfl),_,Y,?_⟩;by_cases c:kindOf W[i]=2
   .refine dW c ?_;obtain⟨h,hh⟩:=QW.mp c;have hb:W[i]?=O (.row h):=by rw[aX hi,hh]
    refine⟨_,Y,_,Y,λx dg hx gq gD=>?_⟩;have U:=PP.same s1;have s2:aG H' (upd (upd H' dg (.own x)) x (.ins zG dg [])):=λb o e=>aE (aQ e hx) (aE (aQ e gq) e);refine⟨x,q,dg,dx,rr,ra,rp,u,j,w,C,_,W,i,h,Y,aB,U.same s2,(λz=>by rw[z,U.ins]at hx;cases hx),hw,hj,hb,λH3 c9 f_ gc gb hG hn=>⟨Y,?_⟩⟩;have s3:aG H' H3:=λb o e=>hn b o (s2 b o e) (aQ e hx);have hF:=s3 _ _ P;have hV:c9≠D2/\f_≠D2:=⟨λz=>(by rw[z,s2 _ _ P]at gc;cases gc),λz=>(by rw[z,s2 _ _ P]at gb;cases gb)⟩;refine⟨gs,hF,hz _ byA,?_,gs++[.ref x],aB,by simp[hu],?_⟩
    .exact λb o e=>aE (aQ e M) (s3 b o (s1 b o e))
    .intro a' h' gr S;by_cases z:a'<i
     .obtain⟨g,m,p,y1,y2,y3⟩:=ht a' h' z S;refine⟨g,m,p,by rw[fJ byA];exact y1,y2,(y3.same s3).upd ?_ y2⟩;obtain⟨_,r,_,_⟩:=y3;exact bZ r P (by intro z;cases z)
     .have:a'=i:=by lia
      subst this;rw[hb]at S;have:h'=h:=by injection S with S;injection S with S;exact S.symm
      subst this;refine⟨x,c9,f_,by rw[kq byA];simp[hu],hV,hG.upd ?_ hV⟩;obtain⟨_,r,_,_⟩:=hG;exact bZ r hF (by intro z;cases z)
   .refine dD c ?_;refine⟨gs,P,hz _ byA,?_,gs++[.az],aB,by simp[hu],?_⟩
    .exact λb o e=>aE (aQ e M) (s1 b o e)
    .intro a' h' gr S;by_cases z:a'<i
     .obtain⟨g,m,p,y1,y2,y3⟩:=ht a' h' z S;refine⟨g,m,p,by rw[fJ byA];exact y1,y2,y3.upd ?_ y2⟩;obtain⟨_,r,_,_⟩:=y3;exact bZ r P (by intro z;cases z)
     .have:a'=i:=by lia
      subst this;rw[aX hi]at S;exact absurd (QW.mpr ⟨h',bH S⟩) c
  .rintro H' ⟨s1,gs,P,hu,ht⟩;have U:=PP.same s1;refine⟨_,Y,U.ins,Z.tP,dI 12 Y,?_⟩;have f:∀{l:List V}{b:aa},H' b=O (.lst l)->b≠q:=λe=>bZ e U.ins (by intro z;cases z);have hU:∀{l:List (Key×V)}{b:aa},H' b=O (.dK l)->b≠q:=λe=>bZ e U.ins (by intro z;cases z);obtain⟨gd,hk⟩:∃h,h=upd H' q (.ins zP dx (aR "gaps" (.ref D2) (aR "halts" (.ref r8) (aR "shuts" (.ref r7) (aR "slots" (.ref C) (aR "lasts" (.ref r5) (aR "firsts" (.ref w) (aR "holes" (.ref iU) (jf (J W) u j rr ra rp))))))))):=⟨_,Y⟩;rw[<-hk];have h5:gd q=O (.ins zP dx (Pn (J W) u j rr ra rp iU w r5 C r7 r8 D2)):=by rw[hk];exact aB
   have T:ig q H' gd:=λb o e ne=>by rw[hk];exact aE ne e
   refine k _ ⟨dx,u,j,rr,ra,rp,iU,w,r5,C,r7,r8,D2,kl,gs,h5,U.lay.kp U.ins T,T _ _ (s1 _ _ gj) K,T _ _ U.kinds (f U.kinds),T _ _ U.dS (f U.dS),T _ _ U.firsts (hU U.firsts),T _ _ (s1 _ _ v5) n5,gp,T _ _ U.slots (hU U.slots),T _ _ (s1 _ _ v7) n7,T _ _ (s1 _ _ w8) n8,T _ _ P (f P),?_⟩ ?_
   .intro a' h' S;have gm:=(cV.mp S).1;obtain⟨g,m,p,y1,y2,gy,r,z2,hR⟩:=ht a' h' gm S;have ng:g≠q:=by
     intro z;rw[z,U.ins]at r;injection r with r
     injection r with z3 z4 z5
     have z6:(12:Nat)=5:=fq yQ z5;lia
    exact⟨g,y1,m,p,gy,T _ _ r ng,T _ _ z2 (f z2),T _ _ hR (f hR)⟩
   .exact hZ.trans ((ig.of s1).trans T)
end
def jg:HV->Hn.NK
 |.az=>.az
 |.one n=>.int (n:Nat)
 |.row l=>.tup (l.map λn=>Hn.NK.int (n:Nat))
def rP(l:List HV):Hn.NK:=.tup (l.map jg)
def lY(s:Spot):Hn.NK:=.tup [.int (s.at_:Nat),.int (s.node:Nat),.int (s.index:Nat),rP s.held]
theorem abn:∀{a b:HV},jg a=jg b->a=b
 |.az,.az,_=>rfl
 |.az,.one _,e=>by simp[jg]at e
 |.az,.row _,e=>by simp[jg]at e
 |.one _,.az,e=>by simp[jg]at e
 |.one n,.one m,e=>by
  have e:=e;injection e with e
  rw[oO e]
 |.one _,.row _,e=>by simp[jg]at e
 |.row _,.az,e=>by simp[jg]at e
 |.row _,.one _,e=>by simp[jg]at e
 |.row a,.row b,e=>by
  have e:=e;injection e with e
  rw[GW e]
theorem G0:∀{a b:List HV},a.map jg=b.map jg->a=b
 |[],[],_=>rfl
 |[],_::_,e=>by simp at e
 |_::_,[],e=>by simp at e
 |x::a,y::b,e=>by
  rw[bL,bL]at e;injection e with e1 e2
  rw[abn e1,G0 e2]
theorem MO(e:lY a=lY b):a=b:=by
 obtain⟨O,P,Q,R⟩:=a;obtain⟨S,T,U,W⟩:=b;unfold lY rP at e;simp only at e;injection e with e
 injection e with e1 e
 injection e with e2 e
 injection e with Y e
 injection e with Z e
 injection e1 with e1
 injection e2 with e2
 injection Y with Y
 injection Z with Z
 rw[oO e1,oO e2,oO Y,G0 Z]
theorem abo(v:HV):(jg v).dep<=1:=by
 cases v with
 |az=>exact cI _
 |one n=>exact cI _
 |row l=>show Hn.NK.dep.oG (l.map _)+1<=1;rw[IZ];exact aU _
theorem Rx(l:List HV):(rP l).dep<=2:=by
 have:∀l:List HV,Hn.NK.dep.oG (l.map jg)<=1:=by
  intro l
  induction l with
  |nil=>exact cI _
  |cons x l Z=>exact Nat.max_le.mpr ⟨abo x,Z⟩
 exact Nat.succ_le_succ (this l)
theorem WV(s:Spot):(lY s).dep<=8:=by have:=Rx s.held;show max 0 (max 0 (max 0 (max (rP s.held).dep 0)))+1<=8;lia
def jc(H:Hp)(v:V)(x:HV):Prop:=NV H (jg x) v
def iQ(H:Hp)(l:List HV)(xs:List V):Prop:=fG H (l.map jg) xs
inductive HeldAt(H:Hp)(r:aa)(l:List HV):Prop
 |mk(xs:_)(_:H r=O (.tup xs))(_:iQ H l xs)
inductive fB(H:Hp)(b:aa)(s:Spot):Prop
 |mk(r:_)(_:H b=O (.tup [.int (s.at_:Nat),.int (s.node:Nat),.int (s.index:Nat),.ref r]))(_:HeldAt H r s.held)
theorem jc.same(h:jc H v x)(s:aG H H'):jc H' v x:=NV.mono (λb xs e=>s b _ e) h
theorem iQ.same(h:iQ H l xs)(s:aG H H'):iQ H' l xs:=fG.mono (λb xs e=>s b _ e) h
theorem HeldAt.same(h:HeldAt H r l)(s:aG H H'):HeldAt H' r l:=by obtain⟨xs,Y,Z⟩:=h;exact⟨xs,s _ _ Y,Z.same s⟩
theorem fB.same(h:fB H b z)(s:aG H H'):fB H' b z:=by obtain⟨r,Y,Z⟩:=h;exact⟨r,s _ _ Y,Z.same s⟩
theorem HeldAt.tups(h:HeldAt H r l)(s:∀b xs,H b=O (.tup xs)->H' b=O (.tup xs)):HeldAt H' r l:=by obtain⟨xs,Y,Z⟩:=h;exact⟨xs,s _ _ Y,fG.mono s Z⟩
theorem fB.tups(h:fB H b z)(s:∀b xs,H b=O (.tup xs)->H' b=O (.tup xs)):fB H' b z:=by obtain⟨r,Y,Z⟩:=h;exact⟨r,s _ _ Y,Z.tups s⟩
theorem fB.Bo(h:fB H b z):kO H (lY z) b:=by obtain⟨r,U,xs,W,Z⟩:=h;refine⟨WV z,?_⟩;refine⟨b,_,Y,U,?_⟩;refine⟨_,_,Y,by simp[NV],?_⟩;refine⟨_,_,Y,by simp[NV],?_⟩;refine⟨_,_,Y,by simp[NV],?_⟩;refine⟨_,_,Y,?_,by simp[fG]⟩;exact⟨r,xs,Y,W,Z⟩
theorem iQ.len:∀{l:List HV}{xs:List V},iQ H l xs->J xs=J l
 |[],xs,h=>by
  have:xs=[]:=by simpa [iQ,fG]using h
  rw[this];rfl
 |x::l,xs,h=>by unfold iQ at h;rw[bL]at h;obtain⟨v,r,rfl,Y,Z⟩:=h;have:=iQ.len Z;simp[this]
theorem iQ.at_:∀{l:List HV}{xs:List V}{i:Nat},iQ H l xs->i<J l->∃v,xs[i]?=O v/\jc H v (l.getD i .az)
 |[],xs,i,_,hi=>by simp at hi
 |x::l,xs,i,h,hi=>by
  unfold iQ at h;rw[bL]at h;obtain⟨v,r,rfl,U,W⟩:=h;cases i with
  |zero=>exact⟨v,Y,U⟩
  |succ i=>obtain⟨Z,e1,e2⟩:=iQ.at_ W (by simpa using hi);exact⟨Z,e1,e2⟩
theorem iQ.set:∀{l:List HV}{xs:List V}{i:Nat}{v:V}{x:HV},iQ H l xs->jc H v x->i<J l->iQ H (l.set i x) (xs.take i++v::xs.drop (i+1))
 |[],xs,i,_,_,_,_,hi=>by simp at hi
 |y::l,xs,i,v,x,h,hv,hi=>by
  unfold iQ at h;rw[bL]at h;obtain⟨w,r,rfl,W,Z⟩:=h;cases i with
  |zero=>exact⟨v,r,Y,hv,Z⟩
  |succ i=>have:=iQ.set Z hv (by simpa using hi);exact⟨w,_,Y,W,this⟩
theorem iQ.Qv:∀n:Nat,iQ H (cu n .az) (cu n .az)
 |0=>by simp[iQ,fG]
 |n+1=>by exact⟨_,_,Y,by simp[jg,NV],iQ.Qv n⟩
theorem jc.az(h:jc H v x):v=.az↔x=.az:=by
 unfold jc at h;cases x with
 |az=>simp[jg,NV]at h;simp[h]
 |one n=>simp[jg,NV]at h;simp[h]
 |row l=>obtain⟨a,xs,rfl,_⟩:=h;simp
theorem abl:jc H .az .az:=by simp[jc,jg,NV]
theorem Rk(n:Nat):jc H (.int (n:Nat)) (.one n):=by simp[jc,jg,NV]
theorem abk(h:H r=O (.tup (aq l))):jc H (.ref r) (.row l):=by exact⟨r,_,Y,h,JU l⟩
theorem Qs:∀{l:List Nat}{xs:List V},fG H (l.map λn=>Hn.NK.int (n:Nat)) xs->xs=aq l
 |[],xs,h=>by simpa [fG]using h
 |n::l,xs,h=>by
  rw[bL]at h;obtain⟨v,r,rfl,Y,Z⟩:=h;have:v=V.int (n:Nat):=by simpa [NV]using Y
  rw[this,Qs Z];rfl
theorem jc.row(h:jc H v (.row l)):∃r,v=.ref r/\H r=O (.tup (aq l)):=by obtain⟨a,xs,rfl,Z,W⟩:=h;rw[Qs W]at Z;exact⟨a,Y,Z⟩
theorem jc.one(h:jc H v (.one n)):v=.int (n:Nat):=by simpa [jc,jg,NV]using h
def nP:HV->sE
 |.az=>.none
 |.one n=>.int (n:Nat)
 |.row l=>.tuple (l.map λn:Nat=>ux (n:Int))
theorem Sj{K:PySem.W.Frag}{H:Hp}:∀l:List Nat,uG K H (aq l) (l.map λn:Nat=>ux (n:Int))
 |[]=>.nil
 |n::l=>.cons (.int (n:Int)) (Sj l)
theorem jc.dp{K:PySem.W.Frag}{H:Hp}{v:V}{x:HV}(h:jc H v x):Dp K H v (nP x):=by
 cases x with
 |az=>rw[h.az.mpr rfl];exact .az
 |one n=>rw[h.one];exact .int _
 |row l=>obtain⟨r,rfl,Z⟩:=h.row;exact .tup (bu.of Z) (Sj l)
theorem SN:∀l:List Nat,aeD (l.map λn:Nat=>ux (n:Int))=true
 |[]=>rfl
 |n::l=>by rw[bL];unfold aeD;rw[SN l];rfl
theorem Sn:∀l:List Nat,Tw (l.map λn:Nat=>ux (n:Int))<=1
 |[]=>by unfold Tw;exact cI _
 |n::l=>by
  rw[bL];unfold Tw;have:=Sn l;have Z:(ux (n:Int)).depth<=1:=by unfold aeC;decide
  lia
theorem Rm(x:HV):JD (nP x)=true:=by
 cases x with
 |az=>rfl
 |one n=>rfl
 |row l=>
  unfold JD nP PyData.canLay0;rw[SN];have:(PyData.tuple (l.map λn:Nat=>ux (n:Int))).depth<=64:=by unfold aeC;have:=Sn l;lia
  rw[bJ this];rfl
theorem R_:∀l m:List Nat,yD (l.map λn:Nat=>ux (n:Int)) (m.map λn:Nat=>ux (n:Int))=decide (l=m)
 |[],[]=>by unfold yD;rfl
 |[],_::_=>by rw[mO,bL];unfold yD;rfl
 |_::_,[]=>by rw[mO,bL];unfold yD;rfl
 |x::l,y::m=>by
  rw[bL,bL];unfold yD;rw[R_ l m];have e1:pU (.int (x:Int)) (.int (y:Int))=decide ((x:Int)=(y:Int)):=by unfold pU;rfl
  rw[e1];by_cases z:x=y
  .subst z;simp
  .have:¬(x:Int)=(y:Int):=by lia
   simp[z,this]
theorem abp:∀x y:HV,pU (nP x) (nP y)=decide (x=y)
 |.az,.az=>by unfold nP pU;rfl
 |.az,.one _=>by unfold nP pU;simp
 |.az,.row _=>by unfold nP pU;simp
 |.one _,.az=>by unfold nP pU;simp
 |.one n,.one m=>by
  show decide ((n:Int)=(m:Int))=_;by_cases z:n=m
  .subst z;simp
  .have:¬(n:Int)=(m:Int):=by lia
   simp[z,this]
 |.one _,.row _=>by unfold nP pU;simp
 |.row _,.az=>by unfold nP pU;simp
 |.row _,.one _=>by unfold nP pU;simp
 |.row l,.row m=>by show yD _ _=_;rw[R_];simp
structure mG[aW](C CG CT CS:aa)(H:Hp)(r:aa)(p:List aF)(t:List aO)(dx q tr rt rv rx:aa):Prop where
 ins:H r=O (.ins CS dx [("pattern",.ref q),("tree",.ref tr),("tallies",.ref rt),("verdicts",.ref rv),("hopeless",.ref rx)])
 pat:pX C CG H q p
 tree:lP CT H tr t
theorem pX.same(h:pX C CG H q p)(s:aG H H'):pX C CG H' q p:=by obtain⟨dx,rk,rl,rr,ra,rp,iU,rf,fL,rs,rsh,om,oq,kl,gs,h⟩:=h;refine⟨dx,rk,rl,rr,ra,rp,iU,rf,fL,rs,rsh,om,oq,kl,gs,s _ _ h.ins,h.lay.same s,s _ _ h.Br,s _ _ h.kinds,s _ _ h.dS,s _ _ h.firsts,s _ _ h.lasts,h.GB,s _ _ h.slots,s _ _ h.Ai,s _ _ h.halts,s _ _ h.Ht,λa h' e=>?_⟩;obtain⟨g,Y,c9,f_,Z⟩:=h.Hr a h' e;exact⟨g,Y,c9,f_,Z.same s⟩
theorem lP.same[aW](h:lP C H p t)(s:aG H H'):lP C H' p t:=by obtain⟨dx,ki,rl,rr,ra,rp,rn,re,rk,cF,rll,Q,R,S,T,U,W,⟨O,Y⟩,⟨P,Z⟩⟩:=h;exact⟨dx,ki,rl,rr,ra,rp,rn,re,rk,cF,rll,s _ _ Q,R.same s,s _ _ S,s _ _ T,s _ _ U,s _ _ W,⟨O,Y.same s⟩,⟨P,Z.same s⟩⟩
theorem mG.same[aW](h:mG C CG CT CS H r p t dx q tr rt rv rx)(s:aG H H'):mG C CG CT CS H' r p t dx q tr rt rv rx:=
 ⟨s _ _ h.ins,h.pat.same s,h.tree.same s⟩
theorem MV(h:J p<=32):J (mR p)<=10000:=by have Z:=HE p (J p);unfold eF at Z;rw[kK,aM]at Z;have Y:=oM (twice p) (iy p);unfold mR;lia
inductive XT(C CG CT CS:aa)(vs:List V)(H:Hp)(Q:VK)(E_:XK):Prop
 |mk(S0:aW)(r dx q tr rt rv rx:aa)(p:List aF)(t:List aO)(u:Nat)(_:vs=[.ref r,.int (u:Nat)])(_:mG C CG CT CS H r p t dx q tr rt rv rx)(_:j8 1 t=true)(_:u<J t)(_:J p<=32)(_:∀(H':Hp) (b:aa),aG H H'->fB H' b (begin t p u)->Q (.ref b) H')
section
theorem rH(Z:HY):Ok 1 18 ["self","node"] (XT zP zG zT zS):=by
 refine Z.K0.Go ["self","node"] λcdv A outer s H vs Q E o nd h=>?_
 .obtain⟨S0,r,dx,q,tr,rt,rv,rx,p,t,u,rfl,S,K,T,hl,k⟩:=h;refine⟨_,(aJ (bh (jD (af aK (af (aN bI (aC (aC (pv 0))) (pv 1)) (af (aN bI (aC (aC (pv 0))) (pv 1)) (af (dh Zf (jD (af d7 ay)) (fy SQ byC Z.B.len PySem.boot_len (af (aC (aC (pv 0))) ay))) ay))))))),?_⟩;dsimp only[xk];obtain⟨g,ki,rl,rr,ra,rp,rn,re,rk,cF,rll,O,P,i,J,j,l,m,n⟩:=S.tree;obtain⟨f,y,C,v,w,x,iU,D,F,rs,G,I,N,kl,gs,PA⟩:=S.pat;have L:=mY (jO K);have U:=i_ (by rw[L.la];simpa using T);have W:=i_ (by rw[L.lp];simpa using T);refine⟨_,Y,S.ins,Z.tS,Y,O,Z.tT,Y,_,Y,aj.of P.above,cU U,_,Y,S.ins,Z.tS,Y,O,Z.tT,Y,_,Y,aj.of P.places,cU W,?_⟩;refine⟨(by show 1<=bf;decide),λz M=>?_⟩;have s1:aG H (upd H z (.tup [.az])):=aT M;refine⟨_,Y,s1 _ _ S.ins,Z.tS,Y,s1 _ _ PA.ins,Z.tP,Y,rs,_,Y,s1 _ _ PA.slots,z,_,_,Y,Y,aB,?_,λb H1 s2 hb=>?_⟩
  .unfold oY;rw[xg];exact MV hl
  .refine⟨(by show 4<=bf;decide),λc R=>k _ c ((s1.trans s2).trans (aT R)) ⟨b,aB,?_⟩⟩;refine⟨_,aT R _ _ hb,?_⟩;unfold oY;rw[xg];exact iQ.Qv _
end
def TH(H:Hp)(v:V)(o:Option (Nat×Nat)):Prop:=match o with
 |none=>v=.az
 |some (a,b)=>∃z,v=.ref z/\H z=O (.tup [.int (a:Nat),.int (b:Nat)])
inductive Xc(C CG CT CS:aa)(vs:List V)(H:Hp)(Q:VK)(E_:XK):Prop
 |mk(S0:aW)(r dx q tr rt rv rx:aa)(p:List aF)(t:List aO)(nd ix k:Nat)(_:vs=[.ref r,.int (nd:Nat),.int (ix:Nat),.int (k:Nat)])(_:mG C CG CT CS H r p t dx q tr rt rv rx)(_:j8 1 t=true)(_:yw t k nd ix)(_:k<=1000)(_:∀(H':Hp) (v:V),aG H H'->TH H' v (iK t k nd ix)->Q v H')
section
theorem ET(Z:HY):Ok 1 19 ["self","node","index","times"] (Xc zP zG zT zS):=by
 refine Z.KZ.Go ["self","node","index","times","level"] λcdv A outer s H vs Q E b nd h=>?_
 .obtain⟨S0,r,dx,q,tr,rt,rv,rx,p,t,T,R,k,rfl,S,v,e,hk,w⟩:=h;refine⟨_,(aA (iV iG Y (ou byC Z.B.range (af (pv 3) ay)) (dB 4 nd) (aA (bT (bK lI (pv 2) (fy iN byC Z.B.len PySem.boot_len (af (aN bI (aC (aC (pv 0))) (pv 1)) ay)) (bB _)) (aJ (bh d7)) b8)
   (aA (bN 2 nd (dh jo (aN bI (aC (aC (pv 0))) (pv 1)) aK))
   (aJ (bN 1 nd (aN bI (aC (aC (pv 0))) (pv 1)))))))
   (aJ (bh (jD (af (pv 1) (af (pv 2) ay)))))),?_⟩
  dsimp only[xk];obtain⟨dt,ki,rl,rr,ra,rp,rn,re,rk,cF,rll,x,y,h3,g,h4,h5,h6,h7⟩:=S.tree;have L:=mY (jO v);refine⟨_,Y,_,Y,byA,byA,?_⟩;refine qG (n:=k) (λi σ H'=>∃(nd ix:Nat)(I:Option V),i<=k/\σ=[O (.ref r),O (.int (nd:Nat)),O (.int (ix:Nat)),O (.int (k:Nat)),I]/\H'=H/\yw t (k-i) nd ix/\iK t k T R=iK t (k-i) nd ix)
   ⟨T,R,U,cI _,rfl,rfl,e,rfl⟩ ?_ ?_
  .rintro i σ H' hi ⟨nd,ix,I,_,rfl,rfl,W,K⟩;obtain⟨j,f⟩:∃j,k-i=j+1:=⟨k-i-1,byA⟩;have N:k-(i+1)=j:=by lia
   rw[f]at W K;obtain⟨F,M⟩:=W;obtain⟨as,a,m,o,u⟩:=y.row (jO v) (by simpa using F);refine gn ?_;refine⟨_,Y,_,Y,S.ins,Z.tS,Y,x,Z.tT,Y,_,Y,aj.of m,kI o,.inl (aj.of u),Y,_,Y,?_⟩;have d:J (aq (rowAt (lay (ah t)).rows nd))=J (cQ t nd):=by rw[aM];rfl
   rw[d];by_cases c:ix=J (cQ t nd)
   .rw[bJ (show V.int (ix:Int)=V.int ((J (cQ t nd):Nat):Int) by rw[<-c])];refine cJ ?_;obtain⟨P,D⟩:=M c;have C:=i_ (by rw[L.la];simpa using P);have G:=i_ (by rw[L.lp];simpa using P);refine⟨_,Y,S.ins,Z.tS,Y,x,Z.tT,Y,_,Y,aj.of y.places,cU G,_,_,Y,Y,_,Y,S.ins,Z.tS,Y,x,Z.tT,Y,_,Y,aj.of y.above,cU C,?_⟩;refine⟨ab t nd,pl t nd+1,_,hi,Y,Y,by rw[N];exact D,?_⟩;rw[K,N];show(if _ then _ else _)=_;rw[ao (by simpa using c)]
   .rw[bP (show ¬V.int (ix:Int)=V.int ((J (cQ t nd):Nat):Int) by intro z;injection z with z;lia)];refine bR ?_;refine w _ _ (aG.refl _) ?_;rw[K];unfold iK;rw[aD c];rfl
  .rintro σ H' ⟨nd,ix,I,_,rfl,rfl,W,K⟩;refine⟨_,Y,_,Y,(by show 2<=bf;decide),λz l=>w _ _ (aT l) ?_⟩;rw[K,TU];exact⟨z,Y,aB⟩
end
def aft(H:Hp)(v:V)(o:Option (List HV)):Prop:=match o with
 |none=>v=.az
 |some hd=>∃z,v=.ref z/\HeldAt H z hd
inductive XF(C CG CT CS:aa)(vs:List V)(H:Hp)(Q:VK)(E_:XK):Prop
 |mk(S0:aW)(r dx q tr rt rv rx rh:aa)(p:List aF)(t:List aO)(held:List HV)(a h:Nat)(vl:V)(x:HV)(ha:a<J p)(_:vs=[.ref r,.ref rh,.int (a:Nat),vl])(_:mG C CG CT CS H r p t dx q tr rt rv rx)(_:HeldAt H rh held)(_:J held=J (mR p))(_:iw p[a]=O h)(_:jc H vl x)(_:J p<=32)(_:∀(H':Hp) (v:V),aG H H'->aft H' v (hold p held a h x)->Q v H')
theorem fY(h:D.nx σ H):DM D σ H:=h
theorem wZ(h:tt σ H λc H1=>if c=true then ta {D with nx:=λσ' H'=>tc D σ' H' } σ H1 else tb {D with nx:=λσ' H'=>tc D σ' H' } σ H1):qW (DN tt ta tb) tc D σ H:=h
theorem yd{Z:TT}{σ:L2.St}{H H':Hp}{b:Bool}{G:Bool->Hp->Prop}(W:∀Q:Bool->Hp->Prop,Q b H'->Z σ H Q)(Y:G b H'):Z σ H G:=W G Y
section
theorem vp(Z:HY):Ok 1 20 ["self","held","at","like"] (XF zP zG zT zS):=by
 refine Z.KY.Go ["self","held","at","like","slot","kept"] λcdv A outer s H vs Q E hr nd h=>?_
 .obtain⟨S0,r,dx,q,tr,rt,rv,rx,rh,p,t,held,a,h,vl,x,ha,rfl,S,hH,M,P,hx,hl,f⟩:=h;have hu:=jF hr;refine⟨_,(aA (bN 4 nd (vg hu (aC (aC (pv 0))) (aN bI (aC (aC (pv 0))) (pv 2)) ⟨Y,Y,Y,Y⟩))
   (aA (bT (bK lJ (pv 4) d7 (bB _)) (aJ (bh (pv 1))) b8)
   (aA (bT (PW.pt (xA (bK vh (aN cC (pv 1) (pv 4)) d7 (bB _)) (Au (bK (Zg hr.units) (aN cC (pv 1) (pv 4)) (pv 3) (bB _))))) (aJ (bh d7)) b8)
   (aA (bN 5 nd (l6 (bK eW (ow hu (aC (aC (pv 0))) (aN bI (aC (aC (pv 0))) (pv 2)) (λ_ _=>Y)) (pv 2) (bB _)) d7 (pv 3)))
   (aJ (bh (dh Pu (dh Pu (qu D8 (pv 1) ve (lZ (pv 4))) (jD (af (pv 5) ay))) (qu D8 (pv 1) (lZ (dh jo (pv 4) aK)) ve)))))))),?_⟩
  dsimp only[xk];obtain⟨dq,rk,rl,rr,ra,rp,iU,rf,fL,rs,rsh,om,oq,kl,gs,PA⟩:=S.pat;obtain⟨xs,W,j⟩:=hH;have L:(p.map d8)[a]?=O h:=by rw[bM,aX ha];exact fq O (xX P).1
  have N:=qD P;refine⟨_,Y,S.ins,Z.tS,Y,PA.ins,Z.tP,Y,rs,Y,.inl ⟨_,.inl PA.slots⟩,_,Y,S.ins,Z.tS,Y,PA.ins,Z.tP,Y,_,Y,aj.of PA.dS,cU L,_,.inl ⟨_,bx (h:Int),.inl PA.slots,Y,Y⟩,?_⟩;rw[uM];cases es:fu p h with
  |none=>refine⟨_,Y,Y,_,Y,?_⟩;refine bR ⟨_,Y,f _ _ (aG.refl _) ?_⟩;unfold Hs.hold;rw[es];exact⟨rh,Y,xs,W,j⟩
  |some sl=>
   have D:sl<J held:=by rw[M];exact(qZ es).1
   refine⟨_,Y,Y,_,Y,?_⟩;refine cJ ?_;obtain⟨v,hb,I⟩:=j.at_ D;have n:=bQ hb;have d:=j.len;refine fY ?_;dsimp only;refine wZ ?_;refine yd (b:=decide (held.getD sl .az≠.az/\held.getD sl .az≠x)) (H':=H) ?_ ?_
   .intro Q' K;refine⟨_,Y,_,Y,bu.of W,n,Y,_,Y,?_⟩;by_cases c:held.getD sl .az=.az
    .rw[bJ (I.az.mpr c)];refine cJ ?_
     rwa [bP (λz=>z.1 c)]at K
    .rw[bP (λz=>c (I.az.mp z))];refine bR ⟨_,Y,_,Y,bu.of W,n,_,Y,_,_,I.dp,hx.dp,Rm _,Rm _,_,Y,?_⟩;rw[abp];by_cases i:held.getD sl .az=x
     .rw[bJ i]
      rwa [bP (λz=>z.2 i)]at K
     .rw[bP i]
      rwa [bJ ⟨c,i⟩]at K
   .have F:hold p held a h x=if held.getD sl .az≠.az/\held.getD sl .az≠x then U else O (held.set sl (if more p (a+1) h=true then x else .az)):=by unfold Hs.hold;rw[es]
    by_cases c:held.getD sl .az≠.az/\held.getD sl .az≠x
    .refine dW c (f _ _ (aG.refl _) ?_);rw[F,aD c];rfl
    .refine dD c ?_;rw[ao c]at F;refine fY ?_;dsimp only;refine Aa ?_;have C:=FD.mpr ⟨a,ha,Bw ha N⟩;have G:=PA.GB h C;have B:=last_eq ha N;obtain⟨kv,kx,R,hc,y⟩:∃kv kx,(kv=if more p (a+1) h=true then vl else V.az)/\(kx=if more p (a+1) h=true then x else HV.az)/\jc H kv kx:=by
      refine⟨_,_,Y,Y,?_⟩;split
      .exact hx
      .exact abl
     refine yf (v:=kv) (H':=H) ?_ ?_
     .intro Q' K;refine⟨_,Y,S.ins,Z.tS,Y,PA.ins,Z.tP,Y,_,Y,S.ins,Z.tS,Y,PA.ins,Z.tP,Y,_,Y,aj.of PA.dS,cU L,fL,_,Y,.inl ⟨_,bx (h:Int),.inl PA.lasts,Y,G.symm⟩,_,Y,Y,_,Y,?_⟩;cases l:more p (a+1) h with
      |true=>
       rw[aD l]at R;have:¬V.int ((kE p (J p) h:Nat):Int)=V.int (a:Int):=by
        intro z;injection z with z
        have:=B.mp (by unfold lastOf;lia);rw[l]at this;cases this
       rw[bP this];rw[R]at K;exact cJ ⟨_,Y,K⟩
      |false=>rw[ao (by rw[l];simp)]at R;have e:kE p (J p) h=a:=B.mpr l;rw[bJ (by rw[e])];rw[R]at K;exact bR K
     .refine gn ?_;have hg:J xs<=10000:=by rw[d,M];exact MV hl
      refine⟨_,Y,_,Y,_,Y,rh,_,Y,W,λb1 H1 s1 o=>?_⟩;rw[I0 byA]at o;refine⟨_,Y,(by show 1<=bf;decide),λb2 u=>?_⟩;refine⟨b1,b2,_,_,Y,Y,aT u _ _ o,aB,by rw[lu,c8];show _+1<=_;lia,λb3 H3 s3 hf=>?_⟩;have T:=(s1.trans (aT u)).trans s3;refine⟨_,Y,_,Y,_,_,Y,Y,_,Y,rh,_,Y,T _ _ W,λb4 H4 m w=>?_⟩;have e1:(sl:Int)+1=((sl+1:Nat):Int):=by lia
      rw[e1,Jb byA]at w;refine⟨b3,b4,_,_,Y,Y,m _ _ hf,w,by rw[fO,lu,nj,c8];show _+1+_<=_;lia,λb5 H5 g he=>?_⟩;refine f _ _ ((T.trans m).trans g) ?_;rw[F];refine⟨b5,Y,_,he,?_⟩;rw[<-hc];have:=iQ.set (j.same ((T.trans m).trans g)) (y.same ((T.trans m).trans g)) D
      rwa [lT]
end
theorem Lx(W:Nat->L2.St->Hp->Prop)(U:Nat)(O:W U σ H)
 (T:∀m σ H,W m σ H->∃(b:Bool)(H1:Hp),(∀Q:Bool->Hp->Prop,Q b H1->c σ H Q)/\(b=true->tb {D with nx:=λσ' H'=>∃Z,Z<m/\W Z σ' H',ct:=λσ' H'=>∃Z,Z<m/\W Z σ' H',bk:=D.nx } σ H1)/\(b=false->D.nx σ H1)):zY c tb D σ H:=by
 refine⟨W,⟨U,O⟩,?_⟩;intro m σ H p;obtain⟨b,H1,P,R,S⟩:=T m σ H p;refine P _ ?_;cases b with
 |true=>exact bR ⟨_,λσ' H' z=>z,R Y⟩
 |false=>exact cJ (S Y)
def aep(H:Hp)(v:V)(o:Option Spot):Prop:=match o with
 |none=>v=.az
 |some z=>∃b,v=.ref b/\fB H b z
inductive WZ(C CG CT CS:aa)(vs:List V)(H:Hp)(Q:VK)(E_:XK):Prop
 |mk(S0:aW)(r dx q tr rt rv rx bs:aa)(p:List aF)(t:List aO)(s:Spot)(target base:Nat)(ks:List Nat)(bw:k_)(_:vs=[.ref r,.ref bs,.int (target:Nat)])(_:mG C CG CT CS H r p t dx q tr rt rv rx)(_:fB H bs s)(_:j8 1 t=true)(_:nY 1 p=true)(_:base<J t)(_:J p<=32)(_:dX t p base (aZ p s.at_) ks s bw)(_:∀(H':Hp) (v:V),aG H H'->aep H' v (fz t p target s)->Q v H')
theorem Nf(h:J p<=32)(ha:a<=J p):eV p a<=1000:=by
 have:∀n,J (aZ p n)<=n+1:=by
  intro n
  induction n with
  |zero=>simp[aZ]
  |succ n Z=>unfold aZ;have Y:=Aj (aZ p n);split<;>(try split)<;>simp_all<;>lia
 have:=this a;unfold eV;split<;>lia
def ES(o:Option (Nat×Nat))(g:Nat->Nat->Option Spot):Option Spot:=match o with
 |none=>U
 |some (nd,ix)=>g nd ix
theorem LG[aW]:walk t p target (f+1) ⟨a,qz,qA,held⟩=ES (iK t (eV p a) qz qA) λnd ix=>qe t p target f ⟨a,nd,ix,held⟩:=by
 rw[Vl];simp only;cases iK t (eV p a) qz qA with
 |none=>rfl
 |some z=>obtain⟨nd,ix⟩:=z;rfl
theorem Eg(N:L2.St->Hp->Prop)(Z:∀σ' H',N σ' H'->tc D σ' H')(Y:(∀σ' H',N σ' H'->tc D σ' H')->qW ts tc D σ H):qW ts tc D σ H:=Y Z
structure WalkAt[aW](t:List aO)(p:List aF)(iz target:Nat)(s:Spot)(H:Hp)(a:Nat)(rh:aa)(held:List HV)(qi:V)(o:Option (Nat×Nat)):Prop where
 le:a<=J p
 hheld:HeldAt H rh held
 pair:TH H qi o
 eq:fz t p target s=ES o λnd ix=>qe t p target (J p-a) ⟨a,nd,ix,held⟩
 ok:∀nd ix,o=O (nd,ix)->nd<=J t/\(a<J p->∃ks b,dX t p iz (cB (aZ p a)) ks ⟨a,nd,ix,held⟩ b)
theorem WQ(h:zY tc tb {D with nx:=λσ' H'=>tr D σ' H' } σ H):qW (zY tc tb) tr D σ H:=h
inductive aei[aW](t:List aO)(p:List aF)(r bs q:aa)(iz target:Nat)(s:Spot)(H:Hp)(m:Nat)(σ:L2.St)(H':Hp):Prop
 |mk(a:Nat)(rh:aa)(held:List HV)(qi:V)(o:Option (Nat×Nat))(v7 v8:Option V)(_:m=J p-a)(_:σ=[O (.ref r),O (.ref bs),O (.int (target:Nat)),O (.ref q),O (.int (a:Nat)),O (.ref rh),O qi,v7,v8])(_:aG H H')(_:WalkAt t p iz target s H' a rh held qi o)
inductive aeh[aW](t:List aO)(p:List aF)(r bs q:aa)(iz target a:Nat)(s:Spot)(H:Hp)(σ':L2.St)(lB:Hp):Prop
 |mk(u7:aa)(held':List HV)(jq ix':Nat)(z':aa)(v7 v8:Option V)(ks':List Nat)(b':k_)(_:σ'=[O (.ref r),O (.ref bs),O (.int (target:Nat)),O (.ref q),O (.int (a:Nat)),O (.ref u7),O (.ref z'),v7,v8])(_:aG H lB)(_:HeldAt lB u7 held')(_:lB z'=O (.tup [.int (jq:Nat),.int (ix':Nat)]))(_:dX t p iz (aZ p (a+1)) ks' ⟨a+1,jq,ix',held'⟩ b')(_:fz t p target s=walk t p target (J p-a) ⟨a+1,jq,ix',held'⟩)
section
theorem vj(Z:HY):Ok 2 21 ["self","state","target"] (WZ zP zG zT zS):=by
 have GS:=(ET Z).g;have GH:=(vp Z).g;refine Z.KW.Go ["self","state","target","pattern","at","held","spot","row","child"] λcdv A outer s H vs Q E hr nd h=>?_
 .obtain⟨S0,r,dx,q,tr,rt,rv,rx,bs,p,t,st,target,iz,ks,bw,rfl,S,hG,f,w,hb,hl,hC,kk⟩:=h;obtain⟨t3,g3⟩:=Z.G.hole;refine⟨_,(aA (bN 3 nd (aC (pv 0)))
   (aA (bN 4 nd (aN cC (pv 1) aK))
   (aA (bN 5 nd (aN cC (pv 1) aK))
   (aA (bN 6 nd (bX (pv 0) Z.tS.cl Z.Bc GS hr (ET Z).b .nil bq (af (aN cC (pv 1) aK) (af (aN cC (pv 1) aK) (af (aN bI (aC (pv 3)) (pv 4)) ay)))))
   (aA (ED iG (PW.pt (xA (bK vh (pv 6) d7 (bB _)) (xA (bK lI (pv 4) (pv 2) (bB _)) (Au (qt (jB (aN bI (aC (pv 3)) (pv 4)) byF)))))) (aA (bN 7 nd (aN bI (aC (aC (pv 0))) (aN cC (pv 6) aK)))
   (aA (bT (bK eW (aN cC (pv 6) aK) (fy iN byC Z.B.len PySem.boot_len (af (pv 7) ay)) (bB _)) (aJ (bh d7)) b8)
   (aA (bN 8 nd (aN bI (pv 7) (aN cC (pv 6) aK)))
   (aA (bT (bK eW (aN bI (aC (pv 3)) (pv 4)) (eY (v:=.int 1) byC g3 ⟨_,Y⟩) (bB _)) (aA (bN 5 nd (bX (pv 0) Z.tS.cl Z.xU GH hr (vp Z).b .nil bq (af (pv 5) (af (pv 4) (af (aN bI (aC (aC (pv 0))) (pv 8)) ay)))))
   (aA (bT (bK lJ (pv 5) d7 (bB _)) (aJ (bh d7)) b8)
   (aJ (bN 6 nd (jD (af (aN cC (pv 6) aK) (af (dh jo (aN cC (pv 6) aK) aK) ay))))))) (aJ (bT (bK eW (aN bI (aC (pv 3)) (pv 4)) (aN bI (aC (aC (pv 0))) (pv 8)) (bB _)) (aJ (bN 6 nd (jD (af (pv 8) (af aK ay))))) (aJ (bh d7)))))
   (aA (Ax (i:=4) nd Y (Or.inl Y) aK Q9)
   (aJ (bN 6 nd (bX (pv 0) Z.tS.cl Z.Bc GS hr (ET Z).b .nil bq (af (aN cC (pv 6) aK) (af (aN cC (pv 6) aK) (af (aN bI (aC (pv 3)) (pv 4)) ay))))))))))))
   (aJ (bh (l6 (bK lJ (pv 6) d7 (bB _)) d7 (jD (af (pv 4) (af (aN cC (pv 6) aK) (af (aN cC (pv 6) aK) (af (pv 5) ay))))))))))))),?_⟩
  dsimp only[xk];obtain⟨dt,ki,rl,rr,ra,rp,rn,re,rk,cF,rll,h1,hL,h3,h2,h4,h5,h6,h7⟩:=S.tree;obtain⟨dq,pk,hV,pr,hZ,pp,hW,pf,hU,ps,hT,hX,hY,kl,gs,PA⟩:=S.pat;obtain⟨rh,K,he⟩:=hG;obtain⟨I,F,D,P⟩:=st;simp only at K he;have hj:I<=J p:=hC.le;have hn:∀a,a<=J p->(uZ p)[a]?=O (eV p a):=λa ha=>by unfold uZ;rw[bM,lz (by omega)];rfl
  obtain⟨hB,hA⟩:=ME f w hb hC;refine⟨_,Y,S.ins,Z.tS,Y,?_⟩;refine⟨_,Y,bu.of K,bQ (j:=0) Y,?_⟩;refine⟨_,Y,bu.of K,bQ (j:=3) Y,?_⟩;refine⟨_,Y,S.ins,Y,?_⟩;refine⟨_,Y,bu.of K,bQ (j:=1) Y,?_⟩;refine⟨_,Y,bu.of K,bQ (j:=2) Y,?_⟩;refine⟨_,Y,PA.ins,Z.tP,Y,_,Y,aj.of PA.Ai,cU (hn I hj),?_⟩;refine⟨S0,r,dx,q,tr,rt,rv,rx,p,t,F,D,eV p I,Y,S,f,hB,Nf hl hj,λH1 qi s1 hH=>?_⟩;refine gn ?_;dsimp only;refine WQ ?_;have hN:fz t p target ⟨I,F,D,P⟩=ES (iK t (eV p I) F D) λnd ix=>qe t p target (J p-I) ⟨I,nd,ix,P⟩:=by
   unfold fz;have:J p+1-I=(J p-I)+1:=by omega
   simp only;rw[this,LG]
  refine Lx (aei t p r bs q iz target ⟨I,F,D,P⟩ H) (J p-I)
   ⟨I,rh,P,qi,_,U,U,rfl,rfl,s1,hj,he.same s1,hH,hN,λnd ix e=>?_⟩ ?_
  .obtain⟨y1,y2⟩:=hA nd ix e;refine⟨y1,λha=>?_⟩;obtain⟨ks',c⟩:=y2 ha;exact⟨ks',bw,c⟩
  .rintro m σ H' ⟨a,rh,held,qi,o,v7,v8,rfl,rfl,s2,W⟩;have hM:∀a,a<=J p->∃b,(x9 p)[a]?=O (V.bl b)/\b=(match p[a]? with|none=>true|some (.row _)=>true|_=>false):=by
    intro a ha;unfold x9;rcases cY a (J p) with z|z
    .refine⟨decide (kindOf p[a]=2),?_,?_⟩
     .rw[fJ (by simpa using z),bM,aX z];rfl
     .rw[aX z];cases p[a]<;>rfl
    .refine⟨true,?_,?_⟩
     .rw[kq (by simpa using z)];have:a-J (p.map λq=>V.bl (decide (kindOf q=2)))=0:=by rw[aM];omega
      rw[this];rfl
     .rw[fP z]
   cases ho:o with
   |none=>
    have C:qi=.az:=by have:=W.pair;rw[ho]at this;exact this
    refine⟨false,H',?_,λz=>(by cases z),λ_=>?_⟩
    .intro Q' hQ;refine⟨_,Y,Y,_,Y,?_⟩;rw[bJ C];exact cJ hQ
    .refine⟨_,rfl,rfl,_,rfl,?_⟩;refine dW C (kk _ _ s2 ?_);rw[W.eq,ho];rfl
   |some hE=>
    obtain⟨nd,ix⟩:=hE;have l:=W.pair;rw[ho]at l;obtain⟨z,C,l⟩:=l;obtain⟨hI,hO⟩:=W.ok nd ix ho;have R:=W.eq;rw[ho]at R;have R:fz t p target ⟨I,F,D,P⟩=qe t p target (J p-a) ⟨a,nd,ix,held⟩:=R;have hq:¬qi=V.az:=by rw[C];simp
    obtain⟨ht,hR,N⟩:=hM a W.le;have S2:=S.same s2;refine⟨decide (a≠target)&&!ht,H',?_,λcont=>?_,λstop=>?_⟩
    .intro Q' hQ;refine⟨_,Y,Y,_,Y,?_⟩;rw[bP hq];refine bR ⟨_,Y,_,Y,Y,_,Y,?_⟩;by_cases c:a=target
     .rw[bJ (show V.int (a:Int)=V.int (target:Int) by rw[c])];rw[bP (λz=>z c)]at hQ;exact cJ hQ
     .rw[bP (show ¬V.int (a:Int)=V.int (target:Int) by intro z;injection z with z;omega)];rw[bJ c]at hQ;refine bR ⟨_,Y,s2 _ _ PA.ins,Z.tP,Y,_,Y,aj.of (s2 _ _ PA.halts),bQ hR,_,Y,?_⟩;rw[Ld]at hQ;exact hQ
    ·
     simp only[eO,m9,Le]at cont;obtain⟨hF,hP⟩:=cont;rw[hP]at N;have M:a<J p:=by
      rcases cY a (J p) with z|z
      .exact z
      .rw[fP z]at N;cases N
     obtain⟨h0,b2,C1⟩:=hO M;obtain⟨as,ar,r1,r2,r3⟩:=hL.row (jO f) (u:=nd) (by simpa using hI);have el:J (aq (rowAt (lay (ah t)).rows nd))=J (cQ t nd):=by rw[aM];rfl
     have T:qe t p target (J p-a) ⟨a,nd,ix,held⟩=(match p[a] with
      |.row _=>O ⟨a,nd,ix,held⟩
      |.one h=>if ix=J (cQ t nd) then U else match hold p held a h (.one (fN t (dU t nd ix))) with
       |none=>U
       |some hd=>walk t p target (J p-a) ⟨a+1,nd,ix+1,hd⟩
      |.node x _=>if ix=J (cQ t nd) then U else if x=jV t (dU t nd ix) then walk t p target (J p-a) ⟨a+1,dU t nd ix,0,held⟩ else U):=by
      unfold qe;simp only;rw[ao hF,aX M];cases p[a]<;>rfl
     rw[C];refine⟨_,Y,S2.ins,Z.tS,Y,s2 _ _ h1,Z.tT,Y,_,Y,bu.of l,bQ (j:=0) Y,aj.of (s2 _ _ r1),kI r2,?_⟩;refine⟨_,Y,bu.of l,bQ (j:=1) Y,_,Y,.inl (aj.of (s2 _ _ r3)),Y,_,Y,?_⟩;rw[el];rw[aX M]at N;by_cases L:ix=J (cQ t nd)
     .refine dW (show V.int (ix:Int)=V.int ((J (cQ t nd):Nat):Int) by rw[<-L]) (kk _ _ s2 ?_);rw[R,T];cases hpa:p[a] with
      |row x=>rw[hpa]at N;cases N
      |one x=>simp only;rw[aD L];rfl
      |node x c=>simp only;rw[aD L];rfl
     .refine dD (show ¬V.int (ix:Int)=V.int ((J (cQ t nd):Nat):Int) by intro y;injection y with y;omega) ?_;obtain⟨_,_,_,_,_,_,_,hs,hS,hf⟩:=z_ f w hb M C1 L;refine fY ?_;dsimp only;refine⟨_,Y,_,Y,bu.of l,bQ (j:=1) Y,aj.of (s2 _ _ r3),cU (x:=dU t nd ix) (i_ hs),?_⟩;refine gn ?_;dsimp only;refine Eg (aeh t p r bs q iz target a ⟨I,F,D,P⟩ H) ?_ ?_
      .rintro σ' lB ⟨u7,held',jq,ix',z',w7,w8,ks',b',rfl,n,y1,y2,y3,y4⟩;refine⟨_,Y,_,_,Y,Y,?_⟩;have e1:(a:Int)+1=((a+1:Nat):Int):=by omega
       dsimp only;rw[e1];obtain⟨hy,hu⟩:=ME f w hb y3;refine⟨_,Y,n _ _ S.ins,Y,_,Y,bu.of y2,bQ (j:=0) Y,_,Y,bu.of y2,bQ (j:=1) Y,_,Y,n _ _ PA.ins,Z.tP,Y,_,Y,aj.of (n _ _ PA.Ai),cU (hn (a+1) M),?_⟩;refine⟨S0,r,dx,q,tr,rt,rv,rx,p,t,jq,ix',eV p (a+1),Y,S.same n,f,hy,Nf hl M,λH4 hk s4 hp=>?_⟩;refine⟨J p-(a+1),by omega,a+1,u7,held',hk,_,w7,w8,rfl,rfl,n.trans s4,M,y1.same s4,hp,?_,λnd ix e=>?_⟩
       .have:J p-a=(J p-(a+1))+1:=by omega
        rw[y4,this,LG]
       .obtain⟨u1,u2⟩:=hu nd ix e;refine⟨u1,λha=>?_⟩;obtain⟨hm,c⟩:=u2 ha;exact⟨hm,b',c⟩
      .intro d;refine⟨_,Y,s2 _ _ PA.ins,Z.tP,Y,_,Y,aj.of (s2 _ _ PA.kinds),cU (x:=kindOf p[a]) (by rw[bM,aX M];rfl),Y,_,Y,?_⟩;cases hpa:p[a] with
       |row x=>rw[hpa]at N;cases N
       |one h=>
        rw[hpa]at T;simp only at T;rw[ao L]at T;refine dW (show V.int ((kindOf (dN h):Nat):Int)=V.int 1 from Y) ?_;have hJ:(marks t).b_[dU t nd ix]?=O (fN t (dU t nd ix)):=i_ (by rw[(i9 f).ll];exact hf);refine⟨_,Y,S2.ins,Y,_,Y,_,Y,_,Y,S2.ins,Z.tS,Y,s2 _ _ h1,Z.tT,Y,_,Y,aj.of (s2 _ _ h5),cU hJ,?_⟩;refine⟨S0,r,dx,q,tr,rt,rv,rx,rh,p,t,held,a,h,_,.one (fN t (dU t nd ix)),M,Y,S2,W.hheld,C1.held.len,by rw[hpa];rfl,Rk _,hl,λH3 v n hv=>?_⟩;refine gn ?_;dsimp only;refine⟨_,Y,Y,_,Y,?_⟩;cases hi:hold p held a h (.one (fN t (dU t nd ix))) with
        |none=>rw[hi]at hv T;have hv:v=.az:=hv;refine dW hv (kk _ _ (s2.trans n) ?_);rw[R,T];rfl
        |some hd=>rw[hi]at hv T;obtain⟨hD,rfl,hv⟩:=hv;refine dD byB ?_;refine fY ?_;dsimp only;obtain⟨hg,d3,C3,_⟩:=MF f w hb M C1 hpa L hi;refine⟨_,Y,bu.of (n _ _ l),bQ (j:=0) Y,_,Y,bu.of (n _ _ l),bQ (j:=1) Y,_,_,Y,Y,(by show 2<=bf;decide),λc hc=>?_⟩;refine d _ _ ⟨hD,hd,nd,ix+1,c,_,_,hg,d3,Y,(s2.trans n).trans (aT hc),hv.same (aT hc),aB,C3,?_⟩;rw[R,T]
       |node x c=>
        rw[hpa]at T;simp only at T;rw[ao L]at T;refine dD (show ¬V.int ((kindOf (qL x c):Nat):Int)=V.int 1 by intro y;cases y) ?_;have hK:(t.map (·.label))[dU t nd ix]?=O (jV t (dU t nd ix)):=i_ (by rw[aM];exact hf);refine⟨_,Y,s2 _ _ PA.ins,Z.tP,Y,_,Y,aj.of (s2 _ _ PA.dS),cU (x:=x) (by rw[bM,aX M,hpa];rfl),?_⟩;refine⟨_,Y,S2.ins,Z.tS,Y,s2 _ _ h1,Z.tT,Y,_,Y,aj.of (s2 _ _ h3),cU hK,Y,_,Y,?_⟩;by_cases hx:x=jV t (dU t nd ix)
        .rw[bJ (show V.int (x:Int)=V.int ((jV t (dU t nd ix):Nat):Int) by rw[<-hx])];rw[aD hx]at T;obtain⟨hg,C3⟩:=WN f w hb M C1 hpa L;refine bR ⟨_,Y,(by show 2<=bf;decide),λc' hc=>?_⟩;refine d _ _ ⟨rh,held,dU t nd ix,0,c',_,_,hg,b2,Y,s2.trans (aT hc),W.hheld.same (aT hc),aB,C3,?_⟩;rw[R,T]
        .rw[bP (show ¬V.int (x:Int)=V.int ((jV t (dU t nd ix):Nat):Int) by intro y;injection y with y;omega)];rw[ao hx]at T;refine cJ (kk _ _ s2 ?_);rw[R,T];rfl
    .have hh:qe t p target (J p-a) ⟨a,nd,ix,held⟩=O ⟨a,nd,ix,held⟩:=by
      unfold qe;simp only;by_cases c:a=target
      .rw[aD c]
      .rw[ao c];rw[bJ c,Ld]at stop;have:ht=true:=by simpa using stop
       rw[this]at N;cases hpa:p[a]? with
       |none=>rfl
       |some y=>
        rw[hpa]at N;cases y with
        |node x c=>cases N
        |one x=>cases N
        |row x=>rfl
     refine⟨_,Y,Y,_,Y,?_⟩;refine dD hq ?_;rw[C];refine⟨_,Y,_,Y,bu.of l,bQ (j:=0) Y,_,Y,bu.of l,bQ (j:=1) Y,_,Y,(by show 4<=bf;decide),λc hc=>kk _ _ (s2.trans (aT hc)) ?_⟩;rw[R,hh];exact⟨c,Y,rh,aB,W.hheld.same (aT hc)⟩
end
theorem Yv[aW](w:j8 1 t=true)(Z:u<J t):J (eE t u)=J (cQ t u):=by unfold eE;rw[(i9 w).eE u Z (cI _),aM,ko,lW w byA,mq Z]
theorem Ew[aW](w:j8 1 t=true)(Z:u<J t):J (dc t u)=J (cQ t u):=by unfold dc;rw[(i9 w).dc u Z (cI _),aM,ko,lW w byA,mq Z]
theorem fT.row(T:∃bs,fT H r bs rows)(Z:u<J rows):∃(bs:List aa)(b:aa),H r=O (.lst (bs.map V.ref))/\bs[u]?=O b/\H b=O (.tup (aq (rowAt rows u))):=by
 obtain⟨bs,T⟩:=T;have hl:u<J bs:=by rw[T.len];exact Z
 exact⟨bs,bs[u],T.lst,aX hl,T.at_ u _ (aX hl)⟩
theorem RP{p:List aF}:∀{l:List Nat}{i:Nat},(∀x∈l,x<J p)->(l.filterMap λi=>p[i]?)[i]?=(l[i]?).bind λi=>p[i]?
 |[],i,_=>by simp
 |x::l,i,h=>by
  have hx:=h x byB;rw[fR,aX hx];cases i with
  |zero=>simp[hx]
  |succ i=>simp only[CC];exact RP λy Z=>h y (by simp[Z])
inductive Xb(C CG CT CS:Addr)(vs:List V)(H:Hp)(Q:VK)(E_:XK):Prop
 |mk(S0:aW)(r dx q tr rt rv rx bz c9 rls:Addr)(p:List Pat)(t:List Node)(z:Spot)(sg ls:List Nat)(_:vs=[.ref r,.ref bz,.ref c9,.ref rls])(_:mG C CG CT CS H r p t dx q tr rt rv rx)(_:fB H bz z)(_:H c9=O (.lst (aq sg)))(_:H rls=O (.lst (aq ls)))(_:(∀c∈sg,c<J p/\∀h,p[c]?≠O (.row h)))(_:Sh.whole 1 t=true)(_:z.node<J t)(_:J z.held=J (mR p))(_:J ls<=1000)(_:(∀i,i<J sg->∀j∈ls,z.index+i+j<J (cQ t z.node)))(_:(∀g,Pat.one g∈p->eU p z.held g=.az\/∃n,eU p z.held g=.one n))(_:∀(H':Hp) (D:Addr),aG H H'->(D=rls\/H D=U)->H' D=O (.lst (aq (lF t p (sg.filterMap λi=>p[i]?) z.node z.index z.held ls)))->Q (.ref D) H')
section
theorem PL(Z:HY):Ok 1 22 ["self","spot","segment","lengths"] (Xb zP zG zT zS):=by
 refine Z.KU.Go ["self","spot","segment","lengths","ahead","item","start","marks","mark","slot","length"] λcdv A outer s H vs Q E hr nd h=>?_
 .obtain⟨S0,r,dx,q,tr,rt,rv,rx,bz,c9,rls,p,t,z,sg,ls,rfl,S,hz,hl,hE,d,hw,C,hJ,hF,hH,hn,kk⟩:=h;have hu:=jF hr;obtain⟨t3,g3⟩:=Z.G.node;refine⟨_,(aA (iV iG Y (EI byC Z.B.enumerate (af (pv 2) ay)) (tL Y (l5 (dB 4 nd) (l5 (dB 5 nd) tK))) (aA (nF (i:=6) nd Y (Or.inr Y) (dh jo (aN cC (pv 1) aK) (pv 4)))
   (aA (bT (bK eW (aN bI (aC (aC (pv 0))) (pv 5)) (eY (v:=.int 0) byC g3 ⟨_,Y⟩) (bB _)) (aA (nF (i:=7) nd Y (Or.inr Y) (aN bI (aC (aC (pv 0))) (aN cC (pv 1) aK)))
   (aJ (nF (i:=8) nd Y (Or.inr Y) (aN bI (aC (aC (pv 0))) (pv 5))))) (aA (nF (i:=7) nd Y (Or.inr Y) (aN bI (aC (aC (pv 0))) (aN cC (pv 1) aK)))
   (aA (bN 9 nd (vg hu (aC (aC (pv 0))) (aN bI (aC (aC (pv 0))) (pv 5)) ⟨Y,Y,Y,Y⟩))
   (aJ (nF (i:=8) nd Y (Or.inr Y) (l6 (bK lJ (pv 9) d7 (bB _)) d7 (aN cC (aN cC (pv 1) aK) (pv 9))))))))
   (aJ (bT (bK vh (pv 8) d7 (bB _)) (aJ (EE (i:=3) (y:="lengths") (own:=[("length",10)]) Y nd Y Y Y (jm (pv 3)) (k9 (by show j5 ["self","spot","segment","lengths","ahead","item","start","marks","mark","slot","length"] (h_ Em) _ [("length",10)]=true;decide +kernel)) (λ_ _ _ _ _=>(dB 10 nd)) (λ_ _ _ _ _=>vd (bK eW (aN (GQ zK) (pv 7) (dh jo (pv 6) (pv 10))) (pv 8) (bB _))) (λ_ _ _ _ _=>(pv 10)))) b8)))))
   (aJ (bh (pv 3)))),?_⟩
  dsimp only[xk];obtain⟨dt,ki,rl,rr,ra,rp,rn,re,rk,cF,rll,h1,hL,h3,hY,h4,h5,h6,h7⟩:=S.tree;obtain⟨dq,pk,hS,pr,hX,pp,hU,pf,hR,ps,hQ,hV,hW,kl,gs,PA⟩:=S.pat;obtain⟨rh,l,xs,hs,hq⟩:=hz;have hC:∀x∈sg,x<J p:=λx hx=>(d x hx).1;obtain⟨m,hb⟩:∃m,m=sg.filterMap λi=>p[i]?:=⟨_,Y⟩;rw[<-hb]at kk;refine⟨_,Y,c9,_,Y,aj.of hl,Hz (K:=zK) (a:=c9) (xs:=aq sg) (λi σ H'=>∃(R:aa)(T:List Nat)(v4 v5 v6 v7 v8 v9:Option V),σ=[O (.ref r),O (.ref bz),O (.ref c9),O (.ref R),v4,v5,v6,v7,v8,v9,U]/\aG H H'/\H' R=O (.lst (aq T))/\(R=rls\/H R=U)/\J T<=1000/\(∀j∈T,j∈ls)/\lF t p m z.node z.index z.held ls=lF t p (m.drop i) z.node (z.index+i) z.held T)
   ⟨rls,ls,U,U,U,U,U,U,Y,aG.refl H,hE,.inl Y,hF,λ_ h=>h,Y⟩ (λi σ H' _ ⟨_,_,_,_,_,_,_,_,_,s1,_⟩=>aj.of (s1 _ _ hl)) ?_ ?_⟩
  .rintro i x Tt σ H' hx hT ⟨R,T,v4,v5,v6,v7,v8,v9,rfl,s1,M,hfr,hf,P,w⟩;rw[bM]at hx;obtain⟨c,hc,rfl⟩:=eZ.mp hx;obtain⟨o,hK⟩:=d c (dm hc);have hI:=(cV.mp hc).1;have hg:m.drop i=p[c]::m.drop (i+1):=by refine IX ?_;rw[hb,RP hC,hc];exact aX o
   have s2:aG H' (upd H' Tt (.tup [.int (i:Nat),.int (c:Nat)])):=aT hT;refine⟨Tt,_,Y,bu.of aB,Y,_,_,Y,_,_,Y,Y,?_⟩;generalize upd H' Tt (.tup [.int (i:Nat),.int (c:Nat)])=H1 at s2;have W:=s1.trans s2;have S1:=S.same W;refine⟨_,Y,bu.of (W _ _ l),bQ (j:=2) Y,_,Y,_,_,Y,Y,?_⟩;have hO:(z.index:Int)+(i:Int)=((z.index+i:Nat):Int):=by lia
   refine gn ?_;dsimp only;rw[hO];refine Eg (λσ' lB=>∃(rm:aa)(mk:V)(L:List Nat)(v9:Option V),σ'=[O (.ref r),O (.ref bz),O (.ref c9),O (.ref R),O (.int (i:Nat)),O (.int (c:Nat)),O (.int ((z.index+i:Nat):Int)),O (.ref rm),O mk,v9,U]/\lB=H1/\H1 rm=O (.tup (aq L))/\J L=J (cQ t z.node) /\
    ((mk=.az/\jR t p p[c] z.node (z.index+i) z.held T=T)\/∃n:Nat,mk=.int (n:Nat)/\jR t p p[c] z.node (z.index+i) z.held T=T.filter λj=>decide (aV L (z.index+i+j)=n))) ?_ ?_
   .rintro σ' lB ⟨rm,mk,L,hP,rfl,rfl,hB,hN,hm⟩;refine⟨_,Y,Y,_,Y,?_⟩;rw[hg]at w;rcases hm with⟨rfl,he⟩|⟨n,rfl,he⟩
    .rw[bJ rfl];refine cJ ⟨R,T,_,_,_,_,_,_,Y,W,s2 _ _ M,hfr,hf,P,?_⟩;rw[w];show lF t p (m.drop (i+1)) z.node (z.index+i+1) z.held (jR t p p[c] z.node (z.index+i) z.held T)=_;rw[he];rfl
    .rw[bP byB];have f:=s2 _ _ M;refine bR ⟨_,Y,R,Y,⟨_,aj.of f⟩,λD hD=>?_⟩;refine pF (K:=zK) (a:=R) (xs:=aq T) (λv=>match v with|.int j=>decide (aV L (z.index+i+j.toNat)=n)|_=>false) id hD (aj.of f) (by rw[aM,c8];lia) ?_ ?_
     .rintro k x hi H3 Nx Nn s3 m1 m2;rw[bM]at hi;obtain⟨j,hj,rfl⟩:=eZ.mp hi;have hG:=hH i hI j (P j (dm hj));have hM:j6 (aq L) (((z.index+i:Nat):Int)+(j:Int))=O (V.int ((aV L (z.index+i+j):Nat):Int)):=by
       have:((z.index+i:Nat):Int)+(j:Int)=((z.index+i+j:Nat):Int):=by lia
       rw[this];exact cU (i_ (by rw[hN];exact hG))
      refine⟨Y,_,Y,_,Y,_,Y,_,_,Y,Y,bu.of (s3 _ _ hB),hM,_,Y,Y,_,Y,?_⟩;by_cases y:aV L (z.index+i+j)=n
      .exact dW (by rw[y]) ⟨_,rfl,m1 (bJ y) H3 (aG.refl H3)⟩
      .exact dD (by intro u;injection u with u;lia) (m2 (bP y) H3 (aG.refl H3))
     .intro H3 s3 ho;have ef:=wO T (λj=>decide (aV L (z.index+i+j)=n)) id (λv=>match v with|.int j=>decide (aV L (z.index+i+j.toNat)=n)|_=>false) id (λ_ _=>Y) (λ_ _=>Y)
      rw[ef,Uc]at ho;refine⟨D,T.filter λj=>decide (aV L (z.index+i+j)=n),_,_,_,_,_,_,Y,W.trans s3,ho,.inr (W.free hD),eL (oM _ _) hf,λj hj=>P j (jk.mp hj).1,?_⟩;rw[w];show lF t p (m.drop (i+1)) z.node (z.index+i+1) z.held (jR t p p[c] z.node (z.index+i) z.held T)=_;rw[he];rfl
   .intro F;refine⟨_,Y,S1.ins,Z.tS,Y,W _ _ PA.ins,Z.tP,Y,_,Y,aj.of (W _ _ PA.kinds),cU (x:=kindOf p[c]) (by rw[bM,aX o];rfl),Y,_,Y,?_⟩;have I:(p.map d8)[c]?=O (d8 p[c]):=by rw[bM,aX o];rfl
    cases hp:p[c] with
    |node x cc=>rw[bJ (show V.int ((kindOf (qL x cc):Nat):Int)=V.int 0 from rfl)];obtain⟨bs,b,y1,y2,y3⟩:=fT.row h7 (u:=z.node) (by rw[(i9 hw).lb];exact C);rw[hp]at I;refine bR ⟨_,Y,S1.ins,Z.tS,Y,W _ _ h1,Z.tT,Y,_,Y,bu.of (W _ _ l),bQ (j:=1) Y,aj.of (W _ _ y1),kI y2,?_⟩;refine⟨_,Y,S1.ins,Z.tS,Y,W _ _ PA.ins,Z.tP,Y,_,Y,aj.of (W _ _ PA.dS),cU I,?_⟩;refine F _ _ ⟨b,_,eE t z.node,_,Y,Y,W _ _ y3,Yv hw C,.inr ⟨x,Y,?_⟩⟩;rw[hp];unfold jR;simp only;apply ae_;intro j _;by_cases y:aV (eE t z.node) (z.index+i+j)=x<;>simp[y]
    |row x=>exact absurd (by rw[aX o,hp]) (hK x)
    |one x=>
     rw[bP (show ¬V.int ((kindOf (dN x):Nat):Int)=V.int 0 by intro y;cases y)];obtain⟨bs,b,y1,y2,y3⟩:=fT.row h6 (u:=z.node) (by rw[(i9 hw).lk];exact C);rw[hp]at I;refine cJ ⟨_,Y,S1.ins,Z.tS,Y,W _ _ h1,Z.tT,Y,_,Y,bu.of (W _ _ l),bQ (j:=1) Y,aj.of (W _ _ y1),kI y2,?_⟩;refine⟨_,Y,S1.ins,Z.tS,Y,W _ _ PA.ins,Z.tP,Y,ps,Y,.inl ⟨_,.inl (W _ _ PA.slots)⟩,_,Y,S1.ins,Z.tS,Y,W _ _ PA.ins,Z.tP,Y,_,Y,aj.of (W _ _ PA.dS),cU I,_,.inl ⟨_,bx ((d8 (dN x):Nat):Int),.inl (W _ _ PA.slots),Y,Y⟩,?_⟩;rw[uM];refine gn ?_;dsimp only;have N:eU p z.held x=.az->jR t p p[c] z.node (z.index+i) z.held T=T:=by intro hv;rw[hp];unfold jR;simp only;rw[hv]
     have g:∀n,eU p z.held x=.one n->jR t p p[c] z.node (z.index+i) z.held T=T.filter λj=>HV.one (aV (dc t z.node) (z.index+i+j))==HV.one n:=by intro n hv;rw[hp];unfold jR;simp only;rw[hv]
     refine Aa ?_;cases es:fu p x with
     |none=>
      have hh:fu p (d8 (dN x))=U:=es;rw[hh];refine⟨_,Y,Y,_,Y,?_⟩;refine bR ?_;have:eU p z.held x=.az:=by unfold eU;rw[es]
      exact F _ _ ⟨b,_,dc t z.node,_,Y,Y,W _ _ y3,Ew hw C,.inl ⟨Y,N this⟩⟩
     |some sl=>
      have hh:fu p (d8 (dN x))=O sl:=es;have hy:sl<J z.held:=by rw[hJ];exact(qZ es).1
      rw[hh];obtain⟨v,ht,ha⟩:=hq.at_ hy;have hk:eU p z.held x=z.held.getD sl .az:=by unfold eU;rw[es]
      refine⟨_,Y,Y,_,Y,?_⟩;refine cJ ⟨_,Y,bu.of (W _ _ l),bQ (j:=3) Y,_,Y,bu.of (W _ _ hs),bQ ht,?_⟩;refine F _ _ ⟨b,v,dc t z.node,_,Y,Y,W _ _ y3,Ew hw C,?_⟩;rcases hn x (by rw[<-hp];exact qO o) with e|⟨n,e⟩
      .left;have e':=e;rw[hk]at e;exact⟨ha.az.mpr e,N e'⟩
      .right;have hA:=g n e;rw[hk]at e;rw[e]at ha;refine⟨n,ha.one,?_⟩;rw[hA];apply ae_;intro j _;by_cases y:aV (dc t z.node) (z.index+i+j)=n<;>simp[y]
  .rintro σ H' ⟨R,T,v4,v5,v6,v7,v8,v9,rfl,s1,M,hfr,hf,P,w⟩;refine⟨_,Y,kk H' R s1 hfr ?_⟩;rw[w];have:m.drop (J (aq sg))=[]:=by refine wB ?_;rw[hb,aM];exact wz _ _
   rw[this];exact M
end
theorem LX{t:List aO}(w:j8 1 t=true){u:Nat}(Y:u<=J t):J (cQ t u)<=J t:=by
 rw[lW w Y];rcases cY (J t) (b7 (ah t) u) with z|z
 .exfalso;have U:=jO w;have Z:∀j,j<=J t->j<=aI (ah t) u j:=by
   intro j
   induction j with
   |zero=>intro _;lia
   |succ j T=>intro Q;have R:=T byA;have W:=jW U (u:=u) (j:=j) (by simpa using Y) byA;rw[k7 (by simpa using Y)];have:=rC (cs:=ah t) (n:=aI (ah t) u j) (k:=1) W byA;lia
  have P:=Z (J t) (aU _);have S:=jW U (u:=u) (j:=J t) (by simpa using Y) z;simp at S;lia
 .exact z
theorem abJ(hi:i<=J t)(h:cW t i k):k<=J t:=by
 rcases cY (J t) k with z|z
 .exfalso;have Z:∀j,j<=J t->j<=pa (ah t) i j:=by
   intro j
   induction j with
   |zero=>intro _;lia
   |succ j W=>intro T;have U:=W byA;have Y:=pK hi h (a:=j) byA;rw[l7 (by simpa using hi)];have:=rC (cs:=ah t) (n:=pa (ah t) i j) (k:=1) (by simpa using Y) byA;lia
  have R:=Z (J t) (aU _);have S:=pK hi h (a:=J t) z;lia
 .exact z
theorem Jl{p:List aF}{a:Nat}:J (dM p a)<=J p:=by
 unfold dM;have:∀(f m:Nat)(l:List aF),J (cy f m l)<=f:=by
  intro f
  induction f with
  |zero=>intro m l;cases m<;>simp[cy]
  |succ f Z=>
   intro m l;cases m with
   |zero=>simp[cy]
   |succ m=>cases l with
    |nil=>simp[cy]
    |cons x l=>have:=Z m (aes x.kids l);simp[cy];omega
 exact this _ _ _
theorem Mx(f:Nat->Nat)(c:Nat):∀l:List Nat,(∀x∈l,f x<=c)->(l.map f).sum<=J l*c
 |[],_=>by simp
 |x::l,h=>by have W:=Mx f c l λy Z=>h y (by simp[Z]);have Y:=h x byB;rw[bL,eN,iI,TQ];lia
section
variable[aW]
theorem cM.An(R:cM t p base h m k r ks z b){g:Nat}(Q:ie g∈p)(N:met p z.at_ g=true)(W:more p z.at_ g=true):∃l,fu p g=O (jP p g)/\eU p z.held g=.row l/\z.held.getD (jP p g) .az=.row l/\J l<=J t:=by
 obtain⟨f,s,L,U,S,M⟩:=R.x8 N W;have T:jP p g=s:=by
  have:fu p g=O s:=U;unfold fu at this;split at this
  .exact bH this
  .cases this
 have P:dN f.hole∉p:=by rw[M];exact R.apart g Q
 have Z:hv t p f=.row (nO t f.at_ f.count):=by unfold hv;rw[ao P]
 obtain⟨I,K⟩:=R.C.good f (nL L).1;have Y:J (nO t f.at_ f.count)<=J t:=by unfold nO;rw[aM,ko];exact abJ I K
 refine⟨_,by rw[T];exact U,by rw[S,Z],?_,Y⟩;have:eU p z.held g=z.held.getD s .az:=by unfold eU;rw[U]
 rw[T,<-this,S,Z]
theorem cM.Zh(R:cM t p base h m k r ks z b){g:Nat}(Z:dN g∈p):eU p z.held g=.az\/∃n,eU p z.held g=.one n:=by
 unfold eU;cases U:fu p g with
 |none=>exact .inl Y
 |some s=>
  simp only;rw[R.C.held.val g s U];unfold heldOf;cases W:oJ b g with
  |none=>exact .inl Y
  |some f=>
   simp only;split
   .right;have:f.hole=g:=(nL W).2;unfold hv;rw[this,aD Z];exact⟨_,Y⟩
   .exact .inl rfl
theorem GI{a g:Nat}(Z:g∈known p a h):ie g∈p/\met p a g=true/\more p (a+1) g=true:=by unfold known at Z;obtain⟨S,T⟩:=jk.mp Z;have W:=(jk.mp S).1;have Y:=mX.mp W;unfold dM at Y;have U:=xm Y;exact⟨Ub U,T,BY W⟩
omit [aW] in
theorem Yj{a:Nat}(B:Lg p a):seg p a=(qo p a).filterMap (λi=>p[i]?)/\J (qo p a)<=jy p a/\∀c∈qo p a,c<J p/\∀h,p[c]?≠O (.row h):=by
 have W:∀l:List Nat,(∀i∈l,i<J p)->((l.filterMap λi=>p[i]?).takeWhile λq=>!jY q)=(l.takeWhile λi=>decide (aV (p.map kindOf) i≠2)).filterMap (λi=>p[i]?)/\J (l.takeWhile λi=>decide (aV (p.map kindOf) i≠2))<=J (l.filterMap λi=>p[i]?)-J (cj (l.filterMap λi=>p[i]?))/\∀c∈l.takeWhile λi=>decide (aV (p.map kindOf) i≠2),c<J p/\∀h,p[c]?≠O (.row h):=by
  intro l
  induction l with
  |nil=>intro _;exact⟨Y,byB,λc Z=>by simp at Z⟩
  |cons x l N=>
   intro h;have hx:=h x byB;obtain⟨S,M,T⟩:=N λi hi=>h i (by simp[hi]);have U:aV (p.map kindOf) x=kindOf p[x]:=yq (by rw[bM,aX hx];rfl);have Z:=(rZ [] (l.filterMap λi=>p[i]?)).2;rw[fR,aX hx];simp only;cases e:p[x] with
   |row y=>rw[T6 (by simp[jY]),T6 (by rw[U,e];simp[kindOf])];exact⟨Y,byB,λc Z=>by simp at Z⟩
   |one y=>
    rw[Cs (by simp[jY]),Cs (by rw[U,e];simp[kindOf]),S,fR,aX hx,e];refine⟨Y,?_,λc Z=>?_⟩
    .show _+1<=_+1-J (cj (l.filterMap λi=>p[i]?));lia
    .rcases bE.mp Z with z|z
     .subst z;exact⟨hx,λh z=>by rw[aX hx,e]at z;cases z⟩
     .exact T c z
   |node y cc=>
    rw[Cs (by simp[jY]),Cs (by rw[U,e];simp[kindOf]),S,fR,aX hx,e];refine⟨Y,?_,λc Z=>?_⟩
    .show _+1<=_+1-J (cj (l.filterMap λi=>p[i]?));lia
    .rcases bE.mp Z with z|z
     .subst z;exact⟨hx,λh z=>by rw[aX hx,e]at z;cases z⟩
     .exact T c z
 obtain⟨P,Q,R⟩:=W (jI p a) B.lt;refine⟨?_,?_,R⟩
 .unfold seg;rw[B.is];exact P
 .unfold jy;rw[B.is];exact Q
end
theorem DQ(f:Nat->Nat):∀l:List Nat,(l.map λg=>((f g:Nat):Int)).sum=(((l.map f).sum:Nat):Int)
 |[]=>rfl
 |x::l=>by rw[bL,bL,eN,eN,DQ f l];lia
theorem BK{a:Int}{b:Nat}(ha:0<=a)(hb:1<=b):a/(b:Int)<=a/\0<=a/(b:Int):=
 ⟨Uv _ ha,Int.ediv_nonneg ha byA⟩
theorem IY{a:Int}{b:Nat}(ha:a<0)(hb:1<=b):a/(b:Int)+1<=0:=by have:a/(b:Int)<0:=Uu ha byA;lia
inductive Xz(C CG CT CS:aa)(vs:List V)(H:Hp)(Q:VK)(E_:XK):Prop
 |mk(S0:aW)(r dx q tr rt rv rx bz:aa)(p:List aF)(t:List aO)(z:Spot)(iz h m k:Nat)(rs ks:List Nat)(bw:k_)(_:vs=[.ref r,.ref bz])(_:mG C CG CT CS H r p t dx q tr rt rv rx)(_:fB H bz z)(_:cM t p iz h m k rs ks z bw)(_:J p<=32)(_:J t<=256)(_:∀(H':Hp) (D:aa),aG H H'->H D=U->H' D=O (.lst (aq (lens t p h z)))->Q (.ref D) H')
section
theorem AN(Z:HY):Ok 2 23 ["self","spot"] (Xz zP zG zT zS):=by
 have GS:=(PL Z).g;refine Z.KS.Go ["self","spot","held","at","label","gap","spare","slot"] λcdv A outer s H vs Q E hr nd h=>?_
 .obtain⟨S0,r,dx,q,tr,rt,rv,rx,bz,p,t,z,iz,h,m,k,rs,ks,bw,rfl,S,hz,R,hl,hV,kk⟩:=h;have hu:=jF hr;refine⟨_,(aA (nF (i:=2) nd Y (Or.inr Y) (aN cC (pv 1) aK))
   (aA (bN 3 nd (aN cC (pv 1) aK))
   (aA (bN 4 nd (aN bI (aC (aC (pv 0))) (pv 3)))
   (aA (bT (bK rE (ow hu (aC (aC (pv 0))) (pv 4) (λ_ _=>Y)) (pv 3) (bB _)) (aJ (bh (dQ (af (fy iN byC Z.B.len PySem.boot_len (af (aN cC (pv 2) (ow hu (aC (aC (pv 0))) (pv 4) (λ_ _=>Y))) ay)) ay)))) b8)
   (aA (bN 5 nd (aN bI (aC (aC (pv 0))) (pv 3)))
   (aA (bN 6 nd (dh rD (dh rD (fy iN byC Z.B.len PySem.boot_len (af (aN bI (aC (aC (pv 0))) (aN cC (pv 1) aK)) ay)) (aN cC (pv 1) aK)) (aC (pv 5))))
   (aA (Ax (i:=6) nd Y (Or.inl Y) (fy (Jc Y) byC Z.B.sum Tr (af (mV (own:=[("slot",7)]) Y nd (jm (aC (pv 5))) (k9 (by show j5 ["self","spot","held","at","label","gap","spare","slot"] (h_ En) _ [("slot",7)]=true;decide +kernel)) (λ_ _ _ _ _=>(dB 7 nd)) (λ_ _ _ _ _=>o8) (λ_ _ _ _ _=>(fy (adT zK) byC Z.B.len PySem.boot_len (af (aN (GQ zK) (pv 2) (pv 7)) ay)))) ay)) Q8)
   (aA (bT (qt (jB (aC (pv 5)) byF)) (aJ (bh (bX (pv 0) Z.tS.cl Z.Gi GS hr (PL Z).b .nil bq (af (pv 1) (af (aC (pv 5)) (af (xC (adR Y) byC Z.B.list ag8 (af (xC adQ byC Z.B.range ag7 (af (dh jo (dh Pr (pv 6) (aC (pv 5))) aK) ay)) ay)) ay)))))) b8)
   (aA (bT (PW.pt (vc (bK rE (pv 6) aK (bB _)) (u_ (bK lI (dh Pq (pv 6) (aC (pv 5))) aK (bB _))))) (aJ (bh (dQ ay))) b8)
   (aJ (bh (dQ (af (dh Pr (pv 6) (aC (pv 5))) ay))))))))))))),?_⟩
  dsimp only[xk];obtain⟨dt,ki,rl,rr,ra,rp,rn,re,rk,cF,rll,h1,hL,h3,h8,h4,h5,h6,h7⟩:=S.tree;obtain⟨dq,pk,hP,pr,hU,pp,hR,pf,hO,ps,hN,hS,hT,kl,gs,PA⟩:=S.pat;obtain⟨rh,I,xs,ha,d⟩:=hz;have hpa:p[z.at_]?=O (.row h):=R.is;have hn:ie h∈p:=dm hpa;have F:iL p h z.at_=true:=by unfold iL;rw[hpa];simp[dJ,iw]
  have hs:h∈iy p:=GO.mpr ⟨_,F⟩;have hB:bU (eF p (J p)) (bx (h:Int))=O (V.int (firstOf p h:Nat)):=by unfold eF;rw[kK,uN,aD hs]
  refine⟨_,Y,bu.of I,bQ (j:=3) Y,?_⟩;refine⟨_,Y,bu.of I,bQ (j:=0) Y,?_⟩;refine⟨_,Y,S.ins,Z.tS,Y,PA.ins,Z.tP,Y,_,Y,aj.of PA.dS,cU (x:=h) (by rw[bM,hpa];rfl),?_⟩;refine⟨_,Y,S.ins,Z.tS,Y,PA.ins,Z.tP,Y,_,Y,pf,_,Y,.inl ⟨_,bx (h:Int),.inl PA.firsts,Y,hB.symm⟩,_,Y,_,_,Y,Y,_,Y,?_⟩;have hw:=BD (p:=p) (h:=h) (a:=z.at_) ⟨_,F⟩;have hp:more p z.at_ h=true:=vF.mpr ⟨z.at_,aU _,F⟩;cases hm:met p z.at_ h with
  |true=>
   rw[bJ (show((firstOf p h:Nat):Int)<(z.at_:Int) by have:=hw.mpr hm;lia)];obtain⟨l,w1,w2,f,w4⟩:=R.An hn hm hp;have hf:bU (oY p) (bx (h:Int))=O (V.int (jP p h:Nat)):=by rw[uM,w1];rfl
   obtain⟨v,y1,y2⟩:=d.at_ (i:=jP p h) (by rw[R.C.held.len];exact(qZ w1).1);rw[f]at y2;obtain⟨hA,rfl,y3⟩:=y2.row;refine bR ⟨_,Y,_,Y,S.ins,Z.tS,Y,PA.ins,Z.tP,Y,_,Y,ps,_,Y,.inl ⟨_,bx (h:Int),.inl PA.slots,Y,hf.symm⟩,bu.of ha,bQ y1,.inr (bu.of y3),(by show 1<=bf;decide),λD hD=>kk _ _ (aT hD) hD ?_⟩;rw[aB];unfold lens;rw[aD hm,w2];show _=O (HO.lst [V.int ((J l:Nat):Int)]);rw[aM]
  |false=>
   refine dD (show ¬((firstOf p h:Nat):Int)<(z.at_:Int) by intro y;have:=hw.mp byA;rw[hm]at this;cases this) ?_;refine fY ?_;dsimp only;obtain⟨g,hI,c9,f_,dg,hb,hF,ht⟩:=PA.Hr _ _ hpa;obtain⟨as,a,r1,r2,r3⟩:=hL.row (jO R.w) (u:=z.node) (by have:=R.nd;simp;lia);refine⟨_,Y,S.ins,Z.tS,Y,PA.ins,Z.tP,Y,_,Y,aj.of PA.Ht,bQ hI,?_⟩;refine⟨_,Y,S.ins,Z.tS,Y,h1,Z.tT,Y,_,Y,bu.of I,bQ (j:=1) Y,aj.of r1,kI r2,.inl (aj.of r3),?_⟩;refine⟨_,Y,bu.of I,bQ (j:=2) Y,_,_,Y,Y,_,Y,hb,Z.tG,Y,_,_,Y,Y,?_⟩;refine gn ?_;dsimp only;refine⟨_,Y,_,Y,hb,Z.tG,Y,f_,Y,⟨_,aj.of ht⟩,λD hD=>?_⟩;have hH:J (known p z.at_ h)<=32:=by
    have e1:J (known p z.at_ h)<=J (cj (dM p z.at_)):=by unfold known;exact eL (oM _ _) (oM _ _)
    have e2:=(rZ [] (dM p z.at_)).2;have e3:J (dM p z.at_)<=J p:=Jl;lia
   refine pF (K:=zK) (a:=f_) (xs:=aq ((known p z.at_ h).map (jP p))) (λ_=>true) (λv=>match v with|.int i=>V.int ((j3 (z.held.getD i.toNat .az):Nat):Int)|_=>.az) hD (aj.of ht) (by rw[aM,aM,c8];lia) ?_ ?_
   .rintro i x hi H3 Nx Nn L m1 m2;rw[bM,bM]at hi;obtain⟨c,hc,rfl⟩:=eZ.mp hi;obtain⟨g',P,rfl⟩:=eZ.mp hc;have hG:=dm P;obtain⟨k1,k2,k3⟩:=GI hG;obtain⟨l,w1,w2,f,w4⟩:=R.An k1 k2 (xO R.lt k3);obtain⟨v,y1,y2⟩:=d.at_ (i:=jP p g') (by rw[R.C.held.len];exact(qZ w1).1);rw[f]at y2;obtain⟨hA,rfl,y3⟩:=y2.row;have mm:=m1 Y H3 (aG.refl H3);simp only[lA]at mm;rw[f]at mm;refine⟨Y,_,Y,_,Y,bu.of (L _ _ ha),bQ y1,.inr (bu.of (L _ _ y3)),?_⟩;rw[aM];exact mm
   intro H3 L hy;have hh:((aq ((known p z.at_ h).map (jP p))).filter λ_=>true).map (λv=>match v with|.int i=>V.int ((j3 (z.held.getD i.toNat .az):Nat):Int)|_=>.az)=((known p z.at_ h).map λg=>((j3 (eU p z.held g):Nat):Int)).map V.int:=by rw[yT.mpr (λ_ _=>rfl)];show((fC _ (fC _ _)).map _)=_;rw[iZ,iZ,iZ];apply kj;intro g' P;obtain⟨k1,k2,k3⟩:=GI P;obtain⟨l,w1,w2,f,w4⟩:=R.An k1 k2 (xO R.lt k3);show V.int ((j3 (z.held.getD (((jP p g':Nat):Int)).toNat .az):Nat):Int)=V.int ((j3 (eU p z.held g'):Nat):Int);rw[lA,f,w2]
   rw[hh]at hy;refine⟨D,_,Y,aj.of hy,_,_,Y,Y,?_⟩;have el:J (aq (rowAt (lay (ah t)).rows z.node))=J (cQ t z.node):=by rw[aM];rfl
   have hM:((J (aq (rowAt (lay (ah t)).rows z.node)):Nat):Int)-(z.index:Int)-((jy p z.at_:Nat):Int)-((known p z.at_ h).map λg=>((j3 (eU p z.held g):Nat):Int)).sum=dY t p h z:=by unfold dY;rw[el,DQ (λg=>j3 (eU p z.held g))]
   dsimp only;rw[hM];have M:1<=times p z.at_ h:=by unfold times;lia
   have hC:times p z.at_ h<=1000:=by unfold times;have e1:=List.count_le_length (a:=h) (l:=cj (dM p z.at_));have e2:=(rZ [] (dM p z.at_)).2;have e3:J (dM p z.at_)<=J p:=Jl;lia
   have hE:dY t p h z<=J (cQ t z.node)-z.index-jy p z.at_:=by unfold dY;lia
   have hZ:J (cQ t z.node)<=J t:=LX R.w (by have:=R.nd;lia);have hk:-1000000<dY t p h z:=by
    have hx:z.index<=J (cQ t z.node):=by rw[lW R.w (by have:=R.nd;lia)];have:=R.full;lia
    have hY:((known p z.at_ h).map λg=>j3 (eU p z.held g)).sum<=J (known p z.at_ h)*256:=by refine Mx _ 256 _ λg' P=>?_;obtain⟨k1,k2,k3⟩:=GI P;obtain⟨l,w1,w2,f,w4⟩:=R.An k1 k2 (xO R.lt k3);rw[w2];show J l<=256;lia
    have hX:J (known p z.at_ h)*256<=32*256:=aeO _ hH;have hW:jy p z.at_<=32:=by unfold jy;have e3:J (dM p z.at_)<=J p:=Jl;lia
    unfold dY;lia
   generalize hg:dY t p h z=W at hE hk;generalize G:times p z.at_ h=U at M hC;have T:=L _ _ hb;refine⟨_,Y,T,Z.tG,Y,_,Y,?_⟩;cases o:qm p z.at_ h with
   |false=>
    refine bR ?_;have BO:=S8 R.wp R.lt (by have:=(cV.mp hpa).2;rw[this];rfl);obtain⟨e1,e2,e3⟩:=Yj BO;have he:Lb W (U:Nat):=⟨byA,byA⟩;refine⟨_,Y,L _ _ S.ins,Y,_,Y,_,Y,T,Z.tG,Y,?_⟩;refine⟨_,Y,_,Y,T,Z.tG,Y,?_⟩;rw[G];refine⟨_,_,Y,Y,he,_,_,Y,Y,_,Y,λrg ho=>?_⟩;have h9:W/(U:Int)+1<=257/\-1000000<W/(U:Int)+1:=by
     rcases(show W<0\/0<=W by lia) with y|y
     .have h1:=IY y M;have h2:W<=W/(U:Int):=by refine Int.le_ediv_of_mul_le byA ?_;have:=Int.mul_le_mul_of_nonpos_left (a:=W) (b:=(U:Int)) (c:=1) byA byA;lia
      lia
     .have:=BK y M;lia
    have hJ:∀j:Nat,j<(W/(U:Int)+1).toNat->(j:Int)<=W:=by
     intro j hj;rcases(show W<0\/0<=W by lia) with y|y
     .have h1:=IY y M;lia
     .have:=BK y M;lia
    refine⟨rg,_,Y,aB,byA,byA,λrls n=>?_⟩;have s4:aG H3 (upd (upd H3 rg (.tu 0 (W/(U:Int)+1))) rls (.lst ((bA (W/(U:Int)+1).toNat).map λi=>V.int (i:Nat)))):=(aT ho).trans (aT n);have e:=L.trans s4;refine⟨S0,r,dx,q,tr,rt,rv,rx,bz,c9,rls,p,t,z,qo p z.at_,bA (W/(U:Int)+1).toNat,Y,S.same e,⟨rh,e _ _ I,xs,e _ _ ha,d.same e⟩,e _ _ hF,aB,e3,R.w,R.nd,R.C.held.len,by rw[ko];lia,?_,?_,λH' D' s6 hK N=>kk _ _ (e.trans s6) ?_ ?_⟩
    .intro i hi j hj;have h1:=hJ j (iB.mp hj);lia
    .intro g' P;exact R.Zh P
    .rcases hK with y|y
     .rw[y];exact L.free ((aT ho).free n)
     .exact e.free y
    .rw[N];unfold lens;rw[hm,o,hg,G,e1];rfl
   |true=>
    refine cJ ?_;refine fY ?_;dsimp only;have he:Lb W (U:Nat):=⟨byA,byA⟩;have hq:lens t p h z=if W<0\/W%(U:Nat)≠0 then [] else [(W/(U:Nat)).toNat]:=by unfold lens;rw[hm,o,hg,G];rfl
    refine wZ ?_;refine yd (b:=decide (W<0\/W%(U:Nat)≠0)) (H':=H3) ?_ ?_
    .intro Q' hQ;refine⟨_,Y,_,_,Y,Y,_,Y,?_⟩;by_cases c:W<0
     .rw[bJ c];rw[bJ (Or.inl c)]at hQ;exact bR hQ
     .refine dD c ⟨_,rfl,_,rfl,T,Z.tG,rfl,?_⟩;rw[G];refine⟨_,_,Y,Y,(by show(0:Int)<(U:Int);lia),Y,_,Y,?_⟩;by_cases c2:W%(U:Int)=0
      .rw[bJ (show V.int (W%(U:Int))=V.int 0 by rw[c2])];rw[bP (by rintro(y|y);exact c y;exact y c2)]at hQ;exact hQ
      .rw[bP (show ¬V.int (W%(U:Int))=V.int 0 by intro y;injection y with y;exact c2 y)];rw[bJ (Or.inr c2)]at hQ;exact hQ
    .by_cases c:W<0\/W%(U:Nat)≠0
     .refine dW c ⟨cI _,λD' N=>kk _ _ (L.trans (aT N)) (L.free N) ?_⟩;rw[hq,aD c];exact aB
     .refine dD c ?_;refine fY ?_;dsimp only;refine⟨_,Y,_,Y,T,Z.tG,Y,?_⟩;rw[G];refine⟨_,_,Y,Y,he,(by show 1<=bf;decide),λD' N=>kk _ _ (L.trans (aT N)) (L.free N) ?_⟩;rw[hq,ao c,aB];have h0:0<=W:=by
       rcases(show W<0\/0<=W by lia) with y|y
       .exact absurd (Or.inl y) c
       .exact y
      have:=BK h0 M;have e5:(((W/(U:Int)).toNat:Nat):Int)=W/(U:Int):=by lia
      show O (HO.lst [V.int (W/(U:Int))])=O (HO.lst [V.int (((W/(U:Int)).toNat:Nat):Int)]);rw[e5]
end
inductive uv(H:Hp)(D:Addr)(ss:List Spot):Prop
 |mk(as:List Addr)(_:H D=O (.lst (as.map V.ref)))(_:Paired (fun(s:Spot) (a:Addr)=>fB H a s) ss as)
theorem uv.push(W:H D=O (.lst (as.map V.ref)))(Y:Paired (fun(s:Spot) (a:aa)=>fB H a s) ss as)(Z:fB H c z):uv (upd H D (.lst (as.map V.ref++[.ref c]))) D (ss++[z]):=by have ht:∀b xs,H b=O (.tup xs)->upd H D (.lst (as.map V.ref++[.ref c])) b=O (.tup xs):=λb xs e=>aE (bZ e W (by intro z;cases z)) e;refine⟨as++[c],by rw[aB,dw];rfl,?_⟩;exact Paired.Ac (Paired.l_ Y λ_ _ y=>y.tups ht) (Z.tups ht)
inductive XQ(C CG CT CS:aa)(vs:List V)(H:Hp)(Q:VK)(E_:XK):Prop
 |mk(S0:aW)(r dx q tr rt rv rx bz:aa)(p:List aF)(t:List aO)(z:Spot)(iz h m k:Nat)(rs ks:List Nat)(bw:k_)(_:vs=[.ref r,.ref bz])(_:mG C CG CT CS H r p t dx q tr rt rv rx)(_:fB H bz z)(_:cM t p iz h m k rs ks z bw)(_:J p<=32)(_:J t<=256)(_:∀(H':Hp) (D:aa),aG H H'->uv H' D (ee t p h z)->Q (.ref D) H')
theorem QM[aW](R:cM t p base h m k r ks z b)(ht:J t<=256):J (lens t p h z)<=1000:=by
 unfold lens;split
 .simp
 .split
  .split<;>simp
  .refine eL xj.length_le ?_;rw[ko];have W:J (cQ t z.node)<=J t:=LX R.w (by have:=R.nd;lia);have Y:dY t p h z<=J (cQ t z.node):=by unfold dY;lia
   have Z:1<=times p z.at_ h:=by unfold times;lia
   rcases(show dY t p h z<0\/0<=dY t p h z by lia) with y|y
   .have:=IY y Z;lia
   .have:=BK y Z;lia
section
theorem vv(Z:HY):Ok 3 24 ["self","spot"] (XQ zP zG zT zS):=by
 refine Z.KR.Go ["self","spot","at","node","index","length","states","held"] λcdv A outer s H vs Q E hr nd h=>?_
 .obtain⟨S0,r,dx,q,tr,rt,rv,rx,bz,p,t,z,iz,h,m,k,rs,ks,bw,rfl,S,hz,R,hl,I,kk⟩:=h;have hu:=jF hr;have hx:bS 1 _:=hr.mono byD;refine⟨_,(aA (nF (i:=2) nd Y (Or.inr Y) (aN cC (pv 1) aK))
   (aA (nF (i:=3) nd Y (Or.inr Y) (aN cC (pv 1) aK))
   (aA (nF (i:=4) nd Y (Or.inr Y) (aN cC (pv 1) aK))
   (aA (bT (Aw (EK hu (aN bI (aC (aC (pv 0))) (pv 2)) (aC (aC (pv 0))))) (aJ (bh (mV (own:=[("length",5)]) Y nd (jm (bX (pv 0) Z.tS.cl Z.Bb (AN Z).g hr (AN Z).b .nil bq (af (pv 1) ay))) (k9 (by show j5 ["self","spot","at","node","index","length","states","held"] (h_ Es) _ [("length",5)]=true;decide +kernel)) (λ_ _ _ _ _=>(dB 5 nd)) (λ_ _ _ _ _=>o8) (λ_ _ _ _ _=>(jD (af (dh jo (pv 2) aK) (af (pv 3) (af (dh jo (pv 4) (pv 5)) (af (aN (GQ zK) (pv 1) aK) ay))))))))) b8)
   (aA (bN 6 nd (dQ ay))
   (aA (iV iG Y (jm (bX (pv 0) Z.tS.cl Z.Bb (AN Z).g hr (AN Z).b .nil bq (af (pv 1) ay))) (dB 5 nd) (aA (bN 7 nd (bX (pv 0) Z.tS.cl Z.xU (vp Z).g hx (vp Z).b .nil bq (af (aN cC (pv 1) aK) (af (pv 2) (af (qu D8 (aN bI (aC (aC (pv 0))) (pv 3)) (lZ (pv 4)) (lZ (dh jo (pv 4) (pv 5)))) ay)))))
   (aJ (bT (bK vh (pv 7) d7 (bB _)) (aJ (iW (kY PySem.F.plainAttrs_list PySem.F.slot_list_append PySem.F.type_list_append pC (pv 6) (af (jD (af (dh jo (pv 2) aK) (af (pv 3) (af (dh jo (pv 4) (pv 5)) (af (pv 7) ay))))) ay)))) b8))))
   (aJ (bh (pv 6))))))))),?_⟩
  dsimp only[xk];obtain⟨dt,ki,rl,rr,ra,rp,rn,re,rk,cF,rll,h1,hL,h3,hM,h4,h5,h6,h7⟩:=S.tree;obtain⟨dq,pk,hG,pr,hK,pp,hH,pf,hF,ps,hE,hI,hJ,kl,gs,PA⟩:=S.pat;have hg:=hz;obtain⟨rh,P,hf⟩:=hz;have hpa:p[z.at_]?=O (.row h):=R.is;have hh:iw (p[z.at_]'R.lt)=O h:=by rw[(cV.mp hpa).2];rfl
  have hN:=QM R I;refine⟨_,Y,bu.of P,bQ (j:=0) Y,?_⟩;refine⟨_,Y,bu.of P,bQ (j:=1) Y,?_⟩;refine⟨_,Y,bu.of P,bQ (j:=2) Y,?_⟩;refine⟨_,Y,S.ins,Z.tS,Y,PA.ins,Z.tP,Y,_,Y,aj.of PA.dS,cU (x:=h) (by rw[bM,hpa];rfl),?_⟩;refine⟨_,Y,S.ins,Z.tS,Y,PA.ins,Z.tP,Y,ps,_,Y,.inl ⟨_,bx (h:Int),.inl PA.slots,Y,Y⟩,_,Y,?_⟩;rw[uM];have hs:(z.at_:Int)+1=((z.at_+1:Nat):Int):=by lia
  cases es:fu p h with
  |none=>
   refine bR ?_;have hA:ee t p h z=(lens t p h z).map λj=>(⟨z.at_+1,z.node,z.index+j,z.held⟩:Spot):=by unfold Hs.ee;rw[<-List.filterMap_eq_map];apply fq (λf=>afa f _);funext j;unfold Hs.choice Hs.hold;rw[es];rfl
   refine⟨_,Y,S.ins,Y,_,Y,S0,r,dx,q,tr,rt,rv,rx,bz,p,t,z,iz,h,m,k,rs,ks,bw,Y,S,hg,R,hl,I,λH1 l s1 B M=>?_⟩;refine⟨l,Y,⟨_,aj.of M⟩,λD hD=>?_⟩;refine Gy (K:=zK) (a:=l) (xs:=aq (lens t p h z)) (λi H'=>aG H1 H'/\uv H' D (((lens t p h z).take i).map λj=>(⟨z.at_+1,z.node,z.index+j,z.held⟩:Spot)))
    ⟨aT hD,[],aB,.nil⟩ (λi H' _ h=>aj.of (h.1 _ _ M)) ?_ ?_
   .rintro i x H' hi ⟨s2,as,d,n⟩;rw[bM]at hi;obtain⟨c,G,rfl⟩:=eZ.mp hi;have he:=s1.trans s2;have ho:as.length=i:=by have:=Paired.length n;rw[aM,lu]at this;have:=(cV.mp G).1;lia
    have hy:=(cV.mp G).1;refine⟨Y,?_⟩;refine⟨_,Y,_,_,Y,Y,_,Y,_,Y,_,Y,_,_,Y,Y,_,Y,bu.of (he _ _ P),bQ (j:=3) Y,(by show 4<=bf;decide),λb hb=>?_⟩;refine⟨_,aT hb _ _ d,by rw[aM,ho,c8];lia,λb' o e=>aE (aQ e hD) (aT hb _ _ (s2 _ _ e)),?_⟩;rw[kR G,dw];refine uv.push (aT hb _ _ d) (Paired.l_ n λ_ _ y=>y.same (aT hb)) ⟨rh,?_,hf.same (he.trans (aT hb))⟩;rw[aB];have:(z.index:Int)+(c:Int)=((z.index+c:Nat):Int):=by lia
    dsimp only;rw[hs,this]
   .rintro H' ⟨s2,y⟩;refine kk _ _ (s1.trans s2) ?_;rw[hA];rw[aM,kK]at y;exact y
  |some sl=>
   refine cJ ?_;refine fY ?_;dsimp only;refine⟨cI _,λD hD=>?_⟩;have s0:aG H (upd H D (.lst [])):=aT hD;refine⟨_,Y,s0 _ _ S.ins,Y,_,Y,S0,r,dx,q,tr,rt,rv,rx,bz,p,t,z,iz,h,m,k,rs,ks,bw,Y,S.same s0,hg.same s0,R,hl,I,λH1 l s1 B M=>?_⟩;have ht:=s0.trans s1;have hC:=s1 _ _ (aB:upd H D (.lst []) D=O (.lst []));have hp:∀H',bg [D] H1 H'->aG H H':=λH' kp b o e=>kp b o (ht b o e) (by simp;exact aQ e hD);have hB:l≠D:=by intro y;rw[y,aB]at B;cases B
   refine⟨l,Y,⟨_,aj.of M⟩,rR (K:=zK) (a:=l) (xs:=aq (lens t p h z)) (λi σ H'=>∃v5 v7:Option V,σ=[O (.ref r),O (.ref bz),O (.int (z.at_:Nat)),O (.int (z.node:Nat)),O (.int (z.index:Nat)),v5,O (.ref D),v7]/\bg [D] H1 H'/\uv H' D (((lens t p h z).take i).filterMap (choice t p h z)))
    ⟨U,U,Y,bg.refl,[],hC,.nil⟩ (λi σ H' _ ⟨_,_,_,kp,_⟩=>aj.of (kp _ _ M (by simp;exact hB))) ?_ ?_⟩
   .rintro i x σ H' hi ⟨v5,v7,rfl,kp,as,d,n⟩;rw[bM]at hi;obtain⟨c,G,rfl⟩:=eZ.mp hi;have J:=hp H' kp;have hy:=(cV.mp G).1;have ho:as.length<=i:=by have h1:=Paired.length n;have h2:=wz (choice t p h z) ((lens t p h z).take i);rw[lu]at h2;lia
    obtain⟨bs,b,u1,u2,u3⟩:=fT.row h6 (u:=z.node) (by rw[(i9 R.w).lk];exact R.nd);have hj:z.index<=(dc t z.node).length:=by rw[Ew R.w R.nd,lW R.w (by have:=R.nd;lia)];have:=R.full;lia
    have hq:(z.index:Int)+(c:Int)=((z.index+c:Nat):Int):=by lia
    refine gn ?_;refine⟨_,Y,J _ _ S.ins,Y,_,Y,bu.of (J _ _ P),bQ (j:=3) Y,_,Y,_,Y,J _ _ S.ins,Z.tS,Y,J _ _ h1,Z.tT,Y,_,Y,aj.of (J _ _ u1),kI u2,_,Y,_,Y,_,Y,_,Y,_,_,Y,Y,_,Y,b,_,Y,J _ _ u3,λcc H2 s2 hn=>?_⟩;rw[hq,Ja (by rw[aM];exact hj)]at hn;have hm:H2 cc=O (.tup (aq (((dc t z.node).drop z.index).take c))):=by rw[hn];congr 2;show _=fC _ _;rw[Cu,oK];rfl
    have ha:=J.trans s2;refine⟨S0,r,dx,q,tr,rt,rv,rx,rh,p,t,z.held,z.at_,h,_,.row (((dc t z.node).drop z.index).take c),R.lt,Y,S.same ha,hf.same ha,R.C.held.len,hh,abk hm,hl,λH3 v s3 hv=>?_⟩;refine gn ?_;dsimp only;refine⟨_,Y,Y,_,Y,?_⟩;have T:=s2.trans s3;have W:choice t p h z c=(hold p z.held z.at_ h (.row (((dc t z.node).drop z.index).take c))).map λhd=>(⟨z.at_+1,z.node,z.index+c,hd⟩:Spot):=rfl;cases hk:hold p z.held z.at_ h (.row (((dc t z.node).drop z.index).take c)) with
    |none=>rw[hk]at hv W;have hv:v=.az:=hv;rw[bJ hv];refine cJ ⟨_,_,Y,kp.same T,?_⟩;rw[kR G,CK,fR,W];simp only[aeI,Um,nq];exact⟨as,T _ _ d,Paired.l_ n λ_ _ y=>y.same T⟩
    |some hd=>rw[hk]at hv W;obtain⟨hw,rfl,hv⟩:=hv;rw[bP byB];have L:=T _ _ d;refine bR ⟨_,Y,.inl ⟨Y,_,aj.of L⟩,?_⟩;refine⟨_,Y,_,_,Y,Y,_,Y,_,Y,_,Y,_,_,Y,Y,_,Y,(by show 4<=bf;decide),λb2 N=>?_⟩;refine⟨D,_,_,Y,Y,aT N _ _ L,by rw[aM,c8];lia,?_⟩;refine⟨_,_,Y,(kp.same (T.trans (aT N))).upd byB,?_⟩;rw[kR G,CK,fR,W];simp only[kg,Um];refine uv.push (aT N _ _ L) (Paired.l_ n λ_ _ y=>y.same (T.trans (aT N))) ⟨hw,?_,hv.same (aT N)⟩;rw[aB];dsimp only;rw[hs,hq]
   .rintro σ H' ⟨v5,v7,rfl,kp,y⟩;refine⟨_,Y,kk _ _ (hp H' kp) ?_⟩;rw[aM,kK]at y;exact y
end
def sF(H H':Hp):Prop:=∀b o,H b=O o->(∀k,o≠.dT k)->H' b=O o
theorem jb.nt(L:jb H cs rr ra rp)(k:sF H H'):jb H' cs rr ra rp:=by obtain⟨as,Z⟩:=L.rows;exact⟨⟨as,k _ _ Z.lst (by intro _ z;cases z),Z.len,λi b e=>k _ _ (Z.at_ i b e) (by intro _ z;cases z)⟩,k _ _ L.above (by intro _ z;cases z),k _ _ L.places (by intro _ z;cases z)⟩
theorem fT.nt(T:fT H r bs rows)(s:sF H H'):fT H' r bs rows:=⟨s _ _ T.lst (by intro _ z;cases z),T.len,λi b e=>s _ _ (T.at_ i b e) (by intro _ z;cases z)⟩
theorem pX.nt(h:pX C CG H q p)(s:sF H H'):pX C CG H' q p:=by obtain⟨dx,rk,rl,rr,ra,rp,iU,rf,fL,rs,rsh,om,oq,kl,gs,h⟩:=h;have f:∀{b:aa}{l:List V},H b=O (.lst l)->H' b=O (.lst l):=λe=>s _ _ e (by intro _ z;cases z);have g:∀{b:aa}{l:List (Key×V)},H b=O (.dK l)->H' b=O (.dK l):=λe=>s _ _ e (by intro _ z;cases z);have i:∀{b C dx:aa}{l:List (ak×V)},H b=O (.ins C dx l)->H' b=O (.ins C dx l):=λe=>s _ _ e (by intro _ z;cases z);refine⟨dx,rk,rl,rr,ra,rp,iU,rf,fL,rs,rsh,om,oq,kl,gs,i h.ins,h.lay.nt s,f h.Br,f h.kinds,f h.dS,g h.firsts,g h.lasts,h.GB,g h.slots,f h.Ai,f h.halts,f h.Ht,λa h' e=>?_⟩;obtain⟨T,U,c9,f_,dg,W,Y,Z⟩:=h.Hr a h' e;exact⟨T,U,c9,f_,dg,i W,f Y,f Z⟩
theorem lP.nt[aW](h:lP C H p t)(s:sF H H'):lP C H' p t:=by obtain⟨dx,ki,rl,rr,ra,rp,rn,re,rk,cF,rll,Q,R,S,T,U,W,⟨N,Y⟩,⟨P,Z⟩⟩:=h;have f:∀{b:aa}{l:List V},H b=O (.lst l)->H' b=O (.lst l):=λe=>s _ _ e (by intro _ z;cases z);exact⟨dx,ki,rl,rr,ra,rp,rn,re,rk,cF,rll,s _ _ Q (by intro _ z;cases z),R.nt s,f S,f T,f U,f W,⟨N,Y.nt s⟩,⟨P,Z.nt s⟩⟩
theorem mG.nt[aW](h:mG C CG CT CS H r p t dx q tr rt rv rx)(s:sF H H'):mG C CG CT CS H' r p t dx q tr rt rv rx:=
 ⟨s _ _ h.ins (by intro _ z;cases z),h.pat.nt s,h.tree.nt s⟩
theorem fB.nt(h:fB H b z)(s:sF H H'):fB H' b z:=h.tups λb xs e=>s b _ e (by intro _ z;cases z)
theorem O3[DecidableEq κ](kt:List (κ×V))(k:κ)(v:V):(putK kt k v).map (·.1)=if(bU kt k).isSome=true then kt.map (·.1) else kt.map (·.1)++[k]:=by
 unfold putK;rw[qT];split
 .rw[iZ];apply kj;intro x _;simp only[J_];split<;>rfl
 .rw[dw];rfl
theorem EX[DecidableEq α]:∀{l L:List α},l.Nodup->(∀x∈l,x∈L)->J l<=J L
 |[],_,_,_=>cI _
 |x::l,L,h,W=>by
  have hx:=W x byB;obtain⟨T,U⟩:=jL.mp h;have:=EX (l:=l) (L:=L.erase x) U λy Y=>by have Z:y≠x:=λe=>T (by rw[<-e];exact Y);exact(List.mem_erase_of_ne Z).mpr (W y (by simp[Y]))
  rw[List.length_erase_of_mem hx]at this;have S:0<J L:=List.length_pos_of_mem hx;simp;omega
structure pQ{κ:Type}[DecidableEq κ](L:List κ)(W:κ->V->Prop)(kt:List (κ×V)):Prop where
 nd:(kt.map (·.1)).Nodup
 sub:∀k∈kt.map (·.1),k∈L
 val:∀k v,bU kt k=O v->W k v
section
variable{κ:Type}[DecidableEq κ]{L:List κ}{W:κ->V->Prop}{kt:List (κ×V)}
theorem pQ.len(T:pQ L W kt):J kt<=J L:=by
 have:=EX T.nd T.sub
 rwa [aM]at this
theorem pQ.put(T:pQ L W kt)(R:k∈L)(S:W k v):pQ L W (putK kt k v):=by
 refine⟨?_,?_,?_⟩
 .rw[O3];split
  .exact T.nd
  .rename_i c;refine wm.mpr ⟨T.nd,byB,λx hx y U=>?_⟩;have:y=k:=by simpa using U
   subst this;intro e;subst e;obtain⟨⟨Y,Z⟩,P,Q⟩:=kM.mp hx;apply c;rw[<-qT];exact qP.mpr ⟨(Y,Z),P,by simpa using Q⟩
 .intro x hx;rw[O3]at hx;split at hx
  .exact T.sub x hx
  .rcases kh.mp hx with z|z
   .exact T.sub x z
   .have:x=k:=by simpa using z
    rw[this];exact R
 .intro x u e;rw[zQ]at e;split at e
  .rename_i c;rw[c,<-bH e];exact S
  .exact T.val x u e
theorem wV:pQ L W ([]:List (κ×V)):=⟨p9,λk Z=>by simp at Z,λk v e=>by cases e⟩
end
def pJ(z:Spot):Hn.NK:=.tup [.int (z.at_:Nat),.int (z.node:Nat),rP z.held]
def kT[aW](t:List aO)(p:List aF)(s:Spot):Bool:=decide (0<eB t p s)
section
variable[aW]
def VU(t:List aO)(p:List aF)(k:Hn.NK)(v:V):Prop:=∀s,k=lY s->v=V.int (eB t p s:Nat)
def Vm(t:List aO)(p:List aF)(k:Hn.NK)(v:V):Prop:=∀s,k=lY s->v=V.bl (kT t p s)
inductive abw(t:List aO)(p:List aF)(k:Hn.NK)(v:V):Prop
 |mk(z:_)(_:k=pJ z)(_:v=V.int (z.index:Nat))(_:C7 t p z)
def stK(t:List aO)(p:List aF):List Hn.NK:=(mE t p).map lY
def Hg(t:List aO)(p:List aF):List Hn.NK:=((mE t p).filterMap (fz t p (J p))).map pJ
structure B8(t:List aO)(p:List aF)(H:Hp)(rt rv rx:aa)(kt kv kx:List (Hn.NK×V)):Prop where
 ne:rt≠rv/\rt≠rx/\rv≠rx
 ht:H rt=O (.dT kt)
 hv:H rv=O (.dT kv)
 hx:H rx=O (.dT kx)
 qg:pQ (stK t p) (VU t p) kt
 qf:pQ (stK t p) (Vm t p) kv
 hop:pQ (Hg t p) (abw t p) kx
inductive TabsAt(t:List aO)(p:List aF)(H:Hp)(rt rv rx:aa):Prop
 |mk(kt kv kx:_)(_:B8 t p H rt rv rx kt kv kx)
theorem B8.same(T:B8 t p H rt rv rx kt kv kx)(s:aG H H'):B8 t p H' rt rv rx kt kv kx:=⟨T.ne,s _ _ T.ht,s _ _ T.hv,s _ _ T.hx,T.qg,T.qf,T.hop⟩
theorem TabsAt.same(T:TabsAt t p H rt rv rx)(s:aG H H'):TabsAt t p H' rt rv rx:=by obtain⟨kt,kv,kx,T⟩:=T;exact⟨kt,kv,kx,T.same s⟩
theorem Bk(T:TabsAt t p H rt rv rx)(k:bg [rt,rv,rx] H H'):sF H H':=by
 obtain⟨kt,kv,kx,T⟩:=T;refine λb o e n=>k b o e ?_;simp only[bE,fH,fM,fS];refine⟨λz=>?_,λz=>?_,λz=>?_⟩
 .rw[z,T.ht]at e;injection e with e;exact n kt e.symm
 .rw[z,T.hv]at e;injection e with e;exact n kv e.symm
 .rw[z,T.hx]at e;injection e with e;exact n kx e.symm
structure j7(C CG CT CS:aa)(H:Hp)(r:aa)(p:List aF)(t:List aO)(dx q tr rt rv rx:aa):Prop where
 sr:mG C CG CT CS H r p t dx q tr rt rv rx
 tab:TabsAt t p H rt rv rx
 ask:Ask t p
section
theorem j7.same(h:j7 C CG CT CS H r p t dx q tr rt rv rx)(s:aG H H'):j7 C CG CT CS H' r p t dx q tr rt rv rx:=⟨h.sr.same s,h.tab.same s,h.ask⟩
theorem j7.on(h:j7 C CG CT CS H r p t dx q tr rt rv rx)(k:bg [rt,rv,rx] H H')(tb:TabsAt t p H' rt rv rx):j7 C CG CT CS H' r p t dx q tr rt rv rx:=⟨h.sr.nt (Bk h.tab k),tb,h.ask⟩
theorem j7.qj(h:j7 C CG CT CS H r p t dx q tr rt rv rx)(k:bg [rt,rv,rx] H H')(e:fB H b z):fB H' b z:=e.nt (Bk h.tab k)
theorem j7.at_(h:j7 C CG CT CS H r p t dx q tr rt rv rx)(k:bg [rt,rv,rx] H H')(e:H b=O o)(n:∀k,o≠.dT k):H' b=O o:=Bk h.tab k b o e n
theorem MJ(A:Ask t p):J (stK t p)<sizeLine:=by unfold stK;have:=Ti A;rw[aM,c8];lia
theorem abu(A:Ask t p):J (Hg t p)<sizeLine:=by unfold Hg;have Y:=Ti A;have Z:=wz (fz t p (J p)) (mE t p);rw[aM,c8];lia
end
end
theorem bg.trans(a:bg X H H1)(b:bg X H1 H2):bg X H H2:=λc o e n=>b c o (a c o e n) n
theorem bg.of(s:aG H H'):bg X H H':=λb o e _=>s b o e
inductive w9(C CG CT CS:aa)(n:Nat)(vs:List V)(H:Hp)(Q:VK)(E_:XK):Prop
 |mk(S0:aW)(r dx q tr rt rv rx bs:aa)(p:List aF)(t:List aO)(s:Spot)(_:vs=[.ref r,.ref bs])(_:j7 C CG CT CS H r p t dx q tr rt rv rx)(_:fB H bs s)(_:s∈mE t p)(_:J p+1-s.at_<=n)(_:∀H':Hp,bg [rt,rv,rx] H H'->TabsAt t p H' rt rv rx->Q (.int (eB t p s:Nat)) H')
section
theorem PF(Z:HY)(R:Ok (2*n+3) 26 ["self","state"] (w9 zP zG zT zS n)):Ok (2*n+4) 25 ["self","state"] (w9 zP zG zT zS n):=by
 refine Z.KQ.Go ["self","state","known"] λcdv A outer s H vs Q E F nd h=>?_
 .obtain⟨S0,r,dx,q,tr,rt,rv,rx,bs,p,t,st,rfl,L,T,D,z,I⟩:=h;have G:=jF F;refine⟨_,(aA (bN 2 nd (vg G (aC (pv 0)) (pv 1) ⟨Y,Y,Y,Y⟩))
   (aA (bT (bK lJ (pv 2) d7 (bB _)) (aA (bN 2 nd (bX (pv 0) Z.tS.cl Z.Gh R.g F R.b .nil bq (af (pv 1) ay)))
   (aJ (tF G (aC (pv 0)) (pv 1) (pv 2) Y))) b8)
   (aJ (bh (pv 2))))),?_⟩
  dsimp only[xk];obtain⟨kt,kv,kx,J⟩:=L.tab;have S:=L.sr;refine⟨_,Y,S.ins,Z.tS,Y,rt,Y,.inr ⟨_,.inl J.ht⟩,_,Y,_,.inr ⟨kt,lY st,bs,.inl J.ht,Y,T.Bo,Y⟩,?_⟩;refine gn ?_;dsimp only;cases hv:bU kt (lY st) with
  |some v=>have y:=J.qg.val _ _ hv st Y;subst y;refine⟨_,Y,Y,_,Y,?_⟩;refine dD byB ⟨_,Y,I _ bg.refl L.tab⟩
  |none=>refine⟨_,Y,Y,_,Y,?_⟩;refine dW (show(U:Option V).getD V.az=V.az from Y) ?_;refine⟨_,Y,S.ins,Y,_,Y,S0,r,dx,q,tr,rt,rv,rx,bs,p,t,st,Y,L,T,D,z,λH1 K P=>?_⟩;have x:=L.on K P;obtain⟨C,M,N,W⟩:=P;have hl:=W.qg.len;have B:=MJ L.ask;refine⟨_,Y,_,Y,x.sr.ins,Z.tS,Y,_,Y,rt,_,Y,nv.t W.ht (L.qj K T).Bo byA,?_⟩;have O:=W.qg.put (k:=lY st) (v:=V.int (eB t p st:Nat)) (kM.mpr ⟨st,D,Y⟩) (λs' e=>by rw[MO e]);exact⟨_,Y,I _ (K.upd byB) ⟨_,M,N,W.ne,aB,aE (cO W.ne.1) W.hv,aE (cO W.ne.2.1) W.hx,O,W.qf,W.hop⟩⟩
theorem Mr(f:Spot->Nat):∀l:List Spot,(l.map λg=>((f g:Nat):Int)).sum=(((l.map f).sum:Nat):Int)
 |[]=>rfl
 |x::l=>by rw[bL,bL,eN,eN,Mr f l];lia
theorem Qq(Z:HY)(GT:∀m,n=m+1->Ok (2*m+4) 25 ["self","state"] (w9 zP zG zT zS m)):Ok (2*n+3) 26 ["self","state"] (w9 zP zG zT zS n):=by
 refine Z.KP.Go ["self","state","spot","after"] λcdv A outer s H vs Q E hr nd h=>?_
 .obtain⟨S0,r,dx,q,tr,rt,rv,rx,bs,p,t,st,rfl,L,hq,hm,hn,kk⟩:=h;obtain⟨⟨iz,ks,bw,T,hC⟩,U⟩:=FH L.ask.w L.ask.ip hm;have hQ:=hC.le;obtain⟨m,rfl⟩:∃m,n=m+1:=⟨n-1,byA⟩;have hb:=GT m Y;have hu:bS (2*m+4) _:=hr.mono byA;have hy:bS 2 _:=hr.mono byA;have hw:bS 3 _:=hr.mono byA;have S:=L.sr;have P:=L.ask;refine⟨_,(aA (bN 2 nd (bX (pv 0) Z.tS.cl Z.xT (vj Z).g hy (vj Z).b .nil bq (af (pv 1) (af (aC (aC (pv 0))) ay))))
   (aA (bT (bK lJ (pv 2) d7 (bB _)) (aJ (bh aK)) b8)
   (aA (bT (bK eW (aN cC (pv 2) aK) (aC (aC (pv 0))) (bB _)) (aJ (bh aK)) b8)
   (aJ (bh (fy (Jc Y) byC Z.B.sum Tr (af (mV (own:=[("after",3)]) Y nd (jm (bX (pv 0) Z.tS.cl Z.xS (vv Z).g hw (vv Z).b .nil bq (af (pv 2) ay))) (k9 (by show j5 ["self","state","spot","after"] (h_ Et) _ [("after",3)]=true;decide +kernel)) (λ_ _ _ _ _=>(dB 3 nd)) (λ_ _ _ _ _=>o8) (λ_ _ _ _ _=>(bX (pv 0) Z.tS.cl Z.vJ hb.g hu hb.b .nil bq (af (pv 3) ay)))) ay))))))),?_⟩
  dsimp only[xk];obtain⟨dq,pk,hI,pr,hM,pp,hJ,pf,hH,ps,hG,hK,hL,kl,gs,PA⟩:=S.pat;have W:=Mf P.w P.ip T hC;refine⟨_,Y,S.ins,Y,_,Y,_,Y,S.ins,Z.tS,Y,PA.ins,Z.tP,Y,?_⟩;refine⟨S0,r,dx,q,tr,rt,rv,rx,bs,p,t,st,p.length,iz,ks,bw,Y,S,hq,P.w,oW P.ip,T,P.lp,hC,λH1 v s1 hv=>?_⟩;refine gn ?_;dsimp only;refine⟨_,Y,Y,_,Y,?_⟩;cases u:fz t p p.length st with
  |none=>rw[u]at hv;have hv:v=.az:=hv;refine dW hv ?_;have:=kk H1 (bg.of s1) (L.tab.same s1);rw[W,u]at this;exact this
  |some z=>
   rw[u]at hv;obtain⟨bz,rfl,hz⟩:=hv;refine dD byB ?_;refine fY ?_;dsimp only;have hp:=hz;obtain⟨rh,ho,hP⟩:=hz;have S1:=S.same s1;refine⟨_,Y,bu.of ho,bQ (j:=0) Y,_,Y,S1.ins,Z.tS,Y,s1 _ _ PA.ins,Z.tP,Y,Y,_,Y,?_⟩;obtain⟨hF,C|⟨hO,h,m',k',r',ks',b',G,R⟩⟩:=By P.w P.ip T hC u
   .refine dW (show V.int (z.at_:Int)=V.int ((p.length:Nat):Int) by rw[C]) ?_;have:=kk H1 (bg.of s1) (L.tab.same s1);rw[W,u]at this;simp only at this;rw[C,fP (aU _)]at this;exact this
   .refine dD (show ¬V.int (z.at_:Int)=V.int ((p.length:Nat):Int) by intro y;injection y with y;lia) ?_;refine fY ?_;dsimp only;rw[u]at W;simp only at W;rw[G]at W;simp only at W;have hB:jS t p st=ee t p h z:=by unfold jS;rw[u];simp only[G]
    rw[hB]at U;obtain⟨cs,M⟩:∃cs,cs=ee t p h z:=⟨_,Y⟩;rw[<-M]at W;refine⟨_,Y,S1.ins,Y,_,Y,S0,r,dx,q,tr,rt,rv,rx,bz,p,t,z,iz,h,m',k',r',ks',b',Y,S1,hp,R,P.lp,P.lt,λH2 D0 s2 c=>?_⟩;rw[<-M]at c;obtain⟨as,d,f⟩:=c;have hE:=Paired.length f;have I:=(L.same s1).same s2;refine⟨D0,Y,⟨_,aj.of d⟩,λD hD=>?_⟩;refine Gy (K:=zK) (a:=D0) (xs:=as.map V.ref) (λi H'=>bg [rt,rv,rx] H2 H'/\TabsAt t p H' rt rv rx/\H' D=O (.lst (((cs.take i).map λs=>((eB t p s:Nat):Int)).map V.int)))
     ⟨bg.of (aT hD),I.tab.same (aT hD),aB⟩ (λi H' _ ⟨kp,_⟩=>aj.of (I.at_ kp d (by intro _ z;cases z))) ?_ ?_
    .rintro i x H' hi ⟨kp,tb,e2⟩;rw[bM]at hi;obtain⟨a,ha,rfl⟩:=eZ.mp hi;obtain⟨s',l,hs⟩:=xE f ha;have F:s'∈ee t p h z:=by rw[<-M];exact dm l
     obtain⟨hR,hN,b2,C2⟩:=vH R F;have L3:=I.on kp tb;refine⟨Y,?_⟩;refine⟨_,Y,L3.sr.ins,Y,_,Y,S0,r,dx,q,tr,rt,rv,rx,a,p,t,s',Y,L3,I.qj kp hs,U s' F,byA,λH3 k3 hc=>?_⟩;have J:=L3.at_ k3 e2 (by intro _ z;cases z);obtain⟨hl,hk,hj,N⟩:=hc;have hh:rt≠D:=bZ N.ht J (by intro z;cases z);have hf:rv≠D:=bZ N.hv J (by intro z;cases z);have he:rx≠D:=bZ N.hx J (by intro z;cases z);refine⟨_,J,?_,λb o e ne=>aE (aQ e hD) (k3 b o (kp b o e ne) ne),⟨hl,hk,hj,N.ne,aE hh N.ht,aE hf N.hv,aE he N.hx,N.qg,N.qf,N.hop⟩,?_⟩
     .rw[aM,aM,lu,c8];have:=QM R P.lt;have h9:cs.length<=(lens t p h z).length:=by rw[M];unfold Hs.ee;exact wz _ _
      lia
     .rw[aB,kR l,dw,dw];rfl
    .rintro H' ⟨kp,tb,e2⟩;rw[aM,<-hE,kK]at e2;refine⟨D,_,Y,aj.of e2,?_⟩;have:=kk H' (λb o e ne=>kp b o (s2 _ _ (s1 _ _ e)) ne) tb;rw[Mr,<-W];exact this
theorem tN(Z:HY):∀n,Ok (2*n+4) 25 ["self","state"] (w9 zP zG zT zS n)
 |0=>PF Z (Qq Z λm e=>by lia)
 |n+1=>PF Z (Qq Z λm e=>by cases e;exact tN Z n)
end
theorem abx(e:pJ a=pJ b):a.at_=b.at_/\a.node=b.node/\a.held=b.held:=by
 obtain⟨P,Q,R,S⟩:=a;obtain⟨T,U,W,Y⟩:=b;unfold pJ rP at e;simp only at e ⊢;injection e with e
 injection e with e1 e
 injection e with e2 e
 injection e with Z e
 injection e1 with e1
 injection e2 with e2
 injection Z with Z
 exact⟨oO e1,oO e2,G0 Z⟩
theorem Ro(U:H b=O (.tup [.int (z.at_:Nat),.int (z.node:Nat),.ref r]))(Z:HeldAt H r z.held):kO H (pJ z) b:=by
 obtain⟨xs,Z,W⟩:=Z;refine⟨?_,?_⟩
 .have:=Rx z.held;show max 0 (max 0 (max (rP z.held).dep 0))+1<=8;lia
 .unfold pJ NV;refine⟨b,_,Y,U,?_⟩;unfold fG;refine⟨_,_,Y,by simp[NV],?_⟩;unfold fG;refine⟨_,_,Y,by simp[NV],?_⟩;unfold fG;refine⟨_,_,Y,?_,by simp[fG]⟩;unfold rP NV;exact⟨r,xs,Y,Z,W⟩
inductive XD(C CG CT CS:aa)(vs:List V)(H:Hp)(Q:VK)(E_:XK):Prop
 |mk(S0:aW)(r dx q tr rt rv rx bz:aa)(p:List aF)(t:List aO)(z:Spot)(h:Nat)(_:vs=[.ref r,.ref bz])(_:j7 C CG CT CS H r p t dx q tr rt rv rx)(_:fB H bz z)(_:p[z.at_]?=O (.row h))(_:∀(H':Hp) (b:Bool),aG H H'->(b=true->C7 t p z)->Q (.bl b) H')
inductive w_(C CG CT CS:aa)(n:Nat)(vs:List V)(H:Hp)(Q:VK)(E_:XK):Prop
 |mk(S0:aW)(r dx q tr rt rv rx bs:aa)(p:List aF)(t:List aO)(s:Spot)(_:vs=[.ref r,.ref bs])(_:j7 C CG CT CS H r p t dx q tr rt rv rx)(_:fB H bs s)(_:s∈mE t p)(_:J p+1-s.at_<=n)(_:∀H':Hp,bg [rt,rv,rx] H H'->TabsAt t p H' rt rv rx->Q (.bl (kT t p s)) H')
section
theorem Qe(Z:HY):Ok 1 27 ["self","spot"] (XD zP zG zT zS):=by
 refine Z.KO.Go ["self","spot"] λcdv A outer s H vs Q E m nd h=>?_
 .obtain⟨S0,r,dx,q,tr,rt,rv,rx,bz,p,t,z,h,rfl,L,n,U,R⟩:=h;have F:=jF m;have S:=L.sr;refine⟨_,(aA (bT (Aw (Y_ F (aN bI (aC (aC (pv 0))) (aN cC (pv 1) aK)) (aC (aC (pv 0))))) (aJ (bh jn)) b8)
   (aJ (bh (qw EN (aN cC (pv 1) aK) (Y8 F (aC (pv 0)) (jD (af (aN cC (pv 1) aK) (af (aN cC (pv 1) aK) (af (aN cC (pv 1) aK) ay)))) (dh jo (aN cC (pv 1) aK) aK) ⟨Y,Y,Y,Y⟩) (bB _))))),?_⟩
  dsimp only[xk];obtain⟨c,f,B,pr,o,g,y,d,C,ps,D,w,u,kl,gs,PA⟩:=S.pat;obtain⟨kt,kv,kx,M⟩:=L.tab;obtain⟨rh,W,P⟩:=n;refine⟨_,Y,S.ins,Z.tS,Y,PA.ins,Z.tP,Y,_,Y,bu.of W,bQ (j:=0) Y,aj.of PA.dS,cU (x:=h) (by rw[bM,U];rfl),?_⟩;refine⟨_,Y,S.ins,Z.tS,Y,PA.ins,Z.tP,Y,ps,_,Y,.inl ⟨_,bx (h:Int),.inl PA.slots,Y,Y⟩,_,Y,?_⟩;rw[uM];cases l:fu p h with
  |some sl=>exact bR (R H false (aG.refl H) (λz=>by cases z))
  |none=>
   refine cJ ?_;refine⟨_,Y,bu.of W,bQ (j:=2) Y,_,Y,S.ins,Z.tS,Y,rx,Y,.inr ⟨_,.inl M.hx⟩,?_⟩;refine⟨_,Y,bu.of W,bQ (j:=0) Y,_,Y,bu.of W,bQ (j:=1) Y,_,Y,bu.of W,bQ (j:=3) Y,(by show 3<=bf;decide),λb hb=>?_⟩;have s1:aG H (upd H b (.tup [.int (z.at_:Nat),.int (z.node:Nat),.ref rh])):=aT hb;have N:upd H b (.tup [.int (z.at_:Nat),.int (z.node:Nat),.ref rh]) b=O (.tup [.int (z.at_:Nat),.int (z.node:Nat),.ref rh]):=aB;refine⟨_,Y,bu.of (s1 _ _ W),bQ (j:=2) Y,_,_,Y,Y,_,.inr ⟨kx,pJ z,b,.inl (s1 _ _ M.hx),Y,Ro N (P.same s1),Y⟩,?_⟩;cases hv:bU kx (pJ z) with
   |none=>refine⟨_,_,Y,Y,?_⟩;have e:decide ((z.index:Int)+1<=(z.index:Int))=false:=bP byA;dsimp only;rw[e];exact R _ false s1 (λz=>by cases z)
   |some v=>
    obtain⟨z',e1,e2,i⟩:=M.hop.val _ _ hv;subst e2;refine⟨_,_,Y,Y,?_⟩;refine R _ _ s1 (λhd=>?_);have T:z'.index<=z.index:=by have:=pB hd;lia
    obtain⟨a,jq,ix,held⟩:=z;obtain⟨a',G,ix',held'⟩:=z';obtain⟨I,J,K⟩:=abx e1;simp only at I J K T U;subst I J K;exact ads U l T i
theorem P_(Z:HY)(R:Ok (2*n+3) 29 ["self","state"] (w_ zP zG zT zS n)):Ok (2*n+4) 28 ["self","state"] (w_ zP zG zT zS n):=by
 refine Z.KN.Go ["self","state","known"] λcdv A outer s H vs Q E F nd h=>?_
 .obtain⟨S0,r,dx,q,tr,rt,rv,rx,bs,p,t,st,rfl,L,T,D,z,I⟩:=h;have G:=jF F;refine⟨_,(aA (bN 2 nd (vg G (aC (pv 0)) (pv 1) ⟨Y,Y,Y,Y⟩))
   (aA (bT (bK lJ (pv 2) d7 (bB _)) (aA (bN 2 nd (bX (pv 0) Z.tS.cl Z.Gf R.g F R.b .nil bq (af (pv 1) ay)))
   (aJ (tF G (aC (pv 0)) (pv 1) (pv 2) Y))) b8)
   (aJ (bh (pv 2))))),?_⟩
  dsimp only[xk];obtain⟨kt,kv,kx,J⟩:=L.tab;have S:=L.sr;refine⟨_,Y,S.ins,Z.tS,Y,rv,Y,.inr ⟨_,.inl J.hv⟩,_,Y,_,.inr ⟨kv,lY st,bs,.inl J.hv,Y,T.Bo,Y⟩,?_⟩;refine gn ?_;dsimp only;cases hv:bU kv (lY st) with
  |some v=>have y:=J.qf.val _ _ hv st Y;subst y;refine⟨_,Y,Y,_,Y,?_⟩;refine dD byB ⟨_,Y,I _ bg.refl L.tab⟩
  |none=>refine⟨_,Y,Y,_,Y,?_⟩;refine dW (show(U:Option V).getD V.az=V.az from Y) ?_;refine⟨_,Y,S.ins,Y,_,Y,S0,r,dx,q,tr,rt,rv,rx,bs,p,t,st,Y,L,T,D,z,λH1 K P=>?_⟩;have x:=L.on K P;obtain⟨M,C,N,W⟩:=P;have hl:=W.qf.len;have B:=MJ L.ask;refine⟨_,Y,_,Y,x.sr.ins,Z.tS,Y,_,Y,rv,_,Y,nv.t W.hv (L.qj K T).Bo byA,?_⟩;have O:=W.qf.put (k:=lY st) (v:=V.bl (kT t p st)) (kM.mpr ⟨st,D,Y⟩) (λs' e=>by rw[MO e]);exact⟨_,Y,I _ (K.upd byB) ⟨M,_,N,W.ne,aE W.ne.1 W.ht,aB,aE (cO W.ne.2.2) W.hx,W.qg,O,W.hop⟩⟩
theorem PV(Z:HY)(GT:∀m,n=m+1->Ok (2*m+4) 28 ["self","state"] (w_ zP zG zT zS m)):Ok (2*n+3) 29 ["self","state"] (w_ zP zG zT zS n):=by
 refine Z.KL.Go ["self","state","spot","after"] λcdv A outer s H vs Q E hr nd h=>?_
 .obtain⟨S0,r,dx,q,tr,rt,rv,rx,bs,p,t,st,rfl,L,hF,hm,hn,kk⟩:=h;have hu:=jF hr;obtain⟨⟨iz,ks,bw,G,hC⟩,J⟩:=FH L.ask.w L.ask.ip hm;have h0:=hC.le;obtain⟨m,rfl⟩:∃m,n=m+1:=⟨n-1,byA⟩;have hB:=GT m Y;have hH:bS (2*m+4) _:=hr.mono byA;have hK:bS 1 _:=hr.mono byA;have hJ:bS 2 _:=hr.mono byA;have hI:bS 3 _:=hr.mono byA;have S:=L.sr;have F:=L.ask;refine⟨_,(aA (bN 2 nd (bX (pv 0) Z.tS.cl Z.xT (vj Z).g hJ (vj Z).b .nil bq (af (pv 1) (af (aC (aC (pv 0))) ay))))
   (aA (bT (bK lJ (pv 2) d7 (bB _)) (aJ (bh jn)) b8)
   (aA (bT (bK eW (aN cC (pv 2) aK) (aC (aC (pv 0))) (bB _)) (aJ (bh jn)) b8)
   (aA (bT (jB (bX (pv 0) Z.tS.cl Z.Gg (Qe Z).g hK (Qe Z).b .nil bq (af (pv 2) ay)) byF) (aJ (bh jn)) b8)
   (aA (iV iG Y (jm (bX (pv 0) Z.tS.cl Z.xS (vv Z).g hI (vv Z).b .nil bq (af (pv 2) ay))) (dB 3 nd) (aJ (bT (jB (bX (pv 0) Z.tS.cl Z.xR hB.g hH hB.b .nil bq (af (pv 3) ay)) byF) (aJ (bh jn)) b8)))
   (aA (tF hu (aC (pv 0)) (jD (af (aN cC (pv 2) aK) (af (aN cC (pv 2) aK) (af (aN cC (pv 2) aK) ay)))) (aN cC (pv 2) aK) Y)
   (aJ (bh jn)))))))),?_⟩
  dsimp only[xk];obtain⟨dq,pk,hS,pr,hW,pp,hT,pf,hR,ps,hQ,hU,hV,kl,gs,PA⟩:=S.pat;have W:=Mf F.w F.ip G hC;refine⟨_,Y,S.ins,Y,_,Y,_,Y,S.ins,Z.tS,Y,PA.ins,Z.tP,Y,?_⟩;refine⟨S0,r,dx,q,tr,rt,rv,rx,bs,p,t,st,p.length,iz,ks,bw,Y,S,hF,F.w,oW F.ip,G,F.lp,hC,λH1 v s1 hv=>?_⟩;refine gn ?_;dsimp only;refine⟨_,Y,Y,_,Y,?_⟩;cases f:fz t p p.length st with
  |none=>
   rw[f]at hv;have hv:v=.az:=hv;refine dW hv ?_;have:=kk H1 (bg.of s1) (L.tab.same s1);have e9:eB t p st=0:=by rw[W,f]
   have e8:kT t p st=false:=by unfold kT;rw[e9];rfl
   rw[e8]at this;exact this
  |some z=>
   rw[f]at hv;obtain⟨bz,rfl,hz⟩:=hv;refine dD byB ?_;refine fY ?_;dsimp only;have hj:=hz;obtain⟨rh,hh,hE⟩:=hz;have S1:=S.same s1;refine⟨_,Y,bu.of hh,bQ (j:=0) Y,_,Y,S1.ins,Z.tS,Y,s1 _ _ PA.ins,Z.tP,Y,Y,_,Y,?_⟩;obtain⟨hP,d|⟨hY,h,m',k',r',ks',b',T,R⟩⟩:=By F.w F.ip G hC f
   .refine dW (show V.int (z.at_:Int)=V.int ((p.length:Nat):Int) by rw[d]) ?_;have:=kk H1 (bg.of s1) (L.tab.same s1);have e9:eB t p st=1:=by rw[W,f];simp only;rw[d,fP (aU _)]
    have e8:kT t p st=true:=by unfold kT;rw[e9];rfl
    rw[e8]at this;exact this
   .refine dD (show ¬V.int (z.at_:Int)=V.int ((p.length:Nat):Int) by intro y;injection y with y;lia) ?_;refine fY ?_;dsimp only;rw[f]at W;simp only at W;rw[T]at W;simp only at W;have hL:jS t p st=ee t p h z:=by unfold jS;rw[f];simp only[T]
    rw[hL]at J;obtain⟨cs,I⟩:∃cs,cs=ee t p h z:=⟨_,Y⟩;rw[<-I]at W;have c:kT t p st=cs.any (kT t p):=by unfold kT;rw[W];exact DP (eB t p) cs
    refine⟨_,Y,S1.ins,Y,_,Y,S0,r,dx,q,tr,rt,rv,rx,bz,p,t,z,h,Y,L.same s1,hj,T,λhO b D hb=>?_⟩;refine⟨_,Y,?_⟩;have N:=s1.trans D;cases b with
    |true=>
     refine bR ?_;have:=kk hO (bg.of N) (L.tab.same N);obtain⟨h',M,hd⟩:=hb Y;rw[T]at M;injection M with M
     injection M with M
     subst M;have e9:eB t p st=0:=by
      rw[W];have:∀l:List Spot,(∀s∈l,eB t p s=0)->(l.map (eB t p)).sum=0:=by
       intro l
       induction l with
       |nil=>intro _;rfl
       |cons x l ih=>intro hl;rw[bL,eN,hl x byB,ih λs hs=>hl s (by simp[hs])]
      exact this cs λs hs=>hd s (by rw[<-I];exact hs)
     have e8:kT t p st=false:=by unfold kT;rw[e9];rfl
     rw[e8]at this;exact this
    |false=>
    refine cJ ?_;refine fY ?_;dsimp only;have hy:=S.same N;have hf:=D _ _ hh;refine⟨_,Y,hy.ins,Y,_,Y,S0,r,dx,q,tr,rt,rv,rx,bz,p,t,z,iz,h,m',k',r',ks',b',Y,hy,hj.same D,R,F.lp,F.lt,λH2 D0 s2 hw=>?_⟩;rw[<-I]at hw;obtain⟨as,hq,hp⟩:=hw;have hN:=Paired.length hp;have P:=(L.same N).same s2;refine⟨D0,Y,⟨_,aj.of hq⟩,rR (K:=zK) (a:=D0) (xs:=as.map V.ref) (λi σ H'=>∃(v3:Option V),σ=[O (.ref r),O (.ref bs),O (.ref bz),v3]/\bg [rt,rv,rx] H2 H'/\TabsAt t p H' rt rv rx/\(cs.take i).any (kT t p)=false)
     ⟨U,Y,bg.refl,P.tab,Y⟩ (λi σ H' _ ⟨_,_,kp,_⟩=>aj.of (P.at_ kp hq (by intro _ z;cases z))) ?_ ?_⟩
    .rintro i x σ H' hi ⟨v3,rfl,kp,tb,e5⟩;rw[bM]at hi;obtain⟨a,ha,rfl⟩:=eZ.mp hi;obtain⟨s',hc,hG⟩:=xE hp ha;have u:s'∈ee t p h z:=by rw[<-I];exact dm hc
     obtain⟨h1,hX,b2,C2⟩:=vH R u;have L3:=P.on kp tb;refine gn ?_;refine⟨_,Y,L3.sr.ins,Y,_,Y,S0,r,dx,q,tr,rt,rv,rx,a,p,t,s',Y,L3,P.qj kp hG,J s' u,byA,λH3 k3 he=>?_⟩;refine⟨_,Y,?_⟩;cases hk:kT t p s' with
     |true=>refine bR ?_;have:=kk H3 (λb o e ne=>k3 b o (kp b o (s2 _ _ (N _ _ e)) ne) ne) he;rw[c]at this;have e9:cs.any (kT t p)=true:=qP.mpr ⟨s',dm hc,hk⟩;rw[e9]at this;exact this
     |false=>refine cJ ⟨_,Y,kp.trans k3,he,?_⟩;rw[kR hc,afg,e5];simp[hk]
    .rintro σ H' ⟨v3,rfl,kp,tb,e5⟩;rw[aM,<-hN,kK]at e5;have L3:=P.on kp tb;have C:=P.at_ kp (s2 _ _ hf) (by intro _ z;cases z);obtain⟨kt,kv,kx,TB⟩:=tb;have hl:=TB.hop.len;have hZ:=abu F;refine⟨_,Y,bu.of C,bQ (j:=2) Y,_,Y,L3.sr.ins,Z.tS,Y,_,Y,bu.of C,bQ (j:=0) Y,_,Y,bu.of C,bQ (j:=1) Y,_,Y,bu.of C,bQ (j:=3) Y,(by show 3<=bf;decide),λb hb=>?_⟩;have s4:aG H' (upd H' b (.tup [.int (z.at_:Nat),.int (z.node:Nat),.ref rh])):=aT hb;have hM:upd H' b (.tup [.int (z.at_:Nat),.int (z.node:Nat),.ref rh]) b=O (.tup [.int (z.at_:Nat),.int (z.node:Nat),.ref rh]):=aB;have hheld:HeldAt H' rh z.held:=((hE.same D).same s2).tups λb xs e=>P.at_ kp e (by intro _ z;cases z);have B:=TB.same s4;refine⟨rx,_,Y,nv.t B.hx (Ro hM (hheld.same s4)) byA,?_⟩;have ho:=B.hop.put (k:=pJ z) (v:=V.int (z.index:Nat)) (kM.mpr ⟨z,qN.mpr ⟨st,hm,f⟩,Y⟩) ⟨z,Y,Y,h,T,λs hs=>by rw[<-I]at hs;have:=Uq.mp e5 s hs;unfold kT at this;simpa using this⟩
     have hD:bg [rt,rv,rx] H (upd H' b (.tup [.int (z.at_:Nat),.int (z.node:Nat),.ref rh])):=λb o e ne=>s4 _ _ (kp b o (s2 _ _ (N _ _ e)) ne);have:=kk _ (hD.upd (x:=rx) byB) ⟨kt,kv,_,B.ne,aE B.ne.2.1 B.ht,aE B.ne.2.2 B.hv,aB,B.qg,B.qf,ho⟩;rw[c,e5]at this;exact this
theorem xH(Z:HY):∀n,Ok (2*n+4) 28 ["self","state"] (w_ zP zG zT zS n)
 |0=>P_ Z (PV Z λm e=>by lia)
 |n+1=>P_ Z (PV Z λm e=>by cases e;exact xH Z n)
end
theorem Zw(W:p[0]?=O (.node x c))(Y:u<J t)(h:x≠jV t u):pS t p u=U:=by
 obtain⟨Z,rfl⟩:∃Z,p=.node x c::Z:=by
  cases p with
  |nil=>cases W
  |cons q Z=>exact⟨Z,by rw[bH W]⟩
 unfold pS;rw[aD Y];unfold Sh.firstWay;simp only[Sh.settled,aX Y];rw[aD];right;rw[<-GD Y];exact λe=>h e.symm
inductive Xx(C CG CT CS:aa)(vs:List V)(H:Hp)(Q:VK)(E_:XK):Prop
 |mk(S0:aW)(r dx q tr rt rv rx:aa)(p:List aF)(t:List aO)(u:Nat)(_:vs=[.ref r,.int (u:Nat)])(_:j7 C CG CT CS H r p t dx q tr rt rv rx)(_:u<J t)(_:∀H':Hp,bg [rt,rv,rx] H H'->TabsAt t p H' rt rv rx->Q (.bl (pS t p u).isSome) H')
inductive XG(C CG CT CS:aa)(vs:List V)(H:Hp)(Q:VK)(E_:XK):Prop
 |mk(S0:aW)(r dx q tr rt rv rx bs:aa)(p:List aF)(t:List aO)(s:Spot)(way:Nat)(_:vs=[.ref r,.ref bs,.int (way:Nat)])(_:j7 C CG CT CS H r p t dx q tr rt rv rx)(_:fB H bs s)(_:s∈mE t p)(_:∀H':Hp,bg [rt,rv,rx] H H'->TabsAt t p H' rt rv rx->Q (.bl (decide (way<eB t p s))) H')
def PickAt(H:Hp)(v:V)(o:Option (Spot×Nat)):Prop:=match o with
 |none=>v=.az
 |some (s,n)=>∃c a,v=.ref c/\H c=O (.tup [.ref a,.int (n:Nat)])/\fB H a s
inductive Xn(C CG CT CS:aa)(vs:List V)(H:Hp)(Q:VK)(E_:XK):Prop
 |mk(S0:aW)(r dx q tr rt rv rx bz:aa)(p:List aF)(t:List aO)(z:Spot)(iz h m k:Nat)(rs ks:List Nat)(bw:k_)(way:Nat)(_:vs=[.ref r,.ref bz,.int (way:Nat)])(_:j7 C CG CT CS H r p t dx q tr rt rv rx)(_:fB H bz z)(_:cM t p iz h m k rs ks z bw)(_:(∀s'∈ee t p h z,s'∈mE t p))(_:∀(H':Hp) (v:V),bg [rt,rv,rx] H H'->TabsAt t p H' rt rv rx->PickAt H' v (kW (eB t p) (ee t p h z) way)->Q v H')
section
theorem AM(Z:HY):Ok 71 30 ["self","node"] (Xx zP zG zT zS):=by
 refine Z.KJ.Go ["self","node"] λcdv A outer s H vs Q E I nd h=>?_
 .obtain⟨S0,r,dx,q,tr,rt,rv,rx,p,t,u,rfl,L,R,K⟩:=h;have O:bS 1 _:=I.mono byD;have S:=L.sr;have T:=L.ask;obtain⟨t3,g3⟩:=Z.G.node;refine⟨_,(aA (bT (PW.pt (xA (bK eW (aN bI (aC (aC (pv 0))) aK) (eY (v:=.int 0) byC g3 ⟨_,Y⟩) (bB _)) (Au (bK lI (aN bI (aC (aC (pv 0))) aK) (aN bI (aC (aC (pv 0))) (pv 1)) (bB _))))) (aJ (bh jn)) b8)
   (aJ (bh (bX (pv 0) Z.tS.cl Z.xR (xH Z 33).g I (xH Z 33).b .nil bq (af (bX (pv 0) Z.tS.cl Z.vK (rH Z).g O (rH Z).b .nil bq (af (pv 1) ay)) ay))))),?_⟩
  dsimp only[xk];obtain⟨dq,pk,C,pr,j,pp,B,pf,D,ps,F,m,l,kl,gs,PA⟩:=S.pat;obtain⟨dt,ki,rl,rr,ra,rp,rn,re,rk,cF,rll,h1,hL,a,d,h4,h5,h6,h7⟩:=S.tree;have W:0<J p:=by
   have:=Dn (kF (oW T.ip))
   rwa [g_]at this
  refine wZ ?_;refine yd (b:=decide (kindOf p[0]=0/\d8 p[0]≠jV t u)) (H':=H) ?_ ?_
  .intro Q' U;refine⟨_,Y,S.ins,Z.tS,Y,PA.ins,Z.tP,Y,aj.of PA.kinds,cU (i:=0) (x:=kindOf p[0]) (by rw[bM,aX W];rfl),Y,_,Y,?_⟩;by_cases c:kindOf p[0]=0
   .refine dW (show V.int ((kindOf p[0]:Nat):Int)=V.int 0 by rw[c];rfl) ⟨_,rfl,S.ins,Z.tS,rfl,PA.ins,Z.tP,rfl,aj.of PA.dS,cU (i:=0) (x:=d8 p[0]) (by rw[bM,aX W];rfl),_,rfl,S.ins,Z.tS,rfl,h1,Z.tT,rfl,_,rfl,aj.of a,cU (x:=jV t u) (i_ (by rw[aM];exact R)),rfl,_,rfl,?_⟩;by_cases M:d8 p[0]=jV t u
    .rw[bJ (show V.int ((d8 p[0]:Nat):Int)=V.int ((jV t u:Nat):Int) by rw[M])];rw[bP (λz=>z.2 M)]at U;exact U
    .rw[bP (show ¬V.int ((d8 p[0]:Nat):Int)=V.int ((jV t u:Nat):Int) by intro y;injection y with y;lia)];rw[bJ ⟨c,M⟩]at U;exact U
   .rw[bP (show ¬V.int ((kindOf p[0]:Nat):Int)=V.int 0 by intro y;injection y with y;lia)];rw[bP (λz=>c z.1)]at U;exact cJ U
  .by_cases c:kindOf p[0]=0/\d8 p[0]≠jV t u
   .refine dW c ?_;have:=K H bg.refl L.tab;cases e:p[0] with
    |node x cc=>rw[e]at c;rw[Zw (x:=x) (c:=cc) (by rw[aX W,e]) R c.2]at this;exact this
    |one x=>rw[e]at c;cases c.1
    |row x=>rw[e]at c;cases c.1
   .refine dD c ?_;refine fY ?_;dsimp only;refine⟨_,Y,S.ins,Y,_,Y,S.ins,Y,_,Y,S0,r,dx,q,tr,rt,rv,rx,p,t,u,Y,S,T.w,R,T.lp,λH1 b1 s1 N=>?_⟩;refine⟨S0,r,dx,q,tr,rt,rv,rx,b1,p,t,begin t p u,Y,L.same s1,N,BZ R,by have:=T.lp;lia,λH2 f P=>?_⟩;have:=K H2 (λb o e n=>f b o (s1 b o e) n) P;rw[<-Yl T.w T.ip R,Eh]at this;exact this
theorem AO(Z:HY):Ok 71 31 ["self","state","way"] (XG zP zG zT zS):=by
 refine Z.KI.Go ["self","state","way"] λcdv A outer s H vs Q E P nd h=>?_
 .obtain⟨S0,r,dx,q,tr,rt,rv,rx,bs,p,t,st,way,rfl,L,U,O,R⟩:=h;have S:=L.sr;have N:=L.ask;refine⟨_,(aJ (bh (l6 (bK eW (pv 2) aK (bB _)) (bX (pv 0) Z.tS.cl Z.xR (xH Z 33).g P (xH Z 33).b .nil bq (af (pv 1) ay)) (qw rE (pv 2) (bX (pv 0) Z.tS.cl Z.vJ (tN Z 33).g P (tN Z 33).b .nil bq (af (pv 1) ay)) (bB _))))),?_⟩;refine⟨_,Y,Y,_,Y,?_⟩;by_cases c:way=0
  .subst c;refine dW (show V.int ((0:Nat):Int)=V.int 0 from Y) ⟨_,Y,S.ins,Y,_,Y,S0,r,dx,q,tr,rt,rv,rx,bs,p,t,st,Y,L,U,O,by have:=N.lp;omega,λH1 T W=>?_⟩;exact R H1 T W
  .refine dD (show ¬V.int (way:Int)=V.int 0 by intro y;injection y with y;omega) ⟨_,rfl,_,rfl,S.ins,rfl,_,rfl,S0,r,dx,q,tr,rt,rv,rx,bs,p,t,st,rfl,L,U,O,by have:=N.lp;omega,λH1 T W=>?_⟩;refine⟨_,_,Y,Y,?_⟩;have e:decide ((way:Int)<((eB t p st:Nat):Int))=decide (way<eB t p st):=by
    by_cases z:way<eB t p st
    .rw[bJ z,bJ (by omega)]
    .rw[bP z,bP (by omega)]
   dsimp only;rw[e];exact R H1 T W
theorem P0(Z:HY):Ok 72 32 ["self","spot","way"] (Xn zP zG zT zS):=by
 refine Z.KH.Go ["self","spot","way","after"] λcdv A outer s H vs Q E d nd h=>?_
 .obtain⟨S0,r,dx,q,tr,rt,rv,rx,bz,p,t,z,iz,h,m,k,rs,ks,bw,way,rfl,L,hz,R,T,u⟩:=h;have f:bS 3 _:=d.mono byD;have F:bS 70 _:=d.mono byD;have S:=L.sr;have hA:=L.ask;refine⟨_,(aA (iV iG Y (jm (bX (pv 0) Z.tS.cl Z.xS (vv Z).g f (vv Z).b .nil bq (af (pv 1) ay))) (dB 3 nd) (aA (bT (jB (bX (pv 0) Z.tS.cl Z.A_ (AO Z).g d (AO Z).b .nil bq (af (pv 3) (af (pv 2) ay))) byF) (aJ (bh (jD (af (pv 3) (af (pv 2) ay))))) b8)
   (aJ (bT (bK rF (pv 2) aK (bB _)) (aJ (Ax (i:=2) nd Y (Or.inl Y) (bX (pv 0) Z.tS.cl Z.vJ (tN Z 33).g F (tN Z 33).b .nil bq (af (pv 3) ay)) Q8)) b8))))
   (aJ (bh d7))),?_⟩
  dsimp only[xk];refine⟨_,Y,S.ins,Y,_,Y,S0,r,dx,q,tr,rt,rv,rx,bz,p,t,z,iz,h,m,k,rs,ks,bw,Y,S,hz,R,hA.lp,hA.lt,λH2 D0 s2 y=>?_⟩;obtain⟨cs,hb⟩:∃cs,cs=ee t p h z:=⟨_,Y⟩;rw[<-hb]at y u T;obtain⟨as,B,C⟩:=y;have hc:=Paired.length C;have W:=L.same s2;refine⟨D0,Y,⟨_,aj.of B⟩,rR (K:=zK) (a:=D0) (xs:=as.map V.ref) (λi σ H'=>∃(wy:Nat)(w:Option V),σ=[O (.ref r),O (.ref bz),O (.int (wy:Nat)),w]/\bg [rt,rv,rx] H2 H'/\TabsAt t p H' rt rv rx/\kW (eB t p) cs way=kW (eB t p) (cs.drop i) wy)
   ⟨way,U,Y,bg.refl,W.tab,Y⟩ (λi σ H' _ ⟨_,_,_,kp,_⟩=>aj.of (W.at_ kp B (by intro _ z;cases z))) ?_ ?_⟩
  .rintro i x σ H' hi ⟨wy,w,rfl,kp,tb,e1⟩;rw[bM]at hi;obtain⟨a,ha,rfl⟩:=eZ.mp hi;obtain⟨s',J,M⟩:=xE C ha;have P:=dm J;have D:i<cs.length:=(cV.mp J).1;have j:cs[i]=s':=(cV.mp J).2;have L3:=W.on kp tb;refine gn ?_;refine⟨_,Y,L3.sr.ins,Y,_,Y,_,Y,S0,r,dx,q,tr,rt,rv,rx,a,p,t,s',wy,Y,L3,W.qj kp M,T s' P,λH3 G N=>?_⟩;have e2:kW (eB t p) (cs.drop i) wy=if wy<eB t p s' then O (s',wy) else kW (eB t p) (cs.drop (i+1)) (wy-eB t p s'):=by rw[kr D,j];rfl
   rw[e2]at e1;have L4:=L3.on G N;have l:bg [rt,rv,rx] H H3:=λb o e n=>G b o (kp b o (s2 b o e) n) n;refine⟨_,Y,?_⟩;by_cases c:wy<eB t p s'
   .rw[bJ c];rw[aD c]at e1;refine bR ⟨_,Y,_,Y,(by show 2<=bf;decide),λc' I=>u _ _ (l.same (aT I)) (N.same (aT I)) ?_⟩;rw[e1];exact⟨c',a,Y,aB,(L3.qj G (W.qj kp M)).same (aT I)⟩
   .rw[bP c];rw[ao c]at e1;refine cJ ?_;refine fY ?_;dsimp only;refine⟨_,Y,_,_,Y,Y,_,Y,?_⟩;by_cases c0:wy=0
    .subst c0;refine dD (show ¬(0:Int)<((0:Nat):Int) by lia) ⟨0,_,Y,kp.trans G,N,?_⟩;have:0-eB t p s'=0:=by lia
     rw[this]at e1;exact e1
    .refine dW (show(0:Int)<(wy:Int) by lia) ⟨_,rfl,_,rfl,L4.sr.ins,rfl,_,rfl,S0,r,dx,q,tr,rt,rv,rx,a,p,t,s',rfl,L4,L3.qj G (W.qj kp M),T s' P,by have:=hA.lp;lia,λH5 k5 v=>?_⟩;refine⟨_,_,Y,Y,?_⟩;refine⟨wy-eB t p s',O (.ref a),?_,(kp.trans G).trans k5,v,e1⟩;have:(wy:Int)-((eB t p s':Nat):Int)=((wy-eB t p s':Nat):Int):=by lia
     rw[this];rfl
  .rintro σ H' ⟨wy,w,rfl,kp,tb,e1⟩;refine u _ _ (λb o e n=>kp b o (s2 b o e) n) tb ?_;rw[e1,aM,<-hc,uC];rfl
end
end Hs
end
section
namespace Hs
open PySem PySem.Spec PyProof.Rows L2
open Sh (Node Pat Fill)
def uF(H:Hp)(f:Fill)(kv:Key×V):Prop:=kv.1=bx (f.hole:Int)/\∃a,kv.2=.ref a/\H a=O (.tup [.int (f.at_:Nat),.int (f.count:Nat)])
inductive oS(H:Hp)(c:aa)(x:k_):Prop
 |mk(kvs:_)(_:H c=O (.dK kvs))(_:Paired (uF H) x kvs)
theorem uF.tups(h:uF H f kv)(s:∀b xs,H b=O (.tup xs)->H' b=O (.tup xs)):uF H' f kv:=by obtain⟨W,a,Y,Z⟩:=h;exact⟨W,a,Y,s _ _ Z⟩
theorem oS.same(h:oS H c x)(s:aG H H'):oS H' c x:=by obtain⟨kvs,Y,Z⟩:=h;exact⟨kvs,s _ _ Y,Paired.l_ Z λ_ _ y=>y.tups λb xs e=>s b _ e⟩
theorem oS.nt(h:oS H c x)(s:sF H H'):oS H' c x:=by obtain⟨kvs,Y,Z⟩:=h;exact⟨kvs,s _ _ Y (by intro _ z;cases z),Paired.l_ Z λ_ _ y=>y.tups λb xs e=>s b _ e (by intro _ z;cases z)⟩
theorem BF(q:Paired (uF H) x kvs):(match oJ x h with|none=>bU kvs (bx (h:Int))=U|some g=>∃a,bU kvs (bx (h:Int))=O (.ref a)/\H a=O (.tup [.int (g.at_:Nat),.int (g.count:Nat)])):=by
 induction q with
 |nil=>rfl
 |@cons f kv x kvs g r Y=>
  obtain⟨Z,a,T,W⟩:=g;unfold oJ;by_cases e:f.hole=h
  .rw[J3 (by simpa using e)];exact⟨a,by rw[kP (by rw[Z,e]),T],W⟩
  .rw[J4 (by simpa using e),kQ (by rw[Z];intro z;injection z with z;lia)];exact Y
inductive XJ(C CG CT CS:aa)(vs:List V)(H:Hp)(Q:VK)(E_:XK):Prop
 |mk(S0:aW)(r dx q tr rt rv rx:aa)(p:List aF)(t:List aO)(u way:Nat)(x:k_)(_:vs=[.ref r,.int (u:Nat),.int (way:Nat)])(_:j7 C CG CT CS H r p t dx q tr rt rv rx)(_:u<J t)(_:(vZ t p u)[way]?=O x)(_:∀(H':Hp) (c:aa) (b:Nat) (ks:List Nat) (st:Spot),bg [rt,rv,rx] H H'->TabsAt t p H' rt rv rx->oS H' c x->GoodW t x->za t p st.at_ st.held x->ni p st.at_ (J p)->st.at_<=J p->Q (.ref c) H')
inductive afz[aW](t:List aO)(p:List aF)(x:k_)(r c rt rv rx:aa)(u:Nat)(H:Hp)(i:Nat)(σ:L2.St)(H':Hp):Prop
 |mk(st s0:Spot)(ks:List Nat)(b:k_)(wy:Nat)(ym:aa)(v5 v6 v7 v8:Option V)(_:σ=[O (.ref r),O (.int (u:Nat)),O (.int (wy:Nat)),O (.ref c),O (.ref ym),v5,v6,v7,v8])(_:bg [rt,rv,rx] H H')(_:TabsAt t p H' rt rv rx)(_:fB H' ym st)(_:oS H' c b)(_:i<=J (fF p))(_:J b<=i)(_:st.at_=hpos p i)(_:dX t p u (aZ p st.at_) ks st b)(_:(dH t p (aZ p st.at_) ks st b)[wy]?=O x)(_:s0∈mE t p)(_:fz t p (J p) st=fz t p (J p) s0)
inductive afy[aW](t:List aO)(p:List aF)(x b:k_)(r c rt rv rx bz:aa)(u hl fst h:Nat)(z:Spot)(H3:Hp)(σ':L2.St)(lB:Hp):Prop
 |mk(st' s0':Spot)(ks':List Nat)(d:k_)(zx:Nat)(BW:aa)(j:Nat)(v8:Option V)(_:σ'=[O (.ref r),O (.int (u:Nat)),O (.int (zx:Nat)),O (.ref c),O (.ref BW),O (.int (hl:Nat)),O (.ref bz),O (.int (fst:Nat)),v8])(_:bg [rt,rv,rx] H3 lB)(_:TabsAt t p lB rt rv rx)(_:fB lB BW st')(_:st'.at_=hl+1)(_:st'.index=z.index+j)(_:aet t b ⟨h,fst,j⟩=O d)(_:dX t p u (aZ p st'.at_) ks' st' d)(_:(dH t p (aZ p st'.at_) ks' st' d)[zx]?=O x)(_:s0'∈mE t p)(_:fz t p (J p) st'=fz t p (J p) s0')
section
theorem AQ(Z:HY):Ok 73 33 ["self","node","way"] (XJ zP zG zT zS):=by
 refine Z.KG.Go ["self","node","way","found","state","hole","spot","first","picked"] λcdv A outer s H vs Q E hr nd h=>?_
 .obtain⟨S0,r,dx,q,tr,rt,rv,rx,p,t,u,way,x,rfl,L,T,hx,kk⟩:=h;have hu:=jF hr;have hK:bS 1 _:=hr.mono byD;have gr:bS 2 _:=hr.mono byD;have W:=L.ask;obtain⟨t3,g3⟩:=Z.G.hole;refine⟨_,(aA (bN 3 nd qv)
   (aA (bN 4 nd (bX (pv 0) Z.tS.cl Z.vK (rH Z).g hK (rH Z).b .nil bq (af (pv 1) ay)))
   (aA (iV iG Y (jm (aC (aC (pv 0)))) (dB 5 nd) (aA (bN 6 nd (bX (pv 0) Z.tS.cl Z.xT (vj Z).g gr (vj Z).b .nil bq (af (pv 4) (af (pv 5) ay))))
   (aA (bN 7 nd (bX (aC (pv 0)) Z.tT.cl Z.m5 (P8 Z).g hK (P8 Z).b .nil bq (af (aN cC (pv 6) aK) (af (aN cC (pv 6) aK) ay))))
   (aA (bT (bK eW (aN bI (aC (aC (pv 0))) (pv 5)) (eY (v:=.int 1) byC g3 ⟨_,Y⟩) (bB _)) (aJ (bN 4 nd (jD (af (dh jo (pv 5) aK) (af (aN cC (pv 6) aK) (af (dh jo (aN cC (pv 6) aK) aK) (af (bX (pv 0) Z.tS.cl Z.xU (vp Z).g hK (vp Z).b .nil bq (af (aN cC (pv 6) aK) (af (pv 5) (af (aN bI (aC (aC (pv 0))) (pv 7)) ay)))) ay))))))) (aA (bN 8 nd (bX (pv 0) Z.tS.cl Z.Ge (P0 Z).g hr (P0 Z).b .nil bq (af (pv 6) (af (pv 2) ay))))
   (aA (bN 4 nd (aN cC (pv 8) aK))
   (aJ (bN 2 nd (aN cC (pv 8) aK))))))
   (aJ (iW (AA hu (pv 3) (aN bI (aC (aC (pv 0))) (pv 5)) (jD (af (pv 7) (af (dh rD (aN cC (pv 4) aK) (aN cC (pv 6) aK)) ay))) ⟨Y,Y,Y,Y⟩)))))))
   (aJ (bh (pv 3)))))),?_⟩
  dsimp only[xk];have wp:=oW W.ip;obtain⟨CB,_⟩:=yg W.w W.ip T;have gq:(dH t p (aZ p 0) [1] (begin t p u) [])[way]?=O x:=by rw[LC W.w W.ip T];exact hx
  refine λc hc=>?_;have s0:aG H (upd H c (.dK [])):=aT hc;have gf:upd H c (.dK []) c=O (.dK []):=aB;refine gn ?_;generalize upd H c (.dK [])=H0 at s0 gf;have L0:=L.same s0;refine⟨_,Y,L0.sr.ins,Y,_,Y,S0,r,dx,q,tr,rt,rv,rx,p,t,u,Y,L0.sr,W.w,T,W.lp,λH1 b1 s1 gI=>?_⟩;have L1:=L0.same s1;have hF:=s0.trans s1;obtain⟨dq,pk,gT,pr,gW,pp,hU,pf,gS,ps,gR,gU,gV,kl,gs,PA⟩:=L.sr.pat;obtain⟨dt,ki,rl,rr,ra,rp,rn,re,rk,cF,rll,h1,hL,h3,gY,h4,h5,h6,h7⟩:=L.sr.tree;refine⟨_,Y,L1.sr.ins,Z.tS,Y,hF _ _ PA.ins,Z.tP,Y,?_⟩;refine⟨hU,Y,⟨_,aj.of (hF _ _ PA.Br)⟩,rR (K:=zK) (a:=hU) (xs:=aq (fF p)) (afz t p x r c rt rv rx u H)
   ⟨begin t p u,begin t p u,[1],[],way,b1,U,U,U,U,Y,bg.of hF,L1.tab,gI,⟨[],s1 _ _ gf,.nil⟩,cI _,aU _,Y,CB,gq,BZ T,Y⟩ (λi σ H' _ ⟨_,_,_,_,_,_,_,_,_,_,_,kp,_,_,_,_,_,_,_,_,_,_⟩=>aj.of (L.at_ kp PA.Br (by intro _ z;cases z))) ?_ ?_⟩
  .rintro i y σ H' hi ⟨st,hk,ks,b,wy,ym,v5,v6,v7,v8,rfl,kp,tb,hX,hO,gC,gH,hp,hC,hI,hJ,hN⟩;rw[bM]at hi;obtain⟨hl,h',rfl⟩:=eZ.mp hi;obtain⟨C,h,P,hM,D,gt⟩:=Rr h';rw[<-hp]at hM D;obtain⟨z,gX,eg,M,C1,x1⟩:=acd W.w W.ip T C hC hM D hI;have hR:=L.on kp tb;refine gn ?_;dsimp only;refine⟨_,Y,hR.sr.ins,Y,_,Y,_,Y,S0,r,dx,q,tr,rt,rv,rx,ym,p,t,st,hl,u,ks,b,Y,hR.sr,hX,W.w,wp,T,W.lp,hC,λH3 v s3 hv=>?_⟩;rw[eg]at hv;obtain⟨bz,rfl,hz⟩:=hv;have gp:=hz;obtain⟨rh,F,gm⟩:=gp;have L3:=hR.same s3;have he:bg [rt,rv,rx] H H3:=λb o e n=>s3 _ _ (kp b o e n);have I:z.at_<p.length:=by lia
   have h0:p[z.at_]'I=p[hl]:=by congr 1
   have hY:p[z.at_]?=O p[hl]:=by rw[M,aX C]
   have gw:z.index<(cQ t z.node).length\/z.node<t.length:=by
    cases hq:p[hl] with
    |node y c=>rw[hq]at P;cases P
    |one y=>rw[<-M]at C1 x1;exact .inl (R3 W.w W.ip T I (by rw[h0,hq]) C1 x1).1
    |row y=>rw[<-M]at C1;obtain⟨m,k,r',hm,e1,e2,R⟩:=Ao W.w W.ip T I (by rw[hY,hq]) C1;exact .inr R.nd
   obtain⟨fst,hh⟩:∃fst,fst=vD t z.node z.index:=⟨_,Y⟩;have gi:=L.at_ he h1 (by intro _ z;cases z);refine gn ?_;dsimp only;refine⟨_,Y,L3.sr.ins,Z.tS,Y,gi,Y,_,Y,bu.of F,bQ (j:=1) Y,_,Y,bu.of F,bQ (j:=2) Y,S0,tr,t,z.node,z.index,Y,L3.sr.tree,W.w,(C1.tree.oz W.w T).1,gw,?_⟩;rw[<-hh];refine gn ?_;dsimp only;have g0:=L3.sr;refine Eg (afy t p x b r c rt rv rx bz u hl fst h z H3) ?_ ?_
   .rintro σ' lB ⟨st',s0',ks',d,zx,BW,j,gQ,rfl,k4,hS,hW,gh,gO,S,C4,x4,hZ,ga⟩;have L4:=L3.on k4 hS;have hG:=he.trans k4;have gK:=L.at_ hG PA.ins (by intro _ z;cases z);have gJ:=L.at_ hG PA.dS (by intro _ z;cases z);have gl:=L3.at_ k4 F (by intro _ z;cases z);obtain⟨kvs,gc,hQ⟩:=(hO.same s3).nt (Bk L3.tab k4);obtain⟨u7,hy,hV⟩:=hW;have h2:(p.map d8)[hl]?=O h:=by rw[bM,aX C];exact fq O (xX P).1
    refine⟨_,Y,c,Y,.inl ⟨_,.inl gc⟩,_,Y,L4.sr.ins,Z.tS,Y,gK,Z.tP,Y,_,Y,aj.of gJ,cU h2,?_⟩;refine⟨_,Y,_,Y,bu.of hy,bQ (j:=2) Y,_,Y,bu.of gl,bQ (j:=2) Y,_,_,Y,Y,(by show 2<=bf;decide),λcv gE=>?_⟩;have ej:(st'.index:Int)-(z.index:Int)=(j:Nat):=by lia
    dsimp only;rw[ej];have s5:aG lB (upd lB cv (.tup [.int (fst:Nat),.int (j:Nat)])):=aT gE;have hD:upd lB cv (.tup [.int (fst:Nat),.int (j:Nat)]) cv=O (.tup [.int (fst:Nat),.int (j:Nat)]):=aB;generalize upd lB cv (.tup [.int (fst:Nat),.int (j:Nat)])=H5 at s5 hD;have gb:=s5 _ _ gc;have gy:=Paired.length hQ;have B:=BF (h:=h) hQ;have gj:(fF p).length<=p.length:=by unfold fF;have:=oM (isHole p) (bA p.length);rw[ko]at this;exact this
    obtain⟨N,gB,gA,gz,gZ⟩:∃N:List (Key×V),(∀v,bU kvs (bx (h:Int))=O v->N=kvs)/\(bU kvs (bx (h:Int))=U->N=kvs++[(bx (h:Int),.ref cv)])/\Paired (uF H5) d N/\d.length<=b.length+1:=by
     have hB:Paired (uF H5) b kvs:=Paired.l_ hQ λ_ _ y=>y.tups λb xs e=>s5 b _ e;unfold aet at S;simp only at S;cases ho:oJ b h with
     |none=>rw[ho]at S B;simp only at S B;have:=bH S;subst this;refine⟨kvs++[(bx (h:Int),.ref cv)],λv hv=>(by rw[B]at hv;cases hv),λ_=>Y,?_,byB⟩;exact Paired.Ac hB ⟨Y,cv,Y,hD⟩
     |some g=>
      rw[ho]at S B;simp only at S B;obtain⟨a,ha,_⟩:=B;split at S
      .have:=bH S;subst this;exact⟨kvs,λ_ _=>Y,λhn=>(by rw[ha]at hn;cases hn),hB,byA⟩
      .cases S
    refine wF.one (k:=bx (h:Int)) (kvs':=N) gb (by rw[<-gy,c8];have:=W.lp;lia) gB gA (λv=>?_);have gF:∀b o,H b=O o->b≠c:=λb o e=>aQ e hc;have hj:∀b o,H5 b=O o->(∀l,o≠.dK l)->b≠c:=λb o e n y=>by
     rw[y,gb]at e;injection e with e
     exact n kvs e.symm
    obtain⟨kt,kv,kx,TB⟩:=hS.same s5;have gP:=(cV.mp h').1;refine⟨st',s0',ks',d,zx,BW,_,_,_,_,Y,?_,⟨kt,kv,kx,TB.ne,aE (hj _ _ TB.ht (by intro _ z;cases z)) TB.ht,aE (hj _ _ TB.hv (by intro _ z;cases z)) TB.hv,aE (hj _ _ TB.hx (by intro _ z;cases z)) TB.hx,TB.qg,TB.qf,TB.hop⟩,?_,⟨N,aB,?_⟩,byA,byA,by rw[gh,gt],C4,x4,hZ,ga⟩
    .exact λb o e n=>aE (gF b o e) (s5 _ _ (hG b o e n))
    .exact fB.tups ⟨u7,s5 _ _ hy,hV.same s5⟩ λb xs e=>aE (hj _ _ e (by intro _ z;cases z)) e
    .exact Paired.l_ gz λ_ _ y=>y.tups λb xs e=>aE (hj _ _ e (by intro _ z;cases z)) e
   .intro hs;have gL:=L.at_ he PA.ins (by intro _ z;cases z);refine⟨_,Y,L3.sr.ins,Z.tS,Y,gL,Z.tP,Y,_,Y,aj.of (L.at_ he PA.kinds (by intro _ z;cases z)),cU (x:=kindOf p[hl]) (by rw[bM,aX C];rfl),Y,_,Y,?_⟩;cases hq:p[hl] with
    |node y c=>rw[hq]at P;cases P
    |one y=>
     have hH:y=h:=by rw[hq]at P;exact bH P
     subst hH;have hb:=C1;have J:=x1;rw[<-M]at hb J;have gu:p[z.at_]=.one y:=by rw[h0,hq]
     obtain⟨h9,hd,hm,d,ho,C2,hf,x2⟩:=R3 W.w W.ip T I gu hb J;obtain⟨_,_,_,_,_,_,_,gN,gM,h8⟩:=z_ W.w wp T I hb byA;have hP:fst=dU t z.node z.index:=by rw[hh];unfold vD;rw[aD h9]
     refine dW (show V.int ((kindOf (dN y):Nat):Int)=V.int 1 from Y) ?_;have gx:(marks t).b_[fst]?=O (fN t fst):=i_ (by rw[(i9 W.w).ll,hP];exact h8);have ez:(hl:Int)+1=((hl+1:Nat):Int):=by lia
     have ei:(z.index:Int)+1=((z.index+1:Nat):Int):=by lia
     refine⟨_,Y,_,_,Y,Y,_,Y,bu.of F,bQ (j:=1) Y,_,Y,bu.of F,bQ (j:=2) Y,_,_,Y,Y,?_⟩;refine⟨_,Y,L3.sr.ins,Y,_,Y,bu.of F,bQ (j:=3) Y,_,Y,_,Y,L3.sr.ins,Z.tS,Y,gi,Z.tT,Y,_,Y,aj.of (L.at_ he h5 (by intro _ z;cases z)),cU gx,?_⟩;refine⟨S0,r,dx,q,tr,rt,rv,rx,rh,p,t,z.held,hl,y,_,.one (fN t fst),C,Y,L3.sr,gm,C1.held.len,by rw[hq];rfl,Rk _,W.lp,λH6 v s6 hv=>?_⟩;rw[hP]at hv;rw[M]at ho;rw[ho]at hv;obtain⟨hT,rfl,hv⟩:=hv;refine⟨(by show 4<=bf;decide),λc' gg=>?_⟩;dsimp only;rw[ez,ei]at *;have s7:=s6.trans (aT (o:=.tup [.int ((hl+1:Nat):Int),.int (z.node:Nat),.int ((z.index+1:Nat):Int),.ref hT]) gg);refine hs _ _ ⟨⟨hl+1,z.node,z.index+1,hd⟩,hk,hm,d,wy,c',1,_,Y,bg.of s7,L3.tab.same s7,⟨hT,aB,hv.same (aT gg)⟩,Y,Y,by rw[hP];exact hf,by rw[M]at C2;exact C2,by rw[M]at x2;exact x2,hJ,?_⟩;rw[<-hN];unfold fz at eg ⊢;rw[Du (by rw[aX C,hq]) M h9 ho (p.length+1-st.at_) st hM byA eg];simp only;congr 1;lia
    |row y=>
     have hH:y=h:=by rw[hq]at P;exact bH P
     subst hH;have hg:p[z.at_]?=O (.row y):=by rw[hY,hq]
     have hb:=C1;have J:=x1;rw[<-M]at hb J;obtain⟨m,k,r',hm,e1,e2,R⟩:=Ao W.w W.ip T I hg hb;subst e1;rw[e2]at J;obtain⟨hE,d,j,n,p1,p2,p3,p4,p5,p6,p7,p8⟩:=YT W.w W.ip T R (f:=p.length) byA J;rw[YV W.w W.ip T R byA]at p1;have gD:fz t p p.length hk=O z:=by rw[<-hN];unfold fz at eg ⊢;exact Dv _ st z hC.le eg (.inr ⟨y,hg⟩)
     have gv:jS t p hk=ee t p y z:=by unfold jS;rw[gD];simp only[hg]
     have hw:∀s'∈ee t p y z,s'∈mE t p:=by rw[<-gv];exact(FH W.w W.ip hJ).2
     refine dD (show ¬V.int ((kindOf (ie y):Nat):Int)=V.int 1 by intro w;cases w) ?_;refine⟨_,Y,L3.sr.ins,Y,_,Y,_,Y,S0,r,dx,q,tr,rt,rv,rx,bz,p,t,z,u,y,m,k,r',hm,b,wy,Y,L3,hz,R,hw,λH6 v k6 gk hv=>?_⟩;rw[p1]at hv;obtain⟨c1,a1,rfl,gd,gG⟩:=hv;refine gn ?_;dsimp only;refine⟨_,Y,bu.of gd,bQ (j:=0) Y,?_⟩;refine⟨_,Y,bu.of gd,bQ (j:=1) Y,?_⟩;refine hs _ _ ⟨hE,hE,_,d,n,a1,j,_,Y,k6,gk,gG,byA,byA,?_,p7,p8,hw hE (Pb p1),rfl⟩;rw[hh,Zv W.w T C1.tree (.inr R.nd)];exact p6
  .rintro σ H' ⟨st,hk,ks,b,wy,ym,v5,v6,v7,v8,rfl,kp,tb,hX,hO,gC,gH,hp,hC,hI,hJ,hN⟩;refine⟨_,Y,?_⟩;rw[aM]at hp;have D:=Rq p;rw[<-hp]at D;have:=ace W.w W.ip T hC D hI;subst this;exact kk H' c 0 ks st kp tb hO hC.good hC.held D hC.le
end
end Hs
end
section
namespace Hs
open PySem L2
open Sh (Node Pat Raw)
theorem OL(h:J ns%3=0):(iF (nats ns)).map (λx=>(⟨x.label,x.kids⟩:aO))=kZ ns:=by
 obtain⟨_,Y,Z⟩:=u9 h;unfold kZ;rw[<-Y,<-Z];generalize iF (nats ns)=l
 induction l with
 |nil=>rfl
 |cons x l W=>simp only[bL,wk,W]
theorem AX:J (nats ns)=J ns:=by unfold nats;simp
theorem AR:yx (nats ns)=true↔J ns%3≠0:=by unfold yx;rw[AX];simp
theorem aau(h:J ns%3=0)(Y:∀n∈ns,0<=n):((iF (nats ns)).all λx=>decide (x.kind=0))=!(aH 0 ns).any (λk=>decide (k≠0)):=by
 obtain⟨W,_,_⟩:=u9 h;have e:(iF (nats ns)).all (λx=>decide (x.kind=0))=(nats (aH 0 ns)).all (λk=>decide (k=0)):=by rw[<-W,afi];rfl
 rw[e];unfold nats;rw[afi];have:∀l:List Int,(∀n∈l,0<=n)->l.all ((λk=>decide (k=0)) ∘ Ut)=!l.any (λk=>decide (k≠0)):=by
  intro l
  induction l with
  |nil=>intro _;rfl
  |cons x l U=>
   intro h;have hx:=h x byB;rw[yV,p_,U λn Y=>h n (by simp[Y])];by_cases e:x=0
   .subst e;simp
   .have:¬x.toNat=0:=by lia
    simp[e,this]
 exact this _ λn Z=>Y n (uR Z)
theorem LZ(T:∀n∈ns,0<=n):cX x (.tree (nats ns))=(if lX ns=0 then {x with tree:=kZ ns } else x,eK (lX ns)):=by
 unfold cX lX;simp only;rw[AX];by_cases W:768<J ns
 .rw[aD (by show 3*256<J ns;omega),aD W,ao byD]
 .rw[ao (by show ¬3*256<J ns;omega),ao W];by_cases Z:J ns%3=0
  .have Y:yx (nats ns)=false:=by
    cases e:yx (nats ns) with
    |false=>rfl
    |true=>exact absurd Z (AR.mp e)
   rw[ao (by rw[Y];simp)];have U:j8 1 (kZ ns)=iX ns:=by
    rw[mQ];cases e:iX ns with
    |true=>show dz 1 (ah (kZ ns))=true;rw[EZ e];exact(rG.mp e).2
    |false=>
     have S:(kZ ns).map (·.kids)=nats (aH 2 ns):=by rw[<-OL Z,iZ,<-(u9 Z).2.2];rfl
     rw[S];cases e2:dz 1 (nats (aH 2 ns)) with
     |false=>rfl
     |true=>have:=rG.mpr ⟨Z,e2⟩;rw[e]at this;cases this
   unfold aer;rw[OL Z,aau Z T,U];generalize (aH 0 ns).any (λk=>decide (k≠0))=b;generalize iX ns=o;cases b<;>cases o<;>rfl
  .have Y:yx (nats ns)=true:=AR.mpr Z;have e1:iX ns=false:=by
    cases e:iX ns with
    |false=>rfl
    |true=>exact absurd (rG.mp e).1 Z
   rw[aD Y,e1,aD rfl,ao byD]
theorem aby:fj (a::b::c::r)=(if a=0 then [] else [(b,a)])++fj r:=by
 obtain⟨e1,e2,Z⟩:=DJ (a:=a) (b:=b) (c:=c) (r:=r);unfold fj;rw[e1,e2,wk];by_cases h:a=0
 .rw[aD h,wA (by simp[h])];rfl
 .rw[ao h,yU (by simp[h])];rfl
theorem Za:bY (a::b::c::r)=(match nc ⟨a.toNat,b.toNat,c.toNat⟩ with|some q=>[q]|none=>[])++bY r:=by have Z:iF (nats (a::b::c::r))=⟨a.toNat,b.toNat,c.toNat⟩::iF (nats r):=rfl;unfold bY;rw[Z,fR];cases nc ⟨a.toNat,b.toNat,c.toNat⟩<;>rfl
theorem ZX(h:J ns%3=0)(T:∀n∈ns,0<=n)(hz:∀x∈iF (nats ns),x.kind<=2/\(x.kind≠0->x.kids=0))(l k:Int):(l,k)∈fj ns↔∃g:Nat,l=(g:Int)/\((k=1/\dN g∈bY ns)\/(k=2/\ie g∈bY ns)):=by
 revert T hz;refine Bq (M:=λns=>(∀n∈ns,0<=n)->(∀x∈iF (nats ns),x.kind<=2/\(x.kind≠0->x.kids=0))->((l,k)∈fj ns↔∃g:Nat,l=(g:Int)/\((k=1/\dN g∈bY ns)\/(k=2/\ie g∈bY ns)))) ?_ ?_ (J ns) ns (aU _) h
 .intro _ _;unfold fj;rw[sS,sS];simp[bY,nats,iF]
 .intro a b c r _ S T hz;have P:iF (nats (a::b::c::r))=⟨a.toNat,b.toNat,c.toNat⟩::iF (nats r):=rfl;have S:=S (λn R=>T n (by simp[R])) (λx hx=>hz x (by rw[P];exact dR _ hx));have ha:=T a byB;have hb:=T b byB;have hx:=hz ⟨a.toNat,b.toNat,c.toNat⟩ (by rw[P];exact mL ..);have N:a.toNat<=2:=hx.1;have U:a.toNat≠0->c.toNat=0:=hx.2;rw[aby,Za,kh,S];have W:a=0\/a=1\/a=2:=by lia
  rcases W with rfl|rfl|rfl
  .have e:nc ⟨(0:Int).toNat,b.toNat,c.toNat⟩=O (.node b.toNat c.toNat):=rfl;rw[e];simp
  .have Q:c.toNat=0:=U byD;have e:nc ⟨(1:Int).toNat,b.toNat,c.toNat⟩=O (.one b.toNat):=by rw[Q];rfl
   rw[e];simp only[kh,yN];constructor
   .rintro(y|⟨g,e1,y⟩)
    .have y:(l,k)=(b,1):=by simpa using y
     injection y with Y Z
     exact⟨b.toNat,byA,.inl ⟨Z,.inl rfl⟩⟩
    .refine⟨g,e1,?_⟩;rcases y with⟨Y,Z⟩|⟨Y,Z⟩
     .exact .inl ⟨Y,.inr Z⟩
     .exact .inr ⟨Y,.inr Z⟩
   .rintro⟨g,e1,⟨Y,Z⟩|⟨Y,Z⟩⟩
    .rcases Z with Z|Z
     .left;injection Z with Z
      have:l=b:=by lia
      rw[this,Y];simp
     .exact .inr ⟨g,e1,.inl ⟨Y,Z⟩⟩
    .rcases Z with Z|Z
     .cases Z
     .exact .inr ⟨g,e1,.inr ⟨Y,Z⟩⟩
  .have Q:c.toNat=0:=U byD;have e:nc ⟨(2:Int).toNat,b.toNat,c.toNat⟩=O (.row b.toNat):=by rw[Q];rfl
   rw[e];simp only[kh,yN];constructor
   .rintro(y|⟨g,e1,y⟩)
    .have y:(l,k)=(b,2):=by simpa using y
     injection y with Y Z
     exact⟨b.toNat,byA,.inr ⟨Z,.inl rfl⟩⟩
    .refine⟨g,e1,?_⟩;rcases y with⟨Y,Z⟩|⟨Y,Z⟩
     .exact .inl ⟨Y,.inr Z⟩
     .exact .inr ⟨Y,.inr Z⟩
   .rintro⟨g,e1,⟨Y,Z⟩|⟨Y,Z⟩⟩
    .rcases Z with Z|Z
     .cases Z
     .exact .inr ⟨g,e1,.inl ⟨Y,Z⟩⟩
    .rcases Z with Z|Z
     .left;injection Z with Z
      have:l=b:=by lia
      rw[this,Y];simp
     .exact .inr ⟨g,e1,.inr ⟨Y,Z⟩⟩
theorem all_some{l:List Raw}:(l.all λx=>(nc x).isSome)=true↔∀x∈l,x.kind<=2/\(x.kind≠0->x.kids=0):=by
 rw[qa];constructor
 .intro h x hx;obtain⟨q,e⟩:=we.mp (h x hx);exact Zb e
 .intro h x hx;obtain⟨q,e,_⟩:=Pj (h x hx).1 (h x hx).2;rw[e];rfl
theorem Qt:sq p=true↔(p.map kindOf)[0]?≠O 2:=by
 unfold sq;cases p with
 |nil=>simp
 |cons q r=>cases q<;>simp[kindOf]
theorem HF(h:∀n∈l,0<=n):l[0]?≠O 2↔(nats l)[0]?≠O 2:=by
 cases l with
 |nil=>simp[nats]
 |cons x r=>
  have hx:=h x byB;unfold nats;simp only[bL,CA,ne_eq,JJ];constructor
  .intro z y;exact z byA
  .intro z y;exact z byA
section
variable{ns:List Int}(hn:∀n∈ns,0<=n)
include hn
theorem xu:fh ns=true↔sj (nats ns)=O (bY ns)/\(nY 1 (bY ns)&&sq (bY ns))=true:=by
 rw[o6,rG];constructor
 .rintro⟨U,⟨W,Z⟩,H,I⟩;have T:=(zv W hn).mp I;obtain⟨P,K,Q⟩:=u9 W;obtain⟨L,G,M⟩:=BA T;refine⟨?_,?_⟩
  .unfold sj Tn;rw[ao,aD (all_some.mpr T)];rfl;rintro(y|y)
   .exact AR.mp y W
   .rw[AX]at y;have y:3*32<J ns:=y;lia
  .rw[eO];refine⟨?_,?_⟩
   .rw[wK];show dz 1 ((bY ns).map (·.kids))=true;have:(bY ns).map (·.kids)=nats (aH 2 ns):=M.trans Q;rw[this];exact Z
   .rw[Qt];have:(bY ns).map kindOf=nats (aH 0 ns):=L.trans P;rw[this];exact(HF λn Y=>hn n (uR Y)).mp H
 .rintro⟨U,W⟩;rw[eO]at W;unfold sj at U;split at U
  .cases U
  .rename_i S;unfold Tn at U;split at U
   .rename_i R;have T:=all_some.mp R;have N:J ns%3=0:=by
     rcases(show J ns%3=0\/J ns%3≠0 by lia) with y|y
     .exact y
     .exact absurd (Or.inl (AR.mpr y)) S
    have hl:J ns<=96:=by
     rcases cY 96 (J ns) with y|y
     .exact absurd (Or.inr (by rw[AX];show 3*32<J ns;lia)) S
     .exact y
    obtain⟨P,K,Q⟩:=u9 N;obtain⟨L,G,M⟩:=BA T;refine⟨hl,⟨N,?_⟩,?_,(zv N hn).mpr T⟩
    .have Z:=W.1;rw[wK]at Z;have:(bY ns).map (·.kids)=nats (aH 2 ns):=M.trans Q;rw[this]at Z;exact Z
    .have Z:=Qt.mp W.2;have:(bY ns).map kindOf=nats (aH 0 ns):=L.trans P;rw[this]at Z;exact(HF λn Y=>hn n (uR Y)).mpr Z
   .cases U
theorem Ph(h:sj (nats ns)=O a):a=bY ns:=by
 unfold sj at h;split at h
 .cases h
 .unfold Tn at h;split at h
  .exact(bH h).symm
  .cases h
end
theorem Oz:∀p:List aF,J (cj p)=(p.map kindOf).count 2
 |[]=>rfl
 |q::p=>by
  have Z:=Oz p;cases q with
  |node x c=>rw[bL,sJ,<-Z];rfl
  |one x=>rw[bL,sJ,<-Z];rfl
  |row x=>rw[bL,sJ,<-Z];rfl
theorem Sz:∀{l:List Int},(∀n∈l,0<=n)->(nats l).count 2=l.count 2
 |[],_=>rfl
 |x::l,h=>by
  have Z:=Sz (l:=l) λn Y=>h n (by simp[Y]);have hx:=h x byB;unfold nats at Z ⊢;rw[bL,sJ,sJ,Z];congr 1;by_cases e:x=2
  .subst e;rfl
  .have:¬x.toNat=2:=by lia
   simp[e,this]
section
variable(hr:fh ns=true)(hn:∀n∈ns,0<=n)
include hr hn
theorem mu(l k:Int):(l,k)∈fj ns↔∃g:Nat,l=(g:Int)/\((k=1/\dN g∈bY ns)\/(k=2/\ie g∈bY ns)):=by obtain⟨T,W,U,Y⟩:=o6.mp hr;have Z:=(rG.mp W).1;exact ZX Z hn ((zv Z hn).mp Y) l k
theorem EL:k8 ns=pR (bY ns):=by
 have K:=xD hr hn;obtain⟨G,Q⟩:=(xu hn).mp hr;rw[eO]at Q;have T:(aH 0 ns).count 2=J (cj (bY ns)):=by rw[Oz,K.kinds,Sz λn W=>hn n (uR W)]
 have hb:(!both (fj ns))=((Cb (bY ns)).all λh=>!(cj (bY ns)).contains h):=by
  rw[zo];simp only[Le,qa];constructor
  .intro U h P;cases T:(cj (bY ns)).contains h with
   |false=>rfl
   |true=>
    exfalso;have R:h∈cj (bY ns):=by simpa using T
    have:both (fj ns)=true:=yo.mpr ⟨((h:Int),1),(mu hr hn _ _).mpr ⟨h,Y,.inl ⟨Y,rJ.mp P⟩⟩,((h:Int),2),(mu hr hn _ _).mpr ⟨h,Y,.inr ⟨Y,mX.mp R⟩⟩,Y,by show(1:Int)≠2;decide⟩;rw[U]at this;cases this
  .intro ha;cases U:both (fj ns) with
   |false=>rfl
   |true=>
    exfalso;obtain⟨⟨l,k⟩,R,⟨I,H⟩,M,e1,e2⟩:=yo.mp U;simp only at e1 e2;subst e1;obtain⟨g,E,N⟩:=(mu hr hn _ _).mp R;obtain⟨L,F,O⟩:=(mu hr hn _ _).mp M;have:g=L:=by lia
    subst this;rcases N with⟨k1,m1⟩|⟨k1,m1⟩<;>rcases O with⟨k2,m2⟩|⟨k2,m2⟩
    .lia
    .have:=ha g (rJ.mpr m1);have S:(cj (bY ns)).contains g=true:=by simpa using mX.mpr m2
     rw[S]at this;simp at this
    .have:=ha g (rJ.mpr m2);have S:(cj (bY ns)).contains g=true:=by simpa using mX.mpr m1
     rw[S]at this;simp at this
    .lia
 unfold k8 pR;have Z:=Q.2;unfold sq at Z;rw[hr,T,hb,Q.1,Z];rfl
end
theorem Q5(h:k8 ns=true):fh ns=true:=(Q6 h).1
theorem aa6(h:pR a=true):(nY 1 a&&sq a)=true:=by unfold pR at h;simp only[eO]at h;rw[eO];refine⟨h.1.1.1,?_⟩;unfold sq;exact h.1.1.2
theorem Ov(W:∀n∈ps,0<=n)(R:∀n∈rs,0<=n):cX x (.rule (nats ps) (nats rs)) =
 (if je ps rs≠0 then(x,eK (je ps rs)) else if 16<=J x.rules then(x,eK (-3)) else({x with rules:=x.rules++[⟨bY ps,bY rs⟩] },eK (J x.rules))):=by
 have Q:(k8 ps&&fh rs)=false->cX x (.rule (nats ps) (nats rs))=(x,eK (-1)):=by
  intro K;unfold cX;simp only;cases e1:sj (nats ps) with
  |none=>rfl
  |some a=>
   cases e2:sj (nats rs) with
   |none=>rfl
   |some b=>
    have ha:=Ph W e1;have hb:=Ph R e2;subst ha hb;simp only;rw[aD];cases N:pR (bY ps)&&(nY 1 (bY rs)&&sq (bY rs)) with
    |false=>rfl
    |true=>exfalso;rw[eO]at N;have T:fh ps=true:=(xu W).mpr ⟨e1,aa6 N.1⟩;have D:fh rs=true:=(xu R).mpr ⟨e2,N.2⟩;rw[EL T W,N.1,D]at K;cases K
 cases O:k8 ps&&fh rs with
 |false=>
  have e:je ps rs=-1:=by unfold je;rw[aD O]
  rw[Q O,e,aD byD]
 |true=>
  have Z:=O;rw[eO]at Z;have T:=Q5 Z.1;obtain⟨B,A⟩:=(xu W).mp T;obtain⟨C,H⟩:=(xu R).mp Z.2;have P:pR (bY ps)=true:=by rw[<-EL T W];exact Z.1
  have U:(fj rs).all (λq=>decide (q∈fj ps))=Cc ⟨bY ps,bY rs⟩:=by
   have S:=H;rw[eO]at S;have I:=S.2;unfold sq at I;have e1:Cc ⟨bY ps,bY rs⟩=(((Cb (bY rs)).all λh=>(Cb (bY ps)).contains h)&&((cj (bY rs)).all λh=>(cj (bY ps)).contains h)):=by unfold Cc;simp only;rw[P,S.1,I];rfl
   rw[e1,zo];simp only[qa,eO,m9];constructor
   .intro h;refine⟨λg M=>?_,λg M=>?_⟩
    .have:=h ((g:Int),1) ((mu Z.2 R _ _).mpr ⟨g,Y,.inl ⟨Y,rJ.mp M⟩⟩);obtain⟨L,e,y⟩:=(mu T W _ _).mp this;have:g=L:=by lia
     subst this;rcases y with⟨_,y⟩|⟨y,_⟩
     .simpa using rJ.mpr y
     .cases y
    .have:=h ((g:Int),2) ((mu Z.2 R _ _).mpr ⟨g,Y,.inr ⟨Y,mX.mp M⟩⟩);obtain⟨L,e,y⟩:=(mu T W _ _).mp this;have:g=L:=by lia
     subst this;rcases y with⟨y,_⟩|⟨_,y⟩
     .cases y
     .simpa using mX.mpr y
   .rintro⟨F,G⟩ ⟨l,k⟩ E;obtain⟨g,e,y⟩:=(mu Z.2 R _ _).mp E;refine(mu T W _ _).mpr ⟨g,e,?_⟩;rcases y with⟨y1,y2⟩|⟨y1,y2⟩
    .left;refine⟨y1,rJ.mp ?_⟩;have:=F g (rJ.mpr y2);simpa using this
    .right;refine⟨y1,mX.mp ?_⟩;have:=G g (mX.mpr y2);simpa using this
  unfold cX je;simp only;rw[B,C];simp only;rw[P,H,O,U];cases Cc ⟨bY ps,bY rs⟩<;>rfl
theorem Ox(W:∀n∈ps,0<=n)(h:je ps rs=0):fh ps=true/\fh rs=true/\pR (bY ps)=true:=by
 unfold je at h;split at h
 .cases h
 .rename_i Z;have Z:(k8 ps&&fh rs)=true:=by simpa using Z
  rw[eO]at Z;have Y:=Q5 Z.1;exact⟨Y,Z.2,by rw[<-EL Y W];exact Z.1⟩
end Hs
end
section
namespace Hs
open PySem PySem.Spec PyProof.Rows L2
open Sh (Node Pat Fill)
def iY(X:List aa)(H:Hp):Hp:=λb=>if b∈X then U else H b
def i8(X:List aa)(H H':Hp):Hp:=λb=>if b∈X then H b else H' b
theorem rY(h:b∈X):iY X H b=U:=aD h
theorem iM(h:b∉X):iY X H b=H b:=ao h
theorem pD(h:b∈X):i8 X H H' b=H b:=aD h
theorem lK(h:b∉X):i8 X H H' b=H' b:=ao h
def C8(X:List aa):HO->Prop
 |.lst _=>True
 |.dK _=>True
 |.dT _=>True
 |.ins _ dx _=>dx∈X
 |.own y=>y∈X
 |_=>False
def sO(X:List aa)(H:Hp):Prop:=∀b∈X,∃o,H b=O o/\C8 X o
theorem Zo(x:e7 P w H h a o)(T:C8 X o):∃u,h.get? a=O u:=by
 cases o with
 |lst xs=>obtain⟨z,Y,n,r,e⟩:=x;exact⟨_,e⟩
 |dK kvs=>obtain⟨z,y,vs,r,Z,W,U,e,c⟩:=x;exact⟨_,e⟩
 |dT kvs=>obtain⟨z,y,xs,r,Z,W,U,e,c⟩:=x;exact⟨_,e⟩
 |ins C dx fs=>obtain⟨d,z,ne,e,r⟩:=x;exact⟨_,e⟩
 |own y=>exact x
 |_=>exact T.elim
theorem Zn(x:e7 P w H h a o)(T:C8 X o)(k:∀u,h.get? a=O u->h'.get? a=O u)
 (S:∀b∈X,∀u,h.get? b=O u->h'.get? b=O u) (R:∀b∈X,H' b=H b) (ht:∀b xs,H b=O (.tup xs)->H' b=O (.tup xs)):e7 P w H' h' a o:=by
 cases o with
 |lst xs=>obtain⟨z,U,n,r,e⟩:=x;exact⟨z,U,n,r,k _ e⟩
 |dK kvs=>obtain⟨z,y,vs,r,Z,Y,W,e,c⟩:=x;exact⟨z,y,vs,r,Z,Y,W,k _ e,c⟩
 |dT kvs=>obtain⟨z,y,xs,r,Z,Y,W,e,c⟩:=x;exact⟨z,y,xs,Paired.l_ r λp q z=>⟨z.1,z.2.1.mono ht,z.2.2⟩,Z,Y,W,k _ e,c⟩
 |ins C dx fs=>obtain⟨d,z,ne,e,mA,⟨od,Y,W,e2,c⟩,r⟩:=x;have hd:dx∈X:=T;exact⟨(R dx hd).trans d,z,ne,k _ e,mA,⟨od,Y,W,S dx hd _ e2,c⟩,r⟩
 |own y=>obtain⟨Z,e⟩:=x;exact⟨Z,k _ e⟩
 |_=>exact T.elim
section
variable{P:Program}{w:World}{K:PySem.W.Frag}{mg:Str->Option Value}{base:Heap}{k:Nat}{f:Addr}{fd:FuncData}{ps:List Str}{sp:Sp}
def XO(sp:Sp):Sp:=λvs H Q E=>∃X,sO X H/\sp vs (iY X H) (λv H'=>(∀b∈X,H' b=U)->Q v (i8 X H H')) E
theorem e_.cut(F:e_ P w K mg base qb k f fd ps sp):e_ P w K mg base qb k f fd ps (XO sp):=by
 refine⟨λvs H Q E ⟨X,_,h⟩=>F.len vs _ _ E h,λA outer s H args us vs Q E i Z hb hv ⟨X,M,j⟩=>?_⟩;have l:∀b o,H b=O o->(¬C8 X o)->b∉X:=λb o e n z=>by obtain⟨o',T,c⟩:=M b z;rw[e]at T;rw[bH T]at n;exact n c
 have x:∀b xs,H b=O (.tup xs)->b∉X:=λb xs e=>l b _ e (λz=>z);have e1:sN P w K mg base A outer s (iY X H):=by
  refine⟨Z.frames,Z.mod,λb o e=>?_,Z.pN,Z.mZ,λb hb=>?_,λa o e=>?_,Z.bare⟩
  .obtain⟨J,L⟩:=Z.bs b o e;refine⟨J,?_⟩;unfold iY;split
   .rfl
   .exact L
  .unfold iY;split
   .rfl
   .exact Z.qF b hb
  .have ha:a∉X:=λz=>by rw[rY z]at e;cases e
   rw[iM ha]at e;refine(Z.hok a o e).stay (λb u _ q=>q) (λb q=>?_) (λb xs q=>?_)
   .have C:b∉X:=λz=>by obtain⟨o',T,c⟩:=M b z;rw[q]at T;have:=bH T;subst this;exact ha c
    rw[iM C];exact q
   .rw[iM (x b xs q)];exact q
 refine BQ (F.run A outer s (iY X H) args us vs _ E i e1 hb hv j) λr s' S=>?_;cases r with
 |error e=>exact S
 |ok c=>
  cases c with
  |ret u=>
   obtain⟨v,H',J,L,Y,G,m,p⟩:=S;have B:∀b∈X,∃o,s.heap.get? b=O o:=λb hb=>by obtain⟨o,e,c⟩:=M b hb;exact Zo (Z.hok b o e) c
   have y:∀b∈X,b∉frs outer:=λb hb z=>by obtain⟨o,e,_⟩:=M b hb;rw[Z.qF b z]at e;cases e
   have R:∀b∈X,H' b=U:=λb hb=>by obtain⟨o,e⟩:=B b hb;exact Y.free b o e (rY hb) byB
   have N:∀b∈X,∀u,s.heap.get? b=O u->s'.heap.get? b=O u:=λb hb u e=>Y.keep b u e (rY hb) (y b hb) byB;have ht:∀b xs,H b=O (.tup xs)->i8 X H H' b=O (.tup xs):=λb xs e=>by have hb:=x b xs e;rw[lK hb];exact Y.tups b xs (by rw[iM hb];exact e)
   refine⟨v,i8 X H H',J,L,⟨?_,?_,?_,Y.there,ht,?_,?_⟩,?_,m,p R⟩
   .intro b o e n D hx;refine Y.keep b o e ?_ D hx;unfold iY;split
    .rfl
    .exact n
   .intro b o e n D hx;refine Y.slot b o e ?_ D hx;unfold iY;split
    .rfl
    .exact n
   .intro b o e n hx;unfold i8;split
    .exact n
    .rename_i hb;exact Y.free b o e (by rw[iM hb];exact n) hx
   .intro b o u e;unfold i8;split
    .exact e
    .rename_i hb;exact Y.nQ b o u (by rw[iM hb];exact e)
   .intro b I e;unfold i8;split
    .exact⟨#[],by rw[e];simp⟩
    .rename_i hb;exact Y.oX b I (by rw[iM hb];exact e)
   .intro a o e;by_cases ha:a∈X
    .rw[pD ha]at e;obtain⟨o',T,c⟩:=M a ha;rw[e]at T;have:=bH T;subst this;exact Zn (Z.hok a o e) c (N a ha) N (λb hb=>pD hb) ht
    .rw[lK ha]at e;refine(G a o e).stay (λb u _ q=>q) (λb q=>?_) (λb xs q=>?_)
     .rw[lK (λz=>by rw[R b z]at q;cases q)];exact q
     .rw[lK (λz=>by rw[R b z]at q;cases q)];exact q
  |_=>exact S
end
def MN(q tr rt rv rx:aa):List (ak×V):=[("pattern",.ref q),("tree",.ref tr),("tallies",.ref rt),("verdicts",.ref rv),("hopeless",.ref rx)]
inductive Xa(CS:aa)(vs:List V)(H:Hp)(Q:VK)(E_:XK):Prop
 |mk(r q tr dx:aa)(_:vs=[.ref r,.ref q,.ref tr])(_:H r=O (.ins CS dx []))(_:∀(H':Hp) (rt rv rx:aa),H' r=O (.ins CS dx (MN q tr rt rv rx))->H' rt=O (.dT [])->H' rv=O (.dT [])->H' rx=O (.dT [])->H rt=U->H rv=U->H rx=U->rt≠rv->rt≠rx->rv≠rx->ig r H H'->Q .az H')
section
theorem PJ(Z:HY):Ok 1 34 ["self","pattern","tree"] (Xa zS):=by
 refine Z.KD.Go ["self","pattern","tree"] λcdv A outer s H vs Q E l nd h=>?_
 .obtain⟨r,q,tr,dx,rfl,y,m⟩:=h;refine⟨_,(aA (dP (pv 0) (pv 1) Y)
   (aA (dP (pv 0) (pv 2) Y)
   (aA (dP (pv 0) AB Y)
   (aA (dP (pv 0) AB Y)
   (aJ (dP (pv 0) AB Y)))))),?_⟩
  dsimp only[xk];refine⟨_,Y,_,Y,y,Z.tS,dI 0 Y,?_⟩;refine⟨_,Y,_,Y,aB,Z.tS,dI 1 Y,?_⟩;rw[DF];obtain⟨H1,M⟩:∃h,h=upd H r (.ins zS dx (aR "tree" (.ref tr) (aR "pattern" (.ref q) []))):=⟨_,Y⟩;rw[<-M];have N:H1 r=O (.ins zS dx (aR "tree" (.ref tr) (aR "pattern" (.ref q) []))):=by rw[M];exact aB
  have F:ig r H H1:=λb o e n=>by rw[M];exact aE n e
  refine λrt S=>?_;refine⟨_,Y,aE (aQ N S) N,Z.tS,dI 2 Y,?_⟩;obtain⟨H2,J,P,B,D,I⟩:=mj (o:=.dT []) (fs':=aR "tallies" (.ref rt) (aR "tree" (.ref tr) (aR "pattern" (.ref q) []))) N S;rw[<-J];clear J;refine λrv T=>?_;refine⟨_,Y,aE (aQ P T) P,Z.tS,dI 3 Y,?_⟩;obtain⟨H3,K,R,G,w,v⟩:=mj (o:=.dT []) (fs':=aR "verdicts" (.ref rv) (aR "tallies" (.ref rt) (aR "tree" (.ref tr) (aR "pattern" (.ref q) [])))) P T;rw[<-K];clear K;refine λrx W=>?_;refine⟨_,Y,aE (aQ R W) R,Z.tS,dI 4 Y,?_⟩;obtain⟨H4,L,z,C,u,p⟩:=mj (o:=.dT []) (fs':=aR "hopeless" (.ref rx) (aR "verdicts" (.ref rv) (aR "tallies" (.ref rt) (aR "tree" (.ref tr) (aR "pattern" (.ref q) []))))) R W;rw[<-L];clear L;have fr:∀{b:aa}{x:Hp},ig r H x->b≠r->x b=U->H b=U:=λ{b x} k n e=>by
   cases q:H b with
   |none=>rfl
   |some o=>rw[k b o q n]at e;cases e
  exact m H4 rt rv rx z (C _ _ (G _ _ D I) I) (C _ _ w v) u (fr F I S) (fr (F.trans B) v T) (fr ((F.trans B).trans G) p W) (aQ D T) (aQ (G _ _ D I) W) (aQ w W) (((F.trans B).trans G).trans C)
end
inductive sA(CR:aa)(H:Hp)(r:aa)(p:List aF):Prop
 |mk(dx ki la rr ra rp:_)(_:H r=O (.ins CR dx (jf (J p) ki la rr ra rp)))(_:jb H (aY p) rr ra rp)(_:H ki=O (.lst (aq (p.map kindOf))))(_:H la=O (.lst (aq (p.map d8))))
theorem sA.same{CR:aa}{H H':Hp}{r:aa}{p:List aF}(h:sA CR H r p)(s:aG H H'):sA CR H' r p:=by obtain⟨dx,ki,la,rr,ra,rp,U,W,Y,Z⟩:=h;exact⟨dx,ki,la,rr,ra,rp,s _ _ U,W.same s,s _ _ Y,s _ _ Z⟩
structure yt(x:k_)(l:List aF):Prop where
 one:∀h,dN h∈l->∃g,oJ x h=O g/\g.count=1
 row:∀h,ie h∈l->∃g,oJ x h=O g
theorem LB(W:yt x l)(Y:q∈l)(e:iw q=O h):∃g,oJ x h=O g/\wd (j9 t x) q=g.count/\(j9 t x h)=(j_ t g.at_ g.count,g.count):=by
 cases q with
 |node y c=>cases e
 |one y=>have:y=h:=bH e;subst this;obtain⟨g,Z,T⟩:=W.one y Y;exact⟨g,Z,T.symm,by unfold j9;rw[Z]⟩
 |row y=>
  have:y=h:=bH e;subst this;obtain⟨g,Z⟩:=W.row y Y;have U:j9 t x y=(j_ t g.at_ g.count,g.count):=by unfold j9;rw[Z]
  exact⟨g,Z,by show(j9 t x y).2=_;rw[U],U⟩
def piece(s:To)(l:List aF)(i:Nat):List Node:=match l[i]? with
 |some (.node x k)=>[⟨x,JA s (J (l.drop (i+1))+1) k (l.drop (i+1))⟩]
 |some (.one h)=>(s h).1
 |some (.row h)=>(s h).1
 |none=>[]
theorem R0(s:To)(l:List aF):∀(m i:Nat),J l-i<=m->i<=J l->((bA i).flatMap (piece s l))++v_ s (l.drop i)=v_ s l->v_ s l=(bA (J l)).flatMap (piece s l)
 |0,i,Z,hi,h=>by
  have:i=J l:=by omega
  subst this;rw[uC]at h;rw[<-h];show _++[]=_;rw[nq]
 |m+1,i,Z,hi,h=>by
  rcases TX hi with z|z
  .subst z;rw[uC]at h;rw[<-h];show _++[]=_;rw[nq]
  .refine R0 s l m (i+1) (by omega) z ?_;rw[<-h,kL,yS,lT];congr 1;rw[kr z];have e:(List.flatMap (piece s l) [i])=piece s l i:=by simp
   rw[e];unfold piece;rw[aX z];cases l[i] with
   |node x k=>rfl
   |one h=>rfl
   |row h=>rfl
theorem R1(s:To)(l:List aF):v_ s l=(bA (J l)).flatMap (piece s l):=R0 s l (J l) 0 byA (cI _) byB
theorem Vf(w:nY 1 l=true)(e:l[i]?=O (.node x k)):JA s (J (l.drop (i+1))+1) k (l.drop (i+1))=(((rowAt (lay (aY l)).rows i).filterMap λc=>l[c]?).map (wd s)).sum:=by
 have hi:i<J l:=(cV.mp e).1;have W:l[i]=.node x k:=(cV.mp e).2;have Z:=(mY (kF w)).row i (by rw[g_];lia);have Y:b7 (aY l) i=k:=by rw[LF hi,W];rfl
 rw[sR,s_ _ (J l) k _ byB byB,Eb k (i+1) byA,Z,Y];congr 2;congr 1;refine kj λj _=>?_;unfold aI;rw[ao (by rw[g_];lia)]
inductive W3(CR:aa)(vs:List V)(H:Hp)(Q:VK)(E_:XK):Prop
 |mk(r c:aa)(p:List aF)(t:List aO)(x:k_)(a:Nat)(ha:a<J p)(_:vs=[.ref r,.int (a:Nat),.ref c])(_:sA CR H r p)(_:oS H c x)(_:yt x p)(_:Q (.int (wd (j9 t x) p[a]:Nat)) H)
inductive XM(CR CT:aa)(vs:List V)(H:Hp)(Q:VK)(E_:XK):Prop
 |mk(S0:aW)(r tr c:aa)(p:List aF)(t:List aO)(x:k_)(_:vs=[.ref r,.ref tr,.ref c])(_:sA CR H r p)(_:lP CT H tr t)(_:oS H c x)(_:yt x p)(_:GoodW t x)(_:j8 1 t=true)(_:J t<=256)(_:nY 1 p=true)(_:J p<=32)(_:∀(H':Hp) (D:aa),aG H H'->H' D=O (.lst (aq (c_ (v_ (j9 t x) p))))->J (v_ (j9 t x) p)<=10000->H D=U->Q (.ref D) H')
theorem Pa(g:GoodW t x)(ht:J t<=256)(l:List aF)(i:Nat):J (piece (j9 t x) l i)<=256:=by
 have Z:∀h,J (j9 t x h).1<=256:=by
  intro h;unfold j9;cases e:oJ x h with
  |none=>simp
  |some f=>simp only;obtain⟨Y,W⟩:=g f (nL e).1;rw[MZ Y];have:=pq (t:=t) (i:=f.at_) (k:=f.count);lia
 unfold piece;cases l[i]? with
 |none=>simp
 |some q=>
  cases q with
  |node y k=>simp
  |one h=>exact Z h
  |row h=>exact Z h
theorem O_(g:GoodW t x)(ht:J t<=256)(l:List aF):∀i,J ((bA i).flatMap (piece (j9 t x) l))<=256*i
 |0=>by simp
 |i+1=>by rw[kL,yS,fO];have Y:=O_ g ht l i;have Z:=Pa g ht l i;simp only[mP,List.flatMap_nil,nq];lia
section
theorem PD(Z:HY):Ok 1 35 ["self","at","fillings"] (W3 zR):=by
 refine Z.KC.Go ["self","at","fillings"] λcdv A outer s H vs Q E F nd h=>?_
 .obtain⟨r,c,p,t,x,a,ha,rfl,⟨dx,ki,la,rr,ra,rp,N,m,w,B⟩,⟨kvs,C,D⟩,W,S⟩:=h;have I:=jF F;obtain⟨n,u⟩:=Z.G.node;refine⟨_,(aJ (bh (l6 (bK eW (aN bI (aC (pv 0)) (pv 1)) (eY (v:=.int 0) byC u ⟨_,Y⟩) (bB _)) aK (aN cC (ow I (pv 2) (aN bI (aC (pv 0)) (pv 1)) (λ_ _=>Y)) aK)))),?_⟩;dsimp only[xk];refine⟨_,Y,N,Z.tR,Y,_,Y,aj.of w,cU (x:=kindOf p[a]) (by rw[bM,aX ha];rfl),Y,_,Y,?_⟩;have U:(p.map d8)[a]?=O (d8 p[a]):=by rw[bM,aX ha];rfl
  cases e:iw p[a] with
  |none=>
   have L:=aar e;refine dW (show V.int ((kindOf p[a]:Nat):Int)=V.int 0 by rw[L];rfl) ?_;have:wd (j9 t x) p[a]=1:=by
    cases M:p[a] with
    |node y k=>rfl
    |one y=>rw[M]at e;cases e
    |row y=>rw[M]at e;cases e
   rw[this]at S;exact S
  |some h=>obtain⟨q,L⟩:=xX e;obtain⟨g,J,K,o⟩:=LB (t:=t) W (qO ha) e;rw[bP (show ¬V.int ((kindOf p[a]:Nat):Int)=V.int 0 by intro z;injection z with z;lia)];have T:=BF (h:=h) D;rw[J]at T;obtain⟨b,P,R⟩:=T;rw[q]at U;refine cJ ⟨_,Y,_,Y,N,Z.tR,Y,_,Y,aj.of B,cU U,c,_,Y,.inl ⟨kvs,bx (h:Int),.inl C,Y,P.symm⟩,bu.of R,bQ (j:=1) Y,?_⟩;rw[K]at S;exact S
theorem Qj(Z:HY):Ok 2 36 ["self","tree","fillings"] (XM zR zT):=by
 refine Z.KA.Go ["self","tree","fillings","numbers","at","kind","below","filling","child"] λcdv A outer s H vs Q E hr nd h=>?_
 .obtain⟨S0,r,tr,c,p,t,x,rfl,hR,hT,hc,W,gw,hw,ht,N,hQ,kk⟩:=h;have hu:=jF hr;obtain⟨t3,g3⟩:=Z.G.node;refine⟨_,(aA (bN 3 nd (dQ ay))
   (aA (iV iG Y (EI byC Z.B.enumerate (af (aC (pv 0)) ay)) (tL Y (l5 (dB 4 nd) (l5 (dB 5 nd) tK))) (aJ (bT (bK eW (pv 5) (eY (v:=.int 0) byC g3 ⟨_,Y⟩) (bB _)) (aA (bN 6 nd (fy (Jc Y) byC Z.B.sum Tr (af (mV (own:=[("child",8)]) Y nd (jm (aN bI (aC (pv 0)) (pv 4))) (k9 (by show j5 ["self","tree","fillings","numbers","at","kind","below","filling","child"] (h_ Er) _ [("child",8)]=true;decide +kernel)) (λ_ _ _ _ _=>(dB 8 nd)) (λ_ _ _ _ _=>o8) (λ_ _ _ _ _=>(bX (pv 0) Z.tR.cl Z.Gd (PD Z).g hr (PD Z).b .nil bq (af (pv 8) (af (pv 2) ay))))) ay)))
   (aJ (iW (kY PySem.F.plainAttrs_list PySem.F.slot_list_extend PySem.F.type_list_extend A1 (pv 3) (af (dQ (af (eY (v:=.int 0) byC g3 ⟨_,Y⟩) (af (aN bI (aC (pv 0)) (pv 4)) (af (pv 6) ay)))) ay))))) (aA (bN 7 nd (ow hu (pv 2) (aN bI (aC (pv 0)) (pv 4)) (λ_ _=>Y)))
   (aJ (iW (kY PySem.F.plainAttrs_list PySem.F.slot_list_extend PySem.F.type_list_extend A1 (pv 3) (af (bX (pv 1) Z.tT.cl Z.m6 (P7 Z).g hr (P7 Z).b .nil bq (af (aN cC (pv 7) aK) (af (aN cC (pv 7) aK) ay))) ay))))))))
   (aJ (bh (pv 3))))),?_⟩
  dsimp only[xk];obtain⟨dx,ki,la,rr,ra,rp,h1,h2,h3,h4⟩:=hR;obtain⟨kvs,ho,hm⟩:=hc;obtain⟨P,L⟩:∃P,P=j9 t x:=⟨_,Y⟩;refine⟨cI _,λD hD=>?_⟩;have s0:aG H (upd H D (.lst [])):=aT hD;have hx:upd H D (.lst []) D=O (.lst []):=aB;refine gn ?_;generalize upd H D (.lst [])=H0 at s0 hx;have C:=O_ gw ht p;rw[<-L]at C kk;refine⟨_,Y,s0 _ _ h1,Z.tR,Y,ki,_,Y,aj.of (s0 _ _ h3),Hz (K:=zK) (a:=ki) (xs:=aq (p.map kindOf)) (λi σ H'=>∃(v4 v5 v6 v7:Option V),σ=[O (.ref r),O (.ref tr),O (.ref c),O (.ref D),v4,v5,v6,v7,U]/\aG H H'/\H' D=O (.lst (aq (c_ ((bA i).flatMap (piece P p))))))
   ⟨U,U,U,U,Y,s0,hx⟩ (λi σ H' _ ⟨_,_,_,_,_,s1,_⟩=>aj.of (s1 _ _ h3)) ?_ ?_⟩
  .rintro i y Tt σ H' hy hG ⟨v4,v5,v6,v7,rfl,s1,w⟩;rw[bM,bM]at hy;obtain⟨k,hB,rfl⟩:=eZ.mp hy;obtain⟨q,hq,rfl⟩:=eZ.mp hB;have hi:i<J p:=(cV.mp hq).1;have hP:p[i]=q:=(cV.mp hq).2;have s2:aG H' (upd H' Tt (.tup [.int (i:Nat),.int ((kindOf q:Nat):Int)])):=aT hG;refine⟨Tt,_,Y,bu.of aB,Y,_,_,Y,_,_,Y,Y,?_⟩;generalize upd H' Tt (.tup [.int (i:Nat),.int ((kindOf q:Nat):Int)])=H1 at s2;have T:=s1.trans s2;have he:=s2 _ _ w;have I:(p.map d8)[i]?=O (d8 q):=by rw[bM,hq];rfl
   have M:(bA (i+1)).flatMap (piece P p)=(bA i).flatMap (piece P p)++piece P p i:=by rw[kL,yS];simp
   have hS:=C i;have hN:=C (i+1);refine⟨_,Y,Y,_,Y,?_⟩;cases e:iw q with
   |none=>
    obtain⟨lx,lk,rfl⟩:∃lx lk,q=.node lx lk:=by
     cases q with
     |node a b=>exact⟨a,b,Y⟩
     |one a=>cases e
     |row a=>cases e
    refine dW (show V.int ((kindOf (qL lx lk):Nat):Int)=V.int 0 from Y) ?_;obtain⟨as,au,r1,r2,r3⟩:=h2.row (kF N) (u:=i) (by rw[g_];lia);have R:∀c∈rowAt (lay (aY p)).rows i,c<J p:=λc hc=>by
     rw[(mY (kF N)).row i (by rw[g_];lia)]at hc;obtain⟨j,hj,rfl⟩:=kM.mp hc;have:=jW (kF N) (u:=i) (j:=j) (by rw[g_];lia) (iB.mp hj)
     rwa [g_]at this
    have ha:J (rowAt (lay (aY p)).rows i)<=1000:=by
     rw[(mY (kF N)).row i (by rw[g_];lia),aM,ko];rcases cY (b7 (aY p) i) 1000 with z|z
     .lia
     .exfalso;have hb:∀j,j<=999->j<=aI (aY p) i j:=by
       intro j
       induction j with
       |zero=>intro _;lia
       |succ j ih=>intro hj;have hV:=ih byA;have hK:=jW (kF N) (u:=i) (j:=j) (by rw[g_];lia) byA;rw[k7 (by rw[g_];lia)];have:=rC (cs:=aY p) (n:=aI (aY p) i j) (k:=1) hK byA;lia
      have hU:=hb 999 byA;have hJ:=jW (kF N) (u:=i) (j:=999) (by rw[g_];lia) byA;rw[g_]at hJ;lia
    obtain⟨row,f⟩:∃row,row=rowAt (lay (aY p)).rows i:=⟨_,Y⟩;rw[<-f]at R ha r3;have hg:=Vf (s:=P) N hq;rw[<-f]at hg;refine⟨_,Y,T _ _ h1,Z.tR,Y,_,Y,aj.of (T _ _ r1),kI r2,au,Y,⟨_,aj.of (T _ _ r3)⟩,λD2 hI=>?_⟩;refine pF (K:=zK) (a:=au) (xs:=aq row) (λ_=>true) (λv=>match v with|.int j=>V.int ((((p[j.toNat]?).map (wd P)).getD 0:Nat):Int)|_=>.az) hI (aj.of (T _ _ r3)) (by rw[aM,c8];lia) ?_ ?_
    .rintro j y hj H3 Nx Nn s3 m1 m2;rw[bM]at hj;obtain⟨cc,hF,rfl⟩:=eZ.mp hj;have hn:=R cc (dm hF);have S:=T.trans s3;refine⟨Y,_,Y,S _ _ h1,Y,_,Y,_,Y,r,c,p,t,x,cc,hn,Y,⟨dx,ki,la,rr,ra,rp,S _ _ h1,h2.same S,S _ _ h3,S _ _ h4⟩,oS.same ⟨kvs,ho,hm⟩ S,W,?_⟩;have:=m1 Y H3 (aG.refl H3);simp only[lA]at this;rw[aX hn,kg,JL,L]at this;exact this
    .intro H3 s3 m;have S:=T.trans s3;have hA:((aq row).filter λ_=>true).map (λv=>match v with|.int j=>V.int ((((p[j.toNat]?).map (wd P)).getD 0:Nat):Int)|_=>.az)=((row.map λj=>((((p[j]?).map (wd P)).getD 0:Nat):Int))).map V.int:=by rw[yT.mpr (λ_ _=>rfl)];show((fC _ row).map _)=_;rw[iZ,iZ];rfl
     rw[hA]at m;refine⟨D2,_,Y,aj.of m,?_⟩;have ew:(row.map λj=>((((p[j]?).map (wd P)).getD 0:Nat):Int)).sum=((JA P (J (p.drop (i+1))+1) lk (p.drop (i+1)):Nat):Int):=by
      rw[DQ (λj=>((p[j]?).map (wd P)).getD 0),hg];congr 2;have:∀l:List Nat,(∀c∈l,c<J p)->(l.map λj=>((p[j]?).map (wd P)).getD 0)=(l.filterMap λc=>p[c]?).map (wd P):=by
       intro l
       induction l with
       |nil=>intro _;rfl
       |cons z l ih=>intro hl;have hz:=hl z byB;rw[bL,fR,aX hz,ih λc hc=>hl c (by simp[hc])];rfl
      exact this row R
     rw[ew];obtain⟨bw,hp⟩:∃bw,bw=JA P (J (p.drop (i+1))+1) lk (p.drop (i+1)):=⟨_,Y⟩;rw[<-hp];refine gn ?_;dsimp only;have d:=s3 _ _ he;refine⟨_,Y,.inl ⟨Y,_,aj.of d⟩,?_⟩;refine⟨_,Y,S _ _ h1,Z.tR,Y,_,Y,aj.of (S _ _ h4),cU I,_,Y,(by show 3<=bf;decide),λL3 hH=>?_⟩;have hf:=aT (o:=.lst [V.int 0,V.int ((d8 (qL lx lk):Nat):Int),V.int (bw:Nat)]) hH;refine⟨D,L3,_,_,Y,Y,hf _ _ d,aB,by rw[aM,lH,c8];show _+3<=_;lia,?_⟩;refine⟨_,_,_,_,Y,λb o e=>aE (aQ e hD) (hf _ _ (S _ _ e)),?_⟩;rw[aB,M,Aq];have ep:piece P p i=[⟨lx,bw⟩]:=by unfold piece;rw[hq,hp]
     rw[ep];congr 2;show _=fC _ (_++_);rw[dw];rfl
   |some h=>
    obtain⟨el,e0⟩:=xX e;refine dD (show ¬V.int ((kindOf q:Nat):Int)=V.int 0 by intro z;injection z with z;lia) ?_;obtain⟨g,w1,w2,w3⟩:=LB (t:=t) W (dm hq) e;have hk:=BF (h:=h) hm;rw[w1]at hk;obtain⟨b,hC,hh⟩:=hk;rw[el]at I;obtain⟨hM,hL⟩:=gw g (nL w1).1;refine⟨_,Y,_,Y,T _ _ h1,Z.tR,Y,_,Y,aj.of (T _ _ h4),cU I,c,_,Y,.inl ⟨kvs,bx (h:Int),.inl (T _ _ ho),Y,hC.symm⟩,?_⟩;refine gn ?_;dsimp only;have hs:=hT.same T;obtain⟨dt,_,_,_,_,_,_,_,_,_,_,hE,_⟩:=id hs;refine⟨_,Y,.inl ⟨Y,_,aj.of he⟩,?_⟩;refine⟨_,Y,hE,Y,_,Y,bu.of (T _ _ hh),bQ (j:=0) Y,_,Y,bu.of (T _ _ hh),bQ (j:=1) Y,S0,tr,t,g.at_,g.count,Y,hs,hw,ht,hM,hL,λH3 D3 s3 m hW=>?_⟩;have ep:piece P p i=j_ t g.at_ g.count:=by
     unfold piece;rw[hq];cases q with
     |node a b=>cases e
     |one a=>have:a=h:=bH e;subst this;simp only;rw[L,w3]
     |row a=>have:a=h:=bH e;subst this;simp only;rw[L,w3]
    have hO:J (j_ t g.at_ g.count)<=256:=by rw[<-ep,L];exact Pa gw ht p i
    refine⟨D,D3,_,_,Y,Y,s3 _ _ he,m,by rw[aM,aM,lH,lH,c8];lia,?_⟩;refine⟨_,_,_,_,Y,λb o e=>aE (aQ e hD) (s3 _ _ (T _ _ e)),?_⟩;rw[aB,M,Aq,ep];congr 2;show _=fC _ (_++_);rw[dw]
  .rintro σ H' ⟨v4,v5,v6,v7,rfl,s1,w⟩;rw[aM,aM,<-R1]at w;refine⟨_,Y,kk H' D s1 w ?_ hD⟩;rw[R1];have:=C (J p);lia
end
end Hs
end
section
namespace Hs
open PySem PySem.Spec PyProof.Rows L2
open Sh (Node Pat)
def mT(a:aa)(i:Nat):List (ak×V):=[("numbers",.ref a),("position",.int (i:Nat))]
inductive Xl(CR:aa)(vs:List V)(H:Hp)(Q:VK)(E_:XK):Prop
 |mk(r a dx:aa)(_:vs=[.ref r,.ref a])(_:H r=O (.ins CR dx []))(_:Q .az (upd H r (.ins CR dx (mT a 0))))
inductive Xw(K:PySem.W.Frag)(CR:aa)(vs:List V)(H:Hp)(Q:VK)(E_:XK):Prop
 |mk(r a dx:aa)(i:Nat)(ns:List Int)(_:vs=[.ref r])(_:H r=O (.ins CR dx (mT a i)))(_:aj K H a (bF ns))(_:Q (.bl (decide (i<J ns))) H)
inductive W9(K:PySem.W.Frag)(CR:aa)(vs:List V)(H:Hp)(Q:VK)(E_:XK):Prop
 |mk(r a dx:aa)(i k:Nat)(ns:List Int)(_:vs=[.ref r,.int (k:Nat)])(_:H r=O (.ins CR dx (mT a i)))(_:aj K H a (bF ns))(_:i+k<=J ns)(_:∀(H':Hp) (D:aa),ig r H H'->H' r=O (.ins CR dx (mT a (i+k)))->H' D=O (.lst (bF ((ns.drop i).take k)))->H D=U->Q (.ref D) H')
inductive W_(K:PySem.W.Frag)(CR:aa)(vs:List V)(H:Hp)(Q:VK)(E_:XK):Prop
 |mk(r a dx:aa)(i:Nat)(ns:List Int)(x:Int)(_:vs=[.ref r])(_:H r=O (.ins CR dx (mT a i)))(_:aj K H a (bF ns))(_:ns[i]?=O x)(_:∀H':Hp,ig r H H'->H' r=O (.ins CR dx (mT a (i+1)))->Q (.int x) H')
inductive W8(K:PySem.W.Frag)(CR:aa)(vs:List V)(H:Hp)(Q:VK)(E_:XK):Prop
 |mk(r a dx:aa)(i k:Nat)(ns:List Int)(_:vs=[.ref r])(_:H r=O (.ins CR dx (mT a i)))(_:aj K H a (bF ns))(_:ns[i]?=O (k:Int))(_:i+1+k<=J ns)(_:∀(H':Hp) (D:aa),ig r H H'->H' r=O (.ins CR dx (mT a (i+1+k)))->H' D=O (.lst (bF ((ns.drop (i+1)).take k)))->H D=U->Q (.ref D) H')
section
theorem PZ(Z:HY):Ok 1 37 ["self","numbers"] (Xl zD):=by
 refine Z.Kz.Go ["self","numbers"] λcdv A outer s H vs Q E T nd h=>?_
 .obtain⟨r,a,dx,rfl,W,U⟩:=h;refine⟨_,(aA (dP (pv 0) (pv 1) Y)
   (aJ (dP (pv 0) aK Y))),?_⟩
  dsimp only[xk];refine⟨_,Y,_,Y,W,Z.tD,dI 0 Y,?_⟩;refine⟨_,Y,aB,Z.tD,dI 1 Y,?_⟩;rw[DF];exact U
theorem P9(Z:HY):Ok 1 38 ["self"] (Xw zK zD):=by
 refine Z.Ky.Go ["self"] λcdv A outer s H vs Q E S nd h=>?_
 .obtain⟨r,a,dx,i,ns,rfl,W,T,U⟩:=h;refine⟨_,(aJ (bh (qw rE (aC (pv 0)) (fy iN byC Z.B.len PySem.boot_len (af (aC (pv 0)) ay)) (bB _)))),?_⟩;dsimp only[xk];refine⟨_,Y,W,Z.tD,Y,_,Y,W,Z.tD,Y,.inl T,_,_,Y,Y,?_⟩;have e:decide ((i:Int)<((J (bF ns):Nat):Int))=decide (i<J ns):=by
   rw[aM];by_cases c:i<J ns
   .rw[bJ c,bJ byA]
   .rw[bP c,bP byA]
  dsimp only;rw[e];exact U
theorem nI(Z:HY):Ok 1 39 ["self","times"] (W9 zK zD):=by
 refine Z.Kx.Go ["self","times","start"] λcdv A outer s H vs Q E L nd h=>?_
 .obtain⟨r,a,dx,i,k,ns,rfl,W,N,P,R⟩:=h;refine⟨_,(aA (bN 2 nd (aC (pv 0)))
   (aA (YN (pv 0) (pv 1) aa')
   (aJ (bh (qu uV (aC (pv 0)) (lZ (pv 2)) (lZ (aC (pv 0)))))))),?_⟩
  dsimp only[xk];refine⟨_,Y,W,Z.tD,Y,?_⟩;refine⟨_,Y,W,Z.tD,Y,_,Y,_,_,Y,Y,dx,_,W,dI 2 Y,?_⟩;have e1:(i:Int)+(k:Int)=((i+k:Nat):Int):=by lia
  dsimp only;rw[e1];have T:aj zK (upd H r (.ins zD dx (mT a (i+k)))) a (bF ns):=Nl N W (λb o e ne=>aE ne e);refine⟨_,Y,aB,Z.tD,Y,?_⟩;refine⟨_,Y,_,Y,_,Y,aB,Z.tD,Y,_,Y,a,_,Y,T,λD U=>?_⟩;have S:D≠r:=λz=>by rw[z,aB]at U;cases U
  have M:jG (bF ns) (O ((i:Nat):Int)) (O ((i+k:Nat):Int))=bF ((ns.drop i).take k):=by rw[Ja (by rw[aM];lia)];show _=fC _ _;rw[Cu,oK]
  rw[M];exact R _ D (λb o e n=>aT U _ _ (aE n e)) (aT U _ _ aB) aB (by rw[bO S]at U;exact U)
theorem vn(Z:HY):Ok 2 40 ["self"] (W_ zK zD):=by
 refine Z.Kw.Go ["self"] λcdv A outer s H vs Q E P nd h=>?_
 .obtain⟨r,a,dx,i,ns,x,rfl,W,N,hx,S⟩:=h;refine⟨_,(aJ (bh (aN bI (bX (pv 0) Z.tD.cl Z.rL (nI Z).g P (nI Z).b .nil bq (af aK ay)) aK))),?_⟩;dsimp only[xk];have O:=(cV.mp hx).1;refine⟨_,Y,W,Y,r,a,dx,i,1,ns,Y,W,N,byA,λH1 D R U T M=>?_⟩;have e1:(ns.drop i).take 1=[x]:=by rw[IX hx];rfl
  rw[e1]at T;exact⟨aj.of T,bQ (j:=0) Y,S H1 R U⟩
theorem vm(Z:HY):Ok 3 41 ["self"] (W8 zK zD):=by
 refine Z.Kv.Go ["self"] λcdv A outer s H vs Q E M nd h=>?_
 .obtain⟨r,a,dx,i,k,ns,rfl,T,L,hx,O,K⟩:=h;have W:bS 1 _:=M.mono byD;refine⟨_,(aJ (bh (bX (pv 0) Z.tD.cl Z.rL (nI Z).g W (nI Z).b .nil bq (af (mU (pv 0) Z.tD.cl Z.xQ (vn Z).g M (vn Z).b .nil bq) ay)))),?_⟩;refine⟨_,Y,T,Y,_,Y,T,Y,r,a,dx,i,ns,(k:Int),Y,T,L,hx,λH1 R W=>?_⟩;refine⟨r,a,dx,i+1,k,ns,Y,W,Nl L T R,O,λH2 D J P I S=>?_⟩;have N:H D=U:=by
   cases q:H D with
   |none=>rfl
   |some o=>
    by_cases z:D=r
    .rw[z,W]at S;cases S
    .rw[R D o q z]at S;cases S
  exact K H2 D (ig.trans R J) P I N
end
end Hs
end
section
namespace Hs
open PySem PySem.Spec PyProof.Rows L2
open Sh (Node Pat Fill)
structure SE where
 k:Nat
 r:aa
 dx:aa
 rt:aa
 rv:aa
 rx:aa
def SE.tb(e:SE):List Addr:=[e.rt,e.rv,e.rx]
structure SD where
 dx:aa
 pa:aa
 pr:aa
 se:aa
 sd:aa
 fr:aa
 vt:V
 as:List aa
 rs:List aa
 ss:List SE
 seen:List (fK×Nat)
 fk:List (Key×V)
def SD.X(d:SD)(s:aa):List Addr:=s::d.dx::d.pa::d.pr::d.se::d.sd::d.fr::d.ss.flatMap SE.tb
def Bx(X:List aa)(H:Hp)(P:Hp->Prop):Prop:=∀H',bg X H H'->P H'
theorem Bx.here(b:Bx X H P):P H:=b H bg.refl
def nV(X X':List aa)(H:Hp):Prop:=∀a∈X',a∈X\/H a=U
theorem Q0(k:bg X H H1)(s:nV X X' H)(Z:bg X' H1 H2):bg X H H2:=λb o e n=>by
 refine Z b o (k b o e n) λz=>?_;rcases s b z with y|y
 .exact n y
 .rw[e]at y;cases y
theorem WK(k:bg X H H1)(s:nV X X' H)(s':nV X' X'' H1):nV X X'' H:=λa ha=>by
 rcases s' a ha with y|y
 .exact s a y
 .by_cases z:a∈X
  .exact .inl z
  .right;cases e:H a with
   |none=>rfl
   |some o=>rw[k a o e z]at y;cases y
theorem Bx.on(b:Bx X H P)(k:bg X H H1)(s:nV X X' H):Bx X' H1 P:=λH2 Z=>b H2 (Q0 k s Z)
theorem SS(hx:∀b∈X,H1 b=U)(Z:∀H2,aG H1 H2->P H2):Bx X (i8 X H H1) P:=λH2 k=>Z H2 λb o e=>by
 have hb:b∉X:=λz=>by rw[hx b z]at e;cases e
 exact k b o (by rw[lK hb];exact e) hb
structure Tp(r:su):Prop where
 ip:pR r.pat=true
 lp:J r.pat<=32
 wr:nY 1 r.rep=true
 lr:J r.rep<=32
 hd:∀h,r.rep.head?≠O (.row h)
 ones:∀h,dN h∈r.rep->dN h∈r.pat
 rows:∀h,ie h∈r.rep->ie h∈r.pat
def o5(o:Option Nat):V:=match o with
 |none=>.az
 |some k=>.int (k:Nat)
def o4(d:SD):List (ak×V):=[("tree",d.vt),("patterns",.ref d.pa),("replacements",.ref d.pr),("searches",.ref d.se),("seen",.ref d.sd),("first_rules",.ref d.fr)]
inductive aew[aW](c:Cz)(X:List aa)(H:Hp)(x:fU)(d:SD)(tr:aa)(e:SE):Prop
 |mk(r q:_)(_:x.rules[e.k]?=O r)(_:d.as[e.k]?=O q)(_:Bx X H (λH=>H e.r=O (.ins c.iR e.dx (MN q tr e.rt e.rv e.rx))))(_:TabsAt x.tree r.pat H e.rt e.rv e.rx)
def aeo(c:Cz)(X:List aa)(H:Hp)(x:fU)(d:SD):Prop:=(x.tree=[]/\d.vt=.az/\d.ss=[]) \/
 ∃(S0:aW)(tr:aa),d.vt=.ref tr/\j8 1 x.tree=true/\J x.tree<=256/\seenOf x.tree=d.seen/\Bx X H (λH=>lP c.tree H tr x.tree)/\∀e∈d.ss,aew c X H x d tr e
def zb(x:fU)(d:SD):Prop:=pQ ((bA (J d.seen)).map λm:Nat=>(bx (m:Int):Key)) (λk v=>∀m:Nat,k=bx (m:Int)->v=o5 (ja x.rules (ud d.seen m))) d.fk
structure cg(c:Cz)(H:Hp)(s:aa)(x:fU)(n:Nat)(d:SD):Prop where
 ins:H s=O (.ins c.fE d.dx (o4 d))
 own:H d.dx=O (.own s)
 nd:(d.X s).Nodup
 hpa:H d.pa=O (.lst (d.as.map V.ref))
 jh:H d.pr=O (.lst (d.rs.map V.ref))
 hse:H d.se=O (.dK (d.ss.map λe=>(bx (e.k:Int),V.ref e.r)))
 iC:H d.sd=O (.dT (jA d.seen))
 hfr:H d.fr=O (.dK d.fk)
 qk:lQ d.seen
 ql:J d.seen<=256*n
 vE:n<=20000
 jU:J d.as=J x.rules
 lrs:J d.rs=J x.rules
 rl:J x.rules<=16
 rule:∀(k:Nat)(r:su),x.rules[k]?=O r->Tp r/\(∀q,d.as[k]?=O q->Bx (d.X s) H (λH=>pX c.pat c.gap H q r.pat))/\∀q,d.rs[k]?=O q->Bx (d.X s) H (λH=>sA c.rep H q r.rep)
 qY:(d.ss.map (·.k)).Nodup
 tree:aeo c (d.X s) H x d
 fst:zb x d
structure cE(H H':Hp)(s:aa)(d d':SD):Prop where
 kp:bg (d.X s) H H'
 sub:nV (d.X s) (d'.X s) H
theorem cE.trans(a:cE H H1 s d d1)(b:cE H1 H2 s d1 d2):cE H H2 s d d2:=⟨Q0 a.kp a.sub b.kp,WK a.kp a.sub b.sub⟩
theorem cE.refl:cE H H s d d:=⟨bg.refl,λa h=>.inl h⟩
theorem cE.of(k:aG H H'):cE H H' s d d:=⟨bg.of k,λa h=>.inl h⟩
section
variable{c:Cz}{H H':Hp}{s:Addr}{x:Sh.State}{n:Nat}{d:SD}
theorem DK(Z:e∈d.ss)(ha:a∈e.tb):a∈d.X s:=by unfold SD.X;simp only[bE];exact .inr (.inr (.inr (.inr (.inr (.inr (.inr (lS.mpr ⟨e,Z,ha⟩)))))))
theorem cg.tb(h:cg c H s x n d)(Z:e∈d.ss)(ha:a∈e.tb):∃k,H a=O (.dT k):=by
 rcases h.tree with⟨_,_,z⟩|⟨S0,tr,_,_,_,_,_,hs⟩
 .rw[z]at Z;cases Z
 .obtain⟨r,q,_,_,_,kt,kv,kx,T⟩:=hs e Z;simp only[SE.tb,bE,fH,fM]at ha;rcases ha with z|z|z
  .rw[z];exact⟨_,T.ht⟩
  .rw[z];exact⟨_,T.hv⟩
  .rw[z];exact⟨_,T.hx⟩
theorem cg.cut(h:cg c H s x n d):sO (d.X s) H:=by
 intro b hb;have Z:=hb;unfold SD.X at Z;simp only[bE]at Z;rcases Z with z|z|z|z|z|z|z|z
 .rw[z];exact⟨_,h.ins,by show d.dx∈d.X s;unfold SD.X;simp⟩
 .rw[z];exact⟨_,h.own,by show s∈d.X s;unfold SD.X;simp⟩
 .rw[z];exact⟨_,h.hpa,trivial⟩
 .rw[z];exact⟨_,h.jh,trivial⟩
 .rw[z];exact⟨_,h.hse,trivial⟩
 .rw[z];exact⟨_,h.iC,trivial⟩
 .rw[z];exact⟨_,h.hfr,trivial⟩
 .obtain⟨e,W,ha⟩:=lS.mp z;obtain⟨k,Y⟩:=h.tb W ha;exact⟨_,Y,trivial⟩
theorem TabsAt.on[aW](T:TabsAt t p H rt rv rx)(h:∀a∈[rt,rv,rx],H' a=H a):TabsAt t p H' rt rv rx:=by obtain⟨kt,kv,kx,T⟩:=T;exact⟨kt,kv,kx,T.ne,(h rt byB).trans T.ht,(h rv byB).trans T.hv,(h rx byB).trans T.hx,T.qg,T.qf,T.hop⟩
theorem cg.keep(h:cg c H s x n d)(kp:bg (d.X s) H H')(hx:∀a∈d.X s,H' a=H a):cg c H' s x n d:=by
 have Z:nV (d.X s) (d.X s) H:=λa h=>.inl h;have f:∀{a:aa}{o:HO},a∈d.X s->H a=O o->H' a=O o:=λha e=>(hx _ ha).trans e;refine⟨f (by unfold SD.X;simp) h.ins,f (by unfold SD.X;simp) h.own,h.nd,f (by unfold SD.X;simp) h.hpa,f (by unfold SD.X;simp) h.jh,f (by unfold SD.X;simp) h.hse,f (by unfold SD.X;simp) h.iC,f (by unfold SD.X;simp) h.hfr,h.qk,h.ql,h.vE,h.jU,h.lrs,h.rl,λk r e=>?_,h.qY,?_,h.fst⟩
 .obtain⟨I,J,K⟩:=h.rule k r e;exact⟨I,λq eq=>(J q eq).on kp Z,λq eq=>(K q eq).on kp Z⟩
 .rcases h.tree with z|⟨S0,tr,Q,R,S,T,U,W⟩
  .exact .inl z
  .refine .inr ⟨S0,tr,Q,R,S,T,U.on kp Z,λe Y=>?_⟩;obtain⟨r,q,L,M,N,P⟩:=W e Y;exact⟨r,q,L,M,N.on kp Z,P.on λa ha=>hx a (DK Y ha)⟩
theorem cg.same(h:cg c H s x n d)(k:aG H H'):cg c H' s x n d:=h.keep (bg.of k) λa ha=>by obtain⟨o,e,_⟩:=h.cut a ha;rw[e];exact k a o e
theorem WS(Z:(d.X s).Nodup)(M:e∈d.ss)(R:e'∈d.ss)(T:e.k≠e'.k):∀a∈e.tb,a∉e'.tb:=by
 unfold SD.X at Z;simp only[jL]at Z;have Z:=Z.2.2.2.2.2.2.2;intro a ha U;obtain⟨i,hi⟩:=jM M;obtain⟨j,N⟩:=jM R;obtain⟨W,P⟩:=cV.mp hi;obtain⟨Y,Q⟩:=cV.mp N;have O:=(List.pairwise_flatMap.mp Z).2;have S:i≠j:=λz=>by subst z;exact T (by rw[<-P,<-Q])
 rcases Nat.lt_or_gt_of_ne S with z|z
 .exact Ct.mp O i j W Y z a (by rw[P];exact ha) a (by rw[Q];exact U) rfl
 .exact Ct.mp O j i Y W z a (by rw[Q];exact U) a (by rw[P];exact ha) rfl
theorem WR(W:(d.ss.map (·.k)).Nodup)(S:e∈d.ss)(Z:e'∈d.ss)(h:e.k=e'.k):e=e':=by
 obtain⟨i,hi⟩:=jM S;obtain⟨j,Y⟩:=jM Z;obtain⟨T,Q⟩:=cV.mp hi;obtain⟨U,R⟩:=cV.mp Y;have:i=j:=by exact QB W (show(d.ss.map (·.k))[i]?=O e.k by rw[bM,hi];rfl) (by rw[bM,Y,h];rfl)
 subst this;rw[<-Q,<-R]
theorem cg.uU(h:cg c H s x n d)(W:e∈d.ss):∃(S0:aW)(r:su)(q tr:aa),d.vt=.ref tr/\x.rules[e.k]?=O r/\d.as[e.k]?=O q/\seenOf x.tree=d.seen/\j7 c.pat c.gap c.tree c.iR H e.r r.pat x.tree e.dx q tr e.rt e.rv e.rx /\
 ∀H',bg [e.rt,e.rv,e.rx] H H'->TabsAt x.tree r.pat H' e.rt e.rv e.rx->cg c H' s x n d/\cE H H' s d d:=by
 rcases h.tree with⟨_,_,z⟩|⟨S0,tr,z1,z2,z3,z4,z5,z6⟩
 .rw[z]at W;cases W
 .obtain⟨r,q,Q,L,I,J⟩:=z6 e W;obtain⟨R,w,_⟩:=h.rule e.k r Q;refine⟨S0,r,q,tr,z1,Q,L,z4,⟨⟨I.here,(w q L).here,z5.here⟩,J,⟨z2,R.ip,R.lp,z3⟩⟩,λH' k tb=>?_⟩;have T:bg (d.X s) H H':=λb o Y n=>k b o Y λz=>n (DK W z);have U:nV (d.X s) (d.X s) H:=λa h=>.inl h;have M:=h.nd;unfold SD.X at M;simp only[jL,bE,fS]at M;obtain⟨⟨a1,a2,a3,a4,a5,a6,i⟩,⟨b1,b2,b3,b4,b5,j⟩,⟨c1,c2,c3,c4,l⟩,⟨d1,d2,d3,m⟩,⟨e1,e2,p⟩,⟨f1,u⟩,v,hn⟩:=M;have f:∀{a:aa}{o:HO},a∉d.ss.flatMap SE.tb->H a=O o->H' a=O o:=λha Y=>k _ _ Y λz=>ha (lS.mpr ⟨e,W,z⟩);refine⟨⟨f i h.ins,f j h.own,h.nd,f l h.hpa,f m h.jh,f p h.hse,f u h.iC,f v h.hfr,h.qk,h.ql,h.vE,h.jU,h.lrs,h.rl,λy N Y=>?_,h.qY,?_,h.fst⟩,⟨T,U⟩⟩
  .obtain⟨B,C,D⟩:=h.rule y N Y;exact⟨B,λq eq=>(C q eq).on T U,λq eq=>(D q eq).on T U⟩
  .refine .inr ⟨S0,tr,z1,z2,z3,z4,z5.on T U,λY Z=>?_⟩;obtain⟨N,A,P,E,F,G⟩:=z6 Y Z;refine⟨N,A,P,E,F.on T U,?_⟩;by_cases K:Y.k=e.k
   .have:=WR h.qY Z W K;subst this;rw[Q]at P;have:=bH P;subst this;exact tb
   .refine G.on λa ha=>?_;have hd:=WS h.nd Z W K a ha;obtain⟨g,S⟩:=h.tb Z ha;rw[S];exact k a _ S hd
end
inductive Xf(c:Cz)(vs:List V)(H:Hp)(Q:VK)(E_:XK):Prop
 |mk(s dx:aa)(_:vs=[.ref s])(_:H s=O (.ins c.fE dx []))(_:H dx=O (.own s))(_:∀(H':Hp) (d:SD),ig s H H'->cg c H' s ⟨[],[]⟩ 0 d->(∀a∈d.X s,a=s\/a=dx\/H a=U)->Q .az H')
theorem abV(h:zb x d)(T:lQ d.seen)(e:d'.seen=d.seen++y)(O:d'.fk=d.fk)(P:x'.rules=x.rules):zb x' d':=by
 unfold zb at h ⊢;rw[O,e,P];refine⟨h.nd,λk R=>?_,λk v hv m U=>?_⟩
 .obtain⟨m,W,Y⟩:=kM.mp (h.sub k R);exact kM.mpr ⟨m,iB.mpr (by have:=iB.mp W;rw[fO];lia),Y⟩
 .have W:=h.val k v hv m U;have Y:=h.sub k (Vn hv);obtain⟨S,Q,Z⟩:=kM.mp Y;have:S=m:=by
   rw[U]at Z;injection Z with Z
   exact oO Z
  subst this;rw[W];congr 2;unfold ud;exact(Ss T y _ _ (iB.mp Q)).symm
inductive Xm(c:Cz)(vs:List V)(H:Hp)(Q:VK)(E_:XK):Prop
 |mk(s a:aa)(x:fU)(n:Nat)(d:SD)(t:List aO)(_:vs=[.ref s,.ref a])(_:cg c H s x n d)(_:H a=O (.lst (aq (c_ t))))(_:a∉d.X s)(_:j8 1 t=true)(_:J t<=256)(_:n<=10000)(_:∀(H':Hp) (d':SD),cE H H' s d d'->cg c H' s {x with tree:=t } (n+1) d'->Q .az H')
section
theorem PU(Z:HY):Ok 1 42 ["self"] (Xf zc):=by
 refine Z.Ku.Go ["self"] λcdv A outer s H vs Q E hr nd h=>?_
 .obtain⟨s,dx,rfl,hs,L,kk⟩:=h;refine⟨_,(aA (dP (pv 0) d7 Y)
   (aA (dP (pv 0) (dQ ay) Y)
   (aA (dP (pv 0) (dQ ay) Y)
   (aA (dP (pv 0) qv Y)
   (aA (dP (pv 0) AB Y)
   (aJ (dP (pv 0) qv Y))))))),?_⟩
  dsimp only[xk];refine⟨_,Y,hs,Z.tH,dI 0 Y,?_⟩;obtain⟨H1,S⟩:∃h,h=upd H s (.ins zc.fE dx (aR "tree" .az [])):=⟨_,Y⟩;rw[<-S];have d:H1 s=O (.ins zc.fE dx (aR "tree" .az [])):=by rw[S];exact aB
  have m:ig s H H1:=λb o e n=>by rw[S];exact aE n e
  refine⟨cI _,λpa hpa=>⟨_,Y,aE (aQ d hpa) d,Z.tH,dI 1 Y,?_⟩⟩;obtain⟨H2,F,f,k2,w2,R⟩:=mj (o:=.lst []) (fs':=aR "patterns" (.ref pa) (aR "tree" .az [])) d hpa;rw[<-F];clear F;refine⟨cI _,λpr jh=>⟨_,Y,aE (aQ f jh) f,Z.tH,dI 2 Y,?_⟩⟩;obtain⟨H3,G,g,u,w3,N⟩:=mj (o:=.lst []) (fs':=aR "replacements" (.ref pr) (aR "patterns" (.ref pa) (aR "tree" .az []))) f jh;rw[<-G];clear G;refine λse hse=>⟨_,Y,aE (aQ g hse) g,Z.tH,dI 3 Y,?_⟩;obtain⟨H4,I,j,w,w4,x⟩:=mj (o:=.dK []) (fs':=aR "searches" (.ref se) (aR "replacements" (.ref pr) (aR "patterns" (.ref pa) (aR "tree" .az [])))) g hse;rw[<-I];clear I;refine λsd iC=>⟨_,Y,aE (aQ j iC) j,Z.tH,dI 4 Y,?_⟩;obtain⟨H5,J,l,M,w5,v⟩:=mj (o:=.dT []) (fs':=aR "seen" (.ref sd) (aR "searches" (.ref se) (aR "replacements" (.ref pr) (aR "patterns" (.ref pa) (aR "tree" .az []))))) j iC;rw[<-J];clear J;refine λfr hfr=>⟨_,Y,aE (aQ l hfr) l,Z.tH,dI 5 Y,?_⟩;obtain⟨H6,K,h6,P,w6,n6⟩:=mj (o:=.dK []) (fs':=aR "first_rules" (.ref fr) (aR "seen" (.ref sd) (aR "searches" (.ref se) (aR "replacements" (.ref pr) (aR "patterns" (.ref pa) (aR "tree" .az [])))))) l hfr;rw[<-K];clear K;have W:dx≠s:=bZ L hs (by intro z;cases z);have q1:=m _ _ L W;have q2:=k2 _ _ q1 W;have q3:=u _ _ q2 W;have q4:=w _ _ q3 W;have q5:=M _ _ q4 W;have p3:=u _ _ w2 R;have p4:=w _ _ p3 R;have p5:=M _ _ p4 R;have r4:=w _ _ w3 N;have r5:=M _ _ r4 N;have t5:=M _ _ w4 x;have T:∀{b:aa}{c:Hp},ig s H c->b≠s->c b=U->H b=U:=λ{b c} k n e=>by
   cases q:H b with
   |none=>rfl
   |some o=>rw[k b o q n]at e;cases e
  have y:=m.trans k2;have B:=y.trans u;have C:=B.trans w;have D:=C.trans M;refine kk H6 ⟨dx,pa,pr,se,sd,fr,.az,[],[],[],[],[]⟩ (D.trans P) ⟨h6,P _ _ q5 W,?_,P _ _ p5 R,P _ _ r5 N,P _ _ t5 x,P _ _ w5 v,w6,⟨λi p h=>by simp at h,λi p h=>by simp at h⟩,aU _,byD,rfl,rfl,byD,λk r e=>by simp at e,p9,.inl ⟨rfl,rfl,rfl⟩,wV⟩ ?_
  .show(s::dx::pa::pr::se::sd::fr::[]).Nodup;simp only[jL,bE,fH,fM,fS,p9,B6,xK];exact⟨⟨cO W,cO R,cO N,cO x,cO v,cO n6⟩,⟨aQ q1 hpa,aQ q2 jh,aQ q3 hse,aQ q4 iC,aQ q5 hfr⟩,⟨aQ w2 jh,aQ p3 hse,aQ p4 iC,aQ p5 hfr⟩,⟨aQ w3 hse,aQ r4 iC,aQ r5 hfr⟩,⟨aQ w4 iC,aQ t5 hfr⟩,aQ w5 hfr⟩
  .intro a ha;have ha:a∈s::dx::pa::pr::se::sd::fr::[]:=ha;simp only[bE,fH,fM]at ha;rcases ha with z|z|z|z|z|z|z
   .exact .inl z
   .exact .inr (.inl z)
   .exact .inr (.inr (by rw[z];exact T m R hpa))
   .exact .inr (.inr (by rw[z];exact T y N jh))
   .exact .inr (.inr (by rw[z];exact T B x hse))
   .exact .inr (.inr (by rw[z];exact T C v iC))
   .exact .inr (.inr (by rw[z];exact T D n6 hfr))
theorem AK(Z:HY):Ok 4 43 ["self","numbers"] (Xm zc):=by
 have GT:=e_.cut (Px Z).g;refine Z.Ks.Go ["self","numbers"] λcdv A outer s H vs Q E hr nd h=>?_
 .obtain⟨s,a,x,n,d,t,rfl,h,ha,hz,hw,ht,hn,kk⟩:=h;refine⟨_,(aA (dP (pv 0) (vf Z.aaG GT hr byC Z.Fo (Px Z).b .nil bq (af (pv 1) (af (aC (pv 0)) ay))) Y)
   (aJ (dP (pv 0) qv Y))),?_⟩
  dsimp only[xk];refine⟨_,Y,_,Y,h.ins,Z.tH,Y,λtr dt u hy hD=>?_⟩;obtain⟨R,N⟩:∃R,R=s::d.dx::d.pa::d.pr::d.se::d.fr::d.ss.flatMap SE.tb:=⟨_,Y⟩;have nX:=h.nd;unfold SD.X at nX;simp only[jL,bE,fS]at nX;obtain⟨⟨a1,a2,a3,a4,a5,a6,a7⟩,⟨b1,b2,b3,b4,b5,b6⟩,⟨c1,c2,c3,c4,c5⟩,⟨d1,d2,d3,d4⟩,⟨e1,e2,e3⟩,⟨f1,f2⟩,g1,hE⟩:=nX;have T:∀b,b∈d.X s↔b∈R\/b=d.sd:=λb=>by
   rw[N];unfold SD.X;simp only[bE];constructor
   .rintro(z|z|z|z|z|z|z|z)
    .exact .inl (.inl z)
    .exact .inl (.inr (.inl z))
    .exact .inl (.inr (.inr (.inl z)))
    .exact .inl (.inr (.inr (.inr (.inl z))))
    .exact .inl (.inr (.inr (.inr (.inr (.inl z)))))
    .exact .inr z
    .exact .inl (.inr (.inr (.inr (.inr (.inr (.inl z))))))
    .exact .inl (.inr (.inr (.inr (.inr (.inr (.inr z))))))
   .rintro((z|z|z|z|z|z|z)|z)
    .exact .inl z
    .exact .inr (.inl z)
    .exact .inr (.inr (.inl z))
    .exact .inr (.inr (.inr (.inl z)))
    .exact .inr (.inr (.inr (.inr (.inl z))))
    .exact .inr (.inr (.inr (.inr (.inr (.inr (.inl z))))))
    .exact .inr (.inr (.inr (.inr (.inr (.inr (.inr z))))))
    .exact .inr (.inr (.inr (.inr (.inr (.inl z)))))
  have B:d.sd∉R:=by rw[N];simp only[bE,fS];exact⟨cO a5,cO b4,cO c3,cO d2,cO e1,f1,f2⟩
  obtain⟨Hm,hg⟩:∃h,h=upd (upd H dt (.own tr)) tr (.ins zc.tree dt []):=⟨_,Y⟩;rw[<-hg];have sm:aG H Hm:=λb o e=>by rw[hg];exact aE (aQ e u) (aE (aQ e hy) e)
  have i:sO R Hm:=by
   intro b hb;obtain⟨o,e,ck⟩:=h.cut b ((T b).mpr (.inl hb));refine⟨o,sm _ _ e,?_⟩;cases o with
   |ins C' hj hC=>
    have ck:hj∈d.X s:=ck;show hj∈R;rcases(T hj).mp ck with z|z
    .exact z
    .exfalso;have L:=hb;rw[N]at L;simp only[bE]at L;rcases L with y|y|y|y|y|y|y
     .rw[y,h.ins]at e;injection e with e
      injection e with _ e2 _
      exact B (by rw[<-z,<-e2,N];simp)
     .rw[y,h.own]at e;cases e
     .rw[y,h.hpa]at e;cases e
     .rw[y,h.jh]at e;cases e
     .rw[y,h.hse]at e;cases e
     .rw[y,h.hfr]at e;cases e
     .obtain⟨e',j,c⟩:=lS.mp y;obtain⟨hu,w⟩:=h.tb j c;rw[w]at e;cases e
   |own y=>
    have ck:y∈d.X s:=ck;show y∈R;rcases(T y).mp ck with z|z
    .exact z
    .exfalso;have L:=hb;rw[N]at L;simp only[bE]at L;rcases L with G|G|G|G|G|G|G
     .rw[G,h.ins]at e;cases e
     .rw[G,h.own]at e;injection e with e
      injection e with e
      exact B (by rw[<-z,<-e,N];simp)
     .rw[G,h.hpa]at e;cases e
     .rw[G,h.jh]at e;cases e
     .rw[G,h.hse]at e;cases e
     .rw[G,h.hfr]at e;cases e
     .obtain⟨e',j,c⟩:=lS.mp G;obtain⟨hu,w⟩:=h.tb j c;rw[w]at e;cases e
   |lst _=>trivial
   |dK _=>trivial
   |dT _=>trivial
   |_=>exact ck.elim
  have D:∀{b:aa}{o:HO},b∉R->Hm b=O o->iY R Hm b=O o:=λhb e=>by rw[iM hb];exact e
  have hA:a∉R:=λz=>hz ((T a).mpr (.inl z));have hm:tr∉R:=λz=>by obtain⟨o,e,_⟩:=h.cut tr ((T tr).mpr (.inl z));rw[u]at e;cases e
  refine⟨R,i,⟨d.seen,h.qk⟩,tr,a,d.sd,dt,t,Y,D hm (by rw[hg];exact aB),D hA (sm _ _ ha),D B (sm _ _ h.iC),by have:=h.ql;show J d.seen<=_;lia,hw,ht,λH1 hp I hk hl=>⟨rfl,?_⟩⟩;obtain⟨S0,hq⟩:∃S0:aW,S0=⟨d.seen,h.qk⟩:=⟨_,Y⟩;rw[<-hq]at hp I;obtain⟨M,hM⟩:∃M,M=i8 R Hm H1:=⟨_,Y⟩;rw[<-hM];have Min:∀{b:aa}{o:HO},b∈R->H b=O o->M b=O o:=λhb e=>by rw[hM,pD hb];exact sm _ _ e
  have l:∀{b:aa},b∉R->M b=H1 b:=λhb=>by rw[hM,lK hb]
  have sX:s∈R:=by rw[N];simp
  have hB:=Min sX h.ins;refine⟨_,Y,hB,Z.tH,dI 6 Y,?_⟩;obtain⟨Ma,hf⟩:∃h,h=upd M s (.ins zc.fE d.dx (aR "tree" (.ref tr) (o4 d))):=⟨_,Y⟩;rw[<-hf];have v:Ma s=O (.ins zc.fE d.dx (aR "tree" (.ref tr) (o4 d))):=by rw[hf];exact aB
  have p:∀{b:aa},b≠s->Ma b=M b:=λhb=>by rw[hf];exact bO hb
  refine λse hse=>?_;refine⟨_,Y,aE (aQ v hse) v,Z.tH,dI 6 Y,?_⟩;obtain⟨H2,hs,hx,k2,w2,n2⟩:=mj (o:=.dK []) (fs':=aR "searches" (.ref se) (aR "tree" (.ref tr) (o4 d))) v hse;rw[<-hs];clear hs;have C:se∉R:=λz=>by obtain⟨o,e,_⟩:=h.cut se ((T se).mpr (.inl z));rw[p n2,Min z e]at hse;cases hse
  have P:H1 se=U:=by rw[<-l C,<-p n2];exact hse
  have g:∀{b:aa}{o:HO},b∈R->b≠s->H b=O o->H2 b=O o:=λhb n e=>k2 _ _ (by rw[p n];exact Min hb e) n;have hh:∀{b:aa}{o:HO},H1 b=O o->H2 b=O o:=λ{b o} e=>by
   have hb:b∉R:=λz=>by rw[hl b z]at e;cases e
   have n:b≠s:=λz=>hb (by rw[z];exact sX);exact k2 _ _ (by rw[p n,l hb];exact e) n
  have kX:bg (d.X s) H H2:=λb o e n=>by have hb:b∉R:=λz=>n ((T b).mpr (.inl z));have f:b≠d.sd:=λz=>n ((T b).mpr (.inr z));refine hh (hk b o (D hb (sm _ _ e)) ?_);simp only[bE,fH,fM,fS];exact⟨aQ e u,f⟩
  have m:H se=U:=by
   cases q:H se with
   |none=>rfl
   |some o=>
    exfalso;by_cases z:se∈d.X s
    .rcases(T se).mp z with y|y
     .exact C y
     .rw[y,I]at P;cases P
    .have f:se≠d.sd:=λy=>z ((T se).mpr (.inr y));have:=hk se o (D C (sm _ _ q)) (by simp only[bE,fH,fM,fS];exact⟨aQ q u,f⟩);rw[this]at P;cases P
  obtain⟨d',W⟩:∃d':SD,d'=⟨d.dx,d.pa,d.pr,se,d.sd,d.fr,.ref tr,d.as,d.rs,[],seenOf t,d.fk⟩:=⟨_,Y⟩;have hc:d'.X s=s::d.dx::d.pa::d.pr::se::d.sd::d.fr::[]:=by rw[W];rfl
  have K:∀{b:aa},b∈s::d.dx::d.pa::d.pr::d.se::d.fr::d.ss.flatMap SE.tb->b∈R:=λz=>by rw[N];exact z
  have sub:nV (d.X s) (d'.X s) H:=by
   intro b hb;rw[hc]at hb;simp only[bE,fH,fM]at hb;rcases hb with z|z|z|z|z|z|z
   .exact .inl ((T b).mpr (.inl (K (by rw[z];simp))))
   .exact .inl ((T b).mpr (.inl (K (by rw[z];simp))))
   .exact .inl ((T b).mpr (.inl (K (by rw[z];simp))))
   .exact .inl ((T b).mpr (.inl (K (by rw[z];simp))))
   .right;rw[z];exact m
   .exact .inl ((T b).mpr (.inr z))
   .exact .inl ((T b).mpr (.inl (K (by rw[z];simp))))
  have ho:=hh I;have F:∀{b:aa}{o:HO},H b=O o->b≠se:=λe=>aQ e m;obtain⟨y,ey,ly⟩:=Yk t;have hi:S0.seen=d.seen:=fq (λS:aW=>S.seen) hq;rw[hi]at ey;refine kk H2 d' ⟨kX,sub⟩ ⟨by rw[W];exact hx,by rw[W];exact g (K byB) (cO a1) h.own,?_,by rw[W];exact g (K byB) (cO a2) h.hpa,by rw[W];exact g (K byB) (cO a3) h.jh,by rw[W];exact w2,by rw[W];exact ho,by rw[W];exact g (K byB) (cO a6) h.hfr,by rw[W];exact Nq hw,?_,byA,by rw[W];exact h.jU,by rw[W];exact h.lrs,h.rl,?_,by rw[W];exact p9,?_,?_⟩
  .rw[hc];simp only[jL,bE,fH,fM,fS,p9,B6,xK];exact⟨⟨a1,a2,a3,F h.ins,a5,a6⟩,⟨b1,b2,F h.own,b4,b5⟩,⟨c1,F h.hpa,c3,c4⟩,⟨F h.jh,d2,d3⟩,⟨cO (F h.iC),cO (F h.hfr)⟩,f1⟩
  .rw[W];show(seenOf t).length<=256*(n+1);rw[ey,fO];have:=h.ql;lia
  .intro k r e;obtain⟨q1,q2,q3⟩:=h.rule k r e;exact⟨q1,λq eq=>(q2 q (by rw[W]at eq;exact eq)).on kX sub,λq eq=>(q3 q (by rw[W]at eq;exact eq)).on kX sub⟩
  .refine .inr ⟨S0,tr,by rw[W],hw,ht,by rw[W],?_,λe he=>by rw[W]at he;cases he⟩;intro H3 k3;refine lP.nt hp λb o e nT=>?_;have hb:b∉R:=λz=>by rw[hl b z]at e;cases e
   refine k3 b o (hh e) ?_;rw[hc];simp only[bE,fH,fM,fS];refine⟨λz=>hb (K (by rw[z];simp)),λz=>hb (K (by rw[z];simp)),λz=>hb (K (by rw[z];simp)),λz=>hb (K (by rw[z];simp)),aQ e P,λz=>?_,λz=>hb (K (by rw[z];simp))⟩;rw[z,I]at e;injection e with e
   exact nT _ e.symm
  .exact abV h.fst h.qk (by rw[W];exact ey) (by rw[W]) rfl
end
theorem cg.mono(h:cg c H s x n d)(Y:n<=m)(Z:m<=20000:=by lia):cg c H s x m d:=
 ⟨h.ins,h.own,h.nd,h.hpa,h.jh,h.hse,h.iC,h.hfr,h.qk,by have:=h.ql;lia,Z,h.jU,h.lrs,h.rl,h.rule,h.qY,h.tree,h.fst⟩
theorem VP(h:lX ns=0):J ns<=768/\iX ns=true/\(aH 0 ns).any (λk=>decide (k≠0))=false:=by
 unfold lX at h;split at h
 .cases h
 .split at h
  .cases h
  .split at h
   .cases h
   .rename_i a b c;exact⟨byA,by simpa using b,by simpa using c⟩
inductive XR(c:Cz)(vs:List V)(H:Hp)(Q:VK)(E_:XK):Prop
 |mk(s a:aa)(x:fU)(n:Nat)(d:SD)(ns:List Int)(_:vs=[.ref s,.ref a])(_:cg c H s x n d)(_:H a=O (.lst (bF ns)))(_:a∉d.X s)(_:(∀n∈ns,0<=n))(_:J ns<=30000)(_:n<=10000)(_:∀(H':Hp) (d':SD),cE H H' s d d'->cg c H' s (cX x (.tree (nats ns))).1 (n+1) d'->Q (.int (lX ns)) H')
inductive XX(c:Cz)(vs:List V)(H:Hp)(Q:VK)(E_:XK):Prop
 |mk(s a b:aa)(x:fU)(n:Nat)(d:SD)(ps rs:List Int)(_:vs=[.ref s,.ref a,.ref b])(_:cg c H s x n d)(_:H a=O (.lst (bF ps)))(_:H b=O (.lst (bF rs)))(_:a∉d.X s)(_:b∉d.X s)(_:(∀n∈ps,0<=n))(_:(∀n∈rs,0<=n))(_:∀(H':Hp) (d':SD),cE H H' s d d'->cg c H' s (cX x (.rule (nats ps) (nats rs))).1 n d'->Q (.int (cX x (.rule (nats ps) (nats rs))).2.ret) H')
theorem Yr(T:∀n∈ps,0<=n)(U:∀n∈rs,0<=n)(h:je ps rs=0):Tp ⟨bY ps,bY rs⟩:=by
 obtain⟨S,W,J⟩:=Ox T h;have I:=xD S T;have Q:=xD W U;have G:=(o6.mp S).1;have H:=(o6.mp W).1;have Z:∀q∈fj rs,q∈fj ps:=by
  unfold je at h;split at h
  .cases h
  .split at h
   .rename_i L;intro q N;have:=qa.mp L q N;simpa using this
   .cases h
 refine⟨J,by show(bY ps).length<=32;rw[I.len];lia,Q.whole,by show(bY rs).length<=32;rw[Q.len];lia,λg e=>?_,λg e=>?_,λg e=>?_⟩
 .have e:(bY rs).head? = O (.row g):=e;have K:=(o6.mp W).2.2.1;have P:=(HF (l:=aH 0 rs) λn M=>U n (uR M)).mp K;rw[<-Q.kinds,bM,<-Ue,e]at P;exact P Y
 .have:=Z ((g:Int),1) ((mu W U _ _).mpr ⟨g,Y,.inl ⟨Y,e⟩⟩);obtain⟨R,e1,e2⟩:=(mu S T _ _).mp this;have:g=R:=oO e1;subst this;rcases e2 with⟨_,y⟩|⟨y,_⟩
  .exact y
  .cases y
 .have:=Z ((g:Int),2) ((mu W U _ _).mpr ⟨g,Y,.inr ⟨Y,e⟩⟩);obtain⟨R,e1,e2⟩:=(mu S T _ _).mp this;have:g=R:=oO e1;subst this;rcases e2 with⟨y,_⟩|⟨_,y⟩
  .cases y
  .exact y
theorem QH(Z:aG H Hm)(Y:H q=U)(kp:ig q (iY X Hm) H1):bg X H (i8 X Hm H1):=λb o e n=>by rw[lK n];exact kp b o (by rw[iM n];exact Z _ _ e) (aQ e Y)
section
theorem Ql(Z:HY):Ok 5 44 ["self","numbers"] (XR zc):=by
 refine Z.Kr.Go ["self","numbers","refusal"] λcdv A outer s H vs Q E K nd h=>?_
 .obtain⟨s,a,x,n,d,ns,rfl,h,ha,O,U,S,J,L⟩:=h;have P:bS 2 _:=K.mono byD;refine⟨_,(aA (bN 2 nd (mW (Py Z).g P byC Z.Ff Z.F1.kp (Py Z).b .nil bq (af (pv 1) ay)))
   (aA (bT (bK eW (pv 2) aK (bB _)) (aJ (iW (bX (pv 0) Z.tH.cl Z.A8 (AK Z).g K (AK Z).b .nil bq (af (pv 1) ay)))) b8)
   (aJ (bh (pv 2))))),?_⟩
  refine⟨_,Y,a,ns,Y,aj.of ha,U,S,λH1 s1=>?_⟩;have W:=LZ (x:=x) U;refine gn ?_;dsimp only;refine⟨_,Y,Y,_,Y,?_⟩;by_cases e:lX ns=0
  .obtain⟨F,M,I⟩:=VP e;rw[bJ (show V.int (lX ns)=V.int 0 by rw[e])];have T:=YB M U I;have hl:=Qw M;refine bR ⟨_,Y,(h.same s1).ins,Y,_,Y,s,a,x,n,d,kZ ns,Y,h.same s1,by rw[<-T];exact s1 _ _ ha,O,Zt M,byA,J,λH2 G R N=>?_⟩;refine⟨_,Y,?_⟩;rw[aD e]at W;refine L H2 G ((cE.of s1).trans R) ?_;rw[W];exact N
  .refine dD (show ¬V.int (lX ns)=V.int 0 by intro y;injection y with y;exact e y) ⟨_,rfl,?_⟩;rw[ao e]at W;refine L H1 d (cE.of s1) ?_;rw[W];exact(h.same s1).mono byA
theorem Qp(Z:HY):Ok 6 45 ["self","pattern","replacement"] (XX zc):=by
 have GP:=e_.cut (P1 Z).g;have GL:=e_.cut (vo Z Z.tR).g;refine Z.Kq.Go ["self","pattern","replacement","refusal"] λcdv A outer s H vs Q E hr nd h=>?_
 .obtain⟨s,a,b,x,n,d,ps,rs,rfl,h,ha,hb,h',hs,C,D,kk⟩:=h;have h3:bS 4 _:=hr.mono byD;have h4:bS 2 _:=hr.mono byD;obtain⟨t3,g3⟩:=Z.GG.rules;refine⟨_,(aA (bN 3 nd (mW (PY Z).g h3 byC Z.Fg Z.CY.kp (PY Z).b .nil bq (af (pv 1) (af (pv 2) ay))))
   (aA (bT (bK lI (pv 3) aK (bB _)) (aJ (bh (pv 3))) b8)
   (aA (bT (bK eW (fy iN byC Z.B.len PySem.boot_len (af (aC (pv 0)) ay)) (eY (v:=.int 16) byC g3 ⟨_,Y⟩) (bB _)) (aJ (bh (kD kB aK))) b8)
   (aA (iW (kY PySem.F.plainAttrs_list PySem.F.slot_list_append PySem.F.type_list_append pC (aC (pv 0)) (af (vf Z.aaL GP hr byC Z.Fw (P1 Z).b .nil bq (af (pv 1) ay)) ay)))
   (aA (iW (kY PySem.F.plainAttrs_list PySem.F.slot_list_append PySem.F.type_list_append pC (aC (pv 0)) (af (vf Z.aaJ GL h4 byC Z.Ft (vo Z Z.tR).b .nil bq (af (pv 2) ay)) ay)))
   (aA (dP (pv 0) qv Y)
   (aJ (bh (dh rD (fy iN byC Z.B.len PySem.boot_len (af (aC (pv 0)) ay)) aK))))))))),?_⟩
  dsimp only[xk];have T:=Ov (x:=x) C D;refine⟨_,Y,_,Y,a,b,ps,rs,Y,aj.of ha,aj.of hb,C,D,λH1 s1=>?_⟩;refine gn ?_;dsimp only;have L:=h.same s1;refine⟨_,Y,Y,_,Y,?_⟩;by_cases e:je ps rs=0
  .rw[bJ (show V.int (je ps rs)=V.int 0 by rw[e])];refine cJ ?_;refine fY ?_;dsimp only;rw[ao (λz=>z e)]at T;refine⟨_,Y,L.ins,Z.tH,Y,.inl (aj.of L.hpa),Y,_,Y,?_⟩;rw[aM,h.jU];by_cases hl:J x.rules=16
   .rw[bJ (show V.int ((J x.rules:Nat):Int)=V.int 16 by rw[hl];rfl)];rw[aD byA]at T;refine bR ?_;have:=kk H1 d (cE.of s1) (by rw[T];exact L);rw[T]at this;exact⟨_,Y,this⟩
   .rw[bP (show ¬V.int ((J x.rules:Nat):Int)=V.int 16 by intro y;injection y with y;lia)];have gl:=h.rl;rw[ao byA]at T;refine cJ ?_;refine fY ?_;dsimp only;have RO:=Yr C D e;obtain⟨hM,hw,gg⟩:=Ox C e;have nX:=h.nd;unfold SD.X at nX;simp only[jL,bE,fS]at nX;obtain⟨⟨a1,a2,a3,a4,a5,a6,a7⟩,⟨b1,b2,b3,b4,b5,b6⟩,⟨c1,c2,c3,c4,c5⟩,⟨d1,d2,d3,d4⟩,⟨e1,e2,e3⟩,⟨f1,f2⟩,g1,h6⟩:=nX;have iS:s∈d.X s:=by unfold SD.X;simp
    have hZ:d.dx∈d.X s:=by unfold SD.X;simp
    have i:d.pa∈d.X s:=by unfold SD.X;simp
    have hp:d.pr∈d.X s:=by unfold SD.X;simp
    have hX:d.se∈d.X s:=by unfold SD.X;simp
    have hY:d.sd∈d.X s:=by unfold SD.X;simp
    refine⟨_,Y,L.ins,Z.tH,Y,.inl ⟨Y,_,aj.of L.hpa⟩,_,Y,λq dq hq h7 gi=>?_⟩;obtain⟨Hm,hu⟩:∃h,h=upd (upd H1 dq (.own q)) q (.ins zc.pat dq []):=⟨_,Y⟩;rw[<-hu];have sm:aG H1 Hm:=λb o e=>by rw[hu];exact aE (aQ e hq) (aE (aQ e h7) e)
    have fX:∀{b:aa},H1 b=U->b∉d.X s:=λe z=>by obtain⟨o,P,_⟩:=L.cut _ z;rw[e]at P;cases P
    refine⟨d.X s,(L.same sm).cut,q,a,dq,ps,Y,by rw[iM (fX hq),hu];exact aB,by rw[iM h'];exact sm _ _ (s1 _ _ ha),C,hM,λH2 hP hU h2=>⟨Y,?_⟩⟩;obtain⟨M1,hf⟩:∃M,M=i8 (d.X s) Hm H2:=⟨_,Y⟩;rw[<-hf];have hA:bg (d.X s) H1 M1:=by rw[hf];exact QH sm hq hU
    have R:∀{b:aa}{o:HO},b∈d.X s->H1 b=O o->M1 b=O o:=λhb e=>by rw[hf,pD hb];exact sm _ _ e
    have gf:Bx (d.X s) M1 (λH=>pX zc.pat zc.gap H q (bY ps)):=by rw[hf];exact SS h2 λH' s'=>hP.same s'
    refine⟨d.pa,_,_,Y,Y,R i L.hpa,by rw[aM,h.jU,c8];lia,?_⟩;obtain⟨M2,hc⟩:∃M,M=upd M1 d.pa (.lst (d.as.map V.ref++[.ref q])):=⟨_,Y⟩;rw[<-hc];have u:∀{b:aa},b≠d.pa->M2 b=M1 b:=λhb=>by rw[hc];exact bO hb
    have hz:M2 d.pa=O (.lst (d.as.map V.ref++[.ref q])):=by rw[hc];exact aB
    have hL:M2 s=O (.ins zc.fE d.dx (o4 d)):=by rw[u a2];exact R iS L.ins
    have hg:M2 d.pr=O (.lst (d.rs.map V.ref)):=by rw[u (cO c1)];exact R hp L.jh
    refine⟨_,Y,hL,Z.tH,Y,.inl ⟨Y,_,aj.of hg⟩,_,Y,λP de w h8 gj=>?_⟩;obtain⟨Hn,ht⟩:∃h,h=upd (upd M2 de (.own P)) P (.ins zc.rep de []):=⟨_,Y⟩;rw[<-ht];have sn:aG M2 Hn:=λb o e=>by rw[ht];exact aE (aQ e w) (aE (aQ e h8) e)
    have hK:sO (d.X s) M2:=by
     intro b hb;by_cases z:b=d.pa
     .rw[z];exact⟨_,hz,trivial⟩
     .obtain⟨o,eo,ck⟩:=L.cut b hb;exact⟨o,by rw[u z];exact R hb eo,ck⟩
    have gc:sO (d.X s) Hn:=by intro b hb;obtain⟨o,eo,ck⟩:=hK b hb;exact⟨o,sn _ _ eo,ck⟩
    have gb:∀{b:aa},M2 b=U->b∉d.X s:=λe z=>by obtain⟨o,P,_⟩:=hK _ z;rw[e]at P;cases P
    have h9:M2 b=O (.lst (bF rs)):=by rw[u (λz=>hs (by rw[z];exact i))];exact hA _ _ (s1 _ _ hb) hs
    have PR:=xD hw D;obtain⟨gh,hQ,_,_⟩:=o6.mp hw;obtain⟨hO,hN⟩:=rG.mp hQ;have th:∀k,aH k (nats rs)=nats (aH k rs):=λk=>lD _ _ _;have hC:J (nats rs)=J rs:=by unfold nats;simp
    refine⟨d.X s,gc,P,b,de,nats rs,Y,by rw[iM (gb w),ht];exact aB,by rw[iM hs,sn _ _ h9,DC D],by rw[hC];exact hO,by rw[th];exact hN,by rw[hC];lia,λH3 ki la rr ra rp y1 y2 y3 y4 hT h0=>⟨rfl,?_⟩⟩;obtain⟨M3,c⟩:∃M,M=i8 (d.X s) Hn H3:=⟨_,Y⟩;rw[<-c];have hV:bg (d.X s) M2 M3:=by rw[c];exact QH sn w hT
    have G:∀{b:aa}{o:HO},b∈d.X s->M2 b=O o->M3 b=O o:=λhb e=>by rw[c,pD hb];exact sn _ _ e
    have ga:sA zc.rep H3 P (bY rs):=by
     refine⟨de,ki,la,rr,ra,rp,?_,?_,?_,?_⟩
     .rw[th,<-PR.kids,g_]at y1;exact y1
     .rw[th,<-PR.kids]at y4;exact y4
     .rw[th,<-PR.kinds]at y2;exact y2
     .rw[th,<-PR.dS]at y3;exact y3
    have gd:Bx (d.X s) M3 (λH=>sA zc.rep H P (bY rs)):=by rw[c];exact SS h0 λH' s'=>ga.same s'
    refine⟨d.pr,_,_,Y,Y,G hp hg,by rw[aM,h.lrs,c8];lia,?_⟩;obtain⟨l,f⟩:∃M,M=upd M3 d.pr (.lst (d.rs.map V.ref++[.ref P])):=⟨_,Y⟩;rw[<-f];have hJ:∀{b:aa},b≠d.pr->l b=M3 b:=λhb=>by rw[f];exact bO hb
    have hy:l d.pr=O (.lst (d.rs.map V.ref++[.ref P])):=by rw[f];exact aB
    have I:∀{b:aa}{o:HO},b∈d.X s->b≠d.pa->b≠d.pr->H1 b=O o->l b=O o:=λhb m p e=>by rw[hJ p];exact G hb (by rw[u m];exact R hb e)
    have hj:=I iS a2 a3 L.ins;have hh:l d.pa=O (.lst (d.as.map V.ref++[.ref q])):=by rw[hJ c1];exact G i hz
    have hn:bg (d.X s) M3 l:=by rw[f];exact bg.refl.upd hp
    have hW:bg (d.X s) M1 M2:=by rw[hc];exact bg.refl.upd i
    have ho:bg (d.X s) M1 l:=(hW.trans hV).trans hn;have N:bg (d.X s) H l:=λb o e n=>ho b o (hA b o (s1 b o e) n) n;refine λfr hfr=>?_;refine⟨_,Y,aE (aQ hj hfr) hj,Z.tH,dI 6 Y,?_⟩;obtain⟨H5,hG,hB,k5,w5,n5⟩:=mj (o:=.dK []) (fs':=aR "first_rules" (.ref fr) (o4 d)) hj hfr;rw[<-hG];clear hG;have hH:fr∉d.X s:=λz=>by
     by_cases m:fr=d.pa
     .rw[m,hh]at hfr;cases hfr
     .by_cases p:fr=d.pr
      .rw[p,hy]at hfr;cases hfr
      .obtain⟨o,eo,_⟩:=L.cut fr z;rw[I z m p eo]at hfr;cases hfr
    have hI:∀{Hx:Hp},bg (d.X s) Hx l->Hx fr=U:=λ{Hx} k=>by
     cases q:Hx fr with
     |none=>rfl
     |some o=>rw[k fr o q hH]at hfr;cases hfr
    have hm:bg (d.X s) l H5:=λb o e n=>k5 b o e λz=>n (by rw[z];exact iS);have j:∀{b:aa}{o:HO},b∈d.X s->b≠s->b≠d.pa->b≠d.pr->H b=O o->H5 b=O o:=λhb z0 m p e=>k5 _ _ (I hb m p (s1 _ _ e)) z0;have hx:=k5 _ _ hh (cO a2);have hR:=k5 _ _ hy (cO a3);refine⟨_,Y,hB,Z.tH,Y,.inl (aj.of hx),_,_,Y,Y,?_⟩;obtain⟨d',W⟩:∃d':SD,d'=⟨d.dx,d.pa,d.pr,d.se,d.sd,fr,d.vt,d.as++[q],d.rs++[P],d.ss,d.seen,[]⟩:=⟨_,Y⟩;have hF:d'.X s=s::d.dx::d.pa::d.pr::d.se::d.sd::fr::d.ss.flatMap SE.tb:=by rw[W];rfl
    have sub:∀{Hx:Hp},bg (d.X s) Hx l->nV (d.X s) (d'.X s) Hx:=λk b hb=>by
     rw[hF]at hb;by_cases z:b=fr
     .right;rw[z];exact hI k
     .left;unfold SD.X;simp only[bE]at hb ⊢;rcases hb with y|y|y|y|y|y|y|y
      .exact .inl y
      .exact .inr (.inl y)
      .exact .inr (.inr (.inl y))
      .exact .inr (.inr (.inr (.inl y)))
      .exact .inr (.inr (.inr (.inr (.inl y))))
      .exact .inr (.inr (.inr (.inr (.inr (.inl y)))))
      .exact absurd y z
      .exact .inr (.inr (.inr (.inr (.inr (.inr (.inr y))))))
    have K:=N.trans hm;have S:∀{b:aa}{o:HO},H b=O o->b≠fr:=λe=>aQ e (hI N);have hE:cg zc H5 s {x with rules:=x.rules++[⟨bY ps,bY rs⟩] } n d':=by
     refine⟨by rw[W];exact hB,by rw[W];exact j hZ (cO a1) b1 b2 h.own,?_,by rw[W];show _=O (HO.lst ((d.as++[q]).map V.ref));rw[dw];exact hx,by rw[W];show _=O (HO.lst ((d.rs++[P]).map V.ref));rw[dw];exact hR,by rw[W];exact j hX (cO a4) (cO c2) (cO d1) h.hse,by rw[W];exact j hY (cO a5) (cO c3) (cO d2) h.iC,by rw[W];exact w5,by rw[W];exact h.qk,by rw[W];exact h.ql,h.vE,by rw[W];simp[h.jU],by rw[W];simp[h.lrs],byE,?_,by rw[W];exact h.qY,?_,by rw[W];exact wV⟩
     .rw[hF];have hS:fr∉d.ss.flatMap SE.tb:=λz=>hH (by unfold SD.X;simp only[bE];exact .inr (.inr (.inr (.inr (.inr (.inr (.inr z)))))));simp only[jL,bE,fS];exact⟨⟨a1,a2,a3,a4,a5,S h.ins,a7⟩,⟨b1,b2,b3,b4,S h.own,b6⟩,⟨c1,c2,c3,S h.hpa,c5⟩,⟨d1,d2,S h.jh,d4⟩,⟨e1,S h.hse,e3⟩,⟨S h.iC,f2⟩,hS,h6⟩
     .intro k r ek;rcases cY k (J x.rules) with z|z
      .have ek:(x.rules++[⟨bY ps,bY rs⟩])[k]?=O r:=ek;rw[fJ z]at ek;obtain⟨q1,q2,q3⟩:=h.rule k r ek;refine⟨q1,λq eq=>(q2 q ?_).on K (sub N),λq eq=>(q3 q ?_).on K (sub N)⟩
       .rw[W]at eq;have eq:(d.as++_)[k]?=O q:=eq
        rwa [fJ (by rw[h.jU];exact z)]at eq
       .rw[W]at eq;have eq:(d.rs++_)[k]?=O q:=eq
        rwa [fJ (by rw[h.lrs];exact z)]at eq
      .have ek:(x.rules++[⟨bY ps,bY rs⟩])[k]?=O r:=ek;have hk:k=J x.rules:=by have:=(cV.mp ek).1;simp at this;lia
       subst hk;rw[kq (aU _)]at ek;have h5:r=⟨bY ps,bY rs⟩:=by simpa using ek.symm
       subst h5;refine⟨RO,λq' eq=>?_,λq' eq=>?_⟩
       .rw[W]at eq;have eq:(d.as++[q])[J x.rules]?=O q':=eq;rw[<-h.jU,kq (aU _)]at eq;have:q'=q:=by simpa using eq.symm
        subst this;exact gf.on (ho.trans hm) (sub ho)
       .rw[W]at eq;have eq:(d.rs++[P])[J x.rules]?=O q':=eq;rw[<-h.lrs,kq (aU _)]at eq;have:q'=P:=by simpa using eq.symm
        subst this;exact gd.on (hn.trans hm) (sub hn)
     .rcases h.tree with⟨m,p,z3⟩|⟨S0,tr,m,p,z3,z4,z5,z6⟩
      .exact .inl ⟨m,by rw[W];exact p,by rw[W];exact z3⟩
      .refine .inr ⟨S0,tr,by rw[W];exact m,p,z3,by rw[W];exact z4,z5.on K (sub N),λe w=>?_⟩;rw[W]at w;have w:e∈d.ss:=w;obtain⟨r,q',u1,u2,u3,u4⟩:=z6 e w;have hD:=(cV.mp u1).1;refine⟨r,q',?_,?_,u3.on K (sub N),u4.on λa ha=>?_⟩
       .show(x.rules++_)[e.k]?=_;rw[fJ hD];exact u1
       .rw[W];show(d.as++_)[e.k]?=_;rw[fJ (by rw[h.jU];exact hD)];exact u2
       .obtain⟨gk,hi⟩:=h.tb w ha;have iA:a∈d.X s:=DK w ha;rw[hi];have iT:a∈d.ss.flatMap SE.tb:=lS.mpr ⟨e,w,ha⟩;exact j iA (λz=>a7 (by rw[<-z];exact iT)) (λz=>c5 (by rw[<-z];exact iT)) (λz=>d4 (by rw[<-z];exact iT)) hi
    have:=kk H5 d' ⟨K,sub N⟩ (by rw[T];exact hE);rw[T]at this;have ev:((J (d.as.map V.ref++[V.ref q]):Nat):Int)-1=((J x.rules:Nat):Int):=by rw[fO,aM,h.jU];simp
    dsimp only;rw[ev];exact this
  .rw[bP (show ¬V.int (je ps rs)=V.int 0 by intro y;injection y with y;exact e y)];rw[aD e]at T;refine bR ⟨_,Y,?_⟩;have:=kk H1 d (cE.of s1) (by rw[T];exact L);rw[T]at this;exact this
end
theorem ML(k:Nat):∀ss:List SE,(∃e∈ss,e.k=k/\bU (ss.map λe=>((bx (e.k:Int):Key),V.ref e.r)) (bx (k:Int))=O (.ref e.r))\/(bU (ss.map λe=>((bx (e.k:Int):Key),V.ref e.r)) (bx (k:Int))=U/\∀e∈ss,e.k≠k)
 |[]=>.inr ⟨rfl,λe W=>by cases W⟩
 |e::ss=>by
  rw[bL];by_cases z:e.k=k
  .exact .inl ⟨e,byB,z,by rw[kP (by show bx (e.k:Int)=_;rw[z])]⟩
  .rw[kQ (by show ¬bx (e.k:Int)=_;intro y;injection y with y;lia)];rcases ML k ss with⟨Y,h1,h2,h3⟩|⟨h1,h2⟩
   .exact .inl ⟨Y,by simp[h1],h2,h3⟩
   .refine .inr ⟨h1,λY Z=>?_⟩;rcases bE.mp Z with y|y
    .rw[y];exact z
    .exact h2 Y y
theorem cg.vt(h:cg c H s x n d):(x.tree=[]/\d.vt=.az)\/(x.tree≠[]/\∃tr,d.vt=.ref tr):=by
 rcases h.tree with⟨z1,z2,z3⟩|⟨S0,tr,z1,z2,_⟩
 .exact .inl ⟨z1,z2⟩
 .refine .inr ⟨λe=>?_,tr,z1⟩;rw[e]at z2;cases z2
inductive Xg(c:Cz)(vs:List V)(H:Hp)(Q:VK)(E_:XK):Prop
 |mk(s:aa)(x:fU)(n:Nat)(d:SD)(k:Nat)(_:vs=[.ref s,.int (k:Nat)])(_:cg c H s x n d)(_:((x.tree=[]\/J x.rules<=k)->Q .az H))(_:(x.tree≠[]->k<J x.rules->∀(H':Hp) (d':SD) (e:SE),cE H H' s d d'->cg c H' s x n d'->d'.seen=d.seen->e∈d'.ss->e.k=k->Q (.ref e.r) H'))
def Cj(H:Hp)(s:aa)(d:SD)(D:aa):Prop:=∀b o,H b=O o->b∉d.X s->b≠D
theorem cE.newD(t:cE H H' s d d')(e:H' D=U):Cj H s d D:=λb o hb n=>aQ (t.kp b o hb n) e
def yr(a:yy):List Int:=a.ret::a.nums.map λn:Nat=>(n:Int)
inductive XI(c:Cz)(vs:List V)(H:Hp)(Q:VK)(E_:XK):Prop
 |mk(s:aa)(x:fU)(n:Nat)(d:SD)(k fr:Nat)(_:vs=[.ref s,.int (k:Nat),.int (fr:Nat)])(_:cg c H s x n d)(_:fr<=4294967295)(_:∀(H':Hp) (d':SD) (D:aa),cE H H' s d d'->cg c H' s x n d'->H' D=O (.lst (bF (yr (cX x (.find k fr)).2)))->Cj H s d D->D∉d'.X s->Q (.ref D) H')
inductive WY(c:Cz)(vs:List V)(H:Hp)(Q:VK)(E_:XK):Prop
 |mk(s:aa)(x:fU)(n:Nat)(d:SD)(k i:Nat)(_:vs=[.ref s,.int (k:Nat),.int (i:Nat)])(_:cg c H s x n d)(_:∀(H':Hp) (d':SD),cE H H' s d d'->cg c H' s x n d'->Q (.int (J (mH x k i):Nat)) H')
inductive Xe(c:Cz)(vs:List V)(H:Hp)(Q:VK)(E_:XK):Prop
 |mk(s:aa)(x:fU)(n:Nat)(d:SD)(k i way:Nat)(_:vs=[.ref s,.int (k:Nat),.int (i:Nat),.int (way:Nat)])(_:cg c H s x n d)(_:∀(H':Hp) (d':SD),cE H H' s d d'->cg c H' s x n d'->Q (.bl (decide (way<J (mH x k i)))) H')
section
theorem nJ(Z:HY):Ok 3 46 ["self","rule"] (Xg zc):=by
 refine Z.Kp.Go ["self","rule"] λcdv A outer s H vs Q E hr nd h=>?_
 .obtain⟨s,x,n,d,k,rfl,h,kn,i⟩:=h;have hu:=jF hr;refine⟨_,(aA (bT (PW.pt (vc (bK lJ (aC (pv 0)) d7 (bB _)) (u_ (bK EN (pv 1) (fy iN byC Z.B.len PySem.boot_len (af (aC (pv 0)) ay)) (bB _))))) (aJ (bh d7)) b8)
   (aA (bT (Aw (EK hu (pv 1) (aC (pv 0)))) (aJ (tF hu (aC (pv 0)) (pv 1) (vf Z.aaH (PJ Z).g hr byC Z.Fq (PJ Z).b .nil bq (af (aN bI (aC (pv 0)) (pv 1)) (af (aC (pv 0)) ay))) Y)) b8)
   (aJ (bh (ow hu (aC (pv 0)) (pv 1) (λ_ _=>Y)))))),?_⟩
  dsimp only[xk];refine wZ ?_;refine yd (b:=decide (x.tree=[]\/J x.rules<=k)) (H':=H) ?_ ?_
  .intro Q' v;refine⟨_,Y,h.ins,Z.tH,Y,Y,_,Y,?_⟩;rcases h.vt with⟨z1,z2⟩|⟨z1,tr,z2⟩
   .rw[bJ z2];rw[bJ (Or.inl z1)]at v;exact bR v
   .refine dD (by rw[z2];simp) ⟨_,rfl,_,rfl,h.ins,Z.tH,rfl,.inl (aj.of h.hpa),_,_,rfl,rfl,_,rfl,?_⟩;rw[aM,h.jU];by_cases z:J x.rules<=k
    .rw[bJ (show((J x.rules:Nat):Int)<=(k:Int) by lia)];rw[bJ (Or.inr z)]at v;exact v
    .rw[bP (show ¬((J x.rules:Nat):Int)<=(k:Int) by lia)];rw[bP (by rintro(y|y);exact z1 y;exact z y)]at v;exact v
  .by_cases z:x.tree=[]\/J x.rules<=k
   .exact dW z (kn z)
   .refine dD z ?_;refine fY ?_;dsimp only;have zt:x.tree≠[]:=λy=>z (.inl y);have zk:k<J x.rules:=by
     rcases cY k (J x.rules) with y|y
     .exact y
     .exact absurd (.inr y) z
    have i:=i zt zk;obtain⟨kvs,T⟩:∃kvs,kvs=d.ss.map λe=>((bx (e.k:Int):Key),V.ref e.r):=⟨_,Y⟩;have hse:=h.hse;rw[<-T]at hse;refine⟨_,Y,_,Y,h.ins,Z.tH,Y,d.se,_,Y,.inl ⟨kvs,bx (k:Int),.inl hse,Y,Y⟩,_,Y,?_⟩;have P:=ML k d.ss;rw[<-T]at P;rcases P with⟨e,M,hek,Rw⟩|⟨hnone,hno⟩
    .rw[Rw];refine cJ ⟨_,Y,h.ins,Z.tH,Y,_,Y,d.se,_,Y,.inl ⟨kvs,bx (k:Int),.inl hse,Y,Rw.symm⟩,?_⟩;exact i H d e cE.refl h Y M hek
    .rw[hnone];refine bR ?_;rcases h.tree with⟨z1,_,_⟩|⟨S0,tr,z1,z2,z3,z4,z5,z6⟩
     .exact absurd z1 zt
     obtain⟨rl,hg⟩:∃r,x.rules[k]?=O r:=⟨_,aX zk⟩;obtain⟨q,hq⟩:∃q,d.as[k]?=O q:=⟨_,aX (by rw[h.jU];exact zk)⟩;have hf:(o4 d).lookup ("tree":ak)=O (.ref tr):=by show O d.vt=_;rw[z1]
     refine⟨_,Y,h.ins,Z.tH,Y,_,Y,aj.of h.hpa,kI hq,_,Y,h.ins,Z.tH,hf,λr c R hh hj=>?_⟩;obtain⟨Hm,F⟩:∃h,h=upd (upd H c (.own r)) r (.ins zc.iR c []):=⟨_,Y⟩;rw[<-F];have sm:aG H Hm:=λb o e=>by rw[F];exact aE (aQ e R) (aE (aQ e hh) e)
     refine⟨r,q,tr,c,Y,by rw[F];exact aB,λH2 rt rv rx w1 w2 w3 w4 n1 n2 n3 u1 u2 u3 k2=>⟨Y,?_⟩⟩;have s2:aG H H2:=λb o e=>k2 b o (sm b o e) (aQ e R);have h2:=h.same s2;have m:=s2 _ _ hse;have hl:J d.ss<=16:=by
      have:=EX (L:=bA (J x.rules)) h.qY (λy I=>by obtain⟨e,M,rfl⟩:=kM.mp I;obtain⟨j,_,y1,_⟩:=z6 e M;exact iB.mpr (cV.mp y1).1)
      rw[aM,ko]at this;have:=h.rl;lia
     refine⟨_,Y,h2.ins,Z.tH,Y,_,Y,d.se,_,Y,nv.k (k:=bx (k:Int)) m (by rw[T,aM,c8];lia),?_⟩;rw[Av _ hnone];obtain⟨H3,D⟩:∃h,h=upd H2 d.se (.dK (kvs++[(bx (k:Int),.ref r)])):=⟨_,Y⟩;rw[<-D];have w:∀{b:aa},b≠d.se->H3 b=H2 b:=λhb=>by rw[D];exact bO hb
     have p3:H3 d.se=O (.dK (kvs++[(bx (k:Int),.ref r)])):=by rw[D];exact aB
     obtain⟨C,S⟩:∃C:SE,C=⟨k,r,c,rt,rv,rx⟩:=⟨_,Y⟩;obtain⟨d',W⟩:∃d':SD,d'=⟨d.dx,d.pa,d.pr,d.se,d.sd,d.fr,d.vt,d.as,d.rs,d.ss++[C],d.seen,d.fk⟩:=⟨_,Y⟩;have nX:=h.nd;unfold SD.X at nX;simp only[jL,bE,fS]at nX;obtain⟨⟨a1,a2,a3,a4,a5,a6,a7⟩,⟨b1,b2,b3,b4,b5,b6⟩,⟨c1,c2,c3,c4,c5⟩,⟨d1,d2,d3,d4⟩,⟨e1,e2,hi⟩,⟨f1,f2⟩,g1,hn⟩:=nX;have u:H3 s=O (.ins zc.fE d.dx (o4 d)):=by rw[w a4];exact h2.ins
     have hm:∀{b:aa},Hm b=U->H b=U:=λ{b} e=>by
      cases q:H b with
      |none=>rfl
      |some o=>rw[sm b o q]at e;cases e
     have t1:=hm n1;have t2:=hm n2;have t3:=hm n3;have G:d'.X s=d.X s++[rt,rv,rx]:=by rw[W];unfold SD.X;simp only;rw[yS,S];rfl
     have sub:nV (d.X s) (d'.X s) H:=λb hb=>by
      rw[G]at hb;rcases kh.mp hb with y|y
      .exact .inl y
      .simp only[bE,fH,fM]at y;rcases y with y|y|y
       .right;rw[y];exact t1
       .right;rw[y];exact t2
       .right;rw[y];exact t3
     have hc:d.se∈d.X s:=by unfold SD.X;simp
     have p:bg (d.X s) H H3:=λb o e n=>by rw[w (λz=>n (by rw[z];exact hc))];exact s2 b o e
     have f:∀{b:aa},H b=U->b∉d.X s:=λe z=>by obtain⟨o,e',_⟩:=h.cut _ z;rw[e]at e';cases e'
     refine⟨_,Y,u,Z.tH,Y,_,Y,d.se,_,Y,.inl ⟨_,bx (k:Int),.inl p3,Y,(by rw[wN _ _ _ _ hnone,aD rfl])⟩,?_⟩;have l:=i H3 d' C ⟨p,sub⟩ ?_ (by rw[W]) (by rw[W];simp) (by rw[S])
     .rw[S]at l;exact l
     have g:∀{b:aa}{o:HO},b≠d.se->H b=O o->H3 b=O o:=λn e=>by rw[w n];exact s2 _ _ e
     refine⟨by rw[W];exact u,by rw[W];exact g b3 h.own,?_,by rw[W];exact g c2 h.hpa,by rw[W];exact g d1 h.jh,?_,by rw[W];exact g (cO e1) h.iC,by rw[W];exact g (cO e2) h.hfr,by rw[W];exact h.qk,by rw[W];exact h.ql,h.vE,by rw[W];exact h.jU,by rw[W];exact h.lrs,h.rl,?_,?_,?_,by rw[W];exact h.fst⟩
     .rw[G];refine wm.mpr ⟨h.nd,?_,λy I z K=>?_⟩
      .simp only[jL,bE,fH,fM,fS,p9,B6,xK];exact⟨⟨u1,u2⟩,u3⟩
      .intro yz;subst yz;simp only[bE,fH,fM]at K;rcases K with z|z|z
       .exact f t1 (by rw[<-z];exact I)
       .exact f t2 (by rw[<-z];exact I)
       .exact f t3 (by rw[<-z];exact I)
     .rw[W];show H3 d.se=O (.dK ((d.ss++[C]).map _));rw[p3,T,dw,S];rfl
     .intro k' j ek;obtain⟨q1,q2,q3⟩:=h.rule k' j ek;exact⟨q1,λq eq=>(q2 q (by rw[W]at eq;exact eq)).on p sub,λq eq=>(q3 q (by rw[W]at eq;exact eq)).on p sub⟩
     .rw[W];show((d.ss++[C]).map (·.k)).Nodup;rw[dw];refine wm.mpr ⟨h.qY,byB,λy I z K=>?_⟩;have K:z=k:=by rw[S]at K;simpa using K
      subst K;obtain⟨e,M,rfl⟩:=kM.mp I;exact hno e M
     .refine .inr ⟨S0,tr,by rw[W];exact z1,z2,z3,by rw[W];exact z4,z5.on p sub,λe M=>?_⟩;rw[W]at M;rcases kh.mp M with y|y
      .obtain⟨j,q',v1,v2,v3,v4⟩:=z6 e y;refine⟨j,q',v1,by rw[W];exact v2,v3.on p sub,v4.on λa ha=>?_⟩;obtain⟨hk,N⟩:=h.tb y ha;rw[N];exact g (λz=>hi (by rw[<-z];exact lS.mpr ⟨e,y,ha⟩)) N
      .have ye:e=C:=by simpa using y
       subst ye;subst S;refine⟨rl,q,hg,by rw[W];exact hq,?_,?_⟩
       .intro H4 k4;refine k4 r _ ?_ ?_
        .rw[w (λz=>by rw[z,hse]at R;cases R)];exact w1
        .rw[G];intro z;rcases kh.mp z with z|z
         .exact f R z
         .simp only[bE,fH,fM]at z;have wr:=w1;rcases z with z|z|z
          .rw[z,w2]at wr;cases wr
          .rw[z,w3]at wr;cases wr
          .rw[z,w4]at wr;cases wr
       .have ne:∀{b:aa},H b=U->b≠d.se:=λe z=>by rw[z,hse]at e;cases e
        exact⟨[],[],[],⟨u1,u2,u3⟩,by rw[w (ne t1)];exact w2,by rw[w (ne t2)];exact w3,by rw[w (ne t3)];exact w4,wV,wV,wV⟩
end
theorem tV(h:x.tree=[]\/J x.rules<=k\/J x.tree<=i):mH x k i=[]:=by
 unfold mH vZ;cases e:x.rules[k]? with
 |none=>rfl
 |some r=>
  simp only;rw[ao];intro z;rcases h with y|y|y
  .rw[y]at z;simp at z
  .rw[fP y]at e;cases e
  .lia
theorem A4(e:x.rules[k]?=O r):mH x k i=vZ x.tree r.pat i:=by unfold mH;rw[e]
theorem Mg[aW](w:j8 1 t=true)(ip:pR p=true)(Z:u<J t):eB t p (begin t p u)=J (vZ t p u):=Mc w ip Z
theorem cg.sz(h:cg c H s x n d)(hx:x.tree≠[]):∃(S0:aW)(tr:aa),(o4 d).lookup ("tree":ak)=O (.ref tr)/\lP c.tree H tr x.tree/\j8 1 x.tree=true/\J x.tree<=256/\seenOf x.tree=d.seen:=by
 rcases h.tree with⟨z1,_,_⟩|⟨S0,tr,z1,z2,z3,z4,z5,z6⟩
 .exact absurd z1 hx
 .exact⟨S0,tr,by show O d.vt=_;rw[z1],z5.here,z2,z3,z4⟩
theorem cg.new(h:cg c H s x n d)(e:H D=U):D∉d.X s:=λz=>by obtain⟨o,Z,_⟩:=h.cut _ z;rw[e]at Z;cases Z
section
theorem Qk(Z:HY):Ok 71 47 ["self","rule","node"] (WY zc):=by
 refine Z.Ko.Go ["self","rule","node","search"] λcdv A outer s H vs Q E I nd h=>?_
 .obtain⟨s,x,n,d,k,i,rfl,h,P⟩:=h;have K:bS 1 _:=I.mono byD;have M:bS 3 _:=I.mono byD;refine⟨_,(aA (bN 3 nd (bX (pv 0) Z.tH.cl Z.rK (nJ Z).g M (nJ Z).b .nil bq (af (pv 1) ay)))
   (aA (bT (PW.pt (vc (bK lJ (pv 3) d7 (bB _)) (u_ (bK EN (pv 2) (aC (aC (pv 0))) (bB _))))) (aJ (bh aK)) b8)
   (aJ (bh (bX (pv 3) Z.tS.cl Z.vJ (tN Z 33).g I (tN Z 33).b .nil bq (af (bX (pv 3) Z.tS.cl Z.vK (rH Z).g K (rH Z).b .nil bq (af (pv 2) ay)) ay)))))),?_⟩
  dsimp only[xk];refine⟨_,Y,h.ins,Y,_,Y,s,x,n,d,k,Y,h,λm=>?_,λv zk H1 C e D S l f G=>?_⟩
  .refine gn ?_;dsimp only;refine⟨_,Y,Y,_,Y,?_⟩;refine bR (bR ?_);have:=P H d cE.refl h;rw[tV (by rcases m with y|y;exact .inl y;exact .inr (.inl y))]at this
   exact this
  .refine gn ?_;dsimp only;obtain⟨S0,tr,O,c,hw,ht,j⟩:=S.sz v;obtain⟨dt,_,_,_,_,_,_,_,_,_,_,N,_⟩:=id c;refine wZ ?_;refine yd (b:=decide (J x.tree<=i)) (H':=H1) ?_ ?_
   .intro Q' T;refine⟨_,Y,Y,_,Y,?_⟩;refine cJ ⟨_,Y,_,Y,S.ins,Z.tH,O,N,Z.tT,Y,_,_,Y,Y,_,Y,?_⟩;by_cases z:J x.tree<=i
    .rw[bJ (show((J x.tree:Nat):Int)<=(i:Int) by omega)];rw[bJ z]at T;exact T
    .rw[bP (show ¬((J x.tree:Nat):Int)<=(i:Int) by omega)];rw[bP z]at T;exact T
   .by_cases z:J x.tree<=i
    .refine dW z ?_;have:=P H1 C D S;rw[tV (.inr (.inr z))]at this;exact this
    .refine dD z ?_;refine fY ?_;dsimp only;obtain⟨B,r,q,U,_,W,_,_,L,on⟩:=S.uU f;have hi:i<J x.tree:=by omega
     refine⟨_,Y,L.sr.ins,Y,_,Y,L.sr.ins,Y,_,Y,B,e.r,e.dx,q,U,e.rt,e.rv,e.rx,r.pat,x.tree,i,Y,L.sr,L.ask.w,hi,L.ask.lp,λH2 b2 s2 F=>?_⟩;refine⟨B,e.r,e.dx,q,U,e.rt,e.rv,e.rx,b2,r.pat,x.tree,begin x.tree r.pat i,Y,L.same s2,F,BZ hi,by have:=L.ask.lp;omega,λH3 p R=>?_⟩;obtain⟨a,u⟩:=on H3 (λb o e n=>p b o (s2 b o e) n) R;have:=P H3 C (D.trans u) a;rw[G]at W;rw[A4 W,<-Mg L.ask.w L.ask.ip hi]at this;exact this
theorem AH(Z:HY):Ok 72 48 ["self","rule","node","way"] (Xe zc):=by
 refine Z.Kn.Go ["self","rule","node","way","search"] λcdv A outer s H vs Q E K nd h=>?_
 .obtain⟨s,x,n,d,k,i,way,rfl,h,R⟩:=h;have M:bS 1 _:=K.mono byD;have N:bS 3 _:=K.mono byD;refine⟨_,(aA (bN 4 nd (bX (pv 0) Z.tH.cl Z.rK (nJ Z).g N (nJ Z).b .nil bq (af (pv 1) ay)))
   (aJ (bh (Pg (qw vh (pv 4) d7 (bB _)) (Pg (qw rE (pv 2) (aC (aC (pv 0))) (bB _)) (Y4 (bX (pv 4) Z.tS.cl Z.A_ (AO Z).g K (AO Z).b .nil bq (af (bX (pv 4) Z.tS.cl Z.vK (rH Z).g M (rH Z).b .nil bq (af (pv 2) ay)) (af (pv 3) ay))))))))),?_⟩
  dsimp only[xk];refine⟨_,Y,h.ins,Y,_,Y,s,x,n,d,k,Y,h,λp=>?_,λB zk H1 D e F T m j I=>?_⟩
  .refine gn ?_;dsimp only;refine⟨_,Y,Y,_,Y,?_⟩;refine cJ ?_;have:=R H d cE.refl h;rw[tV (by rcases p with y|y;exact .inl y;exact .inr (.inl y)),bP byB]at this
   exact this
  .refine gn ?_;dsimp only;obtain⟨S0,tr,P,f,hw,ht,l⟩:=T.sz B;obtain⟨dt,_,_,_,_,_,_,_,_,_,_,O,_⟩:=id f;refine⟨_,Y,Y,_,Y,?_⟩;refine bR ⟨_,Y,_,Y,T.ins,Z.tH,P,O,Z.tT,Y,_,_,Y,Y,_,Y,?_⟩;by_cases z:i<J x.tree
   .refine dW (show(i:Int)<((J x.tree:Nat):Int) by lia) ?_;obtain⟨C,r,q,U,_,W,_,_,L,on⟩:=T.uU j;refine⟨_,Y,L.sr.ins,Y,_,Y,L.sr.ins,Y,_,Y,C,e.r,e.dx,q,U,e.rt,e.rv,e.rx,r.pat,x.tree,i,Y,L.sr,L.ask.w,z,L.ask.lp,λH2 a s2 G=>?_⟩;refine⟨_,Y,C,e.r,e.dx,q,U,e.rt,e.rv,e.rx,a,r.pat,x.tree,begin x.tree r.pat i,way,Y,L.same s2,G,BZ z,λH3 u S=>?_⟩;obtain⟨c,v⟩:=on H3 (λb o e n=>u b o (s2 b o e) n) S;have:=R H3 D (F.trans v) c;rw[I]at W;rw[A4 W,<-Mg L.ask.w L.ask.ip z]at this;exact this
   .refine dD (show ¬(i:Int)<((J x.tree:Nat):Int) by lia) ?_;have:=R H1 D F T;rw[tV (.inr (.inr byA)),bP byB]at this;exact this
theorem ab_{f:Nat->Bool}{m fr i:Nat}(hi:fr+i<m)(Y:∀j,j<i->f (fr+j)=false)(Z:f (fr+i)=true):(bA m).find? (λj=>decide (fr<=j)&&f j)=O (fr+i):=by
 rw[Ul];refine⟨by simp[Z],by simpa using hi,λj W=>?_⟩;by_cases z:fr<=j
 .have:=Y (j-fr) (by omega);have e:fr+(j-fr)=j:=by omega
  rw[e]at this;simp[this]
 .simp[z]
theorem RU{f:Nat->Bool}{m fr:Nat}(Z:∀j,fr<=j->j<m->f j=false):(bA m).find? (λj=>decide (fr<=j)&&f j)=U:=by
 rw[ae8];intro j Y;have:=iB.mp Y;by_cases z:fr<=j
 .simp[Z j z this]
 .simp[z]
theorem Qi(Z:HY):Ok 72 49 ["self","rule","start"] (XI zc):=by
 refine Z.Km.Go ["self","rule","start","search","node"] λcdv A outer s H vs Q E hr nd h=>?_
 .obtain⟨s,x,n,d,k,fr,rfl,h,hfr,l⟩:=h;have ha:bS 3 _:=hr.mono byD;refine⟨_,(aA (bN 3 nd (bX (pv 0) Z.tH.cl Z.rK (nJ Z).g ha (nJ Z).b .nil bq (af (pv 1) ay)))
   (aA (bT (bK lJ (pv 3) d7 (bB _)) (aJ (bh (dQ (af aK ay)))) b8)
   (aA (iV iG Y (YX byC Z.B.range (af (pv 2) (af (aC (aC (pv 0))) ay))) (dB 4 nd) (aJ (bT (jB (bX (pv 3) Z.tS.cl Z.Ba (AM Z).g hr (AM Z).b .nil bq (af (pv 4) ay)) byF) (aJ (bh (dQ (af aK (af (pv 4) ay))))) b8)))
   (aJ (bh (dQ (af aK ay))))))),?_⟩
  dsimp only[xk]
  have T:cX x (.find k fr)=(x,match(bA (J x.tree)).find? fun(i:Nat)=>decide (fr<=i)&&(x.rules[k]?).any fun(r:su)=>(pS x.tree r.pat i).isSome with
   |some i=>⟨1,[i]⟩
   |none=>eK 0):=rfl
  refine⟨_,Y,h.ins,Y,_,Y,s,x,n,d,k,Y,h,λhz=>?_,λzt zk H1 z e t1 C hc he hb=>?_⟩
  .refine gn ?_;dsimp only;refine⟨_,Y,Y,_,Y,?_⟩;refine bR ⟨(by show 1<=bf;decide),λD S=>?_⟩;have s1:aG H (upd H D (.lst [V.int 0])):=aT S;refine l _ d D (cE.of s1) (h.same s1) ?_ (cE.refl.newD S) (h.new S);rw[aB,T];simp only;rw[RU (f:=λi=>(x.rules[k]?).any fun(r:su)=>(pS x.tree r.pat i).isSome)]
   .rfl
   .intro j _ I;rcases hz with y|y
    .rw[y]at I;simp at I
    .rw[fP y];rfl
  .refine gn ?_;dsimp only;refine⟨_,Y,Y,_,Y,?_⟩;refine cJ ?_;refine fY ?_;dsimp only;obtain⟨S0,tr,c,hT,hw,ht,hf⟩:=C.sz zt;obtain⟨dt,_,_,_,_,_,_,_,_,_,_,a,_⟩:=id hT;obtain⟨rl,K⟩:∃r,x.rules[k]?=O r:=⟨_,aX zk⟩
   have W:cX x (.find k fr)=(x,match(bA (J x.tree)).find? fun(i:Nat)=>decide (fr<=i)&&(pS x.tree rl.pat i).isSome with
    |some i=>⟨1,[i]⟩
    |none=>eK 0):=by rw[T,K];rfl
   refine⟨_,Y,_,Y,C.ins,Z.tH,c,a,Z.tT,Y,_,_,Y,byA,?_⟩;have en:(((J x.tree:Nat):Int)-(fr:Int)).toNat=J x.tree-fr:=by lia
   rw[en];refine qG (lo:=(fr:Int)) (n:=J x.tree-fr) (λi σ H'=>∃w:Option V,σ=[O (.ref s),O (.int (k:Nat)),O (.int (fr:Nat)),O (.ref e.r),w]/\cE H H' s d z/\cg zc H' s x n z/\∀j,j<i->(pS x.tree rl.pat (fr+j)).isSome=false)
    ⟨U,rfl,t1,C,λj I=>by lia⟩ ?_ ?_
   .rintro i σ H' hi ⟨w,rfl,N,G,R⟩;obtain⟨S1,r,q,v,_,P,_,_,L,on⟩:=G.uU he;rw[hb,K]at P;have:=bH P;subst this;have ei:(fr:Int)+(i:Nat)=((fr+i:Nat):Int):=by lia
    rw[ei];refine gn ?_;refine⟨_,Y,L.sr.ins,Y,_,Y,S1,e.r,e.dx,q,v,e.rt,e.rv,e.rx,rl.pat,x.tree,fr+i,Y,L,byA,λH2 k2 u=>?_⟩;obtain⟨F,p⟩:=on H2 k2 u;refine⟨_,Y,?_⟩;cases hm:(pS x.tree rl.pat (fr+i)).isSome with
    |true=>refine bR ⟨_,Y,(by show 2<=bf;decide),λD S=>?_⟩;have M:=aT (o:=.lst [V.int 1,V.int ((fr+i:Nat):Int)]) S;have m:=F.new S;refine l _ z D ((N.trans p).trans (cE.of M)) (F.same M) ?_ ((N.trans p).newD S) m;rw[aB,W];simp only;rw[ab_ (f:=λi=>(pS x.tree rl.pat i).isSome) byA R hm];rfl
    |false=>
     refine cJ ⟨_,Y,N.trans p,F,λj I=>?_⟩;rcases cY j i with y|y
     .exact R j y
     .have:j=i:=by lia
      rw[this];exact hm
   .rintro σ H' ⟨w,rfl,N,G,R⟩;refine⟨(by show 1<=bf;decide),λD S=>?_⟩;have M:=aT (o:=.lst [V.int 0]) S;have m:=G.new S;refine l _ z D (N.trans (cE.of M)) (G.same M) ?_ (N.newD S) m;rw[aB,W];simp only;rw[RU (f:=λi=>(pS x.tree rl.pat i).isSome)]
    .rfl
    .intro j C F;have:=R (j-fr) byA;have e:fr+(j-fr)=j:=by lia
     rw[e]at this;exact this
end
theorem Vi[aW]{t:List aO}{p:List aF}{x:k_}{st:Spot}(T:za t p st.at_ st.held x)(N:ni p st.at_ (J p))(hl:st.at_<=J p){l:List aF}(R:∀h,dN h∈l->dN h∈p)(M:∀h,ie h∈l->ie h∈p):yt x l:=by
 obtain⟨_,Q⟩:=AV hl (aU _) N;have Z:∀(q:aF)(h:Nat),q∈p->iw q=O h->∃g,oJ x h=O g:=λq h P e=>by
  have U:met p (J p) h=true:=by unfold met;rw[kK];exact qP.mpr ⟨q,P,qD e⟩
  rw[(Q h).1,<-T.met h]at U;exact we.mp U
 refine⟨λh W=>?_,λh W=>Z _ h (M h W) Y⟩;obtain⟨g,S⟩:=Z _ h (R h W) Y;exact⟨g,S,T.ones h g S (R h W)⟩
theorem WM(W:yt x l)(g:GoodW t x):B_ (j9 t x) l:=by
 refine⟨λh Z=>?_,λh Z=>?_⟩
 .obtain⟨f,e,Y⟩:=W.one h Z;unfold j9;rw[e];simp only;have:=qd (g f (nL e).1).2;rw[Y]at this ⊢;exact this
 .obtain⟨f,e⟩:=W.row h Z;unfold j9;rw[e];exact qd (g f (nL e).1).2
theorem LD{t:List aO}{p:List aF}{i way:Nat}{b:k_}(h:(vZ t p i)[way]?=O b):i<J t:=by
 unfold vZ at h;split at h
 .assumption
 .simp at h
inductive XN(c:Cz)(vs:List V)(H:Hp)(Q:VK)(E_:XK):Prop
 |mk(s:aa)(x:fU)(n:Nat)(d:SD)(k i way num:Nat)(_:vs=[.ref s,.int (k:Nat),.int (i:Nat),.int (way:Nat),.int (num:Nat)])(_:cg c H s x n d)(_:∀(H':Hp) (d':SD) (D:aa),cE H H' s d d'->cg c H' s x n d'->H' D=O (.lst (bF (yr (cX x (.fill k i way num)).2)))->Cj H s d D->D∉d'.X s->Q (.ref D) H')
inductive Xk(c:Cz)(vs:List V)(H:Hp)(Q:VK)(E_:XK):Prop
 |mk(s:aa)(x:fU)(n:Nat)(d:SD)(k i way:Nat)(r:su)(b:k_)(_:vs=[.ref s,.int (k:Nat),.int (i:Nat),.int (way:Nat)])(_:cg c H s x n d)(_:x.rules[k]?=O r)(_:(vZ x.tree r.pat i)[way]?=O b)(_:n<=10000)(_:(256<J (qK x.tree r i b)->∀(H':Hp) (d':SD),cE H H' s d d'->cg c H' s x n d'->Q (.bl false) H'))(_:(J (qK x.tree r i b)<=256->∀(H':Hp) (d':SD),cE H H' s d d'->cg c H' s {x with tree:=qK x.tree r i b } (n+1) d'->Q (.bl true) H'))
inductive XU(c:Cz)(vs:List V)(H:Hp)(Q:VK)(E_:XK):Prop
 |mk(s:aa)(x:fU)(n:Nat)(d:SD)(k i way:Nat)(_:vs=[.ref s,.int (k:Nat),.int (i:Nat),.int (way:Nat)])(_:cg c H s x n d)(_:n<=10000)(_:∀(H':Hp) (d':SD),cE H H' s d d'->cg c H' s (cX x (.apply k i way)).1 (n+1) d'->Q (.int (cX x (.apply k i way)).2.ret) H')
section
theorem PB(Z:HY):Ok 74 50 ["self","rule","node","way","number"] (XN zc):=by
 refine Z.Kl.Go ["self","rule","node","way","number","filling"] λcdv A outer s H vs Q E I nd h=>?_
 .obtain⟨s,x,n,d,k,i,way,num,rfl,h,v⟩:=h;have hu:=jF I;have p:bS 3 _:=I.mono byD;have P:bS 72 _:=I.mono byD;refine⟨_,(aA (bT (qt (jB (bX (pv 0) Z.tH.cl Z.A7 (AH Z).g P (AH Z).b .nil bq (af (pv 1) (af (pv 2) (af (pv 3) ay)))) byF)) (aJ (bh (dQ (af aK ay)))) b8)
   (aA (bN 5 nd (vg hu (bX (bX (pv 0) Z.tH.cl Z.rK (nJ Z).g p (nJ Z).b .nil bq (af (pv 1) ay)) Z.tS.cl Z.A9 (AQ Z).g I (AQ Z).b .nil bq (af (pv 2) (af (pv 3) ay))) (pv 4) ⟨Y,Y,Y,Y⟩))
   (aJ (bh (l6 (bK lJ (pv 5) d7 (bB _)) (dQ (af aK ay)) (dQ (af aK (af (aN cC (pv 5) aK) (af (aN cC (pv 5) aK) ay))))))))),?_⟩
  dsimp only[xk]
  have W:cX x (.fill k i way num)=(x,match(mH x k i)[way]? with
   |none=>eK 0
   |some b=>match oJ b num with
    |none=>eK 0
    |some f=>⟨1,[f.at_,f.count]⟩):=rfl
  refine⟨_,Y,h.ins,Y,_,Y,_,Y,_,Y,s,x,n,d,k,i,way,Y,h,λH1 d1 w F=>?_⟩;refine⟨_,Y,?_⟩;by_cases u:way<J (mH x k i)
  .rw[bJ u];refine cJ ?_;refine fY ?_;dsimp only;obtain⟨b,hb⟩:∃b,(mH x k i)[way]?=O b:=⟨_,aX u⟩;rw[hb]at W;simp only at W;have zt:x.tree≠[]:=λz=>by rw[tV (.inl z)]at hb;simp at hb
   have zk:k<J x.rules:=by
    rcases cY k (J x.rules) with y|y
    .exact y
    .rw[tV (.inr (.inl y))]at hb;simp at hb
   refine⟨_,Y,F.ins,Y,_,Y,s,x,n,d1,k,Y,F,λhz=>?_,λ_ _ H2 d2 e t2 h2 hc he l=>?_⟩
   .rcases hz with y|y
    .exact absurd y zt
    .omega
   obtain⟨S1,r,q,C,_,R,_,_,L,on⟩:=h2.uU he;rw[l]at R;rw[A4 R]at hb;refine⟨L.sr.ins,Y,_,Y,_,Y,S1,e.r,e.dx,q,C,e.rt,e.rv,e.rx,r.pat,x.tree,i,way,b,Y,L,LD hb,hb,λH3 cf _ _ st k3 B m gw hk hf hg=>?_⟩;obtain⟨G,t3⟩:=on H3 k3 B;obtain⟨kvs,N,c⟩:=m;have U:=BF (h:=num) c;have K:=(w.trans t2).trans t3;refine⟨cf,Y,.inl ⟨_,.inl N⟩,_,Y,_,.inl ⟨kvs,bx (num:Int),.inl N,Y,Y⟩,?_⟩;refine gn ?_;dsimp only;cases ho:oJ b num with
   |none=>rw[ho]at U W;simp only at U W;rw[U];refine⟨_,Y,Y,_,Y,?_⟩;refine bR ⟨(by show 1<=bf;decide),λD T=>?_⟩;have S:=aT (o:=.lst [V.int 0]) T;refine v _ d2 D (K.trans (cE.of S)) (G.same S) ?_ (K.newD T) (G.new T);rw[aB,W];rfl
   |some g=>rw[ho]at U W;simp only at U W;obtain⟨a,ha,M⟩:=U;rw[ha];refine⟨_,Y,Y,_,Y,?_⟩;refine cJ ⟨_,Y,bu.of M,bQ (j:=0) Y,_,Y,bu.of M,bQ (j:=1) Y,(by show 3<=bf;decide),λD T=>?_⟩;have S:=aT (o:=.lst [V.int 1,V.int (g.at_:Nat),V.int (g.count:Nat)]) T;refine v _ d2 D (K.trans (cE.of S)) (G.same S) ?_ (K.newD T) (G.new T);rw[aB,W];rfl
  .rw[bP u];refine bR ⟨(by show 1<=bf;decide),λD T=>?_⟩;have S:=aT (o:=.lst [V.int 0]) T;refine v _ d1 D (w.trans (cE.of S)) (F.same S) ?_ (w.newD T) (F.new T);rw[aB,W,fP (by omega)];rfl
theorem AI(Z:HY):Ok 74 51 ["self","rule","node","way"] (Xk zc):=by
 refine Z.Kh.Go ["self","rule","node","way","fillings","filled","numbers"] λcdv A outer s H vs Q E D nd h=>?_
 .obtain⟨s,x,n,d,k,i,way,r,b,rfl,h,R,hb,hn,kf,kt⟩:=h;have ha:bS 1 _:=D.mono byD;have a:bS 2 _:=D.mono byD;have c:bS 3 _:=D.mono byD;have f:bS 4 _:=D.mono byD;obtain⟨t3,g3⟩:=Z.G.QC;refine⟨_,(aA (bN 4 nd (bX (bX (pv 0) Z.tH.cl Z.rK (nJ Z).g c (nJ Z).b .nil bq (af (pv 1) ay)) Z.tS.cl Z.A9 (AQ Z).g D (AQ Z).b .nil bq (af (pv 2) (af (pv 3) ay))))
   (aA (bN 5 nd (bX (aN bI (aC (pv 0)) (pv 1)) Z.tR.cl Z.Gb (Qj Z).g a (Qj Z).b .nil bq (af (aC (pv 0)) (af (pv 4) ay))))
   (aA (bN 6 nd (bX (aC (pv 0)) Z.tT.cl Z.m7 (P4 Z).g ha (P4 Z).b .nil bq (af (pv 2) (af (pv 5) ay))))
   (aA (bT (bK rF (fy iN byC Z.B.len PySem.boot_len (af (pv 6) ay)) (eY (v:=.int 768) byC g3 ⟨_,Y⟩) (bB _)) (aJ (bh jn)) b8)
   (aA (iW (bX (pv 0) Z.tH.cl Z.A8 (AK Z).g f (AK Z).b .nil bq (af (pv 6) ay)))
   (aJ (bh jn))))))),?_⟩
  dsimp only[xk];have hi:=LD hb;have zt:x.tree≠[]:=λz=>by rw[z]at hi;simp at hi
  have zk:k<J x.rules:=(cV.mp R).1;refine⟨_,Y,h.ins,Y,_,Y,s,x,n,d,k,Y,h,λhz=>?_,λ_ _ H2 u e t2 h2 ho he hh=>?_⟩
  .rcases hz with y|y
   .exact absurd y zt
   .lia
  obtain⟨S1,r',q,o,_,T,_,_,L,on⟩:=h2.uU he;rw[hh,R]at T;have:=bH T;subst this;refine⟨L.sr.ins,Y,_,Y,_,Y,S1,e.r,e.dx,q,o,e.rt,e.rv,e.rx,r.pat,x.tree,i,way,b,Y,L,hi,hb,λH3 cf _ _ st k3 m hg gw hk hc hf=>?_⟩;obtain⟨N,p⟩:=on H3 k3 m;have tt:=t2.trans p;refine gn ?_;dsimp only;obtain⟨M,_,F⟩:=N.rule k r R;have W:=Vi hk hc hf M.ones M.rows;have St:=WM W gw;obtain⟨qr,C⟩:∃q,u.rs[k]?=O q:=⟨_,aX (by rw[N.lrs];exact zk)⟩;have S:=(F qr C).here;obtain⟨dr,_,_,_,_,_,P,_⟩:=id S;obtain⟨S0,tr,I,hT,l,ht,hp⟩:=N.sz zt;obtain⟨dt,_,_,_,_,_,_,_,_,_,_,j,_⟩:=id hT;refine⟨_,Y,N.ins,Z.tH,Y,_,Y,aj.of N.jh,kI C,P,Y,_,Y,N.ins,Z.tH,I,_,Y,S0,qr,tr,cf,r.rep,x.tree,b,Y,S,hT,hg,W,gw,l,ht,M.wr,M.lr,λH4 D4 w hl hq hs=>?_⟩;refine gn ?_;dsimp only;have h4:=N.same w;have hj:=hT.same w;refine⟨_,Y,h4.ins,Z.tH,I,w _ _ j,Y,_,Y,_,Y,S0,tr,D4,x.tree,i,v_ (j9 x.tree b) r.rep,Y,hj,hl,l,hi,ht,byA,λH5 D5 s5 U hm=>?_⟩;refine gn ?_;dsimp only;have h5:=h4.same s5;have U:H5 D5=O (.lst (aq (c_ (qK x.tree r i b)))):=U;have K:=(tt.trans (cE.of w)).trans (cE.of s5);refine⟨_,Y,.inl (aj.of U),_,_,Y,Y,_,Y,?_⟩;rw[aM,lH];by_cases z:256<J (qK x.tree r i b)
  .exact dW (show(768:Int)<((3*J (qK x.tree r i b):Nat):Int) by lia) (kf z H5 u K h5)
  .refine dD (show ¬(768:Int)<((3*J (qK x.tree r i b):Nat):Int) by lia) ?_;refine fY ?_;dsimp only;have nD:D5∉u.X s:=h4.new hm;refine⟨_,Y,h5.ins,Y,_,Y,s,D5,x,n,u,qK x.tree r i b,Y,h5,U,nD,Yw l hi M.wr M.hd St,byA,hn,λH6 d6 t6 h6=>?_⟩;exact kt byA H6 d6 (K.trans t6) h6
theorem Qn(Z:HY):Ok 75 52 ["self","rule","node","way"] (XU zc):=by
 refine Z.Kg.Go ["self","rule","node","way"] λcdv A outer s H vs Q E I nd h=>?_
 .obtain⟨s,x,n,d,k,i,way,rfl,h,C,P⟩:=h;have T:bS 72 _:=I.mono byD;refine⟨_,(aA (bT (qt (jB (bX (pv 0) Z.tH.cl Z.A7 (AH Z).g T (AH Z).b .nil bq (af (pv 1) (af (pv 2) (af (pv 3) ay)))) byF)) (aJ (bh aK)) b8)
   (aJ (bh (l6 (jB (bX (pv 0) Z.tH.cl Z.A6 (AI Z).g I (AI Z).b .nil bq (af (pv 1) (af (pv 2) (af (pv 3) ay)))) byF) aK (kD kB aK))))),?_⟩
  have W:cX x (.apply k i way)=(match x.rules[k]?,(mH x k i)[way]? with
   |some r,O b=>let t:=qK x.tree r i b
    if sy<J t then(x,eK (-3)) else({x with tree:=t },eK 1)
   |_,_=>(x,eK 0)):=rfl
  refine⟨_,Y,h.ins,Y,_,Y,_,Y,_,Y,s,x,n,d,k,i,way,Y,h,λH1 F R L=>?_⟩;refine⟨_,Y,?_⟩;by_cases N:way<J (mH x k i)
  .rw[bJ N];refine cJ ?_;refine fY ?_;dsimp only;obtain⟨b,hb⟩:∃b,(mH x k i)[way]?=O b:=⟨_,aX N⟩;have D:k<J x.rules:=by
    rcases cY k (J x.rules) with y|y
    .exact y
    .rw[tV (.inr (.inl y))]at hb;simp at hb
   obtain⟨r,U⟩:∃r,x.rules[k]?=O r:=⟨_,aX D⟩;rw[hb,U]at W;simp only at W;rw[A4 U]at hb;refine⟨_,Y,L.ins,Y,_,Y,_,Y,_,Y,s,x,n,F,k,i,way,r,b,Y,L,U,hb,C,λz H2 K S M=>?_,λz H2 K S M=>?_⟩
   .rw[aD (show sy<_ from z)]at W;refine⟨_,Y,cJ ?_⟩;have:=P H2 K (R.trans S) (by rw[W];exact M.mono byA);rw[W]at this;exact⟨_,Y,this⟩
   .rw[ao (show ¬sy<_ by show ¬256<_;lia)]at W;refine⟨_,Y,bR ?_⟩;have:=P H2 K (R.trans S) (by rw[W];exact M);rw[W]at this;exact this
  .rw[bP N];refine bR ?_;rw[fP (show(mH x k i).length<=way by lia)]at W;have G:cX x (.apply k i way)=(x,eK 0):=by rw[W];cases x.rules[k]?<;>rfl
   have:=P H1 F R (by rw[G];exact L.mono byA);rw[G]at this;exact this
end
theorem cg.Yg(h:cg c H s x n d)(D:zb x {d with fk:=fk }):cg c (upd H d.fr (.dK fk)) s x n {d with fk:=fk }/\cE H (upd H d.fr (.dK fk)) s d {d with fk:=fk }:=by
 have W:=h.nd;unfold SD.X at W;simp only[jL,bE,fS]at W;obtain⟨⟨a1,a2,a3,a4,a5,v,a7⟩,⟨b1,b2,b3,b4,w,b⟩,⟨f,g,i,y,j⟩,⟨l,m,A,o⟩,⟨e1,e2,p⟩,⟨B,u⟩,C,E⟩:=W;have F:d.fr∈d.X s:=by unfold SD.X;simp
 have Y:bg (d.X s) H (upd H d.fr (.dK fk)):=bg.refl.upd F;have Z:nV (d.X s) (d.X s) H:=λa h=>.inl h;refine⟨⟨aE v h.ins,aE w h.own,h.nd,aE y h.hpa,aE A h.jh,aE e2 h.hse,aE B h.iC,aB,h.qk,h.ql,h.vE,h.jU,h.lrs,h.rl,λk r e=>?_,h.qY,?_,D⟩,Y,Z⟩
 .obtain⟨G,I,J⟩:=h.rule k r e;exact⟨G,λq eq=>(I q eq).on Y Z,λq eq=>(J q eq).on Y Z⟩
 .rcases h.tree with z|⟨S0,tr,O,P,Q,R,S,T⟩
  .exact .inl z
  .refine .inr ⟨S0,tr,O,P,Q,R,S.on Y Z,λe U=>?_⟩;obtain⟨r,q,K,L,M,N⟩:=T e U;refine⟨r,q,K,L,M.on Y Z,N.on λa ha=>bO λz=>C ?_⟩;rw[<-z];exact lS.mpr ⟨e,U,ha⟩
inductive MT(c:Cz)(vs:List V)(H:Hp)(Q:VK)(E_:XK):Prop
 |mk(s:aa)(x:fU)(n:Nat)(d:SD)(u:Nat)(_:vs=[.ref s,.int (u:Nat)])(_:cg c H s x n d)(_:u<J x.tree)(_:∀(H':Hp) (d':SD),cE H H' s d d'->cg c H' s x n d'->d'.seen=d.seen->Q (o5 (ja x.rules (j_ x.tree u 1))) H')
def aeE(H:Hp)(v:V)(o:Option (Nat×Nat)):Prop:=match o with
 |none=>v=.az
 |some (k,i)=>∃z,v=.ref z/\H z=O (.tup [.int (k:Nat),.int (i:Nat)])
inductive Xv(c:Cz)(vs:List V)(H:Hp)(Q:VK)(E_:XK):Prop
 |mk(s:aa)(x:fU)(n:Nat)(d:SD)(_:vs=[.ref s])(_:cg c H s x n d)(_:∀(H':Hp) (d':SD) (v:V),cE H H' s d d'->cg c H' s x n d'->aeE H' v (qx x.rules x.tree)->Q v H')
inductive W7(c:Cz)(vs:List V)(H:Hp)(Q:VK)(E_:XK):Prop
 |mk(s:aa)(x:fU)(n:Nat)(d:SD)(_:vs=[.ref s])(_:cg c H s x n d)(_:n<=10000)(_:∀(H':Hp) (d':SD),cE H H' s d d'->cg c H' s (cX x .step).1 (n+1) d'->Q (.int (cX x .step).2.ret) H')
inductive Xh(c:Cz)(vs:List V)(H:Hp)(Q:VK)(E_:XK):Prop
 |mk(s:aa)(x:fU)(n:Nat)(d:SD)(m:Nat)(_:vs=[.ref s,.int (m:Nat)])(_:cg c H s x n d)(_:n<=9000)(_:∀(H':Hp) (d':SD) (D:aa),cE H H' s d d'->cg c H' s (cX x (.run m)).1 (n+(if m<=200 then m else 0)) d'->H' D=O (.lst (bF (yr (cX x (.run m)).2)))->Cj H s d D->D∉d'.X s->Q (.ref D) H')
inductive W6(c:Cz)(vs:List V)(H:Hp)(Q:VK)(E_:XK):Prop
 |mk(s:aa)(x:fU)(n:Nat)(d:SD)(_:vs=[.ref s])(_:cg c H s x n d)(_:∀(H':Hp) (D:aa),aG H H'->H' D=O (.lst (bF (yr (cX x .nodes).2)))->H D=U->Q (.ref D) H')
theorem ab7(W:rules[k]?=O r)(T:mt r.pat x=true)(U:∀j Z,j<k->rules[j]?=O Z->mt Z.pat x=false):ja rules x=O k:=by unfold ja;have hl:=(cV.mp W).1;rw[Ul];refine⟨by rw[W];exact T,by simpa using hl,λj S=>?_⟩;obtain⟨Z,Y⟩:∃Z,rules[j]?=O Z:=⟨_,aX byA⟩;rw[Y];simp only[JM];rw[U j Z S Y];rfl
theorem ab8(W:∀(j:Nat) Z,rules[j]?=O Z->mt Z.pat x=false):ja rules x=U:=by unfold ja;rw[ae8];intro j T;obtain⟨Z,Y⟩:∃Z,rules[j]?=O Z:=⟨_,aX (iB.mp T)⟩;rw[Y];simp only[JM];rw[W j Z Y];simp
theorem ZD(hi:i<J t)(Z:ja rules (j_ t i 1)=O k)(Y:∀j,j<i->ja rules (j_ t j 1)=U):qx rules t=O (k,i):=by
 unfold qx;rw[HH];have:(bA (J t)).find? (λa=>((ja rules (j_ t a 1)).map λk=>(k,a)).isSome)=O i:=by rw[Ul];refine⟨by rw[Z];rfl,by simpa using hi,λj W=>?_⟩;rw[Y j W];rfl
 rw[this];simp only[TM];rw[Z];rfl
theorem ZA(Z:∀j,j<J t->ja rules (j_ t j 1)=U):qx rules t=U:=by unfold qx;rw[List.findSome?_eq_none_iff];intro j Y;rw[Z j (iB.mp Y)];rfl
theorem Zz(h:qx rules t=O (k,i)):i<J t/\ja rules (j_ t i 1)=O k:=by
 unfold qx at h;obtain⟨j,Z,e⟩:=List.exists_of_findSome?_eq_some h;obtain⟨U,e1,e2⟩:=eZ.mp e;injection e2 with W Y
 subst W Y;exact⟨iB.mp Z,e1⟩
section
theorem PK(Z:HY):Ok 72 53 ["self","node"] (MT zc):=by
 refine Z.Kf.Go ["self","node","rule"] λcdv A outer s H vs Q E c nd h=>?_
 .obtain⟨s,x,n,d,u,rfl,h,I,f⟩:=h;have v:bS 3 _:=c.mono byD;refine⟨_,(aA (iV iG Y (ou byC Z.B.range (af (fy iN byC Z.B.len PySem.boot_len (af (aC (pv 0)) ay)) ay)) (dB 2 nd) (aJ (bT (jB (bX (bX (pv 0) Z.tH.cl Z.rK (nJ Z).g v (nJ Z).b .nil bq (af (pv 2) ay)) Z.tS.cl Z.Ba (AM Z).g c (AM Z).b .nil bq (af (pv 1) ay)) byF) (aJ (bh (pv 2))) b8)))
   (aJ (bh d7))),?_⟩
  dsimp only[xk];have zt:x.tree≠[]:=λz=>by rw[z]at I;simp at I
  have ha:=h.rl;refine⟨_,Y,h.ins,Z.tH,Y,.inl (aj.of h.hpa),_,Y,(by rw[aM,h.jU];lia),(by rw[aM,h.jU];lia),?_⟩;rw[aM,h.jU,lA];refine qG (lo:=0) (n:=J x.rules) (λi σ H'=>∃(F:Option V)(P:SD),σ=[O (.ref s),O (.int (u:Nat)),F]/\cE H H' s d P/\cg zc H' s x n P/\P.seen=d.seen/\∀j R,j<i->x.rules[j]?=O R->mt R.pat (j_ x.tree u 1)=false)
   ⟨U,d,rfl,cE.refl,h,rfl,λj R hj=>by lia⟩ ?_ ?_
  .rintro i σ H' hi ⟨F,P,rfl,K,G,W,S⟩;have e0:(0:Int)+(i:Nat)=(i:Nat):=by lia
   rw[e0];refine gn ?_;dsimp only;refine⟨_,Y,G.ins,Y,_,Y,s,x,n,P,i,Y,G,λhz=>?_,λ_ _ H2 d2 e l h2 M he o=>?_⟩
   .rcases hz with y|y
    .exact absurd y zt
    .lia
   obtain⟨S1,r,q,D,_,T,_,_,L,on⟩:=h2.uU he;rw[o]at T;refine⟨L.sr.ins,Y,_,Y,S1,e.r,e.dx,q,D,e.rt,e.rv,e.rx,r.pat,x.tree,u,Y,L,I,λH3 k3 C=>?_⟩;obtain⟨h3,m⟩:=on H3 k3 C;have p:=Fy L.ask.w I r.pat;rw[p];refine⟨_,Y,?_⟩;cases a:mt r.pat (j_ x.tree u 1) with
   |true=>refine bR ⟨_,Y,?_⟩;have:=f H3 d2 ((K.trans l).trans m) h3 (M.trans W);rw[ab7 T a S]at this;exact this
   |false=>
    refine cJ ⟨_,d2,Y,(K.trans l).trans m,h3,M.trans W,λj R hj N=>?_⟩;rcases cY j i with y|y
    .exact S j R y N
    .have:j=i:=by lia
     subst this;rw[T]at N;rw[<-bH N];exact a
  .rintro σ H' ⟨F,P,rfl,K,G,W,S⟩;have:=f H' P K G W;rw[ab8 λj R N=>S j R (cV.mp N).1 N]at this;exact this
theorem Qh(Z:HY):Ok 73 54 ["self","node"] (MT zc):=by
 refine Z.Ke.Go ["self","node","like"] λcdv A outer s H vs Q E B nd h=>?_
 .obtain⟨s,x,n,d,u,rfl,h,U,C⟩:=h;have I:=jF B;refine⟨_,(aA (bN 2 nd (aN bI (aC (aC (pv 0))) (pv 1)))
   (aA (bT (Aw (EK I (pv 2) (aC (pv 0)))) (aJ (tF I (aC (pv 0)) (pv 2) (bX (pv 0) Z.tH.cl Z.FQ (PK Z).g B (PK Z).b .nil bq (af (pv 1) ay)) Y)) b8)
   (aJ (bh (ow I (aC (pv 0)) (pv 2) (λ_ _=>Y)))))),?_⟩
  dsimp only[xk];have r:x.tree≠[]:=λz=>by rw[z]at U;simp at U
  obtain⟨S0,tr,K,j,L,ht,F⟩:=h.sz r;obtain⟨f,_,_,_,_,_,_,_,rk,_,_,G,_,_,_,_,D,_⟩:=id j;have W:=QL L (J x.tree) u byA U;have S:=aai L U;refine⟨_,Y,h.ins,Z.tH,K,G,Z.tT,Y,_,Y,aj.of D,cU (x:=fN x.tree u) (i_ (by rw[(i9 L).ll];exact U)),?_⟩;obtain⟨lk,O⟩:∃lk,lk=fN x.tree u:=⟨_,Y⟩;rw[<-O]at W S ⊢;rw[F]at W S;refine gn ?_;dsimp only;refine⟨_,Y,_,Y,h.ins,Z.tH,Y,d.fr,_,Y,.inl ⟨d.fk,bx (lk:Int),.inl h.hfr,Y,Y⟩,_,Y,?_⟩;cases hv:bU d.fk (bx (lk:Int)) with
  |some v=>have w:=h.fst.val _ _ hv lk Y;rw[W]at w;refine cJ ⟨_,Y,h.ins,Z.tH,Y,_,Y,d.fr,_,Y,.inl ⟨d.fk,bx (lk:Int),.inl h.hfr,Y,hv.symm⟩,?_⟩;rw[w];exact C H d cE.refl h Y
  |none=>
   refine bR ⟨_,Y,h.ins,Y,_,Y,s,x,n,d,u,Y,h,U,λH1 M p R T=>?_⟩;have i:(bx (lk:Int):Key)∈(bA (J M.seen)).map λm:Nat=>(bx (m:Int):Key):=kM.mpr ⟨lk,iB.mpr (by rw[T];exact S),Y⟩;have l:∀m:Nat,(bx (lk:Int):Key)=bx (m:Int)->o5 (ja x.rules (j_ x.tree u 1))=o5 (ja x.rules (ud M.seen m)):=λm e=>by
    injection e with e
    have:lk=m:=oO e;subst this;rw[T,W]
   have P:=R.fst.put (v:=o5 (ja x.rules (j_ x.tree u 1))) i l;have N:=R.fst.len;rw[aM,ko]at N;have o:=R.ql;refine⟨_,Y,R.ins,Z.tH,Y,_,Y,M.fr,_,Y,nv.k (k:=bx (lk:Int)) R.hfr (by rw[c8];have:=h.vE;lia),?_⟩;obtain⟨y,q⟩:=R.Yg (fk:=putK M.fk (bx (lk:Int)) (o5 (ja x.rules (j_ x.tree u 1)))) P;refine⟨_,Y,y.ins,Z.tH,Y,_,Y,M.fr,_,Y,.inl ⟨_,bx (lk:Int),.inl aB,Y,(by rw[zQ,aD rfl])⟩,?_⟩;exact C _ _ (p.trans q) y T
theorem P5(Z:HY):Ok 74 55 ["self"] (Xv zc):=by
 refine Z.Kd.Go ["self","node","rule"] λcdv A outer s H vs Q E u nd h=>?_
 .obtain⟨s,x,n,d,rfl,h,M⟩:=h;refine⟨_,(aA (bT (bK lJ (aC (pv 0)) d7 (bB _)) (aJ (bh d7)) b8)
   (aA (iV iG Y (ou byC Z.B.range (af (aC (aC (pv 0))) ay)) (dB 1 nd) (aA (bN 2 nd (bX (pv 0) Z.tH.cl Z.FP (Qh Z).g u (Qh Z).b .nil bq (af (pv 1) ay)))
   (aJ (bT (bK vh (pv 2) d7 (bB _)) (aJ (bh (jD (af (pv 2) (af (pv 1) ay))))) b8))))
   (aJ (bh d7)))),?_⟩
  dsimp only[xk];refine⟨_,Y,h.ins,Z.tH,Y,Y,_,Y,?_⟩;rcases h.vt with⟨z1,z2⟩|⟨zt,VQ,z2⟩
  .refine dW z2 (M H d .az cE.refl h ?_);rw[z1];exact Y
  .refine dD (by rw[z2];simp) ?_;refine fY ?_;dsimp only;obtain⟨S0,tr,L,q,m,ht,v⟩:=h.sz zt;obtain⟨l,_,_,_,_,_,_,_,_,_,_,K,_⟩:=id q;refine⟨_,Y,h.ins,Z.tH,L,K,Z.tT,Y,_,Y,byA,byA,?_⟩;rw[lA];refine qG (lo:=0) (n:=J x.tree) (λi σ H'=>∃(N P:Option V)(T:SD),σ=[O (.ref s),N,P]/\cE H H' s d T/\cg zc H' s x n T/\∀j,j<i->ja x.rules (j_ x.tree j 1)=U)
    ⟨U,U,d,rfl,cE.refl,h,λj r=>by lia⟩ ?_ ?_
   .rintro i σ H' hi ⟨N,P,T,rfl,S,R,W⟩;have p:(0:Int)+(i:Nat)=(i:Nat):=by lia
    rw[p];refine gn ?_;dsimp only;refine⟨_,Y,R.ins,Y,_,Y,s,x,n,T,i,Y,R,hi,λH2 C I D _=>?_⟩;refine gn ?_;dsimp only;refine⟨_,Y,Y,_,Y,?_⟩;cases F:ja x.rules (j_ x.tree i 1) with
    |none=>
     rw[bJ (show o5 U=V.az from rfl)];refine cJ ⟨_,_,C,Y,S.trans I,D,λj r=>?_⟩;rcases cY j i with y|y
     .exact W j y
     .have:j=i:=by lia
      rw[this];exact F
    |some k=>rw[bP (show ¬o5 (O k)=V.az by simp[o5])];refine bR ⟨_,Y,_,Y,(by show 2<=bf;decide),λz w=>?_⟩;have G:=aT (o:=.tup [o5 (O k),V.int (i:Nat)]) w;refine M _ C _ ((S.trans I).trans (cE.of G)) (D.same G) ?_;rw[ZD hi F W];exact⟨z,Y,aB⟩
   .rintro σ H' ⟨N,P,T,rfl,S,R,W⟩;refine M H' T .az S R ?_;rw[ZA W];rfl
theorem AG(Z:HY):Ok 75 56 ["self"] (W7 zc):=by
 refine Z.Kc.Go ["self","place"] λcdv A outer s H vs Q E p nd h=>?_
 .obtain⟨s,x,n,d,rfl,h,c,G⟩:=h;refine⟨_,(aA (bN 1 nd (mU (pv 0) Z.tH.cl Z.FO (P5 Z).g p (P5 Z).b .nil bq))
   (aA (bT (bK lJ (pv 1) d7 (bB _)) (aJ (bh (kD kB aK))) b8)
   (aJ (bh (l6 (jB (bX (pv 0) Z.tH.cl Z.A6 (AI Z).g p (AI Z).b .nil bq (af (aN cC (pv 1) aK) (af (aN cC (pv 1) aK) (af aK ay)))) byF) (aN cC (pv 1) aK) (kD kB aK)))))),?_⟩
  dsimp only[xk]
  have W:Sh.step x .step=(match Sh.next x.rules x.tree with
   |none=>(x,Sh.says (-1))
   |some (k,u)=>if Sh.NODES<J u then(x,Sh.says (-3)) else({x with tree:=u },Sh.says k)):=rfl
  refine⟨_,Y,h.ins,Y,s,x,n,d,Y,h,λH1 l v I L hv=>?_⟩;refine gn ?_;dsimp only;refine⟨_,Y,Y,_,Y,?_⟩;cases R:qx x.rules x.tree with
  |none=>
   rw[R]at hv;have hv:v=.az:=hv;refine dW hv ?_;have T:Sh.next x.rules x.tree=U:=by
    rcases h.vt with⟨z1,_⟩|⟨K,_⟩
    .rw[z1];rfl
    .obtain⟨S0,tr,D,hT,M,ht,C⟩:=h.sz K;rw[QA M,R];rfl
   rw[T]at W;have:=G H1 l I (by rw[W];exact L.mono byA);rw[W]at this;exact⟨_,Y,this⟩
  |some ki=>
   obtain⟨k,i⟩:=ki;rw[R]at hv;obtain⟨z,rfl,N⟩:=hv;refine dD byB ?_;refine fY ?_;dsimp only;obtain⟨hi,a⟩:=Zz R;have K:x.tree≠[]:=λy=>by rw[y]at hi;simp at hi
   obtain⟨S0,tr,D,hT,M,ht,C⟩:=h.sz K;obtain⟨r,b,S,hb⟩:=Ow M hi a;have B:(Sh.waysAt x.tree r.pat i)[0]?=O b:=by unfold Sh.firstWayAt at hb;rw[aD hi,ua]at hb;unfold Sh.waysAt;rw[aD hi,<-Ue];exact hb
   have T:Sh.next x.rules x.tree=O (k,Sh.rewritten x.tree r i b):=by rw[QA M,R];simp only[TM];unfold qh;rw[S];simp only;rw[hb];rfl
   rw[T]at W;simp only at W;refine⟨_,Y,L.ins,Y,_,Y,bu.of N,bQ (j:=0) Y,_,Y,bu.of N,bQ (j:=1) Y,s,x,n,l,k,i,0,r,b,Y,L,S,B,c,λy H2 q P w=>?_,λy H2 q P w=>?_⟩
   .rw[aD (show Sh.NODES<_ from y)]at W;refine⟨_,Y,cJ ?_⟩;have:=G H2 q (I.trans P) (by rw[W];exact w.mono byA);rw[W]at this;exact⟨_,Y,this⟩
   .rw[ao (show ¬Sh.NODES<_ by show ¬256<_;lia)]at W;have F:H2 z=O (.tup [.int (k:Nat),.int (i:Nat)]):=by refine P.kp z _ N λe=>?_;obtain⟨o,m,f⟩:=L.cut z e;rw[N]at m;rw[<-bH m]at f;exact f
    refine⟨_,Y,bR ⟨_,Y,bu.of F,bQ (j:=0) Y,?_⟩⟩;have:=G H2 q (I.trans P) (by rw[W];exact w);rw[W]at this;exact this
theorem Yq(T:x.rules=rules):(0<=(cX x .step).2.ret/\(cX x .step).1.rules=rules/\jK rules (m+1) x.tree=((jK rules m (cX x .step).1.tree).1,(jK rules m (cX x .step).1.tree).2.1+1,(jK rules m (cX x .step).1.tree).2.2)) \/
 ((cX x .step).2.ret=-1/\(cX x .step).1=x/\jK rules (m+1) x.tree=(x.tree,0,0))\/((cX x .step).2.ret=-3/\(cX x .step).1=x/\jK rules (m+1) x.tree=(x.tree,0,2)):=by
 have Z:cX x .step=(match JB x.rules x.tree with
  |none=>(x,eK (-1))
  |some (k,u)=>if sy<J u then(x,eK (-3)) else({x with tree:=u },eK k)):=rfl
 have W:jK rules (m+1) x.tree=(match JB rules x.tree with
  |none=>(x.tree,0,0)
  |some (_,u)=>if sy<J u then(x.tree,0,2) else((jK rules m u).1,(jK rules m u).2.1+1,(jK rules m u).2.2)):=rfl
 rw[T]at Z;rw[Z,W];cases JB rules x.tree with
 |none=>exact .inr (.inl ⟨Y,Y,Y⟩)
 |some U=>
  obtain⟨k,u⟩:=U;simp only;by_cases z:sy<J u
  .rw[aD z,aD z];exact .inr (.inr ⟨Y,Y,Y⟩)
  .rw[ao z,ao z];exact .inl ⟨Int.natCast_nonneg k,Y,Y⟩
theorem PX(Z:HY):Ok 76 57 ["self","most"] (Xh zc):=by
 refine Z.Ka.Go ["self","most","done","step"] λcdv A outer s H vs Q E r nd h=>?_
 .obtain⟨s,x,n,d,m,rfl,h,j,I⟩:=h;obtain⟨l,q⟩:=Z.GG.steps;refine⟨_,(aA (bT (bK rF (pv 1) (eY (v:=.int 200) byC q ⟨_,Y⟩) (bB _)) (aJ (bh (dQ (af (kD kB aK) ay)))) b8)
   (aA (iV iG Y (ou byC Z.B.range (af (pv 1) ay)) (dB 2 nd) (aA (bN 3 nd (mU (pv 0) Z.tH.cl Z.A5 (AG Z).g r (AG Z).b .nil bq))
   (aJ (bT (bK rE (pv 3) aK (bB _)) (aJ (bh (dQ (af (pv 2) (af (l6 (bK eW (pv 3) (kD kB aK) (bB _)) aK aK) ay))))) b8))))
   (aJ (bh (dQ (af (pv 1) (af aK ay))))))),?_⟩
  have W:cX x (.run m)=if JC<m then(x,eK (-1)) else({x with tree:=(jK x.rules m x.tree).1 },⟨((jK x.rules m x.tree).2.1:Int),[(jK x.rules m x.tree).2.2]⟩):=rfl;refine⟨_,Y,_,_,Y,Y,_,Y,?_⟩;by_cases z:200<m
  .rw[bJ (show(200:Int)<(m:Int) by lia)];rw[aD (show JC<m from z)]at W;refine bR ⟨_,Y,(by show 1<=bf;decide),λD P=>?_⟩;have N:=aT (o:=.lst [V.int (-1)]) P;refine I _ d D (cE.of N) (by rw[W,ao byA];exact h.same N) ?_ (cE.refl.newD P) (h.new P);rw[W];exact aB
  .rw[bP (show ¬(200:Int)<(m:Int) by lia)];rw[ao (show ¬JC<m from z)]at W;rw[aD byA]at I;refine cJ ?_;refine fY ?_;dsimp only;refine⟨_,Y,_,Y,byA,byA,?_⟩;rw[lA];refine qG (lo:=0) (n:=m) (λi σ H'=>∃(C F:Option V)(M:SD)(S:fU),σ=[O (.ref s),O (.int (m:Nat)),C,F]/\cE H H' s d M/\cg zc H' s S (n+i) M/\S.rules=x.rules/\jK x.rules m x.tree=((jK x.rules (m-i) S.tree).1,(jK x.rules (m-i) S.tree).2.1+i,(jK x.rules (m-i) S.tree).2.2))
    ⟨U,U,d,x,rfl,cE.refl,h,rfl,rfl⟩ ?_ ?_
   .rintro i σ H' hi ⟨C,F,M,S,rfl,J,L,R,T⟩;have p:(0:Int)+(i:Nat)=(i:Nat):=by lia
    rw[p];refine gn ?_;dsimp only;refine⟨_,Y,L.ins,Y,s,S,n+i,M,Y,L,byA,λH2 w u G=>?_⟩;refine gn ?_;dsimp only;have em:m-i=(m-(i+1))+1:=by lia
    rw[em]at T;have y:=J.trans u;have K:∀(rr:Nat),(cX S .step).1=S->jK x.rules (m-(i+1)+1) S.tree=(S.tree,0,rr)->∀D,H2 D=U->Q (.ref D) (upd H2 D (.lst [V.int (i:Nat),V.int (rr:Nat)])):=λrr e1 e2 D P=>by
     have N:=aT (o:=.lst [V.int (i:Nat),V.int (rr:Nat)]) P;rw[e2]at T;simp only[qM]at T;rw[T]at W;refine I _ w D (y.trans (cE.of N)) ?_ ?_ (y.newD P) (G.new P)
     .rw[W];have ex:({x with tree:=S.tree }:fU)=S:=by cases S;simp only at R;rw[R]
      show cg zc _ s {x with tree:=S.tree } (n+m) w;rw[ex];rw[e1]at G;exact(G.same N).mono byA
     .rw[W];exact aB
    rcases Yq (m:=m-(i+1)) R with⟨q1,q2,q3⟩|⟨q1,q2,q3⟩|⟨q1,q2,q3⟩
    .refine⟨_,rfl,_,_,rfl,rfl,_,rfl,?_⟩;refine dD (show ¬(cX S .step).2.ret<0 by lia) ⟨_,_,w,(cX S .step).1,Y,y,G,q2,?_⟩;rw[T,q3];simp only;refine Prod.ext Y (Prod.ext ?_ Y);show _+1+i=_+(i+1);lia
    .rw[q1];refine⟨_,Y,_,_,Y,Y,_,Y,?_⟩;refine bR ⟨_,Y,_,Y,⟨_,Y,Y,_,Y,?_⟩⟩;exact bR ⟨(by show 2<=bf;decide),K 0 q2 q3⟩
    .rw[q1];refine⟨_,Y,_,_,Y,Y,_,Y,?_⟩;refine bR ⟨_,Y,_,Y,⟨_,Y,Y,_,Y,?_⟩⟩;exact cJ ⟨(by show 2<=bf;decide),K 2 q2 q3⟩
   .rintro σ H' ⟨C,F,M,S,rfl,J,L,R,T⟩;rw[TU]at T;have T:jK x.rules m x.tree=(S.tree,0+m,1):=T;rw[T]at W;refine⟨_,Y,(by show 2<=bf;decide),λD P=>?_⟩;have N:=aT (o:=.lst [V.int (m:Nat),V.int 1]) P;refine I _ M D (J.trans (cE.of N)) ?_ ?_ (J.newD P) (L.new P)
    .rw[W];have ex:({x with tree:=S.tree }:fU)=S:=by cases S;simp only at R;rw[R]
     show cg zc _ s {x with tree:=S.tree } (n+m) M;rw[ex];exact L.same N
    .rw[W,aB];show _=O (HO.lst [V.int ((0+m:Nat):Int),V.int ((1:Nat):Int)]);rw[qM];rfl
theorem Pz(Z:HY):Ok 1 58 ["self"] (W6 zc):=by
 refine Z.J'.Go ["self","told","node"] λcdv A outer s H vs Q E c nd h=>?_
 .obtain⟨s,x,n,d,rfl,h,K⟩:=h;refine⟨_,(aA (bT (bK lJ (aC (pv 0)) d7 (bB _)) (aJ (bh (dQ (af aK ay)))) b8)
   (aA (bN 1 nd (dQ (af (aC (aC (pv 0))) ay)))
   (aA (iV iG Y (ou byC Z.B.range (af (aC (aC (pv 0))) ay)) (dB 2 nd) (aJ (iW (kY PySem.F.plainAttrs_list PySem.F.slot_list_extend PySem.F.type_list_extend A1 (pv 1) (af (dQ (af (aN bI (aC (aC (pv 0))) (pv 2)) (af (fy iN byC Z.B.len PySem.boot_len (af (aN bI (aC (aC (pv 0))) (pv 2)) ay)) ay))) ay)))))
   (aJ (bh (pv 1)))))),?_⟩
  dsimp only[xk];have R:(cX x .nodes).2=⟨(J x.tree:Int),x.tree.flatMap fun(n:aO)=>[n.label,n.kids]⟩:=rfl;rw[R]at K;refine⟨_,Y,h.ins,Z.tH,Y,Y,_,Y,?_⟩;rcases h.vt with⟨z1,z2⟩|⟨zt,VQ,z2⟩
  .refine dW z2 ⟨(by show 1<=bf;decide),λD P=>K _ D (aT P) ?_ P⟩;rw[aB,z1];rfl
  .refine dD (by rw[z2];simp) ?_;refine fY ?_;dsimp only;obtain⟨S0,tr,T,m,z,ht,p⟩:=h.sz zt;obtain⟨dt,ki,rl,rr,ra,rp,rn,re,rk,cF,rll,S,j,hl,_⟩:=id m;refine⟨_,Y,h.ins,Z.tH,T,S,Z.tT,Y,(by show 1<=bf;decide),λD P=>?_⟩;have s0:aG H (upd H D (.lst [V.int (J x.tree:Nat)])):=aT P;have N:upd H D (.lst [V.int (J x.tree:Nat)]) D=O (.lst [V.int (J x.tree:Nat)]):=aB;refine gn ?_;dsimp only;generalize upd H D (.lst [V.int (J x.tree:Nat)])=H0 at s0 N;have g:=h.same s0;refine⟨_,Y,g.ins,Z.tH,T,s0 _ _ S,Z.tT,Y,_,Y,byA,byA,?_⟩;rw[lA];refine qG (lo:=0) (n:=J x.tree) (λi σ H'=>∃(M:Option V),σ=[O (.ref s),O (.ref D),M]/\aG H H'/\H' D=O (.lst (V.int (J x.tree:Nat)::aq ((x.tree.take i).flatMap fun(n:aO)=>[n.label,n.kids]))))
    ⟨U,rfl,s0,N⟩ ?_ ?_
   .rintro i σ H' hi ⟨M,rfl,s1,W⟩;have f:(0:Int)+(i:Nat)=(i:Nat):=by lia
    rw[f];refine gn ?_;dsimp only;have y:=h.same s1;obtain⟨as,au,r,v,w⟩:=j.row (jO z) (u:=i) byE;have I:J (rowAt (lay (ah x.tree)).rows i)=x.tree[i].kids:=by have:=lW z (u:=i) byA;rw[mq hi]at this;exact this
    refine⟨_,Y,.inl ⟨Y,_,aj.of W⟩,?_⟩;refine⟨_,Y,y.ins,Z.tH,T,s1 _ _ S,Z.tT,Y,_,Y,aj.of (s1 _ _ hl),cU (x:=x.tree[i].label) (by rw[bM,aX hi];rfl),_,Y,y.ins,Z.tH,T,s1 _ _ S,Z.tT,Y,_,Y,aj.of (s1 _ _ r),kI v,.inl (aj.of (s1 _ _ w)),(by show 2<=bf;decide),λL C=>?_⟩;rw[aM,I];have s2:=aT (o:=.lst [V.int ((x.tree[i].label:Nat):Int),V.int ((x.tree[i].kids:Nat):Int)]) C;have G:J ((x.tree.take i).flatMap fun(n:aO)=>[n.label,n.kids])=2*i:=by
     have:∀l:List aO,J (l.flatMap fun(n:aO)=>[n.label,n.kids])=2*J l:=by
      intro l
      induction l with
      |nil=>rfl
      |cons a l q=>rw[mP,fO,q];simp;lia
     rw[this,lu];lia
    refine⟨D,L,_,_,Y,Y,s2 _ _ W,aB,by rw[iI,aM,G,c8];show _+2<=_;lia,?_⟩;refine⟨_,Y,λb o e=>aE (aQ e P) (s2 _ _ (s1 _ _ e)),?_⟩;rw[aB,kR (aX hi),yS];congr 2;show _=V.int _::fC _ (_++_);rw[dw];rfl
   .rintro σ H' ⟨M,rfl,s1,W⟩;rw[kK]at W;refine⟨_,Y,K H' D s1 ?_ P⟩;rw[W];congr 2;show _=V.int _::fC V.int (fC _ _);rw[iZ];rfl
end
structure AC(K:PySem.W.Frag)(c:Cz)(H:Hp)(s rd bG a:aa)(ns:List Int)(i:Nat)(x:fU)(n:Nat)(d:SD):Prop where
 hrd:H rd=O (.ins c.mS bG (mT a i))
 own:H bG=O (.own rd)
 sh:cg c (iY [rd,bG] H) s x n d
 nums:Bx (d.X s) (iY [rd,bG] H) (λH=>aj K H a (bF ns))
section
variable{K:PySem.W.Frag}{c:Cz}{H:Hp}{s rd bG a:Addr}{ns:List Int}{i:Nat}{x:Sh.State}{n:Nat}{d:SD}
theorem AC.cut(h:AC K c H s rd bG a ns i x n d):sO [rd,bG] H:=by
 intro b hb;simp only[bE,fH,fM]at hb;rcases hb with z|z
 .rw[z];exact⟨_,h.hrd,by show bG∈[rd,bG];simp⟩
 .rw[z];exact⟨_,h.own,by show rd∈[rd,bG];simp⟩
theorem I_(X:List aa)(H:Hp):aG (iY X H) H:=λb o e=>by
 by_cases z:b∈X
 .rw[rY z]at e;cases e
 .rw[iM z]at e;exact e
theorem AC.seq(h:AC K c H s rd bG a ns i x n d):aj K H a (bF ns):=(I_ _ _).seq h.nums.here
theorem AC.ins(h:AC K c H s rd bG a ns i x n d):H s=O (.ins c.fE d.dx (o4 d)):=I_ _ _ _ _ h.sh.ins
theorem AC.read(h:AC K c H s rd bG a ns i x n d)(k:ig rd H H')(e:H' rd=O (.ins c.mS bG (mT a j))):AC K c H' s rd bG a ns j x n d:=by
 have nx:bG≠rd:=bZ h.own h.hrd (by intro z;cases z);have Y:aG (iY [rd,bG] H) (iY [rd,bG] H'):=λb o Z=>by
  by_cases z:b∈[rd,bG]
  .rw[rY z]at Z;cases Z
  .rw[iM z]at Z ⊢;exact k b o Z λy=>z (by rw[y];simp)
 exact⟨e,k _ _ h.own nx,h.sh.same Y,h.nums.on (bg.of Y) λa h=>.inl h⟩
theorem AC.same(h:AC K c H s rd bG a ns i x n d)(k:aG H H'):AC K c H' s rd bG a ns i x n d:=h.read (λb o e _=>k b o e) (k _ _ h.hrd)
theorem AC.go(h:AC K c H s rd bG a ns i x n d)(hx:∀b∈[rd,bG],H1 b=U)(t:cE (iY [rd,bG] H) H1 s d d')(h':cg c H1 s x' n' d'):AC K c (i8 [rd,bG] H H1) s rd bG a ns i x' n' d':=by
 have e:iY [rd,bG] (i8 [rd,bG] H H1)=H1:=by
  funext b;by_cases z:b∈[rd,bG]
  .rw[rY z,hx b z]
  .rw[iM z,lK z]
 refine⟨by rw[pD byB];exact h.hrd,by rw[pD byB];exact h.own,by rw[e];exact h',?_⟩;rw[e];exact h.nums.on t.kp t.sub
theorem AC.mono(h:AC K c H s rd bG a ns i x n d)(Z:n<=m)(Y:m<=20000:=by lia):AC K c H s rd bG a ns i x m d:=⟨h.hrd,h.own,h.sh.mono Z Y,h.nums⟩
theorem AC.Ei(h:AC K c H s rd bG a ns i x n d)(e:H' D=O o)(f:H D=U):iY [rd,bG] H' D=O o/\D∉d.X s:=by
 refine⟨?_,h.sh.new ?_⟩
 .rw[iM]
  .exact e
  .simp only[bE,fH,fM,fS];exact⟨λz=>(by rw[z,h.hrd]at f;cases f),λz=>(by rw[z,h.own]at f;cases f)⟩
 .unfold iY;split
  .rfl
  .exact f
end
theorem Eu{ns:List Int}{j:Nat}{x t:List Int}(h:Cf (ns.drop j)=O (x,t)):∃k:Nat,ns[j]?=O (k:Int)/\j+1+k<=J ns/\x=(ns.drop (j+1)).take k/\t=ns.drop (j+1+k):=by
 cases e:ns.drop j with
 |nil=>rw[e]at h;cases h
 |cons p r=>
  rw[e]at h;have Y:j<J ns:=by
   rcases cY j (J ns) with z|z
   .exact z
   .rw[wB z]at e;cases e
  have e2:=kr Y;rw[e]at e2;injection e2 with T Z
  simp only[Cf]at h;split at h
  .rename_i S;have h:=bH h;injection h with U W
   refine⟨p.toNat,?_,?_,?_,?_⟩
   .rw[aX Y,<-T];congr 1;lia
   .have:J r=J ns-(j+1):=by rw[Z];simp
    lia
   .rw[<-U,Z]
   .rw[<-W,Z,uD]
  .cases h
theorem abH{ns:List Int}{j:Nat}{p:Int}{r:List Int}(e:ns.drop j=p::r):ns[j]?=O p/\r=ns.drop (j+1)/\j<J ns:=by
 have Z:j<J ns:=by
  rcases cY j (J ns) with z|z
  .exact z
  .rw[wB z]at e;cases e
 have e2:=kr Z;rw[e]at e2;injection e2 with W Y
 exact⟨by rw[aX Z,W],Y,Z⟩
inductive Parsed(ns:List Int)(i:Nat):List (List Int)->Nat->Prop
 |tree (k:Nat):ns[i]?=O 1->ns[i+1]?=O (k:Int)->i+2+k<=J ns->Parsed ns i [[1],(ns.drop (i+2)).take k] (i+2+k)
 |rule (k m:Nat):ns[i]?=O 2->ns[i+1]?=O (k:Int)->i+2+k<=J ns->ns[i+2+k]?=O (m:Int)->i+3+k+m<=J ns->Parsed ns i [[2],(ns.drop (i+2)).take k,(ns.drop (i+3+k)).take m] (i+3+k+m)
 |nums (p:Int) (m:Nat) (l:List Int):ns[i]?=O p->(p=3/\m=2\/p=4/\m=2\/p=5/\m=4\/p=6/\m=3\/p=7/\m=0\/p=8/\m=1\/p=9/\m=0)->i+1+m<=J ns->l=(ns.drop (i+1)).take m->J l=m->Parsed ns i [p::l] (i+1+m)
theorem Zc{ns:List Int}{i:Nat}{cc:List (List Int)}{t:List Int}(h:Tv sD (ns.drop i)=O (cc,t)):∃i',Parsed ns i cc i'/\t=ns.drop i'/\i<i'/\i'<=J ns:=by
 cases e:ns.drop i with
 |nil=>rw[e]at h;cases h
 |cons p r=>
  rw[e]at h;obtain⟨I,R,hi⟩:=abH e;have n:J r=J ns-(i+1):=by rw[R];simp
  simp only[Tv]at h;have W:∀(m:Nat),sD p=O (m,0)->(p=3/\m=2\/p=4/\m=2\/p=5/\m=4\/p=6/\m=3\/p=7/\m=0\/p=8/\m=1\/p=9/\m=0)->∃i',Parsed ns i cc i'/\t=ns.drop i'/\i<i'/\i'<=J ns:=by
   intro m S K;rw[S]at h;simp only at h;split at h
   .cases h
   .rename_i hl;simp only[Tu]at h;have h:=bH h;injection h with P Q
    refine⟨i+1+m,?_,?_,byA,byA⟩
    .rw[<-P,R];exact .nums p m _ I K byA Y (by rw[lu,nj];lia)
    .rw[<-Q,R,uD]
  by_cases w:p=1
  .subst w;have S:sD 1=O (0,1):=rfl;rw[S]at h;simp only at h;rw[ao byA,J6,aeQ]at h;simp only[Tu]at h;cases Z:Cf r with
   |none=>rw[Z]at h;cases h
   |some y=>
    obtain⟨s,H⟩:=y;rw[Z]at h;have h:=bH h;injection h with P Q
    rw[R]at Z;obtain⟨k,L,o,M,N⟩:=Eu Z;refine⟨i+2+k,?_,?_,byA,byA⟩
    .rw[<-P,M];exact .tree k I L byA
    .rw[<-Q,N]
  .by_cases x:p=2
   .subst x;have S:sD 2=O (0,2):=rfl;rw[S]at h;simp only at h;rw[ao byA,J6,aeQ]at h;simp only[Tu]at h;cases Z:Cf r with
    |none=>rw[Z]at h;cases h
    |some y=>
     obtain⟨s,H⟩:=y;rw[Z]at h;simp only at h;rw[R]at Z;obtain⟨k,L,o,M,N⟩:=Eu Z;cases T:Cf H with
     |none=>rw[T]at h;cases h
     |some z=>
      obtain⟨j,l⟩:=z;rw[T]at h;have h:=bH h;injection h with P Q
      rw[N]at T;obtain⟨m,u,q,m3,v⟩:=Eu T;have e1:i+1+1+k=i+2+k:=by lia
      have e2:i+1+1+k+1=i+3+k:=by lia
      rw[e1]at u;rw[e2]at m3 q v;refine⟨i+3+k+m,?_,?_,byA,byA⟩
      .rw[<-P,M,m3];exact .rule k m I L byA u byA
      .rw[<-Q,v]
   .by_cases A:p=3
    .exact W 2 (by rw[A];rfl) byA
    .by_cases B:p=4
     .exact W 2 (by rw[B];rfl) byA
     .by_cases C:p=5
      .exact W 4 (by rw[C];rfl) byA
      .by_cases D:p=6
       .exact W 3 (by rw[D];rfl) byA
       .by_cases E:p=7
        .exact W 0 (by rw[E];rfl) byA
        .by_cases F:p=8
         .exact W 1 (by rw[F];rfl) byA
         .by_cases G:p=9
          .exact W 0 (by rw[G];rfl) byA
          .have S:sD p=U:=by unfold sD;rw[ao w,ao x,ao A,ao B,ao C,ao D,ao E,ao F,ao G]
           rw[S]at h;cases h
theorem iu(h:kJ z=true):0<=z/\z<4294967296:=by unfold kJ at h;simpa using h
theorem AS(a:yy):nW a=yr a:=by cases a;rfl
theorem EW(h:a.nums=[]):nW a=[a.ret]:=by
 cases a with
 |mk r l=>simp only at h;subst h;rfl
theorem Js{l:List Int}(h:l.all kJ=true):∀n∈l,0<=n:=λn Z=>(iu (qa.mp h n Z)).1
theorem Td(x:fU)(k i w:Nat):(cX x (.apply k i w)).2.nums=[]:=by
 have Z:cX x (.apply k i w)=(match x.rules[k]?,(mH x k i)[w]? with
  |some r,O b=>let t:=qK x.tree r i b
   if sy<J t then(x,eK (-3)) else({x with tree:=t },eK 1)
  |_,_=>(x,eK 0)):=rfl
 rw[Z];split
 .simp only;split<;>rfl
 .rfl
theorem MG(x:fU):(cX x .step).2.nums=[]:=by
 have Z:cX x .step=(match JB x.rules x.tree with
  |none=>(x,eK (-1))
  |some (k,u)=>if sy<J u then(x,eK (-3)) else({x with tree:=u },eK k)):=rfl
 rw[Z];split
 .rfl
 .split<;>rfl
inductive XW(K:PySem.W.Frag)(c:Cz)(vs:List V)(H:Hp)(Q:VK)(E_:XK):Prop
 |mk(s rd bG a:aa)(ns:List Int)(i i':Nat)(x:fU)(n:Nat)(d:SD)(cc:List (List Int))(_:vs=[.ref s,.ref rd])(_:AC K c H s rd bG a ns i x n d)(_:Parsed ns i cc i')(_:Jz (jv cc)=true)(_:J ns<=30000)(_:n<=2000)(_:∀(H':Hp) (D:aa) (d':SD),AC K c H' s rd bG a ns i' (oH x (jv cc)).1 (n+1+(sf (jv cc)).toNat) d'->H' D=O (.lst (bF (oH x (jv cc)).2))->Q (.ref D) H')
section
theorem rj{i:Nat}{v k:V}{A R:TS}{D:Ends}{σ:L2.St}{H:Hp}(h:R D σ H)(e:σ[i]?=O (O v):=by rfl)(s:Ej v k=true:=by rfl)(n:decide (v=k)=false:=by rfl):qW (DN (Mi (qX OW (zZ i) (tC k))) A DM) R D σ H:=
 ⟨v,e,s,_,rfl,by rw[n];exact cJ h⟩
theorem Qo(Z:HY):Ok 77 59 ["shapes","reader"] (XW zK zc):=by
 have G1:=e_.cut (Ql Z).g;have G2:=e_.cut (Qp Z).g;have G3:=e_.cut (Qi Z).g;have G4:=e_.cut (Qk Z).g;have G5:=e_.cut (PB Z).g;have G6:=e_.cut (Qn Z).g;have G7:=e_.cut (AG Z).g;have G8:=e_.cut (PX Z).g;have G9:=e_.cut (Pz Z).g;refine Z.CV.Go ["shapes","reader","call","pattern","numbers"] λcdv A outer s H vs Q E hr nd h=>?_
 .obtain⟨s,rd,bG,a,ns,i,i',x,n,d,cc,rfl,h,hP,C,hK,hn,kk⟩:=h;have rm:∀{k:Nat},k<=76->bS k _:=λhk=>hr.mono hk;have r1:bS 1 _:=rm byD;have r2:bS 2 _:=rm byD;have r3:bS 3 _:=rm byD;have r5:bS 5 _:=rm byD;have r6:bS 6 _:=rm byD;have hB:bS 71 _:=rm byD;have hy:bS 72 _:=rm byD;have hx:bS 74 _:=rm byD;have hh:bS 75 _:=rm byD;obtain⟨t1,g1⟩:=Z.GG.tree;obtain⟨t2,g2⟩:=Z.GG.rule;obtain⟨t3,g3⟩:=Z.GG.find;obtain⟨t4,g4⟩:=Z.GG.ways;obtain⟨t5,g5⟩:=Z.GG.fill;obtain⟨t6,g6⟩:=Z.GG.apply;obtain⟨t7,g7⟩:=Z.GG.step;obtain⟨t8,g8⟩:=Z.GG.run;obtain⟨t9,g9⟩:=Z.GG.nodes;refine⟨_,(aA (bN 2 nd (mU (pv 1) Z.tD.cl Z.xQ (vn Z).g r2 (vn Z).b .nil bq))
   (aA (bT (bK eW (pv 2) (eY (v:=.int 1) byC g1 ⟨_,Y⟩) (bB _)) (aJ (bh (dQ (af (bX (pv 0) Z.tH.cl Z.F_ G1 r5 (Ql Z).b .nil bq (af (mU (pv 1) Z.tD.cl Z.xP (vm Z).g r3 (vm Z).b .nil bq) ay)) ay)))) b8)
   (aA (bT (bK eW (pv 2) (eY (v:=.int 2) byC g2 ⟨_,Y⟩) (bB _)) (aA (bN 3 nd (mU (pv 1) Z.tD.cl Z.xP (vm Z).g r3 (vm Z).b .nil bq))
   (aJ (bh (dQ (af (bX (pv 0) Z.tH.cl Z.FZ G2 r6 (Qp Z).b .nil bq (af (pv 3) (af (mU (pv 1) Z.tD.cl Z.xP (vm Z).g r3 (vm Z).b .nil bq) ay))) ay))))) b8)
   (aA (bT (bK eW (pv 2) (eY (v:=.int 3) byC g3 ⟨_,Y⟩) (bB _)) (aA (bN 4 nd (bX (pv 1) Z.tD.cl Z.rL (nI Z).g r1 (nI Z).b .nil bq (af aK ay)))
   (aJ (bh (bX (pv 0) Z.tH.cl Z.FW G3 hy (Qi Z).b .nil bq (af (aN bI (pv 4) aK) (af (aN bI (pv 4) aK) ay)))))) b8)
   (aA (bT (bK eW (pv 2) (eY (v:=.int 4) byC g4 ⟨_,Y⟩) (bB _)) (aA (bN 4 nd (bX (pv 1) Z.tD.cl Z.rL (nI Z).g r1 (nI Z).b .nil bq (af aK ay)))
   (aJ (bh (dQ (af (bX (pv 0) Z.tH.cl Z.FY G4 hB (Qk Z).b .nil bq (af (aN bI (pv 4) aK) (af (aN bI (pv 4) aK) ay))) ay))))) b8)
   (aA (bT (bK eW (pv 2) (eY (v:=.int 5) byC g5 ⟨_,Y⟩) (bB _)) (aA (bN 4 nd (bX (pv 1) Z.tD.cl Z.rL (nI Z).g r1 (nI Z).b .nil bq (af aK ay)))
   (aJ (bh (bX (pv 0) Z.tH.cl Z.FU G5 hx (PB Z).b .nil bq (af (aN bI (pv 4) aK) (af (aN bI (pv 4) aK) (af (aN bI (pv 4) aK) (af (aN bI (pv 4) aK) ay)))))))) b8)
   (aA (bT (bK eW (pv 2) (eY (v:=.int 6) byC g6 ⟨_,Y⟩) (bB _)) (aA (bN 4 nd (bX (pv 1) Z.tD.cl Z.rL (nI Z).g r1 (nI Z).b .nil bq (af aK ay)))
   (aJ (bh (dQ (af (bX (pv 0) Z.tH.cl Z.FT G6 hh (Qn Z).b .nil bq (af (aN bI (pv 4) aK) (af (aN bI (pv 4) aK) (af (aN bI (pv 4) aK) ay)))) ay))))) b8)
   (aA (bT (bK eW (pv 2) (eY (v:=.int 7) byC g7 ⟨_,Y⟩) (bB _)) (aJ (bh (dQ (af (mU (pv 0) Z.tH.cl Z.A5 G7 hh (AG Z).b .nil bq) ay)))) b8)
   (aA (bT (bK eW (pv 2) (eY (v:=.int 8) byC g8 ⟨_,Y⟩) (bB _)) (aJ (bh (bX (pv 0) Z.tH.cl Z.FN G8 hr (PX Z).b .nil bq (af (mU (pv 1) Z.tD.cl Z.xQ (vn Z).g r2 (vn Z).b .nil bq) ay)))) b8)
   (aA (bT (bK eW (pv 2) (eY (v:=.int 9) byC g9 ⟨_,Y⟩) (bB _)) (aJ (bh (mU (pv 0) Z.tH.cl Z.FL G9 r1 (Pz Z).b .nil bq))) b8)
   (aJ YL))))))))))),?_⟩
  dsimp only[xk];have one:∀{Hx:Hp}{dx:SD}(z:Int),AC zK zc Hx s rd bG a ns i' (oH x (jv cc)).1 (n+1+(sf (jv cc)).toNat) dx->(oH x (jv cc)).2=[z]->[V.int z].length<=bf/\∀L,Hx L=U->Q (.ref L) (upd Hx L (.lst [V.int z])):=λz hA hz=>by refine⟨(by show 1<=bf;decide),λL hL=>kk _ L _ (hA.same (aT hL)) ?_⟩;rw[aB,hz];rfl
  cases hP with
  |tree k hp hk ht=>
   refine⟨_,Y,h.hrd,Y,rd,a,bG,i,ns,1,Y,h.hrd,h.seq,hp,λH1 y ha=>?_⟩;have W:=h.read y ha;refine gn ?_;dsimp only;refine⟨_,Y,Y,_,Y,bR ?_⟩;refine⟨_,Y,W.ins,Y,_,Y,W.hrd,Y,rd,a,bG,i+1,k,ns,Y,W.hrd,W.seq,hk,byA,λH2 D I N B fD=>?_⟩;have e2:i+1+1+k=i+2+k:=by lia
   rw[e2]at N;have R:=W.read I N;obtain⟨c,f⟩:=W.Ei B fD;have w:((ns.drop (i+2)).take k).all kJ=true:=C;have hj:=Js w;refine⟨[rd,bG],R.cut,s,D,x,n,d,(ns.drop (i+2)).take k,Y,R.sh,c,f,hj,by rw[lu];lia,byA,λH3 d3 J u T=>?_⟩;have M:=R.go T J u;have hs:=LZ (x:=x) hj;refine one (lX ((ns.drop (i+2)).take k)) (M.mono (by show n+1<=n+1+_;lia) (by show n+1+(0:Int).toNat<=20000;simp;lia)) ?_;show nW (cX x (.tree (nats ((ns.drop (i+2)).take k)))).2=_;rw[hs];rfl
  |rule k m hp hk ht hm hN=>
   refine⟨_,Y,h.hrd,Y,rd,a,bG,i,ns,2,Y,h.hrd,h.seq,hp,λH1 y ha=>?_⟩;have W:=h.read y ha;refine gn ?_;dsimp only;refine rj ?_;refine⟨_,Y,Y,_,Y,bR ?_⟩;refine⟨_,Y,W.hrd,Y,rd,a,bG,i+1,k,ns,Y,W.hrd,W.seq,hk,byA,λH2 D I N B fD=>?_⟩;have e2:i+1+1+k=i+2+k:=by lia
   rw[e2]at N;have R:=W.read I N;refine gn ?_;dsimp only;refine⟨_,Y,R.ins,Y,_,Y,_,Y,R.hrd,Y,rd,a,bG,i+2+k,m,ns,Y,R.hrd,R.seq,hm,byA,λH3 r k3 hi S hJ=>?_⟩;have e3:i+2+k+1+m=i+3+k+m:=by lia
   have e4:i+2+k+1=i+3+k:=by lia
   rw[e3]at hi;rw[e4]at S;have u:=R.read k3 hi;obtain⟨c,f⟩:=W.Ei (H':=H3) (k3 _ _ B (λz=>by rw[z,W.hrd]at fD;cases fD)) fD;obtain⟨hg,hf⟩:=R.Ei S hJ;have w:(((ns.drop (i+2)).take k).all kJ&&((ns.drop (i+3+k)).take m).all kJ)=true:=C;rw[eO]at w;have hq:=Js w.1;have ho:=Js w.2;refine⟨[rd,bG],u.cut,s,D,r,x,n,d,(ns.drop (i+2)).take k,(ns.drop (i+3+k)).take m,Y,u.sh,c,hg,f,hf,hq,ho,λH4 d4 hu h4 hC=>?_⟩;have hI:=u.go hC hu h4;have hs:=Ov (x:=x) hq ho;refine one _ (hI.mono (by show n<=n+1+_;lia) (by show n+1+(0:Int).toNat<=20000;simp;lia)) ?_;show nW (cX x (.rule (nats ((ns.drop (i+2)).take k)) (nats ((ns.drop (i+3+k)).take m)))).2=_;refine EW ?_;rw[hs];split
   .rfl
   .split<;>rfl
  |nums p m l hp hF ht hl q=>
   refine⟨_,Y,h.hrd,Y,rd,a,bG,i,ns,p,Y,h.hrd,h.seq,hp,λH1 y ha=>?_⟩;have W:=h.read y ha;refine gn ?_;dsimp only;rcases hF with⟨rfl,rfl⟩|⟨rfl,rfl⟩|⟨rfl,rfl⟩|⟨rfl,rfl⟩|⟨rfl,rfl⟩|⟨rfl,rfl⟩|⟨rfl,rfl⟩
   .obtain⟨K,F,rfl⟩:∃K F,l=[K,F]:=by
     match l,q with
     |[y0,y1],_=>exact⟨y0,y1,Y⟩
    have P:(kJ K&&(kJ F))=true:=C;simp only[eO]at P;obtain⟨G,rfl⟩:∃k:Nat,K=(k:Int):=⟨K.toNat,by have:=(iu P.1).1;lia⟩;have hb:=(iu P.1).2;obtain⟨y,rfl⟩:∃k:Nat,F=(k:Int):=⟨F.toNat,by have:=(iu P.2).1;lia⟩;have he:=(iu P.2).2
    iterate 2 refine rj ?_
    refine⟨_,Y,Y,_,Y,bR ?_⟩;refine⟨_,Y,W.hrd,Y,rd,a,bG,i+1,2,ns,Y,W.hrd,W.seq,byA,λH2 D I N B fD=>?_⟩;have R:=W.read I N;rw[<-hl]at B;refine gn ?_;dsimp only;refine⟨_,Y,R.ins,Y,_,Y,aj.of B,bQ (j:=0) Y,_,Y,aj.of B,bQ (j:=1) Y,[rd,bG],R.cut,s,x,n,d,G,y,Y,R.sh,byA,λH3 d3 r J u S _ _ T=>?_⟩;have M:=R.go T J u;have nE:r∉[rd,bG]:=λz=>by rw[T r z]at S;cases S
    refine kk _ r d3 (M.mono (by show n<=n+1+_;lia) (by show n+1+(0:Int).toNat<=20000;simp;lia)) ?_;rw[lK nE,S];show _=O (HO.lst (bF (nW (cX x (.find G y)).2)));rw[AS]
   .obtain⟨K,F,rfl⟩:∃K F,l=[K,F]:=by
     match l,q with
     |[y0,y1],_=>exact⟨y0,y1,Y⟩
    have P:(kJ K&&(kJ F))=true:=C;simp only[eO]at P;obtain⟨G,rfl⟩:∃k:Nat,K=(k:Int):=⟨K.toNat,by have:=(iu P.1).1;lia⟩;have hb:=(iu P.1).2;obtain⟨y,rfl⟩:∃k:Nat,F=(k:Int):=⟨F.toNat,by have:=(iu P.2).1;lia⟩;have he:=(iu P.2).2
    iterate 3 refine rj ?_
    refine⟨_,Y,Y,_,Y,bR ?_⟩;refine⟨_,Y,W.hrd,Y,rd,a,bG,i+1,2,ns,Y,W.hrd,W.seq,byA,λH2 D I N B fD=>?_⟩;have R:=W.read I N;rw[<-hl]at B;refine gn ?_;dsimp only;refine⟨_,Y,R.ins,Y,_,Y,aj.of B,bQ (j:=0) Y,_,Y,aj.of B,bQ (j:=1) Y,[rd,bG],R.cut,s,x,n,d,G,y,Y,R.sh,λH3 d3 J u T=>?_⟩;have M:=R.go T J u;refine one _ (M.mono (by show n<=n+1+_;lia) (by show n+1+(0:Int).toNat<=20000;simp;lia)) ?_;show nW (cX x (.ways G y)).2=_;rfl
   .obtain⟨K,F,o,x3,rfl⟩:∃K F o x3,l=[K,F,o,x3]:=by
     match l,q with
     |[y0,y1,y2,y3],_=>exact⟨y0,y1,y2,y3,Y⟩
    have P:(kJ K&&(kJ F&&(kJ o&&(kJ x3))))=true:=C;simp only[eO]at P;obtain⟨G,rfl⟩:∃k:Nat,K=(k:Int):=⟨K.toNat,by have:=(iu P.1).1;lia⟩;have hb:=(iu P.1).2;obtain⟨y,rfl⟩:∃k:Nat,F=(k:Int):=⟨F.toNat,by have:=(iu P.2.1).1;lia⟩;have he:=(iu P.2.1).2;obtain⟨k2,rfl⟩:∃k:Nat,o=(k:Int):=⟨o.toNat,by have:=(iu P.2.2.1).1;lia⟩;have hH:=(iu P.2.2.1).2;obtain⟨k3,rfl⟩:∃k:Nat,x3=(k:Int):=⟨x3.toNat,by have:=(iu P.2.2.2).1;lia⟩;have hO:=(iu P.2.2.2).2
    iterate 4 refine rj ?_
    refine⟨_,Y,Y,_,Y,bR ?_⟩;refine⟨_,Y,W.hrd,Y,rd,a,bG,i+1,4,ns,Y,W.hrd,W.seq,byA,λH2 D I N B fD=>?_⟩;have R:=W.read I N;rw[<-hl]at B;refine gn ?_;dsimp only;refine⟨_,Y,R.ins,Y,_,Y,aj.of B,bQ (j:=0) Y,_,Y,aj.of B,bQ (j:=1) Y,_,Y,aj.of B,bQ (j:=2) Y,_,Y,aj.of B,bQ (j:=3) Y,[rd,bG],R.cut,s,x,n,d,G,y,k2,k3,Y,R.sh,λH3 d3 r J u S _ _ T=>?_⟩;have M:=R.go T J u;have nE:r∉[rd,bG]:=λz=>by rw[T r z]at S;cases S
    refine kk _ r d3 (M.mono (by show n<=n+1+_;lia) (by show n+1+(0:Int).toNat<=20000;simp;lia)) ?_;rw[lK nE,S];show _=O (HO.lst (bF (nW (cX x (.fill G y k2 k3)).2)));rw[AS]
   .obtain⟨K,F,o,rfl⟩:∃K F o,l=[K,F,o]:=by
     match l,q with
     |[y0,y1,y2],_=>exact⟨y0,y1,y2,Y⟩
    have P:(kJ K&&(kJ F&&(kJ o)))=true:=C;simp only[eO]at P;obtain⟨G,rfl⟩:∃k:Nat,K=(k:Int):=⟨K.toNat,by have:=(iu P.1).1;lia⟩;have hb:=(iu P.1).2;obtain⟨y,rfl⟩:∃k:Nat,F=(k:Int):=⟨F.toNat,by have:=(iu P.2.1).1;lia⟩;have he:=(iu P.2.1).2;obtain⟨k2,rfl⟩:∃k:Nat,o=(k:Int):=⟨o.toNat,by have:=(iu P.2.2).1;lia⟩;have hH:=(iu P.2.2).2
    iterate 5 refine rj ?_
    refine⟨_,Y,Y,_,Y,bR ?_⟩;refine⟨_,Y,W.hrd,Y,rd,a,bG,i+1,3,ns,Y,W.hrd,W.seq,byA,λH2 D I N B fD=>?_⟩;have R:=W.read I N;rw[<-hl]at B;refine gn ?_;dsimp only;refine⟨_,Y,R.ins,Y,_,Y,aj.of B,bQ (j:=0) Y,_,Y,aj.of B,bQ (j:=1) Y,_,Y,aj.of B,bQ (j:=2) Y,[rd,bG],R.cut,s,x,n,d,G,y,k2,Y,R.sh,byA,λH3 d3 J u T=>?_⟩;have M:=R.go T J u;refine one _ (M.mono (by show n+1<=n+1+_;lia) (by show n+1+(0:Int).toNat<=20000;simp;lia)) ?_;show nW (cX x (.apply G y k2)).2=_;exact EW (Td x G y k2)
   .iterate 6 refine rj ?_
    refine⟨_,Y,Y,_,Y,bR ?_⟩;obtain rfl:l=[]:=Cw.mp q;refine⟨_,Y,W.ins,Y,[rd,bG],W.cut,s,x,n,d,Y,W.sh,byA,λH3 d3 J u T=>?_⟩;have M:=W.go T J u;refine one _ (M.mono (by show n+1<=n+1+_;lia) (by show n+1+(0:Int).toNat<=20000;simp;lia)) ?_;show nW (cX x .step).2=_;exact EW (MG x)
   .obtain⟨K,rfl⟩:∃K,l=[K]:=by
     match l,q with
     |[y0],_=>exact⟨y0,Y⟩
    have P:(kJ K)=true:=C;obtain⟨G,rfl⟩:∃k:Nat,K=(k:Int):=⟨K.toNat,by have:=(iu P).1;lia⟩;have hb:=(iu P).2
    iterate 7 refine rj ?_
    refine⟨_,Y,Y,_,Y,bR ?_⟩;have hG:ns[i+1]?=O (G:Int):=by have e:=fq (λl:List Int=>l[0]?) hl;simp only[Ug,J1]at e;simpa using e.symm
    refine⟨_,Y,W.ins,Y,_,Y,W.hrd,Y,rd,a,bG,i+1,ns,(G:Int),Y,W.hrd,W.seq,hG,λH2 I N=>?_⟩;have R:=W.read I N;refine⟨[rd,bG],R.cut,s,x,n,d,G,Y,R.sh,byA,λH3 d3 r J u S _ _ T=>?_⟩;have M:=R.go T J u;have nE:r∉[rd,bG]:=λz=>by rw[T r z]at S;cases S
    have hE:sf (jv [[8,(G:Int)]])=if(G:Int)<=200 then(G:Int) else 0:=rfl;have hc:(sf (jv [[8,(G:Int)]])).toNat=if G<=200 then G else 0:=by
     rw[hE];by_cases z:G<=200
     .rw[aD z,aD byA];simp
     .rw[ao z,ao byA];rfl
    have hM:(if G<=200 then G else 0)<=200:=by split<;>lia
    refine kk _ r d3 (M.mono (by rw[hc];lia) (by rw[hc];lia)) ?_;rw[lK nE,S];show _=O (HO.lst (bF (nW (cX x (.run G)).2)));rw[AS]
   .iterate 8 refine rj ?_
    refine⟨_,Y,Y,_,Y,bR ?_⟩;obtain rfl:l=[]:=Cw.mp q;refine⟨_,Y,W.ins,Y,[rd,bG],W.cut,s,x,n,d,Y,W.sh,λH3 r s3 S _ T=>?_⟩;have M:=W.go T (cE.of s3) (W.sh.same s3);have nE:r∉[rd,bG]:=λz=>by rw[T r z]at S;cases S
    refine kk _ r d (M.mono (by show n<=n+1+_;lia) (by show n+1+(0:Int).toNat<=20000;simp;lia)) ?_;rw[lK nE,S];show _=O (HO.lst (bF (nW (cX x .nodes).2)));rw[AS]
end
theorem Zp(a:yy):J (nW a)=J a.nums+1:=by
 cases a with
 |mk r l=>show(r::ShNeutral.ints l).length=_;simp[ShNeutral.ints]
theorem ab4:∀l:List aO,J (l.flatMap fun(n:aO)=>[n.label,n.kids])=2*J l:=by
 intro l
 induction l with
 |nil=>rfl
 |cons a l Z=>rw[mP,fO,Z];simp;lia
theorem WO(x:fU)(q:Sh.Call)(hx:J x.tree<=256):J (cX x q).2.nums<=512:=by
 cases q with
 |tree l=>
  show(if 3*sy<J l then(x,eK (-3)) else if yx l=true then(x,eK (-1)) else(match aer (iF l) with
   |some t=>({x with tree:=t },eK 0)
   |none=>(x,eK (-1)))).2.nums.length<=512
  repeat' split
  all_goals exact cI _
 |rule p r=>
  show(match sj p,sj r with
   |some a,O b=>if(pR a&&(nY 1 b&&sq b))=false then(x,eK (-1)) else if Cc (⟨a,b⟩:su)=false then(x,eK (-2)) else if Sh.RULES<=J x.rules then(x,eK (-3)) else({x with rules:=x.rules++[(⟨a,b⟩:su)] },eK (J x.rules))
   |_,_=>(x,eK (-1))).2.nums.length<=512
  repeat' split
  all_goals exact cI _
 |find k f=>
  show(match(bA (J x.tree)).find? fun(i:Nat)=>decide (f<=i)&&(x.rules[k]?).any fun(r:su)=>(pS x.tree r.pat i).isSome with
   |some i=>(⟨1,[i]⟩:yy)
   |none=>eK 0).nums.length<=512
  split
  .show 1<=512;decide
  .exact cI _
 |ways k i=>exact cI _
 |fill k i w h=>
  show(match(mH x k i)[w]? with
   |none=>eK 0
   |some b=>match oJ b h with
    |none=>eK 0
    |some f=>(⟨1,[f.at_,f.count]⟩:yy)).nums.length<=512
  repeat' split
  all_goals first|exact cI _|(show 2<=512;decide)
 |apply k i w=>rw[Td];exact cI _
 |step=>rw[MG];exact cI _
 |run n=>
  show(if JC<n then(x,eK (-1)) else let y:=jK x.rules n x.tree
   ({x with tree:=y.1 },(⟨(y.2.1:Int),[y.2.2]⟩:yy))).2.nums.length<=512
  split
  .exact cI _
  .show 1<=512;decide
 |nodes=>show(x.tree.flatMap fun(n:aO)=>[n.label,n.kids]).length<=512;rw[ab4];lia
theorem aea(x:fU)(q:List (List Int))(hx:J x.tree<=256):J (oH x q).2<=513:=by
 unfold oH;split
 .rename_i y _;show(nW (cX x y).2).length<=513;rw[Zp];have:=WO x y hx;lia
 .exact cI _
theorem MD(h:Jz q=true):0<=sf q:=by
 unfold sf;split
 .rename_i n;have:=(iu (z:=n) h).1;split<;>lia
 .exact afn _
theorem Mw:∀{l:List (List (List Int))},l.all Jz=true->0<=(l.map sf).sum
 |[],_=>afn _
 |q::l,h=>by rw[yV,eO]at h;have Y:=MD h.1;have Z:=Mw h.2;rw[bL,eN];lia
theorem adN(h:uw sh f l=O []):l=[]:=by
 cases l with
 |nil=>rfl
 |cons p r=>
  cases f with
  |zero=>cases h
  |succ f=>
   rw[uw]at h;split at h
   .cases h
   .split at h
    .cases h
    .cases h
theorem adO(h:uw sh f l=O (q::cs)):∃S t,Tv sh l=O (q,t)/\uw sh S t=O cs:=by
 cases l with
 |nil=>cases f<;>cases h
 |cons p r=>
  cases f with
  |zero=>cases h
  |succ f=>
   rw[uw]at h;split at h
   .cases h
   .rename_i Q Y W;split at h
    .cases h
    .rename_i R Z;injection h with h
     injection h with T U
     subst T U;exact⟨f,Y,W,Z⟩
section
theorem Zi(Z:HY):Ok 78 60 ["calls"] (Ab zK):=by
 have GS:=e_.cut (PU Z).g;have GA:=e_.cut (Qo Z).g;refine Z.CU.Go ["calls","reader","shapes","told","answer"] λcdv A outer s H vs Q E hr nd h=>?_
 .obtain⟨a,ns,rfl,hS,hh,W,kk⟩:=h;have r1:bS 1 _:=hr.mono byD;have r2:bS 2 _:=hr.mono byD;refine⟨_,(aA (bN 1 nd (vf Z.aaK (PZ Z).g r2 byC Z.Fv (PZ Z).b .nil bq (af (pv 0) ay)))
   (aA (bN 2 nd (Y6 Z.aaI GS r2 byC Z.Fp (PU Z).b .nil bq))
   (aA (bN 3 nd (dQ ay))
   (aA (ED iG (jB (mU (pv 1) Z.tD.cl Z.Ga (P9 Z).g r1 (P9 Z).b .nil bq) byF) (aA (bN 4 nd (mW GA hr byC Z.Fl Z.CV.kp (Qo Z).b .nil bq (af (pv 2) (af (pv 1) ay))))
   (aA (iW (kY PySem.F.plainAttrs_list PySem.F.slot_list_append PySem.F.type_list_append pC (pv 3) (af (fy iN byC Z.B.len PySem.boot_len (af (pv 4) ay)) ay)))
   (aJ (iW (kY PySem.F.plainAttrs_list PySem.F.slot_list_extend PySem.F.type_list_extend A1 (pv 3) (af (pv 4) ay)))))))
   (aJ (bh (pv 3))))))),?_⟩
  dsimp only[xk];refine⟨_,Y,λrd bG hrd C ha=>⟨rd,a,bG,Y,aB,Y,?_⟩⟩;obtain⟨H1,K⟩:∃h,h=upd (upd (upd H bG (.own rd)) rd (.ins zc.mS bG [])) rd (.ins zc.mS bG (mT a 0)):=⟨_,Y⟩;rw[<-K];have j:H1 rd=O (.ins zc.mS bG (mT a 0)):=by rw[K];exact aB
  have l:H1 bG=O (.own rd):=by rw[K,bO ha,bO ha];exact aB
  have s1:aG H H1:=λb o e=>by rw[K];exact aE (aQ e hrd) (aE (aQ e hrd) (aE (aQ e C) e))
  refine λs w hs N ho=>?_;obtain⟨H2,L⟩:∃h,h=upd (upd H1 w (.own s)) s (.ins zc.fE w []):=⟨_,Y⟩;rw[<-L];have s2:aG H1 H2:=λb o e=>by rw[L];exact aE (aQ e hs) (aE (aQ e N) e)
  have hC:H2 s=O (.ins zc.fE w []):=by rw[L];exact aB
  have hB:H2 w=O (.own s):=by rw[L,bO ho];exact aB
  have nX:∀b,H1 b=U->b∉[rd,bG]:=λb e z=>by
   simp only[bE,fH,fM]at z;rcases z with z|z
   .rw[z,j]at e;cases e
   .rw[z,l]at e;cases e
  have hG:sO [rd,bG] H2:=by
   intro b hb;simp only[bE,fH,fM]at hb;rcases hb with z|z
   .rw[z];exact⟨_,s2 _ _ j,by show bG∈[rd,bG];simp⟩
   .rw[z];exact⟨_,s2 _ _ l,by show rd∈[rd,bG];simp⟩
  refine⟨[rd,bG],hG,s,w,Y,by rw[iM (nX s hs)];exact hC,by rw[iM (nX w N)];exact hB,λH3 d k3 h3 hy hq=>⟨Y,?_⟩⟩;have hm:AC zK zc (i8 [rd,bG] H2 H3) s rd bG a ns 0 ⟨[],[]⟩ 0 d:=by
   have e:iY [rd,bG] (i8 [rd,bG] H2 H3)=H3:=by
    funext b;by_cases z:b∈[rd,bG]
    .rw[rY z,hq b z]
    .rw[iM z,lK z]
   refine⟨by rw[pD byB];exact s2 _ _ j,by rw[pD byB];exact s2 _ _ l,by rw[e];exact h3,?_⟩;rw[e];intro H' k';have go:∀o,H a=O o->H' a=O o:=λo G=>by
    have na:a∉[rd,bG]:=λz=>by
     simp only[bE,fH,fM]at z;rcases z with z|z
     .rw[z,hrd]at G;cases G
     .rw[z,C]at G;cases G
    have e2:=s2 _ _ (s1 _ _ G);have c:a≠s:=λz=>by rw[z]at G;rw[s1 _ _ G]at hs;cases hs
    have hn:a≠w:=λz=>by rw[z]at G;rw[s1 _ _ G]at N;cases N
    refine k' _ _ (k3 _ _ (by rw[iM na];exact e2) c) λz=>?_;rcases hy a z with y|y|y
    .exact c y
    .exact hn y
    .rw[iM na,e2]at y;cases y
   rcases hS with(h|⟨o,h⟩)|h
   .exact .inl (.inl (go _ h))
   .exact .inl (.inr ⟨o,go _ h⟩)
   .exact .inr h
  generalize i8 [rd,bG] H2 H3=H4 at hm;refine⟨cI _,λD hD=>?_⟩;obtain⟨cs,S,hL,r⟩:∃cs,uw sD (J ns) ns=O cs/\J cs<=400/\aeq (cs.map jv)=true:=by
   unfold aey aex at W;cases hc:uw sD (J ns) ns with
   |none=>rw[hc]at W;cases W
   |some cs=>rw[hc]at W;simp only[eO]at W;have h1:decide (J (cs.map jv)<=400)=true:=W.1;rw[aM]at h1;exact⟨cs,Y,pB h1,W.2⟩
  have hj:JE ns=JF (aeB oH agU (cs.map jv)):=by unfold JE aex;rw[S]
  unfold aeq at r;simp only[eO,m9]at r;obtain⟨_,_,T,P⟩:=r;refine Lx (λm σ H'=>∃(i:Nat)(x:fU)(n:Nat)(d:SD)(R:List Int)(cs:List (List (List Int)))(g:Nat)(v4:Option V),m=J cs/\σ=[O (.ref a),O (.ref rd),O (.ref s),O (.ref D),v4]/\AC zK zc (iY [D] H') s rd bG a ns i x n d/\H' D=O (.lst (bF R)) /\
   uw sD g (ns.drop i)=O cs/\R++JF (aeB oH x (cs.map jv))=JE ns/\(cs.map jv).all Jz=true/\(n:Int)+J cs+((cs.map jv).map sf).sum<=1400/\J R+514*J cs<=205600) (J cs)
   ⟨0,⟨[],[]⟩,0,d,[],cs,J ns,U,rfl,rfl,?_,aB,by rw[J6];exact S,by rw[hj];rfl,T,byA,byE⟩ ?_
  .refine hm.same λb o e=>?_;rw[iM (by simp;exact λz=>by rw[z,hD]at e;cases e)];exact aT hD _ _ e
  .rintro m σ H' ⟨i,x,n,d,R,cs,g,v4,rfl,rfl,hA,p,S,hl,T,P,hx⟩;have v:=I_ [D] H';refine⟨decide (i<J ns),H',λQ hQ=>?_,λhb=>?_,λhb=>?_⟩
   .refine⟨_,rfl,v _ _ hA.hrd,rfl,rd,a,bG,i,ns,rfl,v _ _ hA.hrd,v.seq hA.seq,?_⟩;exact⟨_,Y,hQ⟩
   .have hi:i<J ns:=pB hb;cases cs with
    |nil=>have:=adN S;rw[List.drop_eq_nil_iff]at this;lia
    |cons q cs=>
     obtain⟨g',t',hu,ht⟩:=adO S;obtain⟨i',hP,rfl,hJ,hK⟩:=Zc hu;rw[bL,yV,eO]at T;rw[bL,bL,eN]at P;rw[iI]at P hx;have hI:=MD T.1;have hH:=Mw T.2;have hF:sO [D] H':=λb hw=>by rw[yN.mp hw];exact⟨_,p,trivial⟩
     have hp:J x.tree<=256:=by
      rcases hA.sh.tree with⟨z,_⟩|⟨_,_,_,_,z,_⟩
      .rw[z];exact cI _
      .exact z
     have hk:=aea x (jv q) hp;refine⟨_,Y,_,Y,[D],hF,s,rd,bG,a,ns,i,i',x,n,d,q,Y,hA,hP,T.1,hh,byA,λf D5 d5 h5 I hf=>?_⟩;have he:D5≠D:=λz=>by rw[z,hf D byB]at I;cases I
     have u:i8 [D] H' f D=O (.lst (bF R)):=by rw[pD byB];exact p
     have M:i8 [D] H' f D5=O (.lst (bF (oH x (jv q)).2)):=by rw[lK (by simp;exact he)];exact I
     have hg:∀b,b≠D->i8 [D] H' f b=f b:=λb z=>lK (by simp;exact z);generalize i8 [D] H' f=H6 at u M hg;refine gn ?_;dsimp only;generalize hz:(oH x (jv q)).2=z at I M hk;refine⟨_,Y,.inl ⟨Y,_,aj.of u⟩,_,Y,.inl (aj.of M),D,_,_,Y,Y,u,by rw[aM,c8];lia,?_⟩;refine⟨_,Y,.inl ⟨Y,_,aj.of aB⟩,_,Y,D,D5,_,_,Y,Y,aB,by rw[bO he];exact M,by rw[fO,aM,aM,c8];show _+1+_<=_;lia,?_⟩;rw[DF];refine⟨J cs,JP _,i',(oH x (jv q)).1,n+1+(sf (jv q)).toNat,d5,R++(J z:Int)::z,cs,g',_,Y,Y,?_,?_,ht,?_,T.2,?_,?_⟩
     .have e:iY [D] (upd H6 D (.lst (bF R++[V.int (J (bF z):Nat)]++bF z)))=f:=by
       funext b;by_cases y:b=D
       .rw[y,rY byB,hf D byB]
       .rw[iM (by simp;exact y),bO y,hg b y]
      rw[e];exact h5
     .rw[aB,aM];congr 2;show _=fC _ (_++_);rw[dw,lT];rfl
     .rw[<-hl,bL];show _=R++(JF ((oH x (jv q)).2::_));rw[hz];unfold JF;rw[mP,lT]
     .push_cast
      lia
     .rw[fO,iI];lia
   .have hi:¬i<J ns:=of_decide_eq_false hb;have e0:ns.drop i=[]:=wB byA;rw[e0]at S;have hE:cs=[]:=by cases g<;>(injection S with S;exact S.symm)
    subst hE;refine⟨_,Y,kk _ D ?_⟩;rw[p,<-hl];show _=O (HO.lst (bF (R++[])));rw[nq]
end
end Hs
end
section
namespace Hs
open PySem PySem.Spec PyProof.Rows L2
def cz(K:PySem.W.Frag)(x qual:ak)(st:mF)(f:aa):Prop:=∃fd,bW K x qual st f fd
def NS(K:PySem.W.Frag)(x:ak)(v:ai):Prop:=PySem.W.nsIn K jr x=some (some v)
inductive NA(K:PySem.W.Frag)(C:aa):List ak->Prop
 |nil:NA K C []
 |cons {f:ak} {l:List ak} (_:sG K C f) (_:NA K C l):NA K C (f::l)
theorem CF.of{K:PySem.W.Frag}{C:aa}{l:List ak}(c:oU K C)(h:NA K C l):CF K C l:=⟨c,by
 induction h with
 |nil=>intro f hf;cases hf
 |cons h t ih=>intro f hf;cases hf with
  |head=>exact h
  |tail _ hf=>exact ih f hf⟩
theorem YZ(v:Wd):JH v:=UE λn=>ahe (p:=λv=>¬JH v) ⟨v,n⟩ λZ=>(Zi Z).g
theorem all_mk{P:fV}{w:d9}{K:PySem.W.Frag}{h:dj}{mg:ak->Option ai}{fa:aa}{cP cG cT cS cR cH cD cL f0 f1 f2 f3 f4 f5 f6 f7 f8 f9 IT IS IQ IP IM IL IK IJ II IG IF IE ID IC IB IA Iz Iw Iv Iu Ir Iq f32 Ip Io Im Il Ik Ij Ii Ih Ig Ie Ic Ib Ia H_ HZ HX HW HU HS HR HQ HP HN HM HL HK HJ R8:aa}{V4 V3 V9 VY V8 V5 V7 V6 VX V1 V_ VW Wa Wb VZ V0 V2:_}(X:K.In h)(GN:h.Ns jr mg)(hfa:mg "answers"=some (.ref fa))
 (Fw:NS K "Pattern" (.ref cP))
 (Fx:NS K "Gap" (.ref cG))
 (Fo:NS K "Tree" (.ref cT))
 (Fq:NS K "Search" (.ref cS))
 (Ft:NS K "Replacement" (.ref cR))
 (Fp:NS K "Shapes" (.ref cH))
 (Fv:NS K "Reader" (.ref cD))
 (A0:NS K "Layout" (.ref cL))
 (ZR:Mk K cG IK)
 (ZM:Mk K cT f4)
 (ZP:Mk K cP IJ)
 (ZO:Mk K cR f2)
 (ZN:Mk K cS Io)
 (ZS:Mk K cD Ik)
 (ZQ:Mk K cH Ie)
 (m3:Meth K cT "mark_from_below" f3)
 (Gj:Meth K cP "note_holes" IM)
 (Gk:Meth K cP "rows_shut" IP)
 (Bc:Meth K cS "shut_rows" IG)
 (xU:Meth K cS "hold" IF)
 (Gi:Meth K cS "sift" ID)
 (Bb:Meth K cS "lengths" IC)
 (Gh:Meth K cS "add_up" Iz)
 (xT:Meth K cS "walk" IE)
 (xS:Meth K cS "choices" IB)
 (vJ:Meth K cS "tally" IA)
 (Gf:Meth K cS "seek" Iu)
 (Gg:Meth K cS "is_hopeless" Iw)
 (xR:Meth K cS "matches" Iv)
 (vK:Meth K cS "begin" II)
 (A_:Meth K cS "has_way" Iq)
 (m5:Meth K cT "node_at" f5)
 (Ge:Meth K cS "pick" f32)
 (Gd:Meth K cR "trees_for" Im)
 (m6:Meth K cT "numbers_of" f6)
 (rL:Meth K cD "take_numbers" Ii)
 (xQ:Meth K cD "take_number" Ih)
 (A8:Meth K cH "put_tree" Ic)
 (rK:Meth K cH "search_for" H_)
 (Ba:Meth K cS "matches_at" Ir)
 (A7:Meth K cH "has_way" HX)
 (A9:Meth K cS "fillings" Ip)
 (Gb:Meth K cR "filled" Il)
 (m7:Meth K cT "numbers_with" f7)
 (A6:Meth K cH "rewrite" HS)
 (FQ:Meth K cH "seek_rule" HQ)
 (FP:Meth K cH "first_rule" HP)
 (FO:Meth K cH "next_place" HN)
 (A5:Meth K cH "take_step" HM)
 (xP:Meth K cD "take_row" Ig)
 (F_:Meth K cH "change_tree" Ib)
 (FZ:Meth K cH "add_rule" Ia)
 (FW:Meth K cH "find_node" HW)
 (FY:Meth K cH "count_ways" HZ)
 (FU:Meth K cH "tell_filling" HU)
 (FT:Meth K cH "apply_rule" HR)
 (FN:Meth K cH "run_steps" HL)
 (FL:Meth K cH "tell_nodes" HK)
 (Ga:Meth K cD "has_more" Ij)
 (AZ:NS K "is_one_tree" (.ref f0))
 (Ff:NS K "tree_refusal" (.ref f1))
 (AY:NS K "is_row_with_holes" (.ref f8))
 (xN:NS K "holes_in" (.ref f9))
 (Fj:NS K "has_number_of_both_kinds" (.ref IT))
 (Fi:NS K "is_pattern" (.ref IS))
 (Fg:NS K "rule_refusal" (.ref IQ))
 (Fe:NS K "until_stretch" (.ref IL))
 (Fl:NS K "answer_call" (.ref HJ))
 (ZH:NS K "answers" (.ref R8))
 (E0:cz K "is_one_tree" "is_one_tree" N1 f0)
 (E1:cz K "tree_refusal" "tree_refusal" El f1)
 (E2:cz K "__init__" "Layout.__init__" Eo f2)
 (E3:cz K "mark_from_below" "Tree.mark_from_below" Al f3)
 (E4:cz K "__init__" "Tree.__init__" Nv f4)
 (E5:cz K "node_at" "Tree.node_at" N5 f5)
 (E6:cz K "numbers_of" "Tree.numbers_of" N3 f6)
 (E7:cz K "numbers_with" "Tree.numbers_with" N2 f7)
 (E8:cz K "is_row_with_holes" "is_row_with_holes" NU f8)
 (E9:cz K "holes_in" "holes_in" Ep f9)
 (E10:cz K "has_number_of_both_kinds" "has_number_of_both_kinds" Oj IT)
 (E11:cz K "is_pattern" "is_pattern" N_ IS)
 (E12:cz K "rule_refusal" "rule_refusal" NT IQ)
 (E13:cz K "rows_shut" "Pattern.rows_shut" NJ IP)
 (E14:cz K "note_holes" "Pattern.note_holes" N4 IM)
 (E15:cz K "until_stretch" "until_stretch" Nt IL)
 (E16:cz K "__init__" "Gap.__init__" xr IK)
 (E17:cz K "__init__" "Pattern.__init__" xq IJ)
 (E18:cz K "begin" "Search.begin" Ol II)
 (E19:cz K "shut_rows" "Search.shut_rows" NI IG)
 (E20:cz K "hold" "Search.hold" Ob IF)
 (E21:cz K "walk" "Search.walk" Nr IE)
 (E22:cz K "sift" "Search.sift" Em ID)
 (E23:cz K "lengths" "Search.lengths" En IC)
 (E24:cz K "choices" "Search.choices" Es IB)
 (E25:cz K "tally" "Search.tally" NB IA)
 (E26:cz K "add_up" "Search.add_up" Et Iz)
 (E27:cz K "is_hopeless" "Search.is_hopeless" Oa Iw)
 (E28:cz K "matches" "Search.matches" N9 Iv)
 (E29:cz K "seek" "Search.seek" NP Iu)
 (E30:cz K "matches_at" "Search.matches_at" N8 Ir)
 (E31:cz K "has_way" "Search.has_way" Oc Iq)
 (E32:cz K "pick" "Search.pick" NZ f32)
 (E33:cz K "fillings" "Search.fillings" Og Ip)
 (E34:cz K "__init__" "Search.__init__" NH Io)
 (E35:cz K "trees_for" "Replacement.trees_for" Nu Im)
 (E36:cz K "filled" "Replacement.filled" Er Il)
 (E37:cz K "__init__" "Reader.__init__" NX Ik)
 (E38:cz K "has_more" "Reader.has_more" N7 Ij)
 (E39:cz K "take_numbers" "Reader.take_numbers" NF Ii)
 (E40:cz K "take_number" "Reader.take_number" NG Ih)
 (E41:cz K "take_row" "Reader.take_row" ND Ig)
 (E42:cz K "__init__" "Shapes.__init__" NL Ie)
 (E43:cz K "put_tree" "Shapes.put_tree" NY Ic)
 (E44:cz K "change_tree" "Shapes.change_tree" Oi Ib)
 (E45:cz K "add_rule" "Shapes.add_rule" Ot Ia)
 (E46:cz K "search_for" "Shapes.search_for" NQ H_)
 (E47:cz K "count_ways" "Shapes.count_ways" Oh HZ)
 (E48:cz K "has_way" "Shapes.has_way" NN HX)
 (E49:cz K "find_node" "Shapes.find_node" Of HW)
 (E50:cz K "tell_filling" "Shapes.tell_filling" Nz HU)
 (E51:cz K "rewrite" "Shapes.rewrite" NW HS)
 (E52:cz K "apply_rule" "Shapes.apply_rule" Om HR)
 (E53:cz K "seek_rule" "Shapes.seek_rule" NO HQ)
 (E54:cz K "first_rule" "Shapes.first_rule" Oe HP)
 (E55:cz K "next_place" "Shapes.next_place" N6 HN)
 (E56:cz K "take_step" "Shapes.take_step" NC HM)
 (E57:cz K "run_steps" "Shapes.run_steps" NR HL)
 (E58:cz K "tell_nodes" "Shapes.tell_nodes" Ny HK)
 (E59:cz K "answer_call" "answer_call" Oq HJ)
 (E60:cz K "answers" "answers" Oo R8)
 (cf:K9 K cL "__init__" f2)
 (CcP:CF K cP Pk)
 (CcG:CF K cG RH)
 (CcT:CF K cT L6)
 (CcS:CF K cS MM)
 (CcR:CF K cR Gz)
 (CcH:CF K cH Ni)
 (CcD:CF K cD OJ)
 (aaV:NS K "MOST_TREE_NUMBERS" (.int 768 V4))
 (aaU:NS K "NODE" (.int 0 V3))
 (aa0:NS K "HOLE" (.int 1 V9))
 (aaP:NS K "STRETCH" (.int 2 VY))
 (aaZ:NS K "MOST_PATTERN_NUMBERS" (.int 96 V8))
 (aaW:NS K "MOST_STRETCHES" (.int 3 V5))
 (aaY:NS K "MOST_RULES" (.int 16 V7))
 (aaX:NS K "MOST_STEPS" (.int 200 V6))
 (aaO:NS K "TREE" (.int 1 VX))
 (aaS:NS K "RULE" (.int 2 V1))
 (aa1:NS K "FIND" (.int 3 V_))
 (aaN:NS K "WAYS" (.int 4 VW))
 (aa2:NS K "FILL" (.int 5 Wa))
 (aa3:NS K "APPLY" (.int 6 Wb))
 (aaQ:NS K "STEP" (.int 7 VZ))
 (aaR:NS K "RUN" (.int 8 V0))
 (aaT:NS K "NODES" (.int 9 V2))
 (Vw:PySem.W.nsIn K jr "len"=some none)
 (Vu:PySem.W.nsIn K jr "range"=some none)
 (Vz:PySem.W.nsIn K jr "any"=some none)
 (Vt:PySem.W.nsIn K jr "sum"=some none)
 (Vr:PySem.W.nsIn K jr "zip"=some none)
 (Vx:PySem.W.nsIn K jr "enumerate"=some none)
 (Vs:PySem.W.nsIn K jr "tuple"=some none)
 (Vv:PySem.W.nsIn K jr "list"=some none)
 (Vy:PySem.W.nsIn K jr "dict"=some none)
 : ∃fd:oR,(∀(s:aS)(us:List ai),us.length=(["calls"]:List ak).length->zu s fd ⟨us,[]⟩ ((["calls"]:List ak).zip us))/\∀base:dj,K.In base->base.Ns jr mg->e_ P w K mg base qb 78 fa fd ["calls"] (Ab K):=by
 have e:=hfa.symm.trans (PySem.W.mg_of X GN ZH);cases e;obtain⟨R6,F0⟩:=E0;obtain⟨fd1,F1⟩:=E1;obtain⟨fd2,F2⟩:=E2;obtain⟨fd3,F3⟩:=E3;obtain⟨fd4,F4⟩:=E4;obtain⟨fd5,F5⟩:=E5;obtain⟨fd6,F6⟩:=E6;obtain⟨fd7,F7⟩:=E7;obtain⟨fd8,F8⟩:=E8;obtain⟨fd9,F9⟩:=E9;obtain⟨ade,C0⟩:=E10;obtain⟨adb,CZ⟩:=E11;obtain⟨ada,CY⟩:=E12;obtain⟨ac_,K4⟩:=E13;obtain⟨ac9,K3⟩:=E14;obtain⟨ac8,CW⟩:=E15;obtain⟨ac7,K2⟩:=E16;obtain⟨ac6,K1⟩:=E17;obtain⟨ac5,K0⟩:=E18;obtain⟨ac4,KZ⟩:=E19;obtain⟨ac2,KY⟩:=E20;obtain⟨ac1,KW⟩:=E21;obtain⟨ac0,KU⟩:=E22;obtain⟨acZ,KS⟩:=E23;obtain⟨acY,KR⟩:=E24;obtain⟨acX,KQ⟩:=E25;obtain⟨acW,KP⟩:=E26;obtain⟨acV,KO⟩:=E27;obtain⟨acU,KN⟩:=E28;obtain⟨acT,KL⟩:=E29;obtain⟨acR,KJ⟩:=E30;obtain⟨acQ,KI⟩:=E31;obtain⟨acP,KH⟩:=E32;obtain⟨acO,KG⟩:=E33;obtain⟨acN,KD⟩:=E34;obtain⟨acM,KC⟩:=E35;obtain⟨acL,KA⟩:=E36;obtain⟨acK,Kz⟩:=E37;obtain⟨acJ,Ky⟩:=E38;obtain⟨acI,Kx⟩:=E39;obtain⟨acG,Kw⟩:=E40;obtain⟨acF,Kv⟩:=E41;obtain⟨acE,Ku⟩:=E42;obtain⟨acD,Ks⟩:=E43;obtain⟨acC,Kr⟩:=E44;obtain⟨acB,Kq⟩:=E45;obtain⟨acA,Kp⟩:=E46;obtain⟨acz,Ko⟩:=E47;obtain⟨acy,Kn⟩:=E48;obtain⟨acw,Km⟩:=E49;obtain⟨acu,Kl⟩:=E50;obtain⟨acs,Kh⟩:=E51;obtain⟨acr,Kg⟩:=E52;obtain⟨acq,Kf⟩:=E53;obtain⟨acp,Ke⟩:=E54;obtain⟨aco,Kd⟩:=E55;obtain⟨acn,Kc⟩:=E56;obtain⟨acm,Ka⟩:=E57;obtain⟨ack,J'⟩:=E58;obtain⟨acj,CV⟩:=E59;obtain⟨R5,CU⟩:=E60;refine⟨R5,?_,λbase _ _=>YZ ⟨P,w,K,mg,base,⟨cP,cG,cT,cS,cR,cH,cD⟩,cL,λi=>[f0,f1,f2,f3,f4,f5,f6,f7,f8,f9,IT,IS,IQ,IP,IM,IL,IK,IJ,II,IG,IF,IE,ID,IC,IB,IA,Iz,Iw,Iv,Iu,Ir,Iq,f32,Ip,Io,Im,Il,Ik,Ij,Ii,Ih,Ig,Ie,Ic,Ib,Ia,H_,HZ,HX,HW,HU,HS,HR,HQ,HP,HN,HM,HL,HK,HJ,fa].getD i f0,λi=>[R6,fd1,fd2,fd3,fd4,fd5,fd6,fd7,fd8,fd9,ade,adb,ada,ac_,ac9,ac8,ac7,ac6,ac5,ac4,ac2,ac1,ac0,acZ,acY,acX,acW,acV,acU,acT,acR,acQ,acP,acO,acN,acM,acL,acK,acJ,acI,acG,acF,acE,acD,acC,acB,acA,acz,acy,acw,acu,acs,acr,acq,acp,aco,acn,acm,ack,acj,R5].getD i R6⟩ ⟨F0,F1,F2,F3,F4,F5,F6,F7,F8,F9,C0,CZ,CY,K4,K3,CW,K2,K1,K0,KZ,KY,KW,KU,KS,KR,KQ,KP,KO,KN,KL,KJ,KI,KH,KG,KD,KC,KA,Kz,Ky,Kx,Kw,Kv,Ku,Ks,Kr,Kq,Kp,Ko,Kn,Km,Kl,Kh,Kg,Kf,Ke,Kd,Kc,Ka,J',CV,CU,⟨PySem.W.mg_none_of X GN Vw,PySem.W.mg_none_of X GN Vu,PySem.W.mg_none_of X GN Vz,PySem.W.mg_none_of X GN Vt,PySem.W.mg_none_of X GN Vr,PySem.W.mg_none_of X GN Vx,PySem.W.mg_none_of X GN Vs,PySem.W.mg_none_of X GN Vv,PySem.W.mg_none_of X GN Vy⟩,⟨⟨_,PySem.W.mg_of X GN aaV⟩,⟨_,PySem.W.mg_of X GN aaU⟩,⟨_,PySem.W.mg_of X GN aa0⟩,⟨_,PySem.W.mg_of X GN aaP⟩,⟨_,PySem.W.mg_of X GN aaZ⟩,⟨_,PySem.W.mg_of X GN aaW⟩⟩,⟨⟨_,PySem.W.mg_of X GN aaY⟩,⟨_,PySem.W.mg_of X GN aaX⟩,⟨_,PySem.W.mg_of X GN aaO⟩,⟨_,PySem.W.mg_of X GN aaS⟩,⟨_,PySem.W.mg_of X GN aa1⟩,⟨_,PySem.W.mg_of X GN aaN⟩,⟨_,PySem.W.mg_of X GN aa2⟩,⟨_,PySem.W.mg_of X GN aa3⟩,⟨_,PySem.W.mg_of X GN aaQ⟩,⟨_,PySem.W.mg_of X GN aaR⟩,⟨_,PySem.W.mg_of X GN aaT⟩⟩,CcP,CcG,CcT,CcS,CcR,CcH,CcD,m3,Gj,Gk,Bc,xU,Gi,Bb,Gh,xT,xS,vJ,Gf,Gg,xR,vK,A_,m5,Ge,Gd,m6,rL,xQ,A8,rK,Ba,A7,A9,Gb,m7,A6,FQ,FP,FO,A5,xP,F_,FZ,FW,FY,FU,FT,FN,FL,Ga,PySem.W.mg_of X GN AZ,PySem.W.mg_of X GN A0,PySem.W.mg_of X GN xN,PySem.W.mg_of X GN AY,PySem.W.mg_of X GN Fj,PySem.W.mg_of X GN Fi,PySem.W.mg_of X GN Fe,PySem.W.mg_of X GN Fx,PySem.W.mg_of X GN Fo,PySem.W.mg_of X GN Ff,PySem.W.mg_of X GN Fg,PySem.W.mg_of X GN Fw,PySem.W.mg_of X GN Ft,PySem.W.mg_of X GN Fq,PySem.W.mg_of X GN Fv,PySem.W.mg_of X GN Fp,PySem.W.mg_of X GN Fl,ZR,ZM,ZP,ZO,ZN,ZS,ZQ,cf⟩⟩;obtain⟨oc,od,kV,doc,pm,an,cdv,ct,osl,rfl,lk,hcd⟩:=CU.ex;exact λs=>DE λ_=>.of_eq rfl
end Hs
end
namespace PySem.W.Fast
def tw5884965394247508361:=Nat
def tw15332822357008428599:=Nat
def tw5636850701747182666:=Nat
def tw7362488297177756734:=Nat
def tw4866946256283992136:=Nat
def tw17744231918899178626:=Nat
def tw10324351235313579013:=Nat
def tw7521699230265891118:=Nat
def tw9846796126300018280:=Nat
def tw13699229142504885159:=Nat
def tw13009404116651845747:=Nat
def tw13063115860434893668:=Nat
def tw17167684271951588018:=Nat
def tw7900533776677741604:=Nat
def tw2682891457238647406:=Nat
def tw126497077712855133:=Nat
def tw11188231731328070567:=Nat
def tw16950817687261797862:=Nat
def tw16174462127453924217:=Nat
def tw92754827990716815:=Nat
def tw1845435397871106284:=Nat
def tw11744308633332603562:=Nat
def tw1358812641491392950:=Nat
def tw9261435090360328970:=Nat
def tw14744691115347153758:=Nat
def tw12558460856067240903:=Nat
def tw6523496833809867462:=Nat
def tw3086802203186583562:=Nat
def tw17957281697838038821:=Nat
def tw2180245308306251082:=Nat
def tw7700717504395218444:=Nat
def tw4331679772257130775:=Nat
def tw9713797209175982870:=Nat
def tw2925286237458663512:=Nat
def tw1644190257705356398:=Nat
def tw16990857259675768287:=Nat
def tw12213410207740695650:=Nat
def tw18372784789449884481:=Nat
def tw7968104565543173340:=Nat
def tw1117352241411388031:=Nat
def tw5747852738722499410:=Nat
def tw11045623919300919116:=Nat
def tw17206611496696250651:=Nat
def tw13709218941445268193:=Nat
def tw8496706545293539902:=Nat
def tw13503234960290601501:=Nat
def tw5186958559755138068:=Nat
def tw8991827270598732816:=Nat
def tw13078407080338125309:=Nat
def tw4529423154540824311:=Nat
def tw5981976126690537620:=Nat
def tw13140225413337103157:=Nat
def tw8130536392994202084:=Nat
def tw7611078131897507328:=Nat
def tw6969169053067711931:=Nat
def tw12126627059770278880:=Nat
def tw8250988118414900410:=Nat
def tw4732603081807308088:=Nat
def tw12679790738966250754:=Nat
def tw15879738790968592247:=Nat
def tw11488793492901581080:=Nat
def tw17132790452835763671:=Nat
def tw18128233972506296343:=Nat
def tw12567158885781728382:=Nat
def tw9927834000549517359:=Nat
def tw16382641164272332041:=Nat
def tw5958456563649083972:=Nat
def tw8751790367343377000:=Nat
def tw10412008226954693100:=Nat
def tw4413004408690231201:=Nat
def tw706250049609655126:=Nat
def tw10490655992867648706:=Nat
def tw2731344287321616657:=Nat
def tw16843209655685483664:=Nat
def tw4222443176249653468:=Nat
def tw15666857222967483275:=Nat
def tw2837634231710474475:=Nat
def tw16274691386115013791:=Nat
def tw15976541100351949263:=Nat
def tw10065920760225981809:=Nat
def tw13623196452592634049:=Nat
def tw1462720045602185781:=Nat
def tw12869780087915077527:=Nat
def tw15556039296109325442:=Nat
def tw10350383129727776724:=Nat
def tw14438282654294804601:=Nat
def tw6093877482904424789:=Nat
def tw14576547093418902208:=Nat
def tw257200449797534117:=Nat
def tw11030220247282257997:=Nat
def tw4808201409612977035:=Nat
def tw11846184036775351501:=Nat
def tw291879378369981310:=Nat
def tw10441034180885577331:=Nat
def tw9091920846295845403:=Nat
def tw7334191042323816295:=Nat
def tw8364313227657616778:=Nat
def tw18272418071801846610:=Nat
def tw2983804927357902243:=Nat
def tw3509842561387246321:=Nat
def tw3935753334752862729:=Nat
def tw14544474072427073242:=Nat
def tw17266448830806670277:=Nat
def tw6784682600099679732:=Nat
def tw18197520472033448789:=Nat
def tw13691520592670245395:=Nat
def tw5859415906351450938:=Nat
def tw15134654677944746795:=Nat
def tw14992706289616467036:=Nat
def tw137105757567705984:=Nat
def tw1620584475724678696:=Nat
def tw6008723688094676293:=Nat
def tw17159649199104878534:=Nat
def tw18165400575552733744:=Nat
def tw7894988004452544939:=Nat
def tw9538307056948801001:=Nat
def tw3592261627289674687:=Nat
def tw14877832335602756517:=Nat
def tw12313787260366435908:=Nat
def tw3916881361729398316:=Nat
def tw6474282393720738161:=Nat
def tw7466335001120970808:=Nat
def tw7862503706346247976:=Nat
def tw4230164900283852402:=Nat
def tw12573047371751750497:=Nat
def tw510712106509677876:=Nat
def tw8662174436683880849:=Nat
def tw551436487949302958:=Nat
def tw14101855261253406498:=Nat
def tw13836308729949989541:=Nat
def tw18122493646999611854:=Nat
def tw2567817053834725083:=Nat
def tw6619153579136131699:=Nat
def tw2890330434686867814:=Nat
def tw9649308760117134053:=Nat
def tw17449607769228315927:=Nat
def tw3257058916504939104:=Nat
def tw17807203477680289888:=Nat
def tw9529670537672321805:=Nat
def tw9429245885721573764:=Nat
def tw4442746051176332786:=Nat
def tw6246726688452795465:=Nat
def tw16354041914252582781:=Nat
def tw10690175014694641002:=Nat
def tw12190775585872503551:=Nat
def tw17744742652876746978:=Nat
def tw8449138916804108599:=Nat
def tw1233110758370314126:=Nat
def tw11661202904774944298:=Nat
def tw6795044798369762163:=Nat
def tw8467645820910942414:=Nat
def tw12705013620925166216:=Nat
def tw8855954018275114035:=Nat
def tw2303772594847356688:=Nat
def tw4818385902880235586:=Nat
def tw13100681930292185752:=Nat
def tw10404085106092638685:=Nat
def tw12624961362912378490:=Nat
def tw16607721956990099419:=Nat
def tw11935394142187638483:=Nat
def tw4956483298202565750:=Nat
def tw2673257314422113127:=Nat
def tw6681261994718049583:=Nat
def tw6608228205957051956:=Nat
def tw6745460236539983623:=Nat
def tw7195306583341569151:=Nat
def tw5642389938323027398:=Nat
def tw268062960506851967:=Nat
def tw8851525037863631086:=Nat
def tw10480680185104243358:=Nat
def tw15894642866585439913:=Nat
def tw14961162726488411139:=Nat
def tw5139193807465945924:=Nat
def tw16609526875877514360:=Nat
def tw16658502221987588790:=Nat
def tw14072729039484759773:=Nat
def tw3943166099059112595:=Nat
def tw15925174173422702402:=Nat
def tw15766601916839416937:=Nat
def tw7323735169464248002:=Nat
def tw2557322864516051692:=Nat
def tw15702527662904291767:=Nat
def tw10350895758746838463:=Nat
def tw16215748379502920671:=Nat
def tw3536061926284648226:=Nat
def tw18417037035920886839:=Nat
def tw7039659224182808195:=Nat
def tw7113478919832397137:=Nat
def tw5169555846880860714:=Nat
def tw18269178031749458392:=Nat
def tw6236564501417940338:=Nat
def tw11182365219988176241:=Nat
def tw15363780055683533496:=Nat
def tw7669378794106692709:=Nat
def tw729339143983950236:=Nat
def tw6559898772886221475:=Nat
def tw5545382747514841835:=Nat
def tw4737747967600379042:=Nat
def tw17558954899495001190:=Nat
def tw14136224915380044965:=Nat
def tw3474914127512285717:=Nat
def tw15773884722830782083:=Nat
def tw14446457594427382884:=Nat
def tw9610533509437172356:=Nat
def tw18126798536980540774:=Nat
def tw12375877507470405119:=Nat
def tw10377319595017648929:=Nat
def tw12714069999630141415:=Nat
def tw3816340744757088808:=Nat
def tw5572473641667904498:=Nat
def tw9517221696417249759:=Nat
def tw11942666472583310106:=Nat
def tw14976779150341425146:=Nat
def tw5620467040771662712:=Nat
def tw14061471084237779601:=Nat
def tw15228506043501495466:=Nat
def tw18061813807523578920:=Nat
def tw11105561077689416930:=Nat
def tw88682296924331512:=Nat
def tw16793312834015840439:=Nat
def tw11282092476328980313:=Nat
def tw1389923129286271605:=Nat
def tw11271939492385929365:=Nat
def tw3832089063199051900:=Nat
def tw4678900095492480139:=Nat
def tw11601309706613122710:=Nat
def tw4263314048232712056:=Nat
def tw11672861610089858177:=Nat
def tw10539796044086866509:=Nat
def tw16606579221003856902:=Nat
def tw12812478589751155966:=Nat
def tw6344734513309161874:=Nat
def tw8511105063650684754:=Nat
def tw13335647777137085459:=Nat
def tw17266658951000662869:=Nat
def tw4393354269363602142:=Nat
def tw14016943980129112779:=Nat
def tw10174870827699338224:=Nat
def tw7076152440446079629:=Nat
def tw13926278928838528126:=Nat
def tw1561806902322833467:=Nat
def tw13322110811353603835:=Nat
def tw7502011372963127603:=Nat
def tw8992887513500081255:=Nat
def tw3170977624369877431:=Nat
def tw16476892879432808339:=Nat
def tw14462494086560290770:=Nat
def tw16516036613671465597:=Nat
def tw2474957089722154507:=Nat
def tw9170192345131794717:=Nat
def tw11252846295721769004:=Nat
def tw12632648073057058345:=Nat
def tw13335453763348406305:=Nat
def tw3202610507626962224:=Nat
def tw8139775484963691865:=Nat
def tw14945539877562417964:=Nat
def tw16878746323426482705:=Nat
def tw4322427557474789517:=Nat
def tw10663728123077140165:=Nat
def tw15750917183023308622:=Nat
def tw14342841631886061455:=Nat
def tw5241901793013826959:=Nat
def tw14002646785395785643:=Nat
def tw12495486408154828663:=Nat
def tw12768166838615973322:=Nat
def tw13880816393817262718:=Nat
def tw10097224444115373464:=Nat
def tw6704801804922326931:=Nat
def tw16252822957177034779:=Nat
def tw11485444407603912970:=Nat
def tw12837187140111298242:=Nat
def tw16200577104408593381:=Nat
def tw7303775715832312672:=Nat
def tw9675439445891484445:=Nat
def tw9421082031502619889:=Nat
def tw5939925335821329957:=Nat
def tw15893868546030012684:=Nat
def tw2860443981095075194:=Nat
def tw13402064890584259627:=Nat
def tw3093336798318943015:=Nat
def tw12312568000360581325:=Nat
def tw10826163215737479743:=Nat
def tw10057661290559002011:=Nat
def tw9185133448905795219:=Nat
def tw11213515278359550385:=Nat
def tw8703699377999223588:=Nat
def tw7738735311756065398:=Nat
def tw16053600235178010178:=Nat
def tw5226450921336481582:=Nat
def tw4080992621656871398:=Nat
def tw4339575444036427116:=Nat
def tw5478774170285516532:=Nat
def tw5335787679600051451:=Nat
def tw2409233827278647516:=Nat
def tw6557007035313966157:=Nat
def tw15993096959441702206:=Nat
def tw12538831934486667820:=Nat
def tw4289526359279905585:=Nat
def tw13609524105017637792:=Nat
def tw1814692749959158713:=Nat
def tw13702068651798226860:=Nat
def tw2768437693173211763:=Nat
def tw17143178690551282329:=Nat
def tw6107245128462385536:=Nat
def tw4306992541547562170:=Nat
def tw8662331750283775892:=Nat
def tw921072596823084768:=Nat
def tw7896836738873691471:=Nat
def tw7786061069945113512:=Nat
def tw10848623930940832045:=Nat
def tw17725531170903618118:=Nat
def tw3823935267559192640:=Nat
def tw2797082011995166387:=Nat
def tw10537249991456138255:=Nat
def tw9117672117251598821:=Nat
def tw10830527376849367034:=Nat
def tw15703000089507897748:=Nat
def tw15167514485344612686:=Nat
def tw2384034454551667502:=Nat
def tw4502632261088466145:=Nat
def tw6758962257290438006:=Nat
def tw8108434687609500545:=Nat
def tw7990232391954701860:=Nat
def tw6157458913098919122:=Nat
def tw15610248313315293287:=Nat
def tw11962337733327364752:=Nat
def tw5445197965030794298:=Nat
def tw14347086235671316900:=Nat
def tw17603215741362991400:=Nat
def tw12090854950656666557:=Nat
def tw16633903913379039254:=Nat
def tw14135441740339131509:=Nat
def tw15357886860469944684:=Nat
def tw11390568284094286612:=Nat
def tw14766495791408376435:=Nat
def tw6751883594809319588:=Nat
def tw3304375652929186027:=Nat
def tw17970027001687584827:=Nat
def tw15261342507891371737:=Nat
def tw4277975113927367349:=Nat
def tw11101039679009971825:=Nat
def tw5351482103831851612:=Nat
def tw11917658089672534462:=Nat
def tw15759140145596501630:=Nat
def tw1423939440292609370:=Nat
def tw3870407472600722460:=Nat
def tw7188212607468625424:=Nat
def tw7761555665592107641:=Nat
def tw9534418562551811009:=Nat
def tw3192692455309132294:=Nat
def tw8644022639659280227:=Nat
def tw6212576062109574019:=Nat
def tw15583459669582459927:=Nat
def tw3417648013285773825:=Nat
def tw11232347841350014017:=Nat
def tw213764847397237476:=Nat
def tw4773750018902971019:=Nat
def tw8808102033946195408:=Nat
def tw8307529120020996910:=Nat
def tw17432765868941648562:=Nat
def tw18338219392818704510:=Nat
def tw2442803831471136364:=Nat
def tw9460172584016082436:=Nat
def tw10480029124829313293:=Nat
def tw18413915914399946115:=Nat
def tw10536330618172066046:=Nat
def tw12449374253446149642:=Nat
def tw16115778100598387498:=Nat
def tw9543661062745622847:=Nat
def tw14520938469715120615:=Nat
def tw288033089381218752:=Nat
def tw17732902066703296536:=Nat
def tw8198191234157843548:=Nat
def tw13418049877750461075:=Nat
def tw9325597568884798419:=Nat
def tw2462484810423277066:=Nat
def tw5531223541849543573:=Nat
def tw15588738721832826331:=Nat
def tw6966269991045688336:=Nat
def tw17260582573176421558:=Nat
def tw8043796426004541155:=Nat
def tw1509939342240280718:=Nat
def tw7554001935337597794:=Nat
def tw15627062944892017551:=Nat
def tw9187818039292456695:=Nat
def tw4366219049394555258:=Nat
def tw952292346880968456:=Nat
def tw2496970078807174194:=Nat
def tw395499903004225443:=Nat
def tw10730994415567732208:=Nat
def tw1310257111815617974:=Nat
def tw10115091954124895420:=Nat
def tw17423185376121130579:=Nat
def tw617038229841259015:=Nat
def tw16126575765879512174:=Nat
def tw12587534790382729663:=Nat
def tw829758102588992188:=Nat
def tw12396844338304049650:=Nat
def tw8772828534891830108:=Nat
def tw14541282913890169767:=Nat
def tw7359688908341861542:=Nat
def tw10948781847824373123:=Nat
def tw3197005970441092620:=Nat
def tw13724189609028666029:=Nat
def tw12179445784752058444:=Nat
def tw5188137824679673362:=Nat
def tw11925842848523579329:=Nat
def tw5680549973013954449:=Nat
def tw12053882459225282067:=Nat
def tw10850922275567179384:=Nat
def tw1364436464587645142:=Nat
def tw7661205487366132469:=Nat
def tw7700987657815205552:=Nat
def tw4929341063377300162:=Nat
def tw9326081818321991790:=Nat
def tw3213666983295774462:=Nat
def tw1320161494389255270:=Nat
def tw12553106849379223754:=Nat
def tw18169767250633056323:=Nat
def tw10032032754079718631:=Nat
def tw16832375777302629786:=Nat
def tw17386251823941943583:=Nat
def tw16711870407732174770:=Nat
def tw2532082943346771239:=Nat
def tw15895150224734128373:=Nat
def tw628838842508233938:=Nat
def tw9561097595718673083:=Nat
def tw11169636238896386175:=Nat
def tw9329884687248971003:=Nat
def tw5673181741786835119:=Nat
def tw694189127769806026:=Nat
def tw14100017564060623883:=Nat
def tw17803361932582231802:=Nat
def tw546032935939704378:=Nat
def tw11070520311102085048:=Nat
def tw12295544691615079691:=Nat
def tw5809453864932846430:=Nat
def tw13431681008958903306:=Nat
def tw14471985763139284546:=Nat
def tw11985787680767534423:=Nat
def tw1079285601467919246:=Nat
def tw16133718258446146159:=Nat
def tw18108125798961703492:=Nat
def tw14930057780855138763:=Nat
def tw15574966017744084382:=Nat
def tw5950454527770185400:=Nat
def tw4798423370146762680:=Nat
def tw1529559234162035722:=Nat
def tw13260804128417471543:=Nat
def tw15693038069930951139:=Nat
def tw9169908351431132117:=Nat
def tw13972351427256861217:=Nat
def tw9265335064767712498:=Nat
def tw6553851806907185267:=Nat
def tw12364684782777300239:=Nat
def tw13611364511945466812:=Nat
def tw2337127607648672613:=Nat
def tw4992136561409524649:=Nat
def tw16951909433424583748:=Nat
def tw4578560707591350541:=Nat
def tw2467581266393155876:=Nat
def tw4425130271796495906:=Nat
def tw18236467368004363807:=Nat
def tw1477928339072696856:=Nat
def tw10940913994024992542:=Nat
def tw3239438747861745621:=Nat
def tw7492218273631188557:=Nat
def tw5782646028662942811:=Nat
def tw8429149970512217294:=Nat
def tw555141612064701703:=Nat
def tw11202965268678169516:=Nat
def tw17687592068039529163:=Nat
def tw951056058074857494:=Nat
def tw9603068575808638061:=Nat
def tw7094068162640156791:=Nat
def tw5745484528045437799:=Nat
def tw15964065630431948476:=Nat
def tw6633277459897873880:=Nat
def tw5494850639819341311:=Nat
def tw806996304496623889:=Nat
def tw8876433951522313066:=Nat
def tw12346535194280718639:=Nat
def tw6171014226217408082:=Nat
def tw10441864680269732352:=Nat
def tw2635304670324458717:=Nat
def tw15113850577451392729:=Nat
def tw8822303966863535872:=Nat
def tw13850641631967746093:=Nat
def tw15664273655490723796:=Nat
def tw7354296617702520106:=Nat
def tw7103749746051056192:=Nat
def tw3020194857614386963:=Nat
def tw13786110139486080622:=Nat
def tw17580461943738883344:=Nat
def tw11630570454173079715:=Nat
def tw6269054356489952835:=Nat
def tw15081028336810188735:=Nat
def tw15282688946641297500:=Nat
def tw3566161639013822777:=Nat
def tw7854155246126424205:=Nat
def tw6557682153896011484:=Nat
def tw17531137315983055097:=Nat
def tw8062958360073097860:=Nat
def tw2663132539949019326:=Nat
def tw17386387766859716115:=Nat
def tw16665188809166906104:=Nat
def tw14473453262128895628:=Nat
def tw10327883382192705724:=Nat
def tw6198693068846748786:=Nat
def tw13484241729475759135:=Nat
def tw7043884496565339616:=Nat
def tw13222153428695923264:=Nat
def tw12734022936214799384:=Nat
def tw9955034458264163320:=Nat
def tw2897895447823068098:=Nat
def tw14463045836971300046:=Nat
def tw8887144575463940231:=Nat
def tw18194446170511591308:=Nat
def tw593621048077778319:=Nat
def tw7394247254358417842:=Nat
end PySem.W.Fast
set_option Elab.async false
set_option linter.all false
open PySem PySem.W PyProof.Rows
set_option maxRecDepth 100000 in
set_option maxHeartbeats 0 in
theorem PySem.Challenge.cw_holeshapes_s01_answers_holds : PySem.Challenge.rw_holeshapes_s01_answers.Holds := by
  w_on; k_headS; (case hw => exact ⟨[.list [.int 9]], by decide +kernel, by decide +kernel⟩)
  k_fillS
  refine L2.Vj (r := PySem.Challenge.rw_holeshapes_s01_answers) (k := 78) (CX := L2.qb) (ps := ["calls"]) (sp := Hs.Ab) (by decide +kernel) rfl rfl ⟨rfl, by decide, by decide⟩ (fun w h Y => PySem.W.kIn_of Y) ?F ?S (fun _ _ _ _ z => z)
  case F =>
    intro w mg fa h Y KX G hmg
    apply Hs.all_mk KX G hmg <;> first
      | (show _ = _; k_is)
      | exact Hs.CF.of (by constructor <;> k_is) (by repeat' first | exact .nil | refine .cons (by show _ = _; k_is) ?_)
      | (refine' ⟨_, L2.abU ?x ?y ?z⟩; case x | y | z => k_is)
      | (constructor <;> k_is)
  case S =>
    intro K H xs a hO hwi abI hx
    cases hx with
    | cons h1 h2 =>
      cases h2
      cases h1 with
      | lst hs ha =>
        have e := L2.Q_ a.1 _ ha
        subst e
        have q : ((Codec.inLen 0 30000 a.1 && a.1.all (Codec.inInt 0 4294967295)) && true) = true := hwi
        rw [Bool.and_eq_true, Bool.and_eq_true] at q
        exact ⟨_, a.1, rfl, hs, (Codec.inNat_iff.mp q.1.1).2, abI, fun H' p hp => .lst (L2.aj.of hp) (L2.Sg _)⟩
