import PyProof.Rows.All
import Wide.All
import OpenK.AllK
import Wide.FinOn
import PySem.Challenge.RW_rimhouse_k34_whole_desks_altered_and_bac
set_option Elab.async false
set_option compiler.extract_closed false
set_option genSizeOf false
set_option maxHeartbeats 16000000
set_option linter.all false
set_option maxRecDepth 100000
noncomputable section
open PySem renaming wpAny->iZ,sizeLine->jb,model->jf,starEach->jh,compareOp->jk,mainGlobals->jo,cellsFrom->js,backTo->jv,recursionLimit->jy,foldedSetIterable->jz,binaryOp->jA,assignEach->km,attributeBase->kF,bootBuiltins->l_,bindArgs->ma,codeAny->md,sliceBounds->mf,pyNext->mh,keywordEach->mi,letOwnedTupleGo->ml,sysModules->nq,standAt->nu,behindInMarks->ny,rawInt->nz,builtinsNs->n_,backToKw->og,newFunctionEnv->oh,callerA->pL,swapsWith->pS,getMethod->pU
open PyProof.Rows renaming seqObj->pX
open Option renaming some->fo,none->fO
open List renaming length->gu
open Array renaming append_assoc->sM,length_toList->lO,toList->sQ,getElem?_toList->qW,getD->bI,getD_eq_getD_getElem?->Sc
open Bool renaming false_ne_true->cX,eq_iff_iff->iD,or_false->mG,and_eq_true->fQ,false_eq_true->uT,or_eq_true->qY,eq_false_iff->eN,noConfusion->vK,not_not->xO,and_true->Rw,not_eq_true'->yL,not_eq_false'->PH
open Char renaming toNat->rP
open Classical renaming byContradiction->lF,propDecidable->xU,not_not->Ap
open Eq renaming symm->sG,trans->zD
open False renaming elim->eD
open ForInStep renaming yield->oB
open Function renaming comp->Z_
open Iff renaming rfl->pC
open Int renaming mul_one->jF,fdiv_eq_ediv_of_nonneg->sZ,toNat_natCast->cF,le_of_lt->cC,natCast_nonneg->vS,gcd->rT,le_of_dvd->wG,dvd_mul_of_dvd_left->wH,mul_ediv_cancel_left->wI,mul_nonneg->eO,mul_neg->fT,mul_ediv_cancel'->wJ,mul_dvd_mul_left->wK,natAbs_mul->rV,natAbs_dvd_natAbs->wL,mul_comm->bX,eq_of_mul_eq_mul_right->rW,mul_pos->gJ,le_refl->dL,mul_add->kZ,mul_sub->lC,mul_assoc->cG,add_mul->fG,mul_zero->cW,one_mul->lE,sub_mul->pA,neg_mul->iJ,zero_mul->gY,mul_eq_zero->pB,mul_le_mul->wZ,mul_le_mul_of_nonneg_right->fH,add_zero->gK,mul_le_mul_of_nonneg_left->jU,le_of_mul_le_mul_right->mW,le_trans->xA,zero_add->lH,emod_nonneg->fN,emod_lt_of_pos->eG,toNat_of_nonneg->sA,lt_of_le_of_lt->pI,natAbs_neg->iV,eq_ofNat_of_zero_le->jZ,ofNat_dvd_left->nB,add_sub_cancel->xG
open List renaming getElem?_eq_none_iff->sL,range->aW,mem_filter->lI,filterMap_cons->pY,mem_cons_self->cY,mem_cons_of_mem->bZ,mem_cons->bH,mem_append->bJ,mem_append_left->fW,getElem?_eq_some_iff->cA,getElem?_set_self->eK,getElem?_set_ne->dP,set_comm->kJ,mem_filterMap->nK,mem_append_right->eL,size_toArray->bY,length_cons->eM,lookup->iS,map_cons->cS,length_map->aH,append_nil->fP,nodup_cons->nU,of_mem_zip->nV,replicate->aQ,length->iT,length_take->cI,getElem?_append_right->dU,getElem?_replicate->gD,getElem?_append_left->dH,getElem?_map->aP,getElem?_take_of_lt->tM,mem_of_getElem?->bK,length_append->aX,length_replicate->bP,length_drop->eJ,length_set->eE,all_cons->uE,any_cons->jM,replicate_succ->eZ,flatten_cons->gE,foldl->jN,append_assoc->dC,length_singleton->fR,eraseIdxIfInBounds_toArray->uL,nil_append->gG,map_nil->jY,forIn_cons->oA,lookup_cons->eU,mem_singleton->cJ,cons_append->fD,all_eq_true->fE,getD_eq_getElem?_getD->bA,getElem?_eq_getElem->aS,forIn_nil->qZ,getElem_of_mem->rB,mem_range->fF,getElem_mem->eF,any_eq_true->mK,take_succ_eq_append_getElem->vA,sum_append->vB,take_of_length_le->fZ,getElem?_eq_none->bW,length_pos_iff->vC,getElem?_range->cU,take_succ->rC,map_append->bQ,filterMap->xZ,mem_map->aY,map_eq_nil_iff->rR,length_range->gZ,drop_zero->oY,drop_eq_nil_of_le->pO,not_mem_nil->dJ,zipIdx_cons->vX,zipIdx_nil->vY,forIn_toArray->hX,zipWith->cV,ext_getElem?->dR,length_zipWith->jS,take_length->wO,filter_append->wS,length_filter_le->oX,range_succ_eq_map->wT,map_map->bC,length_nil->lD,map_congr_left->fM,drop_eq_getElem_cons->wU,take_append_drop->wV,getElem?_drop->wW,set_set->wX,mem_or_eq_of_mem_set->pD,map_set->rZ,getElem?_zipWith->mX,range_succ->pE,mem_set->xE,map_take->pG,map_drop->pH,mem_replicate->lL,zipWith_cons_cons->eW,sum_cons->dW,take_succ_cons->xH,drop_succ_cons->xI,eq_nil_of_length_eq_zero->lM,dropLast_concat_getLast->xJ,take_take->xL,any_map->lN,take_left'->pK,map_id->xS,drop_left'->xT,getElem?_of_mem->iL,mem_of_mem_take->fV,mem_of_mem_drop->fK,any_nil->yF,take_append_of_le_length->pP,eq_nil_or_concat->yH,concat_eq_append->yI,filterMap_append->aAC,nodup_range->Sa,ext_getElem->Tl,zip->eT,length_zip->Z',filter_eq_nil_iff->yB,append_inj'->To,map->xK,cons_ne_nil->aAN,length_pos_of_mem->yR
open List.Pairwise renaming nil->Ai,map->aAB
open List.Perm renaming refl->Ty
open List.cons renaming inj->kS
open Nat renaming lt_of_lt_of_le->bS,lt_irrefl->dO,ne_of_lt->dB,le_trans->bF,le_of_lt->gQ,ne_of_gt->gR,le_refl->aT,zero_le->dM,lt_succ_self->jJ,le_succ->lW,succ_mul->mI,mul_comm->qX,le_of_not_lt->uV,lt_of_le_of_lt->gU,lt_succ_of_lt->mJ,lt_of_succ_le->uU,log2_lt->mO,toDigits->jQ,strongRecOn->vP,digitChar->vQ,toDigits_ne_nil->vR,min_eq_left->jT,min_eq_right->yE,sub_self->gL,le_add_right->kW,mul_le_mul->rY,pow_succ->wY,le_antisymm->xB,pow_le_pow_right->lG,not_lt_zero->xC,add_assoc->sB,lcm->nA,mul_le_mul_right->pJ,add_sub_cancel_left->gO,add_le_add_right->kC,min_le_left->sF,pow_add->xF,le_of_ble_eq_true->aAO,mul_one->pN
open Ne renaming symm->bV
open Option renaming getD_none->uC,none->uS,getD_some->iG,map->xY,map_some->jV,map_eq_some_iff->fL,ne_none_iff_exists'->aAL,bind_some->H_
open Option.some renaming inj->bD
open Or renaming inl->aI,inr->fY
open Prod.mk renaming injEq->pQ
open PyProof.Rows renaming IsTup->gP,AllBare->jC,Constant_none->sN,isTrue_plain->sP,assignInOrder_nil->sR,assignInOrder_cons->qD,callWith_type1->nJ,floordiv_int->sY,envOfC->dQ,callWith_builtin1->zQ,subscriptTail_builtinR->tZ,IntsAre->Do,JoinedStr_many->rH,joinParts_cons->kP,FormattedValue_plain->oG,formatField_int_small->oH,joinParts_nil->rJ,joinParts_nilE->vL,joinParts_consE->oM,formatField_str->vO,IsTupIter->iU,slot_tupleiter_next->oP,entry_tupleiter_next->vT,args_tupleiter_next->vU,get?_update_seq->wP,callWith_kw->Ak,envOfC->cD,boot_list->fJ,boot_range->xD,boot_int->lJ,boot_max->pF,boot_min->mY,boot_tuple->hU,boot_str->iB,boot_any->xN,boot_sum->xR,boot_isinstance->gB,boot_bool->An,boot_all->xV,part_short->Ao,split_weight->xX,getElem?_bubble->Da,listUpdate_at->hW,listItems_at->Tm
open PyProof.Rows.Boot renaming abs->Al
open PyProof.Rows.IsTup renaming new->nD
open PySem renaming Str->aC,Addr->aA,Value->aE,Paired->aZ,Heap->aJ,Program->aM,World->aL,Within->pW,Around->aV,Shared->aG,Scope->cQ,Model->jD,Expr->aR,Stmt->aO,wpAny_mono->eY,wpAny_Name->pZ,wpAny_truthy_bool->gC,wpAny_execs_nil->lP,wpAny_execs_cons->qA,wpAny_assign_Name->qC,wpAny_bind->aN,wpAny_holding->iP,wpAny_standAt->iQ,wpAny_pure->bG,wpAny_newObj_type->lQ,wpAny_rule->lR,wpAny_bindName->sS,PassesOwn->qG,wpAny_passesOwn->jE,wpAny_load->nE,wpAny_pyIter_list->nF,wpAny_pyIter_tuple->sT,rangeSize_one->sV,call_range_1->sW,intBits_le_64->sX,CmpOp->lS,sizeLine_eq->bE,wpAny_loadPart->tF,Result->jH,FuncData->aK,BindsTo->lU,wpAny_call->lV,codeAny_mono->nR,wpAny_Call_Name_kw->jK,Keyword->lX,NameKind->jL,name_of_addr->tL,mem_of_lookup->lY,Arguments->kO,codeAny_call_function->tN,wpAny_newFunctionEnv_cells->tQ,codeAny_func->tR,concat_meets->tS,noFill_tuple_add->tT,seq_tuple_add->tU,evalPart_none->tY,seqIndex_of->qQ,seqIndex_neg->qR,typeIs_str->mD,call_list_seq->uG,PlainAttrs->qS,call_meets->gF,fitsIndex_both->uM,wpAny_binaryOp_repeat_ref->uN,typeIs_int->nX,Params->gN,call->Fa,pushCells_keeps->uX,eval_ListComp->uY,wpAny_comprehension_free->oC,exec_Assign_Name_used->uZ,PyData->dI,ZipApart->jO,codeAny_call_builtin->vF,wpAny_loadPart_at->jP,codeAny_builtin->rE,Builtin->iH,Fin->oF,strLen_append->kQ,int_text_length_le->oJ,ofString_length->oK,Str->dZ,numbered_texts->vM,wpAny_callSpecial?_slot->oO,wpAny_call_entry->oQ,wpAny_field->gA,wpAny_seqItems->gX,wpAny_setField->vV,IsPair->dN,wpAny_setField_rec->kU,wpAny_onRaise->mV,wpAny_updateSeq_pair->rS,wpAny_letGo->jR,IsEnumOut->mH,wpAny_attempt->wA,IsZip->eV,wpAny_pyIter_zip->wE,wpAny_pyIter_enum->wF,wpAny_tryCatch->kY,wpAny_updateSeq->rX,wpAny_evalAll_cons->wR,Paired->bR,boot_len->bB,DictEntry->mZ,Pos->pM,intText_digits->xQ,strKind->DL
open PySem.Around renaming under->qK,frames_deeper->qP,under_plainId->wN
open PySem.AutoListH renaming list___mul___list_int_3->Ah
open PySem.Builtin.Builtins renaming bindParams->wQ
open PySem.Builtin.Int renaming intBits->vE
open PySem.Builtin.List renaming listTooLong->qV,listExtendWith->Wp
open PySem.Builtin.Range renaming rangeSize->sU,small->Uf
open PySem.Builtin.SmallTypes renaming nextOf->gH,ownedTupleIsFree->oR,ownedTupleHandOut->vZ
open PySem.Builtin.Str renaming occurrences->jG
open PySem.Calls renaming Name_function_global->sO,callWith_builtin->uH,evalArgs_plain->uI
open PySem.CmpOf renaming ints_lt->vD
open PySem.Code renaming frames->tK,isFrame->qL
open PySem.Data renaming dict->Ix
open PySem.DictEntry renaming refKey->tD
open PySem.Env renaming kindOf->uW
open PySem.F renaming slot_tuple_add->tV,entry_tuple_add->tW,args_tuple_add_2->tX,slot_list_pop->uJ,entry_list_pop->uK,fills_int_mul->uO,slot_int_rmul->nY,slot_int_index->uP,entry_int_rmul->uQ,args_int_rmul_2->uR,slot_gs_get->rD,excAttr_ValueError->vG,slot_str_split->rL,entry_str_split->rN,args_str_split_2->rO,slot_enumerate_next->cL,entry_enumerate_next->Re,args_enumerate_next_1->Rs,slot_zip_next->oS,entry_zip_next->wB,args_zip_next_1->wC,entry_min_loop->wM,plain_min_loop->kX,plainAttrs_list->iK,slot_list_append->jW,type_list_append->jX,plainAttrs_str->eP,slot_str_join->hZ,type_str_join->iA,slot_str_split->iW,type_str_split->iX,slot_list_pop->yJ,type_list_pop->yK,slot_bool_lt->Sy,plain_list_iadd->Tk
open PySem.Heap renaming lt_size->bN,SameBut->kH,get?_push_of_some->bL,get?_push_size->dG,size_push->gS,get?_update_self->uA,get?_update_other->uB,FlyingW->vH,ExtBut->mU
open PySem.Heap.DictOf renaming new->aAQ
open PySem.Heap.IsSliceOf renaming new->zR
open PySem.Heap.SameBut renaming update->mS
open PySem.IsL renaming update->Ag
open PySem.NameKind renaming free->fC,cell->iF
open PySem.NumText renaming digitsVal->rQ,digitsVal->Am,AllDigits->xP
open PySem.Obj renaming mapSeq->gT,data_mapFields->vW
open PySem.Paired renaming length->dE
open PySem.PassesOwn renaming never->hO
open PySem.PyData renaming eqv->cK,int->gM,canLayAll0->cP,canLay0->fU,eqvAll->hV,depth->iY,depthAll->iC,str->sE
open PySem.SeqAt renaming EqAt->uD,in_listAt->uF,readOf->xW
open PySem.SeqAt.EqAt renaming same->zS,none_bool->zT,none_int->zU,none_str->zV,bool_none->zW,bool_bool->zX,bool_int->zY,bool_str->zZ,int_none->Aa,int_bool->Ab,int_int->Ac,int_str->sI,str_none->Ad,str_bool->Ae,str_int->sJ,str_str->Af
open PySem.Shared renaming heap->wD
open PySem.Str renaming empty->eI,ofString->cN,mk->oN,join->cO
open PySem.StrLaws renaming join_split->mQ,join_length_le->sD
open PySem.Txt renaming split->aU,join->vN,slice->eQ,slice_le->yA
open PySem.Value renaming none->iN,bool->pT,int->iM,str->jB,ref->cZ,type->pV,builtin->mP
open PySem.Value.ref renaming inj->rG
open PySem.Value.type renaming inj->Aj
open PySem.W renaming instObj->iO,hideAll_get->vJ,Frag->aF,lookIn->nL,plainGet->kK,hasDictIn->lT,findIn->bO,handedIn->tE,plainGet_of->qH,isFn->qI,plainOver->nN,takerIn->qJ,makesIn->nQ,emptyDict->iR,specialIn->tG,keepIn->dX,kitOne->bU,kia_one->fX,callWith_K->kM,methodCall_KW->qM,cellsFrom_some->qO,fnOf->iE,codeIn->lZ,codeRec_of->tO,OpenLaw->Ev,Frag->fA,mroIn->gW,looks_mroIn->oE,findIn->iI,looks_findIn->rF,mroIn->dY,kla_obj->oU,CodeHd->oV,tabObj->oW,KeysLit->lK,nsIn->bM,tabObj->Db,codeHdIn->No,codeHd_of_K->On,kitx_tuple->tI,kas_asc->mM,kas_desc->oT,kas_rev->cR,kas_descPart->Sj,kas_place->Bi,kas_bin->fB,kat_cons->Kn,kat_yes->Op,keepIn->pR
open PySem.W.KasT renaming kasWp_bind->cE,kasWp->Sk
open PySem.W.WData renaming int->Fk
open PySem.W.WShape renaming has->Go
open PySem.Walks renaming list->rA
open PySem.Within renaming cons->zP
open True renaming intro->jI
abbrev qf:=@if_neg
abbrev qg:=@if_pos
abbrev qh:=@of_decide_eq_true
abbrev qk:=@decide_eq_true
abbrev ql:=@of_decide_eq_false
abbrev qU:=@decide_eq_false
abbrev rd:=@congrArg
inductive s_{α:Sort u}{β:Sort v}(p:α->β->Prop):Prop|mk(a b)(h:p a b):s_ p
inductive tq{α:Sort u}{β:Sort v}{γ:Sort w}(p:α->β->γ->Prop):Prop|mk(a b c)(h:p a b c):tq p
inductive t_{α:Sort u}{β:Sort v}{γ:Sort w}{δ:Sort x}(p:α->β->γ->δ->Prop):Prop|mk(a b c d)(h:p a b c d):t_ p
inductive y_{α:Sort u}{β:Sort v}{γ:Sort w}{δ:Sort x}{ε:Sort y}(p:α->β->γ->δ->ε->Prop):Prop|mk(a b c d e)(h:p a b c d e):y_ p
inductive yM{α:Sort u}{β:Sort v}{γ:Sort w}{δ:Sort x}{ε:Sort y}{ζ:Sort z}(p:α->β->γ->δ->ε->ζ->Prop):Prop|mk(a b c d e f)(h:p a b c d e f):yM p
theorem aw{n:Nat}(h:Nat.ble n 99=true:=by rfl):n<=PySem.sizeLine:=Nat.le_trans (Nat.le_of_ble_eq_true h) (by decide)
theorem br{a b:Int}(h:decide (a<b)=true:=by rfl):a<b:=qh h
theorem de{p:Prop}(h:p:=by decide +kernel):p:=h
theorem dz{p:Prop}(h:p:=by decide):p:=h
theorem eX{p:Prop}(h:p:=by lia):p:=h
theorem dj{p:Prop}(h:p:=by lia):p:=h
theorem fg{p:Prop}(h:p:=by simp):p:=h
theorem cm{α:Sort u}{a:α}:a=a:=rfl
namespace L2
open PySem PySem.Spec PyProof.Rows
abbrev Key:=Sum Int aC
inductive V where
 |non|bl (b:Bool)|int (i:Int)|str (x:aC)|ref (a:aA)|ty (n:String)
 deriving DecidableEq
def RelV:V->aE->Prop
 |.non,u=>u=iN
 |.bl b,u=>u=pT b
 |.int i,u=>∃t,u=iM i t
 |.str x,u=>∃t,u=jB x t
 |.ref a,u=>u=cZ a
 |.ty n,u=>u=pV n
abbrev Vals:List V->List aE->Prop:=aZ RelV
def Vals.length(r:Vals xs us):gu xs=gu us:=dE r
theorem Vals.get:∀{xs}{us}{i:Nat}{x},Vals xs us->xs[i]?=fo x->∃u,us[i]?=fo u/\RelV x u
 |_,_,_,_,.nil,e=>by simp at e
 |_,_,0,_,.cons r _,e=>by simp at e;subst e;exact⟨_,cm,r⟩
 |_,_,i+1,x,.cons _ t,e=>by
  obtain⟨u,h1,h2⟩:=Vals.get t (by simpa using e);exact⟨u,by simpa using h1,h2⟩
theorem Vals.set(r:RelV x u):∀{xs}{us}i,Vals xs us->Vals (xs.set i x) (us.set i u)
 |_,_,_,.nil=>.nil
 |_,_,0,.cons _ t=>.cons r t
 |_,_,i+1,.cons q t=>.cons q (Vals.set r i t)
theorem Vals.append:∀{xs ys}{us ws},Vals xs us->Vals ys ws->Vals (xs++ys) (us++ws)
 |_,_,_,_,.nil,s=>s
 |_,_,_,_,.cons r t,s=>.cons r (Vals.append t s)
theorem Vals.take:∀{xs}{us}n,Vals xs us->Vals (xs.take n) (us.take n)
 |_,_,0,_=>.nil
 |_,_,_+1,.nil=>.nil
 |_,_,n+1,.cons r t=>.cons r (Vals.take n t)
theorem Vals.drop:∀{xs}{us}n,Vals xs us->Vals (xs.drop n) (us.drop n)
 |_,_,0,r=>r
 |_,_,_+1,.nil=>.nil
 |_,_,n+1,.cons _ t=>Vals.drop n t
theorem Vals.none_of:∀{xs}{us}{i:Nat},Vals xs us->xs[i]?=fO->us[i]?=fO:=λ{xs us i}r e=>by
 have h1:=r.length;have h2:gu xs<=i:=sL.mp e;exact sL.mpr dj
def uj:Option V->Option aE->Prop
 |some v,fo u=>RelV v u
 |none,fO=>True
 |_,_=>False
def kV:Key->V
 |.inl i=>.int i
 |.inr x=>.str x
inductive HO where
 |lst (xs:List V)
 |tup (xs:List V)
 |ins (C dx:aA) (fs:List (aC×V))
 |own (x:aA)
 |zt (lo hi:Int)
 |Bw (o:Obj) (u:HO)
 |my (ps:Array aE)
 |ext (φ:aJ->Prop)
abbrev Hp:=aA->Option HO
def upd(H:Hp)(a:aA)(o:HO):Hp:=λb=>if b=a then fo o else H b
theorem ae:upd H a o a=fo o:=by unfold upd;rw[qg rfl]
theorem j3(h:b≠a):upd H a o b=H b:=by unfold upd;rw[qf h]
theorem Ju:upd (upd H a o) a u=upd H a u:=by
 funext b;unfold upd;split<;>rfl
theorem J7{H:Hp}(h:H a=fo o)(h':H b=fo u)(d:o≠u):a≠b:=by
 intro e;subst e;rw[h] at h';exact d (bD h')
def i7{H:Hp}(h:H a=fo o)(h':H b=fO):a≠b:=dj
section
variable(P:aM)(w:aL)
def dh(H:Hp)(h:aJ)(a:aA):HO->Prop
 |.lst xs=>gu xs<=jb/\s_ λiq n=>Vals xs iq/\h.get? a=fo {cls:=.type "list",data:=.seq iq.toArray n}
 |.tup xs=>gu xs<=jb/\∃iq,Vals xs iq/\gP h a iq.toArray
 |.ins C dx fs=>H dx=fo (.own a)/\gu fs<=1000/\dx≠a/\h.get? a=fo (iO C dx)/\
   ∃mA,h.Ns1 dx mA/\(∀f,uj (fs.lookup f) (mA f))/\pW mA (fs.map (·.1))
 |.own _=>∃o,h.get? a=fo o
 |.zt lo hi=>tq λt u v=>h.get? a=fo {cls:=.type "range",data:=.fields #[.int lo t,.int hi u,.int 1 v]}
 |.Bw o u=>h.get? a=fo o/\dh H h a u
 |.my ps=>h.get? a=fo {cls:=.none,data:=.fields ps}
 |.ext φ=>φ h/\(∃o,h.get? a=fo o)/\∀h1 h2,φ h1->(∀o,h1.get? a=fo o->h2.get? a=fo o)->φ h2
def mz(H:Hp)(h:aJ):Prop:=∀a o,H a=fo o->dh H h a o
end
section
variable{P:aM}{w:aL}{H H':Hp}{h h':aJ}{a:aA}{o:HO}
theorem dh.lt(x:dh H h a o):a<h.objs.size:=by
 cases o with
 |lst xs=>obtain⟨_,_,_,_,e⟩:=x;exact bN e
 |tup xs=>obtain⟨_,_,_,p⟩:=x;exact p.lt
 |ins C dx fs=>obtain⟨_,_,_,e,_⟩:=x;exact bN e
 |own y=>obtain⟨_,e⟩:=x;exact bN e
 |zt lo hi=>obtain⟨_,_,_,e⟩:=x;exact bN e
 |Bw ob u=>obtain⟨e,_⟩:=x;exact bN e
 |my ps=>exact bN (show h.get? a=fo _ from x)
 |ext φ=>obtain⟨_,⟨_,e⟩,_⟩:=x;exact bN e
theorem aZ.Jv:∀{tj}{gi:List β},aZ F tj gi->(∀a b,F a b->G a b)->aZ G tj gi
 |_,_,.nil,_=>.nil
 |_,_,.cons r t,f=>.cons (f _ _ r) (aZ.Jv t f)
def aZ.imp'{G:α->β->Prop}(f:∀a b,F a b->G a b)(r:aZ F tj gi):aZ G tj gi:=aZ.Jv r f
theorem dh.rf(x:dh H h a o)(k:∀b u,(b=a\/H b=fo (.own a))->h.get? b=fo u->h'.get? b=fo u)
  (ho:∀b,H b=fo (.own a)->H' b=fo (.own a)) (ht:∀b xs,H b=fo (.tup xs)->H' b=fo (.tup xs)):dh H' h' a o:=by
 induction o with
 |lst xs=>obtain⟨z,iq,n,r,e⟩:=x;exact⟨z,iq,n,r,k _ _ (.inl rfl) e⟩
 |tup xs=>obtain⟨z,iq,r,ob,e,c⟩:=x;exact⟨z,iq,r,ob,k _ _ (.inl rfl) e,c⟩
 |ins C dx fs =>
  obtain⟨d,z,ne,e,mA,⟨od,es,ep,e2,c⟩,r⟩:=x;exact⟨ho _ d,z,ne,k _ _ (.inl rfl) e,mA,⟨od,es,ep,k _ _ (.inr d) e2,c⟩,r⟩
 |own y=>obtain⟨ob,e⟩:=x;exact⟨ob,k _ _ (.inl rfl) e⟩
 |zt lo hi=>obtain⟨t,u,v,e⟩:=x;exact⟨t,u,v,k _ _ (.inl rfl) e⟩
 |Bw ob u ih=>obtain⟨e,q⟩:=x;exact⟨k _ _ (.inl rfl) e,ih q⟩
 |my ps =>
  have e:=x;exact k a _ (.inl rfl) e
 |ext φ=>obtain⟨p,⟨o,e⟩,st⟩:=x;exact⟨st _ _ p λo q=>k _ _ (.inl rfl) q,⟨o,k _ _ (.inl rfl) e⟩,st⟩
def mz.lt(x:mz H h)(e:H a=fo o):a<h.objs.size:=(x a o e).lt
theorem mz.fresh(x:mz H h)(e:h.objs.size<=a):H a=fO:=by
 cases q:H a with
 |none=>rfl
 |some u=>exact absurd (bS (x.lt q) e) (dO _)
def mz.kept(x:mz H h)(k:∀b u,h.get? b=fo u->h'.get? b=fo u):mz H h':=λa o e =>
 (x a o e).rf (λb u _ q=>k b u q) (λ_ q=>q) λ_ _ q=>q
theorem mz.laid(x:mz H h)(k:∀b u,h.get? b=fo u->h'.get? b=fo u)(hp:h.objs.size<=a)(new:dh (upd H a o) h' a o):mz (upd H a o) h':=λb u e=>by
 have hn:=x.fresh hp;by_cases hb:b=a
 .subst hb;rw[ae] at e;cases e;exact new
 .rw[j3 hb] at e;exact(x b u e).rf (λc v _ q=>k c v q) (λc q=>by rw[j3 (i7 q hn)];exact q) λc xs q=>by rw[j3 (i7 q hn)];exact q
end
def Rd(H:Hp)(a:aA)(u:HO):Prop:=H a=fo u\/∃o,H a=fo (.Bw o u)
theorem Rd.ok(r:Rd H a u)(x:mz H h):dh H h a u:=by
 rcases r with r|⟨o,r⟩
 .exact x a u r
 .obtain⟨_,q⟩:=x a _ r;exact q
def PL:Option HO->Prop
 |some (.lst _)=>True
 |some (.ins _ _ _)=>True
 |some (.ext _)=>True
 |_=>False
theorem mz.write(ok:mz H h)(mu:PL (H x))(he:e=x\/H e=fo (.own x))(k:∀b u,b≠e->h.get? b=fo u->h'.get? b=fo u)(Ll:∃u,h'.get? e=fo u)
  (new:dh (upd H x o') h' x o'):mz (upd H x o') h':=λb u q=>by
 have MQ:∀c y,H c=fo (.own y)->c≠x:=λc y r z=>by subst z;rw[r] at mu;exact mu
 have Td:∀c xs,H c=fo (.tup xs)->c≠x:=λc xs r z=>by subst z;rw[r] at mu;exact mu
 by_cases hb:b=x
 .subst hb;rw[ae] at q;cases q;exact new
 .rw[j3 hb] at q;by_cases Jw:b=e
  .have q':H b=fo (.own x):=by
    rcases he with z|z
    .exact absurd (Jw.trans z) hb
    .rw[Jw];exact z
   rw[q] at q';cases q';obtain⟨v,hv⟩:=Ll;exact⟨v,by rw[Jw];exact hv⟩
  .refine(ok b u q).rf (λc v hc r=>k c v ?_ r) (λc r=>by rw[j3 (MQ c b r)];exact r) λc xs r=>by rw[j3 (Td c xs r)];exact r
   rcases hc with rfl|hc
   .exact Jw
   .rintro rfl;rcases he with z|z
    .exact MQ c b hc z
    .rw[hc] at z;cases z;exact hb rfl
structure Un(fs ex:List aA)(H H':Hp)(h h':aJ):Prop where
 keep:∀b o,h.get? b=fo o->H b=fO->b ∉ fs->b ∉ ex->h'.get? b=fo o
 slot:∀b o,h.get? b=fo o->H b=fO->b∈fs->b ∉ ex->∃sl,h'.get? b=fo {o with slots:=sl}
 free:∀b o,h.get? b=fo o->H b=fO->b ∉ ex->H' b=fO
 there:∀b o,h.get? b=fo o->b ∉ ex->∃o',h'.get? b=fo o'
 pj:∀b xs,H b=fo (.tup xs)->H' b=fo (.tup xs)
 pw:∀b o u,H b=fo (.Bw o u)->H' b=fo (.Bw o u)
 pz:∀b ps,H b=fo (.my ps)->∃more,H' b=fo (.my (ps++more))
section
variable{fs fs' ex ex':List aA}{H H1 H2:Hp}{h h1 h2 h':aJ}{a x e:aA}{o:HO}
theorem Un.any(u:Un fs ex H H1 h h1)(q:h.get? b=fo ob)(n:H b=fO)(hx:b ∉ ex):∃sl,h1.get? b=fo {ob with slots:=sl}:=by
 by_cases hb:b∈fs
 .exact u.slot b ob q n hb hx
 .exact⟨ob.slots,u.keep b ob q n hb hx⟩
theorem Un.kept(k:∀b u,h.get? b=fo u->h'.get? b=fo u):Un fs ex H H h h' :=
 ⟨λb ob q _ _ _=>k b ob q,λb ob q _ _ _=>⟨ob.slots,k b ob q⟩,λ_ _ _ n _=>n,λb ob q _=>⟨ob,k b ob q⟩,λ_ _ q=>q,λ_ _ _ q=>q,λ_ ps q=>⟨#[],by rw[q];simp⟩⟩
def Un.refl:Un fs ex H H h h:=Un.kept λ_ _ q=>q
theorem Un.laid(k:∀b u,h.get? b=fo u->h'.get? b=fo u)(hp:h.objs.size<=a)(hn:H a=fO):Un fs ex H (upd H a o) h h' where
 keep:=λb u q _ _ _=>k b u q
 slot:=λb u q _ _ _=>⟨u.slots,k b u q⟩
 free:=λb u q n _=>by rw[j3 (dB (bS (bN q) hp))];exact n
 there:=λb u q _=>⟨u,k b u q⟩
 pj:=λb xs q=>by rw[j3 (i7 q hn)];exact q
 pw:=λb u xs q=>by rw[j3 (i7 q hn)];exact q
 pz:=λb ps q=>⟨#[],by rw[j3 (i7 q hn),q];simp⟩
theorem Un.write(mu:PL (H x))(he:e=x\/H e=fo (.own x))(k:∀b u,b≠e->h.get? b=fo u->h'.get? b=fo u)(Ll:∃u,h'.get? e=fo u):Un fs ex H (upd H x o) h h':=by
 have hx:∀b,H b=fO->b≠x:=λb n z=>by subst z;rw[n] at mu;exact mu
 have hb:∀b,H b=fO->b≠e:=λb n z=>by
  subst z;rcases he with r|r
  .exact hx b n r
  .rw[n] at r;cases r
 have hm:∀b u,H b=fo u->¬PL (fo u)->b≠x:=λb u q nm z=>by subst z;rw[q] at mu;exact nm mu
 refine⟨λb u q n _ _=>k b u (hb b n) q,λb u q n _ _=>⟨u.slots,k b u (hb b n) q⟩,λb u q n _=>by rw[j3 (hx b n)];exact n,λb u q _=>?_,
  λb xs q=>by rw[j3 (hm b _ q λz=>z)];exact q,λb u xs q=>by rw[j3 (hm b _ q λz=>z)];exact q,λb ps q=>⟨#[],by rw[j3 (hm b _ q λz=>z),q];simp⟩⟩
 by_cases Jw:b=e
 .subst Jw;exact Ll
 .exact⟨u,k b u Jw q⟩
end
def Ia(h:aJ)(H:Hp):List aA:=(aW h.objs.size).filter λa=>(H a).isSome
def zN(h:aJ)(H:Hp):aJ:=W.hideAll h (Ia h H)
def c6X h H:(zN h H).objs.size=h.objs.size:=W.hideAll_size _ _
theorem c6Z(e:h.get? b=fo o)(n:H b=fO):(zN h H).get? b=fo o :=
 vJ _ e λhm=>by
  have q:=(lI.mp hm).2;rw[n] at q;simp at q
theorem c7a(e:(zN h H).get? b=fo o):h.get? b=fo o/\H b=fO:=by
 have e':=W.of_hideAll (Ia h H) e;refine⟨e',?_⟩;cases q:H b with
 |none=>rfl
 |some x =>
  have hm:b∈Ia h H:=lI.mpr ⟨List.mem_range.mpr (bN e'),by simp[q]⟩;have z:(zN h H).get? b=fO:=W.hideAll_none (Ia h H) hm;rw[z] at e;cases e
def b4q(g h:aJ)(L:aA):List (aA×Obj):=(aW h.objs.size).filterMap λa=>if a=L\/(g.get? a).isSome=true then fO else (h.get? a).map λo=>(a,o)
def rest(g h:aJ)(L d:aA):List (aA×Obj):=(b4q g h L).filter λp=>decide (p.1≠d)
structure Mod(K:aF)(mg:aC->Option aE)(base:aJ):Prop where
 zu:K.In base
 glob:base.Ns jo mg
 blt:∃mb,base.Ns n_ mb/\∀x:aC,x≠"__name__"->mb x=l_ x
 nolimit:base.NoLimit
structure Cx where
 prog:aM
 w:aL
 K:aF
 mg:aC->Option aE
 base:aJ
 A:aV
 N:List aC
 s₀:aG
 H₀:Hp
 env:Env
 outer:List Env
 stack:List Env
 ex:List aA
 fn:aC->Bool
 calm:Bool
 pn:List (aA×Obj)
 xe:aE->aG->Prop
def uk(l:List Env):List aA:=l.filterMap (·.frame)
abbrev Cx.fs(X:Cx):List aA:=uk X.outer
def Te(sc:cQ)(x:aC):Prop:=sc.names.lookup x=fo .local\/sc.names.lookup x=fo .cell\/sc.names.lookup x=fo .free
def Loc(sc:cQ)(x:aC):Prop:=sc.names.lookup x=fo .local\/sc.names.lookup x=fo .cell
def c0n(env:Env)(h:aJ)(m:aC->Option aE)(x:aC)(u:aE):Prop :=
 (env.kindOf x=fo .local/\m x=fo u)\/((env.kindOf x=fo .cell\/env.kindOf x=fo .free)/\∃c,env.cells.lookup x=fo c/\h.IsCell c (fo u))
structure Cx.Ok(X:Cx):Prop where
 mod:Mod X.K X.mg X.base
 kind:X.env.scope.kind=.function
 glob:X.env.globals=jo
 blt:X.env.builtins=n_
 above:X.s₀.heap.objs.size<=X.env.locals
 inj:∀x y c,X.env.cells.lookup x=fo c->X.env.cells.lookup y=fo c->x=y
 has:∀x,(X.env.kindOf x=fo .cell\/X.env.kindOf x=fo .free)->∃c,X.env.cells.lookup x=fo c
 Gs:∀x c,X.fn x=true->X.env.cells.lookup x=fo c->X.s₀.heap.objs.size<=c
 hd:X.calm=true->X.A.handled=fO
 frames:X.A.frames=fo X.stack
 GX:X.stack=X.outer\/(X.stack=X.env::X.outer/\X.env.frame=fo X.env.locals)
 GY:∀b∈X.ex,b≠X.env.locals/\∀x c,X.env.cells.lookup x=fo c->c≠b
 bs:∀b o,X.base.get? b=fo o->X.s₀.heap.get? b=fo o/\X.H₀ b=fO
 xw:X.base.objs.size<=X.s₀.heap.objs.size
 um:∀b o,X.base.get? b=fo o->b ∉ X.ex
 uo:∀b∈X.ex,b ∉ X.fs
 gx:X.s₀.heap.FunFrames X.base X.outer
 Cj:∀b∈X.fs,X.H₀ b=fO
structure Inv(X:Cx)(ip:List (aA×Obj))(σ:List (Option V))(H:Hp)(s:aG):Prop where
 ok:X.Ok
 os:s.os=X.s₀.os
 bare:jC s.gens
 base:Un X.fs X.ex X.H₀ H X.s₀.heap s.heap
 loc:∃m,s.heap.Ns X.env.locals m/\∀(i:Nat)(x:aC)(v:V),X.N[i]?=fo x->σ[i]?=fo (fo v)->Te X.env.scope x->∃u,RelV v u/\c0n X.env s.heap m x u
 cell:∀x c,X.env.cells.lookup x=fo c->∃v,s.heap.IsCell c v
 free:H X.env.locals=fO
 ee:∀x c,X.env.cells.lookup x=fo c->H c=fO
 pin:∀p∈X.pn++ip,s.heap.get? p.1=fo p.2/\H p.1=fO/\p.1≠X.env.locals/\p.1 ∉ X.fs/\∀v,p.2.data≠.cell v
 ck:mz H s.heap
 len:gu σ=gu X.N
section
variable{X:Cx}{ip:List (aA×Obj)}{σ:List (Option V)}{H H':Hp}{s:aG}{h':aJ}
theorem Cx.Ok.Tf(ok:X.Ok)(e:X.base.get? b=fo o):b ∉ X.fs:=λhb=>by
 have:=(ok.gx.mem hb).1;rw[e] at this;cases this
def Inv.bs(I:Inv X ip σ H s):∀b o,X.base.get? b=fo o->s.heap.get? b=fo o/\H b=fO:=λb o e =>
 ⟨I.base.keep b o (I.ok.bs b o e).1 (I.ok.bs b o e).2 (I.ok.Tf e) (I.ok.um b o e),I.base.free b o (I.ok.bs b o e).1 (I.ok.bs b o e).2 (I.ok.um b o e)⟩
def Inv.bk(I:Inv X ip σ H s):∀b o,X.base.get? b=fo o->s.heap.get? b=fo o:=λb o e=>(I.bs b o e).1
def Inv.mod(I:Inv X ip σ H s):Mod X.K X.mg X.base:=I.ok.mod
def Inv.ix(I:Inv X ip σ H s):X.K.In s.heap:=I.ok.mod.zu.keeps I.bk
def Inv.nolimit(I:Inv X ip σ H s):s.heap.NoLimit:=I.ok.mod.nolimit.keeps I.bk
def Inv.fr(I:Inv X ip σ H s):∃m,Fr X.base X.env.locals s.heap m :=
 let ⟨m,hn,_⟩:=I.loc
 ⟨m,hn,I.bk,bF I.ok.xw I.ok.above⟩
def Inv.lt(I:Inv X ip σ H s):X.env.locals<s.heap.objs.size:=let ⟨_,hn,_⟩:=I.loc;hn.lt
def Inv.sz(I:Inv X ip σ H s):X.s₀.heap.objs.size<=s.heap.objs.size:=bF I.ok.above (gQ I.lt)
theorem Inv.Jx(I:Inv X ip σ H s){a:aA}(h:s.heap.objs.size<=a):a ∉ X.fs:=λhb=>by
 obtain⟨_,o,ho,_⟩:=I.ok.gx.mem hb;exact absurd (bS (bN ho) (bF I.sz h)) (dO _)
theorem Inv.ED(I:Inv X ip σ H s):∀x c,X.env.cells.lookup x=fo c->c≠X.env.locals:=λx c e z=>by
 obtain⟨v,o,ho,hd⟩:=I.cell x c e;obtain⟨m,⟨o',es,ep,mj,zw,_⟩,_⟩:=I.loc;rw[z,mj] at ho;cases ho;rw[zw] at hd;cases hd
theorem Inv.gx(I:Inv X ip σ H s):s.heap.FunFrames X.base X.outer:=by
 have all:∀l,(∀b∈uk l,b∈X.fs)->X.s₀.heap.FunFrames X.base l->s.heap.FunFrames X.base l:=by
  intro l;induction l with
  |nil=>intro _ _;trivial
  |cons env r ih =>
   intro hs hl;obtain⟨hk,⟨L,o,hf,hn,ho,hd⟩,hr⟩:=hl;have hL:=hs L (by unfold uk;rw[pY,hf];exact cY);obtain⟨sl,e⟩:=I.base.slot L o ho (I.ok.Cj L hL) hL λz=>I.ok.uo L z hL;exact⟨hk,⟨L,_,hf,hn,e,hd⟩,ih (λb hb=>hs b (by unfold uk;rw[pY,hf];exact bZ _ hb)) hr⟩
 exact all X.outer (λ_ hb=>hb) I.ok.gx
theorem Inv.stack(I:Inv X ip σ H s):s.heap.FunFrames X.base X.stack:=by
 rcases I.ok.GX with e|⟨e,hf⟩
 .rw[e];exact I.gx
 .rw[e];obtain⟨m,hn,_⟩:=I.loc;exact .cons (by rw[I.ok.kind];decide) hf hn (Heap.get?_none_of_le (bF I.ok.xw I.ok.above)) I.gx
theorem Inv.rg(I:Inv X ip σ H s):∀b∈uk X.stack,b∈X.env.locals::X.fs:=λb hb=>by
 rcases I.ok.GX with e|⟨e,hf⟩
 .rw[e] at hb;exact bZ _ hb
 .rw[e] at hb;unfold uk at hb;rw[pY,hf] at hb;exact hb
theorem Inv.qm(I:Inv X ip σ H s):∀b∈uk X.stack,H b=fO:=λb hb=>by
 rcases bH.mp (I.rg b hb) with e|hb
 .rw[e];exact I.free
 .obtain⟨_,o,ho,_⟩:=I.ok.gx.mem hb;exact I.base.free b o ho (I.ok.Cj b hb) λz=>I.ok.uo b z hb
theorem Inv.step{ch:List aA}(I:Inv X ip σ H s)
  (Gu:∀b∈ch,(b∈X.ex\/X.s₀.heap.objs.size<=b)/\b≠X.env.locals/\(∀x c,X.env.cells.lookup x=fo c->c≠b)/\∀p∈X.pn++ip,p.1≠b)
  (keep:∀b o,b≠X.env.locals->b ∉ X.fs->b ∉ ch->s.heap.get? b=fo o->H b=fO->h'.get? b=fo o)
  (slot:∀b o,b≠X.env.locals->b∈X.fs->b ∉ ch->s.heap.get? b=fo o->H b=fO->∃sl,h'.get? b=fo {o with slots:=sl}) (free:∀b o,b ∉ ch->s.heap.get? b=fo o->H b=fO->H' b=fO)
  (there:∀b o,b ∉ ch->s.heap.get? b=fo o->∃o',h'.get? b=fo o')
  (pj:∀b xs,H b=fo (.tup xs)->H' b=fo (.tup xs)) (pw:∀b o u,H b=fo (.Bw o u)->H' b=fo (.Bw o u)) (pz:∀b ps,H b=fo (.my ps)->∃more,H' b=fo (.my (ps++more)))
  (ns:∀m,s.heap.Ns X.env.locals m->h'.Ns X.env.locals m) (ck:mz H' h') (hg:jC g') :
  Inv X ip σ H' {s with heap:=h',gens:=g',drawn:=d',toks:=t'}:=by
 have neL:∀b o,X.s₀.heap.get? b=fo o->b≠X.env.locals:=λb o e=>dB (bS (bN e) I.ok.above);have PM:∀b o,X.s₀.heap.get? b=fo o->b ∉ X.ex->b ∉ ch:=λb o e hx hb=>by
  rcases(Gu b hb).1 with z|z
  .exact hx z
  .exact absurd (bS (bN e) z) (dO _)
 have cellK:∀x c,X.env.cells.lookup x=fo c->∀v,s.heap.IsCell c v->h'.IsCell c v:=λx c e v ⟨o,ho,hd⟩=>by
  have MR:=λz=>(Gu c z).2.2.1 x c e rfl;by_cases hc:c∈X.fs
  .obtain⟨sl,q⟩:=slot c o (I.ED x c e) hc MR ho (I.ee x c e);exact⟨_,q,hd⟩
  .exact⟨o,keep c o (I.ED x c e) hc MR ho (I.ee x c e),hd⟩
 refine⟨I.ok,I.os,hg,⟨λb o e n hb hx=>keep b o (neL b o e) hb (PM b o e hx) (I.base.keep b o e n hb hx) (I.base.free b o e n hx),λb o e n hb hx=>?_,λb o e n hx=>?_,λb o e hx=>?_,λb xs e=>pj b xs (I.base.pj b xs e),λb o xs e=>pw b o xs (I.base.pw b o xs e),λb ps e=>?_⟩,?_,λx c e=>?_,?_,λx c e=>?_,λp hp=>?_,ck,I.len⟩
 .obtain⟨sl,e1⟩:=I.base.slot b o e n hb hx;obtain⟨Tg,e2⟩:=slot b _ (neL b o e) hb (PM b o e hx) e1 (I.base.free b o e n hx);exact⟨Tg,e2⟩
 .obtain⟨o',e1⟩:=I.base.there b o e hx;exact free b o' (PM b o e hx) e1 (I.base.free b o e n hx)
 .obtain⟨o',e1⟩:=I.base.there b o e hx;exact there b o' (PM b o e hx) e1
 .obtain⟨m1,e1⟩:=I.base.pz b ps e;obtain⟨m2,e2⟩:=pz b _ e1;exact⟨m1++m2,by rw[e2,sM]⟩
 .obtain⟨m,hn,hl⟩:=I.loc;refine⟨m,ns m hn,λi x v e1 e2 e3=>?_⟩;obtain⟨u,r,l⟩:=hl i x v e1 e2 e3;refine⟨u,r,?_⟩;rcases l with l|⟨k,c,e,z⟩
  .exact .inl l
  .exact .inr ⟨k,c,e,cellK x c e _ z⟩
 .obtain⟨v,z⟩:=I.cell x c e;exact⟨v,cellK x c e v z⟩
 .obtain⟨m,⟨o,_,_,ho,_⟩,_⟩:=I.loc;exact free _ o (λz=>(Gu _ z).2.1 rfl) ho I.free
 .obtain⟨v,o,ho,hd⟩:=I.cell x c e;exact free c o (λz=>(Gu c z).2.2.1 x c e rfl) ho (I.ee x c e)
 .obtain⟨e,n,ne,nf,d⟩:=I.pin p hp;have MR:=λz=>(Gu p.1 z).2.2.2 p hp rfl;exact⟨keep p.1 p.2 ne nf MR e n,free p.1 p.2 MR e n,ne,nf,d⟩
theorem Inv.un(I:Inv X ip σ H s)(u:Un X.fs [] H H' s.heap h')(ck:mz H' h'):Inv X ip σ H' {s with heap:=h',toks:=t'}:=by
 obtain⟨m,⟨o,es,ep,ho,r⟩,_⟩:=id I.loc;obtain⟨sl,hL⟩:=u.any ho I.free fg;exact I.step (ch:=[]) (λ_ z=>nomatch z) (λb o _ hb _ e n=>u.keep b o e n hb fg) (λb o _ hb _ e n=>u.slot b o e n hb fg) (λb o _ e n=>u.free b o e n fg) (λb o _ e=>u.there b o e fg) u.pj u.pw u.pz (λm' hm=>by
  obtain⟨o',Ti,Tj,mj,r'⟩:=hm;rw[ho] at mj;cases mj;exact⟨_,Ti,Tj,hL,r'⟩) ck I.bare
theorem Inv.call(I:Inv X ip σ H s)(u:Un (uk X.stack) ch H H' s.heap h')(ck:mz H' h')(hg:jC g')
  (Gu:∀b∈ch,(b∈X.ex\/X.s₀.heap.objs.size<=b)/\b≠X.env.locals/\(∀x c,X.env.cells.lookup x=fo c->c≠b)/\∀p∈X.pn++ip,p.1≠b) :
  Inv X ip σ H' {s with heap:=h',gens:=g',drawn:=d',toks:=t'}:=by
 obtain⟨m,⟨o,es,ep,ho,r⟩,_⟩:=id I.loc;obtain⟨sl,hL⟩:=u.any ho I.free λz=>(Gu _ z).2.1 rfl;exact I.step Gu (λb o hL hb hc e n=>u.keep b o e n (λz=>(bH.mp (I.rg b z)).elim hL hb) hc) (λb o _ _ hc e n=>u.any e n hc) (λb o hc e n=>u.free b o e n hc) (λb o hc e=>u.there b o e hc) u.pj u.pw u.pz (λm' hm=>by
  obtain⟨o',Ti,Tj,mj,r'⟩:=hm;rw[ho] at mj;cases mj;exact⟨_,Ti,Tj,hL,r'⟩) ck hg
theorem Inv.turned(I:Inv X ip σ H s)(k:∀b o,b≠it->s.heap.get? b=fo o->h'.get? b=fo o)(hn:H it=fO)(hL:it≠X.env.locals)
  (h1:it∈X.ex\/X.s₀.heap.objs.size<=it) (h2:∀x c,X.env.cells.lookup x=fo c->c≠it) (h3:∀p∈X.pn++ip,p.1≠it):Inv X ip σ H {s with heap:=h',toks:=t'}:=by
 have IC:∀b u,H b=fo u->b≠it:=λb u e z=>by rw[z,hn] at e;cases e
 refine I.step (ch:=[it]) (λb hb=>?_) (λb o _ _ hc e _=>k b o (λz=>hc (by simp[z])) e) (λb o _ _ hc e _=>⟨o.slots,k b o (λz=>hc (by simp[z])) e⟩) (λ_ _ _ _ n=>n)
  (λb o hc e=>⟨o,k b o (λz=>hc (by simp[z])) e⟩) (λ_ _ e=>e) (λ_ _ _ e=>e) (λb ps e=>⟨#[],by rw[e];simp⟩) (λm hm=>?_) (λb u e=>?_) I.bare
 .have e:b=it:=by simp_all
  subst e;exact⟨h1,hL,h2,h3⟩
 .obtain⟨o,es,ep,ho,r⟩:=hm;exact⟨o,es,ep,k _ o (bV hL) ho,r⟩
 .refine(I.ck b u e).rf (λc v hc q=>k c v ?_ q) (λ_ q=>q) λ_ _ q=>q;rcases hc with z|z
  .rw[z];exact IC b u e
  .exact IC c _ z
def Inv.tok(I:Inv X ip σ H s)t:Inv X ip σ H {s with toks:=t}:=I.un Un.refl I.ck
def Inv.kept(I:Inv X ip σ H s)(k:∀b u,s.heap.get? b=fo u->h'.get? b=fo u):Inv X ip σ H {s with heap:=h',toks:=t'}:=I.un (Un.kept k) (I.ck.kept k)
def Inv.laid{a:aA}(I:Inv X ip σ H s)(k:∀b u,s.heap.get? b=fo u->h'.get? b=fo u)(hp:s.heap.objs.size<=a)(new:dh (upd H a o) h' a o) :
  Inv X ip σ (upd H a o) {s with heap:=h',toks:=t'}:=I.un (Un.laid k hp (I.ck.fresh hp)) (I.ck.laid k hp new)
def Inv.write(I:Inv X ip σ H s)(mu:PL (H x))(he:e=x\/H e=fo (.own x))(k:∀b u,b≠e->s.heap.get? b=fo u->h'.get? b=fo u)(Ll:∃u,h'.get? e=fo u)
  (new:dh (upd H x o) h' x o):Inv X ip σ (upd H x o) {s with heap:=h',toks:=t'}:=I.un (Un.write mu he k Ll) (I.ck.write mu he k Ll new)
def Inv.weak(I:Inv X ip σ H s)(hl:gu au=gu σ)(w:∀(i:Nat)v,au[i]?=fo (fo v)->σ[i]?=fo (fo v)):Inv X ip au H s :=
 ⟨I.ok,I.os,I.bare,I.base,let ⟨m,hn,jl⟩:=I.loc;⟨m,hn,λi x v e1 e2 e3=>jl i x v e1 (w i v e2) e3⟩,I.cell,I.free,I.ee,I.pin,I.ck,hl.trans I.len⟩
def Inv.ke(I:Inv X ip σ H s)(h:∀p∈xx,s.heap.get? p.1=fo p.2/\H p.1=fO/\p.1≠X.env.locals/\p.1 ∉ X.fs/\∀v,p.2.data≠.cell v):Inv X xx σ H s :=
 ⟨I.ok,I.os,I.bare,I.base,I.loc,I.cell,I.free,I.ee,λp hp=>(bJ.mp hp).elim (λz=>I.pin p (fW _ z)) (h p),I.ck,I.len⟩
theorem Tn{N:List aC}(hN:N.Nodup){j:Nat}(a:N[i]?=fo x)(b:N[j]?=fo x):i=j:=by
 obtain⟨h1,e1⟩:=cA.mp a;obtain⟨h2,e2⟩:=cA.mp b;exact(List.getElem_inj hN).mp (e1.trans e2.symm)
theorem Tp(I:Inv X ip σ H s)(hN:X.N.Nodup)(hi:X.N[i]?=fo x)(hx:Loc X.env.scope x)(r:RelV v u)
  (h:∀s',Inv X ip (σ.set i (fo v)) H s'->(∃a,kH a s.heap s'.heap/\(a=X.env.locals\/X.env.cells.lookup x=fo a))->Q () s') (hf:X.fn x=true\/X.env.scope.names.lookup x=fo .local:=by first|exact .inl rfl|exact .inr rfl|assumption):iZ M A (storeName X.env x u) Q E s:=by
 obtain⟨m,hn,hl⟩:=id I.loc;have Jy:(X.env.scope.kind==.class||(X.env.scope.kind==.module&&X.env.locals != X.env.globals))=false:=by rw[I.ok.kind];rfl
 have GZ:i<gu σ:=by rw[I.len];exact(cA.mp hi).1
 have ED:=I.ED;have tracked:∀{a:aA}{h':aJ},(∃o,s.heap.get? a=fo o/\H a=fO)->kH a s.heap h'->mz H h':=λ{a h'}ha hs b ob e=>by
  obtain⟨_,_,ID⟩:=ha;refine(I.ck b ob e).rf (λc w' hc q=>(hs.2 c ?_).trans q) (λ_ q=>q) λ_ _ q=>q;rintro rfl;rcases hc with rfl|hc
  .rw[ID] at e;cases e
  .rw[ID] at hc;cases hc
 rcases hx with hk|hk
 .refine wpAny_storeName_local hk hn (λh' Tq hs=>?_) Jy;obtain⟨oL,_,_,Bn,_⟩:=id hn;refine h _ ⟨I.ok,I.os,I.bare,⟨λb o e n hb hx=>(hs.2 b (dB (bS (bN e) I.ok.above))).trans (I.base.keep b o e n hb hx),λb o e n hb hx=>?_,I.base.free,λb o e hx=>?_,I.base.pj,I.base.pw,I.base.pz⟩,⟨_,Tq,λj y v' e1 e2 e3=>?_⟩,λy c e=>?_,I.free,I.ee,λp hp=>?_,tracked ⟨oL,Bn,I.free⟩ hs,by simpa using I.len⟩ ⟨_,hs,.inl rfl⟩
  .obtain⟨sl,e1⟩:=I.base.slot b o e n hb hx;exact⟨sl,(hs.2 b (dB (bS (bN e) I.ok.above))).trans e1⟩
  .obtain⟨o',e1⟩:=I.base.there b o e hx;exact⟨o',(hs.2 b (dB (bS (bN e) I.ok.above))).trans e1⟩
  .by_cases hj:j=i
   .subst hj;rw[hi] at e1;cases e1;rw[eK GZ] at e2;cases e2;exact⟨u,r,.inl ⟨hk,fg⟩⟩
   .rw[dP (bV hj)] at e2;obtain⟨u',r',q⟩:=hl j y v' e1 e2 e3;refine⟨u',r',?_⟩;rcases q with⟨k,e⟩|⟨k,c,e,z⟩
    .refine .inl ⟨k,?_⟩;have:y≠x:=λe=>hj (Tn hN e1 (e▸hi));simp[this,e]
    .exact .inr ⟨k,c,e,z.sameBut hs (ED y c e)⟩
  .obtain⟨w',z⟩:=I.cell y c e;exact⟨w',z.sameBut hs (ED y c e)⟩
  .obtain⟨e,n,ne,nf,d⟩:=I.pin p hp;exact⟨(hs.2 p.1 ne).trans e,n,ne,nf,d⟩
 .have Tr:X.fn x=true:=dj;obtain⟨c,hc⟩:=I.ok.has x (.inl hk);obtain⟨w',z⟩:=I.cell x c hc;refine wpAny_storeName_cell I.ok.kind hk hc z λh' Jz hs=>?_;obtain⟨oc,JA,Ts⟩:=id z;refine h {s with heap:=h'} ⟨I.ok,I.os,I.bare,⟨λb o e n hb hx=>(hs.2 b (dB (bS (bN e) (I.ok.Gs x c Tr hc)))).trans (I.base.keep b o e n hb hx),λb o e n hb hx=>?_,I.base.free,λb o e hx=>?_,I.base.pj,I.base.pw,I.base.pz⟩,⟨m,hn.sameBut hs (bV (ED x c hc)),λj y v' e1 e2 e3=>?_⟩,λy c' e=>?_,I.free,I.ee,λp hp=>?_,tracked ⟨oc,JA,I.ee x c hc⟩ hs,by simpa using I.len⟩ ⟨c,hs,.inr hc⟩
  .obtain⟨sl,e1⟩:=I.base.slot b o e n hb hx;exact⟨sl,(hs.2 b (dB (bS (bN e) (I.ok.Gs x c Tr hc)))).trans e1⟩
  .obtain⟨o',e1⟩:=I.base.there b o e hx;exact⟨o',(hs.2 b (dB (bS (bN e) (I.ok.Gs x c Tr hc)))).trans e1⟩
  .by_cases hj:j=i
   .subst hj;rw[hi] at e1;cases e1;rw[eK GZ] at e2;cases e2;exact⟨u,r,.inr ⟨.inl hk,c,hc,Jz⟩⟩
   .rw[dP (bV hj)] at e2;obtain⟨u',r',q⟩:=hl j y v' e1 e2 e3;refine⟨u',r',?_⟩;rcases q with q|⟨k,c',e,z'⟩
    .exact .inl q
    .refine .inr ⟨k,c',e,z'.sameBut hs ?_⟩;rintro rfl;exact hj (Tn hN e1 (I.ok.inj _ _ _ e hc▸hi))
  .by_cases hcc:c'=c
   .subst hcc;exact⟨_,Jz⟩
   .obtain⟨w2,z2⟩:=I.cell y c' e;exact⟨w2,z2.sameBut hs hcc⟩
  .obtain⟨e,n,ne,nf,d⟩:=I.pin p hp;refine⟨(hs.2 p.1 ?_).trans e,n,ne,nf,d⟩;intro q;rw[q,JA] at e;exact d w' ((bD e)▸Ts)
theorem MS(I:Inv X ip σ H s)(hN:X.N.Nodup)(hi:X.N[i]?=fo x)(hx:Loc X.env.scope x)(r:RelV v u)
  (h:∀s',Inv X ip (σ.set i (fo v)) H s'->Q () s') (hf:X.fn x=true\/X.env.scope.names.lookup x=fo .local:=by first|exact .inl rfl|exact .inr rfl|assumption):iZ M A (storeName X.env x u) Q E s :=
 Tp I hN hi hx r (λs' I' _=>h s' I') hf
theorem Inv.Bx(I:Inv X ip σ H s)(ho:s'.os=s.os)(u:Un (uk X.stack) ch H H' s.heap s'.heap)(ck:mz H' s'.heap)(hg:jC s'.gens)
  (Gu:∀b∈ch,(b∈X.ex\/X.s₀.heap.objs.size<=b)/\b≠X.env.locals/\(∀x c,X.env.cells.lookup x=fo c->c≠b)/\∀p∈X.pn++ip,p.1≠b):Inv X ip σ H' s':=by
 obtain⟨h',g',d',t',o'⟩:=s';have e:=ho;subst e;exact I.call u ck hg Gu
end
abbrev XK:=aE->Option aA->Hp->Prop
abbrev St:=List (Option V)
abbrev VK:=V->Hp->Prop
abbrev TE:=St->Hp->VK->Prop
abbrev TT:=St->Hp->(Bool->Hp->Prop)->Prop
abbrev TA:=St->Hp->(List V->Hp->Prop)->Prop
structure Ends where
 nx:St->Hp->Prop
 rt:VK
 bk:St->Hp->Prop:=λ_ _=>False
 ct:St->Hp->Prop:=λ_ _=>False
abbrev TS:=Ends->St->Hp->Prop
def EP(X:Cx)(ip:List (aA×Obj))(σ:St)(Q:VK)(u:aE)(s':aG):Prop:=s_ λv H'=>Inv X ip σ H' s'/\RelV v u/\Q v H'
def TP(X:Cx)(ip:List (aA×Obj))(σ:St)(Q:Bool->Hp->Prop)(b:Bool)(s':aG):Prop:=∃H',Inv X ip σ H' s'/\Q b H'
def AP(X:Cx)(ip:List (aA×Obj))(σ:St)(Q:List V->Hp->Prop)(us:List aE)(s':aG):Prop:=s_ λvs H'=>Inv X ip σ H' s'/\Vals vs us/\Q vs H'
def SP(X:Cx)(ip:List (aA×Obj))(D:Ends)(f:Flow)(s':aG):Prop :=
 match f with
 |.next=>s_ λau H'=>Inv X ip au H' s'/\D.nx au H'
 |.brk=>s_ λau H'=>Inv X ip au H' s'/\D.bk au H'
 |.cont=>s_ λau H'=>Inv X ip au H' s'/\D.ct au H'
 |.ret u=>tq λv au H'=>Inv X ip au H' s'/\RelV v u/\D.rt v H'
def PE(X:Cx)(e:aR)(t:TE):Prop :=
 ∀ip s(σ:St)H Q,Inv X ip σ H s->t σ H Q->iZ (jf X.prog X.w) X.A (eval e X.env) (EP X ip σ Q) X.xe s
def PT(X:Cx)(e:aR)(t:TT):Prop :=
 ∀ip s(σ:St)H Q,Inv X ip σ H s->t σ H Q->iZ (jf X.prog X.w) X.A (isTrue e X.env (eval e X.env)) (TP X ip σ Q) X.xe s
def PW(X:Cx)(e:aR)(t:TT):Prop :=
 ∀whole ip s(σ:St)H Q,Inv X ip σ H s->t σ H Q->iZ (jf X.prog X.w) X.A (isTrue e X.env whole) (TP X ip σ Q) X.xe s
def PW.pt(h:PW X e t):PT X e t:=h _
def PA(X:Cx)(es:List aR)(t:TA):Prop :=
 ∀pos ip s(σ:St)H Q,Inv X ip σ H s->t σ H Q->iZ (jf X.prog X.w) X.A (spliced (jv pos (jh es X.env))) (AP X ip σ Q) X.xe s
def PS(X:Cx)(st:aO)(t:TS):Prop :=
 ∀ip s(σ:St)H D,Inv X ip σ H s->t D σ H->iZ (jf X.prog X.w) X.A (exec st X.env) (SP X ip D) X.xe s
def fu(X:Cx)(st:List aO)(t:TS):Prop :=
 ∀ip s(σ:St)H D,Inv X ip σ H s->t D σ H->iZ (jf X.prog X.w) X.A (execs st X.env) (SP X ip D) X.xe s
def D7(h:iZ M A t Q E s)(hQ:∀a s,Q a s->Q' a s):iZ M A t Q' E s:=eY h hQ λ_ _ x=>x
section
theorem bin(ha:PE X a ta)(hb:PE X b tb){σ:St}{R:V->V->Hp->Prop}(I:Inv X ip σ H s)(h:ta σ H λx H1=>tb σ H1 λy H2=>R x y H2)
  {f:aE->aE->Sem α}
  (hf:∀v u s2 x y H2,Inv X ip σ H2 s2->RelV x v->RelV y u->R x y H2->iZ (jf X.prog X.w) X.A (f v u) Q X.xe s2) :
  iZ (jf X.prog X.w) X.A (eval a X.env) (λv vy=>iZ (jf X.prog X.w) X.A (eval b X.env) (λu vz=>iZ (jf X.prog X.w) X.A (f v u) Q X.xe vz) X.xe vy) X.xe s:=by
 exact D7 (ha ip s σ H _ I h) λv s1 ⟨x,H1,I1,r1,q1⟩=>(D7 (hb ip s1 σ H1 _ I1 q1) λu s2 ⟨y,H2,I2,r2,q2⟩=>(hf v u s2 x y H2 I2 r1 r2 q2))
inductive JB(i:Nat)(σ:St)(H:Hp)(Q:VK):Prop|mk:∀v,σ[i]?=fo (fo v)->Q v H->JB i σ H Q
def tC(v:V):TE:=λ_ H Q=>Q v H
theorem b6z{X}{pos}(hN:X.N[i]?=fo x)(hv:Te X.env.scope x)(hd:(x==("__debug__":aC))=false:=by decide)(xo:(x==("__classdict__":aC))=false:=by decide):PE X (.Name x pos) (JB i):=by
 intro ip s σ H Q I h;obtain⟨v,e,h⟩:=h;obtain⟨m,hn,hl⟩:=I.loc;obtain⟨u,r,l⟩:=hl i x v hN e hv;have fin:EP X ip σ Q u s:=⟨v,H,I,r,h⟩;rcases l with⟨hk,hm⟩|⟨hk,c,hc,kf⟩
 .exact pZ (wpAny_loadName_local I.ok.kind hk hn hm fin) hd
 .rcases hk with hk|hk
  .exact pZ (wpAny_loadName_cell I.ok.kind hk hc kf fin) hd
  .exact pZ (wpAny_loadName_free I.ok.kind hk hc kf fin xo) hd
def d0:PE X (.Constant (.int i) j pos) (tC (.int i)):=λ_ _ _ H _ I h=>wpAny_Constant_int ⟨.int i,H,I.tok _,⟨_,cm⟩,h⟩
def JC:PE X (.Constant (.bool b) j pos) (tC (.bl b)):=λ_ _ _ H _ I h=>Constant_bool ⟨.bl b,H,I,cm,h⟩
def D5:PE X (.Constant .none j pos) (tC .non):=λ_ _ _ H _ I h=>sN ⟨.non,H,I,cm,h⟩
def l9:PE X (.Constant (.str x) j pos) (tC (.str x)):=λ_ _ _ H _ I h=>Calls.Constant_str ⟨.str x,H,I.tok _,⟨_,cm⟩,h⟩
def Gl(X:Cx)(x:aC):Prop:=X.env.kindOf x=fo .globalImplicit
theorem Lm{σ:St}(I:Inv X ip σ H s)(hg:Gl X x)(hm:X.mg x=fo u)(h:Q u s)
  (hd:(x==("__debug__":aC))=false:=by decide):iZ (jf X.prog X.w) X.A (eval (.Name x pos) X.env) Q E s :=
 sO I.ok.kind hg (Calls.loadGlobal_global (I.ok.glob▸I.mod.glob.keeps I.bk) hm h) hd
theorem JD{E}{σ:St}{pos}(I:Inv X ip σ H s)(hg:Gl X x)(hm:X.mg x=fO)(hv:l_ x=fo u)(h:Q u s)
  (hn:x≠"__name__":=by decide) (hd:(x==("__debug__":aC))=false:=by decide):iZ (jf X.prog X.w) X.A (eval (.Name x pos) X.env) Q E s:=by
 obtain⟨mb,h1,h2⟩:=I.mod.blt;exact sO I.ok.kind hg (Calls.loadGlobal_builtin (I.ok.glob▸I.mod.glob.keeps I.bk) hm (I.ok.blt▸h1.keeps I.bk) ((h2 x hn).trans hv) h) hd
theorem C4(hg:Gl X x)(hm:X.mg x=fo u)(r:RelV v u)(hd:(x==("__debug__":aC))=false:=by decide):PE X (.Name x pos) (tC v) :=
 λ_ _ _ H _ I h=>Lm I hg hm ⟨v,H,I,r,h⟩ hd
theorem Ln{pos}(hg:Gl X x)(hm:X.mg x=fO)(hv:l_ x=fo u)(r:RelV v u)(hn:x≠"__name__":=by decide)(hd:(x==("__debug__":aC))=false:=by decide):PE X (.Name x pos) (tC v) :=
 λ_ _ _ H _ I h=>JD I hg hm hv ⟨v,H,I,r,h⟩ hn hd
def tB(t:TE):TT:=λσ H Q=>t σ H λx H1=>∃c,x=.bl c/\Q c H1
theorem X6(h:PE X e t)(he:∀whole,isTrue e X.env whole=(do let v <- whole;nu e.pos;holding [v] (truthy v)):=by intro _;rfl):PT X e (tB t):=by
 intro ip s σ H Q I hw;refine sP (D7 (h ip s σ H _ I hw) λv s1 ⟨x,H1,I1,r1,q1⟩=>?_) (he _);obtain⟨d,rfl,q⟩:=q1;cases r1;exact gC ⟨H1,I1,q⟩
variable{tA PN:TT}{rest:List aR}
def c0X(t u:TT):TT:=λσ H Q=>t σ H λc H1=>if c=true then u σ H1 Q else Q false H1
def tOr(t u:TT):TT:=λσ H Q=>t σ H λc H1=>if c=true then Q true H1 else u σ H1 Q
def c0G(t:TT):TT:=λσ H Q=>t σ H λc H1=>Q (!c) H1
theorem T4(ha:PT X a tA):PW X (.BoolOp .And [a] pos) tA:=by
 intro wh ip s σ H Q I h;refine isTrue_and (D7 (ha ip s σ H Q I h) λc s1 e=>?_);cases c with
 |true=>exact isTrue_and_nil e
 |false=>exact e
theorem R9(ha:PT X a tA):PW X (.BoolOp .Or [a] pos) tA:=by
 intro wh ip s σ H Q I h;refine isTrue_or (D7 (ha ip s σ H Q I h) λc s1 e=>?_);cases c with
 |false=>exact isTrue_or_nil e
 |true=>exact e
theorem Gv(ha:PT X a tA)(hb:PW X (.BoolOp .And (b::rest) pos) PN):PW X (.BoolOp .And (a::b::rest) pos) (c0X tA PN):=by
 intro wh ip s σ H Q I h;refine isTrue_and (D7 (ha ip s σ H _ I h) λc s1 ⟨H1,I1,q1⟩=>?_);cases c with
 |true=>exact hb wh ip s1 σ H1 Q I1 q1
 |false=>exact⟨H1,I1,q1⟩
theorem U0(ha:PT X a tA)(hb:PW X (.BoolOp .Or (b::rest) pos) PN):PW X (.BoolOp .Or (a::b::rest) pos) (tOr tA PN):=by
 intro wh ip s σ H Q I h;refine isTrue_or (D7 (ha ip s σ H _ I h) λc s1 ⟨H1,I1,q1⟩=>?_);cases c with
 |true=>exact⟨H1,I1,q1⟩
 |false=>exact hb wh ip s1 σ H1 Q I1 q1
theorem S6(ha:PT X a tA):PT X (.UnaryOp .Not a pos) (c0G tA):=by
 intro ip s σ H Q I h;exact isTrue_not (ha ip s σ H (λc H1=>Q (!c) H1) I h)
def b8x(ta tb:TE):TE:=λσ H Q=>ta σ H λx H1=>∃c,x=.bl c/\if c=true then tb σ H1 Q else Q (.bl false) H1
def b9i(ta:TE):TE:=λσ H Q=>ta σ H λx H1=>∃c,x=.bl c/\Q (.bl (!c)) H1
def b1I(h:PE X a t):PE X (.BoolOp op [a] pos) t:=λip s σ H Q I hw=>BoolOp_one (h ip s σ H Q I hw)
theorem b1G(ha:PE X a ta)(hb:PE X (.BoolOp .And (b::rest) pos) tb):PE X (.BoolOp .And (a::b::rest) pos) (b8x ta tb):=by
 intro ip s σ H Q I h;refine BoolOp_and (D7 (ha ip s σ H _ I h) λv s1 ⟨x,H1,I1,r1,q1⟩=>?_);obtain⟨c,rfl,q1⟩:=q1;cases r1;refine gC ?_;cases c with
 |true=>exact hb ip s1 σ H1 Q I1 q1
 |false=>exact⟨.bl false,H1,I1,cm,q1⟩
theorem b6x(ha:PE X a ta):PE X (.UnaryOp .Not a pos) (b9i ta):=by
 intro ip s σ H Q I h;refine UnaryOp_ (D7 (ha ip s σ H _ I h) λv s1 ⟨x,H1,I1,r1,q1⟩=>?_);obtain⟨c,rfl,q1⟩:=q1;cases r1;exact not_of (gC ⟨.bl (!c),H1,I1,cm,q1⟩)
def tIf(t:TT)(ta tb:TE):TE:=λσ H Q=>t σ H λc H1=>if c=true then ta σ H1 Q else tb σ H1 Q
theorem MT(hc:PT X c tA)(ha:PE X a ta)(hb:PE X b tb):PE X (.IfExp c a b pos) (tIf tA ta tb):=by
 intro ip s σ H Q I h;refine wpAny_IfExp (D7 (hc ip s σ H _ I h) λd s1 ⟨H1,I1,q1⟩=>?_);cases d with
 |true=>exact ha ip s1 σ H1 Q I1 q1
 |false=>exact hb ip s1 σ H1 Q I1 q1
end
def ah(K:aF)(H:Hp)(a:aA)(xs:List V):Prop :=
 Rd H a (.lst xs) ∨
  tq λo iq n=>K.lookup a=fo o/\o.cls=.type "list"/\o.dict=fO/\o.data=.seq iq n/\iq.size<=jb/\Vals xs iq.toList
def cq(K:aF)(H:Hp)(a:aA)(xs:List V):Prop :=
 Rd H a (.tup xs) ∨
  tq λo iq n=>K.lookup a=fo o/\o.cls=.type "tuple"/\o.data=.seq iq n/\iq.size<=jb/\Vals xs iq.toList
def c0u:aE->Option V
 |.none=>fo .non
 |.bool b=>fo (.bl b)
 |.int i _=>fo (.int i)
 |.str x _=>fo (.str x)
 |.ref a=>fo (.ref a)
 |.type n=>fo (.ty n)
 |_=>fO
theorem RelV.abs(r:RelV x u):c0u u=fo x:=by
 cases x with
 |non=>cases r;rfl
 |bl _=>cases r;rfl
 |int _=>obtain⟨t,rfl⟩:=r;rfl
 |str _=>obtain⟨t,rfl⟩:=r;rfl
 |ref _=>cases r;rfl
 |ty _=>cases r;rfl
def RelV.inj(r:RelV x u)(q:RelV y u):x=y:=bD (r.abs.symm.trans q.abs)
theorem Vals.inj:∀{xs ys}{us},Vals xs us->Vals ys us->xs=ys
 |_,_,_,.nil,.nil=>rfl
 |_,_,_,.cons r t,.cons r' t'=>by rw[r.inj r',Vals.inj t t']
section
variable{X:Cx}{ip:List (aA×Obj)}{σ:St}{H:Hp}{s:aG}{a:aA}{xs ys:List V}
def ah.of{K}(h:H a=fo (.lst xs)):ah K H a xs:=.inl (.inl h)
def cq.of{K}(h:H a=fo (.tup xs)):cq K H a xs:=.inl (.inl h)
theorem Inv.list(I:Inv X ip σ H s)(h:ah X.K H a xs):∃iq,Vals xs iq/\PlainL s.heap a iq.toArray/\gu xs<=jb:=by
 rcases h with h|⟨o,iq,n,hk,hc,hd,hs,hz,r⟩
 .obtain⟨z,iq,n,r,e⟩:=h.ok I.ck;exact⟨iq,r,⟨_,n,e,cm,cm,cm⟩,z⟩
 .refine⟨iq.toList,r,⟨o,n,I.ix a o hk,hc,hd,by simpa using hs⟩,?_⟩;have e:=r.length;simp only[lO] at e;lia
theorem Inv.tuple(I:Inv X ip σ H s)(h:cq X.K H a xs):∃iq,Vals xs iq/\gP s.heap a iq.toArray/\gu xs<=jb:=by
 rcases h with h|⟨o,iq,n,hk,hc,hs,hz,r⟩
 .obtain⟨z,iq,r,p⟩:=h.ok I.ck;exact⟨iq,r,p,z⟩
 .refine⟨iq.toList,r,⟨o,I.ix a o hk,hc,n,by simpa using hs⟩,?_⟩;have e:=r.length;simp only[lO] at e;lia
theorem Inv.rh(I:Inv X ip σ H s)(h:ah X.K H a xs)(h':ah X.K H a ys):xs=ys:=by
 obtain⟨iq,r,⟨o,n,e,_,_,d⟩,_⟩:=I.list h;obtain⟨tu,r',⟨o',n',e',_,_,d'⟩,_⟩:=I.list h';rw[e] at e';cases e';rw[d] at d';injection d' with d1 _;have:iq=tu:=by simpa using rd sQ d1
 subst this;exact r.inj r'
theorem Inv.vh(I:Inv X ip σ H s)(h:cq X.K H a xs)(h':cq X.K H a ys):xs=ys:=by
 obtain⟨iq,r,⟨o,e,_,n,d⟩,_⟩:=I.tuple h;obtain⟨tu,r',⟨o',e',_,n',d'⟩,_⟩:=I.tuple h';rw[e] at e';cases e';rw[d] at d';injection d' with d1 _;have:iq=tu:=by simpa using rd sQ d1
 subst this;exact r.inj r'
end
abbrev Cx.uq(X:Cx)(E:aE->aG->Prop):Cx:={X with xe:=E}
abbrev Cx.oi(X:Cx):Cx:=X.uq λ_ _=>False
def Cx.Ok.uq{X:Cx}(ok:X.Ok)E:(X.uq E).Ok :=
 ⟨ok.mod,ok.kind,ok.glob,ok.blt,ok.above,ok.inj,ok.has,ok.Gs,ok.hd,ok.frames,ok.GX,ok.GY,ok.bs,ok.xw,ok.um,ok.uo,ok.gx,ok.Cj⟩
def Cx.Ok.jc{X:Cx}(ok:(X.uq E).Ok):X.Ok :=
 ⟨ok.mod,ok.kind,ok.glob,ok.blt,ok.above,ok.inj,ok.has,ok.Gs,ok.hd,ok.frames,ok.GX,ok.GY,ok.bs,ok.xw,ok.um,ok.uo,ok.gx,ok.Cj⟩
section
variable{X:Cx}{ip:List (aA×Obj)}{σ:St}{H:Hp}{s:aG}{E:aE->aG->Prop}
def Inv.uq(I:Inv X ip σ H s)E:Inv (X.uq E) ip σ H s:=⟨I.ok.uq E,I.os,I.bare,I.base,I.loc,I.cell,I.free,I.ee,I.pin,I.ck,I.len⟩
def Inv.jc(I:Inv (X.uq E) ip σ H s):Inv X ip σ H s:=⟨I.ok.jc,I.os,I.bare,I.base,I.loc,I.cell,I.free,I.ee,I.pin,I.ck,I.len⟩
theorem SP.jc(h:SP (X.uq E) ip D f s'):SP X ip D f s':=by
 cases f with
 |next=>obtain⟨au,H',I,q⟩:=h;exact⟨au,H',I.jc,q⟩
 |brk=>obtain⟨au,H',I,q⟩:=h;exact⟨au,H',I.jc,q⟩
 |cont=>obtain⟨au,H',I,q⟩:=h;exact⟨au,H',I.jc,q⟩
 |ret u=>obtain⟨v,au,H',I,r,q⟩:=h;exact⟨v,au,H',I.jc,r,q⟩
def fu.oi{st}(h:fu X.oi st t):fu X st t:=λip s σ H D I hw =>
 eY (h ip s σ H D (I.uq _) hw) (λ_ _ q=>q.jc) λ_ _ z=>eD z
end
section
variable{X:Cx}{st:aO}{rest:List aO}{t u:TS}{e:aR}{te:TE}{pos:Pos}
def MU:TS:=λD σ H=>D.nx σ H
def Lo(t u:TS):TS:=λD σ H=>t {D with nx:=u D} σ H
def r8:fu X [] MU:=λ_ _ σ H _ I h=>lP ⟨σ,H,I,h⟩
theorem j0(h1:PS X st t)(h2:fu X rest u):fu X (st::rest) (Lo t u):=by
 intro ip s σ H D I h;refine qA (D7 (h1 ip s σ H {D with nx:=u D} I h) λf s1 q=>?_);cases f with
 |next =>
  obtain⟨au,H',I',q⟩:=q;exact h2 ip s1 au H' D I' q
 |ret v=>exact q
 |brk=>exact q
 |cont=>exact q
theorem j4(h1:PS X st t):fu X [st] t:=by
 intro ip s σ H D I h;refine qA (D7 (h1 ip s σ H D I h) λf s1 q=>?_);cases f with
 |next=>exact lP q
 |ret v=>exact q
 |brk=>exact q
 |cont=>exact q
theorem Inv.quiet{σ:St}(I:Inv X ip σ H s):interactive X.env=false:=by simp[interactive,I.ok.kind]
def b8y(te:TE):TS:=λD σ H=>te σ H λ_ H1=>D.nx σ H1
theorem R3(he:PE X e te)(hs:pS e fO pos.line X.env=pure false:=by rfl):PS X (.Expr e pos) (b8y te):=by
 intro ip s σ H D I h;exact wpAny_Expr_any (D7 (he ip s σ H _ I h) λv s1 ⟨x,H1,I1,r1,q1⟩=>⟨σ,H1,I1,q1⟩) I.quiet hs
def c1u(te:TE):TS:=λD σ H=>te σ H D.rt
theorem o4(he:PE X e te):PS X (.Return (fo e) pos) (c1u te):=by
 intro ip s σ H D I h;exact wpAny_Return_some (D7 (he ip s σ H _ I h) λv s1 ⟨x,H1,I1,r1,q1⟩=>⟨x,σ,H1,I1,r1,q1⟩)
def MV(c:TT)(t u:TS):TS:=λD σ H=>c σ H λb H1=>if b=true then t D σ H1 else u D σ H1
theorem w6(hc:PT X c tc)(ha:fu X a t)(hb:fu X b u):PS X (.If c a b pos) (MV tc t u):=by
 intro ip s σ H D I h;refine wpAny_If (D7 (hc ip s σ H _ I h) λd s1 ⟨H1,I1,q1⟩=>?_);cases d with
 |true=>exact ha ip s1 σ H1 D I1 q1
 |false=>exact hb ip s1 σ H1 D I1 q1
def b7e:TS:=λ_ _ _=>False
def a5n:fu X sts b7e:=λ_ _ _ _ _ _ h=>h.elim
end
abbrev TG:=V->St->Hp->(St->Hp->Prop)->Prop
abbrev Gx:=List V->St->Hp->(St->Hp->Prop)->Prop
def PG(X:Cx)(target:aR)(t:TG):Prop :=
 ∀ip s(σ:St)H v u Q,Inv X ip σ H s->RelV v u->t v σ H Q →
  iZ (jf X.prog X.w) X.A (assign target X.env u) (λ_ s'=>s_ λau H'=>Inv X ip au H' s'/\Q au H') X.xe s
def Lq(X:Cx)(ts:List aR)(t:Gx):Prop :=
 ∀ip s(σ:St)H vs us Q,Inv X ip σ H s->Vals vs us->t vs σ H Q →
  iZ (jf X.prog X.w) X.A (assignInOrder ((km ts X.env).map (·.2)) us) (λ_ s'=>s_ λau H'=>Inv X ip au H' s'/\Q au H') X.xe s
abbrev Tt:=V->V->V->Hp->(Hp->Prop)->Prop
def b9M(X:Cx)(t:Tt):Prop :=
 ∀ip s(σ:St)H o i v ov iv u Q,Inv X ip σ H s->RelV o ov->RelV i iv->RelV v u->t o i v H Q →
  iZ (jf X.prog X.w) X.A (setItem ov iv u) (λ_ s'=>∃H',Inv X ip σ H' s'/\Q H') X.xe s
def N7(i:Nat):TG:=λv σ H Q=>Q (σ.set i (fo v)) H
theorem j9(hN:X.N.Nodup)(hi:X.N[i]?=fo x)(hx:Loc X.env.scope x)(hf:X.fn x=true\/X.env.scope.names.lookup x=fo .local:=by first|exact .inl rfl|exact .inr rfl|assumption):PG X (.Name x pos) (N7 i):=by
 intro ip s σ H v u Q I r h;exact qC (MS I hN hi hx r (λs' I'=>⟨_,H,I',h⟩) hf)
def PQ:Gx:=λvs σ H Q=>vs=[]/\Q σ H
inductive JE(t:TG)(u:Gx)(vs:List V)(σ:St)(H:Hp)(Q:(St->Hp->Prop)):Prop|mk:∀v r,vs=v::r->(t v σ H λau H'=>u r au H' Q)->JE t u vs σ H Q
theorem A4:Lq X [] PQ:=by
 intro ip s σ H vs us Q I r h;obtain⟨e,h⟩:=h;subst e;cases r;exact sR ⟨σ,H,I,h⟩
theorem p6(h1:PG X e t)(h2:Lq X es u)
  (hs:(km (e::es) X.env).map (·.2)=assign e X.env::(km es X.env).map (·.2):=by rfl):Lq X (e::es) (JE t u):=by
 intro ip s σ H vs us Q I r h;obtain⟨v,vr,e1,h⟩:=h;subst e1;cases r with
 |cons r rr =>
  rw[hs];exact qD (D7 (h1 ip s σ H _ _ _ I r h) λ_ s1 ⟨Eg,H1,I1,q1⟩=>(h2 ip s1 Eg H1 _ _ Q I1 rr q1))
inductive MW(K:aF)(n:Nat)(t:Gx)(v:V)(σ:St)(H:Hp)(Q:(St->Hp->Prop)):Prop|mk:∀a xs,v=.ref a->cq K H a xs->gu xs=n->t xs σ H Q->MW K n t v σ H Q
theorem K4{pos}{k}(hc:X.calm=true)(h:Lq X es t)
  (hn:gu (km es X.env)=n:=by rfl) (gj:(km es X.env).findIdx? (·.1)=fO:=by rfl):PG X (.Tuple es k pos) (MW X.K n t):=by
 intro ip s σ H v u Q I r hw;obtain⟨a,xs,e1,hq,hl,hw⟩:=hw;subst e1;cases r;obtain⟨iq,rv,ht,hz⟩:=I.tuple hq;exact assign_Tuple_tuple (I.ok.hd hc) ht (by simp[hn,<-hl,rv.length]) gj λh' hx=>(h ip _ σ H xs _ Q (I.kept (t':=s.toks) λb o e=>hx b o (dB (bN e)) e) (by simp_all) hw)
def c1f(to ti:TE)(t:Tt):TG:=λv σ H Q=>to σ H λo H1=>ti σ H1 λi H2=>t o i v H2 λH3=>Q σ H3
theorem Gy(ho:PE X o to)(hi:PE X i ti)(hs:b9M X t)
  (ha:∀v,assign (.Subscript o i pos) X.env v=(do
   let ov <- holding [v] (eval o X.env);let iv <- holding [v,ov] (eval i X.env)
   nu pos
   holding [v,ov,iv] (setItem ov iv v)
   release [v,ov,iv] []):=by intro _;rfl):PG X (.Subscript o i pos) (c1f to ti t):=by
 intro ip s σ H v u Q I r h;rw[ha];exact aN (iP (D7 (ho ip s σ H _ I h) λov s1 ⟨x,H1,I1,r1,q1⟩=>(aN (iP (D7 (hi ip s1 σ H1 _ I1 q1) λiv s2 ⟨y,H2,I2,r2,q2⟩=>(aN (iQ (aN (iP (D7 (hs ip s2 σ H2 x y v ov iv u _ I2 r1 r2 r q2) λ_ s3 ⟨H3,I3,q3⟩=>(wpAny_release ⟨σ,H3,I3,q3⟩)))))))))))
def EE(te:TE)(g:TG):TS:=λD σ H=>te σ H λx H1=>g x σ H1 D.nx
theorem D3{pos}(he:PE X e te)(hg:PG X tg g)(hs:swapsWithSole [tg] e pos.line X.env=pure false:=by rfl)(hw:swappedStores [tg] e X.env=pure fO:=by rfl)
  (h1:(km [tg] X.env).map (·.2)=[assign tg X.env]:=by rfl):PS X (.Assign [tg] e pos) (EE te g):=by
 intro ip s σ H D I h;refine wpAny_Assign_stores (D7 (he ip s σ H _ I h) λv s1 ⟨x,H1,I1,r1,q1⟩=>?_) hs hw;rw[h1];exact D7 (hg ip s1 σ H1 x v _ I1 r1 q1) λ_ s2 q=>q
theorem r6{pos}(hN:X.N.Nodup)(hi:X.N[i]?=fo x)(hx:Loc X.env.scope x)(he:PE X e te)(hs:pS e (fo (.Name x pos')) pos.line X.env=pure false:=by rfl)(hf:X.fn x=true\/X.env.scope.names.lookup x=fo .local:=by first|exact .inl rfl|exact .inr rfl|assumption) :
  PS X (.Assign [.Name x pos'] e pos) (EE te (N7 i)):=by
 intro ip s σ H D I h;exact wpAny_Assign_Name (D7 (he ip s σ H _ I h) λv s1 ⟨y,H1,I1,r1,q1⟩=>(MS I1 hN hi hx r1 (λs2 I2=>⟨_,H1,I2,q1⟩) hf)) hs
def c0B(i j:Nat)(ta:TA):TS:=λD σ H=>ta σ H λvs H1=>s_ λv w=>vs=[v,w]/\D.nx ((σ.set i (fo v)).set j (fo w)) H1
theorem b7C(hc:X.calm=true)(hN:X.N.Nodup)(hi:X.N[i]?=fo x)(hj:X.N[j]?=fo y)(iy:i≠j)
  (hx:X.env.scope.names.lookup x=fo .local) (hy:X.env.scope.names.lookup y=fo .local) (ha:PA X [a,b] ta)
  (hw:swappedStores [.Tuple [.Name x px,.Name y py] kt pt] (.Tuple [a,b] k2 Tu) X.env=pure (fo [x,y]))
  (hs:swapsWithSole [.Tuple [.Name x px,.Name y py] kt pt] (.Tuple [a,b] k2 Tu) pos.line X.env=pure false:=by rfl) :
  PS X (.Assign [.Tuple [.Name x px,.Name y py] kt pt] (.Tuple [a,b] k2 Tu) pos) (c0B i j ta):=by
 intro ip s σ H D I h;rw[exec_Assign_arm];refine aN (iQ ?_);rw[hs];refine aN (bG ?_);rw[qf dz];refine aN (Tuple_ (D7 (ha _ ip s σ H _ I h) λus s1 ⟨vs,H1,I1,r1,q1⟩=>?_));obtain⟨v,w,e1,q1⟩:=q1;subst e1;obtain⟨u1,u2,rfl,rv,G'⟩:s_ λu1 u2=>us=[u1,u2]/\RelV v u1/\RelV w u2:=by
  cases r1 with
  |cons p q =>
   cases q with
   |cons p' q' =>
    cases q';exact⟨_,_,cm,p,p'⟩
 refine lQ ?_ (aw);have I2:Inv X ip σ H1 {s1 with heap:=s1.heap.push {cls:=.type "tuple",data:=.seq [u1,u2].toArray}}:=I1.kept λb o e=>bL _ e;rw[hw];refine aN (bG ?_);show iZ (jf X.prog X.w) X.A (do rule "assign.swapped-stores";let items <- unpackItems (.ref s1.heap.objs.size) 2 fO;assignInOrder [λv=>bindName X.env y v,λv=>bindName X.env x v] items.reverse;pure Flow.next) _ _ _;refine aN (lR (aN (unpackItems_tuple (items:=#[u1,u2]) (I.ok.hd hc) (nD s1.heap _) λh' f'=>?_)));have I3:=I2.kept (t':=s1.toks) λb o e=>f' b o (dB (bN e)) e;refine aN (qD (sS (MS I3 hN hj (.inl hy) G' (λs2 I4=>(qD (sS (MS I4 hN hi (.inl hx) rv (λs3 I5=>sR (bG ?_)) (.inr hx))))) (.inr hy))));rw[kJ _ _ (bV iy)] at I5;exact⟨_,H1,I5,q1⟩
inductive PK(c:TT)(tb:TS)(D:Ends)(σ:St)(H:Hp):Prop|mk:∀W:Nat->St->Hp->Prop,(∃m,W m σ H)->(∀m σ H,W m σ H → c σ H λb H1=>if b=true then ∃N,(∀au H',N au H'->∃m',m'<m/\W m' au H')/\tb {D with nx:=N,ct:=N,bk:=D.nx} σ H1 else D.nx σ H1)->PK c tb D σ H
theorem P0(hp:qG (jf X.prog X.w) X.A X.env X.xe)(hc:PT X c tc)(hb:fu X body tb):PS X (.While c body [] pos) (PK tc tb):=by
 intro ip s σ H D I h;obtain⟨W,⟨m0,w0⟩,turn⟩:=h;refine wpAny_While (codeAny_whileLoop (λn s'=>s_ λau H'=>Inv X ip au H' s'/\W n au H') ?_ m0 ⟨σ,H,I,w0⟩);rintro n s1 ⟨Eg,H1,I1,w1⟩;refine jE hp (D7 (hc ip s1 Eg H1 _ I1 (turn n Eg H1 w1)) λb s2 ⟨H2,I2,q2⟩=>?_);cases b with
 |true =>
  obtain⟨N,hN,q2⟩:=q2;rw[qg rfl];refine jE hp (D7 (hb ip s2 Eg H2 _ I2 q2) λf s3 q3=>?_);cases f with
  |next =>
   obtain⟨zx,H3,I3,n3⟩:=q3;obtain⟨m',hm,w3⟩:=hN zx H3 n3;exact⟨m',hm,zx,H3,I3,w3⟩
  |cont =>
   obtain⟨zx,H3,I3,n3⟩:=q3;obtain⟨m',hm,w3⟩:=hN zx H3 n3;exact⟨m',hm,zx,H3,I3,w3⟩
  |brk=>exact q3
  |ret v=>exact q3
 |false =>
  rw[qf cX];exact lP ⟨Eg,H2,I2,q2⟩
structure It where
 go:Nat->Hp->Prop
 By:Nat->Hp->V->Hp->Prop
 stop:Nat->Hp->Prop
def xp(X:Cx)(ip:List (aA×Obj))(H:Hp)(b:aA):Prop :=
 H b=fO/\b≠X.env.locals/\b ∉ X.fs/\(b∈X.ex\/X.s₀.heap.objs.size<=b)/\(∀x c,X.env.cells.lookup x=fo c->c≠b)/\∀p∈X.pn++ip,p.1≠b
theorem Inv.xy{σ:St}{b:aA}(I:Inv X ip σ H s)(hb:s.heap.objs.size<=b)(hn:H' b=fO):xp X ip H' b:=by
 refine⟨hn,gR (bS I.lt hb),I.Jx hb,.inr (bF I.sz hb),λx c e z=>?_,λp hp z=>absurd (bS (bN (I.pin p hp).1) (z▸hb)) (dO _)⟩
 .obtain⟨v,q⟩:=I.cell x c e;exact absurd (bS q.lt (z▸hb)) (dO _)
structure JF(P:aM)(w:aL)(K:aF)(tg:aR)(J:It)(fp:List aA)(it:aA)(tn:Nat->aJ->Prop):Prop where
 mem:it∈fp
 obj:∀i h,tn i h->∀b∈fp,∃o,h.get? b=fo o/\∀v,o.data≠.cell v
 keep:∀i h h',tn i h->(∀b∈fp,∀o,h.get? b=fo o->h'.get? b=fo o)->tn i h'
 item:∀(X:Cx),X.prog=P->X.w=w->X.K=K->X.calm=true->∀(i:Nat)(ip:List (aA×Obj))(s:aG)(σ:St)(H:Hp)(E:aE->aG->Prop),Inv X ip σ H s->(∀b∈fp,xp X ip H b)->tn i s.heap->J.go i H →
  iZ (jf P w) X.A (mh (.ref it)) (λr s1=>∃u,r=fo u/\
   iZ (jf P w) X.A (ml tg (.ref it) u) (λ_ s2=>s_ λx H'=>Inv X ip σ H' s2/\RelV x u/\J.By i H x H'/\tn (i+1) s2.heap/\∀b∈fp,H' b=fO) E s1) E s
 done:∀(X:Cx),X.prog=P->X.w=w->X.K=K->X.calm=true->∀(i:Nat)(ip:List (aA×Obj))(s:aG)(σ:St)(H:Hp)(E:aE->aG->Prop),Inv X ip σ H s->(∀b∈fp,xp X ip H b)->tn i s.heap->J.stop i H →
  iZ (jf P w) X.A (mh (.ref it)) (λr s1=>r=fO/\Inv X ip σ H s1) E s
 self:∀(A:aV)(i:Nat)(s:aG)(Q:aE->aG->Prop)(E:aE->aG->Prop),tn i s.heap->Q (.ref it) s->iZ (jf P w) A (pyIter (.ref it)) Q E s
abbrev TI:=St->Hp->(It->Hp->Prop)->Prop
def PR(X:Cx)(ip:List (aA×Obj))(σ:St)(tg:aR)(R:It->Hp->Prop)(Hc:aE)(s2:aG):Prop :=
 y_ λit fp tn J H'=>Hc=.ref it/\Inv X ip σ H' s2/\JF X.prog X.w X.K tg J fp it tn/\tn 0 s2.heap/\(∀b∈fp,xp X ip H' b)/\R J H'
def PI(X:Cx)(tg iter:aR)(wi:TI):Prop :=
 ∀ip s(σ:St)H R,Inv X ip σ H s->wi σ H R →
  iZ (jf X.prog X.w) X.A (eval iter X.env) (λv s1=>iZ (jf X.prog X.w) X.A (pyIter v) (PR X ip σ tg R) X.xe s1) X.xe s
theorem MX(ho:s.heap.get? it=fo o)(hc:o.cls=.type n)(hd:o.data=.fields vs)
    (hn:["enumerate","zip","dict_itemiterator","dict_reverseitemiterator","odict_iterator","itertools.zip_longest","itertools.pairwise"].contains n=false) (hQ:Q () s):iZ M A (ml tg (.ref it) u) Q E s:=by
  unfold ml;cases tg<;>first
    |exact bG hQ
    |(cases u<;>first
        |exact bG hQ
        | (refine aN (nE ho ?_)
           rw[hc,hd];show iZ M A (if (["enumerate","zip","dict_itemiterator","dict_reverseitemiterator","odict_iterator","itertools.zip_longest","itertools.pairwise"].contains n&&vs[0]?==fo (nz _))=true then _ else _) Q E s;rw[qf (by intro h;rw[hn,Bool.false_and] at h;cases h)];exact bG hQ))
def Lr(K:aF)(a:aA):It :=
 ⟨λi H=>s_ λxs x=>ah K H a xs/\xs[i]?=fo x,λi H x H'=>H'=H/\∀xs,ah K H a xs->xs[i]?=fo x,λi H=>∃xs,ah K H a xs/\gu xs<=i⟩
def Tv(K:aF)(a:aA):It :=
 ⟨λi H=>s_ λxs x=>cq K H a xs/\xs[i]?=fo x,λi H x H'=>H'=H/\∀xs,cq K H a xs->xs[i]?=fo x,λi H=>∃xs,cq K H a xs/\gu xs<=i⟩
def Hd(lo:Int)(n:Nat):It:=⟨λi _=>i<n,λi H x H'=>H'=H/\x=.int (lo+i),λi _=>n<=i⟩
theorem b0Y{P:aM}{w:aL}{K:aF}{tg:aR}(a it:aA):JF P w K tg (Lr K a) [it] it (λi h=>h.IsListIter it a i) where
 mem:=fg
 obj:=λi h st b hb=>by
  have e:b=it:=by simp_all
  subst e;obtain⟨o,e,c,d⟩:=st;exact⟨o,e,λv z=>by rw[d] at z;cases z⟩
 keep:=λi h h' st k=>st.at λo e=>k it fg o e
 item:=by
  intro X hP hw hK hc i ip s σ H E I hf st hg;subst hP hw hK;obtain⟨xs,x,hq,hx⟩:=hg;obtain⟨iq,rv,p,hz⟩:=I.list hq;obtain⟨u,hu,ru⟩:=rv.get hx;obtain⟨f0,f1,f2,f3,f4,f5⟩:=hf it fg;refine wpAny_pyNext_list_item st p.isList (by simpa using hu) λh' x_ sb=>?_;obtain⟨o,e,c,d⟩:=id x_;exact⟨u,cm,MX e c d dz ⟨x,H,(I.turned (t':=s.toks) (λb o hb e=>(sb.2 b hb).trans e) f0 f1 f3 f4 f5),ru,⟨cm,λys hy=>by rw[I.rh hy hq];exact hx⟩,x_,λb hb=>(hf b hb).1⟩⟩
 done:=by
  intro X hP hw hK hc i ip s σ H E I hf st hg;subst hP hw hK;obtain⟨xs,hq,hx⟩:=hg;obtain⟨iq,rv,p,hz⟩:=I.list hq;obtain⟨f0,f1,f2,f3,f4,f5⟩:=hf it fg;have hl:=rv.length;exact wpAny_pyNext_list_end (I.ok.hd hc) st p.isList (by simp;lia) λh' eb=>⟨cm,I.turned (λb o hb e=>eb b o hb e) f0 f1 f3 f4 f5⟩
 self:=λ_ _ _ _ _ st h=>wpAny_pyIter_listiter st h
theorem a8u{P:aM}{w:aL}{K:aF}{tg:aR}(a it:aA):JF P w K tg (Tv K a) [it] it (λi h=>h.IsTupleIter it a i) where
 mem:=fg
 obj:=λi h st b hb=>by
  have e:b=it:=by simp_all
  subst e;obtain⟨o,e,c,d⟩:=st;exact⟨o,e,λv z=>by rw[d] at z;cases z⟩
 keep:=λi h h' st k=>st.at λo e=>k it fg o e
 item:=by
  intro X hP hw hK hc i ip s σ H E I hf st hg;subst hP hw hK;obtain⟨xs,x,hq,hx⟩:=hg;obtain⟨iq,rv,p,hz⟩:=I.tuple hq;obtain⟨u,hu,ru⟩:=rv.get hx;obtain⟨f0,f1,f2,f3,f4,f5⟩:=hf it fg;refine wpAny_pyNext_tuple_item st (show s.heap.IsTuple a iq.toArray from p) (by simpa using hu) λh' x_ sb=>?_;obtain⟨o,e,c,d⟩:=id x_;exact⟨u,cm,MX e c d dz ⟨x,H,(I.turned (t':=s.toks) (λb o hb e=>(sb.2 b hb).trans e) f0 f1 f3 f4 f5),ru,⟨cm,λys hy=>by rw[I.vh hy hq];exact hx⟩,x_,λb hb=>(hf b hb).1⟩⟩
 done:=by
  intro X hP hw hK hc i ip s σ H E I hf st hg;subst hP hw hK;obtain⟨xs,hq,hx⟩:=hg;obtain⟨iq,rv,p,hz⟩:=I.tuple hq;obtain⟨f0,f1,f2,f3,f4,f5⟩:=hf it fg;have hl:=rv.length;exact wpAny_pyNext_tuple_end (I.ok.hd hc) st (show s.heap.IsTuple a iq.toArray from p) (by simp;lia) λh' eb=>⟨cm,I.turned (λb o hb e=>eb b o hb e) f0 f1 f3 f4 f5⟩
 self:=λ_ _ _ _ _ st h=>wpAny_pyIter_tupleiter st h
theorem a8h{P:aM}{w:aL}{K:aF}{tg:aR}(it:aA)(lo:Int)(n:Nat):JF P w K tg (Hd lo n) [it] it (λi h=>IsRangeIter h it (lo+(i:Nat)*1) ((n:Int)-(i:Nat)) 1) where
 mem:=fg
 obj:=λi h st b hb=>by
  have e:b=it:=by simp_all
  subst e;exact⟨_,st,λv z=>by
   have z':=z;cases z'⟩
 keep:=λi h h' st k=>k it fg _ st
 item:=by
  intro X hP hw hK hc i ip s σ H E I hf st hg;subst hP hw hK;obtain⟨f0,f1,f2,f3,f4,f5⟩:=hf it fg;refine(Walks.range (prog:=X.prog) (w:=X.w) (I.ok.hd hc) it lo 1 n).item i s _ _ hg st λv h' tk hv x_ kk=>?_;obtain⟨t,rfl⟩:=hv;have I1:Inv X ip σ H {s with heap:=h',toks:=tk}:=I.turned (λb o hb e=>kk b o (by simp_all) e) f0 f1 f3 f4 f5;refine⟨_,cm,MX x_ rfl rfl dz ⟨.int (lo+i),H,I1,⟨t,?_⟩,⟨cm,cm⟩,x_,λb hb=>(hf b hb).1⟩⟩;rw[jF]
 done:=by
  intro X hP hw hK hc i ip s σ H E I hf st hg;subst hP hw hK;obtain⟨f0,f1,f2,f3,f4,f5⟩:=hf it fg;exact wpAny_pyNext_range_end (I.ok.hd hc) st (by have:n<=i:=hg;lia) λh' eb=>⟨cm,I.turned (λb o hb e=>eb b o hb e) f0 f1 f3 f4 f5⟩
 self:=λ_ _ _ _ _ st h=>wpAny_pyIter_rangeiter st h
def PU(K:aF)(tl:TE):TI:=λσ H R=>tl σ H λx H1=>∃a,x=.ref a/\(∃xs,ah K H1 a xs)/\R (Lr K a) H1
def Tw(K:aF)(tl:TE):TI:=λσ H R=>tl σ H λx H1=>∃a,x=.ref a/\(∃xs,cq K H1 a xs)/\R (Tv K a) H1
theorem C6(hl:PE X l tl):PI X tg l (PU X.K tl):=by
 intro ip s σ H R I h;refine D7 (hl ip s σ H _ I h) λv s1 ⟨x,H1,I1,r1,q1⟩=>?_;obtain⟨a,e,⟨xs,hq⟩,q⟩:=q1;subst e;cases r1;obtain⟨iq,rv,p,hz⟩:=I1.list hq;refine nF p.isList ⟨s1.heap.objs.size,[s1.heap.objs.size],_,_,H1,cm,I1.kept λb o e=>bL _ e,b0Y a _,⟨_,dG _ rfl,cm,cm⟩,λb hb=>?_,q⟩;have e:b=s1.heap.objs.size:=by simp_all
 subst e;exact I1.xy (aT _) (I1.ck.fresh (aT _))
theorem IE(hl:PE X l tl):PI X tg l (Tw X.K tl):=by
 intro ip s σ H R I h;refine D7 (hl ip s σ H _ I h) λv s1 ⟨x,H1,I1,r1,q1⟩=>?_;obtain⟨a,e,⟨xs,hq⟩,q⟩:=q1;subst e;cases r1;obtain⟨iq,rv,p,hz⟩:=I1.tuple hq;refine sT (show s1.heap.IsTuple a iq.toArray from p) ⟨s1.heap.objs.size,[s1.heap.objs.size],_,_,H1,cm,I1.kept λb o e=>bL _ e,a8u a _,⟨_,dG _ rfl,cm,cm⟩,λb hb=>?_,q⟩;have e:b=s1.heap.objs.size:=by simp_all
 subst e;exact I1.xy (aT _) (I1.ck.fresh (aT _))
theorem b3x{σ:St}{lo}(I:Inv X ip σ H s)(h1:-(2^62)<=lo)(h2:lo<2^62)(h3:-(2^62)<=hi)(h4:hi<2^62)
  (q:R (Hd lo (hi-lo).toNat) H):iZ (jf X.prog X.w) X.A (pyIter (.ref s.heap.objs.size)) (PR X ip σ tg R) E {s with heap:=s.heap.push {cls:=.type "range",data:=.fields #[.int lo t,.int hi u,.int 1 v]},toks:=tk}:=by
 refine wpAny_pyIter_range (IsRange.new ..) (small_one h1 h2 h3 h4) ?_;have I1:Inv X ip σ H {s with heap:=s.heap.push {cls:=.type "range",data:=.fields #[.int lo t,.int hi u,.int 1 v]},toks:=tk}:=I.kept λb o e=>bL _ e;refine⟨(s.heap.push {cls:=.type "range",data:=.fields #[.int lo t,.int hi u,.int 1 v]}).objs.size,[(s.heap.push {cls:=.type "range",data:=.fields #[.int lo t,.int hi u,.int 1 v]}).objs.size],_,_,H,cm,
  I1.kept λb o e=>bL _ e,a8h _ lo (hi-lo).toNat,?_,λb hb=>?_,q⟩
 .have e1:lo+((0:Nat):Int)*1=lo:=fg;have e2:(((hi-lo).toNat:Nat):Int)-((0:Nat):Int)=sU lo hi 1:=by rw[sV];split<;>lia
  rw[e1,e2];exact dG _ rfl
 .have e:b=(s.heap.push {cls:=.type "range",data:=.fields #[.int lo t,.int hi u,.int 1 v]}).objs.size:=by simp_all
  subst e;exact I1.xy (aT _) (I1.ck.fresh (aT _))
def b8D(ta:TA):TI:=λσ H R=>ta σ H λvs H1=>∃j,vs=[.int j]/\-(2^62)<=j/\j<2^62/\R (Hd 0 j.toNat) H1
theorem R8(hg:Gl X "range")(hm:X.mg "range"=fO)(ha:PA X [a] ta)(hs:jh [a] X.env=[(false,eval a X.env)]:=by rfl):PI X tg (.Call (.Name "range" p) [a] [] pos) (b8D ta):=by
 intro ip s σ H R I h;refine Call_ (JD I hg hm boot_range (nJ (D7 (ha pos ip s σ H _ I h) λus s1 ⟨vs,H1,I1,r1,q1⟩=>?_) hs rfl));obtain⟨j,e,q1,q2,q⟩:=q1;subst e;cases r1 with
 |cons r rr =>
  cases rr;obtain⟨t,rfl⟩:=r;exact sW (b3x I1 dj dj q1 q2 dj)
def EF(wi:TI)(g:TG)(tb:TS):TS:=λD σ H=>wi σ H λJ H1=>∃W:Nat->Nat->St->Hp->Prop,(∃m,W 0 m σ H1)/\∀i m σ H,W i m σ H →
 (J.stop i H/\D.nx σ H)\/(J.go i H/\∃N,(∀au H',N au H'->∃m',m'<m/\W (i+1) m' au H')/\∀x H',J.By i H x H'->g x σ H' λir H2=>tb {D with nx:=N,ct:=N,bk:=D.nx} ir H2)
def MY(fp:List aA)(h:aJ):List (aA×Obj):=fp.filterMap λb=>(h.get? b).map λo=>(b,o)
theorem PV(hb:b∈fp)(e:h.get? b=fo o):(b,o)∈MY fp h:=nK.mpr ⟨b,hb,by rw[e];rfl⟩
theorem b0p(hp:p∈MY fp h):p.1∈fp/\h.get? p.1=fo p.2:=by
 obtain⟨b,hb,e⟩:=nK.mp hp;cases q:h.get? b with
 |none=>rw[q] at e;cases e
 |some o =>
  rw[q] at e;have e':=bD e;subst e';exact⟨hb,q⟩
theorem Inv.pinned{σ:St}(I:Inv X ip σ H s)(hf:∀b∈fp,xp X ip H b)(ho:∀b∈fp,∃o,s.heap.get? b=fo o/\∀v,o.data≠.cell v):Inv X (ip++MY fp s.heap) σ H s :=
 I.ke λp hp=>(bJ.mp hp).elim (λz=>I.pin p (eL _ z)) λz=>by
  obtain⟨hb,e⟩:=b0p z;obtain⟨f0,f1,f2,_⟩:=hf p.1 hb;obtain⟨o,e',d⟩:=ho p.1 hb;rw[e] at e';cases e';exact⟨e,f0,f1,f2,d⟩
def Inv.ki{σ:St}(I:Inv X (ip++pl) σ H s):Inv X ip σ H s:=I.ke λp hp=>I.pin p (eL _ (fW _ hp))
theorem IF(hp:qG (jf X.prog X.w) X.A X.env X.xe)(hc:X.calm=true)(hi:PI X tg iter wi)(hg:PG X tg g)(hb:fu X body tb)
  (hs:∀x,jz iter X.env x=pure x:=by intro _;rfl):PS X (.For tg iter body [] pos) (EF wi g tb):=by
 intro ip s σ H D I h;refine wpAny_For (D7 (hi ip s σ H _ I h) λv s1 h1=>D7 h1 λHc s2 h2=>?_) hs;obtain⟨it,fp,tn,J,H2,e,I2,T,Gz,f2,W,⟨m0,w0⟩,turn⟩:=h2;subst e;have uh:∀{H':Hp},(∀b∈fp,H' b=fO)->∀b∈fp,xp X ip H' b:=λhn b hb=>⟨hn b hb,(f2 b hb).2⟩;refine codeAny_forLoop_any (λn s'=>tq λi au H'=>Inv X ip au H' s'/\tn i s'.heap/\(∀b∈fp,H' b=fO)/\W i n au H') ?_ m0 ⟨0,σ,H2,I2,Gz,λb hb=>(f2 b hb).1,w0⟩;rintro n s3 ⟨i,zx,H3,I3,PX,fr3,w3⟩;rcases turn i n zx H3 w3 with⟨stop,qn⟩|⟨go,N,hN,step⟩
 .refine jE hp (D7 (T.done X rfl rfl rfl hc i ip s3 zx H3 X.xe I3 (uh fr3) PX stop) λr s4 ⟨hr,I4⟩=>?_);subst hr;exact lP ⟨zx,H3,I4,qn⟩
 .refine jE hp (D7 (T.item X rfl rfl rfl hc i ip s3 zx H3 X.xe I3 (uh fr3) PX go) λr s4 ⟨u,hr,h4⟩=>?_);subst hr;refine jE hp (D7 h4 λ_ s5 ⟨x,H5,I5,r5,y5,Ls,PY⟩=>(jE hp (D7 (hg _ s5 zx H5 x u _ (I5.pinned (uh PY) (T.obj _ _ Ls)) r5 (step x H5 y5)) λ_ s6 ⟨Tz,H6,I6,q6⟩=>(jE hp (D7 (hb _ s6 Tz H6 _ I6 q6) λf s7 q7=>?_)))));have again:∀{EG:St}{H7:Hp},Inv X (ip++MY fp s5.heap) EG H7 s7->N EG H7->∃m,m<n/\tq λi au H'=>Inv X ip au H' s7/\tn i s7.heap/\(∀b∈fp,H' b=fO)/\W i m au H':=λ{EG H7}I7 n7=>by
   obtain⟨m',hm,w7⟩:=hN EG H7 n7;refine⟨m',hm,i+1,EG,H7,I7.ki,T.keep _ _ _ Ls λb hb o e=>(I7.pin (b,o) (eL _ (eL _ (PV hb e)))).1,λb hb=>?_,w7⟩;obtain⟨o,e,d⟩:=T.obj _ _ Ls b hb;exact(I7.pin (b,o) (eL _ (eL _ (PV hb e)))).2.1
  cases f with
  |next=>obtain⟨EG,H7,I7,n7⟩:=q7;exact again I7 n7
  |cont=>obtain⟨EG,H7,I7,n7⟩:=q7;exact again I7 n7
  |brk=>obtain⟨EG,H7,I7,q7⟩:=q7;exact⟨EG,H7,I7.ki,q7⟩
  |ret v=>obtain⟨x7,EG,H7,I7,r7,q7⟩:=q7;exact⟨x7,EG,H7,I7.ki,r7,q7⟩
theorem Rv{K}{g:TG}{tb:TS}{D:Ends}(Pv:Nat->St->Hp->Prop)(h0:Pv 0 σ H)(hl:∀i σ H,i<=gu xs->Pv i σ H->ah K H a xs)
  (hs:∀i x σ H,xs[i]?=fo x->Pv i σ H->g x σ H λir H2=>tb {D with nx:=Pv (i+1),ct:=Pv (i+1),bk:=D.nx} ir H2) (hd:∀σ H,Pv (gu xs) σ H->D.nx σ H) :
  ∃W:Nat->Nat->St->Hp->Prop,(∃m,W 0 m σ H)/\∀i m σ H,W i m σ H →
   ((Lr K a).stop i H/\D.nx σ H)\/((Lr K a).go i H/\∃N,(∀au H',N au H'->∃m',m'<m/\W (i+1) m' au H')/\∀x H',(Lr K a).By i H x H'->g x σ H' λir H2=>tb {D with nx:=N,ct:=N,bk:=D.nx} ir H2):=by
 refine⟨λi m σ H=>m=gu xs-i/\i<=gu xs/\Pv i σ H,⟨gu xs,fg,dM _,h0⟩,?_⟩;rintro i m σ H ⟨rfl,hi,p⟩;have q:=hl i σ H hi p;by_cases fk:i<gu xs
 .refine .inr ⟨⟨xs,xs[i],q,by simp[fk]⟩,Pv (i+1),λau H' p'=>⟨gu xs-(i+1),dj,cm,fk,p'⟩,λx H' y=>?_⟩;obtain⟨e,y⟩:=y;subst e;exact hs i x σ _ (y xs q) p
 .have e:i=gu xs:=dj;subst e;exact .inl ⟨⟨xs,q,aT _⟩,hd σ H p⟩
theorem PZ{lo}{g:TG}{tb:TS}{D:Ends}(Pv:Nat->St->Hp->Prop)(h0:Pv 0 σ H)
  (hs:∀i σ H,i<n->Pv i σ H->g (.int (lo+i)) σ H λir H2=>tb {D with nx:=Pv (i+1),ct:=Pv (i+1),bk:=D.nx} ir H2) (hd:∀σ H,Pv n σ H->D.nx σ H) :
  ∃W:Nat->Nat->St->Hp->Prop,(∃m,W 0 m σ H)/\∀i m σ H,W i m σ H →
   ((Hd lo n).stop i H/\D.nx σ H)\/((Hd lo n).go i H/\∃N,(∀au H',N au H'->∃m',m'<m/\W (i+1) m' au H')/\∀x H',(Hd lo n).By i H x H'->g x σ H' λir H2=>tb {D with nx:=N,ct:=N,bk:=D.nx} ir H2):=by
 refine⟨λi m σ H=>m=n-i/\i<=n/\Pv i σ H,⟨n,fg,dM _,h0⟩,?_⟩;rintro i m σ H ⟨rfl,hi,p⟩;by_cases fk:i<n
 .refine .inr ⟨fk,Pv (i+1),λau H' p'=>⟨n-(i+1),dj,cm,fk,p'⟩,λx H' y=>?_⟩;obtain⟨e,y⟩:=y;subst e y;exact hs i σ _ fk p
 .have e:i=n:=dj;subst e;exact .inl ⟨Nat.le_refl _,hd σ H p⟩
theorem b2G(Pv:St->Hp->Prop)(μ:St->Hp->Nat)(h0:Pv σ H)
  (hs:∀σ H,Pv σ H->c σ H λb H1=>if b=true then tb {D with nx:=λau H'=>Pv au H'/\μ au H'<μ σ H,ct:=λau H'=>Pv au H'/\μ au H'<μ σ H,bk:=D.nx} σ H1 else D.nx σ H1)
  (mono:∀σ H Q Q',(∀b H1,Q b H1->Q' b H1)->c σ H Q->c σ H Q'):PK c tb D σ H:=by
 refine⟨λm σ H=>m=μ σ H/\Pv σ H,⟨_,rfl,h0⟩,?_⟩;rintro m σ H ⟨rfl,p⟩;refine mono σ H _ _ (λb H1 q=>?_) (hs σ H p);cases b with
 |true=>exact⟨_,λau H' ⟨p',l⟩=>⟨_,l,rfl,p'⟩,q⟩
 |false=>exact q
abbrev R2:=V->V->Hp->VK->Prop
def gw(X:Cx)(f:aE->aE->Sem aE)(r:R2):Prop :=
 ∀ip s(σ:St)H x y v u Q,Inv X ip σ H s->RelV x v->RelV y u->r x y H Q →
  iZ (jf X.prog X.w) X.A (f v u) (EP X ip σ Q) X.xe s
def TC(X:Cx)(f:aE->Sem aE)(r:V->Hp->VK->Prop):Prop :=
 ∀ip s(σ:St)H x v Q,Inv X ip σ H s->RelV x v->r x H Q →
  iZ (jf X.prog X.w) X.A (f v) (EP X ip σ Q) X.xe s
def K6(X:Cx)(f:aE)(r:List V->Hp->VK->Prop):Prop :=
 ∀ip s(σ:St)H xs us Q,Inv X ip σ H s->Vals xs us->r xs H Q →
  iZ (jf X.prog X.w) X.A (call f us) (EP X ip σ Q) X.xe s
def c0l(X:Cx)(r:V->Hp->(Bool->Hp->Prop)->Prop):Prop :=
 ∀ip s(σ:St)H x v Q,Inv X ip σ H s->RelV x v->r x H Q →
  iZ (jf X.prog X.w) X.A (truthy v) (TP X ip σ Q) X.xe s
def P_(r:R2)(ta tb:TE):TE:=λσ H Q=>ta σ H λx H1=>tb σ H1 λy H2=>r x y H2 Q
def tUn(r:V->Hp->VK->Prop)(ta:TE):TE:=λσ H Q=>ta σ H λx H1=>r x H1 Q
inductive rI(C:Int->Int->Prop)(g:Int->Int->V)(x y:V)(H:Hp)(Q:VK):Prop|mk:∀i j,x=.int i->y=.int j->C i j->Q (g i j) H->rI C g x y H Q
inductive IG(g:Int->Int->V)(x y:V)(H:Hp)(Q:VK):Prop|mk:∀i j,x=.int i->y=.int j->Q (g i j) H->IG g x y H Q
inductive rU(g:Int->V)(x:V)(H:Hp)(Q:VK):Prop|mk:∀i,x=.int i->Q (g i) H->rU g x H Q
theorem TF(ha:PE X a ta)(hb:PE X b tb){σ:St}{R:V->V->Hp->Prop}(I:Inv X ip σ H s)
  (h:ta σ H λx H1=>tb σ H1 λy H2=>R x y H2) {f:aE->aE->Sem aE}
  (hf:∀v u s2 x y H2,Inv X ip σ H2 s2->RelV x v->RelV y u->R x y H2->iZ (jf X.prog X.w) X.A (f v u) Q X.xe s2) :
  iZ (jf X.prog X.w) X.A (eval a X.env) (λv vy=>iZ (jf X.prog X.w) X.A (eval b X.env) (λu vz=>iZ (jf X.prog X.w) X.A (f v u) Q X.xe vz) X.xe vy) X.xe s:=by
 exact D7 (ha ip s σ H _ I h) λv s1 ⟨x,H1,I1,r1,q1⟩=>(D7 (hb ip s1 σ H1 _ I1 q1) λu s2 ⟨y,H2,I2,r2,q2⟩=>(hf v u s2 x y H2 I2 r1 r2 q2))
theorem j8(ho:gw X (jA op) r)(ha:PE X a ta)(hb:PE X b tb):PE X (.BinOp a op b pos) (P_ r ta tb):=by
 intro ip s σ H Q I h;exact wpAny_BinOp (TF ha hb I h λv u s2 x y H2 I2 rx ry q=>ho ip s2 σ H2 x y v u Q I2 rx ry q)
theorem Eh(ho:TC X (unaryOp op) r)(ha:PE X a ta):PE X (.UnaryOp op a pos) (tUn r ta):=by
 intro ip s σ H Q I h;exact UnaryOp_ (D7 (ha ip s σ H _ I h) λv s1 ⟨x,H1,I1,r1,q1⟩=>ho ip s1 σ H1 x v Q I1 r1 q1)
theorem Lu{g:Int->Int->Int}
  (rule:∀i j t u s Q E,C i j->Q (.int (g i j) s.toks) {s with toks:=s.toks+1}->iZ (jf X.prog X.w) X.A (f (.int i t) (.int j u)) Q E s) :
  gw X f (rI C λi j=>.int (g i j)):=by
 intro ip s σ H x y v u Q I rx ry h;obtain⟨i,j,rfl,rfl,hc,q⟩:=h;obtain⟨t,rfl⟩:=rx;obtain⟨t',rfl⟩:=ry;exact rule i j t t' s _ _ hc ⟨.int (g i j),H,I.tok _,⟨_,cm⟩,q⟩
theorem b8w{g:Int->Int->Int}
  (rule:∀i j t u s Q E,Q (.int (g i j) s.toks) {s with toks:=s.toks+1}->iZ (jf X.prog X.w) X.A (f (.int i t) (.int j u)) Q E s) :
  gw X f (IG λi j=>.int (g i j)):=by
 intro ip s σ H x y v u Q I rx ry h;obtain⟨i,j,rfl,rfl,q⟩:=h;obtain⟨t,rfl⟩:=rx;obtain⟨t',rfl⟩:=ry;exact rule i j t t' s _ _ ⟨.int (g i j),H,I.tok _,⟨_,cm⟩,q⟩
theorem P'{g:Int->Int->Bool}
  (rule:∀i j t u s Q E,Q (.bool (g i j)) s->iZ (jf X.prog X.w) X.A (f (.int i t) (.int j u)) Q E s) :
  gw X f (IG λi j=>.bl (g i j)):=by
 intro ip s σ H x y v u Q I rx ry h;obtain⟨i,j,rfl,rfl,q⟩:=h;obtain⟨t,rfl⟩:=rx;obtain⟨t',rfl⟩:=ry;exact rule i j t t' s _ _ ⟨.bl (g i j),H,I,cm,q⟩
def c0g(i j:Int):Prop:=0<j/\j<1073741824
def c1d(i j:Int):Prop:=0<=j/\j<=1000000/\i.natAbs<2^64
def EH(i j:Int):Prop:=(-(2^64)<i/\i<2^64)\/(-(2^64)<j/\j<2^64)
theorem EH.ok(h:EH i j):IntMulOk i j:=by
 rcases h with⟨h1,h2⟩|⟨h1,h2⟩
 .exact .of_left (sX h1 h2)
 .exact .of_right (sX h1 h2)
def D4:gw X (jA .Add) (IG λi j=>.int (i+j)):=b8w λ_ _ _ _ _ _ _ q=>add_int q
def IH:gw X (jA .Sub) (IG λi j=>.int (i-j)):=b8w λ_ _ _ _ _ _ _ q=>sub_int q
def He:gw X (jA .Mult) (rI EH λi j=>.int (i*j)):=Lu λ_ _ _ _ _ _ _ hc q=>mul_int q hc.ok
theorem V9:gw X (jA .FloorDiv) (rI c0g λi j=>.int (i/j)):=Lu λi j _ _ _ _ _ hc q=>by
 have h1:(0:Int)<j:=hc.1;have h2:j<1073741824:=hc.2;exact sY dj (by rw[sZ i eX];exact q) (.inl (PyProof.noPylong_small dj))
theorem w8:gw X (jA .Mod) (rI (λ_ j=>0<j) λi j=>.int (i%j)):=Lu λi j _ _ _ _ _ hc q=>by
 exact mod_int' dj (by rw[Int.fmod_eq_emod_of_nonneg i eX];exact q)
def Qa:gw X (jA .Pow) (rI c1d λi j=>.int (i^j.toNat)):=Lu λ_ _ _ _ _ _ _ hc q=>pow_int_small hc.1 hc.2.1 hc.2.2 q
theorem unI{g:Int->Int}
  (rule:∀i t s Q E,Q (.int (g i) s.toks) {s with toks:=s.toks+1}->iZ (jf X.prog X.w) X.A (f (.int i t)) Q E s) :
  TC X f (rU λi=>.int (g i)):=by
 intro ip s σ H x v Q I rx h;obtain⟨i,rfl,q⟩:=h;obtain⟨t,rfl⟩:=rx;exact rule i t s _ _ ⟨.int (g i),H,I.tok _,⟨_,cm⟩,q⟩
def V2:TC X (unaryOp .USub) (rU λi=>.int (-i)):=unI λ_ _ _ _ _ q=>neg_int q
def b9r:V->V->Bool
 |.int _,.int _=>true|.str _,.str _=>true
 |_,_=>false
def rEq:R2:=λx y H Q=>b9r x y=true/\Q (.bl (decide (x=y))) H
def rNe:R2:=λx y H Q=>b9r x y=true/\Q (.bl (!decide (x=y))) H
theorem a9T:decide (V.int i=V.int j)=(i==j):=by
 rw[iD];simp
theorem a9u:decide (V.str i=V.str j)=(i==j):=by
 rw[iD];simp
theorem A8{σ:St}(I:Inv X ip σ H s)(q:Q (.bl k) H)(e:k=k'):EP X ip σ Q (.bool k') s:=by
 subst e;exact⟨.bl k,H,I,cm,q⟩
theorem E6:gw X (jk .Eq) rEq:=by
 intro ip s σ H x y v u Q I rx ry h;obtain⟨hs,q⟩:=h;cases x with
 |int i =>
  obtain⟨t,rfl⟩:=rx;cases y with
  |int j=>obtain⟨t',rfl⟩:=ry;exact eq_int (A8 I q a9T)
  |_=>exact absurd (show false=true from hs) cX
 |str i =>
  obtain⟨t,rfl⟩:=rx;cases y with
  |str j=>obtain⟨t',rfl⟩:=ry;exact eq_str (A8 I q a9u)
  |_=>exact absurd (show false=true from hs) cX
 |_=>cases y<;>exact absurd (show false=true from hs) cX
theorem Ei:gw X (jk .NotEq) rNe:=by
 intro ip s σ H x y v u Q I rx ry h;obtain⟨hs,q⟩:=h;cases x with
 |int i =>
  obtain⟨t,rfl⟩:=rx;cases y with
  |int j=>obtain⟨t',rfl⟩:=ry;exact ne_int (A8 I q (rd not a9T))
  |_=>exact absurd (show false=true from hs) cX
 |str i =>
  obtain⟨t,rfl⟩:=rx;cases y with
  |str j=>obtain⟨t',rfl⟩:=ry;exact ne_str (A8 I q (rd not a9u))
  |_=>exact absurd (show false=true from hs) cX
 |_=>cases y<;>exact absurd (show false=true from hs) cX
def EI:gw X (jk .Lt) (IG λi j=>.bl (decide (i<j))):=P' λ_ _ _ _ _ _ _ q=>lt_int q
def EJ:gw X (jk .LtE) (IG λi j=>.bl (decide (i<=j))):=P' λ_ _ _ _ _ _ _ q=>le_int q
def Ej:gw X (jk .Gt) (IG λi j=>.bl (decide (j<i))):=P' λ_ _ _ _ _ _ _ q=>gt_int q
def Qb:gw X (jk .GtE) (IG λi j=>.bl (decide (j<=i))):=P' λ_ _ _ _ _ _ _ q=>ge_int q
theorem Lv:gw X (jk .Is) (λx y H Q=>y=.non/\Q (.bl (decide (x=.non))) H):=by
 intro ip s σ H x y v u Q I rx ry h;obtain⟨rfl,q⟩:=h;cases ry;refine is_none_gen (A8 I q ?_);cases x<;>first
  |(cases rx;rfl)
  |(obtain⟨t,rfl⟩:=rx;rfl)
theorem Ry:gw X (jk .IsNot) (λx y H Q=>y=.non/\Q (.bl (!decide (x=.non))) H):=by
 intro ip s σ H x y v u Q I rx ry h;obtain⟨rfl,q⟩:=h;cases ry;refine isnot_none_gen (A8 I q ?_);cases x<;>first
  |(cases rx;rfl)
  |(obtain⟨t,rfl⟩:=rx;rfl)
theorem a2o:gw X (jk .NotIn) (λx y H Q=>s_ λi j=>x=.str i/\y=.str j/\Q (.bl (!(!(jG j i 0 j.length 1).isEmpty))) H):=by
 intro ip s σ H x y v u Q I rx ry h;obtain⟨i,j,rfl,rfl,q⟩:=h;obtain⟨t,rfl⟩:=rx;obtain⟨t',rfl⟩:=ry;exact notIn_str (A8 I q rfl)
theorem r9 b(h:op≠.In:=by decide)(h2:op≠.NotIn:=by decide):ny op b=false:=by
 have e1:(op==CmpOp.In)=false:=by cases op<;>first|rfl|exact absurd rfl h
 have e2:(op==CmpOp.NotIn)=false:=by cases op<;>first|rfl|exact absurd rfl h2
 cases b<;>simp[ny,e1,e2]
theorem Z3(ho:gw X (jk op) r)(ha:PE X a ta)(hb:PE X b tb)(hm:ny op b=false):PE X (.Compare a [op] [b] pos) (P_ r ta tb):=by
 intro ip s σ H Q I h;exact wpAny_Compare1 (TF ha hb I h λv u s2 x y H2 I2 rx ry q=>ho ip s2 σ H2 x y v u Q I2 rx ry q) hm
def b6m(t:TE):TT:=λσ H Q=>t σ H λx H'=>∃k,x=.bl k/\Q k H'
theorem l5(ho:gw X (jk op) r)(ha:PE X a ta)(hb:PE X b tb)(hm:ny op b=false):PT X (.Compare a [op] [b] pos) (b6m (P_ r ta tb)):=by
 intro ip s σ H Q I h;refine wpAny_isTrue_Compare1 (D7 (ha ip s σ H _ I h) λv s1 ⟨x,H1,I1,r1,q1⟩=>D7 (hb ip s1 σ H1 _ I1 q1) λu s2 ⟨y,H2,I2,r2,q2⟩ =>
  D7 (ho ip s2 σ H2 x y v u _ I2 r1 r2 q2) λc s3 ⟨z,H3,I3,r3,k,e,q3⟩=>?_) hm
 subst e;cases r3;exact gC ⟨H3,I3,q3⟩
def b2e(r r':R2)(ta tb tc:TE):TE:=λσ H Q=>ta σ H λx H1=>tb σ H1 λy H2=>r x y H2 λz H3=>∃k,z=.bl k/\
 (if k=true then tc σ H3 λw' H4=>r' y w' H4 Q else Q (.bl false) H3)
theorem b1L(ho:gw X (jk op) r)(mj:gw X (jk JG) r')(ha:PE X a ta)(hb:PE X b tb)(hc:PE X c tc)
  (hm:lastMarks [op,JG] [b,c]=false:=by with_unfolding_all rfl):PE X (.Compare a [op,JG] [b,c] pos) (b2e r r' ta tb tc):=by
 intro ip s σ H Q I h;refine Compare_chain (D7 (ha ip s σ H _ I h) λv s1 ⟨x,H1,I1,r1,q1⟩=>chain_link (D7 (hb ip s1 σ H1 _ I1 q1) λu s2 ⟨y,H2,I2,r2,q2⟩ =>
  D7 (ho ip s2 σ H2 x y v u _ I2 r1 r2 q2) λd s3 ⟨z,H3,I3,r3,k,e,q3⟩=>?_)) hm
 subst e;cases r3;refine gC ?_;cases k with
 |false=>exact ite_ff ⟨.bl false,H3,I3,cm,q3⟩
 |true=>exact ite_tt (chain_last (D7 (hc ip s3 σ H3 _ I3 q3) λw' s4 ⟨z',H4,I4,r4,q4⟩=>mj ip s4 σ H4 y z' u w' Q I4 r2 r4 q4))
theorem MZ(ho:gw X (jk op) r)(mj:gw X (jk JG) r')(ha:PE X a ta)(hb:PE X b tb)(hc:PE X c tc)
  (hm:lastMarks [op,JG] [b,c]=false:=by with_unfolding_all rfl):PT X (.Compare a [op,JG] [b,c] pos) (b6m (b2e r r' ta tb tc)):=by
 intro ip s σ H Q I h;refine isTrue_chain (D7 (ha ip s σ H _ I h) λv s1 ⟨x,H1,I1,r1,q1⟩=>test_link (D7 (hb ip s1 σ H1 _ I1 q1) λu s2 ⟨y,H2,I2,r2,q2⟩ =>
  D7 (ho ip s2 σ H2 x y v u _ I2 r1 r2 q2) λd s3 ⟨z,H3,I3,r3,k,e,q3⟩=>?_)) hm
 subst e;cases r3;refine gC ?_;cases k with
 |false =>
  obtain⟨k',e',q'⟩:=q3;cases e';exact ite_ff ⟨H3,I3,q'⟩
 |true =>
  refine ite_tt (test_last (D7 (hc ip s3 σ H3 _ I3 q3) λw' s4 ⟨z',H4,I4,r4,q4⟩=>D7 (mj ip s4 σ H4 y z' u w' _ I4 r2 r4 q4) λd' s5 ⟨z2,H5,I5,r5,k2,e2,q5⟩=>?_));subst e2;cases r5;exact gC ⟨H5,I5,q5⟩
def b8t(K:aF)(x:V)(H:Hp)(k:Bool):Prop :=
 s_ λp xs=>x=.ref p/\ah K H p xs/\k=!xs.isEmpty
theorem a4C(r:Vals xs iq):(!iq.toArray.isEmpty)=!xs.isEmpty:=by
 cases r<;>simp
def JH:(jb:Nat)<2^63:=dz
theorem b7z:c0l X (λx H Q=>∃k,b8t X.K x H k/\Q k H):=by
 intro ip s σ H x v Q I rx h;obtain⟨k,⟨p,xs,rfl,hx,e'⟩,q⟩:=h;have hs:=bE;cases rx;subst e';obtain⟨iq,r,pl,hz⟩:=I.list hx;have hlen:=r.length;exact wpAny_truthy_list pl.isList (by grind) ⟨H,I.tok _,by rw[a4C r];exact q⟩
theorem RM(ha:PE X a ta)(he:∀whole,isTrue a X.env whole=(do let v <- whole;nu a.pos;holding [v] (truthy v))) :
  PT X a (λσ H Q=>ta σ H λx H'=>∃k,b8t X.K x H' k/\Q k H'):=by
 intro ip s σ H Q I h;exact sP (D7 (ha ip s σ H _ I h) λv s1 ⟨x,H1,I1,r1,q1⟩=>b7z ip s1 σ H1 x v Q I1 r1 q1) (he _)
theorem E2:gw X (jA .Add) (λx y H Q=>s_ λi j=>x=.str i/\y=.str j/\i.length+j.length<=jb/\Q (.str (i++j)) H):=by
 intro ip s σ H x y v u Q I rx ry h;obtain⟨i,j,rfl,rfl,hz,q⟩:=h;obtain⟨t,rfl⟩:=rx;obtain⟨t',rfl⟩:=ry;exact add_str (λt' tk=>⟨.str (i++j),H,I.tok _,⟨_,cm⟩,q⟩) hz
theorem U1(r:Vals [x] us):∃u,us=[u]/\RelV x u:=by
 cases r with
 |cons r1 r2=>cases r2;exact⟨_,cm,r1⟩
theorem Lw(r:Vals [x,y] us):s_ λu w'=>us=[u,w']/\RelV x u/\RelV y w':=by
 cases r with
 |cons r1 r2 =>
  cases r2 with
  |cons r3 r4=>cases r4;exact⟨_,_,cm,r1,r3⟩
theorem b3Q:K6 X (.builtin "abs") (λxs H Q=>∃i,xs=[.int i]/\Q (.int (if i<0 then -i else i)) H):=by
 intro ip s σ H xs us Q I r h;obtain⟨i,rfl,q⟩:=h;obtain⟨u,rfl,t,rfl⟩:=U1 r;exact call_abs_int λu tk=>⟨.int (if i<0 then -i else i),H,I.tok _,⟨_,cm⟩,q⟩
theorem Qc(hc:X.calm=true):K6 X (.builtin "min") (λxs H Q=>s_ λi j=>xs=[.int i,.int j]/\Q (.int (if j<i then j else i)) H):=by
 intro ip s σ H xs us Q I r h;obtain⟨i,j,rfl,q⟩:=h;obtain⟨u,w',rfl,⟨t,rfl⟩,t',rfl⟩:=Lw r;refine min_two_ints (I.ok.hd hc) λh' tk k=>⟨_,H,I.kept k,?_,q⟩;by_cases hj:j<i
 .rw[qg hj,qg hj];exact⟨_,cm⟩
 .rw[qf hj,qf hj];exact⟨_,cm⟩
theorem TH:K6 X (.type "int") (λxs H Q=>(∃i,xs=[.int i]/\Q (.int i) H)\/∃k,xs=[.bl k]/\Q (.int (if k then 1 else 0)) H):=by
 intro ip s σ H xs us Q I r h;rcases h with⟨i,rfl,q⟩|⟨k,rfl,q⟩
 .obtain⟨u,rfl,t,rfl⟩:=U1 r;exact call_int_int ⟨.int i,H,I,⟨_,cm⟩,q⟩
 .obtain⟨u,rfl,r1⟩:=U1 r;cases r1;exact call_int_bool ⟨.int (if k then 1 else 0),H,I.tok _,⟨_,cm⟩,q⟩
theorem E5:K6 X (.type "str") (λxs H Q=>∃i,xs=[.int i]/\i.natAbs.log2<1920/\Q (.str (toString i)) H):=by
 intro ip s σ H xs us Q I r h;obtain⟨i,rfl,hz,q⟩:=h;obtain⟨u,rfl,t,rfl⟩:=U1 r;exact PySem.P.str_of_int hz ⟨.str _,H,I.tok _,⟨_,cm⟩,q⟩
structure zy(h:aJ)(x dx C:aA)(mA:aC->Option aE):Prop where
 obj:h.get? x=fo (iO C dx)
 ns:h.Ns1 dx mA
 ne:dx≠x
theorem b0H{h:aJ}(n:h.Ns1 dx mA):∃od,h.get? dx=fo od/\∀name,nL name od=fo (mA name):=by
 obtain⟨o,es,ep,ho,hd,hk,_,hm⟩:=n;refine⟨o,ho,λname=>?_⟩;have e:=hm name;unfold nsFind findBy at e;rw[<-Array.find?_toList] at e;unfold nL;rw[hd];dsimp only;split
 .rename_i y q
  rw[q] at e;exact rd fo e
 .rename_i q
  rw[q] at e;have a:es.toList.any (·.refKey)=false:=by
   rw[List.any_eq_false];intro y hy;obtain⟨z,t,TL⟩:=hk y (Array.mem_toList_iff.mp hy);simp[tD,TL]
  have a':¬es.toList.any (·.refKey)=true:=by rw[a];exact cX
  rw[qf a'];exact rd fo e
def zy.look(I:zy h x dx C mA):∃od,W.InstAt h x (iO C dx) C (fo od)/\∀name,nL name od=fo (mA name) :=
 let ⟨od,ho,hl⟩:=b0H I.ns
 ⟨od,⟨I.obj,cm,cm,ho⟩,hl⟩
section
variable{prog:aM}{w:aL}{A:aV}{E:aE->aG->Prop}{s:aG}{K:aF}{x dx C f:aA}{mA:aC->Option aE}{name:aC}{v:aE}
theorem b4x(X:K.In s.heap)(I:zy s.heap x dx C mA)(hg:kK K C name=true)(hh:lT K C=true)
  (ha:bO K (.ref C) name=fo fO) (hv:mA name=fo v) (Lx:tE v=true) (h:Q v {s with toks:=s.toks+1}) :
  iZ (jf prog w) A (getAttr (.ref x) name expr) Q E s:=by
 obtain⟨od,J,hl⟩:=I.look;exact W.get_value X J (qH hg).1 (W.findObj_own hh ha rfl (by rw[hl,hv])) Lx h
theorem b3b(X:K.In s.heap)(I:zy s.heap x dx C mA)(hg:kK K C name=true)
  (hf:bO K (.ref C) name=fo (fo (.ref f))) (ht:qI K (.ref f)=true) (hv:mA name=fO) (h:Q (.ref f,[.ref x]) s) :
  iZ (jf prog w) A (pU (.ref x) name pl) Q E s:=by
 obtain⟨od,J,hl⟩:=I.look;exact W.method_fn X J (qH hg).1 (qH hg).2 hf (beq_iff_eq.mp ht) (by show(nL name od).map (·.isSome)=fo false;rw[hl,hv];rfl) h
theorem b5l(X:K.In s.heap)(I:zy s.heap x dx C mA)
  (hs:bO K (.ref C) "__setattr__"=fo (fo (.builtin "object.__setattr__"))) (hp:nN K C=true) (ht:qJ K C name=fo fO) (hh:lT K C=true)
  (hw:pW mA ns) (xq:gu ns<=jb)
  (h:∀h',zy h' x dx C (λy=>if y=name then fo v else mA y)->kH dx s.heap h'->Q () {s with heap:=h',toks:=s.toks+2}) :
  iZ (jf prog w) A (setAttr (.ref x) name v) Q E s:=by
 obtain⟨od,J,hl⟩:=I.look;refine W.set_plain X J hs (W.osa_open X J hp ht λb=>?_);obtain⟨cd,hc,zw⟩:=W.any_some hh;refine aN (bG (aN (aN (tF I.obj (aN (W.Looks.here (W.looks_clsIn X hc) ?_))))));rw[zw];refine bG (aN (bG (aN (wpAny_nsSet1 I.ns λh' Ib II=>?_))));obtain⟨oD,esD,epD,hoD,hdD,hcD⟩:=Ib.count (zP name v hw);exact aN (wpAny_lookBehind hoD (by rw[hdD];exact pastItsLine_dict (bF hcD (by simp_all))) (bG (h _ ⟨(II.2 _ (bV I.ne)).trans I.obj,Ib,I.ne⟩ II)))
theorem b2c(X:K.In s.heap)(hm:nQ K C=true)
  (hi:bO K (.ref C) "__init__"=fo (fo (.ref f))) (hf:W.typeIn K (.ref f)=fo (.type "function"))
  (h:md (jf prog w) (A.under (.builtin "type.__call__" ⟨.ref C::vs,kw⟩)) (.call (.ref f) ⟨.ref (s.heap.objs.size+1)::vs,kw⟩) (W.InitBack (s.heap.objs.size+1) R)
   {s with heap:=(s.heap.push iR).push (iO C s.heap.objs.size)}) :
  md (jf prog w) A (.call (.ref C) ⟨vs,kw⟩) R s:=by
 obtain⟨hh,g,d,t,os⟩:=s;exact W.make_core (W.makes_of X hm) (W.looks_findIn X hi) (λself=>W.bind_fn X self hf) (.inl rfl) h
end
def Z6(f:aC)(v:V):List (aC×V)->List (aC×V)
 |[]=>[(f,v)]
 |(g,x)::r=>if g=f then (g,v)::r else (g,x)::Z6 f v r
theorem a3i(f g:aC)(v:V):∀fs,(Z6 f v fs).lookup g=if g=f then fo v else fs.lookup g
 |[]=>by
  show iS g [(f,v)]=_;by_cases h:g=f
  .have hb:=beq_iff_eq.mpr h;simp only[iS,hb,qg h]
  .have hb:=beq_eq_false_iff_ne.mpr h;simp only[iS,hb,qf h]
 |(k,x)::r=>by
  rw[show Z6 f v ((k,x)::r)=(if k=f then (k,v)::r else (k,x)::Z6 f v r) from rfl];by_cases hk:k=f
  .rw[qg hk];by_cases h:g=k
   .have hb:=beq_iff_eq.mpr h;simp only[iS,hb,qg (h.trans hk)]
   .simp only[iS,beq_eq_false_iff_ne.mpr h,qf λe:g=f=>h (e.trans hk.symm)]
  .rw[qf hk];by_cases h:g=k
   .simp only[iS,beq_iff_eq.mpr h,qf λe:g=f=>hk (h.symm.trans e)]
   .simp only[iS,beq_eq_false_iff_ne.mpr h];exact(a3i f g v r)
theorem TM(f:aC)(v:V):∀fs,f∈(Z6 f v fs).map (·.1)/\∀g,g∈fs.map (·.1)->g∈(Z6 f v fs).map (·.1)
 |[]=>⟨by simp[Z6],λg h=>by simp at h⟩
 | (k,x)::r=>by
  obtain⟨i1,i2⟩:=TM f v r;rw[show Z6 f v ((k,x)::r)=(if k=f then (k,v)::r else (k,x)::Z6 f v r) from rfl];by_cases hk:k=f
  .rw[qg hk];subst hk;exact⟨fg,λg h=>by simpa using h⟩
  .rw[qf hk];refine⟨?_,λg h=>?_⟩
   .rw[cS];exact bZ _ i1
   .rw[cS] at h⊢;rcases bH.mp h with e|e
    .exact bH.mpr (.inl e)
    .exact bZ _ (i2 g e)
theorem a3l(f:aC)(v:V):∀fs,gu (Z6 f v fs)<=gu fs+1
 |[]=>by simp[Z6]
 |(k,x)::r=>by
  have ih:=a3l f v r;rw[show Z6 f v ((k,x)::r)=(if k=f then (k,v)::r else (k,x)::Z6 f v r) from rfl];by_cases hk:k=f
  .rw[qg hk,eM,eM];lia
  .rw[qf hk,eM,eM];lia
theorem uj.some_of(r:uj (fo v) o):∃u,o=fo u/\RelV v u:=by
 cases o with
 |none=>exact(show False from r).elim
 |some u=>exact⟨u,cm,r⟩
theorem uj.none_of(r:uj fO o):o=fO:=by
 cases o with
 |none=>rfl
 |some u=>exact(show False from r).elim
theorem b0x(r:RelV v u):tE u=true:=by
 cases v with
 |non=>cases (show u=iN from r);rfl
 |bl b=>cases (show u=pT b from r);rfl
 |int i=>obtain⟨t,e⟩:=(show ∃t,u=iM i t from r);cases e;rfl
 |str x=>obtain⟨t,e⟩:=(show ∃t,u=jB x t from r);cases e;rfl
 |ref a=>cases (show u=cZ a from r);rfl
 |ty n=>cases (show u=pV n from r);rfl
theorem Qd(ck:mz H h)(e:H a=fo (.ins C dx fs)):∃mA,zy h a dx C mA/\(∀f,uj (fs.lookup f) (mA f))/\pW mA (fs.map (·.1))/\gu fs<=1000/\H dx=fo (.own a):=by
 obtain⟨d,z,ne,ob,mA,n,r,q⟩:=(show dh H h a (.ins C dx fs) from ck a _ e);exact⟨mA,⟨ob,n,ne⟩,r,q,z,d⟩
structure z_(K:aF)(C:aA):Prop where
 pg:kK K C eI=true
 hd:lT K C=true
 po:nN K C=true
 sa:bO K (.ref C) "__setattr__"=fo (fo (.builtin "object.__setattr__"))
def z_.get{K}(c:z_ K C)f:kK K C f=true:=c.pg
def dg(K:aF)(C:aA)(f:aC):Prop:=bO K (.ref C) f=fo fO
theorem dg.M_{K}(n:dg K C f):qJ K C f=fo fO:=by
 unfold qJ;rw[show bO K (.ref C) f=fo fO from n];rfl
structure Con(K:aF)(C:aA)(f:aC)(v:V)(u:aE):Prop where
 at_:bO K (.ref C) f=fo (fo u)
 rel:RelV v u
 get:tG K u "__get__"=fo fO
 cp:W.copiedNames.contains f=false
structure Ly(K:aF)(C:aA)(m:aC)(f:aA):Prop where
 at_:bO K (.ref C) m=fo (fo (.ref f))
 fn:qI K (.ref f)=true
 kp:dX K (.ref f)=true
section
variable{X:Cx}{ip:List (aA×Obj)}{σ:St}{H:Hp}{s:aG}{a C dx:aA}{fs:List (aC×V)}{f:aC}{v:V}{A:aV}{E:aE->aG->Prop}
theorem a8i(I:Inv X ip σ H s)(e:H a=fo (.ins C dx fs))(c:z_ X.K C)(n:dg X.K C f)(l:fs.lookup f=fo v)
  (h:∀u s',Inv X ip σ H s'->RelV v u->Q u s'):iZ (jf X.prog X.w) A (getAttr (.ref a) f b) Q E s:=by
 obtain⟨mA,O,r,_,_,_⟩:=Qd I.ck e;obtain⟨u,hu,ru⟩:=uj.some_of (l▸r f);exact b4x I.ix O (c.get f) c.hd n hu (b0x ru) (h u _ (I.tok _) ru)
theorem TN(I:Inv X ip σ H s)(e:H a=fo (.ins C dx fs))(c:z_ X.K C)(k:Ly X.K C m g)(l:fs.lookup m=fO)
  (h:Q (.ref g,[.ref a]) s):iZ (jf X.prog X.w) A (pU (.ref a) m pl) Q E s:=by
 obtain⟨mA,O,r,_,_,_⟩:=Qd I.ck e;exact b3b I.ix O (c.get m) k.at_ k.fn (uj.none_of (l▸r m)) h
theorem a4e(I:Inv X ip σ H s)(e:H a=fo (.ins C dx fs))(c:z_ X.K C)(n:dg X.K C f)(hl:gu fs<1000)(ry:RelV y u)
  (h:∀s',Inv X ip σ (upd H a (.ins C dx (Z6 f y fs))) s'->Q () s'):iZ (jf X.prog X.w) A (setAttr (.ref a) f u) Q E s:=by
 obtain⟨mA,O,r,wi,_,ho⟩:=Qd I.ck e;have hz:gu (fs.map (·.1))<=jb:=by rw[aH,bE];lia
 refine b5l I.ix O c.sa c.po n.M_ c.hd wi hz λh' O' sb=>h _ ?_;have hd:∃o,h'.get? dx=fo o:=let ⟨o,_,_,e',_⟩:=O'.ns;⟨o,e'⟩;refine I.write (e▸jI) (.inr ho) (λb q hb z=>(sb.2 b hb).trans z) hd ?_;refine⟨by rw[j3 O.ne];exact ho,?_,O.ne,O'.obj,_,O'.ns,λg=>?_,λg hg=>?_⟩
 .have:=a3l f y fs;lia
 .show uj ((Z6 f y fs).lookup g) (if g=f then fo u else mA g);rw[a3i];by_cases q:g=f
  .rw[qg q,qg q];exact ry
  .rw[qf q,qf q];exact r g
 .by_cases q:g=f
  .rw[q];exact(TM f y fs).1
  .refine(TM f y fs).2 g (wi g λz=>hg ?_);show(if g=f then fo u else mA g)=fO;rw[qf q];exact z
theorem Inv.made(I:Inv X ip σ H s):Inv X ip σ (upd (upd H s.heap.objs.size (.own (s.heap.objs.size+1))) (s.heap.objs.size+1) (.ins C s.heap.objs.size []))
  {s with heap:=(s.heap.push iR).push (iO C s.heap.objs.size)}:=by
 have e1:(s.heap.push iR).get? s.heap.objs.size=fo iR:=dG s.heap rfl;have e2:((s.heap.push iR).push (iO C s.heap.objs.size)).get? (s.heap.objs.size+1)=fo (iO C s.heap.objs.size):=by
  have:=dG (s.heap.push iR) (o:=iO C s.heap.objs.size) rfl;rwa[gS] at this
 have e3:(s.heap.push iR).Ns s.heap.objs.size (λ_=>fO):=⟨W.emptyDict,#[],_,e1,cm,(λe he=>absurd he fg),λ_=>rfl⟩;refine(I.laid (o:=.own (s.heap.objs.size+1)) (t':=s.toks) (λb u q=>bL _ q) (aT _) ⟨_,e1⟩).laid (λb u q=>bL _ q) (Nat.le_of_eq (gS _ _)) ?_;have ne:s.heap.objs.size≠s.heap.objs.size+1:=dB (jJ _);refine⟨by rw[j3 ne,ae],dM _,ne,e2,λ_=>fO,(Heap.Ns1.of_empty e3).at λo q=>bL _ q,λ_=>jI,λy hy=>absurd rfl hy⟩
theorem b4n(hb:kF e f env (eval e env)=eval e env)
  (h:iZ (jf prog w) A (eval e env) (λo vy=>iZ (jf prog w) A (getAttr o f true) Q E vy) E s):iZ (jf prog w) A (eval (.Attribute e f pos) env) Q E s :=
 Attribute_any_ h (by rw[arm_eval_Attribute,hb])
end
def b9t(K:aF)(ta:TE)(f:aC):TE:=λσ H Q=>ta σ H λx H1=>y_ λa C dx fs v=>x=.ref a/\H1 a=fo (.ins C dx fs)/\z_ K C/\dg K C f/\fs.lookup f=fo v/\Q v H1
def c0E(K:aF)(ta tv:TE)(f:aC):TS:=λD σ H=>tv σ H λy H1=>ta σ H1 λx H2=>t_ λa C dx fs=>x=.ref a/\H2 a=fo (.ins C dx fs)/\z_ K C/\dg K C f/\gu fs<1000/\
 D.nx σ (upd H2 a (.ins C dx (Z6 f y fs)))
theorem y4(he:PE X e ta)(hb:kF e f X.env (eval e X.env)=eval e X.env):PE X (.Attribute e f pos) (b9t X.K ta f):=by
 intro ip s σ H Q I h;refine b4n hb (D7 (he ip s σ H _ I h) λu s1 ⟨x,H1,I1,rx,a,C,dx,fs,v,ex,ea,c,n,l,q⟩=>?_);subst ex;obtain rfl:u=cZ a:=rx;exact a8i I1 ea c n l λu' s2 I2 ru=>⟨v,H1,I2,ru,q⟩
theorem GA(ha:PE X o ta)(hv:PE X value tv)(hs:pS value (fo (.Attribute o f pos')) pos.line X.env=pure false):PS X (.Assign [.Attribute o f pos'] value pos) (c0E X.K ta tv f):=by
 intro ip s σ H D I h;refine plainObj_wpAny_Assign_Attribute (D7 (hv ip s σ H _ I h) λu s1 ⟨y,H1,I1,ry,q⟩=>D7 (ha ip s1 σ H1 _ I1 q) λov s2 ⟨x,H2,I2,rx,a,C,dx,fs,ex,ea,c,n,l,q2⟩=>?_) hs;subst ex;obtain rfl:ov=cZ a:=rx;exact a4e I2 ea c n l ry λs3 I3=>⟨σ,_,I3,q2⟩
inductive Cp(K:aF)(H:Hp):V->aE->Prop where
 |int (i:Int):Cp K H (.int i) (.type "int")
 |str (x:aC):Cp K H (.str x) (.type "str")
theorem b0U{σ:St}(I:Inv X ip σ H s)(rx:RelV x u)(ty:Cp X.K H x t)(e:bU X.K t c=fo b)(h:∀tk,Q (.bool b) {s with toks:=tk}) :
  iZ (jf X.prog X.w) A (call (.builtin "isinstance") [u,c]) Q E s:=by
 cases ty with
 |int i=>obtain⟨t,q⟩:=(show ∃t,u=iM i t from rx);cases q;exact fX W.kitx_int I.ix jI e (λz=>nomatch z) h
 |str y=>obtain⟨t,q⟩:=(show ∃t,u=jB y t from rx);cases q;exact fX W.kitx_str I.ix jI e (λz=>nomatch z) h
structure b_(k:Nat)(A:aV):Prop where
 hd:A.handled=fO
 dp:A.depth+3*k+5<jy
 un:A.units+16*k+200<cLine
theorem b_.mono(r:b_ k A)(h:j<=k):b_ j A:=⟨r.hd,by have:=r.dp;lia,by have:=r.un;lia⟩
theorem b_.deeper(r:b_ (k+1) A)env:b_ k (A.deeper env) :=
 ⟨r.hd,by have:=r.dp;show A.depth+1+3*k+5<_;lia,by have:=r.un;show A.units+3+16*k+200<_;lia⟩
theorem b_.in1(r:b_ (k+1) A):b_ k A.in1 :=
 ⟨r.hd,by have:=r.dp;lia,by have:=r.un;lia⟩
def a8D{A:aV}:(A.under (.builtin "type.__call__" ⟨.ref C::us,kw⟩)).depth=A.depth+1:=rfl
def a8s{A:aV}:(A.under (.builtin "type.__call__" ⟨.ref C::us,kw⟩)).units=A.units+1:=rfl
theorem b_.make(r:b_ (k+1) A)C us kw:b_ k (A.under (.builtin "type.__call__" ⟨.ref C::us,kw⟩)) :=
 ⟨r.hd,by have:=r.dp;rw[a8D];lia,by have:=r.un;rw[a8s];lia⟩
theorem b_.depth(r:b_ k A):A.depth<jy:=by have:=r.dp;lia
theorem b_.units(r:b_ k A):A.units+64<cLine:=by have:=r.un;lia
def yb:TA:=λ_ H Q=>Q [] H
def Z2(ta:TE)(tr:TA):TA:=λσ H Q=>ta σ H λx H1=>tr σ H1 λxs H2=>Q (x::xs) H2
def c7:PA X [] yb:=λ_ _ _ _ H Q I h=>Calls.spliced_nil ⟨[],H,I,.nil,h⟩
theorem c6(ha:PE X e te)(hr:PA X es t)(hs:jh (e::es) X.env=(false,eval e X.env)::jh es X.env:=by rfl):PA X (e::es) (Z2 te t):=by
 intro pos ip s σ H Q I h;rw[hs];exact Calls.spliced_cons (D7 (ha ip s σ H _ I h) λu s1 ⟨x,H1,I1,r1,q1⟩=>(D7 (hr pos ip s1 σ H1 _ I1 q1) λus s2 ⟨xs,H2,I2,r2,q2⟩=>⟨x::xs,H2,I2,.cons r1 r2,q2⟩))
def c0J(t:TA):TE:=λσ H Q=>t σ H λxs H1=>gu xs<=jb/\∀p,H1 p=fO->Q (.ref p) (upd H1 p (.tup xs))
def Qe(t:TA):TE:=λσ H Q=>t σ H λxs H1=>gu xs<=jb/\∀p,H1 p=fO->Q (.ref p) (upd H1 p (.lst xs))
theorem A9(h:PA X es t):PE X (.Tuple es x1 pos) (c0J t):=by
 intro ip s σ H Q I hq;exact wpAny_Tuple_spliced (D7 (h pos ip s σ H _ I hq) λus s1 ⟨xs,H1,I1,r,z,q⟩=>⟨by rw[<-r.length];exact z,.ref s1.heap.objs.size,upd H1 s1.heap.objs.size (.tup xs),I1.laid (λb u e=>bL _ e) (aT _) ⟨z,us,r,_,dG _ rfl,cm,_,cm⟩,cm,q _ (I1.ck.fresh (aT _))⟩)
theorem v9(h:PA X es t):PE X (.List es pos) (Qe t):=by
 intro ip s σ H Q I hq;exact wpAny_List_spliced (D7 (h pos ip s σ H _ I hq) λus s1 ⟨xs,H1,I1,r,z,q⟩=>⟨by rw[<-r.length];exact z,.ref s1.heap.objs.size,upd H1 s1.heap.objs.size (.lst xs),I1.laid (λb u e=>bL _ e) (aT _) ⟨z,us,0,r,dG _ rfl⟩,cm,q _ (I1.ck.fresh (aT _))⟩)
abbrev Sp:=List V->Hp->VK->XK->Prop
abbrev ze:=List Env->Hp->aG->XK->aE->aG->Prop
structure v_(P:aM)(w:aL)(K:aF)(mg:aC->Option aE)(base:aJ)(A:aV)(outer:List Env)(s:aG)(H:Hp):Prop where
 frames:A.frames=fo outer
 mod:Mod K mg base
 bs:∀b o,base.get? b=fo o->s.heap.get? b=fo o/\H b=fO
 xw:base.objs.size<=s.heap.objs.size
 gx:s.heap.FunFrames base outer
 Cj:∀b∈uk outer,H b=fO
 ck:mz H s.heap
 bare:jC s.gens
def CE(outer:List Env)(P:aM)(w:aL)(H:Hp)(s:aG)(Q:VK)(u:aE)(s':aG):Prop :=
 s_ λv H'=>s'.os=s.os/\jC s'.gens/\Un (uk outer) [] H H' s.heap s'.heap/\mz H' s'.heap/\RelV v u/\Q v H'
def CR(CX:ze)(outer:List Env)(P:aM)(w:aL)(H:Hp)(s:aG)(Q:VK)(E:XK)(r:jH)(s':aG):Prop :=
 match r with
 |.ok (.ret u)=>CE outer P w H s Q u s'
 |.ok _=>False
 |.error e=>CX outer H s E e s'
structure bf(P:aM)(w:aL)(K:aF)(mg:aC->Option aE)(base:aJ)(CX:ze)(k:Nat)(f:aA)(fd:aK)(ps:List aC)(sp:Sp):Prop where
 len:∀vs H Q E,sp vs H Q E->gu vs=gu ps
 run:∀(A:aV)(outer:List Env)(s:aG)(H:Hp)(args:Args)(us:List aE)(vs:List V)(Q:VK)(E:XK),b_ k A->v_ P w K mg base A outer s H->lU s fd args (ps.zip us)->Vals vs us->sp vs H Q E →
  md (jf P w) A (.call (.ref f) args) (CR CX outer P w H s Q E) s
def bf.imp{K}(F:bf P w K mg base CX k f fd ps sp)
  (h:∀vs H Q E,sp' vs H Q E->sp vs H Q E):bf P w K mg base CX k f fd ps sp' :=
 ⟨λvs H Q E q=>F.len vs H Q E (h _ _ _ _ q),λA outer s H args us vs Q E hr he hb hv hs=>F.run A outer s H args us vs Q E hr he hb hv (h _ _ _ _ hs)⟩
theorem v_.make{K}(e:v_ P w K mg base A outer s H)C us kw :
  v_ P w K mg base (A.under (.builtin "type.__call__" ⟨.ref C::us,kw⟩)) outer s H:=⟨by first|exact e.frames|(simpa[qK,Code.envs,qL,pushEnvs] using e.frames),e.mod,e.bs,e.xw,e.gx,e.Cj,e.ck,e.bare⟩
section
variable{X:Cx}{ip:List (aA×Obj)}{σ:St}{H:Hp}{s s':aG}
def Inv.Hf(I:Inv X ip σ H s):v_ X.prog X.w X.K X.mg X.base X.A X.stack s H :=
 ⟨I.ok.frames,I.ok.mod,I.bs,bF I.ok.xw I.sz,I.stack,I.qm,I.ck,I.bare⟩
theorem Inv.after(I:Inv X ip σ H s)(h:CE X.stack X.prog X.w H s Q u s'):EP X ip σ Q u s':=by
 obtain⟨v,H',os,bare,un,ck,r,q⟩:=h;obtain⟨hh,g,d,t,Ic⟩:=s';obtain rfl:Ic=s.os:=os;exact⟨v,H',I.call un ck bare λb z=>absurd z fg,r,q⟩
end
def Qf(sp:Sp)(ua:List V)(E:XK)(t:TA):TE:=λσ H Q=>t σ H λvs H1=>sp (vs++ua) H1 Q E
def b5T(C:aA)(m:aC)(sp:Sp)(ua:List V)(E:XK)(ta:TE)(t:TA):TE:=λσ H Q=>ta σ H λx H1=>tq λa dx fs=>x=.ref a/\H1 a=fo (.ins C dx fs)/\fs.lookup m=fO/\
 t σ H1 λvs H2=>sp (x::(vs++ua)) H2 Q E
def Ie(C:aA)(sp:Sp)(ua:List V)(E:XK)(t:TA):TE:=λσ H Q=>t σ H λvs H1=>∀x dx,H1 x=fO->H1 dx=fO->dx≠x →
 sp (.ref x::(vs++ua)) (upd (upd H1 dx (.own x)) x (.ins C dx [])) (λv H2=>v=.non/\Q (.ref x) H2) E
def Binds(K:aF)(fd:aK)(ps:List aC)(ds:List aE):Prop :=
 ∀s us,K.In s.heap->gu (us++ds)=gu ps->lU s fd ⟨us,[]⟩ (ps.zip (us++ds))
theorem Binds.all{K}(h:∀us,gu us=gu ps->ma fd ⟨us,[]⟩=pure (ps.zip us)):Binds K fd ps []:=λs us _ hl=>by
 rw[fP] at hl⊢;exact .of_eq (h us hl)
def Z8(CX:ze)(X:Cx)(E:XK):Prop:=∀ip(σ:St)H s e s',Inv X ip σ H s->CX X.stack H s E e s'->X.xe e s'
section
variable{X:Cx}{CX:ze}{k:Nat}{f C:aA}{fd:aK}{ps:List aC}{sp:Sp}{ua:List V}{ds:List aE}{E:XK}{x m:aC}{p pos apos:Pos}{e o:aR}{es:List aR}{ta:TE}{t:TA}
theorem Qg{σ:St}(F:bf X.prog X.w X.K X.mg X.base CX k f fd ps sp)(hr:b_ k X.A)(hb:Binds X.K fd ps ds)(hd:Vals ua ds)(hx:Z8 CX X E)
  (I:Inv X ip σ H s) (r:Vals vs us) (h:sp (vs++ua) H Q E):iZ (jf X.prog X.w) X.A (call (.ref f) us) (EP X ip σ Q) X.xe s:=by
 have r2:=r.append hd;have hl:gu (us++ds)=gu ps:=by rw[<-r2.length];exact F.len _ _ _ _ h
 refine lV (nR (F.run X.A X.stack s H ⟨us,[]⟩ (us++ds) (vs++ua) Q E hr I.Hf (hb s us I.ix hl) r2 h) λr s' hq=>?_);cases r with
 |error e=>exact hx ip σ H s e s' I hq
 |ok fl =>
  cases fl with
  |ret u=>exact I.after hq
  |next=>exact eD hq
  |brk=>exact eD hq
  |cont=>exact eD hq
theorem l7(F:bf X.prog X.w X.K X.mg X.base CX k f fd ps sp)(hr:b_ k X.A)(hg:Gl X x)(hm:X.mg x=fo (.ref f))(hk:dX X.K (.ref f)=true)(hb:Binds X.K fd ps ds)(hd:Vals ua ds)(hx:Z8 CX X E)
  (ha:PA X (e::es) t) (Cq:(x==("__debug__":aC))=false:=by decide) (he:jh (e::es) X.env=(false,eval e X.env)::jh es X.env:=by rfl) (wb:(jv pos (jh es X.env)).any (·.1)=false:=by rfl) :
  PE X (.Call (.Name x p) (e::es) [] pos) (Qf sp ua E t):=by
 intro ip s σ H Q I h;exact jK (Lm I hg hm (kM I.ok.mod.zu hk (D7 (ha pos ip s σ H _ I h) λus s1 ⟨vs,H1,I1,r,q⟩=>⟨I1.ix,Qg F hr hb hd hx I1 r q⟩) he wb) Cq)
theorem TQ{pl}(he:PE X o ta)(c:z_ X.K C)(hm:Ly X.K C m f)(F:bf X.prog X.w X.K X.mg X.base CX k f fd ps sp)(hr:b_ k X.A)(hb:Binds X.K fd ps ds)(hd:Vals ua ds)(hx:Z8 CX X E)(ha:PA X (e::es) t)
  (gj:jh (e::es) X.env=(false,eval e X.env)::jh es X.env:=by rfl) (wb:(jv pos (jh es X.env)).any (·.1)=false:=by rfl)
  (ht:eval (.Call (.Attribute o m apos) (e::es) [] pos) X.env=(do
   let ov <- eval o X.env
   nu apos.atName
   let (f,first) <- holding [ov] (pU ov m pl)
   callWith pos f first (jv pos (jh (e::es) X.env)) (og pos (mi [] X.env))):=by rfl) :
  PE X (.Call (.Attribute o m apos) (e::es) [] pos) (b5T C m sp ua E ta t):=by
 intro ip s σ H Q I h;refine qM (D7 (he ip s σ H _ I h) λu s1 ⟨x,H1,I1,rx,a,dx,fs,ex,ea,l,q⟩=>?_) ht;subst ex;obtain rfl:u=cZ a:=rx;exact TN I1 ea c hm l (kM I.ok.mod.zu hm.kp (D7 (ha pos ip s1 σ H1 _ I1 q) λus s2 ⟨vs,H2,I2,r,q2⟩=>⟨I2.ix,Qg (vs:=.ref a::vs) F hr hb hd hx I2 (.cons rfl r) q2⟩) gj wb)
theorem M'(he:PE X o ta)(c:z_ X.K C)(hm:Ly X.K C m f)(F:bf X.prog X.w X.K X.mg X.base CX k f fd ps sp)(hr:b_ k X.A)(hb:Binds X.K fd ps ds)(hd:Vals ua ds)(hx:Z8 CX X E)
  (ht:eval (.Call (.Attribute o m apos) [] [] pos) X.env=(do
   let ov <- eval o X.env
   nu apos.atName
   let (f,first) <- holding [ov] (pU ov m pl)
   callWith pos f first (jv pos (jh [] X.env)) (og pos (mi [] X.env))):=by rfl) :
  PE X (.Call (.Attribute o m apos) [] [] pos) (b5T C m sp ua E ta yb):=by
 intro ip s σ H Q I h;refine qM (D7 (he ip s σ H _ I h) λu s1 ⟨x,H1,I1,rx,a,dx,fs,ex,ea,l,q⟩=>?_) ht;subst ex;obtain rfl:u=cZ a:=rx;exact TN I1 ea c hm l (W.callWith_K0 I1.ix hm.kp (Qg (vs:=[.ref a]) F hr hb hd hx I1 (.cons rfl .nil) q))
structure Mk(K:aF)(C f:aA):Prop where
 makes:nQ K C=true
 init:bO K (.ref C) "__init__"=fo (fo (.ref f))
 fn:qI K (.ref f)=true
 kp:dX K (.ref C)=true
theorem b2h{σ:St}(M:Mk X.K C f)(F:bf X.prog X.w X.K X.mg X.base CX k f fd ps sp)(hr:b_ (k+1) X.A)(hb:Binds X.K fd ps ds)(hd:Vals ua ds)
  (hx:Z8 CX X E) (I:Inv X ip σ H s) (r:Vals vs us)
  (h:∀x dx,H x=fO->H dx=fO->dx≠x->sp (.ref x::(vs++ua)) (upd (upd H dx (.own x)) x (.ins C dx [])) (λv H2=>v=.non/\Q (.ref x) H2) E) :
  iZ (jf X.prog X.w) X.A (call (.ref C) us) (EP X ip σ Q) X.xe s:=by
 have hq:=h (s.heap.objs.size+1) s.heap.objs.size (I.ck.fresh (lW _)) (I.ck.fresh (aT _)) (dB (jJ _));have I2:=Inv.made (C:=C) I;have r2:Vals (V.ref (s.heap.objs.size+1)::(vs++ua)) (cZ (s.heap.objs.size+1)::(us++ds)):=.cons rfl (r.append hd);have hl:gu (cZ (s.heap.objs.size+1)::us++ds)=gu ps:=by
  have e:=r2.length;rw[F.len _ _ _ _ hq] at e;exact e.symm
 refine lV (b2c I.ix M.makes M.init (beq_iff_eq.mp M.fn) (nR (F.run _ X.stack _ _ ⟨Value.ref (s.heap.objs.size+1)::us,[]⟩ (cZ (s.heap.objs.size+1)::(us++ds)) _ _ E (hr.make C us [])
  (I2.Hf.make C us []) (hb _ (cZ (s.heap.objs.size+1)::us) I2.ix hl) r2 hq) λr s' Cu=>?_))
 cases r with
 |error e=>exact hx ip σ _ _ e s' I2 Cu
 |ok fl =>
  cases fl with
  |ret u =>
   obtain⟨v,H',I3,rv,ev,q3⟩:=I2.after Cu;subst ev;exact⟨rv,V.ref (s.heap.objs.size+1),H',I3,cm,q3⟩
  |next=>exact eD Cu
  |brk=>exact eD Cu
  |cont=>exact eD Cu
theorem RN(M:Mk X.K C f)(F:bf X.prog X.w X.K X.mg X.base CX k f fd ps sp)(hr:b_ (k+1) X.A)(hg:Gl X x)(hm:X.mg x=fo (.ref C))(hb:Binds X.K fd ps ds)(hd:Vals ua ds)(hx:Z8 CX X E)
  (ha:PA X (e::es) t) (Cq:(x==("__debug__":aC))=false:=by decide) (he:jh (e::es) X.env=(false,eval e X.env)::jh es X.env:=by rfl) (wb:(jv pos (jh es X.env)).any (·.1)=false:=by rfl) :
  PE X (.Call (.Name x p) (e::es) [] pos) (Ie C sp ua E t):=by
 intro ip s σ H Q I h;exact jK (Lm I hg hm (kM I.ok.mod.zu M.kp (D7 (ha pos ip s σ H _ I h) λus s1 ⟨vs,H1,I1,r,q⟩=>⟨I1.ix,b2h M F hr hb hd hx I1 r q⟩) he wb) Cq)
end
structure c1l(K:aF)(fd:aK)(ps ks:List aC)(g:List aE->List aE->List aE)(gV:List V->List V->List V):Prop where
 to:∀(s:aG)(us ws:List aE),K.In s.heap->gu (g us ws)=gu ps->lU s fd ⟨us,ks.zip ws⟩ (ps.zip (g us ws))
 rel:∀{vs:List V}{us:List aE}{zs:List V}{ws:List aE},Vals vs us->Vals zs ws->Vals (gV vs zs) (g us ws)
structure p7(N P:List aC)(sc:cQ):Prop where
 kind:sc.kind=.function:=by rfl
 co:sc.isCoroutine=false:=by rfl
 gen:sc.isGenerator=false:=by rfl
 nd:N.Nodup:=by decide +kernel
 pre:N.take (gu P)=P:=by rfl
 par:∀x∈P,sc.names.lookup x=fo .local\/sc.names.lookup x=fo .cell:=by decide +kernel
 JI:∀y∈sc.names,y.2≠.free:=by decide +kernel
theorem a4U{kindOf:aC->Option jL}:∀{binds}{m},(∀v,(x,v) ∉ binds)->bindL kindOf binds m x=m x
 |[],_,_=>rfl
 |(n,v)::r,m,h=>by
  unfold bindL;rw[a4U λw hw=>h w (bZ _ hw)];split
  .have:x≠n:=by rintro rfl;exact h v cY
   simp[this]
  .rfl
theorem a4R{kindOf:aC->Option jL}:∀{binds}{m},(∀v,(x,v) ∉ binds)->bindC kindOf binds m x=m x
 |[],_,_=>rfl
 |(n,v)::r,m,h=>by
  unfold bindC;rw[a4R λw hw=>h w (bZ _ hw)];split
  .rfl
  .have:x≠n:=by rintro rfl;exact h v cY
   simp[this]
theorem a5b{kindOf:aC->Option jL}:∀{P:List aC}{vs}{i:Nat}{m},P.Nodup->P[i]?=fo x->vs[i]?=fo v->kindOf x=fo .local →
  bindL kindOf (P.zip vs) m x=fo v
 |[],_,_,_,_,h,_,_=>by simp at h
 |_::_,[],_,_,_,_,h,_=>by simp at h
 |p::P,w::vs,0,m,nd,h1,h2,hk=>by
  simp at h1 h2;subst h1;subst h2;show bindL kindOf ((p,w)::P.zip vs) m p=_;unfold bindL;rw[a4U λv hv=>(nU.mp nd).1 (nV hv).1,qg hk];simp
 |p::P,w::vs,i+1,m,nd,h1,h2,hk=>by
  unfold bindL;exact a5b (nU.mp nd).2 (by simpa using h1) (by simp_all) hk
theorem a5w{kindOf:aC->Option jL}:∀{P:List aC}{vs}{i:Nat}{m},P.Nodup->P[i]?=fo x->vs[i]?=fo v->kindOf x≠fo .local →
  bindC kindOf (P.zip vs) m x=fo v
 |[],_,_,_,_,h,_,_=>by simp at h
 |_::_,[],_,_,_,_,h,_=>by simp at h
 |p::P,w::vs,0,m,nd,h1,h2,hk=>by
  simp at h1 h2;subst h1;subst h2;show bindC kindOf ((p,w)::P.zip vs) m p=_;unfold bindC;rw[a4R λv hv=>(nU.mp nd).1 (nV hv).1,qf hk];simp
 |p::P,w::vs,i+1,m,nd,h1,h2,hk=>by
  unfold bindC;exact a5w (nU.mp nd).2 (by simpa using h1) (by simp_all) hk
def V6(N:List aC)(vs:List V):St:=vs.map fo++aQ (gu N-gu vs) fO
def N8(CX:ze)(P:aM)(w:aL)(K:aF)(mg:aC->Option aE)(base:aJ)(N:List aC)(qual:aC)(scope:cQ)(f:aA)(cd:aE)(A:aV)(outer:List Env)(s:aG)(H:Hp)(E:XK):Cx where
 prog:=P
 w:=w
 K:=K
 mg:=mg
 base:=base
 A:=A.deeper (dQ qual scope s.heap.objs.size f cd)
 N:=N
 s₀:=s
 H₀:=H
 env:=dQ qual scope s.heap.objs.size f cd
 outer:=outer
 stack:=dQ qual scope s.heap.objs.size f cd::outer
 ex:=[]
 calm:=true
 fn:=λ_=>true
 pn:=[]
 xe:=λe s'=>iZ (jf P w) (A.deeper (dQ qual scope s.heap.objs.size f cd)) (leaving (dQ qual scope s.heap.objs.size f cd) e) (λ_ Nb=>CX outer H s E e Nb) (λe' Nb=>CX outer H s E e' Nb) s'
theorem a7x{sc:cQ}(h:sc.names.lookup x=fo .cell):∃c,(js n sc.names []).lookup x=fo c:=by
 exact Option.isSome_iff_exists.mp (qO sc.names n [] (.inl h))
theorem a5o{K}
  (S:p7 N ps scope) (hd:A.handled=fO) (e0:v_ P w K mg base A outer s H) (hl:gu vs=gu ps) (r:Vals vs us)
  (x:InCallC s s.heap.objs.size (bindL (dQ qual scope s.heap.objs.size f cd).kindOf (ps.zip us) λ_=>fO) (js (s.heap.objs.size+1) scope.names []) (bindC (dQ qual scope s.heap.objs.size f cd).kindOf (ps.zip us) λ_=>fO) s1) :
  Inv (N8 CX P w K mg base N qual scope f cd A outer s H E) [] (V6 N vs) H s1:=by
 have wb:gu ps<=gu N:=by have:=rd iT S.pre;rw[cI] at this;lia
 obtain⟨h1,tk,rfl,hk⟩:=x.done;have TR:∀b:aA,b ∉ (N8 CX P w K mg base N qual scope f cd A outer s H E).ex:=λb z=>absurd (show b∈([]:List aA) from z) fg;refine⟨⟨e0.mod,S.kind,cm,cm,aT _,λy z c h1 h2=>?_,λy hy=>?_,λy c _ h=>?_,λ_=>hd,qP e0.frames,.inr ⟨cm,cm⟩,λb z=>absurd z (TR b),e0.bs,e0.xw,λb _ _=>TR b,λb z=>absurd z (TR b),e0.gx,e0.Cj⟩,
  rfl,e0.bare,Un.kept hk,⟨_,x.toInCall.ns,λi y v h1 h2 h3=>?_⟩,λy c h=>⟨_,x.cell y c h⟩,e0.ck.fresh (aT _),λy c h=>?_,λp hp=>absurd (show p∈([]:List (aA×Obj)) from hp) fg,e0.ck.kept hk,?_⟩
 .exact tL x.apart (lY h1) (lY h2)
 .have hy:=hy;rcases hy with hy|hy
  .exact a7x hy
  .exact absurd rfl (S.JI _ (lY hy))
 .exact gQ (x.above y c (lY h))
 .have hi:i<gu vs:=by
   unfold V6 at h2;by_cases hi:i<gu vs
   .exact hi
   .rw[dU (by simp_all)] at h2;rw[gD] at h2;split at h2<;>cases h2
  have ha:vs[i]?=fo v:=by
   unfold V6 at h2;rw[dH (by simp_all),aP] at h2;cases e:vs[i]? with
   |none=>rw[e] at h2;cases h2
   |some a=>rw[e] at h2;cases h2;rfl
  obtain⟨u,hu,rv⟩:=r.get ha;have hp:ps[i]?=fo y:=by
   rw[<-S.pre,tM dj];exact h1
  have ndP:ps.Nodup:=by rw[<-S.pre];exact S.nd.sublist (List.take_sublist _ _)
  refine⟨u,rv,?_⟩;rcases S.par y (bK hp) with k|k
  .exact .inl ⟨k,a5b ndP hp hu k⟩
  .obtain⟨c,e⟩:=a7x k;refine .inr ⟨.inl k,c,e,?_⟩;have q:=x.cell y c e;rw[a5w ndP hp hu (by show scope.names.lookup y≠_;rw[k];decide)] at q;exact q
 .exact e0.ck.fresh (gQ (x.above y c (lY h)))
 .unfold V6;show _=gu N;rw[aX,aH,bP];lia
theorem TU{K}{kV}
  (lk:K.lookup f=fo ⟨oc,od,.func (iE name qual params body scope dV kV doc pm an ay ct),yc⟩) (xo:lZ K ay qual=true) (S:p7 N ps scope)
  (len:∀vs H Q E,sp vs H Q E->gu vs=gu ps)
  (fz:∀A outer s H vs Q E,b_ k (A.deeper (dQ qual scope s.heap.objs.size f ay))->sp vs H Q E →
   ∃t,fu (N8 CX P w K mg base N qual scope f ay A outer s H E) body t/\t {nx:=λ_ H'=>Q .non H',rt:=Q} (V6 N vs) H) :
  bf P w K mg base CX (k+1) f (iE name qual params body scope dV kV doc pm an ay ct) ps sp:=by
 refine⟨len,λA outer s H args us vs Q E hr e0 hb r iu=>?_⟩;have KX:=e0.mod.zu.keeps λb o e=>(e0.bs b o e).1;have EK:∀y∈ps.zip us,scope.names.lookup y.1=fo .local\/(scope.names.lookup y.1=fo .cell/\((js (s.heap.objs.size+1) scope.names []).lookup y.1).isSome=true):=λ⟨n,v⟩ hy=>by
  rcases S.par n (nV hy).1 with q|q
  .exact .inl q
  .exact .inr ⟨q,qO _ _ _ (.inl q)⟩
 refine tN hr.depth (KX _ _ lk) rfl S.co S.gen rfl (tO KX xo) (hb _ _ _ _ (tQ S.kind EK λenv he s1 x=>?_));subst he;refine⟨(e0.mod.nolimit.keeps λb o e=>(e0.bs b o e).1).keeps x.toInCall.keep,tR ?_⟩;obtain⟨t,ht,hq⟩:=fz A outer s H vs Q E (hr.deeper _) iu;refine eY (ht [] s1 (V6 N vs) H _ (a5o S hr.hd e0 (len _ _ _ _ iu) r x) hq) (λfl s' hs=>?_) λe s' hs=>hs;have fin:∀{au:St}{H':Hp}{v:V}{u:aE},Inv (N8 CX P w K mg base N qual scope f ay A outer s H E) [] au H' s'->RelV v u->Q v H'->CE outer P w H s Q u s' :=
  λ{au H' v u}J rv q=>⟨v,H',J.os,J.bare,J.base,J.ck,rv,q⟩
 cases fl with
 |ret u =>
  obtain⟨v,au,H',J,rv,q⟩:=hs;exact fin J rv q
 |next =>
  obtain⟨au,H',J,q⟩:=hs;exact fin (v:=V.non) J rfl q
 |brk =>
  obtain⟨_,_,_,q⟩:=hs;exact eD q
 |cont =>
  obtain⟨_,_,_,q⟩:=hs;exact eD q
section
variable{X:Cx}{x:aC}{p pos:Pos}{e:aR}{es:List aR}{t:TA}{id T:String}{r:List V->Hp->VK->Prop}
def RV(r:List V->Hp->VK->Prop)(t:TA):TE:=λσ H Q=>t σ H λvs H1=>r vs H1 Q
theorem j7(hc:K6 X (.builtin id) r)(hg:Gl X x)(hm:X.mg x=fO)(hv:l_ x=fo (.builtin id))(ha:PA X (e::es) t)(hn:x≠"__name__":=by decide)(Cq:(x==("__debug__":aC))=false:=by decide)
  (he:jh (e::es) X.env=(false,eval e X.env)::jh es X.env:=by rfl) (wb:(jv pos (jh es X.env)).any (·.1)=false:=by rfl):PE X (.Call (.Name x p) (e::es) [] pos) (RV r t):=by
 intro ip s σ H Q I h;exact jK (JD I hg hm hv (zQ (D7 (ha pos ip s σ H _ I h) λus s1 ⟨vs,H1,I1,r1,q1⟩=>hc ip s1 σ H1 vs us Q I1 r1 q1) he wb) hn Cq)
theorem v5(hc:K6 X (.type T) r)(hg:Gl X x)(hm:X.mg x=fO)(hv:l_ x=fo (.type T))(ha:PA X (e::es) t)(hn:x≠"__name__":=by decide)(Cq:(x==("__debug__":aC))=false:=by decide)
  (he:jh (e::es) X.env=(false,eval e X.env)::jh es X.env:=by rfl) (wb:(jv pos (jh es X.env)).any (·.1)=false:=by rfl):PE X (.Call (.Name x p) (e::es) [] pos) (RV r t):=by
 intro ip s σ H Q I h;exact jK (JD I hg hm hv (nJ (D7 (ha pos ip s σ H _ I h) λus s1 ⟨vs,H1,I1,r1,q1⟩=>hc ip s1 σ H1 vs us Q I1 r1 q1) he wb) hn Cq)
end
end L2
namespace HT
open PySem PyProof.Rows
section
open PySem.SeqAt
open PySem.AutoSeq1 (wpAny_loadPart')
open PySem.MeetsSeq PySem.MeetsSeq2 PySem.MeetsSeq3
end
theorem Hg(ht:gP s.heap t vs.toArray)(hb:gP s.heap b ws.toArray)(hv:vs≠[])
  (h1:ws=[]->Q (.ref t) s) (h2:ws≠[]->Q (.ref s.heap.objs.size) {s with heap:=s.heap.push {cls:=.type "tuple",data:=.seq (vs++ws).toArray}})
  (xq:gu vs+gu ws<=jb):iZ (jf prog w) A (jA .Add (.ref t) (.ref b)) Q E s:=by
 obtain⟨⟨cls,dd,data,sl⟩,ho,hc,n,hd⟩:=id ht;obtain⟨⟨cls2,dd2,data2,sl2⟩,Qh,Aq,n2,hd2⟩:=id hb;subst hc hd Aq hd2;have e:vs.toArray++ws.toArray=(vs++ws).toArray:=fg;by_cases hw:ws=[]
 .exact tS ⟨_,ho,cm⟩ ⟨_,Qh,cm⟩ tT tU tV tW (tX _ _)
   (tuple_addW1 t b vs.toArray ws.toArray n n2 dd dd2 sl sl2 (by simpa using hv) (by simp[hw])) ⟨ho,Qh,h1 hw⟩
 .refine tS ⟨_,ho,cm⟩ ⟨_,Qh,cm⟩ tT tU tV tW (tX _ _)
   (tuple_addW2 t b vs.toArray ws.toArray n n2 dd dd2 sl sl2 (by simpa using hv) (by simp_all) (by simp_all)) ⟨ho,Qh,?_⟩
  rw[e];exact h2 hw
def wc(n d:Nat):Option Int->Nat
 |none=>d
 |some v=>if v<0 then (v+(n:Int)).toNat else min v.toNat n
def rp n d:wc n d fO=d:=rfl
def gy(n d k:Nat):wc n d (fo (k:Int))=min k n:=rfl
end HT
namespace L2
open PySem PySem.Spec PyProof.Rows
abbrev TO:=St->Hp->(Option Int->Hp->Prop)->Prop
def PO(X:Cx)(e:Option aR)(t:TO):Prop :=
 ∀ip s(σ:St)H Q,Inv X ip σ H s->t σ H Q →
  iZ (jf X.prog X.w) X.A (evalPart e X.env) (λu s'=>s_ λo H'=>Inv X ip σ H' s'/\IsPart u o/\Q o H') X.xe s
def b5P:TO:=λ_ H Q=>Q fO H
def b8Z(t:TE):TO:=λσ H Q=>t σ H λx H1=>∃i,x=.int i/\Q (fo i) H1
theorem G1:PO X fO b5P:=by
 intro ip s σ H Q I h;rw[tY];exact bG ⟨fO,H,I,.none,h⟩
theorem B8(h:PE X e te):PO X (fo e) (b8Z te):=by
 intro ip s σ H Q I hw;rw[evalPart_some];refine D7 (h ip s σ H _ I hw) λu s1 ⟨x,H1,I1,r1,q1⟩=>?_;obtain⟨i,rfl,q⟩:=q1;obtain⟨t,rfl⟩:=r1;exact⟨fo i,H1,I1,.int i t,q⟩
def TV(X:Cx)(r:V->Option Int->Option Int->Hp->VK->Prop):Prop :=
 ∀ip s(σ:St)H x v vl vu lo hi sl Q,Inv X ip σ H s->RelV x v->s.heap.IsSliceOf sl vl vu .none->IsPart vl lo->IsPart vu hi->r x lo hi H Q →
  s_ λT id=>typeLookup (.type T) "__getitem__"=pure (fo (.builtin id))/\s.TypeIs v T/\iZ (jf X.prog X.w) X.A (getItem v (.ref sl)) (EP X ip σ Q) X.xe s
def tSl(r:V->Option Int->Option Int->Hp->VK->Prop)(te:TE)(tl th:TO):TE:=λσ H Q=>te σ H λx H1=>tl σ H1 λl H2=>th σ H2 λu H3=>r x l u H3 Q
theorem B7{lo}(hr:TV X r)(he:PE X e te)(hl:PO X lo tl)(hu:PO X hi th):PE X (.Subscript e (.Slice lo hi fO p2) pos) (tSl r te tl th):=by
 intro ip s σ H Q I h;refine Subscript_ (D7 (he ip s σ H _ I h) λv s1 ⟨x,H1,I1,r1,q1⟩=>(wpAny_Slice (D7 (hl ip s1 σ H1 _ I1 q1) λvl s2 ⟨l,H2,I2,pl,q2⟩=>D7 (hu ip s2 σ H2 _ I2 q2) λvu s3 ⟨u,H3,I3,pu,q3⟩=>?_)));rw[tY];refine bG ?_;have I4:Inv X ip σ H3 {s3 with heap:=s3.heap.push {cls:=.type "slice",data:=.fields #[vl,vu,.none]}}:=I3.kept λb ob q=>bL _ q;obtain⟨T,id,hT,ht,hg⟩:=hr ip {s3 with heap:=s3.heap.push {cls:=.type "slice",data:=.fields #[vl,vu,.none]}} σ H3 x v vl vu l u s3.heap.objs.size Q I4 r1 (zR ..) pl pu q3;exact tail_any ht hT hg rfl
def P5(xs:List V)(lo hi:Option Int):List V:=(xs.drop (HT.wc (gu xs) 0 lo)).take (HT.wc (gu xs) (gu xs) hi-HT.wc (gu xs) 0 lo)
theorem a3n xs lo hi:gu (P5 xs lo hi)<=gu xs:=by
 unfold P5;rw[cI,eJ];lia
inductive b8F(K:aF)(x y:V)(H:Hp)(Q:VK):Prop|mk:∀a b xs ys,x=.ref a->y=.ref b->cq K H a xs->cq K H b ys->xs≠[]->gu xs+gu ys<=jb->(ys=[]->Q (.ref a) H)->(ys≠[]->∀p,H p=fO->Q (.ref p) (upd H p (.tup (xs++ys))))->b8F K x y H Q
theorem Vals.wg(r:Vals xs us):us=[] ↔ xs=[]:=by
 cases r with
 |nil=>simp
 |cons _ _=>simp
theorem a9S:gw X (jA .Add) (b8F X.K):=by
 intro ip s σ H x y v u Q I rx ry h;obtain⟨a,b,xs,ys,rfl,rfl,ha,hb,hx,hz,q1,q2⟩:=h;cases rx;cases ry;obtain⟨iq,r1,p1,_⟩:=I.tuple ha;obtain⟨Cy,r2,p2,_⟩:=I.tuple hb;refine HT.Hg p1 p2 (λz=>hx (r1.wg.mp z)) (λz=>⟨.ref a,H,I,cm,q1 (r2.wg.mp z)⟩) (λz=>⟨.ref s.heap.objs.size,_,I.laid (λb ob q=>bL _ q) (aT _) ?_,cm,q2 (λw=>z (r2.wg.mpr w)) _ (I.ck.fresh (aT _))⟩) (by rw[<-r1.length,<-r2.length];exact hz);exact⟨by rw[aX];exact hz,_,r1.append r2,nD _ _⟩
def Bz(n:Nat)(i:Int):Option Nat:=if 0<=i then (if i<n then fo i.toNat else fO) else if -(n:Int)<=i then fo (i+n).toNat else fO
def U7{α:Type}(xs:List α)(i:Int):Option α:=(Bz (gu xs) i).bind λj=>xs[j]?
theorem TX(h:Bz n i=fo j):seqIndex? i n=fo j/\j<n/\-(n:Int)<=i/\i<n:=by
 unfold Bz at h;by_cases h0:0<=i
 .rw[qg h0] at h;by_cases h1:i<n
  .rw[qg h1] at h;exact⟨by rw[qQ h0 h1,bD h],dj,dj,h1⟩
  .rw[qf h1] at h;cases h
 .rw[qf h0] at h;by_cases h1:-(n:Int)<=i
  .rw[qg h1] at h;exact⟨by rw[qR dj h1,bD h],dj,h1,dj⟩
  .rw[qf h1] at h;cases h
theorem TY(h:U7 xs i=fo v):∃j,seqIndex? i (gu xs)=fo j/\xs[j]?=fo v/\j<gu xs/\-(gu xs:Int)<=i/\i<gu xs:=by
 unfold U7 at h;cases e:Bz (gu xs) i with
 |none=>rw[e] at h;cases h
 |some j =>
  rw[e] at h;obtain⟨h1,h2,h3,h4⟩:=TX e;exact⟨j,h1,h,h2,h3,h4⟩
theorem A2{j:Nat}(h:xs[j]?=fo v):U7 xs (j:Int)=fo v:=by
 have hj:j<gu xs:=(cA.mp h).1;have e:Bz (gu xs) (j:Int)=fo j:=by
  unfold Bz;rw[qg dj,qg dj];simp
 unfold U7;rw[e];exact h
theorem Ig xs(v:α):U7 (xs++[v]) (-1)=fo v:=by
 have hl:gu (xs++[v])=gu xs+1:=fg;have e:Bz (gu (xs++[v])) (-1)=fo (gu xs):=by
  unfold Bz;rw[hl,qf dz,qg dj];congr 1;lia
 unfold U7;rw[e];simp
def b5m(b:aR):Prop:=∀o i,subscripted b false o i=operate [o,i] (getItem o i)
def JJ(X:Cx)(r:R2):Prop :=
 ∀value slice ip s(σ:St)H x y v u Q,Inv X ip σ H s->RelV x v->RelV y u->r x y H Q →
  subscripted slice false v u=operate [v,u] (getItem v u)->iZ (jf X.prog X.w) X.A (subscriptTail value slice v u) (EP X ip σ Q) X.xe s
def Qi(X:Cx)(id:String)(r:V->List V->Hp->VK->Prop):Prop :=
 ∀ip s(σ:St)H x xs v us Q,Inv X ip σ H s->RelV x v->Vals xs us->r x xs H Q →
  iZ (jf X.prog X.w) X.A (call (.builtin id) (v::us)) (EP X ip σ Q) X.xe s
section
theorem l8(hr:JJ X r)(ha:PE X a ta)(hb:PE X b tb)(hs:b5m b):PE X (.Subscript a b pos) (P_ r ta tb):=by
 intro ip s σ H Q I h;exact Subscript_ (TF ha hb I h λv u s2 x y H2 I2 rx ry q=>hr a b ip s2 σ H2 x y v u Q I2 rx ry q (hs _ _))
inductive RW(K:aF)(x y:V)(H:Hp)(Q:VK):Prop|mk:∀p xs i v,x=.ref p->y=.int i->ah K H p xs->U7 xs i=fo v->Q v H->RW K x y H Q
inductive R0(K:aF)(x y:V)(H:Hp)(Q:VK):Prop|mk:∀p xs i v,x=.ref p->y=.int i->cq K H p xs->U7 xs i=fo v->Q v H->R0 K x y H Q
inductive c1k(x y:V)(H:Hp)(Q:VK):Prop|mk:∀z i c,x=.str z->y=.int i->z.length<=jb->U7 z.cps.toList i=fo c->Q (.str ⟨#[c]⟩) H->c1k x y H Q
theorem j5:JJ X (RW X.K):=by
 intro value slice ip s σ H x y v u Q I rx ry h hs;obtain⟨p,xs,i,z,rfl,rfl,hq,he,q⟩:=h;cases rx;obtain⟨t,rfl⟩:=ry;obtain⟨iq,r,pl,hz⟩:=I.list hq;obtain⟨j,h1,h2,h3,h4,h5⟩:=TY he;obtain⟨w,ew,G'⟩:=r.get h2;have hl:=r.length;have hn:=JH;have fin:EP X ip σ Q w s:=⟨z,H,I,G',q⟩;by_cases h0:0<=i
 .have hj:i.toNat=j:=by
   rw[qQ h0 h5] at h1;exact bD h1
  exact item_listR pl.isList h0 dj (by simp_all) fin hs
 .have hj:(i+(iq.toArray.size:Int)).toNat=j:=by
   rw[qR dj h4] at h1;rw[bY,<-hl];exact bD h1
  exact tZ pl.isList.typeIs slot_list_getitem.lookup
   (wpAny_getItem_list_neg pl.isList dj (by simp_all) dj (by simp_all) ⟨cm,fin⟩) hs
theorem U8:JJ X (R0 X.K):=by
 intro value slice ip s σ H x y v u Q I rx ry h hs;obtain⟨p,xs,i,z,rfl,rfl,hq,he,q⟩:=h;cases rx;obtain⟨t,rfl⟩:=ry;obtain⟨iq,r,pl,hz⟩:=I.tuple hq;obtain⟨j,h1,h2,h3,h4,h5⟩:=TY he;obtain⟨w,ew,G'⟩:=r.get h2;have hn:=JH;exact tZ pl.typeIs slot_tuple_getitem.lookup
  (getItem_tuple pl dj dj (by rw[bY,<-r.length];exact h1) (by simp_all) ⟨cm,⟨z,H,I,G',q⟩⟩) hs
theorem Nc:JJ X c1k:=by
 intro value slice ip s σ H x y v u Q I rx ry h hs;obtain⟨z,i,c,rfl,rfl,hz,he,q⟩:=h;obtain⟨t,rfl⟩:=rx;obtain⟨t',rfl⟩:=ry;obtain⟨j,h1,h2,h3,h4,h5⟩:=TY he;have hl:z.cps.toList.length=z.length:=by simp[Str.length]
 rw[hl] at h1 h4 h5;have hn:=JH;exact tail_any (mD s z t) slot_str_getitem.lookup (getItem_str (by
  have e1:decide (i < -(2^63:Int))=false:=qU dj;have e2:decide (i ≥ 2^63)=false:=qU dj;rw[e1,e2,mG]) (by simp_all) ⟨.str ⟨#[c]⟩,H,I.tok _,⟨_,cm⟩,q⟩) hs
theorem a8b(iq:List aE)n j u:gT (·.setIfInBounds j u) {cls:=.type "list",data:=.seq iq.toArray n}={cls:=.type "list",data:=.seq (iq.set j u).toArray n}:=by
 simp[gT]
theorem Inv.lst{σ:St}(I:Inv X ip σ H s)(h:H p=fo (.lst xs)) :
  s_ λiq n=>Vals xs iq/\s.heap.get? p=fo {cls:=.type "list",data:=.seq iq.toArray n}/\gu xs<=jb:=by
 obtain⟨z,iq,n,r,e⟩:=I.ck p _ h;exact⟨iq,n,r,e,z⟩
theorem Inv.JK{σ:St}{iq:List aE}(I:Inv X ip σ H s)(h:H p=fo (.lst xs))
  (ho:s.heap.get? p=fo {cls:=.type "list",data:=.seq iq.toArray n}) (hf:f {cls:=.type "list",data:=.seq iq.toArray n}={cls:=.type "list",data:=.seq tu.toArray n'}) (r:Vals ys tu) (hz:gu ys<=jb) t :
  Inv X ip σ (upd H p (.lst ys)) {s with heap:=s.heap.update p f,toks:=t}:=by
 have e:(s.heap.update p f).get? p=fo {cls:=.type "list",data:=.seq tu.toArray n'}:=by
  rw[uA f ho (by rw[hf]<;>rfl),hf]
 exact I.write (by rw[h];trivial) (.inl rfl) (λb u hb q=>(uB _ _ (bV hb)).trans q) ⟨_,e⟩ ⟨hz,tu,n',r,e⟩
inductive b8z(o i v:V)(H:Hp)(Q:(Hp->Prop)):Prop|mk:∀p xs k j,o=.ref p->i=.int k->H p=fo (.lst xs)->Bz (gu xs) k=fo j->Q (upd H p (.lst (xs.set j v)))->b8z o i v H Q
theorem O1:b9M X b8z:=by
 intro ip s σ H o i v ov iv u Q I ro ri rv h;obtain⟨p,xs,k,j,rfl,rfl,hp,hj,q⟩:=h;cases ro;obtain⟨t,rfl⟩:=ri;obtain⟨iq,n,r,ho,hz⟩:=I.lst hp;obtain⟨h1,h2,h3,h4⟩:=TX hj;have hl:=r.length;have hn:=JH;have I':=
  I.JK hp ho (a8b iq n j u) (r.set rv j) (by simp_all) s.toks
 by_cases h0:0<=k
 .have hk:k.toNat=j:=by
   rw[qQ h0 h4] at h1;exact bD h1
  exact W.ki_setAt ho h0 dj (by simp_all) (hk▸⟨_,I',q⟩)
 .have hk:(k+(iq.toArray.size:Int)).toNat=j:=by
   rw[qR dj h3] at h1;rw[bY,<-hl];exact bD h1
  exact W.ki_setBack ho dj (by simp_all) dj (hk▸⟨_,I',q⟩)
theorem a5E lo hi n:(mf lo hi fO n).1=((HT.wc n 0 lo:Nat):Int)/\(mf lo hi fO n).2.1=((HT.wc n n hi:Nat):Int)/\(mf lo hi fO n).2.2=1:=by
 refine⟨?_,?_,cm⟩
 .cases lo with
  |none=>simp[mf,HT.wc]
  |some i =>
   simp only[mf,HT.wc,uC,(dz:(1:Int)>0),if_true];by_cases h:i<0
   .simp only[h,if_true]<;>lia
   .simp only[h,if_false]<;>lia
 .cases hi with
  |none=>simp[mf,HT.wc]
  |some i =>
   simp only[mf,HT.wc,uC,(dz:(1:Int)>0),if_true];by_cases h:i<0
   .simp only[h,if_true]<;>lia
   .simp only[h,if_false]<;>lia
theorem a4H(iq:List aE)lo hi:slicePick iq.toArray lo hi fO=((iq.drop (HT.wc (gu iq) 0 lo)).take (HT.wc (gu iq) (gu iq) hi-HT.wc (gu iq) 0 lo)).toArray:=by
 obtain⟨h1,h2,h3⟩:=a5E lo hi iq.toArray.size;unfold slicePick;rw[h1,h2,h3];simp only[sliceRange_one,pick_run,bY]<;>rfl
inductive c0p(K:aF)(x:V)(lo hi:Option Int)(H:Hp)(Q:VK):Prop|mk:∀a xs,x=.ref a->ah K H a xs->(∀p,H p=fO->Q (.ref p) (upd H p (.lst (P5 xs lo hi))))->c0p K x lo hi H Q
theorem M0:TV X (c0p X.K):=by
 intro ip s σ H x v vl vu lo hi sl Q I rx hs pl pu h;obtain⟨a,xs,rfl,hx,q⟩:=h;cases rx;obtain⟨iq,r,ht,hz⟩:=I.list hx;have hlen:=r.length;refine⟨"list",_,slot_list_getitem.lookup,ht.isList.typeIs,wpAny_getItem_list_slice ht.isList hs pl pu .none fg ?_ (by simp_all)⟩;rw[a4H,<-hlen];refine⟨.ref s.heap.objs.size,_,I.laid (λb ob q=>bL _ q) (aT _) ?_,cm,q _ (I.ck.fresh (aT _))⟩;exact⟨Nat.le_trans (a3n xs lo hi) hz,_,0,(r.drop (HT.wc (gu xs) 0 lo)).take (HT.wc (gu xs) (gu xs) hi-HT.wc (gu xs) 0 lo),dG _ rfl⟩
def Hh:V->Bool
 |.non=>true
 |.bl _=>true
 |.int _=>true
 |.str _=>true
 |_=>false
def GB:V->V->Bool
 |.non,.non=>true
 |.bl a,.bl b=>a==b
 |.bl a,.int b=>(if a then 1 else 0)==b
 |.int a,.bl b=>a==(if b then 1 else 0)
 |.int a,.int b=>a==b
 |.str a,.str b=>a==b
 |_,_=>false
theorem b7m(ry:RelV y u)(rx:RelV x v)(fy:Hh y=true)(fx:Hh x=true):uD A s u v (GB y x):=by
 cases y with
 |non =>
  cases ry;cases x with
  |non=>cases rx;exact zS _
  |bl b=>cases rx;exact zT b
  |int b=>obtain⟨t,rfl⟩:=rx;exact zU b t
  |str b=>obtain⟨t,rfl⟩:=rx;exact zV b t
  |_=>exact absurd (show false=true from fx) cX
 |bl a =>
  cases ry;cases x with
  |non=>cases rx;exact zW a
  |bl b=>cases rx;exact zX a b
  |int b=>obtain⟨t,rfl⟩:=rx;exact zY a b t
  |str b=>obtain⟨t,rfl⟩:=rx;exact zZ a b t
  |_=>exact absurd (show false=true from fx) cX
 |int a =>
  obtain⟨t',rfl⟩:=ry;cases x with
  |non=>cases rx;exact Aa a t'
  |bl b=>cases rx;exact Ab a t' b
  |int b=>obtain⟨t,rfl⟩:=rx;exact Ac a t' b t
  |str b=>obtain⟨t,rfl⟩:=rx;exact sI a t' b t
  |_=>exact absurd (show false=true from fx) cX
 |str a =>
  obtain⟨t',rfl⟩:=ry;cases x with
  |non=>cases rx;exact Ad a t'
  |bl b=>cases rx;exact Ae a t' b
  |int b=>obtain⟨t,rfl⟩:=rx;exact sJ a t' b t
  |str b=>obtain⟨t,rfl⟩:=rx;exact Af a t' b t
  |_=>exact absurd (show false=true from fx) cX
 |_=>exact absurd (show false=true from fy) cX
def Ar(x:V)(u:aE):Bool:=match u with
 |.none=>GB .non x
 |.bool b=>GB (.bl b) x
 |.int i _=>GB (.int i) x
 |.str z _=>GB (.str z) x
 |_=>false
theorem b1X(r:RelV y u)(f:Hh y=true):Ar x u=GB y x:=by
 cases y with
 |non=>cases r;rfl
 |bl b=>cases r;rfl
 |int i=>obtain⟨t,rfl⟩:=r;rfl
 |str z=>obtain⟨t,rfl⟩:=r;rfl
 |_=>exact absurd (show false=true from f) cX
theorem Nd:∀{xs}{us},Vals xs us->xs.all Hh=true->us.any (Ar x)=xs.any λy=>GB y x
 |_,_,.nil,_=>rfl
 |y::xs,u::us,.cons r t,f=>by
  rw[uE,fQ] at f;rw[jM,jM,b1X r f.1,Nd t f.2]
theorem Nf(rx:RelV x v)(fx:Hh x=true):∀{xs}{us},Vals xs us->xs.all Hh=true->∀u∈us,uD A s u v (Ar x u)
 |_,_,.nil,_=>λu hu=>by cases hu
 |y::xs,u::us,.cons r t,f=>λu' hu=>by
  rw[uE,fQ] at f;rcases bH.mp hu with rfl|hu
  .rw[b1X r f.1];exact b7m r rx f.1 fx
  .exact Nf rx fx t f.2 u' hu
def Hi(x:V)(xs:List V):Bool:=xs.any λy=>GB y x
inductive Ih(K:aF)(neg:Bool)(x y:V)(H:Hp)(Q:VK):Prop|mk:∀p xs,y=.ref p->(ah K H p xs\/cq K H p xs)->Hh x=true->xs.all Hh=true->Q (.bl (if neg then !Hi x xs else Hi x xs)) H->Ih K neg x y H Q
theorem Qj:gw X (jk .In) (Ih X.K false):=by
 intro ip s σ H x y v u Q I rx ry h;obtain⟨p,xs,rfl,hq,fx,fs,q⟩:=h;cases ry;rcases hq with hq|hq
 .obtain⟨iq,r,pl,hz⟩:=I.list hq;refine uF (Ar x) pl.isList (λw hw=>Nf rx fx r fs w (by simp_all)) ⟨.bl _,H,I,cm,?_⟩;rw[(fg:iq.toArray.any (Ar x)=iq.any (Ar x)),Nd r fs];exact q
 .obtain⟨iq,r,pl,hz⟩:=I.tuple hq;refine SeqAt.in_tupleAt (Ar x) pl (λw hw=>Nf rx fx r fs w (by simp_all)) ⟨.bl _,H,I,cm,?_⟩;rw[(fg:iq.toArray.any (Ar x)=iq.any (Ar x)),Nd r fs];exact q
theorem a5H:gw X (jk .NotIn) (Ih X.K true):=by
 intro ip s σ H x y v u Q I rx ry h;obtain⟨p,xs,rfl,hq,fx,fs,q⟩:=h;cases ry;rcases hq with hq|hq
 .obtain⟨iq,r,pl,hz⟩:=I.list hq;refine SeqAt.notIn_listAt (Ar x) pl.isList (λw hw=>Nf rx fx r fs w (by simp_all)) ⟨.bl _,H,I,cm,?_⟩;rw[(fg:iq.toArray.any (Ar x)=iq.any (Ar x)),Nd r fs];exact q
 .obtain⟨iq,r,pl,hz⟩:=I.tuple hq;refine SeqAt.notIn_tupleAt (Ar x) pl (λw hw=>Nf rx fx r fs w (by simp_all)) ⟨.bl _,H,I,cm,?_⟩;rw[(fg:iq.toArray.any (Ar x)=iq.any (Ar x)),Nd r fs];exact q
theorem j6:K6 X (.builtin "len") (λxs H Q=>s_ λp ys=>xs=[.ref p]/\(ah X.K H p ys\/cq X.K H p ys)/\Q (.int (gu ys)) H):=by
 intro ip s σ H xs us Q I r h;obtain⟨p,ys,rfl,hq,q⟩:=h;obtain⟨u,rfl,rx⟩:=U1 r;cases rx;have hn:=JH;rcases hq with hq|hq
 .obtain⟨iq,r',pl,hz⟩:=I.list hq;have hlen:=r'.length;exact Calls.call_len_list pl.isList (by simp only[bY]<;>lia) ⟨.int (gu ys),H,I.tok _,⟨s.toks+1,by rw[bY,hlen]⟩,q⟩
 .obtain⟨iq,r',pl,hz⟩:=I.tuple hq;have hlen:=r'.length;exact len_tuple pl (by simp only[bY]<;>lia) ⟨.int (gu ys),H,I.tok _,⟨s.toks+1,by rw[bY,hlen]⟩,q⟩
theorem Q8:K6 X (.builtin "len") (λxs H Q=>∃z,xs=[.str z]/\z.length<=jb/\Q (.int z.length) H):=by
 intro ip s σ H xs us Q I r h;obtain⟨z,rfl,hz,q⟩:=h;obtain⟨u,rfl,t,rfl⟩:=U1 r;have hn:=JH;exact len_str (by lia) ⟨.int z.length,H,I.tok _,⟨_,cm⟩,q⟩
theorem C5:K6 X (.type "list") (λxs H Q=>s_ λp ys=>xs=[.ref p]/\(ah X.K H p ys\/cq X.K H p ys)/\∀l,H l=fO->Q (.ref l) (upd H l (.lst ys))):=by
 intro ip s σ H xs us Q I r h;obtain⟨p,ys,rfl,hq,q⟩:=h;obtain⟨u,rfl,rx⟩:=U1 r;cases rx;have fin:∀iq,Vals ys iq->gu ys<=jb->∀h' c',(∀b o',s.heap.get? b=fo o'->h'.get? b=fo o') →
   h'.get? s.heap.objs.size=fo {cls:=.type "list",dict:=fO,data:=.seq iq.toArray c',slots:=#[]}->EP X ip σ Q (.ref s.heap.objs.size) {s with heap:=h'}:=λiq r' hz h' c' kp e =>
  ⟨.ref s.heap.objs.size,_,I.laid kp (aT _) (show dh _ h' _ (.lst ys) from⟨hz,iq,c',r',e⟩),cm,q _ (I.ck.fresh (aT _))⟩
 rcases hq with hq|hq
 .obtain⟨iq,r',pl,hz⟩:=I.list hq;have hlen:=r'.length;obtain⟨o,ho,hc,n,hd⟩:=pl.isList;exact uG p (.inl rfl) ho hc hd (λh' c' kp e=>fin iq r' hz h' c' kp e) (by simp_all)
 .obtain⟨iq,r',pl,hz⟩:=I.tuple hq;have hlen:=r'.length;obtain⟨o,ho,hc,n,hd⟩:=pl;exact uG p (.inr rfl) ho hc hd (λh' c' kp e=>fin iq r' hz h' c' kp e) (by simp_all)
theorem E7:K6 X (.type "tuple") (λxs H Q=>s_ λp ys=>xs=[.ref p]/\((ah X.K H p ys/\∀l,H l=fO->Q (.ref l) (upd H l (.tup ys)))\/(cq X.K H p ys/\Q (.ref p) H))):=by
 intro ip s σ H xs us Q I r h;obtain⟨p,ys,rfl,h⟩:=h;obtain⟨u,rfl,rx⟩:=U1 r;cases rx;rcases h with⟨hq,q⟩|⟨hq,q⟩
 .obtain⟨iq,r',pl,hz⟩:=I.list hq;have hlen:=r'.length;refine call_tuple_list pl.isList (λh' kp=>?_) (by simp_all);have I1:=I.kept (t':=s.toks) kp;have I2:=
   I1.laid (t':=s.toks) (λb o e=>bL _ e) (aT _) (show dh _ _ _ (.tup ys) from⟨hz,iq,r',nD _ _⟩)
  exact⟨.ref h'.objs.size,_,I2,cm,q _ (I1.ck.fresh (aT _))⟩
 .obtain⟨iq,r',pl,hz⟩:=I.tuple hq;exact call_tuple_same pl ⟨.ref p,H,I,cm,q⟩
def TZ(K:aF)(T:String)(x:V)(H:Hp):Prop:=match x with
 |.str _=>T="str"
 |.int _=>T="int"
 |.ref p=>(T="list"/\∃xs,ah K H p xs)\/(T="tuple"/\∃o,K.lookup p=fo o/\o.cls=.type "tuple"/\o.dict=fO)
 |_=>False
theorem b1u{σ:St}(I:Inv X ip σ H s)(r:RelV x v)(ty:TZ X.K T x H) :
  s.TypeIs v T/\∀a,v=.ref a->∃ob,s.heap.get? a=fo ob/\ob.dict=fO:=by
 cases x with
 |str z =>
  obtain⟨t,rfl⟩:=r;cases (show T="str" from ty);exact⟨typeIs_str s z t,λ_ e=>nomatch e⟩
 |int i =>
  obtain⟨t,rfl⟩:=r;cases (show T="int" from ty);exact⟨typeIs_int s i t,λ_ e=>nomatch e⟩
 |ref p =>
  cases r;rcases ty with⟨rfl,xs,hq⟩|⟨rfl,o,hk,hc,hd⟩
  .obtain⟨iq,_,pl,_⟩:=I.list hq;refine⟨pl.isList.typeIs,λa e=>?_⟩;cases e;obtain⟨o,n,e,c,hd,_⟩:=pl;exact⟨o,e,hd⟩
  .refine⟨⟨o,I.ix p o hk,hc⟩,λa e=>?_⟩;cases e;exact⟨o,I.ix _ o hk,hd⟩
 |_=>exact eD ty
def c0N(K:aF)(T:String)(r:V->List V->Hp->VK->Prop)(to:TE):TE:=λσ H Q=>to σ H λx H1=>TZ K T x H1/\r x [] H1 Q
def Qk(K:aF)(T:String)(r:V->List V->Hp->VK->Prop)(to:TE)(t:TA):TE:=λσ H Q=>to σ H λx H1=>TZ K T x H1/\t σ H1 λxs H2=>r x xs H2 Q
variable{o e:aR}{es:List aR}{to:TE}{t:TA}{name:aC}{apos iz:Pos}{T id:String}{r:V->List V->Hp->VK->Prop}
theorem b7P(pa:qS T)(slot:Slot T name id)(Ng:typeOf (.builtin id)=pure (.type "method_descriptor"))(hm:Qi X id r)(ho:PE X o to)
  (yd:kF o name X.env (eval o X.env)=eval o X.env:=by rfl) (ye:(apos.endLine==iz.line)=true:=by rfl):PE X (.Call (.Attribute o name apos) [] [] iz) (c0N X.K T r to):=by
 intro ip s σ H Q I h;refine wpAny_Call_method0_late yd ye (D7 (ho ip s σ H _ I h) λv s1 ⟨x,H1,I1,r1,ty,q1⟩=>?_);obtain⟨h1,h2⟩:=b1u I1 r1 ty;exact⟨T,id,pa,slot,Ng,h1,h2,uH rfl (PySem.evalArgs_none (hm ip s1 σ H1 x [] v [] Q I1 r1 .nil q1))⟩
theorem K7(pa:qS T)(slot:Slot T name id)(Ng:typeOf (.builtin id)=pure (.type "method_descriptor"))(hm:Qi X id r)(ho:PE X o to)(ha:PA X (e::es) t)
    (yd:kF o name X.env (eval o X.env)=eval o X.env:=by rfl)
    (JL:((jv iz (jh (e::es) X.env)).all (λx=>!x.1)&&(og iz (mi [] X.env)).all (λx=>x.1.isSome)
     &&decide (gu (e::es)+gu ([]:List lX)+(if ([]:List lX).isEmpty then 0 else 1)<30))=true:=by rfl)
    (ye:(apos.endLine==iz.line)=true:=by rfl) (hs:jh (e::es) X.env=(false,eval e X.env)::jh es X.env:=by rfl) (As:(jv iz (jh es X.env)).any (·.1)=false:=by rfl) :
    PE X (.Call (.Attribute o name apos) (e::es) [] iz) (Qk X.K T r to t):=by
  intro ip s σ H Q I h;refine wpAny_Call_method_late yd JL ye rfl (D7 (ho ip s σ H _ I h) λv s1 ⟨x,H1,I1,r1,ty,q1⟩=>?_);obtain⟨h1,h2⟩:=b1u I1 r1 ty;refine⟨T,id,pa,slot,Ng,h1,h2,?_⟩;have hA:=ha iz ip s1 σ H1 _ I1 q1;rw[hs] at hA⊢;exact uH (by show(false||(jv iz (jh es X.env)).any (·.1))=false;rw[As]<;>rfl) (uI (D7 hA λus s2 ⟨vs,H2,I2,r2,q2⟩=>hm ip s2 σ H2 x vs v us Q I2 r1 r2 q2))
/- xs.append(e),list.index on a module's tuple .. are Qi facts of 06m -/
end
def Lz(X:Cx)(id:String)(r:V->List V->Hp->VK->Prop):Prop :=
 ∀ip s(σ:St)H x xs v us Q,Inv X ip σ H s->RelV x v->Vals xs us->r x xs H Q →
  iZ (jf X.prog X.w) X.A (call (.builtin id) (v::us)) (EP X ip σ Q) X.xe s
theorem Vals.one:∀{x}{us},Vals [x] us->∃u,us=[u]/\RelV x u
 |_,_,.cons r .nil=>⟨_,cm,r⟩
theorem Vals.zero:∀{us},Vals [] us->us=[]
 |_,.nil=>rfl
theorem Vals.dropLast(h:Vals xs us):Vals xs.dropLast us.dropLast:=by
 induction h with
 |nil=>exact .nil
 |cons r t ih =>
  cases t with
  |nil=>exact .nil
  |cons q t'=>exact .cons r ih
theorem Vals.rep(h:Vals xs us):∀k,Vals (aQ k xs).flatten (aQ k us).flatten
 |0=>.nil
 |k+1=>by
  rw[eZ,eZ,gE,gE];exact Vals.append h (Vals.rep h k)
def a7X{α:Type}(l:List α):l.eraseIdx (gu l-1)=l.dropLast:=fg
theorem Ql(iq:List aE):∀k acc,
  jN (λx1 x2=>x1++x2) acc.toArray (aQ k iq.toArray)=(acc++(aQ k iq).flatten).toArray
 |0,acc=>fg
 |k+1,acc=>by
  have e:acc.toArray++iq.toArray=(acc++iq).toArray:=fg;have e2:(acc++iq)++(aQ k iq).flatten=acc++(aQ (k+1) iq).flatten:=by
   rw[eZ,gE,dC]
  rw[<-e2,<-Ql iq k (acc++iq),<-e,eZ,List.foldl_cons]
section
variable{X:Cx}{ip:List (aA×Obj)}{σ:St}{H:Hp}{s:aG}{l b:aA}{xs ys zs:List V}
theorem Inv.JM{iq:List aE}(I:Inv X ip σ H s)(hH:H l=fo (.lst xs))
  (e:s.heap.get? l=fo {cls:=.type "list",data:=.seq iq.toArray n}) (hf:f iq.toArray=tu.toArray) (hv:Vals ys tu) (hz:gu ys<=jb) :
  Inv X ip σ (upd H l (.lst ys)) {s with heap:=s.heap.update l (gT f),toks:=t'}:=by
 have q:=Ag e f;rw[hf] at q;exact I.write (hH▸trivial) (.inl rfl) (λb' u hb hu=>(uB s.heap (gT f) (bV hb)).trans hu) ⟨_,q⟩ ⟨hz,tu,_,hv,q⟩
def Inv.JN(I:Inv X ip σ H s)(hv:Vals ys iq)(hz:gu ys<=jb) :
  Inv X ip σ (upd H s.heap.objs.size (.lst ys)) {s with heap:=s.heap.push {cls:=.type "list",data:=.seq iq.toArray},toks:=t'} :=
 I.laid (λ_ _ q=>bL _ q) (aT _) ⟨hz,iq,0,hv,dG _ rfl⟩
def Inv.fresh(I:Inv X ip σ H s):H s.heap.objs.size=fO:=I.ck.fresh (aT _)
theorem Inv.Cz(I:Inv X ip σ H s)(hH:H l=fo (.lst xs)):gu xs<=jb/\s_ λiq n=>Vals xs iq/\gu xs=gu iq/\s.heap.get? l=fo {cls:=.type "list",data:=.seq iq.toArray n}:=by
 obtain⟨z,iq,n,r,e⟩:=I.ck l _ hH;exact⟨z,iq,n,r,r.length,e⟩
theorem b1T(h:n<=jb):qV n=false:=by
 unfold qV;exact qU dj
end
inductive b5r(x:V)(vs:List V)(H:Hp)(Q:VK):Prop|mk:∀l xs y,x=.ref l->vs=[y]->H l=fo (.lst xs)->gu xs<jb->Q .non (upd H l (.lst (xs++[y])))->b5r x vs H Q
theorem P2:Lz X "list.append" b5r:=by
 intro ip s σ H x vs v us Q I rx rv h;obtain⟨l,xs,y,rfl,rfl,hH,hz,q⟩:=h;cases rx;obtain⟨u,rfl,ru⟩:=rv.one;obtain⟨z,iq,n,r,hl,e⟩:=I.Cz hH;refine gF F.slot_list_append ⟨_,e,cm⟩ F.entry_list_append (F.args_list_append_2 _ _) (PySem.list_append l iq.toArray n u (by simp_all)) ⟨e,.non,_,I.JM hH e fg (r.append (.cons ru .nil)) ?_,cm,q⟩;rw[aX,fR];lia
inductive c0W(x:V)(vs:List V)(H:Hp)(Q:VK):Prop|mk:∀l xs y,x=.ref l->vs=[]->H l=fo (.lst xs)->xs[gu xs-1]?=fo y->Q y (upd H l (.lst xs.dropLast))->c0W x vs H Q
theorem b7F:Lz X "list.pop" c0W:=by
 intro ip s σ H x vs v us Q I rx rv h;obtain⟨l,xs,y,rfl,rfl,hH,hy,q⟩:=h;cases rx;have hus:=rv.zero;subst hus;obtain⟨z,iq,n,r,hl,e⟩:=I.Cz hH;obtain⟨u,hu,ru⟩:=r.get hy;have T_:iq.toArray[iq.toArray.size-1]?=fo u:=by
  show iq.toArray[gu iq-1]?=fo u;rw[<-qW,<-hl];exact hu
 refine gF uJ ⟨_,e,cm⟩ uK (F.args_list_pop_1 _) (MeetsSeq.list_pop_last l iq.toArray n u T_ (by simp_all)) ⟨e,y,_,I.JM hH e ?_ r.dropLast ?_,ru,q⟩
 .show iq.toArray.eraseIdxIfInBounds (iq.toArray.size-1)=iq.dropLast.toArray;rw[bY,uL,a7X]
 .rw[List.length_dropLast];lia
inductive c1q(x y:V)(H:Hp)(Q:VK):Prop|mk:∀l b xs zs,x=.ref l->y=.ref b->H l=fo (.lst xs)->H b=fo (.lst zs)->gu xs+gu zs<=jb->(∀p,H p=fO->Q (.ref p) (upd H p (.lst (xs++zs))))->c1q x y H Q
theorem B9:gw X (jA .Add) c1q:=by
 intro ip s σ H x y v u Q I rx ry h;obtain⟨l,b,xs,zs,rfl,rfl,hH,hB,hz,q⟩:=h;cases rx;cases ry;obtain⟨z,iq,n,r,hl,e⟩:=I.Cz hH;obtain⟨z2,Cy,n2,r2,j_,e2⟩:=I.Cz hB;refine PySem.P.add_list e e2 ?_ (by simp_all);have ea:iq.toArray++Cy.toArray=(iq++Cy).toArray:=fg;rw[ea];exact⟨.ref _,_,I.JN (r.append r2) (by simp_all),cm,q _ I.fresh⟩
def c0Y:R2:=λx y H Q=>tq λl k xs=>x=.ref l/\y=.int k/\H l=fo (.lst xs)/\-(2^63)<=k/\k<2^63/\gu xs*k.toNat<=jb/\
 ∀p,H p=fO->Q (.ref p) (upd H p (.lst (aQ k.toNat xs).flatten))
def Ua{α:Type}(xs:List α)k:(aQ k xs).flatten.length=k*gu xs:=fg
theorem Q6:gw X (jA .Mult) c0Y:=by
 intro ip s σ H x y v u Q I rx ry h;obtain⟨l,k,xs,rfl,rfl,hH,h1,h2,hz,q⟩:=h;cases rx;obtain⟨t,rfl⟩:=ry;obtain⟨z,iq,n,r,hl,e⟩:=I.Cz hH;have hlen:iq.toArray.size*k.toNat<=jb:=by rw[bY,<-hl];exact hz
 have Ub:¬iq.toArray.size*k.toNat>(2^63-1)/8:=by
  have:(jb:Nat)<=(2^63-1)/8:=dz;lia
 have Uc:¬(!Builtin.List.listFitsIndex k)=true:=by
  rw[uM h1 h2];exact cX
 have Nh:¬qV (iq.toArray.size*k.toNat)=true:=by
  rw[b1T hlen];exact cX
 have Ud:jN (λx1 x2=>x1++x2) #[] (aQ (if iq.toArray.isEmpty=true then 0 else k.toNat) iq.toArray)=(aQ k.toNat iq).flatten.toArray:=by
  have f0:=λm=>by
   have:=Ql iq m [];rw[gG] at this;exact this
  rw[f0];cases iq with
  |nil=>simp
  |cons a r'=>rw[qf fg]
 refine uN dz ⟨_,e,cm⟩ (λs'=>nX s' k t) noFill_list_mul uO nY repeat_list uP.lookup
  (gF nY (nX s k t) uQ (uR _ _) (int___rmul___int_list k t l iq.toArray n)
   ⟨e,cm,⟨_,e,cm⟩,gF F.slot_list_mul ⟨_,e,cm⟩ F.entry_list_mul (F.args_list_mul_2 _ _) (Ah l iq.toArray n k t Uc Ub Nh) ⟨e,?_⟩⟩)
 rw[Ud];exact⟨.ref _,_,I.JN (r.rep k.toNat) (by rw[Ua,qX];exact hz),cm,q _ I.fresh⟩
end L2
namespace Att
open PySem PySem.W PySem.Calls PyProof.Rows
theorem a0q:∀ns vs,WellAll P h vs (ns.map Fk)->Do vs ns:=by
 intro ns;induction ns with
 |nil =>
  intro vs w;rw[jY] at w;cases w;exact .nil
 |cons n ns ih =>
  intro vs w;rw[cS] at w;cases w with
  |cons a b =>
   cases a;exact .cons _ _ (ih _ b)
theorem c6W{l:Ev}(hn:l.most=fo n)
  (zE:l.row.toRowW.claim.pre args=true) (XZ:WellAll P h vals args) :
  tq λa vs ns=>vals=[cZ a]/\args=[WData.list (ns.map Fk)]/\h.get? a=fo {cls:=.type "list",data:=.seq vs.toArray}/\Do vs ns/\gu ns<=n:=by
 have hc:l.pre.holds [] {args:=args}=true:=(pre_splitW zE).2;obtain⟨d,r,rfl,h1,h2⟩:=hasAllW_cons ((pre_splitW zE).1);obtain rfl:=hasAllW_nil h2;obtain⟨xs,rfl,h3⟩:=hasW_list h1;obtain⟨ns,rfl⟩:=items_int h3;have hlen:gu ns<=n:=by
  unfold OpenLaw.pre at hc;have h4:(WTm.not (.lt (.lit (.int (n:Int))) (.len (.arg 0)))).holds [] {args:=[.list (ns.map .int)]}=true:=by
   have h4:=(holds_andW hc).1;rw[hn] at h4;exact h4
  have h5:=condW_of h4 (w_not (w_lt w_lit (w_len_list (w_arg rfl))));rw[aH] at h5;refine uV λq=>?_;have q':(n:Int)<((gu ns:Nat):Int):=eX
  first
   |(rw[qk q'] at h5;exact absurd h5 dz)
   |(simp at h5;lia)
 cases XZ with
 |cons w1 w2 =>
  cases w2;cases w1 with
  |list ho R5=>exact⟨_,_,ns,cm,cm,ho,a0q ns _ R5,hlen⟩
theorem c6V(l:Ev)args:l.row.toRowW.claim.post args (.bool true) args=true :=
 postW_of
  (show Go [] (.bool true) .bool=true by first|rfl|decide|simp[WShape.arms])
  (show(WTm.eq .res (.lit (.bool true))).value [] {args:=args,res:=fo (.bool true),after:=args}=fo (.bool (true==true)) from w_eq_bool (w_res rfl) w_lit) rfl
theorem aan{l:Ev}
  (hn:l.most=fo n) (DM:d.params.defaults=[])
  (call:∀w s₀ vy mg mb fa o pm cd doc a vs ns,
   Ground q loose [] Ii w s₀ mg mb vy.heap->Df w vy.heap →
   vy.heap.get? fa=fo o->o.data=.func (docDef d.name d.params d.body d.scope pm cd doc)->vy.heap.CodeRec cd d.name->mg d.name=fo (.ref fa) →
   vy.heap.get? a=fo {cls:=.type "list",data:=.seq vs.toArray}->Do vs ns->gu ns<=n->vy.gens=#[] →
   md (jf l.prog w) pL (.call (.ref fa) ⟨[.ref a],[]⟩) (λr s'=>r=.ok (.ret (.bool true))/\OldK vy.heap s'.heap/\s'.os=vy.os/\jC s'.gens) vy) :
  WalkO q loose Ii Df l.row.toRowW d [] (λf vs=>Fa f vs):=by
 intro w s₀ vy mg mb G Y fa o pm cd doc dV kV ho hd xo hD DN hg args vals as zE hlay hrd XZ hlo;obtain rfl:dV=.none:=Dflts.none hD DM;obtain rfl:kV=.none:=Dflts.noKw hD;obtain⟨a,vs,ns,rfl,rfl,Bp,hints,hlen⟩:=c6W hn zE XZ;refine enter_call (nR (call w s₀ vy mg mb fa o pm cd doc a vs ns G Y ho (fd_plain hd) xo DN Bp hints hlen hg) λr s' hq=>?_);obtain⟨rfl,h2,h3,h4⟩:=hq;exact⟨.inl ⟨.bool true,.bool true,[],cm,λ_=>rfl,.bool true,c6V l _,λ_=>⟨List.Pairwise.nil,λ_ hm=>(nomatch hm)⟩⟩,h2,h3,h4⟩
end Att
namespace L2
open PySem PySem.Spec PyProof.Rows
theorem a1D:∀{vs}{ns},Do vs ns->Vals (ns.map V.int) vs
 |_,_,.nil=>.nil
 |_,_,.cons n t h=>.cons ⟨t,cm⟩ (a1D h)
def T5(s:aO)(j:Nat):aO:=match s with
 |.ClassDef _ _ _ body _ _ _ _ _ _ _=>body.getD j (.Pass ⟨0,0,0,0⟩)
 |_=>.Pass ⟨0,0,0,0⟩
def Q4(s:aO):kO:=match s with
 |.FunctionDef _ a _ _ _ _ _ _ _ _=>a
 |_=>{posonlyargs:=[],args:=[],vararg:=fO,kwonlyargs:=[],kw_defaults:=[],kwarg:=fO,defaults:=[]}
def x9(s:aO):List aO:=match s with
 |.FunctionDef _ _ b _ _ _ _ _ _ _=>b
 |_=>[]
def i9(s:aO):cQ:=match s with
 |.FunctionDef _ _ _ _ _ _ sc _ _ _=>sc
 |_=>{kind:=.function,names:=[],isGenerator:=false,isCoroutine:=false}
abbrev J8:ze:=λ_ _ _ _ _ _=>False
abbrev E0:XK:=λ_ _ _=>False
def v6:Z8 J8 X E0:=λ_ _ _ _ _ _ _ h=>h.elim
structure df(K:aF)(x qual:aC)(st:aO)(f:aA)(fd:aK):Prop where
 ex:yM λ(oc:aE)(od:Option aA)(kV doc pm:aE)(an:Option aA)=>tq λ(ay ct:aE)(yc:Array (Option aE))=>
  fd=iE x qual (Q4 st) (x9 st) (i9 st) .none kV doc pm an ay ct/\K.lookup f=fo ⟨oc,od,.func fd,yc⟩/\lZ K ay qual=true
 kp:dX K (.ref f)=true
abbrev Ay(K)(x):=df K x x
section
variable{P:aM}{w:aL}{K:aF}{mg:aC->Option aE}{base:aJ}
theorem df.ok{st}(F:df K x qual st f fd)(S:p7 N ps (i9 st))(len:∀vs H Q E,sp vs H Q E->gu vs=gu ps)
  (fz:∀ay A outer s H vs Q E,b_ k (A.deeper (dQ qual (i9 st) s.heap.objs.size f ay))->sp vs H Q E →
   ∃t,fu (N8 J8 P w K mg base N qual (i9 st) f ay A outer s H E).oi (x9 st) t/\t {nx:=λ_ H'=>Q .non H',rt:=Q} (V6 N vs) H):bf P w K mg base J8 (k+1) f fd ps sp:=by
 obtain⟨oc,od,kV,doc,pm,an,ay,ct,yc,rfl,lk,xo⟩:=F.ex;refine TU lk xo S len λA outer s H vs Q E hr iu=>?_;obtain⟨t,h,q⟩:=fz ay A outer s H vs Q E hr iu;exact⟨t,h.oi,q⟩
def df.oa{st}(F:df K x qual st f fd)(S:p7 N ps (i9 st))(fz:∀ay A outer s H vs Q E,b_ k (A.deeper (dQ qual (i9 st) s.heap.objs.size f ay))->sp vs H Q E →
   ∃t,fu (N8 J8 P w K mg base N qual (i9 st) f ay A outer s H E).oi (x9 st) t/\t {nx:=λ_ H'=>Q .non H',rt:=Q} (V6 N vs) H)(len:∀vs H Q E,sp vs H Q E->gu vs=gu ps:=by rintro _ _ _ _ ⟨⟩;subst_vars;rfl):bf P w K mg base J8 (k+1) f fd ps sp:=F.ok S len fz
theorem df.binds{st}(F:df K x qual st f fd)
  (h:∀kV doc pm an ay ct us,gu us=gu ps->ma (iE x qual (Q4 st) (x9 st) (i9 st) .none kV doc pm an ay ct) ⟨us,[]⟩=pure (ps.zip us)):Binds K fd ps []:=by
 obtain⟨oc,od,kV,doc,pm,an,ay,ct,yc,rfl,lk,xo⟩:=F.ex;exact .all (h kV doc pm an ay ct)
def b2i{st}{kV}(l:K.lookup f=fo ⟨oc,od,.func (iE x qual (Q4 st) (x9 st) (i9 st) .none kV doc pm an ay ct),yc⟩)
  (c:lZ K ay qual=true) (k:dX K (.ref f)=true):df K x qual st f (iE x qual (Q4 st) (x9 st) (i9 st) .none kV doc pm an ay ct):=⟨⟨oc,od,kV,doc,pm,an,ay,ct,yc,cm,l,c⟩,k⟩
end
def t9(h:n<=1000):n<jb:=gU h dz
theorem pv{X}i{pos}(hN:X.N[i]?=fo x:=by rfl)(hv:Te X.env.scope x:=by first|exact aI rfl|exact fY (aI rfl)|exact fY (fY rfl))(hd:(x==("__debug__":aC))=false:=by decide)
  (xo:(x==("__classdict__":aC))=false:=by decide):PE X (.Name x pos) (JB i):=b6z hN hv hd xo
theorem M7{B:Prop}(h:B):if false=true then A else B:=by simp_all
theorem J3{B:Prop}(h:A):if true=true then A else B:=by simp_all
theorem y6{B:Prop}[Decidable c](h1:c->A)(h2:¬c->B):if c then A else B:=by simp_all
theorem b8R{B:Prop}[Decidable c](hc:c)(h:B):if (!decide c)=true then A else B:=by simp_all
def af(H H':Hp):Prop:=∀b o,H b=fo o->H' b=fo o
def af.refl H:af H H:=λ_ _ h=>h
def af.trans(a:af H H1)(b:af H1 H2):af H H2:=λc o h=>b c o (a c o h)
theorem af.free(e:af H H')(h:H' l=uS):H l=uS:=by
 cases q:H l with
 |none=>rfl
 |some o =>
  rw[e l o q] at h;cases h
theorem af.seq{K}(e:af H H')(h:ah K H a xs):ah K H' a xs:=by
 rcases h with(h|⟨o,h⟩)|h
 .exact .inl (.inl (e _ _ h))
 .exact .inl (.inr ⟨o,e _ _ h⟩)
 .exact .inr h
end L2
open L2.V renaming int->sh,str->su,ref->sy
namespace L2
open PySem PySem.Spec PyProof.Rows
def p_(env:Env):List (aC×NameKind)->List (aC×Addr)->List (aC×Addr)
 |[],cs=>cs
 |(n,k)::r,cs=>if k==.free then (match env.cells.lookup n with|some a=>p_ env r ((n,a)::cs)|none=>p_ env r cs) else p_ env r cs
theorem M5(h:∀n,(n,fC)∈scope.names->∃c,env.cells.lookup n=fo c):closureFor scope env=pure (p_ env scope.names []):=by
 simp only[closureFor];generalize ([]:List (aC×Addr))=cs;revert h;generalize scope.names=l;intro h;induction l generalizing cs with
 |nil=>rfl
 |cons x r ih =>
  obtain⟨n,k⟩:=x;have hr:=λn hn=>h n (bZ _ hn);by_cases hk:k=.free
  .subst hk;obtain⟨c,hc⟩:=h n cY;simp only[oA,p_,hc,beq_self_eq_true,if_true,cellOf];exact(ih ((n,c)::cs) hr)
  .have hb:(k==fC)=false:=by simp_all
   simp only[oA,p_,hb,uT,if_false];exact(ih cs hr)
theorem Ni:∀{l}{cs},(∀x c,cs.lookup x=fo c->env.cells.lookup x=fo c)->(p_ env l cs).lookup x=fo c->env.cells.lookup x=fo c
 |[],_,h,e=>h x c e
 | (n,k)::r,cs,h,e=>by
  unfold p_ at e;by_cases hk:(k==fC)=true
  .rw[qg hk] at e;cases q:env.cells.lookup n with
   |none=>rw[q] at e;exact Ni h e
   |some a =>
    rw[q] at e;refine Ni (λy d z=>?_) e;rw[eU] at z;cases hy:y==n with
    |true =>
     rw[hy] at z;have:y=n:=by simpa using hy
     subst this;rw[q];exact z
    |false=>rw[hy] at z;exact h y d z
  .rw[qf hk] at e;exact Ni h e
theorem Qm:∀{l}{cs},(x,c)∈p_ env l cs->(env.cells.lookup x=fo c/\(x,fC)∈l)\/(x,c)∈cs
 |[],_,e=>.inr e
 | (n,k)::r,cs,e=>by
  unfold p_ at e;by_cases hk:(k==fC)=true
  .rw[qg hk] at e;have i_:k=.free:=by simp_all
   cases q:env.cells.lookup n with
   |none =>
    rw[q] at e;exact(Qm e).imp (λz=>⟨z.1,bZ _ z.2⟩) id
   |some a =>
    rw[q] at e;rcases Qm e with z|z
    .exact .inl ⟨z.1,bZ _ z.2⟩
    .rcases bH.mp z with z|z
     .cases z;exact .inl ⟨q,by rw[i_];exact cY⟩
     .exact .inr z
  .rw[qf hk] at e;exact(Qm e).imp (λz=>⟨z.1,bZ _ z.2⟩) id
theorem B6:∀names n acc,js n names acc=js n names []++acc
 |[],_,_=>rfl
 |(x,k)::r,n,acc=>by
  unfold js;split
  .rw[B6 r (n+1) ((x,n)::acc),B6 r (n+1) [(x,n)],dC];rfl
  .exact B6 r n acc
theorem Q9:∀{names}{n},(x,c)∈js n names []->(x,iF)∈names
 |[],_,e=>by cases e
 |(y,k)::r,n,e=>by
  unfold js at e;by_cases hk:(k==iF)=true
  .rw[qg hk,B6] at e;have i_:k=.cell:=by simp_all
   rcases bJ.mp e with z|z
   .exact bZ _ (Q9 z)
   .rw[cJ] at z;cases z;rw[i_];exact cY
  .rw[qf hk] at e;exact bZ _ (Q9 e)
theorem Ue:∀{names}{n},(x,iF)∈names->∃c,(x,c)∈js n names []
 |(y,k)::r,n,e=>by
  unfold js;rcases bH.mp e with z|z
  .cases z;rw[qg (by rfl),B6];exact⟨n,eL _ cY⟩
  .split
   .rw[B6];obtain⟨c,hc⟩:=Ue z;exact⟨c,fW _ hc⟩
   .exact Ue z
theorem a3Z{α:Type}:∀{tj gi:List (aC×α)},(tj++gi).lookup x=match tj.lookup x with|some c=>fo c|none=>gi.lookup x
 |[],_=>rfl
 |(n,c)::r,gi=>by
  rw[fD,eU,eU];cases hx:x==n with
  |true=>rfl
  |false=>exact a3Z
theorem a1T{α:Type}{c:α}:∀{l:List (aC×α)},(x,c)∈l->∃c',l.lookup x=fo c'
 |(n,d)::r,h=>by
  rw[eU];cases hx:x==n with
  |true=>exact⟨d,cm⟩
  |false =>
   rcases bH.mp h with z|z
   .cases z;simp at hx
   .exact a1T z
theorem Qn:∀{l}{cs},(∃c,cs.lookup x=fo c)->∃c,(p_ env l cs).lookup x=fo c
 |[],_,h=>h
 | (n,k)::r,cs,h=>by
  unfold p_;split
  .split
   .refine Qn ?_;rw[eU];cases hy:x==n with
    |true=>exact⟨_,cm⟩
    |false=>exact h
   .exact Qn h
  .exact Qn h
theorem LA(hx:∃c,env.cells.lookup x=fo c):∀{l}{cs},(x,fC)∈l->∃c,(p_ env l cs).lookup x=fo c
 | (n,k)::r,cs,h=>by
  rcases bH.mp h with e|e
  .cases e;obtain⟨c,hc⟩:=hx;unfold p_;rw[qg (by rfl),hc];refine Qn ⟨c,?_⟩;simp[eU]
  .unfold p_;split
   .split
    .exact LA hx e
    .exact LA hx e
   .exact LA hx e
def Z7(env:Env)(scope:cQ)(C:aA):List (aC×Addr):=js (C+1) scope.names (p_ env scope.names [])
theorem N0(h:(Z7 env scope C).lookup x=fo c) :
  ((x,c)∈js (C+1) scope.names []/\(x,iF)∈scope.names)\/(env.cells.lookup x=fo c/\(x,fC)∈scope.names):=by
 have m:=mem_of_lookup h;unfold Z7 at m;rw[B6] at m;rcases bJ.mp m with z|z
 .exact .inl ⟨z,Q9 z⟩
 .rcases Qm z with y|y
  .exact .inr y
  .cases y
theorem a3j(hx:∃c,env.cells.lookup x=fo c)(hf:(x,fC)∈scope.names)(hn:(x,iF) ∉ scope.names):(Z7 env scope C).lookup x=env.cells.lookup x:=by
 obtain⟨c,hc⟩:=LA (cs:=[]) hx hf;have Jz:=Ni (λ_ _ z=>by simp at z) hc;unfold Z7;rw[B6,a3Z];cases q:(js (C+1) scope.names []).lookup x with
 |some d=>exact absurd (Q9 (mem_of_lookup q)) hn
 |none=>rw[Jz,<-hc]
def rq(X:Cx)(os:List aC)(fr:List Nat)(scope:cQ)(C:aA)(fp:List aA)(s₀:aG)(H₀:Hp):Cx :=
 {X with N:=os++fr.map λj=>X.N.getD j "",s₀:=s₀,H₀:=H₀,env:=compEnvC scope (Z7 X.env scope C) C X.env,outer:=X.stack,ex:=fp,fn:=λx=>scope.names.lookup x==fo .cell,pn:=[],xe:=λ_ _=>False}
def LB(fr:List Nat)(σ:St):St:=fr.map λj=>(σ[j]?).join
def c_(n:Nat)(fr:List Nat)(σ:St):St:=aQ n fO++LB fr σ
def Wk(Sd ir:St):Prop:=gu ir=gu Sd/\∀(i:Nat)v,Sd[i]?=fo (fo v)->ir[i]?=fo (fo v)
def BA(outer:cQ)(scope:cQ)(N:List aC)(fr:List Nat):Bool :=
 (scope.names.all λp=>(scope.names.lookup p.1==fo p.2)&&(p.2 != .free||outer.names.lookup p.1==fo .cell)) &&
 (fr.all λj=>decide (j<gu N)&&(outer.names.lookup (N.getD j "")==fo .cell)&&(scope.names.lookup (N.getD j "")==fo .free))
theorem O8:∀{l:List (aC×NameKind)},l.lookup x=fo k->(x,k)∈l
 |(n,j)::r,h=>by
  rw[eU] at h;cases hx:x==n with
  |true =>
   rw[hx] at h;have:x=n:=by simpa using hx
   subst this;cases h;exact cY
  |false=>rw[hx] at h;exact bZ _ (O8 h)
theorem W3{env:Env}:∀{names:List (aC×NameKind)},
  (names.map λ(n,k)=>if (k==fC&&env.scope.kind==.function&&env.kindOf n==fo .cell) then (n,iF) else (n,k)).lookup x=fo k →
  (x,k)∈names\/(x,fC)∈names
 |[],h=>by simp at h
 | (n,j)::r,h=>by
  rw[cS] at h;dsimp only at h;by_cases hc:(j==fC&&env.scope.kind==.function&&env.kindOf n==fo .cell)=true
  .rw[qg hc,eU] at h;have hj:j=.free:=by
    have:=(fQ _ _▸(fQ _ _▸hc).1).1;simpa using this
   cases hx:x==n with
   |true =>
    have:x=n:=by simpa using hx
    subst this;subst hj;exact .inr cY
   |false =>
    rw[hx] at h;exact(W3 h).imp (bZ _) (bZ _)
  .rw[qf hc,eU] at h;cases hx:x==n with
   |true =>
    rw[hx] at h;have:x=n:=by simpa using hx
    subst this;cases h;exact .inl cY
   |false =>
    rw[hx] at h;exact(W3 h).imp (bZ _) (bZ _)
section
variable{X:Cx}{os:List aC}{fr:List Nat}{scope:cQ}
theorem X0(h:BA X.env.scope scope X.N fr=true):∀p∈scope.names,scope.names.lookup p.1=fo p.2/\(p.2=.free->X.env.scope.names.lookup p.1=fo .cell):=λp hp=>by
 have q:=fE.mp (fQ _ _▸h).1 p hp;simp only[fQ,bne_iff_ne,qY,beq_iff_eq,ne_eq] at q;refine⟨q.1,λe=>?_⟩;rcases q.2 with z|z
 .exact absurd e z
 .exact z
theorem Ug(h:BA X.env.scope scope X.N fr=true)(ha:(x,a)∈scope.names)(hb:(x,b)∈scope.names):a=b:=by
 have h2:=(X0 h _ hb).1;rw[(X0 h _ ha).1] at h2;exact bD h2
theorem b6l(h:BA X.env.scope scope X.N fr=true):∀j∈fr,j<gu X.N/\X.env.scope.names.lookup (X.N.getD j "")=fo .cell/\scope.names.lookup (X.N.getD j "")=fo .free:=λj hj=>by
 have q:=fE.mp (fQ _ _▸h).2 j hj;simp only[fQ,beq_iff_eq,decide_eq_true_eq] at q;exact⟨q.1.1,q.1.2,q.2⟩
def JO{σ:St}(I:Inv X ip σ H s)(h:BA X.env.scope scope X.N fr=true):∀n,(n,fC)∈scope.names->∃c,X.env.cells.lookup n=fo c:=λn hn =>
 I.ok.has n (.inl ((X0 h _ hn).2 rfl))
theorem Inv.block{ip:List (aA×Obj)}{σ:St}{H:Hp}{s:aG}{fp:List aA}{tw:aJ}{t':Nat}(I:Inv X ip σ H s)(hk:scope.kind=.function)(h:BA X.env.scope scope X.N fr=true)
  (hf:∀b∈fp,xp X ip H b) (ho:∀b∈fp,∃o,s.heap.get? b=fo o) (EL:tw.Ns s.heap.objs.size λ_=>fO) (gq:∀b o,s.heap.get? b=fo o->tw.get? b=fo o)
  (xr:CellsOk tw (s.heap.objs.size+1) (js (s.heap.objs.size+1) scope.names [])) :
  Inv (rq X os fr scope s.heap.objs.size fp s H) [] (c_ (gu os) fr σ) H {s with heap:=tw,toks:=t'} where
 ok:={
  mod:=I.ok.mod
  kind:=hk
  glob:=I.ok.glob
  blt:=I.ok.blt
  above:=aT _
  inj:=λx y c e1 e2=>by
   have old:∀{z:aC},X.env.cells.lookup z=fo c->c<s.heap.objs.size:=λ{z}e=>by
    obtain⟨v,q⟩:=I.cell z c e;exact q.lt
   rcases N0 e1 with z1|z1<;>rcases N0 e2 with z2|z2
   .exact tL xr.apart z1.1 z2.1
   .exact absurd (bS (mJ (old z2.1)) (xr.empty _ _ z1.1).2) (dO _)
   .exact absurd (bS (mJ (old z1.1)) (xr.empty _ _ z2.1).2) (dO _)
   .exact I.ok.inj x y c z1.1 z2.1
  has:=λx hx=>by
   have hm:(x,iF)∈scope.names\/(x,fC)∈scope.names:=by
    rcases hx with e|e
    .exact W3 e
    .rcases W3 e with z|z
     .exact .inr z
     .exact .inr z
   rcases hm with z|z
   .obtain⟨c,hc⟩:=Ue z;refine a1T (c:=c) ?_;show(x,c)∈Z7 _ _ _;unfold Z7;rw[B6];exact fW _ hc
   .obtain⟨c,hc⟩:=JO I h x z;refine⟨c,?_⟩;show(Z7 _ _ _).lookup x=_;rw[a3j ⟨c,hc⟩ z λw=>by cases Ug h z w];exact hc
  Gs:=λx c hx e=>by
   have f':scope.names.lookup x=fo .cell:=by simpa using (show(scope.names.lookup x==fo .cell)=true from hx)
   rcases N0 e with z|z
   .exact gQ (uU (xr.empty _ _ z.1).2)
   .cases Ug h (O8 f') z.2
  hd:=I.ok.hd
  frames:=I.ok.frames
  GX:=.inl rfl
  GY:=λb hb=>by
   obtain⟨o,e⟩:=ho b hb;refine⟨Nat.ne_of_lt (bN e),λx c e1=>?_⟩;rcases N0 e1 with z|z
   .intro w;have:=(xr.empty _ _ z.1).2;rw[w] at this;exact absurd (bS (mJ (bN e)) this) (dO _)
   .exact(hf b hb).2.2.2.2.1 x c z.1
  bs:=I.bs
  xw:=bF I.ok.xw I.sz
  um:=λb o e hb=>by
   rcases(hf b hb).2.2.2.1 with z|z
   .exact I.ok.um b o e z
   .exact absurd (bS (bN e) (bF I.ok.xw z)) (dO _)
  uo:=λb hb hz=>by
   rcases bH.mp (I.rg b hz) with e|e
   .exact(hf b hb).2.1 e
   .exact(hf b hb).2.2.1 e
  gx:=I.stack
  Cj:=I.qm}
 os:=rfl
 bare:=I.bare
 base:=Un.kept gq
 loc:=by
  refine⟨_,EL,λi x v e1 e2 _=>?_⟩;have hi:gu os<=i:=by
   refine uV λfk=>?_;unfold c_ at e2;rw[dH (by simpa using fk)] at e2;rw[gD] at e2;split at e2<;>cases e2
  have EM:(fr.map λj=>X.N.getD j "")[i-gu os]?=fo x:=by
   rw[<-dU hi];exact e1
  have JP:(fr.map λj=>(σ[j]?).join)[i-gu os]?=fo (fo v):=by
   have z:(aQ (gu os) (fO:Option V)).length<=i:=by simpa using hi
   unfold c_ at e2;rw[dU z,bP] at e2;exact e2
  rw[aP] at EM JP;cases q:fr[i-gu os]? with
  |none=>rw[q] at EM;cases EM
  |some j =>
   rw[q] at EM JP;obtain⟨EN,wj,JQ⟩:=b6l h j (bK q);have ex:X.N.getD j ""=x:=bD EM;have ev:(σ[j]?).join=fo v:=bD JP;have hN:X.N[j]?=fo x:=by
    rw[<-ex,bA,aS EN];rfl
   have Uh:σ[j]?=fo (fo v):=by
    cases r:σ[j]? with
    |none=>rw[r] at ev;cases ev
    |some y=>rw[r] at ev;exact rd fo ev
   rw[ex] at wj JQ;obtain⟨m,_,hl⟩:=I.loc;obtain⟨u,r,lk⟩:=hl j x v hN Uh (.inr (.inl wj));refine⟨u,r,?_⟩;have kc:uW X.env x=fo .cell:=wj;rcases lk with⟨k1,_⟩|⟨_,c,ec,z⟩
   .rw[kc] at k1;cases k1
   .have LC:=O8 JQ;have ec':(Z7 X.env scope s.heap.objs.size).lookup x=fo c:=by
     rw[a3j ⟨c,ec⟩ LC λw=>by cases Ug h LC w];exact ec
    refine .inr ⟨?_,c,ec',?_⟩
    .have kk:∀{names:List (aC×NameKind)},names.lookup x=fo .free->(names.map λ(n,k)=>if (k==fC&&X.env.scope.kind==.function&&X.env.kindOf n==fo .cell) then (n,iF) else (n,k)).lookup x=fo .cell:=by
      intro names;induction names with
      |nil=>intro e;simp at e
      |cons p r ih =>
       obtain⟨n,k⟩:=p;intro e;rw[eU] at e;rw[cS];dsimp only;cases hx:x==n with
       |true =>
        rw[hx] at e;cases e;have hxn:x=n:=by simpa using hx
        subst hxn;rw[qg (by rw[I.ok.kind,kc];rfl),eU];simp
       |false =>
        rw[hx] at e;by_cases hc:(k==fC&&X.env.scope.kind==.function&&X.env.kindOf n==fo .cell)=true
        .rw[qg hc,eU,hx];exact ih e
        .rw[qf hc,eU,hx];exact ih e
     exact .inl (kk JQ)
    .obtain⟨o,mj,hd⟩:=z;exact⟨o,gq _ _ mj,hd⟩
 cell:=λx c e=>by
  rcases N0 e with z|z
  .exact⟨_,(xr.empty _ _ z.1).1⟩
  .obtain⟨v,o,mj,hd⟩:=I.cell x c z.1;exact⟨v,o,gq _ _ mj,hd⟩
 free:=I.ck.fresh (aT _)
 ee:=λx c e=>by
  rcases N0 e with z|z
  .exact I.ck.fresh (gQ (uU (xr.empty _ _ z.1).2))
  .exact I.ee x c z.1
 pin:=λp hp=>nomatch hp
 ck:=I.ck.kept gq
 len:=by simp[c_,LB,rq]
def Inv.unblock{σ au:St}(I:Inv X ip σ H s)(hf:∀b∈fp,xp X ip H b)(J:Inv (rq X os fr scope C fp s H) [] au H' s'):Inv X ip σ H' s' :=
 I.Bx J.os J.base J.ck J.bare λb hb=>⟨(hf b hb).2.2.2.1,(hf b hb).2.1,(hf b hb).2.2.2.2.1,(hf b hb).2.2.2.2.2⟩
theorem Inv.BB{σ:St}(Hj:Inv X ip σ₀ H₀ s₀)(I:Inv X ip σ H s)(hn:H C=fO)(hC:s₀.heap.objs.size<=C)(hs:kH C s.heap h'):Inv X ip σ H {s with heap:=h'} :=
 I.turned (λb o hb e=>(hs.2 b hb).trans e) hn (gR (bS Hj.lt hC)) (.inr (bF Hj.sz hC))
  (λx c e z=>by
   obtain⟨v,q⟩:=Hj.cell x c e;exact absurd (bS q.lt (z▸hC)) (dO _))
  λp hp z=>absurd (bS (bN (Hj.pin p hp).1) (z▸hC)) (dO _)
end
def Ui(X:Cx)(ifs:List aR)(t:TT):Prop :=
 ∀ip s(σ:St)H Q,Inv X ip σ H s->t σ H Q →
  iZ (jf X.prog X.w) X.A (forIn ifs true λc r=>if r=true then do let ok <- isTrue c X.env (eval c X.env);pure (oB ok) else pure (oB r)) (TP X ip σ Q) X.xe s
def Uj:TT:=λ_ H Q=>Q true H
def a6P:Ui X [] Uj:=λ_ _ _ H _ I h=>wpAny_tests_nil ⟨H,I,h⟩
def a7v(h:PT X c t):Ui X [c] t:=λip s σ H Q I q=>wpAny_tests_one (h ip s σ H Q I q)
theorem a5U
  (hQ:Q {scope,locals:=s.heap.objs.size,globals,cells:=js (s.heap.objs.size+1) scope.names closure,qual,func:=fO,code:=env.code,frame:=env.frame,builtins:=env.builtins} {s with heap:=pushCells (s.heap.push {cls:=.type "dict",data:=.dict #[]}) scope.names}) :
  iZ M A (oh scope globals closure [] qual fO .none (fo env)) Q E s:=by
 simp only[oh,Option.isSome_some,if_true];refine aN (wpAny_alloc (aN (wpAny_layCells _ (λname kind cells=>by cases hkc:kind==iF<;>simp[hkc]) _ _ _ _ ?_)));rw[show({s with heap:=s.heap.push {cls:=.type "dict",data:=.dict #[]}}:aG).heap.objs.size=s.heap.objs.size+1 from gS ..];exact aN (bG (bG hQ))
theorem a6e(I:Nat->aG->Prop)
  (turn:∀n s,I n s->iZ (jf prog w) A (mh it) (λr vy=>match r with
   |none=>R (.ok .next) vy
   |some v=>iZ (jf prog w) A (ml target it v) (λ_ s₀=>iZ (jf prog w) A (assign target env v) (λ_ vz =>
     iZ (jf prog w) A (forIn ifs true λc r=>if r=true then do let ok <- isTrue c env (eval c env);pure (oB ok) else pure (oB r)) (λok EO =>
      if ok=true then iZ (jf prog w) A (eval elt env) (λx Hk =>
       iZ (jf prog w) A (call (.builtin "list.append") [acc,x]) (λ_ Nj=>∃m,m<n/\I m Nj) (λ_ _=>False) Hk) (λ_ _=>False) EO
      else ∃m,m<n/\I m EO) (λ_ _=>False) vz) (λ_ _=>False) s₀) (λ_ _=>False) vy) (λ_ _=>False) s)
  n (h:I n s) :
  md (jf prog w) A (.compLoop (.ListComp elt [⟨target,iter,ifs,0⟩] scope pos) 0 it acc env) R s:=by
 refine codeAny_loop rfl I (λn s hI=>?_) n h;show iZ _ A ((compTurn (.ListComp elt [⟨target,iter,ifs,0⟩] scope pos) 0 it acc env).onRaise λx=>do noteFrame x env;theTreesLotGoes x) _ _ s;refine wpAny_noted ?_;rw[compTurn_list];refine aN (iQ (aN (eY (turn n s hI) (λr vy tw=>?_) λ_ _ h'=>h'.elim)));cases r with
 |none=>exact bG tw
 |some v =>
  refine aN (eY tw (λ_ s₀ h₀=>(aN (eY h₀ (λ_ vz JR=>aN (eY JR (λok EO Nk=>?_) λ_ _ h'=>h'.elim)) λ_ _ h'=>h'.elim))) λ_ _ h'=>h'.elim);cases ok with
  |false=>exact bG ⟨cm,Nk⟩
  |true =>
   exact aN (aN (eY Nk (λx Hk Uk=>aN (eY Uk (λ_ Nj Ul=>bG (bG ⟨cm,Ul⟩)) λ_ _ h'=>h'.elim)) λ_ _ h'=>h'.elim))
def IJ(n:Nat)(fr:List Nat)(g:TG)(te:TE)(σ:St)(J:It)(H1:Hp)(p:aA)(D:Hp->Prop):Prop :=
 ∃W:Nat->Nat->List V->Hp->Prop,(∃m,W 0 m [] (upd H1 p (.lst [])))/\∀i m ys H,W i m ys H →
  (J.stop i H/\D H)\/(J.go i H/\∀x H',J.By i H x H'->g x (c_ n fr σ) H' λir H2=>Wk (c_ n fr σ) ir/\te ir H2 λv H3=>H3 p=fo (.lst ys)/\gu ys<jb/\∃m',m'<m/\W (i+1) m' (ys++[v]) (upd H3 p (.lst (ys++[v]))))
def LD(n:Nat)(fr:List Nat)(wi:TI)(g:TG)(te:TE):TE:=λσ H Q=>wi σ H λJ H1=>∀p,H1 p=fO->IJ n fr g te σ J H1 p (Q (.ref p))
def LF(n:Nat)(fr:List Nat)(g:TG)(tc:TT)(te:TE)(σ:St)(J:It)(H1:Hp)(p:aA)(D:Hp->Prop):Prop :=
 ∃W:Nat->Nat->List V->Hp->Prop,(∃m,W 0 m [] (upd H1 p (.lst [])))/\∀i m ys H,W i m ys H →
  (J.stop i H/\D H)\/(J.go i H/\∀x H',J.By i H x H'->g x (c_ n fr σ) H' λir H2=>Wk (c_ n fr σ) ir/\tc ir H2 λok H2' =>
   if ok=true then te ir H2' λv H3=>H3 p=fo (.lst ys)/\gu ys<jb/\∃m',m'<m/\W (i+1) m' (ys++[v]) (upd H3 p (.lst (ys++[v]))) else ∃m',m'<m/\W (i+1) m' ys H2')
def b8W(n:Nat)(fr:List Nat)(wi:TI)(g:TG)(tc:TT)(te:TE):TE:=λσ H Q=>wi σ H λJ H1=>∀p,H1 p=fO->LF n fr g tc te σ J H1 p (Q (.ref p))
def a7a:LF n fr g Uj te σ J H1 p D=IJ n fr g te σ J H1 p D:=rfl
section
variable{X:Cx}{os:List aC}{fr:List Nat}{scope:cQ}{elt tg iter:aR}{pos:Pos}{wi:TI}{g:TG}{te:TE}
theorem Qo{D:aA->Hp->Prop}{RR:aE->aA->jH->aG->Prop}
  (hc:X.calm=true) (hg:∀C fp s₀ H₀,PG (rq X os fr scope C fp s₀ H₀) tg g) (ht:∀C fp s₀ H₀,Ui (rq X os fr scope C fp s₀ H₀) ifs tc) (he:∀C fp s₀ H₀,PE (rq X os fr scope C fp s₀ H₀) elt te)
  (hk:scope.kind=.function) (ck:BA X.env.scope scope X.N fr=true)
  (h2:PR X ip σ tg (λJ H1=>∀p,H1 p=fO->LF (gu os) fr g tc te σ J H1 p (D p)) Hc s2)
  (hRR:∀p C s3 H3 s' H',Inv X ip σ H3 s3->s3.heap.objs.size=C->H' C=fO->Inv X ip σ H' s'->(∃m,s'.heap.Ns C m)->D p H'->RR (.ref p) C (.ok .next) s') :
  iZ (jf X.prog X.w) X.A (newList []) (λacc EO=>iZ (jf X.prog X.w) X.A (oh scope X.env.globals (p_ X.env scope.names []) [] X.env.qual fO .none (fo X.env)) (λNl Hk =>
   md (jf X.prog X.w) X.A (.compStart (.ListComp elt [⟨tg,iter,ifs,0⟩] scope pos) 0 Hc acc {Nl with scope:=relabel scope X.env}) (RR acc Nl.locals) Hk) X.xe EO) X.xe s2:=by
 obtain⟨it,fp,tn,J,H2,e,I2,T,Gz,f2,hR⟩:=h2;subst e;refine lQ ?_;obtain⟨W,⟨m0,w0⟩,turn⟩:=hR s2.heap.objs.size I2.fresh;have I3:=I2.JN (t':=s2.toks) .nil (dM _);have ne2:∀b∈fp,b≠s2.heap.objs.size:=λb hb=>by
  obtain⟨o,e,_⟩:=(T.obj _ _ Gz) b hb;exact dB (bN e)
 have PX:tn 0 (s2.heap.push {cls:=.type "list",dict:=fO,data:=.seq ([]:List aE).toArray}):=T.keep _ _ _ Gz λb hb o e=>bL _ e;have f3:∀b∈fp,xp X ip (upd H2 s2.heap.objs.size (.lst [])) b:=λb hb=>⟨by rw[j3 (ne2 b hb)];exact(f2 b hb).1,(f2 b hb).2⟩;generalize hs3:({s2 with heap:=s2.heap.push {cls:=.type "list",dict:=fO,data:=.seq ([]:List aE).toArray}}:aG)=s3 at I3⊢;have Nm:tn 0 s3.heap:=by rw[<-hs3];exact PX
 generalize s2.heap.objs.size=p at *;refine a5U ?_;have EL:(pushCells (s3.heap.push {cls:=.type "dict",data:=.dict #[]}) scope.names).Ns s3.heap.objs.size λ_=>fO:=(Heap.Ns.new s3.heap (.type "dict")).keeps (uX _ _);have gq:∀b o,s3.heap.get? b=fo o->(pushCells (s3.heap.push {cls:=.type "dict",data:=.dict #[]}) scope.names).get? b=fo o:=λb o e=>uX _ _ b o (bL _ e);have xr:=cellsFrom_ok scope.names (s3.heap.push {cls:=.type "dict",data:=.dict #[]}) (s3.heap.objs.size+1) [] ⟨λ_ _ hm=>(nomatch hm),Ai⟩ fg;rw[gS] at xr;generalize pushCells (s3.heap.push {cls:=.type "dict",data:=.dict #[]}) scope.names=tw at EL gq xr⊢;have Uo:∀b∈fp,∃o,s3.heap.get? b=fo o:=λb hb=>by
  obtain⟨o,e,_⟩:=T.obj _ _ Nm b hb;exact⟨o,e⟩
 have J0:=I3.block (os:=os) (t':=s3.toks) hk ck f3 Uo EL gq xr;have Up:=J0.ok;have Uq:∀{H':Hp},(∀b∈fp,H' b=fO)->∀b∈fp,xp (rq X os fr scope s3.heap.objs.size fp s3 (upd H2 p (.lst []))) [] H' b:=λhn b hb =>
  ⟨hn b hb,(Up.GY b hb).1,Up.uo b hb,.inl hb,(Up.GY b hb).2,λq hq=>nomatch hq⟩
 have st4:=T.keep _ _ _ Nm λb hb o e=>gq b o e;have loop:∀s4,s4={s3 with heap:=tw,toks:=s3.toks} →
   md (jf X.prog X.w) X.A (.compLoop (.ListComp elt [⟨tg,iter,ifs,0⟩] scope pos) 0 (.ref it) (.ref p) (compEnvC scope (Z7 X.env scope s3.heap.objs.size) s3.heap.objs.size X.env)) (RR (.ref p) s3.heap.objs.size) s4:=by
  rintro s4 rfl;refine a6e (λn s'=>tq λi ys H'=>Inv (rq X os fr scope s3.heap.objs.size fp s3 (upd H2 p (.lst []))) [] (c_ (gu os) fr σ) H' s'/\tn i s'.heap/\(∀b∈fp,H' b=fO)/\W i n ys H') ?_ m0 ⟨0,[],_,J0,st4,(λb hb=>(f3 b hb).1),w0⟩;rintro n s5 ⟨i,ys,H5,I5,Ls,PY,w5⟩;rcases turn i n ys H5 w5 with⟨stop,qd⟩|⟨go,step⟩
  .refine D7 (T.done (rq X os fr scope s3.heap.objs.size fp s3 (upd H2 p (.lst []))) rfl rfl rfl hc i [] s5 _ H5 (λ_ _=>False) I5 (Uq PY) Ls stop) λr s6 ⟨hr,I6⟩=>?_;subst hr;exact hRR p _ s3 _ s6 H5 I3 rfl I6.free (I3.unblock f3 I6) (let ⟨m,hm,_⟩:=I6.loc;⟨m,hm⟩) qd
  .refine D7 (T.item (rq X os fr scope s3.heap.objs.size fp s3 (upd H2 p (.lst []))) rfl rfl rfl hc i [] s5 _ H5 (λ_ _=>False) I5 (Uq PY) Ls go) λr s6 ⟨u,hr,h6⟩=>?_;subst hr;refine D7 h6 λ_ s7 ⟨x,H7,I7,r7,y7,Ur,fr7⟩=>(D7 (hg _ _ _ _ _ s7 _ H7 x u _ (I7.pinned (Uq fr7) (T.obj _ _ Ur)) r7 (step x H7 y7)) λ_ s8 ⟨Nn,H8,I8,wk8,q8⟩=>?_);have again:∀{H'}{s'}{zs}{m'},Inv (rq X os fr scope s3.heap.objs.size fp s3 (upd H2 p (.lst []))) ([]++MY fp s7.heap) Nn H' s'->m'<n->W (i+1) m' zs H' →
     ∃m,m<n/\tq λi ys H'=>Inv (rq X os fr scope s3.heap.objs.size fp s3 (upd H2 p (.lst []))) [] (c_ (gu os) fr σ) H' s'/\tn i s'.heap/\(∀b∈fp,H' b=fO)/\W i m ys H':=λ{H' s' zs m'}J' Au w'=>by
    refine⟨m',Au,i+1,zs,H',(J'.weak wk8.1.symm λi v e=>wk8.2 i v e).ki,T.keep _ _ _ Ur λb hb o e=>(J'.pin (b,o) (eL _ (eL _ (PV hb e)))).1,λb hb=>?_,w'⟩;obtain⟨o,e,d⟩:=T.obj _ _ Ur b hb;exact(J'.pin (b,o) (eL _ (eL _ (PV hb e)))).2.1
   refine D7 (ht _ _ _ _ _ s8 Nn H8 _ I8 q8) λok s9 ⟨H9,I9,q9⟩=>?_;cases ok with
   |false =>
    obtain⟨m',Au,w9⟩:=q9;exact again I9 Au w9
   |true =>
    refine D7 (he _ _ _ _ _ s9 Nn H9 _ I9 q9) λy s10 ⟨v,JS,zO,r10,Us,Ut,m',Au,w10⟩=>(D7 (P2 _ s10 Nn JS (.ref p) [v] (.ref p) [y] (λ_ H'=>H'=upd JS p (.lst (ys++[v]))) zO rfl (.cons r10 .nil) ⟨p,ys,v,cm,cm,Us,Ut,cm⟩) λ_ s11 ⟨_,Qp,Np,_,IK⟩=>?_);subst IK;exact again Np Au w10
 exact codeAny_compStart_list (loop _ rfl) (T.self _ 0 _ _ _ st4 (loop _ rfl))
theorem N6 os fr(hc:X.calm=true)(hi:PI X tg iter wi)(hg:∀C fp s₀ H₀,PG (rq X os fr scope C fp s₀ H₀) tg g)(he:∀C fp s₀ H₀,PE (rq X os fr scope C fp s₀ H₀) elt te)
  (hk:scope.kind=.function:=by rfl) (ck:BA X.env.scope scope X.N fr=true:=by rfl) (hs:∀x,jz iter X.env x=pure x:=by intro _;rfl) :
  PE X (.ListComp elt [⟨tg,iter,[],0⟩] scope pos) (LD (gu os) fr wi g te):=by
 intro ip s σ H Q I h;unfold LD at h;rw[uY];refine oC rfl hs (M5 (JO I ck)) hk (λx hx hl=>by have:=(X0 ck x hx).1;rw[hl] at this;exact this) (D7 (hi ip s σ H _ I h) λv s1 h1=>D7 h1 λHc s2 h2=>(Qo hc hg (λ_ _ _ _=>a6P) he hk ck h2 ?_));intro p C s3 H3 s' H' I3 eC hn I' ⟨m,hm⟩ q;refine⟨m,hm,λh' dt=>⟨.ref p,H',I3.BB I' hn dj dt,cm,q⟩⟩
theorem Sf os fr(hc:X.calm=true)(hi:PI X tg iter wi)(hg:∀C fp s₀ H₀,PG (rq X os fr scope C fp s₀ H₀) tg g)(ht:∀C fp s₀ H₀,PT (rq X os fr scope C fp s₀ H₀) c tc)(he:∀C fp s₀ H₀,PE (rq X os fr scope C fp s₀ H₀) elt te)
  (hk:scope.kind=.function:=by rfl) (ck:BA X.env.scope scope X.N fr=true:=by rfl) (hs:∀x,jz iter X.env x=pure x:=by intro _;rfl) :
  PE X (.ListComp elt [⟨tg,iter,[c],0⟩] scope pos) (b8W (gu os) fr wi g tc te):=by
 intro ip s σ H Q I h;rw[uY];refine oC rfl hs (M5 (JO I ck)) hk (λx hx hl=>by have:=(X0 ck x hx).1;rw[hl] at this;exact this) (D7 (hi ip s σ H _ I h) λv s1 h1=>D7 h1 λHc s2 h2=>(Qo hc hg (λ_ _ _ _=>a7v (ht _ _ _ _)) he hk ck h2 ?_));intro p C s3 H3 s' H' I3 eC hn I' ⟨m,hm⟩ q;refine⟨m,hm,λh' dt=>⟨.ref p,H',I3.BB I' hn dj dt,cm,q⟩⟩
theorem CA{ER}os fr(hN:X.N.Nodup)(Ek:X.N[i]?=fo x)(hx:X.env.scope.names.lookup x=fo .local)
  (hc:X.calm=true) (hi:PI X tg iter wi) (hg:∀C fp s₀ H₀,PG (rq X os fr scope C fp s₀ H₀) tg g) (he:∀C fp s₀ H₀,PE (rq X os fr scope C fp s₀ H₀) elt te)
  (Uu:pS (.ListComp elt [⟨tg,iter,[],0⟩] scope pos) (fo (.Name x pos')) ER.line X.env=pure true:=by rfl)
  (hk:scope.kind=.function:=by rfl) (ck:BA X.env.scope scope X.N fr=true:=by rfl) (hs:∀x,jz iter X.env x=pure x:=by intro _;rfl) :
  PS X (.Assign [.Name x pos'] (.ListComp elt [⟨tg,iter,[],0⟩] scope pos) ER) (EE (LD (gu os) fr wi g te) (N7 i)):=by
 intro ip s σ H D I h;unfold EE LD at h;rw[uZ _ _ _ _ Uu];refine aN (iQ (aN ?_));refine aN (eY (oC rfl hs (M5 (JO I ck)) hk (λx hx hl=>by have:=(X0 ck x hx).1;rw[hl] at this;exact this)
  (D7 (hi ip s σ H _ I h) λv s1 h1=>D7 h1 λHc s2 h2=>?_)) (λ_ s' hq=>bG (bG hq)) λ_ _ e=>e)
 refine Qo hc hg (λ_ _ _ _=>a6P) he hk ck h2 ?_;intro p C s3 H3 s' H' I3 eC hn I' ⟨m,hm⟩ q;refine qC (Tp (v:=.ref p) I' hN Ek (.inl hx) rfl (λNb Uv ⟨a,Uw,ha⟩=>?_) (.inr hx));have Ux:C≠a:=by
  rcases ha with e|e
  .rw[e];exact gR (eC▸I3.lt)
  .obtain⟨v,z⟩:=I3.cell x a e;exact gR (eC▸z.lt)
 exact⟨m,hm.sameBut Uw Ux,λh' dt=>⟨_,H',I3.BB Uv hn dj dt,q⟩⟩
end
abbrev JT(K:aF)(H:Hp)(a:aA)(xs:List V):Prop:=ah K H a xs\/cq K H a xs
theorem Nq{h':aJ}{h:aJ}(hk:∀b x,b ∉ [h.objs.size]->(h.push o).get? b=fo x->h'.get? b=fo x):∀b x,h.get? b=fo x->h'.get? b=fo x :=
 λb x e=>hk b x (λhm=>by rw[cJ.mp hm] at e;exact dO _ (bN e)) (bL _ e)
theorem Nr{σ:St}(hc:X.calm=true)(I:Inv X ip σ H s)(h:JT X.K H a xs):∃iq,Vals xs iq/\∀Q E,
  (∀o St,Walks X.prog X.w X.A.in1 s.heap.objs.size [s.heap.objs.size,a] [s.heap.objs.size] iq.toArray.size (λi v=>iq.toArray[i]?=fo v) St->St 0 (s.heap.push o) →
   (∀b∈[s.heap.objs.size,a],b<(s.heap.push o).objs.size)->Q (.ref s.heap.objs.size) {s with heap:=s.heap.push o})->iZ (jf X.prog X.w) X.A.in1 (pyIter (.ref a)) Q E s:=by
 have hh:=I.ok.hd hc;have lt2:∀(o:Obj),a<s.heap.objs.size->∀b∈[s.heap.objs.size,a],b<(s.heap.push o).objs.size:=λo fk b hb=>by
  rw[gS];rcases bH.mp hb with rfl|hb
  .exact jJ _
  .rw[cJ.mp hb];exact mJ fk
 rcases h with h|h
 .obtain⟨iq,r,p,hz⟩:=I.list h;have hl:=p.isList;have fk:a<s.heap.objs.size:=by obtain⟨_,e,_⟩:=hl;exact bN e
  exact⟨iq,r,λQ E hQ=>nF hl (hQ _ _ (rA (A:=X.A.in1) hh _ a (dB fk) iq.toArray) ⟨⟨_,dG _ rfl,cm,cm⟩,hl.push _⟩ (lt2 _ fk))⟩
 .obtain⟨iq,r,p,hz⟩:=I.tuple h;have hl:=p;have fk:a<s.heap.objs.size:=by obtain⟨_,e,_⟩:=hl;exact bN e
  exact⟨iq,r,λQ E hQ=>sT hl (hQ _ _ (Walks.tuple (A:=X.A.in1) hh _ a (dB fk) iq.toArray) ⟨⟨_,dG _ rfl,cm,cm⟩,hl.push _⟩ (lt2 _ fk))⟩
theorem Uy(r:Vals ys iq){i:Nat}(e:iq.toArray[i]?=fo v):∃y,ys[i]?=fo y/\RelV y v:=by
 have e':iq[i]?=fo v:=by simp_all
 cases q:ys[i]? with
 |none=>rw[r.none_of q] at e';cases e'
 |some y =>
  obtain⟨u,h1,h2⟩:=r.get q;rw[e'] at h1;cases h1;exact⟨y,cm,h2⟩
theorem a8G(bs:List Bool):((aW (gu bs)).all λi=>(bs[i]?).getD true)=bs.all id:=by
 rw[iD,fE,fE];constructor
 .intro h b hb;obtain⟨i,hi,e⟩:=rB hb;have:=h i (fF.mpr hi);simp only[aS hi,iG,e] at this;exact this
 .intro h i hi;have Ek:=fF.mp hi;simp only[aS Ek,iG];exact h _ (eF Ek)
theorem a8B(bs:List Bool):((aW (gu bs)).any λi=>(bs[i]?).getD false)=bs.any id:=by
 rw[iD,mK,mK];constructor
 .rintro⟨i,hi,e⟩;have Ek:=fF.mp hi;simp only[aS Ek,iG] at e;exact⟨_,eF Ek,e⟩
 .rintro⟨b,hb,e⟩;obtain⟨i,hi,rfl⟩:=rB hb;exact⟨i,fF.mpr hi,by simp only[aS hi,iG];exact e⟩
theorem Sq(hc:X.calm=true):K6 X (.builtin "all") (λvs H Q=>s_ λ(a:aA)(bs:List Bool)=>vs=[.ref a]/\JT X.K H a (bs.map V.bl)/\Q (.bl (bs.all id)) H):=by
 intro ip s σ H vs us Q I r h;obtain⟨a,bs,rfl,hs,q⟩:=h;obtain⟨u,rfl,ru⟩:=U1 r;cases ru;obtain⟨iq,rv,walk⟩:=Nr hc I hs;have hlen:iq.toArray.size=gu bs:=by rw[bY,<-rv.length,aH]
 refine call_all_walk (walk _ _ λo St W st fp=>⟨_,_,_,_,_,_,λi=>(bs[i]?).getD true,cm,W,st,λi v s' Q' E' hP hQ=>?_,λh' tk hk=>?_⟩)
 .obtain⟨y,e,ry⟩:=Uy rv hP;rw[aP] at e;cases eb:bs[i]? with
  |none=>rw[eb] at e;cases e
  |some b =>
   rw[eb] at e;cases e;cases ry;simp only[eb,iG] at hQ;exact gC hQ
 .rw[hlen,a8G bs];exact⟨.bl _,H,I.kept (Nq hk),cm,q⟩
theorem a7F(hc:X.calm=true):K6 X (.builtin "any") (λvs H Q=>s_ λ(a:aA)(bs:List Bool)=>vs=[.ref a]/\JT X.K H a (bs.map V.bl)/\Q (.bl (bs.any id)) H):=by
 intro ip s σ H vs us Q I r h;obtain⟨a,bs,rfl,hs,q⟩:=h;obtain⟨u,rfl,ru⟩:=U1 r;cases ru;obtain⟨iq,rv,walk⟩:=Nr hc I hs;have hlen:iq.toArray.size=gu bs:=by rw[bY,<-rv.length,aH]
 refine call_any_walk (walk _ _ λo St W st fp=>⟨_,_,_,_,_,_,λi=>(bs[i]?).getD false,cm,W,st,λi v s' Q' E' hP hQ=>?_,λh' tk hk=>?_⟩)
 .obtain⟨y,e,ry⟩:=Uy rv hP;rw[aP] at e;cases eb:bs[i]? with
  |none=>rw[eb] at e;cases e
  |some b =>
   rw[eb] at e;cases e;cases ry;simp only[eb,iG] at hQ;exact gC hQ
 .rw[hlen,a8B bs];exact⟨.bl _,H,I.kept (Nq hk),cm,q⟩
theorem Nt{ns:List Int}(rv:Vals (ns.map sh) iq):∀i v,iq.toArray[i]?=fo v->∃t,v=iM (ns.getD i 0) t:=λi v hP=>by
 obtain⟨y,e,ry⟩:=Uy rv hP;rw[aP] at e;cases en:ns[i]? with
 |none=>rw[en] at e;cases e
 |some n =>
  rw[en] at e;cases e;obtain⟨t,rfl⟩:=ry;exact⟨t,by rw[bA,en];rfl⟩
theorem a3g(ns:List Int):∀j,preSum (λi=>ns.getD i 0) j=(ns.take j).sum
 |0=>by simp[preSum]
 |j+1=>by
  rw[preSum,a3g ns j];by_cases hj:j<gu ns
  .rw[vA hj,vB,bA,aS hj];simp
  .rw[fZ dj,fZ dj,bA,bW dj];simp
theorem b1s(hc:X.calm=true):K6 X (.builtin "sum") (λvs H Q=>s_ λ(a:aA)(ns:List Int)=>vs=[.ref a]/\JT X.K H a (ns.map sh)/\Q (.int ns.sum) H):=by
 intro ip s σ H vs us Q I r h;obtain⟨a,ns,rfl,hs,q⟩:=h;obtain⟨u,rfl,ru⟩:=U1 r;cases ru;obtain⟨iq,rv,walk⟩:=Nr hc I hs;have hlen:iq.toArray.size=gu ns:=by rw[bY,<-rv.length,aH]
 refine call_sum_walkG (walk _ _ λo St W st fp=>⟨_,_,_,_,_,_,λi=>ns.getD i 0,cm,W,st,fp,Nt rv,λh' tk t' hk=>?_⟩);rw[hlen,a3g,fZ (aT _)];exact⟨.int _,H,I.kept (Nq hk),⟨_,cm⟩,q⟩
theorem a4O{l:List Int}(h:j<gu l):l.getD j 0∈l:=by simp_all
theorem a5p{l:List Int}(h:a∈l):∃j,j<gu l/\l.getD j 0=a:=by
 obtain⟨j,hj,e⟩:=rB h;exact⟨j,hj,by rw[bA,aS hj];exact e⟩
theorem Qq(hc:X.calm=true):K6 X (.builtin "max") (λvs H Q=>s_ λa ns=>vs=[.ref a]/\JT X.K H a (ns.map sh)/\ns≠[]/\∀M,M∈ns->(∀n∈ns,n<=M)->Q (.int M) H):=by
 intro ip s σ H vs us Q I r h;obtain⟨a,ns,rfl,hs,mm,q⟩:=h;obtain⟨u,rfl,ru⟩:=U1 r;cases ru;obtain⟨iq,rv,walk⟩:=Nr hc I hs;have hlen:iq.toArray.size=gu ns:=by rw[bY,<-rv.length,aH]
 have ur:=vC.mpr mm;refine call_max_walk (walk _ _ λo St W st fp=>?_);refine⟨_,_,_,_,_,_,_,cm,W,st,fp,by rw[hlen];exact ur,CmpOf.ints_gt (λi=>ns.getD i 0) (Nt rv),λv h' tk hP hk=>?_⟩;obtain⟨h1,h2⟩:=argBest_gt (λi=>ns.getD i 0) (iq.toArray.size-1);obtain⟨t,rfl⟩:=Nt rv _ v hP;refine⟨.int _,H,I.kept (Nq hk),⟨_,cm⟩,q _ (a4O dj) λn hn=>?_⟩;obtain⟨j,hj,rfl⟩:=a5p hn;exact h2 j dj
theorem b0k(hc:X.calm=true):K6 X (.builtin "min") (λvs H Q=>s_ λa ns=>vs=[.ref a]/\JT X.K H a (ns.map sh)/\ns≠[]/\∀M,M∈ns->(∀n∈ns,M<=n)->Q (.int M) H):=by
 intro ip s σ H vs us Q I r h;obtain⟨a,ns,rfl,hs,mm,q⟩:=h;obtain⟨u,rfl,ru⟩:=U1 r;cases ru;obtain⟨iq,rv,walk⟩:=Nr hc I hs;have hlen:iq.toArray.size=gu ns:=by rw[bY,<-rv.length,aH]
 have ur:=vC.mpr mm;refine call_min_walk (walk _ _ λo St W st fp=>?_);refine⟨_,_,_,_,_,_,_,cm,W,st,fp,by rw[hlen];exact ur,vD (λi=>ns.getD i 0) (Nt rv),λv h' tk hP hk=>?_⟩;obtain⟨h1,h2⟩:=argBest_lt (λi=>ns.getD i 0) (iq.toArray.size-1);obtain⟨t,rfl⟩:=Nt rv _ v hP;refine⟨.int _,H,I.kept (Nq hk),⟨_,cm⟩,q _ (a4O dj) λn hn=>?_⟩;obtain⟨j,hj,rfl⟩:=a5p hn;exact h2 j dj
theorem Uz:K6 X (.builtin "isinstance") (λvs H Q=>t_ λx t n b=>vs=[x,.ty n]/\Cp X.K H x t/\bU X.K t (.type n)=fo b/\Q (.bl b) H):=by
 intro ip s σ H vs us Q I r h;obtain⟨x,t,n,b,rfl,ty,e,q⟩:=h;obtain⟨u,v,rfl,ru,rv⟩:=Lw r;cases rv;exact b0U I ru ty e λtk=>⟨.bl b,H,I.tok _,cm,q⟩
mutual
inductive Dp(K:aF)(H:Hp):V->dI->Prop
 |non:Dp K H .non .none
 |bl (b:Bool):Dp K H (.bl b) (.bool b)
 |int (i:Int):Dp K H (.int i) (.int i)
 |str (x:aC):Dp K H (.str x) (.str x)
 |lst {a:aA} {xs:List V} {ds:List dI}:ah K H a xs->qc K H xs ds->Dp K H (.ref a) (.list ds)
 |tup {a:aA} {xs:List V} {ds:List dI}:cq K H a xs->qc K H xs ds->Dp K H (.ref a) (.tuple ds)
inductive qc(K:aF)(H:Hp):List V->List dI->Prop
 |nil:qc K H [] []
 |cons {x:V} {xs:List V} {d:dI} {ds:List dI}:Dp K H x d->qc K H xs ds->qc K H (x::xs) (d::ds)
end
theorem af.cm{K}(e:af H H')(h:cq K H a xs):cq K H' a xs:=by
 rcases h with(h|⟨o,h⟩)|h
 .exact .inl (.inl (e _ _ h))
 .exact .inl (.inr ⟨o,e _ _ h⟩)
 .exact .inr h
mutual
theorem Dp.same{K:aF}{H H':Hp}(e:af H H'):∀{x:V}{d:dI},Dp K H x d->Dp K H' x d
 |_,_,.non=>.non
 |_,_,.bl b=>.bl b
 |_,_,.int i=>.int i
 |_,_,.str x=>.str x
 |_,_,.lst h r=>.lst (e.seq h) (qc.same e r)
 |_,_,.tup h r=>.tup (e.cm h) (qc.same e r)
theorem qc.same{K:aF}{H H':Hp}(e:af H H'):∀{xs:List V}{ds:List dI},qc K H xs ds->qc K H' xs ds
 |_,_,.nil=>.nil
 |_,_,.cons a r=>.cons (Dp.same e a) (qc.same e r)
end
mutual
theorem Dp.reads{σ:St}(I:Inv X ip σ H s):∀{x:V}{d:dI},Dp X.K H x d->∀{u:aE},RelV x u->∃as,Reads s.heap u d as
 |_,_,.non,u,r=>by cases r;exact⟨_,.none⟩
 |_,_,.bl b,u,r=>by cases r;exact⟨_,.bool b⟩
 |_,_,.int i,u,r=>by obtain⟨t,rfl⟩:=r;exact⟨_,.int i t⟩
 |_,_,.str x,u,r=>by obtain⟨t,rfl⟩:=r;exact⟨_,.str x t⟩
 |_,_,.lst h q,u,r=>by
  cases r;obtain⟨iq,rv,p,hz⟩:=I.list h;obtain⟨o,e1,e2,n,e3⟩:=p.isList;obtain⟨as,ra⟩:=qc.reads I q rv;exact⟨_,.list e1 e2 e3 (by simpa using ra)⟩
 |_,_,.tup h q,u,r=>by
  cases r;obtain⟨iq,rv,p,hz⟩:=I.tuple h;obtain⟨o,e1,e2,n,e3⟩:=(show s.heap.IsTuple _ iq.toArray from p);obtain⟨as,ra⟩:=qc.reads I q rv;exact⟨_,.tuple e1 e2 e3 (by simpa using ra)⟩
theorem qc.reads(I:Inv X ip σ H s):∀{xs:List V}{ds:List dI},qc X.K H xs ds->∀{us:List aE},Vals xs us->∃as,ReadsAll s.heap us ds as
 |_,_,.nil,us,r=>by cases r;exact⟨_,.nil⟩
 |_,_,.cons a q,us,r=>by
  cases r with
  |cons r1 r2 =>
   obtain⟨as,h1⟩:=Dp.reads I a r1;obtain⟨bs,h2⟩:=qc.reads I q r2;exact⟨_,.cons h1 h2⟩
end
inductive d2S(K:aF)(x y:V)(H:Hp)(Q:VK):Prop|mk:∀d e,Dp K H x d->Dp K H y e->d.canLay0=true->e.canLay0=true->min d.depth e.depth<=60->Q (.bl (cK d e)) H->d2S K x y H Q
inductive c0Z(K:aF)(x y:V)(H:Hp)(Q:VK):Prop|mk:∀d e,Dp K H x d->Dp K H y e->d.canLay0=true->e.canLay0=true->min d.depth e.depth<=60->Q (.bl (!PyData.eqv d e)) H->c0Z K x y H Q
theorem d0Y(hr:b_ k X.A):gw X (jk .Eq) (d2S X.K):=by
 intro ip s σ H x y v u Q I rx ry h;obtain⟨d,e,h1,h2,c1,c2,hd,q⟩:=h;obtain⟨as,r1⟩:=h1.reads I rx;obtain⟨bs,r2⟩:=h2.reads I ry;exact SeqAt.compareEq_reads r1 r2 c1 c2 (by have:=hr.units;lia) ⟨.bl _,H,I,cm,q⟩
theorem JU(hr:b_ k X.A):gw X (jk .NotEq) (c0Z X.K):=by
 intro ip s σ H x y v u Q I rx ry h;obtain⟨d,e,h1,h2,c1,c2,hd,q⟩:=h;obtain⟨as,r1⟩:=h1.reads I rx;obtain⟨bs,r2⟩:=h2.reads I ry;exact SeqAt.compareNe_reads r1 r2 c1 c2 (by have:=hr.units;lia) ⟨.bl _,H,I,cm,q⟩
theorem af.new(h:H p=fO)o:af H (upd H p o):=λb u q=>by rw[j3 (i7 q h)];exact q
theorem Wk.set(hi:i<n):Wk (c_ n fr σ) ((c_ n fr σ).set i (fo v)):=by
 refine⟨fg,λj w e=>?_⟩;by_cases hj:j=i
 .subst hj;unfold c_ at e;rw[dH (by simp_all),gD] at e;split at e<;>cases e
 .rw[dP (bV hj)];exact e
structure IL(J:It)(H1:Hp)(xs:List V):Prop where
 go:∀i H,af H1 H->i<gu xs->J.go i H
 By:∀i H x H',af H1 H->i<gu xs->J.By i H x H'->H'=H/\xs[i]?=fo x
 stop:∀H,af H1 H->J.stop (gu xs) H
def A3{K}(h:ah K H1 a xs):IL (Lr K a) H1 xs :=
 ⟨λi H e hi=>⟨xs,xs[i],e.seq h,aS hi⟩,λi H x H' e hi y=>⟨y.1,y.2 xs (e.seq h)⟩,λH e=>⟨xs,e.seq h,aT _⟩⟩
def U3{K}(h:cq K H1 a xs):IL (Tv K a) H1 xs :=
 ⟨λi H e hi=>⟨xs,xs[i],e.cm h,aS hi⟩,λi H x H' e hi y=>⟨y.1,y.2 xs (e.cm h)⟩,λH e=>⟨xs,e.cm h,aT _⟩⟩
theorem a4p{lo}:IL (Hd lo n) H1 ((aW n).map λ(i:Nat)=>sh (lo+(i:Int))) :=
 ⟨λi H e hi=>(show i<n from by simpa using hi),λi H x H' e hi y=>⟨y.1,by rw[y.2,aP,cU (by simp_all)];rfl⟩,λH e=>by simp[Hd]⟩
theorem aZ.app:∀{a c}{b d:List β},aZ F a b->aZ F c d->aZ F (a++c) (b++d)
 |_,_,_,_,.nil,s=>s
 |_,_,_,_,.cons r t,s=>.cons r (aZ.app t s)
theorem O9(hJ:IL J H1 xs)(hp:H1 p=fO)(hz:gu xs<jb)F
  (step:∀(i:Nat)x H N,xs[i]?=fo x->af H1 H->N (F x) H->g x (c_ n fr σ) H λir H2=>Wk (c_ n fr σ) ir/\te ir H2 N)
  (hd:D (upd H1 p (.lst (xs.map F)))):IJ n fr g te σ J H1 p D:=by
 refine⟨λi m ys H=>m=gu xs-i/\i<=gu xs/\ys=(xs.take i).map F/\H=upd H1 p (.lst ys),⟨gu xs,fg,dM _,fg,cm⟩,?_⟩;rintro i m ys H ⟨rfl,hi,rfl,rfl⟩;have e:=af.new (o:=.lst ((xs.take i).map F)) hp;by_cases fk:i<gu xs
 .refine .inr ⟨hJ.go i _ e fk,λx H' y=>?_⟩;obtain⟨rfl,hx⟩:=hJ.By i _ x H' e fk y;refine step i x _ _ hx e ⟨ae,by rw[aH,cI];lia,gu xs-(i+1),dj,cm,fk,?_,Ju⟩;rw[rC,hx,bQ];rfl
 .have:i=gu xs:=dj;subst this;refine .inl ⟨hJ.stop _ e,?_⟩;rw[fZ (aT _)];exact hd
theorem N5(hJ:IL J H1 xs)(hp:H1 p=fO)(hz:gu xs<jb)(R:Nat->V->Hp->Prop)(hR:∀i y H H',R i y H->(∀b o,b≠p->H b=fo o->H' b=fo o)->R i y H')
  (step:∀i x H ys N,xs[i]?=fo x->af H1 H->H p=fo (.lst ys)->(∀v H3,af H H3->R i v H3->N v H3)->g x (c_ n fr σ) H λir H2=>Wk (c_ n fr σ) ir/\te ir H2 N)
  (hd:∀ys H,af H1 H->H p=fo (.lst ys)->gu ys=gu xs->(∀i y,ys[i]?=fo y->R i y H)->D H):IJ n fr g te σ J H1 p D:=by
 refine⟨λi m ys H=>m=gu xs-i/\i<=gu xs/\af H1 H/\H p=fo (.lst ys)/\gu ys=i/\∀j y,ys[j]?=fo y->R j y H,⟨gu xs,fg,dM _,af.new hp _,ae,cm,λj y e=>by simp at e⟩,?_⟩;rintro i m ys H ⟨rfl,hi,e,hH,len,pr⟩;by_cases fk:i<gu xs
 .refine .inr ⟨hJ.go i _ e fk,λx H' y=>?_⟩;obtain⟨rfl,hx⟩:=hJ.By i _ x H' e fk y;refine step i x _ ys _ hx e hH λv H3 s3 r3=>⟨s3 _ _ hH,dj,gu xs-(i+1),dj,cm,fk,λb o q=>?_,ae,by rw[aX,len];rfl,λj y ey=>?_⟩
  .rw[j3 (i7 q hp)];exact s3 _ _ (e _ _ q)
  .have up:∀b o,b≠p->H3 b=fo o->upd H3 p (.lst (ys++[v])) b=fo o:=λb o hb q=>by rw[j3 hb];exact q
   by_cases hj:j<gu ys
   .rw[dH hj] at ey;exact hR j y _ _ (pr j y ey) λb o hb q=>up b o hb (s3 _ _ q)
   .rw[dU dj] at ey;have om:j-gu ys=0:=by
     cases q:j-gu ys with
     |zero=>rfl
     |succ k=>rw[q] at ey;simp at ey
    rw[om] at ey;have:j=i:=dj;subst this;simp at ey;subst ey;exact hR j v _ _ r3 up
 .have:i=gu xs:=dj;subst this;exact .inl ⟨hJ.stop _ e,hd ys H e hH len pr⟩
theorem Inv.rz{σ:St}{fp:List aA}{T:aA}(I:Inv X ip σ H s)(hf:∀b∈fp,xp X ip H b)
  (k:∀b o,b ∉ fp->s.heap.get? b=fo o->h'.get? b=fo o) (ho:∀b∈fp,∃o,h'.get? b=fo o) (hT:s.heap.objs.size<=T) (hz:gu xs<=jb) (hv:Vals xs iq) (ht:gP h' T iq.toArray) :
  Inv X ip σ (upd H T (.tup xs)) {s with heap:=h'}:=by
 have Nu:=I.ck.fresh hT;refine I.step (λb hb=>⟨(hf b hb).2.2.2.1,(hf b hb).2.1,(hf b hb).2.2.2.2.1,(hf b hb).2.2.2.2.2⟩) (λb o _ _ hc e _=>k b o hc e) (λb o _ _ hc e _=>⟨o.slots,k b o hc e⟩)
  (λb o hc e n=>by rw[j3 ((λb o e=>dB (bS (bN e) hT)) b o e)];exact n) (λb o hc e=>⟨o,k b o hc e⟩) (λb ys e=>by rw[j3 (i7 e Nu)];exact e) (λb o u e=>by rw[j3 (i7 e Nu)];exact e) (λb ps e=>⟨#[],by rw[j3 (i7 e Nu),e];simp⟩)
  (λm hm=>?_) (λb u e=>?_) I.bare
 .obtain⟨o,es,ep,e1,r⟩:=hm;exact⟨o,es,ep,k _ o (λz=>(hf _ z).2.1 rfl) e1,r⟩
 .by_cases hb:b=T
  .subst hb;rw[ae] at e;cases e;exact⟨hz,iq,hv,ht⟩
  .rw[j3 hb] at e;have IC:∀c u,H c=fo u->c ∉ fp:=λc u q z=>by rw[(hf c z).1] at q;cases q
   refine(I.ck b u e).rf (λc v hc q=>k c v ?_ q) (λc q=>by rw[j3 (i7 q Nu)];exact q) λc ys q=>by rw[j3 (i7 q Nu)];exact q
   rcases hc with z|z
   .rw[z];exact IC b u e
   .exact IC c _ z
theorem Inv.vi{σ:St}{fp:List aA}(I:Inv X ip σ H s)(hf:∀b∈fp,xp X ip H b)
  (k:∀b o,b ∉ fp->s.heap.get? b=fo o->h'.get? b=fo o):Inv X ip σ H {s with heap:=h'}:=by
 refine I.step (λb hb=>⟨(hf b hb).2.2.2.1,(hf b hb).2.1,(hf b hb).2.2.2.2.1,(hf b hb).2.2.2.2.2⟩) (λb o _ _ hc e _=>k b o hc e) (λb o _ _ hc e _=>⟨o.slots,k b o hc e⟩)
  (λb o hc e n=>n) (λb o hc e=>⟨o,k b o hc e⟩) (λb ys e=>e) (λb o u e=>e) (λb ps e=>⟨#[],by rw[e];simp⟩)
  (λm hm=>?_) (λb u e=>?_) I.bare
 .obtain⟨o,es,ep,e1,r⟩:=hm;exact⟨o,es,ep,k _ o (λz=>(hf _ z).2.1 rfl) e1,r⟩
 .have IC:∀c u,H c=fo u->c ∉ fp:=λc u q z=>by rw[(hf c z).1] at q;cases q
  refine(I.ck b u e).rf (λc v hc q=>k c v ?_ q) (λc q=>q) λc ys q=>q;rcases hc with z|z
  .rw[z];exact IC b u e
  .exact IC c _ z
def b7W(n l1 l2:Nat)(h1:l1<n)(h2:l2<n):jO (n+4) (n+2) (n+3) n (n+1) l1 l2 where
 TIz:=dj
 TOz:=dj
 i1z:=dj
 i2z:=dj
 TITO:=dj
 TIi1:=dj
 TIi2:=dj
 TOi1:=dj
 TOi2:=dj
 i12:=dj
 l1z:=dj
 l1TO:=dj
 l1i1:=dj
 l1i2:=dj
 l2z:=dj
 l2TO:=dj
 l2i1:=dj
 l2i2:=dj
def b9B(i j:Int):Prop:=0<j/\j<2^8000
theorem log2_lt(h:y<2^8000):y.log2<9000:=by
 by_cases h0:y=0
 .subst h0;decide
 .exact bS ((mO h0).mpr h) dz
theorem UA:gw X (jA .FloorDiv) (rI b9B λi j=>.int (i/j)):=Lu λi j _ _ _ _ _ hc q=>by
 have h0:j≠0:=by have:=hc.1;lia
 refine sY h0 ((sZ i (cC hc.1))▸q) (.inl (PyProof.noPylong_of_log2 (log2_lt ?_)));have:=hc.1;have:=hc.2;lia
def fh(n:Nat)(i:Int):Prop:=i.natAbs<2^n
def b9o(i j:Int):Prop:=fh 1000000 i/\fh 1000000 j
theorem b0b(h:fh 1000000 i):vE i<=2^20:=by
 unfold vE;split
 .exact dM _
 .rename_i h0
  have GC:i.natAbs≠0:=by simp_all
  have:=(mO GC).mpr h;lia
def Qr:gw X (jA .Mult) (rI b9o λi j=>.int (i*j)):=Lu λ_ _ _ _ _ _ _ hc q=>mul_int q (IntMulOk.of_bits (b0b hc.1) (b0b hc.2))
theorem af.write(e:af H H')(hp:H p=fO):af H (upd H' p o):=λb u q=>by rw[j3 (i7 q hp)];exact e b u q
end L2
namespace L2
open PySem PySem.W
theorem UB:typeOf (.builtin "object.__class__")=pure (.type "getset_descriptor"):=by rfl
def a5K:(".".intercalate ("object.__class__".cutAt '.').dropLast)="object":=rfl
theorem b1p{R:jH->aG->Prop}(X:K.In s.heap)(hx:s.heap.get? x=fo ox)(hc:ox.cls=.ref D)(hm:gW K D (.type "object")=fo true)(hq:R (.ok (.ret (.ref D))) s) :
  md (jf prog w) A (.call (.builtin "getset_descriptor.__get__") ⟨[.builtin "object.__class__",.ref x,.ref D],[]⟩) R s:=by
 obtain⟨h,g,d,t,os⟩:=s;have L1:=oE (M:=jf prog w) X hm;have hT5:(⟨h,g,d,t,os⟩:aG).TypeIs (.builtin "object.__class__") "getset_descriptor":=UB;refine vF rD.plain F.entry_gs_get (rD.check _ _ _ _ _ _ _ _ hT5 (F.args_gs_get _ _ _) ?_)
 repeat(any_goals(first|assumption|(with_reducible refine jP hx ?_;rw[hc])|with_reducible refine L1.at ?_|wp_step))
 rw[a5K];refine L1.at ?_
 repeat(any_goals(first|assumption|wp_step))
 refine⟨Code.quiet_builtin _ de,rE KF.entry_class ?_⟩;unfold iH.«object.__class__»
 repeat(any_goals(first|assumption|(with_reducible refine jP hx ?_;rw[hc])|wp_step))
theorem b0l{tk:Tok}{Q:oF->aG->Prop}(X:K.In s.heap)(hx:s.heap.get? x=fo ox)(hc:ox.cls=.ref D)(ha:iI K (.ref D) "__class__"=fo (fo (.builtin "object.__class__")))
  (hm:gW K D (.type "object")=fo true)
  (hq:Q (.done (.ret (.ref D))) s) :
  iZ (jf prog w) A (iH.«object.__getattribute__» ⟨[.ref x,.str "__class__" tk],[]⟩) Q E s:=by
 obtain⟨h,g,d,t,os⟩:=s;have L1:=rF (M:=jf prog w) X ha;have hT5:(⟨h,g,d,t,os⟩:aG).TypeIs (.builtin "object.__class__") "getset_descriptor":=UB;have f5:=UB;have f6:=rD.lookup;have f7:=F.slot_gs_set.lookup;unfold iH.«object.__getattribute__»
 repeat(any_goals(first|assumption|(with_reducible refine jP hx ?_;rw[hc])|with_reducible refine L1.at ?_|wp_step))
 refine b1p X hx hc hm ?_
 repeat(any_goals(first|assumption|wp_step))
theorem b0A{nv:aE}{Q:Unit->aG->Prop}(X:K.In s.heap)(hx:s.heap.get? x=fo ox)(hc:ox.cls=.ref D)(hb:gW K D (.type "BaseException")=fo true)(hq:Q () s) :
  iZ (jf prog w) A (checkBuiltinCall "BaseException.__getattribute__" ⟨[.ref x,nv],[]⟩) Q E s:=by
 have hk:builtinKind "BaseException.__getattribute__"=fo .slot:=de;have JV:splitId "BaseException.__getattribute__"=fo ("BaseException","__getattribute__"):=de;have ag:=F.args_bexc_ga (.ref x) nv;obtain⟨h,g,d,t,os⟩:=s;have L1:=oE (M:=jf prog w) X hb;simp only[checkBuiltinCall,hk,JV];refine aN ?_;unfold isInstance
 repeat(first|(with_reducible refine jP hx ?_;rw[hc])|with_reducible refine L1.at ?_|wp_step)
 exact hq
theorem b3B{tk:Tok}{R:jH->aG->Prop}(X:K.In s.heap)(hx:s.heap.get? x=fo ox)(hc:ox.cls=.ref D)(ha:iI K (.ref D) "__class__"=fo (fo (.builtin "object.__class__")))
  (hm:gW K D (.type "object")=fo true) (hb:gW K D (.type "BaseException")=fo true) (hq:R (.ok (.ret (.ref D))) s) :
  md (jf prog w) A (.call (.builtin "BaseException.__getattribute__") ⟨[.ref x,.str "__class__" tk],[]⟩) R s :=
 vF vG.ga.plain F.entry_bexc_ga (b0A X hx hc hb (b0l X hx hc ha hm hq))
theorem b0I{Q:Option aE->aG->Prop}(X:K.In s.heap)(hx:s.heap.get? x=fo ox)(hc:ox.cls=.ref D)(Av:iI K (.ref D) "__getattribute__"=fo (fo (.builtin "BaseException.__getattribute__")))
  (hgn:iI K (.ref D) "__getattr__"=fo fO) (ha:iI K (.ref D) "__class__"=fo (fo (.builtin "object.__class__")))
  (hm:gW K D (.type "object")=fo true) (hb:gW K D (.type "BaseException")=fo true) (hq:Q (fo (.ref D)) {s with toks:=s.toks+1}) :
  iZ (jf prog w) A (getAttr? (.ref x) "__class__") Q E s:=by
 obtain⟨h,g,d,t,os⟩:=s;have L1:=rF (M:=jf prog w) X Av;have L2:=rF (M:=jf prog w) X hgn;have f3:=vG.ga.bind (.ref x);have El:(mP "BaseException.__getattribute__"==mP "object.__getattribute__")=false:=de;have CC:(onTheHeap (cZ D)&&mP "BaseException.__getattribute__"==mP "object.__getattribute__")=false:=by rw[El];rfl
 have Hl:(false&&onTheHeap (mP "BaseException.__getattribute__"))=false:=rfl;unfold getAttr?
 repeat(any_goals(first|assumption|(with_reducible refine jP hx ?_;rw[hc])|with_reducible refine L1.at ?_|with_reducible refine L2.at ?_|wp_step))
 refine b3B X hx hc ha hm hb ?_
 repeat(any_goals(first|assumption|wp_step))
structure X4(K:fA)(D:aA):Prop where
 ob:yM λnm q N bs bm hdct=>yM λsn sub ab col dd k0=>t_ λk1 k2 k3 k5=>K.lookup D=fo (excClassObj nm q D N bs bm hdct sn sub ab col dd k0 k1 k2 k3 k5 "ValueError.__new__")/\nsOkIn K N=true/\nsIn K N "__init__"=fo fO/\
  tailIn K [.type "ValueError",.type "Exception",.type "BaseException",.type "object"] bm=true
 ga:iI K (.ref D) "__getattribute__"=fo (fo (.builtin "BaseException.__getattribute__"))
 gn:iI K (.ref D) "__getattr__"=fo fO
 ca:iI K (.ref D) "__class__"=fo (fo (.builtin "object.__class__"))
 mo:gW K D (.type "object")=fo true
 mb:gW K D (.type "BaseException")=fo true
def Qs(ea D:aA)(h:aJ):Prop:=∃o,h.get? ea=fo o/\o.cls=.ref D
theorem b2Y{K:fA}{D ea:aA}(k:X4 K D):KitX K (.ref ea) (.ref D) (Qs ea D) where
 ty:=λM h X p=>by
  obtain⟨o,h1,h2⟩:=p;exact h2▸(Looks.ld h1).andThen .now
 it:=λM h X p=>by
  obtain⟨_,_,_,_,_,_,_,_,_,_,_,_,_,_,_,_,lk,_⟩:=k.ob;intro A' Q' E' s' kk q;unfold isType loadHead;exact aN (tF (kk _ _ (X _ _ lk)) (bG q))
 ne:=λh tp dd iq n sl X UC=>eN.mpr λq=>by
  obtain⟨_,_,_,_,_,_,_,_,_,_,_,_,_,_,_,_,lk,_⟩:=k.ob;have e:=rG (beq_iff_eq.mp q);subst e;exact absurd (Aj (rd Obj.cls (bD ((X _ _ lk).symm.trans UC)))) dz
 ca:=λ{prog w A E Q s}X p kk=>by
  obtain⟨o,h1,h2⟩:=p;exact b0I X h1 h2 k.ga k.gn k.ca k.mo k.mb kk
def LG(ea D:aA):HO:=.ext (Qs ea D)
def b4L(e:Qs ea D h):dh H h ea (LG ea D) :=
 ⟨e,let ⟨o,h1,_⟩:=e;⟨o,h1⟩,λh1 h2 ⟨o,a,b⟩ k=>⟨o,k o a,b⟩⟩
theorem K3:K6 X (.builtin "isinstance") (λvs H Q=>t_ λea D c b=>vs=[.ref ea,c]/\H ea=fo (LG ea D)/\X4 X.K D/\(∀u,RelV c u->kitOne X.K (.ref D) u=fo b)/\Q (.bl b) H):=by
 intro ip s σ H vs us Q I r h;obtain⟨ea,D,c,b,rfl,he,k,e,q⟩:=h;obtain⟨u,v,rfl,ru,rv⟩:=Lw r;cases (show u=cZ ea from ru);exact kia_one (b2Y k) I.ix (I.ck ea _ he).1 (e v rv) (λz=>nomatch z) λtk=>⟨.bl b,H,I.tok _,cm,q⟩
theorem b0X(X:K.In s.heap)(hx:s.heap.get? ea=fo oe)(hc:oe.cls=.ref D)
  (hs:gW K D (.ref R)=fo true) (kR:X4 K R) (hq:Q true s):iZ (jf prog w) A (excMatches (.ref ea) (.ref R)) Q E s:=by
 obtain⟨h,g,d,t,os⟩:=s;obtain⟨_,_,_,_,_,_,_,_,_,_,_,_,_,_,_,_,lk,_⟩:=kR.ob;have hR:=X _ _ lk;have f:=tc_notTuple;unfold excMatches
 repeat(first|with_reducible refine(oE (M:=jf prog w) X hs).at ?_|with_reducible refine(oE (M:=jf prog w) X kR.mb).at ?_|(with_reducible refine jP hx ?_;rw[hc])|with_reducible refine jP hR ?_|wp_step)
 exact hq
end L2
namespace L2
open PySem PySem.Spec PyProof.Rows
theorem dh.got(x:dh H h a o):∃ob,h.get? a=fo ob:=by
 cases o with
 |lst xs=>obtain⟨_,_,_,_,e⟩:=x;exact⟨_,e⟩
 |tup xs=>obtain⟨_,_,_,ob,e,_⟩:=x;exact⟨ob,e⟩
 |ins C dx fs=>obtain⟨_,_,_,e,_⟩:=x;exact⟨_,e⟩
 |own y=>exact x
 |zt lo hi=>obtain⟨_,_,_,e⟩:=x;exact⟨_,e⟩
 |Bw ob u=>obtain⟨e,_⟩:=x;exact⟨_,e⟩
 |my ps=>exact⟨_,(show h.get? a=fo _ from x)⟩
 |ext φ=>obtain⟨_,e,_⟩:=x;exact e
theorem Un.slots{fs ex:List aA}{H0 H':Hp}{h0 h1 h2:aJ}(u:Un fs ex H0 H' h0 h1)(hb:∀b o,h1.get? b=fo o->(∃o0,h0.get? b=fo o0)->b ∉ fs->h2.get? b=fo o)
  (hf:∀b∈fs,∀o,h1.get? b=fo o->∃sl,h2.get? b=fo {o with slots:=sl}):Un fs ex H0 H' h0 h2 where
 keep:=λb o q n JW hx=>hb b o (u.keep b o q n JW hx) ⟨o,q⟩ JW
 slot:=λb o q n JW hx=>by
  obtain⟨sl,e⟩:=u.slot b o q n JW hx;obtain⟨Tg,e'⟩:=hf b JW _ e;exact⟨Tg,e'⟩
 free:=u.free
 there:=λb o q hx=>by
  obtain⟨o',e⟩:=u.there b o q hx;by_cases hm:b∈fs
  .obtain⟨sl,e'⟩:=hf b hm _ e;exact⟨_,e'⟩
  .exact⟨_,hb b o' e ⟨o,q⟩ hm⟩
 pj:=u.pj
 pw:=u.pw
 pz:=u.pz
theorem mz.slots(x:mz H h)(k:∀b u o,H b=fo u->h.get? b=fo o->h'.get? b=fo o):mz H h':=λa o e =>
 (x a o e).rf (λb u hb q=>by
  rcases hb with rfl|hb
  .exact k b o u e q
  .exact k b _ u hb q) (λ_ q=>q) λ_ _ q=>q
structure Em(P:aM)(w:aL)(l:List Env)(H:Hp)(s:aG)(ea t D:aA)(B:aJ)(H':Hp)(s':aG):Prop where
 os:s'.os=s.os
 bare:jC s'.gens
 un:Un (uk l) [] H H' s.heap s'.heap
 ck:mz H' s'.heap
 LH:vH B l ea (.ref D) (.ref t) s'.heap
 GD:∀b o,s'.heap.get? b=fo o->((∃o0,s.heap.get? b=fo o0)/\b ∉ uk l)\/H' b≠fO->B.get? b=fo o
inductive W2(P:aM)(w:aL)(l:List Env)(H:Hp)(s:aG)(E:XK)(e:aE)(s':aG):Prop|mk:∀ea t D B H',e=.ref ea->Em P w l H s ea t D B H' s'->E (.ref D) fO H'->W2 P w l H s E e s'
theorem Em.slots(F:Em P w l H s ea t D B H' s')(fl:vH B l ea (.ref D) (.ref t) h')(up:s'.heap.UpToSlots h'):Em P w l H s ea t D B H' {s' with heap:=h'}:=by
 have st:=fl.1;refine⟨F.os,F.bare,F.un.slots (λb o q z hn=>st b o (F.GD b o q (.inl ⟨z,hn⟩))) λb hb o q=>?_,F.ck.slots λb u o e q=>st b o (F.GD b o q (.inr dj)),fl,λb o q z=>?_⟩
 .obtain⟨_,o',mj,hd⟩:=F.LH.2.2.1.mem hb;rw[q] at mj;cases mj;exact up b o q hd
 .have:∃o1,s'.heap.get? b=fo o1:=by
   rcases z with⟨⟨o0,z⟩,_⟩|z
   .exact F.un.there b o0 z fg
   .cases e:H' b with
    |none=>exact absurd e z
    |some u=>exact(F.ck b u e).got
  obtain⟨o1,q1⟩:=this;have b1:=F.GD b o1 q1 z;have:=st b o1 b1;rw[show h'.get? b=fo o from q] at this;cases this;exact b1
theorem Em.new(F:Em P w l H s ea t D B H' s'):s.heap.get? ea=fO/\H' ea=fO:=by
 obtain⟨_,hb,UD,oe,vs,T,oT,ts,he,hc,hd,_⟩:=F.LH;have nb:∀o,B.get? ea≠fo o:=λo z=>by rw[hb] at z;cases z
 constructor
 .cases q:s.heap.get? ea with
  |none=>rfl
  |some o0 =>
   refine absurd (F.GD ea oe he (.inl ⟨⟨o0,q⟩,λhm=>?_⟩)) (nb _);obtain⟨_,o,ho,hnf⟩:=UD.mem hm;rw[he] at ho;cases ho;exact hnf vs hd
 .cases q:H' ea with
  |none=>rfl
  |some u=>exact absurd (F.GD ea oe he (.inr dj)) (nb _)
theorem Em.at(F:Em P w l H s ea t D B H' s'):Qs ea D s'.heap:=by
 obtain⟨o,h1,h2⟩:=F.LH.there;exact⟨o,h1,h2⟩
def Em.inv{σ:St}(I:Inv X ip σ H s)(F:Em X.prog X.w X.stack H s ea t D B H' s'):Inv X ip σ H' s' :=
 I.Bx F.os F.un F.ck F.bare λb z=>absurd z fg
theorem Em.Nv{σ:St}(I:Inv X ip σ H s)(F:Em X.prog X.w X.stack H s ea t D B H' s'):Inv X ip σ (upd H' ea (LG ea D)) s':=by
 obtain⟨n1,n2⟩:=F.new;have u:=F.un;refine I.Bx F.os ⟨u.keep,u.slot,λb o q n hx=>?_,u.there,λb xs q=>?_,λb o xs q=>?_,λb ps q=>?_⟩ (λa o e=>?_) F.bare λb z=>absurd z fg
 .rw[j3 λz=>by rw[z,n1] at q;cases q];exact u.free b o q n hx
 .have:=u.pj b xs q;rw[j3 (i7 this n2)];exact this
 .have:=u.pw b o xs q;rw[j3 (i7 this n2)];exact this
 .obtain⟨m,e⟩:=u.pz b ps q;exact⟨m,by rw[j3 (i7 e n2)];exact e⟩
 .by_cases ha:a=ea
  .subst ha;rw[ae] at e;cases e;exact b4L F.at
  .rw[j3 ha] at e;exact(F.ck a o e).rf (λ_ _ _ q=>q) (λc q=>by rw[j3 (i7 q n2)];exact q) λc xs q=>by rw[j3 (i7 q n2)];exact q
theorem UE{σ:St}(I:Inv X ip σ H s)(e:X.s₀.heap.get? b=fo o)(hb:b ∉ uk X.outer):b ∉ uk X.stack:=λz=>by
 rcases bH.mp (I.rg b z) with q|q
 .have:=bS (bN e) I.ok.above;rw[q] at this;exact dO _ this
 .exact hb q
theorem V5{K}:Z8 (W2 P w) (N8 (W2 P w) P w K mg base N qual scope f cd A outer s₀ H₀ E) E:=by
 intro ip σ H s e s' I h;obtain⟨ea,t,D,B,H',rfl,F,hE⟩:=h;have I':=F.inv I;refine wpAny_leaves_onW I.ok.frames rfl F.LH λh' fl up=>?_;have st:=fl.1;have bin:∀b o,s'.heap.get? b=fo o->(∃o0,s₀.heap.get? b=fo o0)->b ∉ uk outer->B.get? b=fo o:=λb o q ⟨o0,z⟩ hn=>by
  obtain⟨o1,q1⟩:=I.base.there b o0 z (by show b ∉ ([]:List aA);simp);exact F.GD b o q (.inl ⟨⟨o1,q1⟩,UE I z hn⟩)
 refine⟨ea,t,D,B,H',cm,⟨I'.os,F.bare,I'.base.slots (λb o q z hn=>st b o (bin b o q z hn)) λb hb o q=>?_,F.ck.slots λb u o e q=>st b o (F.GD b o q (.inr dj)),fl,λb o q z=>?_⟩,hE⟩
 .obtain⟨_,o',mj,hd⟩:=F.LH.2.2.1.2.2.mem hb;rw[q] at mj;cases mj;exact up b o q hd
 .have:∃o1,s'.heap.get? b=fo o1/\B.get? b=fo o1:=by
   rcases z with⟨⟨o0,z⟩,hn⟩|z
   .obtain⟨o1,q1⟩:=I'.base.there b o0 z (by show b ∉ ([]:List aA);simp);exact⟨o1,q1,bin b o1 q1 ⟨o0,z⟩ hn⟩
   .cases e:H' b with
    |none=>exact absurd e z
    |some u =>
     obtain⟨o1,q1⟩:=(F.ck b u e).got;exact⟨o1,q1,F.GD b o1 q1 (.inr z)⟩
  obtain⟨o1,_,b1⟩:=this;have:=st b o1 b1;rw[show h'.get? b=fo o from q] at this;cases this;exact b1
theorem b9b{K}{σ:St}(I:Inv (N8 (W2 P w) P w K mg base N qual scope f cd A outer s₀ H₀ E) ip σ H s)(hx:Heap.MadeExcOf s.heap h1 ea (.ref D) vs)
  (hE:E (.ref D) fO H):(N8 (W2 P w) P w K mg base N qual scope f cd A outer s₀ H₀ E).xe (.ref ea) {s with heap:=h1}:=by
 refine wpAny_leaves_madeW I.ok.frames rfl (λb o q=>W.of_hideAll _ q) (W.funFrames_hide I.stack (λenv he b hb=>nK.mpr ⟨env,he,hb⟩)) hx λh' t fl _ _ up=>?_;have st:=λb o q hn=>fl.1 b o (vJ _ q hn);have trn:∀b u,H b=fo u->b ∉ uk (dQ qual scope s₀.heap.objs.size f cd::outer):=λb u e z=>by
  have:=I.qm b z;rw[e] at this;cases this
 refine⟨ea,t,D,_,H,cm,⟨I.os,I.bare,I.base.slots (λb o q ⟨o0,z⟩ hn=>st b o q (UE I z hn)) λb hb o q=>?_,I.ck.slots λb u o e q=>st b o q (trn b u e),fl,λb o q z=>?_⟩,hE⟩
 .obtain⟨_,o',mj,hd⟩:=I.gx.mem hb;rw[q] at mj;cases mj;exact up b o (hx.keeps b o q) hd
 .have:∃o1,s.heap.get? b=fo o1/\b ∉ uk (dQ qual scope s₀.heap.objs.size f cd::outer):=by
   rcases z with⟨⟨o0,z⟩,hn⟩|z
   .obtain⟨o1,q1⟩:=I.base.there b o0 z (by show b ∉ ([]:List aA);simp);exact⟨o1,q1,UE I z hn⟩
   .cases e:H b with
    |none=>exact absurd e z
    |some u =>
     obtain⟨o1,q1⟩:=(I.ck b u e).got;exact⟨o1,q1,trn b u e⟩
  obtain⟨o1,q1,hn⟩:=this;have:=st b o1 q1 hn;rw[show h'.get? b=fo o from q] at this;cases this;exact vJ _ q1 hn
def tFs(te:TE):TE:=λσ H Q=>te σ H λv H1=>∃i,v=.int i/\i.natAbs.log2<1920/\∀x,Q (.str x) H1
theorem b5G(he:PE X e te)(ha:a.length<=1000):PE X (.JoinedStr [.Constant (.str a) j p1,.FormattedValue e (-1) fO p2] p3) (tFs te):=by
 intro ip s σ H Q I h;refine rH (kP (D7 (l9 ip s σ H (λv H'=>v=.str a/\H'=H) I ⟨cm,cm⟩) λu s1 ⟨v,H1,I1,r,hv,hH⟩=>?_));subst hv;subst hH;obtain⟨tk,rfl⟩:=r;have e0:(eI++a).length=a.length:=by rw[kQ];show 0+a.length=a.length;lia
 refine⟨by rw[e0];exact bF ha dz,kP (oG (D7 (he ip s1 σ H1 _ I1 h) λu s2 ⟨v,H2,I2,r,i,hv,hi,q⟩=>?_))⟩;subst hv;obtain⟨Nw,rfl⟩:=r;refine oH hi ?_;have hl:(eI++a++cN (toString i)).length<=jb:=by
  rw[kQ,e0];have h1:=oJ (a:=i) (k:=1920) dz hi;rw[oK,bE];lia
 exact⟨hl,rJ ⟨.str _,H2,(I2.tok _).tok _,⟨_,cm⟩,q _⟩ hl⟩
section
variable{P:aM}{w:aL}{K:aF}{mg:aC->Option aE}{base:aJ}{N:List aC}{qual:aC}{scope:cQ}{f:aA}{cd:aE}{A:aV}{outer:List Env}{s₀:aG}{H₀:Hp}{E:XK}
 {x:aC} {D:aA} {e:aR} {t:TA} {np iz pos:Pos}
def b3F(t:TA)(D:aA)(E:XK):TS:=λ_ σ H=>t σ H λvs H1=>gu vs<=1000/\E (.ref D) fO H1
theorem T7(k:X4 K D)(hg:Gl (N8 (W2 P w) P w K mg base N qual scope f cd A outer s₀ H₀ E) x)(hm:mg x=fo (.ref D))(hh:A.handled=fO)
  (ha:PA (N8 (W2 P w) P w K mg base N qual scope f cd A outer s₀ H₀ E) [e] t)
  (he:jh [e] (dQ qual scope s₀.heap.objs.size f cd)=[(false,eval e (dQ qual scope s₀.heap.objs.size f cd))]:=by rfl) (Cq:(x==("__debug__":aC))=false:=by decide) :
  PS (N8 (W2 P w) P w K mg base N qual scope f cd A outer s₀ H₀ E) (.Raise (fo (.Call (.Name x np) [e] [] iz)) fO pos) (b3F t D E):=by
 intro ip s σ H Dn I h;obtain⟨nm,q,Na,bs,bm,hdct,sn,sub,ab,col,dd,k0,k1,k2,k3,k5,lk,ok,ni,tl⟩:=k.ob;have tb:∀h:aJ,K.In h->OwnTail h [.type "ValueError",.type "Exception",.type "BaseException",.type "object"] bm:=λh X=>W.tail_of_in X tl;have UH:∀h:aJ,K.In h->h.Ns Na (h.nsMap Na)/\h.nsMap Na "__init__"=fO:=λh X=>⟨.of_isNs (W.isNs_of_in X ok),W.nsMap_none_of_in X ok ni⟩;refine wpAny_Raise_call_subT (nm:=nm) (q:=q) (N:=Na) (bs:=bs) (hdct:=hdct) (sn:=sn) (sub:=sub) (ab:=ab) (col:=col) (dd:=dd) (k0:=k0) (k1:=k1) (k2:=k2) (k3:=k3) (k5:=k5)
  F.excBase_ValueError ((tb base I.mod.zu).hasType rfl) (by show(A.deeper _).handled=fO;exact hh) (by rw[show jh [e] (N8 (W2 P w) P w K mg base N qual scope f cd A outer s₀ H₀ E).env=_ from he];rfl)
  (UH base I.mod.zu).2 (Lm I hg hm ⟨rfl,?_⟩ Cq)
 have h2:=ha iz ip s σ H _ I h;rw[show jh [e] (N8 (W2 P w) P w K mg base N qual scope f cd A outer s₀ H₀ E).env=_ from he] at h2⊢;refine uI (eY h2 (λus s2 ⟨vs,H2,I2,r,hl,hE⟩=>⟨rfl,by rw[<-r.length];exact gQ (t9 hl),I2.ix _ _ lk,(UH base I.mod.zu).1.keeps I2.bk,tb _ I2.ix,λh' ea hx=>b9b I2 hx hE⟩) λ_ _ z=>z)
end
def Qt(CX:ze)(X:Cx)(EX:St->XK):Prop:=∀ip(σ:St)H s e s',Inv X ip σ H s->CX X.stack H s (EX σ) e s'->X.xe e s'
abbrev Cx.held(X:Cx)(ea:aA):Cx:={X with A:=X.A.mark (fo (.ref ea)),calm:=false,xe:=λ_ _=>False}
abbrev Cx.tried(X:Cx)(pn:List (aA×Obj))(E:aE->aG->Prop):Cx:={X with pn:=pn,xe:=E}
section
variable{X:Cx}{ip:List (aA×Obj)}{σ:St}{H:Hp}{s:aG}{ea:aA}
def Cx.Ok.held(ok:X.Ok):(X.held ea).Ok :=
 ⟨ok.mod,ok.kind,ok.glob,ok.blt,ok.above,ok.inj,ok.has,ok.Gs,(λz=>vK z),ok.frames,ok.GX,ok.GY,ok.bs,ok.xw,ok.um,ok.uo,ok.gx,ok.Cj⟩
def Inv.held(I:Inv X ip σ H s)ea:Inv (X.held ea) ip σ H s:=⟨I.ok.held,I.os,I.bare,I.base,I.loc,I.cell,I.free,I.ee,I.pin,I.ck,I.len⟩
def Inv.wk(ok:X.Ok)(I:Inv (X.held ea) ip σ H s):Inv X ip σ H s:=⟨ok,I.os,I.bare,I.base,I.loc,I.cell,I.free,I.ee,I.pin,I.ck,I.len⟩
def Cx.Ok.tried(ok:X.Ok){pn}:(X.tried pn E).Ok :=
 ⟨ok.mod,ok.kind,ok.glob,ok.blt,ok.above,ok.inj,ok.has,ok.Gs,ok.hd,ok.frames,ok.GX,ok.GY,ok.bs,ok.xw,ok.um,ok.uo,ok.gx,ok.Cj⟩
theorem Inv.tried(I:Inv X ip σ H s):Inv (X.tried (X.pn++ip) E) [] σ H s:=⟨I.ok.tried,I.os,I.bare,I.base,I.loc,I.cell,I.free,I.ee,by rw[fP];exact I.pin,I.ck,I.len⟩
def Inv.kj(ok:X.Ok)(I:Inv (X.tried (X.pn++ip) E) xx σ H s):Inv X ip σ H s :=
 ⟨ok,I.os,I.bare,I.base,I.loc,I.cell,I.free,I.ee,λp hp=>I.pin p (fW _ hp),I.ck,I.len⟩
theorem Qu(I:Inv X ip σ H s)(hN:X.N.Nodup)(hi:X.N[i]?=fo n)(hk:X.env.scope.names.lookup n=fo .local)
  (h:∀s',Inv X ip (σ.set i fO) H s'->Q () s'):iZ M A (do bindName X.env n .none;unbindBehindTheSuite X.env n pos) Q E s:=by
 obtain⟨m,hn,hl⟩:=id I.loc;have Jy:(X.env.scope.kind==.class||(X.env.scope.kind==.module&&X.env.locals != X.env.globals))=false:=by rw[I.ok.kind];rfl
 have GZ:i<gu σ:=by rw[I.len];exact(cA.mp hi).1
 have ED:=I.ED;refine wpAny_nameGoes_keeps hk hn Jy λh' v Tq hs=>?_;obtain⟨oL,_,_,Bn,_⟩:=id hn;have far:∀b o,X.s₀.heap.get? b=fo o->b≠X.env.locals:=λb o e=>dB (bS (bN e) I.ok.above);refine h _ ⟨I.ok,I.os,I.bare,⟨λb o e n hb hx=>(hs.2 b (far b o e)).trans (I.base.keep b o e n hb hx),λb o e n hb hx=>?_,I.base.free,λb o e hx=>?_,I.base.pj,I.base.pw,I.base.pz⟩,⟨_,Tq,λj y v' e1 e2 e3=>?_⟩,λy c e=>?_,I.free,I.ee,λp hp=>?_,λb ob e=>?_,by simpa using I.len⟩
 .obtain⟨sl,e1⟩:=I.base.slot b o e n hb hx;exact⟨sl,(hs.2 b (far b o e)).trans e1⟩
 .obtain⟨o',e1⟩:=I.base.there b o e hx;exact⟨o',(hs.2 b (far b o e)).trans e1⟩
 .by_cases hj:j=i
  .subst hj;rw[eK GZ] at e2;cases e2
  .rw[dP (bV hj)] at e2;obtain⟨u',r',q⟩:=hl j y v' e1 e2 e3;refine⟨u',r',?_⟩;rcases q with⟨k,e⟩|⟨k,c,e,z⟩
   .refine .inl ⟨k,?_⟩;have:y≠n:=λe=>hj (Tn hN e1 (e▸hi));simp[this,e]
   .exact .inr ⟨k,c,e,z.sameBut hs (ED y c e)⟩
 .obtain⟨w',z⟩:=I.cell y c e;exact⟨w',z.sameBut hs (ED y c e)⟩
 .obtain⟨e,n,ne,nf,d⟩:=I.pin p hp;exact⟨(hs.2 p.1 ne).trans e,n,ne,nf,d⟩
 .refine(I.ck b ob e).rf (λc w' hc q=>(hs.2 c ?_).trans q) (λ_ q=>q) λ_ _ q=>q;rintro rfl;rcases hc with z|hc
  .rw[<-z,I.free] at e;cases e
  .rw[I.free] at hc;cases hc
end
def Ends.less(D:Ends)(i:Nat):Ends:={nx:=λσ H=>D.nx (σ.set i fO) H,rt:=D.rt,bk:=λσ H=>D.bk (σ.set i fO) H,ct:=λσ H=>D.ct (σ.set i fO) H}
inductive c0I(K:aF)(R:aA)(tb:(St->XK)->TS)(i:Nat)(ts:TS)(D:Ends)(σ:St)(H:Hp):Prop|mk:∀EX,tb EX D σ H->(∀au H' C ea d,EX au C d H'->H' ea=fO->∀Da,C=.ref Da->X4 K Da/\dY K Da (.ref R)=fo true/\ts (D.less i) (au.set i (fo (.ref ea))) (upd H' ea (LG ea Da)))->c0I K R tb i ts D σ H
theorem b7M(kR:X4 X.K R)(hN:X.N.Nodup)(hi:X.N[i]?=fo n)(hk:X.env.scope.names.lookup n=fo .local)(gj:X.stack=X.env::X.outer)(Hm:Gl X x)(hm:X.mg x=fo (.ref R))
  (hb:∀EX pn E,Qt (W2 X.prog X.w) (X.tried pn E) EX->fu (X.tried pn E) body (tb EX))
  (hs:∀ea,fu (X.held ea) (Nx::IM) ts) (Cq:(x==("__debug__":aC))=false:=by decide) :
  PS X (.Try body [.ExceptHandler (fo (.Name x np)) (fo n) (Nx::IM) ur] [] [] pos) (c0I X.K R tb i ts):=by
 intro ip s σ H D I ⟨EX,hq,hh⟩;refine wpAny_Try_except ?_;have pass:Qt (W2 X.prog X.w) (X.tried (X.pn++ip) λe s'=>tq λau H0 s0=>Inv X ip au H0 s0/\W2 X.prog X.w X.stack H0 s0 (EX au) e s') EX:=λxx au H0 s0 e s' I0 q=>⟨au,H0,s0,I0.kj I.ok,q⟩;refine eY (hb EX _ _ pass [] s σ H D I.tried hq) (λf s1 q=>?_) λe s1 ⟨au,H0,s0,I0,cx⟩=>?_
 .cases f with
  |next=>obtain⟨au,H',J,q⟩:=q;exact lP ⟨au,H',J.kj I.ok,q⟩
  |brk=>obtain⟨au,H',J,q⟩:=q;exact⟨au,H',J.kj I.ok,q⟩
  |cont=>obtain⟨au,H',J,q⟩:=q;exact⟨au,H',J.kj I.ok,q⟩
  |ret u=>obtain⟨v,au,H',J,r,q⟩:=q;exact⟨v,au,H',J.kj I.ok,r,q⟩
 .obtain⟨ea,t,Da,B,H',rfl,F,hE⟩:=cx;have UD:X.A.frames=fo (X.env::X.outer):=by rw[I.ok.frames,gj]
  have hf:X.env.frame=fo X.env.locals:=by
   rcases I.ok.GX with z|⟨_,z⟩
   .rw[gj] at z;have:=rd iT z;simp at this
   .exact z
  have Ny:=F.LH;rw[gj] at Ny;refine wpAny_looks_onW UD hf Ny λh4 Nz up4=>wpAny_landsW Nz λh5 NA up5=>?_;have F5:=F.slots (gj▸NA) (up4.trans up5);refine wpAny_handleBy_cons (codeAny_handlers_test ?_) (by intro q;cases q);have I5:=(F5.inv I0).held ea;refine Lm I5 Hm hm ?_ Cq;obtain⟨kD,NB,hts⟩:=hh au H' _ ea fO hE F.new.2 Da rfl;obtain⟨oe,he,hc⟩:=F5.at;refine b0X I5.ix he hc NB kR (codeAny_handlers_suite_as (lands_againW NA λh6 UI up6=>(MS (X:=X.held ea) (v:=.ref ea) (((F5.slots (gj▸UI) up6).Nv I0).held ea) hN hi (aI hk) (rfl:RelV (.ref ea) (.ref ea)) (λs7 I7=>(eY (hs ea ip s7 _ _ (D.less i) I7 hts) (λf s8 q=>?_) λ_ _ z=>z.elim)) (.inr hk))));cases f with
  |next=>obtain⟨ir,H2,J,q⟩:=q;exact Qu (J.wk I.ok) hN hi hk λs9 J9=>⟨_,_,J9,q⟩
  |brk=>obtain⟨ir,H2,J,q⟩:=q;exact Qu (J.wk I.ok) hN hi hk λs9 J9=>⟨_,_,J9,q⟩
  |cont=>obtain⟨ir,H2,J,q⟩:=q;exact Qu (J.wk I.ok) hN hi hk λs9 J9=>⟨_,_,J9,q⟩
  |ret u=>obtain⟨v,ir,H2,J,r,q⟩:=q;exact Qu (J.wk I.ok) hN hi hk λs9 J9=>⟨v,_,_,J9,r,q⟩
structure NC(k:Nat)(A:aV):Prop where
 dp:A.depth+3*k+5<jy
 un:A.units+16*k+200<cLine
def b_.u(r:b_ k A)e:NC k (A.mark e):=⟨r.dp,r.un⟩
structure ND(P:aM)(w:aL)(K:aF)(mg:aC->Option aE)(base:aJ)(k:Nat)(f:aA)(fd:aK)(ps:List aC)(sp:Sp):Prop where
 len:∀vs H Q E,sp vs H Q E->gu vs=gu ps
 run:∀(A:aV)(outer:List Env)(s:aG)(H:Hp)(args:Args)(us:List aE)(vs:List V)(Q:VK)(E:XK),NC k A->v_ P w K mg base A outer s H->lU s fd args (ps.zip us)->Vals vs us->sp vs H Q E →
  md (jf P w) A (.call (.ref f) args) (CR J8 outer P w H s Q E) s
abbrev NF(P:aM)(w:aL)(K:aF)(mg:aC->Option aE)(base:aJ)(N:List aC)(qual:aC)(scope:cQ)(f:aA)(cd:aE)(A:aV)(outer:List Env)(s:aG)(H:Hp):Cx :=
 {N8 J8 P w K mg base N qual scope f cd A outer s H E0 with calm:=false,xe:=λ_ _=>False}
theorem a7W{K}
  (S:p7 N ps scope) (e0:v_ P w K mg base A outer s H) (hl:gu vs=gu ps) (r:Vals vs us)
  (x:InCallC s s.heap.objs.size (bindL (dQ qual scope s.heap.objs.size f cd).kindOf (ps.zip us) λ_=>fO) (js (s.heap.objs.size+1) scope.names []) (bindC (dQ qual scope s.heap.objs.size f cd).kindOf (ps.zip us) λ_=>fO) s1) :
  Inv (NF P w K mg base N qual scope f cd A outer s H) [] (V6 N vs) H s1:=by
 have e1:v_ P w K mg base ({A with handled:=fO}) outer s H:=⟨e0.frames,e0.mod,e0.bs,e0.xw,e0.gx,e0.Cj,e0.ck,e0.bare⟩;have I:=a5o (CX:=J8) (E:=E0) S rfl e1 hl r x;have ok:=I.ok;exact⟨⟨ok.mod,ok.kind,ok.glob,ok.blt,ok.above,ok.inj,ok.has,ok.Gs,(λz=>vK z),qP e0.frames,.inr ⟨cm,cm⟩,ok.GY,ok.bs,ok.xw,ok.um,ok.uo,ok.gx,ok.Cj⟩,I.os,I.bare,I.base,I.loc,I.cell,I.free,I.ee,I.pin,I.ck,I.len⟩
theorem b7E{K}{kV}
  (lk:K.lookup f=fo ⟨oc,od,.func (iE name qual params body scope dV kV doc pm an ay ct),yc⟩) (xo:lZ K ay qual=true) (S:p7 N ps scope)
  (len:∀vs H Q E,sp vs H Q E->gu vs=gu ps)
  (fz:∀A outer s H vs Q E,NC k (A.deeper (dQ qual scope s.heap.objs.size f ay))->sp vs H Q E →
   ∃t,fu (NF P w K mg base N qual scope f ay A outer s H) body t/\t {nx:=λ_ H'=>Q .non H',rt:=Q} (V6 N vs) H) :
  ND P w K mg base (k+1) f (iE name qual params body scope dV kV doc pm an ay ct) ps sp:=by
 refine⟨len,λA outer s H args us vs Q E hr e0 hb r iu=>?_⟩;have KX:=e0.mod.zu.keeps λb o e=>(e0.bs b o e).1;have EK:∀y∈ps.zip us,scope.names.lookup y.1=fo .local\/(scope.names.lookup y.1=fo .cell/\((js (s.heap.objs.size+1) scope.names []).lookup y.1).isSome=true):=λ⟨n,v⟩ hy=>by
  rcases S.par n (nV hy).1 with q|q
  .exact .inl q
  .exact .inr ⟨q,qO _ _ _ (.inl q)⟩
 refine tN (by have:=hr.dp;lia) (KX _ _ lk) rfl S.co S.gen rfl (tO KX xo) (hb _ _ _ _ (tQ S.kind EK λenv he s1 x=>?_));subst he;refine⟨(e0.mod.nolimit.keeps λb o e=>(e0.bs b o e).1).keeps x.toInCall.keep,tR ?_⟩;obtain⟨t,ht,hq⟩:=fz A outer s H vs Q E ⟨by have:=hr.dp;show A.depth+1+3*k+5<_;lia,by have:=hr.un;show A.units+3+16*k+200<_;lia⟩ iu;refine eY (ht [] s1 (V6 N vs) H _ (a7W S e0 (len _ _ _ _ iu) r x) hq) (λfl s' hs=>?_) λe s' hs=>hs.elim;have fin:∀{au:St}{H':Hp}{v:V}{u:aE},Inv (NF P w K mg base N qual scope f ay A outer s H) [] au H' s'->RelV v u->Q v H'->CE outer P w H s Q u s' :=
  λ{au H' v u}J rv q=>⟨v,H',J.os,J.bare,J.base,J.ck,rv,q⟩
 cases fl with
 |ret u =>
  obtain⟨v,au,H',J,rv,q⟩:=hs;exact fin J rv q
 |next =>
  obtain⟨au,H',J,q⟩:=hs;exact fin (v:=V.non) J rfl q
 |brk =>
  obtain⟨_,_,_,q⟩:=hs;exact eD q
 |cont =>
  obtain⟨_,_,_,q⟩:=hs;exact eD q
theorem df.okU{K}{st}(F:df K x qual st f fd)(S:p7 N ps (i9 st))(len:∀vs H Q E,sp vs H Q E->gu vs=gu ps)
  (fz:∀ay A outer s H vs Q E,NC k (A.deeper (dQ qual (i9 st) s.heap.objs.size f ay))->sp vs H Q E →
   ∃t,fu (NF P w K mg base N qual (i9 st) f ay A outer s H) (x9 st) t/\t {nx:=λ_ H'=>Q .non H',rt:=Q} (V6 N vs) H):ND P w K mg base (k+1) f fd ps sp:=by
 obtain⟨oc,od,kV,doc,pm,an,ay,ct,yc,rfl,lk,xo⟩:=F.ex;exact b7E lk xo S len λA outer s H vs Q E hr iu=>fz ay A outer s H vs Q E hr iu
def df.oc{K}{st}(F:df K x qual st f fd)(S:p7 N ps (i9 st))(fz:∀ay A outer s H vs Q E,NC k (A.deeper (dQ qual (i9 st) s.heap.objs.size f ay))->sp vs H Q E →
   ∃t,fu (NF P w K mg base N qual (i9 st) f ay A outer s H) (x9 st) t/\t {nx:=λ_ H'=>Q .non H',rt:=Q} (V6 N vs) H)(len:∀vs H Q E,sp vs H Q E->gu vs=gu ps:=by rintro _ _ _ _ ⟨⟩;subst_vars;rfl):ND P w K mg base (k+1) f fd ps sp:=F.okU S len fz
theorem df.vj{K}{st}(F:df K x qual st f fd)(S:p7 N ps (i9 st))(len:∀vs H Q E,sp vs H Q E->gu vs=gu ps)
  (fz:∀ay A outer s H vs Q E,b_ k (A.deeper (dQ qual (i9 st) s.heap.objs.size f ay))->sp vs H Q E →
   ∃t,fu (N8 (W2 P w) P w K mg base N qual (i9 st) f ay A outer s H E) (x9 st) t/\t {nx:=λ_ H'=>Q .non H',rt:=Q} (V6 N vs) H):bf P w K mg base (W2 P w) (k+1) f fd ps sp:=by
 obtain⟨oc,od,kV,doc,pm,an,ay,ct,yc,rfl,lk,xo⟩:=F.ex;exact TU lk xo S len λA outer s H vs Q E hr iu=>fz ay A outer s H vs Q E hr iu
def df.ob{K}{st}(F:df K x qual st f fd)(S:p7 N ps (i9 st))(fz:∀ay A outer s H vs Q E,b_ k (A.deeper (dQ qual (i9 st) s.heap.objs.size f ay))->sp vs H Q E →
   ∃t,fu (N8 (W2 P w) P w K mg base N qual (i9 st) f ay A outer s H E) (x9 st) t/\t {nx:=λ_ H'=>Q .non H',rt:=Q} (V6 N vs) H)(len:∀vs H Q E,sp vs H Q E->gu vs=gu ps:=by rintro _ _ _ _ ⟨⟩;subst_vars;rfl):bf P w K mg base (W2 P w) (k+1) f fd ps sp:=F.vj S len fz
theorem b3l{p}{pos}(F:ND X.prog X.w X.K X.mg X.base k f fd ps sp)(hr:NC k X.A)(hg:Gl X x)(hm:X.mg x=fo (.ref f))(hk:dX X.K (.ref f)=true)(hb:Binds X.K fd ps [])
  (ha:PA X (e::es) t) (Cq:(x==("__debug__":aC))=false:=by decide) (he:jh (e::es) X.env=(false,eval e X.env)::jh es X.env:=by rfl) (wb:(jv pos (jh es X.env)).any (·.1)=false:=by rfl) :
  PE X (.Call (.Name x p) (e::es) [] pos) (Qf sp [] E0 t):=by
 intro ip s σ H Q I h;refine jK (Lm I hg hm (kM I.ok.mod.zu hk (D7 (ha pos ip s σ H _ I h) λus s1 ⟨vs,H1,I1,r,q⟩=>⟨I1.ix,?_⟩) he wb) Cq);replace q:sp (vs++[]) H1 Q E0:=q;rw[fP] at q;have hl:(us++[]).length=ps.length:=by rw[fP,<-r.length];exact F.len _ _ _ _ q
 have ou:=hb s1 us I1.ix hl;rw[fP] at ou;refine lV (nR (F.run X.A X.stack s1 H1 ⟨us,[]⟩ us vs Q E0 hr I1.Hf ou r q) λrr s' hq=>?_);cases rr with
 |error e=>exact eD hq
 |ok fl =>
  cases fl with
  |ret u=>exact I1.after hq
  |next=>exact eD hq
  |brk=>exact eD hq
  |cont=>exact eD hq
abbrev TJ:=St->Hp->(Hp->Prop)->Prop
def PJ(X:Cx)(es:List aR)(t:TJ):Prop :=
 ∀ip s(σ:St)H out Q,Inv X ip σ H s->out.length+2000*es.length<=100000->t σ H Q →
  iZ (jf X.prog X.w) X.A (joinParts out (evalEach es X.env)) (λu s'=>tq λx tk H'=>u=jB x tk/\Inv X ip σ H' s'/\Q H') X.xe s
theorem b2S:PJ X [] λ_ H Q=>Q H:=by
 intro ip s σ H out Q I hl h;refine vL (rJ ⟨_,_,H,rfl,I.tok _,h⟩ ?_);rw[bE];simp at hl;lia
theorem NG(h:PJ X es t)(ha:a.length<=1000:=by decide):PJ X (.Constant (.str a) j p1::es) t:=by
 intro ip s σ H out Q I hl ht;refine oM (kP (D7 (l9 ip s σ H (λv H'=>v=.str a/\H'=H) I ⟨rfl,rfl⟩) λu s1 ⟨v,H1,I1,r,hv,hH⟩=>?_));subst hv;subst hH;obtain⟨tk,rfl⟩:=r;simp only[eM] at hl;have e0:(out++a).length=out.length+a.length:=kQ ..;exact⟨by rw[e0,bE];lia,h ip s1 σ H1 (out++a) Q I1 (by lia) ht⟩
theorem UJ(he:PE X e te)(h:PJ X es t):PJ X (.FormattedValue e (-1) fO p2::es) λσ H Q=>te σ H λv H1=>∃i,v=.int i/\i.natAbs.log2<1920/\t σ H1 Q:=by
 intro ip s σ H out Q I hl ht;refine oM (kP (oG (D7 (he ip s σ H _ I ht) λu s2 ⟨v,H2,I2,r,i,hv,hi,q⟩=>?_)));subst hv;obtain⟨Nw,rfl⟩:=r;refine oH hi ?_;simp only[eM] at hl;have h1:=oJ (a:=i) (k:=1920) dz hi;have e0:(out++cN (toString i)).length=out.length+(toString i).length:=by rw[kQ,oK]
 exact⟨by rw[e0,bE];lia,h ip _ σ H2 _ Q (I2.tok _) dj q⟩
def tFg(t:TJ):TE:=λσ H Q=>t σ H λH1=>∀x,Q (.str x) H1
theorem a7G(h:PJ X (v1::v2::es) t)(hl:es.length<=20:=by decide):PE X (.JoinedStr (v1::v2::es) p3) (tFg t):=by
 intro ip s σ H Q I ht;refine rH (D7 (h ip s σ H eI _ I ?_ ht) λu s' ⟨x,tk,H',e1,I',q⟩=>?_)
 .show 0+2000*(es.length+1+1)<=100000;lia
 .subst e1;exact⟨.str x,H',I',⟨_,rfl⟩,q x⟩
open PySem.Builtin PySem.Builtin.Str
theorem a4L:∀l,Vals ((l.map (·.1)).map su) (strValues l)
 |[]=>.nil
 |p::l=>.cons ⟨p.2,cm⟩ (a4L l)
theorem a5q:∀{ys}{iq},Vals (ys.map su) iq->StrsAre iq ys
 |[],_,h=>by cases h;exact .nil
 |y::ys,_,h=>by
  cases h with
  |cons r t =>
   obtain⟨tk,rfl⟩:=r;exact .cons y tk (a5q t)
inductive b5J(x:V)(vs:List V)(H:Hp)(Q:VK):Prop|mk:∀z y,x=.str z->vs=[.str y]->(y.length==0)=false->z.length+2<=jb->(∀l,H l=fO->Q (.ref l) (upd H l (.lst ((aU z y).map su))))->b5J x vs H Q
theorem U4:Lz X "str.split" b5J:=by
 intro ip s σ H x vs v us Q I rx rv h;obtain⟨z,y,rfl,rfl,hy,xq,q⟩:=h;obtain⟨t,rfl⟩:=rx;obtain⟨u,rfl,ru⟩:=rv.one;obtain⟨u,rfl⟩:=ru;have hn:(partsBetween z (occurrences z y 0 z.length (z.length+1)) y.length).length<=jb:=by
  have e1:=StrLaws.occ_length_le z y 0 z.length (z.length+1);rw[length_partsBetween];lia
 have fin:∀(l:List (dZ×Tok))(k:Nat),l.map (·.1)=aU z y->l.length<=jb->s_ λv' H'=>Inv X ip σ H' {s with heap:=s.heap.push {cls:=.type "list",data:=.seq (strValues l).toArray},toks:=k}/\RelV v' (.ref s.heap.objs.size)/\Q v' H':=λl k e hl=>by
  refine⟨.ref s.heap.objs.size,_,I.laid (o:=.lst ((aU z y).map su)) (λb u e=>bL _ e) (aT _) ⟨?_,strValues l,0,?_,dG _ rfl⟩,cm,q _ (I.ck.fresh (aT _))⟩
  .rw[<-e,aH,aH];exact hl
  .rw[<-e];exact a4L l
 have ls:=λl k=>by
  have:=rd iT (vM k l);rw[aH] at this;exact this
 cases h1:(decide (z.length<y.length)||decide (strKind z<strKind y))
 .cases hf:(occurrences z y 0 z.length (z.length+1)).isEmpty
  .refine gF rL (mD _ _ _) rN (rO _ _) (meets_str_split_sep z y t u h1 hy hf dj hn) ?_;rw[strsFrom_eq];exact fin (numbered s.toks _) _ ((vM _ _).trans ((qf (ne_true_of_eq_false h1)).trans (qf (ne_true_of_eq_false hf))).symm) (by simp_all)
  .exact gF rL (mD _ _ _) rN (rO _ _) (meets_str_split_not_found z y t u h1 hy hf)
    (fin [(z,t)] s.toks ((qf (ne_true_of_eq_false h1)).trans (qg hf)).symm (dz:1<=jb))
 .exact gF rL (mD _ _ _) rN (rO _ _) (meets_str_split_cannot_occur z y t u h1)
   (fin [(z,t)] s.toks (qg h1).symm (dz:1<=jb))
inductive Qv(K:aF)(x:V)(vs:List V)(H:Hp)(Q:VK):Prop|mk:∀y l ys,x=.str y->vs=[.ref l]->ah K H l (ys.map su)->(ys.map (·.length)).sum+gu ys*y.length<=16777216->Q (.str (vN y ys)) H->Qv K x vs H Q
theorem W4:Lz X "str.join" (Qv X.K):=by
 intro ip s σ H x vs v us Q I rx rv h;obtain⟨y,l,ys,rfl,rfl,hl,hz,q⟩:=h;obtain⟨t,rfl⟩:=rx;obtain⟨u,rfl,ru⟩:=rv.one;cases ru;obtain⟨iq,r,p,_⟩:=I.list hl;exact join_list p.isList (a5q r) hz λt' k=>⟨.str _,H,I.tok _,⟨_,rfl⟩,q⟩
theorem a9s K(h:X.K=K):Lz X "str.join" (Qv K):=by subst h;exact W4
theorem DO:K6 X (.type "int") (λxs H Q=>s_ λz n=>xs=[.str z]/\PySem.intText? z=fo n/\z.length<=640/\Q (.int n) H):=by
 intro ip s σ H vs us Q I r h;obtain⟨z,n,rfl,hn,hl,q⟩:=h;obtain⟨u,rfl,ru⟩:=r.one;obtain⟨t,rfl⟩:=ru;exact W.KIN.call_text hn hl ⟨.int n,H,I.tok _,⟨_,cm⟩,q⟩
def UK(z:dZ):It:=⟨λi _=>i<z.cps.size,λi H x H'=>H'=H/\∃c,z.cps[i]?=fo c/\x=.str ⟨#[c]⟩,λi _=>z.cps.size<=i⟩
theorem b1m{P:aM}{w:aL}{K:aF}{tg:aR}(z:dZ)(t:Tok)(it:aA):JF P w K tg (UK z) [it] it (λi h=>h.IsStrIter it "str_ascii_iterator" z t i\/h.IsStrIter it "str_iterator" z t i) where
 mem:=fg
 obj:=λi h st b hb=>by
  have e:b=it:=by simp_all
  subst e;rcases st with st|st
  .obtain⟨o,e,c,d⟩:=st;exact⟨o,e,λv z=>by rw[d] at z;cases z⟩
  .obtain⟨o,e,c,d⟩:=st;exact⟨o,e,λv z=>by rw[d] at z;cases z⟩
 keep:=λi h h' st k=>by
  rcases st with⟨o,e,r⟩|⟨o,e,r⟩
  .exact .inl ⟨o,k it fg o e,r⟩
  .exact .inr ⟨o,k it fg o e,r⟩
 item:=by
  intro X hP hw hK hc i ip s σ H E I hf st hg;subst hP hw hK;have qo:i<z.cps.size:=hg;obtain⟨f0,f1,f2,f3,f4,f5⟩:=hf it fg;have hx:z.cps[i]?=fo z.cps[i]:=by simp[qo]
  rcases st with st|st
  .refine wpAny_pyNext_ascii_item st hx λh' x_ sb=>?_;obtain⟨o,e,c,d⟩:=id x_;exact⟨_,cm,MX e c d dz ⟨.str ⟨#[z.cps[i]]⟩,H,(I.turned (t':=s.toks+1) (λb o hb e=>(sb.2 b hb).trans e) f0 f1 f3 f4 f5),⟨_,cm⟩,⟨cm,_,hx,cm⟩,.inl x_,λb hb=>(hf b hb).1⟩⟩
  .refine wpAny_pyNext_wide_item st hx λh' x_ sb=>?_;obtain⟨o,e,c,d⟩:=id x_;exact⟨_,cm,MX e c d dz ⟨.str ⟨#[z.cps[i]]⟩,H,(I.turned (t':=s.toks+1) (λb o hb e=>(sb.2 b hb).trans e) f0 f1 f3 f4 f5),⟨_,cm⟩,⟨cm,_,hx,cm⟩,.inr x_,λb hb=>(hf b hb).1⟩⟩
 done:=by
  intro X hP hw hK hc i ip s σ H E I hf st hg;subst hP hw hK;have qo:z.cps.size<=i:=hg;obtain⟨f0,f1,f2,f3,f4,f5⟩:=hf it fg;have hx:z.cps[i]?=fO:=by simp[qo]
  rcases st with st|st
  .exact wpAny_pyNext_ascii_end (I.ok.hd hc) st hx λh' eb=>⟨cm,I.turned (λb o hb e=>eb b o hb e) f0 f1 f3 f4 f5⟩
  .exact wpAny_pyNext_wide_end (I.ok.hd hc) st hx λh' eb=>⟨cm,I.turned (λb o hb e=>eb b o hb e) f0 f1 f3 f4 f5⟩
 self:=λ_ _ _ _ _ st h=>st.elim (λst=>wpAny_pyIter_striter_ascii st h) λst=>wpAny_pyIter_striter_wide st h
def c1r(tl:TE):TI:=λσ H R=>tl σ H λx H1=>∃z,x=.str z/\R (UK z) H1
theorem b3d(hl:PE X l tl):PI X tg l (c1r tl):=by
 intro ip s σ H R I h;refine D7 (hl ip s σ H _ I h) λv s1 ⟨x,H1,I1,r1,q1⟩=>?_;obtain⟨z,e,q⟩:=q1;subst e;obtain⟨t,rfl⟩:=r1;have fin:∀(o:Obj),(s1.heap.push o).IsStrIter s1.heap.objs.size "str_ascii_iterator" z t 0\/(s1.heap.push o).IsStrIter s1.heap.objs.size "str_iterator" z t 0->PR X ip σ tg R (.ref s1.heap.objs.size) {s1 with heap:=s1.heap.push o}:=λo st =>
  ⟨s1.heap.objs.size,[s1.heap.objs.size],_,_,H1,cm,I1.kept λb o e=>bL _ e,b1m z t _,st,λb hb=>by
   have e:b=s1.heap.objs.size:=by simp_all
   subst e;exact I1.xy (aT _) (I1.ck.fresh (aT _)),q⟩
 cases ha:z.cps.all (·<128)
 .exact wpAny_pyIter_wide ha (fin _ (.inr ⟨_,dG _ rfl,cm,cm⟩))
 .exact wpAny_pyIter_ascii ha (fin _ (.inl ⟨_,dG _ rfl,cm,cm⟩))
def R6(z:dZ):List V:=z.cps.toList.map λc=>su ⟨#[c]⟩
theorem a7c:IL (UK z) H1 (R6 z):=by
 have l:gu (R6 z)=z.cps.size:=by unfold R6;rw[aH,lO]
 refine⟨λi H _ hi=>by rw[l] at hi;exact hi,λi H x H' _ hi y=>⟨y.1,?_⟩,λH _=>by rw[l];exact aT _⟩;obtain⟨c,hc,rfl⟩:=y.2;unfold R6;rw[aP,qW,hc];rfl
abbrev UM:=St->Hp->(dZ->Hp->Prop)->Prop
def LI(X:Cx)(es:List aR)(t:UM):Prop :=
 ∀ip s(σ:St)H out Q,Inv X ip σ H s->out.length+2000*es.length<=100000->t σ H Q →
  iZ (jf X.prog X.w) X.A (joinParts out (evalEach es X.env)) (λu s'=>tq λz tk H'=>u=jB (out++z) tk/\Inv X ip σ H' s'/\Q z H') X.xe s
def b0Q x:x++eI=x:=rfl
theorem b0L x:eI++x=x:=by
 cases x with|mk c=>show oN (#[]++c)=_;simp
theorem a5k(x y z:dZ):(x++y)++z=x++(y++z):=by
 cases x with|mk a=>cases y with|mk b=>cases z with|mk c =>
 show oN ((a++b)++c)=oN (a++(b++c))
 rw[sM]
def ES(v:V)(y:dZ):Prop:=(∃i,v=.int i/\i.natAbs.log2<1920/\y=cN (toString i))\/(v=.str y/\y.length<=2000)
theorem SA:LI X [] λ_ H Q=>Q eI H:=by
 intro ip s σ H out Q I hl h;exact vL (rJ ⟨Str.empty,_,H,by rw[b0Q],I.tok _,h⟩ (by rw[bE];simp at hl;lia))
theorem SE(h:LI X es t)(ha:a.length<=1000:=by decide):LI X (.Constant (.str a) j p1::es) λσ H Q=>t σ H λz H'=>Q (a++z) H':=by
 intro ip s σ H out Q I hl ht;refine oM (kP (D7 (l9 ip s σ H (λv H'=>v=.str a/\H'=H) I ⟨rfl,rfl⟩) λu s1 ⟨v,H1,I1,r,hv,hH⟩=>?_));subst hv;subst hH;obtain⟨tk,rfl⟩:=r;simp only[eM] at hl;have e0:(out++a).length=out.length+a.length:=kQ ..;refine⟨by rw[e0,bE];lia,D7 (h ip s1 σ H1 (out++a) _ I1 (by lia) ht) λu s' ⟨z,tk,H',e1,I',q⟩=>⟨a++z,tk,H',by rw[e1,a5k],I',q⟩⟩
theorem Qw(he:PE X e te)(h:LI X es t):LI X (.FormattedValue e (-1) fO p2::es) λσ H Q=>te σ H λv H1=>∃y,ES v y/\t σ H1 λz H'=>Q (y++z) H':=by
 intro ip s σ H out Q I hl ht;refine oM (kP (oG (D7 (he ip s σ H _ I ht) λu s2 ⟨v,H2,I2,r,y,hp,q⟩=>?_)));simp only[eM] at hl;have fin:∀(tk:Nat) ,y.length<=2000->(out++y).length<=jb/\iZ (jf X.prog X.w) X.A (joinParts (out++y) (evalEach es X.env)) (λu s'=>tq λz tk H'=>u=jB (out++z) tk/\Inv X ip σ H' s'/\Q z H') X.xe {s2 with toks:=tk}:=λtk hy=>by
  have e0:(out++y).length=out.length+y.length:=kQ ..;refine⟨by rw[e0,bE];lia,D7 (h ip _ σ H2 (out++y) _ (I2.tok _) dj q) λu s' ⟨z,tk,H',e1,I',q⟩=>⟨y++z,tk,H',by rw[e1,a5k],I',q⟩⟩
 rcases hp with⟨i,rfl,hi,rfl⟩|⟨rfl,hy⟩
 .obtain⟨Nw,rfl⟩:=r;refine oH hi ?_;have h1:=oJ (a:=i) (k:=1920) dz hi;exact fin _ (by rw[oK];lia)
 .obtain⟨Nw,rfl⟩:=r;exact vO (λt' tk=>fin tk hy) (by rw[bE];lia)
def tFe(t:UM):TE:=λσ H Q=>t σ H λz H1=>Q (.str z) H1
theorem SF(h:LI X (v1::v2::es) t)(hl:es.length<=20:=by decide):PE X (.JoinedStr (v1::v2::es) p3) (tFe t):=by
 intro ip s σ H Q I ht;refine rH (D7 (h ip s σ H eI _ I ?_ ht) λu s' ⟨z,tk,H',e1,I',q⟩=>?_)
 .show 0+2000*(es.length+1+1)<=100000;lia
 .subst e1;exact⟨.str z,H',I',⟨_,by rw[b0L]⟩,q⟩
theorem b3L(he:PE X e te):PE X (.JoinedStr [.FormattedValue e (-1) fO p2] p3) (λσ H Q=>te σ H λv H1=>∃y,ES v y/\Q (.str y) H1):=by
 intro ip s σ H Q I ht;refine JoinedStr_one (oG (D7 (he ip s σ H _ I ht) λu s2 ⟨v,H2,I2,r,y,hp,q⟩=>?_));rcases hp with⟨i,rfl,hi,rfl⟩|⟨rfl,hy⟩
 .obtain⟨Nw,rfl⟩:=r;exact oH hi ⟨.str _,H2,I2.tok _,⟨_,cm⟩,q⟩
 .obtain⟨Nw,rfl⟩:=r;exact vO (λt' tk=>⟨.str _,H2,I2.tok _,⟨_,cm⟩,q⟩) (by rw[bE];lia)
inductive c0O(x:V)(lo hi:Option Int)(H:Hp)(Q:VK):Prop|mk:∀z,x=.str z->z.length<=jb->Q (.str (eQ z lo hi)) H->c0O x lo hi H Q
theorem b0T z lo hi:∀c∈(eQ z lo hi).cps.toList,c∈z.cps.toList:=λc hc=>by
 unfold eQ at hc;split at hc
 .exact hc
 .obtain⟨i,_,hi⟩:=nK.mp (by simpa using hc);obtain⟨h1,h2⟩:=Array.getElem?_eq_some_iff.mp hi;rw[<-h2];exact Array.getElem_mem_toList h1
theorem Jh:TV X c0O:=by
 intro ip s σ H x v vl vu lo hi sl Q I rx hs pl pu h;obtain⟨z,rfl,hz,q⟩:=h;obtain⟨t,rfl⟩:=rx;refine⟨"str",_,slot_str_getitem.lookup,mD s z t,?_⟩;obtain⟨l,e1,e2⟩:∃l,vl=partValue l/\l.map (·.1)=lo:=by
  cases pl
  .exact⟨fO,cm,cm⟩
  .exact⟨fo (_,_),cm,cm⟩
 obtain⟨u,e3,e4⟩:∃l,vu=partValue l/\l.map (·.1)=hi:=by
  cases pu
  .exact⟨fO,cm,cm⟩
  .exact⟨fo (_,_),cm,cm⟩
 subst e1 e2 e3 e4;refine wpAny_getItem_str_slice (st:=fO) hs rfl ?_;unfold sliceMade;have e:eQ z (l.map (·.1)) (u.map (·.1))=if ((xY (λx:Int×Tok=>x.fst) fO).getD (1:Int)==1&&gu (slicePicked z l u fO)==z.length)=true then z else {cps:=(xZ (λx_1=>z.cps[x_1]?) (slicePicked z l u fO)).toArray}:=rfl;have hle:=yA z (l.map (·.1)) (u.map (·.1));rw[e] at q hle
 by_cases c:((xY (λx:Int×Tok=>x.fst) fO).getD (1:Int)==1&&gu (slicePicked z l u fO)==z.length)=true
 .rw[qg c] at q⊢;exact⟨.str z,H,I,⟨_,cm⟩,q⟩
 .rw[qf c] at q hle⊢;exact⟨Nat.le_trans hle hz,.str _,H,I.tok _,⟨_,cm⟩,q⟩
end L2
namespace L2
open PySem PySem.Spec PyProof.Rows
theorem b5e(q1:iU s.heap j tp i)(q2:gP s.heap tp vs)(q3:vs[i]?=fo x)
  (q:∀h',iU h' j tp (i+1)->kH j s.heap h'->Q x {s with heap:=h'}):iZ (jf prog w) A (gH (.ref j)) Q E s:=by
 obtain⟨oj,g1,g2,g3⟩:=id q1;obtain⟨ot,g4,_,nt,g5⟩:=q2;unfold gH;refine aN (oO q1.typeIs oP (oQ oP q1.typeIs vT ?_ (vU _)));show iZ _ _ (field (.ref j) 0 >>= _) _ _ s;refine aN (gA g1 g3 rfl ?_);rw[qf λz=>by cases z];refine aN (gA g1 g3 rfl (aN (gX g4 g5 ?_)));simp only[cF,q3];refine aN (vV g1 g3 fg (bG ⟨x,cm,bG (q _ ⟨_,uA _ g1 (Obj.isFreed_of_fields (vW g3 _)),(Obj.cls_mapFields ..).trans g2,?_⟩ (mS ..))⟩));rw[vW g3];simp[nz]
theorem b7J(hh:A.handled=fO)(q1:iU s.heap j tp i)(q2:gP s.heap tp vs)(q3:vs[i]?=fO)
  (q:∀h' e,mU j s.heap h'->(∃o,h'.get? e=fo o/\o.cls=.type "StopIteration")->E (.ref e) {s with heap:=h'}):iZ (jf prog w) A (gH (.ref j)) Q E s:=by
 obtain⟨oj,g1,g2,g3⟩:=id q1;obtain⟨ot,g4,_,nt,g5⟩:=q2;unfold gH;refine aN (oO q1.typeIs oP (oQ oP q1.typeIs vT ?_ (vU _)));show iZ _ _ (field (.ref j) 0 >>= _) _ _ s;refine aN (gA g1 g3 rfl ?_);rw[qf λz=>by cases z];refine aN (gA g1 g3 rfl (aN (gX g4 g5 ?_)));simp only[cF,q3];refine aN (lR (aN (vV g1 g3 fg ?_)));show iZ _ _ (do let e <- newExc (.type "StopIteration") [];_) _ _ _;refine aN (aN (lQ (aN (wpAny_of_eq rfl (lQ (aN (wpAny_handled ?_)) (by size_fits)))) (by size_fits)));rw[show A.in1.handled=fO from hh];exact aN (bG (wpAny_throw (q _ _ (((mS ..).extBut.push _).push _) ⟨_,dG _ rfl,cm⟩)))
def iU.at'(x:iU h a t i)(e:∀o,h.get? a=fo o->h'.get? a=fo o):iU h' a t i:=let ⟨o,ho,r⟩:=x;⟨o,e _ ho,r⟩
def gz:Bool->aJ->aA->Array aE->Prop
 |true,h,t,xs=>h.IsList t xs
 |false,h,t,xs=>gP h t xs
def g_:Bool->aJ->aA->aA->Nat->Prop
 |true,h,j,t,k=>h.IsListIter j t k
 |false,h,j,t,k=>iU h j t k
def xt:Bool->aF->Hp->aA->List V->Prop
 |true,K,H,a,xs=>ah K H a xs
 |false,K,H,a,xs=>cq K H a xs
def NH:Bool->String
 |true=>"list_iterator"
 |false=>"tuple_iterator"
theorem g_.at'(x:g_ b h j t k)(e:∀o,h.get? j=fo o->h'.get? j=fo o):g_ b h' j t k:=by
 cases b
 .exact iU.at' x e
 .exact Heap.IsListIter.at x e
def g_.extBut(x:g_ b h j t k)(hs:mU c h h')(n:j≠c):g_ b h' j t k:=x.at' λo e=>hs j o n e
theorem gz.at'(x:gz b h t xs)(e:∀o,h.get? t=fo o->h'.get? t=fo o):gz b h' t xs:=by
 cases b
 .obtain⟨o,ho,r⟩:=x;exact⟨o,e o ho,r⟩
 .obtain⟨o,ho,r⟩:=x;exact⟨o,e o ho,r⟩
def gz.extBut(x:gz b h t xs)(hs:mU c h h')(n:t≠c):gz b h' t xs:=x.at' λo e=>hs t o n e
def gz.push(x:gz b h t xs)o:gz b (h.push o) t xs:=x.at' λ_ e=>bL _ e
theorem gz.lt(x:gz b h t xs):t<h.objs.size:=by
 cases b
 .obtain⟨o,ho,_⟩:=x;exact bN ho
 .obtain⟨o,ho,_⟩:=x;exact bN ho
theorem g_.mk(e:h.get? j=fo {cls:=.type (NH b),data:=.fields #[.ref t,.int 0 0]}):g_ b h j t 0:=by
 cases b
 .exact⟨_,e,cm,cm⟩
 .exact⟨_,e,cm,cm⟩
theorem g_.obj(x:g_ b h j t k):∃o,h.get? j=fo o/\∃vs,o.data=.fields vs:=by
 cases b
 .obtain⟨o,ho,_,d⟩:=x;exact⟨o,ho,_,d⟩
 .obtain⟨o,ho,_,d⟩:=x;exact⟨o,ho,_,d⟩
theorem af.CG{K}(e:af H H')(x:xt b K H a ys):xt b K H' a ys:=by
 cases b
 .exact e.cm x
 .exact e.seq x
theorem Inv.CG{σ:St}(I:Inv X ip σ H s)(x:xt b X.K H a ys):∃iq,Vals ys iq/\gz b s.heap a iq.toArray/\gu ys<=jb:=by
 cases b
 .exact I.tuple x
 .obtain⟨i,r,p,z⟩:=I.list x;exact⟨i,r,p.isList,z⟩
theorem Inv.BD{σ:St}(I:Inv X ip σ H s)(x:xt b X.K H a ys)(y:xt b X.K H a zs):ys=zs:=by
 cases b
 .exact I.vh x y
 .exact I.rh x y
theorem UN(q1:g_ b s.heap j tp i)(q2:gz b s.heap tp vs)(q3:vs[i]?=fo x)
  (q:∀h',g_ b h' j tp (i+1)->kH j s.heap h'->Q x {s with heap:=h'}):iZ (jf prog w) A (gH (.ref j)) Q E s:=by
 cases b
 .exact b5e q1 q2 q3 q
 .exact wpAny_nextOf_list_item q1 q2 q3 q
theorem Ij(hh:A.handled=fO)(q1:g_ b s.heap j tp i)(q2:gz b s.heap tp vs)(q3:vs[i]?=fO)
  (q:∀h' e,mU j s.heap h'->(∃o,h'.get? e=fo o/\o.cls=.type "StopIteration")->E (.ref e) {s with heap:=h'}):iZ (jf prog w) A (gH (.ref j)) Q E s:=by
 cases b
 .exact b7J hh q1 q2 q3 q
 .exact wpAny_nextOf_list_end hh q1 q2 q3 q
theorem b6t(m:gz b s.heap t xs)(h:Q (.ref s.heap.objs.size) {s with heap:=s.heap.push {cls:=.type (NH b),data:=.fields #[.ref t,.int 0 0]}}):iZ (jf prog w) A (pyIter (.ref t)) Q E s:=by
 cases b
 .exact iter_tuple m h
 .exact nF m h
abbrev Y0(h:aJ)(z ti to:aA)(f0:aE)(f1:Bool):Prop :=
 h.get? z=fo {cls:=.type "zip",dict:=fO,data:=.fields #[f0,.bool f1,.bool false,.ref ti,.ref to],slots:=#[]}
def Zf_(v:aE):Prop:=v=.none\/∃a:Nat,v=nz a
structure dK(b1 b2:Bool)(z ti to j1 j2 t1 t2:aA)(f0:aE)(f1:Bool)(k:Nat)(h:aJ):Prop where
 z:Y0 h z ti to f0 f1
 zf:Zf_ f0
 p1:dN h ti (.ref j1) (.ref j2)
 p2:s_ λa b=>dN h to a b
 i1:g_ b1 h j1 t1 k
 i2:g_ b2 h j2 t2 k
section
variable{b1 b2:Bool}{h h':aJ}{z ti to j1 j2 t1 t2:aA}{f0:aE}{f1:Bool}{k:Nat}
theorem dK.obj(q:dK b1 b2 z ti to j1 j2 t1 t2 f0 f1 k h):∀b∈[z,ti,to,j1,j2],∃o,h.get? b=fo o/\∀v,o.data≠.cell v:=λb hb=>by
 obtain⟨hz,_,Hn,⟨a,c,IP⟩,h1,h2⟩:=q;obtain⟨o1,e1,v1,d1⟩:=h1.obj;obtain⟨o2,e2,v2,d2⟩:=h2.obj;simp only[bH,dJ,or_false] at hb;rcases hb with rfl|rfl|rfl|rfl|rfl
 .exact⟨_,hz,nofun⟩
 .exact⟨_,Hn,nofun⟩
 .exact⟨_,IP,nofun⟩
 .exact⟨o1,e1,λv q=>by rw[d1] at q;cases q⟩
 .exact⟨o2,e2,λv q=>by rw[d2] at q;cases q⟩
def dK.keep(q:dK b1 b2 z ti to j1 j2 t1 t2 f0 f1 k h)(m:∀b∈[z,ti,to,j1,j2],∀o,h.get? b=fo o->h'.get? b=fo o):dK b1 b2 z ti to j1 j2 t1 t2 f0 f1 k h' :=
 let ⟨a,c,IP⟩:=q.p2
 ⟨m z fg _ q.z,q.zf,m ti fg _ q.p1,⟨a,c,m to fg _ IP⟩,q.i1.at' λo e=>m j1 fg o e,q.i2.at' λo e=>m j2 fg o e⟩
end
def f0A{h:aJ}{fp:List aA}{F:Obj->Prop}(q:∀b∈fp,∃o,h.get? b=fo o/\F o):∀b∈fp,b≠h.objs.size:=λb hb e =>
 let ⟨_,ho,_⟩:=q b hb
 absurd (bN ho) (e▸dO _)
theorem c8N(h:Q (s.heap.get? a) s):iZ (jf prog w) A (loadIfAlive a) Q E s:=λΓ p _=>by
 show Sem.wp (jf prog w) Γ (.loadIfAlive a .pure) _ _ p s;rw[Sem.wp_loadIfAlive];exact h
theorem c9n(q0:Y0 s.heap z ti to f0 f1)(z0:Zf_ f0)(h1:Q true s)(h2:f0≠.none->∀h',Y0 h' z ti to f0 true->kH z s.heap h'->Q false {s with heap:=h'}) :
  iZ (jf prog w) A (oR (.ref z)) Q E s:=by
 unfold oR;refine aN (gA q0 rfl rfl ?_);rcases z0 with rfl|⟨a,rfl⟩
 .exact bG h1
 .show iZ _ _ (loadIfAlive (a:Int).toNat >>= _) _ _ s;refine aN (c8N ?_);cases hg:s.heap.get? (a:Int).toNat with
  |none=>exact bG h1
  |some o =>
   refine aN (gA q0 rfl rfl ?_);cases f1 with
   |true=>exact bG (h2 nofun s.heap q0 ⟨cm,λ_ _=>rfl⟩)
   |false =>
    exact aN (kU q0 fg λu1 z1 s1=>bG (h2 nofun u1 z1 s1))
theorem d1J{Q:aE->aG->Prop}(D:jO z ti to j1 j2 t1 t2)(st:dK b1 b2 z ti to j1 j2 t1 t2 f0 f1 k s.heap)(l1:gz b1 s.heap t1 xs)(l2:gz b2 s.heap t2 ys)(ex:xs[k]?=fo x)(ey:ys[k]?=fo y)
  (q:∀h' AE AI,(f0=.none->f1=false->AE=nz s.heap.objs.size/\AI=false)->dK b1 b2 z ti to j1 j2 t1 t2 AE AI (k+1) h'->dN h' s.heap.objs.size x y->h'.objs.size=s.heap.objs.size+1 →
   (∀c o,c ∉ [z,ti,to,j1,j2]->s.heap.get? c=fo o->h'.get? c=fo o)->Q (.ref s.heap.objs.size) {s with heap:=h'}) :
  iZ (jf prog w) A (iH.«zip.__next__» ⟨[.ref z],[]⟩) (λfin s'=>∃v,fin=.done (.ret v)/\Q v s') E s:=by
 obtain⟨q0,z0,p1,⟨a,b,p2⟩,i1,i2⟩:=st;show iZ _ _ (field (.ref z) 2 >>= _) _ _ _;refine aN (gA q0 rfl rfl (show iZ _ _ (field (.ref z) 3 >>= _) _ _ _ from aN (gA q0 rfl rfl (aN (gX p1 rfl ?_)))));show iZ _ _ (do let free <- oR (.ref z);_) _ _ _;refine aN (c9n q0 z0 ?_ λnf v1 z1 s1=>?_)
 .simp only[if_true];refine aN (lR (aN (gA q0 rfl rfl (aN (kU q0 fg λu1 z1 s1=>(aN (aN (aN (mV (show iZ _ _ (gH (.ref j1) >>= _) _ _ _ from aN (UN (i1.extBut s1.extBut D.i1z) (l1.extBut s1.extBut D.l1z) ex λu2 DP s2=>bG ?_)))))))))));have to2:=s2.extBut _ _ D.TOi1 (s1.extBut _ _ D.TOz p2);refine aN (gX to2 rfl (aN (rS to2 λu3 to3 s3=>aN (jR (bG ?_)))));refine aN (aN (mV (show iZ _ _ (gH (.ref j2) >>= _) _ _ _ from aN (UN (((i2.extBut s1.extBut D.i2z).extBut s2.extBut D.i12.symm).extBut s3.extBut D.TOi2.symm)
   (((l2.extBut s1.extBut D.l2z).extBut s2.extBut D.l2i1).extBut s3.extBut D.l2TO) ey λu4 SH s4=>bG ?_))))
  have to4:=s4.extBut _ _ D.TOi2 to3;refine aN (gX to4 rfl (aN (rS to4 λu5 to5 s5=>aN (jR (bG (bG ?_))))));have NI:dN u5 to x y:=to5;refine aN (gX NI rfl (aN (wpAny_newTuple ?_)));have sz:u5.objs.size=s.heap.objs.size:=by rw[s5.1,s4.1,s3.1,s2.1,s1.1]
  have z5:Y0 u5 z ti to .ellipsis f1:=s5.extBut _ _ D.TOz.symm (s4.extBut _ _ D.i2z.symm (s3.extBut _ _ D.TOz.symm (s2.extBut _ _ D.i1z.symm z1)));have kp:∀c o,c≠z->c≠to->c≠j1->c≠j2->s.heap.get? c=fo o->u5.get? c=fo o:=λc o n1 n2 n3 n4 e=>s5.extBut _ _ n2 (s4.extBut _ _ n4 (s3.extBut _ _ n2 (s2.extBut _ _ n3 (s1.extBut _ _ n1 e))));have zl:z<u5.objs.size:=bN z5;show iZ _ _ (do let r <- vZ (.ref z) (.ref u5.objs.size);_) _ _ _;unfold vZ;have z6:Y0 (u5.push {cls:=.type "tuple",data:=.seq #[x,y]}) z ti to .ellipsis f1:=bL _ z5;refine aN (aN (kU z6 fg λu7 z7 s7=>(kU z7 fg λu8 z8 s8=>?_)));have z8':Y0 u8 z ti to (nz u5.objs.size) false:=z8;have up:∀c o,c≠z->u5.get? c=fo o->u8.get? c=fo o:=λc o n1 e=>s8.extBut _ _ n1 (s7.extBut _ _ n1 (bL _ e));have nt8:dN u8 u5.objs.size x y:=s8.extBut _ _ (gR zl) (s7.extBut _ _ (gR zl) (dG _ rfl));have SI:u8.objs.size=s.heap.objs.size+1:=by rw[s8.1,s7.1,gS,sz]
  rw[sz] at z8' nt8;refine bG ⟨_,cm,?_⟩;show Q (.ref u5.objs.size) _;rw[sz];exact q u8 _ _ (λ_ _=>⟨cm,cm⟩) ⟨z8',.inr ⟨_,cm⟩,up _ _ D.TIz (kp _ _ D.TIz D.TITO D.TIi1 D.TIi2 p1),⟨_,_,up _ _ D.TOz NI⟩,(((DP.extBut s3.extBut D.TOi1.symm).extBut s4.extBut D.i12).extBut s5.extBut D.TOi1.symm).at' λo e=>up _ o D.i1z e,(SH.extBut s5.extBut D.TOi2.symm).at' λo e=>up _ o D.i2z e⟩ nt8 SI λc o hb e=>by
   simp only[bH,dJ,or_false,not_or] at hb;exact up c o hb.1 (kp c o hb.1 hb.2.2.1 hb.2.2.2.1 hb.2.2.2.2 e)
 .simp only[uT,if_false];rw[hX];simp only[oA,qZ];refine aN (aN (aN (iP (show iZ _ _ (gH (.ref j1) >>= _) _ _ _ from aN (UN (i1.extBut s1.extBut D.i1z) (l1.extBut s1.extBut D.l1z) ex λu2 DP s2=>bG (bG (aN (aN (iP (show iZ _ _ (gH (.ref j2) >>= _) _ _ _ from aN (UN ((i2.extBut s1.extBut D.i2z).extBut s2.extBut D.i12.symm) ((l2.extBut s1.extBut D.l2z).extBut s2.extBut D.l2i1) ey λu3 SH s3=>bG (bG (bG (aN (wpAny_newTuple ?_ (aw))))))))))))))));have sz:u3.objs.size=s.heap.objs.size:=by rw[s3.1,s2.1,s1.1]
  have kp:∀c o,c≠z->c≠j1->c≠j2->s.heap.get? c=fo o->u3.get? c=fo o:=λc o n1 n3 n4 e=>s3.extBut _ _ n4 (s2.extBut _ _ n3 (s1.extBut _ _ n1 e));have up:∀c o,u3.get? c=fo o->(u3.push {cls:=.type "tuple",data:=.seq #[x,y]}).get? c=fo o:=λc o e=>bL _ e;have nt:dN (u3.push {cls:=.type "tuple",data:=.seq #[x,y]}) s.heap.objs.size x y:=by rw[<-sz];exact dG _ rfl
  have SI:(u3.push {cls:=.type "tuple",data:=.seq #[x,y]}).objs.size=s.heap.objs.size+1:=by rw[gS,sz]
  refine bG ⟨_,cm,?_⟩;show Q (.ref u3.objs.size) _;rw[sz];exact q _ f0 true (λm=>absurd m nf) ⟨up _ _ (s3.extBut _ _ D.i2z.symm (s2.extBut _ _ D.i1z.symm z1)),z0,up _ _ (kp _ _ D.TIz D.TIi1 D.TIi2 p1),⟨a,b,up _ _ (kp _ _ D.TOz D.TOi1 D.TOi2 p2)⟩,(DP.extBut s3.extBut D.i12).at' λo e=>up _ o e,SH.at' λo e=>up _ o e⟩ nt SI λc o hb e=>by
   simp only[bH,dJ,or_false,not_or] at hb;exact up _ _ (kp c o hb.1 hb.2.2.2.1 hb.2.2.2.2 e)
theorem d2o(hh:A.handled=fO)(D:jO z ti to j1 j2 t1 t2)(st:dK b1 b2 z ti to j1 j2 t1 t2 f0 f1 k s.heap)(l1:gz b1 s.heap t1 xs)(l2:gz b2 s.heap t2 ys)(en:xs[k]?=fO\/ys[k]?=fO)
  (q':∀h' e,(∀c o,c ∉ [z,ti,to,j1,j2]->s.heap.get? c=fo o->h'.get? c=fo o)->(∃o,h'.get? e=fo o/\o.cls=.type "StopIteration")->E (.ref e) {s with heap:=h'}) :
  iZ (jf prog w) A (iH.«zip.__next__» ⟨[.ref z],[]⟩) Q E s:=by
 obtain⟨q0,z0,p1,⟨a,b,p2⟩,i1,i2⟩:=st;have q:∀h' e,(∀c o,c≠z->c≠to->c≠j1->c≠j2->s.heap.get? c=fo o->h'.get? c=fo o)->(∃o,h'.get? e=fo o/\o.cls=.type "StopIteration")->E (.ref e) {s with heap:=h'}:=λh' e k=>q' h' e λc o hb=>by
  simp only[bH,dJ,or_false,not_or] at hb;exact k c o hb.1 hb.2.2.1 hb.2.2.2.1 hb.2.2.2.2
 show iZ _ _ (field (.ref z) 2 >>= _) _ _ _;refine aN (gA q0 rfl rfl (show iZ _ _ (field (.ref z) 3 >>= _) _ _ _ from aN (gA q0 rfl rfl (aN (gX p1 rfl ?_)))));show iZ _ _ (do let free <- oR (.ref z);_) _ _ _;refine aN (c9n q0 z0 ?_ λnf v1 z1 s1=>?_)
 .simp only[if_true];refine aN (lR (aN (gA q0 rfl rfl (aN (kU q0 fg λu1 z1 s1=>?_)))));have Qy:=z1;refine aN ?_;simp only[vX,vY,oA,qZ];cases ex:xs[k]? with
  |none =>
   refine aN (aN (mV (show iZ _ _ (gH (.ref j1) >>= _) _ _ _ from aN (Ij hh (i1.extBut s1.extBut D.i1z) (l1.extBut s1.extBut D.l1z) ex λu2 e s2 ⟨oe,e1,e2⟩=>?_))));have z2:Y0 u2 z ti to .ellipsis f1:=s2 _ _ D.i1z.symm Qy;have ne:e≠z:=λc=>by subst c;rw[z2] at e1;cases e1;simp at e2
   exact kU z2 fg λu3 _ s3=>q u3 e (λc o n1 _ n3 _ m=>s3.extBut _ _ n1 (s2 _ _ n3 (s1.extBut _ _ n1 m))) ⟨oe,s3.extBut _ _ ne e1,e2⟩
  |some x =>
   have ey:ys[k]?=fO:=by
    rcases en with m|m
    .rw[ex] at m;cases m
    .exact m
   refine aN (aN (mV (show iZ _ _ (gH (.ref j1) >>= _) _ _ _ from aN (UN (i1.extBut s1.extBut D.i1z) (l1.extBut s1.extBut D.l1z) ex λu2 DP s2=>bG ?_))));have to2:dN u2 to a b:=s2.extBut _ _ D.TOi1 (s1.extBut _ _ D.TOz p2);refine aN (gX to2 rfl (aN (rS to2 λu3 to3 s3=>aN (jR (bG ?_)))));refine aN (aN (mV (show iZ _ _ (gH (.ref j2) >>= _) _ _ _ from aN (Ij hh (((i2.extBut s1.extBut D.i2z).extBut s2.extBut D.i12.symm).extBut s3.extBut D.TOi2.symm)
    (((l2.extBut s1.extBut D.l2z).extBut s2.extBut D.l2i1).extBut s3.extBut D.l2TO) ey λu4 e s4 ⟨oe,e1,e2⟩=>?_))))
   have z4:Y0 u4 z ti to .ellipsis f1:=s4 _ _ D.i2z.symm (s3.extBut _ _ D.TOz.symm (s2.extBut _ _ D.i1z.symm Qy));have ne:e≠z:=λc=>by subst c;rw[z4] at e1;cases e1;simp at e2
   exact kU z4 fg λu5 _ s5=>q u5 e (λc o n1 n2 n3 n4 m=>s5.extBut _ _ n1 (s4 _ _ n4 (s3.extBut _ _ n2 (s2.extBut _ _ n3 (s1.extBut _ _ n1 m))))) ⟨oe,s5.extBut _ _ ne e1,e2⟩
 .simp only[uT,if_false];rw[hX];simp only[oA,qZ];cases ex:xs[k]? with
  |none =>
   exact aN (aN (aN (iP (show iZ _ _ (gH (.ref j1) >>= _) _ _ _ from aN (Ij hh (i1.extBut s1.extBut D.i1z) (l1.extBut s1.extBut D.l1z) ex λu2 e s2 r=>q u2 e (λc o n1 _ n3 _ m=>s2 _ _ n3 (s1.extBut _ _ n1 m)) r)))))
  |some x =>
   have ey:ys[k]?=fO:=by
    rcases en with m|m
    .rw[ex] at m;cases m
    .exact m
   exact aN (aN (aN (iP (show iZ _ _ (gH (.ref j1) >>= _) _ _ _ from aN (UN (i1.extBut s1.extBut D.i1z) (l1.extBut s1.extBut D.l1z) ex λu2 DP s2=>bG (bG (aN (aN (iP (show iZ _ _ (gH (.ref j2) >>= _) _ _ _ from aN (Ij hh ((i2.extBut s1.extBut D.i2z).extBut s2.extBut D.i12.symm) ((l2.extBut s1.extBut D.l2z).extBut s2.extBut D.l2i1) ey λu3 e s3 r=>q u3 e (λc o n1 _ n3 n4 m=>s3 _ _ n4 (s2.extBut _ _ n3 (s1.extBut _ _ n1 m))) r)))))))))))
theorem d1M{i:Nat}{G:aE->aJ->Prop}(he:IsEnum s.heap e it i old)
  (hn:∀Q' E',(∀x h',IsEnum h' e it i old->G x h'->Q' x {s with heap:=h'})->iZ (jf prog w) A.in1 (gH (.ref it)) Q' E' s)
  (hQ:∀x h1 h' tk,G x h1->mH h' e it ((i:Int)+1) x h1.objs.size->h'.get? h1.objs.size=fo {cls:=.type "tuple",data:=.seq #[.int i tk,x]}->(∀b o,b≠e->h1.get? b=fo o->h'.get? b=fo o)->Q (fo (.ref h1.objs.size)) {s with heap:=h',toks:=tk+1}) :
  iZ (jf prog w) A (mh (.ref e)) Q E s:=by
 have hT:s.TypeIs (.ref e) "enumerate":=⟨_,he,cm⟩;unfold mh;refine aN (wA (oO hT cL (oQ cL hT Re ?_ (Rs _))));show iZ _ _ (field (.ref e) 2 >>= _) _ _ _;refine aN (gA he rfl rfl (aN (hn _ _ λx h1 Yz g=>?_)));obtain⟨hp,gg,d,tk,os⟩:=s;refine aN (gA Yz rfl rfl (aN (gA Yz rfl rfl (aN (wpAny_mkInt (aN (kU Yz fg λh2 he2 s2=>?_)))))));have SJ:=he2;refine aN (kU SJ fg λh3 he3 s3=>?_);have SO:=he3;refine aN (wpAny_newTuple ?_);have SX:IsEnum (h3.push {cls:=.type "tuple",data:=.seq #[.int i tk,x]}) e it ((i:Int)+1) old:=bL _ SO;have sz:h3.objs.size=h1.objs.size:=by rw[s3.1,s2.1]
 have tt:(h3.push {cls:=.type "tuple",data:=.seq #[.int i tk,x]}).get? h1.objs.size=fo {cls:=.type "tuple",data:=.seq #[.int i tk,x]}:=by rw[<-sz];exact dG _ rfl
 have kp:∀b o,b≠e->h1.get? b=fo o->(h3.push {cls:=.type "tuple",data:=.seq #[.int i tk,x]}).get? b=fo o:=λb o nb q=>bL _ (s3.extBut b o nb (s2.extBut b o nb q));rw[sz];generalize h3.push {cls:=.type "tuple",data:=.seq #[.int i tk,x]}=h4 at *;refine aN ?_;unfold oR;refine aN (gA SX rfl rfl (bG (aN (lR (aN (gA SX rfl rfl (aN (kU SX fg λh5 he5 s5=>?_))))))));have SY:=he5;refine aN ?_;unfold vZ;refine aN (kU SY fg λh6 he6 s6=>(kU he6 fg λh7 he7 s7=>?_));have up:=λb o nb q=>s7.extBut b o nb (s6.extBut b o nb (s5.extBut b o nb q));exact aN (jR (bG ⟨_,cm,bG (hQ x h1 h7 tk g he7 (up _ _ (gR (bN Yz)) tt) λb o nb q=>up b o nb (kp b o nb q))⟩))
theorem d2f(he:IsEnum s.heap e it i old)
  (hn:∀Q' E',(∀h' x,(∃o,h'.get? x=fo o/\o.cls=.type "StopIteration")->Q fO {s with heap:=h'}->E' (.ref x) {s with heap:=h'})->iZ (jf prog w) A.in1 (gH (.ref it)) Q' E' s) :
  iZ (jf prog w) A (mh (.ref e)) Q E s:=by
 have hT:s.TypeIs (.ref e) "enumerate":=⟨_,he,cm⟩;unfold mh;refine aN (wA (oO hT cL (oQ cL hT Re ?_ (Rs _))));show iZ _ _ (field (.ref e) 2 >>= _) _ _ _;exact aN (gA he rfl rfl (aN (hn _ _ λh' x ⟨o,ho,hc⟩ q=>(aN (wpAny_isInstance ⟨o,ho,hc⟩ isSubtype_stop (bG q))))))
abbrev Qz(b1:Bool)(h:aJ)(t1:aA):aJ:=h.push {cls:=.type (NH b1),data:=.fields #[.ref t1,.int 0 0]}
abbrev QA(b1 b2:Bool)(h:aJ)(t1 t2:aA):aJ:=(Qz b1 h t1).push {cls:=.type (NH b2),data:=.fields #[.ref t2,.int 0 0]}
abbrev QB(b1 b2:Bool)(h:aJ)(t1 t2:aA):aJ:=(QA b1 b2 h t1 t2).push {cls:=.type "tuple",data:=.seq #[.ref h.objs.size,.ref (Qz b1 h t1).objs.size]}
abbrev QC(b1 b2:Bool)(h:aJ)(t1 t2:aA):aJ:=(QB b1 b2 h t1 t2).push {cls:=.type "tuple",data:=.seq #[.none,.none]}
abbrev LJ(b1 b2:Bool)(h:aJ)(t1 t2:aA):aJ:=(QC b1 b2 h t1 t2).push {cls:=.type "zip",data:=.fields #[.none,.bool false,.bool false,.ref (QA b1 b2 h t1 t2).objs.size,.ref (QB b1 b2 h t1 t2).objs.size]}
theorem b7Z b1 b2 t1 t2 xs ys :
  Meets (iH.«zip.__new__» ⟨[.type "zip",.ref t1,.ref t2],[]⟩) (λ_ R s=>gz b1 s.heap t1 xs/\gz b2 s.heap t2 ys/\R (.ok (.ret (.ref (QC b1 b2 s.heap t1 t2).objs.size))) {s with heap:=LJ b1 b2 s.heap t1 t2}) :=
 .of_wp λprog w A R s h=>by
  obtain⟨hp,g,d,tk,os⟩:=s;obtain⟨e1,e2,h⟩:=h;have NB:=sub_zip;have m2:gz b2 (wD ⟨hp.push {cls:=.type (NH b1),data:=.fields #[.ref t1,.int 0 0]},g,d,tk,os⟩) t2 ys:=gz.push e2 _
  wp_walk using b6t e1,b6t m2
  exact⟨_,cm,h⟩
theorem b5o{s:aG}(l1:gz b1 s.heap t1 xs)(l2:gz b2 s.heap t2 ys)
  (q:∀h',eV h' (s.heap.objs.size+4) (s.heap.objs.size+2) (s.heap.objs.size+3) .none->dN h' (s.heap.objs.size+2) (.ref s.heap.objs.size) (.ref (s.heap.objs.size+1))->dN h' (s.heap.objs.size+3) .none .none →
   g_ b1 h' s.heap.objs.size t1 0->g_ b2 h' (s.heap.objs.size+1) t2 0->(∀c o,s.heap.get? c=fo o->h'.get? c=fo o)->Q (.ref (s.heap.objs.size+4)) {s with heap:=h'}) :
  iZ (jf prog w) A (call (.type "zip") [.ref t1,.ref t2]) Q E s:=by
 refine callType_new F.called_zip dz (F.typeCall_zip_2 _ _) (F.newCall_zip_2 _ _) (λob=>F.args_object_init_3 ob _ _) F.entry_zip_new (b7Z b1 b2 t1 t2 xs ys) ⟨l1,l2,?_⟩;have n1:(Qz b1 s.heap t1).objs.size=s.heap.objs.size+1:=gS ..;have n2:(QA b1 b2 s.heap t1 t2).objs.size=s.heap.objs.size+2:=fg;have n3:(QB b1 b2 s.heap t1 t2).objs.size=s.heap.objs.size+3:=by rw[gS,n2]
 have n4:(QC b1 b2 s.heap t1 t2).objs.size=s.heap.objs.size+4:=by rw[gS,n3]
 have p5:(LJ b1 b2 s.heap t1 t2).get? (QC b1 b2 s.heap t1 t2).objs.size=fo _:=dG _ rfl;have p4:(LJ b1 b2 s.heap t1 t2).get? (QB b1 b2 s.heap t1 t2).objs.size=fo _:=bL _ (dG _ rfl);have p3:(LJ b1 b2 s.heap t1 t2).get? (QA b1 b2 s.heap t1 t2).objs.size=fo _:=bL _ (bL _ (dG _ rfl));have p2:(LJ b1 b2 s.heap t1 t2).get? (Qz b1 s.heap t1).objs.size=fo _:=bL _ (bL _ (bL _ (dG _ rfl)));rw[n2,n3,n4] at p5;rw[n1,n2] at p3;rw[n3] at p4;rw[n1] at p2;rw[n4];exact⟨⟨_,p5,cm⟩,q _ p5 p3 p4 (g_.mk (bL _ (bL _ (bL _ (bL _ (dG _ rfl)))))) (g_.mk p2) λc o m=>(bL _ (bL _ (bL _ (bL _ (bL _ m)))))⟩
def QD(b1 b2:Bool)(K:aF)(l1 l2:aA):It :=
  ⟨λi H=>t_ λxs ys x y=>xt b1 K H l1 xs/\xt b2 K H l2 ys/\xs[i]?=fo x/\ys[i]?=fo y,
   λi H x H'=>tq λp a b=>H p=fO/\x=.ref p/\H'=upd H p (.tup [a,b])/\∀xs ys,xt b1 K H l1 xs->xt b2 K H l2 ys->xs[i]?=fo a/\ys[i]?=fo b,
   λi H=>s_ λxs ys=>xt b1 K H l1 xs/\xt b2 K H l2 ys/\(gu xs<=i\/gu ys<=i)⟩
theorem Px{σ:St}(D:jO z ti to j1 j2 l1 l2)(I:Inv X ip σ H s)(hf:∀b∈[z,ti,to,j1,j2],xp X ip H b)(st:dK b1 b2 z ti to j1 j2 l1 l2 f0 f1 i s.heap)(hg:(QD b1 b2 X.K l1 l2).go i H)
  (q:∀h' AE AI x H',(f0=.none->f1=false->AE=nz s.heap.objs.size/\AI=false)->dK b1 b2 z ti to j1 j2 l1 l2 AE AI (i+1) h'->Inv X ip σ H' {s with heap:=h'}->RelV x (.ref s.heap.objs.size)->(QD b1 b2 X.K l1 l2).By i H x H' →
   (∀b o,s.heap.get? b=fo o->H b=fO->H' b=fO)->(∀c o,c ∉ [z,ti,to,j1,j2]->s.heap.get? c=fo o->h'.get? c=fo o)->Q (fo (.ref s.heap.objs.size)) {s with heap:=h'}) :
  iZ (jf X.prog X.w) A (callSpecial? (.ref z) (cN "__next__")) Q E s:=by
 obtain⟨xs,ys,x,y,QE,QF,hx,hy⟩:=hg;obtain⟨NJ,QG,p1,_⟩:=I.CG QE;obtain⟨Cy,QH,p2,_⟩:=I.CG QF;obtain⟨u1,S_,UQ⟩:=QG.get hx;obtain⟨u2,Ik,UR⟩:=QH.get hy;have ty:s.TypeIs (.ref z) "zip":=⟨_,st.z,cm⟩;refine oO ty oS (oQ oS ty wB
  (d1J D st p1 p2 (by simpa using S_) (by simpa using Ik) λh' AE AI c0 c1 c2 c3 c4=>q h' AE AI (.ref s.heap.objs.size) (upd H s.heap.objs.size (.tup [x,y])) c0 c1 ?_ rfl ⟨_,x,y,I.fresh,cm,cm,λHo ys' q1 q2=>?_⟩ (λb o e n=>?_) c4) (wC _))
 .exact I.rz hf c4 (λb hb=>let ⟨o,e,_⟩:=c1.obj b hb;⟨o,e⟩) (aT _) (aw) (show Vals [x,y] [u1,u2] from .cons UQ (.cons UR .nil)) ⟨_,c2,cm,0,cm⟩
 .rw[I.BD q1 QE,I.BD q2 QF];exact⟨hx,hy⟩
 .rw[j3 (dB (bN e))];exact n
theorem f0a{σ:St}(hh:A.in1.handled=fO)(D:jO z ti to j1 j2 l1 l2)(I:Inv X ip σ H s)(st:dK b1 b2 z ti to j1 j2 l1 l2 f0 f1 i s.heap)(hg:(QD b1 b2 X.K l1 l2).stop i H)
  (q:∀h' e,(∀c o,c ∉ [z,ti,to,j1,j2]->s.heap.get? c=fo o->h'.get? c=fo o)->(∃o,h'.get? e=fo o/\o.cls=.type "StopIteration")->E (.ref e) {s with heap:=h'}) :
  iZ (jf X.prog X.w) A (callSpecial? (.ref z) (cN "__next__")) Q E s:=by
 obtain⟨xs,ys,QE,QF,NK⟩:=hg;obtain⟨NJ,QG,p1,_⟩:=I.CG QE;obtain⟨Cy,QH,p2,_⟩:=I.CG QF;have Aw:=QG.length;have j_:=QH.length;have ty:s.TypeIs (.ref z) "zip":=⟨_,st.z,cm⟩;refine oO ty oS (oQ oS ty wB (d2o hh D st p1 p2 ?_ q) (wC _));rcases NK with q|q
 .exact .inl (by simp;lia)
 .exact .inr (by simp;lia)
theorem b5p{b1 b2:Bool}{P:aM}{w:aL}{K:aF}{elts:List aR}{x1:Nat}{pos:Pos}{z ti to j1 j2 l1 l2:aA}(D:jO z ti to j1 j2 l1 l2) :
  JF P w K (.Tuple elts x1 pos) (QD b1 b2 K l1 l2) [z,ti,to,j1,j2] z (dK b1 b2 z ti to j1 j2 l1 l2 .none false) where
 mem:=fg
 obj:=λi h st=>st.obj
 keep:=λi h h' st k=>st.keep k
 item:=by
  intro X hP hw hK hc i ip s σ H E I hf st hg;subst hP hw hK;unfold mh;refine aN (wA (Px D I hf st hg λh' AE AI x H' c0 c1 I1 r y fr k=>bG ⟨_,cm,?_⟩));obtain⟨rfl,rfl⟩:=c0 rfl rfl;refine wpAny_letOwnedTupleGo_zip c1.z λyg US qe=>?_;have hf':=λb hb=>let ⟨o,e,_⟩:=st.obj b hb;fr b o e (hf b hb).1;refine⟨x,H',I1.vi (λb hb=>⟨hf' b hb,(hf b hb).2⟩) λb o hb e=>qe.extBut b o (λc=>hb (by simp[c])) e,r,y,⟨US,.inl rfl,qe.extBut _ _ D.TIz c1.p1,let ⟨_,_,e⟩:=c1.p2;⟨_,_,qe.extBut _ _ D.TOz e⟩,c1.i1.extBut qe.extBut D.i1z,c1.i2.extBut qe.extBut D.i2z⟩,hf'⟩
 done:=by
  intro X hP hw hK hc i ip s σ H E I hf st hg;subst hP hw hK;unfold mh;exact aN (wA (f0a (I.ok.hd hc) D I st hg λh' e kp ⟨o,e1,e2⟩=>aN (wpAny_isInstance ⟨o,e1,e2⟩ isSubtype_stop (bG ⟨cm,I.vi hf kp⟩))))
 self:=λ_ _ _ _ _ st h=>wE st.z h
def iZg(b1 b2:Bool)(K:aF)(ta:TA):TI:=λσ H R=>ta σ H λvs H1=>s_ λl1 l2=>vs=[.ref l1,.ref l2]/\(∃xs,xt b1 K H1 l1 xs)/\(∃ys,xt b2 K H1 l2 ys)/\R (QD b1 b2 K l1 l2) H1
theorem QI b1 b2 K{p pos pos'}{elts}{x1}(hK:X.K=K)(hg:Gl X "zip")(hm:X.mg "zip"=fO)(ha:PA X [a,b] ta)(hs:jh [a,b] X.env=[(false,eval a X.env),(false,eval b X.env)]:=by rfl)(II:jh [b] X.env=[(false,eval b X.env)]:=by rfl) :
  PI X (.Tuple elts x1 pos') (.Call (.Name "zip" p) [a,b] [] pos) (iZg b1 b2 K ta):=by
 subst hK;intro ip s σ H R I h;refine Call_ (JD I hg hm boot_zip (nJ (D7 (ha pos ip s σ H _ I h) λus s1 ⟨vs,H1,I1,r1,q1⟩=>?_) (by rw[hs,II]) (by rw[II];rfl)));obtain⟨l1,l2,e,⟨xs,q1⟩,⟨ys,q2⟩,q⟩:=q1;subst e;obtain⟨u1,u2,rfl,UQ,UR⟩:=Lw r1;cases UQ;cases UR;obtain⟨NJ,QG,p1,_⟩:=I1.CG q1;obtain⟨Cy,QH,p2,_⟩:=I1.CG q2;refine b5o p1 p2 λh' z1 z2 z3 z4 z5 k=>(wE z1 ⟨s1.heap.objs.size+4,[s1.heap.objs.size+4,s1.heap.objs.size+2,s1.heap.objs.size+3,s1.heap.objs.size,s1.heap.objs.size+1],_,_,H1,cm,I1.kept (t':=s1.toks) k,b5p (b7W _ _ _ p1.lt p2.lt),⟨z1,.inl rfl,z2,⟨_,_,z3⟩,z4,z5⟩,λb hb=>?_,q⟩);have ou:s1.heap.objs.size<=b:=by
  simp only[bH,dJ,or_false] at hb;rcases hb with rfl|rfl|rfl|rfl|rfl
  .exact kW _ _
  .exact kW _ _
  .exact kW _ _
  .exact aT _
  .exact kW _ _
 exact I1.xy ou (I1.ck.fresh ou)
section
variable{b1 b2:Bool}{xs ys:List V}{K:aF}{l1 l2:aA}{fr:List Nat}{te:TE}{σ:St}{H1:Hp}{p:aA}{D:Hp->Prop}
theorem QJ(h1:xt b1 K H1 l1 xs)(h2:xt b2 K H1 l2 ys)(hp:H1 p=fO)(hz:gu xs<jb)(R:Nat->V->Hp->Prop)(hR:∀i y H H',R i y H->(∀b o,b≠p->H b=fo o->H' b=fo o)->R i y H')
  (step:∀i x y H zs N,xs[i]?=fo x->ys[i]?=fo y->af H1 H->H p=fo (.lst zs)->(∀v H3,af H H3->R i v H3->N v H3)->te (((c_ 2 fr σ).set 0 (fo x)).set 1 (fo y)) H N)
  (hd:∀zs H,af H1 H->H p=fo (.lst zs)->gu zs=min (gu xs) (gu ys)->(∀i z,zs[i]?=fo z->R i z H)->D H):IJ 2 fr (MW K 2 (JE (N7 0) (JE (N7 1) PQ))) te σ (QD b1 b2 K l1 l2) H1 p D:=by
 refine⟨λi m zs H=>m=min (gu xs) (gu ys)-i/\i<=min (gu xs) (gu ys)/\af H1 H/\H p=fo (.lst zs)/\gu zs=i/\∀j y,zs[j]?=fo y->R j y H,⟨_,cm,dM _,af.new hp _,ae,cm,λj y e=>by simp at e⟩,?_⟩;rintro i m zs H ⟨rfl,hi,e,hH,len,pr⟩;by_cases fk:i<min (gu xs) (gu ys)
 .have hx:i<gu xs:=dj;have hy:i<gu ys:=dj;refine .inr ⟨⟨xs,ys,xs[i],ys[i],e.CG h1,e.CG h2,aS hx,aS hy⟩,λu H' y=>?_⟩;obtain⟨q,a,b,hq,rfl,rfl,yh⟩:=y;obtain⟨ha,hb⟩:=yh xs ys (e.CG h1) (e.CG h2);have s1:=af.new hq (.tup [a,b]);refine⟨q,_,cm,cq.of ae,cm,_,_,cm,_,_,cm,cm,?_,?_⟩
  .refine⟨fg,λk w ek=>?_⟩;have:¬k<2:=λhk=>by
    unfold c_ at ek;rw[dH (by simpa using hk),gD] at ek;split at ek<;>cases ek
   rw[dP dj,dP dj];exact ek
  .refine step i a b _ zs _ ha hb (e.trans s1) (s1 _ _ hH) λv H3 s3 r3=>⟨s3 _ _ (s1 _ _ hH),dj,min (gu xs) (gu ys)-(i+1),dj,cm,fk,λb' o q'=>?_,ae,by rw[aX,len];rfl,λj y ey=>?_⟩
   .rw[j3 (i7 q' hp)];exact s3 _ _ (s1 _ _ (e _ _ q'))
   .have up:∀b o,b≠p->H3 b=fo o->upd H3 p (.lst (zs++[v])) b=fo o:=λb o hb q=>by rw[j3 hb];exact q
    by_cases hj:j<gu zs
    .rw[dH hj] at ey;exact hR j y _ _ (pr j y ey) λb o hb q=>up b o hb (s3 _ _ (s1 _ _ q))
    .rw[dU dj] at ey;have om:j-gu zs=0:=by
      cases q:j-gu zs with
      |zero=>rfl
      |succ k=>rw[q] at ey;simp at ey
     rw[om] at ey;have:j=i:=dj;subst this;simp at ey;subst ey;exact hR j v _ _ r3 up
 .have:i=min (gu xs) (gu ys):=dj;subst this;exact .inl ⟨⟨xs,ys,e.CG h1,e.CG h2,eX⟩,hd zs H e hH len pr⟩
theorem b9k(h1:xt b1 K H1 l1 xs)(h2:xt b2 K H1 l2 ys)(hp:H1 p=fO)(hz:gu xs<jb)F
  (step:∀(i:Nat)x y H N,xs[i]?=fo x->ys[i]?=fo y->af H1 H->N (F x y) H->te (((c_ 2 fr σ).set 0 (fo x)).set 1 (fo y)) H N)
  (hd:∀H,af H1 H->H p=fo (.lst (cV F xs ys))->D H):IJ 2 fr (MW K 2 (JE (N7 0) (JE (N7 1) PQ))) te σ (QD b1 b2 K l1 l2) H1 p D:=by
 refine QJ h1 h2 hp hz (λi v _=>∀x y,xs[i]?=fo x->ys[i]?=fo y->v=F x y) (λ_ _ _ _ r _=>r) (λi x y H zs N hx hy e _ hN=>step i x y H N hx hy e (hN _ _ (af.refl _) λx' y' ex ey=>?_)) λzs H e hH hl hr=>hd H e ?_
 .rw[hx] at ex;rw[hy] at ey;cases ex;cases ey;rfl
 .rw[hH];congr 2;refine dR λi=>?_;by_cases hi:i<min (gu xs) (gu ys)
  .have a1:i<gu zs:=dj;have a2:i<gu xs:=dj;have a3:i<gu ys:=dj;rw[aS a1,aS (jS▸hi),List.getElem_zipWith,hr i _ (aS a1) _ _ (aS a2) (aS a3)]
  .rw[bW dj,bW (by simp_all)]
theorem f2M{tb:TS}{D:Ends}(Pv:Nat->St->Hp->Prop)(h0:Pv 0 σ H)(hl:∀i σ H,Pv i σ H->xt b1 K H l1 xs/\xt b2 K H l2 ys)
  (hs:∀i x y σ H q,xs[i]?=fo x->ys[i]?=fo y->Pv i σ H->H q=fO->tb {D with nx:=Pv (i+1),ct:=Pv (i+1),bk:=D.nx} ((σ.set i1 (fo x)).set i2 (fo y)) (upd H q (.tup [x,y]))) (hd:∀σ H,Pv (min (gu xs) (gu ys)) σ H->D.nx σ H) :
  ∃W:Nat->Nat->St->Hp->Prop,(∃m,W 0 m σ H)/\∀i m σ H,W i m σ H →
   ((QD b1 b2 K l1 l2).stop i H/\D.nx σ H)\/((QD b1 b2 K l1 l2).go i H/\∃N,(∀au H',N au H'->∃m',m'<m/\W (i+1) m' au H')/\∀x H',(QD b1 b2 K l1 l2).By i H x H'->MW K 2 (JE (N7 i1) (JE (N7 i2) PQ)) x σ H' λir H2=>tb {D with nx:=N,ct:=N,bk:=D.nx} ir H2):=by
 refine⟨λi m σ H=>m=min (gu xs) (gu ys)-i/\i<=min (gu xs) (gu ys)/\Pv i σ H,⟨_,cm,dM _,h0⟩,?_⟩;rintro i m σ H ⟨rfl,hi,p⟩;obtain⟨q1,q2⟩:=hl i σ H p;by_cases fk:i<min (gu xs) (gu ys)
 .have hx:i<gu xs:=dj;have hy:i<gu ys:=dj;refine .inr ⟨⟨xs,ys,xs[i],ys[i],q1,q2,aS hx,aS hy⟩,Pv (i+1),λau H' p'=>⟨min (gu xs) (gu ys)-(i+1),dj,cm,fk,p'⟩,λu H' y=>?_⟩;obtain⟨q,a,b,hq,rfl,rfl,yh⟩:=y;obtain⟨ha,hb⟩:=yh xs ys q1 q2;exact⟨q,_,cm,cq.of ae,cm,_,_,cm,_,_,cm,cm,hs i a b σ H q ha hb p hq⟩
 .have:i=min (gu xs) (gu ys):=dj;subst this;exact .inl ⟨⟨xs,ys,q1,q2,dj⟩,hd σ H p⟩
end
structure dT(P:aM)(w:aL)(K:aF)(J:It)(fp:List aA)(it:aA)(tn:Nat->aJ->Prop):Prop where
 obj:∀i h,tn i h->∀b∈fp,∃o,h.get? b=fo o/\∀v,o.data≠.cell v
 keep:∀i h h',tn i h->(∀b∈fp,∀o,h.get? b=fo o->h'.get? b=fo o)->tn i h'
 item:∀(X:Cx),X.prog=P->X.w=w->X.K=K->∀(i:Nat)(ip:List (aA×Obj))(s:aG)(σ:St)(H:Hp)(A:aV)(Q E:aE->aG->Prop),Inv X ip σ H s->(∀b∈fp,xp X ip H b)->tn i s.heap->J.go i H →
  (∀v h' x H',Inv X ip σ H' {s with heap:=h'}->RelV x v->J.By i H x H'->tn (i+1) h'->(∀b o,s.heap.get? b=fo o->H b=fO->H' b=fO)->(∀c o,c ∉ fp->s.heap.get? c=fo o->h'.get? c=fo o)->Q v {s with heap:=h'}) →
  iZ (jf P w) A (gH (.ref it)) Q E s
 done:∀(X:Cx),X.prog=P->X.w=w->X.K=K->∀(i:Nat)(ip:List (aA×Obj))(s:aG)(σ:St)(H:Hp)(A:aV)(Q E:aE->aG->Prop),A.handled=fO->Inv X ip σ H s->tn i s.heap->J.stop i H →
  (∀h' e,(∀c o,c ∉ fp->s.heap.get? c=fo o->h'.get? c=fo o)->(∃o,h'.get? e=fo o/\o.cls=.type "StopIteration")->E (.ref e) {s with heap:=h'})->iZ (jf P w) A (gH (.ref it)) Q E s
def ie(J:It):It :=
 ⟨J.go,λi H y H2=>tq λp a H1=>J.By i H a H1/\H1 p=fO/\y=.ref p/\H2=upd H1 p (.tup [.int (i:Int),a]),J.stop⟩
theorem f0g{P:aM}{w:aL}{K:aF}{elts:List aR}{x1:Nat}{pos:Pos}{e it:aA}{J:It}{fp:List aA}{tn:Nat->aJ->Prop}(N:dT P w K J fp it tn)(xd:e ∉ fp) :
  JF P w K (.Tuple elts x1 pos) (ie J) (e::fp) e (λi h=>(∃old,IsEnum h e it (i:Int) old)/\tn i h) where
 mem:=fg
 obj:=λi h st c hb=>by
  obtain⟨⟨old,he⟩,h1⟩:=st;rcases bH.mp hb with rfl|hb
  .exact⟨_,he,nofun⟩
  .exact N.obj i h h1 c hb
 keep:=λi h h' st k=>⟨let ⟨old,he⟩:=st.1;⟨old,k e fg _ he⟩,N.keep i h h' st.2 λb hb=>k b (bZ _ hb)⟩
 item:=by
  intro X hP hw hK hc i ip s σ H E I hf st hg;obtain⟨⟨old,he⟩,h1⟩:=st;subst hP hw;refine d1M (G:=λv h'=>s_ λx H'=>Inv X ip σ H' {s with heap:=h'}/\RelV x v/\J.By i H x H'/\tn (i+1) h'/\IsEnum h' e it i old/\∀b∈e::fp,H' b=fO) he
   (λQ' E' k=>N.item X rfl rfl hK i ip s σ H X.A.in1 Q' E' I (λb hb=>hf b (bZ _ hb)) h1 hg λv h' x H' I' r y t f k'=>k _ h' (k' e _ xd he) ⟨x,H',I',r,y,t,k' e _ xd he,λb hb=>?_⟩) ?_
  .obtain⟨o,ho⟩:∃o,s.heap.get? b=fo o:=by
    rcases bH.mp hb with rfl|hb
    .exact⟨_,he⟩
    .exact let ⟨o,e,_⟩:=N.obj i _ h1 b hb;⟨o,e⟩
   exact f b o ho (hf b hb).1
  .rintro v g1 h' tk ⟨x,H',I',r,y,t,Yz,f⟩ Tb Um kp;refine⟨_,cm,wpAny_letOwnedTupleGo_enum Tb λyg NM qe=>?_⟩;have up:=λc o Dj q=>qe.extBut c o Dj (kp c o Dj q);have t2:=N.keep _ _ _ t λb hb o q=>up b o (λz=>xd (z▸hb)) q;have el1:=bN Yz;refine⟨.ref g1.objs.size,upd H' g1.objs.size (.tup [.int (i:Int),x]),(I'.rz (λb hb=>⟨f b hb,(hf b hb).2⟩) (λc o hb q=>up c o (λz=>hb (by simp[z])) q) (λc hb=>?_) (aT _) (aw)
    (show Vals [.int (i:Int),x] [iM (i:Int) tk,v] from .cons ⟨_,cm⟩ (.cons r .nil)) ⟨_,qe.extBut _ _ (gR el1) Um,cm,0,cm⟩).tok _,cm,⟨_,x,H',y,I'.fresh,cm,cm⟩,⟨⟨_,NM⟩,t2⟩,λb hb=>?_⟩
   .rcases bH.mp hb with rfl|hb
    .exact⟨_,NM⟩
    .exact let ⟨o,e,_⟩:=N.obj _ _ t2 c hb;⟨o,e⟩
   .rw[j3 ?_];exact f b hb;rcases bH.mp hb with rfl|hb
    .exact dB el1
    .exact f0A (N.obj _ _ t) b hb
 done:=by
  intro X hP hw hK hc i ip s σ H E I hf st hg;obtain⟨⟨old,he⟩,h1⟩:=st;subst hP hw;exact d2f he λQ' E' k=>N.done X rfl rfl hK i ip s σ H _ Q' E' (I.ok.hd hc) I h1 hg λh' x kk r=>k h' x r ⟨cm,I.vi hf λc o hb q=>kk c o (λz=>hb (bZ _ z)) q⟩
 self:=λ_ _ _ _ _ st h=>by
  obtain⟨⟨old,he⟩,_⟩:=st;exact wF he h
abbrev NL(K:aF)(l:aA):It:=ie (Lr K l)
theorem f0y{P:aM}{w:aL}{K:aF}{it l:aA}:dT P w K (Lr K l) [it] it (λi h=>h.IsListIter it l i) where
 obj:=λi h st b hb=>by
  obtain⟨o,e,c,d⟩:=st;cases cJ.mp hb;exact⟨o,e,λv z=>by rw[d] at z;cases z⟩
 keep:=λi h h' st k=>st.at λo e=>k it fg o e
 item:=by
  intro X hP hw hK i ip s σ H A Q E I hf st hg q;subst hP hw hK;obtain⟨xs,x,hq,hx⟩:=hg;obtain⟨iq,rv,p,_⟩:=I.list hq;obtain⟨u,hu,ru⟩:=rv.get hx;have kk:∀{h':aJ},kH it s.heap h'->∀c o,c ∉ [it]->s.heap.get? c=fo o->h'.get? c=fo o:=λa c o hb e=>a.extBut c o (λz=>hb (by simp[z])) e;exact wpAny_nextOf_list_item st p.isList (by simp_all) λh' a1 a2=>q u h' x H (I.vi hf (kk a2)) ru ⟨cm,λys hy=>by rw[I.rh hy hq];exact hx⟩ a1 (λ_ _ _ n=>n) (kk a2)
 done:=by
  intro X hP hw hK i ip s σ H A Q E hh I st hg q;subst hP hw hK;obtain⟨xs,hq,hx⟩:=hg;obtain⟨iq,rv,p,_⟩:=I.list hq;have hl:=rv.length;exact wpAny_nextOf_list_end hh st p.isList (by simp;lia) λh' e a r=>q h' e (λc o hb m=>a c o (λz=>hb (by simp[z])) m) r
def b9v(K:aF)(ta:TA):TI:=λσ H R=>ta σ H λvs H1=>∃l,vs=[.ref l]/\(∃xs,ah K H1 l xs)/\R (NL K l) H1
theorem Il K{p pos pos'}{elts}{x1}(hK:X.K=K)(hg:Gl X "enumerate")(hm:X.mg "enumerate"=fO)(ha:PA X [a] ta)(hs:jh [a] X.env=[(false,eval a X.env)]:=by rfl)(II:jh ([]:List aR) X.env=[]:=by rfl) :
  PI X (.Tuple elts x1 pos') (.Call (.Name "enumerate" p) [a] [] pos) (b9v K ta):=by
 subst hK;intro ip s σ H R I h;refine Call_ (JD I hg hm boot_enumerate (nJ (D7 (ha pos ip s σ H _ I h) λus s1 ⟨vs,H1,I1,r1,q1⟩=>?_) (by rw[hs,II]) rfl));obtain⟨l,e,⟨xs,q1⟩,q⟩:=q1;subst e;obtain⟨u,rfl,ru⟩:=U1 r1;cases ru;obtain⟨iq,rv,p,_⟩:=I1.list q1;refine call_enumerate_list p.isList λh' z1 z2 z3 k=>(wF z1 ⟨s1.heap.objs.size+1,[s1.heap.objs.size+1,s1.heap.objs.size],_,_,H1,cm,I1.kept (t':=s1.toks) k,f0g (f0y) fg,⟨⟨_,z1⟩,z2⟩,λb hb=>?_,q⟩);have ou:s1.heap.objs.size<=b:=by
  simp only[bH,dJ,or_false] at hb;rcases hb with rfl|rfl
  .exact lW _
  .exact aT _
 exact I1.xy ou (I1.ck.fresh ou)
section
variable{xs ys:List V}{K:aF}{l1 l2:aA}{fr:List Nat}{te:TE}{σ:St}{H1:Hp}{p:aA}{D:Hp->Prop}
theorem UG{tb:TS}{D:Ends}(Pv:Nat->St->Hp->Prop)(h0:Pv 0 σ H)(hl:∀i σ H,Pv i σ H->ah K H l1 xs)
  (hs:∀i x σ H q,xs[i]?=fo x->Pv i σ H->H q=fO->tb {D with nx:=Pv (i+1),ct:=Pv (i+1),bk:=D.nx} ((σ.set i1 (fo (.int (i:Int)))).set i2 (fo x)) (upd H q (.tup [.int (i:Int),x]))) (hd:∀σ H,Pv (gu xs) σ H->D.nx σ H) :
  ∃W:Nat->Nat->St->Hp->Prop,(∃m,W 0 m σ H)/\∀i m σ H,W i m σ H →
   ((NL K l1).stop i H/\D.nx σ H)\/((NL K l1).go i H/\∃N,(∀au H',N au H'->∃m',m'<m/\W (i+1) m' au H')/\∀x H',(NL K l1).By i H x H'->MW K 2 (JE (N7 i1) (JE (N7 i2) PQ)) x σ H' λir H2=>tb {D with nx:=N,ct:=N,bk:=D.nx} ir H2):=by
 refine⟨λi m σ H=>m=gu xs-i/\i<=gu xs/\Pv i σ H,⟨_,cm,dM _,h0⟩,?_⟩;rintro i m σ H ⟨rfl,hi,p⟩;have q1:=hl i σ H p;by_cases fk:i<gu xs
 .refine .inr ⟨⟨xs,xs[i],q1,aS fk⟩,Pv (i+1),λau H' p'=>⟨gu xs-(i+1),dj,cm,fk,p'⟩,λu H' y=>?_⟩;obtain⟨q,a,_,⟨rfl,yh⟩,hq,rfl,rfl⟩:=y;exact⟨q,_,cm,cq.of ae,cm,_,_,cm,_,_,cm,cm,hs i a σ _ q (yh xs q1) p hq⟩
 .have:i=gu xs:=dj;subst this;exact .inl ⟨⟨xs,q1,dj⟩,hd σ H p⟩
end
theorem bmK K{id}{apos iz}(hK:X.K=K)(pa:qS T)(slot:Slot T name id)(Ng:typeOf (.builtin id)=pure (.type "method_descriptor"))(hm:Qi X id r)(ho:PE X o to)(ha:PA X (e::es) t)
    (yd:kF o name X.env (eval o X.env)=eval o X.env:=by rfl)
    (JL:((jv iz (jh (e::es) X.env)).all (λx=>!x.1)&&(og iz (mi [] X.env)).all (λx=>x.1.isSome)
     &&decide (gu (e::es)+gu ([]:List lX)+(if ([]:List lX).isEmpty then 0 else 1)<30))=true:=by rfl)
    (ye:(apos.endLine==iz.line)=true:=by rfl) (hs:jh (e::es) X.env=(false,eval e X.env)::jh es X.env:=by rfl) (As:(jv iz (jh es X.env)).any (·.1)=false:=by rfl) :
    PE X (.Call (.Attribute o name apos) (e::es) [] iz) (Qk K T r to t):=by
  subst hK;exact K7 pa slot Ng hm ho ha yd JL ye hs As
theorem piB K(hK:X.K=K)(hl:PE X l tl):PI X tg l (λσ H R=>∃b,(match b with|true=>PU K tl σ H R|false=>Tw K tl σ H R)):=by
 subst hK;exact λip s σ H R I ⟨b,q⟩=>match b,q with|true,q=>C6 hl ip s σ H R I q|false,q=>IE hl ip s σ H R I q
inductive c0V(K:aF)(x y:V)(H:Hp)(Q:VK):Prop|mk:∀p xs ds d,y=.ref p->ah K H p xs->qc K H xs ds->Dp K H x d->cP ds=true->d.canLay0=true->d.depth<=50->Q (.bl (ds.any λe=>cK e d)) H->c0V K x y H Q
theorem XI(hr:b_ k X.A):gw X (jk .In) (c0V X.K):=by
 intro ip s σ H x y v u Q I rx ry h;obtain⟨p,xs,ds,d,rfl,hq,hD,hd,c1,c2,dp,q⟩:=h;cases ry;obtain⟨iq,r,pl,hz⟩:=I.list hq;obtain⟨as,rs⟩:=hD.reads I r;obtain⟨bs,rx'⟩:=hd.reads I rx;refine uF (λw=>cK (xW s.heap w) d) pl.isList (SeqAt.items_eqAt (by simpa using rs) rx' c1 c2 (by have:=hr.units;lia)) ⟨.bl _,H,I,cm,?_⟩;have e1:iq.toArray.any (λv=>cK (xW s.heap v) d)=ds.any λe=>cK e d:=by
  rw[<-SeqAt.readsAll_map ds iq as c1 rs,lN,List.any_toArray];rfl
 rw[e1];exact q
def c1o(K:aF)(ta:TE)(f:aC):TG:=λv σ H Q=>ta σ H λx H2=>t_ λa C dx fs=>x=.ref a/\H2 a=fo (.ins C dx fs)/\z_ K C/\dg K C f/\gu fs<1000/\Q σ (upd H2 a (.ins C dx (Z6 f v fs)))
theorem a2n
  (h:iZ M A (eval o env) (λov vz=>iZ M A (setAttr ov attr v) Q E vz) E s):iZ M A (assign (.Attribute o attr pos') env v) Q E s:=λΓ p hΓ=>by
 simp only[assign_Attribute,Sem.wp_bind',Sem.wp_holding,Sem.wp_cmd_standAt,Sem.wp_release,Sem.wp_pure'];exact Sem.wp_mono M Γ _ (λov _ vz JR=>JR Γ _ hΓ) (λ_ _ _ h'=>h') _ _ (h Γ _ hΓ)
theorem Si(ha:PE X o ta):PG X (.Attribute o f pos) (c1o X.K ta f):=by
 intro ip s σ H v u Q I r h;refine a2n (D7 (ha ip s σ H _ I h) λov s2 ⟨x,H2,I2,rx,a,C,dx,fs,ex,ea,c,n,l,q2⟩=>?_);subst ex;obtain rfl:ov=cZ a:=rx;exact a4e I2 ea c n l r λs3 I3=>⟨σ,_,I3,q2⟩
theorem e7N{α β:Type}{f g:α->Option β}:∀{l:List α},(∀m∈l,f m=g m)->l.filterMap f=l.filterMap g
 |[],_=>rfl
 |a::r,h=>by
  rw[pY,pY,h a cY,e7N λm hm=>h m (bZ _ hm)]
def zG(q:Nat->Bool)(F:Nat->V->V)(xs:List V)(n:Nat):List V:=((aW n).filter q).filterMap λi=>(xs[i]?).map (F i)
theorem e7x q F xs n:gu (zG q F xs n)<=n:=by
 unfold zG;have h1:=List.length_filterMap_le (λi=>(xs[i]?).map (F i)) ((aW n).filter q);have h2:=oX q (aW n);rw[gZ] at h2;lia
theorem e0H(h:xs[n]?=fo x):zG q F xs (n+1)=zG q F xs n++(if q n=true then [F n x] else []):=by
 unfold zG;rw[pE,wS,aAC];congr 1;cases e:q n with
 |true=>simp[e,h]
 |false=>simp[e]
theorem e9V:zG q (λ_ y=>y) xs (gu xs)=((aW (gu xs)).filter q).map λi=>xs.getD i .non:=by
 unfold zG;rw[<-List.filterMap_eq_map];refine e7N λi hi=>?_;have:i<gu xs:=fF.mp (lI.mp hi).1;simp[this]
theorem e8K{K}(hl:ah K H1 l xs)(hp:H1 p=fO)(hz:gu xs<jb)q F
  (test:∀i x H ys(N:Bool->Hp->Prop),xs[i]?=fo x->af H1 H->H p=fo (.lst ys)->(∀H3,af H H3->N (q i) H3)->tc (((c_ 2 fr σ).set 0 (fo (.int (i:Int)))).set 1 (fo x)) H N)
  (step:∀i x H N,xs[i]?=fo x->q i=true->af H1 H->N (F i x) H->te (((c_ 2 fr σ).set 0 (fo (.int (i:Int)))).set 1 (fo x)) H N)
  (hd:∀H,af H1 H->H p=fo (.lst (zG q F xs (gu xs)))->D H):LF 2 fr (MW K 2 (JE (N7 0) (JE (N7 1) PQ))) tc te σ (NL K l) H1 p D:=by
 refine⟨λi m ys H=>m=gu xs-i/\i<=gu xs/\af H1 H/\H p=fo (.lst ys)/\ys=zG q F xs i,⟨gu xs,fg,dM _,af.new hp _,ae,cm⟩,?_⟩;rintro i m ys H ⟨rfl,hi,e,hH,rfl⟩;by_cases fk:i<gu xs
 .refine .inr ⟨⟨xs,xs[i],e.seq hl,aS fk⟩,λu H' y=>?_⟩;obtain⟨z,a,_,⟨rfl,yh⟩,Ov,rfl,rfl⟩:=y;have ha:=yh xs (e.seq hl);have s1:=af.new Ov (.tup [.int (i:Int),a]);refine⟨z,_,cm,cq.of ae,cm,_,_,cm,_,_,cm,cm,?_,?_⟩
  .refine⟨fg,λk w ek=>?_⟩;have:¬k<2:=λhk=>by
    unfold c_ at ek;rw[dH (by simp_all),gD] at ek;split at ek<;>cases ek
   rw[dP dj,dP dj];exact ek
  .refine test i a _ _ _ ha (e.trans s1) (s1 _ _ hH) λH3 s3=>?_;have hH3:=s3 _ _ (s1 _ _ hH);cases hq:q i with
   |false =>
    rw[qf cX];exact⟨gu xs-(i+1),dj,cm,fk,e.trans (s1.trans s3),hH3,by rw[e0H ha,hq];simp⟩
   |true =>
    rw[qg rfl];refine step i a _ _ ha hq (e.trans (s1.trans s3)) ⟨hH3,?_,gu xs-(i+1),dj,cm,fk,(e.trans (s1.trans s3)).write hp,ae,by rw[e0H ha,hq];simp⟩;have:=e7x q F xs i;lia
 .have:i=gu xs:=dj;subst this;exact .inl ⟨⟨xs,e.seq hl,dj⟩,hd H e hH⟩
end L2
namespace L2
open PySem PySem.W
theorem KO(q:excIn K C B nid=true):yM λnm qn N bs bm hdct=>yM λsn sub ab col dd k0=>t_ λk1 k2 k3 k5=>K.lookup C=fo (excClassObj nm qn C N bs bm hdct sn sub ab col dd k0 k1 k2 k3 k5 nid)/\nsOkIn K N=true/\nsIn K N "__init__"=fo fO/\tailIn K B bm=true:=by
 unfold excIn at q;split at q
 .rename_i e1 e2 e3 lk
  split at q
  .rename_i C' bm w0 w1 w2 w3 nn w5 em es
   simp only[fQ,beq_iff_eq,yL] at q;obtain⟨⟨⟨⟨⟨u1,u2⟩,u3⟩,u4⟩,u5⟩,u6⟩:=q;cases u1;cases u2;obtain⟨n1,n2,n3,n4,n5,n6,n7,n8,n9,WU,WV⟩:=e2;obtain⟨ls⟩:=e3;replace em:n3=_:=em;replace u3:WV=false:=u3;replace es:ls=_:=es;subst em u3 es;exact⟨n1,n5,n4,n2,bm,n6,n7,n8,n9,WU,e1,w0,w1,w2,w3,w5,lk,u5,u6,u4⟩
  .cases q
 .cases q
def HK(K:fA)(x qual:aC)(st:aO)(f:aA)(cd:aE):Prop:=yM λoc od kV dc pm an=>s_ λct sl=>K.lookup f=fo ⟨oc,od,.func (fnOf x qual (Q4 st) (x9 st) (i9 st) .none kV dc pm an cd ct),sl⟩/\codeIn K cd qual=true/\pR K (.ref f)=true
structure ff(K:fA)(x:aC)(st:aO)(f:aA)(cd:aE):Prop where
 a:nsIn K jo x=fo (fo (.ref f))
 l:HK K x x st f cd
structure EA(K:fA)(C:aA)(x qual:aC)(st:aO)(f:aA)(cd:aE):Prop where
 a:iI K (.ref C) x=fo (fo (.ref f))
 n:isFn K (.ref f)=true
 l:HK K x qual st f cd
theorem df.b1(F:df K x qual st f fd)(h:∀kV doc pm an ay ct v0,ma (fnOf x qual (Q4 st) (x9 st) (i9 st) .none kV doc pm an ay ct) ⟨[v0],[]⟩=pure [(p0,v0)]:=by intros;rfl):Binds K fd [p0] [] :=
 F.binds λa b c d e g us hl=>match us,hl with|[v0],_=>h a b c d e g v0
theorem df.b2(F:df K x qual st f fd)(h:∀kV doc pm an ay ct v0 v1,ma (fnOf x qual (Q4 st) (x9 st) (i9 st) .none kV doc pm an ay ct) ⟨[v0,v1],[]⟩=pure [(p0,v0),(p1,v1)]:=by intros;rfl):Binds K fd [p0,p1] [] :=
 F.binds λa b c d e g us hl=>match us,hl with|[v0,v1],_=>h a b c d e g v0 v1
theorem df.b3(F:df K x qual st f fd)(h:∀kV doc pm an ay ct v0 v1 v2,ma (fnOf x qual (Q4 st) (x9 st) (i9 st) .none kV doc pm an ay ct) ⟨[v0,v1,v2],[]⟩=pure [(p0,v0),(p1,v1),(p2,v2)]:=by intros;rfl):Binds K fd [p0,p1,p2] [] :=
 F.binds λa b c d e g us hl=>match us,hl with|[v0,v1,v2],_=>h a b c d e g v0 v1 v2
theorem df.b4(F:df K x qual st f fd)(h:∀kV doc pm an ay ct v0 v1 v2 v3,ma (fnOf x qual (Q4 st) (x9 st) (i9 st) .none kV doc pm an ay ct) ⟨[v0,v1,v2,v3],[]⟩=pure [(p0,v0),(p1,v1),(p2,v2),(p3,v3)]:=by intros;rfl):Binds K fd [p0,p1,p2,p3] [] :=
 F.binds λa b c d e g us hl=>match us,hl with|[v0,v1,v2,v3],_=>h a b c d e g v0 v1 v2 v3
theorem df.b5(F:df K x qual st f fd)(h:∀kV doc pm an ay ct v0 v1 v2 v3 v4,ma (fnOf x qual (Q4 st) (x9 st) (i9 st) .none kV doc pm an ay ct) ⟨[v0,v1,v2,v3,v4],[]⟩=pure [(p0,v0),(p1,v1),(p2,v2),(p3,v3),(p4,v4)]:=by intros;rfl):Binds K fd [p0,p1,p2,p3,p4] [] :=
 F.binds λa b c d e g us hl=>match us,hl with|[v0,v1,v2,v3,v4],_=>h a b c d e g v0 v1 v2 v3 v4
end L2
namespace L2
open PySem PySem.Spec PyProof.Rows
def b6F(C:aA)(m:aC)(sp:Sp)(EX:St->XK)(ta:TE)(t:TA):TE:=λσ H Q=>ta σ H λx H1=>tq λa dx fs=>x=.ref a/\H1 a=fo (.ins C dx fs)/\fs.lookup m=fO/\t σ H1 λvs H2=>sp (x::vs) H2 Q (EX σ)
theorem b5z{σ:St}(F:bf X.prog X.w X.K X.mg X.base CX k f fd ps sp)(hr:b_ k X.A)(hb:Binds X.K fd ps [])(hx:Qt CX X EX)
  (I:Inv X ip σ H s) (r:Vals vs us) (h:sp vs H Q (EX σ)):iZ (jf X.prog X.w) X.A (call (.ref f) us) (EP X ip σ Q) X.xe s:=by
 have hl:gu (us++[])=gu ps:=by rw[fP,<-r.length];exact F.len _ _ _ _ h
 have ou:=hb s us I.ix hl;rw[fP] at ou;refine lV (nR (F.run X.A X.stack s H ⟨us,[]⟩ us vs Q (EX σ) hr I.Hf ou r h) λrr s' hq=>?_);cases rr with
 |error e=>exact hx ip σ H s e s' I hq
 |ok fl =>
  cases fl with
  |ret u=>exact I.after hq
  |next=>exact eD hq
  |brk=>exact eD hq
  |cont=>exact eD hq
theorem b3H{pos}{apos}{pl}(he:PE X o ta)(c:z_ X.K C)(hm:Ly X.K C m f)(F:bf X.prog X.w X.K X.mg X.base CX k f fd ps sp)(hr:b_ k X.A)(hb:Binds X.K fd ps [])(hx:Qt CX X EX)(ha:PA X (e::es) t)
  (gj:jh (e::es) X.env=(false,eval e X.env)::jh es X.env:=by rfl) (wb:(jv pos (jh es X.env)).any (·.1)=false:=by rfl)
  (ht:eval (.Call (.Attribute o m apos) (e::es) [] pos) X.env=(do
   let ov <- eval o X.env
   nu apos.atName
   let (f,first) <- holding [ov] (pU ov m pl)
   callWith pos f first (jv pos (jh (e::es) X.env)) (og pos (mi [] X.env))):=by rfl) :
  PE X (.Call (.Attribute o m apos) (e::es) [] pos) (b6F C m sp EX ta t):=by
 intro ip s σ H Q I h;refine qM (D7 (he ip s σ H _ I h) λu s1 ⟨x,H1,I1,rx,a,dx,fs,ex,ea,l,q⟩=>?_) ht;subst ex;obtain rfl:u=cZ a:=rx;exact TN I1 ea c hm l (kM I.ok.mod.zu hm.kp (D7 (ha pos ip s1 σ H1 _ I1 q) λus s2 ⟨vs,H2,I2,r,q2⟩=>⟨I2.ix,b5z (vs:=.ref a::vs) F hr hb hx I2 (.cons rfl r) q2⟩) gj wb)
def yG(td:List (aC×Int))(vs:List (aC×Value)):Prop:=aZ (λa b=>b.1=a.1/\∃t,b.2=iM a.2 t) td vs
def zq(P:aM)(w:aL)(d:aA)(td:List (aC×Int)):HO:=.ext λh=>(d==nq)=false/\∃vs,yG td vs/\h.DictOf (DL P w) d vs
theorem yG.keys(r:yG td vs):vs.map (·.1)=td.map (·.1):=by
 induction r with
 |nil=>rfl
 |cons h _ ih=>rw[cS,cS,h.1,ih]
theorem yG.app(r:yG a c)(q:yG b d):yG (a++b) (c++d):=by
 induction r with
 |nil=>exact q
 |cons h _ ih=>exact .cons h ih
theorem yG.get(r:yG td vs)k:(s_ λi t=>td.lookup k=fo i/\valueAt vs k=fo (.int i t))\/(td.lookup k=fO/\valueAt vs k=fO):=by
 induction r with
 |nil=>exact .inr ⟨cm,cm⟩
 |@cons a b _ _ h _ ih =>
  obtain⟨x,i⟩:=a;obtain⟨y,v⟩:=b;obtain⟨h1,t,h2⟩:=h;cases (show y=x from h1);cases (show v=iM i t from h2);unfold valueAt at ih⊢;rw[List.find?_cons,eU];by_cases e:k=x
  .subst e;rw[beq_self_eq_true,qk rfl];exact .inl ⟨i,t,cm,cm⟩
  .rw[beq_eq_false_iff_ne.mpr e,qU λz=>e z.symm];exact ih
def f1Q(hs:(d==nq)=false)(r:yG td vs)(D:h.DictOf (DL P w) d vs):dh H h d (zq P w d td) :=
 ⟨⟨hs,vs,r,D⟩,let ⟨o,_,_,e,_⟩:=D;⟨o,e⟩,λ_ _ ⟨a,vs,r,D⟩ k=>⟨a,vs,r,D.at k⟩⟩
inductive FL:List (Option aR)->List aR->List (aC×Int)->Prop
 |nil:FL [] [] []
 |cons {ks vs td x i j p j' p'}:FL ks vs td->FL (fo (.Constant (.str x) j p)::ks) (.Constant (.int i) j' p'::vs) ((x,i)::td)
theorem f2t(h:FL ks vs td):∀s Q,
  (∀us ws tk,Carries (DL P w) us ws->yG td ws->Q us {s with toks:=tk})->iZ (jf P w) A (evalPairs (pairTrees ks vs env pos)) Q E s:=by
 induction h with
 |nil=>exact λs Q q=>pairTrees_nil_walk (q [] [] s.toks trivial .nil)
 |cons _ ih=>exact λs Q q=>pairTrees_cons_walk (Calls.Constant_str (wpAny_Constant_int (ih _ _ λus ws tk c r=>q ((_,_)::us) ((_,_)::ws) tk ⟨strKind_is _ _ _ _,cm,c⟩ (.cons ⟨cm,_,cm⟩ r))))
theorem f2n P w(hP:X.prog=P)(hw:X.w=w)(h:FL ks vs td)(a:(ks.all λx=>x.isSome)=true)(e:gu ks=gu vs)(ne:ks≠[])(l:gu ks<=15)(nd:(td.map (·.1)).Nodup) :
  PE X (.Dict ks vs pos) (λ_ H Q=>∀d,H d=fO->Q (.ref d) (upd H d (zq P w d td))):=by
 subst hP hw;intro ip s σ H Q I q;refine wpAny_Dict_walk a e ne l (f2t h _ _ λus ws tk c r=>⟨ws,c,aAQ s.heap,λh' D sb=>?_⟩);rw[merged_nil_of_nodup _ (r.keys▸nd)] at D;have big:nq<s.heap.objs.size:=by
  exact Nat.lt_trans dz ((I.mod.glob.keeps I.bk).lt)
 exact⟨.ref s.heap.objs.size,_,I.laid (λb o e=>sb.extBut b o (dB (bN e)) (bL _ e)) (aT _) (f1Q (beq_eq_false_iff_ne.mpr (bV (dB big))) r D),cm,q _ (I.ck.fresh (aT _))⟩
def f3a(P:aM)(w:aL):V->List V->Hp->VK->Prop:=λx vs H Q=>t_ λd o td more=>x=.ref d/\vs=[.ref o]/\d≠o/\H d=fo (zq P w d td)/\H o=fo (zq P w o more)/\((td++more).map (·.1)).Nodup/\gu td+gu more<=1000/\Q .non (upd H d (zq P w d (td++more)))
def aZ.FN(r:yG td vs):gu vs=gu td:=(dE r).symm
theorem f2C:Lz X "dict.update" (f3a X.prog X.w):=by
 intro ip s σ H x vs v us Q I rx rv h;obtain⟨d,o,td,more,rfl,rfl,ne,hd,ho,nd,ll,q⟩:=h;cases rx;obtain⟨u,rfl,ru⟩:=rv.one;cases ru;obtain⟨⟨sd,ws,r,D⟩,_⟩:=I.ck d _ hd;obtain⟨⟨so,ws2,r2,D2⟩,_⟩:=I.ck o _ ho;refine call_meetsIn F.slot_dict_update D.typeIs F.entry_dict_update (F.args_dict_update_2 _ _) (meets_dict_update (DL X.prog X.w) d o ne so) ⟨ws,ws2,D,D2,by rw[aZ.FN r,aZ.FN r2,bE];lia,λh' D' _ sb=>?_⟩;rw[merged_append_of_fresh _ _ ((r.app r2).keys▸nd)] at D';exact⟨.non,_,I.write (by rw[hd];trivial) (.inl rfl) (λb o n e=>sb.extBut b o n e) (let ⟨o,_,_,e,_⟩:=D';⟨o,e⟩) (f1Q sd (r.app r2) D'),cm,q⟩
def f3o(P:aM)(w:aL):V->List V->Hp->VK->Prop:=λx vs H Q=>t_ λd td k i=>x=.ref d/\vs=[.str k,.int i]/\H d=fo (zq P w d td)/\Q (.int ((td.lookup k).getD i)) H
theorem f2D:Lz X "dict.get" (f3o X.prog X.w):=by
 intro ip s σ H x vs v us Q I rx rv h;obtain⟨d,td,k,i,rfl,rfl,hd,q⟩:=h;cases rx;obtain⟨u1,u2,rfl,⟨t1,rfl⟩,t2,rfl⟩:s_ λu1 u2=>us=[u1,u2]/\(∃t,u1=jB k t)/\∃t,u2=iM i t:=by
  cases rv with
  |cons a rv=>cases rv with
   |cons b rv=>cases rv;exact⟨_,_,cm,a,b⟩
 obtain⟨⟨sd,ws,r,D⟩,_⟩:=I.ck d _ hd;refine call_meetsIn F.slot_dict_get D.typeIs F.entry_dict_get (F.args_dict_get_3 _ _ _) (meets_dict_get_default (DL X.prog X.w) d (strKind_is _ _ k t1) sd (.int i t2)) ⟨valueAt ws,D.mapOf,?_⟩;rcases r.get k with⟨j,t,e1,e2⟩|⟨e1,e2⟩
 .rw[e1] at q;exact⟨.int j,H,I.tok _,by rw[e2];exact⟨t,cm⟩,q⟩
 .rw[e1] at q;exact⟨.int i,H,I.tok _,by rw[e2];exact⟨t2,cm⟩,q⟩
def f3t(P:aM)(w:aL)(r:V->List V->Hp->VK->Prop)(to:TE)(t:TA):TE:=λσ H Q=>to σ H λx H1=>(s_ λd td=>x=.ref d/\H1 d=fo (zq P w d td))/\t σ H1 λxs H2=>r x xs H2 Q
theorem f2k{apos}{iz}{id}P w(hP:X.prog=P)(hw:X.w=w)(slot:Slot "dict" name id)(Ng:typeOf (.builtin id)=pure (.type "method_descriptor"))(hm:Lz X id r)(ho:PE X o to)(ha:PA X (e::es) t)
    (yd:kF o name X.env (eval o X.env)=eval o X.env:=by rfl)
    (JL:((jv iz (jh (e::es) X.env)).all (λx=>!x.1)&&(og iz (mi [] X.env)).all (λx=>x.1.isSome)
     &&decide (gu (e::es)+gu ([]:List lX)+(if ([]:List lX).isEmpty then 0 else 1)<30))=true:=by rfl)
    (ye:(apos.endLine==iz.line)=true:=by rfl) (hs:jh (e::es) X.env=(false,eval e X.env)::jh es X.env:=by rfl) (As:(jv iz (jh es X.env)).any (·.1)=false:=by rfl) :
    PE X (.Call (.Attribute o name apos) (e::es) [] iz) (f3t P w r to t):=by
  subst hP hw;intro ip s σ H Q I h;refine wpAny_Call_method_late yd JL ye rfl (D7 (ho ip s σ H _ I h) λv s1 ⟨x,H1,I1,r1,⟨d,td,ex,hd⟩,q1⟩=>?_);subst ex;cases r1;obtain⟨⟨_,ws,_,D⟩,_⟩:=I1.ck d _ hd;refine⟨"dict",id,F.plainAttrs_dict,slot,Ng,D.typeIs,λa e=>?_,?_⟩
  . cases e
    obtain⟨ob,_,_,e,ex,_⟩:=D;exact⟨ob,e,ex.2.1⟩
  have hA:=ha iz ip s1 σ H1 _ I1 q1;rw[hs] at hA⊢;exact uH (by show(false||(jv iz (jh es X.env)).any (·.1))=false;rw[As]<;>rfl) (uI (D7 hA λus s2 ⟨vs,H2,I2,r2,q2⟩=>hm ip s2 σ H2 (.ref d) vs _ us Q I2 rfl r2 q2))
end L2
namespace Lp
abbrev J4:=Nat->Int
def tl(v:J4):J4:=λi=>v (i+1)
def wm(a:Int)(u:J4)(b:Int)(v:J4):J4:=λi=>a*u i+b*v i
def U2(D:List J4->Int):List J4->List J4->Int
 |_,[]=>0
 |pre,c::rest=>c 0*D ((pre++rest).map tl)-U2 D (pre++[c]) rest
def G2:Nat->List J4->Int
 |0,_=>1
 |n+1,cols=>U2 (G2 n) [] cols
def Vh(n:Nat)(D:List J4->Int):Prop:=∀a u b v xs ys,gu xs+gu ys+1=n->D (xs++wm a u b v::ys)=a*D (xs++u::ys)+b*D (xs++v::ys)
def b0d a u b v:tl (wm a u b v)=wm a (tl u) b (tl v):=rfl
def b8K a b x y p q(c:Int):c*(a*x+b*y)-(a*p+b*q)=a*(c*x-p)+b*(c*y-q):=dj
theorem a9E(h:Vh n D)(a:Int)(u:J4)(b:Int)(v:J4):∀rest p1 p2,gu p1+gu p2+gu rest=n →
  U2 D (p1++wm a u b v::p2) rest=a*U2 D (p1++u::p2) rest+b*U2 D (p1++v::p2) rest
 |[],p1,p2,_=>by simp[U2]
 |c::rest,p1,p2,hl=>by
  have jl:gu p1+gu p2+(gu rest+1)=n:=hl;have ih:=a9E h a u b v rest p1 (p2++[c]) (by rw[aX,fR];lia);have h0:=h a (tl u) b (tl v) (p1.map tl) ((p2++rest).map tl) (by rw[aH,aH,aX];lia);unfold U2;simp only[dC,fD,bQ,cS,b0d] at h0 ih⊢;rw[h0,ih];exact b8K ..
def c0y(a b x y p q D:Int):(a*x+b*y)*D-(a*p+b*q)=a*(x*D-p)+b*(y*D-q):=dj
theorem a6M(h:Vh n D)(a:Int)(u:J4)(b:Int)(v:J4):∀r1 pre r2,gu pre+gu r1+gu r2=n →
  U2 D pre (r1++wm a u b v::r2)=a*U2 D pre (r1++u::r2)+b*U2 D pre (r1++v::r2)
 |[],pre,r2,hl=>by
  have hp:=a9E h a u b v r2 pre [] dj;simp only[gG];unfold U2;rw[hp];exact c0y ..
 |c::r1,pre,r2,hl=>by
  have jl:gu pre+(gu r1+1)+gu r2=n:=hl;have ih:=a6M h a u b v r1 (pre++[c]) r2 (by rw[aX,fR];lia);have h0:=h a (tl u) b (tl v) ((pre++r1).map tl) (r2.map tl) (by rw[aH,aH,aX];lia);unfold U2;simp only[dC,fD,bQ,cS,b0d] at h0 ih⊢;rw[h0,ih];exact b8K ..
theorem Vi:∀n,Vh n (G2 n)
 |0=>λa u b v xs ys h=>dj
 |n+1=>λa u b v xs ys h=>a6M (Vi n) a u b v xs [] ys (by simp_all)
def Vj(n:Nat)(D:List J4->Int):Prop:=∀u xs ys,gu xs+gu ys+2=n->D (xs++u::u::ys)=0
theorem b0e(h:Vj n D)(u:J4):∀rest p1 p2,gu p1+gu p2+gu rest+1=n->U2 D (p1++u::u::p2) rest=0
 |[],_,_,_=>rfl
 |c::rest,p1,p2,hl=>by
  have jl:gu p1+gu p2+(gu rest+1)+1=n:=hl;have ih:=b0e h u rest p1 (p2++[c]) (by rw[aX,fR];lia);have h0:=h (tl u) (p1.map tl) ((p2++rest).map tl) (by rw[aH,aH,aX];lia);unfold U2;simp only[dC,fD,bQ,cS] at h0 ih⊢;rw[h0,ih];lia
theorem a6I(h:Vj n D)(u:J4):∀r1 pre r2,gu pre+gu r1+gu r2+1=n->U2 D pre (r1++u::u::r2)=0
 |[],pre,r2,hl=>by
  have hp:=b0e h u r2 pre [] (by simp_all);unfold U2;unfold U2;simp only[dC,fD,gG] at hp⊢;rw[hp];lia
 |c::r1,pre,r2,hl=>by
  have jl:gu pre+(gu r1+1)+gu r2+1=n:=hl;have ih:=a6I h u r1 (pre++[c]) r2 (by rw[aX,fR];lia);have h0:=h (tl u) ((pre++r1).map tl) (r2.map tl) (by grind);unfold U2;simp only[dC,fD,bQ,cS] at h0 ih⊢;rw[h0,ih];lia
theorem Vk:∀n,Vj n (G2 n)
 |0=>λu xs ys h=>dj
 |n+1=>λu xs ys h=>a6I (Vk n) u xs [] ys (by simp_all)
def uu(k:Nat):J4:=λi=>if i=k then 1 else 0
theorem b2k:∀rest pre,(∀c∈rest,c 0=0)->U2 D pre rest=0
 |[],_,_=>rfl
 |c::rest,pre,h=>by
  unfold U2;rw[h c cY,b2k rest (pre++[c]) λx hx=>h x (bZ _ hx)];lia
theorem QU:∀n,G2 n ((aW n).map uu)=1
 |0=>rfl
 |n+1=>by
  show U2 (G2 n) [] ((aW (n+1)).map uu)=1;rw[wT,cS,bC];unfold U2;rw[b2k _ _ λc hc=>by
   obtain⟨k,_,rfl⟩:=aY.mp hc;rfl]
  have e:([]++(aW n).map (uu∘Nat.succ)).map tl=(aW n).map uu:=by
   rw[gG,bC];refine fM λk _=>?_;funext i;show(if i+1=k+1 then (1:Int) else 0)=if i=k then 1 else 0
   by_cases c:i=k
   .rw[qg dj,qg c]
   .rw[qf dj,qf c]
  rw[e,QU n];rfl
def ow(M:Nat):Nat->Nat
 |0=>1
 |n+1=>(n+1)*(M*ow M n)
def Fits(M n:Nat)(v:J4):Prop:=∀i,i<n->(v i).natAbs<=M
theorem a9a(hD:∀cols,gu cols=n->(∀c∈cols,Fits M n c)->(D cols).natAbs<=B):∀rest pre,gu pre+gu rest=n+1->(∀c∈pre,Fits M (n+1) c)->(∀c∈rest,Fits M (n+1) c)->(U2 D pre rest).natAbs<=gu rest*(M*B)
 |[],_,_,_,_=>by simp[U2]
 |c::rest,pre,hl,hp,hr=>by
  have jl:gu pre+(gu rest+1)=n+1:=hl;have h1:=a9a hD rest (pre++[c]) (by rw[aX,fR];lia) (λx hx=>(bJ.mp hx).elim (hp x) λz=>by rw[cJ.mp z];exact hr c cY) λx hx=>hr x (bZ _ hx);have h2:=hD ((pre++rest).map tl) (by rw[aH,aX];lia) λx hx=>by
   obtain⟨y,hy,rfl⟩:=aY.mp hx;intro i hi;rcases bJ.mp hy with z|z
   .exact hp y z (i+1) dj
   .exact hr y (bZ _ z) (i+1) dj
  have h3:=hr c cY 0 dj;unfold U2;rw[eM,mI];have h4:(c 0*D ((pre++rest).map tl)).natAbs<=M*B:=by rw[rV];exact rY h3 h2
  lia
theorem Vl:∀n cols,gu cols=n->(∀c∈cols,Fits M n c)->(G2 n cols).natAbs<=ow M n
 |0,_,_,_=>aT 1
 |n+1,cols,hl,hf=>by
  have:=a9a (Vl n) cols [] (by simp_all) (λc hc=>by cases hc) hf;rw[hl] at this;exact this
theorem a7K{α:Type}{C}{u:α}(h:C[i]?=fo u):C=C.take i++u::C.drop (i+1):=by
 obtain⟨hi,rfl⟩:=cA.mp h;rw[<-wU hi,wV]
theorem b2z n u v xs ys(hl:gu xs+gu ys+2=n):G2 n (xs++u::v::ys) =-G2 n (xs++v::u::ys):=by
 have L:=Vi n;have A:=Vk n;have h0:=A (wm 1 u 1 v) xs ys hl;have h1:=L 1 u 1 v xs (wm 1 u 1 v::ys) (by simp only[eM];lia);have h2:=L 1 u 1 v (xs++[u]) ys (by simp only[aX,fR];lia);have h3:=L 1 u 1 v (xs++[v]) ys (by simp only[aX,fR];lia);have h4:=A u xs ys hl;have h5:=A v xs ys hl;simp only[dC,fD,gG] at h2 h3;lia
theorem a9d(n:Nat)(u:J4):∀zs xs ys,gu xs+gu zs+gu ys+2=n->G2 n (xs++u::(zs++u::ys))=0
 |[],xs,ys,hl=>Vk n u xs ys (by simp_all)
 |z::zs,xs,ys,hl=>by
  have jl:gu xs+(gu zs+1)+gu ys+2=n:=hl;rw[fD,b2z n u z xs (zs++u::ys) (by grind)];have:=a9d n u zs (xs++[z]) ys (by rw[aX,fR];lia);simp only[dC,fD,gG] at this;lia
theorem a9y{k:Nat}(hl:gu C=n)(BH:i<k)(h1:C[i]?=fo u)(h2:C[k]?=fo u):G2 n C=0:=by
 have hk:k<gu C:=(cA.mp h2).1;have h3:(C.drop (i+1))[k-(i+1)]?=fo u:=by rw[wW,(dj:i+1+(k-(i+1))=k)];exact h2
 rw[a7K h1,a7K h3];refine a9d n u _ _ _ ?_;simp only[cI,eJ];lia
theorem NV{k:Nat}(hl:gu C=n)(BH:i≠k)(h1:C[i]?=fo u)(h2:C[k]?=fo u):G2 n C=0:=by
 rcases Nat.lt_or_gt_of_ne BH with h|h
 .exact a9y hl h h1 h2
 .exact a9y hl h h2 h1
theorem Vm{α:Type}{C:List α}(h:k<gu C)u:C.set k u=C.take k++u::C.drop (k+1):=by
 rw[List.set_eq_take_append_cons_drop,qg h]
theorem Ka{C:List J4}(hl:gu C=n)(hk:k<n)a u b v:G2 n (C.set k (wm a u b v))=a*G2 n (C.set k u)+b*G2 n (C.set k v):=by
 have i_:k<gu C:=dj;rw[Vm i_,Vm i_,Vm i_];refine Vi n a u b v _ _ ?_;simp only[cI,eJ];lia
theorem Vn{C:List J4}(hl:gu C=n)(hi:i<n)(hk:k<n)(BH:i≠k)u:G2 n ((C.set i u).set k u)=0:=by
 refine NV (u:=u) (by simp_all) BH ?_ ?_
 .rw[dP (bV BH),eK dj]
 .rw[eK (by simp_all)]
theorem a6Q{C:List J4}(hl:gu C=n)(hi:i<n)(hk:k<n)(BH:i≠k)u v:G2 n ((C.set i u).set k v) =-G2 n ((C.set i v).set k u):=by
 have h0:=Vn hl hi hk BH (wm 1 u 1 v);have h1:=Ka (C:=C.set i (wm 1 u 1 v)) (by simp_all) hk 1 u 1 v;have h2:=Ka (C:=C.set k u) (by simp_all) hi 1 u 1 v;have h3:=Ka (C:=C.set k v) (by simp_all) hi 1 u 1 v;have h4:=Vn hl hi hk BH u;have h5:=Vn hl hi hk BH v;rw[kJ _ _ (bV BH),kJ _ _ (bV BH),kJ _ _ (bV BH)] at h2 h3;lia
def sumTo(g:Nat->Int):Nat->Int
 |0=>0
 |n+1=>sumTo g n+g n
theorem aj:∀{n},(∀k,k<n->g k=h k)->sumTo g n=sumTo h n
 |0,_=>rfl
 |n+1,e=>by
  show sumTo g n+g n=sumTo h n+h n;rw[aj λk hk=>e k dj,e n dj]
theorem dm(h:∀k,k<n->g k=0):sumTo g n=0:=by
 induction n with
 |zero=>rfl
 |succ n ih =>
  show sumTo g n+g n=0;rw[ih λk hk=>h k dj,h n dj];rfl
theorem cz(hr:r<n)(h:∀k,k<n->k≠r->g k=0):sumTo g n=g r:=by
 induction n with
 |zero=>lia
 |succ n ih =>
  show sumTo g n+g n=g r;by_cases c:r=n
  .subst c;rw[dm λk hk=>h k dj dj];lia
  .rw[ih dj λk hk hn=>h k dj hn,h n dj dj];lia
theorem Z0:∀n,sumTo (λk=>g k+h k) n=sumTo g n+sumTo h n
 |0=>rfl
 |n+1=>by
  show sumTo (λk=>g k+h k) n+(g n+h n)=sumTo g n+g n+(sumTo h n+h n);rw[Z0 n];lia
theorem D8(a:Int):∀n,sumTo (λk=>a*g k) n=a*sumTo g n
 |0=>(cW a).symm
 |n+1=>by
  show sumTo (λk=>a*g k) n+a*g n=a*(sumTo g n+g n);rw[D8 a n,kZ]
theorem b5R(hr:r<n)(hi:i<n)(mm:r≠i)(h:∀k,k<n->k≠r->k≠i->g k=0):sumTo g n=g r+g i:=by
 have e:sumTo g n=sumTo (λk=>(if k=r then g k else 0)+(if k=i then g k else 0)) n:=aj λk hk=>by
  by_cases c1:k=r
  .rw[qg c1,qf dj];lia
  .by_cases c2:k=i
   .rw[qf c1,qg c2];lia
   .rw[qf c1,qf c2,h k hk c1 c2];lia
 rw[e,Z0,cz hr λk _ hn=>qf hn,cz hi λk _ hn=>qf hn,qg rfl,qg rfl]
theorem QV{C:List J4}(hl:gu C=n)(hk:k<n)(t:Nat->Int)(W:Nat->J4):∀m,G2 n (C.set k (λx=>sumTo (λj=>t j*W j x) m))=sumTo (λj=>t j*G2 n (C.set k (W j))) m
 |0=>by
  have h:=Ka hl hk 0 (λ_=>0) 0 λ_=>0;have e:wm 0 (λ_=>0) 0 (λ_=>0)=(λx:Nat=>sumTo (λj=>t j*W j x) 0):=by funext x;simp[wm,sumTo]
  rw[e] at h;rw[h];simp[sumTo]
 |m+1=>by
  have h:=Ka hl hk 1 (λx=>sumTo (λj=>t j*W j x) m) (t m) (W m);have e:wm 1 (λx=>sumTo (λj=>t j*W j x) m) (t m) (W m)=(λx:Nat=>sumTo (λj=>t j*W j x) (m+1)):=by funext x;simp[wm,sumTo]
  rw[e,QV hl hk t W m] at h;rw[h];show 1*sumTo _ m+_=sumTo _ m+_;rw[lE]
def zv:J4:=λ_=>0
def IV(n:Nat)(B:List J4)(u:J4):Prop:=∀x,G2 n B*u x=sumTo (λk=>G2 n (B.set k u)*(B.getD k zv) x) n
theorem Vo{B:List J4}(h:k<gu B):B[k]?=fo (B.getD k zv):=by simp_all
theorem W7{B:List J4}(h:k<gu B):B.set k (B.getD k zv)=B:=by simp_all
theorem plu(hl:gu B=n)(hr:r<n)(hi:i<n)(mm:i≠r)v(hc:IV n B u) :
  G2 n B*G2 n ((B.set r u).set i v)=G2 n (B.set r u)*G2 n (B.set i v)-G2 n (B.set i u)*G2 n (B.set r v):=by
 have jl:gu (B.set i v)=n:=by rw[eE];exact hl
 have e1:G2 n ((B.set i v).set r (wm (G2 n B) u 0 u))=G2 n B*G2 n ((B.set i v).set r u):=by
  rw[Ka jl hr];lia
 have e2:wm (G2 n B) u 0 u=(λx:Nat=>sumTo (λk=>G2 n (B.set k u)*(B.getD k zv) x) n):=by
  funext x;rw[<-hc x];unfold wm;lia
 rw[e2,QV jl hr (λk=>G2 n (B.set k u)) (λk=>B.getD k zv) n] at e1;rw[kJ _ _ (bV mm),<-e1];rw[b5R hr hi (bV mm) λk hk n1 n2=>?_]
 .have a1:(B.set i v).set r (B.getD r zv)=B.set i v:=by rw[kJ _ _ mm,W7 dj]
  have a2:G2 n ((B.set i v).set r (B.getD i zv)) =-G2 n (B.set r v):=by
   rw[a6Q hl hi hr mm,W7 dj]
  rw[a1,a2,fT];lia
 .have:G2 n ((B.set i v).set r (B.getD k zv))=0:=by
   refine NV (u:=B.getD k zv) (by simp_all) n1 ?_ ?_
   .rw[dP (bV n1),dP (bV n2)];exact Vo dj
   .rw[eK (by simp_all)]
  rw[this,cW]
def b8d{b:Int}(hd:d≠0)(h:d*a=d*b):a=b:=Int.eq_of_mul_eq_mul_left hd h
theorem a5t(hl:gu B=n)(hr:r<n)(hd:G2 n B≠0)(hu:IV n B u)(hv:IV n B v):IV n (B.set r u) v:=by
 intro x;refine b8d hd ?_;have e:∀k,k<n->G2 n B*(G2 n ((B.set r u).set k v)*((B.set r u).getD k zv) x) =
   G2 n (B.set r u)*(G2 n (B.set k v)*(B.getD k zv) x)+(if k=r then G2 n B*(G2 n (B.set r v)*u x) else 0)-G2 n (B.set r v)*(G2 n (B.set k u)*(B.getD k zv) x):=λk hk=>by
  by_cases c:k=r
  .subst c;rw[qg rfl,wX];have g:(B.set k u).getD k zv=u:=by rw[bA,eK dj];rfl
   rw[g];have:G2 n (B.set k u)*(G2 n (B.set k v)*B.getD k zv x)=G2 n (B.set k v)*(G2 n (B.set k u)*B.getD k zv x):=by rw[<-cG,<-cG,bX (G2 n (B.set k u))]
   lia
  .rw[qf c];have g:(B.set r u).getD k zv=B.getD k zv:=by rw[bA,dP (bV c),<-bA]
   rw[g,<-cG,plu hl hr hk c v hu,pA,cG,cG];have:G2 n (B.set k u)*(G2 n (B.set r v)*B.getD k zv x)=G2 n (B.set r v)*(G2 n (B.set k u)*B.getD k zv x):=by rw[<-cG,<-cG,bX (G2 n (B.set k u))]
   lia
 have s1:G2 n B*sumTo (λk=>G2 n ((B.set r u).set k v)*((B.set r u).getD k zv) x) n =
   sumTo (λk=>G2 n (B.set r u)*(G2 n (B.set k v)*(B.getD k zv) x)+(if k=r then G2 n B*(G2 n (B.set r v)*u x) else 0)+(- G2 n (B.set r v))*(G2 n (B.set k u)*(B.getD k zv) x)) n:=by
  rw[<-D8];refine aj λk hk=>?_;rw[e k hk,iJ];lia
 rw[s1,Z0,Z0,D8,D8,<-hv x,<-hu x,cz hr λk _ hn=>qf hn,qg rfl,iJ];have a1:G2 n B*(G2 n (B.set r u)*v x)=G2 n (B.set r u)*(G2 n B*v x):=by grind
 lia
theorem b0o(hl:gu B=n)(hr:r<n):IV n B (B.getD r zv):=by
 intro x;rw[cz hr λk hk hn=>?_]
 .rw[W7 dj]
 .have:G2 n (B.set k (B.getD r zv))=0:=by
   refine NV (u:=B.getD r zv) (by simp_all) (bV hn) ?_ ?_
   .rw[dP hn];exact Vo dj
   .rw[eK dj]
  rw[this,gY]
theorem b8Q(hl:gu B=n)(hd:G2 n B≠0){t:Nat->Int}(h:∀x,sumTo (λk=>t k*(B.getD k zv) x) n=0)(hi:i<n):t i=0:=by
 have h1:=QV hl hi t (λk=>B.getD k zv) n;have e:(λx:Nat=>sumTo (λk=>t k*(B.getD k zv) x) n)=zv:=by funext x;rw[h x];rfl
 rw[e] at h1;have h0:G2 n (B.set i zv)=0:=by
  have:=Ka hl hi 0 zv 0 zv;have e:wm 0 zv 0 zv=zv:=by funext x;simp[wm,zv]
  rw[e] at this;lia
 rw[h0,cz hi λk hk hn=>?_,W7 dj] at h1
 .exact(pB.mp h1.symm).resolve_right hd
 .have:G2 n (B.set i (B.getD k zv))=0:=by
   refine NV (u:=B.getD k zv) (by rw[eE];exact hl) hn ?_ ?_
   .rw[dP (bV hn)];exact Vo dj
   .rw[eK dj]
  rw[this,cW]
structure Bo where
 d:Int
 T:Nat->Nat->Int
 ins:Nat->Nat
 outs:Nat->Nat
def jm(g:Nat->Nat)(k v:Nat):Nat->Nat:=λi=>if i=k then v else g i
def C3:jm g k v k=v:=qg rfl
def C7(h:i≠k):jm g k v i=g i:=qf h
def fe(S:Bo)(r c:Nat):Bo where
 d:=S.T r c
 T:=λi j=>if i=r then (if j=c then S.d else S.T r j) else (if j=c then-S.T i c else (S.T i j*S.T r c-S.T i c*S.T r j)/S.d)
 ins:=jm S.ins r (S.outs c)
 outs:=jm S.outs c (S.ins r)
def Bs(m:Nat)(V:Nat->J4)(ins:Nat->Nat):List J4:=(aW (m+1)).map λi=>V (ins i)
theorem LM m V ins:gu (Bs m V ins)=m+1:=by unfold Bs;rw[aH,gZ]
theorem QW(h:i<m+1):(Bs m V ins).getD i zv=V (ins i):=by
 unfold Bs;rw[bA,aP,cU h];rfl
theorem Vp(h:r<m+1):Bs m V (jm ins r v)=(Bs m V ins).set r (V v):=by
 refine dR λi=>?_;unfold Bs;by_cases c:i=r
 .subst c;rw[eK (by simp_all),aP,cU h];show fo (V (jm ins i v i))=_;rw[C3]
 .rw[dP (bV c),aP,aP];by_cases hi:i<m+1
  .rw[cU hi];show fo (V (jm ins r v i))=fo (V (ins i));rw[C7 c]
  .rw[bW (by simp_all)];rfl
structure Wf(m q:Nat)(V:Nat->J4)(S:Bo):Prop where
 hd:S.d=G2 (m+1) (Bs m V S.ins)
 hT:∀i j,i<m+1->j<q+1->S.T i j=G2 (m+1) ((Bs m V S.ins).set i (V (S.outs j)))
 cr:∀j,j<q+1->IV (m+1) (Bs m V S.ins) (V (S.outs j))
 pos:0<S.d
 CK:∀i,i<m->0<=S.T i q
 im:S.ins m=q+m
 oq:S.outs q=q+m+1
 ib:∀i,i<m->S.ins i<q+m
 ob:∀j,j<q->S.outs j<q+m
 ii:∀i k,i<m->k<m->S.ins i=S.ins k->i=k
 oo:∀j k,j<q->k<q->S.outs j=S.outs k->j=k
 io:∀i j,i<m->j<q->S.ins i≠S.outs j
 all:∀v,v<q+m->(∃i,i<m/\S.ins i=v)\/(∃j,j<q/\S.outs j=v)
theorem Wf.exact(W:Wf m q V S)(hr:r<m)(hc:c<q)(hi:i<m+1)(hj:j<q+1)(mm:i≠r) :
  S.T i j*S.T r c-S.T i c*S.T r j=S.d*G2 (m+1) (((Bs m V S.ins).set r (V (S.outs c))).set i (V (S.outs j))):=by
 have h:=plu (LM m V S.ins) (dj:r<m+1) hi mm (V (S.outs j)) (W.cr c dj);rw[W.hd,h,W.hT i j hi hj,W.hT r c dj dj,W.hT i c hi dj,W.hT r j dj hj];rw[bX (G2 (m+1) ((Bs m V S.ins).set i (V (S.outs j))))]
theorem Wf.NW(W:Wf m q V S)(hr:r<m)(hc:c<q)(hi:i<m+1)(hj:j<q+1):(fe S r c).T i j=G2 (m+1) ((Bs m V (fe S r c).ins).set i (V ((fe S r c).outs j))):=by
 have hl:=LM m V S.ins;show(if i=r then (if j=c then S.d else S.T r j) else (if j=c then-S.T i c else (S.T i j*S.T r c-S.T i c*S.T r j)/S.d))=G2 (m+1) ((Bs m V (jm S.ins r (S.outs c))).set i (V (jm S.outs c (S.ins r) j)));rw[Vp dj];by_cases c1:i=r
 .subst c1;rw[qg rfl,wX];by_cases c2:j=c
  .subst c2;rw[qg rfl,C3,W.hd,<-QW (V:=V) hi,W7 dj]
  .rw[qf c2,C7 c2];exact W.hT i j hi hj
 .rw[qf c1];by_cases c2:j=c
  .subst c2;rw[qg rfl,C3,a6Q hl dj hi (bV c1),<-QW (V:=V) (dj:r<m+1),W7 dj,W.hT i j hi hj]
  .rw[qf c2,C7 c2,W.exact hr hc hi hj c1];exact wI _ (by have:=W.pos;lia)
theorem Wf.Kb(W:Wf m q V S)(hr:r<m)(hc:c<q)(hi:i<m+1)(hj:j<q+1)(mm:i≠r)(wj:j≠c):S.d*(fe S r c).T i j=S.T i j*S.T r c-S.T i c*S.T r j:=by
 have e:=W.NW hr hc hi hj;have e2:Bs m V (fe S r c).ins=(Bs m V S.ins).set r (V (S.outs c)):=Vp dj;have e3:(fe S r c).outs j=S.outs j:=C7 wj;rw[e2,e3] at e;rw[W.exact hr hc hi hj mm,e]
theorem Wf.EU(W:Wf m q V S)(hr:r<m)(hc:c<q)(hp:0<S.T r c)(hq:∀i,i<m->0<S.T i c->S.T r q*S.T i c<=S.T i q*S.T r c):Wf m q V (fe S r c):=by
 have hl:=LM m V S.ins;have NX:G2 (m+1) (Bs m V S.ins)≠0:=by have:=W.pos;rw[W.hd] at this;lia
 have hB:Bs m V (fe S r c).ins=(Bs m V S.ins).set r (V (S.outs c)):=Vp dj;refine⟨?_,λi j hi hj=>W.NW hr hc hi hj,λj hj=>?_,hp,λi hi=>?_,?_,?_,λi hi=>?_,λj hj=>?_,λi k hi hk e=>?_,λj k hj hk e=>?_,λi j hi hj e=>?_,λv hv=>?_⟩
 .rw[hB];exact W.hT r c dj dj
 .rw[hB];by_cases c2:j=c
  .subst c2;show IV _ _ (V (jm S.outs j (S.ins r) j));rw[C3];have h:=b0o hl (dj:r<m+1);rw[QW dj] at h;exact a5t hl dj NX (W.cr j hj) h
  .show IV _ _ (V (jm S.outs c (S.ins r) j));rw[C7 c2];exact a5t hl dj NX (W.cr c dj) (W.cr j hj)
 .by_cases c1:i=r
  .subst c1;show 0<=(if i=i then (if q=c then S.d else S.T i q) else _);rw[qg rfl,qf dj];exact W.CK i hi
  .have e:=W.Kb hr hc (dj:i<m+1) (dj:q<q+1) c1 (dj:q≠c);have nn:0<=S.T i q*S.T r c-S.T i c*S.T r q:=by
    have a1:0<=S.T i q*S.T r c:=eO (W.CK i hi) (cC hp);by_cases z:0<S.T i c
    .have:=hq i hi z;rw[bX (S.T i c)];lia
    .have a2:0 <=-(S.T i c)*S.T r q:=eO dj (W.CK r hr);rw[iJ] at a2;lia
   rw[<-e] at nn;by_cases z:0<=(fe S r c).T i q
   .exact z
   .have:=gJ W.pos (dj:0 < - (fe S r c).T i q);rw[fT] at this;lia
 .show jm S.ins r (S.outs c) m=q+m;rw[C7 dj];exact W.im
 .show jm S.outs c (S.ins r) q=q+m+1;rw[C7 dj];exact W.oq
 .show jm S.ins r (S.outs c) i<q+m;by_cases c1:i=r
  .rw[c1,C3];exact W.ob c hc
  .rw[C7 c1];exact W.ib i hi
 .show jm S.outs c (S.ins r) j<q+m;by_cases c1:j=c
  .rw[c1,C3];exact W.ib r hr
  .rw[C7 c1];exact W.ob j hj
 .replace e:jm S.ins r (S.outs c) i=jm S.ins r (S.outs c) k:=e;by_cases c1:i=r
  .by_cases c2:k=r
   .lia
   .rw[c1,C3,C7 c2] at e;exact absurd e.symm (W.io k c hk hc)
  .by_cases c2:k=r
   .rw[c2,C3,C7 c1] at e;exact absurd e (W.io i c hi hc)
   .rw[C7 c1,C7 c2] at e;exact W.ii i k hi hk e
 .replace e:jm S.outs c (S.ins r) j=jm S.outs c (S.ins r) k:=e;by_cases c1:j=c
  .by_cases c2:k=c
   .lia
   .rw[c1,C3,C7 c2] at e;exact absurd e (W.io r k hr hk)
  .by_cases c2:k=c
   .rw[c2,C3,C7 c1] at e;exact absurd e.symm (W.io r j hr hj)
   .rw[C7 c1,C7 c2] at e;exact W.oo j k hj hk e
 .replace e:jm S.ins r (S.outs c) i=jm S.outs c (S.ins r) j:=e;by_cases c1:i=r
  .by_cases c2:j=c
   .rw[c1,c2,C3,C3] at e;exact absurd e.symm (W.io r c hr hc)
   .rw[c1,C3,C7 c2] at e;exact c2 (W.oo c j hc hj e).symm
  .by_cases c2:j=c
   .rw[c2,C3,C7 c1] at e;exact c1 (W.ii i r hi hr e)
   .rw[C7 c1,C7 c2] at e;exact W.io i j hi hj e
 .show(∃i,i<m/\jm S.ins r (S.outs c) i=v)\/(∃j,j<q/\jm S.outs c (S.ins r) j=v);rcases W.all v hv with⟨i,hi,e⟩|⟨j,hj,e⟩
  .by_cases c1:i=r
   .exact .inr ⟨c,hc,by rw[C3,<-c1];exact e⟩
   .exact .inl ⟨i,hi,by rw[C7 c1];exact e⟩
  .by_cases c1:j=c
   .exact .inl ⟨r,hr,by rw[C3,<-c1];exact e⟩
   .exact .inr ⟨j,hj,by rw[C7 c1];exact e⟩
def uv(m q:Nat)(V:Nat->J4)(S:Bo)(z:Nat->Int):Prop:=∀x,sumTo (λk=>z (S.ins k)*V (S.ins k) x) (m+1)+sumTo (λj=>z (S.outs j)*V (S.outs j) x) (q+1)=0
theorem a8V(hr:r<n)(e:∀k,k<n->k≠r->g k=h k):sumTo g n=sumTo h n+(g r-h r):=by
 have e1:sumTo g n=sumTo (λk=>h k+(if k=r then g k-h k else 0)) n:=aj λk hk=>by
  by_cases c:k=r
  .rw[qg c];lia
  .rw[qf c,e k hk c];lia
 rw[e1,Z0,cz hr λk _ hn=>qf hn,qg rfl]
theorem uv.fe(hr:r<m)(hc:c<q):uv m q V (fe S r c) z ↔ uv m q V S z:=by
  have e:∀x,sumTo (λk=>z ((Lp.fe S r c).ins k)*V ((Lp.fe S r c).ins k) x) (m+1)+sumTo (λj=>z ((Lp.fe S r c).outs j)*V ((Lp.fe S r c).outs j) x) (q+1)
     =sumTo (λk=>z (S.ins k)*V (S.ins k) x) (m+1)+sumTo (λj=>z (S.outs j)*V (S.outs j) x) (q+1):=λx=>by
    have h1:=a8V (g:=λk=>z ((Lp.fe S r c).ins k)*V ((Lp.fe S r c).ins k) x) (n:=m+1) (r:=r) dj λk hk hn=>by
      show z (jm S.ins r (S.outs c) k)*V (jm S.ins r (S.outs c) k) x=_;rw[C7 hn]
    have h2:=a8V (g:=λj=>z ((Lp.fe S r c).outs j)*V ((Lp.fe S r c).outs j) x) (n:=q+1) (r:=c) dj λk hk hn=>by
      show z (jm S.outs c (S.ins r) k)*V (jm S.outs c (S.ins r) k) x=_;rw[C7 hn]
    rw[h1,h2];show _+(z (jm S.ins r (S.outs c) r)*V (jm S.ins r (S.outs c) r) x-_)+(_+(z (jm S.outs c (S.ins r) c)*V (jm S.outs c (S.ins r) c) x-_))=_;rw[C3,C3];lia
  exact⟨λh x=>(e x).symm.trans (h x),λh x=>(e x).trans (h x)⟩
def Kc(q:Nat)(S:Bo)(z:Nat->Int)(i:Nat):Int:=S.d*z (S.ins i)+sumTo (λj=>S.T i j*z (S.outs j)) (q+1)
theorem NY{g:Nat->Nat->Int}(n:Nat):∀k,sumTo (λi=>sumTo (λj=>g i j) k) n=sumTo (λj=>sumTo (λi=>g i j) n) k
 |0=>dm λ_ _=>rfl
 |k+1=>by
  show sumTo (λi=>sumTo (λj=>g i j) k+g i k) n=sumTo (λj=>sumTo (λi=>g i j) n) k+sumTo (λi=>g i k) n;rw[Z0,NY n k]
theorem Wf.rows(W:Wf m q V S)z x:S.d*(sumTo (λk=>z (S.ins k)*V (S.ins k) x) (m+1)+sumTo (λj=>z (S.outs j)*V (S.outs j) x) (q+1))=sumTo (λk=>Kc q S z k*((Bs m V S.ins).getD k zv) x) (m+1):=by
 have e1:S.d*sumTo (λj=>z (S.outs j)*V (S.outs j) x) (q+1)=sumTo (λk=>sumTo (λj=>S.T k j*z (S.outs j)) (q+1)*((Bs m V S.ins).getD k zv) x) (m+1):=by
  rw[<-D8];have h1:∀j,j<q+1->S.d*(z (S.outs j)*V (S.outs j) x)=sumTo (λk=>S.T k j*z (S.outs j)*((Bs m V S.ins).getD k zv) x) (m+1):=λj hj=>by
   have h:=W.cr j hj x;rw[<-W.hd] at h;rw[bX (z (S.outs j)),<-cG,h,bX,<-D8];refine aj λk hk=>?_;rw[W.hT k j hk hj,<-cG,bX (z (S.outs j))]
  rw[aj h1,<-NY];refine aj λk hk=>?_;rw[bX (sumTo _ _),<-D8];exact aj λj _=>bX _ _
 rw[kZ,e1,<-D8,<-Z0];refine aj λk hk=>?_;show _=(S.d*z (S.ins k)+_)*_;rw[fG,QW hk,cG]
theorem Wf.EV(W:Wf m q V S)(h:uv m q V S z)(hi:i<m+1):Kc q S z i=0:=by
 refine b8Q (LM m V S.ins) (by have:=W.pos;rw[W.hd] at this;lia) (λx=>?_) hi;rw[<-W.rows z x,h x,cW]
theorem Wf.Kd(W:Wf m q V S)(h:∀i,i<m+1->Kc q S z i=0):uv m q V S z:=λx=>by
 have e:=W.rows z x;have e0:sumTo (λk=>Kc q S z k*((Bs m V S.ins).getD k zv) x) (m+1)=0:=dm λk hk=>by rw[h k hk,gY]
 rw[e0] at e;exact(pB.mp e).resolve_left (by have:=W.pos;lia)
structure Choice(m q:Nat)(S:Bo)(r c:Nat):Prop where
 hc:c<q
 neg:S.T m c<0
 Hs:∀j,j<q->S.T m j<0->S.outs c<=S.outs j
 hr:r<m
 pos:0<S.T r c
 ratio:∀i,i<m->0<S.T i c->S.T r q*S.T i c<=S.T i q*S.T r c
 Vq:∀i,i<m->0<S.T i c->S.T r q*S.T i c=S.T i q*S.T r c->S.ins r<=S.ins i
theorem a9c:∀{n},sumTo g n<0->∃k,k<n/\g k<0
 |0,h=>absurd h (by show ¬(0:Int)<0;lia)
 |n+1,h=>by
  have h':sumTo g n+g n<0:=h;by_cases c:g n<0
  .exact⟨n,dj,c⟩
  .obtain⟨k,hk,hg⟩:=a9c (g:=g) (n:=n) dj;exact⟨k,dj,hg⟩
theorem Wf.inj(W:Wf m q V S)(hi:i<m+1)(hk:k<m+1)(e:S.ins i=S.ins k):i=k:=by
 by_cases c1:i=m
 .by_cases c2:k=m
  .lia
  .have:=W.ib k dj;rw[c1,W.im] at e;lia
 .by_cases c2:k=m
  .have:=W.ib i dj;rw[c2,W.im] at e;lia
  .exact W.ii i k dj dj e
theorem Wf.apart(W:Wf m q V S)(hi:i<m+1)(hj:j<q+1):S.ins i≠S.outs j:=by
 intro e;have hI:S.ins i<=q+m:=by
  by_cases c1:i=m
  .rw[c1,W.im];exact aT _
  .have:=W.ib i dj;lia
 by_cases c2:j=q
 .rw[c2,W.oq] at e;lia
 .have:=W.ob j dj;by_cases c1:i=m
  .rw[c1,W.im] at e;lia
  .exact W.io i j dj dj e
theorem Wf.Vr(W:Wf m q V S)(hj:j<q+1)(hk:k<q+1)(e:S.outs j=S.outs k):j=k:=by
 by_cases c1:j=q
 .by_cases c2:k=q
  .lia
  .have:=W.ob k dj;rw[c1,W.oq] at e;lia
 .by_cases c2:k=q
  .have:=W.ob j dj;rw[c2,W.oq] at e;lia
  .exact W.oo j k dj dj e
def nc(m:Nat)(S:Bo)(c:Nat)(v:Nat):Int:=if v=S.outs c then S.d else sumTo (λi=>if S.ins i=v then-S.T i c else 0) (m+1)
theorem Wf.jd(W:Wf m q V S)(hc:c<q+1)(hk:k<m+1):nc m S c (S.ins k) =-S.T k c:=by
 unfold nc;rw[qf (W.apart hk hc),cz hk λi hi hn=>qf λe=>hn (W.inj hi hk e),qg rfl]
theorem Wf.h_(W:Wf m q V S)(hc:c<q+1)(hj:j<q+1)(hn:j≠c):nc m S c (S.outs j)=0:=by
 unfold nc;rw[qf λe=>hn (W.Vr hj hc e)];exact dm λi hi=>qf (W.apart hi hj)
def Wf.yi:nc m S c (S.outs c)=S.d:=qg rfl
theorem Wf.qp(W:Wf m q V S)(hc:c<q+1):uv m q V S (nc m S c):=W.Kd λi hi=>by
 unfold Kc;rw[W.jd hc hi,cz hc λj hj hn=>by rw[W.h_ hc hj hn,cW],Wf.yi,fT,bX];lia
theorem b6f(W:Wf m q V S)(W':Wf m q V S')(hk:∀z,uv m q V S z->uv m q V S' z)(C:Choice m q S r c)(C':Choice m q S' r' c')(ht:S.ins r=S'.outs c')(gj:S.outs c<S.ins r)
  (uh:∀v,S.ins r<v->(∃i,i<m/\S.ins i=v)->∃i,i<m/\S'.ins i=v) (zero:∀k j,k<m->j<q->S.ins k=S'.outs j->S.T k q=0):False:=by
 have GG:c<q+1:=by have:=C.hc;lia
 have R:=W'.EV (hk _ (W.qp GG)) (dj:m<m+1);have Vs:nc m S c (S'.ins m) =-S.T m c:=by rw[W'.im,<-W.im];exact W.jd GG dj
 have Vt:nc m S c (S'.outs q)=0:=by rw[W'.oq,<-W.oq];exact W.h_ GG dj (by have:=C.hc;lia)
 unfold Kc at R;replace R:S'.d*nc m S c (S'.ins m)+(sumTo (λj=>S'.T m j*nc m S c (S'.outs j)) q+S'.T m q*nc m S c (S'.outs q))=0:=R;rw[Vs,Vt,cW,fT] at R;have gs:0<S'.d*(- S.T m c):=gJ W'.pos (by have:=C.neg;lia);rw[fT] at gs;obtain⟨j,hj,hg⟩:=a9c (g:=λj=>S'.T m j*nc m S c (S'.outs j)) (n:=q) dj;replace hg:S'.T m j*nc m S c (S'.outs j)<0:=hg;rcases W.all (S'.outs j) (W'.ob j hj) with⟨k,CO,e⟩|⟨j2,hj2,e⟩
 .rw[<-e,W.jd GG dj] at hg;rcases Nat.lt_trichotomy (S'.outs j) (S.ins r) with h|h|h
  .have h1:0<=S'.T m j:=by
    by_cases z:S'.T m j<0
    .have:=C'.Hs j hj z;lia
    .lia
   have h2:0<S.T k c:=by
    by_cases z:0<S.T k c
    .exact z
    .have:=eO h1 (dj:0 <=-S.T k c);lia
   have h3:=zero k j CO hj e;have h4:=C.ratio k CO h2;rw[h3,gY] at h4;have h5:0<=S.T r q*S.T k c:=eO (W.CK r C.hr) (cC h2);have h6:=C.Vq k CO h2 (by rw[h3,gY];omega);lia
  .have e1:=W'.oo j c' hj C'.hc (by rw[h,ht]);have e2:=W.ii k r CO C.hr (by rw[e,h]);rw[e1,e2] at hg;have:=gJ (show 0 < - S'.T m c' by have:=C'.neg;lia) C.pos;rw[iJ] at this;rw[fT] at hg;lia
  .obtain⟨i,hi,e3⟩:=uh _ h ⟨k,CO,e⟩;exact W'.io i j hi hj e3
 .by_cases c2:j2=c
  .rw[<-e,c2,Wf.yi] at hg;have h1:S'.T m j<0:=by
    by_cases z:S'.T m j<0
    .exact z
    .have:=eO (dj:0<=S'.T m j) (cC W.pos);lia
   have:=C'.Hs j hj h1;rw[c2] at e;lia
  .rw[<-e,W.h_ GG dj c2,cW] at hg;lia
def Zr(m q:Nat)(S:Bo)(v:Nat):Prop:=∀i,i<m->S.ins i=v->S.T i q=0
def CP(m:Nat)(S:Bo)(v:Nat):Prop:=∃i,i<m/\S.ins i=v
theorem CP.fe(W:Wf m q V S)(hr:r<m)(hc:c<q)(h1:v≠S.ins r)(h2:v≠S.outs c):CP m (Lp.fe S r c) v ↔ CP m S v:=by
 constructor
 .rintro⟨i,hi,e⟩;replace e:jm S.ins r (S.outs c) i=v:=e;by_cases z:i=r
  .rw[z,C3] at e;exact absurd e.symm h2
  .rw[C7 z] at e;exact⟨i,hi,e⟩
 .rintro⟨i,hi,e⟩;have z:i≠r:=λz=>h1 (by simp_all);exact⟨i,hi,(C7 z).trans e⟩
theorem Zr.fe(W:Wf m q V S)(C:Choice m q S r c)(h0:S.T r q=0)v:Zr m q (Lp.fe S r c) v ↔ Zr m q S v:=by
 have key:∀i,i<m->i≠r->((Lp.fe S r c).T i q=0 ↔ S.T i q=0):=λi hi hn=>by
  have e:=W.Kb C.hr C.hc (dj:i<m+1) (dj:q<q+1) hn (show q≠c by have:=C.hc;lia);rw[h0,cW,Int.sub_zero] at e;constructor
  .intro z;rw[z,cW] at e;exact(pB.mp e.symm).resolve_right (by have:=C.pos;lia)
  .intro z;rw[z,gY] at e;exact(pB.mp e).resolve_left (by have:=W.pos;lia)
 have kr:(Lp.fe S r c).T r q=0:=by
  show(if r=r then (if q=c then S.d else S.T r q) else _)=0;rw[qg rfl,qf (by have:=C.hc;lia)];exact h0
 constructor
 .intro h i hi e;by_cases z:i=r
  .rw[z];exact h0
  .exact(key i hi z).mp (h i hi ((C7 z).trans e))
 .intro h i hi e;by_cases z:i=r
  .rw[z];exact kr
  .exact(key i hi z).mpr (h i hi ((C7 z).symm.trans e))
structure Seq(m q:Nat)(V:Nat->J4)(S:Nat->Bo)(R C:Nat->Nat):Prop where
 w:Wf m q V (S 0)
 ch:∀k,Choice m q (S k) (R k) (C k)
 st:∀k,S (k+1)=fe (S k) (R k) (C k)
theorem Seq.wf(Q:Seq m q V S R C):∀k,Wf m q V (S k)
 |0=>Q.w
 |k+1=>by rw[Q.st k];exact(Q.wf k).EU (Q.ch k).hr (Q.ch k).hc (Q.ch k).pos (Q.ch k).ratio
theorem Seq.NZ(Q:Seq m q V S R C)(z:Nat->Int)(a:Nat):∀n,uv m q V (S (a+n)) z ↔ uv m q V (S a) z
 |0=>pC
 |n+1=>by
  show uv m q V (S (a+n+1)) z ↔ _;rw[Q.st,uv.fe (Q.ch _).hr (Q.ch _).hc];exact Q.NZ z a n
def Dg(q:Nat)(S:Nat->Bo)(R:Nat->Nat)(k:Nat):Prop:=(S k).T (R k) q=0
theorem Seq.zr(Q:Seq m q V S R C)(v a:Nat):∀n,(∀k,a<=k->k<a+n->Dg q S R k)->(Zr m q (S (a+n)) v ↔ Zr m q (S a) v)
 |0,_=>pC
 |n+1,h=>by
  show Zr m q (S (a+n+1)) v ↔ _;rw[Q.st,Zr.fe (Q.wf _) (Q.ch _) (h (a+n) dj dj)];exact Q.zr v a n λk h1 h2=>h k h1 dj
def ES(S:Nat->Bo)(R C:Nat->Nat)(k v:Nat):Prop:=v=(S k).ins (R k)\/v=(S k).outs (C k)
theorem Seq.Vu(Q:Seq m q V S R C)(v a:Nat):∀n,(∀k,a<=k->k<a+n->¬ES S R C k v)->(CP m (S (a+n)) v ↔ CP m (S a) v)
 |0,_=>pC
 |n+1,h=>by
  have hp:=h (a+n) dj dj;show CP m (S (a+n+1)) v ↔ _;rw[Q.st,CP.fe (Q.wf _) (Q.ch _).hr (Q.ch _).hc (λz=>hp (.inl z)) λz=>hp (.inr z)];exact Q.Vu v a n λk h1 h2=>h k h1 dj
theorem Seq.once(Q:Seq m q V S R C)(hd:∀k,a<=k->k<b->Dg q S R k)(ht:∀k,a<=k->k<b->∀v,ES S R C k v->v<=t):∀g k0 k1,k1=k0+1+g->a<=k0->k1<b->ES S R C k0 t->ES S R C k1 t->False:=by
 intro g;induction g using vP with
 |_ g ih =>
  intro k0 k1 hk ha hb p0 p1;by_cases hm:∃k,k0<k/\k<k1/\ES S R C k t
  .obtain⟨k,h1,h2,h3⟩:=hm;exact ih (k-k0-1) dj k0 k dj ha dj p0 h3
  have W0:=Q.wf k0;have W1:=Q.wf k1;have C0:=Q.ch k0;have C1:=Q.ch k1;have N_:CP m (S k1) t ↔ CP m (S (k0+1)) t:=by
   have:=Q.Vu t (k0+1) g λk h1 h2=>λz=>hm ⟨k,dj,dj,z⟩;rw[(dj:k0+1+g=k1)] at this;exact this
  have uh:∀v,t<v->(CP m (S k1) v ↔ CP m (S k0) v):=λv hv=>by
   have:=Q.Vu v k0 (g+1) λk h1 h2=>λz=>by have:=ht k dj dj v z;lia
   rw[(dj:k0+(g+1)=k1)] at this;exact this
  have NZ:=λz=>by
   have:=Q.NZ z k0 (g+1);rw[(dj:k0+(g+1)=k1)] at this;exact this
  have zrr:=λv=>by
   have:=Q.zr v k0 (g+1) λk h1 h2=>hd k dj dj;rw[(dj:k0+(g+1)=k1)] at this;exact this
  rcases p0 with e0|e0
  .-- it goes out at k0,so it comes in at k1
   have nb:¬CP m (S (k0+1)) t:=by
    rintro⟨i,hi,e⟩;rw[Q.st k0] at e;replace e:jm (S k0).ins (R k0) ((S k0).outs (C k0)) i=t:=e;by_cases z:i=R k0
    .rw[z,C3,e0] at e;exact W0.io _ _ C0.hr C0.hc e.symm
    .rw[C7 z,e0] at e;exact z (W0.ii i (R k0) hi C0.hr e)
   rcases p1 with e1|e1
   .exact nb (N_.mp ⟨_,C1.hr,e1.symm⟩)
   .have gj:(S k0).outs (C k0)<(S k0).ins (R k0):=by
     have h1:=ht k0 ha dj _ (.inr rfl);rw[e0] at h1;have:=W0.io (R k0) (C k0) C0.hr C0.hc;lia
    refine b6f W0 W1 (λz h=>(NZ z).mpr h) C0 C1 (by simp_all) gj (λv hv ou=>(uh v (e0▸hv)).mpr ou) λk j CO hj e=>(((zrr ((S k0).ins k)).mp λi hi e2=>?_) k CO rfl);rw[e] at e2;exact absurd e2 (W1.io i j hi hj)
  .-- it comes in at k0,so it goes out at k1
   have ba:CP m (S (k0+1)) t:=⟨R k0,C0.hr,by rw[Q.st k0];show jm (S k0).ins (R k0) ((S k0).outs (C k0)) (R k0)=t;rw[C3];exact e0.symm⟩;rcases p1 with e1|e1
   .have gj:(S k1).outs (C k1)<(S k1).ins (R k1):=by
     have h1:=ht k1 dj hb _ (.inr rfl);rw[e1] at h1;have:=W1.io (R k1) (C k1) C1.hr C1.hc;lia
    refine b6f W1 W0 (λz h=>(NZ z).mp h) C1 C0 (by rw[<-e0,<-e1]) gj (λv hv ou=>(uh v (e1▸hv)).mp ou) λk j CO hj e=>(((zrr ((S k1).ins k)).mpr λi hi e2=>?_) k CO rfl);rw[e] at e2;exact absurd e2 (W0.io i j hi hj)
   .obtain⟨i,hi,e⟩:=N_.mpr ba;rw[e1] at e;exact W1.io i (C k1) hi C1.hc e
theorem Seq.short(Q:Seq m q V S R C):∀t a b,a<=b->(∀k,a<=k->k<b->Dg q S R k)->(∀k,a<=k->k<b->∀v,ES S R C k v->v<t)->b+1<=a+2^t
 |0,a,b,yh,hd,hp=>by
  by_cases c:a<b
  .have:=hp a (aT _) c _ (.inl rfl);lia
  .rw[Nat.pow_zero];lia
 |t+1,a,b,yh,hd,hp=>by
  rw[wY];by_cases h:∃k,a<=k/\k<b/\ES S R C k t
  .obtain⟨k,h1,h2,h3⟩:=h;have once:=Q.once hd (t:=t) λk h1 h2 v hv=>by have:=hp k h1 h2 v hv;lia
   have i1:=Q.short t a k h1 (λj j1 j2=>hd j j1 dj) λj j1 j2 v hv=>by
    have:=hp j j1 dj v hv;by_cases z:v=t
    .subst z;exact(once (k-j-1) j k dj j1 h2 hv h3).elim
    .lia
   have i2:=Q.short t (k+1) b dj (λj j1 j2=>hd j dj j2) λj j1 j2 v hv=>by
    have:=hp j dj j2 v hv;by_cases z:v=t
    .subst z;exact(once (j-k-1) k j dj h1 j2 h3 hv).elim
    .lia
   lia
  .have:=Q.short t a b yh hd λj j1 j2 v hv=>by
    have h4:=hp j j1 j2 v hv;by_cases z:v=t
    .subst z;exact absurd ⟨j,j1,j2,hv⟩ h
    .lia
   have:0<2^t:=Nat.two_pow_pos t;lia
section
variable{m q:Nat}{V:Nat->J4}{S:Bo}
theorem Wf.Oa(hM:∀v,Fits M (m+1) (V v)):∀c∈Bs m V S.ins,Fits M (m+1) c:=λc hc=>by
 obtain⟨i,_,rfl⟩:=aY.mp hc;exact hM _
theorem Wf.Ht(W:Wf m q V S)(hM:∀v,Fits M (m+1) (V v)):S.d.natAbs<=ow M (m+1):=by
 rw[W.hd];exact Vl (m+1) _ (LM m V S.ins) (Wf.Oa hM)
theorem Wf.Hu(W:Wf m q V S)(hM:∀v,Fits M (m+1) (V v))(hi:i<m+1)(hj:j<q+1):(S.T i j).natAbs<=ow M (m+1):=by
 rw[W.hT i j hi hj];refine Vl (m+1) _ (by rw[eE];exact LM m V S.ins) λc hc=>?_;rcases pD hc with h|h
 .exact Wf.Oa hM c h
 .rw[h];exact hM _
def BI(m q:Nat)(M:Int)(S:Bo):Int:=M*M*S.T m q/S.d
theorem Wf.Vw(W:Wf m q V S)(C:Choice m q S r c)(h1:S.d<=M)(h2:S.T r c<=M):BI m q M S+(if S.T r q=0 then 0 else 1)<=BI m q M (fe S r c):=by
 have hcq:=C.hc;have IW:=C.hr;have e:=W.Kb IW hcq (dj:m<m+1) (dj:q<q+1) (dj:m≠r) (dj:q≠c);have hp:=C.pos;have hd:=W.pos;have hn:=C.neg;have hf:=W.CK r IW;unfold BI;show _<=M*M*(fe S r c).T m q/S.T r c;generalize (fe S r c).T m q=N' at *;generalize S.T m q=N at *;generalize S.T r c=p at *;generalize S.d=d at *;generalize S.T m c=g at *;generalize S.T r q=b at *;rw[Int.le_ediv_iff_mul_le hp];have LN:M*M*N/d*d<=M*M*N:=Int.ediv_mul_le _ dj;generalize M*M*N/d=f at *;have hM:0<M:=dj;have hMM:=wZ h1 h2 (cC hp) (cC hM);have key:(f+(if b=0 then 0 else 1))*p*d<=M*M*N'*d:=by
  have a1:M*M*N'*d=M*M*N*p+M*M*(-(g*b)):=by
   have:N'*d=N*p-g*b:=by rw[bX N' d];exact e
   rw[cG (M*M),this,lC,cG (M*M),fT];lia
  have a2:=fH LN (cC hp);have a3:f*p*d=f*d*p:=by rw[cG,bX p d,<-cG]
  by_cases c0:b=0
  .rw[qg c0,gK,a1,a3,c0];simp only[cW,Int.neg_zero,gK];exact a2
  .rw[qf c0];have a4:1 <= -(g*b):=by
    have:=gJ (dj:0 < -g) (dj:0<b);rw[iJ] at this;lia
   have a5:M*M*1<=M*M*(-(g*b)):=jU a4 (eO (cC hM) (cC hM));rw[fG,fG,lE,a3,a1];rw[bX d p] at hMM;lia
 exact mW key hd
theorem Wf.Ke(W:Wf m q V S)(h1:S.T m q<=M)(h0:0<M):BI m q M S<=M*M*M:=by
 unfold BI;refine Int.ediv_le_of_le_mul W.pos ?_;have a1:M*M*S.T m q<=M*M*M:=jU h1 (eO (cC h0) (cC h0));have a2:M*M*M*1<=M*M*M*S.d:=jU (by have:=W.pos;lia) (eO (eO (cC h0) (cC h0)) (cC h0));lia
end
theorem Seq.BJ(Q:Seq m q V S R C)k v(h:ES S R C k v):v<q+m:=by
 rcases h with h|h
 .rw[h];exact(Q.wf k).ib _ (Q.ch k).hr
 .rw[h];exact(Q.wf k).ob _ (Q.ch k).hc
theorem Seq.never(Q:Seq m q V S R C)(hM:∀v,Fits M (m+1) (V v)):False:=by
 obtain⟨B,hB⟩:∃B,B=(ow M (m+1):Int):=⟨_,cm⟩;have bT:∀k i j,i<m+1->j<q+1->(S k).T i j<=B:=λk i j hi hj=>by
  have:=(Q.wf k).Hu hM hi hj;lia
 have bd:∀k,(S k).d<=B:=λk=>by
  have:=(Q.wf k).Ht hM;lia
 have B0:0<B:=by have:=bd 0;have:=(Q.wf 0).pos;lia
 have up:∀k,BI m q B (S k)+(if (S k).T (R k) q=0 then 0 else 1)<=BI m q B (S (k+1)):=λk=>by
  rw[Q.st k];exact(Q.wf k).Vw (Q.ch k) (bd k) (bT k _ _ (by have:=(Q.ch k).hr;lia) (by have:=(Q.ch k).hc;lia))
 have mono:∀n k,BI m q B (S k)<=BI m q B (S (k+n)):=λn=>by
  induction n with
  |zero=>intro k;exact dL _
  |succ n ih =>
   intro k;have h1:=ih k;have h2:=up (k+n);have h3:BI m q B (S (k+n))<=BI m q B (S (k+n+1)):=by
    split at h2<;>lia
   exact xA h1 h3
 have P8:=λk=>(Q.wf k).Ke (bT k m q dj dj) B0;have gap:∀(g:Nat)k,B*B*B-BI m q B (S k)<=(g:Int)->False:=by
  intro g;induction g with
  |zero =>
   intro k hk;have:∃j,k<=j/\j<k+2^(q+m)/\¬Dg q S R j:=by
    refine lF λhn=>?_;have:=Q.short (q+m) k (k+2^(q+m)) (kW _ _) (λj h1 h2=>lF λz=>hn ⟨j,h1,h2,z⟩) λj _ _ v hv=>Q.BJ j v hv;lia
   obtain⟨j,h1,h2,h3⟩:=this;have u:=up j;rw[qf (show ¬(S j).T (R j) q=0 from h3)] at u;have m1:=mono (j-k) k;rw[(dj:k+(j-k)=j)] at m1;have:=P8 (j+1);lia
  |succ g ih =>
   intro k hk;have:∃j,k<=j/\j<k+2^(q+m)/\¬Dg q S R j:=by
    refine lF λhn=>?_;have:=Q.short (q+m) k (k+2^(q+m)) (kW _ _) (λj h1 h2=>lF λz=>hn ⟨j,h1,h2,z⟩) λj _ _ v hv=>Q.BJ j v hv;lia
   obtain⟨j,h1,h2,h3⟩:=this;have u:=up j;rw[qf (show ¬(S j).T (R j) q=0 from h3)] at u;have m1:=mono (j-k) k;rw[(dj:k+(j-k)=j)] at m1;exact ih (j+1) dj
 exact gap (B*B*B-BI m q B (S 0)).toNat 0 dj
inductive Ends(m q:Nat):Bo->Nat->Prop
 |stop {S:Bo}:(¬s_ λr c=>Choice m q S r c)->Ends m q S 0
 |go {S:Bo} {r c k:Nat}:Choice m q S r c->Ends m q (fe S r c) k->Ends m q S (k+1)
theorem Choice.uniq(W:Wf m q V S)(h:Choice m q S r c)(h':Choice m q S r' c'):r=r'/\c=c':=by
 have ec:=W.oo c c' h.hc h'.hc (xB (h.Hs c' h'.hc h'.neg) (h'.Hs c h.hc h.neg));subst ec;have e1:=h.ratio r' h'.hr h'.pos;have e2:=h'.ratio r h.hr h.pos;have e:S.T r q*S.T r' c=S.T r' q*S.T r c:=dj;exact⟨W.ii r r' h.hr h'.hr (xB (h.Vq r' h'.hr h'.pos e) (h'.Vq r h.hr h.pos e.symm)),cm⟩
theorem Ends.next(W:Wf m q V S)(h:Ends m q S k)(C:Choice m q S r c):∃j,j<k/\Ends m q (fe S r c) j:=by
 cases h with
 |stop hn=>exact absurd ⟨r,c,C⟩ hn
 |go C' h' =>
  obtain⟨rfl,rfl⟩:=C.uniq W C';exact⟨_,jJ _,h'⟩
theorem Wf.ends(hM:∀v,Fits M (m+1) (V v))(W:Wf m q V S):∃k,Ends m q S k:=by
 refine lF λhn=>?_;have ch:∀S',Wf m q V S'->(¬∃k,Ends m q S' k)->∃p:Nat×Nat,Choice m q S' p.1 p.2:=λS' _ h'=>by
  refine lF λz=>h' ⟨0,.stop λ⟨r,c,C⟩=>z ⟨(r,c),C⟩⟩
 let St:={S':Bo//Wf m q V S'/\¬∃k,Ends m q S' k};let pk:(X:St)->Nat×Nat:=λX=>(ch X.1 X.2.1 X.2.2).choose;have pc:∀X:St,Choice m q X.1 (pk X).1 (pk X).2:=λX=>(ch X.1 X.2.1 X.2.2).choose_spec;let nx:St->St:=λX=>⟨fe X.1 (pk X).1 (pk X).2,X.2.1.EU (pc X).hr (pc X).hc (pc X).pos (pc X).ratio,λ⟨k,e⟩=>X.2.2 ⟨k+1,.go (pc X) e⟩⟩;let sq:Nat->St:=λk=>Nat.rec ⟨S,W,hn⟩ (λ_ X=>nx X) k;exact Seq.never ⟨W,λk=>pc (sq k),λk=>rfl⟩ hM
def Vv(m q:Nat)(A:Nat->Nat->Int)(b c:Nat->Int):Nat->J4:=λv x =>
 if v<q then (if x<m then A x v else if x=m then-c v else 0) else if v<q+m+1 then (if x=v-q then 1 else 0) else (if x<m then b x else 0)
def S0(m q:Nat)(A:Nat->Nat->Int)(b c:Nat->Int):Bo where
 d:=1
 T:=λi j=>if j<q then (if i<m then A i j else-c j) else (if i<m then b i else 0)
 ins:=λi=>q+i
 outs:=λj=>if j<q then j else q+m+1
theorem Vx(h:v<q):Vv m q A b c v x=if x<m then A x v else if x=m then-c v else 0:=by unfold Vv;rw[qg h]
theorem b8T(h:i<m+1):Vv m q A b c (q+i)=uu i:=by
 funext x;unfold Vv uu;rw[qf dj,qg dj,(dj:q+i-q=i)]
theorem b8H:Vv m q A b c (q+m+1) x=if x<m then b x else 0:=by unfold Vv;rw[qf dj,qf dj]
theorem b5Z(h:m<x):Vv m q A b c v x=0:=by
 unfold Vv;by_cases h1:v<q
 .rw[qg h1,qf dj,qf dj]
 .rw[qf h1];by_cases h2:v<q+m+1
  .rw[qg h2,qf dj]
  .rw[qf h2,qf dj]
theorem Vy:Bs m (Vv m q A b c) (S0 m q A b c).ins=(aW (m+1)).map uu:=by
 unfold Bs;exact fM λi hi=>b8T (fF.mp hi)
theorem a7u(h:k<n):((aW n).map uu).getD k zv=uu k:=by rw[bA,aP,cU h];rfl
theorem a5f{u:J4}(hu:∀x,n<=x->u x=0)x:sumTo (λk=>u k*uu k x) n=u x:=by
 by_cases h:x<n
 .rw[cz h λk _ hn=>by show u k*(if x=k then 1 else 0)=0;rw[qf (bV hn),cW]];show u x*(if x=x then 1 else 0)=u x;rw[qg rfl,jF]
 .rw[hu x dj];refine dm λk hk=>?_;show u k*(if x=k then 1 else 0)=0;rw[qf dj,cW]
theorem a2u(hi:i<n)(hu:∀x,n<=x->u x=0):G2 n (((aW n).map uu).set i u)=u i:=by
 have hl:gu ((aW n).map uu)=n:=fg;have h:=QV hl hi u uu n;have e:(λx:Nat=>sumTo (λk=>u k*uu k x) n)=u:=by funext x;exact a5f hu x
 rw[e,cz hi λk hk hn=>?_] at h
 .rw[h,<-a7u hi,W7 dj,QU,jF]
 .have:G2 n (((aW n).map uu).set i (uu k))=0:=by
   refine NV (u:=uu k) fg hn ?_ ?_
   .rw[dP (bV hn),aP,cU hk];rfl
   .rw[eK dj]
  rw[this,cW]
theorem wf0(hb:∀i,i<m->0<=b i):Wf m q (Vv m q A b c) (S0 m q A b c):=by
 have far:∀v x,m+1<=x->Vv m q A b c v x=0:=λv x h=>b5Z dj;refine⟨?_,λi j hi hj=>?_,λj hj x=>?_,Int.one_pos,λi hi=>?_,cm,?_,λi hi=>?_,λj hj=>?_,λi k hi hk e=>?_,λj k hj hk e=>?_,λi j hi hj e=>?_,λv hv=>?_⟩
 .rw[Vy,QU];rfl
 .rw[Vy,a2u hi (far _)];show(if j<q then (if i<m then A i j else-c j) else (if i<m then b i else 0))=Vv m q A b c (if j<q then j else q+m+1) i;by_cases h:j<q
  .rw[qg h,qg h,Vx h];by_cases h2:i<m
   .rw[qg h2,qg h2]
   .rw[qf h2,qf h2,qg dj]
  .rw[qf h,qf h,b8H]
 .rw[Vy,QU,lE];have e:sumTo (λk=>G2 (m+1) (((aW (m+1)).map uu).set k (Vv m q A b c ((S0 m q A b c).outs j)))*(((aW (m+1)).map uu).getD k zv) x) (m+1)=sumTo (λk=>Vv m q A b c ((S0 m q A b c).outs j) k*uu k x) (m+1) :=
   aj λk hk=>by rw[a2u hk (far _),a7u hk]
  rw[e,a5f (far _)]
 .show 0<=(if q<q then _ else (if i<m then b i else 0));rw[qf (dO _),qg hi];exact hb i hi
 .show(if q<q then q else q+m+1)=q+m+1;rw[qf (dO _)]
 .show q+i<q+m;lia
 .show(if j<q then j else q+m+1)<q+m;rw[qg hj];lia
 .replace e:q+i=q+k:=e;lia
 .replace e:(if j<q then j else q+m+1)=(if k<q then k else q+m+1):=e;rw[qg hj,qg hk] at e;exact e
 .replace e:q+i=(if j<q then j else q+m+1):=e;rw[qg hj] at e;lia
 .by_cases h:v<q
  .exact .inr ⟨v,h,qg h⟩
  .exact .inl ⟨v-q,dj,by show q+(v-q)=v;lia⟩
theorem EW:uv m q (Vv m q A b c) (S0 m q A b c) z ↔ (∀i,i<m->z (q+i)+sumTo (λj=>A i j*z j) q+b i*z (q+m+1)=0)/\z (q+m)=sumTo (λj=>c j*z j) q:=by
  have e:∀x,sumTo (λk=>z ((S0 m q A b c).ins k)*Vv m q A b c ((S0 m q A b c).ins k) x) (m+1)+sumTo (λj=>z ((S0 m q A b c).outs j)*Vv m q A b c ((S0 m q A b c).outs j) x) (q+1)
     =(if x<m+1 then z (q+x) else 0)+(sumTo (λj=>z j*Vv m q A b c j x) q+z (q+m+1)*(if x<m then b x else 0)):=λx=>by
    have e1:sumTo (λk=>z ((S0 m q A b c).ins k)*Vv m q A b c ((S0 m q A b c).ins k) x) (m+1)=if x<m+1 then z (q+x) else 0:=by
      have:sumTo (λk=>z ((S0 m q A b c).ins k)*Vv m q A b c ((S0 m q A b c).ins k) x) (m+1)=sumTo (λk=>z (q+k)*uu k x) (m+1):=aj λk hk=>by
        show z (q+k)*Vv m q A b c (q+k) x=_;rw[b8T hk]
      rw[this];by_cases h:x<m+1
      . rw[qg h,cz h λk _ hn=>by show z (q+k)*(if x=k then 1 else 0)=0;rw[qf (bV hn),cW]]
        show z (q+x)*(if x=x then 1 else 0)=_;rw[qg rfl,jF]
      . rw[qf h]
        refine dm λk hk=>?_;show z (q+k)*(if x=k then 1 else 0)=0;rw[qf dj,cW]
    have e2:sumTo (λj=>z ((S0 m q A b c).outs j)*Vv m q A b c ((S0 m q A b c).outs j) x) (q+1)=sumTo (λj=>z j*Vv m q A b c j x) q+z (q+m+1)*(if x<m then b x else 0):=by
      show sumTo (λj=>z (if j<q then j else q+m+1)*Vv m q A b c (if j<q then j else q+m+1) x) q+z (if q<q then q else q+m+1)*Vv m q A b c (if q<q then q else q+m+1) x=_;rw[qf (dO _),b8H];have:sumTo (λj=>z (if j<q then j else q+m+1)*Vv m q A b c (if j<q then j else q+m+1) x) q=sumTo (λj=>z j*Vv m q A b c j x) q:=aj λj hj=>by rw[qg hj]
      rw[this]
    rw[e1,e2]
  have am:∀i,i<m->sumTo (λj=>z j*Vv m q A b c j i) q=sumTo (λj=>A i j*z j) q:=λi hi=>aj λj hj=>by rw[Vx hj,qg hi,bX]
  have ob:sumTo (λj=>z j*Vv m q A b c j m) q =-sumTo (λj=>c j*z j) q:=by
    rw[(dj:- sumTo (λj=>c j*z j) q=(-1)*sumTo (λj=>c j*z j) q),<-D8];refine aj λj hj=>?_;rw[Vx hj,qf (dO _),qg rfl,fT,bX];lia
  constructor
  . intro h
    refine⟨λi hi=>?_,?_⟩
    . have:=h i
      rw[e i,qg dj,qg hi,am i hi,bX (z (q+m+1))] at this;lia
    . have:=h m
      rw[e m,qg dj,qf (dO _),ob,cW] at this;lia
  . rintro⟨h1,h2⟩ x
    rw[e x];by_cases c1:x<m
    . have:=h1 x c1
      rw[qg dj,qg c1,am x c1,bX (z (q+m+1))];lia
    . by_cases c2:x=m
      . subst c2
        rw[qg dj,qf (dO _),ob,cW];lia
      . rw[qf dj,qf c1,cW,dm λj hj=>by rw[b5Z dj,cW]]
        rfl
def cg(m:Nat)(S:Bo)(q v:Nat):Int:=sumTo (λi=>if S.ins i=v then S.T i q else 0) m
def aq(m q:Nat)(S:Bo)(v:Nat):Int:=sumTo (λj=>if S.outs j=v then S.T m j else 0) q
theorem Vz:∀{n},(∀k,k<n->0<=g k)->0<=sumTo g n
 |0,_=>dL 0
 |n+1,h=>by
  have h1:=Vz (g:=g) (n:=n) λk hk=>h k dj;have h2:=h n dj;show 0<=sumTo g n+g n;lia
inductive yN(m q:Nat)(V:Nat->J4)(R:Bo):Nat->Bo->Prop
 |nil:yN m q V R 0 R
 |go {n:Nat} {S:Bo} {r cc:Nat}:yN m q V R n S->Wf m q V S->Choice m q S r cc->yN m q V R (n+1) (Lp.fe S r cc)
theorem e6U(W:Wf m q V S)(C:Choice m q S r cc)(D:Choice m q S r' cc'):r=r'/\cc=cc':=by
 have e:=W.oo _ _ C.hc D.hc (xB (C.Hs _ D.hc D.neg) (D.Hs _ C.hc C.neg));subst e;have e:=Int.le_antisymm (C.ratio _ D.hr D.pos) (D.ratio _ C.hr C.pos);exact⟨W.ii _ _ C.hr D.hr (xB (C.Vq _ D.hr D.pos e) (D.Vq _ C.hr C.pos e.symm)),cm⟩
theorem yN.uniq:∀{n}{S S'},yN m q V R n S->yN m q V R n S'->S=S'
 |0,_,_,.nil,.nil=>rfl
 |n+1,_,_,.go a w c,.go a' _ c'=>by
  have e:=a.uniq a';subst e;obtain⟨rfl,rfl⟩:=e6U w c c';rfl
theorem yN.less:∀{k n}{S S'},yN m q V R n S->yN m q V R (n+k+1) S'->s_ λr cc=>Choice m q S r cc
 |0,_,_,_,a,.go a' _ c=>by
  have e:=a.uniq a';subst e;exact⟨_,_,c⟩
 |k+1,n,_,_,a,.go a' _ _=>yN.less a a'
structure Of(m q:Nat)(A:Nat->Nat->Int)(b c:Nat->Int)(S:Bo):Prop where
 w:Wf m q (Vv m q A b c) S
 k:∀z,uv m q (Vv m q A b c) S z ↔ uv m q (Vv m q A b c) (S0 m q A b c) z
 u:∃n,yN m q (Vv m q A b c) (S0 m q A b c) n S
def of0(hb:∀i,i<m->0<=b i):Of m q A b c (S0 m q A b c):=⟨wf0 hb,λ_=>pC,_,.nil⟩
def Of.fe(O:Of m q A b c S)(C:Choice m q S r cc):Of m q A b c (Lp.fe S r cc) :=
 ⟨O.w.EU C.hr C.hc C.pos C.ratio,λz=>(uv.fe C.hr C.hc).trans (O.k z),O.u.elim λ_ h=>⟨_,h.go O.w C⟩⟩
theorem Of.one(O:Of m q A b c S)(O':Of m q A b c S')(h:∀j,j<q->¬S.T m j<0)(h':∀j,j<q->¬S'.T m j<0):S=S':=by
 obtain⟨n,a⟩:=O.u;obtain⟨k,b⟩:=O'.u;rcases Nat.lt_trichotomy n k with e|e|e
 .obtain⟨d,rfl⟩:∃d,k=n+d+1:=⟨k-n-1,dj⟩;obtain⟨r,cc,C⟩:=a.less b;exact absurd C.neg (h _ C.hc)
 .subst e;exact a.uniq b
 .obtain⟨d,rfl⟩:∃d,n=k+d+1:=⟨n-k-1,dj⟩;obtain⟨r,cc,C⟩:=b.less a;exact absurd C.neg (h' _ C.hc)
def cM(m q:Nat)(S:Bo):Prop:=∃c,c<q/\S.T m c<0/\(∀j,j<q->S.T m j<0->S.outs c<=S.outs j)/\∀i,i<m->¬0<S.T i c
theorem Of.two(O:Of m q A b c S)(O':Of m q A b c S')(h:cM m q S)(h':∀j,j<q->¬S'.T m j<0):False:=by
 obtain⟨n,a⟩:=O.u;obtain⟨k,b⟩:=O'.u;obtain⟨x,hx,ng_,mn,no⟩:=h;rcases Nat.lt_trichotomy n k with e|e|e
 .obtain⟨d,rfl⟩:∃d,k=n+d+1:=⟨k-n-1,dj⟩;obtain⟨r,cc,C⟩:=a.less b;have e:=O.w.oo _ _ C.hc hx (xB (C.Hs _ hx ng_) (mn _ C.hc C.neg));subst e;exact no r C.hr C.pos
 .subst e;have:=a.uniq b;subst this;exact h' _ hx ng_
 .obtain⟨d,rfl⟩:∃d,n=k+d+1:=⟨n-k-1,dj⟩;obtain⟨r,cc,C⟩:=b.less a;exact h' _ C.hc C.neg
theorem Of.jn(h:∀j,j<q->0<=S.T m j)v:0<=aq m q S v:=Vz λj hj=>by
 split
 .exact h j hj
 .exact dL 0
theorem b2P(O:Of m q A b c S)(z:Nat->Int):sumTo (λj=>S.T m j*z (S.outs j)) q=sumTo (λv=>aq m q S v*z v) (q+m):=by
 have e:∀v,v<q+m->aq m q S v*z v=sumTo (λj=>(if S.outs j=v then S.T m j else 0)*z v) q:=λv _=>by
  unfold aq;rw[bX,<-D8];exact aj λj _=>bX _ _
 rw[aj e,NY];refine aj λj hj=>?_;rw[cz (O.w.ob j hj) λv _ hn=>by rw[qf (bV hn),gY],qg rfl]
theorem Of.yj(O:Of m q A b c S)(h:uv m q (Vv m q A b c) (S0 m q A b c) z):S.d*z (q+m)+sumTo (λv=>aq m q S v*z v) (q+m)+S.T m q*z (q+m+1)=0:=by
 have R:=O.w.EV ((O.k z).mpr h) (dj:m<m+1);unfold Kc at R;replace R:S.d*z (S.ins m)+(sumTo (λj=>S.T m j*z (S.outs j)) q+S.T m q*z (S.outs q))=0:=R;rw[O.w.im,O.w.oq,b2P O] at R;lia
theorem VA(n:Nat):∀k,sumTo g (n+k)=sumTo g n+sumTo (λi=>g (n+i)) k
 |0=>(gK _).symm
 |k+1=>by
  show sumTo g (n+k)+g (n+k)=sumTo g n+(sumTo (λi=>g (n+i)) k+g (n+k));rw[VA n k];lia
theorem Of.Hv(O:Of m q A b c S):(∀j,j<q->sumTo (λi=>A i j*aq m q S (q+i)) m=c j*S.d+aq m q S j)/\sumTo (λi=>b i*aq m q S (q+i)) m=S.T m q:=by
 constructor
 .intro j hj;have hk:uv m q (Vv m q A b c) (S0 m q A b c) (λv=>if v<q then (if v=j then 1 else 0) else if v<q+m then-A (v-q) j else if v=q+m then c j else 0):=by
   refine EW.mpr ⟨λi hi=>?_,?_⟩
   .rw[qf dj,qg dj,(dj:q+i-q=i),qf dj,qf dj,qf dj,cW,cz hj λk hk hn=>by rw[qg hk,qf hn,cW],qg hj,qg rfl];lia
   .rw[qf dj,qf dj,qg rfl,cz hj λk hk hn=>by rw[qg hk,qf hn,cW],qg hj,qg rfl];lia
  have R:=O.yj hk;rw[qf dj,qf dj,qg rfl,qf dj,qf dj,qf dj,cW,VA,cz hj λk hk hn=>by rw[qg hk,qf hn,cW],qg hj,qg rfl] at R;have e:sumTo (λi=>aq m q S (q+i)*(if q+i<q then (if q+i=j then 1 else 0) else if q+i<q+m then-A (q+i-q) j else if q+i=q+m then c j else 0)) m =-sumTo (λi=>A i j*aq m q S (q+i)) m:=by
   rw[(dj:- sumTo (λi=>A i j*aq m q S (q+i)) m=(-1)*sumTo (λi=>A i j*aq m q S (q+i)) m),<-D8];refine aj λi hi=>?_;rw[qf dj,qg dj,(dj:q+i-q=i),fT,bX];lia
  rw[e,bX S.d] at R;lia
 .have hk:uv m q (Vv m q A b c) (S0 m q A b c) (λv=>if v<q then 0 else if v<q+m then b (v-q) else if v=q+m then 0 else -1):=by
   refine EW.mpr ⟨λi hi=>?_,?_⟩
   .rw[qf dj,qg dj,(dj:q+i-q=i),qf dj,qf dj,qf dj,dm λk hk=>by rw[qg hk,cW]];lia
   .rw[qf dj,qf dj,qg rfl,dm λk hk=>by rw[qg hk,cW]]
  have R:=O.yj hk;rw[qf dj,qf dj,qg rfl,qf dj,qf dj,qf dj,cW,VA,dm λk hk=>by rw[qg hk,cW]] at R;have e:sumTo (λi=>aq m q S (q+i)*(if q+i<q then 0 else if q+i<q+m then b (q+i-q) else if q+i=q+m then 0 else -1)) m=sumTo (λi=>b i*aq m q S (q+i)) m :=
   aj λi hi=>by rw[qf dj,qg dj,(dj:q+i-q=i),bX]
  rw[e] at R;lia
theorem Of.way(O:Of m q A b c S)(hc:cc<q)(neg:S.T m cc<0)(no:∀i,i<m->¬0<S.T i cc):∃y:Nat->Int,(∀j,j<q->0<=y j)/\(∀i,i<m->sumTo (λj=>A i j*y j) q<=0)/\0<sumTo (λj=>c j*y j) q:=by
 have K0:=(O.k _).mp (O.w.qp (c:=cc) dj);obtain⟨rows,goal⟩:=EW.mp K0;have zc:nc m S cc (q+m+1)=0:=by
  rw[<-O.w.oq];exact O.w.h_ dj dj dj
 have zg:nc m S cc (q+m) =-S.T m cc:=by
  rw[<-O.w.im];exact O.w.jd dj dj
 have nn:∀v,v<q+m->0<=nc m S cc v:=λv hv=>by
  rcases O.w.all v hv with⟨i,hi,e⟩|⟨j,hj,e⟩
  .rw[<-e,O.w.jd dj dj];have:=no i hi;lia
  .rw[<-e];by_cases wj:j=cc
   .subst wj;rw[Wf.yi];exact cC O.w.pos
   .rw[O.w.h_ dj dj wj];exact dL _
 refine⟨nc m S cc,λj hj=>nn j dj,λi hi=>?_,by rw[<-goal,zg];lia⟩;have r0:=rows i hi;rw[zc,cW,gK] at r0;have n0:=nn (q+i) dj;lia
theorem Of.bounded(O:Of m q A b c S)(h0:i0<m)(hl:l<m)(hA:∀j,j<q->A i0 j+A l j=c j)(st:cM m q S):False:=by
 obtain⟨cc,hc,neg,-,no⟩:=st;obtain⟨y,_,rows,goal⟩:=O.way hc neg no;have r0:=rows i0 h0;have rl:=rows l hl;have e:sumTo (λj=>c j*y j) q=sumTo (λj=>A i0 j*y j) q+sumTo (λj=>A l j*y j) q:=by
  rw[<-Z0];refine aj λj hj=>?_;rw[<-hA j hj,fG]
 lia
theorem O7:∀{n},(∀k,k<n->g k<=h k)->sumTo g n<=sumTo h n
 |0,_=>dL _
 |n+1,e=>Int.add_le_add (O7 λk hk=>e k dj) (e n dj)
theorem Of.weak(O:Of m q A b c S)(hn:∀j,j<q->¬S.T m j<0){y:Nat->Int}(hy:∀j,j<q->0<=y j)(hr:∀i,i<m->sumTo (λj=>A i j*y j) q<=b i*e):S.d*sumTo (λj=>c j*y j) q<=e*S.T m q:=by
 obtain⟨D1,D2⟩:=O.Hv;have nn:∀v,0<=aq m q S v:=Of.jn λj hj=>by have:=hn j hj;lia
 have e1:S.d*sumTo (λj=>c j*y j) q=sumTo (λj=>sumTo (λi=>A i j*aq m q S (q+i)) m*y j-aq m q S j*y j) q:=by
  rw[<-D8];refine aj λj hj=>?_;rw[D1 j hj,fG,xG,bX (c j) S.d,cG]
 have e2:sumTo (λj=>sumTo (λi=>A i j*aq m q S (q+i)) m*y j-aq m q S j*y j) q<=sumTo (λj=>sumTo (λi=>A i j*aq m q S (q+i)) m*y j) q:=by
  refine O7 λj hj=>?_;have:=eO (nn j) (hy j hj);lia
 have e3:sumTo (λj=>sumTo (λi=>A i j*aq m q S (q+i)) m*y j) q=sumTo (λi=>aq m q S (q+i)*sumTo (λj=>A i j*y j) q) m:=by
  have x1:sumTo (λj=>sumTo (λi=>A i j*aq m q S (q+i)) m*y j) q=sumTo (λj=>sumTo (λi=>aq m q S (q+i)*(A i j*y j)) m) q:=by
   refine aj λj hj=>?_;rw[bX,<-D8];refine aj λi hi=>?_
   ac_rfl
  rw[x1,NY];refine aj λi hi=>?_;rw[D8]
 have e4:sumTo (λi=>aq m q S (q+i)*sumTo (λj=>A i j*y j) q) m<=sumTo (λi=>e*(b i*aq m q S (q+i))) m:=by
  refine O7 λi hi=>?_;have:=jU (hr i hi) (nn (q+i));have x:aq m q S (q+i)*(b i*e)=e*(b i*aq m q S (q+i)):=by ac_rfl
  rw[x] at this;exact this
 rw[D8,D2] at e4;rw[e1];rw[e3] at e2;exact xA e2 e4
end Lp
namespace Tx
open PySem PySem.Builtin PySem.Builtin.Str PyProof.Rows
abbrev S:=dZ
abbrev cs(x:S):List Nat:=x.cps.toList
theorem ext(h:cs x=cs y):x=y:=by
 cases x with|mk a=>cases y with|mk b =>
 have:a.toList=b.toList:=h;rw[Array.toList_inj.mp this]
theorem bu x y:cs (x++y)=cs x++cs y:=by
 cases x with|mk a=>cases y with|mk b =>
 show(a++b).toList=a.toList++b.toList
 simp
abbrev ch(c:Nat):S:=⟨#[c]⟩
def vk c:cs (ch c)=[c]:=rfl
def d_ x:x.length=(cs x).length:=(lO).symm
theorem b2M:∀{a b s t:List Nat},c ∉ a->c ∉ b->a++c::s=b++c::t->a=b/\s=t
 |[],[],s,t,_,_,h=>⟨cm,by simpa using h⟩
 |[],y::b,s,t,_,hb,h=>by
  have:c=y:=by simpa using (kS h).1
  exact absurd (this▸cY) hb
 |x::a,[],s,t,ha,_,h=>by
  have:x=c:=by simpa using (kS h).1
  exact absurd (this▸cY) ha
 |x::a,y::b,s,t,ha,hb,h=>by
  obtain⟨h1,h2⟩:=kS h;obtain⟨e1,e2⟩:=b2M (λz=>ha (bZ _ z)) (λz=>hb (bZ _ z)) h2;exact⟨by rw[h1,e1],e2⟩
theorem a7y:∀{ps qs},ps≠[]->qs≠[]->(∀p∈ps,c ∉ cs p)->(∀p∈qs,c ∉ cs p)->cO (ch c) ps=cO (ch c) qs->ps=qs
 |[],_,h,_,_,_,_=>absurd rfl h
 |_::_,[],_,h,_,_,_=>absurd rfl h
 |[p],[q],_,_,_,_,h=>by rw[show p=q from h]
 |[p],q::q'::r,_,_,hp,_,h=>by
  have e:=rd cs h;have e':cs p=cs (q++ch c++cO (ch c) (q'::r)):=e;rw[bu,bu] at e';exact absurd (by rw[e'];simp) (hp p cY)
 |p::p'::r,[q],_,_,_,hq,h=>by
  have e:=rd cs h;have e':cs (p++ch c++cO (ch c) (p'::r))=cs q:=e;rw[bu,bu] at e';exact absurd (by rw[<-e'];simp) (hq q cY)
 |p::p'::r,q::q'::r',_,_,hp,hq,h=>by
  have e:cs (p++ch c++cO (ch c) (p'::r))=cs (q++ch c++cO (ch c) (q'::r')):=rd cs h;rw[bu,bu,bu,bu,dC,dC] at e;obtain⟨e1,e2⟩:=b2M (hp p cY) (hq q cY) e;rw[ext e1,a7y fg fg (λx hx=>hp x (bZ _ hx)) (λx hx=>hq x (bZ _ hx)) (ext e2)]
theorem R7(mm:ps≠[])(hf:∀p∈ps,c ∉ cs p):aU (cO (ch c) ps) (ch c)=ps:=by
 refine a7y ?_ mm (StrLaws.split_free _ c) hf (mQ _ _);intro z;have:=split_pos (cO (ch c) ps) (ch c);rw[z] at this;exact absurd this dz
theorem r_(x:S)c:aU x (ch c)≠[]:=λz=>by
 have:=split_pos x (ch c);rw[z] at this;exact absurd this dz
theorem a7I:∀{ps:List S}{p},p∈ps->d∈cs p->d∈cs (cO (ch c) ps)
 |[q],p,h,hd=>by rw[cJ.mp h] at hd;exact hd
 |q::q'::r,p,h,hd=>by
  show d∈cs (q++ch c++cO (ch c) (q'::r));rw[bu,bu];rcases bH.mp h with rfl|h
  .exact fW _ (fW _ hd)
  .exact eL _ (a7I h hd)
def J6(x:S):Prop:=∀c∈cs x,c<128
theorem fj{p:S}(h:J6 x)(hp:p∈Txt.split x (ch c)):J6 p:=λd hd=>h d (by
 have:=a7I (c:=c) hp hd;rwa[mQ] at this)
theorem dv(hx:J6 x)(hy:J6 y):J6 (x++y):=λc hc=>by
 rw[bu] at hc;exact(bJ.mp hc).elim (hx c) (hy c)
theorem se(hc:c<128):∀{ps:List S},(∀p∈ps,J6 p)->J6 (cO (ch c) ps)
 |[],_=>λd hd=>by cases hd
 |[p],h=>h p cY
 |p::p'::r,h=>by
  refine dv (dv (h p cY) λd hd=>?_) (se hc λq hq=>h q (bZ _ hq));rw[vk,cJ] at hd;lia
def join_eq(sep:S)(ps:List S):vN sep ps=cO sep ps:=StrLaws.glued_eq_join sep ps
def x6(n:Int):S:=cN (toString n)
def Qx(m:Nat):cs (x6 (m:Int))=(jQ 10 m).map rP:=W.KIN.signs_num m
theorem sf(m:Nat):NumText.AllDigits (cs (x6 (m:Int))):=λc hc=>by
 rw[Qx] at hc;obtain⟨x,hx,rfl⟩:=aY.mp hc;exact digit_range (Nat.isDigit_of_mem_toDigits dz dz hx)
theorem b5B(m:Nat):rQ (cs (x6 (m:Int)))=m:=by rw[Qx];exact W.KIN.val_back m
def A5(x:S):Bool:=decide (1<=gu (cs x))&&decide (gu (cs x)<=10)&&(cs x).all (λc=>decide (48<=c)&&decide (c<=57))&&(decide ((cs x).head?≠fo 48)||decide (cs x=[48]))
def w4(x:S):Option Int:=if A5 x=true then fo ((rQ (cs x):Nat):Int) else fO
theorem b3w:∀m,1<=m->((jQ 10 m).map rP).head?≠fo 48:=λm=>by
 induction m using vP with
 |_ m ih =>
  intro h;by_cases h1:m<10
  .rw[Nat.toDigits_of_lt_base h1];have:∀d,d<10->1<=d->(vQ d).toNat≠48:=dz;exact λz=>this m h1 h (bD z)
  .have hm:m%10<10:=Nat.mod_lt m dz;have t:jQ 10 (m/10)++jQ 10 (m%10)=jQ 10 (10*(m/10)+m%10):=Nat.toDigits_append_toDigits dz dj hm;rw[Nat.div_add_mod] at t;rw[<-t,bQ];have i:=ih (m/10) dj dj;cases e:(jQ 10 (m/10)).map rP with
   |nil =>
    have:=vR (n:=m/10) (b:=10);exact absurd (rR.mp e) this
   |cons a r=>rw[e] at i;exact i
theorem BC{m:Nat}(h:m<10^10):1<=(cs (x6 (m:Int))).length/\(cs (x6 (m:Int))).length<=10:=by
 have h2:=W.KT.len_num (n:=(m:Int)) dj dj;refine⟨?_,by rw[<-d_];exact h2⟩;rw[Qx,aH];have:=vR (n:=m) (b:=10);cases e:jQ 10 m with
 |nil=>exact absurd e this
 |cons _ _=>simp
theorem b0D{m:Nat}(h:m<10^10):A5 (x6 (m:Int))=true:=by
 obtain⟨l1,l2⟩:=BC h;unfold A5;rw[qk l1,qk l2];have ha:(cs (x6 (m:Int))).all (λc=>decide (48<=c)&&decide (c<=57))=true:=by
  rw[fE];intro c hc;obtain⟨a,b⟩:=sf m c hc;rw[qk a,qk b];rfl
 rw[ha];by_cases h0:m=0
 .subst h0;decide
 .rw[qk (show(cs (x6 (m:Int))).head?≠fo 48 by rw[Qx];exact b3w m dj)];rfl
theorem ET{m:Nat}(h:m<10^10):w4 (x6 (m:Int))=fo (m:Int):=by
 unfold w4;rw[qg (b0D h),b5B]
theorem yf(h:w4 x=fo n):0<=n:=by
 unfold w4 at h;split at h
 .cases h;exact vS _
 .cases h
end Tx
namespace Tx
open PySem PySem.Builtin.Str
theorem b7d(a len:Nat):strSliceIndices fO (fo (a:Int)) 1 len=strSliceIndices (fo ((0:Nat):Int)) (fo ((min a len:Nat):Int)) 1 len:=by
 have h1:¬((a:Int)<0):=dj;have h2:¬(((min a len:Nat):Int)<0):=dj;have h3:¬(((0:Nat):Int)<0):=dj;have e1:max (0:Int) (min (a:Int) (len:Int))=max (0:Int) (min ((min a len:Nat):Int) (len:Int)):=dj;have e2:(0:Int)=max (0:Int) (min (((0:Nat):Int)) (len:Int)):=dj;simp only[strSliceIndices,h1,h2,h3,if_false,show((1:Int)>0)=True from fg,if_true];rw[<-e1,<-e2]
theorem b1R(a len:Nat):strSliceIndices (fo (a:Int)) fO 1 len=strSliceIndices (fo ((min a len:Nat):Int)) (fo ((len:Nat):Int)) 1 len:=by
 have h1:¬((a:Int)<0):=dj;have h2:¬(((min a len:Nat):Int)<0):=dj;have h3:¬(((len:Nat):Int)<0):=dj;have e1:max (0:Int) (min (a:Int) (len:Int))=max (0:Int) (min ((min a len:Nat):Int) (len:Int)):=dj;have e2:((len:Nat):Int)=max (0:Int) (min (((len:Nat):Int)) (len:Int)):=dj;simp only[strSliceIndices,h1,h2,h3,if_false,show((1:Int)>0)=True from fg,if_true];rw[<-e1,<-e2]
theorem a6O{z:S}(yh:a<=b)(hb:b<=z.length)(h:strSliceIndices l u 1 z.length=strSliceIndices (fo (a:Int)) (fo (b:Int)) 1 z.length):cs (eQ z l u)=((cs z).drop a).take (b-a):=by
 unfold eQ;rw[h];split
 .rename_i c
  rw[StrLaws.strSliceIndices_plain yh hb,aH,gZ] at c;have c':b-a=z.length:=by simp_all
  have a0:a=0:=dj;rw[a0,oY,fZ (by rw[<-d_];lia)]
 .show(xZ _ _).toArray.toList=_;rw[List.toList_toArray,StrLaws.sliced_plain z yh hb]
theorem BV(z:S)(a:Nat):cs (eQ z fO (fo (a:Int)))=(cs z).take a:=by
 rw[a6O (dM _) dj (b7d a z.length),oY,Nat.sub_zero];by_cases h:a<=z.length
 .rw[jT h]
 .rw[yE dj,fZ (by rw[<-d_];lia),fZ (by rw[<-d_];lia)]
theorem qv(z:S)(a:Nat):cs (eQ z (fo (a:Int)) fO)=(cs z).drop a:=by
 rw[a6O dj (aT _) (b1R a z.length)];by_cases h:a<=z.length
 .rw[jT h,fZ (by rw[eJ,<-d_];lia)]
 .rw[yE dj,gL,List.take_zero,pO (by rw[<-d_];lia)]
end Tx
namespace Fr
abbrev Q2:=Int×Int
def gI(a b:Int):Int:=(rT a b:Int)
def low(t b:Int):Q2:=(t/gI t b,b/gI t b)
def UU(f:Q2):Prop:=0<f.2/\rT f.1 f.2=1
def QK a b:0<=gI a b:=vS _
def T9 a b:gI a b∣a:=Int.gcd_dvd_left ..
def G7 a b:gI a b∣b:=Int.gcd_dvd_right ..
theorem QL(hb:0<b):0<gI a b:=by
 have h0:=QK a b;by_cases z:gI a b=0
 .have:=G7 a b;rw[z,Int.zero_dvd] at this;lia
 .lia
def b9G(hb:0<b):gI a b<=b:=wG hb (G7 a b)
def UW(h1:c∣a)(h2:c∣b):c∣gI a b:=Int.dvd_coe_gcd h1 h2
def UX{b:Int}(ha:0<=a)(hb:0<=b)(h1:a∣b)(h2:b∣a):a=b:=Int.dvd_antisymm ha hb h1 h2
theorem b4a a b:gI b (a%b)=gI a b:=by
 refine UX (QK _ _) (QK _ _) (UW ?_ (T9 _ _)) (UW (G7 _ _) ?_)
 .have:=Int.dvd_add (wH (c:=a/b) (T9 b (a%b))) (G7 b (a%b));rw[Int.mul_ediv_add_emod] at this;exact this
 .have:=Int.dvd_sub (T9 a b) (wH (c:=a/b) (G7 a b));rw[Int.emod_def];exact this
theorem b5L a:gI a 0=a.natAbs:=by unfold gI;rw[Int.gcd_zero_right]
theorem Im(hb:0<b):0<(low t b).2:=by
 obtain⟨k,hk⟩:=G7 t b;show 0<b/gI t b;have e:b/gI t b=k:=by
  have:b/gI t b=(gI t b*k)/gI t b:=by rw[<-hk]
  rw[this,wI _ dj]
 rw[e];by_cases z:0<k
 .exact z
 .have:=eO (cC (QL (a:=t) hb)) (dj:0 <= -k);rw[fT] at this;lia
def QM(hb:0<b):t=gI t b*(low t b).1/\b=gI t b*(low t b).2 :=
 ⟨(wJ (T9 t b)).symm,(wJ (G7 t b)).symm⟩
theorem DQ(hb:0<b):(low t b).1*b=t*(low t b).2:=by
 obtain⟨h1,h2⟩:=QM hb;generalize gI t b=g at h1 h2;generalize low t b=f at h1 h2;rw[h1,h2]
 ac_rfl
theorem UO(hb:0<b):UU (low t b):=by
 refine⟨Im hb,?_⟩;obtain⟨h1,h2⟩:=QM hb;have q:gI t b*gI (low t b).1 (low t b).2∣gI t b*1:=by
  rw[jF];refine UW ?_ ?_
  .have:=wK (gI t b) (T9 (low t b).1 (low t b).2);rw[<-h1] at this;exact this
  .have:=wK (gI t b) (G7 (low t b).1 (low t b).2);rw[<-h2] at this;exact this
 have q2:=Int.dvd_of_mul_dvd_mul_left dj q;have q3:=UX (QK _ _) dz q2 (Int.one_dvd _);unfold gI at q3;lia
theorem a3e(h:rT a b=1)(d:b∣a*c):b∣c:=by
 have h':Nat.Coprime b.natAbs a.natAbs:=by
  rw[Nat.coprime_comm];exact h
 have d':b.natAbs∣a.natAbs*c.natAbs:=by rw[<-rV];exact wL.mpr d
 exact wL.mp (h'.dvd_of_dvd_mul_left d')
theorem a6j(hf:UU f)(hg:UU g)(h:f.1*g.2=g.1*f.2):f=g:=by
 have d1:=a3e hf.2 ⟨g.1,by rw[h,bX]⟩;have d2:=a3e hg.2 ⟨f.1,by rw[<-h,bX]⟩;have e2:=UX (cC hf.1) (cC hg.1) d1 d2;have e1:f.1=g.1:=by
  rw[e2] at h;exact rW (by have:=hg.1;lia) h
 exact Prod.ext e1 e2
theorem b1V(hb:0<b)(ou:0<b')(h:t*b'=t'*b):low t b=low t' b':=by
 refine a6j (UO hb) (UO ou) ?_;have c1:=DQ (t:=t) hb;have c2:=DQ (t:=t') ou;generalize low t b=x at c1⊢;generalize low t' b'=y at c2⊢;refine rW (a:=b*b') (by have:=gJ hb ou;lia) ?_
 calc x.1*y.2*(b*b')=(x.1*b)*(y.2*b'):=by ac_rfl
  _=(t*b')*(x.2*y.2):=by rw[c1];ac_rfl
  _=(t'*y.2)*(b*x.2):=by rw[h];ac_rfl
  _=(y.1*b')*(b*x.2):=by rw[c2]
  _=y.1*x.2*(b*b'):=by ac_rfl
theorem F6{m:Int}(ha:0<a)(hm:0<m)(h:m∣a):0<a/m/\m*(a/m)=a:=by
 have e:=wJ h;refine⟨?_,e⟩;by_cases z:0<a/m
 .exact z
 .have:=eO (cC hm) (dj:0 <= -(a/m));rw[fT] at this;lia
end Fr
namespace L2
open PySem PySem.Spec PyProof.Rows
abbrev UY(X:Cx)(qual:aC)(scope:cQ)(f:aA)(cd:aE)(C:aA):Env:=W.envX qual scope C f cd (p_ X.env scope.names [])
def QN(X:Cx)(col:aC)(fr:List Nat)(qual:aC)(scope:cQ)(f:aA)(cd:aE)(A':aV)(s₀:aG)(H₀:Hp):Cx :=
  {X with N:=col::fr.map λj=>X.N.getD j "",s₀:=s₀,H₀:=H₀,A:=A'.deeper (UY X qual scope f cd s₀.heap.objs.size),env:=UY X qual scope f cd s₀.heap.objs.size,outer:=X.stack,
           stack:=UY X qual scope f cd s₀.heap.objs.size::X.stack,ex:=[],fn:=λ_=>false,pn:=[],xe:=λ_ _=>False}
section
variable{X:Cx}{ip:List (aA×Obj)}{σ:St}{H:Hp}{s:aG}{fr:List Nat}{scope:cQ}{col:aC}{qual:aC}{f:aA}{cd:aE}{A':aV}
theorem NP(e:(p_ env l []).lookup x=fo c):env.cells.lookup x=fo c:=Ni (λ_ _ z=>by simp at z) e
theorem Inv.lam{tw:aJ}{t':Nat}{v:V}{u:aE}(I:Inv X ip σ H s)(hA:A'.frames=fo X.stack)(hh:A'.handled=X.A.handled)(hk:scope.kind=.function)(h:BA X.env.scope scope X.N fr=true)
  (kf:∀x∈scope.names,x.2≠.cell) (CI:scope.names.lookup col=fo .local) (EL:tw.Ns s.heap.objs.size λx=>[(col,u)].reverse.lookup x) (gq:∀b o,s.heap.get? b=fo o->tw.get? b=fo o) (r:RelV v u) :
  Inv (QN X col fr qual scope f cd A' s H) [] (fo v::LB fr σ) H {s with heap:=tw,toks:=t'} where
 ok:={
  mod:=I.ok.mod
  kind:=hk
  glob:=rfl
  blt:=rfl
  above:=aT _
  inj:=λx y c e1 e2=>I.ok.inj x y c (NP e1) (NP e2)
  has:=λx hx=>by
   rcases hx with e|e
   .exact absurd rfl (kf _ (O8 e))
   .exact LA (JO I h x (O8 e)) (O8 e)
  Gs:=λx c hx=>by cases (show false=true from hx)
  hd:=λz=>by
   show A'.handled=fO;rw[hh];exact I.ok.hd z
  frames:=qP hA
  GX:=.inr ⟨cm,cm⟩
  GY:=λb hb=>by cases (show b∈([]:List aA) from hb)
  bs:=I.bs
  xw:=bF I.ok.xw I.sz
  um:=λb o _ hb=>by cases (show b∈([]:List aA) from hb)
  uo:=λb hb=>by cases (show b∈([]:List aA) from hb)
  gx:=I.stack
  Cj:=I.qm}
 os:=rfl
 bare:=I.bare
 base:=Un.kept gq
 loc:=by
  refine⟨_,EL,λi x w e1 e2 _=>?_⟩;cases i with
  |zero =>
   have hx:=bD e1;have hv:=bD (bD e2);subst hx;subst hv;exact⟨u,r,.inl ⟨CI,by simp[iS]⟩⟩
  |succ i =>
   have EM:(fr.map λj=>X.N.getD j "")[i]?=fo x:=e1;have JP:(fr.map λj=>(σ[j]?).join)[i]?=fo (fo w):=e2;rw[aP] at EM JP;cases q:fr[i]? with
   |none=>rw[q] at EM;cases EM
   |some j =>
    rw[q] at EM JP;obtain⟨EN,wj,JQ⟩:=b6l h j (bK q);have ex:X.N.getD j ""=x:=bD EM;have ev:(σ[j]?).join=fo w:=bD JP;have hN:X.N[j]?=fo x:=by
     rw[<-ex,bA,aS EN];rfl
    have Uh:σ[j]?=fo (fo w):=by
     cases r:σ[j]? with
     |none=>rw[r] at ev;cases ev
     |some y=>rw[r] at ev;exact rd fo ev
    rw[ex] at wj JQ;obtain⟨m,_,hl⟩:=I.loc;obtain⟨u',r',lk⟩:=hl j x w hN Uh (.inr (.inl wj));refine⟨u',r',?_⟩;have kc:uW X.env x=fo .cell:=wj;rcases lk with⟨k1,_⟩|⟨_,c,ec,o,mj,hd⟩
    .rw[kc] at k1;cases k1
    .obtain⟨c',Jz⟩:=LA ⟨c,ec⟩ (O8 JQ);have e3:=NP Jz;rw[ec] at e3;cases e3;exact .inr ⟨.inr JQ,c,Jz,o,gq _ _ mj,hd⟩
 cell:=λx c e=>by
  obtain⟨v,o,mj,hd⟩:=I.cell x c (NP e);exact⟨v,o,gq _ _ mj,hd⟩
 free:=I.ck.fresh (aT _)
 ee:=λx c e=>I.ee x c (NP e)
 pin:=λp hp=>by cases (show p∈([]:List (aA×Obj)) from hp)
 ck:=I.ck.kept gq
 len:=by simp[LB,QN]
def Quiet(X:Cx)(H:Hp)(s s':aG):Prop:=∀b o,s.heap.get? b=fo o->H b=fO->b≠X.env.locals->b ∉ X.fs->s'.heap.get? b=fo o
theorem b1z(I:Inv X ip σ H s)(hA:A'.frames=fo X.stack)(hh:A'.handled=X.A.handled)
  (NQ:A'.depth<jy) (hk:scope.kind=.function) (h:BA X.env.scope scope X.N fr=true)
  (kf:∀x∈scope.names,x.2≠.cell) (CI:scope.names.lookup col=fo .local) (UZ:scope.isCoroutine=false) (JX:scope.isGenerator=false)
  (hf:s.heap.get? f=fo (oU "<lambda>" qual params body scope (p_ X.env scope.names []) pm c' BE)) (xo:s.heap.CodeRec (.ref c') qual)
  (hb:∀u,ma (W.kla_fn "<lambda>" qual params body scope (p_ X.env scope.names []) pm (.ref c') BE) ⟨[u],[]⟩=pure [(col,u)])
  (fz:PE (QN X col fr qual scope f (.ref c') A' s H) body t) (r:RelV v u) (ht:t (fo v::LB fr σ) H λy H'=>y=k/\H'=H)
  (q:∀y s',RelV k y->Inv X ip σ H s'->Quiet X H s s'->Q y s'):iZ (jf X.prog X.w) A' (call (.ref f) [u]) Q E s:=by
 refine lV (W.kla_callFunE NQ hf rfl UZ JX rfl xo ?_);rw[hb u];refine bG (wpAny_newFunctionEnv kf (λy hy=>?_) (λtw EL UP=>?_) hk)
 .rw[cJ.mp hy];exact CI
 .have IQ:=λb o e=>UP.extBut b o (dB (bN e)) (bL _ e);refine⟨I.nolimit.keeps IQ,W.kla_codeExpr (eY (fz [] _ _ _ _ (I.lam (qual:=qual) (f:=f) (cd:=.ref c') (t':=s.toks+[(col,u)].length) hA hh hk h kf CI EL IQ r) ht) (λy s' hy=>?_) λe s' z=>eD z)⟩;obtain⟨w,H',J',G',rfl,rfl⟩:=hy;have J2:=I.Bx J'.os J'.base J'.ck J'.bare λb hb=>by cases hb
  refine q y s' G' J2 λb o e n n1 n2=>(J'.base.keep b o e n (λz=>?_) (by intro z;cases z));rcases bH.mp (I.rg b z) with w|w
  .exact n1 w
  .exact n2 w
end
def QO(mg:aC->Option aE)(base:aJ):Prop:=∃bm ob,mg "__builtins__"=fo (.ref bm)/\bm≠n_/\base.get? bm=fo ob/\ob.cls=.type "module"/\ob.dict=fo n_/\ob.data=.plain
abbrev LK(c:aA)(qual:aC):HO:=.ext λh=>h.CodeRec (.ref c) qual
def cu(P:aA)(pos:Pos)(qual:aC)(H:Hp):Prop :=
 H P=fo (.my #[])\/∃c',H P=fo (.my #[nz pos.line,nz pos.col,.ref c'])/\H c'=fo (LK c' qual)
def bj(P:aA)(H H':Hp):Prop:=∀b o,b≠P->H b=fo o->H' b=fo o
theorem cu.same(T:cu P pos qual H)(h:∀b o,H b=fo o->H' b=fo o):cu P pos qual H':=by
 rcases T with e|⟨c,e1,e2⟩
 .exact .inl (h _ _ e)
 .exact .inr ⟨c,h _ _ e1,h _ _ e2⟩
section
variable{X:Cx}{ip:List (aA×Obj)}{σ:St}{H:Hp}{s:aG}{fr:List Nat}{scope:cQ}{qual:aC}{c P:aA}{params:kO}{body:aR}{pos:Pos}
theorem b1h(e:h.get? c=fo o)(r:h.CodeRec (.ref c) qual):dh H h c (LK c qual) :=
 ⟨r,⟨o,e⟩,λh1 h2 ⟨c',o',vs,t,z,g,q⟩ k=>by
  have z':=rG z;subst z';exact⟨c,o',vs,t,cm,k _ g,q⟩⟩
theorem Inv.grown{c':aA}(I:Inv X ip σ H s)(hP:H P=fo (.my ps))(hx:mU P s.heap h')(Hq:s.heap.objs.size<=c')(hcr:h'.CodeRec (.ref c') qual)
  (QP:h'.get? P=fo {cls:=.none,data:=.fields (ps++more)}):Inv X ip σ (upd (upd H P (.my (ps++more))) c' (LK c' qual)) {s with heap:=h',toks:=t'}:=by
 have hcn:=I.ck.fresh Hq;have atP:upd (upd H P (.my (ps++more))) c' (LK c' qual) P=fo (.my (ps++more)):=by rw[j3 (dB (bS (I.ck.lt hP) Hq)),ae]
 have nP:∀b o,H b=fo o->(∀qs,o≠.my qs)->upd (upd H P (.my (ps++more))) c' (LK c' qual) b=fo o:=λb o e n=>by
  rw[j3 (i7 e hcn),j3 λz=>by subst z;rw[e] at hP;exact n _ (bD hP)];exact e
 have Va:∀b,H b=fO->b≠P:=λb n z=>by subst z;rw[hP] at n;cases n
 obtain⟨cc,oc,vs,tt,z,gc,gr⟩:=id hcr;have z':=rG z;subst z';refine I.un ⟨λb o e n _ _=>hx b o (Va b n) e,λb o e n _ _=>⟨o.slots,hx b o (Va b n) e⟩,λb o e n _=>?_,λb o e _=>?_,λb xs e=>nP b _ e λ_=>nofun,λb o u e=>nP b _ e λ_=>nofun,λb qs e=>?_⟩ λb u e=>?_
 .rw[j3 (dB (bS (bN e) Hq)),j3 (Va b n)];exact n
 .by_cases hb:b=P
  .subst hb;exact⟨_,QP⟩
  .exact⟨o,hx b o hb e⟩
 .by_cases hb:b=P
  .subst hb;rw[e] at hP;cases hP;exact⟨more,atP⟩
  .refine⟨#[],?_⟩;rw[j3 (i7 e hcn),j3 hb,e];simp
 .by_cases hb:b=c'
  .subst hb;rw[ae] at e;cases e;exact b1h gc hcr
  .rw[j3 hb] at e;by_cases IU:b=P
   .subst IU;rw[ae] at e;cases e;exact QP
   .rw[j3 IU] at e;refine(I.ck b u e).rf (λd v hd g=>hx d v (λz=>?_) g) (λd g=>nP d _ g λ_=>nofun) λd xs g=>nP d _ g λ_=>nofun;subst z;rcases hd with w|w
    .exact IU w.symm
    .rw[hP] at w;cases w
theorem b3C(I:Inv X ip σ H s)(vm:X.env.code=.ref c)(C:oV X.base c P)(B:QO X.mg X.base)(T:cu P pos (X.env.qual++"<lambda>") H)
  (h:BA X.env.scope scope X.N fr=true) (JY:defaultsOf params X.env=([],[]))
  (q:∀f c' BE pm H' s',Inv X ((f,oU "<lambda>" (X.env.qual++"<lambda>") params body scope (p_ X.env scope.names []) pm c' BE)::ip) σ H' s'->cu P pos (X.env.qual++"<lambda>") H'->bj P H H' →
   H' c'=fo (LK c' (X.env.qual++"<lambda>"))->(∀b,b<s.heap.objs.size->H b=fO->H' b=fO)->Q (.ref f) s') :
  iZ (jf X.prog X.w) X.A (eval (.Lambda params body scope pos) X.env) Q E s:=by
 have xr:=M5 (JO I h);have hg:=I.mod.glob.keeps I.bk;obtain⟨bm,ob,b1,b2,b3,b4,b5,b6⟩:=B;have Pg:∀ps,s.heap.get? P=fo (oW ps)->jo≠P:=λps e z=>by
  obtain⟨o,es,ep,e1,hd,_⟩:=hg;rw[z,e] at e1;cases e1;cases hd
 have Pb:∀ps,s.heap.get? P=fo (oW ps)->bm≠P:=λps e z=>by
  have e1:=I.bk _ _ b3;rw[z,e] at e1;cases e1;cases b4
 have bg:bm≠jo:=λz=>by
  obtain⟨o,es,ep,e1,hd,_⟩:=I.mod.glob;rw[z,e1] at b3;cases b3;rw[hd] at b6;cases b6
 refine W.kla_eval JY ?_;rcases T with T|⟨c',T,Tc⟩
 .have hP:=I.ck P _ T;refine W.kla_makeFunction xr I.ok.glob hg vm (C.keeps I.bk) hP trivial rfl (Pg _ hP) ⟨bm,ob,b1,b2,bg,Pb _ hP,I.bk _ _ b3,b4,b5,b6⟩ λc' BE h' tk hx Hq fk Vb QP=>?_;have J:=I.grown (t':=tk) T hx Hq Vb QP;have xq:=bF Hq (gQ fk);have J2:=J.kept (h':=h'.push (oU "<lambda>" (X.env.qual++"<lambda>") params body scope (p_ X.env scope.names []) ((X.mg "__name__").getD .none) c' BE)) (t':=tk) λb u e=>bL _ e;refine q _ c' BE ((X.mg "__name__").getD .none) _ _ (J2.ke λp hp=>?_) (.inr ⟨c',?_,ae⟩) (λb o hb e=>?_) ae λb hb e=>?_
  .rcases bH.mp hp with rfl|hp
   .refine⟨Heap.get?_push_size _ rfl,J.ck.fresh (aT _),gR (bS I.lt xq),I.Jx xq,λv=>nofun⟩
   .exact J2.pin p (eL _ hp)
  .rw[j3 (dB (bS (I.ck.lt T) Hq)),ae];rfl
  .rw[j3 (i7 e (I.ck.fresh Hq)),j3 hb];exact e
  .rw[j3 (dB (bS hb Hq)),j3 λz=>by rw[z,T] at e;cases e];exact e
 .have hP:=I.ck P _ T;have hf:codeAmong pos (#[nz pos.line,nz pos.col,cZ c']).toList=fo (.ref c'):=by
   exact codeAmong_snoc [] trivial rfl
  refine W.kla_makeFunctionHit xr I.ok.glob hg vm (C.keeps I.bk) hP trivial hf ⟨bm,ob,b1,b2,bg,Pb _ hP,I.bk _ _ b3,b4,b5,b6⟩ λBE h' tk hk xq=>?_;have J:=I.kept (t':=tk) hk;have J2:=J.kept (h':=h'.push (oU "<lambda>" (X.env.qual++"<lambda>") params body scope (p_ X.env scope.names []) ((X.mg "__name__").getD .none) c' BE)) (t':=tk) λb u e=>bL _ e;refine q _ c' BE ((X.mg "__name__").getD .none) _ _ (J2.ke λp hp=>?_) (.inr ⟨c',T,Tc⟩) (λb o hb e=>e) Tc λb hb e=>e;rcases bH.mp hp with rfl|hp
  .exact⟨Heap.get?_push_size _ rfl,J.ck.fresh (aT _),gR (bS I.lt xq),I.Jx xq,λv=>nofun⟩
  .exact J2.pin p (eL _ hp)
end
section
variable{X:Cx}{ip:List (aA×Obj)}{σ:St}{H:Hp}{l It S fq:aA}{ns:List Int}{g:Int->Int}{R:jH->aG->Prop}
def Quiet.fp(k:Quiet X H s s')(f:xp X ip H b)(e:s.heap.get? b=fo o):s'.heap.get? b=fo o:=k b o e f.1 f.2.1 f.2.2.1
def Inv.m_(I:Inv X ip σ H s)(f:xp X ip H b)(k:∀c o,c≠b->s.heap.get? c=fo o->h'.get? c=fo o):Inv X ip σ H {s with heap:=h',toks:=t'} :=
 I.turned k f.1 f.2.1 f.2.2.2.1 f.2.2.2.2.1 f.2.2.2.2.2
def b7X(ns:List Int)(g:Int->Int)(j:Nat)(cont:List aE):Prop :=
 (cont=[]/\j=0)\/tq λM vb kb=>cont=[vb,kb]/\M∈ns/\RelV (.int M) vb/\RelV (.int (g M)) kb/\∀a∈ns.take j,g M<=g a
abbrev b3O(X:Cx)(ip:List (aA×Obj))(σ:St)(H:Hp)(fq:aA)(ns:List Int)(g:Int->Int):Prop :=
 ∀n∈ns,∀u s Q E,Inv X ip σ H s->RelV (.int n) u →
  (∀y s',RelV (.int (g n)) y->Inv X ip σ H s'->Quiet X H s s'->Q y s')->iZ (jf X.prog X.w) X.A.in1 (call (.ref fq) [u]) Q E s
theorem b5n(hc:X.calm=true)(hl:ah X.K H l (ns.map sh))(turn:b3O X ip σ H fq ns g)(fI:xp X ip H It)(fS:xp X ip H S)(QQ:It≠S)(hIl:l≠It)
  (hN:ns=[]->∀s',Inv X ip σ H s'->R (.ok (.ret .none)) s') (hR:∀M∈ns,(∀a∈ns,g M<=g a)->∀y s',RelV (.int M) y->Inv X ip σ H s'->R (.ok (.ret y)) s') :
  ∀r j s cont cn,gu ns-j=r->j<=gu ns->Inv X ip σ H s->s.heap.IsListIter It l j->s.heap.get? S=fo (pX "list" cont.toArray cn)->b7X ns g j cont →
   md (jf X.prog X.w) X.A (.builtin "min.loop" ⟨[.ref It,.ref fq,.ref S],[("default",.none)]⟩) R s:=by
 have nm:(toString "min"++toString ".loop":String)="min.loop":=dz;have hh:∀{s:aG},Inv X ip σ H s->X.A.in1.handled=fO:=λI=>I.ok.hd hc;intro r;induction r with
 |zero =>
  intro j s cont cn hr hj I hit hS hb;have QR:j=gu ns:=eX;obtain⟨iq,rv,pl,hz⟩:=I.list hl;have W:=rA (prog:=X.prog) (w:=X.w) (A:=X.A.in1) (hh I) It l hIl iq.toArray;have xq:iq.toArray.size=gu ns:=by rw[bY,<-rv.length,aH]
  refine rE wM ?_;rw[wN kX _];refine aN (gX hS rfl ?_);rcases hb with⟨rfl,rfl⟩|⟨M,vb,kb,rfl,hM,rM,rK,best⟩
  .show iZ _ X.A.in1 (tryCatch (mh (.ref It)) _ >>= _) _ _ _;refine aN (kY (W.done _ _ _ ⟨by rw[xq,<-QR];exact hit,pl.isList⟩ λh' GF i_=>?_));have J:=I.m_ (h':=h') (t':=GF) fI λc o n e=>i_ c o (by simpa using n) e;show iZ _ X.A.in1 (rule _ >>= _) _ _ _;exact aN (lR (bG (hN (List.length_eq_zero_iff.mp QR.symm) _ J)))
  .show iZ _ X.A.in1 (tryCatch (mh (.ref It)) _ >>= _) _ _ _;refine aN (kY (W.done _ _ _ ⟨by rw[xq,<-QR];exact hit,pl.isList⟩ λh' GF i_=>?_));have J:=I.m_ (h':=h') (t':=GF) fI λc o n e=>i_ c o (by simpa using n) e;have BG:=i_ S _ (by simpa using QQ.symm) hS;have s1:=mS h' S (gT λ_=>(#[]:Array aE));show iZ _ X.A.in1 (updateSeq S (λ_=>#[]) >>= _) _ _ _;exact aN (rX BG rfl (aN (jR (bG (hR M hM (λa ha=>best a (by rw[QR,wO];exact ha)) vb _ rM (J.m_ fS λc o n e=>(s1.2 c n).trans e))))))
 |succ r ih =>
  intro j s cont cn hr hj I hit hS hb;have fk:j<gu ns:=eX;obtain⟨iq,rv,pl,hz⟩:=I.list hl;have xq:iq.toArray.size=gu ns:=by rw[bY,<-rv.length,aH]
  refine rE wM ?_;rw[wN kX _];refine aN (gX hS rfl ?_);have go:∀(old:List aE)(kx:aE->Sem (Option aE))(B:Option aE->Sem oF)(Q:oF->aG->Prop)(E:aE->aG->Prop),
    (∀v h' GF,RelV (.int ns[j]) v->Inv X ip σ H {s with heap:=h',toks:=GF}->h'.IsListIter It l (j+1)->h'.get? S=fo (pX "list" cont.toArray cn)->iZ (jf X.prog X.w) X.A.in1 (B (fo v)) Q E {s with heap:=h',toks:=GF}) →
    iZ (jf X.prog X.w) X.A.in1 (tryCatch (mh (.ref It)) kx >>= B) Q E s:=by
   intro old kx B Q E hB;refine aN (kY ((rA (prog:=X.prog) (w:=X.w) (A:=X.A.in1) (hh I) It l hIl iq.toArray).item j _ _ _ (by rw[xq];exact fk) ⟨hit,pl.isList⟩ λv h' GF hP Vc i_=>?_));have hv:(ns.map sh)[j]?=fo (sh ns[j]):=by rw[aP,aS fk];rfl
   obtain⟨u,hu,ru⟩:=rv.get hv;have hP':iq[j]?=fo v:=by simpa using hP
   rw[hu] at hP';cases hP';exact hB _ h' GF ru (I.m_ fI λc o n e=>i_ c o (by simpa using n) e) Vc.1 (i_ S _ (by simpa using QQ.symm) hS)
  have hn:ns[j]∈ns:=eF fk;have Vd:∀a∈ns.take (j+1),a∈ns.take j\/a=ns[j]:=λa ha=>by
   rw[vA fk] at ha;rcases bJ.mp ha with z|z
   .exact .inl z
   .exact .inr (cJ.mp z)
  rcases hb with⟨rfl,rfl⟩|⟨M,vb,kb,rfl,hM,rM,rK,best⟩
  .show iZ _ X.A.in1 (tryCatch (mh (.ref It)) _ >>= _) _ _ _;refine go [] _ _ _ _ λv h' GF NR J JZ BG=>?_;show iZ _ X.A.in1 (tryCatch (holding [v] (call (.ref fq) [v])) _ >>= _) _ _ _;refine aN (kY (iP (turn _ hn v _ _ _ J NR λy s2 ry J2 qu=>?_)));have LL:=qu.fp fS BG;obtain⟨oI,Ve,JA,QS⟩:=JZ;have QT:=qu.fp fI Ve;have s1:=mS s2.heap S (gT λ_=>#[v,y]);obtain⟨c2,Aq⟩:∃c2,(s2.heap.update S (gT λ_=>#[v,y])).get? S=fo (pX "list" #[v,y] c2):=⟨_,wP LL λ_=>#[v,y]⟩;show iZ _ X.A.in1 (updateSeq S (λ_=>#[v,y]) >>= _) _ _ _;refine aN (rX LL rfl ?_);rw[nm];refine bG ⟨plainId_quiet kX _,ih (0+1) _ [v,y] c2 eX fk (J2.m_ fS λc o n e=>(s1.2 c n).trans e) ⟨oI,(s1.2 It QQ).trans QT,JA,QS⟩ Aq (.inr ⟨ns[0],v,y,cm,hn,NR,ry,λa ha=>?_⟩)⟩;rcases Vd a ha with z|z
   .simp at z
   .rw[z];exact dL _
  .show iZ _ X.A.in1 (tryCatch (mh (.ref It)) _ >>= _) _ _ _;refine go [] _ _ _ _ λv h' GF NR J JZ BG=>?_;show iZ _ X.A.in1 (tryCatch (holding [v] (call (.ref fq) [v])) _ >>= _) _ _ _;refine aN (kY (iP (turn _ hn v _ _ _ J NR λy s2 ry J2 qu=>?_)));have LL:=qu.fp fS BG;obtain⟨oI,Ve,JA,QS⟩:=JZ;have QT:=qu.fp fI Ve;obtain⟨t2,rfl⟩:=ry;obtain⟨tb,rfl⟩:=rK;show iZ _ X.A.in1 (tryCatch (holding [v,.int (g ns[j]) t2] (richCompare .Lt (.int (g ns[j]) t2) (.int (g M) tb) >>= _)) _ >>= _) _ _ _;refine aN (kY (iP (aN (vD (prog:=X.prog) (w:=X.w) (A:=X.A.in1) (P:=λi v=>∃t,v=.int ([g ns[j],g M].getD i 0) t) (λi=>[g ns[j],g M].getD i 0) (λi v h=>h) 0 1 _ _ _ _ _ ⟨t2,cm⟩ ⟨tb,cm⟩ (aN (iP (gC (aN (jR (bG ?_))))))))));have Hr:(λi j_1=>decide ([g ns[j],g M].getD i 0<[g ns[j],g M].getD j_1 0)) 0 1=decide (g ns[j]<g M):=rfl;rw[Hr];by_cases ou:g ns[j]<g M
   .have s1:=mS s2.heap S (gT λ_=>#[v,.int (g ns[j]) t2]);obtain⟨c2,Aq⟩:∃c2,(s2.heap.update S (gT λ_=>#[v,.int (g ns[j]) t2])).get? S=fo (pX "list" #[v,.int (g ns[j]) t2] c2):=⟨_,wP LL λ_=>#[v,.int (g ns[j]) t2]⟩;simp only[ou,decide_true,if_true];refine aN (rX LL rfl (aN (jR ?_)));rw[nm];refine bG ⟨plainId_quiet kX _,ih (j+1) _ [v,.int (g ns[j]) t2] c2 eX fk (J2.m_ fS λc o n e=>(s1.2 c n).trans e) ⟨oI,(s1.2 It QQ).trans QT,JA,QS⟩ Aq (.inr ⟨ns[j],v,_,cm,hn,NR,⟨t2,cm⟩,λa ha=>?_⟩)⟩;rcases Vd a ha with z|z
    .have:=best a z;lia
    .rw[z];exact dL _
   .simp only[ou,decide_false,uT,if_false];refine aN (jR ?_);rw[nm];refine bG ⟨plainId_quiet kX _,ih (j+1) _ [vb,.int (g M) tb] cn eX fk J2 ⟨oI,QT,JA,QS⟩ LL (.inr ⟨M,vb,_,cm,hM,rM,⟨tb,cm⟩,λa ha=>?_⟩)⟩;rcases Vd a ha with z|z
    .exact best a z
    .rw[z];lia
theorem b4i(hc:X.calm=true)(I:Inv X ip σ H s)(hl:ah X.K H l (ns.map sh))(turn:b3O X ip σ H fq ns g)
  (hN:ns=[]->∀s',Inv X ip σ H s'->Q .none s') (hR:∀M∈ns,(∀a∈ns,g M<=g a)->∀y s',RelV (.int M) y->Inv X ip σ H s'->Q y s') :
  iZ (jf X.prog X.w) X.A (call (.builtin "min") [.ref l] [("key",.ref fq),("default",.none)]) Q E s:=by
 have nm:(toString "min"++toString ".loop":String)="min.loop":=dz;have ha:argsOk "min" ⟨[.ref l],[("key",.ref fq),("default",.none)]⟩:=by unfold argsOk;rfl
 obtain⟨iq,rv,pl,hz⟩:=I.list hl;have fk:l<s.heap.objs.size:=by obtain⟨_,e,_⟩:=pl.isList;exact bN e
 refine kmk_tree F.kind_min F.plain_min F.entry_min ha (aN (wpAny_of_eq (show wQ "min" ["key","default"] 0 ⟨[],[("key",.ref fq),("default",.none)]⟩=pure [fo (.ref fq),fo .none] from rfl) (aN (bG (aN (nF pl.isList (aN (wpAny_newList ?_ (dM _)))))))));rw[nm];have hS:(s.heap.push {cls:=.type "list_iterator",data:=.fields #[.ref l,.int 0 0]}).objs.size=s.heap.objs.size+1:=size_push' ..;have fS:xp X ip H (s.heap.push {cls:=.type "list_iterator",data:=.fields #[.ref l,.int 0 0]}).objs.size:=I.xy fg (I.ck.fresh fg);refine bG ⟨plainId_quiet kX _,b5n hc hl turn (I.xy (aT _) (I.ck.fresh (aT _))) fS (dB (hS▸jJ _)) (dB fk) hN hR _ 0 _ [] 0 rfl (dM _) ((I.kept (h':=s.heap.push {cls:=.type "list_iterator",data:=.fields #[.ref l,.int 0 0]}) (t':=s.toks) λb u e=>bL _ e).kept (h':=(s.heap.push {cls:=.type "list_iterator",data:=.fields #[.ref l,.int 0 0]}).push (pX "list" #[] 0)) (t':=s.toks) λb u e=>bL _ e) ⟨_,bL _ (dG _ rfl),cm,cm⟩ (dG _ rfl) (.inl ⟨cm,cm⟩)⟩
end
theorem ah.fg{K}(T:cu P pos qual H)(e:bj P H H')(h:ah K H a xs):ah K H' a xs:=by
 have ne:∀o,H a=fo o->(∀ps,o≠.my ps)->a≠P:=λo q n z=>by
  subst z;rcases T with t|⟨c,t,_⟩
  .rw[q] at t;exact n _ (bD t)
  .rw[q] at t;exact n _ (bD t)
 rcases h with(h|⟨o,h⟩)|h
 .exact .inl (.inl (e _ _ (ne _ h λ_=>nofun) h))
 .exact .inl (.inr ⟨o,e _ _ (ne _ h λ_=>nofun) h⟩)
 .exact .inr h
def b5F(K:aF)(P:aA)(CJ:Pos)(qual:aC)(fr:List Nat)(t:TA)(tb:TE):TE:=λσ H Q=>t σ H λvs H1=>tq λ(l:aA)(ns:List Int)(g:Int->Int)=>vs=[.ref l]/\ah K H1 l (ns.map sh)/\cu P CJ qual H1/\
 ∀H2,bj P H1 H2->cu P CJ qual H2->(∀n∈ns,tb (fo (.int n)::LB fr σ) H2 λy H'=>y=.int (g n)/\H'=H2)/\(ns=[]->Q .non H2)/\∀M∈ns,(∀a∈ns,g M<=g a)->Q (.int M) H2
section
variable{X:Cx}{e body:aR}{es:List aR}{t:TA}{tb:TE}{fr:List Nat}{scope:cQ}{col:aC}{c P:aA}{params:kO}{p pos CJ UT kp2 cp:Pos}{cj:Nat}
theorem b0V(hc:X.calm=true)(hr:b_ 2 X.A)(hg:Gl X "min")(hm:X.mg "min"=fO)(vm:X.env.code=.ref c)(C:oV X.base c P)(B:QO X.mg X.base)(DT:BA X.env.scope scope X.N fr=true)(hk:scope.kind=.function)
  (kf:∀x∈scope.names,x.2≠.cell) (CI:scope.names.lookup col=fo .local) (UZ:scope.isCoroutine=false) (JX:scope.isGenerator=false)
  (hb:∀pm BE c' u,ma (W.kla_fn "<lambda>" (X.env.qual++"<lambda>") params body scope (p_ X.env scope.names []) pm (.ref c') BE) ⟨[u],[]⟩=pure [(col,u)])
  (ha:PA X [e] t) (fz:∀f cd s H,PE (QN X col fr (X.env.qual++"<lambda>") scope f cd X.A.in1 s H) body tb) (JY:defaultsOf params X.env=([],[]):=by rfl)
  (he:jv pos (jh [e] X.env)=(false,eval e X.env)::jv pos (jh [] X.env):=by rfl) (wb:(jv pos (jh [e] X.env)).any (·.1)=false:=by rfl) :
  PE X (.Call (.Name "min" p) [e] [⟨fo "key",.Lambda params body scope CJ,UT⟩,⟨fo "default",.Constant .none cj cp,kp2⟩] pos) (b5F X.K P CJ (X.env.qual++"<lambda>") fr t tb):=by
 intro ip s σ H Q I h;refine jK (JD I hg hm rfl (Ak (D7 (ha pos ip s σ H _ I h) λus s1 ⟨vs,H1,I1,r,l,ns,g,ev,hl,T,q⟩=>?_) he wb));subst ev;obtain⟨u,rfl,ru⟩:=U1 r;cases ru;show iZ _ _ (evalAll [(do let v <- eval (.Lambda params body scope CJ) X.env;nu pos;pure v),(do let v <- eval (.Constant .none cj cp) X.env;nu pos;pure v)]) _ _ s1;refine wR (aN (b3C I1 vm C B T DT JY λf c' BE pm H2 s2 I2 T2 e2 U_ _=>aN (iQ (bG (wR (aN (sN (aN (iQ (bG (wpAny_evalAll_nil ?_)))))))))));obtain⟨q1,q2,q3⟩:=q H2 e2 T2;have drop:∀{po:aA×Obj}{s'},Inv X (po::ip) σ H2 s'->Inv X ip σ H2 s':=λJ=>J.ke λp hp=>J.pin p (eL _ (bZ _ hp));have zw:X.A.in1.depth<jy:=by
  have z:X.A.in1.depth+3*1+5<jy:=hr.in1.dp;lia
 refine b4i hc I2 (hl.fg T e2) (λn hn u s3 Q3 E3 I3 ru k3=>?_) (λen s3 I3=>⟨.non,H2,drop I3,cm,q2 en⟩) λM hM Ax y s3 ry I3=>⟨.int M,H2,drop I3,ry,q3 M hM Ax⟩;obtain⟨cr,_,_⟩:=I3.ck c' _ U_;exact b1z I3 I3.ok.frames rfl zw hk DT kf CI UZ JX (I3.pin _ (eL _ cY)).1 cr (hb pm BE c') (fz f (.ref c') s3 H2) ru (q1 n hn) k3
end
theorem b2o{ER}os fr(hN:X.N.Nodup)(Ek:X.N[i]?=fo x)(hx:X.env.scope.names.lookup x=fo .local)
  (hc:X.calm=true) (hi:PI X tg iter wi) (hg:∀C fp s₀ H₀,PG (rq X os fr scope C fp s₀ H₀) tg g) (ht:∀C fp s₀ H₀,PT (rq X os fr scope C fp s₀ H₀) c tc) (he:∀C fp s₀ H₀,PE (rq X os fr scope C fp s₀ H₀) elt te)
  (Uu:pS (.ListComp elt [⟨tg,iter,[c],0⟩] scope pos) (fo (.Name x pos')) ER.line X.env=pure true:=by rfl)
  (hk:scope.kind=.function:=by rfl) (ck:BA X.env.scope scope X.N fr=true:=by rfl) (hs:∀x,jz iter X.env x=pure x:=by intro _;rfl) :
  PS X (.Assign [.Name x pos'] (.ListComp elt [⟨tg,iter,[c],0⟩] scope pos) ER) (EE (b8W (gu os) fr wi g tc te) (N7 i)):=by
 intro ip s σ H D I h;unfold EE at h;rw[uZ _ _ _ _ Uu];refine aN (iQ (aN ?_));refine aN (eY (oC rfl hs (M5 (JO I ck)) hk (λx hx hl=>by have:=(X0 ck x hx).1;rw[hl] at this;exact this)
  (D7 (hi ip s σ H _ I h) λv s1 h1=>D7 h1 λHc s2 h2=>?_)) (λ_ s' hq=>bG (bG hq)) λ_ _ e=>e)
 refine Qo hc hg (λ_ _ _ _=>a7v (ht _ _ _ _)) he hk ck h2 ?_;intro p C s3 H3 s' H' I3 eC hn I' ⟨m,hm⟩ q;refine qC (Tp (v:=.ref p) I' hN Ek (.inl hx) rfl (λNb Uv ⟨a,Uw,ha⟩=>?_) (.inr hx));have Ux:C≠a:=by
  rcases ha with e|e
  .rw[e];exact gR (eC▸I3.lt)
  .obtain⟨v,z⟩:=I3.cell x a e;exact gR (eC▸z.lt)
 exact⟨m,hm.sameBut Uw Ux,λh' dt=>⟨_,H',I3.BB Uv hn dj dt,q⟩⟩
theorem Vf K(h:X.K=K)(he:PE X e ta)(hb:kF e f X.env (eval e X.env)=eval e X.env):PE X (.Attribute e f pos) (b9t K ta f):=by subst h;exact y4 he hb
theorem Vg(hJ:IL J H1 xs)(hp:H1 p=fO)(hz:gu xs<jb)F
  (step:∀(i:Nat)x H N,xs[i]?=fo x->af H1 H->N (F x) H->tc ((c_ 1 fr σ).set 0 (fo x)) H N)
  (hd:D (upd H1 p (.lst (xs.filter F)))):LF 1 fr (N7 0) tc (JB 0) σ J H1 p D:=by
 refine⟨λi m ys H=>m=gu xs-i/\i<=gu xs/\ys=(xs.take i).filter F/\H=upd H1 p (.lst ys),⟨gu xs,fg,dM _,fg,cm⟩,?_⟩;rintro i m ys H ⟨rfl,hi,rfl,rfl⟩;have e:=af.new (o:=.lst ((xs.take i).filter F)) hp;by_cases fk:i<gu xs
 .refine .inr ⟨hJ.go i _ e fk,λx H' y=>?_⟩;obtain⟨rfl,hx⟩:=hJ.By i _ x H' e fk y;have tk:(xs.take (i+1)).filter F=(xs.take i).filter F++[x].filter F:=by rw[rC,hx,wS];rfl
  refine⟨Wk.set dz,step i x _ _ hx e ?_⟩;cases hq:F x with
  |false =>
   rw[qf cX];refine⟨gu xs-(i+1),dj,cm,fk,?_,cm⟩;rw[tk];simp[hq]
  |true =>
   rw[qg rfl];refine⟨x,?_,ae,?_,gu xs-(i+1),dj,cm,fk,?_,Ju⟩
   .show((c_ 1 fr σ).set 0 (fo x))[0]?=fo (fo x);rw[eK (by simp[c_])]
   .have h1:=oX F (xs.take i);rw[cI] at h1;lia
   .rw[tk];simp[hq]
 .have:i=gu xs:=dj;subst this;refine .inl ⟨hJ.stop _ e,?_⟩;rw[fZ (aT _)];exact hd
theorem df.okC{K}{st}(F:df K x qual st f fd)(hc:fd.code=.ref c)(S:p7 N ps (i9 st))(len:∀vs H Q E,sp vs H Q E->gu vs=gu ps)
  (fz:∀A outer s H vs Q E,b_ k (A.deeper (dQ qual (i9 st) s.heap.objs.size f (.ref c)))->sp vs H Q E →
   ∃t,fu (N8 J8 P w K mg base N qual (i9 st) f (.ref c) A outer s H E).oi (x9 st) t/\t {nx:=λ_ H'=>Q .non H',rt:=Q} (V6 N vs) H):bf P w K mg base J8 (k+1) f fd ps sp:=by
 obtain⟨oc,od,kV,doc,pm,an,ay,ct,yc,rfl,lk,xo⟩:=F.ex;have e:=hc;subst e;refine TU lk xo S len λA outer s H vs Q E hr iu=>?_;obtain⟨t,h,q⟩:=fz A outer s H vs Q E hr iu;exact⟨t,h.oi,q⟩
end L2
namespace L2
open PySem
def E8(h:∀G:St->Hp->Prop,G=G0->G σ H):G0 σ H:=h G0 rfl
inductive D9(t u:TS)(D:Ends)(σ:St)(H:Hp):Prop|mk:∀M,t {D with nx:=M} σ H->(∀au H',M au H'->u D au H')->D9 t u D σ H
theorem t8{rest}(h1:PS X st t)(h2:fu X rest u):fu X (st::rest) (D9 t u):=by
 intro ip s σ H D I ⟨M,h,hM⟩;refine qA (D7 (h1 ip s σ H {D with nx:=M} I h) λf s1 q=>?_);cases f with
 |next =>
  obtain⟨au,H',I',q⟩:=q;exact h2 ip s1 au H' D I' (hM _ _ q)
 |ret v=>exact q
 |brk=>exact q
 |cont=>exact q
end L2
namespace sC
open PySem L2
theorem NS xs(k:Nat)(h:k<=gu xs):P5 xs fO (fo (k:Int))=xs.take k:=by
 unfold P5;rw[HT.rp,HT.gy,oY];congr 1;lia
theorem NT xs(k:Nat)(h:k<=gu xs):P5 xs (fo (k:Int)) fO=xs.drop k:=by
 unfold P5;rw[HT.rp,HT.gy,jT h];exact fZ (eJ▸aT _)
end sC
namespace L2
open PySem PySem.Spec PyProof.Rows
theorem U':K6 X (.type "range") (λvs H Q=>∃j,vs=[.int j]/\∀p,H p=fO->Q (.ref p) (upd H p (.zt 0 j))):=by
 intro ip s σ H vs us Q I r h;obtain⟨j,rfl,q⟩:=h;obtain⟨u,rfl,t,rfl⟩:=U1 r;refine sW ⟨.ref s.heap.objs.size,_,I.laid (o:=.zt 0 j) (λb u e=>bL _ e) (aT _) ⟨_,_,_,dG _ rfl⟩,cm,q _ (I.ck.fresh (aT _))⟩
theorem b0n:K6 X (.type "range") (λvs H Q=>s_ λi j=>vs=[.int i,.int j]/\∀p,H p=fO->Q (.ref p) (upd H p (.zt i j))):=by
 intro ip s σ H vs us Q I r h;obtain⟨i,j,rfl,q⟩:=h;obtain⟨u,v,rfl,⟨t,rfl⟩,t',rfl⟩:=Lw r;refine call_range_2 ⟨.ref s.heap.objs.size,_,I.laid (o:=.zt i j) (λb u e=>bL _ e) (aT _) ⟨_,_,_,dG _ rfl⟩,cm,q _ (I.ck.fresh (aT _))⟩
theorem VJ:∀n acc(F:Nat->Int),gu acc=n->(∀j v,acc[j]?=fo v->∃t,v=iM (F j) t)->Vals ((aW n).map λi=>sh (F i)) acc
 |0,[],_,_,_=>.nil
 |n+1,a::acc,F,hl,h=>by
  rw[wT,cS,bC];exact .cons (h 0 a rfl) (VJ n acc (λi=>F (i+1)) (by simp_all) λj v e=>h (j+1) v (by simp_all))
theorem VX(hc:X.calm=true):K6 X (.type "list") (λvs H Q=>tq λ(p:aA)(lo:Int)(n:Nat)=>vs=[.ref p]/\H p=fo (.zt lo (lo+n))/\-(2^60)<=lo/\lo<2^60/\n<=1000/\∀l,H l=fO->Q (.ref l) (upd H l (.lst ((aW n).map λ(i:Nat)=>sh (lo+(i:Int)))))):=by
 intro ip s σ H vs us Q I r h;obtain⟨p,lo,n,rfl,hp,h1,h2,hn,q⟩:=h;obtain⟨u,rfl,ru⟩:=U1 r;cases ru;obtain⟨t,u,v,e⟩:=I.ck p _ hp;have xq:sU lo (lo+n) 1=n:=by rw[sV];split<;>lia
 refine call_list_range (I.ok.hd hc) e (small_one dj dj dj dj) xq dj λh' tk J_ c' hk hS NU=>?_;have hv:=VJ n J_.toList (λi=>lo+(i:Int)) (by simpa using NU.1) λj v e=>by
  obtain⟨t,et⟩:=NU.2 j v (by simp_all);exact⟨t,by rw[et,jF]⟩
 have h9:n<=jb:=bF hn dz;refine⟨.ref s.heap.objs.size,_,I.laid (o:=.lst ((aW n).map λ(i:Nat)=>sh (lo+(i:Int)))) hk (aT _) ⟨by simpa using h9,J_.toList,c',hv,by simpa using hS⟩,cm,q _ (I.ck.fresh (aT _))⟩
structure Rr(K:aF)(P:gN)(d:aA):Prop where
 ex:s_ λes n=>K.lookup d=fo ⟨.type "dict",fO,.dict es n,#[]⟩/\lK P es.toList
inductive c0r(K:aF)(P:gN)(x y:V)(H:Hp)(Q:VK):Prop|mk:∀d z t,x=.ref d->y=.str z->Rr K P d->bM K d z=fo (fo (.ref t))->Q (.ref t) H->c0r K P x y H Q
theorem Kq K P(hK:X.K=K)(hP:X.w.params=P):JJ X (c0r K P):=by
 subst hK;subst hP;intro value slice ip s σ H x y v u Q I rx ry h hs;obtain⟨d,z,t,rfl,rfl,⟨es,n,hl,hk⟩,e,q⟩:=h;cases rx;obtain⟨tk,rfl⟩:=ry;obtain⟨m,hm⟩:=I.fr;exact W.topItem_K hm I.mod.zu hl hk e ⟨.ref t,H,I.tok _,cm,q⟩ (by simp_all)
inductive c0Q(K:aF)(n:Nat)(t:Gx)(v:V)(σ:St)(H:Hp)(Q:(St->Hp->Prop)):Prop|mk:∀a xs,v=.ref a->ah K H a xs->gu xs=n->t xs σ H Q->c0Q K n t v σ H Q
theorem Xg K{k}{pos}(hK:X.K=K)(hc:X.calm=true)(h:Lq X es t)
  (hn:gu (km es X.env)=n:=by rfl) (gj:(km es X.env).findIdx? (·.1)=fO:=by rfl):PG X (.Tuple es k pos) (c0Q K n t):=by
 subst hK;intro ip s σ H v u Q I r hw;obtain⟨a,xs,e1,hq,hl,hw⟩:=hw;subst e1;cases r;obtain⟨iq,rv,ht,hz⟩:=I.list hq;rw[assign_Tuple];refine aN (iQ ?_);unfold unpack;rw[hn,gj];have xq:iq.toArray.size=n:=by simp[<-hl,rv.length]
 rw[<-xq];exact aN (iP (W.kun_itemsOf (I.ok.hd hc) ht.isList λh' hx=>(h ip _ σ H xs _ Q (I.kept (t':=s.toks) λb o e=>hx b o (dB (bN e)) e) (by simp_all) hw)))
theorem c6Y{K}{Ps:List aA}
  (KX:K.In vy.heap) (EL:vy.heap.Ns jo mg) (hb:vy.heap.Ns n_ mb) (Iy:∀x:aC,x≠"__name__"->mb x=l_ x) (XP:vy.heap.NoLimit) (hg:vy.gens=#[])
  (ha:vy.heap.get? a=fo {cls:=.type "list",data:=.seq vs.toArray}) (hi:Do vs ns) (hl:gu ns<=jb) (hr:b_ k pL)
  (hT:∀p∈Ps,∃c,vy.heap.TableAt c p #[]) (hKP:∀p∈Ps,K.lookup p=fO) (BM:QO mg vy.heap)
  (F:∀base,K.In base->base.Ns jo mg->QO mg base->bf P w K mg base CX k fa fd [x] sp) (DV:∀s u,lU s fd ⟨[u],[]⟩ [(x,u)])
  (iu:∀H,(∀p∈Ps,H p=fo (.my #[]))->ah K H a (ns.map sh)->sp [.ref a] H (λv _=>v=.bl true) λ_ _ _=>False)
  (XR:∀H e s',CX [] H vy (λ_ _ _=>False) e s'->False) :
  md (jf P w) pL (.call (.ref fa) ⟨[.ref a],[]⟩) (λr s'=>r=.ok (.ret (.bool true))/\OldK vy.heap s'.heap/\s'.os=vy.os/\jC s'.gens) vy:=by
 have rv:=a1D hi;have Db:∀p∈Ps,vy.heap.get? p=fo {cls:=.none,data:=.fields #[]}:=λp hp=>by
  obtain⟨c,z⟩:=hT p hp;exact z.2
 have core:∀H,(∀b,H b=fO\/(s_ λo xs=>H b=fo (.Bw o (.lst xs)))\/(b∈Ps/\H b=fo (.my #[])))->(∀p∈Ps,H p=fo (.my #[]))->ah K H a (ns.map sh)->mz H vy.heap->(∀b,H b≠fO->b=a\/b∈Ps)->(H a≠fO->K.lookup a=fO) →
   md (jf P w) pL (.call (.ref fa) ⟨[.ref a],[]⟩) (λr s'=>r=.ok (.ret (.bool true))/\OldK vy.heap s'.heap/\s'.os=vy.os/\jC s'.gens) vy:=by
  intro H IA hP hS ck hA hK;have XS:∀{b:aA}{o:Obj},vy.heap.get? b=fo o->H b=fO->(zN vy.heap H).get? b=fo o:=λe n=>c6Z e n;have TR:∀{b:aA}{o:Obj}{es:Array mZ}{ep:Nat},vy.heap.get? b=fo o->o.data=.dict es ep->H b=fO:=λ{b o es ep}e d=>by
   cases q:H b with
   |none=>rfl
   |some u =>
    rcases hA b (by simp_all) with e'|e'
    .subst e';rw[ha] at e;cases e;have d':=d;cases d'
    .rw[Db b e'] at e;cases e;have d':=d;cases d'
  have IS:∀{b:aA}{m:aC->Option aE},vy.heap.Ns b m->(zN vy.heap H).Ns b m:=λ{b m} ⟨o,es,ep,e,d,r⟩=>⟨o,es,ep,XS e (TR e d),d,r⟩;have hKb:=λb o e=>XS (KX b o e) (by
   cases q:H b with
   |none=>rfl
   |some u =>
    rcases hA b (by simp_all) with e'|e'
    .subst e';rw[hK (by rw[q];simp)] at e;cases e
    .rw[hKP b e'] at e;cases e)
  have BM':QO mg (zN vy.heap H):=by
   obtain⟨bm,ob,b1,b2,b3,b4,b5,b6⟩:=BM;refine⟨bm,ob,b1,b2,XS b3 ?_,b4,b5,b6⟩;cases q:H bm with
   |none=>rfl
   |some u =>
    rcases hA bm (by simp_all) with e'|e'
    .subst e';rw[ha] at b3;cases b3;exact absurd b4 (by intro z;injection z with z;exact absurd z dz)
    .rw[Db bm e'] at b3;cases b3;cases b4
  have e0:v_ P w K mg (zN vy.heap H) pL [] vy H:=⟨cm,⟨hKb,IS EL,⟨mb,IS hb,Iy⟩,let ⟨mc,h1,h2⟩:=XP;⟨mc,IS h1,h2⟩⟩,λb o e=>c7a e,Nat.le_of_eq (c6X _ _),trivial,λb hb=>absurd (show b∈([]:List aA) from hb) fg,ck,.of_eq hg⟩;refine nR ((F _ hKb (IS EL) BM').run pL [] vy H ⟨[.ref a],[]⟩ [.ref a] [.ref a] _ _ hr e0 (DV vy (.ref a)) (.cons rfl .nil) (iu H hP hS)) λr s' h=>?_;cases r with
  |error e=>exact(XR H e s' h).elim
  |ok fl =>
   cases fl with
   |next=>exact eD h
   |brk=>exact eD h
   |cont=>exact eD h
   |ret u =>
    obtain⟨v,H',os,bare,un,DW,r',q⟩:=h;have q':=q;subst q';obtain rfl:u=pT true:=r';refine⟨cm,⟨λb o e=>?_,λb o e=>un.there b o e fg⟩,os,bare⟩;rcases IA b with q|⟨ob,xs,z⟩|⟨hbP,z⟩
    .exact .inl (un.keep b o e q (by intro z;exact absurd (show b∈([]:List aA) from z) fg) fg)
    .have z2:=un.pw b ob _ z;obtain⟨e1,_⟩:=ck b _ z;obtain⟨e2,_⟩:=DW b _ z2;rw[e] at e1;cases e1;exact .inl e2
    .obtain⟨more,z2⟩:=un.pz b _ z;rw[Db b hbP] at e;cases e;obtain⟨c,ht⟩:=hT b hbP;exact .inr (.inl ⟨ht.isCodeTable,cm,#[],more,cm,DW b _ z2⟩)
 have aP_:a ∉ Ps:=λz=>by
  have:=Db a z;rw[ha] at this;cases this
 cases hk:K.lookup a with
 |some o =>
  have e:=KX a o hk;rw[ha] at e;cases e;refine core (λb=>if b∈Ps then fo (.my #[]) else fO) (λb=>?_) (λp hp=>qg hp) (.inr ⟨_,vs.toArray,_,hk,cm,cm,rfl,by rw[bY,hi.length];exact hl,by simpa using rv⟩) (λb u z=>?_) (λb z=>?_) λz=>absurd (qf aP_) z
  .by_cases hb:b∈Ps
   .exact .inr (.inr ⟨hb,qg hb⟩)
   .exact .inl (qf hb)
  .by_cases hb:b∈Ps
   .have z':=(qg hb).symm.trans z;cases z';exact Db b hb
   .have z':=(qf hb).symm.trans z;cases z'
  .by_cases hb:b∈Ps
   .exact .inr hb
   .exact absurd (qf hb) z
 |none =>
  refine core (λb=>if b=a then fo (.Bw {cls:=.type "list",data:=.seq vs.toArray} (.lst (ns.map sh))) else if b∈Ps then fo (.my #[]) else fO) (λb=>?_) (λp hp=>?_) (.inl (.inr ⟨{cls:=.type "list",data:=.seq vs.toArray},qg rfl⟩)) (λb u z=>?_) (λb z=>?_) λ_=>hk
  .by_cases hb:b=a
   .exact .inr (.inl ⟨_,_,qg hb⟩)
   .by_cases IU:b∈Ps
    .exact .inr (.inr ⟨IU,(qf hb).trans (qg IU)⟩)
    .exact .inl ((qf hb).trans (qf IU))
  .have hb:p≠a:=λz=>aP_ (z▸hp);exact(qf hb).trans (qg hp)
  .by_cases hb:b=a
   .have z':=(qg hb).symm.trans z;cases z';subst hb;exact⟨ha,by rw[aH];exact hl,vs,_,rv,ha⟩
   .by_cases IU:b∈Ps
    .have z':=((qf hb).trans (qg IU)).symm.trans z;cases z';exact Db b IU
    .have z':=((qf hb).trans (qf IU)).symm.trans z;cases z'
  .by_cases hb:b=a
   .exact .inl hb
   .by_cases IU:b∈Ps
    .exact .inr IU
    .exact absurd ((qf hb).trans (qf IU)) z
theorem aao{l:W.OpenLaw}{K:gN->aF}{CX:aL->ze}{sp:aL->Sp}{Ts_:List (aA×Addr)}
  (hn:l.most=fo n) (Ib:n<=jb) (DM:d.params.defaults=[]) (hr:b_ k pL)
  (hY:∀w h,Df w h->(K w.params).In h/\∀t∈Ts_,h.get? t.2=fo (oW #[]))
  (hC:∀(w:aL),∀t∈Ts_,No (K w.params) t.1 t.2=true/\(K w.params).lookup t.2=fO)
  (F:∀w mg fa h,(K w.params).In h->h.Ns jo mg->mg d.name=fo (.ref fa) →
   ∃fd,(∀s u,lU s fd ⟨[u],[]⟩ [(x,u)])/\
    ∀base,(K w.params).In base->base.Ns jo mg->QO mg base->(∀t∈Ts_,oV base t.1 t.2)->bf l.prog w (K w.params) mg base (CX w) k fa fd [x] (sp w))
  (iu:∀w H a(ns:List Int),gu ns<=n->(∀t∈Ts_,H t.2=fo (.my #[]))->ah (K w.params) H a (ns.map sh)->sp w [.ref a] H (λv _=>v=.bl true) λ_ _ _=>False)
  (XR:∀w H s e s',CX w [] H s (λ_ _ _=>False) e s'->False) :
  W.WalkO q loose Ii Df l.row.toRowW d [] (λf vs=>Fa f vs):=by
 refine Att.aan hn DM λw s₀ vy mg mb fa o pm cd doc a vs ns G Y ho hd xo DN Bp hints hlen hg=>?_;obtain⟨KX,hTb⟩:=hY w _ Y;obtain⟨fd,hb,hF⟩:=F w mg fa _ KX G.T.g DN;have mem:∀p∈Ts_.map (·.2),∃t∈Ts_,t.2=p:=λp hp=>by
  obtain⟨t,h1,h2⟩:=aY.mp hp;exact⟨t,h1,h2⟩
 refine c6Y KX G.T.g G.T.b G.T.builtins G.T.nolimit hg Bp hints (bF hlen Ib) hr (λp hp=>?_) (λp hp=>?_) G.T.bmain (λbase kb nb bm=>hF base kb nb bm λt ht=>On kb (hC w t ht).1) hb (λH hP hS=>iu w H a ns hlen (λt ht=>hP _ (List.mem_map_of_mem ht)) hS) λH e s'=>XR w H vy e s'
 .obtain⟨t,h1,rfl⟩:=mem p hp;exact⟨t.1,(On KX (hC w t h1).1).tab (hTb t h1)⟩
 .obtain⟨t,h1,rfl⟩:=mem p hp;exact(hC w t h1).2
def vp(e:mZ)(kv:aC×Addr):Prop:=∃t,e.key=.str kv.1 t/\e.val=.ref kv.2
theorem a7M(z:aC):∀{es}{td},bR vp es td->(es.find? (·.key.isStr z)).map (·.val)=(td.lookup z).map cZ
 |_,_,.nil=>rfl
 |_,_,.cons (a:=e) (b:=kv) ⟨t,hk,hv⟩ r=>by
  rw[List.find?_cons,eU];have hs:e.key.isStr z=(z==kv.1):=by
   rw[hk];show(kv.1==z)=(z==kv.1);rw[iD,beq_iff_eq,beq_iff_eq];exact⟨Eq.symm,sG⟩
  rw[hs];cases (z==kv.1) with
  |true=>simp[hv]
  |false=>exact a7M z r
theorem a9M:∀{es}{td},bR vp es td->es.any (·.refKey)=false
 |_,_,.nil=>rfl
 |_,_,.cons ⟨t,hk,_⟩ r=>by
  rw[jM,a9M r,mG];unfold tD;rw[hk]
structure KTab(K:aF)(Pm:gN)(mg:aC->Option aE)(name:aC)(d:aA)(td:List (aC×Addr)):Prop where
 m:mg name=fo (.ref d)
 ex:s_ λes n=>K.lookup d=fo ⟨.type "dict",fO,.dict es n,#[]⟩/\lK Pm es.toList/\bR vp es.toList td
 sys:(d==nq)=false
theorem KTab.ns{K}(T:KTab K Pm mg name d td)z:bM K d z=some ((td.lookup z).map cZ):=by
 obtain⟨es,n,hl,_,hp⟩:=T.ex;unfold bM;rw[hl];dsimp only;have h:=a7M z hp
 cases e:es.toList.find? (·.key.isStr z) with
 |some x=>rw[e] at h;rw[<-h];rfl
 |none=>rw[e] at h;rw[a9M hp,qf cX,<-h];rfl
theorem KTab.k{K}(T:KTab K Pm mg name d td):Rr K Pm d:=by
 obtain⟨es,n,hl,hk,_⟩:=T.ex;exact⟨es,n,hl,hk⟩
inductive Yk(K:aF)(Pm:gN)(neg:Bool)(x y:V)(H:Hp)(Q:VK):Prop|mk:∀d z r,x=.str z->y=.ref d->Rr K Pm d->bM K d z=fo r->(d==nq)=false->Q (.bl (if neg then !r.isSome else r.isSome)) H->Yk K Pm neg x y H Q
theorem b3k K Pm(hK:X.K=K)(hP:X.w.params=Pm):gw X (jk .In) (Yk K Pm false):=by
 subst hK;subst hP;intro ip s σ H x y v u Q I rx ry h;obtain⟨d,z,r,rfl,rfl,⟨es,n,hl,hk⟩,e,hs,q⟩:=h;cases ry;obtain⟨tk,rfl⟩:=rx;obtain⟨m,hm⟩:=I.fr;exact W.topIn_K hm I.mod.zu hl hk e hs ⟨.bl r.isSome,H,I.tok _,cm,q⟩
theorem b0u K Pm(hK:X.K=K)(hP:X.w.params=Pm):gw X (jk .NotIn) (Yk K Pm true):=by
 subst hK;subst hP;intro ip s σ H x y v u Q I rx ry h;obtain⟨d,z,r,rfl,rfl,⟨es,n,hl,hk⟩,e,hs,q⟩:=h;cases ry;obtain⟨tk,rfl⟩:=rx;obtain⟨m,hm⟩:=I.fr;refine wpAny_notIn_of (strKind_is X.prog X.w z tk) hs (W.mapOf_K (I.mod.zu.keeps hm.keep) hl hk) ?_;rw[W.find_K hl e];exact⟨.bl (!r.isSome),H,I.tok _,cm,q⟩
def c0s(X:Cx)(E:XK)(f:aA)(sp:Sp):Prop:=t_ λCX k fd ps=>bf X.prog X.w X.K X.mg X.base CX k f fd ps sp/\b_ k X.A/\dX X.K (.ref f)=true/\Binds X.K fd ps []/\Z8 CX X E
def b6D(F:aA->Sp->Prop)(E:XK)(tv:TE)(t:TA):TE:=λσ H Q=>tv σ H λv H1=>s_ λf sp=>v=.ref f/\F f sp/\t σ H1 λvs H2=>sp vs H2 Q E
theorem a7L{pos}(hF:∀f sp,F f sp->c0s X E f sp)(hv:PE X (.Name x p) tv)(ha:PA X (e::es) t)
  (he:jh (e::es) X.env=(false,eval e X.env)::jh es X.env:=by rfl) (wb:(jv pos (jh es X.env)).any (·.1)=false:=by rfl) :
  PE X (.Call (.Name x p) (e::es) [] pos) (b6D F E tv t):=by
 intro ip s σ H Q I h;refine jK (D7 (hv ip s σ H _ I h) λu s1 ⟨v,H1,I1,rv,f,sp,ev,hf,q⟩=>?_);subst ev;cases rv;obtain⟨CX,k,fd,ps,ok,hr,hk,hb,hx⟩:=hF f sp hf;exact kM I1.ok.mod.zu hk (D7 (ha pos ip s1 σ H1 _ I1 q) λus s2 ⟨vs,H2,I2,r,q2⟩=>⟨I2.ix,Qg ok hr hb .nil hx I2 r (by simp_all)⟩) he wb
section
variable{X:Cx}
end
open PySem.W
structure zb(n:Nat)(lt:Nat->Nat->Bool):Prop where
 ir_:∀i,i<n->lt i i=false
 tr:∀i j k,i<n->j<n->k<n->lt i j=true->lt j k=true->lt i k=true
 YP:∀i j,i<n->j<n->i≠j->lt i j=true\/lt j i=true
abbrev yP(n:Nat)(lt:Nat->Nat->Bool)(J:aG->Prop)(cmp:Nat->Nat->(Bool->aG->Prop)->aG->Prop):Prop :=
 ∀i j C s,i<n->j<n->J s->(∀s',J s'->C (lt i j) s')->cmp i j C s
def RB(n:Nat)(p:Array Nat):Prop:=p.toList.Perm (aW n)
def vw(lt:Nat->Nat->Bool)(p:Array Nat)(k:Nat):Prop:=∀i j,i<j->j<k->lt (p.getD i 0) (p.getD j 0)=true
def Dn(lt:Nat->Nat->Bool)(p:Array Nat)(k:Nat):Prop:=∀i j,i<j->j<k->lt (p.getD j 0) (p.getD i 0)=true
theorem RB.size(h:RB n p):p.size=n:=by have:=h.length_eq;simpa using this
theorem RB.bd(h:RB n p)(hi:i<n):p.getD i 0<n:=by
 have hz:=h.size;have:p.getD i 0=p[i]' dj:=by simp[hz,hi]
 rw[this];exact fF.mp (h.mem_iff.mp fg)
theorem RB.ne(h:RB n p)(hi:i<n)(hj:j<n)(ne:i≠j):p.getD i 0≠p.getD j 0:=by
 have hz:=h.size;have e1:p.getD i 0=p.toList[i]'(by grind):=by simp_all
 have e2:p.getD j 0=p.toList[j]'(by grind):=by simp_all
 rw[e1,e2];intro z;exact ne ((List.getElem_inj (h.nodup_iff.mpr Sa)).mp z)
def RB.perm(h:RB n p)(e:q.Perm p):RB n q:=(Array.perm_iff_toList_perm.mp e).trans h
theorem Kt{p q:Array Nat}(h:p[i]?=q[j]?):p.getD i 0=q.getD j 0:=by simp_all
theorem YQ(A:zb n lt)(hc:yP n lt J cmp)(hp:RB n p):∀f m s,1<=m->m+f=n->vw lt p m->J s →
  (∀m' s',m<=m'->m'<=n->vw lt p m'->(m'=n\/lt (p.getD m' 0) (p.getD (m'-1) 0)=true)->J s'->G m' s')->(mM p f m).kasWp cmp G s
 |0,m,s,h1,hm,hu,j,k=>by
  unfold mM;exact k m s (aT _) dj hu (.inl dj) j
 |f+1,m,s,h1,hm,hu,j,k=>by
  unfold mM;refine hc _ _ _ s (hp.bd dj) (hp.bd dj) j λs' j'=>?_;cases e:lt (p.getD m 0) (p.getD (m-1) 0) with
  |true =>
   dsimp only;rw[qg rfl];exact k m s' (aT _) dj hu (.inr e) j'
  |false =>
   dsimp only;rw[qf fg];refine YQ A hc hp f (m+1) s' dj dj ?_ j' λm' Nb a b c d j''=>k m' Nb dj b c d j'';have up1:lt (p.getD (m-1) 0) (p.getD m 0)=true:=by
    rcases A.YP _ _ (hp.bd (dj:m-1<n)) (hp.bd (dj:m<n)) (hp.ne dj dj dj) with z|z
    .exact z
    .rw[e] at z;cases z
   intro i j' iy om;by_cases YR:j'<m
   .exact hu i j' iy YR
   .have:j'=m:=dj;subst this;by_cases hi:i=j'-1
    .subst hi;exact up1
    .exact A.tr _ _ _ (hp.bd eX) (hp.bd eX) (hp.bd eX) (hu i (j'-1) eX eX) up1
theorem c9d(A:zb n lt)(hc:yP n lt J cmp)(hp:RB n p):∀f m s,1<=m->m+f=n->Dn lt p m->J s →
  (∀m' s',m<=m'->m'<=n->Dn lt p m'->J s'->G (p,m',0) s')->(oT f p m 0).kasWp cmp G s
 |0,m,s,h1,hm,hu,j,k=>by
  unfold oT;exact k m s (aT _) dj hu j
 |f+1,m,s,h1,hm,hu,j,k=>by
  unfold oT;refine hc _ _ _ s (hp.bd dj) (hp.bd dj) j λs' j'=>?_;cases e:lt (p.getD m 0) (p.getD (m-1) 0) with
  |true =>
   dsimp only;rw[qg rfl,qf dj];refine c9d A hc hp f (m+1) s' dj dj ?_ j' λm' Nb a b c d=>k m' Nb dj b c d;intro i j' iy om;by_cases YR:j'<m
   .exact hu i j' iy YR
   .have:j'=m:=dj;subst this;by_cases hi:i=j'-1
    .subst hi;exact e
    .exact A.tr _ _ _ (hp.bd dj) (hp.bd dj) (hp.bd dj) e (hu i (j'-1) dj dj)
  |false =>
   dsimp only;rw[qf fg];have up1:lt (p.getD (m-1) 0) (p.getD m 0)=true:=by
    rcases A.YP _ _ (hp.bd (dj:m-1<n)) (hp.bd (dj:m<n)) (hp.ne dj dj dj) with z|z
    .exact z
    .rw[e] at z;cases z
   refine hc _ _ _ s' (hp.bd dj) (hp.bd dj) j' λs2 j2=>?_;dsimp only;rw[up1,qg rfl];exact k m s2 (aT _) dj hu j2
theorem d2m(hp:RB n p)(hm:m<=n)(hd:Dn lt p m):RB n (cR p 0 m)/\vw lt (cR p 0 m) m:=by
 refine⟨hp.perm (mirror_perm _ _ _ _),λi j iy hj=>?_⟩;have hz:=hp.size;have e:∀k,k<m->(cR p 0 m).getD k 0=p.getD (m-1-k) 0:=λk hk=>Kt (by
  have:=getElem?_mirror_all (xs:=p) (i:=0) (j:=m) dj k;rw[qg ⟨Nat.zero_le _,hk⟩] at this;unfold cR;rw[this];congr 1;lia)
 rw[e i dj,e j hj];exact hd _ _ dj dj
theorem d0T(A:zb n lt)(hc:yP n lt J cmp)(hp:RB n p)(h1:1<=m)(hm:m<=n)(hd:Dn lt p m)(j:J s)
  (k:∀m' q s',1<=m'->m'<=n->RB n q->vw lt q m'->J s'->G (m',q) s'):(kas_tail3 m n p).kasWp cmp G s:=by
 unfold kas_tail3;rw[cE];obtain⟨r1,r2⟩:=d2m hp hm hd;exact YQ A hc r1 _ m s h1 dj r2 j λm' s' a b c _ j'=>k m' _ s' dj b r1 c j'
theorem c8L(A:zb n lt)(hc:yP n lt J cmp)(hp:RB n p)(hm:m+1<=n)(hd:Dn lt p (m+1))(j:J s)
  (k:∀m' q s',1<=m'->m'<=n->RB n q->vw lt q m'->J s'->G (m',q) s'):(Sj m n p).kasWp cmp G s:=by
 unfold Sj;rw[cE];refine c9d A hc hp _ (m+1) s dj dj hd j λm' s' a b c j'=>?_;rw[qf dj];exact d0T A hc hp (dj:1<=m') b c j' k
theorem d0s(A:zb n lt)(hc:yP n lt J cmp)(hp:RB n p)(h1:1<=n)(j:J s)
  (k:∀m' q s',1<=m'->m'<=n->RB n q->vw lt q m'->J s'->G (m',q) s'):(kas_count n p).kasWp cmp G s:=by
 unfold kas_count;rw[cE];refine YQ A hc hp _ 1 s (aT _) dj (λi j a b=>dj) j λm s' a b c d j'=>?_;by_cases hmn:m=n
 .rw[qg dj];exact k m p s' a b hp c j'
 rw[qf dj];have fk:=d.resolve_left hmn;by_cases Iu:m>1
 .rw[qg Iu];refine hc _ _ _ s' (hp.bd dj) (hp.bd dj) j' λs2 j2=>?_;dsimp only;rw[c 0 (m-1) dj dj,qg rfl];exact k m p s2 a b hp c j2
 .rw[qf Iu];have:m=1:=dj;subst this;refine c8L A hc hp dj (λi j iy hj=>?_) j' k;have hi:i=0:=dj;have hj:j=1:=dj;subst hi;subst hj;exact fk
theorem YS(A:zb n lt)(hc:yP n lt J cmp)(hp:RB n p)(hk:k<n)(hu:vw lt p k):∀f l r s,l<=r->r<=k->r-l<=f->(∀i,i<l->lt (p.getD i 0) (p.getD k 0)=true)->(∀i,r<=i->i<k->lt (p.getD k 0) (p.getD i 0)=true)->J s →
  (∀l' s',l'<=k->(∀i,i<l'->lt (p.getD i 0) (p.getD k 0)=true)->(∀i,l'<=i->i<k->lt (p.getD k 0) (p.getD i 0)=true)->J s'->G l' s')->(Bi p k f l r).kasWp cmp G s
 |0,l,r,s,hlr,Ku,hf,a,b,j,q=>by
  unfold Bi;have:l=r:=dj;subst this;exact q l s Ku a b j
 |f+1,l,r,s,hlr,Ku,hf,a,b,j,q=>by
  unfold Bi;by_cases hl:l ≥ r
  .rw[qg hl];have:l=r:=dj;subst this;exact q l s Ku a b j
  rw[qf hl];have m1:l<=(l+r)/2:=dj;refine hc _ _ _ s (hp.bd hk) (hp.bd dj) j λs' j'=>?_;cases e:lt (p.getD k 0) (p.getD ((l+r)/2) 0) with
  |true =>
   dsimp only;rw[qg rfl];refine YS A hc hp hk hu f l _ s' m1 dj dj a (λi h1 h2=>?_) j' q;by_cases hi:i=(l+r)/2
   .subst hi;exact e
   .exact A.tr _ _ _ (hp.bd hk) (hp.bd dj) (hp.bd dj) e (hu _ i eX h2)
  |false =>
   dsimp only;rw[qf fg];have up1:lt (p.getD ((l+r)/2) 0) (p.getD k 0)=true:=by
    rcases A.YP _ _ (hp.bd (eX:(l+r)/2<n)) (hp.bd hk) (hp.ne eX eX eX) with z|z
    .exact z
    .rw[e] at z;cases z
   refine YS A hc hp hk hu f _ r s' eX Ku eX (λi h1=>?_) b j' q;by_cases hi:i=(l+r)/2
   .subst hi;exact up1
   .exact A.tr _ _ _ (hp.bd eX) (hp.bd dj) (hp.bd hk) (hu i _ eX eX) up1
theorem d0a(A:zb n lt)(hp:RB n p)(hk:k<n)(hl:l<=k)(hu:vw lt p k)(a:∀i,i<l->lt (p.getD i 0) (p.getD k 0)=true)(b:∀i,l<=i->i<k->lt (p.getD k 0) (p.getD i 0)=true) :
  RB n (bubble p k (k-l))/\vw lt (bubble p k (k-l)) (k+1):=by
 refine⟨hp.perm (bubble_perm _ _ _),?_⟩;have hz:=hp.size;have e0:(bubble p k (k-l)).getD l 0=p.getD k 0:=Kt (by rw[Da dj _ dj,qg dj]);have e1:∀i,i<l->(bubble p k (k-l)).getD i 0=p.getD i 0:=λi hi=>Kt (by rw[Da dj _ dj,qf dj,qf dj]);have e2:∀i,l<i->i<=k->(bubble p k (k-l)).getD i 0=p.getD (i-1) 0:=λi h1 h2=>Kt (by rw[Da dj _ dj,qf dj,qg dj]);intro i j iy hj;rcases Nat.lt_trichotomy j l with z|z|z
 .rw[e1 i dj,e1 j z];exact hu i j iy dj
 .subst z;rw[e0,e1 i iy];exact a i iy
 .rw[e2 j z dj];rcases Nat.lt_trichotomy i l with y|y|y
  .rw[e1 i y];exact hu i (j-1) eX eX
  .subst y;rw[e0];exact b (j-1) eX eX
  .rw[e2 i y eX];exact hu (i-1) (j-1) eX eX
theorem d0P(A:zb n lt)(hc:yP n lt J cmp):∀f p k s,RB n p->k+f=n->vw lt p k->J s->(∀q s',RB n q->vw lt q n->J s'->G q s')->(fB f p k).kasWp cmp G s
 |0,p,k,s,hp,hk,hu,j,q=>by
  unfold fB;have:k=n:=dj;subst this;exact q p s hp hu j
 |f+1,p,k,s,hp,hk,hu,j,q=>by
  unfold fB;rw[cE];refine YS A hc hp (dj:k<n) hu k 0 k s (dM _) (aT _) dj (λi h=>dj) (λi h1 h2=>dj) j λl s' hl a b j'=>?_;obtain⟨r1,r2⟩:=d0a A hp (dj:k<n) hl hu a b;exact d0P A hc f _ (k+1) s' r1 dj r2 j' q
theorem d1i(A:zb n lt)(hc:yP n lt J cmp)(h1:1<=n)(j:J s)(q:∀p s',RB n p->vw lt p n->J s'->G p s'):(kas_sort n).kasWp cmp G s:=by
 unfold kas_sort;rw[cE];refine d0s A hc (show RB n (List.toArray (aW n)) from Ty _) h1 j λm p s' a b hp hu j'=>?_;by_cases hm:m<n
 .rw[qg hm,(dj:max m 1=m)];exact d0P A hc _ p m s' hp dj hu j' q
 .rw[qf hm];have:m=n:=dj;subst this;exact q p s' hp hu j'
section
variable{X:Cx}{ip:List (aA×Obj)}{σ:St}{H:Hp}{s:aG}{fr:List Nat}{scope:cQ}{col:aC}{qual:aC}{f:aA}{cd:aE}{A':aV}
theorem c9E(I:Inv X ip σ H s)(hA:A'.frames=fo X.stack)(hh:A'.handled=X.A.handled)
  (NQ:A'.depth<jy) (hk:scope.kind=.function) (h:BA X.env.scope scope X.N fr=true)
  (kf:∀x∈scope.names,x.2≠.cell) (CI:scope.names.lookup col=fo .local) (UZ:scope.isCoroutine=false) (JX:scope.isGenerator=false)
  (hf:s.heap.get? f=fo (oU "<lambda>" qual params body scope (p_ X.env scope.names []) pm c' BE)) (xo:s.heap.CodeRec (.ref c') qual)
  (hb:∀u,ma (W.kla_fn "<lambda>" qual params body scope (p_ X.env scope.names []) pm (.ref c') BE) ⟨[u],[]⟩=pure [(col,u)])
  (fz:PE (QN X col fr qual scope f (.ref c') A' s H) body t) (r:RelV v u) (ht:t (fo v::LB fr σ) H P)
  (q:∀w H' y s',RelV w y->P w H'->Inv X ip σ H' s'->Q y s'):iZ (jf X.prog X.w) A' (call (.ref f) [u]) Q E s:=by
 refine lV (W.kla_callFunE NQ hf rfl UZ JX rfl xo ?_);rw[hb u];refine bG (wpAny_newFunctionEnv kf (λy hy=>?_) (λtw EL UP=>?_) hk)
 .cases cJ.mp hy;exact CI
 .have kp:=λb o e=>UP.extBut b o (dB (bN e)) (bL _ e);refine⟨I.nolimit.keeps kp,W.kla_codeExpr (eY (fz [] _ _ _ _ (I.lam (qual:=qual) (f:=f) (cd:=.ref c') (t':=s.toks+[(col,u)].length) hA hh hk h kf CI EL kp r) ht) (λy s' hy=>?_) λe s' z=>eD z)⟩;obtain⟨w,H',J',G',hp⟩:=hy;exact q w H' y s' G' hp (I.Bx J'.os J'.base J'.ck J'.bare λb hb=>by cases hb)
end
theorem c8T(h:Q (!a&&b) s):iZ (jf prog w) A (oneLt' true (.bool a) (.bool b)) Q E s:=by
 rw[oneLt'_eq];refine aN (wpAny_cRoomFor_byValue rfl (aN (wpAny_callSpecialIfBound?_slot rfl Sy ?_)));refine oQ Sy rfl F.entry_int_lt ?_ (F.args_int_lt_2 _ _);cases a<;>cases b
 .show iZ _ _ (ret (.bool (decide ((0:Int)<0)))) _ _ s;exact bG ⟨_,cm,gC h⟩
 .show iZ _ _ (ret (.bool (decide ((0:Int)<1)))) _ _ s;exact bG ⟨_,cm,gC h⟩
 .show iZ _ _ (ret (.bool (decide ((1:Int)<0)))) _ _ s;exact bG ⟨_,cm,gC h⟩
 .show iZ _ _ (ret (.bool (decide ((1:Int)<1)))) _ _ s;exact bG ⟨_,cm,gC h⟩
theorem c7W(h:Q (decide (a<b)) s):iZ (jf prog w) A (oneLt' false (.int a t) (.int b u)) Q E s:=by
 rw[oneLt'_eq];exact aN (vD (λi=>[a,b].getD i 0) (λi v h=>h) 0 1 _ _ _ _ _ ⟨t,cm⟩ ⟨u,cm⟩ (gC h))
abbrev YU:=Bool×Int×Int
def vc(k k':YU):Bool:=if k.1=k'.1 then (if k.2.1=k'.2.1 then decide (k.2.2<k'.2.2) else decide (k.2.1<k'.2.1)) else (!k.1&&k'.1)
def zH(k:YU):List V:=[.bl k.1,.int k.2.1,.int k.2.2]
theorem c8b k:vc k k=false:=by simp[vc]
theorem Kv:vc a b=true ↔ (a.1=false/\b.1=true)\/(a.1=b.1/\(a.2.1<b.2.1\/(a.2.1=b.2.1/\a.2.2<b.2.2))):=by
 unfold vc;by_cases e1:a.1=b.1
 .rw[qg e1];have n1:¬(a.1=false/\b.1=true):=by rw[e1];rintro⟨z,y⟩;rw[z] at y;cases y
  by_cases e2:a.2.1=b.2.1
  .rw[qg e2,decide_eq_true_iff];constructor
   .intro h;exact .inr ⟨e1,.inr ⟨e2,h⟩⟩
   .rintro(z|⟨_,z|⟨_,z⟩⟩)
    .exact absurd z n1
    .lia
    .exact z
  .rw[qf e2,decide_eq_true_iff];constructor
   .intro h;exact .inr ⟨e1,.inl h⟩
   .rintro(z|⟨_,z|⟨z,_⟩⟩)
    .exact absurd z n1
    .exact z
    .exact absurd z e2
 .rw[qf e1];constructor
  .intro h;have h':(!a.1)=true/\b.1=true:=by simp_all
   exact .inl ⟨by simpa using h'.1,h'.2⟩
  .rintro(⟨z,y⟩|⟨z,_⟩)
   .rw[z,y];rfl
   .exact absurd z e1
theorem d0b(h:vc a b=true)(h':vc b c=true):vc a c=true:=by
 rw[Kv] at *;rcases h with⟨h1,h2⟩|⟨h1,h2⟩<;>rcases h' with⟨g1,g2⟩|⟨g1,g2⟩
 .exact .inl ⟨h1,g2⟩
 .exact .inl ⟨h1,g1▸h2⟩
 .exact .inl ⟨h1▸g1,g2⟩
 .exact .inr ⟨h1.trans g1,dj⟩
theorem c9K(h:a.2.2≠b.2.2):vc a b=true\/vc b a=true:=by
 rw[Kv,Kv];cases e:a.1<;>cases e':b.1
 .by_cases z:a.2.1<b.2.1\/(a.2.1=b.2.1/\a.2.2<b.2.2)
  .exact .inl (.inr ⟨cm,z⟩)
  .exact .inr (.inr ⟨cm,dj⟩)
 .exact .inl (.inl ⟨cm,cm⟩)
 .exact .inr (.inl ⟨cm,cm⟩)
 .by_cases z:a.2.1<b.2.1\/(a.2.1=b.2.1/\a.2.2<b.2.2)
  .exact .inl (.inr ⟨cm,z⟩)
  .exact .inr (.inr ⟨cm,dj⟩)
theorem d1T(hx:gP s.heap x iq.toArray)(hy:gP s.heap y tu.toArray)(rx:Vals (zH k) iq)(ry:Vals (zH k') tu)(h:Q (vc k k') s) :
  iZ (jf prog w) A (keyLt' (tuples' true) (.ref x) (.ref y)) Q E s:=by
 obtain⟨k1,k2,k3⟩:=k;obtain⟨l1,l2,l3⟩:=k';obtain⟨ox,ex,_,nx,dx⟩:=hx;obtain⟨oy_,ey,_,ny_,dy_⟩:=hy;rcases rx with _|⟨a1,_|⟨a2,_|⟨a3,_|_⟩⟩⟩;rcases ry with _|⟨b1,_|⟨b2,_|⟨b3,_|_⟩⟩⟩;cases a1;cases b1;obtain⟨t2,rfl⟩:=a2;obtain⟨t3,rfl⟩:=a3;obtain⟨u2,rfl⟩:=b2;obtain⟨u3,rfl⟩:=b3;refine kat_lt ex dx ey dy_ ?_;refine Kn (zX k1 l1 prog w _ _ ?_);by_cases e1:k1=l1
 .subst e1;rw[(fg:(k1==k1)=true)];refine Op (Kn (wpAny_eqBool_int ?_));by_cases e2:k2=l2
  .subst e2;rw[(fg:(k2==k2)=true)];refine Op (Kn (wpAny_eqBool_int ?_));by_cases e3:k3=l3
   .subst e3;rw[(fg:(k3==k3)=true)];refine Op (kat_nil ?_);rw[c8b] at h;exact h
   .rw[show(k3==l3)=false by simpa using e3];refine kat_no (c7W ?_);simpa[vc] using h
  .rw[show(k2==l2)=false by simpa using e2];refine kat_no (c7W ?_);simpa[vc,e2] using h
 .rw[show(k1==l1)=false by simpa using e1];refine kat_no (c8T ?_);simpa[vc,e1] using h
theorem c8I{n:Nat}(hh:A.handled=fO)(hr:IsRange s.heap r a b c t u v)(Bu:Uf a b c=true)
  (hn:sU a b c=n) (hlen:n<=2^24)
  (hQ:∀h' tk acc,(∀b o,s.heap.get? b=fo o->h'.get? b=fo o)->ItemsOf (λi v=>∃t,v=.int (a+i*c) t) acc n->Q acc.toList {s with heap:=h',toks:=tk}) :
  iZ (jf prog w) A (collect (.ref r)) Q E s:=by
 unfold collect;refine aN (wpAny_runValue (rE F.entry_proto_collect ?_));rw[wN F.plain_proto_collect _];refine aN (lQ (bG ⟨plainId_quiet Tk _,rE F.entry_list_iadd ?_⟩));rw[wN Tk _];have hS:(s.heap.push {cls:=.type "list",data:=.seq ([]:List aE).toArray}).get? s.heap.objs.size=fo {cls:=.type "list",data:=.seq #[]}:=dG _ rfl;refine wpAny_extend_range (R:=λr s'=>match r with
  |.ok (.ret v)=>iZ (jf prog w) A (match v with
   |.ref a=>(do
    let o <- load a;match o.data with
    |.seq xs _=>pure xs.toList
    |_=>unsupported "internal:collect")
   |_=>unsupported "internal:collect") Q E s'
  |.ok _=>False
  |.error e=>E e s') hh (bL _ hr) Bu hn hlen _ _ 0 hS λh' tk J_ c' hk BG NU=>?_
 exact aN (nE BG (bG (hQ h' tk J_ (λb o e=>hk b o (dB (bN e)) (bL _ e)) NU)))
end L2
namespace L2
open PySem PySem.Spec PyProof.Rows PySem.W
section
variable{X:Cx}{ip:List (aA×Obj)}{σ:St}{H H':Hp}{s:aG}{kS_ D fq:aA}{ns:List Int}{g:Int->Bool×Int}{E:aE->aG->Prop}
abbrev vx(g:Int->Bool×Int)(m:Int):YU:=((g m).1,(g m).2,m)
def du(g:Int->Bool×Int)(H:Hp)(ns:List Int)(vs:List V):Prop:=aZ (λm v=>∃t,v=sy t/\H t=fo (.tup (zH (vx g m)))) ns vs
theorem du.same(h:du g H ns vs)(e:∀b xs,H b=fo (.tup xs)->H' b=fo (.tup xs)):du g H' ns vs:=by
 induction h with
 |nil=>exact .nil
 |cons r _ ih =>
  obtain⟨t,z,q⟩:=r;exact .cons ⟨t,z,e _ _ q⟩ ih
theorem du.snoc(h:du g H ns vs)(q:H t=fo (.tup (zH (vx g m)))):du g H (ns++[m]) (vs++[.ref t]):=by
 induction h with
 |nil=>exact .cons ⟨t,cm,q⟩ .nil
 |cons r _ ih=>exact .cons r ih
abbrev S1(a:aA)(o:Obj):HO:=.ext λh=>h.get? a=fo o
abbrev d0Q(X:Cx)(ip:List (aA×Obj))(σ:St)(H:Hp)(fq:aA)(ns:List Int)(g:Int->Bool×Int):Prop :=
 ∀H',af H H'->∀m∈ns,∀u s Q E,Inv X ip σ H' s->RelV (.int m) u →
  (∀t s',H' t=fO->Inv X ip σ (upd H' t (.tup (zH (vx g m)))) s'->Q (.ref t) s')->iZ (jf X.prog X.w) X.A.in1.in1 (call (.ref fq) [u]) Q E s
theorem c9m{C:List aE->aG->Prop}
  (hb:∀x(s:aG)(R:aG->Prop),iZ M A (call f [x]) (λk s'=>s_ λ(ks:List aE)(e:Nat)=>s'.heap.get? kS_=fo (pX "list" ks.toArray e)/\gu ks<64/\R {s' with heap:=s'.heap.update kS_ (gT (·.push k))}) (λ_ _=>False) s →
   iZ M A (body x ⟨⟩) (λr s'=>r=.yield ⟨⟩/\R s') E s)
  (st:∀x r s,C (x::r) s->iZ M A (call f [x]) (λk s'=>s_ λ(ks:List aE)(e:Nat)=>s'.heap.get? kS_=fo (pX "list" ks.toArray e)/\gu ks<64/\C r {s' with heap:=s'.heap.update kS_ (gT (·.push k))}) (λ_ _=>False) s) :
  ∀r s,C r s->iZ M A (forIn r PUnit.unit body) (λ_ s'=>C [] s') E s
 |[],s,h=>by rw[qZ];exact bG h
 |x::r,s,h=>by
  rw[oA];refine aN (eY (hb x s (C r) (st x r s h)) (λq s' hq=>?_) λ_ _ z=>z);obtain⟨rfl,h'⟩:=hq;exact c9m hb st r s' h'
theorem Inv.Eb{o:Obj}(I:Inv X ip σ H s)(hH:H D=fo (S1 D (pX "list" #[] n)))
  (hf:f #[]=tu.toArray) (hv:Vals ys tu) (hz:gu ys<=jb) :
  Inv X ip σ (upd H D (.lst ys)) {s with heap:=s.heap.update D (gT f)}:=by
 have q:=Ag (show s.heap.get? D=fo {cls:=.type "list",data:=.seq (([]:List aE).toArray) n} from((I.ck D _ hH).1)) f;rw[hf] at q;exact I.write (hH▸trivial) (.inl rfl) (λb' u hb hu=>(uB s.heap (gT f) (bV hb)).trans hu) ⟨_,q⟩ ⟨hz,tu,_,hv,q⟩
def Kz(g:Int->Bool×Int)(ns ns':List Int):Prop:=ns'.Perm ns/\ns'.Pairwise λa b=>vc (vx g a) (vx g b)=true
theorem c9i{st}{ns':List Int}(I:Inv X ip σ H s)(hk:H kS_=fo (.lst vs))(hD:H D=fo (S1 D (pX "list" #[] e1)))
  (hv:gu vs<64) (ho:(arrOf st).map (·.2)=out.toArray) (ro:Vals (ns'.map sh) out) (hn:gu ns'<64) (hf:failedOf st=fO)
  (k:∀s',Inv X ip σ (upd (upd H kS_ (.lst [])) D (.lst (ns'.map sh))) s'->P (.done (.ret .none)) s'):iZ (jf X.prog X.w) A (ksk_tail D false e1 (.ref kS_) st) P E s:=by
 obtain⟨z,iq,c,r,hl,e⟩:=I.Cz hk;have lo:gu out=gu ns':=by have:=ro.length;simpa using this.symm
 unfold ksk_tail
 try dsimp only
 rw[ho];have I1:=I.JM (t':=s.toks) (f:=λ_=>#[]) hk e rfl .nil (dM _);refine aN (hW e rfl (aN (jR ?_)) (by simp_all) (dM _));have hD1:(upd H kS_ (.lst [])) D=fo (S1 D (pX "list" #[] e1)):=by rw[j3 (J7 hD hk nofun)];exact hD
 have eD_:=(I1.ck D _ hD1).1;refine aN (seqEpoch_at eD_ rfl ?_);have I2:=I1.Eb (o:=default) (f:=λ_=>out.toArray) hD1 rfl ro (by rw[aH];exact bF (gQ hn) dz);refine aN (hW eD_ rfl ?_ (dM _) (by show out.toArray.size<=_;rw[bY,bE];lia));rw[hf];simp only[bne_self_eq_false,uT,if_false];exact bG (k _ I2)
theorem d0N{α:Type}{R:α->α->Prop}:∀{l:List α},gu l<2->l.Pairwise R
 |[],_=>.nil
 |[_],_=>.cons (λb hb=>by cases hb) .nil
theorem c7t:∀{l}{l':List β}{i:Nat}{a},aZ F l l'->l[i]?=fo a->∃b,l'[i]?=fo b/\F a b
 |_,_,_,_,.nil,e=>by simp at e
 |_,_,0,_,.cons r _,e=>by simp at e;subst e;exact⟨_,cm,r⟩
 |_,_,i+1,x,.cons _ t,e=>by
  obtain⟨b,h1,h2⟩:=c7t t (by simpa using e);exact⟨b,by simpa using h1,h2⟩
theorem d0J(h:du g H ns vs)(r:Vals vs ks)(I:Inv X ip σ H s)(hi:i<gu ns):s_ λt iq=>ks.getD i iN=.ref t/\gP s.heap t iq.toArray/\Vals (zH (vx g (ns.getD i 0))) iq:=by
 have e:ns[i]?=fo (ns.getD i 0):=by rw[bA,aS hi];rfl
 obtain⟨v,hv,t,rfl,q⟩:=c7t h e;obtain⟨u,hu,ru⟩:=r.get hv;cases ru;obtain⟨_,iq,rt,ht⟩:=I.ck t _ q;exact⟨t,iq,by rw[bA,hu];rfl,ht,rt⟩
theorem c7M:∀{ns}{vs}{ks},du g H ns vs->Vals vs ks->mz H h->∃fs,KatTups h ks fs/\gu fs=gu ns/\∀v∈fs,∃b,v=pT b
 |_,_,_,.nil,.nil,_=>⟨[],.nil,cm,λv hv=>by cases hv⟩
 |_,_,_,.cons ⟨t,e,q⟩ hr,.cons rv rr,I=>by
  subst e;cases rv;obtain⟨fs,k1,k2,k3⟩:=c7M hr rr I;obtain⟨_,iq,rt,o,ho,hc,n,hd⟩:=I t _ q;rcases rt with _|⟨a1,_|⟨a2,_|⟨a3,_|_⟩⟩⟩;cases a1;exact⟨_::fs,KatTups.cons ho hc hd rfl k1,rd (·+1) k2,λv hv=>(bH.mp hv).elim (λz=>⟨_,z⟩) (k3 v)⟩
theorem d2t(I:Inv X ip σ H s)(hk:H kS_=fo (.lst vs))(hD:H D=fo (S1 D (pX "list" #[] e1)))
  (K:du g H ns vs) (rk:Vals vs ks) (ri:Vals (ns.map sh) iq) (hn:gu ns<64) (nd:ns.Nodup)
  (k:∀ns' s',Kz g ns ns'->Inv X ip σ (upd (upd H kS_ (.lst [])) D (.lst (ns'.map sh))) s'->P (.done (.ret .none)) s') :
  iZ (jf X.prog X.w) X.A.in1.in1 (ksk_end D false iq.toArray e1 (.ref kS_) ks.toArray) P E s:=by
 have li:gu iq=gu ns:=by have:=ri.length;simpa using this.symm
 have lv:=K.length.symm;have lk:gu ks=gu iq:=by rw[<-rk.length,lv,li]
 unfold ksk_end
 try dsimp only
 by_cases h2:iq.toArray.size<2
 .rw[qg h2,qg h2];refine aN (bG ?_);rw[StateT.run_pure];refine aN (bG ?_)
  try dsimp only
  refine c9i I hk hD dj ?_ ri hn rfl λs' I'=>k ns s' ⟨.refl _,?_⟩ I'
  .apply Array.toList_inj.mp;show((ks.toArray.zip iq.toArray).map (·.2)).toList=iq.toArray.toList;simp only[Array.toList_map,Array.toList_zip];exact List.map_snd_zip dj
  .have:gu ns<2:=by rw[bY] at h2;lia
   exact d0N this
 .rw[qf h2,qf h2];rw[bY] at h2;obtain⟨fs,kt,lf,bf_⟩:=c7M K rk I.ck;refine aN (kat_kind (T:=.type "bool") kt dj (λv hv=>?_) (by rfl) ?_)
  .obtain⟨b,rfl⟩:=bf_ v hv;exact .now
  .have ht:(pV "bool" != pV "tuple")=true:=by rfl
   rw[ht];let lt:Nat->Nat->Bool:=λi j=>vc (vx g (ns.getD i 0)) (vx g (ns.getD j 0));have AO_:zb (gu iq) lt:=by
    refine⟨λi _=>c8b _,λi j k _ _ _ a b=>d0b a b,λi j hi hj ne=>c9K ?_⟩;have ei:ns.getD i 0=ns[i]' dj:=by grind
    have ej:ns.getD j 0=ns[j]' dj:=by grind
    rw[ei,ej];exact λz=>ne ((List.getElem_inj nd).mp z)
   refine aN (eY (kat_run (Q:=λx_ s'=>s'=s/\∃p:Array Nat,RB (gu iq) p/\vw lt p (gu iq)/\arrOf x_=p.map (kas_item (ks.toArray.zip iq.toArray))/\failedOf x_=fO)
    (G:=λp s'=>s'=s/\RB (gu iq) p/\vw lt p (gu iq)) lk dj dj (λp' x_ s' a1 a2 a3 a4=>⟨a4.1,p',a4.2.1,a4.2.2,a2,a3⟩)
    (d1i (J:=λs'=>s'=s) AO_ (λi j C s' hi hj js_ hC=>?_) eX rfl λp s' a b c=>⟨c,a,b⟩)) ?_ λ_ _ x=>x)
   .subst js_;obtain⟨t1,it1,e1,q1,r1⟩:=d0J K rk I (i:=i) eX;obtain⟨t2,it2,e2,q2,r2⟩:=d0J K rk I (i:=j) eX;show iZ (jf X.prog X.w) X.A.in1.in1 (keyLt' (tuples' true) (ks.getD i iN) (ks.getD j iN)) C (λ_ _=>False) _;rw[e1,e2];exact d1T q1 q2 r1 r2 (hC _ rfl)
   .rintro⟨⟨⟩,x_⟩ s' ⟨rfl,p,hp,hu,har,hf⟩
    try dsimp only
    have hz:=hp.size;let ns':List Int:=p.toList.map λi=>ns.getD i 0;have ro:Vals (ns'.map sh) (p.toList.map λi=>iq.getD i iN):=by
     rw[bC];have:∀(q:List Nat),(∀i∈q,i<gu ns)->Vals (q.map (sh∘λi=>ns.getD i 0)) (q.map λi=>iq.getD i iN):=by
      intro q;induction q with
      |nil=>intro _;exact .nil
      |cons a q ih =>
       intro hq;refine .cons ?_ (ih λi hi=>hq i (bZ _ hi));have e:(ns.map sh)[a]?=fo (sh (ns.getD a 0)):=by rw[aP,bA,aS (hq a cY)];rfl
       obtain⟨u,hu,ru⟩:=ri.get e;show RelV (sh (ns.getD a 0)) (iq.getD a iN);have e2:iq.getD a iN=u:=by rw[bA,hu];rfl
       rw[e2];exact ru
     exact this _ λi hi=>by have:=fF.mp (hp.mem_iff.mp hi);lia
    have ln:gu ns'=gu ns:=by show gu (p.toList.map _)=_;rw[aH,lO,hz,li]
    refine c9i (ns':=ns') I hk hD eX (kat_snds lk har) ro eX hf λs' I'=>k ns' s' ⟨?_,?_⟩ I'
    .have e0:ns=(aW (gu iq)).map λi=>ns.getD i 0:=by
      apply Tl
      .simp[li]
      .intro i h1 h2;simp[show i<gu ns from h1]
     have:=List.Perm.map (λi=>ns.getD i 0) hp;rw[<-e0] at this;exact this
    .show(p.toList.map λi=>ns.getD i 0).Pairwise _;rw[List.pairwise_map,List.pairwise_iff_getElem];intro i j hi hj iy;have:=hu i j iy (by simp_all);have gi_:p.getD i 0=p.toList[i]:=by simp[bI,show i<p.size by rw[lO] at hi;lia]
     have gj_:p.getD j 0=p.toList[j]:=by simp[bI,show j<p.size by rw[lO] at hj;lia]
     rw[gi_,gj_] at this;exact this
theorem d1G(I:Inv X ip σ H s)(turn:d0Q X ip σ H' fq ns g)(sm:af H' H)(fk_:H' kS_=fO)(hk:H kS_=fo (.lst []))(hD:H D=fo (S1 D (pX "list" #[] e1)))
  (ri:Vals (ns.map sh) iq) (hn:gu ns<64) (nd:ns.Nodup)
  (k:∀ns' xc s',Kz g ns ns'->af H' xc->xc D=fo (S1 D (pX "list" #[] e1))->xc kS_≠fO->Inv X ip σ (upd (upd xc kS_ (.lst [])) D (.lst (ns'.map sh))) s'->P (.done (.ret .none)) s') :
  iZ (jf X.prog X.w) X.A.in1.in1 (ksk_rest D (.ref fq) false iq.toArray e1 (.ref kS_)) P E s:=by
 unfold ksk_rest;refine aN (lR ?_);rw[hX];refine aN (eY (c9m (kS_:=kS_) (f:=.ref fq) (C:=λr s'=>t_ λkn rn vs H1=>ns=kn++rn/\Vals (rn.map sh) r/\af H' H1/\H1 kS_=fo (.lst vs)/\H1 D=fo (S1 D (pX "list" #[] e1))/\du g H1 kn vs/\Inv X ip σ H1 s')
  (λx s' R hx=>?_) (λx r s' hC=>?_) iq s ⟨[],ns,[],H,cm,ri,sm,hk,hD,.nil,I⟩) (λ_ s' hd=>?_) λ_ _ z=>z)
 .refine aN (wA (eY hx (λk s2 Rz=>?_) λ_ _ z=>z.elim));obtain⟨ks,e,ek,lk,r⟩:=Rz
  try dsimp only
  exact aN (hW ek rfl (bG ⟨cm,r⟩) (by rw[bY,bE];lia) (by rw[Array.size_push,bY,bE];lia))
 .obtain⟨kn,rn,vs,H1,en,rr,KS,k1,D1,KN,I1⟩:=hC;match rn,rr with
  |m::rn,.cons ru rr =>
  refine turn H1 KS m (by simp_all) x s' _ _ I1 ru λt s2 ht I2=>?_;have nk_:=i7 k1 ht;have k2:(upd H1 t (.tup (zH (vx g m)))) kS_=fo (.lst vs):=by rw[j3 nk_];exact k1
  obtain⟨z,ks,c,rk,hl,e⟩:=I2.Cz k2;have lv:gu vs=gu kn:=KN.length.symm;have hlen:gu kn+1<=gu ns:=by rw[en,aX,eM];lia
  refine⟨ks,c,e,dj,kn++[m],rn,vs++[.ref t],_,by rw[en];simp,rr,?_,ae,?_,?_,I2.JM k2 e fg (rk.append (.cons (show RelV (.ref t) (.ref t) from rfl) .nil)) (by rw[aX,fR];exact bF (dj:gu vs+1<=64) dz)⟩
  .intro b o q;have nb:b≠kS_:=λz=>by subst z;rw[fk_] at q;cases q
   rw[j3 nb,j3 (i7 (KS b o q) ht)];exact KS b o q
  .rw[j3 (J7 D1 k1 nofun),j3 (i7 D1 ht)];exact D1
  .refine du.snoc (KN.same λb xs q=>?_) ?_
   .rw[j3 (J7 q k1 nofun),j3 (i7 q ht)];exact q
   .rw[j3 (bV nk_),ae]
 .obtain⟨kn,rn,vs,H1,en,rr,KS,k1,D1,KN,I1⟩:=hd;have e0:rn=[]:=by cases rn with|nil=>rfl|cons _ _=>cases rr
  subst e0;rw[fP] at en;subst en;obtain⟨z,ks,c,rk,hl,e⟩:=I1.Cz k1;exact aN (Tm e rfl (d2t I1 k1 D1 KN rk ri hn nd λns' s2 a b=>k ns' H1 s2 a KS D1 dj b))
theorem d1H{n:Nat}(hc:X.calm=true)(I:Inv X ip σ H s)(hr:H p=fo (.zt 0 n))(hn:n<64)(turn:d0Q X ip σ H fq ((aW n).map λ(i:Nat)=>(i:Int)) g)
  (k:∀l ns' H' s',Kz g ((aW n).map λ(i:Nat)=>(i:Int)) ns'->af H H'->H l=fO->H' l=fo (.lst (ns'.map sh))->Inv X ip σ H' s'->Q (.ref l) s') :
  iZ (jf X.prog X.w) X.A (call (.builtin "sorted") [.ref p] [("key",.ref fq)]) Q E s:=by
 refine call_function_entry_kw kind_sorted plain_sorted entry_sorted (ksk_s1 _ _) ?_;unfold iH.«sorted»;refine aN (bG ?_);obtain⟨t,u,v,e⟩:=I.ck p _ hr;have xq:sU 0 (n:Int) 1=n:=by rw[sV];split<;>lia
 refine aN (c8I (I.ok.hd hc) e (small_one dj dj dj eX) xq eX λh1 Vd acc CO NU=>?_);have hv:Vals (((aW n).map λ(i:Nat)=>(i:Int)).map sh) acc.toList:=by
  rw[bC];refine VJ n acc.toList (λi=>(i:Int)) (by simpa using NU.1) λj v q=>?_;obtain⟨t,rfl⟩:=NU.2 j v (by simpa using q);exact⟨t,fg⟩
 have ln:gu ((aW n).map λ(i:Nat)=>(i:Int))=n:=fg;have la:gu acc.toList=n:=by have:=hv.length;simpa using this.symm
 have I1:=I.kept (h':=h1) (t':=Vd) CO;refine aN (wpAny_newList ?_ (by rw[bE];lia));have Bn:(h1.push (pX "list" acc.toList.toArray 0)).get? h1.objs.size=fo (pX "list" acc.toList.toArray 0):=dG _ rfl;refine aN (iP (wpAny_call_entry_kw slot_list_sort ⟨_,Bn,cm⟩ entry_list_sort ?_ (ksk_l1 _ _)));show iZ (jf X.prog X.w) X.A.in1.in1 (iH.«list.sort» ⟨[.ref h1.objs.size],[(cN "key",.ref fq)]⟩) _ _ _;rw[ksk_t1];unfold ksk_tree;refine aN (Tm Bn rfl (aN (hW Bn rfl ?_ (by rw[bY,bE];lia) (dM _))));obtain⟨e1,YV⟩:∃e1,((h1.push (pX "list" acc.toList.toArray 0)).update h1.objs.size (gT λ_=>(#[]:Array aE))).get? h1.objs.size=fo (pX "list" #[] e1):=⟨_,wP Bn λ_=>#[]⟩;refine aN (seqEpoch_at YV rfl (aN (wpAny_newTuple (aN (wpAny_newList (iP ?_) (dM _))) (by show gu acc.toList<=_;rw[bE];lia))));have D:aA:=h1.objs.size;have kp:∀b o,h1.get? b=fo o->((h1.push (pX "list" acc.toList.toArray 0)).update h1.objs.size (gT λ_=>(#[]:Array aE))).get? b=fo o:=λb o q=>by
  rw[Heap.get?_update_ne _ _ _ _ (dB (bN q))];exact bL _ q
 have I3:=(I1.laid (a:=h1.objs.size) (o:=S1 h1.objs.size (pX "list" #[] e1)) (t':=Vd) kp (aT _) ⟨YV,⟨_,YV⟩,λx y a b=>b _ a⟩).kept (h':=((h1.push (pX "list" acc.toList.toArray 0)).update h1.objs.size (gT λ_=>(#[]:Array aE))).push (pX "tuple" acc.toList.toArray 0)) (t':=Vd) λb u q=>bL _ q;have f1:H h1.objs.size=fO:=I1.fresh;have f2:(upd H h1.objs.size (S1 h1.objs.size (pX "list" #[] e1))) (((h1.push (pX "list" acc.toList.toArray 0)).update h1.objs.size (gT λ_=>(#[]:Array aE))).push (pX "tuple" acc.toList.toArray 0)).objs.size=fO:=I3.fresh;have ne:h1.objs.size≠(((h1.push (pX "list" acc.toList.toArray 0)).update h1.objs.size (gT λ_=>(#[]:Array aE))).push (pX "tuple" acc.toList.toArray 0)).objs.size:=i7 ae f2;have f3:H (((h1.push (pX "list" acc.toList.toArray 0)).update h1.objs.size (gT λ_=>(#[]:Array aE))).push (pX "tuple" acc.toList.toArray 0)).objs.size=fO:=by
  rw[j3 (bV ne)] at f2;exact f2
 refine d1G (H':=H) (I3.JN (iq:=[]) (ys:=[]) (t':=Vd) .nil (dM _)) turn (λb o q=>?_) f3 ae (by rw[j3 ne];exact ae) hv (by rw[ln];exact hn) ?_ λns' H2 s2 S sm D2 k2 I5=>?_
 .rw[j3 (i7 q f3),j3 (i7 q f1)];exact q
 .exact aAB _ (λa b(h:a≠b)=>(eX:(a:Int)≠(b:Int))) Sa
 .refine⟨_,cm,bG ⟨_,cm,k _ ns' _ s2 S (λb o q=>?_) f1 ae I5⟩⟩;rw[j3 (i7 q f1),j3 (i7 q f3)];exact sm b o q
end
def d1E(K:aF)(P:aA)(CJ:Pos)(qual:aC)(fr:List Nat)(t:TA)(tb:TE):TE:=λσ H Q=>t σ H λvs H1=>tq λ(p:aA)(n:Nat)(g:Int->Bool×Int)=>vs=[.ref p]/\H1 p=fo (.zt 0 n)/\n<64/\cu P CJ qual H1/\
 ∀H2,bj P H1 H2->cu P CJ qual H2->(∀H3,af H2 H3->∀m∈((aW n).map λ(i:Nat)=>(i:Int)),tb (fo (.int m)::LB fr σ) H3 λy H'=>∃t,y=.ref t/\H3 t=fO/\H'=upd H3 t (.tup (zH (vx g m))))/\
  ∀H3 l ns',af H2 H3->H2 l=fO->H3 l=fo (.lst (ns'.map sh))->Kz g ((aW n).map λ(i:Nat)=>(i:Int)) ns'->Q (.ref l) H3
section
variable{X:Cx}{e body:aR}{es:List aR}{t:TA}{tb:TE}{fr:List Nat}{scope:cQ}{col:aC}{c P:aA}{params:kO}{p pos CJ UT:Pos}
theorem c8Q(hc:X.calm=true)(hr:b_ 3 X.A)(hg:Gl X "sorted")(hm:X.mg "sorted"=fO)(vm:X.env.code=.ref c)(C:oV X.base c P)(B:QO X.mg X.base)(DT:BA X.env.scope scope X.N fr=true)(hk:scope.kind=.function)
  (kf:∀x∈scope.names,x.2≠.cell) (CI:scope.names.lookup col=fo .local) (UZ:scope.isCoroutine=false) (JX:scope.isGenerator=false)
  (hb:∀pm BE c' u,ma (W.kla_fn "<lambda>" (X.env.qual++"<lambda>") params body scope (p_ X.env scope.names []) pm (.ref c') BE) ⟨[u],[]⟩=pure [(col,u)])
  (ha:PA X [e] t) (fz:∀f cd s H,PE (QN X col fr (X.env.qual++"<lambda>") scope f cd X.A.in1.in1 s H) body tb) (JY:defaultsOf params X.env=([],[]):=by rfl)
  (he:jv pos (jh [e] X.env)=(false,eval e X.env)::jv pos (jh [] X.env):=by rfl) (wb:(jv pos (jh [e] X.env)).any (·.1)=false:=by rfl) :
  PE X (.Call (.Name "sorted" p) [e] [⟨fo "key",.Lambda params body scope CJ,UT⟩] pos) (d1E X.K P CJ (X.env.qual++"<lambda>") fr t tb):=by
 intro ip s σ H Q I h;refine jK (JD I hg hm rfl (Ak (D7 (ha pos ip s σ H _ I h) λus s1 ⟨vs,H1,I1,r,l,n,g,ev,hl,hn,T,q⟩=>?_) he wb));subst ev;obtain⟨u,rfl,ru⟩:=U1 r;cases ru;show iZ _ _ (evalAll [(do let v <- eval (.Lambda params body scope CJ) X.env;nu pos;pure v)]) _ _ s1;refine wR (aN (b3C I1 vm C B T DT JY λf c' BE pm H2 s2 I2 T2 e2 U_ _=>aN (iQ (bG (wpAny_evalAll_nil ?_)))));obtain⟨q1,q2⟩:=q H2 e2 T2;have nP:l≠P:=λz=>by
  subst z;rcases T with t|⟨c,t,_⟩<;>(rw[hl] at t;cases t)
 have zw:X.A.in1.in1.depth<jy:=by
  have z:X.A.in1.in1.depth+3*1+5<jy:=hr.in1.in1.dp;lia
 refine d1H hc I2 (e2 l _ nP hl) hn (λH3 sm m hm u s3 Q3 E3 I3 ru k3=>?_) λl ns' H3 s3 S sm f1 l1 I3=>⟨.ref l,H3,(λJ=>J.ke λp hp=>J.pin p (eL _ (bZ _ hp))) I3,cm,q2 H3 l ns' sm f1 l1 S⟩;obtain⟨cr,_,_⟩:=I3.ck c' _ (sm c' _ U_);refine c9E I3 I3.ok.frames rfl zw hk DT kf CI UZ JX (I3.pin _ (eL _ cY)).1 cr (hb pm BE c') (fz f (.ref c') s3 H3) ru (q1 H3 sm m hm) λw H' y s' G' hp I'=>?_;obtain⟨t,rfl,ht,rfl⟩:=hp;cases G';exact k3 t s' ht I'
end
end L2
namespace L2
open PySem PySem.W
structure b9(K:fA)(mg:aC->Option aE)(x:aC)(st:aO)(f:aA)(fd:aK):Prop where
 F:df K x x st f fd
 m:mg x=fo (.ref f)
def fnJ{kV}(X:K.In h)(G:h.Ns jo mg)(a:nsIn K jo x=fo (fo (.ref f)))(l:K.lookup f=fo ⟨oc,od,.func (fnOf x x (Q4 st) (x9 st) (i9 st) .none kV dc pm an cd ct),sl⟩)(c:codeIn K cd x=true)(k:pR K (.ref f)=true):b9 K mg x st f (fnOf x x (Q4 st) (x9 st) (i9 st) .none kV dc pm an cd ct):=⟨b2i l c k,mg_of X G a⟩
structure k6(K:fA)(C:aA)(x qual:aC)(st:aO)(f:aA)(fd:aK):Prop where
 F:df K x qual st f fd
 me:Ly K C x f
def meJ{kV}(a:iI K (.ref C) x=fo (fo (.ref f)))(n:isFn K (.ref f)=true)(l:K.lookup f=fo ⟨oc,od,.func (fnOf x qual (Q4 st) (x9 st) (i9 st) .none kV dc pm an cd ct),sl⟩)(c:codeIn K cd qual=true)(k:pR K (.ref f)=true):k6 K C x qual st f (fnOf x qual (Q4 st) (x9 st) (i9 st) .none kV dc pm an cd ct):=⟨b2i l c k,a,n,k⟩
def exK(o:excIn K c [.type "ValueError",.type "Exception",.type "BaseException",.type "object"] "ValueError.__new__"=true)(ga:iI K (.ref c) "__getattribute__"=fo (fo (.builtin "BaseException.__getattribute__")))(gn:iI K (.ref c) "__getattr__"=fo fO)(ca:iI K (.ref c) "__class__"=fo (fo (.builtin "object.__class__")))(mo:gW K c (.type "object")=fo true)(mb:gW K c (.type "BaseException")=fo true):X4 K c:=⟨KO o,ga,gn,ca,mo,mb⟩
structure k7(K:fA)(mg:aC->Option aE)(x:aC)(c:aA):Prop where
 m:mg x=fo (.ref c)
 k:X4 K c
def Mx(l:K.lookup t=fo ⟨.type "tuple",od,.seq vs n,sl⟩)(hs:vs.size<=9)(hv:Vals xs vs.toList)H:cq K H t xs:=.inr ⟨_,_,_,l,cm,cm,bF hs dz,hv⟩
def kdJ(b:K.lookup d=fo ⟨.type "dict",fO,.dict es n,#[]⟩)(c:KeysLit Pm es.toList):Rr K Pm d:=⟨_,_,b,c⟩
def FZ(X:K.In h)(G:h.Ns jo mg)(a:nsIn K jo x=fo (fo (.ref d)))(b:K.lookup d=fo ⟨.type "dict",fO,.dict es n,#[]⟩)(c:KeysLit Pm es.toList)(p:bR vp es.toList td)(e:(d==nq)=false):KTab K Pm mg x d td:=⟨mg_of X G a,⟨_,_,b,c,p⟩,e⟩
def sgJ(a:nsIn K d z=fo (fo (.ref t)))(l:K.lookup t=fo ⟨.type "tuple",od,.seq vs n,sl⟩)(hs:vs.size<=9)(hv:Vals xs vs.toList):∃t,nsIn K d z=fo (fo (.ref t))/\∀H,cq K H t xs:=⟨_,a,Mx l hs hv⟩
end L2
namespace sC
open PySem L2
def P8(i:Nat):aO:=PySem.Challenge.pw_rimhouse_k34_whole_desks_altered_and_bac.main.body.getD i (.Pass ⟨0,0,0,0⟩)
abbrev VB:aO:=P8 10
abbrev VC:aO:=P8 11
abbrev VD:aO:=P8 24
abbrev VE:aO:=P8 35
abbrev S2:aO:=P8 37
abbrev X2:aO:=P8 40
abbrev LO:aO:=P8 41
abbrev VF:aO:=P8 49
abbrev VG:aO:=P8 50
abbrev VH:aO:=P8 32
abbrev VI:aO:=P8 53
abbrev LQ:aO:=P8 43
abbrev VL:aO:=P8 45
abbrev Dm:aO:=P8 47
abbrev VM:aO:=P8 90
abbrev VN:aO:=P8 91
abbrev VO:aO:=P8 93
abbrev LR:aO:=P8 94
abbrev M1:aO:=P8 107
abbrev VY:aO:=P8 12
abbrev l0:aO:=P8 13
abbrev VP:aO:=P8 19
abbrev Z9:aO:=P8 20
abbrev VQ:aO:=P8 21
abbrev W9:aO:=P8 22
abbrev VR:aO:=P8 23
abbrev VZ:aO:=P8 26
abbrev Io:aO:=P8 27
abbrev Ip:aO:=P8 28
abbrev X7:aO:=P8 30
abbrev V0:aO:=P8 31
abbrev J9:aO:=P8 33
abbrev Y1:aO:=P8 57
abbrev VS:aO:=P8 58
abbrev VT:aO:=P8 59
abbrev V1:aO:=P8 60
abbrev Z4:aO:=P8 61
abbrev Y7:aO:=P8 62
abbrev VU:aO:=P8 63
abbrev VV:aO:=P8 64
abbrev VW:aO:=P8 67
abbrev S7:aO:=P8 68
abbrev V7:aO:=P8 70
abbrev t7:aO:=P8 71
abbrev Wz:aO:=P8 76
abbrev Xa:aO:=P8 77
abbrev V_:aO:=P8 78
abbrev L6:aO:=P8 79
abbrev Xk:aO:=P8 80
abbrev V':aO:=P8 81
abbrev Wa:aO:=P8 82
abbrev Wb:aO:=P8 83
abbrev R1:aO:=P8 84
abbrev Wc:aO:=P8 85
abbrev Wd:aO:=P8 88
abbrev We:aO:=P8 95
abbrev X8:aO:=P8 96
abbrev F5:aO:=P8 97
abbrev Xl:aO:=P8 98
abbrev Wg:aO:=P8 99
abbrev U9:aO:=P8 100
abbrev Dr:aO:=P8 101
abbrev t0:aO:=P8 102
abbrev Ds:aO:=P8 103
abbrev Dt:aO:=P8 104
abbrev N1:aO:=P8 105
abbrev Du:aO:=P8 106
abbrev V3:aO:=T5 Wd 0
abbrev S4:aO:=T5 Wd 1
abbrev S5:aO:=T5 Wd 2
abbrev Kf:aO:=P8 36
abbrev Ob:aO:=T5 Kf 0
abbrev Wh:aO:=T5 Kf 1
abbrev Wi:aO:=T5 Kf 2
abbrev Wj:aO:=T5 Kf 3
abbrev W6:aO:=T5 Kf 4
abbrev Wl:aO:=T5 Kf 5
abbrev Wm:aO:=T5 Kf 6
abbrev b6I:Pos:=⟨128,32,128,64⟩
structure v8(mg:aC->Option aE):Prop where
 len:mg "len"=fO
 all:mg "all"=fO
 any:mg "any"=fO
 max:mg "max"=fO
 min:mg "min"=fO
 sum:mg "sum"=fO
 tuple:mg "tuple"=fO
 list:mg "list"=fO
 int:mg "int"=fO
 bool:mg "bool"=fO
 range:mg "range"=fO
 En:mg "isinstance"=fO
 abs:mg "abs"=fO
 zip:mg "zip"=fO
 enum:mg "enumerate"=fO
 ve:mg "ValueError"=fO
 so:mg "sorted"=fO
def c0f(K:aF):List V->Hp->VK->Prop:=λxs H Q=>s_ λp ys=>xs=[.ref p]/\(ah K H p ys\/cq K H p ys)/\Q (.int (gu ys:Int)) H
theorem b2T K(h:X.K=K):K6 X (.builtin "len") (c0f K):=by subst h;exact j6
theorem Wn K(h:X.K=K):JJ X (RW K):=by subst h;exact j5
theorem IX K{k}{pos}(h:X.K=K)(hc:X.calm=true)(hp:Lq X es t)(hn:gu (km es X.env)=n:=by rfl)(gj:(km es X.env).findIdx? (·.1)=fO:=by rfl):PG X (.Tuple es k pos) (MW K n t):=by subst h;exact K4 hc hp hn gj
def b8L(K:aF):List V->Hp->VK->Prop:=λxs H Q=>s_ λp ys=>xs=[.ref p]/\(ah K H p ys\/cq K H p ys)/\∀l,H l=fO->Q (.ref l) (upd H l (.lst ys))
theorem Wo K(h:X.K=K):K6 X (.type "list") (b8L K):=by subst h;exact C5
def vI:V->Int
 |.int i=>i
 |_=>0
theorem T0{ns:List Int}{i:Nat}(h:(ns.map sh)[i]?=fo x):∃k,x=.int k:=by
 rw[aP] at h;cases hn:ns[i]? with
 |none=>rw[hn] at h;cases h
 |some k=>rw[hn] at h;cases h;exact⟨k,cm⟩
theorem b8P{N:VK}(h:N (.bl b) H)(e:b'=b):N (.bl b') H:=by simp_all
abbrev i8:=List Int×List Int
def HS(K:aF)(H:Hp)(v:V)(h:i8):Prop:=tq λa t g=>v=.ref a/\cq K H a [.ref t,.ref g]/\cq K H t (h.1.map sh)/\cq K H g (h.2.map sh)
abbrev Bk(K:aF)(H:Hp):List V->List i8->Prop:=bR (HS K H)
theorem HS.same(e:af H H')(x:HS K H v h):HS K H' v h:=by
 obtain⟨a,t,g,h0,h1,h2,h3⟩:=x;exact⟨a,t,g,h0,e.cm h1,e.cm h2,e.cm h3⟩
def Bk.same(e:af H H')(x:Bk K H vs hs):Bk K H' vs hs:=aZ.imp' (λ_ _ r=>HS.same e r) x
theorem aZ.at:∀{tj:List α}{gi:List β},bR F tj gi->∀{i:Nat}{x},tj[i]?=fo x->∃y,gi[i]?=fo y/\F x y
 |_,_,.nil,_,_,e=>by simp at e
 |_,_,.cons r _,0,_,e=>by simp at e;subst e;exact⟨_,cm,r⟩
 |_,_,.cons _ t,i+1,x,e=>by
  obtain⟨y,h1,h2⟩:=aZ.at t (by simpa using e);exact⟨y,by simpa using h1,h2⟩
def C8(q:Nat)(S:Lp.Bo)(i:Nat):List Int:=(aW (q+1)).map (S.T i)
def R4(q:Nat)(S:Lp.Bo):List Int:=(aW q).map λj=>(S.outs j:Int)
def Y9(m:Nat)(S:Lp.Bo):List Int:=(aW m).map λi=>(S.ins i:Int)
abbrev bdF(q:Nat)(d:Int)(ca oa ia:aA):List (aC×V):=[("many",.int q),("scale",.int d),("cells",.ref ca),("outs",.ref oa),("ins",.ref ia)]
structure Bd(C:aA)(H:Hp)(p dx ca oa ia:aA)(rs:List aA)(m q:Nat)(S:Lp.Bo):Prop where
 obj:H p=fo (.ins C dx (bdF q S.d ca oa ia))
 CQ:H ca=fo (.lst (rs.map sy))
 len:gu rs=m+1
 row:∀i r,rs[i]?=fo r->H r=fo (.lst ((C8 q S i).map sh))
 out:H oa=fo (.lst ((R4 q S).map sh))
 CS:H ia=fo (.lst ((Y9 m S).map sh))
 ne:oa≠ia
structure TB(K:aF)(C:aA):Prop where
 cl:z_ K C
 nM:dg K C "many"
 nS:dg K C "scale"
 nC:dg K C "cells"
 nO:dg K C "outs"
 nI:dg K C "ins"
theorem Bd.yk(B:Bd C H p dx ca oa ia rs m q S)(h:i<m+1):∃r,rs[i]?=fo r/\U7 (rs.map sy) (i:Int)=fo (.ref r):=by
 have h':i<gu rs:=by rw[B.len];exact h
 refine⟨rs[i],aS h',A2 ?_⟩;rw[aP,aS h'];rfl
theorem LS{j:Nat}(h:j<q+1):U7 ((C8 q S i).map sh) (j:Int)=fo (.int (S.T i j)):=A2 (by
 unfold C8;rw[aP,aP,cU h];rfl)
theorem b0h(hl:gu xs=n+1)(h:xs[n]?=fo v):U7 xs (-1)=fo v:=by
 have e:Bz (gu xs) (-1)=fo n:=by
  unfold Bz;rw[hl,qf dz,qg dj];congr 1;lia
 unfold U7;rw[e];exact h
theorem QX:U7 ((C8 q S i).map sh) (-1)=fo (.int (S.T i q)):=b0h (n:=q) (by unfold C8;simp) (by
 unfold C8;rw[aP,aP,cU (jJ _)];rfl)
theorem Bd.wo(B:Bd C H p dx ca oa ia rs m q S):∃r,rs[m]?=fo r/\U7 (rs.map sy) (-1)=fo (.ref r):=by
 have h':m<gu rs:=by rw[B.len];exact jJ _
 refine⟨rs[m],aS h',b0h (by simpa using B.len) ?_⟩;rw[aP,aS h'];rfl
theorem QY(h:i<m):U7 ((Y9 m S).map sh) (i:Int)=fo (.int (S.ins i)):=A2 (by
 unfold Y9;rw[aP,aP,cU h];rfl)
theorem Wq(h:j<q):U7 ((R4 q S).map sh) (j:Int)=fo (.int (S.outs j)):=A2 (by
 unfold R4;rw[aP,aP,cU h];rfl)
def Bd.fg{P:aA}(B:Bd C H p dx ca oa ia rs m q S)(e:∀b o,H b=fo o->(∀ps,o≠.my ps)->H' b=fo o):Bd C H' p dx ca oa ia rs m q S :=
 ⟨e _ _ B.obj λ_=>nofun,e _ _ B.CQ λ_=>nofun,B.len,λi r h=>e _ _ (B.row i r h) λ_=>nofun,e _ _ B.out λ_=>nofun,e _ _ B.CS λ_=>nofun,B.ne⟩
def Sz(n m q:Nat)(S:Lp.Bo):Prop:=(∀i j,i<m+1->j<q+1->fh n (S.T i j))/\fh n S.d
def b2C(h:fh a x)(yh:a<=b):fh b x:=bS h (lG dz yh)
def LU(q:Nat)(S:Lp.Bo)(i o c:Nat):Bool:=if S.T i q*S.T o c=S.T o q*S.T i c then decide (S.ins i<S.ins o) else decide (S.T i q*S.T o c<S.T o q*S.T i c)
inductive Xm(C:aA)(vs:List V)(H:Hp)(Q:VK)(sH:XK):Prop|mk:∀(p dx ca oa ia:aA)(rs:List aA)(m q:Nat)(S:Lp.Bo)(i o c:Nat),vs=[.ref p,.int i,.int o,.int c]->Bd C H p dx ca oa ia rs m q S->Sz 4000 m q S->i<m->o<m->c<q+1->Q (.bl (LU q S i o c)) H->Xm C vs H Q sH
def wq:p7 ["self","row","other","column","left","right"] ["self","row","other","column"] (i9 Wj):=⟨cm,cm,cm,de,cm,de,de⟩
theorem b2r(F:df K "is_ahead" "Board.is_ahead" Wj f fd)(T:TB K C):bf P w K mg base J8 (n+1) f fd ["self","row","other","column"] (Xm C):=by
 refine F.oa wq λay A outer s H vs Q E hr h=>?_;obtain⟨p,dx,ca,oa,ia,rs,m,q,S,i,o,c,rfl,B,hz,hi,ho,hc,k⟩:=h;refine⟨_,j0 (r6 (i:=4) wq.nd rfl (aI rfl) (j8 Qr (l8 j5 (l8 j5 (y4 (pv 0) rfl) (pv 1) (λ_ _=>rfl)) (Eh V2 d0) (λ_ _=>rfl)) (l8 j5 (l8 j5 (y4 (pv 0) rfl) (pv 2) (λ_ _=>rfl)) (pv 3) (λ_ _=>rfl))))
  (j0 (r6 (i:=5) wq.nd rfl (aI rfl) (j8 Qr (l8 j5 (l8 j5 (y4 (pv 0) rfl) (pv 2) (λ_ _=>rfl)) (Eh V2 d0) (λ_ _=>rfl)) (l8 j5 (l8 j5 (y4 (pv 0) rfl) (pv 1) (λ_ _=>rfl)) (pv 3) (λ_ _=>rfl))))
  (j0 (w6 (l5 E6 (pv 4) (pv 5) (r9 _)) (j4 (o4 (Z3 EI (l8 j5 (y4 (pv 0) rfl) (pv 1) (λ_ _=>rfl)) (l8 j5 (y4 (pv 0) rfl) (pv 2) (λ_ _=>rfl)) (r9 _)))) r8)
  (j4 (o4 (Z3 EI (pv 4) (pv 5) (r9 _)))))),?_⟩
 obtain⟨ri,ei,ai⟩:=B.yk (i:=i) dj;obtain⟨ro,eo,ao⟩:=B.yk (i:=o) dj;have bi:=ah.of (K:=K) (B.row i ri ei);have bo:=ah.of (K:=K) (B.row o ro eo);have z:∀i j,i<m+1->j<q+1->fh 1000000 (S.T i j):=λi j h1 h2=>b2C (hz.1 i j h1 h2) dz;refine⟨_,cm,p,C,dx,_,_,cm,B.obj,T.cl,T.nC,cm,_,cm,ca,_,_,_,cm,cm,ah.of B.CQ,ai,_,cm,ri,_,_,_,cm,cm,bi,QX,_,cm,p,C,dx,_,_,cm,B.obj,T.cl,T.nC,cm,_,cm,ca,_,_,_,cm,cm,ah.of B.CQ,ao,_,cm,ro,_,_,_,cm,cm,bo,LS hc,_,_,cm,cm,⟨z _ _ dj dj,z _ _ dj dj⟩,_,cm,p,C,dx,_,_,cm,B.obj,T.cl,T.nC,cm,_,cm,ca,_,_,_,cm,cm,ah.of B.CQ,ao,_,cm,ro,_,_,_,cm,cm,bo,QX,_,cm,p,C,dx,_,_,cm,B.obj,T.cl,T.nC,cm,_,cm,ca,_,_,_,cm,cm,ah.of B.CQ,ai,_,cm,ri,_,_,_,cm,cm,bi,LS hc,_,_,cm,cm,⟨z _ _ dj dj,z _ _ dj dj⟩,_,cm,_,cm,cm,_,cm,?_⟩;unfold LU at k;refine y6 (λe=>?_) (λe=>?_)
 .have e':S.T i q*S.T o c=S.T o q*S.T i c:=by simpa using e
  rw[qg e'] at k;refine⟨_,cm,p,C,dx,_,_,cm,B.obj,T.cl,T.nI,cm,_,cm,ia,_,_,_,cm,cm,ah.of B.CS,QY hi,_,cm,p,C,dx,_,_,cm,B.obj,T.cl,T.nI,cm,_,cm,ia,_,_,_,cm,cm,ah.of B.CS,QY ho,_,_,cm,cm,b8P k ?_⟩;simp
 .have e':¬S.T i q*S.T o c=S.T o q*S.T i c:=by simpa using e
  rw[qf e'] at k;exact⟨_,cm,_,cm,_,_,cm,cm,k⟩
structure LV(P:aM)(w:aL)(K:aF)(mg:aC->Option aE)(base:aJ)(n:Nat)(C:aA)(m:aC)(ps:List aC)(sp:Sp)(f:aA)(fd:aK):Prop where
 ok:bf P w K mg base J8 n f fd ps sp
 bd:Binds K fd ps []
 me:Ly K C m f
def Hw(q:Nat)(S:Lp.Bo)(c r i:Nat):Prop:=S.T r q*S.T i c<=S.T i q*S.T r c/\(S.T r q*S.T i c=S.T i q*S.T r c->S.ins r<=S.ins i)
theorem b0E{ci:Int}(h1:ar*cb<=ab*cr)(h2:ab*ci<=ai*cb)(pr:0<cr)(pb:0<cb)(pi:0<ci):ar*ci<=ai*cr/\(ar*ci=ai*cr->ar*cb=ab*cr/\ab*ci=ai*cb):=by
 have e1:=fH h1 (cC pi);have e2:=fH h2 (cC pr);have x1:ar*cb*ci=ar*ci*cb:=by grind
 have x2:ab*cr*ci=ab*ci*cr:=by grind
 have x3:ai*cb*cr=ai*cr*cb:=by grind
 rw[x1] at e1;rw[x3] at e2;refine⟨Int.le_of_mul_le_mul_right dj pb,λe=>?_⟩;rw[e] at e1;refine⟨Int.eq_of_mul_eq_mul_right (a:=ci) dj (by rw[x1,e];omega),rW (a:=cr) dj (by rw[x3];omega)⟩
theorem Hw.trans(h1:Hw q S c r b)(h2:Hw q S c b i)(pr:0<S.T r c)(pb:0<S.T b c)(pi:0<S.T i c):Hw q S c r i:=by
 obtain⟨a,t⟩:=b0E h1.1 h2.1 pr pb pi;exact⟨a,λe=>bF (h1.2 (t e).1) (h2.2 (t e).2)⟩
theorem b0G(h:LU q S r b c=true):Hw q S c r b:=by
 unfold LU at h;by_cases e:S.T r q*S.T b c=S.T b q*S.T r c
 .rw[qg e] at h;exact⟨Int.le_of_eq e,λ_=>gQ (qh h)⟩
 .rw[qf e] at h;have:=qh h;exact⟨Int.le_of_lt this,λz=>absurd z e⟩
theorem b4T(h:LU q S r b c=false):Hw q S c b r:=by
 unfold LU at h;by_cases e:S.T r q*S.T b c=S.T b q*S.T r c
 .rw[qg e] at h;exact⟨Int.le_of_eq e.symm,λ_=>uV (ql h)⟩
 .rw[qf e] at h;have:=ql h;exact⟨dj,λz=>absurd z.symm e⟩
inductive Xn(C:aA)(vs:List V)(H:Hp)(Q:VK)(sH:XK):Prop|mk:∀(p dx ca oa ia:aA)(rs:List aA)(m q:Nat)(S:Lp.Bo)(c:Nat),vs=[.ref p,.int c]->Bd C H p dx ca oa ia rs m q S->Sz 4000 m q S->m<1000->c<q+1->((∀i,i<m->¬0<S.T i c)->Q .non H)->(∀r,r<m->0<S.T r c->(∀i,i<m->0<S.T i c->Hw q S c r i)->Q (.int r) H)->Xn C vs H Q sH
def qr:p7 ["self","column","best","row"] ["self","column"] (i9 Wi):=⟨cm,cm,cm,de,cm,de,de⟩
theorem b2X(F:df K "going" "Board.going" Wi f fd)(N:v8 mg)(T:TB K C)(A1:LV P w K mg base n C "is_ahead" ["self","row","other","column"] (Xm C) g gd):bf P w K mg base J8 (n+1) f fd ["self","column"] (Xn C):=by
 refine F.oa qr λay A outer s H vs Q E hr h=>?_;obtain⟨p,dx,ca,oa,ia,rs,m,q,S,c,rfl,B,hz,hm,hc,kN,kI⟩:=h;refine⟨_,j0 (r6 (i:=2) qr.nd rfl (aI rfl) D5)
  (j0 (IF hO rfl (R8 rfl N.range (c6 (j7 j6 rfl N.len bB (c6 (y4 (pv 0) rfl) c7)) c7)) (j9 (i:=3) qr.nd rfl (aI rfl))
   (j4 (w6 (PW.pt (Gv (l5 Ej (l8 j5 (l8 j5 (y4 (pv 0) rfl) (pv 3) (λ_ _=>rfl)) (pv 1) (λ_ _=>rfl)) d0 (r9 _))
     (T4 (PW.pt (U0 (l5 Lv (pv 2) D5 (r9 _)) (R9 (X6 (TQ (pv 0) T.cl A1.me A1.ok hr A1.bd .nil v6 (c6 (pv 3) (c6 (pv 2) (c6 (pv 1) c7)))))))))))
    (j4 (r6 (i:=2) qr.nd rfl (aI rfl) (pv 3))) r8)))
  (j4 (o4 (pv 2)))),?_⟩
 have lm:gu ((Y9 m S).map sh)=m:=by unfold Y9;simp
 refine⟨_,cm,p,C,dx,_,_,cm,B.obj,T.cl,T.nI,cm,ia,_,cm,.inl (ah.of B.CS),_,cm,(by rw[lm];lia),(by rw[lm];lia),?_⟩;rw[lm,cF];refine PZ (n:=m) (λk σ H'=>s_ λ(b o3:Option V)=>σ=[fo (.ref p),fo (.int c),b,o3]/\H'=H/\((b=fo .non/\∀i,i<k->¬0<S.T i c)\/∃r:Nat,b=fo (.int r)/\r<k/\0<S.T r c/\∀i,i<k->0<S.T i c->Hw q S c r i))
  ⟨_,_,cm,cm,.inl ⟨cm,λi hi=>absurd hi (xC _)⟩⟩ (λk σ H' hk hP=>?_) λσ H' hP=>?_
 .obtain⟨b,o3,rfl,rfl,hb⟩:=hP;obtain⟨rk,ek,ak⟩:=B.yk (i:=k) dj;rw[lH _];refine⟨_,cm,p,C,dx,_,_,cm,B.obj,T.cl,T.nC,cm,_,cm,ca,_,_,_,cm,cm,ah.of B.CQ,ak,_,cm,rk,_,_,_,cm,cm,ah.of (B.row k rk ek),LS hc,_,_,cm,cm,_,cm,?_⟩;have keep:¬0<S.T k c->((b=fo .non/\∀i,i<k+1->¬0<S.T i c)\/∃r:Nat,b=fo (.int r)/\r<k+1/\0<S.T r c/\∀i,i<k+1->0<S.T i c->Hw q S c r i):=λhn=>by
   rcases hb with⟨e,hb⟩|⟨r,e,h1,h2,h3⟩
   .refine .inl ⟨e,λi hi=>?_⟩;by_cases z:i=k
    .subst z;exact hn
    .exact hb i dj
   .refine .inr ⟨r,e,dj,h2,λi hi hp=>?_⟩;by_cases z:i=k
    .subst z;exact absurd hp hn
    .exact h3 i dj hp
  refine y6 (λd=>?_) (λd=>⟨_,_,cm,cm,keep (λz=>d (qk z))⟩)
  .have d':0<S.T k c:=qh d;rcases hb with⟨rfl,hb⟩|⟨r,rfl,h1,h2,h3⟩
   .refine⟨_,cm,cm,_,cm,y6 (λ_=>(J3 ⟨_,cm,⟨_,_,cm,cm,.inr ⟨k,cm,dj,d',λi hi hp=>?_⟩⟩⟩)) (λz=>absurd (qk rfl) z)⟩;by_cases z:i=k
    .subst z;exact⟨Int.le_refl _,λ_=>aT _⟩
    .exact absurd hp (hb i dj)
   .refine⟨_,cm,cm,_,cm,y6 (λz=>absurd (qh z) (by nofun)) (λ_=>⟨_,cm,p,dx,_,cm,B.obj,cm,_,cm,_,cm,_,cm,p,dx,ca,oa,ia,rs,m,q,S,k,r,c,cm,B,hz,hk,dj,hc,_,cm,y6 (λe=>?_) (λe=>?_)⟩)⟩
    .refine⟨_,cm,⟨_,_,cm,cm,.inr ⟨k,cm,dj,d',λi hi hp=>?_⟩⟩⟩;by_cases z:i=k
     .subst z;exact⟨Int.le_refl _,λ_=>aT _⟩
     .exact(b0G e).trans (h3 i dj hp) d' h2 hp
    .refine⟨_,_,cm,cm,.inr ⟨r,cm,dj,h2,λi hi hp=>?_⟩⟩;by_cases z:i=k
     .subst z;exact(b4T (eN.mpr e))
     .exact h3 i dj hp
 .obtain⟨b,o3,rfl,rfl,hb⟩:=hP;rcases hb with⟨rfl,hb⟩|⟨r,rfl,h1,h2,h3⟩
  .exact⟨_,cm,kN hb⟩
  .exact⟨_,cm,kI r h1 h2 h3⟩
abbrev c0q:aC:=("Board.coming"++".<locals>.")++"<lambda>"
abbrev LT(Pt:aA)(H:Hp):Prop:=cu Pt b6I c0q H
inductive Wr(C Pt:aA)(vs:List V)(H:Hp)(Q:VK)(sH:XK):Prop|mk:∀p dx ca oa ia rs m q S,vs=[.ref p]->Bd C H p dx ca oa ia rs m q S->q<1000->LT Pt H->(∀H',bj Pt H H'->LT Pt H'->((∀j,j<q->¬S.T m j<0)->Q .non H')/\∀j,j<q->S.T m j<0->(∀i,i<q->S.T m i<0->S.outs j<=S.outs i)->Q (.int j) H')->Wr C Pt vs H Q sH
def yl:p7 ["self","columns"] ["self"] (i9 Wh):=⟨cm,cm,cm,de,cm,de,de⟩
def b9J:(["column","self"]:List aC).Nodup:=dz
theorem cu.new(T:cu Pt pos qual H)(h:H a=fO):cu Pt pos qual (upd H a o):=T.same λb u e=>by rw[j3 (i7 e h)];exact e
def LW(q:Nat)(S:Lp.Bo)(m:Nat):List Int:=((aW q).filter λj=>decide (S.T m j<0)).map λ(j:Nat)=>(j:Int)
theorem b1Y:((aW q).map λ(i:Nat)=>sh (0+(i:Int))).filter (λv=>decide (S.T m (vI v).toNat<0))=(LW q S m).map sh:=by
 unfold LW;rw[List.filter_map,bC];have e:((λv=>decide (S.T m (vI v).toNat<0))∘λ(i:Nat)=>sh (0+(i:Int)))=λj=>decide (S.T m j<0):=by
  funext j;show decide (S.T m (vI (sh (0+(j:Int)))).toNat<0)=_;rw[show(vI (sh (0+(j:Int)))).toNat=j from by simp[vI]]
 rw[e];refine fM λj _=>?_;simp
theorem Bd.lam(B:Bd C H p dx ca oa ia rs m q S)(T:LT Pt H)(e:bj Pt H H'):Bd C H' p dx ca oa ia rs m q S:=by
 refine B.fg (P:=Pt) λb o q n=>e b o (λz=>?_) q;subst z;rcases T with t|⟨c,t,_⟩
 .rw[q] at t;exact n _ (bD t)
 .rw[q] at t;exact n _ (bD t)
theorem b0B(F:df K "coming" "Board.coming" Wh f fd)(vm:fd.code=.ref c)(CH:oV base c Pt)(BM:QO mg base)(N:v8 mg)(T:TB K C):bf P w K mg base J8 (n+3) f fd ["self"] (Wr C Pt):=by
 refine F.okC vm yl (λvs H Q E h=>?_) λA outer s H vs Q E hr h=>?_
 .obtain⟨p,dx,ca,oa,ia,rs,m,q,S,rfl,_⟩:=h;rfl
 obtain⟨p,dx,ca,oa,ia,rs,m,q,S,rfl,B,hq,L,k⟩:=h;refine⟨_,j0 (b2o (i:=1) ["column"] [0] yl.nd rfl rfl rfl (R8 rfl N.range (c6 (y4 (pv 0) rfl) c7)) (λ_ _ _ _=>j9 (i:=0) b9J rfl (aI rfl))
   (λ_ _ _ _=>l5 EI (l8 (Wn K rfl) (l8 (Wn K rfl) (Vf K rfl (pv 1) rfl) (Eh V2 d0) (λ_ _=>rfl)) (pv 0) (λ_ _=>rfl)) d0 (r9 _))
   (λ_ _ _ _=>pv 0))
  (j4 (o4 (b0V (col:="column") (fr:=[0]) (c:=c) (P:=Pt) rfl (hr.mono dj) rfl N.min rfl CH BM rfl rfl de rfl rfl rfl (λ_ _ _ _=>rfl) (c6 (pv 1) c7)
   (λ_ _ _ _=>l8 (Wn K rfl) (Vf K rfl (pv 1) rfl) (pv 0) (λ_ _=>rfl))))),?_⟩
 refine⟨_,cm,p,C,dx,_,_,cm,B.obj,T.cl,T.nM,cm,_,cm,dj,dj,?_⟩;rw[cF];intro l hl;obtain⟨rm,em,am⟩:=B.wo;refine Vg a4p hl (by rw[aH,gZ];exact t9 dj) (λv=>decide (S.T m (vI v).toNat<0)) (λi x H' N' hx e hN=>?_) ?_
 .have f':x=.int (i:Int)/\i<q:=by
   rw[aP] at hx;by_cases hi:i<q
   .rw[cU hi] at hx;refine⟨?_,hi⟩;have:=bD hx;rw[<-this];simp
   .rw[bW (by simp;lia)] at hx;cases hx
  obtain⟨rfl,hi⟩:=f';have e':∀b o,H b=fo o->H' b=fo o:=λb o z=>e b o z;refine⟨_,cm,p,C,dx,_,_,cm,e' _ _ B.obj,T.cl,T.nC,cm,_,cm,ca,_,_,_,cm,cm,ah.of (e' _ _ B.CQ),am,_,cm,rm,_,_,_,cm,cm,ah.of (e' _ _ (B.row m rm em)),LS dj,_,_,cm,cm,_,cm,?_⟩;have ev:decide (S.T m (vI (sh (i:Int))).toNat<0)=decide (S.T m i<0):=by rw[show(vI (sh (i:Int))).toNat=i from by simp[vI]]
  rw[ev] at hN;exact hN
 rw[b1Y];have LX:LT Pt (upd H l (.lst ((LW q S m).map sh))):=cu.new L hl;have B2:Bd C (upd H l (.lst ((LW q S m).map sh))) p dx ca oa ia rs m q S:=B.fg (P:=Pt) λb o z _=>by rw[j3 (i7 z hl)];exact z
 have mem:∀x:Int,x∈LW q S m ↔ ∃j:Nat,x=(j:Int)/\j<q/\S.T m j<0:=λx=>by
  unfold LW;rw[aY];constructor
  .rintro⟨j,hj,rfl⟩;rw[lI,fF] at hj;exact⟨j,cm,hj.1,qh hj.2⟩
  .rintro⟨j,rfl,h1,h2⟩;exact⟨j,by rw[lI,fF];exact⟨h1,qk h2⟩,cm⟩
 refine⟨_,cm,l,_,λx=>(S.outs x.toNat:Int),cm,ah.of ae,LX,λH2 e2 L3=>?_⟩;have B3:=B2.lam LX e2;have e3:bj Pt H H2:=λb o hb z=>e2 b o hb (by rw[j3 (i7 z hl)];exact z);obtain⟨k1,k2⟩:=k H2 e3 L3;refine⟨λx hx=>?_,λen=>k1 λj hj hn=>?_,λM hM Ax=>?_⟩
 .obtain⟨j,rfl,hj,hn⟩:=(mem x).mp hx;exact⟨_,cm,p,C,dx,_,_,cm,B3.obj,T.cl,T.nO,cm,_,cm,oa,_,_,_,cm,cm,ah.of B3.out,Wq hj,fg,cm⟩
 .have:=(mem (j:Int)).mpr ⟨j,cm,hj,hn⟩;rw[en] at this;cases this
 .obtain⟨j,rfl,hj,hn⟩:=(mem M).mp hM;refine k2 j hj hn λi hi hni=>?_;have:=Ax (i:Int) ((mem _).mpr ⟨i,cm,hi,hni⟩);simpa using this
def Kg(xs ys:List Int)(c:Nat)(d:Int):List Int:=(cV (λx y=>(x*ys.getD c 0-xs.getD c 0*y)/d) xs ys).set c (-(xs.getD c 0))
theorem a7D{ns:List Int}(h:i<gu ns):U7 (ns.map sh) (i:Int)=fo (.int (ns.getD i 0)):=A2 (by
 rw[aP,aS h,bA,aS h];rfl)
theorem LY{ns:List Int}{i:Nat}(h:(ns.map sh)[i]?=fo x):∃k,x=.int k/\k∈ns:=by
 rw[aP] at h;cases hn:ns[i]? with
 |none=>rw[hn] at h;cases h
 |some k=>rw[hn] at h;cases h;exact⟨k,cm,bK hn⟩
theorem a9h(F:V->V->V)(G:Int->Int->Int)(h:∀a b,F (.int a) (.int b)=.int (G a b)):∀xs ys,cV F (xs.map sh) (ys.map sh)=(cV G xs ys).map sh
 |[],_=>fg
 |_::_,[]=>fg
 |x::xs,y::ys=>by simp[h,a9h F G h xs ys]
theorem a5r{ns:List Int}(h:i<gu ns):ns.getD i 0∈ns:=by simp_all
inductive Ws(K:aF)(vs:List V)(H:Hp)(Q:VK)(sH:XK):Prop|mk:∀(a b:aA)(c:Nat)(d:Int)(xs ys:List Int),vs=[.ref a,.ref b,.int c,.int d]->ah K H a (xs.map sh)->ah K H b (ys.map sh)->gu xs=gu ys->gu xs<=1000->c<gu xs->0<d->fh 4000 d->(∀x∈xs,fh 4000 x)->(∀y∈ys,fh 4000 y)->(∀r H',af H H'->H r=fO->H' r=fo (.lst ((Kg xs ys c d).map sh))->Q (.ref r) H')->Ws K vs H Q sH
def qt:p7 ["cells","lead","column","scale","factor","pivot","fresh"] ["cells","lead","column","scale"] (i9 VE):=⟨cm,cm,cm,de,cm,de,de⟩
def b8X:(["cell","other","scale","factor","pivot"]:List aC).Nodup:=dz
theorem b1w(F:Ay K "swept" VE f fd)(N:v8 mg):bf P w K mg base J8 (n+1) f fd ["cells","lead","column","scale"] (Ws K):=by
 refine F.oa qt λay A outer s H vs Q E hr h=>?_;obtain⟨a,b,c,d,xs,ys,rfl,ha,hb,hl,hz,hc,hd,hD,hx,hy,k⟩:=h;refine⟨_,j0 (r6 (i:=4) qt.nd rfl (fY rfl) (l8 j5 (pv 0) (pv 2) (λ_ _=>rfl)))
  (j0 (r6 (i:=5) qt.nd rfl (fY rfl) (l8 j5 (pv 1) (pv 2) (λ_ _=>rfl)))
  (j0 (CA (i:=6) ["cell","other"] [3,4,5] qt.nd rfl rfl rfl (QI true true K rfl rfl N.zip (c6 (pv 0) (c6 (pv 1) c7)))
   (λ_ _ _ _=>IX K (n:=2) rfl rfl (p6 (j9 (i:=0) b8X rfl (aI rfl)) (p6 (j9 (i:=1) b8X rfl (aI rfl)) A4)))
   (λ_ _ _ _=>j8 UA (j8 IH (j8 Qr (pv 0) (pv 4)) (j8 Qr (pv 3) (pv 1))) (pv 2)))
  (j0 (D3 (Eh V2 (pv 4)) (Gy (pv 6) (pv 2) O1))
  (j4 (o4 (pv 6)))))),?_⟩
 have Aq:c<gu ys:=dj;refine⟨_,cm,_,cm,a,_,_,_,cm,cm,ha,a7D hc,_,cm,_,cm,b,_,_,_,cm,cm,hb,a7D Aq,_,cm,_,cm,a,b,cm,⟨_,ha⟩,⟨_,hb⟩,λl jl=>?_⟩;have up:∀{x},fh 4000 x->fh 1000000 x:=λh=>b2C h dz;refine b9k ha hb jl (by rw[aH];exact t9 hz) (λu v=>.int ((vI u*ys.getD c 0-xs.getD c 0*vI v)/d)) (λi u v H' N' hu hv e hN=>?_) (λH' e hH=>?_)
 .obtain⟨x,rfl,Eo⟩:=LY hu;obtain⟨y,rfl,hym⟩:=LY hv;have dl:d<2^8000:=by
   have h2:(2:Nat)^4000<=2^8000:=lG dz dz;have h3:d=(d.natAbs:Int):=dj;rw[h3]
   exact_mod_cast bS hD h2
  refine⟨_,cm,_,cm,_,_,cm,cm,⟨up (hx _ Eo),up (hy _ (a5r Aq))⟩,_,cm,_,cm,_,_,cm,cm,⟨up (hx _ (a5r hc)),up (hy _ hym)⟩,_,_,cm,cm,_,cm,_,_,cm,cm,⟨hd,dl⟩,hN⟩
 .rw[a9h _ (λx y=>(x*ys.getD c 0-xs.getD c 0*y)/d) (λ_ _=>rfl)] at hH;refine⟨_,cm,_,cm,_,cm,_,cm,l,_,_,c,cm,cm,hH,?_,?_⟩
  .unfold Bz;rw[aH,jS,qg dj,qg dj,cF]
  .refine⟨_,cm,k l _ ?_ jl ?_⟩
   .exact λb' o q=>by rw[j3 (i7 q jl)];exact e b' o q
   .rw[ae];unfold Kg;rw[<-rZ]
structure C9(P:aM)(w:aL)(K:aF)(mg:aC->Option aE)(base:aJ)(n:Nat)(x:aC)(ps:List aC)(sp:Sp)(fa:aA)(d:aK):Prop where
 ok:bf P w K mg base J8 n fa d ps sp
 b:Binds K d ps []
 k:dX K (.ref fa)=true
 m:mg x=fo (.ref fa)
def C9.c{X:Cx}(C:C9 X.prog X.w X.K X.mg X.base j x ps sp f fd)(hr:b_ j X.A)(ha:PA X (e::es) t)(hg:Gl X x:=by exact rfl)(hd:(x==("__debug__":aC))=false:=by decide)(he:jh (e::es) X.env=(false,eval e X.env)::jh es X.env:=by rfl)(hp:(jv pos (jh es X.env)).any (·.1)=false:=by rfl):PE X (.Call (.Name x p) (e::es) [] pos) (Qf sp [] E0 t):=l7 C.ok hr hg C.m C.k C.b .nil v6 ha hd he hp
theorem K8:gu (C8 q S i)=q+1:=by unfold C8;simp
theorem a5h(h:j<q+1):(C8 q S i).getD j 0=S.T i j:=by
 unfold C8;rw[bA,aP,cU h];rfl
theorem b0N(hi:i≠r)(hc:c<q):Kg (C8 q S i) (C8 q S r) c S.d=C8 q (Lp.fe S r c) i:=by
 refine dR λj=>?_;unfold Kg;by_cases hj:j<q+1
 .rw[a5h dj,a5h dj];have e:(C8 q (Lp.fe S r c) i)[j]?=fo ((Lp.fe S r c).T i j):=by unfold C8;rw[aP,cU hj];rfl
  have hT:(Lp.fe S r c).T i j=if j=c then-S.T i c else (S.T i j*S.T r c-S.T i c*S.T r j)/S.d:=by
   show(if i=r then _ else _)=_;rw[qf hi]
  rw[e,hT];by_cases wj:j=c
  .subst wj;rw[eK (by rw[jS,K8,K8];lia),qg rfl]
  .rw[dP (bV wj),mX,qf wj];unfold C8;rw[aP,aP,cU hj];rfl
 .rw[bW (by rw[eE,jS,K8,K8];lia),bW (by rw[K8];lia)]
theorem b3n(hc:c<q):(((C8 q S r).map sh).take c++[sh S.d])++((C8 q S r).map sh).drop (c+1)=(C8 q (Lp.fe S r c) r).map sh:=by
 have hT:∀j,(Lp.fe S r c).T r j=if j=c then S.d else S.T r j:=λj=>by
  show(if r=r then _ else _)=_;rw[qg rfl]
 have hl:gu ((C8 q S r).map sh)=q+1:=by rw[aH,K8]
 refine dR λj=>?_;by_cases hj:j<q+1
 .have e:((C8 q (Lp.fe S r c) r).map sh)[j]?=fo (.int (if j=c then S.d else S.T r j)):=by
   rw[aP];unfold C8;rw[aP,cU hj,<-hT];rfl
  have e0:((C8 q S r).map sh)[j]?=fo (.int (S.T r j)):=by
   rw[aP];unfold C8;rw[aP,cU hj];rfl
  rw[e];have lt:gu (((C8 q S r).map sh).take c)=c:=by rw[cI,hl];lia
  by_cases h1:j<c
  .rw[dH (by rw[aX,lt];lia),dH dj,tM h1,e0,qf dj]
  .by_cases h2:j=c
   .subst h2;rw[dH (by simp_all),dU dj,lt,gL,qg rfl];rfl
   .rw[dU (by rw[aX,lt];simp;lia),aX,lt,wW,qf h2];have:c+1+(j-(c+[sh S.d].length))=j:=by simp;lia
    rw[this,e0]
 .rw[bW (by rw[aX,aX,cI,eJ,hl];simp;lia),bW (by rw[aH,K8];lia)]
theorem b4t(hr:r<m):((Y9 m S).map sh).set r (.int (S.outs c))=(Y9 m (Lp.fe S r c)).map sh:=by
 refine dR λj=>?_;have hT:(Lp.fe S r c).ins j=if j=r then S.outs c else S.ins j:=rfl
 by_cases hj:j<m
 .have e:((Y9 m (Lp.fe S r c)).map sh)[j]?=fo (.int ((if j=r then S.outs c else S.ins j:Nat))):=by
   rw[aP];unfold Y9;rw[aP,cU hj,<-hT];rfl
  rw[e];by_cases h:j=r
  .subst h;rw[eK (by unfold Y9;simp;lia),qg rfl]
  .rw[dP (bV h),qf h,aP];unfold Y9;rw[aP,cU hj];rfl
 .rw[bW (by unfold Y9;simp;lia),bW (by unfold Y9;simp;lia)]
theorem b1A(hc:c<q):((R4 q S).map sh).set c (.int (S.ins r))=(R4 q (Lp.fe S r c)).map sh:=by
 refine dR λj=>?_;have hT:(Lp.fe S r c).outs j=if j=c then S.ins r else S.outs j:=rfl
 by_cases hj:j<q
 .have e:((R4 q (Lp.fe S r c)).map sh)[j]?=fo (.int ((if j=c then S.ins r else S.outs j:Nat))):=by
   rw[aP];unfold R4;rw[aP,cU hj,<-hT];rfl
  rw[e];by_cases h:j=c
  .subst h;rw[eK (by unfold R4;simp;lia),qg rfl]
  .rw[dP (bV h),qf h,aP];unfold R4;rw[aP,cU hj];rfl
 .rw[bW (by unfold R4;simp;lia),bW (by unfold R4;simp;lia)]
theorem LZ(h:i<n):Bz n (i:Int)=fo i:=by
 unfold Bz;rw[qg dj,qg dj,cF]
section
variable{P:aM}{w:aL}{K:aF}{mg:aC->Option aE}{base:aJ}{f g c Pt:aA}{fd gd:aK}{n:Nat}{C:aA}
inductive Xo(C:aA)(vs:List V)(H:Hp)(Q:VK)(sH:XK):Prop|mk:∀(p dx ca oa ia:aA)(rs:List aA)(m q:Nat)(S:Lp.Bo)(r c:Nat),vs=[.ref p,.int r,.int c]->Bd C H p dx ca oa ia rs m q S->Sz 4000 m q S->r<m->c<q->m<900->q<900->0<S.d->(∀H' Wt mq,Bd C H' p dx Wt oa ia mq m q (Lp.fe S r c)->(∀b o,b≠p->b≠oa->b≠ia->H b=fo o->H' b=fo o)->Q .non H')->Xo C vs H Q sH
def Kh:p7 ["self","row","column","lead","pivot"] ["self","row","column"] (i9 W6):=⟨cm,cm,cm,de,cm,de,de⟩
def c0w:(["cells","self","column","lead"]:List aC).Nodup:=dz
def exT{fb:aA}{db:aK}(Cs:C9 P w K mg base n "swept" ["cells","lead","column","scale"] (Ws K) fb db)
  (hr:b_ n (A.deeper (cD "Board.exchange" (i9 W6) s.heap.objs.size f ay))) :
  {t:TS//fu (N8 J8 P w K mg base ["self","row","column","lead","pivot"] "Board.exchange" (i9 W6) f ay A outer s H E).oi (x9 W6) t} :=
 ⟨_,j0 (r6 (i:=3) Kh.nd rfl (fY rfl) (l8 j5 (y4 (pv 0) rfl) (pv 1) λ_ _=>rfl))
  (j0 (r6 (i:=4) Kh.nd rfl (aI rfl) (l8 j5 (pv 3) (pv 2) (λ_ _=>rfl)))
  (t8 (GA (pv 0) (N6 ["cells"] [0,2,3] rfl (C6 (y4 (pv 0) rfl)) (λ_ _ _ _=>j9 (i:=0) c0w rfl (aI rfl))
   (λ_ _ _ _=>Cs.c hr (c6 (pv 0) (c6 (pv 3) (c6 (pv 2) (c6 (Vf K rfl (pv 1) rfl) c7)))))) rfl)
  (j0 (D3 (j8 B9 (j8 B9 (B7 M0 (pv 3) G1 (B8 (pv 2))) (v9 (c6 (y4 (pv 0) rfl) c7))) (B7 M0 (pv 3) (B8 (j8 D4 (pv 2) d0)) G1)) (Gy (y4 (pv 0) rfl) (pv 1) O1))
  (j0 (GA (pv 0) (pv 4) rfl)
  (j4 (D3 (A9 (c6 (l8 j5 (y4 (pv 0) rfl) (pv 2) (λ_ _=>rfl)) (c6 (l8 j5 (y4 (pv 0) rfl) (pv 1) (λ_ _=>rfl)) c7)))
   (K4 rfl (p6 (Gy (y4 (pv 0) rfl) (pv 1) O1) (p6 (Gy (y4 (pv 0) rfl) (pv 2) O1) A4)))))))))⟩
end
def IY:V->aA
 |.ref a=>a
 |_=>0
theorem a7d(h:Sz 4000 m q S)(hi:i<m+1):∀x∈C8 q S i,fh 4000 x:=λx hx=>by
 unfold C8 at hx;obtain⟨j,hj,rfl⟩:=aY.mp hx;exact h.1 i j hi (fF.mp hj)
theorem a6E(F:df K "exchange" "Board.exchange" W6 f fd)(T:TB K C)(Cs:C9 P w K mg base n "swept" ["cells","lead","column","scale"] (Ws K) fb db) :
  bf P w K mg base J8 (n+1) f fd ["self","row","column"] (Xo C):=by
 refine F.oa Kh λay A outer s H vs Q E hr h=>?_;obtain⟨p,dx,ca,oa,ia,rs,m,q,S,r,c,rfl,B,hz,IW,hc,hm,hq,hd,k⟩:=h;refine⟨_,(exT Cs hr).2,?_⟩;obtain⟨rl,er,ar⟩:=B.yk (i:=r) dj;have GH:=B.row r rl er;have nrl:rl≠p:=J7 GH B.obj (by intro z;cases z);have Oc:oa≠p:=J7 B.out B.obj (by intro z;cases z);have L_:ia≠p:=J7 B.CS B.obj (by intro z;cases z);refine⟨_,cm,p,C,dx,_,_,cm,B.obj,T.cl,T.nC,cm,_,cm,ca,_,_,_,cm,cm,ah.of B.CQ,ar,_,cm,_,cm,rl,_,_,_,cm,cm,ah.of GH,LS dj,?_⟩;refine⟨λau H3=>s_ λ(l:aA)(mq:List aA)=>au=[fo (.ref p),fo (.int r),fo (.int c),fo (.ref rl),fo (.int (S.T r c))]/\H3 p=fo (.ins C dx (bdF q S.d l oa ia))/\H3 l=fo (.lst (mq.map sy))/\gu mq=m+1/\H l=fO/\
  (∀i a,mq[i]?=fo a->H a=fO/\a≠l/\H3 a=fo (.lst ((Kg (C8 q S i) (C8 q S r) c S.d).map sh)))/\∀b o,b≠p->H b=fo o->H3 b=fo o,?_,?_⟩
 .refine⟨_,cm,p,C,dx,_,_,cm,B.obj,T.cl,T.nC,cm,ca,cm,⟨_,ah.of B.CQ⟩,λl hl=>?_⟩;refine N5 (A3 (ah.of B.CQ)) hl (by rw[aH,B.len];exact t9 dj) (λi y H2=>∃a,y=.ref a/\H a=fO/\a≠l/\H2 a=fo (.lst ((Kg (C8 q S i) (C8 q S r) c S.d).map sh)))
   (λi y H2 H3 ⟨a,h1,h2,h3,h4⟩ e=>⟨a,h1,h2,h3,e a _ h3 h4⟩) (λi x H2 ys N hx e j_ hN=>?_) (λys H2 e j_ len pr=>?_)
  .rw[aP] at hx;cases IZ:rs[i]? with
   |none=>rw[IZ] at hx;cases hx
   |some a =>
    rw[IZ] at hx;have f':sy a=x:=bD hx;subst f';have hi:i<m+1:=by rw[<-B.len];exact(cA.mp IZ).1
    refine⟨Wk.set dz,_,cm,_,cm,_,cm,_,cm,p,C,dx,_,_,cm,e _ _ B.obj,T.cl,T.nS,cm,a,rl,c,S.d,C8 q S i,C8 q S r,cm,ah.of (e _ _ (B.row i a IZ)),ah.of (e _ _ GH),by rw[K8,K8],by rw[K8];lia,by rw[K8];lia,hd,hz.2,a7d hz hi,a7d hz dj,λr' H3 s3 hn jx=>(hN _ _ s3 ⟨r',cm,?_,λz=>?_,jx⟩)⟩
    .cases q1:H r' with
     |none=>rfl
     |some o=>rw[e _ _ q1] at hn;cases hn
    .rw[z,j_] at hn;cases hn
  .have oy:=e _ _ B.obj;have Ep:p≠l:=i7 B.obj hl;refine⟨_,cm,p,C,dx,_,cm,oy,T.cl,T.nC,(by show 5<1000;decide),?_⟩;have Wu:ys=(ys.map IY).map sy:=by
    rw[bC];refine dR λi=>?_;rw[aP];cases qi:ys[i]? with
    |none=>rfl
    |some y =>
     obtain⟨a,rfl,_⟩:=pr i y qi;rfl
   refine⟨l,ys.map IY,cm,ae,by rw[j3 Ep.symm,j_];rw[<-Wu],by rw[aH,len,aH,B.len],hl,λi a hi=>?_,λb o hb GI=>by rw[j3 hb];exact e _ _ GI⟩;rw[aP] at hi;cases qi:ys[i]? with
   |none=>rw[qi] at hi;cases hi
   |some y =>
    obtain⟨a',rfl,h2,h3,h4⟩:=pr i y qi;rw[qi] at hi;have:a'=a:=bD hi;subst this;refine⟨h2,h3,?_⟩;rw[j3 (λz=>by rw[z,oy] at h4;cases h4)];exact h4
 .intro au H3 cw;refine E8 λG_ cy=>?_;obtain⟨l,mq,rfl,hp,hl,hlen,CU,Hx,hk⟩:=cw;subst cy;have zh:=hk rl _ nrl GH;have lr:gu ((C8 q S r).map sh)=q+1:=by rw[aH,K8]
  refine⟨_,cm,_,cm,_,cm,rl,_,cm,ah.of zh,λa1 h1=>?_⟩;have e1:=af.new h1 (.lst (P5 ((C8 q S r).map sh) fO (fo (c:Int))));refine⟨_,cm,p,C,dx,_,_,cm,e1 _ _ hp,T.cl,T.nS,cm,aw,λa2 h2=>⟨a1,a2,_,_,cm,cm,(by rw[j3 (i7 ae h2)];exact ae),ae,?_,λa3 h3=>?_⟩⟩
  .rw[NS _ _ (by rw[lr];lia),cI,lr];have:=t9 (dj:c+1<=1000);simp;lia
  have e3:=(e1.trans (af.new h2 (.lst [.int S.d]))).trans (af.new h3 (.lst (P5 ((C8 q S r).map sh) fO (fo (c:Int))++[.int S.d])));refine⟨_,cm,_,cm,_,_,cm,cm,_,cm,rl,_,cm,ah.of (e3 _ _ zh),λa4 h4=>?_⟩;have e4:=e3.trans (af.new h4 (.lst (P5 ((C8 q S r).map sh) (fo ((c:Int)+1)) fO)));have c1:P5 ((C8 q S r).map sh) fO (fo (c:Int))=((C8 q S r).map sh).take c:=NS _ _ (by rw[lr];lia);have c2:P5 ((C8 q S r).map sh) (fo ((c:Int)+1)) fO=((C8 q S r).map sh).drop (c+1):=by
   have:=NT ((C8 q S r).map sh) (c+1) (by rw[lr];lia);rw[<-this];rfl
  refine⟨a3,a4,_,_,cm,cm,(by rw[j3 (i7 ae h4)];exact ae),ae,?_,λa5 h5=>?_⟩
  .rw[c1,c2,aX,cI,eJ,lr];have:=t9 (dj:q+1<=1000);simp;lia
  have uw:(P5 ((C8 q S r).map sh) fO (fo (c:Int))++[.int S.d])++P5 ((C8 q S r).map sh) (fo ((c:Int)+1)) fO=(C8 q (Lp.fe S r c) r).map sh:=by rw[c1,c2,b3n hc]
  have QZ:H3 a5=fO:=by
   cases z:H3 a5 with
   |none=>rfl
   |some o=>rw[e4 _ _ z] at h5;cases h5
  have e5:=e4.trans (af.new h5 (.lst ((P5 ((C8 q S r).map sh) fO (fo (c:Int))++[.int S.d])++P5 ((C8 q S r).map sh) (fo ((c:Int)+1)) fO)));have u5:∀H4:Hp,upd H4 a5 (.lst ((P5 ((C8 q S r).map sh) fO (fo (c:Int))++[.int S.d])++P5 ((C8 q S r).map sh) (fo ((c:Int)+1)) fO)) a5=fo (.lst ((C8 q (Lp.fe S r c) r).map sh)):=λH4=>ae.trans (rd (λz=>fo (HO.lst z)) uw);have Q_:=hk oa _ Oc B.out;have Ra:=hk ia _ L_ B.CS;have Ep:l≠p:=(i7 B.obj CU).symm;have Er:l≠oa:=(i7 B.out CU).symm;have Rb:l≠ia:=(i7 B.CS CU).symm;have n5p:a5≠p:=(i7 hp QZ).symm;have n5l:a5≠l:=(i7 hl QZ).symm;have lrs:gu (mq.map sy)=m+1:=by rw[aH];exact hlen
  refine⟨_,cm,p,C,dx,_,_,cm,e5 _ _ hp,T.cl,T.nC,cm,_,cm,l,_,_,r,cm,cm,e5 _ _ hl,LZ (by rw[lrs];lia),_,cm,_,cm,p,C,dx,_,cm,(by rw[j3 Ep.symm];exact e5 _ _ hp),T.cl,T.nS,(by show 5<1000;decide),_,cm,p,C,dx,_,_,cm,ae,T.cl,T.nO,cm,_,cm,oa,_,_,_,cm,cm,ah.of (by rw[j3 Oc,j3 Er.symm];exact e5 _ _ Q_),Wq hc,_,cm,p,C,dx,_,_,cm,ae,T.cl,T.nI,cm,_,cm,ia,_,_,_,cm,cm,ah.of (by rw[j3 L_,j3 Rb.symm];exact e5 _ _ Ra),QY IW,aw,λt ht=>?_⟩;have Rc:t≠p:=(i7 ae ht).symm;have ntl:t≠l:=by
   refine(i7 (H:=_) (o:=.lst ((mq.map sy).set r (.ref a5))) ?_ ht).symm;rw[j3 Ep,ae]
  have nto:t≠oa:=by
   refine(i7 (H:=_) (o:=.lst ((R4 q S).map sh)) ?_ ht).symm;rw[j3 Oc,j3 Er.symm];exact e5 _ _ Q_
  have nti:t≠ia:=by
   refine(i7 (H:=_) (o:=.lst ((Y9 m S).map sh)) ?_ ht).symm;rw[j3 L_,j3 Rb.symm];exact e5 _ _ Ra
  refine⟨t,_,cm,cq.of ae,cm,_,_,cm,_,cm,p,C,dx,_,_,cm,(by rw[j3 Rc.symm];exact ae),T.cl,T.nI,cm,_,cm,ia,_,_,r,cm,cm,(by rw[j3 nti.symm,j3 L_,j3 Rb.symm];exact e5 _ _ Ra),LZ (by unfold Y9;simp;lia),_,_,cm,_,cm,p,C,dx,_,_,cm,(by rw[j3 L_.symm,j3 Rc.symm];exact ae),T.cl,T.nO,cm,_,cm,oa,_,_,c,cm,cm,(by rw[j3 B.ne,j3 nto.symm,j3 Oc,j3 Er.symm];exact e5 _ _ Q_),LZ (by unfold R4;simp;lia),cm,k _ l (mq.set r a5) ⟨?_,?_,by rw[eE];exact hlen,λi a hi=>?_,?_,?_,B.ne⟩ λb o hb GI Ma hH=>?_⟩
  .rw[j3 Oc.symm,j3 L_.symm,j3 Rc.symm,ae];rfl
  .rw[j3 Er,j3 Rb,j3 ntl.symm,j3 Ep,ae,rZ]
  .by_cases Wv:i=r
   .subst Wv;rw[eK (by rw[hlen];lia)] at hi;have:a5=a:=bD hi;subst this;have n5t:a5≠t:=by
     refine i7 (H:=_) (o:=.lst ((C8 q (Lp.fe S i c) i).map sh)) ?_ ht;rw[j3 n5p,j3 n5l];exact u5 _
    rw[j3 ((i7 Q_ QZ).symm),j3 ((i7 Ra QZ).symm),j3 n5t,j3 n5p,j3 n5l];exact u5 _
   .rw[dP (bV Wv)] at hi;obtain⟨g1,g2,g3⟩:=Hx i a hi;have nap:a≠p:=(i7 B.obj g1).symm;have g5:=e5 _ _ g3;have nat:a≠t:=by
     refine i7 (H:=_) (o:=.lst ((Kg (C8 q S i) (C8 q S r) c S.d).map sh)) ?_ ht;rw[j3 nap,j3 g2];exact g5
    rw[j3 ((i7 B.out g1).symm),j3 ((i7 B.CS g1).symm),j3 nat,j3 nap,j3 g2,<-b0N Wv hc];exact g5
  .rw[ae,b1A hc]
  .rw[j3 B.ne.symm,ae,b4t IW]
  .have h3:=hk b o hb hH;have Iq:b≠l:=i7 hH CU;have nbt:b≠t:=by
    refine i7 (H:=_) (o:=o) ?_ ht;rw[j3 hb,j3 Iq];exact e5 _ _ h3
   rw[j3 GI,j3 Ma,j3 nbt,j3 hb,j3 Iq];exact e5 _ _ h3
theorem Ww:∀{n},(∀k,k<n->g k=0)->Lp.sumTo g n=0
 |0,_=>rfl
 |n+1,h=>by
  show Lp.sumTo g n+g n=0;rw[Ww λk hk=>h k dj,h n dj];rfl
def Rf(q:Nat)(S:Lp.Bo)(k v:Nat):Int:=Lp.sumTo (λi=>if S.ins i=v then S.T i q else 0) k
def Rg(m:Nat)(S:Lp.Bo)(k v:Nat):Int:=Lp.sumTo (λj=>if S.outs j=v then S.T m j else 0) k
def v7(m q:Nat)(S:Lp.Bo):List Int:=(aW q).map λv=>Lp.cg m S q v
def K1(m q:Nat)(S:Lp.Bo):List Int:=(aW m).map λi=>Lp.aq m q S (q+i)
theorem a6U k:(aQ k [sh 0]).flatten=(aW k).map λ_=>sh 0:=by
 induction k with
 |zero=>rfl
 |succ k ih=>rw[List.replicate_succ',List.flatten_append,ih,pE,bQ];rfl
theorem b1x{F G:Nat->Int}(hv:G v=x)(h:∀u,u<n->u≠v->F u=G u):((aW n).map λu=>sh (F u)).set v (.int x)=(aW n).map λu=>sh (G u):=by
 refine dR λj=>?_;by_cases hj:j<n
 .by_cases e:j=v
  .subst e;rw[eK (by simp;lia),aP,cU hj,jV,hv]
  .rw[dP (bV e),aP,aP,cU hj,jV,jV,h j hj e]
 .rw[bW (by simp;lia),bW (by simp;lia)]
inductive Xp(C:aA)(vs:List V)(H:Hp)(Q:VK)(sH:XK):Prop|mk:∀p dx ca oa ia rs m q S,vs=[.ref p]->Bd C H p dx ca oa ia rs m q S->m<900->q<900->(∀i k,i<m->k<m->S.ins i=S.ins k->i=k)->(∀r H',af H H'->H r=fO->H' r=fo (.lst ((v7 m q S).map sh))->Q (.ref r) H')->Xp C vs H Q sH
def wu:p7 ["self","told","row","number"] ["self"] (i9 Wl):=⟨cm,cm,cm,de,cm,de,de⟩
theorem b4W(F:df K "amounts" "Board.amounts" Wl f fd)(N:v8 mg)(T:TB K C):bf P w K mg base J8 (n+1) f fd ["self"] (Xp C):=by
 refine F.oa wu λay A outer s H vs Q E hr h=>?_;obtain⟨p,dx,ca,oa,ia,rs,m,q,S,rfl,B,hm,hq,inj,k⟩:=h;refine⟨_,j0 (r6 (i:=1) wu.nd rfl (aI rfl) (j8 Q6 (v9 (c6 d0 c7)) (y4 (pv 0) rfl)))
  (j0 (IF hO rfl (Il K rfl rfl N.enum (c6 (y4 (pv 0) rfl) c7)) (IX K (n:=2) rfl rfl (p6 (j9 (i:=2) wu.nd rfl (aI rfl)) (p6 (j9 (i:=3) wu.nd rfl (aI rfl)) A4)))
   (j4 (w6 (l5 EI (pv 3) (y4 (pv 0) rfl) (r9 _)) (j4 (D3 (l8 j5 (l8 j5 (y4 (pv 0) rfl) (pv 2) (λ_ _=>rfl)) (Eh V2 d0) (λ_ _=>rfl)) (Gy (pv 1) (pv 3) O1))) r8)))
  (j4 (o4 (pv 1)))),?_⟩
 have sl:=t9 (dj:q<=1000);refine⟨aw,λz hz=>?_⟩;have ez:=af.new hz (.lst [.int 0]);refine⟨_,cm,p,C,dx,_,_,cm,ez _ _ B.obj,T.cl,T.nM,cm,z,_,_,cm,cm,ae,dj,dj,(by rw[cF];simp;lia),λtl Hz=>?_⟩;rw[cF,a6U];have Ki:H tl=fO:=by
  cases q1:H tl with
  |none=>rfl
  |some o=>rw[ez _ _ q1] at Hz;cases Hz
 have e0:af H (upd (upd H z (.lst [.int 0])) tl (.lst ((aW q).map λ_=>sh 0))):=ez.write Ki;refine⟨_,cm,p,C,dx,_,_,cm,e0 _ _ B.obj,T.cl,T.nI,cm,ia,cm,⟨_,ah.of (e0 _ _ B.CS)⟩,?_⟩;have li:gu ((Y9 m S).map sh)=m:=by unfold Y9;simp
 refine UG (xs:=(Y9 m S).map sh) (i1:=2) (i2:=3) (λj σ H'=>∃o2 o3:Option V,σ=[fo (.ref p),fo (.ref tl),o2,o3]/\af H H'/\H' tl=fo (.lst ((aW q).map λv=>sh (Rf q S j v))))
  ⟨_,_,cm,e0,by rw[ae];rfl⟩ (λj σ H' ⟨_,_,_,e,_⟩=>ah.of (e _ _ B.CS)) ?_ ?_
 .rintro j x σ H1 qq hx ⟨o2,o3,rfl,e1,ht⟩ Wx;have hj:j<m:=by rw[<-li];exact(cA.mp hx).1
  have f':x=.int (S.ins j):=by
   have:=(A2 hx).symm.trans (QY (S:=S) hj);exact bD this
  subst f';have s1:=af.new Wx (.tup [sh (j:Int),.int (S.ins j)]);have e2:=e1.trans s1;have Kj:=s1 _ _ ht;refine⟨_,cm,_,cm,p,C,dx,_,_,cm,e2 _ _ B.obj,T.cl,T.nM,cm,_,_,cm,cm,_,cm,?_⟩;have st:∀v,Rf q S (j+1) v=Rf q S j v+(if S.ins j=v then S.T j q else 0):=λv=>rfl;refine y6 (λd=>?_) (λd=>?_)
  .have d':S.ins j<q:=by have:=qh d;lia
   obtain⟨rj,erj,arj⟩:=B.yk (i:=j) dj;refine⟨_,cm,p,C,dx,_,_,cm,e2 _ _ B.obj,T.cl,T.nC,cm,_,cm,ca,_,_,_,cm,cm,ah.of (e2 _ _ B.CQ),arj,_,cm,rj,_,_,_,cm,cm,ah.of (e2 _ _ (B.row j rj erj)),QX,_,cm,_,cm,tl,_,_,S.ins j,cm,cm,Kj,LZ (by simp;lia),_,_,cm,e2.write Ki,?_⟩;rw[ae];congr 2;refine b1x ?_ λu hu mm=>?_
   .rw[st,qg rfl];have:Rf q S j (S.ins j)=0:=Ww λi hi=>qf λz=>absurd (inj i j dj hj z) dj;rw[this];lia
   .rw[st,qf (bV mm)];lia
  .have d':¬S.ins j<q:=λz=>d (qk dj);refine⟨_,_,cm,e2,?_⟩;rw[Kj];congr 2;refine fM λv hv=>?_;rw[st,qf (λz=>d' (by rw[z];exact fF.mp hv)),gK]
 .intro σ H1 cw;refine E8 λG_ cy=>?_;obtain⟨o2,o3,rfl,e1,ht⟩:=cw;subst cy;rw[li] at ht;refine⟨_,cm,k tl H1 e1 Ki ?_⟩;rw[ht];unfold v7;rw[bC];rfl
inductive Xq(C:aA)(vs:List V)(H:Hp)(Q:VK)(sH:XK):Prop|mk:∀p dx ca oa ia rs m q S,vs=[.ref p]->Bd C H p dx ca oa ia rs m q S->m<900->q<900->(∀j k,j<q->k<q->S.outs j=S.outs k->j=k)->(∀j,j<q->S.outs j<q+m)->(∀r H',af H H'->H r=fO->H' r=fo (.lst ((K1 m q S).map sh))->Q (.ref r) H')->Xq C vs H Q sH
def BL:p7 ["self","told","column","number"] ["self"] (i9 Wm):=⟨cm,cm,cm,de,cm,de,de⟩
theorem b7Y(F:df K "weights" "Board.weights" Wm f fd)(N:v8 mg)(T:TB K C):bf P w K mg base J8 (n+1) f fd ["self"] (Xq C):=by
 refine F.oa BL λay A outer s H vs Q E hr h=>?_;obtain⟨p,dx,ca,oa,ia,rs,m,q,S,rfl,B,hm,hq,inj,ob,k⟩:=h;refine⟨_,j0 (r6 (i:=1) BL.nd rfl (aI rfl) (j8 Q6 (v9 (c6 d0 c7)) (j7 j6 rfl N.len bB (c6 (y4 (pv 0) rfl) c7))))
  (j0 (IF hO rfl (Il K rfl rfl N.enum (c6 (y4 (pv 0) rfl) c7)) (IX K (n:=2) rfl rfl (p6 (j9 (i:=2) BL.nd rfl (aI rfl)) (p6 (j9 (i:=3) BL.nd rfl (aI rfl)) A4)))
   (j4 (w6 (l5 Qb (pv 3) (y4 (pv 0) rfl) (r9 _)) (j4 (D3 (l8 j5 (l8 j5 (y4 (pv 0) rfl) (Eh V2 d0) (λ_ _=>rfl)) (pv 2) (λ_ _=>rfl)) (Gy (pv 1) (j8 IH (pv 3) (y4 (pv 0) rfl)) O1))) r8)))
  (j4 (o4 (pv 1)))),?_⟩
 have sl:=t9 (dj:m<=1000);have li:gu ((Y9 m S).map sh)=m:=by unfold Y9;simp
 have lo:gu ((R4 q S).map sh)=q:=by unfold R4;simp
 refine⟨aw,λz hz=>?_⟩;have ez:=af.new hz (.lst [.int 0]);refine⟨_,cm,p,C,dx,_,_,cm,ez _ _ B.obj,T.cl,T.nI,cm,ia,_,cm,.inl (ah.of (ez _ _ B.CS)),z,_,_,cm,cm,ae,dj,dj,(by rw[li,cF];simp;lia),λtl Hz=>?_⟩;rw[li,cF,a6U];have Ki:H tl=fO:=by
  cases q1:H tl with
  |none=>rfl
  |some o=>rw[ez _ _ q1] at Hz;cases Hz
 have e0:af H (upd (upd H z (.lst [.int 0])) tl (.lst ((aW m).map λ_=>sh 0))):=ez.write Ki;refine⟨_,cm,p,C,dx,_,_,cm,e0 _ _ B.obj,T.cl,T.nO,cm,oa,cm,⟨_,ah.of (e0 _ _ B.out)⟩,?_⟩;refine UG (xs:=(R4 q S).map sh) (i1:=2) (i2:=3) (λj σ H'=>∃o2 o3:Option V,σ=[fo (.ref p),fo (.ref tl),o2,o3]/\af H H'/\H' tl=fo (.lst ((aW m).map λv=>sh (Rg m S j (q+v)))))
  ⟨_,_,cm,e0,by rw[ae];rfl⟩ (λj σ H' ⟨_,_,_,e,_⟩=>ah.of (e _ _ B.out)) ?_ ?_
 .rintro j x σ H1 qq hx ⟨o2,o3,rfl,e1,ht⟩ Wx;have hj:j<q:=by rw[<-lo];exact(cA.mp hx).1
  have f':x=.int (S.outs j):=by
   have:=(A2 hx).symm.trans (Wq (S:=S) hj);exact bD this
  subst f';have s1:=af.new Wx (.tup [sh (j:Int),.int (S.outs j)]);have e2:=e1.trans s1;have Kj:=s1 _ _ ht;refine⟨_,cm,_,cm,p,C,dx,_,_,cm,e2 _ _ B.obj,T.cl,T.nM,cm,_,_,cm,cm,_,cm,?_⟩;have st:∀v,Rg m S (j+1) v=Rg m S j v+(if S.outs j=v then S.T m j else 0):=λv=>rfl;have hob:=ob j hj;refine y6 (λd=>?_) (λd=>?_)
  .have d':q<=S.outs j:=by have:=qh d;lia
   obtain⟨rm,erm,arm⟩:=B.wo;refine⟨_,cm,p,C,dx,_,_,cm,e2 _ _ B.obj,T.cl,T.nC,cm,_,cm,ca,_,_,_,cm,cm,ah.of (e2 _ _ B.CQ),arm,_,cm,rm,_,_,_,cm,cm,ah.of (e2 _ _ (B.row m rm erm)),LS dj,_,cm,_,cm,_,cm,p,C,dx,_,_,cm,e2 _ _ B.obj,T.cl,T.nM,cm,_,_,cm,cm,tl,_,_,S.outs j-q,cm,cm,Kj,?_,?_⟩
   .rw[(dj:((S.outs j:Int)-(q:Int))=((S.outs j-q:Nat):Int))];exact LZ (by simp;lia)
   refine⟨_,_,cm,e2.write Ki,?_⟩;rw[ae];congr 2;refine b1x ?_ λu hu mm=>?_
   .rw[st,qg dj];have:Rg m S j (q+(S.outs j-q))=0:=Ww λi hi=>qf λz=>absurd (inj i j dj hj dj) dj;rw[this];lia
   .rw[st,qf dj];lia
  .have d':¬q<=S.outs j:=λz=>d (qk dj);refine⟨_,_,cm,e2,?_⟩;rw[Kj];congr 2;refine fM λv hv=>?_;rw[st,qf dj,gK]
 .intro σ H1 cw;refine E8 λG_ cy=>?_;obtain⟨o2,o3,rfl,e1,ht⟩:=cw;subst cy;rw[lo] at ht;refine⟨_,cm,k tl H1 e1 Ki ?_⟩;rw[ht];unfold K1;rw[bC];rfl
def Y8(rows:List (List Int)):Nat->Nat->Int:=λi j=>(rows.getD i []).getD j 0
def M2(l:List Int):Nat->Int:=λi=>l.getD i 0
abbrev si(K:aF)(H:Hp):List V->List (List Int)->Prop:=bR λv row=>∃a,v=.ref a/\ah K H a (row.map sh)
section
variable{P:aM}{w:aL}{K:aF}{mg:aC->Option aE}{base:aJ}{f g c Pt:aA}{fd gd:aK}{n:Nat}{C:aA}
inductive Xs(K:aF)(C:aA)(vs:List V)(H:Hp)(Q:VK)(sH:XK):Prop|mk:∀p dx ga ra ba goal Es rows bounds m q,vs=[.ref p,.ref ga,.ref ra,.ref ba]->H p=fo (.ins C dx [])->ah K H ga (goal.map sh)->ah K H ra Es->si K H Es rows->ah K H ba (bounds.map sh)->gu rows=m->gu bounds=m->gu goal=q->(∀r∈rows,gu r=q)->m<900->q<900->(∀H' ca oa ia rs,Bd C H' p dx ca oa ia rs m q (Lp.S0 m q (Y8 rows) (M2 bounds) (M2 goal))->(∀b o,b≠p->H b=fo o->H' b=fo o)->H oa=fO->H ia=fO->Q .non H')->Xs K C vs H Q sH
def b8b:p7 ["self","goal","rows","bounds"] ["self","goal","rows","bounds"] (i9 Ob):=⟨cm,cm,cm,de,cm,de,de⟩
def b9C:(["row","bound"]:List aC).Nodup:=dz
def c0F:(["one"]:List aC).Nodup:=fg
def b9e(N:v8 mg) :
  {t:TS//fu (N8 J8 P w K mg base ["self","goal","rows","bounds"] "Board.__init__" (i9 Ob) f ay A outer s H E).oi (x9 Ob) t} :=
 ⟨_,j0 (GA (pv 0) (j7 j6 rfl N.len bB (c6 (pv 1) c7)) rfl)
  (j0 (GA (pv 0) d0 rfl)
  (t8 (GA (pv 0) (N6 ["row","bound"] [] rfl (QI true true K rfl rfl N.zip (c6 (pv 2) (c6 (pv 3) c7)))
   (λ_ _ _ _=>IX K (n:=2) rfl rfl (p6 (j9 (i:=0) b9C rfl (aI rfl)) (p6 (j9 (i:=1) b9C rfl (aI rfl)) A4)))
   (λ_ _ _ _=>j8 B9 (v5 (Wo K rfl) rfl N.list fJ (c6 (pv 0) c7)) (v9 (c6 (pv 1) c7)))) rfl)
  (t8 (R3 (K7 iK jW jX P2 (y4 (pv 0) rfl)
   (c6 (j8 B9 (N6 ["one"] [] rfl (C6 (pv 1)) (λ_ _ _ _=>j9 (i:=0) c0F rfl (aI rfl)) (λ_ _ _ _=>Eh V2 (pv 0))) (v9 (c6 d0 c7))) c7)))
  (j0 (GA (pv 0) (v5 (VX rfl) rfl N.list fJ (c6 (v5 U' rfl N.range xD (c6 (y4 (pv 0) rfl) c7)) c7)) rfl)
  (j4 (GA (pv 0) (v5 (VX rfl) rfl N.list fJ (c6 (v5 b0n rfl N.range xD (c6 (y4 (pv 0) rfl) (c6 (j8 D4 (y4 (pv 0) rfl) (j7 j6 rfl N.len bB (c6 (pv 2) c7))) c7))) c7)) rfl))))))⟩
end
theorem b7g(hr:rows[i]?=fo row)(hb:bounds[i]?=fo b)(hl:gu row=q)(hi:i<m) :
  row++[b]=C8 q (Lp.S0 m q (Y8 rows) (M2 bounds) (M2 goal)) i:=by
 refine dR λj=>?_;unfold C8;by_cases hj:j<q+1
 .rw[aP,cU hj,jV];have hT:(Lp.S0 m q (Y8 rows) (M2 bounds) (M2 goal)).T i j=if j<q then Y8 rows i j else M2 bounds i:=by
   show(if j<q then (if i<m then _ else _) else (if i<m then _ else _))=_;rw[qg hi,qg hi]
  rw[hT];by_cases h:j<q
  .rw[dH dj,qg h];unfold Y8;rw[bA,bA,hr,iG,aS dj,iG]
  .rw[dU dj,qf h,hl,(dj:j-q=0)];unfold M2;rw[bA,hb];rfl
 .rw[bW (by simp;lia),bW (by simp;lia)]
theorem b4P(hl:gu goal=q):goal.map (λx=>-x)++[0]=C8 q (Lp.S0 m q (Y8 rows) (M2 bounds) (M2 goal)) m:=by
 refine dR λj=>?_;unfold C8;by_cases hj:j<q+1
 .rw[aP,cU hj,jV];have hT:(Lp.S0 m q (Y8 rows) (M2 bounds) (M2 goal)).T m j=if j<q then-M2 goal j else 0:=by
   show(if j<q then (if m<m then _ else _) else (if m<m then _ else _))=_;rw[qf (dO _),qf (dO _)]
  rw[hT];by_cases h:j<q
  .rw[dH (by simp;lia),qg h,aP];unfold M2;rw[bA,aS dj,jV,iG]
  .rw[dU (by simp;lia),qf h,aH,hl,(dj:j-q=0)];rfl
 .rw[bW (by simp;lia),bW (by simp;lia)]
theorem b4B:((aW q).map λ(i:Nat)=>sh (0+(i:Int)))=(R4 q (Lp.S0 m q A b c)).map sh:=by
 unfold R4;rw[bC];refine fM λj hj=>?_;have h:(Lp.S0 m q A b c).outs j=j:=qg (fF.mp hj);simp[h]
theorem b7h{q:Nat}:((aW m).map λ(i:Nat)=>sh ((q:Int)+(i:Int)))=(Y9 m (Lp.S0 m q A b c)).map sh:=by
 unfold Y9;rw[bC];refine fM λj hj=>?_;have h:(Lp.S0 m q A b c).ins j=q+j:=rfl;simp[h]
theorem I_(hp:H p=fo (.ins C dx fs))(e:∀b o,b≠p->H b=fo o->H' b=fo o)(h:ah K H a xs):ah K H' a xs:=by
 rcases h with(h|⟨o,h⟩)|h
 .exact .inl (.inl (e _ _ (J7 h hp fg) h))
 .exact .inl (.inr ⟨o,e _ _ (J7 h hp dj) h⟩)
 .exact .inr h
theorem b4m(F:df K "__init__" "Board.__init__" Ob f fd)(N:v8 mg)(T:TB K C):bf P w K mg base J8 (n+1) f fd ["self","goal","rows","bounds"] (Xs K C):=by
 refine F.oa b8b λay A outer s H vs Q E hr h=>?_;obtain⟨p,dx,ga,ra,ba,goal,Es,rows,bounds,m,q,rfl,hp,hg,Et,Rh,ym,lr,lb,lg,GH,hm,hq,k⟩:=h;refine⟨_,(b9e N).2,?_⟩;have lv:gu Es=m:=by rw[<-lr];exact dE Rh
 have k1:∀b o,b≠p->H b=fo o->upd (upd H p (.ins C dx [("many",.int q)])) p (.ins C dx [("many",.int q),("scale",.int 1)]) b=fo o:=λb o hb e=>by rw[j3 hb,j3 hb];exact e
 refine⟨_,cm,ga,_,cm,.inl hg,_,cm,p,C,dx,_,cm,hp,T.cl,T.nM,dz,?_⟩;rw[aH,lg];refine⟨_,cm,p,C,dx,_,cm,ae,T.cl,T.nS,(by show 1<1000;decide),?_⟩;refine⟨λau H4=>s_ λ(l:aA)(rs:List aA)=>au=[fo (.ref p),fo (.ref ga),fo (.ref ra),fo (.ref ba)]/\H4 p=fo (.ins C dx [("many",.int q),("scale",.int 1),("cells",.ref l)])/\H4 l=fo (.lst (rs.map sy))/\gu rs=m/\H l=fO/\
  (∀i a,rs[i]?=fo a->a≠l/\H4 a=fo (.lst ((C8 q (Lp.S0 m q (Y8 rows) (M2 bounds) (M2 goal)) i).map sh)))/\∀b o,b≠p->H b=fo o->H4 b=fo o,?_,?_⟩
 .refine⟨_,cm,_,cm,ra,ba,cm,⟨_,I_ hp k1 Et⟩,⟨_,I_ hp k1 ym⟩,λl hl=>?_⟩;have Ep:p≠l:=i7 ae hl;have CU:H l=fO:=by
   rw[j3 Ep.symm,j3 Ep.symm] at hl;exact hl
  refine QJ (I_ hp k1 Et) (I_ hp k1 ym) hl (by rw[lv];exact t9 dj) (λi y H2=>∃a,y=.ref a/\a≠l/\H2 a=fo (.lst ((C8 q (Lp.S0 m q (Y8 rows) (M2 bounds) (M2 goal)) i).map sh)))
   (λi y H2 H3 ⟨a,h1,h2,h3⟩ e=>⟨a,h1,h2,e a _ h2 h3⟩) (λi x y H2 zs N' hx hy e j_ hN=>?_) (λzs H2 e j_ len pr=>?_)
  .obtain⟨row,uw,⟨a,rfl,ha⟩⟩:=aZ.at Rh hx;rw[aP] at hy;cases Ma:bounds[i]? with
   |none=>rw[Ma] at hy;cases hy
   |some b =>
    rw[Ma] at hy;have T_:sh b=y:=bD hy;subst T_;have hi:i<m:=by rw[<-lb];exact(cA.mp Ma).1
    have hlen:=GH row (bK uw);refine⟨_,cm,a,_,cm,.inl (e.seq (I_ hp k1 ha)),λa1 h1=>?_⟩;have s1:=af.new h1 (.lst (row.map sh));refine⟨_,cm,aw,λa2 h2=>?_⟩;have s2:=s1.trans (af.new h2 (.lst [.int b]));refine⟨a1,a2,_,_,cm,cm,(by rw[j3 (i7 ae h2)];exact ae),ae,?_,λa3 h3=>?_⟩
    .rw[aH,hlen];have:=t9 (dj:q+1<=1000);simp;lia
    .refine hN _ _ (s2.trans (af.new h3 _)) ⟨a3,cm,λz=>?_,?_⟩
     .rw[z,s2 _ _ j_] at h3;cases h3
     .rw[ae,<-b7g uw Ma hlen hi,bQ];rfl
  .have oy:=e _ _ (ae (H:=upd H p (.ins C dx [("many",.int q)])) (a:=p) (o:=.ins C dx [("many",.int q),("scale",.int 1)]));refine⟨_,cm,p,C,dx,_,cm,oy,T.cl,T.nC,(by show 2<1000;decide),?_⟩;have Wy:zs=(zs.map IY).map sy:=by
    rw[bC];refine dR λi=>?_;rw[aP];cases qi:zs[i]? with
    |none=>rfl
    |some y =>
     obtain⟨a,rfl,_⟩:=pr i y qi;rfl
   refine⟨l,zs.map IY,cm,ae,by rw[j3 Ep.symm,j_];rw[<-Wy],by rw[aH,len,lv,aH,lb];lia,CU,λi a hi=>?_,λb o hb GI=>by rw[j3 hb];exact e _ _ (k1 b o hb GI)⟩;rw[aP] at hi;cases qi:zs[i]? with
   |none=>rw[qi] at hi;cases hi
   |some y =>
    obtain⟨a',rfl,h2,h3⟩:=pr i y qi;rw[qi] at hi;have:a'=a:=bD hi;subst this;refine⟨h2,?_⟩;rw[j3 (λz=>by rw[z,oy] at h3;cases h3)];exact h3
 intro au H4 cw;refine E8 λG_ cy=>?_;obtain⟨l,rs,rfl,Mc,Od,hlen,CU,Hx,hk⟩:=cw;subst cy;have Ep:l≠p:=(i7 hp CU).symm;refine⟨λau H5=>∃mq:List aA,au=[fo (.ref p),fo (.ref ga),fo (.ref ra),fo (.ref ba)]/\H5 p=fo (.ins C dx [("many",.int q),("scale",.int 1),("cells",.ref l)])/\H5 l=fo (.lst (mq.map sy))/\gu mq=m+1/\
  (∀i a,mq[i]?=fo a->a≠l/\H5 a=fo (.lst ((C8 q (Lp.S0 m q (Y8 rows) (M2 bounds) (M2 goal)) i).map sh)))/\∀b o,b≠p->H b=fo o->H5 b=fo o,?_,?_⟩
 .refine⟨_,cm,p,C,dx,_,_,cm,Mc,T.cl,T.nC,cm,.inl ⟨cm,_,ah.of Od⟩,?_⟩;have hg4:=I_ hp hk hg;refine⟨_,cm,ga,cm,⟨_,hg4⟩,λa1 h1=>(O9 (A3 hg4) h1 (by rw[aH,lg];exact t9 dj) (λx=>.int (-(vI x))) (λi x H' N' hx e hN=>?_) ?_)⟩
  .obtain⟨x',rfl,_⟩:=LY hx;exact⟨Wk.set dz,_,cm,_,cm,hN⟩
  have eg:(goal.map sh).map (λx=>sh (-(vI x)))=(goal.map λx=>-x).map sh:=by rw[bC,bC];rfl
  rw[eg];have s1:=af.new h1 (.lst ((goal.map λx=>-x).map sh));refine⟨aw,λa2 h2=>?_⟩;have s2:=s1.trans (af.new h2 (.lst [.int 0]));refine⟨a1,a2,_,_,cm,cm,(by rw[j3 (i7 ae h2)];exact ae),ae,?_,λa3 h3=>?_⟩
  .rw[aH,aH,lg];have:=t9 (dj:q+1<=1000);simp;lia
  have s3:=s2.trans (af.new h3 (.lst ((goal.map λx=>-x).map sh++[.int 0])));refine⟨l,_,_,cm,cm,s3 _ _ Od,(by rw[aH,hlen];exact t9 dj),?_⟩;have n3l:a3≠l:=λz=>by rw[z,s2 _ _ Od] at h3;cases h3
  have n3p:a3≠p:=λz=>by rw[z,s2 _ _ Mc] at h3;cases h3
  refine⟨rs++[a3],cm,by rw[j3 Ep.symm];exact s3 _ _ Mc,by rw[ae,bQ];rfl,by rw[aX,hlen];rfl,λi a hi=>?_,λb o hb GI=>by rw[j3 (i7 GI CU)];exact s3 _ _ (hk b o hb GI)⟩;by_cases him:i<m
  .rw[dH dj] at hi;obtain⟨g1,g2⟩:=Hx i a hi;exact⟨g1,by rw[j3 g1];exact s3 _ _ g2⟩
  .rw[dU dj] at hi;have Xt:i-gu rs=0:=by grind
   rw[Xt] at hi;have:a3=a:=bD hi;subst this;have:i=m:=dj;subst this;refine⟨n3l,?_⟩;rw[j3 n3l,ae,<-b4P lg,bQ];rfl
 intro au H5 cw;refine E8 λG_ cy=>?_;obtain⟨mq,rfl,Oe,Ir,BN,Og,Oh⟩:=cw;subst cy;refine⟨_,cm,p,C,dx,_,_,cm,Oe,T.cl,T.nM,cm,q,cm,λr1 h1=>?_⟩;have s1:=af.new h1 (.zt 0 (q:Int));refine⟨r1,0,q,cm,by rw[ae,lH],dj,dj,dj,λoa Md=>?_⟩;have s2:=s1.trans (af.new Md (.lst ((aW q).map λ(i:Nat)=>sh (0+(i:Int)))));have Oi:H5 oa=fO:=by
  cases z:H5 oa with
  |none=>rfl
  |some o=>rw[s1 _ _ z] at Md;cases Md
 have Oj:oa≠p:=(i7 Oe Oi).symm;refine⟨_,cm,p,C,dx,_,cm,s2 _ _ Oe,T.cl,T.nO,(by show 3<1000;decide),?_⟩;have lp5:ah K (upd (upd (upd H5 r1 (.zt 0 (q:Int))) oa (.lst ((aW q).map λ(i:Nat)=>sh (0+(i:Int))))) p (.ins C dx [("many",.int q),("scale",.int 1),("cells",.ref l),("outs",.ref oa)])) ra Es :=
  I_ (s2 _ _ Oe) (λb o hb e=>by rw[j3 hb];exact e) (s2.seq (I_ hp Oh Et))
 refine⟨_,cm,p,C,dx,_,_,cm,ae,T.cl,T.nM,cm,_,cm,p,C,dx,_,_,cm,ae,T.cl,T.nM,cm,_,cm,ra,_,cm,.inl lp5,_,_,cm,cm,_,_,cm,λr2 h2=>?_⟩;rw[lv];refine⟨r2,(q:Int),m,cm,ae,dj,dj,dj,λia Me=>?_⟩;have n2p:r2≠p:=(i7 ae h2).symm;have Ol:ia≠p:=by
  refine(i7 (H:=_) (o:=.ins C dx [("many",.int q),("scale",.int 1),("cells",.ref l),("outs",.ref oa)]) ?_ Me).symm;rw[j3 n2p.symm,ae];rfl
 have oa6:∀o,upd (upd (upd H5 r1 (.zt 0 (q:Int))) oa o) p (.ins C dx [("many",.int q),("scale",.int 1),("cells",.ref l),("outs",.ref oa)]) oa=fo o:=λo=>by rw[j3 Oj,ae]
 have n2o:r2≠oa:=(i7 (oa6 _) h2).symm;have nio:ia≠oa:=by
  refine(i7 (H:=_) (o:=.lst ((aW q).map λ(i:Nat)=>sh (0+(i:Int)))) ?_ Me).symm;rw[j3 n2o.symm];exact oa6 _
 have up:∀b o,b≠p->H5 b=fo o->b≠ia/\b≠r2/\upd (upd H5 r1 (.zt 0 (q:Int))) oa (.lst ((aW q).map λ(i:Nat)=>sh (0+(i:Int)))) b=fo o:=λb o hb e=>by
  have e2:=s2 _ _ e;have nb2:b≠r2:=by
   refine i7 (H:=_) (o:=o) ?_ h2;rw[j3 hb];exact e2
  refine⟨i7 (H:=_) (o:=o) ?_ Me,nb2,e2⟩;rw[j3 nb2,j3 hb];exact e2
 refine⟨_,cm,p,C,dx,_,cm,(by rw[j3 Ol.symm,j3 n2p.symm];exact ae),T.cl,T.nI,(by show 4<1000;decide),?_⟩;have fin:∀b o,b≠p->H5 b=fo o->upd (upd (upd (upd (upd (upd H5 r1 (.zt 0 (q:Int))) oa (.lst ((aW q).map λ(i:Nat)=>sh (0+(i:Int))))) p (.ins C dx [("many",.int q),("scale",.int 1),("cells",.ref l),("outs",.ref oa)])) r2 (.zt (q:Int) ((q:Int)+(m:Int)))) ia (.lst ((aW m).map λ(i:Nat)=>sh ((q:Int)+(i:Int))))) p (.ins C dx [("many",.int q),("scale",.int 1),("cells",.ref l),("outs",.ref oa),("ins",.ref ia)]) b=fo o:=λb o hb e=>by
  obtain⟨g1,g2,g3⟩:=up b o hb e;rw[j3 hb,j3 g1,j3 g2,j3 hb];exact g3
 have ia5:H5 ia=fO:=by
  cases z:H5 ia with
  |none=>rfl
  |some o=>exact absurd rfl (up ia o Ol z).1
 have back:∀b,b≠p->H5 b=fO->H b=fO:=λb hb z=>by
  cases z2:H b with
  |none=>rfl
  |some o=>rw[Oh b o hb z2] at z;cases z
 refine k _ l oa ia mq ⟨ae,fin _ _ Ep Ir,BN,λi a hi=>fin _ _ (λz=>?_) (Og i a hi).2,?_,?_,nio.symm⟩ (λb o hb GI=>fin b o hb (Oh b o hb GI)) (back _ Oj Oi) (back _ Ol ia5)
 .have:=(Og i a hi).2;rw[z,Oe] at this;cases this
 .rw[j3 Oj,j3 nio.symm,j3 n2o.symm,j3 Oj,ae,b4B]
 .rw[j3 Ol,ae,b7h]
section
variable{P:aM}{w:aL}{K:aF}{mg:aC->Option aE}{base:aJ}{f Pt:aA}{fd:aK}{n:Nat}{C:aA}
inductive O5(K:aF)(C Pt:aA)(vs:List V)(H:Hp)(Q:VK)(sH:XK):Prop|mk:∀ga ra ba goal Es rows bounds m q M,vs=[.ref ga,.ref ra,.ref ba]->ah K H ga (goal.map sh)->ah K H ra Es->si K H Es rows->ah K H ba (bounds.map sh)->gu rows=m->gu bounds=m->gu goal=q->(∀r∈rows,gu r=q)->m<900->q<900->(∀i,i<m->0<=M2 bounds i)->(∀v,Lp.Fits M (m+1) (Lp.Vv m q (Y8 rows) (M2 bounds) (M2 goal) v))->Lp.ow M (m+1)<2^4000->LT Pt H->(∀S H' t aa wa,Lp.Of m q (Y8 rows) (M2 bounds) (M2 goal) S->(∀j,j<q->¬S.T m j<0)->Sz 4000 m q S->bj Pt H H'->LT Pt H'->H' t=fo (.tup [.int (S.T m q),.ref aa,.ref wa,.int S.d]) → H' aa=fo (.lst ((v7 m q S).map sh))->H' wa=fo (.lst ((K1 m q S).map sh))->Q (.ref t) H')->(∀S H',Lp.Of m q (Y8 rows) (M2 bounds) (M2 goal) S->Lp.cM m q S->bj Pt H H'->LT Pt H'->Q .non H')->O5 K C Pt vs H Q sH
def EY:p7 ["goal","rows","bounds","board","column","row"] ["goal","rows","bounds"] (i9 S2):=⟨cm,cm,cm,de,cm,de,de⟩
structure b9d(P:aM)(w:aL)(K:aF)(mg:aC->Option aE)(base:aJ)(n:Nat)(C Pt:aA)(f1 f2 f3 f4 f5 f6:aA)(d1 d2 d3 d4 d5 d6:aK):Prop where
 WA:Mk K C f1
 ini:bf P w K mg base J8 n f1 d1 ["self","goal","rows","bounds"] (Xs K C)
 GD:Binds K d1 ["self","goal","rows","bounds"] []
 mC:mg "Board"=fo (.ref C)
 Mf:LV P w K mg base n C "coming" ["self"] (Wr C Pt) f2 d2
 WB:LV P w K mg base n C "going" ["self","column"] (Xn C) f3 d3
 exc:LV P w K mg base n C "exchange" ["self","row","column"] (Xo C) f4 d4
 WC:LV P w K mg base n C "amounts" ["self"] (Xp C) f5 d5
 WD:LV P w K mg base n C "weights" ["self"] (Xq C) f6 d6
def grT{f1 f2 f3 f4 f5 f6:aA}{d1 d2 d3 d4 d5 d6:aK}(T:TB K C)(G:b9d P w K mg base n C Pt f1 f2 f3 f4 f5 f6 d1 d2 d3 d4 d5 d6)
  (hr:b_ (n+1) (A.deeper (cD "greatest" (i9 S2) s.heap.objs.size f ay))) (BO:b_ n (A.deeper (cD "greatest" (i9 S2) s.heap.objs.size f ay))) :
  {t:TS//fu (N8 J8 P w K mg base ["goal","rows","bounds","board","column","row"] "greatest" (i9 S2) f ay A outer s H E).oi (x9 S2) t} :=
 ⟨_,j0 (r6 (i:=3) EY.nd rfl (aI rfl) (RN G.WA G.ini hr rfl G.mC G.GD .nil v6 (c6 (pv 0) (c6 (pv 1) (c6 (pv 2) c7)))))
  (j0 (r6 (i:=4) EY.nd rfl (aI rfl) (M' (pv 3) T.cl G.Mf.me G.Mf.ok BO G.Mf.bd .nil v6))
  (j0 (P0 hO (l5 Ry (pv 4) D5 (r9 _))
   (j0 (r6 (i:=5) EY.nd rfl (aI rfl) (TQ (pv 3) T.cl G.WB.me G.WB.ok BO G.WB.bd .nil v6 (c6 (pv 4) c7)))
   (j0 (w6 (l5 Lv (pv 5) D5 (r9 _)) (j4 (o4 D5)) r8)
   (j0 (R3 (TQ (pv 3) T.cl G.exc.me G.exc.ok BO G.exc.bd .nil v6 (c6 (pv 5) (c6 (pv 4) c7))))
   (j4 (r6 (i:=4) EY.nd rfl (aI rfl) (M' (pv 3) T.cl G.Mf.me G.Mf.ok BO G.Mf.bd .nil v6)))))))
  (j4 (o4 (A9 (c6 (l8 j5 (l8 j5 (y4 (pv 3) rfl) (Eh V2 d0) (λ_ _=>rfl)) (Eh V2 d0) (λ_ _=>rfl))
   (c6 (M' (pv 3) T.cl G.WC.me G.WC.ok BO G.WC.bd .nil v6) (c6 (M' (pv 3) T.cl G.WD.me G.WD.ok BO G.WD.bd .nil v6) (c6 (y4 (pv 3) rfl) c7)))))))))⟩
end
def si.same(e:af H H')(x:si K H vs rs):si K H' vs rs:=aZ.imp' (λ_ _ ⟨a,z,q⟩=>⟨a,z,e.seq q⟩) x
def b9D(O:Lp.Of m q A b c S)(hM:∀v,Lp.Fits M (m+1) (Lp.Vv m q A b c v))(hb:Lp.ow M (m+1)<2^4000):Sz 4000 m q S :=
 ⟨λi j hi hj=>gU (O.w.Hu hM hi hj) hb,gU (O.w.Ht hM) hb⟩
def Cv(m q:Nat)(S:Lp.Bo)(cv:V):Prop:=(cv=.non/\∀j,j<q->¬S.T m j<0)\/∃c:Nat,cv=.int c/\c<q/\S.T m c<0/\∀i,i<q->S.T m i<0->S.outs c<=S.outs i
theorem a7f(F:Ay K "greatest" S2 f fd)(T:TB K C)(G:b9d P w K mg base n C Pt f1 f2 f3 f4 f5 f6 d1 d2 d3 d4 d5 d6) :
  bf P w K mg base J8 (n+2) f fd ["goal","rows","bounds"] (O5 K C Pt):=by
 refine F.oa EY λay A outer s H vs Q E hr h=>?_;obtain⟨ga,ra,ba,goal,Es,rows,bounds,m,q,M,rfl,hg,Et,Rh,ym,lr,lb,lg,GH,hm,hq,hbn,hM,hB,L,kT,kN⟩:=h;refine⟨_,(grT T G hr (hr.mono dj)).2,_,cm,_,cm,_,cm,λp dx hp WG mm=>?_⟩;have e0:af H (upd (upd H dx (.own p)) p (.ins C dx [])):=λb o q'=>by rw[j3 (i7 q' hp),j3 (i7 q' WG)];exact q'
 refine⟨p,dx,ga,ra,ba,goal,Es,rows,bounds,m,q,cm,ae,e0.seq hg,e0.seq Et,Rh.same e0,e0.seq ym,lr,lb,lg,GH,hm,hq,λH1 ca oa ia rs B k1 Md Me=>⟨cm,?_⟩⟩;have WH:H oa=fO:=by
  cases z:H oa with
  |none=>rfl
  |some o=>rw[e0 _ _ z] at Md;cases Md
 have WI:H ia=fO:=by
  cases z:H ia with
  |none=>rfl
  |some o=>rw[e0 _ _ z] at Me;cases Me
 have s1:=λb o z=>k1 b o (i7 z hp) (e0 _ _ z);have O0:=Lp.of0 (A:=Y8 rows) (c:=M2 goal) (q:=q) hbn;have come:∀(S:Lp.Bo)(ca:aA)(rs:List aA)(H2:Hp)(R:V->Hp->Prop),Bd C H2 p dx ca oa ia rs m q S->LT Pt H2->bj Pt H H2->(∀cv H3,Cv m q S cv->Bd C H3 p dx ca oa ia rs m q S->LT Pt H3->bj Pt H H3->R cv H3) →
   Wr C Pt [.ref p] H2 R E0:=λS ca rs H2 R B2 L2 e2 hR=>by
  refine⟨p,dx,ca,oa,ia,rs,m,q,S,cm,B2,dj,L2,λH3 e3 L3=>?_⟩;have B3:=B2.lam L2 e3;have e4:bj Pt H H3:=λb o hb z=>e3 b o hb (e2 b o hb z);exact⟨λhn=>hR _ _ (.inl ⟨cm,hn⟩) B3 L3 e4,λj hj gs Ax=>hR _ _ (.inr ⟨j,cm,hj,gs,Ax⟩) B3 L3 e4⟩
 refine⟨_,cm,p,dx,_,cm,B.obj,cm,?_⟩;unfold yb;refine come _ _ _ _ _ B (L.same s1) (λb o _ z=>s1 b o z) λcv H2 WJ B2 L2 e2=>?_;obtain⟨kk,hkk⟩:=O0.w.ends hM;refine⟨λj σ H3=>y_ λ(S:Lp.Bo)(ca:aA)(rs:List aA)(cv:V)(o5:Option V)=>σ=[fo (.ref ga),fo (.ref ra),fo (.ref ba),fo (.ref p),fo cv,o5]/\Lp.Of m q (Y8 rows) (M2 bounds) (M2 goal) S/\Lp.Ends m q S j/\Cv m q S cv/\Bd C H3 p dx ca oa ia rs m q S/\LT Pt H3/\bj Pt H H3,
  ⟨kk,_,ca,rs,cv,_,cm,O0,hkk,WJ,B2,L2,e2⟩,?_⟩
 rintro j σ H3 ⟨S,ca,rs,cv,o5,rfl,O,hE,WJ,B3,L3,e3⟩;have sz:=b9D O hM hB;refine⟨_,cm,cm,_,cm,?_⟩;rcases WJ with⟨rfl,hn⟩|⟨c,rfl,hc,gs,Ax⟩
 .refine y6 (λz=>?_) (λ_=>?_)
  .exact absurd z dz
  obtain⟨rm,em,am⟩:=B3.wo;refine⟨_,cm,p,C,dx,_,_,cm,B3.obj,T.cl,T.nC,cm,_,cm,ca,_,_,_,cm,cm,ah.of B3.CQ,am,_,cm,rm,_,_,_,cm,cm,ah.of (B3.row m rm em),QX,_,cm,p,dx,_,cm,B3.obj,cm,p,dx,ca,oa,ia,rs,m,q,S,cm,B3,hm,hq,O.w.ii,λaa H4 e4 haa h4=>?_⟩;have B4:Bd C H4 p dx ca oa ia rs m q S:=B3.fg (P:=Pt) λb o z _=>e4 b o z;refine⟨_,cm,p,dx,_,cm,B4.obj,cm,p,dx,ca,oa,ia,rs,m,q,S,cm,B4,hm,hq,O.w.oo,O.w.ob,λwa H5 e5 hwa h5=>?_⟩;have B5:Bd C H5 p dx ca oa ia rs m q S:=B4.fg (P:=Pt) λb o z _=>e5 b o z;refine⟨_,cm,p,C,dx,_,_,cm,B5.obj,T.cl,T.nS,cm,aw,λt ht=>?_⟩;have e6:=(e4.trans e5).trans (af.new ht (.tup [.int (S.T m q),.ref aa,.ref wa,.int S.d]));refine kT S _ t aa wa O hn sz (λb o hb z=>e6 b o (e3 b o hb z)) (L3.same e6) ae ?_ ?_
  .rw[j3 (i7 (e5 _ _ h4) ht)];exact e5 _ _ h4
  .rw[j3 (i7 h5 ht)];exact h5
 .refine y6 (λ_=>⟨λau H'=>∃j',j'<j/\y_ λ(S:Lp.Bo)(ca:aA)(rs:List aA)(cv:V)(o5:Option V)=>au=[fo (.ref ga),fo (.ref ra),fo (.ref ba),fo (.ref p),fo cv,o5]/\Lp.Of m q (Y8 rows) (M2 bounds) (M2 goal) S/\Lp.Ends m q S j'/\Cv m q S cv/\Bd C H' p dx ca oa ia rs m q S/\LT Pt H'/\bj Pt H H',λau H' z=>z,_,cm,p,dx,_,cm,B3.obj,cm,_,cm,p,dx,ca,oa,ia,rs,m,q,S,c,cm,B3,sz,dj,dj,λOo=>⟨_,cm,cm,_,cm,y6 (λ_=>(kN S H3 O ⟨c,hc,gs,Ax,Oo⟩ e3 L3)) (λz=>absurd (qk rfl) z)⟩,λr IW ur Oq=>?_⟩) (λz=>absurd rfl z)
  .have Ch:Lp.Choice m q S r c:=⟨hc,gs,Ax,IW,ur,λi hi dy=>(Oq i hi dy).1,λi hi dy=>(Oq i hi dy).2⟩;refine⟨_,cm,cm,_,cm,y6 (λz=>absurd (qh z) (by nofun)) (λ_=>⟨_,cm,p,dx,_,cm,B3.obj,cm,_,cm,_,cm,p,dx,ca,oa,ia,rs,m,q,S,r,c,cm,B3,sz,IW,hc,hm,hq,O.w.pos,λH4 Wt mq B4 k4=>?_⟩)⟩;have tk:∀b o,H3 b=fo o->(∀C dx fs,o≠.ins C dx fs)->(∀xs,o≠.lst xs)->H4 b=fo o:=λb o z n1 n2=>k4 b o (λy=>by subst y;rw[B3.obj] at z;exact n1 _ _ _ (bD z).symm) (λy=>by subst y;rw[B3.out] at z;exact n2 _ (bD z).symm) (λy=>by subst y;rw[B3.CS] at z;exact n2 _ (bD z).symm) z;have L4:LT Pt H4:=by
    rcases L3 with t|⟨c',t1,t2⟩
    .exact .inl (tk _ _ t (λ_ _ _=>nofun) λ_=>nofun)
    .exact .inr ⟨c',tk _ _ t1 (λ_ _ _=>nofun) λ_=>nofun,tk _ _ t2 (λ_ _ _=>nofun) λ_=>nofun⟩
   refine⟨_,cm,p,dx,_,cm,B4.obj,cm,come _ _ _ _ _ B4 L4 (λb o hb z=>k4 b o (i7 z hp) (i7 z WH) (i7 z WI) (e3 b o hb z)) λcv' H5 WK B5 L5 e5=>?_⟩;obtain⟨j',om,hE'⟩:=hE.next O.w Ch;exact⟨j',om,_,Wt,mq,cv',_,cm,O.fe Ch,hE',WK,B5,L5,e5⟩
inductive Ri(K:aF)(vs:List V)(H:Hp)(Q:VK)(sH:XK):Prop|mk:∀(a:aA)(ns:List Int)(k:Int),vs=[.ref a,.int k]->ah K H a (ns.map sh)->0<=k->(∀c,Q (.int c) H)->Ri K vs H Q sH
def b7o:p7 ["script","k"] ["script","k"] (i9 VM):=⟨cm,cm,cm,de,cm,de,de⟩
theorem b7c{ns:List Int}(h0:0<=k)(h:k<(gu (ns.map sh):Int)):∃v,U7 (ns.map sh) k=fo (.int v):=by
 have hl:gu (ns.map sh)=gu ns:=aH _;have hk:k.toNat<gu ns:=dj;have ek:k=((k.toNat:Nat):Int):=dj;have q:U7 (ns.map sh) ((k.toNat:Nat):Int)=fo (.int ns[k.toNat]):=A2 (by rw[aP,aS hk];rfl);rw[<-ek] at q;exact⟨_,q⟩
theorem b5t(F:Ay K "_law_cell_at" VM f fd)(T:v8 mg):bf P w K mg base J8 (n+1) f fd ["script","k"] (Ri K):=by
 refine F.oa b7o λay A outer s H vs Q E hr h=>?_;obtain⟨a,ns,k,rfl,hS,h0,q⟩:=h;refine⟨_,j0 (w6 (l5 EI (pv 1) (j7 j6 rfl T.len bB (c6 (pv 0) c7)) (r9 _)) (j4 (o4 (l8 j5 (pv 0) (pv 1) λ_ _=>rfl))) r8)
  (j4 (o4 d0)),?_⟩
 refine⟨_,cm,_,cm,a,_,cm,.inl hS,_,_,cm,cm,_,cm,y6 (λc=>?_) λc=>q 0⟩
 .obtain⟨v,hv⟩:=b7c h0 (qh c);exact⟨_,cm,_,cm,a,_,_,_,cm,cm,hS,hv,q v⟩
inductive Rj(K:aF)(vs:List V)(H:Hp)(Q:VK)(sH:XK):Prop|mk:∀(c:Int)(many:Nat)(b:Int),vs=[.int c,.int (many:Int),.int b]->many<=900->0<b->b<1073741824->(∀r H'(ds:List Int),af H H'->H' r=fo (.lst (ds.map sh))->gu ds=many->(∀d∈ds,0<=d/\d<b)->Q (.ref r) H')->Rj K vs H Q sH
def ic:p7 ["cell","many","base","found","rest","stirred","k"] ["cell","many","base"] (i9 VN):=⟨cm,cm,cm,de,cm,de,de⟩
theorem b1t{n:Nat}(F:Ay K "_law_draws" VN f fd)(T:v8 mg):bf P w K mg base J8 (n+1) f fd ["cell","many","base"] (Rj K):=by
 refine F.oa ic λay A outer s H vs Q E hr h=>?_;obtain⟨c,many,b,rfl,hm,Eu,Kk,q⟩:=h;refine⟨_,j0 (r6 (i:=3) ic.nd rfl (aI rfl) (v9 c7))
  (j0 (r6 (i:=4) ic.nd rfl (aI rfl) (j8 He (pv 0) (v5 TH rfl T.int lJ (c6 (Z3 Qb (pv 0) (j8 Qa d0 d0) (r9 _)) c7))))
  (j0 (r6 (i:=5) ic.nd rfl (aI rfl) (j8 w8 (pv 0) d0))
  (j0 (IF hO rfl (R8 rfl T.range (c6 (j8 D4 (pv 1) d0) c7)) (j9 (i:=6) ic.nd rfl (aI rfl))
   (j0 (r6 (i:=5) ic.nd rfl (aI rfl) (j8 w8 (j8 D4 (j8 D4 (j8 D4 (j8 He (pv 5) (pv 5)) (j8 He d0 (pv 5))) (pv 6)) d0) d0))
    (j4 (w6 (PW.pt (Gv (l5 Ej (pv 6) d0 (r9 _)) (T4 (l5 Ej (pv 4) d0 (r9 _)))))
     (j0 (R3 (K7 iK jW jX P2 (pv 3) (c6 (j8 w8 (pv 4) (pv 2)) c7))) (j4 (r6 (i:=4) ic.nd rfl (aI rfl) (j8 V9 (pv 4) (pv 2)))))
     (j4 (w6 (l5 Ej (pv 6) d0 (r9 _)) (j4 (R3 (K7 iK jW jX P2 (pv 3) (c6 (j8 w8 (j8 V9 (pv 5) d0) (pv 2)) c7)))) r8))))))
  (j4 (o4 (pv 3)))))),?_⟩
 refine⟨aw,λfl LN=>?_⟩;refine⟨_,cm,_,cm,_,_,cm,cm,⟨dz,dz,dz⟩,_,_,cm,cm,.inr ⟨_,cm,_,_,cm,cm,.inr ?_,?_⟩⟩
 .constructor<;>(split<;>decide)
 refine⟨_,cm,_,_,cm,cm,br,?_⟩;refine⟨_,cm,_,_,cm,cm,((many:Int)+3),cm,dj,dj,?_⟩;have e3:((many:Int)+3).toNat=many+3:=dj;rw[e3];refine PZ (n:=many+3) (λi σ H'=>t_ λ(r st:Int)(ds:List Int)(ks:Option V)=>σ=[fo (.int c),fo (.int (many:Int)),fo (.int b),fo (.ref fl),fo (.int r),fo (.int st),ks]/\H'=upd H fl (.lst (ds.map sh))/\gu ds=i-3/\(∀d∈ds,0<=d/\d<b)/\0<=st/\st<2305843009213693951)
  ⟨_,_,[],fO,cm,cm,cm,λd hd=>(by cases hd),fN _ dz,eG _ dz⟩ ?_ ?_
 .rintro i σ H' hi ⟨r,st,ds,ks,rfl,rfl,hl,hd,zi,GJ⟩;refine⟨_,cm,_,cm,_,_,cm,cm,.inl ⟨dj,dj⟩,_,cm,_,_,cm,cm,.inl ⟨dz,dz⟩,_,_,cm,cm,_,cm,_,_,cm,cm,_,_,cm,cm,_,_,cm,cm,br,?_⟩;have Kl:0<=(st*st+48271*st+(0+(i:Int))+1)%2305843009213693951:=fN _ dz;have Km:(st*st+48271*st+(0+(i:Int))+1)%2305843009213693951<2305843009213693951:=eG _ dz;refine⟨_,cm,_,_,cm,cm,_,cm,?_⟩;have hz:gu (ds.map sh)<jb:=by rw[aH];exact t9 dj
  have more:∀d:Int,(ds.map sh)++[sh d]=(ds++[d]).map sh:=λd=>by rw[bQ];rfl
  have mem:∀d:Int,0<=d->d<b->∀d'∈ds++[d],0<=d'/\d'<b:=λd h0 h1 d' zw=>by
   rcases bJ.mp zw with z|z
   .exact hd d' z
   .rw[cJ.mp z];exact⟨h0,h1⟩
  refine y6 (λc1=>?_) (λc1=>?_)
  .have GK:2<0+(i:Int):=qh c1;refine⟨_,cm,_,_,cm,cm,_,cm,?_⟩;refine y6 (λc2=>?_) (λc2=>?_)
   .refine⟨_,cm,.inl ⟨cm,_,ah.of ae⟩,_,cm,_,cm,_,_,cm,cm,Eu,fl,_,_,cm,cm,ae,hz,?_⟩;refine⟨_,cm,_,cm,_,_,cm,cm,⟨Eu,Kk⟩,?_⟩;refine⟨_,_,ds++[r%b],_,cm,?_,?_,mem _ (fN _ dj) (eG _ Eu),Kl,Km⟩
    .rw[Ju,more]
    .rw[aX,fR];lia
   .refine⟨_,cm,_,_,cm,cm,_,cm,?_⟩;refine y6 (λc3=>?_) (λc3=>absurd c1 c3);refine⟨_,cm,.inl ⟨cm,_,ah.of ae⟩,_,cm,_,_,cm,cm,⟨dz,dz⟩,_,cm,_,_,cm,cm,Eu,fl,_,_,cm,cm,ae,hz,?_⟩;refine⟨_,_,ds++[(st*st+48271*st+(0+(i:Int))+1)%2305843009213693951/4096%b],_,cm,?_,?_,mem _ (fN _ dj) (eG _ Eu),Kl,Km⟩
    .rw[Ju,more]
    .rw[aX,fR];lia
  .have GK:¬2<0+(i:Int):=ql (eN.mpr c1);refine M7 ?_;refine⟨_,cm,_,_,cm,cm,_,cm,?_⟩;refine y6 (λc3=>absurd c3 c1) (λc3=>?_);exact⟨_,_,ds,_,cm,cm,dj,hd,Kl,Km⟩
 .intro σ H' cw;refine E8 λG_ cy=>?_;obtain⟨r,st,ds,ks,rfl,rfl,hl,hd,_⟩:=cw;subst cy;exact⟨_,cm,q fl _ ds (af.new LN _) ae dj hd⟩
theorem Mg{n:Nat}(h0:0<=k)(h1:k<(n:Int)):Bz n k=fo k.toNat:=by
 unfold Bz;rw[qg h0,qg h1]
theorem b5O(h0:0<=k)(h1:k<(gu xs:Int)):∃v,v∈xs/\U7 xs k=fo v:=by
 have hk:k.toNat<gu xs:=dj;refine⟨xs[k.toNat],eF hk,?_⟩;unfold U7;rw[Mg h0 h1];exact aS hk
theorem K2{ns:List Int}(h0:0<=k)(h1:k<(gu ns:Int)):∃v,v∈ns/\U7 (ns.map sh) k=fo (.int v):=by
 obtain⟨v,hv,e⟩:=b5O (xs:=ns.map sh) h0 (by simp_all);obtain⟨n,hn,rfl⟩:=aY.mp hv;exact⟨n,hn,e⟩
theorem map_set{ns:List Int}:(ns.map sh).set j (.int v)=(ns.set j v).map sh:=by rw[rZ]
structure HG(far:Int)(kt kg:Nat)(h:i8):Prop where
 lt:gu h.1=kt
 lg:gu h.2=kg
 t:∀x∈h.1,1<=x/\x<=far
 g:∀x∈h.2,0<=x/\x<=far
 p:∃x∈h.2,0<x
inductive Ot(K:aF)(vs:List V)(H:Hp)(Q:VK)(sH:XK):Prop|mk:∀(v:V)(p:aA)(far hi:Int)(h:i8)(ds:List Int)(kt kg:Nat),vs=[v,.ref p,.int far]->HS K H v h->HG hi kt kg h->1<=kt->kt<=4->1<=kg->kg<=4->1<=far->far<=hi->ah K H p (ds.map sh)->10<=gu ds->(∀d∈ds,0<=d)->(∀r H' h',af H H'->HS K H' r h'->HG hi kt kg h'->Q r H')->Ot K vs H Q sH
theorem ig:p7 ["house","picks","far","takes","gives","by","at"] ["house","picks","far"] (i9 VO):=⟨cm,cm,cm,de,cm,de,de⟩
theorem b4M:(["take","by"]:List aC).Nodup:=dz
theorem b4v:(["give","by"]:List aC).Nodup:=dz
theorem b4E(F:Ay K "_law_near" VO f fd)(T:v8 mg):bf P w K mg base J8 (n+1) f fd ["house","picks","far"] (Ot K):=by
 refine F.oa ig λay A outer s H vs Q E hr h=>?_;obtain⟨v,pk,far,hi,h,ds,kt,kg,rfl,⟨a,t,gv,rfl,h0,h1,h2⟩,hG,ij,wx,Ja,wy,CV,hhi,hP,hd12,NX,q⟩:=h;refine⟨_,j0 (D3 (pv 0) (K4 rfl (p6 (j9 (i:=3) ig.nd rfl (aI rfl)) (p6 (j9 (i:=4) ig.nd rfl (aI rfl)) A4))))
  (j0 (r6 (i:=5) ig.nd rfl (fY rfl) (l8 j5 (v9 (c6 d0 (c6 d0 (c6 d0 (c6 d0 c7))))) (j8 w8 (l8 j5 (pv 1) d0 (λ_ _=>rfl)) d0) (λ_ _=>rfl)))
  (t8 (w6 (l5 Ej (j8 He (j7 (Qq rfl) rfl T.max pF (c6 (j8 a9S (pv 3) (pv 4)) c7)) (pv 5)) (pv 2) (r9 _)) (j4 (r6 (i:=5) ig.nd rfl (fY rfl) d0)) r8)
  (j0 (CA (i:=3) ["take"] [5] ig.nd rfl rfl rfl (IE (pv 3)) (λ_ _ _ _=>j9 (i:=0) b4M rfl (aI rfl)) (λ_ _ _ _=>j8 He (pv 0) (pv 1)))
  (j0 (CA (i:=4) ["give"] [5] ig.nd rfl rfl rfl (IE (pv 4)) (λ_ _ _ _=>j9 (i:=0) b4v rfl (aI rfl)) (λ_ _ _ _=>j8 He (pv 0) (pv 1)))
  (t8 (w6 (l5 E6 (j8 w8 (j8 V9 (l8 j5 (pv 1) d0 (λ_ _=>rfl)) d0) d0) d0 (r9 _))
   (j0 (r6 (i:=6) ig.nd rfl (aI rfl) (j8 w8 (l8 j5 (pv 1) d0 (λ_ _=>rfl)) (j7 j6 rfl T.len bB (c6 (pv 3) c7))))
    (j4 (D3 (j7 (Qc rfl) rfl T.min mY (c6 (pv 2) (c6 (j8 D4 (j8 D4 (l8 j5 (pv 3) (pv 6) (λ_ _=>rfl)) (j8 w8 (j8 V9 (l8 j5 (pv 1) d0 (λ_ _=>rfl)) d0) d0)) d0) c7))) (Gy (pv 3) (pv 6) O1)))) r8)
  (t8 (w6 (l5 E6 (j8 w8 (j8 V9 (l8 j5 (pv 1) d0 (λ_ _=>rfl)) d0) d0) d0 (r9 _))
   (j0 (r6 (i:=6) ig.nd rfl (aI rfl) (j8 w8 (l8 j5 (pv 1) d0 (λ_ _=>rfl)) (j7 j6 rfl T.len bB (c6 (pv 4) c7))))
    (j4 (D3 (j7 (Qc rfl) rfl T.min mY (c6 (pv 2) (c6 (j8 D4 (l8 j5 (pv 4) (pv 6) (λ_ _=>rfl)) d0) c7))) (Gy (pv 4) (pv 6) O1)))) r8)
  (j4 (o4 (A9 (c6 (v5 E7 rfl T.tuple hU (c6 (pv 3) c7)) (c6 (v5 E7 rfl T.tuple hU (c6 (pv 4) c7)) c7))))))))))),?_⟩
 obtain⟨d9,hd9,a9⟩:=K2 (ns:=ds) (k:=9) dz dj;obtain⟨d8,hd8,a8⟩:=K2 (ns:=ds) (k:=8) dz dj;have p9:=NX d9 hd9;have p8:=NX d8 hd8;refine⟨_,cm,a,_,cm,h0,cm,_,_,cm,_,_,cm,cm,aw,λlp Rk=>?_⟩;have s1:=af.new Rk (.lst [sh 1,sh 1,sh 2,sh 3]);obtain⟨bv,hbv,abv⟩:=K2 (ns:=[1,1,2,3]) (k:=d9%4) dj (by show d9%4<4;lia);have hb:1<=bv/\bv<=3:=by
  simp at hbv;rcases hbv with rfl|rfl|rfl<;>decide
 refine⟨_,cm,pk,_,9,_,cm,cm,s1.seq hP,a9,_,_,cm,cm,br,lp,_,_,_,cm,cm,ah.of ae,abv,?_⟩;have l1:gu (h.1.map sh)=kt:=by rw[aH];exact hG.lt
 have l2:gu (h.2.map sh)=kg:=by rw[aH];exact hG.lg
 have mm:h.1++h.2≠[]:=λz=>by
  have:=rd iT z;rw[aX,hG.lt] at this;simp at this;lia
 refine⟨λau H'=>∃b:Int,au=[fo (.ref a),fo (.ref pk),fo (.int far),fo (.ref t),fo (.ref gv),fo (.int b),fO]/\af H H'/\(1<=b/\b<=3)/\∀x∈h.1++h.2,x*b<=hi,?_,?_⟩
 .refine⟨_,cm,_,cm,t,gv,_,_,cm,cm,s1.cm h1,s1.cm h2,?_,?_,?_,?_⟩
  .intro z;rw[z] at l1;simp at l1;lia
  .rw[l1,l2];exact gQ (t9 dj)
  .intro z;rw[z] at l2;simp at l2;lia
  .intro _ pc WL;have s2:=af.new WL (.tup (h.1.map sh++h.2.map sh));refine⟨pc,h.1++h.2,cm,.inr (cq.of (by rw[ae,bQ])),mm,λM hM hMx=>⟨_,cm,_,_,cm,cm,.inr ⟨dj,dj⟩,_,cm,_,_,cm,cm,_,cm,y6 (λc=>?_) (λc=>?_)⟩⟩
   .refine⟨1,cm,s1.trans s2,dz,λx hx=>?_⟩;rcases bJ.mp hx with z|z
    .have:=hG.t x z;lia
    .have:=hG.g x z;lia
   .have c':¬far<M*bv:=ql (eN.mpr c);refine⟨bv,cm,s1.trans s2,hb,λx hx=>?_⟩;have:=fH (hMx x hx) (dj:0<=bv);lia
 intro au H2 cw;refine E8 λG_ cy=>?_;obtain⟨b,rfl,e2,hb,hbx⟩:=cw;subst cy;have mulok:EH=EH:=rfl;refine⟨_,cm,t,cm,⟨_,e2.cm h1⟩,λtl Hz=>(O9 (U3 (e2.cm h1)) Hz (by rw[l1];exact t9 dj) (λx=>.int (vI x*b)) (λi x H' N hx e hN=>?_) ?_)⟩
 .obtain⟨k,rfl⟩:=T0 hx;exact⟨Wk.set dz,_,cm,_,cm,_,_,cm,cm,.inr ⟨dj,dj⟩,hN⟩
 have e3:=e2.write (o:=.lst ((h.1.map sh).map λx=>.int (vI x*b))) (e2.free Hz);refine⟨_,cm,gv,cm,⟨_,e3.cm h2⟩,λgl Hm=>(O9 (U3 (e3.cm h2)) Hm (by rw[l2];exact t9 dj) (λx=>.int (vI x*b)) (λi x H' N hx e hN=>?_) ?_)⟩
 .obtain⟨k,rfl⟩:=T0 hx;exact⟨Wk.set dz,_,cm,_,cm,_,_,cm,cm,.inr ⟨dj,dj⟩,hN⟩
 have eA:(h.1.map sh).map (λx=>sh (vI x*b))=(h.1.map (·*b)).map sh:=by rw[bC,bC];rfl
 have eB:(h.2.map sh).map (λx=>sh (vI x*b))=(h.2.map (·*b)).map sh:=by rw[bC,bC];rfl
 have fgl:H gl=fO:=e3.free Hm;have ne1:tl≠gl:=λz=>by rw[<-z,ae] at Hm;cases Hm
 rw[eA,eB];rw[eA] at e3;have e4:=e3.write (o:=.lst ((h.2.map (·*b)).map sh)) fgl;have EZ:upd (upd H2 tl (.lst ((h.1.map (·*b)).map sh))) gl (.lst ((h.2.map (·*b)).map sh)) tl=fo (.lst ((h.1.map (·*b)).map sh)):=by rw[j3 ne1,ae]
 have Rl:upd (upd H2 tl (.lst ((h.1.map (·*b)).map sh))) gl (.lst ((h.2.map (·*b)).map sh)) gl=fo (.lst ((h.2.map (·*b)).map sh)):=ae;generalize upd (upd H2 tl (.lst ((h.1.map (·*b)).map sh))) gl (.lst ((h.2.map (·*b)).map sh))=H4 at e4 EZ Rl⊢;have tA:∀x∈h.1.map (·*b),1<=x/\x<=hi:=λx hx=>by
  obtain⟨y,hy,rfl⟩:=aY.mp hx;have y1:=(hG.t y hy).1;have y3:=wZ y1 hb.1 dz dj;exact⟨by simpa using y3,hbx y (fW _ hy)⟩
 have tB:∀x∈h.2.map (·*b),0<=x/\x<=hi:=λx hx=>by
  obtain⟨y,hy,rfl⟩:=aY.mp hx;exact⟨Int.mul_nonneg (hG.g y hy).1 dj,hbx y (eL _ hy)⟩
 have tP:∃x∈h.2.map (·*b),0<x:=by
  obtain⟨y,hy,y0⟩:=hG.p;exact⟨y*b,aY.mpr ⟨y,hy,cm⟩,gJ y0 dj⟩
 have lA:gu (h.1.map (·*b))=kt:=by rw[aH];exact hG.lt
 have lB:gu (h.2.map (·*b))=kg:=by rw[aH];exact hG.lg
 generalize h.1.map (·*b)=A0 at tA lA EZ;generalize h.2.map (·*b)=B0 at tB lB tP Rl;refine⟨λau H'=>s_ λ(A1:List Int)(ks:Option V)=>au=[fo (.ref a),fo (.ref pk),fo (.int far),fo (.ref tl),fo (.ref gl),fo (.int b),ks]/\af H H'/\H' tl=fo (.lst (A1.map sh))/\H' gl=fo (.lst (B0.map sh))/\gu A1=kt/\∀x∈A1,1<=x/\x<=hi,?_,?_⟩
 .refine⟨_,cm,pk,_,9,_,cm,cm,e4.seq hP,a9,_,_,cm,cm,⟨dz,dz⟩,_,_,cm,cm,br,cm,_,cm,y6 (λc=>?_) (λc=>⟨A0,fO,cm,e4,EZ,Rl,lA,tA⟩)⟩;have WM:gu (A0.map sh)=kt:=by rw[aH];exact lA
  refine⟨_,cm,pk,_,8,_,cm,cm,e4.seq hP,a8,_,cm,tl,_,cm,.inl (ah.of EZ),_,_,cm,cm,(by show(0:Int)<(gu (A0.map sh):Int);rw[WM];lia),?_⟩;have r0:0<=d8%(gu (A0.map sh):Int):=fN _ (by rw[WM];lia);have r1:d8%(gu (A0.map sh):Int)<(gu (A0.map sh):Int):=eG _ (by rw[WM];lia);obtain⟨x,hx,ax⟩:=K2 (ns:=A0) (k:=d8%(gu (A0.map sh):Int)) r0 (by rw[aH] at r1⊢;exact r1);have CC:=tA x hx;refine⟨_,cm,_,cm,_,cm,tl,_,_,_,cm,cm,ah.of EZ,ax,_,cm,pk,_,9,_,cm,cm,e4.seq hP,a9,_,_,cm,cm,⟨dz,dz⟩,_,_,cm,cm,br,_,_,cm,cm,_,_,cm,cm,_,_,cm,_,cm,_,cm,tl,_,_,_,cm,cm,EZ,Mg r0 r1,?_⟩;refine⟨A0.set (d8%(gu (A0.map sh):Int)).toNat _,_,cm,e4.write (e2.free Hz),by rw[ae,map_set],by rw[j3 (bV ne1)];exact Rl,by rw[eE];exact lA,λy hy=>?_⟩;rcases pD hy with z|z
  .exact tA y z
  .rw[z];split<;>lia
 intro au H5 cw;refine E8 λG_ cy=>?_;obtain⟨A1,ks,rfl,e5,at5,Rm,lA1,tA1⟩:=cw;subst cy;refine⟨λau H'=>s_ λ(B1:List Int)(ks:Option V)=>au=[fo (.ref a),fo (.ref pk),fo (.int far),fo (.ref tl),fo (.ref gl),fo (.int b),ks]/\af H H'/\H' tl=fo (.lst (A1.map sh))/\H' gl=fo (.lst (B1.map sh))/\gu B1=kg/\(∀x∈B1,0<=x/\x<=hi)/\∃x∈B1,0<x,?_,?_⟩
 .refine⟨_,cm,pk,_,9,_,cm,cm,e5.seq hP,a9,_,_,cm,cm,⟨dz,dz⟩,_,_,cm,cm,br,cm,_,cm,y6 (λc=>?_) (λc=>⟨B0,ks,cm,e5,at5,Rm,lB,tB,tP⟩)⟩;have Mh:gu (B0.map sh)=kg:=by rw[aH];exact lB
  refine⟨_,cm,pk,_,8,_,cm,cm,e5.seq hP,a8,_,cm,gl,_,cm,.inl (ah.of Rm),_,_,cm,cm,(by show(0:Int)<(gu (B0.map sh):Int);rw[Mh];lia),?_⟩;have r0:0<=d8%(gu (B0.map sh):Int):=fN _ (by rw[Mh];lia);have r1:d8%(gu (B0.map sh):Int)<(gu (B0.map sh):Int):=eG _ (by rw[Mh];lia);obtain⟨x,hx,ax⟩:=K2 (ns:=B0) (k:=d8%(gu (B0.map sh):Int)) r0 (by rw[aH] at r1⊢;exact r1);have CC:=tB x hx;refine⟨_,cm,_,cm,_,cm,gl,_,_,_,cm,cm,ah.of Rm,ax,_,_,cm,cm,_,_,cm,_,cm,_,cm,gl,_,_,_,cm,cm,Rm,Mg r0 r1,?_⟩;have rn:(d8%(gu (B0.map sh):Int)).toNat<gu B0:=by rw[aH] at r1⊢;lia
  refine⟨B0.set (d8%(gu (B0.map sh):Int)).toNat _,_,cm,e5.write fgl,by rw[j3 ne1];exact at5,by rw[ae,map_set],by rw[eE];exact lB,λy hy=>?_,_,xE rn _,?_⟩
  .rcases pD hy with z|z
   .exact tB y z
   .rw[z];split<;>lia
  .split<;>lia
 intro au H6 cw;refine E8 λG_ cy=>?_;obtain⟨B1,ks,rfl,e6,at6,ag6,lB1,tB1,tP1⟩:=cw;subst cy;refine⟨_,cm,tl,_,cm,.inl ⟨ah.of at6,λpt Ou=>?_⟩⟩;have f1:=af.new Ou (.tup (A1.map sh));refine⟨_,cm,gl,_,cm,.inl ⟨ah.of (f1 _ _ ag6),λpg WN=>?_⟩⟩;have f2:=af.new WN (.tup (B1.map sh));refine⟨aw,λpr HA=>?_⟩;have f3:=af.new HA (.tup [sy pt,sy pg]);exact q _ _ (A1,B1) (e6.trans (f1.trans (f2.trans f3))) ⟨pr,pt,pg,cm,cq.of ae,cq.of (f3 _ _ (f2 _ _ ae)),cq.of (f3 _ _ ae)⟩ ⟨lA1,lB1,tA1,tB1,tP1⟩
end sC
namespace sC
open PySem
abbrev d1Z:Pos:=⟨288,40,288,104⟩
end sC
namespace L2
open PySem
def ng(H H':Hp):Prop:=∀b o,H b=fo o->(∀xs,o≠.lst xs)->H' b=fo o
theorem ng.upd(h:H b=fo (.lst ys)):ng H (upd H b o):=λc u q n=>by
 have:c≠b:=λz=>by rw[z,h] at q;exact n ys (bD q).symm
 rw[j3 this];exact q
theorem ng.cm(e:ng H H')(h:cq K H a xs):cq K H' a xs:=by
 rcases h with(h|⟨o,h⟩)|h
 .exact .inl (.inl (e _ _ h λ_ z=>nomatch z))
 .exact .inl (.inr ⟨o,e _ _ h λ_ z=>nomatch z⟩)
 .exact .inr h
end L2
namespace sC
open PySem L2
theorem HS.keep(e:ng H H')(x:HS K H v h):HS K H' v h:=by
 obtain⟨a,t,g,h0,h1,h2,h3⟩:=x;exact⟨a,t,g,h0,e.cm h1,e.cm h2,e.cm h3⟩
def Bk.keep(e:ng H H')(x:Bk K H vs hs):Bk K H' vs hs:=aZ.imp' (λ_ _ r=>HS.keep e r) x
def WO(ns:List Int):dI:=.tuple (ns.map gM)
def Y5(h:i8):dI:=.tuple [WO h.1,WO h.2]
theorem WQ:∀ns:List Int,qc K H (ns.map sh) (ns.map gM)
 |[]=>.nil
 |n::r=>.cons (.int n) (WQ r)
theorem HS.dp(x:HS K H v h):Dp K H v (Y5 h):=by
 obtain⟨a,t,g,rfl,h1,h2,h3⟩:=x;exact .tup h1 (.cons (.tup h2 (WQ _)) (.cons (.tup h3 (WQ _)) .nil))
theorem Bk.dps:∀{vs}{hs},Bk K H vs hs->qc K H vs (hs.map Y5)
 |_,_,.nil=>.nil
 |_,_,.cons x r=>.cons x.dp (Bk.dps r)
theorem WR:∀ns:List Int,cP (ns.map gM)=true
 |[]=>by rw[jY,cP]
 |n::r=>by rw[cS,cP,WR r,fU];rfl
theorem WS h:(Y5 h).canLay0=true:=by
 unfold Y5 WO;rw[fU,cP,fU,WR,cP,fU,WR,cP];rfl
theorem a7E:∀hs:List i8,cP (hs.map Y5)=true
 |[]=>by rw[jY,cP]
 |h::r=>by rw[cS,cP,WS,a7E r];rfl
section
variable{P:aM}{w:aL}{K:aF}{mg:aC->Option aE}{base:aJ}{f g:aA}{fd gd:aK}
inductive XB(K:aF)(vs:List V)(H:Hp)(Q:VK)(sH:XK):Prop|mk:∀(a:aA)(ns:List Int)(at' most far:Int),vs=[.ref a,.int at',.int most,.int far]->ah K H a (ns.map sh)->0<=at'->1<=most->most<=900->1<=far->(∀(r:aA)(H':Hp)(xs:List V)(hs:List i8)(kt kg:Nat),af H H'->H' r=fo (.lst xs)->Bk K H' xs hs->1<=gu hs->(gu hs:Int)<=most->1<=kt->kt<=4->1<=kg->kg<=4->(∀h∈hs,HG far kt kg h)->Q (.ref r) H')->XB K vs H Q sH
theorem dq:p7 ["script","at","most","far","heads","kinds","many","size","book","k","picks","takes","some","gives","house"] ["script","at","most","far"] (i9 LR):=⟨cm,cm,cm,de,cm,de,de⟩
theorem a8W:(["pick","size"]:List aC).Nodup:=de
def abT{n:Nat}{fc fw fn:aA}{dc dw dn:aK}{ay:aE}{A:aV}{outer:List Env}{s:aG}{H:Hp}{E:XK}(T:v8 mg)
  (Gc:bf P w K mg base J8 n fc dc ["script","k"] (Ri K)) (bc:Binds K dc ["script","k"] []) (kc:dX K (.ref fc)=true) (mc:mg "_law_cell_at"=fo (.ref fc))
  (Gw:bf P w K mg base J8 n fw dw ["cell","many","base"] (Rj K)) (bw:Binds K dw ["cell","many","base"] []) (kw:dX K (.ref fw)=true) (mw:mg "_law_draws"=fo (.ref fw))
  (Gn:bf P w K mg base J8 n fn dn ["house","picks","far"] (Ot K)) (bn:Binds K dn ["house","picks","far"] []) (kn:dX K (.ref fn)=true) (mn:mg "_law_near"=fo (.ref fn))
  (hr:b_ n (A.deeper (cD "_law_a_book" (i9 LR) s.heap.objs.size f ay))) :
  {t:TS//fu (N8 J8 P w K mg base ["script","at","most","far","heads","kinds","many","size","book","k","picks","takes","some","gives","house"] "_law_a_book" (i9 LR) f ay A outer s H E).oi (x9 LR) t} :=
 ⟨_,j0 (r6 (i:=4) dq.nd rfl (aI rfl) (l7 Gw hr rfl mw kw bw .nil v6 (c6 (l7 Gc hr rfl mc kc bc .nil v6 (c6 (pv 0) (c6 (pv 1) c7))) (c6 d0 (c6 d0 c7)))))
  (t8 (r6 (i:=5) dq.nd rfl (aI rfl) (v9 (c6 (j8 D4 d0 (j8 w8 (l8 j5 (pv 4) d0 (λ_ _=>rfl)) (l8 j5 (v9 (c6 d0 (c6 d0 c7))) (j8 w8 (l8 j5 (pv 4) d0 (λ_ _=>rfl)) d0) (λ_ _=>rfl))))
   (c6 (j8 D4 d0 (j8 w8 (l8 j5 (pv 4) d0 (λ_ _=>rfl)) (l8 j5 (v9 (c6 d0 (c6 d0 c7))) (j8 w8 (l8 j5 (pv 4) d0 (λ_ _=>rfl)) d0) (λ_ _=>rfl)))) c7))))
  (t8 (r6 (i:=6) dq.nd rfl (aI rfl) (j8 D4 d0 (j8 w8 (l8 j5 (pv 4) d0 (λ_ _=>rfl)) (l8 j5 (v9 (c6 (pv 2) (c6 (j7 (Qc rfl) rfl T.min mY (c6 (pv 2) (c6 d0 c7))) c7))) (j8 V9 (j8 w8 (l8 j5 (pv 4) d0 (λ_ _=>rfl)) d0) d0) (λ_ _=>rfl)))))
  (t8 (r6 (i:=7) dq.nd rfl (fY rfl) (j7 (Qc rfl) rfl T.min mY (c6 (pv 3) (c6 (l8 j5 (v9 (c6 d0 (c6 d0 (c6 d0 (c6 d0 (c6 (j8 Qa d0 d0) c7)))))) (j8 w8 (l8 j5 (pv 4) d0 (λ_ _=>rfl)) d0) (λ_ _=>rfl)) c7))))
  (j0 (r6 (i:=8) dq.nd rfl (aI rfl) (v9 c7))
  (j0 (IF hO rfl (R8 rfl T.range (c6 (pv 6) c7)) (j9 (i:=9) dq.nd rfl (aI rfl))
   (t8 (r6 (i:=10) dq.nd rfl (aI rfl) (l7 Gw hr rfl mw kw bw .nil v6 (c6 (j8 D4 (l7 Gc hr rfl mc kc bc .nil v6 (c6 (pv 0) (c6 (j8 D4 (pv 1) d0) c7))) (j8 He (pv 9) (j8 D4 (l8 j5 (pv 4) d0 (λ_ _=>rfl)) d0))) (c6 d0 (c6 (j8 Qa d0 d0) c7)))))
   (t8 (r6 (i:=11) dq.nd rfl (aI rfl) (v5 E7 rfl T.tuple hU (c6 (N6 ["pick"] [7] rfl (C6 (B7 M0 (pv 10) G1 (B8 (l8 j5 (pv 5) d0 (λ_ _=>rfl))))) (λ_ _ _ _=>j9 (i:=0) a8W rfl (aI rfl)) (λ_ _ _ _=>j8 D4 d0 (j8 w8 (pv 0) (pv 1)))) c7)))
   (j0 (r6 (i:=12) dq.nd rfl (aI rfl) (B7 M0 (pv 10) (B8 d0) (B8 (j8 D4 d0 (l8 j5 (pv 5) d0 (λ_ _=>rfl))))))
   (t8 (CA (i:=13) ["pick"] [7] dq.nd rfl rfl rfl (C6 (pv 12)) (λ_ _ _ _=>j9 (i:=0) a8W rfl (aI rfl)) (λ_ _ _ _=>j8 He (j8 w8 (pv 0) (j8 D4 (pv 1) d0)) (v5 TH rfl T.int lJ (c6 (Z3 Ej (j8 w8 (pv 0) d0) d0 (r9 _)) c7))))
   (t8 (w6 (l5 E6 (j7 (Qq rfl) rfl T.max pF (c6 (pv 13) c7)) d0 (r9 _)) (j4 (D3 (j8 D4 d0 (j8 w8 (l8 j5 (pv 10) d0 (λ_ _=>rfl)) (pv 7))) (Gy (pv 13) (j8 w8 (l8 j5 (pv 10) d0 (λ_ _=>rfl)) (l8 j5 (pv 5) d0 (λ_ _=>rfl))) O1))) r8)
   (t8 (r6 (i:=14) dq.nd rfl (aI rfl) (A9 (c6 (pv 11) (c6 (v5 E7 rfl T.tuple hU (c6 (pv 13) c7)) c7))))
   (t8 (w6 (PW.pt (Gv (l5 (JU hr) (pv 8) (v9 c7) (r9 _)) (T4 (l5 E6 (j8 w8 (l8 j5 (pv 10) d0 (λ_ _=>rfl)) d0) d0 (r9 _)))))
    (j4 (r6 (i:=14) dq.nd rfl (aI rfl) (l7 Gn hr rfl mn kn bn .nil v6 (c6 (l8 j5 (pv 8) (j8 w8 (l8 j5 (pv 10) d0 (λ_ _=>rfl)) (j7 j6 rfl T.len bB (c6 (pv 8) c7))) (λ_ _=>rfl)) (c6 (pv 10) (c6 (pv 3) c7)))))) r8)
   (j4 (R3 (K7 iK jW jX P2 (pv 8) (c6 (pv 14) c7))))))))))))
  (j4 (o4 (pv 8))))))))⟩
end
theorem b3t(F:Ay K "_law_a_book" LR f fd)(T:v8 mg)
  (Gc:bf P w K mg base J8 n fc dc ["script","k"] (Ri K)) (bc:Binds K dc ["script","k"] []) (kc:dX K (.ref fc)=true) (mc:mg "_law_cell_at"=fo (.ref fc))
  (Gw:bf P w K mg base J8 n fw dw ["cell","many","base"] (Rj K)) (bw:Binds K dw ["cell","many","base"] []) (kw:dX K (.ref fw)=true) (mw:mg "_law_draws"=fo (.ref fw))
  (Gn:bf P w K mg base J8 n fn dn ["house","picks","far"] (Ot K)) (bn:Binds K dn ["house","picks","far"] []) (kn:dX K (.ref fn)=true) (mn:mg "_law_near"=fo (.ref fn)) :
  bf P w K mg base J8 (n+1) f fd ["script","at","most","far"] (XB K):=by
 refine F.oa dq λay A outer s H vs Q E hr h=>?_;obtain⟨a,ns,at',most,far,rfl,hS,hat,Iu,DU,CV,q⟩:=h;refine⟨_,(abT T Gc bc kc mc Gw bw kw mw Gn bn kn mn hr).2,_,cm,_,cm,a,ns,at',cm,hS,hat,λc=>⟨c,8,1000,cm,dz,dz,dz,λhl H1 hd e1 HB hlen hb=>?_⟩⟩;have zw:∀k:Int,0<=k->k<8->∃v,v∈hd/\U7 (hd.map sh) k=fo (.int v):=λk k0 k1=>K2 k0 dj;obtain⟨x0,m0,a0⟩:=zw 0 dz dz;obtain⟨x1,m1,a1⟩:=zw 1 dz dz;obtain⟨x2,m2,a2⟩:=zw 2 dz dz;obtain⟨x3,m3,a3⟩:=zw 3 dz dz;obtain⟨x4,m4,a4⟩:=zw 4 dz dz;obtain⟨x5,m5,a5⟩:=zw 5 dz dz;obtain⟨x7,m7,a7⟩:=zw 7 dz dz;have b0:=hb x0 m0;have b1:=hb x1 m1;have b3:=hb x3 m3;have b4:=hb x4 m4;have b5:=hb x5 m5;have b7:=hb x7 m7;refine⟨λau H'=>tq λ(kl:aA)(kt kg:Nat)=>au=[fo (.ref a),fo (.int at'),fo (.int most),fo (.int far),fo (.ref hl),fo (.ref kl),fO,fO,fO,fO,fO,fO,fO,fO,fO]/\af H1 H'/\H' kl=fo (.lst [.int (kt:Int),.int (kg:Int)])/\1<=kt/\kt<=4/\1<=kg/\kg<=4,?_,?_⟩
 .have two:∀y:Int,0<=y->∃z:Int,(z=4\/z=2)/\U7 [sh 4,sh 2] (y%2)=fo (.int z):=λy hy=>by
   obtain⟨z,hz,az⟩:=K2 (ns:=[4,2]) (k:=y%2) dj (by show y%2<2;lia);exact⟨z,by simpa using hz,az⟩
  obtain⟨z1,hz1,az1⟩:=two x2 (hb x2 m2).1;refine⟨_,cm,hl,_,0,_,cm,cm,ah.of HB,a0,aw,λl1 Aw=>?_⟩;have s1:=af.new Aw (.lst [sh 4,sh 2]);refine⟨_,cm,hl,_,2,_,cm,cm,ah.of (s1 _ _ HB),a2,_,_,cm,cm,br,l1,_,_,_,cm,cm,ah.of ae,az1,_,_,cm,cm,(by show(0:Int)<z1;lia),_,_,cm,cm,_,cm,hl,_,1,_,cm,cm,ah.of (s1 _ _ HB),a1,aw,λl2 j_=>?_⟩;have s2:=af.new j_ (.lst [sh 4,sh 2]);refine⟨_,cm,hl,_,2,_,cm,cm,ah.of (s2 _ _ (s1 _ _ HB)),a2,_,_,cm,cm,br,l2,_,_,_,cm,cm,ah.of ae,az1,_,_,cm,cm,(by show(0:Int)<z1;lia),_,_,cm,cm,aw,λkl iw=>?_⟩;have p0:0<=x0%z1/\x0%z1<z1:=⟨Int.emod_nonneg _ dj,eG _ dj⟩;have p1:0<=x1%z1/\x1%z1<z1:=⟨Int.emod_nonneg _ dj,eG _ dj⟩;refine⟨kl,(1+x0%z1).toNat,(1+x1%z1).toNat,cm,s1.trans (s2.trans (af.new iw (.lst [sh (1+x0%z1),sh (1+x1%z1)]))),?_,dj,dj,dj,dj⟩;rw[ae,sA dj,sA dj]
 intro au H2 cw;refine E8 λG_ cy=>?_;obtain⟨kl,kt,kg,rfl,e2,iw,ij,wx,Ja,wy⟩:=cw;subst cy;have WT:=e2 _ _ HB;refine⟨λau H'=>∃(many:Nat),au=[fo (.ref a),fo (.int at'),fo (.int most),fo (.int far),fo (.ref hl),fo (.ref kl),fo (.int (many:Int)),fO,fO,fO,fO,fO,fO,fO,fO]/\af H2 H'/\1<=many/\(many:Int)<=most,?_,?_⟩
 .refine⟨_,cm,hl,_,3,_,cm,cm,ah.of WT,a3,_,cm,_,cm,_,_,cm,aw,λl1 Aw=>?_⟩;have s1:=af.new Aw (.lst [sh most,sh (if 4<most then 4 else most)]);obtain⟨z,hz,az⟩:=K2 (ns:=[most,if 4<most then 4 else most]) (k:=x4%3/2) dj (by show x4%3/2<2;lia);have Ov:1<=z/\z<=most:=by
   simp only[bH,dJ,or_false] at hz;rcases hz with rfl|rfl
   .lia
   .split<;>lia
  refine⟨_,cm,hl,_,4,_,cm,cm,ah.of (s1 _ _ WT),a4,_,_,cm,cm,br,_,_,cm,cm,⟨dz,dz⟩,l1,_,_,_,cm,cm,ah.of ae,az,_,_,cm,cm,(by show(0:Int)<z;lia),_,_,cm,cm,?_⟩;have p0:0<=x3%z/\x3%z<z:=⟨Int.emod_nonneg _ dj,eG _ dj⟩;refine⟨(1+x3%z).toNat,?_,s1,dj,dj⟩;rw[sA dj];rfl
 intro au H3 cw;refine E8 λG_ cy=>?_;obtain⟨many,rfl,e3,mn1,mn2⟩:=cw;subst cy;have hh3:=e3 _ _ WT;refine⟨λau H'=>∃(size:Int),au=[fo (.ref a),fo (.int at'),fo (.int most),fo (.int far),fo (.ref hl),fo (.ref kl),fo (.int (many:Int)),fo (.int size),fO,fO,fO,fO,fO,fO,fO]/\af H3 H'/\1<=size/\size<=far/\size<=1000000000,?_,?_⟩
 .refine⟨_,cm,_,_,cm,cm,⟨dz,dz,dz⟩,aw,λl1 Aw=>?_⟩;have s1:=af.new Aw (.lst [sh 4,sh 9,sh 50,sh 1000,sh (10^(9:Int).toNat)]);obtain⟨z,hz,az⟩:=K2 (ns:=[4,9,50,1000,10^(9:Int).toNat]) (k:=x5%5) dj (by show x5%5<5;lia);have Ov:1<=z/\z<=1000000000:=by
   have e9:(10:Int)^(9:Int).toNat=1000000000:=dz;rw[e9] at hz;simp only[bH,dJ,or_false] at hz;rcases hz with rfl|rfl|rfl|rfl|rfl<;>decide
  refine⟨_,cm,hl,_,5,_,cm,cm,ah.of (s1 _ _ hh3),a5,_,_,cm,cm,br,l1,_,_,_,cm,cm,ah.of ae,az,_,_,cm,?_⟩;refine⟨_,cm,s1,?_,?_,?_⟩<;>(split<;>lia)
 intro au H4 cw;refine E8 λG_ cy=>?_;obtain⟨size,rfl,e4,sz1,szf,sz9⟩:=cw;subst cy;have Ew:af H H4:=e1.trans (e2.trans (e3.trans e4));refine⟨aw,λbl hbl=>⟨_,cm,(many:Int),cm,dj,dj,?_⟩⟩;rw[cF];refine PZ (n:=many) (λi σ H'=>yM λ(xs:List V)(hs:List i8)(o9 HC BP ux:Option V)=>s_ λ(CW zj:Option V)=>σ=[fo (.ref a),fo (.int at'),fo (.int most),fo (.int far),fo (.ref hl),fo (.ref kl),fo (.int (many:Int)),fo (.int size),fo (.ref bl),o9,HC,BP,ux,CW,zj]/\
   af H4 H'/\H' bl=fo (.lst xs)/\Bk K H' xs hs/\gu hs=i/\∀h∈hs,HG far kt kg h)
  ⟨[],[],_,_,_,_,_,_,cm,af.new hbl _,ae,.nil,cm,λh hh=>(by cases hh)⟩ ?_ ?_
 .rintro i σ H5 hi ⟨xs,hs,o9,HC,BP,ux,CW,zj,rfl,e5,Mi,hB,BN,hG⟩;have hh5:=e5 _ _ (e4 _ _ hh3);have xlen:gu xs=gu hs:=dE hB;have ak1:U7 [sh (kt:Int),sh (kg:Int)] 1=fo (.int (kg:Int)):=A2 (j:=1) rfl;refine⟨λau H'=>s_ λ(pl:aA)(ds:List Int)=>au=[fo (.ref a),fo (.int at'),fo (.int most),fo (.int far),fo (.ref hl),fo (.ref kl),fo (.int (many:Int)),fo (.int size),fo (.ref bl),fo (.int (0+(i:Int))),fo (.ref pl),BP,ux,CW,zj]/\af H5 H'/\H' pl=fo (.lst (ds.map sh))/\gu ds=12/\∀d∈ds,0<=d,?_,?_⟩
  .exact⟨_,cm,_,cm,_,_,cm,cm,a,ns,at'+1,cm,(Ew.trans e5).seq hS,dj,λc=>⟨_,cm,_,cm,hl,_,7,_,cm,cm,ah.of hh5,a7,_,_,cm,cm,_,_,cm,cm,.inl ⟨dj,dj⟩,_,_,cm,cm,_,_,cm,cm,⟨dz,dz,dz⟩,_,12,_,cm,dz,dz,dz,λpl H6 ds e6 Rn l6 d6=>⟨pl,ds,cm,e6,Rn,l6,λd hd=>(d6 d hd).1⟩⟩⟩
  intro au H6 cw;refine E8 λG_ cy=>?_;obtain⟨pl,ds,rfl,e6,Rn,l6,d6⟩:=cw;subst cy;have hh6:=e6 _ _ hh5;have hk6:=e6 _ _ (e5 _ _ (e4 _ _ (e3 _ _ iw)));have pk:∀k:Int,0<=k->k<12->∃v,v∈ds/\U7 (ds.map sh) k=fo (.int v):=λk k0 k1=>K2 k0 dj;obtain⟨y8,n8,c8⟩:=pk 8 dz dz;obtain⟨y9,n9,c9⟩:=pk 9 dz dz;obtain⟨y10,WU,c10⟩:=pk 10 dz dz;obtain⟨Ow,WV,c11⟩:=pk 11 dz dz;have g8:=d6 _ n8;have g9:=d6 _ n9;have g10:=d6 _ WU;have WW:=d6 _ WV;have dl:gu (ds.map sh)=12:=by rw[aH];exact l6
  refine⟨λau H'=>s_ λ(tp:aA)(At:List Int)=>au=[fo (.ref a),fo (.int at'),fo (.int most),fo (.int far),fo (.ref hl),fo (.ref kl),fo (.int (many:Int)),fo (.int size),fo (.ref bl),fo (.int (0+(i:Int))),fo (.ref pl),fo (.ref tp),ux,CW,zj]/\af H6 H'/\H' tp=fo (.tup (At.map sh))/\gu At=kt/\∀x∈At,1<=x/\x<=far,?_,?_⟩
  .have ec:P5 (ds.map sh) fO (fo (kt:Int))=(ds.take kt).map sh:=by
    unfold P5;rw[HT.rp,HT.gy,dl,oY,pG];congr 1;lia
   refine⟨_,cm,_,cm,kl,_,0,_,cm,cm,ah.of hk6,A2 (j:=0) rfl,_,cm,pl,_,cm,ah.of Rn,λcp hcp=>?_⟩;rw[ec];refine⟨cp,cm,⟨_,ah.of ae⟩,λlp Rk=>(O9 (A3 (ah.of ae)) Rk (by rw[aH,cI];exact t9 dj) (λx=>.int (1+vI x%size)) (λj x H' N hx e hN=>?_) ?_)⟩
   .obtain⟨k,rfl⟩:=T0 hx;exact⟨Wk.set dz,_,cm,_,cm,_,_,cm,cm,(by show(0:Int)<size;lia),_,_,cm,cm,hN⟩
   .have eA:((ds.take kt).map sh).map (λx=>sh (1+vI x%size))=((ds.take kt).map λd=>1+d%size).map sh:=by rw[bC,bC];rfl
    rw[eA];refine⟨lp,_,cm,.inl ⟨ah.of ae,λtp UC=>⟨tp,(ds.take kt).map λd=>1+d%size,cm,(af.new hcp (.lst ((ds.take kt).map sh))).trans ((af.new Rk (.lst (((ds.take kt).map λd=>1+d%size).map sh))).trans (af.new UC _)),ae,by rw[aH,cI];lia,λx hx=>?_⟩⟩⟩;obtain⟨d,_,rfl⟩:=aY.mp hx;have p0:0<=d%size/\d%size<size:=⟨Int.emod_nonneg _ dj,eG _ dj⟩;lia
  intro au H7 cw;refine E8 λG_ cy=>?_;obtain⟨tp,At,rfl,e7,ht7,lAt,tAt⟩:=cw;subst cy;have WX:=e7 _ _ Rn;have hk7:=e7 _ _ hk6;have hb7:=e7 _ _ (e6 _ _ Mi);have ec:P5 (ds.map sh) (fo 4) (fo (4+(kg:Int)))=((ds.drop 4).take kg).map sh:=by
   unfold P5;have z1:HT.wc (gu (ds.map sh)) 0 (fo 4)=4:=by
    have:=HT.gy (gu (ds.map sh)) 0 4;rw[dl] at this⊢;exact this
   have z2:HT.wc (gu (ds.map sh)) (gu (ds.map sh)) (fo (4+(kg:Int)))=4+kg:=by
    have:=HT.gy (gu (ds.map sh)) (gu (ds.map sh)) (4+kg);rw[dl] at this⊢;rw[(dj:(4:Int)+(kg:Int)=((4+kg:Nat):Int)),this];lia
   rw[z1,z2,pG,pH];congr 1;lia
  refine⟨_,cm,_,cm,_,cm,kl,_,1,_,cm,cm,ah.of hk7,ak1,_,_,cm,cm,_,cm,pl,_,cm,ah.of WX,λsp iu=>?_⟩;rw[ec];have s7:=af.new iu (.lst (((ds.drop 4).take kg).map sh));refine⟨λau H'=>tq λ(gp:aA)(Bs:List Int)(ux:Option V)=>au=[fo (.ref a),fo (.int at'),fo (.int most),fo (.int far),fo (.ref hl),fo (.ref kl),fo (.int (many:Int)),fo (.int size),fo (.ref bl),fo (.int (0+(i:Int))),fo (.ref pl),fo (.ref tp),ux,fo (.ref gp),zj]/\af H7 H'/\H7 gp=fO/\H' gp=fo (.lst (Bs.map sh))/\gu Bs=kg/\∀x∈Bs,0<=x/\x<=far,?_,?_⟩
  .refine⟨_,cm,sp,cm,⟨_,ah.of ae⟩,λgp WY=>(O9 (A3 (ah.of ae)) WY (by rw[aH,cI];exact t9 dj) (λx=>.int (vI x%(size+1)*(if decide (0<vI x%7)=true then 1 else 0))) (λj x H' N hx e hN=>?_) ?_)⟩
   .obtain⟨k,rfl⟩:=T0 hx;refine⟨Wk.set dz,_,cm,_,cm,_,_,cm,cm,_,_,cm,cm,(by show(0:Int)<size+1;lia),_,cm,_,_,cm,cm,br,_,_,cm,cm,.inr ⟨_,cm,_,_,cm,cm,.inr ?_,hN⟩⟩;constructor<;>(split<;>decide)
   .have eB:(((ds.drop 4).take kg).map sh).map (λx=>sh (vI x%(size+1)*(if decide (0<vI x%7)=true then 1 else 0)))=(((ds.drop 4).take kg).map λd=>d%(size+1)*(if decide (0<d%7)=true then 1 else 0)).map sh:=by rw[bC,bC];rfl
    rw[eB];refine⟨gp,_,_,cm,s7.trans (af.new WY _),s7.free WY,ae,by rw[aH,cI,eJ];lia,λx hx=>?_⟩;obtain⟨d,_,rfl⟩:=aY.mp hx;have p0:0<=d%(size+1)/\d%(size+1)<size+1:=⟨Int.emod_nonneg _ dj,eG _ dj⟩;split<;>lia
  intro au H8 cw;refine E8 λG_ cy=>?_;obtain⟨gp,Bs,o12',rfl,e8,f8,WZ,Ox,W_⟩:=cw;subst cy;have hp8:=e8 _ _ WX;have Mh:gu (Bs.map sh)=kg:=by rw[aH];exact Ox
  refine⟨λau H'=>s_ λ(Bs:List Int)(ux:Option V)=>au=[fo (.ref a),fo (.int at'),fo (.int most),fo (.int far),fo (.ref hl),fo (.ref kl),fo (.int (many:Int)),fo (.int size),fo (.ref bl),fo (.int (0+(i:Int))),fo (.ref pl),fo (.ref tp),ux,fo (.ref gp),zj]/\af H7 H'/\H' gp=fo (.lst (Bs.map sh))/\gu Bs=kg/\(∀x∈Bs,0<=x/\x<=far)/\∃x∈Bs,0<x,?_,?_⟩
  .refine⟨_,cm,gp,Bs,cm,.inl (ah.of WZ),(λz=>by rw[z] at Ox;simp at Ox;lia),λM hM hMx=>⟨cm,_,cm,y6 (λc=>?_) (λc=>?_)⟩⟩
   .refine⟨_,cm,pl,_,9,_,cm,cm,ah.of hp8,c9,_,cm,_,_,cm,cm,(by show(0:Int)<size;lia),_,_,cm,cm,_,cm,_,cm,pl,_,8,_,cm,cm,ah.of hp8,c8,_,cm,kl,_,1,_,cm,cm,ah.of (e8 _ _ hk7),ak1,_,_,cm,cm,(by show(0:Int)<(kg:Int);lia),?_⟩;have r0:0<=y8%(kg:Int):=fN _ dj;have r1:y8%(kg:Int)<(gu (Bs.map sh):Int):=by rw[Mh];exact eG _ dj
    have rn:(y8%(kg:Int)).toNat<gu Bs:=by rw[Mh] at r1;lia
    have p0:0<=y9%size/\y9%size<size:=⟨Int.emod_nonneg _ dj,eG _ dj⟩;refine⟨gp,_,_,_,cm,cm,WZ,Mg r0 r1,Bs.set (y8%(kg:Int)).toNat _,_,cm,e8.write f8,by rw[ae,map_set],by rw[eE];exact Ox,λx hx=>?_,_,xE rn _,dj⟩;rcases pD hx with z|z
    .exact W_ x z
    .lia
   .have c':¬M=0:=λz=>c (qk (by rw[z]));have:=W_ M hM;exact⟨Bs,_,cm,e8,WZ,Ox,W_,M,hM,dj⟩
  intro au H9 cw;refine E8 λG_ cy=>?_;obtain⟨Bt,Jb,rfl,e9,hg9,lBt,tBt,tPt⟩:=cw;subst cy;refine⟨λau H'=>tq λ(v:V)(h:i8)(ux:Option V)=>au=[fo (.ref a),fo (.int at'),fo (.int most),fo (.int far),fo (.ref hl),fo (.ref kl),fo (.int (many:Int)),fo (.int size),fo (.ref bl),fo (.int (0+(i:Int))),fo (.ref pl),fo (.ref tp),ux,fo (.ref gp),fo v]/\af H7 H'/\HS K H' v h/\HG far kt kg h,?_,?_⟩
  .refine⟨_,cm,_,cm,gp,_,cm,.inl ⟨ah.of hg9,λpg WN=>?_⟩⟩;have f1:=af.new WN (.tup (Bt.map sh));refine⟨aw,λpr HA=>?_⟩;have f2:=af.new HA (.tup [sy tp,sy pg]);exact⟨_,(At,Bt),_,cm,e9.trans (f1.trans f2),⟨pr,tp,pg,cm,cq.of ae,cq.of (f2 _ _ (f1 _ _ (e9 _ _ ht7))),cq.of (f2 _ _ ae)⟩,⟨lAt,lBt,tAt,tBt,tPt⟩⟩
  intro au JS cw;refine E8 λG_ cy=>?_;obtain⟨v,h,Jb,rfl,GL,hv,Ro⟩:=cw;subst cy;refine⟨λau H'=>tq λ(v:V)(h:i8)(ux:Option V)=>au=[fo (.ref a),fo (.int at'),fo (.int most),fo (.int far),fo (.ref hl),fo (.ref kl),fo (.int (many:Int)),fo (.int size),fo (.ref bl),fo (.int (0+(i:Int))),fo (.ref pl),fo (.ref tp),ux,fo (.ref gp),fo v]/\af H5 H'/\HS K H' v h/\HG far kt kg h,?_,?_⟩
  .refine⟨_,cm,aw,λep hep=>?_⟩;have f1:=af.new hep (.lst []);have Az:=((e6.trans e7).trans GL).trans f1;refine⟨.list (hs.map Y5),.list [],.lst (ah.of (Az _ _ Mi)) (Bk.dps (Bk.same Az hB)),.lst (ah.of ae) .nil,a7E hs,cm,bF (Nat.min_le_right _ _) dz,_,cm,y6 (λc=>?_) (λc=>M7 ⟨v,h,_,cm,Az,hv.same f1,Ro⟩)⟩;have ur:0<gu hs:=by
    cases hs with
    |nil=>exact absurd c (by simp[cK,hV])
    |cons _ _=>simp
   have Ko:upd JS ep (.lst []) pl=fo (.lst (ds.map sh)):=f1 _ _ (GL _ _ WX);have CY:=Az _ _ Mi;refine⟨_,cm,pl,_,10,_,cm,cm,ah.of Ko,c10,_,_,cm,cm,br,cm,_,cm,y6 (λc=>?_) (λc=>⟨v,h,_,cm,Az,hv.same f1,Ro⟩)⟩;have r0:0<=Ow%(gu xs:Int):=fN _ dj;have r1:Ow%(gu xs:Int)<(gu xs:Int):=eG _ dj;have hk:(Ow%(gu xs:Int)).toNat<gu xs:=dj;have ax:U7 xs (Ow%(gu xs:Int))=fo xs[(Ow%(gu xs:Int)).toNat]:=by
    unfold U7;rw[Mg r0 r1];exact aS hk
   obtain⟨h',Kp,dt⟩:=aZ.at hB (aS hk);refine⟨_,cm,_,cm,pl,_,11,_,cm,cm,ah.of Ko,c11,_,cm,bl,_,cm,.inl (ah.of CY),_,_,cm,cm,(by show(0:Int)<(gu xs:Int);lia),bl,_,_,_,cm,cm,ah.of CY,ax,_,cm,_,cm,_,pl,far,far,h',ds,kt,kg,cm,dt.same Az,hG h' (bK Kp),ij,wx,Ja,wy,CV,dL _,ah.of Ko,eX,d6,λr Rp yg Oy qe Xb=>⟨r,yg,_,cm,Az.trans Oy,qe,Xb⟩⟩
  intro au Qp cw;refine E8 λG_ cy=>?_;obtain⟨v,h,Jb,rfl,IK,hv,Ro⟩:=cw;subst cy;have CY:=IK _ _ Mi;refine⟨_,cm,.inl ⟨cm,_,ah.of CY⟩,_,cm,bl,xs,v,cm,cm,CY,t9 dj,?_⟩;have kp:ng Qp (upd Qp bl (.lst (xs++[v]))):=ng.upd CY;refine⟨xs++[v],hs++[h],_,_,_,_,_,_,cm,(e5.trans IK).write hbl,ae,aZ.app (Bk.keep kp (Bk.same IK hB)) (.cons (HS.keep kp hv) .nil),by rw[aX,BN];rfl,λh' hm=>?_⟩;rcases bJ.mp hm with z|z
  .exact hG h' z
  .rw[cJ.mp z];exact Ro
 .intro σ H' cw;refine E8 λG_ cy=>?_;obtain⟨xs,hs,o9,HC,BP,ux,CW,zj,rfl,e5,Mi,hB,BN,hG⟩:=cw;subst cy;exact⟨_,cm,q bl H' xs hs kt kg (Ew.trans e5) Mi hB dj dj ij wx Ja wy hG⟩
open Fr
def c1b(K:aF):List V->Hp->VK->Prop:=λvs H Q=>s_ λ(a:aA)(ns:List Int)=>vs=[.ref a]/\JT K H a (ns.map sh)/\Q (.int ns.sum) H
theorem b1q K(h:X.K=K)(hc:X.calm=true):K6 X (.builtin "sum") (c1b K):=by subst h;exact b1s hc
theorem b7V K(h:X.K=K):JJ X (R0 K):=by subst h;exact U8
def Xc(K:aF)(H:Hp)(v:V)(f:Q2):Prop:=∃a,v=.ref a/\cq K H a [.int f.1,.int f.2]
def Ex(H:Hp)(v:V)(f:Q2):Prop:=∃a,v=.ref a/\H a=fo (.tup [.int f.1,.int f.2])
theorem Ex.v{v}(h:Ex H v f):Xc K H v f:=by
 obtain⟨a,e,q⟩:=h;exact⟨a,e,cq.of q⟩
theorem Ex.same{v}(e:af H H')(h:Ex H v f):Ex H' v f:=by
 obtain⟨a,z,q⟩:=h;exact⟨a,z,e _ _ q⟩
theorem Xc.same(e:af H H')(h:Xc K H v f):Xc K H' v f:=by
 obtain⟨a,z,q⟩:=h;exact⟨a,z,e.cm q⟩
structure CZ(P:aM)(w:aL)(K:aF)(mg:aC->Option aE)(base:aJ)(n:Nat)(x:aC)(ps:List aC)(sp:Sp)(fa:aA)(d:aK):Prop where
 ok:bf P w K mg base J8 n fa d ps sp
 b:Binds K d ps []
 k:dX K (.ref fa)=true
 m:mg x=fo (.ref fa)
def CZ.c{X:Cx}(C:CZ X.prog X.w X.K X.mg X.base j x ps sp f fd)(hr:b_ j X.A)(ha:PA X (e::es) t)(hg:Gl X x:=by exact rfl)(hd:(x==("__debug__":aC))=false:=by decide)(he:jh (e::es) X.env=(false,eval e X.env)::jh es X.env:=by rfl)(hp:(jv pos (jh es X.env)).any (·.1)=false:=by rfl):PE X (.Call (.Name x p) (e::es) [] pos) (Qf sp [] E0 t):=l7 C.ok hr hg C.m C.k C.b .nil v6 ha hd he hp
inductive Iv(vs:List V)(H:Hp)(Q:VK)(sH:XK):Prop|mk:∀a b,vs=[.int a,.int b]->0<=b->Q (.int (gI a b)) H->Iv vs H Q sH
def Jc:p7 ["one","other"] ["one","other"] (i9 VB):=⟨cm,cm,cm,de,cm,de,de⟩
def c0k:St->Nat:=λσ=>match σ with|[_,fo (.int y)]=>y.toNat|_=>0
theorem b7s x:(if x<0 then -x else x)=gI x 0:=by
 rw[b5L];split<;>lia
theorem b6B(F:Ay K "common_divisor" VB f fd)(T:v8 mg):bf P w K mg base J8 (n+1) f fd ["one","other"] Iv:=by
 refine F.oa Jc λay A outer s H vs Q E hr h=>?_;obtain⟨a,b,rfl,hb,q⟩:=h;refine⟨_,j0 (P0 hO (l5 Ei (pv 1) d0 (r9 _)) (j4 (b7C (i:=0) (j:=1) rfl Jc.nd rfl rfl dz rfl rfl (c6 (pv 1) (c6 (j8 w8 (pv 0) (pv 1)) c7)) rfl)))
  (j4 (o4 (j7 b3Q rfl T.abs (Al) (c6 (pv 0) c7)))),?_⟩
 refine b2G (λσ H'=>s_ λx y=>σ=[fo (.int x),fo (.int y)]/\H'=H/\0<=y/\gI x y=gI a b) (λσ _=>c0k σ) ⟨a,b,cm,cm,hb,cm⟩ ?_ λσ H Q Q' hq ⟨v,h1,h2,k,h3,q⟩=>⟨v,h1,h2,k,h3,hq _ _ q⟩;rintro σ H' ⟨x,y,rfl,rfl,hy,hg⟩;refine⟨_,cm,cm,_,cm,y6 (λc=>?_) λc=>?_⟩
 .have Rq:0<y:=by
   by_cases z:y=0
   .subst z;simp at c
   .lia
  have hm:=fN x (dj:y≠0);have hl:=eG x Rq;refine⟨_,cm,_,cm,_,cm,_,_,cm,cm,Rq,_,_,cm,⟨y,x%y,cm,cm,hm,?_⟩,?_⟩
  .rw[b4a];exact hg
  .show(x%y).toNat<y.toNat;lia
 .have Rq:y=0:=by simp_all
  subst Rq;refine⟨_,cm,_,cm,?_⟩;rw[b7s,hg];exact q
def fh.mono(h:fh n i)(hn:n<=m):fh m i:=bS h (lG dz hn)
theorem XC(h0:0<=i)(h1:i<2^n):fh n i:=by
 unfold fh;lia
inductive Xd(vs:List V)(H:Hp)(Q:VK)(sH:XK):Prop|mk:∀t b,vs=[.int t,.int b]->0<b->b<2^8000->(∀v H',af H H'->Ex H' v (low t b)->Q v H')->Xd vs H Q sH
def Jd:p7 ["top","bottom","divisor"] ["top","bottom"] (i9 VC):=⟨cm,cm,cm,de,cm,de,de⟩
theorem b7t(F:Ay K "lowest" VC f fd)(T:v8 mg)(C:CZ P w K mg base n "common_divisor" ["one","other"] Iv fa da):bf P w K mg base J8 (n+1) f fd ["top","bottom"] Xd:=by
 refine F.oa Jd λay A outer s H vs Q E hr h=>?_;obtain⟨t,b,rfl,hb,IU,q⟩:=h;refine⟨_,j0 (w6 (l5 E6 (pv 1) d0 (r9 _)) a5n r8)
  (j0 (r6 (i:=2) Jd.nd rfl (aI rfl) (C.c hr (c6 (pv 0) (c6 (pv 1) c7))))
  (j0 (w6 (l5 EI (pv 1) d0 (r9 _)) a5n r8)
  (j4 (o4 (A9 (c6 (j8 UA (pv 0) (pv 2)) (c6 (j8 UA (pv 1) (pv 2)) c7))))))),?_⟩
 refine⟨_,cm,cm,_,cm,y6 (λc=>?_) λ_=>?_⟩
 .have:=V.int.inj (qh c);lia
 refine⟨_,cm,_,cm,t,b,cm,cC hb,_,cm,_,_,cm,cm,_,cm,y6 (λc=>?_) (λ_=>?_)⟩
 .have:b<0:=qh c;lia
 have hg:=QL (a:=t) hb;have Hm:=b9G (a:=t) hb;exact⟨_,cm,_,cm,_,_,cm,cm,⟨hg,pI Hm IU⟩,_,cm,_,cm,_,_,cm,cm,⟨hg,pI Hm IU⟩,aw,λp hp=>(q _ _ (af.new hp _) ⟨p,cm,ae⟩)⟩
def Oz(a b:α):U7 [a,b] 0=fo a:=A2 rfl
def Mj(a b:α):U7 [a,b] 1=fo b:=A2 rfl
theorem U5 t:bU K t t=fo true:=by unfold bU;rw[qg (beq_self_eq_true _)]
def a5G:bU K (.type "int") (.type "bool")=fo false:=rfl
def AA(k:Nat)(m:Int):Prop:=0<=m/\m<(k:Int)
inductive OA(K:aF)(CN:aA)(vs:List V)(H:Hp)(Q:VK)(E:XK):Prop|mk:∀(a:aA)(xs:List V)(m:Int),vs=[.ref a,.int m]->ah K H a xs->m.natAbs.log2<1920->(∀(i:Nat)x,m=(i:Int)->xs[i]?=fo x->Q x H)->(¬AA (gu xs) m->E (.ref CN) fO H)->OA K CN vs H Q E
def b9n:p7 ["book","number"] ["book","number"] (i9 VD):=⟨cm,cm,cm,de,cm,de,de⟩
theorem b7u(F:Ay K "house_of" VD f fd)(T:v8 mg)(kN:X4 K CN)(mN:mg "NoHouse"=fo (.ref CN)):bf P w K mg base (W2 P w) (n+1) f fd ["book","number"] (OA K CN):=by
 refine F.ob b9n λay A outer s H vs Q E hr h=>?_;obtain⟨a,xs,m,rfl,hS,hm,q,hE⟩:=h;refine⟨_,j0 (w6 (S6 (MZ EJ EI d0 (pv 1) (j7 j6 rfl T.len bB (c6 (pv 0) c7)))) (j4 (T7 kN rfl mN hr.hd (c6 (b5G (pv 1) dz) c7))) r8)
  (j4 (o4 (l8 j5 (pv 0) (pv 1) λ_ _=>rfl))),?_⟩
 refine⟨_,cm,_,_,cm,cm,_,cm,?_⟩;have W5:¬AA (gu xs) m->b3F (Z2 (tFs (JB 1)) yb) CN E {nx:=λ_ H'=>Q .non H',rt:=Q} (V6 ["book","number"] [.ref a,.int m]) H:=λhb=>⟨_,cm,m,cm,hm,λx=>⟨(by show 1<=1000;decide),hE hb⟩⟩;refine y6 (λc=>?_) λc=>⟨_,cm,J3 (W5 λz=>(ql (eN.mpr c)) z.1)⟩
 .have c':=qh c;refine⟨_,cm,a,_,cm,.inl hS,_,_,cm,cm,_,cm,y6 (λd=>?_) (λd=>?_)⟩
  .have d':¬m<(gu xs:Int):=ql (by simpa using d);exact W5 λz=>d' z.2
  .have d':m<(gu xs:Int):=qh (by simpa using d);obtain⟨j,rfl⟩:∃j:Nat,m=(j:Int):=⟨m.toNat,dj⟩;have hi:j<gu xs:=dj;exact⟨_,cm,_,cm,a,_,_,_,cm,cm,hS,A2 (aS hi),q j xs[j] rfl (aS hi)⟩
end sC
namespace L2
open PySem
theorem b6A K(h:X.K=K)(hl:PE X l tl):PI X tg l (Tw K tl):=by subst h;exact IE hl
end L2
namespace sC
open PySem L2 Fr
def O4(z:aC):Prop:=z="any"\/z="one"\/z="less"\/z="more"
def K5(z:aC):List Int:=if z="any" then [] else if z="one" then [1,-1] else if z="less" then [-1] else [1]
structure Sg(K:aF)(Pm:gN)(mg:aC->Option aE)(d:aA):Prop where
 m:mg "SIZE_SIGNS"=fo (.ref d)
 k:Rr K Pm d
 tt:∀z,O4 z->∃t,bM K d z=fo (fo (.ref t))/\∀H,cq K H t ((K5 z).map sh)
def A7(z:aC)(h:i8):List Int:=h.1.map (λx=>-x)++h.2++K5 z
section
variable{P:aM}{w:aL}{K:aF}{mg:aC->Option aE}{base:aJ}{f Pt d:aA}{fd:aK}{n:Nat}{C:aA}
inductive M4(K:aF)(vs:List V)(H:Hp)(Q:VK)(sH:XK):Prop|mk:∀(ba:aA)(xs:List V)(hs:List i8)(z:aC)(kt kg:Nat),vs=[.ref ba,.str z]->O4 z->ah K H ba xs->Bk K H xs hs->gu hs<=100->kt<=100->kg<=100->(∀h∈hs,gu h.1=kt/\gu h.2=kg)->(∀r H'(rs:List aA),af H H'->H' r=fo (.lst (rs.map sy))->gu rs=gu hs->(∀(i:Nat)a h,rs[i]?=fo a->hs[i]?=fo h->H' a=fo (.lst ((A7 z h).map sh)))->Q (.ref r) H')->M4 K vs H Q sH
def OB:p7 ["houses","sizes","signs"] ["houses","sizes"] (i9 X2):=⟨cm,cm,cm,de,cm,de,de⟩
def b6o:(["takes","gives","signs"]:List aC).Nodup:=dz
def b8G:(["take"]:List aC).Nodup:=fg
theorem Ml z:gu (K5 z)<=2:=by
 unfold K5;by_cases h1:z="any"
 .rw[qg h1];decide
 by_cases h2:z="one"
 .rw[qf h1,qg h2];decide
 by_cases h3:z="less"
 .rw[qf h1,qf h2,qg h3];decide
 .rw[qf h1,qf h2,qf h3];decide
def hrT(N:v8 mg)(G:Sg K w.params mg d) :
  {t:TS//fu (N8 J8 P w K mg base ["houses","sizes","signs"] "house_rows" (i9 X2) f ay A outer s H E).oi (x9 X2) t} :=
 ⟨_,j0 (r6 (i:=2) OB.nd rfl (fY rfl) (v5 C5 rfl N.list fJ (c6 (l8 (Kq K w.params rfl rfl) (C4 (v:=.ref d) rfl G.m rfl) (pv 1) λ_ _=>rfl) c7)))
  (j4 (o4 (N6 ["takes","gives"] [2] rfl (C6 (pv 0))
   (λ_ _ _ _=>IX K (n:=2) rfl rfl (p6 (j9 (i:=0) b6o rfl (aI rfl)) (p6 (j9 (i:=1) b6o rfl (aI rfl)) A4)))
   (λ_ _ _ _=>j8 B9 (j8 B9 (N6 ["take"] [] rfl (b6A K rfl (pv 0)) (λ_ _ _ _=>j9 (i:=0) b8G rfl (aI rfl)) (λ_ _ _ _=>Eh V2 (pv 0))) (v5 (Wo K rfl) rfl N.list fJ (c6 (pv 1) c7))) (pv 2)))))⟩
theorem a5Z(F:Ay K "house_rows" X2 f fd)(N:v8 mg)(G:Sg K w.params mg d):bf P w K mg base J8 (n+1) f fd ["houses","sizes"] (M4 K):=by
 refine F.oa OB λay A outer s H vs Q E hr h=>?_;obtain⟨ba,xs,hs,z,kt,kg,rfl,hz,hB,Je,hl,Kr,Ks,hlen,k⟩:=h;refine⟨_,(hrT N G).2,?_⟩;obtain⟨t,ht,hT⟩:=G.tt z hz;have xl:=dE Je;refine⟨_,cm,d,z,t,cm,cm,G.k,ht,t,_,cm,.inr (hT _),λsl je=>?_⟩;have e0:=af.new je (.lst ((K5 z).map sh));refine⟨_,cm,ba,cm,⟨_,e0.seq hB⟩,λl jl=>?_⟩;refine N5 (A3 (e0.seq hB)) jl (by rw[xl];exact t9 dj) (λi y H2=>s_ λa h=>y=.ref a/\a≠l/\hs[i]?=fo h/\H2 a=fo (.lst ((A7 z h).map sh)))
  (λi y H2 H3 ⟨a,h,h1,h2,h3,h4⟩ e=>⟨a,h,h1,h2,h3,e a _ h2 h4⟩) (λi x H2 ys N' hx e j_ hN=>?_) λys H2 e j_ len pr=>?_
 .obtain⟨h,hh,OC⟩:=aZ.at Je hx;obtain⟨a,ta,ga,rfl,p1,p2,p3⟩:=(OC.same (e0.trans e));have lh:=hlen h (bK hh);refine⟨a,_,cm,p1,cm,_,_,cm,_,_,cm,cm,?_,?_⟩
  .refine⟨fg,λk w ek=>?_⟩;have:¬k<2:=λhk=>by
    unfold c_ at ek;rw[dH (by simpa using hk),gD] at ek;split at ek<;>cases ek
   rw[dP dj,dP dj];exact ek
  refine⟨_,cm,ta,cm,⟨_,p2⟩,λa1 h1=>(O9 (U3 p2) h1 (by rw[aH,lh.1];exact t9 dj) (λx=>.int (-(vI x))) (λj x H' N2 El e2 OD=>?_) ?_)⟩
  .obtain⟨x',rfl,_⟩:=LY El;exact⟨Wk.set dz,_,cm,_,cm,OD⟩
  have eg:(h.1.map sh).map (λx=>sh (-(vI x)))=(h.1.map λx=>-x).map sh:=by rw[bC,bC];rfl
  rw[eg];have s1:=af.new h1 (.lst ((h.1.map λx=>-x).map sh));refine⟨_,cm,ga,_,cm,.inr (s1.cm p3),λa2 h2=>?_⟩;have sz:=t9 (dj:kt+kg+2<=1000);have sg:=Ml z;refine⟨a1,a2,_,_,cm,cm,(by rw[j3 (i7 ae h2)];exact ae),ae,?_,λa3 h3=>?_⟩
  .rw[aH,aH,aH,lh.1,lh.2];lia
  have s3:=(s1.trans (af.new h2 (.lst (h.2.map sh)))).trans (af.new h3 (.lst ((h.1.map λx=>-x).map sh++h.2.map sh)));refine⟨_,cm,a3,sl,_,_,cm,cm,ae,s3 _ _ (e _ _ ae),?_,λa4 h4=>?_⟩
  .rw[aX,aH,aH,aH,aH,lh.1,lh.2];lia
  refine hN _ _ (s3.trans (af.new h4 _)) ⟨a4,h,cm,λz'=>?_,hh,?_⟩
  .rw[z',s3 _ _ j_] at h4;cases h4
  .rw[ae];unfold A7;rw[bQ,bQ]
 .have Wu:ys=(ys.map IY).map sy:=by
   rw[bC];refine dR λi=>?_;rw[aP];cases qi:ys[i]? with
   |none=>rfl
   |some y =>
    obtain⟨a,_,rfl,_⟩:=pr i y qi;rfl
  refine k l H2 (ys.map IY) (e0.trans e) (by rw[j_];rw[<-Wu]) (by rw[aH,len,xl]) λi a h hi hh=>?_;rw[aP] at hi;cases qi:ys[i]? with
  |none=>rw[qi] at hi;cases hi
  |some y =>
   obtain⟨a',h',rfl,_,h3,h4⟩:=pr i y qi;rw[qi] at hi;have:a'=a:=bD hi;subst this;rw[hh] at h3;cases h3;exact h4
end
def P3(z:aC)(h:i8):List Int:=aQ (gu h.1) 0++h.2++K5 z
def Q5(z:aC)(h:i8):List Int:=h.1++aQ (gu h.2) 0++aQ (gu (K5 z)) 0
def G3(z:aC)(hs:List i8)(h:i8):List (List Int):=hs.map (A7 z)++[Q5 z h]
def P6(hs:List i8):List Int:=aQ (gu hs) 0++[1]
def N9 k:(aQ k [sh 0]).flatten=(aQ k (0:Int)).map sh:=fg
section
variable{P:aM}{w:aL}{K:aF}{mg:aC->Option aE}{base:aJ}{f Pt d:aA}{fd:aK}{n:Nat}{C:aA}
abbrev OE(z:aC)(hs:List i8)(h:i8)(S:Lp.Bo):Prop:=Lp.Of (gu hs+1) (gu h.1+gu h.2+gu (K5 z)) (Y8 (G3 z hs h)) (M2 (P6 hs)) (M2 (P3 z h)) S
inductive XD(K:aF)(Pt:aA)(vs:List V)(H:Hp)(Q:VK)(sH:XK):Prop|mk:∀ba hv xs hs h z far kt kg m q,vs=[.ref ba,hv,.str z]->O4 z->ah K H ba xs->Bk K H xs hs->HS K H hv h->HG far kt kg h->(∀h∈hs,HG far kt kg h)->far<=2^60->gu hs<=16->kt<=20->kg<=20->m=gu hs+1->q=gu h.1+gu h.2+gu (K5 z)->LT Pt H->(∀S H' t aa wa,OE z hs h S->(∀j,j<q->¬S.T m j<0)->Sz 4000 m q S->bj Pt H H'->LT Pt H'->H' t=fo (.tup [.int (S.T m q),.ref aa,.ref wa,.int S.d]) → H' aa=fo (.lst ((v7 m q S).map sh))->H' wa=fo (.lst ((K1 m q S).map sh))->Q (.ref t) H')->(∀S H',OE z hs h S->Lp.cM m q S->bj Pt H H'->LT Pt H'->Q .non H')->XD K Pt vs H Q sH
def C_:p7 ["houses","house","sizes","takes","gives","signs","earned","paid"] ["houses","house","sizes"] (i9 LO):=⟨cm,cm,cm,de,cm,de,de⟩
def eaT{f1 f2:aA}{d1 d2:aK}(N:v8 mg)(G:Sg K w.params mg d)(Cg:C9 P w K mg base n "greatest" ["goal","rows","bounds"] (O5 K C Pt) f1 d1)(Ch:C9 P w K mg base n "house_rows" ["houses","sizes"] (M4 K) f2 d2)
  (hr:b_ n (A.deeper (cD "greatest_earned" (i9 LO) s.heap.objs.size f ay))) :
  {t:TS//fu (N8 J8 P w K mg base ["houses","house","sizes","takes","gives","signs","earned","paid"] "greatest_earned" (i9 LO) f ay A outer s H E).oi (x9 LO) t} :=
 ⟨_,j0 (D3 (pv 1) (K4 rfl (p6 (j9 (i:=3) C_.nd rfl (aI rfl)) (p6 (j9 (i:=4) C_.nd rfl (aI rfl)) A4))))
  (j0 (r6 (i:=5) C_.nd rfl (aI rfl) (v5 C5 rfl N.list fJ (c6 (l8 (Kq K w.params rfl rfl) (C4 (v:=.ref d) rfl G.m rfl) (pv 2) (λ_ _=>rfl)) c7)))
  (t8 (r6 (i:=6) C_.nd rfl (aI rfl) (j8 B9 (j8 B9 (j8 Q6 (v9 (c6 d0 c7)) (j7 j6 rfl N.len bB (c6 (pv 3) c7))) (v5 C5 rfl N.list fJ (c6 (pv 4) c7))) (pv 5)))
  (t8 (r6 (i:=7) C_.nd rfl (aI rfl) (j8 B9 (j8 B9 (v5 C5 rfl N.list fJ (c6 (pv 3) c7)) (j8 Q6 (v9 (c6 d0 c7)) (j7 j6 rfl N.len bB (c6 (pv 4) c7)))) (j8 Q6 (v9 (c6 d0 c7)) (j7 j6 rfl N.len bB (c6 (pv 5) c7)))))
  (j4 (o4 (Cg.c hr (c6 (pv 6) (c6 (j8 B9 (Ch.c hr (c6 (pv 0) (c6 (pv 2) c7))) (v9 (c6 (pv 7) c7)))
   (c6 (j8 B9 (j8 Q6 (v9 (c6 d0 c7)) (j7 j6 rfl N.len bB (c6 (pv 0) c7))) (v9 (c6 d0 c7))) c7)))))))))⟩
def Xe:∀k,k<20->Lp.ow (2^60) (k+1)<2^4000:=dz
theorem T3(h:rows[i]?=fo row):Y8 rows i j=row.getD j 0:=by
 have e:rows.getD i []=row:=by rw[bA,h];rfl
 unfold Y8;rw[e]
theorem Q7{l:List Int}(h:∀x∈l,x.natAbs<=M)j:(l.getD j 0).natAbs<=M:=by
 rw[bA];cases e:l[j]? with
 |none=>exact dM _
 |some x=>exact h x (bK e)
theorem Mm z:∀x∈K5 z,x.natAbs<=2^60:=by
 unfold K5;by_cases h1:z="any"
 .rw[qg h1];decide
 by_cases h2:z="one"
 .rw[qf h1,qg h2];decide
 by_cases h3:z="less"
 .rw[qf h1,qf h2,qg h3];decide
 .rw[qf h1,qf h2,qf h3];decide
theorem b5U(hh:HG far kt kg h)(wz:∀h∈hs,HG far kt kg h)(hf:far<=2^60)q :
  ∀v,Lp.Fits (2^60) (gu hs+1+1) (Lp.Vv (gu hs+1) q (Y8 (G3 z hs h)) (M2 (P6 hs)) (M2 (P3 z h)) v):=by
 have ht:∀g:i8,HG far kt kg g->∀x∈g.1,x.natAbs<=2^60:=λg hg x hx=>by have:=hg.t x hx;lia
 have qo:∀g:i8,HG far kt kg g->∀x∈g.2,x.natAbs<=2^60:=λg hg x hx=>by have:=hg.g x hx;lia
 have z0:∀k:Nat,∀x∈List.replicate k (0:Int),x.natAbs<=2^60:=λk x hx=>by rw[(lL.mp hx).2];decide
 have rows:∀r∈G3 z hs h,∀x∈r,x.natAbs<=2^60:=λr hr x hx=>by
  unfold G3 at hr;rcases bJ.mp hr with hr|hr
  .obtain⟨g,hg,rfl⟩:=aY.mp hr;unfold A7 at hx;rcases bJ.mp hx with hx|hx
   .rcases bJ.mp hx with hx|hx
    .obtain⟨y,hy,rfl⟩:=aY.mp hx;have:=ht g (wz g hg) y hy;rw[iV];exact this
    .exact qo g (wz g hg) x hx
   .exact Mm z x hx
  .rw[cJ.mp hr] at hx;unfold Q5 at hx;rcases bJ.mp hx with hx|hx
   .rcases bJ.mp hx with hx|hx
    .exact ht h hh x hx
    .exact z0 _ x hx
   .exact z0 _ x hx
 have goal:∀x∈P3 z h,x.natAbs<=2^60:=λx hx=>by
  unfold P3 at hx;rcases bJ.mp hx with hx|hx
  .rcases bJ.mp hx with hx|hx
   .exact z0 _ x hx
   .exact qo h hh x hx
  .exact Mm z x hx
 have E_:∀x∈P6 hs,x.natAbs<=2^60:=λx hx=>by
  unfold P6 at hx;rcases bJ.mp hx with hx|hx
  .exact z0 _ x hx
  .rw[cJ.mp hx];decide
 intro v i _;unfold Lp.Vv;split
 .split
  .unfold Y8;refine Q7 (λx hx=>?_) v;rw[bA] at hx;cases e:(G3 z hs h)[i]? with
   |none=>rw[e] at hx;cases hx
   |some r=>rw[e] at hx;exact rows r (bK e) x hx
  .split
   .rw[iV];exact Q7 goal v
   .exact dM _
 .split
  .split<;>decide
  .split
   .exact Q7 E_ i
   .exact dM _
end
theorem a8R{rs:List aA}{hs:List i8}(hl:gu rs=gu hs)(h:∀(i:Nat)a g,rs[i]?=fo a->hs[i]?=fo g->H' a=fo (.lst ((A7 z g).map sh))):si K H' (rs.map sy) (hs.map (A7 z)):=by
 induction hs generalizing rs with
 |nil =>
  cases rs with
  |nil=>exact .nil
  |cons a r=>simp at hl
 |cons g hs ih =>
  cases rs with
  |nil=>simp at hl
  |cons a r=>exact .cons ⟨a,cm,ah.of (h 0 a g rfl rfl)⟩ (ih (by simp_all) λi b g' h1 h2=>h (i+1) b g' (by simpa using h1) (by simpa using h2))
theorem b0M(F:Ay K "greatest_earned" LO f fd)(N:v8 mg)(G:Sg K w.params mg d)(Cg:C9 P w K mg base n "greatest" ["goal","rows","bounds"] (O5 K C Pt) f1 d1)(Ch:C9 P w K mg base n "house_rows" ["houses","sizes"] (M4 K) f2 d2) :
  bf P w K mg base J8 (n+1) f fd ["houses","house","sizes"] (XD K Pt):=by
 refine F.oa C_ λay A outer s H vs Q E hr h=>?_;obtain⟨ba,hv,xs,hs,h,z,far,kt,kg,m,q,rfl,hz,hB,Je,OC,hh,wz,CV,XN,Kr,Ks,rfl,rfl,L,kT,kN⟩:=h;refine⟨_,(eaT N G Cg Ch hr).2,?_⟩;obtain⟨ha,ta,ga,rfl,p1,p2,p3⟩:=id OC;obtain⟨t,ht,hT⟩:=G.tt z hz;have xl:gu xs=gu hs:=dE Je;have sg:=Ml z;have Xf:=t9 (show(1000:Nat)<=1000 from aT _);have l1:=hh.lt;have l2:=hh.lg;refine⟨_,cm,ha,_,cm,p1,cm,_,_,cm,_,_,cm,cm,_,cm,d,z,t,cm,cm,G.k,ht,t,_,cm,.inr (hT _),λsl je=>?_⟩;have e0:=af.new je (.lst ((K5 z).map sh));have Jf:upd H sl (.lst ((K5 z).map sh)) sl=fo (.lst ((K5 z).map sh)):=ae;refine⟨λau H1=>∃ea:aA,au=[fo (.ref ba),fo (.ref ha),fo (.str z),fo (.ref ta),fo (.ref ga),fo (.ref sl),fo (.ref ea),fO]/\af (upd H sl (.lst ((K5 z).map sh))) H1/\H1 ea=fo (.lst ((P3 z h).map sh)),?_,?_⟩
 .refine⟨aw,λa1 h1=>?_⟩;have s1:=af.new h1 (.lst [.int 0]);refine⟨_,cm,ta,_,cm,.inr (s1.cm (e0.cm p2)),a1,_,_,cm,cm,ae,dj,by rw[aH,l1];lia,by rw[aH,l1,cF];simp;lia,λa2 h2=>?_⟩;rw[aH,cF,N9];have s2:=s1.trans (af.new h2 (.lst ((aQ (gu h.1) (0:Int)).map sh)));refine⟨_,cm,ga,_,cm,.inr (s2.cm (e0.cm p3)),λa3 h3=>?_⟩;have s3:=s2.trans (af.new h3 (.lst (h.2.map sh)));refine⟨a2,a3,_,_,cm,cm,(by rw[j3 (i7 ae h3)];exact ae),ae,?_,λa4 h4=>?_⟩
  .rw[aH,aH,bP,l1,l2];lia
  have s4:=s3.trans (af.new h4 (.lst ((aQ (gu h.1) (0:Int)).map sh++h.2.map sh)));refine⟨_,cm,a4,sl,_,_,cm,cm,ae,s4 _ _ Jf,?_,λa5 h5=>?_⟩
  .rw[aX,aH,aH,aH,bP,l1,l2];lia
  refine⟨a5,cm,s4.trans (af.new h5 _),?_⟩;rw[ae];unfold P3;rw[bQ,bQ]
 intro Eg H1 cw;refine E8 λG_ cy=>?_;obtain⟨ea,rfl,e1,he⟩:=cw;subst cy;have Hr:=e0.trans e1;refine⟨λau H2=>∃pa:aA,au=[fo (.ref ba),fo (.ref ha),fo (.str z),fo (.ref ta),fo (.ref ga),fo (.ref sl),fo (.ref ea),fo (.ref pa)]/\af H1 H2/\H2 pa=fo (.lst ((Q5 z h).map sh)),?_,?_⟩
 .refine⟨_,cm,ta,_,cm,.inr (Hr.cm p2),λa1 h1=>⟨aw,λa2 h2=>?_⟩⟩;have s2:=(af.new h1 (.lst (h.1.map sh))).trans (af.new h2 (.lst [.int 0]));have Hy:a1≠a2:=i7 ae h2;refine⟨_,cm,ga,_,cm,.inr (s2.cm (Hr.cm p3)),a2,_,_,cm,cm,ae,dj,by rw[aH,l2];lia,by rw[aH,l2,cF];simp;lia,λa3 h3=>?_⟩;rw[aH,cF,N9];have s3:=s2.trans (af.new h3 (.lst ((aQ (gu h.2) (0:Int)).map sh)));refine⟨a1,a3,_,_,cm,cm,(af.new h3 (.lst ((aQ (gu h.2) (0:Int)).map sh))) a1 _ ((af.new h2 (.lst [.int 0])) a1 _ ae),ae,?_,λa4 h4=>?_⟩
  .rw[aH,aH,bP,l1,l2];lia
  refine⟨aw,λa5 h5=>?_⟩;have s5:=(s3.trans (af.new h4 (.lst (h.1.map sh++(aQ (gu h.2) (0:Int)).map sh)))).trans (af.new h5 (.lst [.int 0]));have lz:gu ((K5 z).map sh)=gu (K5 z):=aH _;refine⟨_,cm,sl,_,cm,.inl (ah.of (s5 _ _ (e1 _ _ Jf))),a5,_,_,cm,cm,ae,dj,by rw[lz];lia,by rw[lz,cF];simp;lia,λa6 h6=>?_⟩;rw[lz,cF,N9];refine⟨a4,a6,_,_,cm,cm,(af.new h6 (.lst ((aQ (gu (K5 z)) (0:Int)).map sh))) a4 _ ((af.new h5 (.lst [.int 0])) a4 _ ae),ae,?_,λa7 h7=>?_⟩
  .rw[aX,aH,aH,aH,bP,bP,l1,l2];lia
  refine⟨a7,cm,(s5.trans (af.new h6 _)).trans (af.new h7 _),?_⟩;rw[ae];unfold Q5;rw[bQ,bQ]
 intro ir H2 cw;refine E8 λG_ cy=>?_;obtain⟨pa,rfl,e2,hp⟩:=cw;subst cy;have HD:=Hr.trans e2;refine⟨_,cm,_,cm,_,cm,ba,xs,hs,z,kt,kg,cm,hz,HD.seq hB,Je.same HD,dj,dj,dj,λg hg=>⟨(wz g hg).lt,(wz g hg).lg⟩,λr H3 rs e3 zh lr Hx=>⟨_,cm,aw,λa1 h1=>⟨r,a1,_,_,cm,cm,(by rw[j3 (i7 zh h1)];exact zh),ae,?_,λa2 h2=>?_⟩⟩⟩
 .rw[aH,lr];simp;lia
 refine⟨aw,λa3 h3=>?_⟩;have s3:=((e3.trans (af.new h1 (.lst [.ref pa]))).trans (af.new h2 (.lst (rs.map sy++[.ref pa])))).trans (af.new h3 (.lst [.int 0]));refine⟨_,cm,ba,_,cm,.inl ((HD.trans s3).seq hB),a3,_,_,cm,cm,ae,dj,by rw[xl];lia,by rw[xl,cF];simp;lia,λa4 h4=>?_⟩;rw[xl,cF,N9];refine⟨aw,λa5 h5=>?_⟩;refine⟨a4,a5,_,_,cm,cm,(by rw[j3 (i7 ae h5)];exact ae),ae,?_,λa6 h6=>?_⟩
 .rw[aH,bP];simp;lia
 have s6:=((s3.trans (af.new h4 (.lst ((aQ (gu hs) (0:Int)).map sh)))).trans (af.new h5 (.lst [.int 1]))).trans (af.new h6 (.lst ((aQ (gu hs) (0:Int)).map sh++[.int 1])));have g3:∀b o,upd (upd H3 a1 (.lst [.ref pa])) a2 (.lst (rs.map sy++[.ref pa])) b=fo o->upd (upd (upd (upd (upd (upd H3 a1 (.lst [.ref pa])) a2 (.lst (rs.map sy++[.ref pa]))) a3 (.lst [.int 0])) a4 (.lst ((aQ (gu hs) (0:Int)).map sh))) a5 (.lst [.int 1])) a6 (.lst ((aQ (gu hs) (0:Int)).map sh++[.int 1])) b=fo o :=
  (((af.new h3 (.lst [.int 0])).trans (af.new h4 (.lst ((aQ (gu hs) (0:Int)).map sh)))).trans (af.new h5 (.lst [.int 1]))).trans (af.new h6 (.lst ((aQ (gu hs) (0:Int)).map sh++[.int 1])))
 have eb:(aQ (gu hs) (0:Int)).map sh++[.int 1]=(P6 hs).map sh:=by unfold P6;rw[bQ];rfl
 have hA:af H (upd (upd (upd (upd (upd (upd H3 a1 (.lst [.ref pa])) a2 (.lst (rs.map sy++[.ref pa]))) a3 (.lst [.int 0])) a4 (.lst ((aQ (gu hs) (0:Int)).map sh))) a5 (.lst [.int 1])) a6 (.lst ((aQ (gu hs) (0:Int)).map sh++[.int 1]))):=HD.trans s6;refine⟨ea,a2,a6,P3 z h,rs.map sy++[.ref pa],G3 z hs h,P6 hs,gu hs+1,gu h.1+gu h.2+gu (K5 z),2^60,cm,ah.of (s6 _ _ (e2 _ _ he)),ah.of (g3 _ _ ae),?_,?_,?_,?_,?_,?_,dj,dj,?_,b5U hh wz CV _,Xe _ dj,L.same hA,λS H' t' aa wa O hn sz e' L' g1 g2 g4=>kT S H' t' aa wa O hn sz (λb o hb q'=>e' b o hb (hA b o q')) L' g1 g2 g4,λS H' O st e' L'=>kN S H' O st (λb o hb q'=>e' b o hb (hA b o q')) L'⟩
 .unfold G3;refine aZ.app ((a8R (K:=K) lr Hx).same ((((((af.new h1 (.lst [.ref pa])).trans (af.new h2 (.lst (rs.map sy++[.ref pa])))).trans (af.new h3 (.lst [.int 0]))).trans (af.new h4 (.lst ((aQ (gu hs) (0:Int)).map sh)))).trans (af.new h5 (.lst [.int 1]))).trans (af.new h6 (.lst ((aQ (gu hs) (0:Int)).map sh++[.int 1]))))) (.cons ⟨pa,cm,ah.of (s6 _ _ hp)⟩ .nil)
 .rw[<-eb];exact ah.of ae
 .unfold G3;simp
 .unfold P6;simp
 .unfold P3;simp[sB]
 .intro r hr;unfold G3 at hr;rcases bJ.mp hr with hr|hr
  .obtain⟨g,hg,rfl⟩:=aY.mp hr;unfold A7;rw[aX,aX,aH,(wz g hg).lt,(wz g hg).lg,l1,l2]
  .rw[cJ.mp hr];unfold Q5;simp;lia
 .intro i hi;unfold M2 P6;rw[bA];by_cases h':i<gu hs
  .rw[dH (by simpa using h'),gD,qg h'];exact dL _
  .rw[dU (by simp;lia)];have:i-(aQ (gu hs) (0:Int)).length=0:=by simp;lia
   rw[this];decide
def c0h:p7 ["book","number","sizes"] ["book","number","sizes"] (i9 VG):=⟨cm,cm,cm,de,cm,de,de⟩
def Dc:p7 ["houses","house","sizes","found","top","amounts","weights","bottom"] ["houses","house","sizes"] (i9 VF):=⟨cm,cm,cm,de,cm,de,de⟩
theorem a8U xs(a b:Nat)(h:a<=b)(hb:b<=gu xs):P5 xs (fo (a:Int)) (fo (b:Int))=(xs.drop a).take (b-a):=by
 unfold P5;rw[HT.gy,HT.gy,jT hb,jT dj]
theorem cq.fg(T:cu P pos qual H)(e:bj P H H')(h:cq K H a xs):cq K H' a xs:=by
 have ne:∀o,H a=fo o->(∀ps,o≠.my ps)->a≠P:=λo q n z=>by
  subst z;rcases T with t|⟨c,t,_⟩
  .rw[q] at t;exact n _ (bD t)
  .rw[q] at t;exact n _ (bD t)
 rcases h with(h|⟨o,h⟩)|h
 .exact .inl (.inl (e _ _ (ne _ h λ_=>nofun) h))
 .exact .inl (.inr ⟨o,e _ _ (ne _ h λ_=>nofun) h⟩)
 .exact .inr h
theorem HS.fg(T:LT Pt H)(e:bj Pt H H')(x:HS K H v h):HS K H' v h:=by
 obtain⟨a,t,g,h0,h1,h2,h3⟩:=x;exact⟨a,t,g,h0,cq.fg T e h1,cq.fg T e h2,cq.fg T e h3⟩
def Bk.fg(T:LT Pt H)(e:bj Pt H H')(x:Bk K H vs hs):Bk K H' vs hs:=aZ.imp' (λ_ _ r=>HS.fg T e r) x
theorem F0{r:List Int}j:(l++r).getD j 0=if j<gu l then l.getD j 0 else r.getD (j-gu l) 0:=by grind
theorem M3 k j:(aQ k (0:Int)).getD j 0=0:=by
 rw[bA,gD];split<;>rfl
theorem Rt(l:List Int)j:(l.map λx=>-x).getD j 0 =-l.getD j 0:=by
 rw[bA,bA,aP];cases l[j]?<;>rfl
theorem b1v(hi:hs[i]?=fo h)j:Y8 (G3 z hs h) i j+Y8 (G3 z hs h) (gu hs) j=M2 (P3 z h) j:=by
 have e1:(G3 z hs h)[i]?=fo (A7 z h):=by
  unfold G3;rw[dH (by rw[aH];exact((cA.mp hi).1)),aP,hi];rfl
 have e2:(G3 z hs h)[gu hs]?=fo (Q5 z h):=by
  unfold G3;rw[dU fg,aH,gL];rfl
 rw[T3 e1,T3 e2];unfold M2 A7 Q5 P3;simp only[F0,M3,Rt,aX,aH,bP];by_cases h1:j<gu h.1
 .rw[qg dj,qg h1,qg dj,qg h1,qg dj,qg h1];lia
 .by_cases h2:j<gu h.1+gu h.2
  .rw[qg h2,qf h1,qg h2,qf h1,qg h2,qf h1,gK]
  .rw[qf h2,qf h2,qf h2,gK]
structure vn(P:aM)(w:aL)(K:aF)(mg:aC->Option aE)(base:aJ)(n:Nat)(x:aC)(ps:List aC)(sp:Sp)(fa:aA)(d:aK):Prop where
 ok:bf P w K mg base (W2 P w) n fa d ps sp
 b:Binds K d ps []
 k:dX K (.ref fa)=true
 m:mg x=fo (.ref fa)
abbrev mE(hs:List i8):Nat:=gu hs+1
abbrev qE(z:aC)(h:i8):Nat:=gu h.1+gu h.2+gu (K5 z)
structure O6(K:aF)(H:Hp)(ba:aA)(xs:List V)(hs:List i8)(far:Int)(kt kg:Nat):Prop where
 l:ah K H ba xs
 b:Bk K H xs hs
 g:∀h∈hs,HG far kt kg h
 far:far<=2^60
 few:gu hs<=16
 t:kt<=20
 k:kg<=20
def sj(z:aC)(hs:List i8)(h:i8)(S:Lp.Bo):Prop:=OE z hs h S/\(∀j,j<qE z h->¬S.T (mE hs) j<0)/\Sz 4000 (mE hs) (qE z h) S
inductive OI(K:aF)(CN Pt:aA)(vs:List V)(H:Hp)(Q:VK)(E:XK):Prop|mk:∀(ba:aA)(xs:List V)(hs:List i8)(number:Int)(z:aC)(far:Int)(kt kg:Nat),vs=[.ref ba,.int number,.str z]->O4 z->O6 K H ba xs hs far kt kg->number.natAbs.log2<1920->LT Pt H->(∀(i:Nat)h S H' u,number=(i:Int)->hs[i]?=fo h->sj z hs h S->bj Pt H H'->LT Pt H'->Ex H' u (low (S.T (mE hs) (qE z h)) S.d)->Q u H')->(¬AA (gu xs) number->E (.ref CN) fO H)->OI K CN Pt vs H Q E
theorem a9r(B:sj z hs h S):0<S.d/\S.d<2^8000:=by
 refine⟨B.1.w.pos,?_⟩;have h2:(2:Nat)^4000<=2^8000:=lG dz dz;have h3:S.d=(S.d.natAbs:Int):=by have:=B.1.w.pos;lia
 rw[h3]
 exact_mod_cast bS B.2.2.2 h2
inductive Ru(K:aF)(Pt:aA)(vs:List V)(H:Hp)(Q:VK)(sH:XK):Prop|mk:∀ba hv xs hs h z far kt kg,vs=[.ref ba,hv,.str z]->O4 z->O6 K H ba xs hs far kt kg->HS K H hv h->HG far kt kg h->LT Pt H->(∀S H' u,sj z hs h S->bj Pt H H'->LT Pt H'->Ex H' u (low (S.T (mE hs) (qE z h)) S.d)->Q u H')->(∀S H',OE z hs h S->Lp.cM (mE hs) (qE z h) S->bj Pt H H'->LT Pt H'->Q .non H')->Ru K Pt vs H Q sH
theorem b5C(F:Ay K "held_against" VF f fd)(Ce:C9 P w K mg base n "greatest_earned" ["houses","house","sizes"] (XD K Pt) f2 d2)
  (Cl:CZ P w K mg base n "lowest" ["top","bottom"] Xd f3 d3):bf P w K mg base J8 (n+1) f fd ["houses","house","sizes"] (Ru K Pt):=by
 refine F.oa Dc λay A outer s H vs Q E hr h=>?_;obtain⟨ba,hv,xs,hs,h,z,far,kt,kg,rfl,hz,B,hH,gh,L,kG,kN⟩:=h;refine⟨_,j0 (r6 (i:=3) Dc.nd rfl (aI rfl) (Ce.c hr (c6 (pv 0) (c6 (pv 1) (c6 (pv 2) c7)))))
  (j0 (w6 (l5 Lv (pv 3) D5 (r9 _)) (j4 (o4 D5)) r8)
  (j0 (D3 (pv 3) (K4 rfl (p6 (j9 (i:=4) Dc.nd rfl (aI rfl)) (p6 (j9 (i:=5) Dc.nd rfl (aI rfl)) (p6 (j9 (i:=6) Dc.nd rfl (aI rfl)) (p6 (j9 (i:=7) Dc.nd rfl (aI rfl)) A4))))))
  (j4 (o4 (Cl.c hr (c6 (pv 4) (c6 (pv 7) c7))))))),?_⟩
 refine⟨_,cm,_,cm,_,cm,ba,hv,xs,hs,h,z,far,kt,kg,mE hs,qE z h,cm,hz,B.l,B.b,hH,gh,B.g,B.far,B.few,B.t,B.k,cm,cm,L,λS H' t aa wa O hn sz e' L' g1 g2 g3=>?_,λS H' O st e' L'=>⟨_,cm,cm,_,cm,J3 (kN S H' O st e' L')⟩⟩
 .have Bs:sj z hs h S:=⟨O,hn,sz⟩;obtain⟨b1,b2⟩:=a9r Bs;exact⟨_,cm,cm,_,cm,M7 ⟨_,cm,t,_,cm,cq.of g1,cm,_,_,cm,_,_,cm,_,_,cm,_,_,cm,cm,_,cm,_,cm,_,_,cm,b1,b2,λu H2 e2 hu=>kG S H2 u Bs (λb o hb q'=>e2 _ _ (e' b o hb q')) (L'.same e2) hu⟩⟩
theorem b1g(F:Ay K "share" VG f fd)(Ch:vn P w K mg base n "house_of" ["book","number"] (OA K CN) f1 d1)(Ce:C9 P w K mg base n "held_against" ["houses","house","sizes"] (Ru K Pt) f2 d2):bf P w K mg base (W2 P w) (n+1) f fd ["book","number","sizes"] (OI K CN Pt):=by
 refine F.ob c0h λay A outer s H vs Q E hr h=>?_;obtain⟨ba,xs,hs,number,z,far,kt,kg,rfl,hz,B,lm,L,kG,kE⟩:=h;refine⟨_,j4 (o4 (Ce.c hr (c6 (pv 0) (c6 (l7 Ch.ok hr rfl Ch.m Ch.k Ch.b .nil V5 (c6 (pv 0) (c6 (pv 1) c7))) (c6 (pv 2) c7))))),_,cm,_,cm,_,cm,ba,xs,number,cm,B.l,lm,λi hv hi hx=>?_,kE⟩;obtain⟨h,hh,hH⟩:=aZ.at B.b hx;refine⟨_,cm,ba,hv,xs,hs,h,z,far,kt,kg,cm,hz,B,hH,B.g h (bK hh),L,λS H' u Bs e' L' hu=>kG i h S H' u hi hh Bs e' L' hu,λS H' O st e' L'=>(O.bounded (by have:=(cA.mp hh).1;lia) dj (λj _=>b1v hh j) st).elim⟩
end sC
namespace L2
open PySem
def fh.mono(h:fh n i)(hn:n<=m):fh m i:=sC.fh.mono h hn
end L2
namespace Fr
theorem c8h{b:Int}(ha:0<a)(hb:0<b):a<=a*b:=by
 have:=jU (dj:(1:Int)<=b) (cC ha);rw[jF] at this;exact this
theorem e8S(hb:0<b)(hf:0<f)(h1:b∣D)(h2:f∣D):b/gI b f*f∣D:=by
 obtain⟨m,rfl⟩:=jZ (cC hb);obtain⟨n,rfl⟩:=jZ (cC hf);have e:(m:Int)/gI m n*n=((nA m n:Nat):Int):=by
  have e1:nA m n=m/Nat.gcd m n*n:=by
   unfold nA;rw[qX m n,Nat.mul_div_assoc n (Nat.gcd_dvd_left m n),qX]
  rw[e1];unfold gI;rw[Int.natCast_mul,Int.natCast_ediv];rfl
 rw[e,nB];exact Nat.lcm_dvd (nB.mp h1) (nB.mp h2)
theorem b4Y(hD:0<D):(low x D).2∣D:=⟨gI x D,by rw[bX];exact(QM hD).2⟩
def b7R(hb:0<b):(low t b).2<=b:=wG hb (b4Y hb)
end Fr
namespace sC
open PySem L2 Fr
theorem d1w(hb:0<b)(h:fh n t):fh n (low t b).1:=by
 obtain⟨h1,_⟩:=QM hb;unfold fh at *;have e:t.natAbs=(gI t b).natAbs*(low t b).1.natAbs:=by rw[<-rV,<-h1]
 have:1<=(gI t b).natAbs:=dj;have:=pJ (low t b).1.natAbs this;lia
def OJ(z:aC)(s D:Int):Prop:=((z="one"\/z="less")->s<=D)/\((z="one"\/z="more")->D<=s)
def col(rows:List (List Int))(i:Nat):List Int:=rows.map λr=>r.getD i 0
def V4(j:Nat)(h:i8):List Int:=if j=0 then h.1 else h.2
def L8(hs:List i8)(ws:List Int)(j i:Nat):Int:=(cV (·*·) (col (hs.map (V4 j)) i) ws).sum
theorem Xh:∀{xs ys}{a b:Int},gu xs=gu ys->(cV (·*·) (xs++[a]) (ys++[b])).sum=(cV (·*·) xs ys).sum+a*b
 |[],[],a,b,_=>fg
 |x::xs,y::ys,a,b,h=>by
  rw[fD,fD,eW,eW,dW,dW,Xh (by simp_all),Int.add_assoc]
structure PrN(pt pg:List Int)(ps D:Int)(kt kg:Nat):Prop where
 lt:gu pt=kt
 lg:gu pg=kg
 bt:∀x∈pt,0<=x/\fh 5000 x
 bg:∀x∈pg,0<=x/\fh 5000 x
 bs:fh 5000 ps
 d:0<D
 d2:D<2^4000
def P7(h:i8)(pg:List Int)(ps:Int):Int:=(cV (·*·) h.2 pg).sum+ps
def zF(h:i8)(pt:List Int):Int:=(cV (·*·) h.1 pt).sum
def OK(z:aC)(ps:Int):Prop:=((z="any"\/z="less")->ps<=0)/\((z="any"\/z="more")->0<=ps)
mutual
theorem b1O:∀d:dI,d.canLay0=true->cK d d=true
 |.none,_=>by rw[cK]
 |.bool b,_=>by rw[cK];simp
 |.int i,_=>by rw[cK];simp
 |.str x,_=>by rw[cK];simp
 |.list xs,h=>by rw[cK];exact Xi xs (by rw[fU] at h;exact h)
 |.tuple xs,h=>by rw[cK];exact Xi xs (by rw[fU] at h;exact h)
 |.dict td,h=>by rw[fU] at h;cases h
theorem Xi:∀ds:List dI,cP ds=true->hV ds ds=true
 |[],_=>by rw[hV]
 |d::r,h=>by
  rw[cP,fQ] at h;rw[hV,b1O d h.1,Xi r h.2];rfl
end
def dF(x:Q2):dI:=.tuple [.int x.1,.int x.2]
theorem Xc.dp(h:Xc K H v x):Dp K H v (dF x):=by
 obtain⟨a,rfl,q⟩:=h;exact .tup q (.cons (.int _) (.cons (.int _) .nil))
def Iw x:(dF x).canLay0=true:=rfl
theorem d0D x:(dF x).depth<=60:=by
 unfold dF;simp[iY,iC]
theorem DQ(hD:0<D):(low x D).1*D=x*(low x D).2:=by
 obtain⟨h1,h2⟩:=QM hD;generalize (low x D).1=a at *;generalize (low x D).2=b at *;generalize gI x D=g at *;rw[h1,h2]
 ac_rfl
abbrev x8(l x:List Int):Int:=(cV (·*·) l x).sum
theorem Xj:∀l r x,x8 (l++r) x=x8 l (x.take (gu l))+x8 r (x.drop (gu l))
 |[],r,x=>by simp[x8]
 |a::l,r,[]=>by simp[x8]
 |a::l,r,y::x=>by
  have:=Xj l r x;unfold x8 at *;rw[fD,eW,dW,this,eM,xH,xI,eW,dW];lia
theorem Mn:∀l x,x8 (l.map λy=>-y) x =-x8 l x
 |[],x=>by simp[x8]
 |a::l,[]=>by simp[x8]
 |a::l,y::x=>by
  have:=Mn l x;unfold x8 at *;rw[cS,eW,dW,this,eW,dW,iJ];lia
theorem T6:∀k x,x8 (aQ k 0) x=0
 |0,x=>by simp[x8]
 |k+1,[]=>by simp[x8]
 |k+1,y::x=>by
  have:=T6 k x;unfold x8 at *;rw[eZ,eW,dW,this];lia
theorem T8:∀l x,x8 l x=x8 x l
 |[],x=>by simp[x8]
 |a::l,[]=>by simp[x8]
 |a::l,y::x=>by
  have:=T8 l x;unfold x8 at *;rw[eW,dW,this,eW,dW,bX]
theorem M9:∀n l x,gu l=n->gu x=n->Lp.sumTo (λj=>l.getD j 0*x.getD j 0) n=x8 l x
 |0,l,x,h1,h2=>by
  rw[lM h1];simp[x8,Lp.sumTo]
 |n+1,l,x,h1,h2=>by
  obtain⟨l',a,rfl⟩:s_ λl' a=>l=l'++[a]:=⟨l.dropLast,l.getLast (by intro z;rw[z] at h1;cases h1),(xJ _).symm⟩;obtain⟨x',b,rfl⟩:s_ λl' a=>x=l'++[a]:=⟨x.dropLast,x.getLast (by intro z;rw[z] at h2;cases h2),(xJ _).symm⟩;have l1:gu l'=n:=by simp_all
  have l2:gu x'=n:=by simp_all
  show Lp.sumTo _ n+_=_;have e:Lp.sumTo (λj=>(l'++[a]).getD j 0*(x'++[b]).getD j 0) n=Lp.sumTo (λj=>l'.getD j 0*x'.getD j 0) n:=Lp.aj λj hj=>by
   rw[F0,F0,qg dj,qg dj]
  rw[e,M9 n l' x' l1 l2];show _=(cV (·*·) (l'++[a]) (x'++[b])).sum;rw[Xh dj];show x8 l' x'+(l'++[a]).getD n 0*(x'++[b]).getD n 0=_;rw[F0,F0,qf dj,qf dj,l1,l2,gL];rfl
section
variable{m q:Nat}{rows:List (List Int)}{ow goal:List Int}{S:Lp.Bo}
end
theorem OM a b c xs:x8 (a++b++c) xs=x8 a (xs.take (gu a))+x8 b ((xs.drop (gu a)).take (gu b))+x8 c (xs.drop (gu a+gu b)):=by
 rw[Xj (a++b) c xs,Xj a b,aX,xL,jT dj,List.drop_take,gO]
abbrev oz(h:i8)(xs:List Int):List Int:=xs.take (gu h.1)
abbrev o_(h:i8)(xs:List Int):List Int:=(xs.drop (gu h.1)).take (gu h.2)
abbrev pe(z:aC)(h:i8)(xs:List Int):Int:=x8 (xs.drop (gu h.1+gu h.2)) (K5 z)
theorem Rx(h1:gu g.1=gu h.1)(h2:gu g.2=gu h.2)xs:x8 (A7 z g) xs=P7 g (o_ h xs) (pe z h xs)-zF g (oz h xs):=by
 unfold A7 P7 zF;rw[OM,aH,Mn,h1,h2,T8 (K5 z)];lia
def Mp(h:gu a=gu b):x8 (a++[x]) (b++[y])=x8 a b+x*y:=Xh h
section
variable{z:aC}{hs:List i8}{h:i8}{kt kg:Nat}(hk:∀g∈hs,gu g.1=kt/\gu g.2=kg)
include hk
end
structure c0L(z:aC)(hs:List i8)(h:i8)(S:Lp.Bo)(kt kg:Nat)(ws:List Int):Prop where
 lw:gu ws=gu hs
 nn:∀x∈ws,0<=x/\fh 20000 x
 size:OJ z ws.sum S.d
 takes:∀j,j<kt->L8 hs ws 0 j<=h.1.getD j 0*S.T (mE hs) (qE z h)
 gives:∀j,j<kg->h.2.getD j 0*S.d<=L8 hs ws 1 j
 pos:0<S.T (mE hs) (qE z h)
 le:h∈hs->S.T (mE hs) (qE z h)<=S.d
 ja:∀g∈hs,P7 g (o_ h (v7 (mE hs) (qE z h) S)) (pe z h (v7 (mE hs) (qE z h) S))<=zF g (oz h (v7 (mE hs) (qE z h) S))
 pays:zF h (oz h (v7 (mE hs) (qE z h) S))=S.d
 BQ:P7 h (o_ h (v7 (mE hs) (qE z h) S)) (pe z h (v7 (mE hs) (qE z h) S))=S.T (mE hs) (qE z h)
 pr:PrN (oz h (v7 (mE hs) (qE z h) S)) (o_ h (v7 (mE hs) (qE z h) S)) (pe z h (v7 (mE hs) (qE z h) S)) S.d kt kg
 sign:OK z (pe z h (v7 (mE hs) (qE z h) S))
end sC
namespace L2
open PySem
def RA:Z8 (W2 P w) X E0:=λ_ _ _ _ _ _ _ ⟨_,_,_,_,_,_,_,h⟩=>h.elim
def af.ka(e:af H H'):bj P H H':=λb o _ h=>e b o h
def bj.trans(a:bj P H H1)(b:bj P H1 H2):bj P H H2:=λc o n h=>b c o n (a c o n h)
theorem bj.write(e:bj P H H')(h:H a=fO):bj P H (upd H' a o):=λb u n q=>by
 rw[j3 (i7 q h)];exact e b u n q
theorem bj.get(T:cu P pos qual H)(e:bj P H H')(h:H b=fo o)(n:∀ps,o≠.my ps):H' b=fo o:=e b o (λz=>by
 subst z;rcases T with t|⟨c,t,_⟩
 .rw[h] at t;exact n _ (bD t)
 .rw[h] at t;exact n _ (bD t)) h
theorem cu.write(T:cu P pos qual H)(h:H a=fo (.lst xs)):cu P pos qual (upd H a o):=by
 rcases T with e|⟨c,e1,e2⟩
 .exact .inl (by rw[j3 λz=>by rw[z,h] at e;cases e];exact e)
 .exact .inr ⟨c,by rw[j3 λz=>by rw[z,h] at e1;cases e1];exact e1,by rw[j3 λz=>by rw[z,h] at e2;cases e2];exact e2⟩
end L2
namespace sC
open PySem L2 Fr
theorem b5j{j:Nat}(h:j<=1000):((j:Int)).natAbs.log2<1920:=by
 rw[Int.natAbs_natCast];by_cases h0:j=0
 .subst h0;decide
 .exact Nat.lt_trans ((mO h0).mpr (gU h (dz:1000<2^10))) dz
open Tx (S cs ch x6 J6)
def G4(ns:List Int):S:=cO (ch 44) (ns.map x6)
def C2(h:i8):S:=G4 h.1++(ch 62++(G4 h.2++eI))
def Ey(hs:List i8):S:=cO (ch 10) (hs.map C2)
def De(q:Q2):S:=if q.2=1 then x6 q.1 else x6 q.1++(ch 47++(x6 q.2++eI))
def Sm(ns:List Int):Prop:=gu ns<=100/\∀n∈ns,0<=n/\n<=10^10
theorem Bq(h0:0<=n)(h1:n<10^10):(x6 n).length<=10:=by
 obtain⟨m,rfl⟩:=jZ h0;have:=(Tx.BC (m:=m) dj).2;rw[Tx.d_];exact this
theorem O7:∀{l:List S},(∀x∈l,x.length<=B)->(l.map (·.length)).sum<=gu l*B
 |[],_=>fg
 |x::l,h=>by
  have h1:=h x cY;have h2:=O7 (l:=l) λy hy=>h y (bZ _ hy);rw[cS,dW,eM,Nat.add_mul];lia
theorem Y3(h:Sm ns):∀x∈ns.map x6,x.length<=11:=λx hx=>by
 obtain⟨n,hn,rfl⟩:=aY.mp hx;by_cases z:n=10^10
 .rw[z];decide +kernel
 .exact Nat.le_succ_of_le (Bq (h.2 n hn).1 (by have:=(h.2 n hn).2;lia))
theorem Mq(h:Sm ns):(G4 ns).length<=1200:=by
 have h1:=bF (sD (ch 44) (ns.map x6)) (kC (O7 (Y3 h)) _);rw[aH] at h1;have h3:(ch 44).length=1:=rfl;have:=h.1;rw[h3] at h1;show(cO (ch 44) (ns.map x6)).length<=1200;lia
theorem f2Y{n:Int}(h0:0<=n)(h1:n<=10^10):n.natAbs.log2<1920:=by
 have h2:n.natAbs<2^40:=dj;by_cases z:n.natAbs=0
 .rw[z];decide
 .have:=(mO z).mpr h2;lia
def Mr{n:Int}(h0:0<=n)(h1:n<10^10):n.natAbs.log2<1920:=f2Y h0 (cC h1)
theorem RC{ns:List Int}{i:Nat}(h:(ns.map sh)[i]?=fo x):∃k,x=.int k/\k∈ns:=by
 rw[aP] at h;obtain⟨k,hk,rfl⟩:=fL.mp h;exact⟨k,cm,bK hk⟩
theorem RD(m1:Sm h.1)(m2:Sm h.2):(C2 h).length<=2500:=by
 have h1:=Mq m1;have h2:=Mq m2;unfold C2;rw[Tx.d_,Tx.bu,Tx.bu,Tx.bu,aX,aX,aX];rw[Tx.d_] at h1 h2;have h3:gu (cs (ch 62))=1:=rfl;have h4:gu (cs eI)=0:=rfl;lia
theorem IT{ts:List S}{sep:S}(hJ:IL J H1 xs)(hp:H1 p=fO)(xl:gu xs=gu ts)(hl:gu ts<=100)(hb:∀t∈ts,t.length<=3000)(hs:sep.length=1)
  (step:∀(i:Nat)x t H N,xs[i]?=fo x->ts[i]?=fo t->af H1 H->(∀H3,af H H3->N (.str t) H3)->g x (c_ m fr σ) H λir H2=>Wk (c_ m fr σ) ir/\te ir H2 N)
  (hN:∀H,af H1 H->N (.str (cO sep ts)) H):IJ m fr g te σ J H1 p λH=>Qv K (.str sep) [.ref p] H N:=by
 refine N5 hJ hp (t9 dj) (λi y _=>∃t,ts[i]?=fo t/\y=.str t) (λ_ _ _ _ r _=>r) (λi y H2 zs N hy e dy hN=>?_) λzs H2 e dy len pr=>?_
 .have hi:=(cA.mp hy).1;have ht:=aS (l:=ts) (i:=i) dj;exact step i y _ H2 N hy ht e λH3 e3=>hN _ _ e3 ⟨_,ht,cm⟩
 .have ez:zs=ts.map su:=by
   refine dR λi=>?_;by_cases hi:i<gu zs
   .obtain⟨t,ht,e1⟩:=pr i _ (aS hi);rw[aS hi,e1,aP,ht];rfl
   .rw[bW dj,bW (by simp_all)]
  rw[ez] at dy;refine⟨sep,p,ts,cm,cm,ah.of dy,?_,?_⟩
  .refine bF (kC (O7 hb) _) ?_;rw[hs];lia
  .rw[Tx.join_eq];exact hN _ e
theorem DX(hJ:IL J H (ns.map sh))(hp:H p=fO)(hm:Sm ns)(q:∀H',af H H'->N (.str (G4 ns)) H') :
  IJ 1 [] (N7 0) (RV (λxs H Q=>∃i,xs=[sh i]/\i.natAbs.log2<1920/\Q (.str (x6 i)) H) (Z2 (JB 0) yb)) σ J H p λH=>Qv K (.str ",") [.ref p] H N:=by
 refine IT hJ hp fg (by rw[aH];exact hm.1) (λt ht=>bF (Y3 hm t ht) dz) rfl (λi x t H N hx ht e hN=>?_) q;obtain⟨k,rfl,hk⟩:=RC hx;rw[aP] at hx ht;obtain⟨k',h1,h2⟩:=fL.mp hx;cases h2;rw[h1] at ht;cases ht;exact⟨Wk.set dz,_,cm,k,cm,f2Y (hm.2 k hk).1 (hm.2 k hk).2,hN _ (af.refl _)⟩
theorem f2L(hS:ah K H a xs)(hB:Bk K H xs hs)(hl:hs.length<=100)(hm:∀h∈hs,Sm h.1/\Sm h.2)(hp:H p=fO)
  (step:∀y h H' N,HS K H' y h->Sm h.1->Sm h.2->(∀H3,af H' H3->N (.str (C2 h)) H3)->te ((c_ 1 [] σ).set 0 (fo y)) H' N)
  (q:∀H',af H H'->N (.str (Ey hs)) H'):IJ 1 [] (N7 0) te σ (Lr K a) H p λH=>Qv K (.str "\n") [.ref p] H N:=by
 refine IT (A3 hS) hp (by rw[aH];exact(dE hB)) (by simp_all) (λt ht=>?_) rfl (λi x t H N hx ht e hN=>?_) q
 .obtain⟨h,hh,rfl⟩:=aY.mp ht;exact bF (RD (hm h hh).1 (hm h hh).2) dz
 .obtain⟨h,hh,r⟩:=aZ.at hB hx;obtain⟨m1,m2⟩:=hm h (bK hh);rw[aP,hh] at ht;cases ht;exact⟨Wk.set dz,step x h H N (r.same e) m1 m2 hN⟩
inductive Xr(K:aF)(vs:List V)(H:Hp)(Q:VK)(sH:XK):Prop|mk:∀b a ns,vs=[.ref a]->xt b K H a (ns.map sh)->Sm ns->(∀H',af H H'->Q (.str (G4 ns)) H')->Xr K vs H Q sH
def b6R:p7 ["numbers"] ["numbers"] (i9 Y1):=⟨cm,cm,cm,de,cm,de,de⟩
def b2x:(["number"]:List aC).Nodup:=fg
theorem b5w(F:Ay K "numbers_text" Y1 f fd)(zs:mg "str"=fO):bf P w K mg base J8 (n+1) f fd ["numbers"] (Xr K):=by
 refine F.oa b6R λay A outer s H vs Q E hr h=>?_;obtain⟨b,a,ns,rfl,hS,hm,q⟩:=h;refine⟨_,j4 (o4 (K7 eP hZ iA W4 l9 (c6 (N6 ["number"] [] rfl (piB K rfl (pv 0)) (λ_ _ _ _=>j9 (i:=0) b2x rfl (aI rfl)) λ_ _ _ _=>v5 E5 rfl zs iB (c6 (pv 0) c7)) c7))),cm,b,?_⟩;cases b
 .exact⟨_,cm,a,cm,⟨_,hS⟩,λp hp=>DX (U3 hS) hp hm q⟩
 .exact⟨_,cm,a,cm,⟨_,hS⟩,λp hp=>DX (A3 hS) hp hm q⟩
inductive O3(K:aF)(vs:List V)(H:Hp)(Q:VK)(sH:XK):Prop|mk:∀v h,vs=[v]->HS K H v h->Sm h.1->Sm h.2->(∀H',af H H'->Q (.str (C2 h)) H')->O3 K vs H Q sH
def sk:p7 ["house","takes","gives"] ["house"] (i9 VS):=⟨cm,cm,cm,de,cm,de,de⟩
theorem b0m(F:Ay K "house_text" VS f fd)(C:C9 P w K mg base n "numbers_text" ["numbers"] (Xr K) fa da):bf P w K mg base J8 (n+1) f fd ["house"] (O3 K):=by
 refine F.oa sk λay A outer s H vs Q E hr h=>?_;obtain⟨v,h,rfl,⟨a,ta,ga,rfl,h0,h1,h2⟩,m1,m2,q⟩:=h;refine⟨_,j0 (D3 (pv 0) (K4 rfl (p6 (j9 (i:=1) sk.nd rfl (aI rfl)) (p6 (j9 (i:=2) sk.nd rfl (aI rfl)) A4))))
  (j4 (o4 (SF (Qw (C.c hr (c6 (pv 1) c7)) (SE (Qw (C.c hr (c6 (pv 2) c7)) SA)))))),?_⟩
 exact⟨_,cm,a,_,cm,h0,cm,_,_,cm,_,_,cm,cm,_,cm,false,ta,h.1,cm,h1,m1,λH1 e1=>⟨_,.inr ⟨rfl,by have:=Mq m1;lia⟩,_,cm,false,ga,h.2,cm,e1.cm h2,m2,λH2 e2=>⟨_,.inr ⟨rfl,by have:=Mq m2;lia⟩,q H2 (e1.trans e2)⟩⟩⟩
inductive AJ(K:aF)(vs:List V)(H:Hp)(Q:VK)(sH:XK):Prop|mk:∀a xs hs,vs=[.ref a]->ah K H a xs->Bk K H xs hs->gu hs<=100->(∀h∈hs,Sm h.1/\Sm h.2)->(∀H',af H H'->Q (.str (Ey hs)) H')->AJ K vs H Q sH
def b5q:p7 ["book"] ["book"] (i9 VT):=⟨cm,cm,cm,de,cm,de,de⟩
def b5a:(["house"]:List aC).Nodup:=fg
theorem b2s(F:Ay K "book_text" VT f fd)(C:C9 P w K mg base n "house_text" ["house"] (O3 K) fa da):bf P w K mg base J8 (n+1) f fd ["book"] (AJ K):=by
 refine F.oa b5q λay A outer s H vs Q E hr h=>?_
 obtain⟨a,xs,hs,rfl,hS,hB,hl,hm,q⟩:=h;exact⟨_,j4 (o4 (K7 eP hZ iA W4 l9 (c6 (N6 ["house"] [] rfl (C6 (pv 0)) (λ_ _ _ _=>j9 (i:=0) b5a rfl (aI rfl)) λ_ _ _ _=>C.c hr (c6 (pv 0) c7)) c7))),rfl,_,rfl,a,rfl,⟨_,hS⟩,λp hp=>f2L hS hB hl hm hp (λy h H' N r m1 m2 hN=>by exact⟨_,rfl,y,h,rfl,r,m1,m2,hN⟩) q⟩
inductive RE(K:aF)(vs:List V)(H:Hp)(Q:VK)(sH:XK):Prop|mk:∀v q,vs=[v]->Xc K H v q->q.1.natAbs.log2<1920->q.2.natAbs.log2<1920->Q (.str (De q)) H->RE K vs H Q sH
def w_:p7 ["one","top","bottom"] ["one"] (i9 V1):=⟨cm,cm,cm,de,cm,de,de⟩
theorem b1P(F:Ay K "fraction_text" V1 f fd):bf P w K mg base J8 (n+1) f fd ["one"] (RE K):=by
 refine F.oa w_ λay A outer s H vs Q E hr h=>?_;obtain⟨v,x,rfl,⟨a,rfl,h0⟩,l1,l2,q⟩:=h;refine⟨_,j0 (D3 (pv 0) (K4 rfl (p6 (j9 (i:=1) w_.nd rfl (aI rfl)) (p6 (j9 (i:=2) w_.nd rfl (aI rfl)) A4))))
  (j4 (o4 (MT (l5 E6 (pv 2) d0 (r9 _)) (b3L (pv 1)) (SF (Qw (pv 1) (SE (Qw (pv 2) SA))))))),?_⟩
 refine⟨_,cm,a,_,cm,h0,cm,_,_,cm,_,_,cm,cm,_,cm,cm,_,cm,?_⟩;unfold De at q;refine y6 (λc=>?_) λc=>?_
 .have c':x.2=1:=by simp_all
  rw[qg c'] at q;exact⟨_,cm,_,.inl ⟨x.1,cm,l1,cm⟩,q⟩
 .have c':¬x.2=1:=by simp_all
  rw[qf c'] at q;exact⟨_,cm,_,.inl ⟨x.1,cm,l1,cm⟩,_,cm,_,.inl ⟨x.2,cm,l2,cm⟩,q⟩
end sC
namespace sC
open PySem L2 Fr
open Tx (S cs ch x6 J6 A5 w4)
abbrev Kw:S:=cN "0123456789"
def a9q:∀c,c<128->(jG Kw (ch c) 0 Kw.length 1).isEmpty=!(decide (48<=c)&&decide (c<=57)):=de
def HH:Option Int->V
 |none=>.non
 |some n=>.int n
def M8 x:A5 x=(decide (1<=gu (cs x))&&decide (gu (cs x)<=10)&&(cs x).all (λc=>decide (48<=c)&&decide (c<=57))&&(decide ((cs x).head?≠fo 48)||decide (cs x=[48]))):=rfl
inductive Z1(vs:List V)(H:Hp)(Q:VK)(sH:XK):Prop|mk:∀z:S,vs=[.str z]->J6 z->z.length<=100000->(∀H',af H H'->Q (HH (w4 z)) H')->Z1 vs H Q sH
def b3Z:p7 ["text"] ["text"] (i9 Z4):=⟨cm,cm,cm,de,cm,de,de⟩
def b4S:(["sign"]:List aC).Nodup:=fg
theorem b3y(F:Ay K "read_number" Z4 f fd)(T:v8 mg)(CM:∃t,mg "MOST_FIGURES"=fo (.int 10 t))(CF:∃t,mg "FIGURES"=fo (.str Kw t)):bf P w K mg base J8 (n+1) f fd ["text"] Z1:=by
 refine F.oa b3Z λay A outer s H vs Q E hr h=>?_;obtain⟨z,rfl,ha,hl,q⟩:=h;obtain⟨tm,hM⟩:=CM;obtain⟨tf,hF⟩:=CF;refine⟨_,j0 (w6 (PW.pt (U0 (S6 (MZ EJ EJ d0 (j7 Q8 rfl T.len bB (c6 (pv 0) c7)) (C4 (v:=.int 10) rfl hM ⟨_,cm⟩))) (R9 (X6 (j7 (a7F rfl) rfl T.any xN (c6 (N6 ["sign"] [] rfl (b3d (pv 0)) (λ_ _ _ _=>j9 (i:=0) b4S rfl (aI rfl)) (λ_ _ _ _=>Z3 a2o (pv 0) (C4 (v:=.str Kw) rfl hF ⟨_,cm⟩) rfl)) c7)))))) (j4 (o4 D5)) r8)
  (j0 (w6 (PW.pt (Gv (l5 E6 (l8 Nc (pv 0) d0 (λ_ _=>rfl)) l9 (r9 _)) (T4 (l5 Ei (pv 0) l9 (r9 _))))) (j4 (o4 D5)) r8)
  (j4 (o4 (v5 DO rfl T.int lJ (c6 (pv 0) c7))))),?_⟩
 have lz:=Tx.d_ z;have je:z.length<=jb:=by rw[bE];lia
 have no:A5 z=false->Q .non H:=λc=>by
  have:=q H (af.refl _);unfold w4 at this;rw[qf (by rw[c];exact cX)] at this;exact this
 have Kx:A5 z=false->∀H',af H H'->Q .non H':=λc H' e=>by
  have:=q H' e;unfold w4 at this;rw[qf (by rw[c];exact cX)] at this;exact this
 refine⟨_,cm,z,cm,je,_,_,cm,cm,_,cm,y6 (λc1=>?_) (λc1=>?_)⟩
 rotate_left
 .have GK:¬1<=z.length:=λh=>c1 (qk (by lia));refine⟨_,cm,J3 (no ?_)⟩;rw[M8,qU (by rw[<-lz];exact GK)];rfl
 have GK:1<=z.length:=by have:=qh c1;lia
 refine⟨_,_,cm,cm,_,cm,?_⟩;by_cases c2:z.length<=10
 rotate_left
 .rw[show decide ((z.length:Int)<=10)=false from qU eX];refine J3 (no ?_);rw[M8,qU (show ¬gu (cs z)<=10 by rw[<-lz];exact c2)];simp
 rw[show decide ((z.length:Int)<=10)=true from qk eX];refine M7 ⟨_,cm,z,cm,λp hp=>?_⟩;have sl:gu (R6 z)=gu (cs z):=aH _;refine N5 a7c hp (t9 eX) (λi y _=>∃c,(cs z)[i]?=fo c/\y=.bl (!(decide (48<=c)&&decide (c<=57)))) (λ_ _ _ _ r _=>r) (λi y H2 zs N hy e dy hN=>?_) (λzs H2 e dy len pr=>?_)
 .unfold R6 at hy;rw[aP] at hy;obtain⟨c,hc,rfl⟩:=fL.mp hy;refine⟨Wk.set dz,_,cm,_,_,cm,cm,?_⟩;rw[a9q c (ha c (bK hc)),xO];exact hN _ _ (af.refl _) ⟨c,hc,cm⟩
 have ez:zs=((cs z).map λc=>!(decide (48<=c)&&decide (c<=57))).map V.bl:=by
  refine dR λi=>?_;by_cases hi:i<gu zs
  .obtain⟨h,hh,e1⟩:=pr i _ (aS hi);rw[aS hi,e1,aP,aP,hh];rfl
  .rw[bW eX,bW (by rw[aH,aH];lia)]
 rw[ez] at dy;refine⟨p,_,cm,.inl (ah.of dy),_,cm,?_⟩;have ean:(((cs z).map λc=>!(decide (48<=c)&&decide (c<=57))).any id)=!((cs z).all λc=>decide (48<=c)&&decide (c<=57)):=by
  rw[lN,List.not_all_eq_any_not];rfl
 rw[ean];by_cases c3:(cs z).all (λc=>decide (48<=c)&&decide (c<=57))=true
 rotate_left
 .have Ms:(cs z).all (λc=>decide (48<=c)&&decide (c<=57))=false:=eN.mpr c3;rw[Ms];refine J3 (Kx ?_ _ e);rw[M8,Ms];simp
 rw[c3];refine M7 ?_;obtain⟨d,r,hd⟩:s_ λd r=>cs z=d::r:=by
  cases h:cs z with
  |nil=>rw[h] at lz;simp at lz;lia
  |cons d r=>exact⟨d,r,cm⟩
 refine⟨_,cm,z,0,d,cm,cm,je,?_,cm,_,cm,?_⟩
 .show U7 (cs z) 0=fo d;rw[hd];exact A2 (j:=0) rfl
 have e0:(su (ch d)=su (cN "0")) ↔ d=48:=by
  constructor
  .intro h;have h2:=rd cs (V.str.inj h);have h3:cs (cN "0")=[48]:=dz;rw[h3] at h2;exact(kS h2).1
  .intro h;subst h;exact rd su (Tx.ext dz)
 have e1:(su z=su (cN "0")) ↔ cs z=[48]:=by
  constructor
  .intro h;rw[V.str.inj h];decide
  .intro h;exact rd su (Tx.ext (by rw[h];decide))
 have yes:A5 z=true->Q (.int ((Am (cs z):Nat):Int)) H2:=λc=>by
  have:=q H2 e;unfold w4 at this;rw[qg c] at this;exact this
 have dig:xP (cs z):=λc hc=>by
  have:=fE.mp c3 c hc;rw[fQ] at this;exact⟨qh this.1,qh this.2⟩
 have fin:A5 z=true->s_ λz' n=>[su z]=[su z']/\intText? z'=fo n/\z'.length<=640/\Q (.int n) H2:=λc =>
  ⟨z,_,cm,xQ dig (by show cs z≠[];rw[hd];simp) eX,by lia,yes c⟩
 have Fe:(decide (1<=gu (cs z))&&decide (gu (cs z)<=10)&&(cs z).all (λc=>decide (48<=c)&&decide (c<=57)))=true:=by
  rw[qk (by rw[<-lz];exact GK),qk (by rw[<-lz];exact c2),c3];rfl
 refine y6 (λc4=>?_) (λc4=>?_)
 .have Mt:d=48:=e0.mp (qh c4);refine⟨_,cm,cm,_,cm,y6 (λc5=>?_) (λc5=>?_)⟩
  .refine Kx ?_ _ e;have:¬su z=su (cN "0"):=by simpa using c5
   rw[M8,Fe,hd,Mt,qU (λh=>h rfl),qU (λh=>this (e1.mpr (by rw[hd,Mt];exact h)))];rfl
  .have:su z=su (cN "0"):=by simpa using c5
   refine⟨_,cm,fin ?_⟩;rw[M8,Fe,qk (e1.mp this)];simp
 .refine⟨_,cm,fin ?_⟩;rw[M8,Fe,qk (show(cs z).head?≠fo 48 by rw[hd];exact λh=>(λh=>c4 (qk (e0.mpr h))) (bD h))];rfl
end sC
namespace L2
open PySem
theorem cu.ne(T:cu P pos qual H)(h:H b=fo o)(n:∀ps,o≠.my ps):b≠P:=λz=>by
 subst z;rcases T with t|⟨c,t,_⟩
 .rw[h] at t;exact n _ (bD t)
 .rw[h] at t;exact n _ (bD t)
theorem c9B(T:cu P pos qual H1)(hp:H1 p=fO)(hz:n<jb)(R:Nat->V->Hp->Prop)
  (hR:∀i y H H',cu P pos qual H->(∃zs,H p=fo (.lst zs))->R i y H->(∀b o,b≠p->b≠P->H b=fo o->H' b=fo o)->R i y H')
  (step:∀i H ys N,i<n->bj P H1 H->cu P pos qual H->H p=fo (.lst ys)->(∀v H3,bj P H H3->cu P pos qual H3->R i v H3->N v H3)->te ((c_ 1 fr σ).set 0 (fo (.int (i:Int)))) H N)
  (hd:∀ys H,bj P H1 H->cu P pos qual H->H p=fo (.lst ys)->gu ys=n->(∀i y,ys[i]?=fo y->R i y H)->D H):IJ 1 fr (N7 0) te σ (Hd 0 n) H1 p D:=by
 refine⟨λi m ys H=>m=n-i/\i<=n/\bj P H1 H/\cu P pos qual H/\H p=fo (.lst ys)/\gu ys=i/\∀j y,ys[j]?=fo y->R j y H,⟨n,fg,dM _,(af.new hp _).ka,T.same (af.new hp _),ae,cm,λj y e=>by simp at e⟩,?_⟩;rintro i m ys H ⟨rfl,hi,e,L,hH,len,pr⟩;by_cases fk:i<n
 .refine .inr ⟨fk,λx H' y=>?_⟩;obtain⟨rfl,rfl⟩:=y;rw[lH];refine⟨Wk.set dz,step i _ _ _ fk e L hH λv H3 e3 L3 r3=>?_⟩;have h3:=e3.get L hH nofun;refine⟨h3,dj,n-(i+1),dj,cm,fk,(e.trans e3).write hp,L3.write h3,ae,by rw[aX,len];rfl,λj y ey=>?_⟩;have up:∀b o,b≠p->b≠P->H3 b=fo o->upd H3 p (.lst (ys++[v])) b=fo o:=λb o hb _ q=>by rw[j3 hb];exact q
  by_cases hj:j<gu ys
  .rw[dH hj] at ey;exact hR j y _ _ L ⟨_,hH⟩ (pr j y ey) λb o hb hP q=>up b o hb hP (e3 _ _ hP q)
  .rw[dU dj] at ey;have om:j-gu ys=0:=by
    cases q:j-gu ys with
    |zero=>rfl
    |succ k=>rw[q] at ey;simp at ey
   rw[om] at ey;have:j=i:=dj;subst this;simp at ey;subst ey;exact hR j v _ _ L3 ⟨_,h3⟩ r3 up
 .have:i=n:=dj;subst this;exact .inl ⟨Nat.le_refl _,hd ys H e L hH len pr⟩
end L2
namespace sC
open PySem L2 Fr
theorem d1k(hi:i<n)(hj:j<n):Wk (c_ n fr σ) (((c_ n fr σ).set i (fo v)).set j (fo u)):=by
 refine⟨fg,λk w e=>?_⟩;have:¬k<n:=λhk=>by
  unfold c_ at e;rw[dH (by simp_all),gD] at e;split at e<;>cases e
 rw[dP dj,dP dj];exact e
inductive mL(K:aF)(vs:List V)(H:Hp)(Q:VK)(sH:XK):Prop|mk:∀a ys fs D,vs=[.ref a]->ah K H a ys->bR (Xc K H) ys fs->gu fs<=100->(∀f∈fs,fh 20000 f.1/\0<f.2/\f.2<2^8000/\f.2∣D)->0<D->fh 130000 D->(∀r tl H' L,af H H'->H' r=fo (.tup [.ref tl,.int L])->H' tl=fo (.lst (fs.map λf=>sh (f.1*(L/f.2))))->0<L->L∣D->(∀f∈fs,f.2∣L)->Q (.ref r) H')->mL K vs H Q sH
def CD:p7 ["ones","shared","top","bottom"] ["ones"] (i9 l0):=⟨cm,cm,cm,de,cm,de,de⟩
def e8M:(["top","bottom","shared"]:List aC).Nodup:=dz
theorem e8T(F:Ay K "over_one_bottom" l0 f fd)(C:CZ P w K mg base n "common_divisor" ["one","other"] Iv fa da):bf P w K mg base J8 (n+1) f fd ["ones"] (mL K):=by
 refine F.oa CD λay A outer s H vs Q E hr h=>?_;obtain⟨a,ys,fs,D,rfl,hS,hF,h100,hb,hD,D',q⟩:=h;refine⟨_,j0 (r6 (i:=1) CD.nd rfl (fY rfl) d0)
  (j0 (IF hO rfl (C6 (pv 0)) (K4 rfl (p6 (j9 (i:=2) CD.nd rfl (aI rfl)) (p6 (j9 (i:=3) CD.nd rfl (aI rfl)) A4)))
   (j4 (r6 (i:=1) CD.nd rfl (fY rfl) (j8 Qr (j8 UA (pv 1) (C.c hr (c6 (pv 1) (c6 (pv 3) c7)))) (pv 3)))))
  (j4 (o4 (A9 (c6 (N6 ["top","bottom"] [1] rfl (C6 (pv 0)) (λ_ _ _ _=>IX K (n:=2) rfl rfl (p6 (j9 (i:=0) e8M rfl (aI rfl)) (p6 (j9 (i:=1) e8M rfl (aI rfl)) A4))) (λ_ _ _ _=>j8 Qr (pv 0) (j8 UA (pv 2) (pv 1)))) (c6 (pv 1) c7)))))),?_⟩
 have xl:gu ys=gu fs:=hF.length;have b8:∀{x:Int},0<x->x<=D->fh 1000000 x:=λh1 h2=>fh.mono (n:=130000) (gU eX D') dz;refine⟨_,cm,a,cm,⟨_,hS⟩,?_⟩;refine Rv (xs:=ys) (λi σ H'=>tq λ(L:Int)(o2 o3:Option V)=>σ=[fo (.ref a),fo (.int L),o2,o3]/\H'=H/\0<L/\L∣D/\∀j x,j<i->fs[j]?=fo x->x.2∣L)
  ⟨1,_,_,cm,cm,dz,⟨D,(lE D).symm⟩,λj x hj=>absurd hj (xC _)⟩ (λi σ H' _ ⟨_,_,_,_,e,_⟩=>by rw[e];exact hS) ?_ ?_
 .rintro i y σ H' hy ⟨L,o2,o3,rfl,rfl,hL,D_,Ea⟩;obtain⟨fq,Dv,b,rfl,YJ⟩:=aZ.at hF hy;obtain⟨_,hq,YK,hqd⟩:=hb fq (bK Dv);have hg:=QL (a:=L) hq;obtain⟨d1,d2⟩:=F6 hL hg (T9 L fq.2);have YM:L/gI L fq.2<=L:=by
   have:=c8h d1 hg;rw[bX,d2] at this;exact this
  refine⟨b,_,cm,YJ,cm,_,_,cm,_,_,cm,cm,_,cm,_,cm,_,cm,L,fq.2,cm,cC hq,_,_,cm,cm,⟨hg,pI (b9G (a:=L) hq) YK⟩,_,cm,_,_,cm,cm,⟨b8 d1 (xA YM (wG hD D_)),b8 hq (wG hD hqd)⟩,_,_,_,cm,cm,gJ d1 hq,e8S hL hq D_ hqd,λj y hj T_=>?_⟩;by_cases hji:j<i
  .have e:L/gI L fq.2*fq.2=L*(fq.2/gI L fq.2):=by
    obtain⟨_,d4⟩:=F6 hq hg (G7 L fq.2)
    calc L/gI L fq.2*fq.2=L/gI L fq.2*(gI L fq.2*(fq.2/gI L fq.2)):=by rw[d4]
     _=(gI L fq.2*(L/gI L fq.2))*(fq.2/gI L fq.2):=by ac_rfl
     _=L*(fq.2/gI L fq.2):=by rw[d2]
   show y.2∣L/gI L fq.2*fq.2;rw[e];exact wH (Ea j y hji T_)
  .have:j=i:=eX;subst this;rw[Dv] at T_;cases T_;exact Int.dvd_mul_of_dvd_right (Int.dvd_refl _)
 .rintro σ H' ⟨L,o2,o3,rfl,rfl,hL,D_,Ea⟩;have hdiv:∀x∈fs,x.2∣L:=λy hy=>by
   obtain⟨j,hj,rfl⟩:=rB hy;exact Ea j _ eX (aS hj)
  refine⟨_,cm,a,cm,⟨_,hS⟩,λp hp=>(N5 (A3 hS) hp (t9 eX) (λi y _=>∃x,fs[i]?=fo x/\y=.int (x.1*(L/x.2))) (λ_ _ _ _ r _=>r) (λi y H2 zs N hy e dy hN=>?_) (λzs H2 e dy len pr=>?_))⟩
  .obtain⟨fq,Dv,b,rfl,YJ⟩:=aZ.at hF hy;obtain⟨YO,hq,YK,_⟩:=hb fq (bK Dv);obtain⟨d1,d2⟩:=F6 hL hq (hdiv _ (bK Dv));have YM:L/fq.2<=L:=by
    have:=c8h d1 hq;rw[bX,d2] at this;exact this
   exact⟨b,_,cm,e.cm YJ,cm,_,_,cm,_,_,cm,cm,d1k dz dz,_,cm,_,cm,_,cm,_,_,cm,cm,⟨hq,YK⟩,_,_,cm,cm,⟨YO.mono dz,b8 d1 (xA YM (wG hD D_))⟩,hN _ _ (af.refl _) ⟨fq,Dv,cm⟩⟩
  .have ey:zs=fs.map λf=>sh (f.1*(L/f.2)):=by
    refine dR λi=>?_;by_cases hi:i<gu zs
    .obtain⟨x,z1,z2⟩:=pr i _ (aS hi);rw[aS hi,z2,aP,z1];rfl
    .rw[bW eX,bW (by rw[aH];lia)]
   rw[ey] at dy;refine⟨_,cm,aw,λr MB=>?_⟩;have f2:=af.new MB (.tup [sy p,sh L]);exact q r p _ L (e.trans f2) ae (f2 _ _ dy) hL D_ hdiv
structure d3b(pt pg:List Int)(ps D L:Int):Prop where
 l:0<L
 d:L∣D
 t:∀x∈pt,(low x D).2∣L
 g:∀x∈pg,(low x D).2∣L
 s:(low ps D).2∣L
def e0Y(x y:Q2):Int:=if x.1*y.2<y.1*x.2 then -1 else if x.1*y.2>y.1*x.2 then 1 else 0
inductive Dx(K:aF)(vs:List V)(H:Hp)(Q:VK)(sH:XK):Prop|mk:∀u v x y,vs=[u,v]->Xc K H u x->Xc K H v y->(fh 1000000 x.1/\fh 1000000 x.2/\fh 1000000 y.1/\fh 1000000 y.2)->Q (.int (e0Y x y)) H->Dx K vs H Q sH
def yT:p7 ["one","other","left","right"] ["one","other"] (i9 VY):=⟨cm,cm,cm,de,cm,de,de⟩
theorem e8X(F:Ay K "compared" VY f fd):bf P w K mg base J8 (n+1) f fd ["one","other"] (Dx K):=by
 refine F.oa yT λay A outer s H vs Q E hr h=>?_;obtain⟨u,v,x,y,rfl,⟨a,rfl,ha⟩,⟨b,rfl,hb⟩,⟨b1,b2,b3,b4⟩,q⟩:=h;refine⟨_,j0 (r6 (i:=2) yT.nd rfl (aI rfl) (j8 Qr (l8 U8 (pv 0) d0 λ_ _=>rfl) (l8 U8 (pv 1) d0 λ_ _=>rfl)))
  (j0 (r6 (i:=3) yT.nd rfl (aI rfl) (j8 Qr (l8 U8 (pv 1) d0 λ_ _=>rfl) (l8 U8 (pv 0) d0 λ_ _=>rfl)))
  (j0 (w6 (l5 EI (pv 2) (pv 3) (r9 _)) (j4 (o4 (Eh V2 d0))) r8)
  (j0 (w6 (l5 Ej (pv 2) (pv 3) (r9 _)) (j4 (o4 d0)) r8)
  (j4 (o4 d0))))),?_⟩
 refine⟨_,cm,a,_,0,_,cm,cm,ha,Oz _ _,_,cm,b,_,1,_,cm,cm,hb,Mj _ _,_,_,cm,cm,⟨b1,b4⟩,_,cm,b,_,0,_,cm,cm,hb,Oz _ _,_,cm,a,_,1,_,cm,cm,ha,Mj _ _,_,_,cm,cm,⟨b3,b2⟩,?_⟩;unfold e0Y at q;refine⟨_,cm,_,cm,_,_,cm,cm,_,cm,y6 (λc=>?_) λc=>?_⟩
 .rw[qg (qh c)] at q;exact⟨_,cm,q⟩
 rw[qf (ql (eN.mpr c))] at q;refine⟨_,cm,_,cm,_,_,cm,cm,_,cm,y6 (λd=>?_) λd=>?_⟩
 .rw[qg (qh d)] at q;exact q
 .rw[qf (ql (eN.mpr d))] at q;exact q
def Fd(a b:Int):Int:=if a<b then -1 else if a>b then 1 else 0
def Zo(x:Q2):Prop:=fh 1000000 x.1/\fh 1000000 x.2
inductive Ff(K:aF)(vs:List V)(H:Hp)(Q:VK)(sH:XK):Prop|mk:∀u v x y,vs=[u,v]->Xc K H u x->Xc K H v y->Zo x->Zo y->Q (.int (Fd (x.1*y.2) (y.1*x.2))) H->Ff K vs H Q sH
theorem f2A(F:bf P w K mg base J8 n f fd ["one","other"] (Dx K)):bf P w K mg base J8 n f fd ["one","other"] (Ff K):=F.imp λvs H Q E h=>by
 obtain⟨u,v,x,y,rfl,hu,hv,sx,sy_,q⟩:=h;exact⟨u,v,x,y,cm,hu,hv,⟨sx.1,sx.2,sy_.1,sy_.2⟩,q⟩
def K_(h o:i8):Prop:=∀i,i<gu h.2->o.2.getD i 0<=h.2.getD i 0
theorem f1A:∀(hs os:List Int),gu hs=gu os->((cV (λx y=>decide (y<=x)) hs os).all id=true ↔ ∀i,i<gu hs->os.getD i 0<=hs.getD i 0)
 |[],[],_=>⟨λ_ i hi=>absurd hi (xC _),λ_=>rfl⟩
 |[],_::_,h=>by simp at h
 |_::_,[],h=>by simp at h
 |a::r,b::t,h=>by
  have ih:=f1A r t (by simpa using h);rw[eW,uE,fQ,ih];constructor
  .rintro⟨h0,h1⟩ i hi;cases i with
   |zero=>exact qh h0
   |succ j=>exact h1 j (by simp_all)
  .intro h0;exact⟨qk (h0 0 fg),λi hi=>h0 (i+1) (by simpa using hi)⟩
inductive Lb(K:aF)(vs:List V)(H:Hp)(Q:VK)(sH:XK):Prop|mk:∀u v h o,vs=[u,v]->HS K H u h->HS K H v o->gu h.2=gu o.2->gu h.2<=900->(∀b H',af H H'->(b=true ↔ K_ h o)->Q (.bl b) H')->Lb K vs H Q sH
def f3b:p7 ["house","other"] ["house","other"] (i9 VZ):=⟨cm,cm,cm,de,cm,de,de⟩
def f2K:(["give","wanted"]:List aC).Nodup:=dz
theorem f2S(F:Ay K "gives_no_less" VZ f fd)(T:v8 mg):bf P w K mg base J8 (n+1) f fd ["house","other"] (Lb K):=by
 refine F.oa f3b λay A outer s H vs Q E hr h=>?_;obtain⟨u,v,h,o,rfl,⟨a1,t1,g1,rfl,e1,e2,e3⟩,⟨a2,t2,g2,rfl,d1,d2,d3⟩,hl,hz,q⟩:=h;refine⟨_,j4 (o4 (j7 (Sq rfl) rfl T.all xV (c6
  (N6 ["give","wanted"] [] rfl (QI false false K rfl rfl T.zip (c6 (l8 U8 (pv 0) d0 λ_ _=>rfl) (c6 (l8 U8 (pv 1) d0 λ_ _=>rfl) c7)))
   (λ_ _ _ _=>IX (n:=2) K rfl rfl (p6 (j9 (i:=0) f2K rfl (aI rfl)) (p6 (j9 (i:=1) f2K rfl (aI rfl)) A4)))
   (λ_ _ _ _=>Z3 Qb (pv 0) (pv 1) (r9 _))) c7))),?_⟩
 refine⟨_,cm,a1,_,1,_,cm,cm,e1,Mj _ _,_,cm,a2,_,1,_,cm,cm,d1,Mj _ _,g1,g2,cm,⟨_,e3⟩,⟨_,d3⟩,λp hp=>(b9k e3 d3 hp (by rw[aH _];exact t9 dj) (λx y=>.bl (decide (vI y<=vI x))) (λi x y H' N hx hy e hN=>?_) λH' e dy=>?_)⟩
 .obtain⟨k,rfl⟩:=T0 hx;obtain⟨j,rfl⟩:=T0 hy;exact⟨_,cm,_,cm,_,_,cm,cm,b8P hN rfl⟩
 .refine⟨p,(cV (λx y=>decide (y<=x)) h.2 o.2),cm,.inl (ah.of ?_),q _ _ ((af.refl _).trans e) (f1A h.2 o.2 hl)⟩
  .rw[dy,List.zipWith_map,List.map_zipWith];rfl
theorem f3l(ht:0<=t)(hb:0<b):0<=(low t b).1/\(low t b).1<=t:=by
 obtain⟨h1,_⟩:=QM hb;have hg:=QL (a:=t) hb;generalize (low t b).1=x at h1;generalize gI t b=g at h1 hg;have hx:0<=x:=by
  by_cases z:0<=x
  .exact z
  .have:=gJ hg (dj:0 < -x);rw[fT] at this;lia
 refine⟨hx,?_⟩;have:=fH (dj:(1:Int)<=g) hx;rw[lE,<-h1] at this;exact this
def yU(a:Q2)(p:Int×Int):Q2:=if a.1*p.2<p.1*a.2 then low p.1 p.2 else a
def Bv(ts os:List Int):Q2:=(eT ts os).foldl yU (0,1)
structure xi(a:Q2):Prop where
 t0:0<=a.1
 t1:a.1<=1000000000
 b1:a.2<=1000000000
 c:UU a
def Lc(x:Int):Prop:=1<=x/\x<=1000000000
theorem xi.low(ht:Lc t)(ho:Lc o):xi (low t o):=by
 have hb:0<o:=by have:=ho.1;lia
 have h:=f3l (t:=t) (by have:=ht.1;lia) hb;exact⟨h.1,xA h.2 ht.2,xA (b7R hb) ho.2,UO hb⟩
theorem xi.Ld(h:xi a):Zo a:=by
 have h1:=h.t1;have h2:=h.b1;exact⟨(XC (n:=60) h.t0 dj).mono dz,(XC (n:=60) (cC h.c.1) dj).mono dz⟩
def xi.one:xi (0,1):=⟨dz,dz,dz,dz,dz⟩
def f2j{c:Int}(h:0<c):a*c<b*c ↔ a<b:=⟨λz=>Int.lt_of_mul_lt_mul_right z (cC h),λz=>Int.mul_lt_mul_of_pos_right z h⟩
theorem f2e{a:Q2}(ho:0<o):a.1*(low t o).2<(low t o).1*a.2 ↔ a.1*o<t*a.2:=by
 have hc:=DQ (x:=t) ho;have hp:=Im (t:=t) ho;generalize (low t o).1=t' at *;generalize (low t o).2=o' at *;rw[<-f2j ho,<-f2j (a:=a.1*o) hp];have e1:a.1*o'*o=a.1*o*o':=by rw[cG,bX o' o,<-cG]
 have e2:t'*a.2*o=t*a.2*o':=by rw[cG,bX a.2 o,<-cG,hc,cG,bX o' a.2,<-cG]
 rw[e1,e2]
theorem f2a a b:(0<Fd a b) ↔ b<a:=by
 unfold Fd;split
 .lia
 .split<;>lia
theorem f1O a b:(Fd a b<0) ↔ a<b:=by
 unfold Fd;split
 .lia
 .split<;>lia
theorem f2Z{α β:Type}{xs}{ys}{i:Nat}{x:α}{y:β}(h1:xs[i]?=fo x)(h2:ys[i]?=fo y):(eT xs ys)[i]?=fo (x,y):=by
 rw[List.getElem?_zip_eq_some];exact⟨h1,h2⟩
theorem f1H{α β:Type}g(b:β){l:List α}{x}(h:l[i]?=fo x):(l.take (i+1)).foldl g b=g ((l.take i).foldl g b) x:=by
 rw[rC,h,List.foldl_append];rfl
theorem f1P{ns:List Int}{i:Nat}(h:(ns.map sh)[i]?=fo x):∃k,x=.int k/\ns[i]?=fo k:=by
 rw[aP] at h;cases e:ns[i]? with
 |none=>rw[e] at h;cases h
 |some k=>rw[e] at h;cases h;exact⟨k,cm,cm⟩
structure f0I(K:aF)(mg:aC->Option aE)(o:aA):Prop where
 m:mg "NOUGHT"=fo (.ref o)
 s:∀H,cq K H o [.int 0,.int 1]
inductive Fl(K:aF)(vs:List V)(H:Hp)(Q:VK)(sH:XK):Prop|mk:∀t1 t2 ts os,vs=[.ref t1,.ref t2]->cq K H t1 (ts.map sh)->cq K H t2 (os.map sh)->gu ts=gu os->1<=gu ts->(∀x∈ts,Lc x)->(∀x∈os,Lc x)->(∀v H',af H H'->Ex H' v (Bv ts os)->xi (Bv ts os)->Q v H')->Fl K vs H Q sH
def yr:p7 ["takes","others","least","take","other","times"] ["takes","others"] (i9 Io):=⟨cm,cm,cm,de,cm,de,de⟩
theorem f3p(F:Ay K "least_times" Io f fd)(T:v8 mg)(N:f0I K mg wt)(Cl:CZ P w K mg base n "lowest" ["top","bottom"] Xd fa da)(BK:CZ P w K mg base n "compared" ["one","other"] (Ff K) fb db) :
  bf P w K mg base J8 (n+1) f fd ["takes","others"] (Fl K):=by
 refine F.oa yr λay A outer s H vs Q E hr h=>?_;obtain⟨t1,t2,ts,os,rfl,h1,h2,hl,h0,mr,at2,q⟩:=h;refine⟨_,j0 (r6 (i:=2) yr.nd rfl (aI rfl) (C4 (v:=.ref wt) rfl N.m rfl))
  (j0 (IF hO rfl (QI false false K rfl rfl T.zip (c6 (pv 0) (c6 (pv 1) c7))) (IX K (n:=2) rfl rfl (p6 (j9 (i:=3) yr.nd rfl (aI rfl)) (p6 (j9 (i:=4) yr.nd rfl (aI rfl)) A4)))
   (j0 (r6 (i:=5) yr.nd rfl (aI rfl) (Cl.c hr (c6 (pv 3) (c6 (pv 4) c7))))
   (j4 (w6 (l5 Ej (BK.c hr (c6 (pv 5) (c6 (pv 2) c7))) d0 (r9 _)) (j4 (r6 (i:=2) yr.nd rfl (aI rfl) (pv 5))) r8))))
  (j4 (o4 (pv 2)))),?_⟩
 refine⟨_,cm,_,cm,t1,t2,cm,⟨_,h1⟩,⟨_,h2⟩,?_⟩;refine f2M (b1:=false) (b2:=false) (xs:=ts.map sh) (ys:=os.map sh) (i1:=3) (i2:=4) (λi σ H'=>t_ λ(v:V)(o3 ug o5:Option V)=>σ=[fo (.ref t1),fo (.ref t2),fo v,o3,ug,o5]/\af H H'/\Xc K H' v (((eT ts os).take i).foldl yU (0,1))/\xi (((eT ts os).take i).foldl yU (0,1))/\(1<=i->Ex H' v (((eT ts os).take i).foldl yU (0,1))))
  ⟨_,_,_,_,cm,af.refl _,⟨wt,cm,N.s _⟩,xi.one,λz=>absurd z dz⟩ (λi σ H' ⟨_,_,_,_,_,e,_⟩=>⟨e.cm h1,e.cm h2⟩) ?_ ?_
 .rintro i x y σ H1 qq hx hy ⟨v,o3,ug,o5,rfl,e1,hv,hA,hT⟩ hq;obtain⟨t,rfl,ht⟩:=f1P hx;obtain⟨o,rfl,ho⟩:=f1P hy;have A1:=mr t (bK ht);have za:=at2 o (bK ho);have o0:0<o:=by have:=za.1;lia
  refine⟨_,cm,_,cm,t,o,cm,o0,pI za.2 dz,λu H2 e2 hu=>?_⟩;have Oy:=(af.new hq (.tup [sh t,sh o])).trans e2;rw[f1H yU (0,1) (f2Z ht ho)];have hz:i=0->((eT ts os).take i).foldl yU (0,1)=(0,1):=by rintro rfl;rfl
  generalize ((eT ts os).take i).foldl yU (0,1)=a at hv hA hT hz;have AL_:=xi.low A1 za;refine⟨_,cm,_,cm,u,v,low t o,a,cm,hu.v,hv.same Oy,AL_.Ld,hA.Ld,_,_,cm,cm,_,cm,y6 (λc=>?_) (λc=>?_)⟩
  .have c':=qh c;rw[f2a,f2e o0] at c';have es:yU a (t,o)=low t o:=by unfold yU;rw[qg c']
   refine⟨_,cm,u,_,_,_,cm,e1.trans Oy,?_,?_,?_⟩
   .rw[es];exact hu.v
   .rw[es];exact AL_
   .intro _;rw[es];exact hu
  .have c':=ql (eN.mpr c);rw[f2a,f2e o0] at c';have es:yU a (t,o)=a:=by unfold yU;rw[qf c']
   refine⟨v,_,_,_,cm,e1.trans Oy,?_,?_,?_⟩
   .rw[es];exact hv.same Oy
   .rw[es];exact hA
   .intro _;rw[es];by_cases hi:1<=i
    .exact(hT hi).same Oy
    .exfalso;have ea:=hz eX;rw[ea] at c';have:=A1.1;simp only[gY,jF] at c';lia
 .rintro σ H1 ⟨v,o3,ug,o5,rfl,e1,hv,hA,hT⟩;have lm:min (gu (ts.map sh)) (gu (os.map sh))=gu (eT ts os):=by rw[aH,aH,Z']
  have lz:1<=gu (eT ts os):=by rw[Z'];lia
  rw[lm,fZ (aT _)] at hA hT;exact⟨_,cm,q v H1 e1 (hT lz) hA⟩
def BS(h o:i8):Bool:=(aW (gu h.2)).all λi=>decide (o.2.getD i 0<=h.2.getD i 0)
theorem f1X h o:BS h o=true ↔ K_ h o:=by
 unfold BS K_;rw[fE];exact⟨λz i hi=>qh (z i (fF.mpr hi)),λz i hi=>qk (z i (fF.mp hi))⟩
theorem f2r(i:b=true ↔ K_ h o):b=BS h o:=by
 rw[<-f1X] at i;cases b<;>cases e:BS h o
 .rfl
 .exact absurd (i.mpr e) dz
 .exact absurd (i.mp rfl) (by simp_all)
 .rfl
def yV(o:i8)(b:Option (Q2×Nat))(k:Nat)(h:i8):Option (Q2×Nat) :=
 if BS h o=true then (match b with|none=>fo (Bv h.1 o.1,k)|some (q,j)=>if (Bv h.1 o.1).1*q.2<q.1*(Bv h.1 o.1).2 then fo (Bv h.1 o.1,k) else fo (q,j)) else b
def yu(hs:List i8)(o:i8):Nat->Option (Q2×Nat)
 |0=>fO
 |i+1=>yV o (yu hs o i) i (hs.getD i ([],[]))
def Ft(H:Hp)(v:V)(b:Option (Q2×Nat)):Prop:=match b with
 |none=>v=.non
 |some (q,k)=>s_ λa u=>v=.ref a/\H a=fo (.tup [u,.int (k:Int)])/\Ex H u q/\xi q
theorem Ft.same(e:af H H')(h:Ft H v b):Ft H' v b:=by
 match b,h with
 |none,h=>exact h
 |some (q,k),⟨a,u,h1,h2,h3,h4⟩=>exact⟨a,u,h1,e _ _ h2,h3.same e,h4⟩
abbrev Far:Int:=1000000000
inductive Fu(K:aF)(CN:aA)(vs:List V)(H:Hp)(Q:VK)(E:XK):Prop|mk:∀(a:aA)(xs:List V)(hs:List i8)(m:Int)(kt kg:Nat),vs=[.ref a,.int m]->ah K H a xs->Bk K H xs hs->(∀h∈hs,HG Far kt kg h)->1<=kt->kg<=900->m.natAbs.log2<1920->(∀(i:Nat)h,m=(i:Int)->hs[i]?=fo h->∀v H',af H H'->Ft H' v (yu hs h (gu hs))->Q v H')->(¬AA (gu xs) m->E (.ref CN) fO H)->Fu K CN vs H Q E
def vt:p7 ["book","number","house","best","other","single","times"] ["book","number"] (i9 Ip):=⟨cm,cm,cm,de,cm,de,de⟩
theorem f3m(F:Ay K "share_alone" Ip f fd)(T:v8 mg)(Ch:vn P w K mg base n "house_of" ["book","number"] (OA K CN) fa da)(Cg:CZ P w K mg base n "gives_no_less" ["house","other"] (Lb K) fb db)
  (Cl:CZ P w K mg base n "least_times" ["takes","others"] (Fl K) fc dc) (BK:CZ P w K mg base n "compared" ["one","other"] (Ff K) fe_ de_):bf P w K mg base (W2 P w) (n+1) f fd ["book","number"] (Fu K CN):=by
 refine F.ob vt λay A outer s H vs Q E hr h=>?_;obtain⟨a,xs,hs,m,kt,kg,rfl,hS,hB,hG,Kr,Ks,lm,q,hE⟩:=h;refine⟨_,j0 (r6 (i:=2) vt.nd rfl (aI rfl) (l7 Ch.ok hr rfl Ch.m Ch.k Ch.b .nil V5 (c6 (pv 0) (c6 (pv 1) c7))))
  (fu.oi (j0 (r6 (i:=3) vt.nd rfl (aI rfl) D5)
  (j0 (IF hO rfl (Il K rfl rfl T.enum (c6 (pv 0) c7)) (IX K (n:=2) rfl rfl (p6 (j9 (i:=4) vt.nd rfl (aI rfl)) (p6 (j9 (i:=5) vt.nd rfl (aI rfl)) A4)))
   (j4 (w6 (X6 (Cg.c hr (c6 (pv 5) (c6 (pv 2) c7))))
    (j0 (r6 (i:=6) vt.nd rfl (aI rfl) (Cl.c hr (c6 (l8 U8 (pv 5) d0 (λ_ _=>rfl)) (c6 (l8 U8 (pv 2) d0 (λ_ _=>rfl)) c7))))
    (j4 (w6 (PW.pt (U0 (l5 Lv (pv 3) D5 (r9 _)) (R9 (l5 EI (BK.c hr (c6 (pv 6) (c6 (l8 U8 (pv 3) d0 (λ_ _=>rfl)) c7))) d0 (r9 _)))))
     (j4 (r6 (i:=3) vt.nd rfl (aI rfl) (A9 (c6 (pv 6) (c6 (pv 4) c7))))) r8))) r8)))
  (j4 (o4 (pv 3)))))),?_⟩
 refine⟨_,cm,_,cm,a,xs,m,cm,hS,lm,λi hv hi hx=>?_,hE⟩;obtain⟨o,ho,IA⟩:=aZ.at hB hx;have Zp:=hG o (bK ho);refine⟨_,cm,a,cm,⟨_,hS⟩,?_⟩;refine UG (xs:=xs) (i1:=4) (i2:=5) (λj σ H'=>t_ λ(bv:V)(ug o5 o6:Option V)=>σ=[fo (.ref a),fo (.int m),fo hv,fo bv,ug,o5,o6]/\af H H'/\Ft H' bv (yu hs o j))
  ⟨_,_,_,_,cm,af.refl _,cm⟩ (λj σ H' ⟨_,_,_,_,_,e,_⟩=>e.seq hS) ?_ ?_
 .rintro j x σ H1 qq f' ⟨bv,ug,o5,o6,rfl,e1,hb⟩ hq;obtain⟨h,hh,hH⟩:=aZ.at hB f';have gh:=hG h (bK hh);have s1:=af.new hq (.tup [sh (j:Int),x]);have e2:=e1.trans s1;have ej:yu hs o (j+1)=yV o (yu hs o j) j h:=by
   show yV o (yu hs o j) j (hs.getD j ([],[]))=_;rw[bA,hh];rfl
  refine⟨_,cm,_,cm,x,hv,h,o,cm,hH.same e2,IA.same e2,by rw[gh.lg,Zp.lg],by rw[gh.lg];lia,λb H2 e3 ib=>?_⟩;have IU:=f2r ib;subst IU;have e4:=e2.trans e3;have hb3:=(hb.same s1).same e3;refine⟨_,cm,y6 (λc=>?_) (λc=>?_)⟩
  .obtain⟨a1,t1,g1,rfl,p1,p2,p3⟩:=hH.same e4;obtain⟨a2,t2,g2,rfl,r1,r2,r3⟩:=IA.same e4;refine⟨_,cm,a1,_,0,_,cm,cm,p1,Oz _ _,_,cm,a2,_,0,_,cm,cm,r1,Oz _ _,t1,t2,h.1,o.1,cm,p2,r2,by rw[gh.lt,Zp.lt],by rw[gh.lt];exact Kr,gh.t,Zp.t,λu H3 e5 hu hA=>?_⟩;have Le:=hb3.same e5;have e6:=e4.trans e5;rw[ej];unfold yV;rw[qg c];cases Iy:yu hs o j with
   |none =>
    rw[Iy] at Le;cases (show bv=.non from Le);refine⟨_,cm,cm,_,cm,y6 (λ_=>J3 ⟨_,cm,_,cm,aw,λp hp=>?_⟩) (λd=>absurd (qk rfl) d)⟩;have s2:=af.new hp (.tup [u,sh (j:Int)]);exact⟨_,_,_,_,cm,e6.trans s2,p,u,cm,ae,hu.same s2,hA⟩
   |some pr =>
    obtain⟨q1,k1⟩:=pr;rw[Iy] at Le;obtain⟨ab,ub_,rfl,yh,hub,hAq⟩:=Le;refine⟨_,cm,cm,_,cm,y6 (λd=>absurd (qh d) (by intro z;cases z)) (λ_=>⟨_,cm,_,cm,ab,_,0,_,cm,cm,cq.of yh,Oz _ _,u,ub_,Bv h.1 o.1,q1,cm,hu.v,hub.v,hA.Ld,hAq.Ld,_,_,cm,cm,_,cm,y6 (λd=>?_) (λd=>?_)⟩)⟩
    .have d':=qh d;rw[f1O] at d';dsimp only;rw[qg d'];refine⟨_,cm,_,cm,aw,λp hp=>?_⟩;have s2:=af.new hp (.tup [u,sh (j:Int)]);exact⟨_,_,_,_,cm,e6.trans s2,p,u,cm,ae,hu.same s2,hA⟩
    .have d':=ql (eN.mpr d);rw[f1O] at d';dsimp only;rw[qf d'];exact⟨_,_,_,_,cm,e6,ab,ub_,cm,yh,hub,hAq⟩
  .refine⟨_,_,_,_,cm,e4,?_⟩;rw[ej];unfold yV;rw[qf c];exact hb3
 .rintro σ H1 ⟨bv,ug,o5,o6,rfl,e1,hb⟩;rw[dE hB] at hb;exact⟨_,cm,q i o hi ho bv H1 e1 hb⟩
def CZ.Fw(C:CZ P w K mg base n "compared" ["one","other"] (Dx K) fa da):CZ P w K mg base n "compared" ["one","other"] (Ff K) fa da:=⟨f2A C.ok,C.b,C.k,C.m⟩
def f2U(F:Ay K "least_times" Io f fd)(T:v8 mg)(N:f0I K mg wt)(Cl:CZ P w K mg base n "lowest" ["top","bottom"] Xd fa da)(BK:CZ P w K mg base n "compared" ["one","other"] (Dx K) fb db):bf P w K mg base J8 (n+1) f fd ["takes","others"] (Fl K):=f3p F T N Cl BK.Fw
def f2P(F:Ay K "share_alone" Ip f fd)(T:v8 mg)(Ch:vn P w K mg base n "house_of" ["book","number"] (OA K CN) fa da)(Cg:CZ P w K mg base n "gives_no_less" ["house","other"] (Lb K) fb db)
  (Cl:CZ P w K mg base n "least_times" ["takes","others"] (Fl K) fc dc) (BK:CZ P w K mg base n "compared" ["one","other"] (Dx K) fe_ de_):bf P w K mg base (W2 P w) (n+1) f fd ["book","number"] (Fu K CN):=f3m F T Ch Cg Cl BK.Fw
end sC
namespace Lp
theorem Of.Fg(O:Of m q A b c S)(hl:l<m)(hA:∀j,j<q->A l j=c j)(st:cM m q S):False:=by
 obtain⟨cc,hc,neg,-,no⟩:=st;have K0:=(O.k _).mp (O.w.qp (c:=cc) dj);obtain⟨rows,goal⟩:=EW.mp K0;have zc:nc m S cc (q+m+1)=0:=by
  rw[<-O.w.oq];exact O.w.h_ dj dj dj
 have zg:nc m S cc (q+m) =-S.T m cc:=by
  rw[<-O.w.im];exact O.w.jd dj dj
 have nl:0<=nc m S cc (q+l):=by
  rcases O.w.all (q+l) dj with⟨i,hi,e⟩|⟨j,hj,e⟩
  .rw[<-e,O.w.jd dj dj];have:=no i hi;lia
  .rw[<-e];by_cases wj:j=cc
   .subst wj;rw[Wf.yi];exact cC O.w.pos
   .rw[O.w.h_ dj dj wj];exact dL _
 have rl:=rows l hl;rw[zc,cW,gK] at rl;have e:sumTo (λj=>c j*nc m S cc j) q=sumTo (λj=>A l j*nc m S cc j) q:=aj λj hj=>by rw[hA j hj]
 rw[zg,e] at goal;lia
end Lp
namespace sC
open PySem L2 Fr
def vo(z:aC)(g:i8):List Int:=A7 z g++[g.2.sum-g.1.sum]
def P1(z:aC)(h:i8):List Int:=aQ (gu h.1+gu h.2+gu (K5 z)) 0++[1]
def P4(z:aC)(hs:List i8)(h:i8):List (List Int):=hs.map (vo z)++[(vo z h).map λx=>-x,P1 z h]
def zo(hs:List i8):List Int:=aQ (gu hs) 0++[0,1]
abbrev mF(hs:List i8):Nat:=gu hs+2
abbrev qF(z:aC)(h:i8):Nat:=gu h.1+gu h.2+gu (K5 z)+1
abbrev OfF(z:aC)(hs:List i8)(h:i8)(S:Lp.Bo):Prop:=Lp.Of (mF hs) (qF z h) (Y8 (P4 z hs h)) (M2 (zo hs)) (M2 (P1 z h)) S
def RF(z:aC)(hs:List i8)(h:i8)(S:Lp.Bo):Prop:=OfF z hs h S/\(∀j,j<qF z h->¬S.T (mF hs) j<0)/\Sz 4000 (mF hs) (qF z h) S
def b6p:(["takes","gives"]:List aC).Nodup:=dz
def b6q:(["row","floor"]:List aC).Nodup:=dz
def b8B:(["one"]:List aC).Nodup:=fg
section
variable{P:aM}{w:aL}{K:aF}{mg:aC->Option aE}{base:aJ}{f Pt d:aA}{fd:aK}{n:Nat}{C:aA}
inductive XT(K:aF)(Pt:aA)(vs:List V)(H:Hp)(Q:VK)(sH:XK):Prop|mk:∀(ba:aA)(xs:List V)(hs:List i8)(i:Nat)(h:i8)(z:aC)(far:Int)(kt kg:Nat),vs=[.ref ba,.int i,.str z]->O4 z->O6 K H ba xs hs far kt kg->far<=2^50->hs[i]?=fo h->LT Pt H->(∀S H' t aa wa,RF z hs h S->bj Pt H H'->LT Pt H'->H' t=fo (.tup [.int (S.T (mF hs) (qF z h)),.ref aa,.ref wa,.int S.d]) → H' aa=fo (.lst ((v7 (mF hs) (qF z h) S).map sh))->H' wa=fo (.lst ((K1 (mF hs) (qF z h) S).map sh))->Q (.ref t) H')->XT K Pt vs H Q sH
def Dh:p7 ["houses","number","sizes","rows","floors","firm","goal"] ["houses","number","sizes"] (i9 LQ):=⟨cm,cm,cm,de,cm,de,de⟩
def flT{f1 f2:aA}{d1 d2:aK}(N:v8 mg)(Cg:C9 P w K mg base n "greatest" ["goal","rows","bounds"] (O5 K C Pt) f1 d1)(Ch:C9 P w K mg base n "house_rows" ["houses","sizes"] (M4 K) f2 d2)
  (hr:b_ n (A.deeper (cD "greatest_floor" (i9 LQ) s.heap.objs.size f ay))) :
  {t:TS//fu (N8 J8 P w K mg base ["houses","number","sizes","rows","floors","firm","goal"] "greatest_floor" (i9 LQ) f ay A outer s H E).oi (x9 LQ) t} :=
 ⟨_,j0 (r6 (i:=3) Dh.nd rfl (aI rfl) (Ch.c hr (c6 (pv 0) (c6 (pv 2) c7))))
  (t8 (CA (i:=4) ["takes","gives"] [] Dh.nd rfl rfl rfl (C6 (pv 0)) (λ_ _ _ _=>IX K (n:=2) rfl rfl (p6 (j9 (i:=0) b6p rfl (aI rfl)) (p6 (j9 (i:=1) b6p rfl (aI rfl)) A4)))
   (λ_ _ _ _=>j8 IH (j7 (b1q K rfl rfl) rfl N.sum xR (c6 (pv 1) c7)) (j7 (b1q K rfl rfl) rfl N.sum xR (c6 (pv 0) c7))))
  (t8 (CA (i:=3) ["row","floor"] [] Dh.nd rfl rfl rfl (QI true true K rfl rfl N.zip (c6 (pv 3) (c6 (pv 4) c7))) (λ_ _ _ _=>IX K (n:=2) rfl rfl (p6 (j9 (i:=0) b6q rfl (aI rfl)) (p6 (j9 (i:=1) b6q rfl (aI rfl)) A4)))
   (λ_ _ _ _=>j8 B9 (pv 0) (v9 (c6 (pv 1) c7))))
  (t8 (CA (i:=5) ["one"] [] Dh.nd rfl rfl rfl (C6 (l8 j5 (pv 3) (pv 1) (λ_ _=>rfl))) (λ_ _ _ _=>j9 (i:=0) b8B rfl (aI rfl)) (λ_ _ _ _=>Eh V2 (pv 0)))
  (t8 (r6 (i:=6) Dh.nd rfl (aI rfl) (j8 B9 (j8 Q6 (v9 (c6 d0 c7)) (j8 IH (j7 j6 rfl N.len bB (c6 (pv 5) c7)) d0)) (v9 (c6 d0 c7))))
  (j4 (o4 (Cg.c hr (c6 (pv 6) (c6 (j8 B9 (pv 3) (v9 (c6 (pv 5) (c6 (pv 6) c7))))
   (c6 (j8 B9 (j8 Q6 (v9 (c6 d0 c7)) (j7 j6 rfl N.len bB (c6 (pv 0) c7))) (v9 (c6 d0 (c6 d0 c7)))) c7))))))))))⟩
end
theorem Xu:∀{l:List Int}{M},(∀x∈l,x.natAbs<=M)->l.sum.natAbs<=gu l*M
 |[],_,_=>fg
 |a::r,M,h=>by
  have h1:=h a (.head _);have h2:=Xu (l:=r) (M:=M) λx hx=>h x (.tail _ hx);rw[dW,eM,mI];lia
theorem a6Z(hg:HG far kt kg g)(hf:far<=2^50)(Kr:kt<=20)(Ks:kg<=20):∀x∈vo z g,x.natAbs<=2^60:=λx hx=>by
 have ht:∀x∈g.1,x.natAbs<=2^50:=λx hx=>by have:=hg.t x hx;lia
 have qo:∀x∈g.2,x.natAbs<=2^50:=λx hx=>by have:=hg.g x hx;lia
 unfold vo A7 at hx;rcases bJ.mp hx with hx|hx
 .rcases bJ.mp hx with hx|hx
  .rcases bJ.mp hx with hx|hx
   .obtain⟨y,hy,rfl⟩:=aY.mp hx;have:=ht y hy;rw[iV];lia
   .have:=qo x hx;lia
  .exact Mm z x hx
 .rw[cJ.mp hx];have h1:=Xu ht;have h2:=Xu qo;rw[hg.lt] at h1;rw[hg.lg] at h2;have h5:20*2^50+20*2^50<=(2:Nat)^60:=dz;lia
theorem Mu:gu (vo z g)=gu g.1+gu g.2+gu (K5 z)+1:=by unfold vo A7;simp[sB]
theorem b8Y(hh:HG far kt kg h)(wz:∀h∈hs,HG far kt kg h)(hf:far<=2^50)(Kr:kt<=20)(Ks:kg<=20)q :
  ∀v,Lp.Fits (2^60) (mF hs+1) (Lp.Vv (mF hs) q (Y8 (P4 z hs h)) (M2 (zo hs)) (M2 (P1 z h)) v):=by
 have z0:∀k:Nat,∀x∈List.replicate k (0:Int),x.natAbs<=2^60:=λk x hx=>by rw[(lL.mp hx).2];decide
 have goal:∀x∈P1 z h,x.natAbs<=2^60:=λx hx=>by
  unfold P1 at hx;rcases bJ.mp hx with hx|hx
  .exact z0 _ x hx
  .rw[cJ.mp hx];decide
 have rows:∀r∈P4 z hs h,∀x∈r,x.natAbs<=2^60:=λr hr x hx=>by
  unfold P4 at hr;rcases bJ.mp hr with hr|hr
  .obtain⟨g,hg,rfl⟩:=aY.mp hr;exact a6Z (wz g hg) hf Kr Ks x hx
  .simp only[bH,dJ,or_false] at hr;rcases hr with rfl|rfl
   .obtain⟨y,hy,rfl⟩:=aY.mp hx;have:=a6Z hh hf Kr Ks y hy;rw[iV];exact this
   .exact goal x hx
 have E_:∀x∈zo hs,x.natAbs<=2^60:=λx hx=>by
  unfold zo at hx;rcases bJ.mp hx with hx|hx
  .exact z0 _ x hx
  .simp only[bH,dJ,or_false] at hx;rcases hx with rfl|rfl<;>decide
 intro v i _;unfold Lp.Vv;split
 .split
  .unfold Y8;refine Q7 (λx hx=>?_) v;rw[bA] at hx;cases e:(P4 z hs h)[i]? with
   |none=>rw[e] at hx;cases hx
   |some r=>rw[e] at hx;exact rows r (bK e) x hx
  .split
   .rw[iV];exact Q7 goal v
   .exact dM _
 .split
  .split<;>decide
  .split
   .exact Q7 E_ i
   .exact dM _
theorem a8q j:Y8 (P4 z hs h) (gu hs+1) j=M2 (P1 z h) j:=by
 have:(P4 z hs h)[gu hs+1]?=fo (P1 z h):=by
  unfold P4;rw[dU fg,aH,gO];rfl
 rw[T3 this];rfl
theorem b3p{rs:List aA}{hs:List i8}(hl:gu rs=gu hs)(h:∀(i:Nat)a g,rs[i]?=fo a->hs[i]?=fo g->H' a=fo (.lst ((vo z g).map sh))):si K H' (rs.map sy) (hs.map (vo z)):=by
 induction hs generalizing rs with
 |nil =>
  cases rs with
  |nil=>exact .nil
  |cons a r=>simp at hl
 |cons g hs ih =>
  cases rs with
  |nil=>simp at hl
  |cons a r=>exact .cons ⟨a,cm,ah.of (h 0 a g rfl rfl)⟩ (ih (by simp_all) λi b g' h1 h2=>h (i+1) b g' (by simpa using h1) (by simpa using h2))
theorem b2V(F:Ay K "greatest_floor" LQ f fd)(N:v8 mg)(Cg:C9 P w K mg base n "greatest" ["goal","rows","bounds"] (O5 K C Pt) f1 d1)(Ch:C9 P w K mg base n "house_rows" ["houses","sizes"] (M4 K) f2 d2) :
  bf P w K mg base J8 (n+1) f fd ["houses","number","sizes"] (XT K Pt):=by
 refine F.oa Dh λay A outer s H vs Q E hr h=>?_;obtain⟨ba,xs,hs,i,h,z,far,kt,kg,rfl,hz,B,hf,hh,L,k⟩:=h;refine⟨_,(flT N Cg Ch hr).2,?_⟩;have xl:=dE B.b;have few:=B.few;have Xv:=B.t;have Xw:=B.k;have sg:=Ml z;have gh:=B.g h (bK hh);have nj:i<gu hs:=(cA.mp hh).1;have Xf:=t9 (show(1000:Nat)<=1000 from aT _);have AD:∀g∈hs,gu (vo z g)=kt+kg+gu (K5 z)+1:=λg hg=>by rw[Mu,(B.g g hg).lt,(B.g g hg).lg]
 refine⟨_,cm,_,cm,ba,xs,hs,z,kt,kg,cm,hz,B.l,B.b,eX,eX,eX,λg hg=>⟨(B.g g hg).lt,(B.g g hg).lg⟩,λr H1 rs e1 GN lr Hx=>⟨λau H2=>∃fl:aA,au=[fo (.ref ba),fo (.int i),fo (.str z),fo (.ref r),fo (.ref fl),fO,fO]/\af H1 H2/\H2 fl=fo (.lst ((hs.map λg=>g.2.sum-g.1.sum).map sh)),?_,?_⟩⟩
 .refine⟨_,cm,ba,cm,⟨_,e1.seq B.l⟩,λl hl=>(N5 (A3 (e1.seq B.l)) hl eX (λj y _=>∃g,hs[j]?=fo g/\y=.int (g.2.sum-g.1.sum)) (λ_ _ _ _ r _=>r) (λj x H2 ys N' hx e j_ hN=>?_) (λys H2 e j_ len pr=>?_))⟩
  .obtain⟨g,hg,⟨a,ta,ga,rfl,p1,p2,p3⟩⟩:=aZ.at B.b hx;have e':=e1.trans e;refine⟨a,_,cm,e'.cm p1,cm,_,_,cm,_,_,cm,cm,?_,?_⟩
   .refine⟨fg,λk w ek=>?_⟩;have:¬k<2:=λhk=>by
     unfold c_ at ek;rw[dH (by simpa using hk),gD] at ek;split at ek<;>cases ek
    rw[dP eX,dP eX];exact ek
   exact⟨_,cm,ga,_,cm,.inr (e'.cm p3),_,cm,ta,_,cm,.inr (e'.cm p2),_,_,cm,cm,hN _ _ (af.refl _) ⟨g,hg,cm⟩⟩
  .refine⟨l,cm,e,?_⟩;rw[j_];congr 2;refine dR λj=>?_;by_cases hj:j<gu ys
   .obtain⟨g,g1,g2⟩:=pr j _ (aS hj);rw[aS hj,g2,aP,aP,g1];rfl
   .rw[bW eX,bW (by rw[aH,aH];lia)]
 rintro Eg H2 ⟨fl,rfl,e2,LN⟩;refine⟨λau H3=>s_ λ(ra:aA)(mq:List aA)=>au=[fo (.ref ba),fo (.int i),fo (.str z),fo (.ref ra),fo (.ref fl),fO,fO]/\af H2 H3/\H3 ra=fo (.lst (mq.map sy))/\gu mq=gu hs/\∀(j:Nat)a g,mq[j]?=fo a->hs[j]?=fo g->H3 a=fo (.lst ((vo z g).map sh)),?_,?_⟩
 .refine⟨_,cm,_,cm,r,fl,cm,⟨_,ah.of (e2 _ _ GN)⟩,⟨_,ah.of LN⟩,λl hl=>?_⟩;refine QJ (b1:=true) (b2:=true) (ah.of (e2 _ _ GN)) (ah.of LN) hl (by rw[aH,lr];lia) (λj y H3=>s_ λa g=>y=.ref a/\a≠l/\hs[j]?=fo g/\H3 a=fo (.lst ((vo z g).map sh)))
   (λj y H3 H4 ⟨a,g,h1,h2,h3,h4⟩ e=>⟨a,g,h1,h2,h3,e a _ h2 h4⟩) (λj x y H3 zs N' hx hy e j_ hN=>?_) (λzs H3 e j_ len pr=>?_)
  .obtain⟨ra,Et,rfl⟩:∃ra,rs[j]?=fo ra/\x=.ref ra:=by
    rw[aP] at hx;cases q1:rs[j]? with
    |none=>rw[q1] at hx;cases hx
    |some v=>rw[q1] at hx;cases hx;exact⟨v,cm,cm⟩
   have EN:j<gu hs:=by rw[<-lr];exact(cA.mp Et).1
   have hg:hs[j]?=fo hs[j]:=aS EN;have uw:=Hx j ra _ Et hg;have hyv:y=.int (hs[j].2.sum-hs[j].1.sum):=by
    rw[aP,aP,hg] at hy;exact(bD hy).symm
   subst hyv;generalize hs[j]=g at *;have gg:=B.g g (bK hg);refine⟨_,cm,_,cm,aw,λa1 h1=>⟨ra,a1,_,_,cm,cm,(by rw[j3 (i7 (e _ _ (e2 _ _ uw)) h1)];exact e _ _ (e2 _ _ uw)),ae,?_,λa2 h2=>?_⟩⟩
   .rw[aH];unfold A7;simp[gg.lt,gg.lg];lia
   have s2:=(af.new h1 (.lst [sh (g.2.sum-g.1.sum)])).trans (af.new h2 (.lst ((A7 z g).map sh++[sh (g.2.sum-g.1.sum)])));refine hN _ _ s2 ⟨a2,g,cm,λzz=>?_,hg,?_⟩
   .rw[zz,(af.new h1 (.lst [sh (g.2.sum-g.1.sum)])) _ _ j_] at h2;cases h2
   .rw[ae];unfold vo;rw[bQ];rfl
  .have Wy:zs=(zs.map IY).map sy:=by
    rw[bC];refine dR λj=>?_;rw[aP];cases qj:zs[j]? with
    |none=>rfl
    |some y =>
     obtain⟨a,_,rfl,_⟩:=pr j y qj;rfl
   refine⟨l,zs.map IY,cm,e,by rw[j_];rw[<-Wy],by rw[aH,len,aH,aH,aH,lr,Nat.min_self],λj a g hj hg=>?_⟩;rw[aP] at hj;cases qj:zs[j]? with
   |none=>rw[qj] at hj;cases hj
   |some y =>
    obtain⟨a',g',rfl,_,h3,h4⟩:=pr j y qj;rw[qj] at hj;have:a'=a:=bD hj;subst this;rw[hg] at h3;cases h3;exact h4
 rintro ir H3 ⟨ra,mq,rfl,e3,Et,OP,OQ⟩;have Ek:i<gu mq:=eX;have IZ:mq[i]?=fo mq[i]:=aS Ek;generalize mq[i]=ri at IZ;have uw:=OQ i ri h IZ hh;refine⟨λau H4=>∃fa:aA,au=[fo (.ref ba),fo (.int i),fo (.str z),fo (.ref ra),fo (.ref fl),fo (.ref fa),fO]/\af H3 H4/\H4 fa=fo (.lst (((vo z h).map λx=>-x).map sh)),?_,?_⟩
 .refine⟨_,cm,_,cm,ra,_,_,.ref ri,cm,cm,ah.of Et,A2 (by rw[aP,IZ];rfl),ri,cm,⟨_,ah.of uw⟩,λl hl=>(O9 (A3 (ah.of uw)) hl (by rw[aH,AD h (bK hh)];lia) (λx=>.int (-(vI x))) (λj x H' N2 El e2 OD=>?_) ?_)⟩
  .obtain⟨x',rfl,_⟩:=LY El;exact⟨Wk.set dz,_,cm,_,cm,OD⟩
  have eg:((vo z h).map sh).map (λx=>sh (-(vI x)))=((vo z h).map λx=>-x).map sh:=by rw[bC,bC];rfl
  rw[eg];exact⟨l,cm,af.new hl _,ae⟩
 rintro zx H4 ⟨fa,rfl,e4,RG⟩;have RH:gu (((vo z h).map λx=>-x).map sh)=kt+kg+gu (K5 z)+1:=by rw[aH,aH,AD h (bK hh)]
 refine⟨λau H5=>∃ga:aA,au=[fo (.ref ba),fo (.int i),fo (.str z),fo (.ref ra),fo (.ref fl),fo (.ref fa),fo (.ref ga)]/\af H4 H5/\H5 ga=fo (.lst ((P1 z h).map sh)),?_,?_⟩
 .refine⟨aw,λa1 h1=>?_⟩;have s1:=af.new h1 (.lst [.int 0]);have ek:((kt+kg+gu (K5 z)+1:Nat):Int)-1=((gu h.1+gu h.2+gu (K5 z):Nat):Int):=by rw[gh.lt,gh.lg];lia
  refine⟨_,cm,fa,_,cm,.inl (ah.of (s1 _ _ RG)),_,_,cm,cm,a1,_,_,cm,cm,ae,by rw[RH,ek];lia,by rw[RH,ek,gh.lt,gh.lg];lia,by rw[RH,ek,cF,gh.lt,gh.lg];simp;lia,λa2 h2=>?_⟩;rw[RH,ek,cF,N9];refine⟨aw,λa3 h3=>?_⟩;have s3:=(s1.trans (af.new h2 (.lst ((aQ (gu h.1+gu h.2+gu (K5 z)) (0:Int)).map sh)))).trans (af.new h3 (.lst [.int 1]));refine⟨a2,a3,_,_,cm,cm,(by rw[j3 (i7 ae h3)];exact ae),ae,?_,λa4 h4=>?_⟩
  .rw[aH,bP,gh.lt,gh.lg];simp;lia
  refine⟨a4,cm,s3.trans (af.new h4 _),?_⟩;rw[ae];unfold P1;rw[bQ];rfl
 rintro Xx H5 ⟨ga,rfl,e5,Av⟩;have RI:=e4.trans e5;refine⟨_,cm,_,cm,_,cm,_,cm,aw,λa1 h1=>⟨ra,a1,_,_,cm,cm,(by rw[j3 (i7 (RI _ _ Et) h1)];exact RI _ _ Et),ae,?_,λa2 h2=>?_⟩⟩
 .rw[aH,OP];simp;lia
 refine⟨aw,λa3 h3=>?_⟩;have s3:=((af.new h1 (.lst [sy fa,sy ga])).trans (af.new h2 (.lst (mq.map sy++[sy fa,sy ga])))).trans (af.new h3 (.lst [.int 0]));have e05:=e1.trans (e2.trans (e3.trans RI));refine⟨_,cm,ba,_,cm,.inl ((e05.trans s3).seq B.l),a3,_,_,cm,cm,ae,eX,by rw[xl];lia,by rw[xl,cF];simp;lia,λa4 h4=>?_⟩;rw[xl,cF,N9];refine⟨aw,λa5 h5=>⟨a4,a5,_,_,cm,cm,(by rw[j3 (i7 ae h5)];exact ae),ae,?_,λa6 h6=>?_⟩⟩
 .rw[aH,bP];simp;lia
 have s6:=((s3.trans (af.new h4 (.lst ((aQ (gu hs) (0:Int)).map sh)))).trans (af.new h5 (.lst [.int 0,.int 1]))).trans (af.new h6 (.lst ((aQ (gu hs) (0:Int)).map sh++[.int 0,.int 1])));have eb:(aQ (gu hs) (0:Int)).map sh++[.int 0,.int 1]=(zo hs).map sh:=by unfold zo;rw[bQ];rfl
 have hA:=e05.trans s6;refine⟨ga,a2,a6,P1 z h,mq.map sy++[sy fa,sy ga],P4 z hs h,zo hs,mF hs,qF z h,2^60,cm,ah.of (s6 _ _ Av),ah.of ((((af.new h3 (.lst [.int 0])).trans (af.new h4 (.lst ((aQ (gu hs) (0:Int)).map sh)))).trans (af.new h5 (.lst [.int 0,.int 1]))).trans (af.new h6 (.lst ((aQ (gu hs) (0:Int)).map sh++[.int 0,.int 1]))) _ _ ae),?_,?_,?_,?_,?_,?_,by show gu hs+2<900;lia,by show gu h.1+gu h.2+gu (K5 z)+1<900;rw[gh.lt,gh.lg];lia,?_,b8Y gh B.g hf Xv Xw _,Xe _ (by show gu hs+2<20;lia),L.same hA,
  λS H' t' aa wa O hn sz e' L' q1 q2 q3=>k S H' t' aa wa ⟨O,hn,sz⟩ (λb o hb q'=>e' b o hb (hA b o q')) L' q1 q2 q3,λS H' O st e' L'=>(O.Fg (l:=gu hs+1) (by show gu hs+1<gu hs+2;lia) (λj _=>a8q j) st).elim⟩
 .unfold P4;refine aZ.app ((b3p (K:=K) OP OQ).same (RI.trans s6)) (.cons ⟨fa,cm,ah.of (s6 _ _ (e5 _ _ RG))⟩ (.cons ⟨ga,cm,ah.of (s6 _ _ Av)⟩ .nil))
 .rw[<-eb];exact ah.of ae
 .unfold P4;simp
 .unfold zo;simp
 .unfold P1;simp
 .intro r' jx;unfold P4 at jx;rcases bJ.mp jx with jx|jx
  .obtain⟨g,hg,rfl⟩:=aY.mp jx;rw[AD g hg];show _=gu h.1+gu h.2+gu (K5 z)+1;rw[gh.lt,gh.lg]
  .simp only[bH,dJ,or_false] at jx;rcases jx with rfl|rfl
   .rw[aH,Mu]
   .unfold P1;simp
 .intro j hj;unfold M2 zo;rw[bA];by_cases h':j<gu hs
  .rw[dH (by simpa using h'),gD,qg h'];exact dL _
  .rw[dU (by simp;lia),bP];have om:j<gu hs+2:=hj;have:j-gu hs=0\/j-gu hs=1:=eX;rcases this with q'|q'<;>rw[q']<;>decide
def Mv(z:aC)(hs:List i8)(h:i8):Prop:=∀S,RF z hs h S->0<S.T (mF hs) (qF z h)
theorem Xz:∀{l x y},gu x=gu y->x8 l (cV (·+·) x y)=x8 l x+x8 l y
 |[],x,y,_=>by simp[x8]
 |a::l,[],[],_=>by simp[x8]
 |a::l,b::x,c::y,h=>by
  have:=Xz (l:=l) (by simpa using h);unfold x8 at *;simp only[eW,dW];rw[this,kZ];lia
 |a::l,[],c::y,h=>by simp at h
 |a::l,b::x,[],h=>by simp at h
theorem Ji:∀{l}{k}{f},gu l=k->x8 l (aQ k f)=l.sum*f
 |[],k,f,_=>by simp[x8]
 |a::l,0,f,h=>by simp at h
 |a::l,k+1,f,h=>by
  have:=Ji (f:=f) (by simpa using h);unfold x8 at *;rw[eZ,eW,dW,this,dW,fG]
abbrev AF(xs:List Int)(f:Int):List Int:=xs.map (·+f)
theorem b1E(h:gu l=gu xs):x8 l (AF xs f)=x8 l xs+l.sum*f:=by
 have e:AF xs f=cV (·+·) xs (aQ (gu xs) f):=by
  unfold AF;refine dR λi=>?_;by_cases hi:i<gu xs
  .rw[aP,mX,gD,qg hi,aS hi];rfl
  .rw[bW (by simp;lia),bW (by simp;lia)]
 rw[e,Xz fg,Ji h]
theorem RJ(h1:gu g.1=gu h.1)(h2:gu g.2=gu h.2)(hl:gu xs=gu h.1+gu h.2+gu (K5 z)) :
  x8 (vo z g) (xs++[fl])=P7 g (AF (o_ h xs) fl) (pe z h xs)-zF g (AF (oz h xs) fl):=by
 unfold vo;rw[Mp (by unfold A7;simp[h2];lia),Rx h1 h2];unfold P7 zF;have e1:x8 g.2 (AF (o_ h xs) fl)=x8 g.2 (o_ h xs)+g.2.sum*fl:=b1E (by grind);have e2:x8 g.1 (AF (oz h xs) fl)=x8 g.1 (oz h xs)+g.1.sum*fl:=b1E (by grind);dsimp only[x8] at *;rw[e1,e2,pA];lia
theorem XA xs fl(hl:gu xs=gu h.1+gu h.2+gu (K5 z)):x8 (P1 z h) (xs++[fl])=fl:=by
 unfold P1;rw[Mp (by simp[hl]),T6,lH,lE]
theorem b6v(i:Nat)(hg:hs[i]?=fo g):(P4 z hs h)[i]?=fo (vo z g):=by
 unfold P4;rw[dH (by rw[aH];exact((cA.mp hg).1)),aP,hg];rfl
theorem b5Y:(P4 z hs h)[gu hs]?=fo ((vo z h).map λx=>-x):=by
 unfold P4;rw[dU fg,aH,gL];rfl
theorem RK(hi:i<=gu hs):(zo hs).getD i 0=0:=by
 unfold zo;rw[F0,bP];by_cases h1:i<gu hs
 .rw[qg h1,M3]
 .rw[qf h1,(dj:i-gu hs=0)];rfl
theorem a7m{i:Nat}(B:RF z hs h S)(hk:∀g∈hs,gu g.1=kt/\gu g.2=kg)(hh:hs[i]?=fo h)(lt:gu pt=gu h.1)(lg:gu pg=gu h.2)(tp:∀x∈pt,0<x)(gp:∀x∈pg,0<x)(ja:∀g∈hs,P7 g pg 0<=zF g pt)(Xy:P7 h pg 0=zF h pt):0<S.T (mF hs) (qF z h):=by
 obtain⟨O,hn,sz⟩:=B;have kh:=hk h (bK hh);obtain⟨sx,sl,snn,sv⟩:∃sx,gu sx=gu (K5 z)/\(∀x∈sx,0<=x)/\x8 sx (K5 z)=0 :=
  ⟨List.replicate (gu (K5 z)) 0,fg,λx hx=>by rw[(lL.mp hx).2];exact dL _,T6 ..⟩
 have OT:gu (pt.map (·-1)++pg.map (·-1)++sx)=gu h.1+gu h.2+gu (K5 z):=by simp[lg];lia
 have e1:AF (oz h (pt.map (·-1)++pg.map (·-1)++sx)) 1=pt:=by
  unfold oz AF;rw[dC,pK (by simp[lt]),bC];refine(fM λx _=>?_).trans (xS _);show x-1+1=x;lia
 have e2:AF (o_ h (pt.map (·-1)++pg.map (·-1)++sx)) 1=pg:=by
  unfold o_ AF;rw[dC,xT (by simp[lt]),pK (by simp[lg]),bC];refine(fM λx _=>?_).trans (xS _);show x-1+1=x;lia
 have e3:pe z h (pt.map (·-1)++pg.map (·-1)++sx)=0:=by
  unfold pe;rw[xT (by simp[lt,lg])];exact sv
 generalize Hl:pt.map (·-1)++pg.map (·-1)++sx=xs at *;have OS:∀x∈xs++[1],0<=x:=λx hx=>by
  rcases bJ.mp hx with hx|hx
  .rw[<-Hl] at hx;rcases bJ.mp hx with hx|hx
   .rcases bJ.mp hx with hx|hx
    .obtain⟨y,hy,rfl⟩:=aY.mp hx;have:=tp y hy;lia
    .obtain⟨y,hy,rfl⟩:=aY.mp hx;have:=gp y hy;lia
   .exact snn x hx
  .rw[cJ.mp hx];decide
 have lq:gu (xs++[1])=qF z h:=by rw[aX,OT];rfl
 have toD:∀{row:List Int}{i:Nat},(P4 z hs h)[i]?=fo row->gu row=qF z h->Lp.sumTo (λj=>Y8 (P4 z hs h) i j*(xs++[1]).getD j 0) (qF z h)=x8 row (xs++[1]):=λ{row i}hr hl=>by
  rw[<-M9 (qF z h) row (xs++[1]) hl lq];exact Lp.aj λj _=>by rw[T3 hr]
 have key:=O.weak hn (y:=λj=>(xs++[1]).getD j 0) (e:=1) (λj hj=>?_) λk i_=>?_
 .have eg:Lp.sumTo (λj=>M2 (P1 z h) j*(xs++[1]).getD j 0) (qF z h)=1:=by
   have:=M9 (qF z h) (P1 z h) (xs++[1]) (by unfold P1;simp) lq;rw[XA _ _ OT] at this;exact this
  rw[eg] at key;have:=O.w.pos;lia
 .rw[bA,aS (lq▸hj)];exact OS _ (eF _)
 .have Rz:k<gu hs+2:=i_;show _<=M2 (zo hs) k*1;rw[jF];by_cases c1:k<gu hs
  .have HI:=hk hs[k] (eF c1);rw[toD (b6v k (aS c1)) (by rw[Mu,HI.1,HI.2,kh.1.symm,kh.2.symm]),RJ (by rw[HI.1,kh.1]) (by rw[HI.2,kh.2]) OT,e1,e2,e3];show _<=(zo hs).getD k 0;rw[RK dj];have:=ja hs[k] (eF c1);lia
  .by_cases c2:k=gu hs
   .subst c2;rw[toD b5Y (by rw[aH,Mu]),Mn,RJ (h:=h) rfl rfl OT,e1,e2,e3];show _<=(zo hs).getD (gu hs) 0;rw[RK (aT _)];have:=Xy;lia
   .have c3:k=gu hs+1:=eX;subst c3;have hr:(P4 z hs h)[gu hs+1]?=fo (P1 z h):=by
     unfold P4;rw[dU fg,aH,gO];rfl
    rw[toD hr (by unfold P1;simp),XA _ _ OT];show(1:Int)<=(zo hs).getD (gu hs+1) 0;unfold zo;rw[F0,bP,qf eX,gO];decide
theorem b4h(B:RF z hs h S):0<S.T (mF hs) (qF z h) ↔ Mv z hs h :=
 ⟨λhp S' B'=>by rw[<-B.1.one B'.1 B.2.1 B'.2.1];exact hp,λR=>R S B⟩
end sC
namespace L2
open PySem
theorem b3K(T:cu P pos qual H1)(hp:H1 p=fO)(hz:n<jb)F
  (step:∀i H ys N,i<n->bj P H1 H->cu P pos qual H->H p=fo (.lst ys)->(∀H3,bj P H H3->cu P pos qual H3->N (F i) H3)->tc ((c_ 1 fr σ).set 0 (fo (.int (i:Int)))) H N)
  (hd:∀H,bj P H1 H->cu P pos qual H->H p=fo (.lst (((aW n).filter F).map λ(i:Nat)=>sh (i:Int)))->D H):LF 1 fr (N7 0) tc (JB 0) σ (Hd 0 n) H1 p D:=by
 refine⟨λi m ys H=>m=n-i/\i<=n/\ys=((aW i).filter F).map (λ(i:Nat)=>sh (i:Int))/\bj P H1 H/\cu P pos qual H/\H p=fo (.lst ys),⟨n,fg,dM _,cm,(af.new hp _).ka,T.same (af.new hp _),ae⟩,?_⟩;rintro i m ys H ⟨rfl,hi,rfl,e,L,hH⟩;by_cases fk:i<n
 .refine .inr ⟨fk,λx H' y=>?_⟩;obtain⟨rfl,rfl⟩:=y;rw[lH];have tk:(aW (i+1)).filter F=(aW i).filter F++[i].filter F:=by rw[pE,wS]
  refine⟨Wk.set dz,step i _ _ _ fk e L hH λH3 e3 L3=>?_⟩;have h3:=e3.get L hH nofun;cases hq:F i with
  |false =>
   rw[qf cX];refine⟨n-(i+1),dj,cm,fk,?_,e.trans e3,L3,h3⟩;rw[tk];simp[hq]
  |true =>
   rw[qg rfl];refine⟨.int (i:Int),?_,h3,?_,n-(i+1),dj,cm,fk,?_,(e.trans e3).write hp,L3.write h3,ae⟩
   .show((c_ 1 fr σ).set 0 (fo (.int (i:Int))))[0]?=fo (fo (.int (i:Int)));rw[eK (by simp[c_])]
   .have h1:=oX F (aW i);rw[gZ] at h1;rw[aH];lia
   .rw[tk];simp[hq]
 .have:i=n:=dj;subst this;exact .inl ⟨Nat.le_refl _,hd H e L hH⟩
end L2
namespace sC
open PySem L2 Fr
open Classical in
def Jg(z:aC)(hs:List i8):List Nat:=(aW (gu hs)).filter λi=>decide (Mv z hs (hs.getD i ([],[])))
theorem b4X(h:i∈Jg z hs):i<gu hs:=by
 unfold Jg at h;exact fF.mp (lI.mp h).1
theorem d0p(hh:hs[i]?=fo h):i∈Jg z hs ↔ Mv z hs h:=by
 have hd:hs.getD i ([],[])=h:=by rw[bA,hh];rfl
 unfold Jg;rw[lI,fF,hd];simp[(cA.mp hh).1]
theorem XU:∀{l:List Int},(∀x∈l,0<=x)->(∃x∈l,0<x)->0<l.sum
 |[],_,⟨_,h,_⟩=>by cases h
 |a::r,h,⟨x,hx,hp⟩=>by
  have ha:=h a (.head _);have nn:0<=r.sum:=by
   have:∀{l:List Int},(∀x∈l,0<=x)->0<=l.sum:=λ{l}=>by
    induction l with
    |nil=>intro _;exact dL _
    |cons b s ih =>
     intro g;have h1:=g b (.head _);have h2:=ih λy hy=>g y (.tail _ hy);rw[dW];lia
   exact this λy hy=>h y (.tail _ hy)
  rw[dW];rcases bH.mp hx with rfl|hx
  .lia
  .have:=XU (λy hy=>h y (.tail _ hy)) ⟨x,hx,hp⟩;lia
theorem c7N{α:Type}{T G:α->Int}:∀{l},l≠[]->(∀x∈l,0<G x)->∃h∈l,∀g∈l,T h*G g<=T g*G h
 |[],h,_=>absurd rfl h
 |[a],_,_=>⟨a,.head _,λg hg=>by rw[cJ.mp hg];exact dL _⟩
 |a::b::r,_,hp=>by
  obtain⟨h,hm,hl⟩:=c7N fg λx hx=>hp x (.tail _ hx);by_cases c:T h*G a<=T a*G h
  .refine⟨h,.tail _ hm,λg hg=>?_⟩;rcases bH.mp hg with rfl|hg
   .exact c
   .exact hl g hg
  .refine⟨a,.head _,λg hg=>?_⟩;rcases bH.mp hg with rfl|hg
   .exact dL _
   .refine mW ?_ (hp h (.tail _ hm));have e1:T a*G h*G g<=T h*G a*G g:=fH eX (cC (hp g (.tail _ hg)));have e2:T h*G g*G a<=T g*G h*G a:=fH (hl g hg) (cC (hp a (.head _)));have x1:T a*G g*G h=T a*G h*G g:=by ac_rfl
    lia
theorem c8H(hG:∀g∈hs,HG far kt kg g)(ij:1<=kt)(mm:hs≠[]):∃i,i∈Jg z hs:=by
 have pT_:=λg hg=>by
  have h:=hG g hg;refine XU (λx hx=>by have:=(h.t x hx).1;lia) ?_;have hl:0<gu g.1:=by rw[h.lt];lia
  exact⟨g.1[0],eF hl,by have:=(h.t _ (eF hl)).1;lia⟩
 have pG_:=λg hg=>XU (λx hx=>((hG g hg).g x hx).1) (hG g hg).p;obtain⟨h,hm,hl⟩:=c7N mm pG_;obtain⟨i,hi⟩:=iL hm;have v1:∀g∈hs,zF g (aQ kt h.2.sum)=g.1.sum*h.2.sum:=λg hg=>Ji (hG g hg).lt;have v2:∀g∈hs,P7 g (aQ kg h.1.sum) 0=g.2.sum*h.1.sum:=λg hg=>by
  have:x8 g.2 (aQ kg h.1.sum)=g.2.sum*h.1.sum:=Ji (hG g hg).lg;unfold P7;dsimp only[x8] at this;rw[this,gK]
 refine⟨i,(d0p hi).mpr λS B=>a7m B (λg hg=>⟨(hG g hg).lt,(hG g hg).lg⟩) hi (pt:=aQ kt h.2.sum) (pg:=aQ kg h.1.sum) (by rw[bP,(hG h hm).lt]) (by rw[bP,(hG h hm).lg]) (λx hx=>by rw[(lL.mp hx).2];exact pG_ h hm) (λx hx=>by rw[(lL.mp hx).2];exact pT_ h hm) (λg hg=>?_) ?_⟩
 .rw[v1 g hg,v2 g hg];have:=hl g hg;rw[bX g.2.sum];exact this
 .rw[v1 h hm,v2 h hm,bX]
inductive RL(K:aF)(Pt:aA)(vs:List V)(H:Hp)(Q:VK)(sH:XK):Prop|mk:∀(ba:aA)(xs:List V)(hs:List i8)(z:aC)(far:Int)(kt kg:Nat),vs=[.ref ba,.str z]->O4 z->O6 K H ba xs hs far kt kg->far<=2^50->LT Pt H->(∀H' r,bj Pt H H'->LT Pt H'->H r=fO->H' r=fo (.lst ((Jg z hs).map λ(i:Nat)=>sh (i:Int)))->Q (.ref r) H')->RL K Pt vs H Q sH
def c0R:p7 ["book","sizes"] ["book","sizes"] (i9 VL):=⟨cm,cm,cm,de,cm,de,de⟩
def c1h:(["number","book","sizes"]:List aC).Nodup:=dz
theorem b3q(F:Ay K "rim_of" VL f fd)(N:v8 mg)(Cf:C9 P w K mg base n "greatest_floor" ["houses","number","sizes"] (XT K Pt) f1 d1):bf P w K mg base J8 (n+1) f fd ["book","sizes"] (RL K Pt):=by
 refine F.oa c0R λay A outer s H vs Q E hr h=>?_;obtain⟨ba,xs,hs,z,far,kt,kg,rfl,hz,B,hf,L,k⟩:=h;refine⟨_,j4 (o4 (Sf ["number"] [0,1] rfl (R8 rfl N.range (c6 (j7 j6 rfl N.len bB (c6 (pv 0) c7)) c7)) (λ_ _ _ _=>j9 (i:=0) c1h rfl (aI rfl))
  (λ_ _ _ _=>l5 Ej (l8 (b7V K rfl) (Cf.c hr (c6 (pv 1) (c6 (pv 0) (c6 (pv 2) c7)))) d0 λ_ _=>rfl) d0 (r9 _)) λ_ _ _ _=>pv 0)),?_⟩
 have xl:=dE B.b;have few:=B.few;have Xf:=t9 (show(1000:Nat)<=1000 from aT _);refine⟨_,cm,ba,_,cm,.inl B.l,_,cm,dj,dj,?_⟩;rw[xl,cF];intro p hp;refine b3K L hp dj _ (λi H2 ys N' hi e LX oy hN=>?_) λH2 e LX oy=>k H2 p e LX hp oy;have hh:=aS hi;refine⟨_,cm,_,cm,_,cm,ba,xs,hs,i,hs[i],z,far,kt,kg,cm,hz,⟨ah.fg L e B.l,Bk.fg L e B.b,B.g,B.far,B.few,B.t,B.k⟩,hf,hh,LX,λS H3 t aa wa BF e3 L3 ht _ _=>⟨t,_,0,_,cm,cm,cq.of ht,A2 rfl,_,_,cm,cm,_,cm,?_⟩⟩;have hd:hs.getD i ([],[])=hs[i]:=by rw[bA,hh];rfl
 have eb:decide (S.T (mF hs) (qF z hs[i])>0)=(λi=>@decide (Mv z hs (hs.getD i ([],[]))) (xU _)) i:=by
  have:=b4h BF;show _=@decide (Mv z hs (hs.getD i ([],[]))) (xU _);rw[hd];by_cases c:0<S.T (mF hs) (qF z hs[i])
  .have c2:=this.mp c;rw[qk (show S.T (mF hs) (qF z hs[i])>0 from c)];simp[c2]
  .have c2:¬Mv z hs hs[i]:=λq=>c (this.mpr q);rw[qU (show ¬S.T (mF hs) (qF z hs[i])>0 from c)];simp[c2]
 rw[eb];exact hN H3 e3 L3
def XE:fu X l λ_ _ _=>False:=λ_ _ _ _ _ _ h=>h.elim
structure uz(z:aC)(hs:List i8)(h:i8)(kt kg:Nat)(A B:Int):Prop where
 s:∃S,sj z hs h S/\A=S.T (mE hs) (qE z h)/\B=S.d
 a:fh 20000 A
 b:0<B
 c:B<2^8000
 n:A.natAbs<2^1200/\B.natAbs<2^1200
def ik(z:aC)(hs:List i8)(h:i8)(kt kg:Nat):Prop:=∃S,OE z hs h S/\Lp.cM (mE hs) (qE z h) S
def b6u:∀k,k<18->Lp.ow (2^60) (k+1)<2^1200:=dz
theorem sj.u(B:sj z hs h S)(hG:∀g∈hs,HG far kt kg g)(gh:HG far kt kg h)(hf:far<=2^60)(few:gu hs<=16):uz z hs h kt kg (S.T (mE hs) (qE z h)) S.d:=by
 have hM:=b5U (z:=z) gh hG hf (qE z h);have hb:=b6u (gu hs+1) dj;obtain⟨b1,b2⟩:=a9r B;exact⟨⟨S,B,cm,cm⟩,(B.2.2.1 _ _ dj dj).mono dz,b1,b2,gU (B.1.w.Hu hM (aT _) (aT _)) hb,gU (B.1.w.Ht hM) hb⟩
theorem uz.fr(x:uz z hs h kt kg A B)(y:uz z hs h kt kg A' B'):Fr.low A B=Fr.low A' B':=by
 obtain⟨S,a,rfl,rfl⟩:=x.s;obtain⟨S',b,rfl,rfl⟩:=y.s;rw[a.1.one b.1 a.2.1 b.2.1]
theorem ik.not(N:ik z hs h kt kg)(x:uz z hs h kt kg A B):False:=by
 obtain⟨S,O,st⟩:=N;obtain⟨S',b,_⟩:=x.s;exact O.two b.1 st b.2.1
def S8{α:Type}(l:List α)(i:Nat):List α:=l.take i++l.drop (i+1)
theorem XF(h:g∈S8 l i):g∈l:=by
 rcases bJ.mp h with h|h
 .exact fV h
 .exact fK h
theorem b3A:gu (S8 l i)<=gu l:=by unfold S8;simp;lia
theorem aZ.take:∀{tj}{gi:List β}i,bR F tj gi->bR F (tj.take i) (gi.take i)
 |_,_,0,_=>.nil
 |_,_,_+1,.nil=>.nil
 |_,_,i+1,.cons r t=>.cons r (aZ.take i t)
theorem aZ.drop:∀{tj}{gi:List β}i,bR F tj gi->bR F (tj.drop i) (gi.drop i)
 |_,_,0,h=>h
 |_,_,_+1,.nil=>.nil
 |_,_,i+1,.cons _ t=>aZ.drop i t
theorem aZ.app:∀{tj m₁}{gi m₂:List β},bR F tj gi->bR F m₁ m₂->bR F (tj++m₁) (gi++m₂)
 |_,_,_,_,.nil,h=>h
 |_,_,_,_,.cons r t,h=>.cons r (aZ.app t h)
def Bk.out i(B:Bk K H xs hs):Bk K H (S8 xs i) (S8 hs i):=aZ.app (aZ.take i B) (aZ.drop (i+1) B)
inductive d1L(K:aF)(Pt:aA)(vs:List V)(H:Hp)(Q:VK)(sH:XK):Prop|mk:∀ba hv xs hs h z far kt kg,vs=[.ref ba,hv,.str z]->O4 z->O6 K H ba xs hs far kt kg->1<=kt->HS K H hv h->HG far kt kg h->LT Pt H->(∀A B H' u,uz z hs h kt kg A B->bj Pt H H'->LT Pt H'->Ex H' u (low A B)->Q u H')->(∀H',ik z hs h kt kg->bj Pt H H'->LT Pt H'->Q .non H')->d1L K Pt vs H Q sH
theorem d0H(F:bf P w K mg base J8 n f fd ["houses","house","sizes"] (Ru K Pt)):bf P w K mg base J8 n f fd ["houses","house","sizes"] (d1L K Pt):=F.imp λvs H Q E h=>by
 obtain⟨ba,hv,xs,hs,h,z,far,kt,kg,rfl,hz,B,ij,hH,gh,L,kG,kN⟩:=h;exact⟨ba,hv,xs,hs,h,z,far,kt,kg,cm,hz,B,hH,gh,L,λS H' u Bs e L' hu=>kG _ _ H' u (Bs.u B.g gh B.far B.few) e L' hu,λS H' O st e L'=>kN H' ⟨S,O,st⟩ e L'⟩
inductive d0z(K:aF)(CN Pt:aA)(vs:List V)(H:Hp)(Q:VK)(E:XK):Prop|mk:∀(ba:aA)(xs:List V)(hs:List i8)(number:Int)(z:aC)(far:Int)(kt kg:Nat),vs=[.ref ba,.int number,.str z]->O4 z->O6 K H ba xs hs far kt kg->1<=kt->number.natAbs.log2<1920->LT Pt H->(∀(i:Nat)h A B H' u,number=(i:Int)->hs[i]?=fo h->uz z hs h kt kg A B->bj Pt H H'->LT Pt H'->Ex H' u (low A B)->Q u H')->(¬AA (gu xs) number->E (.ref CN) fO H)->d0z K CN Pt vs H Q E
theorem c8n(F:bf P w K mg base (W2 P w) n f fd ["book","number","sizes"] (OI K CN Pt)):bf P w K mg base (W2 P w) n f fd ["book","number","sizes"] (d0z K CN Pt):=F.imp λvs H Q E h=>by
 obtain⟨ba,xs,hs,number,z,far,kt,kg,rfl,hz,B,ij,lm,L,kG,kE⟩:=h;exact⟨ba,xs,hs,number,z,far,kt,kg,cm,hz,B,lm,L,λi h S H' u hi hh Bs e L' hu=>kG i h _ _ H' u hi hh (Bs.u B.g (B.g h (bK hh)) B.far B.few) e L' hu,kE⟩
inductive XG(K:aF)(CN:aA)(vs:List V)(H:Hp)(Q:VK)(E:XK):Prop|mk:∀a xs m,vs=[.ref a,.int m]->ah K H a xs->gu xs<=1000->m.natAbs.log2<1920->(∀(i:Nat)l H',m=(i:Int)->i<gu xs->af H H'->H l=fO->H' l=fo (.lst (S8 xs i))->Q (.ref l) H')->(¬AA (gu xs) m->E (.ref CN) fO H)->XG K CN vs H Q E
def c0U:p7 ["houses","number"] ["houses","number"] (i9 VH):=⟨cm,cm,cm,de,cm,de,de⟩
theorem a8I(F:Ay K "without" VH f fd)(Ch:vn P w K mg base n "house_of" ["book","number"] (OA K CN) f1 d1):bf P w K mg base (W2 P w) (n+1) f fd ["houses","number"] (XG K CN):=by
 refine F.ob c0U λay A outer s H vs Q E hr h=>?_;obtain⟨a,xs,m,rfl,hS,hl,hm,q,hE⟩:=h;refine⟨_,j0 (R3 (l7 Ch.ok hr rfl Ch.m Ch.k Ch.b .nil V5 (c6 (pv 0) (c6 (pv 1) c7))))
  (fu.oi (j4 (o4 (j8 B9 (B7 M0 (pv 0) G1 (B8 (pv 1))) (B7 M0 (pv 0) (B8 (j8 D4 (pv 1) d0)) G1))))),?_⟩
 refine⟨_,cm,_,cm,a,xs,m,cm,hS,hm,λi x hi hx=>?_,hE⟩;subst hi;have nj:=(cA.mp hx).1;refine⟨_,cm,_,cm,_,cm,a,_,cm,hS,λa1 h1=>?_⟩;rw[NS _ _ dj];have s1:=af.new h1 (.lst (xs.take i));refine⟨_,cm,_,cm,_,_,cm,cm,_,cm,a,_,cm,s1.seq hS,λa2 h2=>?_⟩;rw[(dj:((i:Int)+1)=((i+1:Nat):Int)),NT _ _ dj];have s2:=af.new h2 (.lst (xs.drop (i+1)));refine⟨a1,a2,_,_,cm,cm,s2 _ _ ae,ae,?_,λp hp=>?_⟩
 .have:=t9 (show(1000:Nat)<=1000 from aT _);simp;lia
 refine q i p _ rfl nj ((s1.trans s2).trans (af.new hp (.lst (xs.take i++xs.drop (i+1))))) ?_ ae;cases e:H p with
 |none=>rfl
 |some o=>rw[s2 _ _ (s1 _ _ e)] at hp;cases hp
inductive Jl(K:aF)(CN Pt:aA)(vs:List V)(H:Hp)(Q:VK)(E:XK):Prop|mk:∀ba xs hs number z far kt kg,vs=[.ref ba,.int number,.str z]->O4 z->O6 K H ba xs hs far kt kg->1<=kt->number.natAbs.log2<1920->LT Pt H->(∀(i:Nat)h A B H' u,number=(i:Int)->hs[i]?=fo h->uz z (S8 hs i) h kt kg A B->bj Pt H H'->LT Pt H'->Ex H' u (low A B)->Q u H')->(∀(i:Nat)h H',number=(i:Int)->hs[i]?=fo h->ik z (S8 hs i) h kt kg->bj Pt H H'->LT Pt H'->Q .non H')->(¬AA (gu xs) number->E (.ref CN) fO H)->Jl K CN Pt vs H Q E
def OU:p7 ["book","number","sizes","house"] ["book","number","sizes"] (i9 VI):=⟨cm,cm,cm,de,cm,de,de⟩
theorem c9V(F:Ay K "share_of_others" VI f fd)(Ch:vn P w K mg base n "house_of" ["book","number"] (OA K CN) f1 d1)(Cw:vn P w K mg base n "without" ["houses","number"] (XG K CN) f2 d2)
  (Ce:C9 P w K mg base n "held_against" ["houses","house","sizes"] (Ru K Pt) f3 d3):bf P w K mg base (W2 P w) (n+1) f fd ["book","number","sizes"] (Jl K CN Pt):=by
 refine F.ob OU λay A outer s H vs Q E hr h=>?_;obtain⟨ba,xs,hs,number,z,far,kt,kg,rfl,hz,B,ij,lm,L,kG,kN,kE⟩:=h;refine⟨_,j0 (r6 (i:=3) OU.nd rfl (aI rfl) (l7 Ch.ok hr rfl Ch.m Ch.k Ch.b .nil V5 (c6 (pv 0) (c6 (pv 1) c7))))
  (j4 (o4 (l7 (d0H Ce.ok) hr rfl Ce.m Ce.k Ce.b .nil v6 (c6 (l7 Cw.ok hr rfl Cw.m Cw.k Cw.b .nil V5 (c6 (pv 0) (c6 (pv 1) c7))) (c6 (pv 3) (c6 (pv 2) c7)))))),?_⟩
 have xl:gu xs=gu hs:=dE B.b;have few:=B.few;refine⟨_,cm,_,cm,ba,xs,number,cm,B.l,lm,λi hv hi hx=>?_,kE⟩;obtain⟨h,hh,hH⟩:=aZ.at B.b hx;have nj:=(cA.mp hx).1;refine⟨_,cm,_,cm,ba,xs,number,cm,B.l,dj,lm,λi' l H1 Ek _ e1 hl jl=>?_,λW5=>absurd ⟨dj,dj⟩ W5⟩;have:i'=i:=dj;subst this;refine⟨_,cm,_,cm,l,hv,_,S8 hs i',h,z,far,kt,kg,cm,hz,⟨ah.of jl,Bk.same e1 (B.b.out i'),λg hg=>B.g g (XF hg),B.far,bF b3A few,B.t,B.k⟩,ij,hH.same e1,B.g h (bK hh),L.same e1,λA B H' u x e' L' hu=>kG i' h A B H' u hi hh x (e1.ka.trans e') L' hu,λH' x e' L'=>kN i' h H' hi hh x (e1.ka.trans e') L'⟩
theorem d1Q x y:cK (dF x) (dF y)=decide (x=y):=by
 unfold dF;rw[cK,hV,hV,hV,cK,cK,Rw];obtain⟨a,b⟩:=x;obtain⟨c,d⟩:=y;by_cases h1:a=c
 .by_cases h2:b=d
  .subst h1 h2;simp
  .simp[h2]
 .simp[h1]
theorem Ex.ka{v}(L:LT Pt H)(e:bj Pt H H')(h:Ex H v x):Ex H' v x:=by
 obtain⟨a,rfl,ha⟩:=h;exact⟨a,cm,e.get L ha nofun⟩
inductive AK(hs:List i8)(h:i8)(kt kg:Nat):aC->Prop
 |yO {A B A1 B1:Int}:uz "any" hs h kt kg A B->uz "one" hs h kt kg A1 B1->low A B=low A1 B1->AK hs h kt kg "just"
 |small {A B A1 B1 za B2:Int}:uz "any" hs h kt kg A B->uz "one" hs h kt kg A1 B1->low A B≠low A1 B1->uz "less" hs h kt kg za B2->low A B=low za B2->AK hs h kt kg "small"
 |great {A B A1 B1 za B2:Int}:uz "any" hs h kt kg A B->uz "one" hs h kt kg A1 B1->low A B≠low A1 B1->uz "less" hs h kt kg za B2->low A B≠low za B2->AK hs h kt kg "great"
inductive J1(K:aF)(CN Pt:aA)(vs:List V)(H:Hp)(Q:VK)(E:XK):Prop|mk:∀(ba:aA)(xs:List V)(hs:List i8)(number:Int)(far:Int)(kt kg:Nat),vs=[.ref ba,.int number]->O6 K H ba xs hs far kt kg->1<=kt->number.natAbs.log2<1920->LT Pt H->(∀(i:Nat)h H' t,number=(i:Int)->hs[i]?=fo h->AK hs h kt kg t->bj Pt H H'->LT Pt H'->Q (.str t) H')->(¬AA (gu xs) number->E (.ref CN) fO H)->J1 K CN Pt vs H Q E
def AL:p7 ["book","number","by_any"] ["book","number"] (i9 V7):=⟨cm,cm,cm,de,cm,de,de⟩
theorem d0r(F:Ay K "scale" V7 f fd)(Cs:vn P w K mg base n "share" ["book","number","sizes"] (OI K CN Pt) f1 d1):bf P w K mg base (W2 P w) (n+1) f fd ["book","number"] (J1 K CN Pt):=by
 have YG:=c8n Cs.ok;refine F.vj AL (λvs H Q E h=>?_) λay A outer s H vs Q E hr h=>?_
 .obtain⟨ba,xs,hs,number,far,kt,kg,rfl,_⟩:=h;rfl
 obtain⟨ba,xs,hs,number,far,kt,kg,rfl,B,ij,lm,L,q,hE⟩:=h;refine⟨_,j0 (r6 (i:=2) AL.nd rfl (aI rfl) (l7 YG hr rfl Cs.m Cs.k Cs.b .nil V5 (c6 (pv 0) (c6 (pv 1) (c6 l9 c7)))))
  (j0 (w6 (l5 (d0Y hr) (pv 2) (l7 YG hr rfl Cs.m Cs.k Cs.b .nil V5 (c6 (pv 0) (c6 (pv 1) (c6 l9 c7)))) (r9 _)) (j4 (o4 l9)) r8)
  (j0 (w6 (l5 (d0Y hr) (pv 2) (l7 YG hr rfl Cs.m Cs.k Cs.b .nil V5 (c6 (pv 0) (c6 (pv 1) (c6 l9 c7)))) (r9 _)) (j4 (o4 l9)) r8)
  (j4 (o4 l9)))),?_⟩
 have xl:gu xs=gu hs:=dE B.b;refine⟨_,cm,_,cm,ba,xs,hs,number,"any",far,kt,kg,cm,.inl rfl,B,ij,lm,L,λi h A0 B0 H1 u0 hi hh YH e1 L1 hu0=>?_,hE⟩;have bin:∀{H':Hp},bj Pt H H'->O6 K H' ba xs hs far kt kg:=λe=>⟨ah.fg L e B.l,Bk.fg L e B.b,B.g,B.far,B.few,B.t,B.k⟩;have nj:=(cA.mp hh).1;have gd:AA (gu xs) number:=⟨dj,dj⟩;refine⟨_,cm,_,cm,_,cm,ba,xs,hs,number,"one",far,kt,kg,cm,.inr (.inl rfl),bin e1,ij,lm,L1,λi' h' A1 B1 H2 u1 Ek Kp YI e2 L2 S_=>?_,λW5=>absurd gd W5⟩;have:i'=i:=dj;subst this;rw[hh] at Kp;cases Kp;have Ik:=hu0.ka L1 e2;refine⟨dF _,dF _,Xc.dp Ik.v,Xc.dp S_.v,Iw _,Iw _,bF (sF _ _) (d0D _),_,cm,?_⟩;rw[d1Q];refine y6 (λc=>q i' h H2 "just" hi hh (.yO YH YI (qh c)) (e1.trans e2) L2) λc=>?_;have c':=ql (eN.mpr c);refine⟨_,cm,_,cm,_,cm,ba,xs,hs,number,"less",far,kt,kg,cm,.inr (.inr (.inl rfl)),bin (e1.trans e2),ij,lm,L2,λi2 h' za B2 H3 u2 Ek Kp X2_ e3 L3 hu3=>?_,λW5=>absurd gd W5⟩;have:i2=i':=dj;subst this;rw[hh] at Kp;cases Kp;refine⟨dF _,dF _,Xc.dp (Ik.ka L2 e3).v,Xc.dp hu3.v,Iw _,Iw _,bF (sF _ _) (d0D _),_,cm,?_⟩;rw[d1Q];exact y6 (λd=>q i2 h H3 "small" hi hh (.small YH YI c' X2_ (qh d)) (e1.trans (e2.trans e3)) L3) λd=>q i2 h H3 "great" hi hh (.great YH YI c' X2_ (ql (eN.mpr d))) (e1.trans (e2.trans e3)) L3
structure Yy(K:aF)(mg:aC->Option aE)(cE cB cH cR cT cM cL:aA):Prop where
 mE:mg "RimError"=fo (.ref cE)
 mB:mg "NoBook"=fo (.ref cB)
 mH:mg "NoHouse"=fo (.ref cH)
 mR:mg "NoRow"=fo (.ref cR)
 mT:mg "NoText"=fo (.ref cT)
 mM:mg "TooMany"=fo (.ref cM)
 mL:mg "NothingLeft"=fo (.ref cL)
 kE:X4 K cE
structure EB(K:aF)(c cE cB cH cR cT cM cL:aA)(b1 b2 b3 b4 b5 b6:Bool):Prop where
 k:X4 K c
 sub:dY K c (.ref cE)=fo true
 i1:bU K (.ref c) (.ref cB)=fo b1
 i2:bU K (.ref c) (.ref cH)=fo b2
 i3:bU K (.ref c) (.ref cR)=fo b3
 i4:bU K (.ref c) (.ref cT)=fo b4
 i5:bU K (.ref c) (.ref cM)=fo b5
 i6:bU K (.ref c) (.ref cL)=fo b6
 v:bU K (.ref c) (.type "ValueError")=fo true
abbrev MK(b1 b2 b3 b4 b5 b6:Bool):List V:=[.bl b1,.bl b2,.bl b3,.bl b4,.bl b5,.bl b6,.bl true]
inductive Zu(K:aF)(cE cB cH cR cT cM cL:aA)(vs:List V)(H:Hp)(Q:VK)(sH:XK):Prop|mk:∀ea c b1 b2 b3 b4 b5 b6,vs=[.ref ea]->H ea=fo (LG ea c)->EB K c cE cB cH cR cT cM cL b1 b2 b3 b4 b5 b6->(∀r H',af H H'->H' r=fo (.lst (MK b1 b2 b3 b4 b5 b6))->Q (.ref r) H')->Zu K cE cB cH cR cT cM cL vs H Q sH
def Jn:p7 ["e","kin"] ["e"] (i9 We):=⟨cm,cm,cm,de,cm,de,de⟩
theorem b4k:l_ "ValueError"=fo (.type "ValueError"):=by rfl
theorem b5y{cE cR cL}(F:Ay K "_law_a_kin" We f fd)(T:v8 mg)(R:Yy K mg cE cB cH cR cT cM cL):ND P w K mg base (n+1) f fd ["e"] (Zu K cE cB cH cR cT cM cL):=by
 refine F.oc Jn λay A outer s H vs Q E hr h=>?_;obtain⟨ea,c,b1,b2,b3,b4,b5,b6,rfl,he,M,q⟩:=h;refine⟨_,j0 (r6 (i:=1) Jn.nd rfl (aI rfl) (v9 (c6 (j7 K3 rfl T.En gB (c6 (pv 0) (c6 (C4 (v:=.ref cB) rfl R.mB rfl) c7)))
   (c6 (j7 K3 rfl T.En gB (c6 (pv 0) (c6 (C4 (v:=.ref cH) rfl R.mH rfl) c7)))
   (c6 (j7 K3 rfl T.En gB (c6 (pv 0) (c6 (C4 (v:=.ref cR) rfl R.mR rfl) c7)))
   (c6 (j7 K3 rfl T.En gB (c6 (pv 0) (c6 (C4 (v:=.ref cT) rfl R.mT rfl) c7))) c7))))))
  (j4 (o4 (j8 B9 (pv 1) (v9 (c6 (j7 K3 rfl T.En gB (c6 (pv 0) (c6 (C4 (v:=.ref cM) rfl R.mM rfl) c7)))
   (c6 (j7 K3 rfl T.En gB (c6 (pv 0) (c6 (C4 (v:=.ref cL) rfl R.mL rfl) c7)))
   (c6 (j7 K3 rfl T.En gB (c6 (pv 0) (c6 (Ln (v:=.ty "ValueError") rfl T.ve b4k rfl) c7))) c7))))))),?_⟩
 refine⟨_,cm,ea,c,_,b1,cm,he,M.k,λu ru=>by cases ru;exact M.i1,_,cm,ea,c,_,b2,cm,he,M.k,λu ru=>by cases ru;exact M.i2,_,cm,ea,c,_,b3,cm,he,M.k,λu ru=>by cases ru;exact M.i3,
  _,cm,ea,c,_,b4,cm,he,M.k,λu ru=>by cases ru;exact M.i4,aw,λl1 Aw=>?_⟩
 have s1:=af.new Aw (.lst [V.bl b1,V.bl b2,V.bl b3,V.bl b4]);have Yz:=s1 _ _ he;refine⟨_,cm,_,cm,ea,c,_,b5,cm,Yz,M.k,λu ru=>by cases ru;exact M.i5,_,cm,ea,c,_,b6,cm,Yz,M.k,λu ru=>by cases ru;exact M.i6,_,cm,ea,c,_,true,cm,Yz,M.k,λu ru=>by cases ru;exact M.v,aw,λl2 j_=>?_⟩;have s2:=af.new j_ (.lst [V.bl b5,V.bl b6,V.bl true]);exact⟨l1,l2,_,_,cm,cm,s2 _ _ ae,ae,aw,λl3 KA=>(q l3 _ (s1.trans (s2.trans (af.new KA _))) ae)⟩
abbrev Po(x:aC):List V:=MK (decide (su "NoBook"=su x)) (decide (su "NoHouse"=su x)) (decide (su "NoRow"=su x)) (decide (su "NoText"=su x)) (decide (su "TooMany"=su x)) (decide (su "NothingLeft"=su x))
inductive Zv(vs:List V)(H:Hp)(Q:VK)(sH:XK):Prop|mk:∀x,vs=[.str x]->(∀r H',af H H'->H' r=fo (.lst (Po x))->Q (.ref r) H')->Zv vs H Q sH
def Jo:p7 ["name","names"] ["name"] (i9 X8):=⟨cm,cm,cm,de,cm,de,de⟩
def b9L:(["one","name"]:List aC).Nodup:=dz
theorem b4y(F:Ay K "_law_due_kin" X8 f fd)(T:v8 mg):bf P w K mg base J8 (n+1) f fd ["name"] Zv:=by
 refine F.oa Jo λay A outer s H vs Q E hr h=>?_;obtain⟨nm,rfl,q⟩:=h;refine⟨_,j0 (r6 (i:=1) Jo.nd rfl (aI rfl) (v9 (c6 l9 (c6 l9 (c6 l9 (c6 l9 (c6 l9 (c6 l9 c7))))))))
  (j4 (o4 (j8 B9 (N6 ["one"] [0] rfl (C6 (pv 1)) (λ_ _ _ _=>j9 (i:=0) b9L rfl (aI rfl)) (λ_ _ _ _=>Z3 E6 (pv 0) (pv 1) (r9 _))) (v9 (c6 JC c7))))),?_⟩
 refine⟨aw,λl1 Aw=>⟨_,cm,l1,cm,⟨_,ah.of ae⟩,λp hp=>(O9 (A3 (ah.of ae)) hp dz (λx=>.bl (decide (x=.str nm))) (λi x H' N hx e hN=>?_) ?_)⟩⟩
 .have hy:∃y,x=.str y:=by
   have:=bK hx;simp only[bH,dJ,or_false] at this;rcases this with rfl|rfl|rfl|rfl|rfl|rfl<;>exact⟨_,cm⟩
  obtain⟨y,rfl⟩:=hy;exact⟨Wk.set dz,_,cm,_,cm,cm,hN⟩
 .refine⟨aw,λl2 j_=>?_⟩;have s3:=af.new j_ (.lst [V.bl true]);exact⟨p,l2,_,_,cm,cm,s3 _ _ ae,ae,aw,λl3 KA=>(q l3 _ ((af.new Aw (.lst [.str "NoBook",.str "NoHouse",.str "NoRow",.str "NoText",.str "TooMany",.str "NothingLeft"])).trans ((af.new hp (.lst (xK (λx=>V.bl (decide (x=su nm))) [.str "NoBook",.str "NoHouse",.str "NoRow",.str "NoText",.str "TooMany",.str "NothingLeft"]))).trans (s3.trans (af.new KA _)))) (by rw[ae];congr 2))⟩
structure c0C(P:aM)(w:aL)(K:aF)(mg:aC->Option aE)(base:aJ)(n:Nat)(x:aC)(ps:List aC)(sp:Sp)(fa:aA)(d:aK):Prop where
 ok:ND P w K mg base n fa d ps sp
 b:Binds K d ps []
 k:dX K (.ref fa)=true
 m:mg x=fo (.ref fa)
def Pp(b1 b2 b3 b4 b5 b6:Bool):dI:=.list [.bool b1,.bool b2,.bool b3,.bool b4,.bool b5,.bool b6,.bool true]
def a9Z(h:H a=fo (.lst (MK b1 b2 b3 b4 b5 b6))):Dp K H (.ref a) (Pp b1 b2 b3 b4 b5 b6) :=
 .lst (ah.of h) (.cons (.bl _) (.cons (.bl _) (.cons (.bl _) (.cons (.bl _) (.cons (.bl _) (.cons (.bl _) (.cons (.bl _) .nil)))))))
end sC
namespace L2
open PySem
end L2
namespace sC
open PySem L2 Fr
def XH(l:Int)(ns:List Int):Prop:=∀x∈ns,l<=x/\x<=1000000000
def ef(h:i8)(m n:Int):Prop:=((gu h.1:Int)=m/\XH 1 h.1)/\((gu h.2:Int)=n/\XH 0 h.2)/\∃x∈h.2,0<x
def OV(h:i8):Prop:=gu h.1<=1000/\gu h.2<=1000
theorem ef.hg{kt kg:Nat}(g:ef h kt kg):HG (10^9) kt kg h:=⟨by have:=g.1.1;lia,by have:=g.2.1.1;lia,λx hx=>⟨(g.1.2 x hx).1,(g.1.2 x hx).2⟩,λx hx=>⟨(g.2.1.2 x hx).1,(g.2.1.2 x hx).2⟩,g.2.2⟩
theorem a4m:K6 X (.builtin "isinstance") (λvs H Q=>t_ λa xs n b=>vs=[.ref a,.ty n]/\cq X.K H a xs/\bU X.K (.type "tuple") (.type n)=fo b/\Q (.bl b) H):=by
 intro ip s σ H vs us Q I r h;obtain⟨a,xs,n,b,rfl,hs,e,q⟩:=h;obtain⟨u,v,rfl,ru,rv⟩:=Lw r;cases rv;cases (show u=cZ a from ru);have hx:∃o,s.heap.get? a=fo o/\o.cls=.type "tuple":=by
  rcases hs with hs|⟨o,iq,n,h1,h2,_⟩
  .obtain⟨_,_,_,p⟩:=(show dh H s.heap a (.tup xs) from hs.ok I.ck);obtain⟨o,h1,h2,_⟩:=p;exact⟨o,h1,h2⟩
  .exact⟨o,I.ix a o h1,h2⟩
 exact fX tI I.ix hx e (λz=>nomatch z) λtk=>⟨.bl b,H,I.tok _,cm,q⟩
inductive XW(vs:List V)(H:Hp)(Q:VK)(sH:XK):Prop|mk:∀i,vs=[.int i]->Q (.bl true) H->XW vs H Q sH
def b6Y:p7 ["thing"] ["thing"] (i9 VP):=⟨cm,cm,cm,de,cm,de,de⟩
theorem b5H(F:Ay K "is_whole" VP f fd)(T:v8 mg):bf P w K mg base J8 (n+1) f fd ["thing"] XW:=by
 refine F.oa b6Y λay A outer s H vs Q E hr h=>?_;obtain⟨i,rfl,q⟩:=h;refine⟨_,j4 (o4 (b1G (j7 Uz rfl T.En gB (c6 (pv 0) (c6 (Ln (v:=.ty "int") rfl T.int lJ rfl) c7)))
  (b1I (b6x (j7 Uz rfl T.En gB (c6 (pv 0) (c6 (Ln (v:=.ty "bool") rfl T.bool An rfl) c7))))))),?_⟩
 exact⟨_,cm,_,_,"int",true,cm,.int i,U5 _,_,cm,J3 ⟨_,cm,_,_,"bool",false,cm,.int i,a5G,_,cm,q⟩⟩
inductive XX(K:aF)(vs:List V)(H:Hp)(Q:VK)(sH:XK):Prop|mk:∀a ns m l,vs=[.ref a,.int m,.int l]->cq K H a (ns.map sh)->gu ns<=1000->(∀b H',af H H'->(b=true ↔ ((gu ns:Int)=m/\XH l ns))->Q (.bl b) H')->XX K vs H Q sH
def b7f:p7 ["thing","many","least"] ["thing","many","least"] (i9 Z9):=⟨cm,cm,cm,de,cm,de,de⟩
def b6O:(["amount","least"]:List aC).Nodup:=dz
theorem b3s{N:VK}(h:N (.bl b) H)(e:b'=b):N (.bl b') H:=by simp_all
theorem b4J(F:Ay K "are_amounts" Z9 f fd)(T:v8 mg)(C:∃t,mg "MOST_AMOUNT"=fo (.int 1000000000 t))(G:CZ P w K mg base n "is_whole" ["thing"] XW g gd):bf P w K mg base J8 (n+1) f fd ["thing","many","least"] (XX K):=by
 refine F.oa b7f λay A outer s H vs Q E hr h=>?_;obtain⟨a,ns,m,l,rfl,hS,hz,q⟩:=h;obtain⟨tm,hma⟩:=C;refine⟨_,j0 (w6 (PW.pt (U0 (S6 (X6 (j7 a4m rfl T.En gB (c6 (pv 0) (c6 (Ln (v:=.ty "tuple") rfl T.tuple hU rfl) c7))))) (R9 (l5 Ei (j7 j6 rfl T.len bB (c6 (pv 0) c7)) (pv 1) (r9 _))))) (j4 (o4 JC)) r8)
  (j4 (o4 (j7 (Sq rfl) rfl T.all xV (c6
   (N6 ["amount"] [2] rfl (IE (pv 0)) (λ_ _ _ _=>j9 (i:=0) b6O rfl (aI rfl))
    (λ_ _ _ _=>b1G (G.c hr (c6 (pv 0) c7)) (b1I (b1L EJ EJ (pv 1) (pv 0) (C4 (v:=.int 1000000000) rfl hma ⟨_,cm⟩))))) c7)))),?_⟩
 refine⟨_,cm,a,_,"tuple",true,cm,hS,U5 _,_,cm,M7 ⟨_,cm,a,_,cm,.inr hS,_,cm,cm,_,cm,y6 (λc=>?_) (λc=>?_)⟩⟩
 .refine q _ _ (af.refl _) ?_;have c':¬(gu ns:Int)=m:=λh=>by simp[h] at c
  simp[c']
 .have c':(gu ns:Int)=m:=by simpa using c
  refine⟨_,cm,a,cm,⟨_,hS⟩,λp hp=>(O9 (U3 hS) hp (by rw[aH _];exact t9 hz) (λx=>.bl (decide (l<=vI x/\vI x<=1000000000))) (λi x H' N hx e hN=>?_) ?_)⟩
  .obtain⟨k,rfl⟩:=T0 hx;refine⟨Wk.set dz,_,cm,k,cm,_,cm,J3 ⟨_,cm,_,cm,_,_,cm,cm,_,cm,y6 (λc=>?_) (λc=>?_)⟩⟩
   .exact⟨_,_,cm,cm,b3s hN (by simp[vI,qh c])⟩
   .exact b3s hN (by simp[vI,ql (eN.mpr c)])
  .refine⟨p,ns.map (λi=>decide (l<=i/\i<=1000000000)),cm,.inl (ah.of (by rw[ae,bC,bC];rfl)),q _ _ (af.new hp _) ?_⟩;rw[List.all_map,fE];constructor
   .intro z;exact⟨c',λx hx=>by simpa using z x hx⟩
   .intro z x hx;simpa using z.2 x hx
inductive RO(K:aF)(vs:List V)(H:Hp)(Q:VK)(sH:XK):Prop|mk:∀v h m n,vs=[v,.int m,.int n]->HS K H v h->OV h->(∀b H',af H H'->(b=true ↔ ef h m n)->Q (.bl b) H')->RO K vs H Q sH
def AG:p7 ["thing","many_takes","many_gives","takes","gives"] ["thing","many_takes","many_gives"] (i9 VQ):=⟨cm,cm,cm,de,cm,de,de⟩
def b7j:(["give"]:List aC).Nodup:=fg
theorem b4A(F:Ay K "is_house" VQ f fd)(T:v8 mg)(G:CZ P w K mg base n "are_amounts" ["thing","many","least"] (XX K) g gd) :
  bf P w K mg base J8 (n+1) f fd ["thing","many_takes","many_gives"] (RO K):=by
 refine F.oa AG λay A outer s H vs Q E hr h=>?_;obtain⟨v,h,m,l,rfl,⟨a,t,gv,rfl,h0,h1,h2⟩,⟨hz1,RP⟩,q⟩:=h;refine⟨_,j0 (w6 (PW.pt (U0 (S6 (X6 (j7 a4m rfl T.En gB (c6 (pv 0) (c6 (Ln (v:=.ty "tuple") rfl T.tuple hU rfl) c7))))) (R9 (l5 Ei (j7 j6 rfl T.len bB (c6 (pv 0) c7)) d0 (r9 _))))) (j4 (o4 JC)) r8)
  (j0 (D3 (pv 0) (K4 rfl (p6 (j9 (i:=3) AG.nd rfl (aI rfl)) (p6 (j9 (i:=4) AG.nd rfl (aI rfl)) A4))))
  (j0 (w6 (S6 (PW.pt (Gv (X6 (G.c hr (c6 (pv 3) (c6 (pv 1) (c6 d0 c7))))) (T4 (X6 (G.c hr (c6 (pv 4) (c6 (pv 2) (c6 d0 c7)))))))))
   (j4 (o4 JC)) r8)
  (j4 (o4 (j7 (a7F rfl) rfl T.any xN (c6 (N6 ["give"] [] rfl (IE (pv 4)) (λ_ _ _ _=>j9 (i:=0) b7j rfl (aI rfl)) (λ_ _ _ _=>Z3 Ej (pv 0) d0 (r9 _))) c7)))))),?_⟩
 refine⟨_,cm,a,_,"tuple",true,cm,h0,U5 _,_,cm,M7 ⟨_,cm,a,_,cm,.inr h0,cm,_,cm,b8R rfl ⟨_,cm,a,_,cm,h0,cm,_,_,cm,_,_,cm,cm,_,cm,_,cm,t,h.1,m,1,cm,h1,hz1,λb1 H1 e1 i1=>⟨_,cm,y6 (λc1=>?_) (λc1=>?_)⟩⟩⟩⟩
 .refine⟨_,cm,_,cm,gv,h.2,l,0,cm,e1.cm h2,RP,λb2 H2 e2 i2=>⟨_,cm,y6 (λc2=>?_) (λc2=>?_)⟩⟩
  .refine q _ _ (e1.trans e2) ?_;have:¬b2=true:=by simpa using c2
   constructor
   .intro z;cases z
   .intro z;exact absurd (i2.mpr z.2.1) this
  .have Mw:b2=true:=by simpa using c2
   have Oy:=e1.trans e2;refine⟨_,cm,gv,cm,⟨_,Oy.cm h2⟩,λp hp=>(O9 (U3 (Oy.cm h2)) hp (by rw[aH _];exact t9 RP) (λx=>.bl (decide (0<vI x))) (λi x H' N hx e hN=>?_) ?_)⟩
   .obtain⟨k,rfl⟩:=T0 hx;exact⟨Wk.set dz,_,cm,_,_,cm,cm,hN⟩
   .refine⟨p,h.2.map (λi=>decide (0<i)),cm,.inl (ah.of (by rw[ae,bC,bC];rfl)),q _ _ (Oy.trans (af.new hp _)) ?_⟩;rw[lN,mK];constructor
    .rintro⟨x,hx,z⟩;exact⟨i1.mp c1,i2.mp Mw,x,hx,by simpa using z⟩
    .rintro⟨_,_,x,hx,z⟩;exact⟨x,hx,by simpa using z⟩
 .refine J3 (q _ _ e1 ?_);constructor
  .intro z;cases z
  .intro z;exact absurd (i1.mpr z.1) c1
inductive Jr(K:aF)(CB:aA)(vs:List V)(H:Hp)(Q:VK)(E:XK):Prop|mk:∀v h m n,vs=[v,.int m,.int n]->HS K H v h->OV h->m.natAbs.log2<1920->n.natAbs.log2<1920->(ef h m n->∀H',af H H'->Q .non H')->(¬ef h m n->∀H',af H H'->E (.ref CB) fO H')->Jr K CB vs H Q E
def b1j:p7 ["thing","many_takes","many_gives"] ["thing","many_takes","many_gives"] (i9 X7):=⟨cm,cm,cm,de,cm,de,de⟩
theorem b0s{g:aA}{gd:aK}(F:Ay K "refuse_unfit" X7 f fd)(kB:X4 K CB)(mB:mg "NoBook"=fo (.ref CB))(G:CZ P w K mg base n "is_house" ["thing","many_takes","many_gives"] (RO K) g gd) :
  bf P w K mg base (W2 P w) (n+1) f fd ["thing","many_takes","many_gives"] (Jr K CB):=by
 refine F.ob b1j λay A outer s H vs Q E hr h=>?_;obtain⟨v,h,m,l,rfl,hH,hz,hm,hl,q,hE⟩:=h;refine⟨_,j4 (w6 (S6 (X6 (G.c hr (c6 (pv 0) (c6 (pv 1) (c6 (pv 2) c7)))))) (j4 (T7 kB rfl mB hr.hd (c6 (a7G (NG (UJ (pv 1) (NG (UJ (pv 2) (NG b2S)))))) c7))) r8),?_⟩;refine⟨_,cm,_,cm,_,cm,v,h,m,l,cm,hH,hz,λb H1 e1 i1=>⟨_,cm,?_⟩⟩;cases b with
 |true=>exact M7 (q (i1.mp rfl) H1 e1)
 |false =>
  refine J3 ?_;exact⟨_,cm,m,cm,hm,_,cm,l,cm,hl,λx=>⟨(by show 1<=1000;decide),hE (λz=>by have:=i1.mpr z;cases this) H1 e1⟩⟩
inductive X5(K:aF)(CB CT:aA)(vs:List V)(H:Hp)(Q:VK)(E:XK):Prop|mk:∀l v xs h m n,vs=[.ref l,v,.int m,.int n]->H l=fo (.lst xs)->gu xs<=1000->HS K H v h->OV h->m.natAbs.log2<1920->n.natAbs.log2<1920->(ef h m n->gu xs<16->∀r H',af H H'->H r=fO->H' r=fo (.lst (xs++[v]))->Q (.ref r) H')->(¬ef h m n->∀H',af H H'->E (.ref CB) fO H')->(ef h m n->16<=gu xs->∀H',af H H'->E (.ref CT) fO H')->X5 K CB CT vs H Q E
def b1c:p7 ["houses","house","many_takes","many_gives"] ["houses","house","many_takes","many_gives"] (i9 V0):=⟨cm,cm,cm,de,cm,de,de⟩
theorem a8p(F:Ay K "with_one_more" V0 f fd)(T:v8 mg)(kT:X4 K CT)(mT:mg "TooMany"=fo (.ref CT))(C:∃t,mg "MOST_HOUSES"=fo (.int 16 t))
  (G:vn P w K mg base n "refuse_unfit" ["thing","many_takes","many_gives"] (Jr K CB) g gd):bf P w K mg base (W2 P w) (n+1) f fd ["houses","house","many_takes","many_gives"] (X5 K CB CT):=by
 refine F.ob b1c λay A outer s H vs Q E hr h=>?_;obtain⟨l,v,xs,h,m,k,rfl,hl,hz,hH,hs,hm,hk,q,hB,hT⟩:=h;obtain⟨tm,hmh⟩:=C;refine⟨_,j0 (R3 (l7 G.ok hr rfl G.m G.k G.b .nil V5 (c6 (pv 1) (c6 (pv 2) (c6 (pv 3) c7)))))
  (j0 (w6 (l5 Qb (j7 j6 rfl T.len bB (c6 (pv 0) c7)) (C4 (v:=.int 16) rfl hmh ⟨_,cm⟩) (r9 _)) (j4 (T7 kT rfl mT hr.hd (c6 (a7G (NG (UJ (C4 (v:=.int 16) rfl hmh ⟨_,cm⟩) (NG b2S)))) c7))) r8)
  (fu.oi (j4 (o4 (j8 B9 (pv 0) (v9 (c6 (pv 1) c7))))))),?_⟩
 refine⟨_,cm,_,cm,_,cm,v,h,m,k,cm,hH,hs,hm,hk,λg1 H1 e1=>⟨_,cm,l,xs,cm,.inl (ah.of (e1 _ _ hl)),_,_,cm,cm,_,cm,y6 (λc=>?_) λc=>?_⟩,hB⟩
 .have c':16<=gu xs:=by have:=qh c;lia
  exact⟨16,cm,dz,λx=>⟨(by show 1<=1000;decide),hT g1 c' H1 e1⟩⟩
 .have c':gu xs<16:=by have:=ql (eN.mpr c);lia
  refine⟨_,cm,_,cm,aw,λb1 Kk=>?_⟩;have s2:=af.new Kk (.lst [v]);refine⟨l,b1,_,_,cm,cm,s2 _ _ (e1 _ _ hl),ae,?_,λp hp=>?_⟩
  .have:=t9 (show(1000:Nat)<=1000 from aT _);simp;lia
  exact q g1 c' p _ (e1.trans (s2.trans (af.new hp (.lst (xs++[v]))))) ((e1.trans s2).free hp) ae
inductive X_(K:aF)(CN CB:aA)(vs:List V)(H:Hp)(Q:VK)(E:XK):Prop|mk:∀(l:aA)(v:V)(xs:List V)(h:i8)(num m n:Int),vs=[.ref l,.int num,v,.int m,.int n]->H l=fo (.lst xs)->gu xs<=1000->HS K H v h->OV h->num.natAbs.log2<1920->m.natAbs.log2<1920->n.natAbs.log2<1920->(∀i:Nat,num=(i:Int)->i<gu xs->ef h m n->∀r H',af H H'->H r=fO->H' r=fo (.lst ((xs.take i++[v])++xs.drop (i+1)))->Q (.ref r) H')->(¬AA (gu xs) num->∀H',af H H'->E (.ref CN) fO H')->(AA (gu xs) num->¬ef h m n->∀H',af H H'->E (.ref CB) fO H')->X_ K CN CB vs H Q E
def c9I:p7 ["houses","number","house","many_takes","many_gives"] ["houses","number","house","many_takes","many_gives"] (i9 J9):=⟨cm,cm,cm,de,cm,de,de⟩
theorem c8Y(F:Ay K "with_another" J9 f fd)(Ch:vn P w K mg base n "house_of" ["book","number"] (OA K CN) g2 gd2)
  (G:vn P w K mg base n "refuse_unfit" ["thing","many_takes","many_gives"] (Jr K CB) g gd):bf P w K mg base (W2 P w) (n+1) f fd ["houses","number","house","many_takes","many_gives"] (X_ K CN CB):=by
 refine F.ob c9I λay A outer s H vs Q E hr h=>?_;obtain⟨l,v,xs,h,num,m,k,rfl,hl,hz,hH,hs,hn,hm,hk,q,hN,hB⟩:=h;refine⟨_,j0 (R3 (l7 Ch.ok hr rfl Ch.m Ch.k Ch.b .nil V5 (c6 (pv 0) (c6 (pv 1) c7))))
  (j0 (R3 (l7 G.ok hr rfl G.m G.k G.b .nil V5 (c6 (pv 2) (c6 (pv 3) (c6 (pv 4) c7)))))
  (fu.oi (j4 (o4 (j8 B9 (j8 B9 (B7 M0 (pv 0) G1 (B8 (pv 1))) (v9 (c6 (pv 2) c7))) (B7 M0 (pv 0) (B8 (j8 D4 (pv 1) d0)) G1)))))),?_⟩
 refine⟨_,cm,_,cm,l,xs,num,cm,ah.of hl,hn,λi x hi hx=>?_,λW5=>hN W5 H (af.refl _)⟩;subst hi;have nj:=(cA.mp hx).1;refine⟨_,cm,_,cm,_,cm,v,h,m,k,cm,hH,hs,hm,hk,λg1 H1 e1=>?_,λW5 H1 e1=>hB ⟨dj,dj⟩ W5 H1 e1⟩;have small:=t9 (show(1000:Nat)<=1000 from aT _);refine⟨_,cm,_,cm,_,cm,l,_,cm,ah.of (e1 _ _ hl),λa1 h1=>?_⟩;rw[NS _ _ dj];refine⟨_,cm,aw,λa2 h2=>?_⟩;have s2:=af.new h2 (.lst [v]);refine⟨a1,a2,_,_,cm,cm,s2 _ _ ae,ae,by simp;lia,λa3 h3=>?_⟩;have DY:=(af.new h1 (.lst (xs.take i))).trans (s2.trans (af.new h3 (.lst (xs.take i++[v]))));refine⟨_,cm,_,cm,_,_,cm,cm,_,cm,l,_,cm,ah.of (DY _ _ (e1 _ _ hl)),λa4 h4=>?_⟩;rw[(dj:((i:Int)+1)=((i+1:Nat):Int)),NT _ _ dj];have s4:=af.new h4 (.lst (xs.drop (i+1)));refine⟨a3,a4,_,_,cm,cm,s4 _ _ ae,ae,by simp;lia,λp hp=>?_⟩;have all:=e1.trans (DY.trans s4);exact q i rfl nj g1 p _ (all.trans (af.new hp (.lst ((xs.take i++[v])++xs.drop (i+1))))) (all.free hp) ae
open Tx (S cs ch x6 J6 A5 w4)
def xa{α:Type}:List (Option α)->Option (List α)
 |[]=>fo []
 |none::_=>fO
 |some a::r=>(xa r).map (a::·)
theorem K9:∀{l}{r:List α},xa l=fo r->l=r.map fo
 |[],r,h=>by cases h;rfl
 |none::_,_,h=>by cases h
 |some a::l,r,h=>by
  unfold xa at h;obtain⟨r',hr,rfl⟩:=fL.mp h;rw[K9 hr];rfl
theorem RQ:∀(r:List α),xa (r.map fo)=fo r
 |[]=>rfl
 |a::r=>by show(xa (r.map fo)).map (a::·)=_;rw[RQ r];rfl
theorem a5d:∀{l:List (Option α)},xa l=fO->fO∈l
 |[],h=>by cases h
 |none::_,_=>cY
 |some a::l,h=>by
  unfold xa at h;exact bZ _ (a5d (Option.map_eq_none_iff.mp h))
def A6(z:S):Option (List Int):=xa ((aU z (ch 44)).map w4)
def Q0{z p:S}(h:p∈Txt.split z (ch c)):p.length<=z.length:=Ao h
theorem J5{z:S}:gu (aU z (ch c))<=z.length+1:=by
 have:=xX z (ch c) (aT 1);lia
theorem RS:∀l:List (Option Int),Hi .non (l.map HH)=l.any (·.isNone)
 |[]=>rfl
 |o::l=>by
  have ih:=RS l;unfold Hi at ih⊢;rw[cS,jM,jM,ih];cases o<;>rfl
theorem a7N(l:List (Option Int)):(l.map HH).all Hh=true:=by
 rw[fE];intro y hy;obtain⟨o,_,rfl⟩:=aY.mp hy;cases o<;>rfl
theorem any_none:(l.any (·.isNone)=true) ↔ xa l=fO:=by
 rw[mK];constructor
 .rintro⟨o,ho,hn⟩;cases o with
  |some _=>cases hn
  |none =>
   cases e:xa l with
   |none=>rfl
   |some r =>
    rw[K9 e] at ho;obtain⟨_,_,h⟩:=aY.mp ho;cases h
 .intro h;exact⟨fO,a5d h,cm⟩
inductive X'(K:aF)(vs:List V)(H:Hp)(Q:VK)(sH:XK):Prop|mk:∀z:S,vs=[.str z]->J6 z->z.length<=100000->(A6 z=fO->∀H',af H H'->Q .non H')->(∀ns,A6 z=fo ns->∀t H',af H H'->H' t=fo (.tup (ns.map sh))->Q (.ref t) H')->X' K vs H Q sH
def BR:p7 ["text","amounts"] ["text"] (i9 Y7):=⟨cm,cm,cm,de,cm,de,de⟩
def b4f:(["word"]:List aC).Nodup:=fg
theorem b2w(F:Ay K "read_amounts" Y7 f fd)(T:v8 mg)(C:C9 P w K mg base n "read_number" ["text"] Z1 fa da):bf P w K mg base J8 (n+1) f fd ["text"] (X' K):=by
 refine F.oa BR λay A outer s H vs Q E hr h=>?_;obtain⟨z,rfl,ha,hl,q0,q1⟩:=h;refine⟨_,j0 (CA (i:=1) ["word"] [] BR.nd rfl rfl rfl (C6 (K7 eP iW iX U4 (pv 0) (c6 l9 c7))) (λ_ _ _ _=>j9 (i:=0) b4f rfl (aI rfl)) λ_ _ _ _=>C.c hr (c6 (pv 0) c7))
  (j4 (o4 (MT (l5 Qj D5 (pv 1) rfl) D5 (v5 E7 rfl T.tuple hU (c6 (pv 1) c7))))),?_⟩
 have few:=J5 (z:=z) (c:=44);refine⟨_,cm,cm,z,ch 44,cm,cm,dz,by rw[bE];lia,λl jl=>⟨l,cm,⟨_,ah.of ae⟩,λp hp=>(N5 (A3 (ah.of ae)) hp (by rw[aH,bE];lia) (λi y _=>∃x,(aU z (ch 44))[i]?=fo x/\y=HH (w4 x)) (λ_ _ _ _ r _=>r) (λi y H2 zs N hy e dy hN=>?_) λzs H2 e dy len pr=>?_)⟩⟩
 .rw[aP] at hy;obtain⟨x,hx,rfl⟩:=fL.mp hy;have Eo:=bK hx;exact⟨Wk.set dz,_,cm,x,cm,Tx.fj ha Eo,bF (Q0 Eo) hl,λH3 e3=>hN _ _ e3 ⟨x,hx,cm⟩⟩
 have ez:zs=((aU z (ch 44)).map w4).map HH:=by
  rw[aH] at len;refine dR λi=>?_;by_cases hi:i<zs.length
  .obtain⟨h,hh,e1⟩:=pr i _ (aS hi);rw[aS hi,e1,aP,aP,hh];rfl
  .rw[bW eX,bW (by simp_all)]
 rw[ez] at dy;have e2:=(af.new jl (.lst ((aU z (ch 44)).map su))).trans e;refine⟨_,cm,p,_,cm,.inl (ah.of dy),cm,a7N _,_,cm,y6 (λc=>?_) (λc=>?_)⟩
 .have c':((aU z (ch 44)).map w4).any (·.isNone)=true:=by rw[<-RS];exact c
  exact q0 (any_none.mp c') _ e2
 .have c':¬((aU z (ch 44)).map w4).any (·.isNone)=true:=by rw[<-RS];exact c
  cases jx:A6 z with
  |none=>exact absurd (any_none.mpr jx) c'
  |some ns =>
   have ev:((aU z (ch 44)).map w4).map HH=ns.map sh:=by rw[K9 jx,bC];rfl
   rw[ev] at dy;exact⟨_,cm,p,_,cm,.inl ⟨ah.of dy,λt ht=>(q1 ns jx t _ (e2.trans (af.new ht _)) ae)⟩⟩
def jg(h:i8):Prop:=(1<=gu h.1/\gu h.1<=4)/\(1<=gu h.2/\gu h.2<=4)/\ef h (gu h.1) (gu h.2)
inductive XJ(K:aF)(vs:List V)(H:Hp)(Q:VK)(sH:XK):Prop|mk:∀v h,vs=[v]->HS K H v h->gu h.1<=200000->gu h.2<=200000->(∀b H',af H H'->(b=true ↔ jg h)->Q (.bl b) H')->XJ K vs H Q sH
def AH:p7 ["thing","takes","gives"] ["thing"] (i9 W9):=⟨cm,cm,cm,de,cm,de,de⟩
theorem b5i(F:Ay K "is_any_house" W9 f fd)(T:v8 mg)(CM:∃t,mg "MOST_KINDS"=fo (.int 4 t))(C:CZ P w K mg base n "is_house" ["thing","many_takes","many_gives"] (RO K) fa da):bf P w K mg base J8 (n+1) f fd ["thing"] (XJ K):=by
 refine F.oa AH λay A outer s H vs Q E hr h=>?_;obtain⟨v,h,rfl,⟨a,ta,ga,rfl,h0,h1,h2⟩,l1,l2,q⟩:=h;obtain⟨tm,hM⟩:=CM;refine⟨_,j0 (D3 (pv 0) (K4 rfl (p6 (j9 (i:=1) AH.nd rfl (aI rfl)) (p6 (j9 (i:=2) AH.nd rfl (aI rfl)) A4))))
  (j0 (w6 (S6 (PW.pt (Gv (MZ EJ EJ d0 (j7 j6 rfl T.len bB (c6 (pv 1) c7)) (C4 (v:=.int 4) rfl hM ⟨_,cm⟩)) (T4 (MZ EJ EJ d0 (j7 j6 rfl T.len bB (c6 (pv 2) c7)) (C4 (v:=.int 4) rfl hM ⟨_,cm⟩)))))) (j4 (o4 JC)) r8)
  (j4 (o4 (C.c hr (c6 (pv 0) (c6 (j7 j6 rfl T.len bB (c6 (pv 1) c7)) (c6 (j7 j6 rfl T.len bB (c6 (pv 2) c7)) c7))))))),?_⟩
 refine⟨_,cm,a,_,cm,h0,cm,_,_,cm,_,_,cm,cm,?_⟩;have ln:∀l:List Int,(gu (l.map sh):Int)=(gu l:Int):=λl=>by rw[aH]
 have no:¬jg h->Q (.bl false) H:=λc=>q false H (af.refl _) ⟨(λz=>nomatch z),λz=>absurd z c⟩;refine⟨_,cm,ta,_,cm,.inr h1,_,_,cm,cm,_,cm,?_⟩;by_cases c1:1<=gu h.1
 rotate_left
 .rw[qU (by rw[ln];lia)];refine M7 ⟨_,cm,M7 (J3 (no λz=>c1 z.1.1))⟩
 rw[qk (show(1:Int)<=(gu (h.1.map sh):Int) by rw[ln];lia)];refine J3 ⟨_,_,cm,cm,_,cm,?_⟩;by_cases c2:gu h.1<=4
 rotate_left
 .rw[qU (by rw[ln];lia)];exact M7 (J3 (no λz=>c2 z.1.2))
 rw[qk (show(gu (h.1.map sh):Int)<=4 by rw[ln];lia)];refine J3 ⟨_,cm,ga,_,cm,.inr h2,_,_,cm,cm,_,cm,?_⟩;by_cases c3:1<=gu h.2
 rotate_left
 .rw[qU (by rw[ln];lia)];refine M7 ⟨_,cm,J3 (no λz=>c3 z.2.1.1)⟩
 rw[qk (show(1:Int)<=(gu (h.2.map sh):Int) by rw[ln];lia)];refine J3 ⟨_,_,cm,cm,_,cm,?_⟩;by_cases c4:gu h.2<=4
 rotate_left
 .rw[qU (by rw[ln];lia)];exact J3 (no λz=>c4 z.2.1.2)
 rw[qk (show(gu (h.2.map sh):Int)<=4 by rw[ln];lia)];refine M7 ⟨_,cm,_,cm,ta,_,cm,.inr h1,_,cm,ga,_,cm,.inr h2,.ref a,h,_,_,cm,⟨a,ta,ga,cm,h0,h1,h2⟩,⟨eX,eX⟩,λb H' e i=>(q b H' e (i.trans ?_))⟩;rw[ln,ln];exact⟨λg=>⟨⟨c1,c2⟩,⟨c3,c4⟩,g⟩,λg=>g.2.2⟩
open Classical in
def D6(z:S):Option i8:=match (aU z (ch 62)).map A6 with
 |[fo a,fo b]=>if jg (a,b) then fo (a,b) else fO
 |_=>fO
def AV(H:Hp)(v:V):Option (List Int)->Prop
 |none=>v=.non
 |some ns=>∃t,v=.ref t/\H t=fo (.tup (ns.map sh))
def dA:Option (List Int)->dI
 |none=>.none
 |some ns=>.tuple (ns.map gM)
theorem a4Q:∀ns:List Int,qc K H (ns.map sh) (ns.map gM)
 |[]=>.nil
 |n::ns=>.cons (.int n) (a4Q ns)
theorem AV.dp(h:AV H v o):Dp K H v (dA o):=by
 cases o with
 |none=>cases (show v=.non from h);exact .non
 |some ns=>obtain⟨t,rfl,h2⟩:=h;exact .tup (cq.of h2) (a4Q ns)
theorem a5c:∀ns:List Int,cP (ns.map gM)=true
 |[]=>by rw[jY,cP]
 |n::ns=>by rw[cS,cP,a5c ns];rfl
theorem b9A o:(dA o).canLay0=true:=by
 cases o with
 |none=>rfl
 |some ns=>unfold dA;rw[fU];exact a5c ns
theorem b9m o:cK (dA o) .none=o.isNone:=by
 cases o with
 |none=>simp[dA,cK]
 |some ns=>simp[dA,cK]
theorem b2L:∀os:List (Option (List Int)),cP (os.map dA)=true
 |[]=>by rw[jY,cP]
 |o::os=>by rw[cS,cP,b2L os,b9A];rfl
theorem b9F{os}(h:bR (AV H) vs os):qc K H vs (os.map dA):=by
 induction h with
 |nil=>exact .nil
 |cons r _ ih=>exact .cons r.dp ih
theorem RT{α β γ:Type}{R:β->γ->Prop}{f:α->γ}:∀{ys}{xs:List α},gu ys=gu xs->(∀(i:Nat)y,ys[i]?=fo y->∃x,xs[i]?=fo x/\R y (f x))->bR R ys (xs.map f)
 |[],[],_,_=>.nil
 |y::ys,x::xs,hl,h=>by
  obtain⟨x',hx,r⟩:=h 0 y rfl;cases hx;exact .cons r (RT (by simp_all) λi y' h'=>h (i+1) y' (by simp_all))
 |[],_::_,hl,_=>by simp at hl
 |_::_,[],hl,_=>by simp at hl
theorem a4Z(h:A6 z=fo ns):gu ns<=z.length+1:=by
 have:=rd iT (K9 h);rw[aH,aH] at this;have:=J5 (z:=z) (c:=44);lia
inductive My(K:aF)(vs:List V)(H:Hp)(Q:VK)(sH:XK):Prop|mk:∀z:S,vs=[.str z]->J6 z->z.length<=100000->(D6 z=fO->∀H',af H H'->Q .non H')->(∀h,D6 z=fo h->∀t ta ga H',af H H'->H' t=fo (.tup [.ref ta,.ref ga])->H' ta=fo (.tup (h.1.map sh))->H' ga=fo (.tup (h.2.map sh))->Q (.ref t) H')->My K vs H Q sH
def xb:p7 ["text","sides","house"] ["text"] (i9 VU):=⟨cm,cm,cm,de,cm,de,de⟩
def b5u:(["side"]:List aC).Nodup:=fg
theorem b2v(F:Ay K "read_house" VU f fd)(T:v8 mg)(C:C9 P w K mg base n "read_amounts" ["text"] (X' K) fa da)(D:C9 P w K mg base n "is_any_house" ["thing"] (XJ K) fb db):bf P w K mg base J8 (n+1) f fd ["text"] (My K):=by
 refine F.oa xb λay A outer s H vs Q E hr h=>?_;obtain⟨z,rfl,ha,hl,q0,q1⟩:=h;refine⟨_,j0 (CA (i:=1) ["side"] [] xb.nd rfl rfl rfl (C6 (K7 eP iW iX U4 (pv 0) (c6 l9 c7))) (λ_ _ _ _=>j9 (i:=0) b5u rfl (aI rfl)) (λ_ _ _ _=>C.c hr (c6 (pv 0) c7)))
  (j0 (w6 (PW.pt (U0 (l5 Ei (j7 j6 rfl T.len bB (c6 (pv 1) c7)) d0 (r9 _)) (R9 (l5 (XI hr) D5 (pv 1) rfl)))) (j4 (o4 D5)) r8)
  (j0 (r6 (i:=2) xb.nd rfl (aI rfl) (v5 E7 rfl T.tuple hU (c6 (pv 1) c7)))
  (j4 (o4 (MT (X6 (D.c hr (c6 (pv 2) c7))) (pv 2) D5))))),?_⟩
 have few:=J5 (z:=z) (c:=62);refine⟨_,cm,cm,z,ch 62,cm,cm,dz,by rw[bE];lia,λl jl=>⟨l,cm,⟨_,ah.of ae⟩,λp hp=>(N5 (A3 (ah.of ae)) hp (by rw[aH,bE];lia) (λi y H'=>∃x,(aU z (ch 62))[i]?=fo x/\∀xc:Hp,(∀b o,b≠p->H' b=fo o->xc b=fo o)->AV xc y (A6 x)) (λi y Ha Hb ⟨h,h1,h2⟩ st=>⟨h,h1,λxc Gz=>h2 xc λb o hb hh=>Gz b o hb (st b o hb hh)⟩) (λi y H2 zs N hy e dy hN=>?_) (λzs H2 e dy len pr=>?_))⟩⟩
 .rw[aP] at hy;obtain⟨x,hx,rfl⟩:=fL.mp hy;have Eo:=bK hx;refine⟨Wk.set dz,_,cm,x,cm,Tx.fj ha Eo,bF (Q0 Eo) hl,λc H3 e3=>hN _ _ e3 ⟨x,hx,λxc _=>by rw[c];rfl⟩,λns c t H3 e3 ht=>hN _ _ e3 ⟨x,hx,λxc st=>by rw[c];exact⟨t,cm,st _ _ (J7 ht (e3 _ _ dy) nofun) ht⟩⟩⟩
 have e2:=(af.new jl (.lst ((aU z (ch 62)).map su))).trans e;rw[aH] at len;have PA:bR (AV H2) zs ((aU z (ch 62)).map A6):=RT len λi y hy=>by
  obtain⟨x,hx,r⟩:=pr i y hy;exact⟨x,hx,r _ λb o _ h=>h⟩
 have no:D6 z=fO->Q .non H2:=λc=>q0 c _ e2;refine⟨_,cm,p,_,cm,.inl (ah.of dy),cm,_,cm,?_⟩;have yp:gu ((aU z (ch 62)).map A6)≠2\/fO∈(aU z (ch 62)).map A6->D6 z=fO:=λc=>by
  unfold D6;generalize (aU z (ch 62)).map A6=os at c;rcases os with _|⟨o,_|⟨o',_|⟨o'',r⟩⟩⟩
  .rfl
  .cases o<;>rfl
  .cases o<;>cases o'<;>first|rfl|(simp at c)
  .cases o<;>cases o'<;>rfl
 have pl:gu ((aU z (ch 62)).map A6)=gu zs:=by rw[aH];exact len.symm
 refine y6 (λc=>?_) (λc=>?_)
 .have:¬((gu zs:Int)=2):=λh=>by simp[h] at c
  refine J3 (no (yp (.inl ?_)));rw[pl];lia
 .have c2:gu zs=2:=by
   have:(gu zs:Int)=2:=by simpa using c
   lia
  refine⟨_,cm,p,zs,_,.none,cm,ah.of dy,b9F PA,.non,b2L _,cm,dz,_,cm,?_⟩;have ea:((((aU z (ch 62)).map A6).map dA).any λe=>cK e .none)=((aU z (ch 62)).map A6).any (·.isNone):=by
   rw[lN];congr 1;funext o;exact b9m o
  rw[ea];refine y6 (λc3=>?_) (λc3=>?_)
  .obtain⟨o,ho,hn⟩:=mK.mp c3;have:o=fO:=by cases o with|none=>rfl|some _=>cases hn
   subst this;exact no (yp (.inr ho))
  .obtain⟨a,b,yh⟩:s_ λa b=>(aU z (ch 62)).map A6=[fo a,fo b]:=by
    rw[<-pl] at c2;generalize (aU z (ch 62)).map A6=os at c2 c3;rcases os with _|⟨o,_|⟨o',_|⟨o'',r⟩⟩⟩
    .simp at c2
    .simp at c2
    .cases o with
     |none=>simp at c3
     |some a=>cases o' with
      |none=>simp at c3
      |some b=>exact⟨a,b,cm⟩
    .simp at c2
   have eH:∀{x:Option i8},(open Classical in if jg (a,b) then fo (a,b) else fO)=x->D6 z=x:=λh=>by
    unfold D6;rw[yh];exact h
   rw[yh] at PA;obtain⟨x1,x2,CC,El⟩:s_ λx1 x2=>(aU z (ch 62))[0]?=fo x1/\(aU z (ch 62))[1]?=fo x2:=⟨_,_,aS eX,aS eX⟩;have r1:A6 x1=fo a:=by
    have:=rd (λl=>l[0]?) yh;simp only[aP,CC] at this;exact bD this
   have r2:A6 x2=fo b:=by
    have:=rd (λl=>l[1]?) yh;simp only[aP,El] at this;exact bD this
   have n1:=a4Z r1;have n2:=a4Z r2;have m1:=Q0 (bK CC);have m2:=Q0 (bK El);cases PA with
   |cons v1 PA=>cases PA with
    |cons v2 PA =>
     cases PA;obtain⟨ta,rfl,GO⟩:=v1;obtain⟨ga,rfl,Av⟩:=v2;refine⟨_,cm,p,_,cm,.inl ⟨ah.of dy,λt ht=>?_⟩⟩;have t1:=af.new ht (.tup [sy ta,sy ga]);refine⟨_,cm,.ref t,(a,b),cm,⟨t,ta,ga,cm,cq.of ae,cq.of (t1 _ _ GO),cq.of (t1 _ _ Av)⟩,by show gu a<=_;lia,by show gu b<=_;lia,λb' H3 e3 i=>⟨_,cm,?_⟩⟩;have Ya:=e2.trans (t1.trans e3);refine y6 (λc4=>?_) (λc4=>q0 (eH (qf λg=>c4 (i.mpr g))) _ Ya)
     .refine⟨_,cm,q1 (a,b) (eH (qg (i.mp c4))) t ta ga H3 Ya (e3 _ _ ae) (e3 _ _ (t1 _ _ GO)) (e3 _ _ (t1 _ _ Av))⟩
def gz(hs:List i8):Prop:=(1<=gu hs/\gu hs<=16)/\∃h0,hs[0]?=fo h0/\jg h0/\∀h∈hs,ef h (gu h0.1) (gu h0.2)
open Classical in
def HJ(z:S):Option (List i8):=match xa ((aU z (ch 10)).map D6) with
 |some hs=>if gz hs then fo hs else fO
 |none=>fO
theorem XM(e:D6 z=fo h):jg h:=by
 unfold D6 at e;split at e
 .split at e
  .cases e;assumption
  .cases e
 .cases e
inductive Yb(K:aF)(vs:List V)(H:Hp)(Q:VK)(sH:XK):Prop|mk:∀a xs hs,vs=[.ref a]->ah K H a xs->Bk K H xs hs->gu hs<=200000->(∀h∈hs,OV h)->(∀b H',af H H'->(b=true ↔ gz hs)->Q (.bl b) H')->Yb K vs H Q sH
def Fh:p7 ["thing","takes","gives"] ["thing"] (i9 VR):=⟨cm,cm,cm,de,cm,de,de⟩
def b9f:(["house","takes","gives"]:List aC).Nodup:=dz
theorem b7S(F:Ay K "is_book" VR f fd)(T:v8 mg)(CM:∃t,mg "MOST_HOUSES"=fo (.int 16 t))(D:C9 P w K mg base n "is_any_house" ["thing"] (XJ K) fb db)(C:CZ P w K mg base n "is_house" ["thing","many_takes","many_gives"] (RO K) fa da):bf P w K mg base J8 (n+1) f fd ["thing"] (Yb K):=by
 refine F.oa Fh λay A outer s H vs Q E hr h=>?_;obtain⟨a,xs,hs,rfl,hS,hB,hl,hm,q⟩:=h;obtain⟨tm,hM⟩:=CM;refine⟨_,j0 (w6 (PW.pt (U0 (S6 (MZ EJ EJ d0 (j7 j6 rfl T.len bB (c6 (pv 0) c7)) (C4 (v:=.int 16) rfl hM ⟨_,cm⟩))) (R9 (S6 (X6 (D.c hr (c6 (l8 j5 (pv 0) d0 (λ_ _=>rfl)) c7))))))) (j4 (o4 JC)) r8)
  (j0 (D3 (l8 j5 (pv 0) d0 (λ_ _=>rfl)) (K4 rfl (p6 (j9 (i:=1) Fh.nd rfl (fY rfl)) (p6 (j9 (i:=2) Fh.nd rfl (fY rfl)) A4))))
  (j4 (o4 (j7 (Sq rfl) rfl T.all xV (c6 (N6 ["house"] [1,2] rfl (C6 (pv 0)) (λ_ _ _ _=>j9 (i:=0) b9f rfl (aI rfl)) (λ_ _ _ _=>C.c hr (c6 (pv 0) (c6 (j7 (b2T K rfl) rfl T.len bB (c6 (pv 1) c7)) (c6 (j7 (b2T K rfl) rfl T.len bB (c6 (pv 2) c7)) c7))))) c7))))),?_⟩
 have xl:gu xs=gu hs:=dE hB;have no:¬gz hs->Q (.bl false) H:=λc=>q false H (af.refl _) ⟨(λz=>nomatch z),λz=>absurd z c⟩;refine⟨_,cm,a,_,cm,.inl hS,_,_,cm,cm,_,cm,?_⟩;by_cases c1:1<=gu hs
 rotate_left
 .rw[qU eX];exact M7 ⟨_,cm,J3 (no λz=>c1 z.1.1)⟩
 rw[qk (eX:(1:Int)<=(gu xs:Int))];refine J3 ⟨_,_,cm,cm,_,cm,?_⟩;by_cases c2:gu hs<=16
 rotate_left
 .rw[qU eX];exact J3 (no λz=>c2 z.1.2)
 rw[qk (eX:(gu xs:Int)<=16)];refine M7 ?_;obtain⟨h0,Ky⟩:∃h,hs[0]?=fo h:=⟨_,aS eX⟩;obtain⟨x0,Hl⟩:∃x,xs[0]?=fo x:=⟨_,aS eX⟩;obtain⟨GC,yq,r0⟩:=aZ.at hB Hl;rw[Ky] at yq;cases yq;have m0:=hm h0 (bK Ky);refine⟨_,cm,a,_,_,_,cm,cm,hS,A2 Hl,x0,h0,cm,r0,by have:=m0.1;lia,by have:=m0.2;lia,λb H1 e1 i1=>⟨_,cm,y6 (λc3=>?_) (λc3=>?_)⟩⟩
 .have Ms:¬b=true:=by simpa using c3
  exact q false H1 e1 ⟨(λz=>nomatch z),λz=>by
   obtain⟨_,GC,yq,g,_⟩:=z;rw[Ky] at yq;cases yq;exact absurd (i1.mpr g) Ms⟩
 have Ms:jg h0:=i1.mp (by simpa using c3);obtain⟨b0,tb,gb,rfl,p1,p2,p3⟩:=r0.same e1;refine⟨_,cm,a,_,_,_,cm,cm,e1.seq hS,A2 Hl,b0,_,cm,p1,cm,_,_,cm,_,_,cm,cm,_,cm,a,cm,⟨_,e1.seq hS⟩,λp hp=>(N5 (A3 (e1.seq hS)) hp (t9 eX) (λi y _=>s_ λh b=>hs[i]?=fo h/\y=.bl b/\(b=true ↔ ef h (gu h0.1) (gu h0.2))) (λ_ _ _ _ r _=>r) (λi y H2 zs N hy e dy hN=>?_) (λzs H2 e dy len pr=>?_))⟩
 .obtain⟨h,hh,r⟩:=aZ.at hB hy;have ln:∀l:List Int,(gu (l.map sh):Int)=(gu l:Int):=λl=>by rw[aH]
  refine⟨Wk.set dz,_,cm,_,cm,tb,_,cm,.inr (e.cm p2),_,cm,gb,_,cm,.inr (e.cm p3),y,h,_,_,cm,(r.same e1).same e,hm h (bK hh),λb' H3 e3 i3=>hN _ _ e3 ⟨h,b',hh,cm,?_⟩⟩;rw[ln,ln] at i3;exact i3
 obtain⟨bs,hbs,hb⟩:∃bs:List Bool,zs=bs.map V.bl/\∀i b,bs[i]?=fo b->∃h,hs[i]?=fo h/\(b=true ↔ ef h (gu h0.1) (gu h0.2)):=by
  refine⟨zs.map (λv=>match v with|.bl b=>b|_=>false),?_,λi b hi=>?_⟩
  .rw[bC];refine dR λi=>?_;rw[aP];cases hz:zs[i]? with
   |none=>rfl
   |some v =>
    obtain⟨h,b,_,rfl,_⟩:=pr i v hz;rfl
  .rw[aP] at hi;cases hz:zs[i]? with
   |none=>rw[hz] at hi;cases hi
   |some v =>
    obtain⟨h,b',hh,rfl,ii⟩:=pr i v hz;rw[hz] at hi;cases hi;exact⟨h,hh,ii⟩
 rw[hbs] at dy;refine⟨p,bs,cm,.inl (ah.of dy),q _ _ (e1.trans e) ?_⟩;have bl:gu bs=gu hs:=by
  rw[hbs,aH] at len;lia
 rw[fE];constructor
 .intro z;refine⟨⟨c1,c2⟩,h0,Ky,Ms,λh hh=>?_⟩;obtain⟨i,hi⟩:=iL hh;have nj:=(cA.mp hi).1;obtain⟨h',Kp,ii⟩:=hb i _ (aS eX);rw[hi] at Kp;cases Kp;exact ii.mp (z _ (eF _))
 .rintro⟨_,GC,yq,_,g⟩ b ou;rw[Ky] at yq;cases yq;obtain⟨i,hi⟩:=iL ou;obtain⟨h,hh,ii⟩:=hb i b hi;exact ii.mpr (g h (bK hh))
def RU(K:aF)(H:Hp)(v:V):Option i8->Prop
 |none=>v=.non
 |some h=>HS K H v h
def Mz:Option i8->dI
 |none=>.none
 |some h=>Y5 h
inductive Yc(K:aF)(CT:aA)(vs:List V)(H:Hp)(Q:VK)(E:XK):Prop|mk:∀z:S,vs=[.str z]->J6 z->z.length<=100000->(HJ z=fO->∀H',af H H'->E (.ref CT) fO H')->(∀hs,HJ z=fo hs->∀l xs H',af H H'->H l=fO->H' l=fo (.lst xs)->Bk K H' xs hs->Q (.ref l) H')->Yc K CT vs H Q E
def BU:p7 ["text","book"] ["text"] (i9 VV):=⟨cm,cm,cm,de,cm,de,de⟩
def b5A:(["row"]:List aC).Nodup:=fg
theorem b6y o:cK (Mz o) .none=o.isNone:=by
 cases o with
 |none=>simp[Mz,cK]
 |some h=>simp[Mz,Y5,cK]
theorem b2y(F:Ay K "read_book" VV f fd)(T:v8 mg)(kT:X4 K CT)(mT:mg "NoText"=fo (.ref CT))(C:C9 P w K mg base n "read_house" ["text"] (My K) fa da)(D:C9 P w K mg base n "is_book" ["thing"] (Yb K) fb db):bf P w K mg base (W2 P w) (n+1) f fd ["text"] (Yc K CT):=by
 refine F.ob BU λay A outer s H vs Q E hr h=>?_;obtain⟨z,rfl,ha,hl,q0,q1⟩:=h;refine⟨_,j0 (CA (i:=1) ["row"] [] BU.nd rfl rfl rfl (C6 (K7 eP iW iX U4 (pv 0) (c6 l9 c7))) (λ_ _ _ _=>j9 (i:=0) b5A rfl (aI rfl)) (λ_ _ _ _=>C.c hr (c6 (pv 0) c7)))
  (j0 (w6 (PW.pt (U0 (l5 (XI hr) D5 (pv 1) rfl) (R9 (S6 (X6 (D.c hr (c6 (pv 1) c7))))))) (j4 (T7 kT rfl mT hr.hd (c6 l9 c7))) r8)
  (j4 (o4 (pv 1)))),?_⟩
 have few:=J5 (z:=z) (c:=10);refine⟨_,cm,cm,z,ch 10,cm,cm,dz,by rw[bE];lia,λl jl=>?_⟩;have s1:=af.new jl (.lst ((aU z (ch 10)).map su));refine⟨l,cm,⟨_,ah.of ae⟩,λp hp=>(N5 (A3 (ah.of ae)) hp (by rw[aH,bE];lia) (λi y H'=>∃x,(aU z (ch 10))[i]?=fo x/\∀xc:Hp,(∀b o,b≠p->H' b=fo o->xc b=fo o)->RU K xc y (D6 x)) (λi y Ha Hb ⟨h,h1,h2⟩ st=>⟨h,h1,λxc Gz=>h2 xc λb o hb hh=>Gz b o hb (st b o hb hh)⟩) (λi y H2 zs N hy e dy hN=>?_) (λzs H2 e dy len pr=>?_))⟩
 .rw[aP] at hy;obtain⟨x,hx,rfl⟩:=fL.mp hy;have Eo:=bK hx;refine⟨Wk.set dz,_,cm,x,cm,Tx.fj ha Eo,bF (Q0 Eo) hl,λc H3 e3=>hN _ _ e3 ⟨x,hx,λxc _=>by rw[c];rfl⟩,λh c t ta ga H3 e3 ht GO Av=>hN _ _ e3 ⟨x,hx,λxc st=>?_⟩⟩;rw[c];have Di:=e3 _ _ dy;exact⟨t,ta,ga,cm,cq.of (st _ _ (J7 ht Di nofun) ht),cq.of (st _ _ (J7 GO Di nofun) GO),cq.of (st _ _ (J7 Av Di nofun) Av)⟩
 have e2:=s1.trans e;rw[aH] at len;have PA:bR (RU K H2) zs ((aU z (ch 10)).map D6):=RT len λi y hy=>by
  obtain⟨x,hx,r⟩:=pr i y hy;exact⟨x,hx,r _ λb o _ h=>h⟩
 have dpH:∀{vs:List V}{os:List (Option i8)},bR (RU K H2) vs os->qc K H2 vs (os.map Mz):=λh=>by
  induction h with
  |nil=>exact .nil
  |@cons v o vs os r _ ih =>
   refine .cons ?_ ih;cases o with
   |none=>cases (show v=.non from r);exact .non
   |some h=>exact HS.dp r
 have ly:∀os:List (Option i8),cP (os.map Mz)=true:=λos=>by
  induction os with
  |nil=>rw[jY,cP]
  |cons o os ih =>
   rw[cS,cP,ih];cases o with
   |none=>rfl
   |some h=>show((Y5 h).canLay0&&true)=true;rw[WS];rfl
 refine⟨_,cm,p,zs,_,.none,cm,ah.of dy,dpH PA,.non,ly _,cm,dz,_,cm,?_⟩;have ea:((((aU z (ch 10)).map D6).map Mz).any λe=>cK e .none)=((aU z (ch 10)).map D6).any (·.isNone):=by
  rw[lN];congr 1;funext o;exact b6y o
 rw[ea];refine y6 (λc=>?_) (λc=>?_)
 .refine J3 ⟨(by show 1<=1000;decide),q0 ?_ _ e2⟩;unfold HJ;rw[any_none.mp c]
 .cases jx:xa ((aU z (ch 10)).map D6) with
  |none=>exact absurd (any_none.mpr jx) c
  |some hs =>
   have en:=K9 jx;rw[en] at PA;have hB:Bk K H2 zs hs:=by
    have gen:∀{vs:List V}{hs:List i8},bR (RU K H2) vs (hs.map fo)->Bk K H2 vs hs:=λ{vs hs}h=>by
     induction hs generalizing vs with
     |nil=>cases h;exact .nil
     |cons g hs ih =>
      cases h with
      |cons r t=>exact .cons r (ih t)
    exact gen PA
   have OW:∀h∈hs,jg h:=λh hh=>by
    have:fo h∈(aU z (ch 10)).map D6:=by rw[en];exact aY.mpr ⟨h,hh,cm⟩
    obtain⟨x,_,hx⟩:=aY.mp this;exact XM hx
   have hlen:gu hs=gu zs:=(dE hB).symm;refine⟨_,cm,p,zs,hs,cm,ah.of dy,hB,eX,λh hh=>⟨by have:=(OW h hh).1.2;lia,by have:=(OW h hh).2.1.2;lia⟩,λb H3 e3 i3=>⟨_,cm,?_⟩⟩;have eB:∀{x:Option (List i8)},(open Classical in if gz hs then fo hs else fO)=x->HJ z=x:=λh=>by
    unfold HJ;rw[jx];exact h
   cases b with
   |true=>exact M7 ⟨_,cm,q1 hs (eB (qg (i3.mp rfl))) p zs H3 (e2.trans e3) (s1.free hp) (e3 _ _ dy) (Bk.same e3 hB)⟩
   |false=>exact J3 ⟨(by show 1<=1000;decide),q0 (eB (qf λg=>by have:=i3.mpr g;cases this)) _ (e2.trans e3)⟩
inductive Th where
 |k (n:Int)
 |h (x:i8)
 |w (z:S)
open Classical in
def E4(form:aC)(z:S):Option Th :=
 if form="K" then (w4 z).map Th.k else if form="HOUSE" then (D6 z).map Th.h else if O4 z then fo (.w z) else fO
def Pc(K:aF)(H:Hp)(v:V):Th->Prop
 |.k n=>v=.int n
 |.h x=>tq λt ta ga=>v=.ref t/\H t=fo (.tup [.ref ta,.ref ga])/\H ta=fo (.tup (x.1.map sh))/\H ga=fo (.tup (x.2.map sh))
 |.w z=>v=.str z
def Jk(K:aF)(H:Hp)(v:V):Option Th->Prop
 |none=>v=.non
 |some t=>Pc K H v t
structure b3g(K:aF)(mg:aC->Option aE)(o:aA):Prop where
 m:mg "SIZES"=fo (.ref o)
 s:∀H,cq K H o [.str "any",.str "one",.str "less",.str "more"]
inductive Yd(K:aF)(vs:List V)(H:Hp)(Q:VK)(sH:XK):Prop|mk:∀(form:aC)(z:S),vs=[.str form,.str z]->J6 z->z.length<=100000->(∀v H',af H H'->Jk K H' v (E4 form z)->Q v H')->Yd K vs H Q sH
def b4K:p7 ["form","text"] ["form","text"] (i9 VW):=⟨cm,cm,cm,de,cm,de,de⟩
theorem b3G(F:Ay K "read_thing" VW f fd)(Z:b3g K mg oZ)(C:C9 P w K mg base n "read_number" ["text"] Z1 fa da)(D:C9 P w K mg base n "read_house" ["text"] (My K) fb db):bf P w K mg base J8 (n+1) f fd ["form","text"] (Yd K):=by
 refine F.oa b4K λay A outer s H vs Q E hr h=>?_;obtain⟨form,z,rfl,ha,hl,q⟩:=h;refine⟨_,j0 (w6 (l5 E6 (pv 0) l9 (r9 _)) (j4 (o4 (C.c hr (c6 (pv 1) c7)))) r8)
  (j0 (w6 (l5 E6 (pv 0) l9 (r9 _)) (j4 (o4 (D.c hr (c6 (pv 1) c7)))) r8)
  (j4 (o4 (MT (l5 Qj (pv 1) (C4 (v:=.ref oZ) rfl Z.m rfl) rfl) (pv 1) D5)))),?_⟩
 refine⟨_,cm,cm,_,cm,y6 (λc=>?_) λc=>?_⟩
 .refine⟨_,cm,z,cm,ha,hl,λH1 e1=>q _ H1 e1 ?_⟩;unfold E4;rw[qg (V.str.inj (qh c))];cases w4 z<;>rfl
 have c1:=λh=>c (qk (rd su h));refine⟨_,cm,cm,_,cm,y6 (λc=>?_) λc=>?_⟩
 .have er:E4 form z=(D6 z).map Th.h:=by unfold E4;rw[qf c1,qg (V.str.inj (qh c))]
  refine⟨_,cm,z,cm,ha,hl,λe H1 e1=>q _ H1 e1 ?_,λh e t ta ga H1 e1 h1 h2 h3=>q _ H1 e1 ?_⟩
  .rw[er,e];rfl
  .rw[er,e];exact⟨t,ta,ga,cm,h1,h2,h3⟩
 have c2:¬form="HOUSE":=λh=>c (qk (rd su h));have ev:∀a:aC,GB (su a) (su z)=decide (z=a):=λa=>by
  show(a==z)=decide (z=a);rw[iD,beq_iff_eq,decide_eq_true_iff];exact⟨Eq.symm,sG⟩
 have ei:(Hi (su z) [.str "any",.str "one",.str "less",.str "more"]=true) ↔ O4 z:=by
  unfold Hi O4;simp only[jM,yF,ev,mG,qY,decide_eq_true_iff]
 refine⟨_,cm,oZ,_,cm,.inr (Z.s _),cm,cm,_,cm,y6 (λc=>?_) (λc=>?_)⟩
 .refine⟨_,cm,q _ H (af.refl _) ?_⟩;unfold E4;rw[qf c1,qf c2,qg (ei.mp c)];rfl
 .refine q _ H (af.refl _) ?_;unfold E4;rw[qf c1,qf c2,qf λh=>c (ei.mpr h)];rfl
def ji:List (aC×List aC):=[("house",["HOUSE"]),("drop",["K"]),("alter",["K","HOUSE"]),("sizes",["WORD"]),("back",[]),("share",["K"]),("grow",["K"]),("others",["K"]),("alone",["K"]),("scale",["K"]),("rim",[]),("levels",[]),("order",[]),("book",[])]
structure Ye(K:aF)(Pm:gN)(mg:aC->Option aE)(d:aA)(td:List (aC×Addr)):Prop where
 t:KTab K Pm mg "FORMS" d td
 p:bR (λ(kv:aC×Addr)(fl:aC×List aC)=>kv.1=fl.1/\∀H,cq K H kv.2 (fl.2.map su)) td ji
theorem b5W(z:aC):∀{td}{fl},bR (λkv(fl:aC×List aC)=>kv.1=fl.1/\∀H,cq K H kv.2 (fl.2.map su)) td fl->(td.lookup z=fO/\fl.lookup z=fO)\/s_ λa fs=>td.lookup z=fo a/\fl.lookup z=fo fs/\∀H,cq K H a (fs.map su)
 |_,_,.nil=>.inl ⟨cm,cm⟩
 |_,_,.cons (a:=kv) (b:=fl) ⟨e,h⟩ r=>by
  obtain⟨k,a⟩:=kv;obtain⟨k',fs⟩:=fl;have e':=e;subst e';rw[eU,eU];cases (z==k) with
  |true=>exact .inr ⟨a,fs,cm,cm,h⟩
  |false=>exact b5W z r
def O2(z:S):Option (aC×List Th):=match aU z (ch 32) with
 |[]=>fO
 |w::r=>match ji.lookup w with
  |none=>fO
  |some fs=>if gu r=gu fs then (xa (cV E4 fs r)).map (λts=>(w,ts)) else fO
def dT:Th->dI
 |.k n=>.int n
 |.h x=>Y5 x
 |.w z=>.str z
def GQ:Option Th->dI
 |none=>.none
 |some t=>dT t
def RX:Option Th->Prop
 |some (.w z)=>O4 z
 |_=>True
theorem b1i form z:RX (E4 form z):=by
 unfold E4;split
 .cases w4 z<;>exact trivial
 .split
  .cases D6 z<;>exact trivial
  .split
   .assumption
   .exact trivial
theorem b9q(h:RX o):(GQ o).canLay0=true:=by
 match o,h with
 |none,_=>rfl
 |some (.k n),_=>rfl
 |some (.h x),_=>exact WS x
 |some (.w z),h=>rcases(show O4 z from h) with rfl|rfl|rfl|rfl<;>(show(sE _).canLay0=true;rw[fU];decide +kernel)
theorem b8v o:cK (GQ o) .none=o.isNone:=by
 match o with
 |none=>simp[GQ,cK]
 |some (.k n)=>simp[GQ,dT,cK]
 |some (.h x)=>simp[GQ,dT,Y5,cK]
 |some (.w z)=>simp[GQ,dT,cK]
theorem Jk.dp(h:Jk K H v o):Dp K H v (GQ o):=by
 match o,h with
 |none,h=>cases (show v=.non from h);exact .non
 |some (.k n),h=>cases (show v=.int n from h);exact .int n
 |some (.h x),h =>
  obtain⟨t,ta,ga,rfl,h1,h2,h3⟩:=h;exact HS.dp ⟨t,ta,ga,cm,cq.of h1,cq.of h2,cq.of h3⟩
 |some (.w z),h=>cases (show v=.str z from h);exact .str z
section
variable{P:aM}{w:aL}{K:aF}{mg:aC->Option aE}{base:aJ}{f dF CR:aA}{fd:aK}{n:Nat}{td:List (aC×Addr)}
inductive Yf(K:aF)(CR:aA)(vs:List V)(H:Hp)(Q:VK)(E:XK):Prop|mk:∀z:S,vs=[.str z]->J6 z->z.length<=100000->(O2 z=fO->∀H',af H H'->E (.ref CR) fO H')->(∀wd ts,O2 z=fo (wd,ts)->∀t l us H',af H H'->H' t=fo (.tup [.str wd,.ref l])->H' l=fo (.lst us)->bR (Pc K H') us ts->Q (.ref t) H')->Yf K CR vs H Q E
def qw:p7 ["row","words","word","things"] ["row"] (i9 S7):=⟨cm,cm,cm,de,cm,de,de⟩
def b0a:(["form","text"]:List aC).Nodup:=dz
def rrT{fa:aA}{da:aK}(T:v8 mg)(FT:Ye K w.params mg dF td)(kR:X4 K CR)(mR:mg "NoRow"=fo (.ref CR))(C:C9 P w K mg base n "read_thing" ["form","text"] (Yd K) fa da)
  (hr:b_ n (A.deeper (cD "read_row" (i9 S7) s.heap.objs.size f ay))) (hA:A.handled=fO) :
  {t:TS//fu (N8 (W2 P w) P w K mg base ["row","words","word","things"] "read_row" (i9 S7) f ay A outer s H E) (x9 S7) t} :=
 ⟨_,j0 (r6 (i:=1) qw.nd rfl (aI rfl) (K7 eP iW iX U4 (pv 0) (c6 l9 c7)))
  (j0 (r6 (i:=2) qw.nd rfl (aI rfl) (l8 j5 (pv 1) d0 (λ_ _=>rfl)))
  (j0 (w6 (PW.pt (U0 (l5 (b0u K w.params rfl rfl) (pv 2) (C4 (v:=.ref dF) rfl FT.t.m rfl) rfl) (R9 (l5 Ei (j8 IH (j7 j6 rfl T.len bB (c6 (pv 1) c7)) d0) (j7 j6 rfl T.len bB (c6 (l8 (Kq K w.params rfl rfl) (C4 (v:=.ref dF) rfl FT.t.m rfl) (pv 2) (λ_ _=>rfl)) c7)) (r9 _))))) (j4 (T7 kR rfl mR hA (c6 l9 c7))) r8)
  (j0 (CA (i:=3) ["form","text"] [] qw.nd rfl rfl rfl (QI false true K rfl rfl T.zip (c6 (l8 (Kq K w.params rfl rfl) (C4 (v:=.ref dF) rfl FT.t.m rfl) (pv 2) (λ_ _=>rfl)) (c6 (B7 M0 (pv 1) (B8 d0) G1) c7))) (λ_ _ _ _=>IX K (n:=2) rfl rfl (p6 (j9 (i:=0) b0a rfl (aI rfl)) (p6 (j9 (i:=1) b0a rfl (aI rfl)) A4))) (λ_ _ _ _=>C.c hr (c6 (pv 0) (c6 (pv 1) c7))))
  (j0 (w6 (l5 (XI hr) D5 (pv 3) rfl) (j4 (T7 kR rfl mR hA (c6 l9 c7))) r8)
  (j4 (o4 (A9 (c6 (pv 2) (c6 (pv 3) c7)))))))))⟩
theorem b3R(F:Ay K "read_row" S7 f fd)(T:v8 mg)(FT:Ye K w.params mg dF td)(kR:X4 K CR)(mR:mg "NoRow"=fo (.ref CR))(C:C9 P w K mg base n "read_thing" ["form","text"] (Yd K) fa da):bf P w K mg base (W2 P w) (n+1) f fd ["row"] (Yf K CR):=by
 refine F.ob qw λay A outer s H vs Q E hr h=>?_;obtain⟨z,rfl,ha,hl,q0,q1⟩:=h;refine⟨_,(rrT T FT kR mR C hr hr.hd).2,?_⟩;have few:=J5 (z:=z) (c:=32);refine⟨_,cm,cm,z,ch 32,cm,cm,dz,by rw[bE];lia,λl jl=>?_⟩;have s1:=af.new jl (.lst ((aU z (ch 32)).map su));obtain⟨wd,r,hw⟩:s_ λwd r=>aU z (ch 32)=wd::r:=by
  cases h:aU z (ch 32) with
  |nil=>exact absurd h (Tx.r_ z 32)
  |cons a b=>exact⟨a,b,cm⟩
 have HB:(upd H l (.lst ((aU z (ch 32)).map su))) l=fo (.lst ((wd::r).map su)):=by rw[ae,hw]
 generalize upd H l (.lst ((aU z (ch 32)).map su))=H1 at *;rw[hw] at few;refine⟨_,cm,l,_,_,_,cm,cm,ah.of HB,A2 rfl,?_⟩;have wl:gu ((wd::r).map su)=gu r+1:=by rw[aH];rfl
 refine⟨_,cm,dF,wd,_,cm,cm,FT.t.k,FT.t.ns wd,FT.t.sys,_,cm,?_⟩;rcases b5W wd FT.p with⟨l1,l2⟩|⟨RY,fs,l1,l2,hq⟩
 .rw[l1];refine J3 (J3 ⟨dz,q0 ?_ _ s1⟩);unfold O2;rw[hw];dsimp only;rw[l2]
 rw[l1];refine M7 ?_;have fsl:(gu (fs.map su):Int)=(gu fs:Int):=by rw[aH]
 refine⟨_,cm,l,_,cm,.inl (ah.of HB),_,_,cm,cm,_,cm,dF,wd,RY,cm,cm,FT.t.k,by rw[FT.t.ns wd,l1];rfl,RY,_,cm,.inr (hq _),cm,_,cm,?_⟩;have eR:∀{x},(if gu r=gu fs then (xa (cV E4 fs r)).map (λts=>(wd,ts)) else fO)=x->O2 z=x:=λh=>by
  unfold O2;rw[hw];dsimp only;rw[l2];exact h
 have key:(sh ((gu ((wd::r).map su):Int)-1)=sh ((gu (fs.map su):Nat):Int)) ↔ gu r=gu fs:=by
  rw[wl,fsl];constructor
  .intro h;have:=V.int.inj h;lia
  .intro h;congr 1;lia
 refine y6 (λc=>?_) λc=>?_
 .have c':¬gu r=gu fs:=λh=>by
   rw[qk (key.mpr h)] at c;cases c
  exact⟨fg,q0 (eR (qf c')) _ s1⟩
 have c':gu r=gu fs:=key.mp (by simpa using c);refine⟨_,cm,dF,wd,RY,cm,cm,FT.t.k,by rw[FT.t.ns wd,l1];rfl,_,cm,_,cm,l,_,cm,ah.of HB,λl3 KA=>?_⟩;have ec:P5 ((wd::r).map su) (fo 1) fO=r.map su:=by
  have:=NT ((wd::r).map su) 1 (by rw[wl];lia);exact this
 rw[ec];have rl:gu r<=z.length:=by rw[eM] at few;lia
 have asc:∀x∈r,J6 x/\x.length<=100000:=λx hx=>by
  have hm:x∈Txt.split z (ch 32):=by rw[hw];exact bZ _ hx
  exact⟨Tx.fj ha hm,bF (Q0 hm) hl⟩
 refine⟨RY,l3,cm,⟨_,hq _⟩,⟨_,ah.of ae⟩,λp hp=>(QJ (b1:=false) (b2:=true) (xs:=fs.map su) (ys:=r.map su) (hq _) (ah.of ae) hp (by rw[aH,bE];lia) (λi y H'=>s_ λfm x=>fs[i]?=fo fm/\r[i]?=fo x/\∀xc:Hp,(∀b o,b≠p->H' b=fo o->xc b=fo o)->Jk K xc y (E4 fm x)) (λi y Ha Hb ⟨h,h0,h1,Yg,h2⟩ st=>⟨h,h0,h1,Yg,λxc Gz=>h2 xc λb o hb hh=>Gz b o hb (st b o hb hh)⟩) (λi x y H2 zs N hx hy e dy hN=>?_) (λzs H2 e dy len pr=>?_))⟩
 .rw[aP] at hx hy;obtain⟨fm,LC,rfl⟩:=fL.mp hx;obtain⟨tx,RZ,rfl⟩:=fL.mp hy;obtain⟨a1,a2⟩:=asc tx (bK RZ);refine⟨_,cm,_,cm,fm,tx,cm,a1,a2,λv H3 e3 ho=>hN _ _ e3 ⟨fm,tx,LC,RZ,λxc st=>?_⟩⟩;have Di:=e3 _ _ dy;revert ho;generalize E4 fm tx=o;intro ho;match o,ho with
  |none,ho=>exact ho
  |some (.k n),ho=>exact ho
  |some (.w z),ho=>exact ho
  |some (.h x),⟨t,ta,ga,e0,h1,h2,h3⟩=>exact⟨t,ta,ga,e0,st _ _ (J7 h1 Di nofun) h1,st _ _ (J7 h2 Di nofun) h2,st _ _ (J7 h3 Di nofun) h3⟩
 have e2:=(s1.trans (af.new KA (.lst (r.map su)))).trans e;have zl:gu zs=gu (cV E4 fs r):=by
  rw[len,aH,aH,jS]
 have PA:bR (Jk K H2) zs (cV E4 fs r):=by
  have:=RT (R:=Jk K H2) (f:=λo:Option Th=>o) (ys:=zs) (xs:=cV E4 fs r) zl λi y hy=>by
   obtain⟨fm,tx,LC,RZ,rr⟩:=pr i y hy;exact⟨_,by rw[mX,LC,RZ],rr _ λb o _ h=>h⟩
  rw[List.map_id'] at this;exact this
 have okT:∀o∈List.zipWith E4 fs r,RX o:=λo ho=>by
  obtain⟨i,hi⟩:=iL ho;rw[mX] at hi;split at hi
  .cases hi;exact b1i _ _
  .cases hi
 have dpT:∀{vs:List V}{os:List (Option Th)},bR (Jk K H2) vs os->qc K H2 vs (os.map GQ):=λh=>by
  induction h with
  |nil=>exact .nil
  |cons r _ ih=>exact .cons r.dp ih
 have ly:∀os:List (Option Th),(∀o∈os,RX o)->cP (os.map GQ)=true:=λos=>by
  induction os with
  |nil=>intro _;rw[jY,cP]
  |cons o os ih =>
   intro h;rw[cS,cP,ih λx hx=>h x (bZ _ hx),b9q (h o cY)];rfl
 refine⟨_,cm,p,zs,_,.none,cm,ah.of dy,dpT PA,.non,ly _ okT,cm,dz,_,cm,?_⟩;have ea:(((cV E4 fs r).map GQ).any λe=>cK e .none)=(cV E4 fs r).any (·.isNone):=by
  rw[lN];congr 1;funext o;exact b8v o
 rw[ea];refine y6 (λc=>?_) (λc=>?_)
 .refine⟨(by show 1<=1000;decide),q0 (eR ?_) _ e2⟩;rw[qg c',any_none.mp c];rfl
 .cases jx:xa (cV E4 fs r) with
  |none=>exact absurd (any_none.mpr jx) c
  |some ts =>
   rw[K9 jx] at PA;refine⟨_,cm,_,cm,aw,λt ht=>?_⟩;have t1:=af.new ht (.tup [su wd,sy p]);refine q1 wd ts (eR (by simp_all)) t p zs _ (e2.trans t1) ae (t1 _ _ dy) ?_;have gen:∀{vs:List V}{us:List Th},bR (Jk K H2) vs (us.map fo)->bR (Pc K (upd H2 t (.tup [su wd,sy p]))) vs us:=λ{vs us}h=>by
    induction us generalizing vs with
    |nil=>cases h;exact .nil
    |cons g us ih =>
     cases h with
     |cons r' t' =>
      refine .cons ?_ (ih t');match g,r' with
      |.k n,r'=>exact r'
      |.w z,r'=>exact r'
      |.h x,⟨t2,ta,ga,e0,h1,h2,h3⟩=>exact⟨t2,ta,ga,e0,t1 _ _ h1,t1 _ _ h2,t1 _ _ h3⟩
   exact gen PA
end
end sC
namespace sC
open PySem L2 Fr
open Tx (S cs ch x6 J6 A5 w4 bu vk ext R7)
theorem R_ c(p q:S)(r:List S):cs (cO (ch c) (p::q::r))=cs p++c::cs (cO (ch c) (q::r)):=by
 show cs (p++ch c++cO (ch c) (q::r))=_;rw[bu,bu,vk,dC];rfl
theorem Yh:∀{ps:List S},d∈cs (cO (ch c) ps)->d=c\/∃p∈ps,d∈cs p
 |[],h=>by cases h
 |[p],h=>.inr ⟨p,.head _,h⟩
 |p::q::r,h=>by
  rw[R_] at h;rcases bJ.mp h with h|h
  .exact .inr ⟨p,.head _,h⟩
  .rcases bH.mp h with h|h
   .exact .inl h
   .rcases Yh h with h|⟨x,hx,h⟩
    .exact .inl h
    .exact .inr ⟨x,.tail _ hx,h⟩
theorem R'(h:0<=n)(hd:d∈cs (x6 n)):48<=d/\d<=57:=by
 obtain⟨m,rfl⟩:=jZ h;have:=Tx.sf m d hd;lia
theorem Sb(h:∀n∈ns,0<=n)(hd:d∈cs (G4 ns)):d=44\/(48<=d/\d<=57):=by
 rcases Yh hd with e|⟨p,hp,hd⟩
 .exact .inl e
 .obtain⟨n,hn,rfl⟩:=aY.mp hp;exact .inr (R' (h n hn) hd)
theorem Yi h:C2 h=cO (ch 62) [G4 h.1,G4 h.2]:=by
 refine ext ?_;rw[R_];unfold C2;rw[bu,bu,bu];show cs (G4 h.1)++([62]++(cs (G4 h.2)++[]))=_;rw[fP];rfl
def f3s(h:i8):Prop:=(∀n∈h.1,0<=n)/\∀n∈h.2,0<=n
theorem Yj(p:f3s h)(hd:d∈cs (C2 h)):d=44\/d=62\/(48<=d/\d<=57):=by
 rw[Yi] at hd;rcases Yh hd with e|⟨x,hx,hd⟩
 .exact .inr (.inl e)
 .rcases bH.mp hx with rfl|hx
  .exact(Sb p.1 hd).imp id .inr
  .rw[cJ.mp hx] at hd;exact(Sb p.2 hd).imp id .inr
theorem a4a(h0:ns≠[])(h:∀n∈ns,0<=n/\n<10^10):A6 (G4 ns)=fo ns:=by
 unfold A6 G4;rw[R7 (by simp_all) λp hp z=>by
  obtain⟨n,hn,rfl⟩:=aY.mp hp;have:=R' (h n hn).1 z;lia]
 have:(ns.map x6).map w4=ns.map fo:=by
  rw[bC];refine fM λn hn=>?_;obtain⟨h1,h2⟩:=h n hn;obtain⟨m,rfl⟩:=jZ h1;exact Tx.ET dj
 rw[this,RQ]
theorem jg.pos(a:jg h):f3s h:=⟨λn hn=>by have:=a.2.2.1.2 n hn;lia,λn hn=>(a.2.2.2.1.2 n hn).1⟩
theorem a7B(a:jg h):D6 (C2 h)=fo h:=by
 unfold D6;rw[Yi,R7 fg λp hp z=>by
  rcases bH.mp hp with rfl|hp
  .have:=Sb a.pos.1 z;lia
  .rw[cJ.mp hp] at z;have:=Sb a.pos.2 z;lia]
 have n1:h.1≠[]:=λz=>by have:=a.1.1;rw[z] at this;simp at this
 have n2:h.2≠[]:=λz=>by have:=a.2.1.1;rw[z] at this;simp at this
 have e1:=a4a n1 (λn hn=>by have:=a.2.2.1.2 n hn;lia);have e2:=a4a n2 (λn hn=>by have:=a.2.2.2.1.2 n hn;lia);show(match [A6 (G4 h.1),A6 (G4 h.2)] with
  |[fo a,fo b]=>_
  |_=>fO)=_
 rw[e1,e2];exact qg a
theorem gz.any(b:gz hs):∀h∈hs,jg h:=λh hh=>by
 obtain⟨_,h0,e0,a0,g⟩:=b;have gh:=g h hh;have l1:gu h.1=gu h0.1:=by have:=gh.1.1;lia
 have l2:gu h.2=gu h0.2:=by have:=gh.2.1.1;lia
 refine⟨by rw[l1];exact a0.1,by rw[l2];exact a0.2.1,?_⟩;rw[l1,l2];exact gh
theorem a7U(b:gz hs):HJ (Ey hs)=fo hs:=by
 have ne:hs.map C2≠[]:=λz=>by
  have:=b.1.1;rw[rR.mp z] at this;simp at this
 have:xa ((aU (Ey hs) (ch 10)).map D6)=fo hs:=by
  unfold Ey;rw[R7 ne λp hp z=>by
   obtain⟨h,hh,rfl⟩:=aY.mp hp;have:=Yj (b.any h hh).pos z;lia,bC]
  have:hs.map (D6∘C2)=hs.map fo:=fM λh hh=>a7B (b.any h hh);rw[this,RQ]
 unfold HJ;rw[this];exact qg b
theorem a6T(hw:32 ∉ cs w)(hr:∀p∈r,32 ∉ cs p)(hf:ji.lookup w=fo fs)(hl:gu r=gu fs)(ht:cV E4 fs r=ts.map fo):O2 (cO (ch 32) (w::r))=fo (w,ts):=by
 unfold O2;rw[R7 fg λp hp=>by
  rcases bH.mp hp with rfl|hp
  .exact hw
  .exact hr p hp]
 show(match ji.lookup w with
  |none=>fO
  |some fs=>if gu r=gu fs then (xa (cV E4 fs r)).map (λts=>(w,ts)) else fO)=_
 rw[hf];show(if gu r=gu fs then (xa (cV E4 fs r)).map (λts=>(w,ts)) else fO)=_;rw[qg hl,ht,RQ];rfl
theorem b3I:O2 ("book":aC)=fo (("book":aC),[]):=a6T (r:=[]) dz (λ_ h=>by cases h) rfl rfl rfl
end sC
namespace sC
open PySem L2 Fr
open Tx (S cs ch x6 J6 A5 w4)
def KC:List (List Nat):=[cs "shar",cs "grow",cs "othe",cs "book"]
def W5(l:List Nat):Bool:=KC.contains (l.take 4)
def UL:List (List Nat):=[cs "house",cs "drop",cs "alter",cs "alone",cs "scale",cs "sizes"]
def MC:List (List Nat):=[cs "back",cs "levels",cs "order",cs "rim"]
def MD(z:S):Prop:=cs z∈MC\/∃u∈UL,∃t,cs z=u++32::t
theorem Se(h:4<=gu l):W5 (l++t)=W5 l:=by
 unfold W5;rw[pP h]
def ME:∀u∈UL,4<=gu u/\W5 u=false:=dz
def MF(X:List Nat)(e:Nat):Prop:=(∀u∈UL,∀a<5,W5 ((u++[32]).take a++(X++(u++[32]).drop (a+e)))=false)/\∀h∈MC,∀a<5,W5 (h.take a++(X++h.drop (a+e)))=false
instance {X e}:Decidable (MF X e):=inferInstanceAs (Decidable (_/\_))
def b5s:MF [] 1:=dz
def f2x:∀c∈cs "0,> 7a",MF [c] 0:=dz
def Yu:∀h∈MC,W5 h=false/\∀c∈cs " ",∀Y∈[cs " ",cs " 0",cs " 1>1"],W5 (h++Y)=false:=dz
theorem Sh(hz:z∈MC\/∃u∈UL,∃t,z=u++32::t)(he:e<=1)(hX:MF X e)a:W5 (z.take a++(X++z.drop (a+e)))=false:=by
 rcases hz with hz|⟨u,hu,t,rfl⟩
 .by_cases ha:a<5
  .exact hX.2 z hz a ha
  .have h4:=hX.2 z hz 4 dz;by_cases hl:gu z<=4
   .rw[fZ hl,pO dj] at h4;rw[fZ dj,pO dj];exact h4
   .unfold W5;rw[pP (by grind),xL,jT dj];have:=(Yu z hz).1;exact this
 .obtain⟨hl,hb⟩:=ME u hu;have jl:gu (u++[32])=gu u+1:=fg;rw[(fg:u++32::t=(u++[32])++t)];by_cases ha:a<5
  .rw[pP dj,List.drop_append_of_le_length dj,<-dC,<-dC,Se (by grind),dC];exact hX.1 u hu a ha
  .rw[Se (by grind)];unfold W5;rw[xL,jT dj,dC,pP hl];exact hb
theorem f2O(h:MD z):W5 (cs z)=false:=by
 rcases h with h|⟨u,hu,t,e⟩
 .exact(Yu _ h).1
 .rw[e,Se (ME u hu).1];exact(ME u hu).2
theorem f2s(h:MD z)(hY:Y∈[cs " ",cs " 0",cs " 1>1"]):W5 (cs z++Y)=false:=by
 rcases h with h|⟨u,hu,t,e⟩
 .exact(Yu _ h).2 32 dz Y hY
 .rw[e,dC,Se (ME u hu).1];exact(ME u hu).2
theorem Yl(p:S):∀l:List S,∃Y,cs (cO (ch d) (p::l))=cs p++Y/\(Y=[]\/s_ λq r=>l=q::r/\Y=d::cs (cO (ch d) l))
 |[]=>⟨[],by rw[fP];rfl,.inl rfl⟩
 |q::r=>⟨_,R_ d p q r,.inr ⟨q,r,cm,cm⟩⟩
def W8:List aC:=["house","drop","alter","sizes","back","levels","order","rim","alone","scale"]
def b2q:∀f∈ji,f.1∈W8\/W5 (cs f.1)=true/\4<=gu (cs f.1):=dz
theorem MG{α:Type}{x:α}:∀{l:List (aC×α)},l.lookup w=fo x->(w,x)∈l
 |(k,y)::l,h=>by
  rw[eU] at h;cases e:(w==k) with
  |true=>rw[e] at h;cases h;rw[eq_of_beq e];exact .head _
  |false=>rw[e] at h;exact .tail _ (MG h)
theorem b7l(h:W5 (cs z)=false)(e:O2 z=fo (wd,ts)):wd∈W8:=by
 have hj:=mQ z (ch 32);unfold O2 at e;split at e
 .cases e
 .rename_i w r hw
  rw[hw] at hj;split at e
  .cases e
  .rename_i fs hf
   split at e
   .obtain⟨x,_,e⟩:=fL.mp e;cases e;rcases b2q _ (MG hf) with h1|⟨h1,h2⟩
    .exact h1
    .obtain⟨Y,e1,_⟩:=Yl _ r;rw[<-hj,e1,Se h2] at h;rw[h] at h1;cases h1
   .cases e
theorem a9t(h:J6 z):(sE z).canLay0=true:=by
 rw[fU];unfold PyData.strOk;rw[<-Array.all_toList,fE];intro c hc;have:=h c hc;exact qk dj
theorem a9O:∀{l},(∀v∈l,∃y,v=.str y/\J6 y)->∃ds,qc K H l ds/\cP ds=true/\iC ds<=10/\ds.isEmpty=l.isEmpty
 |[],_=>⟨[],.nil,cm,by simp[iC],cm⟩
 |v::l,h=>by
  obtain⟨y,rfl,hy⟩:=h v (.head _);obtain⟨ds,h1,h2,h3,_⟩:=a9O λu hu=>h u (.tail _ hu);refine⟨.str y::ds,.cons (.str y) h1,?_,?_,cm⟩
  .rw[cP,a9t hy,h2];rfl
  .rw[iC];have:(sE y).depth<=10:=by simp[iY]
   lia
theorem a9X:cK (.list ds) (.list [])=ds.isEmpty:=by
 rw[cK];cases ds with
 |nil=>rw[hV];rfl
 |cons a r=>rw[hV]<;>first|rfl|simp
def Y4:V->Bool
 |.str y=>(jG Kw y 0 Kw.length 1).isEmpty
 |_=>false
def a5a(h:c<128):Y4 (.str (ch c))=!(decide (48<=c)&&decide (c<=57)):=a9q c h
def b6X:p7 ["word"] ["word"] (i9 U9):=⟨cm,cm,cm,de,cm,de,de⟩
def b7r:(["sign"]:List aC).Nodup:=fg
theorem b4G(F:Ay K "_law_a_number" U9 f fd)(T:v8 mg):bf P w K mg base J8 (n+1) f fd ["word"] Z1:=by
 refine F.oa b6X λay A outer s H vs Q E hr h=>?_;obtain⟨z,rfl,ha,hl,q⟩:=h;refine⟨_,t8 (w6 (PW.pt (U0 (l5 EI (j7 Q8 rfl T.len bB (c6 (pv 0) c7)) d0 (r9 _)) (U0 (l5 Ej (j7 Q8 rfl T.len bB (c6 (pv 0) c7)) d0 (r9 _)) (R9 (PW.pt (Gv (l5 E6 (l8 Nc (pv 0) d0 λ_ _=>rfl) l9 (r9 _)) (T4 (l5 Ei (pv 0) l9 (r9 _)))))))))
   (j4 (o4 D5)) r8)
  (t8 (w6 (l5 (JU hr) (Sf ["sign"] [] rfl (b3d (pv 0)) (λ_ _ _ _=>j9 (i:=0) b7r rfl (aI rfl)) (λ_ _ _ _=>l5 a2o (pv 0) l9 rfl) λ_ _ _ _=>pv 0) (v9 c7) (r9 _)) (j4 (o4 D5)) r8)
  (j4 (o4 (v5 DO rfl T.int lJ (c6 (pv 0) c7))))),?_⟩
 have lz:=Tx.d_ z;have je:z.length<=jb:=by rw[bE];lia
 have Kx:A5 z=false->∀H',af H H'->Q .non H':=λc H' e=>by
  have:=q H' e;unfold w4 at this;rw[qf (by rw[c];exact cX)] at this;exact this
 have e1:(su z=su (cN "0")) ↔ cs z=[48]:=by
  constructor
  .intro h;rw[V.str.inj h];decide
  .intro h;exact rd su (Tx.ext (by rw[h];decide))
 refine⟨λau H'=>au=[fo (.str z)]/\H=H'/\1<=z.length/\z.length<=10/\((cs z).head?≠fo 48\/cs z=[48]),?_,?_⟩
 .refine⟨_,cm,z,cm,je,_,_,cm,cm,_,cm,y6 (λc1=>?_) (λc1=>?_)⟩
  .have GK:¬1<=z.length:=by have:=qh c1;lia
   refine J3 (Kx ?_ _ (af.refl _));rw[M8,qU (by rw[<-lz];exact GK)];rfl
  have GK:1<=z.length:=by have:=ql (eN.mpr c1);lia
  refine⟨_,cm,z,cm,je,_,_,cm,cm,_,cm,y6 (λc2=>?_) (λc2=>?_)⟩
  .have Mw:¬z.length<=10:=by have:=qh c2;lia
   refine J3 (Kx ?_ _ (af.refl _));rw[M8,qU (show ¬gu (cs z)<=10 by rw[<-lz];exact Mw)];simp
  have Mw:z.length<=10:=by have:=ql (eN.mpr c2);lia
  obtain⟨d,r,hd⟩:s_ λd r=>cs z=d::r:=by
   cases h:cs z with
   |nil=>rw[h] at lz;simp at lz;lia
   |cons d r=>exact⟨d,r,cm⟩
  have e0:(su (ch d)=su (cN "0")) ↔ d=48:=by
   constructor
   .intro h;have h2:=rd cs (V.str.inj h);have h3:cs (cN "0")=[48]:=dz;rw[h3] at h2;exact(kS h2).1
   .intro h;subst h;exact rd su (Tx.ext dz)
  refine⟨_,cm,z,0,d,cm,cm,je,?_,cm,_,cm,?_⟩
  .show U7 (cs z) 0=fo d;rw[hd];exact A2 (j:=0) rfl
  refine y6 (λc4=>?_) (λc4=>?_)
  .refine⟨_,cm,cm,_,cm,y6 (λc5=>?_) (λc5=>?_)⟩
   .refine Kx ?_ _ (af.refl _);have:¬su z=su (cN "0"):=by simpa using c5
    have n1:¬(cs z).head?≠fo 48:=λh=>h (by rw[hd,e0.mp (qh c4)];rfl);rw[M8,qU n1,qU (λh=>this (e1.mpr h))];simp
   .have:su z=su (cN "0"):=by simpa using c5
    exact⟨cm,cm,GK,Mw,.inr (e1.mp this)⟩
  .refine M7 ⟨cm,cm,GK,Mw,.inl λh=>?_⟩;rw[hd] at h;exact c4 (qk (e0.mpr (bD h)))
 rintro _ _ ⟨rfl,rfl,l1,l10,hz⟩;have isn:(cs z).all (λc=>decide (48<=c)&&decide (c<=57))=true->A5 z=true:=λc3=>by
  rw[M8,qk (by rw[<-lz];exact l1),qk (show gu (cs z)<=10 by rw[<-lz];exact l10),c3];rcases hz with h|h
  .rw[qk h];rfl
  .rw[qk h];simp
 refine⟨λau H'=>au=[fo (.str z)]/\af H H'/\(cs z).all (λc=>decide (48<=c)&&decide (c<=57))=true,?_,?_⟩
 .refine⟨_,cm,z,cm,λp hp=>?_⟩;have sl:gu (R6 z)=gu (cs z):=aH _;refine Vg a7c hp (t9 eX) Y4 (λi x H' N hx e hN=>?_) ?_
  .unfold R6 at hx;rw[aP] at hx;obtain⟨c,hc,rfl⟩:=fL.mp hx;refine⟨_,cm,_,_,cm,cm,_,cm,?_⟩;rw[xO];exact hN
  .refine⟨aw,λel Fi=>?_⟩;have s2:=af.new Fi (.lst []);obtain⟨ds,d1,d2,d3,d4⟩:=a9O (K:=K) (H:=upd (upd H p (.lst ((R6 z).filter Y4))) el (.lst [])) (l:=(R6 z).filter Y4) (λv hv=>by
    obtain⟨hv,_⟩:=lI.mp hv;unfold R6 at hv;obtain⟨c,hc,rfl⟩:=aY.mp hv;exact⟨ch c,cm,λd hd=>by rw[Tx.vk] at hd;rw[cJ.mp hd];exact ha c hc⟩)
   refine⟨.list ds,.list [],.lst (ah.of (s2 _ _ ae)) d1,.lst (ah.of ae) .nil,by rw[fU];exact d2,cm,bF (sF _ _) (by rw[iY];lia),_,cm,?_⟩;rw[a9X,d4];have e3:=(af.new hp (.lst ((R6 z).filter Y4))).trans s2;by_cases c3:(cs z).all (λc=>decide (48<=c)&&decide (c<=57))=true
   .have:(R6 z).filter Y4=[]:=by
     rw[yB];intro v hv;unfold R6 at hv;obtain⟨c,hc,rfl⟩:=aY.mp hv;rw[show Y4 (su ⟨#[c]⟩)=Y4 (.str (ch c)) from rfl,a5a (ha c hc),fE.mp c3 c hc];decide
    rw[show((R6 z).filter Y4).isEmpty=true from by rw[this];rfl];exact M7 ⟨cm,e3,c3⟩
   .have:((R6 z).filter Y4).isEmpty=false:=by
     cases e:(R6 z).filter Y4 with
     |cons _ _=>rfl
     |nil =>
      refine absurd (fE.mpr λc hc=>?_) c3;have h0:=yB.mp e (.str (ch c)) (by unfold R6;exact aY.mpr ⟨c,hc,cm⟩);rw[a5a (ha c hc)] at h0;simpa using h0
    rw[this];refine J3 (Kx ?_ _ e3);rw[M8,eN.mpr c3];simp
 rintro _ H2 ⟨rfl,e,c3⟩;have dig:xP (cs z):=λc hc=>by
  have:=fE.mp c3 c hc;rw[fQ] at this;exact⟨qh this.1,qh this.2⟩
 have q2:=q H2 e;unfold w4 at q2;rw[qg (isn c3)] at q2;exact⟨_,cm,z,_,cm,xQ dig (λh=>by rw[show cs z=[] from h] at lz;simp at lz;lia) eX,eX,q2⟩
abbrev X9(x:S):List V:=((aU x (ch 44)).map w4).map HH
theorem a3Q(h:A6 x=fo ns):X9 x=ns.map sh:=by
 unfold X9;rw[K9 h,bC];rfl
theorem Fy(h:A6 x=fo ns):ns≠[]:=λz=>by
 subst z;have:=K9 h;exact Tx.r_ x 44 (rR.mp (by rw[this];rfl))
theorem b2H(h:A6 x=fo ns):∀n∈ns,0<=n:=λn hn=>by
 have:=K9 h;have hm:fo n∈(aU x (ch 44)).map w4:=by rw[this];exact aY.mpr ⟨n,hn,cm⟩
 obtain⟨y,_,e⟩:=aY.mp hm;exact Tx.yf e
def f1x(H:Hp)(v:V)(x:S):Prop:=s_ λt ns=>v=.ref t/\H t=fo (.tup (ns.map sh))/\A6 x=fo ns/\gu ns<=4/\∀n∈ns,n<=10^9
theorem f1D{z:S}{i:Nat}{x:S}(hx:(aU z (ch 62))[i]?=fo x)(h:∀ns,A6 x=fo ns->gu ns<=4->(∀n∈ns,n<=10^9)->False):D6 z=fO:=by
 unfold D6;generalize aU z (ch 62)=ps at *;have no:∀a b:List Int,A6 x=fo a\/A6 x=fo b->(A6 x=fo a->¬jg (a,b)):=λa b _ c d=>h a c d.1.2 λn hn=>(d.2.2.1.2 n hn).2;have Kx:∀a b:List Int,A6 x=fo b->¬jg (a,b):=λa b c d=>h b c d.2.1.2 λn hn=>(d.2.2.2.1.2 n hn).2;rcases ps with _|⟨p,_|⟨q,_|⟨u,r⟩⟩⟩
 .rfl
 .show(match [A6 p] with|[fo a,fo b]=>_|_=>fO)=fO;cases A6 p<;>rfl
 .show(match [A6 p,A6 q] with|[fo a,fo b]=>_|_=>fO)=fO;cases e1:A6 p with
  |none=>rfl
  |some a =>
   cases e2:A6 q with
   |none=>rfl
   |some b =>
    refine qf ?_;match i,hx with
    |0,hx=>cases hx;exact no a b (.inl e1) e1
    |1,hx=>cases hx;exact Kx a b e2
    |i+2,hx=>simp at hx
 .show(match A6 p::A6 q::A6 u::r.map A6 with|[fo a,fo b]=>_|_=>fO)=fO;cases A6 p<;>cases A6 q<;>rfl
section
variable{P:aM}{w:aL}{K:aF}{mg:aC->Option aE}{base:aJ}{f:aA}{fd:aK}{n:Nat}
abbrev f3d:List aC:=["word","sides","house","side","numbers"]
def u_:p7 f3d ["word"] (i9 Dr):=⟨cm,cm,cm,de,cm,de,de⟩
def f3g:(["one"]:List aC).Nodup:=fg
def f3z{fa:aA}{da:aK}(T:v8 mg)(C:C9 P w K mg base n "_law_a_number" ["word"] Z1 fa da)
  (hr:b_ n (A.deeper (cD "_law_a_house" (i9 Dr) s.heap.objs.size f ay))) :
  {t:TS//fu (N8 J8 P w K mg base f3d "_law_a_house" (i9 Dr) f ay A outer s H E).oi (x9 Dr) t} :=
 ⟨_,j0 (r6 (i:=1) u_.nd rfl (aI rfl) (K7 eP iW iX U4 (pv 0) (c6 l9 c7)))
  (t8 (w6 (l5 Ei (j7 j6 rfl T.len bB (c6 (pv 1) c7)) d0 (r9 _)) (j4 (o4 D5)) r8)
  (j0 (r6 (i:=2) u_.nd rfl (aI rfl) (v9 c7))
  (t8 (IF hO rfl (C6 (pv 1)) (j9 (i:=3) u_.nd rfl (aI rfl))
   (j0 (CA (i:=4) ["one"] [] u_.nd rfl rfl rfl (C6 (K7 eP iW iX U4 (pv 3) (c6 l9 c7))) (λ_ _ _ _=>j9 (i:=0) f3g rfl (aI rfl)) (λ_ _ _ _=>C.c hr (c6 (pv 0) c7)))
   (t8 (w6 (PW.pt (U0 (l5 Qj D5 (pv 4) rfl) (U0 (l5 Ej (j7 j6 rfl T.len bB (c6 (pv 4) c7)) d0 (r9 _)) (R9 (l5 Ej (j7 (Qq rfl) rfl T.max pF (c6 (pv 4) c7)) (j8 Qa d0 d0) (r9 _)))))) (j4 (o4 D5)) r8)
   (j4 (R3 (K7 iK jW jX P2 (pv 2) (c6 (v5 E7 rfl T.tuple hU (c6 (pv 4) c7)) c7)))))))
  (t8 (w6 (PW.pt (U0 (l5 EI (j7 (b0k rfl) rfl T.min mY (c6 (l8 j5 (pv 2) d0 (λ_ _=>rfl)) c7)) d0 (r9 _)) (R9 (l5 EI (j7 (Qq rfl) rfl T.max pF (c6 (l8 j5 (pv 2) d0 (λ_ _=>rfl)) c7)) d0 (r9 _))))) (j4 (o4 D5)) r8)
  (j4 (o4 (A9 (c6 (l8 j5 (pv 2) d0 (λ_ _=>rfl)) (c6 (l8 j5 (pv 2) d0 (λ_ _=>rfl)) c7)))))))))⟩
theorem f2T(F:Ay K "_law_a_house" Dr f fd)(T:v8 mg)(C:C9 P w K mg base n "_law_a_number" ["word"] Z1 fa da):bf P w K mg base J8 (n+1) f fd ["word"] (My K):=by
 refine F.oa u_ λay A outer s H vs Q E hr h=>?_;obtain⟨z,rfl,ha,hl,q0,q1⟩:=h;refine⟨_,(f3z T C hr).2,_,cm,cm,z,ch 62,cm,cm,dz,by rw[bE];lia,λl jl=>?_⟩;have s1:=af.new jl (.lst ((aU z (ch 62)).map su));have W5:=@f1D z;generalize Fj:aU z (ch 62)=ps at *;have pa:∀x∈ps,J6 x/\x.length<=100000:=λx hx=>by
  rw[<-Fj] at hx;exact⟨Tx.fj ha hx,bF (Q0 hx) hl⟩
 have Aw:(upd H l (.lst (ps.map su))) l=fo (.lst (ps.map su)):=ae;generalize upd H l (.lst (ps.map su))=H1 at *;have no:D6 z=fO->∀H',af H1 H'->Q .non H':=λc H' e=>q0 c _ (s1.trans e);refine⟨λau H'=>au=[fo (.str z),fo (.ref l),fO,fO,fO]/\H1=H'/\gu ps=2,?_,?_⟩
 .refine⟨_,cm,l,_,cm,.inl (ah.of Aw),cm,_,cm,?_⟩;have two:gu ps≠2->D6 z=fO:=λc=>by
   unfold D6;rw[Fj];rcases ps with _|⟨x,_|⟨y,_|⟨u,r⟩⟩⟩
   .rfl
   .show(match [A6 x] with|[fo a,fo b]=>_|_=>fO)=fO;cases A6 x<;>rfl
   .simp at c
   .show(match A6 x::A6 y::A6 u::r.map A6 with|[fo a,fo b]=>_|_=>fO)=fO;cases A6 x<;>cases A6 y<;>rfl
  rw[aH];refine y6 (λc=>?_) λc=>?_
  .refine no (two λh=>?_) _ (af.refl _);rw[h] at c;simp at c
  .refine⟨cm,cm,?_⟩;have:((gu ps:Nat):Int)=2:=by simpa using c
   lia
 rintro _ _ ⟨rfl,rfl,c2⟩;refine⟨dz,λsl je=>?_⟩;have s2:=af.new je (.lst []);have OX:(upd H1 sl (.lst [])) sl=fo (.lst []):=ae;have j_:=s2 _ _ Aw;generalize upd H1 sl (.lst [])=H2 at *;have OY:D6 z=fO->∀H',(∀b o,b≠sl->H2 b=fo o->H' b=fo o)->Q .non H':=λc H' e=>no c _ λb o h=>e b o (i7 h je) (s2 _ _ h);refine⟨λau H'=>tq λo3 ug vs=>au=[fo (.str z),fo (.ref l),fo (.ref sl),o3,ug]/\(∀b o,b≠sl->H2 b=fo o->H' b=fo o)/\H' sl=fo (.lst vs)/\bR (f1x H') vs ps,?_,?_⟩
 .refine⟨_,cm,l,cm,⟨_,ah.of j_⟩,?_⟩;refine Rv (xs:=ps.map su) (λi σ H'=>tq λo3 ug vs=>σ=[fo (.str z),fo (.ref l),fo (.ref sl),o3,ug]/\(∀b o,b≠sl->H2 b=fo o->H' b=fo o)/\H' sl=fo (.lst vs)/\gu vs=i/\bR (f1x H') vs (ps.take i))
   ⟨_,_,[],cm,λ_ _ _ h=>h,OX,cm,.nil⟩ (λi σ H' _ ⟨_,_,_,_,k,_⟩=>ah.of (k _ _ (i7 Aw je) j_)) ?_ ?_
  rotate_left
  .rintro σ H3 ⟨o3,ug,vs,rfl,k,h1,lv,hp⟩;rw[aH,wO] at hp;exact⟨_,_,vs,cm,k,h1,hp⟩
  rintro i xv σ H3 hxv ⟨o3,ug,vs,rfl,k,h1,lv,hp⟩;rw[aP] at hxv;obtain⟨x,hx,rfl⟩:=fL.mp hxv;obtain⟨ax,lx⟩:=pa x (bK hx);have few2:=J5 (z:=x) (c:=44);have XO:i<gu ps:=(cA.mp hx).1;refine⟨_,cm,cm,x,ch 44,cm,cm,dz,by rw[bE];lia,λl2 KA=>?_⟩;have s3:=af.new KA (.lst ((aU x (ch 44)).map su));refine⟨l2,cm,⟨_,ah.of ae⟩,λp oy=>(N5 (A3 (ah.of ae)) oy (by rw[aH,bE];lia) (λj y _=>∃u,(aU x (ch 44))[j]?=fo u/\y=HH (w4 u)) (λ_ _ _ _ r _=>r) (λj y H4 zs N hy e dy hN=>?_) (λzs H4 e dy len pr=>?_))⟩
  .rw[aP] at hy;obtain⟨u,hu,rfl⟩:=fL.mp hy;have hum:=bK hu;exact⟨Wk.set dz,_,cm,u,cm,Tx.fj ax hum,bF (Q0 hum) lx,λH5 e4=>hN _ _ e4 ⟨u,hu,cm⟩⟩
  have ez:zs=X9 x:=by
   rw[aH] at len;refine dR λj=>?_;by_cases hj:j<gu zs
   .obtain⟨h,hh,e1⟩:=pr j _ (aS hj);rw[aS hj,e1,aP,aP,hh];rfl
   .rw[bW eX,bW (by rw[aH,aH];lia)]
  rw[ez] at dy;have e3:=s3.trans e;have h4:=e3 _ _ h1;have k4:∀b o,b≠sl->H2 b=fo o->H4 b=fo o:=λb o hb h=>e3 _ _ (k b o hb h);have npsl:p≠sl:=(i7 (s3 _ _ h1) oy).symm;refine⟨λau H'=>∃ns,au=[fo (.str z),fo (.ref l),fo (.ref sl),fo (.str x),fo (.ref p)]/\H4=H'/\A6 x=fo ns/\gu ns<=4/\∀n∈ns,n<=10^9,?_,?_⟩
  .refine⟨_,cm,p,_,cm,.inl (ah.of dy),cm,a7N _,_,cm,?_⟩;rw[RS];cases yW:A6 x with
   |none =>
    rw[any_none.mpr yW];exact J3 (OY (W5 hx λns e=>by rw[yW] at e;cases e) _ k4)
   |some a =>
    have b1:((aU x (ch 44)).map w4).any (·.isNone)=false:=eN.mpr λh=>by rw[show A6 x=fO from any_none.mp h] at yW;cases yW
    rw[b1];rw[a3Q yW] at dy;refine M7 ⟨_,cm,p,_,cm,.inl (ah.of dy),_,_,cm,cm,_,cm,?_⟩;rw[aH];refine y6 (λc=>?_) (λc=>?_)
    .have c':¬gu a<=4:=by have:=qh c;lia
     exact J3 (OY (W5 hx λns e n4 _=>by rw[yW] at e;cases e;exact c' n4) _ k4)
    have c1:gu a<=4:=by have:=ql (eN.mpr c);lia
    refine⟨_,cm,p,a,cm,.inl (ah.of dy),Fy yW,λm hm hle=>⟨_,_,cm,cm,⟨dz,dz,dz⟩,_,_,cm,cm,_,cm,y6 (λc=>?_) (λc=>?_)⟩⟩
    .have c':(10:Int)^9<m:=qh c;exact OY (W5 hx λns e _ h9=>by rw[yW] at e;cases e;have:=h9 m hm;lia) _ k4
    .have c':¬(10:Int)^9<m:=ql (eN.mpr c);exact⟨a,cm,cm,cm,c1,λn hn=>by have:=hle n hn;lia⟩
  rintro _ _ ⟨ns,rfl,rfl,yW,c4,c9⟩;rw[a3Q yW] at dy;refine⟨_,cm,.inl ⟨cm,_,ah.of h4⟩,_,cm,p,_,cm,.inl ⟨ah.of dy,λt ht=>?_⟩⟩;have s5:=af.new ht (.tup (ns.map sh));refine⟨sl,vs,_,cm,cm,s5 _ _ h4,by rw[bE];lia,_,_,vs++[.ref t],cm,λb o hb h=>by rw[j3 hb];exact s5 _ _ (k4 b o hb h),ae,by rw[aX,lv];rfl,?_⟩;rw[rC,hx];refine aZ.app (aZ.imp' (λv y ⟨t',ns',e1,e2,e5⟩=>⟨t',ns',e1,by rw[j3 (J7 e2 h1 nofun)];exact s5 _ _ (e3 _ _ e2),e5⟩) hp) (.cons ⟨t,ns,cm,by rw[j3 (i7 h4 ht).symm];exact ae,yW,c4,c9⟩ .nil)
 intro Eg H4 cw;refine E8 λG_ cy=>?_;obtain⟨o3,ug,vs,rfl,k,h1,hp⟩:=cw;subst cy;obtain⟨x,y,rfl⟩:s_ λx y=>ps=[x,y]:=by
  match ps,c2 with
  |[x,y],_=>exact⟨x,y,cm⟩
 cases hp with
 |cons r1 hp =>
 cases hp with
 |cons r2 hp =>
 cases hp;obtain⟨a1,a,rfl,g1,hx,ca,na⟩:=r1;obtain⟨a2,b,rfl,g2,hy,cb,nb⟩:=r2;have eh:(jg (a,b)->D6 z=fo (a,b))/\(¬jg (a,b)->D6 z=fO):=by
  unfold D6;rw[Fj];show(_->(match [A6 x,A6 y] with|[fo a,fo b]=>_|_=>fO)=_)/\(_->(match [A6 x,A6 y] with|[fo a,fo b]=>_|_=>fO)=_);rw[hx,hy];exact⟨λc=>qg c,λc=>qf c⟩
 have no3:¬jg (a,b)->Q .non H4:=λc=>OY (eh.2 c) _ k;refine⟨λau H'=>au=[fo (.str z),fo (.ref l),fo (.ref sl),o3,ug]/\H4=H'/\(∀t∈a,1<=t)/\∃g∈b,1<=g,?_,?_⟩
 .refine⟨_,cm,sl,_,_,_,cm,cm,ah.of h1,cm,a1,a,cm,.inr (cq.of g1),Fy hx,λm hm hle=>⟨_,_,cm,cm,_,cm,y6 (λc=>?_) (λc=>?_)⟩⟩
  .exact J3 (no3 (λh=>by have:=(h.2.2.1.2 m hm).1;have:=qh c;lia))
  have c3:1<=m:=by have:=ql (eN.mpr c);lia
  refine⟨_,cm,sl,_,_,_,cm,cm,ah.of h1,cm,a2,b,cm,.inr (cq.of g2),Fy hy,λm2 DU XQ=>⟨_,_,cm,cm,_,cm,y6 (λc=>?_) (λc=>?_)⟩⟩
  .refine no3 (λh=>?_);obtain⟨g,hg,h0⟩:=h.2.2.2.2;have:=XQ g hg;have:=qh c;lia
  have c4:1<=m2:=by have:=ql (eN.mpr c);lia
  exact⟨cm,cm,λt ht=>by have:=hle t ht;lia,m2,DU,c4⟩
 rintro _ _ ⟨rfl,rfl,c3,gm,hgm,c4⟩;have l1a:1<=gu a:=by cases a with|nil=>exact absurd rfl (Fy hx)|cons _ _=>simp
 have l1b:1<=gu b:=by cases b with|nil=>exact absurd rfl (Fy hy)|cons _ _=>simp
 have yes:jg (a,b):=⟨⟨l1a,ca⟩,⟨l1b,cb⟩,⟨cm,λt ht=>⟨c3 t ht,na t ht⟩⟩,⟨cm,λt ht=>⟨b2H hy t ht,nb t ht⟩⟩,gm,hgm,eX⟩;refine⟨_,cm,sl,_,_,_,cm,cm,ah.of h1,cm,_,cm,sl,_,_,_,cm,cm,ah.of h1,cm,aw,λt ht=>?_⟩;have s6:=af.new ht (.tup [sy a1,sy a2]);exact q1 (a,b) (eh.1 yes) t a1 a2 _ (s1.trans λb o h=>s6 _ _ (k b o (i7 h je) (s2 _ _ h))) ae (s6 _ _ g1) (s6 _ _ g2)
end
end sC
namespace sC
open PySem L2 Fr
open Tx (S cs ch x6 J6)
def b9s:p7 ["house"] ["house"] (i9 F5):=⟨cm,cm,cm,de,cm,de,de⟩
def b6P:(["side"]:List aC).Nodup:=fg
def b7k:(["one"]:List aC).Nodup:=fg
inductive FC(K:aF)(vs:List V)(H:Hp)(Q:VK)(sH:XK):Prop|mk:∀b a ta ga h,vs=[.ref a]->cq K H a [.ref ta,.ref ga]->xt b K H ta (h.1.map sh)->xt b K H ga (h.2.map sh)->Sm h.1->Sm h.2->(∀H',af H H'->Q (.str (C2 h)) H')->FC K vs H Q sH
theorem f3A(F:Ay K "_law_written" F5 f fd)(zs:mg "str"=fO):bf P w K mg base J8 (n+1) f fd ["house"] (FC K):=by
 refine F.oa b9s λay A outer s H vs Q E hr h=>?_;obtain⟨b,a,ta,ga,h,rfl,h0,h1,h2,m1,m2,q⟩:=h;refine⟨_,j4 (o4 (K7 eP hZ iA W4 l9 (c6 (N6 ["side"] [] rfl (IE (pv 0)) (λ_ _ _ _=>j9 (i:=0) b6P rfl (aI rfl)) λ_ _ _ _=>bmK K rfl eP hZ iA (a9s K rfl) l9 (c6 (N6 ["one"] [] rfl (piB K rfl (pv 0)) (λ_ _ _ _=>j9 (i:=0) b7k rfl (aI rfl)) λ_ _ _ _=>v5 E5 rfl zs iB (c6 (pv 0) c7)) c7)) c7))),cm,_,cm,a,cm,⟨_,h0⟩,λp hp=>(IT (ts:=[G4 h.1,G4 h.2]) (U3 h0) hp rfl fg (λt ht=>?_) rfl (λi y t H2 N hy ht e hN=>?_) λH e=>?_)⟩
 .have a1:=Mq m1;have a2:=Mq m2;rcases bH.mp ht with rfl|ht
  .lia
  .rw[cJ.mp ht];lia
 .obtain⟨c,ns,rfl,hc,hm,rfl⟩:s_ λc ns=>y=.ref c/\xt b K H2 c (ns.map sh)/\Sm ns/\t=G4 ns:=by
   match i,hy,ht with
   |0,hy,ht=>cases hy;cases ht;exact⟨ta,h.1,cm,e.CG h1,m1,cm⟩
   |1,hy,ht=>cases hy;cases ht;exact⟨ga,h.2,cm,e.CG h2,m2,cm⟩
  refine⟨Wk.set dz,cm,b,?_⟩;cases b
  .exact⟨_,cm,c,cm,⟨_,hc⟩,λp hp=>DX (U3 hc) hp hm hN⟩
  .exact⟨_,cm,c,cm,⟨_,hc⟩,λp hp=>DX (A3 hc) hp hm hN⟩
 .rw[show cO ">" [G4 h.1,G4 h.2]=C2 h from(Yi h).symm];exact q H e
end sC
namespace sC
open PySem L2 Fr
open Tx (S cs ch x6 J6 A5 w4)
def f2z:p7 ["book"] ["book"] (i9 Xl):=⟨cm,cm,cm,de,cm,de,de⟩
def f2w:(["house"]:List aC).Nodup:=fg
theorem f1N(F:Ay K "_law_a_text" Xl f fd)(C:C9 P w K mg base n "_law_written" ["house"] (FC K) fa da):bf P w K mg base J8 (n+1) f fd ["book"] (AJ K):=by
 refine F.oa f2z λay A outer s H vs Q E hr h=>?_;obtain⟨a,xs,hs,rfl,hS,hB,hl,hm,q⟩:=h;exact⟨_,j4 (o4 (K7 eP hZ iA W4 l9 (c6 (N6 ["house"] [] rfl (C6 (pv 0)) (λ_ _ _ _=>j9 (i:=0) f2w rfl (aI rfl)) λ_ _ _ _=>C.c hr (c6 (pv 0) c7)) c7))),cm,_,cm,a,cm,⟨_,hS⟩,λp hp=>f2L hS hB hl hm hp (λy h H' N r m1 m2 hN=>by obtain⟨a,ta,ga,rfl,h0,h1,h2⟩:=r;exact⟨_,cm,false,a,ta,ga,h,cm,h0,h1,h2,m1,m2,hN⟩) q⟩
inductive Zt(K:aF)(vs:List V)(H:Hp)(Q:VK)(sH:XK):Prop|mk:∀a ns,vs=[.ref a]->ah K H a (ns.map sh)->Sm ns->(∀H',af H H'->Q (.str (G4 ns)) H')->Zt K vs H Q sH
def d2h:p7 ["numbers"] ["numbers"] (i9 t0):=⟨cm,cm,cm,de,cm,de,de⟩
def d2a:(["number"]:List aC).Nodup:=fg
theorem d1y(F:Ay K "_law_a_numbers" t0 f fd)(zs:mg "str"=fO):bf P w K mg base J8 (n+1) f fd ["numbers"] (Zt K):=by
 refine F.oa d2h λay A outer s H vs Q E hr h=>?_;obtain⟨a,ns,rfl,hS,hm,q⟩:=h;exact⟨_,j4 (o4 (K7 eP hZ iA W4 l9 (c6 (N6 ["number"] [] rfl (C6 (pv 0)) (λ_ _ _ _=>j9 (i:=0) d2a rfl (aI rfl)) λ_ _ _ _=>v5 E5 rfl zs iB (c6 (pv 0) c7)) c7))),cm,_,cm,a,cm,⟨_,hS⟩,λp hp=>DX (A3 hS) hp hm q⟩
end sC
namespace L2
open PySem
def Sl(o:Option HO):Prop:=∀u,o=fo u->(∀zs,u≠.tup zs)/\∀a b,u≠.Bw a b
structure zp(X:aA->Prop)(H H':Hp):Prop where
 k:∀b o,¬X b->H b=fo o->H' b=fo o
 m:∀x,X x->Sl (H x)
def zp.tup(e:zp X H H')(h:H a=fo (.tup xs)):H' a=fo (.tup xs):=e.k a _ (λx=>(e.m a x _ h).1 xs rfl) h
theorem zp.KD(e:zp X H H')(h:cq K H a xs):cq K H' a xs:=by
 rcases h with(h|⟨o,h⟩)|h
 .exact .inl (.inl (e.tup h))
 .exact .inl (.inr ⟨o,e.k a _ (λx=>(e.m a x _ h).2 _ _ rfl) h⟩)
 .exact .inr h
theorem S3(h:o=fo (.lst xs)):Sl o:=λu e=>by
 rw[h] at e;obtain rfl:=bD e;exact⟨λzs z=>HO.noConfusion z,λa b z=>HO.noConfusion z⟩
theorem Sn(h:o=fo (.ins C dx fs)):Sl o:=λu e=>by
 rw[h] at e;obtain rfl:=bD e;exact⟨λzs z=>HO.noConfusion z,λa b z=>HO.noConfusion z⟩
theorem Pd(T:cu P pos qual H):Sl (H P):=λu e=>by
 rcases T with t|⟨c,t,_⟩<;>(rw[t] at e;obtain rfl:=bD e;exact⟨λzs z=>HO.noConfusion z,λa b z=>HO.noConfusion z⟩)
end L2
namespace sC
open PySem L2 Fr
theorem HS.jw(e:zp X H H')(x:HS K H v h):HS K H' v h:=by
 obtain⟨a,t,g,h0,h1,h2,h3⟩:=x;exact⟨a,t,g,h0,e.KD h1,e.KD h2,e.KD h3⟩
def Bk.jw(e:zp X H H')(x:Bk K H vs hs):Bk K H' vs hs:=aZ.imp' (λ_ _ r=>HS.jw e r) x
abbrev KFs(kt kg:Nat)(z:aC)(ta wa pa:aA):List (aC×V):=[("many_takes",.int (kt:Int)),("many_gives",.int (kg:Int)),("sizes",.str z),("there",.ref ta),("worth",.ref wa),("past",.ref pa)]
structure TK(K:aF)(C:aA):Prop where
 cl:z_ K C
 nT:dg K C "many_takes"
 nG:dg K C "many_gives"
 nS:dg K C "sizes"
 nH:dg K C "there"
 nW:dg K C "worth"
 nP:dg K C "past"
abbrev So:=List i8×List Q2
def b6a(K:aF)(H:Hp)(lo:List aA)(ta wa:aA)(L:So):Prop:=ta∈lo/\wa∈lo/\(∃xs,H ta=fo (.lst xs)/\Bk K H xs L.1)/\∃ys,H wa=fo (.lst ys)/\bR (Ex H) ys L.2
def b7w(K:aF)(H:Hp)(lo:List aA):List V->List So->Prop:=bR λv L=>tq λt ta wa=>v=.ref t/\H t=fo (.tup [.ref ta,.ref wa])/\b6a K H lo ta wa L
structure c1O(K:aF)(C:aA)(H:Hp)(p:aA)(kt kg:Nat)(z:aC)(L:So)(past:List So)(pa:aA)(lo:List aA):Prop where
 no:pa ∉ lo
 ls:∀b∈lo,∃xs,H b=fo (.lst xs)
 ex:t_ λdx ta wa pv=>H p=fo (.ins C dx (KFs kt kg z ta wa pa))/\b6a K H lo ta wa L/\H pa=fo (.lst pv)/\b7w K H lo pv past
structure Fit(z:aC)(kt kg:Nat):Prop where
 z:O4 z
 t1:1<=kt
 t4:kt<=4
 g4:kg<=4
open Tx (S cs ch x6 J6 A5 w4)
abbrev DS:=List i8×Str
abbrev MH(ba:aA)(z:aC)(pa:aA):List (aC×V):=[("book",.ref ba),("sizes",.str z),("past",.ref pa)]
structure TD(K:aF)(C:aA):Prop where
 cl:z_ K C
 nB:dg K C "book"
 nS:dg K C "sizes"
 nP:dg K C "past"
def Ez(K:aF)(H:Hp)(b:aA)(hs:List i8):Prop:=∃xs,H b=fo (.lst xs)/\Bk K H xs hs
def sr(K:aF)(H:Hp)(lo:List aA):List V->List DS->Prop:=bR λv L=>s_ λt b=>v=.ref t/\H t=fo (.tup [.ref b,.str L.2])/\b∈lo/\Ez K H b L.1
structure e_(K:aF)(C:aA)(H:Hp)(p:aA)(L:DS)(past:List DS)(pa:aA)(lo:List aA):Prop where
 no:pa ∉ lo
 ls:∀b∈lo,∃xs,H b=fo (.lst xs)
 ex:tq λdx ba pv=>H p=fo (.ins C dx (MH ba L.2 pa))/\ba∈lo/\Ez K H ba L.1/\H pa=fo (.lst pv)/\sr K H lo pv past
theorem Ez.jw(e:zp X H H')(n:¬X b)(h:Ez K H b hs):Ez K H' b hs:=by
 obtain⟨xs,h1,h2⟩:=h;exact⟨xs,e.k _ _ n h1,h2.jw e⟩
def sr.jw{pv}(e:zp X H H')(n:∀b∈lo,¬X b)(s:∀b∈lo,b∈lo')(h:sr K H lo pv past):sr K H' lo' pv past :=
 aZ.imp' (λ_ _ ⟨t,b,h1,h2,h3,h4⟩=>⟨t,b,h1,e.tup h2,s _ h3,h4.jw e (n _ h3)⟩) h
theorem e_.jw(e:zp X H H')(n:∀b∈lo,¬X b)(np:¬X p)(na:¬X pa)(h:e_ K C H p L past pa lo):e_ K C H' p L past pa lo:=by
 obtain⟨dx,ba,pv,h1,h2,h3,h4,h5⟩:=h.ex;exact⟨h.no,λb hb=>by obtain⟨xs,q⟩:=h.ls b hb;exact⟨xs,e.k _ _ (n b hb) q⟩,dx,ba,pv,e.k _ _ np h1,h2,h3.jw e (n _ h2),e.k _ _ na h4,h5.jw e n λ_ h=>h⟩
def e_.same(e:af H H')(h:e_ K C H p L past pa lo):e_ K C H' p L past pa lo :=
 h.jw ⟨λb o _ q=>e b o q,λ_ x=>x.elim⟩ (λ_ _ x=>x) (λx=>x) λx=>x
def MI(p pa:aA)(H H':Hp):Prop:=∀b o,b≠p->b≠pa->H b=fo o->H' b=fo o
inductive Ym(K:aF)(C CT:aA)(vs:List V)(H:Hp)(Q:VK)(E:XK):Prop|mk:∀(p dx:aA)(z:S),vs=[.ref p,.str z]->H p=fo (.ins C dx [])->J6 z->z.length<=100000->(HJ z=fO->∀H',af H H'->E (.ref CT) fO H')->(∀hs,HJ z=fo hs->∀H' pa lo,e_ K C H' p (hs,"any") [] pa lo->(∀b o,b≠p->H b=fo o->H' b=fo o)->H pa=fO->(∀b∈lo,H b=fO)->Q .non H')->Ym K C CT vs H Q E
def b5k:p7 ["self","text"] ["self","text"] (i9 V3):=⟨cm,cm,cm,de,cm,de,de⟩
theorem b1n(F:df K "__init__" "Desk.__init__" V3 f fd)(T:TD K C)(Cb:vn P w K mg base n "read_book" ["text"] (Yc K CT) fa da):bf P w K mg base (W2 P w) (n+1) f fd ["self","text"] (Ym K C CT):=by
 refine F.ob b5k λay A outer s H vs Q E hr h=>?_;obtain⟨p,dx,z,rfl,hp,ha,hl,q0,q1⟩:=h;refine⟨_,j0 (GA (pv 0) (l7 Cb.ok hr rfl Cb.m Cb.k Cb.b .nil V5 (c6 (pv 1) c7)) rfl) (fu.oi (j0 (GA (pv 0) l9 rfl) (j4 (GA (pv 0) (v9 c7) rfl)))),_,cm,z,cm,ha,hl,q0,λhs er l xs H1 e1 CU Pe hB=>?_⟩;have Fm:=e1 _ _ hp;have npl:=J7 Fm Pe nofun;refine⟨_,cm,p,C,dx,_,cm,Fm,T.cl,T.nB,dz,_,cm,p,C,dx,_,cm,ae,T.cl,T.nS,(by show 1<1000;decide),?_⟩;rw[Ju];refine⟨dz,λpa jt=>?_⟩;have n1:=i7 ae jt;refine⟨_,cm,p,C,dx,_,cm,by rw[j3 n1];exact ae,T.cl,T.nP,(by show 2<1000;decide),?_⟩;have Fn:H1 pa=fO:=by rw[j3 n1.symm] at jt;exact jt
 have Yn:l≠pa:=λz0=>by rw[z0,Fn] at Pe;cases Pe
 have KG:=e1.free Fn;have kp:∀b o,b≠p->b≠pa->H1 b=fo o->upd (upd (upd H1 p (.ins C dx (Z6 "sizes" (.str "any") (Z6 "book" (.ref l) [])))) pa (.lst [])) p (.ins C dx (MH l "any" pa)) b=fo o:=λb o h1 h2 h=>by
  rw[j3 h1,j3 h2,j3 h1];exact h
 have fr:zp (λb=>b=p\/b=pa) H1 (upd (upd (upd H1 p (.ins C dx (Z6 "sizes" (.str "any") (Z6 "book" (.ref l) [])))) pa (.lst [])) p (.ins C dx (MH l "any" pa))):=⟨λb o h1 h2=>kp b o (λz0=>h1 (.inl z0)) (λz0=>h1 (.inr z0)) h2,λx hx=>by
  rcases hx with rfl|rfl
  .exact Sn Fm
  .intro u hu;rw[Fn] at hu;cases hu⟩
 refine q1 hs er _ pa [l] ⟨λh=>Yn (cJ.mp h).symm,λb hb=>?_,dx,l,[],ae,.head _,⟨xs,kp _ _ npl.symm Yn Pe,hB.jw fr⟩,?_,.nil⟩ (λb o hb h=>kp _ _ hb (i7 h KG) (e1 _ _ h)) KG λb hb=>?_
 .rw[cJ.mp hb];exact⟨xs,kp _ _ npl.symm Yn Pe⟩
 .rw[j3 n1.symm,ae]
 .rw[cJ.mp hb];exact CU
theorem a7R{α:Type}{l:List α}(h:gu l=k+1):s_ λl' x=>l=l'++[x]/\gu l'=k:=by
 rcases yH l with e|⟨l',x,e⟩
 .subst e;simp at h
 .rw[yI] at e;subst e;exact⟨l',x,cm,by simpa using h⟩
theorem Yw:∀{l}{m}{x}{y:β},bR F (l++[x]) (m++[y])->bR F l m/\F x y
 |[],[],_,_,.cons r _=>⟨.nil,r⟩
 |a::l,b::m,_,_,.cons r t=>by
  obtain⟨h1,h2⟩:=Yw t;exact⟨.cons r h1,h2⟩
 |[],b::m,_,_,h=>by
  have:=dE h;simp at this
 |a::l,[],_,_,h=>by
  have:=dE h;simp at this
inductive MJ(K:aF)(C CL:aA)(vs:List V)(H:Hp)(Q:VK)(E:XK):Prop|mk:∀p pa L past lo,vs=[.ref p]->e_ K C H p L past pa lo->(past=[]->∀H',af H H'->E (.ref CL) fO H')->(∀yt L0,past=yt++[L0]->∀H',e_ K C H' p L0 yt pa lo->MI p pa H H'->Q (.str "ok") H')->MJ K C CL vs H Q E
def b5M:p7 ["self"] ["self"] (i9 S5):=⟨cm,cm,cm,de,cm,de,de⟩
theorem b3E(F:df K "take_back" "Desk.take_back" S5 f fd)(T:TD K C)(kL:X4 K CL)(mL:mg "NothingLeft"=fo (.ref CL)):bf P w K mg base (W2 P w) (n+1) f fd ["self"] (MJ K C CL):=by
 refine F.ob b5M λay A outer s H vs Q E hr h=>?_;obtain⟨p,pa,L,past,lo,rfl,DK,q0,q1⟩:=h;refine⟨_,j0 (w6 (S6 (RM (y4 (pv 0) rfl) λ_=>rfl)) (j4 (T7 kL rfl mL hr.hd (c6 l9 c7))) r8)
  (fu.oi (j0 (D3 (b7P iK yJ yK b7F (y4 (pv 0) rfl)) (K4 rfl (p6 (Si (pv 0)) (p6 (Si (pv 0)) A4))))
  (j4 (o4 l9)))),?_⟩
 obtain⟨dx,ba,GS,hp,ym,BW,jt,Fj⟩:=DK.ex;have Br:=dE Fj;refine⟨_,cm,p,C,dx,_,_,cm,hp,T.cl,T.nP,cm,_,⟨_,_,cm,ah.of jt,cm⟩,?_⟩;rcases yH past with e|⟨yt,L0,e⟩
 .subst e;have:GS=[]:=lM (by simpa using Br);subst this;exact J3 ⟨dz,q0 rfl H (af.refl _)⟩
 .rw[yI] at e;subst e;obtain⟨KH,v,rfl,l1⟩:=a7R (k:=gu yt) (by rw[Br];simp);obtain⟨Yo,t,b0,rfl,ht,Eu,hk0⟩:=Yw Fj;have ne0:(!(KH++[sy t]).isEmpty)=true:=fg;rw[ne0];refine M7 ?_;have gl:(KH++[sy t])[gu (KH++[sy t])-1]?=fo (sy t):=fg;refine⟨_,cm,p,C,dx,_,_,cm,hp,T.cl,T.nP,cm,.inl ⟨cm,_,ah.of jt⟩,pa,_,_,cm,cm,jt,gl,?_⟩;have Pf:=J7 hp jt nofun;refine⟨t,_,cm,cq.of (by rw[j3 (J7 ht jt nofun)];exact ht),cm,_,_,cm,_,cm,p,C,dx,_,cm,by rw[j3 Pf];exact hp,T.cl,T.nB,(by show 3<1000;decide),_,_,cm,⟨_,cm,p,C,dx,_,cm,ae,T.cl,T.nS,(by show 3<1000;decide),cm,?_⟩⟩;rw[Ju];have ed:(KH++[sy t]).dropLast=KH:=fg;rw[ed];have fr:zp (λb=>b=p\/b=pa) H (upd (upd H pa (.lst KH)) p (.ins C dx (MH b0 L0.2 pa))):=⟨λb o h1 h2=>by
   rw[j3 (λz0=>h1 (.inl z0)),j3 (λz0=>h1 (.inr z0))];exact h2,λx hx=>by
   rcases hx with rfl|rfl
   .exact Sn hp
   .exact S3 jt⟩
  have Er:∀b∈lo,¬(b=p\/b=pa):=λb hb z0=>by
   obtain⟨xs,hx⟩:=DK.ls b hb;rcases z0 with rfl|rfl
   .rw[hp] at hx;cases hx
   .exact DK.no hb
  refine q1 yt L0 rfl _ ⟨DK.no,λb hb=>?_,dx,b0,KH,ae,Eu,hk0.jw fr (Er _ Eu),by rw[j3 Pf.symm,ae],sr.jw fr Er (λ_ h=>h) Yo⟩ λb o h1 h2 h=>fr.k _ _ (λz0=>z0.elim h1 h2) h
  .obtain⟨xs,hx⟩:=DK.ls b hb;exact⟨xs,fr.k _ _ (Er b hb) hx⟩
structure Yp(P:aM)(w:aL)(K:aF)(mg:aC->Option aE)(base:aJ)(CX:ze)(n:Nat)(C:aA)(m:aC)(ps:List aC)(sp:Sp)(f:aA)(fd:aK):Prop where
 ok:bf P w K mg base CX n f fd ps sp
 bd:Binds K fd ps []
 me:Ly K C m f
section
variable{P:aM}{w:aL}{K:aF}{mg:aC->Option aE}{base:aJ}{f C CL CR dA dD:aA}{fd:aK}{n:Nat}{kA kD:List (aC×Addr)}
def Yq(P:aM)(w:aL)(K:aF)(mg:aC->Option aE)(base:aJ)(n:Nat)(g:aA)(sp:Sp):Prop:=∃gd,bf P w K mg base (W2 P w) n g gd ["book","sizes","things"] sp/\Binds K gd ["book","sizes","things"] []/\dX K (.ref g)=true
inductive Yr(K:aF)(C CL CR:aA)(kA kD:List (aC×Addr))(FA:aA->Sp->Prop)(vs:List V)(H:Hp)(Q:VK)(E:XK):Prop|mk:∀(p pa:aA)(z:S)(L:DS)(past:List DS)(lo:List aA),vs=[.ref p,.str z]->e_ K C H p L past pa lo->gu past<=1000->J6 z->z.length<=100000->(O2 z=fO->∀H',af H H'->E (.ref CR) fO H')->(∀wd ts,O2 z=fo (wd,ts)->∀l us ba H1,af H H1->H1 l=fo (.lst us)->bR (Pc K H1) us ts->ba∈lo->Ez K H1 ba L.1 → (∀g,kA.lookup wd=fo g->∃sp,FA g sp/\sp [.ref ba,.str L.2,.ref l] H1 Q E) ∧ (kA.lookup wd=fO->∀g,kD.lookup wd=fo g->∃sp,FA g sp/\∀Q',(∀v H2,(y_ λt an b' z' dt=>v=.ref t/\H2 t=fo (.tup [.str an,.ref b',.str z'])/\af H1 H2/\Ez K H2 b' dt/\b'≠pa/\∀H' lo',e_ K C H' p (dt,z') (past++[L]) pa lo'->(∀b∈lo',b=b'\/b∈lo)->MI p pa H2 H'->Q (.str an) H')->Q' v H2)->sp [.ref ba,.str L.2,.ref l] H1 Q' E) ∧ (kA.lookup wd=fO->kD.lookup wd=fO->MJ K C CL [.ref p] H1 Q E))->Yr K C CL CR kA kD FA vs H Q E
def pf:p7 ["self","row","word","things","ask","deed","answer","book","sizes"] ["self","row"] (i9 S4):=⟨cm,cm,cm,de,cm,de,de⟩
def c1c{f1 f2:aA}{d1 d2:aK}{FA:aA->Sp->Prop}(T:TD K C)(TA:KTab K w.params mg "ASKS" dA kA)(BX:KTab K w.params mg "DEEDS" dD kD)(Cr:vn P w K mg base n "read_row" ["row"] (Yf K CR) f1 d1)(Ct:Yp P w K mg base (W2 P w) n C "take_back" ["self"] (MJ K C CL) f2 d2)(Sr:∀g sp,FA g sp->Yq P w K mg base n g sp)
  (hr:b_ n (A.deeper (cD "Desk.say" (i9 S4) s.heap.objs.size f ay))) :
  {t:TS//fu (N8 (W2 P w) P w K mg base ["self","row","word","things","ask","deed","answer","book","sizes"] "Desk.say" (i9 S4) f ay A outer s H E) (x9 S4) t} :=
 ⟨_,j0 (D3 (l7 Cr.ok hr rfl Cr.m Cr.k Cr.b .nil V5 (c6 (pv 1) c7)) (K4 rfl (p6 (j9 (i:=2) pf.nd rfl (aI rfl)) (p6 (j9 (i:=3) pf.nd rfl (aI rfl)) A4))))
  (j0 (w6 (l5 (b3k K w.params rfl rfl) (pv 2) (C4 (v:=.ref dA) rfl TA.m rfl) rfl)
   (j0 (r6 (i:=4) pf.nd rfl (aI rfl) (l8 (Kq K w.params rfl rfl) (C4 (v:=.ref dA) rfl TA.m rfl) (pv 2) (λ_ _=>rfl)))
   (j4 (o4 (a7L (F:=FA) (E:=E) (λg sp h=>let ⟨gd,h1,h2,h3⟩:=Sr g sp h;⟨W2 P w,n,gd,_,h1,hr,h3,h2,V5⟩) (pv 4) (c6 (y4 (pv 0) rfl) (c6 (y4 (pv 0) rfl) (c6 (pv 3) c7))))))) r8)
  (j0 (w6 (l5 (b3k K w.params rfl rfl) (pv 2) (C4 (v:=.ref dD) rfl BX.m rfl) rfl)
   (j0 (r6 (i:=5) pf.nd rfl (aI rfl) (l8 (Kq K w.params rfl rfl) (C4 (v:=.ref dD) rfl BX.m rfl) (pv 2) (λ_ _=>rfl)))
   (j0 (D3 (a7L (F:=FA) (E:=E) (λg sp h=>let ⟨gd,h1,h2,h3⟩:=Sr g sp h;⟨W2 P w,n,gd,_,h1,hr,h3,h2,V5⟩) (pv 5) (c6 (y4 (pv 0) rfl) (c6 (y4 (pv 0) rfl) (c6 (pv 3) c7)))) (K4 rfl (p6 (j9 (i:=6) pf.nd rfl (aI rfl)) (p6 (j9 (i:=7) pf.nd rfl (aI rfl)) (p6 (j9 (i:=8) pf.nd rfl (aI rfl)) A4)))))
   (fu.oi (j0 (R3 (K7 iK jW jX P2 (y4 (pv 0) rfl) (c6 (A9 (c6 (y4 (pv 0) rfl) (c6 (y4 (pv 0) rfl) c7))) c7)))
   (j0 (D3 (A9 (c6 (pv 7) (c6 (pv 8) c7))) (K4 rfl (p6 (Si (pv 0)) (p6 (Si (pv 0)) A4))))
   (j4 (o4 (pv 6)))))))) r8)
  (j4 (o4 (M' (pv 0) T.cl Ct.me Ct.ok hr Ct.bd .nil V5)))))⟩
theorem b6S(F:df K "say" "Desk.say" S4 f fd)(T:TD K C)(TA:KTab K w.params mg "ASKS" dA kA)(BX:KTab K w.params mg "DEEDS" dD kD)(Cr:vn P w K mg base n "read_row" ["row"] (Yf K CR) f1 d1)(Ct:Yp P w K mg base (W2 P w) n C "take_back" ["self"] (MJ K C CL) f2 d2)(Sr:∀g sp,FA g sp->Yq P w K mg base n g sp) :
  bf P w K mg base (W2 P w) (n+1) f fd ["self","row"] (Yr K C CL CR kA kD FA):=by
 refine F.ob pf λay A outer s H vs Q E hr h=>?_;obtain⟨p,pa,z,L,past,lo,rfl,DK,wb,ha,hl,q0,q1⟩:=h;refine⟨_,(c1c T TA BX Cr Ct Sr hr).2,_,cm,z,cm,ha,hl,q0,λwd ts er t l us H1 e1 ht Jm Ph=>?_⟩;have DK1:=DK.same e1;obtain⟨dx,ba,GS,hp,ym,BW,jt,Fj⟩:=DK1.ex;obtain⟨qa,qd,qb⟩:=q1 wd ts er l us ba H1 e1 Jm Ph ym BW;refine⟨t,_,cm,cq.of ht,cm,_,_,cm,_,_,cm,cm,_,cm,dA,wd,_,cm,cm,TA.k,TA.ns wd,TA.sys,_,cm,?_⟩;cases hA:kA.lookup wd with
 |some g =>
  obtain⟨sp,hg,iu⟩:=qa g hA;exact J3 ⟨_,cm,dA,wd,g,cm,cm,TA.k,by rw[TA.ns wd,hA];rfl,_,cm,g,sp,cm,hg,_,cm,p,C,dx,_,_,cm,hp,T.cl,T.nB,cm,_,cm,p,C,dx,_,_,cm,hp,T.cl,T.nS,cm,_,cm,iu⟩
 |none =>
  refine M7 ⟨_,cm,dD,wd,_,cm,cm,BX.k,BX.ns wd,BX.sys,_,cm,?_⟩;cases hD:kD.lookup wd with
  |none =>
   exact M7 ⟨_,cm,p,dx,_,cm,hp,cm,qb hA hD⟩
  |some g =>
   obtain⟨sp,hg,iu⟩:=qd hA g hD;refine J3 ⟨_,cm,dD,wd,g,cm,cm,BX.k,by rw[BX.ns wd,hD];rfl,_,cm,g,sp,cm,hg,_,cm,p,C,dx,_,_,cm,hp,T.cl,T.nB,cm,_,cm,p,C,dx,_,_,cm,hp,T.cl,T.nS,cm,_,cm,iu _ ?_⟩;rintro v H2 ⟨t2,an,b',z',dt,rfl,Kj,e2,Ys,nb,qq⟩;have oy:=e2 _ _ hp;have Fo:=e2 _ _ jt;have Pf:=J7 oy Fo nofun;have pl:gu GS=gu past:=dE Fj;refine⟨t2,_,cm,cq.of Kj,cm,_,_,cm,_,_,cm,_,_,cm,cm,_,cm,p,C,dx,_,_,cm,oy,T.cl,T.nP,cm,.inl ⟨cm,_,ah.of Fo⟩,_,cm,p,C,dx,_,_,cm,oy,T.cl,T.nB,cm,_,cm,p,C,dx,_,_,cm,oy,T.cl,T.nS,cm,aw,λtt Pj=>?_⟩;have s3:=af.new Pj (.tup [sy ba,su L.2]);have KI:=s3 _ _ Fo;have Di:=s3 _ _ oy;refine⟨pa,GS,_,cm,cm,KI,by rw[bE];lia,?_⟩;have KJ:(upd H2 tt (.tup [sy ba,su L.2])) tt=fo (.tup [sy ba,su L.2]):=ae;generalize upd H2 tt (.tup [sy ba,su L.2])=H3 at *;have Rc:tt≠pa:=J7 KJ KI nofun;have nttp:tt≠p:=J7 KJ Di nofun;refine⟨_,cm,_,cm,aw,λt5 Ss=>?_⟩;have Mc:(upd H3 pa (.lst (GS++[sy tt]))) p=fo (.ins C dx (MH ba L.2 pa)):=by rw[j3 Pf];exact Di
   have n5a:pa≠t5:=i7 ae Ss;refine⟨t5,_,cm,cq.of ae,cm,_,_,cm,⟨_,cm,p,C,dx,_,cm,by rw[j3 (i7 Mc Ss)];exact Mc,T.cl,T.nB,(by show 3<1000;decide),_,_,cm,⟨_,cm,p,C,dx,_,cm,ae,T.cl,T.nS,(by show 3<1000;decide),cm,?_⟩⟩⟩;rw[Ju];have h5:H3 t5=fO:=by rw[j3 n5a.symm] at Ss;exact Ss
   have fr:zp (λb=>b=p\/b=pa) H3 (upd (upd (upd H3 pa (.lst (GS++[sy tt]))) t5 (.tup [sy b',su z'])) p (.ins C dx (MH b' z' pa))):=⟨λb o h1 h2=>by
    rw[j3 (λz0=>h1 (.inl z0)),j3 (i7 h2 h5),j3 (λz0=>h1 (.inr z0))];exact h2,λx hx=>by
    rcases hx with rfl|rfl
    .exact Sn Di
    .exact S3 KI⟩
   have GR:=e2.trans s3;have Su:=DK1.same GR;have Er:∀b∈lo,¬(b=p\/b=pa):=λb hb z0=>by
    obtain⟨xs,hx⟩:=Su.ls b hb;rcases z0 with rfl|rfl
    .rw[Di] at hx;cases hx
    .exact Su.no hb
   obtain⟨Ho,f',Yt⟩:=Ys;have Sv:=s3 _ _ f';have nb':¬(b'=p\/b'=pa):=λz0=>by
    rcases z0 with rfl|z0
    .rw[Di] at Sv;cases Sv
    .exact nb z0
   refine⟨_,cm,qq _ (b'::lo) ⟨λh=>?_,λb hb=>?_,dx,b',GS++[sy tt],ae,.head _,⟨Ho,fr.k _ _ nb' Sv,(Bk.same s3 Yt).jw fr⟩,by rw[j3 Pf.symm,j3 n5a,ae],?_⟩ (λb hb=>bH.mp hb) λb o h1 h2 h=>fr.k _ _ (λz0=>z0.elim h1 h2) (s3 _ _ h)⟩
   .rcases bH.mp h with h|h
    .exact nb h.symm
    .exact Su.no h
   .rcases bH.mp hb with rfl|hb
    .exact⟨Ho,fr.k _ _ nb' Sv⟩
    .obtain⟨xs,hx⟩:=Su.ls b hb;exact⟨xs,fr.k _ _ (Er b hb) hx⟩
   .refine aZ.app (sr.jw fr Er (λ_ h=>bZ _ h) (aZ.imp' (λ_ _ ⟨t,b,h1,h2,h3,h4⟩=>⟨t,b,h1,GR _ _ h2,h3,h4.jw (X:=λ_=>False) ⟨λb o _ q=>GR b o q,λ_ x=>x.elim⟩ λx=>x⟩) Fj)) (.cons ⟨tt,ba,cm,fr.tup KJ,bZ _ ym,(BW.jw (X:=λ_=>False) ⟨λb o _ q=>GR b o q,λ_ x=>x.elim⟩ λx=>x).jw fr (Er _ ym)⟩ .nil)
end
theorem Sw(g:HG far kt kg h)(hf:far<=10^9)(h1:kt<=4)(h2:kg<=4):Sm h.1/\Sm h.2 :=
 ⟨⟨by rw[g.lt];lia,λx hx=>by have:=g.t x hx;lia⟩,by rw[g.lg];lia,λx hx=>by have:=g.g x hx;lia⟩
abbrev Z5:List aC:=["book","sizes","things"]
inductive Jt(K:aF)(vs:List V)(H:Hp)(Q:VK)(sH:XK):Prop|mk:∀ba v1 v2 xs hs,vs=[.ref ba,v1,v2]->ah K H ba xs->Bk K H xs hs->gu hs<=100->(∀h∈hs,Sm h.1/\Sm h.2)->(∀H',af H H'->Q (.str (Ey hs)) H')->Jt K vs H Q sH
def b5I:p7 Z5 Z5 (i9 V'):=⟨cm,cm,cm,de,cm,de,de⟩
theorem b2j{f1:aA}{d1:aK}(F:Ay K "tell_book" V' f fd)(Cb:C9 P w K mg base n "book_text" ["book"] (AJ K) f1 d1):bf P w K mg base (W2 P w) (n+1) f fd Z5 (Jt K):=by
 refine F.ob b5I λay A outer s H vs Q E hr h=>?_;obtain⟨ba,v1,v2,xs,hs,rfl,hS,hB,hl,hm,q⟩:=h;refine⟨_,j4 (o4 (Cb.c hr (c6 (pv 0) c7))),?_⟩;exact⟨_,cm,ba,xs,hs,cm,hS,hB,hl,hm,λH' e=>q H' e⟩
abbrev b9p:List aC:=["book","sizes","things","takes","gives"]
def Pl{k:Nat}(h:k<=1000):(k:Int).natAbs.log2<1920:=b5j dj
inductive Yx(K:aF)(CB CT:aA)(vs:List V)(H:Hp)(Q:VK)(E:XK):Prop|mk:∀ba l xs us hs z v h kt kg,vs=[.ref ba,.str z,.ref l]->H ba=fo (.lst xs)->Bk K H xs hs->1<=gu hs->gu hs<=16->(∀g∈hs,gu g.1=kt/\gu g.2=kg)->kt<=4->kg<=4->H l=fo (.lst us)->us[0]?=fo v->HS K H v h->OV h->(ef h kt kg->gu hs<16->∀t r H',af H H'->H r=fO->H' t=fo (.tup [.str (x6 (gu hs:Int)),.ref r,.str z])->H' r=fo (.lst (xs++[v]))->Q (.ref t) H')->(¬ef h kt kg->∀H',af H H'->E (.ref CB) fO H')->(ef h kt kg->16<=gu hs->∀H',af H H'->E (.ref CT) fO H')->Yx K CB CT vs H Q E
def Fq:p7 b9p Z5 (i9 Wa):=⟨cm,cm,cm,de,cm,de,de⟩
theorem b6K(F:Ay K "put_house" Wa f fd)(T:v8 mg)(zs:mg "str"=fO)(Cm:vn P w K mg base n "with_one_more" ["houses","house","many_takes","many_gives"] (X5 K CB CT) f1 d1):bf P w K mg base (W2 P w) (n+1) f fd Z5 (Yx K CB CT):=by
 refine F.ob Fq λay A outer s H vs Q E hr h=>?_;obtain⟨ba,l,xs,us,hs,z,v,h,kt,kg,rfl,ym,hB,h1,XN,hk,k4,g4,hl,h0,hv,dt,q,qB,qT⟩:=h;refine⟨_,j0 (D3 (l8 j5 (pv 0) d0 λ_ _=>rfl) (K4 rfl (p6 (j9 (i:=3) Fq.nd rfl (aI rfl)) (p6 (j9 (i:=4) Fq.nd rfl (aI rfl)) A4))))
  (j4 (o4 (A9 (c6 (v5 E5 rfl zs iB (c6 (j7 j6 rfl T.len bB (c6 (pv 0) c7)) c7)) (c6 (l7 Cm.ok hr rfl Cm.m Cm.k Cm.b .nil V5 (c6 (pv 0) (c6 (l8 j5 (pv 2) d0 λ_ _=>rfl) (c6 (j7 j6 rfl T.len bB (c6 (pv 3) c7)) (c6 (j7 j6 rfl T.len bB (c6 (pv 4) c7)) c7))))) (c6 (pv 1) c7)))))),?_⟩
 have xl:=dE hB;obtain⟨g0,DZ⟩:∃g,hs[0]?=fo g:=⟨_,aS dj⟩;obtain⟨x0,Hl⟩:∃x,xs[0]?=fo x:=⟨_,aS dj⟩;obtain⟨g0',Pn,b,tb,gb,rfl,p1,p2,p3⟩:=aZ.at hB Hl;rw[DZ] at Pn;cases Pn;obtain⟨e1,e2⟩:=hk g0 (bK DZ);have l1:(gu (g0.1.map sh):Int)=(kt:Int):=by rw[aH,e1]
 have l2:(gu (g0.2.map sh):Int)=(kg:Int):=by rw[aH,e2]
 refine⟨_,cm,ba,_,_,_,cm,cm,ah.of ym,A2 Hl,b,_,cm,p1,cm,_,_,cm,_,_,cm,cm,_,cm,ba,_,cm,.inl (ah.of ym),_,cm,Pl dj,_,cm,_,cm,l,_,_,_,cm,cm,ah.of hl,A2 h0,_,cm,tb,_,cm,.inr p2,_,cm,gb,_,cm,.inr p3,?_⟩;rw[l1,l2];refine⟨ba,v,xs,h,(kt:Int),(kg:Int),cm,ym,dj,hv,dt,Pl eX,Pl eX,λg lt r H1 e BO GN=>⟨_,cm,aw,λt ht=>?_⟩,qB,λg ge H' e=>qT g eX H' e⟩;have t1:=af.new ht (.tup [su (x6 (gu xs:Int)),sy r,su z]);refine q g eX t r _ (e.trans t1) BO ?_ (t1 _ _ GN);rw[<-xl];exact ae
inductive YC(K:aF)(CN CB:aA)(vs:List V)(H:Hp)(Q:VK)(E:XK):Prop|mk:∀(ba l:aA)(xs us:List V)(z:aC)(num:Int),vs=[.ref ba,.str z,.ref l]->H ba=fo (.lst xs)->gu xs<=1000->H l=fo (.lst us)->us[0]?=fo (.int num)->num.natAbs.log2<1920->(∀i:Nat,num=(i:Int)->i<gu xs->2<=gu xs->∀t r H',af H H'->H r=fO->H' t=fo (.tup [.str "ok",.ref r,.str z])->H' r=fo (.lst (S8 xs i))->Q (.ref t) H')->(¬AA (gu xs) num->∀H',af H H'->E (.ref CN) fO H')->(AA (gu xs) num->gu xs=1->∀H',af H H'->E (.ref CB) fO H')->YC K CN CB vs H Q E
def Fs:p7 ["book","sizes","things","left"] Z5 (i9 Wb):=⟨cm,cm,cm,de,cm,de,de⟩
theorem a3o(h:i<gu l):gu (S8 l i)=gu l-1:=by
 unfold S8;rw[aX,cI,eJ];lia
theorem b4r(F:Ay K "drop_house" Wb f fd)(kB:X4 K CB)(mB:mg "NoBook"=fo (.ref CB))(Cw:vn P w K mg base n "without" ["houses","number"] (XG K CN) f1 d1):bf P w K mg base (W2 P w) (n+1) f fd Z5 (YC K CN CB):=by
 refine F.ob Fs λay A outer s H vs Q E hr h=>?_;obtain⟨ba,l,xs,us,z,num,rfl,ym,hx,hl,h0,lm,q,qN,qB⟩:=h;refine⟨_,j0 (r6 (i:=3) Fs.nd rfl (aI rfl) (l7 Cw.ok hr rfl Cw.m Cw.k Cw.b .nil V5 (c6 (pv 0) (c6 (l8 j5 (pv 2) d0 λ_ _=>rfl) c7))))
  (j0 (w6 (S6 (RM (pv 3) λ_=>rfl)) (j4 (T7 kB rfl mB hr.hd (c6 l9 c7))) r8)
  (j4 (o4 (A9 (c6 l9 (c6 (pv 3) (c6 (pv 1) c7))))))),?_⟩
 refine⟨_,cm,_,cm,l,_,_,_,cm,cm,ah.of hl,A2 h0,ba,xs,num,cm,ah.of ym,hx,lm,λi r H1 hi nj e1 BO GN=>?_,λW5=>qN W5 H (af.refl _)⟩;subst hi;have ll:=a3o nj;refine⟨_,cm,_,⟨_,_,cm,ah.of GN,cm⟩,?_⟩;by_cases c:2<=gu xs
 .have:(!(S8 xs i).isEmpty)=true:=by
   cases e:S8 xs i with
   |nil=>rw[e] at ll;simp at ll;lia
   |cons _ _=>rfl
  rw[this];refine M7 ⟨_,cm,_,cm,aw,λt ht=>?_⟩;have t1:=af.new ht (.tup [su "ok",sy r,su z]);exact q i rfl nj c t r _ (e1.trans t1) BO ae (t1 _ _ GN)
 .have:(!(S8 xs i).isEmpty)=false:=by
   have:S8 xs i=[]:=lM eX;rw[this];rfl
  rw[this];exact J3 ⟨(by show 1<=1000;decide),qB ⟨eX,eX⟩ eX _ e1⟩
inductive YE(K:aF)(CN CB:aA)(vs:List V)(H:Hp)(Q:VK)(E:XK):Prop|mk:∀(ba l:aA)(xs us:List V)(hs:List i8)(z:aC)(num:Int)(v:V)(h:i8)(kt kg:Nat),vs=[.ref ba,.str z,.ref l]->H ba=fo (.lst xs)->Bk K H xs hs->1<=gu hs->gu hs<=16->(∀g∈hs,gu g.1=kt/\gu g.2=kg)->kt<=4->kg<=4->H l=fo (.lst us)->us[0]?=fo (.int num)->num.natAbs.log2<1920->us[1]?=fo v->HS K H v h->OV h->(∀i:Nat,num=(i:Int)->i<gu xs->ef h kt kg->∀t r H',af H H'->H r=fO->H' t=fo (.tup [.str "ok",.ref r,.str z])->H' r=fo (.lst ((xs.take i++[v])++xs.drop (i+1)))->Q (.ref t) H')->(¬AA (gu xs) num->∀H',af H H'->E (.ref CN) fO H')->(AA (gu xs) num->¬ef h kt kg->∀H',af H H'->E (.ref CB) fO H')->YE K CN CB vs H Q E
def WE:p7 b9p Z5 (i9 R1):=⟨cm,cm,cm,de,cm,de,de⟩
theorem c9G(F:Ay K "alter_house" R1 f fd)(T:v8 mg)(Ca:vn P w K mg base n "with_another" ["houses","number","house","many_takes","many_gives"] (X_ K CN CB) f1 d1):bf P w K mg base (W2 P w) (n+1) f fd Z5 (YE K CN CB):=by
 refine F.ob WE λay A outer s H vs Q E hr h=>?_;obtain⟨ba,l,xs,us,hs,z,num,v,h,kt,kg,rfl,ym,hB,h1,XN,hk,k4,g4,hl,h0,lm,Yg,hv,dt,q,qN,qB⟩:=h;refine⟨_,j0 (D3 (l8 j5 (pv 0) d0 λ_ _=>rfl) (K4 rfl (p6 (j9 (i:=3) WE.nd rfl (aI rfl)) (p6 (j9 (i:=4) WE.nd rfl (aI rfl)) A4))))
  (j4 (o4 (A9 (c6 l9 (c6 (l7 Ca.ok hr rfl Ca.m Ca.k Ca.b .nil V5 (c6 (pv 0) (c6 (l8 j5 (pv 2) d0 (λ_ _=>rfl)) (c6 (l8 j5 (pv 2) d0 (λ_ _=>rfl)) (c6 (j7 j6 rfl T.len bB (c6 (pv 3) c7)) (c6 (j7 j6 rfl T.len bB (c6 (pv 4) c7)) c7)))))) (c6 (pv 1) c7)))))),?_⟩
 have xl:gu xs=gu hs:=dE hB;obtain⟨g0,DZ⟩:∃g,hs[0]?=fo g:=⟨_,aS eX⟩;obtain⟨x0,Hl⟩:∃x,xs[0]?=fo x:=⟨_,aS eX⟩;obtain⟨g0',Pn,⟨b,tb,gb,rfl,p1,p2,p3⟩⟩:=aZ.at hB Hl;rw[DZ] at Pn;cases Pn;obtain⟨e1,e2⟩:=hk g0 (bK DZ);have l1:(gu (g0.1.map sh):Int)=(kt:Int):=by rw[aH,e1]
 have l2:(gu (g0.2.map sh):Int)=(kg:Int):=by rw[aH,e2]
 refine⟨_,cm,ba,_,_,_,cm,cm,ah.of ym,A2 Hl,b,_,cm,p1,cm,_,_,cm,_,_,cm,cm,_,cm,_,cm,l,_,_,_,cm,cm,ah.of hl,A2 (j:=0) h0,_,cm,l,_,_,_,cm,cm,ah.of hl,A2 (j:=1) Yg,_,cm,tb,_,cm,.inr p2,_,cm,gb,_,cm,.inr p3,?_⟩;rw[l1,l2];refine⟨ba,v,xs,h,num,(kt:Int),(kg:Int),cm,ym,eX,hv,dt,lm,Pl eX,Pl eX,λi hi lt g r H1 e BO GN=>⟨_,cm,aw,λt ht=>?_⟩,qN,qB⟩;have t1:=af.new ht (.tup [su "ok",sy r,su z]);exact q i hi lt g t r _ (e.trans t1) BO ae (t1 _ _ GN)
inductive YF(K:aF)(vs:List V)(H:Hp)(Q:VK)(sH:XK):Prop|mk:∀(v:V)(z:aC)(l:aA)(us:List V)(z':S),vs=[v,.str z,.ref l]->H l=fo (.lst us)->us[0]?=fo (.str z')->(∀t H',af H H'->H' t=fo (.tup [.str "ok",v,.str z'])->Q (.ref t) H')->YF K vs H Q sH
def b8e:p7 Z5 Z5 (i9 Wc):=⟨cm,cm,cm,de,cm,de,de⟩
theorem b4N(F:Ay K "set_sizes" Wc f fd):bf P w K mg base (W2 P w) (n+1) f fd Z5 (YF K):=by
 refine F.ob b8e λay A outer s H vs Q E hr h=>?_;obtain⟨v,z,l,us,z',rfl,hl,h0,q⟩:=h;exact⟨_,j4 (o4 (A9 (c6 l9 (c6 (pv 0) (c6 (l8 j5 (pv 2) d0 λ_ _=>rfl) c7))))),_,cm,_,cm,l,_,_,_,cm,cm,ah.of hl,A2 h0,aw,λt ht=>(q t _ (af.new ht _) ae)⟩
def Kn(K:aF)(cE cB cH cR cT cM cL:aA)(Q:VK)(c:aE)(H':Hp):Prop:=yM λca b1 b2 b3 b4 b5=>∃b6,c=.ref ca/\EB K ca cE cB cH cR cT cM cL b1 b2 b3 b4 b5 b6/\∀r k2 H2,af H' H2->H2 r=fo (.tup [.non,.ref k2])->H2 k2=fo (.lst (MK b1 b2 b3 b4 b5 b6))->Q (.ref r) H2
inductive YA(K:aF)(C CL CR cE cB cH cR cT cM cL:aA)(kA kD:List (aC×Addr))(FA:aA->Sp->Prop)(vs:List V)(H:Hp)(Q:VK)(sH:XK):Prop|mk:∀(p dx:aA)(fs:List (aC×V))(z:S),vs=[.ref p,.str z]->H p=fo (.ins C dx fs)->fs.lookup ("say":aC)=fO->(∀kl,H kl=fO->∀Q1 E1,(∀v H',(∀r,H' r=fO->Q (.ref r) (upd H' r (.tup [v,.ref kl])))->Q1 v H')->(∀c H',Kn K cE cB cH cR cT cM cL Q c H'->E1 c fO H') → Yr K C CL CR kA kD FA [.ref p,.str z] (upd H kl (.lst [])) Q1 E1)->YA K C CL CR cE cB cH cR cT cM cL kA kD FA vs H Q sH
def nk:p7 ["desk","row","found","kin","e"] ["desk","row"] (i9 Wg):=⟨cm,cm,cm,de,cm,de,de⟩
theorem b4V{CR}{cE}{cR}{cL}(F:Ay K "_law_said" Wg f fd)(T:TD K C)(R:Yy K mg cE cB cH cR cT cM cL)
  (Cs:Yp P w K mg base (W2 P w) n C "say" ["self","row"] (Yr K C CL CR kA kD FA) f1 d1) (Ck:c0C P w K mg base n "_law_a_kin" ["e"] (Zu K cE cB cH cR cT cM cL) fc dc) :
  bf P w K mg base J8 (n+1) f fd ["desk","row"] (YA K C CL CR cE cB cH cR cT cM cL kA kD FA):=by
 refine F.oa nk λay A outer s H vs Q E hr h=>?_;obtain⟨p,dx,fs,z,rfl,hp,JW,hc⟩:=h;refine⟨_,j0 (r6 (i:=2) nk.nd rfl (aI rfl) D5)
  (j0 (r6 (i:=3) nk.nd rfl (aI rfl) (v9 c7))
  (j0 (b7M (i:=4) R.kE nk.nd rfl rfl rfl rfl R.mE
   (λEX pn WE hx=>j4 (r6 (i:=2) nk.nd rfl (aI rfl) (b3H (pv 0) T.cl Cs.me Cs.ok hr Cs.bd hx (c6 (pv 1) c7))))
   (λea=>j4 (r6 (i:=3) nk.nd rfl (aI rfl) (b3l Ck.ok (hr.u _) rfl Ck.m Ck.k Ck.b (c6 (pv 4) c7)))))
  (j4 (o4 (A9 (c6 (pv 2) (c6 (pv 3) c7))))))),?_⟩
 refine⟨aw,λkl iw=>?_⟩;have GG:=hc kl iw;have Fm:=(af.new iw (.lst [])) _ _ hp;generalize upd H kl (.lst [])=H1 at *;refine⟨λau c _ H'=>au=[fo (.ref p),fo (.str z),fo .non,fo (.ref kl),fO]/\Kn K cE cB cH cR cT cM cL Q c H',?_,?_⟩
 rotate_left
 .rintro au H' c ea d' ⟨rfl,ca,b1,b2,b3,b4,b5,b6,hk,M,q⟩ hea Da hC;cases hC;cases hk;refine⟨M.k,M.sub,_,cm,ea,_,_,_,_,_,_,_,cm,ae,M,λr2 H3 e3 MB=>⟨_,cm,_,cm,aw,λrt YB=>?_⟩⟩;have s4:=af.new YB (.tup [V.non,sy r2]);exact q rt r2 _ ((af.new hea _).trans (e3.trans s4)) ae (s4 _ _ MB)
 .refine⟨_,cm,p,dx,_,cm,Fm,JW,_,cm,?_⟩;unfold yb;dsimp only;refine GG _ _ ?_ ?_
  rotate_left
  .intro c H' hk;exact⟨cm,hk⟩
  intro v H' q;exact⟨_,cm,_,cm,aw,λrt YB=>q rt YB⟩
end sC
namespace L2
open PySem
def il(yQ P2_:aA)(H H':Hp):Prop:=∀b o,b≠yQ->b≠P2_->H b=fo o->H' b=fo o
def il.trans(a:il yQ P2_ H H1)(b:il yQ P2_ H1 H2):il yQ P2_ H H2:=λc o n m h=>b c o n m (a c o n m h)
def bj.to2(e:bj yQ H H'):il yQ P2_ H H':=λb o n _ h=>e b o n h
def bj.Ec(e:bj P2_ H H'):il yQ P2_ H H':=λb o _ n h=>e b o n h
def af.to2(e:af H H'):il yQ P2_ H H':=λb o _ _ h=>e b o h
theorem cu.other(T1:cu yQ p1 q1 H)(T2:cu P2_ p2 q2 H)(ne:P2_≠yQ)(e:bj yQ H H'):cu P2_ p2 q2 H':=by
 rcases T2 with t|⟨c,t,u⟩
 .exact .inl (e _ _ ne t)
 .exact .inr ⟨c,e _ _ ne t,e.get T1 u nofun⟩
end L2
namespace sC
open PySem L2 Fr
abbrev d2R:aC:=("standing"++".<locals>.")++"<lambda>"
abbrev nv(P2_:aA)(H:Hp):Prop:=cu P2_ d1Z d2R H
theorem xn:∀fs:List Q2,(∀f∈fs,0<f.2/\f.2<2^8000)->∃D,0<D/\fh (8000*gu fs+1) D/\∀f∈fs,f.2∣D
 |[],_=>⟨1,dz,(by decide:(1:Nat)<2^1),nofun⟩
 |f::r,h=>by
  obtain⟨D,d,b,k⟩:=xn r λg hg=>h g (.tail _ hg);obtain⟨p,l⟩:=h f (.head _);refine⟨f.2*D,gJ p d,?_,λg hg=>?_⟩
  .unfold fh at *;rw[rV,eM,(dj:8000*(gu r+1)+1=8000+(8000*gu r+1)),xF];exact Nat.mul_lt_mul'' (XC (cC p) l) b
  .rcases bH.mp hg with rfl|hg
   .exact Int.dvd_mul_right ..
   .exact Int.dvd_mul_of_dvd_right (k g hg)
def uc(z:aC)(hs:List i8)(kt kg:Nat)(i:Nat)(o:Option Q2):Prop:=∃h,hs[i]?=fo h/\((s_ λA B=>uz z (S8 hs i) h kt kg A B/\o=fo (low A B))\/(o=fO/\ik z (S8 hs i) h kt kg))
def Os(z:aC)(hs:List i8)(kt kg:Nat)(os:List (Option Q2)):Prop:=gu os=gu hs/\∀i o,os[i]?=fo o->uc z hs kt kg i o
theorem uc.eq(hz:O4 z)(hG:∀g∈hs,HG far kt kg g)(x:uc z hs kt kg i o)(y:uc z hs kt kg i o'):o=o':=by
 obtain⟨h,hh,a⟩:=x;obtain⟨h',Kp,b⟩:=y;rw[hh] at Kp;cases Kp;have hGo:∀g∈S8 hs i,HG far kt kg g:=λg hg=>hG g (XF hg);rcases a with⟨A,B,s,rfl⟩|⟨rfl,N⟩<;>rcases b with⟨A',B',s',rfl⟩|⟨rfl,N'⟩
 .rw[s.fr s']
 .exact(N'.not s).elim
 .exact(N.not s').elim
 .rfl
theorem Os.eq{os}(hz:O4 z)(hG:∀g∈hs,HG far kt kg g)(x:Os z hs kt kg os)(y:Os z hs kt kg Ic):os=Ic:=by
 exact Tl (x.1.trans y.1.symm) λi h1 h2=>((x.2 i _ (aS h1)).eq hz hG (y.2 i _ (aS h2)))
def KQ(x y:Option Q2)(a b:Int):Prop:=match x,y with
 |none,fO=>a<b
 |none,fo _=>True
 |some _,fO=>False
 |some p,fo q=>q.1*p.2<p.1*q.2\/(p=q/\a<b)
abbrev zI(os:List (Option Q2))(a:Int):Option Q2:=os.getD a.toNat fO
def YW(os:List (Option Q2))(a b:Int):Prop:=KQ (zI os a) (zI os b) a b
theorem c9X(h:KQ x y a b)(h':KQ y x b a):False:=by
 cases x<;>cases y<;>simp only[KQ] at h h'
 .lia
 .rcases h with h|⟨rfl,h⟩<;>rcases h' with h'|⟨e,h'⟩
  .lia
  .subst e;lia
  .lia
  .lia
def DR(os:List (Option Q2))(ns:List Int):Prop:=ns.Perm ((aW (gu os)).map λ(i:Nat)=>(i:Int))/\ns.Pairwise (YW os)
def DR.eq{os}(x:DR os ns)(y:DR os ns'):ns=ns' :=
 List.Perm.eq_of_pairwise (λa b _ _ p q=>(c9X p q).elim) x.2 y.2 (x.1.trans y.1.symm)
def c9Z(hB:0<B):low (low A B).1 (low A B).2=low A B:=b1V (Im hB) hB (DQ hB)
theorem d2s{os}(hL:0<L)(hc:∀q,fo q∈os->0<q.2/\q.2∣L/\low q.1 q.2=q)
  (hg:∀m∈[a,b],g m=match zI os m with|none=>(false,0)|some q=>(true,-(q.1*(L/q.2)))) (h:vc (vx g a) (vx g b)=true):YW os a b:=by
 have ga:=hg a (.head _);have gb:=hg b (.tail _ (.head _));have mem:∀{m:Int}{q:Q2},zI os m=fo q->fo q∈os:=λ{m q}e=>by
  unfold zI at e;rw[bA] at e;cases r:os[m.toNat]? with
  |none=>rw[r] at e;cases e
  |some o=>rw[r] at e;have e':=e;subst e';exact bK r
 rw[Kv] at h;unfold YW;unfold vx at h;rw[ga,gb] at h;generalize ex:zI os a=x at *;generalize ey:zI os b=y at *;cases x with
 |none =>
  cases y with
  |none =>
   simp at h;exact h
  |some q=>exact trivial
 |some p =>
  cases y with
  |none=>simp at h
  |some q =>
   obtain⟨p1,⟨c,GG⟩,p3⟩:=hc p (mem ex);obtain⟨q1,⟨d,hd1⟩,q3⟩:=hc q (mem ey);have ec:L/p.2=c:=by rw[GG];exact wI c dj
   have ed:L/q.2=d:=by rw[hd1];exact wI d dj
   simp only[ec,ed] at h;have c0:0<c:=by
    rcases Int.lt_or_le 0 c with z|z
    .exact z
    .have:=eO (cC p1) (dj:0 <= -c);rw[fT] at this;lia
   have d0_:0<d:=by
    rcases Int.lt_or_le 0 d with z|z
    .exact z
    .have:=eO (cC q1) (dj:0 <= -d);rw[fT] at this;lia
   have E1:(p.1*c)*(p.2*q.2)=(p.1*q.2)*L:=by rw[GG];ac_rfl
   have E2_:(q.1*d)*(p.2*q.2)=(q.1*p.2)*L:=by rw[hd1];ac_rfl
   rcases h with⟨z,_⟩|⟨_,h|⟨h1,h2⟩⟩
   .cases z
   .left;have h':q.1*d<p.1*c:=eX;have:=Int.mul_lt_mul_of_pos_right h' (gJ p1 q1);rw[E1,E2_] at this;exact Int.lt_of_mul_lt_mul_right this (cC hL)
   .right;refine⟨?_,h2⟩;have h':p.1*c=q.1*d:=dj;have:(p.1*q.2)*L=(q.1*p.2)*L:=by rw[<-E1,<-E2_,h']
    have:=rW eX this;rw[<-p3,<-q3];exact b1V p1 q1 this
structure YX(K:aF)(mg:aC->Option aE)(o:aA):Prop where
 m:mg "NOUGHT"=fo (.ref o)
 s:∀H,cq K H o [.int 0,.int 1]
section
variable{P:aM}{w:aL}{K:aF}{mg:aC->Option aE}{base:aJ}{f Pt P2_ c CN wt:aA}{fd:aK}{n:Nat}
inductive KR(K:aF)(Pt P2_:aA)(vs:List V)(H:Hp)(Q:VK)(sH:XK):Prop|mk:∀ba xs hs z far kt kg,vs=[.ref ba,.str z]->O4 z->O6 K H ba xs hs far kt kg->gu hs<=16->1<=kt->LT Pt H->nv P2_ H->P2_≠Pt->(∀os ns l H',Os z hs kt kg os->DR os ns->il Pt P2_ H H'->LT Pt H'->nv P2_ H'->H l=fO->H' l=fo (.lst (ns.map sh))->Q (.ref l) H')->KR K Pt P2_ vs H Q sH
def xf:p7 ["book","sizes","told","tops","bottom"] ["book","sizes"] (i9 t7):=⟨cm,cm,cm,de,cm,de,de⟩
def d2e:(["number","book","sizes"]:List aC).Nodup:=dz
def d2l:(["one"]:List aC).Nodup:=fg
def d2W{f1 f2:aA}{d1 d2:aK}(CH:oV base c P2_)(BM:QO mg base)(T:v8 mg)(N:YX K mg wt)
  (Co:vn P w K mg base n "share_of_others" ["book","number","sizes"] (Jl K CN Pt) f1 d1) (Cv:CZ P w K mg base n "over_one_bottom" ["ones"] (mL K) f2 d2) (hr:b_ (n+3) (A.deeper (cD "standing" (i9 t7) s.heap.objs.size f (.ref c)))) :
  {t:TS//fu (N8 J8 P w K mg base ["book","sizes","told","tops","bottom"] "standing" (i9 t7) f (.ref c) A outer s H E).oi (x9 t7) t} :=
 ⟨_,j0 (r6 (i:=2) xf.nd rfl (fY rfl) (N6 ["number"] [0,1] rfl (R8 rfl T.range (c6 (j7 j6 rfl T.len bB (c6 (pv 0) c7)) c7)) (λ_ _ _ _=>j9 (i:=0) d2e rfl (aI rfl))
   (λ_ _ _ _=>l7 Co.ok (hr.mono eX) rfl Co.m Co.k Co.b .nil RA (c6 (pv 1) (c6 (pv 0) (c6 (pv 2) c7))))))
  (j0 (D3 (l7 Cv.ok (hr.mono eX) rfl Cv.m Cv.k Cv.b .nil v6 (c6 (N6 ["one"] [] rfl (C6 (pv 2)) (λ_ _ _ _=>j9 (i:=0) d2l rfl (aI rfl))
    (λ_ _ _ _=>MT (l5 Lv (pv 0) D5 (r9 _)) (C4 (v:=.ref wt) rfl N.m rfl) (pv 0))) c7)) (K4 rfl (p6 (j9 (i:=3) xf.nd rfl (fY rfl)) (p6 (j9 (i:=4) xf.nd rfl (aI rfl)) A4))))
  (j4 (o4 (c8Q (col:="number") (fr:=[2,3]) (c:=c) (P:=P2_) rfl (hr.mono eX) rfl T.so rfl CH BM rfl rfl de rfl rfl rfl (λ_ _ _ _=>rfl)
   (c6 (v5 U' rfl T.range xD (c6 (j7 j6 rfl T.len bB (c6 (pv 0) c7)) c7)) c7)
   (λ_ _ _ _=>A9 (c6 (Z3 Ry (l8 (Wn K rfl) (pv 1) (pv 0) (λ_ _=>rfl)) D5 (r9 _)) (c6 (Eh V2 (l8 (Wn K rfl) (pv 2) (pv 0) (λ_ _=>rfl))) (c6 (pv 0) c7)))))))) ⟩
end
def KU(H:Hp)(v:V)(o:Option Q2):Prop:=match o with|none=>v=.non|some q=>Ex H v q
def toF(o:Option Q2):Q2:=o.getD (0,1)
theorem uc.fr(x:uc z hs kt kg i o):fh 20000 (toF o).1/\0<(toF o).2/\(toF o).2<2^8000/\∀q,o=fo q->low q.1 q.2=q:=by
 obtain⟨h,_,⟨A,B,s,rfl⟩|⟨rfl,_⟩⟩:=x
 .exact⟨d1w s.b s.a,Im s.b,pI (b7R s.b) s.c,λq e=>by cases e;exact c9Z s.b⟩
 .exact⟨by unfold fh;decide,dz,dz,nofun⟩
theorem c8K(F:Ay K "standing" t7 f fd)(vm:fd.code=.ref c)(CH:oV base c P2_)(BM:QO mg base)(T:v8 mg)(N:YX K mg wt)
  (Co:vn P w K mg base n "share_of_others" ["book","number","sizes"] (Jl K CN Pt) f1 d1) (Cv:CZ P w K mg base n "over_one_bottom" ["ones"] (mL K) f2 d2) :
  bf P w K mg base J8 (n+4) f fd ["book","sizes"] (KR K Pt P2_):=by
 refine F.okC vm xf (λvs H Q E h=>?_) λA outer s H vs Q E hr h=>?_
 .obtain⟨ba,xs,hs,z,far,kt,kg,rfl,_⟩:=h;rfl
 obtain⟨ba,xs,hs,z,far,kt,kg,rfl,hz,B,XN,ij,L,M,ne,q⟩:=h;refine⟨_,(d2W CH BM T N Co Cv hr).2,?_⟩;have xl:gu xs=gu hs:=dE B.b;have small:=t9 (dj:gu xs<=1000);have bin:∀{H':Hp},bj Pt H H'->O6 K H' ba xs hs far kt kg:=λe=>⟨ah.fg L e B.l,Bk.fg L e B.b,B.g,B.far,B.few,B.t,B.k⟩;refine⟨_,cm,ba,_,cm,.inl B.l,_,cm,dj,dj,λp hp=>(c9B (P:=Pt) (pos:=b6I) (qual:=c0q) L hp small (λi y H'=>∃o,uc z hs kt kg i o/\KU H' y o) (λi y H1 H2 L1 ⟨zs,Wy⟩ ⟨o,x,r⟩ k=>⟨o,x,?_⟩) (λi H1 ys N' hi e1 L1 Fm hN=>?_) (λys H1 e1 L1 Fm len pr=>?_))⟩
 .cases o with
  |none=>exact r
  |some q =>
   obtain⟨a,rfl,ha⟩:=r;exact⟨a,cm,k _ _ (J7 ha Wy nofun) (L1.ne ha nofun) ha⟩
 .refine⟨_,cm,_,cm,_,cm,ba,xs,hs,(i:Int),z,far,kt,kg,cm,hz,bin e1,ij,b5j eX,L1,λi' h' A' B' H7 u' Ek Kp X'_ e7 YZ hu'=>?_,λi' h' H7 Ek Kp N e7 YZ=>?_,λW5=>absurd ⟨eX,eX⟩ W5⟩
  .have:i'=i:=eX;subst this;exact hN _ _ e7 YZ ⟨fo (low A' B'),⟨h',Kp,.inl ⟨A',B',X'_,cm⟩⟩,hu'⟩
  .have:i'=i:=eX;subst this;exact hN _ _ e7 YZ ⟨fO,⟨h',Kp,.inr ⟨cm,N⟩⟩,cm⟩
 obtain⟨os,Ed,Y2⟩:∃os:List (Option Q2),gu os=gu ys/\∀i y o,ys[i]?=fo y->os[i]?=fo o->uc z hs kt kg i o/\KU H1 y o:=by
  have:∀m,m<=gu ys->∃os:List (Option Q2),gu os=m/\∀i y o,ys[i]?=fo y->os[i]?=fo o->uc z hs kt kg i o/\KU H1 y o:=by
   intro m;induction m with
   |zero=>exact λ_=>⟨[],cm,λi y o _ e=>by simp at e⟩
   |succ m ih =>
    intro hm;obtain⟨os,l,k⟩:=ih eX;obtain⟨o,x,r⟩:=pr m _ (aS (eX:m<gu ys));refine⟨os++[o],by simp[l],λi y o' hy ho=>?_⟩;by_cases hi:i<gu os
    .rw[dH hi] at ho;exact k i y o' hy ho
    .rw[dU eX] at ho;have Xt:i-gu os=0:=by
      cases q:i-gu os with
      |zero=>rfl
      |succ k=>rw[q] at ho;simp at ho
     rw[Xt] at ho;have:i=m:=eX;subst this;simp at ho;subst ho;rw[aS (eX:i<gu ys)] at hy;cases hy;exact⟨x,r⟩
  exact this _ (aT _)
 have Y6:Os z hs kt kg os:=⟨eX,λi o ho=>(Y2 i _ o (aS (show i<gu ys by rw[<-Ed];exact(cA.mp ho).1)) ho).1⟩;refine⟨_,cm,p,cm,⟨_,ah.of Fm⟩,λp2 oy=>(O9 (A3 (ah.of Fm)) oy (by rw[len];exact small) (λy=>if y=.non then .ref wt else y) (λi y H2 N' hy e2 hN=>?_) ?_)⟩
 .refine⟨Wk.set dz,_,cm,cm,_,cm,?_⟩;by_cases hn:y=.non
  .subst hn;exact J3 hN
  .rw[qf hn] at hN;rw[qU hn];exact M7 ⟨_,cm,hN⟩
 have s2:=af.new oy (.lst (ys.map λy=>if y=.non then .ref wt else y));have pF_:bR (λy f=>Xc K (upd H1 p2 (.lst (ys.map λy=>if y=.non then .ref wt else y))) y f) (ys.map λy=>if y=.non then .ref wt else y) (os.map toF):=by
  have gen:∀(as:List V)(bs:List (Option Q2)),gu bs=gu as->(∀(i:Nat)y o,as[i]?=fo y->bs[i]?=fo o->KU H1 y o)->bR (λy f=>Xc K (upd H1 p2 (.lst (ys.map λy=>if y=.non then .ref wt else y))) y f) (as.map λy=>if y=.non then .ref wt else y) (bs.map toF):=by
   intro as;induction as with
   |nil=>intro bs hl _;rw[lM hl];exact .nil
   |cons a as ih =>
    intro bs hl k;cases bs with
    |nil=>simp at hl
    |cons b bs =>
     refine .cons ?_ (ih bs (by simpa using hl) λi y o h1 h2=>k (i+1) y o (by simpa using h1) (by simpa using h2));have r:=k 0 a b rfl rfl;cases b with
     |none =>
      have r':a=.non:=r;subst r';exact⟨wt,cm,N.s _⟩
     |some q =>
      obtain⟨t,rfl,ht⟩:=r;exact⟨t,cm,cq.of (s2 _ _ ht)⟩
  exact gen ys os Ed λi y o h1 h2=>(Y2 i y o h1 h2).2
 have mR:∀f∈os.map toF,fh 20000 f.1/\0<f.2/\f.2<2^8000:=λfq hf=>by
  obtain⟨o,ho,rfl⟩:=aY.mp hf;obtain⟨i,hi⟩:=iL ho;obtain⟨a1,a2,a3,_⟩:=(Y6.2 i o hi).fr;exact⟨a1,a2,a3⟩
 obtain⟨D,hD,bD_,dD⟩:=xn (os.map toF) λf hf=>(mR f hf).2;refine⟨p2,_,os.map toF,D,cm,ah.of ae,pF_,by rw[aH];lia,λf hf=>⟨(mR f hf).1,(mR f hf).2.1,(mR f hf).2.2,dD f hf⟩,hD,bD_.mono (by rw[aH];lia),λr tl H2 EC e2 MB Hz hLb _ Ea=>?_⟩;have Oy:=s2.trans e2;refine⟨r,_,cm,cq.of MB,cm,_,_,cm,_,_,cm,cm,?_⟩;have Y_:bj Pt H H2:=e1.trans Oy.ka;refine⟨_,cm,ba,_,cm,.inl (bin Y_).l,_,cm,λY' Za=>?_⟩;have s3:=af.new Za (.zt 0 (gu xs:Int));have L3:=(L1.same Oy).same s3;have E9:=((L.other M ne e1).same Oy).same s3;refine⟨Y',gu xs,λm=>match zI os m with|none=>(false,0)|some q=>(true,-(q.1*(EC/q.2))),rfl,ae,eX,E9,λH3 e3 M4_=>⟨λH4 e4 m hm=>?_,λH4 l ns e4 hl Od S=>?_⟩⟩
 .obtain⟨i,hi,rfl⟩:=aY.mp hm;have Ek:i<gu ys:=by rw[len];exact fF.mp hi
  obtain⟨y,hy⟩:∃y,ys[i]?=fo y:=⟨_,aS Ek⟩;obtain⟨o,ho⟩:∃o,os[i]?=fo o:=⟨_,aS eX⟩;have eo:zI os (i:Int)=o:=by show os.getD (Int.toNat (i:Int)) fO=o;rw[cF,bA,ho];rfl
  have g3:((os.map toF).map λf=>sh (f.1*(EC/f.2)))[i]?=fo (sh ((toF o).1*(EC/(toF o).2))):=by rw[aP,aP,ho];rfl
  have r:=(Y2 i y o hy ho).2;refine⟨_,cm,_,cm,p,_,_,_,cm,cm,ah.of (e4 _ _ (e3.get E9 (s3 _ _ (Oy _ _ Fm)) nofun)),A2 hy,cm,_,cm,_,cm,tl,_,_,_,cm,cm,ah.of (e4 _ _ (e3.get E9 (s3 _ _ Hz) nofun)),A2 g3,_,cm,_,cm,aw,λt ht=>⟨t,cm,ht,?_⟩⟩;unfold vx zH;dsimp only;rw[eo];cases o with
  |none =>
   have r':y=.non:=r;subst r';show upd H4 t (HO.tup [V.bl false,sh (-(0*(EC/1))),sh (i:Int)])=upd H4 t (HO.tup [V.bl false,sh 0,sh (i:Int)]);rw[gY,Int.neg_zero]
  |some fq =>
   obtain⟨a,rfl,_⟩:=r;rfl
 .have el:gu os=gu xs:=eX;have mem:∀q,fo q∈os->0<q.2/\q.2∣EC/\low q.1 q.2=q:=λfq hq=>by
   obtain⟨i,hi⟩:=iL hq;obtain⟨_,a2,_,a4⟩:=(Y6.2 i _ hi).fr;exact⟨a2,Ea fq (aY.mpr ⟨fo fq,hq,cm⟩),a4 fq rfl⟩
  refine q os ns l H4 Y6 ⟨by rw[el];exact S.1,S.2.imp λ{a b}k=>d2s hLb mem (λm _=>rfl) k⟩ ((Y_.to2.trans s3.to2).trans (e3.Ec.trans e4.to2)) ((E9.other L3 (bV ne) e3).same e4) (M4_.same e4) ?_ Od
  .cases eh:H l with
   |none=>rfl
   |some o =>
    exfalso;have tn:∀{P0_:aA}{p0:Pos}{q0:aC},cu P0_ p0 q0 H3->l≠P0_:=λT0_ z0=>by
     subst z0;rcases T0_ with t|⟨c,t,_⟩<;>(rw[hl] at t;cases t)
    have:=((Y_.to2.trans s3.to2).trans e3.Ec) l o (tn (E9.other L3 (bV ne) e3)) (tn M4_) eh;rw[hl] at this;cases this
end sC
namespace L2
open PySem
theorem d0B K(h:X.K=K):gw X (jk .NotIn) (Ih K true):=by subst h;exact a5H
theorem d1I(hl:ah K H1 l xs)(hp:H1 p=fO)(hz:gu xs<jb)F
  (step:∀i x H(N:Bool->Hp->Prop),xs[i]?=fo x->af H1 H->N (F i) H->tc (((c_ 2 fr σ).set 0 (fo (.int (i:Int)))).set 1 (fo x)) H N)
  (hd:∀H,af H1 H->H p=fo (.lst (((aW (gu xs)).filter F).map λi=>xs.getD i .non))->D H):LF 2 fr (MW K 2 (JE (N7 0) (JE (N7 1) PQ))) tc (JB 1) σ (NL K l) H1 p D:=by
 exact e8K hl hp hz F (λ_ y=>y) (λi x H ys N hx e _ hN=>step i x H _ hx e (hN _ (af.refl _))) (λi y H N hy _ e hN=>⟨y,by simp[c_],hN⟩) λH e h=>hd H e (by rw[h,e9V])
def KY(k:Nat)(σ:St)(H:Hp):Nat:=match σ[k]? with
 |some (fo (.ref a))=>(match H a with|some (.lst xs)=>gu xs|_=>0)
 |_=>0
end L2
namespace sC
open PySem L2 Fr
abbrev Dw(hs:List i8)(left:List Nat):List i8:=left.map λk=>hs.getD k ([],[])
def xg(z:aC)(hs:List i8)(left:List Nat):List Nat:=Jg z (Dw hs left)
def lvl(z:aC)(hs:List i8)(left:List Nat):List Nat:=(xg z hs left).map λk=>left.getD k 0
def vq(z:aC)(hs:List i8)(left:List Nat):List Nat:=((aW (gu left)).filter λk=>!(xg z hs left).contains k).map λk=>left.getD k 0
def vd(z:aC)(hs:List i8):Nat->List Nat->List (List Nat)
 |0,_=>[]
 |n+1,left=>if left=[] then [] else lvl z hs left::vd z hs n (vq z hs left)
abbrev o6(l:List Nat):List V:=l.map λ(k:Nat)=>sh (k:Int)
theorem d1s:∀n,vd z hs n []=[]
 |0=>rfl
 |n+1=>by unfold vd;rw[qg rfl]
theorem c7L{left:List Nat}(h:k<gu left):left.getD k 0∈left:=by simp_all
theorem Zb(hG:∀g∈hs,HG far kt kg g)(hl:∀k∈left,k<gu hs):∀g∈Dw hs left,HG far kt kg g:=λg hg=>by
 obtain⟨k,hk,rfl⟩:=aY.mp hg;have:=hl k hk;rw[bA,aS this];exact hG _ (eF this)
theorem Ze(h:k∈xg z hs left):k<gu left:=by
 have:=b4X h;rw[aH] at this;exact this
theorem c9D(h:k∈vq z hs left):k∈left:=by
 unfold vq at h;obtain⟨j,hj,rfl⟩:=aY.mp h;exact c7L (fF.mp (lI.mp hj).1)
theorem d2d(hG:∀g∈hs,HG far kt kg g)(ij:1<=kt)(hl:∀k∈left,k<gu hs)(mm:left≠[]):gu (vq z hs left)<gu left:=by
 obtain⟨i,hi⟩:=c8H (Zb hG hl) ij (by simp_all);unfold vq;rw[aH];have h1:((aW (gu left)).filter λk=>!(xg z hs left).contains k).length<(aW (gu left)).length:=by
  rw[List.length_filter_lt_length_iff_exists];exact⟨i,fF.mpr (Ze hi),by simpa using (show i∈xg z hs left from hi)⟩
 rw[gZ] at h1;exact h1
def nr(H:Hp)(as:List aA)(ls:List (List Nat)):Prop:=gu as=gu ls/\∀(k:Nat)a l,as[k]?=fo a->ls[k]?=fo l->H a=fo (.lst (o6 l))
theorem nr.snoc(h:nr H as ls)(ha:H a=fo (.lst (o6 l))):nr H (as++[a]) (ls++[l]):=by
 refine⟨by simp[h.1],λk b m hb hm=>?_⟩;by_cases hk:k<gu as
 .rw[dH hk] at hb;rw[dH (h.1▸hk)] at hm;exact h.2 k b m hb hm
 .rw[dU dj] at hb;rw[dU (by rw[<-h.1];lia),<-h.1] at hm;have:k-gu as=0:=by
   cases q:k-gu as with
   |zero=>rfl
   |succ j=>rw[q] at hb;simp at hb
  rw[this] at hb hm;simp at hb hm;subst hb hm;exact ha
section
variable{P:aM}{w:aL}{K:aF}{mg:aC->Option aE}{base:aJ}{f Pt d:aA}{fd:aK}{n:Nat}{C:aA}
theorem d0n(B:O6 K H ba xs hs far kt kg)(hl:∀k∈left,k<gu hs)(hn:gu left<=16)(hp:H p=fo (.lst (left.map λk=>xs.getD k .non))) :
  O6 K H p (left.map λk=>xs.getD k .non) (Dw hs left) far kt kg:=by
 have xl:gu xs=gu hs:=dE B.b;refine⟨ah.of hp,?_,Zb B.g hl,B.far,by rw[aH];exact hn,B.t,B.k⟩;clear hp hn;induction left with
 |nil=>exact .nil
 |cons k r ih =>
  have hk:=hl k (.head _);have hx:xs[k]?=fo xs[k]:=aS dj;obtain⟨h,hh,q⟩:=aZ.at B.b hx;refine .cons ?_ (ih λj hj=>hl j (.tail _ hj));show HS K H (xs.getD k V.non) (hs.getD k ([],[]));rw[bA,hx,bA,hh];exact q
inductive KZ(K:aF)(Pt:aA)(vs:List V)(H:Hp)(Q:VK)(sH:XK):Prop|mk:∀ba xs hs z far kt kg,vs=[.ref ba,.str z]->O4 z->O6 K H ba xs hs far kt kg->far<=2^50->1<=kt->LT Pt H->(∀H' r as,bj Pt H H'->LT Pt H'->H r=fO->H' r=fo (.lst (as.map sy))->nr H' as (vd z hs (gu hs) (aW (gu hs)))->(∀a∈as,H a=fO)->Q (.ref r) H')->KZ K Pt vs H Q sH
def yS:p7 ["book","sizes","told","left","places"] ["book","sizes"] (i9 Dm):=⟨cm,cm,cm,de,cm,de,de⟩
def d2I:(["number","book"]:List aC).Nodup:=dz
def d2B:(["place","left"]:List aC).Nodup:=dz
def d1R:(["place","number","places"]:List aC).Nodup:=dz
def lvT{f1:aA}{d1:aK}(N:v8 mg)(Cr:C9 P w K mg base n "rim_of" ["book","sizes"] (RL K Pt) f1 d1)
  (hr:b_ n (A.deeper (cD "levels" (i9 Dm) s.heap.objs.size f ay))) :
  {t:TS//fu (N8 J8 P w K mg base ["book","sizes","told","left","places"] "levels" (i9 Dm) f ay A outer s H E).oi (x9 Dm) t} :=
 ⟨_,j0 (r6 (i:=2) yS.nd rfl (aI rfl) (v9 c7))
  (t8 (r6 (i:=3) yS.nd rfl (fY rfl) (v5 (VX rfl) rfl N.list fJ (c6 (v5 U' rfl N.range xD (c6 (j7 j6 rfl N.len bB (c6 (pv 0) c7)) c7)) c7)))
  (j0 (P0 hO (RM (pv 3) λ_=>rfl)
   (t8 (r6 (i:=4) yS.nd rfl (fY rfl) (Cr.c hr (c6 (N6 ["number"] [0] rfl (C6 (pv 3)) (λ_ _ _ _=>j9 (i:=0) d2I rfl (aI rfl)) (λ_ _ _ _=>l8 (Wn K rfl) (pv 1) (pv 0) (λ_ _=>rfl))) (c6 (pv 1) c7))))
   (t8 (R3 (K7 iK jW jX P2 (pv 2) (c6 (N6 ["place"] [3] rfl (C6 (pv 4)) (λ_ _ _ _=>j9 (i:=0) d2B rfl (aI rfl)) (λ_ _ _ _=>l8 (Wn K rfl) (pv 1) (pv 0) (λ_ _=>rfl))) c7)))
   (j4 (r6 (i:=3) yS.nd rfl (fY rfl) (Sf ["place","number"] [4] rfl (Il K rfl rfl N.enum (c6 (pv 3) c7)) (λ_ _ _ _=>IX K (n:=2) rfl rfl (p6 (j9 (i:=0) d1R rfl (aI rfl)) (p6 (j9 (i:=1) d1R rfl (aI rfl)) A4)))
    (λ_ _ _ _=>l5 (d0B K rfl) (pv 0) (pv 2) rfl) (λ_ _ _ _=>pv 1)))))))
  (j4 (o4 (pv 2)))))⟩
end
open Tx (S cs ch x6 J6 A5 w4)
def Fb(l:List Nat):S:=G4 (l.map λ(k:Nat)=>(k:Int))
def Zf(ls:List (List Nat)):S:=cO (ch 32) (ls.map Fb)
theorem Zi l:o6 l=(l.map λ(k:Nat)=>(k:Int)).map sh:=by rw[bC];rfl
theorem Zj{l:List Nat}(hm:m<=100)(h1:gu l<=m)(h2:∀k∈l,k<m):Sm (l.map λ(k:Nat)=>(k:Int)):=⟨by rw[aH];lia,λx hx=>by
 obtain⟨k,hk,rfl⟩:=aY.mp hx;have:=h2 k hk;lia⟩
inductive Zk(K:aF)(CN Pt:aA)(vs:List V)(H:Hp)(Q:VK)(E:XK):Prop|mk:∀(ba l:aA)(v1:V)(xs us:List V)(hs:List i8)(num:Int)(kt kg:Nat),vs=[.ref ba,v1,.ref l]->O6 K H ba xs hs (10^9) kt kg->1<=kt->H l=fo (.lst us)->us[0]?=fo (.int num)->num.natAbs.log2<1920->LT Pt H->(∀(i:Nat)h H' t,num=(i:Int)->hs[i]?=fo h->AK hs h kt kg t->bj Pt H H'->LT Pt H'->Q (.str t) H')->(¬AA (gu xs) num->E (.ref CN) fO H)->Zk K CN Pt vs H Q E
def d0O:p7 Z5 Z5 (i9 Xa):=⟨cm,cm,cm,de,cm,de,de⟩
theorem c9P(F:Ay K "tell_scale" Xa f fd)(Cs:vn P w K mg base n "scale" ["book","number"] (J1 K CN Pt) f1 d1):bf P w K mg base (W2 P w) (n+1) f fd Z5 (Zk K CN Pt):=by
 refine F.ob d0O λay A outer s H vs Q E hr h=>?_;obtain⟨ba,l,v1,xs,us,hs,num,kt,kg,rfl,B,ij,hl,h0,lm,L,q,hE⟩:=h;exact⟨_,j4 (o4 (l7 Cs.ok hr rfl Cs.m Cs.k Cs.b .nil V5 (c6 (pv 0) (c6 (l8 j5 (pv 2) d0 λ_ _=>rfl) c7)))),_,cm,_,cm,l,_,_,_,cm,cm,ah.of hl,A2 h0,ba,xs,hs,num,10^9,kt,kg,cm,B,ij,lm,L,λi h H1 t hi hh X e1 L1=>q i h H1 t hi hh X e1 L1,hE⟩
inductive Zl(K:aF)(Pt:aA)(vs:List V)(H:Hp)(Q:VK)(sH:XK):Prop|mk:∀ba v2 xs hs z kt kg,vs=[.ref ba,.str z,v2]->O4 z->O6 K H ba xs hs (10^9) kt kg->LT Pt H->(∀H',bj Pt H H'->LT Pt H'->Q (.str (Fb (Jg z hs))) H')->Zl K Pt vs H Q sH
def b7x:p7 Z5 Z5 (i9 V_):=⟨cm,cm,cm,de,cm,de,de⟩
theorem b3h(h:gu hs<=16):Sm ((Jg z hs).map λ(k:Nat)=>(k:Int)):=Zj dz (bF (bF (oX _ _) (gZ▸aT _)) h) λk hk=>by have:=b4X hk;lia
theorem b4d(F:Ay K "tell_rim" V_ f fd)(Cr:C9 P w K mg base n "rim_of" ["book","sizes"] (RL K Pt) f1 d1)(Cn:C9 P w K mg base n "numbers_text" ["numbers"] (Xr K) f2 d2):bf P w K mg base (W2 P w) (n+1) f fd Z5 (Zl K Pt):=by
 refine F.ob b7x λay A outer s H vs Q E hr h=>?_;obtain⟨ba,v2,xs,hs,z,kt,kg,rfl,hz,B,L,q⟩:=h;refine⟨_,j4 (o4 (l7 Cn.ok hr rfl Cn.m Cn.k Cn.b .nil v6 (c6 (l7 Cr.ok hr rfl Cr.m Cr.k Cr.b .nil v6 (c6 (pv 0) (c6 (pv 1) c7))) c7))),_,cm,_,cm,ba,xs,hs,z,10^9,kt,kg,cm,hz,B,dz,L,λH1 r e1 L1 _ GN=>?_⟩;rw[show(Jg z hs).map (λ(i:Nat)=>sh (i:Int))=_ from Zi _] at GN;exact⟨true,r,_,cm,ah.of GN,b3h B.few,λH2 e2=>q H2 (e1.trans e2.ka) (L1.same e2)⟩
inductive Zm(K:aF)(Pt P2_:aA)(vs:List V)(H:Hp)(Q:VK)(sH:XK):Prop|mk:∀ba v2 xs hs z kt kg,vs=[.ref ba,.str z,v2]->O4 z->O6 K H ba xs hs (10^9) kt kg->1<=kt->LT Pt H->nv P2_ H->P2_≠Pt->(∀os ns H',Os z hs kt kg os->DR os ns->il Pt P2_ H H'->LT Pt H'->nv P2_ H'->Q (.str (G4 ns)) H')->Zm K Pt P2_ vs H Q sH
def d0E:p7 Z5 Z5 (i9 Xk):=⟨cm,cm,cm,de,cm,de,de⟩
theorem c8C{os}(h:DR os ns)(hl:gu os<=16):Sm ns:=⟨by rw[h.1.length_eq,aH,gZ];lia,λx hx=>by
 obtain⟨k,hk,rfl⟩:=aY.mp (h.1.mem_iff.mp hx);have:=fF.mp hk;lia⟩
theorem c9J(F:Ay K "tell_order" Xk f fd)(Cr:CZ P w K mg base n "standing" ["book","sizes"] (KR K Pt P2_) f1 d1)(Cn:C9 P w K mg base n "numbers_text" ["numbers"] (Xr K) f2 d2):bf P w K mg base (W2 P w) (n+1) f fd Z5 (Zm K Pt P2_):=by
 refine F.ob d0E λay A outer s H vs Q E hr h=>?_;obtain⟨ba,v2,xs,hs,z,kt,kg,rfl,hz,B,ij,L,M,ne,q⟩:=h;exact⟨_,j4 (o4 (l7 Cn.ok hr rfl Cn.m Cn.k Cn.b .nil v6 (c6 (l7 Cr.ok hr rfl Cr.m Cr.k Cr.b .nil v6 (c6 (pv 0) (c6 (pv 1) c7))) c7))),_,cm,_,cm,ba,xs,hs,z,10^9,kt,kg,cm,hz,B,B.few,ij,L,M,ne,λos ns l H1 O S e1 L1 zJ _ GN=>⟨true,l,ns,cm,ah.of GN,c8C S (O.1▸B.few),λH2 e2=>q os ns H2 O S (e1.trans e2.to2) (L1.same e2) (zJ.same e2)⟩⟩
theorem c9x:∀n left,gu left<=m->(∀k∈left,k<m)->gu (vd z hs n left)<=n/\∀l∈vd z hs n left,gu l<=m/\∀k∈l,k<m
 |0,left,_,_=>⟨Nat.le_refl _,nofun⟩
 |n+1,left,h1,h2=>by
  show gu (if left=[] then [] else lvl z hs left::vd z hs n (vq z hs left))<=n+1/\∀l∈(if left=[] then [] else lvl z hs left::vd z hs n (vq z hs left)),gu l<=m/\∀k∈l,k<m;by_cases c:left=[]
  .rw[qg c];exact⟨Nat.zero_le _,nofun⟩
  .rw[qf c];have r1:gu (vq z hs left)<=m:=by
    unfold vq;rw[aH];refine bF (oX _ _) ?_;rw[gZ];exact h1
   obtain⟨i1,i2⟩:=c9x n (vq z hs left) r1 λk hk=>h2 k (c9D hk);refine⟨Nat.succ_le_succ i1,λl hl=>?_⟩;rcases bH.mp hl with rfl|hl
   .unfold lvl;refine⟨?_,λk hk=>?_⟩
    .rw[aH];refine bF (oX _ _) ?_;rw[gZ];unfold Dw;rw[aH];exact h1
    .obtain⟨j,hj,rfl⟩:=aY.mp hk;exact h2 _ (c7L (Ze hj))
   .exact i2 l hl
theorem c8o(h:gu hs<=16):(vd z hs (gu hs) (aW (gu hs))).length<=16/\∀l∈vd z hs (gu hs) (aW (gu hs)),gu l<=16/\∀k∈l,k<16:=by
 obtain⟨h1,h2⟩:=c9x (gu hs) (aW (gu hs)) (by rw[gZ];exact h) λk hk=>by have:=fF.mp hk;lia
 exact⟨dj,h2⟩
theorem d0l(h:gu l<=16/\∀k∈l,k<16):(Fb l).length<=1200:=by
 have:=Mq (Zj dz h.1 h.2);unfold Fb;lia
theorem c9k(hr:H1 r=fo (.lst (as.map sy)))(hN:nr H1 as ls)(hb:gu ls<=16/\∀l∈ls,gu l<=16/\∀k∈l,k<16)(hp:H1 p=fO)
  (step:∀a l H N,ah K H a (l.map sh)->Sm l->(∀H3,af H H3->N (.str (G4 l)) H3)->te ((c_ 1 [] σ).set 0 (fo (.ref a))) H N)
  (hd:∀H,af H1 H->N (.str (Zf ls)) H):IJ 1 [] (N7 0) te σ (Lr K r) H1 p λH=>Qv K (.str " ") [.ref p] H N:=by
 obtain⟨b1,b2⟩:=hb;refine IT (A3 (ah.of hr)) hp (by rw[aH,aH];exact hN.1) (by grind) (λx hx=>?_) rfl (λi y t H2 N hy ht e Fc=>?_) hd
 .obtain⟨l,hl,rfl⟩:=aY.mp hx;exact bF (d0l (b2 l hl)) (by decide)
 .rw[aP] at hy ht;obtain⟨a,ha,rfl⟩:=fL.mp hy;obtain⟨l,hl,rfl⟩:=fL.mp ht;have bl:=b2 l (bK hl);have hc:=e _ _ (hN.2 i a _ ha hl);rw[Zi] at hc;exact⟨Wk.set dz,step a _ H2 N (ah.of hc) (Zj dz bl.1 bl.2) Fc⟩
inductive Zn(K:aF)(Pt:aA)(vs:List V)(H:Hp)(Q:VK)(sH:XK):Prop|mk:∀ba v2 xs hs z kt kg,vs=[.ref ba,.str z,v2]->O4 z->O6 K H ba xs hs (10^9) kt kg->1<=kt->LT Pt H->(∀H',bj Pt H H'->LT Pt H'->Q (.str (Zf (vd z hs (gu hs) (aW (gu hs))))) H')->Zn K Pt vs H Q sH
def c9U:p7 Z5 Z5 (i9 L6):=⟨cm,cm,cm,de,cm,de,de⟩
def d2A:(["level"]:List aC).Nodup:=fg
theorem c8P{f1 f2:aA}{d1 d2:aK}(F:Ay K "tell_levels" L6 f fd)(Cr:C9 P w K mg base n "levels" ["book","sizes"] (KZ K Pt) f1 d1)(Cn:C9 P w K mg base n "numbers_text" ["numbers"] (Xr K) f2 d2):bf P w K mg base (W2 P w) (n+1) f fd Z5 (Zn K Pt):=by
 refine F.ob c9U λay A outer s H vs Q E hr h=>?_;obtain⟨ba,v2,xs,hs,z,kt,kg,rfl,hz,B,ij,L,q⟩:=h;refine⟨_,fu.oi (j4 (o4 (K7 eP hZ iA W4 l9 (c6 (N6 ["level"] [] rfl (C6 (Cr.c hr (c6 (pv 0) (c6 (pv 1) c7)))) (λ_ _ _ _=>j9 (i:=0) d2A rfl (aI rfl)) (λ_ _ _ _=>Cn.c hr (c6 (pv 0) c7))) c7)))),?_⟩;refine⟨cm,_,cm,_,cm,ba,xs,hs,z,10^9,kt,kg,cm,hz,B,dz,ij,L,λH1 r as e1 L1 _ GN hN _=>⟨r,cm,⟨_,ah.of GN⟩,λp hp=>?_⟩⟩;exact c9k GN hN (c8o B.few) hp (λa l H2 N h m Fc=>by exact⟨_,cm,true,a,_,cm,h,m,Fc⟩) λH2 e2=>q _ (e1.trans e2.ka) (L1.same e2)
theorem f1M h:BS h h=true:=by
 unfold BS;rw[fE];exact λi _=>qk (dL _)
theorem f2f o b n h:yV o b n h=b\/∃q,yV o b n h=fo (q,n):=by
 unfold yV;split
 .cases b with
  |none=>exact .inr ⟨_,cm⟩
  |some p =>
   obtain⟨q,j⟩:=p;dsimp only;split
   .exact .inr ⟨_,cm⟩
   .exact .inl rfl
 .exact .inl rfl
theorem Fx(h:hs[i]?=fo o):∀n,∀p,(yu hs o n=fo p->p.2<n)/\(i<n->yu hs o n≠fO)
 |0,_=>⟨nofun,λz=>absurd z (xC _)⟩
 |n+1,p=>by
  have ih:=Fx h n;show(yV o (yu hs o n) n (hs.getD n ([],[]))=fo p->p.2<n+1)/\(i<n+1->yV o (yu hs o n) n (hs.getD n ([],[]))≠fO);rcases f2f o (yu hs o n) n (hs.getD n ([],[])) with e|⟨q,e⟩
  .refine⟨λz=>mJ ((ih p).1 (e▸z)),λz w=>?_⟩;by_cases c:i<n
   .exact(ih p).2 c (e▸w)
   .have:n=i:=dj;subst this;rw[bA,h] at w;unfold yV at w;rw[iG,qg (f1M o)] at w;split at w
    .cases w
    .split at w<;>cases w
  .rw[e];exact⟨λz=>by cases z;exact jJ _,λ_=>nofun⟩
def Dy(hs:List i8)(h:i8):S:=match yu hs h (gu hs) with
 |some (q,k)=>De q++(ch 32++(x6 (k:Int)++eI))
 |none=>eI
inductive Zq(K:aF)(CN:aA)(vs:List V)(H:Hp)(Q:VK)(E:XK):Prop|mk:∀(ba l:aA)(v1:V)(xs us:List V)(hs:List i8)(num:Int)(kt kg:Nat),vs=[.ref ba,v1,.ref l]->O6 K H ba xs hs (10^9) kt kg->1<=kt->H l=fo (.lst us)->us[0]?=fo (.int num)->num.natAbs.log2<1920->(∀(i:Nat)h H',num=(i:Int)->hs[i]?=fo h->af H H'->Q (.str (Dy hs h)) H')->(¬AA (gu xs) num->E (.ref CN) fO H)->Zq K CN vs H Q E
def Zs:p7 ["book","sizes","things","one","number"] Z5 (i9 Wz):=⟨cm,cm,cm,de,cm,de,de⟩
theorem xi.Dk(a:xi q):q.1.natAbs.log2<1920/\q.2.natAbs.log2<1920:=by
 have gen:∀{x:Int},x.natAbs<2^40->x.natAbs.log2<1920:=λ{x}h=>by
  by_cases h0:x.natAbs=0
  .rw[h0];decide
  .exact Nat.lt_trans ((mO h0).mpr h) dz
 have:=a.t0;have:=a.t1;have:=a.b1;have:0<q.2:=a.c.1;exact⟨gen dj,gen dj⟩
theorem f1t(a:xi q):(De q).length<=2000:=by
 have h1:=Bq a.t0 (by have:=a.t1;lia);have h2:(x6 q.2).length<=10:=Bq (by have:0<q.2:=a.c.1;lia) (by have:=a.b1;lia);unfold De;split
 .lia
 .rw[Tx.d_,Tx.bu,Tx.bu,Tx.bu,aX,aX,aX];rw[Tx.d_] at h1 h2;have h3:gu (cs (ch 47))=1:=rfl;have h4:gu (cs eI)=0:=rfl;lia
theorem f1I(F:Ay K "tell_alone" Wz f fd)(Ca:vn P w K mg base n "share_alone" ["book","number"] (Fu K CN) f1 d1)(Cf:C9 P w K mg base n "fraction_text" ["one"] (RE K) f2 d2):bf P w K mg base (W2 P w) (n+1) f fd Z5 (Zq K CN):=by
 refine F.ob Zs λay A outer s H vs Q E hr h=>?_;obtain⟨ba,l,v1,xs,us,hs,num,kt,kg,rfl,B,ij,hl,h0,lm,q,hE⟩:=h;refine⟨_,j0 (D3 (l7 Ca.ok hr rfl Ca.m Ca.k Ca.b .nil V5 (c6 (pv 0) (c6 (l8 j5 (pv 2) d0 λ_ _=>rfl) c7))) (K4 rfl (p6 (j9 (i:=3) Zs.nd rfl (aI rfl)) (p6 (j9 (i:=4) Zs.nd rfl (aI rfl)) A4))))
  (j4 (o4 (SF (Qw (Cf.c hr (c6 (pv 3) c7)) (SE (Qw (pv 4) SA)))))),?_⟩
 refine⟨_,cm,_,cm,l,_,_,_,cm,cm,ah.of hl,A2 h0,ba,xs,hs,num,kt,kg,cm,B.l,B.b,B.g,ij,by have:=B.k;lia,lm,λi h hi hh v H1 e1 hv=>?_,hE⟩;obtain⟨⟨x,k⟩,eb⟩:=aAL.mp ((Fx hh (gu hs) (default,0)).2 ((cA.mp hh).1));have hk:k<gu hs:=(Fx hh (gu hs) _).1 eb;have qq:=q i h H1 hi hh e1;unfold Dy at qq;rw[eb] at hv qq;obtain⟨a,u,rfl,ha,hu,hA⟩:=hv;exact⟨a,_,cm,cq.of ha,cm,_,_,cm,_,_,cm,cm,_,cm,u,x,cm,hu.v,hA.Dk.1,hA.Dk.2,_,.inr ⟨rfl,f1t hA⟩,_,cm,_,.inl ⟨(k:Int),cm,Pl (by have:=B.few;lia),cm⟩,qq⟩
inductive Rw where
 |put (h:i8)|drop (n:Int)|alter (n:Int) (h:i8)|yv (z:S)|back|levels|order|Dl|alone (n:Int)|scale (n:Int)
def xu:List (aC×(Int->Rw)):=[("drop",.drop),("alone",.alone),("scale",.scale)]
def RB:List (aC×Rw):=[("back",.back),("levels",.levels),("order",.order),("rim",.Dl)]
open Classical in
def vv:List S->Option Rw
 |[w]=>RB.lookup w
 |[w,x]=>if w="house" then (D6 x).map .put else if w="sizes" then (if O4 x then fo (.yv x) else fO) else (xu.lookup w).bind λf=>(w4 x).map f
 |[w,x,y]=>if w="alter" then (w4 x).bind λn=>(D6 y).map (.alter n) else fO
 |_=>fO
open Classical in
def yw w x:vv [w,x]=if w="house" then (D6 x).map .put else if w="sizes" then (if O4 x then fo (.yv x) else fO) else (xu.lookup w).bind λf=>(w4 x).map f:=rfl
def Dz w x y:vv [w,x,y]=if w="alter" then (w4 x).bind λn=>(D6 y).map (.alter n) else fO:=rfl
def U6(row:S):Option Rw:=vv (aU row (ch 32))
theorem b1W:∀(l:List Nat)a,(∀c∈l,c<=57)->l.foldl (λacc c=>acc*10+(c-48)) a<(a+1)*10^gu l
 |[],a,_=>fg
 |c::l,a,h=>by
  have h2:=h c (.head _);refine bS (b1W l (a*10+(c-48)) λx hx=>h x (.tail _ hx)) ?_;rw[eM,wY,qX (10^gu l) 10,<-Nat.mul_assoc];exact pJ _ dj
theorem AM(h:w4 x=fo n):0<=n/\n<10^10:=by
 refine⟨Tx.yf h,?_⟩;unfold w4 at h;split at h
 .rename_i hi
  cases h;unfold A5 at hi;simp only[fQ,decide_eq_true_eq,fE] at hi;obtain⟨⟨⟨_,hl⟩,hd⟩,_⟩:=hi;have h2:(10:Nat)^gu (cs x)<=10^10:=lG dz hl;have h3:rQ (cs x)<10^10:=bS (b1W (cs x) 0 λc hc=>(hd c hc).2) dj
  exact_mod_cast h3
 .cases h
inductive KL:aC->List Th->Rw->Prop
 |put {h}:jg h->KL "house" [.h h] (.put h)
 |yv {x}:O4 x->KL "sizes" [.w x] (.yv x)
 |num {w n f}:xu.lookup w=fo f->0<=n->n<10^10->KL w [.k n] (f n)
 |alter {n h}:0<=n->n<10^10->jg h->KL "alter" [.k n,.h h] (.alter n h)
 |zero {w r}:RB.lookup w=fo r->KL w [] r
theorem b0v(e:O2 row=fo (wd,ts)):s_ λr fs=>aU row (ch 32)=wd::r/\ji.lookup wd=fo fs/\gu r=gu fs/\cV E4 fs r=ts.map fo:=by
 unfold O2 at e;split at e
 .cases e
 .rename_i w r hw
  split at e
  .cases e
  .rename_i fs hf
   split at e
   .rename_i hl
    obtain⟨x,hx,e⟩:=fL.mp e;cases e;exact⟨r,fs,hw,hf,hl,K9 hx⟩
   .cases e
theorem f1w(h:E4 "K" x=fo t):∃n,w4 x=fo n/\t=.k n:=by
 unfold E4 at h;rw[qg rfl] at h;obtain⟨n,hn,rfl⟩:=fL.mp h;exact⟨n,hn,cm⟩
theorem f1z(h:E4 "HOUSE" x=fo t):∃n,D6 x=fo n/\t=.h n:=by
 unfold E4 at h;rw[qf dz,qg rfl] at h;obtain⟨n,hn,rfl⟩:=fL.mp h;exact⟨n,hn,cm⟩
theorem f2y(h:E4 "WORD" x=fo t):O4 x/\t=.w x:=by
 unfold E4 at h;rw[qf dz,qf dz] at h;split at h
 .rename_i hz
  cases h;exact⟨hz,cm⟩
 .cases h
theorem Sx(hb:W5 (cs row)=false)(e:O2 row=fo (wd,ts)):∃r,U6 row=fo r/\KL wd ts r:=by
 have h8:=b7l hb e;obtain⟨r,fs,hs,hf,hl,hz⟩:=b0v e;unfold U6;rw[hs];have zero:∀{x},RB.lookup wd=fo x->ji.lookup wd=fo []->∃y,vv (wd::r)=fo y/\KL wd ts y:=λ{x}hx h=>by
  rw[h] at hf;cases hf;have r0:=lM hl;subst r0;cases ts with
  |nil=>exact⟨x,hx,.zero hx⟩
  |cons _ _=>cases hz
 have one:∀{f:aC},ji.lookup wd=fo [f]->s_ λx t=>r=[x]/\ts=[t]/\E4 f x=fo t:=λ{f}h=>by
  rw[h] at hf;cases hf;match r,hl,ts,hz with
  |[x],_,[t],hz=>exact⟨x,t,cm,cm,by simpa using hz⟩
  |[x],_,[],hz=>simp at hz
  |[x],_,_::_::_,hz=>simp at hz
 have num:∀{g},xu.lookup wd=fo g->ji.lookup wd=fo [("K":aC)]->wd≠"house"->wd≠"sizes"->∃y,vv (wd::r)=fo y/\KL wd ts y:=λ{g}hk h n1 n2=>by
  obtain⟨x,t,rfl,rfl,ht⟩:=one h;obtain⟨n,hn,rfl⟩:=f1w ht;obtain⟨n0,n9⟩:=AM hn;refine⟨g n,?_,.num hk n0 n9⟩;rw[yw,qf n1,qf n2,hk,H_,hn];rfl
 simp only[W8,bH,dJ,or_false] at h8;rcases h8 with rfl|rfl|rfl|rfl|rfl|rfl|rfl|rfl|rfl|rfl
 .obtain⟨x,t,rfl,rfl,ht⟩:=one rfl;obtain⟨h,hn,rfl⟩:=f1z ht;refine⟨.put h,?_,.put (XM hn)⟩;rw[yw,qg rfl,hn];rfl
 .exact num rfl rfl dz dz
 .cases (show ji.lookup ("alter":aC)=fo [("K":aC),("HOUSE":aC)] from rfl).symm.trans hf;match r,hl,ts,hz with
  |[x,y],_,[t,u],hz =>
   have Ov:E4 "K" x=fo t/\E4 "HOUSE" y=fo u:=by simp_all
   obtain⟨n,hn,rfl⟩:=f1w Ov.1;obtain⟨h,hh,rfl⟩:=f1z Ov.2;obtain⟨n0,n9⟩:=AM hn;refine⟨.alter n h,?_,.alter n0 n9 (XM hh)⟩;rw[Dz,qg rfl,hn,H_,hh];rfl
  |[x,y],_,[],hz=>simp at hz
  |[x,y],_,[_],hz=>simp at hz
  |[x,y],_,_::_::_::_,hz=>simp at hz
 .obtain⟨x,t,rfl,rfl,ht⟩:=one rfl;obtain⟨hx,rfl⟩:=f2y ht;refine⟨.yv x,?_,.yv hx⟩;rw[yw,qf dz,qg rfl,qg hx]
 .exact zero rfl rfl
 .exact zero rfl rfl
 .exact zero rfl rfl
 .exact zero rfl rfl
 .exact num rfl rfl dz dz
 .exact num rfl rfl dz dz
theorem FD{row:S}{r:List S}(hs:aU row (ch 32)=w::r)(hf:ji.lookup w=fo fs)(hl:gu r=gu fs)(ht:cV E4 fs r=ts.map fo):O2 row=fo (w,ts):=by
 unfold O2;rw[hs];dsimp only;rw[hf];dsimp only;rw[qg hl,ht];have:∀l:List Th,xa (l.map fo)=fo l:=λl=>by
  induction l with
  |nil=>rfl
  |cons a l ih=>show(xa (l.map fo)).map (a::·)=_;rw[ih];rfl
 rw[this];rfl
theorem tK_(h:w4 x=fo n):E4 "K" x=fo (.k n):=by unfold E4;rw[qg rfl,h];rfl
theorem tH_(h:D6 x=fo g):E4 "HOUSE" x=fo (.h g):=by unfold E4;rw[qf dz,qg rfl,h];rfl
theorem tW_{x:S}(h:O4 x):E4 "WORD" x=fo (.w x):=by unfold E4;rw[qf dz,qf dz,qg h]
theorem f1E(h:U6 row=fo r):s_ λwd ts=>O2 row=fo (wd,ts):=by
 unfold U6 at h;generalize hs:aU row (ch 32)=ws at h;match ws,hs,h with
 |[w],hs,h =>
  have:=MG (show RB.lookup w=fo r from h);simp only[RB,bH,dJ,or_false,pQ] at this;refine⟨w,[],FD hs ?_ rfl rfl⟩;rcases this with⟨rfl,_⟩|⟨rfl,_⟩|⟨rfl,_⟩|⟨rfl,_⟩<;>rfl
 |[w,x],hs,h =>
  rw[yw] at h;split at h
  .rename_i c
   subst c;obtain⟨g,hg,_⟩:=fL.mp h;exact⟨_,[.h g],FD hs rfl rfl (by show[E4 "HOUSE" x]=_;rw[tH_ hg];rfl)⟩
  .split at h
   .rename_i c
    subst c;split at h
    .rename_i c
     exact⟨_,[.w x],FD hs rfl rfl (by show[E4 "WORD" x]=_;rw[tW_ c];rfl)⟩
    .cases h
   .obtain⟨f,hf,h⟩:=Option.bind_eq_some_iff.mp h;obtain⟨n,hn,_⟩:=fL.mp h;refine⟨w,[.k n],FD hs (fs:=["K"]) ?_ rfl (by show[E4 "K" x]=_;rw[tK_ hn];rfl)⟩;have:=MG hf;simp only[xu,bH,dJ,or_false,pQ] at this;rcases this with⟨rfl,_⟩|⟨rfl,_⟩|⟨rfl,_⟩<;>rfl
 |[w,x,y],hs,h =>
  rw[Dz] at h;split at h
  .rename_i c
   subst c;obtain⟨n,hn,h⟩:=Option.bind_eq_some_iff.mp h;obtain⟨g,hg,_⟩:=fL.mp h;exact⟨_,[.k n,.h g],FD hs rfl rfl (by show[E4 "K" x,E4 "HOUSE" y]=_;rw[tK_ hn,tH_ hg];rfl)⟩
  .cases h
 |[],_,h=>cases h
 |_::_::_::_::_,_,h=>cases h
inductive vg where
 |no (e:aC)
 |ok (an:S) (L:DS) (past:List DS)
section
variable(kt kg:Nat)(hs:List i8)(z:aC)(past:List DS)(r:vg)
def zd(h:i8):Prop:=gu h.1=kt/\gu h.2=kg
instance {kt kg h}:Decidable (zd kt kg h):=inferInstanceAs (Decidable (_/\_))
def Due:Option Rw->Prop
 |none=>r=.no "NoRow"
 |some (.put h)=>r=if zd kt kg h then (if gu hs=16 then .no "TooMany" else .ok (x6 (gu hs:Nat)) (hs++[h],z) (past++[(hs,z)])) else .no "NoBook"
 |some (.drop n)=>r=if n<gu hs then (if gu hs=1 then .no "NoBook" else .ok "ok" (S8 hs n.toNat,z) (past++[(hs,z)])) else .no "NoHouse"
 |some (.alter n h)=>r=if n<gu hs then (if zd kt kg h then .ok "ok" ((hs.take n.toNat++[h])++hs.drop (n.toNat+1),z) (past++[(hs,z)]) else .no "NoBook") else .no "NoHouse"
 |some (.yv x)=>r=.ok "ok" (hs,x) (past++[(hs,z)])
 |some .back=>(past=[]/\r=.no "NothingLeft")\/s_ λL p=>past=p++[L]/\r=.ok "ok" L p
 |some .levels=>r=.ok (Zf (vd z hs (gu hs) (aW (gu hs)))) (hs,z) past
 |some .order=>s_ λos ns=>Os z hs kt kg os/\DR os ns/\r=.ok (G4 ns) (hs,z) past
 |some .Dl=>r=.ok (Fb (Jg z hs)) (hs,z) past
 |some (.alone n)=>r=if n<gu hs then .ok (Dy hs (hs.getD n.toNat ([],[]))) (hs,z) past else .no "NoHouse"
 |some (.scale n)=>(¬n<gu hs/\r=.no "NoHouse")\/∃t,n<gu hs/\AK hs (hs.getD n.toNat ([],[])) kt kg t/\r=.ok t (hs,z) past
end
theorem d1W(x:AK hs h kt kg t)(y:AK hs h kt kg t'):t=t':=by
 cases x with
 |yO a1 b1 e1=>cases y with
  |yO _ _ _=>rfl
  |small a2 b2 e2 _ _=>exact absurd (((a2.fr a1).trans e1).trans (b1.fr b2)) e2
  |great a2 b2 e2 _ _=>exact absurd (((a2.fr a1).trans e1).trans (b1.fr b2)) e2
 |small a1 b1 e1 c1 d1=>cases y with
  |yO a2 b2 e2=>exact absurd (((a1.fr a2).trans e2).trans (b2.fr b1)) e1
  |small _ _ _ _ _=>rfl
  |great a2 b2 e2 c2 d2=>exact absurd (((a2.fr a1).trans d1).trans (c1.fr c2)) d2
 |great a1 b1 e1 c1 d1=>cases y with
  |yO a2 b2 e2=>exact absurd (((a1.fr a2).trans e2).trans (b2.fr b1)) e1
  |small a2 b2 e2 c2 d2=>exact absurd (((a1.fr a2).trans d2).trans (c2.fr c1)) d1
  |great _ _ _ _ _=>rfl
theorem Due.eq(hz:O4 z)(hG:∀g∈hs,HG far kt kg g)(a:Due kt kg hs z past r o)(b:Due kt kg hs z past r' o):r=r':=by
 match o,a,b with
 |none,a,b=>exact zD a (sG b)
 |some (.put h),a,b=>exact zD a (sG b)
 |some (.drop n),a,b=>exact zD a (sG b)
 |some (.alter n h),a,b=>exact zD a (sG b)
 |some (.yv n),a,b=>exact zD a (sG b)
 |some .levels,a,b=>exact zD a (sG b)
 |some .Dl,a,b=>exact zD a (sG b)
 |some (.alone n),a,b=>exact zD a (sG b)
 |some .back,a,b =>
  rcases a with⟨a1,rfl⟩|⟨L,p,a1,rfl⟩<;>rcases b with⟨b1,rfl⟩|⟨L',p',b1,rfl⟩
  .rfl
  .rw[a1] at b1;simp at b1
  .rw[a1] at b1;simp at b1
  .rw[a1] at b1;have:=To b1 rfl;rw[this.1,(kS this.2).1]
 |some .order,⟨os,ns,a1,a2,a3⟩,⟨Ic,ns',b1,b2,b3⟩ =>
  cases Os.eq hz hG a1 b1;rw[a3,b3,a2.eq b2]
 |some (.scale n),a,b =>
  rcases a with⟨a0,rfl⟩|⟨t,a0,a1,rfl⟩<;>rcases b with⟨b0,rfl⟩|⟨t',b0,b1,rfl⟩
  .rfl
  .exact absurd b0 a0
  .exact absurd a0 b0
  .rw[d1W a1 b1]
structure kd(kt kg:Nat)(hs:List i8):Prop where
 l1:1<=gu hs
 ui:gu hs<=16
 g:∀h∈hs,HG (10^9) kt kg h
 t1:1<=kt
 t4:kt<=4
 g4:kg<=4
def kd.k(o:kd kt kg hs):∀g∈hs,gu g.1=kt/\gu g.2=kg:=λg hg=>⟨(o.g g hg).lt,(o.g g hg).lg⟩
theorem kd.bin(o:kd kt kg hs)(h:H ba=fo (.lst xs))(b:Bk K H xs hs):O6 K H ba xs hs (10^9) kt kg:=⟨ah.of h,b,o.g,dz,o.ui,by have:=o.t4;lia,by have:=o.g4;lia⟩
structure Way(k:List (aC×Addr))(FA:aA->Sp->Prop)(x:aC)(sp:Sp):Prop where
 w:∃g,k.lookup x=fo g/\FA g sp
theorem c7x(T:cu P pos qual H)(hp:H p=fo (.ins C dx fs))(jt:H pa=fo (.lst xs))(lf:MI p pa H H'):cu P pos qual H':=by
 rcases T with e|⟨c,e1,e2⟩
 .exact .inl (lf _ _ (J7 e hp nofun) (J7 e jt nofun) e)
 .exact .inr ⟨c,lf _ _ (J7 e1 hp nofun) (J7 e1 jt nofun) e1,lf _ _ (J7 e2 hp nofun) (J7 e2 jt nofun) e2⟩
theorem e_.fv(T:LT Pt H)(M:nv P2_ H)(e:il Pt P2_ H H')(h:e_ K C H p L past pa lo):e_ K C H' p L past pa lo:=by
 obtain⟨dx,ba,pv,hp,_,_,jt,_⟩:=h.ex;refine h.jw (X:=λb=>b=Pt\/b=P2_) ⟨λb o n q=>e b o (λz=>n (.inl z)) (λz=>n (.inr z)) q,λx hx=>?_⟩ (λb hb z=>?_) (λz=>z.elim (T.ne hp nofun) (M.ne hp nofun)) λz=>z.elim (T.ne jt nofun) (M.ne jt nofun)
 .rcases hx with rfl|rfl
  .exact Pd T
  .exact Pd M
 .obtain⟨xs,hx⟩:=h.ls b hb;exact z.elim (T.ne hx nofun) (M.ne hx nofun)
structure FE(K:aF)(C Pt P2_:aA)(H:Hp)(p pa:aA)(lo:List aA)(L:DS)(past:List DS):Prop where
 d:e_ K C H p L past pa lo
 l:gu past<=900
 t:LT Pt H
 m:nv P2_ H
def Lf(K:aF)(C Pt P2_:aA)(H:Hp)(p pa:aA)(lo:List aA)(L:DS)(past:List DS)(an:S)(Q:VK):Prop:=∀H' r kl lo',e_ K C H' p L past pa lo'->(∀b o,b≠p->b≠pa->b≠Pt->b≠P2_->H b=fo o->H' b=fo o)->LT Pt H'->nv P2_ H'->(∀b∈lo',b∈lo\/H b=fO)->H' r=fo (.tup [.str an,.ref kl])->H' kl=fo (.lst [])->Q (.ref r) H'
def YD(H:Hp)(ks:List V)(Q:VK):Prop:=∀H' r kl,af H H'->H' r=fo (.tup [.non,.ref kl])->H' kl=fo (.lst ks)->Q (.ref r) H'
section
variable{P:aM}{w:aL}{K:aF}{mg:aC->Option aE}{base:aJ}{C Pt P2_ CL:aA}{kA kD:List (aC×Addr)}{FA:aA->Sp->Prop}{cE cB cH cR cT cM cL:aA}{H:Hp}{p pa:aA}{lo:List aA}{Q:VK}{E:XK}{row:S}{hs:List i8}{z:aC}{past:List DS}{kt kg:Nat}{L L':DS}{f_:List DS}
def b8E(iw:H kl=fO)(e:af (upd H kl (.lst [])) H')(M:EB K ca cE cB cH cR cT cM cL b1 b2 b3 b4 b5 b6)(q:YD H (MK b1 b2 b3 b4 b5 b6) Q):Kn K cE cB cH cR cT cM cL Q (.ref ca) H' :=
 ⟨ca,_,_,_,_,_,_,cm,M,λr k2 H2 e2 h1 h2=>q H2 r k2 ((af.new iw _).trans (e.trans e2)) h1 h2⟩
theorem b8N(e:Pc K H v (.h h)):HS K H v h:=by
 obtain⟨t,ta,ga,rfl,h1,h2,h3⟩:=e;exact⟨t,ta,ga,cm,cq.of h1,cq.of h2,cq.of h3⟩
theorem b9a{lo':List aA}(iw:H kl=fO)(e1:af (upd H kl (.lst [])) H1)(hb:b'∈lo\/H1 b'=fO)(s:∀b∈lo',b=b'\/b∈lo):∀b∈lo',b∈lo\/H b=fO:=λb h=>by
 rcases s b h with rfl|h
 .exact hb.imp id λq=>((af.new iw _).trans e1).free q
 .exact .inl h
theorem b0S(D:FE K C Pt P2_ H p pa lo L past)(iw:H kl=fO)(tl:Lf K C Pt P2_ H p pa lo L' f_ an Q)(e:af (upd H kl (.lst [])) H2)(DK:e_ K C H' p L' f_ pa lo')(sub:∀b∈lo',b∈lo\/H b=fO)(lf:MI p pa H2 H') :
  ∀r,H' r=fO->Q (.ref r) (upd H' r (.tup [.str an,.ref kl])):=by
 intro r hr;obtain⟨dx,ba,pv,hp,_,_,jt,_⟩:=D.d.ex;have e0:=(af.new iw (.lst [])).trans e;have oy:=e0 _ _ hp;have Fo:=e0 _ _ jt;have s3:=af.new hr (.tup [su an,sy kl]);exact tl _ r kl lo' (DK.same s3) (λb o n1 n2 _ _ h=>s3 _ _ (lf b o n1 n2 (e0 _ _ h))) (cu.same (c7x (D.t.same e0) oy Fo lf) s3) (cu.same (c7x (D.m.same e0) oy Fo lf) s3) sub ae (s3 _ _ (lf kl _ (i7 hp iw).symm (i7 jt iw).symm (e _ _ ae)))
theorem f1s(D:FE K C Pt P2_ H p pa lo L past)(iw:H kl=fO)(tl:Lf K C Pt P2_ H p pa lo L past an Q)(e:af (upd H kl (.lst [])) H2)(e1:il Pt P2_ H2 H')(T':LT Pt H')(yx:nv P2_ H') :
  ∀r,H' r=fO->Q (.ref r) (upd H' r (.tup [.str an,.ref kl])):=by
 intro r hr;have e0:=(af.new iw (.lst [])).trans e;have T2:=D.t.same e0;have M2_:=D.m.same e0;have Rz:=e _ _ (ae);have s3:=af.new hr (.tup [su an,sy kl]);exact tl _ r kl lo ((e_.fv T2 M2_ e1 (D.d.same e0)).same s3) (λb o _ _ n3 n4 h=>s3 _ _ (e1 b o n3 n4 (e0 _ _ h))) (cu.same T' s3) (cu.same yx s3) (λb h=>.inl h) ae (s3 _ _ (e1 kl _ (cu.ne T2 Rz nofun) (cu.ne M2_ Rz nofun) Rz))
structure Zw(K:aF)(Pt P2_ cE cB cH cR cT cM cL:aA)(kA kD:List (aC×Addr))(FA:aA->Sp->Prop):Prop where
 nh:kA.lookup ("house":aC)=fO
 nd:kA.lookup ("drop":aC)=fO
 na:kA.lookup ("alter":aC)=fO
 ns:kA.lookup ("sizes":aC)=fO
 nb:kA.lookup ("back":aC)=fO
 nB:kD.lookup ("back":aC)=fO
 ph:Way kD FA "house" (Yx K cB cM)
 pd:Way kD FA "drop" (YC K cH cB)
 pa:Way kD FA "alter" (YE K cH cB)
 ps:Way kD FA "sizes" (YF K)
 pb:Way kA FA "book" (Jt K)
 pr:Way kA FA "rim" (Zl K Pt)
 pl:Way kA FA "levels" (Zn K Pt)
 po:Way kA FA "order" (Zm K Pt P2_)
 p1:Way kA FA "alone" (Zq K cH)
 p2:Way kA FA "scale" (Zk K cH Pt)
 ne:P2_≠Pt
 mB:EB K cB cE cB cH cR cT cM cL true false false false false false
 mH:EB K cH cE cB cH cR cT cM cL false true false false false false
 mR:EB K cR cE cB cH cR cT cM cL false false true false false false
 mM:EB K cM cE cB cH cR cT cM cL false false false false true false
 mL:EB K cL cE cB cH cR cT cM cL false false false false false true
def b9h(K:aF)(C Pt P2_:aA)(H:Hp)(p pa:aA)(lo:List aA)(Q:VK):vg->Prop
 |.no x=>YD H (Po x) Q
 |.ok an L past=>Lf K C Pt P2_ H p pa lo L past an Q
def BY(M:nv P2_ H1)(T:LT Pt H1)(ne:P2_≠Pt)(e:bj Pt H1 H'):nv P2_ H':=cu.other T M ne e
theorem a6N(D:FE K C Pt P2_ H p pa lo (hs,z) past)(ob:kd kt kg hs)(hz:O4 z)(ha:J6 row)(hl:row.length<=100000)(hb:W5 (cs row)=false)(W:Zw K Pt P2_ cE cB cH cR cT cM cL kA kD FA)
  (q:∀r,Due kt kg hs z past r (U6 row)->b9h K C Pt P2_ H p pa lo Q r):YA K C cL cR cE cB cH cR cT cM cL kA kD FA [.ref p,.str row] H Q E:=by
 obtain⟨dx,ba0,pv,hp,_,_,jt,_⟩:=D.d.ex;refine⟨p,dx,_,row,cm,hp,cm,λkl iw Q1 E1 hQ hE=>?_⟩;have s1:=af.new iw (.lst []);have no:∀{c:aA}{x:aC}{b1 b2 b3 b4 b5 b6:Bool}{H':Hp},EB K c cE cB cH cR cT cM cL b1 b2 b3 b4 b5 b6->Po x=MK b1 b2 b3 b4 b5 b6->af (upd H kl (.lst [])) H'->Due kt kg hs z past (.no x) (U6 row)->E1 (.ref c) fO H':=λM hx e d=>by
  have q1:YD H (Po _) Q:=q _ d;rw[hx] at q1;exact hE _ _ (b8E iw e M q1)
 refine⟨p,pa,row,(hs,z),past,lo,cm,D.d.same s1,bF D.l dz,ha,hl,λe H' e'=>no (x:="NoRow") W.mR dz e' ?_,λwd ts e l us ba H1 e1 Jm Ph ym BW=>?_⟩
 .cases er:U6 row with
  |none=>rfl
  |some r=>obtain⟨wd,ts,e2⟩:=f1E er;rw[e] at e2;cases e2
 obtain⟨rw,eo,SD⟩:=Sx hb e;rw[eo] at q no;obtain⟨xs,hx,hB⟩:=BW;have xl:gu xs=gu hs:=dE hB;have Bi:=ob.bin hx hB;have T1:=(D.t.same s1).same e1;have zJ:=(D.m.same s1).same e1;have ask:∀{sp:Sp},Way kA FA wd sp->sp [.ref ba,.str z,.ref l] H1 Q1 E1->(∀g,kA.lookup wd=fo g->∃sp,FA g sp/\sp [.ref ba,.str z,.ref l] H1 Q1 E1)/\(kA.lookup wd=fO->∀g,kD.lookup wd=fo g->∃sp,FA g sp/\∀Q':VK,(∀v H2,(y_ λt an b' z' dt=>v=.ref t/\H2 t=fo (.tup [.str an,.ref b',.str z'])/\af H1 H2/\Ez K H2 b' dt/\b'≠pa/\∀H' lo',e_ K C H' p (dt,z') (past++[(hs,z)]) pa lo'->(∀b∈lo',b=b'\/b∈lo)->MI p pa H2 H'->Q1 (.str an) H')->Q' v H2)->sp [.ref ba,.str z,.ref l] H1 Q' E1)/\(kA.lookup wd=fO->kD.lookup wd=fO->MJ K C cL [.ref p] H1 Q1 E1):=λ{sp}W h=>by
  obtain⟨g,hg,hF⟩:=W.w;refine⟨λg' h'=>?_,λh'=>(by rw[hg] at h';cases h'),λh'=>(by rw[hg] at h';cases h')⟩;rw[hg] at h';cases h';exact⟨_,hF,h⟩
 have told:∀{an:S}{H':Hp},Due kt kg hs z past (.ok an (hs,z) past) (fo rw)->il Pt P2_ H1 H'->LT Pt H'->nv P2_ H'->Q1 (.str an) H':=λd e' L' yx=>hQ _ _ (f1s D iw (q _ d) e1 e' L' yx);have HL:∀{sp:Sp},kA.lookup wd=fO->Way kD FA wd sp->(∀Q':VK,(∀t an b' z' Ho dt H2,Due kt kg hs z past (.ok an (dt,z') (past++[(hs,z)])) (fo rw)->H2 t=fo (.tup [.str an,.ref b',.str z'])->af H1 H2->H2 b'=fo (.lst Ho)->Bk K H2 Ho dt->(b'∈lo\/H1 b'=fO)->Q' (.ref t) H2)->sp [.ref ba,.str z,.ref l] H1 Q' E1)->(∀g,kA.lookup wd=fo g->∃sp,FA g sp/\sp [.ref ba,.str z,.ref l] H1 Q1 E1)/\(kA.lookup wd=fO->∀g,kD.lookup wd=fo g->∃sp,FA g sp/\∀Q':VK,(∀v H2,(y_ λt an b' z' dt=>v=.ref t/\H2 t=fo (.tup [.str an,.ref b',.str z'])/\af H1 H2/\Ez K H2 b' dt/\b'≠pa/\∀H' lo',e_ K C H' p (dt,z') (past++[(hs,z)]) pa lo'->(∀b∈lo',b=b'\/b∈lo)->MI p pa H2 H'->Q1 (.str an) H')->Q' v H2)->sp [.ref ba,.str z,.ref l] H1 Q' E1)/\(kA.lookup wd=fO->kD.lookup wd=fO->MJ K C cL [.ref p] H1 Q1 E1):=λ{sp}nA W h=>by
  obtain⟨g,hg,hF⟩:=W.w;refine⟨λg' h'=>(by rw[nA] at h';cases h'),λ_ g' h'=>?_,λ_ h'=>(by rw[hg] at h';cases h')⟩;rw[hg] at h';cases h';refine⟨_,hF,λQ' KP=>h Q' λt an b' z' Ho dt H2 d ht e2 ou Yt hf=>(KP _ _ ⟨t,an,b',z',dt,cm,ht,e2,⟨Ho,ou,Yt⟩,?_,λH3 lo' DK sub lf=>hQ _ _ (b0S D iw (q _ d) (e1.trans e2) DK (b9a iw e1 hf sub) lf)⟩)⟩
  .rcases hf with hf|hf
   .exact λz0=>D.d.no (z0▸hf)
   .exact(i7 (e1 _ _ (s1 _ _ jt)) hf).symm
 have nh:∀{n:Int},(¬n<gu hs->Due kt kg hs z past (.no "NoHouse") (fo rw))->0<=n->¬AA (gu xs) n->E1 (.ref cH) fO H1:=λ{n}d n0 g=>no (x:="NoHouse") W.mH dz e1 (d λh=>g ⟨n0,by rw[xl];exact h⟩);have FF:∀{h:i8},jg h->(ef h kt kg ↔ zd kt kg h):=λ{h}an=>⟨λg=>⟨g.hg.lt,g.hg.lg⟩,λ⟨a,b⟩=>by have:=an.2.2;rw[a,b] at this;exact this⟩;cases SD with
 |@put h an =>
  cases Ph with
  |cons hv hn =>
  cases hn;have Lx:=b8N hv;refine HL W.nh W.ph λQ' KP=>⟨ba,l,xs,_,hs,z,_,h,kt,kg,cm,hx,hB,ob.l1,ob.ui,ob.k,ob.t4,ob.g4,Jm,cm,Lx,⟨by have:=an.1.2;lia,by have:=an.2.1.2;lia⟩,λgk ui t r H2 e2 BO ht hr=>?_,λW5 H2 e2=>no (x:="NoBook") W.mB dz (e1.trans e2) ?_,λgk ui H2 e2=>no (x:="TooMany") W.mM dz (e1.trans e2) ?_⟩
  .refine KP t _ r z _ _ H2 ?_ ht e2 hr (aZ.app (Bk.same e2 hB) (.cons (Lx.same e2) .nil)) (.inr BO);show _=ite _ _ _;rw[qg ((FF an).mp gk),qf eX]
  .show _=ite _ _ _;rw[qf (λc=>W5 ((FF an).mpr c))]
  .show _=ite _ _ _;rw[qg ((FF an).mp gk),qg (by have:=ob.ui;lia)]
 |@yv x f' =>
  cases Ph with
  |cons hv hn =>
  cases hn;cases hv;exact HL W.ns W.ps λQ' KP=>⟨_,z,l,_,_,cm,Jm,cm,λt H2 e2 ht=>(KP t _ ba _ _ hs H2 rfl ht e2 (e2 _ _ hx) (Bk.same e2 hB) (.inl ym))⟩
 |@alter n h n0 n9 an =>
  cases Ph with
  |cons hv hn =>
  cases hn with
  |cons hv2 hn =>
  cases hn;cases hv;have Lx:=b8N hv2;have lm:n.natAbs.log2<1920:=Mr n0 n9;refine HL W.na W.pa λQ' KP=>⟨ba,l,xs,_,hs,z,n,_,h,kt,kg,cm,hx,hB,ob.l1,ob.ui,ob.k,ob.t4,ob.g4,Jm,cm,lm,cm,Lx,⟨by have:=an.1.2;lia,by have:=an.2.1.2;lia⟩,λi hi nj gk t r H2 e2 BO ht hr=>?_,λW5 H2 e2=>no (x:="NoHouse") W.mH dz (e1.trans e2) ?_,λgd W5 H2 e2=>no (x:="NoBook") W.mB dz (e1.trans e2) ?_⟩
  .subst hi;refine KP t _ r z _ _ H2 ?_ ht e2 hr (aZ.app (aZ.app (aZ.take i (Bk.same e2 hB)) (.cons (Lx.same e2) .nil)) (aZ.drop (i+1) (Bk.same e2 hB))) (.inr BO);show _=ite _ _ _;rw[qg eX,qg ((FF an).mp gk),cF]
  .show _=ite _ _ _;rw[qf (λh=>W5 ⟨n0,by rw[xl];exact h⟩)]
  .show _=ite _ _ _;rw[qg (by have:=gd.2;lia),qf (λc=>W5 ((FF an).mpr c))]
 |@num w n f hk n0 n9 =>
  cases Ph with
  |cons hv hn =>
  cases hn;cases hv;have lm:n.natAbs.log2<1920:=Mr n0 n9;have hm:=MG hk;simp only[xu,bH,dJ,or_false,pQ] at hm;rcases hm with⟨rfl,rfl⟩|⟨rfl,rfl⟩|⟨rfl,rfl⟩
  .refine HL W.nd W.pd λQ' KP=>⟨ba,l,xs,_,z,n,cm,hx,by have:=ob.ui;lia,Jm,cm,lm,λi hi nj h2 t r H2 e2 BO ht hr=>?_,λW5 H2 e2=>no (x:="NoHouse") W.mH dz (e1.trans e2) ?_,λgd h1 H2 e2=>no (x:="NoBook") W.mB dz (e1.trans e2) ?_⟩
   .subst hi;refine KP t _ r z _ _ H2 ?_ ht e2 hr (aZ.app (aZ.take i (Bk.same e2 hB)) (aZ.drop (i+1) (Bk.same e2 hB))) (.inr BO);show _=ite _ _ _;rw[qg eX,qf eX,cF];rfl
   .show _=ite _ _ _;rw[qf (λh=>W5 ⟨n0,by rw[xl];exact h⟩)]
   .show _=ite _ _ _;rw[qg (by have:=gd.2;lia),qg eX]
  .refine ask W.p1 ⟨ba,l,_,xs,_,hs,n,kt,kg,cm,Bi,ob.t1,Jm,cm,lm,λi h H' hi hh e'=>told ?_ e'.to2 (T1.same e') (zJ.same e'),nh (λh=>?_) n0⟩
   .subst hi;have nj:=(cA.mp hh).1;show _=ite _ _ _;rw[qg eX,cF,bA,hh];rfl
   .show _=ite _ _ _;rw[qf h]
  .refine ask W.p2 ⟨ba,l,_,xs,_,hs,n,kt,kg,cm,Bi,ob.t1,Jm,cm,lm,T1,λi h H' t hi hh X e' L'=>told (.inr ⟨t,?_,?_,cm⟩) e'.to2 L' (BY zJ T1 W.ne e'),nh (λh=>.inl ⟨h,cm⟩) n0⟩
   .have nj:=(cA.mp hh).1;lia
   .subst hi;rw[cF,bA,hh];exact X
 |@zero w r hr =>
  have hm:=MG hr;simp only[RB,bH,dJ,or_false,pQ] at hm;rcases hm with⟨rfl,rfl⟩|⟨rfl,rfl⟩|⟨rfl,rfl⟩|⟨rfl,rfl⟩
  .exact⟨λg h=>(by rw[W.nb] at h;cases h),λ_ g h=>(by rw[W.nB] at h;cases h),λ_ _=>⟨p,pa,(hs,z),past,lo,cm,(D.d.same s1).same e1,λe0 H' e'=>no W.mL dz (e1.trans e') (.inl ⟨e0,cm⟩),λyt L0 e0 H' DK lf=>hQ _ _ (b0S D iw (q _ (.inr ⟨L0,yt,e0,cm⟩)) e1 DK (λb h=>.inl h) lf)⟩⟩
  .exact ask W.pl ⟨ba,_,xs,hs,z,kt,kg,cm,hz,Bi,ob.t1,T1,λH' e' L'=>told rfl e'.to2 L' (BY zJ T1 W.ne e')⟩
  .exact ask W.po ⟨ba,_,xs,hs,z,kt,kg,cm,hz,Bi,ob.t1,T1,zJ,W.ne,λos ns H' h1 h2 e' L' yx=>told ⟨os,ns,h1,h2,cm⟩ e' L' yx⟩
  .exact ask W.pr ⟨ba,_,xs,hs,z,kt,kg,cm,hz,Bi,T1,λH' e' L'=>told rfl e'.to2 L' (BY zJ T1 W.ne e')⟩
end
section
variable{P:aM}{w:aL}{K:aF}{mg:aC->Option aE}{base:aJ}{f Pt P2_ CN:aA}{fd:aK}{n:Nat}
abbrev f3c:List aC:=["book","sizes","words","top","bottom","text"]
def xj:p7 f3c ["book","sizes","words"] (i9 Ds):=⟨cm,cm,cm,de,cm,de,de⟩
def f3k:(["level"]:List aC).Nodup:=fg
structure yP(P:aM)(w:aL)(K:aF)(mg:aC->Option aE)(base:aJ)(n:Nat)(CN Pt P2_:aA)(f1 f2 f3 f4 f5 f6:aA)(d1 d2 d3 d4 d5 d6:aK):Prop where
 l:C9 P w K mg base n "levels" ["book","sizes"] (KZ K Pt) f1 d1
 s:CZ P w K mg base n "standing" ["book","sizes"] (KR K Pt P2_) f2 d2
 r:C9 P w K mg base n "rim_of" ["book","sizes"] (RL K Pt) f3 d3
 c:vn P w K mg base n "scale" ["book","number"] (J1 K CN Pt) f4 d4
 a:vn P w K mg base n "share_alone" ["book","number"] (Fu K CN) f5 d5
 n:C9 P w K mg base n "_law_a_numbers" ["numbers"] (Zt K) f6 d6
variable{f1 f2 f3 f4 f5 f6:aA}{d1 d2 d3 d4 d5 d6:aK}
def f3u(T:v8 mg)(zs:mg "str"=fO)(C:yP P w K mg base n CN Pt P2_ f1 f2 f3 f4 f5 f6 d1 d2 d3 d4 d5 d6)
  (hr:b_ n (A.deeper (cD "_law_asked" (i9 Ds) s.heap.objs.size f ay))) :
  {t:TS//fu (N8 J8 P w K mg base f3c "_law_asked" (i9 Ds) f ay A outer s H E).oi (x9 Ds) t} :=
 ⟨_,j0 (w6 (l5 E6 (l8 j5 (pv 2) d0 λ_ _=>rfl) l9 (r9 _)) (j4 (o4 (K7 eP hZ iA W4 l9 (c6 (N6 ["level"] [] rfl (C6 (C.l.c hr (c6 (pv 0) (c6 (pv 1) c7)))) (λ_ _ _ _=>j9 (i:=0) f3k rfl (aI rfl)) (λ_ _ _ _=>C.n.c hr (c6 (pv 0) c7))) c7)))) r8)
  (j0 (w6 (l5 E6 (l8 j5 (pv 2) d0 (λ_ _=>rfl)) l9 (r9 _)) (j4 (o4 (C.n.c hr (c6 (C.s.c hr (c6 (pv 0) (c6 (pv 1) c7))) c7)))) r8)
  (j0 (w6 (l5 E6 (l8 j5 (pv 2) d0 (λ_ _=>rfl)) l9 (r9 _)) (j4 (o4 (C.n.c hr (c6 (C.r.c hr (c6 (pv 0) (c6 (pv 1) c7))) c7)))) r8)
  (j0 (w6 (l5 E6 (l8 j5 (pv 2) d0 (λ_ _=>rfl)) l9 (r9 _)) (j4 (o4 (l7 C.c.ok hr rfl C.c.m C.c.k C.c.b .nil RA (c6 (pv 0) (c6 (v5 DO rfl T.int lJ (c6 (l8 j5 (pv 2) d0 (λ_ _=>rfl)) c7)) c7))))) r8)
  (j0 (D3 (l8 U8 (l7 C.a.ok hr rfl C.a.m C.a.k C.a.b .nil RA (c6 (pv 0) (c6 (v5 DO rfl T.int lJ (c6 (l8 j5 (pv 2) d0 (λ_ _=>rfl)) c7)) c7))) d0 (λ_ _=>rfl)) (K4 rfl (p6 (j9 (i:=3) xj.nd rfl (aI rfl)) (p6 (j9 (i:=4) xj.nd rfl (aI rfl)) A4))))
  (j0 (r6 (i:=5) xj.nd rfl (aI rfl) (l8 j5 (v9 (c6 (j8 E2 (j8 E2 (v5 E5 rfl zs iB (c6 (pv 3) c7)) l9) (v5 E5 rfl zs iB (c6 (pv 4) c7))) (c6 (v5 E5 rfl zs iB (c6 (pv 3) c7)) c7))) (v5 TH rfl T.int lJ (c6 (Z3 E6 (pv 4) d0 (r9 _)) c7)) (λ_ _=>rfl)))
  (j4 (o4 (j8 E2 (j8 E2 (pv 5) l9) (v5 E5 rfl zs iB (c6 (l8 U8 (l7 C.a.ok hr rfl C.a.m C.a.k C.a.b .nil RA (c6 (pv 0) (c6 (v5 DO rfl T.int lJ (c6 (l8 j5 (pv 2) d0 (λ_ _=>rfl)) c7)) c7))) d0 (λ_ _=>rfl)) c7))))))))))⟩
theorem f1f{n}(h:w4 x=fo n):intText? x=fo n/\x.length<=10:=by
 unfold w4 at h;split at h
 .rename_i hi
  cases h;unfold A5 at hi;simp only[fQ,decide_eq_true_eq,fE] at hi;obtain⟨⟨⟨h1,hl⟩,hd⟩,_⟩:=hi;have lz:=Tx.d_ x;refine⟨PySem.intText_digits (λc hc=>hd c hc) (λe=>?_) dj,dj⟩;have e:cs x=[]:=e;rw[e] at h1;simp at h1
 .cases h
def Fp(kt kg:Nat)(hs:List i8)(z:aC)(r:Rw)(an:S):Prop:=∀past,Due kt kg hs z past (.ok an (hs,z) past) (fo r)
inductive AO(hs:List i8):List S->Rw->Prop
 |levels:AO hs [("levels":aC)] .levels
 |order:AO hs [("order":aC)] .order
 |Dl:AO hs [("rim":aC)] .Dl
 |scale {x n}:w4 x=fo n->n<gu hs->AO hs [("scale":aC),x] (.scale n)
 |alone {x n}:w4 x=fo n->n<gu hs->AO hs [("alone":aC),x] (.alone n)
inductive Lg(K:aF)(Pt P2_:aA)(vs:List V)(H:Hp)(Q:VK)(sH:XK):Prop|mk:∀ba wl xs hs z ws r kt kg,vs=[.ref ba,.str z,.ref wl]->O4 z->kd kt kg hs->H ba=fo (.lst xs)->Bk K H xs hs->H wl=fo (.lst (ws.map su))->AO hs ws r->LT Pt H->nv P2_ H->P2_≠Pt->(∀an H',Fp kt kg hs z r an->il Pt P2_ H H'->LT Pt H'->nv P2_ H'->Q (.str an) H')->Lg K Pt P2_ vs H Q sH
def f2X(h:a≠b):¬decide (su a=su b)=true:=λc=>h (V.str.inj (qh c))
theorem zk{B:Prop}(h:a≠b)(hB:B):if decide (su a=su b)=true then A else B:=by simp_all
theorem f1T(F:Ay K "_law_asked" Ds f fd)(T:v8 mg)(zs:mg "str"=fO)(C:yP P w K mg base n CN Pt P2_ f1 f2 f3 f4 f5 f6 d1 d2 d3 d4 d5 d6):bf P w K mg base J8 (n+1) f fd ["book","sizes","words"] (Lg K Pt P2_):=by
 refine F.oa xj λay A outer s H vs Q E hr h=>?_;obtain⟨ba,wl,xs,hs,z,ws,r,kt,kg,rfl,hz,ob,hx,hB,hw,ia,L,M,ne,q⟩:=h;refine⟨_,(f3u T zs C hr).2,?_⟩;have Bi:=ob.bin hx hB;obtain⟨w0,wr,e0⟩:s_ λw0 wr=>ws=w0::wr:=by cases ia<;>exact⟨_,_,cm⟩
 have KV:U7 (ws.map su) 0=fo (.str w0):=by rw[e0];exact A2 rfl
 refine⟨_,cm,wl,_,_,_,cm,cm,ah.of hw,KV,cm,_,cm,?_⟩;cases ia with
 |levels =>
  cases e0;exact J3 ⟨cm,_,cm,_,cm,ba,xs,hs,z,10^9,kt,kg,cm,hz,Bi,dz,ob.t1,L,λH1 r as e1 L1 _ GN hN _=>⟨r,cm,⟨_,ah.of GN⟩,λp hp=>(c9k GN hN (c8o ob.ui) hp (λa l H2 N h m Fc=>by exact⟨_,cm,a,_,cm,h,m,Fc⟩) λH2 e2=>q _ _ (λ_=>rfl) (e1.trans e2.ka).to2 (L1.same e2) (cu.same (BY M L ne e1) e2))⟩⟩
 |order =>
  cases e0;exact zk de ⟨_,cm,wl,_,_,_,cm,cm,ah.of hw,KV,cm,_,cm,J3 ⟨_,cm,_,cm,ba,xs,hs,z,10^9,kt,kg,cm,hz,Bi,ob.ui,ob.t1,L,M,ne,λos ns l H1 O S e1 L1 zJ _ GN=>⟨l,ns,cm,ah.of GN,c8C S (O.1▸ob.ui),λH2 e2=>q _ H2 (λ_=>⟨os,ns,O,S,cm⟩) (e1.trans e2.to2) (L1.same e2) (zJ.same e2)⟩⟩⟩
 |Dl =>
  cases e0;refine zk de ⟨_,cm,wl,_,_,_,cm,cm,ah.of hw,KV,cm,_,cm,zk de ⟨_,cm,wl,_,_,_,cm,cm,ah.of hw,KV,cm,_,cm,J3 ⟨_,cm,_,cm,ba,xs,hs,z,10^9,kt,kg,cm,hz,Bi,dz,L,λH1 r e1 L1 _ GN=>?_⟩⟩⟩;rw[show(Jg z hs).map (λ(i:Nat)=>sh (i:Int))=_ from Zi _] at GN;exact⟨r,_,cm,ah.of GN,b3h ob.ui,λH2 e2=>q _ H2 (λ_=>rfl) (e1.trans e2.ka).to2 (L1.same e2) (cu.same (BY M L ne e1) e2)⟩
 |@scale x n h1 h2 =>
  cases e0;obtain⟨t1,t2⟩:=f1f h1;obtain⟨n0,n9⟩:=AM h1;have zK:U7 ([("scale":aC),x].map su) 1=fo (.str x):=A2 rfl;refine zk de ⟨_,cm,wl,_,_,_,cm,cm,ah.of hw,KV,cm,_,cm,zk de ⟨_,cm,wl,_,_,_,cm,cm,ah.of hw,KV,cm,_,cm,zk de ⟨_,cm,wl,_,_,_,cm,cm,ah.of hw,KV,cm,_,cm,J3 ⟨_,cm,_,cm,wl,_,_,_,cm,cm,ah.of hw,zK,x,n,cm,t1,dj,ba,xs,hs,n,10^9,kt,kg,cm,Bi,ob.t1,Mr n0 n9,L,λi h H1 t hi hh X e1 L1=>(q t H1 (λ_=>.inr ⟨t,h2,?_,cm⟩) e1.to2 L1 (BY M L ne e1)),λW5=>absurd ⟨n0,by rw[dE hB];exact h2⟩ W5⟩⟩⟩⟩;subst hi;rw[cF,bA,hh];exact X
 |@alone x n h1 h2 =>
  cases e0;obtain⟨t1,t2⟩:=f1f h1;obtain⟨n0,n9⟩:=AM h1;have zK:U7 ([("alone":aC),x].map su) 1=fo (.str x):=A2 (j:=1) rfl;refine zk de ⟨_,cm,wl,_,_,_,cm,cm,ah.of hw,KV,cm,_,cm,zk de ⟨_,cm,wl,_,_,_,cm,cm,ah.of hw,KV,cm,_,cm,zk de ⟨_,cm,wl,_,_,_,cm,cm,ah.of hw,KV,cm,_,cm,zk de ?_⟩⟩⟩;have gd:¬¬AA (gu xs) n:=λW5=>W5 ⟨n0,by rw[dE hB];exact h2⟩;refine⟨_,cm,_,cm,wl,_,_,_,cm,cm,ah.of hw,zK,x,n,cm,t1,eX,ba,xs,hs,n,kt,kg,cm,ah.of hx,hB,ob.g,ob.t1,by have:=ob.g4;lia,Mr n0 n9,λi h hi hh v H1 e1 hv=>?_,λW5=>absurd W5 gd⟩;obtain⟨⟨tJ,k⟩,eb⟩:=aAL.mp ((Fx hh (gu hs) (default,0)).2 ((cA.mp hh).1));have hk:k<gu hs:=(Fx hh (gu hs) _).1 eb;rw[eb] at hv;obtain⟨a,u,rfl,ha,⟨ua_,rfl,hua⟩,hA⟩:=hv;refine⟨a,_,_,_,cm,cm,cq.of ha,cm,ua_,_,cm,cq.of hua,cm,_,_,cm,_,_,cm,cm,?_⟩;have k1:(x6 tJ.1).length<=10:=Bq hA.t0 (by have:=hA.t1;lia);have k2:(x6 tJ.2).length<=10:=Bq (by have:0<tJ.2:=hA.c.1;lia) (by have:=hA.b1;lia);have ks:=bE;refine⟨_,cm,_,cm,hA.Dk.1,_,_,cm,cm,(by show(x6 tJ.1).length+1<=jb;lia),_,cm,_,cm,hA.Dk.2,_,_,cm,cm,?_,_,cm,_,cm,hA.Dk.1,aw,λl hl=>?_⟩
  .show(x6 tJ.1++("/":aC)).length+(x6 tJ.2).length<=jb;have:(x6 tJ.1++("/":aC)).length=(x6 tJ.1).length+1:=by
    rw[Tx.d_,Tx.d_,Tx.bu,aX];rfl
   lia
  refine⟨_,cm,cm,.inr ⟨_,cm,l,_,(if decide (sh tJ.2=sh 1) then 1 else 0),.str (De tJ),cm,cm,ah.of ae,?_,_,cm,?_⟩⟩
  .by_cases c:tJ.2=1
   .rw[qg (by rw[c];exact qk rfl)];refine(A2 (j:=1) rfl).trans ?_;unfold De;rw[qg c];rfl
   .rw[qf (λh=>c (V.int.inj (qh h)))];refine(A2 (j:=0) rfl).trans ?_;unfold De;rw[qf c];refine rd (λx=>fo (su x)) (Tx.ext ?_);rw[Tx.bu,Tx.bu,Tx.bu,Tx.bu,dC];exact rd (cs (x6 tJ.1)++·) (rd (cs ("/":aC)++·) (((Tx.bu _ _).trans (fP _)).symm))
  have e2:af H (upd H1 l (.lst [.str (x6 tJ.1++("/":aC)++x6 tJ.2),.str (x6 tJ.1)])):=e1.trans (af.new hl _);have fl:=f1t hA;refine⟨_,_,cm,cm,(by show(De tJ).length+1<=jb;lia),_,cm,_,cm,wl,_,_,_,cm,cm,ah.of (e2 _ _ hw),zK,x,n,cm,t1,eX,ba,xs,hs,n,kt,kg,cm,ah.of (e2 _ _ hx),hB.same e2,ob.g,ob.t1,by have:=ob.g4;lia,Mr n0 n9,λi' h' Ek Kp v' H3 e3 Lx=>?_,λW5=>absurd W5 gd⟩;obtain rfl:i'=i:=eX;obtain rfl:h'=h:=bD (Kp.symm.trans hh);rw[eb] at Lx;obtain⟨a',u',rfl,ha',_,_⟩:=Lx;refine⟨a',_,_,_,cm,cm,cq.of ha',cm,?_⟩;have ui:=ob.ui;have k3:(x6 (k:Int)).length<=10:=Bq (by lia) (by lia);have lf:(De tJ++(" ":aC)).length=(De tJ).length+1:=by
   rw[Tx.d_,Tx.d_,Tx.bu,aX];rfl
  refine⟨_,cm,Mr eX eX,_,_,cm,cm,(by show(De tJ++(" ":aC)).length+(x6 (k:Int)).length<=jb;lia),q _ H3 (λpast=>?_) (e2.trans e3).to2 (L.same (e2.trans e3)) (BY M L ne (e2.trans e3).ka)⟩;have ea:Dy hs h'=De tJ++(" ":aC)++x6 (k:Int):=by
   unfold Dy;rw[eb];refine Tx.ext ?_;show cs (De tJ++(ch 32++(x6 (k:Int)++eI)))=_;rw[Tx.bu,Tx.bu,Tx.bu,Tx.bu,Tx.bu,dC];exact rd (cs (De tJ)++·) (rd (cs (" ":aC)++·) (fP _))
  have eh:hs.getD n.toNat ([],[])=h':=by
   rw[hi,cF,bA,hh];rfl
  refine zD ?_ (qg h2).symm;rw[eh,ea];rfl
end
section
variable{P:aM}{w:aL}{K:aF}{mg:aC->Option aE}{base:aJ}{f:aA}{fd:aK}{n:Nat}
abbrev f2H:List aC:=["past","words","number","book","sizes","house","more"]
def DA:p7 f2H ["past","words","number"] (i9 Dt):=⟨cm,cm,cm,de,cm,de,de⟩
def f3i{fa:aA}{da:aK}(T:v8 mg)(zs:mg "str"=fO)(C:C9 P w K mg base n "_law_a_house" ["word"] (My K) fa da)
  (hr:b_ n (A.deeper (cD "_law_put" (i9 Dt) s.heap.objs.size f ay))) :
  {t:TS//fu (N8 J8 P w K mg base f2H "_law_put" (i9 Dt) f ay A outer s H E).oi (x9 Dt) t} :=
 ⟨_,j0 (D3 (l8 j5 (pv 0) (Eh V2 d0) λ_ _=>rfl) (K4 rfl (p6 (j9 (i:=3) DA.nd rfl (aI rfl)) (p6 (j9 (i:=4) DA.nd rfl (aI rfl)) A4))))
  (j0 (r6 (i:=5) DA.nd rfl (aI rfl) (l8 j5 (pv 3) d0 (λ_ _=>rfl)))
  (t8 (w6 (l5 Ei (l8 j5 (pv 1) d0 (λ_ _=>rfl)) l9 (r9 _)) (j4 (r6 (i:=5) DA.nd rfl (aI rfl) (C.c hr (c6 (l8 j5 (pv 1) (Eh V2 d0) (λ_ _=>rfl)) c7)))) r8)
  (j0 (w6 (l5 Lv (pv 5) D5 (r9 _)) (j4 (o4 (v9 (c6 (l9) (c6 (l9) c7))))) r8)
  (t8 (w6 (PW.pt (Gv (l5 Ei (l8 j5 (pv 1) d0 (λ_ _=>rfl)) l9 (r9 _)) (T4 (l5 Qb (pv 2) (j7 j6 rfl T.len bB (c6 (pv 3) c7)) (r9 _))))) (j4 (o4 (v9 (c6 (l9) (c6 (l9) c7))))) r8)
  (t8 (w6 (l5 (JU hr) (v9 (c6 (j7 j6 rfl T.len bB (c6 (l8 U8 (pv 5) d0 (λ_ _=>rfl)) c7)) (c6 (j7 j6 rfl T.len bB (c6 (l8 U8 (pv 5) d0 (λ_ _=>rfl)) c7)) c7))) (v9 (c6 (j7 j6 rfl T.len bB (c6 (l8 U8 (l8 j5 (pv 3) d0 (λ_ _=>rfl)) d0 (λ_ _=>rfl)) c7)) (c6 (j7 j6 rfl T.len bB (c6 (l8 U8 (l8 j5 (pv 3) d0 (λ_ _=>rfl)) d0 (λ_ _=>rfl)) c7)) c7))) (r9 _)) (j4 (o4 (v9 (c6 (l9) (c6 (l9) c7))))) r8)
  (j0 (w6 (l5 E6 (l8 j5 (pv 1) d0 (λ_ _=>rfl)) l9 (r9 _)) (j0 (w6 (l5 E6 (j7 j6 rfl T.len bB (c6 (pv 3) c7)) d0 (r9 _)) (j4 (o4 (v9 (c6 (l9) (c6 (l9) c7))))) r8) (j0 (R3 (K7 iK jW jX P2 (pv 0) (c6 (A9 (c6 (j8 B9 (pv 3) (v9 (c6 (pv 5) c7))) (c6 (pv 4) c7))) c7))) (j4 (o4 (v9 (c6 (l9) (c6 (v5 E5 rfl zs iB (c6 (j7 j6 rfl T.len bB (c6 (pv 3) c7)) c7)) c7))))))) r8)
  (t8 (w6 (PW.pt (Gv (l5 E6 (l8 j5 (pv 1) d0 (λ_ _=>rfl)) l9 (r9 _)) (T4 (l5 E6 (j7 j6 rfl T.len bB (c6 (pv 3) c7)) d0 (r9 _))))) (j4 (o4 (v9 (c6 (l9) (c6 (l9) c7))))) r8)
  (j0 (r6 (i:=6) DA.nd rfl (aI rfl) (j8 Q6 (v9 (c6 (pv 5) c7)) (v5 TH rfl T.int lJ (c6 (Z3 E6 (l8 j5 (pv 1) d0 (λ_ _=>rfl)) l9 (r9 _)) c7))))
  (j0 (R3 (K7 iK jW jX P2 (pv 0) (c6 (A9 (c6 (j8 B9 (j8 B9 (B7 M0 (pv 3) G1 (B8 (pv 2))) (pv 6)) (B7 M0 (pv 3) (B8 (j8 D4 (pv 2) d0)) G1)) (c6 (pv 4) c7))) c7)))
  (j4 (o4 (v9 (c6 (l9) (c6 (l9) c7))))))))))))))⟩
end
structure DD(K:aF)(H:Hp)(pl:aA)(yy:List DS)(lo:List aA):Prop where
 no:pl ∉ lo
 ls:∀b∈lo,∃xs,H b=fo (.lst xs)
 ex:∃pv,H pl=fo (.lst pv)/\sr K H lo pv yy
def LfL(Pt P2_ pl:aA)(H H':Hp):Prop:=∀b o,b≠pl->b≠Pt->b≠P2_->H b=fo o->H' b=fo o
def ub(K:aF)(Pt P2_:aA)(H:Hp)(pl:aA)(lo:List aA)(Q:VK):vg->Prop
 |.no x=>∀H' r,af H H'->H' r=fo (.lst [.str x,.str ""])->Q (.ref r) H'
 |.ok an L past=>∀H' r lo',DD K H' pl (past++[L]) lo'->LfL Pt P2_ pl H H'->LT Pt H'->nv P2_ H'->(∀b∈lo',b∈lo\/H b=fO)->H' r=fo (.lst [.str "",.str an])->Q (.ref r) H'
theorem DD.jw(e:zp X H H')(n:∀b∈lo,¬X b)(np:¬X pl)(h:DD K H pl yy lo):DD K H' pl yy lo:=by
 obtain⟨pv,h1,h2⟩:=h.ex;exact⟨h.no,λb hb=>by obtain⟨xs,q⟩:=h.ls b hb;exact⟨xs,e.k _ _ (n b hb) q⟩,pv,e.k _ _ np h1,sr.jw e n (λ_ h=>h) h2⟩
def DD.same(e:af H H')(h:DD K H pl yy lo):DD K H' pl yy lo :=
 h.jw ⟨λb o _ q=>e b o q,λ_ x=>x.elim⟩ (λ_ _ x=>x) λx=>x
theorem DD.fv(T:LT Pt H)(M:nv P2_ H)(e:il Pt P2_ H H')(h:DD K H pl yy lo):DD K H' pl yy lo:=by
 obtain⟨pv,h1,_⟩:=h.ex;refine h.jw (X:=λb=>b=Pt\/b=P2_) ⟨λb o n q=>e b o (λz=>n (.inl z)) (λz=>n (.inr z)) q,λx hx=>?_⟩ (λb hb z=>?_) λz=>z.elim (T.ne h1 nofun) (M.ne h1 nofun)
 .rcases hx with rfl|rfl
  .exact Pd T
  .exact Pd M
 .obtain⟨xs,hx⟩:=h.ls b hb;exact z.elim (T.ne hx nofun) (M.ne hx nofun)
theorem DD.last(h:DD K H pl (past++[L]) lo):tq λpv t b=>H pl=fo (.lst (pv++[.ref t]))/\gu pv=gu past/\sr K H lo pv past/\H t=fo (.tup [.ref b,.str L.2])/\b∈lo/\Ez K H b L.1:=by
 obtain⟨pv,h1,h2⟩:=h.ex;obtain⟨GS,v,rfl,l0⟩:=a7R (by have:=dE h2;rw[aX] at this;simpa using this);obtain⟨h3,t,b,rfl,h4,h5,h6⟩:=Yw h2;exact⟨GS,t,b,h1,l0,h3,h4,h5,h6⟩
theorem cu.ud(T:cu Tt_ pos qual H)(h:H pl=fo (.lst xs)):cu Tt_ pos qual (upd H pl (.lst ys)):=by
 rcases T with e|⟨c,e1,e2⟩
 .exact .inl ((j3 (J7 e h nofun))▸e)
 .exact .inr ⟨c,by rw[j3 (J7 e1 h nofun)];exact e1,by rw[j3 (J7 e2 h nofun)];exact e2⟩
theorem f2I(h:H pl=fo (.lst xs)):zp (λb=>b=pl) H (upd H pl o):=⟨λb u n q=>by rw[j3 n];exact q,λx hx=>by subst hx;exact S3 h⟩
theorem DD.push{pv}(h:DD K H pl yy lo)(hp:H pl=fo (.lst pv))(e:af H H1)(ht:H1 t=fo (.tup [.ref b,.str z]))(hb:Ez K H1 b hs)(nb:b≠pl):DD K (upd H1 pl (.lst (pv++[.ref t]))) pl (yy++[(hs,z)]) (b::lo):=by
 have h1:=h.same e;have Fm:=e _ _ hp;have fr:=f2I (o:=.lst (pv++[.ref t])) Fm;obtain⟨YT,dy,h2⟩:=h1.ex;cases Fm.symm.trans dy;have Er:∀c∈lo,¬c=pl:=λc hc z0=>h.no (z0▸hc);refine⟨λc=>(bH.mp c).elim (λc=>nb c.symm) h.no,λc hc=>?_,_,ae,aZ.app (sr.jw fr Er (λ_ h=>bZ _ h) h2) (.cons ⟨t,b,cm,fr.tup ht,.head _,hb.jw fr nb⟩ .nil)⟩;rcases bH.mp hc with rfl|hc
 .obtain⟨xs,hx,_⟩:=hb;exact⟨xs,fr.k _ _ nb hx⟩
 .obtain⟨xs,hx⟩:=h1.ls c hc;exact⟨xs,fr.k _ _ (Er c hc) hx⟩
theorem Zx{hs:List i8}{z:aC}{pv}(h:DD K H pl (past++[(hs,z)]) lo)(hp:H pl=fo (.lst pv))(e:af H H1)(ht:H1 t=fo (.tup [.ref b,.str z']))(hb:Ez K H1 b dt)(nb:b∈lo\/H b=fO)(T:LT Pt H)(M:nv P2_ H)
  (q:ub K Pt P2_ H pl lo Q (.ok an (dt,z') (past++[(hs,z)]))):∀r,(upd H1 pl (.lst (pv++[.ref t]))) r=fO->Q (.ref r) (upd (upd H1 pl (.lst (pv++[.ref t]))) r (.lst [.str "",.str an])):=by
 intro r hr;have s:=af.new hr (.lst [su "",su an]);have Fm:=e _ _ hp;refine q _ r (b::lo) ((h.push hp e ht hb ?_).same s) (λc o n1 _ _ hc=>s _ _ ((j3 n1)▸e _ _ hc)) ((cu.same (cu.ud (cu.same T e) Fm) s)) ((cu.same (cu.ud (cu.same M e) Fm) s)) (λc hc=>?_) ae
 .rcases nb with nb|nb
  .exact λz0=>h.no (z0▸nb)
  .exact(i7 hp nb).symm
 .rcases bH.mp hc with rfl|hc
  .exact nb
  .exact .inl hc
inductive FG(g0:i8):List S->V->Option i8->Option Rw->Prop
 |gf {x v}:FG g0 [("house":aC),x] v (D6 x) ((D6 x).map .put)
 |drop {x n}:w4 x=fo n->FG g0 [("drop":aC),x] (.int n) (fo g0) (fo (.drop n))
 |alter {x y n}:w4 x=fo n->FG g0 [("alter":aC),x,y] (.int n) (D6 y) ((D6 y).map (.alter n))
inductive Zy(K:aF)(Pt P2_:aA)(vs:List V)(H:Hp)(Q:VK)(sH:XK):Prop|mk:∀pl wl ws yz past hs z lo kt kg ho ro,vs=[.ref pl,.ref wl,yz]->H wl=fo (.lst (ws.map su))->(∀x∈ws,J6 x/\x.length<=100000)->DD K H pl (past++[(hs,z)]) lo->gu past<=900->kd kt kg hs->FG (hs.getD 0 ([],[])) ws yz ho ro->LT Pt H->nv P2_ H->(∀r,Due kt kg hs z past r ro->ub K Pt P2_ H pl lo Q r)->Zy K Pt P2_ vs H Q sH
theorem f2G(F:Ay K "_law_put" Dt f fd)(T:v8 mg)(zs:mg "str"=fO)(C:C9 P w K mg base n "_law_a_house" ["word"] (My K) fa da):bf P w K mg base J8 (n+1) f fd ["past","words","number"] (Zy K Pt P2_):=by
 refine F.oa DA λay A outer s H vs Q E hr h=>?_;obtain⟨pl,wl,ws,yz,past,hs,z,lo,kt,kg,ho,ro,rfl,hw,hA,PA,FH,ob,BZ,B_,Cc,q⟩:=h;refine⟨_,(f3i T zs C hr).2,?_⟩;obtain⟨pv,t,b,hp,Br,_,ht,hb,BW⟩:=PA.last;obtain⟨xs,hx,hB⟩:=BW;have xl:gu xs=gu hs:=dE hB;have l1:=ob.l1;have ui:=ob.ui;obtain⟨x0,Hl⟩:∃x,xs[0]?=fo x:=⟨_,aS eX⟩;obtain⟨g0,Ky,hH0⟩:=aZ.at hB Hl;have eg0:hs.getD 0 ([],[])=g0:=by rw[bA,Ky];rfl
 rw[eg0] at BZ;have DB:=ob.k g0 (bK Ky);have Jj:U7 xs 0=fo x0:=A2 (j:=0) Hl;obtain⟨w0,wr,e0⟩:s_ λw0 wr=>ws=w0::wr:=by cases BZ<;>exact⟨_,_,cm⟩
 have KV:U7 (ws.map su) 0=fo (.str w0):=by rw[e0];exact A2 (j:=0) rfl
 have no:∀{x:aC}{H1:Hp},Due kt kg hs z past (.no x) ro->af H H1->∀t,H1 t=fO->Q (.ref t) (upd H1 t (.lst [.str x,.str ""])):=λd e t ht=>q _ d _ t (e.trans (af.new ht _)) ae;refine⟨_,cm,_,cm,pl,_,_,_,cm,cm,ah.of hp,Ig _ _,t,_,cm,cq.of ht,cm,_,_,cm,_,_,cm,cm,_,cm,b,_,0,_,cm,cm,ah.of hx,Jj,λau H'=>∃(hv:V),au=[fo (.ref pl),fo (.ref wl),fo yz,fo (.ref b),fo (.str z),fo hv,fO]/\af H H'/\(ho=fO->hv=.non)/\∀g,ho=fo g->HS K H' hv g,?_,?_⟩
 .refine⟨_,cm,wl,_,0,_,cm,cm,ah.of hw,KV,cm,_,cm,?_⟩;cases BZ with
  |@gf x v =>
   cases e0;obtain⟨a1,a2⟩:=hA x (.tail _ (.head _));exact J3 ⟨_,cm,_,cm,wl,_,_,_,cm,cm,ah.of hw,cm,x,cm,a1,a2,λhn H1 e1=>⟨_,cm,e1,λ_=>rfl,λg hg=>by rw[hn] at hg;cases hg⟩,λg hg ta tb gb H1 e1 r1 r2 r3=>⟨_,cm,e1,λhn=>(by rw[hn] at hg;cases hg),λg' qo=>by rw[hg] at qo;cases qo;exact⟨_,_,_,cm,cq.of r1,cq.of r2,cq.of r3⟩⟩⟩
  |drop _ =>
   cases e0;exact M7 ⟨_,cm,af.refl _,nofun,λg hg=>by cases hg;exact hH0⟩
  |@alter x y v _ =>
   cases e0;obtain⟨a1,a2⟩:=hA y (.tail _ (.tail _ (.head _)));exact J3 ⟨_,cm,_,cm,wl,_,_,_,cm,cm,ah.of hw,cm,y,cm,a1,a2,λhn H1 e1=>⟨_,cm,e1,λ_=>rfl,λg hg=>by rw[hn] at hg;cases hg⟩,λg hg ta tb gb H1 e1 r1 r2 r3=>⟨_,cm,e1,λhn=>(by rw[hn] at hg;cases hg),λg' qo=>by rw[hg] at qo;cases qo;exact⟨_,_,_,cm,cq.of r1,cq.of r2,cq.of r3⟩⟩⟩
 intro Eg H1 cw;refine E8 λG_ cy=>?_;obtain⟨hv,rfl,e1,hn,hg⟩:=cw;subst cy;have YL:=e1 _ _ hw;have CC:=e1 _ _ hx;have HM:=Bk.same e1 hB;have f2:(w0="house"/\ro=ho.map .put)\/(w0="drop"/\∃i:Nat,yz=.int (i:Int)/\ho=fo g0/\ro=fo (.drop (i:Int)))\/(w0="alter"/\∃i:Nat,yz=.int (i:Int)/\ro=ho.map (.alter (i:Int))):=by
  cases BZ with
  |gf=>cases e0;exact .inl ⟨cm,cm⟩
  |@drop x n h =>
   obtain⟨i,rfl⟩:=jZ (AM h).1;cases e0;exact .inr (.inl ⟨cm,i,cm,cm,cm⟩)
  |@alter x y n h =>
   obtain⟨i,rfl⟩:=jZ (AM h).1;cases e0;exact .inr (.inr ⟨cm,i,cm,cm⟩)
 clear BZ;cases ho with
 |none =>
  rw[hn rfl];refine⟨_,cm,cm,_,cm,J3 ⟨aw,no ?_ e1⟩⟩;rcases f2 with⟨_,h⟩|⟨_,_,_,h,_⟩|⟨_,_,_,h⟩
  .rw[h];exact rfl
  .cases h
  .rw[h];exact rfl
 |some g =>
 obtain⟨ga,ta,gb,rfl,v0,v1,v2⟩:=hg g rfl;have f2:(w0="house"/\ro=fo (.put g))\/(w0="drop"/\∃i:Nat,yz=.int (i:Int)/\g=g0/\ro=fo (.drop (i:Int)))\/(w0="alter"/\∃i:Nat,yz=.int (i:Int)/\ro=fo (.alter (i:Int) g)):=by
  rcases f2 with h|⟨h1,i,h2,h3,h4⟩|h
  .exact .inl h
  .cases h3;exact .inr (.inl ⟨h1,i,h2,cm,h4⟩)
  .exact .inr (.inr h)
 refine⟨_,cm,cm,_,cm,M7 ⟨λau H'=>au=[fo (.ref pl),fo (.ref wl),fo yz,fo (.ref b),fo (.str z),fo (.ref ga),fO]/\H1=H'/\(w0="house"\/∃i:Nat,yz=.int (i:Int)/\i<gu hs),?_,?_⟩⟩
 .refine⟨_,cm,wl,_,_,_,cm,cm,ah.of YL,KV,cm,_,cm,y6 (λc=>?_) (λc=>M7 ⟨cm,cm,.inl ?_⟩)⟩
  .have n0:w0≠"house":=λe=>by rw[e] at c;simp at c
   obtain⟨i,rfl,hd⟩:∃i:Nat,yz=.int (i:Int)/\(¬i<gu hs->Due kt kg hs z past (.no "NoHouse") ro):=by
    rcases f2 with⟨h,_⟩|⟨_,i,h,_,h2⟩|⟨_,i,h,h2⟩
    .exact absurd h n0
    .refine⟨i,h,λc=>?_⟩;rw[h2];show _=ite _ _ _;rw[qf eX]
    .refine⟨i,h,λc=>?_⟩;rw[h2];show _=ite _ _ _;rw[qf eX]
   refine⟨_,cm,_,cm,b,_,cm,.inl (ah.of CC),_,_,cm,cm,_,cm,y6 (λc=>⟨aw,no (hd ?_) e1⟩) (λc=>⟨cm,cm,.inr ⟨i,cm,?_⟩⟩)⟩
   .have:=qh c;lia
   .have:=ql (eN.mpr c);lia
  .rw[Bool.not_eq_true,PH] at c;exact V.str.inj (qh c)
 rintro _ _ ⟨rfl,rfl,hi⟩;obtain⟨b0,t0,c0,rfl,u0,u1,u2⟩:=hH0.same e1;refine⟨λau H'=>au=[fo (.ref pl),fo (.ref wl),fo yz,fo (.ref b),fo (.str z),fo (.ref ga),fO]/\af H1 H'/\zd kt kg g,?_,?_⟩
 .refine⟨_,cm,ga,_,0,_,cm,cm,v0,Oz _ _,ta,_,cm,.inr v1,_,cm,ga,_,1,_,cm,cm,v0,Mj _ _,gb,_,cm,.inr v2,aw,λp1 Fm=>?_⟩;have s5:=af.new Fm (.lst [sh (gu (g.1.map sh):Int),sh (gu (g.2.map sh):Int)]);refine⟨_,cm,b,_,0,_,cm,cm,ah.of (s5 _ _ CC),Jj,b0,_,0,_,cm,cm,s5.cm u0,Oz _ _,t0,_,cm,.inr (s5.cm u1),_,cm,b,_,0,_,cm,cm,ah.of (s5 _ _ CC),Jj,b0,_,1,_,cm,cm,s5.cm u0,Mj _ _,c0,_,cm,.inr (s5.cm u2),aw,λp2 oy=>?_⟩;have s6:=af.new oy (.lst [sh (gu (g0.1.map sh):Int),sh (gu (g0.2.map sh):Int)]);refine⟨.list [.int _,.int _],.list [.int _,.int _],.lst (ah.of (s6 _ _ ae)) (.cons (.int _) (.cons (.int _) .nil)),.lst (ah.of ae) (.cons (.int _) (.cons (.int _) .nil)),cm,cm,by simp[iY,iC],_,cm,?_⟩;have ek:(!PyData.eqv (.list [.int (gu (g.1.map sh):Int),.int (gu (g.2.map sh):Int)]) (.list [.int (gu (g0.1.map sh):Int),.int (gu (g0.2.map sh):Int)]))=true ↔ ¬zd kt kg g:=by
   rw[aH,aH,aH,aH,DB.1,DB.2,yL,<-Bool.not_eq_true];unfold zd;simp[cK,hV];lia
  refine y6 (λc=>?_) (λc=>⟨cm,s5.trans s6,Ap.mp λg=>c (ek.mpr g)⟩);have Dj:=ek.mp c;refine⟨aw,no ?_ (e1.trans (s5.trans s6))⟩;rcases f2 with⟨_,h⟩|⟨_,i,_,rfl,_⟩|⟨h0,i,rfl,h⟩
  .rw[h];show _=ite _ _ _;rw[qf Dj]
  .exact absurd DB Dj
  .rw[h];show _=ite _ _ _;obtain⟨k,hk,Rz⟩:=hi.resolve_left (by rw[h0];decide +kernel);cases hk;rw[qg eX,qf Dj]
 have hv1:HS K H1 (.ref ga) g:=⟨ga,ta,gb,cm,v0,v1,v2⟩;clear u0 u1 u2 v0 v1 v2 YL CC HM;intro zx H3 cw;refine E8 λG_ cy=>?_;obtain⟨rfl,GR,cn⟩:=cw;subst cy;have e3:=e1.trans GR;have FI:=e3 _ _ hw;have Sv:=e3 _ _ hx;have DC:=Bk.same e3 hB;refine⟨_,cm,wl,_,_,_,cm,cm,ah.of FI,KV,cm,_,cm,y6 (λc=>?_) (λc=>?_)⟩
 .have c0:w0="house":=V.str.inj (qh c);have hro:ro=fo (.put g):=by
   rcases f2 with⟨_,h⟩|⟨h,_⟩|⟨h,_⟩
   .exact h
   .exact absurd (h.symm.trans c0) de
   .exact absurd (h.symm.trans c0) de
  rw[hro] at q no;have du:∀{r:vg},r=(if gu hs=16 then .no "TooMany" else .ok (x6 (gu hs:Nat)) (hs++[g],z) (past++[(hs,z)]))->Due kt kg hs z past r (fo (.put g)):=λe=>by
   show _=ite _ _ _;rw[qg cn];exact e
  refine⟨_,cm,b,_,cm,.inl (ah.of Sv),cm,_,cm,y6 (λc=>?_) (λc=>?_)⟩
  .have c':gu hs=16:=by
    have:=V.int.inj (qh c);lia
   exact⟨aw,no (du (by rw[qg c'])) e3⟩
  have c':¬gu hs=16:=λe=>c (qk (by rw[xl,e];rfl));refine⟨_,cm,.inl ⟨cm,_,ah.of (e3 _ _ hp)⟩,_,cm,_,cm,aw,λl1 Aw=>?_⟩;have s1:=af.new Aw (.lst [sy ga]);refine⟨b,l1,_,_,cm,cm,s1 _ _ Sv,ae,(by rw[bE];show gu xs+1<=_;lia),λr BO=>?_⟩;have s2:=af.new BO (.lst (xs++[sy ga]));refine⟨_,cm,aw,λtt Pj=>?_⟩;have s3:=af.new Pj (.tup [sy r,su z]);have Cd:=s1.trans (s2.trans s3);have e4:=e3.trans Cd;refine⟨pl,_,_,cm,cm,e4 _ _ hp,(by rw[bE,aX];show gu pv+1<_;lia),?_⟩;have Iq:b≠pl:=λz0=>PA.no (z0▸hb);refine⟨_,cm,b,_,cm,.inl (ah.of (by rw[j3 Iq];exact e4 _ _ hx)),_,cm,Pl eX,aw,?_⟩;rw[show((gu xs:Nat):Int)=(gu hs:Nat) from by rw[xl]];exact Zx PA hp e4 ae ⟨_,s3 _ _ ae,aZ.app (Bk.same Cd DC) (.cons ((hv1.same GR).same Cd) .nil)⟩ (.inr ((e3.trans s1).free BO)) B_ Cc (q _ (du (by rw[qf c'];rfl)))
 have nh:w0≠"house":=λe=>c (qk (rd su e));obtain⟨i,rfl,nj,f3⟩:∃i:Nat,yz=.int (i:Int)/\i<gu hs/\((w0="drop"/\ro=fo (.drop (i:Int)))\/(w0="alter"/\ro=fo (.alter (i:Int) g))):=by
  obtain⟨k,hk,iw⟩:=hi.resolve_left nh;rcases f2 with⟨h,_⟩|⟨h,i,e,_,h2⟩|⟨h,i,e,h2⟩
  .exact absurd h nh
  .cases e.symm.trans hk;exact⟨k,hk,iw,.inl ⟨h,h2⟩⟩
  .cases e.symm.trans hk;exact⟨k,hk,iw,.inr ⟨h,h2⟩⟩
 clear hi f2 c;refine⟨λau H'=>au=[fo (.ref pl),fo (.ref wl),fo (.int (i:Int)),fo (.ref b),fo (.str z),fo (.ref ga),fO]/\H3=H'/\(w0="drop"->gu hs≠1),?_,?_⟩
 .refine⟨_,cm,wl,_,_,_,cm,cm,ah.of FI,KV,cm,_,cm,y6 (λc=>?_) (λc=>M7 ⟨cm,cm,λe=>absurd (qk (rd su e)) c⟩)⟩;have c0:w0="drop":=V.str.inj (qh c);refine⟨_,cm,b,_,cm,.inl (ah.of Sv),cm,_,cm,y6 (λc=>?_) (λc=>⟨cm,cm,λ_ e=>c (qk (by rw[xl,e];rfl))⟩)⟩;have c':gu hs=1:=by
   have:=V.int.inj (qh c);lia
  refine⟨aw,no ?_ e3⟩;rw[(f3.resolve_right λh=>absurd (h.1.symm.trans c0) de).2];show _=ite _ _ _;rw[qg eX,qg c']
 rintro _ _ ⟨rfl,rfl,n1⟩;refine⟨_,cm,aw,λl1 Aw=>?_⟩;have s1:=af.new Aw (.lst [sy ga]);refine⟨_,cm,wl,_,_,_,cm,cm,ah.of (s1 _ _ FI),KV,cm,.inr ⟨_,cm,l1,_,[sy ga],cm,cm,ae,?_⟩⟩;have hm:s_ λ(mv:List V)(Zz:List i8)=>(aQ (if w0="alter" then 1 else 0) [sy ga]).flatten=mv/\(∀{H':Hp},af H1 H'->Bk K H' mv Zz)/\gu mv<=1/\Due kt kg hs z past (.ok "ok" ((hs.take i++Zz)++hs.drop (i+1),z) (past++[(hs,z)])) ro:=by
  rcases f3 with⟨h0,h⟩|⟨h0,h⟩
  .refine⟨_,[],cm,λ_=>?_,?_,?_⟩
   .rw[h0,qf de];exact .nil
   .rw[h0,qf de];exact dM _
   .rw[h];show _=ite _ _ _;rw[qg eX,qf (n1 h0),cF,fP];rfl
  .refine⟨_,[g],cm,λe=>?_,?_,?_⟩
   .rw[h0,qg rfl];exact .cons (hv1.same e) .nil
   .rw[h0,qg rfl];exact aT _
   .rw[h];show _=ite _ _ _;rw[qg eX,qg cn,cF]
 obtain⟨mv,Zz,em,hmB,hml,du⟩:=hm;have ek:(if decide (su w0=su "alter")=true then (1:Int) else 0).toNat=if w0="alter" then 1 else 0:=by
  by_cases e:w0="alter"
  .rw[qg e,qg (qk (rd su e))];rfl
  .rw[qf e,qf (λc=>e (V.str.inj (qh c)))];rfl
 refine⟨?_,?_,?_,λm hm0=>?_⟩
 .split<;>decide
 .split<;>decide
 .rw[ek,bE];show 1*(if w0="alter" then 1 else 0)<=_;split<;>lia
 rw[ek,em];have s2:=af.new hm0 (.lst mv);have e4:=e3.trans (s1.trans s2);have a5:gu xs<=jb:=by rw[bE];lia
 refine⟨_,cm,.inl ⟨cm,_,ah.of (e4 _ _ hp)⟩,_,cm,_,cm,(i:Int),cm,b,_,cm,ah.of (e4 _ _ hx),λl2 j_=>?_⟩;rw[NS _ _ eX];have s3:=af.new j_ (.lst (xs.take i));refine⟨_,cm,l2,m,_,_,cm,cm,ae,s3 _ _ ae,(by rw[cI];lia),λl3 KA=>?_⟩;have s4:=af.new KA (.lst (xs.take i++mv));refine⟨_,cm,_,cm,_,_,cm,cm,(i:Int)+1,cm,b,_,cm,ah.of (s4 _ _ (s3 _ _ (e4 _ _ hx))),λl4 Od=>?_⟩;rw[show(i:Int)+1=((i+1:Nat):Int) from rfl,NT _ _ eX];have s5:=af.new Od (.lst (xs.drop (i+1)));refine⟨l3,l4,_,_,cm,cm,s5 _ _ ae,ae,(by rw[aX,cI,eJ];lia),λr BO=>⟨_,cm,aw,λtt Pj=>?_⟩⟩;have s7:=af.new Pj (.tup [sy r,su z]);have FJ:=s1.trans (s2.trans (s3.trans (s4.trans (s5.trans ((af.new BO (.lst ((xs.take i++mv)++xs.drop (i+1)))).trans s7)))));have e7:=e3.trans FJ;exact⟨pl,_,_,cm,cm,e7 _ _ hp,(by rw[bE,aX];show gu pv+1<_;lia),aw,Zx PA hp e7 ae ⟨_,s7 _ _ ae,aZ.app (aZ.app (aZ.take i (Bk.same FJ DC)) (hmB (GR.trans FJ))) (aZ.drop (i+1) (Bk.same FJ DC))⟩ (.inr ((e3.trans (s1.trans (s2.trans (s3.trans (s4.trans s5))))).free BO)) B_ Cc (q _ du)⟩
theorem e_.mono(h:e_ K C H p L past pa lo)(s:∀b∈lo,b∈lo')(n:pa ∉ lo')(ls:∀b∈lo',∃xs,H b=fo (.lst xs)):e_ K C H p L past pa lo':=by
 obtain⟨dx,ba,pv,h1,h2,h3,h4,h5⟩:=h.ex;exact⟨n,ls,dx,ba,pv,h1,s _ h2,h3,h4,aZ.imp' (λ_ _ ⟨t,b,a1,a2,a3,a4⟩=>⟨t,b,a1,a2,s _ a3,a4⟩) h5⟩
theorem DD.mono(h:DD K H pl yy lo)(s:∀b∈lo,b∈lo')(n:pl ∉ lo')(ls:∀b∈lo',∃xs,H b=fo (.lst xs)):DD K H pl yy lo':=by
 obtain⟨pv,h4,h5⟩:=h.ex;exact⟨n,ls,pv,h4,aZ.imp' (λ_ _ ⟨t,b,a1,a2,a3,a4⟩=>⟨t,b,a1,a2,s _ a3,a4⟩) h5⟩
structure yn(K:aF)(C Pt P2_:aA)(H:Hp)(ill dl sl:aA)(cl:List V)(p pa pl:Nat->aA)(lo:List aA)(D T:Nat->DS)(past U:Nat->List DS):Prop where
 d:∀j,j<2->e_ K C H (p j) (D j) (past j) (pa j) lo
 s:∀j,j<2->DD K H (pl j) (U j++[T j]) lo
 n:∀i j,i<2->j<2->i≠j->p i≠p j/\pa i≠pa j/\pl i≠pl j
 x:∀i j,i<2->j<2->pa i≠pl j
 o:ill∈lo/\dl∈lo/\sl∈lo
 t:LT Pt H
 m:nv P2_ H
 hd:H dl=fo (.lst [.ref (p 0),.ref (p 1)])
 hs:H sl=fo (.lst [.ref (pl 0),.ref (pl 1)])
 hi:H ill=fo (.lst cl)
theorem yn.fr(I:yn K C Pt P2_ H ill dl sl cl p pa pl lo D T past U)(e:zp X H H')(DE:∀b∈lo,¬X b)(L:LT Pt H')(M:nv P2_ H')(ls:∀b∈lo',∃xs,H' b=fo (.lst xs))(sub:∀b∈lo',b∈lo\/H b=fO)
  (hd:∀j,j<2->(¬X (p j)/\¬X (pa j)/\D' j=D j/\f_ j=past j)\/∃l1,e_ K C H' (p j) (D' j) (f_ j) (pa j) l1/\∀b∈l1,b∈lo') (hs:∀j,j<2->(¬X (pl j)/\T' j=T j/\U'_ j=U j)\/∃l1,DD K H' (pl j) (U'_ j++[T' j]) l1/\∀b∈l1,b∈lo'):yn K C Pt P2_ H' ill dl sl cl p pa pl (lo'++lo) D' T' f_ U'_:=by
 have Lh:∀b∈lo'++lo,∃xs,H' b=fo (.lst xs):=λb hb=>by
  rcases bJ.mp hb with hb|hb
  .exact ls b hb
  .obtain⟨xs,hx⟩:=(I.d 0 dz).ls b hb;exact⟨xs,e.k _ _ (DE b hb) hx⟩
 have no:∀{a:aA}{o:HO},H a=fo o->a ∉ lo->a ∉ lo'++lo:=λh n hb=>by
  rcases bJ.mp hb with hb|hb
  .rcases sub _ hb with q|q
   .exact n q
   .rw[q] at h;cases h
  .exact n hb
 refine⟨λj hj=>?_,λj hj=>?_,I.n,I.x,⟨List.mem_append_right _ I.o.1,eL _ I.o.2.1,eL _ I.o.2.2⟩,L,M,e.k _ _ (DE _ I.o.2.1) I.hd,e.k _ _ (DE _ I.o.2.2) I.hs,e.k _ _ (DE _ I.o.1) I.hi⟩
 .obtain⟨dx,ba,pv,hp,_,_,jt,_⟩:=(I.d j hj).ex;have n:=no jt (I.d j hj).no;rcases hd j hj with⟨n1,n2,e1,e2⟩|⟨l1,h1,h2⟩
  .rw[e1,e2];exact((I.d j hj).jw e DE n1 n2).mono (λb hb=>eL _ hb) n Lh
  .exact h1.mono (λb hb=>fW _ (h2 b hb)) n Lh
 .obtain⟨pv,wb,_⟩:=(I.s j hj).ex;have n:=no wb (I.s j hj).no;rcases hs j hj with⟨n1,e1,e2⟩|⟨l1,h1,h2⟩
  .rw[e1,e2];exact((I.s j hj).jw e DE n1).mono (λb hb=>eL _ hb) n Lh
  .exact h1.mono (λb hb=>fW _ (h2 b hb)) n Lh
def yn.lst(I:yn K C Pt P2_ H ill dl sl cl p pa pl lo D T past U)(hb:b∈lo):∃xs,H b=fo (.lst xs):=(I.d 0 dz).ls b hb
theorem yn.fv(I:yn K C Pt P2_ H ill dl sl cl p pa pl lo D T past U)(e:il Pt P2_ H H')(L:LT Pt H')(M:nv P2_ H'):yn K C Pt P2_ H' ill dl sl cl p pa pl lo D T past U:=by
 have ne:∀{b:aA}{o:HO},H b=fo o->(∀a,o≠.my a)->¬(b=Pt\/b=P2_):=λh n z=>z.elim (I.t.ne h n) (I.m.ne h n);refine I.fr (X:=λb=>b=Pt\/b=P2_) (lo':=[]) ⟨λb o n q=>e b o (λz=>n (.inl z)) (λz=>n (.inr z)) q,λx hx=>?_⟩ (λb hb=>?_) L M (λ_ h=>by cases h) (λ_ h=>by cases h) (λj hj=>.inl ?_) λj hj=>.inl ?_
 .rcases hx with rfl|rfl
  .exact Pd I.t
  .exact Pd I.m
 .obtain⟨xs,hx⟩:=I.lst hb;exact ne hx nofun
 .obtain⟨dx,ba,pv,hp,_,_,jt,_⟩:=(I.d j hj).ex;exact⟨ne hp nofun,ne jt nofun,cm,cm⟩
 .obtain⟨pv,wb,_⟩:=(I.s j hj).ex;exact⟨ne wb nofun,cm,cm⟩
def yn.same(I:yn K C Pt P2_ H ill dl sl cl p pa pl lo D T past U)(e:af H H'):yn K C Pt P2_ H' ill dl sl cl p pa pl lo D T past U:=I.fv e.to2 (I.t.same e) (I.m.same e)
def S9{α:Type}(f:Nat->α)(j:Nat)(v:α):Nat->α:=λi=>if i=j then v else f i
def N4:S9 f j v j=v:=qg rfl
def V8(h:i≠j):S9 f j v i=f i:=qf h
theorem b0z:S9 f j (f j)=f:=funext λi=>by
 unfold S9;split
 .rename_i h;rw[h]
 .rfl
theorem yn.due(I:yn K C Pt P2_ H ill dl sl cl p pa pl lo D T past U)(hj:j<2)(h:DD K H' (pl j) (f_++[L']) lo')(e:LfL Pt P2_ (pl j) H H')(L:LT Pt H')(M:nv P2_ H')(sub:∀b∈lo',b∈lo\/H b=fO):yn K C Pt P2_ H' ill dl sl cl p pa pl (lo'++lo) D (S9 T j L') past (S9 U j f_):=by
 obtain⟨pv,wb,_⟩:=(I.s j hj).ex;have ne:∀{b:aA}{o:HO},H b=fo o->(∀a,o≠.my a)->b≠pl j->¬(b=pl j\/b=Pt\/b=P2_):=λh n m z=>z.elim m λz=>z.elim (I.t.ne h n) (I.m.ne h n);refine I.fr (X:=λb=>b=pl j\/b=Pt\/b=P2_) ⟨λb o n q=>e b o (λz=>n (.inl z)) (λz=>n (.inr (.inl z))) (λz=>n (.inr (.inr z))) q,λx hx=>?_⟩ (λb hb=>?_) L M h.ls sub (λi hi=>.inl ?_) λi hi=>?_
 .rcases hx with rfl|rfl|rfl
  .exact S3 wb
  .exact Pd I.t
  .exact Pd I.m
 .obtain⟨xs,hx⟩:=I.lst hb;exact ne hx nofun λz=>(I.s j hj).no (z▸hb)
 .obtain⟨dx,ba,pv,hp,_,_,jt,_⟩:=(I.d i hi).ex;exact⟨ne hp nofun (J7 hp wb nofun),ne jt nofun (I.x i j hi hj),cm,cm⟩
 .by_cases iy:i=j
  .subst iy;rw[N4,N4];exact .inr ⟨lo',h,λ_ h=>h⟩
  .rw[V8 iy,V8 iy];obtain⟨pv,Li,_⟩:=(I.s i hi).ex;exact .inl ⟨ne Li nofun (I.n i j hi hj iy).2.2,cm,cm⟩
theorem yn.said(I:yn K C Pt P2_ H ill dl sl cl p pa pl lo D T past U)(hj:j<2)(h:e_ K C H' (p j) L' f_ (pa j) lo')(e:∀b o,b≠p j->b≠pa j->b≠Pt->b≠P2_->H b=fo o->H' b=fo o)(L:LT Pt H')(M:nv P2_ H')(sub:∀b∈lo',b∈lo\/H b=fO):yn K C Pt P2_ H' ill dl sl cl p pa pl (lo'++lo) (S9 D j L') T (S9 past j f_) U:=by
 obtain⟨dx,ba,pv,hp,_,_,jt,_⟩:=(I.d j hj).ex;have ne:∀{b:aA}{o:HO},H b=fo o->(∀a,o≠.my a)->b≠p j->b≠pa j->¬(b=p j\/b=pa j\/b=Pt\/b=P2_):=λh n m m' z=>z.elim m λz=>z.elim m' λz=>z.elim (I.t.ne h n) (I.m.ne h n);refine I.fr (X:=λb=>b=p j\/b=pa j\/b=Pt\/b=P2_) ⟨λb o n q=>e b o (λz=>n (.inl z)) (λz=>n (.inr (.inl z))) (λz=>n (.inr (.inr (.inl z)))) (λz=>n (.inr (.inr (.inr z)))) q,λx hx=>?_⟩ (λb hb=>?_) L M h.ls sub (λi hi=>?_) λi hi=>.inl ?_
 .rcases hx with rfl|rfl|rfl|rfl
  .exact Sn hp
  .exact S3 jt
  .exact Pd I.t
  .exact Pd I.m
 .obtain⟨xs,hx⟩:=I.lst hb;exact ne hx nofun (J7 hx hp nofun) λz=>(I.d j hj).no (z▸hb)
 .by_cases iy:i=j
  .subst iy;rw[N4,N4];exact .inr ⟨lo',h,λ_ h=>h⟩
  .rw[V8 iy,V8 iy];obtain⟨dx,ba,pv,Li,_,_,FK,_⟩:=(I.d i hi).ex;obtain⟨n1,n2,_⟩:=I.n i j hi hj iy;exact .inl ⟨ne Li nofun n1 (J7 Li jt nofun),ne FK nofun (J7 FK hp nofun) n2,cm,cm⟩
 .obtain⟨pv,wb,_⟩:=(I.s i hi).ex;exact⟨ne wb nofun (J7 wb hp nofun) (I.x j i hj hi).symm,cm,cm⟩
def DF(kt kg:Nat)(yy:List DS):Prop:=∀L∈yy,kd kt kg L.1/\O4 L.2
def f3v:Rw->Prop
 |.put h=>jg h
 |.alter n h=>0<=n/\jg h
 |.drop n=>0<=n
 |.yv z=>O4 z
 |_=>True
theorem f2v(h:U6 row=fo r):f3v r:=by
 unfold U6 at h;generalize aU row (ch 32)=ws at h;match ws,h with
 |[w],h =>
  have:=MG (show RB.lookup w=fo r from h);simp only[RB,bH,dJ,or_false,pQ] at this;rcases this with⟨_,rfl⟩|⟨_,rfl⟩|⟨_,rfl⟩|⟨_,rfl⟩<;>trivial
 |[w,x],h =>
  rw[yw] at h;split at h
  .obtain⟨g,hg,rfl⟩:=fL.mp h;exact XM hg
  .split at h
   .split at h
    .rename_i c
     cases h;exact c
    .cases h
   .obtain⟨f,hf,h⟩:=Option.bind_eq_some_iff.mp h;obtain⟨n,hn,rfl⟩:=fL.mp h;have:=MG hf;simp only[xu,bH,dJ,or_false,pQ] at this;rcases this with⟨_,rfl⟩|⟨_,rfl⟩|⟨_,rfl⟩
    .exact((AM hn).1)
    .trivial
    .trivial
 |[w,x,y],h =>
  rw[Dz] at h;split at h
  .obtain⟨n,hn,h⟩:=Option.bind_eq_some_iff.mp h;obtain⟨g,hg,rfl⟩:=fL.mp h;exact⟨(AM hn).1,XM hg⟩
  .cases h
theorem f1S(a:jg h)(c:zd kt kg h):HG (10^9) kt kg h:=by
 have g:=a.2.2;rw[c.1,c.2] at g;exact ef.hg g
theorem Due.step(d:Due kt kg hs z past (.ok an L f_) (U6 row))(ok:DF kt kg (past++[(hs,z)])):DF kt kg (f_++[L])/\gu f_<=gu past+1:=by
 obtain⟨ob,hz⟩:=ok _ (eL _ (.head _));have keep:∀{dt:List i8}{z':aC},kd kt kg dt->O4 z'->DF kt kg ((past++[(hs,z)])++[(dt,z')])/\gu (past++[(hs,z)])<=gu past+1:=λo s=>⟨λM hM=>by
  rcases bJ.mp hM with hM|hM
  .exact ok M hM
  .rw[cJ.mp hM];exact⟨o,s⟩,fg⟩
 replace ob:kd kt kg hs:=ob;replace hz:O4 z:=hz;have l1:=ob.l1;have ui:=ob.ui;cases er:U6 row with
 |none=>rw[er] at d;cases d
 |some r =>
  have ro:=f2v er;rw[er] at d;cases r with
  |put h =>
   have d:vg.ok an L f_=if zd kt kg h then (if gu hs=16 then .no "TooMany" else .ok (x6 (gu hs:Nat)) (hs++[h],z) (past++[(hs,z)])) else .no "NoBook":=d
   split at d
   .rename_i c
    split at d
    .cases d
    .cases d;refine keep ⟨by rw[aX];lia,by rw[aX];show gu hs+1<=16;lia,λg hg=>?_,ob.t1,ob.t4,ob.g4⟩ hz;rcases bJ.mp hg with hg|hg
     .exact ob.g g hg
     .rw[cJ.mp hg];exact f1S ro c
   .cases d
  |drop n =>
   have d:vg.ok an L f_=if n<gu hs then (if gu hs=1 then .no "NoBook" else .ok "ok" (S8 hs n.toNat,z) (past++[(hs,z)])) else .no "NoHouse":=d;have n0:=ro
   split at d
   .split at d
    .cases d
    .cases d;have:=a3o (l:=hs) (i:=n.toNat) dj;exact keep ⟨dj,dj,λg hg=>ob.g g (XF hg),ob.t1,ob.t4,ob.g4⟩ hz
   .cases d
  |alter n h =>
   have d:vg.ok an L f_=if n<gu hs then (if zd kt kg h then .ok "ok" ((hs.take n.toNat++[h])++hs.drop (n.toNat+1),z) (past++[(hs,z)]) else .no "NoBook") else .no "NoHouse":=d;obtain⟨n0,ro⟩:=(show 0<=n/\jg h from ro)
   split at d
   .split at d
    .rename_i c
     cases d;refine keep ⟨?_,?_,λg hg=>?_,ob.t1,ob.t4,ob.g4⟩ hz
     .rw[aX,aX];show 1<=_+1+_;lia
     .rw[aX,aX,cI,eJ];show _+1+_<=16;lia
     .rcases bJ.mp hg with hg|hg
      .rcases bJ.mp hg with hg|hg
       .exact ob.g g (fV hg)
       .rw[cJ.mp hg];exact f1S ro c
      .exact ob.g g (fK hg)
    .cases d
   .cases d
  |yv x=>cases d;exact keep ob ro
  |back =>
   rcases d with⟨_,d⟩|⟨L',q,e,d⟩
   .cases d
   .cases d;subst e;exact⟨λM hM=>ok M (fW _ hM),by rw[aX];lia⟩
  |levels=>cases d;exact⟨ok,lW _⟩
  |order =>
   obtain⟨_,_,_,_,d⟩:=d;cases d;exact⟨ok,lW _⟩
  |Dl=>cases d;exact⟨ok,lW _⟩
  |alone n =>
   have d:vg.ok an L f_=if n<gu hs then .ok (Dy hs (hs.getD n.toNat ([],[]))) (hs,z) past else .no "NoHouse":=d
   split at d
   .cases d;exact⟨ok,lW _⟩
   .cases d
  |scale n =>
   rcases d with⟨_,d⟩|⟨t,_,_,d⟩
   .cases d
   .cases d;exact⟨ok,lW _⟩
theorem Due.ne(d:Due kt kg hs z past (.no x) o):x≠"":=by
 have k:∀{c:Prop}[Decidable c] {a b:vg},vg.no x=(if c then a else b)->vg.no x=a\/vg.no x=b:=λh=>by split at h<;>first|exact .inl h|exact .inr h
 have n:∀{y:aC},vg.no x=.no y->y≠""->x≠"":=λh n=>by cases h;exact n
 match o,d with
 |none,d=>exact n d dz
 |some (.put h),d=>exact(k d).elim (λd=>(k d).elim (λd=>n d dz) nofun) λd=>n d dz
 |some (.drop i),d=>exact(k d).elim (λd=>(k d).elim (λd=>n d dz) nofun) λd=>n d dz
 |some (.alter i h),d=>exact(k d).elim (λd=>(k d).elim nofun λd=>n d dz) λd=>n d dz
 |some (.yv z),d=>cases d
 |some .back,d=>exact d.elim (λd=>n d.2 dz) λ⟨_,_,_,d⟩=>nomatch d
 |some .levels,d=>cases d
 |some .order,⟨_,_,_,_,d⟩=>cases d
 |some .Dl,d=>cases d
 |some (.alone i),d=>exact(k d).elim nofun λd=>n d dz
 |some (.scale i),d=>exact d.elim (λd=>n d.2 dz) λ⟨_,_,_,d⟩=>nomatch d
section
variable{P:aM}{w:aL}{K:aF}{mg:aC->Option aE}{base:aJ}{C Pt P2_ CL:aA}{kA kD:List (aC×Addr)}{FA:aA->Sp->Prop}{cE cB cH cR cT cM cL:aA}{H:Hp}{p pa:aA}{lo:List aA}{Q:VK}{E:XK}{row:S}{hs:List i8}{z:aC}{past:List DS}{kt kg:Nat}
theorem f1L(D:FE K C Pt P2_ H p pa lo (hs,z) past)(ob:kd kt kg hs)(ha:J6 row)(hl:row.length<=100000)(er:O2 row=fo (("book":aC),[]))(W:Way kA FA "book" (Jt K))
  (q1:Lf K C Pt P2_ H p pa lo (hs,z) past (Ey hs) Q):YA K C cL cR cE cB cH cR cT cM cL kA kD FA [.ref p,.str row] H Q E:=by
 obtain⟨dx,ba0,pv,hp,_,_,jt,_⟩:=D.d.ex;refine⟨p,dx,_,row,cm,hp,cm,λkl iw Q1 E1 hQ hE=>?_⟩;have s1:=af.new iw (.lst []);refine⟨p,pa,row,(hs,z),past,lo,cm,D.d.same s1,bF D.l dz,ha,hl,λe=>dj,λwd ts e l us ba H1 e1 Jm Ph ym BW=>?_⟩;rw[er] at e;cases e;obtain⟨g,hg,hF⟩:=W.w;refine⟨λg' h'=>?_,λh'=>(by simp_all),λh'=>dj⟩;rw[hg] at h';cases h';refine⟨_,hF,?_⟩;obtain⟨xs,hx,hB⟩:=BW;exact⟨ba,_,_,xs,hs,cm,ah.of hx,hB,by have:=ob.ui;lia,λh hh=>Sw (ob.g h hh) (dL _) ob.t4 ob.g4,λH2 e2=>hQ _ _ (f1s D iw q1 (e1.trans e2) (af.to2 (af.refl _)) ((D.t.same s1).same (e1.trans e2)) ((D.m.same s1).same (e1.trans e2)))⟩
end
section
variable{P:aM}{w:aL}{K:aF}{mg:aC->Option aE}{base:aJ}{f Pt P2_:aA}{fd:aK}{n:Nat}
abbrev f2J:List aC:=["past","row","words","many","number"]
def FO:p7 f2J ["past","row"] (i9 N1):=⟨cm,cm,cm,de,cm,de,de⟩
def f3f{spP:Sp}{ay:aE}{A:aV}{outer:List Env}{s:aG}{H:Hp}{E:XK}{f1 f2 f3:aA}{d1 d2 d3:aK}(T:v8 mg)(Cn:C9 P w K mg base n "_law_a_number" ["word"] Z1 f1 d1)(OR:CZ P w K mg base n "_law_put" ["past","words","number"] spP f2 d2)(Ca:CZ P w K mg base n "_law_asked" ["book","sizes","words"] (Lg K Pt P2_) f3 d3)
  (hr:b_ n (A.deeper (cD "_law_a_due" (i9 N1) s.heap.objs.size f ay))) :
  {t:TS//fu (N8 J8 P w K mg base f2J "_law_a_due" (i9 N1) f ay A outer s H E).oi (x9 N1) t} :=
 ⟨_,j0 (r6 (i:=2) FO.nd rfl (aI rfl) (K7 eP iW iX U4 (pv 1) (c6 l9 c7)))
  (j0 (r6 (i:=3) (hs:=by kernel_rfl) FO.nd rfl (aI rfl) (f2n P w rfl rfl (.cons (.cons (.cons (.cons (.cons (.cons .nil)))))) rfl rfl (aAN _ _) (aAO rfl) de))
  (j0 (R3 (f2k P w rfl rfl PySem.F.slot_dict_update PySem.F.type_dict_update f2C (pv 3) (c6 (f2n P w rfl rfl (.cons (.cons (.cons (.cons .nil)))) rfl rfl (aAN _ _) (aAO rfl) de) c7)))
  (j0 (r6 (i:=4) FO.nd rfl (aI rfl) D5)
  (t8 (w6 (l5 Ej (j7 j6 rfl T.len bB (c6 (pv 2) c7)) d0 (r9 _)) (j4 (r6 (i:=4) FO.nd rfl (aI rfl) (Cn.c hr (c6 (l8 j5 (pv 2) d0 (λ_ _=>rfl)) c7)))) r8)
  (j0 (w6 (l5 Ei (f2k P w rfl rfl PySem.F.slot_dict_get PySem.F.type_dict_get f2D (pv 3) (c6 (l8 j5 (pv 2) d0 (λ_ _=>rfl)) (c6 d0 c7))) (j7 j6 rfl T.len bB (c6 (pv 2) c7)) (r9 _)) (j4 (o4 (v9 (c6 (l9) (c6 (l9) c7))))) r8)
  (t8 (w6 (PW.pt (Gv (l5 Qj (l8 j5 (pv 2) d0 (λ_ _=>rfl)) (A9 (c6 (l9) (c6 (l9) (c6 (l9) (c6 (l9) c7))))) rfl) (T4 (l5 Lv (pv 4) D5 (r9 _))))) (j4 (o4 (v9 (c6 (l9) (c6 (l9) c7))))) r8)
  (j0 (w6 (l5 Qj (l8 j5 (pv 2) d0 (λ_ _=>rfl)) (A9 (c6 (l9) (c6 (l9) (c6 (l9) c7)))) rfl) (j4 (o4 (OR.c hr (c6 (pv 0) (c6 (pv 2) (c6 (pv 4) c7)))))) r8)
  (j0 (w6 (l5 E6 (l8 j5 (pv 2) d0 (λ_ _=>rfl)) l9 (r9 _)) (j0 (w6 (l5 E6 (j7 j6 rfl T.len bB (c6 (pv 0) c7)) d0 (r9 _)) (j4 (o4 (v9 (c6 (l9) (c6 (l9) c7))))) r8) (j0 (R3 (b7P iK yJ yK b7F (pv 0))) (j4 (o4 (v9 (c6 (l9) (c6 (l9) c7))))))) r8)
  (j0 (w6 (l5 E6 (l8 j5 (pv 2) d0 (λ_ _=>rfl)) l9 (r9 _)) (j0 (w6 (l5 a5H (l8 j5 (pv 2) d0 (λ_ _=>rfl)) (A9 (c6 (l9) (c6 (l9) (c6 (l9) (c6 (l9) c7))))) rfl) (j4 (o4 (v9 (c6 (l9) (c6 (l9) c7))))) r8) (j0 (R3 (K7 iK jW jX P2 (pv 0) (c6 (A9 (c6 (l8 U8 (l8 j5 (pv 0) (Eh V2 d0) (λ_ _=>rfl)) d0 (λ_ _=>rfl)) (c6 (l8 j5 (pv 2) d0 (λ_ _=>rfl)) c7))) c7))) (j4 (o4 (v9 (c6 (l9) (c6 (l9) c7))))))) r8)
  (t8 (w6 (PW.pt (Gv (l5 Ry (pv 4) D5 (r9 _)) (T4 (l5 Qb (pv 4) (j7 j6 rfl T.len bB (c6 (l8 U8 (l8 j5 (pv 0) (Eh V2 d0) (λ_ _=>rfl)) d0 (λ_ _=>rfl)) c7)) (r9 _))))) (j4 (o4 (v9 (c6 (l9) (c6 (l9) c7))))) r8)
  (j4 (o4 (v9 (c6 (l9) (c6 (Ca.c hr (c6 (l8 U8 (l8 j5 (pv 0) (Eh V2 d0) (λ_ _=>rfl)) d0 (λ_ _=>rfl)) (c6 (l8 U8 (l8 j5 (pv 0) (Eh V2 d0) (λ_ _=>rfl)) d0 (λ_ _=>rfl)) (c6 (pv 2) c7)))) c7)))))))))))))))⟩
end
def Ci:List (aC×Int):=[("house",2),("drop",2),("sizes",2),("alter",3),("back",1),("levels",1),("order",1),("rim",1),("alone",2),("scale",2)]
def xk(ws:List S):Option Int:=(ws[1]?).bind w4
inductive AQ:List S->Prop
 |one {w:S} {r}:RB.lookup w=fo r->AQ [w]
 |two {w x:S}:w="house"\/w="sizes"\/w="drop"\/w="alone"\/w="scale"->AQ [w,x]
 |three {x y:S}:AQ [("alter":aC),x,y]
theorem f3j{w:S}(h:(Ci.lookup w).getD 0=((gu (w::r):Nat):Int)):AQ (w::r):=by
 cases e:Ci.lookup w with
 |none=>rw[e] at h;simp at h;lia
 |some k =>
  rw[e] at h;have h:k=((gu r+1:Nat):Int):=h;have:=MG e;simp only[Ci,bH,dJ,or_false,pQ] at this;have two:k=2->(w="house"\/w="sizes"\/w="drop"\/w="alone"\/w="scale")->AQ (w::r):=λk2 hw=>by
   obtain⟨x,rfl⟩:∃x,r=[x]:=List.length_eq_one_iff.mp dj;exact .two hw
  have one:k=1->(∃r,RB.lookup w=fo r)->AQ (w::r):=λk2 ⟨_,hw⟩=>by
   cases r with
   |nil=>exact .one hw
   |cons _ _=>simp at h;lia
  rcases this with⟨rfl,k2⟩|⟨rfl,k2⟩|⟨rfl,k2⟩|⟨rfl,k2⟩|⟨rfl,k2⟩|⟨rfl,k2⟩|⟨rfl,k2⟩|⟨rfl,k2⟩|⟨rfl,k2⟩|⟨rfl,k2⟩
  .exact two k2 (.inl rfl)
  .exact two k2 (.inr (.inr (.inl rfl)))
  .exact two k2 (.inr (.inl rfl))
  .match r,h with
   |[x,y],_=>exact .three
   |[],h=>simp at h;lia
   |[_],h=>simp at h;lia
   |_::_::_::_,h=>simp at h;lia
  .exact one k2 ⟨_,cm⟩
  .exact one k2 ⟨_,cm⟩
  .exact one k2 ⟨_,cm⟩
  .exact one k2 ⟨_,cm⟩
  .exact two k2 (.inr (.inr (.inr (.inl rfl))))
  .exact two k2 (.inr (.inr (.inr (.inr rfl))))
theorem f2Q(h:vv ws=fo r):s_ λw t=>ws=w::t/\(Ci.lookup w).getD 0=((gu ws:Nat):Int):=by
 match ws,h with
 |[w],h =>
  have:=MG (show RB.lookup w=fo r from h);simp only[RB,bH,dJ,or_false,pQ] at this;rcases this with⟨rfl,_⟩|⟨rfl,_⟩|⟨rfl,_⟩|⟨rfl,_⟩<;>exact⟨_,_,cm,cm⟩
 |[w,x],h =>
  rw[yw] at h;split at h
  .rename_i c
   subst c;exact⟨_,_,cm,cm⟩
  .split at h
   .rename_i c
    subst c;exact⟨_,_,cm,cm⟩
   .obtain⟨f,hf,h⟩:=Option.bind_eq_some_iff.mp h;have:=MG hf;simp only[xu,bH,dJ,or_false,pQ] at this;rcases this with⟨rfl,_⟩|⟨rfl,_⟩|⟨rfl,_⟩<;>exact⟨_,_,cm,cm⟩
 |[w,x,y],h =>
  rw[Dz] at h;split at h
  .rename_i c
   subst c;exact⟨_,_,cm,cm⟩
  .cases h
theorem f2N{w:S}(hw:w="drop"\/w="alter"\/w="alone"\/w="scale")(h:xk (w::r)=fO):vv (w::r)=fO:=by
 match r,h with
 |[],_=>rcases hw with rfl|rfl|rfl|rfl<;>rfl
 |[x],h =>
  have h:w4 x=fO:=h;rw[yw,qf (by rcases hw with rfl|rfl|rfl|rfl<;>decide +kernel),qf (by rcases hw with rfl|rfl|rfl|rfl<;>decide +kernel),h];cases xu.lookup w<;>rfl
 |[x,y],h =>
  have h:w4 x=fO:=h;rw[Dz,h];split<;>rfl
 |_::_::_::_,_=>rfl
theorem f2m(c:AQ (w::r))(hw:w="house"\/w="drop"\/w="alter")(hn:(w="drop"\/w="alter"\/w="alone"\/w="scale")->∃n,xk (w::r)=fo n):∃ho,FG g0 (w::r) (HH (xk (w::r))) ho (vv (w::r)):=by
 cases c with
 |one h=>rcases hw with rfl|rfl|rfl<;>cases h
 |@two _ x h =>
  rcases hw with rfl|rfl|rfl
  .rw[yw,qg rfl];exact⟨_,.gf⟩
  .obtain⟨n,hn⟩:=hn (.inl rfl);rw[yw,qf dz,qf dz,hn,show w4 x=fo n from hn];exact⟨_,.drop hn⟩
  .rcases h with h|h|h|h|h<;>exact absurd h dz
 |@three x y =>
  obtain⟨n,hn⟩:=hn (.inr (.inl rfl));rw[Dz,qg rfl,hn,show w4 x=fo n from hn,H_];exact⟨_,.alter hn⟩
theorem f1C{x:S}{l:List S}:Hi (su x) (l.map su)=true ↔ x∈l:=by
 have ev:∀a:aC,GB (su a) (su x)=decide (x=a):=λa=>by
  show(a==x)=decide (x=a);rw[iD,beq_iff_eq,decide_eq_true_iff];exact⟨Eq.symm,sG⟩
 unfold Hi;rw[lN,mK];constructor
 .rintro⟨a,h,e⟩;rw[Z_,ev,decide_eq_true_iff] at e;exact e▸h
 .exact λh=>⟨x,h,by rw[Z_,ev];exact qk rfl⟩
def in4{x a b c d:S}:Hi (su x) [.str a,.str b,.str c,.str d]=true ↔ x=a\/x=b\/x=c\/x=d :=
 (f1C (l:=[a,b,c,d])).trans fg
def in3{x a b c:S}:Hi (su x) [.str a,.str b,.str c]=true ↔ x=a\/x=b\/x=c :=
 (f1C (l:=[a,b,c])).trans fg
theorem f3y(hd:H1 d=fO)(hd2:upd H1 d o1 d2=fO):af H1 (upd (upd (upd H1 d o1) d2 o2) d o3):=λc o h=>by
 rw[j3 (i7 h hd),j3 (i7 (af.new hd _ _ _ h) hd2),j3 (i7 h hd)];exact h
theorem ub.to(q:ub K Pt P2_ H pl lo Q r)(e:af H H1):ub K Pt P2_ H1 pl lo Q r:=by
 cases r with
 |no x=>exact λH' t e' h=>q H' t (e.trans e') h
 |ok an L past=>exact λH' t lo' a lf L' yx sub h=>q H' t lo' a (λb o n1 n2 n3 hb=>lf b o n1 n2 n3 (e _ _ hb)) L' yx (λb hb=>(sub b hb).imp id e.free) h
inductive ZA(K:aF)(Pt P2_:aA)(vs:List V)(H:Hp)(Q:VK)(sH:XK):Prop|mk:∀(pl:aA)(row:S)(past:List DS)(hs:List i8)(z:aC)(lo:List aA)(kt kg:Nat),vs=[.ref pl,.str row]->DD K H pl (past++[(hs,z)]) lo->gu past<=900->kd kt kg hs->O4 z->J6 row->row.length<=100000->LT Pt H->nv P2_ H->P2_≠Pt->(∀r,Due kt kg hs z past r (U6 row)->ub K Pt P2_ H pl lo Q r)->ZA K Pt P2_ vs H Q sH
theorem f2u(F:Ay K "_law_a_due" N1 f fd)(T:v8 mg)(Cn:C9 P w K mg base n "_law_a_number" ["word"] Z1 f1 d1)(OR:CZ P w K mg base n "_law_put" ["past","words","number"] (Zy K Pt P2_) f2 d2)(Ca:CZ P w K mg base n "_law_asked" ["book","sizes","words"] (Lg K Pt P2_) f3 d3):bf P w K mg base J8 (n+1) f fd ["past","row"] (ZA K Pt P2_):=by
 refine F.oa FO λay A outer s H vs Q E hr h=>?_;obtain⟨pl,row,past,hs,z,lo,kt,kg,rfl,PA,FH,ob,hz,ha,hl,B_,Cc,ne,q⟩:=h;refine⟨_,(f3f T Cn OR Ca hr).2,?_⟩;have Ou:∀x∈Txt.split row (ch 32),J6 x/\x.length<=100000:=λx hx=>⟨Tx.fj ha hx,bF (Q0 hx) hl⟩;have ui:=ob.ui;unfold U6 at q;refine⟨_,cm,cm,row,ch 32,cm,cm,dz,by rw[bE];lia,λwl XZ=>?_⟩;have s1:=af.new XZ (.lst ((aU row (ch 32)).map su));have YL:(upd H wl (.lst ((aU row (ch 32)).map su))) wl=fo (.lst ((aU row (ch 32)).map su)):=ae;generalize upd H wl (.lst ((aU row (ch 32)).map su))=H1 at *;have mm:=Tx.r_ row 32;generalize aU row (ch 32)=ws at *;refine λd hd=>⟨_,cm,⟨d,_,cm,ae⟩,λd2 hd2=>?_⟩;have nd:d≠d2:=i7 ae hd2;refine⟨d,d2,_,_,cm,cm,nd,(by rw[j3 nd];exact ae),ae,de,dz,?_⟩;have e2:=f3y (o2:=zq P w d2 [("order",1),("rim",1),("alone",2),("scale",2)]) (o3:=zq P w d Ci) hd hd2;refine⟨λau H'=>au=[fo (.ref pl),fo (.str row),fo (.ref wl),fo (.ref d),fo (HH (xk ws))]/\af H1 H'/\H' d=fo (zq P w d Ci),?_,?_⟩
 .refine⟨_,cm,wl,_,cm,.inl (ah.of (e2 _ _ YL)),_,_,cm,cm,_,cm,?_⟩;refine y6 (λc=>?_) (λc=>⟨?_,e2,ae⟩)
  .have c':1<gu ws:=by
    have:=qh c;rw[aH] at this;lia
   have h1:ws[1]?=fo ws[1]:=aS c';obtain⟨p1,p2⟩:=Ou ws[1] (eF c');have ea:U7 (ws.map su) 1=fo (.str ws[1]):=A2 (j:=1) (by rw[aP,h1];rfl);refine⟨_,cm,wl,_,_,_,cm,cm,ah.of (e2 _ _ YL),ea,ws[1],cm,p1,p2,λH' e'=>⟨?_,e2.trans e',e' _ _ ae⟩⟩;unfold xk;rw[h1,H_];rfl
  .have c':¬1<gu ws:=λh=>c (qk (by rw[aH];lia));unfold xk;rw[bW eX];rfl
 intro zx H3 cw;refine E8 λG_ cy=>?_;obtain⟨rfl,e3,ZC⟩:=cw;subst cy;clear e2 hd2 nd;have FI:=e3 _ _ YL;have no:∀{H2:Hp},vv ws=fO->af H1 H2->∀t,H2 t=fO->Q (.ref t) (upd H2 t (.lst [.str "NoRow",.str ""])):=λd e t ht=>q (.no "NoRow") (by rw[d];exact rfl) _ t (s1.trans (e.trans (af.new ht _))) ae;have ZD:∀{x:aC}{r:Rw}{H2:Hp},vv ws=fo r->Due kt kg hs z past (.no x) (fo r)->af H1 H2->∀t,H2 t=fO->Q (.ref t) (upd H2 t (.lst [.str x,.str ""])):=λer d e t ht=>q (.no _) (by rw[er];exact d) _ t (s1.trans (e.trans (af.new ht _))) ae;obtain⟨w0,wr,rfl⟩:s_ λw0 wr=>ws=w0::wr:=by
  cases ws with
  |nil=>exact absurd rfl mm
  |cons a l=>exact⟨a,l,cm⟩
 have KV:U7 ((w0::wr).map su) 0=fo (.str w0):=A2 (j:=0) rfl;have AR:∀{H':Hp},af H1 H'->ah K H' wl ((w0::wr).map su):=λe=>ah.of (e _ _ YL);refine⟨_,cm,⟨d,_,cm,ZC⟩,_,cm,wl,_,_,_,cm,cm,AR e3,KV,d,Ci,w0,0,cm,cm,ZC,?_⟩;refine⟨_,cm,wl,_,cm,.inl (AR e3),cm,_,cm,?_⟩;rw[aH];refine y6 (λc=>?_) (λc=>?_)
 .refine⟨aw,no ?_ e3⟩;cases er:vv (w0::wr) with
  |none=>rfl
  |some r =>
   obtain⟨w,t,e,h⟩:=f2Q er;cases e;rw[h] at c;simp at c
 have hc:AQ (w0::wr):=f3j (by
  rw[Bool.not_eq_true,PH] at c;exact V.int.inj (qh c))
 clear c;refine⟨λau H'=>au=[fo (.ref pl),fo (.str row),fo (.ref wl),fo (.ref d),fo (HH (xk (w0::wr)))]/\af H1 H'/\((w0="drop"\/w0="alter"\/w0="alone"\/w0="scale")->∃n,xk (w0::wr)=fo n),?_,?_⟩
 .refine⟨_,cm,wl,_,_,_,cm,cm,AR e3,KV,aw,λtl Hz=>?_⟩;have s4:=af.new Hz (.tup [su "drop",su "alter",su "alone",su "scale"]);refine⟨tl,_,cm,.inr (cq.of ae),cm,cm,_,cm,?_⟩;refine y6 (λc=>?_) (λc=>M7 ⟨cm,e3.trans s4,λh=>absurd (in4.mpr h) c⟩);cases en:xk (w0::wr) with
  |none=>exact⟨_,cm,cm,_,cm,J3 ⟨aw,no (f2N (in4.mp c) en) (e3.trans s4)⟩⟩
  |some k=>exact⟨_,cm,cm,_,cm,M7 ⟨cm,e3.trans s4,λ_=>⟨k,cm⟩⟩⟩
 clear e3 ZC FI;intro Xx H4 cw;refine E8 λG_ cy=>?_;obtain⟨rfl,e4,FP⟩:=cw;subst cy;refine⟨_,cm,wl,_,_,_,cm,cm,AR e4,KV,aw,λtl Hz=>?_⟩;have e5:=e4.trans (af.new Hz (.tup [su "house",su "drop",su "alter"]));refine⟨tl,_,cm,.inr (cq.of ae),cm,cm,_,cm,?_⟩;generalize upd H4 tl (.tup [su "house",su "drop",su "alter"])=H5 at *;refine y6 (λc=>?_) (λc=>?_)
 .obtain⟨ho,BZ⟩:=f2m (g0:=hs.getD 0 ([],[])) hc (in3.mp c) FP;refine⟨_,cm,_,cm,_,cm,pl,wl,w0::wr,_,past,hs,z,lo,kt,kg,ho,_,cm,e5 _ _ YL,Ou,PA.same (s1.trans e5),FH,ob,BZ,B_.same (s1.trans e5),Cc.same (s1.trans e5),λr jx=>?_⟩;exact(q r jx).to (s1.trans e5)
 have n3:¬(w0="house"\/w0="drop"\/w0="alter"):=λh=>c (in3.mpr h);have Lj:=B_.same (s1.trans e5);have LP:=Cc.same (s1.trans e5);obtain⟨pv,t,b,hp,Br,Fj,ht,hb,BW⟩:=(PA.same (s1.trans e5)).last;obtain⟨xs,hx,hB⟩:=BW;have xl:gu xs=gu hs:=dE hB;have FQ:=PA.same (s1.trans e5);have mr:U7 (pv++[sy t]) (-1)=fo (.ref t):=Ig _ _;refine⟨_,cm,wl,_,_,_,cm,cm,AR e5,KV,cm,_,cm,?_⟩;refine y6 (λc=>?_) (λc=>?_)
 .have c0:w0="back":=V.str.inj (qh c);have er:vv (w0::wr)=fo .back:=by
   subst c0;cases hc with
   |one h=>cases h;rfl
   |two h=>rcases h with h|h|h|h|h<;>exact absurd h de
  refine⟨_,cm,pl,_,cm,.inl (ah.of hp),cm,_,cm,?_⟩;refine y6 (λc=>?_) (λc=>?_)
  .have c':past=[]:=by
    have:=V.int.inj (qh c);rw[aX] at this;exact lM (by simp at this;lia)
   exact⟨aw,ZD er (.inl ⟨c',cm⟩) e5⟩
  have gl:(pv++[sy t])[gu (pv++[sy t])-1]?=fo (sy t):=fg;have ed:(pv++[sy t]).dropLast=pv:=fg;refine⟨_,cm,.inl ⟨cm,_,ah.of hp⟩,pl,_,_,cm,cm,hp,gl,?_⟩;rw[ed];refine⟨aw,λr BO=>?_⟩;obtain⟨p0,L0,rfl⟩:s_ λp0 L0=>past=p0++[L0]:=by
   rcases yH past with e|⟨p0,L0,e⟩
   .subst e;exact absurd (qk (by rw[show(gu (pv++[sy t]):Int)=1 by rw[aX,Br];rfl])) c
   .exact⟨p0,L0,by rw[e,yI]⟩
  have s6:=af.new BO (.lst [su "",su "ok"]);have Er:∀c∈lo,¬c=pl:=λc hc z0=>FQ.no (z0▸hc);refine q (.ok "ok" L0 p0) (by rw[er];exact .inr ⟨L0,p0,cm,cm⟩) _ r lo (DD.same s6 ⟨FQ.no,λc hc=>?_,pv,ae,sr.jw (f2I (o:=.lst pv) hp) Er (λ_ h=>h) Fj⟩) (λc o n1 _ _ h=>s6 _ _ (by rw[j3 n1];exact e5 _ _ (s1 _ _ h))) (cu.same (cu.ud Lj hp) s6) (cu.same (cu.ud LP hp) s6) (λc hc=>.inl hc) ae;obtain⟨ys,hy⟩:=FQ.ls c hc;exact⟨ys,by rw[j3 (Er c hc)];exact hy⟩
 have n4:w0≠"back":=λe=>c (qk (rd su e));clear c;refine⟨_,cm,wl,_,_,_,cm,cm,AR e5,KV,cm,_,cm,?_⟩;refine y6 (λc=>?_) (λc=>?_)
 .have c0:w0="sizes":=V.str.inj (qh c);obtain⟨x,rfl⟩:∃x,wr=[x]:=by
   subst c0;cases hc with
   |one h=>cases h
   |two h=>exact⟨_,cm⟩
  subst c0;have FR:U7 ([("sizes":aC),x].map su) 1=fo (.str x):=A2 (j:=1) rfl;refine⟨_,cm,wl,_,_,_,cm,cm,AR e5,FR,aw,λtl Hz=>?_⟩;have s6:=af.new Hz (.tup [su "any",su "one",su "less",su "more"]);refine⟨tl,_,cm,.inr (cq.of ae),cm,cm,_,cm,?_⟩;have e6:=e5.trans s6;have Rn:=s6 _ _ hp;have ht6:=s6 _ _ ht;generalize upd H5 tl (.tup [su "any",su "one",su "less",su "more"])=H6 at *;have er0:¬O4 x->vv [("sizes":aC),x]=fO:=λh=>by rw[yw,qf de,qg rfl,qf h]
  have er1:O4 x->vv [("sizes":aC),x]=fo (.yv x):=λh=>by rw[yw,qf de,qg rfl,qg h]
  refine y6 (λc=>?_) (λc=>?_)
  .have c:(!Hi (su x) [su "any",su "one",su "less",su "more"])=true:=c;have nz_:¬O4 x:=λh=>by
    rw[show Hi (su x) [su "any",su "one",su "less",su "more"]=true from in4.mpr h] at c;cases c
   exact⟨aw,no (er0 nz_) e6⟩
  have c:¬(!Hi (su x) [su "any",su "one",su "less",su "more"])=true:=c;have Ov:O4 x:=in4.mp (by rw[Bool.not_eq_true,PH] at c;exact c);refine⟨_,cm,.inl ⟨cm,_,ah.of Rn⟩,_,cm,_,cm,pl,_,_,_,cm,cm,ah.of Rn,mr,t,_,0,_,cm,cm,cq.of ht6,Oz _ _,_,cm,wl,_,_,_,cm,cm,AR e6,FR,aw,λtt Pj=>?_⟩;have s7:=af.new Pj (.tup [sy b,su x]);have e7:=s1.trans (e6.trans s7);refine⟨pl,_,_,cm,cm,s7 _ _ Rn,(by rw[bE,aX];show gu pv+1<_;lia),aw,?_⟩;exact Zx FQ hp (s6.trans s7) ae ⟨xs,(s6.trans s7) _ _ hx,Bk.same (s6.trans s7) hB⟩ (.inl hb) Lj LP ((q _ (by rw[er1 Ov];exact rfl)).to (s1.trans e5))
 have n5:w0≠"sizes":=λe=>c (qk (rd su e));clear c;obtain⟨r,er,ask,AB⟩:∃r,vv (w0::wr)=fo r/\(xk (w0::wr)=fO\/(∃k,xk (w0::wr)=fo k/\k<gu hs)->AO hs (w0::wr) r)/\(∀k,xk (w0::wr)=fo k->¬k<gu hs->Due kt kg hs z past (.no "NoHouse") (fo r)):=by
  clear c q no ZD ht hp;cases hc with
  |@one _ r h =>
   have:=MG h;simp only[RB,bH,dJ,or_false,pQ] at this;rcases this with⟨rfl,_⟩|⟨rfl,rfl⟩|⟨rfl,rfl⟩|⟨rfl,rfl⟩
   .exact absurd rfl n4
   .exact⟨_,cm,λ_=>.levels,nofun⟩
   .exact⟨_,cm,λ_=>.order,nofun⟩
   .exact⟨_,cm,λ_=>.Dl,nofun⟩
  |@two _ x h =>
   have:w0="alone"\/w0="scale":=by
    rcases h with h|h|h|h
    .exact absurd (.inl h) n3
    .exact absurd h n5
    .exact absurd (.inr (.inl h)) n3
    .exact h
   obtain⟨k,hk⟩:=FP (.inr (.inr this));have i_:w4 x=fo k:=hk;rw[hk];rcases this with rfl|rfl
   .refine⟨.alone k,by rw[yw,qf de,qf de,i_];rfl,λh=>?_,λj e c=>?_⟩
    .rcases h with h|⟨j,e,h⟩
     .cases h
     .cases e;exact .alone i_ h
    .cases e;show _=ite _ _ _;rw[qf c]
   .refine⟨.scale k,by rw[yw,qf de,qf de,i_];rfl,λh=>?_,λj e c=>?_⟩
    .rcases h with h|⟨j,e,h⟩
     .cases h
     .cases e;exact .scale i_ h
    .cases e;exact .inl ⟨c,cm⟩
  |three=>exact absurd (.inr (.inr rfl)) n3
 have book:∀{H':Hp},af H5 H'->cq K H' t [.ref b,.str z]:=λe=>cq.of (e _ _ ht);refine⟨λau H'=>au=[fo (.ref pl),fo (.str row),fo (.ref wl),fo (.ref d),fo (HH (xk (w0::wr)))]/\H5=H'/\AO hs (w0::wr) r,?_,?_⟩
 .cases en:xk (w0::wr) with
  |none=>exact⟨_,cm,cm,_,cm,M7 ⟨cm,cm,ask (.inl en)⟩⟩
  |some k =>
   refine⟨_,cm,cm,_,cm,J3 ?_⟩;refine⟨_,cm,_,cm,_,cm,pl,_,_,_,cm,cm,ah.of hp,mr,t,_,0,_,cm,cm,cq.of ht,Oz _ _,b,_,cm,.inl (ah.of hx),?_⟩;refine⟨k,_,cm,cm,_,cm,?_⟩;refine y6 (λc=>?_) (λc=>⟨cm,cm,ask (.inr ⟨k,en,?_⟩)⟩)
   .have:=qh c;exact⟨aw,ZD er (AB k en eX) e5⟩
   .have:=ql (eN.mpr c);lia
 rintro _ _ ⟨rfl,rfl,ia⟩;refine⟨_,cm,_,cm,pl,_,_,_,cm,cm,ah.of hp,mr,t,_,0,_,cm,cm,cq.of ht,Oz _ _,_,cm,_,cm,pl,_,_,_,cm,cm,ah.of hp,mr,t,_,1,_,cm,cm,cq.of ht,Mj _ _,_,cm,b,wl,xs,hs,z,w0::wr,r,kt,kg,cm,hz,ob,hx,hB,e5 _ _ YL,ia,Lj,LP,ne,λan H6 had e6 L6 M6_=>⟨aw,λrr hrr=>?_⟩⟩;have s7:=af.new hrr (.lst [su "",su an]);have e06:=s1.trans e5;exact q (.ok an (hs,z) past) (by rw[er];exact had past) _ rr lo ((FQ.fv Lj LP e6).same s7) (λc o _ n2 n3 h=>s7 _ _ (e6 c o n2 n3 (e06 _ _ h))) (L6.same s7) (cu.same M6_ s7) (λc hc=>.inl hc) ae
theorem G9(a b:S):(a++b).length=a.length+b.length:=by rw[Tx.d_,Tx.d_,Tx.d_,Tx.bu,aX]
theorem b1y(h:0<=m):J6 (x6 m):=λc hc=>by have:=R' h hc;lia
abbrev rwN:List aC:=["book","picks","number","takes","gives","house","rows","row","at"]
def xM:p7 rwN ["book","picks"] (i9 Du):=⟨cm,cm,cm,de,cm,de,de⟩
def f3e:(["pick"]:List aC).Nodup:=fg
inductive ZE(K:aF)(vs:List V)(H:Hp)(Q:VK)(sH:XK):Prop|mk:∀(b pk:aA)(hs:List i8)(ds:List Int)(kt kg:Nat),vs=[.ref b,.ref pk]->Ez K H b hs->kd kt kg hs->H pk=fo (.lst (ds.map sh))->gu ds=15->(∀d∈ds,0<=d/\d<1000)->(∀row H',af H H'->W5 (cs row)=false->J6 row->row.length<=100000->Q (.str row) H')->ZE K vs H Q sH
abbrev b9x:List aC:=["script","book","desks","pasts","cell","picks","k","row","fault","due","found","kin","j"]
def eu:p7 b9x ["script"] (i9 M1):=⟨cm,cm,cm,de,cm,de,de⟩
abbrev mx(i:Nat):aO:=(x9 M1).getD i (.Pass ⟨0,0,0,0⟩)
def b2I:x9 M1=[mx 0,mx 1,mx 2,mx 3,mx 4]:=rfl
structure Calls(P:aM)(w:aL)(K:aF)(mg:aC->Option aE)(base:aJ)(n:Nat)(C Pt P2_ cE cB cH cR cT cM cL:aA)(kA kD:List (aC×Addr))(FA:aA->Sp->Prop)(a1 a2 a3 a4 a5 a6 a7 a8:aA)(d1 d2 d3 d4 d5 d6 d7 d8:aK):Prop where
 ce:CZ P w K mg base n "_law_cell_at" ["script","k"] (Ri K) a1 d1
 dw:CZ P w K mg base n "_law_draws" ["cell","many","base"] (Rj K) a2 d2
 ab:CZ P w K mg base n "_law_a_book" ["script","at","most","far"] (XB K) a3 d3
 tx:C9 P w K mg base n "_law_a_text" ["book"] (AJ K) a4 d4
 rw:C9 P w K mg base n "_law_a_row" ["book","picks"] (ZE K) a5 d5
 ad:C9 P w K mg base n "_law_a_due" ["past","row"] (ZA K Pt P2_) a6 d6
 sd:CZ P w K mg base n "_law_said" ["desk","row"] (YA K C cL cR cE cB cH cR cT cM cL kA kD FA) a7 d7
 dk:CZ P w K mg base n "_law_due_kin" ["name"] Zv a8 d8
structure G5(P:aM)(w:aL)(K:aF)(mg:aC->Option aE)(base:aJ)(n:Nat)(C cT fi:aA)(di:aK):Prop where
 WA:Mk K C fi
 ok:bf P w K mg base (W2 P w) n fi di ["self","text"] (Ym K C cT)
 bd:Binds K di ["self","text"] []
 m:mg "Desk"=fo (.ref C)
set_option genInjectivity false in
structure ya where
 {P:aM} {w:aL} {K:aF} {mg:aC->Option aE} {base:aJ} {f C Pt P2_:aA} {n:Nat} {kA kD:List (aC×Addr)} {FA:aA->Sp->Prop} {cE cB cH cR cT cM cL:aA} {ay:aE} {A:aV} {outer:List Env} {s:aG} {H:Hp} {E:XK} {a1 a2 a3 a4 a5 a6 a7 a8 fi:aA} {d1 d2 d3 d4 d5 d6 d7 d8 di:aK}
 (M:G5 P w K mg base n C cT fi di) (T:v8 mg) (zs:mg "str"=fO) (Cs:Calls P w K mg base (n+1) C Pt P2_ cE cB cH cR cT cM cL kA kD FA a1 a2 a3 a4 a5 a6 a7 a8 d1 d2 d3 d4 d5 d6 d7 d8) (hr:b_ (n+1) (A.deeper (cD "law" (i9 M1) s.heap.objs.size f ay)))
abbrev X1(c:ya):Cx:=(N8 J8 c.P c.w c.K c.mg c.base b9x "law" (i9 M1) c.f c.ay c.A c.outer c.s c.H c.E).oi
def fB:aO->List aO
 |.For _ _ b _ _=>b
 |_=>[]
def fI:aO->aR
 |.For _ e _ _ _=>e
 |_=>.Constant .none 0 ⟨0,0,0,0⟩
abbrev uy(i:Nat):aO:=(fB (mx 3)).getD i (.Pass ⟨0,0,0,0⟩)
def b7I:mx 3=.For (.Name "cell" ⟨525,8,525,12⟩) (fI (mx 3)) [uy 0,uy 1,uy 2,uy 3,uy 4,uy 5,uy 6] [] ⟨525,4,538,28⟩:=rfl
def ZF(c:ya):{t:TS//PS (X1 c) (mx 0) t} :=
 ⟨_,r6 (i:=1) eu.nd rfl (aI rfl) (l7 c.Cs.ab.ok c.hr rfl c.Cs.ab.m c.Cs.ab.k c.Cs.ab.b .nil v6 (c6 (pv 0) (c6 (d0) (c6 (d0) (c6 (d0) c7)))))⟩
def ZG(c:ya):{t:TS//PS (X1 c) (mx 1) t} :=
 ⟨_,r6 (i:=2) eu.nd rfl (aI rfl) (v9 (c6 (RN c.M.WA c.M.ok c.hr rfl c.M.m c.M.bd .nil RA (c6 (l7 c.Cs.tx.ok c.hr rfl c.Cs.tx.m c.Cs.tx.k c.Cs.tx.b .nil v6 (c6 (pv 1) c7)) c7)) (c6 (RN c.M.WA c.M.ok c.hr rfl c.M.m c.M.bd .nil RA (c6 (l7 c.Cs.tx.ok c.hr rfl c.Cs.tx.m c.Cs.tx.k c.Cs.tx.b .nil v6 (c6 (pv 1) c7)) c7)) c7)))⟩
def ZH(c:ya):{t:TS//PS (X1 c) (mx 2) t} :=
 ⟨_,r6 (i:=3) eu.nd rfl (aI rfl) (v9 (c6 (v9 (c6 (A9 (c6 (pv 1) (c6 (l9) c7))) c7)) (c6 (v9 (c6 (A9 (c6 (pv 1) (c6 (l9) c7))) c7)) c7)))⟩
def ZI(c:ya):{t:TS//PS (X1 c) (mx 4) t} :=
 ⟨_,o4 JC⟩
def b0(c:ya):{t:TS//PS (X1 c) (uy 0) t} :=
 ⟨_,r6 (i:=5) eu.nd rfl (aI rfl) (l7 c.Cs.dw.ok c.hr rfl c.Cs.dw.m c.Cs.dw.k c.Cs.dw.b .nil v6 (c6 (pv 4) (c6 (d0) (c6 (d0) c7))))⟩
def b1(c:ya):{t:TS//PS (X1 c) (uy 1) t} :=
 ⟨_,r6 (i:=6) eu.nd rfl (aI rfl) (j8 w8 (l8 j5 (pv 5) (d0) λ_ _=>rfl) d0)⟩
def b2(c:ya):{t:TS//PS (X1 c) (uy 2) t} :=
 ⟨_,r6 (i:=7) eu.nd rfl (aI rfl) (l7 c.Cs.rw.ok c.hr rfl c.Cs.rw.m c.Cs.rw.k c.Cs.rw.b .nil v6 (c6 (l8 U8 (l8 j5 (l8 j5 (pv 3) (pv 6) λ_ _=>rfl) (Eh V2 d0) λ_ _=>rfl) d0 λ_ _=>rfl) (c6 (pv 5) c7)))⟩
def b3(c:ya):{t:TS//PS (X1 c) (uy 3) t} :=
 ⟨_,D3 (l7 c.Cs.ad.ok c.hr rfl c.Cs.ad.m c.Cs.ad.k c.Cs.ad.b .nil v6 (c6 (l8 j5 (pv 3) (pv 6) λ_ _=>rfl) (c6 (pv 7) c7))) (Xg c.K (n:=2) rfl rfl (p6 (j9 (i:=8) eu.nd rfl (aI rfl)) (p6 (j9 (i:=9) eu.nd rfl (aI rfl)) A4)))⟩
def b4(c:ya):{t:TS//PS (X1 c) (uy 4) t} :=
 ⟨_,D3 (l7 c.Cs.sd.ok c.hr rfl c.Cs.sd.m c.Cs.sd.k c.Cs.sd.b .nil v6 (c6 (l8 j5 (pv 2) (pv 6) λ_ _=>rfl) (c6 (pv 7) c7))) (K4 rfl (p6 (j9 (i:=10) eu.nd rfl (aI rfl)) (p6 (j9 (i:=11) eu.nd rfl (aI rfl)) A4)))⟩
def b5(c:ya):{t:TS//PS (X1 c) (uy 5) t} :=
 ⟨_,w6 (l5 Ei (pv 8) l9 (r9 _)) (j4 (w6 (l5 (JU c.hr) (pv 11) (l7 c.Cs.dk.ok c.hr rfl c.Cs.dk.m c.Cs.dk.k c.Cs.dk.b .nil v6 (c6 (pv 8) c7)) (r9 _)) XE r8)) (j4 (w6 (PW.pt (U0 (l5 (JU c.hr) (pv 11) (v9 c7) (r9 _)) (U0 (S6 (X6 (j7 Uz rfl c.T.En gB (c6 (pv 10) (c6 (Ln (v:=.ty "str") rfl c.zs iB rfl) c7))))) (R9 (l5 Ei (pv 10) (pv 9) (r9 _)))))) XE r8))⟩
def b6(c:ya):{t:TS//PS (X1 c) (uy 6) t} :=
 ⟨_,IF hO rfl (R8 rfl c.T.range (c6 d0 c7)) (j9 (i:=12) eu.nd rfl (aI rfl)) (j4 (w6 (l5 (JU c.hr) (l7 c.Cs.sd.ok c.hr rfl c.Cs.sd.m c.Cs.sd.k c.Cs.sd.b .nil v6 (c6 (l8 j5 (pv 2) (pv 12) λ_ _=>rfl) (c6 (l9) c7))) (A9 (c6 (l7 c.Cs.tx.ok c.hr rfl c.Cs.tx.m c.Cs.tx.k c.Cs.tx.b .nil v6 (c6 (l8 U8 (l8 j5 (l8 j5 (pv 3) (pv 12) λ_ _=>rfl) (Eh V2 d0) λ_ _=>rfl) d0 λ_ _=>rfl) c7)) (c6 (v9 c7) c7))) (r9 _)) XE r8))⟩
def L7(c:ya):{t:TI//PI (X1 c) (.Name "cell" ⟨525,8,525,12⟩) (fI (mx 3)) t} :=
 ⟨_,C6 (j8 B9 (v9 (c6 (l7 c.Cs.ce.ok c.hr rfl c.Cs.ce.m c.Cs.ce.k c.Cs.ce.b .nil v6 (c6 (pv 0) (c6 (d0) c7))) c7)) (B7 M0 (pv 0) (B8 d0) (B8 d0)))⟩
theorem f3w{b0 b1 b2 b3 b4 b5 b6}(e:st=.For tg it [b0,b1,b2,b3,b4,b5,b6] [] p)(hp:qG (jf X.prog X.w) X.A X.env X.xe)(hc:X.calm=true)(hi:PI X tg it wi)(hg:PG X tg g)(hs:∀x,jz it X.env x=pure x)(h0:PS X b0 u0)(h1:PS X b1 u1)(h2:PS X b2 u2)(h3:PS X b3 u3)(h4:PS X b4 u4)(h5:PS X b5 u5)(h6:PS X b6 u6) :
  PS X st (L2.EF wi g (D9 u0 (D9 u1 (D9 u2 (D9 u3 (D9 u4 (D9 u5 u6))))))):=by
 subst e;exact IF hp hc hi hg (t8 h0 (t8 h1 (t8 h2 (t8 h3 (t8 h4 (t8 h5 (j4 h6))))))) hs
theorem f3F c:PS (X1 c) (mx 3) (L2.EF (L7 c).1 (N7 4) (D9 (b0 c).1 (D9 (b1 c).1 (D9 (b2 c).1 (D9 (b3 c).1 (D9 (b4 c).1 (D9 (b5 c).1 (b6 c).1))))))) :=
 f3w b7I hO rfl (L7 c).2 (j9 eu.nd rfl (aI rfl)) (by intro _;rfl) (b0 c).2 (b1 c).2 (b2 c).2 (b3 c).2 (b4 c).2 (b5 c).2 (b6 c).2
theorem f3x{b0 b1 b2 b3 b4}(e:l=[b0,b1,b2,b3,b4])(h0:PS X b0 u0)(h1:PS X b1 u1)(h2:PS X b2 u2)(h3:PS X b3 u3)(h4:PS X b4 u4) :
  fu X l (D9 u0 (D9 u1 (D9 u2 (D9 u3 u4)))):=by
 subst e;exact t8 h0 (t8 h1 (t8 h2 (t8 h3 (j4 h4))))
@[irreducible] def HP:List aO:=x9 M1
theorem a9L:HP=x9 M1:=by unfold HP;rfl
theorem b5b:HP=[mx 0,mx 1,mx 2,mx 3,mx 4]:=by
 rw[a9L];exact b2I
def b5N c:fu (X1 c) HP (D9 (ZF c).1 (D9 (ZG c).1 (D9 (ZH c).1 (D9 (L2.EF (L7 c).1 (N7 4) (D9 (b0 c).1 (D9 (b1 c).1 (D9 (b2 c).1 (D9 (b3 c).1 (D9 (b4 c).1 (D9 (b5 c).1 (b6 c).1))))))) (ZI c).1)))) :=
 f3x b5b (ZF c).2 (ZG c).2 (ZH c).2 (f3F c) (ZI c).2
def c1p(c:ya):{t:TS//fu (X1 c) (x9 M1) t} :=
 ⟨(D9 (ZF c).1 (D9 (ZG c).1 (D9 (ZH c).1 (D9 (L2.EF (L7 c).1 (N7 4) (D9 (b0 c).1 (D9 (b1 c).1 (D9 (b2 c).1 (D9 (b3 c).1 (D9 (b4 c).1 (D9 (b5 c).1 (b6 c).1))))))) (ZI c).1)))),by
  have h:=b5N c;rw[a9L] at h
  assumption⟩
inductive FU(K:aF)(Pt P2_:aA)(vs:List V)(H:Hp)(Q:VK)(sH:XK):Prop|mk:∀(a:aA)(ns:List Int),vs=[.ref a]->ah K H a (ns.map sh)->gu ns<=63->LT Pt H->nv P2_ H->(∀H',Q (.bl true) H')->FU K Pt P2_ vs H Q sH
section
variable{P:aM}{w:aL}{K:aF}{mg:aC->Option aE}{base:aJ}{f C Pt P2_:aA}{fd:aK}{n:Nat}{kA kD:List (aC×Addr)}{FA:aA->Sp->Prop}{cE cB cH cR cT cM cL:aA}
def f1R(h:(cs z).all (λc=>decide (c<128))=true):J6 z:=λc hc=>qh (fE.mp h c hc)
theorem HG.to9(g:HG 50 kt kg h):HG (10^9) kt kg h:=⟨g.lt,g.lg,λx hx=>⟨(g.t x hx).1,by have:=(g.t x hx).2;lia⟩,λx hx=>⟨(g.g x hx).1,by have:=(g.g x hx).2;lia⟩,g.p⟩
def b4u(h:v∈P5 xs lo hi):v∈xs:=fK (fV h)
theorem b6i(g:HG (10^9) kt kg h):ef h kt kg:=⟨⟨by rw[g.lt],λx hx=>⟨(g.t x hx).1,(g.t x hx).2⟩⟩,⟨by rw[g.lg],λx hx=>⟨(g.g x hx).1,(g.g x hx).2⟩⟩,g.p⟩
theorem b6G(g:HG (10^9) kt kg h)(t1:1<=kt)(t4:kt<=4)(g4:kg<=4):jg h:=by
 have g1:1<=gu h.2:=by
  obtain⟨x,hx,_⟩:=g.p;exact yR hx
 have:=b6i g;have e1:=g.lt;have e2:=g.lg;refine⟨⟨dj,dj⟩,⟨dj,dj⟩,?_⟩;rw[<-e1,<-e2] at this;exact this
theorem kd.isB(o:kd kt kg hs):gz hs:=by
 obtain⟨h0,r,rfl⟩:s_ λh0 r=>hs=h0::r:=by
  cases hs with
  |nil=>exact absurd o.l1 dz
  |cons h r=>exact⟨h,r,cm⟩
 have g0:=o.g h0 (.head _);refine⟨⟨o.l1,o.ui⟩,h0,cm,b6G g0 o.t1 o.t4 o.g4,λh hh=>?_⟩;have:=b6i (o.g h hh);rw[<-g0.lt,<-g0.lg] at this;exact this
def kd.sm(o:kd kt kg hs):∀h∈hs,Sm h.1/\Sm h.2:=λh hh=>Sw (o.g h hh) (dL _) o.t4 o.g4
theorem kd.len(o:kd kt kg hs):(Ey hs).length<=41000:=by
 have h1:=O7 λx hx=>by
  obtain⟨h,hh,rfl⟩:=aY.mp hx;exact RD (o.sm h hh).1 (o.sm h hh).2
 have h3:=sD (ch 10) (hs.map C2);have h2:(ch 10).length=1:=rfl;have:=o.ui;rw[h2,pN] at h3;rw[aH] at h1 h3;exact bF h3 (bF (kC h1 _) dj)
theorem kd.asc(o:kd kt kg hs):J6 (Ey hs):=Tx.se dz λp hp=>by
 obtain⟨g,hg,rfl⟩:=aY.mp hp;intro d hd;have:=Yj ⟨λx hx=>((o.sm g hg).1.2 x hx).1,λx hx=>((o.sm g hg).2.2 x hx).1⟩ hd;lia
theorem a9C(h:∀Q',Q' (.ref bk) H->te σ H Q')(BW:H bk=fo (.lst xs))(hB:Bk K H xs hs)(ob:kd kt kg hs)(q:∀p pa lo H',af H H'->e_ K C H' p (hs,"any") [] pa lo->(∀x,(x=p\/x=pa\/x∈lo)->H x=fO)->N (.ref p) H') :
  Ie C (Ym K C cT) [] E0 (Z2 (Qf (AJ K) [] E0 (Z2 te yb)) yb) σ H N:=by
 refine h _ ⟨bk,xs,hs,cm,ah.of BW,hB,by have:=ob.ui;lia,ob.sm,λH3 e3=>(λx dx hx WG nd=>?_)⟩;have sx:∀b o,H3 b=fo o->(upd (upd H3 dx (.own x)) x (.ins C dx [])) b=fo o:=λb o q0=>by rw[j3 (i7 q0 hx),j3 (i7 q0 WG)];exact q0
 have er:=a7U ob.isB;refine⟨x,dx,_,cm,ae,ob.asc,bF ob.len (by decide),λe=>dj,λdt e H4 pa lo DK k f1 f2=>?_⟩;rw[er] at e;cases e;have KW:∀{b:aA},(upd (upd H3 dx (.own x)) x (.ins C dx [])) b=fO->H b=fO:=λ{b}q1=>by
  cases e:H b with
  |none=>rfl
  |some o=>rw[sx _ _ (e3 _ _ e)] at q1;cases q1
 refine⟨cm,q x pa lo H4 (e3.trans (λb o q0=>k b o (i7 q0 hx) (sx b o q0))) DK λy hy=>?_⟩;rcases hy with rfl|rfl|hy
 .exact e3.free hx
 .exact KW f1
 .exact KW (f2 _ hy)
def f2g(h:te1 σ H λv1 H1=>te2 σ H1 λv2 H2=>2<=jb/\∀l,H2 l=fO->R.nx (σ.set i (fo (.ref l))) (upd H2 l (.lst [v1,v2]))):EE (Qe (Z2 te1 (Z2 te2 yb))) (N7 i) R σ H:=h
theorem yn.il(I:yn K C Pt P2_ H ill dl sl cl p pa pl lo D T past U)(e:af H H')(f:H FV=fO)(h:H' FV=fo (.lst cl')):yn K C Pt P2_ H' FV dl sl cl' p pa pl (FV::lo) D T past U:=by
 have J:=I.same e;have ls:∀b∈FV::lo,∃xs,H' b=fo (.lst xs):=λb hb=>by
  rcases bH.mp hb with rfl|hb
  .exact⟨_,h⟩
  .exact J.lst hb
 have m:∀b∈lo,b∈FV::lo:=λb hb=>bZ _ hb;refine⟨λj hj=>(J.d j hj).mono m (λhb=>?_) ls,λj hj=>(J.s j hj).mono m (λhb=>?_) ls,J.n,J.x,⟨.head _,m _ J.o.2.1,m _ J.o.2.2⟩,J.t,J.m,J.hd,J.hs,h⟩
 .obtain⟨dx,ba,pv,hp,_,_,jt,_⟩:=(I.d j hj).ex;rcases bH.mp hb with h|h
  .rw[h,f] at jt;cases jt
  .exact(I.d j hj).no h
 .obtain⟨pv,wb,_⟩:=(I.s j hj).ex;rcases bH.mp hb with h|h
  .rw[h,f] at wb;cases wb
  .exact(I.s j hj).no h
theorem FW(D:e_ K C H p L past pa lo)(h:x=p\/x=pa\/x∈lo):H x≠fO:=λz=>by
 obtain⟨dx,ba,pv,hp,_,_,jt,_⟩:=D.ex;rcases h with rfl|rfl|h
 .rw[hp] at z;cases z
 .rw[jt] at z;cases z
 .obtain⟨ys,hy⟩:=D.ls x h;rw[hy] at z;cases z
def GU(an:S):dI:=.tuple [.str an,.list []]
theorem b3c(h:J6 an):(GU an).canLay0=true:=by
 unfold GU;rw[fU,cP,cP,cP,a9t h];rfl
theorem b7b an:(GU an).depth<=60:=by
 unfold GU;simp[iY,iC]
def b6b(h1:H r=fo (.tup [.str an,.ref kl]))(h2:H kl=fo (.lst [])):Dp K H (.ref r) (GU an) :=
 .tup (cq.of h1) (.cons (.str an) (.cons (.lst (ah.of h2) .nil) .nil))
theorem b6V an:(!PyData.eqv (GU an) (GU an))=false:=by simp[GU,cK,hV]
theorem b5K{b1 b2 b3 b4 b5 b6}:(!PyData.eqv (Pp b1 b2 b3 b4 b5 b6) (Pp b1 b2 b3 b4 b5 b6))=false:=by
 cases b1<;>cases b2<;>cases b3<;>cases b4<;>cases b5<;>cases b6<;>simp[Pp,cK,hV]
theorem ML{B:Prop}(h:¬b=true)(hB:B):if b=true then A else B:=by simp_all
def c0t(K:aF)(C Pt P2_:aA)(H':Hp)(ill dl sl:aA)(cl:List V)(p pa pl:Nat->aA)(lo:List aA)(D:Nat->DS)(past:Nat->List DS)(j:Nat)(ft du:S):vg->Prop
 |.no x=>ft=x/\yn K C Pt P2_ H' ill dl sl cl p pa pl lo D D past past
 |.ok an L' f_=>ft=""/\du=an/\yn K C Pt P2_ H' ill dl sl cl p pa pl lo D (S9 D j L') past (S9 past j f_)
def b8S(K:aF)(C Pt P2_:aA)(H':Hp)(ill dl sl:aA)(cl:List V)(p pa pl:Nat->aA)(lo:List aA)(D:Nat->DS)(past:Nat->List DS)(j:Nat)(fv:V)(ks:List V):vg->Prop
 |.no x=>fv=.non/\ks=Po x/\yn K C Pt P2_ H' ill dl sl cl p pa pl lo D D past past
 |.ok an L' f_=>fv=.str an/\ks=[]/\yn K C Pt P2_ H' ill dl sl cl p pa pl lo (S9 D j L') (S9 D j L') (S9 past j f_) (S9 past j f_)
theorem b7G(F:Ay K "law" M1 f fd)(T:v8 mg)(zs:mg "str"=fO)(W:Zw K Pt P2_ cE cB cH cR cT cM cL kA kD FA)(M:G5 P w K mg base n C cT fi di)(Cs:Calls P w K mg base (n+1) C Pt P2_ cE cB cH cR cT cM cL kA kD FA a1 a2 a3 a4 a5 a6 a7 a8 d1 d2 d3 d4 d5 d6 d7 d8) :
  bf P w K mg base J8 (n+2) f fd ["script"] (FU K Pt P2_):=by
 refine F.oa eu λay A outer s H vs Q E hr h=>?_;obtain⟨a,ns,rfl,hS,h63,B_,Cc,q⟩:=h;refine⟨_,(c1p {M,T,zs,Cs,hr,..}).2,λau H'=>y_ λbk xs hs kt kg=>au=[fo (.ref a),fo (.ref bk),fO,fO,fO,fO,fO,fO,fO,fO,fO,fO,fO]/\af H H'/\H' bk=fo (.lst xs)/\Bk K H' xs hs/\kd kt kg hs,?_,?_⟩
 .exact⟨_,cm,a,ns,0,5,50,cm,hS,dz,dz,dz,dz,λbk H2 xs hs kt kg e2 BW hB l1 lm t1 t4 g1 g4 hG=>⟨bk,xs,hs,kt,kg,cm,e2,BW,hB,l1,dj,λh hh=>(hG h hh).to9,t1,t4,g4⟩⟩
 intro Eg H1 cw;refine E8 λG_ cy=>?_;obtain⟨bk,xs,hs,kt,kg,rfl,e1,BW,hB,ob⟩:=cw;subst cy;refine⟨λau H'=>t_ λ(dl:aA)(p pa:Nat->aA)(lo:List aA)=>au=[fo (.ref a),fo (.ref bk),fo (.ref dl),fO,fO,fO,fO,fO,fO,fO,fO,fO,fO]/\af H1 H'/\H' dl=fo (.lst [.ref (p 0),.ref (p 1)])/\(∀j,j<2->e_ K C H' (p j) (hs,"any") [] (pa j) lo/\pa j≠bk)/\p 0≠p 1/\pa 0≠pa 1/\dl∈lo,?_,?_⟩
 .refine f2g (te1:=Ie C (Ym K C cT) [] E0 (Z2 (Qf (AJ K) [] E0 (Z2 (JB 1) yb)) yb)) (te2:=Ie C (Ym K C cT) [] E0 (Z2 (Qf (AJ K) [] E0 (Z2 (JB 1) yb)) yb)) (a9C (λQ' hq=>⟨_,cm,hq⟩) BW hB ob λp0 Jp Jq H2 e2 D0 f0=>(a9C (λQ' hq=>⟨_,cm,hq⟩) (e2 _ _ BW) (Bk.same e2 hB) ob λp1 Py lo1 H3 e3 D1 f1=>⟨aw,λdl GW=>?_⟩));have s4:=af.new GW (.lst [sy p0,sy p1]);have YY:=(D0.same e3).same s4;have D1':=D1.same s4;have n0:∀x,(x=p0\/x=Jp\/x∈Jq)->¬(x=p1\/x=Py\/x∈lo1):=λx h h'=>FW D0 h (f1 x h');have ls:∀b∈dl::(Jq++lo1),∃xs,(upd H3 dl (.lst [sy p0,sy p1])) b=fo (.lst xs):=λb hb=>by
   rcases bH.mp hb with rfl|hb
   .exact⟨_,ae⟩
   .exact(bJ.mp hb).elim (YY.ls b) (D1'.ls b)
  refine⟨dl,λj=>if j=0 then p0 else p1,λj=>if j=0 then Jp else Py,dl::(Jq++lo1),cm,e2.trans (e3.trans s4),ae,λj hj=>?_,λz=>n0 p0 (.inl rfl) (.inl z),λz=>n0 Jp (.inr (.inl rfl)) (.inr (.inl z)),.head _⟩;have ZJ:=e2 _ _ BW;match j,hj with
  |0,_ =>
   refine⟨YY.mono (λb hb=>bZ _ (fW _ hb)) (λhb=>?_) ls,λz=>?_⟩
   .rcases bH.mp hb with h|h
    .exact(λx h z=>FW (D0.same e3) h (z▸GW)) Jp (.inr (.inl rfl)) h
    .rcases bJ.mp h with h|h
     .exact D0.no h
     .exact n0 Jp (.inr (.inl rfl)) (.inr (.inr h))
   .have:=f0 Jp (.inr (.inl rfl));rw[show Jp=bk from z,BW] at this;cases this
  |1,_ =>
   refine⟨D1'.mono (λb hb=>bZ _ (eL _ hb)) (λhb=>?_) ls,λz=>?_⟩
   .rcases bH.mp hb with h|h
    .exact(λx h z=>FW D1 h (z▸GW)) Py (.inr (.inl rfl)) h
    .rcases bJ.mp h with h|h
     .exact n0 Py (.inr (.inr h)) (.inr (.inl rfl))
     .exact D1.no h
   .have:=f1 Py (.inr (.inl rfl));rw[show Py=bk from z,ZJ] at this;cases this
 intro ir H2 cw;refine E8 λG_ cy=>?_;obtain⟨dl,p,pa,lo,rfl,e2,GW,hD,np,na,ZK⟩:=cw;subst cy;refine⟨λau H'=>tq λ(sl:aA)(pl:Nat->aA)(lo:List aA)=>au=[fo (.ref a),fo (.ref bk),fo (.ref dl),fo (.ref sl),fO,fO,fO,fO,fO,fO,fO,fO,fO]/\af H H'/\yn K C Pt P2_ H' dl dl sl [.ref (p 0),.ref (p 1)] p pa pl lo (λ_=>(hs,"any")) (λ_=>(hs,"any")) (λ_=>[]) (λ_=>[]),?_,?_⟩
 .refine⟨_,cm,aw,λt0 ht0=>⟨aw,λq0 hq0=>⟨_,cm,aw,λt1 ht1=>⟨aw,λq1 QE=>⟨aw,λsl je=>?_⟩⟩⟩⟩⟩;have s4:=af.new ht0 (.tup [sy bk,su "any"]);have s5:=af.new hq0 (.lst [sy t0]);have s6:=af.new ht1 (.tup [sy bk,su "any"]);have s7:=af.new QE (.lst [sy t1]);have s8:=af.new je (.lst [sy q0,sy q1]);have e8:=s4.trans (s5.trans (s6.trans (s7.trans s8)));have esl:=ae (H:=upd (upd (upd (upd H2 t0 (.tup [sy bk,su "any"])) q0 (.lst [sy t0])) t1 (.tup [sy bk,su "any"])) q1 (.lst [sy t1])) (a:=sl) (o:=.lst [sy q0,sy q1]);have fq0:=s4.free hq0;have fq1:=(s4.trans (s5.trans s6)).free QE;have n01:q0≠q1:=i7 ((s6 _ _ ae)) QE;generalize upd (upd (upd (upd (upd H2 t0 (.tup [sy bk,su "any"])) q0 (.lst [sy t0])) t1 (.tup [sy bk,su "any"])) q1 (.lst [sy t1])) sl (.lst [sy q0,sy q1])=H3 at *;have Yv:=e8 _ _ (e2 _ _ BW);have e3:=e1.trans (e2.trans e8);have DC:=Bk.same (e2.trans e8) hB;have ls:∀b∈sl::bk::lo,∃xs,H3 b=fo (.lst xs):=λb hb=>by
   rcases bH.mp hb with rfl|hb
   .exact⟨_,esl⟩
   .rcases bH.mp hb with rfl|hb
    .exact⟨_,Yv⟩
    .exact(((hD 0 dz).1.same e8).ls b hb)
  have no:∀{x:aA},H2 x=fO->x≠sl->x ∉ sl::bk::lo:=λ{x}f n hb=>by
   rcases bH.mp hb with h|hb
   .exact n h
   .rcases bH.mp hb with h|hb
    .rw[h,e2 _ _ BW] at f;cases f
    .exact FW (hD 0 dz).1 (.inr (.inr hb)) f
  have pq:∀{j:Nat}{x:aA},j<2->H2 x=fO->pa j≠x:=λhj f z=>FW (hD _ hj).1 (.inr (.inl rfl)) (z▸f);refine⟨sl,λj=>if j=0 then q0 else q1,sl::bk::lo,cm,e3,λj hj=>?_,λj hj=>?_,λi j hi hj iy=>?_,λi j hi hj=>?_,⟨List.mem_cons_of_mem _ (bZ _ ZK),bZ _ (bZ _ ZK),.head _⟩,B_.same e3,Cc.same e3,e8 _ _ GW,esl,e8 _ _ GW⟩
  .refine((hD j hj).1.same e8).mono (λb hb=>bZ _ (bZ _ hb)) (λhb=>?_) ls;rcases bH.mp hb with h|hb
   .exact pq hj ((s4.trans (s5.trans (s6.trans s7))).free je) h
   .rcases bH.mp hb with h|hb
    .exact(hD j hj).2 h
    .exact(hD j hj).1.no hb
  .match j,hj with
   |0,_=>exact⟨no fq0 (i7 ((s6.trans s7) _ _ ae) je),ls,_,(s6.trans (s7.trans s8)) _ _ (ae (a:=q0) (o:=.lst [sy t0])),.cons ⟨t0,bk,cm,(s5.trans (s6.trans (s7.trans s8))) _ _ (ae (a:=t0) (o:=.tup [sy bk,su "any"])),.tail _ (.head _),xs,Yv,DC⟩ .nil⟩
   |1,_=>exact⟨no fq1 (i7 ae je),ls,_,s8 _ _ (ae (a:=q1) (o:=.lst [sy t1])),.cons ⟨t1,bk,cm,(s7.trans s8) _ _ (ae (a:=t1) (o:=.tup [sy bk,su "any"])),.tail _ (.head _),xs,Yv,DC⟩ .nil⟩
  .have:i=0/\j=1\/i=1/\j=0:=eX;rcases this with⟨rfl,rfl⟩|⟨rfl,rfl⟩
   .exact⟨np,na,n01⟩
   .exact⟨np.symm,na.symm,n01.symm⟩
  .match j,hj with
   |0,_=>exact pq hi fq0
   |1,_=>exact pq hi fq1
 intro zx H3 cw;refine E8 λG_ cy=>?_;obtain⟨sl,pl,lo,rfl,e3,I3⟩:=cw;subst cy;clear GW hD np na ZK e2;refine⟨λau H'=>True,?_,?_⟩
 rotate_left
 .intro _ _ _;exact q _
 refine⟨_,cm,a,ns,2,cm,e3.seq hS,dz,λc0=>⟨aw,λl0 CU=>?_⟩⟩;have f0:=af.new CU (.lst [sh c0]);refine⟨_,cm,(3:Int),cm,(28:Int),cm,a,_,cm,(e3.trans f0).seq hS,λl1 Aw=>?_⟩;have lc:=a3n (ns.map sh) (fo 3) (fo 28);rw[aH] at lc;have mc:∀v∈P5 (ns.map sh) (fo 3) (fo 28),∃c,v=.int c:=λv hv=>by
  obtain⟨c,_,rfl⟩:=aY.mp (b4u hv);exact⟨c,cm⟩
 generalize P5 (ns.map sh) (fo 3) (fo 28)=Fz at *;have f1:=af.new Aw (.lst Fz);refine⟨l0,l1,_,_,cm,cm,f1 _ _ ae,ae,by rw[bE];show 1+gu Fz<=_;lia,λill nj=>?_⟩;have itn:∀(i:Nat)(x:V),([sh c0]++Fz)[i]?=fo x->∃c,x=.int c:=λi x hx=>by
  rcases bJ.mp (bK hx) with z|z
  .exact⟨c0,cJ.mp z⟩
  .exact mc x z
 have e7:=f0.trans (f1.trans (af.new nj (.lst ([sh c0]++Fz))));have K':=ae (H:=upd (upd H3 l0 (.lst [sh c0])) l1 (.lst Fz)) (a:=ill) (o:=.lst ([sh c0]++Fz));have I7:=I3.il e7 ((f0.trans f1).free nj) K';have lcl:gu ([sh c0]++Fz)<=64:=by rw[aX];show 1+gu Fz<=_;lia
 have Up:∀j,j<2->DF kt kg ((λ_:Nat=>([]:List DS)) j++[(λ_:Nat=>((hs,"any"):DS)) j])/\gu ((λ_:Nat=>([]:List DS)) j)<=0:=λj _=>⟨λM hM=>by
  rw[cJ.mp hM];exact⟨ob,.inl rfl⟩,aT _⟩
 generalize upd (upd (upd H3 l0 (.lst [sh c0])) l1 (.lst Fz)) ill (.lst ([sh c0]++Fz))=H7 at *;generalize [sh c0]++Fz=cl at *;refine⟨ill,cm,⟨_,ah.of K'⟩,?_⟩;refine Rv (xs:=cl) (λi σ H'=>yM λ(ug o5 o6 o7 o8 o9:Option V)=>yM λ(HC BP ux:Option V)(lo:List aA)(D:Nat->DS)(past:Nat->List DS)=>σ=[fo (.ref a),fo (.ref bk),fo (.ref dl),fo (.ref sl),ug,o5,o6,o7,o8,o9,HC,BP,ux]/\yn K C Pt P2_ H' ill dl sl cl p pa pl lo D D past past/\∀j,j<2->DF kt kg (past j++[D j])/\gu (past j)<=i)
  ⟨_,_,_,_,_,_,_,_,_,_,_,_,cm,I7,Up⟩ (λi σ H' _ ⟨_,_,_,_,_,_,_,_,_,_,_,_,_,I,_⟩=>ah.of I.hi) ?_ (λ_ _ _=>trivial)
 clear I7 I3 e7 K' hB BW Up;rintro i x σ H8 hx ⟨ug,o5,o6,o7,o8,o9,HC,BP,ux,lo,D,past,rfl,I8,MN⟩;have hic:i<gu cl:=(cA.mp hx).1;obtain⟨cell,rfl⟩:=itn i x hx;refine⟨λau H'=>s_ λ(pk:aA)(ds:List Int)=>au=[fo (.ref a),fo (.ref bk),fo (.ref dl),fo (.ref sl),fo (.int cell),fo (.ref pk),o6,o7,o8,o9,HC,BP,ux]/\yn K C Pt P2_ H' ill dl sl cl p pa pl lo D D past past/\H' pk=fo (.lst (ds.map sh))/\gu ds=15/\(∀d∈ds,0<=d/\d<1000),?_,?_⟩
 .refine⟨_,cm,cell,15,1000,cm,dz,dz,dz,λpk H9 ds e9 Fv ld bd=>⟨pk,ds,cm,I8.same e9,Fv,ld,bd⟩⟩
 intro σ9 H9 cw;refine E8 λG_ cy=>?_;obtain⟨pk,ds,rfl,I9,Fv,ld,bd⟩:=cw;subst cy;obtain⟨PC,Zc,i14⟩:=K2 (ns:=ds) (k:=14) dz eX;have b14:=bd PC Zc;obtain⟨j,hj,ej⟩:∃j:Nat,j<2/\PC%2=(j:Int):=⟨(PC%2).toNat,eX,eX⟩;have FX:∀{f:Nat->aA}{j:Nat},j<2->U7 [sy (f 0),sy (f 1)] (j:Int)=fo (.ref (f j)):=λ{f j}hj=>by
  match j,hj with
  |0,_=>rfl
  |1,_=>rfl
 refine⟨λau H'=>au=[fo (.ref a),fo (.ref bk),fo (.ref dl),fo (.ref sl),fo (.int cell),fo (.ref pk),fo (.int (j:Int)),o7,o8,o9,HC,BP,ux]/\H9=H',?_,?_⟩
 .exact⟨_,cm,pk,_,_,_,cm,cm,ah.of Fv,i14,_,_,cm,cm,br,by rw[<-ej];rfl,cm⟩
 rintro _ _ ⟨rfl,rfl⟩;obtain⟨okL,lpj⟩:=MN j hj;obtain⟨obj,hz⟩:=okL _ (eL _ (.head _));refine⟨λau H'=>∃row:S,au=[fo (.ref a),fo (.ref bk),fo (.ref dl),fo (.ref sl),fo (.int cell),fo (.ref pk),fo (.int (j:Int)),fo (.str row),o8,o9,HC,BP,ux]/\yn K C Pt P2_ H' ill dl sl cl p pa pl lo D D past past/\W5 (cs row)=false/\J6 row/\row.length<=100000,?_,?_⟩
 .obtain⟨pv,t,b,hp,Br,_,ht,hb,BW⟩:=(I9.s j hj).last;exact⟨_,cm,_,cm,sl,_,_,_,cm,cm,ah.of I9.hs,FX hj,_,cm,pl j,_,_,_,cm,cm,ah.of hp,Ig _ _,t,_,0,_,cm,cm,cq.of ht,Oz _ _,_,cm,b,pk,(D j).1,ds,kt,kg,cm,BW,obj,Fv,ld,bd,λrow H' e' hb as le=>⟨row,cm,I9.same e',hb,as,le⟩⟩
 intro σ10 JS cw;refine E8 λG_ cy=>?_;obtain⟨row,rfl,zO,hb,as,le⟩:=cw;subst cy;refine⟨λau H'=>t_ λ(lo:List aA)(r:vg)(ft du:S)=>au=[fo (.ref a),fo (.ref bk),fo (.ref dl),fo (.ref sl),fo (.int cell),fo (.ref pk),fo (.int (j:Int)),fo (.str row),fo (.str ft),fo (.str du),HC,BP,ux]/\Due kt kg (D j).1 (D j).2 (past j) r (U6 row)/\c0t K C Pt P2_ H' ill dl sl cl p pa pl lo D past j ft du r,?_,?_⟩
 .refine⟨_,cm,_,cm,sl,_,_,_,cm,cm,ah.of zO.hs,FX hj,_,cm,pl j,row,past j,(D j).1,(D j).2,lo,kt,kg,cm,zO.s j hj,eX,obj,hz,as,le,zO.t,zO.m,W.ne,λr jx=>?_⟩;cases r with
  |no x=>exact λH' t e' ht=>⟨t,_,cm,ah.of ht,cm,_,_,cm,_,_,cm,cm,lo,.no x,x,"",cm,jx,cm,zO.same e'⟩
  |ok an L' f_=>exact λH' t lo' PA' lf L' yx sub ht=>⟨t,_,cm,ah.of ht,cm,_,_,cm,_,_,cm,cm,lo'++lo,.ok an _ f_,"",an,cm,jx,cm,cm,zO.due hj PA' lf L' yx sub⟩
 intro σ12 Rp cw;refine E8 λG_ cy=>?_;obtain⟨lo1,r,ft,du,rfl,La,hD⟩:=cw;subst cy;obtain⟨Dq,AS⟩:FE K C Pt P2_ Rp (p j) (pa j) lo1 ((D j).1,(D j).2) (past j)/\Rp dl=fo (.lst [.ref (p 0),.ref (p 1)]):=by
  cases r with
  |no x=>exact⟨⟨hD.2.d j hj,eX,hD.2.t,hD.2.m⟩,hD.2.hd⟩
  |ok an L' f_=>exact⟨⟨hD.2.2.d j hj,eX,hD.2.2.t,hD.2.2.m⟩,hD.2.2.hd⟩
 refine⟨λau H'=>t_ λ(fv:V)(kl:aA)(ks:List V)(lo:List aA)=>au=[fo (.ref a),fo (.ref bk),fo (.ref dl),fo (.ref sl),fo (.int cell),fo (.ref pk),fo (.int (j:Int)),fo (.str row),fo (.str ft),fo (.str du),fo fv,fo (.ref kl),ux]/\H' kl=fo (.lst ks)/\b8S K C Pt P2_ H' ill dl sl cl p pa pl lo D past j fv ks r,?_,?_⟩
 .refine⟨_,cm,_,cm,dl,_,_,_,cm,cm,ah.of AS,FX hj,_,cm,?_⟩;dsimp only[yb,gG,fD];refine a6N Dq obj hz as le hb W λr' jx=>?_;have er:=Due.eq hz obj.g jx La;subst er;cases r' with
  |no x=>exact λH' t kl e' ht iw=>⟨t,_,cm,cq.of ht,cm,_,_,cm,_,_,cm,cm,.non,kl,_,lo1,cm,iw,cm,cm,hD.2.same e'⟩
  |ok an L' f_=>exact λH' t kl lo' DK lf L' yx sub ht iw=>⟨t,_,cm,cq.of ht,cm,_,_,cm,_,_,cm,cm,.str an,kl,_,lo'++lo1,cm,iw,cm,cm,hD.2.2.said hj DK lf L' yx sub⟩
 intro σ13 H13 cw;refine E8 λG_ cy=>?_;obtain⟨fv,kl,ks,lo2,rfl,iw,BG⟩:=cw;subst cy;refine⟨λau H'=>s_ λ(D':Nat->DS)(f_:Nat->List DS)=>au=[fo (.ref a),fo (.ref bk),fo (.ref dl),fo (.ref sl),fo (.int cell),fo (.ref pk),fo (.int (j:Int)),fo (.str row),fo (.str ft),fo (.str du),fo fv,fo (.ref kl),ux]/\yn K C Pt P2_ H' ill dl sl cl p pa pl lo2 D' D' f_ f_/\∀j,j<2->DF kt kg (f_ j++[D' j])/\gu (f_ j)<=i+1,?_,?_⟩
 .refine⟨_,cm,cm,_,cm,?_⟩;cases r with
  |no x =>
   obtain⟨rfl,rfl,Zd⟩:=BG;obtain⟨rfl,_⟩:=hD;refine y6 (λc=>⟨_,cm,_,cm,ft,cm,λr2 H14 Ew MB=>⟨_,_,a9Z (Ew _ _ iw),a9Z MB,cm,cm,by simp[Pp,iY,iC],_,cm,?_⟩⟩) (λc=>absurd (by simpa using λh=>La.ne h) c);rw[b5K];exact M7 ⟨D,past,cm,Zd.same Ew,λj hj=>⟨(MN j hj).1,Nat.le_succ_of_le (MN j hj).2⟩⟩
  |ok an L' f_ =>
   obtain⟨rfl,rfl,Zd⟩:=BG;obtain⟨rfl,rfl,_⟩:=hD;refine ML fg ⟨_,cm,aw,λel Fi=>?_⟩;have s14:=af.new Fi (.lst []);refine⟨.list [],.list [],.lst (ah.of (s14 _ _ iw)) .nil,.lst (ah.of ae) .nil,cm,cm,by simp[iY,iC],_,cm,ML (by simp[cK,hV]) ?_⟩;refine⟨_,cm,_,_,"str",true,cm,.str _,U5 _,_,cm,?_⟩;refine M7 ?_;refine⟨_,cm,_,cm,cm,_,cm,?_⟩;refine ML fg ⟨S9 D j L',S9 past j f_,cm,Zd.same s14,λk hk=>?_⟩;by_cases ZL:k=j
   .subst ZL;rw[N4,N4];have:=Due.step La okL;exact⟨this.1,by have:=this.2;lia⟩
   .rw[V8 ZL,V8 ZL];exact⟨(MN k hk).1,Nat.le_succ_of_le (MN k hk).2⟩
 intro σ15 H15 cw;refine E8 λG_ cy=>?_;obtain⟨D',f_,rfl,I15,PD⟩:=cw;subst cy;clear BG iw hD La Dq AS;refine⟨2,cm,eX,eX,?_⟩;refine PZ (n:=2) (λk σ H'=>s_ λ(ux:Option V)(lo:List aA)=>σ=[fo (.ref a),fo (.ref bk),fo (.ref dl),fo (.ref sl),fo (.int cell),fo (.ref pk),fo (.int (j:Int)),fo (.str row),fo (.str ft),fo (.str du),fo fv,fo (.ref kl),ux]/\yn K C Pt P2_ H' ill dl sl cl p pa pl lo D' D' f_ f_) ⟨_,lo2,cm,I15⟩ ?_ ?_
 rotate_left
 .rintro σ H16 ⟨ux,lo,rfl,PF⟩;exact⟨_,_,_,_,_,_,_,_,_,lo,D',f_,cm,PF,PD⟩
 rintro k σ H16 hk ⟨ux,lo3,rfl,PF⟩;rw[lH];obtain⟨okk,lpk⟩:=PD k hk;obtain⟨SK,RP⟩:=okk _ (eL _ (.head _));refine⟨_,cm,_,cm,dl,_,_,_,cm,cm,ah.of PF.hd,FX hk,?_⟩;dsimp only[Z2,yb,tC,gG,fD];refine f1L (hs:=(D' k).1) (z:=(D' k).2) (past:=f_ k) ⟨PF.d k hk,eX,PF.t,PF.m⟩ SK (f1R de) de b3I W.pb ?_;refine λH18 t kl2 lo' DK lf L' yx sub ht Zg=>?_;have L9:=PF.said hk DK lf L' yx sub;rw[show((D' k).1,(D' k).2)=D' k from rfl,b0z,b0z] at L9;obtain⟨pv,t2,b2,oy,Br,_,Kj,IU,xs2,El,hB2⟩:=(L9.s k hk).last;refine⟨_,cm,_,cm,sl,_,_,_,cm,cm,ah.of L9.hs,FX hk,_,cm,pl k,_,_,_,cm,cm,ah.of oy,Ig _ _,t2,_,0,_,cm,cm,cq.of Kj,Oz _ _,b2,xs2,(D' k).1,cm,ah.of El,hB2,by have:=SK.ui;lia,SK.sm,λH19 n6=>⟨aw,λel Fi=>⟨aw,λtt Pj=>?_⟩⟩⟩;have s2:=af.new Pj (.tup [su (Ey (D' k).1),sy el]);have MO:=n6.trans ((af.new Fi (.lst [])).trans s2);refine⟨GU _,GU _,b6b (MO _ _ ht) (MO _ _ Zg),b6b ae (s2 _ _ ae),b3c SK.asc,b3c SK.asc,bF (sF _ _) (b7b _),_,cm,?_⟩;rw[b6V];exact M7 ⟨_,_,cm,L9.same MO⟩
end
def b8U(P:aM)(w:aL)(K:aF)(mg:aC->Option aE)(base:aJ)(N:Nat):aA->Sp->Prop:=λg sp=>∀n,Yq P w K mg base (n+N) g sp
section
variable{P:aM}{w:aL}{K:aF}{mg:aC->Option aE}{base:aJ}{f:aA}{fd:aK}{n:Nat}
def f3h{ay:aE}{A:aV}{outer:List Env}{s:aG}{H:Hp}{E:XK}{f1:aA}{d1:aK}(T:v8 mg)(zs:mg "str"=fO)(Cw:C9 P w K mg base n "_law_written" ["house"] (FC K) f1 d1)
  (hr:b_ n (A.deeper (cD "_law_a_row" (i9 Du) s.heap.objs.size f ay))) :
  {t:TS//fu (N8 J8 P w K mg base rwN "_law_a_row" (i9 Du) f ay A outer s H E).oi (x9 Du) t} :=
 ⟨_,j0 (r6 (i:=2) xM.nd rfl (aI rfl) (v5 E5 rfl zs iB (c6 (j8 w8 (l8 j5 (pv 1) d0 (λ_ _=>rfl)) (j8 D4 (j7 j6 rfl T.len bB (c6 (pv 0) c7)) (d0))) c7)))
  (t8 (CA (i:=3) ["pick"] [] xM.nd rfl rfl rfl (C6 (B7 M0 (pv 1) (B8 d0) (B8 (j8 D4 (d0) (j7 j6 rfl T.len bB (c6 (l8 U8 (l8 j5 (pv 0) d0 (λ_ _=>rfl)) d0 (λ_ _=>rfl)) c7)))))) (λ_ _ _ _=>j9 (i:=0) f3e rfl (aI rfl)) (λ_ _ _ _=>j8 D4 (d0) (j8 w8 (pv 0) (d0))))
  (t8 (CA (i:=4) ["pick"] [] xM.nd rfl rfl rfl (C6 (B7 M0 (pv 1) (B8 d0) (B8 (j8 D4 (d0) (j7 j6 rfl T.len bB (c6 (l8 U8 (l8 j5 (pv 0) d0 (λ_ _=>rfl)) d0 (λ_ _=>rfl)) c7)))))) (λ_ _ _ _=>j9 (i:=0) f3e rfl (aI rfl)) (λ_ _ _ _=>j8 D4 (j8 w8 (pv 0) (d0)) (d0)))
  (t8 (w6 (l5 E6 (j8 w8 (l8 j5 (pv 1) d0 (λ_ _=>rfl)) (d0)) d0 (r9 _)) (j4 (r6 (i:=3) xM.nd rfl (aI rfl) (B7 M0 (j8 B9 (pv 3) (v9 (c6 (d0) c7))) G1 (B8 d0)))) r8)
  (t8 (w6 (l5 E6 (j8 w8 (l8 j5 (pv 1) d0 (λ_ _=>rfl)) (d0)) d0 (r9 _)) (j4 (D3 (l8 j5 (v9 (c6 (d0) (c6 (j8 D4 (j8 Qa d0 d0) (d0)) (c6 (j8 Qa d0 d0) c7)))) (j8 w8 (l8 j5 (pv 1) d0 (λ_ _=>rfl)) (d0)) (λ_ _=>rfl)) (Gy (pv 3) d0 O1))) r8)
  (t8 (r6 (i:=5) xM.nd rfl (aI rfl) (Cw.c hr (c6 (A9 (c6 (pv 3) (c6 (pv 4) c7))) c7)))
  (j0 (r6 (i:=6) xM.nd rfl (aI rfl) (v9 (c6 (j8 E2 (l9) (pv 5)) (c6 (j8 E2 (l9) (pv 5)) (c6 (j8 E2 (l9) (pv 2)) (c6 (l9) (c6 (l9) c7)))))))
  (j0 (r6 (i:=6) xM.nd rfl (aI rfl) (j8 B9 (j8 B9 (pv 6) (j8 Q6 (v9 (c6 (j8 E2 (j8 E2 (j8 E2 (l9) (pv 2)) (l9)) (pv 5)) c7)) d0)) (v9 (c6 (l9) c7))))
  (j0 (r6 (i:=6) xM.nd rfl (aI rfl) (j8 B9 (pv 6) (v9 (c6 (j8 E2 (l9) (pv 2)) (c6 (j8 E2 (l9) (pv 2)) (c6 (l9) (c6 (l9) c7)))))))
  (j0 (R3 (K7 iK jW jX P2 (pv 6) (c6 (j8 E2 (l9) (l8 j5 (v9 (c6 (l9) (c6 (l9) (c6 (l9) (c6 (l9) (c6 (l9) c7)))))) (j8 w8 (l8 j5 (pv 1) d0 (λ_ _=>rfl)) (d0)) (λ_ _=>rfl))) c7)))
  (t8 (r6 (i:=7) xM.nd rfl (aI rfl) (l8 j5 (pv 6) (j8 w8 (l8 j5 (pv 1) d0 (λ_ _=>rfl)) (d0)) (λ_ _=>rfl)))
  (j0 (r6 (i:=8) xM.nd rfl (aI rfl) (j8 w8 (l8 j5 (pv 1) d0 (λ_ _=>rfl)) (j8 D4 (j7 Q8 rfl T.len bB (c6 (pv 7) c7)) (d0))))
  (t8 (w6 (l5 E6 (j8 w8 (l8 j5 (pv 1) d0 (λ_ _=>rfl)) (d0)) d0 (r9 _)) (j4 (r6 (i:=7) xM.nd rfl (aI rfl) (j8 E2 (B7 Jh (pv 7) G1 (B8 (pv 8))) (B7 Jh (pv 7) (B8 (j8 D4 (pv 8) (d0))) G1)))) r8)
  (t8 (w6 (l5 E6 (j8 w8 (l8 j5 (pv 1) d0 (λ_ _=>rfl)) (d0)) d0 (r9 _)) (j4 (r6 (i:=7) xM.nd rfl (aI rfl) (j8 E2 (j8 E2 (B7 Jh (pv 7) G1 (B8 (pv 8))) (l8 Nc l9 (j8 w8 (l8 j5 (pv 1) d0 (λ_ _=>rfl)) (d0)) (λ_ _=>rfl))) (B7 Jh (pv 7) (B8 (pv 8)) G1)))) r8)
  (t8 (w6 (l5 E6 (j8 w8 (l8 j5 (pv 1) d0 (λ_ _=>rfl)) (d0)) d0 (r9 _)) (j4 (r6 (i:=7) xM.nd rfl (aI rfl) (j8 E2 (pv 7) (l8 j5 (v9 (c6 (l9) (c6 (l9) (c6 (l9) c7)))) (j8 w8 (l8 j5 (pv 1) d0 (λ_ _=>rfl)) (d0)) (λ_ _=>rfl))))) r8)
  (j4 (o4 (pv 7)))))))))))))))))⟩
end
def X3(h:(cs z).all (λc=>decide (c<128))=true):J6 z:=λc hc=>qh (fE.mp h c hc)
def DG(r:S):Prop:=MD r/\J6 r/\r.length<=20100
def ZM(r:S):Prop:=W5 (cs r)=false/\J6 r/\r.length<=90000
theorem ZN(hu:∃u0∈UL,cs u=u0++[32])(au_:J6 u)(lu_:u.length<=6)(at':J6 t)(lt':t.length<=20000):DG (u++t):=by
 obtain⟨u0,h0,e⟩:=hu;exact⟨.inr ⟨u0,h0,cs t,by rw[Tx.bu,e,dC];rfl⟩,Tx.dv au_ at',by rw[G9];lia⟩
theorem f1Y(an:J6 n)(ln:n.length<=10)(az:J6 z)(lz:z.length<=20000):DG ((("alter ":aC)++n)++(" ":aC)++z):=by
 refine⟨.inr ⟨cs "alter",de,cs n++(cs " "++cs z),?_⟩,Tx.dv (Tx.dv (Tx.dv (X3 rfl) an) (X3 rfl)) az,?_⟩
 .rw[Tx.bu,Tx.bu,Tx.bu,show cs ("alter ":aC)=cs ("alter":aC)++[32] from de];simp only[dC];rfl
 .rw[G9,G9,G9];show 6+n.length+1+z.length<=_;lia
theorem f2E(F:Ay K "_law_a_row" Du f fd)(T:v8 mg)(zs:mg "str"=fO)(Cw:C9 P w K mg base n "_law_written" ["house"] (FC K) f1 d1):bf P w K mg base J8 (n+1) f fd ["book","picks"] (ZE K):=by
 refine F.oa xM λay A outer s H vs Q E hr h=>?_;obtain⟨b,pk,hs,ds,kt,kg,rfl,⟨xs,hx,hB⟩,ob,Fv,l15,bd,q⟩:=h;have hS:ah K H pk (ds.map sh):=ah.of Fv;refine⟨_,(f3h T zs Cw hr).2,?_⟩;have xl:gu xs=gu hs:=dE hB;have l1:=ob.l1;have ui:=ob.ui;have yC:∀k:Nat,k<15->∃v,(0<=v/\v<1000)/\U7 (ds.map sh) (k:Int)=fo (.int v):=λk hk=>by
  obtain⟨v,m,e⟩:=K2 (ns:=ds) (k:=(k:Int)) eX eX;exact⟨v,bd v m,e⟩
 obtain⟨v0,b0,i0⟩:=yC 0 dz;obtain⟨v1,b1,i1⟩:=yC 1 dz;obtain⟨v10,b10,Mb⟩:=yC 10 dz;obtain⟨v11,b11,i11⟩:=yC 11 dz;obtain⟨ZO,b12,i12⟩:=yC 12 dz;obtain⟨DH,b13,ZP⟩:=yC 13 dz;have n0:0<=v0%((gu xs:Int)+2):=fN _ eX;have n1:v0%((gu xs:Int)+2)<(gu xs:Int)+2:=eG _ eX;refine⟨_,cm,pk,_,_,_,cm,cm,hS,i0,_,cm,b,_,cm,.inl (ah.of hx),_,_,cm,cm,_,_,cm,cm,(by show(0:Int)<(gu xs:Int)+2;lia),_,cm,Mr n0 eX,?_⟩;generalize v0%((gu xs:Int)+2)=m at *;have lm:(x6 m).length<=10:=Bq n0 eX;obtain⟨x0,Hl⟩:∃x,xs[0]?=fo x:=⟨_,aS eX⟩;obtain⟨g0,Ky,ZQ,t0,c0,rfl,u0,u1,u2⟩:=aZ.at hB Hl;have DB:=ob.k g0 (bK Ky);have Jj:U7 xs 0=fo (.ref ZQ):=A2 (j:=0) Hl;have lt0:gu (g0.1.map sh)=kt:=by rw[aH];exact DB.1
 have lg0:gu (g0.2.map sh)=kg:=by rw[aH];exact DB.2
 have k4:=ob.t4;have g4:=ob.g4;refine⟨λau H'=>s_ λ(tl:aA)(ts:List Int)=>au=[fo (.ref b),fo (.ref pk),fo (.str (x6 m)),fo (.ref tl),fO,fO,fO,fO,fO]/\af H H'/\H' tl=fo (.lst (ts.map sh))/\gu ts=kt/\(∀x∈ts,1<=x/\x<21)/\H tl=fO,?_,?_⟩
 .have h1:gu (ds.map sh)=15:=by rw[aH];exact l15
  refine⟨_,cm,_,cm,_,cm,b,_,0,_,cm,cm,ah.of hx,Jj,ZQ,_,0,_,cm,cm,u0,Oz _ _,t0,_,cm,.inr u1,_,_,cm,cm,_,cm,pk,_,cm,hS,λsl je=>?_⟩;rw[show((2:Int))=((2:Nat):Int) from rfl,lt0,show((2:Nat):Int)+(kt:Int)=((2+kt:Nat):Int) from rfl,a8U _ _ _ eX eX,<-pH,<-pG];have s1:=af.new je (.lst (((ds.drop 2).take (2+kt-2)).map sh));refine⟨sl,cm,⟨_,ah.of ae⟩,λtl Hz=>(O9 (A3 (ah.of ae)) Hz (by rw[aH,cI];exact t9 eX) (λx=>.int (1+vI x%20)) (λi x H' N hx e hN=>?_) ?_)⟩
  .obtain⟨k,rfl⟩:=T0 hx;exact⟨Wk.set dz,_,cm,_,_,cm,cm,br,_,_,cm,cm,hN⟩
  .refine⟨tl,((ds.drop 2).take (2+kt-2)).map λx=>1+x%20,cm,s1.trans (af.new Hz _),?_,?_,λx hx=>?_,s1.free Hz⟩
   .rw[ae,bC,bC];rfl
   .rw[aH,cI,eJ];lia
   .obtain⟨y,_,rfl⟩:=aY.mp hx;lia
 intro Eg H1 cw;refine E8 λG_ cy=>?_;obtain⟨tl,ts,rfl,e1,Hz,ZR,yX,FY⟩:=cw;subst cy;refine⟨λau H'=>s_ λ(gl:aA)(we:List Int)=>au=[fo (.ref b),fo (.ref pk),fo (.str (x6 m)),fo (.ref tl),fo (.ref gl),fO,fO,fO,fO]/\af H1 H'/\H' gl=fo (.lst (we.map sh))/\Sm we/\tl≠gl,?_,?_⟩
 .have h1:gu (ds.map sh)=15:=by rw[aH];exact l15
  refine⟨_,cm,_,cm,_,cm,b,_,0,_,cm,cm,ah.of (e1 _ _ hx),Jj,ZQ,_,1,_,cm,cm,e1.cm u0,Mj _ _,c0,_,cm,.inr (e1.cm u2),_,_,cm,cm,_,cm,pk,_,cm,e1.seq hS,λsl je=>?_⟩;rw[show((6:Int))=((6:Nat):Int) from rfl,lg0,show((6:Nat):Int)+(kg:Int)=((6+kg:Nat):Int) from rfl,a8U _ _ _ eX eX,<-pH,<-pG];have s1:=af.new je (.lst (((ds.drop 6).take (6+kg-6)).map sh));refine⟨sl,cm,⟨_,ah.of ae⟩,λgl Hm=>(O9 (A3 (ah.of ae)) Hm (by rw[aH,cI];exact t9 eX) (λx=>.int (vI x%20+1)) (λi x H' N hx e hN=>?_) ?_)⟩
  .obtain⟨k,rfl⟩:=T0 hx;exact⟨Wk.set dz,_,cm,_,_,cm,cm,br,_,_,cm,cm,hN⟩
  .refine⟨gl,((ds.drop 6).take (6+kg-6)).map λx=>x%20+1,cm,s1.trans (af.new Hm _),?_,⟨?_,λx hx=>?_⟩,i7 (s1 _ _ Hz) Hm⟩
   .rw[ae,bC,bC];rfl
   .rw[aH,cI,eJ];lia
   .obtain⟨y,_,rfl⟩:=aY.mp hx;lia
 intro ir H2 cw;refine E8 λG_ cy=>?_;obtain⟨gl,we,rfl,e2,Hm,ZS,fgt⟩:=cw;subst cy;replace Hz:=e2 _ _ Hz;have HD:=e1.trans e2;clear e1 e2;have Mo:gl≠tl:=fgt.symm;have t1:=ob.t1;refine⟨λau H'=>s_ λ(tl:aA)(ts:List Int)=>au=[fo (.ref b),fo (.ref pk),fo (.str (x6 m)),fo (.ref tl),fo (.ref gl),fO,fO,fO,fO]/\af H H'/\H' gl=fo (.lst (we.map sh))/\H' tl=fo (.lst (ts.map sh))/\1<=gu ts/\gu ts<=4/\(∀x∈ts,1<=x/\x<21)/\H tl=fO/\tl≠gl,?_,?_⟩
 .refine⟨_,cm,pk,_,_,_,cm,cm,HD.seq hS,i1,_,_,cm,cm,br,cm,_,cm,y6 (λc=>⟨_,cm,aw,λl1 Aw=>?_⟩) (λc=>⟨tl,ts,cm,HD,Hm,Hz,eX,eX,yX,FY,Mo.symm⟩)⟩;have s1:=af.new Aw (.lst [sh 3]);refine⟨tl,l1,_,_,cm,cm,s1 _ _ Hz,ae,(by rw[aH,bE];show _+1<=_;lia),λl2 j_=>?_⟩;have s2:=af.new j_ (.lst (ts.map sh++[sh 3]));refine⟨4,cm,l2,_,cm,ah.of ae,λl3 KA=>?_⟩;have ec:P5 (ts.map sh++[sh 3]) fO (fo 4)=((ts++[3]).take 4).map sh:=by
   unfold P5;rw[HT.rp,show(4:Int)=((4:Nat):Int) from rfl,HT.gy,oY,pG,bQ];have:gu (ts.map sh++[sh 3])=kt+1:=by rw[aX,aH,ZR];rfl
   rw[this];by_cases h:4<=kt+1
   .rw[jT h];rfl
   .rw[yE eX,fZ (by rw[this];lia),fZ (by show _<=4;rw[aX,aH,ZR];show kt+1<=4;lia)];rfl
  rw[ec];have s3:=af.new KA (.lst (((ts++[3]).take 4).map sh));have DY:=s1.trans (s2.trans s3);refine⟨l3,(ts++[3]).take 4,cm,HD.trans DY,DY _ _ Hm,ae,?_,?_,λx hx=>?_,HD.free ((s1.trans s2).free KA),(i7 ((s1.trans s2) _ _ Hm) KA).symm⟩
  .rw[cI,aX];show 1<=min 4 (_+1);lia
  .rw[cI];lia
  .rcases bJ.mp (fV hx) with hx|hx
   .exact yX x hx
   .rw[cJ.mp hx];decide
 clear FY yX ZR Hz fgt Mo;intro zx H3 cw;refine E8 λG_ cy=>?_;obtain⟨tl,ts,rfl,e3,Dd,Hz,lt1,lt4,yX,FY,Mo⟩:=cw;subst cy;clear HD Hm;refine⟨λau H'=>∃(ts:List Int),au=[fo (.ref b),fo (.ref pk),fo (.str (x6 m)),fo (.ref tl),fo (.ref gl),fO,fO,fO,fO]/\af H H'/\H' gl=fo (.lst (we.map sh))/\H' tl=fo (.lst (ts.map sh))/\Sm ts,?_,?_⟩
 .refine⟨_,cm,pk,_,_,_,cm,cm,e3.seq hS,i1,_,_,cm,cm,br,cm,_,cm,?_⟩;have bt:∀x∈ts,0<=x/\x<=10^10:=λx hx=>by have:=yX x hx;lia
  refine y6 (λc=>⟨_,_,cm,cm,⟨dz,dz,dz⟩,_,_,cm,cm,_,_,cm,cm,⟨dz,dz,dz⟩,aw,λl1 Aw=>?_⟩) (λc=>⟨ts,cm,e3,Dd,Hz,eX,bt⟩);have s1:=af.new Aw (.lst [sh 0,sh (10^(9:Int).toNat+1),sh (10^(10:Int).toNat)]);obtain⟨z,hz,az⟩:=K2 (ns:=[0,10^(9:Int).toNat+1,10^(10:Int).toNat]) (k:=v10%3) eX (by show v10%3<3;lia);have Ov:0<=z/\z<=10^10:=by
   rw[(dz:(10:Int)^(9:Int).toNat+1=1000000001),(dz:(10:Int)^(10:Int).toNat=10000000000)] at hz;simp only[bH,dJ,or_false] at hz;lia
  refine⟨_,cm,pk,_,_,_,cm,cm,s1.seq (e3.seq hS),Mb,_,_,cm,cm,br,l1,_,_,_,cm,cm,ah.of ae,az,_,cm,tl,_,_,_,cm,cm,s1 _ _ Hz,Mg (dL 0) (by rw[aH ..];lia),?_⟩;have e5:=e3.trans s1;refine⟨ts.set 0 z,cm,e5.write FY,by rw[j3 Mo.symm];exact s1 _ _ Dd,by rw[ae,map_set];rfl,by rw[eE];lia,λy hy=>?_⟩;rcases pD hy with h|h
  .exact bt y h
  .rw[h];exact Ov
 clear yX Hz Dd;intro Xx H4 cw;refine E8 λG_ cy=>?_;obtain⟨ts,rfl,e4,Hm,Hz,yX⟩:=cw;subst cy;refine⟨λau H'=>∃(hz:S),au=[fo (.ref b),fo (.ref pk),fo (.str (x6 m)),fo (.ref tl),fo (.ref gl),fo (.str hz),fO,fO,fO]/\af H H'/\J6 hz/\hz.length<=20000,?_,?_⟩
 .refine⟨_,cm,_,cm,aw,λp hp=>?_⟩;have s1:=af.new hp (.tup [sy tl,sy gl]);exact⟨true,p,tl,gl,(ts,we),cm,cq.of ae,ah.of (s1 _ _ Hz),ah.of (s1 _ _ Hm),yX,ZS,λH' e=>⟨_,cm,e4.trans (s1.trans e),λd hd=>by
   have:=Yj (h:=(ts,we)) ⟨λx hx=>(yX.2 x hx).1,λx hx=>(ZS.2 x hx).1⟩ hd;lia,bF (RD yX ZS) dz⟩⟩
 clear yX Hz Hm e4 FY e3;intro XY H5 cw;refine E8 λG_ cy=>?_;obtain⟨hz,rfl,e5,az,lz⟩:=cw;subst cy;have sl:∀{k:Nat},k<=100000->k<=jb:=λh=>by rw[bE];lia
 have b5:("house "++hz:S).length<=jb:=by rw[G9];exact sl (by show 6+hz.length<=_;lia)
 refine⟨_,cm,_,_,cm,cm,sl (by show 6+hz.length<=_;lia),_,cm,_,_,cm,cm,sl (by show 6+hz.length<=_;lia),_,cm,_,_,cm,cm,sl (by show 5+(x6 m).length<=_;lia),aw,λl1 Aw=>⟨_,cm,_,cm,_,_,cm,cm,sl (by show 6+(x6 m).length<=_;lia),_,_,cm,cm,sl (by rw[G9];show(6+(x6 m).length)+1<=_;lia),_,cm,_,_,cm,cm,sl (by rw[G9,G9];show(6+(x6 m).length)+1+hz.length<=_;lia),aw,λl2 j_=>⟨l2,2,_,cm,cm,ae,dz,dz,aw,λl3 KA=>?_⟩⟩⟩;have s1:=af.new Aw (.lst [su (("house ":aC)++hz),su (("house ":aC)++hz),su (("drop ":aC)++x6 m),su "back",su "back"]);have s2:=af.new j_ (.lst [su ((("alter ":aC)++x6 m)++(" ":aC)++hz)]);have s3:=af.new KA (.lst [su ((("alter ":aC)++x6 m)++(" ":aC)++hz),su ((("alter ":aC)++x6 m)++(" ":aC)++hz)]);refine⟨l1,l3,_,_,cm,cm,s3 _ _ (s2 _ _ ae),ae,aw,λl4 Od=>⟨aw,λl5_ Ir=>?_⟩⟩;have s4:=af.new Od (.lst [su (("house ":aC)++hz),su (("house ":aC)++hz),su (("drop ":aC)++x6 m),su "back",su "back",su ((("alter ":aC)++x6 m)++(" ":aC)++hz),su ((("alter ":aC)++x6 m)++(" ":aC)++hz)]);have s5:=af.new Ir (.lst [su "levels"]);refine⟨l4,l5_,_,_,cm,cm,s5 _ _ ae,ae,aw,λl6 hl6=>⟨_,cm,_,cm,_,_,cm,cm,sl (by show 6+(x6 m).length<=_;lia),_,cm,_,_,cm,cm,sl (by show 6+(x6 m).length<=_;lia),aw,λl7_ hl7=>?_⟩⟩;have s6:=af.new hl6 (.lst [su (("house ":aC)++hz),su (("house ":aC)++hz),su (("drop ":aC)++x6 m),su "back",su "back",su ((("alter ":aC)++x6 m)++(" ":aC)++hz),su ((("alter ":aC)++x6 m)++(" ":aC)++hz),su "levels"]);have s7:=af.new hl7 (.lst [su (("alone ":aC)++x6 m),su (("scale ":aC)++x6 m),su "order",su "rim"]);refine⟨l6,l7_,_,_,cm,cm,s7 _ _ ae,ae,aw,λZU ZV=>⟨_,cm,.inl ⟨cm,_,ah.of ae⟩,aw,λl9_ FH=>?_⟩⟩;have s8:=af.new ZV (.lst [su (("house ":aC)++hz),su (("house ":aC)++hz),su (("drop ":aC)++x6 m),su "back",su "back",su ((("alter ":aC)++x6 m)++(" ":aC)++hz),su ((("alter ":aC)++x6 m)++(" ":aC)++hz),su "levels",su (("alone ":aC)++x6 m),su (("scale ":aC)++x6 m),su "order",su "rim"]);have s9:=af.new FH (.lst [su "any",su "one",su "less",su "more",su "none"]);have e9:=e5.trans (s1.trans (s2.trans (s3.trans (s4.trans (s5.trans (s6.trans (s7.trans (s8.trans s9))))))));obtain⟨x,f',ex⟩:∃x:S,(J6 x/\x.length<=4)/\U7 [su "any",su "one",su "less",su "more",su "none"] (v10%5)=fo (.str x):=by
  have:v10%5=0\/v10%5=1\/v10%5=2\/v10%5=3\/v10%5=4:=eX;rcases this with h|h|h|h|h<;>rw[h]<;>exact⟨_,⟨X3 de,by decide +kernel⟩,cm⟩
 refine⟨_,cm,pk,_,_,_,cm,cm,e9.seq hS,Mb,_,_,cm,cm,br,l9_,_,_,_,cm,cm,ah.of ae,ex,_,_,cm,cm,sl (by show 6+x.length<=_;lia),ZU,_,_,cm,cm,s9 _ _ ae,(by show 12<jb;decide),λau H'=>s_ λ(row:S)(rl:aA)=>au=[fo (.ref b),fo (.ref pk),fo (.str (x6 m)),fo (.ref tl),fo (.ref gl),fo (.str hz),fo (.ref rl),fo (.str row),fO]/\af H H'/\DG row,?_,?_⟩
 .obtain⟨v,hv,av_⟩:=b5O (xs:=[su (("house ":aC)++hz),su (("house ":aC)++hz),su (("drop ":aC)++x6 m),su "back",su "back",su ((("alter ":aC)++x6 m)++(" ":aC)++hz),su ((("alter ":aC)++x6 m)++(" ":aC)++hz),su "levels",su (("alone ":aC)++x6 m),su (("scale ":aC)++x6 m),su "order",su "rim",su (("sizes ":aC)++x)]) (k:=v11%13) eX (by show v11%13<13;lia);have an:=b1y n0;have gd:∃row,v=.str row/\DG row:=by
   simp only[bH,dJ,or_false] at hv;have hh:=ZN (u:="house ") ⟨cs "house",de,de⟩ (X3 de) dz az lz;have hd:=λ(u:S)(h1:∃u0∈UL,cs u=u0++[32])(h2:J6 u)(h3:u.length<=6)=>ZN (u:=u) h1 h2 h3 an eX;have hA:DG ((("alter ":aC)++x6 m)++(" ":aC)++hz):=f1Y an lm az lz;have hL:∀u:S,cs u∈MC->J6 u->u.length<=6->DG u:=λu h1 h2 h3=>⟨.inl h1,h2,by lia⟩;have l0:=λ(u:S)(h1:cs u∈MC)(h2:(cs u).all (λc=>decide (c<128))=true)(h3:u.length<=6)=>hL u h1 (X3 h2) h3;rcases hv with rfl|rfl|rfl|rfl|rfl|rfl|rfl|rfl|rfl|rfl|rfl|rfl|rfl
   .exact⟨_,cm,hh⟩
   .exact⟨_,cm,hh⟩
   .exact⟨_,cm,hd "drop " ⟨cs "drop",de,de⟩ (X3 de) dz⟩
   .exact⟨_,cm,l0 "back" de de dz⟩
   .exact⟨_,cm,l0 "back" de de dz⟩
   .exact⟨_,cm,hA⟩
   .exact⟨_,cm,hA⟩
   .exact⟨_,cm,l0 "levels" de de dz⟩
   .exact⟨_,cm,hd "alone " ⟨cs "alone",de,de⟩ (X3 de) dz⟩
   .exact⟨_,cm,hd "scale " ⟨cs "scale",de,de⟩ (X3 de) dz⟩
   .exact⟨_,cm,l0 "order" de de dz⟩
   .exact⟨_,cm,l0 "rim" de de dz⟩
   .exact⟨_,cm,ZN (u:="sizes ") ⟨cs "sizes",de,de⟩ (X3 de) dz f'.1 eX⟩
  obtain⟨row,rfl,gr⟩:=gd;have GL:=λo=>e9.write (o:=o) ((e5.trans (s1.trans (s2.trans (s3.trans (s4.trans (s5.trans (s6.trans s7))))))).free ZV);refine⟨_,cm,_,cm,pk,_,_,_,cm,cm,(GL _).seq hS,i11,_,_,cm,cm,br,ZU,_,_,_,cm,cm,ah.of ae,av_,row,ZU,cm,GL _,gr⟩
 clear e9 s1 s2 s3 s4 s5 s6 s7 s8 s9 Aw j_ KA Od Ir hl6 hl7 ZV FH ex f';intro Tz H6 cw;refine E8 λG_ cy=>?_;obtain⟨row,rl,rfl,e6,dr,ar,lr⟩:=cw;subst cy;have AD:row.length<=jb:=sl (by lia);refine⟨_,cm,pk,_,_,_,cm,cm,e6.seq hS,i12,_,cm,row,cm,AD,_,_,cm,cm,_,_,cm,cm,(by show(0:Int)<(row.length:Int)+1;lia),?_⟩;obtain⟨at',ha⟩:∃k:Nat,ZO%((row.length:Int)+1)=(k:Int):=⟨(ZO%((row.length:Int)+1)).toNat,by have:=fN ZO (eX:(row.length:Int)+1≠0);lia⟩;dsimp only;rw[ha];have dl:∀(z:S),J6 z->z.length<=20100->∀lo hi,J6 (eQ z lo hi):=λz a _ lo hi c hc=>a c (b0T z lo hi c hc);have ls:∀(z:S)(k:Nat),(eQ z fO (fo (k:Int))).length<=z.length/\(eQ z (fo (k:Int)) fO).length<=z.length:=λz k=>by
  have h1:=Tx.d_ (eQ z fO (fo (k:Int)));have h2:=Tx.d_ (eQ z (fo (k:Int)) fO);have h3:=Tx.d_ z;rw[Tx.BV,cI] at h1;rw[Tx.qv,eJ] at h2;lia
 refine⟨λau H'=>∃r:S,au=[fo (.ref b),fo (.ref pk),fo (.str (x6 m)),fo (.ref tl),fo (.ref gl),fo (.str hz),fo (.ref rl),fo (.str r),fo (.int (at':Int))]/\H6=H'/\(r=row\/DH%12=0/\ZM r),?_,?_⟩
 .refine⟨_,cm,pk,_,_,_,cm,cm,e6.seq hS,ZP,_,_,cm,cm,br,cm,_,cm,y6 (λc=>?_) (λc=>⟨row,cm,cm,.inl rfl⟩)⟩;have c':DH%12=0:=V.int.inj (qh c);refine⟨_,cm,_,cm,(at':Int),cm,row,cm,AD,_,cm,_,cm,_,_,cm,cm,(at':Int)+1,cm,row,cm,AD,_,_,cm,cm,?_,?_⟩
  .have h1:=(ls row at').1;have h2:(eQ row (fo ((at':Int)+1)) fO).length<=row.length:=(ls row (at'+1)).2;rw[bE];lia
  .have h1:=(ls row at').1;have h2:(eQ row (fo ((at':Int)+1)) fO).length<=row.length:=(ls row (at'+1)).2;refine⟨_,cm,cm,.inr ⟨c',?_,Tx.dv (dl _ ar lr _ _) (dl _ ar lr _ _),?_⟩⟩
   .rw[Tx.bu,Tx.BV,show(at':Int)+1=((at'+1:Nat):Int) from rfl,Tx.qv];exact Sh (e:=1) (X:=[]) dr (aT _) b5s at'
   .rw[G9];lia
 rintro _ _ ⟨r1,rfl,rfl,h1⟩;have lr1:r1.length<=jb:=by
  rcases h1 with rfl|⟨_,h⟩
  .exact AD
  .exact sl (by have:=h.2.2;lia)
 refine⟨λau H'=>∃r:S,au=[fo (.ref b),fo (.ref pk),fo (.str (x6 m)),fo (.ref tl),fo (.ref gl),fo (.str hz),fo (.ref rl),fo (.str r),fo (.int (at':Int))]/\H6=H'/\(r=row\/(DH%12=0\/DH%12=1)/\ZM r),?_,?_⟩
 .refine⟨_,cm,pk,_,_,_,cm,cm,e6.seq hS,ZP,_,_,cm,cm,br,cm,_,cm,y6 (λc=>?_) (λc=>⟨r1,cm,cm,h1.imp id λh=>⟨.inl h.1,h.2⟩⟩)⟩;have c':DH%12=1:=V.int.inj (qh c);obtain rfl:r1=row:=h1.resolve_right λh=>eX;obtain⟨y,hy,ey⟩:∃y,y∈cs "0,> 7a"/\U7 (Str.cps "0,> 7a").toList (v10%6)=fo y:=by
   have:v10%6=0\/v10%6=1\/v10%6=2\/v10%6=3\/v10%6=4\/v10%6=5:=eX;rcases this with h|h|h|h|h|h<;>rw[h]
   .exact⟨48,de,de⟩
   .exact⟨44,de,de⟩
   .exact⟨62,de,de⟩
   .exact⟨32,de,de⟩
   .exact⟨55,de,de⟩
   .exact⟨97,de,de⟩
  have yl_:y<128:=(by decide +kernel:∀c∈cs "0,> 7a",c<128) y hy;have:=ls r1 at';refine⟨_,cm,_,cm,(at':Int),cm,r1,cm,AD,_,cm,pk,_,_,_,cm,cm,e6.seq hS,Mb,_,_,cm,cm,br,_,_,y,cm,cm,dz,ey,_,_,cm,cm,?_,?_⟩
  .have h1:=(ls r1 at').1;rw[bE];show _+1<=_;lia
  .have h1:=(ls r1 at').1;have h2:=(ls r1 at').2;refine⟨_,cm,_,cm,(at':Int),cm,r1,cm,AD,_,_,cm,cm,?_,?_⟩
   .rw[G9,bE];show _+1+_<=_;lia
   .refine⟨_,cm,cm,.inr ⟨.inr c',?_,Tx.dv (Tx.dv (dl _ ar lr _ _) (λd hd=>?_)) (dl _ ar lr _ _),?_⟩⟩
    .rw[Tx.bu,Tx.bu,Tx.BV,Tx.qv,dC];exact Sh (e:=0) (X:=[y]) dr (dM _) (f2x y hy) at'
    .have:d∈[y]:=hd;rw[cJ.mp this];exact yl_
    .rw[G9,G9];show _+1+_<=_;lia
 rintro _ _ ⟨r2,rfl,rfl,h2⟩;have lr2:r2.length<=jb:=by
  rcases h2 with rfl|⟨_,h⟩
  .exact AD
  .exact sl (by have:=h.2.2;lia)
 refine⟨λau H'=>∃r:S,au=[fo (.ref b),fo (.ref pk),fo (.str (x6 m)),fo (.ref tl),fo (.ref gl),fo (.str hz),fo (.ref rl),fo (.str r),fo (.int (at':Int))]/\af H H'/\ZM r,?_,?_⟩
 .refine⟨_,cm,pk,_,_,_,cm,cm,e6.seq hS,ZP,_,_,cm,cm,br,cm,_,cm,y6 (λc=>?_) (λc=>⟨r2,cm,e6,?_⟩)⟩
  .have c':DH%12=2:=V.int.inj (qh c);obtain rfl:r2=row:=h2.resolve_right λh=>eX;obtain⟨y,hy,ay_,ly,ey⟩:∃y:S,cs y∈[cs " ",cs " 0",cs " 1>1"]/\J6 y/\y.length<=4/\U7 [su " ",su " 0",su " 1>1"] (v10%3)=fo (.str y):=by
    have:v10%3=0\/v10%3=1\/v10%3=2:=eX;rcases this with h|h|h<;>rw[h]
    .exact⟨" ",de,X3 de,by decide +kernel,cm⟩
    .exact⟨" 0",de,X3 de,by decide +kernel,cm⟩
    .exact⟨" 1>1",de,X3 de,by decide +kernel,cm⟩
   refine⟨_,cm,aw,λl hl=>?_⟩;have s7:=af.new hl (.lst [su " ",su " 0",su " 1>1"]);refine⟨_,cm,pk,_,_,_,cm,cm,s7.seq (e6.seq hS),Mb,_,_,cm,cm,br,l,_,_,_,cm,cm,ah.of ae,ey,_,_,cm,cm,sl (by lia),_,cm,e6.trans s7,?_,Tx.dv ar ay_,?_⟩
   .rw[Tx.bu];exact f2s dr hy
   .rw[G9];lia
  .rcases h2 with rfl|⟨_,h⟩
   .exact⟨f2O dr,ar,eX⟩
   .exact h
 intro EG H7 cw;refine E8 λG_ cy=>?_;obtain⟨r,rfl,e7,g7⟩:=cw;subst cy;exact⟨_,cm,q r H7 e7 g7.1 g7.2.1 (bF g7.2.2 dz)⟩
theorem d0K z hs:gu (Jg z hs)<=gu hs:=by
 unfold Jg;refine bF (oX _ _) ?_;rw[gZ];exact aT _
theorem d0R(h:left≠[]):vd z hs (n+1) left=lvl z hs left::vd z hs n (vq z hs left):=by
 show(if left=[] then [] else _)=_;rw[qf h]
theorem c9g{k:Nat}:∀{l},Hi (.int (k:Int)) (o6 l)=l.contains k
 |[]=>rfl
 |a::r=>by
  have:=c9g (k:=k) (l:=r);unfold Hi at *;show(((sh (a:Int))::o6 r).any λy=>GB y (sh (k:Int)))=_;rw[jM,this,List.contains_cons];congr 1;by_cases h:k=a
  .subst h;simp[GB]
  .have:¬((a:Int)=(k:Int)):=dj;have h1:((a:Int)==(k:Int))=false:=dj;have h2:(k==a)=false:=by simp_all
   show((a:Int)==(k:Int))=(k==a);rw[h1,h2]
theorem d0L l:(o6 l).all Hh=true:=by
 rw[fE];intro x hx;obtain⟨k,_,rfl⟩:=aY.mp hx;rfl
theorem c9q(h:j<gu l):(o6 l)[j]?=fo (.int ((l.getD j 0:Nat):Int)):=by
 rw[aP,aS h,bA,aS h];rfl
theorem c9o{j:Nat}(h:(o6 l)[j]?=fo x):∃k,l[j]?=fo k/\x=.int (k:Int):=by
 rw[aP] at h;cases q:l[j]? with
 |none=>rw[q] at h;cases h
 |some k=>rw[q] at h;cases h;exact⟨k,cm,cm⟩
theorem c8R n:((aW n).map λ(i:Nat)=>sh (0+(i:Int)))=o6 (aW n):=fM λi _=>by rw[lH]
structure ZW(z:aC)(hs:List i8)(H H':Hp)(Pt t6 la:aA)(left:List Nat)(as:List aA)(done:List (List Nat)):Prop where
 e:bj Pt H H'
 L:LT Pt H'
 MA:H t6=fO
 told:H' t6=fo (.lst (as.map sy))
 lst:H' la=fo (.lst (o6 left))
 at_:nr H' as done
 new:∀a∈as,H a=fO/\a≠t6
 lt:∀k∈left,k<gu hs
 all:∃m,gu left<=m/\done++vd z hs m left=vd z hs (gu hs) (aW (gu hs))
 few:gu done+gu left<=gu hs
theorem c9S(F:Ay K "levels" Dm f fd)(N:v8 mg)(Cr:C9 P w K mg base n "rim_of" ["book","sizes"] (RL K Pt) f1 d1):bf P w K mg base J8 (n+1) f fd ["book","sizes"] (KZ K Pt):=by
 refine F.oa yS λay A outer s H vs Q E hr h=>?_;obtain⟨ba,xs,hs,z,far,kt,kg,rfl,hz,B,hf,ij,L,k⟩:=h;refine⟨_,(lvT N Cr hr).2,?_⟩;have xl:=dE B.b;have few:=B.few;have Xf:=t9 (show(1000:Nat)<=1000 from aT _);refine⟨dz,λt6 htd=>?_⟩;have s1:=af.new htd (.lst []);refine⟨λau H'=>∃la,au=[fo (.ref ba),fo (.str z),fo (.ref t6),fo (.ref la),fO]/\ZW z hs H H' Pt t6 la (aW (gu hs)) [] [],?_,?_⟩
 .refine⟨_,cm,ba,_,cm,.inl (s1.seq B.l),_,cm,λY' Za=>⟨Y',0,gu xs,cm,by rw[ae,lH],dz,dz,dj,λla hla=>?_⟩⟩;have t3:=(af.new Za (.zt 0 (gu xs:Int))).trans (af.new hla (.lst ((aW (gu xs)).map λ(i:Nat)=>sh (0+(i:Int)))));have s3:=s1.trans t3;refine⟨la,cm,s3.ka,L.same s3,htd,t3 t6 _ ae,?_,⟨cm,nofun⟩,nofun,λj hj=>fF.mp hj,⟨gu hs,fg,cm⟩,fg⟩;rw[ae,c8R,xl]
 rintro Sd H0 ⟨la,rfl,U0_⟩;refine b2G (λσ H'=>y_ λ(la':aA)(left:List Nat)(as:List aA)(done:List (List Nat))(o:Option V)=>σ=[fo (.ref ba),fo (.str z),fo (.ref t6),fo (.ref la'),o]/\ZW z hs H H' Pt t6 la' left as done) (KY 3)
  ⟨la,aW (gu hs),[],[],_,cm,U0_⟩ ?_ (λσ H Q Q' hq ⟨v,h1,b,h2,q⟩=>⟨v,h1,b,h2,hq _ _ q⟩)
 rintro σ H1 ⟨zA,left,as,done,o,rfl,U⟩;refine⟨_,cm,_,⟨_,_,cm,ah.of U.lst,cm⟩,?_⟩;have ZX:(o6 left).isEmpty=left.isEmpty:=by cases left<;>rfl
 rw[ZX];cases hle:left.isEmpty with
 |true =>
  have CU:left=[]:=by simpa using hle
  refine M7 ?_;obtain⟨m,_,hm⟩:=U.all;rw[CU,d1s,fP] at hm;exact⟨_,cm,k H1 t6 as U.e U.L U.MA U.told (by rw[<-hm];exact U.at_) λa ha=>(U.new a ha).1⟩
 |false =>
  refine J3 ?_;have mm:left≠[]:=λq=>by rw[q] at hle;cases hle
  have hll:gu left<=16:=by have:=U.few;lia
  have B1:O6 K H1 ba xs hs far kt kg:=⟨ah.fg L U.e B.l,Bk.fg L U.e B.b,B.g,B.far,B.few,B.t,B.k⟩;refine⟨λau H2=>∃pl:aA,au=[fo (.ref ba),fo (.str z),fo (.ref t6),fo (.ref zA),fo (.ref pl)]/\ZW z hs H H2 Pt t6 zA left as done/\H2 pl=fo (.lst (o6 (xg z hs left))),?_,?_⟩
  .refine⟨_,cm,zA,cm,⟨_,ah.of U.lst⟩,λp hp=>(O9 (A3 (ah.of U.lst)) hp (by rw[aH];lia) (λv=>xs.getD (vI v).toNat .non) (λj x H2 N2 hx e hN=>?_) ?_)⟩
   .obtain⟨kk,hk,rfl⟩:=c9o hx;have iw:=U.lt kk (bK hk);have hxk:xs[kk]?=fo (xs.getD kk .non):=by rw[bA,aS eX];rfl
    have ev:(vI (sh (kk:Int))).toNat=kk:=by simp[vI]
    rw[ev] at hN;exact⟨Wk.set dz,_,cm,_,cm,ba,_,_,_,cm,cm,e.seq B1.l,A2 hxk,hN⟩
   have em:(o6 left).map (λv=>xs.getD (vI v).toNat .non)=left.map λk=>xs.getD k .non:=by
    rw[bC];refine fM λj _=>?_;show xs.getD (vI (sh (j:Int))).toNat .non=_;rw[show(vI (sh (j:Int))).toNat=j by simp[vI]]
   rw[em];have s4:=af.new hp (.lst (left.map λk=>xs.getD k .non));refine⟨_,cm,p,_,Dw hs left,z,far,kt,kg,cm,hz,d0n ⟨s4.seq B1.l,Bk.same s4 B1.b,B.g,B.far,B.few,B.t,B.k⟩ U.lt hll ae,hf,U.L.same s4,λH2 r e2 LX hrn MB=>?_⟩;have Oy:bj Pt H1 H2:=s4.ka.trans e2;refine⟨r,cm,⟨U.e.trans Oy,LX,U.MA,Oy.get U.L U.told nofun,Oy.get U.L U.lst nofun,⟨U.at_.1,λj a l ha hl=>Oy.get U.L (U.at_.2 j a l ha hl) nofun⟩,U.new,U.lt,U.all,U.few⟩,MB⟩
  rintro Eg H2 ⟨pl,rfl,ue,wb⟩;have lp:gu (xg z hs left)<=16:=by
   have:=d0K z (Dw hs left);rw[aH] at this;exact bF this hll
  refine⟨λau H3=>∃a:aA,au=[fo (.ref ba),fo (.str z),fo (.ref t6),fo (.ref zA),fo (.ref pl)]/\bj Pt H H3/\LT Pt H3/\H3 t6=fo (.lst ((as++[a]).map sy))/\H3 zA=fo (.lst (o6 left))/\H3 pl=fo (.lst (o6 (xg z hs left)))/\nr H3 (as++[a]) (done++[lvl z hs left])/\H a=fO/\a≠t6,?_,?_⟩
  .refine⟨_,cm,.inl ⟨cm,_,ah.of ue.told⟩,_,cm,pl,cm,⟨_,ah.of wb⟩,λp hp=>(O9 (A3 (ah.of wb)) hp (by rw[aH];lia) (λv=>.int ((left.getD (vI v).toNat 0:Nat):Int)) (λj x H3 N2 hx e hN=>?_) ?_)⟩
   .obtain⟨kk,hk,rfl⟩:=c9o hx;have ev:(vI (sh (kk:Int))).toNat=kk:=by simp[vI]
    rw[ev] at hN;exact⟨Wk.set dz,_,cm,_,cm,zA,_,_,_,cm,cm,ah.of (e _ _ ue.lst),A2 (c9q (Ze (bK hk))),hN⟩
   have em:(o6 (xg z hs left)).map (λv=>sh ((left.getD (vI v).toNat 0:Nat):Int))=o6 (lvl z hs left):=by
    unfold lvl o6;rw[bC,bC];refine fM λj _=>?_;show sh ((left.getD (vI (sh (j:Int))).toNat 0:Nat):Int)=sh ((left.getD j 0:Nat):Int);rw[show(vI (sh (j:Int))).toNat=j by simp[vI]]
   rw[em];have s4:=af.new hp (.lst (o6 (lvl z hs left)));have ntd:p≠t6:=λq=>by rw[q,ue.told] at hp;cases hp
   have hpH:H p=fO:=by
    cases q:H p with
    |none=>rfl
    |some o =>
     exfalso;by_cases hpP:p=Pt
     .rw[hpP] at hp;rcases ue.L with w'|⟨_,w',_⟩<;>rw[w'] at hp<;>cases hp
     .rw[ue.e p o hpP q] at hp;cases hp
   have las:gu as<=16:=by rw[ue.at_.1];have:=ue.few;lia
   refine⟨t6,_,_,cm,cm,s4 _ _ ue.told,by rw[aH];lia,p,cm,(ue.e.trans s4.ka).write ue.MA,(ue.L.same s4).write (s4 _ _ ue.told),by rw[ae,bQ];rfl,?_,?_,?_,hpH,ntd⟩
   .have:zA≠t6:=λq=>by
     have h1:=ue.lst;rw[q,ue.told] at h1;have h3:as.map sy=o6 left:=(rd (λo=>match o with|some (HO.lst xs)=>xs|_=>[]) h1);cases left with
     |nil=>exact mm rfl
     |cons a r =>
      cases as with
      |nil=>simp at h3
      |cons b r'=>simp at h3
    rw[j3 this];exact s4 _ _ ue.lst
   .have:pl≠t6:=λq=>by
     have h1:=wb;rw[q,ue.told] at h1;have h3:as.map sy=o6 (xg z hs left):=(rd (λo=>match o with|some (HO.lst xs)=>xs|_=>[]) h1);obtain⟨i,hi⟩:=c8H (z:=z) (Zb B.g U.lt) ij (by simpa using mm);have Ek:i∈xg z hs left:=hi;cases hq:xg z hs left with
     |nil=>rw[hq] at Ek;cases Ek
     |cons a r =>
      rw[hq] at h3;cases as with
      |nil=>simp at h3
      |cons b r'=>simp at h3
    rw[j3 this];exact s4 _ _ wb
   .refine nr.snoc ⟨ue.at_.1,λj a l ha hl=>?_⟩ ?_
    .rw[j3 (ue.new a (bK ha)).2];exact s4 _ _ (ue.at_.2 j a l ha hl)
    .rw[j3 ntd];exact ae
  rintro ir H3 ⟨a,rfl,e3,L3,ZY,la3,pl3,at3,aN_,aT_⟩;refine⟨_,cm,zA,cm,⟨_,ah.of la3⟩,λp hp=>(d1I (ah.of la3) hp (by rw[aH];lia) (λj=>!(xg z hs left).contains j) (λj x H4 N2 hx e hN=>?_) (λH4 e Mc=>?_))⟩
  .refine⟨_,cm,_,cm,pl,_,cm,.inl (ah.of (e _ _ pl3)),cm,d0L _,_,cm,?_⟩;rw[qg rfl,c9g];exact hN
  have em:((aW (gu (o6 left))).filter λj=>!(xg z hs left).contains j).map (λi=>(o6 left).getD i .non)=o6 (vq z hs left):=by
   unfold vq o6;rw[aH,bC];refine fM λj hj=>?_;have EN:=fF.mp (lI.mp hj).1;show(o6 left).getD j .non=sh ((left.getD j 0:Nat):Int);rw[bA,c9q EN];rfl
  rw[em] at Mc;have fk:=d2d (z:=z) B.g ij U.lt mm;refine⟨⟨p,vq z hs left,as++[a],done++[lvl z hs left],_,cm,e3.trans e.ka,L3.same e,U.MA,e _ _ ZY,Mc,⟨at3.1,λj b l hb hl=>e _ _ (at3.2 j b l hb hl)⟩,λb hb=>?_,λj hj=>U.lt j (c9D hj),?_,?_⟩,?_⟩
  .rcases bJ.mp hb with hb|hb
   .exact U.new b hb
   .rw[cJ.mp hb];exact⟨aN_,aT_⟩
  .obtain⟨m,Iu,DU⟩:=U.all;cases m with
   |zero=>have:left=[]:=lM eX;exact absurd this mm
   |succ m =>
    refine⟨m,eX,?_⟩;rw[d0R mm] at DU;rw[dC];exact DU
  .have:=U.few;rw[aX,fR];lia
  .have l1:KY 3 [fo (.ref ba),fo (.str z),fo (.ref t6),fo (.ref p),fo (.ref pl)] H4=gu (vq z hs left):=by
    show(match H4 p with|some (.lst xs)=>gu xs|_=>0)=_;rw[Mc];exact aH _
   have l2:KY 3 [fo (.ref ba),fo (.str z),fo (.ref t6),fo (.ref zA),o] H1=gu left:=by
    show(match H1 zA with|some (.lst xs)=>gu xs|_=>0)=_;rw[U.lst];exact aH _
   show KY 3 [fo (.ref ba),fo (.str z),fo (.ref t6),fo (.ref p),fo (.ref pl)] H4<_;rw[l1,l2];exact fk
theorem c1a{K:aF}{w:aL}(RG:mg "law"=fo (.ref fa))
    (aD:mg "Desk"=fo (.ref DI))
    (aB:mg "Board"=fo (.ref CB))
    (u1:b9 K mg "read_number" Z4 f1 e1)
    (u2:b9 K mg "read_amounts" Y7 f2 e2)
    (u3:b9 K mg "is_whole" VP f3 e3)
    (u4:b9 K mg "are_amounts" Z9 f4 e4)
    (u5:b9 K mg "is_house" VQ f5 e5)
    (u6:b9 K mg "is_any_house" W9 f6 e6)
    (u7:b9 K mg "read_house" VU f7 e7)
    (u8:b9 K mg "is_book" VR f8 e8)
    (u9:b9 K mg "read_book" VV f9 e9)
    (AU:b9 K mg "_law_cell_at" VM f11 IK)
    (AW:b9 K mg "_law_draws" VN f12 Oy)
    (F_:b9 K mg "_law_near" VO f13 GR)
    (F':b9 K mg "_law_a_book" LR f14 Ew)
    (AX:b9 K mg "_law_written" F5 f15 YN)
    (Ga:b9 K mg "_law_a_text" Xl f16 HN)
    (Gb:b9 K mg "_law_a_row" Du f17 e17)
    (AY:b9 K mg "_law_a_number" U9 f18 e18)
    (Gd:b9 K mg "_law_a_house" Dr f19 n6)
    (Ge:b9 K mg "_law_put" Dt f20 e20)
    (Gf:b9 K mg "swept" VE f25 e25)
    (AZ:b9 K mg "greatest" S2 f29 F2)
    (A_:b9 K mg "house_rows" X2 f30 F3)
    (Gg:b9 K mg "greatest_floor" LQ f31 F4)
    (yY:b9 K mg "rim_of" VL f32 F7)
    (Ba:b9 K mg "levels" Dm f33 F8)
    (va:b9 K mg "house_of" VD f34 F9)
    (Bb:b9 K mg "without" VH f35 RI)
    (Gh:b9 K mg "greatest_earned" LO f36 e36)
    (Bc:b9 K mg "common_divisor" VB f37 FJ)
    (Be:b9 K mg "lowest" VC f38 e38)
    (Bf:b9 K mg "held_against" VF f39 e39)
    (Gi:b9 K mg "share_of_others" VI f40 e40)
    (Gj:b9 K mg "over_one_bottom" l0 f41 e41)
    (Bg:b9 K mg "standing" t7 f42 e42)
    (Gk:b9 K mg "share" VG f43 e43)
    (Bh:b9 K mg "scale" V7 f44 e44)
    (Gm:b9 K mg "gives_no_less" VZ f45 e45)
    (Bj:b9 K mg "compared" VY f46 e46)
    (Gp:b9 K mg "least_times" Io f47 e47)
    (Bl:b9 K mg "share_alone" Ip f48 e48)
    (Gq:b9 K mg "_law_a_numbers" t0 SM e49)
    (GP:b9 K mg "_law_asked" Ds SN e50)
    (GV:b9 K mg "_law_a_due" N1 SQ e51)
    (G6:b9 K mg "read_thing" VW f52 e52)
    (G8:b9 K mg "read_row" S7 SR e53)
    (HE:b9 K mg "fraction_text" V1 f55 e55)
    (MP:b9 K mg "tell_alone" Wz SS e56)
    (M6:b9 K mg "tell_scale" Xa f57 e57)
    (yo:b9 K mg "numbers_text" Y1 f58 e58)
    (NN:b9 K mg "tell_rim" V_ SU e59)
    (NO:b9 K mg "tell_levels" L6 SV e60)
    (N3:b9 K mg "tell_order" Xk SW e61)
    (HF:b9 K mg "house_text" VS f62 e62)
    (HQ:b9 K mg "book_text" VT f63 e63)
    (Om:b9 K mg "tell_book" V' f64 e64)
    (Bm:b9 K mg "refuse_unfit" X7 f65 e65)
    (m9:b9 K mg "with_one_more" V0 Zh nZ)
    (OG:b9 K mg "put_house" Wa f67 e67)
    (OL:b9 K mg "drop_house" Wb f68 e68)
    (HR:b9 K mg "with_another" J9 f69 e69)
    (ON:b9 K mg "alter_house" R1 f70 e70)
    (OO:b9 K mg "set_sizes" Wc f71 e71)
    (HU:b9 K mg "_law_a_kin" We f73 e73)
    (HV:b9 K mg "_law_said" Wg f74 e74)
    (HW:b9 K mg "_law_due_kin" X8 f75 e75)
    (OZ:b9 K mg "law" M1 f76 e76)
    (HX:k6 K DI "__init__" "Desk.__init__" V3 f10 GL)
    (HY:k6 K CB "__init__" "Board.__init__" Ob f21 e21)
    (O_:k6 K CB "coming" "Board.coming" Wh f22 zf)
    (Pa:k6 K CB "is_ahead" "Board.is_ahead" Wj f23 Ya)
    (Pk:k6 K CB "going" "Board.going" Wi f24 e24)
    (Pq:k6 K CB "exchange" "Board.exchange" W6 f26 zm)
    (Pr:k6 K CB "amounts" "Board.amounts" Wl f27 z9)
    (Pu:k6 K CB "weights" "Board.weights" Wm f28 F1)
    (Pw:k6 K DI "take_back" "Desk.take_back" S5 f54 e54)
    (Pz:k6 K DI "say" "Desk.say" S4 f72 e72)
    (hc:zf.code=.ref Ct)
    (Aq:e42.code=.ref Ct2)
    (T:v8 mg)
    (Js:TB K CB)
    (bm:nQ K CB=true)
    (bk:dX K (.ref CB)=true)
    (BX:TD K DI)
    (ddm:nQ K DI=true)
    (ddk:dX K (.ref DI)=true)
    (Lk:KTab K w.params mg "ASKS" qx [("share",yZ),("grow",zL),("others",yD),("alone",SS),("scale",f57),("rim",SU),("levels",SV),("order",SW),("book",f64)])
    (Iz:KTab K w.params mg "DEEDS" ko [("house",f67),("drop",f68),("alter",f70),("sizes",f71)])
    (FT:Ye K w.params mg jj [("house",kq),("drop",qy),("alter",ku),("sizes",ky),("back",qz),("share",kz),("grow",q_),("others",jq),("alone",k_),("scale",lj),("rim",xh),("levels",jr),("order",lu),("book",rb)])
    (ZT:b3g K mg oZ)
    (CF:mg "FIGURES"=fo (.str Kw tFIG))
    (zs:mg "str"=fO)
    (SG:Sg K w.params mg dS)
    (ne:Pt2≠Pt)
    (eS:k7 K mg "NoHouse" a_)
    (bp:k7 K mg "NoBook" bq)
    (k9:k7 K mg "RimError" bx)
    (m8:k7 K mg "NoRow" bz)
    (m6:k7 K mg "NoText" cf)
    (k8:k7 K mg "TooMany" bb)
    (bh:k7 K mg "NothingLeft" av)
    (vf:mg "MOST_AMOUNT"=fo (.int 1000000000 zB))
    (ju:mg "MOST_HOUSES"=fo (.int 16 zC))
    (uf:mg "MOST_FIGURES"=fo (.int 10 y2))
    (xm:mg "MOST_KINDS"=fo (.int 4 zM))
    (tH:YX K mg DJ)
    (Gr:EB K bq bx bq a_ bz cf bb av true false false false false false)
    (Ee:EB K a_ bx bq a_ bz cf bb av false true false false false false)
    (IB:EB K bz bx bq a_ bz cf bb av false false true false false false)
    (Ef:EB K bb bx bq a_ bz cf bb av false false false false true false)
    (MM:EB K av bx bq a_ bz cf bb av false false false false false true)
   :∃fd,(∀(s:aG)(v:aE),lU s fd ⟨[v],[]⟩ [("script",v)])/\∀base:aJ,K.In base->base.Ns jo mg->QO mg base->(∀t∈[(Ct,Pt),(Ct2,Pt2)],oV base t.1 t.2)->bf P w K mg base J8 16 fa fd ["script"] (FU K Pt Pt2):=by
  cases RG.symm.trans OZ.m;refine⟨e76,λs v=>?_,λbase _ _ BM hCH=>?_⟩
  . obtain⟨_,_,_,_,_,_,_,_,_,rfl,_⟩:=OZ.F.ex
    exact .of_eq rfl
  have R:Yy K mg bx bq a_ bz cf bb av:=⟨k9.m,bp.m,eS.m,m8.m,m6.m,k8.m,bh.m,k9.k⟩;have g1 (n:Nat):=b3y (P:=P) (w:=w) (base:=base) (n:=n) u1.F T ⟨_,uf⟩ ⟨_,CF⟩;have g2 (n:Nat):=b2w u2.F T ⟨g1 n,u1.F.b1,u1.F.kp,u1.m⟩;have g3 (n:Nat):=b5H (P:=P) (w:=w) (base:=base) (n:=n) u3.F T;have g4 (n:Nat):=b4J u4.F T ⟨_,vf⟩ ⟨g3 n,u3.F.b1,u3.F.kp,u3.m⟩;have g5 (n:Nat):=b4A u5.F T ⟨g4 n,u4.F.b3,u4.F.kp,u4.m⟩;have g6 (n:Nat):=b5i u6.F T ⟨_,xm⟩ ⟨g5 n,u5.F.b3,u5.F.kp,u5.m⟩;have g7 (n:Nat):=b2v u7.F T ⟨g2 (n+2),u2.F.b1,u2.F.kp,u2.m⟩ ⟨g6 n,u6.F.b1,u6.F.kp,u6.m⟩;have g8 (n:Nat):=b7S u8.F T ⟨_,ju⟩ ⟨g6 n,u6.F.b1,u6.F.kp,u6.m⟩ ⟨g5 (n+1),u5.F.b3,u5.F.kp,u5.m⟩;have g9 (n:Nat):=b2y u9.F T m6.k m6.m ⟨g7 n,u7.F.b1,u7.F.kp,u7.m⟩ ⟨g8 n,u8.F.b1,u8.F.kp,u8.m⟩;have g10 (n:Nat):=b1n HX.F BX ⟨g9 n,u9.F.b1,u9.F.kp,u9.m⟩;have WW (n:Nat):=b5t (P:=P) (w:=w) (base:=base) (n:=n) AU.F T;have g12 (n:Nat):=b1t (P:=P) (w:=w) (base:=base) (n:=n) AW.F T;have g13 (n:Nat):=b4E (P:=P) (w:=w) (base:=base) (n:=n) F_.F T;have g14 (n:Nat):=b3t F'.F T (WW n) AU.F.b2 AU.F.kp AU.m (g12 n) AW.F.b3 AW.F.kp AW.m (g13 n) F_.F.b3 F_.F.kp F_.m;have g15 (n:Nat):=f3A (P:=P) (w:=w) (base:=base) (mg:=mg) (n:=n) AX.F zs;have g16 (n:Nat):=f1N Ga.F ⟨g15 n,AX.F.b1,AX.F.kp,AX.m⟩;have g17 (n:Nat):=f2E Gb.F T zs ⟨g15 n,AX.F.b1,AX.F.kp,AX.m⟩;have g18 (n:Nat):=b4G (P:=P) (w:=w) (base:=base) (n:=n) AY.F T;have g19 (n:Nat):=f2T Gd.F T ⟨g18 n,AY.F.b1,AY.F.kp,AY.m⟩;have g20 (n:Nat):=f2G (Pt:=Pt) (P2_:=Pt2) Ge.F T zs ⟨g19 n,Gd.F.b1,Gd.F.kp,Gd.m⟩;have g21 (n:Nat):=b4m (P:=P) (w:=w) (base:=base) (n:=n) HY.F T Js;have g22 (n:Nat):=b0B (P:=P) (w:=w) (base:=base) (n:=n) O_.F hc (hCH _ (.head _)) BM T Js;have g23 (n:Nat):=b2r (P:=P) (w:=w) (base:=base) (mg:=mg) (n:=n) Pa.F Js;have g24 (n:Nat):=b2X Pk.F T Js ⟨g23 n,Pa.F.b4,Pa.me⟩;have g25 (n:Nat):=b1w (P:=P) (w:=w) (base:=base) (n:=n) Gf.F T;have g26 (n:Nat):=a6E Pq.F Js ⟨g25 n,Gf.F.b4,Gf.F.kp,Gf.m⟩;have g27 (n:Nat):=b4W (P:=P) (w:=w) (base:=base) (n:=n) Pr.F T Js;have g28 (n:Nat):=b7Y (P:=P) (w:=w) (base:=base) (n:=n) Pu.F T Js;have g29 (n:Nat):=a7f AZ.F Js ⟨⟨bm,HY.me.1,HY.me.2,bk⟩,g21 (n+2),HY.F.b4,aB,⟨g22 n,O_.F.b1,O_.me⟩,⟨g24 (n+1),Pk.F.b2,Pk.me⟩,⟨g26 (n+1),Pq.F.b3,Pq.me⟩,⟨g27 (n+2),Pr.F.b1,Pr.me⟩,⟨g28 (n+2),Pu.F.b1,Pu.me⟩⟩;have g30 (n:Nat):=a5Z (P:=P) (w:=w) (base:=base) (n:=n) A_.F T SG;have g31 (n:Nat):=b2V Gg.F T ⟨g29 n,AZ.F.b3,AZ.F.kp,AZ.m⟩ ⟨g30 (n+4),A_.F.b2,A_.F.kp,A_.m⟩;have ZZ (n:Nat):=b3q yY.F T ⟨g31 n,Gg.F.b3,Gg.F.kp,Gg.m⟩;have Ta (n:Nat):=c9S Ba.F T ⟨ZZ n,yY.F.b2,yY.F.kp,yY.m⟩;have HZ (n:Nat):=b7u (P:=P) (w:=w) (base:=base) (n:=n) va.F T eS.k eS.m;have g35 (n:Nat):=a8I Bb.F ⟨HZ n,va.F.b2,va.F.kp,va.m⟩;have g36 (n:Nat):=b0M Gh.F T SG ⟨g29 n,AZ.F.b3,AZ.F.kp,AZ.m⟩ ⟨g30 (n+4),A_.F.b2,A_.F.kp,A_.m⟩;have g37 (n:Nat):=b6B (P:=P) (w:=w) (base:=base) (n:=n) Bc.F T;have g38 (n:Nat):=b7t Be.F T ⟨g37 n,Bc.F.b2,Bc.F.kp,Bc.m⟩;have g39 (n:Nat):=b5C Bf.F ⟨g36 n,Gh.F.b3,Gh.F.kp,Gh.m⟩ ⟨g38 (n+4),Be.F.b2,Be.F.kp,Be.m⟩;have g40 (n:Nat):=c9V Gi.F ⟨HZ (n+6),va.F.b2,va.F.kp,va.m⟩ ⟨g35 (n+5),Bb.F.b2,Bb.F.kp,Bb.m⟩ ⟨g39 n,Bf.F.b3,Bf.F.kp,Bf.m⟩;have g41 (n:Nat):=e8T Gj.F ⟨g37 n,Bc.F.b2,Bc.F.kp,Bc.m⟩;have g42 (n:Nat):=c8K Bg.F Aq (hCH _ (.tail _ (.head _))) BM T tH ⟨g40 n,Gi.F.b3,Gi.F.kp,Gi.m⟩ ⟨g41 (n+6),Gj.F.b1,Gj.F.kp,Gj.m⟩;have g43 (n:Nat):=b1g Gk.F ⟨HZ (n+6),va.F.b2,va.F.kp,va.m⟩ ⟨g39 n,Bf.F.b3,Bf.F.kp,Bf.m⟩;have g44 (n:Nat):=d0r Bh.F ⟨g43 n,Gk.F.b3,Gk.F.kp,Gk.m⟩;have g45 (n:Nat):=f2S (P:=P) (w:=w) (base:=base) (n:=n) Gm.F T;have g46 (n:Nat):=e8X (P:=P) (w:=w) (base:=base) (mg:=mg) (n:=n) Bj.F;have g47 (n:Nat):=f2U Gp.F T ⟨tH.m,tH.s⟩ ⟨g38 n,Be.F.b2,Be.F.kp,Be.m⟩ ⟨g46 (n+1),Bj.F.b2,Bj.F.kp,Bj.m⟩;have g48 (n:Nat):=f2P Bl.F T ⟨HZ (n+2),va.F.b2,va.F.kp,va.m⟩ ⟨g45 (n+2),Gm.F.b2,Gm.F.kp,Gm.m⟩ ⟨g47 n,Gp.F.b2,Gp.F.kp,Gp.m⟩ ⟨g46 (n+2),Bj.F.b2,Bj.F.kp,Bj.m⟩;have g49 (n:Nat):=d1y (P:=P) (w:=w) (base:=base) (mg:=mg) (n:=n) Gq.F zs;have g50 (n:Nat):=f1T GP.F T zs ⟨⟨Ta (n+4),Ba.F.b2,Ba.F.kp,Ba.m⟩,⟨g42 n,Bg.F.b2,Bg.F.kp,Bg.m⟩,⟨ZZ (n+5),yY.F.b2,yY.F.kp,yY.m⟩,⟨g44 (n+3),Bh.F.b2,Bh.F.kp,Bh.m⟩,⟨g48 (n+8),Bl.F.b2,Bl.F.kp,Bl.m⟩,⟨g49 (n+11),Gq.F.b1,Gq.F.kp,Gq.m⟩⟩;have g51 (n:Nat):=f2u GV.F T ⟨g18 (n+12),AY.F.b1,AY.F.kp,AY.m⟩ ⟨g20 (n+10),Ge.F.b3,Ge.F.kp,Ge.m⟩ ⟨g50 n,GP.F.b3,GP.F.kp,GP.m⟩;have g52 (n:Nat):=b3G G6.F ZT ⟨g1 (n+4),u1.F.b1,u1.F.kp,u1.m⟩ ⟨g7 n,u7.F.b1,u7.F.kp,u7.m⟩;have g53 (n:Nat):=b3R G8.F T FT m8.k m8.m ⟨g52 n,G6.F.b2,G6.F.kp,G6.m⟩;have g54 (n:Nat):=b3E (P:=P) (w:=w) (base:=base) (mg:=mg) (n:=n) Pw.F BX bh.k bh.m;have g55 (n:Nat):=b1P (P:=P) (w:=w) (base:=base) (mg:=mg) (n:=n) HE.F;have g56 (n:Nat):=f1I MP.F ⟨g48 n,Bl.F.b2,Bl.F.kp,Bl.m⟩ ⟨g55 (n+3),HE.F.b1,HE.F.kp,HE.m⟩;have g57 (n:Nat):=c9P M6.F ⟨g44 n,Bh.F.b2,Bh.F.kp,Bh.m⟩;have PB (n:Nat):=b5w (P:=P) (w:=w) (base:=base) (mg:=mg) (n:=n) yo.F zs;have g59 (n:Nat):=b4d NN.F ⟨ZZ n,yY.F.b2,yY.F.kp,yY.m⟩ ⟨PB (n+6),yo.F.b1,yo.F.kp,yo.m⟩;have g60 (n:Nat):=c8P NO.F ⟨Ta n,Ba.F.b2,Ba.F.kp,Ba.m⟩ ⟨PB (n+7),yo.F.b1,yo.F.kp,yo.m⟩;have g61 (n:Nat):=c9J N3.F ⟨g42 n,Bg.F.b2,Bg.F.kp,Bg.m⟩ ⟨PB (n+11),yo.F.b1,yo.F.kp,yo.m⟩;have g62 (n:Nat):=b0m HF.F ⟨PB n,yo.F.b1,yo.F.kp,yo.m⟩;have g63 (n:Nat):=b2s HQ.F ⟨g62 n,HF.F.b1,HF.F.kp,HF.m⟩;have g64 (n:Nat):=b2j Om.F ⟨g63 n,HQ.F.b1,HQ.F.kp,HQ.m⟩;have g65 (n:Nat):=b0s Bm.F bp.k bp.m ⟨g5 n,u5.F.b3,u5.F.kp,u5.m⟩;have g66 (n:Nat):=a8p m9.F T k8.k k8.m ⟨_,ju⟩ ⟨g65 n,Bm.F.b3,Bm.F.kp,Bm.m⟩;have g67 (n:Nat):=b6K OG.F T zs ⟨g66 n,m9.F.b4,m9.F.kp,m9.m⟩;have g68 (n:Nat):=b4r OL.F bp.k bp.m ⟨g35 n,Bb.F.b2,Bb.F.kp,Bb.m⟩;have g69 (n:Nat):=c8Y HR.F ⟨HZ (n+3),va.F.b2,va.F.kp,va.m⟩ ⟨g65 n,Bm.F.b3,Bm.F.kp,Bm.m⟩;have g70 (n:Nat):=c9G ON.F T ⟨g69 n,HR.F.b5,HR.F.kp,HR.m⟩;have g71 (n:Nat):=b4N (P:=P) (w:=w) (base:=base) (mg:=mg) (n:=n) OO.F;have g72 (n:Nat):=b6S (FA:=b8U P w K mg base 13) Pz.F BX Lk Iz ⟨g53 (n+6),G8.F.b1,G8.F.kp,G8.m⟩ ⟨g54 (n+12),Pw.F.b1,Pw.me⟩ (λg sp h=>h n);have DWd:Zw K Pt Pt2 bx bq a_ bz cf bb av [("share",yZ),("grow",zL),("others",yD),("alone",SS),("scale",f57),("rim",SU),("levels",SV),("order",SW),("book",f64)] [("house",f67),("drop",f68),("alter",f70),("sizes",f71)] (b8U P w K mg base 13):=⟨cm,cm,cm,cm,cm,cm,⟨⟨_,cm,λn=>⟨_,g67 (n+7),OG.F.b3,OG.F.kp⟩⟩⟩,⟨⟨_,cm,λn=>⟨_,g68 (n+10),OL.F.b3,OL.F.kp⟩⟩⟩,⟨⟨_,cm,λn=>⟨_,g70 (n+7),ON.F.b3,ON.F.kp⟩⟩⟩,⟨⟨_,cm,λn=>⟨_,g71 (n+12),OO.F.b3,OO.F.kp⟩⟩⟩,⟨⟨_,cm,λn=>⟨_,g64 (n+9),Om.F.b3,Om.F.kp⟩⟩⟩,⟨⟨_,cm,λn=>⟨_,g59 (n+5),NN.F.b3,NN.F.kp⟩⟩⟩,⟨⟨_,cm,λn=>⟨_,g60 (n+4),NO.F.b3,NO.F.kp⟩⟩⟩,⟨⟨_,cm,λn=>⟨_,g61 n,N3.F.b3,N3.F.kp⟩⟩⟩,⟨⟨_,cm,λn=>⟨_,g56 (n+8),MP.F.b3,MP.F.kp⟩⟩⟩,⟨⟨_,cm,λn=>⟨_,g57 (n+3),M6.F.b3,M6.F.kp⟩⟩⟩,ne,Gr,Ee,IB,Ef,MM⟩;have g73 (n:Nat):=b5y (P:=P) (w:=w) (base:=base) (n:=n) HU.F T R;have g74 (n:Nat):=b4V HV.F BX R ⟨g72 n,Pz.F.b2,Pz.me⟩ ⟨g73 (n+13),HU.F.b1,HU.F.kp,HU.m⟩;have g75 (n:Nat):=b4y (P:=P) (w:=w) (base:=base) (n:=n) HW.F T;exact b7G OZ.F T zs DWd ⟨⟨ddm,HX.me.1,HX.me.2,ddk⟩,g10 7,HX.F.b2,aD⟩ ⟨⟨WW 14,AU.F.b2,AU.F.kp,AU.m⟩,⟨g12 14,AW.F.b3,AW.F.kp,AW.m⟩,⟨g14 13,F'.F.b4,F'.F.kp,F'.m⟩,⟨g16 13,Ga.F.b1,Ga.F.kp,Ga.m⟩,⟨g17 13,Gb.F.b2,Gb.F.kp,Gb.m⟩,⟨g51 1,GV.F.b2,GV.F.kp,GV.m⟩,⟨g74 0,HV.F.b2,HV.F.kp,HV.m⟩,⟨g75 14,HW.F.b1,HW.F.kp,HW.m⟩⟩
end sC
namespace PySem.W.Fast
def tw10575203381257052433:=Or
def tw16378560893522377580:=Or
def tw11863098226609214023:=Or
def tw5967208793664988688:=Or
def tw14811677569108989951:=Or
def tw12830211911066662929:=Or
def tw8609770787588133450:=Or
def tw1722632592636962755:=Or
def tw8373748853970380238:=Or
def tw3327038781233391413:=Or
def tw13810726935012069493:=Or
def tw7717050598969005473:=Or
def tw11898776604124821952:=Or
def tw4709393143608993440:=Or
def tw12935875239853235204:=Or
def tw16624835631047722934:=Or
def tw16761243448403607758:=Or
def tw13499104355591890928:=Or
def tw13051206403477238580:=Or
def tw7896091813498899126:=Or
def tw16038527358481891004:=Or
def tw7200177293165407422:=Or
def tw8794324231040813054:=Or
def tw821078651837055962:=Or
def tw13632332132919932022:=Or
def tw2668532876171746017:=Or
def tw9627498831197489389:=Or
def tw11289929901260236726:=Or
def tw10696040165349459053:=Or
def tw17599502400023202026:=Or
def tw17830119093248867256:=Or
def tw15518777168572986241:=Or
def tw135242051571678264:=Or
def tw4553162704560603329:=Or
def tw15967820748814529939:=Or
def tw7462870769634392687:=Or
def tw16751323648214045230:=Or
def tw4009071307258319947:=Or
def tw15631574448593469586:=Or
def tw18106015623355471344:=Or
def tw2352218946239996715:=Or
def tw1764186003470152691:=Or
def tw13714592209440123696:=Or
def tw11459086245470344066:=Or
def tw10717686711219405648:=Or
def tw953945061686869466:=Or
def tw7648707976559830272:=Or
def tw17296639660782948228:=Or
def tw16300113469470197065:=Or
def tw5486006450723764775:=Or
def tw4662090247025106238:=Or
def tw5246410794443433370:=Or
def tw13451127023148883298:=Or
def tw13098680660272378077:=Or
def tw5836857997866780589:=Or
def tw2354686965730645841:=Or
def tw10288365159509931479:=Or
def tw9198126023469510900:=Or
def tw4642159821248844071:=Or
def tw12422962694715206056:=Or
def tw7839596342345847352:=Or
def tw13217829990017019260:=Or
def tw18301825000947957986:=Or
def tw15703176396956023248:=Or
def tw6977338063337843582:=Or
def tw18267103171899160285:=Or
def tw7870470857141652751:=Or
def tw12345854829297264422:=Or
def tw12545087248554332043:=Or
def tw7318069307239290892:=Or
def tw16135612877408987793:=Or
def tw3827730728321676045:=Or
def tw14626039610754806926:=Or
def tw9265824686663756571:=Or
def tw15919852040395831777:=Or
def tw1499498808338080769:=Or
def tw8203319544228375057:=Or
def tw1980572029506143181:=Or
def tw17491626769423645568:=Or
def tw3195815896464660831:=Or
def tw1816253202686473857:=Or
def tw6604369378811220112:=Or
def tw2187449581033326439:=Or
def tw10188809870882080735:=Or
def tw15761480002143962348:=Or
def tw7793879346509837890:=Or
def tw8501393047489492556:=Or
def tw15854223936303872565:=Or
def tw13418228880436342343:=Or
def tw12093742788470478523:=Or
def tw13138194520166803406:=Or
def tw11181292941076042079:=Or
def tw10732677607118903033:=Or
def tw11289199866605450351:=Or
def tw14293440778982989463:=Or
def tw15929992969164569332:=Or
def tw3314172639416868167:=Or
def tw14121866732733253842:=Or
def tw18193470798800434344:=Or
def tw15304798099861686858:=Or
def tw13493295488540226059:=Or
def tw10009547421318603393:=Or
def tw11452595355421075912:=Or
def tw8141925539949694946:=Or
def tw15518638899696456472:=Or
def tw14536049611953218658:=Or
def tw17702880916792846970:=Or
def tw8082077864231652113:=Or
def tw9767672914642598560:=Or
def tw10852038397876539957:=Or
def tw12265342055852400264:=Or
def tw9206436657014111123:=Or
def tw5499350998640850269:=Or
def tw17403488604433004803:=Or
def tw822276703575202986:=Or
def tw3654780496925728446:=Or
def tw14989842083312709288:=Or
def tw8371653938608475275:=Or
def tw10665984018743168530:=Or
def tw6947468495993692862:=Or
def tw8008711828112205321:=Or
def tw2960996896923985818:=Or
def tw14896514215006433299:=Or
def tw4213182118405663068:=Or
def tw8006382796769857698:=Or
def tw12859932140099490436:=Or
def tw2900139427292488082:=Or
def tw3729981849659391769:=Or
def tw1358228409849325408:=Or
def tw256303301225384953:=Or
def tw16944608203757220661:=Or
def tw12502451496671294432:=Or
def tw9384961132457867358:=Or
def tw17114325305272746182:=Or
def tw13414833318591236539:=Or
def tw12693473323773210931:=Or
def tw16953880267766496056:=Or
def tw12193045498679007277:=Or
def tw14613921666098971136:=Or
def tw13377279930459553826:=Or
def tw4783644825246585023:=Or
def tw358980242980843658:=Or
def tw7042493124492598826:=Or
def tw13616800429388740077:=Or
def tw8355356064360110287:=Or
def tw8171012208131513173:=Or
def tw8651948403832911029:=Or
def tw12777554124129763283:=Or
def tw6973140643187953369:=Or
def tw12200893407305927232:=Or
def tw14012343286584569661:=Or
def tw9528216321924077059:=Or
def tw15028175064655278549:=Or
def tw10138794305942990298:=Or
def tw16969095552957967225:=Or
def tw2054331868854188601:=Or
def tw3582762042940988358:=Or
def tw15641820364053247786:=Or
def tw12500805253153556353:=Or
def tw13865257372113715852:=Or
def tw14604268173624396258:=Or
def tw2284087749363452871:=Or
def tw7276511573123048473:=Or
def tw7524587545784678024:=Or
def tw7463496355583265022:=Or
def tw12229937449621470161:=Or
def tw14440420279707345340:=Or
def tw9372677822815755534:=Or
def tw13477185797898535669:=Or
def tw4760957651772248135:=Or
def tw6106076807031466379:=Or
def tw15540790845572655703:=Or
def tw11537847990668919369:=Or
def tw14311898839912479019:=Or
def tw10497802060525011003:=Or
def tw5302891858844278731:=Or
def tw13128964127898879169:=Or
def tw7640076147918844031:=Or
def tw14457963941050107209:=Or
def tw2020134715897965128:=Or
def tw7983560762499515303:=Or
def tw3526877528014245129:=Or
def tw7974481255359240428:=Or
def tw9837030778662537580:=Or
def tw3488726392653207269:=Or
def tw13477400056878834479:=Or
def tw16836511589285048423:=Or
def tw2300399269346621573:=Or
def tw11386670279807028878:=Or
def tw13891168069846690942:=Or
def tw10634878532237288849:=Or
def tw11452139686796400202:=Or
def tw4910700345311141166:=Or
def tw13281365613330248535:=Or
def tw13155466019184642997:=Or
def tw12079134303167317363:=Or
def tw4162990418586189700:=Or
def tw13428358361231091654:=Or
def tw9518917676748619819:=Or
def tw15188649267219694640:=Or
def tw5079056369412102111:=Or
def tw5673523225902735666:=Or
def tw1220752270787496146:=Or
def tw11785989356526438215:=Or
def tw2082609132473208685:=Or
def tw466843491841147662:=Or
def tw16915296415442080724:=Or
def tw17884268237350735630:=Or
def tw3467904176402023416:=Or
def tw14849427011262184868:=Or
def tw14903417789260566519:=Or
def tw14745850902550452863:=Or
def tw15591683532310700488:=Or
def tw17827800299109131852:=Or
def tw12676673651720393451:=Or
def tw13013764732175803695:=Or
def tw7482445825100126249:=Or
def tw6925188012405028816:=Or
def tw9098990257727088397:=Or
def tw12131367088850433703:=Or
def tw6707324671092662835:=Or
def tw18333746272463389836:=Or
def tw9152329190893753927:=Or
def tw11665227860988103072:=Or
def tw7523683247738726937:=Or
def tw10150531513848103635:=Or
def tw4003312862037313899:=Or
def tw9636284258858377660:=Or
def tw5716126572066511656:=Or
def tw15066947659138568600:=Or
def tw3212790043820605578:=Or
def tw7981380762079123076:=Or
def tw10957251282597915394:=Or
def tw16274935500604001411:=Or
def tw8733571131998884328:=Or
def tw15553099736261325603:=Or
def tw7389319018952793764:=Or
def tw5739696943518297402:=Or
def tw949295171151877383:=Or
def tw17469360772104083248:=Or
def tw16653542514997020656:=Or
def tw14778840040159090375:=Or
def tw11487210297006027900:=Or
def tw6238330709325803937:=Or
def tw15822770950861385179:=Or
def tw2585352474480941511:=Or
def tw5038644443308635153:=Or
def tw3656049360968255778:=Or
def tw1228051654709343109:=Or
def tw14449366596482459893:=Or
def tw9878134006828097692:=Or
def tw10359769493582434608:=Or
def tw16816235302079940705:=Or
def tw15815357771973565361:=Or
def tw16672157496170198551:=Or
def tw18091819835370574941:=Or
def tw2292441351437724321:=Or
def tw2659889853334143804:=Or
def tw15692920270324828949:=Or
def tw17248117298272890011:=Or
def tw388066129150157958:=Or
def tw4029088380190827527:=Or
def tw17932890860144318130:=Or
def tw3920948787281805229:=Or
def tw14644630270405823934:=Or
def tw14295473460547734614:=Or
def tw4366679229334302073:=Or
def tw7938581548388881964:=Or
def tw6131112201668926211:=Or
def tw1838004531822962134:=Or
def tw10013216424035644760:=Or
def tw4785720376114562817:=Or
def tw352212227864651055:=Or
def tw14852921514657726571:=Or
def tw10229268727525399683:=Or
def tw6978089133506729320:=Or
def tw7461035891247159157:=Or
def tw4603033687265810871:=Or
def tw884222215419956639:=Or
def tw5590333708274066259:=Or
def tw9857253606740749220:=Or
def tw15125343090714402862:=Or
def tw16485442845366119936:=Or
def tw6034028887423409840:=Or
def tw16626478906437739731:=Or
def tw16472221169542682817:=Or
def tw2784895549628907357:=Or
def tw5282687167677797722:=Or
def tw11954526463771917697:=Or
def tw8720562515717700877:=Or
def tw3070121575361061908:=Or
def tw7240778161556664816:=Or
def tw1925184985850779777:=Or
def tw1534977045686212097:=Or
def tw13256884112463862325:=Or
def tw13780339881958395718:=Or
def tw6065807783752667128:=Or
def tw10961765661772353966:=Or
def tw7138035063511417691:=Or
def tw5278817597343231497:=Or
def tw13823169553621545386:=Or
def tw11677955730280490193:=Or
def tw3363299205480395415:=Or
def tw10562870528654303268:=Or
def tw10078216488650191031:=Or
def tw17978606272624683946:=Or
def tw5734372461838830705:=Or
def tw4735714900596578591:=Or
def tw6059804468468534088:=Or
def tw5185085646260142805:=Or
def tw3405415922400350843:=Or
def tw2208992062933650054:=Or
def tw15373119643872162903:=Or
def tw15241851478711557244:=Or
def tw11675975685185550734:=Or
def tw7793136736343324198:=Or
def tw16785733360536268028:=Or
def tw13812854386002084421:=Or
def tw13422015690541556670:=Or
def tw3399839458603086865:=Or
def tw3183620493175786084:=Or
def tw15060348945315082698:=Or
def tw10836676257067431959:=Or
def tw6714628244492376093:=Or
def tw16101008208434293477:=Or
def tw9546302678289542542:=Or
def tw3172412548149385322:=Or
def tw10772003763416857243:=Or
def tw6279090076713592966:=Or
def tw13403771882714323782:=Or
def tw15239700350343351244:=Or
def tw12692213832489009682:=Or
def tw5163277223120235964:=Or
def tw10812092126134883073:=Or
def tw9850828567820636153:=Or
def tw5758227467251842524:=Or
def tw1259567132890947278:=Or
def tw11246974738040527537:=Or
def tw7996903912125027695:=Or
def tw17173975580747663761:=Or
def tw9007865040429001932:=Or
def tw6627475195332293272:=Or
def tw15838816024602041940:=Or
def tw1542741157134813774:=Or
def tw7596760405161980060:=Or
def tw1816884998059812180:=Or
def tw1627972054913027462:=Or
def tw11394125998393051430:=Or
def tw2312219372331152430:=Or
def tw14830227314696353101:=Or
def tw12307998467518404057:=Or
def tw779667833735321700:=Or
def tw18063885785003804553:=Or
def tw2271186603294705057:=Or
def tw17048118790985599659:=Or
def tw16466086773730973952:=Or
def tw4189798504761423699:=Or
def tw7490259031826845910:=Or
def tw2916738591901410690:=Or
def tw4369730705709583959:=Or
def tw6403174302438965523:=Or
def tw9539318351551640407:=Or
def tw1588597218384176361:=Or
def tw9276328406430445754:=Or
def tw2530822230156743955:=Or
def tw17036572787724103075:=Or
def tw15964504799244372816:=Or
def tw11341548625796396316:=Or
def tw15701015069051603868:=Or
def tw5569835032016296893:=Or
def tw16136860693634421949:=Or
def tw5994101577060812393:=Or
def tw10201195856868878848:=Or
def tw15918168207273186892:=Or
def tw10050043987985868623:=Or
def tw16821354266131386071:=Or
def tw7200060422610881593:=Or
def tw6959048048766687319:=Or
def tw5469011822477626384:=Or
def tw3208261214153601398:=Or
def tw2959661414777687795:=Or
def tw14129525586666516165:=Or
def tw11455139965128809784:=Or
def tw10742433160560878755:=Or
def tw3567265855844550156:=Or
def tw1686139156517141451:=Or
def tw15330281732029470430:=Or
def tw3804446452545440748:=Or
def tw4772630467475061940:=Or
def tw491046954867044335:=Or
def tw13643399770490879049:=Or
def tw6437311650314957429:=Or
def tw4430335836840848188:=Or
def tw12677475303027761046:=Or
def tw13409883022507346420:=Or
def tw129515296424740042:=Or
def tw1584166624374963338:=Or
def tw7907646345077076077:=Or
def tw12371800118891079777:=Or
def tw3343193080232943902:=Or
def tw17709259879465992261:=Or
def tw6921033382086829344:=Or
def tw688775957582348745:=Or
def tw5609643225983468865:=Or
def tw17529004851161527342:=Or
def tw16914822977907855839:=Or
def tw15739254105780891396:=Or
def tw15269480562945163930:=Or
def tw2186227382071908073:=Or
def tw15850920553051716700:=Or
def tw11492130481445998380:=Or
def tw4603080521806748433:=Or
def tw5958686549122598158:=Or
def tw5806313474968678149:=Or
def tw3090297271687347794:=Or
def tw15065036928784090341:=Or
def tw17358720827748935498:=Or
def tw10545895007842327916:=Or
end PySem.W.Fast
namespace sC
open PySem L2 Fr
theorem walk{l:W.OpenLaw}{q:aM}{loose:List aC}{Ii:(aC->Option aE)->aJ->Prop}{Df:aL->aJ->Prop}{d:DefRec}{K:gN->aF}{Ct Pt Ct2 Pt2:aA}(hn:l.most=fo 63)(DM:d.params.defaults=[])
  (hY:∀(w:aL)(h:aJ),Df w h->(K w.params).In h/\∀t∈[(Ct,Pt),(Ct2,Pt2)],h.get? t.2=fo (oW #[]))
  (hC:∀(w:aL),∀t∈[(Ct,Pt),(Ct2,Pt2)],No (K w.params) t.1 t.2=true/\(K w.params).lookup t.2=fO)
  (F:∀(w:aL)(mg:aC->Option aE)(fa:aA)(h:aJ),(K w.params).In h->h.Ns jo mg->mg d.name=fo (.ref fa) →
   ∃fd:aK,(∀(s:aG)(u:aE),lU s fd ⟨[u],[]⟩ [("script",u)])/\∀base:aJ,(K w.params).In base->base.Ns jo mg->QO mg base->(∀t∈[(Ct,Pt),(Ct2,Pt2)],oV base t.1 t.2)->bf l.prog w (K w.params) mg base J8 16 fa fd ["script"] (FU (K w.params) Pt Pt2)) :
  W.WalkO q loose Ii Df l.row.toRowW d [] (λf vs=>Fa f vs) :=
 L2.aao (n:=63) (k:=16) (x:="script") (Ts_:=[(Ct,Pt),(Ct2,Pt2)]) (CX:=λ_=>J8) (sp:=λw=>FU (K w.params) Pt Pt2) hn dz DM ⟨cm,dz,dz⟩ hY hC F (λ_ _ a ns hl hT hS=>⟨a,ns,cm,hS,hl,.inl (hT _ (.head _)),.inl (hT _ (.tail _ (.head _))),λ_=>rfl⟩) λ_ _ _ _ _ z=>z
end sC
open PySem PySem.W PyProof.Rows
set_option maxRecDepth 100000 in
set_option maxHeartbeats 0 in
theorem PySem.Challenge.cw_rimhouse_k34_whole_desks_altered_and_bac_holds : PySem.Challenge.rw_rimhouse_k34_whole_desks_altered_and_bac.Holds := by
  w_on;o_law;km_head;(case hw=>w_witness2)
  k_fill
  refine' sC.walk (l:=PySem.Challenge.rw_rimhouse_k34_whole_desks_altered_and_bac) (Ct:=_) (Pt:=229) (Ct2:=_) (Pt2:=424) rfl rfl ?Y ?C ?F
  case Y=>exact λw h Y=>⟨W.km_in_of Y,λt ht=>by
    rcases bH.mp ht with rfl|ht
    . exact W.km_tabs_of Y _ (.tail _ (.head _))
    . rw[cJ.mp ht];exact W.km_tabs_of Y _ (.head _)⟩
  case F =>
    intro w mg fa h KX G DN;apply sC.c1a DN
    (case aD|aB=>(refine' mg_of KX G ?_;k_is))
    (case u1|u2|u3|u4|u5|u6|u7|u8|u9|AU|AW|F_|F'|AX|Ga|Gb|AY|Gd|Ge|Gf|AZ|A_|Gg|yY|Ba|va|Bb|Gh|Bc|Be|Bf|Gi|Gj|Bg|Gk|Bh|Gm|Bj|Gp|Bl|Gq|GP|GV|G6|G8|HE|MP|M6|yo|NN|NO|N3|HF|HQ|Om|Bm|m9|OG|OL|HR|ON|OO|HU|HV|HW|OZ=>(refine' L2.fnJ KX G ?a ?l ?c ?k;(case a|l|c|k=>k_is)))
    (case HX|HY|O_|Pa|Pk|Pq|Pr|Pu|Pw|Pz=>(refine' L2.meJ ?a ?n ?l ?c ?k;(case a|n|l|c|k=>k_is)))
    (case hc|Aq=>exact rfl)
    (case T=>(constructor<;>(refine' mg_none_of KX G ?_;k_is)))
    (case Js=>(refine'⟨⟨?_,?_,?_,?_⟩,?_,?_,?_,?_,?_⟩<;>(first|k_is|(unfold L2.dg;k_is))))
    (case bm|bk=>k_is)
    (case BX=>(refine'⟨⟨?_,?_,?_,?_⟩,?_,?_,?_⟩<;>(first|k_is|(unfold L2.dg;k_is))))
    (case ddm|ddk=>k_is)
    (case Lk|Iz=>(refine' L2.FZ KX G ?a ?b ?c ?d ?e;(case a|b=>k_is);(case c=>k_keys);(case d=>(repeat(first|exact .nil|refine' .cons (b:=(_,_)) ⟨_,rfl,rfl⟩ ?_)));(case e=>exact rfl)))
    (case FT=>(refine'⟨L2.FZ KX G ?a ?b ?c ?d ?e,?fp⟩;(case a|b=>k_is);(case c=>k_keys);(case d=>(repeat(first|exact .nil|refine' .cons (b:=(_,_)) ⟨_,rfl,rfl⟩ ?_)));(case e=>exact rfl);(case fp=>repeat(first|exact .nil|(refine' .cons (a:=(_,_)) ⟨rfl,L2.Mx ?l ?s ?v⟩ ?_;(case l=>k_is);(case s=>decide);(case v=>(repeat(first|exact .nil|refine' .cons ⟨_,cm⟩ ?_))))))))
    (case ZT=>(refine'⟨mg_of KX G ?a,L2.Mx ?l ?s ?v⟩;(case a=>k_is);(case l=>k_is);(case s=>decide);(case v=>(repeat(first|exact .nil|refine' .cons ⟨_,cm⟩ ?_)))))
    (case CF=>(refine' mg_of KX G ?_;k_is))
    (case zs=>(refine' mg_none_of KX G ?_;k_is))
    (case SG=>(refine'⟨mg_of KX G ?a,L2.kdJ ?b ?c,?d⟩;(case a|b=>k_is);(case c=>k_keys);(case d=>rintro z (rfl|rfl|rfl|rfl)<;>(refine' L2.sgJ ?a ?l ?s ?v;(case a=>k_is);(case l=>k_is);(case s=>decide);(case v=>(repeat(first|exact .nil|refine' .cons ⟨_,cm⟩ ?_)))))))
    (case ne=>decide)
    (case eS|bp|k9|m8|m6|k8|bh=>(refine'⟨mg_of KX G ?a,L2.exK ?b ?c ?d ?e ?f ?g⟩;(case a|c|d|e|f|g=>k_is);(case b=>k_exc)))
    (case vf|ju|uf|xm=>(refine' mg_of KX G ?_;k_is))
    (case tH=>(refine'⟨mg_of KX G ?a,L2.Mx ?l ?s ?v⟩;(case a=>k_is);(case l=>k_is);(case s=>decide);(case v=>(repeat(first|exact .nil|refine' .cons ⟨_,cm⟩ ?_)))))
    (case Gr|Ee|IB|Ef|MM=>(refine'⟨L2.exK ?b ?c ?d ?e ?f ?g,?h,?i,?j,?k,?l,?m,?n,?o⟩;(case c|d|e|f|g|h=>k_is);(case b=>k_exc);(case i|j|k|l|m|n|o=>kit_is)))
  case C=>exact λw t ht=>(bH.mp ht).elim (λz=>by subst z;exact⟨by kernel_rfl,by kernel_rfl⟩) (λz=>by rw[cJ.mp z];exact⟨by kernel_rfl,by kernel_rfl⟩)
