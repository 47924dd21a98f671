import PyProof.Rows.All
import Wide.All
import OpenK.AllK
import Wide.FinOn
import Lean
import PyProof.EqAt
import PyProof.EqKinds
import PyProof.TupleCall
import PyProof.NeData
import PyProof.ZipIter
import KE.KIntText
import PyProof.Rows.StrSplitAre
import PyProof.Rows.StrJoin2
import PyProof.StrWalks
import PyProof.StrLawsChain
import PyProof.StrLawsTight
import PyProof.Rows.StrItems
import PyProof.Rows.ReprOcc
import PyProof.EnumMake
import PyProof.EnumFor
import KE.KMinKey
import KE.KUnpack
import KE.KNestM
import PyProof.AssignAttr
import KE.KSortTup
import PyProof.ListRange
import PyProof.CollectWalk
import KE.KLam
import PySem.Challenge.RW_rimhouse_k39_whole_desks_and_kept
set_option Elab.async false
set_option compiler.extract_closed false
set_option genSizeOf false
set_option maxHeartbeats 16000000
set_option linter.all false
set_option maxRecDepth 100000
noncomputable section
open Array renaming append_assoc->sM,length_toList->lO,toList->sQ,getElem?_toList->qW,getD->bI,getD_eq_getD_getElem?->Sc
open Bool renaming false_ne_true->cX,eq_iff_iff->iD,or_false->mG,and_eq_true->fQ,false_eq_true->uT,or_eq_true->qY,eq_false_iff->eN,not_not->xO,and_true->Rw,not_eq_true'->yL
open Char renaming toNat->rP
open Classical renaming byContradiction->lF,propDecidable->xU,choose_spec->Pi
open Eq renaming symm->sG
open False renaming elim->eD
open ForInStep renaming yield->oB
open Iff renaming rfl->pC
open Int renaming mul_one->jF,fdiv_eq_ediv_of_nonneg->sZ,toNat_natCast->cF,le_of_lt->cC,gcd->rT,natCast_nonneg->vS,le_of_dvd->wG,dvd_mul_of_dvd_left->wH,mul_ediv_cancel_left->wI,mul_nonneg->eO,mul_neg->fT,mul_ediv_cancel'->wJ,mul_dvd_mul_left->wK,natAbs_mul->rV,natAbs_dvd_natAbs->wL,mul_comm->bX,eq_of_mul_eq_mul_right->rW,mul_pos->gJ,le_refl->dL,mul_add->kZ,mul_sub->lC,mul_assoc->cG,add_mul->fG,mul_zero->cW,one_mul->lE,sub_mul->pA,neg_mul->iJ,zero_mul->gY,mul_eq_zero->pB,mul_le_mul->wZ,mul_le_mul_of_nonneg_right->fH,add_zero->gK,mul_le_mul_of_nonneg_left->jU,le_of_mul_le_mul_right->mW,le_trans->xA,zero_add->lH,emod_nonneg->fN,emod_lt_of_pos->eG,toNat_of_nonneg->sA,lt_of_le_of_lt->pI,natAbs_neg->iV,add_sub_cancel->xG,lt_of_lt_of_le->pL,eq_ofNat_of_zero_le->jZ
open List renaming getElem?_eq_none_iff->sL,range->aW,mem_filter->lI,filterMap_cons->pY,mem_cons_self->cY,mem_cons_of_mem->bZ,mem_cons->bH,mem_append->bJ,mem_append_left->fW,getElem?_eq_some_iff->cA,getElem?_set_self->eK,getElem?_set_ne->dP,set_comm->kJ,mem_filterMap->nK,mem_append_right->eL,size_toArray->bY,length_cons->eM,lookup->iS,map_cons->cS,length_map->aH,append_nil->fP,nodup_cons->nU,of_mem_zip->nV,replicate->aQ,length->iT,length_take->cI,getElem?_append_right->dU,getElem?_replicate->gD,getElem?_append_left->dH,getElem?_map->aP,getElem?_take_of_lt->tM,mem_of_getElem?->bK,length_append->aX,length_replicate->bP,length_drop->eJ,length_set->eE,all_cons->uE,any_cons->jM,replicate_succ->eZ,flatten_cons->gE,foldl->jN,append_assoc->dC,length_singleton->fR,eraseIdxIfInBounds_toArray->uL,nil_append->gG,map_nil->jY,forIn_cons->oA,lookup_cons->eU,mem_singleton->cJ,cons_append->fD,all_eq_true->fE,getD_eq_getElem?_getD->bA,getElem?_eq_getElem->aS,forIn_nil->qZ,getElem_of_mem->rB,mem_range->fF,getElem_mem->eF,any_eq_true->mK,take_succ_eq_append_getElem->vA,sum_append->vB,take_of_length_le->fZ,getElem?_eq_none->bW,length_pos_iff->vC,getElem?_range->cU,take_succ->rC,map_append->bQ,mem_map->aY,map_eq_nil_iff->rR,zipIdx_cons->vX,zipIdx_nil->vY,not_mem_nil->dJ,zipWith->cV,ext_getElem?->dR,length_zipWith->jS,take_length->wO,filter_append->wS,length_filter_le->oX,drop_zero->oY,range_succ_eq_map->wT,map_map->bC,length_nil->lD,map_congr_left->fM,drop_eq_getElem_cons->wU,take_append_drop->wV,getElem?_drop->wW,set_set->wX,length_range->gZ,mem_or_eq_of_mem_set->pD,map_set->rZ,getElem?_zipWith->mX,range_succ->pE,mem_set->xE,map_take->pG,map_drop->pH,mem_replicate->lL,sum_cons->dW,zipWith_cons_cons->eW,take_succ_cons->xH,drop_succ_cons->xI,eq_nil_of_length_eq_zero->lM,dropLast_concat_getLast->xJ,map->xK,take_left'->pK,take_take->xL,getElem?_of_mem->iL,mem_of_mem_take->fV,mem_of_mem_drop->fK,any_map->lN,map_id->xS,drop_left'->xT,forIn_toArray->hX,any_nil->yF,eq_nil_or_concat->yH,concat_eq_append->yI,nodup_range->Sa,ext_getElem->Tl,append_inj'->To
open List.Pairwise renaming nil->Ai,map->aAB
open List.Perm renaming refl->Ty
open List.cons renaming inj->kS
open Nat renaming lt_of_lt_of_le->bS,lt_irrefl->dO,ne_of_lt->dB,le_trans->bF,le_of_lt->gQ,ne_of_gt->gR,le_refl->aT,zero_le->dM,lt_succ_self->jJ,le_succ->lW,succ_mul->mI,mul_comm->qX,le_of_not_lt->uV,lt_of_le_of_lt->gU,lt_succ_of_lt->mJ,lt_of_succ_le->uU,log2_lt->mO,toDigits->jQ,strongRecOn->vP,digitChar->vQ,toDigits_ne_nil->vR,le_add_right->kW,min_eq_left->jT,mul_le_mul->rY,pow_succ->wY,le_antisymm->xB,pow_le_pow_right->lG,not_lt_zero->xC,sub_self->gL,pow_add->xF,add_assoc->sB,pow_pos->sC,mul_le_mul_right->pJ,add_sub_cancel_left->gO,pow_lt_pow_right->xM,add_le_add_right->kC,min_le_left->sF
open Ne renaming symm->bV
open Option renaming getD_none->uC,none->uS,getD_some->iG,map_some->jV,map_eq_some_iff->fL
open Option.some renaming inj->bD
open Or renaming inl->aI,inr->fY
open PyProof.Rows renaming IsTup->gP,AllBare->jC,Constant_none->sN,isTrue_plain->sP,assignInOrder_nil->sR,assignInOrder_cons->qD,callWith_type1->nJ,floordiv_int->sY,envOfC->dQ,callWith_builtin1->zQ,subscriptTail_builtinR->tZ,IntsAre->Do,JoinedStr_many->rH,joinParts_cons->kP,FormattedValue_plain->oG,formatField_int_small->oH,joinParts_nil->rJ,joinParts_nilE->vL,joinParts_consE->oM,formatField_str->vO,IsTupIter->iU,slot_tupleiter_next->oP,entry_tupleiter_next->vT,args_tupleiter_next->vU,get?_update_seq->wP,callWith_kw->Ak,envOfC->cD,boot_list->fJ,boot_range->xD,boot_int->lJ,boot_max->pF,boot_min->mY,boot_tuple->hU,boot_str->iB,boot_any->xN,boot_sum->xR,boot_isinstance->gB,boot_bool->An,boot_all->xV,part_short->Ao,split_weight->xX,getElem?_bubble->Da,listUpdate_at->hW,listItems_at->Tm
open PyProof.Rows.Boot renaming abs->Al
open PyProof.Rows.IsTup renaming new->nD
open PySem renaming Str->aC,Value->aE,World->aL,Program->aM,Addr->aA,Paired->aZ,Heap->aJ,Within->pW,Around->aV,Shared->aG,Scope->cQ,Model->jD,Expr->aR,Stmt->aO,wpAny_mono->eY,wpAny_Name->pZ,wpAny_truthy_bool->gC,wpAny_execs_nil->lP,wpAny_execs_cons->qA,wpAny_assign_Name->qC,wpAny_bind->aN,wpAny_holding->iP,wpAny_standAt->iQ,wpAny_pure->bG,wpAny_newObj_type->lQ,wpAny_rule->lR,wpAny_bindName->sS,PassesOwn->qG,wpAny_passesOwn->jE,wpAny_load->nE,wpAny_pyIter_list->nF,wpAny_pyIter_tuple->sT,rangeSize_one->sV,call_range_1->sW,intBits_le_64->sX,CmpOp->lS,sizeLine_eq->bE,wpAny_loadPart->tF,Result->jH,FuncData->aK,BindsTo->lU,wpAny_call->lV,codeAny_mono->nR,wpAny_Call_Name_kw->jK,Keyword->lX,NameKind->jL,name_of_addr->tL,mem_of_lookup->lY,Arguments->kO,codeAny_call_function->tN,wpAny_newFunctionEnv_cells->tQ,codeAny_func->tR,concat_meets->tS,noFill_tuple_add->tT,seq_tuple_add->tU,evalPart_none->tY,seqIndex_of->qQ,seqIndex_neg->qR,typeIs_str->mD,call_list_seq->uG,PlainAttrs->qS,call_meets->gF,fitsIndex_both->uM,wpAny_binaryOp_repeat_ref->uN,typeIs_int->nX,Params->gN,call->Fa,pushCells_keeps->uX,eval_ListComp->uY,wpAny_comprehension_free->oC,exec_Assign_Name_used->uZ,PyData->dI,ZipApart->jO,strLen_append->kQ,int_text_length_le->oJ,ofString_length->oK,Str->dZ,numbered_texts->vM,wpAny_callSpecial?_slot->oO,wpAny_call_entry->oQ,wpAny_field->gA,wpAny_seqItems->gX,wpAny_setField->vV,IsZip->eV,IsPair->dN,Builtin->iH,wpAny_setField_rec->kU,wpAny_onRaise->mV,wpAny_updateSeq_pair->rS,wpAny_letGo->jR,Fin->oF,wpAny_attempt->wA,wpAny_pyIter_zip->wE,wpAny_pyIter_enum->wF,codeAny_builtin->rE,wpAny_tryCatch->kY,wpAny_updateSeq->rX,wpAny_evalAll_cons->wR,Paired->bR,boot_len->bB,DictEntry->mZ,intText_digits->xQ,IsEnumOut->mH,Pos->pM
open PySem.Around renaming under->qK,frames_deeper->qP,under_plainId->wN
open PySem.AutoListH renaming list___mul___list_int_3->Ah
open PySem.Builtin.Builtins renaming bindParams->wQ
open PySem.Builtin.Int renaming intBits->vE
open PySem.Builtin.List renaming listTooLong->qV,listExtendWith->Wp
open PySem.Builtin.Range renaming rangeSize->sU,small->Uf
open PySem.Builtin.SmallTypes renaming nextOf->gH,ownedTupleIsFree->oR,ownedTupleHandOut->vZ,calledThroughType->Ps
open PySem.Builtin.Str renaming occurrences->jG
open PySem.Calls renaming Name_function_global->sO,callWith_builtin->uH,evalArgs_plain->uI
open PySem.CmpOf renaming ints_lt->vD
open PySem.Code renaming frames->tK,isFrame->qL
open PySem.Data renaming dict->Ix
open PySem.DictEntry renaming refKey->tD
open PySem.Env renaming kindOf->uW
open PySem.EqMixed renaming eq_bool_str->yY,eq_int_str->zA,eq_str_bool->zC,eq_str_int->zD,ne_bool_str->zJ,ne_int_str->zL,ne_str_bool->zN,ne_str_int->zO
open PySem.EqNone renaming eq_none_none->yT,eq_none_bool->yU,eq_none_int->yV,eq_none_str->yW,eq_bool_none->yX,eq_int_none->yZ,eq_str_none->zB,ne_none_none->zE,ne_none_bool->zF,ne_none_int->zG,ne_none_str->zH,ne_bool_none->zI,ne_int_none->zK,ne_str_none->zM
open PySem.F renaming slot_tuple_add->tV,entry_tuple_add->tW,args_tuple_add_2->tX,slot_list_pop->uJ,entry_list_pop->uK,fills_int_mul->uO,slot_int_rmul->nY,slot_int_index->uP,entry_int_rmul->uQ,args_int_rmul_2->uR,slot_str_split->rL,entry_str_split->rN,args_str_split_2->rO,slot_zip_next->oS,entry_zip_next->wB,args_zip_next_1->wC,entry_min_loop->wM,plain_min_loop->kX,plainAttrs_list->iK,slot_list_append->jW,type_list_append->jX,plainAttrs_str->eP,slot_str_join->hZ,type_str_join->iA,slot_enumerate_next->cL,entry_enumerate_next->Re,args_enumerate_next_1->Rs,slot_str_split->iW,type_str_split->iX,slot_list_pop->yJ,type_list_pop->yK,slot_bool_lt->Sy,plain_list_iadd->Tk
open PySem.Heap renaming lt_size->bN,SameBut->kH,get?_push_of_some->bL,get?_push_size->dG,size_push->gS,get?_update_self->uA,get?_update_other->uB,FlyingW->vH,ExtBut->mU
open PySem.Heap.IsSliceOf renaming new->zR
open PySem.Heap.SameBut renaming update->mS
open PySem.IsL renaming update->Ag
open PySem.NameKind renaming free->fC,cell->iF
open PySem.NumText renaming digitsVal->rQ,digitsVal->Am,AllDigits->xP
open PySem.Obj renaming mapSeq->gT,data_mapFields->vW
open PySem.Paired renaming length->dE
open PySem.PassesOwn renaming never->hO
open PySem.PyData renaming eqv->cK,int->gM,canLayAll0->cP,canLay0->fU,eqvAll->hV,depth->iY,depthAll->iC,str->sE
open PySem.SeqAt renaming EqAt->uD,in_listAt->uF,readOf->xW
open PySem.SeqAt.EqAt renaming int_str->sI,str_int->sJ,same->zS,none_bool->zT,none_int->zU,none_str->zV,bool_none->zW,bool_bool->zX,bool_int->zY,bool_str->zZ,int_none->Aa,int_bool->Ab,int_int->Ac,str_none->Ad,str_bool->Ae,str_str->Af
open PySem.Shared renaming heap->wD
open PySem.Str renaming empty->eI,ofString->cN,mk->oN,join->cO
open PySem.StrLaws renaming join_split->mQ,join_length_le->sD
open PySem.Txt renaming split->aU,join->vN
open PySem.Value renaming int->iM,str->jB,none->iN,bool->pT,bytes->sK,float->pU,ref->cZ,type->pV
open PySem.Value.ref renaming inj->rG
open PySem.W renaming instObj->iO,methodObj->pX,hideAll_get->vJ,Frag->aF,lookIn->nL,plainGet->kK,hasDictIn->lT,findIn->bO,handedIn->tE,plainGet_of->qH,isFn->qI,plainOver->nN,takerIn->qJ,makesIn->nQ,emptyDict->iR,specialIn->tG,keepIn->dX,mroIn->dY,kitOne->bU,kia_one->fX,kitx_list->tH,kitx_tuple->tI,kitx_dict->tJ,callWith_K->kM,methodCall_KW->qM,cellsFrom_some->qO,fnOf->iE,codeIn->lZ,codeRec_of->tO,OpenLaw->Ev,Frag->fA,findIn->iI,mroIn->gW,kla_obj->oU,CodeHd->oV,tabObj->oW,KeysLit->lK,nsIn->bM,tabObj->Db,codeHdIn->No,codeHd_of_K->On,kas_asc->mM,kas_desc->oT,kas_rev->cR,kas_descPart->Sj,kas_place->Bi,kas_bin->fB,kat_cons->Kn,kat_yes->Op,keepIn->pR
open PySem.W.KasT renaming kasWp_bind->cE,kasWp->Sk
open PySem.W.WData renaming int->Fk
open PySem.W.WShape renaming has->Go
open PySem.Walks renaming list->rA
open PySem.Within renaming cons->zP
open Sum renaming inl->iZ,inr->jA
open True renaming intro->jI
inductive Ev2{α:Sort u}{β:Sort v}(p:α->β->Prop):Prop|mk(a b)(h:p a b):Ev2 p
inductive Ev3{α:Sort u}{β:Sort v}{γ:Sort w}(p:α->β->γ->Prop):Prop|mk(a b c)(h:p a b c):Ev3 p
inductive Ev4{α:Sort u}{β:Sort v}{γ:Sort w}{δ:Sort x}(p:α->β->γ->δ->Prop):Prop|mk(a b c d)(h:p a b c d):Ev4 p
inductive Ev5{α:Sort u}{β:Sort v}{γ:Sort w}{δ:Sort x}{ε:Sort y}(p:α->β->γ->δ->ε->Prop):Prop|mk(a b c d e)(h:p a b c d e):Ev5 p
inductive Ev6{α:Sort u}{β:Sort v}{γ:Sort w}{δ:Sort x}{ε:Sort y}{ζ:Sort z}(p:α->β->γ->δ->ε->ζ->Prop):Prop|mk(a b c d e f)(h:p a b c d e f):Ev6 p
namespace L2
open PySem PySem.Spec PyProof.Rows
abbrev Key:=Sum Int aC
def b6n:Key->aE->Bool
 |.inl k,v=>Value.isInt k v
 |.inr x,v=>Value.isStrOf x v
def c1s(w:aL):Key->Int
 |.inl k=>hashInt k
 |.inr x=>hashStr w x
theorem G8:∀{k}{v},b6n k v=true->(Ev2 λi t=>k=iZ i/\v=iM i t)\/(Ev2 λx t=>k=jA x/\v=jB x t)
 |.inl i,v,h=>by
  obtain⟨t,e⟩:=Value.isInt_shape h;exact .inl ⟨i,t,rfl,e⟩
 |.inr x,v,h=>by
  obtain⟨t,e⟩:=Value.isStrOf_shape h;exact .inr ⟨x,t,rfl,e⟩
theorem b7T a b:decide ((iZ a:Key)=iZ b)=(a==b):=by
 by_cases e:a=b
 ·subst e;simp
 ·rw[decide_eq_false (λq=>e (Sum.inl.inj q))];exact(beq_eq_false_iff_ne.mpr e).symm
theorem b6M a b:decide ((jA a:Key)=jA b)=decide (a=b):=by simp
theorem b7D a b:decide ((iZ a:Key)=jA b)=false:=decide_eq_false λq=>nomatch q
theorem b6Z a b:decide ((jA a:Key)=iZ b)=false:=decide_eq_false λq=>nomatch q
def Tb(prog:aM)(w:aL):PySem.KeyKind prog w Key where
 is:=b6n
 hash:=c1s w
 inj:=λv a b ha hb=>by
  rcases G8 ha with⟨i,t,rfl,rfl⟩|⟨x,t,rfl,rfl⟩
  ·rcases G8 hb with⟨j,u,rfl,e⟩|⟨y,u,rfl,e⟩
   ·injection e with e1 _;rw[e1]
   ·exact nomatch e
  ·rcases G8 hb with⟨j,u,rfl,e⟩|⟨y,u,rfl,e⟩
   ·exact nomatch e
   ·injection e with e1 _;rw[e1]
 byValue:=λk v h=>by
  rcases G8 h with⟨i,t,rfl,rfl⟩|⟨x,t,rfl,rfl⟩<;>rfl
 pyHash:=λhv h=>by
  rcases G8 hv with⟨i,t,rfl,rfl⟩|⟨x,t,rfl,rfl⟩
  ·exact wpAny_pyHash_int h
  ·exact wpAny_pyHash_str h
 eqBool:=λhu hv h=>by
  rcases G8 hu with⟨i,t,rfl,rfl⟩|⟨x,t,rfl,rfl⟩
  ·rcases G8 hv with⟨j,u,rfl,rfl⟩|⟨y,u,rfl,rfl⟩
   ·rw[b7T] at h;exact wpAny_eqBool_int h
   ·rw[b7D] at h;exact sI i t y u _ _ _ _ h
  ·rcases G8 hv with⟨j,u,rfl,rfl⟩|⟨y,u,rfl,rfl⟩
   ·rw[b6Z] at h;exact sJ x t j u _ _ _ _ h
   ·rw[b6M] at h;exact wpAny_eqBool_str h
 «strs»:=λk x t v h=>by
  rcases G8 h with⟨i,u,rfl,e⟩|⟨y,u,rfl,e⟩
  ·exact nomatch e
  ·injection e with e1 _
   subst e1
   cases v<;>rfl
inductive V where
 |non|bl (b:Bool)|int (i:Int)|str (x:aC)|Bv (b:Array UInt8)|Jt (b:UInt64)|ref (a:aA)|ty (n:String)
 deriving DecidableEq
def RelV:V->aE->Prop
 |.non,u=>u=iN
 |.bl b,u=>u=pT b
 |.int i,u=>∃t,u=iM i t
 |.str x,u=>∃t,u=jB x t
 |.Bv b,u=>∃t,u=sK b t
 |.Jt b,u=>∃t,u=pU b t
 |.ref a,u=>u=cZ a
 |.ty n,u=>u=pV n
abbrev Vals:List V->List aE->Prop:=aZ RelV
def Vals.length(r:Vals xs us):xs.length=us.length:=dE r
theorem Vals.get:∀{xs}{us}{i:Nat}{x},Vals xs us->xs[i]?=some x->∃u,us[i]?=some u/\RelV x u
 |_,_,_,_,.nil,e=>by simp at e
 |_,_,0,_,.cons r _,e=>by simp at e;subst e;exact⟨_,rfl,r⟩
 |_,_,i+1,x,.cons _ t,e=>by
  obtain⟨u,h1,h2⟩:=Vals.get t (by simpa using e);exact⟨u,by simpa using h1,h2⟩
theorem Vals.set(r:RelV x u):∀{xs}{us}i,Vals xs us->Vals (xs.set i x) (us.set i u)
 |_,_,_,.nil=>.nil
 |_,_,0,.cons _ t=>.cons r t
 |_,_,i+1,.cons q t=>.cons q (Vals.set r i t)
theorem Vals.append:∀{xs ys}{us ws},Vals xs us->Vals ys ws->Vals (xs++ys) (us++ws)
 |_,_,_,_,.nil,s=>s
 |_,_,_,_,.cons r t,s=>.cons r (Vals.append t s)
theorem Vals.take:∀{xs}{us}n,Vals xs us->Vals (xs.take n) (us.take n)
 |_,_,0,_=>.nil
 |_,_,_+1,.nil=>.nil
 |_,_,n+1,.cons r t=>.cons r (Vals.take n t)
theorem Vals.drop:∀{xs}{us}n,Vals xs us->Vals (xs.drop n) (us.drop n)
 |_,_,0,r=>r
 |_,_,_+1,.nil=>.nil
 |_,_,n+1,.cons _ t=>Vals.drop n t
theorem Vals.none_of:∀{xs}{us}{i:Nat},Vals xs us->xs[i]?=none->us[i]?=none:=λ{xs us i}r e=>by
 have h1:=r.length;have h2:xs.length<=i:=sL.mp e;exact sL.mpr (by lia)
def uj:Option V->Option aE->Prop
 |some v,some u=>RelV v u
 |none,none=>True
 |_,_=>False
def KV:List (κ×V)->List (κ×Value)->Prop:=aZ λp q=>p.1=q.1/\RelV p.2 q.2
def kV:Key->V
 |.inl i=>.int i
 |.inr x=>.str x
inductive HO where
  |lst (xs:List V)
  |tup (xs:List V)
  |dK (dz:List (Key×V))|dT (dz:List (List Key×V))
  |set (S:Int->Bool) (n:Nat)
  |ins (C dx:aA) (fs:List (aC×V))
  |own (x:aA)
  |xd (fs:List (aC×V))
  |met (f x:aA)
  |zt (lo hi:Int)
  |Bw (o:Obj) (u:HO)
  |my (ps:Array aE)
  |ext (φ:aJ->Prop)
abbrev Hp:=aA->Option HO
def upd(H:Hp)(a:aA)(o:HO):Hp:=λb=>if b=a then some o else H b
theorem ae:upd H a o a=some o:=by unfold upd;rw[if_pos rfl]
theorem j3(h:b≠a):upd H a o b=H b:=by unfold upd;rw[if_neg h]
theorem Ju:upd (upd H a o) a u=upd H a u:=by
 funext b;unfold upd;split<;>rfl
theorem J7{H:Hp}(h:H a=some o)(h':H b=some u)(d:o≠u):a≠b:=by
 intro e;subst e;rw[h] at h';exact d (bD h')
theorem i7{H:Hp}(h:H a=some o)(h':H b=none):a≠b:=by lia
section
variable(P:aM)(w:aL)
def dh(H:Hp)(h:aJ)(a:aA):HO->Prop
 |.lst xs=>xs.length<=sizeLine/\Ev2 λits n=>Vals xs its/\h.get? a=some {cls:=.type "list",data:=.seq its.toArray n}
 |.tup xs=>xs.length<=sizeLine/\∃its,Vals xs its/\gP h a its.toArray
 |.dK dz=>dz.length<=sizeLine/\(a==sysModules)=false/\∃vs,KV dz vs/\h.DictOf (Tb P w) a vs
 |.dT dz=>dz.length<=sizeLine/\(a==sysModules)=false/\∃xs,
   aZ (λp q=>p.1=q.1/\H q.2.1=some (.tup (p.1.map kV))/\RelV p.2 q.2.2) dz xs/\
   Ev3 λo es ep=>h.get? a=some o/\o.ExactDict/\o.data=.dict es ep/\es.toList=xs.map (entryOfKey (tupleKind (Tb P w)))/\(xs.map (·.1)).Nodup
 |.set S n=>h.SetOf (intKind P w) a S n
 |.ins C dx fs=>H dx=some (.own a)/\fs.length<=1000/\dx≠a/\h.get? a=some (iO C dx)/\
   ∃mA,h.Ns1 dx mA/\(∀f,uj (fs.lookup f) (mA f))/\pW mA (fs.map (·.1))
 |.own _=>∃o,h.get? a=some o
 |.xd fs=>∃mA,h.Ns1 a mA/\∀f,uj (fs.lookup f) (mA f)
 |.zt lo hi=>Ev3 λt u v=>h.get? a=some {cls:=.type "range",data:=.fields #[.int lo t,.int hi u,.int 1 v]}
 |.Bw o u=>h.get? a=some o/\dh H h a u
 |.my ps=>h.get? a=some {cls:=.none,data:=.fields ps}
 |.met f x=>h.get? a=some (pX (.ref f) (.ref x))
 |.ext φ=>φ h/\(∃o,h.get? a=some o)/\∀h1 h2,φ h1->(∀o,h1.get? a=some o->h2.get? a=some o)->φ h2
def mz(H:Hp)(h:aJ):Prop:=∀a o,H a=some o->dh P w H h a o
end
section
variable{P:aM}{w:aL}{H H':Hp}{h h':aJ}{a:aA}{o:HO}
theorem dh.lt(x:dh P w H h a o):a<h.objs.size:=by
 cases o with
 |lst xs=>obtain⟨_,_,_,_,e⟩:=x;exact bN e
 |tup xs=>obtain⟨_,_,_,p⟩:=x;exact p.lt
 |dK dz=>obtain⟨_,_,_,_,o,_,_,e,_⟩:=x;exact bN e
 |dT dz=>obtain⟨_,_,_,_,o,_,_,e,_⟩:=x;exact bN e
 |set S n=>obtain⟨o,_,_,_,e,_⟩:=x;exact bN e
 |ins C dx fs=>obtain⟨_,_,_,e,_⟩:=x;exact bN e
 |own y=>obtain⟨_,e⟩:=x;exact bN e
 |xd fs=>obtain⟨_,⟨_,_,_,e,_⟩,_⟩:=x;exact bN e
 |zt lo hi=>obtain⟨_,_,_,e⟩:=x;exact bN e
 |Bw ob u=>obtain⟨e,_⟩:=x;exact bN e
 |my ps=>exact bN (show h.get? a=some _ from x)
 |met f y=>exact bN (show h.get? a=some _ from x)
 |ext φ=>obtain⟨_,⟨_,e⟩,_⟩:=x;exact bN e
theorem aZ.Jv:∀{l₁}{gi:List β},aZ F l₁ gi->(∀a b,F a b->G a b)->aZ G l₁ gi
 |_,_,.nil,_=>.nil
 |_,_,.cons r t,f=>.cons (f _ _ r) (aZ.Jv t f)
def aZ.imp'{G:α->β->Prop}(f:∀a b,F a b->G a b)(r:aZ F l₁ gi):aZ G l₁ gi:=aZ.Jv r f
theorem dh.rf(x:dh P w H h a o)(k:∀b u,(b=a\/H b=some (.own a))->h.get? b=some u->h'.get? b=some u)
  (ho:∀b,H b=some (.own a)->H' b=some (.own a)) (ht:∀b xs,H b=some (.tup xs)->H' b=some (.tup xs)):dh P w H' h' a o:=by
 induction o with
 |lst xs=>obtain⟨z,its,n,r,e⟩:=x;exact⟨z,its,n,r,k _ _ (.inl rfl) e⟩
 |tup xs=>obtain⟨z,its,r,ob,e,c⟩:=x;exact⟨z,its,r,ob,k _ _ (.inl rfl) e,c⟩
 |dK dz=>obtain⟨z,y,vs,r,ob,es,ep,e,c⟩:=x;exact⟨z,y,vs,r,ob,es,ep,k _ _ (.inl rfl) e,c⟩
 |dT dz =>
  obtain⟨z,y,xs,r,ob,es,ep,e,c⟩:=x;exact⟨z,y,xs,aZ.Jv r λp q z=>⟨z.1,ht _ _ z.2.1,z.2.2⟩,ob,es,ep,k _ _ (.inl rfl) e,c⟩
 |set S n=>obtain⟨ob,es,ep,t,e,c⟩:=x;exact⟨ob,es,ep,t,k _ _ (.inl rfl) e,c⟩
 |ins C dx fs =>
  obtain⟨d,z,ne,e,mA,⟨od,es,ep,e2,c⟩,r⟩:=x;exact⟨ho _ d,z,ne,k _ _ (.inl rfl) e,mA,⟨od,es,ep,k _ _ (.inr d) e2,c⟩,r⟩
 |own y=>obtain⟨ob,e⟩:=x;exact⟨ob,k _ _ (.inl rfl) e⟩
 |xd fs=>obtain⟨mA,⟨od,es,ep,e,c⟩,r⟩:=x;exact⟨mA,⟨od,es,ep,k _ _ (.inl rfl) e,c⟩,r⟩
 |zt lo hi=>obtain⟨t,u,v,e⟩:=x;exact⟨t,u,v,k _ _ (.inl rfl) e⟩
 |Bw ob u ih=>obtain⟨e,q⟩:=x;exact⟨k _ _ (.inl rfl) e,ih q⟩
 |my ps =>
  have e:=x
  exact k a _ (.inl rfl) e
 |met f y =>
  have e:=x
  exact k a _ (.inl rfl) e
 |ext φ=>obtain⟨p,⟨o,e⟩,st⟩:=x;exact⟨st _ _ p λo q=>k _ _ (.inl rfl) q,⟨o,k _ _ (.inl rfl) e⟩,st⟩
def mz.lt(x:mz P w H h)(e:H a=some o):a<h.objs.size:=(x a o e).lt
theorem mz.fresh(x:mz P w H h)(e:h.objs.size<=a):H a=none:=by
 cases q:H a with
 |none=>rfl
 |some u=>exact absurd (bS (x.lt q) e) (dO _)
def mz.kept(x:mz P w H h)(k:∀b u,h.get? b=some u->h'.get? b=some u):mz P w H h':=λa o e =>
 (x a o e).rf (λb u _ q=>k b u q) (λ_ q=>q) λ_ _ q=>q
theorem mz.laid(x:mz P w H h)(k:∀b u,h.get? b=some u->h'.get? b=some u)(hp:h.objs.size<=a)(new:dh P w (upd H a o) h' a o):mz P w (upd H a o) h':=λb u e=>by
 have hn:=x.fresh hp
 by_cases hb:b=a
 ·subst hb;rw[ae] at e;cases e;exact new
 ·rw[j3 hb] at e
  exact(x b u e).rf (λc v _ q=>k c v q) (λc q=>by rw[j3 (i7 q hn)];exact q) λc xs q=>by rw[j3 (i7 q hn)];exact q
end
def Rd(H:Hp)(a:aA)(u:HO):Prop:=H a=some u\/∃o,H a=some (.Bw o u)
theorem Rd.ok(r:Rd H a u)(x:mz P w H h):dh P w H h a u:=by
 rcases r with r|⟨o,r⟩
 ·exact x a u r
 ·obtain⟨_,q⟩:=x a _ r
  exact q
def PL:Option HO->Prop
 |some (.lst _)=>True
 |some (.dK _)=>True
 |some (.dT _)=>True
 |some (.set _ _)=>True
 |some (.ins _ _ _)=>True
 |some (.ext _)=>True
 |_=>False
theorem mz.write(ok:mz P w H h)(mu:PL (H x))(he:e=x\/H e=some (.own x))(k:∀b u,b≠e->h.get? b=some u->h'.get? b=some u)(Ll:∃u,h'.get? e=some u)
  (new:dh P w (upd H x o') h' x o'):mz P w (upd H x o') h':=λb u q=>by
 have MQ:∀c y,H c=some (.own y)->c≠x:=λc y r z=>by subst z;rw[r] at mu;exact mu
 have Td:∀c xs,H c=some (.tup xs)->c≠x:=λc xs r z=>by subst z;rw[r] at mu;exact mu
 by_cases hb:b=x
 ·subst hb;rw[ae] at q;cases q;exact new
 ·rw[j3 hb] at q
  by_cases Jw:b=e
  ·have q':H b=some (.own x):=by
    rcases he with z|z
    ·exact absurd (Jw.trans z) hb
    ·rw[Jw];exact z
   rw[q] at q';cases q';obtain⟨v,hv⟩:=Ll;exact⟨v,by rw[Jw];exact hv⟩
  ·refine(ok b u q).rf (λc v hc r=>k c v ?_ r) (λc r=>by rw[j3 (MQ c b r)];exact r) λc xs r=>by rw[j3 (Td c xs r)];exact r
   rcases hc with rfl|hc
   ·exact Jw
   ·rintro rfl
    rcases he with z|z
    ·exact MQ c b hc z
    ·rw[hc] at z;cases z;exact hb rfl
structure Un(fs ex:List aA)(H H':Hp)(h h':aJ):Prop where
 keep:∀b o,h.get? b=some o->H b=none->b ∉ fs->b ∉ ex->h'.get? b=some o
 slot:∀b o,h.get? b=some o->H b=none->b∈fs->b ∉ ex->∃sl,h'.get? b=some {o with slots:=sl}
 free:∀b o,h.get? b=some o->H b=none->b ∉ ex->H' b=none
 there:∀b o,h.get? b=some o->b ∉ ex->∃o',h'.get? b=some o'
 pj:∀b xs,H b=some (.tup xs)->H' b=some (.tup xs)
 pw:∀b o u,H b=some (.Bw o u)->H' b=some (.Bw o u)
 pz:∀b ps,H b=some (.my ps)->∃more,H' b=some (.my (ps++more))
section
variable{fs fs' ex ex':List aA}{H H1 H2:Hp}{h h1 h2 h':aJ}{a x e:aA}{o:HO}
theorem Un.any(u:Un fs ex H H1 h h1)(q:h.get? b=some ob)(n:H b=none)(hx:b ∉ ex):∃sl,h1.get? b=some {ob with slots:=sl}:=by
 by_cases hb:b∈fs
 ·exact u.slot b ob q n hb hx
 ·exact⟨ob.slots,u.keep b ob q n hb hx⟩
theorem Un.kept(k:∀b u,h.get? b=some u->h'.get? b=some u):Un fs ex H H h h' :=
 ⟨λb ob q _ _ _=>k b ob q,λb ob q _ _ _=>⟨ob.slots,k b ob q⟩,λ_ _ _ n _=>n,λb ob q _=>⟨ob,k b ob q⟩,λ_ _ q=>q,λ_ _ _ q=>q,λ_ ps q=>⟨#[],by rw[q];simp⟩⟩
def Un.refl:Un fs ex H H h h:=Un.kept λ_ _ q=>q
theorem Un.laid(k:∀b u,h.get? b=some u->h'.get? b=some u)(hp:h.objs.size<=a)(hn:H a=none):Un fs ex H (upd H a o) h h' where
 keep:=λb u q _ _ _=>k b u q
 slot:=λb u q _ _ _=>⟨u.slots,k b u q⟩
 free:=λb u q n _=>by rw[j3 (dB (bS (bN q) hp))];exact n
 there:=λb u q _=>⟨u,k b u q⟩
 pj:=λb xs q=>by rw[j3 (i7 q hn)];exact q
 pw:=λb u xs q=>by rw[j3 (i7 q hn)];exact q
 pz:=λb ps q=>⟨#[],by rw[j3 (i7 q hn),q];simp⟩
theorem Un.write(mu:PL (H x))(he:e=x\/H e=some (.own x))(k:∀b u,b≠e->h.get? b=some u->h'.get? b=some u)(Ll:∃u,h'.get? e=some u):Un fs ex H (upd H x o) h h':=by
 have hx:∀b,H b=none->b≠x:=λb n z=>by subst z;rw[n] at mu;exact mu
 have hb:∀b,H b=none->b≠e:=λb n z=>by
  subst z;rcases he with r|r
  ·exact hx b n r
  ·rw[n] at r;cases r
 have hm:∀b u,H b=some u->¬PL (some u)->b≠x:=λb u q nm z=>by subst z;rw[q] at mu;exact nm mu
 refine⟨λb u q n _ _=>k b u (hb b n) q,λb u q n _ _=>⟨u.slots,k b u (hb b n) q⟩,λb u q n _=>by rw[j3 (hx b n)];exact n,λb u q _=>?_,
  λb xs q=>by rw[j3 (hm b _ q λz=>z)];exact q,λb u xs q=>by rw[j3 (hm b _ q λz=>z)];exact q,λb ps q=>⟨#[],by rw[j3 (hm b _ q λz=>z),q];simp⟩⟩
 by_cases Jw:b=e
 ·subst Jw;exact Ll
 ·exact⟨u,k b u Jw q⟩
end
def trk(h:aJ)(H:Hp):List aA:=(aW h.objs.size).filter λa=>(H a).isSome
def a0J(h:aJ)(H:Hp):aJ:=W.hideAll h (trk h H)
def c6X h H:(a0J h H).objs.size=h.objs.size:=W.hideAll_size _ _
theorem c6Z(e:h.get? b=some o)(n:H b=none):(a0J h H).get? b=some o :=
 vJ _ e λhm=>by
  have q:=(lI.mp hm).2;rw[n] at q;simp at q
theorem c7a(e:(a0J h H).get? b=some o):h.get? b=some o/\H b=none:=by
 have e':=W.of_hideAll (trk h H) e;refine⟨e',?_⟩
 cases q:H b with
 |none=>rfl
 |some x =>
  have hm:b∈trk h H:=lI.mpr ⟨List.mem_range.mpr (bN e'),by simp[q]⟩;have z:(a0J h H).get? b=none:=W.hideAll_none (trk h H) hm;rw[z] at e;cases e
def b4q(g h:aJ)(L:aA):List (aA×Obj):=(aW h.objs.size).filterMap λa=>if a=L\/(g.get? a).isSome=true then none else (h.get? a).map λo=>(a,o)
def rest(g h:aJ)(L d:aA):List (aA×Obj):=(b4q g h L).filter λp=>decide (p.1≠d)
structure Mod(K:aF)(mg:aC->Option aE)(base:aJ):Prop where
 zu:K.In base
 glob:base.Ns mainGlobals mg
 blt:∃mb,base.Ns builtinsNs mb/\∀x:aC,x≠"__name__"->mb x=bootBuiltins x
 nolimit:base.NoLimit
structure Cx where
 prog:aM
 w:aL
 K:aF
 mg:aC->Option aE
 base:aJ
 A:aV
 N:List aC
 s₀:aG
 H₀:Hp
 env:Env
 outer:List Env
 stack:List Env
 ex:List aA
 fn:aC->Bool
 calm:Bool
 pn:List (aA×Obj)
 xe:aE->aG->Prop
def uk(l:List Env):List aA:=l.filterMap (·.frame)
abbrev Cx.fs(X:Cx):List aA:=uk X.outer
def Te(sc:cQ)(x:aC):Prop:=sc.names.lookup x=some .local\/sc.names.lookup x=some .cell\/sc.names.lookup x=some .free
def Loc(sc:cQ)(x:aC):Prop:=sc.names.lookup x=some .local\/sc.names.lookup x=some .cell
def c0n(env:Env)(h:aJ)(m:aC->Option aE)(x:aC)(u:aE):Prop :=
 (env.kindOf x=some .local/\m x=some u)\/((env.kindOf x=some .cell\/env.kindOf x=some .free)/\∃c,env.cells.lookup x=some c/\h.IsCell c (some u))
structure Cx.Ok(X:Cx):Prop where
 mod:Mod X.K X.mg X.base
 kind:X.env.scope.kind=.function
 glob:X.env.globals=mainGlobals
 blt:X.env.builtins=builtinsNs
 above:X.s₀.heap.objs.size<=X.env.locals
 inj:∀x y c,X.env.cells.lookup x=some c->X.env.cells.lookup y=some c->x=y
 has:∀x,(X.env.kindOf x=some .cell\/X.env.kindOf x=some .free)->∃c,X.env.cells.lookup x=some c
 Gs:∀x c,X.fn x=true->X.env.cells.lookup x=some c->X.s₀.heap.objs.size<=c
 hd:X.calm=true->X.A.handled=none
 frames:X.A.frames=some X.stack
 GX:X.stack=X.outer\/(X.stack=X.env::X.outer/\X.env.frame=some X.env.locals)
 GY:∀b∈X.ex,b≠X.env.locals/\∀x c,X.env.cells.lookup x=some c->c≠b
 bs:∀b o,X.base.get? b=some o->X.s₀.heap.get? b=some o/\X.H₀ b=none
 xw:X.base.objs.size<=X.s₀.heap.objs.size
 um:∀b o,X.base.get? b=some o->b ∉ X.ex
 uo:∀b∈X.ex,b ∉ X.fs
 gx:X.s₀.heap.FunFrames X.base X.outer
 Cj:∀b∈X.fs,X.H₀ b=none
structure Inv(X:Cx)(pins:List (aA×Obj))(σ:List (Option V))(H:Hp)(s:aG):Prop where
 ok:X.Ok
 os:s.os=X.s₀.os
 bare:jC s.gens
 base:Un X.fs X.ex X.H₀ H X.s₀.heap s.heap
 loc:∃m,s.heap.Ns X.env.locals m/\∀(i:Nat)(x:aC)(v:V),X.N[i]?=some x->σ[i]?=some (some v)->Te X.env.scope x->∃u,RelV v u/\c0n X.env s.heap m x u
 cell:∀x c,X.env.cells.lookup x=some c->∃v,s.heap.IsCell c v
 free:H X.env.locals=none
 ee:∀x c,X.env.cells.lookup x=some c->H c=none
 pin:∀p∈X.pn++pins,s.heap.get? p.1=some p.2/\H p.1=none/\p.1≠X.env.locals/\p.1 ∉ X.fs/\∀v,p.2.data≠.cell v
 ck:mz X.prog X.w H s.heap
 len:σ.length=X.N.length
section
variable{X:Cx}{pins:List (aA×Obj)}{σ:List (Option V)}{H H':Hp}{s:aG}{h':aJ}
theorem Cx.Ok.Tf(ok:X.Ok)(e:X.base.get? b=some o):b ∉ X.fs:=λhb=>by
 have:=(ok.gx.mem hb).1;rw[e] at this;cases this
def Inv.bs(I:Inv X pins σ H s):∀b o,X.base.get? b=some o->s.heap.get? b=some o/\H b=none:=λb o e =>
 ⟨I.base.keep b o (I.ok.bs b o e).1 (I.ok.bs b o e).2 (I.ok.Tf e) (I.ok.um b o e),I.base.free b o (I.ok.bs b o e).1 (I.ok.bs b o e).2 (I.ok.um b o e)⟩
def Inv.bk(I:Inv X pins σ H s):∀b o,X.base.get? b=some o->s.heap.get? b=some o:=λb o e=>(I.bs b o e).1
def Inv.mod(I:Inv X pins σ H s):Mod X.K X.mg X.base:=I.ok.mod
def Inv.ix(I:Inv X pins σ H s):X.K.In s.heap:=I.ok.mod.zu.keeps I.bk
def Inv.nolimit(I:Inv X pins σ H s):s.heap.NoLimit:=I.ok.mod.nolimit.keeps I.bk
def Inv.fr(I:Inv X pins σ H s):∃m,Fr X.base X.env.locals s.heap m :=
 let ⟨m,hn,_⟩:=I.loc
 ⟨m,hn,I.bk,bF I.ok.xw I.ok.above⟩
def Inv.lt(I:Inv X pins σ H s):X.env.locals<s.heap.objs.size:=let ⟨_,hn,_⟩:=I.loc;hn.lt
def Inv.sz(I:Inv X pins σ H s):X.s₀.heap.objs.size<=s.heap.objs.size:=bF I.ok.above (gQ I.lt)
theorem Inv.Jx(I:Inv X pins σ H s){a:aA}(h:s.heap.objs.size<=a):a ∉ X.fs:=λhb=>by
 obtain⟨_,o,ho,_⟩:=I.ok.gx.mem hb;exact absurd (bS (bN ho) (bF I.sz h)) (dO _)
theorem Inv.ED(I:Inv X pins σ H s):∀x c,X.env.cells.lookup x=some c->c≠X.env.locals:=λx c e z=>by
 obtain⟨v,o,ho,hd⟩:=I.cell x c e;obtain⟨m,⟨o',es,ep,mj,zw,_⟩,_⟩:=I.loc;rw[z,mj] at ho;cases ho;rw[zw] at hd;cases hd
theorem Inv.gx(I:Inv X pins σ H s):s.heap.FunFrames X.base X.outer:=by
 have all:∀l,(∀b∈uk l,b∈X.fs)->X.s₀.heap.FunFrames X.base l->s.heap.FunFrames X.base l:=by
  intro l
  induction l with
  |nil=>intro _ _;trivial
  |cons env r ih =>
   intro hs hl;obtain⟨hk,⟨L,o,hf,hn,ho,hd⟩,hr⟩:=hl;have hL:=hs L (by unfold uk;rw[pY,hf];exact cY);obtain⟨sl,e⟩:=I.base.slot L o ho (I.ok.Cj L hL) hL λz=>I.ok.uo L z hL;exact⟨hk,⟨L,_,hf,hn,e,hd⟩,ih (λb hb=>hs b (by unfold uk;rw[pY,hf];exact bZ _ hb)) hr⟩
 exact all X.outer (λ_ hb=>hb) I.ok.gx
theorem Inv.stack(I:Inv X pins σ H s):s.heap.FunFrames X.base X.stack:=by
 rcases I.ok.GX with e|⟨e,hf⟩
 ·rw[e];exact I.gx
 ·rw[e]
  obtain⟨m,hn,_⟩:=I.loc;exact .cons (by rw[I.ok.kind];decide) hf hn (Heap.get?_none_of_le (bF I.ok.xw I.ok.above)) I.gx
theorem Inv.rg(I:Inv X pins σ H s):∀b∈uk X.stack,b∈X.env.locals::X.fs:=λb hb=>by
 rcases I.ok.GX with e|⟨e,hf⟩
 ·rw[e] at hb;exact bZ _ hb
 ·rw[e] at hb
  unfold uk at hb;rw[pY,hf] at hb;exact hb
theorem Inv.qm(I:Inv X pins σ H s):∀b∈uk X.stack,H b=none:=λb hb=>by
 rcases bH.mp (I.rg b hb) with e|hb
 ·rw[e];exact I.free
 ·obtain⟨_,o,ho,_⟩:=I.ok.gx.mem hb
  exact I.base.free b o ho (I.ok.Cj b hb) λz=>I.ok.uo b z hb
theorem Inv.step{ch:List aA}(I:Inv X pins σ H s)
  (Gu:∀b∈ch,(b∈X.ex\/X.s₀.heap.objs.size<=b)/\b≠X.env.locals/\(∀x c,X.env.cells.lookup x=some c->c≠b)/\∀p∈X.pn++pins,p.1≠b)
  (keep:∀b o,b≠X.env.locals->b ∉ X.fs->b ∉ ch->s.heap.get? b=some o->H b=none->h'.get? b=some o)
  (slot:∀b o,b≠X.env.locals->b∈X.fs->b ∉ ch->s.heap.get? b=some o->H b=none->∃sl,h'.get? b=some {o with slots:=sl}) (free:∀b o,b ∉ ch->s.heap.get? b=some o->H b=none->H' b=none)
  (there:∀b o,b ∉ ch->s.heap.get? b=some o->∃o',h'.get? b=some o')
  (pj:∀b xs,H b=some (.tup xs)->H' b=some (.tup xs)) (pw:∀b o u,H b=some (.Bw o u)->H' b=some (.Bw o u)) (pz:∀b ps,H b=some (.my ps)->∃more,H' b=some (.my (ps++more)))
  (ns:∀m,s.heap.Ns X.env.locals m->h'.Ns X.env.locals m) (ck:mz X.prog X.w H' h') (hg:jC g') :
  Inv X pins σ H' {s with heap:=h',gens:=g',drawn:=d',toks:=t'}:=by
 have neL:∀b o,X.s₀.heap.get? b=some o->b≠X.env.locals:=λb o e=>dB (bS (bN e) I.ok.above);have PM:∀b o,X.s₀.heap.get? b=some o->b ∉ X.ex->b ∉ ch:=λb o e hx hb=>by
  rcases(Gu b hb).1 with z|z
  ·exact hx z
  ·exact absurd (bS (bN e) z) (dO _)
 have cellK:∀x c,X.env.cells.lookup x=some c->∀v,s.heap.IsCell c v->h'.IsCell c v:=λx c e v ⟨o,ho,hd⟩=>by
  have MR:=λz=>(Gu c z).2.2.1 x c e rfl
  by_cases hc:c∈X.fs
  ·obtain⟨sl,q⟩:=slot c o (I.ED x c e) hc MR ho (I.ee x c e)
   exact⟨_,q,hd⟩
  ·exact⟨o,keep c o (I.ED x c e) hc MR ho (I.ee x c e),hd⟩
 refine⟨I.ok,I.os,hg,⟨λb o e n hb hx=>keep b o (neL b o e) hb (PM b o e hx) (I.base.keep b o e n hb hx) (I.base.free b o e n hx),λb o e n hb hx=>?_,λb o e n hx=>?_,λb o e hx=>?_,λb xs e=>pj b xs (I.base.pj b xs e),λb o xs e=>pw b o xs (I.base.pw b o xs e),λb ps e=>?_⟩,?_,λx c e=>?_,?_,λx c e=>?_,λp hp=>?_,ck,I.len⟩
 ·obtain⟨sl,e1⟩:=I.base.slot b o e n hb hx
  obtain⟨Tg,e2⟩:=slot b _ (neL b o e) hb (PM b o e hx) e1 (I.base.free b o e n hx);exact⟨Tg,e2⟩
 ·obtain⟨o',e1⟩:=I.base.there b o e hx
  exact free b o' (PM b o e hx) e1 (I.base.free b o e n hx)
 ·obtain⟨o',e1⟩:=I.base.there b o e hx
  exact there b o' (PM b o e hx) e1
 ·obtain⟨m1,e1⟩:=I.base.pz b ps e
  obtain⟨m2,e2⟩:=pz b _ e1;exact⟨m1++m2,by rw[e2,sM]⟩
 ·obtain⟨m,hn,hl⟩:=I.loc
  refine⟨m,ns m hn,λi x v e1 e2 e3=>?_⟩;obtain⟨u,r,l⟩:=hl i x v e1 e2 e3;refine⟨u,r,?_⟩;rcases l with l|⟨k,c,e,z⟩
  ·exact .inl l
  ·exact .inr ⟨k,c,e,cellK x c e _ z⟩
 ·obtain⟨v,z⟩:=I.cell x c e
  exact⟨v,cellK x c e v z⟩
 ·obtain⟨m,⟨o,_,_,ho,_⟩,_⟩:=I.loc
  exact free _ o (λz=>(Gu _ z).2.1 rfl) ho I.free
 ·obtain⟨v,o,ho,hd⟩:=I.cell x c e
  exact free c o (λz=>(Gu c z).2.2.1 x c e rfl) ho (I.ee x c e)
 ·obtain⟨e,n,ne,nf,d⟩:=I.pin p hp
  have MR:=λz=>(Gu p.1 z).2.2.2 p hp rfl;exact⟨keep p.1 p.2 ne nf MR e n,free p.1 p.2 MR e n,ne,nf,d⟩
theorem Inv.un(I:Inv X pins σ H s)(u:Un X.fs [] H H' s.heap h')(ck:mz X.prog X.w H' h'):Inv X pins σ H' {s with heap:=h',toks:=t'}:=by
 obtain⟨m,⟨o,es,ep,ho,r⟩,_⟩:=id I.loc;obtain⟨sl,hL⟩:=u.any ho I.free (by simp);exact I.step (ch:=[]) (λ_ z=>nomatch z) (λb o _ hb _ e n=>u.keep b o e n hb (by simp)) (λb o _ hb _ e n=>u.slot b o e n hb (by simp)) (λb o _ e n=>u.free b o e n (by simp)) (λb o _ e=>u.there b o e (by simp)) u.pj u.pw u.pz (λm' hm=>by
  obtain⟨o',Ti,Tj,mj,r'⟩:=hm;rw[ho] at mj;cases mj;exact⟨_,Ti,Tj,hL,r'⟩) ck I.bare
theorem Inv.call(I:Inv X pins σ H s)(u:Un (uk X.stack) ch H H' s.heap h')(ck:mz X.prog X.w H' h')(hg:jC g')
  (Gu:∀b∈ch,(b∈X.ex\/X.s₀.heap.objs.size<=b)/\b≠X.env.locals/\(∀x c,X.env.cells.lookup x=some c->c≠b)/\∀p∈X.pn++pins,p.1≠b) :
  Inv X pins σ H' {s with heap:=h',gens:=g',drawn:=d',toks:=t'}:=by
 obtain⟨m,⟨o,es,ep,ho,r⟩,_⟩:=id I.loc;obtain⟨sl,hL⟩:=u.any ho I.free λz=>(Gu _ z).2.1 rfl;exact I.step Gu (λb o hL hb hc e n=>u.keep b o e n (λz=>(bH.mp (I.rg b z)).elim hL hb) hc) (λb o _ _ hc e n=>u.any e n hc) (λb o hc e n=>u.free b o e n hc) (λb o hc e=>u.there b o e hc) u.pj u.pw u.pz (λm' hm=>by
  obtain⟨o',Ti,Tj,mj,r'⟩:=hm;rw[ho] at mj;cases mj;exact⟨_,Ti,Tj,hL,r'⟩) ck hg
theorem Inv.turned(I:Inv X pins σ H s)(k:∀b o,b≠it->s.heap.get? b=some o->h'.get? b=some o)(hn:H it=none)(hL:it≠X.env.locals)
  (h1:it∈X.ex\/X.s₀.heap.objs.size<=it) (h2:∀x c,X.env.cells.lookup x=some c->c≠it) (h3:∀p∈X.pn++pins,p.1≠it):Inv X pins σ H {s with heap:=h',toks:=t'}:=by
 have IC:∀b u,H b=some u->b≠it:=λb u e z=>by rw[z,hn] at e;cases e
 refine I.step (ch:=[it]) (λb hb=>?_) (λb o _ _ hc e _=>k b o (λz=>hc (by simp[z])) e) (λb o _ _ hc e _=>⟨o.slots,k b o (λz=>hc (by simp[z])) e⟩) (λ_ _ _ _ n=>n)
  (λb o hc e=>⟨o,k b o (λz=>hc (by simp[z])) e⟩) (λ_ _ e=>e) (λ_ _ _ e=>e) (λb ps e=>⟨#[],by rw[e];simp⟩) (λm hm=>?_) (λb u e=>?_) I.bare
 ·have e:b=it:=by simp_all
  subst e;exact⟨h1,hL,h2,h3⟩
 ·obtain⟨o,es,ep,ho,r⟩:=hm
  exact⟨o,es,ep,k _ o (bV hL) ho,r⟩
 ·refine(I.ck b u e).rf (λc v hc q=>k c v ?_ q) (λ_ q=>q) λ_ _ q=>q
  rcases hc with z|z
  ·rw[z];exact IC b u e
  ·exact IC c _ z
def Inv.tok(I:Inv X pins σ H s)t:Inv X pins σ H {s with toks:=t}:=I.un Un.refl I.ck
def Inv.kept(I:Inv X pins σ H s)(k:∀b u,s.heap.get? b=some u->h'.get? b=some u):Inv X pins σ H {s with heap:=h',toks:=t'}:=I.un (Un.kept k) (I.ck.kept k)
def Inv.laid{a:aA}(I:Inv X pins σ H s)(k:∀b u,s.heap.get? b=some u->h'.get? b=some u)(hp:s.heap.objs.size<=a)(new:dh X.prog X.w (upd H a o) h' a o) :
  Inv X pins σ (upd H a o) {s with heap:=h',toks:=t'}:=I.un (Un.laid k hp (I.ck.fresh hp)) (I.ck.laid k hp new)
def Inv.write(I:Inv X pins σ H s)(mu:PL (H x))(he:e=x\/H e=some (.own x))(k:∀b u,b≠e->s.heap.get? b=some u->h'.get? b=some u)(Ll:∃u,h'.get? e=some u)
  (new:dh X.prog X.w (upd H x o) h' x o):Inv X pins σ (upd H x o) {s with heap:=h',toks:=t'}:=I.un (Un.write mu he k Ll) (I.ck.write mu he k Ll new)
def Inv.weak(I:Inv X pins σ H s)(hl:au.length=σ.length)(w:∀(i:Nat)v,au[i]?=some (some v)->σ[i]?=some (some v)):Inv X pins au H s :=
 ⟨I.ok,I.os,I.bare,I.base,let ⟨m,hn,jl⟩:=I.loc;⟨m,hn,λi x v e1 e2 e3=>jl i x v e1 (w i v e2) e3⟩,I.cell,I.free,I.ee,I.pin,I.ck,hl.trans I.len⟩
def Inv.ke(I:Inv X pins σ H s)(h:∀p∈xx,s.heap.get? p.1=some p.2/\H p.1=none/\p.1≠X.env.locals/\p.1 ∉ X.fs/\∀v,p.2.data≠.cell v):Inv X xx σ H s :=
 ⟨I.ok,I.os,I.bare,I.base,I.loc,I.cell,I.free,I.ee,λp hp=>(bJ.mp hp).elim (λz=>I.pin p (fW _ z)) (h p),I.ck,I.len⟩
theorem Tn{N:List aC}(hN:N.Nodup){j:Nat}(a:N[i]?=some x)(b:N[j]?=some x):i=j:=by
 obtain⟨h1,e1⟩:=cA.mp a;obtain⟨h2,e2⟩:=cA.mp b;exact(List.getElem_inj hN).mp (e1.trans e2.symm)
theorem Tp(I:Inv X pins σ H s)(hN:X.N.Nodup)(hi:X.N[i]?=some x)(hx:Loc X.env.scope x)(r:RelV v u)
  (h:∀s',Inv X pins (σ.set i (some v)) H s'->(∃a,kH a s.heap s'.heap/\(a=X.env.locals\/X.env.cells.lookup x=some a))->Q () s') (hf:X.fn x=true\/X.env.scope.names.lookup x=some .local:=by first|exact .inl rfl|exact .inr rfl|assumption):wpAny M A (storeName X.env x u) Q E s:=by
 obtain⟨m,hn,hl⟩:=id I.loc;have Jy:(X.env.scope.kind==.class||(X.env.scope.kind==.module&&X.env.locals != X.env.globals))=false:=by rw[I.ok.kind];rfl
 have GZ:i<σ.length:=by rw[I.len];exact(cA.mp hi).1
 have ED:=I.ED;have tracked:∀{a:aA}{h':aJ},(∃o,s.heap.get? a=some o/\H a=none)->kH a s.heap h'->mz X.prog X.w H h':=λ{a h'}ha hs b ob e=>by
  obtain⟨_,_,ID⟩:=ha;refine(I.ck b ob e).rf (λc w' hc q=>(hs.2 c ?_).trans q) (λ_ q=>q) λ_ _ q=>q;rintro rfl;rcases hc with rfl|hc
  ·rw[ID] at e;cases e
  ·rw[ID] at hc;cases hc
 rcases hx with hk|hk
 ·refine wpAny_storeName_local hk hn (λh' Tq hs=>?_) Jy
  obtain⟨oL,_,_,hoL,_⟩:=id hn;refine h _ ⟨I.ok,I.os,I.bare,⟨λb o e n hb hx=>(hs.2 b (dB (bS (bN e) I.ok.above))).trans (I.base.keep b o e n hb hx),λb o e n hb hx=>?_,I.base.free,λb o e hx=>?_,I.base.pj,I.base.pw,I.base.pz⟩,⟨_,Tq,λj y v' e1 e2 e3=>?_⟩,λy c e=>?_,I.free,I.ee,λp hp=>?_,tracked ⟨oL,hoL,I.free⟩ hs,by simpa using I.len⟩ ⟨_,hs,.inl rfl⟩
  ·obtain⟨sl,e1⟩:=I.base.slot b o e n hb hx
   exact⟨sl,(hs.2 b (dB (bS (bN e) I.ok.above))).trans e1⟩
  ·obtain⟨o',e1⟩:=I.base.there b o e hx
   exact⟨o',(hs.2 b (dB (bS (bN e) I.ok.above))).trans e1⟩
  ·by_cases hj:j=i
   ·subst hj
    rw[hi] at e1;cases e1;rw[eK GZ] at e2
    cases e2;exact⟨u,r,.inl ⟨hk,by simp⟩⟩
   ·rw[dP (bV hj)] at e2
    obtain⟨u',r',q⟩:=hl j y v' e1 e2 e3;refine⟨u',r',?_⟩;rcases q with⟨k,e⟩|⟨k,c,e,z⟩
    ·refine .inl ⟨k,?_⟩
     have:y≠x:=λe=>hj (Tn hN e1 (e▸hi));simp[this,e]
    ·exact .inr ⟨k,c,e,z.sameBut hs (ED y c e)⟩
  ·obtain⟨w',z⟩:=I.cell y c e
   exact⟨w',z.sameBut hs (ED y c e)⟩
  ·obtain⟨e,n,ne,nf,d⟩:=I.pin p hp
   exact⟨(hs.2 p.1 ne).trans e,n,ne,nf,d⟩
 ·have Tr:X.fn x=true:=by lia
  obtain⟨c,hc⟩:=I.ok.has x (.inl hk);obtain⟨w',z⟩:=I.cell x c hc;refine wpAny_storeName_cell I.ok.kind hk hc z λh' Jz hs=>?_;obtain⟨oc,JA,Ts⟩:=id z;refine h {s with heap:=h'} ⟨I.ok,I.os,I.bare,⟨λb o e n hb hx=>(hs.2 b (dB (bS (bN e) (I.ok.Gs x c Tr hc)))).trans (I.base.keep b o e n hb hx),λb o e n hb hx=>?_,I.base.free,λb o e hx=>?_,I.base.pj,I.base.pw,I.base.pz⟩,⟨m,hn.sameBut hs (bV (ED x c hc)),λj y v' e1 e2 e3=>?_⟩,λy c' e=>?_,I.free,I.ee,λp hp=>?_,tracked ⟨oc,JA,I.ee x c hc⟩ hs,by simpa using I.len⟩ ⟨c,hs,.inr hc⟩
  ·obtain⟨sl,e1⟩:=I.base.slot b o e n hb hx
   exact⟨sl,(hs.2 b (dB (bS (bN e) (I.ok.Gs x c Tr hc)))).trans e1⟩
  ·obtain⟨o',e1⟩:=I.base.there b o e hx
   exact⟨o',(hs.2 b (dB (bS (bN e) (I.ok.Gs x c Tr hc)))).trans e1⟩
  ·by_cases hj:j=i
   ·subst hj
    rw[hi] at e1;cases e1;rw[eK GZ] at e2
    cases e2;exact⟨u,r,.inr ⟨.inl hk,c,hc,Jz⟩⟩
   ·rw[dP (bV hj)] at e2
    obtain⟨u',r',q⟩:=hl j y v' e1 e2 e3;refine⟨u',r',?_⟩;rcases q with q|⟨k,c',e,z'⟩
    ·exact .inl q
    ·refine .inr ⟨k,c',e,z'.sameBut hs ?_⟩
     rintro rfl;exact hj (Tn hN e1 (I.ok.inj _ _ _ e hc▸hi))
  ·by_cases hcc:c'=c
   ·subst hcc;exact⟨_,Jz⟩
   ·obtain⟨w2,z2⟩:=I.cell y c' e
    exact⟨w2,z2.sameBut hs hcc⟩
  ·obtain⟨e,n,ne,nf,d⟩:=I.pin p hp
   refine⟨(hs.2 p.1 ?_).trans e,n,ne,nf,d⟩;intro q;rw[q,JA] at e;exact d w' ((bD e)▸Ts)
theorem MS(I:Inv X pins σ H s)(hN:X.N.Nodup)(hi:X.N[i]?=some x)(hx:Loc X.env.scope x)(r:RelV v u)
  (h:∀s',Inv X pins (σ.set i (some v)) H s'->Q () s') (hf:X.fn x=true\/X.env.scope.names.lookup x=some .local:=by first|exact .inl rfl|exact .inr rfl|assumption):wpAny M A (storeName X.env x u) Q E s :=
 Tp I hN hi hx r (λs' I' _=>h s' I') hf
theorem Inv.Bx(I:Inv X pins σ H s)(ho:s'.os=s.os)(u:Un (uk X.stack) ch H H' s.heap s'.heap)(ck:mz X.prog X.w H' s'.heap)(hg:jC s'.gens)
  (Gu:∀b∈ch,(b∈X.ex\/X.s₀.heap.objs.size<=b)/\b≠X.env.locals/\(∀x c,X.env.cells.lookup x=some c->c≠b)/\∀p∈X.pn++pins,p.1≠b):Inv X pins σ H' s':=by
 obtain⟨h',g',d',t',o'⟩:=s';have e:=ho;subst e;exact I.call u ck hg Gu
end
abbrev XK:=aE->Option aA->Hp->Prop
abbrev St:=List (Option V)
abbrev VK:=V->Hp->Prop
abbrev TE:=St->Hp->VK->Prop
abbrev TT:=St->Hp->(Bool->Hp->Prop)->Prop
abbrev TA:=St->Hp->(List V->Hp->Prop)->Prop
structure Ends where
 nx:St->Hp->Prop
 rt:VK
 bk:St->Hp->Prop:=λ_ _=>False
 ct:St->Hp->Prop:=λ_ _=>False
abbrev TS:=Ends->St->Hp->Prop
def EP(X:Cx)(pins:List (aA×Obj))(σ:St)(Q:VK)(u:aE)(s':aG):Prop:=Ev2 λv H'=>Inv X pins σ H' s'/\RelV v u/\Q v H'
def TP(X:Cx)(pins:List (aA×Obj))(σ:St)(Q:Bool->Hp->Prop)(b:Bool)(s':aG):Prop:=∃H',Inv X pins σ H' s'/\Q b H'
def AP(X:Cx)(pins:List (aA×Obj))(σ:St)(Q:List V->Hp->Prop)(us:List aE)(s':aG):Prop:=Ev2 λvs H'=>Inv X pins σ H' s'/\Vals vs us/\Q vs H'
def SP(X:Cx)(pins:List (aA×Obj))(D:Ends)(f:Flow)(s':aG):Prop :=
 match f with
 |.next=>Ev2 λau H'=>Inv X pins au H' s'/\D.nx au H'
 |.brk=>Ev2 λau H'=>Inv X pins au H' s'/\D.bk au H'
 |.cont=>Ev2 λau H'=>Inv X pins au H' s'/\D.ct au H'
 |.ret u=>Ev3 λv au H'=>Inv X pins au H' s'/\RelV v u/\D.rt v H'
def PE(X:Cx)(e:aR)(t:TE):Prop :=
 ∀pins s(σ:St)H Q,Inv X pins σ H s->t σ H Q->wpAny (model X.prog X.w) X.A (eval e X.env) (EP X pins σ Q) X.xe s
def PT(X:Cx)(e:aR)(t:TT):Prop :=
 ∀pins s(σ:St)H Q,Inv X pins σ H s->t σ H Q->wpAny (model X.prog X.w) X.A (isTrue e X.env (eval e X.env)) (TP X pins σ Q) X.xe s
def PW(X:Cx)(e:aR)(t:TT):Prop :=
 ∀whole pins s(σ:St)H Q,Inv X pins σ H s->t σ H Q->wpAny (model X.prog X.w) X.A (isTrue e X.env whole) (TP X pins σ Q) X.xe s
def PW.pt(h:PW X e t):PT X e t:=h _
def PA(X:Cx)(es:List aR)(t:TA):Prop :=
 ∀pos pins s(σ:St)H Q,Inv X pins σ H s->t σ H Q->wpAny (model X.prog X.w) X.A (spliced (backTo pos (starEach es X.env))) (AP X pins σ Q) X.xe s
def PS(X:Cx)(st:aO)(t:TS):Prop :=
 ∀pins s(σ:St)H D,Inv X pins σ H s->t D σ H->wpAny (model X.prog X.w) X.A (exec st X.env) (SP X pins D) X.xe s
def fu(X:Cx)(st:List aO)(t:TS):Prop :=
 ∀pins s(σ:St)H D,Inv X pins σ H s->t D σ H->wpAny (model X.prog X.w) X.A (execs st X.env) (SP X pins D) X.xe s
def D7(h:wpAny M A t Q E s)(hQ:∀a s,Q a s->Q' a s):wpAny M A t Q' E s:=eY h hQ λ_ _ x=>x
section
theorem bin(ha:PE X a ta)(hb:PE X b tb){σ:St}{R:V->V->Hp->Prop}(I:Inv X pins σ H s)(h:ta σ H λx H1=>tb σ H1 λy H2=>R x y H2)
  {f:aE->aE->Sem α}
  (hf:∀v u s2 x y H2,Inv X pins σ H2 s2->RelV x v->RelV y u->R x y H2->wpAny (model X.prog X.w) X.A (f v u) Q X.xe s2) :
  wpAny (model X.prog X.w) X.A (eval a X.env) (λv vy=>wpAny (model X.prog X.w) X.A (eval b X.env) (λu vz=>wpAny (model X.prog X.w) X.A (f v u) Q X.xe vz) X.xe vy) X.xe s:=by
 exact D7 (ha pins s σ H _ I h) λv s1 ⟨x,H1,I1,r1,q1⟩=>(D7 (hb pins s1 σ H1 _ I1 q1) λu s2 ⟨y,H2,I2,r2,q2⟩=>(hf v u s2 x y H2 I2 r1 r2 q2))
inductive JB(i:Nat)(σ:St)(H:Hp)(Q:VK):Prop|mk:∀v,σ[i]?=some (some v)->Q v H->JB i σ H Q
def tC(v:V):TE:=λ_ H Q=>Q v H
theorem b6z{X}{pos}(hN:X.N[i]?=some x)(hv:Te X.env.scope x)(hd:(x==("__debug__":aC))=false:=by decide)(xo:(x==("__classdict__":aC))=false:=by decide):PE X (.Name x pos) (JB i):=by
 intro pins s σ H Q I h;obtain⟨v,e,h⟩:=h;obtain⟨m,hn,hl⟩:=I.loc;obtain⟨u,r,l⟩:=hl i x v hN e hv;have fin:EP X pins σ Q u s:=⟨v,H,I,r,h⟩;rcases l with⟨hk,hm⟩|⟨hk,c,hc,kf⟩
 ·exact pZ (wpAny_loadName_local I.ok.kind hk hn hm fin) hd
 ·rcases hk with hk|hk
  ·exact pZ (wpAny_loadName_cell I.ok.kind hk hc kf fin) hd
  ·exact pZ (wpAny_loadName_free I.ok.kind hk hc kf fin xo) hd
def d0:PE X (.Constant (.int i) j pos) (tC (.int i)):=λ_ _ _ H _ I h=>wpAny_Constant_int ⟨.int i,H,I.tok _,⟨_,rfl⟩,h⟩
def JC:PE X (.Constant (.bool b) j pos) (tC (.bl b)):=λ_ _ _ H _ I h=>Constant_bool ⟨.bl b,H,I,rfl,h⟩
def D5:PE X (.Constant .none j pos) (tC .non):=λ_ _ _ H _ I h=>sN ⟨.non,H,I,rfl,h⟩
def l9:PE X (.Constant (.str x) j pos) (tC (.str x)):=λ_ _ _ H _ I h=>Calls.Constant_str ⟨.str x,H,I.tok _,⟨_,rfl⟩,h⟩
def Gl(X:Cx)(x:aC):Prop:=X.env.kindOf x=some .globalImplicit
theorem Lm{σ:St}(I:Inv X pins σ H s)(hg:Gl X x)(hm:X.mg x=some u)(h:Q u s)
  (hd:(x==("__debug__":aC))=false:=by decide):wpAny (model X.prog X.w) X.A (eval (.Name x pos) X.env) Q E s :=
 sO I.ok.kind hg (Calls.loadGlobal_global (I.ok.glob▸I.mod.glob.keeps I.bk) hm h) hd
theorem JD{E}{σ:St}{pos}(I:Inv X pins σ H s)(hg:Gl X x)(hm:X.mg x=none)(hv:bootBuiltins x=some u)(h:Q u s)
  (hn:x≠"__name__":=by decide) (hd:(x==("__debug__":aC))=false:=by decide):wpAny (model X.prog X.w) X.A (eval (.Name x pos) X.env) Q E s:=by
 obtain⟨mb,h1,h2⟩:=I.mod.blt;exact sO I.ok.kind hg (Calls.loadGlobal_builtin (I.ok.glob▸I.mod.glob.keeps I.bk) hm (I.ok.blt▸h1.keeps I.bk) ((h2 x hn).trans hv) h) hd
theorem C4(hg:Gl X x)(hm:X.mg x=some u)(r:RelV v u)(hd:(x==("__debug__":aC))=false:=by decide):PE X (.Name x pos) (tC v) :=
 λ_ _ _ H _ I h=>Lm I hg hm ⟨v,H,I,r,h⟩ hd
theorem Ln{pos}(hg:Gl X x)(hm:X.mg x=none)(hv:bootBuiltins x=some u)(r:RelV v u)(hn:x≠"__name__":=by decide)(hd:(x==("__debug__":aC))=false:=by decide):PE X (.Name x pos) (tC v) :=
 λ_ _ _ H _ I h=>JD I hg hm hv ⟨v,H,I,r,h⟩ hn hd
def tB(t:TE):TT:=λσ H Q=>t σ H λx H1=>∃c,x=.bl c/\Q c H1
theorem X6(h:PE X e t)(he:∀whole,isTrue e X.env whole=(do let v <- whole;standAt e.pos;holding [v] (truthy v)):=by intro _;rfl):PT X e (tB t):=by
 intro pins s σ H Q I hw;refine sP (D7 (h pins s σ H _ I hw) λv s1 ⟨x,H1,I1,r1,q1⟩=>?_) (he _);obtain⟨d,rfl,q⟩:=q1
 cases r1;exact gC ⟨H1,I1,q⟩
variable{tA PN:TT}{rest:List aR}
def c0X(t u:TT):TT:=λσ H Q=>t σ H λc H1=>if c=true then u σ H1 Q else Q false H1
def tOr(t u:TT):TT:=λσ H Q=>t σ H λc H1=>if c=true then Q true H1 else u σ H1 Q
def c0G(t:TT):TT:=λσ H Q=>t σ H λc H1=>Q (!c) H1
theorem T4(ha:PT X a tA):PW X (.BoolOp .And [a] pos) tA:=by
 intro wh pins s σ H Q I h;refine isTrue_and (D7 (ha pins s σ H Q I h) λc s1 e=>?_)
 cases c with
 |true=>exact isTrue_and_nil e
 |false=>exact e
theorem R9(ha:PT X a tA):PW X (.BoolOp .Or [a] pos) tA:=by
 intro wh pins s σ H Q I h;refine isTrue_or (D7 (ha pins s σ H Q I h) λc s1 e=>?_)
 cases c with
 |false=>exact isTrue_or_nil e
 |true=>exact e
theorem Gv(ha:PT X a tA)(hb:PW X (.BoolOp .And (b::rest) pos) PN):PW X (.BoolOp .And (a::b::rest) pos) (c0X tA PN):=by
 intro wh pins s σ H Q I h;refine isTrue_and (D7 (ha pins s σ H _ I h) λc s1 ⟨H1,I1,q1⟩=>?_)
 cases c with
 |true=>exact hb wh pins s1 σ H1 Q I1 q1
 |false=>exact⟨H1,I1,q1⟩
theorem U0(ha:PT X a tA)(hb:PW X (.BoolOp .Or (b::rest) pos) PN):PW X (.BoolOp .Or (a::b::rest) pos) (tOr tA PN):=by
 intro wh pins s σ H Q I h;refine isTrue_or (D7 (ha pins s σ H _ I h) λc s1 ⟨H1,I1,q1⟩=>?_)
 cases c with
 |true=>exact⟨H1,I1,q1⟩
 |false=>exact hb wh pins s1 σ H1 Q I1 q1
theorem S6(ha:PT X a tA):PT X (.UnaryOp .Not a pos) (c0G tA):=by
 intro pins s σ H Q I h;exact isTrue_not (ha pins s σ H (λc H1=>Q (!c) H1) I h)
def b8x(ta tb:TE):TE:=λσ H Q=>ta σ H λx H1=>∃c,x=.bl c/\if c=true then tb σ H1 Q else Q (.bl false) H1
def b9i(ta:TE):TE:=λσ H Q=>ta σ H λx H1=>∃c,x=.bl c/\Q (.bl (!c)) H1
def b1I(h:PE X a t):PE X (.BoolOp op [a] pos) t:=λpins s σ H Q I hw=>BoolOp_one (h pins s σ H Q I hw)
theorem b1G(ha:PE X a ta)(hb:PE X (.BoolOp .And (b::rest) pos) tb):PE X (.BoolOp .And (a::b::rest) pos) (b8x ta tb):=by
 intro pins s σ H Q I h;refine BoolOp_and (D7 (ha pins s σ H _ I h) λv s1 ⟨x,H1,I1,r1,q1⟩=>?_);obtain⟨c,rfl,q1⟩:=q1
 cases r1;refine gC ?_
 cases c with
 |true=>exact hb pins s1 σ H1 Q I1 q1
 |false=>exact⟨.bl false,H1,I1,rfl,q1⟩
theorem b6x(ha:PE X a ta):PE X (.UnaryOp .Not a pos) (b9i ta):=by
 intro pins s σ H Q I h;refine UnaryOp_ (D7 (ha pins s σ H _ I h) λv s1 ⟨x,H1,I1,r1,q1⟩=>?_);obtain⟨c,rfl,q1⟩:=q1
 cases r1;exact not_of (gC ⟨.bl (!c),H1,I1,rfl,q1⟩)
def tIf(t:TT)(ta tb:TE):TE:=λσ H Q=>t σ H λc H1=>if c=true then ta σ H1 Q else tb σ H1 Q
theorem MT(hc:PT X c tA)(ha:PE X a ta)(hb:PE X b tb):PE X (.IfExp c a b pos) (tIf tA ta tb):=by
 intro pins s σ H Q I h;refine wpAny_IfExp (D7 (hc pins s σ H _ I h) λd s1 ⟨H1,I1,q1⟩=>?_)
 cases d with
 |true=>exact ha pins s1 σ H1 Q I1 q1
 |false=>exact hb pins s1 σ H1 Q I1 q1
end
def ah(K:aF)(H:Hp)(a:aA)(xs:List V):Prop :=
 Rd H a (.lst xs) ∨
  Ev3 λo its n=>K.lookup a=some o/\o.cls=.type "list"/\o.dict=none/\o.data=.seq its n/\its.size<=sizeLine/\Vals xs its.toList
def cq(K:aF)(H:Hp)(a:aA)(xs:List V):Prop :=
 Rd H a (.tup xs) ∨
  Ev3 λo its n=>K.lookup a=some o/\o.cls=.type "tuple"/\o.data=.seq its n/\its.size<=sizeLine/\Vals xs its.toList
def c0u:aE->Option V
 |.none=>some .non
 |.bool b=>some (.bl b)
 |.int i _=>some (.int i)
 |.str x _=>some (.str x)
 |.bytes b _=>some (.Bv b)
 |.float b _=>some (.Jt b)
 |.ref a=>some (.ref a)
 |.type n=>some (.ty n)
 |_=>none
theorem RelV.abs(r:RelV x u):c0u u=some x:=by
 cases x with
 |non=>cases r;rfl
 |bl _=>cases r;rfl
 |int _=>obtain⟨t,rfl⟩:=r;rfl
 |str _=>obtain⟨t,rfl⟩:=r;rfl
 |Bv _=>obtain⟨t,rfl⟩:=r;rfl
 |Jt _=>obtain⟨t,rfl⟩:=r;rfl
 |ref _=>cases r;rfl
 |ty _=>cases r;rfl
def RelV.inj(r:RelV x u)(q:RelV y u):x=y:=bD (r.abs.symm.trans q.abs)
theorem Vals.inj:∀{xs ys}{us},Vals xs us->Vals ys us->xs=ys
 |_,_,_,.nil,.nil=>rfl
 |_,_,_,.cons r t,.cons r' t'=>by rw[r.inj r',Vals.inj t t']
section
variable{X:Cx}{pins:List (aA×Obj)}{σ:St}{H:Hp}{s:aG}{a:aA}{xs ys:List V}
def ah.of{K}(h:H a=some (.lst xs)):ah K H a xs:=.inl (.inl h)
def cq.of{K}(h:H a=some (.tup xs)):cq K H a xs:=.inl (.inl h)
theorem Inv.list(I:Inv X pins σ H s)(h:ah X.K H a xs):∃its,Vals xs its/\PlainL s.heap a its.toArray/\xs.length<=sizeLine:=by
 rcases h with h|⟨o,its,n,hk,hc,hd,hs,hz,r⟩
 ·obtain⟨z,its,n,r,e⟩:=h.ok I.ck
  exact⟨its,r,⟨_,n,e,rfl,rfl,rfl⟩,z⟩
 ·refine⟨its.toList,r,⟨o,n,I.ix a o hk,hc,hd,by simpa using hs⟩,?_⟩
  have e:=r.length;simp only[lO] at e;lia
theorem Inv.tuple(I:Inv X pins σ H s)(h:cq X.K H a xs):∃its,Vals xs its/\gP s.heap a its.toArray/\xs.length<=sizeLine:=by
 rcases h with h|⟨o,its,n,hk,hc,hs,hz,r⟩
 ·obtain⟨z,its,r,p⟩:=h.ok I.ck
  exact⟨its,r,p,z⟩
 ·refine⟨its.toList,r,⟨o,I.ix a o hk,hc,n,by simpa using hs⟩,?_⟩
  have e:=r.length;simp only[lO] at e;lia
theorem Inv.rh(I:Inv X pins σ H s)(h:ah X.K H a xs)(h':ah X.K H a ys):xs=ys:=by
 obtain⟨its,r,⟨o,n,e,_,_,d⟩,_⟩:=I.list h;obtain⟨its',r',⟨o',n',e',_,_,d'⟩,_⟩:=I.list h';rw[e] at e';cases e';rw[d] at d';injection d' with d1 _
 have:its=its':=by simpa using congrArg sQ d1
 subst this;exact r.inj r'
theorem Inv.vh(I:Inv X pins σ H s)(h:cq X.K H a xs)(h':cq X.K H a ys):xs=ys:=by
 obtain⟨its,r,⟨o,e,_,n,d⟩,_⟩:=I.tuple h;obtain⟨its',r',⟨o',e',_,n',d'⟩,_⟩:=I.tuple h';rw[e] at e';cases e';rw[d] at d';injection d' with d1 _
 have:its=its':=by simpa using congrArg sQ d1
 subst this;exact r.inj r'
end
abbrev Cx.uq(X:Cx)(E:aE->aG->Prop):Cx:={X with xe:=E}
abbrev Cx.oi(X:Cx):Cx:=X.uq λ_ _=>False
def Cx.Ok.uq{X:Cx}(ok:X.Ok)E:(X.uq E).Ok :=
 ⟨ok.mod,ok.kind,ok.glob,ok.blt,ok.above,ok.inj,ok.has,ok.Gs,ok.hd,ok.frames,ok.GX,ok.GY,ok.bs,ok.xw,ok.um,ok.uo,ok.gx,ok.Cj⟩
def Cx.Ok.jc{X:Cx}(ok:(X.uq E).Ok):X.Ok :=
 ⟨ok.mod,ok.kind,ok.glob,ok.blt,ok.above,ok.inj,ok.has,ok.Gs,ok.hd,ok.frames,ok.GX,ok.GY,ok.bs,ok.xw,ok.um,ok.uo,ok.gx,ok.Cj⟩
section
variable{X:Cx}{pins:List (aA×Obj)}{σ:St}{H:Hp}{s:aG}{E:aE->aG->Prop}
def Inv.uq(I:Inv X pins σ H s)E:Inv (X.uq E) pins σ H s:=⟨I.ok.uq E,I.os,I.bare,I.base,I.loc,I.cell,I.free,I.ee,I.pin,I.ck,I.len⟩
def Inv.jc(I:Inv (X.uq E) pins σ H s):Inv X pins σ H s:=⟨I.ok.jc,I.os,I.bare,I.base,I.loc,I.cell,I.free,I.ee,I.pin,I.ck,I.len⟩
theorem SP.jc(h:SP (X.uq E) pins D f s'):SP X pins D f s':=by
 cases f with
 |next=>obtain⟨au,H',I,q⟩:=h;exact⟨au,H',I.jc,q⟩
 |brk=>obtain⟨au,H',I,q⟩:=h;exact⟨au,H',I.jc,q⟩
 |cont=>obtain⟨au,H',I,q⟩:=h;exact⟨au,H',I.jc,q⟩
 |ret u=>obtain⟨v,au,H',I,r,q⟩:=h;exact⟨v,au,H',I.jc,r,q⟩
def fu.oi{st}(h:fu X.oi st t):fu X st t:=λpins s σ H D I hw =>
 eY (h pins s σ H D (I.uq _) hw) (λ_ _ q=>q.jc) λ_ _ z=>eD z
end
section
variable{X:Cx}{st:aO}{rest:List aO}{t u:TS}{e:aR}{te:TE}{pos:Pos}
def MU:TS:=λD σ H=>D.nx σ H
def Lo(t u:TS):TS:=λD σ H=>t {D with nx:=u D} σ H
def r8:fu X [] MU:=λ_ _ σ H _ I h=>lP ⟨σ,H,I,h⟩
theorem j0(h1:PS X st t)(h2:fu X rest u):fu X (st::rest) (Lo t u):=by
 intro pins s σ H D I h;refine qA (D7 (h1 pins s σ H {D with nx:=u D} I h) λf s1 q=>?_)
 cases f with
 |next =>
  obtain⟨au,H',I',q⟩:=q;exact h2 pins s1 au H' D I' q
 |ret v=>exact q
 |brk=>exact q
 |cont=>exact q
theorem j4(h1:PS X st t):fu X [st] t:=by
 intro pins s σ H D I h;refine qA (D7 (h1 pins s σ H D I h) λf s1 q=>?_)
 cases f with
 |next=>exact lP q
 |ret v=>exact q
 |brk=>exact q
 |cont=>exact q
theorem Inv.quiet{σ:St}(I:Inv X pins σ H s):interactive X.env=false:=by simp[interactive,I.ok.kind]
def b8y(te:TE):TS:=λD σ H=>te σ H λ_ H1=>D.nx σ H1
theorem R3(he:PE X e te)(hs:swapsWith e none pos.line X.env=pure false:=by rfl):PS X (.Expr e pos) (b8y te):=by
 intro pins s σ H D I h;exact wpAny_Expr_any (D7 (he pins s σ H _ I h) λv s1 ⟨x,H1,I1,r1,q1⟩=>⟨σ,H1,I1,q1⟩) I.quiet hs
def c1u(te:TE):TS:=λD σ H=>te σ H D.rt
theorem o4(he:PE X e te):PS X (.Return (some e) pos) (c1u te):=by
 intro pins s σ H D I h;exact wpAny_Return_some (D7 (he pins s σ H _ I h) λv s1 ⟨x,H1,I1,r1,q1⟩=>⟨x,σ,H1,I1,r1,q1⟩)
def MV(c:TT)(t u:TS):TS:=λD σ H=>c σ H λb H1=>if b=true then t D σ H1 else u D σ H1
theorem w6(hc:PT X c tc)(ha:fu X a t)(hb:fu X b u):PS X (.If c a b pos) (MV tc t u):=by
 intro pins s σ H D I h;refine wpAny_If (D7 (hc pins s σ H _ I h) λd s1 ⟨H1,I1,q1⟩=>?_)
 cases d with
 |true=>exact ha pins s1 σ H1 D I1 q1
 |false=>exact hb pins s1 σ H1 D I1 q1
def b7e:TS:=λ_ _ _=>False
def a5n:fu X sts b7e:=λ_ _ _ _ _ _ h=>h.elim
end
abbrev TG:=V->St->Hp->(St->Hp->Prop)->Prop
abbrev Gx:=List V->St->Hp->(St->Hp->Prop)->Prop
def PG(X:Cx)(target:aR)(t:TG):Prop :=
 ∀pins s(σ:St)H v u Q,Inv X pins σ H s->RelV v u->t v σ H Q →
  wpAny (model X.prog X.w) X.A (assign target X.env u) (λ_ s'=>Ev2 λau H'=>Inv X pins au H' s'/\Q au H') X.xe s
def Lq(X:Cx)(ts:List aR)(t:Gx):Prop :=
 ∀pins s(σ:St)H vs us Q,Inv X pins σ H s->Vals vs us->t vs σ H Q →
  wpAny (model X.prog X.w) X.A (assignInOrder ((assignEach ts X.env).map (·.2)) us) (λ_ s'=>Ev2 λau H'=>Inv X pins au H' s'/\Q au H') X.xe s
abbrev Tt:=V->V->V->Hp->(Hp->Prop)->Prop
def b9M(X:Cx)(t:Tt):Prop :=
 ∀pins s(σ:St)H o i v ov iv u Q,Inv X pins σ H s->RelV o ov->RelV i iv->RelV v u->t o i v H Q →
  wpAny (model X.prog X.w) X.A (setItem ov iv u) (λ_ s'=>∃H',Inv X pins σ H' s'/\Q H') X.xe s
def N7(i:Nat):TG:=λv σ H Q=>Q (σ.set i (some v)) H
theorem j9(hN:X.N.Nodup)(hi:X.N[i]?=some x)(hx:Loc X.env.scope x)(hf:X.fn x=true\/X.env.scope.names.lookup x=some .local:=by first|exact .inl rfl|exact .inr rfl|assumption):PG X (.Name x pos) (N7 i):=by
 intro pins s σ H v u Q I r h;exact qC (MS I hN hi hx r (λs' I'=>⟨_,H,I',h⟩) hf)
def PQ:Gx:=λvs σ H Q=>vs=[]/\Q σ H
inductive JE(t:TG)(u:Gx)(vs:List V)(σ:St)(H:Hp)(Q:(St->Hp->Prop)):Prop|mk:∀v r,vs=v::r->(t v σ H λau H'=>u r au H' Q)->JE t u vs σ H Q
theorem A4:Lq X [] PQ:=by
 intro pins s σ H vs us Q I r h;obtain⟨e,h⟩:=h;subst e
 cases r;exact sR ⟨σ,H,I,h⟩
theorem p6(h1:PG X e t)(h2:Lq X es u)
  (hs:(assignEach (e::es) X.env).map (·.2)=assign e X.env::(assignEach es X.env).map (·.2):=by rfl):Lq X (e::es) (JE t u):=by
 intro pins s σ H vs us Q I r h;obtain⟨v,vr,e1,h⟩:=h;subst e1
 cases r with
 |cons r rr =>
  rw[hs];exact qD (D7 (h1 pins s σ H _ _ _ I r h) λ_ s1 ⟨Eg,H1,I1,q1⟩=>(h2 pins s1 Eg H1 _ _ Q I1 rr q1))
inductive MW(K:aF)(n:Nat)(t:Gx)(v:V)(σ:St)(H:Hp)(Q:(St->Hp->Prop)):Prop|mk:∀a xs,v=.ref a->cq K H a xs->xs.length=n->t xs σ H Q->MW K n t v σ H Q
theorem K4{pos}{k}(hc:X.calm=true)(h:Lq X es t)
  (hn:(assignEach es X.env).length=n:=by rfl) (gj:(assignEach es X.env).findIdx? (·.1)=none:=by rfl):PG X (.Tuple es k pos) (MW X.K n t):=by
 intro pins s σ H v u Q I r hw;obtain⟨a,xs,e1,hq,hl,hw⟩:=hw;subst e1
 cases r;obtain⟨its,rv,ht,hz⟩:=I.tuple hq;exact assign_Tuple_tuple (I.ok.hd hc) ht (by simp[hn,<-hl,rv.length]) gj λh' hx=>(h pins _ σ H xs _ Q (I.kept (t':=s.toks) λb o e=>hx b o (dB (bN e)) e) (by simp_all) hw)
def c1f(to ti:TE)(t:Tt):TG:=λv σ H Q=>to σ H λo H1=>ti σ H1 λi H2=>t o i v H2 λH3=>Q σ H3
theorem Gy(ho:PE X o to)(hi:PE X i ti)(hs:b9M X t)
  (ha:∀v,assign (.Subscript o i pos) X.env v=(do
   let ov <- holding [v] (eval o X.env)
   let iv <- holding [v,ov] (eval i X.env)
   standAt pos
   holding [v,ov,iv] (setItem ov iv v)
   release [v,ov,iv] []):=by intro _;rfl):PG X (.Subscript o i pos) (c1f to ti t):=by
 intro pins s σ H v u Q I r h;rw[ha];exact aN (iP (D7 (ho pins s σ H _ I h) λov s1 ⟨x,H1,I1,r1,q1⟩=>(aN (iP (D7 (hi pins s1 σ H1 _ I1 q1) λiv s2 ⟨y,H2,I2,r2,q2⟩=>(aN (iQ (aN (iP (D7 (hs pins s2 σ H2 x y v ov iv u _ I2 r1 r2 r q2) λ_ s3 ⟨H3,I3,q3⟩=>(wpAny_release ⟨σ,H3,I3,q3⟩)))))))))))
def EE(te:TE)(g:TG):TS:=λD σ H=>te σ H λx H1=>g x σ H1 D.nx
theorem D3{pos}(he:PE X e te)(hg:PG X tg g)(hs:swapsWithSole [tg] e pos.line X.env=pure false:=by rfl)(hw:swappedStores [tg] e X.env=pure none:=by rfl)
  (h1:(assignEach [tg] X.env).map (·.2)=[assign tg X.env]:=by rfl):PS X (.Assign [tg] e pos) (EE te g):=by
 intro pins s σ H D I h;refine wpAny_Assign_stores (D7 (he pins s σ H _ I h) λv s1 ⟨x,H1,I1,r1,q1⟩=>?_) hs hw;rw[h1];exact D7 (hg pins s1 σ H1 x v _ I1 r1 q1) λ_ s2 q=>q
theorem r6{pos}(hN:X.N.Nodup)(hi:X.N[i]?=some x)(hx:Loc X.env.scope x)(he:PE X e te)(hs:swapsWith e (some (.Name x pos')) pos.line X.env=pure false:=by rfl)(hf:X.fn x=true\/X.env.scope.names.lookup x=some .local:=by first|exact .inl rfl|exact .inr rfl|assumption) :
  PS X (.Assign [.Name x pos'] e pos) (EE te (N7 i)):=by
 intro pins s σ H D I h;exact wpAny_Assign_Name (D7 (he pins s σ H _ I h) λv s1 ⟨y,H1,I1,r1,q1⟩=>(MS I1 hN hi hx r1 (λs2 I2=>⟨_,H1,I2,q1⟩) hf)) hs
def c0B(i j:Nat)(ta:TA):TS:=λD σ H=>ta σ H λvs H1=>Ev2 λv w=>vs=[v,w]/\D.nx ((σ.set i (some v)).set j (some w)) H1
theorem b7C(hc:X.calm=true)(hN:X.N.Nodup)(hi:X.N[i]?=some x)(hj:X.N[j]?=some y)(iy:i≠j)
  (hx:X.env.scope.names.lookup x=some .local) (hy:X.env.scope.names.lookup y=some .local) (ha:PA X [a,b] ta)
  (hw:swappedStores [.Tuple [.Name x px,.Name y py] kt pt] (.Tuple [a,b] k2 Tu) X.env=pure (some [x,y]))
  (hs:swapsWithSole [.Tuple [.Name x px,.Name y py] kt pt] (.Tuple [a,b] k2 Tu) pos.line X.env=pure false:=by rfl) :
  PS X (.Assign [.Tuple [.Name x px,.Name y py] kt pt] (.Tuple [a,b] k2 Tu) pos) (c0B i j ta):=by
 intro pins s σ H D I h;rw[exec_Assign_arm];refine aN (iQ ?_);rw[hs];refine aN (bG ?_);rw[if_neg (by decide)];refine aN (Tuple_ (D7 (ha _ pins s σ H _ I h) λus s1 ⟨vs,H1,I1,r1,q1⟩=>?_));obtain⟨v,w,e1,q1⟩:=q1;subst e1;obtain⟨u1,u2,rfl,rv,G'⟩:Ev2 λu1 u2=>us=[u1,u2]/\RelV v u1/\RelV w u2:=by
  cases r1 with
  |cons p q =>
   cases q with
   |cons p' q' =>
    cases q';exact⟨_,_,rfl,p,p'⟩
 refine lQ ?_ (by show 2<=sizeLine;decide);have I2:Inv X pins σ H1 {s1 with heap:=s1.heap.push {cls:=.type "tuple",data:=.seq [u1,u2].toArray}}:=I1.kept λb o e=>bL _ e;rw[hw];refine aN (bG ?_)
 show wpAny (model X.prog X.w) X.A (do rule "assign.swapped-stores";let items <- unpackItems (.ref s1.heap.objs.size) 2 none;assignInOrder [λv=>bindName X.env y v,λv=>bindName X.env x v] items.reverse;pure Flow.next) _ _ _
 refine aN (lR (aN (unpackItems_tuple (items:=#[u1,u2]) (I.ok.hd hc) (nD s1.heap _) λh' f'=>?_)));have I3:=I2.kept (t':=s1.toks) λb o e=>f' b o (dB (bN e)) e
 refine aN (qD (sS (MS I3 hN hj (.inl hy) G' (λs2 I4=>(qD (sS (MS I4 hN hi (.inl hx) rv (λs3 I5=>sR (bG ?_)) (.inr hx))))) (.inr hy))));rw[kJ _ _ (bV iy)] at I5;exact⟨_,H1,I5,q1⟩
inductive b2f(c:TT)(tb:TS)(D:Ends)(σ:St)(H:Hp):Prop|mk:∀W:Nat->St->Hp->Prop,(∃m,W m σ H)->(∀m σ H,W m σ H → c σ H λb H1=>if b=true then ∃N,(∀au H',N au H'->∃m',m'<m/\W m' au H')/\tb {D with nx:=N,ct:=N,bk:=D.nx} σ H1 else D.nx σ H1)->b2f c tb D σ H
theorem a7o(hp:qG (model X.prog X.w) X.A X.env X.xe)(hc:PT X c tc)(hb:fu X body tb):PS X (.While c body [] pos) (b2f tc tb):=by
 intro pins s σ H D I h;obtain⟨W,⟨m0,w0⟩,turn⟩:=h;refine wpAny_While (codeAny_whileLoop (λn s'=>Ev2 λau H'=>Inv X pins au H' s'/\W n au H') ?_ m0 ⟨σ,H,I,w0⟩);rintro n s1 ⟨Eg,H1,I1,w1⟩;refine jE hp (D7 (hc pins s1 Eg H1 _ I1 (turn n Eg H1 w1)) λb s2 ⟨H2,I2,q2⟩=>?_)
 cases b with
 |true =>
  obtain⟨N,hN,q2⟩:=q2;rw[if_pos rfl];refine jE hp (D7 (hb pins s2 Eg H2 _ I2 q2) λf s3 q3=>?_)
  cases f with
  |next =>
   obtain⟨zx,H3,I3,n3⟩:=q3;obtain⟨m',hm,w3⟩:=hN zx H3 n3;exact⟨m',hm,zx,H3,I3,w3⟩
  |cont =>
   obtain⟨zx,H3,I3,n3⟩:=q3;obtain⟨m',hm,w3⟩:=hN zx H3 n3;exact⟨m',hm,zx,H3,I3,w3⟩
  |brk=>exact q3
  |ret v=>exact q3
 |false =>
  rw[if_neg cX];exact lP ⟨Eg,H2,I2,q2⟩
structure It where
 go:Nat->Hp->Prop
 By:Nat->Hp->V->Hp->Prop
 stop:Nat->Hp->Prop
def xp(X:Cx)(pins:List (aA×Obj))(H:Hp)(b:aA):Prop :=
 H b=none/\b≠X.env.locals/\b ∉ X.fs/\(b∈X.ex\/X.s₀.heap.objs.size<=b)/\(∀x c,X.env.cells.lookup x=some c->c≠b)/\∀p∈X.pn++pins,p.1≠b
theorem Inv.xy{σ:St}{b:aA}(I:Inv X pins σ H s)(hb:s.heap.objs.size<=b)(hn:H' b=none):xp X pins H' b:=by
 refine⟨hn,gR (bS I.lt hb),I.Jx hb,.inr (bF I.sz hb),λx c e z=>?_,λp hp z=>absurd (bS (bN (I.pin p hp).1) (z▸hb)) (dO _)⟩
 ·obtain⟨v,q⟩:=I.cell x c e
  exact absurd (bS q.lt (z▸hb)) (dO _)
structure JF(P:aM)(w:aL)(K:aF)(tg:aR)(J:It)(fp:List aA)(it:aA)(tn:Nat->aJ->Prop):Prop where
 mem:it∈fp
 obj:∀i h,tn i h->∀b∈fp,∃o,h.get? b=some o/\∀v,o.data≠.cell v
 keep:∀i h h',tn i h->(∀b∈fp,∀o,h.get? b=some o->h'.get? b=some o)->tn i h'
 item:∀(X:Cx),X.prog=P->X.w=w->X.K=K->X.calm=true->∀(i:Nat)(pins:List (aA×Obj))(s:aG)(σ:St)(H:Hp)(E:aE->aG->Prop),Inv X pins σ H s->(∀b∈fp,xp X pins H b)->tn i s.heap->J.go i H →
  wpAny (model P w) X.A (pyNext (.ref it)) (λr s1=>∃u,r=some u/\
   wpAny (model P w) X.A (letOwnedTupleGo tg (.ref it) u) (λ_ s2=>Ev2 λx H'=>Inv X pins σ H' s2/\RelV x u/\J.By i H x H'/\tn (i+1) s2.heap/\∀b∈fp,H' b=none) E s1) E s
 done:∀(X:Cx),X.prog=P->X.w=w->X.K=K->X.calm=true->∀(i:Nat)(pins:List (aA×Obj))(s:aG)(σ:St)(H:Hp)(E:aE->aG->Prop),Inv X pins σ H s->(∀b∈fp,xp X pins H b)->tn i s.heap->J.stop i H →
  wpAny (model P w) X.A (pyNext (.ref it)) (λr s1=>r=none/\Inv X pins σ H s1) E s
 self:∀(A:aV)(i:Nat)(s:aG)(Q:aE->aG->Prop)(E:aE->aG->Prop),tn i s.heap->Q (.ref it) s->wpAny (model P w) A (pyIter (.ref it)) Q E s
abbrev TI:=St->Hp->(It->Hp->Prop)->Prop
def PR(X:Cx)(pins:List (aA×Obj))(σ:St)(tg:aR)(R:It->Hp->Prop)(Hc:aE)(s2:aG):Prop :=
 Ev5 λit fp tn J H'=>Hc=.ref it/\Inv X pins σ H' s2/\JF X.prog X.w X.K tg J fp it tn/\tn 0 s2.heap/\(∀b∈fp,xp X pins H' b)/\R J H'
def PI(X:Cx)(tg iter:aR)(wi:TI):Prop :=
 ∀pins s(σ:St)H R,Inv X pins σ H s->wi σ H R →
  wpAny (model X.prog X.w) X.A (eval iter X.env) (λv s1=>wpAny (model X.prog X.w) X.A (pyIter v) (PR X pins σ tg R) X.xe s1) X.xe s
theorem MX(ho:s.heap.get? it=some o)(hc:o.cls=.type n)(hd:o.data=.fields vs)
    (hn:["enumerate","zip","dict_itemiterator","dict_reverseitemiterator","odict_iterator","itertools.zip_longest","itertools.pairwise"].contains n=false) (hQ:Q () s):wpAny M A (letOwnedTupleGo tg (.ref it) u) Q E s:=by
  unfold letOwnedTupleGo
  cases tg<;>first
    |exact bG hQ
    |(cases u<;>first
        |exact bG hQ
        | (refine aN (nE ho ?_)
           rw[hc,hd]
           show wpAny M A (if (["enumerate","zip","dict_itemiterator","dict_reverseitemiterator","odict_iterator","itertools.zip_longest","itertools.pairwise"].contains n&&vs[0]?==some (rawInt _))=true then _ else _) Q E s
           rw[if_neg (by intro h;rw[hn,Bool.false_and] at h;cases h)];exact bG hQ))
def Lr(K:aF)(a:aA):It :=
 ⟨λi H=>Ev2 λxs x=>ah K H a xs/\xs[i]?=some x,λi H x H'=>H'=H/\∀xs,ah K H a xs->xs[i]?=some x,λi H=>∃xs,ah K H a xs/\xs.length<=i⟩
def Tv(K:aF)(a:aA):It :=
 ⟨λi H=>Ev2 λxs x=>cq K H a xs/\xs[i]?=some x,λi H x H'=>H'=H/\∀xs,cq K H a xs->xs[i]?=some x,λi H=>∃xs,cq K H a xs/\xs.length<=i⟩
def Hd(lo:Int)(n:Nat):It:=⟨λi _=>i<n,λi H x H'=>H'=H/\x=.int (lo+i),λi _=>n<=i⟩
theorem b0Y{P:aM}{w:aL}{K:aF}{tg:aR}(a it:aA):JF P w K tg (Lr K a) [it] it (λi h=>h.IsListIter it a i) where
 mem:=by simp
 obj:=λi h st b hb=>by
  have e:b=it:=by simp_all
  subst e;obtain⟨o,e,c,d⟩:=st;exact⟨o,e,λv z=>by rw[d] at z;cases z⟩
 keep:=λi h h' st k=>st.at λo e=>k it (by simp) o e
 item:=by
  intro X hP hw hK hc i pins s σ H E I hf st hg;subst hP hw hK;obtain⟨xs,x,hq,hx⟩:=hg;obtain⟨its,rv,p,hz⟩:=I.list hq;obtain⟨u,hu,ru⟩:=rv.get hx;obtain⟨f0,f1,f2,f3,f4,f5⟩:=hf it (by simp);refine wpAny_pyNext_list_item st p.isList (by simpa using hu) λh' x_ sb=>?_;obtain⟨o,e,c,d⟩:=id x_;exact⟨u,rfl,MX e c d (by decide) ⟨x,H,(I.turned (t':=s.toks) (λb o hb e=>(sb.2 b hb).trans e) f0 f1 f3 f4 f5),ru,⟨rfl,λys hy=>by rw[I.rh hy hq];exact hx⟩,x_,λb hb=>(hf b hb).1⟩⟩
 done:=by
  intro X hP hw hK hc i pins s σ H E I hf st hg;subst hP hw hK;obtain⟨xs,hq,hx⟩:=hg;obtain⟨its,rv,p,hz⟩:=I.list hq;obtain⟨f0,f1,f2,f3,f4,f5⟩:=hf it (by simp);have hl:=rv.length;exact wpAny_pyNext_list_end (I.ok.hd hc) st p.isList (by simp;lia) λh' eb=>⟨rfl,I.turned (λb o hb e=>eb b o hb e) f0 f1 f3 f4 f5⟩
 self:=λ_ _ _ _ _ st h=>wpAny_pyIter_listiter st h
theorem a8u{P:aM}{w:aL}{K:aF}{tg:aR}(a it:aA):JF P w K tg (Tv K a) [it] it (λi h=>h.IsTupleIter it a i) where
 mem:=by simp
 obj:=λi h st b hb=>by
  have e:b=it:=by simp_all
  subst e;obtain⟨o,e,c,d⟩:=st;exact⟨o,e,λv z=>by rw[d] at z;cases z⟩
 keep:=λi h h' st k=>st.at λo e=>k it (by simp) o e
 item:=by
  intro X hP hw hK hc i pins s σ H E I hf st hg;subst hP hw hK;obtain⟨xs,x,hq,hx⟩:=hg;obtain⟨its,rv,p,hz⟩:=I.tuple hq;obtain⟨u,hu,ru⟩:=rv.get hx;obtain⟨f0,f1,f2,f3,f4,f5⟩:=hf it (by simp);refine wpAny_pyNext_tuple_item st (show s.heap.IsTuple a its.toArray from p) (by simpa using hu) λh' x_ sb=>?_;obtain⟨o,e,c,d⟩:=id x_;exact⟨u,rfl,MX e c d (by decide) ⟨x,H,(I.turned (t':=s.toks) (λb o hb e=>(sb.2 b hb).trans e) f0 f1 f3 f4 f5),ru,⟨rfl,λys hy=>by rw[I.vh hy hq];exact hx⟩,x_,λb hb=>(hf b hb).1⟩⟩
 done:=by
  intro X hP hw hK hc i pins s σ H E I hf st hg;subst hP hw hK;obtain⟨xs,hq,hx⟩:=hg;obtain⟨its,rv,p,hz⟩:=I.tuple hq;obtain⟨f0,f1,f2,f3,f4,f5⟩:=hf it (by simp);have hl:=rv.length;exact wpAny_pyNext_tuple_end (I.ok.hd hc) st (show s.heap.IsTuple a its.toArray from p) (by simp;lia) λh' eb=>⟨rfl,I.turned (λb o hb e=>eb b o hb e) f0 f1 f3 f4 f5⟩
 self:=λ_ _ _ _ _ st h=>wpAny_pyIter_tupleiter st h
theorem a8h{P:aM}{w:aL}{K:aF}{tg:aR}(it:aA)(lo:Int)(n:Nat):JF P w K tg (Hd lo n) [it] it (λi h=>IsRangeIter h it (lo+(i:Nat)*1) ((n:Int)-(i:Nat)) 1) where
 mem:=by simp
 obj:=λi h st b hb=>by
  have e:b=it:=by simp_all
  subst e;exact⟨_,st,λv z=>by
   have z':=z
   cases z'⟩
 keep:=λi h h' st k=>k it (by simp) _ st
 item:=by
  intro X hP hw hK hc i pins s σ H E I hf st hg;subst hP hw hK;obtain⟨f0,f1,f2,f3,f4,f5⟩:=hf it (by simp);refine(Walks.range (prog:=X.prog) (w:=X.w) (I.ok.hd hc) it lo 1 n).item i s _ _ hg st λv h' tk hv x_ kk=>?_;obtain⟨t,rfl⟩:=hv;have I1:Inv X pins σ H {s with heap:=h',toks:=tk}:=I.turned (λb o hb e=>kk b o (by simp_all) e) f0 f1 f3 f4 f5;refine⟨_,rfl,MX x_ rfl rfl (by decide) ⟨.int (lo+i),H,I1,⟨t,?_⟩,⟨rfl,rfl⟩,x_,λb hb=>(hf b hb).1⟩⟩;rw[jF]
 done:=by
  intro X hP hw hK hc i pins s σ H E I hf st hg;subst hP hw hK;obtain⟨f0,f1,f2,f3,f4,f5⟩:=hf it (by simp);exact wpAny_pyNext_range_end (I.ok.hd hc) st (by have:n<=i:=hg;lia) λh' eb=>⟨rfl,I.turned (λb o hb e=>eb b o hb e) f0 f1 f3 f4 f5⟩
 self:=λ_ _ _ _ _ st h=>wpAny_pyIter_rangeiter st h
def PU(K:aF)(tl:TE):TI:=λσ H R=>tl σ H λx H1=>∃a,x=.ref a/\(∃xs,ah K H1 a xs)/\R (Lr K a) H1
def Tw(K:aF)(tl:TE):TI:=λσ H R=>tl σ H λx H1=>∃a,x=.ref a/\(∃xs,cq K H1 a xs)/\R (Tv K a) H1
theorem C6(hl:PE X l tl):PI X tg l (PU X.K tl):=by
 intro pins s σ H R I h;refine D7 (hl pins s σ H _ I h) λv s1 ⟨x,H1,I1,r1,q1⟩=>?_;obtain⟨a,e,⟨xs,hq⟩,q⟩:=q1;subst e
 cases r1;obtain⟨its,rv,p,hz⟩:=I1.list hq;refine nF p.isList ⟨s1.heap.objs.size,[s1.heap.objs.size],_,_,H1,rfl,I1.kept λb o e=>bL _ e,b0Y a _,⟨_,dG _ rfl,rfl,rfl⟩,λb hb=>?_,q⟩;have e:b=s1.heap.objs.size:=by simp_all
 subst e;exact I1.xy (aT _) (I1.ck.fresh (aT _))
theorem IE(hl:PE X l tl):PI X tg l (Tw X.K tl):=by
 intro pins s σ H R I h;refine D7 (hl pins s σ H _ I h) λv s1 ⟨x,H1,I1,r1,q1⟩=>?_;obtain⟨a,e,⟨xs,hq⟩,q⟩:=q1;subst e
 cases r1;obtain⟨its,rv,p,hz⟩:=I1.tuple hq;refine sT (show s1.heap.IsTuple a its.toArray from p) ⟨s1.heap.objs.size,[s1.heap.objs.size],_,_,H1,rfl,I1.kept λb o e=>bL _ e,a8u a _,⟨_,dG _ rfl,rfl,rfl⟩,λb hb=>?_,q⟩;have e:b=s1.heap.objs.size:=by simp_all
 subst e;exact I1.xy (aT _) (I1.ck.fresh (aT _))
theorem b3x{σ:St}{lo}(I:Inv X pins σ H s)(h1:-(2^62)<=lo)(h2:lo<2^62)(h3:-(2^62)<=hi)(h4:hi<2^62)
  (q:R (Hd lo (hi-lo).toNat) H):wpAny (model X.prog X.w) X.A (pyIter (.ref s.heap.objs.size)) (PR X pins σ tg R) E {s with heap:=s.heap.push {cls:=.type "range",data:=.fields #[.int lo t,.int hi u,.int 1 v]},toks:=tk}:=by
 refine wpAny_pyIter_range (IsRange.new ..) (small_one h1 h2 h3 h4) ?_;have I1:Inv X pins σ H {s with heap:=s.heap.push {cls:=.type "range",data:=.fields #[.int lo t,.int hi u,.int 1 v]},toks:=tk}:=I.kept λb o e=>bL _ e;refine⟨(s.heap.push {cls:=.type "range",data:=.fields #[.int lo t,.int hi u,.int 1 v]}).objs.size,[(s.heap.push {cls:=.type "range",data:=.fields #[.int lo t,.int hi u,.int 1 v]}).objs.size],_,_,H,rfl,
  I1.kept λb o e=>bL _ e,a8h _ lo (hi-lo).toNat,?_,λb hb=>?_,q⟩
 ·have e1:lo+((0:Nat):Int)*1=lo:=by simp
  have e2:(((hi-lo).toNat:Nat):Int)-((0:Nat):Int)=sU lo hi 1:=by rw[sV];split<;>lia
  rw[e1,e2];exact dG _ rfl
 ·have e:b=(s.heap.push {cls:=.type "range",data:=.fields #[.int lo t,.int hi u,.int 1 v]}).objs.size:=by simp_all
  subst e;exact I1.xy (aT _) (I1.ck.fresh (aT _))
def b8D(ta:TA):TI:=λσ H R=>ta σ H λvs H1=>∃j,vs=[.int j]/\-(2^62)<=j/\j<2^62/\R (Hd 0 j.toNat) H1
theorem R8(hg:Gl X "range")(hm:X.mg "range"=none)(ha:PA X [a] ta)(hs:starEach [a] X.env=[(false,eval a X.env)]:=by rfl):PI X tg (.Call (.Name "range" p) [a] [] pos) (b8D ta):=by
 intro pins s σ H R I h;refine Call_ (JD I hg hm boot_range (nJ (D7 (ha pos pins s σ H _ I h) λus s1 ⟨vs,H1,I1,r1,q1⟩=>?_) hs rfl));obtain⟨j,e,q1,q2,q⟩:=q1;subst e
 cases r1 with
 |cons r rr =>
  cases rr;obtain⟨t,rfl⟩:=r;exact sW (b3x I1 (by lia) (by lia) q1 q2 (by lia))
def EF(wi:TI)(g:TG)(tb:TS):TS:=λD σ H=>wi σ H λJ H1=>∃W:Nat->Nat->St->Hp->Prop,(∃m,W 0 m σ H1)/\∀i m σ H,W i m σ H →
 (J.stop i H/\D.nx σ H)\/(J.go i H/\∃N,(∀au H',N au H'->∃m',m'<m/\W (i+1) m' au H')/\∀x H',J.By i H x H'->g x σ H' λir H2=>tb {D with nx:=N,ct:=N,bk:=D.nx} ir H2)
def MY(fp:List aA)(h:aJ):List (aA×Obj):=fp.filterMap λb=>(h.get? b).map λo=>(b,o)
theorem PV(hb:b∈fp)(e:h.get? b=some o):(b,o)∈MY fp h:=nK.mpr ⟨b,hb,by rw[e];rfl⟩
theorem b0p(hp:p∈MY fp h):p.1∈fp/\h.get? p.1=some p.2:=by
 obtain⟨b,hb,e⟩:=nK.mp hp
 cases q:h.get? b with
 |none=>rw[q] at e;cases e
 |some o =>
  rw[q] at e;have e':=bD e;subst e';exact⟨hb,q⟩
theorem Inv.pinned{σ:St}(I:Inv X pins σ H s)(hf:∀b∈fp,xp X pins H b)(ho:∀b∈fp,∃o,s.heap.get? b=some o/\∀v,o.data≠.cell v):Inv X (pins++MY fp s.heap) σ H s :=
 I.ke λp hp=>(bJ.mp hp).elim (λz=>I.pin p (eL _ z)) λz=>by
  obtain⟨hb,e⟩:=b0p z;obtain⟨f0,f1,f2,_⟩:=hf p.1 hb;obtain⟨o,e',d⟩:=ho p.1 hb;rw[e] at e';cases e';exact⟨e,f0,f1,f2,d⟩
def Inv.ki{σ:St}(I:Inv X (pins++pl) σ H s):Inv X pins σ H s:=I.ke λp hp=>I.pin p (eL _ (fW _ hp))
theorem IF(hp:qG (model X.prog X.w) X.A X.env X.xe)(hc:X.calm=true)(hi:PI X tg iter wi)(hg:PG X tg g)(hb:fu X body tb)
  (hs:∀x,foldedSetIterable iter X.env x=pure x:=by intro _;rfl):PS X (.For tg iter body [] pos) (EF wi g tb):=by
 intro pins s σ H D I h;refine wpAny_For (D7 (hi pins s σ H _ I h) λv s1 h1=>D7 h1 λHc s2 h2=>?_) hs;obtain⟨it,fp,tn,J,H2,e,I2,T,Gz,f2,W,⟨m0,w0⟩,turn⟩:=h2;subst e;have stat:∀{H':Hp},(∀b∈fp,H' b=none)->∀b∈fp,xp X pins H' b:=λhn b hb=>⟨hn b hb,(f2 b hb).2⟩;refine codeAny_forLoop_any (λn s'=>Ev3 λi au H'=>Inv X pins au H' s'/\tn i s'.heap/\(∀b∈fp,H' b=none)/\W i n au H') ?_ m0 ⟨0,σ,H2,I2,Gz,λb hb=>(f2 b hb).1,w0⟩;rintro n s3 ⟨i,zx,H3,I3,PX,fr3,w3⟩;rcases turn i n zx H3 w3 with⟨stop,qn⟩|⟨go,N,hN,step⟩
 ·refine jE hp (D7 (T.done X rfl rfl rfl hc i pins s3 zx H3 X.xe I3 (stat fr3) PX stop) λr s4 ⟨hr,I4⟩=>?_)
  subst hr;exact lP ⟨zx,H3,I4,qn⟩
 ·refine jE hp (D7 (T.item X rfl rfl rfl hc i pins s3 zx H3 X.xe I3 (stat fr3) PX go) λr s4 ⟨u,hr,h4⟩=>?_)
  subst hr;refine jE hp (D7 h4 λ_ s5 ⟨x,H5,I5,r5,y5,Ls,PY⟩=>(jE hp (D7 (hg _ s5 zx H5 x u _ (I5.pinned (stat PY) (T.obj _ _ Ls)) r5 (step x H5 y5)) λ_ s6 ⟨Tz,H6,I6,q6⟩=>(jE hp (D7 (hb _ s6 Tz H6 _ I6 q6) λf s7 q7=>?_)))));have again:∀{EG:St}{H7:Hp},Inv X (pins++MY fp s5.heap) EG H7 s7->N EG H7->∃m,m<n/\Ev3 λi au H'=>Inv X pins au H' s7/\tn i s7.heap/\(∀b∈fp,H' b=none)/\W i m au H':=λ{EG H7}I7 n7=>by
   obtain⟨m',hm,w7⟩:=hN EG H7 n7;refine⟨m',hm,i+1,EG,H7,I7.ki,T.keep _ _ _ Ls λb hb o e=>(I7.pin (b,o) (eL _ (eL _ (PV hb e)))).1,λb hb=>?_,w7⟩;obtain⟨o,e,d⟩:=T.obj _ _ Ls b hb;exact(I7.pin (b,o) (eL _ (eL _ (PV hb e)))).2.1
  cases f with
  |next=>obtain⟨EG,H7,I7,n7⟩:=q7;exact again I7 n7
  |cont=>obtain⟨EG,H7,I7,n7⟩:=q7;exact again I7 n7
  |brk=>obtain⟨EG,H7,I7,q7⟩:=q7;exact⟨EG,H7,I7.ki,q7⟩
  |ret v=>obtain⟨x7,EG,H7,I7,r7,q7⟩:=q7;exact⟨x7,EG,H7,I7.ki,r7,q7⟩
theorem a7j{K}{g:TG}{tb:TS}{D:Ends}(Pv:Nat->St->Hp->Prop)(h0:Pv 0 σ H)(hl:∀i σ H,i<=xs.length->Pv i σ H->ah K H a xs)
  (hs:∀i x σ H,xs[i]?=some x->Pv i σ H->g x σ H λir H2=>tb {D with nx:=Pv (i+1),ct:=Pv (i+1),bk:=D.nx} ir H2) (hd:∀σ H,Pv xs.length σ H->D.nx σ H) :
  ∃W:Nat->Nat->St->Hp->Prop,(∃m,W 0 m σ H)/\∀i m σ H,W i m σ H →
   ((Lr K a).stop i H/\D.nx σ H)\/((Lr K a).go i H/\∃N,(∀au H',N au H'->∃m',m'<m/\W (i+1) m' au H')/\∀x H',(Lr K a).By i H x H'->g x σ H' λir H2=>tb {D with nx:=N,ct:=N,bk:=D.nx} ir H2):=by
 refine⟨λi m σ H=>m=xs.length-i/\i<=xs.length/\Pv i σ H,⟨xs.length,by simp,dM _,h0⟩,?_⟩;rintro i m σ H ⟨rfl,hi,p⟩;have q:=hl i σ H hi p
 by_cases fk:i<xs.length
 ·refine .inr ⟨⟨xs,xs[i],q,by simp[fk]⟩,Pv (i+1),λau H' p'=>⟨xs.length-(i+1),by lia,rfl,fk,p'⟩,λx H' y=>?_⟩
  obtain⟨e,y⟩:=y;subst e;exact hs i x σ _ (y xs q) p
 ·have e:i=xs.length:=by lia
  subst e;exact .inl ⟨⟨xs,q,aT _⟩,hd σ H p⟩
theorem PZ{lo}{g:TG}{tb:TS}{D:Ends}(Pv:Nat->St->Hp->Prop)(h0:Pv 0 σ H)
  (hs:∀i σ H,i<n->Pv i σ H->g (.int (lo+i)) σ H λir H2=>tb {D with nx:=Pv (i+1),ct:=Pv (i+1),bk:=D.nx} ir H2) (hd:∀σ H,Pv n σ H->D.nx σ H) :
  ∃W:Nat->Nat->St->Hp->Prop,(∃m,W 0 m σ H)/\∀i m σ H,W i m σ H →
   ((Hd lo n).stop i H/\D.nx σ H)\/((Hd lo n).go i H/\∃N,(∀au H',N au H'->∃m',m'<m/\W (i+1) m' au H')/\∀x H',(Hd lo n).By i H x H'->g x σ H' λir H2=>tb {D with nx:=N,ct:=N,bk:=D.nx} ir H2):=by
 refine⟨λi m σ H=>m=n-i/\i<=n/\Pv i σ H,⟨n,by simp,dM _,h0⟩,?_⟩;rintro i m σ H ⟨rfl,hi,p⟩
 by_cases fk:i<n
 ·refine .inr ⟨fk,Pv (i+1),λau H' p'=>⟨n-(i+1),by lia,rfl,fk,p'⟩,λx H' y=>?_⟩
  obtain⟨e,y⟩:=y;subst e y;exact hs i σ _ fk p
 ·have e:i=n:=by lia
  subst e;exact .inl ⟨Nat.le_refl _,hd σ H p⟩
theorem b2G(Pv:St->Hp->Prop)(μ:St->Hp->Nat)(h0:Pv σ H)
  (hs:∀σ H,Pv σ H->c σ H λb H1=>if b=true then tb {D with nx:=λau H'=>Pv au H'/\μ au H'<μ σ H,ct:=λau H'=>Pv au H'/\μ au H'<μ σ H,bk:=D.nx} σ H1 else D.nx σ H1)
  (mono:∀σ H Q Q',(∀b H1,Q b H1->Q' b H1)->c σ H Q->c σ H Q'):b2f c tb D σ H:=by
 refine⟨λm σ H=>m=μ σ H/\Pv σ H,⟨_,rfl,h0⟩,?_⟩;rintro m σ H ⟨rfl,p⟩;refine mono σ H _ _ (λb H1 q=>?_) (hs σ H p)
 cases b with
 |true=>exact⟨_,λau H' ⟨p',l⟩=>⟨_,l,rfl,p'⟩,q⟩
 |false=>exact q
abbrev R2:=V->V->Hp->VK->Prop
def gw(X:Cx)(f:aE->aE->Sem aE)(r:R2):Prop :=
 ∀pins s(σ:St)H x y v u Q,Inv X pins σ H s->RelV x v->RelV y u->r x y H Q →
  wpAny (model X.prog X.w) X.A (f v u) (EP X pins σ Q) X.xe s
def TC(X:Cx)(f:aE->Sem aE)(r:V->Hp->VK->Prop):Prop :=
 ∀pins s(σ:St)H x v Q,Inv X pins σ H s->RelV x v->r x H Q →
  wpAny (model X.prog X.w) X.A (f v) (EP X pins σ Q) X.xe s
def K6(X:Cx)(f:aE)(r:List V->Hp->VK->Prop):Prop :=
 ∀pins s(σ:St)H xs us Q,Inv X pins σ H s->Vals xs us->r xs H Q →
  wpAny (model X.prog X.w) X.A (call f us) (EP X pins σ Q) X.xe s
def c0l(X:Cx)(r:V->Hp->(Bool->Hp->Prop)->Prop):Prop :=
 ∀pins s(σ:St)H x v Q,Inv X pins σ H s->RelV x v->r x H Q →
  wpAny (model X.prog X.w) X.A (truthy v) (TP X pins σ Q) X.xe s
def P_(r:R2)(ta tb:TE):TE:=λσ H Q=>ta σ H λx H1=>tb σ H1 λy H2=>r x y H2 Q
def tUn(r:V->Hp->VK->Prop)(ta:TE):TE:=λσ H Q=>ta σ H λx H1=>r x H1 Q
inductive rI(C:Int->Int->Prop)(g:Int->Int->V)(x y:V)(H:Hp)(Q:VK):Prop|mk:∀i j,x=.int i->y=.int j->C i j->Q (g i j) H->rI C g x y H Q
inductive IG(g:Int->Int->V)(x y:V)(H:Hp)(Q:VK):Prop|mk:∀i j,x=.int i->y=.int j->Q (g i j) H->IG g x y H Q
inductive rU(g:Int->V)(x:V)(H:Hp)(Q:VK):Prop|mk:∀i,x=.int i->Q (g i) H->rU g x H Q
theorem TF(ha:PE X a ta)(hb:PE X b tb){σ:St}{R:V->V->Hp->Prop}(I:Inv X pins σ H s)
  (h:ta σ H λx H1=>tb σ H1 λy H2=>R x y H2) {f:aE->aE->Sem aE}
  (hf:∀v u s2 x y H2,Inv X pins σ H2 s2->RelV x v->RelV y u->R x y H2->wpAny (model X.prog X.w) X.A (f v u) Q X.xe s2) :
  wpAny (model X.prog X.w) X.A (eval a X.env) (λv vy=>wpAny (model X.prog X.w) X.A (eval b X.env) (λu vz=>wpAny (model X.prog X.w) X.A (f v u) Q X.xe vz) X.xe vy) X.xe s:=by
 exact D7 (ha pins s σ H _ I h) λv s1 ⟨x,H1,I1,r1,q1⟩=>(D7 (hb pins s1 σ H1 _ I1 q1) λu s2 ⟨y,H2,I2,r2,q2⟩=>(hf v u s2 x y H2 I2 r1 r2 q2))
theorem j8(ho:gw X (binaryOp op) r)(ha:PE X a ta)(hb:PE X b tb):PE X (.BinOp a op b pos) (P_ r ta tb):=by
 intro pins s σ H Q I h;exact wpAny_BinOp (TF ha hb I h λv u s2 x y H2 I2 rx ry q=>ho pins s2 σ H2 x y v u Q I2 rx ry q)
theorem Eh(ho:TC X (unaryOp op) r)(ha:PE X a ta):PE X (.UnaryOp op a pos) (tUn r ta):=by
 intro pins s σ H Q I h;exact UnaryOp_ (D7 (ha pins s σ H _ I h) λv s1 ⟨x,H1,I1,r1,q1⟩=>ho pins s1 σ H1 x v Q I1 r1 q1)
theorem Lu{g:Int->Int->Int}
  (rule:∀i j t u s Q E,C i j->Q (.int (g i j) s.toks) {s with toks:=s.toks+1}->wpAny (model X.prog X.w) X.A (f (.int i t) (.int j u)) Q E s) :
  gw X f (rI C λi j=>.int (g i j)):=by
 intro pins s σ H x y v u Q I rx ry h;obtain⟨i,j,rfl,rfl,hc,q⟩:=h;obtain⟨t,rfl⟩:=rx;obtain⟨t',rfl⟩:=ry;exact rule i j t t' s _ _ hc ⟨.int (g i j),H,I.tok _,⟨_,rfl⟩,q⟩
theorem b8w{g:Int->Int->Int}
  (rule:∀i j t u s Q E,Q (.int (g i j) s.toks) {s with toks:=s.toks+1}->wpAny (model X.prog X.w) X.A (f (.int i t) (.int j u)) Q E s) :
  gw X f (IG λi j=>.int (g i j)):=by
 intro pins s σ H x y v u Q I rx ry h;obtain⟨i,j,rfl,rfl,q⟩:=h;obtain⟨t,rfl⟩:=rx;obtain⟨t',rfl⟩:=ry;exact rule i j t t' s _ _ ⟨.int (g i j),H,I.tok _,⟨_,rfl⟩,q⟩
theorem P'{g:Int->Int->Bool}
  (rule:∀i j t u s Q E,Q (.bool (g i j)) s->wpAny (model X.prog X.w) X.A (f (.int i t) (.int j u)) Q E s) :
  gw X f (IG λi j=>.bl (g i j)):=by
 intro pins s σ H x y v u Q I rx ry h;obtain⟨i,j,rfl,rfl,q⟩:=h;obtain⟨t,rfl⟩:=rx;obtain⟨t',rfl⟩:=ry;exact rule i j t t' s _ _ ⟨.bl (g i j),H,I,rfl,q⟩
def c0g(i j:Int):Prop:=0<j/\j<1073741824
def c1d(i j:Int):Prop:=0<=j/\j<=1000000/\i.natAbs<2^64
def EH(i j:Int):Prop:=(-(2^64)<i/\i<2^64)\/(-(2^64)<j/\j<2^64)
theorem EH.ok(h:EH i j):IntMulOk i j:=by
 rcases h with⟨h1,h2⟩|⟨h1,h2⟩
 ·exact .of_left (sX h1 h2)
 ·exact .of_right (sX h1 h2)
def D4:gw X (binaryOp .Add) (IG λi j=>.int (i+j)):=b8w λ_ _ _ _ _ _ _ q=>add_int q
def IH:gw X (binaryOp .Sub) (IG λi j=>.int (i-j)):=b8w λ_ _ _ _ _ _ _ q=>sub_int q
def He:gw X (binaryOp .Mult) (rI EH λi j=>.int (i*j)):=Lu λ_ _ _ _ _ _ _ hc q=>mul_int q hc.ok
theorem V9:gw X (binaryOp .FloorDiv) (rI c0g λi j=>.int (i/j)):=Lu λi j _ _ _ _ _ hc q=>by
 have h1:(0:Int)<j:=hc.1;have h2:j<1073741824:=hc.2;exact sY (by lia) (by rw[sZ i (by lia)];exact q) (.inl (PyProof.noPylong_small (by lia)))
theorem w8:gw X (binaryOp .Mod) (rI (λ_ j=>0<j) λi j=>.int (i%j)):=Lu λi j _ _ _ _ _ hc q=>by
 exact mod_int' (by lia) (by rw[Int.fmod_eq_emod_of_nonneg i (by lia)];exact q)
def Qa:gw X (binaryOp .Pow) (rI c1d λi j=>.int (i^j.toNat)):=Lu λ_ _ _ _ _ _ _ hc q=>pow_int_small hc.1 hc.2.1 hc.2.2 q
theorem unI{g:Int->Int}
  (rule:∀i t s Q E,Q (.int (g i) s.toks) {s with toks:=s.toks+1}->wpAny (model X.prog X.w) X.A (f (.int i t)) Q E s) :
  TC X f (rU λi=>.int (g i)):=by
 intro pins s σ H x v Q I rx h;obtain⟨i,rfl,q⟩:=h;obtain⟨t,rfl⟩:=rx;exact rule i t s _ _ ⟨.int (g i),H,I.tok _,⟨_,rfl⟩,q⟩
def V2:TC X (unaryOp .USub) (rU λi=>.int (-i)):=unI λ_ _ _ _ _ q=>neg_int q
def b9r:V->V->Bool
 |.non,.non=>true|.non,.int _=>true|.int _,.non=>true|.non,.bl _=>true|.bl _,.non=>true|.non,.str _=>true|.str _,.non=>true
 |.int _,.int _=>true|.bl _,.bl _=>true|.str _,.str _=>true|.Bv _,.Bv _=>true
 |.int _,.str _=>true|.str _,.int _=>true|.bl _,.str _=>true|.str _,.bl _=>true
 |_,_=>false
def rEq:R2:=λx y H Q=>b9r x y=true/\Q (.bl (decide (x=y))) H
def rNe:R2:=λx y H Q=>b9r x y=true/\Q (.bl (!decide (x=y))) H
theorem a9T:decide (V.int i=V.int j)=(i==j):=by
 rw[iD];simp
theorem b1C:decide (V.bl i=V.bl j)=(i==j):=by
 rw[iD];simp
theorem a9u:decide (V.str i=V.str j)=(i==j):=by
 rw[iD];simp
theorem a8X:decide (V.Bv i=V.Bv j)=(i.toList==j.toList):=by
 rw[iD]
 cases i
 cases j;simp
theorem A8{σ:St}(I:Inv X pins σ H s)(q:Q (.bl k) H)(e:k=k'):EP X pins σ Q (.bool k') s:=by
 subst e;exact⟨.bl k,H,I,rfl,q⟩
theorem E6:gw X (compareOp .Eq) rEq:=by
 intro pins s σ H x y v u Q I rx ry h;obtain⟨hs,q⟩:=h
 cases x with
 |non =>
  cases rx
  cases y with
  |non=>cases ry;exact yT (A8 I q (by simp))
  |bl j=>cases ry;exact yU (A8 I q (by simp))
  |int j=>obtain⟨t',rfl⟩:=ry;exact yV (A8 I q (by simp))
  |str j=>obtain⟨t',rfl⟩:=ry;exact yW (A8 I q (by simp))
  |_=>exact absurd (show false=true from hs) cX
 |bl i =>
  cases rx
  cases y with
  |non=>cases ry;exact yX (A8 I q (by simp))
  |bl j=>cases ry;exact eq_bool (A8 I q b1C)
  |str j=>obtain⟨t',rfl⟩:=ry;exact yY (A8 I q (by simp))
  |_=>exact absurd (show false=true from hs) cX
 |int i =>
  obtain⟨t,rfl⟩:=rx
  cases y with
  |non=>cases ry;exact yZ (A8 I q (by simp))
  |int j=>obtain⟨t',rfl⟩:=ry;exact eq_int (A8 I q a9T)
  |str j=>obtain⟨t',rfl⟩:=ry;exact zA (A8 I q (by simp))
  |_=>exact absurd (show false=true from hs) cX
 |str i =>
  obtain⟨t,rfl⟩:=rx
  cases y with
  |non=>cases ry;exact zB (A8 I q (by simp))
  |bl j=>cases ry;exact zC (A8 I q (by simp))
  |int j=>obtain⟨t',rfl⟩:=ry;exact zD (A8 I q (by simp))
  |str j=>obtain⟨t',rfl⟩:=ry;exact eq_str (A8 I q a9u)
  |_=>exact absurd (show false=true from hs) cX
 |Bv i =>
  obtain⟨t,rfl⟩:=rx
  cases y with
  |Bv j=>obtain⟨t',rfl⟩:=ry;exact W.eq_bytes (A8 I q a8X)
  |_=>exact absurd (show false=true from hs) cX
 |_=>cases y<;>exact absurd (show false=true from hs) cX
theorem Ei:gw X (compareOp .NotEq) rNe:=by
 intro pins s σ H x y v u Q I rx ry h;obtain⟨hs,q⟩:=h
 cases x with
 |non =>
  cases rx
  cases y with
  |non=>cases ry;exact zE (A8 I q (by simp))
  |bl j=>cases ry;exact zF (A8 I q (by simp))
  |int j=>obtain⟨t',rfl⟩:=ry;exact zG (A8 I q (by simp))
  |str j=>obtain⟨t',rfl⟩:=ry;exact zH (A8 I q (by simp))
  |_=>exact absurd (show false=true from hs) cX
 |bl i =>
  cases rx
  cases y with
  |non=>cases ry;exact zI (A8 I q (by simp))
  |bl j=>cases ry;exact ne_bool (A8 I q (congrArg not b1C))
  |str j=>obtain⟨t',rfl⟩:=ry;exact zJ (A8 I q (by simp))
  |_=>exact absurd (show false=true from hs) cX
 |int i =>
  obtain⟨t,rfl⟩:=rx
  cases y with
  |non=>cases ry;exact zK (A8 I q (by simp))
  |int j=>obtain⟨t',rfl⟩:=ry;exact ne_int (A8 I q (congrArg not a9T))
  |str j=>obtain⟨t',rfl⟩:=ry;exact zL (A8 I q (by simp))
  |_=>exact absurd (show false=true from hs) cX
 |str i =>
  obtain⟨t,rfl⟩:=rx
  cases y with
  |non=>cases ry;exact zM (A8 I q (by simp))
  |bl j=>cases ry;exact zN (A8 I q (by simp))
  |int j=>obtain⟨t',rfl⟩:=ry;exact zO (A8 I q (by simp))
  |str j=>obtain⟨t',rfl⟩:=ry;exact ne_str (A8 I q (congrArg not a9u))
  |_=>exact absurd (show false=true from hs) cX
 |Bv i =>
  obtain⟨t,rfl⟩:=rx
  cases y with
  |Bv j=>obtain⟨t',rfl⟩:=ry;exact W.ne_bytes (A8 I q (congrArg not a8X))
  |_=>exact absurd (show false=true from hs) cX
 |_=>cases y<;>exact absurd (show false=true from hs) cX
def EI:gw X (compareOp .Lt) (IG λi j=>.bl (decide (i<j))):=P' λ_ _ _ _ _ _ _ q=>lt_int q
def EJ:gw X (compareOp .LtE) (IG λi j=>.bl (decide (i<=j))):=P' λ_ _ _ _ _ _ _ q=>le_int q
def Ej:gw X (compareOp .Gt) (IG λi j=>.bl (decide (j<i))):=P' λ_ _ _ _ _ _ _ q=>gt_int q
def Qb:gw X (compareOp .GtE) (IG λi j=>.bl (decide (j<=i))):=P' λ_ _ _ _ _ _ _ q=>ge_int q
theorem Lv:gw X (compareOp .Is) (λx y H Q=>y=.non/\Q (.bl (decide (x=.non))) H):=by
 intro pins s σ H x y v u Q I rx ry h;obtain⟨rfl,q⟩:=h
 cases ry;refine is_none_gen (A8 I q ?_)
 cases x<;>first
  |(cases rx;rfl)
  |(obtain⟨t,rfl⟩:=rx;rfl)
theorem a9G:gw X (compareOp .IsNot) (λx y H Q=>y=.non/\Q (.bl (!decide (x=.non))) H):=by
 intro pins s σ H x y v u Q I rx ry h;obtain⟨rfl,q⟩:=h
 cases ry;refine isnot_none_gen (A8 I q ?_)
 cases x<;>first
  |(cases rx;rfl)
  |(obtain⟨t,rfl⟩:=rx;rfl)
theorem a2o:gw X (compareOp .NotIn) (λx y H Q=>Ev2 λi j=>x=.str i/\y=.str j/\Q (.bl (!(!(jG j i 0 j.length 1).isEmpty))) H):=by
 intro pins s σ H x y v u Q I rx ry h;obtain⟨i,j,rfl,rfl,q⟩:=h;obtain⟨t,rfl⟩:=rx;obtain⟨t',rfl⟩:=ry;exact notIn_str (A8 I q rfl)
theorem r9 b(h:op≠.In:=by decide)(h2:op≠.NotIn:=by decide):behindInMarks op b=false:=by
 have e1:(op==CmpOp.In)=false:=by cases op<;>first|rfl|exact absurd rfl h
 have e2:(op==CmpOp.NotIn)=false:=by cases op<;>first|rfl|exact absurd rfl h2
 cases b<;>simp[behindInMarks,e1,e2]
theorem Z3(ho:gw X (compareOp op) r)(ha:PE X a ta)(hb:PE X b tb)(hm:behindInMarks op b=false):PE X (.Compare a [op] [b] pos) (P_ r ta tb):=by
 intro pins s σ H Q I h;exact wpAny_Compare1 (TF ha hb I h λv u s2 x y H2 I2 rx ry q=>ho pins s2 σ H2 x y v u Q I2 rx ry q) hm
def b6m(t:TE):TT:=λσ H Q=>t σ H λx H'=>∃k,x=.bl k/\Q k H'
theorem l5(ho:gw X (compareOp op) r)(ha:PE X a ta)(hb:PE X b tb)(hm:behindInMarks op b=false):PT X (.Compare a [op] [b] pos) (b6m (P_ r ta tb)):=by
 intro pins s σ H Q I h;refine wpAny_isTrue_Compare1 (D7 (ha pins s σ H _ I h) λv s1 ⟨x,H1,I1,r1,q1⟩=>D7 (hb pins s1 σ H1 _ I1 q1) λu s2 ⟨y,H2,I2,r2,q2⟩ =>
  D7 (ho pins s2 σ H2 x y v u _ I2 r1 r2 q2) λc s3 ⟨z,H3,I3,r3,k,e,q3⟩=>?_) hm
 subst e
 cases r3;exact gC ⟨H3,I3,q3⟩
def b2e(r r':R2)(ta tb tc:TE):TE:=λσ H Q=>ta σ H λx H1=>tb σ H1 λy H2=>r x y H2 λz H3=>∃k,z=.bl k/\
 (if k=true then tc σ H3 λw' H4=>r' y w' H4 Q else Q (.bl false) H3)
theorem b1L(ho:gw X (compareOp op) r)(mj:gw X (compareOp JG) r')(ha:PE X a ta)(hb:PE X b tb)(hc:PE X c tc)
  (hm:lastMarks [op,JG] [b,c]=false:=by with_unfolding_all rfl):PE X (.Compare a [op,JG] [b,c] pos) (b2e r r' ta tb tc):=by
 intro pins s σ H Q I h;refine Compare_chain (D7 (ha pins s σ H _ I h) λv s1 ⟨x,H1,I1,r1,q1⟩=>chain_link (D7 (hb pins s1 σ H1 _ I1 q1) λu s2 ⟨y,H2,I2,r2,q2⟩ =>
  D7 (ho pins s2 σ H2 x y v u _ I2 r1 r2 q2) λd s3 ⟨z,H3,I3,r3,k,e,q3⟩=>?_)) hm
 subst e
 cases r3;refine gC ?_
 cases k with
 |false=>exact ite_ff ⟨.bl false,H3,I3,rfl,q3⟩
 |true=>exact ite_tt (chain_last (D7 (hc pins s3 σ H3 _ I3 q3) λw' s4 ⟨z',H4,I4,r4,q4⟩=>mj pins s4 σ H4 y z' u w' Q I4 r2 r4 q4))
theorem MZ(ho:gw X (compareOp op) r)(mj:gw X (compareOp JG) r')(ha:PE X a ta)(hb:PE X b tb)(hc:PE X c tc)
  (hm:lastMarks [op,JG] [b,c]=false:=by with_unfolding_all rfl):PT X (.Compare a [op,JG] [b,c] pos) (b6m (b2e r r' ta tb tc)):=by
 intro pins s σ H Q I h;refine isTrue_chain (D7 (ha pins s σ H _ I h) λv s1 ⟨x,H1,I1,r1,q1⟩=>test_link (D7 (hb pins s1 σ H1 _ I1 q1) λu s2 ⟨y,H2,I2,r2,q2⟩ =>
  D7 (ho pins s2 σ H2 x y v u _ I2 r1 r2 q2) λd s3 ⟨z,H3,I3,r3,k,e,q3⟩=>?_)) hm
 subst e
 cases r3;refine gC ?_
 cases k with
 |false =>
  obtain⟨k',e',q'⟩:=q3
  cases e';exact ite_ff ⟨H3,I3,q'⟩
 |true =>
  refine ite_tt (test_last (D7 (hc pins s3 σ H3 _ I3 q3) λw' s4 ⟨z',H4,I4,r4,q4⟩=>D7 (mj pins s4 σ H4 y z' u w' _ I4 r2 r4 q4) λd' s5 ⟨z2,H5,I5,r5,k2,e2,q5⟩=>?_));subst e2
  cases r5;exact gC ⟨H5,I5,q5⟩
def b8t(K:aF)(x:V)(H:Hp)(k:Bool):Prop :=
 match x with
 |.non=>k=false
 |.bl b=>k=b
 |.int i=>k=(i != 0)
 |.str y=>y.length<=sizeLine/\k=((y.length:Int) != 0)
 |.Bv y=>y.size<=sizeLine/\k=((y.size:Int) != 0)
 |.ref p=>(∃xs,ah K H p xs/\k=!xs.isEmpty)\/(∃xs,cq K H p xs/\k=!xs.isEmpty)\/∃dz,H p=some (.dK dz)/\k=!dz.isEmpty
 |_=>False
theorem a8r{vs:List (κ×Value)}(r:KV dz vs):(!vs.isEmpty)=!dz.isEmpty:=by
 cases r<;>rfl
theorem a4C(r:Vals xs its):(!its.toArray.isEmpty)=!xs.isEmpty:=by
 cases r<;>simp
theorem JH:(sizeLine:Nat)<2^63:=by decide
theorem b7z:c0l X (λx H Q=>∃k,b8t X.K x H k/\Q k H):=by
 intro pins s σ H x v Q I rx h;obtain⟨k,e,q⟩:=h;have hs:=bE
 cases x with
 |non =>
  cases rx;have e':=e;subst e';exact truthy_none ⟨H,I,q⟩
 |bl b =>
  cases rx;have e':=e;subst e';exact gC ⟨H,I,q⟩
 |int i =>
  obtain⟨t,rfl⟩:=rx;have e':=e;subst e';exact PySem.P.truthy_int ⟨H,I,q⟩
 |str y =>
  obtain⟨t,rfl⟩:=rx;obtain⟨hy,e'⟩:y.length<=sizeLine/\k=((y.length:Int) != 0):=e;subst e';exact PySem.P.truthy_str (by lia) ⟨H,I.tok _,q⟩
 |Bv y =>
  obtain⟨t,rfl⟩:=rx;obtain⟨hy,e'⟩:y.size<=sizeLine/\k=((y.size:Int) != 0):=e;subst e';exact W.truthy_bytes (by lia) ⟨H,I.tok _,q⟩
 |ref p =>
  cases rx;have e':=e;rcases e' with⟨xs,hx,e'⟩|⟨xs,hx,e'⟩|⟨dz,hx,e'⟩
  ·subst e'
   obtain⟨its,r,pl,hz⟩:=I.list hx;have hlen:=r.length;exact wpAny_truthy_list pl.isList (by simp only[bY];lia) ⟨H,I.tok _,by rw[a4C r];exact q⟩
  ·subst e'
   obtain⟨its,r,pl,hz⟩:=I.tuple hx;have hlen:=r.length;exact truthy_tuple pl (by simp only[bY];lia) ⟨H,I.tok _,by rw[a4C r];exact q⟩
  ·subst e'
   obtain⟨hz,hS,vs,r,m⟩:dz.length<=sizeLine/\(p==sysModules)=false/\∃vs,KV dz vs/\s.heap.DictOf (Tb X.prog X.w) p vs:=I.ck p _ hx;have hlen:dz.length=vs.length:=dE r;exact wpAny_truthy_dict hS m (by lia) ⟨H,I.tok _,by rw[a8r r];exact q⟩
 |_=>exact(show False from e).elim
theorem a7J(ha:PE X a ta)(he:∀whole,isTrue a X.env whole=(do let v <- whole;standAt a.pos;holding [v] (truthy v))) :
  PT X a (λσ H Q=>ta σ H λx H'=>∃k,b8t X.K x H' k/\Q k H'):=by
 intro pins s σ H Q I h;exact sP (D7 (ha pins s σ H _ I h) λv s1 ⟨x,H1,I1,r1,q1⟩=>b7z pins s1 σ H1 x v Q I1 r1 q1) (he _)
theorem E2:gw X (binaryOp .Add) (λx y H Q=>Ev2 λi j=>x=.str i/\y=.str j/\i.length+j.length<=sizeLine/\Q (.str (i++j)) H):=by
 intro pins s σ H x y v u Q I rx ry h;obtain⟨i,j,rfl,rfl,hz,q⟩:=h;obtain⟨t,rfl⟩:=rx;obtain⟨t',rfl⟩:=ry;exact add_str (λt' tk=>⟨.str (i++j),H,I.tok _,⟨_,rfl⟩,q⟩) hz
theorem U1(r:Vals [x] us):∃u,us=[u]/\RelV x u:=by
 cases r with
 |cons r1 r2=>cases r2;exact⟨_,rfl,r1⟩
theorem Lw(r:Vals [x,y] us):Ev2 λu w'=>us=[u,w']/\RelV x u/\RelV y w':=by
 cases r with
 |cons r1 r2 =>
  cases r2 with
  |cons r3 r4=>cases r4;exact⟨_,_,rfl,r1,r3⟩
theorem b3Q:K6 X (.builtin "abs") (λxs H Q=>∃i,xs=[.int i]/\Q (.int (if i<0 then -i else i)) H):=by
 intro pins s σ H xs us Q I r h;obtain⟨i,rfl,q⟩:=h;obtain⟨u,rfl,t,rfl⟩:=U1 r;exact call_abs_int λu tk=>⟨.int (if i<0 then -i else i),H,I.tok _,⟨_,rfl⟩,q⟩
theorem Qc(hc:X.calm=true):K6 X (.builtin "min") (λxs H Q=>Ev2 λi j=>xs=[.int i,.int j]/\Q (.int (if j<i then j else i)) H):=by
 intro pins s σ H xs us Q I r h;obtain⟨i,j,rfl,q⟩:=h;obtain⟨u,w',rfl,⟨t,rfl⟩,t',rfl⟩:=Lw r;refine min_two_ints (I.ok.hd hc) λh' tk k=>⟨_,H,I.kept k,?_,q⟩
 by_cases hj:j<i
 ·rw[if_pos hj,if_pos hj];exact⟨_,rfl⟩
 ·rw[if_neg hj,if_neg hj];exact⟨_,rfl⟩
theorem TH:K6 X (.type "int") (λxs H Q=>(∃i,xs=[.int i]/\Q (.int i) H)\/∃k,xs=[.bl k]/\Q (.int (if k then 1 else 0)) H):=by
 intro pins s σ H xs us Q I r h;rcases h with⟨i,rfl,q⟩|⟨k,rfl,q⟩
 ·obtain⟨u,rfl,t,rfl⟩:=U1 r
  exact call_int_int ⟨.int i,H,I,⟨_,rfl⟩,q⟩
 ·obtain⟨u,rfl,r1⟩:=U1 r
  cases r1;exact call_int_bool ⟨.int (if k then 1 else 0),H,I.tok _,⟨_,rfl⟩,q⟩
theorem E5:K6 X (.type "str") (λxs H Q=>∃i,xs=[.int i]/\i.natAbs.log2<1920/\Q (.str (toString i)) H):=by
 intro pins s σ H xs us Q I r h;obtain⟨i,rfl,hz,q⟩:=h;obtain⟨u,rfl,t,rfl⟩:=U1 r;exact PySem.P.str_of_int hz ⟨.str _,H,I.tok _,⟨_,rfl⟩,q⟩
structure zy(h:aJ)(x dx C:aA)(mA:aC->Option aE):Prop where
 obj:h.get? x=some (iO C dx)
 ns:h.Ns1 dx mA
 ne:dx≠x
theorem b0H{h:aJ}(n:h.Ns1 dx mA):∃od,h.get? dx=some od/\∀name,nL name od=some (mA name):=by
 obtain⟨o,es,ep,ho,hd,hk,_,hm⟩:=n;refine⟨o,ho,λname=>?_⟩;have e:=hm name;unfold nsFind findBy at e;rw[<-Array.find?_toList] at e;unfold nL;rw[hd];dsimp only
 split
 ·rename_i y q
  rw[q] at e;exact congrArg some e
 ·rename_i q
  rw[q] at e;have a:es.toList.any (·.refKey)=false:=by
   rw[List.any_eq_false];intro y hy;obtain⟨z,t,TL⟩:=hk y (Array.mem_toList_iff.mp hy);simp[tD,TL]
  have a':¬es.toList.any (·.refKey)=true:=by rw[a];exact cX
  rw[if_neg a'];exact congrArg some e
def zy.look(I:zy h x dx C mA):∃od,W.InstAt h x (iO C dx) C (some od)/\∀name,nL name od=some (mA name) :=
 let ⟨od,ho,hl⟩:=b0H I.ns
 ⟨od,⟨I.obj,rfl,rfl,ho⟩,hl⟩
section
variable{prog:aM}{w:aL}{A:aV}{E:aE->aG->Prop}{s:aG}{K:aF}{x dx C f:aA}{mA:aC->Option aE}{name:aC}{v:aE}
theorem b4x(X:K.In s.heap)(I:zy s.heap x dx C mA)(hg:kK K C name=true)(hh:lT K C=true)
  (ha:bO K (.ref C) name=some none) (hv:mA name=some v) (Lx:tE v=true) (h:Q v {s with toks:=s.toks+1}) :
  wpAny (model prog w) A (getAttr (.ref x) name expr) Q E s:=by
 obtain⟨od,J,hl⟩:=I.look;exact W.get_value X J (qH hg).1 (W.findObj_own hh ha rfl (by rw[hl,hv])) Lx h
theorem b3b(X:K.In s.heap)(I:zy s.heap x dx C mA)(hg:kK K C name=true)
  (hf:bO K (.ref C) name=some (some (.ref f))) (ht:qI K (.ref f)=true) (hv:mA name=none) (h:Q (.ref f,[.ref x]) s) :
  wpAny (model prog w) A (getMethod (.ref x) name pl) Q E s:=by
 obtain⟨od,J,hl⟩:=I.look;exact W.method_fn X J (qH hg).1 (qH hg).2 hf (beq_iff_eq.mp ht) (by show(nL name od).map (·.isSome)=some false;rw[hl,hv];rfl) h
theorem b5l(X:K.In s.heap)(I:zy s.heap x dx C mA)
  (hs:bO K (.ref C) "__setattr__"=some (some (.builtin "object.__setattr__"))) (hp:nN K C=true) (ht:qJ K C name=some none) (hh:lT K C=true)
  (hw:pW mA ns) (xq:ns.length<=sizeLine)
  (h:∀h',zy h' x dx C (λy=>if y=name then some v else mA y)->kH dx s.heap h'->Q () {s with heap:=h',toks:=s.toks+2}) :
  wpAny (model prog w) A (setAttr (.ref x) name v) Q E s:=by
 obtain⟨od,J,hl⟩:=I.look;refine W.set_plain X J hs (W.osa_open X J hp ht λb=>?_);obtain⟨cd,hc,zw⟩:=W.any_some hh;refine aN (bG (aN (aN (tF I.obj (aN (W.Looks.here (W.looks_clsIn X hc) ?_))))));rw[zw];refine bG (aN (bG (aN (wpAny_nsSet1 I.ns λh' hn2 II=>?_))));obtain⟨oD,esD,epD,hoD,hdD,hcD⟩:=hn2.count (zP name v hw);exact aN (wpAny_lookBehind hoD (by rw[hdD];exact pastItsLine_dict (bF hcD (by simp_all))) (bG (h _ ⟨(II.2 _ (bV I.ne)).trans I.obj,hn2,I.ne⟩ II)))
theorem b2c(X:K.In s.heap)(hm:nQ K C=true)
  (hi:bO K (.ref C) "__init__"=some (some (.ref f))) (hf:W.typeIn K (.ref f)=some (.type "function"))
  (h:codeAny (model prog w) (A.under (.builtin "type.__call__" ⟨.ref C::vs,kw⟩)) (.call (.ref f) ⟨.ref (s.heap.objs.size+1)::vs,kw⟩) (W.InitBack (s.heap.objs.size+1) R)
   {s with heap:=(s.heap.push iR).push (iO C s.heap.objs.size)}) :
  codeAny (model prog w) A (.call (.ref C) ⟨vs,kw⟩) R s:=by
 obtain⟨hh,g,d,t,os⟩:=s;exact W.make_core (W.makes_of X hm) (W.looks_findIn X hi) (λself=>W.bind_fn X self hf) (.inl rfl) h
end
def Z6(f:aC)(v:V):List (aC×V)->List (aC×V)
 |[]=>[(f,v)]
 |(g,x)::r=>if g=f then (g,v)::r else (g,x)::Z6 f v r
theorem a3i(f g:aC)(v:V):∀fs,(Z6 f v fs).lookup g=if g=f then some v else fs.lookup g
 |[]=>by
  show iS g [(f,v)]=_
  by_cases h:g=f
  ·have hb:=beq_iff_eq.mpr h
   simp only[iS,hb,if_pos h]
  ·have hb:=beq_eq_false_iff_ne.mpr h
   simp only[iS,hb,if_neg h]
 | (k,x)::r=>by
  rw[show Z6 f v ((k,x)::r)=(if k=f then (k,v)::r else (k,x)::Z6 f v r) from rfl]
  by_cases hk:k=f
  ·rw[if_pos hk]
   by_cases h:g=k
   ·have hb:=beq_iff_eq.mpr h
    simp only[iS,hb,if_pos (h.trans hk)]
   ·simp only[iS,beq_eq_false_iff_ne.mpr h,if_neg λe:g=f=>h (e.trans hk.symm)]
  ·rw[if_neg hk]
   by_cases h:g=k
   ·simp only[iS,beq_iff_eq.mpr h,if_neg λe:g=f=>hk (h.symm.trans e)]
   ·simp only[iS,beq_eq_false_iff_ne.mpr h];exact(a3i f g v r)
theorem TM(f:aC)(v:V):∀fs,f∈(Z6 f v fs).map (·.1)/\∀g,g∈fs.map (·.1)->g∈(Z6 f v fs).map (·.1)
 |[]=>⟨by simp[Z6],λg h=>by simp at h⟩
 | (k,x)::r=>by
  obtain⟨i1,i2⟩:=TM f v r;rw[show Z6 f v ((k,x)::r)=(if k=f then (k,v)::r else (k,x)::Z6 f v r) from rfl]
  by_cases hk:k=f
  ·rw[if_pos hk]
   subst hk;exact⟨by simp,λg h=>by simpa using h⟩
  ·rw[if_neg hk]
   refine⟨?_,λg h=>?_⟩
   ·rw[cS]
    exact bZ _ i1
   ·rw[cS] at h⊢
    rcases bH.mp h with e|e
    ·exact bH.mpr (.inl e)
    ·exact bZ _ (i2 g e)
theorem a3l(f:aC)(v:V):∀fs,(Z6 f v fs).length<=fs.length+1
 |[]=>by simp[Z6]
 |(k,x)::r=>by
  have ih:=a3l f v r;rw[show Z6 f v ((k,x)::r)=(if k=f then (k,v)::r else (k,x)::Z6 f v r) from rfl]
  by_cases hk:k=f
  ·rw[if_pos hk,eM,eM];lia
  ·rw[if_neg hk,eM,eM];lia
theorem uj.some_of(r:uj (some v) o):∃u,o=some u/\RelV v u:=by
 cases o with
 |none=>exact(show False from r).elim
 |some u=>exact⟨u,rfl,r⟩
theorem uj.none_of(r:uj none o):o=none:=by
 cases o with
 |none=>rfl
 |some u=>exact(show False from r).elim
theorem b0x(r:RelV v u):tE u=true:=by
 cases v with
 |non=>cases (show u=iN from r);rfl
 |bl b=>cases (show u=pT b from r);rfl
 |int i=>obtain⟨t,e⟩:=(show ∃t,u=iM i t from r);cases e;rfl
 |str x=>obtain⟨t,e⟩:=(show ∃t,u=jB x t from r);cases e;rfl
 |Bv b=>obtain⟨t,e⟩:=(show ∃t,u=sK b t from r);cases e;rfl
 |Jt b=>obtain⟨t,e⟩:=(show ∃t,u=pU b t from r);cases e;rfl
 |ref a=>cases (show u=cZ a from r);rfl
 |ty n=>cases (show u=pV n from r);rfl
theorem Qd(ck:mz P w H h)(e:H a=some (.ins C dx fs)):∃mA,zy h a dx C mA/\(∀f,uj (fs.lookup f) (mA f))/\pW mA (fs.map (·.1))/\fs.length<=1000/\H dx=some (.own a):=by
 obtain⟨d,z,ne,ob,mA,n,r,q⟩:=(show dh P w H h a (.ins C dx fs) from ck a _ e);exact⟨mA,⟨ob,n,ne⟩,r,q,z,d⟩
structure z_(K:aF)(C:aA):Prop where
 pg:kK K C eI=true
 hd:lT K C=true
 po:nN K C=true
 sa:bO K (.ref C) "__setattr__"=some (some (.builtin "object.__setattr__"))
def z_.get{K}(c:z_ K C)f:kK K C f=true:=c.pg
def dg(K:aF)(C:aA)(f:aC):Prop:=bO K (.ref C) f=some none
theorem dg.M_{K}(n:dg K C f):qJ K C f=some none:=by
 unfold qJ;rw[show bO K (.ref C) f=some none from n];rfl
structure Con(K:aF)(C:aA)(f:aC)(v:V)(u:aE):Prop where
 at_:bO K (.ref C) f=some (some u)
 rel:RelV v u
 get:tG K u "__get__"=some none
 cp:W.copiedNames.contains f=false
structure Ly(K:aF)(C:aA)(m:aC)(f:aA):Prop where
 at_:bO K (.ref C) m=some (some (.ref f))
 fn:qI K (.ref f)=true
 kp:dX K (.ref f)=true
section
variable{X:Cx}{pins:List (aA×Obj)}{σ:St}{H:Hp}{s:aG}{a C dx:aA}{fs:List (aC×V)}{f:aC}{v:V}{A:aV}{E:aE->aG->Prop}
theorem a8i(I:Inv X pins σ H s)(e:H a=some (.ins C dx fs))(c:z_ X.K C)(n:dg X.K C f)(l:fs.lookup f=some v)
  (h:∀u s',Inv X pins σ H s'->RelV v u->Q u s'):wpAny (model X.prog X.w) A (getAttr (.ref a) f b) Q E s:=by
 obtain⟨mA,O,r,_,_,_⟩:=Qd I.ck e;obtain⟨u,hu,ru⟩:=uj.some_of (l▸r f);exact b4x I.ix O (c.get f) c.hd n hu (b0x ru) (h u _ (I.tok _) ru)
theorem TN(I:Inv X pins σ H s)(e:H a=some (.ins C dx fs))(c:z_ X.K C)(k:Ly X.K C m g)(l:fs.lookup m=none)
  (h:Q (.ref g,[.ref a]) s):wpAny (model X.prog X.w) A (getMethod (.ref a) m pl) Q E s:=by
 obtain⟨mA,O,r,_,_,_⟩:=Qd I.ck e;exact b3b I.ix O (c.get m) k.at_ k.fn (uj.none_of (l▸r m)) h
theorem a4e(I:Inv X pins σ H s)(e:H a=some (.ins C dx fs))(c:z_ X.K C)(n:dg X.K C f)(hl:fs.length<1000)(ry:RelV y u)
  (h:∀s',Inv X pins σ (upd H a (.ins C dx (Z6 f y fs))) s'->Q () s'):wpAny (model X.prog X.w) A (setAttr (.ref a) f u) Q E s:=by
 obtain⟨mA,O,r,wi,_,ho⟩:=Qd I.ck e;have hz:(fs.map (·.1)).length<=sizeLine:=by rw[aH,bE];lia
 refine b5l I.ix O c.sa c.po n.M_ c.hd wi hz λh' O' sb=>h _ ?_;have hd:∃o,h'.get? dx=some o:=let ⟨o,_,_,e',_⟩:=O'.ns;⟨o,e'⟩
 refine I.write (e▸jI) (.inr ho) (λb q hb z=>(sb.2 b hb).trans z) hd ?_;refine⟨by rw[j3 O.ne];exact ho,?_,O.ne,O'.obj,_,O'.ns,λg=>?_,λg hg=>?_⟩
 ·have:=a3l f y fs;lia
 ·show uj ((Z6 f y fs).lookup g) (if g=f then some u else mA g)
  rw[a3i]
  by_cases q:g=f
  ·rw[if_pos q,if_pos q];exact ry
  ·rw[if_neg q,if_neg q];exact r g
 ·by_cases q:g=f
  ·rw[q];exact(TM f y fs).1
  ·refine(TM f y fs).2 g (wi g λz=>hg ?_)
   show(if g=f then some u else mA g)=none
   rw[if_neg q];exact z
theorem Inv.made(I:Inv X pins σ H s):Inv X pins σ (upd (upd H s.heap.objs.size (.own (s.heap.objs.size+1))) (s.heap.objs.size+1) (.ins C s.heap.objs.size []))
  {s with heap:=(s.heap.push iR).push (iO C s.heap.objs.size)}:=by
 have e1:(s.heap.push iR).get? s.heap.objs.size=some iR:=dG s.heap rfl;have e2:((s.heap.push iR).push (iO C s.heap.objs.size)).get? (s.heap.objs.size+1)=some (iO C s.heap.objs.size):=by
  have:=dG (s.heap.push iR) (o:=iO C s.heap.objs.size) rfl
  rwa[gS] at this
 have e3:(s.heap.push iR).Ns s.heap.objs.size (λ_=>none):=⟨W.emptyDict,#[],_,e1,rfl,(λe he=>absurd he (by simp)),λ_=>rfl⟩;refine(I.laid (o:=.own (s.heap.objs.size+1)) (t':=s.toks) (λb u q=>bL _ q) (aT _) ⟨_,e1⟩).laid (λb u q=>bL _ q) (Nat.le_of_eq (gS _ _)) ?_;have ne:s.heap.objs.size≠s.heap.objs.size+1:=dB (jJ _);refine⟨by rw[j3 ne,ae],dM _,ne,e2,λ_=>none,(Heap.Ns1.of_empty e3).at λo q=>bL _ q,λ_=>jI,λy hy=>absurd rfl hy⟩
theorem b4n(hb:attributeBase e f env (eval e env)=eval e env)
  (h:wpAny (model prog w) A (eval e env) (λo vy=>wpAny (model prog w) A (getAttr o f true) Q E vy) E s):wpAny (model prog w) A (eval (.Attribute e f pos) env) Q E s :=
 Attribute_any_ h (by rw[arm_eval_Attribute,hb])
end
def b9t(K:aF)(ta:TE)(f:aC):TE:=λσ H Q=>ta σ H λx H1=>Ev5 λa C dx fs v=>x=.ref a/\H1 a=some (.ins C dx fs)/\z_ K C/\dg K C f/\fs.lookup f=some v/\Q v H1
def c0E(K:aF)(ta tv:TE)(f:aC):TS:=λD σ H=>tv σ H λy H1=>ta σ H1 λx H2=>Ev4 λa C dx fs=>x=.ref a/\H2 a=some (.ins C dx fs)/\z_ K C/\dg K C f/\fs.length<1000/\
 D.nx σ (upd H2 a (.ins C dx (Z6 f y fs)))
theorem y4(he:PE X e ta)(hb:attributeBase e f X.env (eval e X.env)=eval e X.env):PE X (.Attribute e f pos) (b9t X.K ta f):=by
 intro pins s σ H Q I h;refine b4n hb (D7 (he pins s σ H _ I h) λu s1 ⟨x,H1,I1,rx,a,C,dx,fs,v,ex,ea,c,n,l,q⟩=>?_);subst ex;obtain rfl:u=cZ a:=rx;exact a8i I1 ea c n l λu' s2 I2 ru=>⟨v,H1,I2,ru,q⟩
theorem GA(ha:PE X o ta)(hv:PE X value tv)(hs:swapsWith value (some (.Attribute o f pos')) pos.line X.env=pure false):PS X (.Assign [.Attribute o f pos'] value pos) (c0E X.K ta tv f):=by
 intro pins s σ H D I h;refine plainObj_wpAny_Assign_Attribute (D7 (hv pins s σ H _ I h) λu s1 ⟨y,H1,I1,ry,q⟩=>D7 (ha pins s1 σ H1 _ I1 q) λov s2 ⟨x,H2,I2,rx,a,C,dx,fs,ex,ea,c,n,l,q2⟩=>?_) hs;subst ex;obtain rfl:ov=cZ a:=rx;exact a4e I2 ea c n l ry λs3 I3=>⟨σ,_,I3,q2⟩
inductive Cp(K:aF)(H:Hp):V->aE->Prop where
 |non:Cp K H .non (.type "NoneType")
 |bl (x:Bool):Cp K H (.bl x) (.type "bool")
 |int (i:Int):Cp K H (.int i) (.type "int")
 |str (x:aC):Cp K H (.str x) (.type "str")
 |Jt (x:UInt64):Cp K H (.Jt x) (.type "float")
 |lst {a:aA} {xs:List V} (e:H a=some (.lst xs)):Cp K H (.ref a) (.type "list")
 |Bw {a:aA} {o:Obj} {xs:List V} (e:H a=some (.Bw o (.lst xs))):Cp K H (.ref a) (.type "list")
 |tup {a:aA} {xs:List V} (e:H a=some (.tup xs)):Cp K H (.ref a) (.type "tuple")
 |dK {a:aA} {dz:List (Key×V)} (e:H a=some (.dK dz)):Cp K H (.ref a) (.type "dict")
 |dT {a:aA} {dz:List (List Key×V)} (e:H a=some (.dT dz)):Cp K H (.ref a) (.type "dict")
 |ins {a C dx:aA} {fs:List (aC×V)} (e:H a=some (.ins C dx fs)) (cl:z_ K C) (ha:bO K (.ref C) "__class__"=some (some (.builtin "object.__class__")))
   (hn:tG K (.builtin "object.__class__") "__get__"=some (some (.builtin "getset_descriptor.__get__"))) (htk:W.takesIn K (.builtin "object.__class__")=some true)
   (hm:dY K C (.type "object")=some true):Cp K H (.ref a) (.ref C)
theorem b0U{σ:St}(I:Inv X pins σ H s)(rx:RelV x u)(ty:Cp X.K H x t)(e:bU X.K t c=some b)(h:∀tk,Q (.bool b) {s with toks:=tk}) :
  wpAny (model X.prog X.w) A (call (.builtin "isinstance") [u,c]) Q E s:=by
 cases ty with
 |non=>cases (show u=iN from rx);exact fX W.kitx_none I.ix jI e (λz=>nomatch z) h
 |bl y=>cases (show u=pT y from rx);exact fX W.kitx_bool I.ix jI e (λz=>nomatch z) h
 |int i=>obtain⟨t,q⟩:=(show ∃t,u=iM i t from rx);cases q;exact fX W.kitx_int I.ix jI e (λz=>nomatch z) h
 |str y=>obtain⟨t,q⟩:=(show ∃t,u=jB y t from rx);cases q;exact fX W.kitx_str I.ix jI e (λz=>nomatch z) h
 |Jt y=>obtain⟨t,q⟩:=(show ∃t,u=pU y t from rx);cases q;exact fX W.kitx_float I.ix jI e (λz=>nomatch z) h
 |@lst a xs ea =>
  cases (show u=cZ a from rx);obtain⟨_,_,n,_,h1⟩:=(show dh X.prog X.w H s.heap a (.lst xs) from I.ck a _ ea);exact fX tH I.ix ⟨_,h1,rfl⟩ e (λz=>nomatch z) h
 |@Bw a ob xs ea =>
  cases (show u=cZ a from rx);obtain⟨_,_,_,n,_,h1⟩:=(show dh X.prog X.w H s.heap a (.Bw ob (.lst xs)) from I.ck a _ ea);exact fX tH I.ix ⟨_,h1,rfl⟩ e (λz=>nomatch z) h
 |@tup a xs ea =>
  cases (show u=cZ a from rx);obtain⟨_,_,_,p⟩:=(show dh X.prog X.w H s.heap a (.tup xs) from I.ck a _ ea);obtain⟨o,h1,h2,_⟩:=p;exact fX tI I.ix ⟨o,h1,h2⟩ e (λz=>nomatch z) h
 |@dK a dz ea =>
  cases (show u=cZ a from rx);obtain⟨_,_,vs,_,p⟩:=(show dh X.prog X.w H s.heap a (.dK dz) from I.ck a _ ea);obtain⟨o,es,ep,h1,h2,_⟩:=p;exact fX tJ I.ix ⟨o,h1,h2.1⟩ e (λz=>nomatch z) h
 |@dT a dz ea =>
  cases (show u=cZ a from rx);obtain⟨_,_,xs,_,o,es,ep,h1,h2,_⟩:=(show dh X.prog X.w H s.heap a (.dT dz) from I.ck a _ ea);exact fX tJ I.ix ⟨o,h1,h2.1⟩ e (λz=>nomatch z) h
 |@ins a C dx fs ea cl ha hn htk hm =>
  cases (show u=cZ a from rx);obtain⟨mA,O,_⟩:=Qd I.ck ea;obtain⟨od,J,_⟩:=O.look;exact fX (W.kitx_own (cl.get _) cl.hd ha hn htk hm) I.ix J e (λz=>nomatch z) h
structure b_(k:Nat)(A:aV):Prop where
 hd:A.handled=none
 dp:A.depth+3*k+5<recursionLimit
 un:A.units+16*k+200<cLine
theorem b_.mono(r:b_ k A)(h:j<=k):b_ j A:=⟨r.hd,by have:=r.dp;lia,by have:=r.un;lia⟩
theorem b_.deeper(r:b_ (k+1) A)env:b_ k (A.deeper env) :=
 ⟨r.hd,by have:=r.dp;show A.depth+1+3*k+5<_;lia,by have:=r.un;show A.units+3+16*k+200<_;lia⟩
theorem b_.in1(r:b_ (k+1) A):b_ k A.in1 :=
 ⟨r.hd,by have:=r.dp;lia,by have:=r.un;lia⟩
def a8D{A:aV}:(A.under (.builtin "type.__call__" ⟨.ref C::us,kw⟩)).depth=A.depth+1:=rfl
def a8s{A:aV}:(A.under (.builtin "type.__call__" ⟨.ref C::us,kw⟩)).units=A.units+1:=rfl
theorem b_.make(r:b_ (k+1) A)C us kw:b_ k (A.under (.builtin "type.__call__" ⟨.ref C::us,kw⟩)) :=
 ⟨r.hd,by have:=r.dp;rw[a8D];lia,by have:=r.un;rw[a8s];lia⟩
theorem b_.depth(r:b_ k A):A.depth<recursionLimit:=by have:=r.dp;lia
theorem b_.units(r:b_ k A):A.units+64<cLine:=by have:=r.un;lia
def yb:TA:=λ_ H Q=>Q [] H
def Z2(ta:TE)(tr:TA):TA:=λσ H Q=>ta σ H λx H1=>tr σ H1 λxs H2=>Q (x::xs) H2
def c7:PA X [] yb:=λ_ _ _ _ H Q I h=>Calls.spliced_nil ⟨[],H,I,.nil,h⟩
theorem c6(ha:PE X e te)(hr:PA X es t)(hs:starEach (e::es) X.env=(false,eval e X.env)::starEach es X.env:=by rfl):PA X (e::es) (Z2 te t):=by
 intro pos pins s σ H Q I h;rw[hs]
 exact Calls.spliced_cons (D7 (ha pins s σ H _ I h) λu s1 ⟨x,H1,I1,r1,q1⟩=>(D7 (hr pos pins s1 σ H1 _ I1 q1) λus s2 ⟨xs,H2,I2,r2,q2⟩=>⟨x::xs,H2,I2,.cons r1 r2,q2⟩))
def c0J(t:TA):TE:=λσ H Q=>t σ H λxs H1=>xs.length<=sizeLine/\∀p,H1 p=none->Q (.ref p) (upd H1 p (.tup xs))
def Qe(t:TA):TE:=λσ H Q=>t σ H λxs H1=>xs.length<=sizeLine/\∀p,H1 p=none->Q (.ref p) (upd H1 p (.lst xs))
theorem A9(h:PA X es t):PE X (.Tuple es x1 pos) (c0J t):=by
 intro pins s σ H Q I hq;exact wpAny_Tuple_spliced (D7 (h pos pins s σ H _ I hq) λus s1 ⟨xs,H1,I1,r,z,q⟩=>⟨by rw[<-r.length];exact z,.ref s1.heap.objs.size,upd H1 s1.heap.objs.size (.tup xs),I1.laid (λb u e=>bL _ e) (aT _) ⟨z,us,r,_,dG _ rfl,rfl,_,rfl⟩,rfl,q _ (I1.ck.fresh (aT _))⟩)
theorem v9(h:PA X es t):PE X (.List es pos) (Qe t):=by
 intro pins s σ H Q I hq;exact wpAny_List_spliced (D7 (h pos pins s σ H _ I hq) λus s1 ⟨xs,H1,I1,r,z,q⟩=>⟨by rw[<-r.length];exact z,.ref s1.heap.objs.size,upd H1 s1.heap.objs.size (.lst xs),I1.laid (λb u e=>bL _ e) (aT _) ⟨z,us,0,r,dG _ rfl⟩,rfl,q _ (I1.ck.fresh (aT _))⟩)
abbrev Sp:=List V->Hp->VK->XK->Prop
abbrev ze:=List Env->Hp->aG->XK->aE->aG->Prop
structure v_(P:aM)(w:aL)(K:aF)(mg:aC->Option aE)(base:aJ)(A:aV)(outer:List Env)(s:aG)(H:Hp):Prop where
 frames:A.frames=some outer
 mod:Mod K mg base
 bs:∀b o,base.get? b=some o->s.heap.get? b=some o/\H b=none
 xw:base.objs.size<=s.heap.objs.size
 gx:s.heap.FunFrames base outer
 Cj:∀b∈uk outer,H b=none
 ck:mz P w H s.heap
 bare:jC s.gens
def CE(outer:List Env)(P:aM)(w:aL)(H:Hp)(s:aG)(Q:VK)(u:aE)(s':aG):Prop :=
 Ev2 λv H'=>s'.os=s.os/\jC s'.gens/\Un (uk outer) [] H H' s.heap s'.heap/\mz P w H' s'.heap/\RelV v u/\Q v H'
def CR(CX:ze)(outer:List Env)(P:aM)(w:aL)(H:Hp)(s:aG)(Q:VK)(E:XK)(r:jH)(s':aG):Prop :=
 match r with
 |.ok (.ret u)=>CE outer P w H s Q u s'
 |.ok _=>False
 |.error e=>CX outer H s E e s'
structure bf(P:aM)(w:aL)(K:aF)(mg:aC->Option aE)(base:aJ)(CX:ze)(k:Nat)(f:aA)(fd:aK)(ps:List aC)(sp:Sp):Prop where
 len:∀vs H Q E,sp vs H Q E->vs.length=ps.length
 run:∀(A:aV)(outer:List Env)(s:aG)(H:Hp)(args:Args)(us:List aE)(vs:List V)(Q:VK)(E:XK),b_ k A->v_ P w K mg base A outer s H->lU s fd args (ps.zip us)->Vals vs us->sp vs H Q E →
  codeAny (model P w) A (.call (.ref f) args) (CR CX outer P w H s Q E) s
def bf.imp{K}(F:bf P w K mg base CX k f fd ps sp)
  (h:∀vs H Q E,sp' vs H Q E->sp vs H Q E):bf P w K mg base CX k f fd ps sp' :=
 ⟨λvs H Q E q=>F.len vs H Q E (h _ _ _ _ q),λA outer s H args us vs Q E hr he hb hv hs=>F.run A outer s H args us vs Q E hr he hb hv (h _ _ _ _ hs)⟩
theorem v_.make{K}(e:v_ P w K mg base A outer s H)C us kw :
  v_ P w K mg base (A.under (.builtin "type.__call__" ⟨.ref C::us,kw⟩)) outer s H:=⟨by first|exact e.frames|(simpa[qK,Code.envs,qL,pushEnvs] using e.frames),e.mod,e.bs,e.xw,e.gx,e.Cj,e.ck,e.bare⟩
section
variable{X:Cx}{pins:List (aA×Obj)}{σ:St}{H:Hp}{s s':aG}
def Inv.Hf(I:Inv X pins σ H s):v_ X.prog X.w X.K X.mg X.base X.A X.stack s H :=
 ⟨I.ok.frames,I.ok.mod,I.bs,bF I.ok.xw I.sz,I.stack,I.qm,I.ck,I.bare⟩
theorem Inv.after(I:Inv X pins σ H s)(h:CE X.stack X.prog X.w H s Q u s'):EP X pins σ Q u s':=by
 obtain⟨v,H',os,bare,un,ck,r,q⟩:=h;obtain⟨hh,g,d,t,os'⟩:=s';obtain rfl:os'=s.os:=os;exact⟨v,H',I.call un ck bare λb z=>absurd z (by simp),r,q⟩
end
def Qf(sp:Sp)(dvs:List V)(E:XK)(t:TA):TE:=λσ H Q=>t σ H λvs H1=>sp (vs++dvs) H1 Q E
def b5T(C:aA)(m:aC)(sp:Sp)(dvs:List V)(E:XK)(ta:TE)(t:TA):TE:=λσ H Q=>ta σ H λx H1=>Ev3 λa dx fs=>x=.ref a/\H1 a=some (.ins C dx fs)/\fs.lookup m=none/\
 t σ H1 λvs H2=>sp (x::(vs++dvs)) H2 Q E
def b6d(C:aA)(sp:Sp)(dvs:List V)(E:XK)(t:TA):TE:=λσ H Q=>t σ H λvs H1=>∀x dx,H1 x=none->H1 dx=none->dx≠x →
 sp (.ref x::(vs++dvs)) (upd (upd H1 dx (.own x)) x (.ins C dx [])) (λv H2=>v=.non/\Q (.ref x) H2) E
def Binds(K:aF)(fd:aK)(ps:List aC)(ds:List aE):Prop :=
 ∀s us,K.In s.heap->(us++ds).length=ps.length->lU s fd ⟨us,[]⟩ (ps.zip (us++ds))
theorem Binds.all{K}(h:∀us,us.length=ps.length->bindArgs fd ⟨us,[]⟩=pure (ps.zip us)):Binds K fd ps []:=λs us _ hl=>by
 rw[fP] at hl⊢;exact .of_eq (h us hl)
def Z8(CX:ze)(X:Cx)(E:XK):Prop:=∀pins(σ:St)H s e s',Inv X pins σ H s->CX X.stack H s E e s'->X.xe e s'
section
variable{X:Cx}{CX:ze}{k:Nat}{f C:aA}{fd:aK}{ps:List aC}{sp:Sp}{dvs:List V}{ds:List aE}{E:XK}{x m:aC}{p pos apos:Pos}{e o:aR}{es:List aR}{ta:TE}{t:TA}
theorem Qg{σ:St}(F:bf X.prog X.w X.K X.mg X.base CX k f fd ps sp)(hr:b_ k X.A)(hb:Binds X.K fd ps ds)(hd:Vals dvs ds)(hx:Z8 CX X E)
  (I:Inv X pins σ H s) (r:Vals vs us) (h:sp (vs++dvs) H Q E):wpAny (model X.prog X.w) X.A (call (.ref f) us) (EP X pins σ Q) X.xe s:=by
 have r2:=r.append hd;have hl:(us++ds).length=ps.length:=by rw[<-r2.length];exact F.len _ _ _ _ h
 refine lV (nR (F.run X.A X.stack s H ⟨us,[]⟩ (us++ds) (vs++dvs) Q E hr I.Hf (hb s us I.ix hl) r2 h) λr s' hq=>?_)
 cases r with
 |error e=>exact hx pins σ H s e s' I hq
 |ok fl =>
  cases fl with
  |ret u=>exact I.after hq
  |next=>exact eD hq
  |brk=>exact eD hq
  |cont=>exact eD hq
theorem l7(F:bf X.prog X.w X.K X.mg X.base CX k f fd ps sp)(hr:b_ k X.A)(hg:Gl X x)(hm:X.mg x=some (.ref f))(hk:dX X.K (.ref f)=true)(hb:Binds X.K fd ps ds)(hd:Vals dvs ds)(hx:Z8 CX X E)
  (ha:PA X (e::es) t) (Cq:(x==("__debug__":aC))=false:=by decide) (he:starEach (e::es) X.env=(false,eval e X.env)::starEach es X.env:=by rfl) (wb:(backTo pos (starEach es X.env)).any (·.1)=false:=by rfl) :
  PE X (.Call (.Name x p) (e::es) [] pos) (Qf sp dvs E t):=by
 intro pins s σ H Q I h;exact jK (Lm I hg hm (kM I.ok.mod.zu hk (D7 (ha pos pins s σ H _ I h) λus s1 ⟨vs,H1,I1,r,q⟩=>⟨I1.ix,Qg F hr hb hd hx I1 r q⟩) he wb) Cq)
theorem TQ{pl}(he:PE X o ta)(c:z_ X.K C)(hm:Ly X.K C m f)(F:bf X.prog X.w X.K X.mg X.base CX k f fd ps sp)(hr:b_ k X.A)(hb:Binds X.K fd ps ds)(hd:Vals dvs ds)(hx:Z8 CX X E)(ha:PA X (e::es) t)
  (gj:starEach (e::es) X.env=(false,eval e X.env)::starEach es X.env:=by rfl) (wb:(backTo pos (starEach es X.env)).any (·.1)=false:=by rfl)
  (ht:eval (.Call (.Attribute o m apos) (e::es) [] pos) X.env=(do
   let ov <- eval o X.env
   standAt apos.atName
   let (f,first) <- holding [ov] (getMethod ov m pl)
   callWith pos f first (backTo pos (starEach (e::es) X.env)) (backToKw pos (keywordEach [] X.env))):=by rfl) :
  PE X (.Call (.Attribute o m apos) (e::es) [] pos) (b5T C m sp dvs E ta t):=by
 intro pins s σ H Q I h;refine qM (D7 (he pins s σ H _ I h) λu s1 ⟨x,H1,I1,rx,a,dx,fs,ex,ea,l,q⟩=>?_) ht;subst ex;obtain rfl:u=cZ a:=rx;exact TN I1 ea c hm l (kM I.ok.mod.zu hm.kp (D7 (ha pos pins s1 σ H1 _ I1 q) λus s2 ⟨vs,H2,I2,r,q2⟩=>⟨I2.ix,Qg (vs:=.ref a::vs) F hr hb hd hx I2 (.cons rfl r) q2⟩) gj wb)
theorem M'(he:PE X o ta)(c:z_ X.K C)(hm:Ly X.K C m f)(F:bf X.prog X.w X.K X.mg X.base CX k f fd ps sp)(hr:b_ k X.A)(hb:Binds X.K fd ps ds)(hd:Vals dvs ds)(hx:Z8 CX X E)
  (ht:eval (.Call (.Attribute o m apos) [] [] pos) X.env=(do
   let ov <- eval o X.env
   standAt apos.atName
   let (f,first) <- holding [ov] (getMethod ov m pl)
   callWith pos f first (backTo pos (starEach [] X.env)) (backToKw pos (keywordEach [] X.env))):=by rfl) :
  PE X (.Call (.Attribute o m apos) [] [] pos) (b5T C m sp dvs E ta yb):=by
 intro pins s σ H Q I h;refine qM (D7 (he pins s σ H _ I h) λu s1 ⟨x,H1,I1,rx,a,dx,fs,ex,ea,l,q⟩=>?_) ht;subst ex;obtain rfl:u=cZ a:=rx;exact TN I1 ea c hm l (W.callWith_K0 I1.ix hm.kp (Qg (vs:=[.ref a]) F hr hb hd hx I1 (.cons rfl .nil) q))
structure Mk(K:aF)(C f:aA):Prop where
 makes:nQ K C=true
 init:bO K (.ref C) "__init__"=some (some (.ref f))
 fn:qI K (.ref f)=true
 kp:dX K (.ref C)=true
theorem b2h{σ:St}(M:Mk X.K C f)(F:bf X.prog X.w X.K X.mg X.base CX k f fd ps sp)(hr:b_ (k+1) X.A)(hb:Binds X.K fd ps ds)(hd:Vals dvs ds)
  (hx:Z8 CX X E) (I:Inv X pins σ H s) (r:Vals vs us)
  (h:∀x dx,H x=none->H dx=none->dx≠x->sp (.ref x::(vs++dvs)) (upd (upd H dx (.own x)) x (.ins C dx [])) (λv H2=>v=.non/\Q (.ref x) H2) E) :
  wpAny (model X.prog X.w) X.A (call (.ref C) us) (EP X pins σ Q) X.xe s:=by
 have hq:=h (s.heap.objs.size+1) s.heap.objs.size (I.ck.fresh (lW _)) (I.ck.fresh (aT _)) (dB (jJ _));have I2:=Inv.made (C:=C) I;have r2:Vals (V.ref (s.heap.objs.size+1)::(vs++dvs)) (cZ (s.heap.objs.size+1)::(us++ds)):=.cons rfl (r.append hd);have hl:(cZ (s.heap.objs.size+1)::us++ds).length=ps.length:=by
  have e:=r2.length;rw[F.len _ _ _ _ hq] at e;exact e.symm
 refine lV (b2c I.ix M.makes M.init (beq_iff_eq.mp M.fn) (nR (F.run _ X.stack _ _ ⟨Value.ref (s.heap.objs.size+1)::us,[]⟩ (cZ (s.heap.objs.size+1)::(us++ds)) _ _ E (hr.make C us [])
  (I2.Hf.make C us []) (hb _ (cZ (s.heap.objs.size+1)::us) I2.ix hl) r2 hq) λr s' Cu=>?_))
 cases r with
 |error e=>exact hx pins σ _ _ e s' I2 Cu
 |ok fl =>
  cases fl with
  |ret u =>
   obtain⟨v,H',I3,rv,ev,q3⟩:=I2.after Cu;subst ev;exact⟨rv,V.ref (s.heap.objs.size+1),H',I3,rfl,q3⟩
  |next=>exact eD Cu
  |brk=>exact eD Cu
  |cont=>exact eD Cu
theorem a9F(M:Mk X.K C f)(F:bf X.prog X.w X.K X.mg X.base CX k f fd ps sp)(hr:b_ (k+1) X.A)(hg:Gl X x)(hm:X.mg x=some (.ref C))(hb:Binds X.K fd ps ds)(hd:Vals dvs ds)(hx:Z8 CX X E)
  (ha:PA X (e::es) t) (Cq:(x==("__debug__":aC))=false:=by decide) (he:starEach (e::es) X.env=(false,eval e X.env)::starEach es X.env:=by rfl) (wb:(backTo pos (starEach es X.env)).any (·.1)=false:=by rfl) :
  PE X (.Call (.Name x p) (e::es) [] pos) (b6d C sp dvs E t):=by
 intro pins s σ H Q I h;exact jK (Lm I hg hm (kM I.ok.mod.zu M.kp (D7 (ha pos pins s σ H _ I h) λus s1 ⟨vs,H1,I1,r,q⟩=>⟨I1.ix,b2h M F hr hb hd hx I1 r q⟩) he wb) Cq)
end
structure c1l(K:aF)(fd:aK)(ps ks:List aC)(g:List aE->List aE->List aE)(gV:List V->List V->List V):Prop where
 to:∀(s:aG)(us ws:List aE),K.In s.heap->(g us ws).length=ps.length->lU s fd ⟨us,ks.zip ws⟩ (ps.zip (g us ws))
 rel:∀{vs:List V}{us:List aE}{zs:List V}{ws:List aE},Vals vs us->Vals zs ws->Vals (gV vs zs) (g us ws)
structure p7(N P:List aC)(sc:cQ):Prop where
 kind:sc.kind=.function:=by rfl
 co:sc.isCoroutine=false:=by rfl
 gen:sc.isGenerator=false:=by rfl
 nd:N.Nodup:=by decide +kernel
 pre:N.take P.length=P:=by rfl
 par:∀x∈P,sc.names.lookup x=some .local\/sc.names.lookup x=some .cell:=by decide +kernel
 JI:∀y∈sc.names,y.2≠.free:=by decide +kernel
theorem a4U{kindOf:aC->Option jL}:∀{binds}{m},(∀v,(x,v) ∉ binds)->bindL kindOf binds m x=m x
 |[],_,_=>rfl
 |(n,v)::r,m,h=>by
  unfold bindL;rw[a4U λw hw=>h w (bZ _ hw)]
  split
  ·have:x≠n:=by rintro rfl;exact h v cY
   simp[this]
  ·rfl
theorem a4R{kindOf:aC->Option jL}:∀{binds}{m},(∀v,(x,v) ∉ binds)->bindC kindOf binds m x=m x
 |[],_,_=>rfl
 |(n,v)::r,m,h=>by
  unfold bindC;rw[a4R λw hw=>h w (bZ _ hw)]
  split
  ·rfl
  ·have:x≠n:=by rintro rfl;exact h v cY
   simp[this]
theorem a5b{kindOf:aC->Option jL}:∀{P:List aC}{vs}{i:Nat}{m},P.Nodup->P[i]?=some x->vs[i]?=some v->kindOf x=some .local →
  bindL kindOf (P.zip vs) m x=some v
 |[],_,_,_,_,h,_,_=>by simp at h
 |_::_,[],_,_,_,_,h,_=>by simp at h
 |p::P,w::vs,0,m,nd,h1,h2,hk=>by
  simp at h1 h2;subst h1;subst h2
  show bindL kindOf ((p,w)::P.zip vs) m p=_
  unfold bindL;rw[a4U λv hv=>(nU.mp nd).1 (nV hv).1,if_pos hk];simp
 |p::P,w::vs,i+1,m,nd,h1,h2,hk=>by
  unfold bindL;exact a5b (nU.mp nd).2 (by simpa using h1) (by simp_all) hk
theorem a5w{kindOf:aC->Option jL}:∀{P:List aC}{vs}{i:Nat}{m},P.Nodup->P[i]?=some x->vs[i]?=some v->kindOf x≠some .local →
  bindC kindOf (P.zip vs) m x=some v
 |[],_,_,_,_,h,_,_=>by simp at h
 |_::_,[],_,_,_,_,h,_=>by simp at h
 |p::P,w::vs,0,m,nd,h1,h2,hk=>by
  simp at h1 h2;subst h1;subst h2
  show bindC kindOf ((p,w)::P.zip vs) m p=_
  unfold bindC;rw[a4R λv hv=>(nU.mp nd).1 (nV hv).1,if_neg hk];simp
 |p::P,w::vs,i+1,m,nd,h1,h2,hk=>by
  unfold bindC;exact a5w (nU.mp nd).2 (by simpa using h1) (by simp_all) hk
def V6(N:List aC)(vs:List V):St:=vs.map some++aQ (N.length-vs.length) none
def N8(CX:ze)(P:aM)(w:aL)(K:aF)(mg:aC->Option aE)(base:aJ)(N:List aC)(qual:aC)(scope:cQ)(f:aA)(cd:aE)(A:aV)(outer:List Env)(s:aG)(H:Hp)(E:XK):Cx where
 prog:=P
 w:=w
 K:=K
 mg:=mg
 base:=base
 A:=A.deeper (dQ qual scope s.heap.objs.size f cd)
 N:=N
 s₀:=s
 H₀:=H
 env:=dQ qual scope s.heap.objs.size f cd
 outer:=outer
 stack:=dQ qual scope s.heap.objs.size f cd::outer
 ex:=[]
 calm:=true
 fn:=λ_=>true
 pn:=[]
 xe:=λe s'=>wpAny (model P w) (A.deeper (dQ qual scope s.heap.objs.size f cd)) (leaving (dQ qual scope s.heap.objs.size f cd) e) (λ_ Nb=>CX outer H s E e Nb) (λe' Nb=>CX outer H s E e' Nb) s'
theorem a7x{sc:cQ}(h:sc.names.lookup x=some .cell):∃c,(cellsFrom n sc.names []).lookup x=some c:=by
 exact Option.isSome_iff_exists.mp (qO sc.names n [] (.inl h))
theorem a5o{K}
  (S:p7 N ps scope) (hd:A.handled=none) (e0:v_ P w K mg base A outer s H) (hl:vs.length=ps.length) (r:Vals vs us)
  (x:InCallC s s.heap.objs.size (bindL (dQ qual scope s.heap.objs.size f cd).kindOf (ps.zip us) λ_=>none) (cellsFrom (s.heap.objs.size+1) scope.names []) (bindC (dQ qual scope s.heap.objs.size f cd).kindOf (ps.zip us) λ_=>none) s1) :
  Inv (N8 CX P w K mg base N qual scope f cd A outer s H E) [] (V6 N vs) H s1:=by
 have wb:ps.length<=N.length:=by have:=congrArg iT S.pre;rw[cI] at this;lia
 obtain⟨h1,tk,rfl,hk⟩:=x.done;have TR:∀b:aA,b ∉ (N8 CX P w K mg base N qual scope f cd A outer s H E).ex:=λb z=>absurd (show b∈([]:List aA) from z) (by simp);refine⟨⟨e0.mod,S.kind,rfl,rfl,aT _,λy z c h1 h2=>?_,λy hy=>?_,λy c _ h=>?_,λ_=>hd,qP e0.frames,.inr ⟨rfl,rfl⟩,λb z=>absurd z (TR b),e0.bs,e0.xw,λb _ _=>TR b,λb z=>absurd z (TR b),e0.gx,e0.Cj⟩,
  rfl,e0.bare,Un.kept hk,⟨_,x.toInCall.ns,λi y v h1 h2 h3=>?_⟩,λy c h=>⟨_,x.cell y c h⟩,e0.ck.fresh (aT _),λy c h=>?_,λp hp=>absurd (show p∈([]:List (aA×Obj)) from hp) (by simp),e0.ck.kept hk,?_⟩
 ·exact tL x.apart (lY h1) (lY h2)
 ·have hy:=hy
  rcases hy with hy|hy
  ·exact a7x hy
  ·exact absurd rfl (S.JI _ (lY hy))
 ·exact gQ (x.above y c (lY h))
 ·have hi:i<vs.length:=by
   unfold V6 at h2
   by_cases hi:i<vs.length
   ·exact hi
   ·rw[dU (by simp_all)] at h2
    rw[gD] at h2
    split at h2<;>cases h2
  have ha:vs[i]?=some v:=by
   unfold V6 at h2;rw[dH (by simp_all),aP] at h2
   cases e:vs[i]? with
   |none=>rw[e] at h2;cases h2
   |some a=>rw[e] at h2;cases h2;rfl
  obtain⟨u,hu,rv⟩:=r.get ha;have hp:ps[i]?=some y:=by
   rw[<-S.pre,tM (by lia)];exact h1
  have ndP:ps.Nodup:=by rw[<-S.pre];exact S.nd.sublist (List.take_sublist _ _)
  refine⟨u,rv,?_⟩;rcases S.par y (bK hp) with k|k
  ·exact .inl ⟨k,a5b ndP hp hu k⟩
  ·obtain⟨c,e⟩:=a7x k
   refine .inr ⟨.inl k,c,e,?_⟩;have q:=x.cell y c e;rw[a5w ndP hp hu (by show scope.names.lookup y≠_;rw[k];decide)] at q;exact q
 ·exact e0.ck.fresh (gQ (x.above y c (lY h)))
 ·unfold V6
  show _=N.length
  rw[aX,aH,bP];lia
theorem TU{K}{kV}
  (lk:K.lookup f=some ⟨oc,od,.func (iE name qual params body scope dV kV doc pm an ay ct),yc⟩) (xo:lZ K ay qual=true) (S:p7 N ps scope)
  (len:∀vs H Q E,sp vs H Q E->vs.length=ps.length)
  (fz:∀A outer s H vs Q E,b_ k (A.deeper (dQ qual scope s.heap.objs.size f ay))->sp vs H Q E →
   ∃t,fu (N8 CX P w K mg base N qual scope f ay A outer s H E) body t/\t {nx:=λ_ H'=>Q .non H',rt:=Q} (V6 N vs) H) :
  bf P w K mg base CX (k+1) f (iE name qual params body scope dV kV doc pm an ay ct) ps sp:=by
 refine⟨len,λA outer s H args us vs Q E hr e0 hb r iu=>?_⟩;have KX:=e0.mod.zu.keeps λb o e=>(e0.bs b o e).1;have EK:∀y∈ps.zip us,scope.names.lookup y.1=some .local\/(scope.names.lookup y.1=some .cell/\((cellsFrom (s.heap.objs.size+1) scope.names []).lookup y.1).isSome=true):=λ⟨n,v⟩ hy=>by
  rcases S.par n (nV hy).1 with q|q
  ·exact .inl q
  ·exact .inr ⟨q,qO _ _ _ (.inl q)⟩
 refine tN hr.depth (KX _ _ lk) rfl S.co S.gen rfl (tO KX xo) (hb _ _ _ _ (tQ S.kind EK λenv he s1 x=>?_));subst he;refine⟨(e0.mod.nolimit.keeps λb o e=>(e0.bs b o e).1).keeps x.toInCall.keep,tR ?_⟩;obtain⟨t,ht,hq⟩:=fz A outer s H vs Q E (hr.deeper _) iu;refine eY (ht [] s1 (V6 N vs) H _ (a5o S hr.hd e0 (len _ _ _ _ iu) r x) hq) (λfl s' hs=>?_) λe s' hs=>hs;have fin:∀{au:St}{H':Hp}{v:V}{u:aE},Inv (N8 CX P w K mg base N qual scope f ay A outer s H E) [] au H' s'->RelV v u->Q v H'->CE outer P w H s Q u s' :=
  λ{au H' v u}J rv q=>⟨v,H',J.os,J.bare,J.base,J.ck,rv,q⟩
 cases fl with
 |ret u =>
  obtain⟨v,au,H',J,rv,q⟩:=hs;exact fin J rv q
 |next =>
  obtain⟨au,H',J,q⟩:=hs;exact fin (v:=V.non) J rfl q
 |brk =>
  obtain⟨_,_,_,q⟩:=hs;exact eD q
 |cont =>
  obtain⟨_,_,_,q⟩:=hs;exact eD q
section
variable{X:Cx}{x:aC}{p pos:Pos}{e:aR}{es:List aR}{t:TA}{id T:String}{r:List V->Hp->VK->Prop}
def tCB(r:List V->Hp->VK->Prop)(t:TA):TE:=λσ H Q=>t σ H λvs H1=>r vs H1 Q
theorem j7(hc:K6 X (.builtin id) r)(hg:Gl X x)(hm:X.mg x=none)(hv:bootBuiltins x=some (.builtin id))(ha:PA X (e::es) t)(hn:x≠"__name__":=by decide)(Cq:(x==("__debug__":aC))=false:=by decide)
  (he:starEach (e::es) X.env=(false,eval e X.env)::starEach es X.env:=by rfl) (wb:(backTo pos (starEach es X.env)).any (·.1)=false:=by rfl):PE X (.Call (.Name x p) (e::es) [] pos) (tCB r t):=by
 intro pins s σ H Q I h;exact jK (JD I hg hm hv (zQ (D7 (ha pos pins s σ H _ I h) λus s1 ⟨vs,H1,I1,r1,q1⟩=>hc pins s1 σ H1 vs us Q I1 r1 q1) he wb) hn Cq)
theorem v5(hc:K6 X (.type T) r)(hg:Gl X x)(hm:X.mg x=none)(hv:bootBuiltins x=some (.type T))(ha:PA X (e::es) t)(hn:x≠"__name__":=by decide)(Cq:(x==("__debug__":aC))=false:=by decide)
  (he:starEach (e::es) X.env=(false,eval e X.env)::starEach es X.env:=by rfl) (wb:(backTo pos (starEach es X.env)).any (·.1)=false:=by rfl):PE X (.Call (.Name x p) (e::es) [] pos) (tCB r t):=by
 intro pins s σ H Q I h;exact jK (JD I hg hm hv (nJ (D7 (ha pos pins s σ H _ I h) λus s1 ⟨vs,H1,I1,r1,q1⟩=>hc pins s1 σ H1 vs us Q I1 r1 q1) he wb) hn Cq)
end
end L2
namespace HT
open PySem PyProof.Rows
section
open PySem.SeqAt
open PySem.AutoSeq1 (wpAny_loadPart')
open PySem.MeetsSeq PySem.MeetsSeq2 PySem.MeetsSeq3
end
theorem Hg(ht:gP s.heap t vs.toArray)(hb:gP s.heap b ws.toArray)(hv:vs≠[])
  (h1:ws=[]->Q (.ref t) s) (h2:ws≠[]->Q (.ref s.heap.objs.size) {s with heap:=s.heap.push {cls:=.type "tuple",data:=.seq (vs++ws).toArray}})
  (xq:vs.length+ws.length<=sizeLine):wpAny (model prog w) A (binaryOp .Add (.ref t) (.ref b)) Q E s:=by
 obtain⟨⟨cls,dd,data,sl⟩,ho,hc,n,hd⟩:=id ht;obtain⟨⟨cls2,dd2,data2,sl2⟩,Qh,Aq,n2,hd2⟩:=id hb;subst hc hd Aq hd2;have e:vs.toArray++ws.toArray=(vs++ws).toArray:=by simp
 by_cases hw:ws=[]
 ·exact tS ⟨_,ho,rfl⟩ ⟨_,Qh,rfl⟩ tT tU tV tW (tX _ _)
   (tuple_addW1 t b vs.toArray ws.toArray n n2 dd dd2 sl sl2 (by simpa using hv) (by simp[hw])) ⟨ho,Qh,h1 hw⟩
 ·refine tS ⟨_,ho,rfl⟩ ⟨_,Qh,rfl⟩ tT tU tV tW (tX _ _)
   (tuple_addW2 t b vs.toArray ws.toArray n n2 dd dd2 sl sl2 (by simpa using hv) (by simp_all) (by simp_all)) ⟨ho,Qh,?_⟩
  rw[e];exact h2 hw
def wc(n d:Nat):Option Int->Nat
 |none=>d
 |some v=>if v<0 then (v+(n:Int)).toNat else min v.toNat n
def rp n d:wc n d none=d:=rfl
def gy(n d k:Nat):wc n d (some (k:Int))=min k n:=rfl
end HT
namespace L2
open PySem PySem.Spec PyProof.Rows
abbrev TO:=St->Hp->(Option Int->Hp->Prop)->Prop
def PO(X:Cx)(e:Option aR)(t:TO):Prop :=
 ∀pins s(σ:St)H Q,Inv X pins σ H s->t σ H Q →
  wpAny (model X.prog X.w) X.A (evalPart e X.env) (λu s'=>Ev2 λo H'=>Inv X pins σ H' s'/\IsPart u o/\Q o H') X.xe s
def b5P:TO:=λ_ H Q=>Q none H
def b8Z(t:TE):TO:=λσ H Q=>t σ H λx H1=>∃i,x=.int i/\Q (some i) H1
theorem G1:PO X none b5P:=by
 intro pins s σ H Q I h;rw[tY];exact bG ⟨none,H,I,.none,h⟩
theorem B8(h:PE X e te):PO X (some e) (b8Z te):=by
 intro pins s σ H Q I hw;rw[evalPart_some];refine D7 (h pins s σ H _ I hw) λu s1 ⟨x,H1,I1,r1,q1⟩=>?_;obtain⟨i,rfl,q⟩:=q1;obtain⟨t,rfl⟩:=r1;exact⟨some i,H1,I1,.int i t,q⟩
def TV(X:Cx)(r:V->Option Int->Option Int->Hp->VK->Prop):Prop :=
 ∀pins s(σ:St)H x v vl vu lo hi sl Q,Inv X pins σ H s->RelV x v->s.heap.IsSliceOf sl vl vu .none->IsPart vl lo->IsPart vu hi->r x lo hi H Q →
  Ev2 λT id=>typeLookup (.type T) "__getitem__"=pure (some (.builtin id))/\s.TypeIs v T/\wpAny (model X.prog X.w) X.A (getItem v (.ref sl)) (EP X pins σ Q) X.xe s
def tSl(r:V->Option Int->Option Int->Hp->VK->Prop)(te:TE)(tl th:TO):TE:=λσ H Q=>te σ H λx H1=>tl σ H1 λl H2=>th σ H2 λu H3=>r x l u H3 Q
theorem B7{lo}(hr:TV X r)(he:PE X e te)(hl:PO X lo tl)(hu:PO X hi th):PE X (.Subscript e (.Slice lo hi none p2) pos) (tSl r te tl th):=by
 intro pins s σ H Q I h;refine Subscript_ (D7 (he pins s σ H _ I h) λv s1 ⟨x,H1,I1,r1,q1⟩=>(wpAny_Slice (D7 (hl pins s1 σ H1 _ I1 q1) λvl s2 ⟨l,H2,I2,pl,q2⟩=>D7 (hu pins s2 σ H2 _ I2 q2) λvu s3 ⟨u,H3,I3,pu,q3⟩=>?_)));rw[tY];refine bG ?_;have I4:Inv X pins σ H3 {s3 with heap:=s3.heap.push {cls:=.type "slice",data:=.fields #[vl,vu,.none]}}:=I3.kept λb ob q=>bL _ q;obtain⟨T,id,hT,ht,hg⟩:=hr pins {s3 with heap:=s3.heap.push {cls:=.type "slice",data:=.fields #[vl,vu,.none]}} σ H3 x v vl vu l u s3.heap.objs.size Q I4 r1 (zR ..) pl pu q3
 exact tail_any ht hT hg rfl
def P5(xs:List V)(lo hi:Option Int):List V:=(xs.drop (HT.wc xs.length 0 lo)).take (HT.wc xs.length xs.length hi-HT.wc xs.length 0 lo)
theorem a3n xs lo hi:(P5 xs lo hi).length<=xs.length:=by
 unfold P5;rw[cI,eJ];lia
inductive b8F(K:aF)(x y:V)(H:Hp)(Q:VK):Prop|mk:∀a b xs ys,x=.ref a->y=.ref b->cq K H a xs->cq K H b ys->xs≠[]->xs.length+ys.length<=sizeLine->(ys=[]->Q (.ref a) H)->(ys≠[]->∀p,H p=none->Q (.ref p) (upd H p (.tup (xs++ys))))->b8F K x y H Q
theorem Vals.wg(r:Vals xs us):us=[] ↔ xs=[]:=by
 cases r with
 |nil=>simp
 |cons _ _=>simp
theorem a9S:gw X (binaryOp .Add) (b8F X.K):=by
 intro pins s σ H x y v u Q I rx ry h;obtain⟨a,b,xs,ys,rfl,rfl,ha,hb,hx,hz,q1,q2⟩:=h
 cases rx
 cases ry;obtain⟨its,r1,p1,_⟩:=I.tuple ha;obtain⟨Cy,r2,p2,_⟩:=I.tuple hb;refine HT.Hg p1 p2 (λz=>hx (r1.wg.mp z)) (λz=>⟨.ref a,H,I,rfl,q1 (r2.wg.mp z)⟩) (λz=>⟨.ref s.heap.objs.size,_,I.laid (λb ob q=>bL _ q) (aT _) ?_,rfl,q2 (λw=>z (r2.wg.mpr w)) _ (I.ck.fresh (aT _))⟩) (by rw[<-r1.length,<-r2.length];exact hz);exact⟨by rw[aX];exact hz,_,r1.append r2,nD _ _⟩
def Bz(n:Nat)(i:Int):Option Nat:=if 0<=i then (if i<n then some i.toNat else none) else if -(n:Int)<=i then some (i+n).toNat else none
def U7{α:Type}(xs:List α)(i:Int):Option α:=(Bz xs.length i).bind λj=>xs[j]?
theorem TX(h:Bz n i=some j):seqIndex? i n=some j/\j<n/\-(n:Int)<=i/\i<n:=by
 unfold Bz at h
 by_cases h0:0<=i
 ·rw[if_pos h0] at h
  by_cases h1:i<n
  ·rw[if_pos h1] at h
   exact⟨by rw[qQ h0 h1,bD h],by lia,by lia,h1⟩
  ·rw[if_neg h1] at h;cases h
 ·rw[if_neg h0] at h
  by_cases h1:-(n:Int)<=i
  ·rw[if_pos h1] at h
   exact⟨by rw[qR (by lia) h1,bD h],by lia,h1,by lia⟩
  ·rw[if_neg h1] at h;cases h
theorem TY(h:U7 xs i=some v):∃j,seqIndex? i xs.length=some j/\xs[j]?=some v/\j<xs.length/\-(xs.length:Int)<=i/\i<xs.length:=by
 unfold U7 at h
 cases e:Bz xs.length i with
 |none=>rw[e] at h;cases h
 |some j =>
  rw[e] at h;obtain⟨h1,h2,h3,h4⟩:=TX e;exact⟨j,h1,h,h2,h3,h4⟩
theorem A2{j:Nat}(h:xs[j]?=some v):U7 xs (j:Int)=some v:=by
 have hj:j<xs.length:=(cA.mp h).1;have e:Bz xs.length (j:Int)=some j:=by
  unfold Bz;rw[if_pos (by lia),if_pos (by lia)];simp
 unfold U7;rw[e];exact h
theorem d0q xs(v:α):U7 (xs++[v]) (-1)=some v:=by
 have hl:(xs++[v]).length=xs.length+1:=by simp
 have e:Bz (xs++[v]).length (-1)=some xs.length:=by
  unfold Bz;rw[hl,if_neg (by decide),if_pos (by lia)]
  congr 1
  lia
 unfold U7;rw[e]
 simp
def b5m(b:aR):Prop:=∀o i,subscripted b false o i=operate [o,i] (getItem o i)
def JJ(X:Cx)(r:R2):Prop :=
 ∀value slice pins s(σ:St)H x y v u Q,Inv X pins σ H s->RelV x v->RelV y u->r x y H Q →
  subscripted slice false v u=operate [v,u] (getItem v u)->wpAny (model X.prog X.w) X.A (subscriptTail value slice v u) (EP X pins σ Q) X.xe s
def Qi(X:Cx)(id:String)(r:V->List V->Hp->VK->Prop):Prop :=
 ∀pins s(σ:St)H x xs v us Q,Inv X pins σ H s->RelV x v->Vals xs us->r x xs H Q →
  wpAny (model X.prog X.w) X.A (call (.builtin id) (v::us)) (EP X pins σ Q) X.xe s
section
theorem l8(hr:JJ X r)(ha:PE X a ta)(hb:PE X b tb)(hs:b5m b):PE X (.Subscript a b pos) (P_ r ta tb):=by
 intro pins s σ H Q I h;exact Subscript_ (TF ha hb I h λv u s2 x y H2 I2 rx ry q=>hr a b pins s2 σ H2 x y v u Q I2 rx ry q (hs _ _))
inductive b8A(K:aF)(x y:V)(H:Hp)(Q:VK):Prop|mk:∀p xs i v,x=.ref p->y=.int i->ah K H p xs->U7 xs i=some v->Q v H->b8A K x y H Q
inductive b8C(K:aF)(x y:V)(H:Hp)(Q:VK):Prop|mk:∀p xs i v,x=.ref p->y=.int i->cq K H p xs->U7 xs i=some v->Q v H->b8C K x y H Q
inductive c1k(x y:V)(H:Hp)(Q:VK):Prop|mk:∀z i c,x=.str z->y=.int i->z.length<=sizeLine->U7 z.cps.toList i=some c->Q (.str ⟨#[c]⟩) H->c1k x y H Q
theorem j5:JJ X (b8A X.K):=by
 intro value slice pins s σ H x y v u Q I rx ry h hs;obtain⟨p,xs,i,z,rfl,rfl,hq,he,q⟩:=h
 cases rx;obtain⟨t,rfl⟩:=ry;obtain⟨its,r,pl,hz⟩:=I.list hq;obtain⟨j,h1,h2,h3,h4,h5⟩:=TY he;obtain⟨w,ew,G'⟩:=r.get h2;have hl:=r.length;have hn:=JH;have fin:EP X pins σ Q w s:=⟨z,H,I,G',q⟩
 by_cases h0:0<=i
 ·have hj:i.toNat=j:=by
   rw[qQ h0 h5] at h1;exact bD h1
  exact item_listR pl.isList h0 (by lia) (by simp_all) fin hs
 ·have hj:(i+(its.toArray.size:Int)).toNat=j:=by
   rw[qR (by lia) h4] at h1;rw[bY,<-hl];exact bD h1
  exact tZ pl.isList.typeIs slot_list_getitem.lookup
   (wpAny_getItem_list_neg pl.isList (by lia) (by simp_all) (by lia) (by simp_all) ⟨rfl,fin⟩) hs
theorem U8:JJ X (b8C X.K):=by
 intro value slice pins s σ H x y v u Q I rx ry h hs;obtain⟨p,xs,i,z,rfl,rfl,hq,he,q⟩:=h
 cases rx;obtain⟨t,rfl⟩:=ry;obtain⟨its,r,pl,hz⟩:=I.tuple hq;obtain⟨j,h1,h2,h3,h4,h5⟩:=TY he;obtain⟨w,ew,G'⟩:=r.get h2;have hn:=JH;exact tZ pl.typeIs slot_tuple_getitem.lookup
  (getItem_tuple pl (by lia) (by lia) (by rw[bY,<-r.length];exact h1) (by simp_all) ⟨rfl,⟨z,H,I,G',q⟩⟩) hs
theorem Nc:JJ X c1k:=by
 intro value slice pins s σ H x y v u Q I rx ry h hs;obtain⟨z,i,c,rfl,rfl,hz,he,q⟩:=h;obtain⟨t,rfl⟩:=rx;obtain⟨t',rfl⟩:=ry;obtain⟨j,h1,h2,h3,h4,h5⟩:=TY he;have hl:z.cps.toList.length=z.length:=by simp[Str.length]
 rw[hl] at h1 h4 h5;have hn:=JH;exact tail_any (mD s z t) slot_str_getitem.lookup (getItem_str (by
  have e1:decide (i < -(2^63:Int))=false:=decide_eq_false (by lia);have e2:decide (i ≥ 2^63)=false:=decide_eq_false (by lia);rw[e1,e2,mG]) (by simp_all) ⟨.str ⟨#[c]⟩,H,I.tok _,⟨_,rfl⟩,q⟩) hs
theorem a8b(its:List aE)n j u:gT (·.setIfInBounds j u) {cls:=.type "list",data:=.seq its.toArray n}={cls:=.type "list",data:=.seq (its.set j u).toArray n}:=by
 simp[gT]
theorem Inv.lst{σ:St}{H}{s}{p}{xs}(I:Inv X pins σ H s)(h:H p=some (.lst xs)) :
  Ev2 λits n=>Vals xs its/\s.heap.get? p=some {cls:=.type "list",data:=.seq its.toArray n}/\xs.length<=sizeLine:=by
 obtain⟨z,its,n,r,e⟩:=I.ck p _ h;exact⟨its,n,r,e,z⟩
theorem Inv.JK{σ:St}{its:List aE}(I:Inv X pins σ H s)(h:H p=some (.lst xs))
  (ho:s.heap.get? p=some {cls:=.type "list",data:=.seq its.toArray n}) (hf:f {cls:=.type "list",data:=.seq its.toArray n}={cls:=.type "list",data:=.seq its'.toArray n'}) (r:Vals ys its') (hz:ys.length<=sizeLine) t :
  Inv X pins σ (upd H p (.lst ys)) {s with heap:=s.heap.update p f,toks:=t}:=by
 have e:(s.heap.update p f).get? p=some {cls:=.type "list",data:=.seq its'.toArray n'}:=by
  rw[uA f ho (by rw[hf]<;>rfl),hf]
 exact I.write (by rw[h];trivial) (.inl rfl) (λb u hb q=>(uB _ _ (bV hb)).trans q) ⟨_,e⟩ ⟨hz,its',n',r,e⟩
inductive b8z(o i v:V)(H:Hp)(Q:(Hp->Prop)):Prop|mk:∀p xs k j,o=.ref p->i=.int k->H p=some (.lst xs)->Bz xs.length k=some j->Q (upd H p (.lst (xs.set j v)))->b8z o i v H Q
theorem O1:b9M X b8z:=by
 intro pins s σ H o i v ov iv u Q I ro ri rv h;obtain⟨p,xs,k,j,rfl,rfl,hp,hj,q⟩:=h
 cases ro;obtain⟨t,rfl⟩:=ri;obtain⟨its,n,r,ho,hz⟩:=I.lst hp;obtain⟨h1,h2,h3,h4⟩:=TX hj;have hl:=r.length;have hn:=JH;have I':=
  I.JK hp ho (a8b its n j u) (r.set rv j) (by simp_all) s.toks
 by_cases h0:0<=k
 ·have hk:k.toNat=j:=by
   rw[qQ h0 h4] at h1;exact bD h1
  exact W.ki_setAt ho h0 (by lia) (by simp_all) (hk▸⟨_,I',q⟩)
 ·have hk:(k+(its.toArray.size:Int)).toNat=j:=by
   rw[qR (by lia) h3] at h1;rw[bY,<-hl];exact bD h1
  exact W.ki_setBack ho (by lia) (by simp_all) (by lia) (hk▸⟨_,I',q⟩)
theorem a5E lo hi n:(sliceBounds lo hi none n).1=((HT.wc n 0 lo:Nat):Int)/\(sliceBounds lo hi none n).2.1=((HT.wc n n hi:Nat):Int)/\(sliceBounds lo hi none n).2.2=1:=by
 refine⟨?_,?_,rfl⟩
 ·cases lo with
  |none=>simp[sliceBounds,HT.wc]
  |some i =>
   simp only[sliceBounds,HT.wc,uC,show(1:Int)>0 by decide,if_true]
   by_cases h:i<0
   ·simp only[h,if_true]<;>lia
   ·simp only[h,if_false]<;>lia
 ·cases hi with
  |none=>simp[sliceBounds,HT.wc]
  |some i =>
   simp only[sliceBounds,HT.wc,uC,show(1:Int)>0 by decide,if_true]
   by_cases h:i<0
   ·simp only[h,if_true]<;>lia
   ·simp only[h,if_false]<;>lia
theorem a4H(its:List aE)lo hi:slicePick its.toArray lo hi none=((its.drop (HT.wc its.length 0 lo)).take (HT.wc its.length its.length hi-HT.wc its.length 0 lo)).toArray:=by
 obtain⟨h1,h2,h3⟩:=a5E lo hi its.toArray.size;unfold slicePick;rw[h1,h2,h3];simp only[sliceRange_one,pick_run,bY]<;>rfl
inductive c0p(K:aF)(x:V)(lo hi:Option Int)(H:Hp)(Q:VK):Prop|mk:∀a xs,x=.ref a->ah K H a xs->(∀p,H p=none->Q (.ref p) (upd H p (.lst (P5 xs lo hi))))->c0p K x lo hi H Q
theorem M0:TV X (c0p X.K):=by
 intro pins s σ H x v vl vu lo hi sl Q I rx hs pl pu h;obtain⟨a,xs,rfl,hx,q⟩:=h
 cases rx;obtain⟨its,r,ht,hz⟩:=I.list hx;have hlen:=r.length;refine⟨"list",_,slot_list_getitem.lookup,ht.isList.typeIs,wpAny_getItem_list_slice ht.isList hs pl pu .none (by simp) ?_ (by simp_all)⟩;rw[a4H,<-hlen];refine⟨.ref s.heap.objs.size,_,I.laid (λb ob q=>bL _ q) (aT _) ?_,rfl,q _ (I.ck.fresh (aT _))⟩;exact⟨Nat.le_trans (a3n xs lo hi) hz,_,0,(r.drop (HT.wc xs.length 0 lo)).take (HT.wc xs.length xs.length hi-HT.wc xs.length 0 lo),dG _ rfl⟩
def Hh:V->Bool
 |.non=>true
 |.bl _=>true
 |.int _=>true
 |.str _=>true
 |_=>false
def GB:V->V->Bool
 |.non,.non=>true
 |.bl a,.bl b=>a==b
 |.bl a,.int b=>(if a then 1 else 0)==b
 |.int a,.bl b=>a==(if b then 1 else 0)
 |.int a,.int b=>a==b
 |.str a,.str b=>a==b
 |_,_=>false
theorem b7m(ry:RelV y u)(rx:RelV x v)(fy:Hh y=true)(fx:Hh x=true):uD A s u v (GB y x):=by
 cases y with
 |non =>
  cases ry
  cases x with
  |non=>cases rx;exact zS _
  |bl b=>cases rx;exact zT b
  |int b=>obtain⟨t,rfl⟩:=rx;exact zU b t
  |str b=>obtain⟨t,rfl⟩:=rx;exact zV b t
  |_=>exact absurd (show false=true from fx) cX
 |bl a =>
  cases ry
  cases x with
  |non=>cases rx;exact zW a
  |bl b=>cases rx;exact zX a b
  |int b=>obtain⟨t,rfl⟩:=rx;exact zY a b t
  |str b=>obtain⟨t,rfl⟩:=rx;exact zZ a b t
  |_=>exact absurd (show false=true from fx) cX
 |int a =>
  obtain⟨t',rfl⟩:=ry
  cases x with
  |non=>cases rx;exact Aa a t'
  |bl b=>cases rx;exact Ab a t' b
  |int b=>obtain⟨t,rfl⟩:=rx;exact Ac a t' b t
  |str b=>obtain⟨t,rfl⟩:=rx;exact sI a t' b t
  |_=>exact absurd (show false=true from fx) cX
 |str a =>
  obtain⟨t',rfl⟩:=ry
  cases x with
  |non=>cases rx;exact Ad a t'
  |bl b=>cases rx;exact Ae a t' b
  |int b=>obtain⟨t,rfl⟩:=rx;exact sJ a t' b t
  |str b=>obtain⟨t,rfl⟩:=rx;exact Af a t' b t
  |_=>exact absurd (show false=true from fx) cX
 |_=>exact absurd (show false=true from fy) cX
def Ar(x:V)(u:aE):Bool:=match u with
 |.none=>GB .non x
 |.bool b=>GB (.bl b) x
 |.int i _=>GB (.int i) x
 |.str z _=>GB (.str z) x
 |_=>false
theorem b1X(r:RelV y u)(f:Hh y=true):Ar x u=GB y x:=by
 cases y with
 |non=>cases r;rfl
 |bl b=>cases r;rfl
 |int i=>obtain⟨t,rfl⟩:=r;rfl
 |str z=>obtain⟨t,rfl⟩:=r;rfl
 |_=>exact absurd (show false=true from f) cX
theorem Nd:∀{xs}{us},Vals xs us->xs.all Hh=true->us.any (Ar x)=xs.any λy=>GB y x
 |_,_,.nil,_=>rfl
 |y::xs,u::us,.cons r t,f=>by
  rw[uE,fQ] at f;rw[jM,jM,b1X r f.1,Nd t f.2]
theorem Nf(rx:RelV x v)(fx:Hh x=true):∀{xs}{us},Vals xs us->xs.all Hh=true->∀u∈us,uD A s u v (Ar x u)
 |_,_,.nil,_=>λu hu=>by cases hu
 |y::xs,u::us,.cons r t,f=>λu' hu=>by
  rw[uE,fQ] at f;rcases bH.mp hu with rfl|hu
  ·rw[b1X r f.1];exact b7m r rx f.1 fx
  ·exact Nf rx fx t f.2 u' hu
def Hi(x:V)(xs:List V):Bool:=xs.any λy=>GB y x
inductive rIn(K:aF)(neg:Bool)(x y:V)(H:Hp)(Q:VK):Prop|mk:∀p xs,y=.ref p->(ah K H p xs\/cq K H p xs)->Hh x=true->xs.all Hh=true->Q (.bl (if neg then !Hi x xs else Hi x xs)) H->rIn K neg x y H Q
theorem Qj:gw X (compareOp .In) (rIn X.K false):=by
 intro pins s σ H x y v u Q I rx ry h;obtain⟨p,xs,rfl,hq,fx,fs,q⟩:=h
 cases ry;rcases hq with hq|hq
 ·obtain⟨its,r,pl,hz⟩:=I.list hq
  refine uF (Ar x) pl.isList (λw hw=>Nf rx fx r fs w (by simp_all)) ⟨.bl _,H,I,rfl,?_⟩;rw[show its.toArray.any (Ar x)=its.any (Ar x) by simp,Nd r fs];exact q
 ·obtain⟨its,r,pl,hz⟩:=I.tuple hq
  refine SeqAt.in_tupleAt (Ar x) pl (λw hw=>Nf rx fx r fs w (by simp_all)) ⟨.bl _,H,I,rfl,?_⟩;rw[show its.toArray.any (Ar x)=its.any (Ar x) by simp,Nd r fs];exact q
theorem a5H:gw X (compareOp .NotIn) (rIn X.K true):=by
 intro pins s σ H x y v u Q I rx ry h;obtain⟨p,xs,rfl,hq,fx,fs,q⟩:=h
 cases ry;rcases hq with hq|hq
 ·obtain⟨its,r,pl,hz⟩:=I.list hq
  refine SeqAt.notIn_listAt (Ar x) pl.isList (λw hw=>Nf rx fx r fs w (by simp_all)) ⟨.bl _,H,I,rfl,?_⟩;rw[show its.toArray.any (Ar x)=its.any (Ar x) by simp,Nd r fs];exact q
 ·obtain⟨its,r,pl,hz⟩:=I.tuple hq
  refine SeqAt.notIn_tupleAt (Ar x) pl (λw hw=>Nf rx fx r fs w (by simp_all)) ⟨.bl _,H,I,rfl,?_⟩;rw[show its.toArray.any (Ar x)=its.any (Ar x) by simp,Nd r fs];exact q
theorem j6:K6 X (.builtin "len") (λxs H Q=>Ev2 λp ys=>xs=[.ref p]/\(ah X.K H p ys\/cq X.K H p ys)/\Q (.int ys.length) H):=by
 intro pins s σ H xs us Q I r h;obtain⟨p,ys,rfl,hq,q⟩:=h;obtain⟨u,rfl,rx⟩:=U1 r
 cases rx;have hn:=JH;rcases hq with hq|hq
 ·obtain⟨its,r',pl,hz⟩:=I.list hq
  have hlen:=r'.length;exact Calls.call_len_list pl.isList (by simp only[bY]<;>lia) ⟨.int ys.length,H,I.tok _,⟨s.toks+1,by rw[bY,hlen]⟩,q⟩
 ·obtain⟨its,r',pl,hz⟩:=I.tuple hq
  have hlen:=r'.length;exact len_tuple pl (by simp only[bY]<;>lia) ⟨.int ys.length,H,I.tok _,⟨s.toks+1,by rw[bY,hlen]⟩,q⟩
theorem Q8:K6 X (.builtin "len") (λxs H Q=>∃z,xs=[.str z]/\z.length<=sizeLine/\Q (.int z.length) H):=by
 intro pins s σ H xs us Q I r h;obtain⟨z,rfl,hz,q⟩:=h;obtain⟨u,rfl,t,rfl⟩:=U1 r;have hn:=JH;exact len_str (by lia) ⟨.int z.length,H,I.tok _,⟨_,rfl⟩,q⟩
theorem C5:K6 X (.type "list") (λxs H Q=>Ev2 λp ys=>xs=[.ref p]/\(ah X.K H p ys\/cq X.K H p ys)/\∀l,H l=none->Q (.ref l) (upd H l (.lst ys))):=by
 intro pins s σ H xs us Q I r h;obtain⟨p,ys,rfl,hq,q⟩:=h;obtain⟨u,rfl,rx⟩:=U1 r
 cases rx;have fin:∀its,Vals ys its->ys.length<=sizeLine->∀h' c',(∀b o',s.heap.get? b=some o'->h'.get? b=some o') →
   h'.get? s.heap.objs.size=some {cls:=.type "list",dict:=none,data:=.seq its.toArray c',slots:=#[]}->EP X pins σ Q (.ref s.heap.objs.size) {s with heap:=h'}:=λits r' hz h' c' kp e =>
  ⟨.ref s.heap.objs.size,_,I.laid kp (aT _) (show dh X.prog X.w _ h' _ (.lst ys) from⟨hz,its,c',r',e⟩),rfl,q _ (I.ck.fresh (aT _))⟩
 rcases hq with hq|hq
 ·obtain⟨its,r',pl,hz⟩:=I.list hq
  have hlen:=r'.length;obtain⟨o,ho,hc,n,hd⟩:=pl.isList;exact uG p (.inl rfl) ho hc hd (λh' c' kp e=>fin its r' hz h' c' kp e) (by simp_all)
 ·obtain⟨its,r',pl,hz⟩:=I.tuple hq
  have hlen:=r'.length;obtain⟨o,ho,hc,n,hd⟩:=pl;exact uG p (.inr rfl) ho hc hd (λh' c' kp e=>fin its r' hz h' c' kp e) (by simp_all)
theorem E7:K6 X (.type "tuple") (λxs H Q=>Ev2 λp ys=>xs=[.ref p]/\((ah X.K H p ys/\∀l,H l=none->Q (.ref l) (upd H l (.tup ys)))\/(cq X.K H p ys/\Q (.ref p) H))):=by
 intro pins s σ H xs us Q I r h;obtain⟨p,ys,rfl,h⟩:=h;obtain⟨u,rfl,rx⟩:=U1 r
 cases rx;rcases h with⟨hq,q⟩|⟨hq,q⟩
 ·obtain⟨its,r',pl,hz⟩:=I.list hq
  have hlen:=r'.length;refine call_tuple_list pl.isList (λh' kp=>?_) (by simp_all);have I1:=I.kept (t':=s.toks) kp;have I2:=
   I1.laid (t':=s.toks) (λb o e=>bL _ e) (aT _) (show dh X.prog X.w _ _ _ (.tup ys) from⟨hz,its,r',nD _ _⟩)
  exact⟨.ref h'.objs.size,_,I2,rfl,q _ (I1.ck.fresh (aT _))⟩
 ·obtain⟨its,r',pl,hz⟩:=I.tuple hq
  exact call_tuple_same pl ⟨.ref p,H,I,rfl,q⟩
def TZ(K:aF)(T:String)(x:V)(H:Hp):Prop:=match x with
 |.str _=>T="str"
 |.int _=>T="int"
 |.ref p=>(T="list"/\∃xs,ah K H p xs)\/(T="tuple"/\∃o,K.lookup p=some o/\o.cls=.type "tuple"/\o.dict=none) ∨
   (T="dict"/\((∃dz,H p=some (.dK dz))\/∃dz,H p=some (.dT dz)))\/(T="set"/\Ev2 λS n=>H p=some (.set S n))
 |_=>False
theorem b1u{σ:St}(I:Inv X pins σ H s)(r:RelV x v)(ty:TZ X.K T x H) :
  s.TypeIs v T/\∀a,v=.ref a->∃ob,s.heap.get? a=some ob/\ob.dict=none:=by
 cases x with
 |str z =>
  obtain⟨t,rfl⟩:=r
  cases (show T="str" from ty);exact⟨typeIs_str s z t,λ_ e=>nomatch e⟩
 |int i =>
  obtain⟨t,rfl⟩:=r
  cases (show T="int" from ty);exact⟨typeIs_int s i t,λ_ e=>nomatch e⟩
 |ref p =>
  cases r;rcases ty with⟨rfl,xs,hq⟩|⟨rfl,o,hk,hc,hd⟩|⟨rfl,hk⟩|⟨rfl,S,n,hk⟩
  ·obtain⟨its,_,pl,_⟩:=I.list hq
   refine⟨pl.isList.typeIs,λa e=>?_⟩
   cases e;obtain⟨o,n,e,c,hd,_⟩:=pl;exact⟨o,e,hd⟩
  ·refine⟨⟨o,I.ix p o hk,hc⟩,λa e=>?_⟩
   cases e;exact⟨o,I.ix _ o hk,hd⟩
  ·have z:∃o,s.heap.get? p=some o/\o.ExactDict:=by
    rcases hk with⟨dz,hk⟩|⟨dz,hk⟩
    ·obtain⟨_,_,_,_,o,_,_,e,ex,_⟩:=I.ck p _ hk
     exact⟨o,e,ex⟩
    ·obtain⟨_,_,_,_,o,_,_,e,ex,_⟩:=I.ck p _ hk
     exact⟨o,e,ex⟩
   obtain⟨o,e,ex⟩:=z;refine⟨⟨o,e,ex.1⟩,λa e2=>?_⟩
   cases e2;exact⟨o,e,ex.2.1⟩
  ·obtain⟨o,_,_,_,e,ex,_⟩:=I.ck p _ hk
   refine⟨⟨o,e,ex.1⟩,λa e2=>?_⟩
   cases e2;exact⟨o,e,ex.2.1⟩
 |_=>exact eD ty
def c0N(K:aF)(T:String)(r:V->List V->Hp->VK->Prop)(to:TE):TE:=λσ H Q=>to σ H λx H1=>TZ K T x H1/\r x [] H1 Q
def Qk(K:aF)(T:String)(r:V->List V->Hp->VK->Prop)(to:TE)(t:TA):TE:=λσ H Q=>to σ H λx H1=>TZ K T x H1/\t σ H1 λxs H2=>r x xs H2 Q
variable{o e:aR}{es:List aR}{to:TE}{t:TA}{name:aC}{apos iz:Pos}{T id:String}{r:V->List V->Hp->VK->Prop}
theorem b7P(pa:qS T)(slot:Slot T name id)(Ng:typeOf (.builtin id)=pure (.type "method_descriptor"))(hm:Qi X id r)(ho:PE X o to)
  (yd:attributeBase o name X.env (eval o X.env)=eval o X.env:=by rfl) (ye:(apos.endLine==iz.line)=true:=by rfl):PE X (.Call (.Attribute o name apos) [] [] iz) (c0N X.K T r to):=by
 intro pins s σ H Q I h;refine wpAny_Call_method0_late yd ye (D7 (ho pins s σ H _ I h) λv s1 ⟨x,H1,I1,r1,ty,q1⟩=>?_);obtain⟨h1,h2⟩:=b1u I1 r1 ty;exact⟨T,id,pa,slot,Ng,h1,h2,uH rfl (PySem.evalArgs_none (hm pins s1 σ H1 x [] v [] Q I1 r1 .nil q1))⟩
theorem K7(pa:qS T)(slot:Slot T name id)(Ng:typeOf (.builtin id)=pure (.type "method_descriptor"))(hm:Qi X id r)(ho:PE X o to)(ha:PA X (e::es) t)
    (yd:attributeBase o name X.env (eval o X.env)=eval o X.env:=by rfl)
    (JL:((backTo iz (starEach (e::es) X.env)).all (λx=>!x.1)&&(backToKw iz (keywordEach [] X.env)).all (λx=>x.1.isSome)
     &&decide ((e::es).length+([]:List lX).length+(if ([]:List lX).isEmpty then 0 else 1)<30))=true:=by rfl)
    (ye:(apos.endLine==iz.line)=true:=by rfl) (hs:starEach (e::es) X.env=(false,eval e X.env)::starEach es X.env:=by rfl) (As:(backTo iz (starEach es X.env)).any (·.1)=false:=by rfl) :
    PE X (.Call (.Attribute o name apos) (e::es) [] iz) (Qk X.K T r to t):=by
  intro pins s σ H Q I h;refine wpAny_Call_method_late yd JL ye rfl (D7 (ho pins s σ H _ I h) λv s1 ⟨x,H1,I1,r1,ty,q1⟩=>?_);obtain⟨h1,h2⟩:=b1u I1 r1 ty;refine⟨T,id,pa,slot,Ng,h1,h2,?_⟩;have hA:=ha iz pins s1 σ H1 _ I1 q1;rw[hs] at hA⊢;exact uH (by show(false||(backTo iz (starEach es X.env)).any (·.1))=false;rw[As]<;>rfl) (uI (D7 hA λus s2 ⟨vs,H2,I2,r2,q2⟩=>hm pins s2 σ H2 x vs v us Q I2 r1 r2 q2))
/- xs.append(e),list.index on a module's tuple .. are Qi facts of 06m -/
end
def Lz(X:Cx)(id:String)(r:V->List V->Hp->VK->Prop):Prop :=
 ∀pins s(σ:St)H x xs v us Q,Inv X pins σ H s->RelV x v->Vals xs us->r x xs H Q →
  wpAny (model X.prog X.w) X.A (call (.builtin id) (v::us)) (EP X pins σ Q) X.xe s
theorem Vals.one:∀{x}{us},Vals [x] us->∃u,us=[u]/\RelV x u
 |_,_,.cons r .nil=>⟨_,rfl,r⟩
theorem Vals.zero:∀{us},Vals [] us->us=[]
 |_,.nil=>rfl
theorem Vals.dropLast(h:Vals xs us):Vals xs.dropLast us.dropLast:=by
 induction h with
 |nil=>exact .nil
 |cons r t ih =>
  cases t with
  |nil=>exact .nil
  |cons q t'=>exact .cons r ih
theorem Vals.rep(h:Vals xs us):∀k,Vals (aQ k xs).flatten (aQ k us).flatten
 |0=>.nil
 |k+1=>by
  rw[eZ,eZ,gE,gE];exact Vals.append h (Vals.rep h k)
theorem a7X{α:Type}(l:List α):l.eraseIdx (l.length-1)=l.dropLast:=by simp
theorem Ql(its:List aE):∀k acc,
  jN (λx1 x2=>x1++x2) acc.toArray (aQ k its.toArray)=(acc++(aQ k its).flatten).toArray
 |0,acc=>by simp
 |k+1,acc=>by
  have e:acc.toArray++its.toArray=(acc++its).toArray:=by simp
  have e2:(acc++its)++(aQ k its).flatten=acc++(aQ (k+1) its).flatten:=by
   rw[eZ,gE,dC]
  rw[<-e2,<-Ql its k (acc++its),<-e,eZ,List.foldl_cons]
section
variable{X:Cx}{pins:List (aA×Obj)}{σ:St}{H:Hp}{s:aG}{l b:aA}{xs ys zs:List V}
theorem Inv.JM{its:List aE}(I:Inv X pins σ H s)(hH:H l=some (.lst xs))
  (e:s.heap.get? l=some {cls:=.type "list",data:=.seq its.toArray n}) (hf:f its.toArray=its'.toArray) (hv:Vals ys its') (hz:ys.length<=sizeLine) :
  Inv X pins σ (upd H l (.lst ys)) {s with heap:=s.heap.update l (gT f),toks:=t'}:=by
 have q:=Ag e f;rw[hf] at q;exact I.write (hH▸trivial) (.inl rfl) (λb' u hb hu=>(uB s.heap (gT f) (bV hb)).trans hu) ⟨_,q⟩ ⟨hz,its',_,hv,q⟩
def Inv.JN(I:Inv X pins σ H s)(hv:Vals ys its)(hz:ys.length<=sizeLine) :
  Inv X pins σ (upd H s.heap.objs.size (.lst ys)) {s with heap:=s.heap.push {cls:=.type "list",data:=.seq its.toArray},toks:=t'} :=
 I.laid (λ_ _ q=>bL _ q) (aT _) ⟨hz,its,0,hv,dG _ rfl⟩
def Inv.fresh(I:Inv X pins σ H s):H s.heap.objs.size=none:=I.ck.fresh (aT _)
theorem Inv.Cz(I:Inv X pins σ H s)(hH:H l=some (.lst xs)):xs.length<=sizeLine/\Ev2 λits n=>Vals xs its/\xs.length=its.length/\s.heap.get? l=some {cls:=.type "list",data:=.seq its.toArray n}:=by
 obtain⟨z,its,n,r,e⟩:=I.ck l _ hH;exact⟨z,its,n,r,r.length,e⟩
theorem b1T(h:n<=sizeLine):qV n=false:=by
 unfold qV;exact decide_eq_false (by lia)
end
inductive b5r(x:V)(vs:List V)(H:Hp)(Q:VK):Prop|mk:∀l xs y,x=.ref l->vs=[y]->H l=some (.lst xs)->xs.length<sizeLine->Q .non (upd H l (.lst (xs++[y])))->b5r x vs H Q
theorem P2:Lz X "list.append" b5r:=by
 intro pins s σ H x vs v us Q I rx rv h;obtain⟨l,xs,y,rfl,rfl,hH,hz,q⟩:=h
 cases rx;obtain⟨u,rfl,ru⟩:=rv.one;obtain⟨z,its,n,r,hl,e⟩:=I.Cz hH;refine gF F.slot_list_append ⟨_,e,rfl⟩ F.entry_list_append (F.args_list_append_2 _ _) (PySem.list_append l its.toArray n u (by simp_all)) ⟨e,.non,_,I.JM hH e (by simp) (r.append (.cons ru .nil)) ?_,rfl,q⟩;rw[aX,fR];lia
inductive c0W(x:V)(vs:List V)(H:Hp)(Q:VK):Prop|mk:∀l xs y,x=.ref l->vs=[]->H l=some (.lst xs)->xs[xs.length-1]?=some y->Q y (upd H l (.lst xs.dropLast))->c0W x vs H Q
theorem b7F:Lz X "list.pop" c0W:=by
 intro pins s σ H x vs v us Q I rx rv h;obtain⟨l,xs,y,rfl,rfl,hH,hy,q⟩:=h
 cases rx;have hus:=rv.zero;subst hus;obtain⟨z,its,n,r,hl,e⟩:=I.Cz hH;obtain⟨u,hu,ru⟩:=r.get hy;have T_:its.toArray[its.toArray.size-1]?=some u:=by
  show its.toArray[its.length-1]?=some u
  rw[<-qW,<-hl];exact hu
 refine gF uJ ⟨_,e,rfl⟩ uK (F.args_list_pop_1 _) (MeetsSeq.list_pop_last l its.toArray n u T_ (by simp_all)) ⟨e,y,_,I.JM hH e ?_ r.dropLast ?_,ru,q⟩
 ·show its.toArray.eraseIdxIfInBounds (its.toArray.size-1)=its.dropLast.toArray
  rw[bY,uL,a7X]
 ·rw[List.length_dropLast]
  lia
inductive c1q(x y:V)(H:Hp)(Q:VK):Prop|mk:∀l b xs zs,x=.ref l->y=.ref b->H l=some (.lst xs)->H b=some (.lst zs)->xs.length+zs.length<=sizeLine->(∀p,H p=none->Q (.ref p) (upd H p (.lst (xs++zs))))->c1q x y H Q
theorem B9:gw X (binaryOp .Add) c1q:=by
 intro pins s σ H x y v u Q I rx ry h;obtain⟨l,b,xs,zs,rfl,rfl,hH,hB,hz,q⟩:=h
 cases rx
 cases ry;obtain⟨z,its,n,r,hl,e⟩:=I.Cz hH;obtain⟨z2,Cy,n2,r2,j_,e2⟩:=I.Cz hB;refine PySem.P.add_list e e2 ?_ (by simp_all);have ea:its.toArray++Cy.toArray=(its++Cy).toArray:=by simp
 rw[ea];exact⟨.ref _,_,I.JN (r.append r2) (by simp_all),rfl,q _ I.fresh⟩
inductive c0Y(x y:V)(H:Hp)(Q:VK):Prop|mk:∀l k xs,x=.ref l->y=.int k->H l=some (.lst xs)->-(2^63)<=k->k<2^63->xs.length*k.toNat<=sizeLine->(∀p,H p=none->Q (.ref p) (upd H p (.lst (aQ k.toNat xs).flatten)))->c0Y x y H Q
theorem Ua{α:Type}(xs:List α)k:(aQ k xs).flatten.length=k*xs.length:=by simp
theorem Q6:gw X (binaryOp .Mult) c0Y:=by
 intro pins s σ H x y v u Q I rx ry h;obtain⟨l,k,xs,rfl,rfl,hH,h1,h2,hz,q⟩:=h
 cases rx;obtain⟨t,rfl⟩:=ry;obtain⟨z,its,n,r,hl,e⟩:=I.Cz hH;have hlen:its.toArray.size*k.toNat<=sizeLine:=by rw[bY,<-hl];exact hz
 have Ub:¬its.toArray.size*k.toNat>(2^63-1)/8:=by
  have:(sizeLine:Nat)<=(2^63-1)/8:=by decide
  lia
 have Uc:¬(!Builtin.List.listFitsIndex k)=true:=by
  rw[uM h1 h2];exact cX
 have Nh:¬qV (its.toArray.size*k.toNat)=true:=by
  rw[b1T hlen];exact cX
 have Ud:jN (λx1 x2=>x1++x2) #[] (aQ (if its.toArray.isEmpty=true then 0 else k.toNat) its.toArray)=(aQ k.toNat its).flatten.toArray:=by
  have f0:=λm=>by
   have:=Ql its m [];rw[gG] at this;exact this
  rw[f0]
  cases its with
  |nil=>simp
  |cons a r'=>rw[if_neg (by simp)]
 refine uN (by decide) ⟨_,e,rfl⟩ (λs'=>nX s' k t) noFill_list_mul uO nY repeat_list uP.lookup
  (gF nY (nX s k t) uQ (uR _ _) (int___rmul___int_list k t l its.toArray n)
   ⟨e,rfl,⟨_,e,rfl⟩,gF F.slot_list_mul ⟨_,e,rfl⟩ F.entry_list_mul (F.args_list_mul_2 _ _) (Ah l its.toArray n k t Uc Ub Nh) ⟨e,?_⟩⟩)
 rw[Ud];exact⟨.ref _,_,I.JN (r.rep k.toNat) (by rw[Ua,qX];exact hz),rfl,q _ I.fresh⟩
end L2
namespace Att
open PySem PySem.W PySem.Calls PyProof.Rows
theorem a0q:∀ns vs,WellAll P h vs (ns.map Fk)->Do vs ns:=by
 intro ns
 induction ns with
 |nil =>
  intro vs w;rw[jY] at w
  cases w;exact .nil
 |cons n ns ih =>
  intro vs w;rw[cS] at w
  cases w with
  |cons a b =>
   cases a;exact .cons _ _ (ih _ b)
theorem c6W{l:Ev}(hn:l.most=some n)
  (hpre:l.row.toRowW.claim.pre args=true) (XZ:WellAll P h vals args) :
  Ev3 λa vs ns=>vals=[cZ a]/\args=[WData.list (ns.map Fk)]/\h.get? a=some {cls:=.type "list",data:=.seq vs.toArray}/\Do vs ns/\ns.length<=n:=by
 have hc:l.pre.holds [] {args:=args}=true:=(pre_splitW hpre).2;obtain⟨d,r,rfl,h1,h2⟩:=hasAllW_cons ((pre_splitW hpre).1);obtain rfl:=hasAllW_nil h2;obtain⟨xs,rfl,h3⟩:=hasW_list h1;obtain⟨ns,rfl⟩:=items_int h3;have hlen:ns.length<=n:=by
  unfold OpenLaw.pre at hc;have h4:(WTm.not (.lt (.lit (.int (n:Int))) (.len (.arg 0)))).holds [] {args:=[.list (ns.map .int)]}=true:=by
   have h4:=(holds_andW hc).1;rw[hn] at h4;exact h4
  have h5:=condW_of h4 (w_not (w_lt w_lit (w_len_list (w_arg rfl))));rw[aH] at h5;refine uV λq=>?_;have q':(n:Int)<((ns.length:Nat):Int):=by lia
  first
   |(rw[decide_eq_true q'] at h5;exact absurd h5 (by decide))
   |(simp at h5;lia)
 cases XZ with
 |cons w1 w2 =>
  cases w2
  cases w1 with
  |list ho hall=>exact⟨_,_,ns,rfl,rfl,ho,a0q ns _ hall,hlen⟩
theorem c6V(l:Ev)args:l.row.toRowW.claim.post args (.bool true) args=true :=
 postW_of
  (show Go [] (.bool true) .bool=true by first|rfl|decide|simp[WShape.arms])
  (show(WTm.eq .res (.lit (.bool true))).value [] {args:=args,res:=some (.bool true),after:=args}=some (.bool (true==true)) from w_eq_bool (w_res rfl) w_lit) rfl
theorem aan{l:Ev}
  (hn:l.most=some n) (hdf:d.params.defaults=[])
  (call:∀w s₀ vy mg mb fa o pm cd doc a vs ns,
   Ground q loose [] XP_ w s₀ mg mb vy.heap->YP_ w vy.heap →
   vy.heap.get? fa=some o->o.data=.func (docDef d.name d.params d.body d.scope pm cd doc)->vy.heap.CodeRec cd d.name->mg d.name=some (.ref fa) →
   vy.heap.get? a=some {cls:=.type "list",data:=.seq vs.toArray}->Do vs ns->ns.length<=n->vy.gens=#[] →
   codeAny (model l.prog w) callerA (.call (.ref fa) ⟨[.ref a],[]⟩) (λr s'=>r=.ok (.ret (.bool true))/\OldK vy.heap s'.heap/\s'.os=vy.os/\jC s'.gens) vy) :
  WalkO q loose XP_ YP_ l.row.toRowW d [] (λf vs=>Fa f vs):=by
 intro w s₀ vy mg mb G Y fa o pm cd doc dV kV ho hd xo hD hmg hg args vals as hpre hlay hrd XZ hlo;obtain rfl:dV=.none:=Dflts.none hD hdf;obtain rfl:kV=.none:=Dflts.noKw hD;obtain⟨a,vs,ns,rfl,rfl,hobj,hints,hlen⟩:=c6W hn hpre XZ;refine enter_call (nR (call w s₀ vy mg mb fa o pm cd doc a vs ns G Y ho (fd_plain hd) xo hmg hobj hints hlen hg) λr s' hq=>?_);obtain⟨rfl,h2,h3,h4⟩:=hq;exact⟨.inl ⟨.bool true,.bool true,[],rfl,λ_=>rfl,.bool true,c6V l _,λ_=>⟨List.Pairwise.nil,λ_ hm=>(nomatch hm)⟩⟩,h2,h3,h4⟩
end Att
namespace L2
open PySem PySem.Spec PyProof.Rows
theorem a1D:∀{vs}{ns},Do vs ns->Vals (ns.map V.int) vs
 |_,_,.nil=>.nil
 |_,_,.cons n t h=>.cons ⟨t,rfl⟩ (a1D h)
def T5(s:aO)(j:Nat):aO:=match s with
 |.ClassDef _ _ _ body _ _ _ _ _ _ _=>body.getD j (.Pass ⟨0,0,0,0⟩)
 |_=>.Pass ⟨0,0,0,0⟩
def Q4(s:aO):kO:=match s with
 |.FunctionDef _ a _ _ _ _ _ _ _ _=>a
 |_=>{posonlyargs:=[],args:=[],vararg:=none,kwonlyargs:=[],kw_defaults:=[],kwarg:=none,defaults:=[]}
def x9(s:aO):List aO:=match s with
 |.FunctionDef _ _ b _ _ _ _ _ _ _=>b
 |_=>[]
def i9(s:aO):cQ:=match s with
 |.FunctionDef _ _ _ _ _ _ sc _ _ _=>sc
 |_=>{kind:=.function,names:=[],isGenerator:=false,isCoroutine:=false}
abbrev J8:ze:=λ_ _ _ _ _ _=>False
abbrev E0:XK:=λ_ _ _=>False
def v6:Z8 J8 X E0:=λ_ _ _ _ _ _ _ h=>h.elim
structure df(K:aF)(x qual:aC)(st:aO)(f:aA)(fd:aK):Prop where
 ex:∃(oc:aE)(od:Option aA)(kV doc pm:aE)(an:Option aA)(ay ct:aE)(yc:Array (Option aE)),
  fd=iE x qual (Q4 st) (x9 st) (i9 st) .none kV doc pm an ay ct/\K.lookup f=some ⟨oc,od,.func fd,yc⟩/\lZ K ay qual=true
 kp:dX K (.ref f)=true
abbrev Aj(K)(x):=df K x x
section
variable{P:aM}{w:aL}{K:aF}{mg:aC->Option aE}{base:aJ}
theorem df.ok{st}(F:df K x qual st f fd)(S:p7 N ps (i9 st))(len:∀vs H Q E,sp vs H Q E->vs.length=ps.length)
  (fz:∀ay A outer s H vs Q E,b_ k (A.deeper (dQ qual (i9 st) s.heap.objs.size f ay))->sp vs H Q E →
   ∃t,fu (N8 J8 P w K mg base N qual (i9 st) f ay A outer s H E).oi (x9 st) t/\t {nx:=λ_ H'=>Q .non H',rt:=Q} (V6 N vs) H):bf P w K mg base J8 (k+1) f fd ps sp:=by
 obtain⟨oc,od,kV,doc,pm,an,ay,ct,yc,rfl,lk,xo⟩:=F.ex;refine TU lk xo S len λA outer s H vs Q E hr iu=>?_;obtain⟨t,h,q⟩:=fz ay A outer s H vs Q E hr iu;exact⟨t,h.oi,q⟩
def df.oa{st}(F:df K x qual st f fd)(S:p7 N ps (i9 st))(fz:∀ay A outer s H vs Q E,b_ k (A.deeper (dQ qual (i9 st) s.heap.objs.size f ay))->sp vs H Q E →
   ∃t,fu (N8 J8 P w K mg base N qual (i9 st) f ay A outer s H E).oi (x9 st) t/\t {nx:=λ_ H'=>Q .non H',rt:=Q} (V6 N vs) H)(len:∀vs H Q E,sp vs H Q E->vs.length=ps.length:=by rintro _ _ _ _ ⟨⟩;subst_vars;rfl):bf P w K mg base J8 (k+1) f fd ps sp:=F.ok S len fz
theorem df.binds{st}(F:df K x qual st f fd)
  (h:∀kV doc pm an ay ct us,us.length=ps.length->bindArgs (iE x qual (Q4 st) (x9 st) (i9 st) .none kV doc pm an ay ct) ⟨us,[]⟩=pure (ps.zip us)):Binds K fd ps []:=by
 obtain⟨oc,od,kV,doc,pm,an,ay,ct,yc,rfl,lk,xo⟩:=F.ex;exact .all (h kV doc pm an ay ct)
def b2i{st}{kV}(l:K.lookup f=some ⟨oc,od,.func (iE x qual (Q4 st) (x9 st) (i9 st) .none kV doc pm an ay ct),yc⟩)
  (c:lZ K ay qual=true) (k:dX K (.ref f)=true):df K x qual st f (iE x qual (Q4 st) (x9 st) (i9 st) .none kV doc pm an ay ct):=⟨⟨oc,od,kV,doc,pm,an,ay,ct,yc,rfl,l,c⟩,k⟩
end
theorem t9(h:n<=1000):n<sizeLine:=gU h (by decide)
theorem pv{X}i{pos}(hN:X.N[i]?=some x:=by rfl)(hv:Te X.env.scope x:=by first|exact aI rfl|exact fY (aI rfl)|exact fY (fY rfl))(hd:(x==("__debug__":aC))=false:=by decide)
  (xo:(x==("__classdict__":aC))=false:=by decide):PE X (.Name x pos) (JB i):=b6z hN hv hd xo
theorem M7{B:Prop}(h:B):if false=true then A else B:=by simp_all
theorem J3{B:Prop}(h:A):if true=true then A else B:=by simp_all
theorem y6{B:Prop}[Decidable c](h1:c->A)(h2:¬c->B):if c then A else B:=by simp_all
theorem b8R{B:Prop}[Decidable c](hc:c)(h:B):if (!decide c)=true then A else B:=by simp_all
def af(H H':Hp):Prop:=∀b o,H b=some o->H' b=some o
def af.refl H:af H H:=λ_ _ h=>h
def af.trans(a:af H H1)(b:af H1 H2):af H H2:=λc o h=>b c o (a c o h)
theorem af.free(e:af H H')(h:H' l=uS):H l=uS:=by
 cases q:H l with
 |none=>rfl
 |some o =>
  rw[e l o q] at h
  cases h
theorem af.seq{K}(e:af H H')(h:ah K H a xs):ah K H' a xs:=by
 rcases h with(h|⟨o,h⟩)|h
 ·exact .inl (.inl (e _ _ h))
 ·exact .inl (.inr ⟨o,e _ _ h⟩)
 ·exact .inr h
def p_(env:Env):List (aC×NameKind)->List (aC×Addr)->List (aC×Addr)
 |[],cs=>cs
 |(n,k)::r,cs=>if k==.free then (match env.cells.lookup n with|some a=>p_ env r ((n,a)::cs)|none=>p_ env r cs) else p_ env r cs
theorem M5(h:∀n,(n,fC)∈scope.names->∃c,env.cells.lookup n=some c):closureFor scope env=pure (p_ env scope.names []):=by
 simp only[closureFor];generalize ([]:List (aC×Addr))=cs
 revert h
 generalize scope.names=l;intro h
 induction l generalizing cs with
 |nil=>rfl
 |cons x r ih =>
  obtain⟨n,k⟩:=x;have hr:=λn hn=>h n (bZ _ hn)
  by_cases hk:k=.free
  ·subst hk
   obtain⟨c,hc⟩:=h n cY;simp only[oA,p_,hc,beq_self_eq_true,if_true,cellOf];exact(ih ((n,c)::cs) hr)
  ·have hb:(k==fC)=false:=by simp_all
   simp only[oA,p_,hb,uT,if_false];exact(ih cs hr)
theorem Ni:∀{l}{cs},(∀x c,cs.lookup x=some c->env.cells.lookup x=some c)->(p_ env l cs).lookup x=some c->env.cells.lookup x=some c
 |[],_,h,e=>h x c e
 | (n,k)::r,cs,h,e=>by
  unfold p_ at e
  by_cases hk:(k==fC)=true
  ·rw[if_pos hk] at e
   cases q:env.cells.lookup n with
   |none=>rw[q] at e;exact Ni h e
   |some a =>
    rw[q] at e;refine Ni (λy d z=>?_) e;rw[eU] at z
    cases hy:y==n with
    |true =>
     rw[hy] at z;have:y=n:=by simpa using hy
     subst this;rw[q];exact z
    |false=>rw[hy] at z;exact h y d z
  ·rw[if_neg hk] at e
   exact Ni h e
theorem Qm:∀{l}{cs},(x,c)∈p_ env l cs->(env.cells.lookup x=some c/\(x,fC)∈l)\/(x,c)∈cs
 |[],_,e=>.inr e
 | (n,k)::r,cs,e=>by
  unfold p_ at e
  by_cases hk:(k==fC)=true
  ·rw[if_pos hk] at e
   have i_:k=.free:=by simp_all
   cases q:env.cells.lookup n with
   |none =>
    rw[q] at e;exact(Qm e).imp (λz=>⟨z.1,bZ _ z.2⟩) id
   |some a =>
    rw[q] at e;rcases Qm e with z|z
    ·exact .inl ⟨z.1,bZ _ z.2⟩
    ·rcases bH.mp z with z|z
     ·cases z
      exact .inl ⟨q,by rw[i_];exact cY⟩
     ·exact .inr z
  ·rw[if_neg hk] at e
   exact(Qm e).imp (λz=>⟨z.1,bZ _ z.2⟩) id
theorem B6:∀names n acc,cellsFrom n names acc=cellsFrom n names []++acc
 |[],_,_=>rfl
 |(x,k)::r,n,acc=>by
  unfold cellsFrom
  split
  ·rw[B6 r (n+1) ((x,n)::acc),B6 r (n+1) [(x,n)],dC];rfl
  ·exact B6 r n acc
theorem Q9:∀{names}{n},(x,c)∈cellsFrom n names []->(x,iF)∈names
 |[],_,e=>by cases e
 | (y,k)::r,n,e=>by
  unfold cellsFrom at e
  by_cases hk:(k==iF)=true
  ·rw[if_pos hk,B6] at e
   have i_:k=.cell:=by simp_all
   rcases bJ.mp e with z|z
   ·exact bZ _ (Q9 z)
   ·rw[cJ] at z
    cases z;rw[i_];exact cY
  ·rw[if_neg hk] at e
   exact bZ _ (Q9 e)
theorem Ue:∀{names}{n},(x,iF)∈names->∃c,(x,c)∈cellsFrom n names []
 | (y,k)::r,n,e=>by
  unfold cellsFrom;rcases bH.mp e with z|z
  ·cases z
   rw[if_pos (by rfl),B6];exact⟨n,eL _ cY⟩
  ·split
   ·rw[B6]
    obtain⟨c,hc⟩:=Ue z;exact⟨c,fW _ hc⟩
   ·exact Ue z
theorem a3Z{α:Type}:∀{l₁ gi:List (aC×α)},(l₁++gi).lookup x=match l₁.lookup x with|some c=>some c|none=>gi.lookup x
 |[],_=>rfl
 |(n,c)::r,gi=>by
  rw[fD,eU,eU]
  cases hx:x==n with
  |true=>rfl
  |false=>exact a3Z
theorem a1T{α:Type}{c:α}:∀{l:List (aC×α)},(x,c)∈l->∃c',l.lookup x=some c'
 |(n,d)::r,h=>by
  rw[eU]
  cases hx:x==n with
  |true=>exact⟨d,rfl⟩
  |false =>
   rcases bH.mp h with z|z
   ·cases z;simp at hx
   ·exact a1T z
theorem Qn:∀{l}{cs},(∃c,cs.lookup x=some c)->∃c,(p_ env l cs).lookup x=some c
 |[],_,h=>h
 | (n,k)::r,cs,h=>by
  unfold p_
  split
  ·split
   ·refine Qn ?_
    rw[eU]
    cases hy:x==n with
    |true=>exact⟨_,rfl⟩
    |false=>exact h
   ·exact Qn h
  ·exact Qn h
theorem LA(hx:∃c,env.cells.lookup x=some c):∀{l}{cs},(x,fC)∈l->∃c,(p_ env l cs).lookup x=some c
 | (n,k)::r,cs,h=>by
  rcases bH.mp h with e|e
  ·cases e
   obtain⟨c,hc⟩:=hx;unfold p_;rw[if_pos (by rfl),hc];refine Qn ⟨c,?_⟩;simp[eU]
  ·unfold p_
   split
   ·split
    ·exact LA hx e
    ·exact LA hx e
   ·exact LA hx e
def Z7(env:Env)(scope:cQ)(C:aA):List (aC×Addr):=cellsFrom (C+1) scope.names (p_ env scope.names [])
theorem N0(h:(Z7 env scope C).lookup x=some c) :
  ((x,c)∈cellsFrom (C+1) scope.names []/\(x,iF)∈scope.names)\/(env.cells.lookup x=some c/\(x,fC)∈scope.names):=by
 have m:=mem_of_lookup h;unfold Z7 at m;rw[B6] at m;rcases bJ.mp m with z|z
 ·exact .inl ⟨z,Q9 z⟩
 ·rcases Qm z with y|y
  ·exact .inr y
  ·cases y
theorem a3j(hx:∃c,env.cells.lookup x=some c)(hf:(x,fC)∈scope.names)(hn:(x,iF) ∉ scope.names):(Z7 env scope C).lookup x=env.cells.lookup x:=by
 obtain⟨c,hc⟩:=LA (cs:=[]) hx hf;have Jz:=Ni (λ_ _ z=>by simp at z) hc;unfold Z7;rw[B6,a3Z]
 cases q:(cellsFrom (C+1) scope.names []).lookup x with
 |some d=>exact absurd (Q9 (mem_of_lookup q)) hn
 |none=>rw[Jz,<-hc]
def rq(X:Cx)(os:List aC)(fr:List Nat)(scope:cQ)(C:aA)(fp:List aA)(s₀:aG)(H₀:Hp):Cx :=
 {X with N:=os++fr.map λj=>X.N.getD j "",s₀:=s₀,H₀:=H₀,env:=compEnvC scope (Z7 X.env scope C) C X.env,outer:=X.stack,ex:=fp,fn:=λx=>scope.names.lookup x==some .cell,pn:=[],xe:=λ_ _=>False}
def LB(fr:List Nat)(σ:St):St:=fr.map λj=>(σ[j]?).join
def c_(n:Nat)(fr:List Nat)(σ:St):St:=aQ n none++LB fr σ
def Wk(σ0 ir:St):Prop:=ir.length=σ0.length/\∀(i:Nat)v,σ0[i]?=some (some v)->ir[i]?=some (some v)
def BA(outer:cQ)(scope:cQ)(N:List aC)(fr:List Nat):Bool :=
 (scope.names.all λp=>(scope.names.lookup p.1==some p.2)&&(p.2 != .free||outer.names.lookup p.1==some .cell)) &&
 (fr.all λj=>decide (j<N.length)&&(outer.names.lookup (N.getD j "")==some .cell)&&(scope.names.lookup (N.getD j "")==some .free))
theorem O8:∀{l:List (aC×NameKind)},l.lookup x=some k->(x,k)∈l
 |(n,j)::r,h=>by
  rw[eU] at h
  cases hx:x==n with
  |true =>
   rw[hx] at h;have:x=n:=by simpa using hx
   subst this
   cases h;exact cY
  |false=>rw[hx] at h;exact bZ _ (O8 h)
theorem W3{env:Env}:∀{names:List (aC×NameKind)},
  (names.map λ(n,k)=>if (k==fC&&env.scope.kind==.function&&env.kindOf n==some .cell) then (n,iF) else (n,k)).lookup x=some k →
  (x,k)∈names\/(x,fC)∈names
 |[],h=>by simp at h
 | (n,j)::r,h=>by
  rw[cS] at h;dsimp only at h
  by_cases hc:(j==fC&&env.scope.kind==.function&&env.kindOf n==some .cell)=true
  ·rw[if_pos hc,eU] at h
   have hj:j=.free:=by
    have:=(fQ _ _▸(fQ _ _▸hc).1).1
    simpa using this
   cases hx:x==n with
   |true =>
    have:x=n:=by simpa using hx
    subst this;subst hj;exact .inr cY
   |false =>
    rw[hx] at h;exact(W3 h).imp (bZ _) (bZ _)
  ·rw[if_neg hc,eU] at h
   cases hx:x==n with
   |true =>
    rw[hx] at h;have:x=n:=by simpa using hx
    subst this
    cases h;exact .inl cY
   |false =>
    rw[hx] at h;exact(W3 h).imp (bZ _) (bZ _)
section
variable{X:Cx}{os:List aC}{fr:List Nat}{scope:cQ}
theorem X0(h:BA X.env.scope scope X.N fr=true):∀p∈scope.names,scope.names.lookup p.1=some p.2/\(p.2=.free->X.env.scope.names.lookup p.1=some .cell):=λp hp=>by
 have q:=fE.mp (fQ _ _▸h).1 p hp;simp only[fQ,bne_iff_ne,qY,beq_iff_eq,ne_eq] at q;refine⟨q.1,λe=>?_⟩;rcases q.2 with z|z
 ·exact absurd e z
 ·exact z
theorem Ug(h:BA X.env.scope scope X.N fr=true)(ha:(x,a)∈scope.names)(hb:(x,b)∈scope.names):a=b:=by
 have h2:=(X0 h _ hb).1;rw[(X0 h _ ha).1] at h2;exact bD h2
theorem b6l(h:BA X.env.scope scope X.N fr=true):∀j∈fr,j<X.N.length/\X.env.scope.names.lookup (X.N.getD j "")=some .cell/\scope.names.lookup (X.N.getD j "")=some .free:=λj hj=>by
 have q:=fE.mp (fQ _ _▸h).2 j hj;simp only[fQ,beq_iff_eq,decide_eq_true_eq] at q;exact⟨q.1.1,q.1.2,q.2⟩
def JO{σ:St}(I:Inv X pins σ H s)(h:BA X.env.scope scope X.N fr=true):∀n,(n,fC)∈scope.names->∃c,X.env.cells.lookup n=some c:=λn hn =>
 I.ok.has n (.inl ((X0 h _ hn).2 rfl))
theorem Inv.block{pins:List (aA×Obj)}{σ:St}{H:Hp}{s:aG}{fp:List aA}{h₁:aJ}{t':Nat}(I:Inv X pins σ H s)(hk:scope.kind=.function)(h:BA X.env.scope scope X.N fr=true)
  (hf:∀b∈fp,xp X pins H b) (ho:∀b∈fp,∃o,s.heap.get? b=some o) (EL:h₁.Ns s.heap.objs.size λ_=>none) (gq:∀b o,s.heap.get? b=some o->h₁.get? b=some o)
  (xr:CellsOk h₁ (s.heap.objs.size+1) (cellsFrom (s.heap.objs.size+1) scope.names [])) :
  Inv (rq X os fr scope s.heap.objs.size fp s H) [] (c_ os.length fr σ) H {s with heap:=h₁,toks:=t'} where
 ok:={
  mod:=I.ok.mod
  kind:=hk
  glob:=I.ok.glob
  blt:=I.ok.blt
  above:=aT _
  inj:=λx y c e1 e2=>by
   have old:∀{z:aC},X.env.cells.lookup z=some c->c<s.heap.objs.size:=λ{z}e=>by
    obtain⟨v,q⟩:=I.cell z c e;exact q.lt
   rcases N0 e1 with z1|z1<;>rcases N0 e2 with z2|z2
   ·exact tL xr.apart z1.1 z2.1
   ·exact absurd (bS (mJ (old z2.1)) (xr.empty _ _ z1.1).2) (dO _)
   ·exact absurd (bS (mJ (old z1.1)) (xr.empty _ _ z2.1).2) (dO _)
   ·exact I.ok.inj x y c z1.1 z2.1
  has:=λx hx=>by
   have hm:(x,iF)∈scope.names\/(x,fC)∈scope.names:=by
    rcases hx with e|e
    ·exact W3 e
    ·rcases W3 e with z|z
     ·exact .inr z
     ·exact .inr z
   rcases hm with z|z
   ·obtain⟨c,hc⟩:=Ue z
    refine a1T (c:=c) ?_
    show(x,c)∈Z7 _ _ _
    unfold Z7;rw[B6];exact fW _ hc
   ·obtain⟨c,hc⟩:=JO I h x z
    refine⟨c,?_⟩
    show(Z7 _ _ _).lookup x=_
    rw[a3j ⟨c,hc⟩ z λw=>by cases Ug h z w];exact hc
  Gs:=λx c hx e=>by
   have f':scope.names.lookup x=some .cell:=by simpa using (show(scope.names.lookup x==some .cell)=true from hx)
   rcases N0 e with z|z
   ·exact gQ (uU (xr.empty _ _ z.1).2)
   ·cases Ug h (O8 f') z.2
  hd:=I.ok.hd
  frames:=I.ok.frames
  GX:=.inl rfl
  GY:=λb hb=>by
   obtain⟨o,e⟩:=ho b hb;refine⟨Nat.ne_of_lt (bN e),λx c e1=>?_⟩;rcases N0 e1 with z|z
   ·intro w
    have:=(xr.empty _ _ z.1).2;rw[w] at this;exact absurd (bS (mJ (bN e)) this) (dO _)
   ·exact(hf b hb).2.2.2.2.1 x c z.1
  bs:=I.bs
  xw:=bF I.ok.xw I.sz
  um:=λb o e hb=>by
   rcases(hf b hb).2.2.2.1 with z|z
   ·exact I.ok.um b o e z
   ·exact absurd (bS (bN e) (bF I.ok.xw z)) (dO _)
  uo:=λb hb hz=>by
   rcases bH.mp (I.rg b hz) with e|e
   ·exact(hf b hb).2.1 e
   ·exact(hf b hb).2.2.1 e
  gx:=I.stack
  Cj:=I.qm}
 os:=rfl
 bare:=I.bare
 base:=Un.kept gq
 loc:=by
  refine⟨_,EL,λi x v e1 e2 _=>?_⟩;have hi:os.length<=i:=by
   refine uV λfk=>?_;unfold c_ at e2;rw[dH (by simpa using fk)] at e2;rw[gD] at e2
   split at e2<;>cases e2
  have EM:(fr.map λj=>X.N.getD j "")[i-os.length]?=some x:=by
   rw[<-dU hi];exact e1
  have JP:(fr.map λj=>(σ[j]?).join)[i-os.length]?=some (some v):=by
   have z:(aQ os.length (none:Option V)).length<=i:=by simpa using hi
   unfold c_ at e2;rw[dU z,bP] at e2;exact e2
  rw[aP] at EM JP
  cases q:fr[i-os.length]? with
  |none=>rw[q] at EM;cases EM
  |some j =>
   rw[q] at EM JP;obtain⟨EN,wj,JQ⟩:=b6l h j (bK q);have ex:X.N.getD j ""=x:=bD EM;have ev:(σ[j]?).join=some v:=bD JP;have hN:X.N[j]?=some x:=by
    rw[<-ex,bA,aS EN];rfl
   have Uh:σ[j]?=some (some v):=by
    cases r:σ[j]? with
    |none=>rw[r] at ev;cases ev
    |some y=>rw[r] at ev;exact congrArg some ev
   rw[ex] at wj JQ;obtain⟨m,_,hl⟩:=I.loc;obtain⟨u,r,lk⟩:=hl j x v hN Uh (.inr (.inl wj));refine⟨u,r,?_⟩;have kc:uW X.env x=some .cell:=wj;rcases lk with⟨k1,_⟩|⟨_,c,ec,z⟩
   ·rw[kc] at k1;cases k1
   ·have LC:=O8 JQ
    have ec':(Z7 X.env scope s.heap.objs.size).lookup x=some c:=by
     rw[a3j ⟨c,ec⟩ LC λw=>by cases Ug h LC w];exact ec
    refine .inr ⟨?_,c,ec',?_⟩
    ·have kk:∀{names:List (aC×NameKind)},names.lookup x=some .free->(names.map λ(n,k)=>if (k==fC&&X.env.scope.kind==.function&&X.env.kindOf n==some .cell) then (n,iF) else (n,k)).lookup x=some .cell:=by
      intro names
      induction names with
      |nil=>intro e;simp at e
      |cons p r ih =>
       obtain⟨n,k⟩:=p;intro e;rw[eU] at e;rw[cS];dsimp only
       cases hx:x==n with
       |true =>
        rw[hx] at e
        cases e;have hxn:x=n:=by simpa using hx
        subst hxn;rw[if_pos (by rw[I.ok.kind,kc];rfl),eU];simp
       |false =>
        rw[hx] at e
        by_cases hc:(k==fC&&X.env.scope.kind==.function&&X.env.kindOf n==some .cell)=true
        ·rw[if_pos hc,eU,hx];exact ih e
        ·rw[if_neg hc,eU,hx];exact ih e
     exact .inl (kk JQ)
    ·obtain⟨o,mj,hd⟩:=z
     exact⟨o,gq _ _ mj,hd⟩
 cell:=λx c e=>by
  rcases N0 e with z|z
  ·exact⟨_,(xr.empty _ _ z.1).1⟩
  ·obtain⟨v,o,mj,hd⟩:=I.cell x c z.1
   exact⟨v,o,gq _ _ mj,hd⟩
 free:=I.ck.fresh (aT _)
 ee:=λx c e=>by
  rcases N0 e with z|z
  ·exact I.ck.fresh (gQ (uU (xr.empty _ _ z.1).2))
  ·exact I.ee x c z.1
 pin:=λp hp=>nomatch hp
 ck:=I.ck.kept gq
 len:=by simp[c_,LB,rq]
def Inv.unblock{σ au:St}(I:Inv X pins σ H s)(hf:∀b∈fp,xp X pins H b)(J:Inv (rq X os fr scope C fp s H) [] au H' s'):Inv X pins σ H' s' :=
 I.Bx J.os J.base J.ck J.bare λb hb=>⟨(hf b hb).2.2.2.1,(hf b hb).2.1,(hf b hb).2.2.2.2.1,(hf b hb).2.2.2.2.2⟩
theorem Inv.BB{σ:St}(Hj:Inv X pins σ₀ H₀ s₀)(I:Inv X pins σ H s)(hn:H C=none)(hC:s₀.heap.objs.size<=C)(hs:kH C s.heap h'):Inv X pins σ H {s with heap:=h'} :=
 I.turned (λb o hb e=>(hs.2 b hb).trans e) hn (gR (bS Hj.lt hC)) (.inr (bF Hj.sz hC))
  (λx c e z=>by
   obtain⟨v,q⟩:=Hj.cell x c e;exact absurd (bS q.lt (z▸hC)) (dO _))
  λp hp z=>absurd (bS (bN (Hj.pin p hp).1) (z▸hC)) (dO _)
end
def Ui(X:Cx)(ifs:List aR)(t:TT):Prop :=
 ∀pins s(σ:St)H Q,Inv X pins σ H s->t σ H Q →
  wpAny (model X.prog X.w) X.A (forIn ifs true λc r=>if r=true then do let ok <- isTrue c X.env (eval c X.env);pure (oB ok) else pure (oB r)) (TP X pins σ Q) X.xe s
def Uj:TT:=λ_ H Q=>Q true H
def a6P:Ui X [] Uj:=λ_ _ _ H _ I h=>wpAny_tests_nil ⟨H,I,h⟩
def a7v(h:PT X c t):Ui X [c] t:=λpins s σ H Q I q=>wpAny_tests_one (h pins s σ H Q I q)
theorem a5U
  (hQ:Q {scope,locals:=s.heap.objs.size,globals,cells:=cellsFrom (s.heap.objs.size+1) scope.names closure,qual,func:=none,code:=env.code,frame:=env.frame,builtins:=env.builtins} {s with heap:=pushCells (s.heap.push {cls:=.type "dict",data:=.dict #[]}) scope.names}) :
  wpAny M A (newFunctionEnv scope globals closure [] qual none .none (some env)) Q E s:=by
 simp only[newFunctionEnv,Option.isSome_some,if_true];refine aN (wpAny_alloc (aN (wpAny_layCells _ (λname kind cells=>by cases hkc:kind==iF<;>simp[hkc]) _ _ _ _ ?_)));rw[show({s with heap:=s.heap.push {cls:=.type "dict",data:=.dict #[]}}:aG).heap.objs.size=s.heap.objs.size+1 from gS ..];exact aN (bG (bG hQ))
theorem a6e(I:Nat->aG->Prop)
  (turn:∀n s,I n s->wpAny (model prog w) A (pyNext it) (λr vy=>match r with
   |none=>R (.ok .next) vy
   |some v=>wpAny (model prog w) A (letOwnedTupleGo target it v) (λ_ s₀=>wpAny (model prog w) A (assign target env v) (λ_ vz =>
     wpAny (model prog w) A (forIn ifs true λc r=>if r=true then do let ok <- isTrue c env (eval c env);pure (oB ok) else pure (oB r)) (λok EO =>
      if ok=true then wpAny (model prog w) A (eval elt env) (λx Hk =>
       wpAny (model prog w) A (call (.builtin "list.append") [acc,x]) (λ_ Nj=>∃m,m<n/\I m Nj) (λ_ _=>False) Hk) (λ_ _=>False) EO
      else ∃m,m<n/\I m EO) (λ_ _=>False) vz) (λ_ _=>False) s₀) (λ_ _=>False) vy) (λ_ _=>False) s)
  n (h:I n s) :
  codeAny (model prog w) A (.compLoop (.ListComp elt [⟨target,iter,ifs,0⟩] scope pos) 0 it acc env) R s:=by
 refine codeAny_loop rfl I (λn s hI=>?_) n h
 show wpAny _ A ((compTurn (.ListComp elt [⟨target,iter,ifs,0⟩] scope pos) 0 it acc env).onRaise λx=>do noteFrame x env;theTreesLotGoes x) _ _ s
 refine wpAny_noted ?_;rw[compTurn_list];refine aN (iQ (aN (eY (turn n s hI) (λr vy h₁=>?_) λ_ _ h'=>h'.elim)))
 cases r with
 |none=>exact bG h₁
 |some v =>
  refine aN (eY h₁ (λ_ s₀ h₀=>(aN (eY h₀ (λ_ vz JR=>aN (eY JR (λok EO Nk=>?_) λ_ _ h'=>h'.elim)) λ_ _ h'=>h'.elim))) λ_ _ h'=>h'.elim)
  cases ok with
  |false=>exact bG ⟨rfl,Nk⟩
  |true =>
   exact aN (aN (eY Nk (λx Hk Uk=>aN (eY Uk (λ_ Nj Ul=>bG (bG ⟨rfl,Ul⟩)) λ_ _ h'=>h'.elim)) λ_ _ h'=>h'.elim))
def IJ(n:Nat)(fr:List Nat)(g:TG)(te:TE)(σ:St)(J:It)(H1:Hp)(p:aA)(D:Hp->Prop):Prop :=
 ∃W:Nat->Nat->List V->Hp->Prop,(∃m,W 0 m [] (upd H1 p (.lst [])))/\∀i m ys H,W i m ys H →
  (J.stop i H/\D H)\/(J.go i H/\∀x H',J.By i H x H'->g x (c_ n fr σ) H' λir H2=>Wk (c_ n fr σ) ir/\te ir H2 λv H3=>H3 p=some (.lst ys)/\ys.length<sizeLine/\∃m',m'<m/\W (i+1) m' (ys++[v]) (upd H3 p (.lst (ys++[v]))))
def LD(n:Nat)(fr:List Nat)(wi:TI)(g:TG)(te:TE):TE:=λσ H Q=>wi σ H λJ H1=>∀p,H1 p=none->IJ n fr g te σ J H1 p (Q (.ref p))
def LF(n:Nat)(fr:List Nat)(g:TG)(tc:TT)(te:TE)(σ:St)(J:It)(H1:Hp)(p:aA)(D:Hp->Prop):Prop :=
 ∃W:Nat->Nat->List V->Hp->Prop,(∃m,W 0 m [] (upd H1 p (.lst [])))/\∀i m ys H,W i m ys H →
  (J.stop i H/\D H)\/(J.go i H/\∀x H',J.By i H x H'->g x (c_ n fr σ) H' λir H2=>Wk (c_ n fr σ) ir/\tc ir H2 λok H2' =>
   if ok=true then te ir H2' λv H3=>H3 p=some (.lst ys)/\ys.length<sizeLine/\∃m',m'<m/\W (i+1) m' (ys++[v]) (upd H3 p (.lst (ys++[v]))) else ∃m',m'<m/\W (i+1) m' ys H2')
def b8W(n:Nat)(fr:List Nat)(wi:TI)(g:TG)(tc:TT)(te:TE):TE:=λσ H Q=>wi σ H λJ H1=>∀p,H1 p=none->LF n fr g tc te σ J H1 p (Q (.ref p))
def a7a:LF n fr g Uj te σ J H1 p D=IJ n fr g te σ J H1 p D:=rfl
section
variable{X:Cx}{os:List aC}{fr:List Nat}{scope:cQ}{elt tg iter:aR}{pos:Pos}{wi:TI}{g:TG}{te:TE}
theorem Qo{D:aA->Hp->Prop}{RR:aE->aA->jH->aG->Prop}
  (hc:X.calm=true) (hg:∀C fp s₀ H₀,PG (rq X os fr scope C fp s₀ H₀) tg g) (ht:∀C fp s₀ H₀,Ui (rq X os fr scope C fp s₀ H₀) ifs tc) (he:∀C fp s₀ H₀,PE (rq X os fr scope C fp s₀ H₀) elt te)
  (hk:scope.kind=.function) (ck:BA X.env.scope scope X.N fr=true)
  (h2:PR X pins σ tg (λJ H1=>∀p,H1 p=none->LF os.length fr g tc te σ J H1 p (D p)) Hc s2)
  (hRR:∀p C s3 H3 s' H',Inv X pins σ H3 s3->s3.heap.objs.size=C->H' C=none->Inv X pins σ H' s'->(∃m,s'.heap.Ns C m)->D p H'->RR (.ref p) C (.ok .next) s') :
  wpAny (model X.prog X.w) X.A (newList []) (λacc EO=>wpAny (model X.prog X.w) X.A (newFunctionEnv scope X.env.globals (p_ X.env scope.names []) [] X.env.qual none .none (some X.env)) (λNl Hk =>
   codeAny (model X.prog X.w) X.A (.compStart (.ListComp elt [⟨tg,iter,ifs,0⟩] scope pos) 0 Hc acc {Nl with scope:=relabel scope X.env}) (RR acc Nl.locals) Hk) X.xe EO) X.xe s2:=by
 obtain⟨it,fp,tn,J,H2,e,I2,T,Gz,f2,hR⟩:=h2;subst e;refine lQ ?_;obtain⟨W,⟨m0,w0⟩,turn⟩:=hR s2.heap.objs.size I2.fresh;have I3:=I2.JN (t':=s2.toks) .nil (dM _);have ne2:∀b∈fp,b≠s2.heap.objs.size:=λb hb=>by
  obtain⟨o,e,_⟩:=(T.obj _ _ Gz) b hb;exact dB (bN e)
 have PX:tn 0 (s2.heap.push {cls:=.type "list",dict:=none,data:=.seq ([]:List aE).toArray}):=T.keep _ _ _ Gz λb hb o e=>bL _ e;have f3:∀b∈fp,xp X pins (upd H2 s2.heap.objs.size (.lst [])) b:=λb hb=>⟨by rw[j3 (ne2 b hb)];exact(f2 b hb).1,(f2 b hb).2⟩;generalize hs3:({s2 with heap:=s2.heap.push {cls:=.type "list",dict:=none,data:=.seq ([]:List aE).toArray}}:aG)=s3 at I3⊢;have Nm:tn 0 s3.heap:=by rw[<-hs3];exact PX
 generalize s2.heap.objs.size=p at *;refine a5U ?_;have EL:(pushCells (s3.heap.push {cls:=.type "dict",data:=.dict #[]}) scope.names).Ns s3.heap.objs.size λ_=>none:=(Heap.Ns.new s3.heap (.type "dict")).keeps (uX _ _);have gq:∀b o,s3.heap.get? b=some o->(pushCells (s3.heap.push {cls:=.type "dict",data:=.dict #[]}) scope.names).get? b=some o:=λb o e=>uX _ _ b o (bL _ e);have xr:=cellsFrom_ok scope.names (s3.heap.push {cls:=.type "dict",data:=.dict #[]}) (s3.heap.objs.size+1) [] ⟨λ_ _ hm=>(nomatch hm),Ai⟩ (by simp);rw[gS] at xr;generalize pushCells (s3.heap.push {cls:=.type "dict",data:=.dict #[]}) scope.names=h₁ at EL gq xr⊢;have Uo:∀b∈fp,∃o,s3.heap.get? b=some o:=λb hb=>by
  obtain⟨o,e,_⟩:=T.obj _ _ Nm b hb;exact⟨o,e⟩
 have J0:=I3.block (os:=os) (t':=s3.toks) hk ck f3 Uo EL gq xr;have Up:=J0.ok;have Uq:∀{H':Hp},(∀b∈fp,H' b=none)->∀b∈fp,xp (rq X os fr scope s3.heap.objs.size fp s3 (upd H2 p (.lst []))) [] H' b:=λhn b hb =>
  ⟨hn b hb,(Up.GY b hb).1,Up.uo b hb,.inl hb,(Up.GY b hb).2,λq hq=>nomatch hq⟩
 have st4:=T.keep _ _ _ Nm λb hb o e=>gq b o e;have loop:∀s4,s4={s3 with heap:=h₁,toks:=s3.toks} →
   codeAny (model X.prog X.w) X.A (.compLoop (.ListComp elt [⟨tg,iter,ifs,0⟩] scope pos) 0 (.ref it) (.ref p) (compEnvC scope (Z7 X.env scope s3.heap.objs.size) s3.heap.objs.size X.env)) (RR (.ref p) s3.heap.objs.size) s4:=by
  rintro s4 rfl;refine a6e (λn s'=>Ev3 λi ys H'=>Inv (rq X os fr scope s3.heap.objs.size fp s3 (upd H2 p (.lst []))) [] (c_ os.length fr σ) H' s'/\tn i s'.heap/\(∀b∈fp,H' b=none)/\W i n ys H') ?_ m0 ⟨0,[],_,J0,st4,(λb hb=>(f3 b hb).1),w0⟩;rintro n s5 ⟨i,ys,H5,I5,Ls,PY,w5⟩;rcases turn i n ys H5 w5 with⟨stop,qd⟩|⟨go,step⟩
  ·refine D7 (T.done (rq X os fr scope s3.heap.objs.size fp s3 (upd H2 p (.lst []))) rfl rfl rfl hc i [] s5 _ H5 (λ_ _=>False) I5 (Uq PY) Ls stop) λr s6 ⟨hr,I6⟩=>?_
   subst hr;exact hRR p _ s3 _ s6 H5 I3 rfl I6.free (I3.unblock f3 I6) (let ⟨m,hm,_⟩:=I6.loc;⟨m,hm⟩) qd
  ·refine D7 (T.item (rq X os fr scope s3.heap.objs.size fp s3 (upd H2 p (.lst []))) rfl rfl rfl hc i [] s5 _ H5 (λ_ _=>False) I5 (Uq PY) Ls go) λr s6 ⟨u,hr,h6⟩=>?_
   subst hr;refine D7 h6 λ_ s7 ⟨x,H7,I7,r7,y7,Ur,fr7⟩=>(D7 (hg _ _ _ _ _ s7 _ H7 x u _ (I7.pinned (Uq fr7) (T.obj _ _ Ur)) r7 (step x H7 y7)) λ_ s8 ⟨Nn,H8,I8,wk8,q8⟩=>?_);have again:∀{H'}{s'}{zs}{m'},Inv (rq X os fr scope s3.heap.objs.size fp s3 (upd H2 p (.lst []))) ([]++MY fp s7.heap) Nn H' s'->m'<n->W (i+1) m' zs H' →
     ∃m,m<n/\Ev3 λi ys H'=>Inv (rq X os fr scope s3.heap.objs.size fp s3 (upd H2 p (.lst []))) [] (c_ os.length fr σ) H' s'/\tn i s'.heap/\(∀b∈fp,H' b=none)/\W i m ys H':=λ{H' s' zs m'}J' Au w'=>by
    refine⟨m',Au,i+1,zs,H',(J'.weak wk8.1.symm λi v e=>wk8.2 i v e).ki,T.keep _ _ _ Ur λb hb o e=>(J'.pin (b,o) (eL _ (eL _ (PV hb e)))).1,λb hb=>?_,w'⟩;obtain⟨o,e,d⟩:=T.obj _ _ Ur b hb;exact(J'.pin (b,o) (eL _ (eL _ (PV hb e)))).2.1
   refine D7 (ht _ _ _ _ _ s8 Nn H8 _ I8 q8) λok s9 ⟨H9,I9,q9⟩=>?_
   cases ok with
   |false =>
    obtain⟨m',Au,w9⟩:=q9;exact again I9 Au w9
   |true =>
    refine D7 (he _ _ _ _ _ s9 Nn H9 _ I9 q9) λy s10 ⟨v,JS,I10,r10,Us,Ut,m',Au,w10⟩=>(D7 (P2 _ s10 Nn JS (.ref p) [v] (.ref p) [y] (λ_ H'=>H'=upd JS p (.lst (ys++[v]))) I10 rfl (.cons r10 .nil) ⟨p,ys,v,rfl,rfl,Us,Ut,rfl⟩) λ_ s11 ⟨_,Qp,Np,_,IK⟩=>?_);subst IK;exact again Np Au w10
 exact codeAny_compStart_list (loop _ rfl) (T.self _ 0 _ _ _ st4 (loop _ rfl))
theorem N6 os fr(hc:X.calm=true)(hi:PI X tg iter wi)(hg:∀C fp s₀ H₀,PG (rq X os fr scope C fp s₀ H₀) tg g)(he:∀C fp s₀ H₀,PE (rq X os fr scope C fp s₀ H₀) elt te)
  (hk:scope.kind=.function:=by rfl) (ck:BA X.env.scope scope X.N fr=true:=by rfl) (hs:∀x,foldedSetIterable iter X.env x=pure x:=by intro _;rfl) :
  PE X (.ListComp elt [⟨tg,iter,[],0⟩] scope pos) (LD os.length fr wi g te):=by
 intro pins s σ H Q I h;unfold LD at h;rw[uY];refine oC rfl hs (M5 (JO I ck)) hk (λx hx hl=>by have:=(X0 ck x hx).1;rw[hl] at this;exact this) (D7 (hi pins s σ H _ I h) λv s1 h1=>D7 h1 λHc s2 h2=>(Qo hc hg (λ_ _ _ _=>a6P) he hk ck h2 ?_));intro p C s3 H3 s' H' I3 eC hn I' ⟨m,hm⟩ q;refine⟨m,hm,λh' dt=>⟨.ref p,H',I3.BB I' hn (by lia) dt,rfl,q⟩⟩
theorem b3J os fr(hc:X.calm=true)(hi:PI X tg iter wi)(hg:∀C fp s₀ H₀,PG (rq X os fr scope C fp s₀ H₀) tg g)(ht:∀C fp s₀ H₀,PT (rq X os fr scope C fp s₀ H₀) c tc)(he:∀C fp s₀ H₀,PE (rq X os fr scope C fp s₀ H₀) elt te)
  (hk:scope.kind=.function:=by rfl) (ck:BA X.env.scope scope X.N fr=true:=by rfl) (hs:∀x,foldedSetIterable iter X.env x=pure x:=by intro _;rfl) :
  PE X (.ListComp elt [⟨tg,iter,[c],0⟩] scope pos) (b8W os.length fr wi g tc te):=by
 intro pins s σ H Q I h;rw[uY];refine oC rfl hs (M5 (JO I ck)) hk (λx hx hl=>by have:=(X0 ck x hx).1;rw[hl] at this;exact this) (D7 (hi pins s σ H _ I h) λv s1 h1=>D7 h1 λHc s2 h2=>(Qo hc hg (λ_ _ _ _=>a7v (ht _ _ _ _)) he hk ck h2 ?_));intro p C s3 H3 s' H' I3 eC hn I' ⟨m,hm⟩ q;refine⟨m,hm,λh' dt=>⟨.ref p,H',I3.BB I' hn (by lia) dt,rfl,q⟩⟩
theorem CA{ER}os fr(hN:X.N.Nodup)(Ek:X.N[i]?=some x)(hx:X.env.scope.names.lookup x=some .local)
  (hc:X.calm=true) (hi:PI X tg iter wi) (hg:∀C fp s₀ H₀,PG (rq X os fr scope C fp s₀ H₀) tg g) (he:∀C fp s₀ H₀,PE (rq X os fr scope C fp s₀ H₀) elt te)
  (Uu:swapsWith (.ListComp elt [⟨tg,iter,[],0⟩] scope pos) (some (.Name x pos')) ER.line X.env=pure true:=by rfl)
  (hk:scope.kind=.function:=by rfl) (ck:BA X.env.scope scope X.N fr=true:=by rfl) (hs:∀x,foldedSetIterable iter X.env x=pure x:=by intro _;rfl) :
  PS X (.Assign [.Name x pos'] (.ListComp elt [⟨tg,iter,[],0⟩] scope pos) ER) (EE (LD os.length fr wi g te) (N7 i)):=by
 intro pins s σ H D I h;unfold EE LD at h;rw[uZ _ _ _ _ Uu];refine aN (iQ (aN ?_))
 refine aN (eY (oC rfl hs (M5 (JO I ck)) hk (λx hx hl=>by have:=(X0 ck x hx).1;rw[hl] at this;exact this)
  (D7 (hi pins s σ H _ I h) λv s1 h1=>D7 h1 λHc s2 h2=>?_)) (λ_ s' hq=>bG (bG hq)) λ_ _ e=>e)
 refine Qo hc hg (λ_ _ _ _=>a6P) he hk ck h2 ?_;intro p C s3 H3 s' H' I3 eC hn I' ⟨m,hm⟩ q
 refine qC (Tp (v:=.ref p) I' hN Ek (.inl hx) rfl (λNb Uv ⟨a,Uw,ha⟩=>?_) (.inr hx));have Ux:C≠a:=by
  rcases ha with e|e
  ·rw[e];exact gR (eC▸I3.lt)
  ·obtain⟨v,z⟩:=I3.cell x a e
   exact gR (eC▸z.lt)
 exact⟨m,hm.sameBut Uw Ux,λh' dt=>⟨_,H',I3.BB Uv hn (by lia) dt,q⟩⟩
end
abbrev JT(K:aF)(H:Hp)(a:aA)(xs:List V):Prop:=ah K H a xs\/cq K H a xs
theorem Nq{h':aJ}{h:aJ}(hk:∀b x,b ∉ [h.objs.size]->(h.push o).get? b=some x->h'.get? b=some x):∀b x,h.get? b=some x->h'.get? b=some x :=
 λb x e=>hk b x (λhm=>by rw[cJ.mp hm] at e;exact dO _ (bN e)) (bL _ e)
theorem Nr{σ:St}(hc:X.calm=true)(I:Inv X pins σ H s)(h:JT X.K H a xs):∃its,Vals xs its/\∀Q E,
  (∀o St,Walks X.prog X.w X.A.in1 s.heap.objs.size [s.heap.objs.size,a] [s.heap.objs.size] its.toArray.size (λi v=>its.toArray[i]?=some v) St->St 0 (s.heap.push o) →
   (∀b∈[s.heap.objs.size,a],b<(s.heap.push o).objs.size)->Q (.ref s.heap.objs.size) {s with heap:=s.heap.push o})->wpAny (model X.prog X.w) X.A.in1 (pyIter (.ref a)) Q E s:=by
 have hh:=I.ok.hd hc;have lt2:∀(o:Obj),a<s.heap.objs.size->∀b∈[s.heap.objs.size,a],b<(s.heap.push o).objs.size:=λo fk b hb=>by
  rw[gS];rcases bH.mp hb with rfl|hb
  ·exact jJ _
  ·rw[cJ.mp hb];exact mJ fk
 rcases h with h|h
 ·obtain⟨its,r,p,hz⟩:=I.list h
  have hl:=p.isList;have fk:a<s.heap.objs.size:=by obtain⟨_,e,_⟩:=hl;exact bN e
  exact⟨its,r,λQ E hQ=>nF hl (hQ _ _ (rA (A:=X.A.in1) hh _ a (dB fk) its.toArray) ⟨⟨_,dG _ rfl,rfl,rfl⟩,hl.push _⟩ (lt2 _ fk))⟩
 ·obtain⟨its,r,p,hz⟩:=I.tuple h
  have hl:=p;have fk:a<s.heap.objs.size:=by obtain⟨_,e,_⟩:=hl;exact bN e
  exact⟨its,r,λQ E hQ=>sT hl (hQ _ _ (Walks.tuple (A:=X.A.in1) hh _ a (dB fk) its.toArray) ⟨⟨_,dG _ rfl,rfl,rfl⟩,hl.push _⟩ (lt2 _ fk))⟩
theorem Uy(r:Vals ys its){i:Nat}(e:its.toArray[i]?=some v):∃y,ys[i]?=some y/\RelV y v:=by
 have e':its[i]?=some v:=by simp_all
 cases q:ys[i]? with
 |none=>rw[r.none_of q] at e';cases e'
 |some y =>
  obtain⟨u,h1,h2⟩:=r.get q;rw[e'] at h1;cases h1;exact⟨y,rfl,h2⟩
theorem a8G(bs:List Bool):((aW bs.length).all λi=>(bs[i]?).getD true)=bs.all id:=by
 rw[iD,fE,fE];constructor
 ·intro h b hb
  obtain⟨i,hi,e⟩:=rB hb;have:=h i (fF.mpr hi);simp only[aS hi,iG,e] at this;exact this
 ·intro h i hi
  have Ek:=fF.mp hi;simp only[aS Ek,iG];exact h _ (eF Ek)
theorem a8B(bs:List Bool):((aW bs.length).any λi=>(bs[i]?).getD false)=bs.any id:=by
 rw[iD,mK,mK];constructor
 ·rintro⟨i,hi,e⟩
  have Ek:=fF.mp hi;simp only[aS Ek,iG] at e;exact⟨_,eF Ek,e⟩
 ·rintro⟨b,hb,e⟩
  obtain⟨i,hi,rfl⟩:=rB hb;exact⟨i,fF.mpr hi,by simp only[aS hi,iG];exact e⟩
theorem a7g(hc:X.calm=true):K6 X (.builtin "all") (λvs H Q=>Ev2 λ(a:aA)(bs:List Bool)=>vs=[.ref a]/\JT X.K H a (bs.map V.bl)/\Q (.bl (bs.all id)) H):=by
 intro pins s σ H vs us Q I r h;obtain⟨a,bs,rfl,hs,q⟩:=h;obtain⟨u,rfl,ru⟩:=U1 r
 cases ru;obtain⟨its,rv,walk⟩:=Nr hc I hs;have hlen:its.toArray.size=bs.length:=by rw[bY,<-rv.length,aH]
 refine call_all_walk (walk _ _ λo St W st fp=>⟨_,_,_,_,_,_,λi=>(bs[i]?).getD true,rfl,W,st,λi v s' Q' E' hP hQ=>?_,λh' tk hk=>?_⟩)
 ·obtain⟨y,e,ry⟩:=Uy rv hP
  rw[aP] at e
  cases eb:bs[i]? with
  |none=>rw[eb] at e;cases e
  |some b =>
   rw[eb] at e;cases e
   cases ry;simp only[eb,iG] at hQ;exact gC hQ
 ·rw[hlen,a8G bs]
  exact⟨.bl _,H,I.kept (Nq hk),rfl,q⟩
theorem a7F(hc:X.calm=true):K6 X (.builtin "any") (λvs H Q=>Ev2 λ(a:aA)(bs:List Bool)=>vs=[.ref a]/\JT X.K H a (bs.map V.bl)/\Q (.bl (bs.any id)) H):=by
 intro pins s σ H vs us Q I r h;obtain⟨a,bs,rfl,hs,q⟩:=h;obtain⟨u,rfl,ru⟩:=U1 r
 cases ru;obtain⟨its,rv,walk⟩:=Nr hc I hs;have hlen:its.toArray.size=bs.length:=by rw[bY,<-rv.length,aH]
 refine call_any_walk (walk _ _ λo St W st fp=>⟨_,_,_,_,_,_,λi=>(bs[i]?).getD false,rfl,W,st,λi v s' Q' E' hP hQ=>?_,λh' tk hk=>?_⟩)
 ·obtain⟨y,e,ry⟩:=Uy rv hP
  rw[aP] at e
  cases eb:bs[i]? with
  |none=>rw[eb] at e;cases e
  |some b =>
   rw[eb] at e;cases e
   cases ry;simp only[eb,iG] at hQ;exact gC hQ
 ·rw[hlen,a8B bs]
  exact⟨.bl _,H,I.kept (Nq hk),rfl,q⟩
theorem Nt{ns:List Int}(rv:Vals (ns.map V.int) its):∀i v,its.toArray[i]?=some v->∃t,v=iM (ns.getD i 0) t:=λi v hP=>by
 obtain⟨y,e,ry⟩:=Uy rv hP;rw[aP] at e
 cases en:ns[i]? with
 |none=>rw[en] at e;cases e
 |some n =>
  rw[en] at e;cases e;obtain⟨t,rfl⟩:=ry;exact⟨t,by rw[bA,en];rfl⟩
theorem a3g(ns:List Int):∀j,preSum (λi=>ns.getD i 0) j=(ns.take j).sum
 |0=>by simp[preSum]
 |j+1=>by
  rw[preSum,a3g ns j]
  by_cases hj:j<ns.length
  ·rw[vA hj,vB,bA,aS hj];simp
  ·rw[fZ (by lia),fZ (by lia),bA,bW (by lia)];simp
theorem b1s(hc:X.calm=true):K6 X (.builtin "sum") (λvs H Q=>Ev2 λ(a:aA)(ns:List Int)=>vs=[.ref a]/\JT X.K H a (ns.map V.int)/\Q (.int ns.sum) H):=by
 intro pins s σ H vs us Q I r h;obtain⟨a,ns,rfl,hs,q⟩:=h;obtain⟨u,rfl,ru⟩:=U1 r
 cases ru;obtain⟨its,rv,walk⟩:=Nr hc I hs;have hlen:its.toArray.size=ns.length:=by rw[bY,<-rv.length,aH]
 refine call_sum_walkG (walk _ _ λo St W st fp=>⟨_,_,_,_,_,_,λi=>ns.getD i 0,rfl,W,st,fp,Nt rv,λh' tk t' hk=>?_⟩);rw[hlen,a3g,fZ (aT _)];exact⟨.int _,H,I.kept (Nq hk),⟨_,rfl⟩,q⟩
theorem a4O{l:List Int}(h:j<l.length):l.getD j 0∈l:=by simp_all
theorem a5p{l:List Int}(h:a∈l):∃j,j<l.length/\l.getD j 0=a:=by
 obtain⟨j,hj,e⟩:=rB h;exact⟨j,hj,by rw[bA,aS hj];exact e⟩
theorem Qq(hc:X.calm=true):K6 X (.builtin "max") (λvs H Q=>Ev2 λa ns=>vs=[.ref a]/\JT X.K H a (ns.map V.int)/\ns≠[]/\∀M,M∈ns->(∀n∈ns,n<=M)->Q (.int M) H):=by
 intro pins s σ H vs us Q I r h;obtain⟨a,ns,rfl,hs,mm,q⟩:=h;obtain⟨u,rfl,ru⟩:=U1 r
 cases ru;obtain⟨its,rv,walk⟩:=Nr hc I hs;have hlen:its.toArray.size=ns.length:=by rw[bY,<-rv.length,aH]
 have ur:=vC.mpr mm;refine call_max_walk (walk _ _ λo St W st fp=>?_);refine⟨_,_,_,_,_,_,_,rfl,W,st,fp,by rw[hlen];exact ur,CmpOf.ints_gt (λi=>ns.getD i 0) (Nt rv),λv h' tk hP hk=>?_⟩;obtain⟨h1,h2⟩:=argBest_gt (λi=>ns.getD i 0) (its.toArray.size-1);obtain⟨t,rfl⟩:=Nt rv _ v hP;refine⟨.int _,H,I.kept (Nq hk),⟨_,rfl⟩,q _ (a4O (by lia)) λn hn=>?_⟩;obtain⟨j,hj,rfl⟩:=a5p hn;exact h2 j (by lia)
theorem Uz:K6 X (.builtin "isinstance") (λvs H Q=>Ev4 λx t n b=>vs=[x,.ty n]/\Cp X.K H x t/\bU X.K t (.type n)=some b/\Q (.bl b) H):=by
 intro pins s σ H vs us Q I r h;obtain⟨x,t,n,b,rfl,ty,e,q⟩:=h;obtain⟨u,v,rfl,ru,rv⟩:=Lw r
 cases rv;exact b0U I ru ty e λtk=>⟨.bl b,H,I.tok _,rfl,q⟩
mutual
inductive Dp(K:aF)(H:Hp):V->dI->Prop
 |non:Dp K H .non .none
 |bl (b:Bool):Dp K H (.bl b) (.bool b)
 |int (i:Int):Dp K H (.int i) (.int i)
 |str (x:aC):Dp K H (.str x) (.str x)
 |lst {a:aA} {xs:List V} {ds:List dI}:ah K H a xs->qc K H xs ds->Dp K H (.ref a) (.list ds)
 |tup {a:aA} {xs:List V} {ds:List dI}:cq K H a xs->qc K H xs ds->Dp K H (.ref a) (.tuple ds)
inductive qc(K:aF)(H:Hp):List V->List dI->Prop
 |nil:qc K H [] []
 |cons {x:V} {xs:List V} {d:dI} {ds:List dI}:Dp K H x d->qc K H xs ds->qc K H (x::xs) (d::ds)
end
theorem af.cm{K}(e:af H H')(h:cq K H a xs):cq K H' a xs:=by
 rcases h with(h|⟨o,h⟩)|h
 ·exact .inl (.inl (e _ _ h))
 ·exact .inl (.inr ⟨o,e _ _ h⟩)
 ·exact .inr h
mutual
theorem Dp.same{K:aF}{H H':Hp}(e:af H H'):∀{x:V}{d:dI},Dp K H x d->Dp K H' x d
 |_,_,.non=>.non
 |_,_,.bl b=>.bl b
 |_,_,.int i=>.int i
 |_,_,.str x=>.str x
 |_,_,.lst h r=>.lst (e.seq h) (qc.same e r)
 |_,_,.tup h r=>.tup (e.cm h) (qc.same e r)
theorem qc.same{K:aF}{H H':Hp}(e:af H H'):∀{xs:List V}{ds:List dI},qc K H xs ds->qc K H' xs ds
 |_,_,.nil=>.nil
 |_,_,.cons a r=>.cons (Dp.same e a) (qc.same e r)
end
mutual
theorem Dp.reads{σ:St}(I:Inv X pins σ H s):∀{x:V}{d:dI},Dp X.K H x d->∀{u:aE},RelV x u->∃as,Reads s.heap u d as
 |_,_,.non,u,r=>by cases r;exact⟨_,.none⟩
 |_,_,.bl b,u,r=>by cases r;exact⟨_,.bool b⟩
 |_,_,.int i,u,r=>by obtain⟨t,rfl⟩:=r;exact⟨_,.int i t⟩
 |_,_,.str x,u,r=>by obtain⟨t,rfl⟩:=r;exact⟨_,.str x t⟩
 |_,_,.lst h q,u,r=>by
  cases r;obtain⟨its,rv,p,hz⟩:=I.list h;obtain⟨o,e1,e2,n,e3⟩:=p.isList;obtain⟨as,ra⟩:=qc.reads I q rv;exact⟨_,.list e1 e2 e3 (by simpa using ra)⟩
 |_,_,.tup h q,u,r=>by
  cases r;obtain⟨its,rv,p,hz⟩:=I.tuple h;obtain⟨o,e1,e2,n,e3⟩:=(show s.heap.IsTuple _ its.toArray from p);obtain⟨as,ra⟩:=qc.reads I q rv;exact⟨_,.tuple e1 e2 e3 (by simpa using ra)⟩
theorem qc.reads(I:Inv X pins σ H s):∀{xs:List V}{ds:List dI},qc X.K H xs ds->∀{us:List aE},Vals xs us->∃as,ReadsAll s.heap us ds as
 |_,_,.nil,us,r=>by cases r;exact⟨_,.nil⟩
 |_,_,.cons a q,us,r=>by
  cases r with
  |cons r1 r2 =>
   obtain⟨as,h1⟩:=Dp.reads I a r1;obtain⟨bs,h2⟩:=qc.reads I q r2;exact⟨_,.cons h1 h2⟩
end
inductive d2S(K:aF)(x y:V)(H:Hp)(Q:VK):Prop|mk:∀d e,Dp K H x d->Dp K H y e->d.canLay0=true->e.canLay0=true->min d.depth e.depth<=60->Q (.bl (cK d e)) H->d2S K x y H Q
inductive c0Z(K:aF)(x y:V)(H:Hp)(Q:VK):Prop|mk:∀d e,Dp K H x d->Dp K H y e->d.canLay0=true->e.canLay0=true->min d.depth e.depth<=60->Q (.bl (!PyData.eqv d e)) H->c0Z K x y H Q
theorem d0Y(hr:b_ k X.A):gw X (compareOp .Eq) (d2S X.K):=by
 intro pins s σ H x y v u Q I rx ry h;obtain⟨d,e,h1,h2,c1,c2,hd,q⟩:=h;obtain⟨as,r1⟩:=h1.reads I rx;obtain⟨bs,r2⟩:=h2.reads I ry;exact SeqAt.compareEq_reads r1 r2 c1 c2 (by have:=hr.units;lia) ⟨.bl _,H,I,rfl,q⟩
theorem JU(hr:b_ k X.A):gw X (compareOp .NotEq) (c0Z X.K):=by
 intro pins s σ H x y v u Q I rx ry h;obtain⟨d,e,h1,h2,c1,c2,hd,q⟩:=h;obtain⟨as,r1⟩:=h1.reads I rx;obtain⟨bs,r2⟩:=h2.reads I ry;exact SeqAt.compareNe_reads r1 r2 c1 c2 (by have:=hr.units;lia) ⟨.bl _,H,I,rfl,q⟩
theorem af.new(h:H p=none)o:af H (upd H p o):=λb u q=>by rw[j3 (i7 q h)];exact q
theorem Wk.set(hi:i<n):Wk (c_ n fr σ) ((c_ n fr σ).set i (some v)):=by
 refine⟨by simp,λj w e=>?_⟩
 by_cases hj:j=i
 ·subst hj
  unfold c_ at e;rw[dH (by simp_all),gD] at e
  split at e<;>cases e
 ·rw[dP (bV hj)];exact e
structure IL(J:It)(H1:Hp)(xs:List V):Prop where
 go:∀i H,af H1 H->i<xs.length->J.go i H
 By:∀i H x H',af H1 H->i<xs.length->J.By i H x H'->H'=H/\xs[i]?=some x
 stop:∀H,af H1 H->J.stop xs.length H
def A3{K}(h:ah K H1 a xs):IL (Lr K a) H1 xs :=
 ⟨λi H e hi=>⟨xs,xs[i],e.seq h,aS hi⟩,λi H x H' e hi y=>⟨y.1,y.2 xs (e.seq h)⟩,λH e=>⟨xs,e.seq h,aT _⟩⟩
def U3{K}(h:cq K H1 a xs):IL (Tv K a) H1 xs :=
 ⟨λi H e hi=>⟨xs,xs[i],e.cm h,aS hi⟩,λi H x H' e hi y=>⟨y.1,y.2 xs (e.cm h)⟩,λH e=>⟨xs,e.cm h,aT _⟩⟩
theorem a4p{lo}:IL (Hd lo n) H1 ((aW n).map λ(i:Nat)=>V.int (lo+(i:Int))) :=
 ⟨λi H e hi=>(show i<n from by simpa using hi),λi H x H' e hi y=>⟨y.1,by rw[y.2,aP,cU (by simp_all)];rfl⟩,λH e=>by simp[Hd]⟩
theorem aZ.app:∀{a c}{b d:List β},aZ F a b->aZ F c d->aZ F (a++c) (b++d)
 |_,_,_,_,.nil,s=>s
 |_,_,_,_,.cons r t,s=>.cons r (aZ.app t s)
theorem O9(hJ:IL J H1 xs)(hp:H1 p=none)(hz:xs.length<sizeLine)F
  (step:∀(i:Nat)x H N,xs[i]?=some x->af H1 H->N (F x) H->g x (c_ n fr σ) H λir H2=>Wk (c_ n fr σ) ir/\te ir H2 N)
  (hd:D (upd H1 p (.lst (xs.map F)))):IJ n fr g te σ J H1 p D:=by
 refine⟨λi m ys H=>m=xs.length-i/\i<=xs.length/\ys=(xs.take i).map F/\H=upd H1 p (.lst ys),⟨xs.length,by simp,dM _,by simp,rfl⟩,?_⟩;rintro i m ys H ⟨rfl,hi,rfl,rfl⟩;have e:=af.new (o:=.lst ((xs.take i).map F)) hp
 by_cases fk:i<xs.length
 ·refine .inr ⟨hJ.go i _ e fk,λx H' y=>?_⟩
  obtain⟨rfl,hx⟩:=hJ.By i _ x H' e fk y;refine step i x _ _ hx e ⟨ae,by rw[aH,cI];lia,xs.length-(i+1),by lia,rfl,fk,?_,Ju⟩;rw[rC,hx,bQ];rfl
 ·have:i=xs.length:=by lia
  subst this;refine .inl ⟨hJ.stop _ e,?_⟩;rw[fZ (aT _)];exact hd
theorem N5(hJ:IL J H1 xs)(hp:H1 p=none)(hz:xs.length<sizeLine)(R:Nat->V->Hp->Prop)(hR:∀i y H H',R i y H->(∀b o,b≠p->H b=some o->H' b=some o)->R i y H')
  (step:∀i x H ys N,xs[i]?=some x->af H1 H->H p=some (.lst ys)->(∀v H3,af H H3->R i v H3->N v H3)->g x (c_ n fr σ) H λir H2=>Wk (c_ n fr σ) ir/\te ir H2 N)
  (hd:∀ys H,af H1 H->H p=some (.lst ys)->ys.length=xs.length->(∀i y,ys[i]?=some y->R i y H)->D H):IJ n fr g te σ J H1 p D:=by
 refine⟨λi m ys H=>m=xs.length-i/\i<=xs.length/\af H1 H/\H p=some (.lst ys)/\ys.length=i/\∀j y,ys[j]?=some y->R j y H,⟨xs.length,by simp,dM _,af.new hp _,ae,rfl,λj y e=>by simp at e⟩,?_⟩;rintro i m ys H ⟨rfl,hi,e,hH,len,pr⟩
 by_cases fk:i<xs.length
 ·refine .inr ⟨hJ.go i _ e fk,λx H' y=>?_⟩
  obtain⟨rfl,hx⟩:=hJ.By i _ x H' e fk y;refine step i x _ ys _ hx e hH λv H3 s3 r3=>⟨s3 _ _ hH,by lia,xs.length-(i+1),by lia,rfl,fk,λb o q=>?_,ae,by rw[aX,len];rfl,λj y ey=>?_⟩
  ·rw[j3 (i7 q hp)];exact s3 _ _ (e _ _ q)
  ·have up:∀b o,b≠p->H3 b=some o->upd H3 p (.lst (ys++[v])) b=some o:=λb o hb q=>by rw[j3 hb];exact q
   by_cases hj:j<ys.length
   ·rw[dH hj] at ey
    exact hR j y _ _ (pr j y ey) λb o hb q=>up b o hb (s3 _ _ q)
   ·rw[dU (by lia)] at ey
    have om:j-ys.length=0:=by
     cases q:j-ys.length with
     |zero=>rfl
     |succ k=>rw[q] at ey;simp at ey
    rw[om] at ey;have:j=i:=by lia
    subst this;simp at ey;subst ey;exact hR j v _ _ r3 up
 ·have:i=xs.length:=by lia
  subst this;exact .inl ⟨hJ.stop _ e,hd ys H e hH len pr⟩
theorem Inv.rz{σ:St}{fp:List aA}{T:aA}(I:Inv X pins σ H s)(hf:∀b∈fp,xp X pins H b)
  (k:∀b o,b ∉ fp->s.heap.get? b=some o->h'.get? b=some o) (ho:∀b∈fp,∃o,h'.get? b=some o) (hT:s.heap.objs.size<=T) (hz:xs.length<=sizeLine) (hv:Vals xs its) (ht:gP h' T its.toArray) :
  Inv X pins σ (upd H T (.tup xs)) {s with heap:=h'}:=by
 have Nu:=I.ck.fresh hT;refine I.step (λb hb=>⟨(hf b hb).2.2.2.1,(hf b hb).2.1,(hf b hb).2.2.2.2.1,(hf b hb).2.2.2.2.2⟩) (λb o _ _ hc e _=>k b o hc e) (λb o _ _ hc e _=>⟨o.slots,k b o hc e⟩)
  (λb o hc e n=>by rw[j3 ((λb o e=>dB (bS (bN e) hT)) b o e)];exact n) (λb o hc e=>⟨o,k b o hc e⟩) (λb ys e=>by rw[j3 (i7 e Nu)];exact e) (λb o u e=>by rw[j3 (i7 e Nu)];exact e) (λb ps e=>⟨#[],by rw[j3 (i7 e Nu),e];simp⟩)
  (λm hm=>?_) (λb u e=>?_) I.bare
 ·obtain⟨o,es,ep,e1,r⟩:=hm
  exact⟨o,es,ep,k _ o (λz=>(hf _ z).2.1 rfl) e1,r⟩
 ·by_cases hb:b=T
  ·subst hb;rw[ae] at e;cases e
   exact⟨hz,its,hv,ht⟩
  ·rw[j3 hb] at e
   have IC:∀c u,H c=some u->c ∉ fp:=λc u q z=>by rw[(hf c z).1] at q;cases q
   refine(I.ck b u e).rf (λc v hc q=>k c v ?_ q) (λc q=>by rw[j3 (i7 q Nu)];exact q) λc ys q=>by rw[j3 (i7 q Nu)];exact q
   rcases hc with z|z
   ·rw[z];exact IC b u e
   ·exact IC c _ z
theorem Inv.vi{σ:St}{fp:List aA}(I:Inv X pins σ H s)(hf:∀b∈fp,xp X pins H b)
  (k:∀b o,b ∉ fp->s.heap.get? b=some o->h'.get? b=some o):Inv X pins σ H {s with heap:=h'}:=by
 refine I.step (λb hb=>⟨(hf b hb).2.2.2.1,(hf b hb).2.1,(hf b hb).2.2.2.2.1,(hf b hb).2.2.2.2.2⟩) (λb o _ _ hc e _=>k b o hc e) (λb o _ _ hc e _=>⟨o.slots,k b o hc e⟩)
  (λb o hc e n=>n) (λb o hc e=>⟨o,k b o hc e⟩) (λb ys e=>e) (λb o u e=>e) (λb ps e=>⟨#[],by rw[e];simp⟩)
  (λm hm=>?_) (λb u e=>?_) I.bare
 ·obtain⟨o,es,ep,e1,r⟩:=hm
  exact⟨o,es,ep,k _ o (λz=>(hf _ z).2.1 rfl) e1,r⟩
 ·have IC:∀c u,H c=some u->c ∉ fp:=λc u q z=>by rw[(hf c z).1] at q;cases q
  refine(I.ck b u e).rf (λc v hc q=>k c v ?_ q) (λc q=>q) λc ys q=>q;rcases hc with z|z
  ·rw[z];exact IC b u e
  ·exact IC c _ z
theorem b7W(n l1 l2:Nat)(h1:l1<n)(h2:l2<n):jO (n+4) (n+2) (n+3) n (n+1) l1 l2 where
 TIz:=(by lia)
 TOz:=(by lia)
 i1z:=(by lia)
 i2z:=(by lia)
 TITO:=(by lia)
 TIi1:=(by lia)
 TIi2:=(by lia)
 TOi1:=(by lia)
 TOi2:=(by lia)
 i12:=(by lia)
 l1z:=(by lia)
 l1TO:=(by lia)
 l1i1:=(by lia)
 l1i2:=(by lia)
 l2z:=(by lia)
 l2TO:=(by lia)
 l2i1:=(by lia)
 l2i2:=(by lia)
def b9B(i j:Int):Prop:=0<j/\j<2^8000
theorem log2_lt(h:y<2^8000):y.log2<9000:=by
 by_cases h0:y=0
 ·subst h0;decide
 ·exact bS ((mO h0).mpr h) (by decide)
theorem UA:gw X (binaryOp .FloorDiv) (rI b9B λi j=>.int (i/j)):=Lu λi j _ _ _ _ _ hc q=>by
 have h0:j≠0:=by have:=hc.1;lia
 refine sY h0 ((sZ i (cC hc.1))▸q) (.inl (PyProof.noPylong_of_log2 (log2_lt ?_)));have:=hc.1;have:=hc.2;lia
def fh(n:Nat)(i:Int):Prop:=i.natAbs<2^n
def b9o(i j:Int):Prop:=fh 1000000 i/\fh 1000000 j
theorem b0b(h:fh 1000000 i):vE i<=2^20:=by
 unfold vE
 split
 ·exact dM _
 ·rename_i h0
  have GC:i.natAbs≠0:=by simp_all
  have:=(mO GC).mpr h;lia
def Qr:gw X (binaryOp .Mult) (rI b9o λi j=>.int (i*j)):=Lu λ_ _ _ _ _ _ _ hc q=>mul_int q (IntMulOk.of_bits (b0b hc.1) (b0b hc.2))
theorem af.write(e:af H H')(hp:H p=none):af H (upd H' p o):=λb u q=>by rw[j3 (i7 q hp)];exact e b u q
end L2
namespace L2
open PySem PySem.W
section
variable{prog:aM}{w:aL}{A:aV}{E:aE->aG->Prop}{s:aG}{K:fA}{x C D:aA}{ox:Obj}
end
structure X4(K:fA)(D:aA):Prop where
 ob:∃nm q N bs bm hdct sn sub ab col dd k0 k1 k2 k3 k5,K.lookup D=some (excClassObj nm q D N bs bm hdct sn sub ab col dd k0 k1 k2 k3 k5 "ValueError.__new__")/\nsOkIn K N=true/\nsIn K N "__init__"=some none/\
  tailIn K [.type "ValueError",.type "Exception",.type "BaseException",.type "object"] bm=true
 ga:iI K (.ref D) "__getattribute__"=some (some (.builtin "BaseException.__getattribute__"))
 gn:iI K (.ref D) "__getattr__"=some none
 ca:iI K (.ref D) "__class__"=some (some (.builtin "object.__class__"))
 mo:gW K D (.type "object")=some true
 mb:gW K D (.type "BaseException")=some true
end L2
namespace L2
open PySem PySem.Spec PyProof.Rows
theorem dh.got(x:dh P w H h a o):∃ob,h.get? a=some ob:=by
 cases o with
 |lst xs=>obtain⟨_,_,_,_,e⟩:=x;exact⟨_,e⟩
 |tup xs=>obtain⟨_,_,_,ob,e,_⟩:=x;exact⟨ob,e⟩
 |dK dz=>obtain⟨_,_,_,_,ob,_,_,e,_⟩:=x;exact⟨ob,e⟩
 |dT dz=>obtain⟨_,_,_,_,ob,_,_,e,_⟩:=x;exact⟨ob,e⟩
 |set S n=>obtain⟨ob,_,_,_,e,_⟩:=x;exact⟨ob,e⟩
 |ins C dx fs=>obtain⟨_,_,_,e,_⟩:=x;exact⟨_,e⟩
 |own y=>exact x
 |xd fs=>obtain⟨_,⟨ob,_,_,e,_⟩,_⟩:=x;exact⟨ob,e⟩
 |zt lo hi=>obtain⟨_,_,_,e⟩:=x;exact⟨_,e⟩
 |Bw ob u=>obtain⟨e,_⟩:=x;exact⟨_,e⟩
 |my ps=>exact⟨_,(show h.get? a=some _ from x)⟩
 |met f y=>exact⟨_,(show h.get? a=some _ from x)⟩
 |ext φ=>obtain⟨_,e,_⟩:=x;exact e
theorem Un.slots{fs ex:List aA}{H0 H':Hp}{h0 h1 h2:aJ}(u:Un fs ex H0 H' h0 h1)(hb:∀b o,h1.get? b=some o->(∃o0,h0.get? b=some o0)->b ∉ fs->h2.get? b=some o)
  (hf:∀b∈fs,∀o,h1.get? b=some o->∃sl,h2.get? b=some {o with slots:=sl}):Un fs ex H0 H' h0 h2 where
 keep:=λb o q n JW hx=>hb b o (u.keep b o q n JW hx) ⟨o,q⟩ JW
 slot:=λb o q n JW hx=>by
  obtain⟨sl,e⟩:=u.slot b o q n JW hx;obtain⟨Tg,e'⟩:=hf b JW _ e;exact⟨Tg,e'⟩
 free:=u.free
 there:=λb o q hx=>by
  obtain⟨o',e⟩:=u.there b o q hx
  by_cases hm:b∈fs
  ·obtain⟨sl,e'⟩:=hf b hm _ e;exact⟨_,e'⟩
  ·exact⟨_,hb b o' e ⟨o,q⟩ hm⟩
 pj:=u.pj
 pw:=u.pw
 pz:=u.pz
theorem mz.slots(x:mz P w H h)(k:∀b u o,H b=some u->h.get? b=some o->h'.get? b=some o):mz P w H h':=λa o e =>
 (x a o e).rf (λb u hb q=>by
  rcases hb with rfl|hb
  ·exact k b o u e q
  ·exact k b _ u hb q) (λ_ q=>q) λ_ _ q=>q
structure Em(P:aM)(w:aL)(l:List Env)(H:Hp)(s:aG)(ea t D:aA)(B:aJ)(H':Hp)(s':aG):Prop where
 os:s'.os=s.os
 bare:jC s'.gens
 un:Un (uk l) [] H H' s.heap s'.heap
 ck:mz P w H' s'.heap
 LH:vH B l ea (.ref D) (.ref t) s'.heap
 GD:∀b o,s'.heap.get? b=some o->((∃o0,s.heap.get? b=some o0)/\b ∉ uk l)\/H' b≠none->B.get? b=some o
inductive W2(P:aM)(w:aL)(l:List Env)(H:Hp)(s:aG)(E:XK)(e:aE)(s':aG):Prop|mk:∀ea t D B H',e=.ref ea->Em P w l H s ea t D B H' s'->E (.ref D) none H'->W2 P w l H s E e s'
section
variable{P:aM}{w:aL}{l:List Env}{H:Hp}{s s':aG}{ea t D:aA}{B h':aJ}{H':Hp}
theorem Em.inv{X:Cx}{pins:List (aA×Obj)}{σ:St}(I:Inv X pins σ H s)(F:Em X.prog X.w X.stack H s ea t D B H' s'):Inv X pins σ H' s' :=
 I.Bx F.os F.un F.ck F.bare (λb z=>absurd z (by simp))
end
theorem UE{σ:St}(I:Inv X pins σ H s)(e:X.s₀.heap.get? b=some o)(hb:b ∉ uk X.outer):b ∉ uk X.stack:=λz=>by
 rcases bH.mp (I.rg b z) with q|q
 ·have:=bS (bN e) I.ok.above
  rw[q] at this;exact dO _ this
 ·exact hb q
theorem V5{K}:Z8 (W2 P w) (N8 (W2 P w) P w K mg base N qual scope f cd A outer s₀ H₀ E) E:=by
 intro pins σ H s e s' I h;obtain⟨ea,t,D,B,H',rfl,F,hE⟩:=h;have I':=F.inv I;refine wpAny_leaves_onW I.ok.frames rfl F.LH λh' fl up=>?_;have st:=fl.1;have bin:∀b o,s'.heap.get? b=some o->(∃o0,s₀.heap.get? b=some o0)->b ∉ uk outer->B.get? b=some o:=λb o q ⟨o0,z⟩ hn=>by
  obtain⟨o1,q1⟩:=I.base.there b o0 z (by show b ∉ ([]:List aA);simp);exact F.GD b o q (.inl ⟨⟨o1,q1⟩,UE I z hn⟩)
 refine⟨ea,t,D,B,H',rfl,⟨I'.os,F.bare,I'.base.slots (λb o q z hn=>st b o (bin b o q z hn)) λb hb o q=>?_,F.ck.slots λb u o e q=>st b o (F.GD b o q (.inr (by lia))),fl,λb o q z=>?_⟩,hE⟩
 ·obtain⟨_,o',mj,hd⟩:=F.LH.2.2.1.2.2.mem hb
  rw[q] at mj;cases mj;exact up b o q hd
 ·have:∃o1,s'.heap.get? b=some o1/\B.get? b=some o1:=by
   rcases z with⟨⟨o0,z⟩,hn⟩|z
   ·obtain⟨o1,q1⟩:=I'.base.there b o0 z (by show b ∉ ([]:List aA);simp)
    exact⟨o1,q1,bin b o1 q1 ⟨o0,z⟩ hn⟩
   ·cases e:H' b with
    |none=>exact absurd e z
    |some u =>
     obtain⟨o1,q1⟩:=(F.ck b u e).got;exact⟨o1,q1,F.GD b o1 q1 (.inr z)⟩
  obtain⟨o1,_,b1⟩:=this;have:=st b o1 b1;rw[show h'.get? b=some o from q] at this
  cases this;exact b1
theorem b9b{K}{σ:St}(I:Inv (N8 (W2 P w) P w K mg base N qual scope f cd A outer s₀ H₀ E) pins σ H s)(hx:Heap.MadeExcOf s.heap h1 ea (.ref D) vs)
  (hE:E (.ref D) none H):(N8 (W2 P w) P w K mg base N qual scope f cd A outer s₀ H₀ E).xe (.ref ea) {s with heap:=h1}:=by
 refine wpAny_leaves_madeW I.ok.frames rfl (λb o q=>W.of_hideAll _ q) (W.funFrames_hide I.stack (λenv he b hb=>nK.mpr ⟨env,he,hb⟩)) hx λh' t fl _ _ up=>?_;have st:=λb o q hn=>fl.1 b o (vJ _ q hn);have trn:∀b u,H b=some u->b ∉ uk (dQ qual scope s₀.heap.objs.size f cd::outer):=λb u e z=>by
  have:=I.qm b z;rw[e] at this;cases this
 refine⟨ea,t,D,_,H,rfl,⟨I.os,I.bare,I.base.slots (λb o q ⟨o0,z⟩ hn=>st b o q (UE I z hn)) λb hb o q=>?_,I.ck.slots λb u o e q=>st b o q (trn b u e),fl,λb o q z=>?_⟩,hE⟩
 ·obtain⟨_,o',mj,hd⟩:=I.gx.mem hb
  rw[q] at mj;cases mj;exact up b o (hx.keeps b o q) hd
 ·have:∃o1,s.heap.get? b=some o1/\b ∉ uk (dQ qual scope s₀.heap.objs.size f cd::outer):=by
   rcases z with⟨⟨o0,z⟩,hn⟩|z
   ·obtain⟨o1,q1⟩:=I.base.there b o0 z (by show b ∉ ([]:List aA);simp)
    exact⟨o1,q1,UE I z hn⟩
   ·cases e:H b with
    |none=>exact absurd e z
    |some u =>
     obtain⟨o1,q1⟩:=(I.ck b u e).got;exact⟨o1,q1,trn b u e⟩
  obtain⟨o1,q1,hn⟩:=this;have:=st b o1 q1 hn;rw[show h'.get? b=some o from q] at this
  cases this;exact vJ _ q1 hn
def tFs(te:TE):TE:=λσ H Q=>te σ H λv H1=>∃i,v=.int i/\i.natAbs.log2<1920/\∀x,Q (.str x) H1
theorem b5G(he:PE X e te)(ha:a.length<=1000):PE X (.JoinedStr [.Constant (.str a) j p1,.FormattedValue e (-1) none p2] p3) (tFs te):=by
 intro pins s σ H Q I h;refine rH (kP (D7 (l9 pins s σ H (λv H'=>v=.str a/\H'=H) I ⟨rfl,rfl⟩) λu s1 ⟨v,H1,I1,r,hv,hH⟩=>?_));subst hv;subst hH;obtain⟨tk,rfl⟩:=r;have e0:(eI++a).length=a.length:=by rw[kQ];show 0+a.length=a.length;lia
 refine⟨by rw[e0];exact bF ha (by decide),kP (oG (D7 (he pins s1 σ H1 _ I1 h) λu s2 ⟨v,H2,I2,r,i,hv,hi,q⟩=>?_))⟩;subst hv;obtain⟨Nw,rfl⟩:=r;refine oH hi ?_;have hl:(eI++a++cN (toString i)).length<=sizeLine:=by
  rw[kQ,e0];have h1:=oJ (a:=i) (k:=1920) (by decide) hi;rw[oK,bE];lia
 exact⟨hl,rJ ⟨.str _,H2,(I2.tok _).tok _,⟨_,rfl⟩,q _⟩ hl⟩
section
variable{P:aM}{w:aL}{K:aF}{mg:aC->Option aE}{base:aJ}{N:List aC}{qual:aC}{scope:cQ}{f:aA}{cd:aE}{A:aV}{outer:List Env}{s₀:aG}{H₀:Hp}{E:XK}
 {x:aC} {D:aA} {e:aR} {t:TA} {np iz pos:Pos}
def b3F(t:TA)(D:aA)(E:XK):TS:=λ_ σ H=>t σ H λvs H1=>vs.length<=1000/\E (.ref D) none H1
theorem T7(k:X4 K D)(hg:Gl (N8 (W2 P w) P w K mg base N qual scope f cd A outer s₀ H₀ E) x)(hm:mg x=some (.ref D))(hh:A.handled=none)
  (ha:PA (N8 (W2 P w) P w K mg base N qual scope f cd A outer s₀ H₀ E) [e] t)
  (he:starEach [e] (dQ qual scope s₀.heap.objs.size f cd)=[(false,eval e (dQ qual scope s₀.heap.objs.size f cd))]:=by rfl) (Cq:(x==("__debug__":aC))=false:=by decide) :
  PS (N8 (W2 P w) P w K mg base N qual scope f cd A outer s₀ H₀ E) (.Raise (some (.Call (.Name x np) [e] [] iz)) none pos) (b3F t D E):=by
 intro pins s σ H Dn I h;obtain⟨nm,q,Na,bs,bm,hdct,sn,sub,ab,col,dd,k0,k1,k2,k3,k5,lk,ok,ni,tl⟩:=k.ob;have tb:∀h:aJ,K.In h->OwnTail h [.type "ValueError",.type "Exception",.type "BaseException",.type "object"] bm:=λh X=>W.tail_of_in X tl;have UH:∀h:aJ,K.In h->h.Ns Na (h.nsMap Na)/\h.nsMap Na "__init__"=none:=λh X=>⟨.of_isNs (W.isNs_of_in X ok),W.nsMap_none_of_in X ok ni⟩;refine wpAny_Raise_call_subT (nm:=nm) (q:=q) (N:=Na) (bs:=bs) (hdct:=hdct) (sn:=sn) (sub:=sub) (ab:=ab) (col:=col) (dd:=dd) (k0:=k0) (k1:=k1) (k2:=k2) (k3:=k3) (k5:=k5)
  F.excBase_ValueError ((tb base I.mod.zu).hasType rfl) (by show(A.deeper _).handled=none;exact hh) (by rw[show starEach [e] (N8 (W2 P w) P w K mg base N qual scope f cd A outer s₀ H₀ E).env=_ from he];rfl)
  (UH base I.mod.zu).2 (Lm I hg hm ⟨rfl,?_⟩ Cq)
 have h2:=ha iz pins s σ H _ I h;rw[show starEach [e] (N8 (W2 P w) P w K mg base N qual scope f cd A outer s₀ H₀ E).env=_ from he] at h2⊢;refine uI (eY h2 (λus s2 ⟨vs,H2,I2,r,hl,hE⟩=>⟨rfl,by rw[<-r.length];exact gQ (t9 hl),I2.ix _ _ lk,(UH base I.mod.zu).1.keeps I2.bk,tb _ I2.ix,λh' ea hx=>b9b I2 hx hE⟩) λ_ _ z=>z)
end
section
variable{X:Cx}{pins:List (aA×Obj)}{σ:St}{H:Hp}{s:aG}{ea:aA}
end
section
variable{X:Cx}{x n:aC}{R:aA}{i:Nat}{tb:(St->XK)->TS}{ts:TS}{body IM:List aO}{Nx:aO}{np ur pos:Pos}
end
structure NC(k:Nat)(A:aV):Prop where
 dp:A.depth+3*k+5<recursionLimit
 un:A.units+16*k+200<cLine
structure ND(P:aM)(w:aL)(K:aF)(mg:aC->Option aE)(base:aJ)(k:Nat)(f:aA)(fd:aK)(ps:List aC)(sp:Sp):Prop where
 len:∀vs H Q E,sp vs H Q E->vs.length=ps.length
 run:∀(A:aV)(outer:List Env)(s:aG)(H:Hp)(args:Args)(us:List aE)(vs:List V)(Q:VK)(E:XK),NC k A->v_ P w K mg base A outer s H->lU s fd args (ps.zip us)->Vals vs us->sp vs H Q E →
  codeAny (model P w) A (.call (.ref f) args) (CR J8 outer P w H s Q E) s
theorem df.vj{K}{st}(F:df K x qual st f fd)(S:p7 N ps (i9 st))(len:∀vs H Q E,sp vs H Q E->vs.length=ps.length)
  (fz:∀ay A outer s H vs Q E,b_ k (A.deeper (dQ qual (i9 st) s.heap.objs.size f ay))->sp vs H Q E →
   ∃t,fu (N8 (W2 P w) P w K mg base N qual (i9 st) f ay A outer s H E) (x9 st) t/\t {nx:=λ_ H'=>Q .non H',rt:=Q} (V6 N vs) H):bf P w K mg base (W2 P w) (k+1) f fd ps sp:=by
 obtain⟨oc,od,kV,doc,pm,an,ay,ct,yc,rfl,lk,xo⟩:=F.ex;exact TU lk xo S len λA outer s H vs Q E hr iu=>fz ay A outer s H vs Q E hr iu
def df.ob{K}{st}(F:df K x qual st f fd)(S:p7 N ps (i9 st))(fz:∀ay A outer s H vs Q E,b_ k (A.deeper (dQ qual (i9 st) s.heap.objs.size f ay))->sp vs H Q E →
   ∃t,fu (N8 (W2 P w) P w K mg base N qual (i9 st) f ay A outer s H E) (x9 st) t/\t {nx:=λ_ H'=>Q .non H',rt:=Q} (V6 N vs) H)(len:∀vs H Q E,sp vs H Q E->vs.length=ps.length:=by rintro _ _ _ _ ⟨⟩;subst_vars;rfl):bf P w K mg base (W2 P w) (k+1) f fd ps sp:=F.vj S len fz
abbrev TJ:=St->Hp->(Hp->Prop)->Prop
def PJ(X:Cx)(es:List aR)(t:TJ):Prop :=
 ∀pins s(σ:St)H out Q,Inv X pins σ H s->out.length+2000*es.length<=100000->t σ H Q →
  wpAny (model X.prog X.w) X.A (joinParts out (evalEach es X.env)) (λu s'=>Ev3 λx tk H'=>u=jB x tk/\Inv X pins σ H' s'/\Q H') X.xe s
theorem b2S:PJ X [] λ_ H Q=>Q H:=by
 intro pins s σ H out Q I hl h;refine vL (rJ ⟨_,_,H,rfl,I.tok _,h⟩ ?_);rw[bE];simp at hl;lia
theorem NG(h:PJ X es t)(ha:a.length<=1000:=by decide):PJ X (.Constant (.str a) j p1::es) t:=by
 intro pins s σ H out Q I hl ht;refine oM (kP (D7 (l9 pins s σ H (λv H'=>v=.str a/\H'=H) I ⟨rfl,rfl⟩) λu s1 ⟨v,H1,I1,r,hv,hH⟩=>?_));subst hv;subst hH;obtain⟨tk,rfl⟩:=r;simp only[eM] at hl;have e0:(out++a).length=out.length+a.length:=kQ ..;exact⟨by rw[e0,bE];lia,h pins s1 σ H1 (out++a) Q I1 (by lia) ht⟩
theorem UJ(he:PE X e te)(h:PJ X es t):PJ X (.FormattedValue e (-1) none p2::es) λσ H Q=>te σ H λv H1=>∃i,v=.int i/\i.natAbs.log2<1920/\t σ H1 Q:=by
 intro pins s σ H out Q I hl ht;refine oM (kP (oG (D7 (he pins s σ H _ I ht) λu s2 ⟨v,H2,I2,r,i,hv,hi,q⟩=>?_)));subst hv;obtain⟨Nw,rfl⟩:=r;refine oH hi ?_;simp only[eM] at hl;have h1:=oJ (a:=i) (k:=1920) (by decide) hi;have e0:(out++cN (toString i)).length=out.length+(toString i).length:=by rw[kQ,oK]
 exact⟨by rw[e0,bE];lia,h pins _ σ H2 _ Q (I2.tok _) (by lia) q⟩
def tFg(t:TJ):TE:=λσ H Q=>t σ H λH1=>∀x,Q (.str x) H1
theorem a7G(h:PJ X (v1::v2::es) t)(hl:es.length<=20:=by decide):PE X (.JoinedStr (v1::v2::es) p3) (tFg t):=by
 intro pins s σ H Q I ht;refine rH (D7 (h pins s σ H eI _ I ?_ ht) λu s' ⟨x,tk,H',e1,I',q⟩=>?_)
 ·show 0+2000*(es.length+1+1)<=100000
  lia
 ·subst e1
  exact⟨.str x,H',I',⟨_,rfl⟩,q x⟩
end L2
namespace L2
open PySem PySem.Spec PySem.Builtin PySem.Builtin.Str PyProof.Rows
theorem a4L:∀l,Vals ((l.map (·.1)).map V.str) (strValues l)
 |[]=>.nil
 |p::l=>.cons ⟨p.2,rfl⟩ (a4L l)
theorem a5q:∀{ys}{its},Vals (ys.map V.str) its->StrsAre its ys
 |[],_,h=>by cases h;exact .nil
 |y::ys,_,h=>by
  cases h with
  |cons r t =>
   obtain⟨tk,rfl⟩:=r;exact .cons y tk (a5q t)
inductive b5J(x:V)(vs:List V)(H:Hp)(Q:VK):Prop|mk:∀z y,x=.str z->vs=[.str y]->(y.length==0)=false->z.length+2<=sizeLine->(∀l,H l=none->Q (.ref l) (upd H l (.lst ((aU z y).map V.str))))->b5J x vs H Q
theorem U4:Lz X "str.split" b5J:=by
 intro pins s σ H x vs v us Q I rx rv h;obtain⟨z,y,rfl,rfl,hy,xq,q⟩:=h;obtain⟨t,rfl⟩:=rx;obtain⟨u,rfl,ru⟩:=rv.one;obtain⟨u,rfl⟩:=ru;have hn:(partsBetween z (occurrences z y 0 z.length (z.length+1)) y.length).length<=sizeLine:=by
  have e1:=StrLaws.occ_length_le z y 0 z.length (z.length+1);rw[length_partsBetween];lia
 have fin:∀(l:List (dZ×Tok))(k:Nat),l.map (·.1)=aU z y->l.length<=sizeLine->Ev2 λv' H'=>Inv X pins σ H' {s with heap:=s.heap.push {cls:=.type "list",data:=.seq (strValues l).toArray},toks:=k}/\RelV v' (.ref s.heap.objs.size)/\Q v' H':=λl k e hl=>by
  refine⟨.ref s.heap.objs.size,_,I.laid (o:=.lst ((aU z y).map V.str)) (λb u e=>bL _ e) (aT _) ⟨?_,strValues l,0,?_,dG _ rfl⟩,rfl,q _ (I.ck.fresh (aT _))⟩
  ·rw[<-e,aH,aH];exact hl
  ·rw[<-e];exact a4L l
 have ls:=λl k=>by
  have:=congrArg iT (vM k l);rw[aH] at this;exact this
 cases h1:(decide (z.length<y.length)||decide (strKind z<strKind y))
 ·cases hf:(occurrences z y 0 z.length (z.length+1)).isEmpty
  ·refine gF rL (mD _ _ _) rN (rO _ _) (meets_str_split_sep z y t u h1 hy hf (by lia) hn) ?_
   rw[strsFrom_eq];exact fin (numbered s.toks _) _ ((vM _ _).trans ((if_neg (ne_true_of_eq_false h1)).trans (if_neg (ne_true_of_eq_false hf))).symm) (by simp_all)
  ·exact gF rL (mD _ _ _) rN (rO _ _) (meets_str_split_not_found z y t u h1 hy hf)
    (fin [(z,t)] s.toks ((if_neg (ne_true_of_eq_false h1)).trans (if_pos hf)).symm (show 1<=sizeLine by decide))
 ·exact gF rL (mD _ _ _) rN (rO _ _) (meets_str_split_cannot_occur z y t u h1)
   (fin [(z,t)] s.toks (if_pos h1).symm (show 1<=sizeLine by decide))
inductive Qv(K:aF)(x:V)(vs:List V)(H:Hp)(Q:VK):Prop|mk:∀y l ys,x=.str y->vs=[.ref l]->ah K H l (ys.map V.str)->(ys.map (·.length)).sum+ys.length*y.length<=16777216->Q (.str (vN y ys)) H->Qv K x vs H Q
theorem W4:Lz X "str.join" (Qv X.K):=by
 intro pins s σ H x vs v us Q I rx rv h;obtain⟨y,l,ys,rfl,rfl,hl,hz,q⟩:=h;obtain⟨t,rfl⟩:=rx;obtain⟨u,rfl,ru⟩:=rv.one
 cases ru;obtain⟨its,r,p,_⟩:=I.list hl;exact join_list p.isList (a5q r) hz λt' k=>⟨.str _,H,I.tok _,⟨_,rfl⟩,q⟩
theorem a9s K(h:X.K=K):Lz X "str.join" (Qv K):=by subst h;exact W4
theorem a2x:K6 X (.type "int") (λxs H Q=>Ev2 λz n=>xs=[.str z]/\PySem.intText? z=some n/\z.length<=640/\Q (.int n) H):=by
 intro pins s σ H vs us Q I r h;obtain⟨z,n,rfl,hn,hl,q⟩:=h;obtain⟨u,rfl,ru⟩:=r.one;obtain⟨t,rfl⟩:=ru;exact W.KIN.call_text hn hl ⟨.int n,H,I.tok _,⟨_,rfl⟩,q⟩
def UK(z:dZ):It:=⟨λi _=>i<z.cps.size,λi H x H'=>H'=H/\∃c,z.cps[i]?=some c/\x=.str ⟨#[c]⟩,λi _=>z.cps.size<=i⟩
theorem b1m{P:aM}{w:aL}{K:aF}{tg:aR}(z:dZ)(t:Tok)(it:aA):JF P w K tg (UK z) [it] it (λi h=>h.IsStrIter it "str_ascii_iterator" z t i\/h.IsStrIter it "str_iterator" z t i) where
 mem:=by simp
 obj:=λi h st b hb=>by
  have e:b=it:=by simp_all
  subst e;rcases st with st|st
  ·obtain⟨o,e,c,d⟩:=st
   exact⟨o,e,λv z=>by rw[d] at z;cases z⟩
  ·obtain⟨o,e,c,d⟩:=st
   exact⟨o,e,λv z=>by rw[d] at z;cases z⟩
 keep:=λi h h' st k=>by
  rcases st with⟨o,e,r⟩|⟨o,e,r⟩
  ·exact .inl ⟨o,k it (by simp) o e,r⟩
  ·exact .inr ⟨o,k it (by simp) o e,r⟩
 item:=by
  intro X hP hw hK hc i pins s σ H E I hf st hg;subst hP hw hK;have qo:i<z.cps.size:=hg;obtain⟨f0,f1,f2,f3,f4,f5⟩:=hf it (by simp);have hx:z.cps[i]?=some z.cps[i]:=by simp[qo]
  rcases st with st|st
  ·refine wpAny_pyNext_ascii_item st hx λh' x_ sb=>?_
   obtain⟨o,e,c,d⟩:=id x_;exact⟨_,rfl,MX e c d (by decide) ⟨.str ⟨#[z.cps[i]]⟩,H,(I.turned (t':=s.toks+1) (λb o hb e=>(sb.2 b hb).trans e) f0 f1 f3 f4 f5),⟨_,rfl⟩,⟨rfl,_,hx,rfl⟩,.inl x_,λb hb=>(hf b hb).1⟩⟩
  ·refine wpAny_pyNext_wide_item st hx λh' x_ sb=>?_
   obtain⟨o,e,c,d⟩:=id x_;exact⟨_,rfl,MX e c d (by decide) ⟨.str ⟨#[z.cps[i]]⟩,H,(I.turned (t':=s.toks+1) (λb o hb e=>(sb.2 b hb).trans e) f0 f1 f3 f4 f5),⟨_,rfl⟩,⟨rfl,_,hx,rfl⟩,.inr x_,λb hb=>(hf b hb).1⟩⟩
 done:=by
  intro X hP hw hK hc i pins s σ H E I hf st hg;subst hP hw hK;have qo:z.cps.size<=i:=hg;obtain⟨f0,f1,f2,f3,f4,f5⟩:=hf it (by simp);have hx:z.cps[i]?=none:=by simp[qo]
  rcases st with st|st
  ·exact wpAny_pyNext_ascii_end (I.ok.hd hc) st hx λh' eb=>⟨rfl,I.turned (λb o hb e=>eb b o hb e) f0 f1 f3 f4 f5⟩
  ·exact wpAny_pyNext_wide_end (I.ok.hd hc) st hx λh' eb=>⟨rfl,I.turned (λb o hb e=>eb b o hb e) f0 f1 f3 f4 f5⟩
 self:=λ_ _ _ _ _ st h=>st.elim (λst=>wpAny_pyIter_striter_ascii st h) λst=>wpAny_pyIter_striter_wide st h
def c1r(tl:TE):TI:=λσ H R=>tl σ H λx H1=>∃z,x=.str z/\R (UK z) H1
theorem b3d(hl:PE X l tl):PI X tg l (c1r tl):=by
 intro pins s σ H R I h;refine D7 (hl pins s σ H _ I h) λv s1 ⟨x,H1,I1,r1,q1⟩=>?_;obtain⟨z,e,q⟩:=q1;subst e;obtain⟨t,rfl⟩:=r1;have fin:∀(o:Obj),(s1.heap.push o).IsStrIter s1.heap.objs.size "str_ascii_iterator" z t 0\/(s1.heap.push o).IsStrIter s1.heap.objs.size "str_iterator" z t 0->PR X pins σ tg R (.ref s1.heap.objs.size) {s1 with heap:=s1.heap.push o}:=λo st =>
  ⟨s1.heap.objs.size,[s1.heap.objs.size],_,_,H1,rfl,I1.kept λb o e=>bL _ e,b1m z t _,st,λb hb=>by
   have e:b=s1.heap.objs.size:=by simp_all
   subst e;exact I1.xy (aT _) (I1.ck.fresh (aT _)),q⟩
 cases ha:z.cps.all (·<128)
 ·exact wpAny_pyIter_wide ha (fin _ (.inr ⟨_,dG _ rfl,rfl,rfl⟩))
 ·exact wpAny_pyIter_ascii ha (fin _ (.inl ⟨_,dG _ rfl,rfl,rfl⟩))
def R6(z:dZ):List V:=z.cps.toList.map λc=>V.str ⟨#[c]⟩
theorem a7c:IL (UK z) H1 (R6 z):=by
 have l:(R6 z).length=z.cps.size:=by unfold R6;rw[aH,lO]
 refine⟨λi H _ hi=>by rw[l] at hi;exact hi,λi H x H' _ hi y=>⟨y.1,?_⟩,λH _=>by rw[l];exact aT _⟩;obtain⟨c,hc,rfl⟩:=y.2;unfold R6;rw[aP,qW,hc];rfl
abbrev UM:=St->Hp->(dZ->Hp->Prop)->Prop
def LI(X:Cx)(es:List aR)(t:UM):Prop :=
 ∀pins s(σ:St)H out Q,Inv X pins σ H s->out.length+2000*es.length<=100000->t σ H Q →
  wpAny (model X.prog X.w) X.A (joinParts out (evalEach es X.env)) (λu s'=>Ev3 λz tk H'=>u=jB (out++z) tk/\Inv X pins σ H' s'/\Q z H') X.xe s
def b0Q x:x++eI=x:=rfl
theorem b0L x:eI++x=x:=by
 cases x with|mk c=>show oN (#[]++c)=_;simp
theorem a5k(x y z:dZ):(x++y)++z=x++(y++z):=by
 cases x with|mk a=>cases y with|mk b=>cases z with|mk c =>
 show oN ((a++b)++c)=oN (a++(b++c))
 rw[sM]
def ES(v:V)(y:dZ):Prop:=(∃i,v=.int i/\i.natAbs.log2<1920/\y=cN (toString i))\/(v=.str y/\y.length<=2000)
theorem a9z:LI X [] λ_ H Q=>Q eI H:=by
 intro pins s σ H out Q I hl h;exact vL (rJ ⟨Str.empty,_,H,by rw[b0Q],I.tok _,h⟩ (by rw[bE];simp at hl;lia))
theorem b0f(h:LI X es t)(ha:a.length<=1000:=by decide):LI X (.Constant (.str a) j p1::es) λσ H Q=>t σ H λz H'=>Q (a++z) H':=by
 intro pins s σ H out Q I hl ht;refine oM (kP (D7 (l9 pins s σ H (λv H'=>v=.str a/\H'=H) I ⟨rfl,rfl⟩) λu s1 ⟨v,H1,I1,r,hv,hH⟩=>?_));subst hv;subst hH;obtain⟨tk,rfl⟩:=r;simp only[eM] at hl;have e0:(out++a).length=out.length+a.length:=kQ ..;refine⟨by rw[e0,bE];lia,D7 (h pins s1 σ H1 (out++a) _ I1 (by lia) ht) λu s' ⟨z,tk,H',e1,I',q⟩=>⟨a++z,tk,H',by rw[e1,a5k],I',q⟩⟩
theorem Qw(he:PE X e te)(h:LI X es t):LI X (.FormattedValue e (-1) none p2::es) λσ H Q=>te σ H λv H1=>∃y,ES v y/\t σ H1 λz H'=>Q (y++z) H':=by
 intro pins s σ H out Q I hl ht;refine oM (kP (oG (D7 (he pins s σ H _ I ht) λu s2 ⟨v,H2,I2,r,y,hp,q⟩=>?_)));simp only[eM] at hl;have fin:∀(tk:Nat) ,y.length<=2000->(out++y).length<=sizeLine/\wpAny (model X.prog X.w) X.A (joinParts (out++y) (evalEach es X.env)) (λu s'=>Ev3 λz tk H'=>u=jB (out++z) tk/\Inv X pins σ H' s'/\Q z H') X.xe {s2 with toks:=tk}:=λtk hy=>by
  have e0:(out++y).length=out.length+y.length:=kQ ..;refine⟨by rw[e0,bE];lia,D7 (h pins _ σ H2 (out++y) _ (I2.tok _) (by lia) q) λu s' ⟨z,tk,H',e1,I',q⟩=>⟨y++z,tk,H',by rw[e1,a5k],I',q⟩⟩
 rcases hp with⟨i,rfl,hi,rfl⟩|⟨rfl,hy⟩
 ·obtain⟨Nw,rfl⟩:=r
  refine oH hi ?_;have h1:=oJ (a:=i) (k:=1920) (by decide) hi;exact fin _ (by rw[oK];lia)
 ·obtain⟨Nw,rfl⟩:=r
  exact vO (λt' tk=>fin tk hy) (by rw[bE];lia)
def tFe(t:UM):TE:=λσ H Q=>t σ H λz H1=>Q (.str z) H1
theorem a6X(h:LI X (v1::v2::es) t)(hl:es.length<=20:=by decide):PE X (.JoinedStr (v1::v2::es) p3) (tFe t):=by
 intro pins s σ H Q I ht;refine rH (D7 (h pins s σ H eI _ I ?_ ht) λu s' ⟨z,tk,H',e1,I',q⟩=>?_)
 ·show 0+2000*(es.length+1+1)<=100000
  lia
 ·subst e1
  exact⟨.str z,H',I',⟨_,by rw[b0L]⟩,q⟩
theorem b3L(he:PE X e te):PE X (.JoinedStr [.FormattedValue e (-1) none p2] p3) (λσ H Q=>te σ H λv H1=>∃y,ES v y/\Q (.str y) H1):=by
 intro pins s σ H Q I ht;refine JoinedStr_one (oG (D7 (he pins s σ H _ I ht) λu s2 ⟨v,H2,I2,r,y,hp,q⟩=>?_));rcases hp with⟨i,rfl,hi,rfl⟩|⟨rfl,hy⟩
 ·obtain⟨Nw,rfl⟩:=r
  exact oH hi ⟨.str _,H2,I2.tok _,⟨_,rfl⟩,q⟩
 ·obtain⟨Nw,rfl⟩:=r
  exact vO (λt' tk=>⟨.str _,H2,I2.tok _,⟨_,rfl⟩,q⟩) (by rw[bE];lia)
end L2
namespace Tx
open PySem PySem.Builtin PySem.Builtin.Str PyProof.Rows
abbrev S:=dZ
abbrev cs(x:S):List Nat:=x.cps.toList
theorem ext(h:cs x=cs y):x=y:=by
 cases x with|mk a=>cases y with|mk b =>
 have:a.toList=b.toList:=h;rw[Array.toList_inj.mp this]
theorem bu x y:cs (x++y)=cs x++cs y:=by
 cases x with|mk a=>cases y with|mk b =>
 show(a++b).toList=a.toList++b.toList
 simp
abbrev ch(c:Nat):S:=⟨#[c]⟩
def vk c:cs (ch c)=[c]:=rfl
def d_ x:x.length=(cs x).length:=(lO).symm
theorem b2M:∀{a b s t:List Nat},c ∉ a->c ∉ b->a++c::s=b++c::t->a=b/\s=t
 |[],[],s,t,_,_,h=>⟨rfl,by simpa using h⟩
 |[],y::b,s,t,_,hb,h=>by
  have:c=y:=by simpa using (kS h).1
  exact absurd (this▸cY) hb
 |x::a,[],s,t,ha,_,h=>by
  have:x=c:=by simpa using (kS h).1
  exact absurd (this▸cY) ha
 |x::a,y::b,s,t,ha,hb,h=>by
  obtain⟨h1,h2⟩:=kS h;obtain⟨e1,e2⟩:=b2M (λz=>ha (bZ _ z)) (λz=>hb (bZ _ z)) h2;exact⟨by rw[h1,e1],e2⟩
theorem a7y:∀{ps qs},ps≠[]->qs≠[]->(∀p∈ps,c ∉ cs p)->(∀p∈qs,c ∉ cs p)->cO (ch c) ps=cO (ch c) qs->ps=qs
 |[],_,h,_,_,_,_=>absurd rfl h
 |_::_,[],_,h,_,_,_=>absurd rfl h
 |[p],[q],_,_,_,_,h=>by rw[show p=q from h]
 |[p],q::q'::r,_,_,hp,_,h=>by
  have e:=congrArg cs h;have e':cs p=cs (q++ch c++cO (ch c) (q'::r)):=e;rw[bu,bu] at e';exact absurd (by rw[e'];simp) (hp p cY)
 |p::p'::r,[q],_,_,_,hq,h=>by
  have e:=congrArg cs h;have e':cs (p++ch c++cO (ch c) (p'::r))=cs q:=e;rw[bu,bu] at e';exact absurd (by rw[<-e'];simp) (hq q cY)
 |p::p'::r,q::q'::r',_,_,hp,hq,h=>by
  have e:cs (p++ch c++cO (ch c) (p'::r))=cs (q++ch c++cO (ch c) (q'::r')):=congrArg cs h;rw[bu,bu,bu,bu,dC,dC] at e;obtain⟨e1,e2⟩:=b2M (hp p cY) (hq q cY) e;rw[ext e1,a7y (by simp) (by simp) (λx hx=>hp x (bZ _ hx)) (λx hx=>hq x (bZ _ hx)) (ext e2)]
theorem R7(mm:ps≠[])(hf:∀p∈ps,c ∉ cs p):aU (cO (ch c) ps) (ch c)=ps:=by
 refine a7y ?_ mm (StrLaws.split_free _ c) hf (mQ _ _);intro z;have:=split_pos (cO (ch c) ps) (ch c);rw[z] at this;exact absurd this (by decide)
theorem r_(x:S)c:aU x (ch c)≠[]:=λz=>by
 have:=split_pos x (ch c);rw[z] at this;exact absurd this (by decide)
theorem a7I:∀{ps:List S}{p},p∈ps->d∈cs p->d∈cs (cO (ch c) ps)
 |[q],p,h,hd=>by rw[cJ.mp h] at hd;exact hd
 |q::q'::r,p,h,hd=>by
  show d∈cs (q++ch c++cO (ch c) (q'::r))
  rw[bu,bu];rcases bH.mp h with rfl|h
  ·exact fW _ (fW _ hd)
  ·exact eL _ (a7I h hd)
def J6(x:S):Prop:=∀c∈cs x,c<128
theorem fj{p:S}(h:J6 x)(hp:p∈Txt.split x (ch c)):J6 p:=λd hd=>h d (by
 have:=a7I (c:=c) hp hd
 rwa[mQ] at this)
theorem dv(hx:J6 x)(hy:J6 y):J6 (x++y):=λc hc=>by
 rw[bu] at hc;exact(bJ.mp hc).elim (hx c) (hy c)
theorem se(hc:c<128):∀{ps:List S},(∀p∈ps,J6 p)->J6 (cO (ch c) ps)
 |[],_=>λd hd=>by cases hd
 |[p],h=>h p cY
 |p::p'::r,h=>by
  refine dv (dv (h p cY) λd hd=>?_) (se hc λq hq=>h q (bZ _ hq));rw[vk,cJ] at hd;lia
def join_eq(sep:S)(ps:List S):vN sep ps=cO sep ps:=StrLaws.glued_eq_join sep ps
def x6(n:Int):S:=cN (toString n)
def Qx(m:Nat):cs (x6 (m:Int))=(jQ 10 m).map rP:=W.KIN.signs_num m
theorem sf(m:Nat):NumText.AllDigits (cs (x6 (m:Int))):=λc hc=>by
 rw[Qx] at hc;obtain⟨x,hx,rfl⟩:=aY.mp hc;exact digit_range (Nat.isDigit_of_mem_toDigits (by decide) (by decide) hx)
theorem b5B(m:Nat):rQ (cs (x6 (m:Int)))=m:=by rw[Qx];exact W.KIN.val_back m
def A5(x:S):Bool:=decide (1<=(cs x).length)&&decide ((cs x).length<=10)&&(cs x).all (λc=>decide (48<=c)&&decide (c<=57))&&(decide ((cs x).head?≠some 48)||decide (cs x=[48]))
def w4(x:S):Option Int:=if A5 x=true then some ((rQ (cs x):Nat):Int) else none
theorem b3w:∀m,1<=m->((jQ 10 m).map rP).head?≠some 48:=λm=>by
 induction m using vP with
 |_ m ih =>
  intro h
  by_cases h1:m<10
  ·rw[Nat.toDigits_of_lt_base h1]
   have:∀d,d<10->1<=d->(vQ d).toNat≠48:=by decide
   exact λz=>this m h1 h (bD z)
  ·have hm:m%10<10:=Nat.mod_lt m (by decide)
   have t:jQ 10 (m/10)++jQ 10 (m%10)=jQ 10 (10*(m/10)+m%10):=Nat.toDigits_append_toDigits (by decide) (by lia) hm;rw[Nat.div_add_mod] at t;rw[<-t,bQ];have i:=ih (m/10) (by lia) (by lia)
   cases e:(jQ 10 (m/10)).map rP with
   |nil =>
    have:=vR (n:=m/10) (b:=10);exact absurd (rR.mp e) this
   |cons a r=>rw[e] at i;exact i
theorem BC{m:Nat}(h:m<10^10):1<=(cs (x6 (m:Int))).length/\(cs (x6 (m:Int))).length<=10:=by
 have h2:=W.KT.len_num (n:=(m:Int)) (by lia) (by lia);refine⟨?_,by rw[<-d_];exact h2⟩;rw[Qx,aH];have:=vR (n:=m) (b:=10)
 cases e:jQ 10 m with
 |nil=>exact absurd e this
 |cons _ _=>simp
theorem b0D{m:Nat}(h:m<10^10):A5 (x6 (m:Int))=true:=by
 obtain⟨l1,l2⟩:=BC h;unfold A5;rw[decide_eq_true l1,decide_eq_true l2];have ha:(cs (x6 (m:Int))).all (λc=>decide (48<=c)&&decide (c<=57))=true:=by
  rw[fE];intro c hc;obtain⟨a,b⟩:=sf m c hc;rw[decide_eq_true a,decide_eq_true b];rfl
 rw[ha]
 by_cases h0:m=0
 ·subst h0;decide
 ·rw[decide_eq_true (show(cs (x6 (m:Int))).head?≠some 48 by rw[Qx];exact b3w m (by lia))];rfl
theorem ET{m:Nat}(h:m<10^10):w4 (x6 (m:Int))=some (m:Int):=by
 unfold w4;rw[if_pos (b0D h),b5B]
theorem num_asc(m:Nat):J6 (x6 (m:Int)):=λc hc=>by have:=sf m c hc;lia
end Tx
namespace L2
open PySem PySem.Spec PyProof.Rows
theorem b5e(q1:iU s.heap j tp i)(q2:gP s.heap tp vs)(q3:vs[i]?=some x)
  (q:∀h',iU h' j tp (i+1)->kH j s.heap h'->Q x {s with heap:=h'}):wpAny (model prog w) A (gH (.ref j)) Q E s:=by
 obtain⟨oj,g1,g2,g3⟩:=id q1;obtain⟨ot,g4,_,nt,g5⟩:=q2;unfold gH;refine aN (oO q1.typeIs oP (oQ oP q1.typeIs vT ?_ (vU _)))
 show wpAny _ _ (field (.ref j) 0 >>= _) _ _ s
 refine aN (gA g1 g3 rfl ?_)
 rw[if_neg λz=>by cases z]
 refine aN (gA g1 g3 rfl (aN (gX g4 g5 ?_)));simp only[cF,q3];refine aN (vV g1 g3 (by simp) (bG ⟨x,rfl,bG (q _ ⟨_,uA _ g1 (Obj.isFreed_of_fields (vW g3 _)),(Obj.cls_mapFields ..).trans g2,?_⟩ (mS ..))⟩));rw[vW g3];simp[rawInt]
theorem b7J(hh:A.handled=none)(q1:iU s.heap j tp i)(q2:gP s.heap tp vs)(q3:vs[i]?=none)
  (q:∀h' e,mU j s.heap h'->(∃o,h'.get? e=some o/\o.cls=.type "StopIteration")->E (.ref e) {s with heap:=h'}):wpAny (model prog w) A (gH (.ref j)) Q E s:=by
 obtain⟨oj,g1,g2,g3⟩:=id q1;obtain⟨ot,g4,_,nt,g5⟩:=q2;unfold gH;refine aN (oO q1.typeIs oP (oQ oP q1.typeIs vT ?_ (vU _)))
 show wpAny _ _ (field (.ref j) 0 >>= _) _ _ s
 refine aN (gA g1 g3 rfl ?_)
 rw[if_neg λz=>by cases z]
 refine aN (gA g1 g3 rfl (aN (gX g4 g5 ?_)));simp only[cF,q3];refine aN (lR (aN (vV g1 g3 (by simp) ?_)))
 show wpAny _ _ (do let e <- newExc (.type "StopIteration") [];_) _ _ _
 refine aN (aN (lQ (aN (wpAny_of_eq rfl (lQ (aN (wpAny_handled ?_)) (by size_fits)))) (by size_fits)));rw[show A.in1.handled=none from hh];exact aN (bG (wpAny_throw (q _ _ (((mS ..).extBut.push _).push _) ⟨_,dG _ rfl,rfl⟩)))
def iU.at'(x:iU h a t i)(e:∀o,h.get? a=some o->h'.get? a=some o):iU h' a t i:=let ⟨o,ho,r⟩:=x;⟨o,e _ ho,r⟩
def gz:Bool->aJ->aA->Array aE->Prop
 |true,h,t,xs=>h.IsList t xs
 |false,h,t,xs=>gP h t xs
def g_:Bool->aJ->aA->aA->Nat->Prop
 |true,h,j,t,k=>h.IsListIter j t k
 |false,h,j,t,k=>iU h j t k
def xt:Bool->aF->Hp->aA->List V->Prop
 |true,K,H,a,xs=>ah K H a xs
 |false,K,H,a,xs=>cq K H a xs
def NH:Bool->String
 |true=>"list_iterator"
 |false=>"tuple_iterator"
theorem g_.at'(x:g_ b h j t k)(e:∀o,h.get? j=some o->h'.get? j=some o):g_ b h' j t k:=by
 cases b
 ·exact iU.at' x e
 ·exact Heap.IsListIter.at x e
def g_.extBut(x:g_ b h j t k)(hs:mU c h h')(n:j≠c):g_ b h' j t k:=x.at' λo e=>hs j o n e
theorem gz.at'(x:gz b h t xs)(e:∀o,h.get? t=some o->h'.get? t=some o):gz b h' t xs:=by
 cases b
 ·obtain⟨o,ho,r⟩:=x;exact⟨o,e o ho,r⟩
 ·obtain⟨o,ho,r⟩:=x;exact⟨o,e o ho,r⟩
def gz.extBut(x:gz b h t xs)(hs:mU c h h')(n:t≠c):gz b h' t xs:=x.at' λo e=>hs t o n e
def gz.push(x:gz b h t xs)o:gz b (h.push o) t xs:=x.at' λ_ e=>bL _ e
theorem gz.lt(x:gz b h t xs):t<h.objs.size:=by
 cases b
 ·obtain⟨o,ho,_⟩:=x;exact bN ho
 ·obtain⟨o,ho,_⟩:=x;exact bN ho
theorem g_.mk(e:h.get? j=some {cls:=.type (NH b),data:=.fields #[.ref t,.int 0 0]}):g_ b h j t 0:=by
 cases b
 ·exact⟨_,e,rfl,rfl⟩
 ·exact⟨_,e,rfl,rfl⟩
theorem g_.obj(x:g_ b h j t k):∃o,h.get? j=some o/\∃vs,o.data=.fields vs:=by
 cases b
 ·obtain⟨o,ho,_,d⟩:=x;exact⟨o,ho,_,d⟩
 ·obtain⟨o,ho,_,d⟩:=x;exact⟨o,ho,_,d⟩
theorem af.CG{K}(e:af H H')(x:xt b K H a ys):xt b K H' a ys:=by
 cases b
 ·exact e.cm x
 ·exact e.seq x
theorem Inv.CG{σ:St}(I:Inv X pins σ H s)(x:xt b X.K H a ys):∃its,Vals ys its/\gz b s.heap a its.toArray/\ys.length<=sizeLine:=by
 cases b
 ·exact I.tuple x
 ·obtain⟨i,r,p,z⟩:=I.list x
  exact⟨i,r,p.isList,z⟩
theorem Inv.BD{σ:St}(I:Inv X pins σ H s)(x:xt b X.K H a ys)(y:xt b X.K H a zs):ys=zs:=by
 cases b
 ·exact I.vh x y
 ·exact I.rh x y
theorem UN(q1:g_ b s.heap j tp i)(q2:gz b s.heap tp vs)(q3:vs[i]?=some x)
  (q:∀h',g_ b h' j tp (i+1)->kH j s.heap h'->Q x {s with heap:=h'}):wpAny (model prog w) A (gH (.ref j)) Q E s:=by
 cases b
 ·exact b5e q1 q2 q3 q
 ·exact wpAny_nextOf_list_item q1 q2 q3 q
theorem a9l(hh:A.handled=none)(q1:g_ b s.heap j tp i)(q2:gz b s.heap tp vs)(q3:vs[i]?=none)
  (q:∀h' e,mU j s.heap h'->(∃o,h'.get? e=some o/\o.cls=.type "StopIteration")->E (.ref e) {s with heap:=h'}):wpAny (model prog w) A (gH (.ref j)) Q E s:=by
 cases b
 ·exact b7J hh q1 q2 q3 q
 ·exact wpAny_nextOf_list_end hh q1 q2 q3 q
theorem b6t(m:gz b s.heap t xs)(h:Q (.ref s.heap.objs.size) {s with heap:=s.heap.push {cls:=.type (NH b),data:=.fields #[.ref t,.int 0 0]}}):wpAny (model prog w) A (pyIter (.ref t)) Q E s:=by
 cases b
 ·exact iter_tuple m h
 ·exact nF m h
theorem b5v{Q:aE->aG->Prop}(D:jO z ti to j1 j2 t1 t2)
  (q0:eV s.heap z ti to .none) (p1:dN s.heap ti (.ref j1) (.ref j2)) (p2:dN s.heap to a b)
  (i1:g_ b1 s.heap j1 t1 k1) (i2:g_ b2 s.heap j2 t2 k2) (l1:gz b1 s.heap t1 xs) (l2:gz b2 s.heap t2 ys) (ex:xs[k1]?=some x) (ey:ys[k2]?=some y)
  (q:∀h',eV h' z ti to (rawInt s.heap.objs.size)->dN h' to x y->g_ b1 h' j1 t1 (k1+1)->g_ b2 h' j2 t2 (k2+1)->dN h' s.heap.objs.size x y →
   (∀c o,c≠z->c≠to->c≠j1->c≠j2->s.heap.get? c=some o->h'.get? c=some o)->Q (.ref s.heap.objs.size) {s with heap:=h'}) :
  wpAny (model prog w) A (iH.«zip.__next__» ⟨[.ref z],[]⟩) (λfin s'=>∃v,fin=.done (.ret v)/\Q v s') E s:=by
 show wpAny _ _ (field (.ref z) 2 >>= _) _ _ _
 refine aN (gA q0 rfl rfl (show wpAny _ _ (field (.ref z) 3 >>= _) _ _ _ from aN (gA q0 rfl rfl (aN (gX p1 rfl ?_)))))
 show wpAny _ _ (do let free <- oR (.ref z);_) _ _ _
 unfold oR;refine aN (aN (gA q0 rfl rfl (bG (aN (lR (aN (gA q0 rfl rfl (aN (kU q0 (by simp) λu1 z1 s1=>(aN (aN (aN (mV (show wpAny _ _ (gH (.ref j1) >>= _) _ _ _ from aN (UN (i1.extBut s1.extBut D.i1z) (l1.extBut s1.extBut D.l1z) ex λu2 j1' s2=>bG ?_)))))))))))))));have to2:=s2.extBut _ _ D.TOi1 (s1.extBut _ _ D.TOz p2);refine aN (gX to2 rfl (aN (rS to2 λu3 to3 s3=>aN (jR (bG ?_)))));refine aN (aN (mV (show wpAny _ _ (gH (.ref j2) >>= _) _ _ _ from aN (UN (((i2.extBut s1.extBut D.i2z).extBut s2.extBut D.i12.symm).extBut s3.extBut D.TOi2.symm)
  (((l2.extBut s1.extBut D.l2z).extBut s2.extBut D.l2i1).extBut s3.extBut D.l2TO) ey λu4 j2' s4=>bG ?_))))
 have to4:=s4.extBut _ _ D.TOi2 to3;refine aN (gX to4 rfl (aN (rS to4 λu5 to5 s5=>aN (jR (bG (bG ?_))))));have NI:dN u5 to x y:=to5;refine aN (gX NI rfl (aN (wpAny_newTuple ?_)));have sz:u5.objs.size=s.heap.objs.size:=by rw[s5.1,s4.1,s3.1,s2.1,s1.1]
 have z5:=s5.extBut _ _ D.TOz.symm (s4.extBut _ _ D.i2z.symm (s3.extBut _ _ D.TOz.symm (s2.extBut _ _ D.i1z.symm z1)));have zl:=bN z5
 show wpAny _ _ (do let r <- vZ (.ref z) (.ref u5.objs.size);_) _ _ _
 unfold vZ;have z6:eV (u5.push {cls:=.type "tuple",data:=.seq #[x,y]}) z ti to .ellipsis:=bL _ z5;refine aN (aN (kU z6 (by simp) λu7 z7 s7=>(kU z7 (by simp) λu8 z8 s8=>?_)));have z8':=z8;have up:∀c o,c≠z->u5.get? c=some o->u8.get? c=some o:=λc o n1 e=>s8.extBut _ _ n1 (s7.extBut _ _ n1 (bL _ e));have nt8:dN u8 u5.objs.size x y:=s8.extBut _ _ (gR zl) (s7.extBut _ _ (gR zl) (dG _ rfl));rw[sz] at z8' nt8;refine bG ⟨_,rfl,?_⟩
 show Q (.ref u5.objs.size) _
 rw[sz];exact q u8 z8' (up _ _ D.TOz NI) (g_.at' (((j1'.extBut s3.extBut D.TOi1.symm).extBut s4.extBut D.i12).extBut s5.extBut D.TOi1.symm) λo e=>up _ o D.i1z e) (g_.at' (j2'.extBut s5.extBut D.TOi2.symm) λo e=>up _ o D.i2z e) nt8 λc o n1 n2 n3 n4 e=>up c o n1 ((λc o n1 n2 n3 n4 e=>s5.extBut _ _ n2 (s4.extBut _ _ n4 (s3.extBut _ _ n2 (s2.extBut _ _ n3 (s1.extBut _ _ n1 e))))) c o n1 n2 n3 n4 e)
theorem b7y(hh:A.handled=none)(D:jO z ti to j1 j2 t1 t2)
  (q0:eV s.heap z ti to .none) (p1:dN s.heap ti (.ref j1) (.ref j2)) (p2:dN s.heap to a b)
  (i1:g_ b1 s.heap j1 t1 k1) (i2:g_ b2 s.heap j2 t2 k2) (l1:gz b1 s.heap t1 xs) (l2:gz b2 s.heap t2 ys) (en:xs[k1]?=none\/ys[k2]?=none)
  (q:∀h' e,(∀c o,c≠z->c≠to->c≠j1->c≠j2->s.heap.get? c=some o->h'.get? c=some o)->(∃o,h'.get? e=some o/\o.cls=.type "StopIteration")->E (.ref e) {s with heap:=h'}) :
  wpAny (model prog w) A (iH.«zip.__next__» ⟨[.ref z],[]⟩) Q E s:=by
 show wpAny _ _ (field (.ref z) 2 >>= _) _ _ _
 refine aN (gA q0 rfl rfl (show wpAny _ _ (field (.ref z) 3 >>= _) _ _ _ from aN (gA q0 rfl rfl (aN (gX p1 rfl ?_)))))
 show wpAny _ _ (do let free <- oR (.ref z);_) _ _ _
 unfold oR;refine aN (aN (gA q0 rfl rfl (bG (aN (lR (aN (gA q0 rfl rfl (aN (kU q0 (by simp) λu1 z1 s1=>?_)))))))));have Qy:=z1;refine aN ?_
 cases ex:xs[k1]? with
 |none =>
  refine aN (aN (mV (show wpAny _ _ (gH (.ref j1) >>= _) _ _ _ from aN (a9l hh (i1.extBut s1.extBut D.i1z) (l1.extBut s1.extBut D.l1z) ex λu2 e s2 ⟨oe,e1,e2⟩=>?_))));have z2:=s2 _ _ D.i1z.symm Qy;have ne:e≠z:=λc=>by subst c;rw[z2] at e1;cases e1;simp at e2
  exact kU z2 (by simp) λu3 _ s3=>q u3 e (λc o n1 _ n3 _ m=>s3.extBut _ _ n1 (s2 _ _ n3 (s1.extBut _ _ n1 m))) ⟨oe,s3.extBut _ _ ne e1,e2⟩
 |some x =>
  have ey:ys[k2]?=none:=by lia
  refine aN (aN (mV (show wpAny _ _ (gH (.ref j1) >>= _) _ _ _ from aN (UN (i1.extBut s1.extBut D.i1z) (l1.extBut s1.extBut D.l1z) ex λu2 j1' s2=>bG ?_))));have to2:=s2.extBut _ _ D.TOi1 (s1.extBut _ _ D.TOz p2);refine aN (gX to2 rfl (aN (rS to2 λu3 to3 s3=>aN (jR (bG ?_)))));refine aN (aN (mV (show wpAny _ _ (gH (.ref j2) >>= _) _ _ _ from aN (a9l hh (((i2.extBut s1.extBut D.i2z).extBut s2.extBut D.i12.symm).extBut s3.extBut D.TOi2.symm)
   (((l2.extBut s1.extBut D.l2z).extBut s2.extBut D.l2i1).extBut s3.extBut D.l2TO) ey λu4 e s4 ⟨oe,e1,e2⟩=>?_))))
  have z4:=s4 _ _ D.i2z.symm (s3.extBut _ _ D.TOz.symm (s2.extBut _ _ D.i1z.symm Qy));have ne:e≠z:=λc=>by subst c;rw[z4] at e1;cases e1;simp at e2
  exact kU z4 (by simp) λu5 _ s5=>q u5 e (λc o n1 n2 n3 n4 m=>s5.extBut _ _ n1 (s4 _ _ n4 (s3.extBut _ _ n2 (s2.extBut _ _ n3 (s1.extBut _ _ n1 m))))) ⟨oe,s5.extBut _ _ ne e1,e2⟩
theorem b4H(D:jO z ti to j1 j2 t1 t2)
  (q0:eV s.heap z ti to .none) (p1:dN s.heap ti (.ref j1) (.ref j2)) (p2:dN s.heap to a b)
  (i1:g_ b1 s.heap j1 t1 k1) (i2:g_ b2 s.heap j2 t2 k2) (l1:gz b1 s.heap t1 xs) (l2:gz b2 s.heap t2 ys) (ex:xs[k1]?=some x) (ey:ys[k2]?=some y)
  (q:∀h',eV h' z ti to (rawInt s.heap.objs.size)->dN h' to x y->g_ b1 h' j1 t1 (k1+1)->g_ b2 h' j2 t2 (k2+1)->dN h' s.heap.objs.size x y →
   (∀c o,c≠z->c≠to->c≠j1->c≠j2->s.heap.get? c=some o->h'.get? c=some o)->Q (some (.ref s.heap.objs.size)) {s with heap:=h'}) :
  wpAny (model prog w) A (pyNext (.ref z)) Q E s:=by
 have ty:s.TypeIs (.ref z) "zip":=⟨_,q0,rfl⟩;unfold pyNext;exact aN (wA (oO ty oS (oQ oS ty wB
  (b5v D q0 p1 p2 i1 i2 l1 l2 ex ey λh' b1 b2 b3 b4 b5 b6=>bG (q h' b1 b2 b3 b4 b5 b6)) (wC _))))
theorem b4O(hh:A.handled=none)(D:jO z ti to j1 j2 t1 t2)
  (q0:eV s.heap z ti to .none) (p1:dN s.heap ti (.ref j1) (.ref j2)) (p2:dN s.heap to a b)
  (i1:g_ b1 s.heap j1 t1 k1) (i2:g_ b2 s.heap j2 t2 k2) (l1:gz b1 s.heap t1 xs) (l2:gz b2 s.heap t2 ys) (en:xs[k1]?=none\/ys[k2]?=none)
  (q:∀h',(∀c o,c≠z->c≠to->c≠j1->c≠j2->s.heap.get? c=some o->h'.get? c=some o)->Q none {s with heap:=h'}):wpAny (model prog w) A (pyNext (.ref z)) Q E s:=by
 have ty:s.TypeIs (.ref z) "zip":=⟨_,q0,rfl⟩;unfold pyNext;refine aN (wA (oO ty oS (oQ oS ty wB
  (b7y hh D q0 p1 p2 i1 i2 l1 l2 en λh' e kp ⟨o,e1,e2⟩=>aN (wpAny_isInstance ⟨o,e1,e2⟩ isSubtype_stop (bG (q _ kp)))) (wC _))))
abbrev Qz(b1:Bool)(h:aJ)(t1:aA):aJ:=h.push {cls:=.type (NH b1),data:=.fields #[.ref t1,.int 0 0]}
abbrev QA(b1 b2:Bool)(h:aJ)(t1 t2:aA):aJ:=(Qz b1 h t1).push {cls:=.type (NH b2),data:=.fields #[.ref t2,.int 0 0]}
abbrev QB(b1 b2:Bool)(h:aJ)(t1 t2:aA):aJ:=(QA b1 b2 h t1 t2).push {cls:=.type "tuple",data:=.seq #[.ref h.objs.size,.ref (Qz b1 h t1).objs.size]}
abbrev QC(b1 b2:Bool)(h:aJ)(t1 t2:aA):aJ:=(QB b1 b2 h t1 t2).push {cls:=.type "tuple",data:=.seq #[.none,.none]}
abbrev LJ(b1 b2:Bool)(h:aJ)(t1 t2:aA):aJ:=(QC b1 b2 h t1 t2).push {cls:=.type "zip",data:=.fields #[.none,.bool false,.bool false,.ref (QA b1 b2 h t1 t2).objs.size,.ref (QB b1 b2 h t1 t2).objs.size]}
theorem b7Z b1 b2 t1 t2 xs ys :
  Meets (iH.«zip.__new__» ⟨[.type "zip",.ref t1,.ref t2],[]⟩) (λ_ R s=>gz b1 s.heap t1 xs/\gz b2 s.heap t2 ys/\R (.ok (.ret (.ref (QC b1 b2 s.heap t1 t2).objs.size))) {s with heap:=LJ b1 b2 s.heap t1 t2}) :=
 .of_wp λprog w A R s h=>by
  obtain⟨hp,g,d,tk,os⟩:=s;obtain⟨e1,e2,h⟩:=h;have NB:=sub_zip;have m2:gz b2 (wD ⟨hp.push {cls:=.type (NH b1),data:=.fields #[.ref t1,.int 0 0]},g,d,tk,os⟩) t2 ys:=gz.push e2 _
  wp_walk using b6t e1,b6t m2
  exact⟨_,rfl,h⟩
theorem b5o{s:aG}(l1:gz b1 s.heap t1 xs)(l2:gz b2 s.heap t2 ys)
  (q:∀h',eV h' (s.heap.objs.size+4) (s.heap.objs.size+2) (s.heap.objs.size+3) .none->dN h' (s.heap.objs.size+2) (.ref s.heap.objs.size) (.ref (s.heap.objs.size+1))->dN h' (s.heap.objs.size+3) .none .none →
   g_ b1 h' s.heap.objs.size t1 0->g_ b2 h' (s.heap.objs.size+1) t2 0->(∀c o,s.heap.get? c=some o->h'.get? c=some o)->Q (.ref (s.heap.objs.size+4)) {s with heap:=h'}) :
  wpAny (model prog w) A (call (.type "zip") [.ref t1,.ref t2]) Q E s:=by
 refine callType_new F.called_zip (by decide) (F.typeCall_zip_2 _ _) (F.newCall_zip_2 _ _) (λob=>F.args_object_init_3 ob _ _) F.entry_zip_new (b7Z b1 b2 t1 t2 xs ys) ⟨l1,l2,?_⟩;have n1:(Qz b1 s.heap t1).objs.size=s.heap.objs.size+1:=gS ..;have n2:(QA b1 b2 s.heap t1 t2).objs.size=s.heap.objs.size+2:=by simp
 have n3:(QB b1 b2 s.heap t1 t2).objs.size=s.heap.objs.size+3:=by rw[gS,n2]
 have n4:(QC b1 b2 s.heap t1 t2).objs.size=s.heap.objs.size+4:=by rw[gS,n3]
 have p5:(LJ b1 b2 s.heap t1 t2).get? (QC b1 b2 s.heap t1 t2).objs.size=some _:=dG _ rfl;have p4:(LJ b1 b2 s.heap t1 t2).get? (QB b1 b2 s.heap t1 t2).objs.size=some _:=bL _ (dG _ rfl);have p3:(LJ b1 b2 s.heap t1 t2).get? (QA b1 b2 s.heap t1 t2).objs.size=some _:=bL _ (bL _ (dG _ rfl));have p2:(LJ b1 b2 s.heap t1 t2).get? (Qz b1 s.heap t1).objs.size=some _:=bL _ (bL _ (bL _ (dG _ rfl)));rw[n2,n3,n4] at p5;rw[n1,n2] at p3;rw[n3] at p4;rw[n1] at p2
 rw[n4];exact⟨⟨_,p5,rfl⟩,q _ p5 p3 p4 (g_.mk (bL _ (bL _ (bL _ (bL _ (dG _ rfl)))))) (g_.mk p2) λc o m=>(bL _ (bL _ (bL _ (bL _ (bL _ m)))))⟩
def QD(b1 b2:Bool)(K:aF)(l1 l2:aA):It :=
  ⟨λi H=>Ev4 λxs ys x y=>xt b1 K H l1 xs/\xt b2 K H l2 ys/\xs[i]?=some x/\ys[i]?=some y,
   λi H x H'=>Ev3 λp a b=>H p=none/\x=.ref p/\H'=upd H p (.tup [a,b])/\∀xs ys,xt b1 K H l1 xs->xt b2 K H l2 ys->xs[i]?=some a/\ys[i]?=some b,
   λi H=>Ev2 λxs ys=>xt b1 K H l1 xs/\xt b2 K H l2 ys/\(xs.length<=i\/ys.length<=i)⟩
theorem b5p{b1 b2:Bool}{P:aM}{w:aL}{K:aF}{elts:List aR}{x1:Nat}{pos:Pos}{z ti to j1 j2 l1 l2:aA}(D:jO z ti to j1 j2 l1 l2) :
  JF P w K (.Tuple elts x1 pos) (QD b1 b2 K l1 l2) [z,ti,to,j1,j2] z (λi h=>eV h z ti to .none/\dN h ti (.ref j1) (.ref j2)/\(Ev2 λa b=>dN h to a b)/\g_ b1 h j1 l1 i/\g_ b2 h j2 l2 i) where
 mem:=by simp
 obj:=λi h st b hb=>by
  obtain⟨hz,Hn,⟨a,c,IP⟩,h1,h2⟩:=st;obtain⟨o1,e1,v1,d1⟩:=h1.obj;obtain⟨o2,e2,v2,d2⟩:=h2.obj;simp only[bH,dJ,or_false] at hb;rcases hb with rfl|rfl|rfl|rfl|rfl
  ·exact⟨_,hz,λv q=>by cases q⟩
  ·exact⟨_,Hn,λv q=>by cases q⟩
  ·exact⟨_,IP,λv q=>by cases q⟩
  ·exact⟨o1,e1,λv q=>by rw[d1] at q;cases q⟩
  ·exact⟨o2,e2,λv q=>by rw[d2] at q;cases q⟩
 keep:=λi h h' st k=>by
  obtain⟨hz,Hn,⟨a,c,IP⟩,h1,h2⟩:=st;exact⟨k z (by simp) _ hz,k ti (by simp) _ Hn,⟨a,c,k to (by simp) _ IP⟩,g_.at' h1 λo e=>k j1 (by simp) o e,g_.at' h2 λo e=>k j2 (by simp) o e⟩
 item:=by
  intro X hP hw hK hc i pins s σ H E I hf st hg;subst hP hw hK;obtain⟨xs,ys,x,y,QE,QF,hx,hy⟩:=hg;obtain⟨hz,Hn,⟨a,c,IP⟩,h1,h2⟩:=st;obtain⟨NJ,QG,p1,_⟩:=I.CG QE;obtain⟨Cy,QH,p2,_⟩:=I.CG QF;obtain⟨u1,hu1,UQ⟩:=QG.get hx;obtain⟨u2,hu2,UR⟩:=QH.get hy;refine b4H D hz Hn IP h1 h2 p1 p2 (by simpa using hu1) (by simpa using hu2) λh' a1 a2 a3 a4 a5 a7=>⟨_,rfl,wpAny_letOwnedTupleGo_zip a1 λyg US qe=>?_⟩;have neT:∀b∈[z,ti,to,j1,j2],b≠s.heap.objs.size:=λb hb e=>by
   have:∃o,s.heap.get? b=some o:=by
    obtain⟨o1,e1,_⟩:=h1.obj;obtain⟨o2,e2,_⟩:=h2.obj;simp only[bH,dJ,or_false] at hb;rcases hb with rfl|rfl|rfl|rfl|rfl
    ·exact⟨_,hz⟩
    ·exact⟨_,Hn⟩
    ·exact⟨_,IP⟩
    ·exact⟨_,e1⟩
    ·exact⟨_,e2⟩
   obtain⟨o,ho⟩:=this;exact absurd (bN ho) (e▸dO _)
  have kk:∀b o,b ∉ [z,ti,to,j1,j2]->s.heap.get? b=some o->yg.get? b=some o:=λb o hb e=>by
   simp only[bH,dJ,or_false,not_or] at hb;exact qe.extBut b o hb.1 (a7 b o hb.1 hb.2.2.1 hb.2.2.2.1 hb.2.2.2.2 e)
  have x_:eV yg z ti to .none/\dN yg ti (.ref j1) (.ref j2)/\(Ev2 λa b=>dN yg to a b)/\g_ b1 yg j1 l1 (i+1)/\g_ b2 yg j2 l2 (i+1) :=
   ⟨US,qe.extBut _ _ D.TIz (a7 ti _ D.TIz D.TITO D.TIi1 D.TIi2 Hn),⟨_,_,qe.extBut _ _ D.TOz a2⟩,a3.extBut qe.extBut D.i1z,a4.extBut qe.extBut D.i2z⟩
  have UT:∀b∈[z,ti,to,j1,j2],∃o,yg.get? b=some o:=λb hb=>by
   obtain⟨q1,q2,⟨_,_,q3⟩,q4,q5⟩:=x_;obtain⟨o1,e1,_⟩:=q4.obj;obtain⟨o2,e2,_⟩:=q5.obj;simp only[bH,dJ,or_false] at hb;rcases hb with rfl|rfl|rfl|rfl|rfl
   ·exact⟨_,q1⟩
   ·exact⟨_,q2⟩
   ·exact⟨_,q3⟩
   ·exact⟨_,e1⟩
   ·exact⟨_,e2⟩
  have zs:=neT z (by simp);refine⟨.ref s.heap.objs.size,upd H s.heap.objs.size (.tup [x,y]),I.rz hf kk UT (aT _) (by show 2<=sizeLine;decide) (.cons UQ (.cons UR .nil)) ⟨_,qe.extBut _ _ (bV zs) a5,rfl,0,rfl⟩,rfl,⟨_,x,y,I.fresh,rfl,rfl,λHo ys' q1 q2=>?_⟩,x_,λb hb=>?_⟩
  ·rw[I.BD q1 QE,I.BD q2 QF];exact⟨hx,hy⟩
  ·rw[j3 (neT b hb)];exact(hf b hb).1
 done:=by
  intro X hP hw hK hc i pins s σ H E I hf st hg;subst hP hw hK;obtain⟨xs,ys,QE,QF,NK⟩:=hg;obtain⟨hz,Hn,⟨a,c,IP⟩,h1,h2⟩:=st;obtain⟨NJ,QG,p1,_⟩:=I.CG QE;obtain⟨Cy,QH,p2,_⟩:=I.CG QF;have Aw:=QG.length;have j_:=QH.length;refine b4O (I.ok.hd hc) D hz Hn IP h1 h2 p1 p2 (by
   rcases NK with q|q
   ·exact .inl (by simp;lia)
   ·exact .inr (by simp;lia)) λh' k=>⟨rfl,I.vi hf λb o hb e=>?_⟩
  simp only[bH,dJ,or_false,not_or] at hb;exact k b o hb.1 hb.2.2.1 hb.2.2.2.1 hb.2.2.2.2 e
 self:=λ_ _ _ _ _ st h=>wE st.1 h
def iZg(b1 b2:Bool)(K:aF)(ta:TA):TI:=λσ H R=>ta σ H λvs H1=>Ev2 λl1 l2=>vs=[.ref l1,.ref l2]/\(∃xs,xt b1 K H1 l1 xs)/\(∃ys,xt b2 K H1 l2 ys)/\R (QD b1 b2 K l1 l2) H1
theorem QI b1 b2 K{p pos pos'}{elts}{x1}(hK:X.K=K)(hg:Gl X "zip")(hm:X.mg "zip"=none)(ha:PA X [a,b] ta)(hs:starEach [a,b] X.env=[(false,eval a X.env),(false,eval b X.env)]:=by rfl)(II:starEach [b] X.env=[(false,eval b X.env)]:=by rfl) :
  PI X (.Tuple elts x1 pos') (.Call (.Name "zip" p) [a,b] [] pos) (iZg b1 b2 K ta):=by
 subst hK;intro pins s σ H R I h;refine Call_ (JD I hg hm boot_zip (nJ (D7 (ha pos pins s σ H _ I h) λus s1 ⟨vs,H1,I1,r1,q1⟩=>?_) (by rw[hs,II]) (by rw[II];rfl)));obtain⟨l1,l2,e,⟨xs,q1⟩,⟨ys,q2⟩,q⟩:=q1;subst e;obtain⟨u1,u2,rfl,UQ,UR⟩:=Lw r1
 cases UQ
 cases UR;obtain⟨NJ,QG,p1,_⟩:=I1.CG q1;obtain⟨Cy,QH,p2,_⟩:=I1.CG q2;refine b5o p1 p2 λh' z1 z2 z3 z4 z5 k=>(wE z1 ⟨s1.heap.objs.size+4,[s1.heap.objs.size+4,s1.heap.objs.size+2,s1.heap.objs.size+3,s1.heap.objs.size,s1.heap.objs.size+1],_,_,H1,rfl,I1.kept (t':=s1.toks) k,b5p (b7W _ _ _ p1.lt p2.lt),⟨z1,z2,⟨_,_,z3⟩,z4,z5⟩,λb hb=>?_,q⟩);have ou:s1.heap.objs.size<=b:=by
  simp only[bH,dJ,or_false] at hb;rcases hb with rfl|rfl|rfl|rfl|rfl
  ·exact kW _ _
  ·exact kW _ _
  ·exact kW _ _
  ·exact aT _
  ·exact kW _ _
 exact I1.xy ou (I1.ck.fresh ou)
theorem QJ{K}(h1:xt b1 K H1 l1 xs)(h2:xt b2 K H1 l2 ys)(hp:H1 p=none)(hz:xs.length<sizeLine)(R:Nat->V->Hp->Prop)(hR:∀i y H H',R i y H->(∀b o,b≠p->H b=some o->H' b=some o)->R i y H')
  (step:∀i x y H zs N,xs[i]?=some x->ys[i]?=some y->af H1 H->H p=some (.lst zs)->(∀v H3,af H H3->R i v H3->N v H3)->te (((c_ 2 fr σ).set 0 (some x)).set 1 (some y)) H N)
  (hd:∀zs H,af H1 H->H p=some (.lst zs)->zs.length=min xs.length ys.length->(∀i z,zs[i]?=some z->R i z H)->D H):IJ 2 fr (MW K 2 (JE (N7 0) (JE (N7 1) PQ))) te σ (QD b1 b2 K l1 l2) H1 p D:=by
 refine⟨λi m zs H=>m=min xs.length ys.length-i/\i<=min xs.length ys.length/\af H1 H/\H p=some (.lst zs)/\zs.length=i/\∀j y,zs[j]?=some y->R j y H,⟨_,rfl,dM _,af.new hp _,ae,rfl,λj y e=>by simp at e⟩,?_⟩;rintro i m zs H ⟨rfl,hi,e,hH,len,pr⟩
 by_cases fk:i<min xs.length ys.length
 ·have hx:i<xs.length:=by lia
  have hy:i<ys.length:=by lia
  refine .inr ⟨⟨xs,ys,xs[i],ys[i],e.CG h1,e.CG h2,aS hx,aS hy⟩,λu H' y=>?_⟩;obtain⟨q,a,b,hq,rfl,rfl,yh⟩:=y;obtain⟨ha,hb⟩:=yh xs ys (e.CG h1) (e.CG h2);have s1:=af.new hq (.tup [a,b]);refine⟨q,_,rfl,cq.of ae,rfl,_,_,rfl,_,_,rfl,rfl,?_,?_⟩
  ·refine⟨by simp,λk w ek=>?_⟩
   have:¬k<2:=λhk=>by
    unfold c_ at ek;rw[dH (by simpa using hk),gD] at ek
    split at ek<;>cases ek
   rw[dP (by lia),dP (by lia)];exact ek
  ·refine step i a b _ zs _ ha hb (e.trans s1) (s1 _ _ hH) λv H3 s3 r3=>⟨s3 _ _ (s1 _ _ hH),by lia,min xs.length ys.length-(i+1),by lia,rfl,fk,λb' o q'=>?_,ae,by rw[aX,len];rfl,λj y ey=>?_⟩
   ·rw[j3 (i7 q' hp)];exact s3 _ _ (s1 _ _ (e _ _ q'))
   ·have up:∀b o,b≠p->H3 b=some o->upd H3 p (.lst (zs++[v])) b=some o:=λb o hb q=>by rw[j3 hb];exact q
    by_cases hj:j<zs.length
    ·rw[dH hj] at ey
     exact hR j y _ _ (pr j y ey) λb o hb q=>up b o hb (s3 _ _ (s1 _ _ q))
    ·rw[dU (by lia)] at ey
     have om:j-zs.length=0:=by
      cases q:j-zs.length with
      |zero=>rfl
      |succ k=>rw[q] at ey;simp at ey
     rw[om] at ey;have:j=i:=by lia
     subst this;simp at ey;subst ey;exact hR j v _ _ r3 up
 ·have:i=min xs.length ys.length:=by lia
  subst this;exact .inl ⟨⟨xs,ys,e.CG h1,e.CG h2,by lia⟩,hd zs H e hH len pr⟩
theorem b9k{K}(h1:xt b1 K H1 l1 xs)(h2:xt b2 K H1 l2 ys)(hp:H1 p=none)(hz:xs.length<sizeLine)F
  (step:∀(i:Nat)x y H N,xs[i]?=some x->ys[i]?=some y->af H1 H->N (F x y) H->te (((c_ 2 fr σ).set 0 (some x)).set 1 (some y)) H N)
  (hd:∀H,af H1 H->H p=some (.lst (cV F xs ys))->D H):IJ 2 fr (MW K 2 (JE (N7 0) (JE (N7 1) PQ))) te σ (QD b1 b2 K l1 l2) H1 p D:=by
 refine QJ h1 h2 hp hz (λi v _=>∀x y,xs[i]?=some x->ys[i]?=some y->v=F x y) (λ_ _ _ _ r _=>r) (λi x y H zs N hx hy e _ hN=>step i x y H N hx hy e (hN _ _ (af.refl _) λx' y' ex ey=>?_)) λzs H e hH hl hr=>hd H e ?_
 ·rw[hx] at ex;rw[hy] at ey;cases ex;cases ey;rfl
 ·rw[hH]
  congr 2
  refine dR λi=>?_
  by_cases hi:i<min xs.length ys.length
  ·have a1:i<zs.length:=by lia
   have a2:i<xs.length:=by lia
   have a3:i<ys.length:=by lia
   rw[aS a1,aS (jS▸hi),List.getElem_zipWith,hr i _ (aS a1) _ _ (aS a2) (aS a3)]
  ·rw[bW (by lia),bW (by simp_all)]
def NL(K:aF)(l:aA):It :=
  ⟨λi H=>Ev2 λxs x=>ah K H l xs/\xs[i]?=some x,
   λi H x H'=>Ev2 λp a=>H p=none/\x=.ref p/\H'=upd H p (.tup [.int (i:Int),a])/\∀xs,ah K H l xs->xs[i]?=some a,
   λi H=>∃xs,ah K H l xs/\xs.length<=i⟩
theorem b0y{P:aM}{w:aL}{K:aF}{elts:List aR}{x1:Nat}{pos:Pos}{e it l:aA}(mm:e≠it)(hle:l≠e)(hli:l≠it) :
  JF P w K (.Tuple elts x1 pos) (NL K l) [e,it] e (λi h=>(∃old,IsEnum h e it (i:Int) old)/\h.IsListIter it l i) where
 mem:=by simp
 obj:=λi h st b hb=>by
  obtain⟨⟨old,he⟩,o1,e1,c1,d1⟩:=st;simp only[bH,dJ,or_false] at hb;rcases hb with rfl|rfl
  ·exact⟨_,he,λv q=>by cases q⟩
  ·exact⟨o1,e1,λv q=>by rw[d1] at q;cases q⟩
 keep:=λi h h' st k=>by
  obtain⟨⟨old,he⟩,h1⟩:=st;exact⟨⟨old,k e (by simp) _ he⟩,h1.at λo q=>k it (by simp) o q⟩
 item:=by
  intro X hP hw hK hc i pins s σ H E I hf st hg;subst hP hw hK;obtain⟨xs,x,hq,hx⟩:=hg;obtain⟨⟨old,he⟩,h1⟩:=st;obtain⟨its,rv,p,_⟩:=I.list hq;obtain⟨u,hu,ru⟩:=rv.get hx;refine wpAny_pyNext_enum_item he h1 p.isList (by simpa using hu) mm λh' a1 a2 a3 a4 a5=>⟨_,rfl,wpAny_letOwnedTupleGo_enum a1 λyg NM qe=>?_⟩;obtain⟨o1,ei,_⟩:=id h1;have neT:∀b∈[e,it],b≠s.heap.objs.size:=λb hb q=>by
   have:∃o,s.heap.get? b=some o:=by
    simp only[bH,dJ,or_false] at hb;rcases hb with rfl|rfl
    ·exact⟨_,he⟩
    ·exact⟨_,ei⟩
   obtain⟨o,ho⟩:=this;exact absurd (bN ho) (q▸dO _)
  have kk:∀b o,b ∉ [e,it]->s.heap.get? b=some o->yg.get? b=some o:=λb o hb q=>by
   simp only[bH,dJ,or_false,not_or] at hb;exact qe.extBut b o hb.1 (a5 b o hb.1 hb.2 q)
  have NN:=a2.extBut qe.extBut (bV mm);have UT:∀b∈[e,it],∃o,yg.get? b=some o:=λb hb=>by
   obtain⟨o2,e2,_⟩:=NN;simp only[bH,dJ,or_false] at hb;rcases hb with rfl|rfl
   ·exact⟨_,NM⟩
   ·exact⟨_,e2⟩
  have es:=neT e (by simp);refine⟨.ref s.heap.objs.size,upd H s.heap.objs.size (.tup [.int (i:Int),x]),(I.rz hf kk UT (aT _) (by show 2<=sizeLine;decide) (show Vals [.int (i:Int),x] [iM (i:Int) s.toks,u] from .cons ⟨_,rfl⟩ (.cons ru .nil)) ⟨_,qe.extBut _ _ (bV es) a3,rfl,0,rfl⟩).tok _,rfl,⟨_,x,I.fresh,rfl,rfl,λHo q1=>?_⟩,⟨⟨_,NM⟩,NN⟩,λb hb=>?_⟩
  ·rw[I.rh q1 hq];exact hx
  ·rw[j3 (neT b hb)];exact(hf b hb).1
 done:=by
  intro X hP hw hK hc i pins s σ H E I hf st hg;subst hP hw hK;obtain⟨xs,hq,NK⟩:=hg;obtain⟨⟨old,he⟩,h1⟩:=st;obtain⟨its,rv,p,_⟩:=I.list hq;have hl:=rv.length;refine wpAny_pyNext_enum_end (I.ok.hd hc) he h1 p.isList (by simp;lia) λh' k=>⟨rfl,I.vi hf λb o hb q=>?_⟩;simp only[bH,dJ,or_false,not_or] at hb;exact k b o hb.2 q
 self:=λ_ _ _ _ _ st h=>by
  obtain⟨⟨old,he⟩,_⟩:=st;exact wF he h
def b9v(K:aF)(ta:TA):TI:=λσ H R=>ta σ H λvs H1=>∃l,vs=[.ref l]/\(∃xs,ah K H1 l xs)/\R (NL K l) H1
theorem a9v K{p pos pos'}{elts}{x1}(hK:X.K=K)(hg:Gl X "enumerate")(hm:X.mg "enumerate"=none)(ha:PA X [a] ta)(hs:starEach [a] X.env=[(false,eval a X.env)]:=by rfl)(II:starEach ([]:List aR) X.env=[]:=by rfl) :
  PI X (.Tuple elts x1 pos') (.Call (.Name "enumerate" p) [a] [] pos) (b9v K ta):=by
 subst hK;intro pins s σ H R I h;refine Call_ (JD I hg hm boot_enumerate (nJ (D7 (ha pos pins s σ H _ I h) λus s1 ⟨vs,H1,I1,r1,q1⟩=>?_) (by rw[hs,II]) rfl));obtain⟨l,e,⟨xs,q1⟩,q⟩:=q1;subst e;obtain⟨u,rfl,ru⟩:=U1 r1
 cases ru;obtain⟨its,rv,p,_⟩:=I1.list q1;have lt1:l<s1.heap.objs.size:=by obtain⟨_,e,_⟩:=p.isList;exact bN e
 refine call_enumerate_list p.isList λh' z1 z2 z3 k=>(wF z1 ⟨s1.heap.objs.size+1,[s1.heap.objs.size+1,s1.heap.objs.size],_,_,H1,rfl,I1.kept (t':=s1.toks) k,b0y (Nat.succ_ne_self _) (dB (mJ lt1)) (dB lt1),⟨⟨_,z1⟩,z2⟩,λb hb=>?_,q⟩);have ou:s1.heap.objs.size<=b:=by
  simp only[bH,dJ,or_false] at hb;rcases hb with rfl|rfl
  ·exact lW _
  ·exact aT _
 exact I1.xy ou (I1.ck.fresh ou)
section
variable{xs ys:List V}{K:aF}{l1 l2:aA}{fr:List Nat}{te:TE}{σ:St}{H1:Hp}{p:aA}{D:Hp->Prop}
theorem a7e{tb:TS}{D:Ends}(Pv:Nat->St->Hp->Prop)(h0:Pv 0 σ H)(hl:∀i σ H,Pv i σ H->ah K H l1 xs)
  (hs:∀i x σ H q,xs[i]?=some x->Pv i σ H->H q=none->tb {D with nx:=Pv (i+1),ct:=Pv (i+1),bk:=D.nx} ((σ.set i1 (some (.int (i:Int)))).set i2 (some x)) (upd H q (.tup [.int (i:Int),x]))) (hd:∀σ H,Pv xs.length σ H->D.nx σ H) :
  ∃W:Nat->Nat->St->Hp->Prop,(∃m,W 0 m σ H)/\∀i m σ H,W i m σ H →
   ((NL K l1).stop i H/\D.nx σ H)\/((NL K l1).go i H/\∃N,(∀au H',N au H'->∃m',m'<m/\W (i+1) m' au H')/\∀x H',(NL K l1).By i H x H'->MW K 2 (JE (N7 i1) (JE (N7 i2) PQ)) x σ H' λir H2=>tb {D with nx:=N,ct:=N,bk:=D.nx} ir H2):=by
 refine⟨λi m σ H=>m=xs.length-i/\i<=xs.length/\Pv i σ H,⟨_,rfl,dM _,h0⟩,?_⟩;rintro i m σ H ⟨rfl,hi,p⟩;have q1:=hl i σ H p
 by_cases fk:i<xs.length
 ·refine .inr ⟨⟨xs,xs[i],q1,aS fk⟩,Pv (i+1),λau H' p'=>⟨xs.length-(i+1),by lia,rfl,fk,p'⟩,λu H' y=>?_⟩
  obtain⟨q,a,hq,rfl,rfl,yh⟩:=y;exact⟨q,_,rfl,cq.of ae,rfl,_,_,rfl,_,_,rfl,rfl,hs i a σ H q (yh xs q1) p hq⟩
 ·have:i=xs.length:=by lia
  subst this;exact .inl ⟨⟨xs,q1,by lia⟩,hd σ H p⟩
end
end L2
namespace Fr
abbrev Q2:=Int×Int
def gI(a b:Int):Int:=(rT a b:Int)
def low(t b:Int):Q2:=(t/gI t b,b/gI t b)
def UU(f:Q2):Prop:=0<f.2/\rT f.1 f.2=1
def QK a b:0<=gI a b:=vS _
def T9 a b:gI a b∣a:=Int.gcd_dvd_left ..
def G7 a b:gI a b∣b:=Int.gcd_dvd_right ..
theorem QL(hb:0<b):0<gI a b:=by
 have h0:=QK a b
 by_cases z:gI a b=0
 ·have:=G7 a b
  rw[z,Int.zero_dvd] at this;lia
 ·lia
def b9G(hb:0<b):gI a b<=b:=wG hb (G7 a b)
def UW(h1:c∣a)(h2:c∣b):c∣gI a b:=Int.dvd_coe_gcd h1 h2
def UX{b:Int}(ha:0<=a)(hb:0<=b)(h1:a∣b)(h2:b∣a):a=b:=Int.dvd_antisymm ha hb h1 h2
theorem b4a a b:gI b (a%b)=gI a b:=by
 refine UX (QK _ _) (QK _ _) (UW ?_ (T9 _ _)) (UW (G7 _ _) ?_)
 ·have:=Int.dvd_add (wH (c:=a/b) (T9 b (a%b))) (G7 b (a%b));rw[Int.mul_ediv_add_emod] at this;exact this
 ·have:=Int.dvd_sub (T9 a b) (wH (c:=a/b) (G7 a b));rw[Int.emod_def];exact this
theorem b5L a:gI a 0=a.natAbs:=by unfold gI;rw[Int.gcd_zero_right]
theorem a9Q(hb:0<b):0<(low t b).2:=by
 obtain⟨k,hk⟩:=G7 t b
 show 0<b/gI t b
 have e:b/gI t b=k:=by
  have:b/gI t b=(gI t b*k)/gI t b:=by rw[<-hk]
  rw[this,wI _ (by lia)]
 rw[e]
 by_cases z:0<k
 ·exact z
 ·have:=eO (cC (QL (a:=t) hb)) (show 0 <= -k by lia)
  rw[fT] at this;lia
def QM(hb:0<b):t=gI t b*(low t b).1/\b=gI t b*(low t b).2 :=
 ⟨(wJ (T9 t b)).symm,(wJ (G7 t b)).symm⟩
theorem a5v(hb:0<b):(low t b).1*b=t*(low t b).2:=by
 obtain⟨h1,h2⟩:=QM hb;generalize gI t b=g at h1 h2;generalize low t b=f at h1 h2;rw[h1,h2]
 ac_rfl
theorem a4N(hb:0<b):UU (low t b):=by
 refine⟨a9Q hb,?_⟩;obtain⟨h1,h2⟩:=QM hb;have q:gI t b*gI (low t b).1 (low t b).2∣gI t b*1:=by
  rw[jF];refine UW ?_ ?_
  ·have:=wK (gI t b) (T9 (low t b).1 (low t b).2)
   rw[<-h1] at this;exact this
  ·have:=wK (gI t b) (G7 (low t b).1 (low t b).2)
   rw[<-h2] at this;exact this
 have q2:=Int.dvd_of_mul_dvd_mul_left (by lia) q;have q3:=UX (QK _ _) (by decide) q2 (Int.one_dvd _);unfold gI at q3;lia
theorem a3e(h:rT a b=1)(d:b∣a*c):b∣c:=by
 have h':Nat.Coprime b.natAbs a.natAbs:=by
  rw[Nat.coprime_comm];exact h
 have d':b.natAbs∣a.natAbs*c.natAbs:=by rw[<-rV];exact wL.mpr d
 exact wL.mp (h'.dvd_of_dvd_mul_left d')
theorem a6j(hf:UU f)(hg:UU g)(h:f.1*g.2=g.1*f.2):f=g:=by
 have d1:=a3e hf.2 ⟨g.1,by rw[h,bX]⟩;have d2:=a3e hg.2 ⟨f.1,by rw[<-h,bX]⟩;have e2:=UX (cC hf.1) (cC hg.1) d1 d2;have e1:f.1=g.1:=by
  rw[e2] at h;exact rW (by have:=hg.1;lia) h
 exact Prod.ext e1 e2
theorem b1V(hb:0<b)(ou:0<b')(h:t*b'=t'*b):low t b=low t' b':=by
 refine a6j (a4N hb) (a4N ou) ?_;have c1:=a5v (t:=t) hb;have c2:=a5v (t:=t') ou;generalize low t b=x at c1⊢;generalize low t' b'=y at c2⊢;refine rW (a:=b*b') (by have:=gJ hb ou;lia) ?_
 calc x.1*y.2*(b*b')=(x.1*b)*(y.2*b'):=by ac_rfl
  _=(t*b')*(x.2*y.2):=by rw[c1];ac_rfl
  _=(t'*y.2)*(b*x.2):=by rw[h];ac_rfl
  _=(y.1*b')*(b*x.2):=by rw[c2]
  _=y.1*x.2*(b*b'):=by ac_rfl
theorem F6{a m:Int}(ha:0<a)(hm:0<m)(h:m∣a):0<a/m/\m*(a/m)=a:=by
 have e:=wJ h;refine⟨?_,e⟩
 by_cases z:0<a/m
 ·exact z
 ·have:=eO (cC hm) (show 0 <= -(a/m) by lia)
  rw[fT] at this;lia
end Fr
namespace L2
open PySem PySem.Spec PyProof.Rows
abbrev UY(X:Cx)(qual:aC)(scope:cQ)(f:aA)(cd:aE)(C:aA):Env:=W.envX qual scope C f cd (p_ X.env scope.names [])
def QN(X:Cx)(col:aC)(fr:List Nat)(qual:aC)(scope:cQ)(f:aA)(cd:aE)(A':aV)(s₀:aG)(H₀:Hp):Cx :=
  {X with N:=col::fr.map λj=>X.N.getD j "",s₀:=s₀,H₀:=H₀,A:=A'.deeper (UY X qual scope f cd s₀.heap.objs.size),env:=UY X qual scope f cd s₀.heap.objs.size,outer:=X.stack,
           stack:=UY X qual scope f cd s₀.heap.objs.size::X.stack,ex:=[],fn:=λ_=>false,pn:=[],xe:=λ_ _=>False}
section
variable{X:Cx}{pins:List (aA×Obj)}{σ:St}{H:Hp}{s:aG}{fr:List Nat}{scope:cQ}{col:aC}{qual:aC}{f:aA}{cd:aE}{A':aV}
theorem NP(e:(p_ env l []).lookup x=some c):env.cells.lookup x=some c:=Ni (λ_ _ z=>by simp at z) e
theorem Inv.lam{h₁:aJ}{t':Nat}{v:V}{u:aE}(I:Inv X pins σ H s)(hA:A'.frames=some X.stack)(hh:A'.handled=X.A.handled)(hk:scope.kind=.function)(h:BA X.env.scope scope X.N fr=true)
  (kf:∀x∈scope.names,x.2≠.cell) (CI:scope.names.lookup col=some .local) (EL:h₁.Ns s.heap.objs.size λx=>[(col,u)].reverse.lookup x) (gq:∀b o,s.heap.get? b=some o->h₁.get? b=some o) (r:RelV v u) :
  Inv (QN X col fr qual scope f cd A' s H) [] (some v::LB fr σ) H {s with heap:=h₁,toks:=t'} where
 ok:={
  mod:=I.ok.mod
  kind:=hk
  glob:=rfl
  blt:=rfl
  above:=aT _
  inj:=λx y c e1 e2=>I.ok.inj x y c (NP e1) (NP e2)
  has:=λx hx=>by
   rcases hx with e|e
   ·exact absurd rfl (kf _ (O8 e))
   ·exact LA (JO I h x (O8 e)) (O8 e)
  Gs:=λx c hx=>by cases (show false=true from hx)
  hd:=λz=>by
   show A'.handled=none
   rw[hh];exact I.ok.hd z
  frames:=qP hA
  GX:=.inr ⟨rfl,rfl⟩
  GY:=λb hb=>by cases (show b∈([]:List aA) from hb)
  bs:=I.bs
  xw:=bF I.ok.xw I.sz
  um:=λb o _ hb=>by cases (show b∈([]:List aA) from hb)
  uo:=λb hb=>by cases (show b∈([]:List aA) from hb)
  gx:=I.stack
  Cj:=I.qm}
 os:=rfl
 bare:=I.bare
 base:=Un.kept gq
 loc:=by
  refine⟨_,EL,λi x w e1 e2 _=>?_⟩
  cases i with
  |zero =>
   have hx:=bD e1;have hv:=bD (bD e2);subst hx;subst hv;exact⟨u,r,.inl ⟨CI,by simp[iS]⟩⟩
  |succ i =>
   have EM:(fr.map λj=>X.N.getD j "")[i]?=some x:=e1;have JP:(fr.map λj=>(σ[j]?).join)[i]?=some (some w):=e2;rw[aP] at EM JP
   cases q:fr[i]? with
   |none=>rw[q] at EM;cases EM
   |some j =>
    rw[q] at EM JP;obtain⟨EN,wj,JQ⟩:=b6l h j (bK q);have ex:X.N.getD j ""=x:=bD EM;have ev:(σ[j]?).join=some w:=bD JP;have hN:X.N[j]?=some x:=by
     rw[<-ex,bA,aS EN];rfl
    have Uh:σ[j]?=some (some w):=by
     cases r:σ[j]? with
     |none=>rw[r] at ev;cases ev
     |some y=>rw[r] at ev;exact congrArg some ev
    rw[ex] at wj JQ;obtain⟨m,_,hl⟩:=I.loc;obtain⟨u',r',lk⟩:=hl j x w hN Uh (.inr (.inl wj));refine⟨u',r',?_⟩;have kc:uW X.env x=some .cell:=wj;rcases lk with⟨k1,_⟩|⟨_,c,ec,o,mj,hd⟩
    ·rw[kc] at k1;cases k1
    ·obtain⟨c',Jz⟩:=LA ⟨c,ec⟩ (O8 JQ)
     have e3:=NP Jz;rw[ec] at e3
     cases e3;exact .inr ⟨.inr JQ,c,Jz,o,gq _ _ mj,hd⟩
 cell:=λx c e=>by
  obtain⟨v,o,mj,hd⟩:=I.cell x c (NP e);exact⟨v,o,gq _ _ mj,hd⟩
 free:=I.ck.fresh (aT _)
 ee:=λx c e=>I.ee x c (NP e)
 pin:=λp hp=>by cases (show p∈([]:List (aA×Obj)) from hp)
 ck:=I.ck.kept gq
 len:=by simp[LB,QN]
def Quiet(X:Cx)(H:Hp)(s s':aG):Prop:=∀b o,s.heap.get? b=some o->H b=none->b≠X.env.locals->b ∉ X.fs->s'.heap.get? b=some o
theorem b1z(I:Inv X pins σ H s)(hA:A'.frames=some X.stack)(hh:A'.handled=X.A.handled)
  (NQ:A'.depth<recursionLimit) (hk:scope.kind=.function) (h:BA X.env.scope scope X.N fr=true)
  (kf:∀x∈scope.names,x.2≠.cell) (CI:scope.names.lookup col=some .local) (UZ:scope.isCoroutine=false) (JX:scope.isGenerator=false)
  (hf:s.heap.get? f=some (oU "<lambda>" qual params body scope (p_ X.env scope.names []) pm c' BE)) (xo:s.heap.CodeRec (.ref c') qual)
  (hb:∀u,bindArgs (W.kla_fn "<lambda>" qual params body scope (p_ X.env scope.names []) pm (.ref c') BE) ⟨[u],[]⟩=pure [(col,u)])
  (fz:PE (QN X col fr qual scope f (.ref c') A' s H) body t) (r:RelV v u) (ht:t (some v::LB fr σ) H λy H'=>y=k/\H'=H)
  (q:∀y s',RelV k y->Inv X pins σ H s'->Quiet X H s s'->Q y s'):wpAny (model X.prog X.w) A' (call (.ref f) [u]) Q E s:=by
 refine lV (W.kla_callFunE NQ hf rfl UZ JX rfl xo ?_);rw[hb u];refine bG (wpAny_newFunctionEnv kf (λy hy=>?_) (λh₁ EL hsb=>?_) hk)
 ·rw[cJ.mp hy];exact CI
 ·have IQ:=λb o e=>hsb.extBut b o (dB (bN e)) (bL _ e)
  refine⟨I.nolimit.keeps IQ,W.kla_codeExpr (eY (fz [] _ _ _ _ (I.lam (qual:=qual) (f:=f) (cd:=.ref c') (t':=s.toks+[(col,u)].length) hA hh hk h kf CI EL IQ r) ht) (λy s' hy=>?_) λe s' z=>eD z)⟩;obtain⟨w,H',J',G',rfl,rfl⟩:=hy;have J2:=I.Bx J'.os J'.base J'.ck J'.bare λb hb=>by cases hb
  refine q y s' G' J2 λb o e n n1 n2=>(J'.base.keep b o e n (λz=>?_) (by intro z;cases z));rcases bH.mp (I.rg b z) with w|w
  ·exact n1 w
  ·exact n2 w
end
def QO(mg:aC->Option aE)(base:aJ):Prop:=∃bm ob,mg "__builtins__"=some (.ref bm)/\bm≠builtinsNs/\base.get? bm=some ob/\ob.cls=.type "module"/\ob.dict=some builtinsNs/\ob.data=.plain
abbrev LK(c:aA)(qual:aC):HO:=.ext λh=>h.CodeRec (.ref c) qual
def cu(P:aA)(pos:Pos)(qual:aC)(H:Hp):Prop :=
 H P=some (.my #[])\/∃c',H P=some (.my #[rawInt pos.line,rawInt pos.col,.ref c'])/\H c'=some (LK c' qual)
def bj(P:aA)(H H':Hp):Prop:=∀b o,b≠P->H b=some o->H' b=some o
theorem cu.same(T:cu P pos qual H)(h:∀b o,H b=some o->H' b=some o):cu P pos qual H':=by
 rcases T with e|⟨c,e1,e2⟩
 ·exact .inl (h _ _ e)
 ·exact .inr ⟨c,h _ _ e1,h _ _ e2⟩
section
variable{X:Cx}{pins:List (aA×Obj)}{σ:St}{H:Hp}{s:aG}{fr:List Nat}{scope:cQ}{qual:aC}{c P:aA}{params:kO}{body:aR}{pos:Pos}
theorem b1h{K}(e:h.get? c=some o)(r:h.CodeRec (.ref c) qual):dh K w H h c (LK c qual) :=
 ⟨r,⟨o,e⟩,λh1 h2 ⟨c',o',vs,t,z,g,q⟩ k=>by
  have z':=rG z;subst z';exact⟨c,o',vs,t,rfl,k _ g,q⟩⟩
theorem Inv.grown{c':aA}(I:Inv X pins σ H s)(hP:H P=some (.my ps))(hx:mU P s.heap h')(Hq:s.heap.objs.size<=c')(hcr:h'.CodeRec (.ref c') qual)
  (QP:h'.get? P=some {cls:=.none,data:=.fields (ps++more)}):Inv X pins σ (upd (upd H P (.my (ps++more))) c' (LK c' qual)) {s with heap:=h',toks:=t'}:=by
 have hcn:=I.ck.fresh Hq;have atP:upd (upd H P (.my (ps++more))) c' (LK c' qual) P=some (.my (ps++more)):=by rw[j3 (dB (bS (I.ck.lt hP) Hq)),ae]
 have nP:∀b o,H b=some o->(∀qs,o≠.my qs)->upd (upd H P (.my (ps++more))) c' (LK c' qual) b=some o:=λb o e n=>by
  rw[j3 (i7 e hcn),j3 λz=>by subst z;rw[e] at hP;exact n _ (bD hP)];exact e
 have Va:∀b,H b=none->b≠P:=λb n z=>by subst z;rw[hP] at n;cases n
 obtain⟨cc,oc,vs,tt,z,gc,gr⟩:=id hcr;have z':=rG z;subst z';refine I.un ⟨λb o e n _ _=>hx b o (Va b n) e,λb o e n _ _=>⟨o.slots,hx b o (Va b n) e⟩,λb o e n _=>?_,λb o e _=>?_,λb xs e=>nP b _ e λ_=>nofun,λb o u e=>nP b _ e λ_=>nofun,λb qs e=>?_⟩ λb u e=>?_
 ·rw[j3 (dB (bS (bN e) Hq)),j3 (Va b n)];exact n
 ·by_cases hb:b=P
  ·subst hb;exact⟨_,QP⟩
  ·exact⟨o,hx b o hb e⟩
 ·by_cases hb:b=P
  ·subst hb
   rw[e] at hP
   cases hP;exact⟨more,atP⟩
  ·refine⟨#[],?_⟩
   rw[j3 (i7 e hcn),j3 hb,e];simp
 ·by_cases hb:b=c'
  ·subst hb
   rw[ae] at e
   cases e;exact b1h gc hcr
  ·rw[j3 hb] at e
   by_cases IU:b=P
   ·subst IU
    rw[ae] at e
    cases e;exact QP
   ·rw[j3 IU] at e
    refine(I.ck b u e).rf (λd v hd g=>hx d v (λz=>?_) g) (λd g=>nP d _ g λ_=>nofun) λd xs g=>nP d _ g λ_=>nofun;subst z;rcases hd with w|w
    ·exact IU w.symm
    ·rw[hP] at w;cases w
theorem b3C(I:Inv X pins σ H s)(vm:X.env.code=.ref c)(C:oV X.base c P)(B:QO X.mg X.base)(T:cu P pos (X.env.qual++"<lambda>") H)
  (h:BA X.env.scope scope X.N fr=true) (JY:defaultsOf params X.env=([],[]))
  (q:∀f c' BE pm H' s',Inv X ((f,oU "<lambda>" (X.env.qual++"<lambda>") params body scope (p_ X.env scope.names []) pm c' BE)::pins) σ H' s'->cu P pos (X.env.qual++"<lambda>") H'->bj P H H' →
   H' c'=some (LK c' (X.env.qual++"<lambda>"))->(∀b,b<s.heap.objs.size->H b=none->H' b=none)->Q (.ref f) s') :
  wpAny (model X.prog X.w) X.A (eval (.Lambda params body scope pos) X.env) Q E s:=by
 have xr:=M5 (JO I h);have hg:=I.mod.glob.keeps I.bk;obtain⟨bm,ob,b1,b2,b3,b4,b5,b6⟩:=B;have Pg:∀ps,s.heap.get? P=some (oW ps)->mainGlobals≠P:=λps e z=>by
  obtain⟨o,es,ep,e1,hd,_⟩:=hg;rw[z,e] at e1;cases e1;cases hd
 have Pb:∀ps,s.heap.get? P=some (oW ps)->bm≠P:=λps e z=>by
  have e1:=I.bk _ _ b3;rw[z,e] at e1;cases e1;cases b4
 have bg:bm≠mainGlobals:=λz=>by
  obtain⟨o,es,ep,e1,hd,_⟩:=I.mod.glob;rw[z,e1] at b3;cases b3;rw[hd] at b6;cases b6
 refine W.kla_eval JY ?_;rcases T with T|⟨c',T,Tc⟩
 ·have hP:=I.ck P _ T
  refine W.kla_makeFunction xr I.ok.glob hg vm (C.keeps I.bk) hP trivial rfl (Pg _ hP) ⟨bm,ob,b1,b2,bg,Pb _ hP,I.bk _ _ b3,b4,b5,b6⟩ λc' BE h' tk hx Hq fk Vb QP=>?_;have J:=I.grown (t':=tk) T hx Hq Vb QP;have xq:=bF Hq (gQ fk);have J2:=J.kept (h':=h'.push (oU "<lambda>" (X.env.qual++"<lambda>") params body scope (p_ X.env scope.names []) ((X.mg "__name__").getD .none) c' BE)) (t':=tk) λb u e=>bL _ e;refine q _ c' BE ((X.mg "__name__").getD .none) _ _ (J2.ke λp hp=>?_) (.inr ⟨c',?_,ae⟩) (λb o hb e=>?_) ae λb hb e=>?_
  ·rcases bH.mp hp with rfl|hp
   ·refine⟨Heap.get?_push_size _ rfl,J.ck.fresh (aT _),gR (bS I.lt xq),I.Jx xq,λv=>nofun⟩
   ·exact J2.pin p (eL _ hp)
  ·rw[j3 (dB (bS (I.ck.lt T) Hq)),ae];rfl
  ·rw[j3 (i7 e (I.ck.fresh Hq)),j3 hb];exact e
  ·rw[j3 (dB (bS hb Hq)),j3 λz=>by rw[z,T] at e;cases e];exact e
 ·have hP:=I.ck P _ T
  have hf:codeAmong pos (#[rawInt pos.line,rawInt pos.col,cZ c']).toList=some (.ref c'):=by
   exact codeAmong_snoc [] trivial rfl
  refine W.kla_makeFunctionHit xr I.ok.glob hg vm (C.keeps I.bk) hP trivial hf ⟨bm,ob,b1,b2,bg,Pb _ hP,I.bk _ _ b3,b4,b5,b6⟩ λBE h' tk hk xq=>?_;have J:=I.kept (t':=tk) hk;have J2:=J.kept (h':=h'.push (oU "<lambda>" (X.env.qual++"<lambda>") params body scope (p_ X.env scope.names []) ((X.mg "__name__").getD .none) c' BE)) (t':=tk) λb u e=>bL _ e;refine q _ c' BE ((X.mg "__name__").getD .none) _ _ (J2.ke λp hp=>?_) (.inr ⟨c',T,Tc⟩) (λb o hb e=>e) Tc λb hb e=>e;rcases bH.mp hp with rfl|hp
  ·exact⟨Heap.get?_push_size _ rfl,J.ck.fresh (aT _),gR (bS I.lt xq),I.Jx xq,λv=>nofun⟩
  ·exact J2.pin p (eL _ hp)
end
section
variable{X:Cx}{pins:List (aA×Obj)}{σ:St}{H:Hp}{l It S fq:aA}{ns:List Int}{g:Int->Int}{R:jH->aG->Prop}
def Quiet.fp(k:Quiet X H s s')(f:xp X pins H b)(e:s.heap.get? b=some o):s'.heap.get? b=some o:=k b o e f.1 f.2.1 f.2.2.1
def Inv.m_(I:Inv X pins σ H s)(f:xp X pins H b)(k:∀c o,c≠b->s.heap.get? c=some o->h'.get? c=some o):Inv X pins σ H {s with heap:=h',toks:=t'} :=
 I.turned k f.1 f.2.1 f.2.2.2.1 f.2.2.2.2.1 f.2.2.2.2.2
def b7X(ns:List Int)(g:Int->Int)(j:Nat)(cont:List aE):Prop :=
 (cont=[]/\j=0)\/Ev3 λM vb kb=>cont=[vb,kb]/\M∈ns/\RelV (.int M) vb/\RelV (.int (g M)) kb/\∀a∈ns.take j,g M<=g a
abbrev b3O(X:Cx)(pins:List (aA×Obj))(σ:St)(H:Hp)(fq:aA)(ns:List Int)(g:Int->Int):Prop :=
 ∀n∈ns,∀u s Q E,Inv X pins σ H s->RelV (.int n) u →
  (∀y s',RelV (.int (g n)) y->Inv X pins σ H s'->Quiet X H s s'->Q y s')->wpAny (model X.prog X.w) X.A.in1 (call (.ref fq) [u]) Q E s
theorem b5n(hc:X.calm=true)(hl:ah X.K H l (ns.map V.int))(turn:b3O X pins σ H fq ns g)(fI:xp X pins H It)(fS:xp X pins H S)(QQ:It≠S)(hIl:l≠It)
  (hN:ns=[]->∀s',Inv X pins σ H s'->R (.ok (.ret .none)) s') (hR:∀M∈ns,(∀a∈ns,g M<=g a)->∀y s',RelV (.int M) y->Inv X pins σ H s'->R (.ok (.ret y)) s') :
  ∀r j s cont cn,ns.length-j=r->j<=ns.length->Inv X pins σ H s->s.heap.IsListIter It l j->s.heap.get? S=some (seqObj "list" cont.toArray cn)->b7X ns g j cont →
   codeAny (model X.prog X.w) X.A (.builtin "min.loop" ⟨[.ref It,.ref fq,.ref S],[("default",.none)]⟩) R s:=by
 have nm:(toString "min"++toString ".loop":String)="min.loop":=by decide
 have hh:∀{s:aG},Inv X pins σ H s->X.A.in1.handled=none:=λI=>I.ok.hd hc;intro r
 induction r with
 |zero =>
  intro j s cont cn hr hj I hit hS hb;have QR:j=ns.length:=by lia
  obtain⟨its,rv,pl,hz⟩:=I.list hl;have W:=rA (prog:=X.prog) (w:=X.w) (A:=X.A.in1) (hh I) It l hIl its.toArray;have xq:its.toArray.size=ns.length:=by rw[bY,<-rv.length,aH]
  refine rE wM ?_;rw[wN kX _];refine aN (gX hS rfl ?_);rcases hb with⟨rfl,rfl⟩|⟨M,vb,kb,rfl,hM,rM,rK,best⟩
  ·show wpAny _ X.A.in1 (tryCatch (pyNext (.ref It)) _ >>= _) _ _ _
   refine aN (kY (W.done _ _ _ ⟨by rw[xq,<-QR];exact hit,pl.isList⟩ λh' GF i_=>?_));have J:=I.m_ (h':=h') (t':=GF) fI λc o n e=>i_ c o (by simpa using n) e
   show wpAny _ X.A.in1 (rule _ >>= _) _ _ _
   exact aN (lR (bG (hN (List.length_eq_zero_iff.mp QR.symm) _ J)))
  ·show wpAny _ X.A.in1 (tryCatch (pyNext (.ref It)) _ >>= _) _ _ _
   refine aN (kY (W.done _ _ _ ⟨by rw[xq,<-QR];exact hit,pl.isList⟩ λh' GF i_=>?_));have J:=I.m_ (h':=h') (t':=GF) fI λc o n e=>i_ c o (by simpa using n) e;have BG:=i_ S _ (by simpa using QQ.symm) hS;have s1:=mS h' S (gT λ_=>(#[]:Array aE))
   show wpAny _ X.A.in1 (updateSeq S (λ_=>#[]) >>= _) _ _ _
   exact aN (rX BG rfl (aN (jR (bG (hR M hM (λa ha=>best a (by rw[QR,wO];exact ha)) vb _ rM (J.m_ fS λc o n e=>(s1.2 c n).trans e))))))
 |succ r ih =>
  intro j s cont cn hr hj I hit hS hb;have fk:j<ns.length:=by lia
  obtain⟨its,rv,pl,hz⟩:=I.list hl;have xq:its.toArray.size=ns.length:=by rw[bY,<-rv.length,aH]
  refine rE wM ?_;rw[wN kX _];refine aN (gX hS rfl ?_);have go:∀(old:List aE)(kx:aE->Sem (Option aE))(B:Option aE->Sem oF)(Q:oF->aG->Prop)(E:aE->aG->Prop),
    (∀v h' GF,RelV (.int ns[j]) v->Inv X pins σ H {s with heap:=h',toks:=GF}->h'.IsListIter It l (j+1)->h'.get? S=some (seqObj "list" cont.toArray cn)->wpAny (model X.prog X.w) X.A.in1 (B (some v)) Q E {s with heap:=h',toks:=GF}) →
    wpAny (model X.prog X.w) X.A.in1 (tryCatch (pyNext (.ref It)) kx >>= B) Q E s:=by
   intro old kx B Q E hB;refine aN (kY ((rA (prog:=X.prog) (w:=X.w) (A:=X.A.in1) (hh I) It l hIl its.toArray).item j _ _ _ (by rw[xq];exact fk) ⟨hit,pl.isList⟩ λv h' GF hP Vc i_=>?_));have hv:(ns.map V.int)[j]?=some (V.int ns[j]):=by rw[aP,aS fk];rfl
   obtain⟨u,hu,ru⟩:=rv.get hv;have hP':its[j]?=some v:=by simpa using hP
   rw[hu] at hP'
   cases hP';exact hB _ h' GF ru (I.m_ fI λc o n e=>i_ c o (by simpa using n) e) Vc.1 (i_ S _ (by simpa using QQ.symm) hS)
  have hn:ns[j]∈ns:=eF fk;have Vd:∀a∈ns.take (j+1),a∈ns.take j\/a=ns[j]:=λa ha=>by
   rw[vA fk] at ha;rcases bJ.mp ha with z|z
   ·exact .inl z
   ·exact .inr (cJ.mp z)
  rcases hb with⟨rfl,rfl⟩|⟨M,vb,kb,rfl,hM,rM,rK,best⟩
  ·show wpAny _ X.A.in1 (tryCatch (pyNext (.ref It)) _ >>= _) _ _ _
   refine go [] _ _ _ _ λv h' GF NR J JZ BG=>?_
   show wpAny _ X.A.in1 (tryCatch (holding [v] (call (.ref fq) [v])) _ >>= _) _ _ _
   refine aN (kY (iP (turn _ hn v _ _ _ J NR λy s2 ry J2 qu=>?_)));have LL:=qu.fp fS BG;obtain⟨oI,Ve,JA,QS⟩:=JZ;have QT:=qu.fp fI Ve;have s1:=mS s2.heap S (gT λ_=>#[v,y]);obtain⟨c2,Aq⟩:∃c2,(s2.heap.update S (gT λ_=>#[v,y])).get? S=some (seqObj "list" #[v,y] c2):=⟨_,wP LL λ_=>#[v,y]⟩
   show wpAny _ X.A.in1 (updateSeq S (λ_=>#[v,y]) >>= _) _ _ _
   refine aN (rX LL rfl ?_);rw[nm];refine bG ⟨plainId_quiet kX _,ih (0+1) _ [v,y] c2 (by lia) fk (J2.m_ fS λc o n e=>(s1.2 c n).trans e) ⟨oI,(s1.2 It QQ).trans QT,JA,QS⟩ Aq (.inr ⟨ns[0],v,y,rfl,hn,NR,ry,λa ha=>?_⟩)⟩;rcases Vd a ha with z|z
   ·simp at z
   ·rw[z];exact dL _
  ·show wpAny _ X.A.in1 (tryCatch (pyNext (.ref It)) _ >>= _) _ _ _
   refine go [] _ _ _ _ λv h' GF NR J JZ BG=>?_
   show wpAny _ X.A.in1 (tryCatch (holding [v] (call (.ref fq) [v])) _ >>= _) _ _ _
   refine aN (kY (iP (turn _ hn v _ _ _ J NR λy s2 ry J2 qu=>?_)));have LL:=qu.fp fS BG;obtain⟨oI,Ve,JA,QS⟩:=JZ;have QT:=qu.fp fI Ve;obtain⟨t2,rfl⟩:=ry;obtain⟨tb,rfl⟩:=rK
   show wpAny _ X.A.in1 (tryCatch (holding [v,.int (g ns[j]) t2] (richCompare .Lt (.int (g ns[j]) t2) (.int (g M) tb) >>= _)) _ >>= _) _ _ _
   refine aN (kY (iP (aN (vD (prog:=X.prog) (w:=X.w) (A:=X.A.in1) (P:=λi v=>∃t,v=.int ([g ns[j],g M].getD i 0) t) (λi=>[g ns[j],g M].getD i 0) (λi v h=>h) 0 1 _ _ _ _ _ ⟨t2,rfl⟩ ⟨tb,rfl⟩ (aN (iP (gC (aN (jR (bG ?_))))))))));have Hr:(λi j_1=>decide ([g ns[j],g M].getD i 0<[g ns[j],g M].getD j_1 0)) 0 1=decide (g ns[j]<g M):=rfl;rw[Hr]
   by_cases ou:g ns[j]<g M
   ·have s1:=mS s2.heap S (gT λ_=>#[v,.int (g ns[j]) t2])
    obtain⟨c2,Aq⟩:∃c2,(s2.heap.update S (gT λ_=>#[v,.int (g ns[j]) t2])).get? S=some (seqObj "list" #[v,.int (g ns[j]) t2] c2):=⟨_,wP LL λ_=>#[v,.int (g ns[j]) t2]⟩;simp only[ou,decide_true,if_true];refine aN (rX LL rfl (aN (jR ?_)));rw[nm];refine bG ⟨plainId_quiet kX _,ih (j+1) _ [v,.int (g ns[j]) t2] c2 (by lia) fk (J2.m_ fS λc o n e=>(s1.2 c n).trans e) ⟨oI,(s1.2 It QQ).trans QT,JA,QS⟩ Aq (.inr ⟨ns[j],v,_,rfl,hn,NR,⟨t2,rfl⟩,λa ha=>?_⟩)⟩;rcases Vd a ha with z|z
    ·have:=best a z;lia
    ·rw[z];exact dL _
   ·simp only[ou,decide_false,uT,if_false]
    refine aN (jR ?_);rw[nm];refine bG ⟨plainId_quiet kX _,ih (j+1) _ [vb,.int (g M) tb] cn (by lia) fk J2 ⟨oI,QT,JA,QS⟩ LL (.inr ⟨M,vb,_,rfl,hM,rM,⟨tb,rfl⟩,λa ha=>?_⟩)⟩;rcases Vd a ha with z|z
    ·exact best a z
    ·rw[z];lia
theorem b4i(hc:X.calm=true)(I:Inv X pins σ H s)(hl:ah X.K H l (ns.map V.int))(turn:b3O X pins σ H fq ns g)
  (hN:ns=[]->∀s',Inv X pins σ H s'->Q .none s') (hR:∀M∈ns,(∀a∈ns,g M<=g a)->∀y s',RelV (.int M) y->Inv X pins σ H s'->Q y s') :
  wpAny (model X.prog X.w) X.A (call (.builtin "min") [.ref l] [("key",.ref fq),("default",.none)]) Q E s:=by
 have nm:(toString "min"++toString ".loop":String)="min.loop":=by decide
 have ha:argsOk "min" ⟨[.ref l],[("key",.ref fq),("default",.none)]⟩:=by unfold argsOk;rfl
 obtain⟨its,rv,pl,hz⟩:=I.list hl;have fk:l<s.heap.objs.size:=by obtain⟨_,e,_⟩:=pl.isList;exact bN e
 refine kmk_tree F.kind_min F.plain_min F.entry_min ha (aN (wpAny_of_eq (show wQ "min" ["key","default"] 0 ⟨[],[("key",.ref fq),("default",.none)]⟩=pure [some (.ref fq),some .none] from rfl) (aN (bG (aN (nF pl.isList (aN (wpAny_newList ?_ (dM _)))))))));rw[nm];have hS:(s.heap.push {cls:=.type "list_iterator",data:=.fields #[.ref l,.int 0 0]}).objs.size=s.heap.objs.size+1:=size_push' ..;have fS:xp X pins H (s.heap.push {cls:=.type "list_iterator",data:=.fields #[.ref l,.int 0 0]}).objs.size:=I.xy (by simp) (I.ck.fresh (by simp));refine bG ⟨plainId_quiet kX _,b5n hc hl turn (I.xy (aT _) (I.ck.fresh (aT _))) fS (dB (hS▸jJ _)) (dB fk) hN hR _ 0 _ [] 0 rfl (dM _) ((I.kept (h':=s.heap.push {cls:=.type "list_iterator",data:=.fields #[.ref l,.int 0 0]}) (t':=s.toks) λb u e=>bL _ e).kept (h':=(s.heap.push {cls:=.type "list_iterator",data:=.fields #[.ref l,.int 0 0]}).push (seqObj "list" #[] 0)) (t':=s.toks) λb u e=>bL _ e) ⟨_,bL _ (dG _ rfl),rfl,rfl⟩ (dG _ rfl) (.inl ⟨rfl,rfl⟩)⟩
end
theorem ah.fg{K}(T:cu P pos qual H)(e:bj P H H')(h:ah K H a xs):ah K H' a xs:=by
 have ne:∀o,H a=some o->(∀ps,o≠.my ps)->a≠P:=λo q n z=>by
  subst z;rcases T with t|⟨c,t,_⟩
  ·rw[q] at t;exact n _ (bD t)
  ·rw[q] at t;exact n _ (bD t)
 rcases h with(h|⟨o,h⟩)|h
 ·exact .inl (.inl (e _ _ (ne _ h λ_=>nofun) h))
 ·exact .inl (.inr ⟨o,e _ _ (ne _ h λ_=>nofun) h⟩)
 ·exact .inr h
def b5F(K:aF)(P:aA)(CJ:Pos)(qual:aC)(fr:List Nat)(t:TA)(tb:TE):TE:=λσ H Q=>t σ H λvs H1=>Ev3 λ(l:aA)(ns:List Int)(g:Int->Int)=>vs=[.ref l]/\ah K H1 l (ns.map V.int)/\cu P CJ qual H1/\
 ∀H2,bj P H1 H2->cu P CJ qual H2->(∀n∈ns,tb (some (.int n)::LB fr σ) H2 λy H'=>y=.int (g n)/\H'=H2)/\(ns=[]->Q .non H2)/\∀M∈ns,(∀a∈ns,g M<=g a)->Q (.int M) H2
section
variable{X:Cx}{e body:aR}{es:List aR}{t:TA}{tb:TE}{fr:List Nat}{scope:cQ}{col:aC}{c P:aA}{params:kO}{p pos CJ kp1 kp2 cp:Pos}{cj:Nat}
theorem b0V(hc:X.calm=true)(hr:b_ 2 X.A)(hg:Gl X "min")(hm:X.mg "min"=none)(vm:X.env.code=.ref c)(C:oV X.base c P)(B:QO X.mg X.base)(hlc:BA X.env.scope scope X.N fr=true)(hk:scope.kind=.function)
  (kf:∀x∈scope.names,x.2≠.cell) (CI:scope.names.lookup col=some .local) (UZ:scope.isCoroutine=false) (JX:scope.isGenerator=false)
  (hb:∀pm BE c' u,bindArgs (W.kla_fn "<lambda>" (X.env.qual++"<lambda>") params body scope (p_ X.env scope.names []) pm (.ref c') BE) ⟨[u],[]⟩=pure [(col,u)])
  (ha:PA X [e] t) (fz:∀f cd s H,PE (QN X col fr (X.env.qual++"<lambda>") scope f cd X.A.in1 s H) body tb) (JY:defaultsOf params X.env=([],[]):=by rfl)
  (he:backTo pos (starEach [e] X.env)=(false,eval e X.env)::backTo pos (starEach [] X.env):=by rfl) (wb:(backTo pos (starEach [e] X.env)).any (·.1)=false:=by rfl) :
  PE X (.Call (.Name "min" p) [e] [⟨some "key",.Lambda params body scope CJ,kp1⟩,⟨some "default",.Constant .none cj cp,kp2⟩] pos) (b5F X.K P CJ (X.env.qual++"<lambda>") fr t tb):=by
 intro pins s σ H Q I h;refine jK (JD I hg hm rfl (Ak (D7 (ha pos pins s σ H _ I h) λus s1 ⟨vs,H1,I1,r,l,ns,g,ev,hl,T,q⟩=>?_) he wb));subst ev;obtain⟨u,rfl,ru⟩:=U1 r
 cases ru
 show wpAny _ _ (evalAll [(do let v <- eval (.Lambda params body scope CJ) X.env;standAt pos;pure v),(do let v <- eval (.Constant .none cj cp) X.env;standAt pos;pure v)]) _ _ s1
 refine wR (aN (b3C I1 vm C B T hlc JY λf c' BE pm H2 s2 I2 T2 e2 Hc' _=>aN (iQ (bG (wR (aN (sN (aN (iQ (bG (wpAny_evalAll_nil ?_)))))))))));obtain⟨q1,q2,q3⟩:=q H2 e2 T2;have drop:∀{po:aA×Obj}{s'},Inv X (po::pins) σ H2 s'->Inv X pins σ H2 s':=λJ=>J.ke λp hp=>J.pin p (eL _ (bZ _ hp));have zw:X.A.in1.depth<recursionLimit:=by
  have z:X.A.in1.depth+3*1+5<recursionLimit:=hr.in1.dp;lia
 refine b4i hc I2 (hl.fg T e2) (λn hn u s3 Q3 E3 I3 ru k3=>?_) (λen s3 I3=>⟨.non,H2,drop I3,rfl,q2 en⟩) λM hM Ax y s3 ry I3=>⟨.int M,H2,drop I3,ry,q3 M hM Ax⟩;obtain⟨cr,_,_⟩:=I3.ck c' _ Hc';exact b1z I3 I3.ok.frames rfl zw hk hlc kf CI UZ JX (I3.pin _ (eL _ cY)).1 cr (hb pm BE c') (fz f (.ref c') s3 H2) ru (q1 n hn) k3
end
theorem b2o{ER}os fr(hN:X.N.Nodup)(Ek:X.N[i]?=some x)(hx:X.env.scope.names.lookup x=some .local)
  (hc:X.calm=true) (hi:PI X tg iter wi) (hg:∀C fp s₀ H₀,PG (rq X os fr scope C fp s₀ H₀) tg g) (ht:∀C fp s₀ H₀,PT (rq X os fr scope C fp s₀ H₀) c tc) (he:∀C fp s₀ H₀,PE (rq X os fr scope C fp s₀ H₀) elt te)
  (Uu:swapsWith (.ListComp elt [⟨tg,iter,[c],0⟩] scope pos) (some (.Name x pos')) ER.line X.env=pure true:=by rfl)
  (hk:scope.kind=.function:=by rfl) (ck:BA X.env.scope scope X.N fr=true:=by rfl) (hs:∀x,foldedSetIterable iter X.env x=pure x:=by intro _;rfl) :
  PS X (.Assign [.Name x pos'] (.ListComp elt [⟨tg,iter,[c],0⟩] scope pos) ER) (EE (b8W os.length fr wi g tc te) (N7 i)):=by
 intro pins s σ H D I h;unfold EE at h;rw[uZ _ _ _ _ Uu];refine aN (iQ (aN ?_))
 refine aN (eY (oC rfl hs (M5 (JO I ck)) hk (λx hx hl=>by have:=(X0 ck x hx).1;rw[hl] at this;exact this)
  (D7 (hi pins s σ H _ I h) λv s1 h1=>D7 h1 λHc s2 h2=>?_)) (λ_ s' hq=>bG (bG hq)) λ_ _ e=>e)
 refine Qo hc hg (λ_ _ _ _=>a7v (ht _ _ _ _)) he hk ck h2 ?_;intro p C s3 H3 s' H' I3 eC hn I' ⟨m,hm⟩ q
 refine qC (Tp (v:=.ref p) I' hN Ek (.inl hx) rfl (λNb Uv ⟨a,Uw,ha⟩=>?_) (.inr hx));have Ux:C≠a:=by
  rcases ha with e|e
  ·rw[e];exact gR (eC▸I3.lt)
  ·obtain⟨v,z⟩:=I3.cell x a e
   exact gR (eC▸z.lt)
 exact⟨m,hm.sameBut Uw Ux,λh' dt=>⟨_,H',I3.BB Uv hn (by lia) dt,q⟩⟩
theorem Vf K(h:X.K=K)(he:PE X e ta)(hb:attributeBase e f X.env (eval e X.env)=eval e X.env):PE X (.Attribute e f pos) (b9t K ta f):=by subst h;exact y4 he hb
theorem Vg(hJ:IL J H1 xs)(hp:H1 p=none)(hz:xs.length<sizeLine)F
  (step:∀(i:Nat)x H N,xs[i]?=some x->af H1 H->N (F x) H->tc ((c_ 1 fr σ).set 0 (some x)) H N)
  (hd:D (upd H1 p (.lst (xs.filter F)))):LF 1 fr (N7 0) tc (JB 0) σ J H1 p D:=by
 refine⟨λi m ys H=>m=xs.length-i/\i<=xs.length/\ys=(xs.take i).filter F/\H=upd H1 p (.lst ys),⟨xs.length,by simp,dM _,by simp,rfl⟩,?_⟩;rintro i m ys H ⟨rfl,hi,rfl,rfl⟩;have e:=af.new (o:=.lst ((xs.take i).filter F)) hp
 by_cases fk:i<xs.length
 ·refine .inr ⟨hJ.go i _ e fk,λx H' y=>?_⟩
  obtain⟨rfl,hx⟩:=hJ.By i _ x H' e fk y;have tk:(xs.take (i+1)).filter F=(xs.take i).filter F++[x].filter F:=by rw[rC,hx,wS];rfl
  refine⟨Wk.set (by decide),step i x _ _ hx e ?_⟩
  cases hq:F x with
  |false =>
   rw[if_neg cX];refine⟨xs.length-(i+1),by lia,rfl,fk,?_,rfl⟩;rw[tk];simp[hq]
  |true =>
   rw[if_pos rfl];refine⟨x,?_,ae,?_,xs.length-(i+1),by lia,rfl,fk,?_,Ju⟩
   ·show((c_ 1 fr σ).set 0 (some x))[0]?=some (some x)
    rw[eK (by simp[c_])]
   ·have h1:=oX F (xs.take i)
    rw[cI] at h1;lia
   ·rw[tk];simp[hq]
 ·have:i=xs.length:=by lia
  subst this;refine .inl ⟨hJ.stop _ e,?_⟩;rw[fZ (aT _)];exact hd
theorem df.okC{K}{st}(F:df K x qual st f fd)(hc:fd.code=.ref c)(S:p7 N ps (i9 st))(len:∀vs H Q E,sp vs H Q E->vs.length=ps.length)
  (fz:∀A outer s H vs Q E,b_ k (A.deeper (dQ qual (i9 st) s.heap.objs.size f (.ref c)))->sp vs H Q E →
   ∃t,fu (N8 J8 P w K mg base N qual (i9 st) f (.ref c) A outer s H E).oi (x9 st) t/\t {nx:=λ_ H'=>Q .non H',rt:=Q} (V6 N vs) H):bf P w K mg base J8 (k+1) f fd ps sp:=by
 obtain⟨oc,od,kV,doc,pm,an,ay,ct,yc,rfl,lk,xo⟩:=F.ex;have e:=hc;subst e;refine TU lk xo S len λA outer s H vs Q E hr iu=>?_;obtain⟨t,h,q⟩:=fz A outer s H vs Q E hr iu;exact⟨t,h.oi,q⟩
end L2
namespace L2
open PySem
def E8(h:∀G:St->Hp->Prop,G=G0->G σ H):G0 σ H:=h G0 rfl
inductive D9(t u:TS)(D:Ends)(σ:St)(H:Hp):Prop|mk:∀M,t {D with nx:=M} σ H->(∀au H',M au H'->u D au H')->D9 t u D σ H
theorem t8{rest}(h1:PS X st t)(h2:fu X rest u):fu X (st::rest) (D9 t u):=by
 intro pins s σ H D I ⟨M,h,hM⟩;refine qA (D7 (h1 pins s σ H {D with nx:=M} I h) λf s1 q=>?_)
 cases f with
 |next =>
  obtain⟨au,H',I',q⟩:=q;exact h2 pins s1 au H' D I' (hM _ _ q)
 |ret v=>exact q
 |brk=>exact q
 |cont=>exact q
end L2
namespace Rim
open PySem L2
theorem NS xs(k:Nat)(h:k<=xs.length):P5 xs none (some (k:Int))=xs.take k:=by
 unfold P5;rw[HT.rp,HT.gy,oY]
 congr 1
 lia
theorem NT xs(k:Nat)(h:k<=xs.length):P5 xs (some (k:Int)) none=xs.drop k:=by
 unfold P5;rw[HT.rp,HT.gy,jT h];exact fZ (eJ▸aT _)
end Rim
namespace L2
open PySem PySem.Spec PyProof.Rows
theorem b1a:K6 X (.type "range") (λvs H Q=>∃j,vs=[.int j]/\∀p,H p=none->Q (.ref p) (upd H p (.zt 0 j))):=by
 intro pins s σ H vs us Q I r h;obtain⟨j,rfl,q⟩:=h;obtain⟨u,rfl,t,rfl⟩:=U1 r;refine sW ⟨.ref s.heap.objs.size,_,I.laid (o:=.zt 0 j) (λb u e=>bL _ e) (aT _) ⟨_,_,_,dG _ rfl⟩,rfl,q _ (I.ck.fresh (aT _))⟩
theorem b0n:K6 X (.type "range") (λvs H Q=>Ev2 λi j=>vs=[.int i,.int j]/\∀p,H p=none->Q (.ref p) (upd H p (.zt i j))):=by
 intro pins s σ H vs us Q I r h;obtain⟨i,j,rfl,q⟩:=h;obtain⟨u,v,rfl,⟨t,rfl⟩,t',rfl⟩:=Lw r;refine call_range_2 ⟨.ref s.heap.objs.size,_,I.laid (o:=.zt i j) (λb u e=>bL _ e) (aT _) ⟨_,_,_,dG _ rfl⟩,rfl,q _ (I.ck.fresh (aT _))⟩
theorem a4d:∀n acc(F:Nat->Int),acc.length=n->(∀j v,acc[j]?=some v->∃t,v=iM (F j) t)->Vals ((aW n).map λi=>V.int (F i)) acc
 |0,[],_,_,_=>.nil
 |n+1,a::acc,F,hl,h=>by
  rw[wT,cS,bC];exact .cons (h 0 a rfl) (a4d n acc (λi=>F (i+1)) (by simp_all) λj v e=>h (j+1) v (by simp_all))
theorem a1S(hc:X.calm=true):K6 X (.type "list") (λvs H Q=>Ev3 λ(p:aA)(lo:Int)(n:Nat)=>vs=[.ref p]/\H p=some (.zt lo (lo+n))/\-(2^60)<=lo/\lo<2^60/\n<=1000/\∀l,H l=none->Q (.ref l) (upd H l (.lst ((aW n).map λ(i:Nat)=>V.int (lo+(i:Int)))))):=by
 intro pins s σ H vs us Q I r h;obtain⟨p,lo,n,rfl,hp,h1,h2,hn,q⟩:=h;obtain⟨u,rfl,ru⟩:=U1 r
 cases ru;obtain⟨t,u,v,e⟩:=I.ck p _ hp;have xq:sU lo (lo+n) 1=n:=by rw[sV];split<;>lia
 refine call_list_range (I.ok.hd hc) e (small_one (by lia) (by lia) (by lia) (by lia)) xq (by lia) λh' tk J_ c' hk hS NU=>?_;have hv:=a4d n J_.toList (λi=>lo+(i:Int)) (by simpa using NU.1) λj v e=>by
  obtain⟨t,et⟩:=NU.2 j v (by simp_all);exact⟨t,by rw[et,jF]⟩
 have h9:n<=sizeLine:=bF hn (by decide);refine⟨.ref s.heap.objs.size,_,I.laid (o:=.lst ((aW n).map λ(i:Nat)=>V.int (lo+(i:Int)))) hk (aT _) ⟨by simpa using h9,J_.toList,c',hv,by simpa using hS⟩,rfl,q _ (I.ck.fresh (aT _))⟩
end L2
namespace Lp
abbrev J4:=Nat->Int
def tl(v:J4):J4:=λi=>v (i+1)
def wm(a:Int)(u:J4)(b:Int)(v:J4):J4:=λi=>a*u i+b*v i
def U2(D:List J4->Int):List J4->List J4->Int
 |_,[]=>0
 |pre,c::rest=>c 0*D ((pre++rest).map tl)-U2 D (pre++[c]) rest
def G2:Nat->List J4->Int
 |0,_=>1
 |n+1,cols=>U2 (G2 n) [] cols
def Vh(n:Nat)(D:List J4->Int):Prop:=∀a u b v xs ys,xs.length+ys.length+1=n->D (xs++wm a u b v::ys)=a*D (xs++u::ys)+b*D (xs++v::ys)
def b0d a u b v:tl (wm a u b v)=wm a (tl u) b (tl v):=rfl
theorem b8K a b x y p q(c:Int):c*(a*x+b*y)-(a*p+b*q)=a*(c*x-p)+b*(c*y-q):=by lia
theorem a9E(h:Vh n D)(a:Int)(u:J4)(b:Int)(v:J4):∀rest p1 p2,p1.length+p2.length+rest.length=n →
  U2 D (p1++wm a u b v::p2) rest=a*U2 D (p1++u::p2) rest+b*U2 D (p1++v::p2) rest
 |[],p1,p2,_=>by simp[U2]
 |c::rest,p1,p2,hl=>by
  have jl:p1.length+p2.length+(rest.length+1)=n:=hl;have ih:=a9E h a u b v rest p1 (p2++[c]) (by rw[aX,fR];lia);have h0:=h a (tl u) b (tl v) (p1.map tl) ((p2++rest).map tl) (by rw[aH,aH,aX];lia);unfold U2;simp only[dC,fD,bQ,cS,b0d] at h0 ih⊢;rw[h0,ih];exact b8K ..
theorem c0y(a b x y p q D:Int):(a*x+b*y)*D-(a*p+b*q)=a*(x*D-p)+b*(y*D-q):=by lia
theorem a6M(h:Vh n D)(a:Int)(u:J4)(b:Int)(v:J4):∀r1 pre r2,pre.length+r1.length+r2.length=n →
  U2 D pre (r1++wm a u b v::r2)=a*U2 D pre (r1++u::r2)+b*U2 D pre (r1++v::r2)
 |[],pre,r2,hl=>by
  have hp:=a9E h a u b v r2 pre [] (by lia);simp only[gG];unfold U2;rw[hp];exact c0y ..
 |c::r1,pre,r2,hl=>by
  have jl:pre.length+(r1.length+1)+r2.length=n:=hl;have ih:=a6M h a u b v r1 (pre++[c]) r2 (by rw[aX,fR];lia);have h0:=h a (tl u) b (tl v) ((pre++r1).map tl) (r2.map tl) (by rw[aH,aH,aX];lia);unfold U2;simp only[dC,fD,bQ,cS,b0d] at h0 ih⊢;rw[h0,ih];exact b8K ..
theorem Vi:∀n,Vh n (G2 n)
 |0=>λa u b v xs ys h=>by lia
 |n+1=>λa u b v xs ys h=>a6M (Vi n) a u b v xs [] ys (by simp_all)
def Vj(n:Nat)(D:List J4->Int):Prop:=∀u xs ys,xs.length+ys.length+2=n->D (xs++u::u::ys)=0
theorem b0e(h:Vj n D)(u:J4):∀rest p1 p2,p1.length+p2.length+rest.length+1=n->U2 D (p1++u::u::p2) rest=0
 |[],_,_,_=>rfl
 |c::rest,p1,p2,hl=>by
  have jl:p1.length+p2.length+(rest.length+1)+1=n:=hl;have ih:=b0e h u rest p1 (p2++[c]) (by rw[aX,fR];lia);have h0:=h (tl u) (p1.map tl) ((p2++rest).map tl) (by rw[aH,aH,aX];lia);unfold U2;simp only[dC,fD,bQ,cS] at h0 ih⊢;rw[h0,ih];lia
theorem a6I(h:Vj n D)(u:J4):∀r1 pre r2,pre.length+r1.length+r2.length+1=n->U2 D pre (r1++u::u::r2)=0
 |[],pre,r2,hl=>by
  have hp:=b0e h u r2 pre [] (by simp_all);unfold U2;unfold U2;simp only[dC,fD,gG] at hp⊢;rw[hp];lia
 |c::r1,pre,r2,hl=>by
  have jl:pre.length+(r1.length+1)+r2.length+1=n:=hl;have ih:=a6I h u r1 (pre++[c]) r2 (by rw[aX,fR];lia);have h0:=h (tl u) ((pre++r1).map tl) (r2.map tl) (by grind);unfold U2;simp only[dC,fD,bQ,cS] at h0 ih⊢;rw[h0,ih];lia
theorem Vk:∀n,Vj n (G2 n)
 |0=>λu xs ys h=>by lia
 |n+1=>λu xs ys h=>a6I (Vk n) u xs [] ys (by simp_all)
def uu(k:Nat):J4:=λi=>if i=k then 1 else 0
theorem b2k:∀rest pre,(∀c∈rest,c 0=0)->U2 D pre rest=0
 |[],_,_=>rfl
 |c::rest,pre,h=>by
  unfold U2;rw[h c cY,b2k rest (pre++[c]) λx hx=>h x (bZ _ hx)];lia
theorem QU:∀n,G2 n ((aW n).map uu)=1
 |0=>rfl
 |n+1=>by
  show U2 (G2 n) [] ((aW (n+1)).map uu)=1
  rw[wT,cS,bC];unfold U2;rw[b2k _ _ λc hc=>by
   obtain⟨k,_,rfl⟩:=aY.mp hc;rfl]
  have e:([]++(aW n).map (uu∘Nat.succ)).map tl=(aW n).map uu:=by
   rw[gG,bC];refine fM λk _=>?_
   funext i
   show(if i+1=k+1 then (1:Int) else 0)=if i=k then 1 else 0
   by_cases c:i=k
   ·rw[if_pos (by lia),if_pos c]
   ·rw[if_neg (by lia),if_neg c]
  rw[e,QU n];rfl
def ow(M:Nat):Nat->Nat
 |0=>1
 |n+1=>(n+1)*(M*ow M n)
def Fits(M n:Nat)(v:J4):Prop:=∀i,i<n->(v i).natAbs<=M
theorem a9a(hD:∀cols,cols.length=n->(∀c∈cols,Fits M n c)->(D cols).natAbs<=B):∀rest pre,pre.length+rest.length=n+1->(∀c∈pre,Fits M (n+1) c)->(∀c∈rest,Fits M (n+1) c)->(U2 D pre rest).natAbs<=rest.length*(M*B)
 |[],_,_,_,_=>by simp[U2]
 |c::rest,pre,hl,hp,hr=>by
  have jl:pre.length+(rest.length+1)=n+1:=hl;have h1:=a9a hD rest (pre++[c]) (by rw[aX,fR];lia) (λx hx=>(bJ.mp hx).elim (hp x) λz=>by rw[cJ.mp z];exact hr c cY) λx hx=>hr x (bZ _ hx);have h2:=hD ((pre++rest).map tl) (by rw[aH,aX];lia) λx hx=>by
   obtain⟨y,hy,rfl⟩:=aY.mp hx;intro i hi;rcases bJ.mp hy with z|z
   ·exact hp y z (i+1) (by lia)
   ·exact hr y (bZ _ z) (i+1) (by lia)
  have h3:=hr c cY 0 (by lia);unfold U2;rw[eM,mI];have h4:(c 0*D ((pre++rest).map tl)).natAbs<=M*B:=by rw[rV];exact rY h3 h2
  lia
theorem Vl:∀n cols,cols.length=n->(∀c∈cols,Fits M n c)->(G2 n cols).natAbs<=ow M n
 |0,_,_,_=>aT 1
 |n+1,cols,hl,hf=>by
  have:=a9a (Vl n) cols [] (by simp_all) (λc hc=>by cases hc) hf;rw[hl] at this;exact this
theorem a7K{α:Type}{C}{u:α}(h:C[i]?=some u):C=C.take i++u::C.drop (i+1):=by
 obtain⟨hi,rfl⟩:=cA.mp h;rw[<-wU hi,wV]
theorem b2z n u v xs ys(hl:xs.length+ys.length+2=n):G2 n (xs++u::v::ys) =-G2 n (xs++v::u::ys):=by
 have L:=Vi n;have A:=Vk n;have h0:=A (wm 1 u 1 v) xs ys hl;have h1:=L 1 u 1 v xs (wm 1 u 1 v::ys) (by simp only[eM];lia);have h2:=L 1 u 1 v (xs++[u]) ys (by simp only[aX,fR];lia);have h3:=L 1 u 1 v (xs++[v]) ys (by simp only[aX,fR];lia);have h4:=A u xs ys hl;have h5:=A v xs ys hl;simp only[dC,fD,gG] at h2 h3;lia
theorem a9d(n:Nat)(u:J4):∀zs xs ys,xs.length+zs.length+ys.length+2=n->G2 n (xs++u::(zs++u::ys))=0
 |[],xs,ys,hl=>Vk n u xs ys (by simp_all)
 |z::zs,xs,ys,hl=>by
  have jl:xs.length+(zs.length+1)+ys.length+2=n:=hl;rw[fD,b2z n u z xs (zs++u::ys) (by grind)];have:=a9d n u zs (xs++[z]) ys (by rw[aX,fR];lia);simp only[dC,fD,gG] at this;lia
theorem a9y{k:Nat}(hl:C.length=n)(BH:i<k)(h1:C[i]?=some u)(h2:C[k]?=some u):G2 n C=0:=by
 have hk:k<C.length:=(cA.mp h2).1;have h3:(C.drop (i+1))[k-(i+1)]?=some u:=by rw[wW,show i+1+(k-(i+1))=k by lia];exact h2
 rw[a7K h1,a7K h3];refine a9d n u _ _ _ ?_;simp only[cI,eJ];lia
theorem NV{k:Nat}(hl:C.length=n)(BH:i≠k)(h1:C[i]?=some u)(h2:C[k]?=some u):G2 n C=0:=by
 rcases Nat.lt_or_gt_of_ne BH with h|h
 ·exact a9y hl h h1 h2
 ·exact a9y hl h h2 h1
theorem Vm{α:Type}{C:List α}(h:k<C.length)u:C.set k u=C.take k++u::C.drop (k+1):=by
 rw[List.set_eq_take_append_cons_drop,if_pos h]
theorem Ka{C:List J4}(hl:C.length=n)(hk:k<n)a u b v:G2 n (C.set k (wm a u b v))=a*G2 n (C.set k u)+b*G2 n (C.set k v):=by
 have i_:k<C.length:=by lia
 rw[Vm i_,Vm i_,Vm i_];refine Vi n a u b v _ _ ?_;simp only[cI,eJ];lia
theorem Vn{C:List J4}(hl:C.length=n)(hi:i<n)(hk:k<n)(BH:i≠k)u:G2 n ((C.set i u).set k u)=0:=by
 refine NV (u:=u) (by simp_all) BH ?_ ?_
 ·rw[dP (bV BH),eK (by lia)]
 ·rw[eK (by simp_all)]
theorem a6Q{C:List J4}(hl:C.length=n)(hi:i<n)(hk:k<n)(BH:i≠k)u v:G2 n ((C.set i u).set k v) =-G2 n ((C.set i v).set k u):=by
 have h0:=Vn hl hi hk BH (wm 1 u 1 v);have h1:=Ka (C:=C.set i (wm 1 u 1 v)) (by simp_all) hk 1 u 1 v;have h2:=Ka (C:=C.set k u) (by simp_all) hi 1 u 1 v;have h3:=Ka (C:=C.set k v) (by simp_all) hi 1 u 1 v;have h4:=Vn hl hi hk BH u;have h5:=Vn hl hi hk BH v;rw[kJ _ _ (bV BH),kJ _ _ (bV BH),kJ _ _ (bV BH)] at h2 h3;lia
def sumTo(g:Nat->Int):Nat->Int
 |0=>0
 |n+1=>sumTo g n+g n
theorem aj:∀{n},(∀k,k<n->g k=h k)->sumTo g n=sumTo h n
 |0,_=>rfl
 |n+1,e=>by
  show sumTo g n+g n=sumTo h n+h n
  rw[aj λk hk=>e k (by lia),e n (by lia)]
theorem dm(h:∀k,k<n->g k=0):sumTo g n=0:=by
 induction n with
 |zero=>rfl
 |succ n ih =>
  show sumTo g n+g n=0
  rw[ih λk hk=>h k (by lia),h n (by lia)];rfl
theorem cz(hr:r<n)(h:∀k,k<n->k≠r->g k=0):sumTo g n=g r:=by
 induction n with
 |zero=>lia
 |succ n ih =>
  show sumTo g n+g n=g r
  by_cases c:r=n
  ·subst c
   rw[dm λk hk=>h k (by lia) (by lia)];lia
  ·rw[ih (by lia) λk hk hn=>h k (by lia) hn,h n (by lia) (by lia)]
   lia
theorem Z0:∀n,sumTo (λk=>g k+h k) n=sumTo g n+sumTo h n
 |0=>rfl
 |n+1=>by
  show sumTo (λk=>g k+h k) n+(g n+h n)=sumTo g n+g n+(sumTo h n+h n)
  rw[Z0 n];lia
theorem D8(a:Int):∀n,sumTo (λk=>a*g k) n=a*sumTo g n
 |0=>(cW a).symm
 |n+1=>by
  show sumTo (λk=>a*g k) n+a*g n=a*(sumTo g n+g n)
  rw[D8 a n,kZ]
theorem b5R(hr:r<n)(hi:i<n)(mm:r≠i)(h:∀k,k<n->k≠r->k≠i->g k=0):sumTo g n=g r+g i:=by
 have e:sumTo g n=sumTo (λk=>(if k=r then g k else 0)+(if k=i then g k else 0)) n:=aj λk hk=>by
  by_cases c1:k=r
  ·rw[if_pos c1,if_neg (by lia)];lia
  ·by_cases c2:k=i
   ·rw[if_neg c1,if_pos c2];lia
   ·rw[if_neg c1,if_neg c2,h k hk c1 c2];lia
 rw[e,Z0,cz hr λk _ hn=>if_neg hn,cz hi λk _ hn=>if_neg hn,if_pos rfl,if_pos rfl]
theorem QV{C:List J4}(hl:C.length=n)(hk:k<n)(t:Nat->Int)(W:Nat->J4):∀m,G2 n (C.set k (λx=>sumTo (λj=>t j*W j x) m))=sumTo (λj=>t j*G2 n (C.set k (W j))) m
 |0=>by
  have h:=Ka hl hk 0 (λ_=>0) 0 λ_=>0;have e:wm 0 (λ_=>0) 0 (λ_=>0)=(λx:Nat=>sumTo (λj=>t j*W j x) 0):=by funext x;simp[wm,sumTo]
  rw[e] at h;rw[h];simp[sumTo]
 |m+1=>by
  have h:=Ka hl hk 1 (λx=>sumTo (λj=>t j*W j x) m) (t m) (W m);have e:wm 1 (λx=>sumTo (λj=>t j*W j x) m) (t m) (W m)=(λx:Nat=>sumTo (λj=>t j*W j x) (m+1)):=by funext x;simp[wm,sumTo]
  rw[e,QV hl hk t W m] at h;rw[h]
  show 1*sumTo _ m+_=sumTo _ m+_
  rw[lE]
def zv:J4:=λ_=>0
def IV(n:Nat)(B:List J4)(u:J4):Prop:=∀x,G2 n B*u x=sumTo (λk=>G2 n (B.set k u)*(B.getD k zv) x) n
theorem Vo{B:List J4}(h:k<B.length):B[k]?=some (B.getD k zv):=by simp_all
theorem W7{B:List J4}(h:k<B.length):B.set k (B.getD k zv)=B:=by simp_all
theorem plu(hl:B.length=n)(hr:r<n)(hi:i<n)(mm:i≠r)v(hc:IV n B u) :
  G2 n B*G2 n ((B.set r u).set i v)=G2 n (B.set r u)*G2 n (B.set i v)-G2 n (B.set i u)*G2 n (B.set r v):=by
 have jl:(B.set i v).length=n:=by rw[eE];exact hl
 have e1:G2 n ((B.set i v).set r (wm (G2 n B) u 0 u))=G2 n B*G2 n ((B.set i v).set r u):=by
  rw[Ka jl hr];lia
 have e2:wm (G2 n B) u 0 u=(λx:Nat=>sumTo (λk=>G2 n (B.set k u)*(B.getD k zv) x) n):=by
  funext x
  rw[<-hc x];unfold wm;lia
 rw[e2,QV jl hr (λk=>G2 n (B.set k u)) (λk=>B.getD k zv) n] at e1;rw[kJ _ _ (bV mm),<-e1];rw[b5R hr hi (bV mm) λk hk n1 n2=>?_]
 ·have a1:(B.set i v).set r (B.getD r zv)=B.set i v:=by rw[kJ _ _ mm,W7 (by lia)]
  have a2:G2 n ((B.set i v).set r (B.getD i zv)) =-G2 n (B.set r v):=by
   rw[a6Q hl hi hr mm,W7 (by lia)]
  rw[a1,a2,fT];lia
 ·have:G2 n ((B.set i v).set r (B.getD k zv))=0:=by
   refine NV (u:=B.getD k zv) (by simp_all) n1 ?_ ?_
   ·rw[dP (bV n1),dP (bV n2)];exact Vo (by lia)
   ·rw[eK (by simp_all)]
  rw[this,cW]
def b8d{b:Int}(hd:d≠0)(h:d*a=d*b):a=b:=Int.eq_of_mul_eq_mul_left hd h
theorem a5t(hl:B.length=n)(hr:r<n)(hd:G2 n B≠0)(hu:IV n B u)(hv:IV n B v):IV n (B.set r u) v:=by
 intro x;refine b8d hd ?_;have e:∀k,k<n->G2 n B*(G2 n ((B.set r u).set k v)*((B.set r u).getD k zv) x) =
   G2 n (B.set r u)*(G2 n (B.set k v)*(B.getD k zv) x)+(if k=r then G2 n B*(G2 n (B.set r v)*u x) else 0)-G2 n (B.set r v)*(G2 n (B.set k u)*(B.getD k zv) x):=λk hk=>by
  by_cases c:k=r
  ·subst c
   rw[if_pos rfl,wX];have g:(B.set k u).getD k zv=u:=by rw[bA,eK (by lia)];rfl
   rw[g];have:G2 n (B.set k u)*(G2 n (B.set k v)*B.getD k zv x)=G2 n (B.set k v)*(G2 n (B.set k u)*B.getD k zv x):=by rw[<-cG,<-cG,bX (G2 n (B.set k u))]
   lia
  ·rw[if_neg c]
   have g:(B.set r u).getD k zv=B.getD k zv:=by rw[bA,dP (bV c),<-bA]
   rw[g,<-cG,plu hl hr hk c v hu,pA,cG,cG];have:G2 n (B.set k u)*(G2 n (B.set r v)*B.getD k zv x)=G2 n (B.set r v)*(G2 n (B.set k u)*B.getD k zv x):=by rw[<-cG,<-cG,bX (G2 n (B.set k u))]
   lia
 have s1:G2 n B*sumTo (λk=>G2 n ((B.set r u).set k v)*((B.set r u).getD k zv) x) n =
   sumTo (λk=>G2 n (B.set r u)*(G2 n (B.set k v)*(B.getD k zv) x)+(if k=r then G2 n B*(G2 n (B.set r v)*u x) else 0)+(- G2 n (B.set r v))*(G2 n (B.set k u)*(B.getD k zv) x)) n:=by
  rw[<-D8];refine aj λk hk=>?_;rw[e k hk,iJ];lia
 rw[s1,Z0,Z0,D8,D8,<-hv x,<-hu x,cz hr λk _ hn=>if_neg hn,if_pos rfl,iJ];have a1:G2 n B*(G2 n (B.set r u)*v x)=G2 n (B.set r u)*(G2 n B*v x):=by grind
 lia
theorem b0o(hl:B.length=n)(hr:r<n):IV n B (B.getD r zv):=by
 intro x;rw[cz hr λk hk hn=>?_]
 ·rw[W7 (by lia)]
 ·have:G2 n (B.set k (B.getD r zv))=0:=by
   refine NV (u:=B.getD r zv) (by simp_all) (bV hn) ?_ ?_
   ·rw[dP hn];exact Vo (by lia)
   ·rw[eK (by lia)]
  rw[this,gY]
theorem b8Q(hl:B.length=n)(hd:G2 n B≠0){t:Nat->Int}(h:∀x,sumTo (λk=>t k*(B.getD k zv) x) n=0)(hi:i<n):t i=0:=by
 have h1:=QV hl hi t (λk=>B.getD k zv) n;have e:(λx:Nat=>sumTo (λk=>t k*(B.getD k zv) x) n)=zv:=by funext x;rw[h x];rfl
 rw[e] at h1;have h0:G2 n (B.set i zv)=0:=by
  have:=Ka hl hi 0 zv 0 zv;have e:wm 0 zv 0 zv=zv:=by funext x;simp[wm,zv]
  rw[e] at this;lia
 rw[h0,cz hi λk hk hn=>?_,W7 (by lia)] at h1
 ·exact(pB.mp h1.symm).resolve_right hd
 ·have:G2 n (B.set i (B.getD k zv))=0:=by
   refine NV (u:=B.getD k zv) (by rw[eE];exact hl) hn ?_ ?_
   ·rw[dP (bV hn)];exact Vo (by lia)
   ·rw[eK (by lia)]
  rw[this,cW]
structure Bo where
 d:Int
 T:Nat->Nat->Int
 ins:Nat->Nat
 outs:Nat->Nat
def jm(g:Nat->Nat)(k v:Nat):Nat->Nat:=λi=>if i=k then v else g i
def C3:jm g k v k=v:=if_pos rfl
def C7(h:i≠k):jm g k v i=g i:=if_neg h
def fe(S:Bo)(r c:Nat):Bo where
 d:=S.T r c
 T:=λi j=>if i=r then (if j=c then S.d else S.T r j) else (if j=c then-S.T i c else (S.T i j*S.T r c-S.T i c*S.T r j)/S.d)
 ins:=jm S.ins r (S.outs c)
 outs:=jm S.outs c (S.ins r)
def Bs(m:Nat)(V:Nat->J4)(ins:Nat->Nat):List J4:=(aW (m+1)).map λi=>V (ins i)
theorem LM m V ins:(Bs m V ins).length=m+1:=by unfold Bs;rw[aH,gZ]
theorem QW(h:i<m+1):(Bs m V ins).getD i zv=V (ins i):=by
 unfold Bs;rw[bA,aP,cU h];rfl
theorem Vp(h:r<m+1):Bs m V (jm ins r v)=(Bs m V ins).set r (V v):=by
 refine dR λi=>?_;unfold Bs
 by_cases c:i=r
 ·subst c
  rw[eK (by simp_all),aP,cU h]
  show some (V (jm ins i v i))=_
  rw[C3]
 ·rw[dP (bV c),aP,aP]
  by_cases hi:i<m+1
  ·rw[cU hi]
   show some (V (jm ins r v i))=some (V (ins i))
   rw[C7 c]
  ·rw[bW (by simp_all)]
   rfl
structure Wf(m q:Nat)(V:Nat->J4)(S:Bo):Prop where
 hd:S.d=G2 (m+1) (Bs m V S.ins)
 hT:∀i j,i<m+1->j<q+1->S.T i j=G2 (m+1) ((Bs m V S.ins).set i (V (S.outs j)))
 cr:∀j,j<q+1->IV (m+1) (Bs m V S.ins) (V (S.outs j))
 pos:0<S.d
 CK:∀i,i<m->0<=S.T i q
 im:S.ins m=q+m
 oq:S.outs q=q+m+1
 ib:∀i,i<m->S.ins i<q+m
 ob:∀j,j<q->S.outs j<q+m
 ii:∀i k,i<m->k<m->S.ins i=S.ins k->i=k
 oo:∀j k,j<q->k<q->S.outs j=S.outs k->j=k
 io:∀i j,i<m->j<q->S.ins i≠S.outs j
 all:∀v,v<q+m->(∃i,i<m/\S.ins i=v)\/(∃j,j<q/\S.outs j=v)
theorem Wf.exact(W:Wf m q V S)(hr:r<m)(hc:c<q)(hi:i<m+1)(hj:j<q+1)(mm:i≠r) :
  S.T i j*S.T r c-S.T i c*S.T r j=S.d*G2 (m+1) (((Bs m V S.ins).set r (V (S.outs c))).set i (V (S.outs j))):=by
 have h:=plu (LM m V S.ins) (show r<m+1 by lia) hi mm (V (S.outs j)) (W.cr c (by lia));rw[W.hd,h,W.hT i j hi hj,W.hT r c (by lia) (by lia),W.hT i c hi (by lia),W.hT r j (by lia) hj];rw[bX (G2 (m+1) ((Bs m V S.ins).set i (V (S.outs j))))]
theorem Wf.NW(W:Wf m q V S)(hr:r<m)(hc:c<q)(hi:i<m+1)(hj:j<q+1):(fe S r c).T i j=G2 (m+1) ((Bs m V (fe S r c).ins).set i (V ((fe S r c).outs j))):=by
 have hl:=LM m V S.ins
 show(if i=r then (if j=c then S.d else S.T r j) else (if j=c then-S.T i c else (S.T i j*S.T r c-S.T i c*S.T r j)/S.d))=G2 (m+1) ((Bs m V (jm S.ins r (S.outs c))).set i (V (jm S.outs c (S.ins r) j)))
 rw[Vp (by lia)]
 by_cases c1:i=r
 ·subst c1
  rw[if_pos rfl,wX]
  by_cases c2:j=c
  ·subst c2
   rw[if_pos rfl,C3,W.hd,<-QW (V:=V) hi,W7 (by lia)]
  ·rw[if_neg c2,C7 c2]
   exact W.hT i j hi hj
 ·rw[if_neg c1]
  by_cases c2:j=c
  ·subst c2
   rw[if_pos rfl,C3,a6Q hl (by lia) hi (bV c1),<-QW (V:=V) (show r<m+1 by lia),W7 (by lia),W.hT i j hi hj]
  ·rw[if_neg c2,C7 c2,W.exact hr hc hi hj c1]
   exact wI _ (by have:=W.pos;lia)
theorem Wf.Kb(W:Wf m q V S)(hr:r<m)(hc:c<q)(hi:i<m+1)(hj:j<q+1)(mm:i≠r)(wj:j≠c):S.d*(fe S r c).T i j=S.T i j*S.T r c-S.T i c*S.T r j:=by
 have e:=W.NW hr hc hi hj;have e2:Bs m V (fe S r c).ins=(Bs m V S.ins).set r (V (S.outs c)):=Vp (by lia);have e3:(fe S r c).outs j=S.outs j:=C7 wj;rw[e2,e3] at e;rw[W.exact hr hc hi hj mm,e]
theorem Wf.EU(W:Wf m q V S)(hr:r<m)(hc:c<q)(hp:0<S.T r c)(hq:∀i,i<m->0<S.T i c->S.T r q*S.T i c<=S.T i q*S.T r c):Wf m q V (fe S r c):=by
 have hl:=LM m V S.ins;have NX:G2 (m+1) (Bs m V S.ins)≠0:=by have:=W.pos;rw[W.hd] at this;lia
 have hB:Bs m V (fe S r c).ins=(Bs m V S.ins).set r (V (S.outs c)):=Vp (by lia);refine⟨?_,λi j hi hj=>W.NW hr hc hi hj,λj hj=>?_,hp,λi hi=>?_,?_,?_,λi hi=>?_,λj hj=>?_,λi k hi hk e=>?_,λj k hj hk e=>?_,λi j hi hj e=>?_,λv hv=>?_⟩
 ·rw[hB];exact W.hT r c (by lia) (by lia)
 ·rw[hB]
  by_cases c2:j=c
  ·subst c2
   show IV _ _ (V (jm S.outs j (S.ins r) j))
   rw[C3];have h:=b0o hl (show r<m+1 by lia);rw[QW (by lia)] at h;exact a5t hl (by lia) NX (W.cr j hj) h
  ·show IV _ _ (V (jm S.outs c (S.ins r) j))
   rw[C7 c2];exact a5t hl (by lia) NX (W.cr c (by lia)) (W.cr j hj)
 ·by_cases c1:i=r
  ·subst c1
   show 0<=(if i=i then (if q=c then S.d else S.T i q) else _)
   rw[if_pos rfl,if_neg (by lia)];exact W.CK i hi
  ·have e:=W.Kb hr hc (show i<m+1 by lia) (show q<q+1 by lia) c1 (show q≠c by lia)
   have nn:0<=S.T i q*S.T r c-S.T i c*S.T r q:=by
    have a1:0<=S.T i q*S.T r c:=eO (W.CK i hi) (cC hp)
    by_cases z:0<S.T i c
    ·have:=hq i hi z
     rw[bX (S.T i c)];lia
    ·have a2:0 <=-(S.T i c)*S.T r q:=eO (by lia) (W.CK r hr)
     rw[iJ] at a2;lia
   rw[<-e] at nn
   by_cases z:0<=(fe S r c).T i q
   ·exact z
   ·have:=gJ W.pos (show 0 < - (fe S r c).T i q by lia)
    rw[fT] at this;lia
 ·show jm S.ins r (S.outs c) m=q+m
  rw[C7 (by lia)];exact W.im
 ·show jm S.outs c (S.ins r) q=q+m+1
  rw[C7 (by lia)];exact W.oq
 ·show jm S.ins r (S.outs c) i<q+m
  by_cases c1:i=r
  ·rw[c1,C3];exact W.ob c hc
  ·rw[C7 c1];exact W.ib i hi
 ·show jm S.outs c (S.ins r) j<q+m
  by_cases c1:j=c
  ·rw[c1,C3];exact W.ib r hr
  ·rw[C7 c1];exact W.ob j hj
 ·replace e:jm S.ins r (S.outs c) i=jm S.ins r (S.outs c) k:=e
  by_cases c1:i=r
  ·by_cases c2:k=r
   ·lia
   ·rw[c1,C3,C7 c2] at e
    exact absurd e.symm (W.io k c hk hc)
  ·by_cases c2:k=r
   ·rw[c2,C3,C7 c1] at e
    exact absurd e (W.io i c hi hc)
   ·rw[C7 c1,C7 c2] at e
    exact W.ii i k hi hk e
 ·replace e:jm S.outs c (S.ins r) j=jm S.outs c (S.ins r) k:=e
  by_cases c1:j=c
  ·by_cases c2:k=c
   ·lia
   ·rw[c1,C3,C7 c2] at e
    exact absurd e (W.io r k hr hk)
  ·by_cases c2:k=c
   ·rw[c2,C3,C7 c1] at e
    exact absurd e.symm (W.io r j hr hj)
   ·rw[C7 c1,C7 c2] at e
    exact W.oo j k hj hk e
 ·replace e:jm S.ins r (S.outs c) i=jm S.outs c (S.ins r) j:=e
  by_cases c1:i=r
  ·by_cases c2:j=c
   ·rw[c1,c2,C3,C3] at e
    exact absurd e.symm (W.io r c hr hc)
   ·rw[c1,C3,C7 c2] at e
    exact c2 (W.oo c j hc hj e).symm
  ·by_cases c2:j=c
   ·rw[c2,C3,C7 c1] at e
    exact c1 (W.ii i r hi hr e)
   ·rw[C7 c1,C7 c2] at e
    exact W.io i j hi hj e
 ·show(∃i,i<m/\jm S.ins r (S.outs c) i=v)\/(∃j,j<q/\jm S.outs c (S.ins r) j=v)
  rcases W.all v hv with⟨i,hi,e⟩|⟨j,hj,e⟩
  ·by_cases c1:i=r
   ·exact .inr ⟨c,hc,by rw[C3,<-c1];exact e⟩
   ·exact .inl ⟨i,hi,by rw[C7 c1];exact e⟩
  ·by_cases c1:j=c
   ·exact .inl ⟨r,hr,by rw[C3,<-c1];exact e⟩
   ·exact .inr ⟨j,hj,by rw[C7 c1];exact e⟩
def uv(m q:Nat)(V:Nat->J4)(S:Bo)(z:Nat->Int):Prop:=∀x,sumTo (λk=>z (S.ins k)*V (S.ins k) x) (m+1)+sumTo (λj=>z (S.outs j)*V (S.outs j) x) (q+1)=0
theorem a8V(hr:r<n)(e:∀k,k<n->k≠r->g k=h k):sumTo g n=sumTo h n+(g r-h r):=by
 have e1:sumTo g n=sumTo (λk=>h k+(if k=r then g k-h k else 0)) n:=aj λk hk=>by
  by_cases c:k=r
  ·rw[if_pos c];lia
  ·rw[if_neg c,e k hk c];lia
 rw[e1,Z0,cz hr λk _ hn=>if_neg hn,if_pos rfl]
theorem uv.fe(hr:r<m)(hc:c<q):uv m q V (fe S r c) z ↔ uv m q V S z:=by
  have e:∀x,sumTo (λk=>z ((Lp.fe S r c).ins k)*V ((Lp.fe S r c).ins k) x) (m+1)+sumTo (λj=>z ((Lp.fe S r c).outs j)*V ((Lp.fe S r c).outs j) x) (q+1)
     =sumTo (λk=>z (S.ins k)*V (S.ins k) x) (m+1)+sumTo (λj=>z (S.outs j)*V (S.outs j) x) (q+1):=λx=>by
    have h1:=a8V (g:=λk=>z ((Lp.fe S r c).ins k)*V ((Lp.fe S r c).ins k) x) (n:=m+1) (r:=r) (by lia) λk hk hn=>by
      show z (jm S.ins r (S.outs c) k)*V (jm S.ins r (S.outs c) k) x=_
      rw[C7 hn]
    have h2:=a8V (g:=λj=>z ((Lp.fe S r c).outs j)*V ((Lp.fe S r c).outs j) x) (n:=q+1) (r:=c) (by lia) λk hk hn=>by
      show z (jm S.outs c (S.ins r) k)*V (jm S.outs c (S.ins r) k) x=_
      rw[C7 hn]
    rw[h1,h2]
    show _+(z (jm S.ins r (S.outs c) r)*V (jm S.ins r (S.outs c) r) x-_)+(_+(z (jm S.outs c (S.ins r) c)*V (jm S.outs c (S.ins r) c) x-_))=_
    rw[C3,C3];lia
  exact⟨λh x=>(e x).symm.trans (h x),λh x=>(e x).trans (h x)⟩
def Kc(q:Nat)(S:Bo)(z:Nat->Int)(i:Nat):Int:=S.d*z (S.ins i)+sumTo (λj=>S.T i j*z (S.outs j)) (q+1)
theorem NY{g:Nat->Nat->Int}(n:Nat):∀k,sumTo (λi=>sumTo (λj=>g i j) k) n=sumTo (λj=>sumTo (λi=>g i j) n) k
 |0=>dm λ_ _=>rfl
 |k+1=>by
  show sumTo (λi=>sumTo (λj=>g i j) k+g i k) n=sumTo (λj=>sumTo (λi=>g i j) n) k+sumTo (λi=>g i k) n
  rw[Z0,NY n k]
theorem Wf.rows(W:Wf m q V S)z x:S.d*(sumTo (λk=>z (S.ins k)*V (S.ins k) x) (m+1)+sumTo (λj=>z (S.outs j)*V (S.outs j) x) (q+1))=sumTo (λk=>Kc q S z k*((Bs m V S.ins).getD k zv) x) (m+1):=by
 have e1:S.d*sumTo (λj=>z (S.outs j)*V (S.outs j) x) (q+1)=sumTo (λk=>sumTo (λj=>S.T k j*z (S.outs j)) (q+1)*((Bs m V S.ins).getD k zv) x) (m+1):=by
  rw[<-D8];have h1:∀j,j<q+1->S.d*(z (S.outs j)*V (S.outs j) x)=sumTo (λk=>S.T k j*z (S.outs j)*((Bs m V S.ins).getD k zv) x) (m+1):=λj hj=>by
   have h:=W.cr j hj x;rw[<-W.hd] at h;rw[bX (z (S.outs j)),<-cG,h,bX,<-D8];refine aj λk hk=>?_;rw[W.hT k j hk hj,<-cG,bX (z (S.outs j))]
  rw[aj h1,<-NY];refine aj λk hk=>?_;rw[bX (sumTo _ _),<-D8];exact aj λj _=>bX _ _
 rw[kZ,e1,<-D8,<-Z0];refine aj λk hk=>?_
 show _=(S.d*z (S.ins k)+_)*_
 rw[fG,QW hk,cG]
theorem Wf.EV(W:Wf m q V S)(h:uv m q V S z)(hi:i<m+1):Kc q S z i=0:=by
 refine b8Q (LM m V S.ins) (by have:=W.pos;rw[W.hd] at this;lia) (λx=>?_) hi;rw[<-W.rows z x,h x,cW]
theorem Wf.Kd(W:Wf m q V S)(h:∀i,i<m+1->Kc q S z i=0):uv m q V S z:=λx=>by
 have e:=W.rows z x;have e0:sumTo (λk=>Kc q S z k*((Bs m V S.ins).getD k zv) x) (m+1)=0:=dm λk hk=>by rw[h k hk,gY]
 rw[e0] at e;exact(pB.mp e).resolve_left (by have:=W.pos;lia)
structure Choice(m q:Nat)(S:Bo)(r c:Nat):Prop where
 hc:c<q
 neg:S.T m c<0
 Hs:∀j,j<q->S.T m j<0->S.outs c<=S.outs j
 hr:r<m
 pos:0<S.T r c
 ratio:∀i,i<m->0<S.T i c->S.T r q*S.T i c<=S.T i q*S.T r c
 Vq:∀i,i<m->0<S.T i c->S.T r q*S.T i c=S.T i q*S.T r c->S.ins r<=S.ins i
theorem a9c:∀{n},sumTo g n<0->∃k,k<n/\g k<0
 |0,h=>absurd h (by show ¬(0:Int)<0;lia)
 |n+1,h=>by
  have h':sumTo g n+g n<0:=h
  by_cases c:g n<0
  ·exact⟨n,by lia,c⟩
  ·obtain⟨k,hk,hg⟩:=a9c (g:=g) (n:=n) (by lia)
   exact⟨k,by lia,hg⟩
theorem Wf.inj(W:Wf m q V S)(hi:i<m+1)(hk:k<m+1)(e:S.ins i=S.ins k):i=k:=by
 by_cases c1:i=m
 ·by_cases c2:k=m
  ·lia
  ·have:=W.ib k (by lia)
   rw[c1,W.im] at e;lia
 ·by_cases c2:k=m
  ·have:=W.ib i (by lia)
   rw[c2,W.im] at e;lia
  ·exact W.ii i k (by lia) (by lia) e
theorem Wf.apart(W:Wf m q V S)(hi:i<m+1)(hj:j<q+1):S.ins i≠S.outs j:=by
 intro e;have hI:S.ins i<=q+m:=by
  by_cases c1:i=m
  ·rw[c1,W.im];exact aT _
  ·have:=W.ib i (by lia);lia
 by_cases c2:j=q
 ·rw[c2,W.oq] at e;lia
 ·have:=W.ob j (by lia)
  by_cases c1:i=m
  ·rw[c1,W.im] at e;lia
  ·exact W.io i j (by lia) (by lia) e
theorem Wf.Vr(W:Wf m q V S)(hj:j<q+1)(hk:k<q+1)(e:S.outs j=S.outs k):j=k:=by
 by_cases c1:j=q
 ·by_cases c2:k=q
  ·lia
  ·have:=W.ob k (by lia)
   rw[c1,W.oq] at e;lia
 ·by_cases c2:k=q
  ·have:=W.ob j (by lia)
   rw[c2,W.oq] at e;lia
  ·exact W.oo j k (by lia) (by lia) e
def nc(m:Nat)(S:Bo)(c:Nat)(v:Nat):Int:=if v=S.outs c then S.d else sumTo (λi=>if S.ins i=v then-S.T i c else 0) (m+1)
theorem Wf.jd(W:Wf m q V S)(hc:c<q+1)(hk:k<m+1):nc m S c (S.ins k) =-S.T k c:=by
 unfold nc;rw[if_neg (W.apart hk hc),cz hk λi hi hn=>if_neg λe=>hn (W.inj hi hk e),if_pos rfl]
theorem Wf.h_(W:Wf m q V S)(hc:c<q+1)(hj:j<q+1)(hn:j≠c):nc m S c (S.outs j)=0:=by
 unfold nc;rw[if_neg λe=>hn (W.Vr hj hc e)];exact dm λi hi=>if_neg (W.apart hi hj)
def Wf.yi:nc m S c (S.outs c)=S.d:=if_pos rfl
theorem Wf.qp(W:Wf m q V S)(hc:c<q+1):uv m q V S (nc m S c):=W.Kd λi hi=>by
 unfold Kc;rw[W.jd hc hi,cz hc λj hj hn=>by rw[W.h_ hc hj hn,cW],Wf.yi,fT,bX];lia
theorem b6f(W:Wf m q V S)(W':Wf m q V S')(hk:∀z,uv m q V S z->uv m q V S' z)(C:Choice m q S r c)(C':Choice m q S' r' c')(ht:S.ins r=S'.outs c')(gj:S.outs c<S.ins r)
  (stat:∀v,S.ins r<v->(∃i,i<m/\S.ins i=v)->∃i,i<m/\S'.ins i=v) (zero:∀k j,k<m->j<q->S.ins k=S'.outs j->S.T k q=0):False:=by
 have GG:c<q+1:=by have:=C.hc;lia
 have R:=W'.EV (hk _ (W.qp GG)) (show m<m+1 by lia);have Vs:nc m S c (S'.ins m) =-S.T m c:=by rw[W'.im,<-W.im];exact W.jd GG (by lia)
 have Vt:nc m S c (S'.outs q)=0:=by rw[W'.oq,<-W.oq];exact W.h_ GG (by lia) (by have:=C.hc;lia)
 unfold Kc at R
 replace R:S'.d*nc m S c (S'.ins m)+(sumTo (λj=>S'.T m j*nc m S c (S'.outs j)) q+S'.T m q*nc m S c (S'.outs q))=0:=R
 rw[Vs,Vt,cW,fT] at R;have gs:0<S'.d*(- S.T m c):=gJ W'.pos (by have:=C.neg;lia);rw[fT] at gs;obtain⟨j,hj,hg⟩:=a9c (g:=λj=>S'.T m j*nc m S c (S'.outs j)) (n:=q) (by lia)
 replace hg:S'.T m j*nc m S c (S'.outs j)<0:=hg
 rcases W.all (S'.outs j) (W'.ob j hj) with⟨k,CO,e⟩|⟨j2,hj2,e⟩
 ·rw[<-e,W.jd GG (by lia)] at hg
  rcases Nat.lt_trichotomy (S'.outs j) (S.ins r) with h|h|h
  ·have h1:0<=S'.T m j:=by
    by_cases z:S'.T m j<0
    ·have:=C'.Hs j hj z
     lia
    ·lia
   have h2:0<S.T k c:=by
    by_cases z:0<S.T k c
    ·exact z
    ·have:=eO h1 (show 0 <=-S.T k c by lia)
     lia
   have h3:=zero k j CO hj e;have h4:=C.ratio k CO h2;rw[h3,gY] at h4;have h5:0<=S.T r q*S.T k c:=eO (W.CK r C.hr) (cC h2);have h6:=C.Vq k CO h2 (by rw[h3,gY];omega);lia
  ·have e1:=W'.oo j c' hj C'.hc (by rw[h,ht])
   have e2:=W.ii k r CO C.hr (by rw[e,h]);rw[e1,e2] at hg;have:=gJ (show 0 < - S'.T m c' by have:=C'.neg;lia) C.pos;rw[iJ] at this;rw[fT] at hg;lia
  ·obtain⟨i,hi,e3⟩:=stat _ h ⟨k,CO,e⟩
   exact W'.io i j hi hj e3
 ·by_cases c2:j2=c
  ·rw[<-e,c2,Wf.yi] at hg
   have h1:S'.T m j<0:=by
    by_cases z:S'.T m j<0
    ·exact z
    ·have:=eO (show 0<=S'.T m j by lia) (cC W.pos)
     lia
   have:=C'.Hs j hj h1;rw[c2] at e;lia
  ·rw[<-e,W.h_ GG (by lia) c2,cW] at hg
   lia
def Zr(m q:Nat)(S:Bo)(v:Nat):Prop:=∀i,i<m->S.ins i=v->S.T i q=0
def CP(m:Nat)(S:Bo)(v:Nat):Prop:=∃i,i<m/\S.ins i=v
theorem CP.fe(W:Wf m q V S)(hr:r<m)(hc:c<q)(h1:v≠S.ins r)(h2:v≠S.outs c):CP m (Lp.fe S r c) v ↔ CP m S v:=by
 constructor
 ·rintro⟨i,hi,e⟩
  replace e:jm S.ins r (S.outs c) i=v:=e
  by_cases z:i=r
  ·rw[z,C3] at e;exact absurd e.symm h2
  ·rw[C7 z] at e;exact⟨i,hi,e⟩
 ·rintro⟨i,hi,e⟩
  have z:i≠r:=λz=>h1 (by simp_all);exact⟨i,hi,(C7 z).trans e⟩
theorem Zr.fe(W:Wf m q V S)(C:Choice m q S r c)(h0:S.T r q=0)v:Zr m q (Lp.fe S r c) v ↔ Zr m q S v:=by
 have key:∀i,i<m->i≠r->((Lp.fe S r c).T i q=0 ↔ S.T i q=0):=λi hi hn=>by
  have e:=W.Kb C.hr C.hc (show i<m+1 by lia) (show q<q+1 by lia) hn (show q≠c by have:=C.hc;lia);rw[h0,cW,Int.sub_zero] at e;constructor
  ·intro z
   rw[z,cW] at e;exact(pB.mp e.symm).resolve_right (by have:=C.pos;lia)
  ·intro z
   rw[z,gY] at e;exact(pB.mp e).resolve_left (by have:=W.pos;lia)
 have kr:(Lp.fe S r c).T r q=0:=by
  show(if r=r then (if q=c then S.d else S.T r q) else _)=0
  rw[if_pos rfl,if_neg (by have:=C.hc;lia)];exact h0
 constructor
 ·intro h i hi e
  by_cases z:i=r
  ·rw[z];exact h0
  ·exact(key i hi z).mp (h i hi ((C7 z).trans e))
 ·intro h i hi e
  by_cases z:i=r
  ·rw[z];exact kr
  ·exact(key i hi z).mpr (h i hi ((C7 z).symm.trans e))
structure Seq(m q:Nat)(V:Nat->J4)(S:Nat->Bo)(R C:Nat->Nat):Prop where
 w:Wf m q V (S 0)
 ch:∀k,Choice m q (S k) (R k) (C k)
 st:∀k,S (k+1)=fe (S k) (R k) (C k)
theorem Seq.wf(Q:Seq m q V S R C):∀k,Wf m q V (S k)
 |0=>Q.w
 |k+1=>by rw[Q.st k];exact(Q.wf k).EU (Q.ch k).hr (Q.ch k).hc (Q.ch k).pos (Q.ch k).ratio
theorem Seq.NZ(Q:Seq m q V S R C)(z:Nat->Int)(a:Nat):∀n,uv m q V (S (a+n)) z ↔ uv m q V (S a) z
 |0=>pC
 |n+1=>by
  show uv m q V (S (a+n+1)) z ↔ _
  rw[Q.st,uv.fe (Q.ch _).hr (Q.ch _).hc];exact Q.NZ z a n
def Dg(q:Nat)(S:Nat->Bo)(R:Nat->Nat)(k:Nat):Prop:=(S k).T (R k) q=0
theorem Seq.zr(Q:Seq m q V S R C)(v a:Nat):∀n,(∀k,a<=k->k<a+n->Dg q S R k)->(Zr m q (S (a+n)) v ↔ Zr m q (S a) v)
 |0,_=>pC
 |n+1,h=>by
  show Zr m q (S (a+n+1)) v ↔ _
  rw[Q.st,Zr.fe (Q.wf _) (Q.ch _) (h (a+n) (by lia) (by lia))];exact Q.zr v a n λk h1 h2=>h k h1 (by lia)
def ES(S:Nat->Bo)(R C:Nat->Nat)(k v:Nat):Prop:=v=(S k).ins (R k)\/v=(S k).outs (C k)
theorem Seq.Vu(Q:Seq m q V S R C)(v a:Nat):∀n,(∀k,a<=k->k<a+n->¬ES S R C k v)->(CP m (S (a+n)) v ↔ CP m (S a) v)
 |0,_=>pC
 |n+1,h=>by
  have hp:=h (a+n) (by lia) (by lia)
  show CP m (S (a+n+1)) v ↔ _
  rw[Q.st,CP.fe (Q.wf _) (Q.ch _).hr (Q.ch _).hc (λz=>hp (.inl z)) λz=>hp (.inr z)];exact Q.Vu v a n λk h1 h2=>h k h1 (by lia)
theorem Seq.once(Q:Seq m q V S R C)(hd:∀k,a<=k->k<b->Dg q S R k)(ht:∀k,a<=k->k<b->∀v,ES S R C k v->v<=t):∀g k0 k1,k1=k0+1+g->a<=k0->k1<b->ES S R C k0 t->ES S R C k1 t->False:=by
 intro g
 induction g using vP with
 |_ g ih =>
  intro k0 k1 hk ha hb p0 p1
  by_cases hm:∃k,k0<k/\k<k1/\ES S R C k t
  ·obtain⟨k,h1,h2,h3⟩:=hm
   exact ih (k-k0-1) (by lia) k0 k (by lia) ha (by lia) p0 h3
  have W0:=Q.wf k0;have W1:=Q.wf k1;have C0:=Q.ch k0;have C1:=Q.ch k1;have N_:CP m (S k1) t ↔ CP m (S (k0+1)) t:=by
   have:=Q.Vu t (k0+1) g λk h1 h2=>λz=>hm ⟨k,by lia,by lia,z⟩;rw[show k0+1+g=k1 by lia] at this;exact this
  have stat:∀v,t<v->(CP m (S k1) v ↔ CP m (S k0) v):=λv hv=>by
   have:=Q.Vu v k0 (g+1) λk h1 h2=>λz=>by have:=ht k (by lia) (by lia) v z;lia
   rw[show k0+(g+1)=k1 by lia] at this;exact this
  have NZ:=λz=>by
   have:=Q.NZ z k0 (g+1);rw[show k0+(g+1)=k1 by lia] at this;exact this
  have zrr:=λv=>by
   have:=Q.zr v k0 (g+1) λk h1 h2=>hd k (by lia) (by lia);rw[show k0+(g+1)=k1 by lia] at this;exact this
  rcases p0 with e0|e0
  ·-- it goes out at k0,so it comes in at k1
   have nb:¬CP m (S (k0+1)) t:=by
    rintro⟨i,hi,e⟩;rw[Q.st k0] at e
    replace e:jm (S k0).ins (R k0) ((S k0).outs (C k0)) i=t:=e
    by_cases z:i=R k0
    ·rw[z,C3,e0] at e
     exact W0.io _ _ C0.hr C0.hc e.symm
    ·rw[C7 z,e0] at e
     exact z (W0.ii i (R k0) hi C0.hr e)
   rcases p1 with e1|e1
   ·exact nb (N_.mp ⟨_,C1.hr,e1.symm⟩)
   ·have gj:(S k0).outs (C k0)<(S k0).ins (R k0):=by
     have h1:=ht k0 ha (by lia) _ (.inr rfl);rw[e0] at h1;have:=W0.io (R k0) (C k0) C0.hr C0.hc;lia
    refine b6f W0 W1 (λz h=>(NZ z).mpr h) C0 C1 (by simp_all) gj (λv hv ou=>(stat v (e0▸hv)).mpr ou) λk j CO hj e=>(((zrr ((S k0).ins k)).mp λi hi e2=>?_) k CO rfl);rw[e] at e2;exact absurd e2 (W1.io i j hi hj)
  ·-- it comes in at k0,so it goes out at k1
   have ba:CP m (S (k0+1)) t:=⟨R k0,C0.hr,by rw[Q.st k0];show jm (S k0).ins (R k0) ((S k0).outs (C k0)) (R k0)=t;rw[C3];exact e0.symm⟩;rcases p1 with e1|e1
   ·have gj:(S k1).outs (C k1)<(S k1).ins (R k1):=by
     have h1:=ht k1 (by lia) hb _ (.inr rfl);rw[e1] at h1;have:=W1.io (R k1) (C k1) C1.hr C1.hc;lia
    refine b6f W1 W0 (λz h=>(NZ z).mp h) C1 C0 (by rw[<-e0,<-e1]) gj (λv hv ou=>(stat v (e1▸hv)).mp ou) λk j CO hj e=>(((zrr ((S k1).ins k)).mpr λi hi e2=>?_) k CO rfl);rw[e] at e2;exact absurd e2 (W0.io i j hi hj)
   ·obtain⟨i,hi,e⟩:=N_.mpr ba
    rw[e1] at e;exact W1.io i (C k1) hi C1.hc e
theorem Seq.short(Q:Seq m q V S R C):∀t a b,a<=b->(∀k,a<=k->k<b->Dg q S R k)->(∀k,a<=k->k<b->∀v,ES S R C k v->v<t)->b+1<=a+2^t
 |0,a,b,yh,hd,hp=>by
  by_cases c:a<b
  ·have:=hp a (aT _) c _ (.inl rfl)
   lia
  ·rw[Nat.pow_zero];lia
 |t+1,a,b,yh,hd,hp=>by
  rw[wY]
  by_cases h:∃k,a<=k/\k<b/\ES S R C k t
  ·obtain⟨k,h1,h2,h3⟩:=h
   have once:=Q.once hd (t:=t) λk h1 h2 v hv=>by have:=hp k h1 h2 v hv;lia
   have i1:=Q.short t a k h1 (λj j1 j2=>hd j j1 (by lia)) λj j1 j2 v hv=>by
    have:=hp j j1 (by lia) v hv
    by_cases z:v=t
    ·subst z
     exact(once (k-j-1) j k (by lia) j1 h2 hv h3).elim
    ·lia
   have i2:=Q.short t (k+1) b (by lia) (λj j1 j2=>hd j (by lia) j2) λj j1 j2 v hv=>by
    have:=hp j (by lia) j2 v hv
    by_cases z:v=t
    ·subst z
     exact(once (j-k-1) k j (by lia) h1 j2 h3 hv).elim
    ·lia
   lia
  ·have:=Q.short t a b yh hd λj j1 j2 v hv=>by
    have h4:=hp j j1 j2 v hv
    by_cases z:v=t
    ·subst z;exact absurd ⟨j,j1,j2,hv⟩ h
    ·lia
   have:0<2^t:=Nat.two_pow_pos t;lia
section
variable{m q:Nat}{V:Nat->J4}{S:Bo}
theorem Wf.Oa(hM:∀v,Fits M (m+1) (V v)):∀c∈Bs m V S.ins,Fits M (m+1) c:=λc hc=>by
 obtain⟨i,_,rfl⟩:=aY.mp hc;exact hM _
theorem Wf.Ht(W:Wf m q V S)(hM:∀v,Fits M (m+1) (V v)):S.d.natAbs<=ow M (m+1):=by
 rw[W.hd];exact Vl (m+1) _ (LM m V S.ins) (Wf.Oa hM)
theorem Wf.Hu(W:Wf m q V S)(hM:∀v,Fits M (m+1) (V v))(hi:i<m+1)(hj:j<q+1):(S.T i j).natAbs<=ow M (m+1):=by
 rw[W.hT i j hi hj];refine Vl (m+1) _ (by rw[eE];exact LM m V S.ins) λc hc=>?_;rcases pD hc with h|h
 ·exact Wf.Oa hM c h
 ·rw[h];exact hM _
def BI(m q:Nat)(M:Int)(S:Bo):Int:=M*M*S.T m q/S.d
theorem Wf.Vw(W:Wf m q V S)(C:Choice m q S r c)(h1:S.d<=M)(h2:S.T r c<=M):BI m q M S+(if S.T r q=0 then 0 else 1)<=BI m q M (fe S r c):=by
 have hcq:=C.hc;have IW:=C.hr;have e:=W.Kb IW hcq (show m<m+1 by lia) (show q<q+1 by lia) (show m≠r by lia) (show q≠c by lia);have hp:=C.pos;have hd:=W.pos;have hn:=C.neg;have hf:=W.CK r IW;unfold BI
 show _<=M*M*(fe S r c).T m q/S.T r c
 generalize (fe S r c).T m q=N' at *;generalize S.T m q=N at *;generalize S.T r c=p at *;generalize S.d=d at *;generalize S.T m c=g at *;generalize S.T r q=b at *;rw[Int.le_ediv_iff_mul_le hp];have LN:M*M*N/d*d<=M*M*N:=Int.ediv_mul_le _ (by lia);generalize M*M*N/d=f at *;have hM:0<M:=by lia
 have hMM:=wZ h1 h2 (cC hp) (cC hM);have key:(f+(if b=0 then 0 else 1))*p*d<=M*M*N'*d:=by
  have a1:M*M*N'*d=M*M*N*p+M*M*(-(g*b)):=by
   have:N'*d=N*p-g*b:=by rw[bX N' d];exact e
   rw[cG (M*M),this,lC,cG (M*M),fT];lia
  have a2:=fH LN (cC hp);have a3:f*p*d=f*d*p:=by rw[cG,bX p d,<-cG]
  by_cases c0:b=0
  ·rw[if_pos c0,gK,a1,a3,c0]
   simp only[cW,Int.neg_zero,gK];exact a2
  ·rw[if_neg c0]
   have a4:1 <= -(g*b):=by
    have:=gJ (show 0 < -g by lia) (show 0<b by lia);rw[iJ] at this;lia
   have a5:M*M*1<=M*M*(-(g*b)):=jU a4 (eO (cC hM) (cC hM));rw[fG,fG,lE,a3,a1];rw[bX d p] at hMM;lia
 exact mW key hd
theorem Wf.Ke(W:Wf m q V S)(h1:S.T m q<=M)(h0:0<M):BI m q M S<=M*M*M:=by
 unfold BI;refine Int.ediv_le_of_le_mul W.pos ?_;have a1:M*M*S.T m q<=M*M*M:=jU h1 (eO (cC h0) (cC h0));have a2:M*M*M*1<=M*M*M*S.d:=jU (by have:=W.pos;lia) (eO (eO (cC h0) (cC h0)) (cC h0));lia
end
theorem Seq.BJ(Q:Seq m q V S R C)k v(h:ES S R C k v):v<q+m:=by
 rcases h with h|h
 ·rw[h];exact(Q.wf k).ib _ (Q.ch k).hr
 ·rw[h];exact(Q.wf k).ob _ (Q.ch k).hc
theorem Seq.never(Q:Seq m q V S R C)(hM:∀v,Fits M (m+1) (V v)):False:=by
 obtain⟨B,hB⟩:∃B,B=(ow M (m+1):Int):=⟨_,rfl⟩;have bT:∀k i j,i<m+1->j<q+1->(S k).T i j<=B:=λk i j hi hj=>by
  have:=(Q.wf k).Hu hM hi hj;lia
 have bd:∀k,(S k).d<=B:=λk=>by
  have:=(Q.wf k).Ht hM;lia
 have B0:0<B:=by have:=bd 0;have:=(Q.wf 0).pos;lia
 have up:∀k,BI m q B (S k)+(if (S k).T (R k) q=0 then 0 else 1)<=BI m q B (S (k+1)):=λk=>by
  rw[Q.st k];exact(Q.wf k).Vw (Q.ch k) (bd k) (bT k _ _ (by have:=(Q.ch k).hr;lia) (by have:=(Q.ch k).hc;lia))
 have mono:∀n k,BI m q B (S k)<=BI m q B (S (k+n)):=λn=>by
  induction n with
  |zero=>intro k;exact dL _
  |succ n ih =>
   intro k;have h1:=ih k;have h2:=up (k+n);have h3:BI m q B (S (k+n))<=BI m q B (S (k+n+1)):=by
    split at h2<;>lia
   exact xA h1 h3
 have P8:=λk=>(Q.wf k).Ke (bT k m q (by lia) (by lia)) B0;have gap:∀(g:Nat)k,B*B*B-BI m q B (S k)<=(g:Int)->False:=by
  intro g
  induction g with
  |zero =>
   intro k hk;have:∃j,k<=j/\j<k+2^(q+m)/\¬Dg q S R j:=by
    refine lF λhn=>?_;have:=Q.short (q+m) k (k+2^(q+m)) (kW _ _) (λj h1 h2=>lF λz=>hn ⟨j,h1,h2,z⟩) λj _ _ v hv=>Q.BJ j v hv;lia
   obtain⟨j,h1,h2,h3⟩:=this;have u:=up j;rw[if_neg (show ¬(S j).T (R j) q=0 from h3)] at u;have m1:=mono (j-k) k;rw[show k+(j-k)=j by lia] at m1;have:=P8 (j+1);lia
  |succ g ih =>
   intro k hk;have:∃j,k<=j/\j<k+2^(q+m)/\¬Dg q S R j:=by
    refine lF λhn=>?_;have:=Q.short (q+m) k (k+2^(q+m)) (kW _ _) (λj h1 h2=>lF λz=>hn ⟨j,h1,h2,z⟩) λj _ _ v hv=>Q.BJ j v hv;lia
   obtain⟨j,h1,h2,h3⟩:=this;have u:=up j;rw[if_neg (show ¬(S j).T (R j) q=0 from h3)] at u;have m1:=mono (j-k) k;rw[show k+(j-k)=j by lia] at m1;exact ih (j+1) (by lia)
 exact gap (B*B*B-BI m q B (S 0)).toNat 0 (by lia)
inductive Ends(m q:Nat):Bo->Nat->Prop
 |stop {S:Bo}:(¬Ev2 λr c=>Choice m q S r c)->Ends m q S 0
 |go {S:Bo} {r c k:Nat}:Choice m q S r c->Ends m q (fe S r c) k->Ends m q S (k+1)
theorem Choice.uniq(W:Wf m q V S)(h:Choice m q S r c)(h':Choice m q S r' c'):r=r'/\c=c':=by
 have ec:=W.oo c c' h.hc h'.hc (xB (h.Hs c' h'.hc h'.neg) (h'.Hs c h.hc h.neg));subst ec;have e1:=h.ratio r' h'.hr h'.pos;have e2:=h'.ratio r h.hr h.pos;have e:S.T r q*S.T r' c=S.T r' q*S.T r c:=by lia
 exact⟨W.ii r r' h.hr h'.hr (xB (h.Vq r' h'.hr h'.pos e) (h'.Vq r h.hr h.pos e.symm)),rfl⟩
theorem Ends.next(W:Wf m q V S)(h:Ends m q S k)(C:Choice m q S r c):∃j,j<k/\Ends m q (fe S r c) j:=by
 cases h with
 |stop hn=>exact absurd ⟨r,c,C⟩ hn
 |go C' h' =>
  obtain⟨rfl,rfl⟩:=C.uniq W C';exact⟨_,jJ _,h'⟩
theorem Wf.ends(hM:∀v,Fits M (m+1) (V v))(W:Wf m q V S):∃k,Ends m q S k:=by
 refine lF λhn=>?_;have ch:∀S',Wf m q V S'->(¬∃k,Ends m q S' k)->∃p:Nat×Nat,Choice m q S' p.1 p.2:=λS' _ h'=>by
  refine lF λz=>h' ⟨0,.stop λ⟨r,c,C⟩=>z ⟨(r,c),C⟩⟩
 let St:={S':Bo//Wf m q V S'/\¬∃k,Ends m q S' k}
 let pk:(X:St)->Nat×Nat:=λX=>(ch X.1 X.2.1 X.2.2).choose
 have pc:∀X:St,Choice m q X.1 (pk X).1 (pk X).2:=λX=>(ch X.1 X.2.1 X.2.2).choose_spec
 let nx:St->St:=λX=>⟨fe X.1 (pk X).1 (pk X).2,X.2.1.EU (pc X).hr (pc X).hc (pc X).pos (pc X).ratio,λ⟨k,e⟩=>X.2.2 ⟨k+1,.go (pc X) e⟩⟩
 let sq:Nat->St:=λk=>Nat.rec ⟨S,W,hn⟩ (λ_ X=>nx X) k
 exact Seq.never ⟨W,λk=>pc (sq k),λk=>rfl⟩ hM
def Vv(m q:Nat)(A:Nat->Nat->Int)(b c:Nat->Int):Nat->J4:=λv x =>
 if v<q then (if x<m then A x v else if x=m then-c v else 0) else if v<q+m+1 then (if x=v-q then 1 else 0) else (if x<m then b x else 0)
def S0(m q:Nat)(A:Nat->Nat->Int)(b c:Nat->Int):Bo where
 d:=1
 T:=λi j=>if j<q then (if i<m then A i j else-c j) else (if i<m then b i else 0)
 ins:=λi=>q+i
 outs:=λj=>if j<q then j else q+m+1
theorem Vx(h:v<q):Vv m q A b c v x=if x<m then A x v else if x=m then-c v else 0:=by unfold Vv;rw[if_pos h]
theorem b8T(h:i<m+1):Vv m q A b c (q+i)=uu i:=by
 funext x
 unfold Vv uu;rw[if_neg (by lia),if_pos (by lia),show q+i-q=i by lia]
theorem b8H:Vv m q A b c (q+m+1) x=if x<m then b x else 0:=by unfold Vv;rw[if_neg (by lia),if_neg (by lia)]
theorem b5Z(h:m<x):Vv m q A b c v x=0:=by
 unfold Vv
 by_cases h1:v<q
 ·rw[if_pos h1,if_neg (by lia),if_neg (by lia)]
 ·rw[if_neg h1]
  by_cases h2:v<q+m+1
  ·rw[if_pos h2,if_neg (by lia)]
  ·rw[if_neg h2,if_neg (by lia)]
theorem Vy:Bs m (Vv m q A b c) (S0 m q A b c).ins=(aW (m+1)).map uu:=by
 unfold Bs;exact fM λi hi=>b8T (fF.mp hi)
theorem a7u(h:k<n):((aW n).map uu).getD k zv=uu k:=by rw[bA,aP,cU h];rfl
theorem a5f{u:J4}(hu:∀x,n<=x->u x=0)x:sumTo (λk=>u k*uu k x) n=u x:=by
 by_cases h:x<n
 ·rw[cz h λk _ hn=>by show u k*(if x=k then 1 else 0)=0;rw[if_neg (bV hn),cW]]
  show u x*(if x=x then 1 else 0)=u x
  rw[if_pos rfl,jF]
 ·rw[hu x (by lia)]
  refine dm λk hk=>?_
  show u k*(if x=k then 1 else 0)=0
  rw[if_neg (by lia),cW]
theorem a2u(hi:i<n)(hu:∀x,n<=x->u x=0):G2 n (((aW n).map uu).set i u)=u i:=by
 have hl:((aW n).map uu).length=n:=by simp
 have h:=QV hl hi u uu n;have e:(λx:Nat=>sumTo (λk=>u k*uu k x) n)=u:=by funext x;exact a5f hu x
 rw[e,cz hi λk hk hn=>?_] at h
 ·rw[h,<-a7u hi,W7 (by lia),QU,jF]
 ·have:G2 n (((aW n).map uu).set i (uu k))=0:=by
   refine NV (u:=uu k) (by simp) hn ?_ ?_
   ·rw[dP (bV hn),aP,cU hk];rfl
   ·rw[eK (by lia)]
  rw[this,cW]
theorem wf0(hb:∀i,i<m->0<=b i):Wf m q (Vv m q A b c) (S0 m q A b c):=by
 have br:∀v x,m+1<=x->Vv m q A b c v x=0:=λv x h=>b5Z (by lia);refine⟨?_,λi j hi hj=>?_,λj hj x=>?_,Int.one_pos,λi hi=>?_,rfl,?_,λi hi=>?_,λj hj=>?_,λi k hi hk e=>?_,λj k hj hk e=>?_,λi j hi hj e=>?_,λv hv=>?_⟩
 ·rw[Vy,QU];rfl
 ·rw[Vy,a2u hi (br _)]
  show(if j<q then (if i<m then A i j else-c j) else (if i<m then b i else 0))=Vv m q A b c (if j<q then j else q+m+1) i
  by_cases h:j<q
  ·rw[if_pos h,if_pos h,Vx h]
   by_cases h2:i<m
   ·rw[if_pos h2,if_pos h2]
   ·rw[if_neg h2,if_neg h2,if_pos (by lia)]
  ·rw[if_neg h,if_neg h,b8H]
 ·rw[Vy,QU,lE]
  have e:sumTo (λk=>G2 (m+1) (((aW (m+1)).map uu).set k (Vv m q A b c ((S0 m q A b c).outs j)))*(((aW (m+1)).map uu).getD k zv) x) (m+1)=sumTo (λk=>Vv m q A b c ((S0 m q A b c).outs j) k*uu k x) (m+1) :=
   aj λk hk=>by rw[a2u hk (br _),a7u hk]
  rw[e,a5f (br _)]
 ·show 0<=(if q<q then _ else (if i<m then b i else 0))
  rw[if_neg (dO _),if_pos hi];exact hb i hi
 ·show(if q<q then q else q+m+1)=q+m+1
  rw[if_neg (dO _)]
 ·show q+i<q+m;lia
 ·show(if j<q then j else q+m+1)<q+m
  rw[if_pos hj];lia
 ·replace e:q+i=q+k:=e
  lia
 ·replace e:(if j<q then j else q+m+1)=(if k<q then k else q+m+1):=e
  rw[if_pos hj,if_pos hk] at e;exact e
 ·replace e:q+i=(if j<q then j else q+m+1):=e
  rw[if_pos hj] at e;lia
 ·by_cases h:v<q
  ·exact .inr ⟨v,h,if_pos h⟩
  ·exact .inl ⟨v-q,by lia,by show q+(v-q)=v;lia⟩
theorem EW:uv m q (Vv m q A b c) (S0 m q A b c) z ↔ (∀i,i<m->z (q+i)+sumTo (λj=>A i j*z j) q+b i*z (q+m+1)=0)/\z (q+m)=sumTo (λj=>c j*z j) q:=by
  have e:∀x,sumTo (λk=>z ((S0 m q A b c).ins k)*Vv m q A b c ((S0 m q A b c).ins k) x) (m+1)+sumTo (λj=>z ((S0 m q A b c).outs j)*Vv m q A b c ((S0 m q A b c).outs j) x) (q+1)
     =(if x<m+1 then z (q+x) else 0)+(sumTo (λj=>z j*Vv m q A b c j x) q+z (q+m+1)*(if x<m then b x else 0)):=λx=>by
    have e1:sumTo (λk=>z ((S0 m q A b c).ins k)*Vv m q A b c ((S0 m q A b c).ins k) x) (m+1)=if x<m+1 then z (q+x) else 0:=by
      have:sumTo (λk=>z ((S0 m q A b c).ins k)*Vv m q A b c ((S0 m q A b c).ins k) x) (m+1)=sumTo (λk=>z (q+k)*uu k x) (m+1):=aj λk hk=>by
        show z (q+k)*Vv m q A b c (q+k) x=_
        rw[b8T hk]
      rw[this]
      by_cases h:x<m+1
      . rw[if_pos h,cz h λk _ hn=>by show z (q+k)*(if x=k then 1 else 0)=0;rw[if_neg (bV hn),cW]]
        show z (q+x)*(if x=x then 1 else 0)=_
        rw[if_pos rfl,jF]
      . rw[if_neg h]
        refine dm λk hk=>?_
        show z (q+k)*(if x=k then 1 else 0)=0
        rw[if_neg (by lia),cW]
    have e2:sumTo (λj=>z ((S0 m q A b c).outs j)*Vv m q A b c ((S0 m q A b c).outs j) x) (q+1)=sumTo (λj=>z j*Vv m q A b c j x) q+z (q+m+1)*(if x<m then b x else 0):=by
      show sumTo (λj=>z (if j<q then j else q+m+1)*Vv m q A b c (if j<q then j else q+m+1) x) q+z (if q<q then q else q+m+1)*Vv m q A b c (if q<q then q else q+m+1) x=_
      rw[if_neg (dO _),b8H];have:sumTo (λj=>z (if j<q then j else q+m+1)*Vv m q A b c (if j<q then j else q+m+1) x) q=sumTo (λj=>z j*Vv m q A b c j x) q:=aj λj hj=>by rw[if_pos hj]
      rw[this]
    rw[e1,e2]
  have am:∀i,i<m->sumTo (λj=>z j*Vv m q A b c j i) q=sumTo (λj=>A i j*z j) q:=λi hi=>aj λj hj=>by rw[Vx hj,if_pos hi,bX]
  have ob:sumTo (λj=>z j*Vv m q A b c j m) q =-sumTo (λj=>c j*z j) q:=by
    rw[show-sumTo (λj=>c j*z j) q=(-1)*sumTo (λj=>c j*z j) q by lia,<-D8];refine aj λj hj=>?_;rw[Vx hj,if_neg (dO _),if_pos rfl,fT,bX];lia
  constructor
  . intro h
    refine⟨λi hi=>?_,?_⟩
    . have:=h i
      rw[e i,if_pos (by lia),if_pos hi,am i hi,bX (z (q+m+1))] at this;lia
    . have:=h m
      rw[e m,if_pos (by lia),if_neg (dO _),ob,cW] at this;lia
  . rintro⟨h1,h2⟩ x
    rw[e x]
    by_cases c1:x<m
    . have:=h1 x c1
      rw[if_pos (by lia),if_pos c1,am x c1,bX (z (q+m+1))];lia
    . by_cases c2:x=m
      . subst c2
        rw[if_pos (by lia),if_neg (dO _),ob,cW];lia
      . rw[if_neg (by lia),if_neg c1,cW,dm λj hj=>by rw[b5Z (by lia),cW]]
        rfl
def cg(m:Nat)(S:Bo)(q v:Nat):Int:=sumTo (λi=>if S.ins i=v then S.T i q else 0) m
def aq(m q:Nat)(S:Bo)(v:Nat):Int:=sumTo (λj=>if S.outs j=v then S.T m j else 0) q
theorem Vz:∀{n},(∀k,k<n->0<=g k)->0<=sumTo g n
 |0,_=>dL 0
 |n+1,h=>by
  have h1:=Vz (g:=g) (n:=n) λk hk=>h k (by lia);have h2:=h n (by lia)
  show 0<=sumTo g n+g n
  lia
structure Of(m q:Nat)(A:Nat->Nat->Int)(b c:Nat->Int)(S:Bo):Prop where
 w:Wf m q (Vv m q A b c) S
 k:∀z,uv m q (Vv m q A b c) S z ↔ uv m q (Vv m q A b c) (S0 m q A b c) z
def of0(hb:∀i,i<m->0<=b i):Of m q A b c (S0 m q A b c):=⟨wf0 hb,λ_=>pC⟩
def Of.fe(O:Of m q A b c S)(C:Choice m q S r cc):Of m q A b c (Lp.fe S r cc) :=
 ⟨O.w.EU C.hr C.hc C.pos C.ratio,λz=>(uv.fe C.hr C.hc).trans (O.k z)⟩
theorem Of.sh(O:Of m q A b c S)v:0<=cg m S q v:=Vz λi hi=>by
 split
 ·exact O.w.CK i hi
 ·exact dL 0
theorem Of.BK(O:Of m q A b c S)(hv:v<q+m):nc m S q v =-cg m S q v:=by
 unfold nc;rw[if_neg (by rw[O.w.oq];lia)]
 show sumTo _ m+(if S.ins m=v then-S.T m q else 0)=_
 rw[if_neg (by rw[O.w.im];lia),gK];unfold cg;rw[show-sumTo (λi=>if S.ins i=v then S.T i q else 0) m=(-1)*sumTo (λi=>if S.ins i=v then S.T i q else 0) m by lia,<-D8];refine aj λi _=>?_
 split<;>lia
theorem Of.Ay(O:Of m q A b c S):(∀i,i<m->sumTo (λj=>A i j*cg m S q j) q+cg m S q (q+i)=b i*S.d)/\sumTo (λj=>c j*cg m S q j) q=S.T m q:=by
 have K:=(EW.mp ((O.k _).mp (O.w.qp (show q<q+1 by lia))));have co:nc m S q (q+m+1)=S.d:=by rw[<-O.w.oq];exact Wf.yi
 have oo:nc m S q (q+m) =-S.T m q:=by rw[<-O.w.im];exact O.w.jd (by lia) (by lia)
 have am:∀g:Nat->Int,sumTo (λj=>g j*nc m S q j) q =-sumTo (λj=>g j*cg m S q j) q:=λg=>by
  rw[show-sumTo (λj=>g j*cg m S q j) q=(-1)*sumTo (λj=>g j*cg m S q j) q by lia,<-D8];refine aj λj hj=>?_;rw[O.BK (by lia),fT];lia
 refine⟨λi hi=>?_,?_⟩
 ·have:=K.1 i hi
  rw[O.BK (by lia),am,co] at this;lia
 ·have:=K.2
  rw[oo,am] at this;lia
theorem Of.jn(h:∀j,j<q->0<=S.T m j)v:0<=aq m q S v:=Vz λj hj=>by
 split
 ·exact h j hj
 ·exact dL 0
theorem b2P(O:Of m q A b c S)(z:Nat->Int):sumTo (λj=>S.T m j*z (S.outs j)) q=sumTo (λv=>aq m q S v*z v) (q+m):=by
 have e:∀v,v<q+m->aq m q S v*z v=sumTo (λj=>(if S.outs j=v then S.T m j else 0)*z v) q:=λv _=>by
  unfold aq;rw[bX,<-D8];exact aj λj _=>bX _ _
 rw[aj e,NY];refine aj λj hj=>?_;rw[cz (O.w.ob j hj) λv _ hn=>by rw[if_neg (bV hn),gY],if_pos rfl]
theorem Of.yj(O:Of m q A b c S)(h:uv m q (Vv m q A b c) (S0 m q A b c) z):S.d*z (q+m)+sumTo (λv=>aq m q S v*z v) (q+m)+S.T m q*z (q+m+1)=0:=by
 have R:=O.w.EV ((O.k z).mpr h) (show m<m+1 by lia);unfold Kc at R
 replace R:S.d*z (S.ins m)+(sumTo (λj=>S.T m j*z (S.outs j)) q+S.T m q*z (S.outs q))=0:=R
 rw[O.w.im,O.w.oq,b2P O] at R;lia
theorem VA(n:Nat):∀k,sumTo g (n+k)=sumTo g n+sumTo (λi=>g (n+i)) k
 |0=>(gK _).symm
 |k+1=>by
  show sumTo g (n+k)+g (n+k)=sumTo g n+(sumTo (λi=>g (n+i)) k+g (n+k))
  rw[VA n k];lia
theorem Of.Hv(O:Of m q A b c S):(∀j,j<q->sumTo (λi=>A i j*aq m q S (q+i)) m=c j*S.d+aq m q S j)/\sumTo (λi=>b i*aq m q S (q+i)) m=S.T m q:=by
 constructor
 ·intro j hj
  have hk:uv m q (Vv m q A b c) (S0 m q A b c) (λv=>if v<q then (if v=j then 1 else 0) else if v<q+m then-A (v-q) j else if v=q+m then c j else 0):=by
   refine EW.mpr ⟨λi hi=>?_,?_⟩
   ·rw[if_neg (by lia),if_pos (by lia),show q+i-q=i by lia,if_neg (by lia),if_neg (by lia),if_neg (by lia),cW,cz hj λk hk hn=>by rw[if_pos hk,if_neg hn,cW],if_pos hj,if_pos rfl]
    lia
   ·rw[if_neg (by lia),if_neg (by lia),if_pos rfl,cz hj λk hk hn=>by rw[if_pos hk,if_neg hn,cW],if_pos hj,if_pos rfl]
    lia
  have R:=O.yj hk;rw[if_neg (by lia),if_neg (by lia),if_pos rfl,if_neg (by lia),if_neg (by lia),if_neg (by lia),cW,VA,cz hj λk hk hn=>by rw[if_pos hk,if_neg hn,cW],if_pos hj,if_pos rfl] at R;have e:sumTo (λi=>aq m q S (q+i)*(if q+i<q then (if q+i=j then 1 else 0) else if q+i<q+m then-A (q+i-q) j else if q+i=q+m then c j else 0)) m =-sumTo (λi=>A i j*aq m q S (q+i)) m:=by
   rw[show-sumTo (λi=>A i j*aq m q S (q+i)) m=(-1)*sumTo (λi=>A i j*aq m q S (q+i)) m by lia,<-D8];refine aj λi hi=>?_;rw[if_neg (by lia),if_pos (by lia),show q+i-q=i by lia,fT,bX];lia
  rw[e,bX S.d] at R;lia
 ·have hk:uv m q (Vv m q A b c) (S0 m q A b c) (λv=>if v<q then 0 else if v<q+m then b (v-q) else if v=q+m then 0 else -1):=by
   refine EW.mpr ⟨λi hi=>?_,?_⟩
   ·rw[if_neg (by lia),if_pos (by lia),show q+i-q=i by lia,if_neg (by lia),if_neg (by lia),if_neg (by lia),dm λk hk=>by rw[if_pos hk,cW]]
    lia
   ·rw[if_neg (by lia),if_neg (by lia),if_pos rfl,dm λk hk=>by rw[if_pos hk,cW]]
  have R:=O.yj hk;rw[if_neg (by lia),if_neg (by lia),if_pos rfl,if_neg (by lia),if_neg (by lia),if_neg (by lia),cW,VA,dm λk hk=>by rw[if_pos hk,cW]] at R;have e:sumTo (λi=>aq m q S (q+i)*(if q+i<q then 0 else if q+i<q+m then b (q+i-q) else if q+i=q+m then 0 else -1)) m=sumTo (λi=>b i*aq m q S (q+i)) m :=
   aj λi hi=>by rw[if_neg (by lia),if_pos (by lia),show q+i-q=i by lia,bX]
  rw[e] at R;lia
end Lp
namespace Rim
open PySem L2
def P8(i:Nat):aO:=PySem.Challenge.pw_rimhouse_k39_whole_desks_and_kept.main.body.getD i (.Pass ⟨0,0,0,0⟩)
abbrev VB:aO:=P8 10
abbrev VC:aO:=P8 11
abbrev VD:aO:=P8 24
abbrev VE:aO:=P8 35
abbrev S2:aO:=P8 37
abbrev X2:aO:=P8 40
abbrev LO:aO:=P8 41
abbrev VF:aO:=P8 49
abbrev VG:aO:=P8 50
abbrev VH:aO:=P8 32
abbrev VI:aO:=P8 53
abbrev LQ:aO:=P8 43
abbrev VL:aO:=P8 45
abbrev c7n:aO:=P8 47
abbrev VM:aO:=P8 93
abbrev VN:aO:=P8 94
abbrev VO:aO:=P8 96
abbrev LR:aO:=P8 97
abbrev M1:aO:=P8 102
abbrev l0:aO:=P8 13
abbrev VP:aO:=P8 19
abbrev Z9:aO:=P8 20
abbrev VQ:aO:=P8 21
abbrev W9:aO:=P8 22
abbrev VR:aO:=P8 23
abbrev X7:aO:=P8 30
abbrev V0:aO:=P8 31
abbrev J9:aO:=P8 33
abbrev Y1:aO:=P8 57
abbrev VS:aO:=P8 58
abbrev VT:aO:=P8 59
abbrev V1:aO:=P8 60
abbrev Z4:aO:=P8 61
abbrev Y7:aO:=P8 62
abbrev VU:aO:=P8 63
abbrev VV:aO:=P8 64
abbrev VW:aO:=P8 67
abbrev S7:aO:=P8 68
abbrev c8v:aO:=P8 70
abbrev t7:aO:=P8 71
abbrev VX:aO:=P8 73
abbrev c7e:aO:=P8 77
abbrev V_:aO:=P8 78
abbrev L6:aO:=P8 79
abbrev c7c:aO:=P8 80
abbrev V':aO:=P8 81
abbrev Wa:aO:=P8 82
abbrev Wb:aO:=P8 83
abbrev R1:aO:=P8 84
abbrev Wc:aO:=P8 85
abbrev Wd:aO:=P8 88
abbrev c7I:aO:=P8 90
abbrev Y2:aO:=P8 91
abbrev t0:aO:=P8 98
abbrev F5:aO:=P8 99
abbrev i6:aO:=P8 100
abbrev h8:aO:=P8 101
abbrev V3:aO:=T5 Wd 0
abbrev S4:aO:=T5 Wd 1
abbrev S5:aO:=T5 Wd 2
abbrev D0:aO:=T5 Y2 0
abbrev b8:aO:=T5 Y2 1
abbrev c7l:aO:=T5 Y2 2
abbrev c7J:aO:=T5 Y2 3
abbrev c7d:aO:=T5 Y2 4
abbrev c7j:aO:=T5 Y2 5
abbrev R0:aO:=T5 Y2 6
abbrev Q1:aO:=T5 Y2 7
abbrev c7u:aO:=T5 Y2 8
abbrev Kf:aO:=P8 36
abbrev Ob:aO:=T5 Kf 0
abbrev Wh:aO:=T5 Kf 1
abbrev Wi:aO:=T5 Kf 2
abbrev Wj:aO:=T5 Kf 3
abbrev W6:aO:=T5 Kf 4
abbrev Wl:aO:=T5 Kf 5
abbrev Wm:aO:=T5 Kf 6
abbrev b6I:Pos:=⟨128,32,128,64⟩
structure v8(mg:aC->Option aE):Prop where
 len:mg "len"=none
 all:mg "all"=none
 any:mg "any"=none
 max:mg "max"=none
 min:mg "min"=none
 sum:mg "sum"=none
 tuple:mg "tuple"=none
 list:mg "list"=none
 int:mg "int"=none
 bool:mg "bool"=none
 range:mg "range"=none
 En:mg "isinstance"=none
 abs:mg "abs"=none
 zip:mg "zip"=none
 enum:mg "enumerate"=none
 ve:mg "ValueError"=none
 so:mg "sorted"=none
def c0f(K:aF):List V->Hp->VK->Prop:=λxs H Q=>Ev2 λp ys=>xs=[.ref p]/\(ah K H p ys\/cq K H p ys)/\Q (.int (ys.length:Int)) H
theorem b2T K(h:X.K=K):K6 X (.builtin "len") (c0f K):=by subst h;exact j6
theorem Wn K(h:X.K=K):JJ X (b8A K):=by subst h;exact j5
theorem IX K{k}{pos}(h:X.K=K)(hc:X.calm=true)(hp:Lq X es t)(hn:(assignEach es X.env).length=n:=by rfl)(gj:(assignEach es X.env).findIdx? (·.1)=none:=by rfl):PG X (.Tuple es k pos) (MW K n t):=by subst h;exact K4 hc hp hn gj
def b8L(K:aF):List V->Hp->VK->Prop:=λxs H Q=>Ev2 λp ys=>xs=[.ref p]/\(ah K H p ys\/cq K H p ys)/\∀l,H l=none->Q (.ref l) (upd H l (.lst ys))
theorem Wo K(h:X.K=K):K6 X (.type "list") (b8L K):=by subst h;exact C5
def vI:V->Int
 |.int i=>i
 |_=>0
theorem T0{ns:List Int}{i:Nat}(h:(ns.map V.int)[i]?=some x):∃k,x=.int k:=by
 rw[aP] at h
 cases hn:ns[i]? with
 |none=>rw[hn] at h;cases h
 |some k=>rw[hn] at h;cases h;exact⟨k,rfl⟩
theorem b8P{N:VK}(h:N (.bl b) H)(e:b'=b):N (.bl b') H:=by simp_all
abbrev i8:=List Int×List Int
def HS(K:aF)(H:Hp)(v:V)(h:i8):Prop:=Ev3 λa t g=>v=.ref a/\cq K H a [.ref t,.ref g]/\cq K H t (h.1.map V.int)/\cq K H g (h.2.map V.int)
abbrev Bk(K:aF)(H:Hp):List V->List i8->Prop:=bR (HS K H)
theorem HS.same(e:af H H')(x:HS K H v h):HS K H' v h:=by
 obtain⟨a,t,g,h0,h1,h2,h3⟩:=x;exact⟨a,t,g,h0,e.cm h1,e.cm h2,e.cm h3⟩
def Bk.same(e:af H H')(x:Bk K H vs hs):Bk K H' vs hs:=aZ.imp' (λ_ _ r=>HS.same e r) x
theorem aZ.at:∀{l₁:List α}{gi:List β},bR F l₁ gi->∀{i:Nat}{x},l₁[i]?=some x->∃y,gi[i]?=some y/\F x y
 |_,_,.nil,_,_,e=>by simp at e
 |_,_,.cons r _,0,_,e=>by simp at e;subst e;exact⟨_,rfl,r⟩
 |_,_,.cons _ t,i+1,x,e=>by
  obtain⟨y,h1,h2⟩:=aZ.at t (by simpa using e);exact⟨y,by simpa using h1,h2⟩
def C8(q:Nat)(S:Lp.Bo)(i:Nat):List Int:=(aW (q+1)).map (S.T i)
def R4(q:Nat)(S:Lp.Bo):List Int:=(aW q).map λj=>(S.outs j:Int)
def Y9(m:Nat)(S:Lp.Bo):List Int:=(aW m).map λi=>(S.ins i:Int)
abbrev bdF(q:Nat)(d:Int)(ca oa ia:aA):List (aC×V):=[("many",.int q),("scale",.int d),("cells",.ref ca),("outs",.ref oa),("ins",.ref ia)]
structure Bd(C:aA)(H:Hp)(p dx ca oa ia:aA)(rs:List aA)(m q:Nat)(S:Lp.Bo):Prop where
 obj:H p=some (.ins C dx (bdF q S.d ca oa ia))
 CQ:H ca=some (.lst (rs.map V.ref))
 len:rs.length=m+1
 row:∀i r,rs[i]?=some r->H r=some (.lst ((C8 q S i).map V.int))
 out:H oa=some (.lst ((R4 q S).map V.int))
 CS:H ia=some (.lst ((Y9 m S).map V.int))
 ne:oa≠ia
structure TB(K:aF)(C:aA):Prop where
 cl:z_ K C
 nM:dg K C "many"
 nS:dg K C "scale"
 nC:dg K C "cells"
 nO:dg K C "outs"
 nI:dg K C "ins"
theorem Bd.yk(B:Bd C H p dx ca oa ia rs m q S)(h:i<m+1):∃r,rs[i]?=some r/\U7 (rs.map V.ref) (i:Int)=some (.ref r):=by
 have h':i<rs.length:=by rw[B.len];exact h
 refine⟨rs[i],aS h',A2 ?_⟩;rw[aP,aS h'];rfl
theorem LS{j:Nat}(h:j<q+1):U7 ((C8 q S i).map V.int) (j:Int)=some (.int (S.T i j)):=A2 (by
 unfold C8;rw[aP,aP,cU h];rfl)
theorem b0h(hl:xs.length=n+1)(h:xs[n]?=some v):U7 xs (-1)=some v:=by
 have e:Bz xs.length (-1)=some n:=by
  unfold Bz;rw[hl,if_neg (by decide),if_pos (by lia)]
  congr 1
  lia
 unfold U7;rw[e];exact h
theorem QX:U7 ((C8 q S i).map V.int) (-1)=some (.int (S.T i q)):=b0h (n:=q) (by unfold C8;simp) (by
 unfold C8;rw[aP,aP,cU (jJ _)];rfl)
theorem Bd.wo(B:Bd C H p dx ca oa ia rs m q S):∃r,rs[m]?=some r/\U7 (rs.map V.ref) (-1)=some (.ref r):=by
 have h':m<rs.length:=by rw[B.len];exact jJ _
 refine⟨rs[m],aS h',b0h (by simpa using B.len) ?_⟩;rw[aP,aS h'];rfl
theorem QY(h:i<m):U7 ((Y9 m S).map V.int) (i:Int)=some (.int (S.ins i)):=A2 (by
 unfold Y9;rw[aP,aP,cU h];rfl)
theorem Wq(h:j<q):U7 ((R4 q S).map V.int) (j:Int)=some (.int (S.outs j)):=A2 (by
 unfold R4;rw[aP,aP,cU h];rfl)
def Bd.fg{P:aA}(B:Bd C H p dx ca oa ia rs m q S)(e:∀b o,H b=some o->(∀ps,o≠.my ps)->H' b=some o):Bd C H' p dx ca oa ia rs m q S :=
 ⟨e _ _ B.obj λ_=>nofun,e _ _ B.CQ λ_=>nofun,B.len,λi r h=>e _ _ (B.row i r h) λ_=>nofun,e _ _ B.out λ_=>nofun,e _ _ B.CS λ_=>nofun,B.ne⟩
def Sz(n m q:Nat)(S:Lp.Bo):Prop:=(∀i j,i<m+1->j<q+1->fh n (S.T i j))/\fh n S.d
theorem b2C(h:fh a x)(yh:a<=b):fh b x:=bS h (lG (by decide) yh)
def LU(q:Nat)(S:Lp.Bo)(i o c:Nat):Bool:=if S.T i q*S.T o c=S.T o q*S.T i c then decide (S.ins i<S.ins o) else decide (S.T i q*S.T o c<S.T o q*S.T i c)
inductive a9j(C:aA)(vs:List V)(H:Hp)(Q:VK)(z3_:XK):Prop|mk:∀(p dx ca oa ia:aA)(rs:List aA)(m q:Nat)(S:Lp.Bo)(i o c:Nat),vs=[.ref p,.int i,.int o,.int c]->Bd C H p dx ca oa ia rs m q S->Sz 4000 m q S->i<m->o<m->c<q+1->Q (.bl (LU q S i o c)) H->a9j C vs H Q z3_
def wq:p7 ["self","row","other","column","left","right"] ["self","row","other","column"] (i9 Wj):={}
theorem b2r(F:df K "is_ahead" "Board.is_ahead" Wj f fd)(T:TB K C):bf P w K mg base J8 (n+1) f fd ["self","row","other","column"] (a9j C):=by
 refine F.oa wq λay A outer s H vs Q E hr h=>?_
 obtain⟨p,dx,ca,oa,ia,rs,m,q,S,i,o,c,rfl,B,hz,hi,ho,hc,k⟩:=h;refine⟨_,j0 (r6 (i:=4) wq.nd rfl (aI rfl) (j8 Qr (l8 j5 (l8 j5 (y4 (pv 0) rfl) (pv 1) (λ_ _=>rfl)) (Eh V2 d0) (λ_ _=>rfl)) (l8 j5 (l8 j5 (y4 (pv 0) rfl) (pv 2) (λ_ _=>rfl)) (pv 3) (λ_ _=>rfl))))
  (j0 (r6 (i:=5) wq.nd rfl (aI rfl) (j8 Qr (l8 j5 (l8 j5 (y4 (pv 0) rfl) (pv 2) (λ_ _=>rfl)) (Eh V2 d0) (λ_ _=>rfl)) (l8 j5 (l8 j5 (y4 (pv 0) rfl) (pv 1) (λ_ _=>rfl)) (pv 3) (λ_ _=>rfl))))
  (j0 (w6 (l5 E6 (pv 4) (pv 5) (r9 _)) (j4 (o4 (Z3 EI (l8 j5 (y4 (pv 0) rfl) (pv 1) (λ_ _=>rfl)) (l8 j5 (y4 (pv 0) rfl) (pv 2) (λ_ _=>rfl)) (r9 _)))) r8)
  (j4 (o4 (Z3 EI (pv 4) (pv 5) (r9 _)))))),?_⟩
 obtain⟨ri,ei,ai⟩:=B.yk (i:=i) (by lia);obtain⟨ro,eo,ao⟩:=B.yk (i:=o) (by lia);have bi:=ah.of (K:=K) (B.row i ri ei);have bo:=ah.of (K:=K) (B.row o ro eo);have z:∀i j,i<m+1->j<q+1->fh 1000000 (S.T i j):=λi j h1 h2=>b2C (hz.1 i j h1 h2) (by decide);refine⟨_,rfl,p,C,dx,_,_,rfl,B.obj,T.cl,T.nC,rfl,_,rfl,ca,_,_,_,rfl,rfl,ah.of B.CQ,ai,_,rfl,ri,_,_,_,rfl,rfl,bi,QX,_,rfl,p,C,dx,_,_,rfl,B.obj,T.cl,T.nC,rfl,_,rfl,ca,_,_,_,rfl,rfl,ah.of B.CQ,ao,_,rfl,ro,_,_,_,rfl,rfl,bo,LS hc,_,_,rfl,rfl,⟨z _ _ (by lia) (by lia),z _ _ (by lia) (by lia)⟩,_,rfl,p,C,dx,_,_,rfl,B.obj,T.cl,T.nC,rfl,_,rfl,ca,_,_,_,rfl,rfl,ah.of B.CQ,ao,_,rfl,ro,_,_,_,rfl,rfl,bo,QX,_,rfl,p,C,dx,_,_,rfl,B.obj,T.cl,T.nC,rfl,_,rfl,ca,_,_,_,rfl,rfl,ah.of B.CQ,ai,_,rfl,ri,_,_,_,rfl,rfl,bi,LS hc,_,_,rfl,rfl,⟨z _ _ (by lia) (by lia),z _ _ (by lia) (by lia)⟩,_,rfl,_,rfl,rfl,_,rfl,?_⟩;unfold LU at k;refine y6 (λe=>?_) (λe=>?_)
 ·have e':S.T i q*S.T o c=S.T o q*S.T i c:=by simpa using e
  rw[if_pos e'] at k;refine⟨_,rfl,p,C,dx,_,_,rfl,B.obj,T.cl,T.nI,rfl,_,rfl,ia,_,_,_,rfl,rfl,ah.of B.CS,QY hi,_,rfl,p,C,dx,_,_,rfl,B.obj,T.cl,T.nI,rfl,_,rfl,ia,_,_,_,rfl,rfl,ah.of B.CS,QY ho,_,_,rfl,rfl,b8P k ?_⟩;simp
 ·have e':¬S.T i q*S.T o c=S.T o q*S.T i c:=by simpa using e
  rw[if_neg e'] at k;exact⟨_,rfl,_,rfl,_,_,rfl,rfl,k⟩
structure LV(P:aM)(w:aL)(K:aF)(mg:aC->Option aE)(base:aJ)(n:Nat)(C:aA)(m:aC)(ps:List aC)(sp:Sp)(f:aA)(fd:aK):Prop where
 ok:bf P w K mg base J8 n f fd ps sp
 bd:Binds K fd ps []
 me:Ly K C m f
def Hw(q:Nat)(S:Lp.Bo)(c r i:Nat):Prop:=S.T r q*S.T i c<=S.T i q*S.T r c/\(S.T r q*S.T i c=S.T i q*S.T r c->S.ins r<=S.ins i)
theorem b0E{ci:Int}(h1:ar*cb<=ab*cr)(h2:ab*ci<=ai*cb)(pr:0<cr)(pb:0<cb)(pi:0<ci):ar*ci<=ai*cr/\(ar*ci=ai*cr->ar*cb=ab*cr/\ab*ci=ai*cb):=by
 have e1:=fH h1 (cC pi);have e2:=fH h2 (cC pr);have x1:ar*cb*ci=ar*ci*cb:=by grind
 have x2:ab*cr*ci=ab*ci*cr:=by grind
 have x3:ai*cb*cr=ai*cr*cb:=by grind
 rw[x1] at e1;rw[x3] at e2;refine⟨Int.le_of_mul_le_mul_right (by lia) pb,λe=>?_⟩;rw[e] at e1;refine⟨Int.eq_of_mul_eq_mul_right (a:=ci) (by lia) (by rw[x1,e];omega),rW (a:=cr) (by lia) (by rw[x3];omega)⟩
theorem Hw.trans(h1:Hw q S c r b)(h2:Hw q S c b i)(pr:0<S.T r c)(pb:0<S.T b c)(pi:0<S.T i c):Hw q S c r i:=by
 obtain⟨a,t⟩:=b0E h1.1 h2.1 pr pb pi;exact⟨a,λe=>bF (h1.2 (t e).1) (h2.2 (t e).2)⟩
theorem b0G(h:LU q S r b c=true):Hw q S c r b:=by
 unfold LU at h
 by_cases e:S.T r q*S.T b c=S.T b q*S.T r c
 ·rw[if_pos e] at h
  exact⟨Int.le_of_eq e,λ_=>gQ (of_decide_eq_true h)⟩
 ·rw[if_neg e] at h
  have:=of_decide_eq_true h;exact⟨Int.le_of_lt this,λz=>absurd z e⟩
theorem b4T(h:LU q S r b c=false):Hw q S c b r:=by
 unfold LU at h
 by_cases e:S.T r q*S.T b c=S.T b q*S.T r c
 ·rw[if_pos e] at h
  exact⟨Int.le_of_eq e.symm,λ_=>uV (of_decide_eq_false h)⟩
 ·rw[if_neg e] at h
  have:=of_decide_eq_false h;exact⟨by lia,λz=>absurd z.symm e⟩
inductive b0c(C:aA)(vs:List V)(H:Hp)(Q:VK)(z3_:XK):Prop|mk:∀(p dx ca oa ia:aA)(rs:List aA)(m q:Nat)(S:Lp.Bo)(c:Nat),vs=[.ref p,.int c]->Bd C H p dx ca oa ia rs m q S->Sz 4000 m q S->m<1000->c<q+1->((∀i,i<m->¬0<S.T i c)->Q .non H)->(∀r,r<m->0<S.T r c->(∀i,i<m->0<S.T i c->Hw q S c r i)->Q (.int r) H)->b0c C vs H Q z3_
def qr:p7 ["self","column","best","row"] ["self","column"] (i9 Wi):={}
theorem b2X(F:df K "going" "Board.going" Wi f fd)(N:v8 mg)(T:TB K C)(A1:LV P w K mg base n C "is_ahead" ["self","row","other","column"] (a9j C) g gd):bf P w K mg base J8 (n+1) f fd ["self","column"] (b0c C):=by
 refine F.oa qr λay A outer s H vs Q E hr h=>?_
 obtain⟨p,dx,ca,oa,ia,rs,m,q,S,c,rfl,B,hz,hm,hc,kN,kI⟩:=h;refine⟨_,j0 (r6 (i:=2) qr.nd rfl (aI rfl) D5)
  (j0 (IF hO rfl (R8 rfl N.range (c6 (j7 j6 rfl N.len bB (c6 (y4 (pv 0) rfl) c7)) c7)) (j9 (i:=3) qr.nd rfl (aI rfl))
   (j4 (w6 (PW.pt (Gv (l5 Ej (l8 j5 (l8 j5 (y4 (pv 0) rfl) (pv 3) (λ_ _=>rfl)) (pv 1) (λ_ _=>rfl)) d0 (r9 _))
     (T4 (PW.pt (U0 (l5 Lv (pv 2) D5 (r9 _)) (R9 (X6 (TQ (pv 0) T.cl A1.me A1.ok hr A1.bd .nil v6 (c6 (pv 3) (c6 (pv 2) (c6 (pv 1) c7)))))))))))
    (j4 (r6 (i:=2) qr.nd rfl (aI rfl) (pv 3))) r8)))
  (j4 (o4 (pv 2)))),?_⟩
 have lm:((Y9 m S).map V.int).length=m:=by unfold Y9;simp
 refine⟨_,rfl,p,C,dx,_,_,rfl,B.obj,T.cl,T.nI,rfl,ia,_,rfl,.inl (ah.of B.CS),_,rfl,(by rw[lm];lia),(by rw[lm];lia),?_⟩;rw[lm,cF];refine PZ (n:=m) (λk σ H'=>Ev2 λ(b o3:Option V)=>σ=[some (.ref p),some (.int c),b,o3]/\H'=H/\((b=some .non/\∀i,i<k->¬0<S.T i c)\/∃r:Nat,b=some (.int r)/\r<k/\0<S.T r c/\∀i,i<k->0<S.T i c->Hw q S c r i))
  ⟨_,_,rfl,rfl,.inl ⟨rfl,λi hi=>absurd hi (xC _)⟩⟩ (λk σ H' hk hP=>?_) λσ H' hP=>?_
 ·obtain⟨b,o3,rfl,rfl,hb⟩:=hP
  obtain⟨rk,ek,ak⟩:=B.yk (i:=k) (by lia);rw[lH _];refine⟨_,rfl,p,C,dx,_,_,rfl,B.obj,T.cl,T.nC,rfl,_,rfl,ca,_,_,_,rfl,rfl,ah.of B.CQ,ak,_,rfl,rk,_,_,_,rfl,rfl,ah.of (B.row k rk ek),LS hc,_,_,rfl,rfl,_,rfl,?_⟩;have keep:¬0<S.T k c->((b=some .non/\∀i,i<k+1->¬0<S.T i c)\/∃r:Nat,b=some (.int r)/\r<k+1/\0<S.T r c/\∀i,i<k+1->0<S.T i c->Hw q S c r i):=λhn=>by
   rcases hb with⟨e,hb⟩|⟨r,e,h1,h2,h3⟩
   ·refine .inl ⟨e,λi hi=>?_⟩
    by_cases z:i=k
    ·subst z;exact hn
    ·exact hb i (by lia)
   ·refine .inr ⟨r,e,by lia,h2,λi hi hp=>?_⟩
    by_cases z:i=k
    ·subst z;exact absurd hp hn
    ·exact h3 i (by lia) hp
  refine y6 (λd=>?_) (λd=>⟨_,_,rfl,rfl,keep (λz=>d (decide_eq_true z))⟩)
  ·have d':0<S.T k c:=of_decide_eq_true d
   rcases hb with⟨rfl,hb⟩|⟨r,rfl,h1,h2,h3⟩
   ·refine⟨_,rfl,rfl,_,rfl,y6 (λ_=>(J3 ⟨_,rfl,⟨_,_,rfl,rfl,.inr ⟨k,rfl,by lia,d',λi hi hp=>?_⟩⟩⟩)) (λz=>absurd (decide_eq_true rfl) z)⟩
    by_cases z:i=k
    ·subst z;exact⟨Int.le_refl _,λ_=>aT _⟩
    ·exact absurd hp (hb i (by lia))
   ·refine⟨_,rfl,rfl,_,rfl,y6 (λz=>absurd (of_decide_eq_true z) (by nofun)) (λ_=>⟨_,rfl,p,dx,_,rfl,B.obj,rfl,_,rfl,_,rfl,_,rfl,p,dx,ca,oa,ia,rs,m,q,S,k,r,c,rfl,B,hz,hk,by lia,hc,_,rfl,y6 (λe=>?_) (λe=>?_)⟩)⟩
    ·refine⟨_,rfl,⟨_,_,rfl,rfl,.inr ⟨k,rfl,by lia,d',λi hi hp=>?_⟩⟩⟩
     by_cases z:i=k
     ·subst z;exact⟨Int.le_refl _,λ_=>aT _⟩
     ·exact(b0G e).trans (h3 i (by lia) hp) d' h2 hp
    ·refine⟨_,_,rfl,rfl,.inr ⟨r,rfl,by lia,h2,λi hi hp=>?_⟩⟩
     by_cases z:i=k
     ·subst z;exact(b4T (eN.mpr e))
     ·exact h3 i (by lia) hp
 ·obtain⟨b,o3,rfl,rfl,hb⟩:=hP
  rcases hb with⟨rfl,hb⟩|⟨r,rfl,h1,h2,h3⟩
  ·exact⟨_,rfl,kN hb⟩
  ·exact⟨_,rfl,kI r h1 h2 h3⟩
abbrev c0q:aC:=("Board.coming"++".<locals>.")++"<lambda>"
abbrev LT(Pt:aA)(H:Hp):Prop:=cu Pt b6I c0q H
inductive Wr(C Pt:aA)(vs:List V)(H:Hp)(Q:VK)(z3_:XK):Prop|mk:∀p dx ca oa ia rs m q S,vs=[.ref p]->Bd C H p dx ca oa ia rs m q S->q<1000->LT Pt H->(∀H',bj Pt H H'->LT Pt H'->((∀j,j<q->¬S.T m j<0)->Q .non H')/\∀j,j<q->S.T m j<0->(∀i,i<q->S.T m i<0->S.outs j<=S.outs i)->Q (.int j) H')->Wr C Pt vs H Q z3_
def yl:p7 ["self","columns"] ["self"] (i9 Wh):={}
theorem b9J:(["column","self"]:List aC).Nodup:=by decide
theorem cu.new(T:cu Pt pos qual H)(h:H a=none):cu Pt pos qual (upd H a o):=T.same λb u e=>by rw[j3 (i7 e h)];exact e
def LW(q:Nat)(S:Lp.Bo)(m:Nat):List Int:=((aW q).filter λj=>decide (S.T m j<0)).map λ(j:Nat)=>(j:Int)
theorem b1Y:((aW q).map λ(i:Nat)=>V.int (0+(i:Int))).filter (λv=>decide (S.T m (vI v).toNat<0))=(LW q S m).map V.int:=by
 unfold LW;rw[List.filter_map,bC];have e:((λv=>decide (S.T m (vI v).toNat<0))∘λ(i:Nat)=>V.int (0+(i:Int)))=λj=>decide (S.T m j<0):=by
  funext j
  show decide (S.T m (vI (V.int (0+(j:Int)))).toNat<0)=_
  rw[show(vI (V.int (0+(j:Int)))).toNat=j from by simp[vI]]
 rw[e];refine fM λj _=>?_;simp
theorem Bd.lam(B:Bd C H p dx ca oa ia rs m q S)(T:LT Pt H)(e:bj Pt H H'):Bd C H' p dx ca oa ia rs m q S:=by
 refine B.fg (P:=Pt) λb o q n=>e b o (λz=>?_) q;subst z;rcases T with t|⟨c,t,_⟩
 ·rw[q] at t;exact n _ (bD t)
 ·rw[q] at t;exact n _ (bD t)
theorem b0B(F:df K "coming" "Board.coming" Wh f fd)(vm:fd.code=.ref c)(CH:oV base c Pt)(BM:QO mg base)(N:v8 mg)(T:TB K C):bf P w K mg base J8 (n+3) f fd ["self"] (Wr C Pt):=by
 refine F.okC vm yl (λvs H Q E h=>?_) λA outer s H vs Q E hr h=>?_
 ·obtain⟨p,dx,ca,oa,ia,rs,m,q,S,rfl,_⟩:=h
  rfl
 obtain⟨p,dx,ca,oa,ia,rs,m,q,S,rfl,B,hq,L,k⟩:=h;refine⟨_,j0 (b2o (i:=1) ["column"] [0] yl.nd rfl rfl rfl (R8 rfl N.range (c6 (y4 (pv 0) rfl) c7)) (λ_ _ _ _=>j9 (i:=0) b9J rfl (aI rfl))
   (λ_ _ _ _=>l5 EI (l8 (Wn K rfl) (l8 (Wn K rfl) (Vf K rfl (pv 1) rfl) (Eh V2 d0) (λ_ _=>rfl)) (pv 0) (λ_ _=>rfl)) d0 (r9 _))
   (λ_ _ _ _=>pv 0))
  (j4 (o4 (b0V (col:="column") (fr:=[0]) (c:=c) (P:=Pt) rfl (hr.mono (by lia)) rfl N.min rfl CH BM rfl rfl (by decide +kernel) rfl rfl rfl (λ_ _ _ _=>rfl) (c6 (pv 1) c7)
   (λ_ _ _ _=>l8 (Wn K rfl) (Vf K rfl (pv 1) rfl) (pv 0) (λ_ _=>rfl))))),?_⟩
 refine⟨_,rfl,p,C,dx,_,_,rfl,B.obj,T.cl,T.nM,rfl,_,rfl,by lia,by lia,?_⟩;rw[cF];intro l hl;obtain⟨rm,em,am⟩:=B.wo;refine Vg a4p hl (by rw[aH,gZ];exact t9 (by lia)) (λv=>decide (S.T m (vI v).toNat<0)) (λi x H' N' hx e hN=>?_) ?_
 ·have f':x=.int (i:Int)/\i<q:=by
   rw[aP] at hx
   by_cases hi:i<q
   ·rw[cU hi] at hx
    refine⟨?_,hi⟩;have:=bD hx;rw[<-this];simp
   ·rw[bW (by simp;lia)] at hx;cases hx
  obtain⟨rfl,hi⟩:=f';have e':∀b o,H b=some o->H' b=some o:=λb o z=>e b o z;refine⟨_,rfl,p,C,dx,_,_,rfl,e' _ _ B.obj,T.cl,T.nC,rfl,_,rfl,ca,_,_,_,rfl,rfl,ah.of (e' _ _ B.CQ),am,_,rfl,rm,_,_,_,rfl,rfl,ah.of (e' _ _ (B.row m rm em)),LS (by lia),_,_,rfl,rfl,_,rfl,?_⟩;have ev:decide (S.T m (vI (V.int (i:Int))).toNat<0)=decide (S.T m i<0):=by rw[show(vI (V.int (i:Int))).toNat=i from by simp[vI]]
  rw[ev] at hN;exact hN
 rw[b1Y];have LX:LT Pt (upd H l (.lst ((LW q S m).map V.int))):=cu.new L hl;have B2:Bd C (upd H l (.lst ((LW q S m).map V.int))) p dx ca oa ia rs m q S:=B.fg (P:=Pt) λb o z _=>by rw[j3 (i7 z hl)];exact z
 have mem:∀x:Int,x∈LW q S m ↔ ∃j:Nat,x=(j:Int)/\j<q/\S.T m j<0:=λx=>by
  unfold LW;rw[aY];constructor
  ·rintro⟨j,hj,rfl⟩
   rw[lI,fF] at hj;exact⟨j,rfl,hj.1,of_decide_eq_true hj.2⟩
  ·rintro⟨j,rfl,h1,h2⟩
   exact⟨j,by rw[lI,fF];exact⟨h1,decide_eq_true h2⟩,rfl⟩
 refine⟨_,rfl,l,_,λx=>(S.outs x.toNat:Int),rfl,ah.of ae,LX,λH2 e2 L3=>?_⟩;have B3:=B2.lam LX e2;have e3:bj Pt H H2:=λb o hb z=>e2 b o hb (by rw[j3 (i7 z hl)];exact z);obtain⟨k1,k2⟩:=k H2 e3 L3;refine⟨λx hx=>?_,λen=>k1 λj hj hn=>?_,λM hM Ax=>?_⟩
 ·obtain⟨j,rfl,hj,hn⟩:=(mem x).mp hx
  exact⟨_,rfl,p,C,dx,_,_,rfl,B3.obj,T.cl,T.nO,rfl,_,rfl,oa,_,_,_,rfl,rfl,ah.of B3.out,Wq hj,by simp,rfl⟩
 ·have:=(mem (j:Int)).mpr ⟨j,rfl,hj,hn⟩
  rw[en] at this
  cases this
 ·obtain⟨j,rfl,hj,hn⟩:=(mem M).mp hM
  refine k2 j hj hn λi hi hni=>?_;have:=Ax (i:Int) ((mem _).mpr ⟨i,rfl,hi,hni⟩)
  simpa using this
def Kg(xs ys:List Int)(c:Nat)(d:Int):List Int:=(cV (λx y=>(x*ys.getD c 0-xs.getD c 0*y)/d) xs ys).set c (-(xs.getD c 0))
theorem a7D{ns:List Int}(h:i<ns.length):U7 (ns.map V.int) (i:Int)=some (.int (ns.getD i 0)):=A2 (by
 rw[aP,aS h,bA,aS h];rfl)
theorem LY{ns:List Int}{i:Nat}(h:(ns.map V.int)[i]?=some x):∃k,x=.int k/\k∈ns:=by
 rw[aP] at h
 cases hn:ns[i]? with
 |none=>rw[hn] at h;cases h
 |some k=>rw[hn] at h;cases h;exact⟨k,rfl,bK hn⟩
theorem a9h(F:V->V->V)(G:Int->Int->Int)(h:∀a b,F (.int a) (.int b)=.int (G a b)):∀xs ys,cV F (xs.map V.int) (ys.map V.int)=(cV G xs ys).map V.int
 |[],_=>by simp
 |_::_,[]=>by simp
 |x::xs,y::ys=>by simp[h,a9h F G h xs ys]
theorem a5r{ns:List Int}(h:i<ns.length):ns.getD i 0∈ns:=by simp_all
inductive Ws(K:aF)(vs:List V)(H:Hp)(Q:VK)(z3_:XK):Prop|mk:∀(a b:aA)(c:Nat)(d:Int)(xs ys:List Int),vs=[.ref a,.ref b,.int c,.int d]->ah K H a (xs.map V.int)->ah K H b (ys.map V.int)->xs.length=ys.length->xs.length<=1000->c<xs.length->0<d->fh 4000 d->(∀x∈xs,fh 4000 x)->(∀y∈ys,fh 4000 y)->(∀r H',af H H'->H r=none->H' r=some (.lst ((Kg xs ys c d).map V.int))->Q (.ref r) H')->Ws K vs H Q z3_
def qt:p7 ["cells","lead","column","scale","factor","pivot","fresh"] ["cells","lead","column","scale"] (i9 VE):={}
theorem b8X:(["cell","other","scale","factor","pivot"]:List aC).Nodup:=by decide
theorem b1w(F:Aj K "swept" VE f fd)(N:v8 mg):bf P w K mg base J8 (n+1) f fd ["cells","lead","column","scale"] (Ws K):=by
 refine F.oa qt λay A outer s H vs Q E hr h=>?_
 obtain⟨a,b,c,d,xs,ys,rfl,ha,hb,hl,hz,hc,hd,hD,hx,hy,k⟩:=h;refine⟨_,j0 (r6 (i:=4) qt.nd rfl (fY rfl) (l8 j5 (pv 0) (pv 2) (λ_ _=>rfl)))
  (j0 (r6 (i:=5) qt.nd rfl (fY rfl) (l8 j5 (pv 1) (pv 2) (λ_ _=>rfl)))
  (j0 (CA (i:=6) ["cell","other"] [3,4,5] qt.nd rfl rfl rfl (QI true true K rfl rfl N.zip (c6 (pv 0) (c6 (pv 1) c7)))
   (λ_ _ _ _=>IX K (n:=2) rfl rfl (p6 (j9 (i:=0) b8X rfl (aI rfl)) (p6 (j9 (i:=1) b8X rfl (aI rfl)) A4)))
   (λ_ _ _ _=>j8 UA (j8 IH (j8 Qr (pv 0) (pv 4)) (j8 Qr (pv 3) (pv 1))) (pv 2)))
  (j0 (D3 (Eh V2 (pv 4)) (Gy (pv 6) (pv 2) O1))
  (j4 (o4 (pv 6)))))),?_⟩
 have Aq:c<ys.length:=by lia
 refine⟨_,rfl,_,rfl,a,_,_,_,rfl,rfl,ha,a7D hc,_,rfl,_,rfl,b,_,_,_,rfl,rfl,hb,a7D Aq,_,rfl,_,rfl,a,b,rfl,⟨_,ha⟩,⟨_,hb⟩,λl jl=>?_⟩;have up:∀{x},fh 4000 x->fh 1000000 x:=λh=>b2C h (by decide);refine b9k ha hb jl (by rw[aH];exact t9 hz) (λu v=>.int ((vI u*ys.getD c 0-xs.getD c 0*vI v)/d)) (λi u v H' N' hu hv e hN=>?_) (λH' e hH=>?_)
 ·obtain⟨x,rfl,Eo⟩:=LY hu
  obtain⟨y,rfl,hym⟩:=LY hv;have dl:d<2^8000:=by
   have h2:(2:Nat)^4000<=2^8000:=lG (by decide) (by decide);have h3:d=(d.natAbs:Int):=by lia
   rw[h3]
   exact_mod_cast bS hD h2
  refine⟨_,rfl,_,rfl,_,_,rfl,rfl,⟨up (hx _ Eo),up (hy _ (a5r Aq))⟩,_,rfl,_,rfl,_,_,rfl,rfl,⟨up (hx _ (a5r hc)),up (hy _ hym)⟩,_,_,rfl,rfl,_,rfl,_,_,rfl,rfl,⟨hd,dl⟩,hN⟩
 ·rw[a9h _ (λx y=>(x*ys.getD c 0-xs.getD c 0*y)/d) (λ_ _=>rfl)] at hH
  refine⟨_,rfl,_,rfl,_,rfl,_,rfl,l,_,_,c,rfl,rfl,hH,?_,?_⟩
  ·unfold Bz
   rw[aH,jS,if_pos (by lia),if_pos (by lia),cF]
  ·refine⟨_,rfl,k l _ ?_ jl ?_⟩
   ·exact λb' o q=>by rw[j3 (i7 q jl)];exact e b' o q
   ·rw[ae]
    unfold Kg;rw[<-rZ]
structure C9(P:aM)(w:aL)(K:aF)(mg:aC->Option aE)(base:aJ)(n:Nat)(x:aC)(ps:List aC)(sp:Sp)(fa:aA)(d:aK):Prop where
 ok:bf P w K mg base J8 n fa d ps sp
 b:Binds K d ps []
 k:dX K (.ref fa)=true
 m:mg x=some (.ref fa)
def C9.c{X:Cx}(C:C9 X.prog X.w X.K X.mg X.base j x ps sp f fd)(hr:b_ j X.A)(ha:PA X (e::es) t)(hg:Gl X x:=by exact rfl)(hd:(x==("__debug__":aC))=false:=by decide)(he:starEach (e::es) X.env=(false,eval e X.env)::starEach es X.env:=by rfl)(hp:(backTo pos (starEach es X.env)).any (·.1)=false:=by rfl):PE X (.Call (.Name x p) (e::es) [] pos) (Qf sp [] E0 t):=l7 C.ok hr hg C.m C.k C.b .nil v6 ha hd he hp
theorem K8:(C8 q S i).length=q+1:=by unfold C8;simp
theorem a5h(h:j<q+1):(C8 q S i).getD j 0=S.T i j:=by
 unfold C8;rw[bA,aP,cU h];rfl
theorem b0N(hi:i≠r)(hc:c<q):Kg (C8 q S i) (C8 q S r) c S.d=C8 q (Lp.fe S r c) i:=by
 refine dR λj=>?_;unfold Kg
 by_cases hj:j<q+1
 ·rw[a5h (by lia),a5h (by lia)]
  have e:(C8 q (Lp.fe S r c) i)[j]?=some ((Lp.fe S r c).T i j):=by unfold C8;rw[aP,cU hj];rfl
  have hT:(Lp.fe S r c).T i j=if j=c then-S.T i c else (S.T i j*S.T r c-S.T i c*S.T r j)/S.d:=by
   show(if i=r then _ else _)=_
   rw[if_neg hi]
  rw[e,hT]
  by_cases wj:j=c
  ·subst wj
   rw[eK (by rw[jS,K8,K8];lia),if_pos rfl]
  ·rw[dP (bV wj),mX,if_neg wj]
   unfold C8;rw[aP,aP,cU hj];rfl
 ·rw[bW (by rw[eE,jS,K8,K8];lia),bW (by rw[K8];lia)]
theorem b3n(hc:c<q):(((C8 q S r).map V.int).take c++[V.int S.d])++((C8 q S r).map V.int).drop (c+1)=(C8 q (Lp.fe S r c) r).map V.int:=by
 have hT:∀j,(Lp.fe S r c).T r j=if j=c then S.d else S.T r j:=λj=>by
  show(if r=r then _ else _)=_
  rw[if_pos rfl]
 have hl:((C8 q S r).map V.int).length=q+1:=by rw[aH,K8]
 refine dR λj=>?_
 by_cases hj:j<q+1
 ·have e:((C8 q (Lp.fe S r c) r).map V.int)[j]?=some (.int (if j=c then S.d else S.T r j)):=by
   rw[aP];unfold C8;rw[aP,cU hj,<-hT];rfl
  have e0:((C8 q S r).map V.int)[j]?=some (.int (S.T r j)):=by
   rw[aP];unfold C8;rw[aP,cU hj];rfl
  rw[e];have lt:(((C8 q S r).map V.int).take c).length=c:=by rw[cI,hl];lia
  by_cases h1:j<c
  ·rw[dH (by rw[aX,lt];lia),dH (by lia),tM h1,e0,if_neg (by lia)]
  ·by_cases h2:j=c
   ·subst h2
    rw[dH (by simp_all),dU (by lia),lt,gL,if_pos rfl];rfl
   ·rw[dU (by rw[aX,lt];simp;lia),aX,lt,wW,if_neg h2]
    have:c+1+(j-(c+[V.int S.d].length))=j:=by simp;lia
    rw[this,e0]
 ·rw[bW (by rw[aX,aX,cI,eJ,hl];simp;lia),bW (by rw[aH,K8];lia)]
theorem b4t(hr:r<m):((Y9 m S).map V.int).set r (.int (S.outs c))=(Y9 m (Lp.fe S r c)).map V.int:=by
 refine dR λj=>?_;have hT:(Lp.fe S r c).ins j=if j=r then S.outs c else S.ins j:=rfl
 by_cases hj:j<m
 ·have e:((Y9 m (Lp.fe S r c)).map V.int)[j]?=some (.int ((if j=r then S.outs c else S.ins j:Nat))):=by
   rw[aP];unfold Y9;rw[aP,cU hj,<-hT];rfl
  rw[e]
  by_cases h:j=r
  ·subst h
   rw[eK (by unfold Y9;simp;lia),if_pos rfl]
  ·rw[dP (bV h),if_neg h,aP]
   unfold Y9;rw[aP,cU hj];rfl
 ·rw[bW (by unfold Y9;simp;lia),bW (by unfold Y9;simp;lia)]
theorem b1A(hc:c<q):((R4 q S).map V.int).set c (.int (S.ins r))=(R4 q (Lp.fe S r c)).map V.int:=by
 refine dR λj=>?_;have hT:(Lp.fe S r c).outs j=if j=c then S.ins r else S.outs j:=rfl
 by_cases hj:j<q
 ·have e:((R4 q (Lp.fe S r c)).map V.int)[j]?=some (.int ((if j=c then S.ins r else S.outs j:Nat))):=by
   rw[aP];unfold R4;rw[aP,cU hj,<-hT];rfl
  rw[e]
  by_cases h:j=c
  ·subst h
   rw[eK (by unfold R4;simp;lia),if_pos rfl]
  ·rw[dP (bV h),if_neg h,aP]
   unfold R4;rw[aP,cU hj];rfl
 ·rw[bW (by unfold R4;simp;lia),bW (by unfold R4;simp;lia)]
theorem LZ(h:i<n):Bz n (i:Int)=some i:=by
 unfold Bz;rw[if_pos (by lia),if_pos (by lia),cF]
section
variable{P:aM}{w:aL}{K:aF}{mg:aC->Option aE}{base:aJ}{f g c Pt:aA}{fd gd:aK}{n:Nat}{C:aA}
inductive a4y(C:aA)(vs:List V)(H:Hp)(Q:VK)(z3_:XK):Prop|mk:∀(p dx ca oa ia:aA)(rs:List aA)(m q:Nat)(S:Lp.Bo)(r c:Nat),vs=[.ref p,.int r,.int c]->Bd C H p dx ca oa ia rs m q S->Sz 4000 m q S->r<m->c<q->m<900->q<900->0<S.d->(∀H' Wt mq,Bd C H' p dx Wt oa ia mq m q (Lp.fe S r c)->(∀b o,b≠p->b≠oa->b≠ia->H b=some o->H' b=some o)->Q .non H')->a4y C vs H Q z3_
def Kh:p7 ["self","row","column","lead","pivot"] ["self","row","column"] (i9 W6):={}
theorem c0w:(["cells","self","column","lead"]:List aC).Nodup:=by decide
def exT{fb:aA}{db:aK}(Cs:C9 P w K mg base n "swept" ["cells","lead","column","scale"] (Ws K) fb db)
  (hr:b_ n (A.deeper (cD "Board.exchange" (i9 W6) s.heap.objs.size f ay))) :
  {t:TS//fu (N8 J8 P w K mg base ["self","row","column","lead","pivot"] "Board.exchange" (i9 W6) f ay A outer s H E).oi (x9 W6) t} :=
 ⟨_,j0 (r6 (i:=3) Kh.nd rfl (fY rfl) (l8 j5 (y4 (pv 0) rfl) (pv 1) λ_ _=>rfl))
  (j0 (r6 (i:=4) Kh.nd rfl (aI rfl) (l8 j5 (pv 3) (pv 2) (λ_ _=>rfl)))
  (t8 (GA (pv 0) (N6 ["cells"] [0,2,3] rfl (C6 (y4 (pv 0) rfl)) (λ_ _ _ _=>j9 (i:=0) c0w rfl (aI rfl))
   (λ_ _ _ _=>Cs.c hr (c6 (pv 0) (c6 (pv 3) (c6 (pv 2) (c6 (Vf K rfl (pv 1) rfl) c7)))))) rfl)
  (j0 (D3 (j8 B9 (j8 B9 (B7 M0 (pv 3) G1 (B8 (pv 2))) (v9 (c6 (y4 (pv 0) rfl) c7))) (B7 M0 (pv 3) (B8 (j8 D4 (pv 2) d0)) G1)) (Gy (y4 (pv 0) rfl) (pv 1) O1))
  (j0 (GA (pv 0) (pv 4) rfl)
  (j4 (D3 (A9 (c6 (l8 j5 (y4 (pv 0) rfl) (pv 2) (λ_ _=>rfl)) (c6 (l8 j5 (y4 (pv 0) rfl) (pv 1) (λ_ _=>rfl)) c7)))
   (K4 rfl (p6 (Gy (y4 (pv 0) rfl) (pv 1) O1) (p6 (Gy (y4 (pv 0) rfl) (pv 2) O1) A4)))))))))⟩
end
def IY:V->aA
 |.ref a=>a
 |_=>0
theorem a7d(h:Sz 4000 m q S)(hi:i<m+1):∀x∈C8 q S i,fh 4000 x:=λx hx=>by
 unfold C8 at hx;obtain⟨j,hj,rfl⟩:=aY.mp hx;exact h.1 i j hi (fF.mp hj)
theorem a6E(F:df K "exchange" "Board.exchange" W6 f fd)(T:TB K C)(Cs:C9 P w K mg base n "swept" ["cells","lead","column","scale"] (Ws K) fb db) :
  bf P w K mg base J8 (n+1) f fd ["self","row","column"] (a4y C):=by
 refine F.oa Kh λay A outer s H vs Q E hr h=>?_
 obtain⟨p,dx,ca,oa,ia,rs,m,q,S,r,c,rfl,B,hz,IW,hc,hm,hq,hd,k⟩:=h;refine⟨_,(exT Cs hr).2,?_⟩;obtain⟨rl,er,ar⟩:=B.yk (i:=r) (by lia);have GH:=B.row r rl er;have nrl:rl≠p:=J7 GH B.obj (by intro z;cases z);have Oc:oa≠p:=J7 B.out B.obj (by intro z;cases z);have L_:ia≠p:=J7 B.CS B.obj (by intro z;cases z);refine⟨_,rfl,p,C,dx,_,_,rfl,B.obj,T.cl,T.nC,rfl,_,rfl,ca,_,_,_,rfl,rfl,ah.of B.CQ,ar,_,rfl,_,rfl,rl,_,_,_,rfl,rfl,ah.of GH,LS (by lia),?_⟩;refine⟨λau H3=>Ev2 λ(l:aA)(mq:List aA)=>au=[some (.ref p),some (.int r),some (.int c),some (.ref rl),some (.int (S.T r c))]/\H3 p=some (.ins C dx (bdF q S.d l oa ia))/\H3 l=some (.lst (mq.map V.ref))/\mq.length=m+1/\H l=none/\
  (∀i a,mq[i]?=some a->H a=none/\a≠l/\H3 a=some (.lst ((Kg (C8 q S i) (C8 q S r) c S.d).map V.int)))/\∀b o,b≠p->H b=some o->H3 b=some o,?_,?_⟩
 ·refine⟨_,rfl,p,C,dx,_,_,rfl,B.obj,T.cl,T.nC,rfl,ca,rfl,⟨_,ah.of B.CQ⟩,λl hl=>?_⟩
  refine N5 (A3 (ah.of B.CQ)) hl (by rw[aH,B.len];exact t9 (by lia)) (λi y H2=>∃a,y=.ref a/\H a=none/\a≠l/\H2 a=some (.lst ((Kg (C8 q S i) (C8 q S r) c S.d).map V.int)))
   (λi y H2 H3 ⟨a,h1,h2,h3,h4⟩ e=>⟨a,h1,h2,h3,e a _ h3 h4⟩) (λi x H2 ys N hx e j_ hN=>?_) (λys H2 e j_ len pr=>?_)
  ·rw[aP] at hx
   cases IZ:rs[i]? with
   |none=>rw[IZ] at hx;cases hx
   |some a =>
    rw[IZ] at hx;have f':V.ref a=x:=bD hx;subst f';have hi:i<m+1:=by rw[<-B.len];exact(cA.mp IZ).1
    refine⟨Wk.set (by decide),_,rfl,_,rfl,_,rfl,_,rfl,p,C,dx,_,_,rfl,e _ _ B.obj,T.cl,T.nS,rfl,a,rl,c,S.d,C8 q S i,C8 q S r,rfl,ah.of (e _ _ (B.row i a IZ)),ah.of (e _ _ GH),by rw[K8,K8],by rw[K8];lia,by rw[K8];lia,hd,hz.2,a7d hz hi,a7d hz (by lia),λr' H3 s3 hn jx=>(hN _ _ s3 ⟨r',rfl,?_,λz=>?_,jx⟩)⟩
    ·cases q1:H r' with
     |none=>rfl
     |some o=>rw[e _ _ q1] at hn;cases hn
    ·rw[z,j_] at hn;cases hn
  ·have oy:=e _ _ B.obj
   have Ep:p≠l:=i7 B.obj hl;refine⟨_,rfl,p,C,dx,_,rfl,oy,T.cl,T.nC,(by show 5<1000;decide),?_⟩;have Wu:ys=(ys.map IY).map V.ref:=by
    rw[bC];refine dR λi=>?_;rw[aP]
    cases qi:ys[i]? with
    |none=>rfl
    |some y =>
     obtain⟨a,rfl,_⟩:=pr i y qi;rfl
   refine⟨l,ys.map IY,rfl,ae,by rw[j3 Ep.symm,j_];rw[<-Wu],by rw[aH,len,aH,B.len],hl,λi a hi=>?_,λb o hb GI=>by rw[j3 hb];exact e _ _ GI⟩;rw[aP] at hi
   cases qi:ys[i]? with
   |none=>rw[qi] at hi;cases hi
   |some y =>
    obtain⟨a',rfl,h2,h3,h4⟩:=pr i y qi;rw[qi] at hi;have:a'=a:=bD hi;subst this;refine⟨h2,h3,?_⟩;rw[j3 (λz=>by rw[z,oy] at h4;cases h4)];exact h4
 ·intro au H3 cw;refine E8 λG_ cy=>?_;obtain⟨l,mq,rfl,hp,hl,hlen,CU,Hx,hk⟩:=cw;subst cy
  have zh:=hk rl _ nrl GH;have lr:((C8 q S r).map V.int).length=q+1:=by rw[aH,K8]
  refine⟨_,rfl,_,rfl,_,rfl,rl,_,rfl,ah.of zh,λa1 h1=>?_⟩;have e1:=af.new h1 (.lst (P5 ((C8 q S r).map V.int) none (some (c:Int))));refine⟨_,rfl,p,C,dx,_,_,rfl,e1 _ _ hp,T.cl,T.nS,rfl,(by show 1<=sizeLine;decide),λa2 h2=>⟨a1,a2,_,_,rfl,rfl,(by rw[j3 (i7 ae h2)];exact ae),ae,?_,λa3 h3=>?_⟩⟩
  ·rw[NS _ _ (by rw[lr];lia),cI,lr]
   have:=t9 (show c+1<=1000 by lia);simp;lia
  have e3:=(e1.trans (af.new h2 (.lst [.int S.d]))).trans (af.new h3 (.lst (P5 ((C8 q S r).map V.int) none (some (c:Int))++[.int S.d])));refine⟨_,rfl,_,rfl,_,_,rfl,rfl,_,rfl,rl,_,rfl,ah.of (e3 _ _ zh),λa4 h4=>?_⟩;have e4:=e3.trans (af.new h4 (.lst (P5 ((C8 q S r).map V.int) (some ((c:Int)+1)) none)));have c1:P5 ((C8 q S r).map V.int) none (some (c:Int))=((C8 q S r).map V.int).take c:=NS _ _ (by rw[lr];lia);have c2:P5 ((C8 q S r).map V.int) (some ((c:Int)+1)) none=((C8 q S r).map V.int).drop (c+1):=by
   have:=NT ((C8 q S r).map V.int) (c+1) (by rw[lr];lia);rw[<-this];rfl
  refine⟨a3,a4,_,_,rfl,rfl,(by rw[j3 (i7 ae h4)];exact ae),ae,?_,λa5 h5=>?_⟩
  ·rw[c1,c2,aX,cI,eJ,lr]
   have:=t9 (show q+1<=1000 by lia);simp;lia
  have uw:(P5 ((C8 q S r).map V.int) none (some (c:Int))++[.int S.d])++P5 ((C8 q S r).map V.int) (some ((c:Int)+1)) none=(C8 q (Lp.fe S r c) r).map V.int:=by rw[c1,c2,b3n hc]
  have QZ:H3 a5=none:=by
   cases z:H3 a5 with
   |none=>rfl
   |some o=>rw[e4 _ _ z] at h5;cases h5
  have e5:=e4.trans (af.new h5 (.lst ((P5 ((C8 q S r).map V.int) none (some (c:Int))++[.int S.d])++P5 ((C8 q S r).map V.int) (some ((c:Int)+1)) none)));have u5:∀H4:Hp,upd H4 a5 (.lst ((P5 ((C8 q S r).map V.int) none (some (c:Int))++[.int S.d])++P5 ((C8 q S r).map V.int) (some ((c:Int)+1)) none)) a5=some (.lst ((C8 q (Lp.fe S r c) r).map V.int)):=λH4=>ae.trans (congrArg (λz=>some (HO.lst z)) uw);have Q_:=hk oa _ Oc B.out;have Ra:=hk ia _ L_ B.CS;have Ep:l≠p:=(i7 B.obj CU).symm;have Er:l≠oa:=(i7 B.out CU).symm;have Rb:l≠ia:=(i7 B.CS CU).symm;have n5p:a5≠p:=(i7 hp QZ).symm;have n5l:a5≠l:=(i7 hl QZ).symm;have lrs:(mq.map V.ref).length=m+1:=by rw[aH];exact hlen
  refine⟨_,rfl,p,C,dx,_,_,rfl,e5 _ _ hp,T.cl,T.nC,rfl,_,rfl,l,_,_,r,rfl,rfl,e5 _ _ hl,LZ (by rw[lrs];lia),_,rfl,_,rfl,p,C,dx,_,rfl,(by rw[j3 Ep.symm];exact e5 _ _ hp),T.cl,T.nS,(by show 5<1000;decide),_,rfl,p,C,dx,_,_,rfl,ae,T.cl,T.nO,rfl,_,rfl,oa,_,_,_,rfl,rfl,ah.of (by rw[j3 Oc,j3 Er.symm];exact e5 _ _ Q_),Wq hc,_,rfl,p,C,dx,_,_,rfl,ae,T.cl,T.nI,rfl,_,rfl,ia,_,_,_,rfl,rfl,ah.of (by rw[j3 L_,j3 Rb.symm];exact e5 _ _ Ra),QY IW,(by show 2<=sizeLine;decide),λt ht=>?_⟩;have Rc:t≠p:=(i7 ae ht).symm;have ntl:t≠l:=by
   refine(i7 (H:=_) (o:=.lst ((mq.map V.ref).set r (.ref a5))) ?_ ht).symm;rw[j3 Ep,ae]
  have nto:t≠oa:=by
   refine(i7 (H:=_) (o:=.lst ((R4 q S).map V.int)) ?_ ht).symm;rw[j3 Oc,j3 Er.symm];exact e5 _ _ Q_
  have nti:t≠ia:=by
   refine(i7 (H:=_) (o:=.lst ((Y9 m S).map V.int)) ?_ ht).symm;rw[j3 L_,j3 Rb.symm];exact e5 _ _ Ra
  refine⟨t,_,rfl,cq.of ae,rfl,_,_,rfl,_,rfl,p,C,dx,_,_,rfl,(by rw[j3 Rc.symm];exact ae),T.cl,T.nI,rfl,_,rfl,ia,_,_,r,rfl,rfl,(by rw[j3 nti.symm,j3 L_,j3 Rb.symm];exact e5 _ _ Ra),LZ (by unfold Y9;simp;lia),_,_,rfl,_,rfl,p,C,dx,_,_,rfl,(by rw[j3 L_.symm,j3 Rc.symm];exact ae),T.cl,T.nO,rfl,_,rfl,oa,_,_,c,rfl,rfl,(by rw[j3 B.ne,j3 nto.symm,j3 Oc,j3 Er.symm];exact e5 _ _ Q_),LZ (by unfold R4;simp;lia),rfl,k _ l (mq.set r a5) ⟨?_,?_,by rw[eE];exact hlen,λi a hi=>?_,?_,?_,B.ne⟩ λb o hb GI Ma hH=>?_⟩
  ·rw[j3 Oc.symm,j3 L_.symm,j3 Rc.symm,ae];rfl
  ·rw[j3 Er,j3 Rb,j3 ntl.symm,j3 Ep,ae,rZ]
  ·by_cases Wv:i=r
   ·subst Wv
    rw[eK (by rw[hlen];lia)] at hi;have:a5=a:=bD hi;subst this;have n5t:a5≠t:=by
     refine i7 (H:=_) (o:=.lst ((C8 q (Lp.fe S i c) i).map V.int)) ?_ ht;rw[j3 n5p,j3 n5l];exact u5 _
    rw[j3 ((i7 Q_ QZ).symm),j3 ((i7 Ra QZ).symm),j3 n5t,j3 n5p,j3 n5l];exact u5 _
   ·rw[dP (bV Wv)] at hi
    obtain⟨g1,g2,g3⟩:=Hx i a hi;have nap:a≠p:=(i7 B.obj g1).symm;have g5:=e5 _ _ g3;have nat:a≠t:=by
     refine i7 (H:=_) (o:=.lst ((Kg (C8 q S i) (C8 q S r) c S.d).map V.int)) ?_ ht;rw[j3 nap,j3 g2];exact g5
    rw[j3 ((i7 B.out g1).symm),j3 ((i7 B.CS g1).symm),j3 nat,j3 nap,j3 g2,<-b0N Wv hc];exact g5
  ·rw[ae,b1A hc]
  ·rw[j3 B.ne.symm,ae,b4t IW]
  ·have h3:=hk b o hb hH
   have nbl:b≠l:=i7 hH CU;have nbt:b≠t:=by
    refine i7 (H:=_) (o:=o) ?_ ht;rw[j3 hb,j3 nbl];exact e5 _ _ h3
   rw[j3 GI,j3 Ma,j3 nbt,j3 hb,j3 nbl];exact e5 _ _ h3
theorem Ww:∀{n},(∀k,k<n->g k=0)->Lp.sumTo g n=0
 |0,_=>rfl
 |n+1,h=>by
  show Lp.sumTo g n+g n=0
  rw[Ww λk hk=>h k (by lia),h n (by lia)];rfl
def Rf(q:Nat)(S:Lp.Bo)(k v:Nat):Int:=Lp.sumTo (λi=>if S.ins i=v then S.T i q else 0) k
def Rg(m:Nat)(S:Lp.Bo)(k v:Nat):Int:=Lp.sumTo (λj=>if S.outs j=v then S.T m j else 0) k
def v7(m q:Nat)(S:Lp.Bo):List Int:=(aW q).map λv=>Lp.cg m S q v
def K1(m q:Nat)(S:Lp.Bo):List Int:=(aW m).map λi=>Lp.aq m q S (q+i)
theorem a6U k:(aQ k [V.int 0]).flatten=(aW k).map λ_=>V.int 0:=by
 induction k with
 |zero=>rfl
 |succ k ih=>rw[List.replicate_succ',List.flatten_append,ih,pE,bQ];rfl
theorem b1x{F G:Nat->Int}(hv:G v=x)(h:∀u,u<n->u≠v->F u=G u):((aW n).map λu=>V.int (F u)).set v (.int x)=(aW n).map λu=>V.int (G u):=by
 refine dR λj=>?_
 by_cases hj:j<n
 ·by_cases e:j=v
  ·subst e
   rw[eK (by simp;lia),aP,cU hj,jV,hv]
  ·rw[dP (bV e),aP,aP,cU hj,jV,jV,h j hj e]
 ·rw[bW (by simp;lia),bW (by simp;lia)]
inductive b1Q(C:aA)(vs:List V)(H:Hp)(Q:VK)(z3_:XK):Prop|mk:∀p dx ca oa ia rs m q S,vs=[.ref p]->Bd C H p dx ca oa ia rs m q S->m<900->q<900->(∀i k,i<m->k<m->S.ins i=S.ins k->i=k)->(∀r H',af H H'->H r=none->H' r=some (.lst ((v7 m q S).map V.int))->Q (.ref r) H')->b1Q C vs H Q z3_
def wu:p7 ["self","told","row","number"] ["self"] (i9 Wl):={}
theorem b4W(F:df K "amounts" "Board.amounts" Wl f fd)(N:v8 mg)(T:TB K C):bf P w K mg base J8 (n+1) f fd ["self"] (b1Q C):=by
 refine F.oa wu λay A outer s H vs Q E hr h=>?_
 obtain⟨p,dx,ca,oa,ia,rs,m,q,S,rfl,B,hm,hq,inj,k⟩:=h;refine⟨_,j0 (r6 (i:=1) wu.nd rfl (aI rfl) (j8 Q6 (v9 (c6 d0 c7)) (y4 (pv 0) rfl)))
  (j0 (IF hO rfl (a9v K rfl rfl N.enum (c6 (y4 (pv 0) rfl) c7)) (IX K (n:=2) rfl rfl (p6 (j9 (i:=2) wu.nd rfl (aI rfl)) (p6 (j9 (i:=3) wu.nd rfl (aI rfl)) A4)))
   (j4 (w6 (l5 EI (pv 3) (y4 (pv 0) rfl) (r9 _)) (j4 (D3 (l8 j5 (l8 j5 (y4 (pv 0) rfl) (pv 2) (λ_ _=>rfl)) (Eh V2 d0) (λ_ _=>rfl)) (Gy (pv 1) (pv 3) O1))) r8)))
  (j4 (o4 (pv 1)))),?_⟩
 have sl:=t9 (show q<=1000 by lia);refine⟨(by show 1<=sizeLine;decide),λz hz=>?_⟩;have ez:=af.new hz (.lst [.int 0]);refine⟨_,rfl,p,C,dx,_,_,rfl,ez _ _ B.obj,T.cl,T.nM,rfl,z,_,_,rfl,rfl,ae,by lia,by lia,(by rw[cF];simp;lia),λtl Hz=>?_⟩;rw[cF,a6U];have Ki:H tl=none:=by
  cases q1:H tl with
  |none=>rfl
  |some o=>rw[ez _ _ q1] at Hz;cases Hz
 have e0:af H (upd (upd H z (.lst [.int 0])) tl (.lst ((aW q).map λ_=>V.int 0))):=ez.write Ki;refine⟨_,rfl,p,C,dx,_,_,rfl,e0 _ _ B.obj,T.cl,T.nI,rfl,ia,rfl,⟨_,ah.of (e0 _ _ B.CS)⟩,?_⟩;have li:((Y9 m S).map V.int).length=m:=by unfold Y9;simp
 refine a7e (xs:=(Y9 m S).map V.int) (i1:=2) (i2:=3) (λj σ H'=>∃o2 o3:Option V,σ=[some (.ref p),some (.ref tl),o2,o3]/\af H H'/\H' tl=some (.lst ((aW q).map λv=>V.int (Rf q S j v))))
  ⟨_,_,rfl,e0,by rw[ae];rfl⟩ (λj σ H' ⟨_,_,_,e,_⟩=>ah.of (e _ _ B.CS)) ?_ ?_
 ·rintro j x σ H1 qq hx ⟨o2,o3,rfl,e1,ht⟩ Wx
  have hj:j<m:=by rw[<-li];exact(cA.mp hx).1
  have f':x=.int (S.ins j):=by
   have:=(A2 hx).symm.trans (QY (S:=S) hj);exact bD this
  subst f';have s1:=af.new Wx (.tup [V.int (j:Int),.int (S.ins j)]);have e2:=e1.trans s1;have Kj:=s1 _ _ ht;refine⟨_,rfl,_,rfl,p,C,dx,_,_,rfl,e2 _ _ B.obj,T.cl,T.nM,rfl,_,_,rfl,rfl,_,rfl,?_⟩;have st:∀v,Rf q S (j+1) v=Rf q S j v+(if S.ins j=v then S.T j q else 0):=λv=>rfl;refine y6 (λd=>?_) (λd=>?_)
  ·have d':S.ins j<q:=by have:=of_decide_eq_true d;lia
   obtain⟨rj,erj,arj⟩:=B.yk (i:=j) (by lia);refine⟨_,rfl,p,C,dx,_,_,rfl,e2 _ _ B.obj,T.cl,T.nC,rfl,_,rfl,ca,_,_,_,rfl,rfl,ah.of (e2 _ _ B.CQ),arj,_,rfl,rj,_,_,_,rfl,rfl,ah.of (e2 _ _ (B.row j rj erj)),QX,_,rfl,_,rfl,tl,_,_,S.ins j,rfl,rfl,Kj,LZ (by simp;lia),_,_,rfl,e2.write Ki,?_⟩;rw[ae]
   congr 2
   refine b1x ?_ λu hu mm=>?_
   ·rw[st,if_pos rfl]
    have:Rf q S j (S.ins j)=0:=Ww λi hi=>if_neg λz=>absurd (inj i j (by lia) hj z) (by lia);rw[this];lia
   ·rw[st,if_neg (bV mm)];lia
  ·have d':¬S.ins j<q:=λz=>d (decide_eq_true (by lia))
   refine⟨_,_,rfl,e2,?_⟩;rw[Kj]
   congr 2
   refine fM λv hv=>?_;rw[st,if_neg (λz=>d' (by rw[z];exact fF.mp hv)),gK]
 ·intro σ H1 cw;refine E8 λG_ cy=>?_;obtain⟨o2,o3,rfl,e1,ht⟩:=cw;subst cy
  rw[li] at ht;refine⟨_,rfl,k tl H1 e1 Ki ?_⟩;rw[ht];unfold v7;rw[bC];rfl
inductive b6g(C:aA)(vs:List V)(H:Hp)(Q:VK)(z3_:XK):Prop|mk:∀p dx ca oa ia rs m q S,vs=[.ref p]->Bd C H p dx ca oa ia rs m q S->m<900->q<900->(∀j k,j<q->k<q->S.outs j=S.outs k->j=k)->(∀j,j<q->S.outs j<q+m)->(∀r H',af H H'->H r=none->H' r=some (.lst ((K1 m q S).map V.int))->Q (.ref r) H')->b6g C vs H Q z3_
def BL:p7 ["self","told","column","number"] ["self"] (i9 Wm):={}
theorem b7Y(F:df K "weights" "Board.weights" Wm f fd)(N:v8 mg)(T:TB K C):bf P w K mg base J8 (n+1) f fd ["self"] (b6g C):=by
 refine F.oa BL λay A outer s H vs Q E hr h=>?_
 obtain⟨p,dx,ca,oa,ia,rs,m,q,S,rfl,B,hm,hq,inj,ob,k⟩:=h;refine⟨_,j0 (r6 (i:=1) BL.nd rfl (aI rfl) (j8 Q6 (v9 (c6 d0 c7)) (j7 j6 rfl N.len bB (c6 (y4 (pv 0) rfl) c7))))
  (j0 (IF hO rfl (a9v K rfl rfl N.enum (c6 (y4 (pv 0) rfl) c7)) (IX K (n:=2) rfl rfl (p6 (j9 (i:=2) BL.nd rfl (aI rfl)) (p6 (j9 (i:=3) BL.nd rfl (aI rfl)) A4)))
   (j4 (w6 (l5 Qb (pv 3) (y4 (pv 0) rfl) (r9 _)) (j4 (D3 (l8 j5 (l8 j5 (y4 (pv 0) rfl) (Eh V2 d0) (λ_ _=>rfl)) (pv 2) (λ_ _=>rfl)) (Gy (pv 1) (j8 IH (pv 3) (y4 (pv 0) rfl)) O1))) r8)))
  (j4 (o4 (pv 1)))),?_⟩
 have sl:=t9 (show m<=1000 by lia);have li:((Y9 m S).map V.int).length=m:=by unfold Y9;simp
 have lo:((R4 q S).map V.int).length=q:=by unfold R4;simp
 refine⟨(by show 1<=sizeLine;decide),λz hz=>?_⟩;have ez:=af.new hz (.lst [.int 0]);refine⟨_,rfl,p,C,dx,_,_,rfl,ez _ _ B.obj,T.cl,T.nI,rfl,ia,_,rfl,.inl (ah.of (ez _ _ B.CS)),z,_,_,rfl,rfl,ae,by lia,by lia,(by rw[li,cF];simp;lia),λtl Hz=>?_⟩;rw[li,cF,a6U];have Ki:H tl=none:=by
  cases q1:H tl with
  |none=>rfl
  |some o=>rw[ez _ _ q1] at Hz;cases Hz
 have e0:af H (upd (upd H z (.lst [.int 0])) tl (.lst ((aW m).map λ_=>V.int 0))):=ez.write Ki;refine⟨_,rfl,p,C,dx,_,_,rfl,e0 _ _ B.obj,T.cl,T.nO,rfl,oa,rfl,⟨_,ah.of (e0 _ _ B.out)⟩,?_⟩;refine a7e (xs:=(R4 q S).map V.int) (i1:=2) (i2:=3) (λj σ H'=>∃o2 o3:Option V,σ=[some (.ref p),some (.ref tl),o2,o3]/\af H H'/\H' tl=some (.lst ((aW m).map λv=>V.int (Rg m S j (q+v)))))
  ⟨_,_,rfl,e0,by rw[ae];rfl⟩ (λj σ H' ⟨_,_,_,e,_⟩=>ah.of (e _ _ B.out)) ?_ ?_
 ·rintro j x σ H1 qq hx ⟨o2,o3,rfl,e1,ht⟩ Wx
  have hj:j<q:=by rw[<-lo];exact(cA.mp hx).1
  have f':x=.int (S.outs j):=by
   have:=(A2 hx).symm.trans (Wq (S:=S) hj);exact bD this
  subst f';have s1:=af.new Wx (.tup [V.int (j:Int),.int (S.outs j)]);have e2:=e1.trans s1;have Kj:=s1 _ _ ht;refine⟨_,rfl,_,rfl,p,C,dx,_,_,rfl,e2 _ _ B.obj,T.cl,T.nM,rfl,_,_,rfl,rfl,_,rfl,?_⟩;have st:∀v,Rg m S (j+1) v=Rg m S j v+(if S.outs j=v then S.T m j else 0):=λv=>rfl;have hob:=ob j hj;refine y6 (λd=>?_) (λd=>?_)
  ·have d':q<=S.outs j:=by have:=of_decide_eq_true d;lia
   obtain⟨rm,erm,arm⟩:=B.wo;refine⟨_,rfl,p,C,dx,_,_,rfl,e2 _ _ B.obj,T.cl,T.nC,rfl,_,rfl,ca,_,_,_,rfl,rfl,ah.of (e2 _ _ B.CQ),arm,_,rfl,rm,_,_,_,rfl,rfl,ah.of (e2 _ _ (B.row m rm erm)),LS (by lia),_,rfl,_,rfl,_,rfl,p,C,dx,_,_,rfl,e2 _ _ B.obj,T.cl,T.nM,rfl,_,_,rfl,rfl,tl,_,_,S.outs j-q,rfl,rfl,Kj,?_,?_⟩
   ·rw[show((S.outs j:Int)-(q:Int))=((S.outs j-q:Nat):Int) by lia]
    exact LZ (by simp;lia)
   refine⟨_,_,rfl,e2.write Ki,?_⟩;rw[ae]
   congr 2
   refine b1x ?_ λu hu mm=>?_
   ·rw[st,if_pos (by lia)]
    have:Rg m S j (q+(S.outs j-q))=0:=Ww λi hi=>if_neg λz=>absurd (inj i j (by lia) hj (by lia)) (by lia);rw[this];lia
   ·rw[st,if_neg (by lia)];lia
  ·have d':¬q<=S.outs j:=λz=>d (decide_eq_true (by lia))
   refine⟨_,_,rfl,e2,?_⟩;rw[Kj]
   congr 2
   refine fM λv hv=>?_;rw[st,if_neg (by lia),gK]
 ·intro σ H1 cw;refine E8 λG_ cy=>?_;obtain⟨o2,o3,rfl,e1,ht⟩:=cw;subst cy
  rw[lo] at ht;refine⟨_,rfl,k tl H1 e1 Ki ?_⟩;rw[ht];unfold K1;rw[bC];rfl
def Y8(rows:List (List Int)):Nat->Nat->Int:=λi j=>(rows.getD i []).getD j 0
def M2(l:List Int):Nat->Int:=λi=>l.getD i 0
abbrev si(K:aF)(H:Hp):List V->List (List Int)->Prop:=bR λv row=>∃a,v=.ref a/\ah K H a (row.map V.int)
section
variable{P:aM}{w:aL}{K:aF}{mg:aC->Option aE}{base:aJ}{f g c Pt:aA}{fd gd:aK}{n:Nat}{C:aA}
inductive b2Q(K:aF)(C:aA)(vs:List V)(H:Hp)(Q:VK)(z3_:XK):Prop|mk:∀p dx ga ra ba goal Es rows bounds m q,vs=[.ref p,.ref ga,.ref ra,.ref ba]->H p=some (.ins C dx [])->ah K H ga (goal.map V.int)->ah K H ra Es->si K H Es rows->ah K H ba (bounds.map V.int)->rows.length=m->bounds.length=m->goal.length=q->(∀r∈rows,r.length=q)->m<900->q<900->(∀H' ca oa ia rs,Bd C H' p dx ca oa ia rs m q (Lp.S0 m q (Y8 rows) (M2 bounds) (M2 goal))->(∀b o,b≠p->H b=some o->H' b=some o)->H oa=none->H ia=none->Q .non H')->b2Q K C vs H Q z3_
def b8b:p7 ["self","goal","rows","bounds"] ["self","goal","rows","bounds"] (i9 Ob):={}
theorem b9C:(["row","bound"]:List aC).Nodup:=by decide
theorem c0F:(["one"]:List aC).Nodup:=by simp
def b9e(N:v8 mg) :
  {t:TS//fu (N8 J8 P w K mg base ["self","goal","rows","bounds"] "Board.__init__" (i9 Ob) f ay A outer s H E).oi (x9 Ob) t} :=
 ⟨_,j0 (GA (pv 0) (j7 j6 rfl N.len bB (c6 (pv 1) c7)) rfl)
  (j0 (GA (pv 0) d0 rfl)
  (t8 (GA (pv 0) (N6 ["row","bound"] [] rfl (QI true true K rfl rfl N.zip (c6 (pv 2) (c6 (pv 3) c7)))
   (λ_ _ _ _=>IX K (n:=2) rfl rfl (p6 (j9 (i:=0) b9C rfl (aI rfl)) (p6 (j9 (i:=1) b9C rfl (aI rfl)) A4)))
   (λ_ _ _ _=>j8 B9 (v5 (Wo K rfl) rfl N.list fJ (c6 (pv 0) c7)) (v9 (c6 (pv 1) c7)))) rfl)
  (t8 (R3 (K7 iK jW jX P2 (y4 (pv 0) rfl)
   (c6 (j8 B9 (N6 ["one"] [] rfl (C6 (pv 1)) (λ_ _ _ _=>j9 (i:=0) c0F rfl (aI rfl)) (λ_ _ _ _=>Eh V2 (pv 0))) (v9 (c6 d0 c7))) c7)))
  (j0 (GA (pv 0) (v5 (a1S rfl) rfl N.list fJ (c6 (v5 b1a rfl N.range xD (c6 (y4 (pv 0) rfl) c7)) c7)) rfl)
  (j4 (GA (pv 0) (v5 (a1S rfl) rfl N.list fJ (c6 (v5 b0n rfl N.range xD (c6 (y4 (pv 0) rfl) (c6 (j8 D4 (y4 (pv 0) rfl) (j7 j6 rfl N.len bB (c6 (pv 2) c7))) c7))) c7)) rfl))))))⟩
end
theorem b7g(hr:rows[i]?=some row)(hb:bounds[i]?=some b)(hl:row.length=q)(hi:i<m) :
  row++[b]=C8 q (Lp.S0 m q (Y8 rows) (M2 bounds) (M2 goal)) i:=by
 refine dR λj=>?_;unfold C8
 by_cases hj:j<q+1
 ·rw[aP,cU hj,jV]
  have hT:(Lp.S0 m q (Y8 rows) (M2 bounds) (M2 goal)).T i j=if j<q then Y8 rows i j else M2 bounds i:=by
   show(if j<q then (if i<m then _ else _) else (if i<m then _ else _))=_
   rw[if_pos hi,if_pos hi]
  rw[hT]
  by_cases h:j<q
  ·rw[dH (by lia),if_pos h]
   unfold Y8;rw[bA,bA,hr,iG,aS (by lia),iG]
  ·rw[dU (by lia),if_neg h,hl,show j-q=0 by lia]
   unfold M2;rw[bA,hb];rfl
 ·rw[bW (by simp;lia),bW (by simp;lia)]
theorem b4P(hl:goal.length=q):goal.map (λx=>-x)++[0]=C8 q (Lp.S0 m q (Y8 rows) (M2 bounds) (M2 goal)) m:=by
 refine dR λj=>?_;unfold C8
 by_cases hj:j<q+1
 ·rw[aP,cU hj,jV]
  have hT:(Lp.S0 m q (Y8 rows) (M2 bounds) (M2 goal)).T m j=if j<q then-M2 goal j else 0:=by
   show(if j<q then (if m<m then _ else _) else (if m<m then _ else _))=_
   rw[if_neg (dO _),if_neg (dO _)]
  rw[hT]
  by_cases h:j<q
  ·rw[dH (by simp;lia),if_pos h,aP]
   unfold M2;rw[bA,aS (by lia),jV,iG]
  ·rw[dU (by simp;lia),if_neg h,aH,hl,show j-q=0 by lia];rfl
 ·rw[bW (by simp;lia),bW (by simp;lia)]
theorem b4B:((aW q).map λ(i:Nat)=>V.int (0+(i:Int)))=(R4 q (Lp.S0 m q A b c)).map V.int:=by
 unfold R4;rw[bC];refine fM λj hj=>?_;have h:(Lp.S0 m q A b c).outs j=j:=if_pos (fF.mp hj);simp[h]
theorem b7h{q:Nat}:((aW m).map λ(i:Nat)=>V.int ((q:Int)+(i:Int)))=(Y9 m (Lp.S0 m q A b c)).map V.int:=by
 unfold Y9;rw[bC];refine fM λj hj=>?_;have h:(Lp.S0 m q A b c).ins j=q+j:=rfl;simp[h]
theorem I_(hp:H p=some (.ins C dx fs))(e:∀b o,b≠p->H b=some o->H' b=some o)(h:ah K H a xs):ah K H' a xs:=by
 rcases h with(h|⟨o,h⟩)|h
 ·exact .inl (.inl (e _ _ (J7 h hp (by simp)) h))
 ·exact .inl (.inr ⟨o,e _ _ (J7 h hp (by lia)) h⟩)
 ·exact .inr h
theorem b4m(F:df K "__init__" "Board.__init__" Ob f fd)(N:v8 mg)(T:TB K C):bf P w K mg base J8 (n+1) f fd ["self","goal","rows","bounds"] (b2Q K C):=by
 refine F.oa b8b λay A outer s H vs Q E hr h=>?_
 obtain⟨p,dx,ga,ra,ba,goal,Es,rows,bounds,m,q,rfl,hp,hg,Et,Rh,ym,lr,lb,lg,GH,hm,hq,k⟩:=h;refine⟨_,(b9e N).2,?_⟩;have lv:Es.length=m:=by rw[<-lr];exact dE Rh
 have k1:∀b o,b≠p->H b=some o->upd (upd H p (.ins C dx [("many",.int q)])) p (.ins C dx [("many",.int q),("scale",.int 1)]) b=some o:=λb o hb e=>by rw[j3 hb,j3 hb];exact e
 refine⟨_,rfl,ga,_,rfl,.inl hg,_,rfl,p,C,dx,_,rfl,hp,T.cl,T.nM,by decide,?_⟩;rw[aH,lg];refine⟨_,rfl,p,C,dx,_,rfl,ae,T.cl,T.nS,(by show 1<1000;decide),?_⟩;refine⟨λau H4=>Ev2 λ(l:aA)(rs:List aA)=>au=[some (.ref p),some (.ref ga),some (.ref ra),some (.ref ba)]/\H4 p=some (.ins C dx [("many",.int q),("scale",.int 1),("cells",.ref l)])/\H4 l=some (.lst (rs.map V.ref))/\rs.length=m/\H l=none/\
  (∀i a,rs[i]?=some a->a≠l/\H4 a=some (.lst ((C8 q (Lp.S0 m q (Y8 rows) (M2 bounds) (M2 goal)) i).map V.int)))/\∀b o,b≠p->H b=some o->H4 b=some o,?_,?_⟩
 ·refine⟨_,rfl,_,rfl,ra,ba,rfl,⟨_,I_ hp k1 Et⟩,⟨_,I_ hp k1 ym⟩,λl hl=>?_⟩
  have Ep:p≠l:=i7 ae hl;have CU:H l=none:=by
   rw[j3 Ep.symm,j3 Ep.symm] at hl;exact hl
  refine QJ (I_ hp k1 Et) (I_ hp k1 ym) hl (by rw[lv];exact t9 (by lia)) (λi y H2=>∃a,y=.ref a/\a≠l/\H2 a=some (.lst ((C8 q (Lp.S0 m q (Y8 rows) (M2 bounds) (M2 goal)) i).map V.int)))
   (λi y H2 H3 ⟨a,h1,h2,h3⟩ e=>⟨a,h1,h2,e a _ h2 h3⟩) (λi x y H2 zs N' hx hy e j_ hN=>?_) (λzs H2 e j_ len pr=>?_)
  ·obtain⟨row,uw,⟨a,rfl,ha⟩⟩:=aZ.at Rh hx
   rw[aP] at hy
   cases Ma:bounds[i]? with
   |none=>rw[Ma] at hy;cases hy
   |some b =>
    rw[Ma] at hy;have T_:V.int b=y:=bD hy;subst T_;have hi:i<m:=by rw[<-lb];exact(cA.mp Ma).1
    have hlen:=GH row (bK uw);refine⟨_,rfl,a,_,rfl,.inl (e.seq (I_ hp k1 ha)),λa1 h1=>?_⟩;have s1:=af.new h1 (.lst (row.map V.int));refine⟨_,rfl,(by show 1<=sizeLine;decide),λa2 h2=>?_⟩;have s2:=s1.trans (af.new h2 (.lst [.int b]));refine⟨a1,a2,_,_,rfl,rfl,(by rw[j3 (i7 ae h2)];exact ae),ae,?_,λa3 h3=>?_⟩
    ·rw[aH,hlen]
     have:=t9 (show q+1<=1000 by lia);simp;lia
    ·refine hN _ _ (s2.trans (af.new h3 _)) ⟨a3,rfl,λz=>?_,?_⟩
     ·rw[z,s2 _ _ j_] at h3;cases h3
     ·rw[ae,<-b7g uw Ma hlen hi,bQ];rfl
  ·have oy:=e _ _ (ae (H:=upd H p (.ins C dx [("many",.int q)])) (a:=p) (o:=.ins C dx [("many",.int q),("scale",.int 1)]))
   refine⟨_,rfl,p,C,dx,_,rfl,oy,T.cl,T.nC,(by show 2<1000;decide),?_⟩;have Wy:zs=(zs.map IY).map V.ref:=by
    rw[bC];refine dR λi=>?_;rw[aP]
    cases qi:zs[i]? with
    |none=>rfl
    |some y =>
     obtain⟨a,rfl,_⟩:=pr i y qi;rfl
   refine⟨l,zs.map IY,rfl,ae,by rw[j3 Ep.symm,j_];rw[<-Wy],by rw[aH,len,lv,aH,lb];lia,CU,λi a hi=>?_,λb o hb GI=>by rw[j3 hb];exact e _ _ (k1 b o hb GI)⟩;rw[aP] at hi
   cases qi:zs[i]? with
   |none=>rw[qi] at hi;cases hi
   |some y =>
    obtain⟨a',rfl,h2,h3⟩:=pr i y qi;rw[qi] at hi;have:a'=a:=bD hi;subst this;refine⟨h2,?_⟩;rw[j3 (λz=>by rw[z,oy] at h3;cases h3)];exact h3
 intro au H4 cw;refine E8 λG_ cy=>?_;obtain⟨l,rs,rfl,Mc,Od,hlen,CU,Hx,hk⟩:=cw;subst cy;have Ep:l≠p:=(i7 hp CU).symm;refine⟨λau H5=>∃mq:List aA,au=[some (.ref p),some (.ref ga),some (.ref ra),some (.ref ba)]/\H5 p=some (.ins C dx [("many",.int q),("scale",.int 1),("cells",.ref l)])/\H5 l=some (.lst (mq.map V.ref))/\mq.length=m+1/\
  (∀i a,mq[i]?=some a->a≠l/\H5 a=some (.lst ((C8 q (Lp.S0 m q (Y8 rows) (M2 bounds) (M2 goal)) i).map V.int)))/\∀b o,b≠p->H b=some o->H5 b=some o,?_,?_⟩
 ·refine⟨_,rfl,p,C,dx,_,_,rfl,Mc,T.cl,T.nC,rfl,.inl ⟨rfl,_,ah.of Od⟩,?_⟩
  have hg4:=I_ hp hk hg;refine⟨_,rfl,ga,rfl,⟨_,hg4⟩,λa1 h1=>(O9 (A3 hg4) h1 (by rw[aH,lg];exact t9 (by lia)) (λx=>.int (-(vI x))) (λi x H' N' hx e hN=>?_) ?_)⟩
  ·obtain⟨x',rfl,_⟩:=LY hx
   exact⟨Wk.set (by decide),_,rfl,_,rfl,hN⟩
  have eg:(goal.map V.int).map (λx=>V.int (-(vI x)))=(goal.map λx=>-x).map V.int:=by rw[bC,bC];rfl
  rw[eg];have s1:=af.new h1 (.lst ((goal.map λx=>-x).map V.int));refine⟨(by show 1<=sizeLine;decide),λa2 h2=>?_⟩;have s2:=s1.trans (af.new h2 (.lst [.int 0]));refine⟨a1,a2,_,_,rfl,rfl,(by rw[j3 (i7 ae h2)];exact ae),ae,?_,λa3 h3=>?_⟩
  ·rw[aH,aH,lg]
   have:=t9 (show q+1<=1000 by lia);simp;lia
  have s3:=s2.trans (af.new h3 (.lst ((goal.map λx=>-x).map V.int++[.int 0])));refine⟨l,_,_,rfl,rfl,s3 _ _ Od,(by rw[aH,hlen];exact t9 (by lia)),?_⟩;have n3l:a3≠l:=λz=>by rw[z,s2 _ _ Od] at h3;cases h3
  have n3p:a3≠p:=λz=>by rw[z,s2 _ _ Mc] at h3;cases h3
  refine⟨rs++[a3],rfl,by rw[j3 Ep.symm];exact s3 _ _ Mc,by rw[ae,bQ];rfl,by rw[aX,hlen];rfl,λi a hi=>?_,λb o hb GI=>by rw[j3 (i7 GI CU)];exact s3 _ _ (hk b o hb GI)⟩
  by_cases him:i<m
  ·rw[dH (by lia)] at hi
   obtain⟨g1,g2⟩:=Hx i a hi;exact⟨g1,by rw[j3 g1];exact s3 _ _ g2⟩
  ·rw[dU (by lia)] at hi
   have hi0:i-rs.length=0:=by grind
   rw[hi0] at hi;have:a3=a:=bD hi;subst this;have:i=m:=by lia
   subst this;refine⟨n3l,?_⟩;rw[j3 n3l,ae,<-b4P lg,bQ];rfl
 intro au H5 cw;refine E8 λG_ cy=>?_;obtain⟨mq,rfl,Oe,hl5,BN,Og,Oh⟩:=cw;subst cy;refine⟨_,rfl,p,C,dx,_,_,rfl,Oe,T.cl,T.nM,rfl,q,rfl,λr1 h1=>?_⟩;have s1:=af.new h1 (.zt 0 (q:Int));refine⟨r1,0,q,rfl,by rw[ae,lH],by lia,by lia,by lia,λoa Md=>?_⟩;have s2:=s1.trans (af.new Md (.lst ((aW q).map λ(i:Nat)=>V.int (0+(i:Int)))));have Oi:H5 oa=none:=by
  cases z:H5 oa with
  |none=>rfl
  |some o=>rw[s1 _ _ z] at Md;cases Md
 have Oj:oa≠p:=(i7 Oe Oi).symm;refine⟨_,rfl,p,C,dx,_,rfl,s2 _ _ Oe,T.cl,T.nO,(by show 3<1000;decide),?_⟩;have lp5:ah K (upd (upd (upd H5 r1 (.zt 0 (q:Int))) oa (.lst ((aW q).map λ(i:Nat)=>V.int (0+(i:Int))))) p (.ins C dx [("many",.int q),("scale",.int 1),("cells",.ref l),("outs",.ref oa)])) ra Es :=
  I_ (s2 _ _ Oe) (λb o hb e=>by rw[j3 hb];exact e) (s2.seq (I_ hp Oh Et))
 refine⟨_,rfl,p,C,dx,_,_,rfl,ae,T.cl,T.nM,rfl,_,rfl,p,C,dx,_,_,rfl,ae,T.cl,T.nM,rfl,_,rfl,ra,_,rfl,.inl lp5,_,_,rfl,rfl,_,_,rfl,λr2 h2=>?_⟩;rw[lv];refine⟨r2,(q:Int),m,rfl,ae,by lia,by lia,by lia,λia Me=>?_⟩;have n2p:r2≠p:=(i7 ae h2).symm;have Ol:ia≠p:=by
  refine(i7 (H:=_) (o:=.ins C dx [("many",.int q),("scale",.int 1),("cells",.ref l),("outs",.ref oa)]) ?_ Me).symm;rw[j3 n2p.symm,ae];rfl
 have oa6:∀o,upd (upd (upd H5 r1 (.zt 0 (q:Int))) oa o) p (.ins C dx [("many",.int q),("scale",.int 1),("cells",.ref l),("outs",.ref oa)]) oa=some o:=λo=>by rw[j3 Oj,ae]
 have n2o:r2≠oa:=(i7 (oa6 _) h2).symm;have nio:ia≠oa:=by
  refine(i7 (H:=_) (o:=.lst ((aW q).map λ(i:Nat)=>V.int (0+(i:Int)))) ?_ Me).symm;rw[j3 n2o.symm];exact oa6 _
 have up:∀b o,b≠p->H5 b=some o->b≠ia/\b≠r2/\upd (upd H5 r1 (.zt 0 (q:Int))) oa (.lst ((aW q).map λ(i:Nat)=>V.int (0+(i:Int)))) b=some o:=λb o hb e=>by
  have e2:=s2 _ _ e;have nb2:b≠r2:=by
   refine i7 (H:=_) (o:=o) ?_ h2;rw[j3 hb];exact e2
  refine⟨i7 (H:=_) (o:=o) ?_ Me,nb2,e2⟩;rw[j3 nb2,j3 hb];exact e2
 refine⟨_,rfl,p,C,dx,_,rfl,(by rw[j3 Ol.symm,j3 n2p.symm];exact ae),T.cl,T.nI,(by show 4<1000;decide),?_⟩;have fin:∀b o,b≠p->H5 b=some o->upd (upd (upd (upd (upd (upd H5 r1 (.zt 0 (q:Int))) oa (.lst ((aW q).map λ(i:Nat)=>V.int (0+(i:Int))))) p (.ins C dx [("many",.int q),("scale",.int 1),("cells",.ref l),("outs",.ref oa)])) r2 (.zt (q:Int) ((q:Int)+(m:Int)))) ia (.lst ((aW m).map λ(i:Nat)=>V.int ((q:Int)+(i:Int))))) p (.ins C dx [("many",.int q),("scale",.int 1),("cells",.ref l),("outs",.ref oa),("ins",.ref ia)]) b=some o:=λb o hb e=>by
  obtain⟨g1,g2,g3⟩:=up b o hb e;rw[j3 hb,j3 g1,j3 g2,j3 hb];exact g3
 have ia5:H5 ia=none:=by
  cases z:H5 ia with
  |none=>rfl
  |some o=>exact absurd rfl (up ia o Ol z).1
 have back:∀b,b≠p->H5 b=none->H b=none:=λb hb z=>by
  cases z2:H b with
  |none=>rfl
  |some o=>rw[Oh b o hb z2] at z;cases z
 refine k _ l oa ia mq ⟨ae,fin _ _ Ep hl5,BN,λi a hi=>fin _ _ (λz=>?_) (Og i a hi).2,?_,?_,nio.symm⟩ (λb o hb GI=>fin b o hb (Oh b o hb GI)) (back _ Oj Oi) (back _ Ol ia5)
 ·have:=(Og i a hi).2
  rw[z,Oe] at this;cases this
 ·rw[j3 Oj,j3 nio.symm,j3 n2o.symm,j3 Oj,ae,b4B]
 ·rw[j3 Ol,ae,b7h]
section
variable{P:aM}{w:aL}{K:aF}{mg:aC->Option aE}{base:aJ}{f Pt:aA}{fd:aK}{n:Nat}{C:aA}
inductive O5(K:aF)(C Pt:aA)(vs:List V)(H:Hp)(Q:VK)(z3_:XK):Prop|mk:∀ga ra ba goal Es rows bounds m q M,vs=[.ref ga,.ref ra,.ref ba]->ah K H ga (goal.map V.int)->ah K H ra Es->si K H Es rows->ah K H ba (bounds.map V.int)->rows.length=m->bounds.length=m->goal.length=q->(∀r∈rows,r.length=q)->m<900->q<900->(∀i,i<m->0<=M2 bounds i)->(∀v,Lp.Fits M (m+1) (Lp.Vv m q (Y8 rows) (M2 bounds) (M2 goal) v))->Lp.ow M (m+1)<2^4000->LT Pt H->(∀S H' t aa wa,Lp.Of m q (Y8 rows) (M2 bounds) (M2 goal) S->(∀j,j<q->¬S.T m j<0)->Sz 4000 m q S->bj Pt H H'->LT Pt H'->H' t=some (.tup [.int (S.T m q),.ref aa,.ref wa,.int S.d]) → H' aa=some (.lst ((v7 m q S).map V.int))->H' wa=some (.lst ((K1 m q S).map V.int))->Q (.ref t) H')->(∀S H' c,Lp.Of m q (Y8 rows) (M2 bounds) (M2 goal) S->c<q->S.T m c<0->(∀i,i<m->¬0<S.T i c)->bj Pt H H'->LT Pt H'->Q .non H')->O5 K C Pt vs H Q z3_
def EY:p7 ["goal","rows","bounds","board","column","row"] ["goal","rows","bounds"] (i9 S2):={}
structure b9d(P:aM)(w:aL)(K:aF)(mg:aC->Option aE)(base:aJ)(n:Nat)(C Pt:aA)(f1 f2 f3 f4 f5 f6:aA)(d1 d2 d3 d4 d5 d6:aK):Prop where
 WA:Mk K C f1
 ini:bf P w K mg base J8 n f1 d1 ["self","goal","rows","bounds"] (b2Q K C)
 GD:Binds K d1 ["self","goal","rows","bounds"] []
 mC:mg "Board"=some (.ref C)
 Mf:LV P w K mg base n C "coming" ["self"] (Wr C Pt) f2 d2
 WB:LV P w K mg base n C "going" ["self","column"] (b0c C) f3 d3
 exc:LV P w K mg base n C "exchange" ["self","row","column"] (a4y C) f4 d4
 WC:LV P w K mg base n C "amounts" ["self"] (b1Q C) f5 d5
 WD:LV P w K mg base n C "weights" ["self"] (b6g C) f6 d6
def grT{f1 f2 f3 f4 f5 f6:aA}{d1 d2 d3 d4 d5 d6:aK}(T:TB K C)(G:b9d P w K mg base n C Pt f1 f2 f3 f4 f5 f6 d1 d2 d3 d4 d5 d6)
  (hr:b_ (n+1) (A.deeper (cD "greatest" (i9 S2) s.heap.objs.size f ay))) (BO:b_ n (A.deeper (cD "greatest" (i9 S2) s.heap.objs.size f ay))) :
  {t:TS//fu (N8 J8 P w K mg base ["goal","rows","bounds","board","column","row"] "greatest" (i9 S2) f ay A outer s H E).oi (x9 S2) t} :=
 ⟨_,j0 (r6 (i:=3) EY.nd rfl (aI rfl) (a9F G.WA G.ini hr rfl G.mC G.GD .nil v6 (c6 (pv 0) (c6 (pv 1) (c6 (pv 2) c7)))))
  (j0 (r6 (i:=4) EY.nd rfl (aI rfl) (M' (pv 3) T.cl G.Mf.me G.Mf.ok BO G.Mf.bd .nil v6))
  (j0 (a7o hO (l5 a9G (pv 4) D5 (r9 _))
   (j0 (r6 (i:=5) EY.nd rfl (aI rfl) (TQ (pv 3) T.cl G.WB.me G.WB.ok BO G.WB.bd .nil v6 (c6 (pv 4) c7)))
   (j0 (w6 (l5 Lv (pv 5) D5 (r9 _)) (j4 (o4 D5)) r8)
   (j0 (R3 (TQ (pv 3) T.cl G.exc.me G.exc.ok BO G.exc.bd .nil v6 (c6 (pv 5) (c6 (pv 4) c7))))
   (j4 (r6 (i:=4) EY.nd rfl (aI rfl) (M' (pv 3) T.cl G.Mf.me G.Mf.ok BO G.Mf.bd .nil v6)))))))
  (j4 (o4 (A9 (c6 (l8 j5 (l8 j5 (y4 (pv 3) rfl) (Eh V2 d0) (λ_ _=>rfl)) (Eh V2 d0) (λ_ _=>rfl))
   (c6 (M' (pv 3) T.cl G.WC.me G.WC.ok BO G.WC.bd .nil v6) (c6 (M' (pv 3) T.cl G.WD.me G.WD.ok BO G.WD.bd .nil v6) (c6 (y4 (pv 3) rfl) c7)))))))))⟩
end
def si.same(e:af H H')(x:si K H vs rs):si K H' vs rs:=aZ.imp' (λ_ _ ⟨a,z,q⟩=>⟨a,z,e.seq q⟩) x
def b9D(O:Lp.Of m q A b c S)(hM:∀v,Lp.Fits M (m+1) (Lp.Vv m q A b c v))(hb:Lp.ow M (m+1)<2^4000):Sz 4000 m q S :=
 ⟨λi j hi hj=>gU (O.w.Hu hM hi hj) hb,gU (O.w.Ht hM) hb⟩
def Cv(m q:Nat)(S:Lp.Bo)(cv:V):Prop:=(cv=.non/\∀j,j<q->¬S.T m j<0)\/∃c:Nat,cv=.int c/\c<q/\S.T m c<0/\∀i,i<q->S.T m i<0->S.outs c<=S.outs i
theorem a7f(F:Aj K "greatest" S2 f fd)(T:TB K C)(G:b9d P w K mg base n C Pt f1 f2 f3 f4 f5 f6 d1 d2 d3 d4 d5 d6) :
  bf P w K mg base J8 (n+2) f fd ["goal","rows","bounds"] (O5 K C Pt):=by
 refine F.oa EY λay A outer s H vs Q E hr h=>?_
 obtain⟨ga,ra,ba,goal,Es,rows,bounds,m,q,M,rfl,hg,Et,Rh,ym,lr,lb,lg,GH,hm,hq,hbn,hM,hB,L,kT,kN⟩:=h;refine⟨_,(grT T G hr (hr.mono (by lia))).2,_,rfl,_,rfl,_,rfl,λp dx hp WG mm=>?_⟩;have e0:af H (upd (upd H dx (.own p)) p (.ins C dx [])):=λb o q'=>by rw[j3 (i7 q' hp),j3 (i7 q' WG)];exact q'
 refine⟨p,dx,ga,ra,ba,goal,Es,rows,bounds,m,q,rfl,ae,e0.seq hg,e0.seq Et,Rh.same e0,e0.seq ym,lr,lb,lg,GH,hm,hq,λH1 ca oa ia rs B k1 Md Me=>⟨rfl,?_⟩⟩;have WH:H oa=none:=by
  cases z:H oa with
  |none=>rfl
  |some o=>rw[e0 _ _ z] at Md;cases Md
 have WI:H ia=none:=by
  cases z:H ia with
  |none=>rfl
  |some o=>rw[e0 _ _ z] at Me;cases Me
 have s1:af H H1:=λb o z=>k1 b o (i7 z hp) (e0 _ _ z);have O0:=Lp.of0 (A:=Y8 rows) (c:=M2 goal) (q:=q) hbn;have Om:∀(S:Lp.Bo)(ca:aA)(rs:List aA)(H2:Hp)(R:V->Hp->Prop),Bd C H2 p dx ca oa ia rs m q S->LT Pt H2->bj Pt H H2->(∀cv H3,Cv m q S cv->Bd C H3 p dx ca oa ia rs m q S->LT Pt H3->bj Pt H H3->R cv H3) →
   Wr C Pt [.ref p] H2 R E0:=λS ca rs H2 R B2 L2 e2 hR=>by
  refine⟨p,dx,ca,oa,ia,rs,m,q,S,rfl,B2,by lia,L2,λH3 e3 L3=>?_⟩;have B3:=B2.lam L2 e3;have e4:bj Pt H H3:=λb o hb z=>e3 b o hb (e2 b o hb z);exact⟨λhn=>hR _ _ (.inl ⟨rfl,hn⟩) B3 L3 e4,λj hj gs Ax=>hR _ _ (.inr ⟨j,rfl,hj,gs,Ax⟩) B3 L3 e4⟩
 refine⟨_,rfl,p,dx,_,rfl,B.obj,rfl,?_⟩;unfold yb;refine Om _ _ _ _ _ B (L.same s1) (λb o _ z=>s1 b o z) λcv H2 WJ B2 L2 e2=>?_;obtain⟨kk,hkk⟩:=O0.w.ends hM;refine⟨λj σ H3=>Ev5 λ(S:Lp.Bo)(ca:aA)(rs:List aA)(cv:V)(o5:Option V)=>σ=[some (.ref ga),some (.ref ra),some (.ref ba),some (.ref p),some cv,o5]/\Lp.Of m q (Y8 rows) (M2 bounds) (M2 goal) S/\Lp.Ends m q S j/\Cv m q S cv/\Bd C H3 p dx ca oa ia rs m q S/\LT Pt H3/\bj Pt H H3,
  ⟨kk,_,ca,rs,cv,_,rfl,O0,hkk,WJ,B2,L2,e2⟩,?_⟩
 rintro j σ H3 ⟨S,ca,rs,cv,o5,rfl,O,hE,WJ,B3,L3,e3⟩;have sz:=b9D O hM hB;refine⟨_,rfl,rfl,_,rfl,?_⟩;rcases WJ with⟨rfl,hn⟩|⟨c,rfl,hc,gs,Ax⟩
 ·refine y6 (λz=>?_) (λ_=>?_)
  ·exact absurd z (by decide)
  obtain⟨rm,em,am⟩:=B3.wo;refine⟨_,rfl,p,C,dx,_,_,rfl,B3.obj,T.cl,T.nC,rfl,_,rfl,ca,_,_,_,rfl,rfl,ah.of B3.CQ,am,_,rfl,rm,_,_,_,rfl,rfl,ah.of (B3.row m rm em),QX,_,rfl,p,dx,_,rfl,B3.obj,rfl,p,dx,ca,oa,ia,rs,m,q,S,rfl,B3,hm,hq,O.w.ii,λaa H4 e4 haa h4=>?_⟩;have B4:Bd C H4 p dx ca oa ia rs m q S:=B3.fg (P:=Pt) λb o z _=>e4 b o z;refine⟨_,rfl,p,dx,_,rfl,B4.obj,rfl,p,dx,ca,oa,ia,rs,m,q,S,rfl,B4,hm,hq,O.w.oo,O.w.ob,λwa H5 e5 hwa h5=>?_⟩;have B5:Bd C H5 p dx ca oa ia rs m q S:=B4.fg (P:=Pt) λb o z _=>e5 b o z;refine⟨_,rfl,p,C,dx,_,_,rfl,B5.obj,T.cl,T.nS,rfl,(by show 4<=sizeLine;decide),λt ht=>?_⟩;have e6:=(e4.trans e5).trans (af.new ht (.tup [.int (S.T m q),.ref aa,.ref wa,.int S.d]));refine kT S _ t aa wa O hn sz (λb o hb z=>e6 b o (e3 b o hb z)) (L3.same e6) ae ?_ ?_
  ·rw[j3 (i7 (e5 _ _ h4) ht)];exact e5 _ _ h4
  ·rw[j3 (i7 h5 ht)];exact h5
 ·refine y6 (λ_=>⟨λau H'=>∃j',j'<j/\Ev5 λ(S:Lp.Bo)(ca:aA)(rs:List aA)(cv:V)(o5:Option V)=>au=[some (.ref ga),some (.ref ra),some (.ref ba),some (.ref p),some cv,o5]/\Lp.Of m q (Y8 rows) (M2 bounds) (M2 goal) S/\Lp.Ends m q S j'/\Cv m q S cv/\Bd C H' p dx ca oa ia rs m q S/\LT Pt H'/\bj Pt H H',λau H' z=>z,_,rfl,p,dx,_,rfl,B3.obj,rfl,_,rfl,p,dx,ca,oa,ia,rs,m,q,S,c,rfl,B3,sz,by lia,by lia,λOo=>⟨_,rfl,rfl,_,rfl,y6 (λ_=>(kN S H3 c O hc gs Oo e3 L3)) (λz=>absurd (decide_eq_true rfl) z)⟩,λr IW ur Oq=>?_⟩) (λz=>absurd rfl z)
  ·have Ch:Lp.Choice m q S r c:=⟨hc,gs,Ax,IW,ur,λi hi dy=>(Oq i hi dy).1,λi hi dy=>(Oq i hi dy).2⟩
   refine⟨_,rfl,rfl,_,rfl,y6 (λz=>absurd (of_decide_eq_true z) (by nofun)) (λ_=>⟨_,rfl,p,dx,_,rfl,B3.obj,rfl,_,rfl,_,rfl,p,dx,ca,oa,ia,rs,m,q,S,r,c,rfl,B3,sz,IW,hc,hm,hq,O.w.pos,λH4 Wt mq B4 k4=>?_⟩)⟩;have tk:∀b o,H3 b=some o->(∀C dx fs,o≠.ins C dx fs)->(∀xs,o≠.lst xs)->H4 b=some o:=λb o z n1 n2=>k4 b o (λy=>by subst y;rw[B3.obj] at z;exact n1 _ _ _ (bD z).symm) (λy=>by subst y;rw[B3.out] at z;exact n2 _ (bD z).symm) (λy=>by subst y;rw[B3.CS] at z;exact n2 _ (bD z).symm) z;have L4:LT Pt H4:=by
    rcases L3 with t|⟨c',t1,t2⟩
    ·exact .inl (tk _ _ t (λ_ _ _=>nofun) λ_=>nofun)
    ·exact .inr ⟨c',tk _ _ t1 (λ_ _ _=>nofun) λ_=>nofun,tk _ _ t2 (λ_ _ _=>nofun) λ_=>nofun⟩
   refine⟨_,rfl,p,dx,_,rfl,B4.obj,rfl,Om _ _ _ _ _ B4 L4 (λb o hb z=>k4 b o (i7 z hp) (i7 z WH) (i7 z WI) (e3 b o hb z)) λcv' H5 WK B5 L5 e5=>?_⟩;obtain⟨j',om,hE'⟩:=hE.next O.w Ch;exact⟨j',om,_,Wt,mq,cv',_,rfl,O.fe Ch,hE',WK,B5,L5,e5⟩
inductive Ri(K:aF)(vs:List V)(H:Hp)(Q:VK)(z3_:XK):Prop|mk:∀(a:aA)(ns:List Int)(k:Int),vs=[.ref a,.int k]->ah K H a (ns.map V.int)->0<=k->(∀c,Q (.int c) H)->Ri K vs H Q z3_
def b7o:p7 ["script","k"] ["script","k"] (i9 VM):={}
theorem b7c{ns:List Int}(h0:0<=k)(h:k<((ns.map V.int).length:Int)):∃v,U7 (ns.map V.int) k=some (.int v):=by
 have hl:(ns.map V.int).length=ns.length:=aH _;have hk:k.toNat<ns.length:=by lia
 have ek:k=((k.toNat:Nat):Int):=by lia
 have q:U7 (ns.map V.int) ((k.toNat:Nat):Int)=some (.int ns[k.toNat]):=A2 (by rw[aP,aS hk];rfl);rw[<-ek] at q;exact⟨_,q⟩
theorem b5t(F:Aj K "_law_cell_at" VM f fd)(T:v8 mg):bf P w K mg base J8 (n+1) f fd ["script","k"] (Ri K):=by
 refine F.oa b7o λay A outer s H vs Q E hr h=>?_
 obtain⟨a,ns,k,rfl,hS,h0,q⟩:=h;refine⟨_,j0 (w6 (l5 EI (pv 1) (j7 j6 rfl T.len bB (c6 (pv 0) c7)) (r9 _)) (j4 (o4 (l8 j5 (pv 0) (pv 1) λ_ _=>rfl))) r8)
  (j4 (o4 d0)),?_⟩
 refine⟨_,rfl,_,rfl,a,_,rfl,.inl hS,_,_,rfl,rfl,_,rfl,y6 (λc=>?_) λc=>q 0⟩
 ·obtain⟨v,hv⟩:=b7c h0 (of_decide_eq_true c)
  exact⟨_,rfl,_,rfl,a,_,_,_,rfl,rfl,hS,hv,q v⟩
inductive Rj(K:aF)(vs:List V)(H:Hp)(Q:VK)(z3_:XK):Prop|mk:∀(c:Int)(many:Nat)(b:Int),vs=[.int c,.int (many:Int),.int b]->many<=900->0<b->b<1073741824->(∀r H'(ds:List Int),af H H'->H' r=some (.lst (ds.map V.int))->ds.length=many->(∀d∈ds,0<=d/\d<b)->Q (.ref r) H')->Rj K vs H Q z3_
def ic:p7 ["cell","many","base","found","rest","stirred","k"] ["cell","many","base"] (i9 VN):={}
theorem b1t{n:Nat}(F:Aj K "_law_draws" VN f fd)(T:v8 mg):bf P w K mg base J8 (n+1) f fd ["cell","many","base"] (Rj K):=by
 refine F.oa ic λay A outer s H vs Q E hr h=>?_
 obtain⟨c,many,b,rfl,hm,Eu,Kk,q⟩:=h;refine⟨_,j0 (r6 (i:=3) ic.nd rfl (aI rfl) (v9 c7))
  (j0 (r6 (i:=4) ic.nd rfl (aI rfl) (j8 He (pv 0) (v5 TH rfl T.int lJ (c6 (Z3 Qb (pv 0) (j8 Qa d0 d0) (r9 _)) c7))))
  (j0 (r6 (i:=5) ic.nd rfl (aI rfl) (j8 w8 (pv 0) d0))
  (j0 (IF hO rfl (R8 rfl T.range (c6 (j8 D4 (pv 1) d0) c7)) (j9 (i:=6) ic.nd rfl (aI rfl))
   (j0 (r6 (i:=5) ic.nd rfl (aI rfl) (j8 w8 (j8 D4 (j8 D4 (j8 D4 (j8 He (pv 5) (pv 5)) (j8 He d0 (pv 5))) (pv 6)) d0) d0))
    (j4 (w6 (PW.pt (Gv (l5 Ej (pv 6) d0 (r9 _)) (T4 (l5 Ej (pv 4) d0 (r9 _)))))
     (j0 (R3 (K7 iK jW jX P2 (pv 3) (c6 (j8 w8 (pv 4) (pv 2)) c7))) (j4 (r6 (i:=4) ic.nd rfl (aI rfl) (j8 V9 (pv 4) (pv 2)))))
     (j4 (w6 (l5 Ej (pv 6) d0 (r9 _)) (j4 (R3 (K7 iK jW jX P2 (pv 3) (c6 (j8 w8 (j8 V9 (pv 5) d0) (pv 2)) c7)))) r8))))))
  (j4 (o4 (pv 3)))))),?_⟩
 refine⟨(by show 0<=sizeLine;decide),λfl LN=>?_⟩;refine⟨_,rfl,_,rfl,_,_,rfl,rfl,⟨by decide,by decide,by decide⟩,_,_,rfl,rfl,.inr ⟨_,rfl,_,_,rfl,rfl,.inr ?_,?_⟩⟩
 ·constructor<;>(split<;>decide)
 refine⟨_,rfl,_,_,rfl,rfl,(by show(0:Int)<2305843009213693951;decide),?_⟩;refine⟨_,rfl,_,_,rfl,rfl,((many:Int)+3),rfl,by lia,by lia,?_⟩;have e3:((many:Int)+3).toNat=many+3:=by lia
 rw[e3];refine PZ (n:=many+3) (λi σ H'=>Ev4 λ(r st:Int)(ds:List Int)(ks:Option V)=>σ=[some (.int c),some (.int (many:Int)),some (.int b),some (.ref fl),some (.int r),some (.int st),ks]/\H'=upd H fl (.lst (ds.map V.int))/\ds.length=i-3/\(∀d∈ds,0<=d/\d<b)/\0<=st/\st<2305843009213693951)
  ⟨_,_,[],none,rfl,rfl,rfl,λd hd=>(by cases hd),fN _ (by decide),eG _ (by decide)⟩ ?_ ?_
 ·rintro i σ H' hi ⟨r,st,ds,ks,rfl,rfl,hl,hd,zi,GJ⟩
  refine⟨_,rfl,_,rfl,_,_,rfl,rfl,.inl ⟨by lia,by lia⟩,_,rfl,_,_,rfl,rfl,.inl ⟨by decide,by decide⟩,_,_,rfl,rfl,_,rfl,_,_,rfl,rfl,_,_,rfl,rfl,_,_,rfl,rfl,(by show(0:Int)<2305843009213693951;decide),?_⟩;have Kl:0<=(st*st+48271*st+(0+(i:Int))+1)%2305843009213693951:=fN _ (by decide);have Km:(st*st+48271*st+(0+(i:Int))+1)%2305843009213693951<2305843009213693951:=eG _ (by decide);refine⟨_,rfl,_,_,rfl,rfl,_,rfl,?_⟩;have hz:(ds.map V.int).length<sizeLine:=by rw[aH];exact t9 (by lia)
  have more:∀d:Int,(ds.map V.int)++[V.int d]=(ds++[d]).map V.int:=λd=>by rw[bQ];rfl
  have mem:∀d:Int,0<=d->d<b->∀d'∈ds++[d],0<=d'/\d'<b:=λd h0 h1 d' zw=>by
   rcases bJ.mp zw with z|z
   ·exact hd d' z
   ·rw[cJ.mp z];exact⟨h0,h1⟩
  refine y6 (λc1=>?_) (λc1=>?_)
  ·have GK:2<0+(i:Int):=of_decide_eq_true c1
   refine⟨_,rfl,_,_,rfl,rfl,_,rfl,?_⟩;refine y6 (λc2=>?_) (λc2=>?_)
   ·refine⟨_,rfl,.inl ⟨rfl,_,ah.of ae⟩,_,rfl,_,rfl,_,_,rfl,rfl,Eu,fl,_,_,rfl,rfl,ae,hz,?_⟩
    refine⟨_,rfl,_,rfl,_,_,rfl,rfl,⟨Eu,Kk⟩,?_⟩;refine⟨_,_,ds++[r%b],_,rfl,?_,?_,mem _ (fN _ (by lia)) (eG _ Eu),Kl,Km⟩
    ·rw[Ju,more]
    ·rw[aX,fR];lia
   ·refine⟨_,rfl,_,_,rfl,rfl,_,rfl,?_⟩
    refine y6 (λc3=>?_) (λc3=>absurd c1 c3);refine⟨_,rfl,.inl ⟨rfl,_,ah.of ae⟩,_,rfl,_,_,rfl,rfl,⟨by decide,by decide⟩,_,rfl,_,_,rfl,rfl,Eu,fl,_,_,rfl,rfl,ae,hz,?_⟩;refine⟨_,_,ds++[(st*st+48271*st+(0+(i:Int))+1)%2305843009213693951/4096%b],_,rfl,?_,?_,mem _ (fN _ (by lia)) (eG _ Eu),Kl,Km⟩
    ·rw[Ju,more]
    ·rw[aX,fR];lia
  ·have GK:¬2<0+(i:Int):=of_decide_eq_false (eN.mpr c1)
   refine M7 ?_;refine⟨_,rfl,_,_,rfl,rfl,_,rfl,?_⟩;refine y6 (λc3=>absurd c3 c1) (λc3=>?_);exact⟨_,_,ds,_,rfl,rfl,by lia,hd,Kl,Km⟩
 ·intro σ H' cw;refine E8 λG_ cy=>?_;obtain⟨r,st,ds,ks,rfl,rfl,hl,hd,_⟩:=cw;subst cy
  exact⟨_,rfl,q fl _ ds (af.new LN _) ae (by lia) hd⟩
theorem Mg{n:Nat}(h0:0<=k)(h1:k<(n:Int)):Bz n k=some k.toNat:=by
 unfold Bz;rw[if_pos h0,if_pos h1]
theorem b5O(h0:0<=k)(h1:k<(xs.length:Int)):∃v,v∈xs/\U7 xs k=some v:=by
 have hk:k.toNat<xs.length:=by lia
 refine⟨xs[k.toNat],eF hk,?_⟩;unfold U7;rw[Mg h0 h1];exact aS hk
theorem K2{ns:List Int}(h0:0<=k)(h1:k<(ns.length:Int)):∃v,v∈ns/\U7 (ns.map V.int) k=some (.int v):=by
 obtain⟨v,hv,e⟩:=b5O (xs:=ns.map V.int) h0 (by simp_all);obtain⟨n,hn,rfl⟩:=aY.mp hv;exact⟨n,hn,e⟩
theorem map_set{ns:List Int}:(ns.map V.int).set j (.int v)=(ns.set j v).map V.int:=by rw[rZ]
structure HG(br:Int)(kt kg:Nat)(h:i8):Prop where
 lt:h.1.length=kt
 lg:h.2.length=kg
 t:∀x∈h.1,1<=x/\x<=br
 g:∀x∈h.2,0<=x/\x<=br
 p:∃x∈h.2,0<x
inductive Ot(K:aF)(vs:List V)(H:Hp)(Q:VK)(z3_:XK):Prop|mk:∀(v:V)(p:aA)(br hi:Int)(h:i8)(ds:List Int)(kt kg:Nat),vs=[v,.ref p,.int br]->HS K H v h->HG hi kt kg h->1<=kt->kt<=4->1<=kg->kg<=4->1<=br->br<=hi->ah K H p (ds.map V.int)->10<=ds.length->(∀d∈ds,0<=d)->(∀r H' h',af H H'->HS K H' r h'->HG hi kt kg h'->Q r H')->Ot K vs H Q z3_
theorem ig:p7 ["house","picks","far","takes","gives","by","at"] ["house","picks","far"] (i9 VO):={}
theorem b4M:(["take","by"]:List aC).Nodup:=by decide
theorem b4v:(["give","by"]:List aC).Nodup:=by decide
theorem b4E(F:Aj K "_law_near" VO f fd)(T:v8 mg):bf P w K mg base J8 (n+1) f fd ["house","picks","far"] (Ot K):=by
 refine F.oa ig λay A outer s H vs Q E hr h=>?_
 obtain⟨v,pk,br,hi,h,ds,kt,kg,rfl,⟨a,t,gv,rfl,h0,h1,h2⟩,hG,ij,wx,Ja,wy,CV,hhi,hP,hd12,NX,q⟩:=h;refine⟨_,j0 (D3 (pv 0) (K4 rfl (p6 (j9 (i:=3) ig.nd rfl (aI rfl)) (p6 (j9 (i:=4) ig.nd rfl (aI rfl)) A4))))
  (j0 (r6 (i:=5) ig.nd rfl (fY rfl) (l8 j5 (v9 (c6 d0 (c6 d0 (c6 d0 (c6 d0 c7))))) (j8 w8 (l8 j5 (pv 1) d0 (λ_ _=>rfl)) d0) (λ_ _=>rfl)))
  (t8 (w6 (l5 Ej (j8 He (j7 (Qq rfl) rfl T.max pF (c6 (j8 a9S (pv 3) (pv 4)) c7)) (pv 5)) (pv 2) (r9 _)) (j4 (r6 (i:=5) ig.nd rfl (fY rfl) d0)) r8)
  (j0 (CA (i:=3) ["take"] [5] ig.nd rfl rfl rfl (IE (pv 3)) (λ_ _ _ _=>j9 (i:=0) b4M rfl (aI rfl)) (λ_ _ _ _=>j8 He (pv 0) (pv 1)))
  (j0 (CA (i:=4) ["give"] [5] ig.nd rfl rfl rfl (IE (pv 4)) (λ_ _ _ _=>j9 (i:=0) b4v rfl (aI rfl)) (λ_ _ _ _=>j8 He (pv 0) (pv 1)))
  (t8 (w6 (l5 E6 (j8 w8 (j8 V9 (l8 j5 (pv 1) d0 (λ_ _=>rfl)) d0) d0) d0 (r9 _))
   (j0 (r6 (i:=6) ig.nd rfl (aI rfl) (j8 w8 (l8 j5 (pv 1) d0 (λ_ _=>rfl)) (j7 j6 rfl T.len bB (c6 (pv 3) c7))))
    (j4 (D3 (j7 (Qc rfl) rfl T.min mY (c6 (pv 2) (c6 (j8 D4 (j8 D4 (l8 j5 (pv 3) (pv 6) (λ_ _=>rfl)) (j8 w8 (j8 V9 (l8 j5 (pv 1) d0 (λ_ _=>rfl)) d0) d0)) d0) c7))) (Gy (pv 3) (pv 6) O1)))) r8)
  (t8 (w6 (l5 E6 (j8 w8 (j8 V9 (l8 j5 (pv 1) d0 (λ_ _=>rfl)) d0) d0) d0 (r9 _))
   (j0 (r6 (i:=6) ig.nd rfl (aI rfl) (j8 w8 (l8 j5 (pv 1) d0 (λ_ _=>rfl)) (j7 j6 rfl T.len bB (c6 (pv 4) c7))))
    (j4 (D3 (j7 (Qc rfl) rfl T.min mY (c6 (pv 2) (c6 (j8 D4 (l8 j5 (pv 4) (pv 6) (λ_ _=>rfl)) d0) c7))) (Gy (pv 4) (pv 6) O1)))) r8)
  (j4 (o4 (A9 (c6 (v5 E7 rfl T.tuple hU (c6 (pv 3) c7)) (c6 (v5 E7 rfl T.tuple hU (c6 (pv 4) c7)) c7))))))))))),?_⟩
 obtain⟨d9,hd9,a9⟩:=K2 (ns:=ds) (k:=9) (by decide) (by lia);obtain⟨d8,hd8,a8⟩:=K2 (ns:=ds) (k:=8) (by decide) (by lia);have p9:=NX d9 hd9;have p8:=NX d8 hd8;refine⟨_,rfl,a,_,rfl,h0,rfl,_,_,rfl,_,_,rfl,rfl,(by show 4<=sizeLine;decide),λlp Rk=>?_⟩;have s1:=af.new Rk (.lst [V.int 1,V.int 1,V.int 2,V.int 3]);obtain⟨bv,hbv,abv⟩:=K2 (ns:=[1,1,2,3]) (k:=d9%4) (by lia) (by show d9%4<4;lia);have hb:1<=bv/\bv<=3:=by
  simp at hbv;rcases hbv with rfl|rfl|rfl<;>decide
 refine⟨_,rfl,pk,_,9,_,rfl,rfl,s1.seq hP,a9,_,_,rfl,rfl,(by show(0:Int)<4;decide),lp,_,_,_,rfl,rfl,ah.of ae,abv,?_⟩;have l1:(h.1.map V.int).length=kt:=by rw[aH];exact hG.lt
 have l2:(h.2.map V.int).length=kg:=by rw[aH];exact hG.lg
 have mm:h.1++h.2≠[]:=λz=>by
  have:=congrArg iT z;rw[aX,hG.lt] at this;simp at this;lia
 refine⟨λau H'=>∃b:Int,au=[some (.ref a),some (.ref pk),some (.int br),some (.ref t),some (.ref gv),some (.int b),none]/\af H H'/\(1<=b/\b<=3)/\∀x∈h.1++h.2,x*b<=hi,?_,?_⟩
 ·refine⟨_,rfl,_,rfl,t,gv,_,_,rfl,rfl,s1.cm h1,s1.cm h2,?_,?_,?_,?_⟩
  ·intro z;rw[z] at l1;simp at l1;lia
  ·rw[l1,l2];exact gQ (t9 (by lia))
  ·intro z;rw[z] at l2;simp at l2;lia
  ·intro _ pc WL
   have s2:=af.new WL (.tup (h.1.map V.int++h.2.map V.int));refine⟨pc,h.1++h.2,rfl,.inr (cq.of (by rw[ae,bQ])),mm,λM hM hMx=>⟨_,rfl,_,_,rfl,rfl,.inr ⟨by lia,by lia⟩,_,rfl,_,_,rfl,rfl,_,rfl,y6 (λc=>?_) (λc=>?_)⟩⟩
   ·refine⟨1,rfl,s1.trans s2,by decide,λx hx=>?_⟩
    rcases bJ.mp hx with z|z
    ·have:=hG.t x z;lia
    ·have:=hG.g x z;lia
   ·have c':¬br<M*bv:=of_decide_eq_false (eN.mpr c)
    refine⟨bv,rfl,s1.trans s2,hb,λx hx=>?_⟩;have:=fH (hMx x hx) (show 0<=bv by lia);lia
 intro au H2 cw;refine E8 λG_ cy=>?_;obtain⟨b,rfl,e2,hb,hbx⟩:=cw;subst cy;have mulok:EH=EH:=rfl;refine⟨_,rfl,t,rfl,⟨_,e2.cm h1⟩,λtl Hz=>(O9 (U3 (e2.cm h1)) Hz (by rw[l1];exact t9 (by lia)) (λx=>.int (vI x*b)) (λi x H' N hx e hN=>?_) ?_)⟩
 ·obtain⟨k,rfl⟩:=T0 hx
  exact⟨Wk.set (by decide),_,rfl,_,rfl,_,_,rfl,rfl,.inr ⟨by lia,by lia⟩,hN⟩
 have e3:=e2.write (o:=.lst ((h.1.map V.int).map λx=>.int (vI x*b))) (e2.free Hz);refine⟨_,rfl,gv,rfl,⟨_,e3.cm h2⟩,λgl Hm=>(O9 (U3 (e3.cm h2)) Hm (by rw[l2];exact t9 (by lia)) (λx=>.int (vI x*b)) (λi x H' N hx e hN=>?_) ?_)⟩
 ·obtain⟨k,rfl⟩:=T0 hx
  exact⟨Wk.set (by decide),_,rfl,_,rfl,_,_,rfl,rfl,.inr ⟨by lia,by lia⟩,hN⟩
 have eA:(h.1.map V.int).map (λx=>V.int (vI x*b))=(h.1.map (·*b)).map V.int:=by rw[bC,bC];rfl
 have eB:(h.2.map V.int).map (λx=>V.int (vI x*b))=(h.2.map (·*b)).map V.int:=by rw[bC,bC];rfl
 have fgl:H gl=none:=e3.free Hm;have ne1:tl≠gl:=λz=>by rw[<-z,ae] at Hm;cases Hm
 rw[eA,eB];rw[eA] at e3;have e4:=e3.write (o:=.lst ((h.2.map (·*b)).map V.int)) fgl;have EZ:upd (upd H2 tl (.lst ((h.1.map (·*b)).map V.int))) gl (.lst ((h.2.map (·*b)).map V.int)) tl=some (.lst ((h.1.map (·*b)).map V.int)):=by rw[j3 ne1,ae]
 have Rl:upd (upd H2 tl (.lst ((h.1.map (·*b)).map V.int))) gl (.lst ((h.2.map (·*b)).map V.int)) gl=some (.lst ((h.2.map (·*b)).map V.int)):=ae;generalize upd (upd H2 tl (.lst ((h.1.map (·*b)).map V.int))) gl (.lst ((h.2.map (·*b)).map V.int))=H4 at e4 EZ Rl⊢;have tA:∀x∈h.1.map (·*b),1<=x/\x<=hi:=λx hx=>by
  obtain⟨y,hy,rfl⟩:=aY.mp hx;have y1:=(hG.t y hy).1;have y3:=wZ y1 hb.1 (by decide) (by lia);exact⟨by simpa using y3,hbx y (fW _ hy)⟩
 have tB:∀x∈h.2.map (·*b),0<=x/\x<=hi:=λx hx=>by
  obtain⟨y,hy,rfl⟩:=aY.mp hx;exact⟨Int.mul_nonneg (hG.g y hy).1 (by lia),hbx y (eL _ hy)⟩
 have tP:∃x∈h.2.map (·*b),0<x:=by
  obtain⟨y,hy,y0⟩:=hG.p;exact⟨y*b,aY.mpr ⟨y,hy,rfl⟩,gJ y0 (by lia)⟩
 have lA:(h.1.map (·*b)).length=kt:=by rw[aH];exact hG.lt
 have lB:(h.2.map (·*b)).length=kg:=by rw[aH];exact hG.lg
 generalize h.1.map (·*b)=A0 at tA lA EZ;generalize h.2.map (·*b)=B0 at tB lB tP Rl;refine⟨λau H'=>Ev2 λ(A1:List Int)(ks:Option V)=>au=[some (.ref a),some (.ref pk),some (.int br),some (.ref tl),some (.ref gl),some (.int b),ks]/\af H H'/\H' tl=some (.lst (A1.map V.int))/\H' gl=some (.lst (B0.map V.int))/\A1.length=kt/\∀x∈A1,1<=x/\x<=hi,?_,?_⟩
 ·refine⟨_,rfl,pk,_,9,_,rfl,rfl,e4.seq hP,a9,_,_,rfl,rfl,⟨by decide,by decide⟩,_,_,rfl,rfl,(by show(0:Int)<3;decide),rfl,_,rfl,y6 (λc=>?_) (λc=>⟨A0,none,rfl,e4,EZ,Rl,lA,tA⟩)⟩;have WM:(A0.map V.int).length=kt:=by rw[aH];exact lA
  refine⟨_,rfl,pk,_,8,_,rfl,rfl,e4.seq hP,a8,_,rfl,tl,_,rfl,.inl (ah.of EZ),_,_,rfl,rfl,(by show(0:Int)<((A0.map V.int).length:Int);rw[WM];lia),?_⟩;have r0:0<=d8%((A0.map V.int).length:Int):=fN _ (by rw[WM];lia);have r1:d8%((A0.map V.int).length:Int)<((A0.map V.int).length:Int):=eG _ (by rw[WM];lia);obtain⟨x,hx,ax⟩:=K2 (ns:=A0) (k:=d8%((A0.map V.int).length:Int)) r0 (by rw[aH] at r1⊢;exact r1);have CC:=tA x hx;refine⟨_,rfl,_,rfl,_,rfl,tl,_,_,_,rfl,rfl,ah.of EZ,ax,_,rfl,pk,_,9,_,rfl,rfl,e4.seq hP,a9,_,_,rfl,rfl,⟨by decide,by decide⟩,_,_,rfl,rfl,(by show(0:Int)<2;decide),_,_,rfl,rfl,_,_,rfl,rfl,_,_,rfl,_,rfl,_,rfl,tl,_,_,_,rfl,rfl,EZ,Mg r0 r1,?_⟩;refine⟨A0.set (d8%((A0.map V.int).length:Int)).toNat _,_,rfl,e4.write (e2.free Hz),by rw[ae,map_set],by rw[j3 (bV ne1)];exact Rl,by rw[eE];exact lA,λy hy=>?_⟩;rcases pD hy with z|z
  ·exact tA y z
  ·rw[z]
   split<;>lia
 intro au H5 cw;refine E8 λG_ cy=>?_;obtain⟨A1,ks,rfl,e5,at5,Rm,lA1,tA1⟩:=cw;subst cy;refine⟨λau H'=>Ev2 λ(B1:List Int)(ks:Option V)=>au=[some (.ref a),some (.ref pk),some (.int br),some (.ref tl),some (.ref gl),some (.int b),ks]/\af H H'/\H' tl=some (.lst (A1.map V.int))/\H' gl=some (.lst (B1.map V.int))/\B1.length=kg/\(∀x∈B1,0<=x/\x<=hi)/\∃x∈B1,0<x,?_,?_⟩
 ·refine⟨_,rfl,pk,_,9,_,rfl,rfl,e5.seq hP,a9,_,_,rfl,rfl,⟨by decide,by decide⟩,_,_,rfl,rfl,(by show(0:Int)<3;decide),rfl,_,rfl,y6 (λc=>?_) (λc=>⟨B0,ks,rfl,e5,at5,Rm,lB,tB,tP⟩)⟩;have Mh:(B0.map V.int).length=kg:=by rw[aH];exact lB
  refine⟨_,rfl,pk,_,8,_,rfl,rfl,e5.seq hP,a8,_,rfl,gl,_,rfl,.inl (ah.of Rm),_,_,rfl,rfl,(by show(0:Int)<((B0.map V.int).length:Int);rw[Mh];lia),?_⟩;have r0:0<=d8%((B0.map V.int).length:Int):=fN _ (by rw[Mh];lia);have r1:d8%((B0.map V.int).length:Int)<((B0.map V.int).length:Int):=eG _ (by rw[Mh];lia);obtain⟨x,hx,ax⟩:=K2 (ns:=B0) (k:=d8%((B0.map V.int).length:Int)) r0 (by rw[aH] at r1⊢;exact r1);have CC:=tB x hx;refine⟨_,rfl,_,rfl,_,rfl,gl,_,_,_,rfl,rfl,ah.of Rm,ax,_,_,rfl,rfl,_,_,rfl,_,rfl,_,rfl,gl,_,_,_,rfl,rfl,Rm,Mg r0 r1,?_⟩;have rn:(d8%((B0.map V.int).length:Int)).toNat<B0.length:=by rw[aH] at r1⊢;lia
  refine⟨B0.set (d8%((B0.map V.int).length:Int)).toNat _,_,rfl,e5.write fgl,by rw[j3 ne1];exact at5,by rw[ae,map_set],by rw[eE];exact lB,λy hy=>?_,_,xE rn _,?_⟩
  ·rcases pD hy with z|z
   ·exact tB y z
   ·rw[z]
    split<;>lia
  ·split<;>lia
 intro au H6 cw;refine E8 λG_ cy=>?_;obtain⟨B1,ks,rfl,e6,at6,ag6,lB1,tB1,tP1⟩:=cw;subst cy;refine⟨_,rfl,tl,_,rfl,.inl ⟨ah.of at6,λpt Ou=>?_⟩⟩;have f1:=af.new Ou (.tup (A1.map V.int));refine⟨_,rfl,gl,_,rfl,.inl ⟨ah.of (f1 _ _ ag6),λpg WN=>?_⟩⟩;have f2:=af.new WN (.tup (B1.map V.int));refine⟨(by show 2<=sizeLine;decide),λpr HA=>?_⟩;have f3:=af.new HA (.tup [V.ref pt,V.ref pg]);exact q _ _ (A1,B1) (e6.trans (f1.trans (f2.trans f3))) ⟨pr,pt,pg,rfl,cq.of ae,cq.of (f3 _ _ (f2 _ _ ae)),cq.of (f3 _ _ ae)⟩ ⟨lA1,lB1,tA1,tB1,tP1⟩
end Rim
namespace L2
open PySem
def ng(H H':Hp):Prop:=∀b o,H b=some o->(∀xs,o≠.lst xs)->H' b=some o
theorem ng.upd(h:H b=some (.lst ys)):ng H (upd H b o):=λc u q n=>by
 have:c≠b:=λz=>by rw[z,h] at q;exact n ys (bD q).symm
 rw[j3 this];exact q
theorem ng.cm(e:ng H H')(h:cq K H a xs):cq K H' a xs:=by
 rcases h with(h|⟨o,h⟩)|h
 ·exact .inl (.inl (e _ _ h λ_ z=>nomatch z))
 ·exact .inl (.inr ⟨o,e _ _ h λ_ z=>nomatch z⟩)
 ·exact .inr h
end L2
namespace Rim
open PySem L2
theorem HS.keep(e:ng H H')(x:HS K H v h):HS K H' v h:=by
 obtain⟨a,t,g,h0,h1,h2,h3⟩:=x;exact⟨a,t,g,h0,e.cm h1,e.cm h2,e.cm h3⟩
def Bk.keep(e:ng H H')(x:Bk K H vs hs):Bk K H' vs hs:=aZ.imp' (λ_ _ r=>HS.keep e r) x
def WO(ns:List Int):dI:=.tuple (ns.map gM)
def Y5(h:i8):dI:=.tuple [WO h.1,WO h.2]
theorem WQ:∀ns:List Int,qc K H (ns.map V.int) (ns.map gM)
 |[]=>.nil
 |n::r=>.cons (.int n) (WQ r)
theorem HS.dp(x:HS K H v h):Dp K H v (Y5 h):=by
 obtain⟨a,t,g,rfl,h1,h2,h3⟩:=x;exact .tup h1 (.cons (.tup h2 (WQ _)) (.cons (.tup h3 (WQ _)) .nil))
theorem Bk.dps:∀{vs}{hs},Bk K H vs hs->qc K H vs (hs.map Y5)
 |_,_,.nil=>.nil
 |_,_,.cons x r=>.cons x.dp (Bk.dps r)
theorem WR:∀ns:List Int,cP (ns.map gM)=true
 |[]=>by rw[jY,cP]
 |n::r=>by rw[cS,cP,WR r,fU];rfl
theorem WS h:(Y5 h).canLay0=true:=by
 unfold Y5 WO;rw[fU,cP,fU,WR,cP,fU,WR,cP];rfl
theorem a7E:∀hs:List i8,cP (hs.map Y5)=true
 |[]=>by rw[jY,cP]
 |h::r=>by rw[cS,cP,WS,a7E r];rfl
section
variable{P:aM}{w:aL}{K:aF}{mg:aC->Option aE}{base:aJ}{f g:aA}{fd gd:aK}
inductive a9g(K:aF)(vs:List V)(H:Hp)(Q:VK)(z3_:XK):Prop|mk:∀(a:aA)(ns:List Int)(at' most br:Int),vs=[.ref a,.int at',.int most,.int br]->ah K H a (ns.map V.int)->0<=at'->1<=most->most<=900->1<=br->(∀r H' xs hs kt kg,af H H'->H' r=some (.lst xs)->Bk K H' xs hs->1<=hs.length->(hs.length:Int)<=most->1<=kt->kt<=4->1<=kg->kg<=4->(∀h∈hs,HG br kt kg h)->Q (.ref r) H')->a9g K vs H Q z3_
def dq:p7 ["script","at","most","far","heads","kinds","many","size","book","k","picks","takes","some","gives","house"] ["script","at","most","far"] (i9 LR):={}
theorem a8W:(["pick","size"]:List aC).Nodup:=by decide
def abT{dc dw dn:aK}{ay:aE}{A:aV}{outer:List Env}{s:aG}{H:Hp}{E:XK}(T:v8 mg)
  (Gc:bf P w K mg base J8 n fc dc ["script","k"] (Ri K)) (bc:Binds K dc ["script","k"] []) (kc:dX K (.ref fc)=true) (mc:mg "_law_cell_at"=some (.ref fc))
  (Gw:bf P w K mg base J8 n fw dw ["cell","many","base"] (Rj K)) (bw:Binds K dw ["cell","many","base"] []) (kw:dX K (.ref fw)=true) (mw:mg "_law_draws"=some (.ref fw))
  (Gn:bf P w K mg base J8 n fn dn ["house","picks","far"] (Ot K)) (bn:Binds K dn ["house","picks","far"] []) (kn:dX K (.ref fn)=true) (mn:mg "_law_near"=some (.ref fn))
  (hr:b_ n (A.deeper (cD "_law_a_book" (i9 LR) s.heap.objs.size f ay))) :
  {t:TS//fu (N8 J8 P w K mg base ["script","at","most","far","heads","kinds","many","size","book","k","picks","takes","some","gives","house"] "_law_a_book" (i9 LR) f ay A outer s H E).oi (x9 LR) t} :=
 ⟨_,j0 (r6 (i:=4) dq.nd rfl (aI rfl) (l7 Gw hr rfl mw kw bw .nil v6 (c6 (l7 Gc hr rfl mc kc bc .nil v6 (c6 (pv 0) (c6 (pv 1) c7))) (c6 d0 (c6 d0 c7)))))
  (t8 (r6 (i:=5) dq.nd rfl (aI rfl) (v9 (c6 (j8 D4 d0 (j8 w8 (l8 j5 (pv 4) d0 (λ_ _=>rfl)) (l8 j5 (v9 (c6 d0 (c6 d0 c7))) (j8 w8 (l8 j5 (pv 4) d0 (λ_ _=>rfl)) d0) (λ_ _=>rfl))))
   (c6 (j8 D4 d0 (j8 w8 (l8 j5 (pv 4) d0 (λ_ _=>rfl)) (l8 j5 (v9 (c6 d0 (c6 d0 c7))) (j8 w8 (l8 j5 (pv 4) d0 (λ_ _=>rfl)) d0) (λ_ _=>rfl)))) c7))))
  (t8 (r6 (i:=6) dq.nd rfl (aI rfl) (j8 D4 d0 (j8 w8 (l8 j5 (pv 4) d0 (λ_ _=>rfl)) (l8 j5 (v9 (c6 (pv 2) (c6 (j7 (Qc rfl) rfl T.min mY (c6 (pv 2) (c6 d0 c7))) c7))) (j8 V9 (j8 w8 (l8 j5 (pv 4) d0 (λ_ _=>rfl)) d0) d0) (λ_ _=>rfl)))))
  (t8 (r6 (i:=7) dq.nd rfl (fY rfl) (j7 (Qc rfl) rfl T.min mY (c6 (pv 3) (c6 (l8 j5 (v9 (c6 d0 (c6 d0 (c6 d0 (c6 d0 (c6 (j8 Qa d0 d0) c7)))))) (j8 w8 (l8 j5 (pv 4) d0 (λ_ _=>rfl)) d0) (λ_ _=>rfl)) c7))))
  (j0 (r6 (i:=8) dq.nd rfl (aI rfl) (v9 c7))
  (j0 (IF hO rfl (R8 rfl T.range (c6 (pv 6) c7)) (j9 (i:=9) dq.nd rfl (aI rfl))
   (t8 (r6 (i:=10) dq.nd rfl (aI rfl) (l7 Gw hr rfl mw kw bw .nil v6 (c6 (j8 D4 (l7 Gc hr rfl mc kc bc .nil v6 (c6 (pv 0) (c6 (j8 D4 (pv 1) d0) c7))) (j8 He (pv 9) (j8 D4 (l8 j5 (pv 4) d0 (λ_ _=>rfl)) d0))) (c6 d0 (c6 (j8 Qa d0 d0) c7)))))
   (t8 (r6 (i:=11) dq.nd rfl (aI rfl) (v5 E7 rfl T.tuple hU (c6 (N6 ["pick"] [7] rfl (C6 (B7 M0 (pv 10) G1 (B8 (l8 j5 (pv 5) d0 (λ_ _=>rfl))))) (λ_ _ _ _=>j9 (i:=0) a8W rfl (aI rfl)) (λ_ _ _ _=>j8 D4 d0 (j8 w8 (pv 0) (pv 1)))) c7)))
   (j0 (r6 (i:=12) dq.nd rfl (aI rfl) (B7 M0 (pv 10) (B8 d0) (B8 (j8 D4 d0 (l8 j5 (pv 5) d0 (λ_ _=>rfl))))))
   (t8 (CA (i:=13) ["pick"] [7] dq.nd rfl rfl rfl (C6 (pv 12)) (λ_ _ _ _=>j9 (i:=0) a8W rfl (aI rfl)) (λ_ _ _ _=>j8 He (j8 w8 (pv 0) (j8 D4 (pv 1) d0)) (v5 TH rfl T.int lJ (c6 (Z3 Ej (j8 w8 (pv 0) d0) d0 (r9 _)) c7))))
   (t8 (w6 (l5 E6 (j7 (Qq rfl) rfl T.max pF (c6 (pv 13) c7)) d0 (r9 _)) (j4 (D3 (j8 D4 d0 (j8 w8 (l8 j5 (pv 10) d0 (λ_ _=>rfl)) (pv 7))) (Gy (pv 13) (j8 w8 (l8 j5 (pv 10) d0 (λ_ _=>rfl)) (l8 j5 (pv 5) d0 (λ_ _=>rfl))) O1))) r8)
   (t8 (r6 (i:=14) dq.nd rfl (aI rfl) (A9 (c6 (pv 11) (c6 (v5 E7 rfl T.tuple hU (c6 (pv 13) c7)) c7))))
   (t8 (w6 (PW.pt (Gv (l5 (JU hr) (pv 8) (v9 c7) (r9 _)) (T4 (l5 E6 (j8 w8 (l8 j5 (pv 10) d0 (λ_ _=>rfl)) d0) d0 (r9 _)))))
    (j4 (r6 (i:=14) dq.nd rfl (aI rfl) (l7 Gn hr rfl mn kn bn .nil v6 (c6 (l8 j5 (pv 8) (j8 w8 (l8 j5 (pv 10) d0 (λ_ _=>rfl)) (j7 j6 rfl T.len bB (c6 (pv 8) c7))) (λ_ _=>rfl)) (c6 (pv 10) (c6 (pv 3) c7)))))) r8)
   (j4 (R3 (K7 iK jW jX P2 (pv 8) (c6 (pv 14) c7))))))))))))
  (j4 (o4 (pv 8))))))))⟩
end
theorem b3t(F:Aj K "_law_a_book" LR f fd)(T:v8 mg)
  (Gc:bf P w K mg base J8 n fc dc ["script","k"] (Ri K)) (bc:Binds K dc ["script","k"] []) (kc:dX K (.ref fc)=true) (mc:mg "_law_cell_at"=some (.ref fc))
  (Gw:bf P w K mg base J8 n fw dw ["cell","many","base"] (Rj K)) (bw:Binds K dw ["cell","many","base"] []) (kw:dX K (.ref fw)=true) (mw:mg "_law_draws"=some (.ref fw))
  (Gn:bf P w K mg base J8 n fn dn ["house","picks","far"] (Ot K)) (bn:Binds K dn ["house","picks","far"] []) (kn:dX K (.ref fn)=true) (mn:mg "_law_near"=some (.ref fn)) :
  bf P w K mg base J8 (n+1) f fd ["script","at","most","far"] (a9g K):=by
 refine F.oa dq λay A outer s H vs Q E hr h=>?_
 obtain⟨a,ns,at',most,br,rfl,hS,hat,hm1,hm2,CV,q⟩:=h;refine⟨_,(abT T Gc bc kc mc Gw bw kw mw Gn bn kn mn hr).2,_,rfl,_,rfl,a,ns,at',rfl,hS,hat,λc=>⟨c,8,1000,rfl,by decide,by decide,by decide,λhl H1 hd e1 HB hlen hb=>?_⟩⟩;have zw:∀k:Int,0<=k->k<8->∃v,v∈hd/\U7 (hd.map V.int) k=some (.int v):=λk k0 k1=>K2 k0 (by lia);obtain⟨x0,m0,a0⟩:=zw 0 (by decide) (by decide);obtain⟨x1,m1,a1⟩:=zw 1 (by decide) (by decide);obtain⟨x2,m2,a2⟩:=zw 2 (by decide) (by decide);obtain⟨x3,m3,a3⟩:=zw 3 (by decide) (by decide);obtain⟨x4,m4,a4⟩:=zw 4 (by decide) (by decide);obtain⟨x5,m5,a5⟩:=zw 5 (by decide) (by decide);obtain⟨x7,m7,a7⟩:=zw 7 (by decide) (by decide);have b0:=hb x0 m0;have b1:=hb x1 m1;have b3:=hb x3 m3;have b4:=hb x4 m4;have b5:=hb x5 m5;have b7:=hb x7 m7;refine⟨λau H'=>Ev3 λ(kl:aA)(kt kg:Nat)=>au=[some (.ref a),some (.int at'),some (.int most),some (.int br),some (.ref hl),some (.ref kl),none,none,none,none,none,none,none,none,none]/\af H1 H'/\H' kl=some (.lst [.int (kt:Int),.int (kg:Int)])/\1<=kt/\kt<=4/\1<=kg/\kg<=4,?_,?_⟩
 ·have two:∀y:Int,0<=y->∃z:Int,(z=4\/z=2)/\U7 [V.int 4,V.int 2] (y%2)=some (.int z):=λy hy=>by
   obtain⟨z,hz,az⟩:=K2 (ns:=[4,2]) (k:=y%2) (by lia) (by show y%2<2;lia);exact⟨z,by simpa using hz,az⟩
  obtain⟨z1,hz1,az1⟩:=two x2 (hb x2 m2).1;refine⟨_,rfl,hl,_,0,_,rfl,rfl,ah.of HB,a0,(by show 2<=sizeLine;decide),λl1 Aw=>?_⟩;have s1:=af.new Aw (.lst [V.int 4,V.int 2]);refine⟨_,rfl,hl,_,2,_,rfl,rfl,ah.of (s1 _ _ HB),a2,_,_,rfl,rfl,(by show(0:Int)<2;decide),l1,_,_,_,rfl,rfl,ah.of ae,az1,_,_,rfl,rfl,(by show(0:Int)<z1;lia),_,_,rfl,rfl,_,rfl,hl,_,1,_,rfl,rfl,ah.of (s1 _ _ HB),a1,(by show 2<=sizeLine;decide),λl2 j_=>?_⟩;have s2:=af.new j_ (.lst [V.int 4,V.int 2]);refine⟨_,rfl,hl,_,2,_,rfl,rfl,ah.of (s2 _ _ (s1 _ _ HB)),a2,_,_,rfl,rfl,(by show(0:Int)<2;decide),l2,_,_,_,rfl,rfl,ah.of ae,az1,_,_,rfl,rfl,(by show(0:Int)<z1;lia),_,_,rfl,rfl,(by show 2<=sizeLine;decide),λkl iw=>?_⟩;have p0:0<=x0%z1/\x0%z1<z1:=⟨Int.emod_nonneg _ (by lia),eG _ (by lia)⟩;have p1:0<=x1%z1/\x1%z1<z1:=⟨Int.emod_nonneg _ (by lia),eG _ (by lia)⟩;refine⟨kl,(1+x0%z1).toNat,(1+x1%z1).toNat,rfl,s1.trans (s2.trans (af.new iw (.lst [V.int (1+x0%z1),V.int (1+x1%z1)]))),?_,by lia,by lia,by lia,by lia⟩;rw[ae,sA (by lia),sA (by lia)]
 intro au H2 cw;refine E8 λG_ cy=>?_;obtain⟨kl,kt,kg,rfl,e2,iw,ij,wx,Ja,wy⟩:=cw;subst cy;have WT:=e2 _ _ HB;refine⟨λau H'=>∃(many:Nat),au=[some (.ref a),some (.int at'),some (.int most),some (.int br),some (.ref hl),some (.ref kl),some (.int (many:Int)),none,none,none,none,none,none,none,none]/\af H2 H'/\1<=many/\(many:Int)<=most,?_,?_⟩
 ·refine⟨_,rfl,hl,_,3,_,rfl,rfl,ah.of WT,a3,_,rfl,_,rfl,_,_,rfl,(by show 2<=sizeLine;decide),λl1 Aw=>?_⟩
  have s1:=af.new Aw (.lst [V.int most,V.int (if 4<most then 4 else most)]);obtain⟨z,hz,az⟩:=K2 (ns:=[most,if 4<most then 4 else most]) (k:=x4%3/2) (by lia) (by show x4%3/2<2;lia);have Ov:1<=z/\z<=most:=by
   simp only[bH,dJ,or_false] at hz;rcases hz with rfl|rfl
   ·lia
   ·split<;>lia
  refine⟨_,rfl,hl,_,4,_,rfl,rfl,ah.of (s1 _ _ WT),a4,_,_,rfl,rfl,(by show(0:Int)<3;decide),_,_,rfl,rfl,⟨by decide,by decide⟩,l1,_,_,_,rfl,rfl,ah.of ae,az,_,_,rfl,rfl,(by show(0:Int)<z;lia),_,_,rfl,rfl,?_⟩;have p0:0<=x3%z/\x3%z<z:=⟨Int.emod_nonneg _ (by lia),eG _ (by lia)⟩;refine⟨(1+x3%z).toNat,?_,s1,by lia,by lia⟩;rw[sA (by lia)];rfl
 intro au H3 cw;refine E8 λG_ cy=>?_;obtain⟨many,rfl,e3,mn1,mn2⟩:=cw;subst cy;have hh3:=e3 _ _ WT;refine⟨λau H'=>∃(size:Int),au=[some (.ref a),some (.int at'),some (.int most),some (.int br),some (.ref hl),some (.ref kl),some (.int (many:Int)),some (.int size),none,none,none,none,none,none,none]/\af H3 H'/\1<=size/\size<=br/\size<=1000000000,?_,?_⟩
 ·refine⟨_,rfl,_,_,rfl,rfl,⟨by decide,by decide,by decide⟩,(by show 5<=sizeLine;decide),λl1 Aw=>?_⟩
  have s1:=af.new Aw (.lst [V.int 4,V.int 9,V.int 50,V.int 1000,V.int (10^(9:Int).toNat)]);obtain⟨z,hz,az⟩:=K2 (ns:=[4,9,50,1000,10^(9:Int).toNat]) (k:=x5%5) (by lia) (by show x5%5<5;lia);have Ov:1<=z/\z<=1000000000:=by
   have e9:(10:Int)^(9:Int).toNat=1000000000:=by decide
   rw[e9] at hz;simp only[bH,dJ,or_false] at hz;rcases hz with rfl|rfl|rfl|rfl|rfl<;>decide
  refine⟨_,rfl,hl,_,5,_,rfl,rfl,ah.of (s1 _ _ hh3),a5,_,_,rfl,rfl,(by show(0:Int)<5;decide),l1,_,_,_,rfl,rfl,ah.of ae,az,_,_,rfl,?_⟩;refine⟨_,rfl,s1,?_,?_,?_⟩<;>(split<;>lia)
 intro au H4 cw;refine E8 λG_ cy=>?_;obtain⟨size,rfl,e4,sz1,szf,sz9⟩:=cw;subst cy;have Ew:af H H4:=e1.trans (e2.trans (e3.trans e4));refine⟨(by show 0<=sizeLine;decide),λbl hbl=>⟨_,rfl,(many:Int),rfl,by lia,by lia,?_⟩⟩;rw[cF];refine PZ (n:=many) (λi σ H'=>∃(xs:List V)(hs:List i8)(o9 HC BP ux CW zj:Option V),σ=[some (.ref a),some (.int at'),some (.int most),some (.int br),some (.ref hl),some (.ref kl),some (.int (many:Int)),some (.int size),some (.ref bl),o9,HC,BP,ux,CW,zj]/\
   af H4 H'/\H' bl=some (.lst xs)/\Bk K H' xs hs/\hs.length=i/\∀h∈hs,HG br kt kg h)
  ⟨[],[],_,_,_,_,_,_,rfl,af.new hbl _,ae,.nil,rfl,λh hh=>(by cases hh)⟩ ?_ ?_
 ·rintro i σ H5 hi ⟨xs,hs,o9,HC,BP,ux,CW,zj,rfl,e5,Mi,hB,BN,hG⟩
  have hh5:=e5 _ _ (e4 _ _ hh3);have xlen:xs.length=hs.length:=dE hB;have ak1:U7 [V.int (kt:Int),V.int (kg:Int)] 1=some (.int (kg:Int)):=A2 (j:=1) rfl;refine⟨λau H'=>Ev2 λ(pl:aA)(ds:List Int)=>au=[some (.ref a),some (.int at'),some (.int most),some (.int br),some (.ref hl),some (.ref kl),some (.int (many:Int)),some (.int size),some (.ref bl),some (.int (0+(i:Int))),some (.ref pl),BP,ux,CW,zj]/\af H5 H'/\H' pl=some (.lst (ds.map V.int))/\ds.length=12/\∀d∈ds,0<=d,?_,?_⟩
  ·exact⟨_,rfl,_,rfl,_,_,rfl,rfl,a,ns,at'+1,rfl,(Ew.trans e5).seq hS,by lia,λc=>⟨_,rfl,_,rfl,hl,_,7,_,rfl,rfl,ah.of hh5,a7,_,_,rfl,rfl,_,_,rfl,rfl,.inl ⟨by lia,by lia⟩,_,_,rfl,rfl,_,_,rfl,rfl,⟨by decide,by decide,by decide⟩,_,12,_,rfl,by decide,by decide,by decide,λpl H6 ds e6 Rn l6 d6=>⟨pl,ds,rfl,e6,Rn,l6,λd hd=>(d6 d hd).1⟩⟩⟩
  intro au H6 cw;refine E8 λG_ cy=>?_;obtain⟨pl,ds,rfl,e6,Rn,l6,d6⟩:=cw;subst cy;have hh6:=e6 _ _ hh5;have hk6:=e6 _ _ (e5 _ _ (e4 _ _ (e3 _ _ iw)));have pk:∀k:Int,0<=k->k<12->∃v,v∈ds/\U7 (ds.map V.int) k=some (.int v):=λk k0 k1=>K2 k0 (by lia);obtain⟨y8,n8,c8⟩:=pk 8 (by decide) (by decide);obtain⟨y9,n9,c9⟩:=pk 9 (by decide) (by decide);obtain⟨y10,WU,c10⟩:=pk 10 (by decide) (by decide);obtain⟨Ow,WV,c11⟩:=pk 11 (by decide) (by decide);have g8:=d6 _ n8;have g9:=d6 _ n9;have g10:=d6 _ WU;have WW:=d6 _ WV;have dl:(ds.map V.int).length=12:=by rw[aH];exact l6
  refine⟨λau H'=>Ev2 λ(tp:aA)(At:List Int)=>au=[some (.ref a),some (.int at'),some (.int most),some (.int br),some (.ref hl),some (.ref kl),some (.int (many:Int)),some (.int size),some (.ref bl),some (.int (0+(i:Int))),some (.ref pl),some (.ref tp),ux,CW,zj]/\af H6 H'/\H' tp=some (.tup (At.map V.int))/\At.length=kt/\∀x∈At,1<=x/\x<=br,?_,?_⟩
  ·have ec:P5 (ds.map V.int) none (some (kt:Int))=(ds.take kt).map V.int:=by
    unfold P5;rw[HT.rp,HT.gy,dl,oY,pG]
    congr 1
    lia
   refine⟨_,rfl,_,rfl,kl,_,0,_,rfl,rfl,ah.of hk6,A2 (j:=0) rfl,_,rfl,pl,_,rfl,ah.of Rn,λcp hcp=>?_⟩;rw[ec];refine⟨cp,rfl,⟨_,ah.of ae⟩,λlp Rk=>(O9 (A3 (ah.of ae)) Rk (by rw[aH,cI];exact t9 (by lia)) (λx=>.int (1+vI x%size)) (λj x H' N hx e hN=>?_) ?_)⟩
   ·obtain⟨k,rfl⟩:=T0 hx
    exact⟨Wk.set (by decide),_,rfl,_,rfl,_,_,rfl,rfl,(by show(0:Int)<size;lia),_,_,rfl,rfl,hN⟩
   ·have eA:((ds.take kt).map V.int).map (λx=>V.int (1+vI x%size))=((ds.take kt).map λd=>1+d%size).map V.int:=by rw[bC,bC];rfl
    rw[eA];refine⟨lp,_,rfl,.inl ⟨ah.of ae,λtp UC=>⟨tp,(ds.take kt).map λd=>1+d%size,rfl,(af.new hcp (.lst ((ds.take kt).map V.int))).trans ((af.new Rk (.lst (((ds.take kt).map λd=>1+d%size).map V.int))).trans (af.new UC _)),ae,by rw[aH,cI];lia,λx hx=>?_⟩⟩⟩;obtain⟨d,_,rfl⟩:=aY.mp hx;have p0:0<=d%size/\d%size<size:=⟨Int.emod_nonneg _ (by lia),eG _ (by lia)⟩;lia
  intro au H7 cw;refine E8 λG_ cy=>?_;obtain⟨tp,At,rfl,e7,ht7,lAt,tAt⟩:=cw;subst cy;have WX:=e7 _ _ Rn;have hk7:=e7 _ _ hk6;have hb7:=e7 _ _ (e6 _ _ Mi);have ec:P5 (ds.map V.int) (some 4) (some (4+(kg:Int)))=((ds.drop 4).take kg).map V.int:=by
   unfold P5;have z1:HT.wc (ds.map V.int).length 0 (some 4)=4:=by
    have:=HT.gy (ds.map V.int).length 0 4;rw[dl] at this⊢;exact this
   have z2:HT.wc (ds.map V.int).length (ds.map V.int).length (some (4+(kg:Int)))=4+kg:=by
    have:=HT.gy (ds.map V.int).length (ds.map V.int).length (4+kg);rw[dl] at this⊢;rw[show(4:Int)+(kg:Int)=((4+kg:Nat):Int) by lia,this];lia
   rw[z1,z2,pG,pH]
   congr 1
   lia
  refine⟨_,rfl,_,rfl,_,rfl,kl,_,1,_,rfl,rfl,ah.of hk7,ak1,_,_,rfl,rfl,_,rfl,pl,_,rfl,ah.of WX,λsp iu=>?_⟩;rw[ec];have s7:=af.new iu (.lst (((ds.drop 4).take kg).map V.int));refine⟨λau H'=>Ev3 λ(gp:aA)(Bs:List Int)(ux:Option V)=>au=[some (.ref a),some (.int at'),some (.int most),some (.int br),some (.ref hl),some (.ref kl),some (.int (many:Int)),some (.int size),some (.ref bl),some (.int (0+(i:Int))),some (.ref pl),some (.ref tp),ux,some (.ref gp),zj]/\af H7 H'/\H7 gp=none/\H' gp=some (.lst (Bs.map V.int))/\Bs.length=kg/\∀x∈Bs,0<=x/\x<=br,?_,?_⟩
  ·refine⟨_,rfl,sp,rfl,⟨_,ah.of ae⟩,λgp WY=>(O9 (A3 (ah.of ae)) WY (by rw[aH,cI];exact t9 (by lia)) (λx=>.int (vI x%(size+1)*(if decide (0<vI x%7)=true then 1 else 0))) (λj x H' N hx e hN=>?_) ?_)⟩
   ·obtain⟨k,rfl⟩:=T0 hx
    refine⟨Wk.set (by decide),_,rfl,_,rfl,_,_,rfl,rfl,_,_,rfl,rfl,(by show(0:Int)<size+1;lia),_,rfl,_,_,rfl,rfl,(by show(0:Int)<7;decide),_,_,rfl,rfl,.inr ⟨_,rfl,_,_,rfl,rfl,.inr ?_,hN⟩⟩;constructor<;>(split<;>decide)
   ·have eB:(((ds.drop 4).take kg).map V.int).map (λx=>V.int (vI x%(size+1)*(if decide (0<vI x%7)=true then 1 else 0)))=(((ds.drop 4).take kg).map λd=>d%(size+1)*(if decide (0<d%7)=true then 1 else 0)).map V.int:=by rw[bC,bC];rfl
    rw[eB];refine⟨gp,_,_,rfl,s7.trans (af.new WY _),s7.free WY,ae,by rw[aH,cI,eJ];lia,λx hx=>?_⟩;obtain⟨d,_,rfl⟩:=aY.mp hx;have p0:0<=d%(size+1)/\d%(size+1)<size+1:=⟨Int.emod_nonneg _ (by lia),eG _ (by lia)⟩
    split<;>lia
  intro au H8 cw;refine E8 λG_ cy=>?_;obtain⟨gp,Bs,o12',rfl,e8,f8,WZ,Ox,W_⟩:=cw;subst cy;have hp8:=e8 _ _ WX;have Mh:(Bs.map V.int).length=kg:=by rw[aH];exact Ox
  refine⟨λau H'=>Ev2 λ(Bs:List Int)(ux:Option V)=>au=[some (.ref a),some (.int at'),some (.int most),some (.int br),some (.ref hl),some (.ref kl),some (.int (many:Int)),some (.int size),some (.ref bl),some (.int (0+(i:Int))),some (.ref pl),some (.ref tp),ux,some (.ref gp),zj]/\af H7 H'/\H' gp=some (.lst (Bs.map V.int))/\Bs.length=kg/\(∀x∈Bs,0<=x/\x<=br)/\∃x∈Bs,0<x,?_,?_⟩
  ·refine⟨_,rfl,gp,Bs,rfl,.inl (ah.of WZ),(λz=>by rw[z] at Ox;simp at Ox;lia),λM hM hMx=>⟨rfl,_,rfl,y6 (λc=>?_) (λc=>?_)⟩⟩
   ·refine⟨_,rfl,pl,_,9,_,rfl,rfl,ah.of hp8,c9,_,rfl,_,_,rfl,rfl,(by show(0:Int)<size;lia),_,_,rfl,rfl,_,rfl,_,rfl,pl,_,8,_,rfl,rfl,ah.of hp8,c8,_,rfl,kl,_,1,_,rfl,rfl,ah.of (e8 _ _ hk7),ak1,_,_,rfl,rfl,(by show(0:Int)<(kg:Int);lia),?_⟩;have r0:0<=y8%(kg:Int):=fN _ (by lia);have r1:y8%(kg:Int)<((Bs.map V.int).length:Int):=by rw[Mh];exact eG _ (by lia)
    have rn:(y8%(kg:Int)).toNat<Bs.length:=by rw[Mh] at r1;lia
    have p0:0<=y9%size/\y9%size<size:=⟨Int.emod_nonneg _ (by lia),eG _ (by lia)⟩;refine⟨gp,_,_,_,rfl,rfl,WZ,Mg r0 r1,Bs.set (y8%(kg:Int)).toNat _,_,rfl,e8.write f8,by rw[ae,map_set],by rw[eE];exact Ox,λx hx=>?_,_,xE rn _,by lia⟩;rcases pD hx with z|z
    ·exact W_ x z
    ·lia
   ·have c':¬M=0:=λz=>c (decide_eq_true (by rw[z]))
    have:=W_ M hM;exact⟨Bs,_,rfl,e8,WZ,Ox,W_,M,hM,by lia⟩
  intro au H9 cw;refine E8 λG_ cy=>?_;obtain⟨Bt,Jb,rfl,e9,hg9,lBt,tBt,tPt⟩:=cw;subst cy;refine⟨λau H'=>Ev3 λ(v:V)(h:i8)(ux:Option V)=>au=[some (.ref a),some (.int at'),some (.int most),some (.int br),some (.ref hl),some (.ref kl),some (.int (many:Int)),some (.int size),some (.ref bl),some (.int (0+(i:Int))),some (.ref pl),some (.ref tp),ux,some (.ref gp),some v]/\af H7 H'/\HS K H' v h/\HG br kt kg h,?_,?_⟩
  ·refine⟨_,rfl,_,rfl,gp,_,rfl,.inl ⟨ah.of hg9,λpg WN=>?_⟩⟩
   have f1:=af.new WN (.tup (Bt.map V.int));refine⟨(by show 2<=sizeLine;decide),λpr HA=>?_⟩;have f2:=af.new HA (.tup [V.ref tp,V.ref pg]);exact⟨_,(At,Bt),_,rfl,e9.trans (f1.trans f2),⟨pr,tp,pg,rfl,cq.of ae,cq.of (f2 _ _ (f1 _ _ (e9 _ _ ht7))),cq.of (f2 _ _ ae)⟩,⟨lAt,lBt,tAt,tBt,tPt⟩⟩
  intro au JS cw;refine E8 λG_ cy=>?_;obtain⟨v,h,Jb,rfl,GL,hv,Ro⟩:=cw;subst cy;refine⟨λau H'=>Ev3 λ(v:V)(h:i8)(ux:Option V)=>au=[some (.ref a),some (.int at'),some (.int most),some (.int br),some (.ref hl),some (.ref kl),some (.int (many:Int)),some (.int size),some (.ref bl),some (.int (0+(i:Int))),some (.ref pl),some (.ref tp),ux,some (.ref gp),some v]/\af H5 H'/\HS K H' v h/\HG br kt kg h,?_,?_⟩
  ·refine⟨_,rfl,(by show 0<=sizeLine;decide),λep hep=>?_⟩
   have f1:=af.new hep (.lst []);have Az:=((e6.trans e7).trans GL).trans f1;refine⟨.list (hs.map Y5),.list [],.lst (ah.of (Az _ _ Mi)) (Bk.dps (Bk.same Az hB)),.lst (ah.of ae) .nil,a7E hs,rfl,bF (Nat.min_le_right _ _) (by decide),_,rfl,y6 (λc=>?_) (λc=>M7 ⟨v,h,_,rfl,Az,hv.same f1,Ro⟩)⟩;have ur:0<hs.length:=by
    cases hs with
    |nil=>exact absurd c (by simp[cK,hV])
    |cons _ _=>simp
   have Ko:upd JS ep (.lst []) pl=some (.lst (ds.map V.int)):=f1 _ _ (GL _ _ WX);have CY:=Az _ _ Mi;refine⟨_,rfl,pl,_,10,_,rfl,rfl,ah.of Ko,c10,_,_,rfl,rfl,(by show(0:Int)<4;decide),rfl,_,rfl,y6 (λc=>?_) (λc=>⟨v,h,_,rfl,Az,hv.same f1,Ro⟩)⟩;have r0:0<=Ow%(xs.length:Int):=fN _ (by lia);have r1:Ow%(xs.length:Int)<(xs.length:Int):=eG _ (by lia);have hk:(Ow%(xs.length:Int)).toNat<xs.length:=by lia
   have ax:U7 xs (Ow%(xs.length:Int))=some xs[(Ow%(xs.length:Int)).toNat]:=by
    unfold U7;rw[Mg r0 r1];exact aS hk
   obtain⟨h',Kp,dt⟩:=aZ.at hB (aS hk);refine⟨_,rfl,_,rfl,pl,_,11,_,rfl,rfl,ah.of Ko,c11,_,rfl,bl,_,rfl,.inl (ah.of CY),_,_,rfl,rfl,(by show(0:Int)<(xs.length:Int);lia),bl,_,_,_,rfl,rfl,ah.of CY,ax,_,rfl,_,rfl,_,pl,br,br,h',ds,kt,kg,rfl,dt.same Az,hG h' (bK Kp),ij,wx,Ja,wy,CV,dL _,ah.of Ko,by lia,d6,λr Rp yg Oy qe Xb=>⟨r,yg,_,rfl,Az.trans Oy,qe,Xb⟩⟩
  intro au Qp cw;refine E8 λG_ cy=>?_;obtain⟨v,h,Jb,rfl,IK,hv,Ro⟩:=cw;subst cy;have CY:=IK _ _ Mi;refine⟨_,rfl,.inl ⟨rfl,_,ah.of CY⟩,_,rfl,bl,xs,v,rfl,rfl,CY,t9 (by lia),?_⟩;have kp:ng Qp (upd Qp bl (.lst (xs++[v]))):=ng.upd CY;refine⟨xs++[v],hs++[h],_,_,_,_,_,_,rfl,(e5.trans IK).write hbl,ae,aZ.app (Bk.keep kp (Bk.same IK hB)) (.cons (HS.keep kp hv) .nil),by rw[aX,BN];rfl,λh' hm=>?_⟩;rcases bJ.mp hm with z|z
  ·exact hG h' z
  ·rw[cJ.mp z];exact Ro
 ·intro σ H' cw;refine E8 λG_ cy=>?_;obtain⟨xs,hs,o9,HC,BP,ux,CW,zj,rfl,e5,Mi,hB,BN,hG⟩:=cw;subst cy
  exact⟨_,rfl,q bl H' xs hs kt kg (Ew.trans e5) Mi hB (by lia) (by lia) ij wx Ja wy hG⟩
end Rim
namespace Rim
open PySem L2 Fr
def c1b(K:aF):List V->Hp->VK->Prop:=λvs H Q=>Ev2 λ(a:aA)(ns:List Int)=>vs=[.ref a]/\JT K H a (ns.map V.int)/\Q (.int ns.sum) H
theorem b1q K(h:X.K=K)(hc:X.calm=true):K6 X (.builtin "sum") (c1b K):=by subst h;exact b1s hc
theorem b7V K(h:X.K=K):JJ X (b8C K):=by subst h;exact U8
def Xc(K:aF)(H:Hp)(v:V)(f:Q2):Prop:=∃a,v=.ref a/\cq K H a [.int f.1,.int f.2]
def Ex(H:Hp)(v:V)(f:Q2):Prop:=∃a,v=.ref a/\H a=some (.tup [.int f.1,.int f.2])
theorem Ex.v{v}(h:Ex H v f):Xc K H v f:=by
 obtain⟨a,e,q⟩:=h;exact⟨a,e,cq.of q⟩
theorem Ex.same{H H':Hp}{v:V}{f:Q2}(e:af H H')(h:Ex H v f):Ex H' v f:=by
 obtain⟨a,z,q⟩:=h;exact⟨a,z,e _ _ q⟩
theorem Xc.same{K:aF}{H H':Hp}{v:V}{f:Q2}(e:af H H')(h:Xc K H v f):Xc K H' v f:=by
 obtain⟨a,z,q⟩:=h;exact⟨a,z,e.cm q⟩
structure CZ(P:aM)(w:aL)(K:aF)(mg:aC->Option aE)(base:aJ)(n:Nat)(x:aC)(ps:List aC)(sp:Sp)(fa:aA)(d:aK):Prop where
 ok:bf P w K mg base J8 n fa d ps sp
 b:Binds K d ps []
 k:dX K (.ref fa)=true
 m:mg x=some (.ref fa)
def CZ.c{X:Cx}(C:CZ X.prog X.w X.K X.mg X.base j x ps sp f fd)(hr:b_ j X.A)(ha:PA X (e::es) t)(hg:Gl X x:=by exact rfl)(hd:(x==("__debug__":aC))=false:=by decide)(he:starEach (e::es) X.env=(false,eval e X.env)::starEach es X.env:=by rfl)(hp:(backTo pos (starEach es X.env)).any (·.1)=false:=by rfl):PE X (.Call (.Name x p) (e::es) [] pos) (Qf sp [] E0 t):=l7 C.ok hr hg C.m C.k C.b .nil v6 ha hd he hp
inductive b5S(vs:List V)(H:Hp)(Q:VK)(z3_:XK):Prop|mk:∀a b,vs=[.int a,.int b]->0<=b->Q (.int (gI a b)) H->b5S vs H Q z3_
def Jc:p7 ["one","other"] ["one","other"] (i9 VB):={}
def c0k:St->Nat:=λσ=>match σ with|[_,some (.int y)]=>y.toNat|_=>0
theorem b7s x:(if x<0 then -x else x)=gI x 0:=by
 rw[b5L]
 split<;>lia
theorem b6B(F:Aj K "common_divisor" VB f fd)(T:v8 mg):bf P w K mg base J8 (n+1) f fd ["one","other"] b5S:=by
 refine F.oa Jc λay A outer s H vs Q E hr h=>?_
 obtain⟨a,b,rfl,hb,q⟩:=h;refine⟨_,j0 (a7o hO (l5 Ei (pv 1) d0 (r9 _)) (j4 (b7C (i:=0) (j:=1) rfl Jc.nd rfl rfl (by decide) rfl rfl (c6 (pv 1) (c6 (j8 w8 (pv 0) (pv 1)) c7)) rfl)))
  (j4 (o4 (j7 b3Q rfl T.abs (Al) (c6 (pv 0) c7)))),?_⟩
 refine b2G (λσ H'=>Ev2 λx y=>σ=[some (.int x),some (.int y)]/\H'=H/\0<=y/\gI x y=gI a b) (λσ _=>c0k σ) ⟨a,b,rfl,rfl,hb,rfl⟩ ?_ λσ H Q Q' hq ⟨v,h1,h2,k,h3,q⟩=>⟨v,h1,h2,k,h3,hq _ _ q⟩;rintro σ H' ⟨x,y,rfl,rfl,hy,hg⟩;refine⟨_,rfl,rfl,_,rfl,y6 (λc=>?_) λc=>?_⟩
 ·have Rq:0<y:=by
   by_cases z:y=0
   ·subst z;simp at c
   ·lia
  have hm:=fN x (show y≠0 by lia);have hl:=eG x Rq;refine⟨_,rfl,_,rfl,_,rfl,_,_,rfl,rfl,Rq,_,_,rfl,⟨y,x%y,rfl,rfl,hm,?_⟩,?_⟩
  ·rw[b4a];exact hg
  ·show(x%y).toNat<y.toNat
   lia
 ·have Rq:y=0:=by simp_all
  subst Rq;refine⟨_,rfl,_,rfl,?_⟩;rw[b7s,hg];exact q
theorem fh.mono(h:fh n i)(hn:n<=m):fh m i:=bS h (lG (by decide) hn)
theorem fh.mul(h:fh n i)(k:fh m j):fh (n+m) (i*j):=by
 unfold fh at *;rw[rV,xF];exact Nat.mul_lt_mul_of_lt_of_lt h k
theorem c8y{i:Int}{n:Nat}(h0:0<=i)(h1:i<2^n):fh n i:=by
 have e:((2^n:Nat):Int)=2^n:=by simp
 unfold fh;lia
inductive Xd(vs:List V)(H:Hp)(Q:VK)(z3_:XK):Prop|mk:∀t b,vs=[.int t,.int b]->0<b->b<2^8000->(∀v H',af H H'->Ex H' v (low t b)->Q v H')->Xd vs H Q z3_
def Jd:p7 ["top","bottom","divisor"] ["top","bottom"] (i9 VC):={}
theorem b7t(F:Aj K "lowest" VC f fd)(T:v8 mg)(C:CZ P w K mg base n "common_divisor" ["one","other"] b5S fa da):bf P w K mg base J8 (n+1) f fd ["top","bottom"] Xd:=by
 refine F.oa Jd λay A outer s H vs Q E hr h=>?_
 obtain⟨t,b,rfl,hb,IU,q⟩:=h;refine⟨_,j0 (w6 (l5 E6 (pv 1) d0 (r9 _)) a5n r8)
  (j0 (r6 (i:=2) Jd.nd rfl (aI rfl) (C.c hr (c6 (pv 0) (c6 (pv 1) c7))))
  (j0 (w6 (l5 EI (pv 1) d0 (r9 _)) a5n r8)
  (j4 (o4 (A9 (c6 (j8 UA (pv 0) (pv 2)) (c6 (j8 UA (pv 1) (pv 2)) c7))))))),?_⟩
 refine⟨_,rfl,rfl,_,rfl,y6 (λc=>?_) λ_=>?_⟩
 ·have:=V.int.inj (of_decide_eq_true c);lia
 refine⟨_,rfl,_,rfl,t,b,rfl,cC hb,_,rfl,_,_,rfl,rfl,_,rfl,y6 (λc=>?_) (λ_=>?_)⟩
 ·have:b<0:=of_decide_eq_true c;lia
 have hg:=QL (a:=t) hb;have Hm:=b9G (a:=t) hb;exact⟨_,rfl,_,rfl,_,_,rfl,rfl,⟨hg,pI Hm IU⟩,_,rfl,_,rfl,_,_,rfl,rfl,⟨hg,pI Hm IU⟩,(by show 2<=sizeLine;decide),λp hp=>(q _ _ (af.new hp _) ⟨p,rfl,ae⟩)⟩
def Oz(a b:α):U7 [a,b] 0=some a:=A2 rfl
def Mj(a b:α):U7 [a,b] 1=some b:=A2 rfl
theorem U5 t:bU K t t=some true:=by unfold bU;rw[if_pos (beq_self_eq_true _)]
def a5G:bU K (.type "int") (.type "bool")=some false:=rfl
def AA(k:Nat)(m:Int):Prop:=0<=m/\m<(k:Int)
inductive OA(K:aF)(CN:aA)(vs:List V)(H:Hp)(Q:VK)(E:XK):Prop|mk:∀(a:aA)(xs:List V)(m:Int),vs=[.ref a,.int m]->ah K H a xs->m.natAbs.log2<1920->(∀(i:Nat)x,m=(i:Int)->xs[i]?=some x->Q x H)->(¬AA xs.length m->E (.ref CN) none H)->OA K CN vs H Q E
def b9n:p7 ["book","number"] ["book","number"] (i9 VD):={}
theorem b7u(F:Aj K "house_of" VD f fd)(T:v8 mg)(kN:X4 K CN)(mN:mg "NoHouse"=some (.ref CN)):bf P w K mg base (W2 P w) (n+1) f fd ["book","number"] (OA K CN):=by
 refine F.ob b9n λay A outer s H vs Q E hr h=>?_
 obtain⟨a,xs,m,rfl,hS,hm,q,hE⟩:=h;refine⟨_,j0 (w6 (S6 (MZ EJ EI d0 (pv 1) (j7 j6 rfl T.len bB (c6 (pv 0) c7)))) (j4 (T7 kN rfl mN hr.hd (c6 (b5G (pv 1) (by decide)) c7))) r8)
  (j4 (o4 (l8 j5 (pv 0) (pv 1) λ_ _=>rfl))),?_⟩
 refine⟨_,rfl,_,_,rfl,rfl,_,rfl,?_⟩;have bad:¬AA xs.length m->b3F (Z2 (tFs (JB 1)) yb) CN E {nx:=λ_ H'=>Q .non H',rt:=Q} (V6 ["book","number"] [.ref a,.int m]) H:=λhb=>⟨_,rfl,m,rfl,hm,λx=>⟨(by show 1<=1000;decide),hE hb⟩⟩;refine y6 (λc=>?_) λc=>⟨_,rfl,J3 (bad λz=>(of_decide_eq_false (eN.mpr c)) z.1)⟩
 ·have c':=of_decide_eq_true c
  refine⟨_,rfl,a,_,rfl,.inl hS,_,_,rfl,rfl,_,rfl,y6 (λd=>?_) λd=>?_⟩
  ·have d':¬m<(xs.length:Int):=of_decide_eq_false (by simpa using d)
   exact bad λz=>d' z.2
  ·have d':m<(xs.length:Int):=of_decide_eq_true (by simpa using d)
   obtain⟨j,rfl⟩:∃j:Nat,m=(j:Int):=⟨m.toNat,by lia⟩;have hi:j<xs.length:=by lia
   exact⟨_,rfl,_,rfl,a,_,_,_,rfl,rfl,hS,A2 (aS hi),q j xs[j] rfl (aS hi)⟩
end Rim
namespace L2
open PySem PySem.Spec PyProof.Rows
structure Rr(K:aF)(P:gN)(d:aA):Prop where
 ex:Ev2 λes n=>K.lookup d=some ⟨.type "dict",none,.dict es n,#[]⟩/\lK P es.toList
inductive c0r(K:aF)(P:gN)(x y:V)(H:Hp)(Q:VK):Prop|mk:∀d z t,x=.ref d->y=.str z->Rr K P d->bM K d z=some (some (.ref t))->Q (.ref t) H->c0r K P x y H Q
theorem Kq K P(hK:X.K=K)(hP:X.w.params=P):JJ X (c0r K P):=by
 subst hK;subst hP;intro value slice pins s σ H x y v u Q I rx ry h hs;obtain⟨d,z,t,rfl,rfl,⟨es,n,hl,hk⟩,e,q⟩:=h
 cases rx;obtain⟨tk,rfl⟩:=ry;obtain⟨m,hm⟩:=I.fr;exact W.topItem_K hm I.mod.zu hl hk e ⟨.ref t,H,I.tok _,rfl,q⟩ (by simp_all)
end L2
namespace L2
open PySem
theorem b6A K(h:X.K=K)(hl:PE X l tl):PI X tg l (Tw K tl):=by subst h;exact IE hl
end L2
namespace Rim
open PySem L2 Fr
def O4(z:aC):Prop:=z="any"\/z="one"\/z="less"\/z="more"
def K5(z:aC):List Int:=if z="any" then [] else if z="one" then [1,-1] else if z="less" then [-1] else [1]
structure Sg(K:aF)(Pm:gN)(mg:aC->Option aE)(d:aA):Prop where
 m:mg "SIZE_SIGNS"=some (.ref d)
 k:Rr K Pm d
 tt:∀z,O4 z->∃t,bM K d z=some (some (.ref t))/\∀H,cq K H t ((K5 z).map V.int)
def A7(z:aC)(h:i8):List Int:=h.1.map (λx=>-x)++h.2++K5 z
section
variable{P:aM}{w:aL}{K:aF}{mg:aC->Option aE}{base:aJ}{f Pt d:aA}{fd:aK}{n:Nat}{C:aA}
inductive M4(K:aF)(vs:List V)(H:Hp)(Q:VK)(z3_:XK):Prop|mk:∀(ba:aA)(xs:List V)(hs:List i8)(z:aC)(kt kg:Nat),vs=[.ref ba,.str z]->O4 z->ah K H ba xs->Bk K H xs hs->hs.length<=100->kt<=100->kg<=100->(∀h∈hs,h.1.length=kt/\h.2.length=kg)->(∀r H'(rs:List aA),af H H'->H' r=some (.lst (rs.map V.ref))->rs.length=hs.length->(∀(i:Nat)a h,rs[i]?=some a->hs[i]?=some h->H' a=some (.lst ((A7 z h).map V.int)))->Q (.ref r) H')->M4 K vs H Q z3_
def OB:p7 ["houses","sizes","signs"] ["houses","sizes"] (i9 X2):={}
theorem b6o:(["takes","gives","signs"]:List aC).Nodup:=by decide
theorem b8G:(["take"]:List aC).Nodup:=by simp
theorem Ml z:(K5 z).length<=2:=by
 unfold K5
 by_cases h1:z="any"
 ·rw[if_pos h1];decide
 by_cases h2:z="one"
 ·rw[if_neg h1,if_pos h2];decide
 by_cases h3:z="less"
 ·rw[if_neg h1,if_neg h2,if_pos h3];decide
 ·rw[if_neg h1,if_neg h2,if_neg h3];decide
def hrT(N:v8 mg)(G:Sg K w.params mg d) :
  {t:TS//fu (N8 J8 P w K mg base ["houses","sizes","signs"] "house_rows" (i9 X2) f ay A outer s H E).oi (x9 X2) t} :=
 ⟨_,j0 (r6 (i:=2) OB.nd rfl (fY rfl) (v5 C5 rfl N.list fJ (c6 (l8 (Kq K w.params rfl rfl) (C4 (v:=.ref d) rfl G.m rfl) (pv 1) λ_ _=>rfl) c7)))
  (j4 (o4 (N6 ["takes","gives"] [2] rfl (C6 (pv 0))
   (λ_ _ _ _=>IX K (n:=2) rfl rfl (p6 (j9 (i:=0) b6o rfl (aI rfl)) (p6 (j9 (i:=1) b6o rfl (aI rfl)) A4)))
   (λ_ _ _ _=>j8 B9 (j8 B9 (N6 ["take"] [] rfl (b6A K rfl (pv 0)) (λ_ _ _ _=>j9 (i:=0) b8G rfl (aI rfl)) (λ_ _ _ _=>Eh V2 (pv 0))) (v5 (Wo K rfl) rfl N.list fJ (c6 (pv 1) c7))) (pv 2)))))⟩
theorem a5Z(F:Aj K "house_rows" X2 f fd)(N:v8 mg)(G:Sg K w.params mg d):bf P w K mg base J8 (n+1) f fd ["houses","sizes"] (M4 K):=by
 refine F.oa OB λay A outer s H vs Q E hr h=>?_
 obtain⟨ba,xs,hs,z,kt,kg,rfl,hz,hB,Je,hl,Kr,Ks,hlen,k⟩:=h;refine⟨_,(hrT N G).2,?_⟩;obtain⟨t,ht,hT⟩:=G.tt z hz;have xl:=dE Je;refine⟨_,rfl,d,z,t,rfl,rfl,G.k,ht,t,_,rfl,.inr (hT _),λsl je=>?_⟩;have e0:=af.new je (.lst ((K5 z).map V.int));refine⟨_,rfl,ba,rfl,⟨_,e0.seq hB⟩,λl jl=>?_⟩;refine N5 (A3 (e0.seq hB)) jl (by rw[xl];exact t9 (by lia)) (λi y H2=>Ev2 λa h=>y=.ref a/\a≠l/\hs[i]?=some h/\H2 a=some (.lst ((A7 z h).map V.int)))
  (λi y H2 H3 ⟨a,h,h1,h2,h3,h4⟩ e=>⟨a,h,h1,h2,h3,e a _ h2 h4⟩) (λi x H2 ys N' hx e j_ hN=>?_) λys H2 e j_ len pr=>?_
 ·obtain⟨h,hh,OC⟩:=aZ.at Je hx
  obtain⟨a,ta,ga,rfl,p1,p2,p3⟩:=(OC.same (e0.trans e));have lh:=hlen h (bK hh);refine⟨a,_,rfl,p1,rfl,_,_,rfl,_,_,rfl,rfl,?_,?_⟩
  ·refine⟨by simp,λk w ek=>?_⟩
   have:¬k<2:=λhk=>by
    unfold c_ at ek;rw[dH (by simpa using hk),gD] at ek
    split at ek<;>cases ek
   rw[dP (by lia),dP (by lia)];exact ek
  refine⟨_,rfl,ta,rfl,⟨_,p2⟩,λa1 h1=>(O9 (U3 p2) h1 (by rw[aH,lh.1];exact t9 (by lia)) (λx=>.int (-(vI x))) (λj x H' N2 El e2 OD=>?_) ?_)⟩
  ·obtain⟨x',rfl,_⟩:=LY El
   exact⟨Wk.set (by decide),_,rfl,_,rfl,OD⟩
  have eg:(h.1.map V.int).map (λx=>V.int (-(vI x)))=(h.1.map λx=>-x).map V.int:=by rw[bC,bC];rfl
  rw[eg];have s1:=af.new h1 (.lst ((h.1.map λx=>-x).map V.int));refine⟨_,rfl,ga,_,rfl,.inr (s1.cm p3),λa2 h2=>?_⟩;have sz:=t9 (show kt+kg+2<=1000 by lia);have sg:=Ml z;refine⟨a1,a2,_,_,rfl,rfl,(by rw[j3 (i7 ae h2)];exact ae),ae,?_,λa3 h3=>?_⟩
  ·rw[aH,aH,aH,lh.1,lh.2];lia
  have s3:=(s1.trans (af.new h2 (.lst (h.2.map V.int)))).trans (af.new h3 (.lst ((h.1.map λx=>-x).map V.int++h.2.map V.int)));refine⟨_,rfl,a3,sl,_,_,rfl,rfl,ae,s3 _ _ (e _ _ ae),?_,λa4 h4=>?_⟩
  ·rw[aX,aH,aH,aH,aH,lh.1,lh.2];lia
  refine hN _ _ (s3.trans (af.new h4 _)) ⟨a4,h,rfl,λz'=>?_,hh,?_⟩
  ·rw[z',s3 _ _ j_] at h4;cases h4
  ·rw[ae]
   unfold A7;rw[bQ,bQ]
 ·have Wu:ys=(ys.map IY).map V.ref:=by
   rw[bC];refine dR λi=>?_;rw[aP]
   cases qi:ys[i]? with
   |none=>rfl
   |some y =>
    obtain⟨a,_,rfl,_⟩:=pr i y qi;rfl
  refine k l H2 (ys.map IY) (e0.trans e) (by rw[j_];rw[<-Wu]) (by rw[aH,len,xl]) λi a h hi hh=>?_;rw[aP] at hi
  cases qi:ys[i]? with
  |none=>rw[qi] at hi;cases hi
  |some y =>
   obtain⟨a',h',rfl,_,h3,h4⟩:=pr i y qi;rw[qi] at hi;have:a'=a:=bD hi;subst this;rw[hh] at h3
   cases h3;exact h4
end
def P3(z:aC)(h:i8):List Int:=aQ h.1.length 0++h.2++K5 z
def Q5(z:aC)(h:i8):List Int:=h.1++aQ h.2.length 0++aQ (K5 z).length 0
def G3(z:aC)(hs:List i8)(h:i8):List (List Int):=hs.map (A7 z)++[Q5 z h]
def P6(hs:List i8):List Int:=aQ hs.length 0++[1]
theorem N9 k:(aQ k [V.int 0]).flatten=(aQ k (0:Int)).map V.int:=by simp
section
variable{P:aM}{w:aL}{K:aF}{mg:aC->Option aE}{base:aJ}{f Pt d:aA}{fd:aK}{n:Nat}{C:aA}
abbrev OE(z:aC)(hs:List i8)(h:i8)(S:Lp.Bo):Prop:=Lp.Of (hs.length+1) (h.1.length+h.2.length+(K5 z).length) (Y8 (G3 z hs h)) (M2 (P6 hs)) (M2 (P3 z h)) S
inductive a6Y(K:aF)(Pt:aA)(vs:List V)(H:Hp)(Q:VK)(z3_:XK):Prop|mk:∀ba hv xs hs h z br kt kg m q,vs=[.ref ba,hv,.str z]->O4 z->ah K H ba xs->Bk K H xs hs->HS K H hv h->HG br kt kg h->(∀h∈hs,HG br kt kg h)->br<=2^60->hs.length<=16->kt<=20->kg<=20->m=hs.length+1->q=h.1.length+h.2.length+(K5 z).length->LT Pt H->(∀S H' t aa wa,OE z hs h S->(∀j,j<q->¬S.T m j<0)->Sz 4000 m q S->bj Pt H H'->LT Pt H'->H' t=some (.tup [.int (S.T m q),.ref aa,.ref wa,.int S.d]) → H' aa=some (.lst ((v7 m q S).map V.int))->H' wa=some (.lst ((K1 m q S).map V.int))->Q (.ref t) H')->(∀S H' c,OE z hs h S->c<q->S.T m c<0->(∀i,i<m->¬0<S.T i c)->bj Pt H H'->LT Pt H'->Q .non H')->a6Y K Pt vs H Q z3_
def C_:p7 ["houses","house","sizes","takes","gives","signs","earned","paid"] ["houses","house","sizes"] (i9 LO):={}
def eaT{f1 f2:aA}{d1 d2:aK}(N:v8 mg)(G:Sg K w.params mg d)(Cg:C9 P w K mg base n "greatest" ["goal","rows","bounds"] (O5 K C Pt) f1 d1)(Ch:C9 P w K mg base n "house_rows" ["houses","sizes"] (M4 K) f2 d2)
  (hr:b_ n (A.deeper (cD "greatest_earned" (i9 LO) s.heap.objs.size f ay))) :
  {t:TS//fu (N8 J8 P w K mg base ["houses","house","sizes","takes","gives","signs","earned","paid"] "greatest_earned" (i9 LO) f ay A outer s H E).oi (x9 LO) t} :=
 ⟨_,j0 (D3 (pv 1) (K4 rfl (p6 (j9 (i:=3) C_.nd rfl (aI rfl)) (p6 (j9 (i:=4) C_.nd rfl (aI rfl)) A4))))
  (j0 (r6 (i:=5) C_.nd rfl (aI rfl) (v5 C5 rfl N.list fJ (c6 (l8 (Kq K w.params rfl rfl) (C4 (v:=.ref d) rfl G.m rfl) (pv 2) (λ_ _=>rfl)) c7)))
  (t8 (r6 (i:=6) C_.nd rfl (aI rfl) (j8 B9 (j8 B9 (j8 Q6 (v9 (c6 d0 c7)) (j7 j6 rfl N.len bB (c6 (pv 3) c7))) (v5 C5 rfl N.list fJ (c6 (pv 4) c7))) (pv 5)))
  (t8 (r6 (i:=7) C_.nd rfl (aI rfl) (j8 B9 (j8 B9 (v5 C5 rfl N.list fJ (c6 (pv 3) c7)) (j8 Q6 (v9 (c6 d0 c7)) (j7 j6 rfl N.len bB (c6 (pv 4) c7)))) (j8 Q6 (v9 (c6 d0 c7)) (j7 j6 rfl N.len bB (c6 (pv 5) c7)))))
  (j4 (o4 (Cg.c hr (c6 (pv 6) (c6 (j8 B9 (Ch.c hr (c6 (pv 0) (c6 (pv 2) c7))) (v9 (c6 (pv 7) c7)))
   (c6 (j8 B9 (j8 Q6 (v9 (c6 d0 c7)) (j7 j6 rfl N.len bB (c6 (pv 0) c7))) (v9 (c6 d0 c7))) c7)))))))))⟩
theorem Xe:∀k,k<20->Lp.ow (2^60) (k+1)<2^4000:=by decide
theorem T3(h:rows[i]?=some row):Y8 rows i j=row.getD j 0:=by
 have e:rows.getD i []=row:=by rw[bA,h];rfl
 unfold Y8;rw[e]
theorem Q7{l:List Int}(h:∀x∈l,x.natAbs<=M)j:(l.getD j 0).natAbs<=M:=by
 rw[bA]
 cases e:l[j]? with
 |none=>exact dM _
 |some x=>exact h x (bK e)
theorem Mm z:∀x∈K5 z,x.natAbs<=2^60:=by
 unfold K5
 by_cases h1:z="any"
 ·rw[if_pos h1];decide
 by_cases h2:z="one"
 ·rw[if_neg h1,if_pos h2];decide
 by_cases h3:z="less"
 ·rw[if_neg h1,if_neg h2,if_pos h3];decide
 ·rw[if_neg h1,if_neg h2,if_neg h3];decide
theorem b5U(hh:HG br kt kg h)(wz:∀h∈hs,HG br kt kg h)(hf:br<=2^60)q :
  ∀v,Lp.Fits (2^60) (hs.length+1+1) (Lp.Vv (hs.length+1) q (Y8 (G3 z hs h)) (M2 (P6 hs)) (M2 (P3 z h)) v):=by
 have ht:∀g:i8,HG br kt kg g->∀x∈g.1,x.natAbs<=2^60:=λg hg x hx=>by have:=hg.t x hx;lia
 have qo:∀g:i8,HG br kt kg g->∀x∈g.2,x.natAbs<=2^60:=λg hg x hx=>by have:=hg.g x hx;lia
 have z0:∀k:Nat,∀x∈List.replicate k (0:Int),x.natAbs<=2^60:=λk x hx=>by rw[(lL.mp hx).2];decide
 have rows:∀r∈G3 z hs h,∀x∈r,x.natAbs<=2^60:=λr hr x hx=>by
  unfold G3 at hr;rcases bJ.mp hr with hr|hr
  ·obtain⟨g,hg,rfl⟩:=aY.mp hr
   unfold A7 at hx;rcases bJ.mp hx with hx|hx
   ·rcases bJ.mp hx with hx|hx
    ·obtain⟨y,hy,rfl⟩:=aY.mp hx
     have:=ht g (wz g hg) y hy;rw[iV];exact this
    ·exact qo g (wz g hg) x hx
   ·exact Mm z x hx
  ·rw[cJ.mp hr] at hx
   unfold Q5 at hx;rcases bJ.mp hx with hx|hx
   ·rcases bJ.mp hx with hx|hx
    ·exact ht h hh x hx
    ·exact z0 _ x hx
   ·exact z0 _ x hx
 have goal:∀x∈P3 z h,x.natAbs<=2^60:=λx hx=>by
  unfold P3 at hx;rcases bJ.mp hx with hx|hx
  ·rcases bJ.mp hx with hx|hx
   ·exact z0 _ x hx
   ·exact qo h hh x hx
  ·exact Mm z x hx
 have E_:∀x∈P6 hs,x.natAbs<=2^60:=λx hx=>by
  unfold P6 at hx;rcases bJ.mp hx with hx|hx
  ·exact z0 _ x hx
  ·rw[cJ.mp hx];decide
 intro v i _;unfold Lp.Vv
 split
 ·split
  ·unfold Y8
   refine Q7 (λx hx=>?_) v;rw[bA] at hx
   cases e:(G3 z hs h)[i]? with
   |none=>rw[e] at hx;cases hx
   |some r=>rw[e] at hx;exact rows r (bK e) x hx
  ·split
   ·rw[iV];exact Q7 goal v
   ·exact dM _
 ·split
  ·split<;>decide
  ·split
   ·exact Q7 E_ i
   ·exact dM _
end
theorem a8R{rs:List aA}{hs:List i8}(hl:rs.length=hs.length)(h:∀(i:Nat)a g,rs[i]?=some a->hs[i]?=some g->H' a=some (.lst ((A7 z g).map V.int))):si K H' (rs.map V.ref) (hs.map (A7 z)):=by
 induction hs generalizing rs with
 |nil =>
  cases rs with
  |nil=>exact .nil
  |cons a r=>simp at hl
 |cons g hs ih =>
  cases rs with
  |nil=>simp at hl
  |cons a r=>exact .cons ⟨a,rfl,ah.of (h 0 a g rfl rfl)⟩ (ih (by simp_all) λi b g' h1 h2=>h (i+1) b g' (by simpa using h1) (by simpa using h2))
theorem b0M(F:Aj K "greatest_earned" LO f fd)(N:v8 mg)(G:Sg K w.params mg d)(Cg:C9 P w K mg base n "greatest" ["goal","rows","bounds"] (O5 K C Pt) f1 d1)(Ch:C9 P w K mg base n "house_rows" ["houses","sizes"] (M4 K) f2 d2) :
  bf P w K mg base J8 (n+1) f fd ["houses","house","sizes"] (a6Y K Pt):=by
 refine F.oa C_ λay A outer s H vs Q E hr h=>?_
 obtain⟨ba,hv,xs,hs,h,z,br,kt,kg,m,q,rfl,hz,hB,Je,OC,hh,wz,CV,h16,Kr,Ks,rfl,rfl,L,kT,kN⟩:=h;refine⟨_,(eaT N G Cg Ch hr).2,?_⟩;obtain⟨ha,ta,ga,rfl,p1,p2,p3⟩:=id OC;obtain⟨t,ht,hT⟩:=G.tt z hz;have xl:xs.length=hs.length:=dE Je;have sg:=Ml z;have Xf:=t9 (show(1000:Nat)<=1000 from aT _);have l1:=hh.lt;have l2:=hh.lg;refine⟨_,rfl,ha,_,rfl,p1,rfl,_,_,rfl,_,_,rfl,rfl,_,rfl,d,z,t,rfl,rfl,G.k,ht,t,_,rfl,.inr (hT _),λsl je=>?_⟩;have e0:=af.new je (.lst ((K5 z).map V.int));have Jf:upd H sl (.lst ((K5 z).map V.int)) sl=some (.lst ((K5 z).map V.int)):=ae;refine⟨λau H1=>∃ea:aA,au=[some (.ref ba),some (.ref ha),some (.str z),some (.ref ta),some (.ref ga),some (.ref sl),some (.ref ea),none]/\af (upd H sl (.lst ((K5 z).map V.int))) H1/\H1 ea=some (.lst ((P3 z h).map V.int)),?_,?_⟩
 ·refine⟨(by show 1<=sizeLine;decide),λa1 h1=>?_⟩
  have s1:=af.new h1 (.lst [.int 0]);refine⟨_,rfl,ta,_,rfl,.inr (s1.cm (e0.cm p2)),a1,_,_,rfl,rfl,ae,by lia,by rw[aH,l1];lia,by rw[aH,l1,cF];simp;lia,λa2 h2=>?_⟩;rw[aH,cF,N9];have s2:=s1.trans (af.new h2 (.lst ((aQ h.1.length (0:Int)).map V.int)));refine⟨_,rfl,ga,_,rfl,.inr (s2.cm (e0.cm p3)),λa3 h3=>?_⟩;have s3:=s2.trans (af.new h3 (.lst (h.2.map V.int)));refine⟨a2,a3,_,_,rfl,rfl,(by rw[j3 (i7 ae h3)];exact ae),ae,?_,λa4 h4=>?_⟩
  ·rw[aH,aH,bP,l1,l2];lia
  have s4:=s3.trans (af.new h4 (.lst ((aQ h.1.length (0:Int)).map V.int++h.2.map V.int)));refine⟨_,rfl,a4,sl,_,_,rfl,rfl,ae,s4 _ _ Jf,?_,λa5 h5=>?_⟩
  ·rw[aX,aH,aH,aH,bP,l1,l2];lia
  refine⟨a5,rfl,s4.trans (af.new h5 _),?_⟩;rw[ae];unfold P3;rw[bQ,bQ]
 intro Eg H1 cw;refine E8 λG_ cy=>?_;obtain⟨ea,rfl,e1,he⟩:=cw;subst cy;have Hr:=e0.trans e1;refine⟨λau H2=>∃pa:aA,au=[some (.ref ba),some (.ref ha),some (.str z),some (.ref ta),some (.ref ga),some (.ref sl),some (.ref ea),some (.ref pa)]/\af H1 H2/\H2 pa=some (.lst ((Q5 z h).map V.int)),?_,?_⟩
 ·refine⟨_,rfl,ta,_,rfl,.inr (Hr.cm p2),λa1 h1=>⟨(by show 1<=sizeLine;decide),λa2 h2=>?_⟩⟩;have s2:=(af.new h1 (.lst (h.1.map V.int))).trans (af.new h2 (.lst [.int 0]));have Hy:a1≠a2:=i7 ae h2;refine⟨_,rfl,ga,_,rfl,.inr (s2.cm (Hr.cm p3)),a2,_,_,rfl,rfl,ae,by lia,by rw[aH,l2];lia,by rw[aH,l2,cF];simp;lia,λa3 h3=>?_⟩;rw[aH,cF,N9];have s3:=s2.trans (af.new h3 (.lst ((aQ h.2.length (0:Int)).map V.int)));refine⟨a1,a3,_,_,rfl,rfl,(af.new h3 (.lst ((aQ h.2.length (0:Int)).map V.int))) a1 _ ((af.new h2 (.lst [.int 0])) a1 _ ae),ae,?_,λa4 h4=>?_⟩
  ·rw[aH,aH,bP,l1,l2];lia
  refine⟨(by show 1<=sizeLine;decide),λa5 h5=>?_⟩;have s5:=(s3.trans (af.new h4 (.lst (h.1.map V.int++(aQ h.2.length (0:Int)).map V.int)))).trans (af.new h5 (.lst [.int 0]));have lz:((K5 z).map V.int).length=(K5 z).length:=aH _;refine⟨_,rfl,sl,_,rfl,.inl (ah.of (s5 _ _ (e1 _ _ Jf))),a5,_,_,rfl,rfl,ae,by lia,by rw[lz];lia,by rw[lz,cF];simp;lia,λa6 h6=>?_⟩;rw[lz,cF,N9];refine⟨a4,a6,_,_,rfl,rfl,(af.new h6 (.lst ((aQ (K5 z).length (0:Int)).map V.int))) a4 _ ((af.new h5 (.lst [.int 0])) a4 _ ae),ae,?_,λa7 h7=>?_⟩
  ·rw[aX,aH,aH,aH,bP,bP,l1,l2];lia
  refine⟨a7,rfl,(s5.trans (af.new h6 _)).trans (af.new h7 _),?_⟩;rw[ae];unfold Q5;rw[bQ,bQ]
 intro ir H2 cw;refine E8 λG_ cy=>?_;obtain⟨pa,rfl,e2,hp⟩:=cw;subst cy;have HD:=Hr.trans e2;refine⟨_,rfl,_,rfl,_,rfl,ba,xs,hs,z,kt,kg,rfl,hz,HD.seq hB,Je.same HD,by lia,by lia,by lia,λg hg=>⟨(wz g hg).lt,(wz g hg).lg⟩,λr H3 rs e3 zh lr Hx=>⟨_,rfl,(by show 1<=sizeLine;decide),λa1 h1=>⟨r,a1,_,_,rfl,rfl,(by rw[j3 (i7 zh h1)];exact zh),ae,?_,λa2 h2=>?_⟩⟩⟩
 ·rw[aH,lr];simp;lia
 refine⟨(by show 1<=sizeLine;decide),λa3 h3=>?_⟩;have s3:=((e3.trans (af.new h1 (.lst [.ref pa]))).trans (af.new h2 (.lst (rs.map V.ref++[.ref pa])))).trans (af.new h3 (.lst [.int 0]));refine⟨_,rfl,ba,_,rfl,.inl ((HD.trans s3).seq hB),a3,_,_,rfl,rfl,ae,by lia,by rw[xl];lia,by rw[xl,cF];simp;lia,λa4 h4=>?_⟩;rw[xl,cF,N9];refine⟨(by show 1<=sizeLine;decide),λa5 h5=>?_⟩;refine⟨a4,a5,_,_,rfl,rfl,(by rw[j3 (i7 ae h5)];exact ae),ae,?_,λa6 h6=>?_⟩
 ·rw[aH,bP];simp;lia
 have s6:=((s3.trans (af.new h4 (.lst ((aQ hs.length (0:Int)).map V.int)))).trans (af.new h5 (.lst [.int 1]))).trans (af.new h6 (.lst ((aQ hs.length (0:Int)).map V.int++[.int 1])));have g3:∀b o,upd (upd H3 a1 (.lst [.ref pa])) a2 (.lst (rs.map V.ref++[.ref pa])) b=some o->upd (upd (upd (upd (upd (upd H3 a1 (.lst [.ref pa])) a2 (.lst (rs.map V.ref++[.ref pa]))) a3 (.lst [.int 0])) a4 (.lst ((aQ hs.length (0:Int)).map V.int))) a5 (.lst [.int 1])) a6 (.lst ((aQ hs.length (0:Int)).map V.int++[.int 1])) b=some o :=
  (((af.new h3 (.lst [.int 0])).trans (af.new h4 (.lst ((aQ hs.length (0:Int)).map V.int)))).trans (af.new h5 (.lst [.int 1]))).trans (af.new h6 (.lst ((aQ hs.length (0:Int)).map V.int++[.int 1])))
 have eb:(aQ hs.length (0:Int)).map V.int++[.int 1]=(P6 hs).map V.int:=by unfold P6;rw[bQ];rfl
 have hA:af H (upd (upd (upd (upd (upd (upd H3 a1 (.lst [.ref pa])) a2 (.lst (rs.map V.ref++[.ref pa]))) a3 (.lst [.int 0])) a4 (.lst ((aQ hs.length (0:Int)).map V.int))) a5 (.lst [.int 1])) a6 (.lst ((aQ hs.length (0:Int)).map V.int++[.int 1]))):=HD.trans s6;refine⟨ea,a2,a6,P3 z h,rs.map V.ref++[.ref pa],G3 z hs h,P6 hs,hs.length+1,h.1.length+h.2.length+(K5 z).length,2^60,rfl,ah.of (s6 _ _ (e2 _ _ he)),ah.of (g3 _ _ ae),?_,?_,?_,?_,?_,?_,by lia,by lia,?_,b5U hh wz CV _,Xe _ (by lia),L.same hA,λS H' t' aa wa O hn sz e' L' g1 g2 g4=>kT S H' t' aa wa O hn sz (λb o hb q'=>e' b o hb (hA b o q')) L' g1 g2 g4,λS H' c O hc gs AB e' L'=>kN S H' c O hc gs AB (λb o hb q'=>e' b o hb (hA b o q')) L'⟩
 ·unfold G3
  refine aZ.app ((a8R (K:=K) lr Hx).same ((((((af.new h1 (.lst [.ref pa])).trans (af.new h2 (.lst (rs.map V.ref++[.ref pa])))).trans (af.new h3 (.lst [.int 0]))).trans (af.new h4 (.lst ((aQ hs.length (0:Int)).map V.int)))).trans (af.new h5 (.lst [.int 1]))).trans (af.new h6 (.lst ((aQ hs.length (0:Int)).map V.int++[.int 1]))))) (.cons ⟨pa,rfl,ah.of (s6 _ _ hp)⟩ .nil)
 ·rw[<-eb];exact ah.of ae
 ·unfold G3;simp
 ·unfold P6;simp
 ·unfold P3;simp[sB]
 ·intro r hr
  unfold G3 at hr;rcases bJ.mp hr with hr|hr
  ·obtain⟨g,hg,rfl⟩:=aY.mp hr
   unfold A7;rw[aX,aX,aH,(wz g hg).lt,(wz g hg).lg,l1,l2]
  ·rw[cJ.mp hr]
   unfold Q5;simp;lia
 ·intro i hi
  unfold M2 P6;rw[bA]
  by_cases h':i<hs.length
  ·rw[dH (by simpa using h'),gD,if_pos h'];exact dL _
  ·rw[dU (by simp;lia)]
   have:i-(aQ hs.length (0:Int)).length=0:=by simp;lia
   rw[this];decide
def c0h:p7 ["book","number","sizes"] ["book","number","sizes"] (i9 VG):={}
def Dc:p7 ["houses","house","sizes","found","top","amounts","weights","bottom"] ["houses","house","sizes"] (i9 VF):={}
end Rim
namespace Lp
theorem Of.way(O:Of m q A b c S)(hc:cc<q)(neg:S.T m cc<0)(no:∀i,i<m->¬0<S.T i cc):∃y:Nat->Int,(∀j,j<q->0<=y j)/\(∀i,i<m->sumTo (λj=>A i j*y j) q<=0)/\0<sumTo (λj=>c j*y j) q:=by
 have K0:=(O.k _).mp (O.w.qp (c:=cc) (by lia));obtain⟨rows,goal⟩:=EW.mp K0;have zc:nc m S cc (q+m+1)=0:=by
  rw[<-O.w.oq];exact O.w.h_ (by lia) (by lia) (by lia)
 have zg:nc m S cc (q+m) =-S.T m cc:=by
  rw[<-O.w.im];exact O.w.jd (by lia) (by lia)
 have nn:∀v,v<q+m->0<=nc m S cc v:=λv hv=>by
  rcases O.w.all v hv with⟨i,hi,e⟩|⟨j,hj,e⟩
  ·rw[<-e,O.w.jd (by lia) (by lia)]
   have:=no i hi;lia
  ·rw[<-e]
   by_cases wj:j=cc
   ·subst wj
    rw[Wf.yi];exact cC O.w.pos
   ·rw[O.w.h_ (by lia) (by lia) wj];exact dL _
 refine⟨nc m S cc,λj hj=>nn j (by lia),λi hi=>?_,by rw[<-goal,zg];lia⟩;have r0:=rows i hi;rw[zc,cW,gK] at r0;have n0:=nn (q+i) (by lia);lia
theorem Of.bounded(O:Of m q A b c S)(h0:i0<m)(hl:l<m)(hA:∀j,j<q->A i0 j+A l j=c j)(hc:cc<q)(neg:S.T m cc<0)(no:∀i,i<m->¬0<S.T i cc):False:=by
 obtain⟨y,_,rows,goal⟩:=O.way hc neg no;have r0:=rows i0 h0;have rl:=rows l hl;have e:sumTo (λj=>c j*y j) q=sumTo (λj=>A i0 j*y j) q+sumTo (λj=>A l j*y j) q:=by
  rw[<-Z0];refine aj λj hj=>?_;rw[<-hA j hj,fG]
 lia
end Lp
namespace Rim
open PySem L2 Fr
theorem a8U xs(a b:Nat)(h:a<=b)(hb:b<=xs.length):P5 xs (some (a:Int)) (some (b:Int))=(xs.drop a).take (b-a):=by
 unfold P5;rw[HT.gy,HT.gy,jT hb,jT (by lia)]
theorem cq.fg(T:cu P pos qual H)(e:bj P H H')(h:cq K H a xs):cq K H' a xs:=by
 have ne:∀o,H a=some o->(∀ps,o≠.my ps)->a≠P:=λo q n z=>by
  subst z;rcases T with t|⟨c,t,_⟩
  ·rw[q] at t;exact n _ (bD t)
  ·rw[q] at t;exact n _ (bD t)
 rcases h with(h|⟨o,h⟩)|h
 ·exact .inl (.inl (e _ _ (ne _ h λ_=>nofun) h))
 ·exact .inl (.inr ⟨o,e _ _ (ne _ h λ_=>nofun) h⟩)
 ·exact .inr h
theorem HS.fg(T:LT Pt H)(e:bj Pt H H')(x:HS K H v h):HS K H' v h:=by
 obtain⟨a,t,g,h0,h1,h2,h3⟩:=x;exact⟨a,t,g,h0,cq.fg T e h1,cq.fg T e h2,cq.fg T e h3⟩
def Bk.fg(T:LT Pt H)(e:bj Pt H H')(x:Bk K H vs hs):Bk K H' vs hs:=aZ.imp' (λ_ _ r=>HS.fg T e r) x
theorem F0{r:List Int}j:(l++r).getD j 0=if j<l.length then l.getD j 0 else r.getD (j-l.length) 0:=by grind
theorem M3 k j:(aQ k (0:Int)).getD j 0=0:=by
 rw[bA,gD]
 split<;>rfl
theorem Rt(l:List Int)j:(l.map λx=>-x).getD j 0 =-l.getD j 0:=by
 rw[bA,bA,aP]
 cases l[j]?<;>rfl
theorem b1v(hi:hs[i]?=some h)j:Y8 (G3 z hs h) i j+Y8 (G3 z hs h) hs.length j=M2 (P3 z h) j:=by
 have e1:(G3 z hs h)[i]?=some (A7 z h):=by
  unfold G3;rw[dH (by rw[aH];exact((cA.mp hi).1)),aP,hi];rfl
 have e2:(G3 z hs h)[hs.length]?=some (Q5 z h):=by
  unfold G3;rw[dU (by simp),aH,gL];rfl
 rw[T3 e1,T3 e2];unfold M2 A7 Q5 P3;simp only[F0,M3,Rt,aX,aH,bP]
 by_cases h1:j<h.1.length
 ·rw[if_pos (by lia),if_pos h1,if_pos (by lia),if_pos h1,if_pos (by lia),if_pos h1];lia
 ·by_cases h2:j<h.1.length+h.2.length
  ·rw[if_pos h2,if_neg h1,if_pos h2,if_neg h1,if_pos h2,if_neg h1,gK]
  ·rw[if_neg h2,if_neg h2,if_neg h2,gK]
structure vn(P:aM)(w:aL)(K:aF)(mg:aC->Option aE)(base:aJ)(n:Nat)(x:aC)(ps:List aC)(sp:Sp)(fa:aA)(d:aK):Prop where
 ok:bf P w K mg base (W2 P w) n fa d ps sp
 b:Binds K d ps []
 k:dX K (.ref fa)=true
 m:mg x=some (.ref fa)
abbrev mE(hs:List i8):Nat:=hs.length+1
abbrev qE(z:aC)(h:i8):Nat:=h.1.length+h.2.length+(K5 z).length
structure O6(K:aF)(H:Hp)(ba:aA)(xs:List V)(hs:List i8)(br:Int)(kt kg:Nat):Prop where
 l:ah K H ba xs
 b:Bk K H xs hs
 g:∀h∈hs,HG br kt kg h
 br:br<=2^60
 few:hs.length<=16
 t:kt<=20
 k:kg<=20
def sj(z:aC)(hs:List i8)(h:i8)(S:Lp.Bo):Prop:=OE z hs h S/\(∀j,j<qE z h->¬S.T (mE hs) j<0)/\Sz 4000 (mE hs) (qE z h) S
inductive OI(K:aF)(CN Pt:aA)(vs:List V)(H:Hp)(Q:VK)(E:XK):Prop|mk:∀(ba:aA)(xs:List V)(hs:List i8)(number:Int)(z:aC)(br:Int)(kt kg:Nat),vs=[.ref ba,.int number,.str z]->O4 z->O6 K H ba xs hs br kt kg->number.natAbs.log2<1920->LT Pt H->(∀(i:Nat)h S H' u,number=(i:Int)->hs[i]?=some h->sj z hs h S->bj Pt H H'->LT Pt H'->Ex H' u (low (S.T (mE hs) (qE z h)) S.d)->Q u H')->(¬AA xs.length number->E (.ref CN) none H)->OI K CN Pt vs H Q E
theorem a9r(B:sj z hs h S):0<S.d/\S.d<2^8000:=by
 refine⟨B.1.w.pos,?_⟩;have h2:(2:Nat)^4000<=2^8000:=lG (by decide) (by decide);have h3:S.d=(S.d.natAbs:Int):=by have:=B.1.w.pos;lia
 rw[h3]
 exact_mod_cast bS B.2.2.2 h2
theorem a8Y(O:Lp.Of m q A b c S)(sz:Sz 4000 m q S)(hv:v<q):fh 4000 (Lp.cg m S q v):=by
 have Lx:v<q+m:=by lia
 rcases O.w.all v Lx with⟨i,hi,e⟩|⟨j,hj,e⟩
 ·have:Lp.cg m S q v=S.T i q:=by
   unfold Lp.cg;rw[Lp.cz hi λk hk hn=>if_neg λz=>hn (O.w.ii k i hk hi (z.trans e.symm)),if_pos e]
  rw[this];exact sz.1 i q (by lia) (by lia)
 ·have:Lp.cg m S q v=0:=Lp.dm λk hk=>if_neg λz=>O.w.io k j hk hj (z.trans e.symm)
  rw[this]
  exact sC (by decide)
inductive Ru(K:aF)(Pt:aA)(vs:List V)(H:Hp)(Q:VK)(z3_:XK):Prop|mk:∀ba hv xs hs h z br kt kg,vs=[.ref ba,hv,.str z]->O4 z->O6 K H ba xs hs br kt kg->HS K H hv h->HG br kt kg h->LT Pt H->(∀S H' u,sj z hs h S->bj Pt H H'->LT Pt H'->Ex H' u (low (S.T (mE hs) (qE z h)) S.d)->Q u H')->(∀S H' c,OE z hs h S->c<qE z h->S.T (mE hs) c<0->(∀i,i<mE hs->¬0<S.T i c)->bj Pt H H'->LT Pt H'->Q .non H')->Ru K Pt vs H Q z3_
theorem b5C(F:Aj K "held_against" VF f fd)(Ce:C9 P w K mg base n "greatest_earned" ["houses","house","sizes"] (a6Y K Pt) f2 d2)
  (Cl:CZ P w K mg base n "lowest" ["top","bottom"] Xd f3 d3):bf P w K mg base J8 (n+1) f fd ["houses","house","sizes"] (Ru K Pt):=by
 refine F.oa Dc λay A outer s H vs Q E hr h=>?_
 obtain⟨ba,hv,xs,hs,h,z,br,kt,kg,rfl,hz,B,hH,gh,L,kG,kN⟩:=h;refine⟨_,j0 (r6 (i:=3) Dc.nd rfl (aI rfl) (Ce.c hr (c6 (pv 0) (c6 (pv 1) (c6 (pv 2) c7)))))
  (j0 (w6 (l5 Lv (pv 3) D5 (r9 _)) (j4 (o4 D5)) r8)
  (j0 (D3 (pv 3) (K4 rfl (p6 (j9 (i:=4) Dc.nd rfl (aI rfl)) (p6 (j9 (i:=5) Dc.nd rfl (aI rfl)) (p6 (j9 (i:=6) Dc.nd rfl (aI rfl)) (p6 (j9 (i:=7) Dc.nd rfl (aI rfl)) A4))))))
  (j4 (o4 (Cl.c hr (c6 (pv 4) (c6 (pv 7) c7))))))),?_⟩
 refine⟨_,rfl,_,rfl,_,rfl,ba,hv,xs,hs,h,z,br,kt,kg,mE hs,qE z h,rfl,hz,B.l,B.b,hH,gh,B.g,B.br,B.few,B.t,B.k,rfl,rfl,L,λS H' t aa wa O hn sz e' L' g1 g2 g3=>?_,λS H' c O hc gs AB e' L'=>⟨_,rfl,rfl,_,rfl,J3 (kN S H' c O hc gs AB e' L')⟩⟩
 ·have Bs:sj z hs h S:=⟨O,hn,sz⟩
  obtain⟨b1,b2⟩:=a9r Bs;exact⟨_,rfl,rfl,_,rfl,M7 ⟨_,rfl,t,_,rfl,cq.of g1,rfl,_,_,rfl,_,_,rfl,_,_,rfl,_,_,rfl,rfl,_,rfl,_,rfl,_,_,rfl,b1,b2,λu H2 e2 hu=>kG S H2 u Bs (λb o hb q'=>e2 _ _ (e' b o hb q')) (L'.same e2) hu⟩⟩
theorem b1g(F:Aj K "share" VG f fd)(Ch:vn P w K mg base n "house_of" ["book","number"] (OA K CN) f1 d1)(Ce:C9 P w K mg base n "held_against" ["houses","house","sizes"] (Ru K Pt) f2 d2):bf P w K mg base (W2 P w) (n+1) f fd ["book","number","sizes"] (OI K CN Pt):=by
 refine F.ob c0h λay A outer s H vs Q E hr h=>?_
 obtain⟨ba,xs,hs,number,z,br,kt,kg,rfl,hz,B,lm,L,kG,kE⟩:=h;refine⟨_,j4 (o4 (Ce.c hr (c6 (pv 0) (c6 (l7 Ch.ok hr rfl Ch.m Ch.k Ch.b .nil V5 (c6 (pv 0) (c6 (pv 1) c7))) (c6 (pv 2) c7))))),_,rfl,_,rfl,_,rfl,ba,xs,number,rfl,B.l,lm,λi hv hi hx=>?_,kE⟩;obtain⟨h,hh,hH⟩:=aZ.at B.b hx;refine⟨_,rfl,ba,hv,xs,hs,h,z,br,kt,kg,rfl,hz,B,hH,B.g h (bK hh),L,λS H' u Bs e' L' hu=>kG i h S H' u hi hh Bs e' L' hu,λS H' c O hc gs AB e' L'=>(O.bounded (by have:=(cA.mp hh).1;lia) (by lia) (λj _=>b1v hh j) hc gs AB).elim⟩
end Rim
namespace L2
open PySem
def fh.mono(h:fh n i)(hn:n<=m):fh m i:=Rim.fh.mono h hn
def fh.mul(h:fh n i)(k:fh m j):fh (n+m) (i*j):=Rim.fh.mul h k
end L2
namespace Fr
theorem c8h{a b:Int}(ha:0<a)(hb:0<b):a<=a*b:=by
 have:=jU (show(1:Int)<=b by lia) (cC ha);rw[jF] at this;exact this
theorem b4Y(hD:0<D):(low x D).2∣D:=⟨gI x D,by rw[bX];exact(QM hD).2⟩
def b7R(hb:0<b):(low t b).2<=b:=wG hb (b4Y hb)
end Fr
namespace Rim
open PySem L2 Fr
theorem d1w{t b:Int}{n:Nat}(hb:0<b)(h:fh n t):fh n (low t b).1:=by
 obtain⟨h1,_⟩:=QM (t:=t) hb;have hg:=QL (a:=t) hb;unfold fh at *;have e:t.natAbs=(gI t b).natAbs*(low t b).1.natAbs:=by rw[<-rV,<-h1]
 have:1<=(gI t b).natAbs:=by lia
 have:=pJ (low t b).1.natAbs this;lia
def OJ(z:aC)(s D:Int):Prop:=((z="one"\/z="less")->s<=D)/\((z="one"\/z="more")->D<=s)
theorem b4w:∀{ws:List Int}{m},(∀x∈ws,fh m x)->ws.length<=200->fh (m+200) ws.sum:=λ{ws m}h hl=>by
 have key:∀l:List Int,(∀x∈l,fh m x)->l.sum.natAbs<=l.length*2^m:=λl=>by
  induction l with
  |nil=>intro _;exact dM _
  |cons x r ih =>
   intro h;have h1:x.natAbs<2^m:=h x cY;have h2:=ih λy hy=>h y (bZ _ hy);have h3:=Int.natAbs_add_le x r.sum;rw[dW,eM,mI];lia
 have h3:200*2^m<2^(m+200):=by
  rw[xF,qX];exact Nat.mul_lt_mul_of_pos_left (by decide) (sC (by decide))
 exact gU (bF (key ws h) (pJ _ hl)) h3
def col(rows:List (List Int))(i:Nat):List Int:=rows.map λr=>r.getD i 0
def V4(j:Nat)(h:i8):List Int:=if j=0 then h.1 else h.2
end Rim
namespace L2
open PySem PySem.Spec PyProof.Rows
end L2
namespace Rim
open PySem L2 Fr
def L8(hs:List i8)(ws:List Int)(j i:Nat):Int:=(cV (·*·) (col (hs.map (V4 j)) i) ws).sum
theorem b2p:∀{ns ws},(∀x∈ns,fh a x)->(∀x∈ws,fh b x)->∀x∈List.zipWith (·*·) ns ws,fh (a+b) x
 |[],_,_,_,x,hx=>by simp at hx
 |_::_,[],_,_,x,hx=>by simp at hx
 |n::ns,w::ws,h1,h2,x,hx=>by
  rw[eW] at hx;rcases bH.mp hx with e|e
  ·rw[e];exact(h1 n cY).mul (h2 w cY)
  ·exact b2p (λy hy=>h1 y (bZ _ hy)) (λy hy=>h2 y (bZ _ hy)) x e
theorem Xh:∀{xs ys}{a b:Int},xs.length=ys.length->(cV (·*·) (xs++[a]) (ys++[b])).sum=(cV (·*·) xs ys).sum+a*b
 |[],[],a,b,_=>by simp
 |x::xs,y::ys,a,b,h=>by
  rw[fD,fD,eW,eW,dW,dW,Xh (by simp_all),Int.add_assoc]
structure PrN(pt pg:List Int)(ps D:Int)(kt kg:Nat):Prop where
 lt:pt.length=kt
 lg:pg.length=kg
 bt:∀x∈pt,0<=x/\fh 5000 x
 bg:∀x∈pg,0<=x/\fh 5000 x
 bs:fh 5000 ps
 d:0<D
 d2:D<2^4000
def P7(h:i8)(pg:List Int)(ps:Int):Int:=(cV (·*·) h.2 pg).sum+ps
def pay(h:i8)(pt:List Int):Int:=(cV (·*·) h.1 pt).sum
def OK(z:aC)(ps:Int):Prop:=((z="any"\/z="less")->ps<=0)/\((z="any"\/z="more")->0<=ps)
mutual
theorem b1O:∀d:dI,d.canLay0=true->cK d d=true
 |.none,_=>by rw[cK]
 |.bool b,_=>by rw[cK];simp
 |.int i,_=>by rw[cK];simp
 |.str x,_=>by rw[cK];simp
 |.list xs,h=>by rw[cK];exact Xi xs (by rw[fU] at h;exact h)
 |.tuple xs,h=>by rw[cK];exact Xi xs (by rw[fU] at h;exact h)
 |.dict dz,h=>by rw[fU] at h;cases h
theorem Xi:∀ds:List dI,cP ds=true->hV ds ds=true
 |[],_=>by rw[hV]
 |d::r,h=>by
  rw[cP,fQ] at h;rw[hV,b1O d h.1,Xi r h.2];rfl
end
def dF(x:Q2):dI:=.tuple [.int x.1,.int x.2]
theorem Xc.dp(h:Xc K H v x):Dp K H v (dF x):=by
 obtain⟨a,rfl,q⟩:=h;exact .tup q (.cons (.int _) (.cons (.int _) .nil))
def c8p x:(dF x).canLay0=true:=rfl
theorem d0D x:(dF x).depth<=60:=by
 unfold dF;simp[iY,iC]
theorem a5v(hD:0<D):(low x D).1*D=x*(low x D).2:=by
 obtain⟨h1,h2⟩:=QM hD;generalize (low x D).1=a at *;generalize (low x D).2=b at *;generalize gI x D=g at *;rw[h1,h2]
 ac_rfl
end Rim
namespace Lp
theorem O7:∀{n},(∀k,k<n->g k<=h k)->sumTo g n<=sumTo h n
 |0,_=>dL _
 |n+1,e=>Int.add_le_add (O7 λk hk=>e k (by lia)) (e n (by lia))
theorem a9A:∀n,sumTo (λk=>g k-h k) n=sumTo g n-sumTo h n
 |0=>rfl
 |n+1=>by
  show sumTo (λk=>g k-h k) n+(g n-h n)=(sumTo g n+g n)-(sumTo h n+h n)
  rw[a9A n];lia
theorem Of.weak(O:Of m q A b c S)(hn:∀j,j<q->¬S.T m j<0){y:Nat->Int}(hy:∀j,j<q->0<=y j)(hr:∀i,i<m->sumTo (λj=>A i j*y j) q<=b i*e):S.d*sumTo (λj=>c j*y j) q<=e*S.T m q:=by
 obtain⟨D1,D2⟩:=O.Hv;have nn:∀v,0<=aq m q S v:=Of.jn λj hj=>by have:=hn j hj;lia
 have e1:S.d*sumTo (λj=>c j*y j) q=sumTo (λj=>sumTo (λi=>A i j*aq m q S (q+i)) m*y j-aq m q S j*y j) q:=by
  rw[<-D8];refine aj λj hj=>?_;rw[D1 j hj,fG,xG,bX (c j) S.d,cG]
 have e2:sumTo (λj=>sumTo (λi=>A i j*aq m q S (q+i)) m*y j-aq m q S j*y j) q<=sumTo (λj=>sumTo (λi=>A i j*aq m q S (q+i)) m*y j) q:=by
  refine O7 λj hj=>?_;have:=eO (nn j) (hy j hj);lia
 have e3:sumTo (λj=>sumTo (λi=>A i j*aq m q S (q+i)) m*y j) q=sumTo (λi=>aq m q S (q+i)*sumTo (λj=>A i j*y j) q) m:=by
  have x1:sumTo (λj=>sumTo (λi=>A i j*aq m q S (q+i)) m*y j) q=sumTo (λj=>sumTo (λi=>aq m q S (q+i)*(A i j*y j)) m) q:=by
   refine aj λj hj=>?_;rw[bX,<-D8];refine aj λi hi=>?_
   ac_rfl
  rw[x1,NY];refine aj λi hi=>?_;rw[D8]
 have e4:sumTo (λi=>aq m q S (q+i)*sumTo (λj=>A i j*y j) q) m<=sumTo (λi=>e*(b i*aq m q S (q+i))) m:=by
  refine O7 λi hi=>?_;have:=jU (hr i hi) (nn (q+i));have x:aq m q S (q+i)*(b i*e)=e*(b i*aq m q S (q+i)):=by ac_rfl
  rw[x] at this;exact this
 rw[D8,D2] at e4;rw[e1];rw[e3] at e2;exact xA e2 e4
theorem Of.OL(O:Of m q A b c S)(hn:∀j,j<q->¬S.T m j<0)(hl:l<m)(hw:0<aq m q S (q+l)):sumTo (λj=>A l j*cg m S q j) q=b l*S.d:=by
 obtain⟨p1,p2⟩:=O.Ay;have nn:∀v,0<=aq m q S v:=Of.jn λj hj=>by have:=hn j hj;lia
 have nx:=O.sh
 by_cases h0:cg m S q (q+l)=0
 ·have:=p1 l hl
  lia
 ·exfalso
  have hp:0<cg m S q (q+l):=by have:=nx (q+l);lia
  obtain⟨D1,D2⟩:=O.Hv;have e1:S.d*sumTo (λj=>c j*cg m S q j) q<=sumTo (λi=>aq m q S (q+i)*sumTo (λj=>A i j*cg m S q j) q) m:=by
   have x1:S.d*sumTo (λj=>c j*cg m S q j) q=sumTo (λj=>sumTo (λi=>A i j*aq m q S (q+i)) m*cg m S q j-aq m q S j*cg m S q j) q:=by
    rw[<-D8];refine aj λj hj=>?_;rw[D1 j hj,fG,xG,bX (c j) S.d,cG]
   have x2:sumTo (λj=>sumTo (λi=>A i j*aq m q S (q+i)) m*cg m S q j-aq m q S j*cg m S q j) q<=sumTo (λj=>sumTo (λi=>aq m q S (q+i)*(A i j*cg m S q j)) m) q:=by
    refine O7 λj hj=>?_;have y:=eO (nn j) (nx j);have z:sumTo (λi=>A i j*aq m q S (q+i)) m*cg m S q j=sumTo (λi=>aq m q S (q+i)*(A i j*cg m S q j)) m:=by
     rw[bX,<-D8];refine aj λi hi=>?_
     ac_rfl
    lia
   rw[NY] at x2;have x3:sumTo (λi=>sumTo (λj=>aq m q S (q+i)*(A i j*cg m S q j)) q) m=sumTo (λi=>aq m q S (q+i)*sumTo (λj=>A i j*cg m S q j) q) m:=aj λi hi=>by rw[D8]
   rw[x1,<-x3];exact x2
  have e2:sumTo (λi=>aq m q S (q+i)*sumTo (λj=>A i j*cg m S q j) q) m<=sumTo (λi=>S.d*(b i*aq m q S (q+i))-(if i=l then aq m q S (q+l)*cg m S q (q+l) else 0)) m:=by
   refine O7 λi hi=>?_;have y:=p1 i hi;have z:=eO (nn (q+i)) (nx (q+i));have ez:aq m q S (q+i)*sumTo (λj=>A i j*cg m S q j) q=S.d*(b i*aq m q S (q+i))-aq m q S (q+i)*cg m S q (q+i):=by
    have:sumTo (λj=>A i j*cg m S q j) q=b i*S.d-cg m S q (q+i):=by lia
    rw[this,lC]
    congr 1
    ac_rfl
   rw[ez]
   by_cases nj:i=l
   ·subst nj
    rw[if_pos rfl];exact dL _
   ·rw[if_neg nj];lia
  have e3:sumTo (λi=>S.d*(b i*aq m q S (q+i))-(if i=l then aq m q S (q+l)*cg m S q (q+l) else 0)) m=S.d*S.T m q-aq m q S (q+l)*cg m S q (q+l):=by
   rw[a9A,D8,D2,cz hl λi hi mm=>if_neg mm,if_pos rfl]
  rw[p2] at e1;have:=gJ hw hp;lia
end Lp
namespace Rim
open PySem L2 Fr
abbrev x8(l x:List Int):Int:=(cV (·*·) l x).sum
theorem Xj:∀l r x,x8 (l++r) x=x8 l (x.take l.length)+x8 r (x.drop l.length)
 |[],r,x=>by simp[x8]
 |a::l,r,[]=>by simp[x8]
 |a::l,r,y::x=>by
  have:=Xj l r x;unfold x8 at *;rw[fD,eW,dW,this,eM,xH,xI,eW,dW];lia
theorem Mn:∀l x,x8 (l.map λy=>-y) x =-x8 l x
 |[],x=>by simp[x8]
 |a::l,[]=>by simp[x8]
 |a::l,y::x=>by
  have:=Mn l x;unfold x8 at *;rw[cS,eW,dW,this,eW,dW,iJ];lia
theorem T6:∀k x,x8 (aQ k 0) x=0
 |0,x=>by simp[x8]
 |k+1,[]=>by simp[x8]
 |k+1,y::x=>by
  have:=T6 k x;unfold x8 at *;rw[eZ,eW,dW,this];lia
theorem T8:∀l x,x8 l x=x8 x l
 |[],x=>by simp[x8]
 |a::l,[]=>by simp[x8]
 |a::l,y::x=>by
  have:=T8 l x;unfold x8 at *;rw[eW,dW,this,eW,dW,bX]
theorem b3z:∀{l x},(∀y∈l,0<=y)->(∀y∈x,0<=y)->0<=x8 l x
 |[],x,_,_=>by simp[x8]
 |a::l,[],_,_=>by simp[x8]
 |a::l,y::x,h1,h2=>by
  have:=b3z (λz hz=>h1 z (.tail _ hz)) λz hz=>h2 z (.tail _ hz);unfold x8 at *;rw[eW,dW];have:=eO (h1 a (.head _)) (h2 y (.head _));lia
theorem M9:∀n l x,l.length=n->x.length=n->Lp.sumTo (λj=>l.getD j 0*x.getD j 0) n=x8 l x
 |0,l,x,h1,h2=>by
  rw[lM h1];simp[x8,Lp.sumTo]
 |n+1,l,x,h1,h2=>by
  obtain⟨l',a,rfl⟩:Ev2 λl' a=>l=l'++[a]:=⟨l.dropLast,l.getLast (by intro z;rw[z] at h1;cases h1),(xJ _).symm⟩;obtain⟨x',b,rfl⟩:Ev2 λl' a=>x=l'++[a]:=⟨x.dropLast,x.getLast (by intro z;rw[z] at h2;cases h2),(xJ _).symm⟩;have l1:l'.length=n:=by simp_all
  have l2:x'.length=n:=by simp_all
  show Lp.sumTo _ n+_=_
  have e:Lp.sumTo (λj=>(l'++[a]).getD j 0*(x'++[b]).getD j 0) n=Lp.sumTo (λj=>l'.getD j 0*x'.getD j 0) n:=Lp.aj λj hj=>by
   rw[F0,F0,if_pos (by lia),if_pos (by lia)]
  rw[e,M9 n l' x' l1 l2]
  show _=(cV (·*·) (l'++[a]) (x'++[b])).sum
  rw[Xh (by lia)]
  show x8 l' x'+(l'++[a]).getD n 0*(x'++[b]).getD n 0=_
  rw[F0,F0,if_neg (by lia),if_neg (by lia),l1,l2,gL];rfl
theorem Ku{F:Nat->Int}(h:j<n):((aW n).map F).getD j 0=F j:=by
 rw[bA,aP,cU h];rfl
theorem Xk:∀{l x},(∀y∈l,0<=y)->(∀y∈x,0<=y)->0<x8 l x->∃j,j<x.length/\0<x.getD j 0
 |[],x,_,_,h=>by simp[x8] at h
 |a::l,[],_,_,h=>by simp[x8] at h
 |a::l,y::x,h1,h2,h=>by
  by_cases hy:0<y
  ·exact⟨0,by simp,by simpa using hy⟩
  ·have y0:y=0:=by have:=h2 y (.head _);lia
   subst y0;have h':0<x8 l x:=by
    unfold x8 at *;rw[eW,dW] at h;lia
   obtain⟨j,hj,hp⟩:=Xk (λz hz=>h1 z (.tail _ hz)) (λz hz=>h2 z (.tail _ hz)) h';exact⟨j+1,by simp;lia,by simpa using hp⟩
theorem Xl:∀{l x},(∀y∈l,0<y)->(∀y∈x,0<=y)->l.length=x.length->(∃j,j<x.length/\0<x.getD j 0)->0<x8 l x
 |[],[],_,_,_,⟨j,hj,_⟩=>by simp at hj
 |a::l,y::x,h1,h2,hl,⟨j,hj,hp⟩=>by
  have nn:0<=x8 l x:=b3z (λz hz=>cC (h1 z (.tail _ hz))) (λz hz=>h2 z (.tail _ hz));have ya:=eO (cC (h1 a (.head _))) (h2 y (.head _))
  cases j with
  |zero =>
   have:0<a*y:=gJ (h1 a (.head _)) (by simp_all);unfold x8 at *;rw[eW,dW];lia
  |succ j =>
   have:=Xl (λz hz=>h1 z (.tail _ hz)) (λz hz=>h2 z (.tail _ hz)) (by simp_all) ⟨j,by simpa using hj,by simpa using hp⟩;unfold x8 at *;rw[eW,dW];lia
 |[],_::_,_,_,hl,_=>by simp at hl
 |_::_,[],_,_,hl,_=>by simp at hl
theorem a9W(O:Lp.Of m q A b c S)(sz:Sz 4000 m q S)(hv:v<q+m):fh 4000 (Lp.aq m q S v):=by
 rcases O.w.all v hv with⟨i,hi,e⟩|⟨j,hj,e⟩
 ·have:Lp.aq m q S v=0:=Lp.dm λk hk=>if_neg λz=>O.w.io i k hi hk (e.trans z.symm)
  rw[this]
  exact sC (by decide)
 ·have:Lp.aq m q S v=S.T m j:=by
   unfold Lp.aq;rw[Lp.cz hj λk hk hn=>if_neg λz=>hn (O.w.oo k j hk hj (z.trans e.symm)),if_pos e]
  rw[this];exact sz.1 m j (by lia) (by lia)
theorem Rv(O:Lp.Of m q (Y8 rows) (M2 ow) (M2 goal) S)(hi:i<m)(hr:rows[i]?=some row)(hl:row.length=q):x8 row (v7 m q S)<=ow.getD i 0*S.d:=by
 have h:=O.Ay.1 i hi;have nn:=O.sh (q+i);have e:Lp.sumTo (λj=>Y8 rows i j*Lp.cg m S q j) q=x8 row (v7 m q S):=by
  rw[<-M9 q row (v7 m q S) hl (by unfold v7;simp)];refine Lp.aj λj hj=>?_;rw[T3 hr];unfold v7;rw[Ku hj]
 rw[e] at h
 show _<=M2 ow i*S.d
 lia
theorem a4n(O:Lp.Of m q (Y8 rows) (M2 ow) (M2 goal) S)(hn:∀j,j<q->¬S.T m j<0)(hi:i<m)(hr:rows[i]?=some row)(hl:row.length=q)(hw:0<Lp.aq m q S (q+i)):x8 row (v7 m q S)=ow.getD i 0*S.d:=by
 have h:=O.OL hn hi hw;have e:Lp.sumTo (λj=>Y8 rows i j*Lp.cg m S q j) q=x8 row (v7 m q S):=by
  rw[<-M9 q row (v7 m q S) hl (by unfold v7;simp)];refine Lp.aj λj hj=>?_;rw[T3 hr];unfold v7;rw[Ku hj]
 rw[e] at h;exact h
theorem Xm(O:Lp.Of m q (Y8 rows) (M2 ow) (M2 goal) S)(hl:goal.length=q):x8 goal (v7 m q S)=S.T m q:=by
 have h:=O.Ay.2;have e:Lp.sumTo (λj=>M2 goal j*Lp.cg m S q j) q=x8 goal (v7 m q S):=by
  rw[<-M9 q goal (v7 m q S) hl (by unfold v7;simp)];refine Lp.aj λj hj=>?_;unfold v7;rw[Ku hj];rfl
 rw[e] at h;exact h
theorem Mo(O:Lp.Of m q (Y8 rows) (M2 ow) (M2 goal) S)(hn:∀j,j<q->¬S.T m j<0)(hl:rows.length=m)(hj:j<q):goal.getD j 0*S.d<=x8 (col rows j) (K1 m q S):=by
 have h:=O.Hv.1 j hj;have nn:0<=Lp.aq m q S j:=Lp.Of.jn (λj hj=>by have:=hn j hj;lia) j;have e:Lp.sumTo (λi=>Y8 rows i j*Lp.aq m q S (q+i)) m=x8 (col rows j) (K1 m q S):=by
  rw[<-M9 m (col rows j) (K1 m q S) (by unfold col;rw[aH];exact hl) (by unfold K1;simp)];refine Lp.aj λi hi=>?_;unfold K1;rw[Ku hi]
  congr 1
  unfold Y8 col;rw[bA (l:=xK _ rows),aP,bA (l:=rows),aS (by lia)];rfl
 rw[e] at h
 show M2 goal j*S.d<=_
 lia
theorem a9o(O:Lp.Of m q (Y8 rows) (M2 ow) (M2 goal) S)(hl:ow.length=m):x8 ow (K1 m q S)=S.T m q:=by
 have h:=O.Hv.2;have e:Lp.sumTo (λi=>M2 ow i*Lp.aq m q S (q+i)) m=x8 ow (K1 m q S):=by
  rw[<-M9 m ow (K1 m q S) hl (by unfold K1;simp)];refine Lp.aj λi hi=>?_;unfold K1;rw[Ku hi];rfl
 rw[e] at h;exact h
theorem b1M(hn:∀j,j<q->¬S.T m j<0):∀x∈K1 m q S,0<=x:=λx hx=>by
 unfold K1 at hx;obtain⟨i,_,rfl⟩:=aY.mp hx;exact Lp.Of.jn (λj hj=>by have:=hn j hj;lia) _
theorem Xn(O:Lp.Of m q A b c S):∀x∈v7 m q S,0<=x:=λx hx=>by
 unfold v7 at hx;obtain⟨i,_,rfl⟩:=aY.mp hx;exact O.sh i
theorem a4J:K1 (m+1) q S=(K1 (m+1) q S).take m++[Lp.aq (m+1) q S (q+m)]:=by
 unfold K1;rw[pE,bQ,pK (by simp)];rfl
theorem OM a b c xs:x8 (a++b++c) xs=x8 a (xs.take a.length)+x8 b ((xs.drop a.length).take b.length)+x8 c (xs.drop (a.length+b.length)):=by
 rw[Xj (a++b) c xs,Xj a b,aX,xL,jT (by lia),List.drop_take,gO]
theorem Y6(a b c:List Int)j:(a++b++c).getD j 0=if j<a.length then a.getD j 0 else if j<a.length+b.length then b.getD (j-a.length) 0 else c.getD (j-(a.length+b.length)) 0:=by
 rw[F0,aX]
 by_cases h1:j<a.length
 ·rw[if_pos (by lia),if_pos h1,F0,if_pos h1]
 ·by_cases h2:j<a.length+b.length
  ·rw[if_pos h2,if_neg h1,if_pos h2,F0,if_neg h1]
  ·rw[if_neg h2,if_neg h1,if_neg h2]
abbrev oz(h:i8)(xs:List Int):List Int:=xs.take h.1.length
abbrev o_(h:i8)(xs:List Int):List Int:=(xs.drop h.1.length).take h.2.length
abbrev pe(z:aC)(h:i8)(xs:List Int):Int:=x8 (xs.drop (h.1.length+h.2.length)) (K5 z)
theorem Rx(h1:g.1.length=h.1.length)(h2:g.2.length=h.2.length)xs:x8 (A7 z g) xs=P7 g (o_ h xs) (pe z h xs)-pay g (oz h xs):=by
 unfold A7 P7 pay;rw[OM,aH,Mn,h1,h2,T8 (K5 z)];lia
theorem a7H xs:x8 (Q5 z h) xs=pay h (oz h xs):=by
 unfold Q5 pay;rw[OM,T6,T6];lia
theorem a7q xs:x8 (P3 z h) xs=P7 h (o_ h xs) (pe z h xs):=by
 unfold P3 P7;rw[OM,T6,bP,T8 (K5 z)];lia
theorem a6H rows r j:col (rows++[r]) j=col rows j++[r.getD j 0]:=by
 unfold col;rw[bQ];rfl
def Mp(h:a.length=b.length):x8 (a++[x]) (b++[y])=x8 a b+x*y:=Xh h
theorem a5m(s:Int):∀(hs:List i8)ws,hs.length=ws.length->x8 (hs.map λ_=>s) ws=s*ws.sum
 |[],[],_=>by simp[x8]
 |_::hs,w::ws,h=>by
  have:=a5m s hs ws (by simp_all);unfold x8 at *;rw[cS,eW,dW,this,dW,kZ]
 |[],_::_,h=>by simp at h
 |_::_,[],h=>by simp at h
section
variable{z:aC}{hs:List i8}{h:i8}{kt kg:Nat}(hk:∀g∈hs,g.1.length=kt/\g.2.length=kg)
include hk
theorem a5i ws(hj:j<kt):x8 (col (hs.map (A7 z)) j) ws =-L8 hs ws 0 j:=by
 have e:col (hs.map (A7 z)) j=(col (hs.map (V4 0)) j).map λy=>-y:=by
  unfold col;rw[bC,bC,bC];refine fM λg hg=>?_
  show(A7 z g).getD j 0 =-(V4 0 g).getD j 0
  have:=hk g hg;unfold A7;rw[Y6,aH,if_pos (by lia),Rt];rfl
 rw[e,Mn];rfl
theorem a5j ws(hj:j<kg):x8 (col (hs.map (A7 z)) (kt+j)) ws=L8 hs ws 1 j:=by
 have e:col (hs.map (A7 z)) (kt+j)=col (hs.map (V4 1)) j:=by
  unfold col;rw[bC,bC];refine fM λg hg=>?_
  show(A7 z g).getD (kt+j) 0=(V4 1 g).getD j 0
  have:=hk g hg;unfold A7;rw[Y6,aH,if_neg (by lia),if_pos (by lia),this.1,gO];rfl
 rw[e];rfl
theorem a6G(hw:hs.length=ws.length)t:x8 (col (hs.map (A7 z)) (kt+kg+t)) ws=(K5 z).getD t 0*ws.sum:=by
 have e:col (hs.map (A7 z)) (kt+kg+t)=hs.map λ_=>(K5 z).getD t 0:=by
  unfold col;rw[bC];refine fM λg hg=>?_
  show(A7 z g).getD (kt+kg+t) 0=_
  have:=hk g hg;unfold A7;rw[Y6,aH,if_neg (by lia),if_neg (by lia),this.1,this.2,gO]
 rw[e,a5m _ _ _ hw]
end
structure c0L(z:aC)(hs:List i8)(h:i8)(S:Lp.Bo)(kt kg:Nat)(ws:List Int):Prop where
 lw:ws.length=hs.length
 nn:∀x∈ws,0<=x/\fh 20000 x
 size:OJ z ws.sum S.d
 takes:∀j,j<kt->L8 hs ws 0 j<=h.1.getD j 0*S.T (mE hs) (qE z h)
 gives:∀j,j<kg->h.2.getD j 0*S.d<=L8 hs ws 1 j
 pos:0<S.T (mE hs) (qE z h)
 le:h∈hs->S.T (mE hs) (qE z h)<=S.d
 ja:∀g∈hs,P7 g (o_ h (v7 (mE hs) (qE z h) S)) (pe z h (v7 (mE hs) (qE z h) S))<=pay g (oz h (v7 (mE hs) (qE z h) S))
 pays:pay h (oz h (v7 (mE hs) (qE z h) S))=S.d
 BQ:P7 h (o_ h (v7 (mE hs) (qE z h) S)) (pe z h (v7 (mE hs) (qE z h) S))=S.T (mE hs) (qE z h)
 pr:PrN (oz h (v7 (mE hs) (qE z h) S)) (o_ h (v7 (mE hs) (qE z h) S)) (pe z h (v7 (mE hs) (qE z h) S)) S.d kt kg
 sign:OK z (pe z h (v7 (mE hs) (qE z h) S))
theorem Ry(hz:O4 z)(nn:∀x∈xs,0<=x):OK z (x8 xs (K5 z)):=by
 rcases hz with rfl|rfl|rfl|rfl
 ·have:x8 xs (K5 "any")=0:=by show(cV _ xs []).sum=0;simp
  rw[this];exact⟨λ_=>dL _,λ_=>dL _⟩
 ·exact⟨λh=>absurd h (by decide),λh=>absurd h (by decide)⟩
 ·refine⟨λ_=>?_,λh=>absurd h (by decide)⟩
  show(cV _ xs [-1]).sum<=0
  cases xs with
  |nil=>simp
  |cons x r=>have:=nn x (.head _);simp;lia
 ·refine⟨λh=>absurd h (by decide),λ_=>?_⟩
  show 0<=(cV _ xs [1]).sum
  cases xs with
  |nil=>simp
  |cons x r=>have:=nn x (.head _);simp;lia
theorem a7i(h:∀x∈xs,fh 4000 x)(hl:xs.length<=200):fh 5000 (x8 xs (K5 z)):=by
 have:∀y∈K5 z,fh 100 y:=λy hy=>gU (Mm z y hy) (xM (by decide) (by decide));exact(b4w (b2p h this) (by grind)).mono (by decide)
theorem a9H(hz:O4 z)(B:sj z hs h S)(hG:∀g∈hs,HG br kt kg g)(gh:HG br kt kg h)(ij:1<=kt)(wx:kt<=20)(wy:kg<=20) :
  c0L z hs h S kt kg ((K1 (mE hs) (qE z h) S).take hs.length):=by
 obtain⟨O,hn,sz⟩:=B;have hk:∀g∈hs,g.1.length=kt/\g.2.length=kg:=λg hg=>⟨(hG g hg).lt,(hG g hg).lg⟩;have sg:=Ml z;generalize hm:mE hs=m at *;generalize hq:qE z h=q at *;have Au:m=hs.length+1:=hm.symm;have Cu:q=kt+kg+(K5 z).length:=by rw[<-hq];show h.1.length+h.2.length+_=_;rw[gh.lt,gh.lg]
 replace O:Lp.Of m q (Y8 (G3 z hs h)) (M2 (P6 hs)) (M2 (P3 z h)) S:=by rw[Au,<-hq];exact O
 have lr:(G3 z hs h).length=m:=by unfold G3;simp[Au]
 have AD:∀g∈hs,(A7 z g).length=q:=λg hg=>by unfold A7;simp[(hk g hg).1,(hk g hg).2,Cu];lia
 have Fb:(Q5 z h).length=q:=by unfold Q5;simp[gh.lt,gh.lg,Cu];lia
 have Fc:(P3 z h).length=q:=by unfold P3;simp[gh.lt,gh.lg,Cu];lia
 have lb:(P6 hs).length=m:=by unfold P6;simp[Au]
 have la:(v7 m q S).length=q:=by unfold v7;simp
 have lw:(K1 m q S).length=m:=by unfold K1;simp
 have iu:K1 m q S=(K1 m q S).take hs.length++[Lp.aq m q S (q+hs.length)]:=by rw[Au];exact a4J
 generalize Xo:(K1 m q S).take hs.length=ws at *;generalize Xp:Lp.aq m q S (q+hs.length)=wn at *;have Fd:ws.length=hs.length:=by rw[<-Xo,cI,lw];lia
 have Kv:∀x∈ws,0<=x/\fh 20000 x:=λx hx=>by
  have f':x∈K1 m q S:=by rw[iu];exact fW _ hx
  refine⟨b1M hn x f',?_⟩;unfold K1 at f';obtain⟨k,i_,rfl⟩:=aY.mp f';exact(a9W O sz (by have:=fF.mp i_;lia)).mono (by decide)
 have pos:=O.w.pos;have eT:wn=S.T m q:=by
  have:=a9o O lb;rw[iu] at this;unfold P6 at this;rw[Mp (by rw[bP];exact Fd.symm),T6] at this;lia
 have AE:∀j,x8 (col (G3 z hs h) j) (K1 m q S)=x8 (col (hs.map (A7 z)) j) ws+(Q5 z h).getD j 0*wn:=λj=>by
  rw[iu];unfold G3;rw[a6H,Mp (by unfold col;rw[aH,aH,Fd])]
 have tk:∀j,j<kt->L8 hs ws 0 j<=h.1.getD j 0*wn:=λj hj=>by
  have:=Mo O hn lr (j:=j) (by lia);rw[AE,a5i hk ws hj] at this;unfold P3 Q5 at this;rw[Y6,Y6,bP,if_pos (by rw[gh.lt];lia),if_pos (by rw[gh.lt];lia),M3] at this;lia
 have gv:∀j,j<kg->h.2.getD j 0*S.d<=L8 hs ws 1 j:=λj hj=>by
  have:=Mo O hn lr (j:=kt+j) (by lia);rw[AE,a5j hk ws hj] at this;unfold P3 Q5 at this;rw[Y6,Y6,bP,bP,gh.lt,gh.lg,if_neg (by lia),if_pos (by lia),if_neg (by lia),if_pos (by lia),gO,M3] at this;lia
 have HE:∀t,t<(K5 z).length->(K5 z).getD t 0*S.d<=(K5 z).getD t 0*ws.sum:=λt ht=>by
  have:=Mo O hn lr (j:=kt+kg+t) (by lia);rw[AE,a6G hk Fd.symm t] at this;unfold P3 Q5 at this;rw[Y6,Y6,bP,bP,gh.lt,gh.lg,if_neg (by lia),if_neg (by lia),if_neg (by lia),if_neg (by lia),gO,M3] at this;lia
 have size:OJ z ws.sum S.d:=by
  rcases hz with rfl|rfl|rfl|rfl
  ·exact⟨λh=>absurd h (by decide),λh=>absurd h (by decide)⟩
  ·have s0:(1:Int)*S.d<=1*ws.sum:=HE 0 (by decide)
   have s1:(-1:Int)*S.d <= -1*ws.sum:=HE 1 (by decide);exact⟨λ_=>by lia,λ_=>by lia⟩
  ·have s1:(-1:Int)*S.d <= -1*ws.sum:=HE 0 (by decide)
   exact⟨λ_=>by lia,λh=>absurd h (by decide)⟩
  ·have s0:(1:Int)*S.d<=1*ws.sum:=HE 0 (by decide)
   exact⟨λh=>absurd h (by decide),λ_=>by lia⟩
 have Dd:0<wn:=by
  obtain⟨y,hy,y0⟩:=gh.p;obtain⟨j,hj⟩:=iL hy;have EN:j<kg:=by have:=(cA.mp hj).1;rw[gh.lg] at this;exact this
  have yD:h.2.getD j 0=y:=by rw[bA,hj];rfl
  have g1:=gv j EN;rw[yD] at g1;have Xq:∀x∈col (hs.map (V4 1)) j,0<=x:=λx hx=>by
   unfold col at hx;obtain⟨r,hr,rfl⟩:=aY.mp hx;obtain⟨g,hg,rfl⟩:=aY.mp hr;have qo:=hG g hg;have hl:j<(V4 1 g).length:=by show j<g.2.length;rw[qo.lg];exact EN
   rw[bA,aS hl];exact(qo.g _ (eF hl)).1
  obtain⟨k,CO,Rz⟩:=Xk Xq (λx hx=>(Kv x hx).1) (pL (gJ y0 pos) g1);have pc:∀x∈col (hs.map (V4 0)) 0,0<x:=λx hx=>by
   unfold col at hx;obtain⟨r,hr,rfl⟩:=aY.mp hx;obtain⟨g,hg,rfl⟩:=aY.mp hr;have qo:=hG g hg;have hl:0<(V4 0 g).length:=by show 0<g.1.length;rw[qo.lt];lia
   rw[bA,aS hl];have:=(qo.t _ (eF hl)).1
   show 0<(V4 0 g)[0]
   lia
  have g3:0<L8 hs ws 0 0:=Xl pc (λx hx=>(Kv x hx).1) (by unfold col;rw[aH,aH,Fd]) ⟨k,CO,Rz⟩;have g4:=tk 0 (by lia);have hl:0<h.1.length:=by rw[gh.lt];lia
  have h0:1<=h.1.getD 0 0:=by
   rw[bA,aS hl];exact(gh.t _ (eF hl)).1
  have g5:0<h.1.getD 0 0*wn:=pL g3 g4
  by_cases hw:0<wn
  ·exact hw
  ·have:=eO (show 0<=h.1.getD 0 0 by lia) (show 0 <= -wn by lia)
   rw[fT] at this;lia
 have ja:∀g∈hs,P7 g (o_ h (v7 m q S)) (pe z h (v7 m q S))<=pay g (oz h (v7 m q S)):=λg hg=>by
  obtain⟨k,i_⟩:=iL hg;have iw:=(cA.mp i_).1;have hr:(G3 z hs h)[k]?=some (A7 z g):=by
   unfold G3;rw[dH (by rw[aH];exact iw),aP,i_];rfl
  have:=Rv O (i:=k) (by lia) hr (AD g hg);rw[Rx (h:=h) (by rw[(hk g hg).1,gh.lt]) (by rw[(hk g hg).2,gh.lg])] at this;unfold P6 at this;rw[F0,bP,if_pos iw,M3,gY] at this;lia
 have hr:(G3 z hs h)[hs.length]?=some (Q5 z h):=by
  unfold G3;rw[dU (by rw[aH];exact aT _),aH,gL];rfl
 have pays:pay h (oz h (v7 m q S))=S.d:=by
  have:=a4n O hn (i:=hs.length) (by lia) hr Fb (by rw[Xp];exact Dd);rw[a7H] at this;unfold P6 at this;rw[F0,bP,if_neg (by lia),gL] at this;rw[this];exact lE _
 have BQ:P7 h (o_ h (v7 m q S)) (pe z h (v7 m q S))=S.T m q:=by rw[<-a7q];exact Xm O Fc
 have HF:∀x∈v7 m q S,0<=x/\fh 4000 x:=λx hx=>by
  refine⟨Xn O x hx,?_⟩;unfold v7 at hx;obtain⟨k,i_,rfl⟩:=aY.mp hx;exact a8Y O sz (fF.mp i_)
 have d4:S.d<2^4000:=by
  have h3:S.d=(S.d.natAbs:Int):=by lia
  rw[h3]
  exact_mod_cast sz.2
 refine⟨Fd,Kv,size,λj hj=>?_,gv,?_,?_,?_,?_,?_,?_,?_⟩
 ·rw[hm,hq,<-eT];exact tk j hj
 ·rw[hm,hq,<-eT];exact Dd
 ·intro UG;rw[hm,hq,<-BQ,<-pays];exact ja h UG
 ·rw[hm,hq];exact ja
 ·rw[hm,hq];exact pays
 ·rw[hm,hq];exact BQ
 ·rw[hm,hq]
  refine⟨?_,?_,λx hx=>?_,λx hx=>?_,?_,pos,d4⟩
  ·rw[cI,la,gh.lt];lia
  ·rw[cI,eJ,la,gh.lt,gh.lg];lia
  ·have:=HF x (fV hx)
   exact⟨this.1,this.2.mono (by decide)⟩
  ·have:=HF x (fK (fV hx))
   exact⟨this.1,this.2.mono (by decide)⟩
  ·exact a7i (λx hx=>(HF x (fK hx)).2) (by rw[eJ,la];lia)
 ·rw[hm,hq]
  exact Ry hz λx hx=>(HF x (fK hx)).1
end Rim
namespace L2
open PySem PySem.Spec PyProof.Rows
theorem c6Y{K}{Ps:List aA}
  (KX:K.In vy.heap) (EL:vy.heap.Ns mainGlobals mg) (hb:vy.heap.Ns builtinsNs mb) (hbb:∀x:aC,x≠"__name__"->mb x=bootBuiltins x) (hlim:vy.heap.NoLimit) (hg:vy.gens=#[])
  (ha:vy.heap.get? a=some {cls:=.type "list",data:=.seq vs.toArray}) (hi:Do vs ns) (hl:ns.length<=sizeLine) (hr:b_ k callerA)
  (hT:∀p∈Ps,∃c,vy.heap.TableAt c p #[]) (hKP:∀p∈Ps,K.lookup p=none) (BM:QO mg vy.heap)
  (F:∀base,K.In base->base.Ns mainGlobals mg->QO mg base->bf P w K mg base CX k fa fd [x] sp) (hbind:∀s u,lU s fd ⟨[u],[]⟩ [(x,u)])
  (iu:∀H,(∀p∈Ps,H p=some (.my #[]))->ah K H a (ns.map V.int)->sp [.ref a] H (λv _=>v=.bl true) λ_ _ _=>False)
  (hCX:∀H e s',CX [] H vy (λ_ _ _=>False) e s'->False) :
  codeAny (model P w) callerA (.call (.ref fa) ⟨[.ref a],[]⟩) (λr s'=>r=.ok (.ret (.bool true))/\OldK vy.heap s'.heap/\s'.os=vy.os/\jC s'.gens) vy:=by
 have rv:=a1D hi;have Db:∀p∈Ps,vy.heap.get? p=some {cls:=.none,data:=.fields #[]}:=λp hp=>by
  obtain⟨c,z⟩:=hT p hp;exact z.2
 have core:∀H,(∀b,H b=none\/(Ev2 λo xs=>H b=some (.Bw o (.lst xs)))\/(b∈Ps/\H b=some (.my #[])))->(∀p∈Ps,H p=some (.my #[]))->ah K H a (ns.map V.int)->mz P w H vy.heap->(∀b,H b≠none->b=a\/b∈Ps)->(H a≠none->K.lookup a=none) →
   codeAny (model P w) callerA (.call (.ref fa) ⟨[.ref a],[]⟩) (λr s'=>r=.ok (.ret (.bool true))/\OldK vy.heap s'.heap/\s'.os=vy.os/\jC s'.gens) vy:=by
  intro H hO_ hP hS ck hA hK;have aam:∀{b:aA}{o:Obj},vy.heap.get? b=some o->H b=none->(a0J vy.heap H).get? b=some o:=λe n=>c6Z e n;have TR:∀{b:aA}{o:Obj}{es:Array mZ}{ep:Nat},vy.heap.get? b=some o->o.data=.dict es ep->H b=none:=λ{b o es ep}e d=>by
   cases q:H b with
   |none=>rfl
   |some u =>
    rcases hA b (by simp_all) with e'|e'
    ·subst e'
     rw[ha] at e;cases e;have d':=d
     cases d'
    ·rw[Db b e'] at e;cases e
     have d':=d
     cases d'
  have nsK:∀{b:aA}{m:aC->Option aE},vy.heap.Ns b m->(a0J vy.heap H).Ns b m:=λ{b m} ⟨o,es,ep,e,d,r⟩=>⟨o,es,ep,aam e (TR e d),d,r⟩;have hKb:=λb o e=>aam (KX b o e) (by
   cases q:H b with
   |none=>rfl
   |some u =>
    rcases hA b (by simp_all) with e'|e'
    ·subst e'
     rw[hK (by rw[q];simp)] at e;cases e
    ·rw[hKP b e'] at e;cases e)
  have BM':QO mg (a0J vy.heap H):=by
   obtain⟨bm,ob,b1,b2,b3,b4,b5,b6⟩:=BM;refine⟨bm,ob,b1,b2,aam b3 ?_,b4,b5,b6⟩
   cases q:H bm with
   |none=>rfl
   |some u =>
    rcases hA bm (by simp_all) with e'|e'
    ·subst e'
     rw[ha] at b3;cases b3;exact absurd b4 (by intro z;injection z with z;exact absurd z (by decide))
    ·rw[Db bm e'] at b3;cases b3;cases b4
  have e0:v_ P w K mg (a0J vy.heap H) callerA [] vy H:=⟨rfl,⟨hKb,nsK EL,⟨mb,nsK hb,hbb⟩,let ⟨mc,h1,h2⟩:=hlim;⟨mc,nsK h1,h2⟩⟩,λb o e=>c7a e,Nat.le_of_eq (c6X _ _),trivial,λb hb=>absurd (show b∈([]:List aA) from hb) (by simp),ck,.of_eq hg⟩;refine nR ((F _ hKb (nsK EL) BM').run callerA [] vy H ⟨[.ref a],[]⟩ [.ref a] [.ref a] _ _ hr e0 (hbind vy (.ref a)) (.cons rfl .nil) (iu H hP hS)) λr s' h=>?_
  cases r with
  |error e=>exact(hCX H e s' h).elim
  |ok fl =>
   cases fl with
   |next=>exact eD h
   |brk=>exact eD h
   |cont=>exact eD h
   |ret u =>
    obtain⟨v,H',os,bare,un,hok',r',q⟩:=h;have q':=q;subst q';obtain rfl:u=pT true:=r';refine⟨rfl,⟨λb o e=>?_,λb o e=>un.there b o e (by simp)⟩,os,bare⟩;rcases hO_ b with q|⟨ob,xs,z⟩|⟨hbP,z⟩
    ·exact .inl (un.keep b o e q (by intro z;exact absurd (show b∈([]:List aA) from z) (by simp)) (by simp))
    ·have z2:=un.pw b ob _ z
     obtain⟨e1,_⟩:=ck b _ z;obtain⟨e2,_⟩:=hok' b _ z2;rw[e] at e1;cases e1;exact .inl e2
    ·obtain⟨more,z2⟩:=un.pz b _ z
     rw[Db b hbP] at e;cases e;obtain⟨c,ht⟩:=hT b hbP;exact .inr (.inl ⟨ht.isCodeTable,rfl,#[],more,rfl,hok' b _ z2⟩)
 have aP_:a ∉ Ps:=λz=>by
  have:=Db a z;rw[ha] at this;cases this
 cases hk:K.lookup a with
 |some o =>
  have e:=KX a o hk;rw[ha] at e
  cases e;refine core (λb=>if b∈Ps then some (.my #[]) else none) (λb=>?_) (λp hp=>if_pos hp) (.inr ⟨_,vs.toArray,_,hk,rfl,rfl,rfl,by rw[bY,hi.length];exact hl,by simpa using rv⟩) (λb u z=>?_) (λb z=>?_) λz=>absurd (if_neg aP_) z
  ·by_cases hb:b∈Ps
   ·exact .inr (.inr ⟨hb,if_pos hb⟩)
   ·exact .inl (if_neg hb)
  ·by_cases hb:b∈Ps
   ·have z':=(if_pos hb).symm.trans z
    cases z';exact Db b hb
   ·have z':=(if_neg hb).symm.trans z
    cases z'
  ·by_cases hb:b∈Ps
   ·exact .inr hb
   ·exact absurd (if_neg hb) z
 |none =>
  refine core (λb=>if b=a then some (.Bw {cls:=.type "list",data:=.seq vs.toArray} (.lst (ns.map V.int))) else if b∈Ps then some (.my #[]) else none) (λb=>?_) (λp hp=>?_) (.inl (.inr ⟨{cls:=.type "list",data:=.seq vs.toArray},if_pos rfl⟩)) (λb u z=>?_) (λb z=>?_) λ_=>hk
  ·by_cases hb:b=a
   ·exact .inr (.inl ⟨_,_,if_pos hb⟩)
   ·by_cases IU:b∈Ps
    ·exact .inr (.inr ⟨IU,(if_neg hb).trans (if_pos IU)⟩)
    ·exact .inl ((if_neg hb).trans (if_neg IU))
  ·have hb:p≠a:=λz=>aP_ (z▸hp)
   exact(if_neg hb).trans (if_pos hp)
  ·by_cases hb:b=a
   ·have z':=(if_pos hb).symm.trans z
    cases z';subst hb;exact⟨ha,by rw[aH];exact hl,vs,_,rv,ha⟩
   ·by_cases IU:b∈Ps
    ·have z':=((if_neg hb).trans (if_pos IU)).symm.trans z
     cases z';exact Db b IU
    ·have z':=((if_neg hb).trans (if_neg IU)).symm.trans z
     cases z'
  ·by_cases hb:b=a
   ·exact .inl hb
   ·by_cases IU:b∈Ps
    ·exact .inr IU
    ·exact absurd ((if_neg hb).trans (if_neg IU)) z
theorem aao{l:W.OpenLaw}{K:gN->aF}{CX:aL->ze}{sp:aL->Sp}{Ts_:List (aA×Addr)}
  (hn:l.most=some n) (hn2:n<=sizeLine) (hdf:d.params.defaults=[]) (hr:b_ k callerA)
  (hY:∀w h,YP_ w h->(K w.params).In h/\∀t∈Ts_,h.get? t.2=some (oW #[]))
  (hC:∀(w:aL),∀t∈Ts_,No (K w.params) t.1 t.2=true/\(K w.params).lookup t.2=none)
  (F:∀w mg fa h,(K w.params).In h->h.Ns mainGlobals mg->mg d.name=some (.ref fa) →
   ∃fd,(∀s u,lU s fd ⟨[u],[]⟩ [(x,u)])/\
    ∀base,(K w.params).In base->base.Ns mainGlobals mg->QO mg base->(∀t∈Ts_,oV base t.1 t.2)->bf l.prog w (K w.params) mg base (CX w) k fa fd [x] (sp w))
  (iu:∀w H a(ns:List Int),ns.length<=n->(∀t∈Ts_,H t.2=some (.my #[]))->ah (K w.params) H a (ns.map V.int)->sp w [.ref a] H (λv _=>v=.bl true) λ_ _ _=>False)
  (hCX:∀w H s e s',CX w [] H s (λ_ _ _=>False) e s'->False) :
  W.WalkO q loose XP_ YP_ l.row.toRowW d [] (λf vs=>Fa f vs):=by
 refine Att.aan hn hdf λw s₀ vy mg mb fa o pm cd doc a vs ns G Y ho hd xo hmg hobj hints hlen hg=>?_;obtain⟨KX,hTb⟩:=hY w _ Y;obtain⟨fd,hb,hF⟩:=F w mg fa _ KX G.T.g hmg;have mem:∀p∈Ts_.map (·.2),∃t∈Ts_,t.2=p:=λp hp=>by
  obtain⟨t,h1,h2⟩:=aY.mp hp;exact⟨t,h1,h2⟩
 refine c6Y KX G.T.g G.T.b G.T.builtins G.T.nolimit hg hobj hints (bF hlen hn2) hr (λp hp=>?_) (λp hp=>?_) G.T.bmain (λbase kb nb bm=>hF base kb nb bm λt ht=>On kb (hC w t ht).1) hb (λH hP hS=>iu w H a ns hlen (λt ht=>hP _ (List.mem_map_of_mem ht)) hS) λH e s'=>hCX w H vy e s'
 ·obtain⟨t,h1,rfl⟩:=mem p hp
  exact⟨t.1,(On KX (hC w t h1).1).tab (hTb t h1)⟩
 ·obtain⟨t,h1,rfl⟩:=mem p hp
  exact(hC w t h1).2
end L2
namespace L2
open PySem
def RA:Z8 (W2 P w) X E0:=λ_ _ _ _ _ _ _ ⟨_,_,_,_,_,_,_,h⟩=>h.elim
def af.ka(e:af H H'):bj P H H':=λb o _ h=>e b o h
def bj.trans(a:bj P H H1)(b:bj P H1 H2):bj P H H2:=λc o n h=>b c o n (a c o n h)
theorem bj.write(e:bj P H H')(h:H a=none):bj P H (upd H' a o):=λb u n q=>by
 rw[j3 (i7 q h)];exact e b u n q
theorem bj.get(T:cu P pos qual H)(e:bj P H H')(h:H b=some o)(n:∀ps,o≠.my ps):H' b=some o:=e b o (λz=>by
 subst z;rcases T with t|⟨c,t,_⟩
 ·rw[h] at t;exact n _ (bD t)
 ·rw[h] at t;exact n _ (bD t)) h
theorem cu.write(T:cu P pos qual H)(h:H a=some (.lst xs)):cu P pos qual (upd H a o):=by
 rcases T with e|⟨c,e1,e2⟩
 ·exact .inl (by rw[j3 λz=>by rw[z,h] at e;cases e];exact e)
 ·exact .inr ⟨c,by rw[j3 λz=>by rw[z,h] at e1;cases e1];exact e1,by rw[j3 λz=>by rw[z,h] at e2;cases e2];exact e2⟩
end L2
namespace Rim
open PySem L2 Fr
theorem b5j{j:Nat}(h:j<=1000):((j:Int)).natAbs.log2<1920:=by
 rw[Int.natAbs_natCast]
 by_cases h0:j=0
 ·subst h0;decide
 ·exact Nat.lt_trans ((mO h0).mpr (gU h (show 1000<2^10 by decide))) (by decide)
end Rim
namespace Rim
open PySem L2 Fr
open Tx (S cs ch x6 J6)
def G4(ns:List Int):S:=cO (ch 44) (ns.map x6)
def C2(h:i8):S:=G4 h.1++(ch 62++(G4 h.2++eI))
def Ey(hs:List i8):S:=cO (ch 10) (hs.map C2)
def De(q:Q2):S:=if q.2=1 then x6 q.1 else x6 q.1++(ch 47++(x6 q.2++eI))
def Sm(ns:List Int):Prop:=ns.length<=100/\∀n∈ns,0<=n/\n<10^10
theorem a4T(h0:0<=n)(h1:n<10^10):(x6 n).length<=10:=by
 obtain⟨m,rfl⟩:=jZ h0;have:=(Tx.BC (m:=m) (by lia)).2;rw[Tx.d_];exact this
theorem O7:∀{l:List S},(∀x∈l,x.length<=B)->(l.map (·.length)).sum<=l.length*B
 |[],_=>by simp
 |x::l,h=>by
  have h1:=h x cY;have h2:=O7 (l:=l) λy hy=>h y (bZ _ hy);rw[cS,dW,eM,Nat.add_mul];lia
theorem Y3(h:Sm ns):∀x∈ns.map x6,x.length<=10:=λx hx=>by
 obtain⟨n,hn,rfl⟩:=aY.mp hx;exact a4T (h.2 n hn).1 (h.2 n hn).2
theorem Mq(h:Sm ns):(G4 ns).length<=1100:=by
 have h1:=bF (sD (ch 44) (ns.map x6)) (kC (O7 (Y3 h)) _);rw[aH] at h1;have h3:(ch 44).length=1:=rfl;have:=h.1;rw[h3] at h1
 show(cO (ch 44) (ns.map x6)).length<=1100
 lia
theorem Mr{n:Int}(h0:0<=n)(h1:n<10^10):n.natAbs.log2<1920:=by
 have h2:n.natAbs<2^40:=by lia
 by_cases z:n.natAbs=0
 ·rw[z];decide
 ·have:=(mO z).mpr h2
  lia
theorem RC{ns:List Int}{i:Nat}(h:(ns.map V.int)[i]?=some x):∃k,x=.int k/\k∈ns:=by
 rw[aP] at h;obtain⟨k,hk,rfl⟩:=fL.mp h;exact⟨k,rfl,bK hk⟩
inductive Xr(K:aF)(vs:List V)(H:Hp)(Q:VK)(z3_:XK):Prop|mk:∀b a ns,vs=[.ref a]->xt b K H a (ns.map V.int)->Sm ns->(∀H',af H H'->Q (.str (G4 ns)) H')->Xr K vs H Q z3_
def b6R:p7 ["numbers"] ["numbers"] (i9 Y1):={}
theorem b2x:(["number"]:List aC).Nodup:=by simp
theorem b5w(F:Aj K "numbers_text" Y1 f fd)(zs:mg "str"=none):bf P w K mg base J8 (n+1) f fd ["numbers"] (Xr K):=by
 refine F.oa b6R λay A outer s H vs Q E hr h=>?_
 obtain⟨b,a,ns,rfl,hS,hm,q⟩:=h
 cases b
 ·have BG:=hS
  refine⟨_,j4 (o4 (K7 eP hZ iA W4 l9 (c6 (N6 ["number"] [] rfl (IE (pv 0)) (λ_ _ _ _=>j9 (i:=0) b2x rfl (aI rfl)) (λ_ _ _ _=>v5 E5 rfl zs iB (c6 (pv 0) c7))) c7))),rfl,_,rfl,a,rfl,⟨_,BG⟩,λp hp=>(O9 (U3 BG) hp (by rw[aH];exact t9 (by have:=hm.1;lia)) (λx=>.str (x6 (vI x))) (λi x H' N hx e hN=>?_) ?_)⟩
  ·obtain⟨k,rfl,hk⟩:=RC hx
   exact⟨Wk.set (by decide),_,rfl,k,rfl,Mr (hm.2 k hk).1 (hm.2 k hk).2,hN⟩
  ·refine⟨_,p,ns.map x6,rfl,rfl,ah.of (by rw[ae,bC,bC];rfl),?_,?_⟩
   ·refine bF (kC (O7 (Y3 hm)) _) ?_
    have:=hm.1;rw[aH]
    show ns.length*10+ns.length*1<=_
    lia
   ·rw[Tx.join_eq]
    exact q _ (af.new hp _)
 ·have BG:ah K H a (ns.map V.int):=hS
  refine⟨_,j4 (o4 (K7 eP hZ iA W4 l9 (c6 (N6 ["number"] [] rfl (C6 (pv 0)) (λ_ _ _ _=>j9 (i:=0) b2x rfl (aI rfl)) (λ_ _ _ _=>v5 E5 rfl zs iB (c6 (pv 0) c7))) c7))),rfl,_,rfl,a,rfl,⟨_,BG⟩,λp hp=>(O9 (A3 BG) hp (by rw[aH];exact t9 (by have:=hm.1;lia)) (λx=>.str (x6 (vI x))) (λi x H' N hx e hN=>?_) ?_)⟩
  ·obtain⟨k,rfl,hk⟩:=RC hx
   exact⟨Wk.set (by decide),_,rfl,k,rfl,Mr (hm.2 k hk).1 (hm.2 k hk).2,hN⟩
  ·refine⟨_,p,ns.map x6,rfl,rfl,ah.of (by rw[ae,bC,bC];rfl),?_,?_⟩
   ·refine bF (kC (O7 (Y3 hm)) _) ?_
    have:=hm.1;rw[aH]
    show ns.length*10+ns.length*1<=_
    lia
   ·rw[Tx.join_eq]
    exact q _ (af.new hp _)
inductive O3(K:aF)(vs:List V)(H:Hp)(Q:VK)(z3_:XK):Prop|mk:∀v h,vs=[v]->HS K H v h->Sm h.1->Sm h.2->(∀H',af H H'->Q (.str (C2 h)) H')->O3 K vs H Q z3_
def sk:p7 ["house","takes","gives"] ["house"] (i9 VS):={}
theorem b0m(F:Aj K "house_text" VS f fd)(C:C9 P w K mg base n "numbers_text" ["numbers"] (Xr K) fa da):bf P w K mg base J8 (n+1) f fd ["house"] (O3 K):=by
 refine F.oa sk λay A outer s H vs Q E hr h=>?_
 obtain⟨v,h,rfl,⟨a,ta,ga,rfl,h0,h1,h2⟩,m1,m2,q⟩:=h;refine⟨_,j0 (D3 (pv 0) (K4 rfl (p6 (j9 (i:=1) sk.nd rfl (aI rfl)) (p6 (j9 (i:=2) sk.nd rfl (aI rfl)) A4))))
  (j4 (o4 (a6X (Qw (C.c hr (c6 (pv 1) c7)) (b0f (Qw (C.c hr (c6 (pv 2) c7)) a9z)))))),?_⟩
 exact⟨_,rfl,a,_,rfl,h0,rfl,_,_,rfl,_,_,rfl,rfl,_,rfl,false,ta,h.1,rfl,h1,m1,λH1 e1=>⟨_,.inr ⟨rfl,by have:=Mq m1;lia⟩,_,rfl,false,ga,h.2,rfl,e1.cm h2,m2,λH2 e2=>⟨_,.inr ⟨rfl,by have:=Mq m2;lia⟩,q H2 (e1.trans e2)⟩⟩⟩
inductive a8T(K:aF)(vs:List V)(H:Hp)(Q:VK)(z3_:XK):Prop|mk:∀a xs hs,vs=[.ref a]->ah K H a xs->Bk K H xs hs->hs.length<=100->(∀h∈hs,Sm h.1/\Sm h.2)->(∀H',af H H'->Q (.str (Ey hs)) H')->a8T K vs H Q z3_
def b5q:p7 ["book"] ["book"] (i9 VT):={}
theorem b5a:(["house"]:List aC).Nodup:=by simp
theorem RD(m1:Sm h.1)(m2:Sm h.2):(C2 h).length<=2300:=by
 have h1:=Mq m1;have h2:=Mq m2;unfold C2;rw[Tx.d_,Tx.bu,Tx.bu,Tx.bu,aX,aX,aX];rw[Tx.d_] at h1 h2;have h3:(cs (ch 62)).length=1:=rfl;have h4:(cs eI).length=0:=rfl;lia
theorem b2s(F:Aj K "book_text" VT f fd)(C:C9 P w K mg base n "house_text" ["house"] (O3 K) fa da):bf P w K mg base J8 (n+1) f fd ["book"] (a8T K):=by
 refine F.oa b5q λay A outer s H vs Q E hr h=>?_
 obtain⟨a,xs,hs,rfl,hS,hB,hl,hm,q⟩:=h;refine⟨_,j4 (o4 (K7 eP hZ iA W4 l9 (c6 (N6 ["house"] [] rfl (C6 (pv 0)) (λ_ _ _ _=>j9 (i:=0) b5a rfl (aI rfl)) (λ_ _ _ _=>C.c hr (c6 (pv 0) c7))) c7))),?_⟩;have xl:xs.length=hs.length:=dE hB;refine⟨rfl,_,rfl,a,rfl,⟨_,hS⟩,λp hp=>?_⟩;refine N5 (A3 hS) hp (t9 (by lia)) (λi y _=>∃h,hs[i]?=some h/\y=.str (C2 h)) (λ_ _ _ _ r _=>r) (λi y H2 zs N hy e dy hN=>?_) (λzs H2 e dy len pr=>?_)
 ·obtain⟨h,hh,r⟩:=aZ.at hB hy
  obtain⟨m1,m2⟩:=hm h (bK hh);exact⟨Wk.set (by decide),_,rfl,y,h,rfl,r.same e,m1,m2,λH3 e3=>hN _ _ e3 ⟨h,hh,rfl⟩⟩
 ·have ez:zs=(hs.map C2).map V.str:=by
   refine dR λi=>?_
   by_cases hi:i<zs.length
   ·obtain⟨h,hh,e1⟩:=pr i _ (aS hi)
    rw[aS hi,e1,aP,aP,hh];rfl
   ·rw[bW (by lia),bW (by rw[aH,aH];lia)]
  rw[ez] at dy;refine⟨_,p,hs.map C2,rfl,rfl,ah.of dy,?_,?_⟩
  ·have h1:=O7 (B:=2300) (l:=hs.map C2) λx hx=>by
    obtain⟨h,hh,rfl⟩:=aY.mp hx;exact RD (hm h hh).1 (hm h hh).2
   refine bF (kC h1 _) ?_;rw[aH]
   show hs.length*2300+hs.length*1<=_
   lia
  ·rw[Tx.join_eq]
   exact q _ e
inductive RE(K:aF)(vs:List V)(H:Hp)(Q:VK)(z3_:XK):Prop|mk:∀v q,vs=[v]->Xc K H v q->q.1.natAbs.log2<1920->q.2.natAbs.log2<1920->Q (.str (De q)) H->RE K vs H Q z3_
def w_:p7 ["one","top","bottom"] ["one"] (i9 V1):={}
theorem b1P(F:Aj K "fraction_text" V1 f fd):bf P w K mg base J8 (n+1) f fd ["one"] (RE K):=by
 refine F.oa w_ λay A outer s H vs Q E hr h=>?_
 obtain⟨v,x,rfl,⟨a,rfl,h0⟩,l1,l2,q⟩:=h;refine⟨_,j0 (D3 (pv 0) (K4 rfl (p6 (j9 (i:=1) w_.nd rfl (aI rfl)) (p6 (j9 (i:=2) w_.nd rfl (aI rfl)) A4))))
  (j4 (o4 (MT (l5 E6 (pv 2) d0 (r9 _)) (b3L (pv 1)) (a6X (Qw (pv 1) (b0f (Qw (pv 2) a9z))))))),?_⟩
 refine⟨_,rfl,a,_,rfl,h0,rfl,_,_,rfl,_,_,rfl,rfl,_,rfl,rfl,_,rfl,?_⟩;unfold De at q;refine y6 (λc=>?_) λc=>?_
 ·have c':x.2=1:=by simp_all
  rw[if_pos c'] at q;exact⟨_,rfl,_,.inl ⟨x.1,rfl,l1,rfl⟩,q⟩
 ·have c':¬x.2=1:=by simp_all
  rw[if_neg c'] at q;exact⟨_,rfl,_,.inl ⟨x.1,rfl,l1,rfl⟩,_,rfl,_,.inl ⟨x.2,rfl,l2,rfl⟩,q⟩
end Rim
namespace Rim
open PySem L2 Fr
open Tx (S cs ch x6 J6 A5 w4)
abbrev Kw:S:=cN "0123456789"
theorem a9q:∀c,c<128->(jG Kw (ch c) 0 Kw.length 1).isEmpty=!(decide (48<=c)&&decide (c<=57)):=by decide +kernel
def HH:Option Int->V
 |none=>.non
 |some n=>.int n
def M8 x:A5 x=(decide (1<=(cs x).length)&&decide ((cs x).length<=10)&&(cs x).all (λc=>decide (48<=c)&&decide (c<=57))&&(decide ((cs x).head?≠some 48)||decide (cs x=[48]))):=rfl
inductive Z1(vs:List V)(H:Hp)(Q:VK)(z3_:XK):Prop|mk:∀z:S,vs=[.str z]->J6 z->z.length<=100000->(∀H',af H H'->Q (HH (w4 z)) H')->Z1 vs H Q z3_
def b3Z:p7 ["text"] ["text"] (i9 Z4):={}
theorem b4S:(["sign"]:List aC).Nodup:=by simp
theorem b3y(F:Aj K "read_number" Z4 f fd)(T:v8 mg)(CM:∃t,mg "MOST_FIGURES"=some (.int 10 t))(CF:∃t,mg "FIGURES"=some (.str Kw t)):bf P w K mg base J8 (n+1) f fd ["text"] Z1:=by
 refine F.oa b3Z λay A outer s H vs Q E hr h=>?_
 obtain⟨z,rfl,ha,hl,q⟩:=h;obtain⟨tm,hM⟩:=CM;obtain⟨tf,hF⟩:=CF;refine⟨_,j0 (w6 (PW.pt (U0 (S6 (MZ EJ EJ d0 (j7 Q8 rfl T.len bB (c6 (pv 0) c7)) (C4 (v:=.int 10) rfl hM ⟨_,rfl⟩))) (R9 (X6 (j7 (a7F rfl) rfl T.any xN (c6 (N6 ["sign"] [] rfl (b3d (pv 0)) (λ_ _ _ _=>j9 (i:=0) b4S rfl (aI rfl)) (λ_ _ _ _=>Z3 a2o (pv 0) (C4 (v:=.str Kw) rfl hF ⟨_,rfl⟩) rfl)) c7)))))) (j4 (o4 D5)) r8)
  (j0 (w6 (PW.pt (Gv (l5 E6 (l8 Nc (pv 0) d0 (λ_ _=>rfl)) l9 (r9 _)) (T4 (l5 Ei (pv 0) l9 (r9 _))))) (j4 (o4 D5)) r8)
  (j4 (o4 (v5 a2x rfl T.int lJ (c6 (pv 0) c7))))),?_⟩
 have lz:=Tx.d_ z;have je:z.length<=sizeLine:=by rw[bE];lia
 have no:A5 z=false->Q .non H:=λc=>by
  have:=q H (af.refl _);unfold w4 at this;rw[if_neg (by rw[c];exact cX)] at this;exact this
 have Kx:A5 z=false->∀H',af H H'->Q .non H':=λc H' e=>by
  have:=q H' e;unfold w4 at this;rw[if_neg (by rw[c];exact cX)] at this;exact this
 refine⟨_,rfl,z,rfl,je,_,_,rfl,rfl,_,rfl,y6 (λc1=>?_) (λc1=>?_)⟩
 rotate_left
 ·have GK:¬1<=z.length:=λh=>c1 (decide_eq_true (by lia))
  refine⟨_,rfl,J3 (no ?_)⟩;rw[M8,decide_eq_false (by rw[<-lz];exact GK)];rfl
 have GK:1<=z.length:=by have:=of_decide_eq_true c1;lia
 refine⟨_,_,rfl,rfl,_,rfl,?_⟩
 by_cases c2:z.length<=10
 rotate_left
 ·rw[show decide ((z.length:Int)<=10)=false from decide_eq_false (by lia)]
  refine J3 (no ?_);rw[M8,decide_eq_false (show ¬(cs z).length<=10 by rw[<-lz];exact c2)];simp
 rw[show decide ((z.length:Int)<=10)=true from decide_eq_true (by lia)];refine M7 ⟨_,rfl,z,rfl,λp hp=>?_⟩;have sl:(R6 z).length=(cs z).length:=aH _;refine N5 a7c hp (t9 (by lia)) (λi y _=>∃c,(cs z)[i]?=some c/\y=.bl (!(decide (48<=c)&&decide (c<=57)))) (λ_ _ _ _ r _=>r) (λi y H2 zs N hy e dy hN=>?_) (λzs H2 e dy len pr=>?_)
 ·unfold R6 at hy
  rw[aP] at hy;obtain⟨c,hc,rfl⟩:=fL.mp hy;refine⟨Wk.set (by decide),_,rfl,_,_,rfl,rfl,?_⟩;rw[a9q c (ha c (bK hc)),xO];exact hN _ _ (af.refl _) ⟨c,hc,rfl⟩
 have ez:zs=((cs z).map λc=>!(decide (48<=c)&&decide (c<=57))).map V.bl:=by
  refine dR λi=>?_
  by_cases hi:i<zs.length
  ·obtain⟨h,hh,e1⟩:=pr i _ (aS hi)
   rw[aS hi,e1,aP,aP,hh];rfl
  ·rw[bW (by lia),bW (by rw[aH,aH];lia)]
 rw[ez] at dy;refine⟨p,_,rfl,.inl (ah.of dy),_,rfl,?_⟩;have ean:(((cs z).map λc=>!(decide (48<=c)&&decide (c<=57))).any id)=!((cs z).all λc=>decide (48<=c)&&decide (c<=57)):=by
  rw[lN,List.not_all_eq_any_not];rfl
 rw[ean]
 by_cases c3:(cs z).all (λc=>decide (48<=c)&&decide (c<=57))=true
 rotate_left
 ·have Ms:(cs z).all (λc=>decide (48<=c)&&decide (c<=57))=false:=eN.mpr c3
  rw[Ms];refine J3 (Kx ?_ _ e);rw[M8,Ms];simp
 rw[c3];refine M7 ?_;obtain⟨d,r,hd⟩:Ev2 λd r=>cs z=d::r:=by
  cases h:cs z with
  |nil=>rw[h] at lz;simp at lz;lia
  |cons d r=>exact⟨d,r,rfl⟩
 refine⟨_,rfl,z,0,d,rfl,rfl,je,?_,rfl,_,rfl,?_⟩
 ·show U7 (cs z) 0=some d
  rw[hd];exact A2 (j:=0) rfl
 have e0:(V.str (ch d)=V.str (cN "0")) ↔ d=48:=by
  constructor
  ·intro h
   have h2:=congrArg cs (V.str.inj h);have h3:cs (cN "0")=[48]:=by decide
   rw[h3] at h2;exact(kS h2).1
  ·intro h;subst h;exact congrArg V.str (Tx.ext (by decide))
 have e1:(V.str z=V.str (cN "0")) ↔ cs z=[48]:=by
  constructor
  ·intro h;rw[V.str.inj h];decide
  ·intro h;exact congrArg V.str (Tx.ext (by rw[h];decide))
 have yes:A5 z=true->Q (.int ((Am (cs z):Nat):Int)) H2:=λc=>by
  have:=q H2 e;unfold w4 at this;rw[if_pos c] at this;exact this
 have dig:xP (cs z):=λc hc=>by
  have:=fE.mp c3 c hc;rw[fQ] at this;exact⟨of_decide_eq_true this.1,of_decide_eq_true this.2⟩
 have fin:A5 z=true->Ev2 λz' n=>[V.str z]=[V.str z']/\intText? z'=some n/\z'.length<=640/\Q (.int n) H2:=λc =>
  ⟨z,_,rfl,xQ dig (by show cs z≠[];rw[hd];simp) (by lia),by lia,yes c⟩
 have Fe:(decide (1<=(cs z).length)&&decide ((cs z).length<=10)&&(cs z).all (λc=>decide (48<=c)&&decide (c<=57)))=true:=by
  rw[decide_eq_true (by rw[<-lz];exact GK),decide_eq_true (by rw[<-lz];exact c2),c3];rfl
 refine y6 (λc4=>?_) (λc4=>?_)
 ·have Mt:d=48:=e0.mp (of_decide_eq_true c4)
  refine⟨_,rfl,rfl,_,rfl,y6 (λc5=>?_) (λc5=>?_)⟩
  ·refine Kx ?_ _ e
   have:¬V.str z=V.str (cN "0"):=by simpa using c5
   rw[M8,Fe,hd,Mt,decide_eq_false (λh=>h rfl),decide_eq_false (λh=>this (e1.mpr (by rw[hd,Mt];exact h)))];rfl
  ·have:V.str z=V.str (cN "0"):=by simpa using c5
   refine⟨_,rfl,fin ?_⟩;rw[M8,Fe,decide_eq_true (e1.mp this)];simp
 ·refine⟨_,rfl,fin ?_⟩;rw[M8,Fe,decide_eq_true (show(cs z).head?≠some 48 by rw[hd];exact λh=>(λh=>c4 (decide_eq_true (e0.mpr h))) (bD h))];rfl
end Rim
namespace Rim
open PySem L2 Fr
section
variable{P:aM}{w:aL}{K:aF}{mg:aC->Option aE}{base:aJ}{f Pt d:aA}{fd:aK}{n:Nat}{C:aA}
end
section
variable{P:aM}{w:aL}{K:aF}{mg:aC->Option aE}{base:aJ}{f Pt d:aA}{fd:aK}{n:Nat}{C:aA}
end
structure b9z(z:aC)(hs:List i8)(h:i8)(S:Lp.Bo)(kt kg:Nat)(ws:List Int):Prop where
 lw:ws.length=hs.length
 nn:∀x∈ws,0<=x/\fh 20000 x
 size:OJ z ws.sum (S.T (mE hs) (qE z h))
 takes:∀j,j<kt->L8 hs ws 0 j<=h.1.getD j 0*S.T (mE hs) (qE z h)
 gives:∀j,j<kg->h.2.getD j 0*S.d<=L8 hs ws 1 j
 pos:0<S.T (mE hs) (qE z h)
 le:S.T (mE hs) (qE z h)<=S.d
 ja:∀g∈hs,P7 g (o_ h (v7 (mE hs) (qE z h) S)) (pe z h (v7 (mE hs) (qE z h) S))<=pay g (oz h (v7 (mE hs) (qE z h) S))
 pays:pay h (oz h (v7 (mE hs) (qE z h) S))-pe z h (v7 (mE hs) (qE z h) S)=S.d
 ON:x8 h.2 (o_ h (v7 (mE hs) (qE z h) S))=S.T (mE hs) (qE z h)
 pr:PrN (oz h (v7 (mE hs) (qE z h) S)) (o_ h (v7 (mE hs) (qE z h) S)) (pe z h (v7 (mE hs) (qE z h) S)) (S.T (mE hs) (qE z h)) kt kg
 sign:OK z (pe z h (v7 (mE hs) (qE z h) S))
section
variable{P:aM}{w:aL}{K:aF}{mg:aC->Option aE}{base:aJ}{f Pt d CN:aA}{fd:aK}{n:Nat}{C:aA}
end
end Rim
namespace Lp
theorem Of.Fg(O:Of m q A b c S)(hl:l<m)(hA:∀j,j<q->A l j=c j)(hc:cc<q)(neg:S.T m cc<0)(no:∀i,i<m->¬0<S.T i cc):False:=by
 have K0:=(O.k _).mp (O.w.qp (c:=cc) (by lia));obtain⟨rows,goal⟩:=EW.mp K0;have zc:nc m S cc (q+m+1)=0:=by
  rw[<-O.w.oq];exact O.w.h_ (by lia) (by lia) (by lia)
 have zg:nc m S cc (q+m) =-S.T m cc:=by
  rw[<-O.w.im];exact O.w.jd (by lia) (by lia)
 have nl:0<=nc m S cc (q+l):=by
  rcases O.w.all (q+l) (by lia) with⟨i,hi,e⟩|⟨j,hj,e⟩
  ·rw[<-e,O.w.jd (by lia) (by lia)]
   have:=no i hi;lia
  ·rw[<-e]
   by_cases wj:j=cc
   ·subst wj
    rw[Wf.yi];exact cC O.w.pos
   ·rw[O.w.h_ (by lia) (by lia) wj];exact dL _
 have rl:=rows l hl;rw[zc,cW,gK] at rl;have e:sumTo (λj=>c j*nc m S cc j) q=sumTo (λj=>A l j*nc m S cc j) q:=aj λj hj=>by rw[hA j hj]
 rw[zg,e] at goal;lia
end Lp
namespace Rim
open PySem L2 Fr
def vo(z:aC)(g:i8):List Int:=A7 z g++[g.2.sum-g.1.sum]
def P1(z:aC)(h:i8):List Int:=aQ (h.1.length+h.2.length+(K5 z).length) 0++[1]
def P4(z:aC)(hs:List i8)(h:i8):List (List Int):=hs.map (vo z)++[(vo z h).map λx=>-x,P1 z h]
def zo(hs:List i8):List Int:=aQ hs.length 0++[0,1]
abbrev mF(hs:List i8):Nat:=hs.length+2
abbrev qF(z:aC)(h:i8):Nat:=h.1.length+h.2.length+(K5 z).length+1
abbrev OfF(z:aC)(hs:List i8)(h:i8)(S:Lp.Bo):Prop:=Lp.Of (mF hs) (qF z h) (Y8 (P4 z hs h)) (M2 (zo hs)) (M2 (P1 z h)) S
def RF(z:aC)(hs:List i8)(h:i8)(S:Lp.Bo):Prop:=OfF z hs h S/\(∀j,j<qF z h->¬S.T (mF hs) j<0)/\Sz 4000 (mF hs) (qF z h) S
theorem b6p:(["takes","gives"]:List aC).Nodup:=by decide
theorem b6q:(["row","floor"]:List aC).Nodup:=by decide
theorem b8B:(["one"]:List aC).Nodup:=by simp
section
variable{P:aM}{w:aL}{K:aF}{mg:aC->Option aE}{base:aJ}{f Pt d:aA}{fd:aK}{n:Nat}{C:aA}
inductive a9w(K:aF)(Pt:aA)(vs:List V)(H:Hp)(Q:VK)(z3_:XK):Prop|mk:∀(ba:aA)(xs:List V)(hs:List i8)(i:Nat)(h:i8)(z:aC)(br:Int)(kt kg:Nat),vs=[.ref ba,.int i,.str z]->O4 z->O6 K H ba xs hs br kt kg->br<=2^50->hs[i]?=some h->LT Pt H->(∀S H' t aa wa,RF z hs h S->bj Pt H H'->LT Pt H'->H' t=some (.tup [.int (S.T (mF hs) (qF z h)),.ref aa,.ref wa,.int S.d]) → H' aa=some (.lst ((v7 (mF hs) (qF z h) S).map V.int))->H' wa=some (.lst ((K1 (mF hs) (qF z h) S).map V.int))->Q (.ref t) H')->a9w K Pt vs H Q z3_
def Dh:p7 ["houses","number","sizes","rows","floors","firm","goal"] ["houses","number","sizes"] (i9 LQ):={}
def flT{f1 f2:aA}{d1 d2:aK}(N:v8 mg)(Cg:C9 P w K mg base n "greatest" ["goal","rows","bounds"] (O5 K C Pt) f1 d1)(Ch:C9 P w K mg base n "house_rows" ["houses","sizes"] (M4 K) f2 d2)
  (hr:b_ n (A.deeper (cD "greatest_floor" (i9 LQ) s.heap.objs.size f ay))) :
  {t:TS//fu (N8 J8 P w K mg base ["houses","number","sizes","rows","floors","firm","goal"] "greatest_floor" (i9 LQ) f ay A outer s H E).oi (x9 LQ) t} :=
 ⟨_,j0 (r6 (i:=3) Dh.nd rfl (aI rfl) (Ch.c hr (c6 (pv 0) (c6 (pv 2) c7))))
  (t8 (CA (i:=4) ["takes","gives"] [] Dh.nd rfl rfl rfl (C6 (pv 0)) (λ_ _ _ _=>IX K (n:=2) rfl rfl (p6 (j9 (i:=0) b6p rfl (aI rfl)) (p6 (j9 (i:=1) b6p rfl (aI rfl)) A4)))
   (λ_ _ _ _=>j8 IH (j7 (b1q K rfl rfl) rfl N.sum xR (c6 (pv 1) c7)) (j7 (b1q K rfl rfl) rfl N.sum xR (c6 (pv 0) c7))))
  (t8 (CA (i:=3) ["row","floor"] [] Dh.nd rfl rfl rfl (QI true true K rfl rfl N.zip (c6 (pv 3) (c6 (pv 4) c7))) (λ_ _ _ _=>IX K (n:=2) rfl rfl (p6 (j9 (i:=0) b6q rfl (aI rfl)) (p6 (j9 (i:=1) b6q rfl (aI rfl)) A4)))
   (λ_ _ _ _=>j8 B9 (pv 0) (v9 (c6 (pv 1) c7))))
  (t8 (CA (i:=5) ["one"] [] Dh.nd rfl rfl rfl (C6 (l8 j5 (pv 3) (pv 1) (λ_ _=>rfl))) (λ_ _ _ _=>j9 (i:=0) b8B rfl (aI rfl)) (λ_ _ _ _=>Eh V2 (pv 0)))
  (t8 (r6 (i:=6) Dh.nd rfl (aI rfl) (j8 B9 (j8 Q6 (v9 (c6 d0 c7)) (j8 IH (j7 j6 rfl N.len bB (c6 (pv 5) c7)) d0)) (v9 (c6 d0 c7))))
  (j4 (o4 (Cg.c hr (c6 (pv 6) (c6 (j8 B9 (pv 3) (v9 (c6 (pv 5) (c6 (pv 6) c7))))
   (c6 (j8 B9 (j8 Q6 (v9 (c6 d0 c7)) (j7 j6 rfl N.len bB (c6 (pv 0) c7))) (v9 (c6 d0 (c6 d0 c7)))) c7))))))))))⟩
end
theorem Xu:∀{l:List Int}{M},(∀x∈l,x.natAbs<=M)->l.sum.natAbs<=l.length*M
 |[],_,_=>by simp
 |a::r,M,h=>by
  have h1:=h a (.head _);have h2:=Xu (l:=r) (M:=M) λx hx=>h x (.tail _ hx);rw[dW,eM,mI];lia
theorem a6Z(hg:HG br kt kg g)(hf:br<=2^50)(Kr:kt<=20)(Ks:kg<=20):∀x∈vo z g,x.natAbs<=2^60:=λx hx=>by
 have ht:∀x∈g.1,x.natAbs<=2^50:=λx hx=>by have:=hg.t x hx;lia
 have qo:∀x∈g.2,x.natAbs<=2^50:=λx hx=>by have:=hg.g x hx;lia
 unfold vo A7 at hx;rcases bJ.mp hx with hx|hx
 ·rcases bJ.mp hx with hx|hx
  ·rcases bJ.mp hx with hx|hx
   ·obtain⟨y,hy,rfl⟩:=aY.mp hx
    have:=ht y hy;rw[iV];lia
   ·have:=qo x hx;lia
  ·exact Mm z x hx
 ·rw[cJ.mp hx]
  have h1:=Xu ht;have h2:=Xu qo;rw[hg.lt] at h1;rw[hg.lg] at h2;have h5:20*2^50+20*2^50<=(2:Nat)^60:=by decide
  lia
theorem Mu:(vo z g).length=g.1.length+g.2.length+(K5 z).length+1:=by unfold vo A7;simp[sB]
theorem b8Y(hh:HG br kt kg h)(wz:∀h∈hs,HG br kt kg h)(hf:br<=2^50)(Kr:kt<=20)(Ks:kg<=20)q :
  ∀v,Lp.Fits (2^60) (mF hs+1) (Lp.Vv (mF hs) q (Y8 (P4 z hs h)) (M2 (zo hs)) (M2 (P1 z h)) v):=by
 have z0:∀k:Nat,∀x∈List.replicate k (0:Int),x.natAbs<=2^60:=λk x hx=>by rw[(lL.mp hx).2];decide
 have goal:∀x∈P1 z h,x.natAbs<=2^60:=λx hx=>by
  unfold P1 at hx;rcases bJ.mp hx with hx|hx
  ·exact z0 _ x hx
  ·rw[cJ.mp hx];decide
 have rows:∀r∈P4 z hs h,∀x∈r,x.natAbs<=2^60:=λr hr x hx=>by
  unfold P4 at hr;rcases bJ.mp hr with hr|hr
  ·obtain⟨g,hg,rfl⟩:=aY.mp hr
   exact a6Z (wz g hg) hf Kr Ks x hx
  ·simp only[bH,dJ,or_false] at hr
   rcases hr with rfl|rfl
   ·obtain⟨y,hy,rfl⟩:=aY.mp hx
    have:=a6Z hh hf Kr Ks y hy;rw[iV];exact this
   ·exact goal x hx
 have E_:∀x∈zo hs,x.natAbs<=2^60:=λx hx=>by
  unfold zo at hx;rcases bJ.mp hx with hx|hx
  ·exact z0 _ x hx
  ·simp only[bH,dJ,or_false] at hx
   rcases hx with rfl|rfl<;>decide
 intro v i _;unfold Lp.Vv
 split
 ·split
  ·unfold Y8
   refine Q7 (λx hx=>?_) v;rw[bA] at hx
   cases e:(P4 z hs h)[i]? with
   |none=>rw[e] at hx;cases hx
   |some r=>rw[e] at hx;exact rows r (bK e) x hx
  ·split
   ·rw[iV];exact Q7 goal v
   ·exact dM _
 ·split
  ·split<;>decide
  ·split
   ·exact Q7 E_ i
   ·exact dM _
theorem a8q j:Y8 (P4 z hs h) (hs.length+1) j=M2 (P1 z h) j:=by
 have:(P4 z hs h)[hs.length+1]?=some (P1 z h):=by
  unfold P4;rw[dU (by simp),aH,gO];rfl
 rw[T3 this];rfl
theorem b3p{rs:List aA}{hs:List i8}(hl:rs.length=hs.length)(h:∀(i:Nat)a g,rs[i]?=some a->hs[i]?=some g->H' a=some (.lst ((vo z g).map V.int))):si K H' (rs.map V.ref) (hs.map (vo z)):=by
 induction hs generalizing rs with
 |nil =>
  cases rs with
  |nil=>exact .nil
  |cons a r=>simp at hl
 |cons g hs ih =>
  cases rs with
  |nil=>simp at hl
  |cons a r=>exact .cons ⟨a,rfl,ah.of (h 0 a g rfl rfl)⟩ (ih (by simp_all) λi b g' h1 h2=>h (i+1) b g' (by simpa using h1) (by simpa using h2))
theorem b2V(F:Aj K "greatest_floor" LQ f fd)(N:v8 mg)(Cg:C9 P w K mg base n "greatest" ["goal","rows","bounds"] (O5 K C Pt) f1 d1)(Ch:C9 P w K mg base n "house_rows" ["houses","sizes"] (M4 K) f2 d2) :
  bf P w K mg base J8 (n+1) f fd ["houses","number","sizes"] (a9w K Pt):=by
 refine F.oa Dh λay A outer s H vs Q E hr h=>?_
 obtain⟨ba,xs,hs,i,h,z,br,kt,kg,rfl,hz,B,hf,hh,L,k⟩:=h;refine⟨_,(flT N Cg Ch hr).2,?_⟩;have xl:=dE B.b;have few:=B.few;have Xv:=B.t;have Xw:=B.k;have sg:=Ml z;have gh:=B.g h (bK hh);have nj:i<hs.length:=(cA.mp hh).1;have Xf:=t9 (show(1000:Nat)<=1000 from aT _);have AD:∀g∈hs,(vo z g).length=kt+kg+(K5 z).length+1:=λg hg=>by rw[Mu,(B.g g hg).lt,(B.g g hg).lg]
 refine⟨_,rfl,_,rfl,ba,xs,hs,z,kt,kg,rfl,hz,B.l,B.b,by lia,by lia,by lia,λg hg=>⟨(B.g g hg).lt,(B.g g hg).lg⟩,λr H1 rs e1 GN lr Hx=>⟨λau H2=>∃fl:aA,au=[some (.ref ba),some (.int i),some (.str z),some (.ref r),some (.ref fl),none,none]/\af H1 H2/\H2 fl=some (.lst ((hs.map λg=>g.2.sum-g.1.sum).map V.int)),?_,?_⟩⟩
 ·refine⟨_,rfl,ba,rfl,⟨_,e1.seq B.l⟩,λl hl=>(N5 (A3 (e1.seq B.l)) hl (by lia) (λj y _=>∃g,hs[j]?=some g/\y=.int (g.2.sum-g.1.sum)) (λ_ _ _ _ r _=>r) (λj x H2 ys N' hx e j_ hN=>?_) (λys H2 e j_ len pr=>?_))⟩
  ·obtain⟨g,hg,⟨a,ta,ga,rfl,p1,p2,p3⟩⟩:=aZ.at B.b hx
   have e':=e1.trans e;refine⟨a,_,rfl,e'.cm p1,rfl,_,_,rfl,_,_,rfl,rfl,?_,?_⟩
   ·refine⟨by simp,λk w ek=>?_⟩
    have:¬k<2:=λhk=>by
     unfold c_ at ek;rw[dH (by simpa using hk),gD] at ek
     split at ek<;>cases ek
    rw[dP (by lia),dP (by lia)];exact ek
   exact⟨_,rfl,ga,_,rfl,.inr (e'.cm p3),_,rfl,ta,_,rfl,.inr (e'.cm p2),_,_,rfl,rfl,hN _ _ (af.refl _) ⟨g,hg,rfl⟩⟩
  ·refine⟨l,rfl,e,?_⟩
   rw[j_]
   congr 2
   refine dR λj=>?_
   by_cases hj:j<ys.length
   ·obtain⟨g,g1,g2⟩:=pr j _ (aS hj)
    rw[aS hj,g2,aP,aP,g1];rfl
   ·rw[bW (by lia),bW (by rw[aH,aH];lia)]
 rintro Eg H2 ⟨fl,rfl,e2,LN⟩;refine⟨λau H3=>Ev2 λ(ra:aA)(mq:List aA)=>au=[some (.ref ba),some (.int i),some (.str z),some (.ref ra),some (.ref fl),none,none]/\af H2 H3/\H3 ra=some (.lst (mq.map V.ref))/\mq.length=hs.length/\∀(j:Nat)a g,mq[j]?=some a->hs[j]?=some g->H3 a=some (.lst ((vo z g).map V.int)),?_,?_⟩
 ·refine⟨_,rfl,_,rfl,r,fl,rfl,⟨_,ah.of (e2 _ _ GN)⟩,⟨_,ah.of LN⟩,λl hl=>?_⟩
  refine QJ (b1:=true) (b2:=true) (ah.of (e2 _ _ GN)) (ah.of LN) hl (by rw[aH,lr];lia) (λj y H3=>Ev2 λa g=>y=.ref a/\a≠l/\hs[j]?=some g/\H3 a=some (.lst ((vo z g).map V.int)))
   (λj y H3 H4 ⟨a,g,h1,h2,h3,h4⟩ e=>⟨a,g,h1,h2,h3,e a _ h2 h4⟩) (λj x y H3 zs N' hx hy e j_ hN=>?_) (λzs H3 e j_ len pr=>?_)
  ·obtain⟨ra,Et,rfl⟩:∃ra,rs[j]?=some ra/\x=.ref ra:=by
    rw[aP] at hx
    cases q1:rs[j]? with
    |none=>rw[q1] at hx;cases hx
    |some v=>rw[q1] at hx;cases hx;exact⟨v,rfl,rfl⟩
   have EN:j<hs.length:=by rw[<-lr];exact(cA.mp Et).1
   have hg:hs[j]?=some hs[j]:=aS EN;have uw:=Hx j ra _ Et hg;have hyv:y=.int (hs[j].2.sum-hs[j].1.sum):=by
    rw[aP,aP,hg] at hy;exact(bD hy).symm
   subst hyv;generalize hs[j]=g at *;have gg:=B.g g (bK hg);refine⟨_,rfl,_,rfl,(by show 1<=sizeLine;decide),λa1 h1=>⟨ra,a1,_,_,rfl,rfl,(by rw[j3 (i7 (e _ _ (e2 _ _ uw)) h1)];exact e _ _ (e2 _ _ uw)),ae,?_,λa2 h2=>?_⟩⟩
   ·rw[aH]
    unfold A7;simp[gg.lt,gg.lg];lia
   have s2:=(af.new h1 (.lst [V.int (g.2.sum-g.1.sum)])).trans (af.new h2 (.lst ((A7 z g).map V.int++[V.int (g.2.sum-g.1.sum)])));refine hN _ _ s2 ⟨a2,g,rfl,λzz=>?_,hg,?_⟩
   ·rw[zz,(af.new h1 (.lst [V.int (g.2.sum-g.1.sum)])) _ _ j_] at h2;cases h2
   ·rw[ae]
    unfold vo;rw[bQ];rfl
  ·have Wy:zs=(zs.map IY).map V.ref:=by
    rw[bC];refine dR λj=>?_;rw[aP]
    cases qj:zs[j]? with
    |none=>rfl
    |some y =>
     obtain⟨a,_,rfl,_⟩:=pr j y qj;rfl
   refine⟨l,zs.map IY,rfl,e,by rw[j_];rw[<-Wy],by rw[aH,len,aH,aH,aH,lr,Nat.min_self],λj a g hj hg=>?_⟩;rw[aP] at hj
   cases qj:zs[j]? with
   |none=>rw[qj] at hj;cases hj
   |some y =>
    obtain⟨a',g',rfl,_,h3,h4⟩:=pr j y qj;rw[qj] at hj;have:a'=a:=bD hj;subst this;rw[hg] at h3
    cases h3;exact h4
 rintro ir H3 ⟨ra,mq,rfl,e3,Et,OP,OQ⟩;have Ek:i<mq.length:=by lia
 have IZ:mq[i]?=some mq[i]:=aS Ek;generalize mq[i]=ri at IZ;have uw:=OQ i ri h IZ hh;refine⟨λau H4=>∃fa:aA,au=[some (.ref ba),some (.int i),some (.str z),some (.ref ra),some (.ref fl),some (.ref fa),none]/\af H3 H4/\H4 fa=some (.lst (((vo z h).map λx=>-x).map V.int)),?_,?_⟩
 ·refine⟨_,rfl,_,rfl,ra,_,_,.ref ri,rfl,rfl,ah.of Et,A2 (by rw[aP,IZ];rfl),ri,rfl,⟨_,ah.of uw⟩,λl hl=>(O9 (A3 (ah.of uw)) hl (by rw[aH,AD h (bK hh)];lia) (λx=>.int (-(vI x))) (λj x H' N2 El e2 OD=>?_) ?_)⟩
  ·obtain⟨x',rfl,_⟩:=LY El
   exact⟨Wk.set (by decide),_,rfl,_,rfl,OD⟩
  have eg:((vo z h).map V.int).map (λx=>V.int (-(vI x)))=((vo z h).map λx=>-x).map V.int:=by rw[bC,bC];rfl
  rw[eg];exact⟨l,rfl,af.new hl _,ae⟩
 rintro zx H4 ⟨fa,rfl,e4,RG⟩;have RH:(((vo z h).map λx=>-x).map V.int).length=kt+kg+(K5 z).length+1:=by rw[aH,aH,AD h (bK hh)]
 refine⟨λau H5=>∃ga:aA,au=[some (.ref ba),some (.int i),some (.str z),some (.ref ra),some (.ref fl),some (.ref fa),some (.ref ga)]/\af H4 H5/\H5 ga=some (.lst ((P1 z h).map V.int)),?_,?_⟩
 ·refine⟨(by show 1<=sizeLine;decide),λa1 h1=>?_⟩
  have s1:=af.new h1 (.lst [.int 0]);have ek:((kt+kg+(K5 z).length+1:Nat):Int)-1=((h.1.length+h.2.length+(K5 z).length:Nat):Int):=by rw[gh.lt,gh.lg];lia
  refine⟨_,rfl,fa,_,rfl,.inl (ah.of (s1 _ _ RG)),_,_,rfl,rfl,a1,_,_,rfl,rfl,ae,by rw[RH,ek];lia,by rw[RH,ek,gh.lt,gh.lg];lia,by rw[RH,ek,cF,gh.lt,gh.lg];simp;lia,λa2 h2=>?_⟩;rw[RH,ek,cF,N9];have s2:=s1.trans (af.new h2 (.lst ((aQ (h.1.length+h.2.length+(K5 z).length) (0:Int)).map V.int)));refine⟨(by show 1<=sizeLine;decide),λa3 h3=>?_⟩;have s3:=s2.trans (af.new h3 (.lst [.int 1]));refine⟨a2,a3,_,_,rfl,rfl,(by rw[j3 (i7 ae h3)];exact ae),ae,?_,λa4 h4=>?_⟩
  ·rw[aH,bP,gh.lt,gh.lg];simp;lia
  refine⟨a4,rfl,s3.trans (af.new h4 _),?_⟩;rw[ae];unfold P1;rw[bQ];rfl
 rintro Xx H5 ⟨ga,rfl,e5,Av⟩;have RI:=e4.trans e5;refine⟨_,rfl,_,rfl,_,rfl,_,rfl,(by show 2<=sizeLine;decide),λa1 h1=>?_⟩;refine⟨ra,a1,_,_,rfl,rfl,(by rw[j3 (i7 (RI _ _ Et) h1)];exact RI _ _ Et),ae,?_,λa2 h2=>?_⟩
 ·rw[aH,OP];simp;lia
 have s2:=(af.new h1 (.lst [V.ref fa,V.ref ga])).trans (af.new h2 (.lst (mq.map V.ref++[V.ref fa,V.ref ga])));refine⟨(by show 1<=sizeLine;decide),λa3 h3=>?_⟩;have s3:=s2.trans (af.new h3 (.lst [.int 0]));have e05:=e1.trans (e2.trans (e3.trans RI));refine⟨_,rfl,ba,_,rfl,.inl ((e05.trans s3).seq B.l),a3,_,_,rfl,rfl,ae,by lia,by rw[xl];lia,by rw[xl,cF];simp;lia,λa4 h4=>?_⟩;rw[xl,cF,N9];refine⟨(by show 2<=sizeLine;decide),λa5 h5=>?_⟩;have s5:=(s3.trans (af.new h4 (.lst ((aQ hs.length (0:Int)).map V.int)))).trans (af.new h5 (.lst [.int 0,.int 1]));refine⟨a4,a5,_,_,rfl,rfl,(by rw[j3 (i7 ae h5)];exact ae),ae,?_,λa6 h6=>?_⟩
 ·rw[aH,bP];simp;lia
 have s6:=s5.trans (af.new h6 (.lst ((aQ hs.length (0:Int)).map V.int++[.int 0,.int 1])));have eb:(aQ hs.length (0:Int)).map V.int++[.int 0,.int 1]=(zo hs).map V.int:=by unfold zo;rw[bQ];rfl
 have hA:=e05.trans s6;refine⟨ga,a2,a6,P1 z h,mq.map V.ref++[V.ref fa,V.ref ga],P4 z hs h,zo hs,mF hs,qF z h,2^60,rfl,ah.of (s6 _ _ Av),ah.of ((((af.new h3 (.lst [.int 0])).trans (af.new h4 (.lst ((aQ hs.length (0:Int)).map V.int)))).trans (af.new h5 (.lst [.int 0,.int 1]))).trans (af.new h6 (.lst ((aQ hs.length (0:Int)).map V.int++[.int 0,.int 1]))) _ _ ae),?_,?_,?_,?_,?_,?_,by show hs.length+2<900;lia,by show h.1.length+h.2.length+(K5 z).length+1<900;rw[gh.lt,gh.lg];lia,?_,b8Y gh B.g hf Xv Xw _,Xe _ (by show hs.length+2<20;lia),L.same hA,
  λS H' t' aa wa O hn sz e' L' q1 q2 q3=>k S H' t' aa wa ⟨O,hn,sz⟩ (λb o hb q'=>e' b o hb (hA b o q')) L' q1 q2 q3,λS H' c O hc gs AB e' L'=>(O.Fg (l:=hs.length+1) (by show hs.length+1<hs.length+2;lia) (λj _=>a8q j) hc gs AB).elim⟩
 ·unfold P4
  refine aZ.app ((b3p (K:=K) OP OQ).same (RI.trans s6)) (.cons ⟨fa,rfl,ah.of (s6 _ _ (e5 _ _ RG))⟩ (.cons ⟨ga,rfl,ah.of (s6 _ _ Av)⟩ .nil))
 ·rw[<-eb];exact ah.of ae
 ·unfold P4;simp
 ·unfold zo;simp
 ·unfold P1;simp
 ·intro r' jx
  unfold P4 at jx;rcases bJ.mp jx with jx|jx
  ·obtain⟨g,hg,rfl⟩:=aY.mp jx
   rw[AD g hg]
   show _=h.1.length+h.2.length+(K5 z).length+1
   rw[gh.lt,gh.lg]
  ·simp only[bH,dJ,or_false] at jx
   rcases jx with rfl|rfl
   ·rw[aH,Mu]
   ·unfold P1;simp
 ·intro j hj
  unfold M2 zo;rw[bA]
  by_cases h':j<hs.length
  ·rw[dH (by simpa using h'),gD,if_pos h'];exact dL _
  ·rw[dU (by simp;lia),bP]
   have om:j<hs.length+2:=hj;have:j-hs.length=0\/j-hs.length=1:=by lia
   rcases this with q'|q'<;>rw[q']<;>decide
structure b5V(z:aC)(hs:List i8)(h:i8)(pt pg:List Int)(ps:Int):Prop where
 lt:pt.length=h.1.length
 lg:pg.length=h.2.length
 tp:∀x∈pt,0<x
 gp:∀x∈pg,0<x
 sign:OK z ps
 ja:∀g∈hs,P7 g pg ps<=pay g pt
 Xy:P7 h pg ps=pay h pt
def Mv(z:aC)(hs:List i8)(h:i8):Prop:=Ev3 λpt pg ps=>b5V z hs h pt pg ps
theorem Xz:∀{l x y},x.length=y.length->x8 l (cV (·+·) x y)=x8 l x+x8 l y
 |[],x,y,_=>by simp[x8]
 |a::l,[],[],_=>by simp[x8]
 |a::l,b::x,c::y,h=>by
  have:=Xz (l:=l) (by simpa using h);unfold x8 at *;simp only[eW,dW];rw[this,kZ];lia
 |a::l,[],c::y,h=>by simp at h
 |a::l,b::x,[],h=>by simp at h
theorem a6B:∀{l}{k}{f},l.length=k->x8 l (aQ k f)=l.sum*f
 |[],k,f,_=>by simp[x8]
 |a::l,0,f,h=>by simp at h
 |a::l,k+1,f,h=>by
  have:=a6B (f:=f) (by simpa using h);unfold x8 at *;rw[eZ,eW,dW,this,dW,fG]
abbrev AF(xs:List Int)(f:Int):List Int:=xs.map (·+f)
theorem b1E(h:l.length=xs.length):x8 l (AF xs f)=x8 l xs+l.sum*f:=by
 have e:AF xs f=cV (·+·) xs (aQ xs.length f):=by
  unfold AF;refine dR λi=>?_
  by_cases hi:i<xs.length
  ·rw[aP,mX,gD,if_pos hi,aS hi];rfl
  ·rw[bW (by simp;lia),bW (by simp;lia)]
 rw[e,Xz (by simp),a6B h]
theorem RJ(h1:g.1.length=h.1.length)(h2:g.2.length=h.2.length)(hl:xs.length=h.1.length+h.2.length+(K5 z).length) :
  x8 (vo z g) (xs++[fl])=P7 g (AF (o_ h xs) fl) (pe z h xs)-pay g (AF (oz h xs) fl):=by
 unfold vo;rw[Mp (by unfold A7;simp[h2];lia),Rx h1 h2];unfold P7 pay;have e1:x8 g.2 (AF (o_ h xs) fl)=x8 g.2 (o_ h xs)+g.2.sum*fl:=b1E (by grind);have e2:x8 g.1 (AF (oz h xs) fl)=x8 g.1 (oz h xs)+g.1.sum*fl:=b1E (by grind);dsimp only[x8] at *;rw[e1,e2,pA];lia
theorem a7n:v7 m (q+1) S=(v7 m (q+1) S).take q++[Lp.cg m S (q+1) q]:=by
 unfold v7;rw[pE,bQ,pK (by simp)];rfl
theorem XA xs fl(hl:xs.length=h.1.length+h.2.length+(K5 z).length):x8 (P1 z h) (xs++[fl])=fl:=by
 unfold P1;rw[Mp (by simp[hl]),T6,lH,lE]
theorem b6v(i:Nat)(hg:hs[i]?=some g):(P4 z hs h)[i]?=some (vo z g):=by
 unfold P4;rw[dH (by rw[aH];exact((cA.mp hg).1)),aP,hg];rfl
theorem b5Y:(P4 z hs h)[hs.length]?=some ((vo z h).map λx=>-x):=by
 unfold P4;rw[dU (by simp),aH,gL];rfl
theorem RK(hi:i<=hs.length):(zo hs).getD i 0=0:=by
 unfold zo;rw[F0,bP]
 by_cases h1:i<hs.length
 ·rw[if_pos h1,M3]
 ·rw[if_neg h1,show i-hs.length=0 by lia];rfl
theorem a7w{i:Nat}(hz:O4 z)(B:RF z hs h S)(hk:∀g∈hs,g.1.length=kt/\g.2.length=kg)(hh:hs[i]?=some h)(hp:0<S.T (mF hs) (qF z h)) :
  b5V z hs h (AF (oz h ((v7 (mF hs) (qF z h) S).take (qE z h))) (S.T (mF hs) (qF z h))) (AF (o_ h ((v7 (mF hs) (qF z h) S).take (qE z h))) (S.T (mF hs) (qF z h))) (pe z h ((v7 (mF hs) (qF z h) S).take (qE z h))):=by
 obtain⟨O,hn,sz⟩:=B;have kh:=hk h (bK hh);have iu:v7 (mF hs) (qF z h) S=(v7 (mF hs) (qF z h) S).take (qE z h)++[Lp.cg (mF hs) S (qF z h) (qE z h)]:=a7n;have la:(v7 (mF hs) (qF z h) S).length=qE z h+1:=by unfold v7;simp
 have lx:((v7 (mF hs) (qF z h) S).take (qE z h)).length=h.1.length+h.2.length+(K5 z).length:=by rw[cI,la];show min (h.1.length+h.2.length+(K5 z).length) (h.1.length+h.2.length+(K5 z).length+1)=_;lia
 have eT:Lp.cg (mF hs) S (qF z h) (qE z h)=S.T (mF hs) (qF z h):=by
  have:=Xm O (by unfold P1;simp);rw[iu,XA _ _ lx] at this;exact this
 generalize hxs:(v7 (mF hs) (qF z h) S).take (qE z h)=xs at *;have OS:=λx hx=>(Xn O) x (iu▸fW _ hx);have ja:∀g∈hs,P7 g (AF (o_ h xs) (S.T (mF hs) (qF z h))) (pe z h xs)<=pay g (AF (oz h xs) (S.T (mF hs) (qF z h))):=λg hg=>by
  obtain⟨k,i_⟩:=iL hg;have iw:=(cA.mp i_).1;have HI:=hk g hg;have:=Rv O (by lia) (b6v k i_) (by rw[Mu,HI.1,HI.2,kh.1.symm,kh.2.symm]);rw[iu,RJ (by lia) (by lia) lx,RK (by lia),gY,eT] at this;lia
 refine⟨by simp[lx];lia,by simp[lx];lia,λx hx=>?_,λx hx=>?_,Ry hz λx hx=>OS x (fK hx),ja,?_⟩
 ·obtain⟨y,hy,rfl⟩:=aY.mp hx
  have:=OS y (fV hy);lia
 ·obtain⟨y,hy,rfl⟩:=aY.mp hx
  have:=OS y (fK (fV hy));lia
 ·have f1:=ja h (bK hh)
  have:=Rv O (by lia) b5Y (by rw[aH,Mu]);rw[iu,Mn,RJ rfl rfl lx,RK (aT _),gY,eT] at this;lia
theorem a7m{i:Nat}(hz:O4 z)(B:RF z hs h S)(hk:∀g∈hs,g.1.length=kt/\g.2.length=kg)(hh:hs[i]?=some h)(R:Mv z hs h):0<S.T (mF hs) (qF z h):=by
 obtain⟨O,hn,sz⟩:=B;obtain⟨pt,pg,ps,R⟩:=R;have kh:=hk h (bK hh);obtain⟨sx,sl,snn,sv⟩:∃sx,sx.length=(K5 z).length/\(∀x∈sx,0<=x)/\x8 sx (K5 z)=ps:=by
  have sg:=R.sign;rcases hz with rfl|rfl|rfl|rfl
  ·have h1:=sg.1 (.inl rfl)
   have h2:=sg.2 (.inl rfl);exact⟨[],rfl,nofun,by show(0:Int)=ps;lia⟩
  ·by_cases h0:0<=ps
   ·refine⟨[ps,0],rfl,λx hx=>?_,?_⟩
    ·simp only[bH,dJ,or_false] at hx
     rcases hx with rfl|rfl
     ·exact h0
     ·exact dL _
    ·show ps*1+(0 * -1+0)=ps;lia
   ·refine⟨[0,-ps],rfl,λx hx=>?_,?_⟩
    ·simp only[bH,dJ,or_false] at hx
     rcases hx with rfl|rfl
     ·exact dL _
     ·lia
    ·show 0*1+(-ps * -1+0)=ps;lia
  ·have h1:=sg.1 (.inr rfl)
   exact⟨[-ps],rfl,λx hx=>by rw[cJ.mp hx];lia,by show -ps * -1+0=ps;lia⟩
  ·exact⟨[ps],rfl,λx hx=>by rw[cJ.mp hx];exact(sg.2 (.inr rfl)),by show ps*1+0=ps;lia⟩
 have OT:(pt.map (·-1)++pg.map (·-1)++sx).length=h.1.length+h.2.length+(K5 z).length:=by simp[R.lt,R.lg,sl];lia
 have e1:AF (oz h (pt.map (·-1)++pg.map (·-1)++sx)) 1=pt:=by
  unfold oz AF;rw[dC,pK (by simp[R.lt]),bC];refine(fM λx _=>?_).trans (xS _)
  show x-1+1=x;lia
 have e2:AF (o_ h (pt.map (·-1)++pg.map (·-1)++sx)) 1=pg:=by
  unfold o_ AF;rw[dC,xT (by simp[R.lt]),pK (by simp[R.lg]),bC];refine(fM λx _=>?_).trans (xS _)
  show x-1+1=x;lia
 have e3:pe z h (pt.map (·-1)++pg.map (·-1)++sx)=ps:=by
  unfold pe;rw[xT (by simp[R.lt,R.lg])];exact sv
 generalize Hl:pt.map (·-1)++pg.map (·-1)++sx=xs at *;have OS:∀x∈xs++[1],0<=x:=λx hx=>by
  rcases bJ.mp hx with hx|hx
  ·rw[<-Hl] at hx
   rcases bJ.mp hx with hx|hx
   ·rcases bJ.mp hx with hx|hx
    ·obtain⟨y,hy,rfl⟩:=aY.mp hx
     have:=R.tp y hy;lia
    ·obtain⟨y,hy,rfl⟩:=aY.mp hx
     have:=R.gp y hy;lia
   ·exact snn x hx
  ·rw[cJ.mp hx];decide
 have lq:(xs++[1]).length=qF z h:=by rw[aX,OT];rfl
 have toD:∀{row:List Int}{i:Nat},(P4 z hs h)[i]?=some row->row.length=qF z h->Lp.sumTo (λj=>Y8 (P4 z hs h) i j*(xs++[1]).getD j 0) (qF z h)=x8 row (xs++[1]):=λ{row i}hr hl=>by
  rw[<-M9 (qF z h) row (xs++[1]) hl lq];exact Lp.aj λj _=>by rw[T3 hr]
 have key:=O.weak hn (y:=λj=>(xs++[1]).getD j 0) (e:=1) (λj hj=>?_) λk i_=>?_
 ·have eg:Lp.sumTo (λj=>M2 (P1 z h) j*(xs++[1]).getD j 0) (qF z h)=1:=by
   have:=M9 (qF z h) (P1 z h) (xs++[1]) (by unfold P1;simp) lq;rw[XA _ _ OT] at this;exact this
  rw[eg] at key;have:=O.w.pos;lia
 ·rw[bA,aS (by lia)]
  exact OS _ (eF _)
 ·have Rz:k<hs.length+2:=i_
  show _<=M2 (zo hs) k*1
  rw[jF]
  by_cases c1:k<hs.length
  ·have HI:=hk hs[k] (eF c1);rw[toD (b6v k (aS c1)) (by rw[Mu,HI.1,HI.2,kh.1.symm,kh.2.symm]),RJ (h:=h) (by rw[HI.1,kh.1]) (by rw[HI.2,kh.2]) OT,e1,e2,e3]
   show _<=(zo hs).getD k 0
   rw[RK (by lia)];have:=R.ja hs[k] (eF c1);lia
  ·by_cases c2:k=hs.length
   ·subst c2
    rw[toD b5Y (by rw[aH,Mu]),Mn,RJ (h:=h) rfl rfl OT,e1,e2,e3]
    show _<=(zo hs).getD hs.length 0
    rw[RK (aT _)];have:=R.Xy;lia
   ·have c3:k=hs.length+1:=by lia
    subst c3;have hr:(P4 z hs h)[hs.length+1]?=some (P1 z h):=by
     unfold P4;rw[dU (by simp),aH,gO];rfl
    rw[toD hr (by unfold P1;simp),XA _ _ OT]
    show(1:Int)<=(zo hs).getD (hs.length+1) 0
    unfold zo;rw[F0,bP,if_neg (by lia),gO];decide
def b4h{i:Nat}(hz:O4 z)(B:RF z hs h S)(hk:∀g∈hs,g.1.length=kt/\g.2.length=kg)(hh:hs[i]?=some h):0<S.T (mF hs) (qF z h) ↔ Mv z hs h :=
 ⟨λhp=>⟨_,_,_,a7w hz B hk hh hp⟩,a7m hz B hk hh⟩
end Rim
namespace L2
open PySem
theorem b3K(T:cu P pos qual H1)(hp:H1 p=none)(hz:n<sizeLine)F
  (step:∀i H ys N,i<n->bj P H1 H->cu P pos qual H->H p=some (.lst ys)->(∀H3,bj P H H3->cu P pos qual H3->N (F i) H3)->tc ((c_ 1 fr σ).set 0 (some (.int (i:Int)))) H N)
  (hd:∀H,bj P H1 H->cu P pos qual H->H p=some (.lst (((aW n).filter F).map λ(i:Nat)=>V.int (i:Int)))->D H):LF 1 fr (N7 0) tc (JB 0) σ (Hd 0 n) H1 p D:=by
 refine⟨λi m ys H=>m=n-i/\i<=n/\ys=((aW i).filter F).map (λ(i:Nat)=>V.int (i:Int))/\bj P H1 H/\cu P pos qual H/\H p=some (.lst ys),⟨n,by simp,dM _,rfl,(af.new hp _).ka,T.same (af.new hp _),ae⟩,?_⟩;rintro i m ys H ⟨rfl,hi,rfl,e,L,hH⟩
 by_cases fk:i<n
 ·refine .inr ⟨fk,λx H' y=>?_⟩
  obtain⟨rfl,rfl⟩:=y;rw[lH];have tk:(aW (i+1)).filter F=(aW i).filter F++[i].filter F:=by rw[pE,wS]
  refine⟨Wk.set (by decide),step i _ _ _ fk e L hH λH3 e3 L3=>?_⟩;have h3:=e3.get L hH nofun
  cases hq:F i with
  |false =>
   rw[if_neg cX];refine⟨n-(i+1),by lia,rfl,fk,?_,e.trans e3,L3,h3⟩;rw[tk];simp[hq]
  |true =>
   rw[if_pos rfl];refine⟨.int (i:Int),?_,h3,?_,n-(i+1),by lia,rfl,fk,?_,(e.trans e3).write hp,L3.write h3,ae⟩
   ·show((c_ 1 fr σ).set 0 (some (.int (i:Int))))[0]?=some (some (.int (i:Int)))
    rw[eK (by simp[c_])]
   ·have h1:=oX F (aW i)
    rw[gZ] at h1;rw[aH];lia
   ·rw[tk];simp[hq]
 ·have:i=n:=by lia
  subst this;exact .inl ⟨Nat.le_refl _,hd H e L hH⟩
end L2
namespace Rim
open PySem L2 Fr
open Classical in
def Jg(z:aC)(hs:List i8):List Nat:=(aW hs.length).filter λi=>decide (Mv z hs (hs.getD i ([],[])))
theorem b4X(h:i∈Jg z hs):i<hs.length:=by
 unfold Jg at h;exact fF.mp (lI.mp h).1
theorem d0p(hh:hs[i]?=some h):i∈Jg z hs ↔ Mv z hs h:=by
 have hd:hs.getD i ([],[])=h:=by rw[bA,hh];rfl
 unfold Jg;rw[lI,fF,hd];simp[(cA.mp hh).1]
theorem c8B:∀{l:List Int},(∀x∈l,0<=x)->(∃x∈l,0<x)->0<l.sum
 |[],_,⟨_,h,_⟩=>by cases h
 |a::r,h,⟨x,hx,hp⟩=>by
  have ha:=h a (.head _);have nn:0<=r.sum:=by
   have:∀{l:List Int},(∀x∈l,0<=x)->0<=l.sum:=λ{l}=>by
    induction l with
    |nil=>intro _;exact dL _
    |cons b s ih =>
     intro g;have h1:=g b (.head _);have h2:=ih λy hy=>g y (.tail _ hy);rw[dW];lia
   exact this λy hy=>h y (.tail _ hy)
  rw[dW];rcases bH.mp hx with rfl|hx
  ·lia
  ·have:=c8B (λy hy=>h y (.tail _ hy)) ⟨x,hx,hp⟩
   lia
theorem c7N{α:Type}{T G:α->Int}:∀{l},l≠[]->(∀x∈l,0<G x)->∃h∈l,∀g∈l,T h*G g<=T g*G h
 |[],h,_=>absurd rfl h
 |[a],_,_=>⟨a,.head _,λg hg=>by rw[cJ.mp hg];exact dL _⟩
 |a::b::r,_,hp=>by
  obtain⟨h,hm,hl⟩:=c7N (by simp) λx hx=>hp x (.tail _ hx)
  by_cases c:T h*G a<=T a*G h
  ·refine⟨h,.tail _ hm,λg hg=>?_⟩
   rcases bH.mp hg with rfl|hg
   ·exact c
   ·exact hl g hg
  ·refine⟨a,.head _,λg hg=>?_⟩
   rcases bH.mp hg with rfl|hg
   ·exact dL _
   ·refine mW ?_ (hp h (.tail _ hm));have e1:T a*G h*G g<=T h*G a*G g:=fH (by lia) (cC (hp g (.tail _ hg)));have e2:T h*G g*G a<=T g*G h*G a:=fH (hl g hg) (cC (hp a (.head _)));have x1:T a*G g*G h=T a*G h*G g:=by ac_rfl
    lia
theorem c8H(hG:∀g∈hs,HG br kt kg g)(ij:1<=kt)(mm:hs≠[]):∃i,i∈Jg z hs:=by
 have pT_:=λg hg=>by
  have h:=hG g hg;refine c8B (λx hx=>by have:=(h.t x hx).1;lia) ?_;have hl:0<g.1.length:=by rw[h.lt];lia
  exact⟨g.1[0],eF hl,by have:=(h.t _ (eF hl)).1;lia⟩
 have pG_:=λg hg=>c8B (λx hx=>((hG g hg).g x hx).1) (hG g hg).p;obtain⟨h,hm,hl⟩:=c7N mm pG_;obtain⟨i,hi⟩:=iL hm;refine⟨i,(d0p hi).mpr ⟨List.replicate kt h.2.sum,aQ kg h.1.sum,0,?_⟩⟩;have v1:∀g∈hs,pay g (aQ kt h.2.sum)=g.1.sum*h.2.sum:=λg hg=>a6B (hG g hg).lt;have v2:∀g∈hs,P7 g (aQ kg h.1.sum) 0=g.2.sum*h.1.sum:=λg hg=>by
  have:x8 g.2 (aQ kg h.1.sum)=g.2.sum*h.1.sum:=a6B (hG g hg).lg;unfold P7;dsimp only[x8] at this;rw[this,gK]
 refine⟨by rw[bP,(hG h hm).lt],by rw[bP,(hG h hm).lg],λx hx=>by rw[(lL.mp hx).2];exact pG_ h hm,λx hx=>by rw[(lL.mp hx).2];exact pT_ h hm,⟨λ_=>dL _,λ_=>dL _⟩,λg hg=>?_,?_⟩
 ·rw[v1 g hg,v2 g hg]
  have:=hl g hg;rw[bX g.2.sum];exact this
 ·rw[v1 h hm,v2 h hm,bX]
inductive RL(K:aF)(Pt:aA)(vs:List V)(H:Hp)(Q:VK)(z3_:XK):Prop|mk:∀(ba:aA)(xs:List V)(hs:List i8)(z:aC)(br:Int)(kt kg:Nat),vs=[.ref ba,.str z]->O4 z->O6 K H ba xs hs br kt kg->br<=2^50->LT Pt H->(∀H' r,bj Pt H H'->LT Pt H'->H r=none->H' r=some (.lst ((Jg z hs).map λ(i:Nat)=>V.int (i:Int)))->Q (.ref r) H')->RL K Pt vs H Q z3_
def c0R:p7 ["book","sizes"] ["book","sizes"] (i9 VL):={}
theorem c1h:(["number","book","sizes"]:List aC).Nodup:=by decide
theorem b3q(F:Aj K "rim_of" VL f fd)(N:v8 mg)(Cf:C9 P w K mg base n "greatest_floor" ["houses","number","sizes"] (a9w K Pt) f1 d1):bf P w K mg base J8 (n+1) f fd ["book","sizes"] (RL K Pt):=by
 refine F.oa c0R λay A outer s H vs Q E hr h=>?_
 obtain⟨ba,xs,hs,z,br,kt,kg,rfl,hz,B,hf,L,k⟩:=h;refine⟨_,j4 (o4 (b3J ["number"] [0,1] rfl (R8 rfl N.range (c6 (j7 j6 rfl N.len bB (c6 (pv 0) c7)) c7)) (λ_ _ _ _=>j9 (i:=0) c1h rfl (aI rfl))
  (λ_ _ _ _=>l5 Ej (l8 (b7V K rfl) (Cf.c hr (c6 (pv 1) (c6 (pv 0) (c6 (pv 2) c7)))) d0 λ_ _=>rfl) d0 (r9 _)) λ_ _ _ _=>pv 0)),?_⟩
 have xl:=dE B.b;have few:=B.few;have Xf:=t9 (show(1000:Nat)<=1000 from aT _);refine⟨_,rfl,ba,_,rfl,.inl B.l,_,rfl,by lia,by lia,?_⟩;rw[xl,cF];intro p hp;refine b3K (n:=hs.length) L hp (by lia) _ (λi H2 ys N' hi e LX oy hN=>?_) (λH2 e LX oy=>k H2 p e LX hp oy);have hh:hs[i]?=some hs[i]:=aS hi;refine⟨_,rfl,_,rfl,_,rfl,ba,xs,hs,i,hs[i],z,br,kt,kg,rfl,hz,⟨ah.fg L e B.l,Bk.fg L e B.b,B.g,B.br,B.few,B.t,B.k⟩,hf,hh,LX,λS H3 t aa wa BF e3 L3 ht _ _=>⟨t,_,0,_,rfl,rfl,cq.of ht,A2 (j:=0) rfl,_,_,rfl,rfl,_,rfl,?_⟩⟩;have hd:hs.getD i ([],[])=hs[i]:=by rw[bA,hh];rfl
 have eb:decide (S.T (mF hs) (qF z hs[i])>0)=(λi=>@decide (Mv z hs (hs.getD i ([],[]))) (xU _)) i:=by
  have:=b4h hz BF (λg hg=>⟨(B.g g hg).lt,(B.g g hg).lg⟩) hh
  show _=@decide (Mv z hs (hs.getD i ([],[]))) (xU _)
  rw[hd]
  by_cases c:0<S.T (mF hs) (qF z hs[i])
  ·have c2:=this.mp c
   rw[decide_eq_true (show S.T (mF hs) (qF z hs[i])>0 from c)];simp[c2]
  ·have c2:¬Mv z hs hs[i]:=λq=>c (this.mpr q)
   rw[decide_eq_false (show ¬S.T (mF hs) (qF z hs[i])>0 from c)];simp[c2]
 rw[eb];exact hN H3 e3 L3
end Rim
namespace Rim
open PySem L2 Fr
structure Mx(z:aC)(hs:List i8)(ws:List Int)(D:Int):Prop where
 lw:ws.length=hs.length
 nn:∀x∈ws,0<=x
 d:0<D
 size:OJ z ws.sum D
structure Px(z:aC)(hs:List i8)(kt kg:Nat)(pt pg:List Int)(ps:Int):Prop where
 lt:pt.length=kt
 lg:pg.length=kg
 tn:∀x∈pt,0<=x
 gn:∀x∈pg,0<=x
 sign:OK z ps
 ja:∀g∈hs,P7 g pg ps<=pay g pt
def J1 a b l x:x8 (a::l) (b::x)=a*b+x8 l x:=rfl
theorem XB{f:i8->List Int}:∀{hs:List i8}{ws p},ws.length=hs.length->(∀g∈hs,(f g).length=k)->p.length=k →
  x8 (hs.map λg=>x8 (f g) p) ws=x8 ((aW k).map λj=>x8 (hs.map λg=>(f g).getD j 0) ws) p
 |[],ws,p,_,_,hp=>by
  have e:∀(l:List Nat)(p:List Int),x8 (l.map λ_=>(0:Int)) p=0:=λl=>by
   induction l with
   |nil=>intro p;simp[x8]
   |cons a r ih =>
    intro p
    cases p with
    |nil=>simp[x8]
    |cons b p=>rw[cS,J1,ih p];lia
  show(0:Int)=_
  rw[show((aW k).map λj=>x8 (([]:List i8).map λg=>(f g).getD j 0) ws)=(aW k).map λ_=>(0:Int) from fM λj _=>by simp[x8],e]
 |g::hs,[],p,h,_,_=>by simp at h
 |g::hs,w::ws,p,h,hk,hp=>by
  have ih:=XB (by simpa using h) (λx hx=>hk x (.tail _ hx)) hp;rw[cS,J1,ih];have e1:((aW k).map λj=>x8 ((g::hs).map λg=>(f g).getD j 0) (w::ws))=cV (·+·) ((f g).map λx=>x*w) ((aW k).map λj=>x8 (hs.map λg=>(f g).getD j 0) ws):=by
   have lg:=hk g (.head _);refine dR λj=>?_
   by_cases hj:j<k
   ·rw[aP,cU hj,mX,aP,aP,cU hj,aS (lg▸hj)]
    simp only[jV];rw[cS,J1,bA,aS (lg▸hj)];rfl
   ·rw[bW (by grind),bW (by grind)]
  rw[e1,T8 (cV _ _ _) p,Xz (by simp_all),T8 p,T8 p]
  congr 1
  have:∀l p,x8 (l.map λx=>x*w) p=x8 l p*w:=λl=>by
   induction l with
   |nil=>intro p;simp[x8]
   |cons a r ih =>
    intro p
    cases p with
    |nil=>simp[x8]
    |cons b p =>
     rw[cS,J1,J1,ih p,fG]
     congr 1
     ac_rfl
  rw[this]
theorem X5:∀{l m p},l.length=m.length->(∀x∈p,0<=x)->(∀j,j<l.length->l.getD j 0<=m.getD j 0)->x8 l p<=x8 m p
 |[],[],p,_,_,_=>dL _
 |a::l,b::m,[],_,_,_=>dL _
 |a::l,b::m,c::p,h,hp,hj=>by
  have ih:=X5 (by simpa using h) (λx hx=>hp x (.tail _ hx)) λj hl=>by
   have:=hj (j+1) (by simp_all)
   simpa using this
  have h0:a<=b:=by simpa using hj 0 (by simp)
  rw[J1,J1];have:=fH h0 (hp c (.head _));lia
 |[],_::_,_,h,_,_=>by simp at h
 |_::_,[],_,h,_,_=>by simp at h
theorem P0(s:Int):∀l p,x8 (l.map λx=>x*s) p=x8 l p*s
 |[],p=>by simp[x8]
 |a::l,[]=>by simp[x8]
 |a::l,b::p=>by
  rw[cS,J1,J1,P0 s l p,fG]
  congr 1
  ac_rfl
theorem a8S j i:L8 hs ws j i=x8 (hs.map λg=>(V4 j g).getD i 0) ws:=by
 unfold L8 col;rw[bC];rfl
theorem XC(hz:O4 z)(M:Mx z hs ws D)(P:Px z hs kt kg pt pg ps)(hk:∀g∈hs,g.1.length=kt/\g.2.length=kg) :
  x8 ((aW kg).map λj=>L8 hs ws 1 j) pg+ps*D<=x8 ((aW kt).map λj=>L8 hs ws 0 j) pt:=by
 have e0:x8 (hs.map λg=>pay g pt) ws=x8 ((aW kt).map λj=>L8 hs ws 0 j) pt:=by
  have:=XB M.lw (λg hg=>(hk g hg).1) P.lt;rw[show(λj=>L8 hs ws 0 j)=λj=>x8 (hs.map λg=>g.1.getD j 0) ws from funext λj=>a8S 0 j];exact this
 have e1:x8 (hs.map λg=>x8 g.2 pg) ws=x8 ((aW kg).map λj=>L8 hs ws 1 j) pg:=by
  have:=XB M.lw (λg hg=>(hk g hg).2) P.lg;rw[show(λj=>L8 hs ws 1 j)=λj=>x8 (hs.map λg=>g.2.getD j 0) ws from funext λj=>a8S 1 j];exact this
 have e2:x8 (hs.map λg=>P7 g pg ps) ws=x8 (hs.map λg=>x8 g.2 pg) ws+ps*ws.sum:=by
  have:∀(hs:List i8)ws,hs.length=ws.length->x8 (hs.map λg=>P7 g pg ps) ws=x8 (hs.map λg=>x8 g.2 pg) ws+ps*ws.sum:=λhs=>by
   induction hs with
   |nil =>
    intro ws hl;rw[lM hl.symm];simp[x8]
   |cons g r ih =>
    intro ws hl
    cases ws with
    |nil=>simp at hl
    |cons w ws =>
     have:=ih ws (by simp_all);rw[cS,cS,J1,J1,this,dW];have e:P7 g pg ps=x8 g.2 pg+ps:=rfl;rw[e,fG,kZ];lia
  exact this hs ws M.lw.symm
 have le:x8 (hs.map λg=>P7 g pg ps) ws<=x8 (hs.map λg=>pay g pt) ws:=by
  refine X5 (by simp) M.nn λj hj=>?_;have om:j<hs.length:=by simp_all
  rw[bA,bA,aP,aP,aS om];exact P.ja _ (eF om)
 have sz:ps*D<=ps*ws.sum:=by
  obtain⟨s1,s2⟩:=M.size;obtain⟨g1,g2⟩:=P.sign;rcases hz with c|c|c|c
  ·have:=g1 (.inl c);have:=g2 (.inl c)
   have:ps=0:=by lia
   rw[this];simp
  ·have a1:=s1 (.inl c)
   have a2:=s2 (.inl c);have:ws.sum=D:=by lia
   rw[this];exact dL _
  ·have a1:=g1 (.inr c)
   have:=jU (s1 (.inr c)) (show 0 <= -ps by lia);rw[iJ,iJ] at this;lia
  ·exact jU (s2 (.inr c)) (g2 (.inr c))
 rw[e0,e2,e1] at le;lia
structure RM(z:aC)(hs:List i8)(h:i8)(kt kg:Nat)(A B:Int)(ws:List Int)(D:Int):Prop where
 m:Mx z hs ws D
 t:∀j,j<kt->L8 hs ws 0 j*B<=h.1.getD j 0*A*D
 g:∀j,j<kg->h.2.getD j 0*D<=L8 hs ws 1 j
structure RN(z:aC)(hs:List i8)(h:i8)(kt kg:Nat)(A B:Int)(ws:List Int)(D:Int):Prop where
 m:Mx z hs ws D
 t:∀j,j<kt->L8 hs ws 0 j<=h.1.getD j 0*D
 g:∀j,j<kg->h.2.getD j 0*A*D<=L8 hs ws 1 j*B
def XD{F:Nat->Int}(h:j<k):((aW k).map F).getD j 0=F j:=Ku h
theorem RM.weak(hz:O4 z)(S:RM z hs h kt kg A B ws D)(P:Px z hs kt kg pt pg ps)(hk:∀g∈hs,g.1.length=kt/\g.2.length=kg)(h1:h.1.length=kt)(h2:h.2.length=kg)(hB:0<B):P7 h pg ps*B<=A*pay h pt:=by
 have a1:x8 h.2 pg*D<=x8 ((aW kg).map λj=>L8 hs ws 1 j) pg:=by
  rw[<-P0];refine X5 (by grind) P.gn λj hj=>?_;have om:j<kg:=by simp_all
  rw[XD om,bA,aP,aS (by lia)];have:=S.g j om;rw[bA,aS (by lia)] at this;exact this
 have a2:x8 ((aW kt).map λj=>L8 hs ws 0 j) pt*B<=x8 h.1 pt*(A*D):=by
  rw[<-P0,<-P0];refine X5 (by grind) P.tn λj hj=>?_;have om:j<kt:=by simp_all
  rw[bA,aP,aP,cU om,bA,aP,aS (by lia)];have:=S.t j om;rw[bA,aS (by lia)] at this
  show L8 hs ws 0 j*B<=h.1[j]*(A*D)
  rw[<-cG];exact this
 refine mW ?_ S.m.d;have e1:P7 h pg ps=x8 h.2 pg+ps:=rfl;have e2:pay h pt=x8 h.1 pt:=rfl;rw[e1,e2];have b1:=fH (XC hz S.m P hk) (cC hB);have b2:=fH a1 (cC hB);have x1:(x8 h.2 pg+ps)*B*D=x8 h.2 pg*D*B+ps*D*B:=by rw[fG,fG];congr 1<;>ac_rfl
 have x2:A*x8 h.1 pt*D=x8 h.1 pt*(A*D):=by ac_rfl
 rw[fG] at b1;rw[x1,x2];lia
def fo(z:aC)(hs:List i8)(h:i8)(kt kg:Nat)(A B:Int):Prop:=0<B/\(Ev2 λws D=>RM z hs h kt kg A B ws D)/\Ev3 λpt pg ps=>Px z hs kt kg pt pg ps/\0<pay h pt/\P7 h pg ps*B=A*pay h pt
def jf(z:aC)(hs:List i8)(h:i8)(kt kg:Nat)(A B:Int):Prop:=0<B/\(Ev2 λws D=>RN z hs h kt kg A B ws D)/\Ev3 λpt pg ps=>Px z hs kt kg pt pg ps/\0<x8 h.2 pg/\A*x8 h.2 pg=(pay h pt-ps)*B
theorem fo.le(hz:O4 z)(I:fo z hs h kt kg A B)(hk:∀g∈hs,g.1.length=kt/\g.2.length=kg)(h1:h.1.length=kt)(h2:h.2.length=kg)(hB:0<B')(S:RM z hs h kt kg A' B' ws D):A*B'<=A'*B:=by
 obtain⟨b,_,pt,pg,ps,P,pp,e⟩:=I;refine mW ?_ pp;have x:=fH (S.weak hz P hk h1 h2 hB) (cC b);have y1:P7 h pg ps*B'*B=P7 h pg ps*B*B':=by ac_rfl
 rw[y1,e] at x;have y2:A*pay h pt*B'=A*B'*pay h pt:=by ac_rfl
 lia
theorem fo.eq(hz:O4 z)(I:fo z hs h kt kg A B)(J:fo z hs h kt kg A' B')(hk:∀g∈hs,g.1.length=kt/\g.2.length=kg)(h1:h.1.length=kt)(h2:h.2.length=kg):A*B'=A'*B:=by
 obtain⟨_,⟨ws,D,S⟩,_⟩:=id J;obtain⟨_,⟨ws',D',S'⟩,_⟩:=id I;have a:=I.le hz hk h1 h2 J.1 S;have b:=J.le hz hk h1 h2 I.1 S';lia
theorem sj.is(hz:O4 z)(B:sj z hs h S)(hG:∀g∈hs,HG br kt kg g)(gh:HG br kt kg h)(ij:1<=kt)(wx:kt<=20)(wy:kg<=20):fo z hs h kt kg (S.T (mE hs) (qE z h)) S.d:=by
 have T:=a9H hz B hG gh ij wx wy;have dp:=B.1.w.pos;exact⟨dp,⟨_,_,⟨T.lw,λx hx=>(T.nn x hx).1,dp,T.size⟩,λj hj=>(fH (T.takes j hj) (cC dp)),T.gives⟩,_,_,_,⟨T.pr.lt,T.pr.lg,λx hx=>(T.pr.bt x hx).1,λx hx=>(T.pr.bg x hx).1,T.sign,T.ja⟩,by rw[T.pays];exact dp,by rw[T.pays,T.BQ]⟩
def ik(z:aC)(hs:List i8)(h:i8)(kt kg:Nat):Prop:=Ev3 λpt pg ps=>Px z hs kt kg pt pg ps/\pay h pt<=0/\0<P7 h pg ps
theorem a3m:∀{l p}m,l.length=p.length->(∀x∈l,1<=x)->(∀x∈p,0<=x)->x8 l p<=0->x8 m p=0
 |[],[],m,_,_,_,_=>by rw[T8];simp[x8]
 |a::l,b::p,m,hl,h1,h2,h=>by
  rw[J1] at h;have nn:0<=x8 l p:=by
   have:∀l p,(∀x∈l,1<=x)->(∀x∈p,0<=x)->0<=x8 l p:=λl=>by
    induction l with
    |nil=>intro p _ _;simp[x8]
    |cons a r ih =>
     intro p h1 h2
     cases p with
     |nil=>simp[x8]
     |cons b p =>
      rw[J1];have:=ih p (λx hx=>h1 x (.tail _ hx)) λx hx=>h2 x (.tail _ hx);have:=eO (show 0<=a by have:=h1 a (.head _);lia) (h2 b (.head _));lia
   exact this _ _ (λx hx=>h1 x (.tail _ hx)) λx hx=>h2 x (.tail _ hx)
  have hb:=h2 b (.head _);have yh:=fH (h1 a (.head _)) hb;have b0:b=0:=by lia
  subst b0
  cases m with
  |nil=>simp[x8]
  |cons c m =>
   rw[J1,a3m m (by simp_all) (λx hx=>h1 x (.tail _ hx)) (λx hx=>h2 x (.tail _ hx)) (by lia)];lia
 |[],_::_,_,h,_,_,_=>by simp at h
 |_::_,[],_,h,_,_,_=>by simp at h
theorem none_of(hz:O4 z)(O:OE z hs h S)(hc:c<qE z h)(neg:S.T (mE hs) c<0)(no:∀i,i<mE hs->¬0<S.T i c)(hG:∀g∈hs,HG br kt kg g)(gh:HG br kt kg h):ik z hs h kt kg:=by
 obtain⟨y,yn,rows,goal⟩:=O.way hc neg no;have hq:qE z h=h.1.length+h.2.length+(K5 z).length:=rfl;have hk:∀g∈hs,g.1.length=h.1.length/\g.2.length=h.2.length:=λg hg=>⟨(hG g hg).lt.trans gh.lt.symm,(hG g hg).lg.trans gh.lg.symm⟩;have lx:((aW (qE z h)).map y).length=qE z h:=by simp
 have sd:∀l:List Int,l.length=qE z h->Lp.sumTo (λj=>l.getD j 0*y j) (qE z h)=x8 l ((aW (qE z h)).map y):=λl hl=>by
  rw[<-M9 _ l _ hl lx];exact Lp.aj λj hj=>by rw[Ku hj]
 have xn:∀x∈(aW (qE z h)).map y,0<=x:=λx hx=>by
  obtain⟨j,hj,rfl⟩:=aY.mp hx;exact yn j (fF.mp hj)
 have ja:∀g∈hs,P7 g (o_ h ((aW (qE z h)).map y)) (pe z h ((aW (qE z h)).map y))<=pay g (oz h ((aW (qE z h)).map y)):=λg hg=>by
  obtain⟨k,i_⟩:=iL hg;have iw:=(cA.mp i_).1;have hr:(G3 z hs h)[k]?=some (A7 z g):=by
   unfold G3;rw[dH (by grind),aP,i_];rfl
  have r:=rows k (by lia);rw[show(λj=>Y8 (G3 z hs h) k j*y j)=λj=>(A7 z g).getD j 0*y j from funext λj=>by rw[T3 hr],sd _ (by unfold A7;simp[(hk g hg).1,(hk g hg).2];lia),Rx (hk g hg).1 (hk g hg).2] at r;lia
 have hr:(G3 z hs h)[hs.length]?=some (Q5 z h):=by
  unfold G3;rw[dU (by simp),aH,gL];rfl
 have pd:=rows hs.length (by lia);rw[show(λj=>Y8 (G3 z hs h) hs.length j*y j)=λj=>(Q5 z h).getD j 0*y j from funext λj=>by rw[T3 hr],sd _ (by unfold Q5;simp;lia),a7H] at pd;have gl:0<x8 (P3 z h) ((aW (qE z h)).map y):=by
  rw[<-sd _ (by unfold P3;simp;lia)];exact goal
 rw[a7q] at gl;refine⟨_,_,_,⟨?_,?_,λx hx=>xn x (fV hx),λx hx=>xn x (fK (fV hx)),Ry hz λx hx=>xn x (fK hx),ja⟩,pd,gl⟩
 ·rw[cI,lx]
  have:=gh.lt
  lia
 ·rw[cI,eJ,lx]
  have:=gh.lg
  lia
theorem ik.no(hz:O4 z)(N:ik z hs h kt kg)(hk:∀g∈hs,g.1.length=kt/\g.2.length=kg)(gh:HG br kt kg h)(M:Mx z hs ws D)(g:∀j,j<kg->h.2.getD j 0*D<=L8 hs ws 1 j):False:=by
 obtain⟨pt,pg,ps,P,p0,e0⟩:=N;have L:=XC hz M P hk;have z0:=a3m ((aW kt).map λj=>L8 hs ws 0 j) (by rw[gh.lt,P.lt]) (λx hx=>(gh.t x hx).1) P.tn p0;rw[z0] at L;have a1:x8 h.2 pg*D<=x8 ((aW kg).map λj=>L8 hs ws 1 j) pg:=by
  rw[<-P0];refine X5 (by simp[gh.lg]) P.gn λj hj=>?_;have om:j<kg:=by simpa[gh.lg] using hj
  rw[XD om,bA,aP,aS (gh.lg▸om)];have:=g j om;rw[bA,aS (gh.lg▸om)] at this;exact this
 have e1:P7 h pg ps=x8 h.2 pg+ps:=rfl;have:0<P7 h pg ps*D:=gJ e0 M.d;rw[e1,fG] at this;lia
theorem ik.yo(hz:O4 z)(N:ik z hs h kt kg)(hk:∀g∈hs,g.1.length=kt/\g.2.length=kg)(gh:HG br kt kg h)(I:fo z hs h kt kg A B):False:=by
 obtain⟨_,⟨ws,D,S⟩,_⟩:=I;exact N.no hz hk gh S.m S.g
def XE:fu X l λ_ _ _=>False:=λ_ _ _ _ _ _ h=>h.elim
structure ShU(z:aC)(hs:List i8)(h:i8)(kt kg:Nat)(A B:Int):Prop where
 s:fo z hs h kt kg A B
 a:fh 20000 A
 p:0<A
 b:0<B
 c:B<2^8000
theorem sj.u(hz:O4 z)(B:sj z hs h S)(hG:∀g∈hs,HG br kt kg g)(gh:HG br kt kg h)(ij:1<=kt)(wx:kt<=20)(wy:kg<=20):ShU z hs h kt kg (S.T (mE hs) (qE z h)) S.d:=by
 obtain⟨b1,b2⟩:=a9r B;exact⟨B.is hz hG gh ij wx wy,(B.2.2.1 _ _ (by lia) (by lia)).mono (by decide),(a9H hz B hG gh ij wx wy).pos,b1,b2⟩
def ShU.fr(hz:O4 z)(x:ShU z hs h kt kg A B)(y:fo z hs h kt kg A' B')(hG:∀g∈hs,HG br kt kg g)(gh:HG br kt kg h):Fr.low A B=Fr.low A' B' :=
 b1V x.b y.1 (x.s.eq hz y (λg hg=>⟨(hG g hg).lt,(hG g hg).lg⟩) gh.lt gh.lg)
def S8{α:Type}(l:List α)(i:Nat):List α:=l.take i++l.drop (i+1)
theorem XF(h:g∈S8 l i):g∈l:=by
 rcases bJ.mp h with h|h
 ·exact fV h
 ·exact fK h
theorem b3A:(S8 l i).length<=l.length:=by unfold S8;simp;lia
theorem aZ.take:∀{l₁}{gi:List β}i,bR F l₁ gi->bR F (l₁.take i) (gi.take i)
 |_,_,0,_=>.nil
 |_,_,_+1,.nil=>.nil
 |_,_,i+1,.cons r t=>.cons r (aZ.take i t)
theorem aZ.drop:∀{l₁}{gi:List β}i,bR F l₁ gi->bR F (l₁.drop i) (gi.drop i)
 |_,_,0,h=>h
 |_,_,_+1,.nil=>.nil
 |_,_,i+1,.cons _ t=>aZ.drop i t
theorem aZ.app:∀{l₁ m₁}{gi m₂:List β},bR F l₁ gi->bR F m₁ m₂->bR F (l₁++m₁) (gi++m₂)
 |_,_,_,_,.nil,h=>h
 |_,_,_,_,.cons r t,h=>.cons r (aZ.app t h)
def Bk.out i(B:Bk K H xs hs):Bk K H (S8 xs i) (S8 hs i):=aZ.app (aZ.take i B) (aZ.drop (i+1) B)
inductive d1L(K:aF)(Pt:aA)(vs:List V)(H:Hp)(Q:VK)(z3_:XK):Prop|mk:∀ba hv xs hs h z br kt kg,vs=[.ref ba,hv,.str z]->O4 z->O6 K H ba xs hs br kt kg->1<=kt->HS K H hv h->HG br kt kg h->LT Pt H->(∀A B H' u,ShU z hs h kt kg A B->bj Pt H H'->LT Pt H'->Ex H' u (low A B)->Q u H')->(∀H',ik z hs h kt kg->bj Pt H H'->LT Pt H'->Q .non H')->d1L K Pt vs H Q z3_
theorem d0H(F:bf P w K mg base J8 n f fd ["houses","house","sizes"] (Ru K Pt)):bf P w K mg base J8 n f fd ["houses","house","sizes"] (d1L K Pt):=F.imp λvs H Q E h=>by
 obtain⟨ba,hv,xs,hs,h,z,br,kt,kg,rfl,hz,B,ij,hH,gh,L,kG,kN⟩:=h;exact⟨ba,hv,xs,hs,h,z,br,kt,kg,rfl,hz,B,hH,gh,L,λS H' u Bs e L' hu=>kG _ _ H' u (Bs.u hz B.g gh ij B.t B.k) e L' hu,λS H' c O hc gs AB e L'=>kN H' (none_of hz O hc gs AB B.g gh) e L'⟩
inductive d0z(K:aF)(CN Pt:aA)(vs:List V)(H:Hp)(Q:VK)(E:XK):Prop|mk:∀(ba:aA)(xs:List V)(hs:List i8)(number:Int)(z:aC)(br:Int)(kt kg:Nat),vs=[.ref ba,.int number,.str z]->O4 z->O6 K H ba xs hs br kt kg->1<=kt->number.natAbs.log2<1920->LT Pt H->(∀(i:Nat)h A B H' u,number=(i:Int)->hs[i]?=some h->ShU z hs h kt kg A B->bj Pt H H'->LT Pt H'->Ex H' u (low A B)->Q u H')->(¬AA xs.length number->E (.ref CN) none H)->d0z K CN Pt vs H Q E
theorem c8n(F:bf P w K mg base (W2 P w) n f fd ["book","number","sizes"] (OI K CN Pt)):bf P w K mg base (W2 P w) n f fd ["book","number","sizes"] (d0z K CN Pt):=F.imp λvs H Q E h=>by
 obtain⟨ba,xs,hs,number,z,br,kt,kg,rfl,hz,B,ij,lm,L,kG,kE⟩:=h;exact⟨ba,xs,hs,number,z,br,kt,kg,rfl,hz,B,lm,L,λi h S H' u hi hh Bs e L' hu=>kG i h _ _ H' u hi hh (Bs.u hz B.g (B.g h (bK hh)) ij B.t B.k) e L' hu,kE⟩
inductive XG(K:aF)(CN:aA)(vs:List V)(H:Hp)(Q:VK)(E:XK):Prop|mk:∀a xs m,vs=[.ref a,.int m]->ah K H a xs->xs.length<=1000->m.natAbs.log2<1920->(∀(i:Nat)l H',m=(i:Int)->i<xs.length->af H H'->H l=none->H' l=some (.lst (S8 xs i))->Q (.ref l) H')->(¬AA xs.length m->E (.ref CN) none H)->XG K CN vs H Q E
def c0U:p7 ["houses","number"] ["houses","number"] (i9 VH):={}
theorem a8I(F:Aj K "without" VH f fd)(Ch:vn P w K mg base n "house_of" ["book","number"] (OA K CN) f1 d1):bf P w K mg base (W2 P w) (n+1) f fd ["houses","number"] (XG K CN):=by
 refine F.ob c0U λay A outer s H vs Q E hr h=>?_
 obtain⟨a,xs,m,rfl,hS,hl,hm,q,hE⟩:=h;refine⟨_,j0 (R3 (l7 Ch.ok hr rfl Ch.m Ch.k Ch.b .nil V5 (c6 (pv 0) (c6 (pv 1) c7))))
  (fu.oi (j4 (o4 (j8 B9 (B7 M0 (pv 0) G1 (B8 (pv 1))) (B7 M0 (pv 0) (B8 (j8 D4 (pv 1) d0)) G1))))),?_⟩
 refine⟨_,rfl,_,rfl,a,xs,m,rfl,hS,hm,λi x hi hx=>?_,hE⟩;subst hi;have nj:=(cA.mp hx).1;refine⟨_,rfl,_,rfl,_,rfl,a,_,rfl,hS,λa1 h1=>?_⟩;rw[NS _ _ (by lia)];have s1:=af.new h1 (.lst (xs.take i));refine⟨_,rfl,_,rfl,_,_,rfl,rfl,_,rfl,a,_,rfl,s1.seq hS,λa2 h2=>?_⟩;rw[show((i:Int)+1)=((i+1:Nat):Int) by lia,NT _ _ (by lia)];have s2:=af.new h2 (.lst (xs.drop (i+1)));refine⟨a1,a2,_,_,rfl,rfl,s2 _ _ ae,ae,?_,λp hp=>?_⟩
 ·have:=t9 (show(1000:Nat)<=1000 from aT _)
  simp;lia
 refine q i p _ rfl nj ((s1.trans s2).trans (af.new hp (.lst (xs.take i++xs.drop (i+1))))) ?_ ae
 cases e:H p with
 |none=>rfl
 |some o=>rw[s2 _ _ (s1 _ _ e)] at hp;cases hp
inductive c8a(K:aF)(CN Pt:aA)(vs:List V)(H:Hp)(Q:VK)(E:XK):Prop|mk:∀ba xs hs number z br kt kg,vs=[.ref ba,.int number,.str z]->O4 z->O6 K H ba xs hs br kt kg->1<=kt->number.natAbs.log2<1920->LT Pt H->(∀(i:Nat)h A B H' u,number=(i:Int)->hs[i]?=some h->ShU z (S8 hs i) h kt kg A B->bj Pt H H'->LT Pt H'->Ex H' u (low A B)->Q u H')->(∀(i:Nat)h H',number=(i:Int)->hs[i]?=some h->ik z (S8 hs i) h kt kg->bj Pt H H'->LT Pt H'->Q .non H')->(¬AA xs.length number->E (.ref CN) none H)->c8a K CN Pt vs H Q E
def OU:p7 ["book","number","sizes","house"] ["book","number","sizes"] (i9 VI):={}
theorem c9V(F:Aj K "share_of_others" VI f fd)(Ch:vn P w K mg base n "house_of" ["book","number"] (OA K CN) f1 d1)(Cw:vn P w K mg base n "without" ["houses","number"] (XG K CN) f2 d2)
  (Ce:C9 P w K mg base n "held_against" ["houses","house","sizes"] (Ru K Pt) f3 d3):bf P w K mg base (W2 P w) (n+1) f fd ["book","number","sizes"] (c8a K CN Pt):=by
 refine F.ob OU λay A outer s H vs Q E hr h=>?_
 obtain⟨ba,xs,hs,number,z,br,kt,kg,rfl,hz,B,ij,lm,L,kG,kN,kE⟩:=h;refine⟨_,j0 (r6 (i:=3) OU.nd rfl (aI rfl) (l7 Ch.ok hr rfl Ch.m Ch.k Ch.b .nil V5 (c6 (pv 0) (c6 (pv 1) c7))))
  (j4 (o4 (l7 (d0H Ce.ok) hr rfl Ce.m Ce.k Ce.b .nil v6 (c6 (l7 Cw.ok hr rfl Cw.m Cw.k Cw.b .nil V5 (c6 (pv 0) (c6 (pv 1) c7))) (c6 (pv 3) (c6 (pv 2) c7)))))),?_⟩
 have xl:xs.length=hs.length:=dE B.b;have few:=B.few;refine⟨_,rfl,_,rfl,ba,xs,number,rfl,B.l,lm,λi hv hi hx=>?_,kE⟩;obtain⟨h,hh,hH⟩:=aZ.at B.b hx;have nj:=(cA.mp hx).1;refine⟨_,rfl,_,rfl,ba,xs,number,rfl,B.l,by lia,lm,λi' l H1 Ek _ e1 hl jl=>?_,λbad=>absurd ⟨by lia,by lia⟩ bad⟩;have:i'=i:=by lia
 subst this;refine⟨_,rfl,_,rfl,l,hv,_,S8 hs i',h,z,br,kt,kg,rfl,hz,⟨ah.of jl,Bk.same e1 (B.b.out i'),λg hg=>B.g g (XF hg),B.br,bF b3A few,B.t,B.k⟩,ij,hH.same e1,B.g h (bK hh),L.same e1,λA B H' u x e' L' hu=>kG i' h A B H' u hi hh x (e1.ka.trans e') L' hu,λH' x e' L'=>kN i' h H' hi hh x (e1.ka.trans e') L'⟩
end Rim
namespace L2
open PySem PySem.Spec PyProof.Rows
theorem d1n{prog:aM}{w:aL}{A:aV}{E:aE->aG->Prop}{s:aG}{c:aE}{Q:Bool->aG->Prop}(h:∀b,Q b s):wpAny (model prog w) A (Ps c) Q E s:=by
 unfold Ps;exact aN (wpAny_stack_any λst=>bG (h _))
end L2
set_option maxHeartbeats 1000000
namespace L2
open PySem PySem.Spec PyProof.Rows
abbrev Y0(h:aJ)(z ti to:aA)(f0:aE)(f1:Bool):Prop :=
 h.get? z=some {cls:=.type "zip",dict:=none,data:=.fields #[f0,.bool f1,.bool false,.ref ti,.ref to],slots:=#[]}
def Zf_(v:aE):Prop:=v=.none\/∃a:Nat,v=rawInt a
theorem c8N(h:Q (s.heap.get? a) s):wpAny (model prog w) A (loadIfAlive a) Q E s:=λΓ p _=>by
 show Sem.wp (model prog w) Γ (.loadIfAlive a .pure) _ _ p s
 rw[Sem.wp_loadIfAlive];exact h
theorem c9n(q0:Y0 s.heap z ti to f0 f1)(z0:Zf_ f0)(h1:Q true s)(h2:∀h',Y0 h' z ti to f0 true->kH z s.heap h'->Q false {s with heap:=h'}) :
  wpAny (model prog w) A (oR (.ref z)) Q E s:=by
 unfold oR;refine aN (gA q0 rfl rfl ?_);rcases z0 with rfl|⟨a,rfl⟩
 ·exact bG h1
 ·show wpAny _ _ (loadIfAlive (a:Int).toNat >>= _) _ _ s
  refine aN (c8N ?_)
  cases hg:s.heap.get? (a:Int).toNat with
  |none=>exact bG h1
  |some o =>
   refine aN (gA q0 rfl rfl ?_)
   cases f1 with
   |true=>exact bG (h2 s.heap q0 ⟨rfl,λ_ _=>rfl⟩)
   |false =>
    exact aN (kU q0 (by simp) λu1 z1 s1=>bG (h2 u1 z1 s1))
theorem d1J{Q:aE->aG->Prop}(D:jO z ti to j1 j2 t1 t2)
  (q0:Y0 s.heap z ti to f0 f1) (z0:Zf_ f0) (p1:dN s.heap ti (.ref j1) (.ref j2)) (p2:dN s.heap to a b)
  (i1:g_ b1 s.heap j1 t1 k1) (i2:g_ b2 s.heap j2 t2 k2) (l1:gz b1 s.heap t1 xs) (l2:gz b2 s.heap t2 ys) (ex:xs[k1]?=some x) (ey:ys[k2]?=some y)
  (q:∀h' f0' f1' a' b',Y0 h' z ti to f0' f1'->Zf_ f0'->dN h' to a' b'->g_ b1 h' j1 t1 (k1+1)->g_ b2 h' j2 t2 (k2+1)->dN h' s.heap.objs.size x y->h'.objs.size=s.heap.objs.size+1 →
   (∀c o,c≠z->c≠to->c≠j1->c≠j2->s.heap.get? c=some o->h'.get? c=some o)->Q (.ref s.heap.objs.size) {s with heap:=h'}) :
  wpAny (model prog w) A (iH.«zip.__next__» ⟨[.ref z],[]⟩) (λfin s'=>∃v,fin=.done (.ret v)/\Q v s') E s:=by
 show wpAny _ _ (field (.ref z) 2 >>= _) _ _ _
 refine aN (gA q0 rfl rfl (show wpAny _ _ (field (.ref z) 3 >>= _) _ _ _ from aN (gA q0 rfl rfl (aN (gX p1 rfl ?_)))))
 show wpAny _ _ (do let free <- oR (.ref z);_) _ _ _
 refine aN (c9n q0 z0 ?_ λv1 z1 s1=>?_)
 ·simp only[if_true]
  refine aN (lR (aN (gA q0 rfl rfl (aN (kU q0 (by simp) λu1 z1 s1=>(aN (aN (aN (mV (show wpAny _ _ (gH (.ref j1) >>= _) _ _ _ from aN (UN (i1.extBut s1.extBut D.i1z) (l1.extBut s1.extBut D.l1z) ex λu2 j1' s2=>bG ?_)))))))))));have to2:=s2.extBut _ _ D.TOi1 (s1.extBut _ _ D.TOz p2);refine aN (gX to2 rfl (aN (rS to2 λu3 to3 s3=>aN (jR (bG ?_)))));refine aN (aN (mV (show wpAny _ _ (gH (.ref j2) >>= _) _ _ _ from aN (UN (((i2.extBut s1.extBut D.i2z).extBut s2.extBut D.i12.symm).extBut s3.extBut D.TOi2.symm)
   (((l2.extBut s1.extBut D.l2z).extBut s2.extBut D.l2i1).extBut s3.extBut D.l2TO) ey λu4 j2' s4=>bG ?_))))
  have to4:dN u4 to x b:=s4.extBut _ _ D.TOi2 to3;refine aN (gX to4 rfl (aN (rS to4 λu5 to5 s5=>aN (jR (bG (bG ?_))))));have NI:dN u5 to x y:=to5;refine aN (gX NI rfl (aN (wpAny_newTuple ?_)));have sz:u5.objs.size=s.heap.objs.size:=by rw[s5.1,s4.1,s3.1,s2.1,s1.1]
  have z5:Y0 u5 z ti to .ellipsis f1:=s5.extBut _ _ D.TOz.symm (s4.extBut _ _ D.i2z.symm (s3.extBut _ _ D.TOz.symm (s2.extBut _ _ D.i1z.symm z1)));have kp:∀c o,c≠z->c≠to->c≠j1->c≠j2->s.heap.get? c=some o->u5.get? c=some o:=λc o n1 n2 n3 n4 e=>s5.extBut _ _ n2 (s4.extBut _ _ n4 (s3.extBut _ _ n2 (s2.extBut _ _ n3 (s1.extBut _ _ n1 e))));have zl:z<u5.objs.size:=bN z5
  show wpAny _ _ (do let r <- vZ (.ref z) (.ref u5.objs.size);_) _ _ _
  unfold vZ;have z6:Y0 (u5.push {cls:=.type "tuple",data:=.seq #[x,y]}) z ti to .ellipsis f1:=bL _ z5;refine aN (aN (kU z6 (by simp) λu7 z7 s7=>(kU z7 (by simp) λu8 z8 s8=>?_)));have z8':Y0 u8 z ti to (rawInt u5.objs.size) false:=z8;have up:∀c o,c≠z->u5.get? c=some o->u8.get? c=some o:=λc o n1 e=>s8.extBut _ _ n1 (s7.extBut _ _ n1 (bL _ e));have nt8:dN u8 u5.objs.size x y:=s8.extBut _ _ (gR zl) (s7.extBut _ _ (gR zl) (dG _ rfl));have sz8:u8.objs.size=s.heap.objs.size+1:=by rw[s8.1,s7.1,gS,sz]
  rw[sz] at z8' nt8;refine bG ⟨_,rfl,?_⟩
  show Q (.ref u5.objs.size) _
  rw[sz];exact q u8 _ _ _ _ z8' (.inr ⟨_,rfl⟩) (up _ _ D.TOz NI) (g_.at' (((j1'.extBut s3.extBut D.TOi1.symm).extBut s4.extBut D.i12).extBut s5.extBut D.TOi1.symm) λo e=>up _ o D.i1z e) (g_.at' (j2'.extBut s5.extBut D.TOi2.symm) λo e=>up _ o D.i2z e) nt8 sz8 λc o n1 n2 n3 n4 e=>up c o n1 (kp c o n1 n2 n3 n4 e)
 ·simp only[uT,if_false]
  rw[hX];simp only[oA,qZ];refine aN (aN (aN (iP (show wpAny _ _ (gH (.ref j1) >>= _) _ _ _ from aN (UN (i1.extBut s1.extBut D.i1z) (l1.extBut s1.extBut D.l1z) ex λu2 j1' s2=>bG (bG (aN (aN (iP (show wpAny _ _ (gH (.ref j2) >>= _) _ _ _ from aN (UN ((i2.extBut s1.extBut D.i2z).extBut s2.extBut D.i12.symm) ((l2.extBut s1.extBut D.l2z).extBut s2.extBut D.l2i1) ey λu3 j2' s3=>bG (bG (bG (aN (wpAny_newTuple ?_ (by show 2<=sizeLine;decide))))))))))))))));have sz:u3.objs.size=s.heap.objs.size:=by rw[s3.1,s2.1,s1.1]
  have kp:∀c o,c≠z->c≠j1->c≠j2->s.heap.get? c=some o->u3.get? c=some o:=λc o n1 n3 n4 e=>s3.extBut _ _ n4 (s2.extBut _ _ n3 (s1.extBut _ _ n1 e));have up:∀c o,u3.get? c=some o->(u3.push {cls:=.type "tuple",data:=.seq #[x,y]}).get? c=some o:=λc o e=>bL _ e;have nt:dN (u3.push {cls:=.type "tuple",data:=.seq #[x,y]}) s.heap.objs.size x y:=by rw[<-sz];exact dG _ rfl
  have sz8:(u3.push {cls:=.type "tuple",data:=.seq #[x,y]}).objs.size=s.heap.objs.size+1:=by rw[gS,sz]
  refine bG ⟨_,rfl,?_⟩
  show Q (.ref u3.objs.size) _
  rw[sz];exact q _ f0 true a b (up _ _ (s3.extBut _ _ D.i2z.symm (s2.extBut _ _ D.i1z.symm z1))) z0 (up _ _ (kp _ _ D.TOz D.TOi1 D.TOi2 p2)) (g_.at' (j1'.extBut s3.extBut D.i12) λo e=>up _ o e) (g_.at' j2' λo e=>up _ o e) nt sz8 λc o n1 _ n3 n4 e=>up _ _ (kp c o n1 n3 n4 e)
theorem d2o(hh:A.handled=none)(D:jO z ti to j1 j2 t1 t2)
  (q0:Y0 s.heap z ti to f0 f1) (z0:Zf_ f0) (p1:dN s.heap ti (.ref j1) (.ref j2)) (p2:dN s.heap to a b)
  (i1:g_ b1 s.heap j1 t1 k1) (i2:g_ b2 s.heap j2 t2 k2) (l1:gz b1 s.heap t1 xs) (l2:gz b2 s.heap t2 ys) (en:xs[k1]?=none\/ys[k2]?=none)
  (q:∀h' e,(∀c o,c≠z->c≠to->c≠j1->c≠j2->s.heap.get? c=some o->h'.get? c=some o)->(∃o,h'.get? e=some o/\o.cls=.type "StopIteration")->E (.ref e) {s with heap:=h'}) :
  wpAny (model prog w) A (iH.«zip.__next__» ⟨[.ref z],[]⟩) Q E s:=by
 show wpAny _ _ (field (.ref z) 2 >>= _) _ _ _
 refine aN (gA q0 rfl rfl (show wpAny _ _ (field (.ref z) 3 >>= _) _ _ _ from aN (gA q0 rfl rfl (aN (gX p1 rfl ?_)))))
 show wpAny _ _ (do let free <- oR (.ref z);_) _ _ _
 refine aN (c9n q0 z0 ?_ λv1 z1 s1=>?_)
 ·simp only[if_true]
  refine aN (lR (aN (gA q0 rfl rfl (aN (kU q0 (by simp) λu1 z1 s1=>?_)))));have Qy:=z1;refine aN ?_
  cases ex:xs[k1]? with
  |none =>
   refine aN (aN (mV (show wpAny _ _ (gH (.ref j1) >>= _) _ _ _ from aN (a9l hh (i1.extBut s1.extBut D.i1z) (l1.extBut s1.extBut D.l1z) ex λu2 e s2 ⟨oe,e1,e2⟩=>?_))));have z2:Y0 u2 z ti to .ellipsis f1:=s2 _ _ D.i1z.symm Qy;have ne:e≠z:=λc=>by subst c;rw[z2] at e1;cases e1;simp at e2
   exact kU z2 (by simp) λu3 _ s3=>q u3 e (λc o n1 _ n3 _ m=>s3.extBut _ _ n1 (s2 _ _ n3 (s1.extBut _ _ n1 m))) ⟨oe,s3.extBut _ _ ne e1,e2⟩
  |some x =>
   have ey:ys[k2]?=none:=by
    rcases en with m|m
    ·rw[ex] at m;cases m
    ·exact m
   refine aN (aN (mV (show wpAny _ _ (gH (.ref j1) >>= _) _ _ _ from aN (UN (i1.extBut s1.extBut D.i1z) (l1.extBut s1.extBut D.l1z) ex λu2 j1' s2=>bG ?_))));have to2:dN u2 to a b:=s2.extBut _ _ D.TOi1 (s1.extBut _ _ D.TOz p2);refine aN (gX to2 rfl (aN (rS to2 λu3 to3 s3=>aN (jR (bG ?_)))));refine aN (aN (mV (show wpAny _ _ (gH (.ref j2) >>= _) _ _ _ from aN (a9l hh (((i2.extBut s1.extBut D.i2z).extBut s2.extBut D.i12.symm).extBut s3.extBut D.TOi2.symm)
    (((l2.extBut s1.extBut D.l2z).extBut s2.extBut D.l2i1).extBut s3.extBut D.l2TO) ey λu4 e s4 ⟨oe,e1,e2⟩=>?_))))
   have z4:Y0 u4 z ti to .ellipsis f1:=s4 _ _ D.i2z.symm (s3.extBut _ _ D.TOz.symm (s2.extBut _ _ D.i1z.symm Qy));have ne:e≠z:=λc=>by subst c;rw[z4] at e1;cases e1;simp at e2
   exact kU z4 (by simp) λu5 _ s5=>q u5 e (λc o n1 n2 n3 n4 m=>s5.extBut _ _ n1 (s4 _ _ n4 (s3.extBut _ _ n2 (s2.extBut _ _ n3 (s1.extBut _ _ n1 m))))) ⟨oe,s5.extBut _ _ ne e1,e2⟩
 ·simp only[uT,if_false]
  rw[hX];simp only[oA,qZ]
  cases ex:xs[k1]? with
  |none =>
   exact aN (aN (aN (iP (show wpAny _ _ (gH (.ref j1) >>= _) _ _ _ from aN (a9l hh (i1.extBut s1.extBut D.i1z) (l1.extBut s1.extBut D.l1z) ex λu2 e s2 r=>q u2 e (λc o n1 _ n3 _ m=>s2 _ _ n3 (s1.extBut _ _ n1 m)) r)))))
  |some x =>
   have ey:ys[k2]?=none:=by
    rcases en with m|m
    ·rw[ex] at m;cases m
    ·exact m
   exact aN (aN (aN (iP (show wpAny _ _ (gH (.ref j1) >>= _) _ _ _ from aN (UN (i1.extBut s1.extBut D.i1z) (l1.extBut s1.extBut D.l1z) ex λu2 j1' s2=>bG (bG (aN (aN (iP (show wpAny _ _ (gH (.ref j2) >>= _) _ _ _ from aN (a9l hh ((i2.extBut s1.extBut D.i2z).extBut s2.extBut D.i12.symm) ((l2.extBut s1.extBut D.l2z).extBut s2.extBut D.l2i1) ey λu3 e s3 r=>q u3 e (λc o n1 _ n3 n4 m=>s3 _ _ n4 (s2.extBut _ _ n3 (s1.extBut _ _ n1 m))) r)))))))))))
theorem d1u(D:jO z ti to j1 j2 t1 t2)
  (q0:Y0 s.heap z ti to f0 f1) (z0:Zf_ f0) (p1:dN s.heap ti (.ref j1) (.ref j2)) (p2:dN s.heap to a b)
  (i1:g_ b1 s.heap j1 t1 k1) (i2:g_ b2 s.heap j2 t2 k2) (l1:gz b1 s.heap t1 xs) (l2:gz b2 s.heap t2 ys) (ex:xs[k1]?=some x) (ey:ys[k2]?=some y)
  (q:∀h' f0' f1' a' b',Y0 h' z ti to f0' f1'->Zf_ f0'->dN h' to a' b'->g_ b1 h' j1 t1 (k1+1)->g_ b2 h' j2 t2 (k2+1)->dN h' s.heap.objs.size x y->h'.objs.size=s.heap.objs.size+1 →
   (∀c o,c≠z->c≠to->c≠j1->c≠j2->s.heap.get? c=some o->h'.get? c=some o)->Q (.ref s.heap.objs.size) {s with heap:=h'}) :
  wpAny (model prog w) A (gH (.ref z)) Q E s:=by
 have ty:s.TypeIs (.ref z) "zip":=⟨_,q0,rfl⟩;unfold gH;exact aN (oO ty oS (oQ oS ty wB
  (d1J D q0 z0 p1 p2 i1 i2 l1 l2 ex ey λh' f0' f1' a' b' c1 c2 c3 c4 c5 c6_ c7_ c8=>bG (q h' f0' f1' a' b' c1 c2 c3 c4 c5 c6_ c7_ c8)) (wC _)))
theorem d1A(hh:A.handled=none)(D:jO z ti to j1 j2 t1 t2)
  (q0:Y0 s.heap z ti to f0 f1) (z0:Zf_ f0) (p1:dN s.heap ti (.ref j1) (.ref j2)) (p2:dN s.heap to a b)
  (i1:g_ b1 s.heap j1 t1 k1) (i2:g_ b2 s.heap j2 t2 k2) (l1:gz b1 s.heap t1 xs) (l2:gz b2 s.heap t2 ys) (en:xs[k1]?=none\/ys[k2]?=none)
  (q:∀h' e,(∀c o,c≠z->c≠to->c≠j1->c≠j2->s.heap.get? c=some o->h'.get? c=some o)->(∃o,h'.get? e=some o/\o.cls=.type "StopIteration")->E (.ref e) {s with heap:=h'}) :
  wpAny (model prog w) A (gH (.ref z)) Q E s:=by
 have ty:s.TypeIs (.ref z) "zip":=⟨_,q0,rfl⟩;unfold gH;exact aN (oO ty oS (oQ oS ty wB
  (d2o hh D q0 z0 p1 p2 i1 i2 l1 l2 en q) (wC _)))
theorem d1M{i:Nat}{G:aE->aJ->Prop}(he:IsEnum s.heap e it i old)
  (hn:∀Q' E',(∀x h',IsEnum h' e it i old->G x h'->Q' x {s with heap:=h'})->wpAny (model prog w) A.in1 (gH (.ref it)) Q' E' s)
  (hQ:∀x h1 h' tk,G x h1->mH h' e it ((i:Int)+1) x h1.objs.size->h'.get? h1.objs.size=some {cls:=.type "tuple",data:=.seq #[.int i tk,x]}->(∀b o,b≠e->h1.get? b=some o->h'.get? b=some o)->Q (some (.ref h1.objs.size)) {s with heap:=h',toks:=tk+1}) :
  wpAny (model prog w) A (pyNext (.ref e)) Q E s:=by
 have hT:s.TypeIs (.ref e) "enumerate":=⟨_,he,rfl⟩;unfold pyNext;refine aN (wA (oO hT cL (oQ cL hT Re ?_ (Rs _))))
 show wpAny _ _ (field (.ref e) 2 >>= _) _ _ _
 refine aN (gA he rfl rfl (aN (hn _ _ λx h1 Yz g=>?_)));obtain⟨hp,gg,d,tk,os⟩:=s
 refine aN (gA Yz rfl rfl (aN (gA Yz rfl rfl (aN (wpAny_mkInt (aN (kU Yz (by simp) λh2 he2 s2=>?_)))))));have he2':=he2
 refine aN (kU he2' (by simp) λh3 he3 s3=>?_);have he3':=he3
 refine aN (wpAny_newTuple ?_);have he4:IsEnum (h3.push {cls:=.type "tuple",data:=.seq #[.int i tk,x]}) e it ((i:Int)+1) old:=bL _ he3';have sz:h3.objs.size=h1.objs.size:=by rw[s3.1,s2.1]
 have tt:(h3.push {cls:=.type "tuple",data:=.seq #[.int i tk,x]}).get? h1.objs.size=some {cls:=.type "tuple",data:=.seq #[.int i tk,x]}:=by rw[<-sz];exact dG _ rfl
 have kp:∀b o,b≠e->h1.get? b=some o->(h3.push {cls:=.type "tuple",data:=.seq #[.int i tk,x]}).get? b=some o:=λb o nb q=>bL _ (s3.extBut b o nb (s2.extBut b o nb q))
 rw[sz];generalize h3.push {cls:=.type "tuple",data:=.seq #[.int i tk,x]}=h4 at *;refine aN ?_;unfold oR;refine aN (gA he4 rfl rfl (bG (aN (lR (aN (gA he4 rfl rfl (aN (kU he4 (by simp) λh5 he5 s5=>?_))))))));have he5':=he5
 refine aN ?_;unfold vZ;refine aN (kU he5' (by simp) λh6 he6 s6=>(kU he6 (by simp) λh7 he7 s7=>?_));have up:=λb o nb q=>s7.extBut b o nb (s6.extBut b o nb (s5.extBut b o nb q));exact aN (jR (bG ⟨_,rfl,bG (hQ x h1 h7 tk g he7 (up _ _ (gR (bN Yz)) tt) λb o nb q=>up b o nb (kp b o nb q))⟩))
theorem d2f(he:IsEnum s.heap e it i old)
  (hn:∀Q' E',(∀h' x,(∃o,h'.get? x=some o/\o.cls=.type "StopIteration")->Q none {s with heap:=h'}->E' (.ref x) {s with heap:=h'})->wpAny (model prog w) A.in1 (gH (.ref it)) Q' E' s) :
  wpAny (model prog w) A (pyNext (.ref e)) Q E s:=by
 have hT:s.TypeIs (.ref e) "enumerate":=⟨_,he,rfl⟩;unfold pyNext;refine aN (wA (oO hT cL (oQ cL hT Re ?_ (Rs _))))
 show wpAny _ _ (field (.ref e) 2 >>= _) _ _ _
 exact aN (gA he rfl rfl (aN (hn _ _ λh' x ⟨o,ho,hc⟩ q=>(aN (wpAny_isInstance ⟨o,ho,hc⟩ isSubtype_stop (bG q))))))
def Itz(b1 b2:Bool)(K:aF)(l1 l2:aA):It :=
  ⟨(QD b1 b2 K l1 l2).go,
   λi H x H'=>Ev4 λp r a b=>H r=none/\(upd H r (.tup [a,b])) p=none/\x=.ref p/\H'=upd (upd H r (.tup [a,b])) p (.tup [.int (i:Int),.ref r])/\∀xs ys,xt b1 K H l1 xs->xt b2 K H l2 ys->xs[i]?=some a/\ys[i]?=some b,
   (QD b1 b2 K l1 l2).stop⟩
theorem d1P{b1 b2:Bool}{P:aM}{w:aL}{K:aF}{elts:List aR}{x1:Nat}{pos:Pos}{e z ti to j1 j2 l1 l2:aA}(D:jO z ti to j1 j2 l1 l2)(mm:∀c∈[z,ti,to,j1,j2,l1,l2],c≠e) :
  JF P w K (.Tuple elts x1 pos) (Itz b1 b2 K l1 l2) [e,z,ti,to,j1,j2] e (λi h=>(∃old,IsEnum h e z (i:Int) old)/\(Ev2 λf0 f1=>Y0 h z ti to f0 f1/\Zf_ f0)/\dN h ti (.ref j1) (.ref j2)/\(Ev2 λa b=>dN h to a b)/\g_ b1 h j1 l1 i/\g_ b2 h j2 l2 i) where
 mem:=by simp
 obj:=λi h st c hb=>by
  obtain⟨⟨old,he⟩,⟨f0,f1,hz,z0⟩,Hn,⟨a,b,IP⟩,h1,h2⟩:=st;obtain⟨o1,e1,v1,d1⟩:=h1.obj;obtain⟨o2,e2,v2,d2⟩:=h2.obj;simp only[bH,dJ,or_false] at hb;rcases hb with rfl|rfl|rfl|rfl|rfl|rfl
  ·exact⟨_,he,λv q=>by cases q⟩
  ·exact⟨_,hz,λv q=>by cases q⟩
  ·exact⟨_,Hn,λv q=>by cases q⟩
  ·exact⟨_,IP,λv q=>by cases q⟩
  ·exact⟨o1,e1,λv q=>by rw[d1] at q;cases q⟩
  ·exact⟨o2,e2,λv q=>by rw[d2] at q;cases q⟩
 keep:=λi h h' st k=>by
  obtain⟨⟨old,he⟩,⟨f0,f1,hz,z0⟩,Hn,⟨a,b,IP⟩,h1,h2⟩:=st;exact⟨⟨old,k e (by simp) _ he⟩,⟨f0,f1,k z (by simp) _ hz,z0⟩,k ti (by simp) _ Hn,⟨a,b,k to (by simp) _ IP⟩,g_.at' h1 λo q=>k j1 (by simp) o q,g_.at' h2 λo q=>k j2 (by simp) o q⟩
 item:=by
  intro X hP hw hK hc i pins s σ H E I hf st hg;subst hP hw hK;obtain⟨xs,ys,x,y,QE,QF,hx,hy⟩:=hg;obtain⟨⟨old,he⟩,⟨f0,f1,hz,z0⟩,Hn,⟨a,b,IP⟩,h1,h2⟩:=st;obtain⟨NJ,QG,p1,_⟩:=I.CG QE;obtain⟨Cy,QH,p2,_⟩:=I.CG QF;obtain⟨u1,hu1,UQ⟩:=QG.get hx;obtain⟨u2,hu2,UR⟩:=QH.get hy;have nE_:∀{c:aA},c∈[z,ti,to,j1,j2,l1,l2]->c≠e:=λhb=>mm _ hb;refine d1M (G:=λv h'=>v=.ref s.heap.objs.size/\(Ev2 λf0 f1=>Y0 h' z ti to f0 f1/\Zf_ f0)/\(Ev2 λa b=>dN h' to a b)/\g_ b1 h' j1 l1 (i+1)/\g_ b2 h' j2 l2 (i+1)/\dN h' s.heap.objs.size u1 u2/\h'.objs.size=s.heap.objs.size+1/\IsEnum h' e z i old/\
   ∀c o,c≠z->c≠to->c≠j1->c≠j2->s.heap.get? c=some o->h'.get? c=some o) he (λQ' E' k=>d1u D hz z0 Hn IP h1 h2 p1 p2 (by simpa using hu1) (by simpa using hu2) λh' f0' f1' a' b' c1 c2 c3 c4 c5 c6_ c7_ c8=>?_) ?_
  ·have he':=c8 e _ (nE_ (by simp)).symm (nE_ (by simp)).symm (nE_ (by simp)).symm (nE_ (by simp)).symm he
   exact k _ h' he' ⟨rfl,⟨f0',f1',c1,c2⟩,⟨a',b',c3⟩,c4,c5,c6_,c7_,he',c8⟩
  ·rintro v g1 h' tk ⟨rfl,⟨f0',f1',c1,c2⟩,⟨a',b',c3⟩,c4,c5,c6_,c7_,Yz,c8⟩ hout htup kp
   refine⟨_,rfl,wpAny_letOwnedTupleGo_enum hout λyg NM qe=>?_⟩;have inS:∀b∈[e,z,ti,to,j1,j2],∃o,s.heap.get? b=some o:=λb hb=>by
    obtain⟨o1,e1,_⟩:=h1.obj;obtain⟨o2,e2,_⟩:=h2.obj;simp only[bH,dJ,or_false] at hb;rcases hb with rfl|rfl|rfl|rfl|rfl|rfl
    ·exact⟨_,he⟩
    ·exact⟨_,hz⟩
    ·exact⟨_,Hn⟩
    ·exact⟨_,IP⟩
    ·exact⟨_,e1⟩
    ·exact⟨_,e2⟩
   have neT:∀b∈[e,z,ti,to,j1,j2],b≠s.heap.objs.size:=λb hb q=>by
    obtain⟨o,ho⟩:=inS b hb;exact absurd (bN ho) (q▸dO _)
   have gti:=c8 ti _ D.TIz D.TITO D.TIi1 D.TIi2 Hn;have I1:Inv X pins σ (upd H s.heap.objs.size (.tup [x,y])) {s with heap:=g1}:=by
    refine I.rz (h':=g1) (fp:=[e,z,ti,to,j1,j2]) hf (λc o hb q=>?_) (λc hb=>?_) (aT _) (by show 2<=sizeLine;decide) (show Vals [x,y] [u1,u2] from .cons UQ (.cons UR .nil)) ⟨_,c6_,rfl,0,rfl⟩
    ·simp only[bH,dJ,or_false,not_or] at hb
     exact c8 c o hb.2.1 hb.2.2.2.1 hb.2.2.2.2.1 hb.2.2.2.2.2 q
    ·obtain⟨o1,e1,_⟩:=c4.obj
     obtain⟨o2,e2,_⟩:=c5.obj;simp only[bH,dJ,or_false] at hb;rcases hb with rfl|rfl|rfl|rfl|rfl|rfl
     ·exact⟨_,Yz⟩
     ·exact⟨_,c1⟩
     ·exact⟨_,gti⟩
     ·exact⟨_,c3⟩
     ·exact⟨_,e1⟩
     ·exact⟨_,e2⟩
   have hf1:∀b∈[e,z,ti,to,j1,j2],xp X pins (upd H s.heap.objs.size (.tup [x,y])) b:=λb hb=>⟨by rw[j3 (neT b hb)];exact(hf b hb).1,(hf b hb).2⟩;have up:∀c o,c≠e->g1.get? c=some o->yg.get? c=some o:=λc o nc_ q=>qe.extBut c o nc_ (kp c o nc_ q);have neT2:∀b∈[e,z,ti,to,j1,j2],b≠g1.objs.size:=λb hb q=>by
    obtain⟨o,ho⟩:=inS b hb;exact absurd (bN ho) (by simp_all)
   have I2:Inv X pins σ (upd (upd H s.heap.objs.size (.tup [x,y])) g1.objs.size (.tup [.int (i:Int),.ref s.heap.objs.size])) {s with heap:=yg,toks:=tk+1}:=by
    refine(Inv.tok (I1.rz (h':=yg) (fp:=[e,z,ti,to,j1,j2]) hf1 (λc o hb q=>?_) (λc hb=>?_) (aT _) (by show 2<=sizeLine;decide) (show Vals [.int (i:Int),.ref s.heap.objs.size] [iM (i:Int) tk,.ref s.heap.objs.size] from .cons ⟨_,rfl⟩ (.cons rfl .nil)) ⟨_,qe.extBut _ _ (gR (bN Yz)) htup,rfl,0,rfl⟩) _)
    ·simp only[bH,dJ,or_false,not_or] at hb
     exact up c o hb.1 q
    ·obtain⟨o1,e1,_⟩:=c4.obj
     obtain⟨o2,e2,_⟩:=c5.obj;simp only[bH,dJ,or_false] at hb;rcases hb with rfl|rfl|rfl|rfl|rfl|rfl
     ·exact⟨_,NM⟩
     ·exact⟨_,up _ _ (nE_ (by simp)) c1⟩
     ·exact⟨_,up _ _ (nE_ (by simp)) gti⟩
     ·exact⟨_,up _ _ (nE_ (by simp)) c3⟩
     ·exact⟨_,up _ _ (nE_ (by simp)) e1⟩
     ·exact⟨_,up _ _ (nE_ (by simp)) e2⟩
   refine⟨.ref g1.objs.size,_,I2,rfl,⟨g1.objs.size,s.heap.objs.size,x,y,I.fresh,I1.fresh,rfl,rfl,λHo ys' q1 q2=>?_⟩,⟨⟨_,NM⟩,⟨f0',f1',up _ _ (nE_ (by simp)) c1,c2⟩,up _ _ (nE_ (by simp)) gti,⟨a',b',up _ _ (nE_ (by simp)) c3⟩,g_.at' c4 λo q=>up _ o (nE_ (by simp)) q,g_.at' c5 λo q=>up _ o (nE_ (by simp)) q⟩,λc hb=>?_⟩
   ·rw[I.BD q1 QE,I.BD q2 QF];exact⟨hx,hy⟩
   ·rw[j3 (neT2 c hb),j3 (neT c hb)];exact(hf c hb).1
 done:=by
  intro X hP hw hK hc i pins s σ H E I hf st hg;subst hP hw hK;obtain⟨xs,ys,QE,QF,NK⟩:=hg;obtain⟨⟨old,he⟩,⟨f0,f1,hz,z0⟩,Hn,⟨a,b,IP⟩,h1,h2⟩:=st;obtain⟨NJ,QG,p1,_⟩:=I.CG QE;obtain⟨Cy,QH,p2,_⟩:=I.CG QF;have Aw:=QG.length;have j_:=QH.length;refine d2f he λQ' E' k=>d1A (show X.A.in1.handled=none from I.ok.hd hc) D hz z0 Hn IP h1 h2 p1 p2 (by
   rcases NK with q|q
   ·exact .inl (by simp;lia)
   ·exact .inr (by simp;lia)) λh' x kk r=>k h' x r ⟨rfl,I.vi hf λc o hb q=>?_⟩
  simp only[bH,dJ,or_false,not_or] at hb;exact kk c o hb.2.1 hb.2.2.2.1 hb.2.2.2.2.1 hb.2.2.2.2.2 q
 self:=λ_ _ _ _ _ st h=>by
  obtain⟨⟨old,he⟩,_⟩:=st;exact wF he h
abbrev ez1(h:aJ)(z:aA):aJ:=h.push {cls:=.type "enumerate",data:=.fields #[.none,.bool false,.ref z,rawInt 0,.none,.none]}
theorem d2p z ti to :
  Meets (iH.«enumerate.__new__» ⟨[.type "enumerate",.ref z],[]⟩) (λ_ R s=>eV s.heap z ti to .none/\R (.ok (.ret (.ref s.heap.objs.size))) {s with heap:=ez1 s.heap z}) :=
 .of_wp λprog w A R s h=>by
  obtain⟨hp,g,d,tk,os⟩:=s;obtain⟨e1,h⟩:=h;have NB:=sub_enumerate;have m1:=e1
  wp_walk using wE m1,d1n
  intro c
  cases c
  ·wp_walk using wE m1
   exact⟨_,rfl,h⟩
  ·wp_walk using wE m1
   exact⟨_,rfl,h⟩
theorem d1l(l1:eV s.heap z ti to .none)
  (q:∀h',IsEnum h' s.heap.objs.size z 0 .none->(∀c o,s.heap.get? c=some o->h'.get? c=some o)->Q (.ref s.heap.objs.size) {s with heap:=h'}) :
  wpAny (model prog w) A (call (.type "enumerate") [.ref z]) Q E s:=by
 refine callType_new F.called_enumerate (by decide) (F.typeCall_enumerate_1 _) (F.newCall_enumerate_1 _) (λob=>F.args_object_init_2 ob _) F.entry_enumerate_new (d2p z ti to) ⟨l1,?_⟩;have p1:(ez1 s.heap z).get? s.heap.objs.size=some _:=dG _ rfl;exact⟨⟨_,p1,rfl⟩,q _ p1 λc o m=>bL _ m⟩
def iEz(b1 b2:Bool)(K:aF)(ta:TA):TI:=λσ H R=>ta σ H λvs H1=>Ev2 λl1 l2=>vs=[.ref l1,.ref l2]/\(∃xs,xt b1 K H1 l1 xs)/\(∃ys,xt b2 K H1 l2 ys)/\R (Itz b1 b2 K l1 l2) H1
theorem d2G b1 b2 K{p pos p2 pos2 pos'}{elts}{x1}(hK:X.K=K)(hg:Gl X "enumerate")(hm:X.mg "enumerate"=none)(hg2:Gl X "zip")(hm2:X.mg "zip"=none)(ha:PA X [a,b] ta)
  (hs:starEach [a,b] X.env=[(false,eval a X.env),(false,eval b X.env)]:=by rfl) (II:starEach [b] X.env=[(false,eval b X.env)]:=by rfl)
  (hs3:starEach [.Call (.Name "zip" p2) [a,b] [] pos2] X.env=[(false,eval (.Call (.Name "zip" p2) [a,b] [] pos2) X.env)]:=by rfl) (hs4:starEach ([]:List aR) X.env=[]:=by rfl) :
  PI X (.Tuple elts x1 pos') (.Call (.Name "enumerate" p) [.Call (.Name "zip" p2) [a,b] [] pos2] [] pos) (iEz b1 b2 K ta):=by
 subst hK;intro pins s σ H R I h;refine Call_ (JD I hg hm boot_enumerate (nJ ?_ (by rw[hs3,hs4]) (by rw[hs4];rfl)));rw[hs3]
 refine Calls.spliced_cons (Call_ (JD I hg2 hm2 boot_zip (nJ (D7 (ha pos2 pins s σ H _ I h) λus s1 ⟨vs,H1,I1,r1,q1⟩=>?_) (by rw[hs,II]) (by rw[II];rfl))));obtain⟨l1,l2,e,⟨xs,q1⟩,⟨ys,q2⟩,q⟩:=q1;subst e;obtain⟨u1,u2,rfl,UQ,UR⟩:=Lw r1
 cases UQ
 cases UR;obtain⟨NJ,QG,p1,_⟩:=I1.CG q1;obtain⟨Cy,QH,p2,_⟩:=I1.CG q2;refine b5o p1 p2 λh1 z1 z2 z3 z4 z5 k1=>(bG (d1l z1 λh2 e1 k2=>(wF e1 ?_)));have z1s:=bN z1;refine⟨h1.objs.size,[h1.objs.size,s1.heap.objs.size+4,s1.heap.objs.size+2,s1.heap.objs.size+3,s1.heap.objs.size,s1.heap.objs.size+1],_,_,H1,rfl,(I1.kept (t':=s1.toks) λc o m=>k2 c o (k1 c o m)),d1P (b7W _ _ _ p1.lt p2.lt) λc hb z0=>?_,⟨⟨_,e1⟩,⟨_,_,k2 _ _ z1,.inl rfl⟩,k2 _ _ z2,⟨_,_,k2 _ _ z3⟩,g_.at' z4 λo m=>k2 _ o m,g_.at' z5 λo m=>k2 _ o m⟩,λb hb=>?_,q⟩
 ·simp only[bH,dJ,or_false] at hb
  have:c<h1.objs.size:=by
   rcases hb with rfl|rfl|rfl|rfl|rfl|rfl|rfl
   ·exact z1s
   ·exact gU (by lia) z1s
   ·exact gU (by lia) z1s
   ·exact gU (by lia) z1s
   ·exact gU (by lia) z1s
   ·exact bS p1.lt (gQ (gU (by lia) z1s))
   ·exact bS p2.lt (gQ (gU (by lia) z1s))
  rw[z0] at this;exact dO _ this
 ·have ou:s1.heap.objs.size<=b:=by
   simp only[bH,dJ,or_false] at hb;rcases hb with rfl|rfl|rfl|rfl|rfl|rfl
   ·exact gQ (gU (by lia) z1s)
   ·exact kW _ _
   ·exact kW _ _
   ·exact kW _ _
   ·exact aT _
   ·exact kW _ _
  exact I1.xy ou (I1.ck.fresh ou)
def UL(H:Hp)(xs ys:List V)(is:List Nat)(ts:List V):Prop:=aZ (λ(i:Nat)v=>Ev3 λt x y=>v=V.ref t/\xs[i]?=some x/\ys[i]?=some y/\H t=some (.tup [.int (i:Int),x,y])) is ts
theorem UL.same(h:UL H xs ys is ts)(e:∀b zs,H b=some (.tup zs)->H' b=some (.tup zs)):UL H' xs ys is ts:=by
 induction h with
 |nil=>exact .nil
 |cons r _ ih =>
  obtain⟨t,x,y,h1,h2,h3,h4⟩:=r;exact .cons ⟨t,x,y,h1,h2,h3,e _ _ h4⟩ ih
theorem UL.snoc{i:Nat}(h:UL H xs ys is ts)(h2:xs[i]?=some x)(h3:ys[i]?=some y)(h4:H t=some (.tup [.int (i:Int),x,y])):UL H xs ys (is++[i]) (ts++[.ref t]):=by
 induction h with
 |nil=>exact .cons ⟨t,x,y,rfl,h2,h3,h4⟩ .nil
 |cons r _ ih=>exact .cons r ih
theorem d1f(hi:i<n)(hj:j<n)(hk:k<n):Wk (c_ n fr σ) ((((c_ n fr σ).set i (some v)).set j (some u)).set k (some x)):=by
 refine⟨by simp,λm w e=>?_⟩;have:¬m<n:=λhm=>by
  unfold c_ at e;rw[dH (by simp_all),gD] at e
  split at e<;>cases e
 rw[dP (by lia),dP (by lia),dP (by lia)];exact e
theorem d2z{K}(h1:xt b1 K H1 l1 xs)(h2:xt b2 K H1 l2 ys)(hp:H1 p=none)(hz:xs.length<sizeLine)q
  (step:∀i x y H(N:Bool->Hp->Prop),xs[i]?=some x->ys[i]?=some y->af H1 H->N (q i) H->tc ((((c_ 3 fr σ).set 0 (some (.int (i:Int)))).set 1 (some x)).set 2 (some y)) H N)
  (hd:∀ts H,af H1 H->H p=some (.lst ts)->UL H xs ys ((aW (min xs.length ys.length)).filter q) ts->D H) :
  LF 3 fr (MW K 2 (JE (N7 0) (JE (MW K 2 (JE (N7 1) (JE (N7 2) PQ))) PQ))) tc (c0J (Z2 (JB 0) (Z2 (JB 1) (Z2 (JB 2) yb)))) σ (Itz b1 b2 K l1 l2) H1 p D:=by
 refine⟨λi m ts H=>m=min xs.length ys.length-i/\i<=min xs.length ys.length/\af H1 H/\H p=some (.lst ts)/\UL H xs ys ((aW i).filter q) ts,⟨_,rfl,dM _,af.new hp _,ae,.nil⟩,?_⟩;rintro i m ts H ⟨rfl,hi,e,hH,ch⟩
 by_cases fk:i<min xs.length ys.length
 ·have hx:xs[i]?=some xs[i]:=aS (by lia)
  have hy:ys[i]?=some ys[i]:=aS (by lia);refine .inr ⟨⟨xs,ys,_,_,e.CG h1,e.CG h2,hx,hy⟩,λu H' yl_=>?_⟩;obtain⟨pp,r,a,b,hr,hpp,rfl,rfl,yh⟩:=yl_;obtain⟨ha,hb⟩:=yh xs ys (e.CG h1) (e.CG h2);have s2:=af.new hpp (.tup [.int (i:Int),.ref r]);have MO:=(af.new hr (.tup [a,b])).trans s2;have tk:(aW (i+1)).filter q=(aW i).filter q++[i].filter q:=by rw[pE,wS]
  refine⟨pp,_,rfl,cq.of ae,rfl,_,_,rfl,_,_,rfl,r,_,rfl,cq.of (s2 _ _ ae),rfl,_,_,rfl,_,_,rfl,rfl,rfl,d1f (by decide) (by decide) (by decide),step i a b _ _ ha hb (e.trans MO) ?_⟩;have h3:=MO _ _ hH;have ch3:=ch.same λb zs k=>MO b _ k
  cases hq:q i with
  |false =>
   rw[if_neg cX];refine⟨_,by lia,rfl,fk,e.trans MO,h3,?_⟩
   ·rw[tk];simpa[hq] using ch3
  |true =>
   rw[if_pos rfl];have ln:ts.length=((aW i).filter q).length:=ch.length.symm;have l2':=oX q (aW i);rw[gZ] at l2';refine⟨.int (i:Int),?_,a,?_,b,?_,(by show 3<=sizeLine;decide),λt ht=>?_⟩
   ·rw[dP (by lia),dP (by lia),eK (by simp[c_])]
   ·rw[dP (by lia),eK (by simp[c_])]
   ·rw[eK (by simp[c_])]
   have s3:=af.new ht (.tup [.int (i:Int),a,b]);have h4:=s3 _ _ h3;refine⟨h4,by lia,_,by lia,rfl,fk,((e.trans MO).trans s3).write hp,ae,?_⟩
   ·rw[tk]
    have:=((ch3.same λb zs k=>s3 b _ k).snoc ha hb (ae));have fin:=this.same (H':=upd (upd (upd (upd H r (.tup [a,b])) pp (.tup [.int (i:Int),.ref r])) t (.tup [.int (i:Int),a,b])) p (.lst (ts++[.ref t]))) λc zs k=>by rw[j3 (J7 k h4 nofun)];exact k
    simpa[hq] using fin
 ·have:i=min xs.length ys.length:=by lia
  subst this;refine .inl ⟨⟨xs,ys,e.CG h1,e.CG h2,by lia⟩,hd ts H e hH ch⟩
end L2
namespace L2
open PySem
theorem d2n K(h:X.K=K)(hr:b_ k X.A):gw X (compareOp .NotEq) (c0Z K):=by subst h;exact JU hr
end L2
namespace Rim
open PySem L2 Fr
theorem c7m:∀{l}{l':List β}{i:Nat}{a},bR F l l'->l[i]?=some a->∃b,l'[i]?=some b/\F a b
 |_,_,_,_,.nil,e=>by simp at e
 |_,_,0,_,.cons r _,e=>by simp at e;subst e;exact⟨_,rfl,r⟩
 |_,_,i+1,x,.cons _ t,e=>by
  obtain⟨b,h1,h2⟩:=c7m t (by simpa using e);exact⟨b,by simpa using h1,h2⟩
def XH(l:Int)(ns:List Int):Prop:=∀x∈ns,l<=x/\x<=1000000000
def ef(h:i8)(m n:Int):Prop:=((h.1.length:Int)=m/\XH 1 h.1)/\((h.2.length:Int)=n/\XH 0 h.2)/\∃x∈h.2,0<x
def OV(h:i8):Prop:=h.1.length<=1000/\h.2.length<=1000
theorem ef.hg{kt kg:Nat}(g:ef h kt kg):HG (10^9) kt kg h:=⟨by have:=g.1.1;lia,by have:=g.2.1.1;lia,λx hx=>⟨(g.1.2 x hx).1,(g.1.2 x hx).2⟩,λx hx=>⟨(g.2.1.2 x hx).1,(g.2.1.2 x hx).2⟩,g.2.2⟩
theorem a4m:K6 X (.builtin "isinstance") (λvs H Q=>Ev4 λa xs n b=>vs=[.ref a,.ty n]/\cq X.K H a xs/\bU X.K (.type "tuple") (.type n)=some b/\Q (.bl b) H):=by
 intro pins s σ H vs us Q I r h;obtain⟨a,xs,n,b,rfl,hs,e,q⟩:=h;obtain⟨u,v,rfl,ru,rv⟩:=Lw r
 cases rv
 cases (show u=cZ a from ru);have hx:∃o,s.heap.get? a=some o/\o.cls=.type "tuple":=by
  rcases hs with hs|⟨o,its,n,h1,h2,_⟩
  ·obtain⟨_,_,_,p⟩:=(show dh X.prog X.w H s.heap a (.tup xs) from hs.ok I.ck)
   obtain⟨o,h1,h2,_⟩:=p;exact⟨o,h1,h2⟩
  ·exact⟨o,I.ix a o h1,h2⟩
 exact fX tI I.ix hx e (λz=>nomatch z) λtk=>⟨.bl b,H,I.tok _,rfl,q⟩
inductive b3P(vs:List V)(H:Hp)(Q:VK)(z3_:XK):Prop|mk:∀i,vs=[.int i]->Q (.bl true) H->b3P vs H Q z3_
def b6Y:p7 ["thing"] ["thing"] (i9 VP):={}
theorem b5H(F:Aj K "is_whole" VP f fd)(T:v8 mg):bf P w K mg base J8 (n+1) f fd ["thing"] b3P:=by
 refine F.oa b6Y λay A outer s H vs Q E hr h=>?_
 obtain⟨i,rfl,q⟩:=h;refine⟨_,j4 (o4 (b1G (j7 Uz rfl T.En gB (c6 (pv 0) (c6 (Ln (v:=.ty "int") rfl T.int lJ rfl) c7)))
  (b1I (b6x (j7 Uz rfl T.En gB (c6 (pv 0) (c6 (Ln (v:=.ty "bool") rfl T.bool An rfl) c7))))))),?_⟩
 exact⟨_,rfl,_,_,"int",true,rfl,.int i,U5 _,_,rfl,J3 ⟨_,rfl,_,_,"bool",false,rfl,.int i,a5G,_,rfl,q⟩⟩
inductive b1r(K:aF)(vs:List V)(H:Hp)(Q:VK)(z3_:XK):Prop|mk:∀a ns m l,vs=[.ref a,.int m,.int l]->cq K H a (ns.map V.int)->ns.length<=1000->(∀b H',af H H'->(b=true ↔ ((ns.length:Int)=m/\XH l ns))->Q (.bl b) H')->b1r K vs H Q z3_
def b7f:p7 ["thing","many","least"] ["thing","many","least"] (i9 Z9):={}
theorem b6O:(["amount","least"]:List aC).Nodup:=by decide
theorem b3s{N:VK}(h:N (.bl b) H)(e:b'=b):N (.bl b') H:=by simp_all
theorem b4J(F:Aj K "are_amounts" Z9 f fd)(T:v8 mg)(C:∃t,mg "MOST_AMOUNT"=some (.int 1000000000 t))(G:CZ P w K mg base n "is_whole" ["thing"] b3P g gd):bf P w K mg base J8 (n+1) f fd ["thing","many","least"] (b1r K):=by
 refine F.oa b7f λay A outer s H vs Q E hr h=>?_
 obtain⟨a,ns,m,l,rfl,hS,hz,q⟩:=h;obtain⟨tm,hma⟩:=C;refine⟨_,j0 (w6 (PW.pt (U0 (S6 (X6 (j7 a4m rfl T.En gB (c6 (pv 0) (c6 (Ln (v:=.ty "tuple") rfl T.tuple hU rfl) c7))))) (R9 (l5 Ei (j7 j6 rfl T.len bB (c6 (pv 0) c7)) (pv 1) (r9 _))))) (j4 (o4 JC)) r8)
  (j4 (o4 (j7 (a7g rfl) rfl T.all xV (c6
   (N6 ["amount"] [2] rfl (IE (pv 0)) (λ_ _ _ _=>j9 (i:=0) b6O rfl (aI rfl))
    (λ_ _ _ _=>b1G (G.c hr (c6 (pv 0) c7)) (b1I (b1L EJ EJ (pv 1) (pv 0) (C4 (v:=.int 1000000000) rfl hma ⟨_,rfl⟩))))) c7)))),?_⟩
 refine⟨_,rfl,a,_,"tuple",true,rfl,hS,U5 _,_,rfl,M7 ⟨_,rfl,a,_,rfl,.inr hS,_,rfl,rfl,_,rfl,y6 (λc=>?_) (λc=>?_)⟩⟩
 ·refine q _ _ (af.refl _) ?_
  have c':¬(ns.length:Int)=m:=λh=>by simp[h] at c
  simp[c']
 ·have c':(ns.length:Int)=m:=by simpa using c
  refine⟨_,rfl,a,rfl,⟨_,hS⟩,λp hp=>(O9 (U3 hS) hp (by rw[aH _];exact t9 hz) (λx=>.bl (decide (l<=vI x/\vI x<=1000000000))) (λi x H' N hx e hN=>?_) ?_)⟩
  ·obtain⟨k,rfl⟩:=T0 hx
   refine⟨Wk.set (by decide),_,rfl,k,rfl,_,rfl,J3 ⟨_,rfl,_,rfl,_,_,rfl,rfl,_,rfl,y6 (λc=>?_) (λc=>?_)⟩⟩
   ·exact⟨_,_,rfl,rfl,b3s hN (by simp[vI,of_decide_eq_true c])⟩
   ·exact b3s hN (by simp[vI,of_decide_eq_false (eN.mpr c)])
  ·refine⟨p,ns.map (λi=>decide (l<=i/\i<=1000000000)),rfl,.inl (ah.of (by rw[ae,bC,bC];rfl)),q _ _ (af.new hp _) ?_⟩;rw[List.all_map,fE];constructor
   ·intro z
    exact⟨c',λx hx=>by simpa using z x hx⟩
   ·intro z x hx
    simpa using z.2 x hx
inductive RO(K:aF)(vs:List V)(H:Hp)(Q:VK)(z3_:XK):Prop|mk:∀v h m n,vs=[v,.int m,.int n]->HS K H v h->OV h->(∀b H',af H H'->(b=true ↔ ef h m n)->Q (.bl b) H')->RO K vs H Q z3_
def AG:p7 ["thing","many_takes","many_gives","takes","gives"] ["thing","many_takes","many_gives"] (i9 VQ):={}
theorem b7j:(["give"]:List aC).Nodup:=by simp
theorem b4A(F:Aj K "is_house" VQ f fd)(T:v8 mg)(G:CZ P w K mg base n "are_amounts" ["thing","many","least"] (b1r K) g gd) :
  bf P w K mg base J8 (n+1) f fd ["thing","many_takes","many_gives"] (RO K):=by
 refine F.oa AG λay A outer s H vs Q E hr h=>?_
 obtain⟨v,h,m,l,rfl,⟨a,t,gv,rfl,h0,h1,h2⟩,⟨hz1,RP⟩,q⟩:=h;refine⟨_,j0 (w6 (PW.pt (U0 (S6 (X6 (j7 a4m rfl T.En gB (c6 (pv 0) (c6 (Ln (v:=.ty "tuple") rfl T.tuple hU rfl) c7))))) (R9 (l5 Ei (j7 j6 rfl T.len bB (c6 (pv 0) c7)) d0 (r9 _))))) (j4 (o4 JC)) r8)
  (j0 (D3 (pv 0) (K4 rfl (p6 (j9 (i:=3) AG.nd rfl (aI rfl)) (p6 (j9 (i:=4) AG.nd rfl (aI rfl)) A4))))
  (j0 (w6 (S6 (PW.pt (Gv (X6 (G.c hr (c6 (pv 3) (c6 (pv 1) (c6 d0 c7))))) (T4 (X6 (G.c hr (c6 (pv 4) (c6 (pv 2) (c6 d0 c7)))))))))
   (j4 (o4 JC)) r8)
  (j4 (o4 (j7 (a7F rfl) rfl T.any xN (c6 (N6 ["give"] [] rfl (IE (pv 4)) (λ_ _ _ _=>j9 (i:=0) b7j rfl (aI rfl)) (λ_ _ _ _=>Z3 Ej (pv 0) d0 (r9 _))) c7)))))),?_⟩
 refine⟨_,rfl,a,_,"tuple",true,rfl,h0,U5 _,_,rfl,M7 ⟨_,rfl,a,_,rfl,.inr h0,rfl,_,rfl,b8R rfl ⟨_,rfl,a,_,rfl,h0,rfl,_,_,rfl,_,_,rfl,rfl,_,rfl,_,rfl,t,h.1,m,1,rfl,h1,hz1,λb1 H1 e1 i1=>⟨_,rfl,y6 (λc1=>?_) (λc1=>?_)⟩⟩⟩⟩
 ·refine⟨_,rfl,_,rfl,gv,h.2,l,0,rfl,e1.cm h2,RP,λb2 H2 e2 i2=>⟨_,rfl,y6 (λc2=>?_) (λc2=>?_)⟩⟩
  ·refine q _ _ (e1.trans e2) ?_
   have:¬b2=true:=by simpa using c2
   constructor
   ·intro z;cases z
   ·intro z;exact absurd (i2.mpr z.2.1) this
  ·have Mw:b2=true:=by simpa using c2
   have Oy:=e1.trans e2;refine⟨_,rfl,gv,rfl,⟨_,Oy.cm h2⟩,λp hp=>(O9 (U3 (Oy.cm h2)) hp (by rw[aH _];exact t9 RP) (λx=>.bl (decide (0<vI x))) (λi x H' N hx e hN=>?_) ?_)⟩
   ·obtain⟨k,rfl⟩:=T0 hx
    exact⟨Wk.set (by decide),_,rfl,_,_,rfl,rfl,hN⟩
   ·refine⟨p,h.2.map (λi=>decide (0<i)),rfl,.inl (ah.of (by rw[ae,bC,bC];rfl)),q _ _ (Oy.trans (af.new hp _)) ?_⟩;rw[lN,mK];constructor
    ·rintro⟨x,hx,z⟩
     exact⟨i1.mp c1,i2.mp Mw,x,hx,by simpa using z⟩
    ·rintro⟨_,_,x,hx,z⟩
     exact⟨x,hx,by simpa using z⟩
 ·refine J3 (q _ _ e1 ?_);constructor
  ·intro z;cases z
  ·intro z;exact absurd (i1.mpr z.1) c1
inductive a7r(K:aF)(CB:aA)(vs:List V)(H:Hp)(Q:VK)(E:XK):Prop|mk:∀v h m n,vs=[v,.int m,.int n]->HS K H v h->OV h->m.natAbs.log2<1920->n.natAbs.log2<1920->(ef h m n->∀H',af H H'->Q .non H')->(¬ef h m n->∀H',af H H'->E (.ref CB) none H')->a7r K CB vs H Q E
def b1j:p7 ["thing","many_takes","many_gives"] ["thing","many_takes","many_gives"] (i9 X7):={}
theorem b0s{g:aA}{gd:aK}(F:Aj K "refuse_unfit" X7 f fd)(kB:X4 K CB)(mB:mg "NoBook"=some (.ref CB))(G:CZ P w K mg base n "is_house" ["thing","many_takes","many_gives"] (RO K) g gd) :
  bf P w K mg base (W2 P w) (n+1) f fd ["thing","many_takes","many_gives"] (a7r K CB):=by
 refine F.ob b1j λay A outer s H vs Q E hr h=>?_
 obtain⟨v,h,m,l,rfl,hH,hz,hm,hl,q,hE⟩:=h;refine⟨_,j4 (w6 (S6 (X6 (G.c hr (c6 (pv 0) (c6 (pv 1) (c6 (pv 2) c7)))))) (j4 (T7 kB rfl mB hr.hd (c6 (a7G (NG (UJ (pv 1) (NG (UJ (pv 2) (NG b2S)))))) c7))) r8),?_⟩;refine⟨_,rfl,_,rfl,_,rfl,v,h,m,l,rfl,hH,hz,λb H1 e1 i1=>⟨_,rfl,?_⟩⟩
 cases b with
 |true=>exact M7 (q (i1.mp rfl) H1 e1)
 |false =>
  refine J3 ?_;exact⟨_,rfl,m,rfl,hm,_,rfl,l,rfl,hl,λx=>⟨(by show 1<=1000;decide),hE (λz=>by have:=i1.mpr z;cases this) H1 e1⟩⟩
inductive a4M(K:aF)(CB CT:aA)(vs:List V)(H:Hp)(Q:VK)(E:XK):Prop|mk:∀l v xs h m n,vs=[.ref l,v,.int m,.int n]->H l=some (.lst xs)->xs.length<=1000->HS K H v h->OV h->m.natAbs.log2<1920->n.natAbs.log2<1920->(ef h m n->xs.length<16->∀r H',af H H'->H r=none->H' r=some (.lst (xs++[v]))->Q (.ref r) H')->(¬ef h m n->∀H',af H H'->E (.ref CB) none H')->(ef h m n->16<=xs.length->∀H',af H H'->E (.ref CT) none H')->a4M K CB CT vs H Q E
def b1c:p7 ["houses","house","many_takes","many_gives"] ["houses","house","many_takes","many_gives"] (i9 V0):={}
theorem a8p(F:Aj K "with_one_more" V0 f fd)(T:v8 mg)(kT:X4 K CT)(mT:mg "TooMany"=some (.ref CT))(C:∃t,mg "MOST_HOUSES"=some (.int 16 t))
  (G:vn P w K mg base n "refuse_unfit" ["thing","many_takes","many_gives"] (a7r K CB) g gd):bf P w K mg base (W2 P w) (n+1) f fd ["houses","house","many_takes","many_gives"] (a4M K CB CT):=by
 refine F.ob b1c λay A outer s H vs Q E hr h=>?_
 obtain⟨l,v,xs,h,m,k,rfl,hl,hz,hH,hs,hm,hk,q,hB,hT⟩:=h;obtain⟨tm,hmh⟩:=C;refine⟨_,j0 (R3 (l7 G.ok hr rfl G.m G.k G.b .nil V5 (c6 (pv 1) (c6 (pv 2) (c6 (pv 3) c7)))))
  (j0 (w6 (l5 Qb (j7 j6 rfl T.len bB (c6 (pv 0) c7)) (C4 (v:=.int 16) rfl hmh ⟨_,rfl⟩) (r9 _)) (j4 (T7 kT rfl mT hr.hd (c6 (a7G (NG (UJ (C4 (v:=.int 16) rfl hmh ⟨_,rfl⟩) (NG b2S)))) c7))) r8)
  (fu.oi (j4 (o4 (j8 B9 (pv 0) (v9 (c6 (pv 1) c7))))))),?_⟩
 refine⟨_,rfl,_,rfl,_,rfl,v,h,m,k,rfl,hH,hs,hm,hk,λg1 H1 e1=>⟨_,rfl,l,xs,rfl,.inl (ah.of (e1 _ _ hl)),_,_,rfl,rfl,_,rfl,y6 (λc=>?_) λc=>?_⟩,hB⟩
 ·have c':16<=xs.length:=by have:=of_decide_eq_true c;lia
  exact⟨16,rfl,by decide,λx=>⟨(by show 1<=1000;decide),hT g1 c' H1 e1⟩⟩
 ·have c':xs.length<16:=by have:=of_decide_eq_false (eN.mpr c);lia
  refine⟨_,rfl,_,rfl,(by show 1<=sizeLine;decide),λb1 Kk=>?_⟩;have s2:=af.new Kk (.lst [v]);refine⟨l,b1,_,_,rfl,rfl,s2 _ _ (e1 _ _ hl),ae,?_,λp hp=>?_⟩
  ·have:=t9 (show(1000:Nat)<=1000 from aT _)
   simp;lia
  exact q g1 c' p _ (e1.trans (s2.trans (af.new hp (.lst (xs++[v]))))) ((e1.trans s2).free hp) ae
inductive c7K(K:aF)(CN CB:aA)(vs:List V)(H:Hp)(Q:VK)(E:XK):Prop|mk:∀(l:aA)(v:V)(xs:List V)(h:i8)(num m n:Int),vs=[.ref l,.int num,v,.int m,.int n]->H l=some (.lst xs)->xs.length<=1000->HS K H v h->OV h->num.natAbs.log2<1920->m.natAbs.log2<1920->n.natAbs.log2<1920->(∀i:Nat,num=(i:Int)->i<xs.length->ef h m n->∀r H',af H H'->H r=none->H' r=some (.lst ((xs.take i++[v])++xs.drop (i+1)))->Q (.ref r) H')->(¬AA xs.length num->∀H',af H H'->E (.ref CN) none H')->(AA xs.length num->¬ef h m n->∀H',af H H'->E (.ref CB) none H')->c7K K CN CB vs H Q E
def c9I:p7 ["houses","number","house","many_takes","many_gives"] ["houses","number","house","many_takes","many_gives"] (i9 J9):={}
theorem c8Y(F:Aj K "with_another" J9 f fd)(Ch:vn P w K mg base n "house_of" ["book","number"] (OA K CN) g2 gd2)
  (G:vn P w K mg base n "refuse_unfit" ["thing","many_takes","many_gives"] (a7r K CB) g gd):bf P w K mg base (W2 P w) (n+1) f fd ["houses","number","house","many_takes","many_gives"] (c7K K CN CB):=by
 refine F.ob c9I λay A outer s H vs Q E hr h=>?_
 obtain⟨l,v,xs,h,num,m,k,rfl,hl,hz,hH,hs,hn,hm,hk,q,hN,hB⟩:=h;refine⟨_,j0 (R3 (l7 Ch.ok hr rfl Ch.m Ch.k Ch.b .nil V5 (c6 (pv 0) (c6 (pv 1) c7))))
  (j0 (R3 (l7 G.ok hr rfl G.m G.k G.b .nil V5 (c6 (pv 2) (c6 (pv 3) (c6 (pv 4) c7)))))
  (fu.oi (j4 (o4 (j8 B9 (j8 B9 (B7 M0 (pv 0) G1 (B8 (pv 1))) (v9 (c6 (pv 2) c7))) (B7 M0 (pv 0) (B8 (j8 D4 (pv 1) d0)) G1)))))),?_⟩
 refine⟨_,rfl,_,rfl,l,xs,num,rfl,ah.of hl,hn,λi x hi hx=>?_,λbad=>hN bad H (af.refl _)⟩;subst hi;have nj:=(cA.mp hx).1;refine⟨_,rfl,_,rfl,_,rfl,v,h,m,k,rfl,hH,hs,hm,hk,λg1 H1 e1=>?_,λbad H1 e1=>hB ⟨by lia,by lia⟩ bad H1 e1⟩;have small:=t9 (show(1000:Nat)<=1000 from aT _);refine⟨_,rfl,_,rfl,_,rfl,l,_,rfl,ah.of (e1 _ _ hl),λa1 h1=>?_⟩;rw[NS _ _ (by lia)];refine⟨_,rfl,(by show 1<=sizeLine;decide),λa2 h2=>?_⟩;have s2:=af.new h2 (.lst [v]);refine⟨a1,a2,_,_,rfl,rfl,s2 _ _ ae,ae,by simp;lia,λa3 h3=>?_⟩;have s13:=(af.new h1 (.lst (xs.take i))).trans (s2.trans (af.new h3 (.lst (xs.take i++[v]))));refine⟨_,rfl,_,rfl,_,_,rfl,rfl,_,rfl,l,_,rfl,ah.of (s13 _ _ (e1 _ _ hl)),λa4 h4=>?_⟩;rw[show((i:Int)+1)=((i+1:Nat):Int) by lia,NT _ _ (by lia)];have s4:=af.new h4 (.lst (xs.drop (i+1)));refine⟨a3,a4,_,_,rfl,rfl,s4 _ _ ae,ae,by simp;lia,λp hp=>?_⟩;have all:=e1.trans (s13.trans s4);exact q i rfl nj g1 p _ (all.trans (af.new hp (.lst ((xs.take i++[v])++xs.drop (i+1))))) (all.free hp) ae
def d2x:p7 ["ahead","behind"] ["ahead","behind"] (i9 c7I):={}
theorem d0I:(["number","was","now"]:List aC).Nodup:=by decide
abbrev FrL(K:aF)(H:Hp):List V->List Q2->Prop:=bR λv q=>Xc K H v q
def chI(ps qs:List Q2):List Nat:=(aW (min ps.length qs.length)).filter λi=>decide (ps.getD i (0,0)≠qs.getD i (0,0))
inductive c9z(K:aF)(vs:List V)(H:Hp)(Q:VK)(z3_:XK):Prop|mk:∀l1 l2 xs ys ps qs,vs=[.ref l1,.ref l2]->ah K H l1 xs->ah K H l2 ys->FrL K H xs ps->FrL K H ys qs->xs.length<=1000->(∀l ts H',af H H'->H l=none->H' l=some (.lst ts)->UL H' xs ys (chI ps qs) ts->Q (.ref l) H')->c9z K vs H Q z3_
theorem d2w x y:cK (dF x) (dF y)=decide (x=y):=by
 unfold dF;rw[cK,hV,hV,hV,cK,cK,Rw];obtain⟨a,b⟩:=x;obtain⟨c,d⟩:=y
 by_cases h1:a=c
 ·by_cases h2:b=d
  ·subst h1 h2;simp
  ·simp[h2]
 ·simp[h1]
theorem c9b(F:Aj K "changes" c7I f fd)(T:v8 mg):bf P w K mg base J8 (n+1) f fd ["ahead","behind"] (c9z K):=by
 refine F.oa d2x λay A outer s H vs Q E hr h=>?_
 obtain⟨l1,l2,xs,ys,ps,qs,rfl,h1,h2,f1,f2,hz,q⟩:=h;refine⟨_,j4 (o4 (b3J ["number","was","now"] [] rfl (d2G true true K rfl rfl T.enum rfl T.zip (c6 (pv 0) (c6 (pv 1) c7)))
   (λ_ _ _ _=>IX K (n:=2) rfl rfl (p6 (j9 (i:=0) d0I rfl (aI rfl)) (p6 (IX K (n:=2) rfl rfl (p6 (j9 (i:=1) d0I rfl (aI rfl)) (p6 (j9 (i:=2) d0I rfl (aI rfl)) A4))) A4)))
   (λ_ _ _ _=>l5 (d2n K rfl hr) (pv 1) (pv 2) (r9 _)) λ_ _ _ _=>A9 (c6 (pv 0) (c6 (pv 1) (c6 (pv 2) c7))))),?_⟩
 refine⟨_,rfl,_,rfl,l1,l2,rfl,⟨_,h1⟩,⟨_,h2⟩,λp hp=>(d2z h1 h2 hp (t9 hz) (λi=>decide (ps.getD i (0,0)≠qs.getD i (0,0))) (λi x y H' N hx hy e hN=>?_) λts H' e dy ch=>?_)⟩
 ·obtain⟨pq,e1,r1⟩:=c7m f1 hx
  obtain⟨qq,e2,r2⟩:=c7m f2 hy;have g1:ps.getD i (0,0)=pq:=by rw[bA,e1];rfl
  have g2:qs.getD i (0,0)=qq:=by rw[bA,e2];rfl
  rw[g1,g2] at hN;refine⟨_,rfl,_,rfl,dF pq,dF qq,Xc.dp (Xc.same e r1),Xc.dp (Xc.same e r2),c8p _,c8p _,bF (sF _ _) (d0D _),_,rfl,?_⟩;rw[d2w];have:(!decide (pq=qq))=decide (pq≠qq):=by simp
  rw[this];exact hN
 ·rw[f1.length,f2.length] at ch
  exact q p ts H' e hp dy ch
end Rim
namespace L2
open PySem PySem.Spec PyProof.Rows
inductive c0V(K:aF)(x y:V)(H:Hp)(Q:VK):Prop|mk:∀p xs ds d,y=.ref p->ah K H p xs->qc K H xs ds->Dp K H x d->cP ds=true->d.canLay0=true->d.depth<=50->Q (.bl (ds.any λe=>cK e d)) H->c0V K x y H Q
theorem XI(hr:b_ k X.A):gw X (compareOp .In) (c0V X.K):=by
 intro pins s σ H x y v u Q I rx ry h;obtain⟨p,xs,ds,d,rfl,hq,hD,hd,c1,c2,dp,q⟩:=h
 cases ry;obtain⟨its,r,pl,hz⟩:=I.list hq;obtain⟨as,rs⟩:=hD.reads I r;obtain⟨bs,rx'⟩:=hd.reads I rx;refine uF (λw=>cK (xW s.heap w) d) pl.isList (SeqAt.items_eqAt (by simpa using rs) rx' c1 c2 (by have:=hr.units;lia)) ⟨.bl _,H,I,rfl,?_⟩;have e1:its.toArray.any (λv=>cK (xW s.heap v) d)=ds.any λe=>cK e d:=by
  rw[<-SeqAt.readsAll_map ds its as c1 rs,lN,List.any_toArray];rfl
 rw[e1];exact q
end L2
namespace Rim
open PySem L2 Fr
open Tx (S cs ch x6 J6 A5 w4)
def xa{α:Type}:List (Option α)->Option (List α)
 |[]=>some []
 |none::_=>none
 |some a::r=>(xa r).map (a::·)
theorem K9:∀{l}{r:List α},xa l=some r->l=r.map some
 |[],r,h=>by cases h;rfl
 |none::_,_,h=>by cases h
 |some a::l,r,h=>by
  unfold xa at h;obtain⟨r',hr,rfl⟩:=fL.mp h;rw[K9 hr];rfl
theorem RQ:∀(r:List α),xa (r.map some)=some r
 |[]=>rfl
 |a::r=>by show(xa (r.map some)).map (a::·)=_;rw[RQ r];rfl
theorem a5d:∀{l:List (Option α)},xa l=none->none∈l
 |[],h=>by cases h
 |none::_,_=>cY
 |some a::l,h=>by
  unfold xa at h;exact bZ _ (a5d (Option.map_eq_none_iff.mp h))
def A6(z:S):Option (List Int):=xa ((aU z (ch 44)).map w4)
def Q0{z p:S}(h:p∈Txt.split z (ch c)):p.length<=z.length:=Ao h
theorem J5{z:S}:(aU z (ch c)).length<=z.length+1:=by
 have:=xX z (ch c) (aT 1);lia
theorem RS:∀l:List (Option Int),Hi .non (l.map HH)=l.any (·.isNone)
 |[]=>rfl
 |o::l=>by
  have ih:=RS l;unfold Hi at ih⊢;rw[cS,jM,jM,ih]
  cases o<;>rfl
theorem a7N(l:List (Option Int)):(l.map HH).all Hh=true:=by
 rw[fE];intro y hy;obtain⟨o,_,rfl⟩:=aY.mp hy
 cases o<;>rfl
theorem any_none:(l.any (·.isNone)=true) ↔ xa l=none:=by
 rw[mK];constructor
 ·rintro⟨o,ho,hn⟩
  cases o with
  |some _=>cases hn
  |none =>
   cases e:xa l with
   |none=>rfl
   |some r =>
    rw[K9 e] at ho;obtain⟨_,_,h⟩:=aY.mp ho
    cases h
 ·intro h
  exact⟨none,a5d h,rfl⟩
inductive a9k(K:aF)(vs:List V)(H:Hp)(Q:VK)(z3_:XK):Prop|mk:∀z:S,vs=[.str z]->J6 z->z.length<=100000->(A6 z=none->∀H',af H H'->Q .non H')->(∀ns,A6 z=some ns->∀t H',af H H'->H' t=some (.tup (ns.map V.int))->Q (.ref t) H')->a9k K vs H Q z3_
def BR:p7 ["text","amounts"] ["text"] (i9 Y7):={}
theorem b4f:(["word"]:List aC).Nodup:=by simp
theorem b2w(F:Aj K "read_amounts" Y7 f fd)(T:v8 mg)(C:C9 P w K mg base n "read_number" ["text"] Z1 fa da):bf P w K mg base J8 (n+1) f fd ["text"] (a9k K):=by
 refine F.oa BR λay A outer s H vs Q E hr h=>?_
 obtain⟨z,rfl,ha,hl,q0,q1⟩:=h;refine⟨_,j0 (CA (i:=1) ["word"] [] BR.nd rfl rfl rfl (C6 (K7 eP iW iX U4 (pv 0) (c6 l9 c7))) (λ_ _ _ _=>j9 (i:=0) b4f rfl (aI rfl)) λ_ _ _ _=>C.c hr (c6 (pv 0) c7))
  (j4 (o4 (MT (l5 Qj D5 (pv 1) rfl) D5 (v5 E7 rfl T.tuple hU (c6 (pv 1) c7))))),?_⟩
 have few:=J5 (z:=z) (c:=44);refine⟨_,rfl,rfl,z,ch 44,rfl,rfl,by decide,by rw[bE];lia,λl jl=>⟨l,rfl,⟨_,ah.of ae⟩,λp hp=>(N5 (A3 (ah.of ae)) hp (by rw[aH,bE];lia) (λi y _=>∃x,(aU z (ch 44))[i]?=some x/\y=HH (w4 x)) (λ_ _ _ _ r _=>r) (λi y H2 zs N hy e dy hN=>?_) λzs H2 e dy len pr=>?_)⟩⟩
 ·rw[aP] at hy
  obtain⟨x,hx,rfl⟩:=fL.mp hy;have Eo:=bK hx;exact⟨Wk.set (by decide),_,rfl,x,rfl,Tx.fj ha Eo,bF (Q0 Eo) hl,λH3 e3=>hN _ _ e3 ⟨x,hx,rfl⟩⟩
 have ez:zs=((aU z (ch 44)).map w4).map HH:=by
  rw[aH] at len;refine dR λi=>?_
  by_cases hi:i<zs.length
  ·obtain⟨h,hh,e1⟩:=pr i _ (aS hi)
   rw[aS hi,e1,aP,aP,hh];rfl
  ·rw[bW (by lia),bW (by simp_all)]
 rw[ez] at dy;have e2:=(af.new jl (.lst ((aU z (ch 44)).map V.str))).trans e;refine⟨_,rfl,p,_,rfl,.inl (ah.of dy),rfl,a7N _,_,rfl,y6 (λc=>?_) (λc=>?_)⟩
 ·have c':((aU z (ch 44)).map w4).any (·.isNone)=true:=by rw[<-RS];exact c
  exact q0 (any_none.mp c') _ e2
 ·have c':¬((aU z (ch 44)).map w4).any (·.isNone)=true:=by rw[<-RS];exact c
  cases jx:A6 z with
  |none=>exact absurd (any_none.mpr jx) c'
  |some ns =>
   have ev:((aU z (ch 44)).map w4).map HH=ns.map V.int:=by rw[K9 jx,bC];rfl
   rw[ev] at dy;exact⟨_,rfl,p,_,rfl,.inl ⟨ah.of dy,λt ht=>(q1 ns jx t _ (e2.trans (af.new ht _)) ae)⟩⟩
def jg(h:i8):Prop:=(1<=h.1.length/\h.1.length<=4)/\(1<=h.2.length/\h.2.length<=4)/\ef h h.1.length h.2.length
inductive XJ(K:aF)(vs:List V)(H:Hp)(Q:VK)(z3_:XK):Prop|mk:∀v h,vs=[v]->HS K H v h->h.1.length<=200000->h.2.length<=200000->(∀b H',af H H'->(b=true ↔ jg h)->Q (.bl b) H')->XJ K vs H Q z3_
def AH:p7 ["thing","takes","gives"] ["thing"] (i9 W9):={}
theorem b5i(F:Aj K "is_any_house" W9 f fd)(T:v8 mg)(CM:∃t,mg "MOST_KINDS"=some (.int 4 t))(C:CZ P w K mg base n "is_house" ["thing","many_takes","many_gives"] (RO K) fa da):bf P w K mg base J8 (n+1) f fd ["thing"] (XJ K):=by
 refine F.oa AH λay A outer s H vs Q E hr h=>?_
 obtain⟨v,h,rfl,⟨a,ta,ga,rfl,h0,h1,h2⟩,l1,l2,q⟩:=h;obtain⟨tm,hM⟩:=CM;refine⟨_,j0 (D3 (pv 0) (K4 rfl (p6 (j9 (i:=1) AH.nd rfl (aI rfl)) (p6 (j9 (i:=2) AH.nd rfl (aI rfl)) A4))))
  (j0 (w6 (S6 (PW.pt (Gv (MZ EJ EJ d0 (j7 j6 rfl T.len bB (c6 (pv 1) c7)) (C4 (v:=.int 4) rfl hM ⟨_,rfl⟩)) (T4 (MZ EJ EJ d0 (j7 j6 rfl T.len bB (c6 (pv 2) c7)) (C4 (v:=.int 4) rfl hM ⟨_,rfl⟩)))))) (j4 (o4 JC)) r8)
  (j4 (o4 (C.c hr (c6 (pv 0) (c6 (j7 j6 rfl T.len bB (c6 (pv 1) c7)) (c6 (j7 j6 rfl T.len bB (c6 (pv 2) c7)) c7))))))),?_⟩
 refine⟨_,rfl,a,_,rfl,h0,rfl,_,_,rfl,_,_,rfl,rfl,?_⟩;have ln:∀l:List Int,((l.map V.int).length:Int)=(l.length:Int):=λl=>by rw[aH]
 have no:¬jg h->Q (.bl false) H:=λc=>q false H (af.refl _) ⟨(λz=>nomatch z),λz=>absurd z c⟩;refine⟨_,rfl,ta,_,rfl,.inr h1,_,_,rfl,rfl,_,rfl,?_⟩
 by_cases c1:1<=h.1.length
 rotate_left
 ·rw[decide_eq_false (by rw[ln];lia)]
  refine M7 ⟨_,rfl,M7 (J3 (no λz=>c1 z.1.1))⟩
 rw[decide_eq_true (show(1:Int)<=((h.1.map V.int).length:Int) by rw[ln];lia)];refine J3 ⟨_,_,rfl,rfl,_,rfl,?_⟩
 by_cases c2:h.1.length<=4
 rotate_left
 ·rw[decide_eq_false (by rw[ln];lia)]
  exact M7 (J3 (no λz=>c2 z.1.2))
 rw[decide_eq_true (show((h.1.map V.int).length:Int)<=4 by rw[ln];lia)];refine J3 ⟨_,rfl,ga,_,rfl,.inr h2,_,_,rfl,rfl,_,rfl,?_⟩
 by_cases c3:1<=h.2.length
 rotate_left
 ·rw[decide_eq_false (by rw[ln];lia)]
  refine M7 ⟨_,rfl,J3 (no λz=>c3 z.2.1.1)⟩
 rw[decide_eq_true (show(1:Int)<=((h.2.map V.int).length:Int) by rw[ln];lia)];refine J3 ⟨_,_,rfl,rfl,_,rfl,?_⟩
 by_cases c4:h.2.length<=4
 rotate_left
 ·rw[decide_eq_false (by rw[ln];lia)]
  exact J3 (no λz=>c4 z.2.1.2)
 rw[decide_eq_true (show((h.2.map V.int).length:Int)<=4 by rw[ln];lia)];refine M7 ⟨_,rfl,_,rfl,ta,_,rfl,.inr h1,_,rfl,ga,_,rfl,.inr h2,.ref a,h,_,_,rfl,⟨a,ta,ga,rfl,h0,h1,h2⟩,⟨by lia,by lia⟩,λb H' e i=>(q b H' e (i.trans ?_))⟩;rw[ln,ln];exact⟨λg=>⟨⟨c1,c2⟩,⟨c3,c4⟩,g⟩,λg=>g.2.2⟩
end Rim
namespace Rim
open PySem L2 Fr
open Tx (S cs ch x6 J6 A5 w4)
open Classical in
def D6(z:S):Option i8:=match (aU z (ch 62)).map A6 with
 |[some a,some b]=>if jg (a,b) then some (a,b) else none
 |_=>none
def AV(H:Hp)(v:V):Option (List Int)->Prop
 |none=>v=.non
 |some ns=>∃t,v=.ref t/\H t=some (.tup (ns.map V.int))
def dA:Option (List Int)->dI
 |none=>.none
 |some ns=>.tuple (ns.map gM)
theorem a4Q:∀ns:List Int,qc K H (ns.map V.int) (ns.map gM)
 |[]=>.nil
 |n::ns=>.cons (.int n) (a4Q ns)
theorem AV.dp(h:AV H v o):Dp K H v (dA o):=by
 cases o with
 |none=>cases (show v=.non from h);exact .non
 |some ns=>obtain⟨t,rfl,h2⟩:=h;exact .tup (cq.of h2) (a4Q ns)
theorem a5c:∀ns:List Int,cP (ns.map gM)=true
 |[]=>by rw[jY,cP]
 |n::ns=>by rw[cS,cP,a5c ns];rfl
theorem b9A o:(dA o).canLay0=true:=by
 cases o with
 |none=>rfl
 |some ns=>unfold dA;rw[fU];exact a5c ns
theorem b9m o:cK (dA o) .none=o.isNone:=by
 cases o with
 |none=>simp[dA,cK]
 |some ns=>simp[dA,cK]
theorem b2L:∀os:List (Option (List Int)),cP (os.map dA)=true
 |[]=>by rw[jY,cP]
 |o::os=>by rw[cS,cP,b2L os,b9A];rfl
theorem b9F{os}(h:bR (AV H) vs os):qc K H vs (os.map dA):=by
 induction h with
 |nil=>exact .nil
 |cons r _ ih=>exact .cons r.dp ih
theorem RT{α β γ:Type}{R:β->γ->Prop}{f:α->γ}:∀{ys}{xs:List α},ys.length=xs.length->(∀(i:Nat)y,ys[i]?=some y->∃x,xs[i]?=some x/\R y (f x))->bR R ys (xs.map f)
 |[],[],_,_=>.nil
 |y::ys,x::xs,hl,h=>by
  obtain⟨x',hx,r⟩:=h 0 y rfl
  cases hx;exact .cons r (RT (by simp_all) λi y' h'=>h (i+1) y' (by simp_all))
 |[],_::_,hl,_=>by simp at hl
 |_::_,[],hl,_=>by simp at hl
theorem a4Z(h:A6 z=some ns):ns.length<=z.length+1:=by
 have:=congrArg iT (K9 h);rw[aH,aH] at this;have:=J5 (z:=z) (c:=44);lia
inductive My(K:aF)(vs:List V)(H:Hp)(Q:VK)(z3_:XK):Prop|mk:∀z:S,vs=[.str z]->J6 z->z.length<=100000->(D6 z=none->∀H',af H H'->Q .non H')->(∀h,D6 z=some h->∀t ta ga H',af H H'->H' t=some (.tup [.ref ta,.ref ga])->H' ta=some (.tup (h.1.map V.int))->H' ga=some (.tup (h.2.map V.int))->Q (.ref t) H')->My K vs H Q z3_
def xb:p7 ["text","sides","house"] ["text"] (i9 VU):={}
theorem b5u:(["side"]:List aC).Nodup:=by simp
theorem b2v(F:Aj K "read_house" VU f fd)(T:v8 mg)(C:C9 P w K mg base n "read_amounts" ["text"] (a9k K) fa da)(D:C9 P w K mg base n "is_any_house" ["thing"] (XJ K) fb db):bf P w K mg base J8 (n+1) f fd ["text"] (My K):=by
 refine F.oa xb λay A outer s H vs Q E hr h=>?_
 obtain⟨z,rfl,ha,hl,q0,q1⟩:=h;refine⟨_,j0 (CA (i:=1) ["side"] [] xb.nd rfl rfl rfl (C6 (K7 eP iW iX U4 (pv 0) (c6 l9 c7))) (λ_ _ _ _=>j9 (i:=0) b5u rfl (aI rfl)) (λ_ _ _ _=>C.c hr (c6 (pv 0) c7)))
  (j0 (w6 (PW.pt (U0 (l5 Ei (j7 j6 rfl T.len bB (c6 (pv 1) c7)) d0 (r9 _)) (R9 (l5 (XI hr) D5 (pv 1) rfl)))) (j4 (o4 D5)) r8)
  (j0 (r6 (i:=2) xb.nd rfl (aI rfl) (v5 E7 rfl T.tuple hU (c6 (pv 1) c7)))
  (j4 (o4 (MT (X6 (D.c hr (c6 (pv 2) c7))) (pv 2) D5))))),?_⟩
 have few:=J5 (z:=z) (c:=62);refine⟨_,rfl,rfl,z,ch 62,rfl,rfl,by decide,by rw[bE];lia,λl jl=>⟨l,rfl,⟨_,ah.of ae⟩,λp hp=>(N5 (A3 (ah.of ae)) hp (by rw[aH,bE];lia) (λi y H'=>∃x,(aU z (ch 62))[i]?=some x/\∀xc:Hp,(∀b o,b≠p->H' b=some o->xc b=some o)->AV xc y (A6 x)) (λi y Ha Hb ⟨h,h1,h2⟩ st=>⟨h,h1,λxc Gz=>h2 xc λb o hb hh=>Gz b o hb (st b o hb hh)⟩) (λi y H2 zs N hy e dy hN=>?_) (λzs H2 e dy len pr=>?_))⟩⟩
 ·rw[aP] at hy
  obtain⟨x,hx,rfl⟩:=fL.mp hy;have Eo:=bK hx;refine⟨Wk.set (by decide),_,rfl,x,rfl,Tx.fj ha Eo,bF (Q0 Eo) hl,λc H3 e3=>hN _ _ e3 ⟨x,hx,λxc _=>by rw[c];rfl⟩,λns c t H3 e3 ht=>hN _ _ e3 ⟨x,hx,λxc st=>by rw[c];exact⟨t,rfl,st _ _ (J7 ht (e3 _ _ dy) nofun) ht⟩⟩⟩
 have e2:=(af.new jl (.lst ((aU z (ch 62)).map V.str))).trans e;rw[aH] at len;have PA:bR (AV H2) zs ((aU z (ch 62)).map A6):=RT len λi y hy=>by
  obtain⟨x,hx,r⟩:=pr i y hy;exact⟨x,hx,r _ λb o _ h=>h⟩
 have no:D6 z=none->Q .non H2:=λc=>q0 c _ e2;refine⟨_,rfl,p,_,rfl,.inl (ah.of dy),rfl,_,rfl,?_⟩;have yp:((aU z (ch 62)).map A6).length≠2\/none∈(aU z (ch 62)).map A6->D6 z=none:=λc=>by
  unfold D6;generalize (aU z (ch 62)).map A6=os at c;rcases os with _|⟨o,_|⟨o',_|⟨o'',r⟩⟩⟩
  ·rfl
  ·cases o<;>rfl
  ·cases o<;>cases o'<;>first|rfl|(simp at c)
  ·cases o<;>cases o'<;>rfl
 have pl:((aU z (ch 62)).map A6).length=zs.length:=by rw[aH];exact len.symm
 refine y6 (λc=>?_) (λc=>?_)
 ·have:¬((zs.length:Int)=2):=λh=>by simp[h] at c
  refine J3 (no (yp (.inl ?_)));rw[pl];lia
 ·have c2:zs.length=2:=by
   have:(zs.length:Int)=2:=by simpa using c
   lia
  refine⟨_,rfl,p,zs,_,.none,rfl,ah.of dy,b9F PA,.non,b2L _,rfl,by decide,_,rfl,?_⟩;have ea:((((aU z (ch 62)).map A6).map dA).any λe=>cK e .none)=((aU z (ch 62)).map A6).any (·.isNone):=by
   rw[lN]
   congr 1
   funext o
   exact b9m o
  rw[ea];refine y6 (λc3=>?_) (λc3=>?_)
  ·obtain⟨o,ho,hn⟩:=mK.mp c3
   have:o=none:=by cases o with|none=>rfl|some _=>cases hn
   subst this;exact no (yp (.inr ho))
  ·obtain⟨a,b,yh⟩:Ev2 λa b=>(aU z (ch 62)).map A6=[some a,some b]:=by
    rw[<-pl] at c2;generalize (aU z (ch 62)).map A6=os at c2 c3;rcases os with _|⟨o,_|⟨o',_|⟨o'',r⟩⟩⟩
    ·simp at c2
    ·simp at c2
    ·cases o with
     |none=>simp at c3
     |some a=>cases o' with
      |none=>simp at c3
      |some b=>exact⟨a,b,rfl⟩
    ·simp at c2
   have eH:∀{x:Option i8},(open Classical in if jg (a,b) then some (a,b) else none)=x->D6 z=x:=λh=>by
    unfold D6;rw[yh];exact h
   rw[yh] at PA;obtain⟨x1,x2,CC,El⟩:Ev2 λx1 x2=>(aU z (ch 62))[0]?=some x1/\(aU z (ch 62))[1]?=some x2:=⟨_,_,aS (by lia),aS (by lia)⟩;have r1:A6 x1=some a:=by
    have:=congrArg (λl=>l[0]?) yh;simp only[aP,CC] at this;exact bD this
   have r2:A6 x2=some b:=by
    have:=congrArg (λl=>l[1]?) yh;simp only[aP,El] at this;exact bD this
   have n1:=a4Z r1;have n2:=a4Z r2;have m1:=Q0 (bK CC);have m2:=Q0 (bK El)
   cases PA with
   |cons v1 PA=>cases PA with
    |cons v2 PA =>
     cases PA;obtain⟨ta,rfl,GO⟩:=v1;obtain⟨ga,rfl,Av⟩:=v2;refine⟨_,rfl,p,_,rfl,.inl ⟨ah.of dy,λt ht=>?_⟩⟩;have t1:=af.new ht (.tup [V.ref ta,V.ref ga]);refine⟨_,rfl,.ref t,(a,b),rfl,⟨t,ta,ga,rfl,cq.of ae,cq.of (t1 _ _ GO),cq.of (t1 _ _ Av)⟩,by show a.length<=_;lia,by show b.length<=_;lia,λb' H3 e3 i=>⟨_,rfl,?_⟩⟩;have e23:=e2.trans (t1.trans e3);refine y6 (λc4=>?_) (λc4=>q0 (eH (if_neg λg=>c4 (i.mpr g))) _ e23)
     ·refine⟨_,rfl,q1 (a,b) (eH (if_pos (i.mp c4))) t ta ga H3 e23 (e3 _ _ ae) (e3 _ _ (t1 _ _ GO)) (e3 _ _ (t1 _ _ Av))⟩
end Rim
namespace Rim
open PySem L2 Fr
open Tx (S cs ch x6 J6 A5 w4)
def gz(hs:List i8):Prop:=(1<=hs.length/\hs.length<=16)/\∃h0,hs[0]?=some h0/\jg h0/\∀h∈hs,ef h h0.1.length h0.2.length
open Classical in
def HJ(z:S):Option (List i8):=match xa ((aU z (ch 10)).map D6) with
 |some hs=>if gz hs then some hs else none
 |none=>none
theorem XM(e:D6 z=some h):jg h:=by
 unfold D6 at e
 split at e
 ·split at e
  ·cases e;assumption
  ·cases e
 ·cases e
inductive b6h(K:aF)(vs:List V)(H:Hp)(Q:VK)(z3_:XK):Prop|mk:∀a xs hs,vs=[.ref a]->ah K H a xs->Bk K H xs hs->hs.length<=200000->(∀h∈hs,OV h)->(∀b H',af H H'->(b=true ↔ gz hs)->Q (.bl b) H')->b6h K vs H Q z3_
def Fh:p7 ["thing","takes","gives"] ["thing"] (i9 VR):={}
theorem b9f:(["house","takes","gives"]:List aC).Nodup:=by decide
theorem b7S(F:Aj K "is_book" VR f fd)(T:v8 mg)(CM:∃t,mg "MOST_HOUSES"=some (.int 16 t))(D:C9 P w K mg base n "is_any_house" ["thing"] (XJ K) fb db)(C:CZ P w K mg base n "is_house" ["thing","many_takes","many_gives"] (RO K) fa da):bf P w K mg base J8 (n+1) f fd ["thing"] (b6h K):=by
 refine F.oa Fh λay A outer s H vs Q E hr h=>?_
 obtain⟨a,xs,hs,rfl,hS,hB,hl,hm,q⟩:=h;obtain⟨tm,hM⟩:=CM;refine⟨_,j0 (w6 (PW.pt (U0 (S6 (MZ EJ EJ d0 (j7 j6 rfl T.len bB (c6 (pv 0) c7)) (C4 (v:=.int 16) rfl hM ⟨_,rfl⟩))) (R9 (S6 (X6 (D.c hr (c6 (l8 j5 (pv 0) d0 (λ_ _=>rfl)) c7))))))) (j4 (o4 JC)) r8)
  (j0 (D3 (l8 j5 (pv 0) d0 (λ_ _=>rfl)) (K4 rfl (p6 (j9 (i:=1) Fh.nd rfl (fY rfl)) (p6 (j9 (i:=2) Fh.nd rfl (fY rfl)) A4))))
  (j4 (o4 (j7 (a7g rfl) rfl T.all xV (c6 (N6 ["house"] [1,2] rfl (C6 (pv 0)) (λ_ _ _ _=>j9 (i:=0) b9f rfl (aI rfl)) (λ_ _ _ _=>C.c hr (c6 (pv 0) (c6 (j7 (b2T K rfl) rfl T.len bB (c6 (pv 1) c7)) (c6 (j7 (b2T K rfl) rfl T.len bB (c6 (pv 2) c7)) c7))))) c7))))),?_⟩
 have xl:xs.length=hs.length:=dE hB;have no:¬gz hs->Q (.bl false) H:=λc=>q false H (af.refl _) ⟨(λz=>nomatch z),λz=>absurd z c⟩;refine⟨_,rfl,a,_,rfl,.inl hS,_,_,rfl,rfl,_,rfl,?_⟩
 by_cases c1:1<=hs.length
 rotate_left
 ·rw[decide_eq_false (by lia)]
  exact M7 ⟨_,rfl,J3 (no λz=>c1 z.1.1)⟩
 rw[decide_eq_true (show(1:Int)<=(xs.length:Int) by lia)];refine J3 ⟨_,_,rfl,rfl,_,rfl,?_⟩
 by_cases c2:hs.length<=16
 rotate_left
 ·rw[decide_eq_false (by lia)]
  exact J3 (no λz=>c2 z.1.2)
 rw[decide_eq_true (show(xs.length:Int)<=16 by lia)];refine M7 ?_;obtain⟨h0,Ky⟩:∃h,hs[0]?=some h:=⟨_,aS (by lia)⟩;obtain⟨x0,Hl⟩:∃x,xs[0]?=some x:=⟨_,aS (by lia)⟩;obtain⟨GC,yq,r0⟩:=aZ.at hB Hl;rw[Ky] at yq;cases yq;have m0:=hm h0 (bK Ky);refine⟨_,rfl,a,_,_,_,rfl,rfl,hS,A2 Hl,x0,h0,rfl,r0,by have:=m0.1;lia,by have:=m0.2;lia,λb H1 e1 i1=>⟨_,rfl,y6 (λc3=>?_) (λc3=>?_)⟩⟩
 ·have Ms:¬b=true:=by simpa using c3
  exact q false H1 e1 ⟨(λz=>nomatch z),λz=>by
   obtain⟨_,GC,yq,g,_⟩:=z;rw[Ky] at yq;cases yq;exact absurd (i1.mpr g) Ms⟩
 have Ms:jg h0:=i1.mp (by simpa using c3);obtain⟨b0,tb,gb,rfl,p1,p2,p3⟩:=r0.same e1;refine⟨_,rfl,a,_,_,_,rfl,rfl,e1.seq hS,A2 Hl,b0,_,rfl,p1,rfl,_,_,rfl,_,_,rfl,rfl,_,rfl,a,rfl,⟨_,e1.seq hS⟩,λp hp=>(N5 (A3 (e1.seq hS)) hp (t9 (by lia)) (λi y _=>Ev2 λh b=>hs[i]?=some h/\y=.bl b/\(b=true ↔ ef h h0.1.length h0.2.length)) (λ_ _ _ _ r _=>r) (λi y H2 zs N hy e dy hN=>?_) (λzs H2 e dy len pr=>?_))⟩
 ·obtain⟨h,hh,r⟩:=aZ.at hB hy
  have ln:∀l:List Int,((l.map V.int).length:Int)=(l.length:Int):=λl=>by rw[aH]
  refine⟨Wk.set (by decide),_,rfl,_,rfl,tb,_,rfl,.inr (e.cm p2),_,rfl,gb,_,rfl,.inr (e.cm p3),y,h,_,_,rfl,(r.same e1).same e,hm h (bK hh),λb' H3 e3 i3=>hN _ _ e3 ⟨h,b',hh,rfl,?_⟩⟩;rw[ln,ln] at i3;exact i3
 obtain⟨bs,hbs,hb⟩:∃bs:List Bool,zs=bs.map V.bl/\∀i b,bs[i]?=some b->∃h,hs[i]?=some h/\(b=true ↔ ef h h0.1.length h0.2.length):=by
  refine⟨zs.map (λv=>match v with|.bl b=>b|_=>false),?_,λi b hi=>?_⟩
  ·rw[bC]
   refine dR λi=>?_;rw[aP]
   cases hz:zs[i]? with
   |none=>rfl
   |some v =>
    obtain⟨h,b,_,rfl,_⟩:=pr i v hz;rfl
  ·rw[aP] at hi
   cases hz:zs[i]? with
   |none=>rw[hz] at hi;cases hi
   |some v =>
    obtain⟨h,b',hh,rfl,ii⟩:=pr i v hz;rw[hz] at hi
    cases hi;exact⟨h,hh,ii⟩
 rw[hbs] at dy;refine⟨p,bs,rfl,.inl (ah.of dy),q _ _ (e1.trans e) ?_⟩;have bl:bs.length=hs.length:=by
  rw[hbs,aH] at len;lia
 rw[fE];constructor
 ·intro z
  refine⟨⟨c1,c2⟩,h0,Ky,Ms,λh hh=>?_⟩;obtain⟨i,hi⟩:=iL hh;have nj:=(cA.mp hi).1;obtain⟨h',Kp,ii⟩:=hb i _ (aS (by lia));rw[hi] at Kp;cases Kp;exact ii.mp (z _ (eF _))
 ·rintro⟨_,GC,yq,_,g⟩ b ou
  rw[Ky] at yq;cases yq;obtain⟨i,hi⟩:=iL ou;obtain⟨h,hh,ii⟩:=hb i b hi;exact ii.mpr (g h (bK hh))
def RU(K:aF)(H:Hp)(v:V):Option i8->Prop
 |none=>v=.non
 |some h=>HS K H v h
def Mz:Option i8->dI
 |none=>.none
 |some h=>Y5 h
inductive a9Y(K:aF)(CT:aA)(vs:List V)(H:Hp)(Q:VK)(E:XK):Prop|mk:∀z:S,vs=[.str z]->J6 z->z.length<=100000->(HJ z=none->∀H',af H H'->E (.ref CT) none H')->(∀hs,HJ z=some hs->∀l xs H',af H H'->H l=none->H' l=some (.lst xs)->Bk K H' xs hs->Q (.ref l) H')->a9Y K CT vs H Q E
def BU:p7 ["text","book"] ["text"] (i9 VV):={}
theorem b5A:(["row"]:List aC).Nodup:=by simp
theorem b6y o:cK (Mz o) .none=o.isNone:=by
 cases o with
 |none=>simp[Mz,cK]
 |some h=>simp[Mz,Y5,cK]
theorem b2y(F:Aj K "read_book" VV f fd)(T:v8 mg)(kT:X4 K CT)(mT:mg "NoText"=some (.ref CT))(C:C9 P w K mg base n "read_house" ["text"] (My K) fa da)(D:C9 P w K mg base n "is_book" ["thing"] (b6h K) fb db):bf P w K mg base (W2 P w) (n+1) f fd ["text"] (a9Y K CT):=by
 refine F.ob BU λay A outer s H vs Q E hr h=>?_
 obtain⟨z,rfl,ha,hl,q0,q1⟩:=h;refine⟨_,j0 (CA (i:=1) ["row"] [] BU.nd rfl rfl rfl (C6 (K7 eP iW iX U4 (pv 0) (c6 l9 c7))) (λ_ _ _ _=>j9 (i:=0) b5A rfl (aI rfl)) (λ_ _ _ _=>C.c hr (c6 (pv 0) c7)))
  (j0 (w6 (PW.pt (U0 (l5 (XI hr) D5 (pv 1) rfl) (R9 (S6 (X6 (D.c hr (c6 (pv 1) c7))))))) (j4 (T7 kT rfl mT hr.hd (c6 l9 c7))) r8)
  (j4 (o4 (pv 1)))),?_⟩
 have few:=J5 (z:=z) (c:=10);refine⟨_,rfl,rfl,z,ch 10,rfl,rfl,by decide,by rw[bE];lia,λl jl=>?_⟩;have s1:=af.new jl (.lst ((aU z (ch 10)).map V.str));refine⟨l,rfl,⟨_,ah.of ae⟩,λp hp=>(N5 (A3 (ah.of ae)) hp (by rw[aH,bE];lia) (λi y H'=>∃x,(aU z (ch 10))[i]?=some x/\∀xc:Hp,(∀b o,b≠p->H' b=some o->xc b=some o)->RU K xc y (D6 x)) (λi y Ha Hb ⟨h,h1,h2⟩ st=>⟨h,h1,λxc Gz=>h2 xc λb o hb hh=>Gz b o hb (st b o hb hh)⟩) (λi y H2 zs N hy e dy hN=>?_) (λzs H2 e dy len pr=>?_))⟩
 ·rw[aP] at hy
  obtain⟨x,hx,rfl⟩:=fL.mp hy;have Eo:=bK hx;refine⟨Wk.set (by decide),_,rfl,x,rfl,Tx.fj ha Eo,bF (Q0 Eo) hl,λc H3 e3=>hN _ _ e3 ⟨x,hx,λxc _=>by rw[c];rfl⟩,λh c t ta ga H3 e3 ht GO Av=>hN _ _ e3 ⟨x,hx,λxc st=>?_⟩⟩;rw[c];have Di:=e3 _ _ dy;exact⟨t,ta,ga,rfl,cq.of (st _ _ (J7 ht Di nofun) ht),cq.of (st _ _ (J7 GO Di nofun) GO),cq.of (st _ _ (J7 Av Di nofun) Av)⟩
 have e2:=s1.trans e;rw[aH] at len;have PA:bR (RU K H2) zs ((aU z (ch 10)).map D6):=RT len λi y hy=>by
  obtain⟨x,hx,r⟩:=pr i y hy;exact⟨x,hx,r _ λb o _ h=>h⟩
 have dpH:∀{vs:List V}{os:List (Option i8)},bR (RU K H2) vs os->qc K H2 vs (os.map Mz):=λh=>by
  induction h with
  |nil=>exact .nil
  |@cons v o vs os r _ ih =>
   refine .cons ?_ ih
   cases o with
   |none=>cases (show v=.non from r);exact .non
   |some h=>exact HS.dp r
 have ly:∀os:List (Option i8),cP (os.map Mz)=true:=λos=>by
  induction os with
  |nil=>rw[jY,cP]
  |cons o os ih =>
   rw[cS,cP,ih]
   cases o with
   |none=>rfl
   |some h=>show((Y5 h).canLay0&&true)=true;rw[WS];rfl
 refine⟨_,rfl,p,zs,_,.none,rfl,ah.of dy,dpH PA,.non,ly _,rfl,by decide,_,rfl,?_⟩;have ea:((((aU z (ch 10)).map D6).map Mz).any λe=>cK e .none)=((aU z (ch 10)).map D6).any (·.isNone):=by
  rw[lN]
  congr 1
  funext o
  exact b6y o
 rw[ea];refine y6 (λc=>?_) (λc=>?_)
 ·refine J3 ⟨(by show 1<=1000;decide),q0 ?_ _ e2⟩
  unfold HJ;rw[any_none.mp c]
 ·cases jx:xa ((aU z (ch 10)).map D6) with
  |none=>exact absurd (any_none.mpr jx) c
  |some hs =>
   have en:=K9 jx;rw[en] at PA;have hB:Bk K H2 zs hs:=by
    have gen:∀{vs:List V}{hs:List i8},bR (RU K H2) vs (hs.map some)->Bk K H2 vs hs:=λ{vs hs}h=>by
     induction hs generalizing vs with
     |nil=>cases h;exact .nil
     |cons g hs ih =>
      cases h with
      |cons r t=>exact .cons r (ih t)
    exact gen PA
   have OW:∀h∈hs,jg h:=λh hh=>by
    have:some h∈(aU z (ch 10)).map D6:=by rw[en];exact aY.mpr ⟨h,hh,rfl⟩
    obtain⟨x,_,hx⟩:=aY.mp this;exact XM hx
   have hlen:hs.length=zs.length:=(dE hB).symm;refine⟨_,rfl,p,zs,hs,rfl,ah.of dy,hB,by lia,λh hh=>⟨by have:=(OW h hh).1.2;lia,by have:=(OW h hh).2.1.2;lia⟩,λb H3 e3 i3=>⟨_,rfl,?_⟩⟩;have eB:∀{x:Option (List i8)},(open Classical in if gz hs then some hs else none)=x->HJ z=x:=λh=>by
    unfold HJ;rw[jx];exact h
   cases b with
   |true=>exact M7 ⟨_,rfl,q1 hs (eB (if_pos (i3.mp rfl))) p zs H3 (e2.trans e3) (s1.free hp) (e3 _ _ dy) (Bk.same e3 hB)⟩
   |false=>exact J3 ⟨(by show 1<=1000;decide),q0 (eB (if_neg λg=>by have:=i3.mpr g;cases this)) _ (e2.trans e3)⟩
end Rim
namespace L2
open PySem PySem.Spec PyProof.Rows
def vp(e:mZ)(kv:aC×Addr):Prop:=∃t,e.key=.str kv.1 t/\e.val=.ref kv.2
theorem a7M(z:aC):∀{es}{dz},bR vp es dz->(es.find? (·.key.isStr z)).map (·.val)=(dz.lookup z).map cZ
 |_,_,.nil=>rfl
 |_,_,.cons (a:=e) (b:=kv) ⟨t,hk,hv⟩ r=>by
  rw[List.find?_cons,eU];have hs:e.key.isStr z=(z==kv.1):=by
   rw[hk]
   show(kv.1==z)=(z==kv.1)
   rw[iD,beq_iff_eq,beq_iff_eq];exact⟨Eq.symm,sG⟩
  rw[hs]
  cases (z==kv.1) with
  |true=>simp[hv]
  |false=>exact a7M z r
theorem a9M:∀{es}{dz},bR vp es dz->es.any (·.refKey)=false
 |_,_,.nil=>rfl
 |_,_,.cons ⟨t,hk,_⟩ r=>by
  rw[jM,a9M r,mG];unfold tD;rw[hk]
structure KTab(K:aF)(Pm:gN)(mg:aC->Option aE)(name:aC)(d:aA)(dz:List (aC×Addr)):Prop where
 m:mg name=some (.ref d)
 ex:Ev2 λes n=>K.lookup d=some ⟨.type "dict",none,.dict es n,#[]⟩/\lK Pm es.toList/\bR vp es.toList dz
 sys:(d==sysModules)=false
theorem KTab.ns{K}(T:KTab K Pm mg name d dz)z:bM K d z=some ((dz.lookup z).map cZ):=by
 obtain⟨es,n,hl,_,hp⟩:=T.ex;unfold bM;rw[hl];dsimp only;have h:=a7M z hp
 cases e:es.toList.find? (·.key.isStr z) with
 |some x=>rw[e] at h;rw[<-h];rfl
 |none=>rw[e] at h;rw[a9M hp,if_neg cX,<-h];rfl
theorem KTab.k{K}(T:KTab K Pm mg name d dz):Rr K Pm d:=by
 obtain⟨es,n,hl,hk,_⟩:=T.ex;exact⟨es,n,hl,hk⟩
inductive b9H(K:aF)(Pm:gN)(neg:Bool)(x y:V)(H:Hp)(Q:VK):Prop|mk:∀d z r,x=.str z->y=.ref d->Rr K Pm d->bM K d z=some r->(d==sysModules)=false->Q (.bl (if neg then !r.isSome else r.isSome)) H->b9H K Pm neg x y H Q
theorem b3k K Pm(hK:X.K=K)(hP:X.w.params=Pm):gw X (compareOp .In) (b9H K Pm false):=by
 subst hK;subst hP;intro pins s σ H x y v u Q I rx ry h;obtain⟨d,z,r,rfl,rfl,⟨es,n,hl,hk⟩,e,hs,q⟩:=h
 cases ry;obtain⟨tk,rfl⟩:=rx;obtain⟨m,hm⟩:=I.fr;exact W.topIn_K hm I.mod.zu hl hk e hs ⟨.bl r.isSome,H,I.tok _,rfl,q⟩
theorem b0u K Pm(hK:X.K=K)(hP:X.w.params=Pm):gw X (compareOp .NotIn) (b9H K Pm true):=by
 subst hK;subst hP;intro pins s σ H x y v u Q I rx ry h;obtain⟨d,z,r,rfl,rfl,⟨es,n,hl,hk⟩,e,hs,q⟩:=h
 cases ry;obtain⟨tk,rfl⟩:=rx;obtain⟨m,hm⟩:=I.fr;refine wpAny_notIn_of (strKind_is X.prog X.w z tk) hs (W.mapOf_K (I.mod.zu.keeps hm.keep) hl hk) ?_;rw[W.find_K hl e];exact⟨.bl (!r.isSome),H,I.tok _,rfl,q⟩
def c0s(X:Cx)(E:XK)(f:aA)(sp:Sp):Prop:=Ev4 λCX k fd ps=>bf X.prog X.w X.K X.mg X.base CX k f fd ps sp/\b_ k X.A/\dX X.K (.ref f)=true/\Binds X.K fd ps []/\Z8 CX X E
def b6D(F:aA->Sp->Prop)(E:XK)(tv:TE)(t:TA):TE:=λσ H Q=>tv σ H λv H1=>Ev2 λf sp=>v=.ref f/\F f sp/\t σ H1 λvs H2=>sp vs H2 Q E
theorem a7L{pos}(hF:∀f sp,F f sp->c0s X E f sp)(hv:PE X (.Name x p) tv)(ha:PA X (e::es) t)
  (he:starEach (e::es) X.env=(false,eval e X.env)::starEach es X.env:=by rfl) (wb:(backTo pos (starEach es X.env)).any (·.1)=false:=by rfl) :
  PE X (.Call (.Name x p) (e::es) [] pos) (b6D F E tv t):=by
 intro pins s σ H Q I h;refine jK (D7 (hv pins s σ H _ I h) λu s1 ⟨v,H1,I1,rv,f,sp,ev,hf,q⟩=>?_);subst ev
 cases rv;obtain⟨CX,k,fd,ps,ok,hr,hk,hb,hx⟩:=hF f sp hf;exact kM I1.ok.mod.zu hk (D7 (ha pos pins s1 σ H1 _ I1 q) λus s2 ⟨vs,H2,I2,r,q2⟩=>⟨I2.ix,Qg ok hr hb .nil hx I2 r (by simp_all)⟩) he wb
end L2
namespace Rim
open PySem L2 Fr
open Tx (S cs ch x6 J6 A5 w4)
inductive Th where
 |k (n:Int)
 |h (x:i8)
 |w (z:S)
open Classical in
def E4(form:aC)(z:S):Option Th :=
 if form="K" then (w4 z).map Th.k else if form="HOUSE" then (D6 z).map Th.h else if O4 z then some (.w z) else none
def Pc(K:aF)(H:Hp)(v:V):Th->Prop
 |.k n=>v=.int n
 |.h x=>Ev3 λt ta ga=>v=.ref t/\H t=some (.tup [.ref ta,.ref ga])/\H ta=some (.tup (x.1.map V.int))/\H ga=some (.tup (x.2.map V.int))
 |.w z=>v=.str z
def Jk(K:aF)(H:Hp)(v:V):Option Th->Prop
 |none=>v=.non
 |some t=>Pc K H v t
structure b3g(K:aF)(mg:aC->Option aE)(o:aA):Prop where
 m:mg "SIZES"=some (.ref o)
 s:∀H,cq K H o [.str "any",.str "one",.str "less",.str "more"]
inductive Yd(K:aF)(vs:List V)(H:Hp)(Q:VK)(z3_:XK):Prop|mk:∀(form:aC)(z:S),vs=[.str form,.str z]->J6 z->z.length<=100000->(∀v H',af H H'->Jk K H' v (E4 form z)->Q v H')->Yd K vs H Q z3_
def b4K:p7 ["form","text"] ["form","text"] (i9 VW):={}
theorem b3G(F:Aj K "read_thing" VW f fd)(Z:b3g K mg oZ)(C:C9 P w K mg base n "read_number" ["text"] Z1 fa da)(D:C9 P w K mg base n "read_house" ["text"] (My K) fb db):bf P w K mg base J8 (n+1) f fd ["form","text"] (Yd K):=by
 refine F.oa b4K λay A outer s H vs Q E hr h=>?_
 obtain⟨form,z,rfl,ha,hl,q⟩:=h;refine⟨_,j0 (w6 (l5 E6 (pv 0) l9 (r9 _)) (j4 (o4 (C.c hr (c6 (pv 1) c7)))) r8)
  (j0 (w6 (l5 E6 (pv 0) l9 (r9 _)) (j4 (o4 (D.c hr (c6 (pv 1) c7)))) r8)
  (j4 (o4 (MT (l5 Qj (pv 1) (C4 (v:=.ref oZ) rfl Z.m rfl) rfl) (pv 1) D5)))),?_⟩
 refine⟨_,rfl,rfl,_,rfl,y6 (λc=>?_) λc=>?_⟩
 ·refine⟨_,rfl,z,rfl,ha,hl,λH1 e1=>q _ H1 e1 ?_⟩;unfold E4;rw[if_pos (V.str.inj (of_decide_eq_true c))]
  cases w4 z<;>rfl
 have c1:=λh=>c (decide_eq_true (congrArg V.str h));refine⟨_,rfl,rfl,_,rfl,y6 (λc=>?_) λc=>?_⟩
 ·have er:E4 form z=(D6 z).map Th.h:=by unfold E4;rw[if_neg c1,if_pos (V.str.inj (of_decide_eq_true c))]
  refine⟨_,rfl,z,rfl,ha,hl,λe H1 e1=>q _ H1 e1 ?_,λh e t ta ga H1 e1 h1 h2 h3=>q _ H1 e1 ?_⟩
  ·rw[er,e];rfl
  ·rw[er,e];exact⟨t,ta,ga,rfl,h1,h2,h3⟩
 have c2:¬form="HOUSE":=λh=>c (decide_eq_true (congrArg V.str h));have ev:∀a:aC,GB (V.str a) (V.str z)=decide (z=a):=λa=>by
  show(a==z)=decide (z=a)
  rw[iD,beq_iff_eq,decide_eq_true_iff];exact⟨Eq.symm,sG⟩
 have ei:(Hi (V.str z) [.str "any",.str "one",.str "less",.str "more"]=true) ↔ O4 z:=by
  unfold Hi O4;simp only[jM,yF,ev,mG,qY,decide_eq_true_iff]
 refine⟨_,rfl,oZ,_,rfl,.inr (Z.s _),rfl,rfl,_,rfl,y6 (λc=>?_) (λc=>?_)⟩
 ·refine⟨_,rfl,q _ H (af.refl _) ?_⟩
  unfold E4;rw[if_neg c1,if_neg c2,if_pos (ei.mp c)];rfl
 ·refine q _ H (af.refl _) ?_
  unfold E4;rw[if_neg c1,if_neg c2,if_neg λh=>c (ei.mpr h)];rfl
def ji:List (aC×List aC):=[("house",["HOUSE"]),("drop",["K"]),("alter",["K","HOUSE"]),("sizes",["WORD"]),("back",[]),("share",["K"]),("grow",["K"]),("others",["K"]),("alone",["K"]),("scale",["K"]),("rim",[]),("levels",[]),("order",[]),("book",[])]
structure Ye(K:aF)(Pm:gN)(mg:aC->Option aE)(d:aA)(dz:List (aC×Addr)):Prop where
 t:KTab K Pm mg "FORMS" d dz
 p:bR (λ(kv:aC×Addr)(fl:aC×List aC)=>kv.1=fl.1/\∀H,cq K H kv.2 (fl.2.map V.str)) dz ji
theorem b5W(z:aC):∀{dz}{fl},bR (λkv(fl:aC×List aC)=>kv.1=fl.1/\∀H,cq K H kv.2 (fl.2.map V.str)) dz fl->(dz.lookup z=none/\fl.lookup z=none)\/Ev2 λa fs=>dz.lookup z=some a/\fl.lookup z=some fs/\∀H,cq K H a (fs.map V.str)
 |_,_,.nil=>.inl ⟨rfl,rfl⟩
 |_,_,.cons (a:=kv) (b:=fl) ⟨e,h⟩ r=>by
  obtain⟨k,a⟩:=kv;obtain⟨k',fs⟩:=fl;have e':=e;subst e';rw[eU,eU]
  cases (z==k) with
  |true=>exact .inr ⟨a,fs,rfl,rfl,h⟩
  |false=>exact b5W z r
def O2(z:S):Option (aC×List Th):=match aU z (ch 32) with
 |[]=>none
 |w::r=>match ji.lookup w with
  |none=>none
  |some fs=>if r.length=fs.length then (xa (cV E4 fs r)).map (λts=>(w,ts)) else none
def dT:Th->dI
 |.k n=>.int n
 |.h x=>Y5 x
 |.w z=>.str z
def GQ:Option Th->dI
 |none=>.none
 |some t=>dT t
def RX:Option Th->Prop
 |some (.w z)=>O4 z
 |_=>True
theorem b1i form z:RX (E4 form z):=by
 unfold E4
 split
 ·cases w4 z<;>exact trivial
 ·split
  ·cases D6 z<;>exact trivial
  ·split
   ·assumption
   ·exact trivial
theorem b9q(h:RX o):(GQ o).canLay0=true:=by
 match o,h with
 |none,_=>rfl
 |some (.k n),_=>rfl
 |some (.h x),_=>exact WS x
 |some (.w z),h=>rcases(show O4 z from h) with rfl|rfl|rfl|rfl<;>(show(sE _).canLay0=true;rw[fU];decide +kernel)
theorem b8v o:cK (GQ o) .none=o.isNone:=by
 match o with
 |none=>simp[GQ,cK]
 |some (.k n)=>simp[GQ,dT,cK]
 |some (.h x)=>simp[GQ,dT,Y5,cK]
 |some (.w z)=>simp[GQ,dT,cK]
theorem Jk.dp(h:Jk K H v o):Dp K H v (GQ o):=by
 match o,h with
 |none,h=>cases (show v=.non from h);exact .non
 |some (.k n),h=>cases (show v=.int n from h);exact .int n
 |some (.h x),h =>
  obtain⟨t,ta,ga,rfl,h1,h2,h3⟩:=h;exact HS.dp ⟨t,ta,ga,rfl,cq.of h1,cq.of h2,cq.of h3⟩
 |some (.w z),h=>cases (show v=.str z from h);exact .str z
section
variable{P:aM}{w:aL}{K:aF}{mg:aC->Option aE}{base:aJ}{f dF CR:aA}{fd:aK}{n:Nat}{dz:List (aC×Addr)}
inductive Yf(K:aF)(CR:aA)(vs:List V)(H:Hp)(Q:VK)(E:XK):Prop|mk:∀z:S,vs=[.str z]->J6 z->z.length<=100000->(O2 z=none->∀H',af H H'->E (.ref CR) none H')->(∀wd ts,O2 z=some (wd,ts)->∀t l us H',af H H'->H' t=some (.tup [.str wd,.ref l])->H' l=some (.lst us)->bR (Pc K H') us ts->Q (.ref t) H')->Yf K CR vs H Q E
def qw:p7 ["row","words","word","things"] ["row"] (i9 S7):={}
theorem b0a:(["form","text"]:List aC).Nodup:=by decide
def rrT{fa:aA}{da:aK}(T:v8 mg)(FT:Ye K w.params mg dF dz)(kR:X4 K CR)(mR:mg "NoRow"=some (.ref CR))(C:C9 P w K mg base n "read_thing" ["form","text"] (Yd K) fa da)
  (hr:b_ n (A.deeper (cD "read_row" (i9 S7) s.heap.objs.size f ay))) (hA:A.handled=none) :
  {t:TS//fu (N8 (W2 P w) P w K mg base ["row","words","word","things"] "read_row" (i9 S7) f ay A outer s H E) (x9 S7) t} :=
 ⟨_,j0 (r6 (i:=1) qw.nd rfl (aI rfl) (K7 eP iW iX U4 (pv 0) (c6 l9 c7)))
  (j0 (r6 (i:=2) qw.nd rfl (aI rfl) (l8 j5 (pv 1) d0 λ_ _=>rfl))
  (j0 (w6 (PW.pt (U0 (l5 (b0u K w.params rfl rfl) (pv 2) (C4 (v:=.ref dF) rfl FT.t.m rfl) rfl) (R9 (l5 Ei (j8 IH (j7 j6 rfl T.len bB (c6 (pv 1) c7)) d0) (j7 j6 rfl T.len bB (c6 (l8 (Kq K w.params rfl rfl) (C4 (v:=.ref dF) rfl FT.t.m rfl) (pv 2) (λ_ _=>rfl)) c7)) (r9 _))))) (j4 (T7 kR rfl mR hA (c6 l9 c7))) r8)
  (j0 (CA (i:=3) ["form","text"] [] qw.nd rfl rfl rfl (QI false true K rfl rfl T.zip (c6 (l8 (Kq K w.params rfl rfl) (C4 (v:=.ref dF) rfl FT.t.m rfl) (pv 2) (λ_ _=>rfl)) (c6 (B7 M0 (pv 1) (B8 d0) G1) c7))) (λ_ _ _ _=>IX K (n:=2) rfl rfl (p6 (j9 (i:=0) b0a rfl (aI rfl)) (p6 (j9 (i:=1) b0a rfl (aI rfl)) A4))) (λ_ _ _ _=>C.c hr (c6 (pv 0) (c6 (pv 1) c7))))
  (j0 (w6 (l5 (XI hr) D5 (pv 3) rfl) (j4 (T7 kR rfl mR hA (c6 l9 c7))) r8)
  (j4 (o4 (A9 (c6 (pv 2) (c6 (pv 3) c7)))))))))⟩
theorem b3R(F:Aj K "read_row" S7 f fd)(T:v8 mg)(FT:Ye K w.params mg dF dz)(kR:X4 K CR)(mR:mg "NoRow"=some (.ref CR))(C:C9 P w K mg base n "read_thing" ["form","text"] (Yd K) fa da):bf P w K mg base (W2 P w) (n+1) f fd ["row"] (Yf K CR):=by
 refine F.ob qw λay A outer s H vs Q E hr h=>?_
 obtain⟨z,rfl,ha,hl,q0,q1⟩:=h;refine⟨_,(rrT T FT kR mR C hr hr.hd).2,?_⟩;have few:=J5 (z:=z) (c:=32);refine⟨_,rfl,rfl,z,ch 32,rfl,rfl,by decide,by rw[bE];lia,λl jl=>?_⟩;have s1:=af.new jl (.lst ((aU z (ch 32)).map V.str));obtain⟨wd,r,hw⟩:Ev2 λwd r=>aU z (ch 32)=wd::r:=by
  cases h:aU z (ch 32) with
  |nil=>exact absurd h (Tx.r_ z 32)
  |cons a b=>exact⟨a,b,rfl⟩
 have HB:(upd H l (.lst ((aU z (ch 32)).map V.str))) l=some (.lst ((wd::r).map V.str)):=by rw[ae,hw]
 generalize upd H l (.lst ((aU z (ch 32)).map V.str))=H1 at *;rw[hw] at few;refine⟨_,rfl,l,_,_,_,rfl,rfl,ah.of HB,A2 rfl,?_⟩;have wl:((wd::r).map V.str).length=r.length+1:=by rw[aH];rfl
 refine⟨_,rfl,dF,wd,_,rfl,rfl,FT.t.k,FT.t.ns wd,FT.t.sys,_,rfl,?_⟩;rcases b5W wd FT.p with⟨l1,l2⟩|⟨RY,fs,l1,l2,hq⟩
 ·rw[l1]
  refine J3 (J3 ⟨by decide,q0 ?_ _ s1⟩);unfold O2;rw[hw];dsimp only;rw[l2]
 rw[l1];refine M7 ?_;have fsl:((fs.map V.str).length:Int)=(fs.length:Int):=by rw[aH]
 refine⟨_,rfl,l,_,rfl,.inl (ah.of HB),_,_,rfl,rfl,_,rfl,dF,wd,RY,rfl,rfl,FT.t.k,by rw[FT.t.ns wd,l1];rfl,RY,_,rfl,.inr (hq _),rfl,_,rfl,?_⟩;have eR:∀{x},(if r.length=fs.length then (xa (cV E4 fs r)).map (λts=>(wd,ts)) else none)=x->O2 z=x:=λh=>by
  unfold O2;rw[hw];dsimp only;rw[l2];exact h
 have key:(V.int ((((wd::r).map V.str).length:Int)-1)=V.int (((fs.map V.str).length:Nat):Int)) ↔ r.length=fs.length:=by
  rw[wl,fsl];constructor
  ·intro h
   have:=V.int.inj h;lia
  ·intro h
   congr 1
   lia
 refine y6 (λc=>?_) λc=>?_
 ·have c':¬r.length=fs.length:=λh=>by
   rw[decide_eq_true (key.mpr h)] at c
   cases c
  exact⟨by decide,q0 (eR (if_neg c')) _ s1⟩
 have c':=key.mp (by simpa using c);refine⟨_,rfl,dF,wd,RY,rfl,rfl,FT.t.k,by rw[FT.t.ns wd,l1];rfl,_,rfl,_,rfl,l,_,rfl,ah.of HB,λl3 KA=>?_⟩;have ec:P5 ((wd::r).map V.str) (some 1) none=r.map V.str:=by
  have:=NT ((wd::r).map V.str) 1 (by rw[wl];lia);exact this
 rw[ec];have rl:r.length<=z.length:=by rw[eM] at few;lia
 have asc:∀x∈r,J6 x/\x.length<=100000:=λx hx=>by
  have hm:x∈Txt.split z (ch 32):=by rw[hw];exact bZ _ hx
  exact⟨Tx.fj ha hm,bF (Q0 hm) hl⟩
 refine⟨RY,l3,rfl,⟨_,hq _⟩,⟨_,ah.of ae⟩,λp hp=>(QJ (b1:=false) (b2:=true) (xs:=fs.map V.str) (ys:=r.map V.str) (hq _) (ah.of ae) hp (by rw[aH,bE];lia) (λi y H'=>Ev2 λfm x=>fs[i]?=some fm/\r[i]?=some x/\∀xc:Hp,(∀b o,b≠p->H' b=some o->xc b=some o)->Jk K xc y (E4 fm x)) (λi y Ha Hb ⟨h,h0,h1,Yg,h2⟩ st=>⟨h,h0,h1,Yg,λxc Gz=>h2 xc λb o hb hh=>Gz b o hb (st b o hb hh)⟩) (λi x y H2 zs N hx hy e dy hN=>?_) (λzs H2 e dy len pr=>?_))⟩
 ·rw[aP] at hx hy
  obtain⟨fm,LC,rfl⟩:=fL.mp hx;obtain⟨tx,RZ,rfl⟩:=fL.mp hy;obtain⟨a1,a2⟩:=asc tx (bK RZ);refine⟨_,rfl,_,rfl,fm,tx,rfl,a1,a2,λv H3 e3 ho=>hN _ _ e3 ⟨fm,tx,LC,RZ,λxc st=>?_⟩⟩;have Di:=e3 _ _ dy
  revert ho
  generalize E4 fm tx=o;intro ho
  match o,ho with
  |none,ho=>exact ho
  |some (.k n),ho=>exact ho
  |some (.w z),ho=>exact ho
  |some (.h x),⟨t,ta,ga,e0,h1,h2,h3⟩=>exact⟨t,ta,ga,e0,st _ _ (J7 h1 Di nofun) h1,st _ _ (J7 h2 Di nofun) h2,st _ _ (J7 h3 Di nofun) h3⟩
 have e2:=(s1.trans (af.new KA (.lst (r.map V.str)))).trans e;have zl:zs.length=(cV E4 fs r).length:=by
  rw[len,aH,aH,jS]
 have PA:bR (Jk K H2) zs (cV E4 fs r):=by
  have:=RT (R:=Jk K H2) (f:=λo:Option Th=>o) (ys:=zs) (xs:=cV E4 fs r) zl λi y hy=>by
   obtain⟨fm,tx,LC,RZ,rr⟩:=pr i y hy;exact⟨_,by rw[mX,LC,RZ],rr _ λb o _ h=>h⟩
  rw[List.map_id'] at this;exact this
 have okT:∀o∈List.zipWith E4 fs r,RX o:=λo ho=>by
  obtain⟨i,hi⟩:=iL ho;rw[mX] at hi
  split at hi
  ·cases hi;exact b1i _ _
  ·cases hi
 have dpT:∀{vs:List V}{os:List (Option Th)},bR (Jk K H2) vs os->qc K H2 vs (os.map GQ):=λh=>by
  induction h with
  |nil=>exact .nil
  |cons r _ ih=>exact .cons r.dp ih
 have ly:∀os:List (Option Th),(∀o∈os,RX o)->cP (os.map GQ)=true:=λos=>by
  induction os with
  |nil=>intro _;rw[jY,cP]
  |cons o os ih =>
   intro h;rw[cS,cP,ih λx hx=>h x (bZ _ hx),b9q (h o cY)];rfl
 refine⟨_,rfl,p,zs,_,.none,rfl,ah.of dy,dpT PA,.non,ly _ okT,rfl,by decide,_,rfl,?_⟩;have ea:(((cV E4 fs r).map GQ).any λe=>cK e .none)=(cV E4 fs r).any (·.isNone):=by
  rw[lN]
  congr 1
  funext o
  exact b8v o
 rw[ea];refine y6 (λc=>?_) (λc=>?_)
 ·refine⟨by simp,q0 (eR ?_) _ e2⟩
  rw[if_pos c',any_none.mp c];rfl
 ·cases jx:xa (cV E4 fs r) with
  |none=>exact absurd (any_none.mpr jx) c
  |some ts =>
   rw[K9 jx] at PA;refine⟨_,rfl,_,rfl,(by show 2<=sizeLine;decide),λt ht=>?_⟩;have t1:=af.new ht (.tup [V.str wd,V.ref p]);refine q1 wd ts (eR (by simp_all)) t p zs _ (e2.trans t1) ae (t1 _ _ dy) ?_;have gen:∀{vs:List V}{us:List Th},bR (Jk K H2) vs (us.map some)->bR (Pc K (upd H2 t (.tup [V.str wd,V.ref p]))) vs us:=λ{vs us}h=>by
    induction us generalizing vs with
    |nil=>cases h;exact .nil
    |cons g us ih =>
     cases h with
     |cons r' t' =>
      refine .cons ?_ (ih t')
      match g,r' with
      |.k n,r'=>exact r'
      |.w z,r'=>exact r'
      |.h x,⟨t2,ta,ga,e0,h1,h2,h3⟩=>exact⟨t2,ta,ga,e0,t1 _ _ h1,t1 _ _ h2,t1 _ _ h3⟩
   exact gen PA
end
end Rim
namespace L2
open PySem PySem.Spec PyProof.Rows
def c1o(K:aF)(ta:TE)(f:aC):TG:=λv σ H Q=>ta σ H λx H2=>Ev4 λa C dx fs=>x=.ref a/\H2 a=some (.ins C dx fs)/\z_ K C/\dg K C f/\fs.length<1000/\Q σ (upd H2 a (.ins C dx (Z6 f v fs)))
theorem a2n
  (h:wpAny M A (eval o env) (λov vz=>wpAny M A (setAttr ov attr v) Q E vz) E s):wpAny M A (assign (.Attribute o attr pos') env v) Q E s:=λΓ p hΓ=>by
 simp only[assign_Attribute,Sem.wp_bind',Sem.wp_holding,Sem.wp_cmd_standAt,Sem.wp_release,Sem.wp_pure'];exact Sem.wp_mono M Γ _ (λov _ vz JR=>JR Γ _ hΓ) (λ_ _ _ h'=>h') _ _ (h Γ _ hΓ)
theorem Si(ha:PE X o ta):PG X (.Attribute o f pos) (c1o X.K ta f):=by
 intro pins s σ H v u Q I r h;refine a2n (D7 (ha pins s σ H _ I h) λov s2 ⟨x,H2,I2,rx,a,C,dx,fs,ex,ea,c,n,l,q2⟩=>?_);subst ex;obtain rfl:ov=cZ a:=rx;exact a4e I2 ea c n l r λs3 I3=>⟨σ,_,I3,q2⟩
end L2
namespace Rim
open PySem L2 Fr
theorem d1Q(x y:Q2):cK (dF x) (dF y)=decide (x=y):=by
 unfold dF;rw[cK,hV,hV,hV,cK,cK,Rw];obtain⟨a,b⟩:=x;obtain⟨c,d⟩:=y
 by_cases h1:a=c
 ·by_cases h2:b=d
  ·subst h1 h2;simp
  ·simp[h1,h2]
 ·simp[h1]
theorem Ex.ka{Pt:aA}{H H':Hp}{v:V}{x:Q2}(L:LT Pt H)(e:bj Pt H H')(h:Ex H v x):Ex H' v x:=by
 obtain⟨a,rfl,ha⟩:=h;exact⟨a,rfl,e.get L ha nofun⟩
end Rim
namespace L2
open PySem
def Sl(o:Option HO):Prop:=∀u,o=some u->(∀zs,u≠.tup zs)/\∀a b,u≠.Bw a b
structure zp(X:aA->Prop)(H H':Hp):Prop where
 k:∀b o,¬X b->H b=some o->H' b=some o
 m:∀x,X x->Sl (H x)
def zp.tup(e:zp X H H')(h:H a=some (.tup xs)):H' a=some (.tup xs):=e.k a _ (λx=>(e.m a x _ h).1 xs rfl) h
theorem zp.KD(e:zp X H H')(h:cq K H a xs):cq K H' a xs:=by
 rcases h with(h|⟨o,h⟩)|h
 ·exact .inl (.inl (e.tup h))
 ·exact .inl (.inr ⟨o,e.k a _ (λx=>(e.m a x _ h).2 _ _ rfl) h⟩)
 ·exact .inr h
theorem S3(h:o=some (.lst xs)):Sl o:=λu e=>by
 rw[h] at e;obtain rfl:=bD e;exact⟨λzs z=>HO.noConfusion z,λa b z=>HO.noConfusion z⟩
theorem Sn(h:o=some (.ins C dx fs)):Sl o:=λu e=>by
 rw[h] at e;obtain rfl:=bD e;exact⟨λzs z=>HO.noConfusion z,λa b z=>HO.noConfusion z⟩
theorem Pd(T:cu P pos qual H):Sl (H P):=λu e=>by
 rcases T with t|⟨c,t,_⟩<;>(rw[t] at e;obtain rfl:=bD e;exact⟨λzs z=>HO.noConfusion z,λa b z=>HO.noConfusion z⟩)
end L2
namespace Rim
open PySem L2 Fr
theorem HS.jw(e:zp X H H')(x:HS K H v h):HS K H' v h:=by
 obtain⟨a,t,g,h0,h1,h2,h3⟩:=x;exact⟨a,t,g,h0,e.KD h1,e.KD h2,e.KD h3⟩
def Bk.jw(e:zp X H H')(x:Bk K H vs hs):Bk K H' vs hs:=aZ.imp' (λ_ _ r=>HS.jw e r) x
theorem Ex.jw{v}(e:zp X H H')(x:Ex H v q):Ex H' v q:=by
 obtain⟨a,rfl,h⟩:=x;exact⟨a,rfl,e.tup h⟩
abbrev KFs(kt kg:Nat)(z:aC)(ta wa pa:aA):List (aC×V):=[("many_takes",.int (kt:Int)),("many_gives",.int (kg:Int)),("sizes",.str z),("there",.ref ta),("worth",.ref wa),("past",.ref pa)]
structure TK(K:aF)(C:aA):Prop where
 cl:z_ K C
 nT:dg K C "many_takes"
 nG:dg K C "many_gives"
 nS:dg K C "sizes"
 nH:dg K C "there"
 nW:dg K C "worth"
 nP:dg K C "past"
abbrev So:=List i8×List Q2
def b6a(K:aF)(H:Hp)(lo:List aA)(ta wa:aA)(L:So):Prop:=ta∈lo/\wa∈lo/\(∃xs,H ta=some (.lst xs)/\Bk K H xs L.1)/\∃ys,H wa=some (.lst ys)/\bR (Ex H) ys L.2
def b7w(K:aF)(H:Hp)(lo:List aA):List V->List So->Prop:=bR λv L=>Ev3 λt ta wa=>v=.ref t/\H t=some (.tup [.ref ta,.ref wa])/\b6a K H lo ta wa L
structure c1O(K:aF)(C:aA)(H:Hp)(p:aA)(kt kg:Nat)(z:aC)(L:So)(past:List So)(pa:aA)(lo:List aA):Prop where
 no:pa ∉ lo
 ls:∀b∈lo,∃xs,H b=some (.lst xs)
 ex:Ev4 λdx ta wa pv=>H p=some (.ins C dx (KFs kt kg z ta wa pa))/\b6a K H lo ta wa L/\H pa=some (.lst pv)/\b7w K H lo pv past
theorem b6a.jw(e:zp X H H')(n:∀b∈lo,¬X b)(s:∀b∈lo,b∈lo')(h:b6a K H lo ta wa L):b6a K H' lo' ta wa L:=by
 obtain⟨h1,h2,⟨xs,h3,h4⟩,ys,h5,h6⟩:=h;exact⟨s _ h1,s _ h2,⟨xs,e.k _ _ (n _ h1) h3,h4.jw e⟩,ys,e.k _ _ (n _ h2) h5,aZ.imp' (λ_ _ r=>Ex.jw e r) h6⟩
def b7w.jw{pv}(e:zp X H H')(n:∀b∈lo,¬X b)(s:∀b∈lo,b∈lo')(h:b7w K H lo pv past):b7w K H' lo' pv past :=
 aZ.imp' (λ_ _ ⟨t,ta,wa,h1,h2,h3⟩=>⟨t,ta,wa,h1,e.tup h2,h3.jw e n s⟩) h
theorem c1O.jw(e:zp X H H')(n:∀b∈lo,¬X b)(np:¬X p)(na:¬X pa)(h:c1O K C H p kt kg z L past pa lo):c1O K C H' p kt kg z L past pa lo:=by
 obtain⟨dx,ta,wa,pv,h1,h2,h3,h4⟩:=h.ex;exact⟨h.no,λb hb=>by obtain⟨xs,q⟩:=h.ls b hb;exact⟨xs,e.k _ _ (n b hb) q⟩,dx,ta,wa,pv,e.k _ _ np h1,h2.jw e n λ_ h=>h,e.k _ _ na h3,h4.jw e n λ_ h=>h⟩
def c1O.same(e:af H H')(h:c1O K C H p kt kg z L past pa lo):c1O K C H' p kt kg z L past pa lo :=
 h.jw ⟨λb o _ q=>e b o q,λ_ x=>x.elim⟩ (λ_ _ x=>x) (λx=>x) λx=>x
def Shs(z:aC)(hs:List i8)(kt kg:Nat)(qs:List Q2):Prop:=qs.length=hs.length/\∀(i:Nat)h q,hs[i]?=some h->qs[i]?=some q->Ev2 λA B=>ShU z hs h kt kg A B/\q=low A B
section
variable{P:aM}{w:aL}{K:aF}{mg:aC->Option aE}{base:aJ}{f C CN CB CT CL Pt:aA}{fd:aK}{n:Nat}
inductive c8r(K:aF)(C:aA)(vs:List V)(H:Hp)(Q:VK)(z3_:XK):Prop|mk:∀(p dx:aA)(kt kg:Nat)(z:aC),vs=[.ref p,.int (kt:Int),.int (kg:Int),.str z]->H p=some (.ins C dx [])->(∀H' pa lo,c1O K C H' p kt kg z ([],[]) [] pa lo->(∀b o,b≠p->H b=some o->H' b=some o)->H pa=none->(∀b∈lo,H b=none)->Q .non H')->c8r K C vs H Q z3_
def d1g:p7 ["self","takes","gives","sizes"] ["self","takes","gives","sizes"] (i9 D0):={}
theorem d0y(F:df K "__init__" "Kept.__init__" D0 f fd)(T:TK K C):bf P w K mg base J8 (n+1) f fd ["self","takes","gives","sizes"] (c8r K C):=by
 refine F.oa d1g λay A outer s H vs Q E hr h=>?_
 obtain⟨p,dx,kt,kg,z,rfl,hp,q⟩:=h;refine⟨_,j0 (GA (pv 0) (pv 1) rfl) (j0 (GA (pv 0) (pv 2) rfl) (j0 (GA (pv 0) (pv 3) rfl) (j0 (GA (pv 0) (v9 c7) rfl) (j0 (GA (pv 0) (v9 c7) rfl) (j4 (GA (pv 0) (v9 c7) rfl)))))),_,rfl,_,rfl,p,C,dx,_,rfl,hp,T.cl,T.nT,by decide,_,rfl,_,rfl,p,C,dx,_,rfl,ae,T.cl,T.nG,(by show 1<1000;decide),?_⟩;rw[Ju];refine⟨_,rfl,_,rfl,p,C,dx,_,rfl,ae,T.cl,T.nS,(by show 2<1000;decide),?_⟩;rw[Ju];refine⟨by decide,λta GO=>?_⟩;have n1:=i7 ae GO;refine⟨_,rfl,p,C,dx,_,rfl,by rw[j3 n1];exact ae,T.cl,T.nH,(by show 3<1000;decide),by decide,λwa hwa=>?_⟩;have n2:p≠wa:=i7 ae hwa;refine⟨_,rfl,p,C,dx,_,rfl,by rw[j3 n2];exact ae,T.cl,T.nW,(by show 4<1000;decide),by simp,λpa jt=>?_⟩;have n3:p≠pa:=i7 ae jt;refine⟨_,rfl,p,C,dx,_,rfl,by rw[j3 n3];exact ae,T.cl,T.nP,(by show 5<1000;decide),?_⟩;have w1:wa≠ta:=λz0=>by
  subst z0;rw[j3 n2.symm,ae] at hwa;cases hwa
 have w2:pa≠wa:=λz0=>by
  subst z0;rw[j3 n3.symm,ae] at jt;cases jt
 have w3:pa≠ta:=λz0=>by
  subst z0;rw[j3 n3.symm,j3 w1.symm,j3 n3.symm,ae] at jt;cases jt
 have f1:H ta=none:=by rw[j3 n1.symm] at GO;exact GO
 have f2:H wa=none:=by rw[j3 n2.symm,j3 w1,j3 n2.symm] at hwa;exact hwa
 have f3:H pa=none:=by rw[j3 n3.symm,j3 w2,j3 n3.symm,j3 w3,j3 n3.symm] at jt;exact jt
 refine q _ pa [ta,wa] ⟨?_,λb hb=>?_,dx,ta,wa,[],ae,⟨.head _,.tail _ (.head _),⟨[],?_,.nil⟩,[],?_,.nil⟩,?_,.nil⟩ (λb o hb e=>?_) f3 λb hb=>?_
 ·intro hb
  rcases bH.mp hb with z0|hb
  ·exact w3 z0
  ·exact w2 (cJ.mp hb)
 ·rcases bH.mp hb with rfl|hb
  ·exact⟨[],by rw[j3 n1.symm,j3 w3.symm,j3 n1.symm,j3 w1.symm,j3 n1.symm,ae]⟩
  ·rw[cJ.mp hb]
   exact⟨[],by rw[j3 n2.symm,j3 w2.symm,j3 n2.symm,ae]⟩
 ·rw[j3 n1.symm,j3 w3.symm,j3 n1.symm,j3 w1.symm,j3 n1.symm,ae]
 ·rw[j3 n2.symm,j3 w2.symm,j3 n2.symm,ae]
 ·rw[j3 n3.symm,ae]
 ·rw[j3 hb,j3 (i7 e f3),j3 hb,j3 (i7 e f2),j3 hb,j3 (i7 e f1),j3 hb];exact e
 ·rcases bH.mp hb with rfl|hb
  ·exact f1
  ·rw[cJ.mp hb];exact f2
def Sq(Pt p pa:aA)(H H':Hp):Prop:=∀b o,b≠p->b≠Pt->b≠pa->H b=some o->H' b=some o
structure Fit(z:aC)(kt kg:Nat):Prop where
 z:O4 z
 t1:1<=kt
 t4:kt<=4
 g4:kg<=4
inductive c7O(K:aF)(C Pt:aA)(vs:List V)(H:Hp)(Q:VK)(z3_:XK):Prop|mk:∀p ha pa kt kg z L past lo xs hs,vs=[.ref p,.ref ha]->c1O K C H p kt kg z L past pa lo->Fit z kt kg->H ha=some (.lst xs)->Bk K H xs hs->(∀g∈hs,HG (10^9) kt kg g)->hs.length<=16->ha≠pa->past.length<=1000->LT Pt H->(∀H' wa qs,c1O K C H' p kt kg z (hs,qs) (past++[L]) pa (ha::wa::lo)->Shs z hs kt kg qs->H wa=none->Sq Pt p pa H H'->LT Pt H'->Q .non H')->c7O K C Pt vs H Q z3_
def scTurnK:p7 ["self","houses","worth"] ["self","houses"] (i9 b8):={}
theorem d1p:(["number","self","houses"]:List aC).Nodup:=by decide
def d2E{f1:aA}{d1:aK}(T:v8 mg)(Cs:vn P w K mg base n "share" ["book","number","sizes"] (OI K CN Pt) f1 d1)(hr:b_ n (A.deeper (cD "Kept.turn_to" (i9 b8) s.heap.objs.size f ay))) :
  {t:TS//fu (N8 J8 P w K mg base ["self","houses","worth"] "Kept.turn_to" (i9 b8) f ay A outer s H E).oi (x9 b8) t} :=
 ⟨_,t8 (CA (i:=2) ["number"] [0,1] scTurnK.nd rfl rfl rfl (R8 rfl T.range (c6 (j7 j6 rfl T.len bB (c6 (pv 1) c7)) c7)) (λ_ _ _ _=>j9 (i:=0) d1p rfl (aI rfl))
   (λ_ _ _ _=>l7 (c8n Cs.ok) hr rfl Cs.m Cs.k Cs.b .nil RA (c6 (pv 2) (c6 (pv 0) (c6 (Vf K rfl (pv 1) rfl) c7)))))
  (j0 (R3 (K7 iK jW jX P2 (y4 (pv 0) rfl) (c6 (A9 (c6 (y4 (pv 0) rfl) (c6 (y4 (pv 0) rfl) c7))) c7)))
  (j0 (GA (pv 0) (pv 1) rfl)
  (j4 (GA (pv 0) (pv 2) rfl))))⟩
end
end Rim
namespace Rim
open PySem L2 Fr
open Tx (S cs ch x6 J6 A5 w4)
abbrev DS:=List i8×Str
abbrev MH(ba:aA)(z:aC)(pa:aA):List (aC×V):=[("book",.ref ba),("sizes",.str z),("past",.ref pa)]
structure TD(K:aF)(C:aA):Prop where
 cl:z_ K C
 nB:dg K C "book"
 nS:dg K C "sizes"
 nP:dg K C "past"
def Ez(K:aF)(H:Hp)(b:aA)(hs:List i8):Prop:=∃xs,H b=some (.lst xs)/\Bk K H xs hs
def sr(K:aF)(H:Hp)(lo:List aA):List V->List DS->Prop:=bR λv L=>Ev2 λt b=>v=.ref t/\H t=some (.tup [.ref b,.str L.2])/\b∈lo/\Ez K H b L.1
structure e_(K:aF)(C:aA)(H:Hp)(p:aA)(L:DS)(past:List DS)(pa:aA)(lo:List aA):Prop where
 no:pa ∉ lo
 ls:∀b∈lo,∃xs,H b=some (.lst xs)
 ex:Ev3 λdx ba pv=>H p=some (.ins C dx (MH ba L.2 pa))/\ba∈lo/\Ez K H ba L.1/\H pa=some (.lst pv)/\sr K H lo pv past
theorem Ez.jw(e:zp X H H')(n:¬X b)(h:Ez K H b hs):Ez K H' b hs:=by
 obtain⟨xs,h1,h2⟩:=h;exact⟨xs,e.k _ _ n h1,h2.jw e⟩
def sr.jw{pv}(e:zp X H H')(n:∀b∈lo,¬X b)(s:∀b∈lo,b∈lo')(h:sr K H lo pv past):sr K H' lo' pv past :=
 aZ.imp' (λ_ _ ⟨t,b,h1,h2,h3,h4⟩=>⟨t,b,h1,e.tup h2,s _ h3,h4.jw e (n _ h3)⟩) h
theorem e_.jw(e:zp X H H')(n:∀b∈lo,¬X b)(np:¬X p)(na:¬X pa)(h:e_ K C H p L past pa lo):e_ K C H' p L past pa lo:=by
 obtain⟨dx,ba,pv,h1,h2,h3,h4,h5⟩:=h.ex;exact⟨h.no,λb hb=>by obtain⟨xs,q⟩:=h.ls b hb;exact⟨xs,e.k _ _ (n b hb) q⟩,dx,ba,pv,e.k _ _ np h1,h2,h3.jw e (n _ h2),e.k _ _ na h4,h5.jw e n λ_ h=>h⟩
def e_.same(e:af H H')(h:e_ K C H p L past pa lo):e_ K C H' p L past pa lo :=
 h.jw ⟨λb o _ q=>e b o q,λ_ x=>x.elim⟩ (λ_ _ x=>x) (λx=>x) λx=>x
def MI(p pa:aA)(H H':Hp):Prop:=∀b o,b≠p->b≠pa->H b=some o->H' b=some o
inductive Ym(K:aF)(C CT:aA)(vs:List V)(H:Hp)(Q:VK)(E:XK):Prop|mk:∀(p dx:aA)(z:S),vs=[.ref p,.str z]->H p=some (.ins C dx [])->J6 z->z.length<=100000->(HJ z=none->∀H',af H H'->E (.ref CT) none H')->(∀hs,HJ z=some hs->∀H' pa lo,e_ K C H' p (hs,"any") [] pa lo->(∀b o,b≠p->H b=some o->H' b=some o)->H pa=none->(∀b∈lo,H b=none)->Q .non H')->Ym K C CT vs H Q E
def b5k:p7 ["self","text"] ["self","text"] (i9 V3):={}
theorem b1n(F:df K "__init__" "Desk.__init__" V3 f fd)(T:TD K C)(Cb:vn P w K mg base n "read_book" ["text"] (a9Y K CT) fa da):bf P w K mg base (W2 P w) (n+1) f fd ["self","text"] (Ym K C CT):=by
 refine F.ob b5k λay A outer s H vs Q E hr h=>?_
 obtain⟨p,dx,z,rfl,hp,ha,hl,q0,q1⟩:=h;refine⟨_,j0 (GA (pv 0) (l7 Cb.ok hr rfl Cb.m Cb.k Cb.b .nil V5 (c6 (pv 1) c7)) rfl) (fu.oi (j0 (GA (pv 0) l9 rfl) (j4 (GA (pv 0) (v9 c7) rfl)))),_,rfl,z,rfl,ha,hl,q0,λhs er l xs H1 e1 CU Pe hB=>?_⟩;have Fm:=e1 _ _ hp;have npl:=J7 Fm Pe nofun;refine⟨_,rfl,p,C,dx,_,rfl,Fm,T.cl,T.nB,by decide,_,rfl,p,C,dx,_,rfl,ae,T.cl,T.nS,(by show 1<1000;decide),?_⟩;rw[Ju];refine⟨by decide,λpa jt=>?_⟩;have n1:=i7 ae jt;refine⟨_,rfl,p,C,dx,_,rfl,by rw[j3 n1];exact ae,T.cl,T.nP,(by show 2<1000;decide),?_⟩;have Fn:H1 pa=none:=by rw[j3 n1.symm] at jt;exact jt
 have Yn:l≠pa:=λz0=>by rw[z0,Fn] at Pe;cases Pe
 have KG:=e1.free Fn;have kp:∀b o,b≠p->b≠pa->H1 b=some o->upd (upd (upd H1 p (.ins C dx (Z6 "sizes" (.str "any") (Z6 "book" (.ref l) [])))) pa (.lst [])) p (.ins C dx (MH l "any" pa)) b=some o:=λb o h1 h2 h=>by
  rw[j3 h1,j3 h2,j3 h1];exact h
 have fr:zp (λb=>b=p\/b=pa) H1 (upd (upd (upd H1 p (.ins C dx (Z6 "sizes" (.str "any") (Z6 "book" (.ref l) [])))) pa (.lst [])) p (.ins C dx (MH l "any" pa))):=⟨λb o h1 h2=>kp b o (λz0=>h1 (.inl z0)) (λz0=>h1 (.inr z0)) h2,λx hx=>by
  rcases hx with rfl|rfl
  ·exact Sn Fm
  ·intro u hu;rw[Fn] at hu;cases hu⟩
 refine q1 hs er _ pa [l] ⟨λh=>Yn (cJ.mp h).symm,λb hb=>?_,dx,l,[],ae,.head _,⟨xs,kp _ _ npl.symm Yn Pe,hB.jw fr⟩,?_,.nil⟩ (λb o hb h=>kp _ _ hb (i7 h KG) (e1 _ _ h)) KG λb hb=>?_
 ·rw[cJ.mp hb]
  exact⟨xs,kp _ _ npl.symm Yn Pe⟩
 ·rw[j3 n1.symm,ae]
 ·rw[cJ.mp hb];exact CU
theorem a7R{α:Type}{l:List α}(h:l.length=k+1):Ev2 λl' x=>l=l'++[x]/\l'.length=k:=by
 rcases yH l with e|⟨l',x,e⟩
 ·subst e;simp at h
 ·rw[yI] at e
  subst e;exact⟨l',x,rfl,by simpa using h⟩
theorem a2m:∀{l}{m}{x}{y:β},bR F (l++[x]) (m++[y])->bR F l m/\F x y
 |[],[],_,_,.cons r _=>⟨.nil,r⟩
 |a::l,b::m,_,_,.cons r t=>by
  obtain⟨h1,h2⟩:=a2m t;exact⟨.cons r h1,h2⟩
 |[],b::m,_,_,h=>by
  have:=dE h;simp at this
 |a::l,[],_,_,h=>by
  have:=dE h;simp at this
inductive MJ(K:aF)(C CL:aA)(vs:List V)(H:Hp)(Q:VK)(E:XK):Prop|mk:∀p pa L past lo,vs=[.ref p]->e_ K C H p L past pa lo->(past=[]->∀H',af H H'->E (.ref CL) none H')->(∀yt L0,past=yt++[L0]->∀H',e_ K C H' p L0 yt pa lo->MI p pa H H'->Q (.str "ok") H')->MJ K C CL vs H Q E
def b5M:p7 ["self"] ["self"] (i9 S5):={}
theorem b3E(F:df K "take_back" "Desk.take_back" S5 f fd)(T:TD K C)(kL:X4 K CL)(mL:mg "NothingLeft"=some (.ref CL)):bf P w K mg base (W2 P w) (n+1) f fd ["self"] (MJ K C CL):=by
 refine F.ob b5M λay A outer s H vs Q E hr h=>?_
 obtain⟨p,pa,L,past,lo,rfl,DK,q0,q1⟩:=h;refine⟨_,j0 (w6 (S6 (a7J (y4 (pv 0) rfl) λ_=>rfl)) (j4 (T7 kL rfl mL hr.hd (c6 l9 c7))) r8)
  (fu.oi (j0 (D3 (b7P iK yJ yK b7F (y4 (pv 0) rfl)) (K4 rfl (p6 (Si (pv 0)) (p6 (Si (pv 0)) A4))))
  (j4 (o4 l9)))),?_⟩
 obtain⟨dx,ba,GS,hp,ym,BW,jt,Fj⟩:=DK.ex;have lpv:=dE Fj;refine⟨_,rfl,p,C,dx,_,_,rfl,hp,T.cl,T.nP,rfl,_,.inl ⟨_,ah.of jt,rfl⟩,?_⟩;rcases yH past with e|⟨yt,L0,e⟩
 ·subst e
  have:GS=[]:=lM (by simpa using lpv);subst this;exact J3 ⟨by decide,q0 rfl H (af.refl _)⟩
 ·rw[yI] at e
  subst e;obtain⟨KH,v,rfl,l1⟩:=a7R (k:=yt.length) (by rw[lpv];simp);obtain⟨Yo,t,b0,rfl,ht,Eu,hk0⟩:=a2m Fj;have ne0:(!(KH++[V.ref t]).isEmpty)=true:=by simp
  rw[ne0];refine M7 ?_;have gl:(KH++[V.ref t])[(KH++[V.ref t]).length-1]?=some (V.ref t):=by simp
  refine⟨_,rfl,p,C,dx,_,_,rfl,hp,T.cl,T.nP,rfl,.inl ⟨rfl,_,ah.of jt⟩,pa,_,_,rfl,rfl,jt,gl,?_⟩;have Pf:=J7 hp jt nofun;refine⟨t,_,rfl,cq.of (by rw[j3 (J7 ht jt nofun)];exact ht),rfl,_,_,rfl,_,rfl,p,C,dx,_,rfl,by rw[j3 Pf];exact hp,T.cl,T.nB,(by show 3<1000;decide),_,_,rfl,⟨_,rfl,p,C,dx,_,rfl,ae,T.cl,T.nS,(by show 3<1000;decide),rfl,?_⟩⟩;rw[Ju];have ed:(KH++[V.ref t]).dropLast=KH:=by simp
  rw[ed];have fr:zp (λb=>b=p\/b=pa) H (upd (upd H pa (.lst KH)) p (.ins C dx (MH b0 L0.2 pa))):=⟨λb o h1 h2=>by
   rw[j3 (λz0=>h1 (.inl z0)),j3 (λz0=>h1 (.inr z0))];exact h2,λx hx=>by
   rcases hx with rfl|rfl
   ·exact Sn hp
   ·exact S3 jt⟩
  have Er:∀b∈lo,¬(b=p\/b=pa):=λb hb z0=>by
   obtain⟨xs,hx⟩:=DK.ls b hb;rcases z0 with rfl|rfl
   ·rw[hp] at hx;cases hx
   ·exact DK.no hb
  refine q1 yt L0 rfl _ ⟨DK.no,λb hb=>?_,dx,b0,KH,ae,Eu,hk0.jw fr (Er _ Eu),by rw[j3 Pf.symm,ae],sr.jw fr Er (λ_ h=>h) Yo⟩ λb o h1 h2 h=>fr.k _ _ (λz0=>z0.elim h1 h2) h
  ·obtain⟨xs,hx⟩:=DK.ls b hb
   exact⟨xs,fr.k _ _ (Er b hb) hx⟩
structure Yp(P:aM)(w:aL)(K:aF)(mg:aC->Option aE)(base:aJ)(CX:ze)(n:Nat)(C:aA)(m:aC)(ps:List aC)(sp:Sp)(f:aA)(fd:aK):Prop where
 ok:bf P w K mg base CX n f fd ps sp
 bd:Binds K fd ps []
 me:Ly K C m f
section
variable{P:aM}{w:aL}{K:aF}{mg:aC->Option aE}{base:aJ}{f C CL CR dA dD:aA}{fd:aK}{n:Nat}{kA kD:List (aC×Addr)}
def Yq(P:aM)(w:aL)(K:aF)(mg:aC->Option aE)(base:aJ)(n:Nat)(g:aA)(sp:Sp):Prop:=∃gd,bf P w K mg base (W2 P w) n g gd ["book","sizes","things"] sp/\Binds K gd ["book","sizes","things"] []/\dX K (.ref g)=true
inductive Yr(K:aF)(C CL CR:aA)(kA kD:List (aC×Addr))(FA:aA->Sp->Prop)(vs:List V)(H:Hp)(Q:VK)(E:XK):Prop|mk:∀(p pa:aA)(z:S)(L:DS)(past:List DS)(lo:List aA),vs=[.ref p,.str z]->e_ K C H p L past pa lo->past.length<=1000->J6 z->z.length<=100000->(O2 z=none->∀H',af H H'->E (.ref CR) none H')->(∀wd ts,O2 z=some (wd,ts)->∀l us ba H1,af H H1->H1 l=some (.lst us)->bR (Pc K H1) us ts->ba∈lo->Ez K H1 ba L.1 → (∀g,kA.lookup wd=some g->∃sp,FA g sp/\sp [.ref ba,.str L.2,.ref l] H1 Q E) ∧ (kA.lookup wd=none->∀g,kD.lookup wd=some g->∃sp,FA g sp/\∀Q',(∀v H2,(Ev5 λt an b' z' dt=>v=.ref t/\H2 t=some (.tup [.str an,.ref b',.str z'])/\af H1 H2/\Ez K H2 b' dt/\b'≠pa/\∀H' lo',e_ K C H' p (dt,z') (past++[L]) pa lo'->(∀b∈lo',b=b'\/b∈lo)->MI p pa H2 H'->Q (.str an) H')->Q' v H2)->sp [.ref ba,.str L.2,.ref l] H1 Q' E) ∧ (kA.lookup wd=none->kD.lookup wd=none->MJ K C CL [.ref p] H1 Q E))->Yr K C CL CR kA kD FA vs H Q E
def pf:p7 ["self","row","word","things","ask","deed","answer","book","sizes"] ["self","row"] (i9 S4):={}
def c1c{f1 f2:aA}{d1 d2:aK}{FA:aA->Sp->Prop}(T:TD K C)(TA:KTab K w.params mg "ASKS" dA kA)(BX:KTab K w.params mg "DEEDS" dD kD)(Cr:vn P w K mg base n "read_row" ["row"] (Yf K CR) f1 d1)(Ct:Yp P w K mg base (W2 P w) n C "take_back" ["self"] (MJ K C CL) f2 d2)(Sr:∀g sp,FA g sp->Yq P w K mg base n g sp)
  (hr:b_ n (A.deeper (cD "Desk.say" (i9 S4) s.heap.objs.size f ay))) :
  {t:TS//fu (N8 (W2 P w) P w K mg base ["self","row","word","things","ask","deed","answer","book","sizes"] "Desk.say" (i9 S4) f ay A outer s H E) (x9 S4) t} :=
 ⟨_,j0 (D3 (l7 Cr.ok hr rfl Cr.m Cr.k Cr.b .nil V5 (c6 (pv 1) c7)) (K4 rfl (p6 (j9 (i:=2) pf.nd rfl (aI rfl)) (p6 (j9 (i:=3) pf.nd rfl (aI rfl)) A4))))
  (j0 (w6 (l5 (b3k K w.params rfl rfl) (pv 2) (C4 (v:=.ref dA) rfl TA.m rfl) rfl)
   (j0 (r6 (i:=4) pf.nd rfl (aI rfl) (l8 (Kq K w.params rfl rfl) (C4 (v:=.ref dA) rfl TA.m rfl) (pv 2) (λ_ _=>rfl)))
   (j4 (o4 (a7L (F:=FA) (E:=E) (λg sp h=>let ⟨gd,h1,h2,h3⟩:=Sr g sp h;⟨W2 P w,n,gd,_,h1,hr,h3,h2,V5⟩) (pv 4) (c6 (y4 (pv 0) rfl) (c6 (y4 (pv 0) rfl) (c6 (pv 3) c7))))))) r8)
  (j0 (w6 (l5 (b3k K w.params rfl rfl) (pv 2) (C4 (v:=.ref dD) rfl BX.m rfl) rfl)
   (j0 (r6 (i:=5) pf.nd rfl (aI rfl) (l8 (Kq K w.params rfl rfl) (C4 (v:=.ref dD) rfl BX.m rfl) (pv 2) (λ_ _=>rfl)))
   (j0 (D3 (a7L (F:=FA) (E:=E) (λg sp h=>let ⟨gd,h1,h2,h3⟩:=Sr g sp h;⟨W2 P w,n,gd,_,h1,hr,h3,h2,V5⟩) (pv 5) (c6 (y4 (pv 0) rfl) (c6 (y4 (pv 0) rfl) (c6 (pv 3) c7)))) (K4 rfl (p6 (j9 (i:=6) pf.nd rfl (aI rfl)) (p6 (j9 (i:=7) pf.nd rfl (aI rfl)) (p6 (j9 (i:=8) pf.nd rfl (aI rfl)) A4)))))
   (fu.oi (j0 (R3 (K7 iK jW jX P2 (y4 (pv 0) rfl) (c6 (A9 (c6 (y4 (pv 0) rfl) (c6 (y4 (pv 0) rfl) c7))) c7)))
   (j0 (D3 (A9 (c6 (pv 7) (c6 (pv 8) c7))) (K4 rfl (p6 (Si (pv 0)) (p6 (Si (pv 0)) A4))))
   (j4 (o4 (pv 6)))))))) r8)
  (j4 (o4 (M' (pv 0) T.cl Ct.me Ct.ok hr Ct.bd .nil V5)))))⟩
theorem b6S(F:df K "say" "Desk.say" S4 f fd)(T:TD K C)(TA:KTab K w.params mg "ASKS" dA kA)(BX:KTab K w.params mg "DEEDS" dD kD)(Cr:vn P w K mg base n "read_row" ["row"] (Yf K CR) f1 d1)(Ct:Yp P w K mg base (W2 P w) n C "take_back" ["self"] (MJ K C CL) f2 d2)(Sr:∀g sp,FA g sp->Yq P w K mg base n g sp) :
  bf P w K mg base (W2 P w) (n+1) f fd ["self","row"] (Yr K C CL CR kA kD FA):=by
 refine F.ob pf λay A outer s H vs Q E hr h=>?_
 obtain⟨p,pa,z,L,past,lo,rfl,DK,wb,ha,hl,q0,q1⟩:=h;refine⟨_,(c1c T TA BX Cr Ct Sr hr).2,_,rfl,z,rfl,ha,hl,q0,λwd ts er t l us H1 e1 ht Jm Ph=>?_⟩;have DK1:=DK.same e1;obtain⟨dx,ba,GS,hp,ym,BW,jt,Fj⟩:=DK1.ex;obtain⟨qa,qd,qb⟩:=q1 wd ts er l us ba H1 e1 Jm Ph ym BW;refine⟨t,_,rfl,cq.of ht,rfl,_,_,rfl,_,_,rfl,rfl,_,rfl,dA,wd,_,rfl,rfl,TA.k,TA.ns wd,TA.sys,_,rfl,?_⟩
 cases hA:kA.lookup wd with
 |some g =>
  obtain⟨sp,hg,iu⟩:=qa g hA;exact J3 ⟨_,rfl,dA,wd,g,rfl,rfl,TA.k,by rw[TA.ns wd,hA];rfl,_,rfl,g,sp,rfl,hg,_,rfl,p,C,dx,_,_,rfl,hp,T.cl,T.nB,rfl,_,rfl,p,C,dx,_,_,rfl,hp,T.cl,T.nS,rfl,_,rfl,iu⟩
 |none =>
  refine M7 ⟨_,rfl,dD,wd,_,rfl,rfl,BX.k,BX.ns wd,BX.sys,_,rfl,?_⟩
  cases hD:kD.lookup wd with
  |none =>
   exact M7 ⟨_,rfl,p,dx,_,rfl,hp,rfl,qb hA hD⟩
  |some g =>
   obtain⟨sp,hg,iu⟩:=qd hA g hD;refine J3 ⟨_,rfl,dD,wd,g,rfl,rfl,BX.k,by rw[BX.ns wd,hD];rfl,_,rfl,g,sp,rfl,hg,_,rfl,p,C,dx,_,_,rfl,hp,T.cl,T.nB,rfl,_,rfl,p,C,dx,_,_,rfl,hp,T.cl,T.nS,rfl,_,rfl,iu _ ?_⟩;rintro v H2 ⟨t2,an,b',z',dt,rfl,Kj,e2,Ys,nb,qq⟩;have oy:=e2 _ _ hp;have Fo:=e2 _ _ jt;have Pf:=J7 oy Fo nofun;have pl:GS.length=past.length:=dE Fj;refine⟨t2,_,rfl,cq.of Kj,rfl,_,_,rfl,_,_,rfl,_,_,rfl,rfl,_,rfl,p,C,dx,_,_,rfl,oy,T.cl,T.nP,rfl,.inl ⟨rfl,_,ah.of Fo⟩,_,rfl,p,C,dx,_,_,rfl,oy,T.cl,T.nB,rfl,_,rfl,p,C,dx,_,_,rfl,oy,T.cl,T.nS,rfl,(by show 2<=sizeLine;decide),λtt Pj=>?_⟩;have s3:=af.new Pj (.tup [V.ref ba,V.str L.2]);have KI:=s3 _ _ Fo;have Di:=s3 _ _ oy;refine⟨pa,GS,_,rfl,rfl,KI,by rw[bE];lia,?_⟩;have KJ:(upd H2 tt (.tup [V.ref ba,V.str L.2])) tt=some (.tup [V.ref ba,V.str L.2]):=ae;generalize upd H2 tt (.tup [V.ref ba,V.str L.2])=H3 at *;have Rc:tt≠pa:=J7 KJ KI nofun;have nttp:tt≠p:=J7 KJ Di nofun;refine⟨_,rfl,_,rfl,(by show 2<=sizeLine;decide),λt5 Ss=>?_⟩;have Mc:(upd H3 pa (.lst (GS++[V.ref tt]))) p=some (.ins C dx (MH ba L.2 pa)):=by rw[j3 Pf];exact Di
   have n5a:pa≠t5:=i7 ae Ss;refine⟨t5,_,rfl,cq.of ae,rfl,_,_,rfl,⟨_,rfl,p,C,dx,_,rfl,by rw[j3 (i7 Mc Ss)];exact Mc,T.cl,T.nB,(by show 3<1000;decide),_,_,rfl,⟨_,rfl,p,C,dx,_,rfl,ae,T.cl,T.nS,(by show 3<1000;decide),rfl,?_⟩⟩⟩;rw[Ju];have h5:H3 t5=none:=by rw[j3 n5a.symm] at Ss;exact Ss
   have fr:zp (λb=>b=p\/b=pa) H3 (upd (upd (upd H3 pa (.lst (GS++[V.ref tt]))) t5 (.tup [V.ref b',V.str z'])) p (.ins C dx (MH b' z' pa))):=⟨λb o h1 h2=>by
    rw[j3 (λz0=>h1 (.inl z0)),j3 (i7 h2 h5),j3 (λz0=>h1 (.inr z0))];exact h2,λx hx=>by
    rcases hx with rfl|rfl
    ·exact Sn Di
    ·exact S3 KI⟩
   have GR:=e2.trans s3;have Su:=DK1.same GR;have Er:∀b∈lo,¬(b=p\/b=pa):=λb hb z0=>by
    obtain⟨xs,hx⟩:=Su.ls b hb;rcases z0 with rfl|rfl
    ·rw[Di] at hx;cases hx
    ·exact Su.no hb
   obtain⟨Ho,f',Yt⟩:=Ys;have Sv:=s3 _ _ f';have nb':¬(b'=p\/b'=pa):=λz0=>by
    rcases z0 with rfl|z0
    ·rw[Di] at Sv;cases Sv
    ·exact nb z0
   refine⟨_,rfl,qq _ (b'::lo) ⟨λh=>?_,λb hb=>?_,dx,b',GS++[V.ref tt],ae,.head _,⟨Ho,fr.k _ _ nb' Sv,(Bk.same s3 Yt).jw fr⟩,by rw[j3 Pf.symm,j3 n5a,ae],?_⟩ (λb hb=>bH.mp hb) λb o h1 h2 h=>fr.k _ _ (λz0=>z0.elim h1 h2) (s3 _ _ h)⟩
   ·rcases bH.mp h with h|h
    ·exact nb h.symm
    ·exact Su.no h
   ·rcases bH.mp hb with rfl|hb
    ·exact⟨Ho,fr.k _ _ nb' Sv⟩
    ·obtain⟨xs,hx⟩:=Su.ls b hb
     exact⟨xs,fr.k _ _ (Er b hb) hx⟩
   ·refine aZ.app (sr.jw fr Er (λ_ h=>bZ _ h) (aZ.imp' (λ_ _ ⟨t,b,h1,h2,h3,h4⟩=>⟨t,b,h1,GR _ _ h2,h3,h4.jw (X:=λ_=>False) ⟨λb o _ q=>GR b o q,λ_ x=>x.elim⟩ λx=>x⟩) Fj)) (.cons ⟨tt,ba,rfl,fr.tup KJ,bZ _ ym,(BW.jw (X:=λ_=>False) ⟨λb o _ q=>GR b o q,λ_ x=>x.elim⟩ λx=>x).jw fr (Er _ ym)⟩ .nil)
end
end Rim
namespace Rim
open PySem L2 Fr
structure GrU(z:aC)(hs:List i8)(h:i8)(kt kg:Nat)(A B:Int):Prop where
 s:jf z hs h kt kg A B
 a:fh 20000 A
 p:0<A
 b:0<B
 c:B<2^8000
structure c1G(z:aC)(hs:List i8)(h:i8)(kt kg:Nat)(ws:List Int)(v:Int):Prop where
 m:Mx z hs ws v
 t:∀j,j<kt->L8 hs ws 0 j<=h.1.getD j 0*v
 g:∀j,j<kg->h.2.getD j 0*v<=L8 hs ws 1 j
 s:h.2.sum*v-h.1.sum*v<x8 (hs.map λg=>g.2.sum-g.1.sum) ws
structure Jl(n:Nat)(x:Q2):Prop where
 p1:0<x.1
 b1:x.1<2^n
 p2:0<x.2
 b2:x.2<2^n
theorem a9K(hA:0<A)(hB:0<B):0<(low A B).1/\(low A B).1<=A:=by
 obtain⟨h1,_⟩:=QM (t:=A) hB;have hg:=QL (a:=A) hB;have p:0<(low A B).1:=by
  rcases Int.lt_or_le 0 (low A B).1 with q|q
  ·exact q
  ·have:=jU q (cC hg)
   lia
 refine⟨p,?_⟩;have:=fH (show(1:Int)<=gI A B by lia) (cC p);lia
theorem Jl.low(hA:0<A)(hB:0<B)(h1:A<2^n)(h2:B<2^n):Jl n (low A B) :=
 ⟨(a9K hA hB).1,pI (a9K hA hB).2 h1,a9Q hB,pI (b7R hB) h2⟩
structure Fl(z:aC)(hs:List i8)(h:i8)(kt kg:Nat)(x:Q2):Prop where
 s:Ev2 λA B=>fo z hs h kt kg A B/\0<A/\x=low A B
 b:Jl 1200 x
theorem Fl.is(hz:O4 z)(a:Fl z hs h kt kg x)(J:fo z hs h kt kg A B)(hG:∀g∈hs,HG br kt kg g)(gh:HG br kt kg h):x=low A B:=by
 obtain⟨A',B',I,_,rfl⟩:=a.s;exact b1V I.1 J.1 (I.eq hz J (λg hg=>⟨(hG g hg).lt,(hG g hg).lg⟩) gh.lt gh.lg)
theorem b6u:∀k,k<18->Lp.ow (2^60) (k+1)<2^1200:=by decide
theorem sj.b(hz:O4 z)(B:sj z hs h S)(hG:∀g∈hs,HG br kt kg g)(gh:HG br kt kg h)(hf:br<=2^60)(few:hs.length<=16)(ij:1<=kt)(wx:kt<=20)(wy:kg<=20):Fl z hs h kt kg (low (S.T (mE hs) (qE z h)) S.d):=by
 have U:=B.u hz hG gh ij wx wy;have hM:=b5U (z:=z) gh hG hf (qE z h);have hb:=b6u (hs.length+1) (by lia);have hd:=U.b;have hp:=U.p;have cast:∀x:Int,0<x->x.natAbs<2^1200->x<2^1200:=λx h0 h=>by
  have e:x=(x.natAbs:Int):=by lia
  rw[e];exact_mod_cast h
 exact⟨⟨_,_,U.s,hp,rfl⟩,Jl.low hp hd (cast _ hp (gU (B.1.w.Hu hM (aT _) (aT _)) hb)) (cast _ hd (gU (B.1.w.Ht hM) hb))⟩
end Rim
namespace Rim
open PySem L2 Fr
open Tx (S cs ch x6 J6 A5 w4)
theorem Sw(g:HG br kt kg h)(hf:br<=10^9)(h1:kt<=4)(h2:kg<=4):Sm h.1/\Sm h.2 :=
 ⟨⟨by rw[g.lt];lia,λx hx=>by have:=g.t x hx;lia⟩,by rw[g.lg];lia,λx hx=>by have:=g.g x hx;lia⟩
theorem Jl.Dk(h:Jl n x)(hn:n<=1900):x.1.natAbs.log2<1920/\x.2.natAbs.log2<1920:=by
 have gen:∀{a:Int},0<a->a<2^n->a.natAbs.log2<1920:=λ{a}h0 h1=>by
  have h2:a.natAbs<2^n:=by
   have:((a.natAbs:Nat):Int)<((2^n:Nat):Int):=by
    rw[Int.natAbs_of_nonneg (cC h0)]
    exact_mod_cast h1
   exact_mod_cast this
  have:=(mO (by lia)).mpr h2;lia
 exact⟨gen h.p1 h.b1,gen h.p2 h.b2⟩
inductive b3e(K:aF)(CN Pt:aA)(vs:List V)(H:Hp)(Q:VK)(E:XK):Prop|mk:∀(ba:aA)(xs:List V)(hs:List i8)(number:Int)(z:aC)(br:Int)(kt kg:Nat),vs=[.ref ba,.int number,.str z]->O4 z->O6 K H ba xs hs br kt kg->1<=kt->number.natAbs.log2<1920->LT Pt H->(∀(i:Nat)h x H' u,number=(i:Int)->hs[i]?=some h->Fl z hs h kt kg x->bj Pt H H'->LT Pt H'->Ex H' u x->Q u H')->(¬AA xs.length number->E (.ref CN) none H)->b3e K CN Pt vs H Q E
theorem a4P(F:bf P w K mg base (W2 P w) n f fd ["book","number","sizes"] (OI K CN Pt)):bf P w K mg base (W2 P w) n f fd ["book","number","sizes"] (b3e K CN Pt):=F.imp λvs H Q E h=>by
 obtain⟨ba,xs,hs,number,z,br,kt,kg,rfl,hz,B,ij,lm,L,kG,kE⟩:=h;exact⟨ba,xs,hs,number,z,br,kt,kg,rfl,hz,B,lm,L,λi h S H' u hi hh BS e L' hu=>kG i h _ H' u hi hh (BS.b hz B.g (B.g h (bK hh)) B.br B.few ij B.t B.k) e L' hu,kE⟩
abbrev Z5:List aC:=["book","sizes","things"]
inductive a7Q(K:aF)(CN Pt:aA)(vs:List V)(H:Hp)(Q:VK)(E:XK):Prop|mk:∀(ba l:aA)(xs us:List V)(hs:List i8)(num:Int)(z:aC)(kt kg:Nat),vs=[.ref ba,.str z,.ref l]->O4 z->O6 K H ba xs hs (10^9) kt kg->1<=kt->H l=some (.lst us)->us[0]?=some (.int num)->num.natAbs.log2<1920->LT Pt H->(∀(i:Nat)h x H',num=(i:Int)->hs[i]?=some h->Fl z hs h kt kg x->bj Pt H H'->LT Pt H'->Q (.str (De x)) H')->(¬AA xs.length num->E (.ref CN) none H)->a7Q K CN Pt vs H Q E
def b3m:p7 Z5 Z5 (i9 VX):={}
theorem b0q(F:Aj K "tell_share" VX f fd)(Cs:vn P w K mg base n "share" ["book","number","sizes"] (OI K CN Pt) f1 d1)(Cf:C9 P w K mg base n "fraction_text" ["one"] (RE K) f2 d2):bf P w K mg base (W2 P w) (n+1) f fd Z5 (a7Q K CN Pt):=by
 refine F.ob b3m λay A outer s H vs Q E hr h=>?_
 obtain⟨ba,l,xs,us,hs,num,z,kt,kg,rfl,hz,B,ij,hl,h0,lm,L,q,hE⟩:=h;refine⟨_,j4 (o4 (Cf.c hr (c6 (l7 (a4P Cs.ok) hr rfl Cs.m Cs.k Cs.b .nil V5 (c6 (pv 0) (c6 (l8 j5 (pv 2) d0 λ_ _=>rfl) (c6 (pv 1) c7)))) c7))),_,rfl,_,rfl,l,_,_,_,rfl,rfl,ah.of hl,A2 h0,_,rfl,ba,xs,hs,num,z,10^9,kt,kg,rfl,hz,B,ij,lm,L,λi h x H1 u hi hh X e1 L1 hu=>?_,hE⟩;obtain⟨a1,a2⟩:=X.b.Dk (by decide);exact⟨u,x,rfl,hu.v,a1,a2,q i h x H1 hi hh X e1 L1⟩
inductive a9P(K:aF)(vs:List V)(H:Hp)(Q:VK)(z3_:XK):Prop|mk:∀ba v1 v2 xs hs,vs=[.ref ba,v1,v2]->ah K H ba xs->Bk K H xs hs->hs.length<=100->(∀h∈hs,Sm h.1/\Sm h.2)->(∀H',af H H'->Q (.str (Ey hs)) H')->a9P K vs H Q z3_
def b5I:p7 Z5 Z5 (i9 V'):={}
theorem b2j{f1:aA}{d1:aK}(F:Aj K "tell_book" V' f fd)(Cb:C9 P w K mg base n "book_text" ["book"] (a8T K) f1 d1):bf P w K mg base (W2 P w) (n+1) f fd Z5 (a9P K):=by
 refine F.ob b5I λay A outer s H vs Q E hr h=>?_
 obtain⟨ba,v1,v2,xs,hs,rfl,hS,hB,hl,hm,q⟩:=h;refine⟨_,j4 (o4 (Cb.c hr (c6 (pv 0) c7))),?_⟩;exact⟨_,rfl,ba,xs,hs,rfl,hS,hB,hl,hm,λH' e=>q H' e⟩
abbrev b9p:List aC:=["book","sizes","things","takes","gives"]
theorem Pl{k:Nat}(h:k<=1000):(k:Int).natAbs.log2<1920:=b5j (by lia)
inductive b5X(K:aF)(CB CT:aA)(vs:List V)(H:Hp)(Q:VK)(E:XK):Prop|mk:∀ba l xs us hs z v h kt kg,vs=[.ref ba,.str z,.ref l]->H ba=some (.lst xs)->Bk K H xs hs->1<=hs.length->hs.length<=16->(∀g∈hs,g.1.length=kt/\g.2.length=kg)->kt<=4->kg<=4->H l=some (.lst us)->us[0]?=some v->HS K H v h->OV h->(ef h kt kg->hs.length<16->∀t r H',af H H'->H r=none->H' t=some (.tup [.str (x6 (hs.length:Int)),.ref r,.str z])->H' r=some (.lst (xs++[v]))->Q (.ref t) H')->(¬ef h kt kg->∀H',af H H'->E (.ref CB) none H')->(ef h kt kg->16<=hs.length->∀H',af H H'->E (.ref CT) none H')->b5X K CB CT vs H Q E
def Fq:p7 b9p Z5 (i9 Wa):={}
theorem b6K(F:Aj K "put_house" Wa f fd)(T:v8 mg)(zs:mg "str"=none)(Cm:vn P w K mg base n "with_one_more" ["houses","house","many_takes","many_gives"] (a4M K CB CT) f1 d1):bf P w K mg base (W2 P w) (n+1) f fd Z5 (b5X K CB CT):=by
 refine F.ob Fq λay A outer s H vs Q E hr h=>?_
 obtain⟨ba,l,xs,us,hs,z,v,h,kt,kg,rfl,ym,hB,h1,h16,hk,k4,g4,hl,h0,hv,dt,q,qB,qT⟩:=h;refine⟨_,j0 (D3 (l8 j5 (pv 0) d0 λ_ _=>rfl) (K4 rfl (p6 (j9 (i:=3) Fq.nd rfl (aI rfl)) (p6 (j9 (i:=4) Fq.nd rfl (aI rfl)) A4))))
  (j4 (o4 (A9 (c6 (v5 E5 rfl zs iB (c6 (j7 j6 rfl T.len bB (c6 (pv 0) c7)) c7)) (c6 (l7 Cm.ok hr rfl Cm.m Cm.k Cm.b .nil V5 (c6 (pv 0) (c6 (l8 j5 (pv 2) d0 λ_ _=>rfl) (c6 (j7 j6 rfl T.len bB (c6 (pv 3) c7)) (c6 (j7 j6 rfl T.len bB (c6 (pv 4) c7)) c7))))) (c6 (pv 1) c7)))))),?_⟩
 have xl:=dE hB;obtain⟨g0,hg0⟩:∃g,hs[0]?=some g:=⟨_,aS (by lia)⟩;obtain⟨x0,Hl⟩:∃x,xs[0]?=some x:=⟨_,aS (by lia)⟩;obtain⟨g0',Pn,⟨b,tb,gb,rfl,p1,p2,p3⟩⟩:=aZ.at hB Hl;rw[hg0] at Pn;cases Pn;obtain⟨e1,e2⟩:=hk g0 (bK hg0);have l1:((g0.1.map V.int).length:Int)=(kt:Int):=by rw[aH,e1]
 have l2:((g0.2.map V.int).length:Int)=(kg:Int):=by rw[aH,e2]
 refine⟨_,rfl,ba,_,_,_,rfl,rfl,ah.of ym,A2 Hl,b,_,rfl,p1,rfl,_,_,rfl,_,_,rfl,rfl,_,rfl,ba,_,rfl,.inl (ah.of ym),_,rfl,Pl (by lia),_,rfl,_,rfl,l,_,_,_,rfl,rfl,ah.of hl,A2 (j:=0) h0,_,rfl,tb,_,rfl,.inr p2,_,rfl,gb,_,rfl,.inr p3,?_⟩;rw[l1,l2];refine⟨ba,v,xs,h,(kt:Int),(kg:Int),rfl,ym,by lia,hv,dt,Pl (by lia),Pl (by lia),λg lt r H1 e BO GN=>⟨_,rfl,(by show 3<=sizeLine;decide),λt ht=>?_⟩,qB,λg ge H' e=>qT g (by lia) H' e⟩;have t1:=af.new ht (.tup [V.str (x6 (xs.length:Int)),V.ref r,V.str z]);refine q g (by lia) t r _ (e.trans t1) BO ?_ (t1 _ _ GN);rw[<-xl];exact ae
inductive b3f(K:aF)(CN CB:aA)(vs:List V)(H:Hp)(Q:VK)(E:XK):Prop|mk:∀(ba l:aA)(xs us:List V)(z:aC)(num:Int),vs=[.ref ba,.str z,.ref l]->H ba=some (.lst xs)->xs.length<=1000->H l=some (.lst us)->us[0]?=some (.int num)->num.natAbs.log2<1920->(∀i:Nat,num=(i:Int)->i<xs.length->2<=xs.length->∀t r H',af H H'->H r=none->H' t=some (.tup [.str "ok",.ref r,.str z])->H' r=some (.lst (S8 xs i))->Q (.ref t) H')->(¬AA xs.length num->∀H',af H H'->E (.ref CN) none H')->(AA xs.length num->xs.length=1->∀H',af H H'->E (.ref CB) none H')->b3f K CN CB vs H Q E
def Fs:p7 ["book","sizes","things","left"] Z5 (i9 Wb):={}
theorem a3o(h:i<l.length):(S8 l i).length=l.length-1:=by
 unfold S8;rw[aX,cI,eJ];lia
theorem b4r(F:Aj K "drop_house" Wb f fd)(kB:X4 K CB)(mB:mg "NoBook"=some (.ref CB))(Cw:vn P w K mg base n "without" ["houses","number"] (XG K CN) f1 d1):bf P w K mg base (W2 P w) (n+1) f fd Z5 (b3f K CN CB):=by
 refine F.ob Fs λay A outer s H vs Q E hr h=>?_
 obtain⟨ba,l,xs,us,z,num,rfl,ym,hx,hl,h0,lm,q,qN,qB⟩:=h;refine⟨_,j0 (r6 (i:=3) Fs.nd rfl (aI rfl) (l7 Cw.ok hr rfl Cw.m Cw.k Cw.b .nil V5 (c6 (pv 0) (c6 (l8 j5 (pv 2) d0 λ_ _=>rfl) c7))))
  (j0 (w6 (S6 (a7J (pv 3) λ_=>rfl)) (j4 (T7 kB rfl mB hr.hd (c6 l9 c7))) r8)
  (j4 (o4 (A9 (c6 l9 (c6 (pv 3) (c6 (pv 1) c7))))))),?_⟩
 refine⟨_,rfl,_,rfl,l,_,_,_,rfl,rfl,ah.of hl,A2 h0,ba,xs,num,rfl,ah.of ym,hx,lm,λi r H1 hi nj e1 BO GN=>?_,λbad=>qN bad H (af.refl _)⟩;subst hi;have ll:=a3o nj;refine⟨_,rfl,_,.inl ⟨_,ah.of GN,rfl⟩,?_⟩
 by_cases c:2<=xs.length
 ·have:(!(S8 xs i).isEmpty)=true:=by
   cases e:S8 xs i with
   |nil=>rw[e] at ll;simp at ll;lia
   |cons _ _=>rfl
  rw[this];refine M7 ⟨_,rfl,_,rfl,(by show 3<=sizeLine;decide),λt ht=>?_⟩;have t1:=af.new ht (.tup [V.str "ok",V.ref r,V.str z]);exact q i rfl nj c t r _ (e1.trans t1) BO ae (t1 _ _ GN)
 ·have:(!(S8 xs i).isEmpty)=false:=by
   have:S8 xs i=[]:=lM (by lia);rw[this];rfl
  rw[this];exact J3 ⟨(by show 1<=1000;decide),qB ⟨by lia,by lia⟩ (by lia) _ e1⟩
inductive c8i(K:aF)(CN CB:aA)(vs:List V)(H:Hp)(Q:VK)(E:XK):Prop|mk:∀(ba l:aA)(xs us:List V)(hs:List i8)(z:aC)(num:Int)(v:V)(h:i8)(kt kg:Nat),vs=[.ref ba,.str z,.ref l]->H ba=some (.lst xs)->Bk K H xs hs->1<=hs.length->hs.length<=16->(∀g∈hs,g.1.length=kt/\g.2.length=kg)->kt<=4->kg<=4->H l=some (.lst us)->us[0]?=some (.int num)->num.natAbs.log2<1920->us[1]?=some v->HS K H v h->OV h->(∀i:Nat,num=(i:Int)->i<xs.length->ef h kt kg->∀t r H',af H H'->H r=none->H' t=some (.tup [.str "ok",.ref r,.str z])->H' r=some (.lst ((xs.take i++[v])++xs.drop (i+1)))->Q (.ref t) H')->(¬AA xs.length num->∀H',af H H'->E (.ref CN) none H')->(AA xs.length num->¬ef h kt kg->∀H',af H H'->E (.ref CB) none H')->c8i K CN CB vs H Q E
def WE:p7 b9p Z5 (i9 R1):={}
theorem c9G(F:Aj K "alter_house" R1 f fd)(T:v8 mg)(Ca:vn P w K mg base n "with_another" ["houses","number","house","many_takes","many_gives"] (c7K K CN CB) f1 d1):bf P w K mg base (W2 P w) (n+1) f fd Z5 (c8i K CN CB):=by
 refine F.ob WE λay A outer s H vs Q E hr h=>?_
 obtain⟨ba,l,xs,us,hs,z,num,v,h,kt,kg,rfl,ym,hB,h1,h16,hk,k4,g4,hl,h0,lm,Yg,hv,dt,q,qN,qB⟩:=h;refine⟨_,j0 (D3 (l8 j5 (pv 0) d0 λ_ _=>rfl) (K4 rfl (p6 (j9 (i:=3) WE.nd rfl (aI rfl)) (p6 (j9 (i:=4) WE.nd rfl (aI rfl)) A4))))
  (j4 (o4 (A9 (c6 l9 (c6 (l7 Ca.ok hr rfl Ca.m Ca.k Ca.b .nil V5 (c6 (pv 0) (c6 (l8 j5 (pv 2) d0 (λ_ _=>rfl)) (c6 (l8 j5 (pv 2) d0 (λ_ _=>rfl)) (c6 (j7 j6 rfl T.len bB (c6 (pv 3) c7)) (c6 (j7 j6 rfl T.len bB (c6 (pv 4) c7)) c7)))))) (c6 (pv 1) c7)))))),?_⟩
 have xl:xs.length=hs.length:=dE hB;obtain⟨g0,hg0⟩:∃g,hs[0]?=some g:=⟨_,aS (by lia)⟩;obtain⟨x0,Hl⟩:∃x,xs[0]?=some x:=⟨_,aS (by lia)⟩;obtain⟨g0',Pn,⟨b,tb,gb,rfl,p1,p2,p3⟩⟩:=aZ.at hB Hl;rw[hg0] at Pn;cases Pn;obtain⟨e1,e2⟩:=hk g0 (bK hg0);have l1:((g0.1.map V.int).length:Int)=(kt:Int):=by rw[aH,e1]
 have l2:((g0.2.map V.int).length:Int)=(kg:Int):=by rw[aH,e2]
 refine⟨_,rfl,ba,_,_,_,rfl,rfl,ah.of ym,A2 Hl,b,_,rfl,p1,rfl,_,_,rfl,_,_,rfl,rfl,_,rfl,_,rfl,l,_,_,_,rfl,rfl,ah.of hl,A2 (j:=0) h0,_,rfl,l,_,_,_,rfl,rfl,ah.of hl,A2 (j:=1) Yg,_,rfl,tb,_,rfl,.inr p2,_,rfl,gb,_,rfl,.inr p3,?_⟩;rw[l1,l2];refine⟨ba,v,xs,h,num,(kt:Int),(kg:Int),rfl,ym,by lia,hv,dt,lm,Pl (by lia),Pl (by lia),λi hi lt g r H1 e BO GN=>⟨_,rfl,(by show 3<=sizeLine;decide),λt ht=>?_⟩,qN,qB⟩;have t1:=af.new ht (.tup [V.str "ok",V.ref r,V.str z]);exact q i hi lt g t r _ (e.trans t1) BO ae (t1 _ _ GN)
inductive b3o(K:aF)(vs:List V)(H:Hp)(Q:VK)(z3_:XK):Prop|mk:∀(v:V)(z:aC)(l:aA)(us:List V)(z':S),vs=[v,.str z,.ref l]->H l=some (.lst us)->us[0]?=some (.str z')->(∀t H',af H H'->H' t=some (.tup [.str "ok",v,.str z'])->Q (.ref t) H')->b3o K vs H Q z3_
def b8e:p7 Z5 Z5 (i9 Wc):={}
theorem b4N(F:Aj K "set_sizes" Wc f fd):bf P w K mg base (W2 P w) (n+1) f fd Z5 (b3o K):=by
 refine F.ob b8e λay A outer s H vs Q E hr h=>?_
 obtain⟨v,z,l,us,z',rfl,hl,h0,q⟩:=h;exact⟨_,j4 (o4 (A9 (c6 l9 (c6 (pv 0) (c6 (l8 j5 (pv 2) d0 λ_ _=>rfl) c7))))),_,rfl,_,rfl,l,_,_,_,rfl,rfl,ah.of hl,A2 h0,(by show 3<=sizeLine;decide),λt ht=>(q t _ (af.new ht _) ae)⟩
end Rim
namespace Rim
open PySem L2 Fr
inductive Scl(hs:List i8)(h:i8)(kt kg:Nat):aC->Prop
 |just {A B A1 B1:Int}:ShU "any" hs h kt kg A B->ShU "one" hs h kt kg A1 B1->low A B=low A1 B1->Scl hs h kt kg "just"
 |small {A B A1 B1 A2_ B2:Int}:ShU "any" hs h kt kg A B->ShU "one" hs h kt kg A1 B1->low A B≠low A1 B1->ShU "less" hs h kt kg A2_ B2->low A B=low A2_ B2->Scl hs h kt kg "small"
 |great {A B A1 B1 A2_ B2:Int}:ShU "any" hs h kt kg A B->ShU "one" hs h kt kg A1 B1->low A B≠low A1 B1->ShU "less" hs h kt kg A2_ B2->low A B≠low A2_ B2->Scl hs h kt kg "great"
inductive c8A(K:aF)(CN Pt:aA)(vs:List V)(H:Hp)(Q:VK)(E:XK):Prop|mk:∀(ba:aA)(xs:List V)(hs:List i8)(number:Int)(br:Int)(kt kg:Nat),vs=[.ref ba,.int number]->O6 K H ba xs hs br kt kg->1<=kt->number.natAbs.log2<1920->LT Pt H->(∀(i:Nat)h H' t,number=(i:Int)->hs[i]?=some h->Scl hs h kt kg t->bj Pt H H'->LT Pt H'->Q (.str t) H')->(¬AA xs.length number->E (.ref CN) none H)->c8A K CN Pt vs H Q E
def scScl:p7 ["book","number","by_any"] ["book","number"] (i9 c8v):={}
theorem d0r(F:Aj K "scale" c8v f fd)(Cs:vn P w K mg base n "share" ["book","number","sizes"] (OI K CN Pt) f1 d1):bf P w K mg base (W2 P w) (n+1) f fd ["book","number"] (c8A K CN Pt):=by
 have Cs':=c8n Cs.ok;refine F.vj scScl (λvs H Q E h=>?_) λay A outer s H vs Q E hr h=>?_
 ·obtain⟨ba,xs,hs,number,br,kt,kg,rfl,_⟩:=h
  rfl
 obtain⟨ba,xs,hs,number,br,kt,kg,rfl,B,ij,lm,L,q,hE⟩:=h;refine⟨_,j0 (r6 (i:=2) scScl.nd rfl (aI rfl) (l7 Cs' hr rfl Cs.m Cs.k Cs.b .nil V5 (c6 (pv 0) (c6 (pv 1) (c6 l9 c7)))))
  (j0 (w6 (l5 (d0Y hr) (pv 2) (l7 Cs' hr rfl Cs.m Cs.k Cs.b .nil V5 (c6 (pv 0) (c6 (pv 1) (c6 l9 c7)))) (r9 _)) (j4 (o4 l9)) r8)
  (j0 (w6 (l5 (d0Y hr) (pv 2) (l7 Cs' hr rfl Cs.m Cs.k Cs.b .nil V5 (c6 (pv 0) (c6 (pv 1) (c6 l9 c7)))) (r9 _)) (j4 (o4 l9)) r8)
  (j4 (o4 l9)))),?_⟩
 have xl:xs.length=hs.length:=dE B.b;refine⟨_,rfl,_,rfl,ba,xs,hs,number,"any",br,kt,kg,rfl,.inl rfl,B,ij,lm,L,λi h A0 B0 H1 u0 hi hh X0_ e1 L1 hu0=>?_,hE⟩;have bin:∀{H':Hp},bj Pt H H'->O6 K H' ba xs hs br kt kg:=λe=>⟨ah.fg L e B.l,Bk.fg L e B.b,B.g,B.br,B.few,B.t,B.k⟩;have nj:=(cA.mp hh).1;have gd:AA xs.length number:=⟨by lia,by lia⟩;refine⟨_,rfl,_,rfl,_,rfl,ba,xs,hs,number,"one",br,kt,kg,rfl,.inr (.inl rfl),bin e1,ij,lm,L1,λi' h' A1 B1 H2 u1 Ek Kp X1_ e2 L2 hu1=>?_,λbad=>absurd gd bad⟩;have:i'=i:=by lia
 subst this;rw[hh] at Kp;cases Kp;have hu2:=hu0.ka L1 e2;refine⟨dF _,dF _,Xc.dp hu2.v,Xc.dp hu1.v,c8p _,c8p _,bF (sF _ _) (d0D _),_,rfl,?_⟩;rw[d1Q];refine y6 (λc=>q i' h H2 "just" hi hh (.just X0_ X1_ (of_decide_eq_true c)) (e1.trans e2) L2) λc=>?_
 have c':=of_decide_eq_false (eN.mpr c);refine⟨_,rfl,_,rfl,_,rfl,ba,xs,hs,number,"less",br,kt,kg,rfl,.inr (.inr (.inl rfl)),bin (e1.trans e2),ij,lm,L2,λi2 h' A2_ B2 H3 u2 Ek Kp X2_ e3 L3 hu3=>?_,λbad=>absurd gd bad⟩;have:i2=i':=by lia
 subst this;rw[hh] at Kp;cases Kp;refine⟨dF _,dF _,Xc.dp (hu2.ka L2 e3).v,Xc.dp hu3.v,c8p _,c8p _,bF (sF _ _) (d0D _),_,rfl,?_⟩;rw[d1Q];exact y6 (λd=>q i2 h H3 "small" hi hh (.small X0_ X1_ c' X2_ (of_decide_eq_true d)) (e1.trans (e2.trans e3)) L3) λd=>q i2 h H3 "great" hi hh (.great X0_ X1_ c' X2_ (of_decide_eq_false (eN.mpr d))) (e1.trans (e2.trans e3)) L3
end Rim
namespace L2
open PySem
theorem cu.ne(T:cu P pos qual H)(h:H b=some o)(n:∀ps,o≠.my ps):b≠P:=λz=>by
 subst z;rcases T with t|⟨c,t,_⟩
 ·rw[h] at t;exact n _ (bD t)
 ·rw[h] at t;exact n _ (bD t)
theorem c9B(T:cu P pos qual H1)(hp:H1 p=none)(hz:n<sizeLine)(R:Nat->V->Hp->Prop)
  (hR:∀i y H H',cu P pos qual H->(∃zs,H p=some (.lst zs))->R i y H->(∀b o,b≠p->b≠P->H b=some o->H' b=some o)->R i y H')
  (step:∀i H ys N,i<n->bj P H1 H->cu P pos qual H->H p=some (.lst ys)->(∀v H3,bj P H H3->cu P pos qual H3->R i v H3->N v H3)->te ((c_ 1 fr σ).set 0 (some (.int (i:Int)))) H N)
  (hd:∀ys H,bj P H1 H->cu P pos qual H->H p=some (.lst ys)->ys.length=n->(∀i y,ys[i]?=some y->R i y H)->D H):IJ 1 fr (N7 0) te σ (Hd 0 n) H1 p D:=by
 refine⟨λi m ys H=>m=n-i/\i<=n/\bj P H1 H/\cu P pos qual H/\H p=some (.lst ys)/\ys.length=i/\∀j y,ys[j]?=some y->R j y H,⟨n,by simp,dM _,(af.new hp _).ka,T.same (af.new hp _),ae,rfl,λj y e=>by simp at e⟩,?_⟩;rintro i m ys H ⟨rfl,hi,e,L,hH,len,pr⟩
 by_cases fk:i<n
 ·refine .inr ⟨fk,λx H' y=>?_⟩
  obtain⟨rfl,rfl⟩:=y;rw[lH];refine⟨Wk.set (by decide),step i _ _ _ fk e L hH λv H3 e3 L3 r3=>?_⟩;have h3:=e3.get L hH nofun;refine⟨h3,by lia,n-(i+1),by lia,rfl,fk,(e.trans e3).write hp,L3.write h3,ae,by rw[aX,len];rfl,λj y ey=>?_⟩;have up:∀b o,b≠p->b≠P->H3 b=some o->upd H3 p (.lst (ys++[v])) b=some o:=λb o hb _ q=>by rw[j3 hb];exact q
  by_cases hj:j<ys.length
  ·rw[dH hj] at ey
   exact hR j y _ _ L ⟨_,hH⟩ (pr j y ey) λb o hb hP q=>up b o hb hP (e3 _ _ hP q)
  ·rw[dU (by lia)] at ey
   have om:j-ys.length=0:=by
    cases q:j-ys.length with
    |zero=>rfl
    |succ k=>rw[q] at ey;simp at ey
   rw[om] at ey;have:j=i:=by lia
   subst this;simp at ey;subst ey;exact hR j v _ _ L3 ⟨_,h3⟩ r3 up
 ·have:i=n:=by lia
  subst this;exact .inl ⟨Nat.le_refl _,hd ys H e L hH len pr⟩
end L2
namespace L2
open PySem PySem.Spec PyProof.Rows
section
variable{b:Bool}{xs:List V}{K:aF}{l:aA}{fr:List Nat}{tc:TT}{te:TE}{σ:St}{H1:Hp}{p:aA}{D:Hp->Prop}
end
end L2
namespace L2
open PySem
end L2
namespace Rim
open PySem L2 Fr
section
variable{P:aM}{w:aL}{K:aF}{mg:aC->Option aE}{base:aJ}{f:aA}{fd:aK}{n:Nat}
theorem d1k{n:Nat}{fr:List Nat}{σ:St}{i j:Nat}{v u:V}(hi:i<n)(hj:j<n):Wk (c_ n fr σ) (((c_ n fr σ).set i (some v)).set j (some u)):=by
 refine⟨by simp,λk w e=>?_⟩;have:¬k<n:=λhk=>by
  unfold c_ at e;rw[dH (by simpa using hk),gD] at e
  split at e<;>cases e
 rw[dP (by lia),dP (by lia)];exact e
structure d3b(pt pg:List Int)(ps D L:Int):Prop where
 l:0<L
 d:L∣D
 t:∀x∈pt,(low x D).2∣L
 g:∀x∈pg,(low x D).2∣L
 s:(low ps D).2∣L
end
end Rim
namespace Rim
open PySem
abbrev d1Z:Pos:=⟨288,40,288,104⟩
end Rim
namespace L2
open PySem PySem.Spec PyProof.Rows
section
variable{X:Cx}
end
end L2
namespace L2
open PySem PySem.Spec PyProof.Rows PySem.W
structure c7q(n:Nat)(lt:Nat->Nat->Bool):Prop where
 ir_:∀i,i<n->lt i i=false
 tr:∀i j k,i<n->j<n->k<n->lt i j=true->lt j k=true->lt i k=true
 tot:∀i j,i<n->j<n->i≠j->lt i j=true\/lt j i=true
abbrev c8F(n:Nat)(lt:Nat->Nat->Bool)(J:aG->Prop)(cmp:Nat->Nat->(Bool->aG->Prop)->aG->Prop):Prop :=
 ∀i j C s,i<n->j<n->J s->(∀s',J s'->C (lt i j) s')->cmp i j C s
def RB(n:Nat)(p:Array Nat):Prop:=p.toList.Perm (aW n)
def Up_(lt:Nat->Nat->Bool)(p:Array Nat)(k:Nat):Prop:=∀i j,i<j->j<k->lt (p.getD i 0) (p.getD j 0)=true
def Dn(lt:Nat->Nat->Bool)(p:Array Nat)(k:Nat):Prop:=∀i j,i<j->j<k->lt (p.getD j 0) (p.getD i 0)=true
theorem RB.size(h:RB n p):p.size=n:=by have:=h.length_eq;simpa using this
theorem RB.bd(h:RB n p)(hi:i<n):p.getD i 0<n:=by
 have hz:=h.size;have:p.getD i 0=p[i]'(by lia):=by simp[hz,hi]
 rw[this];exact fF.mp (h.mem_iff.mp (by simp))
theorem RB.ne(h:RB n p)(hi:i<n)(hj:j<n)(ne:i≠j):p.getD i 0≠p.getD j 0:=by
 have hz:=h.size;have e1:p.getD i 0=p.toList[i]'(by grind):=by simp_all
 have e2:p.getD j 0=p.toList[j]'(by grind):=by simp_all
 rw[e1,e2];intro z;exact ne ((List.getElem_inj (h.nodup_iff.mpr Sa)).mp z)
def RB.perm(h:RB n p)(e:q.Perm p):RB n q:=(Array.perm_iff_toList_perm.mp e).trans h
theorem c7Q{p q:Array Nat}(h:p[i]?=q[j]?):p.getD i 0=q.getD j 0:=by simp_all
theorem c8S(A:c7q n lt)(hc:c8F n lt J cmp)(hp:RB n p):∀f m s,1<=m->m+f=n->Up_ lt p m->J s →
  (∀m' s',m<=m'->m'<=n->Up_ lt p m'->(m'=n\/lt (p.getD m' 0) (p.getD (m'-1) 0)=true)->J s'->G m' s')->(mM p f m).kasWp cmp G s
 |0,m,s,h1,hm,hu,j,k=>by
  unfold mM;exact k m s (aT _) (by lia) hu (.inl (by lia)) j
 |f+1,m,s,h1,hm,hu,j,k=>by
  unfold mM;refine hc _ _ _ s (hp.bd (by lia)) (hp.bd (by lia)) j λs' j'=>?_
  cases e:lt (p.getD m 0) (p.getD (m-1) 0) with
  |true =>
   dsimp only;rw[if_pos rfl];exact k m s' (aT _) (by lia) hu (.inr e) j'
  |false =>
   dsimp only;rw[if_neg (by simp)];refine c8S A hc hp f (m+1) s' (by lia) (by lia) ?_ j' λm' Nb a b c d j''=>k m' Nb (by lia) b c d j'';have up1:lt (p.getD (m-1) 0) (p.getD m 0)=true:=by
    rcases A.tot _ _ (hp.bd (show m-1<n by lia)) (hp.bd (show m<n by lia)) (hp.ne (by lia) (by lia) (by lia)) with z|z
    ·exact z
    ·rw[e] at z;cases z
   intro i j' iy om
   by_cases hjm:j'<m
   ·exact hu i j' iy hjm
   ·have:j'=m:=by lia
    subst this
    by_cases hi:i=j'-1
    ·subst hi;exact up1
    ·exact A.tr _ _ _ (hp.bd (by lia)) (hp.bd (by lia)) (hp.bd (by lia)) (hu i (j'-1) (by lia) (by lia)) up1
theorem c9d(A:c7q n lt)(hc:c8F n lt J cmp)(hp:RB n p):∀f m s,1<=m->m+f=n->Dn lt p m->J s →
  (∀m' s',m<=m'->m'<=n->Dn lt p m'->J s'->G (p,m',0) s')->(oT f p m 0).kasWp cmp G s
 |0,m,s,h1,hm,hu,j,k=>by
  unfold oT;exact k m s (aT _) (by lia) hu j
 |f+1,m,s,h1,hm,hu,j,k=>by
  unfold oT;refine hc _ _ _ s (hp.bd (by lia)) (hp.bd (by lia)) j λs' j'=>?_
  cases e:lt (p.getD m 0) (p.getD (m-1) 0) with
  |true =>
   dsimp only;rw[if_pos rfl,if_neg (by lia)];refine c9d A hc hp f (m+1) s' (by lia) (by lia) ?_ j' λm' Nb a b c d=>k m' Nb (by lia) b c d;intro i j' iy om
   by_cases hjm:j'<m
   ·exact hu i j' iy hjm
   ·have:j'=m:=by lia
    subst this
    by_cases hi:i=j'-1
    ·subst hi;exact e
    ·exact A.tr _ _ _ (hp.bd (by lia)) (hp.bd (by lia)) (hp.bd (by lia)) e (hu i (j'-1) (by lia) (by lia))
  |false =>
   dsimp only;rw[if_neg (by simp)];have up1:lt (p.getD (m-1) 0) (p.getD m 0)=true:=by
    rcases A.tot _ _ (hp.bd (show m-1<n by lia)) (hp.bd (show m<n by lia)) (hp.ne (by lia) (by lia) (by lia)) with z|z
    ·exact z
    ·rw[e] at z;cases z
   refine hc _ _ _ s' (hp.bd (by lia)) (hp.bd (by lia)) j' λs2 j2=>?_;dsimp only;rw[up1,if_pos rfl];exact k m s2 (aT _) (by lia) hu j2
theorem d2m(hp:RB n p)(hm:m<=n)(hd:Dn lt p m):RB n (cR p 0 m)/\Up_ lt (cR p 0 m) m:=by
 refine⟨hp.perm (mirror_perm _ _ _ _),λi j iy hj=>?_⟩;have hz:=hp.size;have e:∀k,k<m->(cR p 0 m).getD k 0=p.getD (m-1-k) 0:=λk hk=>c7Q (by
  have:=getElem?_mirror_all (xs:=p) (i:=0) (j:=m) (by lia) k;rw[if_pos ⟨Nat.zero_le _,hk⟩] at this;unfold cR;rw[this]
  congr 1
  lia)
 rw[e i (by lia),e j hj];exact hd _ _ (by lia) (by lia)
theorem d0T(A:c7q n lt)(hc:c8F n lt J cmp)(hp:RB n p)(h1:1<=m)(hm:m<=n)(hd:Dn lt p m)(j:J s)
  (k:∀m' q s',1<=m'->m'<=n->RB n q->Up_ lt q m'->J s'->G (m',q) s'):(kas_tail3 m n p).kasWp cmp G s:=by
 unfold kas_tail3;rw[cE];obtain⟨r1,r2⟩:=d2m hp hm hd;exact c8S A hc r1 _ m s h1 (by lia) r2 j λm' s' a b c _ j'=>k m' _ s' (by lia) b r1 c j'
theorem c8L(A:c7q n lt)(hc:c8F n lt J cmp)(hp:RB n p)(hm:m+1<=n)(hd:Dn lt p (m+1))(j:J s)
  (k:∀m' q s',1<=m'->m'<=n->RB n q->Up_ lt q m'->J s'->G (m',q) s'):(Sj m n p).kasWp cmp G s:=by
 unfold Sj;rw[cE];refine c9d A hc hp _ (m+1) s (by lia) (by lia) hd j λm' s' a b c j'=>?_
 rw[if_neg (by lia)];exact d0T A hc hp (show 1<=m' by lia) b c j' k
theorem d0s(A:c7q n lt)(hc:c8F n lt J cmp)(hp:RB n p)(h1:1<=n)(j:J s)
  (k:∀m' q s',1<=m'->m'<=n->RB n q->Up_ lt q m'->J s'->G (m',q) s'):(kas_count n p).kasWp cmp G s:=by
 unfold kas_count;rw[cE];refine c8S A hc hp _ 1 s (aT _) (by lia) (λi j a b=>by lia) j λm s' a b c d j'=>?_
 by_cases hmn:m=n
 ·rw[if_pos (by lia)]
  exact k m p s' a b hp c j'
 rw[if_neg (by lia)];have fk:=d.resolve_left hmn
 by_cases hm1:m>1
 ·rw[if_pos hm1]
  refine hc _ _ _ s' (hp.bd (by lia)) (hp.bd (by lia)) j' λs2 j2=>?_;dsimp only;rw[c 0 (m-1) (by lia) (by lia),if_pos rfl];exact k m p s2 a b hp c j2
 ·rw[if_neg hm1]
  have:m=1:=by lia
  subst this;refine c8L A hc hp (by lia) (λi j iy hj=>?_) j' k;have hi:i=0:=by lia
  have hj:j=1:=by lia
  subst hi;subst hj;exact fk
theorem c7Z(A:c7q n lt)(hc:c8F n lt J cmp)(hp:RB n p)(hk:k<n)(hu:Up_ lt p k):∀f l r s,l<=r->r<=k->r-l<=f->(∀i,i<l->lt (p.getD i 0) (p.getD k 0)=true)->(∀i,r<=i->i<k->lt (p.getD k 0) (p.getD i 0)=true)->J s →
  (∀l' s',l'<=k->(∀i,i<l'->lt (p.getD i 0) (p.getD k 0)=true)->(∀i,l'<=i->i<k->lt (p.getD k 0) (p.getD i 0)=true)->J s'->G l' s')->(Bi p k f l r).kasWp cmp G s
 |0,l,r,s,hlr,hrk,hf,a,b,j,q=>by
  unfold Bi;have:l=r:=by lia
  subst this;exact q l s hrk a b j
 |f+1,l,r,s,hlr,hrk,hf,a,b,j,q=>by
  unfold Bi
  by_cases hl:l ≥ r
  ·rw[if_pos hl]
   have:l=r:=by lia
   subst this;exact q l s hrk a b j
  rw[if_neg hl];have m1:l<=(l+r)/2:=by lia
  refine hc _ _ _ s (hp.bd hk) (hp.bd (by lia)) j λs' j'=>?_
  cases e:lt (p.getD k 0) (p.getD ((l+r)/2) 0) with
  |true =>
   dsimp only;rw[if_pos rfl];refine c7Z A hc hp hk hu f l _ s' m1 (by lia) (by lia) a (λi h1 h2=>?_) j' q
   by_cases hi:i=(l+r)/2
   ·subst hi;exact e
   ·exact A.tr _ _ _ (hp.bd hk) (hp.bd (by lia)) (hp.bd (by lia)) e (hu _ i (by lia) h2)
  |false =>
   dsimp only;rw[if_neg (by simp)];have up1:lt (p.getD ((l+r)/2) 0) (p.getD k 0)=true:=by
    rcases A.tot _ _ (hp.bd (show(l+r)/2<n by lia)) (hp.bd hk) (hp.ne (by lia) (by lia) (by lia)) with z|z
    ·exact z
    ·rw[e] at z;cases z
   refine c7Z A hc hp hk hu f _ r s' (by lia) hrk (by lia) (λi h1=>?_) b j' q
   by_cases hi:i=(l+r)/2
   ·subst hi;exact up1
   ·exact A.tr _ _ _ (hp.bd (by lia)) (hp.bd (by lia)) (hp.bd hk) (hu i _ (by lia) (by lia)) up1
theorem d0a(A:c7q n lt)(hp:RB n p)(hk:k<n)(hl:l<=k)(hu:Up_ lt p k)(a:∀i,i<l->lt (p.getD i 0) (p.getD k 0)=true)(b:∀i,l<=i->i<k->lt (p.getD k 0) (p.getD i 0)=true) :
  RB n (bubble p k (k-l))/\Up_ lt (bubble p k (k-l)) (k+1):=by
 refine⟨hp.perm (bubble_perm _ _ _),?_⟩;have hz:=hp.size;have e0:(bubble p k (k-l)).getD l 0=p.getD k 0:=c7Q (by rw[Da (by lia) _ (by lia),if_pos (by lia)]);have e1:∀i,i<l->(bubble p k (k-l)).getD i 0=p.getD i 0:=λi hi=>c7Q (by rw[Da (by lia) _ (by lia),if_neg (by lia),if_neg (by lia)]);have e2:∀i,l<i->i<=k->(bubble p k (k-l)).getD i 0=p.getD (i-1) 0:=λi h1 h2=>c7Q (by rw[Da (by lia) _ (by lia),if_neg (by lia),if_pos (by lia)]);intro i j iy hj;rcases Nat.lt_trichotomy j l with z|z|z
 ·rw[e1 i (by lia),e1 j z];exact hu i j iy (by lia)
 ·subst z;rw[e0,e1 i iy];exact a i iy
 ·rw[e2 j z (by lia)]
  rcases Nat.lt_trichotomy i l with y|y|y
  ·rw[e1 i y];exact hu i (j-1) (by lia) (by lia)
  ·subst y;rw[e0];exact b (j-1) (by lia) (by lia)
  ·rw[e2 i y (by lia)];exact hu (i-1) (j-1) (by lia) (by lia)
theorem d0P(A:c7q n lt)(hc:c8F n lt J cmp):∀f p k s,RB n p->k+f=n->Up_ lt p k->J s->(∀q s',RB n q->Up_ lt q n->J s'->G q s')->(fB f p k).kasWp cmp G s
 |0,p,k,s,hp,hk,hu,j,q=>by
  unfold fB;have:k=n:=by lia
  subst this;exact q p s hp hu j
 |f+1,p,k,s,hp,hk,hu,j,q=>by
  unfold fB;rw[cE];refine c7Z A hc hp (show k<n by lia) hu k 0 k s (dM _) (aT _) (by lia) (λi h=>by lia) (λi h1 h2=>by lia) j λl s' hl a b j'=>?_;obtain⟨r1,r2⟩:=d0a A hp (show k<n by lia) hl hu a b;exact d0P A hc f _ (k+1) s' r1 (by lia) r2 j' q
theorem d1i(A:c7q n lt)(hc:c8F n lt J cmp)(h1:1<=n)(j:J s)(q:∀p s',RB n p->Up_ lt p n->J s'->G p s'):(kas_sort n).kasWp cmp G s:=by
 unfold kas_sort;rw[cE];refine d0s A hc (show RB n (List.toArray (aW n)) from Ty _) h1 j λm p s' a b hp hu j'=>?_
 by_cases hm:m<n
 ·rw[if_pos hm,show max m 1=m by lia]
  exact d0P A hc _ p m s' hp (by lia) hu j' q
 ·rw[if_neg hm]
  have:m=n:=by lia
  subst this;exact q p s' hp hu j'
section
variable{X:Cx}{pins:List (aA×Obj)}{σ:St}{H:Hp}{s:aG}{fr:List Nat}{scope:cQ}{col:aC}{qual:aC}{f:aA}{cd:aE}{A':aV}
theorem c9E(I:Inv X pins σ H s)(hA:A'.frames=some X.stack)(hh:A'.handled=X.A.handled)
  (NQ:A'.depth<recursionLimit) (hk:scope.kind=.function) (h:BA X.env.scope scope X.N fr=true)
  (kf:∀x∈scope.names,x.2≠.cell) (CI:scope.names.lookup col=some .local) (UZ:scope.isCoroutine=false) (JX:scope.isGenerator=false)
  (hf:s.heap.get? f=some (oU "<lambda>" qual params body scope (p_ X.env scope.names []) pm c' BE)) (xo:s.heap.CodeRec (.ref c') qual)
  (hb:∀u,bindArgs (W.kla_fn "<lambda>" qual params body scope (p_ X.env scope.names []) pm (.ref c') BE) ⟨[u],[]⟩=pure [(col,u)])
  (fz:PE (QN X col fr qual scope f (.ref c') A' s H) body t) (r:RelV v u) (ht:t (some v::LB fr σ) H P)
  (q:∀w H' y s',RelV w y->P w H'->Inv X pins σ H' s'->Q y s'):wpAny (model X.prog X.w) A' (call (.ref f) [u]) Q E s:=by
 refine lV (W.kla_callFunE NQ hf rfl UZ JX rfl xo ?_);rw[hb u];refine bG (wpAny_newFunctionEnv kf (λy hy=>?_) (λh₁ EL hsb=>?_) hk)
 ·cases cJ.mp hy;exact CI
 ·have kp:=λb o e=>hsb.extBut b o (dB (bN e)) (bL _ e)
  refine⟨I.nolimit.keeps kp,W.kla_codeExpr (eY (fz [] _ _ _ _ (I.lam (qual:=qual) (f:=f) (cd:=.ref c') (t':=s.toks+[(col,u)].length) hA hh hk h kf CI EL kp r) ht) (λy s' hy=>?_) λe s' z=>eD z)⟩;obtain⟨w,H',J',G',hp⟩:=hy;exact q w H' y s' G' hp (I.Bx J'.os J'.base J'.ck J'.bare λb hb=>by cases hb)
end
theorem c8T(h:Q (!a&&b) s):wpAny (model prog w) A (oneLt' true (.bool a) (.bool b)) Q E s:=by
 rw[oneLt'_eq];refine aN (wpAny_cRoomFor_byValue rfl (aN (wpAny_callSpecialIfBound?_slot rfl Sy ?_)));refine oQ Sy rfl F.entry_int_lt ?_ (F.args_int_lt_2 _ _)
 cases a<;>cases b
 ·show wpAny _ _ (ret (.bool (decide ((0:Int)<0)))) _ _ s
  exact bG ⟨_,rfl,gC h⟩
 ·show wpAny _ _ (ret (.bool (decide ((0:Int)<1)))) _ _ s
  exact bG ⟨_,rfl,gC h⟩
 ·show wpAny _ _ (ret (.bool (decide ((1:Int)<0)))) _ _ s
  exact bG ⟨_,rfl,gC h⟩
 ·show wpAny _ _ (ret (.bool (decide ((1:Int)<1)))) _ _ s
  exact bG ⟨_,rfl,gC h⟩
theorem c7W(h:Q (decide (a<b)) s):wpAny (model prog w) A (oneLt' false (.int a t) (.int b u)) Q E s:=by
 rw[oneLt'_eq];exact aN (vD (λi=>[a,b].getD i 0) (λi v h=>h) 0 1 _ _ _ _ _ ⟨t,rfl⟩ ⟨u,rfl⟩ (gC h))
abbrev c8D:=Bool×Int×Int
def kLt(k k':c8D):Bool:=if k.1=k'.1 then (if k.2.1=k'.2.1 then decide (k.2.2<k'.2.2) else decide (k.2.1<k'.2.1)) else (!k.1&&k'.1)
def kV3(k:c8D):List V:=[.bl k.1,.int k.2.1,.int k.2.2]
theorem c8b k:kLt k k=false:=by simp[kLt]
theorem c7R:kLt a b=true ↔ (a.1=false/\b.1=true)\/(a.1=b.1/\(a.2.1<b.2.1\/(a.2.1=b.2.1/\a.2.2<b.2.2))):=by
 unfold kLt
 by_cases e1:a.1=b.1
 ·rw[if_pos e1]
  have n1:¬(a.1=false/\b.1=true):=by rw[e1];rintro⟨z,y⟩;rw[z] at y;cases y
  by_cases e2:a.2.1=b.2.1
  ·rw[if_pos e2,decide_eq_true_iff]
   constructor
   ·intro h;exact .inr ⟨e1,.inr ⟨e2,h⟩⟩
   ·rintro(z|⟨_,z|⟨_,z⟩⟩)
    ·exact absurd z n1
    ·lia
    ·exact z
  ·rw[if_neg e2,decide_eq_true_iff]
   constructor
   ·intro h;exact .inr ⟨e1,.inl h⟩
   ·rintro(z|⟨_,z|⟨z,_⟩⟩)
    ·exact absurd z n1
    ·exact z
    ·exact absurd z e2
 ·rw[if_neg e1]
  constructor
  ·intro h
   have h':(!a.1)=true/\b.1=true:=by simp_all
   exact .inl ⟨by simpa using h'.1,h'.2⟩
  ·rintro(⟨z,y⟩|⟨z,_⟩)
   ·rw[z,y];rfl
   ·exact absurd z e1
theorem d0b(h:kLt a b=true)(h':kLt b c=true):kLt a c=true:=by
 rw[c7R] at *;rcases h with⟨h1,h2⟩|⟨h1,h2⟩<;>rcases h' with⟨g1,g2⟩|⟨g1,g2⟩
 ·exact .inl ⟨h1,g2⟩
 ·exact .inl ⟨h1,g1▸h2⟩
 ·exact .inl ⟨h1▸g1,g2⟩
 ·exact .inr ⟨h1.trans g1,by lia⟩
theorem c9K(h:a.2.2≠b.2.2):kLt a b=true\/kLt b a=true:=by
 rw[c7R,c7R]
 cases e:a.1<;>cases e':b.1
 ·by_cases z:a.2.1<b.2.1\/(a.2.1=b.2.1/\a.2.2<b.2.2)
  ·exact .inl (.inr ⟨rfl,z⟩)
  ·exact .inr (.inr ⟨rfl,by lia⟩)
 ·exact .inl (.inl ⟨rfl,rfl⟩)
 ·exact .inr (.inl ⟨rfl,rfl⟩)
 ·by_cases z:a.2.1<b.2.1\/(a.2.1=b.2.1/\a.2.2<b.2.2)
  ·exact .inl (.inr ⟨rfl,z⟩)
  ·exact .inr (.inr ⟨rfl,by lia⟩)
theorem d1T(hx:gP s.heap x its.toArray)(hy:gP s.heap y its'.toArray)(rx:Vals (kV3 k) its)(ry:Vals (kV3 k') its')(h:Q (kLt k k') s) :
  wpAny (model prog w) A (keyLt' (tuples' true) (.ref x) (.ref y)) Q E s:=by
 obtain⟨k1,k2,k3⟩:=k;obtain⟨l1,l2,l3⟩:=k';obtain⟨ox,ex,_,nx,dx⟩:=hx;obtain⟨oy_,ey,_,ny_,dy_⟩:=hy;rcases rx with _|⟨a1,_|⟨a2,_|⟨a3,_|_⟩⟩⟩
 rcases ry with _|⟨b1,_|⟨b2,_|⟨b3,_|_⟩⟩⟩
 cases a1;cases b1;obtain⟨t2,rfl⟩:=a2;obtain⟨t3,rfl⟩:=a3;obtain⟨u2,rfl⟩:=b2;obtain⟨u3,rfl⟩:=b3;refine kat_lt ex dx ey dy_ ?_
 refine Kn (zX k1 l1 prog w _ _ ?_)
 by_cases e1:k1=l1
 ·subst e1
  rw[show(k1==k1)=true by simp];refine Op (Kn (wpAny_eqBool_int ?_))
  by_cases e2:k2=l2
  ·subst e2
   rw[show(k2==k2)=true by simp];refine Op (Kn (wpAny_eqBool_int ?_))
   by_cases e3:k3=l3
   ·subst e3
    rw[show(k3==k3)=true by simp];refine Op (kat_nil ?_);rw[c8b] at h;exact h
   ·rw[show(k3==l3)=false by simpa using e3]
    refine kat_no (c7W ?_)
    simpa[kLt] using h
  ·rw[show(k2==l2)=false by simpa using e2]
   refine kat_no (c7W ?_)
   simpa[kLt,e2] using h
 ·rw[show(k1==l1)=false by simpa using e1]
  refine kat_no (c8T ?_)
  simpa[kLt,e1] using h
theorem c8I{n:Nat}(hh:A.handled=none)(hr:IsRange s.heap r a b c t u v)(hsmall:Uf a b c=true)
  (hn:sU a b c=n) (hlen:n<=2^24)
  (hQ:∀h' tk acc,(∀b o,s.heap.get? b=some o->h'.get? b=some o)->ItemsOf (λi v=>∃t,v=.int (a+i*c) t) acc n->Q acc.toList {s with heap:=h',toks:=tk}) :
  wpAny (model prog w) A (collect (.ref r)) Q E s:=by
 unfold collect;refine aN (wpAny_runValue (rE F.entry_proto_collect ?_));rw[wN F.plain_proto_collect _]
 refine aN (lQ (bG ⟨plainId_quiet Tk _,rE F.entry_list_iadd ?_⟩));rw[wN Tk _]
 have hS:(s.heap.push {cls:=.type "list",data:=.seq ([]:List aE).toArray}).get? s.heap.objs.size=some {cls:=.type "list",data:=.seq #[]}:=dG _ rfl;refine wpAny_extend_range (R:=λr s'=>match r with
  |.ok (.ret v)=>wpAny (model prog w) A (match v with
   |.ref a=>(do
    let o <- load a
    match o.data with
    |.seq xs _=>pure xs.toList
    |_=>unsupported "internal:collect")
   |_=>unsupported "internal:collect") Q E s'
  |.ok _=>False
  |.error e=>E e s') hh (bL _ hr) hsmall hn hlen _ _ 0 hS λh' tk J_ c' hk BG NU=>?_
 exact aN (nE BG (bG (hQ h' tk J_ (λb o e=>hk b o (dB (bN e)) (bL _ e)) NU)))
end L2
set_option maxHeartbeats 1000000
namespace L2
open PySem PySem.Spec PyProof.Rows PySem.W
section
variable{X:Cx}{pins:List (aA×Obj)}{σ:St}{H H':Hp}{s:aG}{kS_ D fq:aA}{ns:List Int}{g:Int->Bool×Int}{E:aE->aG->Prop}
abbrev c7D(g:Int->Bool×Int)(m:Int):c8D:=((g m).1,(g m).2,m)
def du(g:Int->Bool×Int)(H:Hp)(ns:List Int)(vs:List V):Prop:=aZ (λm v=>∃t,v=V.ref t/\H t=some (.tup (kV3 (c7D g m)))) ns vs
theorem du.same(h:du g H ns vs)(e:∀b xs,H b=some (.tup xs)->H' b=some (.tup xs)):du g H' ns vs:=by
 induction h with
 |nil=>exact .nil
 |cons r _ ih =>
  obtain⟨t,z,q⟩:=r;exact .cons ⟨t,z,e _ _ q⟩ ih
theorem du.snoc(h:du g H ns vs)(q:H t=some (.tup (kV3 (c7D g m)))):du g H (ns++[m]) (vs++[.ref t]):=by
 induction h with
 |nil=>exact .cons ⟨t,rfl,q⟩ .nil
 |cons r _ ih=>exact .cons r ih
abbrev S1(a:aA)(o:Obj):HO:=.ext λh=>h.get? a=some o
abbrev d0Q(X:Cx)(pins:List (aA×Obj))(σ:St)(H:Hp)(fq:aA)(ns:List Int)(g:Int->Bool×Int):Prop :=
 ∀H',af H H'->∀m∈ns,∀u s Q E,Inv X pins σ H' s->RelV (.int m) u →
  (∀t s',H' t=none->Inv X pins σ (upd H' t (.tup (kV3 (c7D g m)))) s'->Q (.ref t) s')->wpAny (model X.prog X.w) X.A.in1.in1 (call (.ref fq) [u]) Q E s
theorem c9m{C:List aE->aG->Prop}
  (hb:∀x(s:aG)(R:aG->Prop),wpAny M A (call f [x]) (λk s'=>Ev2 λ(ks:List aE)(e:Nat)=>s'.heap.get? kS_=some (seqObj "list" ks.toArray e)/\ks.length<64/\R {s' with heap:=s'.heap.update kS_ (gT (·.push k))}) (λ_ _=>False) s →
   wpAny M A (body x ⟨⟩) (λr s'=>r=.yield ⟨⟩/\R s') E s)
  (st:∀x r s,C (x::r) s->wpAny M A (call f [x]) (λk s'=>Ev2 λ(ks:List aE)(e:Nat)=>s'.heap.get? kS_=some (seqObj "list" ks.toArray e)/\ks.length<64/\C r {s' with heap:=s'.heap.update kS_ (gT (·.push k))}) (λ_ _=>False) s) :
  ∀r s,C r s->wpAny M A (forIn r PUnit.unit body) (λ_ s'=>C [] s') E s
 |[],s,h=>by rw[qZ];exact bG h
 |x::r,s,h=>by
  rw[oA];refine aN (eY (hb x s (C r) (st x r s h)) (λq s' hq=>?_) λ_ _ z=>z);obtain⟨rfl,h'⟩:=hq;exact c9m hb st r s' h'
theorem Inv.lsetS{o:Obj}(I:Inv X pins σ H s)(hH:H D=some (S1 D (seqObj "list" #[] n)))
  (hf:f #[]=its'.toArray) (hv:Vals ys its') (hz:ys.length<=sizeLine) :
  Inv X pins σ (upd H D (.lst ys)) {s with heap:=s.heap.update D (gT f)}:=by
 have q:=Ag (show s.heap.get? D=some {cls:=.type "list",data:=.seq (([]:List aE).toArray) n} from((I.ck D _ hH).1)) f;rw[hf] at q;exact I.write (hH▸trivial) (.inl rfl) (λb' u hb hu=>(uB s.heap (gT f) (bV hb)).trans hu) ⟨_,q⟩ ⟨hz,its',_,hv,q⟩
def Sk3(g:Int->Bool×Int)(ns ns':List Int):Prop:=ns'.Perm ns/\ns'.Pairwise λa b=>kLt (c7D g a) (c7D g b)=true
theorem c9i{st}{ns':List Int}(I:Inv X pins σ H s)(hk:H kS_=some (.lst vs))(hD:H D=some (S1 D (seqObj "list" #[] e1)))
  (hv:vs.length<64) (ho:(arrOf st).map (·.2)=out.toArray) (ro:Vals (ns'.map V.int) out) (hn:ns'.length<64) (hf:failedOf st=none)
  (k:∀s',Inv X pins σ (upd (upd H kS_ (.lst [])) D (.lst (ns'.map V.int))) s'->P (.done (.ret .none)) s'):wpAny (model X.prog X.w) A (ksk_tail D false e1 (.ref kS_) st) P E s:=by
 obtain⟨z,its,c,r,hl,e⟩:=I.Cz hk;have lo:out.length=ns'.length:=by have:=ro.length;simpa using this.symm
 unfold ksk_tail
 try dsimp only
 rw[ho];have I1:=I.JM (t':=s.toks) (f:=λ_=>#[]) hk e rfl .nil (dM _);refine aN (hW e rfl (aN (jR ?_)) (by simp_all) (dM _));have hD1:(upd H kS_ (.lst [])) D=some (S1 D (seqObj "list" #[] e1)):=by rw[j3 (J7 hD hk nofun)];exact hD
 have eD_:=(I1.ck D _ hD1).1;refine aN (seqEpoch_at eD_ rfl ?_);have I2:=I1.lsetS (o:=default) (f:=λ_=>out.toArray) hD1 rfl ro (by rw[aH];exact bF (gQ hn) (by decide));refine aN (hW eD_ rfl ?_ (dM _) (by show out.toArray.size<=_;rw[bY,bE];lia));rw[hf];simp only[bne_self_eq_false,uT,if_false];exact bG (k _ I2)
theorem d0N{α:Type}{R:α->α->Prop}:∀{l:List α},l.length<2->l.Pairwise R
 |[],_=>.nil
 |[_],_=>.cons (λb hb=>by cases hb) .nil
theorem c7t:∀{l}{l':List β}{i:Nat}{a},aZ F l l'->l[i]?=some a->∃b,l'[i]?=some b/\F a b
 |_,_,_,_,.nil,e=>by simp at e
 |_,_,0,_,.cons r _,e=>by simp at e;subst e;exact⟨_,rfl,r⟩
 |_,_,i+1,x,.cons _ t,e=>by
  obtain⟨b,h1,h2⟩:=c7t t (by simpa using e);exact⟨b,by simpa using h1,h2⟩
theorem d0J(h:du g H ns vs)(r:Vals vs ks)(I:Inv X pins σ H s)(hi:i<ns.length):Ev2 λt its=>ks.getD i iN=.ref t/\gP s.heap t its.toArray/\Vals (kV3 (c7D g (ns.getD i 0))) its:=by
 have e:ns[i]?=some (ns.getD i 0):=by rw[bA,aS hi];rfl
 obtain⟨v,hv,t,rfl,q⟩:=c7t h e;obtain⟨u,hu,ru⟩:=r.get hv
 cases ru;obtain⟨_,its,rt,ht⟩:=I.ck t _ q;exact⟨t,its,by rw[bA,hu];rfl,ht,rt⟩
theorem c7M:∀{ns}{vs}{ks},du g H ns vs->Vals vs ks->mz X.prog X.w H h->∃fs,KatTups h ks fs/\fs.length=ns.length/\∀v∈fs,∃b,v=pT b
 |_,_,_,.nil,.nil,_=>⟨[],.nil,rfl,λv hv=>by cases hv⟩
 |_,_,_,.cons ⟨t,e,q⟩ hr,.cons rv rr,I=>by
  subst e
  cases rv;obtain⟨fs,k1,k2,k3⟩:=c7M hr rr I;obtain⟨_,its,rt,o,ho,hc,n,hd⟩:=I t _ q;rcases rt with _|⟨a1,_|⟨a2,_|⟨a3,_|_⟩⟩⟩
  cases a1;exact⟨_::fs,KatTups.cons ho hc hd rfl k1,congrArg (·+1) k2,λv hv=>(bH.mp hv).elim (λz=>⟨_,z⟩) (k3 v)⟩
theorem d2t(I:Inv X pins σ H s)(hk:H kS_=some (.lst vs))(hD:H D=some (S1 D (seqObj "list" #[] e1)))
  (K:du g H ns vs) (rk:Vals vs ks) (ri:Vals (ns.map V.int) its) (hn:ns.length<64) (nd:ns.Nodup)
  (k:∀ns' s',Sk3 g ns ns'->Inv X pins σ (upd (upd H kS_ (.lst [])) D (.lst (ns'.map V.int))) s'->P (.done (.ret .none)) s') :
  wpAny (model X.prog X.w) X.A.in1.in1 (ksk_end D false its.toArray e1 (.ref kS_) ks.toArray) P E s:=by
 have li:its.length=ns.length:=by have:=ri.length;simpa using this.symm
 have lv:=K.length.symm;have lk:ks.length=its.length:=by rw[<-rk.length,lv,li]
 unfold ksk_end
 try dsimp only
 by_cases h2:its.toArray.size<2
 ·rw[if_pos h2,if_pos h2]
  refine aN (bG ?_);rw[StateT.run_pure];refine aN (bG ?_)
  try dsimp only
  refine c9i I hk hD (by lia) ?_ ri hn rfl λs' I'=>k ns s' ⟨.refl _,?_⟩ I'
  ·apply Array.toList_inj.mp
   show((ks.toArray.zip its.toArray).map (·.2)).toList=its.toArray.toList
   simp only[Array.toList_map,Array.toList_zip];exact List.map_snd_zip (by lia)
  ·have:ns.length<2:=by rw[bY] at h2;lia
   exact d0N this
 ·rw[if_neg h2,if_neg h2]
  rw[bY] at h2;obtain⟨fs,kt,lf,bf_⟩:=c7M K rk I.ck;refine aN (kat_kind (T:=.type "bool") kt (by lia) (λv hv=>?_) (by rfl) ?_)
  ·obtain⟨b,rfl⟩:=bf_ v hv
   exact .now
  ·have ht:(pV "bool" != pV "tuple")=true:=by rfl
   rw[ht]
   let lt:Nat->Nat->Bool:=λi j=>kLt (c7D g (ns.getD i 0)) (c7D g (ns.getD j 0))
   have AO_:c7q its.length lt:=by
    refine⟨λi _=>c8b _,λi j k _ _ _ a b=>d0b a b,λi j hi hj ne=>c9K ?_⟩
    have ei:ns.getD i 0=ns[i]'(by lia):=by grind
    have ej:ns.getD j 0=ns[j]'(by lia):=by grind
    rw[ei,ej];exact λz=>ne ((List.getElem_inj nd).mp z)
   refine aN (eY (kat_run (Q:=λx_ s'=>s'=s/\∃p:Array Nat,RB its.length p/\Up_ lt p its.length/\arrOf x_=p.map (kas_item (ks.toArray.zip its.toArray))/\failedOf x_=none)
    (G:=λp s'=>s'=s/\RB its.length p/\Up_ lt p its.length) lk (by lia) (by lia) (λp' x_ s' a1 a2 a3 a4=>⟨a4.1,p',a4.2.1,a4.2.2,a2,a3⟩)
    (d1i (J:=λs'=>s'=s) AO_ (λi j C s' hi hj js_ hC=>?_) (by lia) rfl λp s' a b c=>⟨c,a,b⟩)) ?_ λ_ _ x=>x)
   ·subst js_
    obtain⟨t1,it1,e1,q1,r1⟩:=d0J K rk I (i:=i) (by lia);obtain⟨t2,it2,e2,q2,r2⟩:=d0J K rk I (i:=j) (by lia)
    show wpAny (model X.prog X.w) X.A.in1.in1 (keyLt' (tuples' true) (ks.getD i iN) (ks.getD j iN)) C (λ_ _=>False) _
    rw[e1,e2];exact d1T q1 q2 r1 r2 (hC _ rfl)
   ·rintro⟨⟨⟩,x_⟩ s' ⟨rfl,p,hp,hu,har,hf⟩
    try dsimp only
    have hz:=hp.size
    let ns':List Int:=p.toList.map λi=>ns.getD i 0
    have ro:Vals (ns'.map V.int) (p.toList.map λi=>its.getD i iN):=by
     rw[bC];have:∀(q:List Nat),(∀i∈q,i<ns.length)->Vals (q.map (V.int∘λi=>ns.getD i 0)) (q.map λi=>its.getD i iN):=by
      intro q
      induction q with
      |nil=>intro _;exact .nil
      |cons a q ih =>
       intro hq;refine .cons ?_ (ih λi hi=>hq i (bZ _ hi));have e:(ns.map V.int)[a]?=some (V.int (ns.getD a 0)):=by rw[aP,bA,aS (hq a cY)];rfl
       obtain⟨u,hu,ru⟩:=ri.get e
       show RelV (V.int (ns.getD a 0)) (its.getD a iN)
       have e2:its.getD a iN=u:=by rw[bA,hu];rfl
       rw[e2];exact ru
     exact this _ λi hi=>by have:=fF.mp (hp.mem_iff.mp hi);lia
    have ln:ns'.length=ns.length:=by show(p.toList.map _).length=_;rw[aH,lO,hz,li]
    refine c9i (ns':=ns') I hk hD (by lia) (kat_snds lk har) ro (by lia) hf λs' I'=>k ns' s' ⟨?_,?_⟩ I'
    ·have e0:ns=(aW its.length).map λi=>ns.getD i 0:=by
      apply Tl
      ·simp[li]
      ·intro i h1 h2
       simp[show i<ns.length from h1]
     have:=List.Perm.map (λi=>ns.getD i 0) hp;rw[<-e0] at this;exact this
    ·show(p.toList.map λi=>ns.getD i 0).Pairwise _
     rw[List.pairwise_map,List.pairwise_iff_getElem];intro i j hi hj iy;have:=hu i j iy (by simp_all);have gi_:p.getD i 0=p.toList[i]:=by simp[bI,show i<p.size by rw[lO] at hi;lia]
     have gj_:p.getD j 0=p.toList[j]:=by simp[bI,show j<p.size by rw[lO] at hj;lia]
     rw[gi_,gj_] at this;exact this
theorem d1G(I:Inv X pins σ H s)(turn:d0Q X pins σ H' fq ns g)(sm:af H' H)(fk_:H' kS_=none)(hk:H kS_=some (.lst []))(hD:H D=some (S1 D (seqObj "list" #[] e1)))
  (ri:Vals (ns.map V.int) its) (hn:ns.length<64) (nd:ns.Nodup)
  (k:∀ns' xc s',Sk3 g ns ns'->af H' xc->xc D=some (S1 D (seqObj "list" #[] e1))->xc kS_≠none->Inv X pins σ (upd (upd xc kS_ (.lst [])) D (.lst (ns'.map V.int))) s'->P (.done (.ret .none)) s') :
  wpAny (model X.prog X.w) X.A.in1.in1 (ksk_rest D (.ref fq) false its.toArray e1 (.ref kS_)) P E s:=by
 unfold ksk_rest;refine aN (lR ?_);rw[hX];refine aN (eY (c9m (kS_:=kS_) (f:=.ref fq) (C:=λr s'=>Ev4 λkn rn vs H1=>ns=kn++rn/\Vals (rn.map V.int) r/\af H' H1/\H1 kS_=some (.lst vs)/\H1 D=some (S1 D (seqObj "list" #[] e1))/\du g H1 kn vs/\Inv X pins σ H1 s')
  (λx s' R hx=>?_) (λx r s' hC=>?_) its s ⟨[],ns,[],H,rfl,ri,sm,hk,hD,.nil,I⟩) (λ_ s' hd=>?_) λ_ _ z=>z)
 ·refine aN (wA (eY hx (λk s2 Rz=>?_) λ_ _ z=>z.elim))
  obtain⟨ks,e,ek,lk,r⟩:=Rz
  try dsimp only
  exact aN (hW ek rfl (bG ⟨rfl,r⟩) (by rw[bY,bE];lia) (by rw[Array.size_push,bY,bE];lia))
 ·obtain⟨kn,rn,vs,H1,en,rr,KS,k1,D1,K1_,I1⟩:=hC
  match rn,rr with
  |m::rn,.cons ru rr =>
  refine turn H1 KS m (by simp_all) x s' _ _ I1 ru λt s2 ht I2=>?_;have nk_:=i7 k1 ht;have k2:(upd H1 t (.tup (kV3 (c7D g m)))) kS_=some (.lst vs):=by rw[j3 nk_];exact k1
  obtain⟨z,ks,c,rk,hl,e⟩:=I2.Cz k2;have lv:vs.length=kn.length:=K1_.length.symm;have hlen:kn.length+1<=ns.length:=by rw[en,aX,eM];lia
  refine⟨ks,c,e,by lia,kn++[m],rn,vs++[.ref t],_,by rw[en];simp,rr,?_,ae,?_,?_,I2.JM k2 e (by simp) (rk.append (.cons (show RelV (.ref t) (.ref t) from rfl) .nil)) (by rw[aX,fR];exact bF (show vs.length+1<=64 by lia) (by decide))⟩
  ·intro b o q
   have nb:b≠kS_:=λz=>by subst z;rw[fk_] at q;cases q
   rw[j3 nb,j3 (i7 (KS b o q) ht)];exact KS b o q
  ·rw[j3 (J7 D1 k1 nofun),j3 (i7 D1 ht)];exact D1
  ·refine du.snoc (K1_.same λb xs q=>?_) ?_
   ·rw[j3 (J7 q k1 nofun),j3 (i7 q ht)];exact q
   ·rw[j3 (bV nk_),ae]
 ·obtain⟨kn,rn,vs,H1,en,rr,KS,k1,D1,K1_,I1⟩:=hd
  have e0:rn=[]:=by cases rn with|nil=>rfl|cons _ _=>cases rr
  subst e0;rw[fP] at en;subst en;obtain⟨z,ks,c,rk,hl,e⟩:=I1.Cz k1;exact aN (Tm e rfl (d2t I1 k1 D1 K1_ rk ri hn nd λns' s2 a b=>k ns' H1 s2 a KS D1 (by lia) b))
theorem d1H{n:Nat}(hc:X.calm=true)(I:Inv X pins σ H s)(hr:H p=some (.zt 0 n))(hn:n<64)(turn:d0Q X pins σ H fq ((aW n).map λ(i:Nat)=>(i:Int)) g)
  (k:∀l ns' H' s',Sk3 g ((aW n).map λ(i:Nat)=>(i:Int)) ns'->af H H'->H l=none->H' l=some (.lst (ns'.map V.int))->Inv X pins σ H' s'->Q (.ref l) s') :
  wpAny (model X.prog X.w) X.A (call (.builtin "sorted") [.ref p] [("key",.ref fq)]) Q E s:=by
 refine call_function_entry_kw kind_sorted plain_sorted entry_sorted (ksk_s1 _ _) ?_;unfold iH.«sorted»;refine aN (bG ?_);obtain⟨t,u,v,e⟩:=I.ck p _ hr;have xq:sU 0 (n:Int) 1=n:=by rw[sV];split<;>lia
 refine aN (c8I (I.ok.hd hc) e (small_one (by lia) (by lia) (by lia) (by lia)) xq (by lia) λh1 Vd acc CO NU=>?_);have hv:Vals (((aW n).map λ(i:Nat)=>(i:Int)).map V.int) acc.toList:=by
  rw[bC];refine a4d n acc.toList (λi=>(i:Int)) (by simpa using NU.1) λj v q=>?_;obtain⟨t,rfl⟩:=NU.2 j v (by simpa using q);exact⟨t,by simp⟩
 have ln:((aW n).map λ(i:Nat)=>(i:Int)).length=n:=by simp
 have la:acc.toList.length=n:=by have:=hv.length;simpa using this.symm
 have I1:=I.kept (h':=h1) (t':=Vd) CO;refine aN (wpAny_newList ?_ (by rw[bE];lia));have hoL:(h1.push (seqObj "list" acc.toList.toArray 0)).get? h1.objs.size=some (seqObj "list" acc.toList.toArray 0):=dG _ rfl;refine aN (iP (wpAny_call_entry_kw slot_list_sort ⟨_,hoL,rfl⟩ entry_list_sort ?_ (ksk_l1 _ _)))
 show wpAny (model X.prog X.w) X.A.in1.in1 (iH.«list.sort» ⟨[.ref h1.objs.size],[(cN "key",.ref fq)]⟩) _ _ _
 rw[ksk_t1];unfold ksk_tree;refine aN (Tm hoL rfl (aN (hW hoL rfl ?_ (by rw[bY,bE];lia) (dM _))));obtain⟨e1,ho1⟩:∃e1,((h1.push (seqObj "list" acc.toList.toArray 0)).update h1.objs.size (gT λ_=>(#[]:Array aE))).get? h1.objs.size=some (seqObj "list" #[] e1):=⟨_,wP hoL λ_=>#[]⟩;refine aN (seqEpoch_at ho1 rfl (aN (wpAny_newTuple (aN (wpAny_newList (iP ?_) (dM _))) (by show acc.toList.length<=_;rw[bE];lia))));have D:aA:=h1.objs.size;have kp:∀b o,h1.get? b=some o->((h1.push (seqObj "list" acc.toList.toArray 0)).update h1.objs.size (gT λ_=>(#[]:Array aE))).get? b=some o:=λb o q=>by
  rw[Heap.get?_update_ne _ _ _ _ (dB (bN q))];exact bL _ q
 have I3:=(I1.laid (a:=h1.objs.size) (o:=S1 h1.objs.size (seqObj "list" #[] e1)) (t':=Vd) kp (aT _) ⟨ho1,⟨_,ho1⟩,λx y a b=>b _ a⟩).kept (h':=((h1.push (seqObj "list" acc.toList.toArray 0)).update h1.objs.size (gT λ_=>(#[]:Array aE))).push (seqObj "tuple" acc.toList.toArray 0)) (t':=Vd) λb u q=>bL _ q;have f1:H h1.objs.size=none:=I1.fresh;have f2:(upd H h1.objs.size (S1 h1.objs.size (seqObj "list" #[] e1))) (((h1.push (seqObj "list" acc.toList.toArray 0)).update h1.objs.size (gT λ_=>(#[]:Array aE))).push (seqObj "tuple" acc.toList.toArray 0)).objs.size=none:=I3.fresh;have ne:h1.objs.size≠(((h1.push (seqObj "list" acc.toList.toArray 0)).update h1.objs.size (gT λ_=>(#[]:Array aE))).push (seqObj "tuple" acc.toList.toArray 0)).objs.size:=i7 ae f2;have f3:H (((h1.push (seqObj "list" acc.toList.toArray 0)).update h1.objs.size (gT λ_=>(#[]:Array aE))).push (seqObj "tuple" acc.toList.toArray 0)).objs.size=none:=by
  rw[j3 (bV ne)] at f2;exact f2
 refine d1G (H':=H) (I3.JN (its:=[]) (ys:=[]) (t':=Vd) .nil (dM _)) turn (λb o q=>?_) f3 ae (by rw[j3 ne];exact ae) hv (by rw[ln];exact hn) ?_ λns' H2 s2 S sm D2 k2 I5=>?_
 ·rw[j3 (i7 q f3),j3 (i7 q f1)]
  exact q
 ·exact aAB _ (λa b(h:a≠b)=>show(a:Int)≠(b:Int) by lia) Sa
 ·refine⟨_,rfl,bG ⟨_,rfl,k _ ns' _ s2 S (λb o q=>?_) f1 ae I5⟩⟩
  rw[j3 (i7 q f1),j3 (i7 q f3)];exact sm b o q
end
def d1E(K:aF)(P:aA)(CJ:Pos)(qual:aC)(fr:List Nat)(t:TA)(tb:TE):TE:=λσ H Q=>t σ H λvs H1=>Ev3 λ(p:aA)(n:Nat)(g:Int->Bool×Int)=>vs=[.ref p]/\H1 p=some (.zt 0 n)/\n<64/\cu P CJ qual H1/\
 ∀H2,bj P H1 H2->cu P CJ qual H2->(∀H3,af H2 H3->∀m∈((aW n).map λ(i:Nat)=>(i:Int)),tb (some (.int m)::LB fr σ) H3 λy H'=>∃t,y=.ref t/\H3 t=none/\H'=upd H3 t (.tup (kV3 (c7D g m))))/\
  ∀H3 l ns',af H2 H3->H2 l=none->H3 l=some (.lst (ns'.map V.int))->Sk3 g ((aW n).map λ(i:Nat)=>(i:Int)) ns'->Q (.ref l) H3
section
variable{X:Cx}{e body:aR}{es:List aR}{t:TA}{tb:TE}{fr:List Nat}{scope:cQ}{col:aC}{c P:aA}{params:kO}{p pos CJ kp1:Pos}
theorem c8Q(hc:X.calm=true)(hr:b_ 3 X.A)(hg:Gl X "sorted")(hm:X.mg "sorted"=none)(vm:X.env.code=.ref c)(C:oV X.base c P)(B:QO X.mg X.base)(hlc:BA X.env.scope scope X.N fr=true)(hk:scope.kind=.function)
  (kf:∀x∈scope.names,x.2≠.cell) (CI:scope.names.lookup col=some .local) (UZ:scope.isCoroutine=false) (JX:scope.isGenerator=false)
  (hb:∀pm BE c' u,bindArgs (W.kla_fn "<lambda>" (X.env.qual++"<lambda>") params body scope (p_ X.env scope.names []) pm (.ref c') BE) ⟨[u],[]⟩=pure [(col,u)])
  (ha:PA X [e] t) (fz:∀f cd s H,PE (QN X col fr (X.env.qual++"<lambda>") scope f cd X.A.in1.in1 s H) body tb) (JY:defaultsOf params X.env=([],[]):=by rfl)
  (he:backTo pos (starEach [e] X.env)=(false,eval e X.env)::backTo pos (starEach [] X.env):=by rfl) (wb:(backTo pos (starEach [e] X.env)).any (·.1)=false:=by rfl) :
  PE X (.Call (.Name "sorted" p) [e] [⟨some "key",.Lambda params body scope CJ,kp1⟩] pos) (d1E X.K P CJ (X.env.qual++"<lambda>") fr t tb):=by
 intro pins s σ H Q I h;refine jK (JD I hg hm rfl (Ak (D7 (ha pos pins s σ H _ I h) λus s1 ⟨vs,H1,I1,r,l,n,g,ev,hl,hn,T,q⟩=>?_) he wb));subst ev;obtain⟨u,rfl,ru⟩:=U1 r
 cases ru
 show wpAny _ _ (evalAll [(do let v <- eval (.Lambda params body scope CJ) X.env;standAt pos;pure v)]) _ _ s1
 refine wR (aN (b3C I1 vm C B T hlc JY λf c' BE pm H2 s2 I2 T2 e2 Hc' _=>aN (iQ (bG (wpAny_evalAll_nil ?_)))));obtain⟨q1,q2⟩:=q H2 e2 T2;have nP:l≠P:=λz=>by
  subst z;rcases T with t|⟨c,t,_⟩<;>(rw[hl] at t;cases t)
 have zw:X.A.in1.in1.depth<recursionLimit:=by
  have z:X.A.in1.in1.depth+3*1+5<recursionLimit:=hr.in1.in1.dp;lia
 refine d1H hc I2 (e2 l _ nP hl) hn (λH3 sm m hm u s3 Q3 E3 I3 ru k3=>?_) λl ns' H3 s3 S sm f1 l1 I3=>⟨.ref l,H3,(λJ=>J.ke λp hp=>J.pin p (eL _ (bZ _ hp))) I3,rfl,q2 H3 l ns' sm f1 l1 S⟩;obtain⟨cr,_,_⟩:=I3.ck c' _ (sm c' _ Hc');refine c9E I3 I3.ok.frames rfl zw hk hlc kf CI UZ JX (I3.pin _ (eL _ cY)).1 cr (hb pm BE c') (fz f (.ref c') s3 H3) ru (q1 H3 sm m hm) λw H' y s' G' hp I'=>?_;obtain⟨t,rfl,ht,rfl⟩:=hp
 cases G';exact k3 t s' ht I'
end
end L2
namespace L2
open PySem
def il(P1_ ag:aA)(H H':Hp):Prop:=∀b o,b≠P1_->b≠ag->H b=some o->H' b=some o
def il.trans(a:il P1_ ag H H1)(b:il P1_ ag H1 H2):il P1_ ag H H2:=λc o n m h=>b c o n m (a c o n m h)
def bj.to2(e:bj P1_ H H'):il P1_ ag H H':=λb o n _ h=>e b o n h
def bj.to2'(e:bj ag H H'):il P1_ ag H H':=λb o _ n h=>e b o n h
def af.to2(e:af H H'):il P1_ ag H H':=λb o _ _ h=>e b o h
theorem cu.other(T1:cu P1_ p1 q1 H)(T2:cu ag p2 q2 H)(ne:ag≠P1_)(e:bj P1_ H H'):cu ag p2 q2 H':=by
 rcases T2 with t|⟨c,t,u⟩
 ·exact .inl (e _ _ ne t)
 ·exact .inr ⟨c,e _ _ ne t,e.get T1 u nofun⟩
end L2
namespace Rim
open PySem L2 Fr
abbrev d2R:aC:=("standing"++".<locals>.")++"<lambda>"
abbrev nv(ag:aA)(H:Hp):Prop:=cu ag d1Z d2R H
inductive c8u(K:aF)(vs:List V)(H:Hp)(Q:VK)(z3_:XK):Prop|mk:∀a ys fs,vs=[.ref a]->ah K H a ys->aZ (λy f=>Xc K H y f) ys fs->fs.length<=16->(∀f∈fs,fh 20000 f.1/\0<f.2/\f.2<2^8000)->(∀r tl H' L,af H H'->H' r=some (.tup [.ref tl,.int L])->H' tl=some (.lst (fs.map λf=>V.int (f.1*(L/f.2))))->0<L->(∀f∈fs,f.2∣L)->Q (.ref r) H')->c8u K vs H Q z3_
def xv:p7 ["ones","shared","top","bottom"] ["ones"] (i9 l0):={}
theorem c9w:(["top","bottom","shared"]:List aC).Nodup:=by decide
def c9h{i:Nat}(h:aZ (λy f=>Xc K H y f) ys fs)(e:ys[i]?=some y):∃q,fs[i]?=some q/\Xc K H y q:=c7t h e
theorem d0m(F:Aj K "over_one_bottom" l0 f fd)(C:CZ P w K mg base n "common_divisor" ["one","other"] b5S fa da):bf P w K mg base J8 (n+1) f fd ["ones"] (c8u K):=by
 refine F.oa xv λay A outer s H vs Q E hr h=>?_
 obtain⟨a,ys,fs,rfl,hS,hF,h16,hb,q⟩:=h;refine⟨_,j0 (r6 (i:=1) xv.nd rfl (fY rfl) d0)
  (j0 (IF hO rfl (C6 (pv 0)) (K4 rfl (p6 (j9 (i:=2) xv.nd rfl (aI rfl)) (p6 (j9 (i:=3) xv.nd rfl (aI rfl)) A4)))
   (j4 (r6 (i:=1) xv.nd rfl (fY rfl) (j8 Qr (j8 UA (pv 1) (C.c hr (c6 (pv 1) (c6 (pv 3) c7)))) (pv 3)))))
  (j4 (o4 (A9 (c6 (N6 ["top","bottom"] [1] rfl (C6 (pv 0)) (λ_ _ _ _=>IX K (n:=2) rfl rfl (p6 (j9 (i:=0) c9w rfl (aI rfl)) (p6 (j9 (i:=1) c9w rfl (aI rfl)) A4))) (λ_ _ _ _=>j8 Qr (pv 0) (j8 UA (pv 2) (pv 1)))) (c6 (pv 1) c7)))))),?_⟩
 have xl:ys.length=fs.length:=hF.length;refine⟨_,rfl,a,rfl,⟨_,hS⟩,?_⟩;refine a7j (xs:=ys) (λi σ H'=>Ev3 λ(L:Int)(o2 o3:Option V)=>σ=[some (.ref a),some (.int L),o2,o3]/\H'=H/\0<L/\L<2^(8000*i+1)/\∀j x,j<i->fs[j]?=some x->x.2∣L)
  ⟨1,_,_,rfl,rfl,by decide,by decide,λj x hj=>absurd hj (xC _)⟩ (λi σ H' _ ⟨_,_,_,_,e,_⟩=>by rw[e];exact hS) ?_ ?_
 ·rintro i y σ H' hy ⟨L,o2,o3,rfl,rfl,hL,hLb,hdv⟩
  have nj:i<fs.length:=by rw[<-xl];exact(cA.mp hy).1
  obtain⟨fq,hfi,b,rfl,hbt⟩:=c9h hF hy;obtain⟨hbig,hq,hq8⟩:=hb fq (bK hfi);have hg:=QL (a:=L) hq;obtain⟨d1,d2⟩:=F6 hL hg (T9 L fq.2);have hLd:L/gI L fq.2<=L:=by
   have:=c8h d1 hg;rw[bX,d2] at this;exact this
  have lb:∀{x:Int},0<x->x<=L->fh 1000000 x:=λh1 h2=>(c8y (n:=8000*i+1) (cC h1) (pI h2 hLb)).mono (by lia);refine⟨b,_,rfl,hbt,rfl,_,_,rfl,_,_,rfl,rfl,_,rfl,_,rfl,_,rfl,L,fq.2,rfl,cC hq,_,_,rfl,rfl,⟨hg,pI (b9G (a:=L) hq) hq8⟩,_,rfl,_,_,rfl,rfl,⟨lb d1 hLd,(c8y (n:=8000) (cC hq) hq8).mono (by decide)⟩,_,_,_,rfl,rfl,gJ d1 hq,?_,λj y hj T_=>?_⟩
  ·have e1:L/gI L fq.2<2^(8000*i+1):=pI hLd hLb
   have e2:(2:Int)^(8000*(i+1)+1)=2^(8000*i+1)*2^8000:=by
    rw[show 8000*(i+1)+1=(8000*i+1)+8000 by lia,Int.pow_add]
   rw[e2];exact Int.mul_lt_mul e1 (cC hq8) hq (cC (Int.lt_trans d1 e1))
  ·by_cases hji:j<i
   ·have e:L/gI L fq.2*fq.2=L*(fq.2/gI L fq.2):=by
     obtain⟨_,d4⟩:=F6 hq hg (G7 L fq.2)
     calc L/gI L fq.2*fq.2=L/gI L fq.2*(gI L fq.2*(fq.2/gI L fq.2)):=by rw[d4]
      _=(gI L fq.2*(L/gI L fq.2))*(fq.2/gI L fq.2):=by ac_rfl
      _=L*(fq.2/gI L fq.2):=by rw[d2]
    show y.2∣L/gI L fq.2*fq.2
    rw[e];exact wH (hdv j y hji T_)
   ·have:j=i:=by lia
    subst this;rw[hfi] at T_
    cases T_;exact Int.dvd_mul_of_dvd_right (Int.dvd_refl _)
 ·rintro σ H' ⟨L,o2,o3,rfl,rfl,hL,hLb,hdv⟩
  have hdiv:∀x∈fs,x.2∣L:=λy hy=>by
   obtain⟨j,hj,rfl⟩:=rB hy;exact hdv j _ (by lia) (aS hj)
  have yl_:ys.length<=16:=by lia
  refine⟨_,rfl,a,rfl,⟨_,hS⟩,λp hp=>(N5 (A3 hS) hp (t9 (by lia)) (λi y _=>∃x,fs[i]?=some x/\y=.int (x.1*(L/x.2))) (λ_ _ _ _ r _=>r) (λi y H2 zs N hy e dy hN=>?_) (λzs H2 e dy len pr=>?_))⟩
  ·obtain⟨fq,hfi,b,rfl,hbt⟩:=c9h hF hy
   obtain⟨hbig,hq,hq8⟩:=hb fq (bK hfi);obtain⟨d1,d2⟩:=F6 hL hq (hdiv _ (bK hfi));have hLd:L/fq.2<=L:=by
    have:=c8h d1 hq;rw[bX,d2] at this;exact this
   exact⟨b,_,rfl,e.cm hbt,rfl,_,_,rfl,_,_,rfl,rfl,d1k (by decide) (by decide),_,rfl,_,rfl,_,rfl,_,_,rfl,rfl,⟨hq,hq8⟩,_,_,rfl,rfl,⟨hbig.mono (by decide),(c8y (n:=8000*ys.length+1) (cC d1) (pI hLd hLb)).mono (by lia)⟩,hN _ _ (af.refl _) ⟨fq,hfi,rfl⟩⟩
  ·have ey:zs=fs.map λf=>V.int (f.1*(L/f.2)):=by
    refine dR λi=>?_
    by_cases hi:i<zs.length
    ·obtain⟨x,z1,z2⟩:=pr i _ (aS hi)
     rw[aS hi,z2,aP,z1];rfl
    ·rw[bW (by lia),bW (by rw[aH];lia)]
   rw[ey] at dy;refine⟨_,rfl,(by show 2<=sizeLine;decide),λr MB=>?_⟩;have f2:=af.new MB (.tup [V.ref p,V.int L]);exact q r p _ L (e.trans f2) ae (f2 _ _ dy) hL hdiv
def OsAt(z:aC)(hs:List i8)(kt kg:Nat)(i:Nat)(o:Option Q2):Prop:=∃h,hs[i]?=some h/\((Ev2 λA B=>ShU z (S8 hs i) h kt kg A B/\o=some (low A B))\/(o=none/\ik z (S8 hs i) h kt kg))
def Os(z:aC)(hs:List i8)(kt kg:Nat)(os:List (Option Q2)):Prop:=os.length=hs.length/\∀i o,os[i]?=some o->OsAt z hs kt kg i o
theorem OsAt.eq(hz:O4 z)(hG:∀g∈hs,HG br kt kg g)(x:OsAt z hs kt kg i o)(y:OsAt z hs kt kg i o'):o=o':=by
 obtain⟨h,hh,a⟩:=x;obtain⟨h',Kp,b⟩:=y;rw[hh] at Kp;cases Kp;have gh:=hG h (bK hh);have hGo:∀g∈S8 hs i,HG br kt kg g:=λg hg=>hG g (XF hg);have hko:∀g∈S8 hs i,g.1.length=kt/\g.2.length=kg:=λg hg=>⟨(hGo g hg).lt,(hGo g hg).lg⟩;rcases a with⟨A,B,s,rfl⟩|⟨rfl,N⟩<;>rcases b with⟨A',B',s',rfl⟩|⟨rfl,N'⟩
 ·rw[s.fr hz s'.s hGo gh]
 ·exact(N'.yo hz hko gh s.s).elim
 ·exact(N.yo hz hko gh s'.s).elim
 ·rfl
def ahd(x y:Option Q2)(a b:Int):Prop:=match x,y with
 |none,none=>a<b
 |none,some _=>True
 |some _,none=>False
 |some p,some q=>q.1*p.2<p.1*q.2\/(p=q/\a<b)
abbrev atO(os:List (Option Q2))(a:Int):Option Q2:=os.getD a.toNat none
def Ahd(os:List (Option Q2))(a b:Int):Prop:=ahd (atO os a) (atO os b) a b
theorem c9X(h:ahd x y a b)(h':ahd y x b a):False:=by
 cases x<;>cases y<;>simp only[ahd] at h h'
 ·lia
 ·rcases h with h|⟨rfl,h⟩<;>rcases h' with h'|⟨e,h'⟩
  ·lia
  ·subst e;lia
  ·lia
  ·lia
def DR(os:List (Option Q2))(ns:List Int):Prop:=ns.Perm ((aW os.length).map λ(i:Nat)=>(i:Int))/\ns.Pairwise (Ahd os)
def DR.eq{os}(x:DR os ns)(y:DR os ns'):ns=ns' :=
 List.Perm.eq_of_pairwise (λa b _ _ p q=>(c9X p q).elim) x.2 y.2 (x.1.trans y.1.symm)
def c9Z(hB:0<B):low (low A B).1 (low A B).2=low A B:=b1V (a9Q hB) hB (a5v hB)
theorem d2s{os}(hL:0<L)(hc:∀q,some q∈os->0<q.2/\q.2∣L/\low q.1 q.2=q)
  (hg:∀m∈[a,b],g m=match atO os m with|none=>(false,0)|some q=>(true,-(q.1*(L/q.2)))) (h:kLt (c7D g a) (c7D g b)=true):Ahd os a b:=by
 have ga:=hg a (.head _);have gb:=hg b (.tail _ (.head _));have mem:∀{m:Int}{q:Q2},atO os m=some q->some q∈os:=λ{m q}e=>by
  unfold atO at e;rw[bA] at e
  cases r:os[m.toNat]? with
  |none=>rw[r] at e;cases e
  |some o=>rw[r] at e;have e':=e;subst e';exact bK r
 rw[c7R] at h;unfold Ahd;unfold c7D at h;rw[ga,gb] at h;generalize ex:atO os a=x at *;generalize ey:atO os b=y at *
 cases x with
 |none =>
  cases y with
  |none =>
   simp at h;exact h
  |some q=>exact trivial
 |some p =>
  cases y with
  |none=>simp at h
  |some q =>
   obtain⟨p1,⟨c,GG⟩,p3⟩:=hc p (mem ex);obtain⟨q1,⟨d,hd1⟩,q3⟩:=hc q (mem ey);have ec:L/p.2=c:=by rw[GG];exact wI c (by lia)
   have ed:L/q.2=d:=by rw[hd1];exact wI d (by lia)
   simp only[ec,ed] at h;have c0:0<c:=by
    rcases Int.lt_or_le 0 c with z|z
    ·exact z
    ·have:=eO (cC p1) (show 0 <= -c by lia)
     rw[fT] at this;lia
   have d0_:0<d:=by
    rcases Int.lt_or_le 0 d with z|z
    ·exact z
    ·have:=eO (cC q1) (show 0 <= -d by lia)
     rw[fT] at this;lia
   have E1:(p.1*c)*(p.2*q.2)=(p.1*q.2)*L:=by rw[GG];ac_rfl
   have E2_:(q.1*d)*(p.2*q.2)=(q.1*p.2)*L:=by rw[hd1];ac_rfl
   rcases h with⟨z,_⟩|⟨_,h|⟨h1,h2⟩⟩
   ·cases z
   ·left
    have h':q.1*d<p.1*c:=by lia
    have:=Int.mul_lt_mul_of_pos_right h' (gJ p1 q1);rw[E1,E2_] at this;exact Int.lt_of_mul_lt_mul_right this (cC hL)
   ·right
    refine⟨?_,h2⟩;have h':p.1*c=q.1*d:=by lia
    have:(p.1*q.2)*L=(q.1*p.2)*L:=by rw[<-E1,<-E2_,h']
    have:=rW (by lia) this;rw[<-p3,<-q3];exact b1V p1 q1 this
structure c8x(K:aF)(mg:aC->Option aE)(o:aA):Prop where
 m:mg "NOUGHT"=some (.ref o)
 s:∀H,cq K H o [.int 0,.int 1]
section
variable{P:aM}{w:aL}{K:aF}{mg:aC->Option aE}{base:aJ}{f Pt ag c CN oN_:aA}{fd:aK}{n:Nat}
inductive c8s(K:aF)(Pt ag:aA)(vs:List V)(H:Hp)(Q:VK)(z3_:XK):Prop|mk:∀ba xs hs z br kt kg,vs=[.ref ba,.str z]->O4 z->O6 K H ba xs hs br kt kg->hs.length<=16->1<=kt->LT Pt H->nv ag H->ag≠Pt->(∀os ns l H',Os z hs kt kg os->DR os ns->il Pt ag H H'->LT Pt H'->nv ag H'->H l=none->H' l=some (.lst (ns.map V.int))->Q (.ref l) H')->c8s K Pt ag vs H Q z3_
def scSta:p7 ["book","sizes","told","tops","bottom"] ["book","sizes"] (i9 t7):={}
theorem d2e:(["number","book","sizes"]:List aC).Nodup:=by decide
theorem d2l:(["one"]:List aC).Nodup:=by simp
def d2W{f1 f2:aA}{d1 d2:aK}(CH:oV base c ag)(BM:QO mg base)(T:v8 mg)(N:c8x K mg oN_)
  (Co:vn P w K mg base n "share_of_others" ["book","number","sizes"] (c8a K CN Pt) f1 d1) (Cv:CZ P w K mg base n "over_one_bottom" ["ones"] (c8u K) f2 d2) (hr:b_ (n+3) (A.deeper (cD "standing" (i9 t7) s.heap.objs.size f (.ref c)))) :
  {t:TS//fu (N8 J8 P w K mg base ["book","sizes","told","tops","bottom"] "standing" (i9 t7) f (.ref c) A outer s H E).oi (x9 t7) t} :=
 ⟨_,j0 (r6 (i:=2) scSta.nd rfl (fY rfl) (N6 ["number"] [0,1] rfl (R8 rfl T.range (c6 (j7 j6 rfl T.len bB (c6 (pv 0) c7)) c7)) (λ_ _ _ _=>j9 (i:=0) d2e rfl (aI rfl))
   (λ_ _ _ _=>l7 Co.ok (hr.mono (by lia)) rfl Co.m Co.k Co.b .nil RA (c6 (pv 1) (c6 (pv 0) (c6 (pv 2) c7))))))
  (j0 (D3 (l7 Cv.ok (hr.mono (by lia)) rfl Cv.m Cv.k Cv.b .nil v6 (c6 (N6 ["one"] [] rfl (C6 (pv 2)) (λ_ _ _ _=>j9 (i:=0) d2l rfl (aI rfl))
    (λ_ _ _ _=>MT (l5 Lv (pv 0) D5 (r9 _)) (C4 (v:=.ref oN_) rfl N.m rfl) (pv 0))) c7)) (K4 rfl (p6 (j9 (i:=3) scSta.nd rfl (fY rfl)) (p6 (j9 (i:=4) scSta.nd rfl (aI rfl)) A4))))
  (j4 (o4 (c8Q (col:="number") (fr:=[2,3]) (c:=c) (P:=ag) rfl (hr.mono (by lia)) rfl T.so rfl CH BM rfl rfl (by decide +kernel) rfl rfl rfl (λ_ _ _ _=>rfl)
   (c6 (v5 b1a rfl T.range xD (c6 (j7 j6 rfl T.len bB (c6 (pv 0) c7)) c7)) c7)
   (λ_ _ _ _=>A9 (c6 (Z3 a9G (l8 (Wn K rfl) (pv 1) (pv 0) (λ_ _=>rfl)) D5 (r9 _)) (c6 (Eh V2 (l8 (Wn K rfl) (pv 2) (pv 0) (λ_ _=>rfl))) (c6 (pv 0) c7)))))))) ⟩
end
def OtT(H:Hp)(v:V)(o:Option Q2):Prop:=match o with|none=>v=.non|some q=>Ex H v q
def toF(o:Option Q2):Q2:=o.getD (0,1)
theorem OsAt.fr(x:OsAt z hs kt kg i o):fh 20000 (toF o).1/\0<(toF o).2/\(toF o).2<2^8000/\∀q,o=some q->low q.1 q.2=q:=by
 obtain⟨h,_,⟨A,B,s,rfl⟩|⟨rfl,_⟩⟩:=x
 ·exact⟨d1w s.b s.a,a9Q s.b,pI (b7R s.b) s.c,λq e=>by cases e;exact c9Z s.b⟩
 ·exact⟨by unfold fh;decide,by decide,by decide,nofun⟩
theorem c8K(F:Aj K "standing" t7 f fd)(vm:fd.code=.ref c)(CH:oV base c ag)(BM:QO mg base)(T:v8 mg)(N:c8x K mg oN_)
  (Co:vn P w K mg base n "share_of_others" ["book","number","sizes"] (c8a K CN Pt) f1 d1) (Cv:CZ P w K mg base n "over_one_bottom" ["ones"] (c8u K) f2 d2) :
  bf P w K mg base J8 (n+4) f fd ["book","sizes"] (c8s K Pt ag):=by
 refine F.okC vm scSta (λvs H Q E h=>?_) λA outer s H vs Q E hr h=>?_
 ·obtain⟨ba,xs,hs,z,br,kt,kg,rfl,_⟩:=h
  rfl
 obtain⟨ba,xs,hs,z,br,kt,kg,rfl,hz,B,h16,ij,L,M,ne,q⟩:=h;refine⟨_,(d2W CH BM T N Co Cv hr).2,?_⟩;have xl:xs.length=hs.length:=dE B.b;have small:=t9 (show xs.length<=1000 by lia);have bin:∀{H':Hp},bj Pt H H'->O6 K H' ba xs hs br kt kg:=λe=>⟨ah.fg L e B.l,Bk.fg L e B.b,B.g,B.br,B.few,B.t,B.k⟩;refine⟨_,rfl,ba,_,rfl,.inl B.l,_,rfl,by lia,by lia,λp hp=>(c9B L hp small (λi y H'=>∃o,OsAt z hs kt kg i o/\OtT H' y o) (λi y H1 H2 L1 ⟨zs,Wy⟩ ⟨o,x,r⟩ k=>⟨o,x,?_⟩) (λi H1 ys N' hi e1 L1 Fm hN=>?_) λys H1 e1 L1 Fm len pr=>?_)⟩
 ·cases o with
  |none=>exact r
  |some q =>
   obtain⟨a,rfl,ha⟩:=r;exact⟨a,rfl,k _ _ (J7 ha Wy nofun) (L1.ne ha nofun) ha⟩
 ·refine⟨_,rfl,_,rfl,_,rfl,ba,xs,hs,(i:Int),z,br,kt,kg,rfl,hz,bin e1,ij,b5j (by lia),L1,λi' h' A' B' H7 u' Ek Kp X'_ e7 L7_ hu'=>?_,λi' h' H7 Ek Kp N e7 L7_=>?_,λbad=>absurd ⟨by lia,by lia⟩ bad⟩
  ·have:i'=i:=by lia
   subst this;exact hN _ _ e7 L7_ ⟨some (low A' B'),⟨h',Kp,.inl ⟨A',B',X'_,rfl⟩⟩,hu'⟩
  ·have:i'=i:=by lia
   subst this;exact hN _ _ e7 L7_ ⟨none,⟨h',Kp,.inr ⟨rfl,N⟩⟩,rfl⟩
 obtain⟨os,olen,hos⟩:∃os:List (Option Q2),os.length=ys.length/\∀i y o,ys[i]?=some y->os[i]?=some o->OsAt z hs kt kg i o/\OtT H1 y o:=by
  have:∀m,m<=ys.length->∃os:List (Option Q2),os.length=m/\∀i y o,ys[i]?=some y->os[i]?=some o->OsAt z hs kt kg i o/\OtT H1 y o:=by
   intro m
   induction m with
   |zero=>exact λ_=>⟨[],rfl,λi y o _ e=>by simp at e⟩
   |succ m ih =>
    intro hm;obtain⟨os,l,k⟩:=ih (by lia);obtain⟨o,x,r⟩:=pr m _ (aS (show m<ys.length by lia));refine⟨os++[o],by simp[l],λi y o' hy ho=>?_⟩
    by_cases hi:i<os.length
    ·rw[dH hi] at ho
     exact k i y o' hy ho
    ·rw[dU (by lia)] at ho
     have hi0:i-os.length=0:=by grind
     rw[hi0] at ho;have:i=m:=by lia
     subst this;simp at ho;subst ho;rw[aS (show i<ys.length by lia)] at hy
     cases hy;exact⟨x,r⟩
  exact this _ (aT _)
 have OS_:Os z hs kt kg os:=⟨by lia,λi o ho=>(hos i _ o (aS (show i<ys.length by rw[<-olen];exact(cA.mp ho).1)) ho).1⟩;refine⟨_,rfl,p,rfl,⟨_,ah.of Fm⟩,λp2 oy=>(O9 (A3 (ah.of Fm)) oy (by rw[len];exact small) (λy=>if y=.non then .ref oN_ else y) (λi y H2 N' hy e2 hN=>?_) ?_)⟩
 ·refine⟨Wk.set (by decide),_,rfl,rfl,_,rfl,?_⟩
  by_cases hn:y=.non
  ·subst hn
   exact J3 hN
  ·rw[if_neg hn] at hN
   rw[decide_eq_false hn];exact M7 ⟨_,rfl,hN⟩
 have s2:=af.new oy (.lst (ys.map λy=>if y=.non then .ref oN_ else y));have pF_:bR (λy f=>Xc K (upd H1 p2 (.lst (ys.map λy=>if y=.non then .ref oN_ else y))) y f) (ys.map λy=>if y=.non then .ref oN_ else y) (os.map toF):=by
  have gen:∀(as:List V)(bs:List (Option Q2)),bs.length=as.length->(∀(i:Nat)y o,as[i]?=some y->bs[i]?=some o->OtT H1 y o)->bR (λy f=>Xc K (upd H1 p2 (.lst (ys.map λy=>if y=.non then .ref oN_ else y))) y f) (as.map λy=>if y=.non then .ref oN_ else y) (bs.map toF):=by
   intro as
   induction as with
   |nil=>intro bs hl _;rw[lM hl];exact .nil
   |cons a as ih =>
    intro bs hl k
    cases bs with
    |nil=>simp at hl
    |cons b bs =>
     refine .cons ?_ (ih bs (by simpa using hl) λi y o h1 h2=>k (i+1) y o (by simpa using h1) (by simpa using h2));have r:=k 0 a b rfl rfl
     cases b with
     |none =>
      have r':a=.non:=r;subst r';exact⟨oN_,rfl,N.s _⟩
     |some q =>
      obtain⟨t,rfl,ht⟩:=r;exact⟨t,rfl,cq.of (s2 _ _ ht)⟩
  exact gen ys os olen λi y o h1 h2=>(hos i y o h1 h2).2
 refine⟨p2,_,os.map toF,rfl,ah.of ae,pF_,by rw[aH];lia,λfq hf=>?_,λr tl H2 Lb_ e2 MB Hz hLb hdv=>?_⟩
 ·obtain⟨o,ho,rfl⟩:=aY.mp hf
  obtain⟨i,hi⟩:=iL ho;obtain⟨a1,a2,a3,_⟩:=(OS_.2 i o hi).fr;exact⟨a1,a2,a3⟩
 have Oy:=s2.trans e2;refine⟨r,_,rfl,cq.of MB,rfl,_,_,rfl,_,_,rfl,rfl,?_⟩;have eH2:bj Pt H H2:=e1.trans Oy.ka;refine⟨_,rfl,ba,_,rfl,.inl (bin eH2).l,_,rfl,λrg_ hrg=>?_⟩;have s3:=af.new hrg (.zt 0 (xs.length:Int));have L3:=(L1.same Oy).same s3;have M3_:=((L.other M ne e1).same Oy).same s3;refine⟨rg_,xs.length,λm=>match atO os m with|none=>(false,0)|some q=>(true,-(q.1*(Lb_/q.2))),rfl,ae,by lia,M3_,λH3 e3 M4_=>⟨λH4 e4 m hm=>?_,λH4 l ns e4 hl Od S=>?_⟩⟩
 ·obtain⟨i,hi,rfl⟩:=aY.mp hm
  have Ek:i<ys.length:=by rw[len];exact fF.mp hi
  obtain⟨y,hy⟩:∃y,ys[i]?=some y:=⟨_,aS Ek⟩;obtain⟨o,ho⟩:∃o,os[i]?=some o:=⟨_,aS (by lia)⟩;have eo:atO os (i:Int)=o:=by show os.getD (Int.toNat (i:Int)) none=o;rw[cF,bA,ho];rfl
  have g3:((os.map toF).map λf=>V.int (f.1*(Lb_/f.2)))[i]?=some (V.int ((toF o).1*(Lb_/(toF o).2))):=by rw[aP,aP,ho];rfl
  have r:=(hos i y o hy ho).2;refine⟨_,rfl,_,rfl,p,_,_,_,rfl,rfl,ah.of (e4 _ _ (e3.get M3_ (s3 _ _ (Oy _ _ Fm)) nofun)),A2 hy,rfl,_,rfl,_,rfl,tl,_,_,_,rfl,rfl,ah.of (e4 _ _ (e3.get M3_ (s3 _ _ Hz) nofun)),A2 g3,_,rfl,_,rfl,(by show 3<=sizeLine;decide),λt ht=>⟨t,rfl,ht,?_⟩⟩;unfold c7D kV3;dsimp only;rw[eo]
  cases o with
  |none =>
   have r':y=.non:=r;subst r'
   show upd H4 t (HO.tup [V.bl false,V.int (-(0*(Lb_/1))),V.int (i:Int)])=upd H4 t (HO.tup [V.bl false,V.int 0,V.int (i:Int)])
   rw[gY,Int.neg_zero]
  |some fq =>
   obtain⟨a,rfl,_⟩:=r;rfl
 ·have el:os.length=xs.length:=by lia
  have mem:∀q,some q∈os->0<q.2/\q.2∣Lb_/\low q.1 q.2=q:=λfq hq=>by
   obtain⟨i,hi⟩:=iL hq;obtain⟨_,a2,_,a4⟩:=(OS_.2 i _ hi).fr;exact⟨a2,hdv fq (aY.mpr ⟨some fq,hq,rfl⟩),a4 fq rfl⟩
  refine q os ns l H4 OS_ ⟨by rw[el];exact S.1,S.2.imp λ{a b}k=>d2s hLb mem (λm _=>rfl) k⟩ ((eH2.to2.trans s3.to2).trans (e3.to2'.trans e4.to2)) ((M3_.other L3 (bV ne) e3).same e4) (M4_.same e4) ?_ Od
  ·cases eh:H l with
   |none=>rfl
   |some o =>
    exfalso;have tn:∀{P0_:aA}{p0:Pos}{q0:aC},cu P0_ p0 q0 H3->l≠P0_:=λT0_ z0=>by
     subst z0;rcases T0_ with t|⟨c,t,_⟩<;>(rw[hl] at t;cases t)
    have:=((eH2.to2.trans s3.to2).trans e3.to2') l o (tn (M3_.other L3 (bV ne) e3)) (tn M4_) eh;rw[hl] at this;cases this
end Rim
namespace L2
open PySem
theorem d0B K(h:X.K=K):gw X (compareOp .NotIn) (rIn K true):=by subst h;exact a5H
theorem d1I(hl:ah K H1 l xs)(hp:H1 p=none)(hz:xs.length<sizeLine)F
  (step:∀i x H(N:Bool->Hp->Prop),xs[i]?=some x->af H1 H->N (F i) H->tc (((c_ 2 fr σ).set 0 (some (.int (i:Int)))).set 1 (some x)) H N)
  (hd:∀H,af H1 H->H p=some (.lst (((aW xs.length).filter F).map λi=>xs.getD i .non))->D H):LF 2 fr (MW K 2 (JE (N7 0) (JE (N7 1) PQ))) tc (JB 1) σ (NL K l) H1 p D:=by
 refine⟨λi m ys H=>m=xs.length-i/\i<=xs.length/\ys=((aW i).filter F).map (λi=>xs.getD i .non)/\af H1 H/\H p=some (.lst ys),⟨xs.length,by simp,dM _,rfl,af.new hp _,ae⟩,?_⟩;rintro i m ys H ⟨rfl,hi,rfl,e,hH⟩
 by_cases fk:i<xs.length
 ·refine .inr ⟨⟨xs,xs[i],e.seq hl,aS fk⟩,λu H' y=>?_⟩
  obtain⟨q,a,hq,rfl,rfl,yh⟩:=y;have ha:=yh xs (e.seq hl);have s1:=af.new hq (.tup [.int (i:Int),a]);have tk:(aW (i+1)).filter F=(aW i).filter F++[i].filter F:=by rw[pE,wS]
  refine⟨q,_,rfl,cq.of ae,rfl,_,_,rfl,_,_,rfl,rfl,?_,?_⟩
  ·refine⟨by simp,λk w ek=>?_⟩
   have:¬k<2:=λhk=>by
    unfold c_ at ek;rw[dH (by simp_all),gD] at ek
    split at ek<;>cases ek
   rw[dP (by lia),dP (by lia)];exact ek
  refine step i a _ _ ha (e.trans s1) ?_;have h3:=s1 _ _ hH
  cases hq:F i with
  |false =>
   rw[if_neg cX];refine⟨xs.length-(i+1),by lia,rfl,fk,?_,e.trans s1,h3⟩;rw[tk];simp[hq]
  |true =>
   rw[if_pos rfl];refine⟨a,?_,h3,?_,xs.length-(i+1),by lia,rfl,fk,?_,(e.trans s1).write hp,ae⟩
   ·show(((c_ 2 fr σ).set 0 (some (.int (i:Int)))).set 1 (some a))[1]?=some (some a)
    rw[eK (by simp[c_])]
   ·have h1:=oX F (aW i)
    rw[gZ] at h1;rw[aH];lia
   ·rw[tk]
    simp[hq,ha]
 ·have:i=xs.length:=by lia
  subst this;exact .inl ⟨⟨xs,e.seq hl,aT _⟩,hd H e hH⟩
def c9r(k:Nat)(σ:St)(H:Hp):Nat:=match σ[k]? with
 |some (some (.ref a))=>(match H a with|some (.lst xs)=>xs.length|_=>0)
 |_=>0
end L2
namespace Rim
open PySem L2 Fr
abbrev d0f(hs:List i8)(left:List Nat):List i8:=left.map λk=>hs.getD k ([],[])
def plc(z:aC)(hs:List i8)(left:List Nat):List Nat:=Jg z (d0f hs left)
def lvl(z:aC)(hs:List i8)(left:List Nat):List Nat:=(plc z hs left).map λk=>left.getD k 0
def rst(z:aC)(hs:List i8)(left:List Nat):List Nat:=((aW left.length).filter λk=>!(plc z hs left).contains k).map λk=>left.getD k 0
def lev(z:aC)(hs:List i8):Nat->List Nat->List (List Nat)
 |0,_=>[]
 |n+1,left=>if left=[] then [] else lvl z hs left::lev z hs n (rst z hs left)
abbrev o6(l:List Nat):List V:=l.map λ(k:Nat)=>V.int (k:Int)
theorem d1s:∀n,lev z hs n []=[]
 |0=>rfl
 |n+1=>by unfold lev;rw[if_pos rfl]
theorem c7L{left:List Nat}(h:k<left.length):left.getD k 0∈left:=by simp_all
theorem c7S(hG:∀g∈hs,HG br kt kg g)(hl:∀k∈left,k<hs.length):∀g∈d0f hs left,HG br kt kg g:=λg hg=>by
 obtain⟨k,hk,rfl⟩:=aY.mp hg;have:=hl k hk;rw[bA,aS this];exact hG _ (eF this)
theorem c8Z(h:k∈plc z hs left):k<left.length:=by
 have:=b4X h;rw[aH] at this;exact this
theorem c9D(h:k∈rst z hs left):k∈left:=by
 unfold rst at h;obtain⟨j,hj,rfl⟩:=aY.mp h;exact c7L (fF.mp (lI.mp hj).1)
theorem d2d(hG:∀g∈hs,HG br kt kg g)(ij:1<=kt)(hl:∀k∈left,k<hs.length)(mm:left≠[]):(rst z hs left).length<left.length:=by
 obtain⟨i,hi⟩:=c8H (c7S hG hl) ij (by simp_all);unfold rst;rw[aH];have h1:((aW left.length).filter λk=>!(plc z hs left).contains k).length<(aW left.length).length:=by
  rw[List.length_filter_lt_length_iff_exists];exact⟨i,fF.mpr (c8Z hi),by simpa using (show i∈plc z hs left from hi)⟩
 rw[gZ] at h1;exact h1
def nr(H:Hp)(as:List aA)(ls:List (List Nat)):Prop:=as.length=ls.length/\∀(k:Nat)a l,as[k]?=some a->ls[k]?=some l->H a=some (.lst (o6 l))
theorem nr.snoc(h:nr H as ls)(ha:H a=some (.lst (o6 l))):nr H (as++[a]) (ls++[l]):=by
 refine⟨by simp[h.1],λk b m hb hm=>?_⟩
 by_cases hk:k<as.length
 ·rw[dH hk] at hb
  rw[dH (h.1▸hk)] at hm;exact h.2 k b m hb hm
 ·rw[dU (by lia)] at hb
  rw[dU (by rw[<-h.1];lia),<-h.1] at hm;have:k-as.length=0:=by
   cases q:k-as.length with
   |zero=>rfl
   |succ j=>rw[q] at hb;simp at hb
  rw[this] at hb hm;simp at hb hm;subst hb hm;exact ha
section
variable{P:aM}{w:aL}{K:aF}{mg:aC->Option aE}{base:aJ}{f Pt d:aA}{fd:aK}{n:Nat}{C:aA}
theorem d0n(B:O6 K H ba xs hs br kt kg)(hl:∀k∈left,k<hs.length)(hn:left.length<=16)(hp:H p=some (.lst (left.map λk=>xs.getD k .non))) :
  O6 K H p (left.map λk=>xs.getD k .non) (d0f hs left) br kt kg:=by
 have xl:xs.length=hs.length:=dE B.b;refine⟨ah.of hp,?_,c7S B.g hl,B.br,by rw[aH];exact hn,B.t,B.k⟩
 clear hp hn
 induction left with
 |nil=>exact .nil
 |cons k r ih =>
  have hk:=hl k (.head _);have hx:xs[k]?=some xs[k]:=aS (by lia);obtain⟨h,hh,q⟩:=aZ.at B.b hx;refine .cons ?_ (ih λj hj=>hl j (.tail _ hj))
  show HS K H (xs.getD k V.non) (hs.getD k ([],[]))
  rw[bA,hx,bA,hh];exact q
inductive c8g(K:aF)(Pt:aA)(vs:List V)(H:Hp)(Q:VK)(z3_:XK):Prop|mk:∀ba xs hs z br kt kg,vs=[.ref ba,.str z]->O4 z->O6 K H ba xs hs br kt kg->br<=2^50->1<=kt->LT Pt H->(∀H' r as,bj Pt H H'->LT Pt H'->H r=none->H' r=some (.lst (as.map V.ref))->nr H' as (lev z hs hs.length (aW hs.length))->(∀a∈as,H a=none)->Q (.ref r) H')->c8g K Pt vs H Q z3_
def scLv:p7 ["book","sizes","told","left","places"] ["book","sizes"] (i9 c7n):={}
theorem d2I:(["number","book"]:List aC).Nodup:=by decide
theorem d2B:(["place","left"]:List aC).Nodup:=by decide
theorem d1R:(["place","number","places"]:List aC).Nodup:=by decide
def lvT{f1:aA}{d1:aK}(N:v8 mg)(Cr:C9 P w K mg base n "rim_of" ["book","sizes"] (RL K Pt) f1 d1)
  (hr:b_ n (A.deeper (cD "levels" (i9 c7n) s.heap.objs.size f ay))) :
  {t:TS//fu (N8 J8 P w K mg base ["book","sizes","told","left","places"] "levels" (i9 c7n) f ay A outer s H E).oi (x9 c7n) t} :=
 ⟨_,j0 (r6 (i:=2) scLv.nd rfl (aI rfl) (v9 c7))
  (t8 (r6 (i:=3) scLv.nd rfl (fY rfl) (v5 (a1S rfl) rfl N.list fJ (c6 (v5 b1a rfl N.range xD (c6 (j7 j6 rfl N.len bB (c6 (pv 0) c7)) c7)) c7)))
  (j0 (a7o hO (a7J (pv 3) λ_=>rfl)
   (t8 (r6 (i:=4) scLv.nd rfl (fY rfl) (Cr.c hr (c6 (N6 ["number"] [0] rfl (C6 (pv 3)) (λ_ _ _ _=>j9 (i:=0) d2I rfl (aI rfl)) (λ_ _ _ _=>l8 (Wn K rfl) (pv 1) (pv 0) (λ_ _=>rfl))) (c6 (pv 1) c7))))
   (t8 (R3 (K7 iK jW jX P2 (pv 2) (c6 (N6 ["place"] [3] rfl (C6 (pv 4)) (λ_ _ _ _=>j9 (i:=0) d2B rfl (aI rfl)) (λ_ _ _ _=>l8 (Wn K rfl) (pv 1) (pv 0) (λ_ _=>rfl))) c7)))
   (j4 (r6 (i:=3) scLv.nd rfl (fY rfl) (b3J ["place","number"] [4] rfl (a9v K rfl rfl N.enum (c6 (pv 3) c7)) (λ_ _ _ _=>IX K (n:=2) rfl rfl (p6 (j9 (i:=0) d1R rfl (aI rfl)) (p6 (j9 (i:=1) d1R rfl (aI rfl)) A4)))
    (λ_ _ _ _=>l5 (d0B K rfl) (pv 0) (pv 2) rfl) (λ_ _ _ _=>pv 1)))))))
  (j4 (o4 (pv 2)))))⟩
end
end Rim
namespace Rim
open PySem L2 Fr
open Tx (S cs ch x6 J6 A5 w4)
def c7z(l:List Nat):S:=G4 (l.map λ(k:Nat)=>(k:Int))
def d1z(ls:List (List Nat)):S:=cO (ch 32) (ls.map c7z)
theorem c7A l:o6 l=(l.map λ(k:Nat)=>(k:Int)).map V.int:=by rw[bC];rfl
theorem c8z{l:List Nat}(hm:m<=100)(h1:l.length<=m)(h2:∀k∈l,k<m):Sm (l.map λ(k:Nat)=>(k:Int)):=⟨by rw[aH];lia,λx hx=>by
 obtain⟨k,hk,rfl⟩:=aY.mp hx;have:=h2 k hk;lia⟩
inductive c7X(K:aF)(CN Pt:aA)(vs:List V)(H:Hp)(Q:VK)(E:XK):Prop|mk:∀(ba l:aA)(v1:V)(xs us:List V)(hs:List i8)(num:Int)(kt kg:Nat),vs=[.ref ba,v1,.ref l]->O6 K H ba xs hs (10^9) kt kg->1<=kt->H l=some (.lst us)->us[0]?=some (.int num)->num.natAbs.log2<1920->LT Pt H->(∀(i:Nat)h H' t,num=(i:Int)->hs[i]?=some h->Scl hs h kt kg t->bj Pt H H'->LT Pt H'->Q (.str t) H')->(¬AA xs.length num->E (.ref CN) none H)->c7X K CN Pt vs H Q E
def d0O:p7 Z5 Z5 (i9 c7e):={}
theorem c9P(F:Aj K "tell_scale" c7e f fd)(Cs:vn P w K mg base n "scale" ["book","number"] (c8A K CN Pt) f1 d1):bf P w K mg base (W2 P w) (n+1) f fd Z5 (c7X K CN Pt):=by
 refine F.ob d0O λay A outer s H vs Q E hr h=>?_
 obtain⟨ba,l,v1,xs,us,hs,num,kt,kg,rfl,B,ij,hl,h0,lm,L,q,hE⟩:=h;exact⟨_,j4 (o4 (l7 Cs.ok hr rfl Cs.m Cs.k Cs.b .nil V5 (c6 (pv 0) (c6 (l8 j5 (pv 2) d0 λ_ _=>rfl) c7)))),_,rfl,_,rfl,l,_,_,_,rfl,rfl,ah.of hl,A2 h0,ba,xs,hs,num,10^9,kt,kg,rfl,B,ij,lm,L,λi h H1 t hi hh X e1 L1=>q i h H1 t hi hh X e1 L1,hE⟩
inductive b2J(K:aF)(Pt:aA)(vs:List V)(H:Hp)(Q:VK)(z3_:XK):Prop|mk:∀ba v2 xs hs z kt kg,vs=[.ref ba,.str z,v2]->O4 z->O6 K H ba xs hs (10^9) kt kg->LT Pt H->(∀H',bj Pt H H'->LT Pt H'->Q (.str (c7z (Jg z hs))) H')->b2J K Pt vs H Q z3_
def b7x:p7 Z5 Z5 (i9 V_):={}
theorem b3h(h:hs.length<=16):Sm ((Jg z hs).map λ(k:Nat)=>(k:Int)):=c8z (by decide) (bF (bF (oX _ _) (gZ▸aT _)) h) λk hk=>by have:=b4X hk;lia
theorem b4d(F:Aj K "tell_rim" V_ f fd)(Cr:C9 P w K mg base n "rim_of" ["book","sizes"] (RL K Pt) f1 d1)(Cn:C9 P w K mg base n "numbers_text" ["numbers"] (Xr K) f2 d2):bf P w K mg base (W2 P w) (n+1) f fd Z5 (b2J K Pt):=by
 refine F.ob b7x λay A outer s H vs Q E hr h=>?_
 obtain⟨ba,v2,xs,hs,z,kt,kg,rfl,hz,B,L,q⟩:=h;refine⟨_,j4 (o4 (l7 Cn.ok hr rfl Cn.m Cn.k Cn.b .nil v6 (c6 (l7 Cr.ok hr rfl Cr.m Cr.k Cr.b .nil v6 (c6 (pv 0) (c6 (pv 1) c7))) c7))),_,rfl,_,rfl,ba,xs,hs,z,10^9,kt,kg,rfl,hz,B,by decide,L,λH1 r e1 L1 _ GN=>?_⟩;rw[show(Jg z hs).map (λ(i:Nat)=>V.int (i:Int))=_ from c7A _] at GN;exact⟨true,r,_,rfl,ah.of GN,b3h B.few,λH2 e2=>q H2 (e1.trans e2.ka) (L1.same e2)⟩
inductive c8e(K:aF)(Pt ag:aA)(vs:List V)(H:Hp)(Q:VK)(z3_:XK):Prop|mk:∀ba v2 xs hs z kt kg,vs=[.ref ba,.str z,v2]->O4 z->O6 K H ba xs hs (10^9) kt kg->1<=kt->LT Pt H->nv ag H->ag≠Pt->(∀os ns H',Os z hs kt kg os->DR os ns->il Pt ag H H'->LT Pt H'->nv ag H'->Q (.str (G4 ns)) H')->c8e K Pt ag vs H Q z3_
def d0E:p7 Z5 Z5 (i9 c7c):={}
theorem c8C{os}(h:DR os ns)(hl:os.length<=16):Sm ns:=⟨by rw[h.1.length_eq,aH,gZ];lia,λx hx=>by
 obtain⟨k,hk,rfl⟩:=aY.mp (h.1.mem_iff.mp hx);have:=fF.mp hk;lia⟩
theorem c9J(F:Aj K "tell_order" c7c f fd)(Cr:CZ P w K mg base n "standing" ["book","sizes"] (c8s K Pt ag) f1 d1)(Cn:C9 P w K mg base n "numbers_text" ["numbers"] (Xr K) f2 d2):bf P w K mg base (W2 P w) (n+1) f fd Z5 (c8e K Pt ag):=by
 refine F.ob d0E λay A outer s H vs Q E hr h=>?_
 obtain⟨ba,v2,xs,hs,z,kt,kg,rfl,hz,B,ij,L,M,ne,q⟩:=h;exact⟨_,j4 (o4 (l7 Cn.ok hr rfl Cn.m Cn.k Cn.b .nil v6 (c6 (l7 Cr.ok hr rfl Cr.m Cr.k Cr.b .nil v6 (c6 (pv 0) (c6 (pv 1) c7))) c7))),_,rfl,_,rfl,ba,xs,hs,z,10^9,kt,kg,rfl,hz,B,B.few,ij,L,M,ne,λos ns l H1 O S e1 L1 M1_ _ GN=>⟨true,l,ns,rfl,ah.of GN,c8C S (O.1▸B.few),λH2 e2=>q os ns H2 O S (e1.trans e2.to2) (L1.same e2) (M1_.same e2)⟩⟩
theorem c9x:∀n left,left.length<=m->(∀k∈left,k<m)->(lev z hs n left).length<=n/\∀l∈lev z hs n left,l.length<=m/\∀k∈l,k<m
 |0,left,_,_=>⟨Nat.le_refl _,nofun⟩
 |n+1,left,h1,h2=>by
  show(if left=[] then [] else lvl z hs left::lev z hs n (rst z hs left)).length<=n+1/\∀l∈(if left=[] then [] else lvl z hs left::lev z hs n (rst z hs left)),l.length<=m/\∀k∈l,k<m
  by_cases c:left=[]
  ·rw[if_pos c];exact⟨Nat.zero_le _,nofun⟩
  ·rw[if_neg c]
   have r1:(rst z hs left).length<=m:=by
    unfold rst;rw[aH];refine bF (oX _ _) ?_;rw[gZ];exact h1
   obtain⟨i1,i2⟩:=c9x n (rst z hs left) r1 λk hk=>h2 k (c9D hk);refine⟨Nat.succ_le_succ i1,λl hl=>?_⟩;rcases bH.mp hl with rfl|hl
   ·unfold lvl
    refine⟨?_,λk hk=>?_⟩
    ·rw[aH]
     refine bF (oX _ _) ?_;rw[gZ];unfold d0f;rw[aH];exact h1
    ·obtain⟨j,hj,rfl⟩:=aY.mp hk
     exact h2 _ (c7L (c8Z hj))
   ·exact i2 l hl
theorem c8o(h:hs.length<=16):(lev z hs hs.length (aW hs.length)).length<=16/\∀l∈lev z hs hs.length (aW hs.length),l.length<=16/\∀k∈l,k<16:=by
 obtain⟨h1,h2⟩:=c9x hs.length (aW hs.length) (by rw[gZ];exact h) λk hk=>by have:=fF.mp hk;lia
 exact⟨by lia,h2⟩
theorem d0l(h:l.length<=16/\∀k∈l,k<16):(c7z l).length<=1200:=by
 have:=Mq (c8z (by decide) h.1 h.2);unfold c7z;lia
theorem c9k(hr:H1 r=some (.lst (as.map V.ref)))(hN:nr H1 as ls)(few:ls.length<=16)(hp:H1 p=none)
  (step:∀a l H N,l∈ls->af H1 H->H a=some (.lst (o6 l))->(∀H3,af H H3->N (.str (c7z l)) H3)->te ((c_ 1 fr σ).set 0 (some (.ref a))) H N)
  (hd:∀H,af H1 H->H p=some (.lst ((ls.map c7z).map V.str))->D H):IJ 1 fr (N7 0) te σ (Lr K r) H1 p D:=by
 have al:as.length=ls.length:=hN.1;refine N5 (A3 (ah.of hr)) hp (by rw[aH];exact t9 (by lia)) (λi y _=>∃l,ls[i]?=some l/\y=.str (c7z l)) (λ_ _ _ _ r _=>r) (λi y H2 zs N hy e dy hNN=>?_) λzs H2 e dy len pr=>?_
 ·rw[aP] at hy
  cases ha:as[i]? with
  |none=>rw[ha] at hy;cases hy
  |some a =>
   rw[ha] at hy;cases hy;have nj:i<ls.length:=by have:=(cA.mp ha).1;lia
   have hl:=aS nj;exact⟨Wk.set (by decide),step a _ H2 N (eF nj) e (e _ _ (hN.2 i a _ ha hl)) λH3 e3=>hNN _ _ e3 ⟨_,hl,rfl⟩⟩
 ·refine hd H2 e ?_
  have ez:zs=(ls.map c7z).map V.str:=by
   refine dR λi=>?_
   by_cases hi:i<zs.length
   ·obtain⟨h,hh,e1⟩:=pr i _ (aS hi)
    rw[aS hi,e1,aP,aP,hh];rfl
   ·rw[aH] at len
    rw[bW (by lia),bW (by simp_all)]
  rw[<-ez];exact dy
theorem c8G{ls:List (List Nat)}(few:ls.length<=16)(h:∀l∈ls,l.length<=16/\∀k∈l,k<16):((ls.map c7z).map (·.length)).sum<=20000:=by
 have h1:=O7 λx hx=>by
  obtain⟨l,hl,rfl⟩:=aY.mp hx;exact d0l (h l hl)
 rw[aH] at h1;lia
inductive c7E(K:aF)(Pt:aA)(vs:List V)(H:Hp)(Q:VK)(z3_:XK):Prop|mk:∀ba v2 xs hs z kt kg,vs=[.ref ba,.str z,v2]->O4 z->O6 K H ba xs hs (10^9) kt kg->1<=kt->LT Pt H->(∀H',bj Pt H H'->LT Pt H'->Q (.str (d1z (lev z hs hs.length (aW hs.length)))) H')->c7E K Pt vs H Q z3_
def c9U:p7 Z5 Z5 (i9 L6):={}
theorem d2A:(["level"]:List aC).Nodup:=by simp
theorem c8P(F:Aj K "tell_levels" L6 f fd)(Cr:C9 P w K mg base n "levels" ["book","sizes"] (c8g K Pt) f1 d1)(Cn:C9 P w K mg base n "numbers_text" ["numbers"] (Xr K) f2 d2):bf P w K mg base (W2 P w) (n+1) f fd Z5 (c7E K Pt):=by
 refine F.ob c9U λay A outer s H vs Q E hr h=>?_
 obtain⟨ba,v2,xs,hs,z,kt,kg,rfl,hz,B,ij,L,q⟩:=h;refine⟨_,fu.oi (j4 (o4 (K7 eP hZ iA W4 l9 (c6 (N6 ["level"] [] rfl (C6 (Cr.c hr (c6 (pv 0) (c6 (pv 1) c7)))) (λ_ _ _ _=>j9 (i:=0) d2A rfl (aI rfl)) λ_ _ _ _=>Cn.c hr (c6 (pv 0) c7)) c7)))),?_⟩;obtain⟨b1,b2⟩:=c8o B.few;refine⟨rfl,_,rfl,_,rfl,ba,xs,hs,z,10^9,kt,kg,rfl,hz,B,by decide,ij,L,λH1 r as e1 L1 _ GN hN _=>⟨r,rfl,⟨_,ah.of GN⟩,λp hp=>(c9k GN hN b1 hp (λa l H2 N hl e2 ha hNN=>?_) (λH2 e2 oy=>?_))⟩⟩
 ·rw[c7A] at ha
  exact⟨_,rfl,true,a,_,rfl,ah.of ha,c8z (m:=16) (by decide) (b2 l hl).1 (b2 l hl).2,hNN⟩
 ·refine⟨_,p,_,rfl,rfl,ah.of oy,?_,?_⟩
  ·refine bF (kC (c8G b1 b2) _) ?_
   rw[aH]
   show 20000+(lev z hs hs.length (aW hs.length)).length*1<=_
   lia
  ·rw[Tx.join_eq]
   exact q _ (e1.trans e2.ka) (L1.same e2)
end Rim
namespace Rim
open PySem L2 Fr
open Tx (S cs ch x6 J6 A5 w4 bu vk ext R7)
theorem R_ c(p q:S)(r:List S):cs (cO (ch c) (p::q::r))=cs p++c::cs (cO (ch c) (q::r)):=by
 show cs (p++ch c++cO (ch c) (q::r))=_
 rw[bu,bu,vk,dC];rfl
theorem Yh:∀{ps:List S},d∈cs (cO (ch c) ps)->d=c\/∃p∈ps,d∈cs p
 |[],h=>by cases h
 |[p],h=>.inr ⟨p,.head _,h⟩
 |p::q::r,h=>by
  rw[R_] at h;rcases bJ.mp h with h|h
  ·exact .inr ⟨p,.head _,h⟩
  ·rcases bH.mp h with h|h
   ·exact .inl h
   ·rcases Yh h with h|⟨x,hx,h⟩
    ·exact .inl h
    ·exact .inr ⟨x,.tail _ hx,h⟩
theorem R'(h:0<=n)(hd:d∈cs (x6 n)):48<=d/\d<=57:=by
 obtain⟨m,rfl⟩:=jZ h;have:=Tx.sf m d hd;lia
theorem Sb(h:∀n∈ns,0<=n)(hd:d∈cs (G4 ns)):d=44\/(48<=d/\d<=57):=by
 rcases Yh hd with e|⟨p,hp,hd⟩
 ·exact .inl e
 ·obtain⟨n,hn,rfl⟩:=aY.mp hp
  exact .inr (R' (h n hn) hd)
theorem Yi h:C2 h=cO (ch 62) [G4 h.1,G4 h.2]:=by
 refine ext ?_;rw[R_];unfold C2;rw[bu,bu,bu]
 show cs (G4 h.1)++([62]++(cs (G4 h.2)++[]))=_
 rw[fP];rfl
def Pos(h:i8):Prop:=(∀n∈h.1,0<=n)/\∀n∈h.2,0<=n
theorem Yj(p:Pos h)(hd:d∈cs (C2 h)):d=44\/d=62\/(48<=d/\d<=57):=by
 rw[Yi] at hd;rcases Yh hd with e|⟨x,hx,hd⟩
 ·exact .inr (.inl e)
 ·rcases bH.mp hx with rfl|hx
  ·exact(Sb p.1 hd).imp id .inr
  ·rw[cJ.mp hx] at hd
   exact(Sb p.2 hd).imp id .inr
theorem a4a(h0:ns≠[])(h:∀n∈ns,0<=n/\n<10^10):A6 (G4 ns)=some ns:=by
 unfold A6 G4;rw[R7 (by simp_all) λp hp z=>by
  obtain⟨n,hn,rfl⟩:=aY.mp hp;have:=R' (h n hn).1 z;lia]
 have:(ns.map x6).map w4=ns.map some:=by
  rw[bC];refine fM λn hn=>?_;obtain⟨h1,h2⟩:=h n hn;obtain⟨m,rfl⟩:=jZ h1;exact Tx.ET (by lia)
 rw[this,RQ]
theorem jg.pos(a:jg h):Pos h:=⟨λn hn=>by have:=a.2.2.1.2 n hn;lia,λn hn=>(a.2.2.2.1.2 n hn).1⟩
theorem a7B(a:jg h):D6 (C2 h)=some h:=by
 unfold D6;rw[Yi,R7 (by simp) λp hp z=>by
  rcases bH.mp hp with rfl|hp
  ·have:=Sb a.pos.1 z;lia
  ·rw[cJ.mp hp] at z
   have:=Sb a.pos.2 z;lia]
 have n1:h.1≠[]:=λz=>by have:=a.1.1;rw[z] at this;simp at this
 have n2:h.2≠[]:=λz=>by have:=a.2.1.1;rw[z] at this;simp at this
 have e1:=a4a n1 (λn hn=>by have:=a.2.2.1.2 n hn;lia);have e2:=a4a n2 (λn hn=>by have:=a.2.2.2.1.2 n hn;lia)
 show(match [A6 (G4 h.1),A6 (G4 h.2)] with
  |[some a,some b]=>_
  |_=>none)=_
 rw[e1,e2];exact if_pos a
theorem gz.any(b:gz hs):∀h∈hs,jg h:=λh hh=>by
 obtain⟨_,h0,e0,a0,g⟩:=b;have gh:=g h hh;have l1:h.1.length=h0.1.length:=by have:=gh.1.1;lia
 have l2:h.2.length=h0.2.length:=by have:=gh.2.1.1;lia
 refine⟨by rw[l1];exact a0.1,by rw[l2];exact a0.2.1,?_⟩;rw[l1,l2];exact gh
theorem a7U(b:gz hs):HJ (Ey hs)=some hs:=by
 have ne:hs.map C2≠[]:=λz=>by
  have:=b.1.1;rw[rR.mp z] at this;simp at this
 have:xa ((aU (Ey hs) (ch 10)).map D6)=some hs:=by
  unfold Ey;rw[R7 ne λp hp z=>by
   obtain⟨h,hh,rfl⟩:=aY.mp hp;have:=Yj (b.any h hh).pos z;lia,bC]
  have:hs.map (D6∘C2)=hs.map some:=fM λh hh=>a7B (b.any h hh);rw[this,RQ]
 unfold HJ;rw[this];exact if_pos b
theorem a6T(hw:32 ∉ cs w)(hr:∀p∈r,32 ∉ cs p)(hf:ji.lookup w=some fs)(hl:r.length=fs.length)(ht:cV E4 fs r=ts.map some):O2 (cO (ch 32) (w::r))=some (w,ts):=by
 unfold O2;rw[R7 (by simp) λp hp=>by
  rcases bH.mp hp with rfl|hp
  ·exact hw
  ·exact hr p hp]
 show(match ji.lookup w with
  |none=>none
  |some fs=>if r.length=fs.length then (xa (cV E4 fs r)).map (λts=>(w,ts)) else none)=_
 rw[hf]
 show(if r.length=fs.length then (xa (cV E4 fs r)).map (λts=>(w,ts)) else none)=_
 rw[if_pos hl,ht,RQ];rfl
theorem c9C{m:Nat}(h:m<10^10):E4 "K" (x6 (m:Int))=some (Th.k m):=by
 unfold E4;rw[if_pos rfl,Tx.ET h];rfl
theorem c9p(a:jg h):E4 "HOUSE" (C2 h)=some (Th.h h):=by
 unfold E4;rw[if_neg (by decide),if_pos rfl,a7B a];rfl
theorem b4j{z:S}(h:O4 z):E4 "WORD" z=some (Th.w z):=by
 unfold E4;rw[if_neg (by decide),if_neg (by decide),if_pos h]
theorem c8E{m:Nat}(h:c<48\/57<c):c ∉ cs (x6 (m:Int)):=λz=>by
 have:=R' (vS m) z;lia
theorem c8d(a:jg h):32 ∉ cs (C2 h):=λz=>by have:=Yj a.pos z;lia
theorem c9M(a:jg h):O2 (("house ":aC)++C2 h)=some (("house":aC),[Th.h h]):=by
 have e:("house ":aC)++C2 h=cO (ch 32) [("house":aC),C2 h]:=by
  refine ext ?_;rw[R_,bu];rfl
 rw[e];exact a6T (by decide) (λp hp=>by rw[cJ.mp hp];exact c8d a) rfl rfl (by show[E4 "HOUSE" (C2 h)]=_;rw[c9p a];rfl)
theorem c9Q{m:Nat}(hm:m<10^10)(a:jg h):O2 (("alter ":aC)++x6 (m:Int)++(" ":aC)++C2 h)=some (("alter":aC),[Th.k m,Th.h h]):=by
 have e:("alter ":aC)++x6 (m:Int)++(" ":aC)++C2 h=cO (ch 32) [("alter":aC),x6 (m:Int),C2 h]:=by
  refine ext ?_;rw[R_,R_,bu,bu,bu]
  show([97,108,116,101,114,32]++cs (x6 (m:Int))++[32])++cs (C2 h)=[97,108,116,101,114]++32::(cs (x6 (m:Int))++32::cs (C2 h))
  simp
 rw[e];exact a6T (by decide) (λp hp=>by
  rcases bH.mp hp with rfl|hp
  ·exact c8E (by lia)
  ·rw[cJ.mp hp];exact c8d a) rfl rfl (by show[E4 "K" (x6 m),E4 "HOUSE" (C2 h)]=_;rw[c9C hm,c9p a];rfl)
theorem c9R{z:S}(hz:O4 z):O2 (("sizes ":aC)++z)=some (("sizes":aC),[Th.w z]):=by
 have e:("sizes ":aC)++z=cO (ch 32) [("sizes":aC),z]:=by
  refine ext ?_;rw[R_,bu];rfl
 rw[e];exact a6T (by decide) (λp hp=>by rw[cJ.mp hp];rcases hz with rfl|rfl|rfl|rfl<;>decide +kernel) rfl rfl (by show[E4 "WORD" z]=_;rw[b4j hz];rfl)
end Rim
namespace Rim
open PySem L2 Fr
open Tx (S cs ch x6 J6 A5 w4)
structure kd(kt kg:Nat)(hs:List i8):Prop where
 l1:1<=hs.length
 ui:hs.length<=16
 g:∀h∈hs,HG (10^9) kt kg h
 t1:1<=kt
 t4:kt<=4
 g4:kg<=4
def kd.k(o:kd kt kg hs):∀g∈hs,g.1.length=kt/\g.2.length=kg:=λg hg=>⟨(o.g g hg).lt,(o.g g hg).lg⟩
theorem kd.bin(o:kd kt kg hs)(h:H ba=some (.lst xs))(b:Bk K H xs hs):O6 K H ba xs hs (10^9) kt kg:=⟨ah.of h,b,o.g,by decide,o.ui,by have:=o.t4;lia,by have:=o.g4;lia⟩
structure Way(k:List (aC×Addr))(FA:aA->Sp->Prop)(x:aC)(sp:Sp):Prop where
 w:∃g,k.lookup x=some g/\FA g sp
def b8U(P:aM)(w:aL)(K:aF)(mg:aC->Option aE)(base:aJ)(N:Nat):aA->Sp->Prop:=λg sp=>∀n,Yq P w K mg base (n+N) g sp
def Lf2(Pt ag p pa:aA)(H H':Hp):Prop:=∀b o,b≠p->b≠pa->b≠Pt->b≠ag->H b=some o->H' b=some o
def c7H(K:aF)(C Pt ag:aA)(H:Hp)(p pa:aA)(lo:List aA)(L:DS)(past:List DS)(an:S)(Q:VK):Prop:=∀H' lo',e_ K C H' p L past pa lo'->Lf2 Pt ag p pa H H'->LT Pt H'->nv ag H'->(∀b∈lo',b∈lo\/H b=none)->Q (.str an) H'
theorem c7x(T:cu P pos qual H)(hp:H p=some (.ins C dx fs))(jt:H pa=some (.lst xs))(lf:MI p pa H H'):cu P pos qual H':=by
 rcases T with e|⟨c,e1,e2⟩
 ·exact .inl (lf _ _ (J7 e hp nofun) (J7 e jt nofun) e)
 ·exact .inr ⟨c,lf _ _ (J7 e1 hp nofun) (J7 e1 jt nofun) e1,lf _ _ (J7 e2 hp nofun) (J7 e2 jt nofun) e2⟩
theorem e_.fv(T:LT Pt H)(M:nv ag H)(e:il Pt ag H H')(h:e_ K C H p L past pa lo):e_ K C H' p L past pa lo:=by
 obtain⟨dx,ba,pv,hp,_,_,jt,_⟩:=h.ex;refine h.jw (X:=λb=>b=Pt\/b=ag) ⟨λb o n q=>e b o (λz=>n (.inl z)) (λz=>n (.inr z)) q,λx hx=>?_⟩ (λb hb z=>?_) (λz=>z.elim (T.ne hp nofun) (M.ne hp nofun)) λz=>z.elim (T.ne jt nofun) (M.ne jt nofun)
 ·rcases hx with rfl|rfl
  ·exact Pd T
  ·exact Pd M
 ·obtain⟨xs,hx⟩:=h.ls b hb
  exact z.elim (T.ne hx nofun) (M.ne hx nofun)
section
variable{P:aM}{w:aL}{K:aF}{mg:aC->Option aE}{base:aJ}{C Pt ag CL CR CN CB CM:aA}{kA kD:List (aC×Addr)}{FA:aA->Sp->Prop}{H:Hp}{p pa:aA}{lo:List aA}{Q:VK}{E:XK}{row:S}{wd:aC}{ts:List Th}{L:DS}{past:List DS}{sp:Sp}{an:S}
theorem b8N(e:Pc K H v (.h h)):HS K H v h:=by
 obtain⟨t,ta,ga,rfl,h1,h2,h3⟩:=e;exact⟨t,ta,ga,rfl,cq.of h1,cq.of h2,cq.of h3⟩
structure i4(row:S)(wd:aC)(ts:List Th):Prop where
 a:J6 row
 l:row.length<=100000
 r:O2 row=some (wd,ts)
theorem c7o{α:Type}{R:α->Prop}{an:α->S}(D:e_ K C H p L past pa lo)(pl:past.length<=1000)(RI_:i4 row wd ts)(W:Way kA FA wd sp)(T:LT Pt H)(M:nv ag H)
  (h:∀l us ba xs H1 Q',af H H1->LT Pt H1->nv ag H1->H1 l=some (.lst us)->bR (Pc K H1) us ts->H1 ba=some (.lst xs)->Bk K H1 xs L.1->(∀a H',R a->il Pt ag H1 H'->LT Pt H'->nv ag H'->Q' (.str (an a)) H')->sp [.ref ba,.str L.2,.ref l] H1 Q' E)
  (q:∀a,R a->c7H K C Pt ag H p pa lo L past (an a) Q):Yr K C CL CR kA kD FA [.ref p,.str row] H Q E:=by
 refine⟨p,pa,row,L,past,lo,rfl,D,pl,RI_.a,RI_.l,λe=>(by rw[RI_.r] at e;cases e),λwd' ts' e l us ba H1 e1 Jm Ph ym BW=>?_⟩;rw[RI_.r] at e;cases e;obtain⟨g,hg,hF⟩:=W.w;refine⟨λg' h'=>?_,λh'=>(by simp_all),λh'=>(by lia)⟩;rw[hg] at h';cases h';obtain⟨xs,hx,hB⟩:=BW;have T1:=T.same e1;have M1_:=M.same e1;exact⟨_,hF,h l us ba xs H1 Q e1 T1 M1_ Jm Ph hx hB λa H' ra e2 T' M'_=>(q a ra H' lo ((D.same e1).fv T1 M1_ e2) (λb o _ _ n1 n2 hb=>e2 b o n1 n2 (e1 _ _ hb)) T' M'_ λb hb=>.inl hb)⟩
theorem c7w(D:e_ K C H p L past pa lo)(pl:past.length<=1000)(R:i4 row wd ts)(nA:kA.lookup wd=none)(W:Way kD FA wd sp)(T:LT Pt H)(M:nv ag H)
  (h:∀l us ba xs H1 Q',af H H1->H1 l=some (.lst us)->bR (Pc K H1) us ts->H1 ba=some (.lst xs)->Bk K H1 xs L.1->(∀t b' ys H2,af H1 H2->H2 t=some (.tup [.str an,.ref b',.str z'])->H2 b'=some (.lst ys)->Bk K H2 ys dt->(b'=ba\/H1 b'=none)->Q' (.ref t) H2)->sp [.ref ba,.str L.2,.ref l] H1 Q' E)
  (q:c7H K C Pt ag H p pa lo (dt,z') (past++[L]) an Q):Yr K C CL CR kA kD FA [.ref p,.str row] H Q E:=by
 obtain⟨dx,ba0,pv,hp,_,_,jt,_⟩:=D.ex;refine⟨p,pa,row,L,past,lo,rfl,D,pl,R.a,R.l,λe=>(by rw[R.r] at e;cases e),λwd' ts' e l us ba H1 e1 Jm Ph ym BW=>?_⟩;rw[R.r] at e;cases e;obtain⟨g,hg,hF⟩:=W.w;refine⟨λg' h'=>(by simp_all),λ_ g' h'=>?_,λ_ h'=>(by lia)⟩;rw[hg] at h';cases h';obtain⟨xs,hx,hB⟩:=BW;refine⟨_,hF,λQ' KP=>h l us ba xs H1 Q' e1 Jm Ph hx hB λt b' ys H2 e2 ht ou Yt nb=>KP _ _ ⟨t,an,b',z',dt,rfl,ht,e2,⟨ys,ou,Yt⟩,?_,λH3 lo' DK sub lf=>?_⟩⟩
 ·rcases nb with rfl|nb
  ·exact λz0=>D.no (z0▸ym)
  ·exact(i7 (e1 _ _ jt) nb).symm
 ·have HD:=e1.trans e2
  refine q H3 lo' DK (λb o n1 n2 _ _ hb=>lf b o n1 n2 (HD _ _ hb)) (c7x (T.same HD) (HD _ _ hp) (HD _ _ jt) lf) (c7x (M.same HD) (HD _ _ hp) (HD _ _ jt) lf) λb hb=>?_;rcases sub b hb with rfl|hb
  ·rcases nb with rfl|nb
   ·exact .inl ym
   ·exact .inr (e1.free nb)
  ·exact .inl hb
theorem d0C(D:e_ K C H p L (yt++[L0]) pa lo)(pl:yt.length<=900)(R:i4 row "back" [])(nA:kA.lookup ("back":aC)=none)(nD_:kD.lookup ("back":aC)=none)(T:LT Pt H)(M:nv ag H)
  (q:c7H K C Pt ag H p pa lo L0 yt "ok" Q):Yr K C CL CR kA kD FA [.ref p,.str row] H Q E:=by
 obtain⟨dx,ba0,pv,hp,_,_,jt,_⟩:=D.ex;refine⟨p,pa,row,L,yt++[L0],lo,rfl,D,by rw[aX,fR];lia,R.a,R.l,λe=>(by rw[R.r] at e;cases e),λwd' ts' e l us ba H1 e1 Jm Ph ym BW=>?_⟩;rw[R.r] at e;cases e;refine⟨λg' h'=>(by lia),λ_ g' h'=>(by simp_all),λ_ _=>⟨p,pa,L,yt++[L0],lo,rfl,D.same e1,λh0=>absurd h0 (by simp),λpast1 L1 hpq H3 DK lf=>?_⟩⟩;obtain⟨rfl,h2⟩:=To hpq rfl
 cases h2;exact q H3 lo DK (λb o n1 n2 _ _ hb=>lf b o n1 n2 (e1 _ _ hb)) (c7x (T.same e1) (e1 _ _ hp) (e1 _ _ jt) lf) (c7x (M.same e1) (e1 _ _ hp) (e1 _ _ jt) lf) λb hb=>.inl hb
theorem d1r(D:e_ K C H p (hs,z) past pa lo)(pl:past.length<=1000)(ob:kd kt kg hs)(R:i4 row "house" [Th.h h])(gk:ef h kt kg)(sk_:OV h)(ui:hs.length<16)(nA:kA.lookup ("house":aC)=none)(W:Way kD FA "house" (b5X K CB CM))(T:LT Pt H)(M:nv ag H)
  (q:c7H K C Pt ag H p pa lo (hs++[h],z) (past++[(hs,z)]) (x6 (hs.length:Int)) Q):Yr K C CL CR kA kD FA [.ref p,.str row] H Q E:=by
 refine c7w D pl R nA W T M (λl us ba xs H1 Q' e1 Jm Ph hx hB hQ=>?_) q
 cases Ph with
 |cons hv hn =>
 cases hn;have Lx:=b8N hv;exact⟨ba,l,xs,_,hs,z,_,h,kt,kg,rfl,hx,hB,ob.l1,ob.ui,ob.k,ob.t4,ob.g4,Jm,rfl,Lx,sk_,λ_ _ t r H2 e2 BO ht hr=>hQ t r _ H2 e2 ht hr (aZ.app (Bk.same e2 hB) (.cons (Lx.same e2) .nil)) (.inr BO),λbad=>absurd gk bad,λ_ bad=>absurd bad (by lia)⟩
theorem d1b{i:Nat}(D:e_ K C H p (hs,z) past pa lo)(pl:past.length<=1000)(h16:hs.length<=16)(R:i4 row "drop" [Th.k (i:Int)])(hi:i<hs.length)(h2:2<=hs.length)(nA:kA.lookup ("drop":aC)=none)(W:Way kD FA "drop" (b3f K CN CB))(T:LT Pt H)(M:nv ag H)
  (q:c7H K C Pt ag H p pa lo (S8 hs i,z) (past++[(hs,z)]) "ok" Q):Yr K C CL CR kA kD FA [.ref p,.str row] H Q E:=by
 refine c7w D pl R nA W T M (λl us ba xs H1 Q' e1 Jm Ph hx hB hQ=>?_) q;have xl:=dE hB
 cases Ph with
 |cons hv hn =>
 cases hn
 cases hv;refine⟨ba,l,xs,_,z,(i:Int),rfl,hx,by lia,Jm,rfl,b5j (by lia),λj hj nj _ t r H2 e2 BO ht hr=>?_,λbad=>absurd ⟨by lia,by lia⟩ bad,λ_ h1=>absurd h1 (by lia)⟩;have:j=i:=by lia
 subst this;exact hQ t r _ H2 e2 ht hr (aZ.app (aZ.take j (Bk.same e2 hB)) (aZ.drop (j+1) (Bk.same e2 hB))) (.inr BO)
theorem c9Y{i:Nat}(D:e_ K C H p (hs,z) past pa lo)(pl:past.length<=1000)(ob:kd kt kg hs)(R:i4 row "alter" [Th.k (i:Int),Th.h h])(hi:i<hs.length)(gk:ef h kt kg)(sk_:OV h)(nA:kA.lookup ("alter":aC)=none)(W:Way kD FA "alter" (c8i K CN CB))(T:LT Pt H)(M:nv ag H)
  (q:c7H K C Pt ag H p pa lo ((hs.take i++[h])++hs.drop (i+1),z) (past++[(hs,z)]) "ok" Q):Yr K C CL CR kA kD FA [.ref p,.str row] H Q E:=by
 refine c7w D pl R nA W T M (λl us ba xs H1 Q' e1 Jm Ph hx hB hQ=>?_) q;have xl:xs.length=hs.length:=dE hB;have h16:=ob.ui
 cases Ph with
 |cons hk hn =>
 cases hk
 cases hn with
 |cons hv hn =>
 cases hn;have Lx:=b8N hv;refine⟨ba,l,xs,_,hs,z,(i:Int),_,h,kt,kg,rfl,hx,hB,ob.l1,ob.ui,ob.k,ob.t4,ob.g4,Jm,rfl,b5j (by lia),rfl,Lx,sk_,λj hj nj _ t r H2 e2 BO ht hr=>?_,λbad=>absurd ⟨by lia,by lia⟩ bad,λ_ bad=>absurd gk bad⟩;have:j=i:=by lia
 subst this;exact hQ t r _ H2 e2 ht hr (aZ.app (aZ.app (aZ.take j (Bk.same e2 hB)) (.cons (Lx.same e2) .nil)) (aZ.drop (j+1) (Bk.same e2 hB))) (.inr BO)
theorem d0c(D:e_ K C H p (hs,z) past pa lo)(pl:past.length<=1000)(R:i4 row "sizes" [Th.w z'])(nA:kA.lookup ("sizes":aC)=none)(W:Way kD FA "sizes" (b3o K))(T:LT Pt H)(M:nv ag H)
  (q:c7H K C Pt ag H p pa lo (hs,z') (past++[(hs,z)]) "ok" Q):Yr K C CL CR kA kD FA [.ref p,.str row] H Q E:=by
 refine c7w D pl R nA W T M (λl us ba xs H1 Q' e1 Jm Ph hx hB hQ=>?_) q
 cases Ph with
 |cons hv hn =>
 cases hn
 cases hv;exact⟨_,z,l,_,z',rfl,Jm,rfl,λt H2 e2 ht=>hQ t ba _ H2 e2 ht (e2 _ _ hx) (Bk.same e2 hB) (.inl rfl)⟩
theorem d0G(D:e_ K C H p (hs,z) past pa lo)(pl:past.length<=1000)(ob:kd kt kg hs)(R:i4 row "book" [])(W:Way kA FA "book" (a9P K))(T:LT Pt H)(M:nv ag H)(q:c7H K C Pt ag H p pa lo (hs,z) past (Ey hs) Q):Yr K C CL CR kA kD FA [.ref p,.str row] H Q E :=
 c7o (R:=λ_:Unit=>True) D pl R W T M (λl us ba xs H1 Q' e1 T1 M1_ Jm Ph hx hB hQ=>⟨ba,_,_,xs,hs,rfl,ah.of hx,hB,by have:=ob.ui;lia,λh hh=>Sw (ob.g h hh) (dL _) ob.t4 ob.g4,λH2 e2=>hQ () H2 trivial e2.to2 (T1.same e2) (M1_.same e2)⟩) λ_ _=>q
theorem c9F{i:Nat}(D:e_ K C H p (hs,z) past pa lo)(pl:past.length<=1000)(ob:kd kt kg hs)(hz:O4 z)(R:i4 row "share" [Th.k (i:Int)])(hi:hs[i]?=some h)(W:Way kA FA "share" (a7Q K CN Pt))(T:LT Pt H)(M:nv ag H)(ne:ag≠Pt)(q:∀x,Fl z hs h kt kg x->c7H K C Pt ag H p pa lo (hs,z) past (De x) Q):Yr K C CL CR kA kD FA [.ref p,.str row] H Q E:=by
 refine c7o D pl R W T M (λl us ba xs H1 Q' e1 T1 M1_ Jm Ph f' hB hQ=>?_) q;have nj:=(cA.mp hi).1;have xl:xs.length=hs.length:=dE hB;have h16:=ob.ui
 cases Ph with
 |cons hv hn =>
 cases hn
 cases hv;refine⟨ba,l,xs,_,hs,(i:Int),z,kt,kg,rfl,hz,ob.bin f' hB,ob.t1,Jm,rfl,b5j (by lia),T1,λj h' y H2 hj hh Y e2 T2=>?_,λbad=>absurd ⟨by lia,by lia⟩ bad⟩;have:j=i:=by lia
 subst this;rw[hi] at hh;cases hh;exact hQ y H2 Y e2.to2 T2 (T1.other M1_ ne e2)
theorem c9N{i:Nat}(D:e_ K C H p (hs,z) past pa lo)(pl:past.length<=1000)(ob:kd kt kg hs)(R:i4 row "scale" [Th.k (i:Int)])(hi:hs[i]?=some h)(W:Way kA FA "scale" (c7X K CN Pt))(T:LT Pt H)(M:nv ag H)(ne:ag≠Pt)(q:∀t,Scl hs h kt kg t->c7H K C Pt ag H p pa lo (hs,z) past t Q):Yr K C CL CR kA kD FA [.ref p,.str row] H Q E:=by
 refine c7o D pl R W T M (λl us ba xs H1 Q' e1 T1 M1_ Jm Ph f' hB hQ=>?_) q;have nj:=(cA.mp hi).1;have xl:xs.length=hs.length:=dE hB;have h16:=ob.ui
 cases Ph with
 |cons hv hn =>
 cases hn
 cases hv;refine⟨ba,l,_,xs,_,hs,(i:Int),kt,kg,rfl,ob.bin f' hB,ob.t1,Jm,rfl,b5j (by lia),T1,λj h' H2 y hj hh Y e2 T2=>?_,λbad=>absurd ⟨by lia,by lia⟩ bad⟩;have:j=i:=by lia
 subst this;rw[hi] at hh;cases hh;exact hQ y H2 Y e2.to2 T2 (T1.other M1_ ne e2)
def d1x(D:e_ K C H p (hs,z) past pa lo)(pl:past.length<=1000)(ob:kd kt kg hs)(hz:O4 z)(R:i4 row "rim" [])(W:Way kA FA "rim" (b2J K Pt))(T:LT Pt H)(M:nv ag H)(ne:ag≠Pt)(q:c7H K C Pt ag H p pa lo (hs,z) past (c7z (Jg z hs)) Q):Yr K C CL CR kA kD FA [.ref p,.str row] H Q E :=
 c7o (R:=λ_:Unit=>True) D pl R W T M (λl us ba xs H1 Q' e1 T1 M1_ Jm Ph hx hB hQ=>⟨ba,_,xs,hs,z,kt,kg,rfl,hz,ob.bin hx hB,T1,λH2 e2 T2=>hQ () H2 trivial e2.to2 T2 (T1.other M1_ ne e2)⟩) λ_ _=>q
def c8X(D:e_ K C H p (hs,z) past pa lo)(pl:past.length<=1000)(ob:kd kt kg hs)(hz:O4 z)(R:i4 row "levels" [])(W:Way kA FA "levels" (c7E K Pt))(T:LT Pt H)(M:nv ag H)(ne:ag≠Pt)(q:c7H K C Pt ag H p pa lo (hs,z) past (d1z (lev z hs hs.length (aW hs.length))) Q):Yr K C CL CR kA kD FA [.ref p,.str row] H Q E :=
 c7o (R:=λ_:Unit=>True) D pl R W T M (λl us ba xs H1 Q' e1 T1 M1_ Jm Ph hx hB hQ=>⟨ba,_,xs,hs,z,kt,kg,rfl,hz,ob.bin hx hB,ob.t1,T1,λH2 e2 T2=>hQ () H2 trivial e2.to2 T2 (T1.other M1_ ne e2)⟩) λ_ _=>q
def d0e(D:e_ K C H p (hs,z) past pa lo)(pl:past.length<=1000)(ob:kd kt kg hs)(hz:O4 z)(R:i4 row "order" [])(W:Way kA FA "order" (c8e K Pt ag))(T:LT Pt H)(M:nv ag H)(ne:ag≠Pt)(q:∀ns,(∃os,Os z hs kt kg os/\DR os ns)->c7H K C Pt ag H p pa lo (hs,z) past (G4 ns) Q):Yr K C CL CR kA kD FA [.ref p,.str row] H Q E :=
 c7o D pl R W T M (λl us ba xs H1 Q' e1 T1 M1_ Jm Ph hx hB hQ=>⟨ba,_,xs,hs,z,kt,kg,rfl,hz,ob.bin hx hB,ob.t1,T1,M1_,ne,λos ns' H2 O S e2 T2 M2_=>hQ ns' H2 ⟨os,O,S⟩ e2 T2 M2_⟩) q
theorem d0U(hz:O4 z)(ob:kd kt kg hs)(x:∃os,Os z hs kt kg os/\DR os ns)(y:∃os,Os z hs kt kg os/\DR os ns'):ns=ns':=by
 obtain⟨os,O,S⟩:=x;obtain⟨os',O',S'⟩:=y;have e:os=os':=by
  refine dR λi=>?_
  by_cases c:i<hs.length
  ·have h1:i<os.length:=by rw[O.1];exact c
   have h2:i<os'.length:=by rw[O'.1];exact c
   rw[aS h1,aS h2,OsAt.eq hz ob.g (O.2 i _ (aS h1)) (O'.2 i _ (aS h2))]
  ·rw[bW (by rw[O.1];lia),bW (by rw[O'.1];lia)]
 subst e;exact S.eq S'
theorem d1W(ob:kd kt kg hs)(gh:HG (10^9) kt kg h)(x:Scl hs h kt kg t)(y:Scl hs h kt kg t'):t=t':=by
 have E:∀{z:aC}{A B A' B':Int},O4 z->ShU z hs h kt kg A B->ShU z hs h kt kg A' B'->low A B=low A' B':=λhz s s'=>s.fr hz s'.s ob.g gh;have z0:O4 "any":=.inl rfl;have z1:O4 "one":=.inr (.inl rfl);have z2:O4 "less":=.inr (.inr (.inl rfl))
 cases x with
 |just a0 a1 q =>
  cases y with
  |just=>rfl
  |small b0 b1 q'=>rw[<-E z0 a0 b0,<-E z1 a1 b1] at q';exact absurd q q'
  |great b0 b1 q'=>rw[<-E z0 a0 b0,<-E z1 a1 b1] at q';exact absurd q q'
 |small a0 a1 q a2 r =>
  cases y with
  |just b0 b1 q'=>rw[<-E z0 a0 b0,<-E z1 a1 b1] at q';exact absurd q' q
  |small=>rfl
  |great b0 b1 _ b2 r'=>rw[<-E z0 a0 b0,<-E z2 a2 b2] at r';exact absurd r r'
 |great a0 a1 q a2 r =>
  cases y with
  |just b0 b1 q'=>rw[<-E z0 a0 b0,<-E z1 a1 b1] at q';exact absurd q' q
  |small b0 b1 _ b2 r'=>rw[<-E z0 a0 b0,<-E z2 a2 b2] at r';exact absurd r' r
  |great=>rfl
end
end Rim
namespace L2
open PySem PySem.Spec PyProof.Rows
section
variable{X:Cx}
end
theorem bmK K{id}{apos iz}(hK:X.K=K)(pa:qS T)(slot:Slot T name id)(Ng:typeOf (.builtin id)=pure (.type "method_descriptor"))(hm:Qi X id r)(ho:PE X o to)(ha:PA X (e::es) t)
    (yd:attributeBase o name X.env (eval o X.env)=eval o X.env:=by rfl)
    (JL:((backTo iz (starEach (e::es) X.env)).all (λx=>!x.1)&&(backToKw iz (keywordEach [] X.env)).all (λx=>x.1.isSome)
     &&decide ((e::es).length+([]:List lX).length+(if ([]:List lX).isEmpty then 0 else 1)<30))=true:=by rfl)
    (ye:(apos.endLine==iz.line)=true:=by rfl) (hs:starEach (e::es) X.env=(false,eval e X.env)::starEach es X.env:=by rfl) (As:(backTo iz (starEach es X.env)).any (·.1)=false:=by rfl) :
    PE X (.Call (.Attribute o name apos) (e::es) [] iz) (Qk K T r to t):=by
  subst hK;exact K7 pa slot Ng hm ho ha yd JL ye hs As
theorem c1m K(hK:X.K=K)(hl:PE X l tl):PI X tg l (Tw K tl):=by
 subst hK;exact IE hl
end L2
namespace Rim
open PySem L2 Fr
open Tx (S cs ch x6 J6 A5 w4 bu vk ext)
def i5(h:(cs z).all (λc=>decide (c<128))=true):J6 z:=λc hc=>of_decide_eq_true (fE.mp h c hc)
theorem W8(x y:S):(x++y).length=x.length+y.length:=by rw[Tx.d_,bu,aX,<-Tx.d_,<-Tx.d_]
theorem c7v{m:Nat}(h:m<10^10):(x6 (m:Int)).length<=10:=a4T (by lia) (by lia)
theorem a5l(p:Pos h):J6 (C2 h):=λd hd=>by have:=Yj p hd;lia
theorem c8q{w lit:aC}{m:Nat}(hm:m<10^10)(he:cs lit=cs w++[32])(ha:J6 lit)(hl:lit.length<=20)(hw:32 ∉ cs w)(hf:ji.lookup w=some [("K":aC)]):i4 (lit++x6 (m:Int)) w [Th.k (m:Int)]:=by
 refine⟨Tx.dv ha (Tx.num_asc m),by rw[W8];have:=c7v hm;lia,?_⟩;have e:lit++x6 (m:Int)=cO (ch 32) [w,x6 (m:Int)]:=by
  refine ext ?_;rw[R_,bu,he]
  show(cs w++[32])++_=cs w++32::cs (x6 (m:Int))
  simp
 rw[e];exact a6T hw (λp hp=>by rw[cJ.mp hp];exact c8E (by lia)) hf rfl (by show[E4 "K" (x6 m)]=_;rw[c9C hm];rfl)
theorem c7C(ha:J6 w)(hl:w.length<=20)(hw:32 ∉ cs w)(hf:ji.lookup w=some []):i4 w w [] :=
 ⟨ha,by lia,a6T (r:=[]) hw (λ_ h=>by cases h) hf rfl rfl⟩
theorem d2k{m:Nat}(hm:m<10^10):i4 (("drop ":aC)++x6 (m:Int)) "drop" [Th.k (m:Int)]:=c8q hm rfl (i5 rfl) (by decide) (by decide) rfl
theorem d1v{m:Nat}(hm:m<10^10):i4 (("share ":aC)++x6 (m:Int)) "share" [Th.k (m:Int)]:=c8q hm rfl (i5 rfl) (by decide) (by decide) rfl
theorem d1e{m:Nat}(hm:m<10^10):i4 (("scale ":aC)++x6 (m:Int)) "scale" [Th.k (m:Int)]:=c8q hm rfl (i5 rfl) (by decide) (by decide) rfl
theorem d2q:i4 "back" "back" []:=c7C (i5 rfl) (by decide) (by decide) rfl
theorem d1U:i4 "book" "book" []:=c7C (i5 rfl) (by decide) (by decide) rfl
theorem d2C:i4 "rim" "rim" []:=c7C (i5 rfl) (by decide) (by decide) rfl
theorem d1K:i4 "order" "order" []:=c7C (i5 rfl) (by decide) (by decide) rfl
theorem d0S:i4 "levels" "levels" []:=c7C (i5 rfl) (by decide) (by decide) rfl
theorem d1C{z:S}(hz:O4 z):i4 (("sizes ":aC)++z) "sizes" [Th.w z]:=⟨by rcases hz with rfl|rfl|rfl|rfl<;>exact i5 rfl,by rcases hz with rfl|rfl|rfl|rfl<;>decide +kernel,c9R hz⟩
structure WrH(kt kg:Nat)(h:i8):Prop where
 a:jg h
 g:ef h kt kg
 t4:kt<=4
 g4:kg<=4
def WrH.sm(x:WrH kt kg h):Sm h.1/\Sm h.2:=Sw x.g.hg (dL _) x.t4 x.g4
theorem WrH.sk_(x:WrH kt kg h):OV h:=⟨by have:=x.g.hg.lt;have:=x.t4;lia,by have:=x.g.hg.lg;have:=x.g4;lia⟩
theorem d1t(x:WrH kt kg h):i4 (("house ":aC)++C2 h) "house" [Th.h h]:=by
 refine⟨Tx.dv (i5 rfl) (a5l x.a.pos),?_,c9M x.a⟩;have:=RD x.sm.1 x.sm.2;have:(("house ":aC):S).length=6:=by decide +kernel
 rw[W8];lia
theorem d1q{m:Nat}(hm:m<10^10)(x:WrH kt kg h):i4 (("alter ":aC)++x6 (m:Int)++(" ":aC)++C2 h) "alter" [Th.k (m:Int),Th.h h]:=by
 refine⟨Tx.dv (Tx.dv (Tx.dv (i5 rfl) (Tx.num_asc m)) (i5 rfl)) (a5l x.a.pos),?_,c9Q hm x.a⟩;have:=RD x.sm.1 x.sm.2;have:=c7v hm;have:(("alter ":aC):S).length=6:=by decide +kernel
 have:((" ":aC):S).length=1:=by decide +kernel
 rw[W8,W8,W8];lia
inductive c9y(K:aF)(vs:List V)(H:Hp)(Q:VK)(z3_:XK):Prop|mk:∀a ns,vs=[.ref a]->ah K H a (ns.map V.int)->Sm ns->(∀H',af H H'->Q (.str (G4 ns)) H')->c9y K vs H Q z3_
def d2h:p7 ["numbers"] ["numbers"] (i9 t0):={}
theorem d2a:(["number"]:List aC).Nodup:=by simp
theorem d1y(F:Aj K "_law_a_numbers" t0 f fd)(zs:mg "str"=none):bf P w K mg base J8 (n+1) f fd ["numbers"] (c9y K):=by
 refine F.oa d2h λay A outer s H vs Q E hr h=>?_
 obtain⟨a,ns,rfl,hS,hm,q⟩:=h;refine⟨_,j4 (o4 (K7 eP hZ iA W4 l9 (c6 (N6 ["number"] [] rfl (C6 (pv 0)) (λ_ _ _ _=>j9 (i:=0) d2a rfl (aI rfl)) λ_ _ _ _=>v5 E5 rfl zs iB (c6 (pv 0) c7)) c7))),rfl,_,rfl,a,rfl,⟨_,hS⟩,λp hp=>(O9 (A3 hS) hp (by rw[aH];exact t9 (by have:=hm.1;lia)) (λx=>.str (x6 (vI x))) (λi x H' N hx e hN=>?_) ?_)⟩
 ·obtain⟨k,rfl,hk⟩:=RC hx
  exact⟨Wk.set (by decide),_,rfl,k,rfl,Mr (hm.2 k hk).1 (hm.2 k hk).2,hN⟩
 ·refine⟨_,p,ns.map x6,rfl,rfl,ah.of (by rw[ae,bC,bC];rfl),?_,?_⟩
  ·refine bF (kC (O7 (Y3 hm)) _) ?_
   have:=hm.1;rw[aH]
   show ns.length*10+ns.length*1<=_
   lia
  ·rw[Tx.join_eq]
   exact q _ (af.new hp _)
end Rim
namespace Rim
open PySem L2 Fr
theorem d2j{R:Nat->Q2->Prop}:(∀i y,ys[i]?=some y->∃q,R i q/\Ex H y q)->∃qs,bR (Ex H) ys qs/\∀i q,qs[i]?=some q->R i q:=by
 induction ys generalizing R with
 |nil=>exact λ_=>⟨[],.nil,λi q e=>by simp at e⟩
 |cons y ys ih =>
  intro h;obtain⟨q,r,hq⟩:=h 0 y rfl;obtain⟨qs,p,k⟩:=ih λi z e=>h (i+1) z (by simp_all);refine⟨q::qs,.cons hq p,λi q' e=>?_⟩
  cases i with
  |zero=>simp at e;subst e;exact r
  |succ i=>exact k i q' (by simp_all)
theorem d0i(F:df K "turn_to" "Kept.turn_to" b8 f fd)(T:v8 mg)(aw:TK K C)(Cs:vn P w K mg base n "share" ["book","number","sizes"] (OI K CN Pt) f1 d1) :
  bf P w K mg base J8 (n+1) f fd ["self","houses"] (c7O K C Pt):=by
 refine F.oa scTurnK λay A outer s H vs Q E hr h=>?_
 obtain⟨p,ha,pa,kt,kg,z,L,past,lo,xs,hs,rfl,gm,ft,hha,hB,hG,h16,nha,wb,LTH,q⟩:=h;refine⟨_,(d2E T Cs hr).2,?_⟩;obtain⟨dx,ta,wa,pv,hp,hlv,jt,Fj⟩:=gm.ex;have xl:=dE hB;have small:=t9 (show xs.length<=1000 by lia);refine⟨λau H'=>Ev3 λwl ys qs=>au=[some (.ref p),some (.ref ha),some (.ref wl)]/\bj Pt H H'/\LT Pt H'/\H wl=none/\H' wl=some (.lst ys)/\bR (Ex H') ys qs/\Shs z hs kt kg qs,?_,?_⟩
 ·refine⟨_,rfl,ha,_,rfl,.inl (ah.of hha),_,rfl,by lia,by lia,λwl XZ=>(c9B LTH XZ small (λi y H'=>Ev4 λq h A B=>(hs[i]?=some h/\ShU z hs h kt kg A B/\q=low A B)/\Ex H' y q) (λi y H1 H2 L1 hz r k=>?_) (λi H1 ys N' hi e1 L1 Fm hN=>?_) λys H1 e1 L1 Fm len pr=>?_)⟩
  ·obtain⟨zs,Wy⟩:=hz
   obtain⟨q,h,A,B,x,a,rfl,r⟩:=r;exact⟨q,h,A,B,x,a,rfl,k _ _ (J7 r Wy nofun) (L1.ne r nofun) r⟩
  ·have bin:O6 K H1 ha xs hs (10^9) kt kg:=⟨ah.of (e1.get LTH hha nofun),Bk.fg LTH e1 hB,hG,by decide,h16,by have:=ft.t4;lia,by have:=ft.g4;lia⟩
   refine⟨_,rfl,_,rfl,_,rfl,p,C,dx,_,_,rfl,e1.get LTH hp nofun,aw.cl,aw.nS,rfl,ha,xs,hs,(i:Int),z,10^9,kt,kg,rfl,ft.z,bin,ft.t1,b5j (by lia),L1,λi' h' A' B' H7 u' Ek Kp X'_ e7 L7_ hu'=>?_,λbad=>absurd ⟨by lia,by lia⟩ bad⟩;have:i'=i:=by lia
   subst this;exact hN _ _ e7 L7_ ⟨_,h',A',B',⟨Kp,X'_,rfl⟩,hu'⟩
  ·obtain⟨qs,pq,kq_⟩:=d2j (H:=H1) (ys:=ys) (R:=λi q=>Ev3 λh A B=>hs[i]?=some h/\ShU z hs h kt kg A B/\q=low A B) λi y e=>by
    obtain⟨q,h,A,B,x,r⟩:=pr i y e;exact⟨q,⟨h,A,B,x⟩,r⟩
   refine⟨wl,ys,qs,rfl,e1,L1,XZ,Fm,pq,by rw[<-pq.length,len,xl];simp,λi h q hh hq=>?_⟩;obtain⟨h',A,B,Kp,X,e⟩:=kq_ i q hq;rw[hh] at Kp;cases Kp;exact⟨A,B,X,e⟩
 intro Eg H1 cw;refine E8 λG_ cy=>?_;obtain⟨wl,ys,qs,rfl,e1,L1,XZ,hwl1,pq,SD⟩:=cw;subst cy;have g1:∀{b:aA}{o:HO},H b=some o->(∀ps,o≠.my ps)->H1 b=some o:=λh n=>e1.get LTH h n;have Fm:=g1 hp nofun;have Fn:=g1 jt nofun;refine⟨_,rfl,p,C,dx,_,_,rfl,Fm,aw.cl,aw.nP,rfl,.inl ⟨rfl,_,ah.of Fn⟩,_,rfl,p,C,dx,_,_,rfl,Fm,aw.cl,aw.nH,rfl,_,rfl,p,C,dx,_,_,rfl,Fm,aw.cl,aw.nW,rfl,(by show 2<=sizeLine;decide),λt ht=>?_⟩;have s2:=af.new ht (.tup [V.ref ta,V.ref wa]);have lpv:pv.length=past.length:=Fj.length;refine⟨pa,_,_,rfl,rfl,s2 _ _ Fn,gU (show pv.length<=1000 by lia) (by decide),?_⟩;have Pf:p≠pa:=J7 hp jt nofun;refine⟨_,rfl,_,rfl,p,C,dx,_,rfl,by rw[j3 Pf];exact s2 _ _ Fm,aw.cl,aw.nH,(by show 6<1000;decide),_,rfl,_,rfl,p,C,dx,_,rfl,ae,aw.cl,aw.nW,(by show 6<1000;decide),?_⟩;rw[Ju];have nwp:wl≠p:=J7 hwl1 Fm nofun;have nwa:wl≠pa:=λz0=>by subst z0;rw[jt] at XZ;cases XZ
 have nwt:wl≠t:=i7 hwl1 ht;have nhp:ha≠p:=J7 hha hp nofun;have fr:zp (λb=>b=p\/b=pa\/b=Pt) H (upd (upd (upd H1 t (HO.tup [V.ref ta,V.ref wa])) pa (HO.lst (pv++[V.ref t]))) p (HO.ins C dx (Z6 "worth" (V.ref wl) (Z6 "there" (V.ref ha) (KFs kt kg z ta wa pa))))):=by
  refine⟨λb o hx e=>?_,λx hx=>?_⟩
  ·have n1:b≠p:=λz=>hx (.inl z)
   have n2:b≠pa:=λz=>hx (.inr (.inl z));have n3:b≠Pt:=λz=>hx (.inr (.inr z));rw[j3 n1,j3 n2];exact s2 _ _ (e1 _ _ n3 e)
  ·rcases hx with rfl|rfl|rfl
   ·exact Sn hp
   ·exact S3 jt
   ·exact Pd LTH
 have fr1:zp (λb=>b=p\/b=pa) H1 (upd (upd (upd H1 t (HO.tup [V.ref ta,V.ref wa])) pa (HO.lst (pv++[V.ref t]))) p (HO.ins C dx (Z6 "worth" (V.ref wl) (Z6 "there" (V.ref ha) (KFs kt kg z ta wa pa))))):=by
  refine⟨λb o hx e=>?_,λx hx=>?_⟩
  ·rw[j3 λz=>hx (.inl z),j3 λz=>hx (.inr z)]
   exact s2 _ _ e
  ·rcases hx with rfl|rfl
   ·exact Sn Fm
   ·exact S3 Fn
 have Er:∀b∈lo,¬(b=p\/b=pa\/b=Pt):=λb hb hx=>by
  obtain⟨zs,hz⟩:=gm.ls b hb;rcases hx with rfl|rfl|rfl
  ·rw[hp] at hz;cases hz
  ·exact gm.no hb
  ·exact LTH.ne hz nofun rfl
 refine q _ wl qs ⟨?_,λb hb=>?_,dx,ha,wl,pv++[.ref t],ae,⟨.head _,.tail _ (.head _),⟨xs,fr.k _ _ (λhx=>hx.elim nhp λhx=>hx.elim nha (LTH.ne hha nofun)) hha,hB.jw fr⟩,ys,fr1.k _ _ (λhx=>hx.elim nwp nwa) hwl1,aZ.imp' (λ_ _ r=>Ex.jw fr1 r) pq⟩,?_,?_⟩ SD XZ (λb o n1 n2 n3 e=>fr.k b o (λhx=>hx.elim n1 λhx=>hx.elim n3 n2) e) ?_
 ·intro hb
  rcases bH.mp hb with z0|hb
  ·exact nha z0.symm
  ·rcases bH.mp hb with z0|hb
   ·exact nwa z0.symm
   ·exact gm.no hb
 ·rcases bH.mp hb with rfl|hb
  ·exact⟨xs,fr1.k _ _ (λhx=>hx.elim nhp nha) (g1 hha nofun)⟩
  ·rcases bH.mp hb with rfl|hb
   ·exact⟨ys,fr1.k _ _ (λhx=>hx.elim nwp nwa) hwl1⟩
   ·obtain⟨zs,hz⟩:=gm.ls b hb
    exact⟨zs,fr.k _ _ (Er b hb) hz⟩
 ·rw[j3 Pf.symm,ae]
 ·refine aZ.app (Fj.jw fr Er λb hb=>.tail _ (.tail _ hb)) (.cons ⟨t,ta,wa,rfl,?_,hlv.jw fr Er λb hb=>.tail _ (.tail _ hb)⟩ .nil)
  rw[j3 ((i7 Fm ht).symm),j3 ((i7 Fn ht).symm),ae]
 ·rcases(L1.same s2).write (o:=.lst (pv++[V.ref t])) (s2 _ _ Fn) with x|⟨c,x,y⟩
  ·exact .inl (by rw[j3 (λz0=>by rw[z0,j3 Pf,s2 _ _ Fm] at x;cases x)];exact x)
  ·exact .inr ⟨c,by rw[j3 (λz0=>by rw[z0,j3 Pf,s2 _ _ Fm] at x;cases x)];exact x,by rw[j3 (λz0=>by rw[z0,j3 Pf,s2 _ _ Fm] at y;cases y)];exact y⟩
end Rim
namespace HT
open PySem PySem.Spec PyProof.Rows L2
section
variable{prog:aM}{w:aL}{A:aV}{E:aE->aG->Prop}{s:aG}
end
end HT
namespace L2
open PySem PySem.Spec PyProof.Rows
section
variable{X:Cx}
theorem d0X(xs:List V)(h:xs≠[]):P5 xs none (some (-1))=xs.take (xs.length-1)/\P5 xs (some (-1)) none=xs.drop (xs.length-1):=by
 have hl:0<xs.length:=vC.mpr h;have e:∀d,HT.wc xs.length d (some (-1))=xs.length-1:=λd=>by
  show(if (-1:Int)<0 then ((-1:Int)+(xs.length:Int)).toNat else min (-1:Int).toNat xs.length)=_
  rw[if_pos (by decide)];lia
 constructor
 ·unfold P5
  rw[e,HT.rp,oY,Nat.sub_zero]
 ·unfold P5
  rw[e,HT.rp,fZ];rw[eJ];lia
end
end L2
namespace Rim
open PySem L2 Fr
def d1Y(K:aF)(H:Hp)(l:aA)(ps qs:List Q2):Prop:=Ev3 λxs ys ts=>FrL K H xs ps/\FrL K H ys qs/\H l=some (.lst ts)/\UL H xs ys (chI ps qs) ts
structure c7g(P:aM)(w:aL)(K:aF)(mg:aC->Option aE)(base:aJ)(CX:ze)(n:Nat)(C:aA)(m:aC)(ps:List aC)(sp:Sp)(f:aA)(fd:aK):Prop where
 ok:bf P w K mg base CX n f fd ps sp
 bd:Binds K fd ps []
 me:Ly K C m f
def FrL.same(e:af H H')(h:FrL K H xs ps):FrL K H' xs ps:=aZ.imp' (λ_ _ r=>Xc.same e r) h
def c7f(h:bR (Ex H) xs ps):FrL K H xs ps:=aZ.imp' (λ_ _ r=>Ex.v r) h
def I0{l':List β}(h:bR F l l'):l.length=l'.length:=h.length
theorem Sq.free(l:Sq Pt p pa H H')(hp:H' p≠none)(jt:H' pa≠none)(T:LT Pt H')(h:H' x=none):H x=none:=by
 cases q:H x with
 |none=>rfl
 |some o =>
  have n3:x≠Pt:=λz=>by
   subst z;rcases T with t|⟨c,t,_⟩<;>(rw[h] at t;cases t)
  rw[l x o (λz=>hp (z▸h)) n3 (λz=>jt (z▸h)) q] at h;cases h
theorem c7s{α:Type}{l:List α}(h:l.length=k+1):Ev2 λa x=>l=a++[x]/\a.length=k:=by
 refine⟨l.dropLast,l.getLast (by intro z;rw[z] at h;simp at h),(xJ _).symm,by rw[List.length_dropLast];lia⟩
theorem c7i:∀{a}{b}{x}{y:β},bR F (a++[x]) (b++[y])->bR F a b/\F x y
 |[],[],_,_,.cons r _=>⟨.nil,r⟩
 |[],_::b,_,_,.cons _ t=>by have:=t.length;simp at this
 |_::a,[],_,_,.cons _ t=>by have:=t.length;simp at this
 |_::a,_::b,_,_,.cons r t=>by
  obtain⟨h1,h2⟩:=c7i t;exact⟨.cons r h1,h2⟩
def d0d(e:af H H')(h:UL H xs ys is ts):UL H' xs ys is ts:=h.same λb zs q=>e b _ q
inductive c7y(K:aF)(C CB CT Pt:aA)(vs:List V)(H:Hp)(Q:VK)(E:XK):Prop|mk:∀p pa v h kt kg z L past lo,vs=[.ref p,v]->c1O K C H p kt kg z L past pa lo->Fit z kt kg->HS K H v h->OV h->(∀g∈L.1,HG (10^9) kt kg g)->L.1.length<=16->L.2.length=L.1.length->past.length<=1000->LT Pt H->(ef h kt kg->L.1.length<16->∀H' ha wa r cl u qs x,c1O K C H' p kt kg z (L.1++[h],qs++[x]) (past++[L]) pa (ha::wa::lo)->Shs z (L.1++[h]) kt kg (qs++[x])->H ha=none->H wa=none->Sq Pt p pa H H'->LT Pt H' → H r=none->H' r=some (.tup [u,.ref cl])->Ex H' u x->H cl=none->d1Y K H' cl L.2 qs->cl≠ha->cl≠wa->Q (.ref r) H')->(¬ef h kt kg->∀H',af H H'->E (.ref CB) none H')->(ef h kt kg->16<=L.1.length->∀H',af H H'->E (.ref CT) none H')->c7y K C CB CT Pt vs H Q E
def scComeK:p7 ["self","house","ahead"] ["self","house"] (i9 c7l):={}
theorem d0M(F:df K "come" "Kept.come" c7l f fd)(aw:TK K C)(Ct:c7g P w K mg base J8 n C "turn_to" ["self","houses"] (c7O K C Pt) f1 d1)
  (Co:vn P w K mg base n "with_one_more" ["houses","house","many_takes","many_gives"] (a4M K CB CT) f2 d2) (Cc_:CZ P w K mg base n "changes" ["ahead","behind"] (c9z K) f3 d3) :
  bf P w K mg base (W2 P w) (n+1) f fd ["self","house"] (c7y K C CB CT Pt):=by
 refine F.ob scComeK λay A outer s H vs Q E hr h=>?_
 obtain⟨p,pa,v,h,kt,kg,z,L,past,lo,rfl,gm,ft,hH,hs,hG,h16,hql,wb,LTH,q,hB,hT⟩:=h;refine⟨_,j0 (r6 (i:=2) scComeK.nd rfl (aI rfl) (y4 (pv 0) rfl))
  (j0 (R3 (TQ (pv 0) aw.cl Ct.me Ct.ok hr Ct.bd .nil v6 (c6 (l7 Co.ok hr rfl Co.m Co.k Co.b .nil V5 (c6 (y4 (pv 0) rfl) (c6 (pv 1) (c6 (y4 (pv 0) rfl) (c6 (y4 (pv 0) rfl) c7))))) c7)))
  (fu.oi (j4 (o4 (A9 (c6 (l8 j5 (y4 (pv 0) rfl) (Eh V2 d0) (λ_ _=>rfl)) (c6 (Cc_.c hr (c6 (pv 2) (c6 (B7 M0 (y4 (pv 0) rfl) G1 (B8 (Eh V2 d0))) c7))) c7))))))),?_⟩
 obtain⟨dx,ta,wa,GS,hp,hlv,jt,Fj⟩:=gm.ex;obtain⟨lv1,lv2,⟨xs,GO,hxs⟩,ys,hwa,Wu⟩:=hlv;have xl:xs.length=L.1.length:=dE hxs;refine⟨_,rfl,p,C,dx,_,_,rfl,hp,aw.cl,aw.nW,rfl,_,rfl,p,dx,_,rfl,hp,rfl,_,rfl,p,C,dx,_,_,rfl,hp,aw.cl,aw.nH,rfl,_,rfl,_,rfl,p,C,dx,_,_,rfl,hp,aw.cl,aw.nT,rfl,_,rfl,p,C,dx,_,_,rfl,hp,aw.cl,aw.nG,rfl,ta,v,xs,h,(kt:Int),(kg:Int),rfl,GO,by lia,hH,hs,b5j (by have:=ft.t4;lia),b5j (by have:=ft.g4;lia),λg1 ui r H1 e1 BO GN=>?_,λbad H1 e1=>hB bad H1 e1,λg1 ui H1 e1=>hT g1 (by lia) H1 e1⟩;have nrpa:r≠pa:=λz0=>by subst z0;rw[jt] at BO;cases BO
 refine⟨p,r,pa,kt,kg,z,L,past,lo,xs++[v],L.1++[h],rfl,gm.same e1,ft,GN,aZ.app (Bk.same e1 hxs) (.cons (hH.same e1) .nil),λg hg=>?_,by rw[aX,fR];lia,nrpa,wb,LTH.same e1,λH2 wl qs KP2 SD XZ lf L2=>?_⟩
 ·rcases bJ.mp hg with hg|hg
  ·exact hG g hg
  ·rw[cJ.mp hg];exact g1.hg
 have lf0:Sq Pt p pa H H2:=λb o n1 n2 n3 q0=>lf b o n1 n2 n3 (e1 _ _ q0);have qlen:qs.length=L.1.length+1:=by rw[SD.1,aX];rfl
 obtain⟨qs0,x,rfl,ql0⟩:=c7s qlen;obtain⟨mv,ta2,wa2,pv2,oy,⟨m1,m2,_,ys2,hwa2,hys2⟩,Fo,_⟩:=KP2.ex;have yl2:ys2.length=L.1.length+1:=by rw[I0 hys2,qlen]
 obtain⟨ys0,u,rfl,yl0⟩:=c7s yl2;obtain⟨Rq,hu⟩:=c7i hys2;have hys':bR (Ex H2) ys L.2:=aZ.imp' (λv q ⟨a,h1,h2⟩=>⟨a,h1,lf0 a _ (J7 h2 hp nofun) (LTH.ne h2 nofun) (J7 h2 jt nofun) h2⟩) Wu;have yl_:ys.length=L.2.length:=I0 Wu;refine⟨_,rfl,p,C,mv,_,_,rfl,oy,aw.cl,aw.nW,rfl,_,rfl,wa2,_,_,_,rfl,rfl,ah.of hwa2,d0q ys0 u,_,rfl,_,rfl,p,C,mv,_,_,rfl,oy,aw.cl,aw.nW,rfl,_,rfl,_,rfl,wa2,_,rfl,ah.of hwa2,λc0 hc0=>?_⟩;rw[(d0X (ys0++[u]) (by simp)).1];have ec:(ys0++[u]).take ((ys0++[u]).length-1)=ys0:=by simp
 rw[ec];have s3:=af.new hc0 (.lst ys0);refine⟨wa,c0,ys,ys0,L.2,qs0,rfl,ah.of (s3 _ _ (lf0 wa _ (J7 hwa hp nofun) (LTH.ne hwa nofun) (λz0=>gm.no (z0▸lv2)) hwa)),ah.of ae,FrL.same s3 (c7f hys'),FrL.same s3 (c7f Rq),by lia,λcl ts H4 e4 hcl0 xr ch=>⟨(by show 2<=sizeLine;decide),λrt YB=>?_⟩⟩;have s5:=af.new YB (.tup [u,V.ref cl]);have s25:=s3.trans (e4.trans s5);have free:∀{b:aA},H2 b=none->H b=none:=λh=>e1.free (lf.free (by rw[oy];nofun) (by rw[Fo];nofun) L2 h);have hclN:H2 cl=none:=s3.free hcl0;have ncl:∀b∈r::wl::lo,cl≠b:=λb hb z0=>by
  subst z0;obtain⟨zs,hz⟩:=KP2.ls cl hb;rw[hz] at hclN;cases hclN
 exact q g1 (by lia) _ r wl rt cl u qs0 x (KP2.same s25) SD BO (e1.free XZ) (λb o n1 n2 n3 q0=>s25 _ _ (lf0 b o n1 n2 n3 q0)) (L2.same s25) (free ((s3.trans e4).free YB)) ae (hu.same s25) (free hclN) ⟨ys,ys0,ts,FrL.same s25 (c7f hys'),FrL.same s25 (c7f Rq),s5 _ _ xr,d0d s5 ch⟩ (ncl r (.head _)) (ncl wl (.tail _ (.head _)))
def c7V{b:List β}i(h:bR F a b):bR F (S8 a i) (S8 b i):=aZ.app (aZ.take i h) (aZ.drop (i+1) h)
inductive d0j(K:aF)(C CN Pt:aA)(vs:List V)(H:Hp)(Q:VK)(E:XK):Prop|mk:∀(p pa:aA)(num:Int)(kt kg:Nat)(z:aC)(L:So)(past:List So)(lo:List aA),vs=[.ref p,.int num]->c1O K C H p kt kg z L past pa lo->Fit z kt kg->(∀g∈L.1,HG (10^9) kt kg g)->L.1.length<=16->L.2.length=L.1.length->past.length<=1000->num.natAbs.log2<1920->LT Pt H->(∀i:Nat,num=(i:Int)->i<L.1.length->∀H' ha wa cl qs,c1O K C H' p kt kg z (S8 L.1 i,qs) (past++[L]) pa (ha::wa::lo)->Shs z (S8 L.1 i) kt kg qs->H ha=none->H wa=none->Sq Pt p pa H H'->LT Pt H' → H cl=none->d1Y K H' cl (S8 L.2 i) qs->cl≠ha->cl≠wa->Q (.ref cl) H')->(¬AA L.1.length num->∀H',af H H'->E (.ref CN) none H')->d0j K C CN Pt vs H Q E
def scGoK:p7 ["self","number","houses","ahead"] ["self","number"] (i9 c7J):={}
theorem d1X(F:df K "go" "Kept.go" c7J f fd)(aw:TK K C)(Ct:c7g P w K mg base J8 n C "turn_to" ["self","houses"] (c7O K C Pt) f1 d1)
  (Cw:vn P w K mg base n "without" ["houses","number"] (XG K CN) f2 d2) (Cc_:CZ P w K mg base n "changes" ["ahead","behind"] (c9z K) f3 d3) :
  bf P w K mg base (W2 P w) (n+1) f fd ["self","number"] (d0j K C CN Pt):=by
 refine F.ob scGoK λay A outer s H vs Q E hr h=>?_
 obtain⟨p,pa,num,kt,kg,z,L,past,lo,rfl,gm,ft,hG,h16,hql,wb,lm,LTH,q,hN⟩:=h;refine⟨_,j0 (r6 (i:=2) scGoK.nd rfl (aI rfl) (l7 Cw.ok hr rfl Cw.m Cw.k Cw.b .nil V5 (c6 (y4 (pv 0) rfl) (c6 (pv 1) c7))))
  (j0 (r6 (i:=3) scGoK.nd rfl (aI rfl) (l7 Cw.ok hr rfl Cw.m Cw.k Cw.b .nil V5 (c6 (y4 (pv 0) rfl) (c6 (pv 1) c7))))
  (fu.oi (j0 (R3 (TQ (pv 0) aw.cl Ct.me Ct.ok hr Ct.bd .nil v6 (c6 (pv 2) c7)))
  (j4 (o4 (Cc_.c hr (c6 (pv 3) (c6 (y4 (pv 0) rfl) c7)))))))),?_⟩
 obtain⟨dx,ta,wa,GS,hp,hlv,jt,Fj⟩:=gm.ex;obtain⟨lv1,lv2,⟨xs,GO,hxs⟩,ys,hwa,Wu⟩:=hlv;have xl:=dE hxs;have yl_:ys.length=L.2.length:=I0 Wu;refine⟨_,rfl,p,C,dx,_,_,rfl,hp,aw.cl,aw.nH,rfl,_,rfl,ta,xs,num,rfl,ah.of GO,by lia,lm,λi r H1 hi nj e1 BO GN=>?_,λbad=>hN (by rw[<-xl];exact bad) H (af.refl _)⟩;subst hi;refine⟨_,rfl,p,C,dx,_,_,rfl,e1 _ _ hp,aw.cl,aw.nW,rfl,_,rfl,wa,ys,(i:Int),rfl,ah.of (e1 _ _ hwa),by lia,lm,λi' r2 H2 Ek _ e2 hr20 hr21=>?_,λbad=>absurd ⟨by lia,by lia⟩ bad⟩;have:i'=i:=by lia
 subst this;have Oy:=e1.trans e2;have nrpa:r≠pa:=λz0=>by subst z0;rw[jt] at BO;cases BO
 refine⟨_,rfl,p,dx,_,rfl,Oy _ _ hp,rfl,_,rfl,p,r,pa,kt,kg,z,L,past,lo,S8 xs i',S8 L.1 i',rfl,gm.same Oy,ft,e2 _ _ GN,Bk.same Oy (hxs.out i'),λg hg=>hG g (XF hg),bF b3A h16,nrpa,wb,LTH.same Oy,λH3 wl qs KP2 SD XZ lf L2=>?_⟩;have lf0:Sq Pt p pa H H3:=λb o n1 n2 n3 q0=>lf b o n1 n2 n3 (Oy _ _ q0);obtain⟨mv,ta2,wa2,pv2,oy,⟨m1,m2,_,ys2,hwa2,hys2⟩,Fo,_⟩:=KP2.ex;have nr2a:r2≠pa:=λz0=>by subst z0;rw[e1 _ _ jt] at hr20;cases hr20
 have hys':bR (Ex H3) ys L.2:=aZ.imp' (λv q ⟨a,h1,h2⟩=>⟨a,h1,lf0 a _ (J7 h2 hp nofun) (LTH.ne h2 nofun) (J7 h2 jt nofun) h2⟩) Wu;have ll:(S8 ys i').length<=1000:=bF b3A (by lia);refine⟨_,rfl,_,rfl,p,C,mv,_,_,rfl,oy,aw.cl,aw.nW,rfl,r2,wa2,S8 ys i',ys2,S8 L.2 i',qs,rfl,ah.of (lf r2 _ (J7 hr21 (Oy _ _ hp) nofun) ((LTH.same Oy).ne hr21 nofun) nr2a hr21),ah.of hwa2,c7f (c7V i' hys'),c7f hys2,ll,λcl ts H4 e4 hcl0 xr ch=>?_⟩;have free:∀{b:aA},H3 b=none->H b=none:=λh=>Oy.free (lf.free (by rw[oy];nofun) (by rw[Fo];nofun) L2 h);have ncl:∀b∈r::wl::lo,cl≠b:=λb hb z0=>by
  subst z0;obtain⟨zs,hz⟩:=KP2.ls cl hb;rw[hz] at hcl0;cases hcl0
 exact q i' rfl (by lia) H4 r wl cl qs (KP2.same e4) SD BO (Oy.free XZ) (λb o n1 n2 n3 q0=>e4 _ _ (lf0 b o n1 n2 n3 q0)) (L2.same e4) (free hcl0) ⟨_,_,ts,FrL.same e4 (c7f (c7V i' hys')),FrL.same e4 (c7f hys2),xr,ch⟩ (ncl r (.head _)) (ncl wl (.tail _ (.head _)))
inductive c7F(K:aF)(C:aA)(vs:List V)(H:Hp)(Q:VK)(z3_:XK):Prop|mk:∀p pa kt kg z L past lo,vs=[.ref p]->c1O K C H p kt kg z L past pa lo->(∀l xs H',af H H'->H l=none->H' l=some (.lst xs)->Bk K H' xs L.1->Q (.ref l) H')->c7F K C vs H Q z3_
def c9H:p7 ["self"] ["self"] (i9 R0):={}
theorem c8U(F:df K "houses" "Kept.houses" R0 f fd)(T:v8 mg)(aw:TK K C):bf P w K mg base J8 (n+1) f fd ["self"] (c7F K C):=by
 refine F.oa c9H λay A outer s H vs Q E hr h=>?_
 obtain⟨p,pa,kt,kg,z,L,past,lo,rfl,gm,q⟩:=h;refine⟨_,j4 (o4 (v5 C5 rfl T.list fJ (c6 (y4 (pv 0) rfl) c7))),?_⟩;obtain⟨dx,ta,wa,GS,hp,⟨lv1,lv2,⟨xs,GO,hxs⟩,ys,hwa,Wu⟩,jt,Fj⟩:=gm.ex;refine⟨_,rfl,p,C,dx,_,_,rfl,hp,aw.cl,aw.nH,rfl,ta,xs,rfl,.inl (ah.of GO),λl hl=>?_⟩;have s1:=af.new hl (.lst xs);exact q l xs _ s1 hl ae (Bk.same s1 hxs)
end Rim
namespace L2
open PySem
mutual
inductive Dq(K:aF)(H:Hp)(F:aA->Prop):V->dI->Prop
 |non:Dq K H F .non .none
 |int (i:Int):Dq K H F (.int i) (.int i)
 |lst {a:aA} {xs:List V} {ds:List dI}:F a->H a=some (.lst xs)->Dqs K H F xs ds->Dq K H F (.ref a) (.list ds)
 |tup {a:aA} {xs:List V} {ds:List dI}:cq K H a xs->Dqs K H F xs ds->Dq K H F (.ref a) (.tuple ds)
inductive Dqs(K:aF)(H:Hp)(F:aA->Prop):List V->List dI->Prop
 |nil:Dqs K H F [] []
 |cons {x:V} {xs:List V} {d:dI} {ds:List dI}:Dq K H F x d->Dqs K H F xs ds->Dqs K H F (x::xs) (d::ds)
end
section
variable{K:aF}{H H':Hp}{F F'_:aA->Prop}
mutual
theorem Dq.dp:∀{x:V}{d:dI},Dq K H F x d->Dp K H x d
 |_,_,.non=>.non
 |_,_,.int i=>.int i
 |_,_,.lst _ h r=>.lst (ah.of h) (Dqs.dp r)
 |_,_,.tup h r=>.tup h (Dqs.dp r)
theorem Dqs.dp:∀{xs:List V}{ds:List dI},Dqs K H F xs ds->qc K H xs ds
 |_,_,.nil=>.nil
 |_,_,.cons a r=>.cons (Dq.dp a) (Dqs.dp r)
end
mutual
theorem Dq.go{X:aA->Prop}(e:zp X H H')(k:∀a xs,F a->H a=some (.lst xs)->F'_ a/\¬X a):∀{x:V}{d:dI},Dq K H F x d->Dq K H' F'_ x d
 |_,_,.non=>.non
 |_,_,.int i=>.int i
 |_,_,.lst f h r=>.lst (k _ _ f h).1 (e.k _ _ (k _ _ f h).2 h) (Dqs.go e k r)
 |_,_,.tup h r=>.tup (e.KD h) (Dqs.go e k r)
theorem Dqs.go{X:aA->Prop}(e:zp X H H')(k:∀a xs,F a->H a=some (.lst xs)->F'_ a/\¬X a):∀{xs:List V}{ds:List dI},Dqs K H F xs ds->Dqs K H' F'_ xs ds
 |_,_,.nil=>.nil
 |_,_,.cons a r=>.cons (Dq.go e k a) (Dqs.go e k r)
end
end
end L2
namespace Rim
open PySem L2 Fr
inductive c7G(K:aF)(C:aA)(vs:List V)(H:Hp)(Q:VK)(z3_:XK):Prop|mk:∀p pa kt kg z L past lo,vs=[.ref p]->c1O K C H p kt kg z L past pa lo->(∀l ys H',af H H'->H l=none->H' l=some (.lst ys)->bR (Ex H') ys L.2->Q (.ref l) H')->c7G K C vs H Q z3_
def c9O:p7 ["self"] ["self"] (i9 Q1):={}
theorem c8V(F:df K "shares" "Kept.shares" Q1 f fd)(T:v8 mg)(aw:TK K C):bf P w K mg base J8 (n+1) f fd ["self"] (c7G K C):=by
 refine F.oa c9O λay A outer s H vs Q E hr h=>?_
 obtain⟨p,pa,kt,kg,z,L,past,lo,rfl,gm,q⟩:=h;refine⟨_,j4 (o4 (v5 C5 rfl T.list fJ (c6 (y4 (pv 0) rfl) c7))),?_⟩;obtain⟨dx,ta,wa,GS,hp,⟨lv1,lv2,⟨xs,GO,hxs⟩,ys,hwa,Wu⟩,jt,Fj⟩:=gm.ex;refine⟨_,rfl,p,C,dx,_,_,rfl,hp,aw.cl,aw.nW,rfl,wa,ys,rfl,.inl (ah.of hwa),λl hl=>?_⟩;have s1:=af.new hl (.lst ys);exact q l ys _ s1 hl ae (aZ.imp' (λ_ _ r=>r.same s1) Wu)
inductive c8W(K:aF)(C Pt:aA)(vs:List V)(H:Hp)(Q:VK)(z3_:XK):Prop|mk:∀(p pa:aA)(kt kg:Nat)(z:aC)(L:So)(past:List So)(lo:List aA),vs=[.ref p]->c1O K C H p kt kg z L past pa lo->Fit z kt kg->(∀g∈L.1,HG (10^9) kt kg g)->L.1.length<=16->LT Pt H->(∀H' r,bj Pt H H'->LT Pt H'->H r=none->H' r=some (.lst ((Jg z L.1).map λ(i:Nat)=>V.int (i:Int)))->Q (.ref r) H')->c8W K C Pt vs H Q z3_
def d2i:p7 ["self"] ["self"] (i9 c7u):={}
theorem d1O(F:df K "rim" "Kept.rim" c7u f fd)(aw:TK K C)(Cr:C9 P w K mg base n "rim_of" ["book","sizes"] (RL K Pt) f1 d1):bf P w K mg base J8 (n+1) f fd ["self"] (c8W K C Pt):=by
 refine F.oa d2i λay A outer s H vs Q E hr h=>?_
 obtain⟨p,pa,kt,kg,z,L,past,lo,rfl,gm,ft,hG,h16,LTH,q⟩:=h;refine⟨_,j4 (o4 (Cr.c hr (c6 (y4 (pv 0) rfl) (c6 (y4 (pv 0) rfl) c7)))),?_⟩;obtain⟨dx,ta,wa,GS,hp,⟨lv1,lv2,⟨xs,GO,hxs⟩,ys,hwa,Wu⟩,jt,Fj⟩:=gm.ex;exact⟨_,rfl,p,C,dx,_,_,rfl,hp,aw.cl,aw.nH,rfl,_,rfl,p,C,dx,_,_,rfl,hp,aw.cl,aw.nS,rfl,ta,xs,L.1,z,10^9,kt,kg,rfl,ft.z,⟨ah.of GO,hxs,hG,by decide,h16,by have:=ft.t4;lia,by have:=ft.g4;lia⟩,by decide,LTH,q⟩
theorem Shs.uniq(hz:O4 z)(hG:∀g∈hs,HG (10^9) kt kg g)(a:Shs z hs kt kg qs)(b:Shs z hs kt kg qs'):qs=qs':=by
 refine Tl (by rw[a.1,b.1]) λi h1 h2=>?_;have hi:i<hs.length:=by rw[<-a.1];exact h1
 obtain⟨A,B,x,e⟩:=a.2 i hs[i] qs[i] (aS hi) (aS h1);obtain⟨A',B',x',e'⟩:=b.2 i hs[i] qs'[i] (aS hi) (aS h2);rw[e,e'];exact x.fr hz x'.s hG (hG _ (eF hi))
open Classical in
def shq(z:aC)(kt kg:Nat)(hs:List i8):List Q2:=if h:∃qs,Shs z hs kt kg qs then Classical.choose h else []
theorem Shs.q(hz:O4 z)(hG:∀g∈hs,HG (10^9) kt kg g)(a:Shs z hs kt kg qs):qs=shq z kt kg hs:=by
 have h:∃qs,Shs z hs kt kg qs:=⟨_,a⟩;unfold shq;rw[dif_pos h];exact a.uniq hz hG (Pi h)
theorem c9A:shq z kt kg []=[]:=by
 unfold shq
 split
 ·next h=>exact lM (Pi h).1
 ·rfl
def lv(z:aC)(kt kg:Nat)(hs:List i8):So:=(hs,shq z kt kg hs)
end Rim
namespace L2
open PySem PySem.Spec PyProof.Rows
section
variable{X:Cx}{CX:ze}{k:Nat}{f C:aA}{fd:aK}{ps:List aC}{sp:Sp}{EX:St->XK}{m:aC}{pos apos:Pos}{o e:aR}{es:List aR}{ta:TE}{t:TA}
end
end L2
namespace L2
open PySem
def d2D(t:TT):TT:=λσ H Q=>∃M,t σ H M/\∀b H',M b H'->Q b H'
def c9c(h:PT X e t):PT X e (d2D t):=λpins s σ H Q I ⟨M,h1,h2⟩=>D7 (h pins s σ H M I h1) λb s' ⟨H',I',q⟩=>⟨H',I',h2 b H' q⟩
end L2
namespace Rim
open PySem L2 Fr
abbrev KS_:=List i8×List (List i8)
structure OkK(z:aC)(kt kg:Nat)(hs:List i8):Prop where
 m:hs.length<=16
 g:∀g∈hs,HG (10^9) kt kg g
 l:(shq z kt kg hs).length=hs.length
abbrev OkS(z:aC)(kt kg:Nat)(S:KS_):Prop:=∀hs∈S.2++[S.1],OkK z kt kg hs
abbrev KpS(K:aF)(C:aA)(H:Hp)(p:aA)(kt kg:Nat)(z:aC)(S:KS_)(pa:aA)(lo:List aA):Prop:=c1O K C H p kt kg z (lv z kt kg S.1) (S.2.map (lv z kt kg)) pa lo
theorem c8J(o:OkS z kt kg S)(h:OkK z kt kg hs):OkS z kt kg (hs,S.2++[S.1]):=λg hg=>by
 rcases bJ.mp hg with hg|hg
 ·exact o g hg
 ·rw[cJ.mp hg];exact h
theorem d2b{H:Hp}(h1:H ha=none)(h2:H wa=none):∀b∈ha::wa::lo,b∈lo\/H b=none:=λb hb=>by
 rcases bH.mp hb with rfl|hb
 ·exact .inr h1
 ·rcases bH.mp hb with rfl|hb
  ·exact .inr h2
  ·exact .inl hb
theorem made{Q:VK}(h:∀p pa lo H',af H H'->H p=none->H pa=none->(∀b∈lo,H b=none)->c1O K C H' p kt kg z ([],[]) [] pa lo->Q (.ref p) H') :
  ∀x dx,H x=none->H dx=none->dx≠x->c8r K C [.ref x,.int (kt:Int),.int (kg:Int),.str z] (upd (upd H dx (.own x)) x (.ins C dx [])) (λv H'=>v=.non/\Q (.ref x) H') E:=by
 intro x dx hx WG nd;have sx:∀b o,H b=some o->(upd (upd H dx (.own x)) x (.ins C dx [])) b=some o:=λb o q0=>by rw[j3 (i7 q0 hx),j3 (i7 q0 WG)];exact q0
 have fr:∀b,(upd (upd H dx (.own x)) x (.ins C dx [])) b=none->H b=none:=λb hb=>by
  cases q:H b with
  |none=>rfl
  |some o=>rw[sx b o q] at hb;cases hb
 exact⟨x,dx,kt,kg,z,rfl,ae,λH4 pa lo gm k f1 f2=>⟨rfl,h x pa lo H4 (λb o q0=>k b o (i7 q0 hx) (sx b o q0)) hx (fr _ f1) (λb hb=>fr b (f2 b hb)) gm⟩⟩
structure Kq_ where
 p:aA
 pa:aA
 kt:Nat
 kg:Nat
 z:aC
def c7T{α:Type}(l:List α)(i:Nat)(x:α):List α:=(l.take i++[x])++l.drop (i+1)
inductive c8f(K:aF)(C CN CB Pt:aA)(vs:List V)(H:Hp)(Q:VK)(E:XK):Prop|mk:∀(p pa:aA)(num:Int)(v:V)(h:i8)(kt kg:Nat)(z:aC)(L:So)(past:List So)(lo:List aA),vs=[.ref p,.int num,v]->c1O K C H p kt kg z L past pa lo->Fit z kt kg->HS K H v h->OV h->(∀g∈L.1,HG (10^9) kt kg g)->L.1.length<=16->L.2.length=L.1.length->past.length<=1000->num.natAbs.log2<1920->LT Pt H->(∀i:Nat,num=(i:Int)->i<L.1.length->ef h kt kg->∀H' ha wa cl qs,c1O K C H' p kt kg z (c7T L.1 i h,qs) (past++[L]) pa (ha::wa::lo)->Shs z (c7T L.1 i h) kt kg qs->H ha=none->H wa=none->Sq Pt p pa H H'->LT Pt H' → H cl=none->d1Y K H' cl L.2 qs->cl≠ha->cl≠wa->Q (.ref cl) H')->(¬AA L.1.length num->∀H',af H H'->E (.ref CN) none H')->(AA L.1.length num->¬ef h kt kg->∀H',af H H'->E (.ref CB) none H')->c8f K C CN CB Pt vs H Q E
def scAlterK:p7 ["self","number","house","ahead"] ["self","number","house"] (i9 c7d):={}
theorem c7U(h:g∈c7T l i x):g=x\/g∈l:=by
 unfold c7T at h;simp only[bJ,cJ] at h;rcases h with(h|h)|h
 ·exact .inr (fV h)
 ·exact .inl h
 ·exact .inr (fK h)
theorem c8c(h:i<l.length):(c7T l i x).length=l.length:=by unfold c7T;simp;lia
theorem c9L(F:df K "alter" "Kept.alter" c7d f fd)(aw:TK K C)(Ct:c7g P w K mg base J8 n C "turn_to" ["self","houses"] (c7O K C Pt) f1 d1)
  (Ca:vn P w K mg base n "with_another" ["houses","number","house","many_takes","many_gives"] (c7K K CN CB) f2 d2) (Cc_:CZ P w K mg base n "changes" ["ahead","behind"] (c9z K) f3 d3) :
  bf P w K mg base (W2 P w) (n+1) f fd ["self","number","house"] (c8f K C CN CB Pt):=by
 refine F.ob scAlterK λay A outer s H vs Q E hr h=>?_
 obtain⟨p,pa,num,v,h,kt,kg,z,L,past,lo,rfl,gm,ft,hH,hs,hG,h16,hql,wb,lm,LTH,q,hN,hB⟩:=h;refine⟨_,j0 (r6 (i:=3) scAlterK.nd rfl (aI rfl) (y4 (pv 0) rfl))
  (j0 (R3 (TQ (pv 0) aw.cl Ct.me Ct.ok hr Ct.bd .nil v6 (c6 (l7 Ca.ok hr rfl Ca.m Ca.k Ca.b .nil V5 (c6 (y4 (pv 0) rfl) (c6 (pv 1) (c6 (pv 2) (c6 (y4 (pv 0) rfl) (c6 (y4 (pv 0) rfl) c7)))))) c7)))
  (fu.oi (j4 (o4 (Cc_.c hr (c6 (pv 3) (c6 (y4 (pv 0) rfl) c7))))))),?_⟩
 obtain⟨dx,ta,wa,GS,hp,hlv,jt,Fj⟩:=gm.ex;obtain⟨lv1,lv2,⟨xs,GO,hxs⟩,ys,hwa,Wu⟩:=hlv;have xl:=dE hxs;have yl_:ys.length=L.2.length:=I0 Wu;refine⟨_,rfl,p,C,dx,_,_,rfl,hp,aw.cl,aw.nW,rfl,_,rfl,p,dx,_,rfl,hp,rfl,_,rfl,p,C,dx,_,_,rfl,hp,aw.cl,aw.nH,rfl,_,rfl,_,rfl,_,rfl,p,C,dx,_,_,rfl,hp,aw.cl,aw.nT,rfl,_,rfl,p,C,dx,_,_,rfl,hp,aw.cl,aw.nG,rfl,ta,v,xs,h,num,(kt:Int),(kg:Int),rfl,GO,by lia,hH,hs,lm,b5j (by have:=ft.t4;lia),b5j (by have:=ft.g4;lia),λi hi nj g1 r H1 e1 BO GN=>?_,λbad H1 e1=>hN (by rw[<-xl];exact bad) H1 e1,λgd bad H1 e1=>hB (by rw[<-xl];exact gd) bad H1 e1⟩;subst hi;have nrpa:r≠pa:=λz0=>by subst z0;rw[jt] at BO;cases BO
 refine⟨p,r,pa,kt,kg,z,L,past,lo,_,c7T L.1 i h,rfl,gm.same e1,ft,GN,aZ.app (aZ.app (aZ.take i (Bk.same e1 hxs)) (.cons (hH.same e1) .nil)) (aZ.drop (i+1) (Bk.same e1 hxs)),λg hg=>?_,by rw[c8c (by lia)];exact h16,nrpa,wb,LTH.same e1,λH3 wl qs KP2 SD XZ lf L2=>?_⟩
 ·rcases c7U hg with rfl|hg
  ·exact g1.hg
  ·exact hG g hg
 have lf0:Sq Pt p pa H H3:=λb o n1 n2 n3 q0=>lf b o n1 n2 n3 (e1 _ _ q0);obtain⟨mv,ta2,wa2,pv2,oy,⟨m1,m2,_,ys2,hwa2,hys2⟩,Fo,_⟩:=KP2.ex;have hys':bR (Ex H3) ys L.2:=aZ.imp' (λv q ⟨a,h1,h2⟩=>⟨a,h1,lf0 a _ (J7 h2 hp nofun) (LTH.ne h2 nofun) (J7 h2 jt nofun) h2⟩) Wu;refine⟨_,rfl,_,rfl,p,C,mv,_,_,rfl,oy,aw.cl,aw.nW,rfl,wa,wa2,ys,ys2,L.2,qs,rfl,ah.of (lf0 wa _ (J7 hwa hp nofun) (LTH.ne hwa nofun) (λz0=>gm.no (z0▸lv2)) hwa),ah.of hwa2,c7f hys',c7f hys2,by lia,λcl ts H4 e4 hcl0 xr ch=>?_⟩;have free:∀{b:aA},H3 b=none->H b=none:=λh=>e1.free (lf.free (by rw[oy];nofun) (by rw[Fo];nofun) L2 h);have ncl:∀b∈r::wl::lo,cl≠b:=λb hb z0=>by
  subst z0;obtain⟨zs,hz⟩:=KP2.ls cl hb;rw[hz] at hcl0;cases hcl0
 exact q i rfl (by lia) g1 H4 r wl cl qs (KP2.same e4) SD BO (e1.free XZ) (λb o n1 n2 n3 q0=>e4 _ _ (lf0 b o n1 n2 n3 q0)) (L2.same e4) (free hcl0) ⟨_,_,ts,FrL.same e4 (c7f hys'),FrL.same e4 (c7f hys2),xr,ch⟩ (ncl r (.head _)) (ncl wl (.tail _ (.head _)))
inductive c8t(K:aF)(C CL Pt:aA)(vs:List V)(H:Hp)(Q:VK)(E:XK):Prop|mk:∀p pa kt kg z L past lo,vs=[.ref p]->c1O K C H p kt kg z L past pa lo->LT Pt H->(∀L0 yt H',past=yt++[L0]->c1O K C H' p kt kg z L0 yt pa lo->Sq Pt p pa H H'->LT Pt H'->Q .non H')->(past=[]->∀H',af H H'->E (.ref CL) none H')->c8t K C CL Pt vs H Q E
def d1h:p7 ["self"] ["self"] (i9 c7j):={}
theorem cu.writeI(T:LT Pt H)(h:H p=some (.ins C dx fs)):LT Pt (upd H p o):=by
 rcases T with x|⟨c,x,y⟩
 ·exact .inl (by rw[j3 λz0=>by rw[z0,h] at x;cases x];exact x)
 ·exact .inr ⟨c,by rw[j3 λz0=>by rw[z0,h] at x;cases x];exact x,by rw[j3 λz0=>by rw[z0,h] at y;cases y];exact y⟩
theorem d0o(F:df K "back" "Kept.back" c7j f fd)(aw:TK K C)(kL:X4 K CL)(mL:mg "NothingLeft"=some (.ref CL)):bf P w K mg base (W2 P w) (n+1) f fd ["self"] (c8t K C CL Pt):=by
 refine F.ob d1h λay A outer s H vs Q E hr h=>?_
 obtain⟨p,pa,kt,kg,z,L,past,lo,rfl,gm,LTH,q,hL⟩:=h;refine⟨_,j0 (w6 (S6 (a7J (y4 (pv 0) rfl) λ_=>rfl)) (j4 (T7 kL rfl mL hr.hd (c6 l9 c7))) r8)
  (fu.oi (j4 (D3 (b7P iK yJ yK b7F (y4 (pv 0) rfl)) (K4 rfl (p6 (Si (pv 0)) (p6 (Si (pv 0)) A4)))))),?_⟩
 obtain⟨dx,ta,wa,GS,hp,hlv,jt,Fj⟩:=gm.ex;have lpv:=I0 Fj;refine⟨_,rfl,p,C,dx,_,_,rfl,hp,aw.cl,aw.nP,rfl,_,.inl ⟨_,ah.of jt,rfl⟩,?_⟩;rcases yH past with e|⟨yt,L0,e⟩
 ·subst e
  have:GS=[]:=lM (by simpa using lpv);subst this;exact J3 ⟨by decide,hL rfl H (af.refl _)⟩
 ·rw[yI] at e
  subst e;obtain⟨KH,v,rfl,l1⟩:=c7s (k:=yt.length) (by rw[lpv];simp);obtain⟨Yo,t,ta0,wa0,rfl,ht,CU⟩:=c7i Fj;have ne0:(!(KH++[V.ref t]).isEmpty)=true:=by simp
  rw[ne0];refine M7 ?_;have gl:(KH++[V.ref t])[(KH++[V.ref t]).length-1]?=some (V.ref t):=by simp
  refine⟨_,rfl,p,C,dx,_,_,rfl,hp,aw.cl,aw.nP,rfl,.inl ⟨rfl,_,ah.of jt⟩,pa,_,_,rfl,rfl,jt,gl,?_⟩;have Pf:=J7 hp jt nofun;refine⟨t,_,rfl,cq.of (by rw[j3 (J7 ht jt nofun)];exact ht),rfl,_,_,rfl,⟨_,rfl,p,C,dx,_,rfl,by rw[j3 Pf];exact hp,aw.cl,aw.nH,(by show 6<1000;decide),_,_,rfl,⟨_,rfl,p,C,dx,_,rfl,ae,aw.cl,aw.nW,(by show 6<1000;decide),rfl,?_⟩⟩⟩;rw[Ju];have ed:(KH++[V.ref t]).dropLast=KH:=by simp
  rw[ed];have fr:zp (λb=>b=p\/b=pa) H (upd (upd H pa (HO.lst KH)) p (HO.ins C dx (Z6 "worth" (V.ref wa0) (Z6 "there" (V.ref ta0) (KFs kt kg z ta wa pa))))):=by
   refine⟨λb o hx e=>?_,λx hx=>?_⟩
   ·rw[j3 λz=>hx (.inl z),j3 λz=>hx (.inr z)];exact e
   ·rcases hx with rfl|rfl
    ·exact Sn hp
    ·exact S3 jt
  have Er:∀b∈lo,¬(b=p\/b=pa):=λb hb hx=>by
   obtain⟨zs,hz⟩:=gm.ls b hb;rcases hx with rfl|rfl
   ·rw[hp] at hz;cases hz
   ·exact gm.no hb
  refine q L0 yt _ (by simp) ⟨gm.no,λb hb=>?_,dx,ta0,wa0,KH,ae,CU.jw fr Er λ_ h=>h,by rw[j3 Pf.symm,ae],b7w.jw fr Er (λ_ h=>h) Yo⟩ (λb o n1 n2 n3 e=>fr.k b o (λhx=>hx.elim n1 n3) e) ?_
  ·obtain⟨zs,hz⟩:=gm.ls b hb
   exact⟨zs,fr.k _ _ (Er b hb) hz⟩
  ·exact cu.writeI (LTH.write jt) (by rw[j3 Pf];exact hp)
end Rim
namespace Rim
open PySem L2 Fr
open Tx (S cs ch x6 J6 A5 w4)
structure ml(K:aF)(Ck cx Pt ag:aA)(H:Hp)(o:Kq_)(d da:aA)(SK_:KS_)(L:DS)(past:List DS):Prop where
 T:LT Pt H
 M:nv ag H
 kf_:∃lo,KpS K Ck H o.p o.kt o.kg o.z SK_ o.pa lo/\da ∉ lo
 ok:OkS o.z o.kt o.kg SK_
 df_:∃lo,e_ K cx H d L past da lo/\o.pa ∉ lo
 nd:d≠o.p
 na:da≠o.pa
 ne:ag≠Pt
theorem ml.dp(s:ml K Ck cx Pt ag H o d da SK_ L past):Ev2 λdx ba=>H d=some (.ins cx dx (MH ba L.2 da)):=by
 obtain⟨lo,h,_⟩:=s.df_;obtain⟨dx,ba,pv,hp,_⟩:=h.ex;exact⟨dx,ba,hp⟩
theorem c1O.fv(T:LT Pt H)(M:nv ag H)(e:il Pt ag H H')(h:c1O K Ck H p kt kg z L past pa lo):c1O K Ck H' p kt kg z L past pa lo:=by
 obtain⟨dx,ta,wa,pv,hp,_,jt,_⟩:=h.ex;refine h.jw (X:=λb=>b=Pt\/b=ag) ⟨λb o n q=>e b o (λz=>n (.inl z)) (λz=>n (.inr z)) q,λx hx=>?_⟩ (λb hb z=>?_) (λz=>z.elim (T.ne hp nofun) (M.ne hp nofun)) λz=>z.elim (T.ne jt nofun) (M.ne jt nofun)
 ·rcases hx with rfl|rfl
  ·exact Pd T
  ·exact Pd M
 ·obtain⟨xs,hx⟩:=h.ls b hb
  exact z.elim (T.ne hx nofun) (M.ne hx nofun)
theorem ml.fv(s:ml K Ck cx Pt ag H o d da SK_ L past)(e:il Pt ag H H')(T':LT Pt H')(M'_:nv ag H'):ml K Ck cx Pt ag H' o d da SK_ L past:=by
 obtain⟨lo,h,n⟩:=s.kf_;obtain⟨lo2,h2,n2⟩:=s.df_;exact⟨T',M'_,⟨lo,h.fv s.T s.M e,n⟩,s.ok,⟨lo2,h2.fv s.T s.M e,n2⟩,s.nd,s.na,s.ne⟩
def ml.same(s:ml K Ck cx Pt ag H o d da SK_ L past)(e:af H H'):ml K Ck cx Pt ag H' o d da SK_ L past:=s.fv e.to2 (s.T.same e) (s.M.same e)
theorem ml.kept(s:ml K Ck cx Pt ag H o d da SK_ L past)(hl:KpS K Ck H o.p o.kt o.kg o.z SK_ o.pa lo)(hn:da ∉ lo)(h':KpS K Ck H' o.p o.kt o.kg o.z SK' o.pa lo')(ok':OkS o.z o.kt o.kg SK')(sub:∀b∈lo',b∈lo\/H b=none)(lf:Sq Pt o.p o.pa H H')(T':LT Pt H'):ml K Ck cx Pt ag H' o d da SK' L past:=by
 obtain⟨dx,ta,wa,pv,hp,_,jt,_⟩:=hl.ex;obtain⟨lo2,h2,n2⟩:=s.df_;obtain⟨mv,ba2,pv2,hd,_,_,hda,_⟩:=h2.ex;have M'_:nv ag H':=by
  rcases s.M with e|⟨c,e1,e2⟩
  ·exact .inl (lf _ _ (J7 e hp nofun) s.ne (J7 e jt nofun) e)
  ·exact .inr ⟨c,lf _ _ (J7 e1 hp nofun) s.ne (J7 e1 jt nofun) e1,lf _ _ (J7 e2 hp nofun) (s.T.ne e2 nofun) (J7 e2 jt nofun) e2⟩
 refine⟨T',M'_,⟨lo',h',λz=>?_⟩,ok',⟨lo2,h2.jw (X:=λb=>b=o.p\/b=Pt\/b=o.pa) ⟨λb u n q=>lf b u (λz=>n (.inl z)) (λz=>n (.inr (.inl z))) (λz=>n (.inr (.inr z))) q,λx hx=>?_⟩ (λb hb z=>?_) (λz=>?_) λz=>?_,n2⟩,s.nd,s.na,s.ne⟩
 ·rcases sub _ z with q|q
  ·exact hn q
  ·rw[hda] at q;cases q
 ·rcases hx with rfl|rfl|rfl
  ·exact Sn hp
  ·exact Pd s.T
  ·exact S3 jt
 ·obtain⟨xs,hx⟩:=h2.ls b hb
  rcases z with rfl|z|rfl
  ·rw[hp] at hx;cases hx
  ·exact s.T.ne hx nofun z
  ·exact n2 hb
 ·rcases z with z|z|z
  ·exact s.nd z
  ·exact s.T.ne hd nofun z
  ·exact J7 hd jt nofun z
 ·rcases z with z|z|z
  ·exact J7 hda hp nofun z
  ·exact s.T.ne hda nofun z
  ·exact s.na z
theorem ml.said(s:ml K Ck cx Pt ag H o d da SK_ L past)(hn:o.pa ∉ lo)(h':e_ K cx H' d L' f_ da lo')(sub:∀b∈lo',b∈lo\/H b=none)(lf:Lf2 Pt ag d da H H')(T':LT Pt H')(M'_:nv ag H')(hl:e_ K cx H d L past da lo):ml K Ck cx Pt ag H' o d da SK_ L' f_:=by
 obtain⟨dx,ba,pv,hd,_,_,hda,_⟩:=hl.ex;obtain⟨lo2,h2,n2⟩:=s.kf_;obtain⟨mv,ta,wa,pv2,hp,_,jt,_⟩:=h2.ex;refine⟨T',M'_,⟨lo2,h2.jw (X:=λb=>b=d\/b=da\/b=Pt\/b=ag) ⟨λb u n q=>lf b u (λz=>n (.inl z)) (λz=>n (.inr (.inl z))) (λz=>n (.inr (.inr (.inl z)))) (λz=>n (.inr (.inr (.inr z)))) q,λx hx=>?_⟩ (λb hb z=>?_) (λz=>?_) λz=>?_,n2⟩,s.ok,⟨lo',h',λz=>?_⟩,s.nd,s.na,s.ne⟩
 ·rcases hx with rfl|rfl|rfl|rfl
  ·exact Sn hd
  ·exact S3 hda
  ·exact Pd s.T
  ·exact Pd s.M
 ·obtain⟨xs,hx⟩:=h2.ls b hb
  rcases z with rfl|rfl|z|z
  ·rw[hd] at hx;cases hx
  ·exact n2 hb
  ·exact s.T.ne hx nofun z
  ·exact s.M.ne hx nofun z
 ·rcases z with z|z|z|z
  ·exact s.nd z.symm
  ·exact J7 hp hda nofun z
  ·exact s.T.ne hp nofun z
  ·exact s.M.ne hp nofun z
 ·rcases z with z|z|z|z
  ·exact J7 jt hd nofun z
  ·exact s.na z.symm
  ·exact s.T.ne jt nofun z
  ·exact s.M.ne jt nofun z
 ·rcases sub _ z with q|q
  ·exact hn q
  ·rw[jt] at q;cases q
theorem d0t(hz:O4 z)(m:hs.length<=16)(g:∀g∈hs,HG (10^9) kt kg g)(SD:Shs z hs kt kg qs):qs=shq z kt kg hs/\OkK z kt kg hs:=by
 have e:=SD.q hz g;exact⟨e,m,g,by rw[<-e];exact SD.1⟩
theorem c8m(h:g∈S8 l i):g∈l:=by
 unfold S8 at h;rcases bJ.mp h with q|q
 ·exact fV q
 ·exact fK q
theorem c8w(s:ml K Ck cx Pt ag H o d da (hs,pk) L past)(hz:O4 o.z)(hl:KpS K Ck H o.p o.kt o.kg o.z (hs,pk) o.pa lo)(hn:da ∉ lo)(gm:c1O K Ck H' o.p o.kt o.kg o.z (dt,qs) (pk.map (lv o.z o.kt o.kg)++[lv o.z o.kt o.kg hs]) o.pa (ha::wa::lo))(m:dt.length<=16)(g:∀g∈dt,HG (10^9) o.kt o.kg g)(SD:Shs o.z dt o.kt o.kg qs)(h1:H ha=none)(h2:H wa=none)(lf:Sq Pt o.p o.pa H H')(T':LT Pt H'):ml K Ck cx Pt ag H' o d da (dt,pk++[hs]) L past:=by
 obtain⟨e,ok⟩:=d0t hz m g SD;subst e;refine s.kept hl hn ?_ (c8J s.ok ok) (d2b h1 h2) lf T'
 show c1O K Ck H' o.p o.kt o.kg o.z (lv o.z o.kt o.kg dt) ((pk++[hs]).map (lv o.z o.kt o.kg)) o.pa _
 rw[bQ];exact gm
def c7Y(s:ml K Ck cx Pt ag H o d da (hs,pk) L past):OkK o.z o.kt o.kg hs:=s.ok hs (eL _ (.head _))
theorem d2J(s:ml K Ck cx Pt ag H o d da (hs,pk) L past)(ft:Fit o.z o.kt o.kg)(pl:pk.length<=1000)(hi:i<hs.length)(q:∀H' cl,ml K Ck cx Pt ag H' o d da (S8 hs i,pk++[hs]) L past->Sq Pt o.p o.pa H H'->Q (.ref cl) H'):d0j K Ck CN Pt [.ref o.p,.int (i:Int)] H Q E:=by
 obtain⟨lo,hl,hn⟩:=s.kf_;have ok:=c7Y s;have m:=ok.m;refine⟨o.p,o.pa,(i:Int),o.kt,o.kg,o.z,lv o.z o.kt o.kg hs,_,lo,rfl,hl,ft,ok.g,ok.m,ok.l,by rw[aH];exact pl,b5j (by lia),s.T,λj hj EN H' ha wa cl qs gm SD h1 h2 lf T' _ _ _ _=>?_,λbad=>absurd ⟨by lia,by show(i:Int)<(hs.length:Int);lia⟩ bad⟩;have:j=i:=by lia
 subst this;refine q H' cl (c8w s ft.z hl hn gm ?_ (λg hg=>ok.g g (c8m hg)) SD h1 h2 lf T') lf
 rw[a3o hi];lia
theorem d0u(s:ml K Ck cx Pt ag H o d da (hs,pk) L past)(ft:Fit o.z o.kt o.kg)(pl:pk.length<=1000)(hi:i<hs.length)(hv:HS K H v h)(gk:ef h o.kt o.kg)(sk_:OV h)(q:∀H' cl,ml K Ck cx Pt ag H' o d da (c7T hs i h,pk++[hs]) L past->Sq Pt o.p o.pa H H'->Q (.ref cl) H'):c8f K Ck CN CB Pt [.ref o.p,.int (i:Int),v] H Q E:=by
 obtain⟨lo,hl,hn⟩:=s.kf_;have ok:=c7Y s;have m:=ok.m;refine⟨o.p,o.pa,(i:Int),v,h,o.kt,o.kg,o.z,lv o.z o.kt o.kg hs,_,lo,rfl,hl,ft,hv,sk_,ok.g,ok.m,ok.l,by rw[aH];exact pl,b5j (by lia),s.T,λj hj EN _ H' ha wa cl qs gm SD h1 h2 lf T' _ _ _ _=>?_,λbad=>absurd ⟨by lia,by show(i:Int)<(hs.length:Int);lia⟩ bad,λ_ bad=>absurd gk bad⟩;have:j=i:=by lia
 subst this;refine q H' cl (c8w s ft.z hl hn gm ?_ (λg hg=>?_) SD h1 h2 lf T') lf
 ·show(c7T hs j h).length<=16
  rw[c8c hi];exact m
 ·rcases c7U hg with rfl|hg
  ·exact gk.hg
  ·exact ok.g g hg
theorem d1o(s:ml K Ck cx Pt ag H o d da (hs,pk) L past)(ft:Fit o.z o.kt o.kg)(pl:pk.length<=1000)(hm:hs.length<16)(hv:HS K H v h)(gk:ef h o.kt o.kg)(sk_:OV h)(q:∀H' r,ml K Ck cx Pt ag H' o d da (hs++[h],pk++[hs]) L past->Sq Pt o.p o.pa H H'->Q (.ref r) H'):c7y K Ck CB CT Pt [.ref o.p,v] H Q E:=by
 obtain⟨lo,hl,hn⟩:=s.kf_;have ok:=c7Y s;refine⟨o.p,o.pa,v,h,o.kt,o.kg,o.z,lv o.z o.kt o.kg hs,_,lo,rfl,hl,ft,hv,sk_,ok.g,ok.m,ok.l,by rw[aH];exact pl,s.T,λ_ _ H' ha wa r cl u qs x gm SD h1 h2 lf T' _ _ _ _ _ _ _=>(q H' r (c8w s ft.z hl hn gm ?_ (λg hg=>?_) SD h1 h2 lf T') lf),λbad=>absurd gk bad,λ_ bad=>absurd bad (by show ¬16<=hs.length;lia)⟩
 ·show(hs++[h]).length<=16
  rw[aX,fR];lia
 ·rcases bJ.mp hg with hg|hg
  ·exact ok.g g hg
  ·rw[cJ.mp hg];exact gk.hg
theorem d1m(s:ml K Ck cx Pt ag H o d da (hs,pk0++[h0]) L past)(q:∀H',ml K Ck cx Pt ag H' o d da (h0,pk0) L past->Sq Pt o.p o.pa H H'->Q .non H'):c8t K Ck CL Pt [.ref o.p] H Q E:=by
 obtain⟨lo,hl,hn⟩:=s.kf_;refine⟨o.p,o.pa,o.kt,o.kg,o.z,_,_,lo,rfl,hl,s.T,λL0 yt H' e gm lf T'=>?_,λe=>absurd e (by simp)⟩;have e':(pk0.map (lv o.z o.kt o.kg))++[lv o.z o.kt o.kg h0]=yt++[L0]:=by
  rw[<-e]
  rw[bQ];rfl
 obtain⟨rfl,e2⟩:=To e' rfl
 cases e2;refine q H' (s.kept hl hn gm (λg hg=>s.ok g ?_) (λb hb=>.inl hb) lf T') lf
 rw[bJ];exact .inl hg
theorem c8l(s:ml K Ck cx Pt ag H o d da (hs,pk) L past)(q:∀l xs H',af H H'->H l=none->H' l=some (.lst xs)->Bk K H' xs hs->Q (.ref l) H'):c7F K Ck [.ref o.p] H Q E:=by
 obtain⟨lo,hl,hn⟩:=s.kf_;exact⟨o.p,o.pa,o.kt,o.kg,o.z,lv o.z o.kt o.kg hs,_,lo,rfl,hl,q⟩
theorem c9T(s:ml K Ck cx Pt ag H o d da (hs,pk) L past)(q:∀l ys H',af H H'->H l=none->H' l=some (.lst ys)->bR (Ex H') ys (shq o.z o.kt o.kg hs)->Q (.ref l) H'):c7G K Ck [.ref o.p] H Q E:=by
 obtain⟨lo,hl,hn⟩:=s.kf_;exact⟨o.p,o.pa,o.kt,o.kg,o.z,lv o.z o.kt o.kg hs,_,lo,rfl,hl,q⟩
theorem d2r(s:ml K Ck cx Pt ag H o d da (hs,pk) L past)(ft:Fit o.z o.kt o.kg)(q:∀r H',bj Pt H H'->LT Pt H'->H r=none->H' r=some (.lst (o6 (Jg o.z hs)))->Q (.ref r) H'):c8W K Ck Pt [.ref o.p] H Q E:=by
 obtain⟨lo,hl,hn⟩:=s.kf_;have ok:=c7Y s;exact⟨o.p,o.pa,o.kt,o.kg,o.z,lv o.z o.kt o.kg hs,_,lo,rfl,hl,ft,ok.g,ok.m,s.T,λH' r e T' h0 hr=>q r H' e T' h0 hr⟩
end Rim
namespace Rim
open PySem L2 Fr
open Tx (S cs ch x6 J6)
def b9s:p7 ["house"] ["house"] (i9 F5):={}
theorem b6P:(["side"]:List aC).Nodup:=by simp
theorem b7k:(["one"]:List aC).Nodup:=by simp
theorem b7v(F:Aj K "_law_written" F5 f fd)(zs:mg "str"=none):bf P w K mg base J8 (n+1) f fd ["house"] (O3 K):=by
 refine F.oa b9s λay A outer s H vs Q E hr h=>?_
 obtain⟨v,h,rfl,⟨a,ta,ga,rfl,h0,h1,h2⟩,m1,m2,q⟩:=h;refine⟨_,j4 (o4 (K7 eP hZ iA W4 l9 (c6 (N6 ["side"] [] rfl (IE (pv 0)) (λ_ _ _ _=>j9 (i:=0) b6P rfl (aI rfl)) (λ_ _ _ _=>bmK K rfl eP hZ iA (a9s K rfl) l9 (c6 (N6 ["one"] [] rfl (c1m K rfl (pv 0)) (λ_ _ _ _=>j9 (i:=0) b7k rfl (aI rfl)) (λ_ _ _ _=>v5 E5 rfl zs iB (c6 (pv 0) c7))) c7))) c7))),rfl,_,rfl,a,rfl,⟨_,h0⟩,λp hp=>(N5 (U3 h0) hp (by show 2<sizeLine;decide) (λi y _=>∃x,[G4 h.1,G4 h.2][i]?=some x/\y=.str x) (λ_ _ _ _ r _=>r) (λi y H2 zs N hy e dy hN=>?_) (λzs H2 e dy len pr=>?_))⟩
 ·have side:∀(c:aA)(ns:List Int),cq K H2 c (ns.map V.int)->Sm ns->[G4 h.1,G4 h.2][i]?=some (G4 ns)->y=.ref c->True:=λ_ _ _ _ _ _=>trivial
  have:Ev2 λc ns=>y=.ref c/\cq K H c (ns.map V.int)/\Sm ns/\[G4 h.1,G4 h.2][i]?=some (G4 ns):=by
   match i,hy with
   |0,hy=>cases hy;exact⟨ta,h.1,rfl,h1,m1,rfl⟩
   |1,hy=>cases hy;exact⟨ga,h.2,rfl,h2,m2,rfl⟩
  obtain⟨c,ns,rfl,hc,hm,hi⟩:=this;have Aq:=e.cm hc;refine⟨Wk.set (by decide),rfl,_,rfl,c,rfl,⟨_,Aq⟩,λp2 oy=>(O9 (U3 Aq) oy (by rw[aH];exact t9 (by have:=hm.1;lia)) (λx=>.str (x6 (vI x))) (λi x H' N hx e hN=>?_) ?_)⟩
  ·obtain⟨k,rfl,hk⟩:=RC hx
   exact⟨Wk.set (by decide),_,rfl,k,rfl,Mr (hm.2 k hk).1 (hm.2 k hk).2,hN⟩
  ·refine⟨_,p2,ns.map x6,rfl,rfl,ah.of (by rw[ae,bC,bC];rfl),?_,?_⟩
   ·refine bF (kC (O7 (Y3 hm)) _) ?_
    have:=hm.1;rw[aH]
    show ns.length*10+ns.length*1<=_
    lia
   ·rw[Tx.join_eq]
    exact hN _ _ (af.new oy _) ⟨_,hi,rfl⟩
 ·have ez:zs=[G4 h.1,G4 h.2].map V.str:=by
   match zs,len with
   |[u,v],_ =>
    obtain⟨x,hx,e1⟩:=pr 0 u rfl;obtain⟨y,hy,e2⟩:=pr 1 v rfl
    cases hx;cases hy;rw[e1,e2];rfl
  rw[ez] at dy;refine⟨_,p,[G4 h.1,G4 h.2],rfl,rfl,ah.of dy,?_,?_⟩
  ·have a1:=Mq m1
   have a2:=Mq m2
   show((G4 h.1).length+((G4 h.2).length+0))+2*1<=_
   lia
  ·rw[Tx.join_eq,show cO (cN ">") [G4 h.1,G4 h.2]=C2 h from(Yi h).symm]
   exact q _ e
end Rim
namespace Rim
open PySem L2 Fr
open Tx (S cs ch x6 J6 A5 w4)
structure DW9(K:aF)(Pt ag cB cH cM:aA)(kA kD:List (aC×Addr))(FA:aA->Sp->Prop):Prop where
 nh:kA.lookup ("house":aC)=none
 nd:kA.lookup ("drop":aC)=none
 na:kA.lookup ("alter":aC)=none
 ns:kA.lookup ("sizes":aC)=none
 nb:kA.lookup ("back":aC)=none
 nbD:kD.lookup ("back":aC)=none
 wh:Way kD FA "house" (b5X K cB cM)
 wd:Way kD FA "drop" (b3f K cH cB)
 wa:Way kD FA "alter" (c8i K cH cB)
 ws:Way kD FA "sizes" (b3o K)
 wb_:Way kA FA "book" (a9P K)
 wS_:Way kA FA "share" (a7Q K cH Pt)
 wc_:Way kA FA "scale" (c7X K cH Pt)
 wr:Way kA FA "rim" (b2J K Pt)
 wo_:Way kA FA "order" (c8e K Pt ag)
 wl:Way kA FA "levels" (c7E K Pt)
def dj(Pt ag:aA)(o:Kq_)(d da:aA)(H H':Hp):Prop:=∀b u,b≠o.p->b≠o.pa->b≠d->b≠da->b≠Pt->b≠ag->H b=some u->H' b=some u
def dj.trans(a:dj Pt ag o d da H H1)(b:dj Pt ag o d da H1 H2):dj Pt ag o d da H H2:=λx u n1 n2 n3 n4 n5 n6 h=>b x u n1 n2 n3 n4 n5 n6 (a x u n1 n2 n3 n4 n5 n6 h)
def dj.same(e:af H H'):dj Pt ag o d da H H':=λx u _ _ _ _ _ _ h=>e x u h
def dj.fv(e:il Pt ag H H'):dj Pt ag o d da H H':=λx u _ _ _ _ n5 n6 h=>e x u n5 n6 h
def dj.left(e:Sq Pt o.p o.pa H H'):dj Pt ag o d da H H':=λx u n1 n2 _ _ n5 _ h=>e x u n1 n5 n2 h
def dj.rd(e:Lf2 Pt ag d da H H'):dj Pt ag o d da H H':=λx u _ _ n3 n4 n5 n6 h=>e x u n3 n4 n5 n6 h
structure Off(Pt ag:aA)(o:Kq_)(d da:aA)(b:aA):Prop where
 p:b≠o.p
 pa:b≠o.pa
 d:b≠d
 da:b≠da
 t:b≠Pt
 m:b≠ag
def dj.get(e:dj Pt ag o d da H H')(f:Off Pt ag o d da b)(h:H b=some u):H' b=some u:=e b u f.p f.pa f.d f.da f.t f.m h
theorem ml.addr(s:ml K Ck cx Pt ag H o d da SK_ L past):Ev6 λdx fs mv fs2 xs ys=>H o.p=some (.ins Ck dx fs)/\H o.pa=some (.lst xs)/\H d=some (.ins cx mv fs2)/\H da=some (.lst ys):=by
 obtain⟨lo,h,_⟩:=s.kf_;obtain⟨dx,ta,wa,pv,hp,_,jt,_⟩:=h.ex;obtain⟨lo2,h2,n2⟩:=s.df_;obtain⟨mv,ba2,pv2,hd,_,_,hda,_⟩:=h2.ex;exact⟨_,_,_,_,_,_,hp,jt,hd,hda⟩
theorem ml.kp2(s:ml K Ck cx Pt ag H o d da SK_ L past):Ev3 λdx ta wa=>H o.p=some (.ins Ck dx (KFs o.kt o.kg o.z ta wa o.pa)):=by
 obtain⟨lo,h,_⟩:=s.kf_;obtain⟨dx,ta,wa,pv,hp,_⟩:=h.ex;exact⟨dx,ta,wa,hp⟩
theorem ml.offT(s:ml K Ck cx Pt ag H o d da SK_ L past)(h:H b=some (.tup xs)):Off Pt ag o d da b:=by
 obtain⟨dx,fs,mv,fs2,ys,zs,h1,h2,h3,h4⟩:=s.addr;exact⟨J7 h h1 nofun,J7 h h2 nofun,J7 h h3 nofun,J7 h h4 nofun,s.T.ne h nofun,s.M.ne h nofun⟩
theorem ml.KD(s:ml K Ck cx Pt ag H o d da SK_ L past)(e:dj Pt ag o d da H H')(h:cq K H b xs):cq K H' b xs:=by
 obtain⟨dx,fs,mv,fs2,ys,zs,h1,h2,h3,h4⟩:=s.addr;rcases h with(h|⟨u,h⟩)|h
 ·exact .inl (.inl (e.get (s.offT h) h))
 ·exact .inl (.inr ⟨u,e b _ (J7 h h1 nofun) (J7 h h2 nofun) (J7 h h3 nofun) (J7 h h4 nofun) (s.T.ne h nofun) (s.M.ne h nofun) h⟩)
 ·exact .inr h
theorem ml.hs(s:ml K Ck cx Pt ag H o d da SK_ L past)(e:dj Pt ag o d da H H')(x:HS K H v h):HS K H' v h:=by
 obtain⟨a,t,g,rfl,h1,h2,h3⟩:=x;exact⟨a,t,g,rfl,s.KD e h1,s.KD e h2,s.KD e h3⟩
structure Ok9(kt kg:Nat)(hs:List i8):Prop where
 b:kd kt kg hs
 l:hs.length<=9
abbrev c7r(z:aC)(b0:List i8)(hi:List (List i8)):List DS:=(b0,("any":aC))::hi.map λl=>(l,z)
section
variable{P:aM}{w:aL}{K:aF}{mg:aC->Option aE}{base:aJ}{f Ck cx Pt ag CL CR cB cH cM:aA}{fd:aK}{n:Nat}{kA kD:List (aC×Addr)}{FA:aA->Sp->Prop}
abbrev c7h(K:aF)(Ck cx Pt ag:aA)(H:Hp)(o:Kq_)(d da:aA)(b0:List i8)(pre:List (List i8))(hs:List i8)(hi:List (List i8)):Prop:=ml K Ck cx Pt ag H o d da (hs,pre++hi) (hs,o.z) (c7r o.z b0 hi)
inductive c9u(K:aF)(Ck cx Pt ag:aA)(vs:List V)(H:Hp)(Q:VK)(z3_:XK):Prop|mk:∀o d da t b0 pre hi hs form num v h,vs=[.ref d,.ref o.p,.ref t,.int (hi.length:Int)]->c7h K Ck cx Pt ag H o d da b0 pre hs hi->Fit o.z o.kt o.kg->Ok9 o.kt o.kg hs->(∀l∈hi,Ok9 o.kt o.kg l)->pre.length<=100->hi.length<=100->H t=some (.tup [.int form,.int num,v])->HS K H v h->WrH o.kt o.kg h->(∀H' dt Ek,c7h K Ck cx Pt ag H' o d da b0 pre dt Ek->dj Pt ag o d da H H'->Ok9 o.kt o.kg dt->(∀l∈Ek,Ok9 o.kt o.kg l)->Ek.length<=hi.length+1->Q (.int (Ek.length:Int)) H')->c9u K Ck cx Pt ag vs H Q z3_
abbrev dnN:List aC:=["desk","kept","deed","back","form","number","house","many"]
def scDn:p7 dnN ["desk","kept","deed","back"] (i9 i6):={}
structure KC_(P:aM)(w:aL)(K:aF)(mg:aC->Option aE)(base:aJ)(n:Nat)(Ck Pt cB cH cM CL:aA)(f1 f2 f3 f4 f5 f6 f7:aA)(d1 d2 d3 d4 d5 d6 d7:aK):Prop where
 ho:c7g P w K mg base J8 n Ck "houses" ["self"] (c7F K Ck) f1 d1
 ba:c7g P w K mg base (W2 P w) n Ck "back" ["self"] (c8t K Ck CL Pt) f2 d2
 go:c7g P w K mg base (W2 P w) n Ck "go" ["self","number"] (d0j K Ck cH Pt) f3 d3
 al:c7g P w K mg base (W2 P w) n Ck "alter" ["self","number","house"] (c8f K Ck cH cB Pt) f4 d4
 co:c7g P w K mg base (W2 P w) n Ck "come" ["self","house"] (c7y K Ck cB cM Pt) f5 d5
 SD:c7g P w K mg base J8 n Ck "shares" ["self"] (c7G K Ck) f6 d6
 ri:c7g P w K mg base J8 n Ck "rim" ["self"] (c8W K Ck Pt) f7 d7
variable{f1 f2 f3 f4 f5 f6 f7 fs fw:aA}{d1 d2 d3 d4 d5 d6 d7 ds dw:aK}
def dnT(T:v8 mg)(zs:mg "str"=none)(aw:TK K Ck)(BX:TD K cx)(C:KC_ P w K mg base n Ck Pt cB cH cM CL f1 f2 f3 f4 f5 f6 f7 d1 d2 d3 d4 d5 d6 d7)(Cs:Yp P w K mg base (W2 P w) n cx "say" ["self","row"] (Yr K cx CL CR kA kD FA) fs ds)(Cw:C9 P w K mg base n "_law_written" ["house"] (O3 K) fw dw)
  (hr:b_ n (A.deeper (cD "_law_done" (i9 i6) s.heap.objs.size f ay))) :
  {t:TS//fu (N8 J8 P w K mg base dnN "_law_done" (i9 i6) f ay A outer s H E).oi (x9 i6) t} :=
 ⟨_,j0 (D3 (pv 2) (K4 rfl (p6 (j9 (i:=4) scDn.nd rfl (aI rfl)) (p6 (j9 (i:=5) scDn.nd rfl (aI rfl)) (p6 (j9 (i:=6) scDn.nd rfl (aI rfl)) A4)))))
  (t8 (r6 (i:=7) scDn.nd rfl (aI rfl) (j7 j6 rfl T.len bB (c6 (M' (pv 1) aw.cl C.ho.me C.ho.ok hr C.ho.bd .nil v6) c7)))
  (t8 (w6 (PW.pt (Gv (l5 E6 (pv 4) d0 (r9 _)) (T4 (l5 Ej (pv 3) d0 (r9 _)))))
   (j0 (R3 (M' (pv 1) aw.cl C.ba.me C.ba.ok hr C.ba.bd .nil RA)) (j0 (R3 (TQ (pv 0) BX.cl Cs.me Cs.ok hr Cs.bd .nil RA (c6 l9 c7))) (j4 (o4 (j8 IH (pv 3) d0)))))
   r8)
  (t8 (w6 (c9c (PW.pt (Gv (l5 E6 (pv 4) d0 (r9 _)) (T4 (l5 Ej (pv 7) d0 (r9 _))))))
   (j0 (R3 (TQ (pv 1) aw.cl C.go.me C.go.ok hr C.go.bd .nil RA (c6 (j8 w8 (pv 5) (pv 7)) c7)))
    (j4 (R3 (TQ (pv 0) BX.cl Cs.me Cs.ok hr Cs.bd .nil RA (c6 (j8 E2 l9 (v5 E5 rfl zs iB (c6 (j8 w8 (pv 5) (pv 7)) c7))) c7)))))
   (j4 (w6 (c9c (PW.pt (U0 (l5 E6 (pv 4) d0 (r9 _)) (R9 (l5 Ej (pv 7) d0 (r9 _))))))
    (j0 (R3 (TQ (pv 1) aw.cl C.al.me C.al.ok hr C.al.bd .nil RA (c6 (j8 w8 (pv 5) (pv 7)) (c6 (pv 6) c7))))
     (j4 (R3 (TQ (pv 0) BX.cl Cs.me Cs.ok hr Cs.bd .nil RA (c6 (j8 E2 (j8 E2 (j8 E2 l9 (v5 E5 rfl zs iB (c6 (j8 w8 (pv 5) (pv 7)) c7))) l9) (Cw.c hr (c6 (pv 6) c7))) c7)))))
    (j0 (R3 (TQ (pv 1) aw.cl C.co.me C.co.ok hr C.co.bd .nil RA (c6 (pv 6) c7)))
     (j4 (R3 (TQ (pv 0) BX.cl Cs.me Cs.ok hr Cs.bd .nil RA (c6 (j8 E2 l9 (Cw.c hr (c6 (pv 6) c7))) c7))))))))
  (j4 (o4 (j8 D4 (pv 3) d0))))))⟩
end
theorem c7b z b0 hi hs:c7r z b0 (hi++[hs])=c7r z b0 hi++[(hs,z)]:=by simp
theorem d1B{x:aC}{i:Nat}(h:x.length<=20)(hi:i<10^10):x.length+(cN (toString (i:Int))).length<=sizeLine:=by
 have:(x6 (i:Int)).length<=10:=c7v hi;have e:x6 (i:Int)=cN (toString (i:Int)):=rfl;rw[e] at this;rw[bE];lia
theorem d2F{i:Nat}(hi:i<10^10):(("alter ":aC)++cN (toString (i:Int))).length<=16:=by
 have:(x6 (i:Int)).length<=10:=c7v hi;have e:x6 (i:Int)=cN (toString (i:Int)):=rfl;have a:(("alter ":aC):S).length=6:=by decide +kernel
 rw[e] at this;rw[W8,a];lia
theorem d0F{CR}(F:Aj K "_law_done" i6 f fd)(T:v8 mg)(zs:mg "str"=none)(aw:TK K Ck)(BX:TD K cx)(W:DW9 K Pt ag cB cH cM kA kD FA)(C:KC_ P w K mg base n Ck Pt cB cH cM CL f1 f2 f3 f4 f5 f6 f7 d1 d2 d3 d4 d5 d6 d7)(Cs:Yp P w K mg base (W2 P w) n cx "say" ["self","row"] (Yr K cx CL CR kA kD FA) fs ds)(Cw:C9 P w K mg base n "_law_written" ["house"] (O3 K) fw dw) :
  bf P w K mg base J8 (n+1) f fd ["desk","kept","deed","back"] (c9u K Ck cx Pt ag):=by
 refine F.oa scDn λay A outer s H vs Q E hr h=>?_
 obtain⟨o,d,da,t,b0,pre,hi,hs,form,num,v,h,rfl,B,ft,ok,okh,prl,nj,ht,hv,wr,q⟩:=h;refine⟨_,(dnT T zs aw BX C Cs Cw hr).2,_,rfl,t,_,rfl,cq.of ht,rfl,_,_,rfl,_,_,rfl,_,_,rfl,rfl,?_⟩;have l1:=ok.b.l1;have l9_:=ok.l;have pkl:(pre++hi).length<=1000:=by rw[aX];lia
 have pal:(c7r o.z b0 hi).length<=1000:=by unfold c7r;rw[eM,aH];lia
 refine⟨λau H'=>au=[some (.ref d),some (.ref o.p),some (.ref t),some (.int (hi.length:Int)),some (.int form),some (.int num),some v,some (.int (hs.length:Int))]/\af H H',?_,?_⟩
 ·obtain⟨dx,ta,wa,hp⟩:=B.kp2
  refine⟨_,rfl,o.p,dx,_,rfl,hp,rfl,?_⟩;unfold yb;dsimp only;refine c8l B λl xs H1 e1 _ hl hB=>⟨l,_,rfl,.inl (ah.of hl),?_⟩;rw[dE hB];exact⟨rfl,e1⟩
 rintro _ H1 ⟨rfl,e1⟩;have B1:=B.same e1;have hv1:=hv.same e1;refine⟨λau H'=>au=[some (.ref d),some (.ref o.p),some (.ref t),some (.int (hi.length:Int)),some (.int form),some (.int num),some v,some (.int (hs.length:Int))]/\H'=H1,?_,?_⟩
 ·refine⟨_,rfl,rfl,_,rfl,y6 (λc=>⟨_,rfl,_,_,rfl,rfl,_,rfl,y6 (λc2=>?_) (λ_=>⟨rfl,rfl⟩)⟩) (λ_=>⟨rfl,rfl⟩)⟩;have Mw:0<hi.length:=by have:=of_decide_eq_true c2;lia
  obtain⟨hi0,h0,ehi,_⟩:=a7R (l:=hi) (k:=hi.length-1) (by lia);subst ehi;have B1':ml K Ck cx Pt ag H1 o d da (hs,(pre++hi0)++[h0]) (hs,o.z) (c7r o.z b0 hi0++[(h0,o.z)]):=by
   rw[<-c7b,dC];exact B1
  obtain⟨dx,ta,wa,hp⟩:=B1.kp2;refine⟨_,rfl,o.p,dx,_,rfl,hp,rfl,?_⟩;unfold yb;dsimp only;refine d1m B1' λH2 s2 rd=>?_;obtain⟨mv,ba2,hd⟩:=s2.dp;obtain⟨lo,wt,hn⟩:=s2.df_;refine⟨_,rfl,d,mv,_,rfl,hd,rfl,?_⟩;dsimp only[Z2,yb,tC];refine d0C wt (by unfold c7r;rw[eM,aH];simp only[aX,fR] at nj;lia) d2q W.nb W.nbD s2.T s2.M λH3 lo' D lf3 T3_ M3_ sub=>⟨_,rfl,_,_,rfl,rfl,?_⟩;have:=q H3 h0 hi0 (s2.said hn D sub lf3 T3_ M3_ wt) ((dj.same e1).trans ((dj.left rd).trans (dj.rd lf3))) (okh h0 (eL _ (.head _))) (λl hl=>okh l (fW _ hl)) (by simp;lia);rw[show(hi0.length:Int)=(((hi0++[h0]).length:Nat):Int)-1 by simp] at this;exact this
 rintro _ H1' ⟨rfl,EM⟩;subst H1';obtain⟨i,ei,K'⟩:∃i:Nat,num%(hs.length:Int)=(i:Int)/\i<hs.length:=⟨(num%(hs.length:Int)).toNat,by have:=fN num (show(hs.length:Int)≠0 by lia);lia,by have:=fN num (show(hs.length:Int)≠0 by lia);have:=eG num (show(0:Int)<(hs.length:Int) by lia);lia⟩;have mpos:(0:Int)<(hs.length:Int):=by lia
 obtain⟨dx,ta,wa,hp⟩:=B1.kp2;have dt:=hv1;have ob:=ok.b;refine⟨λau H'=>au=[some (.ref d),some (.ref o.p),some (.ref t),some (.int (hi.length:Int)),some (.int form),some (.int num),some v,some (.int (hs.length:Int))]/\∃dt,c7h K Ck cx Pt ag H' o d da b0 pre dt (hi++[hs])/\dj Pt ag o d da H1 H'/\Ok9 o.kt o.kg dt,?_,?_⟩
 rotate_left
 ·rintro _ H4 ⟨rfl,hs4,B4,Y',ok4⟩
  refine⟨_,rfl,_,_,rfl,rfl,?_⟩;have:=q H4 hs4 (hi++[hs]) B4 ((dj.same e1).trans Y') ok4 (λl hl=>by
   rcases bJ.mp hl with hl|hl
   ·exact okh l hl
   ·rw[cJ.mp hl];exact ok) (by simp)
  rw[show(((hi++[hs]).length:Nat):Int)=((hi.length:Nat):Int)+1 by simp] at this;exact this
 refine⟨λb H'=>b=decide (form=1/\1<hs.length)/\H'=H1,?_,?_⟩
 ·refine⟨_,rfl,rfl,_,rfl,y6 (λc=>?_) (λc=>⟨?_,rfl⟩)⟩
  ·exact⟨_,rfl,_,_,rfl,rfl,_,rfl,decide_eq_decide.mpr ⟨λz=>⟨V.int.inj (of_decide_eq_true c),by lia⟩,λz=>by lia⟩,rfl⟩
  ·exact(decide_eq_false λz=>c (decide_eq_true (by rw[z.1]))).symm
 rintro b H1' ⟨rfl,EM⟩;subst H1';refine y6 (λc=>?_) (λc=>?_)
 ·have cg_:=of_decide_eq_true c
  refine⟨_,rfl,o.p,dx,_,rfl,hp,rfl,_,rfl,_,rfl,_,_,rfl,rfl,mpos,?_⟩;dsimp only[yb];rw[ei];refine d2J B1 ft pkl K' λH2 cl s2 rd=>?_;obtain⟨mv,ba2,hd⟩:=s2.dp;obtain⟨lo,wt,hn⟩:=s2.df_;refine⟨_,rfl,d,mv,_,rfl,hd,rfl,_,rfl,_,rfl,_,_,rfl,rfl,mpos,?_⟩;dsimp only[yb];rw[ei];refine⟨(i:Int),rfl,b5j (by lia),_,_,rfl,rfl,d1B (by decide +kernel) (by lia),?_⟩;refine d1b wt pal ob.ui (d2k (by lia)) K' cg_.2 W.nd W.wd s2.T s2.M λH3 lo' D lf3 T3_ M3_ sub=>?_;exact⟨rfl,S8 hs i,(by unfold c7h;rw[c7b,<-dC];exact(s2.said hn D sub lf3 T3_ M3_ wt)),(dj.left rd).trans (dj.rd lf3),⟨⟨by rw[a3o K'];lia,by rw[a3o K'];lia,λg hg=>ob.g g (c8m hg),ob.t1,ob.t4,ob.g4⟩,by rw[a3o K'];lia⟩⟩
 refine⟨λb H'=>(b=false->hs.length<=8)/\H'=H1,?_,?_⟩
 ·exact⟨_,rfl,rfl,_,rfl,y6 (λc=>⟨nofun,rfl⟩) (λc=>⟨_,rfl,_,_,rfl,rfl,_,rfl,λz=>by have:=of_decide_eq_false z;lia,rfl⟩)⟩
 rintro b H1' ⟨c8,EM⟩;subst H1'
 cases b with
 |true =>
  refine J3 ⟨_,rfl,o.p,dx,_,rfl,hp,rfl,_,rfl,_,rfl,_,_,rfl,rfl,mpos,_,rfl,?_⟩;dsimp only[yb];rw[ei];refine d0u B1 ft pkl K' hv1 wr.g wr.sk_ λH2 cl s2 rd=>?_;obtain⟨mv,ba2,hd⟩:=s2.dp;obtain⟨lo,wt,hn⟩:=s2.df_;refine⟨_,rfl,d,mv,_,rfl,hd,rfl,_,rfl,_,rfl,_,_,rfl,rfl,mpos,?_⟩;dsimp only[yb];rw[ei];refine⟨(i:Int),rfl,b5j (by lia),_,_,rfl,rfl,d1B (by decide +kernel) (by lia),_,_,rfl,rfl,?_,_,rfl,v,h,rfl,B1.hs (dj.left rd) hv1,wr.sm.1,wr.sm.2,λH3 e3=>?_⟩
  ·have a1:=d2F (i:=i) (by lia)
   have a2:((" ":aC):S).length=1:=by decide +kernel
   rw[bE,a2];lia
  have s2':=s2.same e3;have hdk3:=wt.same e3;refine⟨_,_,rfl,rfl,?_,?_⟩
  ·have a1:=d2F (i:=i) (by lia)
   have a2:((" ":aC):S).length=1:=by decide +kernel
   have a3:=RD wr.sm.1 wr.sm.2;rw[bE,W8,a2];lia
  refine c9Y hdk3 pal ob (d1q (by lia) wr) K' wr.g wr.sk_ W.na W.wa s2'.T s2'.M λH4 lo' D Y' T4_ M4_ sub=>?_;have al:(c7T hs i h).length=hs.length:=c8c K';exact⟨rfl,c7T hs i h,(by unfold c7h;rw[c7b,<-dC];exact(s2'.said hn D sub Y' T4_ M4_ hdk3)),(dj.left rd).trans ((dj.same e3).trans (dj.rd Y')),⟨⟨by lia,by lia,λg hg=>by
   rcases c7U hg with rfl|hg
   ·exact wr.g.hg
   ·exact ob.g g hg,ob.t1,ob.t4,ob.g4⟩,by lia⟩⟩
 |false =>
  refine M7 ?_;have l8_:=c8 rfl;refine⟨_,rfl,o.p,dx,_,rfl,hp,rfl,_,rfl,?_⟩;dsimp only[yb];refine d1o B1 ft pkl (by lia) hv1 wr.g wr.sk_ λH2 r s2 rd=>?_;obtain⟨mv,ba2,hd⟩:=s2.dp;obtain⟨lo,wt,hn⟩:=s2.df_;refine⟨_,rfl,d,mv,_,rfl,hd,rfl,_,rfl,v,h,rfl,B1.hs (dj.left rd) hv1,wr.sm.1,wr.sm.2,λH3 e3=>?_⟩;have s2':=s2.same e3;have hdk3:=wt.same e3;refine⟨_,_,rfl,rfl,?_,?_⟩
  ·have a2:(("house ":aC):S).length=6:=by decide +kernel
   have a3:=RD wr.sm.1 wr.sm.2;rw[bE,a2];lia
  refine d1r hdk3 pal ob (d1t wr) wr.g wr.sk_ (by lia) W.nh W.wh s2'.T s2'.M λH4 lo' D Y' T4_ M4_ sub=>?_;have al:(hs++[h]).length=hs.length+1:=by simp
  exact⟨rfl,hs++[h],(by unfold c7h;rw[c7b,<-dC];exact(s2'.said hn D sub Y' T4_ M4_ hdk3)),(dj.left rd).trans ((dj.same e3).trans (dj.rd Y')),⟨⟨by lia,by lia,λg hg=>by
   rcases bJ.mp hg with hg|hg
   ·exact ob.g g hg
   ·rw[cJ.mp hg];exact wr.g.hg,ob.t1,ob.t4,ob.g4⟩,by lia⟩⟩
theorem d0A(ok:OkK z kt kg hs)(h1:1<=hs.length):Shs z hs kt kg (shq z kt kg hs):=by
 have l:=ok.l;unfold shq at l⊢
 split
 ·rename_i h;exact Pi h
 ·rename_i h
  rw[dif_neg h] at l;simp at l;lia
section
variable{P:aM}{w:aL}{K:aF}{mg:aC->Option aE}{base:aJ}{f Ck cx Pt ag CL CR cB cH cM:aA}{fd:aK}{n:Nat}{kA kD:List (aC×Addr)}{FA:aA->Sp->Prop}
inductive c9v(K:aF)(Ck cx Pt ag:aA)(vs:List V)(H:Hp)(Q:VK)(z3_:XK):Prop|mk:∀o d da b0 pre hi hs,vs=[.ref d,.ref o.p,.str o.z]->c7h K Ck cx Pt ag H o d da b0 pre hs hi->Fit o.z o.kt o.kg->Ok9 o.kt o.kg hs->hi.length<=100->(∀H',c7h K Ck cx Pt ag H' o d da b0 pre hs hi->dj Pt ag o d da H H'->Q (.bl true) H')->c9v K Ck cx Pt ag vs H Q z3_
abbrev alN:List aC:=["desk","kept","sizes","book","shares","k"]
def scAlk:p7 alN ["desk","kept","sizes"] (i9 h8):={}
theorem d2y:(["level"]:List aC).Nodup:=by simp
structure AC(P:aM)(w:aL)(K:aF)(mg:aC->Option aE)(base:aJ)(n:Nat)(Pt ag cH:aA)(f1 f2 f3 f4 f5 f6:aA)(d1 d2 d3 d4 d5 d6:aK):Prop where
 bt:C9 P w K mg base n "book_text" ["book"] (a8T K) f1 d1
 ft:C9 P w K mg base n "fraction_text" ["one"] (RE K) f2 d2
 sc:vn P w K mg base n "scale" ["book","number"] (c8A K cH Pt) f3 d3
 nm:C9 P w K mg base n "_law_a_numbers" ["numbers"] (c9y K) f4 d4
 st:CZ P w K mg base n "standing" ["book","sizes"] (c8s K Pt ag) f5 d5
 lv:C9 P w K mg base n "levels" ["book","sizes"] (c8g K Pt) f6 d6
variable{f1 f2 f3 f4 f5 f6 f7 fs g1 g2 g3 g4 g5 g6:aA}{d1 d2 d3 d4 d5 d6 d7 ds e1 e2 e3 e4 e5 e6:aK}
def d2U(T:v8 mg)(zs:mg "str"=none)(aw:TK K Ck)(BX:TD K cx)(C:KC_ P w K mg base n Ck Pt cB cH cM CL f1 f2 f3 f4 f5 f6 f7 d1 d2 d3 d4 d5 d6 d7)(Cs:Yp P w K mg base (W2 P w) n cx "say" ["self","row"] (Yr K cx CL CR kA kD FA) fs ds)(B:AC P w K mg base n Pt ag cH g1 g2 g3 g4 g5 g6 e1 e2 e3 e4 e5 e6)
  (hr:b_ n (A.deeper (cD "_law_a_alike" (i9 h8) s.heap.objs.size f ay))) :
  {t:TS//fu (N8 J8 P w K mg base alN "_law_a_alike" (i9 h8) f ay A outer s H E).oi (x9 h8) t} :=
 ⟨_,t8 (r6 (i:=3) scAlk.nd rfl (aI rfl) (M' (pv 1) aw.cl C.ho.me C.ho.ok hr C.ho.bd .nil v6))
  (t8 (w6 (l5 Ei (TQ (pv 0) BX.cl Cs.me Cs.ok hr Cs.bd .nil RA (c6 l9 c7)) (B.bt.c hr (c6 (pv 3) c7)) (r9 _)) XE r8)
  (t8 (r6 (i:=4) scAlk.nd rfl (aI rfl) (M' (pv 1) aw.cl C.SD.me C.SD.ok hr C.SD.bd .nil v6))
  (t8 (IF hO rfl (R8 rfl T.range (c6 (j7 j6 rfl T.len bB (c6 (pv 3) c7)) c7)) (j9 (i:=5) scAlk.nd rfl (aI rfl))
   (t8 (w6 (l5 Ei (TQ (pv 0) BX.cl Cs.me Cs.ok hr Cs.bd .nil RA (c6 (j8 E2 l9 (v5 E5 rfl zs iB (c6 (pv 5) c7))) c7)) (B.ft.c hr (c6 (l8 j5 (pv 4) (pv 5) (λ_ _=>rfl)) c7)) (r9 _)) XE r8)
   (j4 (w6 (l5 Ei (TQ (pv 0) BX.cl Cs.me Cs.ok hr Cs.bd .nil RA (c6 (j8 E2 l9 (v5 E5 rfl zs iB (c6 (pv 5) c7))) c7)) (l7 B.sc.ok hr rfl B.sc.m B.sc.k B.sc.b .nil RA (c6 (pv 3) (c6 (pv 5) c7))) (r9 _)) XE r8))))
  (t8 (w6 (l5 Ei (TQ (pv 0) BX.cl Cs.me Cs.ok hr Cs.bd .nil RA (c6 l9 c7)) (B.nm.c hr (c6 (M' (pv 1) aw.cl C.ri.me C.ri.ok hr C.ri.bd .nil v6) c7)) (r9 _)) XE r8)
  (t8 (w6 (l5 Ei (TQ (pv 0) BX.cl Cs.me Cs.ok hr Cs.bd .nil RA (c6 l9 c7)) (B.nm.c hr (c6 (B.st.c hr (c6 (pv 3) (c6 (pv 2) c7))) c7)) (r9 _)) XE r8)
  (j4 (o4 (Z3 E6 (TQ (pv 0) BX.cl Cs.me Cs.ok hr Cs.bd .nil RA (c6 l9 c7)) (K7 eP hZ iA W4 l9 (c6 (N6 ["level"] [] rfl (C6 (B.lv.c hr (c6 (pv 3) (c6 (pv 2) c7)))) (λ_ _ _ _=>j9 (i:=0) d2y rfl (aI rfl)) (λ_ _ _ _=>B.nm.c hr (c6 (pv 0) c7))) c7)) (r9 _)))))))))⟩
end
theorem ml.offN(s:ml K Ck cx Pt ag H o d da SK_ L past)(h:H b=none)(T:LT Pt H')(M:nv ag H')(hl:H' b=some (.lst xs)):Off Pt ag o d da b:=by
 obtain⟨dx,fs,mv,fs2,ys,zs,h1,h2,h3,h4⟩:=s.addr;exact⟨(i7 h1 h).symm,(i7 h2 h).symm,(i7 h3 h).symm,(i7 h4 h).symm,T.ne hl nofun,M.ne hl nofun⟩
theorem c7k z:(!decide (V.str z=V.str z))=false:=by simp
theorem d0x{CR}(F:Aj K "_law_a_alike" h8 f fd)(T:v8 mg)(zs:mg "str"=none)(aw:TK K Ck)(BX:TD K cx)(W:DW9 K Pt ag cB cH cM kA kD FA)(C:KC_ P w K mg base n Ck Pt cB cH cM CL f1 f2 f3 f4 f5 f6 f7 d1 d2 d3 d4 d5 d6 d7)(Cs:Yp P w K mg base (W2 P w) n cx "say" ["self","row"] (Yr K cx CL CR kA kD FA) fs ds)(B:AC P w K mg base n Pt ag cH g1 g2 g3 g4 g5 g6 e1 e2 e3 e4 e5 e6) :
  bf P w K mg base J8 (n+1) f fd ["desk","kept","sizes"] (c9v K Ck cx Pt ag):=by
 refine F.oa scAlk λay A outer s H vs Q E hr h=>?_
 obtain⟨o,d,da,b0,pre,hi,hs,rfl,s0,ft,ok,nj,q⟩:=h;refine⟨_,(d2U T zs aw BX C Cs B hr).2,?_⟩;have ob:=ok.b;have l9_:=ok.l;have hz:=ft.z;have pal:(c7r o.z b0 hi).length<=1000:=by unfold c7r;rw[eM,aH];lia
 refine⟨λau H'=>Ev2 λbk xs=>au=[some (.ref d),some (.ref o.p),some (.str o.z),some (.ref bk),none,none]/\af H H'/\H bk=none/\H' bk=some (.lst xs)/\Bk K H' xs hs,?_,?_⟩
 ·obtain⟨dx,ta,wa,hp⟩:=s0.kp2
  refine⟨_,rfl,o.p,dx,_,rfl,hp,rfl,?_⟩;unfold yb;exact c8l s0 λl xs H1 e1 h0 hl hB=>⟨l,xs,rfl,e1,h0,hl,hB⟩
 rintro _ H1 ⟨bk,xs,rfl,e1,Eu,K_,HM⟩;have s1:=s0.same e1;have xl:xs.length=hs.length:=dE HM;have bin:∀{H':Hp},dj Pt ag o d da H1 H'->H' bk=some (.lst xs):=λe=>e.get (s0.offN Eu s1.T s1.M K_) K_;have bkk:∀{H':Hp},dj Pt ag o d da H1 H'->Bk K H' xs hs:=λe=>aZ.imp' (λ_ _ r=>s1.hs e r) HM;refine⟨λau H'=>au=[some (.ref d),some (.ref o.p),some (.str o.z),some (.ref bk),none,none]/\dj Pt ag o d da H1 H'/\c7h K Ck cx Pt ag H' o d da b0 pre hs hi,?_,?_⟩
 ·obtain⟨mv,ba2,hd⟩:=s1.dp
  obtain⟨lo,wt,hn⟩:=s1.df_;refine⟨_,rfl,d,mv,_,rfl,hd,rfl,?_⟩;dsimp only[Z2,yb,tC];refine d0G wt pal ob d1U W.wb_ s1.T s1.M λH2 lo' D lf T2 M2_ sub=>?_;have s2:=s1.said hn D sub lf T2 M2_ wt;have rd:dj Pt ag o d da H1 H2:=dj.rd lf;refine⟨_,rfl,bk,xs,hs,rfl,ah.of (bin rd),bkk rd,by lia,λh hh=>Sw (ob.g h hh) (dL _) ob.t4 ob.g4,λH3 e3=>⟨rfl,_,rfl,?_⟩⟩;rw[c7k];exact M7 ⟨rfl,rd.trans (dj.same e3),s2.same e3⟩
 rintro _ H2 ⟨rfl,rd,s2⟩;refine⟨λau H'=>Ev2 λ(sl:aA)(ys:List V)=>au=[some (.ref d),some (.ref o.p),some (.str o.z),some (.ref bk),some (.ref sl),none]/\af H2 H'/\H2 sl=none/\H' sl=some (.lst ys)/\bR (Ex H') ys (shq o.z o.kt o.kg hs),?_,?_⟩
 ·obtain⟨dx,ta,wa,hp⟩:=s2.kp2
  refine⟨_,rfl,o.p,dx,_,rfl,hp,rfl,?_⟩;unfold yb;dsimp only;exact c9T s2 λl ys H3 e3 h0 hl hY=>⟨l,ys,rfl,e3,h0,hl,hY⟩
 rintro _ H3 ⟨sl,ys,rfl,e3,zi,hsl3,hY3⟩;have s3:=s2.same e3;have lf3:=rd.trans (dj.same e3);have SD:=d0A (c7Y s0) ob.l1;have yl_:ys.length=hs.length:=by rw[dE hY3,SD.1]
 refine⟨λau H'=>(∃o5,au=[some (.ref d),some (.ref o.p),some (.str o.z),some (.ref bk),some (.ref sl),o5])/\dj Pt ag o d da H3 H'/\c7h K Ck cx Pt ag H' o d da b0 pre hs hi,?_,?_⟩
 ·refine⟨_,rfl,bk,_,rfl,.inl (ah.of (bin lf3)),_,rfl,by lia,by lia,?_⟩
  rw[xl,cF];refine PZ (n:=hs.length) (λi σ H'=>(∃o5,σ=[some (.ref d),some (.ref o.p),some (.str o.z),some (.ref bk),some (.ref sl),o5])/\dj Pt ag o d da H3 H'/\c7h K Ck cx Pt ag H' o d da b0 pre hs hi) ⟨⟨_,rfl⟩,dj.same (af.refl _),s3⟩ ?_ (λσ H' h=>h);rintro i σ H4 Ek ⟨⟨o5,rfl⟩,Y',s4⟩;rw[lH];obtain⟨h,hh⟩:∃h,hs[i]?=some h:=⟨_,aS Ek⟩;have gh:=ob.g h (bK hh);refine⟨λau H'=>au=[some (.ref d),some (.ref o.p),some (.str o.z),some (.ref bk),some (.ref sl),some (.int (i:Int))]/\dj Pt ag o d da H4 H'/\c7h K Ck cx Pt ag H' o d da b0 pre hs hi,?_,?_⟩
  ·obtain⟨mv,ba2,hd⟩:=s4.dp
   obtain⟨lo,wt,hn⟩:=s4.df_;refine⟨_,rfl,d,mv,_,rfl,hd,rfl,_,rfl,(i:Int),rfl,b5j (by lia),_,_,rfl,rfl,d1B (by decide +kernel) (by lia),c9F wt pal ob hz (d1v (by lia)) hh W.wS_ s4.T s4.M s4.ne λx X H5 lo' D lf T5_ M5_ sub=>?_⟩;have s5:=s4.said hn D sub lf T5_ M5_ wt;have lf5:dj Pt ag o d da H4 H5:=dj.rd lf;have lf35:=Y'.trans lf5;have hyi:i<ys.length:=by lia
   obtain⟨x',f',hfx⟩:=aZ.at hY3 (aS hyi);obtain⟨A',B',X'_,ex'⟩:=SD.2 i h x' hh f';have exx:x=x':=by rw[ex'];exact X.is hz X'_.s ob.g gh
   subst exx;obtain⟨a1,a2⟩:=X.b.Dk (by decide);have hfx5:Ex H5 ys[i] x:=by
    obtain⟨b,eb,hb⟩:=hfx;exact⟨b,eb,lf35.get (s3.offT hb) hb⟩
   refine⟨_,rfl,_,rfl,sl,_,_,_,rfl,rfl,ah.of (lf35.get (s2.offN zi s3.T s3.M hsl3) hsl3),A2 (aS hyi),_,x,rfl,hfx5.v,a1,a2,rfl,_,rfl,?_⟩;rw[c7k];exact M7 ⟨rfl,lf5,s5⟩
  rintro _ H5 ⟨rfl,lf5,s5⟩;obtain⟨mv,ba2,hd⟩:=s5.dp;obtain⟨lo,wt,hn⟩:=s5.df_;refine⟨_,rfl,d,mv,_,rfl,hd,rfl,_,rfl,(i:Int),rfl,b5j (by lia),_,_,rfl,rfl,d1B (by decide +kernel) (by lia),c9N wt pal ob (d1e (by lia)) hh W.wc_ s5.T s5.M s5.ne λt X H6 lo' D lf T6_ M6_ sub=>?_⟩;have s6:=s5.said hn D sub lf T6_ M6_ wt;have lf6:dj Pt ag o d da H5 H6:=dj.rd lf;have lf16:=lf3.trans (Y'.trans (lf5.trans lf6));refine⟨_,rfl,_,rfl,bk,xs,hs,(i:Int),10^9,o.kt,o.kg,rfl,ob.bin (bin lf16) (bkk lf16),ob.t1,b5j (by lia),s6.T,λj h' H7 t' hj Kp X'_ e7 T7_=>?_,λbad=>absurd ⟨by lia,by lia⟩ bad⟩;have:j=i:=by lia
  subst this;rw[hh] at Kp;cases Kp;have et:=d1W ob gh X X'_;subst et;have M7_:=s6.T.other s6.M s6.ne e7;refine⟨rfl,_,rfl,?_⟩;rw[c7k];exact M7 ⟨⟨_,rfl⟩,Y'.trans (lf5.trans (lf6.trans (dj.fv e7.to2))),s6.fv e7.to2 T7_ M7_⟩
 rintro _ H4 ⟨⟨o5,rfl⟩,Y',s4⟩;refine⟨λau H'=>au=[some (.ref d),some (.ref o.p),some (.str o.z),some (.ref bk),some (.ref sl),o5]/\dj Pt ag o d da H4 H'/\c7h K Ck cx Pt ag H' o d da b0 pre hs hi,?_,?_⟩
 ·obtain⟨mv,ba2,hd⟩:=s4.dp
  obtain⟨lo,wt,hn⟩:=s4.df_;refine⟨_,rfl,d,mv,_,rfl,hd,rfl,?_⟩;dsimp only[Z2,yb,tC];refine d1x wt pal ob hz d2C W.wr s4.T s4.M s4.ne λH5 lo' D lf T5_ M5_ sub=>?_;have s5:=s4.said hn D sub lf T5_ M5_ wt;have lf5:dj Pt ag o d da H4 H5:=dj.rd lf;obtain⟨dx,ta,wa,hp⟩:=s5.kp2;refine⟨_,rfl,o.p,dx,_,rfl,hp,rfl,?_⟩;dsimp only[yb];refine d2r s5 ft λr H6 e6 T6_ h0 hr6=>?_;have M6_:=s5.T.other s5.M s5.ne e6;have s6:=s5.fv e6.to2 T6_ M6_;rw[c7A] at hr6;refine⟨r,_,rfl,ah.of hr6,b3h ob.ui,λH7 e7=>⟨rfl,_,rfl,?_⟩⟩;rw[show c7z (Jg o.z hs)=G4 ((Jg o.z hs).map λ(k:Nat)=>(k:Int)) from rfl,c7k];exact M7 ⟨rfl,lf5.trans ((dj.fv e6.to2).trans (dj.same e7)),s6.same e7⟩
 rintro _ H5 ⟨rfl,lf5,s5⟩;refine⟨λau H'=>au=[some (.ref d),some (.ref o.p),some (.str o.z),some (.ref bk),some (.ref sl),o5]/\dj Pt ag o d da H5 H'/\c7h K Ck cx Pt ag H' o d da b0 pre hs hi,?_,?_⟩
 ·obtain⟨mv,ba2,hd⟩:=s5.dp
  obtain⟨lo,wt,hn⟩:=s5.df_;refine⟨_,rfl,d,mv,_,rfl,hd,rfl,?_⟩;dsimp only[Z2,yb,tC];refine d0e wt pal ob hz d1K W.wo_ s5.T s5.M s5.ne λns X H6 lo' D lf T6_ M6_ sub=>?_;have s6:=s5.said hn D sub lf T6_ M6_ wt;have lf6:dj Pt ag o d da H5 H6:=dj.rd lf;have lf16:=lf3.trans (Y'.trans (lf5.trans lf6));refine⟨_,rfl,_,rfl,bk,xs,hs,o.z,10^9,o.kt,o.kg,rfl,hz,ob.bin (bin lf16) (bkk lf16),ob.ui,ob.t1,s6.T,s6.M,s6.ne,λos ns' l H7 O S e7 T7_ M7_ _ hl7=>?_⟩;have en:=d0U hz ob X ⟨os,O,S⟩;subst en;have s7:=s6.fv e7 T7_ M7_;refine⟨l,ns,rfl,ah.of hl7,c8C S (by rw[O.1];exact ob.ui),λH8 e8=>⟨rfl,_,rfl,?_⟩⟩;rw[c7k];exact M7 ⟨rfl,lf6.trans ((dj.fv e7).trans (dj.same e8)),s7.same e8⟩
 rintro _ H6 ⟨rfl,lf6,s6⟩;obtain⟨mv,ba2,hd⟩:=s6.dp;obtain⟨lo,wt,hn⟩:=s6.df_;refine⟨_,rfl,d,mv,_,rfl,hd,rfl,?_⟩;dsimp only[Z2,yb,tC];refine c8X wt pal ob hz d0S W.wl s6.T s6.M s6.ne λH7 lo' D lf T7_ M7_ sub=>?_;have s7:=s6.said hn D sub lf T7_ M7_ wt;have lf17:=lf3.trans (Y'.trans (lf5.trans (lf6.trans (dj.rd lf))));obtain⟨c1,c2⟩:=c8o (z:=o.z) ob.ui;refine⟨rfl,_,rfl,_,rfl,bk,xs,hs,o.z,10^9,o.kt,o.kg,rfl,hz,ob.bin (bin lf17) (bkk lf17),by decide,ob.t1,s7.T,λH8 r as e8 T8_ _ hr8 hN _=>⟨r,rfl,⟨_,ah.of hr8⟩,λp hp=>(c9k hr8 hN c1 hp (λa l H9 N hl e9 ha hNN=>?_) (λH9 e9 hp9=>?_))⟩⟩
 ·rw[c7A] at ha
  exact⟨_,rfl,a,_,rfl,ah.of ha,c8z (m:=16) (by decide) (c2 l hl).1 (c2 l hl).2,hNN⟩
 ·refine⟨_,p,_,rfl,rfl,ah.of hp9,?_,?_⟩
  ·refine bF (kC (c8G c1 c2) _) ?_
   rw[aH]
   show 20000+(lev o.z hs hs.length (aW hs.length)).length*1<=_
   lia
  ·rw[Tx.join_eq]
   refine⟨rfl,?_⟩;rw[show d1z (lev o.z hs hs.length (aW hs.length))=cO (ch 32) ((lev o.z hs hs.length (aW hs.length)).map c7z) from rfl,show(cN " ":aC)=ch 32 from rfl,decide_eq_true rfl];exact q H9 ((s7.fv e8.to2 T8_ (s7.T.other s7.M s7.ne e8)).same e9) ((dj.same e1).trans (lf17.trans ((dj.fv e8.to2).trans (dj.same e9))))
section
variable{P:aM}{w:aL}{K:aF}{mg:aC->Option aE}{base:aJ}{f Ck cx Pt ag CL CR CT cB cH cM:aA}{fd:aK}{n:Nat}{kA kD:List (aC×Addr)}{FA:aA->Sp->Prop}
abbrev b9x:List aC:=["script","book","sizes","kept","house","desk","back","cell","picks","takes"]
def eu:p7 b9x ["script"] (i9 M1):={}
theorem ndP:(["pick"]:List aC).Nodup:=by simp
structure Calls(P:aM)(w:aL)(K:aF)(mg:aC->Option aE)(base:aJ)(n:Nat)(Ck cx Pt ag:aA)(a1 a2 a3 a4 a5 a6:aA)(d1 d2 d3 d4 d5 d6:aK):Prop where
 ab:CZ P w K mg base n "_law_a_book" ["script","at","most","far"] (a9g K) a1 d1
 ca:CZ P w K mg base n "_law_cell_at" ["script","k"] (Ri K) a2 d2
 dr:CZ P w K mg base n "_law_draws" ["cell","many","base"] (Rj K) a3 d3
 bt:C9 P w K mg base n "book_text" ["book"] (a8T K) a4 d4
 dn:C9 P w K mg base n "_law_done" ["desk","kept","deed","back"] (c9u K Ck cx Pt ag) a5 d5
 al:C9 P w K mg base n "_law_a_alike" ["desk","kept","sizes"] (c9v K Ck cx Pt ag) a6 d6
structure d0Z(P:aM)(w:aL)(K:aF)(mg:aC->Option aE)(base:aJ)(C fi:aA)(di:aK):Prop where
 WA:Mk K C fi
 ok:∀m:Nat,bf P w K mg base J8 (m+1) fi di ["self","takes","gives","sizes"] (c8r K C)
 bd:Binds K di ["self","takes","gives","sizes"] []
 m:mg "Kept"=some (.ref C)
structure G5(P:aM)(w:aL)(K:aF)(mg:aC->Option aE)(base:aJ)(n:Nat)(C cT fi:aA)(di:aK):Prop where
 WA:Mk K C fi
 ok:bf P w K mg base (W2 P w) n fi di ["self","text"] (Ym K C cT)
 bd:Binds K di ["self","text"] []
 m:mg "Desk"=some (.ref C)
abbrev X1(P:aM)(w:aL)(K:aF)(mg:aC->Option aE)(base:aJ)(f:aA)(ay:aE)(A:aV)(outer:List Env)(s:aG)(H:Hp)(E:XK):Cx:=(N8 J8 P w K mg base b9x "law" (i9 M1) f ay A outer s H E).oi
variable{ay:aE}{A:aV}{outer:List Env}{s:aG}{H:Hp}{E:XK}{a1 a2 a3 a4 a5 a6 fk_ fi fs fc:aA}{d1 d2 d3 d4 d5 d6 dk di ds dc:aK}
def c1p(T:v8 mg)(aw:TK K Ck)(BX:TD K cx)(MK_:d0Z P w K mg base Ck fk_ dk)(MD_:G5 P w K mg base (n+1) cx CT fi di)(Cc_:c7g P w K mg base (W2 P w) (n+2) Ck "come" ["self","house"] (c7y K Ck cB cM Pt) fc dc)(Cs:Yp P w K mg base (W2 P w) (n+2) cx "say" ["self","row"] (Yr K cx CL CR kA kD FA) fs ds)(C:Calls P w K mg base (n+2) Ck cx Pt ag a1 a2 a3 a4 a5 a6 d1 d2 d3 d4 d5 d6)
  (hr:b_ (n+2) (A.deeper (cD "law" (i9 M1) s.heap.objs.size f ay))):{t:TS//fu (X1 P w K mg base f ay A outer s H E) (x9 M1) t} :=
 ⟨_,j0 (r6 (i:=1) eu.nd rfl (aI rfl) (C.ab.c hr (c6 (pv 0) (c6 d0 (c6 d0 (c6 d0 c7))))))
  (t8 (r6 (i:=2) eu.nd rfl (aI rfl) (l8 j5 (v9 (c6 l9 (c6 l9 (c6 l9 (c6 l9 c7))))) (j8 w8 (l8 j5 (C.dr.c hr (c6 (C.ca.c hr (c6 (pv 0) (c6 d0 c7))) (c6 d0 (c6 d0 c7)))) d0 (λ_ _=>rfl)) d0) (λ_ _=>rfl)))
  (t8 (r6 (i:=3) eu.nd rfl (aI rfl) (a9F MK_.WA (MK_.ok n) hr rfl MK_.m MK_.bd .nil v6 (c6 (j7 j6 rfl T.len bB (c6 (l8 U8 (l8 j5 (pv 1) d0 (λ_ _=>rfl)) d0 (λ_ _=>rfl)) c7)) (c6 (j7 j6 rfl T.len bB (c6 (l8 U8 (l8 j5 (pv 1) d0 (λ_ _=>rfl)) d0 (λ_ _=>rfl)) c7)) (c6 (pv 2) c7)))))
  (t8 (IF hO rfl (C6 (pv 1)) (j9 (i:=4) eu.nd rfl (aI rfl)) (j4 (R3 (TQ (pv 3) aw.cl Cc_.me Cc_.ok hr Cc_.bd .nil RA (c6 (pv 4) c7)))))
  (t8 (r6 (i:=5) eu.nd rfl (aI rfl) (a9F MD_.WA MD_.ok hr rfl MD_.m MD_.bd .nil RA (c6 (C.bt.c hr (c6 (pv 1) c7)) c7)))
  (t8 (R3 (TQ (pv 5) BX.cl Cs.me Cs.ok hr Cs.bd .nil RA (c6 (j8 E2 l9 (pv 2)) c7)))
  (j0 (r6 (i:=6) eu.nd rfl (aI rfl) d0)
  (j0 (IF hO rfl (C6 (j8 B9 (v9 (c6 (C.ca.c hr (c6 (pv 0) (c6 d0 c7))) c7)) (B7 M0 (pv 0) (B8 d0) (B8 d0)))) (j9 (i:=7) eu.nd rfl (aI rfl))
   (j0 (r6 (i:=8) eu.nd rfl (aI rfl) (C.dr.c hr (c6 (pv 7) (c6 d0 (c6 d0 c7)))))
   (t8 (r6 (i:=9) eu.nd rfl (aI rfl) (v5 E7 rfl T.tuple hU (c6 (N6 ["pick"] [] rfl (C6 (B7 M0 (pv 8) (B8 d0) (B8 (j8 D4 d0 (j7 j6 rfl T.len bB (c6 (l8 U8 (l8 j5 (pv 1) d0 (λ_ _=>rfl)) d0 (λ_ _=>rfl)) c7)))))) (λ_ _ _ _=>j9 (i:=0) ndP rfl (aI rfl)) (λ_ _ _ _=>j8 D4 d0 (j8 w8 (pv 0) d0))) c7)))
   (t8 (r6 (i:=4) eu.nd rfl (aI rfl) (A9 (c6 (pv 9) (c6 (v5 E7 rfl T.tuple hU (c6 (N6 ["pick"] [] rfl (C6 (B7 M0 (pv 8) (B8 d0) (B8 (j8 D4 d0 (j7 j6 rfl T.len bB (c6 (l8 U8 (l8 j5 (pv 1) d0 (λ_ _=>rfl)) d0 (λ_ _=>rfl)) c7)))))) (λ_ _ _ _=>j9 (i:=0) ndP rfl (aI rfl)) (λ_ _ _ _=>j8 D4 d0 (j8 w8 (pv 0) d0))) c7)) c7))))
   (t8 (r6 (i:=6) eu.nd rfl (aI rfl) (C.dn.c hr (c6 (pv 5) (c6 (pv 3) (c6 (A9 (c6 (j8 w8 (l8 j5 (pv 8) d0 (λ_ _=>rfl)) d0) (c6 (l8 j5 (pv 8) d0 (λ_ _=>rfl)) (c6 (pv 4) c7)))) (c6 (pv 6) c7))))))
   (j4 (w6 (S6 (X6 (C.al.c hr (c6 (pv 5) (c6 (pv 3) (c6 (pv 2) c7)))))) XE r8)))))))
  (j4 (o4 JC)))))))))⟩
end
theorem c9s(k:∀u,(∀ps,u≠.my ps)->H a=some u->H' a=some u)(h:ah K H a xs):ah K H' a xs:=by
 rcases h with(h|⟨o,h⟩)|h
 ·exact .inl (.inl (k _ nofun h))
 ·exact .inl (.inr ⟨o,k _ nofun h⟩)
 ·exact .inr h
theorem d0w{ds:List Int}(h:j<ds.length):U7 (ds.map V.int) (j:Int)=some (.int (ds.getD j 0)):=A2 (by rw[aP,bA,aS h];rfl)
theorem d0V{ns:List Int}(h:x∈P5 (ns.map V.int) lo hi):∃k,x=.int k:=by
 unfold P5 at h;obtain⟨k,_,rfl⟩:=aY.mp (fK (fV h));exact⟨k,rfl⟩
theorem d0k(hk:k<4):∃z,([V.str "any",V.str "one",V.str "less",V.str "more"]:List V)[k]?=some (.str z)/\O4 z:=by
 match k,hk with
 |0,_=>exact⟨_,rfl,.inl rfl⟩
 |1,_=>exact⟨_,rfl,.inr (.inl rfl)⟩
 |2,_=>exact⟨_,rfl,.inr (.inr (.inl rfl))⟩
 |3,_=>exact⟨_,rfl,.inr (.inr (.inr rfl))⟩
theorem c9W(h:hs.length<=16)(m:∀h∈hs,Sm h.1/\Sm h.2):(Ey hs).length<=100000:=by
 have h1:=bF (sD (ch 10) (hs.map C2)) (kC (O7 λx hx=>by
  obtain⟨g,hg,rfl⟩:=aY.mp hx;exact RD (m g hg).1 (m g hg).2) _)
 rw[aH] at h1;have h3:(ch 10).length=1:=rfl;rw[h3] at h1
 show(cO (ch 10) (hs.map C2)).length<=100000
 lia
def drV:V->V
 |.int k=>.int (1+k%30)
 |v=>v
theorem c9l(ps:List Int):(ps.map V.int).map drV=(ps.map λd=>1+d%30).map V.int:=by rw[bC,bC];rfl
theorem c9f{ps:List Int}{i:Nat}(h:(ps.map V.int)[i]?=some x):∃k,x=.int k:=by
 rw[aP] at h
 cases e:ps[i]? with
 |none=>rw[e] at h;cases h
 |some k=>rw[e] at h;cases h;exact⟨k,rfl⟩
theorem d1a{ps:List Int}(h:j+k<=ps.length):P5 (ps.map V.int) (some (j:Int)) (some ((j:Int)+(k:Int)))=((ps.drop j).take k).map V.int:=by
 rw[show(j:Int)+(k:Int)=((j+k:Nat):Int) by lia,a8U _ j (j+k) (by lia) (by simp_all),show j+k-j=k by lia,<-pH,<-pG]
def drH(ds:List Int)(kt kg:Nat):i8:=(((ds.drop 2).take kt).map λd=>1+d%30,((ds.drop 6).take kg).map λd=>1+d%30)
theorem d2c(hl:ds.length=12)(t1:1<=kt)(t4:kt<=4)(g1:1<=kg)(g4:kg<=4):WrH kt kg (drH ds kt kg):=by
 have l1:(drH ds kt kg).1.length=kt:=by unfold drH;simp[hl];lia
 have l2:(drH ds kt kg).2.length=kg:=by unfold drH;simp[hl];lia
 have b1:∀x∈(drH ds kt kg).1,1<=x/\x<=30:=λx hx=>by
  obtain⟨d,_,rfl⟩:=aY.mp hx;lia
 have b2:∀x∈(drH ds kt kg).2,1<=x/\x<=30:=λx hx=>by
  obtain⟨d,_,rfl⟩:=aY.mp hx;lia
 have gk:ef (drH ds kt kg) kt kg:=by
  refine⟨⟨by rw[l1],λx hx=>?_⟩,⟨by rw[l2],λx hx=>?_⟩,?_⟩
  ·have:=b1 x hx;exact⟨by lia,by lia⟩
  ·have:=b2 x hx;exact⟨by lia,by lia⟩
  ·have h0:0<(drH ds kt kg).2.length:=by lia
   exact⟨_,eF h0,by have:=b2 _ (eF h0);lia⟩
 exact⟨⟨⟨by lia,by lia⟩,⟨by lia,by lia⟩,by rw[l1,l2];exact gk⟩,gk,t4,g4⟩
theorem c7P(g:HG br kt kg h)(hf:br<=10^9):ef h kt kg:=⟨⟨by rw[g.lt],λx hx=>⟨(g.t x hx).1,xA (g.t x hx).2 hf⟩⟩,⟨by rw[g.lg],λx hx=>⟨(g.g x hx).1,xA (g.g x hx).2 hf⟩⟩,g.p⟩
theorem c8M(T:LT Pt H)(k:c1O K Ck H p kt kg z L past pa lo)(lf:Sq Pt p pa H H'):zp (λb=>b=p\/b=Pt\/b=pa) H H':=by
 obtain⟨dx,ta,wa,pv,hp,_,jt,_⟩:=k.ex;refine⟨λb u n q=>lf b u (λz=>n (.inl z)) (λz=>n (.inr (.inl z))) (λz=>n (.inr (.inr z))) q,λx hx=>?_⟩;rcases hx with rfl|rfl|rfl
 ·exact Sn hp
 ·exact Pd T
 ·exact S3 jt
theorem d0W(T:LT Pt H)(M:nv ag H)(ne:ag≠Pt)(k:c1O K Ck H p kt kg z L past pa lo)(lf:Sq Pt p pa H H'):nv ag H':=by
 obtain⟨dx,ta,wa,pv,hp,_,jt,_⟩:=k.ex;rcases M with e|⟨c,e1,e2⟩
 ·exact .inl (lf _ _ (J7 e hp nofun) ne (J7 e jt nofun) e)
 ·exact .inr ⟨c,lf _ _ (J7 e1 hp nofun) ne (J7 e1 jt nofun) e1,lf _ _ (J7 e2 hp nofun) (T.ne e2 nofun) (J7 e2 jt nofun) e2⟩
abbrev c7B(hs:List i8)(i:Nat):List (List i8):=(aW i).map λj=>hs.take j
theorem c8k hs i:c7B hs (i+1)=c7B hs i++[hs.take i]:=by
 unfold c7B;rw[pE,bQ];rfl
inductive b6r(K:aF)(Pt ag:aA)(vs:List V)(H:Hp)(Q:VK)(z3_:XK):Prop|mk:∀(a:aA)(ns:List Int),vs=[.ref a]->ah K H a (ns.map V.int)->ns.length<=63->LT Pt H->nv ag H->ag≠Pt->(∀H',Q (.bl true) H')->b6r K Pt ag vs H Q z3_
theorem b7G{CR}(F:Aj K "law" M1 f fd)(T:v8 mg)(aw:TK K Ck)(BX:TD K cx)(W:DW9 K Pt ag cB cH cM kA kD FA)(MK_:d0Z P w K mg base Ck fk_ dk)(MD_:G5 P w K mg base (n+1) cx CT fi di)(Cc_:c7g P w K mg base (W2 P w) (n+2) Ck "come" ["self","house"] (c7y K Ck cB cM Pt) fc dc)(Cs:Yp P w K mg base (W2 P w) (n+2) cx "say" ["self","row"] (Yr K cx CL CR kA kD FA) fs ds)(C:Calls P w K mg base (n+2) Ck cx Pt ag a1 a2 a3 a4 a5 a6 d1 d2 d3 d4 d5 d6) :
  bf P w K mg base J8 (n+3) f fd ["script"] (b6r K Pt ag):=by
 refine F.oa eu λay A outer s H vs Q E hr h=>?_
 obtain⟨a,ns,rfl,hS,h63,L,M,ne,q⟩:=h;refine⟨_,(c1p T aw BX MK_ MD_ Cc_ Cs C hr).2,?_⟩;refine⟨_,rfl,a,ns,0,5,40,rfl,hS,by decide,by decide,by decide,by decide,λbl G1_ xs hs kt kg e1 hbl1 HM hn1 hn5 ij wx Ja wy hG=>?_⟩;have xl:xs.length=hs.length:=dE HM;have hG9:∀g∈hs,HG (10^9) kt kg g:=λg hg=>⟨(hG g hg).lt,(hG g hg).lg,λx hx=>⟨((hG g hg).t x hx).1,xA ((hG g hg).t x hx).2 (by decide)⟩,λx hx=>⟨((hG g hg).g x hx).1,xA ((hG g hg).g x hx).2 (by decide)⟩,(hG g hg).p⟩;have hS1:=e1.seq hS;refine⟨λau H'=>∃z,au=[some (.ref a),some (.ref bl),some (.str z),none,none,none,none,none,none,none]/\af G1_ H'/\O4 z,?_,?_⟩
 ·refine⟨(by show 4<=sizeLine;decide),λl4 Od=>?_⟩
  have s4:=af.new Od (.lst [V.str "any",V.str "one",V.str "less",V.str "more"]);refine⟨_,rfl,a,ns,2,rfl,s4.seq hS1,by decide,λc2=>?_⟩;refine⟨c2,1,1000,rfl,by decide,by decide,by decide,λpk H2 ps e2 Fv ld bd=>?_⟩;refine⟨pk,_,_,_,rfl,rfl,ah.of Fv,d0w (j:=0) (by lia),_,_,rfl,rfl,(by show(0:Int)<4;decide),?_⟩;obtain⟨k,ek,hk⟩:∃k:Nat,ps.getD 0 0%4=(k:Int)/\k<4:=⟨(ps.getD 0 0%4).toNat,by lia,by lia⟩;obtain⟨z,hzk,hz⟩:=d0k hk;refine⟨l4,_,(k:Int),.str z,rfl,congrArg V.int ek,ah.of (e2 _ _ ae),A2 hzk,z,rfl,s4.trans e2,hz⟩
 rintro _ G2_ ⟨z,rfl,e2,hz⟩;have hbl2:=e2 _ _ hbl1;have hB2:=Bk.same e2 HM;have LL:=e2.seq hS1;have ft:Fit z kt kg:=⟨hz,ij,wx,wy⟩;obtain⟨h0,Ky⟩:∃h,hs[0]?=some h:=⟨_,aS (by lia)⟩;obtain⟨x0,Hl⟩:∃x,xs[0]?=some x:=⟨_,aS (by lia)⟩;have gh0:=hG9 h0 (bK Ky);refine⟨λau H'=>Ev3 λkp kpa lo=>au=[some (.ref a),some (.ref bl),some (.str z),some (.ref kp),none,none,none,none,none,none]/\af G2_ H'/\G2_ kp=none/\G2_ kpa=none/\c1O K Ck H' kp kt kg z ([],[]) [] kpa lo,?_,?_⟩
 ·obtain⟨GC,yq,⟨b,tb,gb,rfl,p1,p2,p3⟩⟩:=aZ.at hB2 Hl
  rw[Ky] at yq;cases yq;refine⟨_,rfl,bl,_,_,_,rfl,rfl,ah.of hbl2,A2 (j:=0) Hl,b,_,_,_,rfl,rfl,p1,Oz _ _,tb,_,rfl,.inr p2,_,rfl,bl,_,_,_,rfl,rfl,ah.of hbl2,A2 (j:=0) Hl,b,_,_,_,rfl,rfl,p1,Mj _ _,gb,_,rfl,.inr p3,_,rfl,?_⟩;dsimp only[yb];rw[aH,aH,gh0.lt,gh0.lg];exact made (Q:=λv H2=>N7 3 v [some (.ref a),some (.ref bl),some (.str z),none,none,none,none,none,none,none] H2 λau H'=>Ev3 λkp kpa lo=>au=[some (.ref a),some (.ref bl),some (.str z),some (.ref kp),none,none,none,none,none,none]/\af G2_ H'/\G2_ kp=none/\G2_ kpa=none/\c1O K Ck H' kp kt kg z ([],[]) [] kpa lo) λkp kpa lo H3 e3 h1 h2 h3 gm=>⟨kp,kpa,lo,rfl,e3,h1,h2,gm⟩
 rintro _ G3_ ⟨kp,kpa,Jq,rfl,e3,kp0,kpa0,KP3⟩;have L3:=((L.same e1).same e2).same e3;have hbl3:=e3 _ _ hbl2;have hB3:=Bk.same e3 hB2;have XW:=e3.seq LL;have nbp:bl≠kp:=i7 hbl2 kp0;have nba:bl≠kpa:=i7 hbl2 kpa0;have ui:hs.length<=16:=by lia
 refine⟨λau H'=>Ev2 λo4_ lo=>au=[some (.ref a),some (.ref bl),some (.str z),some (.ref kp),o4_,none,none,none,none,none]/\Sq Pt kp kpa G3_ H'/\LT Pt H'/\nv ag H'/\KpS K Ck H' kp kt kg z (hs,c7B hs hs.length) kpa lo/\OkS z kt kg (hs,c7B hs hs.length),?_,?_⟩
 ·refine⟨_,rfl,bl,rfl,⟨_,ah.of hbl3⟩,?_⟩
  refine a7j (xs:=xs) (λi σ H'=>Ev2 λo4_ lo=>σ=[some (.ref a),some (.ref bl),some (.str z),some (.ref kp),o4_,none,none,none,none,none]/\Sq Pt kp kpa G3_ H'/\LT Pt H'/\nv ag H'/\KpS K Ck H' kp kt kg z (hs.take i,c7B hs i) kpa lo/\OkS z kt kg (hs.take i,c7B hs i)) ⟨_,Jq,rfl,λb u _ _ _ h=>h,L3,((M.same e1).same e2).same e3,?_,?_⟩ (λi σ H' _ ⟨_,_,_,lf,_⟩=>ah.of (lf bl _ nbp (L3.ne hbl3 nofun) nba hbl3)) ?_ ?_
  ·show c1O K Ck G3_ kp kt kg z (([]:List i8),shq z kt kg []) [] kpa Jq
   rw[c9A];exact KP3
  ·intro g hg
   have:g=[]:=by simpa using hg
   subst this;exact⟨by decide,nofun,by rw[c9A];rfl⟩
  rotate_left
  ·rintro σ H' ⟨o4_,lo,rfl,lf,T',M'_,gm,ok⟩
   rw[xl,fZ (aT _)] at gm ok;exact⟨o4_,lo,rfl,lf,T',M'_,gm,ok⟩
  rintro i v σ H4 hv ⟨o4_,lo,rfl,Y',T4_,M4_,KP4,ok4⟩;obtain⟨h,hh,OC⟩:=aZ.at hB3 hv;have nj:i<hs.length:=(cA.mp hh).1;have hHS4:=OC.jw (c8M L3 KP3 Y');have gh:=hG9 h (bK hh);have gk:=c7P gh (dL _);obtain⟨dx,ta,wa,pv4,Mc,_,hpa4,_⟩:=KP4.ex;have okt:=ok4 (hs.take i) (eL _ (.head _));have tkl:(hs.take i).length=i:=by rw[cI];lia
  refine⟨_,rfl,kp,dx,_,rfl,Mc,rfl,_,rfl,?_⟩;refine⟨kp,kpa,v,h,kt,kg,z,lv z kt kg (hs.take i),_,lo,rfl,KP4,ft,hHS4,⟨by rw[gh.lt];lia,by rw[gh.lg];lia⟩,okt.g,okt.m,okt.l,by rw[aH];simp;lia,T4_,λ_ _ H5 ha wa' r cl u qs x KP5 SD h1 h2 lf5 T5_ _ _ _ _ _ _ _=>?_,λbad=>absurd gk bad,λ_ bad=>absurd bad (by show ¬16<=(hs.take i).length;lia)⟩;have tks:hs.take (i+1)=hs.take i++[h]:=by rw[rC,hh];rfl
  have sh':Shs z (hs.take i++[h]) kt kg (qs++[x]):=SD;have gall:∀g∈hs.take i++[h],HG (10^9) kt kg g:=λg hg=>by
   rw[<-tks] at hg;exact hG9 g (fV hg)
  have e5:(hs.take i++[h],qs++[x])=lv z kt kg (hs.take i++[h]):=by rw[sh'.q hz gall];rfl
  have okn:=(d0t hz (by rw[<-tks,cI];lia) gall sh').2;refine⟨_,ha::wa'::lo,rfl,λb u n1 n2 n3 hb=>lf5 b u n1 n2 n3 (Y' b u n1 n2 n3 hb),T5_,d0W T4_ M4_ ne KP4 lf5,?_,?_⟩
  ·rw[tks,c8k]
   show c1O K Ck H5 kp kt kg z (lv z kt kg (hs.take i++[h])) ((c7B hs i++[hs.take i]).map (lv z kt kg)) kpa _
   rw[bQ,<-e5];exact KP5
  ·rw[tks,c8k]
   exact c8J ok4 okn
 rintro _ G4_ ⟨o4_,lo4,rfl,Y',L4,M4_,KP4,ok4⟩;have hbl4:=Y' bl _ nbp (L3.ne hbl3 nofun) nba hbl3;have hB4:=Bk.jw (c8M L3 KP3 Y') hB3;have XX:ah K G4_ a (ns.map V.int):=c9s (λu nt hu=>Y' a u (i7 hu kp0) (L3.ne (e3 _ _ hu) nt) (i7 hu kpa0) (e3 _ _ hu)) LL;obtain⟨o,ho⟩:∃o:Kq_,o=⟨kp,kpa,kt,kg,z⟩:=⟨_,rfl⟩;have obs:kd kt kg hs:=⟨hn1,ui,hG9,ij,wx,wy⟩;have isb:gz hs:=⟨⟨hn1,ui⟩,h0,Ky,⟨⟨by rw[gh0.lt];lia,by rw[gh0.lt];lia⟩,⟨by rw[gh0.lg];lia,by rw[gh0.lg];lia⟩,by rw[gh0.lt,gh0.lg];exact c7P gh0 (dL _)⟩,λh hh=>by rw[gh0.lt,gh0.lg];exact c7P (hG9 h hh) (dL _)⟩;have smh:∀h∈hs,Sm h.1/\Sm h.2:=λh hh=>Sw (hG9 h hh) (dL _) wx wy;have anyh:∀h∈hs,jg h:=λh hh=>⟨⟨by rw[(hG9 h hh).lt];lia,by rw[(hG9 h hh).lt];lia⟩,⟨by rw[(hG9 h hh).lg];lia,by rw[(hG9 h hh).lg];lia⟩,by rw[(hG9 h hh).lt,(hG9 h hh).lg];exact c7P (hG9 h hh) (dL _)⟩;refine⟨λau H'=>Ev2 λd da=>au=[some (.ref a),some (.ref bl),some (.str z),some (.ref kp),o4_,some (.ref d),none,none,none,none]/\af G4_ H'/\G4_ d=none/\G4_ da=none/\ml K Ck cx Pt ag H' o d da (hs,c7B hs hs.length) (hs,"any") [],?_,?_⟩
 ·refine⟨_,rfl,bl,xs,hs,rfl,ah.of hbl4,hB4,by lia,smh,λG5_ e5=>?_⟩
  refine λx dx hx WG nd=>?_;have sx:∀b u,G5_ b=some u->(upd (upd G5_ dx (.own x)) x (.ins cx dx [])) b=some u:=λb u q0=>by rw[j3 (i7 q0 hx),j3 (i7 q0 WG)];exact q0
  have er:=a7U isb;have asc:J6 (Ey hs):=Tx.se (by decide) λp hp=>by
   obtain⟨g,hg,rfl⟩:=aY.mp hp;exact a5l (anyh g hg).pos
  refine⟨x,dx,_,rfl,ae,asc,?_,λe=>(by rw[er] at e;cases e),λdt e H6 pa lo DK k f1 f2=>?_⟩
  ·exact c9W ui smh
  rw[er] at e;cases e;have e6:af G5_ H6:=λb u q0=>k b u (i7 q0 hx) (sx b u q0);have e46:=e5.trans e6;have KW:∀{b u},G4_ b=some u->(upd (upd G5_ dx (.own x)) x (.ins cx dx [])) b=none->False:=λq0 q1=>by rw[sx _ _ (e5 _ _ q0)] at q1;cases q1
  obtain⟨dx4,ta4,wa4,pv4,Mc,_,hpa4,_⟩:=KP4.ex;have hx4:G4_ x=none:=e5.free hx;have hda4:G4_ pa=none:=by
   cases hq:G4_ pa with
   |none=>rfl
   |some u=>exact(KW hq f1).elim
  subst ho;refine⟨rfl,x,pa,rfl,e46,hx4,hda4,L4.same e46,M4_.same e46,⟨lo4,KP4.same e46,λhm=>?_⟩,ok4,⟨lo,DK,λhm=>KW hpa4 (f2 _ hm)⟩,λz0=>?_,λz0=>?_,ne⟩
  ·obtain⟨ys,Wu⟩:=KP4.ls _ hm
   rw[hda4] at Wu;cases Wu
  ·have z1:x=kp:=z0
   subst z1;rw[Mc] at hx4;cases hx4
  ·have z1:pa=kpa:=z0
   subst z1;rw[hpa4] at hda4;cases hda4
 rintro _ G5_ ⟨d,da,rfl,e5,NX,hda0,s5⟩;have kpe:kp=o.p:=by rw[ho]
 have kpae:kpa=o.pa:=by rw[ho]
 have Kr:o.kt=kt:=by rw[ho]
 have Ks:o.kg=kg:=by rw[ho]
 have hzz:o.z=z:=by rw[ho]
 subst kpe kpae Kr Ks hzz
 clear ho
 have hbl5:=e5 _ _ hbl4;have hB5:=Bk.same e5 hB4;have offb:Off Pt ag o d da bl:=⟨nbp,nba,i7 hbl4 NX,i7 hbl4 hda0,L4.ne hbl4 nofun,M4_.ne hbl4 nofun⟩;have ok9:Ok9 o.kt o.kg hs:=⟨obs,by lia⟩;refine⟨λau H'=>au=[some (.ref a),some (.ref bl),some (.str o.z),some (.ref o.p),o4_,some (.ref d),none,none,none,none]/\dj Pt ag o d da G5_ H'/\c7h K Ck cx Pt ag H' o d da hs (c7B hs hs.length) hs [],?_,?_⟩
 ·obtain⟨mv,ba2,hd⟩:=s5.dp
  obtain⟨lo,wt,hn⟩:=s5.df_;refine⟨_,rfl,d,mv,_,rfl,hd,rfl,_,rfl,_,_,rfl,rfl,?_,?_⟩
  ·have a1:(("sizes ":aC):S).length=6:=by decide +kernel
   have a2:(o.z:S).length<=4:=by rcases hz with e|e|e|e<;>rw[e]<;>decide +kernel
   rw[bE,a1];lia
  refine d0c wt (by decide) (d1C hz) W.ns W.ws s5.T s5.M λH6 lo' D lf T6_ M6_ sub=>?_;have s6:=s5.said hn D sub lf T6_ M6_ wt;exact⟨rfl,dj.rd lf,(by unfold c7h;rw[fP];exact s6)⟩
 rintro _ G6_ ⟨rfl,lf6,s6⟩;have hbl6:=lf6.get offb hbl5;have hB6:Bk K G6_ xs hs:=aZ.imp' (λ_ _ r=>s5.hs lf6 r) hB5;have hS6:ah K G6_ a (ns.map V.int):=c9s (λu nt hu=>by
  have h4:=Y' a u (i7 hu kp0) (L3.ne (e3 _ _ hu) nt) (i7 hu kpa0) (e3 _ _ hu);exact lf6 a u (i7 hu kp0) (i7 hu kpa0) (i7 h4 NX) (i7 h4 hda0) (L4.ne h4 nt) (M4_.ne h4 nt) (e5 _ _ h4)) LL
 clear hbl1 HM hbl2 hB2 hbl3 hB3 hbl4 hB4 hS1 LL XX KP4 ok4 s5 hbl5 hB5
 refine⟨_,rfl,a,ns,3,rfl,hS6,by decide,λc0=>?_⟩;refine⟨(by show 1<=sizeLine;decide),λl1 Aw=>?_⟩;have v1:=af.new Aw (.lst [V.int c0]);refine⟨_,rfl,_,rfl,_,rfl,a,_,rfl,v1.seq hS6,λl2 j_=>?_⟩;have v2:=af.new j_ (.lst (P5 (ns.map V.int) (some 4) (some 17)));have clen:(P5 (ns.map V.int) (some 4) (some 17)).length<=63:=bF (a3n _ _ _) (by rw[aH];exact h63);refine⟨l1,l2,_,_,rfl,rfl,v2 _ _ ae,ae,gQ (t9 (by simp only[eM,lD];lia)),λl3 KA=>?_⟩;have v3:=af.new KA (.lst ([V.int c0]++P5 (ns.map V.int) (some 4) (some 17)));have v13:=v1.trans (v2.trans v3);have s7:=s6.same v13;have hbl7:=v13 _ _ hbl6;have hB7:=Bk.same v13 hB6;have hl30:G6_ l3=none:=(v1.trans v2).free KA;have hl3':(upd (upd (upd G6_ l1 (.lst [V.int c0])) l2 (.lst (P5 (ns.map V.int) (some 4) (some 17)))) l3 (.lst ([V.int c0]++P5 (ns.map V.int) (some 4) (some 17)))) l3=some (.lst ([V.int c0]++P5 (ns.map V.int) (some 4) (some 17))):=ae;generalize upd (upd (upd G6_ l1 (.lst [V.int c0])) l2 (.lst (P5 (ns.map V.int) (some 4) (some 17)))) l3 (.lst ([V.int c0]++P5 (ns.map V.int) (some 4) (some 17)))=G7_ at *;have cint:∀x∈[V.int c0]++P5 (ns.map V.int) (some 4) (some 17),∃k,x=.int k:=λx hx=>by
  rcases bJ.mp hx with q'|q'
  ·exact⟨c0,cJ.mp q'⟩
  ·exact d0V q'
 have csl:([V.int c0]++P5 (ns.map V.int) (some 4) (some 17)).length<=64:=by rw[aX,fR];lia
 generalize [V.int c0]++P5 (ns.map V.int) (some 4) (some 17)=cs at *;have offl:Off Pt ag o d da l3:=s6.offN hl30 s7.T s7.M hl3';refine⟨l3,rfl,⟨_,ah.of hl3'⟩,?_⟩;refine a7j (xs:=cs) (λi σ H'=>Ev6 λo4_ o7 o8 o9 dt hi=>σ=[some (.ref a),some (.ref bl),some (.str o.z),some (.ref o.p),o4_,some (.ref d),some (.int ((hi:List (List i8)).length:Int)),o7,o8,o9]/\dj Pt ag o d da G7_ H'/\c7h K Ck cx Pt ag H' o d da hs (c7B hs hs.length) dt hi/\Ok9 o.kt o.kg dt/\(∀l∈hi,Ok9 o.kt o.kg l)/\hi.length<=i)
  ⟨_,_,_,_,hs,[],rfl,dj.same (af.refl _),s7,ok9,nofun,aT _⟩ (λi σ H' _ ⟨_,_,_,_,_,_,_,lf,_⟩=>ah.of (lf.get offl hl3')) ?_ ?_
 rotate_left
 ·intro σ H4 _
  exact q _
 rintro ci cv σ H2 WJ ⟨o4',o7,o8,o9,dt,hi,rfl,rd,s2,okh,okhi,nj⟩;obtain⟨ck_,rfl⟩:=cint _ (bK WJ);have cil:ci<cs.length:=(cA.mp WJ).1;have hbl2':=rd.get offb hbl7;have hB2':Bk K H2 xs hs:=aZ.imp' (λ_ _ r=>s7.hs rd r) hB7;obtain⟨GC,yq,⟨b,tb,gb,rfl,p1,p2,p3⟩⟩:=aZ.at hB2' Hl;rw[Ky] at yq;cases yq;have lt0:(h0.1.map V.int).length=o.kt:=by rw[aH];exact gh0.lt
 have lg0:(h0.2.map V.int).length=o.kg:=by rw[aH];exact gh0.lg
 refine⟨_,rfl,ck_,12,1000,rfl,by decide,by decide,by decide,λpk H3 ps e3' Fv ld bd=>?_⟩;refine⟨λau H'=>∃ta,au=[some (.ref a),some (.ref bl),some (.str o.z),some (.ref o.p),o4',some (.ref d),some (.int (hi.length:Int)),some (.int ck_),some (.ref pk),some (.ref ta)]/\af H3 H'/\H' ta=some (.tup ((drH ps o.kt o.kg).1.map V.int)),?_,?_⟩
 ·refine⟨_,rfl,_,rfl,_,rfl,bl,_,_,_,rfl,rfl,ah.of (e3' _ _ hbl2'),A2 (j:=0) Hl,b,_,_,_,rfl,rfl,e3'.cm p1,Oz _ _,tb,_,rfl,.inr (e3'.cm p2),_,_,rfl,rfl,?_⟩
  refine⟨_,rfl,pk,_,rfl,ah.of Fv,λl4 Od=>?_⟩;rw[lt0,show P5 (ps.map V.int) (some 2) (some (2+(o.kt:Int)))=_ from d1a (j:=2) (k:=o.kt) (by lia)];have s4:=af.new Od (.lst (((ps.drop 2).take o.kt).map V.int));refine⟨l4,rfl,⟨_,ah.of ae⟩,λl5_ hl5=>?_⟩;refine O9 (xs:=((ps.drop 2).take o.kt).map V.int) (A3 (ah.of ae)) hl5 (by rw[aH];exact t9 (by rw[cI];lia)) drV (λi x H5 N hx e5 hN=>?_) ?_
  ·obtain⟨k,rfl⟩:=c9f hx
   exact⟨Wk.set (by decide),_,rfl,_,_,rfl,rfl,(by show(0:Int)<30;decide),_,_,rfl,rfl,hN⟩
  ·rw[c9l]
   have s5:=af.new hl5 (.lst ((((ps.drop 2).take o.kt).map λd=>1+d%30).map V.int));refine⟨l5_,_,rfl,.inl ⟨ah.of ae,λta GO=>?_⟩⟩;exact⟨ta,rfl,s4.trans (s5.trans (af.new GO _)),ae⟩
 rintro _ H4 ⟨ta,rfl,e4,GO⟩;have e24:=e3'.trans e4;refine⟨λau H'=>∃hv,au=[some (.ref a),some (.ref bl),some (.str o.z),some (.ref o.p),some hv,some (.ref d),some (.int (hi.length:Int)),some (.int ck_),some (.ref pk),some (.ref ta)]/\af H4 H'/\HS K H' hv (drH ps o.kt o.kg),?_,?_⟩
 ·refine⟨_,rfl,_,rfl,_,rfl,_,rfl,bl,_,_,_,rfl,rfl,ah.of (e24 _ _ hbl2'),A2 (j:=0) Hl,b,_,_,_,rfl,rfl,e24.cm p1,Mj _ _,gb,_,rfl,.inr (e24.cm p3),_,_,rfl,rfl,?_⟩
  refine⟨_,rfl,pk,_,rfl,ah.of (e4 _ _ Fv),λl4 Od=>?_⟩;rw[lg0,show P5 (ps.map V.int) (some 6) (some (6+(o.kg:Int)))=_ from d1a (j:=6) (k:=o.kg) (by lia)];have s4:=af.new Od (.lst (((ps.drop 6).take o.kg).map V.int));refine⟨l4,rfl,⟨_,ah.of ae⟩,λl5_ hl5=>?_⟩;refine O9 (xs:=((ps.drop 6).take o.kg).map V.int) (A3 (ah.of ae)) hl5 (by rw[aH];exact t9 (by rw[cI];lia)) drV (λi x H5 N hx e5 hN=>?_) ?_
  ·obtain⟨k,rfl⟩:=c9f hx
   exact⟨Wk.set (by decide),_,rfl,_,_,rfl,rfl,(by show(0:Int)<30;decide),_,_,rfl,rfl,hN⟩
  ·rw[c9l]
   have s5:=af.new hl5 (.lst ((((ps.drop 6).take o.kg).map λd=>1+d%30).map V.int));refine⟨l5_,_,rfl,.inl ⟨ah.of ae,λga Av=>?_⟩⟩;have s6':=af.new Av (.tup ((((ps.drop 6).take o.kg).map λd=>1+d%30).map V.int));refine⟨(by show 2<=sizeLine;decide),λhv hhv=>?_⟩;have s7':=af.new hhv (.tup [V.ref ta,V.ref ga]);have s47:=s4.trans (s5.trans (s6'.trans s7'));exact⟨.ref hv,rfl,s47,hv,ta,ga,rfl,cq.of ae,cq.of (s47 _ _ GO),cq.of (s7' _ _ ae)⟩
 rintro _ H5 ⟨hv,rfl,e5',OC⟩;have e25:=e24.trans e5';have hpk5:=e5' _ _ (e4 _ _ Fv);have s5':=s2.same e25;have wr:WrH o.kt o.kg (drH ps o.kt o.kg):=d2c ld ij wx Ja wy;refine⟨λau H'=>Ev2 λII hi2=>au=[some (.ref a),some (.ref bl),some (.str o.z),some (.ref o.p),some hv,some (.ref d),some (.int ((hi2:List (List i8)).length:Int)),some (.int ck_),some (.ref pk),some (.ref ta)]/\dj Pt ag o d da H2 H'/\c7h K Ck cx Pt ag H' o d da hs (c7B hs hs.length) II hi2/\Ok9 o.kt o.kg II/\(∀l∈hi2,Ok9 o.kt o.kg l)/\hi2.length<=hi.length+1,?_,?_⟩
 ·refine⟨_,rfl,_,rfl,_,rfl,pk,_,_,_,rfl,rfl,ah.of hpk5,d0w (j:=0) (by lia),_,_,rfl,rfl,(by show(0:Int)<4;decide),_,rfl,pk,_,_,_,rfl,rfl,ah.of hpk5,d0w (j:=1) (by lia),_,rfl,(by show 3<=sizeLine;decide),λt ht=>?_⟩
  have st:=af.new ht (.tup [V.int (ps.getD 0 0%4),V.int (ps.getD 1 0),hv]);refine⟨_,rfl,o,d,da,t,hs,c7B hs hs.length,hi,dt,_,_,hv,_,rfl,s5'.same st,ft,okh,okhi,by simp;lia,by lia,ae,OC.same st,wr,λH6 II hi2 s6' lf6' ok2 okhi2 l2=>?_⟩;exact⟨II,hi2,rfl,(dj.same (e25.trans st)).trans lf6',s6',ok2,okhi2,l2⟩
 rintro _ H6 ⟨II,hi2,rfl,lf6',s6',ok2,okhi2,l2'⟩;refine⟨_,rfl,_,rfl,_,rfl,o,d,da,hs,c7B hs hs.length,hi2,II,rfl,s6',ft,ok2,by lia,λH7 s7' lf7'=>⟨_,rfl,M7 ?_⟩⟩;exact⟨_,_,_,_,II,hi2,rfl,rd.trans (lf6'.trans lf7'),s7',ok2,okhi2,by lia⟩
end Rim
namespace L2
open PySem PySem.W
theorem KO(q:excIn K C B nid=true):∃nm qn N bs bm hdct sn sub ab col dd k0 k1 k2 k3 k5,K.lookup C=some (excClassObj nm qn C N bs bm hdct sn sub ab col dd k0 k1 k2 k3 k5 nid)/\nsOkIn K N=true/\nsIn K N "__init__"=some none/\tailIn K B bm=true:=by
 unfold excIn at q
 split at q
 ·rename_i e1 e2 e3 lk
  split at q
  ·rename_i C' bm w0 w1 w2 w3 nn w5 em es
   simp only[fQ,beq_iff_eq,yL] at q;obtain⟨⟨⟨⟨⟨u1,u2⟩,u3⟩,u4⟩,u5⟩,u6⟩:=q
   cases u1
   cases u2;obtain⟨n1,n2,n3,n4,n5,n6,n7,n8,n9,WU,WV⟩:=e2;obtain⟨ls⟩:=e3
   replace em:n3=_:=em
   replace u3:WV=false:=u3
   replace es:ls=_:=es
   subst em u3 es;exact⟨n1,n5,n4,n2,bm,n6,n7,n8,n9,WU,e1,w0,w1,w2,w3,w5,lk,u5,u6,u4⟩
  ·cases q
 ·cases q
def HK(K:fA)(x qual:aC)(st:aO)(f:aA)(cd:aE):Prop:=∃oc od kV dc pm an ct sl,K.lookup f=some ⟨oc,od,.func (fnOf x qual (Q4 st) (x9 st) (i9 st) .none kV dc pm an cd ct),sl⟩/\codeIn K cd qual=true/\pR K (.ref f)=true
structure ff(K:fA)(x:aC)(st:aO)(f:aA)(cd:aE):Prop where
 a:nsIn K mainGlobals x=some (some (.ref f))
 l:HK K x x st f cd
structure EA(K:fA)(C:aA)(x qual:aC)(st:aO)(f:aA)(cd:aE):Prop where
 a:iI K (.ref C) x=some (some (.ref f))
 n:isFn K (.ref f)=true
 l:HK K x qual st f cd
theorem df.b1(F:df K x qual st f fd)(h:∀kV doc pm an ay ct v0,bindArgs (fnOf x qual (Q4 st) (x9 st) (i9 st) .none kV doc pm an ay ct) ⟨[v0],[]⟩=pure [(p0,v0)]:=by intros;rfl):Binds K fd [p0] [] :=
 F.binds λa b c d e g us hl=>match us,hl with|[v0],_=>h a b c d e g v0
theorem df.b2(F:df K x qual st f fd)(h:∀kV doc pm an ay ct v0 v1,bindArgs (fnOf x qual (Q4 st) (x9 st) (i9 st) .none kV doc pm an ay ct) ⟨[v0,v1],[]⟩=pure [(p0,v0),(p1,v1)]:=by intros;rfl):Binds K fd [p0,p1] [] :=
 F.binds λa b c d e g us hl=>match us,hl with|[v0,v1],_=>h a b c d e g v0 v1
theorem df.b3(F:df K x qual st f fd)(h:∀kV doc pm an ay ct v0 v1 v2,bindArgs (fnOf x qual (Q4 st) (x9 st) (i9 st) .none kV doc pm an ay ct) ⟨[v0,v1,v2],[]⟩=pure [(p0,v0),(p1,v1),(p2,v2)]:=by intros;rfl):Binds K fd [p0,p1,p2] [] :=
 F.binds λa b c d e g us hl=>match us,hl with|[v0,v1,v2],_=>h a b c d e g v0 v1 v2
theorem df.b4(F:df K x qual st f fd)(h:∀kV doc pm an ay ct v0 v1 v2 v3,bindArgs (fnOf x qual (Q4 st) (x9 st) (i9 st) .none kV doc pm an ay ct) ⟨[v0,v1,v2,v3],[]⟩=pure [(p0,v0),(p1,v1),(p2,v2),(p3,v3)]:=by intros;rfl):Binds K fd [p0,p1,p2,p3] [] :=
 F.binds λa b c d e g us hl=>match us,hl with|[v0,v1,v2,v3],_=>h a b c d e g v0 v1 v2 v3
theorem df.b5(F:df K x qual st f fd)(h:∀kV doc pm an ay ct v0 v1 v2 v3 v4,bindArgs (fnOf x qual (Q4 st) (x9 st) (i9 st) .none kV doc pm an ay ct) ⟨[v0,v1,v2,v3,v4],[]⟩=pure [(p0,v0),(p1,v1),(p2,v2),(p3,v3),(p4,v4)]:=by intros;rfl):Binds K fd [p0,p1,p2,p3,p4] [] :=
 F.binds λa b c d e g us hl=>match us,hl with|[v0,v1,v2,v3,v4],_=>h a b c d e g v0 v1 v2 v3 v4
structure b9(K:fA)(mg:aC->Option aE)(x:aC)(st:aO)(f:aA)(fd:aK):Prop where
 F:df K x x st f fd
 m:mg x=some (.ref f)
def fnJ{kV}(X:K.In h)(G:h.Ns mainGlobals mg)(a:nsIn K mainGlobals x=some (some (.ref f)))(l:K.lookup f=some ⟨oc,od,.func (fnOf x x (Q4 st) (x9 st) (i9 st) .none kV dc pm an cd ct),sl⟩)(c:codeIn K cd x=true)(k:pR K (.ref f)=true):b9 K mg x st f (fnOf x x (Q4 st) (x9 st) (i9 st) .none kV dc pm an cd ct):=⟨b2i l c k,mg_of X G a⟩
structure k6(K:fA)(C:aA)(x qual:aC)(st:aO)(f:aA)(fd:aK):Prop where
 F:df K x qual st f fd
 me:Ly K C x f
def meJ{kV}(a:iI K (.ref C) x=some (some (.ref f)))(n:isFn K (.ref f)=true)(l:K.lookup f=some ⟨oc,od,.func (fnOf x qual (Q4 st) (x9 st) (i9 st) .none kV dc pm an cd ct),sl⟩)(c:codeIn K cd qual=true)(k:pR K (.ref f)=true):k6 K C x qual st f (fnOf x qual (Q4 st) (x9 st) (i9 st) .none kV dc pm an cd ct):=⟨b2i l c k,a,n,k⟩
def exK(o:excIn K c [.type "ValueError",.type "Exception",.type "BaseException",.type "object"] "ValueError.__new__"=true)(ga:iI K (.ref c) "__getattribute__"=some (some (.builtin "BaseException.__getattribute__")))(gn:iI K (.ref c) "__getattr__"=some none)(ca:iI K (.ref c) "__class__"=some (some (.builtin "object.__class__")))(mo:gW K c (.type "object")=some true)(mb:gW K c (.type "BaseException")=some true):X4 K c:=⟨KO o,ga,gn,ca,mo,mb⟩
structure k7(K:fA)(mg:aC->Option aE)(x:aC)(c:aA):Prop where
 m:mg x=some (.ref c)
 k:X4 K c
theorem tpJ(l:K.lookup t=some ⟨.type "tuple",od,.seq vs n,sl⟩)(hs:vs.size<=9)(hv:Vals xs vs.toList)H:cq K H t xs:=.inr ⟨_,_,_,l,rfl,rfl,bF hs (by decide),hv⟩
def kdJ(b:K.lookup d=some ⟨.type "dict",none,.dict es n,#[]⟩)(c:KeysLit Pm es.toList):Rr K Pm d:=⟨_,_,b,c⟩
def tabJ(X:K.In h)(G:h.Ns mainGlobals mg)(a:nsIn K mainGlobals x=some (some (.ref d)))(b:K.lookup d=some ⟨.type "dict",none,.dict es n,#[]⟩)(c:KeysLit Pm es.toList)(p:bR vp es.toList dz)(e:(d==sysModules)=false):KTab K Pm mg x d dz:=⟨mg_of X G a,⟨_,_,b,c,p⟩,e⟩
def sgJ(a:nsIn K d z=some (some (.ref t)))(l:K.lookup t=some ⟨.type "tuple",od,.seq vs n,sl⟩)(hs:vs.size<=9)(hv:Vals xs vs.toList):∃t,nsIn K d z=some (some (.ref t))/\∀H,cq K H t xs:=⟨_,a,tpJ l hs hv⟩
end L2
namespace Rim
open PySem L2 Fr
theorem d0K z hs:(Jg z hs).length<=hs.length:=by
 unfold Jg;refine bF (oX _ _) ?_;rw[gZ];exact aT _
theorem d0R(h:left≠[]):lev z hs (n+1) left=lvl z hs left::lev z hs n (rst z hs left):=by
 show(if left=[] then [] else _)=_
 rw[if_neg h]
theorem c9g{k:Nat}:∀{l},Hi (.int (k:Int)) (o6 l)=l.contains k
 |[]=>rfl
 |a::r=>by
  have:=c9g (k:=k) (l:=r);unfold Hi at *
  show(((V.int (a:Int))::o6 r).any λy=>GB y (V.int (k:Int)))=_
  rw[jM,this,List.contains_cons]
  congr 1
  by_cases h:k=a
  ·subst h;simp[GB]
  ·have:¬((a:Int)=(k:Int)):=by lia
   have h1:((a:Int)==(k:Int))=false:=by lia
   have h2:(k==a)=false:=by simp_all
   show((a:Int)==(k:Int))=(k==a)
   rw[h1,h2]
theorem d0L l:(o6 l).all Hh=true:=by
 rw[fE];intro x hx;obtain⟨k,_,rfl⟩:=aY.mp hx;rfl
theorem c9q(h:j<l.length):(o6 l)[j]?=some (.int ((l.getD j 0:Nat):Int)):=by
 rw[aP,aS h,bA,aS h];rfl
theorem c9o{j:Nat}(h:(o6 l)[j]?=some x):∃k,l[j]?=some k/\x=.int (k:Int):=by
 rw[aP] at h
 cases q:l[j]? with
 |none=>rw[q] at h;cases h
 |some k=>rw[q] at h;cases h;exact⟨k,rfl,rfl⟩
theorem c8R n:((aW n).map λ(i:Nat)=>V.int (0+(i:Int)))=o6 (aW n):=fM λi _=>by rw[lH]
structure d2g(z:aC)(hs:List i8)(H H':Hp)(Pt td_ la:aA)(left:List Nat)(as:List aA)(done:List (List Nat)):Prop where
 e:bj Pt H H'
 L:LT Pt H'
 tdn:H td_=none
 told:H' td_=some (.lst (as.map V.ref))
 lst:H' la=some (.lst (o6 left))
 at_:nr H' as done
 new:∀a∈as,H a=none/\a≠td_
 lt:∀k∈left,k<hs.length
 all:∃m,left.length<=m/\done++lev z hs m left=lev z hs hs.length (aW hs.length)
 few:done.length+left.length<=hs.length
theorem c9S(F:Aj K "levels" c7n f fd)(N:v8 mg)(Cr:C9 P w K mg base n "rim_of" ["book","sizes"] (RL K Pt) f1 d1):bf P w K mg base J8 (n+1) f fd ["book","sizes"] (c8g K Pt):=by
 refine F.oa scLv λay A outer s H vs Q E hr h=>?_
 obtain⟨ba,xs,hs,z,br,kt,kg,rfl,hz,B,hf,ij,L,k⟩:=h;refine⟨_,(lvT N Cr hr).2,?_⟩;have xl:=dE B.b;have few:=B.few;have Xf:=t9 (show(1000:Nat)<=1000 from aT _);refine⟨by decide,λtd_ htd=>?_⟩;have s1:=af.new htd (.lst []);refine⟨λau H'=>∃la,au=[some (.ref ba),some (.str z),some (.ref td_),some (.ref la),none]/\d2g z hs H H' Pt td_ la (aW hs.length) [] [],?_,?_⟩
 ·refine⟨_,rfl,ba,_,rfl,.inl (s1.seq B.l),_,rfl,λrg_ hrg=>⟨rg_,0,xs.length,rfl,by rw[ae,lH],by decide,by decide,by lia,λla hla=>?_⟩⟩;have t3:=(af.new hrg (.zt 0 (xs.length:Int))).trans (af.new hla (.lst ((aW xs.length).map λ(i:Nat)=>V.int (0+(i:Int)))));have s3:=s1.trans t3;refine⟨la,rfl,s3.ka,L.same s3,htd,t3 td_ _ ae,?_,⟨rfl,nofun⟩,nofun,λj hj=>fF.mp hj,⟨hs.length,by simp,rfl⟩,by simp⟩;rw[ae,c8R,xl]
 rintro σ0 H0 ⟨la,rfl,U0_⟩;refine b2G (λσ H'=>Ev5 λ(la':aA)(left:List Nat)(as:List aA)(done:List (List Nat))(o:Option V)=>σ=[some (.ref ba),some (.str z),some (.ref td_),some (.ref la'),o]/\d2g z hs H H' Pt td_ la' left as done) (c9r 3)
  ⟨la,aW hs.length,[],[],_,rfl,U0_⟩ ?_ (λσ H Q Q' hq ⟨v,h1,b,h2,q⟩=>⟨v,h1,b,h2,hq _ _ q⟩)
 rintro σ H1 ⟨la1,left,as,done,o,rfl,U⟩;refine⟨_,rfl,_,.inl ⟨_,ah.of U.lst,rfl⟩,?_⟩;have lnil:(o6 left).isEmpty=left.isEmpty:=by cases left<;>rfl
 rw[lnil]
 cases hle:left.isEmpty with
 |true =>
  have CU:left=[]:=by simpa using hle
  refine M7 ?_;obtain⟨m,_,hm⟩:=U.all;rw[CU,d1s,fP] at hm;exact⟨_,rfl,k H1 td_ as U.e U.L U.tdn U.told (by rw[<-hm];exact U.at_) λa ha=>(U.new a ha).1⟩
 |false =>
  refine J3 ?_;have mm:left≠[]:=λq=>by rw[q] at hle;cases hle
  have hll:left.length<=16:=by have:=U.few;lia
  have B1:O6 K H1 ba xs hs br kt kg:=⟨ah.fg L U.e B.l,Bk.fg L U.e B.b,B.g,B.br,B.few,B.t,B.k⟩;refine⟨λau H2=>∃pl:aA,au=[some (.ref ba),some (.str z),some (.ref td_),some (.ref la1),some (.ref pl)]/\d2g z hs H H2 Pt td_ la1 left as done/\H2 pl=some (.lst (o6 (plc z hs left))),?_,?_⟩
  ·refine⟨_,rfl,la1,rfl,⟨_,ah.of U.lst⟩,λp hp=>(O9 (A3 (ah.of U.lst)) hp (by rw[aH];lia) (λv=>xs.getD (vI v).toNat .non) (λj x H2 N2 hx e hN=>?_) ?_)⟩
   ·obtain⟨kk,hk,rfl⟩:=c9o hx
    have iw:=U.lt kk (bK hk);have hxk:xs[kk]?=some (xs.getD kk .non):=by rw[bA,aS (by lia)];rfl
    have ev:(vI (V.int (kk:Int))).toNat=kk:=by simp[vI]
    rw[ev] at hN;exact⟨Wk.set (by decide),_,rfl,_,rfl,ba,_,_,_,rfl,rfl,e.seq B1.l,A2 hxk,hN⟩
   have em:(o6 left).map (λv=>xs.getD (vI v).toNat .non)=left.map λk=>xs.getD k .non:=by
    rw[bC];refine fM λj _=>?_
    show xs.getD (vI (V.int (j:Int))).toNat .non=_
    rw[show(vI (V.int (j:Int))).toNat=j by simp[vI]]
   rw[em];have s4:=af.new hp (.lst (left.map λk=>xs.getD k .non));refine⟨_,rfl,p,_,d0f hs left,z,br,kt,kg,rfl,hz,d0n ⟨s4.seq B1.l,Bk.same s4 B1.b,B.g,B.br,B.few,B.t,B.k⟩ U.lt hll ae,hf,U.L.same s4,λH2 r e2 LX hrn MB=>?_⟩;have Oy:bj Pt H1 H2:=s4.ka.trans e2;refine⟨r,rfl,⟨U.e.trans Oy,LX,U.tdn,Oy.get U.L U.told nofun,Oy.get U.L U.lst nofun,⟨U.at_.1,λj a l ha hl=>Oy.get U.L (U.at_.2 j a l ha hl) nofun⟩,U.new,U.lt,U.all,U.few⟩,MB⟩
  rintro Eg H2 ⟨pl,rfl,U2_,wb⟩;have lp:(plc z hs left).length<=16:=by
   have:=d0K z (d0f hs left);rw[aH] at this;exact bF this hll
  refine⟨λau H3=>∃a:aA,au=[some (.ref ba),some (.str z),some (.ref td_),some (.ref la1),some (.ref pl)]/\bj Pt H H3/\LT Pt H3/\H3 td_=some (.lst ((as++[a]).map V.ref))/\H3 la1=some (.lst (o6 left))/\H3 pl=some (.lst (o6 (plc z hs left)))/\nr H3 (as++[a]) (done++[lvl z hs left])/\H a=none/\a≠td_,?_,?_⟩
  ·refine⟨_,rfl,.inl ⟨rfl,_,ah.of U2_.told⟩,_,rfl,pl,rfl,⟨_,ah.of wb⟩,λp hp=>(O9 (A3 (ah.of wb)) hp (by rw[aH];lia) (λv=>.int ((left.getD (vI v).toNat 0:Nat):Int)) (λj x H3 N2 hx e hN=>?_) ?_)⟩
   ·obtain⟨kk,hk,rfl⟩:=c9o hx
    have ev:(vI (V.int (kk:Int))).toNat=kk:=by simp[vI]
    rw[ev] at hN;exact⟨Wk.set (by decide),_,rfl,_,rfl,la1,_,_,_,rfl,rfl,ah.of (e _ _ U2_.lst),A2 (c9q (c8Z (bK hk))),hN⟩
   have em:(o6 (plc z hs left)).map (λv=>V.int ((left.getD (vI v).toNat 0:Nat):Int))=o6 (lvl z hs left):=by
    unfold lvl o6;rw[bC,bC];refine fM λj _=>?_
    show V.int ((left.getD (vI (V.int (j:Int))).toNat 0:Nat):Int)=V.int ((left.getD j 0:Nat):Int)
    rw[show(vI (V.int (j:Int))).toNat=j by simp[vI]]
   rw[em];have s4:=af.new hp (.lst (o6 (lvl z hs left)));have ntd:p≠td_:=λq=>by rw[q,U2_.told] at hp;cases hp
   have hpH:H p=none:=by
    cases q:H p with
    |none=>rfl
    |some o =>
     exfalso
     by_cases hpP:p=Pt
     ·rw[hpP] at hp
      rcases U2_.L with w'|⟨_,w',_⟩<;>rw[w'] at hp<;>cases hp
     ·rw[U2_.e p o hpP q] at hp;cases hp
   have las:as.length<=16:=by rw[U2_.at_.1];have:=U2_.few;lia
   refine⟨td_,_,_,rfl,rfl,s4 _ _ U2_.told,by rw[aH];lia,p,rfl,(U2_.e.trans s4.ka).write U2_.tdn,(U2_.L.same s4).write (s4 _ _ U2_.told),by rw[ae,bQ];rfl,?_,?_,?_,hpH,ntd⟩
   ·have:la1≠td_:=λq=>by
     have h1:=U2_.lst;rw[q,U2_.told] at h1;have h3:as.map V.ref=o6 left:=(congrArg (λo=>match o with|some (HO.lst xs)=>xs|_=>[]) h1)
     cases left with
     |nil=>exact mm rfl
     |cons a r =>
      cases as with
      |nil=>simp at h3
      |cons b r'=>simp at h3
    rw[j3 this];exact s4 _ _ U2_.lst
   ·have:pl≠td_:=λq=>by
     have h1:=wb;rw[q,U2_.told] at h1;have h3:as.map V.ref=o6 (plc z hs left):=(congrArg (λo=>match o with|some (HO.lst xs)=>xs|_=>[]) h1);obtain⟨i,hi⟩:=c8H (z:=z) (c7S B.g U.lt) ij (by simpa using mm);have Ek:i∈plc z hs left:=hi
     cases hq:plc z hs left with
     |nil=>rw[hq] at Ek;cases Ek
     |cons a r =>
      rw[hq] at h3
      cases as with
      |nil=>simp at h3
      |cons b r'=>simp at h3
    rw[j3 this];exact s4 _ _ wb
   ·refine nr.snoc ⟨U2_.at_.1,λj a l ha hl=>?_⟩ ?_
    ·rw[j3 (U2_.new a (bK ha)).2];exact s4 _ _ (U2_.at_.2 j a l ha hl)
    ·rw[j3 ntd];exact ae
  rintro ir H3 ⟨a,rfl,e3,L3,td3',la3,pl3,at3,aN_,aT_⟩;refine⟨_,rfl,la1,rfl,⟨_,ah.of la3⟩,λp hp=>(d1I (ah.of la3) hp (by rw[aH];lia) (λj=>!(plc z hs left).contains j) (λj x H4 N2 hx e hN=>?_) (λH4 e Mc=>?_))⟩
  ·refine⟨_,rfl,_,rfl,pl,_,rfl,.inl (ah.of (e _ _ pl3)),rfl,d0L _,_,rfl,?_⟩
   rw[if_pos rfl,c9g];exact hN
  have em:((aW (o6 left).length).filter λj=>!(plc z hs left).contains j).map (λi=>(o6 left).getD i .non)=o6 (rst z hs left):=by
   unfold rst o6;rw[aH,bC];refine fM λj hj=>?_;have EN:=fF.mp (lI.mp hj).1
   show(o6 left).getD j .non=V.int ((left.getD j 0:Nat):Int)
   rw[bA,c9q EN];rfl
  rw[em] at Mc;have fk:=d2d (z:=z) B.g ij U.lt mm;refine⟨⟨p,rst z hs left,as++[a],done++[lvl z hs left],_,rfl,e3.trans e.ka,L3.same e,U.tdn,e _ _ td3',Mc,⟨at3.1,λj b l hb hl=>e _ _ (at3.2 j b l hb hl)⟩,λb hb=>?_,λj hj=>U.lt j (c9D hj),?_,?_⟩,?_⟩
  ·rcases bJ.mp hb with hb|hb
   ·exact U.new b hb
   ·rw[cJ.mp hb];exact⟨aN_,aT_⟩
  ·obtain⟨m,hm1,hm2⟩:=U.all
   cases m with
   |zero=>have:left=[]:=lM (by lia);exact absurd this mm
   |succ m =>
    refine⟨m,by lia,?_⟩;rw[d0R mm] at hm2;rw[dC];exact hm2
  ·have:=U.few
   rw[aX,fR];lia
  ·have l1:c9r 3 [some (.ref ba),some (.str z),some (.ref td_),some (.ref p),some (.ref pl)] H4=(rst z hs left).length:=by
    show(match H4 p with|some (.lst xs)=>xs.length|_=>0)=_
    rw[Mc];exact aH _
   have l2:c9r 3 [some (.ref ba),some (.str z),some (.ref td_),some (.ref la1),o] H1=left.length:=by
    show(match H1 la1 with|some (.lst xs)=>xs.length|_=>0)=_
    rw[U.lst];exact aH _
   show c9r 3 [some (.ref ba),some (.str z),some (.ref td_),some (.ref p),some (.ref pl)] H4<_
   rw[l1,l2];exact fk
theorem c1a{K:aF}{w:aL}(RG:mg "law"=some (.ref fa))
    (aK_:mg "Kept"=some (.ref CK_))
    (aD:mg "Desk"=some (.ref CD))
    (aB:mg "Board"=some (.ref CB))
    (u2:b9 K mg "read_number" Z4 f2 e2)
    (u3:b9 K mg "read_amounts" Y7 f3 e3)
    (u4:b9 K mg "is_whole" VP f4 e4)
    (u5:b9 K mg "are_amounts" Z9 f5 e5)
    (u6:b9 K mg "is_house" VQ f6 e6)
    (u7:b9 K mg "is_any_house" W9 f7 e7)
    (u8:b9 K mg "read_house" VU f8 e8)
    (u9:b9 K mg "is_book" VR f9 e9)
    (u10:b9 K mg "read_book" VV f10 GL)
    (u12:b9 K mg "house_of" VD f12 Oy)
    (u17:b9 K mg "swept" VE f17 e17)
    (u21:b9 K mg "greatest" S2 f21 e21)
    (u22:b9 K mg "house_rows" X2 f22 zf)
    (u23:b9 K mg "greatest_earned" LO f23 e23)
    (u24:b9 K mg "common_divisor" VB f24 e24)
    (u25:b9 K mg "lowest" VC f25 e25)
    (u26:b9 K mg "held_against" VF f26 zm)
    (u27:b9 K mg "share" VG f27 z9)
    (u29:b9 K mg "refuse_unfit" X7 f29 F2)
    (u30:b9 K mg "with_one_more" V0 f30 F3)
    (u31:b9 K mg "changes" c7I f31 F4)
    (u33:b9 K mg "read_thing" VW f33 F8)
    (u34:b9 K mg "read_row" S7 f34 F9)
    (u36:b9 K mg "fraction_text" V1 f36 e36)
    (u37:b9 K mg "tell_share" VX f37 e37)
    (u38:b9 K mg "numbers_text" Y1 f38 e38)
    (u39:b9 K mg "house_text" VS f39 e39)
    (u40:b9 K mg "book_text" VT f40 e40)
    (u41:b9 K mg "tell_book" V' f41 e41)
    (u42:b9 K mg "scale" c8v f42 e42)
    (u43:b9 K mg "tell_scale" c7e f43 e43)
    (u44:b9 K mg "greatest_floor" LQ f44 e44)
    (u45:b9 K mg "rim_of" VL f45 e45)
    (u46:b9 K mg "tell_rim" V_ f46 e46)
    (u47:b9 K mg "levels" c7n f47 e47)
    (u48:b9 K mg "tell_levels" L6 f48 e48)
    (u49:b9 K mg "without" VH SM e49)
    (u50:b9 K mg "share_of_others" VI SN e50)
    (u51:b9 K mg "over_one_bottom" l0 SQ e51)
    (u52:b9 K mg "standing" t7 f52 e52)
    (u53:b9 K mg "tell_order" c7c SR e53)
    (u54:b9 K mg "put_house" Wa f54 e54)
    (u55:b9 K mg "drop_house" Wb f55 e55)
    (u56:b9 K mg "with_another" J9 SS e56)
    (u57:b9 K mg "alter_house" R1 f57 e57)
    (u58:b9 K mg "set_sizes" Wc f58 e58)
    (u60:b9 K mg "_law_cell_at" VM SV e60)
    (u61:b9 K mg "_law_draws" VN SW e61)
    (u62:b9 K mg "_law_near" VO f62 e62)
    (u63:b9 K mg "_law_a_book" LR f63 e63)
    (u70:b9 K mg "_law_written" F5 f70 e70)
    (u71:b9 K mg "_law_done" i6 f71 e71)
    (u72:b9 K mg "_law_a_numbers" t0 f72 e72)
    (u73:b9 K mg "_law_a_alike" h8 f73 e73)
    (u74:b9 K mg "law" M1 f74 e74)
    (u1:k6 K CK_ "__init__" "Kept.__init__" D0 f1 e1)
    (u11:k6 K CD "__init__" "Desk.__init__" V3 f11 IK)
    (u13:k6 K CB "__init__" "Board.__init__" Ob f13 GR)
    (u14:k6 K CB "coming" "Board.coming" Wh f14 Ew)
    (u15:k6 K CB "is_ahead" "Board.is_ahead" Wj f15 YN)
    (u16:k6 K CB "going" "Board.going" Wi f16 HN)
    (u18:k6 K CB "exchange" "Board.exchange" W6 f18 e18)
    (u19:k6 K CB "amounts" "Board.amounts" Wl f19 n6)
    (u20:k6 K CB "weights" "Board.weights" Wm f20 e20)
    (u28:k6 K CK_ "turn_to" "Kept.turn_to" b8 f28 F1)
    (u32:k6 K CK_ "come" "Kept.come" c7l f32 F7)
    (u35:k6 K CD "take_back" "Desk.take_back" S5 f35 RI)
    (u59:k6 K CD "say" "Desk.say" S4 SU e59)
    (u64:k6 K CK_ "houses" "Kept.houses" R0 f64 e64)
    (u65:k6 K CK_ "back" "Kept.back" c7j f65 e65)
    (m9:k6 K CK_ "go" "Kept.go" c7J Zh nZ)
    (u67:k6 K CK_ "alter" "Kept.alter" c7d f67 e67)
    (u68:k6 K CK_ "shares" "Kept.shares" Q1 f68 e68)
    (u69:k6 K CK_ "rim" "Kept.rim" c7u f69 e69)
    (hc:Ew.code=.ref Ct)
    (Aq:e52.code=.ref Ct2)
    (T:v8 mg)
    (Js:TB K CB)
    (bm:nQ K CB=true)
    (bk:dX K (.ref CB)=true)
    (aw:TK K CK_)
    (km_:nQ K CK_=true)
    (kk:dX K (.ref CK_)=true)
    (BX:TD K CD)
    (ddm:nQ K CD=true)
    (ddk:dX K (.ref CD)=true)
    (Lk:KTab K w.params mg "ASKS" qx [("share",f37),("grow",gT_grow),("others",gT_others),("alone",tj),("scale",f43),("rim",f46),("levels",f48),("order",SR),("book",f41)])
    (Iz:KTab K w.params mg "DEEDS" ko [("house",f54),("drop",f55),("alter",f57),("sizes",f58)])
    (FT:Ye K w.params mg jj [("house",kq),("drop",qy),("alter",ku),("sizes",ky),("back",qz),("share",kz),("grow",q_),("others",jq),("alone",k_),("scale",lj),("rim",xh),("levels",jr),("order",lu),("book",rb)])
    (ZT:b3g K mg oZ)
    (CF:mg "FIGURES"=some (.str Kw tFIG))
    (zs:mg "str"=none)
    (SG:Sg K w.params mg dS)
    (eS:k7 K mg "NoHouse" a_)
    (bp:k7 K mg "NoBook" bq)
    (k8:k7 K mg "TooMany" bb)
    (bh:k7 K mg "NothingLeft" av)
    (m8:k7 K mg "NoRow" bz)
    (m6:k7 K mg "NoText" cf)
    (vf:mg "MOST_AMOUNT"=some (.int 1000000000 t_MOST_AMOUNT))
    (ju:mg "MOST_HOUSES"=some (.int 16 t_MOST_HOUSES))
    (uf:mg "MOST_FIGURES"=some (.int 10 t_MOST_FIGURES))
    (xm:mg "MOST_KINDS"=some (.int 4 t_MOST_KINDS))
    (C_NOUGHT:c8x K mg oC_NOUGHT)
   :∃fd,(∀(s:aG)(v:aE),lU s fd ⟨[v],[]⟩ [("script",v)])/\∀base:aJ,K.In base->base.Ns mainGlobals mg->QO mg base->(∀t∈[(Ct,Pt),(Ct2,Pt2)],oV base t.1 t.2)->bf P w K mg base J8 16 fa fd ["script"] (b6r K Pt Pt2):=by
  cases RG.symm.trans u74.m;refine⟨e74,λs v=>?_,λbase _ _ BM hCH=>?_⟩
  . obtain⟨_,_,_,_,_,_,_,_,_,rfl,_⟩:=u74.F.ex
    exact .of_eq rfl
  have g1 (n:Nat):=d0y (P:=P) (w:=w) (base:=base) (mg:=mg) (n:=n) u1.F aw;have g2 (n:Nat):=b3y (P:=P) (w:=w) (base:=base) (n:=n) u2.F T ⟨_,uf⟩ ⟨_,CF⟩;have g3 (n:Nat):=b2w u3.F T ⟨g2 n,u2.F.b1,u2.F.kp,u2.m⟩;have g4 (n:Nat):=b5H (P:=P) (w:=w) (base:=base) (n:=n) u4.F T;have g5 (n:Nat):=b4J u5.F T ⟨_,vf⟩ ⟨g4 n,u4.F.b1,u4.F.kp,u4.m⟩;have g6 (n:Nat):=b4A u6.F T ⟨g5 n,u5.F.b3,u5.F.kp,u5.m⟩;have g7 (n:Nat):=b5i u7.F T ⟨_,xm⟩ ⟨g6 n,u6.F.b3,u6.F.kp,u6.m⟩;have g8 (n:Nat):=b2v u8.F T ⟨g3 (n+2),u3.F.b1,u3.F.kp,u3.m⟩ ⟨g7 n,u7.F.b1,u7.F.kp,u7.m⟩;have g9 (n:Nat):=b7S u9.F T ⟨_,ju⟩ ⟨g7 n,u7.F.b1,u7.F.kp,u7.m⟩ ⟨g6 (n+1),u6.F.b3,u6.F.kp,u6.m⟩;have g10 (n:Nat):=b2y u10.F T m6.k m6.m ⟨g8 n,u8.F.b1,u8.F.kp,u8.m⟩ ⟨g9 n,u9.F.b1,u9.F.kp,u9.m⟩;have WW (n:Nat):=b1n u11.F BX ⟨g10 n,u10.F.b1,u10.F.kp,u10.m⟩;have g12 (n:Nat):=b7u (P:=P) (w:=w) (base:=base) (n:=n) u12.F T eS.k eS.m;have g13 (n:Nat):=b4m (P:=P) (w:=w) (base:=base) (n:=n) u13.F T Js;have g14 (n:Nat):=b0B (P:=P) (w:=w) (base:=base) (n:=n) u14.F hc (hCH _ (.head _)) BM T Js;have g15 (n:Nat):=b2r (P:=P) (w:=w) (base:=base) (mg:=mg) (n:=n) u15.F Js;have g16 (n:Nat):=b2X u16.F T Js ⟨g15 n,u15.F.b4,u15.me⟩;have g17 (n:Nat):=b1w (P:=P) (w:=w) (base:=base) (n:=n) u17.F T;have g18 (n:Nat):=a6E u18.F Js ⟨g17 n,u17.F.b4,u17.F.kp,u17.m⟩;have g19 (n:Nat):=b4W (P:=P) (w:=w) (base:=base) (n:=n) u19.F T Js;have g20 (n:Nat):=b7Y (P:=P) (w:=w) (base:=base) (n:=n) u20.F T Js;have g21 (n:Nat):=a7f u21.F Js ⟨⟨bm,u13.me.1,u13.me.2,bk⟩,g13 (n+2),u13.F.b4,aB,⟨g14 n,u14.F.b1,u14.me⟩,⟨g16 (n+1),u16.F.b2,u16.me⟩,⟨g18 (n+1),u18.F.b3,u18.me⟩,⟨g19 (n+2),u19.F.b1,u19.me⟩,⟨g20 (n+2),u20.F.b1,u20.me⟩⟩;have g22 (n:Nat):=a5Z (P:=P) (w:=w) (base:=base) (n:=n) u22.F T SG;have g23 (n:Nat):=b0M u23.F T SG ⟨g21 n,u21.F.b3,u21.F.kp,u21.m⟩ ⟨g22 (n+4),u22.F.b2,u22.F.kp,u22.m⟩;have g24 (n:Nat):=b6B (P:=P) (w:=w) (base:=base) (n:=n) u24.F T;have g25 (n:Nat):=b7t u25.F T ⟨g24 n,u24.F.b2,u24.F.kp,u24.m⟩;have g26 (n:Nat):=b5C u26.F ⟨g23 n,u23.F.b3,u23.F.kp,u23.m⟩ ⟨g25 (n+4),u25.F.b2,u25.F.kp,u25.m⟩;have g27 (n:Nat):=b1g u27.F ⟨g12 (n+6),u12.F.b2,u12.F.kp,u12.m⟩ ⟨g26 n,u26.F.b3,u26.F.kp,u26.m⟩;have g28 (n:Nat):=d0i u28.F T aw ⟨g27 n,u27.F.b3,u27.F.kp,u27.m⟩;have g29 (n:Nat):=b0s u29.F bp.k bp.m ⟨g6 n,u6.F.b3,u6.F.kp,u6.m⟩;have g30 (n:Nat):=a8p u30.F T k8.k k8.m ⟨_,ju⟩ ⟨g29 n,u29.F.b3,u29.F.kp,u29.m⟩;have g31 (n:Nat):=c9b (P:=P) (w:=w) (base:=base) (n:=n) u31.F T;have g32 (n:Nat):=d0M u32.F aw ⟨g28 n,u28.F.b2,u28.me⟩ ⟨g30 (n+4),u30.F.b4,u30.F.kp,u30.m⟩ ⟨g31 (n+8),u31.F.b2,u31.F.kp,u31.m⟩;have Ta (n:Nat):=b3G u33.F ZT ⟨g2 (n+4),u2.F.b1,u2.F.kp,u2.m⟩ ⟨g8 n,u8.F.b1,u8.F.kp,u8.m⟩;have g34 (n:Nat):=b3R u34.F T FT m8.k m8.m ⟨Ta n,u33.F.b2,u33.F.kp,u33.m⟩;have g35 (n:Nat):=b3E (P:=P) (w:=w) (base:=base) (mg:=mg) (n:=n) u35.F BX bh.k bh.m;have g36 (n:Nat):=b1P (P:=P) (w:=w) (base:=base) (mg:=mg) (n:=n) u36.F;have g37 (n:Nat):=b0q u37.F ⟨g27 n,u27.F.b3,u27.F.kp,u27.m⟩ ⟨g36 (n+7),u36.F.b1,u36.F.kp,u36.m⟩;have g38 (n:Nat):=b5w (P:=P) (w:=w) (base:=base) (mg:=mg) (n:=n) u38.F zs;have g39 (n:Nat):=b0m u39.F ⟨g38 n,u38.F.b1,u38.F.kp,u38.m⟩;have g40 (n:Nat):=b2s u40.F ⟨g39 n,u39.F.b1,u39.F.kp,u39.m⟩;have g41 (n:Nat):=b2j u41.F ⟨g40 n,u40.F.b1,u40.F.kp,u40.m⟩;have g42 (n:Nat):=d0r u42.F ⟨g27 n,u27.F.b3,u27.F.kp,u27.m⟩;have g43 (n:Nat):=c9P u43.F ⟨g42 n,u42.F.b2,u42.F.kp,u42.m⟩;have g44 (n:Nat):=b2V u44.F T ⟨g21 n,u21.F.b3,u21.F.kp,u21.m⟩ ⟨g22 (n+4),u22.F.b2,u22.F.kp,u22.m⟩;have g45 (n:Nat):=b3q u45.F T ⟨g44 n,u44.F.b3,u44.F.kp,u44.m⟩;have g46 (n:Nat):=b4d u46.F ⟨g45 n,u45.F.b2,u45.F.kp,u45.m⟩ ⟨g38 (n+6),u38.F.b1,u38.F.kp,u38.m⟩;have g47 (n:Nat):=c9S u47.F T ⟨g45 n,u45.F.b2,u45.F.kp,u45.m⟩;have g48 (n:Nat):=c8P u48.F ⟨g47 n,u47.F.b2,u47.F.kp,u47.m⟩ ⟨g38 (n+7),u38.F.b1,u38.F.kp,u38.m⟩;have g49 (n:Nat):=a8I u49.F ⟨g12 n,u12.F.b2,u12.F.kp,u12.m⟩;have g50 (n:Nat):=c9V u50.F ⟨g12 (n+6),u12.F.b2,u12.F.kp,u12.m⟩ ⟨g49 (n+5),u49.F.b2,u49.F.kp,u49.m⟩ ⟨g26 n,u26.F.b3,u26.F.kp,u26.m⟩;have g51 (n:Nat):=d0m u51.F ⟨g24 n,u24.F.b2,u24.F.kp,u24.m⟩;have g52 (n:Nat):=c8K u52.F Aq (hCH _ (.tail _ (.head _))) BM T C_NOUGHT ⟨g50 n,u50.F.b3,u50.F.kp,u50.m⟩ ⟨g51 (n+6),u51.F.b1,u51.F.kp,u51.m⟩;have g53 (n:Nat):=c9J u53.F ⟨g52 n,u52.F.b2,u52.F.kp,u52.m⟩ ⟨g38 (n+11),u38.F.b1,u38.F.kp,u38.m⟩;have g54 (n:Nat):=b6K u54.F T zs ⟨g30 n,u30.F.b4,u30.F.kp,u30.m⟩;have g55 (n:Nat):=b4r u55.F bp.k bp.m ⟨g49 n,u49.F.b2,u49.F.kp,u49.m⟩;have g56 (n:Nat):=c8Y u56.F ⟨g12 (n+3),u12.F.b2,u12.F.kp,u12.m⟩ ⟨g29 n,u29.F.b3,u29.F.kp,u29.m⟩;have g57 (n:Nat):=c9G u57.F T ⟨g56 n,u56.F.b5,u56.F.kp,u56.m⟩;have g58 (n:Nat):=b4N (P:=P) (w:=w) (base:=base) (mg:=mg) (n:=n) u58.F;have g59 (n:Nat):=b6S (FA:=b8U P w K mg base 13) u59.F BX Lk Iz ⟨g34 (n+6),u34.F.b1,u34.F.kp,u34.m⟩ ⟨g35 (n+12),u35.F.b1,u35.me⟩ (λg sp h=>h n);have DWd:DW9 K Pt Pt2 bq a_ bb [("share",f37),("grow",gT_grow),("others",gT_others),("alone",tj),("scale",f43),("rim",f46),("levels",f48),("order",SR),("book",f41)] [("house",f54),("drop",f55),("alter",f57),("sizes",f58)] (b8U P w K mg base 13):=⟨rfl,rfl,rfl,rfl,rfl,rfl,⟨⟨_,rfl,λn=>⟨_,g54 (n+7),u54.F.b3,u54.F.kp⟩⟩⟩,⟨⟨_,rfl,λn=>⟨_,g55 (n+10),u55.F.b3,u55.F.kp⟩⟩⟩,⟨⟨_,rfl,λn=>⟨_,g57 (n+7),u57.F.b3,u57.F.kp⟩⟩⟩,⟨⟨_,rfl,λn=>⟨_,g58 (n+12),u58.F.b3,u58.F.kp⟩⟩⟩,⟨⟨_,rfl,λn=>⟨_,g41 (n+9),u41.F.b3,u41.F.kp⟩⟩⟩,⟨⟨_,rfl,λn=>⟨_,g37 (n+4),u37.F.b3,u37.F.kp⟩⟩⟩,⟨⟨_,rfl,λn=>⟨_,g43 (n+3),u43.F.b3,u43.F.kp⟩⟩⟩,⟨⟨_,rfl,λn=>⟨_,g46 (n+5),u46.F.b3,u46.F.kp⟩⟩⟩,⟨⟨_,rfl,λn=>⟨_,g53 n,u53.F.b3,u53.F.kp⟩⟩⟩,⟨⟨_,rfl,λn=>⟨_,g48 (n+4),u48.F.b3,u48.F.kp⟩⟩⟩⟩;have g60 (n:Nat):=b5t (P:=P) (w:=w) (base:=base) (n:=n) u60.F T;have g61 (n:Nat):=b1t (P:=P) (w:=w) (base:=base) (n:=n) u61.F T;have g62 (n:Nat):=b4E (P:=P) (w:=w) (base:=base) (n:=n) u62.F T;have g63 (n:Nat):=b3t u63.F T (g60 n) u60.F.b2 u60.F.kp u60.m (g61 n) u61.F.b3 u61.F.kp u61.m (g62 n) u62.F.b3 u62.F.kp u62.m;have g64 (n:Nat):=c8U (P:=P) (w:=w) (base:=base) (n:=n) u64.F T aw;have g65 (n:Nat):=d0o (Pt:=Pt) (P:=P) (w:=w) (base:=base) (mg:=mg) (n:=n) u65.F aw bh.k bh.m;have g66 (n:Nat):=d1X m9.F aw ⟨g28 n,u28.F.b2,u28.me⟩ ⟨g49 (n+7),u49.F.b2,u49.F.kp,u49.m⟩ ⟨g31 (n+8),u31.F.b2,u31.F.kp,u31.m⟩;have g67 (n:Nat):=c9L u67.F aw ⟨g28 n,u28.F.b2,u28.me⟩ ⟨g56 (n+4),u56.F.b5,u56.F.kp,u56.m⟩ ⟨g31 (n+8),u31.F.b2,u31.F.kp,u31.m⟩;have g68 (n:Nat):=c8V (P:=P) (w:=w) (base:=base) (n:=n) u68.F T aw;have g69 (n:Nat):=d1O u69.F aw ⟨g45 n,u45.F.b2,u45.F.kp,u45.m⟩;have g70 (n:Nat):=b7v (P:=P) (w:=w) (base:=base) (mg:=mg) (n:=n) u70.F zs;have g71 (n:Nat):=d0F u71.F T zs aw BX DWd ⟨⟨g64 (n+13),u64.F.b1,u64.me⟩,⟨g65 (n+13),u65.F.b1,u65.me⟩,⟨g66 (n+4),m9.F.b2,m9.me⟩,⟨g67 (n+4),u67.F.b3,u67.me⟩,⟨g32 (n+4),u32.F.b2,u32.me⟩,⟨g68 (n+13),u68.F.b1,u68.me⟩,⟨g69 (n+6),u69.F.b1,u69.me⟩⟩ ⟨g59 n,u59.F.b2,u59.me⟩ ⟨g70 (n+13),u70.F.b1,u70.F.kp,u70.m⟩;have g72 (n:Nat):=d1y (P:=P) (w:=w) (base:=base) (mg:=mg) (n:=n) u72.F zs;have g73 (n:Nat):=d0x u73.F T zs aw BX DWd ⟨⟨g64 (n+13),u64.F.b1,u64.me⟩,⟨g65 (n+13),u65.F.b1,u65.me⟩,⟨g66 (n+4),m9.F.b2,m9.me⟩,⟨g67 (n+4),u67.F.b3,u67.me⟩,⟨g32 (n+4),u32.F.b2,u32.me⟩,⟨g68 (n+13),u68.F.b1,u68.me⟩,⟨g69 (n+6),u69.F.b1,u69.me⟩⟩ ⟨g59 n,u59.F.b2,u59.me⟩ ⟨⟨g40 (n+11),u40.F.b1,u40.F.kp,u40.m⟩,⟨g36 (n+13),u36.F.b1,u36.F.kp,u36.m⟩,⟨g42 (n+5),u42.F.b2,u42.F.kp,u42.m⟩,⟨g72 (n+13),u72.F.b1,u72.F.kp,u72.m⟩,⟨g52 (n+2),u52.F.b2,u52.F.kp,u52.m⟩,⟨g47 (n+6),u47.F.b2,u47.F.kp,u47.m⟩⟩;exact b7G u74.F T aw BX DWd ⟨⟨km_,u1.me.1,u1.me.2,kk⟩,g1,u1.F.b4,aK_⟩ ⟨⟨ddm,u11.me.1,u11.me.2,ddk⟩,WW 7,u11.F.b2,aD⟩ ⟨g32 5,u32.F.b2,u32.me⟩ ⟨g59 1,u59.F.b2,u59.me⟩ ⟨⟨g63 13,u63.F.b4,u63.F.kp,u63.m⟩,⟨g60 14,u60.F.b2,u60.F.kp,u60.m⟩,⟨g61 14,u61.F.b3,u61.F.kp,u61.m⟩,⟨g40 12,u40.F.b1,u40.F.kp,u40.m⟩,⟨g71 0,u71.F.b4,u71.F.kp,u71.m⟩,⟨g73 0,u73.F.b3,u73.F.kp,u73.m⟩⟩
end Rim
namespace PySem.W.Fast
def tw10399376248919448293:=0
def tw10560739797174234607:=0
def tw10574191395645627884:=0
def tw10653628343965682649:=0
def tw10990247225937729366:=0
def tw11037841751179343620:=0
def tw11047002821660652020:=0
def tw11169362913236035562:=0
def tw11224257682542875674:=0
def tw11290613066462588182:=0
def tw11308461348738706282:=0
def tw11354866449150656061:=0
def tw11495668600088267807:=0
def tw1158843790427241304:=0
def tw11611288456465492019:=0
def tw11729378295831268822:=0
def tw11823685026706083580:=0
def tw11849389356268848553:=0
def tw11872776906238969178:=0
def tw12421137842979779225:=0
def tw12696207186115908776:=0
def tw13036287585169145164:=0
def tw13615213807836727038:=0
def tw13769282012572435561:=0
def tw14051828895047651853:=0
def tw14487480327098522656:=0
def tw14919418534633763531:=0
def tw15096894491927912032:=0
def tw15159358058252443476:=0
def tw1536989033412537048:=0
def tw15618007478296412701:=0
def tw15757207989036111006:=0
def tw15804408604007274052:=0
def tw15812825834003394655:=0
def tw16151583489775291312:=0
def tw16455170840896856063:=0
def tw16882014916036580981:=0
def tw16954336059068314841:=0
def tw17525255948902547720:=0
def tw17526454636489628828:=0
def tw1792795958330048994:=0
def tw1849180793452661131:=0
def tw1963234812653934131:=0
def tw2244228655833050991:=0
def tw2530599120236104945:=0
def tw2569871484407492591:=0
def tw2570086681484678814:=0
def tw2726618390769537269:=0
def tw2804340546337735988:=0
def tw3034845620719600127:=0
def tw3096409256675876640:=0
def tw3124482808263730217:=0
def tw3897317716705795101:=0
def tw4410048590562132693:=0
def tw4827349670841672575:=0
def tw5177351604695591634:=0
def tw527727080529201524:=0
def tw5667751441691898451:=0
def tw568526260561430780:=0
def tw576265892494103108:=0
def tw588790939549332040:=0
def tw5977573664681847583:=0
def tw6712840365303519768:=0
def tw6904051102518094622:=0
def tw7384974711144698611:=0
def tw8074370972286343709:=0
def tw8400189626997981871:=0
def tw8460295637175521555:=0
def tw8473146712833250886:=0
def tw8593478450252800803:=0
def tw8593892783329780115:=0
def tw8805510414279971046:=0
def tw9087315123142216774:=0
def tw9278432108640534304:=0
def tw934820150435700642:=0
def tw9542324973720664778:=0
def tw9801600030001907353:=0
def tw12739210186736882209:=0
def tw8419678726432416234:=0
def tw17476192839189181731:=0
def tw13533174203838176404:=0
def tw2594200202427510922:=0
def tw11844938105383960523:=0
def tw5478060926607810449:=0
def tw17966958040286274373:=0
def tw4877201474122332378:=0
def tw8145794624159828129:=0
def tw6321166002320024327:=0
def tw17796684566342021521:=0
def tw3327903708431083369:=0
def tw10440612923074333666:=0
def tw17560251706830686393:=0
def tw5815571825968368132:=0
def tw2080897002588257420:=0
def tw11481813551329893934:=0
def tw2470245709673772021:=0
def tw962557542447456483:=0
def tw10517587730891372415:=0
def tw6938823448157843565:=0
def tw17223347386283976974:=0
def tw5930937478057334516:=0
def tw17941938828667159156:=0
def tw13314977835855887452:=0
def tw4263495941685328623:=0
def tw9607616068624656462:=0
def tw7167001238556565101:=0
def tw8630403381197186211:=0
def tw7893859172564189437:=0
def tw8665702990623967788:=0
def tw15701500729258112024:=0
def tw11704980698545250890:=0
def tw12584967985015347246:=0
def tw14376003381240748086:=0
def tw15893384111364456616:=0
def tw2795307382375217525:=0
def tw8143849413296342212:=0
def tw4201088045842042904:=0
def tw16170837035089321975:=0
def tw463146717286066952:=0
def tw13298558192716496700:=0
def tw7026415446073710061:=0
def tw6866950815640529274:=0
def tw5088074565127807540:=0
def tw12249748784212874322:=0
def tw222890675532697912:=0
def tw13403453836784847734:=0
def tw18121789856216444360:=0
def tw10697385765983677959:=0
def tw1681526160623967990:=0
def tw683122400289402488:=0
def tw4219644711531352592:=0
def tw14206115605744039117:=0
def tw7650167164527278667:=0
def tw11141986783214172062:=0
def tw17658714313092628947:=0
end PySem.W.Fast
namespace Rim
open PySem L2 Fr
theorem walk{l:W.OpenLaw}{q:aM}{loose:List aC}{XP_:(aC->Option aE)->aJ->Prop}{YP_:aL->aJ->Prop}{d:DefRec}{K:gN->aF}{Ct Pt Ct2 Pt2:aA}(mm:Pt2≠Pt)(hn:l.most=some 63)(hdf:d.params.defaults=[])
  (hY:∀(w:aL)(h:aJ),YP_ w h->(K w.params).In h/\∀t∈[(Ct,Pt),(Ct2,Pt2)],h.get? t.2=some (oW #[]))
  (hC:∀(w:aL),∀t∈[(Ct,Pt),(Ct2,Pt2)],No (K w.params) t.1 t.2=true/\(K w.params).lookup t.2=none)
  (F:∀(w:aL)(mg:aC->Option aE)(fa:aA)(h:aJ),(K w.params).In h->h.Ns mainGlobals mg->mg d.name=some (.ref fa) →
   ∃fd:aK,(∀(s:aG)(u:aE),lU s fd ⟨[u],[]⟩ [("script",u)])/\∀base:aJ,(K w.params).In base->base.Ns mainGlobals mg->QO mg base->(∀t∈[(Ct,Pt),(Ct2,Pt2)],oV base t.1 t.2)->bf l.prog w (K w.params) mg base J8 16 fa fd ["script"] (b6r (K w.params) Pt Pt2)) :
  W.WalkO q loose XP_ YP_ l.row.toRowW d [] (λf vs=>Fa f vs) :=
 L2.aao (n:=63) (k:=16) (x:="script") (Ts_:=[(Ct,Pt),(Ct2,Pt2)]) (CX:=λ_=>J8) (sp:=λw=>b6r (K w.params) Pt Pt2) hn (by decide) hdf ⟨rfl,by decide,by decide⟩ hY hC F (λ_ _ a ns hl hT hS=>⟨a,ns,rfl,hS,hl,.inl (hT _ (.head _)),.inl (hT _ (.tail _ (.head _))),mm,λ_=>rfl⟩) λ_ _ _ _ _ z=>z
end Rim
open PySem PySem.W PyProof.Rows
set_option maxRecDepth 100000 in
set_option maxHeartbeats 0 in
theorem PySem.Challenge.cw_rimhouse_k39_whole_desks_and_kept_holds : PySem.Challenge.rw_rimhouse_k39_whole_desks_and_kept.Holds := by
  w_on;o_law;km_head;(case hw=>w_witness2)
  k_fill
  refine' Rim.walk (l:=PySem.Challenge.rw_rimhouse_k39_whole_desks_and_kept) (Ct:=_) (Pt:=229) (Ct2:=_) (Pt2:=424) (by decide) rfl rfl ?Y ?C ?F
  case Y=>exact λw h Y=>⟨W.km_in_of Y,λt ht=>by
    rcases bH.mp ht with rfl|ht
    . exact W.km_tabs_of Y _ (.tail _ (.head _))
    . rw[cJ.mp ht];exact W.km_tabs_of Y _ (.head _)⟩
  case F =>
    intro w mg fa h KX G hmg;apply Rim.c1a hmg
    (case aK_|aD|aB=>(refine' mg_of KX G ?_;k_is))
    (case u2|u3|u4|u5|u6|u7|u8|u9|u10|u12|u17|u21|u22|u23|u24|u25|u26|u27|u29|u30|u31|u33|u34|u36|u37|u38|u39|u40|u41|u42|u43|u44|u45|u46|u47|u48|u49|u50|u51|u52|u53|u54|u55|u56|u57|u58|u60|u61|u62|u63|u70|u71|u72|u73|u74=>(refine' L2.fnJ KX G ?a ?l ?c ?k;(case a|l|c|k=>k_is)))
    (case u1|u11|u13|u14|u15|u16|u18|u19|u20|u28|u32|u35|u59|u64|u65|m9|u67|u68|u69=>(refine' L2.meJ ?a ?n ?l ?c ?k;(case a|n|l|c|k=>k_is)))
    (case hc|Aq=>exact rfl)
    (case T=>(constructor<;>(refine' mg_none_of KX G ?_;k_is)))
    (case Js=>(refine'⟨⟨?_,?_,?_,?_⟩,?_,?_,?_,?_,?_⟩<;>(first|k_is|(unfold L2.dg;k_is))))
    (case bm|bk=>k_is)
    (case aw=>(refine'⟨⟨?_,?_,?_,?_⟩,?_,?_,?_,?_,?_,?_⟩<;>(first|k_is|(unfold L2.dg;k_is))))
    (case km_|kk=>k_is)
    (case BX=>(refine'⟨⟨?_,?_,?_,?_⟩,?_,?_,?_⟩<;>(first|k_is|(unfold L2.dg;k_is))))
    (case ddm|ddk=>k_is)
    (case Lk|Iz=>(refine' L2.tabJ KX G ?a ?b ?c ?d ?e;(case a|b=>k_is);(case c=>k_keys);(case d=>(repeat(first|exact .nil|refine' .cons (b:=(_,_)) ⟨_,rfl,rfl⟩ ?_)));(case e=>exact rfl)))
    (case FT=>(refine'⟨L2.tabJ KX G ?a ?b ?c ?d ?e,?fp⟩;(case a|b=>k_is);(case c=>k_keys);(case d=>(repeat(first|exact .nil|refine' .cons (b:=(_,_)) ⟨_,rfl,rfl⟩ ?_)));(case e=>exact rfl);(case fp=>repeat(first|exact .nil|(refine' .cons (a:=(_,_)) ⟨rfl,L2.tpJ ?l ?s ?v⟩ ?_;(case l=>k_is);(case s=>decide);(case v=>(repeat(first|exact .nil|refine' .cons ⟨_,rfl⟩ ?_))))))))
    (case ZT=>(refine'⟨mg_of KX G ?a,L2.tpJ ?l ?s ?v⟩;(case a=>k_is);(case l=>k_is);(case s=>decide);(case v=>(repeat(first|exact .nil|refine' .cons ⟨_,rfl⟩ ?_)))))
    (case CF=>(refine' mg_of KX G ?_;k_is))
    (case zs=>(refine' mg_none_of KX G ?_;k_is))
    (case SG=>(refine'⟨mg_of KX G ?a,L2.kdJ ?b ?c,?d⟩;(case a|b=>k_is);(case c=>k_keys);(case d=>rintro z (rfl|rfl|rfl|rfl)<;>(refine' L2.sgJ ?a ?l ?s ?v;(case a=>k_is);(case l=>k_is);(case s=>decide);(case v=>(repeat(first|exact .nil|refine' .cons ⟨_,rfl⟩ ?_)))))))
    (case eS|bp|k8|bh|m8|m6=>(refine'⟨mg_of KX G ?a,L2.exK ?b ?c ?d ?e ?f ?g⟩;(case a|c|d|e|f|g=>k_is);(case b=>k_exc)))
    (case vf|ju|uf|xm=>(refine' mg_of KX G ?_;k_is))
    (case C_NOUGHT=>(refine'⟨mg_of KX G ?a,L2.tpJ ?l ?s ?v⟩;(case a=>k_is);(case l=>k_is);(case s=>decide);(case v=>(repeat(first|exact .nil|refine' .cons ⟨_,rfl⟩ ?_)))))
  case C=>exact λw t ht=>(bH.mp ht).elim (λz=>by subst z;exact⟨by kernel_rfl,by kernel_rfl⟩) (λz=>by rw[cJ.mp z];exact⟨by kernel_rfl,by kernel_rfl⟩)
